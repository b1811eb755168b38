import PyProof.Rows.All
import Wide.All
import OpenK.AllK
import Wide.FinOn
import Lean
import PyProof.EqAt
import PyProof.EqKinds
import PyProof.TupleCall
import PySem.Challenge.RW_trussel_k13_stands_reached
set_option Elab.async false
set_option linter.all false
set_option maxRecDepth 100000
set_option maxHeartbeats 4000000
set_option genInjectivity false
set_option bootstrap.genMatcherCode false
set_option genSizeOf false
local macro_rules|`(def $i:declId $s:optDeclSig $v:declVal)=>`(noncomputable def $i:declId $s:optDeclSig $v:declVal)
structure PySem.W.Fast:Prop where(tw11971398597485599875 tw738546965747567822 tw12245306067242470063 tw17193036996972149958 tw11057471744443031087 tw11325534242428702623 tw12507095567795610473 tw836851511091668431 tw521610207312446073 tw13607963168087631654 tw14156648866417669682 tw16872861659487945865 tw10588215740458816744 tw13933273521612573421 tw13424416574436451062 tw4346784012171408569 tw15297884394472318757 tw138992352345922948 tw1035350474689321083 tw10285177745495458659 tw5852987875145338402 tw3143708064576393001 tw6564207501593258911 tw1543776604144516294 tw1434730629535856790 tw13336918693635903500 tw10179434830964403232 tw2992588337643525358 tw12613709522018610210 tw12347986802806935577 tw14220072716933296912 tw13715806925079693386 tw331503927286802940 tw11858729267329733935 tw11998190757792798857 tw15802018586336475300 tw18387123365389153872 tw5003483150336929376 tw13883596513388797133 tw2934720368365952037 tw2466942985105015659 tw8789922567239318641 tw4080602781528996365 tw3048071329685488960 tw9551781394200697356 tw14190584908462718537 tw9570653841510695075 tw14942122795405068508 tw11829164377763907608 tw17740881926741909509 tw10880959846298504210 tw4259118258453199852 tw6797242583869110851 tw17907565205206370069 tw9350357425261384682 tw13672906726370653236 tw5457509895323451465 tw11494219236841247844 tw11473603431918211824 tw4176865515240197186 tw11872357861992560634 tw10768378916679430920 tw6646442869574202647 tw7562775128958781156 tw9038460582910501665 tw4331371439063235838 tw1299102521372829175 tw8095137192710182802 tw595170527522759726 tw2154444285735532970 tw3490943920343870826 tw4121620544851280644 tw3012220165872186414 tw10548905393927305867 tw5255250243008598614 tw965254803865073589 tw895075488079038613 tw8225049823816919589 tw15016726256219034087 tw11488978846013906663 tw13883265832203773396 tw16958558146945177489 tw10047787342478296524 tw10703378544983176649 tw16478838457539565507 tw13583985331397373801 tw1562931783441677391 tw4777825754386693334 tw3653794062217103415 tw4981029484886623669 tw7238249904709359323 tw3730425105694571306 tw18223186255353240730 tw5260406276628037136 tw8321737663543723482 tw1195197502819689264 tw5185984524108006908 tw17985163913943595570 tw2077316253091569570 tw14827375924853802783 tw13605243682990249467 tw10613252913443528216 tw7079424316217141056 tw5711326271884161794 tw7520268217352942196 tw16222543155468854227 tw10599595990162153463 tw9746145309475852423 tw4106709399189206495 tw14881820085304720399 tw1762537559126233595 tw11201480576410634631 tw6092388312160607741 tw1384089378782319287 tw14955506900175049040 tw13400426137582033586 tw9420560363605483101 tw1221331368595604312 tw12412002087992171974 tw12481730023166634292 tw8752513851054647056 tw7410204205934022294 tw3031764063679517296 tw14111939760498536578 tw7237912432354971564 tw8989444090284199828 tw2551928897313944066 tw8614448841031268726 tw15979210803252184191 tw9685106586459414738 tw10729089050604084277 tw10822965242809320224 tw13051699839671492082 tw13626011402610961613 tw8742289353108888469 tw7461067390416968584 tw16726522341176780127 tw18215912477012188382 tw15216654147439802239 tw8926208672346537291 tw8309538429543765172 tw16850861334213990719 tw8334174184308585001 tw10685465261347279641 tw6119001865683435125 tw7560034045513482084 tw6993215401927238031 tw12799578706100049440 tw9746353841928434617 tw11087801450740181876 tw9135429584930865226 tw378168650370394332 tw11672682177774816192 tw7087629590918703892 tw2449485882356789249 tw10918849568234656776 tw8146599404493877651 tw6750606951051770837 tw2529672475671006799 tw14341997926047773024 tw5005572472009886590 tw9334794855248806315 tw4142793494370608876 tw17213672317443655304 tw4709095213774775896 tw9720072153105480953 tw13753936237267707551 tw15650895848240681048 tw8139432805143996329 tw3344244289689866971 tw7394641343755847372 tw3909994461033538828 tw948770491714809857 tw12381584712210603868 tw18035781690788427422 tw1942502037372130329 tw3724792311184362255 tw16447857983367748194 tw15464191047657454505 tw517961784250481598 tw3416082181782993313 tw1913802867931842984 tw2818766349292290180 tw12946765872289394799 tw7786967334679847022 tw10499707028515578713 tw3173001423029111169 tw10283146305465711731 tw10916960476244913608 tw1887259488814568077 tw3759006864514293909 tw17675210820335504789 tw16007805793699155611 tw12510425305139214436 tw5174493851343729092 tw12615865031219766594 tw10489465197117496849 tw6721097443095613112 tw5435009556506911140 tw2984376422546111401 tw1908827710434428831 tw18055800614355017104 tw3162990332594793570 tw12942427184478744685 tw9365547627114243034 tw7735546042292481899 tw16798516262830660239 tw4089364054562261801 tw11973036267270757553 tw7723459577492419275 tw13171919675913593339 tw17989105709554657987 tw7866309972789844280 tw8339585045929774565 tw8023008469792527398 tw13605029872093682657 tw2651857228592233235 tw7353115469780355919 tw11000791904465889 tw5361052759396323668 tw18255446410069594758 tw3872708422198724108 tw12361793723293327162 tw3871295816400623296 tw8847254599898009781 tw923072925542730409 tw3916569404575686025 tw10562131574051940015 tw17215769563670112078 tw13213414136492757907 tw7845896926148743419 tw1016766523641767355 tw2557005599956325713 tw12960854005140988505 tw4207941088694043369 tw3059110354659361251 tw10596630695991461967 tw16737288520716761757 tw361786070975110780 tw13451213901493044756 tw11761216990377604067 tw12356104068331096333 tw1406775470017357659 tw13594957279736927349 tw6052939502803501254 tw16424502742001833417 tw5846833519295245424 tw7150530494725872444 tw9034568369071711203 tw8388173759359102248 tw4400081214483698105 tw946041721849888782 tw5649215620056859892 tw2231332345480633978 tw17978349940397486786 tw3931843616033323455 tw14810335035898182705 tw17769485853715162920 tw11243985994404724402 tw1207097303898070172 tw8631809173122902292 tw13304837769066203588 tw1523138806978572224 tw2689258070423181249 tw7033189780036667655 tw17572239157945413916 tw13596662091631482005 tw598518570957583243 tw6717736669112563027 tw13899981916809642167 tw9238121463558007945 tw10689646437063330603 tw16422427399154964881 tw553701740357136086 tw17115933269861585312 tw6523985478354227410 tw168171663571974482 tw4978949778782136285 tw14152282718156518420 tw1343662543128594551 tw8048229351156948940 tw7092962302906671558 tw11325741021607690528 tw7866410673667218136 tw728116975180087268 tw2086167892429459123 tw3524636569131147634 tw15686325467950210575 tw9357207290480129640 tw17896916708776828427 tw18210875526047818864 tw1121612631627460536 tw17225558244271474663 tw16945022199826574865 tw9674012979996994408 tw16363390999859773326 tw13326541165349161041 tw5172131866139808784 tw14090669224518329273 tw10503971837597457505 tw3205767847876551753 tw9983088768431280015 tw10629569102416119706 tw8396530642692342008 tw8070019450912065367 tw12759629707860165897 tw11172399580106253353 tw9016106238853106895 tw4933956250312943136 tw2661220721551371199 tw1862271741676863178 tw6468826429543044733 tw6743035540675924257 tw6866563065069729579 tw11810200775066159339 tw2733462951340952837 tw18276635639308195342 tw14136537065680473676 tw17452048411861646126 tw8043150457864728329 tw1580098034923045735 tw4405584448383852084 tw13020930484092213697 tw6570874711644484275 tw5049829552012524266 tw12717216121152318479 tw11842970219130450762 tw3355809885896066285 tw17724071898513956377 tw9901592440391448913 tw8510971039606031209 tw5169525661743151670 tw197501611915448982 tw8179380721252945419 tw956089430902265952 tw16660789597218908246 tw13548982964352142204 tw5350054666959963118 tw4230169434210914218 tw13114793703747281402 tw6604974319247118866 tw6213957499083676846 tw16060239666336272216 tw5700014769675474064 tw5762453375962606574 tw7946291115973800926 tw17234556972235829764 tw6807330440833251679 tw3772333740441143728 tw8583292960821981163 tw268040494344528417 tw15273358611404500372 tw18415169827398123078 tw1487477796091351018 tw15227150807461179535 tw2742278879032098970 tw5799384022959643530 tw9281596600092070549 tw9828822716744203461 tw1283881384632619844 tw18160059586461360080 tw10390521539955986831 tw1865549567237287512 tw1595942557680696009 tw17845243394436948484 tw14113583558203833866 tw9877593380864034976 tw1400695718599566013 tw13349584386160255686 tw15566248139223823092 tw6677325726855269446 tw17983090054893847635 tw1738394691431860600 tw16959499837954909708 tw5886113579892552010 tw16961786234299957759 tw2903645301946766312 tw16510464805654390551 tw16744687406952844155 tw344651439510544303 tw17116133287434944199 tw14401942520355762318 tw10951889602156265633 tw10199865522699398348 tw6743268481404579193 tw15606726984703102602 tw4056348898987774871 tw5848950526730073695 tw5247092599083358278 tw11009582615488378072 tw5999647898895987672 tw4521809053047514883 tw15501882743904275953 tw2871480784750889076 tw81778946987533121 tw7100081023182017703 tw4045675430467692118 tw3697049990325076700 tw14103521563837456865 tw13147371304213879461 tw7784079516016809805 tw6861030528630932867 tw16857735490845216688 tw3397249951378249608 tw5277737555477037425 tw6744681214316514429:True)
namespace _X
local macro_rules|`(tactic|omega)=>`(tactic|lia)
def EF:=@PySem.wpAny_binaryOp_repeat_ref
def EG:=@PySem.W.hideAll_get
def EH:=@List.reverse_append
def EI:=@List.mergeSort_perm
def EJ:=@List.mem_map_of_mem
def EK:=@List.length_pos_iff
def EL:=@PySem.Calls.call_function_entry
def Lf:=@PySem.wpAny_newList
def Lg:=@PySem.wpAny_attempt
def Lh:=@PySem.seq_tuple_add
def Li:=@PySem.W.of_hideAll
def Lj:=@PySem.W.kitx_tuple
def Ll:=@PySem.W.callWith_K
def Lm:=@Nat.mod_lt
def Ln:=@List.getElem?_take
def Lo:=@Int.natCast_nonneg
def Lp:=@Int.natAbs_natCast
def Lq:=@Array.append_assoc
def aA:=@decide_eq_true
def aB:=@PySem.Heap.lt_size
def aC:=@if_neg
def aD:=@PyProof.Rows.wpS_pure
def aE:=@List.mem_cons
def aF:=@PySem.Heap.get?_push_size
def aG:=@decide_eq_false
def aH:=@List.size_toArray
def aI:=@Nat.le_trans
def aJ:=@if_pos
def aK:=@Nat.ne_of_lt
def aL:=@List.getElem?_append_left
def aN:=@List.mem_of_getElem?
def aO:=@List.mem_append_right
def aP:=@Option.some.inj
def aQ:=@PySem.mem_of_lookup
def aR:=@List.pairwise_append
def aS:=@List.mem_append
def aT:=@List.mem_map
def aU:=@List.any_eq_true
def aV:=@List.getElem?_eq_none
def aW:=@Bool.and_eq_true
def aY:=@List.getElem?_set_self
def aZ:=@Bool.eq_iff_iff
def aa:=@PySem.wpAny_bind
def ae:=@Option.map_eq_some_iff
def ag:=@Option.bind_eq_some_iff
def ai:=@List.length_map
def aj:=@PySem.wpAny_pure
def ak:=@List.getElem?_eq_getElem
def ao:=@List.getElem?_map
def au:=@PySem.Heap.get?_push_of_some
def av:=@Nat.le_refl
def aw:=@List.getElem?_eq_some_iff
def ax:=@List.getElem?_set_ne
def ay:=@Nat.lt_of_lt_of_le
def az:=@PyProof.Rows.wpS_bind
def bA:=@List.map_map
def bC:=@PySem.Heap.get?_update_self
def bD:=@List.mem_iff_getElem
def bE:=@List.mem_cons_of_mem
def bH:=@Nat.lt_irrefl
def bI:=@PySem.wpAny_mono
def bJ:=@List.mem_filter
def bK:=@List.take_append_drop
def bL:=@List.append_assoc
def bP:=@PyProof.Rows.slot_tuple_getitem
def bR:=@List.take_succ
def bS:=@Array.perm_iff_toList_perm
def bT:=@PySem.W.mg_of
def bU:=@PySem.W.kia_one
def bV:=@Nat.ne_of_gt
def bW:=@List.take_length
def bY:=@PySem.Obj.data_mapFields
def bf:=@List.mem_singleton
def bh:=@of_decide_eq_true
def bj:=@List.length_append
def bp:=@List.mem_range
def br:=@Array.toList_append
def bt:=@Array.length_toList
def bu:=@List.map_cons
def bw:=@List.mem_append_left
def bz:=@beq_iff_eq
def cA:=@PySem.wpAny_newObj_type
def cB:=@Nat.zero_le
def cC:=@List.getElem_mem
def cE:=@PyProof.Rows.callWith_type1
def cG:=@PySem.wpAny_call_entry
def cH:=@decide_eq_true_eq
def cI:=@List.ext_getElem?
def cJ:=@Int.toNat_natCast
def cK:=@List.getElem?_range
def cL:=@Nat.le_succ
def cM:=@PySem.wpAny_truthy_bool
def cN:=@PySem.wpAny_setState_of
def cO:=@List.mem_cons_self
def cP:=@List.lookup_cons
def cQ:=@List.all_eq_true
def cU:=@Bool.or_eq_true
def cV:=@Nat.lt_trans
def cW:=@List.take_of_length_le
def cX:=@PySem.wpAny_rule
def cY:=@List.length_take
def cZ:=@Nat.lt_of_le_of_lt
def cb:=@PySem.wpAny_holding
def cj:=@List.replicate_succ
def cw:=@getElem?_pos
def cx:=@Ne.symm
def cy:=@Int.le_of_lt
def cz:=@PySem.Heap.SameBut.update
def dA:=@Array.toList_extract
def dC:=@PyProof.Rows.wpS_forRange
def dD:=@beq_eq_false_iff_ne
def dE:=@decide_eq_false_iff_not
def dF:=@List.length_cons
def dJ:=@List.eq_nil_of_length_eq_zero
def dM:=@Int.le_refl
def dN:=@decide_eq_true_iff
def dO:=@PySem.W.cellsFrom_some
def dP:=@Int.emod_lt_of_pos
def dU:=@List.nodup_cons
def dW:=@List.map_append
def dZ:=@List.Perm.append_left
def de:=@List.append_nil
def dh:=@PySem.wpAny_Call_Name_kw
def dj:=@List.nodup_append
def dw:=@List.mem_of_mem_take
def dy:=@List.flatten_cons
def dz:=@Array.toList_push
def eB:=@PySem.Heap.get?_update_other
def eF:=@List.getElem?_append_right
def eI:=@PySem.wpAny_standAt
def eK:=@PySem.Obj.isFreed_of_fields
def eL:=@Nat.le_of_lt
def eO:=@Int.zero_add
def eP:=@List.pairwise_iff_getElem
def eQ:=@List.getElem?_eq_none_iff
def eR:=@List.drop_eq_getElem_cons
def eU:=@PyProof.Rows.F.plain_set_update_loop
def eV:=@List.filterMap_cons
def eX:=@PySem.wpAny_setField
def eY:=@PySem.wpAny_of_eq
def eZ:=@Option.isSome_iff_exists
def ei:=@Array.getElem_eq_getD
def et:=@Array.getElem?_toList
def fA:=@List.Perm.append_right
def fB:=@Int.le_trans
def fE:=@PySem.codeAny_builtin
def fG:=@PySem.tupleKind_room_in1
def fI:=@PySem.wpAny_callSpecial?_slot
def fJ:=@Nat.lt_succ_self
def fK:=@List.mem_reverse
def fR:=@List.any_cons
def fS:=@Array.toList_reverse
def fb:=@PySem.Heap.size_push
def fc:=@PySem.Around.under_plainId
def fg:=@List.find?_cons
def fh:=@Int.emod_nonneg
def fi:=@PySem.wpAny_typeOf
def fj:=@List.pairwise_cons
def fk:=@List.filter_append
def fm:=@Bool.false_ne_true
def fu:=@List.getElem?_replicate
def fx:=@congrArg
def fy:=@PyProof.Rows.boot_list
def fz:=@Nat.le_of_eq
def gB:=@List.length_eraseIdx_of_lt
def gC:=@List.drop_drop
def gD:=@Int.not_lt
def gO:=@PySem.wpAny_passesOwn
def gT:=@Nat.lt_trichotomy
def gU:=@List.reverse_cons
def gW:=@List.pairwise_map
def gX:=@Array.size_append
def gZ:=@PySem.codeAny_mono
def gs:=@PySem.intKind_is
def hJ:=@PySem.F.args_tuple_add_2
def hU:=@PyProof.Rows.boot_sorted
def iJ:=@PySem.F.slot_tuple_add
def iK:=@Nat.lt_or_ge
def iL:=@List.set_set
def iM:=@List.length_pos_of_mem
def iW:=@PySem.wpAny_pyIter_list
def iX:=@PySem.sizeLine_eq
def iY:=@List.range_succ
def iZ:=@Array.size_push
def ik:=@PySem.isSubtype_type
def ir:=@PySem.F.entry_tuple_add
def jA:=@PySem.wpAny_isInstance
def jB:=@List.Perm.refl
def jH:=@PyProof.Rows.size_push'
def jI:=@PyProof.Rows.K_mirror_equal
def jV:=@PySem.call_meets
def jW:=@PyProof.Rows.F.entry_set_update_loop
def jX:=@List.map_congr_left
def je:=@PySem.wpAny_comprehension_free
def jf:=@PySem.F.slot_dict_get
def jg:=@Nat.eq_of_beq_eq_true
def jh:=@List.perm_append_comm
def ji:=@List.pairwise_reverse
def jj:=@List.mem_iff_getElem?
def jk:=@List.length_singleton
def jl:=@List.length_filter_le
def kA:=@List.mem_filterMap
def kB:=@List.find?_eq_none
def kR:=@List.findIdx?_eq_some_iff_getElem
def kY:=@Option.isSome_map
def kZ:=@Nat.mul_comm
def km:=@PySem.F.slot_int_rmul
def kx:=@PySem.builtinLookup_eq_fast
def ky:=@Nat.one_le_two_pow
def kz:=@Nat.not_lt
def lE:=@PySem.putSet_of
def lF:=@List.eraseIdx_eq_take_drop_succ
def lS:=@decide_eq_decide
def lT:=@List.not_mem_nil
def lU:=@List.length_drop
def lV:=@List.getElem_inj
def lg:=@Nat.lt_succ_of_lt
def lh:=@List.reverse_perm
def lp:=@List.length_range
def lq:=@List.find?_append
def lr:=@List.any_map
def mB:=@PyProof.Rows.wpS_modify
def mD:=@PyProof.Rows.wpS_get
def mE:=@PySem.plainId_quiet
def mF:=@PySem.Paired.length
def mT:=@PySem.typeIs_int
def mU:=@List.of_mem_zip
def mV:=@List.foldl_cons
def mW:=@Array.Perm.refl
def oi:=@PySem.Value.isInt_shape
def oj:=@PySem.Obj.cls_mapFields
def om:=@List.perm_ext_iff_of_nodup
def oo:=@List.nodup_nil
def oq:=@Array.getElem?_eq_some_iff
def pb:=@PyProof.Rows.wpS_lift
def pe:=@List.mem_or_eq_of_mem_set
def ph:=@Array.getElem?_eq_getElem
def qi:=@PySem.wpAny_askSetting
def qj:=@PySem.noFill_tuple_add
def qk:=@List.getElem?_take_of_lt
def ql:=@PySem.F.slot_tuple_mul
def qm:=@Bool.true_and
def qo:=@Bool.false_or
def sA:=@PySem.F.args_dict_get_3
def sC:=@PyProof.Rows.boot_tuple
def sD:=@List.pairwise_mergeSort
def sE:=@List.getElem?_cons_succ
def sv:=@PySem.F.plainAttrs_list
def uc:=@PySem.typeLookup_type
def ud:=@PySem.codeAny_of_tree
def ue:=@PySem.F.entry_dict_get
def uf:=@Nat.pow_succ
def ug:=@List.pairwise_lt_range
def uh:=@List.map_nil
def ui:=@List.filter_eq_nil_iff
def uj:=@List.drop_eq_nil_of_le
def uk:=@Bool.not_not
def uo:=@Array.getElem?_eq_none
def xb:=@PyProof.Rows.assignInOrder_cons
def xc:=@PyProof.Rows.boot_set
def xf:=@PyProof.Rows.boot_int
def xg:=@Nat.or_mod_two_eq_one
def xh:=@List.length_replicate
def zA:=@List.mem_of_mem_drop
def zB:=@List.getElem?_append
def zC:=@PySem.Calls.Name_function_global
def zx:=@Prod.ext
def zy:=@Nat.pow_lt_pow_right
def zz:=@Nat.pow_le_pow_right
namespace L2
open PySem PySem.Spec PyProof.Rows
noncomputable abbrev Key:=Sum Int Str
def sj:Key->Value->Bool
 |.inl k,v=>Value.isInt k v
 |.inr x,v=>Value.isStrOf x v
def UY(w:World):Key->Int
 |.inl k=>hashInt k
 |.inr x=>hashStr w x
theorem u6:∀{k:Key} {v:Value},sj k v=true->(∃i t,k=Sum.inl i/\v=Value.int i t)\/(∃x t,k=Sum.inr x/\v=Value.str x t)
 |.inl i,v,h=>by
  obtain⟨t,e⟩:=oi (k:=i) (v:=v) h;exact .inl ⟨i,t,rfl,e⟩
 |.inr x,v,h=>by
  obtain⟨t,e⟩:=Value.isStrOf_shape (x:=x) (v:=v) h;exact .inr ⟨x,t,rfl,e⟩
theorem Ym(i:Int)(t:Tok):sj (.inl i) (.int i t)=true:=by simp[sj,Value.isInt]
theorem Yn(x:Str)(t:Tok):sj (.inr x) (.str x t)=true:=by simp[sj,Value.isStrOf]
theorem Qc(a b:Int):decide ((Sum.inl a:Key)=Sum.inl b)=(a==b):=by
 by_cases e:a=b
 ·subst e;simp
 ·have h:¬(Sum.inl a:Key)=Sum.inl b:=λq=>e (Sum.inl.inj q);rw[aG h];exact(dD.mpr e).symm
theorem Qg(a b:Str):decide ((Sum.inr a:Key)=Sum.inr b)=decide (a=b):=by
 by_cases e:a=b
 ·subst e;simp
 ·have h:¬(Sum.inr a:Key)=Sum.inr b:=λq=>e (Sum.inr.inj q);rw[aG h,aG e]
theorem Qe(a:Int)(b:Str):decide ((Sum.inl a:Key)=Sum.inr b)=false:=aG (λq=>nomatch q)
theorem Qf(a:Str)(b:Int):decide ((Sum.inr a:Key)=Sum.inl b)=false:=aG (λq=>nomatch q)
def q9(prog:Program)(w:World):PySem.KeyKind prog w Key where
 is:=sj
 hash:=UY w
 inj:=λv a b ha hb=>by
  rcases u6 ha with⟨i,t,rfl,rfl⟩|⟨x,t,rfl,rfl⟩
  ·rcases u6 hb with⟨j,u,rfl,e⟩|⟨y,u,rfl,e⟩
   ·injection e with e1 _;rw[e1]
   ·exact nomatch e
  ·rcases u6 hb with⟨j,u,rfl,e⟩|⟨y,u,rfl,e⟩
   ·exact nomatch e
   ·injection e with e1 _;rw[e1]
 byValue:=λk v h=>by
  rcases u6 h with⟨i,t,rfl,rfl⟩|⟨x,t,rfl,rfl⟩<;>rfl
 pyHash:=λhv h=>by
  rcases u6 hv with⟨i,t,rfl,rfl⟩|⟨x,t,rfl,rfl⟩
  ·exact wpAny_pyHash_int h
  ·exact wpAny_pyHash_str h
 eqBool:=λhu hv h=>by
  rcases u6 hu with⟨i,t,rfl,rfl⟩|⟨x,t,rfl,rfl⟩
  ·rcases u6 hv with⟨j,u,rfl,rfl⟩|⟨y,u,rfl,rfl⟩
   ·rw[Qc] at h;exact wpAny_eqBool_int h
   ·rw[Qe] at h;exact SeqAt.EqAt.int_str i t y u _ _ _ _ h
  ·rcases u6 hv with⟨j,u,rfl,rfl⟩|⟨y,u,rfl,rfl⟩
   ·rw[Qf] at h;exact SeqAt.EqAt.str_int x t j u _ _ _ _ h
   ·rw[Qg] at h;exact wpAny_eqBool_str h
 «strs»:=λk x t v h=>by
  rcases u6 h with⟨i,u,rfl,e⟩|⟨y,u,rfl,e⟩
  ·exact nomatch e
  ·injection e with e1 _;subst e1;cases v<;>rfl
theorem ZX(prog:Program)(w:World)(i:Int)(t:Tok):(q9 prog w).is (.inl i) (.int i t)=true:=Ym i t
theorem ZY(prog:Program)(w:World)(x:Str)(t:Tok):(q9 prog w).is (.inr x) (.str x t)=true:=Yn x t
set_option genInjectivity true in
inductive V where
 |bN|bl (b:Bool)|int (i:Int)|str (x:Str)|lO (b:Array UInt8)|rL (b:UInt64)|ref (a:Addr)|ty (n:String)
 deriving DecidableEq
def RelV:V->Value->Prop
 |.bN,u=>u=Value.none
 |.bl b,u=>u=Value.bool b
 |.int i,u=>∃t,u=Value.int i t
 |.str x,u=>∃t,u=Value.str x t
 |.lO b,u=>∃t,u=Value.bytes b t
 |.rL b,u=>∃t,u=Value.float b t
 |.ref a,u=>u=Value.ref a
 |.ty n,u=>u=Value.type n
noncomputable abbrev Vals:List V->List Value->Prop:=Paired RelV
theorem Vals.length{xs:List V}{us:List Value}(r:Vals xs us):xs.length=us.length:=mF r
theorem Vals.get:∀{xs:List V} {us:List Value} {i:Nat} {x:V},Vals xs us->xs[i]?=some x->∃u,us[i]?=some u/\RelV x u
 |_,_,_,_,.nil,e=>by simp at e
 |_,_,0,_,.cons r _,e=>by simp at e;subst e;exact⟨_,rfl,r⟩
 |_,_,i+1,x,.cons _ t,e=>by
  obtain⟨u,h1,h2⟩:=Vals.get (i:=i) (x:=x) t (by simpa using e);exact⟨u,by simpa using h1,h2⟩
theorem Vals.set{x:V}{u:Value}(r:RelV x u):∀{xs:List V} {us:List Value} (i:Nat),Vals xs us->Vals (xs.set i x) (us.set i u)
 |_,_,_,.nil=>.nil
 |_,_,0,.cons _ t=>.cons r t
 |_,_,i+1,.cons q t=>.cons q (Vals.set r i t)
theorem Vals.append{xs ys:List V}{us ws:List Value}(h:Vals xs us)(s:Vals ys ws):Vals (xs++ys) (us++ws):=by
 induction h with
 |nil=>exact s
 |cons r t ih=>exact .cons r ih
theorem Vals.take:∀{xs:List V} {us:List Value} (n:Nat),Vals xs us->Vals (xs.take n) (us.take n)
 |_,_,0,_=>.nil
 |_,_,_+1,.nil=>.nil
 |_,_,n+1,.cons r t=>.cons r (Vals.take n t)
theorem Vals.drop:∀{xs:List V} {us:List Value} (n:Nat),Vals xs us->Vals (xs.drop n) (us.drop n)
 |_,_,0,r=>r
 |_,_,_+1,.nil=>.nil
 |_,_,n+1,.cons _ t=>Vals.drop n t
def F1:Option V->Option Value->Prop
 |some v,some u=>RelV v u
 |none,none=>True
 |_,_=>False
def KV{κ:Type}:List (κ×V)->List (κ×Value)->Prop:=Paired λ(p:κ×V) (q:κ×Value)=>p.1=q.1/\RelV p.2 q.2
def kV:Key->V
 |.inl i=>.int i
 |.inr x=>.str x
inductive HO where
 |lst (xs:List V)
 |tup (xs:List V)
 |dK (kvs:List (Key×V))|dT (kvs:List (List Key×V))
 |set (S:Int->Bool) (n:Nat)
 |ins (C dx:Addr) (fs:List (Str×V))
 |own (x:Addr)
 |xd (fs:List (Str×V))
 |met (f x:Addr)
 |mK (lo hi:Int)
 |kj (o:Obj) (u:HO)
 |mJ (ps:Array Value)
 |ext (φ:Heap->Prop)
noncomputable abbrev Hp:=Addr->Option HO
def upd(H:Hp)(a:Addr)(o:HO):Hp:=λb=>if b=a then some o else H b
theorem u3{H:Hp}{a:Addr}{o:HO}:upd H a o a=some o:=by unfold upd;rw[aJ rfl]
theorem f9{H:Hp}{a b:Addr}{o:HO}(h:b≠a):upd H a o b=H b:=by unfold upd;rw[aC h]
theorem WK{H:Hp}{a b:Addr}{o u:HO}(h:H a=some o)(h':H b=some u)(d:o≠u):a≠b:=by
 intro e;subst e;rw[h] at h';exact d (aP h')
theorem n5{H:Hp}{a b:Addr}{o:HO}(h:H a=some o)(h':H b=none):a≠b:=by
 intro e;subst e;rw[h] at h';cases h'
def L5(h:Heap)(a:Addr)(items:Array Value):Prop:=∃o,h.get? a=some o/\o.cls=.type "tuple"/\(∃n,o.data=.seq items n)/\o.dict=none
theorem L5.tup{h:Heap}{a:Addr}{items:Array Value}(x:L5 h a items):IsTup h a items:=let ⟨o,e,c,d,_⟩:=x;⟨o,e,c,d⟩
theorem L5.new(h:Heap)(items:Array Value):L5 (h.push { cls:=.type "tuple",data:=.seq items }) h.objs.size items:=⟨_,aF _ rfl,rfl,⟨_,rfl⟩,rfl⟩
section
variable(P:Program)(w:World)
def n6(H:Hp)(h:Heap)(a:Addr):HO->Prop
 |.lst xs=>xs.length<=sizeLine/\∃(ba:List Value) (n:Nat),Vals xs ba/\h.get? a=some { cls:=.type "list",data:=.seq ba.toArray n }
 |.tup xs=>xs.length<=sizeLine/\∃ba:List Value,Vals xs ba/\L5 h a ba.toArray
 |.dK kvs=>kvs.length<=sizeLine/\(a==sysModules)=false/\∃vs,KV kvs vs/\h.DictOf (q9 P w) a vs
 |.dT kvs=>kvs.length<=sizeLine/\(a==sysModules)=false/\∃xs:List (List Key×Addr×Value),
   Paired (λ(p:List Key×V) (q:List Key×Addr×Value)=>p.1=q.1/\H q.2.1=some (.tup (p.1.map kV))/\RelV p.2 q.2.2) kvs xs /\
   ∃o es ep,h.get? a=some o/\o.ExactDict/\o.data=.dict es ep/\es.toList=xs.map (entryOfKey (tupleKind (q9 P w)))/\(xs.map (·.1)).Nodup
 |.set S n=>h.SetOf (intKind P w) a S n
 |.ins C dx fs=>H dx=some (.own a)/\fs.length<=1000/\dx≠a/\h.get? a=some (PySem.W.instObj C dx) /\
   ∃mA,h.Ns1 dx mA/\(∀f,F1 (fs.lookup f) (mA f))/\PySem.Within mA (fs.map (·.1))
 |.own _=>∃o,h.get? a=some o
 |.xd fs=>∃mA,h.Ns1 a mA/\∀f,F1 (fs.lookup f) (mA f)
 |.mK lo hi=>∃t u v,h.get? a=some { cls:=.type "range",data:=.fields #[.int lo t,.int hi u,.int 1 v] }
 |.kj o u=>h.get? a=some o/\n6 H h a u
 |.mJ ps=>h.get? a=some { cls:=.none,data:=.fields ps }
 |.met f x=>h.get? a=some (PySem.W.methodObj (.ref f) (.ref x))
 |.ext φ=>φ h/\(∃o,h.get? a=some o)/\∀h1 h2:Heap,φ h1->(∀o,h1.get? a=some o->h2.get? a=some o)->φ h2
def gK(H:Hp)(h:Heap):Prop:=∀a o,H a=some o->n6 P w H h a o
end
section
variable{P:Program}{w:World}{H H':Hp}{h h':Heap}{a:Addr}{o:HO}
theorem n6.lt(x:n6 P w H h a o):a<h.objs.size:=by
 cases o with
 |lst xs=>obtain⟨_,_,_,_,e⟩:=x;exact aB e
 |tup xs=>obtain⟨_,_,_,p⟩:=x;exact p.tup.lt
 |dK kvs=>obtain⟨_,_,_,_,o,_,_,e,_⟩:=x;exact aB e
 |dT kvs=>obtain⟨_,_,_,_,o,_,_,e,_⟩:=x;exact aB e
 |set S n=>obtain⟨o,_,_,_,e,_⟩:=x;exact aB e
 |ins C dx fs=>obtain⟨_,_,_,e,_⟩:=x;exact aB e
 |own y=>obtain⟨_,e⟩:=x;exact aB e
 |xd fs=>obtain⟨_,⟨_,_,_,e,_⟩,_⟩:=x;exact aB e
 |mK lo hi=>obtain⟨_,_,_,e⟩:=x;exact aB e
 |kj ob u=>obtain⟨e,_⟩:=x;exact aB e
 |mJ ps=>exact aB (show h.get? a=some _ from x)
 |met f y=>exact aB (show h.get? a=some _ from x)
 |ext φ=>obtain⟨_,⟨_,e⟩,_⟩:=x;exact aB e
theorem Paired.Hf{α β:Type}{F G:α->β->Prop}{uU:List α}{uT:List β}(h:Paired F uU uT)(f:∀a b,F a b->G a b):Paired G uU uT:=by
 induction h with
 |nil=>exact .nil
 |cons r t ih=>exact .cons (f _ _ r) ih
theorem n6.Y3(x:n6 P w H h a o)(k:∀b u,(b=a\/H b=some (.own a))->h.get? b=some u->h'.get? b=some u)(ho:∀b,H b=some (.own a)->H' b=some (.own a))(ht:∀b xs,H b=some (.tup xs)->H' b=some (.tup xs)):n6 P w H' h' a o:=by
 induction o with
 |lst xs=>obtain⟨z,ba,n,r,e⟩:=x;exact⟨z,ba,n,r,k _ _ (.inl rfl) e⟩
 |tup xs=>obtain⟨z,ba,r,ob,e,c⟩:=x;exact⟨z,ba,r,ob,k _ _ (.inl rfl) e,c⟩
 |dK kvs=>obtain⟨z,y,vs,r,ob,es,ep,e,c⟩:=x;exact⟨z,y,vs,r,ob,es,ep,k _ _ (.inl rfl) e,c⟩
 |dT kvs =>
  obtain⟨z,y,xs,r,ob,es,ep,e,c⟩:=x;exact⟨z,y,xs,Paired.Hf r λp q z=>⟨z.1,ht _ _ z.2.1,z.2.2⟩,ob,es,ep,k _ _ (.inl rfl) e,c⟩
 |set S n=>obtain⟨ob,es,ep,t,e,c⟩:=x;exact⟨ob,es,ep,t,k _ _ (.inl rfl) e,c⟩
 |ins C dx fs =>
  obtain⟨d,z,ne,e,mA,⟨od,es,ep,e2,c⟩,r⟩:=x;exact⟨ho _ d,z,ne,k _ _ (.inl rfl) e,mA,⟨od,es,ep,k _ _ (.inr d) e2,c⟩,r⟩
 |own y=>obtain⟨ob,e⟩:=x;exact⟨ob,k _ _ (.inl rfl) e⟩
 |xd fs=>obtain⟨mA,⟨od,es,ep,e,c⟩,r⟩:=x;exact⟨mA,⟨od,es,ep,k _ _ (.inl rfl) e,c⟩,r⟩
 |mK lo hi=>obtain⟨t,u,v,e⟩:=x;exact⟨t,u,v,k _ _ (.inl rfl) e⟩
 |kj ob u ih=>obtain⟨e,q⟩:=x;exact⟨k _ _ (.inl rfl) e,ih q⟩
 |mJ ps =>
  have e:h.get? a=some { cls:=.none,data:=.fields ps }:=x;show h'.get? a=some { cls:=.none,data:=.fields ps };exact k a _ (.inl rfl) e
 |met f y =>
  have e:h.get? a=some (PySem.W.methodObj (.ref f) (.ref y)):=x;show h'.get? a=some (PySem.W.methodObj (.ref f) (.ref y));exact k a _ (.inl rfl) e
 |ext φ=>obtain⟨p,⟨o,e⟩,st⟩:=x;exact⟨st _ _ p λo q=>k _ _ (.inl rfl) q,⟨o,k _ _ (.inl rfl) e⟩,st⟩
theorem gK.lt(x:gK P w H h)(e:H a=some o):a<h.objs.size:=(x a o e).lt
theorem gK.fresh(x:gK P w H h)(e:h.objs.size<=a):H a=none:=by
 cases q:H a with
 |none=>rfl
 |some u=>exact absurd (ay (x.lt q) e) (bH _)
theorem gK.kept(x:gK P w H h)(k:∀b u,h.get? b=some u->h'.get? b=some u):gK P w H h':=λa o e =>
 (x a o e).Y3 (λb u _ q=>k b u q) (λ_ q=>q) λ_ _ q=>q
theorem gK.laid(x:gK P w H h)(k:∀b u,h.get? b=some u->h'.get? b=some u)(hp:h.objs.size<=a)(new:n6 P w (upd H a o) h' a o):gK P w (upd H a o) h':=λb u e=>by
 have hn:=x.fresh hp;by_cases hb:b=a
 ·subst hb;rw[u3] at e;cases e;exact new
 ·rw[f9 hb] at e;exact(x b u e).Y3 (λc v _ q=>k c v q) (λc q=>by rw[f9 (n5 q hn)];exact q) λc xs q=>by rw[f9 (n5 q hn)];exact q
end
def Rd(H:Hp)(a:Addr)(u:HO):Prop:=H a=some u\/∃o,H a=some (.kj o u)
theorem Rd.ok{P:Program}{w:World}{H:Hp}{h:Heap}{a:Addr}{u:HO}(r:Rd H a u)(x:gK P w H h):n6 P w H h a u:=by
 rcases r with r|⟨o,r⟩
 ·exact x a u r
 ·obtain⟨_,q⟩:=x a _ r;exact q
def wX:Option HO->Prop
 |some (.lst _)=>True
 |some (.dK _)=>True
 |some (.dT _)=>True
 |some (.set _ _)=>True
 |some (.ins _ _ _)=>True
 |some (.ext _)=>True
 |_=>False
section
variable{P:Program}{w:World}{H:Hp}{h h':Heap}{x e:Addr}{o':HO}
theorem gK.write(ok:gK P w H h)(mu:wX (H x))(he:e=x\/H e=some (.own x))(k:∀b u,b≠e->h.get? b=some u->h'.get? b=some u)(pI:∃u,h'.get? e=some u)(new:n6 P w (upd H x o') h' x o'):gK P w (upd H x o') h':=λb u q=>by
 have uN:∀c y,H c=some (.own y)->c≠x:=λc y r z=>by subst z;rw[r] at mu;exact mu
 have Aa:∀c xs,H c=some (.tup xs)->c≠x:=λc xs r z=>by subst z;rw[r] at mu;exact mu
 by_cases hb:b=x
 ·subst hb;rw[u3] at q;cases q;exact new
 ·rw[f9 hb] at q;by_cases rj:b=e
  ·have q':H b=some (.own x):=by
    rcases he with z|z
    ·exact absurd (rj.trans z) hb
    ·rw[rj];exact z
   rw[q] at q';cases q';obtain⟨v,hv⟩:=pI;exact⟨v,by rw[rj];exact hv⟩
  ·refine(ok b u q).Y3 (λc v hc r=>k c v ?_ r) (λc r=>by rw[f9 (uN c b r)];exact r) λc xs r=>by rw[f9 (Aa c xs r)];exact r
   rcases hc with rfl|hc
   ·exact rj
   ·rintro rfl;rcases he with z|z
    ·exact uN c b hc z
    ·rw[hc] at z;cases z;exact hb rfl
end
structure Un(fs ex:List Addr)(H H':Hp)(h h':Heap):Prop where
 keep:∀b o,h.get? b=some o->H b=none->b∉fs->b∉ex->h'.get? b=some o
 slot:∀b o,h.get? b=some o->H b=none->b∈fs->b∉ex->∃sl,h'.get? b=some { o with slots:=sl }
 free:∀b o,h.get? b=some o->H b=none->b∉ex->H' b=none
 there:∀b o,h.get? b=some o->b∉ex->∃o',h'.get? b=some o'
 jm:∀b xs,H b=some (.tup xs)->H' b=some (.tup xs)
 iS:∀b o u,H b=some (.kj o u)->H' b=some (.kj o u)
 jn:∀b ps,H b=some (.mJ ps)->∃more,H' b=some (.mJ (ps++more))
section
variable{fs rH ex ex':List Addr}{H H1 H2:Hp}{h h1 h2 h':Heap}{a x e:Addr}{o:HO}
theorem Un.any(u:Un fs ex H H1 h h1){b:Addr}{ob:Obj}(q:h.get? b=some ob)(n:H b=none)(hx:b∉ex):∃sl,h1.get? b=some { ob with slots:=sl }:=by
 by_cases hb:b∈fs
 ·exact u.slot b ob q n hb hx
 ·exact⟨ob.slots,u.keep b ob q n hb hx⟩
theorem Un.kept(k:∀b u,h.get? b=some u->h'.get? b=some u):Un fs ex H H h h' :=
 ⟨λb ob q _ _ _=>k b ob q,λb ob q _ _ _=>⟨ob.slots,k b ob q⟩,λ_ _ _ n _=>n,λb ob q _=>⟨ob,k b ob q⟩,λ_ _ q=>q,λ_ _ _ q=>q,λ_ ps q=>⟨#[],by rw[q];simp⟩⟩
theorem Un.refl:Un fs ex H H h h:=Un.kept λ_ _ q=>q
theorem Un.laid(k:∀b u,h.get? b=some u->h'.get? b=some u)(hp:h.objs.size<=a)(hn:H a=none):Un fs ex H (upd H a o) h h' where
 keep:=λb u q _ _ _=>k b u q
 slot:=λb u q _ _ _=>⟨u.slots,k b u q⟩
 free:=λb u q n _=>by rw[f9 (aK (ay (aB q) hp))];exact n
 there:=λb u q _=>⟨u,k b u q⟩
 jm:=λb xs q=>by rw[f9 (n5 q hn)];exact q
 iS:=λb u xs q=>by rw[f9 (n5 q hn)];exact q
 jn:=λb ps q=>⟨#[],by rw[f9 (n5 q hn),q];simp⟩
theorem Un.write(mu:wX (H x))(he:e=x\/H e=some (.own x))(k:∀b u,b≠e->h.get? b=some u->h'.get? b=some u)(pI:∃u,h'.get? e=some u):Un fs ex H (upd H x o) h h':=by
 have hx:∀b,H b=none->b≠x:=λb n z=>by subst z;rw[n] at mu;exact mu
 have hb:∀b,H b=none->b≠e:=λb n z=>by
  subst z;rcases he with r|r
  ·exact hx b n r
  ·rw[n] at r;cases r
 have hm:∀b u,H b=some u->¬wX (some u)->b≠x:=λb u q nm z=>by subst z;rw[q] at mu;exact nm mu
 refine ⟨λb u q n _ _=>k b u (hb b n) q,λb u q n _ _=>⟨u.slots,k b u (hb b n) q⟩,λb u q n _=>by rw [f9 (hx b n)];exact n,λb u q _=>?_,
  λb xs q=>by rw [f9 (hm b _ q λz=>z)];exact q,λb u xs q=>by rw [f9 (hm b _ q λz=>z)];exact q,λb ps q=>⟨#[],by rw [f9 (hm b _ q λz=>z),q];simp⟩⟩
 by_cases rj:b=e
 ·subst rj;exact pI
 ·exact⟨u,k b u rj q⟩
end
def qt(h:Heap)(H:Hp):List Addr:=(List.range h.objs.size).filter λa=>(H a).isSome
def oY(h:Heap)(H:Hp):Heap:=PySem.W.hideAll h (qt h H)
theorem Yi(h:Heap)(H:Hp):(oY h H).objs.size=h.objs.size:=PySem.W.hideAll_size _ _
theorem a51{h:Heap}{H:Hp}{b:Addr}{o:Obj}(e:h.get? b=some o)(n:H b=none):(oY h H).get? b=some o :=
 EG _ e λhm=>by
  have q:(H b).isSome=true:=(bJ.mp hm).2;rw[n] at q;simp at q
theorem SU{h:Heap}{H:Hp}{b:Addr}{o:Obj}(e:(oY h H).get? b=some o):h.get? b=some o/\H b=none:=by
 have e':h.get? b=some o:=Li (qt h H) e;refine⟨e',?_⟩;cases q:H b with
 |none=>rfl
 |some x =>
  have hm:b∈qt h H:=bJ.mpr ⟨bp.mpr (aB e'),by simp[q]⟩;have z:(oY h H).get? b=none:=PySem.W.hideAll_none (qt h H) hm;rw[z] at e;cases e
structure Mod(K:PySem.W.Frag)(mg:Str->Option Value)(base:Heap):Prop where
 nW:K.In base
 glob:base.Ns mainGlobals mg
 blt:∃mb,base.Ns builtinsNs mb/\∀x:Str,x≠"__name__"->mb x=bootBuiltins x
 nolimit:base.NoLimit
structure Cx where
 prog:Program
 w:World
 K:PySem.W.Frag
 mg:Str->Option Value
 base:Heap
 A:Around
 N:List Str
 dB:Shared
 jF:Hp
 env:Env
 outer:List Env
 stack:List Env
 ex:List Addr
 fn:Str->Bool
 calm:Bool
 pn:List (Addr×Obj)
 xe:Value->Shared->Prop
def ij(l:List Env):List Addr:=l.filterMap (·.frame)
noncomputable abbrev Cx.fs(X:Cx):List Addr:=ij X.outer
def zt(sc:Scope)(x:Str):Prop:=sc.names.lookup x=some .local\/sc.names.lookup x=some .cell\/sc.names.lookup x=some .free
def Loc(sc:Scope)(x:Str):Prop:=sc.names.lookup x=some .local\/sc.names.lookup x=some .cell
def Look(env:Env)(h:Heap)(m:Str->Option Value)(x:Str)(u:Value):Prop :=
 (env.kindOf x=some .local/\m x=some u)\/((env.kindOf x=some .cell\/env.kindOf x=some .free)/\∃c,env.cells.lookup x=some c/\h.IsCell c (some u))
structure Cx.Ok(X:Cx):Prop where
 mod:Mod X.K X.mg X.base
 kind:X.env.scope.kind=.function
 glob:X.env.globals=mainGlobals
 blt:X.env.builtins=builtinsNs
 above:X.dB.heap.objs.size<=X.env.locals
 inj:∀x y c,X.env.cells.lookup x=some c->X.env.cells.lookup y=some c->x=y
 has:∀x,(X.env.kindOf x=some .cell\/X.env.kindOf x=some .free)->∃c,X.env.cells.lookup x=some c
 wc:∀x c,X.fn x=true->X.env.cells.lookup x=some c->X.dB.heap.objs.size<=c
 hd:X.calm=true->X.A.handled=none
 frames:X.A.frames=some X.stack
 xp:X.stack=X.outer\/(X.stack=X.env::X.outer/\X.env.frame=some X.env.locals)
 GH:∀b∈X.ex,b≠X.env.locals/\∀x c,X.env.cells.lookup x=some c->c≠b
 bs:∀b o,X.base.get? b=some o->X.dB.heap.get? b=some o/\X.jF b=none
 pU:X.base.objs.size<=X.dB.heap.objs.size
 nj:∀b o,X.base.get? b=some o->b∉X.ex
 oO:∀b∈X.ex,b∉X.fs
 O2:X.dB.heap.FunFrames X.base X.outer
 rJ:∀b∈X.fs,X.jF b=none
structure Inv(X:Cx)(pins:List (Addr×Obj))(σ:List (Option V))(H:Hp)(s:Shared):Prop where
 ok:X.Ok
 os:s.os=X.dB.os
 bare:AllBare s.gens
 base:Un X.fs X.ex X.jF H X.dB.heap s.heap
 loc:∃m,s.heap.Ns X.env.locals m/\∀(i:Nat) (x:Str) (v:V),X.N[i]?=some x->σ[i]?=some (some v)->zt X.env.scope x->∃u,RelV v u/\Look X.env s.heap m x u
 cell:∀x c,X.env.cells.lookup x=some c->∃v,s.heap.IsCell c v
 free:H X.env.locals=none
 fZ:∀x c,X.env.cells.lookup x=some c->H c=none
 pin:∀p∈X.pn++pins,s.heap.get? p.1=some p.2/\H p.1=none/\p.1≠X.env.locals/\p.1∉X.fs/\∀v,p.2.data≠.cell v
 bX:gK X.prog X.w H s.heap
 len:σ.length=X.N.length
section
variable{X:Cx}{pins:List (Addr×Obj)}{σ:List (Option V)}{H H':Hp}{s:Shared}{h':Heap}
theorem Cx.Ok.Vi(ok:X.Ok){b:Addr}{o:Obj}(e:X.base.get? b=some o):b∉X.fs:=λhb=>by
 have:=(ok.O2.mem hb).1;rw[e] at this;cases this
theorem Inv.bs(I:Inv X pins σ H s):∀b o,X.base.get? b=some o->s.heap.get? b=some o/\H b=none:=λb o e =>
 ⟨I.base.keep b o (I.ok.bs b o e).1 (I.ok.bs b o e).2 (I.ok.Vi e) (I.ok.nj b o e),I.base.free b o (I.ok.bs b o e).1 (I.ok.bs b o e).2 (I.ok.nj b o e)⟩
theorem Inv.bk(I:Inv X pins σ H s):∀b o,X.base.get? b=some o->s.heap.get? b=some o:=λb o e=>(I.bs b o e).1
theorem Inv.mod(I:Inv X pins σ H s):Mod X.K X.mg X.base:=I.ok.mod
theorem Inv.ig(I:Inv X pins σ H s):X.K.In s.heap:=I.ok.mod.nW.keeps I.bk
theorem Inv.lt(I:Inv X pins σ H s):X.env.locals<s.heap.objs.size:=let ⟨_,hn,_⟩:=I.loc;hn.lt
theorem Inv.sz(I:Inv X pins σ H s):X.dB.heap.objs.size<=s.heap.objs.size:=aI I.ok.above (eL I.lt)
theorem Inv.we(I:Inv X pins σ H s){a:Addr}(h:s.heap.objs.size<=a):a∉X.fs:=λhb=>by
 obtain⟨_,o,ho,_⟩:=I.ok.O2.mem hb;exact absurd (ay (aB ho) (aI I.sz h)) (bH _)
theorem Inv.rP(I:Inv X pins σ H s):∀x c,X.env.cells.lookup x=some c->c≠X.env.locals:=λx c e z=>by
 obtain⟨v,o,ho,hd⟩:=I.cell x c e;obtain⟨m,⟨o',es,ep,ny,AN,_⟩,_⟩:=I.loc;rw[z,ny] at ho;cases ho;rw[AN] at hd;cases hd
theorem Inv.O2(I:Inv X pins σ H s):s.heap.FunFrames X.base X.outer:=by
 have all:∀(l:List Env),(∀b∈ij l,b∈X.fs)->X.dB.heap.FunFrames X.base l->s.heap.FunFrames X.base l:=by
  intro l
  induction l with
  |nil=>intro _ _;trivial
  |cons env r ih =>
   intro hs hl;obtain⟨hk,⟨L,o,hf,hn,ho,hd⟩,hr⟩:=hl;have hL:L∈X.fs:=hs L (by unfold ij;rw[eV,hf];exact cO);obtain⟨sl,e⟩:=I.base.slot L o ho (I.ok.rJ L hL) hL λz=>I.ok.oO L z hL;exact⟨hk,⟨L,_,hf,hn,e,hd⟩,ih (λb hb=>hs b (by unfold ij;rw[eV,hf];exact bE _ hb)) hr⟩
 exact all X.outer (λ_ hb=>hb) I.ok.O2
theorem Inv.stack(I:Inv X pins σ H s):s.heap.FunFrames X.base X.stack:=by
 rcases I.ok.xp with e|⟨e,hf⟩
 ·rw[e];exact I.O2
 ·rw[e];obtain⟨m,hn,_⟩:=I.loc;refine .cons (by rw[I.ok.kind];decide) hf hn ?_ I.O2;exact Heap.get?_none_of_le (aI I.ok.pU I.ok.above)
theorem Inv.K9(I:Inv X pins σ H s):∀b∈ij X.stack,b∈X.env.locals::X.fs:=λb hb=>by
 rcases I.ok.xp with e|⟨e,hf⟩
 ·rw[e] at hb;exact bE _ hb
 ·rw[e] at hb;unfold ij at hb;rw[eV,hf] at hb;exact hb
theorem Inv.Cw(I:Inv X pins σ H s):∀b∈ij X.stack,H b=none:=λb hb=>by
 rcases aE.mp (I.K9 b hb) with e|hb
 ·rw[e];exact I.free
 ·obtain⟨_,o,ho,_⟩:=I.ok.O2.mem hb;exact I.base.free b o ho (I.ok.rJ b hb) λz=>I.ok.oO b z hb
theorem Inv.step{g':Array GenState}{t':Nat}{d':Drawn}{ch:List Addr}(I:Inv X pins σ H s)(og:∀b∈ch,(b∈X.ex\/X.dB.heap.objs.size<=b)/\b≠X.env.locals/\(∀x c,X.env.cells.lookup x=some c->c≠b)/\∀p∈X.pn++pins,p.1≠b)(keep:∀b o,b≠X.env.locals->b∉X.fs->b∉ch->s.heap.get? b=some o->H b=none->h'.get? b=some o)(slot:∀b o,b≠X.env.locals->b∈X.fs->b∉ch->s.heap.get? b=some o->H b=none->∃sl,h'.get? b=some { o with slots:=sl })(free:∀b o,b∉ch->s.heap.get? b=some o->H b=none->H' b=none)(there:∀b o,b∉ch->s.heap.get? b=some o->∃o',h'.get? b=some o')(jm:∀b xs,H b=some (.tup xs)->H' b=some (.tup xs))(iS:∀b o u,H b=some (.kj o u)->H' b=some (.kj o u))(jn:∀b ps,H b=some (.mJ ps)->∃more,H' b=some (.mJ (ps++more)))(ns:∀m,s.heap.Ns X.env.locals m->h'.Ns X.env.locals m)(bX:gK X.prog X.w H' h')(hg:AllBare g') :
  Inv X pins σ H' { s with heap:=h',gens:=g',drawn:=d',toks:=t' }:=by
 have Fq:∀b o,X.dB.heap.get? b=some o->b≠X.env.locals:=λb o e=>aK (ay (aB e) I.ok.above);have pA:∀b o,X.dB.heap.get? b=some o->b∉X.ex->b∉ch:=λb o e hx hb=>by
  rcases(og b hb).1 with z|z
  ·exact hx z
  ·exact absurd (ay (aB e) z) (bH _)
 have cellK:∀x c,X.env.cells.lookup x=some c->∀v,s.heap.IsCell c v->h'.IsCell c v:=λx c e v bB=>by
  obtain⟨o,ho,hd⟩:=bB;have uR:c∉ch:=λz=>(og c z).2.2.1 x c e rfl;by_cases hc:c∈X.fs
  ·obtain⟨sl,q⟩:=slot c o (I.rP x c e) hc uR ho (I.fZ x c e);exact⟨_,q,hd⟩
  ·exact⟨o,keep c o (I.rP x c e) hc uR ho (I.fZ x c e),hd⟩
 refine⟨I.ok,I.os,hg,⟨λb o e n hb hx=>?_,λb o e n hb hx=>?_,λb o e n hx=>?_,λb o e hx=>?_,λb xs e=>jm b xs (I.base.jm b xs e),λb o xs e=>iS b o xs (I.base.iS b o xs e),λb ps e=>?_⟩,?_,λx c e=>?_,?_,λx c e=>?_,λp hp=>?_,bX,I.len⟩
 ·exact keep b o (Fq b o e) hb (pA b o e hx) (I.base.keep b o e n hb hx) (I.base.free b o e n hx)
 ·obtain⟨sl,e1⟩:=I.base.slot b o e n hb hx;obtain⟨LO,e2⟩:=slot b _ (Fq b o e) hb (pA b o e hx) e1 (I.base.free b o e n hx);exact⟨LO,e2⟩
 ·obtain⟨o',e1⟩:=I.base.there b o e hx;exact free b o' (pA b o e hx) e1 (I.base.free b o e n hx)
 ·obtain⟨o',e1⟩:=I.base.there b o e hx;exact there b o' (pA b o e hx) e1
 ·obtain⟨m1,e1⟩:=I.base.jn b ps e;obtain⟨m2,e2⟩:=jn b _ e1;exact⟨m1++m2,by rw[e2,Lq]⟩
 ·obtain⟨m,hn,hl⟩:=I.loc;refine⟨m,ns m hn,λi x v e1 e2 e3=>?_⟩;obtain⟨u,r,l⟩:=hl i x v e1 e2 e3;refine⟨u,r,?_⟩;rcases l with l|⟨k,c,e,z⟩
  ·exact .inl l
  ·exact .inr ⟨k,c,e,cellK x c e _ z⟩
 ·obtain⟨v,z⟩:=I.cell x c e;exact⟨v,cellK x c e v z⟩
 ·obtain⟨m,⟨o,_,_,ho,_⟩,_⟩:=I.loc;exact free _ o (λz=>(og _ z).2.1 rfl) ho I.free
 ·obtain⟨v,o,ho,hd⟩:=I.cell x c e;exact free c o (λz=>(og c z).2.2.1 x c e rfl) ho (I.fZ x c e)
 ·obtain⟨e,n,ne,nf,d⟩:=I.pin p hp;have uR:p.1∉ch:=λz=>(og p.1 z).2.2.2 p hp rfl;exact⟨keep p.1 p.2 ne nf uR e n,free p.1 p.2 uR e n,ne,nf,d⟩
theorem Inv.un{t':Nat}(I:Inv X pins σ H s)(u:Un X.fs [] H H' s.heap h')(bX:gK X.prog X.w H' h'):Inv X pins σ H' { s with heap:=h',toks:=t' }:=by
 obtain⟨m,⟨o,es,ep,ho,r⟩,_⟩:=id I.loc;obtain⟨sl,hL⟩:=u.any ho I.free (by simp);exact I.step (g':=s.gens) (d':=s.drawn) (ch:=[]) (λ_ z=>nomatch z) (λb o _ hb _ e n=>u.keep b o e n hb (by simp)) (λb o _ hb _ e n=>u.slot b o e n hb (by simp)) (λb o _ e n=>u.free b o e n (by simp)) (λb o _ e=>u.there b o e (by simp)) u.jm u.iS u.jn (λm' hm=>by
  obtain⟨o',oR,BC,ny,r'⟩:=hm;rw[ho] at ny;cases ny;exact ⟨_,oR,BC,hL,r'⟩) bX I.bare
theorem Inv.call{g':Array GenState}{t':Nat}{d':Drawn}{ch:List Addr}(I:Inv X pins σ H s)(u:Un (ij X.stack) ch H H' s.heap h')(bX:gK X.prog X.w H' h')(hg:AllBare g')(og:∀b∈ch,(b∈X.ex\/X.dB.heap.objs.size<=b)/\b≠X.env.locals/\(∀x c,X.env.cells.lookup x=some c->c≠b)/\∀p∈X.pn++pins,p.1≠b) :
  Inv X pins σ H' { s with heap:=h',gens:=g',drawn:=d',toks:=t' }:=by
 obtain⟨m,⟨o,es,ep,ho,r⟩,_⟩:=id I.loc;obtain⟨sl,hL⟩:=u.any ho I.free λz=>(og _ z).2.1 rfl;exact I.step (ch:=ch) og (λb o hL hb hc e n=>u.keep b o e n (λz=>(aE.mp (I.K9 b z)).elim hL hb) hc) (λb o _ _ hc e n=>u.any e n hc) (λb o hc e n=>u.free b o e n hc) (λb o hc e=>u.there b o e hc) u.jm u.iS u.jn (λm' hm=>by
  obtain⟨o',oR,BC,ny,r'⟩:=hm;rw[ho] at ny;cases ny;exact ⟨_,oR,BC,hL,r'⟩) bX hg
theorem Inv.turned{t':Nat}{it:Addr}(I:Inv X pins σ H s)(k:∀b o,b≠it->s.heap.get? b=some o->h'.get? b=some o)(hn:H it=none)(hL:it≠X.env.locals)(h1:it∈X.ex\/X.dB.heap.objs.size<=it)(h2:∀x c,X.env.cells.lookup x=some c->c≠it)(h3:∀p∈X.pn++pins,p.1≠it):Inv X pins σ H { s with heap:=h',toks:=t' }:=by
 have Fp:∀b u,H b=some u->b≠it:=λb u e z=>by rw[z,hn] at e;cases e
 refine I.step (g':=s.gens) (d':=s.drawn) (ch:=[it]) (λb hb=>?_) (λb o _ _ hc e _=>k b o (λz=>hc (by simp[z])) e) (λb o _ _ hc e _=>⟨o.slots,k b o (λz=>hc (by simp[z])) e⟩) (λ_ _ _ _ n=>n)
  (λb o hc e=>⟨o,k b o (λz=>hc (by simp[z])) e⟩) (λ_ _ e=>e) (λ_ _ _ e=>e) (λb ps e=>⟨#[],by rw[e];simp⟩) (λm hm=>?_) (λb u e=>?_) I.bare
 ·have e:b=it:=by simpa using hb
  subst e;exact⟨h1,hL,h2,h3⟩
 ·obtain⟨o,es,ep,ho,r⟩:=hm;exact⟨o,es,ep,k _ o (cx hL) ho,r⟩
 ·refine(I.bX b u e).Y3 (λc v hc q=>k c v ?_ q) (λ_ q=>q) λ_ _ q=>q;rcases hc with z|z
  ·rw[z];exact Fp b u e
  ·exact Fp c _ z
theorem Inv.tok(I:Inv X pins σ H s)(t:Nat):Inv X pins σ H { s with toks:=t }:=I.un (h':=s.heap) (t':=t) Un.refl I.bX
theorem Inv.kept{t':Nat}(I:Inv X pins σ H s)(k:∀b u,s.heap.get? b=some u->h'.get? b=some u):Inv X pins σ H { s with heap:=h',toks:=t' }:=I.un (Un.kept k) (I.bX.kept k)
theorem Inv.laid{a:Addr}{o:HO}{t':Nat}(I:Inv X pins σ H s)(k:∀b u,s.heap.get? b=some u->h'.get? b=some u)(hp:s.heap.objs.size<=a)(new:n6 X.prog X.w (upd H a o) h' a o) :
  Inv X pins σ (upd H a o) { s with heap:=h',toks:=t' }:=I.un (Un.laid k hp (I.bX.fresh hp)) (I.bX.laid k hp new)
theorem Inv.write{x e:Addr}{o:HO}{t':Nat}(I:Inv X pins σ H s)(mu:wX (H x))(he:e=x\/H e=some (.own x))(k:∀b u,b≠e->s.heap.get? b=some u->h'.get? b=some u)(pI:∃u,h'.get? e=some u)(new:n6 X.prog X.w (upd H x o) h' x o):Inv X pins σ (upd H x o) { s with heap:=h',toks:=t' }:=I.un (Un.write mu he k pI) (I.bX.write mu he k pI new)
theorem Inv.K5{lH:List (Addr×Obj)}(I:Inv X pins σ H s)(h:∀p∈lH,s.heap.get? p.1=some p.2/\H p.1=none/\p.1≠X.env.locals/\p.1∉X.fs/\∀v,p.2.data≠.cell v):Inv X lH σ H s :=
 ⟨I.ok,I.os,I.bare,I.base,I.loc,I.cell,I.free,I.fZ,λp hp=>(aS.mp hp).elim (λz=>I.pin p (bw _ z)) (h p),I.bX,I.len⟩
theorem Kl{N:List Str}(hN:N.Nodup){i j:Nat}{x:Str}(a:N[i]?=some x)(b:N[j]?=some x):i=j:=by
 obtain⟨h1,e1⟩:=aw.mp a;obtain⟨h2,e2⟩:=aw.mp b;exact(lV hN).mp (e1.trans e2.symm)
theorem HY{M:Model}{A:Around}{E:Value->Shared->Prop}{i:Nat}{x:Str}{v:V}{u:Value}{Q:Unit->Shared->Prop}(I:Inv X pins σ H s)(hN:X.N.Nodup)(hi:X.N[i]?=some x)(hx:Loc X.env.scope x)(r:RelV v u)(h:∀s',Inv X pins (σ.set i (some v)) H s'->(∃a,Heap.SameBut a s.heap s'.heap/\(a=X.env.locals\/X.env.cells.lookup x=some a))->Q () s')(hf:X.fn x=true\/X.env.scope.names.lookup x=some .local:=by first|exact .inl rfl|exact .inr rfl|assumption):wpAny M A (storeName X.env x u) Q E s:=by
 obtain⟨m,hn,hl⟩:=id I.loc;have AO:(X.env.scope.kind==.class||(X.env.scope.kind==.module&&X.env.locals != X.env.globals))=false:=by rw[I.ok.kind];rfl
 have vp:i<σ.length:=by rw[I.len];exact(aw.mp hi).1
 have rP:=I.rP;have tracked:∀{a:Addr} {h':Heap},(∃o,s.heap.get? a=some o/\H a=none)->Heap.SameBut a s.heap h'->gK X.prog X.w H h':=λ{a h'} ha hs b ob e=>by
  obtain⟨_,_,nB⟩:=ha;refine(I.bX b ob e).Y3 (λc w' hc q=>(hs.2 c ?_).trans q) (λ_ q=>q) λ_ _ q=>q;rintro rfl;rcases hc with rfl|hc
  ·rw[nB] at e;cases e
  ·rw[nB] at hc;cases hc
 rcases hx with hk|hk
 ·refine wpAny_storeName_local hk hn (λh' ML hs=>?_) AO;obtain⟨oL,_,_,oE,_⟩:=id hn;refine h _ ⟨I.ok,I.os,I.bare,⟨λb o e n hb hx=>?_,λb o e n hb hx=>?_,I.base.free,λb o e hx=>?_,I.base.jm,I.base.iS,I.base.jn⟩,⟨_,ML,λj y v' e1 e2 e3=>?_⟩,λy c e=>?_,I.free,I.fZ,λp hp=>?_,tracked ⟨oL,oE,I.free⟩ hs,by simpa using I.len⟩ ⟨_,hs,.inl rfl⟩
  ·exact(hs.2 b (aK (ay (aB e) I.ok.above))).trans (I.base.keep b o e n hb hx)
  ·obtain⟨sl,e1⟩:=I.base.slot b o e n hb hx;exact⟨sl,(hs.2 b (aK (ay (aB e) I.ok.above))).trans e1⟩
  ·obtain⟨o',e1⟩:=I.base.there b o e hx;exact⟨o',(hs.2 b (aK (ay (aB e) I.ok.above))).trans e1⟩
  ·by_cases hj:j=i
   ·subst hj;rw[hi] at e1;cases e1;rw[aY vp] at e2;cases e2;exact⟨u,r,.inl ⟨hk,by simp⟩⟩
   ·rw[ax (cx hj)] at e2;obtain⟨u',r',q⟩:=hl j y v' e1 e2 e3;refine⟨u',r',?_⟩;rcases q with⟨k,e⟩|⟨k,c,e,z⟩
    ·refine .inl ⟨k,?_⟩;have:y≠x:=λe=>hj (Kl hN e1 (e▸hi));simp[this,e]
    ·exact .inr ⟨k,c,e,z.sameBut hs (rP y c e)⟩
  ·obtain⟨w',z⟩:=I.cell y c e;exact⟨w',z.sameBut hs (rP y c e)⟩
  ·obtain⟨e,n,ne,nf,d⟩:=I.pin p hp;exact⟨(hs.2 p.1 ne).trans e,n,ne,nf,d⟩
 ·have sY:X.fn x=true:=by
   rcases hf with z|z
   ·exact z
   ·rw[z] at hk;cases hk
  obtain⟨c,hc⟩:=I.ok.has x (.inl hk);obtain⟨w',z⟩:=I.cell x c hc;refine wpAny_storeName_cell I.ok.kind hk hc z (λh' jw hs=>?_);obtain⟨oc,Av,Au⟩:=id z;refine h { s with heap:=h' } ⟨I.ok,I.os,I.bare,⟨λb o e n hb hx=>?_,λb o e n hb hx=>?_,I.base.free,λb o e hx=>?_,I.base.jm,I.base.iS,I.base.jn⟩,⟨m,hn.sameBut hs (cx (rP x c hc)),λj y v' e1 e2 e3=>?_⟩,λy c' e=>?_,I.free,I.fZ,λp hp=>?_,tracked ⟨oc,Av,I.fZ x c hc⟩ hs,by simpa using I.len⟩ ⟨c,hs,.inr hc⟩
  ·exact(hs.2 b (aK (ay (aB e) (I.ok.wc x c sY hc)))).trans (I.base.keep b o e n hb hx)
  ·obtain⟨sl,e1⟩:=I.base.slot b o e n hb hx;exact⟨sl,(hs.2 b (aK (ay (aB e) (I.ok.wc x c sY hc)))).trans e1⟩
  ·obtain⟨o',e1⟩:=I.base.there b o e hx;exact⟨o',(hs.2 b (aK (ay (aB e) (I.ok.wc x c sY hc)))).trans e1⟩
  ·by_cases hj:j=i
   ·subst hj;rw[hi] at e1;cases e1;rw[aY vp] at e2;cases e2;exact⟨u,r,.inr ⟨.inl hk,c,hc,jw⟩⟩
   ·rw[ax (cx hj)] at e2;obtain⟨u',r',q⟩:=hl j y v' e1 e2 e3;refine⟨u',r',?_⟩;rcases q with q|⟨k,c',e,z'⟩
    ·exact .inl q
    ·refine .inr ⟨k,c',e,z'.sameBut hs ?_⟩;rintro rfl;exact hj (Kl hN e1 (I.ok.inj _ _ _ e hc▸hi))
  ·by_cases sZ:c'=c
   ·subst sZ;exact⟨_,jw⟩
   ·obtain⟨w2,z2⟩:=I.cell y c' e;exact⟨w2,z2.sameBut hs sZ⟩
  ·obtain⟨e,n,ne,nf,d⟩:=I.pin p hp;refine⟨(hs.2 p.1 ?_).trans e,n,ne,nf,d⟩;intro q;rw[q,Av] at e;have q':oc=p.2:=aP e;exact d w' (by rw[<- q'];exact Au)
theorem Y1{M:Model}{A:Around}{E:Value->Shared->Prop}{i:Nat}{x:Str}{v:V}{u:Value}{Q:Unit->Shared->Prop}(I:Inv X pins σ H s)(hN:X.N.Nodup)(hi:X.N[i]?=some x)(hx:Loc X.env.scope x)(r:RelV v u)(h:∀s',Inv X pins (σ.set i (some v)) H s'->Q () s')(hf:X.fn x=true\/X.env.scope.names.lookup x=some .local:=by first|exact .inl rfl|exact .inr rfl|assumption):wpAny M A (storeName X.env x u) Q E s :=
 HY I hN hi hx r (λs' I' _=>h s' I') hf
theorem Inv.Dv{s':Shared}{ch:List Addr}(I:Inv X pins σ H s)(ho:s'.os=s.os)(u:Un (ij X.stack) ch H H' s.heap s'.heap)(bX:gK X.prog X.w H' s'.heap)(hg:AllBare s'.gens)(og:∀b∈ch,(b∈X.ex\/X.dB.heap.objs.size<=b)/\b≠X.env.locals/\(∀x c,X.env.cells.lookup x=some c->c≠b)/\∀p∈X.pn++pins,p.1≠b):Inv X pins σ H' s':=by
 obtain⟨h',g',d',t',o'⟩:=s';have e:o'=s.os:=ho;subst e;exact I.call (g':=g') (t':=t') (d':=d') u bX hg og
end
noncomputable abbrev XK:=Value->Option Addr->Hp->Prop
noncomputable abbrev St:=List (Option V)
noncomputable abbrev VK:=V->Hp->Prop
noncomputable abbrev TE:=St->Hp->VK->Prop
noncomputable abbrev TT:=St->Hp->(Bool->Hp->Prop)->Prop
noncomputable abbrev TA:=St->Hp->(List V->Hp->Prop)->Prop
structure Ends where
 nx:St->Hp->Prop
 rt:VK
 bk:St->Hp->Prop:=λ_ _=>False
 ct:St->Hp->Prop:=λ_ _=>False
noncomputable abbrev TS:=Ends->St->Hp->Prop
def EP(X:Cx)(pins:List (Addr×Obj))(σ:St)(Q:VK)(u:Value)(s':Shared):Prop:=∃v H',Inv X pins σ H' s'/\RelV v u/\Q v H'
def TP(X:Cx)(pins:List (Addr×Obj))(σ:St)(Q:Bool->Hp->Prop)(b:Bool)(s':Shared):Prop:=∃H',Inv X pins σ H' s'/\Q b H'
def AP(X:Cx)(pins:List (Addr×Obj))(σ:St)(Q:List V->Hp->Prop)(us:List Value)(s':Shared):Prop:=∃vs H',Inv X pins σ H' s'/\Vals vs us/\Q vs H'
def SP(X:Cx)(pins:List (Addr×Obj))(D:Ends)(f:Flow)(s':Shared):Prop :=
 match f with
 |.next=>∃cF H',Inv X pins cF H' s'/\D.nx cF H'
 |.brk=>∃cF H',Inv X pins cF H' s'/\D.bk cF H'
 |.cont=>∃cF H',Inv X pins cF H' s'/\D.ct cF H'
 |.ret u=>∃v cF H',Inv X pins cF H' s'/\RelV v u/\D.rt v H'
def PE(X:Cx)(e:Expr)(t:TE):Prop :=
 ∀(pins:List (Addr×Obj)) (s:Shared) (σ:St) (H:Hp) (Q:VK),Inv X pins σ H s->t σ H Q->wpAny (model X.prog X.w) X.A (eval e X.env) (EP X pins σ Q) X.xe s
def PT(X:Cx)(e:Expr)(t:TT):Prop :=
 ∀(pins:List (Addr×Obj)) (s:Shared) (σ:St) (H:Hp) (Q:Bool->Hp->Prop),Inv X pins σ H s->t σ H Q->wpAny (model X.prog X.w) X.A (isTrue e X.env (eval e X.env)) (TP X pins σ Q) X.xe s
def PW(X:Cx)(e:Expr)(t:TT):Prop :=
 ∀(whole:Sem Value) (pins:List (Addr×Obj)) (s:Shared) (σ:St) (H:Hp) (Q:Bool->Hp->Prop),Inv X pins σ H s->t σ H Q->wpAny (model X.prog X.w) X.A (isTrue e X.env whole) (TP X pins σ Q) X.xe s
theorem PW.pt{X:Cx}{e:Expr}{t:TT}(h:PW X e t):PT X e t:=h _
def PA(X:Cx)(es:List Expr)(t:TA):Prop :=
 ∀(pos:Pos) (pins:List (Addr×Obj)) (s:Shared) (σ:St) (H:Hp) (Q:List V->Hp->Prop),Inv X pins σ H s->t σ H Q->wpAny (model X.prog X.w) X.A (spliced (backTo pos (starEach es X.env))) (AP X pins σ Q) X.xe s
def PS(X:Cx)(st:Stmt)(t:TS):Prop :=
 ∀(pins:List (Addr×Obj)) (s:Shared) (σ:St) (H:Hp) (D:Ends),Inv X pins σ H s->t D σ H->wpAny (model X.prog X.w) X.A (exec st X.env) (SP X pins D) X.xe s
def kP(X:Cx)(st:List Stmt)(t:TS):Prop :=
 ∀(pins:List (Addr×Obj)) (s:Shared) (σ:St) (H:Hp) (D:Ends),Inv X pins σ H s->t D σ H->wpAny (model X.prog X.w) X.A (execs st X.env) (SP X pins D) X.xe s
theorem cT{α:Type}{t:Sem α}{Q Q':α->Shared->Prop}{M:Model}{A:Around}{E:Value->Shared->Prop}{s:Shared}(h:wpAny M A t Q E s)(hQ:∀a s,Q a s->Q' a s):wpAny M A t Q' E s:=bI h hQ λ_ _ x=>x
section
variable{X:Cx}
def VO(i:Nat):TE:=λσ H Q=>∃v,σ[i]?=some (some v)/\Q v H
def tC(v:V):TE:=λ_ H Q=>Q v H
theorem QT{i:Nat}{x:Str}{pos:Pos}(hN:X.N[i]?=some x)(hv:zt X.env.scope x)(hd:(x==("__debug__":Str))=false:=by decide)(mq:(x==("__classdict__":Str))=false:=by decide):PE X (.Name x pos) (VO i):=by
 intro pins s σ H Q I h;obtain⟨v,e,h⟩:=h;obtain⟨m,hn,hl⟩:=I.loc;obtain⟨u,r,l⟩:=hl i x v hN e hv;have fin:EP X pins σ Q u s:=⟨v,H,I,r,h⟩
 rcases l with⟨hk,hm⟩|⟨hk,c,hc,pJ⟩
 ·exact wpAny_Name (wpAny_loadName_local I.ok.kind hk hn hm fin) hd
 ·rcases hk with hk|hk
  ·exact wpAny_Name (wpAny_loadName_cell I.ok.kind hk hc pJ fin) hd
  ·exact wpAny_Name (wpAny_loadName_free I.ok.kind hk hc pJ fin mq) hd
theorem QN{i j pos}:PE X (.Constant (.int i) j pos) (tC (.int i)):=λ_ _ _ H _ I h=>wpAny_Constant_int ⟨.int i,H,I.tok _,⟨_,rfl⟩,h⟩
theorem WV{b j pos}:PE X (.Constant (.bool b) j pos) (tC (.bl b)):=λ_ _ _ H _ I h=>Constant_bool ⟨.bl b,H,I,rfl,h⟩
theorem QP{j pos}:PE X (.Constant .none j pos) (tC .bN):=λ_ _ _ H _ I h=>Constant_none ⟨.bN,H,I,rfl,h⟩
theorem Jl{x j pos}:PE X (.Constant (.str x) j pos) (tC (.str x)):=λ_ _ _ H _ I h=>Calls.Constant_str ⟨.str x,H,I.tok _,⟨_,rfl⟩,h⟩
def Gl(X:Cx)(x:Str):Prop:=X.env.kindOf x=some .globalImplicit
theorem W6{E:Value->Shared->Prop}{pins:List (Addr×Obj)}{s:Shared}{σ:St}{H:Hp}{x:Str}{u:Value}{pos:Pos}{Q:Value->Shared->Prop}(I:Inv X pins σ H s)(hg:Gl X x)(hm:X.mg x=some u)(h:Q u s)(hd:(x==("__debug__":Str))=false:=by decide):wpAny (model X.prog X.w) X.A (eval (.Name x pos) X.env) Q E s :=
 zC I.ok.kind hg (Calls.loadGlobal_global (by rw[I.ok.glob];exact I.mod.glob.keeps I.bk) hm h) hd
theorem N9{E:Value->Shared->Prop}{pins:List (Addr×Obj)}{s:Shared}{σ:St}{H:Hp}{x:Str}{u:Value}{pos:Pos}{Q:Value->Shared->Prop}(I:Inv X pins σ H s)(hg:Gl X x)(hm:X.mg x=none)(hv:bootBuiltins x=some u)(h:Q u s)(hn:x≠"__name__":=by decide)(hd:(x==("__debug__":Str))=false:=by decide):wpAny (model X.prog X.w) X.A (eval (.Name x pos) X.env) Q E s:=by
 obtain⟨mb,h1,h2⟩:=I.mod.blt;exact zC I.ok.kind hg (Calls.loadGlobal_builtin (by rw[I.ok.glob];exact I.mod.glob.keeps I.bk) hm (by rw[I.ok.blt];exact h1.keeps I.bk) ((h2 x hn).trans hv) h) hd
theorem zd{x:Str}{v:V}{u:Value}{pos:Pos}(hg:Gl X x)(hm:X.mg x=some u)(r:RelV v u)(hd:(x==("__debug__":Str))=false:=by decide):PE X (.Name x pos) (tC v) :=
 λ_ _ _ H _ I h=>W6 I hg hm ⟨v,H,I,r,h⟩ hd
theorem Te{x:Str}{v:V}{u:Value}{pos:Pos}(hg:Gl X x)(hm:X.mg x=none)(hv:bootBuiltins x=some u)(r:RelV v u)(hn:x≠"__name__":=by decide)(hd:(x==("__debug__":Str))=false:=by decide):PE X (.Name x pos) (tC v) :=
 λ_ _ _ H _ I h=>N9 I hg hm hv ⟨v,H,I,r,h⟩ hn hd
variable{a b:Expr}{ta tb:TE}{pos:Pos}
variable{tA xn:TT}{rest:List Expr}
def VB(t u:TT):TT:=λσ H Q=>t σ H λc H1=>if c=true then u σ H1 Q else Q false H1
def LD(t u:TT):TT:=λσ H Q=>t σ H λc H1=>if c=true then Q true H1 else u σ H1 Q
def VH(t:TT):TT:=λσ H Q=>t σ H λc H1=>Q (!c) H1
theorem Tx(ha:PT X a tA):PW X (.BoolOp .And [a] pos) tA:=by
 intro wh pins s σ H Q I h;refine isTrue_and (cT (ha pins s σ H Q I h) λc s1 e=>?_);cases c with
 |true=>exact isTrue_and_nil e
 |false=>exact e
theorem Rg(ha:PT X a tA):PW X (.BoolOp .Or [a] pos) tA:=by
 intro wh pins s σ H Q I h;refine isTrue_or (cT (ha pins s σ H Q I h) λc s1 e=>?_);cases c with
 |false=>exact isTrue_or_nil e
 |true=>exact e
theorem Rf(ha:PT X a tA)(hb:PW X (.BoolOp .And (b::rest) pos) xn):PW X (.BoolOp .And (a::b::rest) pos) (VB tA xn):=by
 intro wh pins s σ H Q I h;refine isTrue_and (cT (ha pins s σ H _ I h) λc s1 ⟨H1,I1,q1⟩=>?_);cases c with
 |true=>exact hb wh pins s1 σ H1 Q I1 q1
 |false=>exact⟨H1,I1,q1⟩
theorem OK(ha:PT X a tA)(hb:PW X (.BoolOp .Or (b::rest) pos) xn):PW X (.BoolOp .Or (a::b::rest) pos) (LD tA xn):=by
 intro wh pins s σ H Q I h;refine isTrue_or (cT (ha pins s σ H _ I h) λc s1 ⟨H1,I1,q1⟩=>?_);cases c with
 |true=>exact⟨H1,I1,q1⟩
 |false=>exact hb wh pins s1 σ H1 Q I1 q1
theorem Rc(ha:PT X a tA):PT X (.UnaryOp .Not a pos) (VH tA):=by
 intro pins s σ H Q I h;exact isTrue_not (ha pins s σ H (λc H1=>Q (!c) H1) I h)
def OZ(ta tb:TE):TE:=λσ H Q=>ta σ H λx H1=>∃c,x=.bl c/\if c=true then tb σ H1 Q else Q (.bl false) H1
def VI(ta tb:TE):TE:=λσ H Q=>ta σ H λx H1=>∃c,x=.bl c/\if c=true then Q (.bl true) H1 else tb σ H1 Q
def Pe(ta:TE):TE:=λσ H Q=>ta σ H λx H1=>∃c,x=.bl c/\Q (.bl (!c)) H1
theorem QR{op}{t:TE}(h:PE X a t):PE X (.BoolOp op [a] pos) t:=λpins s σ H Q I hw=>BoolOp_one (h pins s σ H Q I hw)
theorem QK(ha:PE X a ta)(hb:PE X (.BoolOp .And (b::rest) pos) tb):PE X (.BoolOp .And (a::b::rest) pos) (OZ ta tb):=by
 intro pins s σ H Q I h;refine BoolOp_and (cT (ha pins s σ H _ I h) λv s1 bB=>?_);obtain⟨x,H1,I1,r1,q1⟩:=bB;obtain⟨c,rfl,q1⟩:=q1;cases r1;refine cM ?_;cases c with
 |true=>exact hb pins s1 σ H1 Q I1 q1
 |false=>exact⟨.bl false,H1,I1,rfl,q1⟩
theorem WZ(ha:PE X a ta)(hb:PE X (.BoolOp .Or (b::rest) pos) tb):PE X (.BoolOp .Or (a::b::rest) pos) (VI ta tb):=by
 intro pins s σ H Q I h;refine BoolOp_or (cT (ha pins s σ H _ I h) λv s1 bB=>?_);obtain⟨x,H1,I1,r1,q1⟩:=bB;obtain⟨c,rfl,q1⟩:=q1;cases r1;refine cM ?_;cases c with
 |false=>exact hb pins s1 σ H1 Q I1 q1
 |true=>exact⟨.bl true,H1,I1,rfl,q1⟩
theorem QQ(ha:PE X a ta):PE X (.UnaryOp .Not a pos) (Pe ta):=by
 intro pins s σ H Q I h;refine UnaryOp_ (cT (ha pins s σ H _ I h) λv s1 bB=>?_);obtain⟨x,H1,I1,r1,q1⟩:=bB;obtain⟨c,rfl,q1⟩:=q1;cases r1;exact not_of (cM ⟨.bl (!c),H1,I1,rfl,q1⟩)
def LH(t:TT)(ta tb:TE):TE:=λσ H Q=>t σ H λc H1=>if c=true then ta σ H1 Q else tb σ H1 Q
theorem a32{c:Expr}(hc:PT X c tA)(ha:PE X a ta)(hb:PE X b tb):PE X (.IfExp c a b pos) (LH tA ta tb):=by
 intro pins s σ H Q I h;refine wpAny_IfExp (cT (hc pins s σ H _ I h) λd s1 ⟨H1,I1,q1⟩=>?_);cases d with
 |true=>exact ha pins s1 σ H1 Q I1 q1
 |false=>exact hb pins s1 σ H1 Q I1 q1
end
def gp(K:PySem.W.Frag)(H:Hp)(a:Addr)(xs:List V):Prop :=
 Rd H a (.lst xs) \/
  ∃(o:Obj) (ba:Array Value) (n:Nat),K.lookup a=some o/\o.cls=.type "list"/\o.dict=none/\o.data=.seq ba n/\ba.size<=sizeLine/\Vals xs ba.toList
def jc(K:PySem.W.Frag)(H:Hp)(a:Addr)(xs:List V):Prop :=
 Rd H a (.tup xs) \/
  ∃(o:Obj) (ba:Array Value) (n:Nat),K.lookup a=some o/\o.cls=.type "tuple"/\o.data=.seq ba n/\ba.size<=sizeLine/\Vals xs ba.toList
def UA:Value->Option V
 |.none=>some .bN
 |.bool b=>some (.bl b)
 |.int i _=>some (.int i)
 |.str x _=>some (.str x)
 |.bytes b _=>some (.lO b)
 |.float b _=>some (.rL b)
 |.ref a=>some (.ref a)
 |.type n=>some (.ty n)
 |_=>none
theorem RelV.abs{x:V}{u:Value}(r:RelV x u):UA u=some x:=by
 cases x with
 |bN=>cases r;rfl
 |bl _=>cases r;rfl
 |int _=>obtain⟨t,rfl⟩:=r;rfl
 |str _=>obtain⟨t,rfl⟩:=r;rfl
 |lO _=>obtain⟨t,rfl⟩:=r;rfl
 |rL _=>obtain⟨t,rfl⟩:=r;rfl
 |ref _=>cases r;rfl
 |ty _=>cases r;rfl
theorem RelV.inj{x y:V}{u:Value}(r:RelV x u)(q:RelV y u):x=y:=aP (r.abs.symm.trans q.abs)
theorem Vals.inj{xs ys:List V}{us:List Value}(h:Vals xs us)(h':Vals ys us):xs=ys:=by
 induction h generalizing ys with
 |nil=>cases h';rfl
 |cons r t ih =>
  cases h' with
  |cons r' t'=>rw[r.inj r',ih t']
section
variable{X:Cx}{pins:List (Addr×Obj)}{σ:St}{H:Hp}{s:Shared}{a:Addr}{xs ys:List V}
theorem gp.of{K:PySem.W.Frag}(h:H a=some (.lst xs)):gp K H a xs:=.inl (.inl h)
theorem Inv.list(I:Inv X pins σ H s)(h:gp X.K H a xs):∃ba:List Value,Vals xs ba/\PlainL s.heap a ba.toArray/\xs.length<=sizeLine:=by
 rcases h with h|⟨o,ba,n,hk,hc,hd,hs,hz,r⟩
 ·obtain⟨z,ba,n,r,e⟩:=h.ok I.bX;exact⟨ba,r,⟨_,n,e,rfl,rfl,rfl⟩,z⟩
 ·refine⟨ba.toList,r,⟨o,n,I.ig a o hk,hc,hd,by simpa using hs⟩,?_⟩;have e:=r.length;simp only[Array.length_toList] at e;omega
theorem Inv.tuple(I:Inv X pins σ H s)(h:jc X.K H a xs):∃ba:List Value,Vals xs ba/\IsTup s.heap a ba.toArray/\xs.length<=sizeLine:=by
 rcases h with h|⟨o,ba,n,hk,hc,hs,hz,r⟩
 ·obtain⟨z,ba,r,p⟩:=h.ok I.bX;exact⟨ba,r,p.tup,z⟩
 ·refine⟨ba.toList,r,⟨o,I.ig a o hk,hc,n,by simpa using hs⟩,?_⟩;have e:=r.length;simp only[Array.length_toList] at e;omega
theorem Inv.Kj(I:Inv X pins σ H s)(h:gp X.K H a xs)(h':gp X.K H a ys):xs=ys:=by
 obtain⟨ba,r,⟨o,n,e,_,_,d⟩,_⟩:=I.list h;obtain⟨its',r',⟨o',n',e',_,_,d'⟩,_⟩:=I.list h';rw[e] at e';cases e';rw[d] at d';injection d' with d1 _;have:ba=its':=by simpa using fx Array.toList d1
 subst this;exact r.inj r'
theorem Inv.YW(I:Inv X pins σ H s)(h:jc X.K H a xs)(h':jc X.K H a ys):xs=ys:=by
 obtain⟨ba,r,⟨o,e,_,n,d⟩,_⟩:=I.tuple h;obtain⟨its',r',⟨o',e',_,n',d'⟩,_⟩:=I.tuple h';rw[e] at e';cases e';rw[d] at d';injection d' with d1 _;have:ba=its':=by simpa using fx Array.toList d1
 subst this;exact r.inj r'
end
noncomputable abbrev Cx.X9(X:Cx)(E:Value->Shared->Prop):Cx:={ X with xe:=E }
theorem Cx.Ok.X9{X:Cx}(ok:X.Ok)(E:Value->Shared->Prop):(X.X9 E).Ok :=
 ⟨ok.mod,ok.kind,ok.glob,ok.blt,ok.above,ok.inj,ok.has,ok.wc,ok.hd,ok.frames,ok.xp,ok.GH,ok.bs,ok.pU,ok.nj,ok.oO,ok.O2,ok.rJ⟩
theorem Cx.Ok.BY{X:Cx}{E:Value->Shared->Prop}(ok:(X.X9 E).Ok):X.Ok :=
 ⟨ok.mod,ok.kind,ok.glob,ok.blt,ok.above,ok.inj,ok.has,ok.wc,ok.hd,ok.frames,ok.xp,ok.GH,ok.bs,ok.pU,ok.nj,ok.oO,ok.O2,ok.rJ⟩
section
variable{X:Cx}{pins:List (Addr×Obj)}{σ:St}{H:Hp}{s:Shared}{E:Value->Shared->Prop}
theorem Inv.X9(I:Inv X pins σ H s)(E:Value->Shared->Prop):Inv (X.X9 E) pins σ H s:=⟨I.ok.X9 E,I.os,I.bare,I.base,I.loc,I.cell,I.free,I.fZ,I.pin,I.bX,I.len⟩
theorem Inv.BY(I:Inv (X.X9 E) pins σ H s):Inv X pins σ H s:=⟨I.ok.BY,I.os,I.bare,I.base,I.loc,I.cell,I.free,I.fZ,I.pin,I.bX,I.len⟩
end
section
variable{X:Cx}{st:Stmt}{rest:List Stmt}{t u:TS}{e:Expr}{te:TE}{pos:Pos}
def KU:TS:=λD σ H=>D.nx σ H
def VM(t u:TS):TS:=λD σ H=>t { D with nx:=u D } σ H
theorem Tt:kP X [] KU:=λ_ _ σ H _ I h=>wpAny_execs_nil ⟨σ,H,I,h⟩
theorem a22(h1:PS X st t)(h2:kP X rest u):kP X (st::rest) (VM t u):=by
 intro pins s σ H D I h;refine wpAny_execs_cons (cT (h1 pins s σ H { D with nx:=u D } I h) λf s1 q=>?_);cases f with
 |next =>
  obtain⟨cF,H',I',q⟩:=q;exact h2 pins s1 cF H' D I' q
 |ret v=>exact q
 |brk=>exact q
 |cont=>exact q
theorem Tr:PS X (.Pass pos) KU:=λ_ _ σ H _ I h=>wpAny_Pass ⟨σ,H,I,h⟩
theorem Inv.quiet{pins:List (Addr×Obj)}{σ:St}{H:Hp}{s:Shared}(I:Inv X pins σ H s):interactive X.env=false:=by simp[interactive,I.ok.kind]
def Pd(te:TE):TS:=λD σ H=>te σ H λ_ H1=>D.nx σ H1
theorem Tq(he:PE X e te)(hs:swapsWith e none pos.line X.env=pure false:=by rfl):PS X (.Expr e pos) (Pd te):=by
 intro pins s σ H D I h;exact wpAny_Expr_any (cT (he pins s σ H _ I h) λv s1 ⟨x,H1,I1,r1,q1⟩=>⟨σ,H1,I1,q1⟩) I.quiet hs
def VL(te:TE):TS:=λD σ H=>te σ H D.rt
theorem Rb(he:PE X e te):PS X (.Return (some e) pos) (VL te):=by
 intro pins s σ H D I h;exact wpAny_Return_some (cT (he pins s σ H _ I h) λv s1 ⟨x,H1,I1,r1,q1⟩=>⟨x,σ,H1,I1,r1,q1⟩)
def Ph:TS:=λD _ H=>D.rt .bN H
theorem Ts:PS X (.Return none pos) Ph:=λ_ _ σ H _ I h=>wpAny_Return_none ⟨.bN,σ,H,I,rfl,h⟩
def VF(c:TT)(t u:TS):TS:=λD σ H=>c σ H λb H1=>if b=true then t D σ H1 else u D σ H1
theorem OJ{c:Expr}{a b:List Stmt}{tc:TT}(hc:PT X c tc)(ha:kP X a t)(hb:kP X b u):PS X (.If c a b pos) (VF tc t u):=by
 intro pins s σ H D I h;refine wpAny_If (cT (hc pins s σ H _ I h) λd s1 ⟨H1,I1,q1⟩=>?_);cases d with
 |true=>exact ha pins s1 σ H1 D I1 q1
 |false=>exact hb pins s1 σ H1 D I1 q1
end
noncomputable abbrev TG:=V->St->Hp->(St->Hp->Prop)->Prop
noncomputable abbrev qd:=List V->St->Hp->(St->Hp->Prop)->Prop
def PG(X:Cx)(target:Expr)(t:TG):Prop :=
 ∀(pins:List (Addr×Obj)) (s:Shared) (σ:St) (H:Hp) (v:V) (u:Value) (Q:St->Hp->Prop),Inv X pins σ H s->RelV v u->t v σ H Q ->
  wpAny (model X.prog X.w) X.A (assign target X.env u) (λ_ s'=>∃cF H',Inv X pins cF H' s'/\Q cF H') X.xe s
def wW(X:Cx)(ts:List Expr)(t:qd):Prop :=
 ∀(pins:List (Addr×Obj)) (s:Shared) (σ:St) (H:Hp) (vs:List V) (us:List Value) (Q:St->Hp->Prop),Inv X pins σ H s->Vals vs us->t vs σ H Q ->
  wpAny (model X.prog X.w) X.A (assignInOrder ((assignEach ts X.env).map (·.2)) us) (λ_ s'=>∃cF H',Inv X pins cF H' s'/\Q cF H') X.xe s
noncomputable abbrev Eh:=V->V->V->Hp->(Hp->Prop)->Prop
def Eg(X:Cx)(t:Eh):Prop :=
 ∀(pins:List (Addr×Obj)) (s:Shared) (σ:St) (H:Hp) (o i v:V) (ov iv u:Value) (Q:Hp->Prop),Inv X pins σ H s->RelV o ov->RelV i iv->RelV v u->t o i v H Q ->
  wpAny (model X.prog X.w) X.A (setItem ov iv u) (λ_ s'=>∃H',Inv X pins σ H' s'/\Q H') X.xe s
section
variable{X:Cx}{pos:Pos}
def tW(i:Nat):TG:=λv σ H Q=>Q (σ.set i (some v)) H
theorem JN{i:Nat}{x:Str}(hN:X.N.Nodup)(hi:X.N[i]?=some x)(hx:Loc X.env.scope x)(hf:X.fn x=true\/X.env.scope.names.lookup x=some .local:=by first|exact .inl rfl|exact .inr rfl|assumption):PG X (.Name x pos) (tW i):=by
 intro pins s σ H v u Q I r h;exact wpAny_assign_Name (Y1 I hN hi hx r (λs' I'=>⟨_,H,I',h⟩) hf)
def Hc:qd:=λvs σ H Q=>vs=[]/\Q σ H
def Kv(t:TG)(u:qd):qd:=λvs σ H Q=>∃v r,vs=v::r/\t v σ H λcF H'=>u r cF H' Q
theorem Tn:wW X [] Hc:=by
 intro pins s σ H vs us Q I r h;obtain⟨e,h⟩:=h;subst e;cases r;exact assignInOrder_nil ⟨σ,H,I,h⟩
theorem a29{e:Expr}{es:List Expr}{t:TG}{u:qd}(h1:PG X e t)(h2:wW X es u)(hs:(assignEach (e::es) X.env).map (·.2)=assign e X.env::(assignEach es X.env).map (·.2):=by rfl):wW X (e::es) (Kv t u):=by
 intro pins s σ H vs us Q I r h;obtain⟨v,vr,e1,h⟩:=h;subst e1;cases r with
 |cons r rr =>
  rw[hs];refine xb (cT (h1 pins s σ H _ _ _ I r h) λ_ s1 bB=>?_);obtain⟨jY,H1,I1,q1⟩:=bB;exact h2 pins s1 jY H1 _ _ Q I1 rr q1
def UR(K:PySem.W.Frag)(n:Nat)(t:qd):TG:=λv σ H Q=>∃a xs,v=.ref a/\jc K H a xs/\xs.length=n/\t xs σ H Q
theorem QV{es:List Expr}{k:Nat}{t:qd}{n:Nat}(hc:X.calm=true)(h:wW X es t)(hn:(assignEach es X.env).length=n:=by rfl)(fq:(assignEach es X.env).findIdx? (·.1)=none:=by rfl):PG X (.Tuple es k pos) (UR X.K n t):=by
 intro pins s σ H v u Q I r hw;obtain⟨a,xs,e1,hq,hl,hw⟩:=hw;subst e1;cases r;obtain⟨ba,rv,ht,hz⟩:=I.tuple hq;refine assign_Tuple_tuple (I.ok.hd hc) ht (by simp[hn,<- hl,rv.length]) fq λh' hx=>?_;have I1:Inv X pins σ H { s with heap:=h' }:=I.kept (t':=s.toks) λb o e=>hx b o (aK (aB e)) e;exact h pins _ σ H xs _ Q I1 (by simpa using rv) hw
def UQ(to ti:TE)(t:Eh):TG:=λv σ H Q=>to σ H λo H1=>ti σ H1 λi H2=>t o i v H2 λH3=>Q σ H3
theorem QU{o i:Expr}{to ti:TE}{t:Eh}(ho:PE X o to)(hi:PE X i ti)(hs:Eg X t)(ha:∀ v,assign (.Subscript o i pos) X.env v=(do
   let ov <- holding [v] (eval o X.env)
   let iv <- holding [v,ov] (eval i X.env)
   standAt pos
   holding [v,ov,iv] (setItem ov iv v)
   release [v,ov,iv] []):=by intro _;rfl):PG X (.Subscript o i pos) (UQ to ti t):=by
 intro pins s σ H v u Q I r h;rw[ha];refine aa (cb (cT (ho pins s σ H _ I h) λov s1 bB=>?_));obtain⟨x,H1,I1,r1,q1⟩:=bB;refine aa (cb (cT (hi pins s1 σ H1 _ I1 q1) λiv s2 bB=>?_));obtain⟨y,H2,I2,r2,q2⟩:=bB;refine aa (eI (aa (cb (cT (hs pins s2 σ H2 x y v ov iv u _ I2 r1 r2 r q2) λ_ s3 ⟨H3,I3,q3⟩=>?_))));exact wpAny_release ⟨σ,H3,I3,q3⟩
def wj(te:TE)(g:TG):TS:=λD σ H=>te σ H λx H1=>g x σ H1 D.nx
theorem Jn{tg e:Expr}{te:TE}{g:TG}(he:PE X e te)(hg:PG X tg g)(hs:swapsWithSole [tg] e pos.line X.env=pure false:=by rfl)(hw:swappedStores [tg] e X.env=pure none:=by rfl)(h1:(assignEach [tg] X.env).map (·.2)=[assign tg X.env]:=by rfl):PS X (.Assign [tg] e pos) (wj te g):=by
 intro pins s σ H D I h;refine wpAny_Assign_stores (cT (he pins s σ H _ I h) λv s1 bB=>?_) hs hw;obtain⟨x,H1,I1,r1,q1⟩:=bB;rw[h1];exact cT (hg pins s1 σ H1 x v _ I1 r1 q1) λ_ s2 q=>q
theorem Jo{i:Nat}{x:Str}{e:Expr}{te:TE}{pos':Pos}(hN:X.N.Nodup)(hi:X.N[i]?=some x)(hx:Loc X.env.scope x)(he:PE X e te)(hs:swapsWith e (some (.Name x pos')) pos.line X.env=pure false:=by rfl)(hf:X.fn x=true\/X.env.scope.names.lookup x=some .local:=by first|exact .inl rfl|exact .inr rfl|assumption) :
  PS X (.Assign [.Name x pos'] e pos) (wj te (tW i)):=by
 intro pins s σ H D I h;refine wpAny_Assign_Name (cT (he pins s σ H _ I h) λv s1 bB=>?_) hs;obtain⟨y,H1,I1,r1,q1⟩:=bB;exact Y1 I1 hN hi hx r1 (λs2 I2=>⟨_,H1,I2,q1⟩) hf
def VJ(i j:Nat)(ta:TA):TS:=λD σ H=>ta σ H λvs H1=>∃v w,vs=[v,w]/\D.nx ((σ.set i (some v)).set j (some w)) H1
theorem Ra{i j:Nat}{x y:Str}{a b:Expr}{ta:TA}{px py pt:Pos}{kt k2 pz}(hc:X.calm=true)(hN:X.N.Nodup)(hi:X.N[i]?=some x)(hj:X.N[j]?=some y)(hX:i≠j)(hx:X.env.scope.names.lookup x=some .local)(hy:X.env.scope.names.lookup y=some .local)(ha:PA X [a,b] ta)(hw:swappedStores [.Tuple [.Name x px,.Name y py] kt pt] (.Tuple [a,b] k2 pz) X.env=pure (some [x,y]))(hs:swapsWithSole [.Tuple [.Name x px,.Name y py] kt pt] (.Tuple [a,b] k2 pz) pos.line X.env=pure false:=by rfl) :
  PS X (.Assign [.Tuple [.Name x px,.Name y py] kt pt] (.Tuple [a,b] k2 pz) pos) (VJ i j ta):=by
 intro pins s σ H D I h;rw[exec_Assign_arm];refine aa (eI ?_);rw[hs];refine aa (aj ?_);rw[aC (by decide)];refine aa (Tuple_ (cT (ha _ pins s σ H _ I h) λus s1 bB=>?_));obtain⟨vs,H1,I1,r1,q1⟩:=bB;obtain⟨v,w,e1,q1⟩:=q1;subst e1;obtain⟨u1,u2,rfl,rv,gn⟩:∃u1 u2,us=[u1,u2]/\RelV v u1/\RelV w u2:=by
  cases r1 with
  |cons p q =>
   cases q with
   |cons p' q' =>
    cases q';exact⟨_,_,rfl,p,p'⟩
 refine cA ?_ (by show 2<=sizeLine;decide);have I2:Inv X pins σ H1 { s1 with heap:=s1.heap.push { cls:=.type "tuple",data:=.seq [u1,u2].toArray } }:=I1.kept (t':=s1.toks) λb o e=>au _ e;rw[hw];refine aa (aj ?_);show wpAny (model X.prog X.w) X.A (do rule "assign.swapped-stores";let items <- unpackItems (.ref s1.heap.objs.size) 2 none;assignInOrder [λv=>bindName X.env y v,λv=>bindName X.env x v] items.reverse;pure Flow.next) _ _ _;refine aa (cX (aa (unpackItems_tuple (items:=#[u1,u2]) (I.ok.hd hc) (IsTup.new s1.heap _) λh' pD=>?_)));have I3:=I2.kept (h':=h') (t':=s1.toks) λb o e=>pD b o (aK (aB e)) e;show wpAny _ _ (assignInOrder [λv=>bindName X.env y v,λv=>bindName X.env x v] [u2,u1] >>= λ_=>pure Flow.next) _ _ _;refine aa (xb (wpAny_bindName (Y1 I3 hN hj (.inl hy) gn (λs2 I4=>?_) (.inr hy))));refine xb (wpAny_bindName (Y1 I4 hN hi (.inl hx) rv (λs3 I5=>assignInOrder_nil (aj ?_)) (.inr hx)));rw[List.set_comm _ _ (cx hX)] at I5;exact⟨_,H1,I5,q1⟩
end
section
variable{X:Cx}{pos:Pos}
end
structure It where
 go:Nat->Hp->Prop
 qr:Nat->Hp->V->Hp->Prop
 stop:Nat->Hp->Prop
def C0(X:Cx)(pins:List (Addr×Obj))(H:Hp)(b:Addr):Prop :=
 H b=none/\b≠X.env.locals/\b∉X.fs/\(b∈X.ex\/X.dB.heap.objs.size<=b)/\(∀x c,X.env.cells.lookup x=some c->c≠b)/\∀p∈X.pn++pins,p.1≠b
theorem Inv.rW{X:Cx}{pins:List (Addr×Obj)}{σ:St}{H H':Hp}{s:Shared}{b:Addr}(I:Inv X pins σ H s)(hb:s.heap.objs.size<=b)(hn:H' b=none):C0 X pins H' b:=by
 refine⟨hn,bV (ay I.lt hb),I.we hb,.inr (aI I.sz hb),λx c e z=>?_,λp hp z=>?_⟩
 ·obtain⟨v,q⟩:=I.cell x c e;exact absurd (ay q.lt (by rw[z];exact hb)) (bH _)
 ·exact absurd (ay (aB (I.pin p hp).1) (by rw[z];exact hb)) (bH _)
structure Turn(P:Program)(w:World)(K:PySem.W.Frag)(tg:Expr)(J:It)(fp:List Addr)(it:Addr)(tn:Nat->Heap->Prop):Prop where
 mem:it∈fp
 obj:∀i h,tn i h->∀b∈fp,∃o,h.get? b=some o/\∀v,o.data≠.cell v
 keep:∀i h h',tn i h->(∀b∈fp,∀o,h.get? b=some o->h'.get? b=some o)->tn i h'
 item:∀(X:Cx),X.prog=P->X.w=w->X.K=K->X.calm=true->∀(i:Nat) (pins:List (Addr×Obj)) (s:Shared) (σ:St) (H:Hp) (E:Value->Shared->Prop),Inv X pins σ H s->(∀b∈fp,C0 X pins H b)->tn i s.heap->J.go i H ->
  wpAny (model P w) X.A (pyNext (.ref it)) (λr s1=>∃ u,r=some u /\
   wpAny (model P w) X.A (letOwnedTupleGo tg (.ref it) u) (λ_ s2=>∃ x H',Inv X pins σ H' s2/\RelV x u/\J.qr i H x H'/\tn (i + 1) s2.heap/\∀ b ∈ fp,H' b=none) E s1) E s
 done:∀(X:Cx),X.prog=P->X.w=w->X.K=K->X.calm=true->∀(i:Nat) (pins:List (Addr×Obj)) (s:Shared) (σ:St) (H:Hp) (E:Value->Shared->Prop),Inv X pins σ H s->(∀b∈fp,C0 X pins H b)->tn i s.heap->J.stop i H ->
  wpAny (model P w) X.A (pyNext (.ref it)) (λr s1=>r=none/\Inv X pins σ H s1) E s
 self:∀(A:Around) (i:Nat) (s:Shared) (Q:Value->Shared->Prop) (E:Value->Shared->Prop),tn i s.heap->Q (.ref it) s->wpAny (model P w) A (pyIter (.ref it)) Q E s
noncomputable abbrev TI:=St->Hp->(It->Hp->Prop)->Prop
def KW(X:Cx)(pins:List (Addr×Obj))(σ:St)(tg:Expr)(R:It->Hp->Prop)(ve:Value)(s2:Shared):Prop :=
 ∃(it:Addr) (fp:List Addr) (tn:Nat->Heap->Prop) (J:It) (H':Hp),ve=.ref it/\Inv X pins σ H' s2/\Turn X.prog X.w X.K tg J fp it tn/\tn 0 s2.heap/\(∀b∈fp,C0 X pins H' b)/\R J H'
def PI(X:Cx)(tg iter:Expr)(wi:TI):Prop :=
 ∀(pins:List (Addr×Obj)) (s:Shared) (σ:St) (H:Hp) (R:It->Hp->Prop),Inv X pins σ H s->wi σ H R ->
  wpAny (model X.prog X.w) X.A (eval iter X.env) (λv s1=>wpAny (model X.prog X.w) X.A (pyIter v) (KW X pins σ tg R) X.xe s1) X.xe s
theorem DA{M:Model}{A:Around}{E:Value->Shared->Prop}{s:Shared}{tg:Expr}{it:Addr}{u:Value}{o:Obj}{n:String}{vs:Array Value}{Q:Unit->Shared->Prop}(ho:s.heap.get? it=some o)(hc:o.cls=.type n)(hd:o.data=.fields vs)(hn:["enumerate","zip","dict_itemiterator","dict_reverseitemiterator","odict_iterator","itertools.zip_longest","itertools.pairwise"].contains n=false)(hQ:Q () s):wpAny M A (letOwnedTupleGo tg (.ref it) u) Q E s:=by
  unfold letOwnedTupleGo;cases tg<;>first
    |exact aj hQ
    | (cases u <;> first
        |exact aj hQ
        | (refine aa (wpAny_load ho ?_)
           rw[hc,hd];show wpAny M A (if(["enumerate","zip","dict_itemiterator","dict_reverseitemiterator","odict_iterator","itertools.zip_longest","itertools.pairwise"].contains n&&vs[0]?==some (rawInt _))=true then _ else _) Q E s;rw[aC (by intro h;rw[hn,Bool.false_and] at h;cases h)];exact aj hQ))
def Ez(K:PySem.W.Frag)(a:Addr):It :=
 ⟨λi H=>∃xs x,gp K H a xs/\xs[i]?=some x,λi H x H'=>H'=H/\∀xs,gp K H a xs->xs[i]?=some x,λi H=>∃xs,gp K H a xs/\xs.length<=i⟩
def Ey(K:PySem.W.Frag)(a:Addr):It :=
 ⟨λi H=>∃xs x,jc K H a xs/\xs[i]?=some x,λi H x H'=>H'=H/\∀xs,jc K H a xs->xs[i]?=some x,λi H=>∃xs,jc K H a xs/\xs.length<=i⟩
def wY(lo:Int)(n:Nat):It:=⟨λi _=>i<n,λi H x H'=>H'=H/\x=.int (lo+i),λi _=>n<=i⟩
theorem YZ{P:Program}{w:World}{K:PySem.W.Frag}{tg:Expr}(a it:Addr):Turn P w K tg (Ez K a) [it] it (λi h=>h.IsListIter it a i) where
 mem:=by simp
 obj:=λi h st b hb=>by
  have e:b=it:=by simpa using hb
  subst e;obtain⟨o,e,c,d⟩:=st;exact⟨o,e,λv z=>by rw[d] at z;cases z⟩
 keep:=λi h h' st k=>st.at λo e=>k it (by simp) o e
 item:=by
  intro X hP hw hK hc i pins s σ H E I hf st hg;subst hP hw hK;obtain⟨xs,x,hq,hx⟩:=hg;obtain⟨ba,rv,p,hz⟩:=I.list hq;obtain⟨u,hu,ru⟩:=rv.get hx;obtain⟨f0,f1,f2,f3,f4,f5⟩:=hf it (by simp);refine wpAny_pyNext_list_item st p.isList (x:=u) (by simpa using hu) λh' aX sb=>?_;have I1:Inv X pins σ H { s with heap:=h' }:=I.turned (t':=s.toks) (λb o hb e=>(sb.2 b hb).trans e) f0 f1 f3 f4 f5;obtain⟨o,e,c,d⟩:=id aX;exact⟨u,rfl,DA (s:={ s with heap:=h' }) e c d (by decide) ⟨x,H,I1,ru,⟨rfl,λys hy=>by rw[I.Kj hy hq];exact hx⟩,aX,λb hb=>(hf b hb).1⟩⟩
 done:=by
  intro X hP hw hK hc i pins s σ H E I hf st hg;subst hP hw hK;obtain⟨xs,hq,hx⟩:=hg;obtain⟨ba,rv,p,hz⟩:=I.list hq;obtain⟨f0,f1,f2,f3,f4,f5⟩:=hf it (by simp);have hl:=rv.length;exact wpAny_pyNext_list_end (I.ok.hd hc) st p.isList (by simp;omega) λh' eb=>⟨rfl,I.turned (t':=s.toks) (λb o hb e=>eb b o hb e) f0 f1 f3 f4 f5⟩
 self:=λ_ _ _ _ _ st h=>wpAny_pyIter_listiter st h
theorem ZJ{P:Program}{w:World}{K:PySem.W.Frag}{tg:Expr}(a it:Addr):Turn P w K tg (Ey K a) [it] it (λi h=>h.IsTupleIter it a i) where
 mem:=by simp
 obj:=λi h st b hb=>by
  have e:b=it:=by simpa using hb
  subst e;obtain⟨o,e,c,d⟩:=st;exact⟨o,e,λv z=>by rw[d] at z;cases z⟩
 keep:=λi h h' st k=>st.at λo e=>k it (by simp) o e
 item:=by
  intro X hP hw hK hc i pins s σ H E I hf st hg;subst hP hw hK;obtain⟨xs,x,hq,hx⟩:=hg;obtain⟨ba,rv,p,hz⟩:=I.tuple hq;obtain⟨u,hu,ru⟩:=rv.get hx;obtain⟨f0,f1,f2,f3,f4,f5⟩:=hf it (by simp);refine wpAny_pyNext_tuple_item st (show s.heap.IsTuple a ba.toArray from p) (x:=u) (by simpa using hu) λh' aX sb=>?_;have I1:Inv X pins σ H { s with heap:=h' }:=I.turned (t':=s.toks) (λb o hb e=>(sb.2 b hb).trans e) f0 f1 f3 f4 f5;obtain⟨o,e,c,d⟩:=id aX;exact⟨u,rfl,DA (s:={ s with heap:=h' }) e c d (by decide) ⟨x,H,I1,ru,⟨rfl,λys hy=>by rw[I.YW hy hq];exact hx⟩,aX,λb hb=>(hf b hb).1⟩⟩
 done:=by
  intro X hP hw hK hc i pins s σ H E I hf st hg;subst hP hw hK;obtain⟨xs,hq,hx⟩:=hg;obtain⟨ba,rv,p,hz⟩:=I.tuple hq;obtain⟨f0,f1,f2,f3,f4,f5⟩:=hf it (by simp);have hl:=rv.length;exact wpAny_pyNext_tuple_end (I.ok.hd hc) st (show s.heap.IsTuple a ba.toArray from p) (by simp;omega) λh' eb=>⟨rfl,I.turned (t':=s.toks) (λb o hb e=>eb b o hb e) f0 f1 f3 f4 f5⟩
 self:=λ_ _ _ _ _ st h=>wpAny_pyIter_tupleiter st h
theorem ZH{P:Program}{w:World}{K:PySem.W.Frag}{tg:Expr}(it:Addr)(lo:Int)(n:Nat):Turn P w K tg (wY lo n) [it] it (λi h=>IsRangeIter h it (lo+(i:Nat)*1) ((n:Int)-(i:Nat)) 1) where
 mem:=by simp
 obj:=λi h st b hb=>by
  have e:b=it:=by simpa using hb
  subst e;exact ⟨_,st,λv z=>by
   have z':Data.fields _=Data.cell v:=z;cases z'⟩
 keep:=λi h h' st k=>k it (by simp) _ st
 item:=by
  intro X hP hw hK hc i pins s σ H E I hf st hg;subst hP hw hK;obtain⟨f0,f1,f2,f3,f4,f5⟩:=hf it (by simp);have W:=Walks.range (prog:=X.prog) (w:=X.w) (I.ok.hd hc) it lo 1 n;refine W.item i s _ _ hg st λv h' tk hv aX kk=>?_;obtain⟨t,rfl⟩:=hv;have I1:Inv X pins σ H { s with heap:=h',toks:=tk }:=I.turned (λb o hb e=>kk b o (by simpa using hb) e) f0 f1 f3 f4 f5;refine⟨_,rfl,DA (s:={ s with heap:=h',toks:=tk }) (n:="range_iterator") aX rfl rfl (by decide) ⟨.int (lo+i),H,I1,⟨t,?_⟩,⟨rfl,rfl⟩,aX,λb hb=>(hf b hb).1⟩⟩;rw[Int.mul_one]
 done:=by
  intro X hP hw hK hc i pins s σ H E I hf st hg;subst hP hw hK;obtain⟨f0,f1,f2,f3,f4,f5⟩:=hf it (by simp);exact wpAny_pyNext_range_end (I.ok.hd hc) st (by have:n<=i:=hg;omega) λh' eb=>⟨rfl,I.turned (t':=s.toks) (λb o hb e=>eb b o hb e) f0 f1 f3 f4 f5⟩
 self:=λ_ _ _ _ _ st h=>wpAny_pyIter_rangeiter st h
section
variable{X:Cx}{tg:Expr}
theorem Hv{pins:List (Addr×Obj)}{σ:St}{H:Hp}{s:Shared}{R:It->Hp->Prop}{E:Value->Shared->Prop}{lo hi:Int}{t u v:Tok}{tk:Nat}(I:Inv X pins σ H s)(h1:-(2 ^ 62)<=lo)(h2:lo<2 ^ 62)(h3:-(2 ^ 62)<=hi)(h4:hi<2 ^ 62)(q:R (wY lo (hi-lo).toNat) H):wpAny (model X.prog X.w) X.A (pyIter (.ref s.heap.objs.size)) (KW X pins σ tg R) E { s with heap:=s.heap.push { cls:=.type "range",data:=.fields #[.int lo t,.int hi u,.int 1 v] },toks:=tk }:=by
 refine wpAny_pyIter_range (IsRange.new ..) (small_one h1 h2 h3 h4) ?_;have I1:Inv X pins σ H { s with heap:=s.heap.push { cls:=.type "range",data:=.fields #[.int lo t,.int hi u,.int 1 v] },toks:=tk }:=I.kept λb o e=>au _ e;refine ⟨(s.heap.push { cls:=.type "range",data:=.fields #[.int lo t,.int hi u,.int 1 v] }).objs.size,[(s.heap.push { cls:=.type "range",data:=.fields #[.int lo t,.int hi u,.int 1 v] }).objs.size],_,_,H,rfl,
  I1.kept (t':=tk) λb o e=>au _ e,ZH _ lo (hi - lo).toNat,?_,λb hb=>?_,q⟩
 ·have e1:lo+((0:Nat):Int)*1=lo:=by simp
  have e2:(((hi-lo).toNat:Nat):Int)-((0:Nat):Int)=Builtin.Range.rangeSize lo hi 1:=by rw[rangeSize_one];split<;>omega
  show IsRangeIter _ _ (lo+((0:Nat):Int)*1) ((((hi-lo).toNat:Nat):Int)-((0:Nat):Int)) 1;rw[e1,e2];exact aF _ rfl
 ·have e:b=(s.heap.push { cls:=.type "range",data:=.fields #[.int lo t,.int hi u,.int 1 v] }).objs.size:=by simpa using hb
  subst e;exact I1.rW (av _) (I1.bX.fresh (av _))
def Ws(ta:TA):TI:=λσ H R=>ta σ H λvs H1=>∃j:Int,vs=[.int j]/\-(2 ^ 62)<=j/\j<2 ^ 62/\R (wY 0 j.toNat) H1
def Wt(ta:TA):TI:=λσ H R=>ta σ H λvs H1=>∃i j:Int,vs=[.int i,.int j]/\(-(2 ^ 62)<=i/\i<2 ^ 62/\-(2 ^ 62)<=j/\j<2 ^ 62)/\R (wY i (j-i).toNat) H1
theorem YH{a:Expr}{ta:TA}{p pos:Pos}(hg:Gl X "range")(hm:X.mg "range"=none)(ha:PA X [a] ta)(hs:starEach [a] X.env=[(false,eval a X.env)]:=by rfl):PI X tg (.Call (.Name "range" p) [a] [] pos) (Ws ta):=by
 intro pins s σ H R I h;refine Call_ (N9 I hg hm boot_range (cE (cT (ha pos pins s σ H _ I h) λus s1 bB=>?_) hs rfl));obtain⟨vs,H1,I1,r1,q1⟩:=bB;obtain⟨j,e,q1,q2,q⟩:=q1;subst e;cases r1 with
 |cons r rr =>
  cases rr;obtain⟨t,rfl⟩:=r;exact call_range_1 (Hv I1 (by omega) (by omega) q1 q2 (by simpa using q))
theorem YI{a b:Expr}{ta:TA}{p pos:Pos}(hg:Gl X "range")(hm:X.mg "range"=none)(ha:PA X [a,b] ta)(hs:starEach [a,b] X.env=[(false,eval a X.env),(false,eval b X.env)]:=by rfl)(gA:starEach [b] X.env=[(false,eval b X.env)]:=by rfl) :
  PI X tg (.Call (.Name "range" p) [a,b] [] pos) (Wt ta):=by
 intro pins s σ H R I h;refine Call_ (N9 I hg hm boot_range (cE (cT (ha pos pins s σ H _ I h) λus s1 bB=>?_) (by rw[hs,gA]) (by rw[gA];rfl)));obtain⟨vs,H1,I1,r1,q1⟩:=bB;obtain⟨i,j,e,⟨q1,q2,q3,q4⟩,q⟩:=q1;subst e;cases r1 with
 |cons r rr =>
  cases rr with
  |cons r' rr =>
   cases rr;obtain⟨t,rfl⟩:=r;obtain⟨t',rfl⟩:=r';exact call_range_2 (Hv I1 q1 q2 q3 q4 q)
def VE(wi:TI)(g:TG)(tb:TS):TS:=λD σ H=>wi σ H λJ H1=>∃W:Nat->Nat->St->Hp->Prop,(∃m,W 0 m σ H1)/\∀i m σ H,W i m σ H ->
 (J.stop i H/\D.nx σ H)\/(J.go i H/\∃N:St->Hp->Prop,(∀cF H',N cF H'->∃m',m'<m/\W (i+1) m' cF H')/\∀x H',J.qr i H x H'->g x σ H' λcR H2=>tb { D with nx:=N,ct:=N,bk:=D.nx } cR H2)
def V9(fp:List Addr)(h:Heap):List (Addr×Obj):=fp.filterMap λb=>(h.get? b).map λo=>(b,o)
theorem O7{fp:List Addr}{h:Heap}{b:Addr}{o:Obj}(hb:b∈fp)(e:h.get? b=some o):(b,o)∈V9 fp h:=kA.mpr ⟨b,hb,by rw[e];rfl⟩
theorem Yw{fp:List Addr}{h:Heap}{p:Addr×Obj}(hp:p∈V9 fp h):p.1∈fp/\h.get? p.1=some p.2:=by
 obtain⟨b,hb,e⟩:=kA.mp hp;cases q:h.get? b with
 |none=>rw[q] at e;cases e
 |some o =>
  rw[q] at e;have e':(b,o)=p:=aP e;subst e';exact⟨hb,q⟩
theorem Inv.pinned{pins:List (Addr×Obj)}{σ:St}{H:Hp}{s:Shared}{fp:List Addr}(I:Inv X pins σ H s)(hf:∀b∈fp,C0 X pins H b)(ho:∀b∈fp,∃o,s.heap.get? b=some o/\∀v,o.data≠.cell v):Inv X (pins++V9 fp s.heap) σ H s :=
 I.K5 λp hp=>(aS.mp hp).elim (λz=>I.pin p (aO _ z)) λz=>by
  obtain⟨hb,e⟩:=Yw z;obtain⟨f0,f1,f2,_⟩:=hf p.1 hb;obtain⟨o,e',d⟩:=ho p.1 hb;rw[e] at e';cases e';exact⟨e,f0,f1,f2,d⟩
theorem Inv.CM{pins pl:List (Addr×Obj)}{σ:St}{H:Hp}{s:Shared}(I:Inv X (pins++pl) σ H s):Inv X pins σ H s:=I.K5 λp hp=>I.pin p (aO _ (bw _ hp))
theorem QZ{iter:Expr}{body:List Stmt}{wi:TI}{g:TG}{tb:TS}{pos:Pos}(hp:PassesOwn (model X.prog X.w) X.A X.env X.xe)(hc:X.calm=true)(hi:PI X tg iter wi)(hg:PG X tg g)(hb:kP X body tb)(hs:∀x,foldedSetIterable iter X.env x=pure x:=by intro _;rfl):PS X (.For tg iter body [] pos) (VE wi g tb):=by
 intro pins s σ H D I h;refine wpAny_For (cT (hi pins s σ H _ I h) λv s1 h1=>cT h1 λve s2 h2=>?_) hs;obtain⟨it,fp,tn,J,H2,e,I2,T,gL,f2,W,⟨m0,w0⟩,turn⟩:=h2;subst e;have qw:∀{H':Hp},(∀b∈fp,H' b=none)->∀b∈fp,C0 X pins H' b:=λhn b hb=>⟨hn b hb,(f2 b hb).2⟩
 refine codeAny_forLoop_any (λn s'=>∃i cF H',Inv X pins cF H' s'/\tn i s'.heap/\(∀b∈fp,H' b=none)/\W i n cF H') ?_ m0 ⟨0,σ,H2,I2,gL,λb hb=>(f2 b hb).1,w0⟩;rintro n s3 ⟨i,lG,H3,I3,jo,pR,w3⟩;rcases turn i n lG H3 w3 with⟨stop,qn⟩|⟨go,N,hN,step⟩
 ·refine gO hp (cT (T.done X rfl rfl rfl hc i pins s3 lG H3 X.xe I3 (qw pR) jo stop) λr s4 ⟨hr,I4⟩=>?_);subst hr;exact wpAny_execs_nil ⟨lG,H3,I4,qn⟩
 ·refine gO hp (cT (T.item X rfl rfl rfl hc i pins s3 lG H3 X.xe I3 (qw pR) jo go) λr s4 ⟨u,hr,h4⟩=>?_);subst hr;refine gO hp (cT h4 λ_ s5 bB=>?_);obtain⟨x,H5,I5,r5,y5,mh,vQ⟩:=bB;have wZ:=I5.pinned (qw vQ) (T.obj _ _ mh);refine gO hp (cT (hg _ s5 lG H5 x u _ wZ r5 (step x H5 y5)) λ_ s6 bB=>?_);obtain⟨lW,H6,I6,q6⟩:=bB;refine gO hp (cT (hb _ s6 lW H6 _ I6 q6) λf s7 q7=>?_);have again:∀{mY:St} {H7:Hp},Inv X (pins++V9 fp s5.heap) mY H7 s7->N mY H7->∃m,m<n/\∃i cF H',Inv X pins cF H' s7/\tn i s7.heap/\(∀b∈fp,H' b=none)/\W i m cF H':=λ{mY H7} I7 n7=>by
   obtain⟨m',hm,w7⟩:=hN mY H7 n7;refine⟨m',hm,i+1,mY,H7,I7.CM,T.keep _ _ _ mh λb hb o e=>(I7.pin (b,o) (aO _ (aO _ (O7 hb e)))).1,λb hb=>?_,w7⟩;obtain⟨o,e,d⟩:=T.obj _ _ mh b hb;exact(I7.pin (b,o) (aO _ (aO _ (O7 hb e)))).2.1
  cases f with
  |next=>obtain⟨mY,H7,I7,n7⟩:=q7;exact again I7 n7
  |cont=>obtain⟨mY,H7,I7,n7⟩:=q7;exact again I7 n7
  |brk=>obtain⟨mY,H7,I7,q7⟩:=q7;exact⟨mY,H7,I7.CM,q7⟩
  |ret v=>obtain⟨x7,mY,H7,I7,r7,q7⟩:=q7;exact⟨x7,mY,H7,I7.CM,r7,q7⟩
end
noncomputable abbrev R2:=V->V->Hp->VK->Prop
def gb(X:Cx)(f:Value->Value->Sem Value)(r:R2):Prop :=
 ∀(pins:List (Addr×Obj)) (s:Shared) (σ:St) (H:Hp) (x y:V) (v u:Value) (Q:VK),Inv X pins σ H s->RelV x v->RelV y u->r x y H Q ->
  wpAny (model X.prog X.w) X.A (f v u) (EP X pins σ Q) X.xe s
def zu(X:Cx)(f:Value->Sem Value)(r:V->Hp->VK->Prop):Prop :=
 ∀(pins:List (Addr×Obj)) (s:Shared) (σ:St) (H:Hp) (x:V) (v:Value) (Q:VK),Inv X pins σ H s->RelV x v->r x H Q ->
  wpAny (model X.prog X.w) X.A (f v) (EP X pins σ Q) X.xe s
def n4(X:Cx)(f:Value)(r:List V->Hp->VK->Prop):Prop :=
 ∀(pins:List (Addr×Obj)) (s:Shared) (σ:St) (H:Hp) (xs:List V) (us:List Value) (Q:VK),Inv X pins σ H s->Vals xs us->r xs H Q ->
  wpAny (model X.prog X.w) X.A (call f us) (EP X pins σ Q) X.xe s
def Uy(X:Cx)(r:V->Hp->(Bool->Hp->Prop)->Prop):Prop :=
 ∀(pins:List (Addr×Obj)) (s:Shared) (σ:St) (H:Hp) (x:V) (v:Value) (Q:Bool->Hp->Prop),Inv X pins σ H s->RelV x v->r x H Q ->
  wpAny (model X.prog X.w) X.A (truthy v) (TP X pins σ Q) X.xe s
def sH(r:R2)(ta tb:TE):TE:=λσ H Q=>ta σ H λx H1=>tb σ H1 λy H2=>r x y H2 Q
def LB(r:V->Hp->VK->Prop)(ta:TE):TE:=λσ H Q=>ta σ H λx H1=>r x H1 Q
def rI(C:Int->Int->Prop)(g:Int->Int->V):R2:=λx y H Q=>∃i j,x=.int i/\y=.int j/\C i j/\Q (g i j) H
def nV(g:Int->Int->V):R2:=λx y H Q=>∃i j,x=.int i/\y=.int j/\Q (g i j) H
def rU(g:Int->V):V->Hp->VK->Prop:=λx H Q=>∃i,x=.int i/\Q (g i) H
section
variable{X:Cx}{a b c:Expr}{ta tb tc:TE}{pos:Pos}
theorem El(ha:PE X a ta)(hb:PE X b tb){pins:List (Addr×Obj)}{s:Shared}{σ:St}{H:Hp}{R:V->V->Hp->Prop}(I:Inv X pins σ H s)(h:ta σ H λx H1=>tb σ H1 λy H2=>R x y H2){Q:Value->Shared->Prop}{f:Value->Value->Sem Value}(hf:∀v u s2 x y H2,Inv X pins σ H2 s2->RelV x v->RelV y u->R x y H2->wpAny (model X.prog X.w) X.A (f v u) Q X.xe s2) :
  wpAny (model X.prog X.w) X.A (eval a X.env) (λv cq=>wpAny (model X.prog X.w) X.A (eval b X.env) (λu iN=>wpAny (model X.prog X.w) X.A (f v u) Q X.xe iN) X.xe cq) X.xe s:=by
 refine cT (ha pins s σ H _ I h) λv s1 bB=>?_;obtain⟨x,H1,I1,r1,q1⟩:=bB;refine cT (hb pins s1 σ H1 _ I1 q1) λu s2 bB=>?_;obtain⟨y,H2,I2,r2,q2⟩:=bB;exact hf v u s2 x y H2 I2 r1 r2 q2
theorem WY{op:Operator}{r:R2}(ho:gb X (binaryOp op) r)(ha:PE X a ta)(hb:PE X b tb):PE X (.BinOp a op b pos) (sH r ta tb):=by
 intro pins s σ H Q I h;exact wpAny_BinOp (El ha hb I h λv u s2 x y H2 I2 rx ry q=>ho pins s2 σ H2 x y v u Q I2 rx ry q)
theorem OG{op:UnaryOp}{r:V->Hp->VK->Prop}(ho:zu X (unaryOp op) r)(ha:PE X a ta):PE X (.UnaryOp op a pos) (LB r ta):=by
 intro pins s σ H Q I h;exact UnaryOp_ (cT (ha pins s σ H _ I h) λv s1 ⟨x,H1,I1,r1,q1⟩=>ho pins s1 σ H1 x v Q I1 r1 q1)
theorem uJ{f:Value->Value->Sem Value}{C:Int->Int->Prop}{g:Int->Int->Int}(rule:∀(i j:Int) (t u:Tok) (s:Shared) (Q:Value->Shared->Prop) (E:Value->Shared->Prop),C i j->Q (.int (g i j) s.toks) { s with toks:=s.toks+1 }->wpAny (model X.prog X.w) X.A (f (.int i t) (.int j u)) Q E s) :
  gb X f (rI C λi j=>.int (g i j)):=by
 intro pins s σ H x y v u Q I rx ry h;obtain⟨i,j,rfl,rfl,hc,q⟩:=h;obtain⟨t,rfl⟩:=rx;obtain⟨t',rfl⟩:=ry;exact rule i j t t' s _ _ hc ⟨.int (g i j),H,I.tok _,⟨_,rfl⟩,q⟩
theorem zr{f:Value->Value->Sem Value}{g:Int->Int->Int}(rule:∀(i j:Int) (t u:Tok) (s:Shared) (Q:Value->Shared->Prop) (E:Value->Shared->Prop),Q (.int (g i j) s.toks) { s with toks:=s.toks+1 }->wpAny (model X.prog X.w) X.A (f (.int i t) (.int j u)) Q E s) :
  gb X f (nV λi j=>.int (g i j)):=by
 intro pins s σ H x y v u Q I rx ry h;obtain⟨i,j,rfl,rfl,q⟩:=h;obtain⟨t,rfl⟩:=rx;obtain⟨t',rfl⟩:=ry;exact rule i j t t' s _ _ ⟨.int (g i j),H,I.tok _,⟨_,rfl⟩,q⟩
theorem zq{f:Value->Value->Sem Value}{g:Int->Int->Bool}(rule:∀(i j:Int) (t u:Tok) (s:Shared) (Q:Value->Shared->Prop) (E:Value->Shared->Prop),Q (.bool (g i j)) s->wpAny (model X.prog X.w) X.A (f (.int i t) (.int j u)) Q E s) :
  gb X f (nV λi j=>.bl (g i j)):=by
 intro pins s σ H x y v u Q I rx ry h;obtain⟨i,j,rfl,rfl,q⟩:=h;obtain⟨t,rfl⟩:=rx;obtain⟨t',rfl⟩:=ry;exact rule i j t t' s _ _ ⟨.bl (g i j),H,I,rfl,q⟩
def Ef(i j:Int):Prop:=0<j/\j<1073741824
def oU(i j:Int):Prop:=0<=j/\j<=1000000/\i.natAbs<2 ^ 64
def rS(i j:Int):Prop:=(-(2 ^ 64)<i/\i<2 ^ 64)\/(-(2 ^ 64)<j/\j<2 ^ 64)
theorem rS.ok{i j:Int}(h:rS i j):IntMulOk i j:=by
 rcases h with⟨h1,h2⟩|⟨h1,h2⟩
 ·exact .of_left (intBits_le_64 h1 h2)
 ·exact .of_right (intBits_le_64 h1 h2)
theorem Qv:gb X (binaryOp .Add) (nV λi j=>.int (i+j)):=zr λ_ _ _ _ _ _ _ q=>add_int q
theorem QF:gb X (binaryOp .Sub) (nV λi j=>.int (i-j)):=zr λ_ _ _ _ _ _ _ q=>sub_int q
theorem QB:gb X (binaryOp .Mult) (rI rS λi j=>.int (i*j)):=uJ λ_ _ _ _ _ _ _ hc q=>mul_int q hc.ok
theorem SX:gb X (binaryOp .FloorDiv) (rI Ef λi j=>.int (i / j)):=uJ λi j _ _ _ _ _ hc q=>by
 have h1:(0:Int)<j:=hc.1;have h2:j<1073741824:=hc.2;exact floordiv_int (by omega) (by rw[Int.fdiv_eq_ediv_of_nonneg i (by omega)];exact q) (.inl (PyProof.noPylong_small (by omega)))
theorem QA:gb X (binaryOp .Mod) (rI (λ_ j=>0<j) λi j=>.int (i % j)):=uJ λi j _ _ _ _ _ hc q=>by
 have h1:(0:Int)<j:=hc;exact mod_int' (by omega) (by rw[Int.fmod_eq_emod_of_nonneg i (by omega)];exact q)
theorem QC:gb X (binaryOp .Pow) (rI oU λi j=>.int (i ^ j.toNat)):=uJ λ_ _ _ _ _ _ _ hc q=>pow_int_small hc.1 hc.2.1 hc.2.2 q
theorem QE:gb X (binaryOp .LShift) (rI oU λi j=>.int (i*2 ^ j.toNat)):=uJ λ_ _ _ _ _ _ _ hc q=>lshift_int_small hc.1 hc.2.1 hc.2.2 q
theorem Qw:gb X (binaryOp .BitAnd) (nV λi j=>.int (Builtin.bitAnd i j)):=zr λ_ _ _ _ _ _ _ q=>and_int q
theorem WR:gb X (binaryOp .BitOr) (nV λi j=>.int (Builtin.bitOr i j)):=zr λ_ _ _ _ _ _ _ q=>or_int q
theorem Ly{f:Value->Sem Value}{g:Int->Int}(rule:∀(i:Int) (t:Tok) (s:Shared) (Q:Value->Shared->Prop) (E:Value->Shared->Prop),Q (.int (g i) s.toks) { s with toks:=s.toks+1 }->wpAny (model X.prog X.w) X.A (f (.int i t)) Q E s) :
  zu X f (rU λi=>.int (g i)):=by
 intro pins s σ H x v Q I rx h;obtain⟨i,rfl,q⟩:=h;obtain⟨t,rfl⟩:=rx;exact rule i t s _ _ ⟨.int (g i),H,I.tok _,⟨_,rfl⟩,q⟩
theorem Sf:zu X (unaryOp .USub) (rU λi=>.int (-i)):=Ly λ_ _ _ _ _ q=>neg_int q
end
def Hk:V->V->Bool
 |.bN,.bN=>true|.bN,.int _=>true|.int _,.bN=>true|.bN,.bl _=>true|.bl _,.bN=>true|.bN,.str _=>true|.str _,.bN=>true
 |.int _,.int _=>true|.bl _,.bl _=>true|.str _,.str _=>true|.lO _,.lO _=>true
 |.int _,.str _=>true|.str _,.int _=>true|.bl _,.str _=>true|.str _,.bl _=>true
 |_,_=>false
def LZ:R2:=λx y H Q=>Hk x y=true/\Q (.bl (decide (x=y))) H
def LY:R2:=λx y H Q=>Hk x y=true/\Q (.bl (!decide (x=y))) H
theorem yV{i j:Int}:decide (V.int i=V.int j)=(i==j):=by
 rw[aZ];simp
theorem yG{i j:Bool}:decide (V.bl i=V.bl j)=(i==j):=by
 rw[aZ];simp
theorem yW{i j:Str}:decide (V.str i=V.str j)=(i==j):=by
 rw[aZ];simp
theorem Jy{i j:Array UInt8}:decide (V.lO i=V.lO j)=(i.toList==j.toList):=by
 rw[aZ];cases i;cases j;simp
section
variable{X:Cx}{a b c:Expr}{ta tb tc:TE}{pos:Pos}
theorem j8{pins:List (Addr×Obj)}{σ:St}{H:Hp}{s:Shared}{Q:VK}{k k':Bool}(I:Inv X pins σ H s)(q:Q (.bl k) H)(e:k=k'):EP X pins σ Q (.bool k') s:=by
 subst e;exact⟨.bl k,H,I,rfl,q⟩
theorem DC:gb X (compareOp .Eq) LZ:=by
 intro pins s σ H x y v u Q I rx ry h;obtain⟨hs,q⟩:=h;cases x with
 |bN =>
  cases rx;cases y with
  |bN=>cases ry;exact PySem.EqNone.eq_none_none (j8 I q (by simp))
  |bl j=>cases ry;exact PySem.EqNone.eq_none_bool (j8 I q (by simp))
  |int j=>obtain⟨t',rfl⟩:=ry;exact PySem.EqNone.eq_none_int (j8 I q (by simp))
  |str j=>obtain⟨t',rfl⟩:=ry;exact PySem.EqNone.eq_none_str (j8 I q (by simp))
  |_=>exact absurd (show false=true from hs) Bool.false_ne_true
 |bl i =>
  cases rx;cases y with
  |bN=>cases ry;exact PySem.EqNone.eq_bool_none (j8 I q (by simp))
  |bl j=>cases ry;exact eq_bool (j8 I q yG)
  |str j=>obtain⟨t',rfl⟩:=ry;exact PySem.EqMixed.eq_bool_str (j8 I q (by simp))
  |_=>exact absurd (show false=true from hs) Bool.false_ne_true
 |int i =>
  obtain⟨t,rfl⟩:=rx;cases y with
  |bN=>cases ry;exact PySem.EqNone.eq_int_none (j8 I q (by simp))
  |int j=>obtain⟨t',rfl⟩:=ry;exact eq_int (j8 I q yV)
  |str j=>obtain⟨t',rfl⟩:=ry;exact PySem.EqMixed.eq_int_str (j8 I q (by simp))
  |_=>exact absurd (show false=true from hs) Bool.false_ne_true
 |str i =>
  obtain⟨t,rfl⟩:=rx;cases y with
  |bN=>cases ry;exact PySem.EqNone.eq_str_none (j8 I q (by simp))
  |bl j=>cases ry;exact PySem.EqMixed.eq_str_bool (j8 I q (by simp))
  |int j=>obtain⟨t',rfl⟩:=ry;exact PySem.EqMixed.eq_str_int (j8 I q (by simp))
  |str j=>obtain⟨t',rfl⟩:=ry;exact eq_str (j8 I q yW)
  |_=>exact absurd (show false=true from hs) Bool.false_ne_true
 |lO i =>
  obtain⟨t,rfl⟩:=rx;cases y with
  |lO j=>obtain⟨t',rfl⟩:=ry;exact PySem.W.eq_bytes (j8 I q Jy)
  |_=>exact absurd (show false=true from hs) Bool.false_ne_true
 |_=>cases y<;>exact absurd (show false=true from hs) fm
theorem DD:gb X (compareOp .NotEq) LY:=by
 intro pins s σ H x y v u Q I rx ry h;obtain⟨hs,q⟩:=h;cases x with
 |bN =>
  cases rx;cases y with
  |bN=>cases ry;exact PySem.EqNone.ne_none_none (j8 I q (by simp))
  |bl j=>cases ry;exact PySem.EqNone.ne_none_bool (j8 I q (by simp))
  |int j=>obtain⟨t',rfl⟩:=ry;exact PySem.EqNone.ne_none_int (j8 I q (by simp))
  |str j=>obtain⟨t',rfl⟩:=ry;exact PySem.EqNone.ne_none_str (j8 I q (by simp))
  |_=>exact absurd (show false=true from hs) Bool.false_ne_true
 |bl i =>
  cases rx;cases y with
  |bN=>cases ry;exact PySem.EqNone.ne_bool_none (j8 I q (by simp))
  |bl j=>cases ry;exact ne_bool (j8 I q (congrArg not yG))
  |str j=>obtain⟨t',rfl⟩:=ry;exact PySem.EqMixed.ne_bool_str (j8 I q (by simp))
  |_=>exact absurd (show false=true from hs) Bool.false_ne_true
 |int i =>
  obtain⟨t,rfl⟩:=rx;cases y with
  |bN=>cases ry;exact PySem.EqNone.ne_int_none (j8 I q (by simp))
  |int j=>obtain⟨t',rfl⟩:=ry;exact ne_int (j8 I q (congrArg not yV))
  |str j=>obtain⟨t',rfl⟩:=ry;exact PySem.EqMixed.ne_int_str (j8 I q (by simp))
  |_=>exact absurd (show false=true from hs) Bool.false_ne_true
 |str i =>
  obtain⟨t,rfl⟩:=rx;cases y with
  |bN=>cases ry;exact PySem.EqNone.ne_str_none (j8 I q (by simp))
  |bl j=>cases ry;exact PySem.EqMixed.ne_str_bool (j8 I q (by simp))
  |int j=>obtain⟨t',rfl⟩:=ry;exact PySem.EqMixed.ne_str_int (j8 I q (by simp))
  |str j=>obtain⟨t',rfl⟩:=ry;exact ne_str (j8 I q (congrArg not yW))
  |_=>exact absurd (show false=true from hs) Bool.false_ne_true
 |lO i =>
  obtain⟨t,rfl⟩:=rx;cases y with
  |lO j=>obtain⟨t',rfl⟩:=ry;exact PySem.W.ne_bytes (j8 I q (congrArg not Jy))
  |_=>exact absurd (show false=true from hs) Bool.false_ne_true
 |_=>cases y<;>exact absurd (show false=true from hs) fm
theorem WQ:gb X (compareOp .Lt) (nV λi j=>.bl (decide (i<j))):=zq λ_ _ _ _ _ _ _ q=>lt_int q
theorem WO:gb X (compareOp .LtE) (nV λi j=>.bl (decide (i<=j))):=zq λ_ _ _ _ _ _ _ q=>le_int q
theorem WN:gb X (compareOp .Gt) (nV λi j=>.bl (decide (j<i))):=zq λ_ _ _ _ _ _ _ q=>gt_int q
theorem WM:gb X (compareOp .GtE) (nV λi j=>.bl (decide (j<=i))):=zq λ_ _ _ _ _ _ _ q=>ge_int q
theorem Qz:gb X (compareOp .Is) (λx y H Q=>y=.bN/\Q (.bl (decide (x=.bN))) H):=by
 intro pins s σ H x y v u Q I rx ry h;obtain⟨rfl,q⟩:=h;cases ry;refine is_none_gen (j8 I q ?_);cases x<;>first
  |(cases rx;rfl)
  |(obtain⟨t,rfl⟩:=rx;rfl)
theorem SY:gb X (compareOp .IsNot) (λx y H Q=>y=.bN/\Q (.bl (!decide (x=.bN))) H):=by
 intro pins s σ H x y v u Q I rx ry h;obtain⟨rfl,q⟩:=h;cases ry;refine isnot_none_gen (j8 I q ?_);cases x<;>first
  |(cases rx;rfl)
  |(obtain⟨t,rfl⟩:=rx;rfl)
theorem JL{op:CmpOp}{r:R2}(ho:gb X (compareOp op) r)(ha:PE X a ta)(hb:PE X b tb)(hm:behindInMarks op b=false):PE X (.Compare a [op] [b] pos) (sH r ta tb):=by
 intro pins s σ H Q I h;exact wpAny_Compare1 (El ha hb I h λv u s2 x y H2 I2 rx ry q=>ho pins s2 σ H2 x y v u Q I2 rx ry q) hm
def DL(t:TE):TT:=λσ H Q=>t σ H λx H'=>∃k,x=.bl k/\Q k H'
theorem JP{op:CmpOp}{r:R2}(ho:gb X (compareOp op) r)(ha:PE X a ta)(hb:PE X b tb)(hm:behindInMarks op b=false):PT X (.Compare a [op] [b] pos) (DL (sH r ta tb)):=by
 intro pins s σ H Q I h;refine wpAny_isTrue_Compare1 (cT (ha pins s σ H _ I h) λv s1 ⟨x,H1,I1,r1,q1⟩=>cT (hb pins s1 σ H1 _ I1 q1) λu s2 ⟨y,H2,I2,r2,q2⟩ =>
  cT (ho pins s2 σ H2 x y v u _ I2 r1 r2 q2) λc s3 ⟨z,H3,I3,r3,k,e,q3⟩=>?_) hm
 subst e;cases r3;exact cM ⟨H3,I3,q3⟩
def BW(r r':R2)(ta tb tc:TE):TE:=λσ H Q=>ta σ H λx H1=>tb σ H1 λy H2=>r x y H2 λz H3=>∃k,z=.bl k /\
 (if k=true then tc σ H3 λw' H4=>r' y w' H4 Q else Q (.bl false) H3)
theorem a34{op iH:CmpOp}{r r':R2}(ho:gb X (compareOp op) r)(ny:gb X (compareOp iH) r')(ha:PE X a ta)(hb:PE X b tb)(hc:PE X c tc)(hm:lastMarks [op,iH] [b,c]=false:=by with_unfolding_all rfl):PE X (.Compare a [op,iH] [b,c] pos) (BW r r' ta tb tc):=by
 intro pins s σ H Q I h;refine Compare_chain (cT (ha pins s σ H _ I h) λv s1 ⟨x,H1,I1,r1,q1⟩=>chain_link (cT (hb pins s1 σ H1 _ I1 q1) λu s2 ⟨y,H2,I2,r2,q2⟩ =>
  cT (ho pins s2 σ H2 x y v u _ I2 r1 r2 q2) λd s3 ⟨z,H3,I3,r3,k,e,q3⟩=>?_)) hm
 subst e;cases r3;refine cM ?_;cases k with
 |false=>exact ite_ff ⟨.bl false,H3,I3,rfl,q3⟩
 |true=>exact ite_tt (chain_last (cT (hc pins s3 σ H3 _ I3 q3) λw' s4 ⟨z',H4,I4,r4,q4⟩=>ny pins s4 σ H4 y z' u w' Q I4 r2 r4 q4))
theorem a21{op iH:CmpOp}{r r':R2}(ho:gb X (compareOp op) r)(ny:gb X (compareOp iH) r')(ha:PE X a ta)(hb:PE X b tb)(hc:PE X c tc)(hm:lastMarks [op,iH] [b,c]=false:=by with_unfolding_all rfl):PT X (.Compare a [op,iH] [b,c] pos) (DL (BW r r' ta tb tc)):=by
 intro pins s σ H Q I h;refine isTrue_chain (cT (ha pins s σ H _ I h) λv s1 ⟨x,H1,I1,r1,q1⟩=>test_link (cT (hb pins s1 σ H1 _ I1 q1) λu s2 ⟨y,H2,I2,r2,q2⟩ =>
  cT (ho pins s2 σ H2 x y v u _ I2 r1 r2 q2) λd s3 ⟨z,H3,I3,r3,k,e,q3⟩=>?_)) hm
 subst e;cases r3;refine cM ?_;cases k with
 |false =>
  obtain⟨k',e',q'⟩:=q3;cases e';exact ite_ff ⟨H3,I3,q'⟩
 |true =>
  refine ite_tt (test_last (cT (hc pins s3 σ H3 _ I3 q3) λw' s4 ⟨z',H4,I4,r4,q4⟩=>cT (ny pins s4 σ H4 y z' u w' _ I4 r2 r4 q4) λd' s5 bB=>?_));obtain⟨z2,H5,I5,r5,k2,e2,q5⟩:=bB;subst e2;cases r5;exact cM ⟨H5,I5,q5⟩
def Ei(K:PySem.W.Frag)(x:V)(H:Hp)(k:Bool):Prop :=
 match x with
 |.bN=>k=false
 |.bl b=>k=b
 |.int i=>k=(i != 0)
 |.str y=>y.length<=sizeLine/\k=((y.length:Int) != 0)
 |.lO y=>y.size<=sizeLine/\k=((y.size:Int) != 0)
 |.ref p=>(∃xs,gp K H p xs/\k=!xs.isEmpty)\/(∃xs,jc K H p xs/\k=!xs.isEmpty)\/∃kvs,H p=some (.dK kvs)/\k=!kvs.isEmpty
 |_=>False
theorem Zj{κ:Type}{kvs:List (κ×V)}{vs:List (κ×Value)}(r:KV kvs vs):(!vs.isEmpty)=!kvs.isEmpty:=by
 cases r<;>rfl
theorem Ir{xs:List V}{ba:List Value}(r:Vals xs ba):(!ba.toArray.isEmpty)=!xs.isEmpty:=by
 cases r<;>simp
theorem R0:(sizeLine:Nat)<2 ^ 63:=by rw[iX];decide
theorem Sd:Uy X (λx H Q=>∃k,Ei X.K x H k/\Q k H):=by
 intro pins s σ H x v Q I rx h;obtain⟨k,e,q⟩:=h;have hl:=R0;have hs:sizeLine=16777216:=iX;cases x with
 |bN =>
  cases rx;have e':k=false:=e;subst e';exact truthy_none ⟨H,I,q⟩
 |bl b =>
  cases rx;have e':k=b:=e;subst e';exact cM ⟨H,I,q⟩
 |int i =>
  obtain⟨t,rfl⟩:=rx;have e':k=(i != 0):=e;subst e';exact PySem.P.truthy_int ⟨H,I,q⟩
 |str y =>
  obtain⟨t,rfl⟩:=rx;obtain⟨hy,e'⟩:y.length<=sizeLine/\k=((y.length:Int) != 0):=e;subst e';exact PySem.P.truthy_str (by omega) ⟨H,I.tok _,q⟩
 |lO y =>
  obtain⟨t,rfl⟩:=rx;obtain⟨hy,e'⟩:y.size<=sizeLine/\k=((y.size:Int) != 0):=e;subst e';exact PySem.W.truthy_bytes (by omega) ⟨H,I.tok _,q⟩
 |ref p =>
  cases rx;have e':(∃xs,gp X.K H p xs/\k=!xs.isEmpty)\/(∃xs,jc X.K H p xs/\k=!xs.isEmpty)\/∃kvs,H p=some (.dK kvs)/\k=!kvs.isEmpty:=e;rcases e' with⟨xs,hx,e'⟩|⟨xs,hx,e'⟩|⟨kvs,hx,e'⟩
  ·subst e';obtain⟨ba,r,pl,hz⟩:=I.list hx;have hlen:=r.length;exact wpAny_truthy_list pl.isList (by simp only[List.size_toArray];omega) ⟨H,I.tok _,by rw[Ir r];exact q⟩
  ·subst e';obtain⟨ba,r,pl,hz⟩:=I.tuple hx;have hlen:=r.length;exact truthy_tuple pl (by simp only[List.size_toArray];omega) ⟨H,I.tok _,by rw[Ir r];exact q⟩
  ·subst e';obtain⟨hz,hS,vs,r,m⟩:kvs.length<=sizeLine/\(p==sysModules)=false/\∃vs,KV kvs vs/\s.heap.DictOf (q9 X.prog X.w) p vs:=I.bX p _ hx;have hlen:kvs.length=vs.length:=mF r;exact wpAny_truthy_dict hS m (by omega) ⟨H,I.tok _,by rw[Zj r];exact q⟩
 |_=>exact(show False from e).elim
theorem a20(ha:PE X a ta)(he:∀whole,isTrue a X.env whole=(do let v <- whole;standAt a.pos;holding [v] (truthy v))) :
  PT X a (λσ H Q=>ta σ H λx H'=>∃k,Ei X.K x H' k/\Q k H'):=by
 intro pins s σ H Q I h;exact isTrue_plain (cT (ha pins s σ H _ I h) λv s1 ⟨x,H1,I1,r1,q1⟩=>Sd pins s1 σ H1 x v Q I1 r1 q1) (he _)
theorem Zu:gb X (binaryOp .Add) (λx y H Q=>∃i j,x=.str i/\y=.str j/\i.length+j.length<=sizeLine/\Q (.str (i++j)) H):=by
 intro pins s σ H x y v u Q I rx ry h;obtain⟨i,j,rfl,rfl,hz,q⟩:=h;obtain⟨t,rfl⟩:=rx;obtain⟨t',rfl⟩:=ry;exact add_str (λt' tk=>⟨.str (i++j),H,I.tok _,⟨_,rfl⟩,q⟩) hz
theorem vals1{x:V}{us:List Value}(r:Vals [x] us):∃u,us=[u]/\RelV x u:=by
 cases r with
 |cons r1 r2=>cases r2;exact⟨_,rfl,r1⟩
theorem vals2{x y:V}{us:List Value}(r:Vals [x,y] us):∃u w',us=[u,w']/\RelV x u/\RelV y w':=by
 cases r with
 |cons r1 r2 =>
  cases r2 with
  |cons r3 r4=>cases r4;exact⟨_,_,rfl,r1,r3⟩
theorem XX(hc:X.calm=true):n4 X (.builtin "max") (λxs H Q=>∃i j,xs=[.int i,.int j]/\Q (.int (if j>i then j else i)) H):=by
 intro pins s σ H xs us Q I r h;obtain⟨i,j,rfl,q⟩:=h;obtain⟨u,w',rfl,⟨t,rfl⟩,⟨t',rfl⟩⟩:=vals2 r;refine max_two_ints (I.ok.hd hc) λh' tk k=>⟨_,H,I.kept k,?_,q⟩
 by_cases hj:j>i
 ·rw[aJ hj,aJ hj];exact⟨_,rfl⟩
 ·rw[aC hj,aC hj];exact⟨_,rfl⟩
theorem X'(hc:X.calm=true):n4 X (.builtin "min") (λxs H Q=>∃i j,xs=[.int i,.int j]/\Q (.int (if j<i then j else i)) H):=by
 intro pins s σ H xs us Q I r h;obtain⟨i,j,rfl,q⟩:=h;obtain⟨u,w',rfl,⟨t,rfl⟩,⟨t',rfl⟩⟩:=vals2 r;refine min_two_ints (I.ok.hd hc) λh' tk k=>⟨_,H,I.kept k,?_,q⟩
 by_cases hj:j<i
 ·rw[aJ hj,aJ hj];exact⟨_,rfl⟩
 ·rw[aC hj,aC hj];exact⟨_,rfl⟩
theorem HK:n4 X (.type "int") (λxs H Q=>(∃i,xs=[.int i]/\Q (.int i) H)\/∃k,xs=[.bl k]/\Q (.int (if k then 1 else 0)) H):=by
 intro pins s σ H xs us Q I r h;rcases h with⟨i,rfl,q⟩|⟨k,rfl,q⟩
 ·obtain⟨u,rfl,t,rfl⟩:=vals1 r;exact call_int_int ⟨.int i,H,I,⟨_,rfl⟩,q⟩
 ·obtain⟨u,rfl,r1⟩:=vals1 r;cases r1;exact call_int_bool ⟨.int (if k then 1 else 0),H,I.tok _,⟨_,rfl⟩,q⟩
end
structure tM(h:Heap)(x dx C:Addr)(mA:Str->Option Value):Prop where
 obj:h.get? x=some (PySem.W.instObj C dx)
 ns:h.Ns1 dx mA
 ne:dx≠x
theorem HS{h:Heap}{dx:Addr}{mA:Str->Option Value}(n:h.Ns1 dx mA):∃od,h.get? dx=some od/\∀name,PySem.W.lookIn name od=some (mA name):=by
 obtain⟨o,es,ep,ho,hd,hk,_,hm⟩:=n;refine⟨o,ho,λname=>?_⟩;have e:=hm name;unfold nsFind findBy at e;rw[<- Array.find?_toList] at e;unfold PySem.W.lookIn;rw[hd];dsimp only;split
 ·rename_i y q;rw[q] at e;exact fx some e
 ·rename_i q;rw[q] at e;have a:es.toList.any (·.refKey)=false:=by
   rw[List.any_eq_false];intro y hy;obtain⟨z,t,gh⟩:=hk y (Array.mem_toList_iff.mp hy);simp[DictEntry.refKey,gh]
  have a':¬es.toList.any (·.refKey)=true:=by rw[a];exact fm
  rw[aC a'];exact fx some e
theorem tM.look{h:Heap}{x dx C:Addr}{mA:Str->Option Value}(I:tM h x dx C mA):∃od,PySem.W.InstAt h x (PySem.W.instObj C dx) C (some od)/\∀name,PySem.W.lookIn name od=some (mA name) :=
 let ⟨od,ho,hl⟩:=HS I.ns
 ⟨od,⟨I.obj,rfl,rfl,ho⟩,hl⟩
section
variable{prog:Program}{w:World}{A:Around}{E:Value->Shared->Prop}{s:Shared}{K:PySem.W.Frag}{x dx C f:Addr}{mA:Str->Option Value}{name:Str}{v:Value}
theorem get_map{expr:Bool}{Q:Value->Shared->Prop}(X:K.In s.heap)(I:tM s.heap x dx C mA)(hg:PySem.W.plainGet K C name=true)(hh:PySem.W.hasDictIn K C=true)(ha:PySem.W.findIn K (.ref C) name=some none)(hv:mA name=some v)(Ao:PySem.W.handedIn v=true)(h:Q v { s with toks:=s.toks+1 }) :
  wpAny (model prog w) A (getAttr (.ref x) name expr) Q E s:=by
 obtain⟨od,J,hl⟩:=I.look;exact PySem.W.get_value X J (PySem.W.plainGet_of hg).1 (PySem.W.findObj_own hh ha rfl (by rw[hl,hv])) Ao h
theorem Uc{ns:List Str}{Q:Unit->Shared->Prop}(X:K.In s.heap)(I:tM s.heap x dx C mA)(hs:PySem.W.findIn K (.ref C) "__setattr__"=some (some (.builtin "object.__setattr__")))(hp:PySem.W.plainOver K C=true)(ht:PySem.W.takerIn K C name=some none)(hh:PySem.W.hasDictIn K C=true)(hw:PySem.Within mA ns)(hsz:ns.length<=sizeLine)(h:∀h',tM h' x dx C (λy=>if y=name then some v else mA y)->Heap.SameBut dx s.heap h'->Q () { s with heap:=h',toks:=s.toks+2 }) :
  wpAny (model prog w) A (setAttr (.ref x) name v) Q E s:=by
 obtain⟨od,J,hl⟩:=I.look;refine PySem.W.set_plain X J hs (PySem.W.osa_open (s:={ s with toks:=s.toks+1 }) (r:=none) X J hp ht λb=>?_);obtain⟨cd,hc,AN⟩:=PySem.W.any_some hh;have hx:s.heap.get? x=some ⟨.ref C,some dx,.plain,#[]⟩:=I.obj;refine aa (aj (aa (aa (wpAny_loadPart hx (aa (PySem.W.Looks.here (s:={ s with toks:=s.toks+1 }) (PySem.W.looks_clsIn X hc) ?_))))));rw[AN];refine aj (a:=some dx) (aa (aj (aa ?_)));refine wpAny_nsSet1 (s:={ s with toks:=s.toks+1 }) I.ns λh' mP gA=>?_;obtain⟨oD,esD,epD,MH,MZ,Na⟩:=mP.count (PySem.Within.cons name v hw);refine aa (wpAny_lookBehind MH (by rw[MZ];exact pastItsLine_dict (aI Na (by rw[dF];omega))) ?_);exact aj (h _ ⟨(gA.2 _ (cx I.ne)).trans I.obj,mP,I.ne⟩ gA)
theorem a41{R:Result->Shared->Prop}{vs:List Value}{kw:List (Str×Value)}(X:K.In s.heap)(hm:PySem.W.makesIn K C=true)(hi:PySem.W.findIn K (.ref C) "__init__"=some (some (.ref f)))(hf:PySem.W.typeIn K (.ref f)=some (.type "function"))(h:codeAny (model prog w) (A.under (.builtin "type.__call__" ⟨.ref C :: vs,kw⟩)) (.call (.ref f) ⟨.ref (s.heap.objs.size + 1) :: vs,kw⟩) (PySem.W.InitBack (s.heap.objs.size + 1) R)
   { s with heap:=(s.heap.push PySem.W.emptyDict).push (PySem.W.instObj C s.heap.objs.size) }) :
  codeAny (model prog w) A (.call (.ref C) ⟨vs,kw⟩) R s:=by
 obtain⟨hh,g,d,t,os⟩:=s;exact PySem.W.make_core (PySem.W.makes_of X hm) (PySem.W.looks_findIn X hi) (λself=>PySem.W.bind_fn X self hf) (.inl rfl) h
end
def A4(f:Str)(v:V):List (Str×V)->List (Str×V)
 |[]=>[(f,v)]
 |(g,x)::r=>if g=f then(g,v)::r else(g,x)::A4 f v r
theorem IH(f g:Str)(v:V):∀fs:List (Str×V),(A4 f v fs).lookup g=if g=f then some v else fs.lookup g
 |[]=>by
  show List.lookup g [(f,v)]=_;by_cases h:g=f
  ·have hb:(g==f)=true:=bz.mpr h;simp only[List.lookup,hb,if_pos h]
  ·have hb:(g==f)=false:=dD.mpr h;simp only[List.lookup,hb,if_neg h]
 |(k,x)::r=>by
  have ih:=IH f g v r;rw[show A4 f v ((k,x)::r)=(if k=f then(k,v)::r else(k,x)::A4 f v r) from rfl];by_cases hk:k=f
  ·rw[aJ hk];by_cases h:g=k
   ·have hb:(g==k)=true:=bz.mpr h;simp only[List.lookup,hb,if_pos (h.trans hk)]
   ·have hb:(g==k)=false:=dD.mpr h;simp only[List.lookup,hb,if_neg (λe:g=f=>h (e.trans hk.symm))]
  ·rw[aC hk];by_cases h:g=k
   ·have hb:(g==k)=true:=bz.mpr h;simp only[List.lookup,hb,if_neg (λe:g=f=>hk (h.symm.trans e))]
   ·have hb:(g==k)=false:=dD.mpr h;simp only[List.lookup,hb];exact ih
theorem CS(f:Str)(v:V):∀fs:List (Str×V),f∈(A4 f v fs).map (·.1)/\∀g,g∈fs.map (·.1)->g∈(A4 f v fs).map (·.1)
 |[]=>⟨by simp[A4],λg h=>by simp at h⟩
 |(k,x)::r=>by
  obtain⟨i1,i2⟩:=CS f v r;rw[show A4 f v ((k,x)::r)=(if k=f then(k,v)::r else(k,x)::A4 f v r) from rfl];by_cases hk:k=f
  ·rw[aJ hk];subst hk;exact⟨by simp,λg h=>by simpa using h⟩
  ·rw[aC hk];refine⟨?_,λg h=>?_⟩
   ·rw[bu];exact bE _ i1
   ·rw[bu] at h ⊢;rcases aE.mp h with e|e
    ·exact aE.mpr (.inl e)
    ·exact bE _ (i2 g e)
theorem IG(f:Str)(v:V):∀fs:List (Str×V),(A4 f v fs).length<=fs.length+1
 |[]=>by simp[A4]
 |(k,x)::r=>by
  have ih:=IG f v r;rw[show A4 f v ((k,x)::r)=(if k=f then(k,v)::r else(k,x)::A4 f v r) from rfl];by_cases hk:k=f
  ·rw[aJ hk,dF,dF];omega
  ·rw[aC hk,dF,dF];omega
theorem F1.some_of{v:V}{o:Option Value}(r:F1 (some v) o):∃u,o=some u/\RelV v u:=by
 cases o with
 |none=>exact(show False from r).elim
 |some u=>exact⟨u,rfl,r⟩
theorem Yh{v:V}{u:Value}(r:RelV v u):PySem.W.handedIn u=true:=by
 cases v with
 |bN=>cases (show u=Value.none from r);rfl
 |bl b=>cases (show u=Value.bool b from r);rfl
 |int i=>obtain⟨t,e⟩:=(show ∃t,u=Value.int i t from r);cases e;rfl
 |str x=>obtain⟨t,e⟩:=(show ∃t,u=Value.str x t from r);cases e;rfl
 |lO b=>obtain⟨t,e⟩:=(show ∃t,u=Value.bytes b t from r);cases e;rfl
 |rL b=>obtain⟨t,e⟩:=(show ∃t,u=Value.float b t from r);cases e;rfl
 |ref a=>cases (show u=Value.ref a from r);rfl
 |ty n=>cases (show u=Value.type n from r);rfl
section
variable{P:Program}{w:World}{H H':Hp}{h h':Heap}{a C dx:Addr}{fs rH:List (Str×V)}
theorem Cq(bX:gK P w H h)(e:H a=some (.ins C dx fs)):∃mA,tM h a dx C mA/\(∀f,F1 (fs.lookup f) (mA f))/\PySem.Within mA (fs.map (·.1))/\fs.length<=1000/\H dx=some (.own a):=by
 obtain⟨d,z,ne,ob,mA,n,r,q⟩:=(show n6 P w H h a (.ins C dx fs) from bX a _ e)
 exact⟨mA,⟨ob,n,ne⟩,r,q,z,d⟩
end
structure ku(K:PySem.W.Frag)(C:Addr):Prop where
 pg:PySem.W.plainGet K C Str.empty=true
 hd:PySem.W.hasDictIn K C=true
 po:PySem.W.plainOver K C=true
 sa:PySem.W.findIn K (.ref C) "__setattr__"=some (some (.builtin "object.__setattr__"))
theorem ku.get{K:PySem.W.Frag}{C:Addr}(c:ku K C)(f:Str):PySem.W.plainGet K C f=true:=c.pg
def B3(K:PySem.W.Frag)(C:Addr)(f:Str):Prop:=PySem.W.findIn K (.ref C) f=some none
theorem B3.Pk{K:PySem.W.Frag}{C:Addr}{f:Str}(n:B3 K C f):PySem.W.takerIn K C f=some none:=by
 unfold PySem.W.takerIn;rw[show PySem.W.findIn K (.ref C) f=some none from n]
 rfl
structure Meth(K:PySem.W.Frag)(C:Addr)(m:Str)(f:Addr):Prop where
 at_:PySem.W.findIn K (.ref C) m=some (some (.ref f))
 fn:PySem.W.isFn K (.ref f)=true
 kp:PySem.W.keepIn K (.ref f)=true
section
variable{X:Cx}{pins:List (Addr×Obj)}{σ:St}{H:Hp}{s:Shared}{a C dx:Addr}{fs:List (Str×V)}{f:Str}{v:V}{A:Around}{E:Value->Shared->Prop}
theorem Zi{b:Bool}{Q:Value->Shared->Prop}(I:Inv X pins σ H s)(e:H a=some (.ins C dx fs))(c:ku X.K C)(n:B3 X.K C f)(l:fs.lookup f=some v)(h:∀u s',Inv X pins σ H s'->RelV v u->Q u s'):wpAny (model X.prog X.w) A (getAttr (.ref a) f b) Q E s:=by
 obtain⟨mA,O,r,_,_,_⟩:=Cq I.bX e;obtain⟨u,hu,ru⟩:=F1.some_of (v:=v) (o:=mA f) (by rw[<- l];exact r f);exact get_map I.ig O (c.get f) c.hd n hu (Yh ru) (h u _ (I.tok _) ru)
theorem ZA{y:V}{u:Value}{Q:Unit->Shared->Prop}(I:Inv X pins σ H s)(e:H a=some (.ins C dx fs))(c:ku X.K C)(n:B3 X.K C f)(hl:fs.length<1000)(ry:RelV y u)(h:∀s',Inv X pins σ (upd H a (.ins C dx (A4 f y fs))) s'->Q () s'):wpAny (model X.prog X.w) A (setAttr (.ref a) f u) Q E s:=by
 obtain⟨mA,O,r,wi,_,ho⟩:=Cq I.bX e;have hz:(fs.map (·.1)).length<=sizeLine:=by rw[ai,iX];omega
 refine Uc I.ig O c.sa c.po n.Pk c.hd wi hz λh' O' sb=>h _ ?_;have hd:∃o,h'.get? dx=some o:=let ⟨o,_,_,e',_⟩:=O'.ns;⟨o,e'⟩
 refine I.write (x:=a) (e:=dx) (by rw[e];exact True.intro) (.inr ho) (λb q hb z=>(sb.2 b hb).trans z) hd ?_;refine⟨by rw[f9 O.ne];exact ho,?_,O.ne,O'.obj,_,O'.ns,λg=>?_,λg hg=>?_⟩
 ·have:=IG f y fs;omega
 ·show F1 ((A4 f y fs).lookup g) (if g=f then some u else mA g);rw[IH];by_cases q:g=f
  ·rw[aJ q,aJ q];exact ry
  ·rw[aC q,aC q];exact r g
 ·by_cases q:g=f
  ·rw[q];exact(CS f y fs).1
  ·refine(CS f y fs).2 g (wi g λz=>hg ?_);show(if g=f then some u else mA g)=none;rw[aC q];exact z
theorem Inv.made(I:Inv X pins σ H s):Inv X pins σ (upd (upd H s.heap.objs.size (.own (s.heap.objs.size+1))) (s.heap.objs.size+1) (.ins C s.heap.objs.size []))
  { s with heap:=(s.heap.push PySem.W.emptyDict).push (PySem.W.instObj C s.heap.objs.size) }:=by
 have e1:(s.heap.push PySem.W.emptyDict).get? s.heap.objs.size=some PySem.W.emptyDict:=aF s.heap rfl;have e2:((s.heap.push PySem.W.emptyDict).push (PySem.W.instObj C s.heap.objs.size)).get? (s.heap.objs.size+1)=some (PySem.W.instObj C s.heap.objs.size):=by
  have:=aF (s.heap.push PySem.W.emptyDict) (o:=PySem.W.instObj C s.heap.objs.size) rfl
  rwa [fb] at this
 have e3:(s.heap.push PySem.W.emptyDict).Ns s.heap.objs.size (λ_=>none):=⟨PySem.W.emptyDict,#[],_,e1,rfl,(λe he=>absurd he (by simp)),λ_=>rfl⟩
 have I1:=I.laid (a:=s.heap.objs.size) (o:=.own (s.heap.objs.size+1)) (h':=s.heap.push PySem.W.emptyDict) (t':=s.toks) (λb u q=>au _ q) (av _) ⟨_,e1⟩;refine I1.laid (a:=s.heap.objs.size+1) (o:=.ins C s.heap.objs.size []) (t':=s.toks) (λb u q=>au _ q) (fz (fb _ _)) ?_;have ne:s.heap.objs.size≠s.heap.objs.size+1:=aK (fJ _);refine⟨by rw[f9 ne,u3],cB _,ne,e2,λ_=>none,(Heap.Ns1.of_empty e3).at λo q=>au _ q,λ_=>True.intro,λy hy=>absurd rfl hy⟩
theorem Su{prog:Program}{w:World}{env:Env}{e:Expr}{f:Str}{pos:Pos}{s:Shared}{Q:Value->Shared->Prop}(hb:attributeBase e f env (eval e env)=eval e env)(h:wpAny (model prog w) A (eval e env) (λo cq=>wpAny (model prog w) A (getAttr o f true) Q E cq) E s):wpAny (model prog w) A (eval (.Attribute e f pos) env) Q E s :=
 Attribute_any_ h (by rw[arm_eval_Attribute,hb])
end
def VD(K:PySem.W.Frag)(ta:TE)(f:Str):TE:=λσ H Q=>ta σ H λx H1=>∃a C dx fs v,x=.ref a/\H1 a=some (.ins C dx fs)/\ku K C/\B3 K C f/\fs.lookup f=some v/\Q v H1
def Vt(K:PySem.W.Frag)(ta tv:TE)(f:Str):TS:=λD σ H=>tv σ H λy H1=>ta σ H1 λx H2=>∃a C dx fs,x=.ref a/\H2 a=some (.ins C dx fs)/\ku K C/\B3 K C f/\fs.length<1000 /\
 D.nx σ (upd H2 a (.ins C dx (A4 f y fs)))
section
variable{X:Cx}{o e value:Expr}{f:Str}{pos pos' zN:Pos}{ta tv:TE}
theorem QM(he:PE X e ta)(hb:attributeBase e f X.env (eval e X.env)=eval e X.env):PE X (.Attribute e f pos) (VD X.K ta f):=by
 intro pins s σ H Q I h;refine Su hb (cT (he pins s σ H _ I h) λu s1 bB=>?_);obtain⟨x,H1,I1,rx,a,C,dx,fs,v,ex,ea,c,n,l,q⟩:=bB;subst ex;obtain rfl:u=Value.ref a:=rx;exact Zi I1 ea c n l λu' s2 I2 ru=>⟨v,H1,I2,ru,q⟩
theorem QY(ha:PE X o ta)(hv:PE X value tv)(hs:swapsWith value (some (.Attribute o f pos')) pos.line X.env=pure false):PS X (.Assign [.Attribute o f pos'] value pos) (Vt X.K ta tv f):=by
 intro pins s σ H D I h;refine plainObj_wpAny_Assign_Attribute (cT (hv pins s σ H _ I h) λu s1 ⟨y,H1,I1,ry,q⟩=>cT (ha pins s1 σ H1 _ I1 q) λov s2 bB=>?_) hs;obtain⟨x,H2,I2,rx,a,C,dx,fs,ex,ea,c,n,l,q2⟩:=bB;subst ex;obtain rfl:ov=Value.ref a:=rx;exact ZA I2 ea c n l ry λs3 I3=>⟨σ,_,I3,q2⟩
end
section
variable{X:Cx}{pins:List (Addr×Obj)}{σ:St}{H:Hp}{s:Shared}{A:Around}{E:Value->Shared->Prop}{Q:Value->Shared->Prop}{c:Value}{b:Bool}
inductive ic(K:PySem.W.Frag)(H:Hp):V->Value->Prop where
 |bN:ic K H .bN (.type "NoneType")
 |bl (x:Bool):ic K H (.bl x) (.type "bool")
 |int (i:Int):ic K H (.int i) (.type "int")
 |str (x:Str):ic K H (.str x) (.type "str")
 |rL (x:UInt64):ic K H (.rL x) (.type "float")
 |lst {a:Addr} {xs:List V} (e:H a=some (.lst xs)):ic K H (.ref a) (.type "list")
 |kj {a:Addr} {o:Obj} {xs:List V} (e:H a=some (.kj o (.lst xs))):ic K H (.ref a) (.type "list")
 |tup {a:Addr} {xs:List V} (e:H a=some (.tup xs)):ic K H (.ref a) (.type "tuple")
 |dK {a:Addr} {kvs:List (Key×V)} (e:H a=some (.dK kvs)):ic K H (.ref a) (.type "dict")
 |dT {a:Addr} {kvs:List (List Key×V)} (e:H a=some (.dT kvs)):ic K H (.ref a) (.type "dict")
 |ins {a C dx:Addr} {fs:List (Str×V)} (e:H a=some (.ins C dx fs)) (cl:ku K C) (ha:PySem.W.findIn K (.ref C) "__class__"=some (some (.builtin "object.__class__")))
   (hn:PySem.W.specialIn K (.builtin "object.__class__") "__get__"=some (some (.builtin "getset_descriptor.__get__"))) (xH:PySem.W.takesIn K (.builtin "object.__class__")=some true)
   (hm:PySem.W.mroIn K C (.type "object")=some true):ic K H (.ref a) (.ref C)
theorem Yk{x:V}{u t:Value}(I:Inv X pins σ H s)(rx:RelV x u)(ty:ic X.K H x t)(e:PySem.W.kitOne X.K t c=some b)(h:∀tk,Q (.bool b) { s with toks:=tk }) :
  wpAny (model X.prog X.w) A (call (.builtin "isinstance") [u,c]) Q E s:=by
 cases ty with
 |bN=>cases (show u=Value.none from rx);exact bU PySem.W.kitx_none I.ig True.intro e (λz=>nomatch z) h
 |bl y=>cases (show u=Value.bool y from rx);exact bU PySem.W.kitx_bool I.ig True.intro e (λz=>nomatch z) h
 |int i=>obtain⟨t,q⟩:=(show ∃t,u=Value.int i t from rx);cases q;exact bU PySem.W.kitx_int I.ig True.intro e (λz=>nomatch z) h
 |str y=>obtain⟨t,q⟩:=(show ∃t,u=Value.str y t from rx);cases q;exact bU PySem.W.kitx_str I.ig True.intro e (λz=>nomatch z) h
 |rL y=>obtain⟨t,q⟩:=(show ∃t,u=Value.float y t from rx);cases q;exact bU PySem.W.kitx_float I.ig True.intro e (λz=>nomatch z) h
 |@lst a xs ea =>
  cases (show u=Value.ref a from rx);obtain⟨_,_,n,_,h1⟩:=(show n6 X.prog X.w H s.heap a (.lst xs) from I.bX a _ ea)
  exact bU PySem.W.kitx_list I.ig ⟨_,h1,rfl⟩ e (λz=>nomatch z) h
 |@kj a ob xs ea =>
  cases (show u=Value.ref a from rx);obtain⟨_,_,_,n,_,h1⟩:=(show n6 X.prog X.w H s.heap a (.kj ob (.lst xs)) from I.bX a _ ea)
  exact bU PySem.W.kitx_list I.ig ⟨_,h1,rfl⟩ e (λz=>nomatch z) h
 |@tup a xs ea =>
  cases (show u=Value.ref a from rx);obtain⟨_,_,_,p⟩:=(show n6 X.prog X.w H s.heap a (.tup xs) from I.bX a _ ea)
  obtain⟨o,h1,h2,_⟩:=p;exact bU Lj I.ig ⟨o,h1,h2⟩ e (λz=>nomatch z) h
 |@dK a kvs ea =>
  cases (show u=Value.ref a from rx);obtain⟨_,_,vs,_,p⟩:=(show n6 X.prog X.w H s.heap a (.dK kvs) from I.bX a _ ea)
  obtain⟨o,es,ep,h1,h2,_⟩:=p;exact bU PySem.W.kitx_dict I.ig ⟨o,h1,h2.1⟩ e (λz=>nomatch z) h
 |@dT a kvs ea =>
  cases (show u=Value.ref a from rx);obtain⟨_,_,xs,_,o,es,ep,h1,h2,_⟩:=(show n6 X.prog X.w H s.heap a (.dT kvs) from I.bX a _ ea)
  exact bU PySem.W.kitx_dict I.ig ⟨o,h1,h2.1⟩ e (λz=>nomatch z) h
 |@ins a C dx fs ea cl ha hn xH hm =>
  cases (show u=Value.ref a from rx);obtain⟨mA,O,_⟩:=Cq I.bX ea;obtain⟨od,J,_⟩:=O.look;exact bU (PySem.W.kitx_own (cl.get _) cl.hd ha hn xH hm) I.ig J e (λz=>nomatch z) h
end
structure x5(k:Nat)(A:Around):Prop where
 hd:A.handled=none
 dp:A.depth+3*k+5<recursionLimit
 un:A.units+16*k+200<cLine
theorem x5.mono{j k:Nat}{A:Around}(r:x5 k A)(h:j<=k):x5 j A:=⟨r.hd,by have:=r.dp;omega,by have:=r.un;omega⟩
theorem x5.deeper{k:Nat}{A:Around}(r:x5 (k+1) A)(env:Env):x5 k (A.deeper env) :=
 ⟨r.hd,by have:=r.dp;show A.depth+1+3*k+5<_;omega,by have:=r.un;show A.units+3+16*k+200<_;omega⟩
theorem Zo{A:Around}{C:Addr}{us:List Value}{kw:List (Str×Value)}:(A.under (.builtin "type.__call__" ⟨.ref C::us,kw⟩)).depth=A.depth+1:=by
 first|rfl|simp[Around.under,Code.weight,Code.isCreation,Code.isGuard,Code.isCaller,Code.frames,Code.isFrame,guardIds]
theorem Zp{A:Around}{C:Addr}{us:List Value}{kw:List (Str×Value)}:(A.under (.builtin "type.__call__" ⟨.ref C::us,kw⟩)).units=A.units+1:=by
 first|rfl|simp[Around.under,Code.cUnits,Code.frames,Code.isFrame]
theorem x5.make{k:Nat}{A:Around}(r:x5 (k+1) A)(C:Addr)(us:List Value)(kw:List (Str×Value)):x5 k (A.under (.builtin "type.__call__" ⟨.ref C::us,kw⟩)) :=
 ⟨r.hd,by have:=r.dp;rw[Zo];omega,by have:=r.un;rw[Zp];omega⟩
theorem x5.depth{k:Nat}{A:Around}(r:x5 k A):A.depth<recursionLimit:=by have:=r.dp;omega
def Ho:TA:=λ_ H Q=>Q [] H
def Pb(ta:TE)(tr:TA):TA:=λσ H Q=>ta σ H λx H1=>tr σ H1 λxs H2=>Q (x::xs) H2
section
variable{X:Cx}{e:Expr}{es:List Expr}{te:TE}{t:TA}{pos:Pos}
theorem W0:PA X [] Ho:=λ_ _ _ _ H Q I h=>Calls.spliced_nil ⟨[],H,I,.nil,h⟩
theorem P5(ha:PE X e te)(hr:PA X es t)(hs:starEach (e::es) X.env=(false,eval e X.env)::starEach es X.env:=by rfl):PA X (e::es) (Pb te t):=by
 intro pos pins s σ H Q I h;rw[hs];show wpAny _ _ (spliced ((false,eval e X.env)::backTo pos (starEach es X.env))) _ _ s;refine Calls.spliced_cons (cT (ha pins s σ H _ I h) λu s1 bB=>?_);obtain⟨x,H1,I1,r1,q1⟩:=bB;exact cT (hr pos pins s1 σ H1 _ I1 q1) λus s2 ⟨xs,H2,I2,r2,q2⟩=>⟨x::xs,H2,I2,.cons r1 r2,q2⟩
def VN(t:TA):TE:=λσ H Q=>t σ H λxs H1=>xs.length<=sizeLine/\∀p,H1 p=none->Q (.ref p) (upd H1 p (.tup xs))
def VG(t:TA):TE:=λσ H Q=>t σ H λxs H1=>xs.length<=sizeLine/\∀p,H1 p=none->Q (.ref p) (upd H1 p (.lst xs))
theorem QS{x1}(h:PA X es t):PE X (.Tuple es x1 pos) (VN t):=by
 intro pins s σ H Q I hq;refine wpAny_Tuple_spliced (cT (h pos pins s σ H _ I hq) λus s1 ⟨xs,H1,I1,r,z,q⟩=>⟨by rw[<- r.length];exact z,?_⟩);have hf:H1 s1.heap.objs.size=none:=I1.bX.fresh (av _);refine⟨.ref s1.heap.objs.size,upd H1 s1.heap.objs.size (.tup xs),I1.laid (t':=s1.toks) (λb u e=>au _ e) (av _) ?_,rfl,q _ hf⟩;exact⟨z,us,r,⟨_,aF _ rfl,rfl,⟨_,rfl⟩,rfl⟩⟩
theorem QO(h:PA X es t):PE X (.List es pos) (VG t):=by
 intro pins s σ H Q I hq;refine wpAny_List_spliced (cT (h pos pins s σ H _ I hq) λus s1 ⟨xs,H1,I1,r,z,q⟩=>⟨by rw[<- r.length];exact z,?_⟩);have hf:H1 s1.heap.objs.size=none:=I1.bX.fresh (av _);refine⟨.ref s1.heap.objs.size,upd H1 s1.heap.objs.size (.lst xs),I1.laid (t':=s1.toks) (λb u e=>au _ e) (av _) ?_,rfl,q _ hf⟩;exact⟨z,us,0,r,aF _ rfl⟩
end
noncomputable abbrev Sp:=List V->Hp->VK->XK->Prop
noncomputable abbrev nR:=List Env->Hp->Shared->XK->Value->Shared->Prop
structure rT(P:Program)(w:World)(K:PySem.W.Frag)(mg:Str->Option Value)(base:Heap)(A:Around)(outer:List Env)(s:Shared)(H:Hp):Prop where
 frames:A.frames=some outer
 mod:Mod K mg base
 bs:∀b o,base.get? b=some o->s.heap.get? b=some o/\H b=none
 pU:base.objs.size<=s.heap.objs.size
 O2:s.heap.FunFrames base outer
 rJ:∀b∈ij outer,H b=none
 bX:gK P w H s.heap
 bare:AllBare s.gens
def CE(outer:List Env)(P:Program)(w:World)(H:Hp)(s:Shared)(Q:VK)(u:Value)(s':Shared):Prop :=
 ∃v H',s'.os=s.os/\AllBare s'.gens/\Un (ij outer) [] H H' s.heap s'.heap/\gK P w H' s'.heap/\RelV v u/\Q v H'
def CR(CX:nR)(outer:List Env)(P:Program)(w:World)(H:Hp)(s:Shared)(Q:VK)(E:XK)(r:Result)(s':Shared):Prop :=
 match r with
 |.ok (.ret u)=>CE outer P w H s Q u s'
 |.ok _=>False
 |.error e=>CX outer H s E e s'
structure iU(P:Program)(w:World)(K:PySem.W.Frag)(mg:Str->Option Value)(base:Heap)(CX:nR)(k:Nat)(f:Addr)(fd:FuncData)(ps:List Str)(sp:Sp):Prop where
 len:∀vs H Q E,sp vs H Q E->vs.length=ps.length
 run:∀(A:Around) (outer:List Env) (s:Shared) (H:Hp) (args:Args) (us:List Value) (vs:List V) (Q:VK) (E:XK),x5 k A->rT P w K mg base A outer s H->BindsTo s fd args (ps.zip us)->Vals vs us->sp vs H Q E ->
  codeAny (model P w) A (.call (.ref f) args) (CR CX outer P w H s Q E) s
theorem rT.make{P:Program}{w:World}{K:PySem.W.Frag}{mg:Str->Option Value}{base:Heap}{A:Around}{outer:List Env}{s:Shared}{H:Hp}(e:rT P w K mg base A outer s H)(C:Addr)(us:List Value)(kw:List (Str×Value)) :
  rT P w K mg base (A.under (.builtin "type.__call__" ⟨.ref C::us,kw⟩)) outer s H:=⟨by first|exact e.frames|(simpa[Around.under,Code.envs,Code.isFrame,pushEnvs] using e.frames),e.mod,e.bs,e.pU,e.O2,e.rJ,e.bX,e.bare⟩
section
variable{X:Cx}{pins:List (Addr×Obj)}{σ:St}{H:Hp}{s s':Shared}
theorem Inv.Hb(I:Inv X pins σ H s):rT X.prog X.w X.K X.mg X.base X.A X.stack s H :=
 ⟨I.ok.frames,I.ok.mod,I.bs,aI I.ok.pU I.sz,I.stack,I.Cw,I.bX,I.bare⟩
theorem Inv.after{Q:VK}{u:Value}(I:Inv X pins σ H s)(h:CE X.stack X.prog X.w H s Q u s'):EP X pins σ Q u s':=by
 obtain⟨v,H',os,bare,un,bX,r,q⟩:=h;obtain⟨hh,g,d,t,uI⟩:=s';obtain rfl:uI=s.os:=os;exact⟨v,H',I.call (h':=hh) (g':=g) (d':=d) (t':=t) (ch:=[]) un bX bare (λb z=>absurd z (by simp)),r,q⟩
end
def Pa(sp:Sp)(kO:List V)(E:XK)(t:TA):TE:=λσ H Q=>t σ H λvs H1=>sp (vs++kO) H1 Q E
def KS(C:Addr)(sp:Sp)(kO:List V)(E:XK)(t:TA):TE:=λσ H Q=>t σ H λvs H1=>∀x dx,H1 x=none->H1 dx=none->dx≠x ->
 sp (.ref x::(vs++kO)) (upd (upd H1 dx (.own x)) x (.ins C dx [])) (λv H2=>v=.bN/\Q (.ref x) H2) E
def Binds(K:PySem.W.Frag)(fd:FuncData)(ps:List Str)(ds:List Value):Prop :=
 ∀(s:Shared) (us:List Value),K.In s.heap->(us++ds).length=ps.length->BindsTo s fd ⟨us,[]⟩ (ps.zip (us++ds))
theorem Binds.all{K:PySem.W.Frag}{fd:FuncData}{ps:List Str}(h:∀us:List Value,us.length=ps.length->bindArgs fd ⟨us,[]⟩=pure (ps.zip us)):Binds K fd ps []:=λs us _ hl=>by
 rw[de] at hl ⊢;exact .of_eq (h us hl)
def Passes(CX:nR)(X:Cx)(E:XK):Prop:=∀(pins:List (Addr×Obj)) (σ:St) (H:Hp) (s:Shared) (e:Value) (s':Shared),Inv X pins σ H s->CX X.stack H s E e s'->X.xe e s'
section
variable{X:Cx}{CX:nR}{k:Nat}{f C:Addr}{fd:FuncData}{ps:List Str}{sp:Sp}{kO:List V}{ds:List Value}{E:XK}{x m:Str}{p pos apos:Pos}{e o:Expr}{es:List Expr}{ta:TE}{t:TA}
theorem Rj{pins:List (Addr×Obj)}{σ:St}{H:Hp}{s:Shared}{Q:VK}{us:List Value}{vs:List V}(F:iU X.prog X.w X.K X.mg X.base CX k f fd ps sp)(hr:x5 k X.A)(hb:Binds X.K fd ps ds)(hd:Vals kO ds)(hx:Passes CX X E)(I:Inv X pins σ H s)(r:Vals vs us)(h:sp (vs++kO) H Q E):wpAny (model X.prog X.w) X.A (call (.ref f) us) (EP X pins σ Q) X.xe s:=by
 have r2:Vals (vs++kO) (us++ds):=r.append hd;have hl:(us++ds).length=ps.length:=by rw[<- r2.length];exact F.len _ _ _ _ h
 refine wpAny_call (gZ (F.run X.A X.stack s H ⟨us,[]⟩ (us++ds) (vs++kO) Q E hr I.Hb (hb s us I.ig hl) r2 h) λr s' hq=>?_);cases r with
 |error e=>exact hx pins σ H s e s' I hq
 |ok fl =>
  cases fl with
  |ret u=>exact I.after hq
  |next=>exact False.elim hq
  |brk=>exact False.elim hq
  |cont=>exact False.elim hq
theorem Tf(F:iU X.prog X.w X.K X.mg X.base CX k f fd ps sp)(hr:x5 k X.A)(hg:Gl X x)(hm:X.mg x=some (.ref f))(hk:PySem.W.keepIn X.K (.ref f)=true)(hb:Binds X.K fd ps ds)(hd:Vals kO ds)(hx:Passes CX X E)(ha:PA X (e::es) t)(jb:(x==("__debug__":Str))=false:=by decide)(he:starEach (e::es) X.env=(false,eval e X.env)::starEach es X.env:=by rfl)(iC:(backTo pos (starEach es X.env)).any (·.1)=false:=by rfl) :
  PE X (.Call (.Name x p) (e::es) [] pos) (Pa sp kO E t):=by
 intro pins s σ H Q I h;refine dh (W6 I hg hm ?_ jb);refine Ll (h₀:=X.base) I.ok.mod.nW hk (cT (ha pos pins s σ H _ I h) λus s1 ⟨vs,H1,I1,r,q⟩=>⟨I1.ig,?_⟩) he iC;exact Rj F hr hb hd hx I1 r q
structure Mk(K:PySem.W.Frag)(C f:Addr):Prop where
 makes:PySem.W.makesIn K C=true
 init:PySem.W.findIn K (.ref C) "__init__"=some (some (.ref f))
 fn:PySem.W.isFn K (.ref f)=true
 kp:PySem.W.keepIn K (.ref C)=true
theorem Hw{pins:List (Addr×Obj)}{σ:St}{H:Hp}{s:Shared}{Q:VK}{us:List Value}{vs:List V}(M:Mk X.K C f)(F:iU X.prog X.w X.K X.mg X.base CX k f fd ps sp)(hr:x5 (k+1) X.A)(hb:Binds X.K fd ps ds)(hd:Vals kO ds)(hx:Passes CX X E)(I:Inv X pins σ H s)(r:Vals vs us)(h:∀x dx,H x=none->H dx=none->dx≠x->sp (.ref x::(vs++kO)) (upd (upd H dx (.own x)) x (.ins C dx [])) (λv H2=>v=.bN/\Q (.ref x) H2) E) :
  wpAny (model X.prog X.w) X.A (call (.ref C) us) (EP X pins σ Q) X.xe s:=by
 have hq:=h (s.heap.objs.size+1) s.heap.objs.size (I.bX.fresh (cL _)) (I.bX.fresh (av _)) (aK (fJ _));have I2:=Inv.made (C:=C) I;have r2:Vals (V.ref (s.heap.objs.size+1)::(vs++kO)) (Value.ref (s.heap.objs.size+1)::(us++ds)):=.cons rfl (r.append hd);have hl:(Value.ref (s.heap.objs.size+1)::us++ds).length=ps.length:=by
  have e:=r2.length;rw[F.len _ _ _ _ hq] at e;exact e.symm
 refine wpAny_call (a41 (f:=f) I.ig M.makes M.init (bz.mp M.fn) (gZ (F.run _ X.stack _ _ ⟨Value.ref (s.heap.objs.size + 1) :: us,[]⟩ (Value.ref (s.heap.objs.size + 1) :: (us ++ ds)) _ _ E (hr.make C us [])
  (I2.Hb.make C us []) (hb _ (Value.ref (s.heap.objs.size + 1) :: us) I2.ig hl) r2 hq) λr s' nv=>?_))
 cases r with
 |error e=>exact hx pins σ _ _ e s' I2 nv
 |ok fl =>
  cases fl with
  |ret u =>
   obtain⟨v,H',I3,rv,ev,q3⟩:=I2.after nv;subst ev;exact⟨rv,⟨V.ref (s.heap.objs.size+1),H',I3,rfl,q3⟩⟩
  |next=>exact False.elim nv
  |brk=>exact False.elim nv
  |cont=>exact False.elim nv
theorem Ti(M:Mk X.K C f)(F:iU X.prog X.w X.K X.mg X.base CX k f fd ps sp)(hr:x5 (k+1) X.A)(hg:Gl X x)(hm:X.mg x=some (.ref C))(hb:Binds X.K fd ps ds)(hd:Vals kO ds)(hx:Passes CX X E)(ha:PA X (e::es) t)(jb:(x==("__debug__":Str))=false:=by decide)(he:starEach (e::es) X.env=(false,eval e X.env)::starEach es X.env:=by rfl)(iC:(backTo pos (starEach es X.env)).any (·.1)=false:=by rfl) :
  PE X (.Call (.Name x p) (e::es) [] pos) (KS C sp kO E t):=by
 intro pins s σ H Q I h;refine dh (W6 I hg hm ?_ jb);refine Ll (h₀:=X.base) I.ok.mod.nW M.kp (cT (ha pos pins s σ H _ I h) λus s1 ⟨vs,H1,I1,r,q⟩=>⟨I1.ig,?_⟩) he iC;exact Hw M F hr hb hd hx I1 r q
theorem a31(M:Mk X.K C f)(F:iU X.prog X.w X.K X.mg X.base CX k f fd ps sp)(hr:x5 (k+1) X.A)(hg:Gl X x)(hm:X.mg x=some (.ref C))(hb:Binds X.K fd ps ds)(hd:Vals kO ds)(hx:Passes CX X E)(jb:(x==("__debug__":Str))=false:=by decide):PE X (.Call (.Name x p) [] [] pos) (KS C sp kO E Ho):=by
 intro pins s σ H Q I h;refine dh (W6 I hg hm ?_ jb);exact PySem.W.callWith_K0 I.ig M.kp (Hw (us:=[]) M F hr hb hd hx I .nil h)
end
section
variable{X:Cx}{CX:nR}{k:Nat}{f C:Addr}{fd:FuncData}{ps ks:List Str}{sp:Sp}{E:XK}{x m:Str}{p pos apos Mq:Pos}{e o:Expr}{es:List Expr}{jC:List Keyword}{te ta:TE}{t tk:TA}{nm:Option Str}
variable{g:List Value->List Value->List Value}{gV:List V->List V->List V}
end
structure jd(N P:List Str)(sc:Scope):Prop where
 kind:sc.kind=.function
 co:sc.isCoroutine=false
 gen:sc.isGenerator=false
 nd:N.Nodup
 pre:N.take P.length=P
 par:∀x∈P,sc.names.lookup x=some .local\/sc.names.lookup x=some .cell
 ni:∀y∈sc.names,y.2≠.free
theorem HJ{kindOf:Str->Option NameKind}{x:Str}:∀{binds:List (Str×Value)} {m:Str->Option Value},(∀v,(x,v)∉binds)->bindL kindOf binds m x=m x
 |[],_,_=>rfl
 |(n,v)::r,m,h=>by
  unfold bindL;rw[HJ λw hw=>h w (bE _ hw)];split
  ·have:x≠n:=by rintro rfl;exact h v cO
   simp[this]
  ·rfl
theorem HG{kindOf:Str->Option NameKind}{x:Str}:∀{binds:List (Str×Value)} {m:Str->Option Value},(∀v,(x,v)∉binds)->bindC kindOf binds m x=m x
 |[],_,_=>rfl
 |(n,v)::r,m,h=>by
  unfold bindC;rw[HG λw hw=>h w (bE _ hw)];split
  ·rfl
  ·have:x≠n:=by rintro rfl;exact h v cO
   simp[this]
theorem HH{kindOf:Str->Option NameKind}{x:Str}{v:Value}:∀{P:List Str} {vs:List Value} {i:Nat} {m:Str->Option Value},P.Nodup->P[i]?=some x->vs[i]?=some v->kindOf x=some .local ->
  bindL kindOf (P.zip vs) m x=some v
 |[],_,_,_,_,h,_,_=>by simp at h
 |_::_,[],_,_,_,_,h,_=>by simp at h
 |p::P,w::vs,0,m,nd,h1,h2,hk=>by
  simp at h1 h2;subst h1;subst h2;show bindL kindOf ((p,w)::P.zip vs) m p=_;unfold bindL;rw[HJ λv hv=>(dU.mp nd).1 (mU hv).1,aJ hk];simp
 |p::P,w::vs,i+1,m,nd,h1,h2,hk=>by
  show bindL kindOf ((p,w)::P.zip vs) m x=_;unfold bindL;exact HH (i:=i) (dU.mp nd).2 (by simpa using h1) (by simpa using h2) hk
theorem HF{kindOf:Str->Option NameKind}{x:Str}{v:Value}:∀{P:List Str} {vs:List Value} {i:Nat} {m:Str->Option Value},P.Nodup->P[i]?=some x->vs[i]?=some v->kindOf x≠some .local ->
  bindC kindOf (P.zip vs) m x=some v
 |[],_,_,_,_,h,_,_=>by simp at h
 |_::_,[],_,_,_,_,h,_=>by simp at h
 |p::P,w::vs,0,m,nd,h1,h2,hk=>by
  simp at h1 h2;subst h1;subst h2;show bindC kindOf ((p,w)::P.zip vs) m p=_;unfold bindC;rw[HG λv hv=>(dU.mp nd).1 (mU hv).1,aC hk];simp
 |p::P,w::vs,i+1,m,nd,h1,h2,hk=>by
  show bindC kindOf ((p,w)::P.zip vs) m x=_;unfold bindC;exact HF (i:=i) (dU.mp nd).2 (by simpa using h1) (by simpa using h2) hk
def start(N:List Str)(vs:List V):St:=vs.map some++List.replicate (N.length-vs.length) none
def oX(CX:nR)(P:Program)(w:World)(K:PySem.W.Frag)(mg:Str->Option Value)(base:Heap)(N:List Str)(qual:Str)(scope:Scope)(f:Addr)(cd:Value)(A:Around)(outer:List Env)(s:Shared)(H:Hp)(E:XK):Cx where
 prog:=P
 w:=w
 K:=K
 mg:=mg
 base:=base
 A:=A.deeper (envOfC qual scope s.heap.objs.size f cd)
 N:=N
 dB:=s
 jF:=H
 env:=envOfC qual scope s.heap.objs.size f cd
 outer:=outer
 stack:=envOfC qual scope s.heap.objs.size f cd::outer
 ex:=[]
 calm:=true
 fn:=λ_=>true
 pn:=[]
 xe:=λe s'=>wpAny (model P w) (A.deeper (envOfC qual scope s.heap.objs.size f cd)) (leaving (envOfC qual scope s.heap.objs.size f cd) e) (λ_ ou=>CX outer H s E e ou) (λe' ou=>CX outer H s E e' ou) s'
theorem Cz{sc:Scope}{n:Nat}{x:Str}(h:sc.names.lookup x=some .cell):∃c,(cellsFrom n sc.names []).lookup x=some c:=by
 have q:=dO sc.names n [] (.inl h);exact eZ.mp q
theorem Yj{CX:nR}{P:Program}{w:World}{K:PySem.W.Frag}{mg:Str->Option Value}{base:Heap}{N ps:List Str}{qual:Str}{scope:Scope}{f:Addr}{cd:Value}{A:Around}{outer:List Env}{s s1:Shared}{H:Hp}{E:XK}{us:List Value}{vs:List V}(S:jd N ps scope)(hd:A.handled=none)(e0:rT P w K mg base A outer s H)(hl:vs.length=ps.length)(r:Vals vs us)(x:InCallC s s.heap.objs.size (bindL (envOfC qual scope s.heap.objs.size f cd).kindOf (ps.zip us) λ_=>none) (cellsFrom (s.heap.objs.size+1) scope.names []) (bindC (envOfC qual scope s.heap.objs.size f cd).kindOf (ps.zip us) λ_=>none) s1) :
  Inv (oX CX P w K mg base N qual scope f cd A outer s H E) [] (start N vs) H s1:=by
 have iC:ps.length<=N.length:=by have:=fx List.length S.pre;rw[cY] at this;omega
 obtain⟨h1,tk,rfl,hk⟩:=x.done;have uP:∀b:Addr,b∉(oX CX P w K mg base N qual scope f cd A outer s H E).ex:=λb z=>absurd (show b∈([]:List Addr) from z) (by simp);refine ⟨⟨e0.mod,S.kind,rfl,rfl,av _,λy z c h1 h2=>?_,λy hy=>?_,λy c _ h=>?_,λ_=>hd,Around.frames_deeper e0.frames,.inr ⟨rfl,rfl⟩,λb z=>absurd z (uP b),e0.bs,e0.pU,λb _ _=>uP b,λb z=>absurd z (uP b),e0.O2,e0.rJ⟩,
  rfl,e0.bare,Un.kept hk,⟨_,x.toInCall.ns,λi y v h1 h2 h3=>?_⟩,λy c h=>⟨_,x.cell y c h⟩,e0.bX.fresh (av _),λy c h=>?_,λp hp=>absurd (show p ∈ ([]:List (Addr × Obj)) from hp) (by simp),e0.bX.kept hk,?_⟩
 ·exact name_of_addr x.apart (aQ h1) (aQ h2)
 ·have hy:scope.names.lookup y=some .cell\/scope.names.lookup y=some .free:=hy;rcases hy with hy|hy
  ·exact Cz hy
  ·exact absurd rfl (S.ni _ (aQ hy))
 ·exact eL (x.above y c (aQ h))
 ·have hi:i<vs.length:=by
   unfold start at h2;by_cases hi:i<vs.length
   ·exact hi
   ·rw[eF (by simpa using hi)] at h2;rw[fu] at h2;split at h2<;>cases h2
  have ha:vs[i]?=some v:=by
   unfold start at h2;rw[aL (by simpa using hi),ao] at h2;cases e:vs[i]? with
   |none=>rw[e] at h2;cases h2
   |some a=>rw[e] at h2;cases h2;rfl
  obtain⟨u,hu,rv⟩:=r.get ha;have hp:ps[i]?=some y:=by
   rw[<- S.pre,qk (by omega)];exact h1
  have Fs:ps.Nodup:=by rw[<- S.pre];exact S.nd.sublist (List.take_sublist _ _)
  refine⟨u,rv,?_⟩;rcases S.par y (aN hp) with k|k
  ·exact .inl ⟨k,HH Fs hp hu k⟩
  ·obtain⟨c,e⟩:=Cz (n:=s.heap.objs.size+1) k;refine .inr ⟨.inl k,c,e,?_⟩;have q:=x.cell y c e;rw[HF Fs hp hu (by show scope.names.lookup y≠_;rw[k];decide)] at q;exact q
 ·exact e0.bX.fresh (eL (x.above y c (aQ h)))
 ·unfold start;show _=N.length;rw[bj,ai,xh];omega
theorem Wo{CX:nR}{P:Program}{w:World}{K:PySem.W.Frag}{mg:Str->Option Value}{base:Heap}{k:Nat}{f:Addr}{name qual:Str}{params:Arguments}{body:List Stmt}{scope:Scope}{dV kV doc pm fW ct oc:Value}{an od:Option Addr}{mL:Array (Option Value)}{N ps:List Str}{sp:Sp}(lk:K.lookup f=some ⟨oc,od,.func (PySem.W.fnOf name qual params body scope dV kV doc pm an fW ct),mL⟩)(mq:PySem.W.codeIn K fW qual=true)(S:jd N ps scope)(len:∀vs H Q E,sp vs H Q E->vs.length=ps.length)(vz:∀ (A:Around) (outer:List Env) (s:Shared) (H:Hp) (vs:List V) (Q:VK) (E:XK),x5 k (A.deeper (envOfC qual scope s.heap.objs.size f fW))->sp vs H Q E ->
   ∃ t,kP (oX CX P w K mg base N qual scope f fW A outer s H E) body t/\t { nx:=λ_ H'=>Q .bN H',rt:=Q } (start N vs) H) :
  iU P w K mg base CX (k+1) f (PySem.W.fnOf name qual params body scope dV kV doc pm an fW ct) ps sp:=by
 refine⟨len,λA outer s H args us vs Q E hr e0 hb r sU=>?_⟩;have hl:=len _ _ _ _ sU;have KX:K.In s.heap:=e0.mod.nW.keeps λb o e=>(e0.bs b o e).1;have lim:s.heap.NoLimit:=e0.mod.nolimit.keeps λb o e=>(e0.bs b o e).1;have vn:∀y∈ps.zip us,scope.names.lookup y.1=some .local\/(scope.names.lookup y.1=some .cell/\((cellsFrom (s.heap.objs.size+1) scope.names []).lookup y.1).isSome=true):=λ⟨n,v⟩ hy=>by
  rcases S.par n (mU hy).1 with q|q
  ·exact .inl q
  ·exact .inr ⟨q,dO _ _ _ (.inl q)⟩
 refine codeAny_call_function hr.depth (KX _ _ lk) rfl S.co S.gen rfl (PySem.W.codeRec_of KX mq) (hb _ _ _ _ ?_);refine wpAny_newFunctionEnv_cells S.kind vn λenv he s1 x=>?_;subst he;refine⟨lim.keeps x.toInCall.keep,codeAny_func ?_⟩;obtain⟨t,ht,hq⟩:=vz A outer s H vs Q E (hr.deeper _) sU;have I:Inv (oX CX P w K mg base N qual scope f fW A outer s H E) [] (start N vs) H s1:=Yj S hr.hd e0 hl r x;refine bI (ht [] s1 (start N vs) H _ I hq) (λfl s' hs=>?_) λe s' hs=>hs;have fin:∀{cF:St} {H':Hp} {v:V} {u:Value},Inv (oX CX P w K mg base N qual scope f fW A outer s H E) [] cF H' s'->RelV v u->Q v H'->CE outer P w H s Q u s' :=
  λ{cF H' v u} J rv q=>⟨v,H',J.os,J.bare,J.base,J.bX,rv,q⟩
 cases fl with
 |ret u =>
  obtain⟨v,cF,H',J,rv,q⟩:=hs;exact fin J rv q
 |next =>
  obtain⟨cF,H',J,q⟩:=hs;exact fin (v:=V.bN) (u:=Value.none) J rfl q
 |brk =>
  obtain⟨_,_,_,q⟩:=hs;exact False.elim q
 |cont =>
  obtain⟨_,_,_,q⟩:=hs;exact False.elim q
section
variable{X:Cx}{x:Str}{p pos:Pos}{e:Expr}{es:List Expr}{t:TA}{id T:String}{r:List V->Hp->VK->Prop}
def zQ(r:List V->Hp->VK->Prop)(t:TA):TE:=λσ H Q=>t σ H λvs H1=>r vs H1 Q
theorem Z0(hc:n4 X (.builtin id) r)(hg:Gl X x)(hm:X.mg x=none)(hv:bootBuiltins x=some (.builtin id))(ha:PA X (e::es) t)(hn:x≠"__name__":=by decide)(jb:(x==("__debug__":Str))=false:=by decide)(he:starEach (e::es) X.env=(false,eval e X.env)::starEach es X.env:=by rfl)(iC:(backTo pos (starEach es X.env)).any (·.1)=false:=by rfl):PE X (.Call (.Name x p) (e::es) [] pos) (zQ r t):=by
 intro pins s σ H Q I h;refine dh (N9 I hg hm hv ?_ hn jb);exact PyProof.Rows.callWith_builtin1 (cT (ha pos pins s σ H _ I h) λus s1 ⟨vs,H1,I1,r1,q1⟩=>hc pins s1 σ H1 vs us Q I1 r1 q1) he iC
theorem N6(hc:n4 X (.type T) r)(hg:Gl X x)(hm:X.mg x=none)(hv:bootBuiltins x=some (.type T))(ha:PA X (e::es) t)(hn:x≠"__name__":=by decide)(jb:(x==("__debug__":Str))=false:=by decide)(he:starEach (e::es) X.env=(false,eval e X.env)::starEach es X.env:=by rfl)(iC:(backTo pos (starEach es X.env)).any (·.1)=false:=by rfl):PE X (.Call (.Name x p) (e::es) [] pos) (zQ r t):=by
 intro pins s σ H Q I h;refine dh (N9 I hg hm hv ?_ hn jb);exact cE (cT (ha pos pins s σ H _ I h) λus s1 ⟨vs,H1,I1,r1,q1⟩=>hc pins s1 σ H1 vs us Q I1 r1 q1) he iC
end
end L2

namespace HT
open PySem PyProof.Rows
section
open PySem.SeqAt
open PySem.AutoSeq1 (wpAny_loadPart')
open PySem.MeetsSeq PySem.MeetsSeq2 PySem.MeetsSeq3
end
section
variable{prog:Program}{w:World}{A:Around}{E:Value->Shared->Prop}{s:Shared}
theorem Sv{t b:Addr}{vs ws:List Value}{Q:Value->Shared->Prop}(ht:IsTup s.heap t vs.toArray)(hb:IsTup s.heap b ws.toArray)(hv:vs≠[])(h1:ws=[]->Q (.ref t) s)(h2:ws≠[]->Q (.ref s.heap.objs.size) { s with heap:=s.heap.push { cls:=.type "tuple",data:=.seq (vs++ws).toArray } })(hsz:vs.length+ws.length<=sizeLine):wpAny (model prog w) A (binaryOp .Add (.ref t) (.ref b)) Q E s:=by
 obtain⟨⟨cls,dd,data,sl⟩,ho,hc,n,hd⟩:=id ht;obtain⟨⟨BO,yi,data2,qx⟩,nX,pK,n2,hd2⟩:=id hb;simp only at hc hd pK hd2;subst hc hd pK hd2;have e:vs.toArray++ws.toArray=(vs++ws).toArray:=by simp
 by_cases hw:ws=[]
 ·exact concat_meets ⟨_,ho,rfl⟩ ⟨_,nX,rfl⟩ qj Lh iJ ir (hJ _ _)
   (tuple_addW1 t b vs.toArray ws.toArray n n2 dd yi sl qx (by simpa using hv) (by simp[hw])) ⟨ho,nX,h1 hw⟩
 ·refine concat_meets ⟨_,ho,rfl⟩ ⟨_,nX,rfl⟩ qj Lh iJ ir (hJ _ _)
   (tuple_addW2 t b vs.toArray ws.toArray n n2 dd yi sl qx (by simpa using hv) (by simpa using hw) (by rw[aH,aH];exact hsz)) ⟨ho,nX,?_⟩
  rw[e];exact h2 hw
def dQ(n d:Nat):Option Int->Nat
 |none=>d
 |some v=>if v<0 then(v+(n:Int)).toNat else min v.toNat n
theorem Rm(n d:Nat)(hd:d<=n)(o:Option Int):dQ n d o<=n:=by
 cases o with
 |none=>exact hd
 |some v =>
  show(if v<0 then(v+(n:Int)).toNat else min v.toNat n)<=n;by_cases hv:v<0
  ·rw[aJ hv];omega
  ·rw[aC hv];exact Nat.min_le_right _ _
theorem Jx(v:Int)(n d:Nat):(if v<0 then max (v+(n:Int)) 0 else min v (n:Int))=((dQ n d (some v):Nat):Int):=by
 show(if v<0 then max (v+(n:Int)) 0 else min v (n:Int))=(((if v<0 then(v+(n:Int)).toNat else min v.toNat n):Nat):Int);by_cases hv:v<0
 ·simp only[if_pos hv];omega
 ·simp only[if_neg hv];omega
theorem Y'(lo hi:Option Int)(n:Nat):Builtin.Slice.sliceAdjust lo hi 1 (n:Int)=(((dQ n 0 lo:Nat):Int),((dQ n n hi:Nat):Int)):=by
 have h1:¬((1:Int)<0):=by omega
 unfold Builtin.Slice.sliceAdjust;simp only[h1,if_false];refine zx ?_ ?_
 ·cases lo with
  |none=>rfl
  |some v=>exact Jx v n 0
 ·cases hi with
  |none=>rfl
  |some v=>exact Jx v n n
theorem Zw(i j:Nat):Builtin.Slice.slicePlaces (i:Int) (j:Int) 1=j-i:=by
 unfold Builtin.Slice.slicePlaces;have h1:(1:Int)>0:=by omega
 simp only[h1,if_true,Int.ediv_one];split<;>omega
theorem Iy{v:Value}{o:Option Int}{Q:Option Int->Shared->Prop}(p:IsPart v o)(h:Q o s):wpAny (model prog w) A (Builtin.Slice.slicePartIndex v) Q E s:=by
 cases p with
 |none=>exact slicePart_none h
 |int i t=>exact slicePart_int h
theorem Q4{sl:Addr}{vl vu:Value}{lo hi:Option Int}{n:Nat}{Q:Int×Int×Nat->Shared->Prop}(hs:s.heap.IsSliceOf sl vl vu .none)(pl:IsPart vl lo)(pu:IsPart vu hi)(h:Q (((dQ n 0 lo:Nat):Int),1,dQ n n hi-dQ n 0 lo) s):wpAny (model prog w) A (Builtin.Slice.sliceApplied (.ref sl) (pure (n:Int))) Q E s:=by
 obtain⟨os,qU,xQ,vw⟩:=id hs;unfold Builtin.Slice.sliceApplied Builtin.Slice.sliceFields;refine aa (aa (wpAny_field qU vw (x:=vl) rfl (aa (wpAny_field qU vw (x:=vu) rfl (aa (wpAny_field qU vw (x:=.none) rfl (aj ?_)))))));refine aa (slicePart_none ?_);show wpAny _ _ (if((1:Int)==0)=true then _ else _) _ _ s;rw[aC (by decide)];refine aa (Iy pl (aa (Iy pu (aa (aj ?_)))));show wpAny _ _ (match Builtin.Slice.sliceAdjust lo hi 1 (n:Int) with|(lo,hi)=>pure (lo,(1:Int),Builtin.Slice.slicePlaces lo hi 1)) _ _ s;rw[Y' lo hi n];show wpAny _ _ (pure (((dQ n 0 lo:Nat):Int),(1:Int),Builtin.Slice.slicePlaces ((dQ n 0 lo:Nat):Int) ((dQ n n hi:Nat):Int) 1)) _ _ s;rw[Zw];exact aj h
theorem a28(xs:Array Value)(i k:Nat):((List.range k).filterMap λ(m:Nat)=>xs[((i:Int)+(m:Int)*1).toNat]?).toArray=((xs.toList.drop i).take k).toArray:=by
 have e:(λ(m:Nat)=>xs[((i:Int)+(m:Int)*1).toNat]?)=λm=>xs[i+m]?:=by
  funext m
  have:((i:Int)+(m:Int)*1).toNat=i+m:=by omega
  rw[this]
 rw[e];have:=pick_run xs i k;rw[List.filterMap_map] at this;have e2:((λx=>xs[x]?) ∘ λx=>i+x)=λm=>xs[i+m]?:=rfl;rw[e2] at this;rw[this]
theorem XA{t sl:Addr}{items:Array Value}{vl vu:Value}{lo hi:Option Int}{Q:Value->Shared->Prop}(ht:IsTup s.heap t items)(hs:s.heap.IsSliceOf sl vl vu .none)(pl:IsPart vl lo)(pu:IsPart vu hi)(hw:¬(dQ items.size 0 lo=0/\dQ items.size items.size hi=items.size))(h:Q (.ref s.heap.objs.size) { s with heap:=s.heap.push { cls:=.type "tuple",data:=.seq ((items.toList.drop (dQ items.size 0 lo)).take (dQ items.size items.size hi-dQ items.size 0 lo)).toArray } })(hsz:items.size<=sizeLine):wpAny (model prog w) A (getItem (.ref t) (.ref sl)) Q E s:=by
 have lK:sizeOk (.seq ((items.toList.drop (dQ items.size 0 lo)).take (dQ items.size items.size hi-dQ items.size 0 lo)).toArray):=by
  show((items.toList.drop (dQ items.size 0 lo)).take (dQ items.size items.size hi-dQ items.size 0 lo)).toArray.size<=sizeLine;rw[aH,cY,lU,bt];omega
 have hj:dQ items.size items.size hi<=items.size:=Rm _ _ (av _) hi;obtain⟨os,qU,xQ,vw⟩:=id hs;have AX:s.TypeIs (.ref sl) "slice":=⟨os,qU,xQ⟩
 unfold getItem
 try with_reducible refine cb ?_
 first|refine aa (aj ?_)|skip
 refine aa (wpAny_sequenceKey ht.typeIs (by decide) ?_);refine aa (fI (name:=Str.ofString "__getitem__") ht.typeIs bP
  (cG bP ht.typeIs entry_tuple_getitem ?_ (args_tuple_getitem _ _)))
 show wpAny _ _ (Builtin.Tuple.tupleItemsOf (.ref t) >>= _) _ _ s;refine aa (tupleItemsOf_ ht ?_);refine aa (fi AX ?_);rw[aJ (by decide)];refine aa (Q4 hs pl pu ?_);have pF:¬((((dQ items.size 0 lo:Nat):Int)==0&&(1:Int)==1&&(dQ items.size items.size hi-dQ items.size 0 lo)==items.size)=true):=by
  intro q;rw[aW,aW] at q;have q1:((dQ items.size 0 lo:Nat):Int)=0:=eq_of_beq q.1.1;have q2:dQ items.size items.size hi-dQ items.size 0 lo=items.size:=eq_of_beq q.2;exact hw ⟨by omega,by omega⟩
 show wpAny _ _ (if(((dQ items.size 0 lo:Nat):Int)==0&&(1:Int)==1&&(dQ items.size items.size hi-dQ items.size 0 lo)==items.size)=true then _ else _) _ _ s;rw[aC pF,a28]
 first
  |exact wpAny_bind (m:=Builtin.Tuple.tupleExact _) (wpAny_newObj_type (wpAny_pure ⟨_,rfl,wpAny_pure h⟩) lK)
  |exact wpAny_bind (m:=Builtin.Tuple.tupleExact _) (wpAny_newObj_type (wpAny_bind (wpAny_pure (wpAny_pure ⟨_,rfl,wpAny_pure h⟩))) lK)
  |exact wpAny_bind (wpAny_bind (m:=Builtin.Tuple.tupleExact _) (wpAny_newObj_type (wpAny_pure (wpAny_pure ⟨_,rfl,wpAny_pure h⟩)) lK))
  |exact wpAny_bind (wpAny_bind (m:=Builtin.Tuple.tupleExact _) (wpAny_newObj_type (wpAny_pure ⟨_,rfl,wpAny_pure h⟩) lK))
end
end HT
namespace L2
open PySem PySem.Spec PyProof.Rows
noncomputable abbrev TO:=St->Hp->(Option Int->Hp->Prop)->Prop
def PO(X:Cx)(e:Option Expr)(t:TO):Prop :=
 ∀(pins:List (Addr×Obj)) (s:Shared) (σ:St) (H:Hp) (Q:Option Int->Hp->Prop),Inv X pins σ H s->t σ H Q ->
  wpAny (model X.prog X.w) X.A (evalPart e X.env) (λu s'=>∃o H',Inv X pins σ H' s'/\IsPart u o/\Q o H') X.xe s
def Uq:TO:=λ_ H Q=>Q none H
def Pf(t:TE):TO:=λσ H Q=>t σ H λx H1=>∃i,x=.int i/\Q (some i) H1
section
variable{X:Cx}{e:Expr}{te:TE}{lo hi:Option Expr}{tl th:TO}{pos p2:Pos}
theorem ze:PO X none Uq:=by
 intro pins s σ H Q I h;rw[evalPart_none];exact aj ⟨none,H,I,.none,h⟩
theorem JO(h:PE X e te):PO X (some e) (Pf te):=by
 intro pins s σ H Q I hw;rw[evalPart_some];refine cT (h pins s σ H _ I hw) λu s1 bB=>?_;obtain⟨x,H1,I1,r1,q1⟩:=bB;obtain⟨i,rfl,q⟩:=q1;obtain⟨t,rfl⟩:=r1;exact⟨some i,H1,I1,.int i t,q⟩
def wU(X:Cx)(r:V->Option Int->Option Int->Hp->VK->Prop):Prop :=
 ∀(pins:List (Addr×Obj)) (s:Shared) (σ:St) (H:Hp) (x:V) (v vl vu:Value) (lo hi:Option Int) (sl:Addr) (Q:VK),Inv X pins σ H s->RelV x v->s.heap.IsSliceOf sl vl vu .none->IsPart vl lo->IsPart vu hi->r x lo hi H Q ->
  ∃T id,typeLookup (.type T) "__getitem__"=pure (some (.builtin id))/\s.TypeIs v T/\wpAny (model X.prog X.w) X.A (getItem v (.ref sl)) (EP X pins σ Q) X.xe s
def LC(r:V->Option Int->Option Int->Hp->VK->Prop)(te:TE)(tl th:TO):TE:=λσ H Q=>te σ H λx H1=>tl σ H1 λl H2=>th σ H2 λu H3=>r x l u H3 Q
theorem CJ{r:V->Option Int->Option Int->Hp->VK->Prop}(hr:wU X r)(he:PE X e te)(hl:PO X lo tl)(hu:PO X hi th):PE X (.Subscript e (.Slice lo hi none p2) pos) (LC r te tl th):=by
 intro pins s σ H Q I h;refine Subscript_ (cT (he pins s σ H _ I h) λv s1 bB=>?_);obtain⟨x,H1,I1,r1,q1⟩:=bB;refine wpAny_Slice (cT (hl pins s1 σ H1 _ I1 q1) λvl s2 ⟨l,H2,I2,pl,q2⟩=>cT (hu pins s2 σ H2 _ I2 q2) λvu s3 bB=>?_);obtain⟨u,H3,I3,pu,q3⟩:=bB;rw[evalPart_none];refine aj ?_;have I4:Inv X pins σ H3 { s3 with heap:=s3.heap.push { cls:=.type "slice",data:=.fields #[vl,vu,.none] } }:=I3.kept (t':=s3.toks) λb ob q=>au _ q;obtain⟨T,id,hT,ht,hg⟩:=hr pins { s3 with heap:=s3.heap.push { cls:=.type "slice",data:=.fields #[vl,vu,.none] } } σ H3 x v vl vu l u s3.heap.objs.size Q I4 r1 (Heap.IsSliceOf.new ..) pl pu q3;show wpAny (model X.prog X.w) X.A (subscriptTail e (.Slice lo hi none p2) v (.ref s3.heap.objs.size)) (EP X pins σ Q) X.xe { s3 with heap:=s3.heap.push { cls:=.type "slice",data:=.fields #[vl,vu,.none] } };exact tail_any (ops:=[.ref s3.heap.objs.size,v]) ht hT hg (by with_unfolding_all rfl)
def R6(xs:List V)(lo hi:Option Int):List V:=(xs.drop (HT.dQ xs.length 0 lo)).take (HT.dQ xs.length xs.length hi-HT.dQ xs.length 0 lo)
theorem ID(xs:List V)(lo hi:Option Int):(R6 xs lo hi).length<=xs.length:=by
 unfold R6;rw[cY,lU];omega
def Vr(K:PySem.W.Frag):V->Option Int->Option Int->Hp->VK->Prop:=λx lo hi H Q=>∃a xs,x=.ref a/\jc K H a xs /\
 ¬(HT.dQ xs.length 0 lo=0/\HT.dQ xs.length xs.length hi=xs.length)/\∀p,H p=none->Q (.ref p) (upd H p (.tup (R6 xs lo hi)))
theorem RE:wU X (Vr X.K):=by
 intro pins s σ H x v vl vu lo hi sl Q I rx hs pl pu h;obtain⟨a,xs,rfl,hx,hw,q⟩:=h;cases rx;obtain⟨ba,r,ht,hz⟩:=I.tuple hx;have hlen:ba.toArray.size=xs.length:=by rw[aH];exact r.length.symm
 refine⟨"tuple",_,bP.lookup,ht.typeIs,?_⟩;refine HT.XA ht hs pl pu (by rw[hlen];exact hw) ?_ (by rw[hlen];exact hz);rw[hlen];refine⟨.ref s.heap.objs.size,_,I.laid (t':=s.toks) (o:=.tup (R6 xs lo hi)) (λb ob q=>au _ q) (av _) ?_,rfl,q _ (I.bX.fresh (av _))⟩;exact⟨aI (ID xs lo hi) hz,_,(r.drop (HT.dQ xs.length 0 lo)).take (HT.dQ xs.length xs.length hi-HT.dQ xs.length 0 lo),L5.new _ _⟩
def OM(K:PySem.W.Frag):R2:=λx y H Q=>∃a b xs ys,x=.ref a/\y=.ref b/\jc K H a xs/\jc K H b ys/\xs≠[]/\xs.length+ys.length<=sizeLine /\
 (ys=[]->Q (.ref a) H)/\(ys≠[]->∀p,H p=none->Q (.ref p) (upd H p (.tup (xs++ys))))
theorem Vals.zc{xs:List V}{us:List Value}(r:Vals xs us):us=[]↔xs=[]:=by
 cases r with
 |nil=>simp
 |cons _ _=>simp
theorem SW:gb X (binaryOp .Add) (OM X.K):=by
 intro pins s σ H x y v u Q I rx ry h;obtain⟨a,b,xs,ys,rfl,rfl,ha,hb,hx,hz,q1,q2⟩:=h;cases rx;cases ry;obtain⟨ba,r1,p1,_⟩:=I.tuple ha;obtain⟨oz,r2,p2,_⟩:=I.tuple hb;refine HT.Sv p1 p2 (λz=>hx (r1.zc.mp z)) (λz=>⟨.ref a,H,I,rfl,q1 (r2.zc.mp z)⟩) (λz=>?_) (by rw[<- r1.length,<- r2.length];exact hz);refine⟨.ref s.heap.objs.size,_,I.laid (t':=s.toks) (o:=.tup (xs++ys)) (λb ob q=>au _ q) (av _) ?_,rfl,q2 (λw=>z (r2.zc.mpr w)) _ (I.bX.fresh (av _))⟩;exact⟨by rw[bj];exact hz,_,r1.append r2,L5.new _ _⟩
end
def lJ(n:Nat)(i:Int):Option Nat:=if 0<=i then(if i<n then some i.toNat else none) else if -(n:Int)<=i then some (i+n).toNat else none
def gz{α:Type}(xs:List α)(i:Int):Option α:=(lJ xs.length i).bind λj=>xs[j]?
theorem JD{n:Nat}{i:Int}{j:Nat}(h:lJ n i=some j):seqIndex? i n=some j/\j<n/\-(n:Int)<=i/\i<n:=by
 unfold lJ at h;by_cases h0:0<=i
 ·rw[aJ h0] at h;by_cases h1:i<n
  ·rw[aJ h1] at h;have e:i.toNat=j:=aP h;exact⟨by rw[seqIndex_of h0 h1,e],by omega,by omega,h1⟩
  ·rw[aC h1] at h;cases h
 ·rw[aC h0] at h;by_cases h1:-(n:Int)<=i
  ·rw[aJ h1] at h;have e:(i+n).toNat=j:=aP h;exact⟨by rw[seqIndex_neg (by omega) h1,e],by omega,h1,by omega⟩
  ·rw[aC h1] at h;cases h
theorem Cf{α:Type}{xs:List α}{i:Int}{v:α}(h:gz xs i=some v):∃j,seqIndex? i xs.length=some j/\xs[j]?=some v/\j<xs.length/\-(xs.length:Int)<=i/\i<xs.length:=by
 unfold gz at h;cases e:lJ xs.length i with
 |none=>rw[e] at h;cases h
 |some j =>
  rw[e] at h;obtain⟨h1,h2,h3,h4⟩:=JD e;exact⟨j,h1,h,h2,h3,h4⟩
theorem E1{α:Type}{xs:List α}{j:Nat}{v:α}(h:xs[j]?=some v):gz xs (j:Int)=some v:=by
 have hj:j<xs.length:=(aw.mp h).1;have e:lJ xs.length (j:Int)=some j:=by
  unfold lJ;rw[aJ (by omega),aJ (by omega)];simp
 unfold gz;rw[e];exact h
def Cc(b:Expr):Prop:=∀o i,subscripted b false o i=operate [o,i] (getItem o i)
def su(X:Cx)(r:R2):Prop :=
 ∀(value slice:Expr) (pins:List (Addr×Obj)) (s:Shared) (σ:St) (H:Hp) (x y:V) (v u:Value) (Q:VK),Inv X pins σ H s->RelV x v->RelV y u->r x y H Q ->
  subscripted slice false v u=operate [v,u] (getItem v u)->wpAny (model X.prog X.w) X.A (subscriptTail value slice v u) (EP X pins σ Q) X.xe s
def nP(X:Cx)(id:String)(r:V->List V->Hp->VK->Prop):Prop :=
 ∀(pins:List (Addr×Obj)) (s:Shared) (σ:St) (H:Hp) (x:V) (xs:List V) (v:Value) (us:List Value) (Q:VK),Inv X pins σ H s->RelV x v->Vals xs us->r x xs H Q ->
  wpAny (model X.prog X.w) X.A (call (.builtin id) (v::us)) (EP X pins σ Q) X.xe s
section
variable{X:Cx}{a b:Expr}{ta tb:TE}{pos:Pos}
theorem KI{r:R2}(hr:su X r)(ha:PE X a ta)(hb:PE X b tb)(hs:Cc b):PE X (.Subscript a b pos) (sH r ta tb):=by
 intro pins s σ H Q I h;exact Subscript_ (El ha hb I h λv u s2 x y H2 I2 rx ry q=>hr a b pins s2 σ H2 x y v u Q I2 rx ry q (hs _ _))
def Vl(K:PySem.W.Frag):R2:=λx y H Q=>∃p xs i v,x=.ref p/\y=.int i/\gp K H p xs/\gz xs i=some v/\Q v H
def Vn(K:PySem.W.Frag):R2:=λx y H Q=>∃p xs i v,x=.ref p/\y=.int i/\jc K H p xs/\gz xs i=some v/\Q v H
def Vm:R2:=λx y H Q=>∃z i c,x=.str z/\y=.int i/\z.length<=sizeLine/\gz z.cps.toList i=some c/\Q (.str ⟨#[c]⟩) H
theorem SI:su X (Vl X.K):=by
 intro value slice pins s σ H x y v u Q I rx ry h hs;obtain⟨p,xs,i,z,rfl,rfl,hq,he,q⟩:=h;cases rx;obtain⟨t,rfl⟩:=ry;obtain⟨ba,r,pl,hz⟩:=I.list hq;obtain⟨j,h1,h2,h3,h4,h5⟩:=Cf he;obtain⟨w,ew,gn⟩:=r.get h2;have hl:=r.length;have hn:=R0;have fin:EP X pins σ Q w s:=⟨z,H,I,gn,q⟩
 by_cases h0:0<=i
 ·have hj:i.toNat=j:=by
   rw[seqIndex_of h0 h5] at h1;exact aP h1
  exact item_listR pl.isList h0 (by omega) (by rw[hj];simpa using ew) fin hs
 ·have hj:(i+(ba.toArray.size:Int)).toNat=j:=by
   rw[seqIndex_neg (by omega) h4] at h1;rw[aH,<- hl];exact aP h1
  exact subscriptTail_builtinR (x:=w) pl.isList.typeIs slot_list_getitem.lookup
   (wpAny_getItem_list_neg (Q:=λr s'=>r=w/\EP X pins σ Q r s') pl.isList (by omega) (by rw[aH]<;>omega) (by omega) (by rw[hj];simpa using ew) ⟨rfl,fin⟩) hs
theorem Qa:su X (Vn X.K):=by
 intro value slice pins s σ H x y v u Q I rx ry h hs;obtain⟨p,xs,i,z,rfl,rfl,hq,he,q⟩:=h;cases rx;obtain⟨t,rfl⟩:=ry;obtain⟨ba,r,pl,hz⟩:=I.tuple hq;obtain⟨j,h1,h2,h3,h4,h5⟩:=Cf he;obtain⟨w,ew,gn⟩:=r.get h2;have hl:=r.length;have hn:=R0;have fin:EP X pins σ Q w s:=⟨z,H,I,gn,q⟩
 exact subscriptTail_builtinR (x:=w) pl.typeIs slot_tuple_getitem.lookup
  (getItem_tuple (j:=j) (Q:=λr s'=>r=w/\EP X pins σ Q r s') pl (by omega) (by omega) (by rw[aH,<- hl];exact h1) (by simpa using ew) ⟨rfl,fin⟩) hs
theorem PZ:su X Vm:=by
 intro value slice pins s σ H x y v u Q I rx ry h hs;obtain⟨z,i,c,rfl,rfl,hz,he,q⟩:=h;obtain⟨t,rfl⟩:=rx;obtain⟨t',rfl⟩:=ry;obtain⟨j,h1,h2,h3,h4,h5⟩:=Cf he;have hl:z.cps.toList.length=z.length:=by simp[Str.length]
 rw[hl] at h1 h4 h5;have hn:=R0;exact tail_any (typeIs_str s z t) slot_str_getitem.lookup (getItem_str (c:=c) (by
  have e1:decide (i < -(2 ^ 63:Int))=false:=aG (by omega);have e2:decide (i>=2 ^ 63)=false:=aG (by omega);rw [e1,e2,Bool.or_false]) (by rw [h1];simpa using h2) ⟨.str ⟨#[c]⟩,H,I.tok _,⟨_,rfl⟩,q⟩) hs
theorem Zq(ba:List Value)(n j:Nat)(u:Value):Obj.mapSeq (·.setIfInBounds j u) { cls:=.type "list",data:=.seq ba.toArray n }={ cls:=.type "list",data:=.seq (ba.set j u).toArray n }:=by
 simp[Obj.mapSeq]
theorem Inv.lst{pins:List (Addr×Obj)}{σ:St}{H:Hp}{s:Shared}{p:Addr}{xs:List V}(I:Inv X pins σ H s)(h:H p=some (.lst xs)) :
  ∃(ba:List Value) (n:Nat),Vals xs ba/\s.heap.get? p=some { cls:=.type "list",data:=.seq ba.toArray n }/\xs.length<=sizeLine:=by
 obtain⟨z,ba,n,r,e⟩:=I.bX p _ h;exact⟨ba,n,r,e,z⟩
theorem Inv.Qm{pins:List (Addr×Obj)}{σ:St}{H:Hp}{s:Shared}{p:Addr}{xs ys:List V}{ba its':List Value}{n n':Nat}{f:Obj->Obj}(I:Inv X pins σ H s)(h:H p=some (.lst xs))(ho:s.heap.get? p=some { cls:=.type "list",data:=.seq ba.toArray n })(hf:f { cls:=.type "list",data:=.seq ba.toArray n }={ cls:=.type "list",data:=.seq its'.toArray n' })(r:Vals ys its')(hz:ys.length<=sizeLine)(t:Nat) :
  Inv X pins σ (upd H p (.lst ys)) { s with heap:=s.heap.update p f,toks:=t }:=by
 have e:(s.heap.update p f).get? p=some { cls:=.type "list",data:=.seq its'.toArray n' }:=by
  rw[bC f ho (by rw[hf]<;>rfl),hf]
 refine I.write (x:=p) (e:=p) (by rw[h];trivial) (.inl rfl) (λb u hb q=>(eB _ _ (cx hb)).trans q) ⟨_,e⟩ ?_;exact⟨hz,its',n',r,e⟩
def OO:V->V->V->Hp->(Hp->Prop)->Prop:=λo i v H Q=>∃p xs k j,o=.ref p/\i=.int k/\H p=some (.lst xs)/\lJ xs.length k=some j/\Q (upd H p (.lst (xs.set j v)))
theorem set_list:Eg X OO:=by
 intro pins s σ H o i v ov iv u Q I ro ri rv h;obtain⟨p,xs,k,j,rfl,rfl,hp,hj,q⟩:=h;cases ro;obtain⟨t,rfl⟩:=ri;obtain⟨ba,n,r,ho,hz⟩:=I.lst hp;obtain⟨h1,h2,h3,h4⟩:=JD hj;have hl:=r.length;have hn:=R0;have I':Inv X pins σ (upd H p (.lst (xs.set j v))) { s with heap:=s.heap.update p (Obj.mapSeq (·.setIfInBounds j u)) } :=
  I.Qm hp ho (Zq ba n j u) (r.set rv j) (by rw[List.length_set];exact hz) s.toks
 by_cases h0:0<=k
 ·have hk:k.toNat=j:=by
   rw[seqIndex_of h0 h4] at h1;exact aP h1
  exact PySem.W.ki_setAt ho h0 (by omega) (by rw[aH,<- hl];exact h4) (by rw[hk];exact⟨_,I',q⟩)
 ·have hk:(k+(ba.toArray.size:Int)).toNat=j:=by
   rw[seqIndex_neg (by omega) h3] at h1;rw[aH,<- hl];exact aP h1
  exact PySem.W.ki_setBack ho (by omega) (by rw[aH,<- hl];exact h3) (by omega) (by rw[hk];exact⟨_,I',q⟩)
theorem Xd(lo hi:Option Int)(n:Nat):(sliceBounds lo hi none n).1=((HT.dQ n 0 lo:Nat):Int)/\(sliceBounds lo hi none n).2.1=((HT.dQ n n hi:Nat):Int)/\(sliceBounds lo hi none n).2.2=1:=by
 refine⟨?_,?_,rfl⟩
 ·cases lo with
  |none=>simp[sliceBounds,HT.dQ]
  |some i =>
   simp only[sliceBounds,HT.dQ,Option.getD_none,show(1:Int)>0 by decide,if_true];by_cases h:i<0
   ·simp only[h,if_true]<;>omega
   ·simp only[h,if_false]<;>omega
 ·cases hi with
  |none=>simp[sliceBounds,HT.dQ]
  |some i =>
   simp only[sliceBounds,HT.dQ,Option.getD_none,show(1:Int)>0 by decide,if_true];by_cases h:i<0
   ·simp only[h,if_true]<;>omega
   ·simp only[h,if_false]<;>omega
theorem Xm(ba:List Value)(lo hi:Option Int):slicePick ba.toArray lo hi none=((ba.drop (HT.dQ ba.length 0 lo)).take (HT.dQ ba.length ba.length hi-HT.dQ ba.length 0 lo)).toArray:=by
 obtain⟨h1,h2,h3⟩:=Xd lo hi ba.toArray.size;unfold slicePick;rw[h1,h2,h3];simp only[sliceRange_one,pick_run,List.size_toArray]<;>rfl
def Vq(K:PySem.W.Frag):V->Option Int->Option Int->Hp->VK->Prop:=λx lo hi H Q=>∃a xs,x=.ref a/\gp K H a xs/\∀p,H p=none->Q (.ref p) (upd H p (.lst (R6 xs lo hi)))
theorem Ui:wU X (Vq X.K):=by
 intro pins s σ H x v vl vu lo hi sl Q I rx hs pl pu h;obtain⟨a,xs,rfl,hx,q⟩:=h;cases rx;obtain⟨ba,r,ht,hz⟩:=I.list hx;have hlen:=r.length;refine⟨"list",_,slot_list_getitem.lookup,ht.isList.typeIs,?_⟩;refine wpAny_getItem_list_slice ht.isList hs pl pu .none (by simp) ?_ (by rw[aH]<;>omega);rw[Xm,<- hlen];refine⟨.ref s.heap.objs.size,_,I.laid (t':=s.toks) (o:=.lst (R6 xs lo hi)) (λb ob q=>au _ q) (av _) ?_,rfl,q _ (I.bX.fresh (av _))⟩;exact⟨aI (ID xs lo hi) hz,_,0,(r.drop (HT.dQ xs.length 0 lo)).take (HT.dQ xs.length xs.length hi-HT.dQ xs.length 0 lo),aF _ rfl⟩
def GL:V->V->Bool
 |.bN,.bN=>true
 |.bl a,.bl b=>a==b
 |.bl a,.int b=>(if a then 1 else 0)==b
 |.int a,.bl b=>a==(if b then 1 else 0)
 |.int a,.int b=>a==b
 |.str a,.str b=>a==b
 |_,_=>false
theorem aD1:n4 X (.builtin "len") (λxs H Q=>∃p ys,xs=[.ref p]/\(gp X.K H p ys\/jc X.K H p ys)/\Q (.int ys.length) H):=by
 intro pins s σ H xs us Q I r h;obtain⟨p,ys,rfl,hq,q⟩:=h;obtain⟨u,rfl,rx⟩:=vals1 r;cases rx;have hn:=R0;rcases hq with hq|hq
 ·obtain⟨ba,r',pl,hz⟩:=I.list hq;have hlen:=r'.length;exact Calls.call_len_list pl.isList (by simp only[List.size_toArray]<;>omega) ⟨.int ys.length,H,I.tok _,⟨s.toks+1,by rw[aH,hlen]⟩,q⟩
 ·obtain⟨ba,r',pl,hz⟩:=I.tuple hq;have hlen:=r'.length;exact len_tuple pl (by simp only[List.size_toArray]<;>omega) ⟨.int ys.length,H,I.tok _,⟨s.toks+1,by rw[aH,hlen]⟩,q⟩
theorem aD0:n4 X (.builtin "len") (λxs H Q=>∃z,xs=[.str z]/\z.length<=sizeLine/\Q (.int z.length) H):=by
 intro pins s σ H xs us Q I r h;obtain⟨z,rfl,hz,q⟩:=h;obtain⟨u,rfl,t,rfl⟩:=vals1 r;have hn:=R0;exact len_str (by omega) ⟨.int z.length,H,I.tok _,⟨_,rfl⟩,q⟩
theorem aC9:n4 X (.type "list") (λxs H Q=>∃p ys,xs=[.ref p]/\(gp X.K H p ys\/jc X.K H p ys)/\∀l,H l=none->Q (.ref l) (upd H l (.lst ys))):=by
 intro pins s σ H xs us Q I r h;obtain⟨p,ys,rfl,hq,q⟩:=h;obtain⟨u,rfl,rx⟩:=vals1 r;cases rx;have fin:∀(ba:List Value),Vals ys ba->ys.length<=sizeLine->∀(h':Heap) (c':Nat),(∀b o',s.heap.get? b=some o'->h'.get? b=some o') ->
   h'.get? s.heap.objs.size=some { cls:=.type "list",dict:=none,data:=.seq ba.toArray c',slots:=#[] }->EP X pins σ Q (.ref s.heap.objs.size) { s with heap:=h' }:=λba r' hz h' c' kp e =>
  ⟨.ref s.heap.objs.size,_,I.laid (t':=s.toks) kp (av _) (show n6 X.prog X.w _ h' _ (.lst ys) from⟨hz,ba,c',r',e⟩),rfl,q _ (I.bX.fresh (av _))⟩
 rcases hq with hq|hq
 ·obtain⟨ba,r',pl,hz⟩:=I.list hq;have hlen:=r'.length;obtain⟨o,ho,hc,n,hd⟩:=pl.isList;exact call_list_seq p (.inl rfl) ho hc hd (λh' c' kp e=>fin ba r' hz h' c' kp e) (by simp only[List.size_toArray]<;>omega)
 ·obtain⟨ba,r',pl,hz⟩:=I.tuple hq;have hlen:=r'.length;obtain⟨o,ho,hc,n,hd⟩:=pl;exact call_list_seq p (.inr rfl) ho hc hd (λh' c' kp e=>fin ba r' hz h' c' kp e) (by simp only[List.size_toArray]<;>omega)
theorem Xf:n4 X (.type "tuple") (λxs H Q=>∃p ys,xs=[.ref p]/\((gp X.K H p ys/\∀l,H l=none->Q (.ref l) (upd H l (.tup ys)))\/(jc X.K H p ys/\Q (.ref p) H))):=by
 intro pins s σ H xs us Q I r h;obtain⟨p,ys,rfl,h⟩:=h;obtain⟨u,rfl,rx⟩:=vals1 r;cases rx;rcases h with⟨hq,q⟩|⟨hq,q⟩
 ·obtain⟨ba,r',pl,hz⟩:=I.list hq;have hlen:=r'.length;refine call_tuple_list pl.isList (λh' kp=>?_) (by simp only[List.size_toArray]<;>omega);have I1:Inv X pins σ H { s with heap:=h' }:=I.kept (t':=s.toks) kp;have I2:Inv X pins σ (upd H h'.objs.size (.tup ys)) { s with heap:=h'.push { cls:=.type "tuple",data:=.seq ba.toArray } } :=
   I1.laid (t':=s.toks) (λb o e=>au _ e) (av _) (show n6 X.prog X.w _ _ _ (.tup ys) from⟨hz,ba,r',L5.new _ _⟩)
  exact⟨.ref h'.objs.size,_,I2,rfl,q _ (I1.bX.fresh (av _))⟩
 ·obtain⟨ba,r',pl,hz⟩:=I.tuple hq;exact call_tuple_same pl ⟨.ref p,H,I,rfl,q⟩
def nT(K:PySem.W.Frag)(T:String)(x:V)(H:Hp):Prop:=match x with
 |.str _=>T="str"
 |.int _=>T="int"
 |.ref p=>(T="list"/\∃xs,gp K H p xs)\/(T="tuple"/\∃o,K.lookup p=some o/\o.cls=.type "tuple"/\o.dict=none) \/
   (T="dict"/\((∃kvs,H p=some (.dK kvs))\/∃kvs,H p=some (.dT kvs)))\/(T="set"/\∃S n,H p=some (.set S n))
 |_=>False
theorem Ju{pins:List (Addr×Obj)}{σ:St}{H:Hp}{s:Shared}{T:String}{x:V}{v:Value}(I:Inv X pins σ H s)(r:RelV x v)(ty:nT X.K T x H) :
  s.TypeIs v T/\∀a,v=.ref a->∃ob,s.heap.get? a=some ob/\ob.dict=none:=by
 cases x with
 |str z =>
  obtain⟨t,rfl⟩:=r;cases (show T="str" from ty);exact⟨typeIs_str s z t,λ_ e=>nomatch e⟩
 |int i =>
  obtain⟨t,rfl⟩:=r;cases (show T="int" from ty);exact⟨mT s i t,λ_ e=>nomatch e⟩
 |ref p =>
  cases r;rcases ty with⟨rfl,xs,hq⟩|⟨rfl,o,hk,hc,hd⟩|⟨rfl,hk⟩|⟨rfl,S,n,hk⟩
  ·obtain⟨ba,_,pl,_⟩:=I.list hq;refine⟨pl.isList.typeIs,λa e=>?_⟩;cases e;obtain⟨o,n,e,c,hd,_⟩:=pl;exact⟨o,e,hd⟩
  ·refine⟨⟨o,I.ig p o hk,hc⟩,λa e=>?_⟩;cases e;exact⟨o,I.ig _ o hk,hd⟩
  ·have z:∃o,s.heap.get? p=some o/\o.ExactDict:=by
    rcases hk with⟨kvs,hk⟩|⟨kvs,hk⟩
    ·obtain⟨_,_,_,_,o,_,_,e,ex,_⟩:=I.bX p _ hk;exact⟨o,e,ex⟩
    ·obtain⟨_,_,_,_,o,_,_,e,ex,_⟩:=I.bX p _ hk;exact⟨o,e,ex⟩
   obtain⟨o,e,ex⟩:=z;refine⟨⟨o,e,ex.1⟩,λa e2=>?_⟩;cases e2;exact⟨o,e,ex.2.1⟩
  ·obtain⟨o,_,_,_,e,ex,_⟩:=I.bX p _ hk;refine⟨⟨o,e,ex.1⟩,λa e2=>?_⟩;cases e2;exact⟨o,e,ex.2.1⟩
 |_=>exact False.elim ty
def VC(K:PySem.W.Frag)(T:String)(r:V->List V->Hp->VK->Prop)(to:TE):TE:=λσ H Q=>to σ H λx H1=>nT K T x H1/\r x [] H1 Q
def LJ(K:PySem.W.Frag)(T:String)(r:V->List V->Hp->VK->Prop)(to:TE)(t:TA):TE:=λσ H Q=>to σ H λx H1=>nT K T x H1/\t σ H1 λxs H2=>r x xs H2 Q
variable{o e:Expr}{es:List Expr}{to:TE}{t:TA}{name:Str}{apos gi:Pos}{T id:String}{r:V->List V->Hp->VK->Prop}
theorem QL(pa:PlainAttrs T)(slot:Slot T name id)(jO:typeOf (.builtin id)=pure (.type "method_descriptor"))(hm:nP X id r)(ho:PE X o to)(jx:attributeBase o name X.env (eval o X.env)=eval o X.env:=by rfl)(jv:(apos.endLine==gi.line)=true:=by rfl):PE X (.Call (.Attribute o name apos) [] [] gi) (VC X.K T r to):=by
 intro pins s σ H Q I h;refine wpAny_Call_method0_late jx jv (cT (ho pins s σ H _ I h) λv s1 bB=>?_);obtain⟨x,H1,I1,r1,ty,q1⟩:=bB;obtain⟨h1,h2⟩:=Ju I1 r1 ty;exact⟨T,id,pa,slot,jO,h1,h2,Calls.callWith_builtin rfl (PySem.evalArgs_none (hm pins s1 σ H1 x [] v [] Q I1 r1 .nil q1))⟩
theorem WW(pa:PlainAttrs T)(slot:Slot T name id)(jO:typeOf (.builtin id)=pure (.type "method_descriptor"))(hm:nP X id r)(ho:PE X o to)(ha:PA X (e::es) t)(jx:attributeBase o name X.env (eval o X.env)=eval o X.env:=by rfl)(qZ:((backTo gi (starEach (e :: es) X.env)).all (λx=>!x.1) && (backToKw gi (keywordEach [] X.env)).all (λx=>x.1.isSome)
   && decide ((e :: es).length + ([]:List Keyword).length + (if ([]:List Keyword).isEmpty then 0 else 1) < 30))=true:=by rfl)(jv:(apos.endLine==gi.line)=true:=by rfl)(hs:starEach (e::es) X.env=(false,eval e X.env)::starEach es X.env:=by rfl)(gQ:(backTo gi (starEach es X.env)).any (·.1)=false:=by rfl) :
  PE X (.Call (.Attribute o name apos) (e::es) [] gi) (LJ X.K T r to t):=by
 intro pins s σ H Q I h;refine wpAny_Call_method_late jx qZ jv rfl (cT (ho pins s σ H _ I h) λv s1 bB=>?_);obtain⟨x,H1,I1,r1,ty,q1⟩:=bB;obtain⟨h1,h2⟩:=Ju I1 r1 ty;refine⟨T,id,pa,slot,jO,h1,h2,?_⟩;have hA:=ha gi pins s1 σ H1 _ I1 q1;rw[hs] at hA ⊢;refine Calls.callWith_builtin (by show(false||(backTo gi (starEach es X.env)).any (·.1))=false;rw[gQ]<;>rfl) (Calls.evalArgs_plain ?_);exact cT hA λus s2 ⟨vs,H2,I2,r2,q2⟩=>hm pins s2 σ H2 x vs v us Q I2 r1 r2 q2
end
def KY(X:Cx)(id:String)(r:V->List V->Hp->VK->Prop):Prop :=
 ∀(pins:List (Addr×Obj)) (s:Shared) (σ:St) (H:Hp) (x:V) (xs:List V) (v:Value) (us:List Value) (Q:VK),Inv X pins σ H s->RelV x v->Vals xs us->r x xs H Q ->
  wpAny (model X.prog X.w) X.A (call (.builtin id) (v::us)) (EP X pins σ Q) X.xe s
theorem Vals.one{x:V}{us:List Value}(h:Vals [x] us):∃u,us=[u]/\RelV x u:=by
 cases h with
 |cons r h =>
  cases h;exact⟨_,rfl,r⟩
theorem Vals.zero:∀{us:List Value},Vals [] us->us=[]
 |_,.nil=>rfl
theorem Vals.eraseIdx:∀{xs:List V} {us:List Value} (i:Nat),Vals xs us->Vals (xs.eraseIdx i) (us.eraseIdx i)
 |_,_,_,.nil=>.nil
 |_,_,0,.cons _ t=>t
 |_,_,i+1,.cons r t=>.cons r (Vals.eraseIdx i t)
theorem Vals.reverse{xs:List V}{us:List Value}(h:Vals xs us):Vals xs.reverse us.reverse:=by
 induction h with
 |nil=>exact .nil
 |cons r t ih=>rw[gU,gU];exact Vals.append ih (.cons r .nil)
theorem Vals.rep{xs:List V}{us:List Value}(h:Vals xs us):∀k:Nat,Vals (List.replicate k xs).flatten (List.replicate k us).flatten
 |0=>.nil
 |k+1=>by
  rw[cj,cj,dy,dy];exact Vals.append h (Vals.rep h k)
theorem HQ{α:Type}:∀(l:List α) (i:Nat),(l.eraseIdx i).length<=l.length
 |[],_=>av _
 |_::_,0=>cL _
 |_::r,i+1=>Nat.succ_le_succ (HQ r i)
theorem foldl_rep(ba:List Value):∀(k:Nat) (acc:List Value),
  List.foldl (λx1 x2=>x1++x2) acc.toArray (List.replicate k ba.toArray)=(acc++(List.replicate k ba).flatten).toArray
 |0,acc=>by simp
 |k+1,acc=>by
  have e:acc.toArray++ba.toArray=(acc++ba).toArray:=by simp
  have e2:(acc++ba)++(List.replicate k ba).flatten=acc++(List.replicate (k+1) ba).flatten:=by
   rw[cj,dy,bL]
  rw[<- e2,<- foldl_rep ba k (acc++ba),<- e,cj,mV]
section
variable{X:Cx}{pins:List (Addr×Obj)}{σ:St}{H:Hp}{s:Shared}{l b:Addr}{xs ys zs:List V}
theorem Inv.qa{ba its':List Value}{n:Nat}{f:Array Value->Array Value}{t':Nat}(I:Inv X pins σ H s)(hH:H l=some (.lst xs))(e:s.heap.get? l=some { cls:=.type "list",data:=.seq ba.toArray n })(hf:f ba.toArray=its'.toArray)(hv:Vals ys its')(hz:ys.length<=sizeLine) :
  Inv X pins σ (upd H l (.lst ys)) { s with heap:=s.heap.update l (Obj.mapSeq f),toks:=t' }:=by
 have q:=PySem.IsL.update e f;rw[hf] at q;refine I.write (x:=l) (e:=l) (by rw[hH];exact trivial) (.inl rfl) (λb' u hb hu=>(eB s.heap (Obj.mapSeq f) (cx hb)).trans hu) ⟨_,q⟩ ?_;exact⟨hz,its',_,hv,q⟩
theorem Inv.He{ba:List Value}{t':Nat}(I:Inv X pins σ H s)(hv:Vals ys ba)(hz:ys.length<=sizeLine) :
  Inv X pins σ (upd H s.heap.objs.size (.lst ys)) { s with heap:=s.heap.push { cls:=.type "list",data:=.seq ba.toArray },toks:=t' } :=
 I.laid (λ_ _ q=>au _ q) (av _) ⟨hz,ba,0,hv,aF _ rfl⟩
theorem Inv.fresh(I:Inv X pins σ H s):H s.heap.objs.size=none:=I.bX.fresh (av _)
theorem Inv.wQ(I:Inv X pins σ H s)(hH:H l=some (.lst xs)):xs.length<=sizeLine/\∃(ba:List Value) (n:Nat),Vals xs ba/\xs.length=ba.length/\s.heap.get? l=some { cls:=.type "list",data:=.seq ba.toArray n }:=by
 obtain⟨z,ba,n,r,e⟩:=I.bX l _ hH;exact⟨z,ba,n,r,r.length,e⟩
theorem a37{n:Nat}(h:n<=sizeLine):Builtin.List.listTooLong n=false:=by
 unfold Builtin.List.listTooLong;exact aG (by omega)
end
section
variable{X:Cx}
def Tz:V->List V->Hp->VK->Prop:=λx vs H Q=>∃l xs y,x=.ref l/\vs=[y]/\H l=some (.lst xs)/\xs.length<sizeLine/\Q .bN (upd H l (.lst (xs++[y])))
theorem Yu:KY X "list.append" Tz:=by
 intro pins s σ H x vs v us Q I rx rv h;obtain⟨l,xs,y,rfl,rfl,hH,hz,q⟩:=h;cases rx;obtain⟨u,rfl,ru⟩:=rv.one;obtain⟨z,ba,n,r,hl,e⟩:=I.wQ hH;refine jV F.slot_list_append ⟨_,e,rfl⟩ F.entry_list_append (F.args_list_append_2 _ _) (PySem.list_append l ba.toArray n u (by rw[aH];omega)) ⟨e,?_⟩;refine⟨.bN,_,I.qa (its':=ba++[u]) hH e (by simp) (r.append (.cons ru .nil)) ?_,rfl,q⟩;rw[bj,jk];omega
def Ri:V->List V->Hp->VK->Prop:=λx vs H Q=>∃l xs i k y,x=.ref l/\vs=[.int i]/\H l=some (.lst xs)/\-(2 ^ 63)<=i/\i<2 ^ 63/\seqIndex? i xs.length=some k/\xs[k]?=some y/\Q y (upd H l (.lst (xs.eraseIdx k)))
theorem a40:KY X "list.pop" Ri:=by
 intro pins s σ H x vs v us Q I rx rv h;obtain⟨l,xs,i,k,y,rfl,rfl,hH,h1,h2,hk,hy,q⟩:=h;cases rx;obtain⟨u,rfl,ru⟩:=rv.one;obtain⟨t,rfl⟩:=ru;obtain⟨z,ba,n,r,hl,e⟩:=I.wQ hH;obtain⟨w,hw,gn⟩:=r.get hy;refine jV F.slot_list_pop ⟨_,e,rfl⟩ F.entry_list_pop (F.args_list_pop_2 _ _)
  (MeetsSeq.list_pop_at l ba.toArray n i t k w (fitsIndex_both h1 h2) (by rw[aH,<- hl];exact hk) (by rw[<- et];exact hw) (by rw[aH];omega)) ⟨e,?_⟩
 refine⟨y,_,I.qa (its':=ba.eraseIdx k) hH e ?_ (r.eraseIdx k) ?_,gn,q⟩
 ·show ba.toArray.eraseIdxIfInBounds k=(ba.eraseIdx k).toArray;rw[List.eraseIdxIfInBounds_toArray]
 ·have:=HQ xs k;omega
def Vk:R2:=λx y H Q=>∃l b xs zs,x=.ref l/\y=.ref b/\H l=some (.lst xs)/\H b=some (.lst zs)/\xs.length+zs.length<=sizeLine/\∀p,H p=none->Q (.ref p) (upd H p (.lst (xs++zs)))
theorem Qy:gb X (binaryOp .Add) Vk:=by
 intro pins s σ H x y v u Q I rx ry h;obtain⟨l,b,xs,zs,rfl,rfl,hH,hB,hz,q⟩:=h;cases rx;cases ry;obtain⟨z,ba,n,r,hl,e⟩:=I.wQ hH;obtain⟨z2,oz,n2,r2,xN,e2⟩:=I.wQ hB;refine PySem.P.add_list e e2 ?_ (by rw[aH,aH];omega);have ea:ba.toArray++oz.toArray=(ba++oz).toArray:=by simp
 rw[ea];exact⟨.ref _,_,I.He (t':=s.toks) (r.append r2) (by rw[bj];omega),rfl,q _ I.fresh⟩
def Vo:R2:=λx y H Q=>∃l k xs,x=.ref l/\y=.int k/\H l=some (.lst xs)/\-(2 ^ 63)<=k/\k<2 ^ 63/\xs.length*k.toNat<=sizeLine /\
 ∀p,H p=none->Q (.ref p) (upd H p (.lst (List.replicate k.toNat xs).flatten))
theorem len_rep{α:Type}(xs:List α)(k:Nat):(List.replicate k xs).flatten.length=k*xs.length:=by
 induction k with
 |zero=>simp
 |succ k ih=>rw[cj,dy,bj,ih,Nat.succ_mul,Nat.add_comm]
theorem QD:gb X (binaryOp .Mult) Vo:=by
 intro pins s σ H x y v u Q I rx ry h;obtain⟨l,k,xs,rfl,rfl,hH,h1,h2,hz,q⟩:=h;cases rx;obtain⟨t,rfl⟩:=ry;obtain⟨z,ba,n,r,hl,e⟩:=I.wQ hH;have hlen:ba.toArray.size*k.toNat<=sizeLine:=by rw[aH,<- hl];exact hz
 have AQ:¬ba.toArray.size*k.toNat>(2 ^ 63-1) / 8:=by
  have:(sizeLine:Nat)<=(2 ^ 63-1) / 8:=by decide
  omega
 have AM:¬(!Builtin.List.listFitsIndex k)=true:=by
  rw[fitsIndex_both h1 h2];exact fm
 have vm:¬Builtin.List.listTooLong (ba.toArray.size*k.toNat)=true:=by
  rw[a37 hlen];exact fm
 have Ax:List.foldl (λx1 x2=>x1++x2) #[] (List.replicate (if ba.toArray.isEmpty=true then 0 else k.toNat) ba.toArray)=(List.replicate k.toNat ba).flatten.toArray:=by
  have f0:∀m:Nat,List.foldl (λx1 x2=>x1++x2) #[] (List.replicate m ba.toArray)=(List.replicate m ba).flatten.toArray:=λm=>by
   have:=foldl_rep ba m [];rw[List.nil_append] at this;exact this
  rw[f0];cases ba with
  |nil=>simp
  |cons a r'=>rw[if_neg (by simp)]
 refine EF (T:="list") (U:="int") (by decide) ⟨_,e,rfl⟩ (λs'=>mT s' k t) noFill_list_mul F.fills_int_mul km repeat_list F.slot_int_index.lookup
  (jV km (mT s k t) F.entry_int_rmul (F.args_int_rmul_2 _ _) (int___rmul___int_list k t l ba.toArray n)
   ⟨e,rfl,⟨_,e,rfl⟩,jV F.slot_list_mul ⟨_,e,rfl⟩ F.entry_list_mul (F.args_list_mul_2 _ _) (AutoListH.list___mul___list_int_3 l ba.toArray n k t AM AQ vm) ⟨e,?_⟩⟩)
 rw[Ax];exact⟨.ref _,_,I.He (t':=s.toks) (r.rep k.toNat) (by rw[len_rep,kZ];exact hz),rfl,q _ I.fresh⟩
end
section
variable{prog:Program}{w:World}{A:Around}{E:Value->Shared->Prop}{s:Shared}
end
section
variable{X:Cx}
end
end L2

namespace L2
open PySem PySem.Spec PyProof.Rows
section
variable{κ:Type}[DecidableEq κ]
def K7(kvs:List (κ×V))(k:κ):Option V:=(kvs.find? λkv=>decide (kv.1=k)).map (·.2)
def putK(kvs:List (κ×V))(k:κ)(v:V):List (κ×V) :=
 if(kvs.any λkv=>decide (kv.1=k))=true then kvs.map (λkv=>if kv.1=k then(kv.1,v) else kv) else kvs++[(k,v)]
theorem CO{p:κ×V}{r:List (κ×V)}{k:κ}(e:p.1=k):K7 (p::r) k=some p.2:=by simp[K7,List.find?_cons,e]
theorem CN{p:κ×V}{r:List (κ×V)}{k:κ}(e:¬p.1=k):K7 (p::r) k=K7 r k:=by simp[K7,List.find?_cons,e]
theorem HC(k:κ):∀kvs:List (κ×V),(kvs.any λkv=>decide (kv.1=k))=(K7 kvs k).isSome
 |[]=>rfl
 |p::r=>by
  rw[fR];by_cases e:p.1=k
  ·simp only[CO e,decide_eq_true e,Bool.true_or,Option.isSome_some]
  ·rw[CN e,aG e,qo];exact HC k r
theorem U8(kvs:List (κ×V))(k:κ)(v:V):(putK kvs k v).length<=kvs.length+1:=by
 unfold putK;split
 ·rw[ai];omega
 ·rw[bj,dF,List.length_nil];omega
theorem F1.O0{o:Option V}{u:Option Value}(r:F1 o u):o.isSome=u.isSome:=by
 cases o with
 |none=>cases u with
  |none=>rfl
  |some _=>exact(show False from r).elim
 |some _=>cases u with
  |none=>exact(show False from r).elim
  |some _=>rfl
theorem F1.getD{o:Option V}{u:Option Value}{d:V}{d':Value}(r:F1 o u)(rd:RelV d d'):RelV (o.getD d) (u.getD d'):=by
 cases o with
 |none=>cases u with
  |none=>exact rd
  |some _=>exact(show False from r).elim
 |some _=>cases u with
  |none=>exact(show False from r).elim
  |some _=>exact r
theorem KV.val{kvs:List (κ×V)}{vs:List (κ×Value)}(r:KV kvs vs)(k:κ):F1 (K7 kvs k) (valueAt vs k):=by
 unfold KV at r
 induction r with
 |nil=>exact True.intro
 |@cons p q ps qs h t ih =>
  obtain⟨h1,h2⟩:=h;by_cases e:p.1=k
  ·have e':q.1=k:=h1.symm.trans e;have b:valueAt (q::qs) k=some q.2:=by simp[valueAt,List.find?_cons,e']
   rw[CO e,b];exact h2
  ·have e':¬q.1=k:=λz=>e (h1.trans z);have b:valueAt (q::qs) k=valueAt qs k:=by simp[valueAt,List.find?_cons,e']
   rw[CN e,b];exact ih
theorem KV.any{kvs:List (κ×V)}{vs:List (κ×Value)}(r:KV kvs vs)(k:κ):(kvs.any λkv=>decide (kv.1=k))=vs.any λkv=>decide (kv.1=k):=by
 unfold KV at r
 induction r with
 |nil=>rfl
 |cons h t ih=>rw[fR,fR,ih,h.1]
theorem KV.Eu{kvs:List (κ×V)}{vs:List (κ×Value)}(r:KV kvs vs)(k:κ){y:V}{u:Value}(ry:RelV y u) :
  KV (kvs.map λkv=>if kv.1=k then(kv.1,y) else kv) (vs.map λkv=>if kv.1=k then(kv.1,u) else kv):=by
 unfold KV at r ⊢
 induction r with
 |nil=>exact .nil
 |@cons p q ps qs h t ih =>
  rw[bu,bu];refine .cons ?_ ih;obtain⟨h1,h2⟩:=h;by_cases e:p.1=k
  ·rw[aJ e,aJ (h1.symm.trans e)];exact⟨h1,ry⟩
  ·rw[aC e,aC (λz=>e (h1.trans z))];exact⟨h1,h2⟩
theorem KV.put{kvs:List (κ×V)}{vs:List (κ×Value)}(r:KV kvs vs)(k:κ){y:V}{u:Value}(ry:RelV y u):KV (putK kvs k y) (stored vs k u):=by
 unfold putK stored;rw[r.any k];by_cases e:(vs.any λkv=>decide (kv.1=k))=true
 ·rw[aJ e,aJ e];exact r.Eu k ry
 ·rw[aC e,aC e];exact Paired.snoc r ⟨rfl,ry⟩
theorem KV.keys{kvs:List (κ×V)}{vs:List (κ×Value)}(r:KV kvs vs):kvs.map (·.1)=vs.map (·.1):=by
 unfold KV at r
 induction r with
 |nil=>rfl
 |cons h t ih=>rw[bu,bu,ih,h.1]
theorem KV.length{kvs:List (κ×V)}{vs:List (κ×Value)}(r:KV kvs vs):kvs.length=vs.length:=mF r
end
theorem si{P:Program}{w:World}{k:Key}{u:Value}(r:RelV (kV k) u):(q9 P w).is k u=true:=by
 cases k with
 |inl i=>obtain⟨t,e⟩:=(show ∃t,u=Value.int i t from r);subst e;exact ZX P w i t
 |inr x=>obtain⟨t,e⟩:=(show ∃t,u=Value.str x t from r);subst e;exact ZY P w x t
theorem HP{P:Program}{w:World}:∀{ks:List Key} {us:List Value},Vals (ks.map kV) us->ItemsAre (q9 P w) ks us
 |[],_,r=>by rw[uh] at r;cases r;exact .nil
 |k::ks,_,r=>by
  rw[bu] at r;cases r with
  |cons h t=>exact .cons (si h) (HP t)
noncomputable abbrev KT(H:Hp):List (List Key×V)->List (List Key×Addr×Value)->Prop:=Paired λp q=>p.1=q.1/\H q.2.1=some (.tup (p.1.map kV))/\RelV p.2 q.2.2
theorem KT.val{H:Hp}{kvs:List (List Key×V)}{xs:List (List Key×Addr×Value)}(r:KT H kvs xs)(k:List Key):F1 (K7 kvs k) ((atKey xs k).map (·.2)):=by
 induction r with
 |nil=>exact True.intro
 |@cons p q ps qs h t ih =>
  obtain⟨h1,_,h2⟩:=h;by_cases e:p.1=k
  ·have e':q.1=k:=h1.symm.trans e;have b:atKey (q::qs) k=some q.2:=by simp[atKey,List.find?_cons,e']
   rw[CO e,b];exact h2
  ·have e':¬q.1=k:=λz=>e (h1.trans z);have b:atKey (q::qs) k=atKey qs k:=by simp[atKey,List.find?_cons,e']
   rw[CN e,b];exact ih
theorem KT.Eu{H:Hp}{kvs:List (List Key×V)}{xs:List (List Key×Addr×Value)}(r:KT H kvs xs)(k:List Key){y:V}{u:Value}(ry:RelV y u) :
  KT H (kvs.map λkv=>if kv.1=k then(kv.1,y) else kv) (xs.map (putAt k u)):=by
 induction r with
 |nil=>exact .nil
 |@cons p q ps qs h t ih =>
  rw[bu,bu];refine .cons ?_ ih;obtain⟨h1,h2,h3⟩:=h;unfold putAt;by_cases e:p.1=k
  ·rw[aJ e,aJ (h1.symm.trans e)];exact⟨h1,h2,ry⟩
  ·rw[aC e,aC (λz=>e (h1.trans z))];exact⟨h1,h2,h3⟩
theorem KT.put{H:Hp}{kvs:List (List Key×V)}{xs:List (List Key×Addr×Value)}(r:KT H kvs xs)(k:List Key){b:Addr}{y:V}{u:Value}(hb:H b=some (.tup (k.map kV)))(ry:RelV y u) :
  KT H (putK kvs k y) (storedH xs k b u):=by
 have e:(kvs.any λkv=>decide (kv.1=k))=(atKey xs k).isSome:=by
  rw[HC,(r.val k).O0,kY]
 unfold putK storedH;rw[e];by_cases q:(atKey xs k).isSome=true
 ·rw[aJ q,aJ q];exact r.Eu k ry
 ·rw[aC q,aC q];exact Paired.snoc r ⟨rfl,hb,ry⟩
theorem KT.keeps{H H':Hp}{kvs:List (List Key×V)}{xs:List (List Key×Addr×Value)}(r:KT H kvs xs)(ht:∀b ys,H b=some (.tup ys)->H' b=some (.tup ys)):KT H' kvs xs :=
 Paired.Hf r λ_ _ z=>⟨z.1,ht _ _ z.2.1,z.2.2⟩
section
variable{P:Program}{w:World}{H:Hp}{h:Heap}{a:Addr}
theorem KL{u:HO}(ok:gK P w H h)(e:Rd H a u):n6 P w H h a u:=e.ok ok
theorem sf{kvs:List (Key×V)}(ok:gK P w H h)(e:Rd H a (.dK kvs)):kvs.length<=sizeLine/\(a==sysModules)=false/\∃vs,KV kvs vs/\h.DictOf (q9 P w) a vs :=
 show n6 P w H h a (.dK kvs) from KL ok e
theorem Dy{kvs:List (Key×V)}(ok:gK P w H h)(e:H a=some (.dK kvs)):kvs.length<=sizeLine/\(a==sysModules)=false/\∃vs,KV kvs vs/\h.DictOf (q9 P w) a vs:=sf ok (.inl e)
theorem X0{ks:List Key}(ok:gK P w H h)(e:H a=some (.tup (ks.map kV))):(tupleKind (q9 P w)).is h ks a:=by
 obtain⟨_,ba,r,o,h1,h2,⟨n,h3⟩,_⟩:=(show n6 P w H h a (.tup (ks.map kV)) from ok a _ e)
 exact⟨o,ba.toArray,n,h1,h2,h3,by simpa using HP r⟩
theorem tV{kvs:List (List Key×V)}(ok:gK P w H h)(e:Rd H a (.dT kvs)):kvs.length<=sizeLine/\(a==sysModules)=false /\
  ∃xs,KT H kvs xs/\h.DictOfH (tupleKind (q9 P w)) a xs:=by
 obtain⟨z,y,xs,r,o,es,ep,h1,h2,h3,h4,h5⟩:=(show n6 P w H h a (.dT kvs) from KL ok e)
 refine⟨z,y,xs,r,o,es,ep,h1,h2,h3,h4,λx hx=>?_,h5⟩;have all:∀{l:List (List Key×V)} {m:List (List Key×Addr×Value)},KT H l m->∀x∈m,(tupleKind (q9 P w)).is h x.1 x.2.1:=by
  intro l m q
  induction q with
  |nil=>intro x hx;exact nomatch hx
  |@cons p q ps qs hq t ih =>
   intro x hx;rcases aE.mp hx with e|hx
   ·subst e;exact X0 ok (by rw[<- hq.1];exact hq.2.1)
   ·exact ih x hx
 exact all r x hx
theorem Wn{kvs:List (List Key×V)}(ok:gK P w H h)(e:H a=some (.dT kvs)):kvs.length<=sizeLine/\(a==sysModules)=false /\
  ∃xs,KT H kvs xs/\h.DictOfH (tupleKind (q9 P w)) a xs:=tV ok (.inl e)
end
def O3(H:Hp)(a:Addr)(y:V)(r:Option V):Prop :=
 (∃kvs k,Rd H a (.dK kvs)/\y=kV k/\r=K7 kvs k)\/∃kvs k b,Rd H a (.dT kvs)/\y=.ref b/\H b=some (.tup (k.map kV))/\r=K7 kvs k
def zi(H:Hp)(a:Addr)(y v:V)(H':Hp):Prop :=
 (∃kvs k,H a=some (.dK kvs)/\y=kV k/\kvs.length<sizeLine/\H'=upd H a (.dK (putK kvs k v))) \/
 ∃kvs k b,H a=some (.dT kvs)/\y=.ref b/\H b=some (.tup (k.map kV))/\kvs.length<sizeLine/\H'=upd H a (.dT (putK kvs k v))
theorem O3.k{H:Hp}{a:Addr}{kvs:List (Key×V)}{k:Key}(e:H a=some (.dK kvs)):O3 H a (kV k) (K7 kvs k):=.inl ⟨kvs,k,.inl e,rfl,rfl⟩
theorem zi.k{H:Hp}{a:Addr}{kvs:List (Key×V)}{k:Key}{v:V}(e:H a=some (.dK kvs))(hl:kvs.length<sizeLine):zi H a (kV k) v (upd H a (.dK (putK kvs k v))):=.inl ⟨kvs,k,e,rfl,hl,rfl⟩
section
variable{X:Cx}{pins:List (Addr×Obj)}{σ:St}{H:Hp}{s:Shared}{a:Addr}{y v:V}{u r:Value}{o:Option V}{A:Around}{E:Value->Shared->Prop}
theorem Inv.big(I:Inv X pins σ H s):sysModules<s.heap.objs.size:=by
 have h:mainGlobals<s.heap.objs.size:=(I.mod.glob.keeps I.bk).lt;exact cV (by decide) h
theorem Yc{Q:Value->Shared->Prop}(hu:A.units+1<cLine)(I:Inv X pins σ H s)(g:O3 H a y (some v))(ry:RelV y u)(h:∀w' s',Inv X pins σ H s'->RelV v w'->Q w' s') :
  wpAny (model X.prog X.w) A (getItem (.ref a) u) Q E s:=by
 rcases g with⟨kvs,k,e,ey,l⟩|⟨kvs,k,b,e,ey,eb,l⟩
 ·subst ey;obtain⟨z,hd,vs,rel,dd⟩:=sf I.bX e;obtain⟨w',hw,gn⟩:=F1.some_of (v:=v) (o:=valueAt vs k) (by rw[l];exact rel.val k);exact wpAny_getItem_of (si ry) dd.mapOf hw (h w' _ (I.tok _) gn)
 ·subst ey;cases (show u=Value.ref b from ry);obtain⟨z,hd,xs,rel,dd⟩:=tV I.bX e;obtain⟨w',hw,gn⟩:=F1.some_of (v:=v) (o:=(atKey xs k).map (·.2)) (by rw[l];exact rel.val k);obtain⟨p,hp,qT⟩:=ae.mp hw;refine wpAny_getItem_heap (fG hu) (X0 I.bX eb) dd hp ?_;rw[qT];exact h w' _ (I.tok _) gn
theorem UL{Q:Value->Shared->Prop}(hu:A.units+1<cLine)(I:Inv X pins σ H s)(g:O3 H a y o)(ry:RelV y u)(h:∀s',Inv X pins σ H s'->Q (.bool o.isSome) s') :
  wpAny (model X.prog X.w) A (compareOp .In u (.ref a)) Q E s:=by
 rcases g with⟨kvs,k,e,ey,l⟩|⟨kvs,k,b,e,ey,eb,l⟩
 ·subst ey;obtain⟨z,hd,vs,rel,dd⟩:=sf I.bX e;refine wpAny_in_of (si ry) hd dd.mapOf ?_;rw[<- (rel.val k).O0,<- l];exact h _ (I.tok _)
 ·subst ey;cases (show u=Value.ref b from ry);obtain⟨z,hd,xs,rel,dd⟩:=tV I.bX e;refine wpAny_in_heap (fG hu) (X0 I.bX eb) hd dd ?_;have q:=(rel.val k).O0;rw[kY] at q;rw[<- q,<- l];exact h _ (I.tok _)
theorem Sx{Q:Value->Shared->Prop}(hu:A.units+1<cLine)(I:Inv X pins σ H s)(g:O3 H a y o)(ry:RelV y u)(h:∀s',Inv X pins σ H s'->Q (.bool (!o.isSome)) s') :
  wpAny (model X.prog X.w) A (compareOp .NotIn u (.ref a)) Q E s:=by
 rcases g with⟨kvs,k,e,ey,l⟩|⟨kvs,k,b,e,ey,eb,l⟩
 ·subst ey;obtain⟨z,hd,vs,rel,dd⟩:=sf I.bX e;refine wpAny_notIn_of (si ry) hd dd.mapOf ?_;rw[<- (rel.val k).O0,<- l];exact h _ (I.tok _)
 ·subst ey;cases (show u=Value.ref b from ry);obtain⟨z,hd,xs,rel,dd⟩:=tV I.bX e;refine wpAny_notIn_heap (fG hu) (X0 I.bX eb) hd dd ?_;have q:=(rel.val k).O0;rw[kY] at q;rw[<- q,<- l];exact h _ (I.tok _)
theorem Ck{h':Heap}{t':Nat}{ob:HO}(I:Inv X pins σ H s)(mu:wX (H a))(hs:Heap.SameBut a s.heap h')(he:∃q,h'.get? a=some q)(new:n6 X.prog X.w (upd H a ob) h' a ob) :
  Inv X pins σ (upd H a ob) { s with heap:=h',toks:=t' } :=
 I.write (x:=a) (e:=a) mu (.inl rfl) (λb q hb z=>(hs.2 b hb).trans z) he new
theorem Jf{P:Program}{w:World}{H':Hp}{h':Heap}{kvs:List (Key×V)}{vs:List (Key×Value)}(z:kvs.length<=sizeLine)(hd:(a==sysModules)=false)(rel:KV kvs vs)(dd:h'.DictOf (q9 P w) a vs) :
  n6 P w H' h' a (.dK kvs):=⟨z,hd,vs,rel,dd⟩
theorem Yd{H':Hp}{Q:Unit->Shared->Prop}(hu:A.units+1<cLine)(I:Inv X pins σ H s)(g:zi H a y v H')(ry:RelV y u)(rv:RelV v r)(h:∀s',Inv X pins σ H' s'->Q () s') :
  wpAny (model X.prog X.w) A (setItem (.ref a) u r) Q E s:=by
 rcases g with⟨kvs,k,e,ey,l,eH⟩|⟨kvs,k,b,e,ey,eb,l,eH⟩
 ·subst ey eH;obtain⟨z,hd,vs,rel,dd⟩:=Dy I.bX e;have hz:vs.length<=sizeLine:=by rw[<- rel.length];exact z
  have hl:(putK kvs k v).length<=sizeLine:=by have:=U8 kvs k v;omega
  refine wpAny_setItem_pairs (hsz:=hz) (si ry) dd λh' rO hs=>h _ ?_;have he:∃q,h'.get? a=some q:=let ⟨q,_,_,hq,_⟩:=rO;⟨q,hq⟩
  exact Ck I (by rw[e];exact True.intro) hs he (Jf hl hd (rel.put k rv) rO)
 ·subst ey eH;cases (show u=Value.ref b from ry);obtain⟨z,hd,xs,rel,dd⟩:=Wn I.bX e;have hz:xs.length<=sizeLine:=by rw[<- mF rel];exact z
  have hl:(putK kvs k v).length<=sizeLine:=by have:=U8 kvs k v;omega
  refine wpAny_setItem_heap (hsz:=hz) (fG hu) (X0 I.bX eb) dd λh' rO hs=>h _ ?_;obtain⟨q,es,ep,hq,h2,h3,h4,_,h5⟩:=rO;refine Ck I (by rw[e];exact True.intro) hs ⟨q,hq⟩ ⟨hl,hd,_,(rel.put k eb rv).keeps λc ys ec=>?_,q,es,ep,hq,h2,h3,h4,h5⟩;rw[f9 (WK ec e (λz=>nomatch z))];exact ec
end
section
variable{X:Cx}{pins:List (Addr×Obj)}{σ:St}{H:Hp}{s:Shared}{a:Addr}{kvs:List (Key×V)}{k:Key}{u:Value}{A:Around}{E:Value->Shared->Prop}
theorem Wl{Q:Value->Shared->Prop}(I:Inv X pins σ H s)(e:Rd H a (.dK kvs))(h:∀t s',Inv X pins σ H s'->Q (.int kvs.length t) s'):wpAny (model X.prog X.w) A (call (.builtin "len") [.ref a]) Q E s:=by
 obtain⟨z,hd,vs,rel,dd⟩:=sf I.bX e;refine call_len_dict hd dd (by rw[<- rel.length];rw[iX] at z;omega) ?_;rw[<- rel.length];exact h _ _ (I.tok _)
end
theorem ZT{X:Cx}{pins:List (Addr×Obj)}{σ:St}{H:Hp}{s:Shared}{a:Addr}{y:V}{o:Option V}(I:Inv X pins σ H s)(g:O3 H a y o):s.TypeIs (.ref a) "dict":=by
 rcases g with⟨kvs,k,e,_,_⟩|⟨kvs,k,b,e,_,_,_⟩
 ·obtain⟨_,_,vs,_,dd⟩:=sf I.bX e;exact dd.typeIs
 ·obtain⟨_,_,xs,_,dd⟩:=tV I.bX e;exact dd.typeIs
section
variable{X:Cx}{o i e value:Expr}{pos pos' zN:Pos}{td ty tv:TE}
end
theorem Ke{P:Program}{w:World}{H:Hp}(h:Heap)(hb:sysModules<h.objs.size):n6 P w H (h.push { cls:=.type "dict",data:=.dict #[] }) h.objs.size (.dK []) :=
 ⟨cB _,dD.mpr (cx (aK hb)),[],.nil,Heap.DictOf.new h⟩
def RV:TE:=λ_ H Q=>∀p,H p=none->Q (.ref p) (upd H p (.dK []))
section
variable{X:Cx}{pos:Pos}
theorem a33:PE X (.Dict [] [] pos) RV:=λpins s σ H Q I h =>
 wpAny_Dict_empty ⟨.ref s.heap.objs.size,_,I.laid (a:=s.heap.objs.size) (o:=.dK []) (t':=s.toks) (λ_ _ q=>au _ q) (av _) (Ke s.heap I.big),rfl,h _ (I.bX.fresh (av _))⟩
end
def yO:List (TE×TE)->St->Hp->(List (V×V)->Hp->Prop)->Prop
 |[],_,H,Q=>Q [] H
 |(tk,tv)::r,σ,H,Q=>tk σ H λx H1=>tv σ H1 λy H2=>yO r σ H2 λps H3=>Q ((x,y)::ps) H3
noncomputable abbrev VV:List (V×V)->List (Value×Value)->Prop:=Paired λp q=>RelV p.1 q.1/\RelV p.2 q.2
def wV(X:Cx)(pos:Pos)(keys:List (Option Expr))(values:List Expr)(iF:List (TE×TE)):Prop :=
 ∀(pins:List (Addr×Obj)) (s:Shared) (σ:St) (H:Hp) (Q:List (V×V)->Hp->Prop),Inv X pins σ H s->yO iF σ H Q ->
  wpAny (model X.prog X.w) X.A (evalPairs (pairTrees keys values X.env pos)) (λvs s'=>∃ps H',Inv X pins σ H' s'/\VV ps vs/\Q ps H') X.xe s
theorem Tp{X:Cx}{pos:Pos}:wV X pos [] [] []:=λpins s σ H Q I h=>pairTrees_nil_walk ⟨[],H,I,.nil,h⟩
theorem a24{X:Cx}{pos:Pos}{k v:Expr}{ks:List (Option Expr)}{vs:List Expr}{tk tv:TE}{iF:List (TE×TE)}(hk:PE X k tk)(hv:PE X v tv)(hr:wV X pos ks vs iF) :
  wV X pos (some k::ks) (v::vs) ((tk,tv)::iF):=λpins s σ H Q I h =>
 pairTrees_cons_walk (cT (hk pins s σ H _ I h) λu s1 ⟨x,H1,I1,rx,q1⟩=>cT (hv pins s1 σ H1 _ I1 q1) λw2 s2 ⟨y,H2,I2,ry,q2⟩ =>
  cT (hr pins s2 σ H2 _ I2 q2) λws s3 ⟨ps,H3,I3,rel,q3⟩=>⟨(x,y) :: ps,H3,I3,.cons ⟨rx,ry⟩ rel,q3⟩)
def Q7(kvs more:List (Key×V)):List (Key×V):=more.foldl (λacc kv=>putK acc kv.1 kv.2) kvs
theorem KV.merge:∀{more:List (Key×V)} {rs:List (Key×Value)} {kvs:List (Key×V)} {vs:List (Key×Value)},KV more rs->KV kvs vs->KV (Q7 kvs more) (merged vs rs):=by
 intro more rs kvs vs r;unfold KV at r
 induction r generalizing kvs vs with
 |nil=>intro q;exact q
 |@cons p q ps qs h t ih =>
  intro r0;have e:KV (putK kvs p.1 p.2) (stored vs q.1 q.2):=by
   have:=r0.put p.1 h.2;rw[<- h.1];exact this
  exact ih e
theorem IY:∀(more kvs:List (Key×V)),(Q7 kvs more).length<=kvs.length+more.length
 |[],kvs=>by show kvs.length<=kvs.length+0;omega
 |p::r,kvs=>by
  have h1:=IY r (putK kvs p.1 p.2);have h2:=U8 kvs p.1 p.2;show(Q7 (putK kvs p.1 p.2) r).length<=_;rw[dF];omega
theorem Ij{P:Program}{w:World}:∀{kvs:List (Key×V)} {ws:List (Value×Value)},VV (kvs.map λkv=>(kV kv.1,kv.2)) ws->∃rs,Carries (q9 P w) ws rs/\KV kvs rs
 |[],_,r=>by rw[uh] at r;cases r;exact⟨[],True.intro,.nil⟩
 |p::kvs,_,r=>by
  rw[bu] at r;cases r with
  |@cons a b as bs h t =>
   obtain⟨rs,c,q⟩:=Ij (P:=P) (w:=w) t;obtain⟨b1,b2⟩:=b;exact⟨(p.1,b2)::rs,⟨si h.1,rfl,c⟩,.cons ⟨rfl,h.2⟩ q⟩
def Pc(iF:List (TE×TE)):TE:=λσ H Q=>∀p,H p=none->yO iF σ (upd H p (.dK [])) λps H2=>H2 p=some (.dK [])/\∃kvs:List (Key×V),ps=kvs.map (λkv=>(kV kv.1,kv.2))/\kvs.length<=15/\Q (.ref p) (upd H2 p (.dK (Q7 [] kvs)))
theorem Tg{X:Cx}{pos:Pos}{keys:List (Option Expr)}{values:List Expr}{iF:List (TE×TE)}(h:wV X pos keys values iF)(ki:keys.all (·.isSome)=true)(hl:keys.length=values.length)(h0:keys≠[])(pM:keys.length<=15):PE X (.Dict keys values pos) (Pc iF):=by
 intro pins s σ H Q I q;have hn:=I.bX.fresh (av s.heap.objs.size);have I1:=I.laid (a:=s.heap.objs.size) (o:=.dK []) (h':=s.heap.push { cls:=.type "dict",data:=.dict #[] }) (t':=s.toks) (λ_ _ q=>au _ q) (av _) (Ke s.heap I.big);refine wpAny_Dict_walk (knd:=q9 X.prog X.w) ki hl h0 pM (cT (h pins _ σ _ _ I1 (q _ hn)) λws s2 bB=>?_);obtain⟨ps,H2,I2,rel,e,kvs,ep,lk,q2⟩:=bB;subst ep;obtain⟨rs,c,rk⟩:=Ij (P:=X.prog) (w:=X.w) rel;obtain⟨z,hd,vs0,r0,dd⟩:=Dy I2.bX e;cases r0;refine⟨rs,c,dd,λh' rO hs=>⟨.ref s.heap.objs.size,_,?_,rfl,q2⟩⟩;have hz:(Q7 [] kvs).length<=sizeLine:=by
  have h1:=IY kvs [];rw[List.length_nil] at h1;rw[iX];omega
 have he:∃q,h'.get? s.heap.objs.size=some q:=let ⟨q,_,_,hq,_⟩:=rO;⟨q,hq⟩
 exact Ck I2 (by rw[e];exact True.intro) hs he (Jf hz hd (rk.merge .nil) rO)
section
variable{X:Cx}{pins:List (Addr×Obj)}{σ:St}{H:Hp}{s:Shared}{a:Addr}{y d:V}{u r:Value}{o:Option V}{A:Around}{E:Value->Shared->Prop}
theorem PH{Q:Value->Shared->Prop}(hu:A.units+1<cLine)(I:Inv X pins σ H s)(g:O3 H a y o)(ry:RelV y u)(rd:RelV d r)(h:∀w' s',Inv X pins σ H s'->RelV (o.getD d) w'->Q w' s') :
  wpAny (model X.prog X.w) A (call (.builtin "dict.get") [.ref a,u,r]) Q E s:=by
 rcases g with⟨kvs,k,e,ey,l⟩|⟨kvs,k,b,e,ey,eb,l⟩
 ·subst ey;obtain⟨z,hd,vs,rel,dd⟩:=sf I.bX e;refine call_meetsIn jf dd.typeIs ue (sA _ _ _) (meets_dict_get_default (q9 X.prog X.w) a (si ry) hd r) ⟨_,dd.mapOf,h _ _ (I.tok _) ?_⟩;rw[l];exact(rel.val k).getD rd
 ·subst ey;cases (show u=Value.ref b from ry);obtain⟨z,hd,xs,rel,dd⟩:=tV I.bX e;refine call_meetsIn jf dd.typeIs ue (sA _ _ _) (meetsH_dict_get_default (tupleKind (q9 X.prog X.w)) a b hd r) ⟨fG hu,k,xs,X0 I.bX eb,dd,h _ _ (I.tok _) ?_⟩;rw[l];exact(rel.val k).getD rd
end
section
variable{X:Cx}{o e f:Expr}{apos gi:Pos}{td ty tx:TE}
end
section
variable{X:Cx}{pins:List (Addr×Obj)}{σ:St}{H:Hp}{s:Shared}{a:Addr}{kvs:List (Key×V)}{A:Around}{E:Value->Shared->Prop}
end
section
variable{X:Cx}{pins:List (Addr×Obj)}{σ:St}{H:Hp}{s:Shared}{a:Addr}{y:V}{u:Value}{A:Around}{E:Value->Shared->Prop}
end
end L2

namespace Le
open PySem PySem.W PySem.Calls PyProof.Rows
theorem Xy{P:Params}{h:Heap}:∀(ns:List Int) (vs:List Value),WellAll P h vs (ns.map WData.int)->IntsAre vs ns:=by
 intro ns
 induction ns with
 |nil =>
  intro vs w;rw[uh] at w;cases w;exact .nil
 |cons n ns ih =>
  intro vs w;rw[bu] at w;cases w with
  |cons a b =>
   cases a;exact .cons _ _ (ih _ b)
theorem YQ{l:OpenLaw}{n:Nat}(hn:l.most=some n){P:Params}{h:Heap}{args:List WData}{vals:List Value}(oC:l.row.toRowW.claim.pre args=true)(An:WellAll P h vals args) :
  ∃a vs ns,vals=[Value.ref a]/\args=[WData.list (ns.map WData.int)]/\h.get? a=some { cls:=.type "list",data:=.seq vs.toArray }/\IntsAre vs ns/\ns.length<=n:=by
 have kf:WShape.hasAll [] args [.list .int]=true:=(pre_splitW oC).1;have hc:l.pre.holds [] { args:=args }=true:=(pre_splitW oC).2;obtain⟨d,r,rfl,h1,h2⟩:=hasAllW_cons kf;obtain rfl:=hasAllW_nil h2;obtain⟨xs,rfl,h3⟩:=hasW_list h1;obtain⟨ns,rfl⟩:=items_int h3;have hlen:ns.length<=n:=by
  unfold OpenLaw.pre at hc;have h4:(WTm.not (.lt (.lit (.int (n:Int))) (.len (.arg 0)))).holds [] { args:=[.list (ns.map .int)] }=true:=by
   have h4:=(holds_andW hc).1;rw[hn] at h4;exact h4
  have h5:=condW_of h4 (w_not (w_lt w_lit (w_len_list (w_arg rfl))));rw[ai] at h5;refine Nat.le_of_not_lt λq=>?_;have q':(n:Int)<((ns.length:Nat):Int):=by omega
  first
   |(rw[aA q'] at h5;exact absurd h5 (by decide))
   |(simp at h5;omega)
 cases An with
 |cons w1 w2 =>
  cases w2;cases w1 with
  |list ho ki=>exact⟨_,_,ns,rfl,rfl,ho,Xy ns _ ki,hlen⟩
theorem YK(l:OpenLaw)(args:List WData):l.row.toRowW.claim.post args (.bool true) args=true :=
 postW_of (r:=l.row.toRowW) (X:=(true==true))
  (show WShape.has [] (.bool true) .bool=true by first|rfl|decide|simp[WShape.has,WShape.arms,WShape.armsAll])
  (show(WTm.eq .res (.lit (.bool true))).value [] { args:=args,res:=some (.bool true),after:=args }=some (.bool (true==true)) from w_eq_bool (w_res rfl) w_lit) rfl
theorem ZP{l:OpenLaw}{n:Nat}{q:Program}{loose:List Str}{XP:(Str->Option Value)->Heap->Prop}{YP:World->Heap->Prop}{d:DefRec}(hn:l.most=some n)(vx:d.params.defaults=[])(call:∀ (w:World) (dB cq:Shared) (mg mb:Str->Option Value) (fa:Addr) (o:Obj) (pm cd doc:Value) (a:Addr) (vs:List Value) (ns:List Int),
   Ground q loose [] XP w dB mg mb cq.heap->YP w cq.heap ->
   cq.heap.get? fa=some o->o.data=.func (docDef d.name d.params d.body d.scope pm cd doc)->cq.heap.CodeRec cd d.name->mg d.name=some (.ref fa) ->
   cq.heap.get? a=some { cls:=.type "list",data:=.seq vs.toArray }->IntsAre vs ns->ns.length<=n->cq.gens=#[] ->
   codeAny (model l.prog w) callerA (.call (.ref fa) ⟨[.ref a],[]⟩) (λr s'=>r=.ok (.ret (.bool true))/\OldK cq.heap s'.heap/\s'.os=cq.os/\AllBare s'.gens) cq) :
  WalkO q loose XP YP l.row.toRowW d [] (λf vs=>PySem.call f vs):=by
 intro w dB cq mg mb G Y fa o pm cd doc dV kV ho hd mq hD hmg hg args vals as oC MP hrd An pH;obtain rfl:dV=.none:=Dflts.none hD vx;obtain rfl:kV=.none:=Dflts.noKw hD;obtain⟨a,vs,ns,rfl,rfl,ju,hints,hlen⟩:=YQ hn oC An;refine enter_call (gZ (call w dB cq mg mb fa o pm cd doc a vs ns G Y ho (fd_plain hd) mq hmg ju hints hlen hg) λr s' hq=>?_);obtain⟨rfl,h2,h3,h4⟩:=hq;exact⟨.inl ⟨.bool true,.bool true,[],rfl,λ_=>rfl,.bool true,YK l _,λ_=>⟨List.Pairwise.nil,λ_ hm=>(nomatch hm)⟩⟩,h2,h3,h4⟩
section
variable{prog:Program}{w:World}{A:Around}{E:Value->Shared->Prop}{s:Shared}{K:Frag}
end
end Le
namespace L2
open PySem PySem.Spec PyProof.Rows
theorem HZ:∀{vs:List Value} {ns:List Int},IntsAre vs ns->Vals (ns.map V.int) vs
 |_,_,.nil=>.nil
 |_,_,.cons n t h=>.cons ⟨t,rfl⟩ (HZ h)
def zj(H:Hp):Prop:=∀b,H b=none\/∃o xs,H b=some (.kj o (.lst xs))
theorem a44{P:Program}{w:World}{K:PySem.W.Frag}{mg mb:Str->Option Value}{CX:nR}{k:Nat}{fa a:Addr}{fd:FuncData}{x:Str}{sp:Sp}{cq:Shared}{vs:List Value}{ns:List Int}(KX:K.In cq.heap)(qV:cq.heap.Ns mainGlobals mg)(hb:cq.heap.Ns builtinsNs mb)(AR:∀x:Str,x≠"__name__"->mb x=bootBuiltins x)(AF:cq.heap.NoLimit)(hg:cq.gens=#[])(ha:cq.heap.get? a=some { cls:=.type "list",data:=.seq vs.toArray })(hi:IntsAre vs ns)(hl:ns.length<=sizeLine)(hr:x5 k callerA)(F:∀base:Heap,K.In base->base.Ns mainGlobals mg->iU P w K mg base CX k fa fd [x] sp)(vA:∀(s:Shared) (u:Value),BindsTo s fd ⟨[u],[]⟩ [(x,u)])(sU:∀H:Hp,zj H->gp K H a (ns.map V.int)->sp [.ref a] H (λv _=>v=.bl true) λ_ _ _=>False)(Be:∀H e s',CX [] H cq (λ_ _ _=>False) e s'->False) :
  codeAny (model P w) callerA (.call (.ref fa) ⟨[.ref a],[]⟩) (λr s'=>r=.ok (.ret (.bool true))/\OldK cq.heap s'.heap/\s'.os=cq.os/\AllBare s'.gens) cq:=by
 have rv:=HZ hi;have Ae:=hi.length;have core:∀H:Hp,zj H->gp K H a (ns.map V.int)->gK P w H cq.heap->(∀b,H b≠none->b=a)->(H a≠none->K.lookup a=none) ->
   codeAny (model P w) callerA (.call (.ref fa) ⟨[.ref a],[]⟩) (λr s'=>r=.ok (.ret (.bool true))/\OldK cq.heap s'.heap/\s'.os=cq.os/\AllBare s'.gens) cq:=by
  intro H hO hS bX hA hK;have P7:∀{b:Addr} {o:Obj},cq.heap.get? b=some o->H b=none->(oY cq.heap H).get? b=some o:=λe n=>a51 e n;have uP:∀{b:Addr} {o:Obj} {es:Array DictEntry} {ep:Nat},cq.heap.get? b=some o->o.data=.dict es ep->H b=none:=λ{b o es ep} e d=>by
   cases q:H b with
   |none=>rfl
   |some u =>
    have e':b=a:=hA b (by rw[q];simp);subst e';rw[ha] at e;cases e;have d':Data.seq vs.toArray _=Data.dict es ep:=d;cases d'
  have xA:∀{b:Addr} {m:Str->Option Value},cq.heap.Ns b m->(oY cq.heap H).Ns b m:=λ{b m} ⟨o,es,ep,e,d,r⟩=>⟨o,es,ep,P7 e (uP e d),d,r⟩
  have Gy:K.In (oY cq.heap H):=λb o e=>P7 (KX b o e) (by
   cases q:H b with
   |none=>rfl
   |some u =>
    have e':b=a:=hA b (by rw[q];simp);subst e';rw [hK (by rw [q];simp)] at e;cases e)
  have hM:Mod K mg (oY cq.heap H):=⟨Gy,xA qV,⟨mb,xA hb,AR⟩,let ⟨mc,h1,h2⟩:=AF;⟨mc,xA h1,h2⟩⟩
  have e0:rT P w K mg (oY cq.heap H) callerA [] cq H:=⟨rfl,hM,λb o e=>SU e,fz (Yi _ _),trivial,λb hb=>absurd (show b∈([]:List Addr) from hb) (by simp),bX,.of_eq hg⟩
  refine gZ ((F _ Gy (xA qV)).run callerA [] cq H ⟨[.ref a],[]⟩ [.ref a] [.ref a] _ _ hr e0 (vA cq (.ref a)) (.cons rfl .nil) (sU H hO hS)) λr s' h=>?_;cases r with
  |error e=>exact(Be H e s' h).elim
  |ok fl =>
   cases fl with
   |next=>exact False.elim h
   |brk=>exact False.elim h
   |cont=>exact False.elim h
   |ret u =>
    obtain⟨v,H',os,bare,un,As,r',q⟩:=h;have q':v=.bl true:=q;subst q';obtain rfl:u=Value.bool true:=r';refine⟨rfl,OldK.of_keep λb o e=>?_,os,bare⟩;cases q:H b with
    |none=>exact un.keep b o e q (by intro z;exact absurd (show b∈([]:List Addr) from z) (by simp)) (by simp)
    |some u =>
     rcases hO b with z|⟨ob,xs,z⟩
     ·rw[q] at z;cases z
     ·have z2:=un.iS b ob _ z;obtain⟨e1,_⟩:=bX b _ z;obtain⟨e2,_⟩:=As b _ z2;rw[e] at e1;cases e1;exact e2
 cases hk:K.lookup a with
 |some o =>
  have e:=KX a o hk;rw[ha] at e;cases e;refine core (λ_=>none) (λ_=>.inl rfl) (.inr ⟨_,vs.toArray,_,hk,rfl,rfl,rfl,by rw[aH,Ae];exact hl,by simpa using rv⟩) (λb u z=>by have z':(none:Option HO)=some u:=z;cases z') (λb z=>absurd rfl z) λz=>absurd rfl z
 |none =>
  refine core (λb=>if b=a then some (.kj { cls:=.type "list",data:=.seq vs.toArray } (.lst (ns.map V.int))) else none) (λb=>?_) (.inl (.inr ⟨{ cls:=.type "list",data:=.seq vs.toArray },aJ rfl⟩)) (λb u z=>?_) (λb z=>?_) λ_=>hk
  ·by_cases hb:b=a
   ·exact .inr ⟨_,_,aJ hb⟩
   ·exact .inl (aC hb)
  ·by_cases hb:b=a
   ·have z':=(aJ hb).symm.trans z;cases z';subst hb;exact⟨ha,by rw[ai];exact hl,vs,_,rv,ha⟩
   ·have z':=(aC hb).symm.trans z;cases z'
  ·by_cases hb:b=a
   ·exact hb
   ·exact absurd (aC hb) z
theorem Uu{l:PySem.W.OpenLaw}{n k:Nat}{q:Program}{loose:List Str}{XP:(Str->Option Value)->Heap->Prop}{YP:World->Heap->Prop}{d:DefRec}{K:Params->PySem.W.Frag}{CX:World->nR}{sp:World->Sp}{x:Str}(hn:l.most=some n)(mP:n<=sizeLine)(vx:d.params.defaults=[])(hr:x5 k callerA)(hY:∀(w:World) (h:Heap),YP w h->(K w.params).In h)(F:∀ (w:World) (mg:Str->Option Value) (fa:Addr) (h:Heap),(K w.params).In h->h.Ns mainGlobals mg->mg d.name=some (.ref fa) ->
   ∃fd:FuncData,(∀(s:Shared) (u:Value),BindsTo s fd ⟨[u],[]⟩ [(x,u)]) /\
    ∀ base:Heap,(K w.params).In base->base.Ns mainGlobals mg->iU l.prog w (K w.params) mg base (CX w) k fa fd [x] (sp w))(sU:∀(w:World) (H:Hp) (a:Addr) (ns:List Int),ns.length<=n->zj H->gp (K w.params) H a (ns.map V.int)->sp w [.ref a] H (λv _=>v=.bl true) λ_ _ _=>False)(Be:∀(w:World) (H:Hp) (s:Shared) (e:Value) (s':Shared),CX w [] H s (λ_ _ _=>False) e s'->False) :
  PySem.W.WalkO q loose XP YP l.row.toRowW d [] (λf vs=>PySem.call f vs):=by
 refine Le.ZP hn vx λw dB cq mg mb fa o pm cd doc a vs ns G Y ho hd mq hmg ju hints hlen hg=>?_;have KX:=hY w _ Y;obtain⟨fd,hb,hF⟩:=F w mg fa _ KX G.T.g hmg;exact a44 KX G.T.g G.T.b G.T.builtins G.T.nolimit hg ju hints (aI hlen mP) hr hF hb (λH hO hS=>sU w H a ns hlen hO hS) λH e s'=>Be w H cq e s'
def A9(s:Stmt):Arguments:=match s with
 |.FunctionDef _ a _ _ _ _ _ _ _ _=>a
 |_=>{ posonlyargs:=[],args:=[],vararg:=none,kwonlyargs:=[],kw_defaults:=[],kwarg:=none,defaults:=[] }
def p9(s:Stmt):List Stmt:=match s with
 |.FunctionDef _ _ b _ _ _ _ _ _ _=>b
 |_=>[]
def p6(s:Stmt):Scope:=match s with
 |.FunctionDef _ _ _ _ _ _ sc _ _ _=>sc
 |_=>{ kind:=.function,names:=[],isGenerator:=false,isCoroutine:=false }
structure qg(K:PySem.W.Frag)(x qual:Str)(st:Stmt)(f:Addr)(fd:FuncData):Prop where
 ex:∃(oc:Value) (od:Option Addr) (kV doc pm:Value) (an:Option Addr) (fW ct:Value) (mL:Array (Option Value)),
  fd=PySem.W.fnOf x qual (A9 st) (p9 st) (p6 st) .none kV doc pm an fW ct/\K.lookup f=some ⟨oc,od,.func fd,mL⟩/\PySem.W.codeIn K fW qual=true
 kp:PySem.W.keepIn K (.ref f)=true
section
variable{P:Program}{w:World}{K:PySem.W.Frag}{mg:Str->Option Value}{base:Heap}
theorem qg.binds{x qual:Str}{st:Stmt}{f:Addr}{fd:FuncData}{ps:List Str}(F:qg K x qual st f fd)(h:∀(kV doc pm:Value) (an:Option Addr) (fW ct:Value) (us:List Value),us.length=ps.length->bindArgs (PySem.W.fnOf x qual (A9 st) (p9 st) (p6 st) .none kV doc pm an fW ct) ⟨us,[]⟩=pure (ps.zip us)):Binds K fd ps []:=by
 obtain⟨oc,od,kV,doc,pm,an,fW,ct,mL,rfl,lk,mq⟩:=F.ex;exact .all (h kV doc pm an fW ct)
theorem Jh{x qual:Str}{st:Stmt}{f:Addr}{oc:Value}{od an:Option Addr}{mL:Array (Option Value)}{kV doc pm fW ct:Value}(l:K.lookup f=some ⟨oc,od,.func (PySem.W.fnOf x qual (A9 st) (p9 st) (p6 st) .none kV doc pm an fW ct),mL⟩)(c:PySem.W.codeIn K fW qual=true)(k:PySem.W.keepIn K (.ref f)=true):qg K x qual st f (PySem.W.fnOf x qual (A9 st) (p9 st) (p6 st) .none kV doc pm an fW ct):=⟨⟨oc,od,kV,doc,pm,an,fW,ct,mL,rfl,l,c⟩,k⟩
end
section
variable{X:Cx}
theorem XW:n4 X (.builtin "len") (λxs H Q=>∃a kvs,xs=[V.ref a]/\H a=some (.dK kvs)/\Q (.int kvs.length) H):=by
 intro pins s σ H xs us Q I r h;obtain⟨a,kvs,rfl,ha,q⟩:=h;obtain⟨u,rfl,ru⟩:=vals1 r;cases ru;exact Wl I (.inl ha) λt s' I'=>⟨.int kvs.length,H,I',⟨t,rfl⟩,q⟩
end
section
variable{κ:Type}[DecidableEq κ]
end
end L2

namespace L2
open PySem PySem.Spec PyProof.Rows
section
variable{prog:Program}{w:World}{A:Around}{R:Result->Shared->Prop}{s:Shared}
theorem aC6{elt target iter:Expr}{ifs:List Expr}{scope:Scope}{pos:Pos}{it acc:Value}{env:Env}(I:Nat->Shared->Prop)(turn:∀ n s,I n s->wpAny (model prog w) A (pyNext it) (λr cq=>match r with
   |none=>R (.ok .next) cq
   | some v=>wpAny (model prog w) A (letOwnedTupleGo target it v) (λ_ cq=>wpAny (model prog w) A (assign target env v) (λ_ iN =>
     wpAny (model prog w) A (forIn ifs true λc r=>if r=true then do let ok <- isTrue c env (eval c env);pure (ForInStep.yield ok) else pure (ForInStep.yield r)) (λok fU =>
      if ok=true then wpAny (model prog w) A (eval elt env) (λx ka =>
       wpAny (model prog w) A (call (.builtin "list.append") [acc,x]) (λ_ nc=>∃ m,m < n/\I m nc) (λ_ _=>False) ka) (notedBy (model prog w) A env λe s'=>R (.error e) s') fU
      else ∃ m,m < n/\I m fU) (λ_ _=>False) iN) (λ_ _=>False) cq) (λ_ _=>False) cq) (λ_ _=>False) s)(n:Nat)(h:I n s) :
  codeAny (model prog w) A (.compLoop (.ListComp elt [⟨target,iter,ifs,0⟩] scope pos) 0 it acc env) R s:=by
 refine codeAny_loop rfl I (λn s hI=>?_) n h;show wpAny _ A ((compTurn (.ListComp elt [⟨target,iter,ifs,0⟩] scope pos) 0 it acc env).onRaise (λx=>do noteFrame x env;theTreesLotGoes x)) _ _ s;refine wpAny_noted ?_;rw[compTurn_list];refine aa (eI (aa (bI (turn n s hI) (λr cq dR=>?_) λ_ _ h'=>h'.elim)));cases r with
 |none=>exact aj dR
 |some v =>
  refine aa (bI dR (λ_ cq dR=>?_) λ_ _ h'=>h'.elim);refine aa (bI dR (λ_ iN jt=>aa (bI jt (λok fU nu=>?_) λ_ _ h'=>h'.elim)) λ_ _ h'=>h'.elim);cases ok with
  |false=>exact wpAny_pure ⟨rfl,nu⟩
  |true =>
   exact aa (aa (bI nu (λx ka qS=>aa (bI qS (λ_ nc qR=>aj (aj ⟨rfl,qR⟩)) λ_ _ h'=>h'.elim)) λ_ _ h'=>h'))
end
def lR(X:Cx)(es:List Expr)(t:TT):Prop :=
 ∀(pins:List (Addr×Obj)) (s:Shared) (σ:St) (H:Hp) (Q:Bool->Hp->Prop),Inv X pins σ H s->t σ H Q ->
  wpAny (model X.prog X.w) X.A (forIn es true λc r=>if r=true then do let ok <- isTrue c X.env (eval c X.env);pure (ForInStep.yield ok) else pure (ForInStep.yield r)) (TP X pins σ Q) X.xe s
def VP:TT:=λ_ H Q=>Q true H
section
variable{X:Cx}
theorem Tu:lR X [] VP:=λpins s σ H Q I h=>aj ⟨H,I,h⟩
theorem Tv{c:Expr}{t:TT}(h:PT X c t):lR X [c] t:=by
 intro pins s σ H Q I q;simp only[List.forIn_cons,List.forIn_nil,if_true];exact aa (aa (bI (h pins s σ H Q I q) (λb s' hb=>aj (aj hb)) λ_ _ x=>x))
end
def K3(scope:Scope)(cl:List (Str×Addr))(C:Addr):List (Str×Addr):=cellsFrom (C+1) scope.names []++cl
theorem C8:∀(names:List (Str×NameKind)) (n:Nat) (acc:List (Str×Addr)),cellsFrom n names acc=cellsFrom n names []++acc
 |[],_,_=>rfl
 |(y,k)::r,n,acc=>by
  unfold cellsFrom;split
  ·rw[C8 r (n+1) ((y,n)::acc),C8 r (n+1) [(y,n)],bL]
   rfl
  ·exact C8 r n acc
theorem R7{x:Str}{c:Addr}:∀{names:List (Str×NameKind)} {n:Nat},(x,c)∈cellsFrom n names []->(x,NameKind.cell)∈names
 |[],_,h=>by simp[cellsFrom] at h
 |(y,k)::r,n,h=>by
  unfold cellsFrom at h;split at h
  ·rename_i hk;rw[C8] at h;rcases aS.mp h with z|z
   ·exact bE _ (R7 z)
   ·cases bf.mp z;rw[show k=NameKind.cell from by simpa using hk];exact cO
  ·exact bE _ (R7 h)
theorem H9{α:Type}{x:Str}:∀{a b:List (Str×α)},(a++b).lookup x=(a.lookup x).or (b.lookup x)
 |[],_=>rfl
 |(y,v)::r,b=>by
  rw[List.cons_append,cP,cP];cases x==y
  ·exact H9
  ·rfl
theorem HL{scope:Scope}{cl:List (Str×Addr)}{C:Addr}{x:Str}(h:scope.names.lookup x=some .cell\/∃c,cl.lookup x=some c):∃c,(K3 scope cl C).lookup x=some c:=by
 unfold K3;rw[H9];cases e:(cellsFrom (C+1) scope.names []).lookup x with
 |some c=>exact⟨c,rfl⟩
 |none =>
  rcases h with h|h
  ·have q:=dO scope.names (C+1) [] (.inl h);rw[e] at q;cases q
  ·exact h
theorem L7{env:Env}:∀{names:List (Str×NameKind)} {x:Str},names.lookup x=some .cell ->
  (names.map λ(n,k)=>if(k==NameKind.free&&env.scope.kind==.function&&env.kindOf n==some .cell) then(n,NameKind.cell) else(n,k)).lookup x=some .cell
 |[],_,h=>by simp at h
 |(n,k)::r,x,h=>by
  have ih:=@L7 env r x;show List.lookup x ((if(k==NameKind.free&&env.scope.kind==.function&&env.kindOf n==some .cell)=true then(n,NameKind.cell) else(n,k))::_)=_;cases hx:x==n with
  |true =>
   simp only[List.lookup_cons,hx] at h;cases h;simp[List.lookup_cons,hx]
  |false =>
   simp only[List.lookup_cons,hx] at h;by_cases hc:(k==NameKind.free&&env.scope.kind==.function&&env.kindOf n==some .cell)=true
   ·rw[aJ hc];simp only[List.lookup_cons,hx];exact ih h
   ·rw[aC hc];simp only[List.lookup_cons,hx];exact ih h
theorem zg{scope:Scope}{cl:List (Str×Addr)}{C:Addr}{h:Heap}(ck:CellsOk h (C+1) (cellsFrom (C+1) scope.names [])){x:Str}{c:Addr}(e:(K3 scope cl C).lookup x=some c):C<c\/cl.lookup x=some c:=by
 unfold K3 at e;rw[H9] at e;cases e2:(cellsFrom (C+1) scope.names []).lookup x with
 |some c' =>
  rw[e2] at e;cases e;exact .inl (ck.empty x c (aQ e2)).2
 |none =>
  rw[e2] at e;exact .inr e
theorem IZ{M:Model}{A:Around}{E:Value->Shared->Prop}{s:Shared}{scope:Scope}{globals:Addr}{cl:List (Str×Addr)}{qual:Str}{outer:Env}{Q:Env->Shared->Prop}(hQ:∀ dR:Heap,dR.Ns s.heap.objs.size (λ_=>none)->(∀ b o,s.heap.get? b=some o->dR.get? b=some o)->CellsOk dR (s.heap.objs.size + 1) (cellsFrom (s.heap.objs.size + 1) scope.names []) ->
   Q (newEnv scope s.heap.objs.size globals (K3 scope cl s.heap.objs.size) qual none .none (some outer) builtinsNs) { s with heap:=dR }) :
  wpAny M A (newFunctionEnv scope globals cl [] qual none .none (some outer)) Q E s:=by
 simp only[newFunctionEnv,Option.isSome_some,if_true];refine aa (wpAny_alloc ?_);refine aa (wpAny_layCells _ (λname kind cells=>by cases MV:kind==NameKind.cell<;>simp[MV]) _ _ _ _ ?_);have ok:=cellsFrom_ok scope.names (s.heap.push { cls:=.type "dict",data:=.dict #[] }) (s.heap.objs.size+1) [] ⟨λ_ _ hm=>(nomatch hm),List.Pairwise.nil⟩ (by rw[fb];exact av _);rw[fb] at ok;rw[show({ s with heap:=s.heap.push { cls:=.type "dict",data:=.dict #[] } }:Shared).heap.objs.size=s.heap.objs.size+1 from fb ..];rw[List.forIn_nil];refine aa (aj (aj ?_));rw[C8];exact hQ _ ((Heap.Ns.new s.heap (.type "dict")).keeps (pushCells_keeps _ _)) (λb o e=>pushCells_keeps _ _ b o (au _ e)) ok
def d8(X:Cx)(pins:List (Addr×Obj))(scope:Scope)(N':List Str)(cl:List (Str×Addr))(C:Addr)(s:Shared)(H:Hp)(fp:List Addr):Cx where
 prog:=X.prog
 w:=X.w
 K:=X.K
 mg:=X.mg
 base:=X.base
 A:=X.A
 N:=N'
 dB:=s
 jF:=H
 env:=compEnvC scope (K3 scope cl C) C X.env
 outer:=X.stack
 stack:=X.stack
 ex:=fp
 calm:=true
 fn:=λx=>decide (scope.names.lookup x=some .cell)
 pn:=X.pn++pins
 xe:=λ_ _=>False
structure dG(X:Cx)(scope:Scope)(N':List Str)(d6:List Nat)(cl:List (Str×Addr)):Prop where
 kind:scope.kind=.function
 cells:∀y∈scope.names,y.2=.cell->scope.names.lookup y.1=some .cell
 names:∀y∈scope.names,y.2=.local->scope.names.lookup y.1=some .local
 rQ:closureFor scope X.env=pure cl
 cin:∀x c,cl.lookup x=some c->X.env.cells.lookup x=some c
 wb:∀x,scope.names.lookup x=some .free->∃c,cl.lookup x=some c
 nd:N'.Nodup
 OF:∀(i j:Nat),d6[i]?=some j->∃x,N'[i]?=some x/\X.N[j]?=some x/\scope.names.lookup x=some .free/\(X.env.kindOf x=some .cell\/X.env.kindOf x=some .free)
 BP:d6.length<=N'.length
theorem E2{env:Env}:∀{names:List (Str×NameKind)} {x:Str},names.lookup x=some .free ->
  (names.map λ(n,k)=>if(k==NameKind.free&&env.scope.kind==.function&&env.kindOf n==some .cell) then(n,NameKind.cell) else(n,k)).lookup x=some .cell \/
  (names.map λ(n,k)=>if(k==NameKind.free&&env.scope.kind==.function&&env.kindOf n==some .cell) then(n,NameKind.cell) else(n,k)).lookup x=some .free
 |[],_,h=>by simp at h
 |(n,k)::r,x,h=>by
  have ih:=@E2 env r x;show List.lookup x ((if(k==NameKind.free&&env.scope.kind==.function&&env.kindOf n==some .cell)=true then(n,NameKind.cell) else(n,k))::_)=_\/List.lookup x ((if(k==NameKind.free&&env.scope.kind==.function&&env.kindOf n==some .cell)=true then(n,NameKind.cell) else(n,k))::_)=_;cases hx:x==n with
  |true =>
   simp only[List.lookup_cons,hx] at h;cases h;by_cases hc:(NameKind.free==NameKind.free&&env.scope.kind==.function&&env.kindOf n==some .cell)=true
   ·rw[aJ hc];simp[List.lookup_cons,hx]
   ·rw[aC hc];simp[List.lookup_cons,hx]
  |false =>
   simp only[List.lookup_cons,hx] at h;by_cases hc:(k==NameKind.free&&env.scope.kind==.function&&env.kindOf n==some .cell)=true
   ·rw[aJ hc];simp only[List.lookup_cons,hx];exact ih h
   ·rw[aC hc];simp only[List.lookup_cons,hx];exact ih h
theorem L8{env:Env}:∀{names:List (Str×NameKind)} {x:Str},((names.map λ(n,k)=>if(k==NameKind.free&&env.scope.kind==.function&&env.kindOf n==some .cell) then(n,NameKind.cell) else(n,k)).lookup x=some .cell \/
  (names.map λ(n,k)=>if (k == NameKind.free && env.scope.kind == .function && env.kindOf n == some .cell) then (n,NameKind.cell) else (n,k)).lookup x=some .free)->names.lookup x=some .free \/ names.lookup x=some .cell
 |[],_,h=>by simp at h
 |(n,k)::r,x,h=>by
  have ih:=@L8 env r x;rw[bu] at h;cases hx:x==n with
  |true =>
   simp only[List.lookup_cons,hx];by_cases hc:(k==NameKind.free&&env.scope.kind==.function&&env.kindOf n==some .cell)=true
   ·left;simp only[Bool.and_eq_true,beq_iff_eq] at hc;rw[hc.1.1]
   ·simp only[if_neg hc,List.lookup_cons,hx] at h;rcases h with h|h
    ·exact .inr h
    ·exact .inl h
  |false =>
   simp only[List.lookup_cons,hx];by_cases hc:(k==NameKind.free&&env.scope.kind==.function&&env.kindOf n==some .cell)=true
   ·simp only[if_pos hc,List.lookup_cons,hx] at h;exact ih h
   ·simp only[if_neg hc,List.lookup_cons,hx] at h;exact ih h
def B8(σ:St)(d6:List Nat)(n:Nat):St:=d6.map (λj=>(σ[j]?).join)++List.replicate (n-d6.length) none
section
variable{X:Cx}{pins:List (Addr×Obj)}{σ:St}{H:Hp}{s:Shared}
theorem Inv.Il{scope:Scope}{N':List Str}{d6:List Nat}{cl:List (Str×Addr)}{C:Addr}{h1:Heap}{fp:List Addr}{tk:Nat}(I:Inv X pins σ H s)(S:dG X scope N' d6 cl)(hc:X.calm=true)(hf:∀b∈fp,C0 X pins H b)(ho:∀b∈fp,∃o,s.heap.get? b=some o)(hC:s.heap.objs.size<=C)(hn:∃m,h1.Ns C m)(k:∀b o,s.heap.get? b=some o->h1.get? b=some o)(ck:CellsOk h1 (C+1) (cellsFrom (C+1) scope.names [])) :
  Inv (d8 X pins scope N' cl C s H fp) [] (B8 σ d6 N'.length) H { s with heap:=h1,toks:=tk }:=by
 obtain⟨m,hm⟩:=hn;have MU:(relabel scope X.env).kind=.function:=S.kind;have Fo:∀b o,s.heap.get? b=some o->b≠C:=λb o e z=>absurd (aB e) (by rw[z];exact kz.mpr hC);have two:∀{x:Str} {c:Addr},(K3 scope cl C).lookup x=some c->(C<c/\h1.IsCell c none/\(x,c)∈cellsFrom (C+1) scope.names [])\/(cl.lookup x=some c/\(cellsFrom (C+1) scope.names []).lookup x=none):=λ{x c} h=>by
  unfold K3 at h;rw[H9] at h;cases e:(cellsFrom (C+1) scope.names []).lookup x with
  |some c' =>
   rw[e] at h;cases h;have hm:=aQ e;exact .inl ⟨(ck.empty x c hm).2,(ck.empty x c hm).1,hm⟩
  |none =>
   rw[e] at h;exact .inr ⟨h,rfl⟩
 have uK:∀{x:Str} {c:Addr},cl.lookup x=some c->c<s.heap.objs.size:=λ{x c} h=>by
  obtain⟨v,o,e,_⟩:=I.cell x c (S.cin x c h);exact aB e
 have frees:∀{x:Str},scope.names.lookup x=some .free->(K3 scope cl C).lookup x=cl.lookup x:=λ{x} h=>by
  unfold K3;rw[H9];cases e:(cellsFrom (C+1) scope.names []).lookup x with
  |some c' =>
   have:=S.cells _ (R7 (aQ e)) rfl;rw[h] at this;cases this
  |none=>rfl
 refine⟨⟨I.mod,MU,I.ok.glob,I.ok.blt,hC,?_,?_,?_,λ_=>I.ok.hd hc,I.ok.frames,.inl rfl,?_,I.bs,?_,?_,?_,I.stack,I.Cw⟩,rfl,I.bare,Un.kept k,⟨m,hm,?_⟩,?_,?_,?_,?_,I.bX.kept k,?_⟩
 ·intro x y c h1 h2;rcases two h1 with⟨l1,_,q1⟩|⟨q1,_⟩<;>rcases two h2 with⟨l2,_,q2⟩|⟨q2,_⟩
  ·exact PySem.name_of_addr ck.apart q1 q2
  ·exact absurd (cV l1 (ay (uK q2) hC)) (bH _)
  ·exact absurd (cV l2 (ay (uK q1) hC)) (bH _)
  ·exact I.ok.inj x y c (S.cin x c q1) (S.cin y c q2)
 ·intro x hx;rcases L8 (env:=X.env) (names:=scope.names) hx with z|z
  ·obtain⟨c,hc⟩:=S.wb x z;exact⟨c,(frees z).trans hc⟩
  ·have q:=dO scope.names (C+1) [] (.inl z);obtain⟨c,hc⟩:=eZ.mp q;refine⟨c,?_⟩;show(K3 scope cl C).lookup x=some c;unfold K3;rw[H9,hc]
   rfl
 ·intro x c hf h;have z:scope.names.lookup x=some .cell:=bh hf;have q:=dO scope.names (C+1) [] (.inl z);rcases two h with⟨l,_⟩|⟨_,e⟩
  ·exact eL (cZ hC l)
  ·rw[e] at q;cases q
 ·intro b hb;obtain⟨f0,f1,f2,f3,f4,f5⟩:=hf b hb;obtain⟨o,e⟩:=ho b hb;refine⟨Fo b o e,λx c h=>?_⟩;rcases two h with⟨l,_⟩|⟨q,_⟩
  ·intro z;subst z;exact absurd (cV l (ay (aB e) hC)) (bH _)
  ·exact f4 x c (S.cin x c q)
 ·exact aI I.ok.pU I.sz
 ·intro b o e hb;obtain⟨f0,f1,f2,f3,f4,f5⟩:=hf b hb;rcases f3 with f3|f3
  ·exact I.ok.nj b o e f3
  ·exact absurd (aB (I.ok.bs b o e).1) (kz.mpr f3)
 ·intro b hb z;obtain⟨f0,f1,f2,f3,f4,f5⟩:=hf b hb;rcases aE.mp (I.K9 b z) with z|z
  ·exact f1 z
  ·exact f2 z
 ·intro i x v NO h2 h3;have hi:i<d6.length:=by
   unfold B8 at h2;by_cases hi:i<d6.length
   ·exact hi
   ·rw[eF (by simpa using hi),fu] at h2;split at h2<;>cases h2
  obtain⟨j,hj⟩:∃j,d6[i]?=some j:=⟨_,ak hi⟩
  have hs:σ[j]?=some (some v):=by
   unfold B8 at h2;rw[aL (by simpa using hi),ao,hj] at h2;simp only[Option.map_some] at h2;cases e:σ[j]? with
   |none=>rw[e] at h2;cases h2
   |some a=>rw[e] at h2;exact fx some (aP h2)
  obtain⟨y,Mw,Mv,Al,FN⟩:=S.OF i j hj;have ey:y=x:=by
   have vN:N'[i]?=some x:=NO;rw[Mw] at vN;exact aP vN
  subst ey;obtain⟨m0,hm0,hl⟩:=I.loc;obtain ⟨u,ru,hu⟩:=hl j y v Mv hs (by
   rcases FN with z|z
   ·exact .inr (.inl z)
   ·exact .inr (.inr z))
  refine⟨u,ru,.inr ⟨E2 (env:=X.env) (names:=scope.names) Al,?_⟩⟩;rcases hu with⟨z,_⟩|⟨_,c,rh,pK⟩
  ·rcases FN with z'|z'<;>(rw[z'] at z;cases z)
  ·obtain⟨c',jw⟩:=S.wb y Al;have e:=S.cin y c' jw;rw[rh] at e;cases e;obtain⟨o,e1,e2⟩:=pK;exact⟨c,(frees Al).trans jw,o,k _ _ e1,e2⟩
 ·intro x c h;rcases two h with⟨_,q,_⟩|⟨q,_⟩
  ·exact⟨none,q⟩
  ·obtain⟨v,o,e1,e2⟩:=I.cell x c (S.cin x c q);exact⟨v,o,k _ _ e1,e2⟩
 ·exact I.bX.fresh hC
 ·intro x c h;rcases two h with⟨l,_⟩|⟨q,_⟩
  ·exact I.bX.fresh (eL (cZ hC l))
  ·exact I.fZ x c (S.cin x c q)
 ·intro p hp;have gJ:p∈X.pn++pins:=by simpa[d8] using hp
  obtain⟨p1,p2,p3,p4,p5⟩:=I.pin p gJ;refine⟨k _ _ p1,p2,Fo _ _ p1,λz=>?_,p5⟩;rcases aE.mp (I.K9 _ z) with z|z
  ·exact p3 z
  ·exact p4 z
 ·unfold B8;show _=N'.length;rw[bj,ai,xh];have:=S.BP;omega
theorem Inv.Kc{scope:Scope}{N':List Str}{cl:List (Str×Addr)}{C:Addr}{fp:List Addr}{lH:List (Addr×Obj)}{cF:St}{H':Hp}{s':Shared}(I:Inv X pins σ H s)(hf:∀b∈fp,C0 X pins H b)(J:Inv (d8 X pins scope N' cl C s H fp) lH cF H' s'):Inv X pins σ H' s' :=
 I.Dv (ch:=fp) J.os J.base J.bX J.bare λb hb=>by
  obtain⟨f0,f1,f2,f3,f4,f5⟩:=hf b hb;exact⟨f3,f1,f4,f5⟩
theorem Inv.Pl{D:Addr}{ys:List V}{ba:List Value}{n:Nat}(I:Inv X pins σ H s)(f:C0 X pins H D)(hs:X.dB.heap.objs.size<=D)(hv:Vals ys ba)(hz:ys.length<=sizeLine)(ho:s.heap.get? D=some { cls:=.type "list",data:=.seq ba.toArray n }):Inv X pins σ (upd H D (.lst ys)) s:=by
 obtain⟨f0,f1,f2,f3,f4,f5⟩:=f;have ft:∀b o,X.dB.heap.get? b=some o->b≠D:=λb o e z=>absurd (aB e) (by rw[z];exact kz.mpr hs);have tup:∀b u,H b=some u->upd H D (.lst ys) b=some u:=λb u e=>by rw[f9 (n5 e f0)];exact e
 refine⟨I.ok,I.os,I.bare,⟨?_,?_,?_,I.base.there,?_,?_,?_⟩,I.loc,I.cell,?_,?_,?_,?_,I.len⟩
 ·exact λb o e n1 n2 n3=>I.base.keep b o e n1 n2 n3
 ·exact λb o e n1 n2 n3=>I.base.slot b o e n1 n2 n3
 ·exact λb o e n1 n2=>by rw[f9 (ft b o e)];exact I.base.free b o e n1 n2
 ·exact λb xs e=>tup _ _ (I.base.jm b xs e)
 ·exact λb o u e=>tup _ _ (I.base.iS b o u e)
 ·exact λb ps e=>by
   obtain⟨more,q⟩:=I.base.jn b ps e;exact⟨more,tup _ _ q⟩
 ·rw[f9 f1.symm];exact I.free
 ·exact λx c e=>by rw[f9 (f4 x c e)];exact I.fZ x c e
 ·intro p hp;obtain⟨p1,p2,p3⟩:=I.pin p hp;exact⟨p1,by rw[f9 (f5 p hp)];exact p2,p3⟩
 ·intro a o e;by_cases ha:a=D
  ·subst ha;rw[u3] at e;cases e;exact⟨hz,ba,n,hv,ho⟩
  ·rw[f9 ha] at e;have q:=I.bX a o e;refine q.Y3 (λb u _ h=>h) (λb hb=>tup _ _ hb) (λb xs hb=>tup _ _ hb)
end
end L2

namespace L2
open PySem PySem.Spec PyProof.Rows
def DK(wi:TI)(d6:List Nat)(n:Nat)(g:TG)(tc:TT)(te:TE):TE:=λσ H Q=>wi σ H λJ H1=>∃W:Nat->Nat->List V->St->Hp->Prop,(∃m,W 0 m [] (B8 σ d6 n) H1)/\∀i m ys σ H,W i m ys σ H ->
 (J.stop i H/\∀p,H p=none->Q (.ref p) (upd H p (.lst ys))) \/
 (J.go i H/\ys.length < sizeLine/\∀ x H',J.qr i H x H'->g x σ H' λcR H2=>tc cR H2 λb H3 =>
  if b=true then te cR H3 λy H4=>∃ m',m' < m/\W (i + 1) m' (ys ++ [y]) cR H4 else ∃ m',m' < m/\W (i + 1) m' ys cR H3)
noncomputable abbrev M0(ba:List Value)(n:Nat):Obj:={ cls:=.type "list",data:=.seq ba.toArray n }
section
variable{X:Cx}{pins:List (Addr×Obj)}{σ:St}{H:Hp}{s:Shared}
theorem Ik{elt tg iter:Expr}{ifs:List Expr}{scope:Scope}{N':List Str}{d6:List Nat}{cl:List (Str×Addr)}{pos:Pos}{it:Addr}{fp:List Addr}{tn:Nat->Heap->Prop}{J:It}{g:TG}{tc:TT}{te:TE}{xx:Addr->Shared->Hp->Value->Shared->Prop}{RR:Value->Addr->Result->Shared->Prop}{E:Value->Shared->Prop}{W:Nat->Nat->List V->St->Hp->Prop}{m0:Nat}{Q:VK}(S:dG X scope N' d6 cl)(hc:X.calm=true)(hg:∀C s H,PG (d8 X pins scope N' cl C s H fp) tg g)(ht:∀C s H,lR (d8 X pins scope N' cl C s H fp) ifs tc)(he:∀C s H,PE ((d8 X pins scope N' cl C s H fp).X9 (xx C s H)) elt te)(I:Inv X pins σ H s)(T:Turn X.prog X.w X.K tg J fp it tn)(st:tn 0 s.heap)(hf:∀b∈fp,C0 X pins H b)(w0:W 0 m0 [] (B8 σ d6 N'.length) H)(turn:∀ i m ys σ H,W i m ys σ H->(J.stop i H/\∀ p,H p=none->Q (.ref p) (upd H p (.lst ys))) \/
   (J.go i H/\ys.length < sizeLine/\∀ x H',J.qr i H x H'->g x σ H' λcR H2=>tc cR H2 λb H3 =>
    if b=true then te cR H3 λy H4=>∃ m',m' < m/\W (i + 1) m' (ys ++ [y]) cR H4 else ∃ m',m' < m/\W (i + 1) m' ys cR H3))(AZ:∀D C s' H' m,Inv X pins σ H' s'->Q (.ref D) H'->s'.heap.Ns C m->H' C=none->s.heap.objs.size<=C->RR (.ref D) C (.ok .next) s')(Nq:∀D C e s',s.heap.objs.size<=C->xx C s H e s'->notedBy (model X.prog X.w) X.A (compEnvC scope (K3 scope cl C) C X.env) (λe s'=>RR (.ref D) C (.error e) s') e s') :
  wpAny (model X.prog X.w) X.A (newList []) (λacc fU=>wpAny (model X.prog X.w) X.A (newFunctionEnv scope X.env.globals cl [] X.env.qual none .none (some X.env)) (λmz ka =>
   mz.frame=X.env.frame/\codeAny (model X.prog X.w) X.A (.compStart (.ListComp elt [⟨tg,iter,ifs,0⟩] scope pos) 0 (.ref it) acc { mz with scope:=relabel scope X.env }) (RR acc mz.locals) ka) E fU) E s:=by
 refine cA (IZ λdR gR fV nD=>?_);dsimp only at gR fV nD ⊢;generalize rq:s.heap.push { cls:=.type "list",dict:=none,data:=.seq ([]:List Value).toArray }=H2 at gR fV nD ⊢;generalize eD:s.heap.objs.size=D at *;have hC:H2.objs.size=D+1:=by rw[<- rq,fb,eD]
 generalize eC:H2.objs.size=C at *;have vH:D≠C:=by omega
 have lt:∀b o,s.heap.get? b=some o->b<D:=λb o e=>by rw[<- eD];exact aB e
 have qO:D<=C:=by omega
 have pA:∀b o,s.heap.get? b=some o->b≠C:=λb o e=>aK (ay (lt b o e) qO);have nk:∀b o,s.heap.get? b=some o->b≠D:=λb o e=>aK (lt b o e);have old:∀b o,s.heap.get? b=some o->dR.get? b=some o:=λb o e=>fV b o (rq▸au _ e);have lD:dR.get? D=some (M0 [] 0):=fV _ _ (by rw[<- rq,<- eD];exact aF _ rfl);have ju:∀b∈fp,∃o,s.heap.get? b=some o:=λb hb=>by
  obtain⟨o,e,_⟩:=T.obj _ _ st b hb;exact⟨o,e⟩
 have vG:D∉fp:=λhm=>by
  obtain⟨o,e⟩:=ju D hm;exact nk D o e rfl
 have X1:Inv (d8 X pins scope N' cl C s H fp) [] (B8 σ d6 N'.length) H { s with heap:=dR } :=
  I.Il S hc hf ju (by rw[eD];omega) ⟨_,gR⟩ old nD
 have eJ:tn 0 dR:=T.keep _ _ _ st λb _ o e=>old b o e;have Bw:∀{H':Hp},(∀b∈fp,H' b=none)->∀b∈fp,C0 (d8 X pins scope N' cl C s H fp) [] H' b:=λhn b hb=>by
  obtain⟨f0,f1,f2,f3,f4,f5⟩:=hf b hb;obtain⟨o,e⟩:=ju b hb;refine⟨hn b hb,?_,?_,.inl hb,λx c q=>(zg nD q).elim (λl z=>absurd (cV (z▸l) (ay (lt b o e) qO)) (bH _)) λq=>f4 x c (S.cin x c q),λp hp=>?_⟩
  ·exact pA b o e
  ·exact λz=>by
    rcases aE.mp (I.K9 b z) with z|z
    ·exact f1 z
    ·exact f2 z
  ·have gJ:p∈X.pn++pins:=by simpa[d8] using hp
   exact f5 p gJ
 have fD:∀{H':Hp},H' D=none->C0 (d8 X pins scope N' cl C s H fp) [] H' D:=λhn=>by
  refine⟨hn,vH,λz=>?_,.inr (by show s.heap.objs.size<=D;omega),λx c q=>?_,λp hp=>?_⟩
  ·exact absurd (I.we (a:=D) (by omega)) λpF=>by
    rcases aE.mp (I.K9 D z) with z|z
    ·exact absurd I.lt (by rw[<- z,eD];exact bH _)
    ·exact pF z
  ·rcases zg nD q with l|q
   ·exact λz=>absurd (ay (z▸l) qO) (bH _)
   ·obtain⟨v,o,e,_⟩:=I.cell x c (S.cin x c q);exact nk c o e
  ·have gJ:p∈X.pn++pins:=by simpa[d8] using hp
   exact nk _ _ (I.pin p gJ).1
 have qK:∀{H':Hp} {s':Shared} {cF:St} {ba:List Value} {n:Nat},Inv (d8 X pins scope N' cl C s H fp) [] cF H' s'->H' D=none->s'.heap.get? D=some (M0 ba n) ->
   Inv (d8 X pins scope N' cl C s H fp) [(D,M0 ba n)] cF H' s':=λ{H' s' cF ba n} J0 hn e=>J0.K5 λp hp=>by
  have z:p=(D,M0 ba n):=by simpa using hp
  subst z;obtain⟨f0,f1,f2,_⟩:=fD hn;exact⟨e,f0,f1,f2,λv z=>nomatch z⟩
 have rK:∀{H':Hp} {ba:List Value} {n:Nat},(∀b∈fp,H' b=none)->∀b∈fp,C0 (d8 X pins scope N' cl C s H fp) [(D,M0 ba n)] H' b:=λ{H' ba n} hn b hb=>by
  obtain⟨f0,f1,f2,f3,f4,f5⟩:=Bw hn b hb;refine⟨f0,f1,f2,f3,f4,λp hp=>?_⟩;have gJ:p∈(d8 X pins scope N' cl C s H fp).pn\/p=(D,M0 ba n):=by simpa using hp
  rcases gJ with z|z
  ·exact f5 p (bw _ z)
  ·subst z;exact λz=>vG (by rw[show D=b from z];exact hb)
 have loop:∀fU:Shared,fU={ s with heap:=dR } ->
   codeAny (model X.prog X.w) X.A (.compLoop (.ListComp elt [⟨tg,iter,ifs,0⟩] scope pos) 0 (.ref it) (.ref D) (compEnvC scope (K3 scope cl C) C X.env)) (RR (.ref D) C) fU:=by
  rintro fU rfl;refine aC6 (λn s'=>∃ i ys cF H' ba nn,Inv (d8 X pins scope N' cl C s H fp) [] cF H' s'/\tn i s'.heap/\(∀ b ∈ fp,H' b=none)/\H' D=none/\Vals ys ba/\ys.length <= sizeLine /\
   s'.heap.get? D=some (M0 ba nn)/\W i n ys cF H') ?_ m0 ⟨0,[],_,H,[],0,X1,eJ,λb hb=>(hf b hb).1,I.bX.fresh (by omega),.nil,cB _,lD,w0⟩
  rintro n s3 ⟨i,ys,lG,H3,ba,nn,I3,jo,pR,d3,v3,z3,o3,w3⟩;have xa:=qK I3 d3 o3;rcases turn i n ys lG H3 w3 with⟨stop,q⟩|⟨go,hz,step⟩
  ·refine cT (T.done (d8 X pins scope N' cl C s H fp) rfl rfl rfl rfl i _ s3 _ H3 _ xa (rK pR) jo stop) λr s4 ⟨hr,I4⟩=>?_;subst hr;have o4:=(I4.pin (D,M0 ba nn) (by simp)).1;have J4:Inv X pins σ H3 s4:=I.Kc hf I4;have Bx:C0 X pins H3 D:=by
    refine⟨d3,bV (by rw[<- eD];exact I.lt),I.we (by omega),.inr (by have:=I.sz;omega),λx c q=>?_,λp hp=>?_⟩
    ·obtain⟨v,o,e,_⟩:=I.cell x c q;exact nk c o e
    ·exact nk _ _ (I.pin p hp).1
   obtain⟨mC,AB,_⟩:=I4.loc;exact AZ D C s4 (upd H3 D (.lst ys)) mC (J4.Pl Bx (by have:=I.sz;omega) v3 z3 o4) (q D d3) AB (by rw[f9 vH.symm];exact I4.free) (by omega)
  ·refine cT (T.item (d8 X pins scope N' cl C s H fp) rfl rfl rfl rfl i _ s3 _ H3 _ xa (rK pR) jo go) λr s4 ⟨u,hr,h4⟩=>?_;subst hr;refine cT h4 λ_ s5 bB=>?_;obtain⟨x,H5,I5,r5,y5,mh,vQ⟩:=bB;have o5:=I5.pin (D,M0 ba nn) (by simp);have wZ:=I5.pinned (rK vQ) (T.obj _ _ mh);refine cT (hg C s H _ s5 _ H5 x u _ wZ r5 (step x H5 y5)) λ_ s6 bB=>?_;obtain⟨lW,H6,I6,q6⟩:=bB;refine cT (ht C s H _ s6 lW H6 _ I6 q6) λok s7 ⟨H7,I7,q7⟩=>?_;have back:∀{uq:St} {H8:Hp} {s8:Shared},Inv (d8 X pins scope N' cl C s H fp) ([(D,M0 ba nn)]++V9 fp s5.heap) uq H8 s8->(∀b∈fp,H8 b=none)/\tn (i+1) s8.heap/\H8 D=none/\s8.heap.get? D=some (M0 ba nn) :=
    λ{uq H8 s8} I8=>by
     have pf:∀b∈fp,∀o,s5.heap.get? b=some o->s8.heap.get? b=some o/\H8 b=none:=λb hb o e=>by
      have:=I8.pin (b,o) (aO _ (aO _ (O7 hb e)));exact⟨this.1,this.2.1⟩
     have pd:=I8.pin (D,M0 ba nn) (by simp);refine⟨λb hb=>?_,T.keep _ _ _ mh λb hb o e=>(pf b hb o e).1,pd.2.1,pd.1⟩;obtain⟨o,e,_⟩:=T.obj _ _ mh b hb;exact(pf b hb o e).2
   cases ok with
   |false =>
    obtain⟨m',hm,w7⟩:=q7;obtain⟨b1,b2,b3,b4⟩:=back I7;exact⟨m',hm,i+1,ys,lW,H7,ba,nn,I7.K5 λp hp=>absurd hp (by simp),b2,b1,b3,v3,z3,b4,w7⟩
   |true =>
    refine bI (he C s H _ s7 lW H7 _ (I7.X9 _) q7) (λxv s8 bB=>?_) λe s' hx=>Nq D C e s' (by omega) hx;obtain⟨y,H8,I8,r8,m',hm,w8⟩:=bB;have I8:=I8.BY;obtain⟨b1,b2,b3,b4⟩:=back I8;refine jV F.slot_list_append ⟨_,b4,rfl⟩ F.entry_list_append (F.args_list_append_2 _ _) (PySem.list_append D ba.toArray nn xv (by rw[aH];have:=v3.length;omega)) ⟨b4,?_⟩;have q:∃n',(s8.heap.update D (Obj.mapSeq (·.push xv))).get? D=some (M0 (ba++[xv]) n'):=by
     have q0:=PySem.IsL.update b4 (·.push xv);have e0:ba.toArray.push xv=(ba++[xv]).toArray:=by simp
     rw[e0] at q0;exact⟨_,q0⟩
    obtain⟨n',q⟩:=q;have EB:Inv (d8 X pins scope N' cl C s H fp) [] lW H8 s8:=I8.K5 λp hp=>absurd hp (by simp);obtain⟨f0,f1,f2,f3,f4,f5⟩:=fD (H':=H8) b3;have kp:∀b o,b≠D->s8.heap.get? b=some o->(s8.heap.update D (Obj.mapSeq (·.push xv))).get? b=some o:=λb' u hb hu=>(eB s8.heap (Obj.mapSeq (·.push xv)) (cx hb)).trans hu;refine⟨m',hm,i+1,ys++[y],lW,H8,ba++[xv],n',EB.turned (it:=D) (t':=s8.toks) kp f0 f1 f3 f4 f5,T.keep _ _ _ b2 λb hb o e=>kp b o (λz=>vG (by rw[<- z];exact hb)) e,b1,b3,v3.append (.cons r8 .nil),?_,q,w8⟩;rw[bj,jk];omega
 exact⟨rfl,codeAny_compStart_list (loop _ rfl) (T.self _ 0 _ _ _ eJ (loop _ rfl))⟩
theorem Inv.KC{C:Addr}{h':Heap}{s2:Shared}{H2:Hp}(I:Inv X pins σ H s)(hC:s2.heap.objs.size<=C)(I2:Inv X pins σ H2 s2)(hn:H C=none)(sb:Heap.SameBut C s.heap h'):Inv X pins σ H { s with heap:=h' }:=by
 have f:=I2.rW (b:=C) (H':=H) hC hn;obtain⟨f0,f1,f2,f3,f4,f5⟩:=f;exact I.turned (t':=s.toks) (λb o hb e=>sb.extBut b o hb e) f0 f1 f3 f4 f5
theorem Io{M:Model}{A:Around}{E:Value->Shared->Prop}{s:Shared}{a:Sem Value}{b:Sem Env}{P:Env->Prop}{Q:Value->Env->Shared->Prop}(h:wpAny M A a (λx s1=>wpAny M A b (λy s2=>P y/\Q x y s2) E s1) E s):wpAny M A a (λx s1=>wpAny M A b (λy s2=>Q x y s2) E s1) E s :=
 bI h (λ_ _ h=>bI h (λ_ _ h=>h.2) λ_ _ z=>z) λ_ _ z=>z
theorem JM{elt tg iter:Expr}{ifs:List Expr}{scope:Scope}{N':List Str}{d6:List Nat}{cl:List (Str×Addr)}{pos:Pos}{wi:TI}{g:TG}{tc:TT}{te:TE}(S:dG X scope N' d6 cl)(hc:X.calm=true)(hi:PI X tg iter wi)(hg:∀pins C s H fp,PG (d8 X pins scope N' cl C s H fp) tg g)(ht:∀pins C s H fp,lR (d8 X pins scope N' cl C s H fp) ifs tc)(he:∀pins C s H fp,PE (d8 X pins scope N' cl C s H fp) elt te)(hs:∀x,foldedSetIterable iter X.env x=pure x):PE X (.ListComp elt [⟨tg,iter,ifs,0⟩] scope pos) (DK wi d6 N'.length g tc te):=by
 intro pins s σ H Q I h;rw[eval_ListComp];refine je (use:=none) rfl hs S.rQ S.kind S.names (cT (hi pins s σ H _ I h) λxv cq dR=>cT dR λve iN jt=>?_);obtain⟨it,fp,tn,J,H2,e,I2,T,gL,f2,W,⟨m0,w0⟩,turn⟩:=jt;subst e;refine Io (Ik (xx:=λ_ _ _ _ _=>False) (RR:=λacc C=>compPost (model X.prog X.w) X.A X.xe none (EP X pins σ Q) acc C) S hc (λC s H=>hg pins C s H fp) (λC s H=>ht pins C s H fp) (λC s H=>he pins C s H fp) I2 T gL f2 w0 turn ?_ λ_ _ _ _ _ z=>z.elim);intro D C s' H' m I' q hn hC hsz;exact⟨m,hn,λh' sb=>⟨.ref D,H',I'.KC hsz I2 hC sb,rfl,q⟩⟩
theorem ZZ{elt tg iter:Expr}{ifs:List Expr}{scope:Scope}{N':List Str}{d6:List Nat}{cl:List (Str×Addr)}{pos uC px:Pos}{wi:TI}{g:TG}{tc:TT}{te:TE}{i:Nat}{x:Str}(S:dG X scope N' d6 cl)(hc:X.calm=true)(hi:PI X tg iter wi)(hg:∀pins C s H fp,PG (d8 X pins scope N' cl C s H fp) tg g)(ht:∀pins C s H fp,lR (d8 X pins scope N' cl C s H fp) ifs tc)(he:∀pins C s H fp,PE (d8 X pins scope N' cl C s H fp) elt te)(hs:∀x,foldedSetIterable iter X.env x=pure x)(hN:X.N.Nodup)(vq:X.N[i]?=some x)(hx:Loc X.env.scope x)(hf:X.fn x=true\/X.env.scope.names.lookup x=some .local) :
  PS X (.Assign [.Name x px] (.ListComp elt [⟨tg,iter,ifs,0⟩] scope pos) uC) (wj (DK wi d6 N'.length g tc te) (tW i)):=by
 intro pins s σ H D I h;have xI:∃b,swapsWith (.ListComp elt [⟨tg,iter,ifs,0⟩] scope pos) (some (.Name x px)) uC.line X.env=pure b:=⟨_,rfl⟩
 obtain⟨b,xI⟩:=xI;cases b with
 |false=>exact Jo hN vq hx (JM S hc hi hg ht he hs) xI hf pins s σ H D I h
 |true =>
  rw[exec_Assign_Name_used _ _ _ _ xI];refine aa (eI (aa ?_));show wpAny _ X.A (do let _ <- comprehension (.ListComp elt [⟨tg,iter,ifs,0⟩] scope pos) scope X.env _ (newList []) false (eval iter X.env) (some (assign (.Name x px) X.env))) _ _ s;refine aa (bI (je (use:=some (assign (.Name x px) X.env)) (Q:=λ_ s'=>SP X pins D .next s') rfl hs S.rQ S.kind S.names
   (cT (hi pins s σ H _ I h) λxv cq dR=>cT dR λve iN jt=>?_)) (λ_ s' hq=>aj (aj hq)) λ_ _ e=>e)
  obtain⟨it,fp,tn,J,H2,e,I2,T,gL,f2,W,⟨m0,w0⟩,turn⟩:=jt;subst e;refine Io (Ik (xx:=λ_ _ _ _ _=>False) (Q:=λv H1=>tW i v σ H1 D.nx) (RR:=λacc C=>compPost (model X.prog X.w) X.A X.xe (some (assign (.Name x px) X.env)) (λ_ s'=>SP X pins D .next s') acc C) S hc (λC s H=>hg pins C s H fp) (λC s H=>ht pins C s H fp) (λC s H=>he pins C s H fp) I2 T gL f2 w0 turn ?_ λ_ _ _ _ _ z=>z.elim);intro Dl C s' H' m I' q hn hC hsz;show wpAny _ X.A (assign (.Name x px) X.env (.ref Dl)) _ _ _;refine wpAny_assign_Name (HY I' hN vq hx (v:=.ref Dl) rfl (λs3 I3 ⟨a,sb,ha⟩=>?_) hf);have Nu:C≠a:=by
   obtain⟨f0,f1,f2,f3,f4,f5⟩:=I2.rW (b:=C) (H':=H') hsz hC;rcases ha with z|z
   ·rw[z];exact f1
   ·exact λz'=>f4 _ _ z z'.symm
  obtain⟨f0,f1,f2,f3,f4,f5⟩:=I2.rW (b:=C) (H':=H') hsz hC;refine⟨m,hn.sameBut sb Nu,λh3 LP=>⟨_,H',I3.turned (t':=s3.toks) (λb o hb e=>LP.extBut b o hb e) f0 f1 f3 f4 f5,q⟩⟩
end
end L2

namespace HT
open PySem PyProof.Rows
section
variable{prog:Program}{w:World}{A:Around}{E:Value->Shared->Prop}{s:Shared}
theorem a56{t b:Addr}{ws:List Value}{Q:Value->Shared->Prop}(ht:IsTup s.heap t #[])(hb:IsTup s.heap b ws.toArray)(h1:Q (.ref b) s):wpAny (model prog w) A (binaryOp .Add (.ref t) (.ref b)) Q E s:=by
 obtain⟨⟨cls,dd,data,sl⟩,ho,hc,n,hd⟩:=id ht;obtain⟨⟨BO,yi,data2,qx⟩,nX,pK,n2,hd2⟩:=id hb;simp only at hc hd pK hd2;subst hc hd pK hd2;exact concat_meets ⟨_,ho,rfl⟩ ⟨_,nX,rfl⟩ qj Lh iJ ir (hJ _ _)
   (tuple_addW0 t b #[] ws.toArray n n2 dd yi sl qx rfl) ⟨ho,nX,h1⟩
theorem XD{t sl:Addr}{items:Array Value}{vl vu:Value}{lo hi:Option Int}{Q:Value->Shared->Prop}(ht:IsTup s.heap t items)(hs:s.heap.IsSliceOf sl vl vu .none)(pl:IsPart vl lo)(pu:IsPart vu hi)(hw:dQ items.size 0 lo=0/\dQ items.size items.size hi=items.size)(h:Q (.ref t) s):wpAny (model prog w) A (getItem (.ref t) (.ref sl)) Q E s:=by
 obtain⟨os,qU,xQ,vw⟩:=id hs;have AX:s.TypeIs (.ref sl) "slice":=⟨os,qU,xQ⟩
 unfold getItem
 try with_reducible refine cb ?_
 first|refine aa (aj ?_)|skip
 refine aa (wpAny_sequenceKey ht.typeIs (by decide) ?_);refine aa (fI (name:=Str.ofString "__getitem__") ht.typeIs bP
  (cG bP ht.typeIs entry_tuple_getitem ?_ (args_tuple_getitem _ _)))
 show wpAny _ _ (Builtin.Tuple.tupleItemsOf (.ref t) >>= _) _ _ s;refine aa (tupleItemsOf_ ht ?_);refine aa (fi AX ?_);rw[aJ (by decide)];refine aa (Q4 hs pl pu ?_);have Ak:((((dQ items.size 0 lo:Nat):Int)==0&&(1:Int)==1&&(dQ items.size items.size hi-dQ items.size 0 lo)==items.size)=true):=by
  rw[hw.1,hw.2];simp
 show wpAny _ _ (if(((dQ items.size 0 lo:Nat):Int)==0&&(1:Int)==1&&(dQ items.size items.size hi-dQ items.size 0 lo)==items.size)=true then _ else _) _ _ s;rw[aJ Ak];obtain⟨o,ho,hc,_⟩:=id ht;unfold Builtin.Tuple.tupleIsExact;refine aa (aa (fi ht.typeIs (aj ?_)));rw[aJ (by decide)]
 first
  |exact wpAny_bind (wpAny_rule (wpAny_bind (wpAny_pure ⟨_,rfl,wpAny_pure h⟩)))
  |exact wpAny_bind (wpAny_rule (wpAny_pure ⟨_,rfl,wpAny_pure h⟩))
  |exact wpAny_bind (wpAny_rule (wpAny_bind (wpAny_pure (wpAny_pure ⟨_,rfl,wpAny_pure h⟩))))
end
end HT
namespace L2
open PySem PySem.Spec PyProof.Rows
section
variable{X:Cx}
def Rh(K:PySem.W.Frag):R2:=λx y H Q=>∃a b xs ys,x=.ref a/\y=.ref b/\jc K H a xs/\jc K H b ys/\xs.length+ys.length<=sizeLine /\
 (xs=[]->Q (.ref b) H)/\(ys=[]->Q (.ref a) H)/\(∀p,H p=none->Q (.ref p) (upd H p (.tup (xs++ys))))
theorem a36:gb X (binaryOp .Add) (Rh X.K):=by
 intro pins s σ H x y v u Q I rx ry h;obtain⟨a,b,xs,ys,rfl,rfl,ha,hb,hz,q0,q1,q2⟩:=h;by_cases hx:xs=[]
 ·subst hx;cases rx;cases ry;obtain⟨ba,r1,p1,_⟩:=I.tuple ha;obtain⟨oz,r2,p2,_⟩:=I.tuple hb;cases r1;exact HT.a56 p1 p2 ⟨.ref b,H,I,rfl,q0 rfl⟩
 ·exact SW pins s σ H _ _ v u Q I rx ry ⟨a,b,xs,ys,rfl,rfl,ha,hb,hx,hz,q1,λ_=>q2⟩
def OP(K:PySem.W.Frag):V->Option Int->Option Int->Hp->VK->Prop:=λx lo hi H Q=>∃a xs,x=.ref a/\jc K H a xs /\
 (R6 xs lo hi=xs->Q (.ref a) H)/\∀p,H p=none->Q (.ref p) (upd H p (.tup (R6 xs lo hi)))
theorem Uj:wU X (OP X.K):=by
 intro pins s σ H x v vl vu lo hi sl Q I rx hs pl pu h;obtain⟨a,xs,rfl,hx,q0,q⟩:=h;by_cases hw:HT.dQ xs.length 0 lo=0/\HT.dQ xs.length xs.length hi=xs.length
 ·cases rx;obtain⟨ba,r,ht,hz⟩:=I.tuple hx;have hlen:ba.toArray.size=xs.length:=by rw[aH];exact r.length.symm
  refine⟨"tuple",_,bP.lookup,ht.typeIs,?_⟩;exact HT.XD ht hs pl pu (by rw[hlen];exact hw) ⟨.ref a,H,I,rfl,q0 (by unfold R6;rw[hw.1,hw.2];simp)⟩
 ·exact RE pins s σ H _ v vl vu lo hi sl Q I rx hs pl pu ⟨a,xs,rfl,hx,hw,q⟩
theorem ZR:n4 X (.builtin "isinstance") (λxs H Q=>∃x t c b,xs=[x,.ty c]/\ic X.K H x t/\PySem.W.kitOne X.K t (.type c)=some b/\Q (.bl b) H):=by
 intro pins s σ H xs us Q I r h;obtain⟨x,t,c,b,rfl,hT,hk,q⟩:=h;obtain⟨u,w',rfl,ru,gn⟩:=vals2 r;cases (show w'=Value.type c from gn);exact Yk I ru hT hk λtk=>⟨.bl b,H,I.tok tk,rfl,q⟩
theorem XT(hc:X.calm=true):n4 X (.builtin "all") (λxs H Q=>∃(a:Addr) (bs:List Bool),xs=[.ref a]/\gp X.K H a (bs.map V.bl)/\Q (.bl (bs.all id)) H):=by
 intro pins s σ H xs us Q I r h;obtain⟨a,bs,rfl,ha,q⟩:=h;obtain⟨u,rfl,ru⟩:=vals1 r;cases ru;obtain⟨ba,rv,p,hz⟩:=I.list ha;refine call_all_walk ?_;refine iW p.isList ?_;have ft:a≠s.heap.objs.size:=by
  obtain⟨o,e,_⟩:=id p.isList;exact aK (aB e)
 have hl:=rv.length;rw[ai] at hl;refine⟨s.heap.objs.size,_,_,_,_,_,λi=>bs.getD i true,rfl,Walks.list (A:=X.A.in1) (I.ok.hd hc) _ a ft ba.toArray,⟨⟨_,aF _ rfl,rfl,rfl⟩,?_⟩,?_,λh' tk k=>?_⟩
 ·obtain⟨o,e,q1⟩:=id p.isList;exact⟨o,au _ e,q1⟩
 ·intro i v s' Q' E' hP hQ;have hv:ba[i]?=some v:=by simpa using hP
  have hi:i<bs.length:=by rw[hl];exact(aw.mp hv).1
  obtain⟨u',vh,zU⟩:=rv.get (i:=i) (x:=V.bl bs[i]) (by rw[ao,ak hi];rfl);rw[hv] at vh;cases vh;cases (show v=Value.bool bs[i] from zU);refine cM ?_;have:bs.getD i true=bs[i]:=by simp[List.getD,hi]
  dsimp only at hQ;rw[this] at hQ;exact hQ
 ·have e1:(List.range ba.toArray.size).all (λi=>bs.getD i true)=bs.all id:=by
   rw[aH,<- hl];rw[aZ];simp only[List.all_eq_true,List.mem_range,id];constructor
   ·intro hh x hx;obtain⟨i,hi,rfl⟩:=bD.mp hx;have:=hh i hi;simpa[List.getD,hi] using this
   ·intro hh i hi;have:=hh bs[i] (cC hi);simpa[List.getD,hi] using this
  rw[e1];exact ⟨.bl (bs.all id),H,I.kept (t':=tk) λb o e=>k b o (by
   intro hb;have:b=s.heap.objs.size:=by simpa using hb
   exact absurd (aB e) (by rw [this];exact bH _)) (au _ e),rfl,q⟩
end
end L2

namespace HT
open PySem PyProof.Rows
section
variable{prog:Program}{w:World}{A:Around}{E:Value->Shared->Prop}{s:Shared}
end
end HT
namespace L2
open PySem PySem.Spec PyProof.Rows
section
variable{X:Cx}{e st:Expr}{te ts:TE}{pos p2:Pos}
end
end L2

namespace L2
open PySem PySem.Spec PyProof.Rows
theorem n6.get{P:Program}{w:World}{H:Hp}{h:Heap}{a:Addr}:∀{o:HO},n6 P w H h a o->∃ob,h.get? a=some ob
 |.lst _,x=>by obtain⟨_,_,_,_,e⟩:=x;exact⟨_,e⟩
 |.tup _,x=>by obtain⟨_,_,_,o,e,_⟩:=x;exact⟨o,e⟩
 |.dK _,x=>by obtain⟨_,_,_,_,o,es,ep,e,_⟩:=x;exact⟨o,e⟩
 |.dT _,x=>by obtain⟨_,_,_,_,o,es,ep,e,_⟩:=x;exact⟨o,e⟩
 |.set _ _,x=>by obtain⟨o,es,ep,t,e,_⟩:=x;exact⟨o,e⟩
 |.ins _ _ _,x=>by obtain⟨_,_,_,e,_⟩:=x;exact⟨_,e⟩
 |.own _,x=>x
 |.xd _,x=>by obtain⟨mA,n,_⟩:=x;obtain⟨od,e,_⟩:=HS n;exact⟨od,e⟩
 |.mK _ _,x=>by obtain⟨_,_,_,e⟩:=x;exact⟨_,e⟩
 |.kj _ _,x=>⟨_,x.1⟩
 |.mJ _,x=>⟨_,x⟩
 |.met _ _,x=>⟨_,x⟩
 |.ext _,x=>x.2.1
def Dm(H':Hp)(h0:Heap)(l:List Env)(e:Value)(C:Addr)(h:Heap):Prop :=
 ∃(ea:Addr) (a0:Value) (B:Heap),e=.ref ea/\Heap.FlyingW B l ea (.ref C) a0 h/\∀b o,h.get? b=some o->b∉ij l->(H' b≠none\/∃o0,h0.get? b=some o0)->B.get? b=some o
def jG(P:Program)(w:World):nR:=λouter H s E e s'=>∃(C:Addr) (H':Hp),s'.os=s.os/\AllBare s'.gens/\Un (ij outer) [] H H' s.heap s'.heap/\gK P w H' s'.heap/\Dm H' s.heap outer e C s'.heap/\E (.ref C) none H'
section
variable{X:Cx}{pins:List (Addr×Obj)}{σ:St}{H:Hp}{s s':Shared}{E:XK}{e:Value}
theorem Inv.flew(I:Inv X pins σ H s)(h:jG X.prog X.w X.stack H s E e s'):∃C H',Inv X pins σ H' s'/\Dm H' s.heap X.stack e C s'.heap/\E (.ref C) none H':=by
 obtain⟨C,H',ho,hb,hu,bX,fl,hE⟩:=h;exact⟨C,H',I.Dv (ch:=[]) ho hu bX hb (by simp),fl,hE⟩
theorem CC(I:Inv X pins σ H s){b:Addr}(hb:b∈ij X.stack):∃o,s.heap.get? b=some o/\∀vs,o.data≠.fields vs:=(I.stack.mem hb).2
theorem Dx{oh:Heap}{B:Heap}{ea C:Addr}{a0:Value}(I:Inv X pins σ H s)(fq:X.stack=X.env::X.outer)(hex:X.ex=[])(hf:X.env.frame=some X.env.locals)(vf:∀b o,s.heap.get? b=some o->b∉ij X.stack->(H b≠none\/∃o0,X.dB.heap.get? b=some o0)->B.get? b=some o)(sl:∀b∈ij X.stack,∀o,s.heap.get? b=some o->∃sl,oh.get? b=some { o with slots:=sl })(fw:Heap.FlyingW B X.outer ea (.ref C) a0 oh)(hE:E (.ref C) none H):jG X.prog X.w X.outer X.jF X.dB E (.ref ea) { s with heap:=oh }:=by
 have Ap:∀b,b∈ij X.outer->b∈ij X.stack:=λb hb=>by rw[fq];unfold ij at hb ⊢;rw[eV,hf];exact bE _ hb
 have uO:∀b o,X.dB.heap.get? b=some o->b∉ij X.outer->b∉ij X.stack:=λb o e hb z=>by
  rcases aE.mp (I.K9 b z) with z|z
  ·exact absurd (aB e) (by rw[z];exact kz.mpr I.ok.above)
  ·exact hb z
 have qt:∀b u,H b=some u->b∉ij X.stack:=λb u e z=>by rw[I.Cw b z] at e;cases e
 have kept:∀b o,s.heap.get? b=some o->b∉ij X.stack->(H b≠none\/∃o0,X.dB.heap.get? b=some o0)->oh.get? b=some o:=λb o e n q=>fw.1 b o (vf b o e n q);have uQ:∀b,b∉X.ex:=λb=>by rw[hex];simp
 refine⟨C,H,I.os,I.bare,⟨?_,?_,?_,?_,I.base.jm,I.base.iS,I.base.jn⟩,?_,⟨ea,a0,B,rfl,fw,?_⟩,hE⟩
 ·exact λb o e n1 n2 _=>kept b o (I.base.keep b o e n1 n2 (uQ b)) (uO b o e n2) (.inr ⟨o,e⟩)
 ·intro b o e n1 n2 _;obtain⟨sl1,e1⟩:=I.base.slot b o e n1 n2 (uQ b);obtain⟨qx,e2⟩:=sl b (Ap b n2) _ e1;exact⟨qx,e2⟩
 ·exact λb o e n1 _=>I.base.free b o e n1 (uQ b)
 ·intro b o e _;obtain⟨o1,e1⟩:=I.base.there b o e (uQ b);by_cases hb:b∈ij X.stack
  ·obtain⟨qx,e2⟩:=sl b hb _ e1;exact⟨_,e2⟩
  ·exact⟨o1,kept b o1 e1 hb (.inr ⟨o,e⟩)⟩
 ·intro a o e;exact (I.bX a o e).Y3 (λb u hb q=>by
   have lL:∃v,H b=some v:=by
    rcases hb with rfl|hb
    ·exact⟨o,e⟩
    ·exact⟨_,hb⟩
   obtain⟨v,hv⟩:=lL;exact kept b u q (qt b v hv) (.inl (by rw [hv];simp))) (λb hb=>hb) (λb xs hb=>hb)
 ·intro b o e n q;rcases q with q|⟨o0,q⟩
  ·obtain⟨v,hv⟩:=Option.ne_none_iff_exists'.mp q;obtain⟨o1,e1⟩:=(I.bX b v hv).get;have z:=vf b o1 e1 (qt b v hv) (.inl (by rw[hv];simp));have z':=fw.1 b o1 z;have:o=o1:=by
    have e':oh.get? b=some o:=e;rw[z'] at e';exact(aP e').symm
   subst this;exact z
  ·obtain⟨o1,e1⟩:=I.base.there b o0 q (uQ b);have z:=vf b o1 e1 (uO b o0 q n) (.inr ⟨o0,q⟩);have z':=fw.1 b o1 z;have:o=o1:=by
    have e':oh.get? b=some o:=e;rw[z'] at e';exact(aP e').symm
   subst this;exact z
theorem aB1{h0:Heap}{C:Addr}{Ex:Value->Shared->Prop}(I:Inv X pins σ H s)(fl:Dm H h0 X.stack e C s.heap)(NQ:∀b o,X.dB.heap.get? b=some o->∃o',h0.get? b=some o')(fq:X.stack=X.env::X.outer)(hex:X.ex=[])(hf:X.env.frame=some X.env.locals)(hE:E (.ref C) none H):wpAny (model X.prog X.w) X.A (leaving X.env e) (λ_ ou=>jG X.prog X.w X.outer X.jF X.dB E e ou) Ex s:=by
 obtain⟨ea,a0,B,rfl,fw,hB⟩:=fl;have fw0:=fw;rw[fq] at fw;refine wpAny_leaves_onW (by rw[I.ok.frames,fq]) hf fw λoh Oa us=>?_;refine Dx I fq hex hf (λb o e n q=>hB b o e n (q.imp id λ⟨o0,q⟩=>NQ b o0 q)) (λb hb o e=>?_) Oa hE;obtain⟨o1,e1,nf⟩:=CC I hb;rw[e] at e1;cases e1;exact us b o e nf
theorem Zm{h':Heap}{ea C:Addr}{vs:List Value}{Ex:Value->Shared->Prop}(I:Inv X pins σ H s)(hx:Heap.MadeExcOf s.heap h' ea (.ref C) vs)(fq:X.stack=X.env::X.outer)(hex:X.ex=[])(hf:X.env.frame=some X.env.locals)(hE:E (.ref C) none H):wpAny (model X.prog X.w) X.A (leaving X.env (.ref ea)) (λ_ ou=>jG X.prog X.w X.outer X.jF X.dB E (.ref ea) ou) Ex { s with heap:=h' }:=by
 have sY:=I.stack;rw[fq] at sY;have lC:∀env∈(X.env::X.outer),∀b,env.frame=some b->b∈ij X.stack:=λenv he b hb=>by rw[fq];exact kA.mpr ⟨env,he,hb⟩
 refine wpAny_leaves_madeW (s:={ s with heap:=h' }) (base:=PySem.W.hideAll s.heap (ij X.stack)) (h:=s.heap) (by rw[I.ok.frames,fq]) hf (λb o q=>Li _ q) (PySem.W.funFrames_hide sY lC) hx λoh t fw _ _ us=>?_;refine(show jG X.prog X.w X.outer X.jF X.dB E (.ref ea) { s with heap:=oh } from Dx I fq hex hf (λb o e n _=>EG _ e n) (λb hb o e=>?_) fw hE);obtain⟨o1,e1,nf⟩:=CC I hb;rw[e] at e1;cases e1;exact us b o (hx.keeps b o e) nf
section
variable{s':Shared}
structure Lies(X:Cx)(H H':Hp)(s:Shared)(B:Heap)(ea C:Addr)(a0:Value)(s':Shared):Prop where
 os:s'.os=s.os
 bare:AllBare s'.gens
 un:Un (ij X.stack) [] H H' s.heap s'.heap
 bX:gK X.prog X.w H' s'.heap
 vf:∀b o,s'.heap.get? b=some o->b∉ij X.stack->(H' b≠none\/∃o0,s.heap.get? b=some o0)->B.get? b=some o
theorem Lies.inv{H':Hp}{B:Heap}{ea C:Addr}{a0:Value}(I:Inv X pins σ H s)(l:Lies X H H' s B ea C a0 s'):Inv X pins σ H' s':=I.Dv (ch:=[]) l.os l.un l.bX l.bare (by simp)
theorem leave_held{H':Hp}{B:Heap}{ea C:Addr}{a0:Value}{Ex:Value->Shared->Prop}(I:Inv X pins σ H s)(l:Lies X H H' s B ea C a0 s')(hh:Heap.HeldW B X.stack ea (.ref C) a0 X.env.locals s'.heap)(fq:X.stack=X.env::X.outer)(hex:X.ex=[])(hf:X.env.frame=some X.env.locals)(hE:E (.ref C) none H'):wpAny (model X.prog X.w) X.A (leaving X.env (.ref ea)) (λ_ ou=>jG X.prog X.w X.outer X.jF X.dB E (.ref ea) ou) Ex s':=by
 have J:=l.inv I;have AL:=hh;rw[fq] at AL;unfold leaving;refine aa (wpAny_noteFrame_againW hf AL.2.2.2 ?_);refine wpAny_landsW AL λoh fl us=>?_;obtain⟨k1,k2,⟨_,_,k3⟩,k4⟩:=fl;refine Dx J fq hex hf (λb o e n q=>l.vf b o e n (q.imp id λ⟨o0,q⟩=>I.base.there b o0 q (by rw[hex];simp))) (λb hb o e=>?_) ⟨k1,k2,k3,k4⟩ hE;obtain⟨o1,e1,nf⟩:=CC J hb;rw[e] at e1;cases e1;exact us b o e nf
end
def yR(X:Cx)(Ξ:XK):Prop:=∀(pins:List (Addr×Obj)) (σ:St) (H:Hp) (s:Shared) (h':Heap) (ea C:Addr) (vs:List Value),Inv X pins σ H s->Heap.MadeExcOf s.heap h' ea (.ref C) vs->Ξ (.ref C) none H->X.xe (.ref ea) { s with heap:=h' }
def Ja(X:Cx)(Ξ:XK):Prop:=∀(pins:List (Addr×Obj)) (σ:St) (H H':Hp) (s s':Shared) (B:Heap) (ea C:Addr) (a0:Value),Inv X pins σ H s->Lies X H H' s B ea C a0 s'->Heap.HeldW B X.stack ea (.ref C) a0 X.env.locals s'.heap->Ξ (.ref C) none H'->X.xe (.ref ea) s'
def RX(C:Addr)(Ξ:XK)(t:TA):TS:=λ_ σ H=>t σ H λvs H1=>vs.length<=sizeLine/\Ξ (.ref C) none H1
theorem a23{x:Str}{C:Addr}{B newId gP:String}{bm:List Value}{np gi pos:Pos}{kl:Expr}{rest:List Expr}{t:TA}{Ξ:XK}(hc:X.calm=true)(O:OwnCls x C bm newId X.mg X.base)(FB:ExcBaseFacts B newId gP bm)(hg:Gl X x)(ha:PA X (kl::rest) t)(hr:yR X Ξ)(he:starEach (kl::rest) X.env=(false,eval kl X.env)::starEach rest X.env)(gQ:(backTo gi (starEach rest X.env)).any (·.1)=false)(hd:(x==("__debug__":Str))=false) :
  PS X (.Raise (some (.Call (.Name x np) (kl::rest) [] gi)) none pos) (RX C Ξ t):=by
 intro pins s σ H D I h;obtain⟨tl,N,nm,q,bs,hdct,sn,sub,ab,col,dd,k0,k1,k2,k3,k5,mN,hC,hN,xK,T⟩:=O.obj;refine wpAny_Raise_call_subT (C:=C) (nm:=nm) (q:=q) (N:=N) (bs:=bs) (bm:=tl) (hdct:=hdct) (sn:=sn) (sub:=sub) (ab:=ab) (col:=col) (dd:=dd) (k0:=k0) (k1:=k1) (k2:=k2) (k3:=k3) (k5:=k5)
  FB (mN:=mN) (T.hasType FB.hasBase) (I.ok.hd hc) (by rw[he];show(false||(backTo gi (starEach rest X.env)).any (·.1))=false;rw[gQ];rfl) xK (W6 I hg O.bound ⟨rfl,?_⟩ hd)
 have h':=ha gi pins s σ H _ I h;rw[he] at h' ⊢;refine Calls.evalArgs_plain (bI h' (λvs iN jt=>?_) λ_ _ y=>y);obtain⟨ws,H1,I1,rv,hz,hE⟩:=jt;exact⟨rfl,by rw[<- rv.length];exact hz,I1.bk _ _ hC,hN.keeps I1.bk,T.keeps I1.bk,λh2 ea hm=>hr pins σ H1 iN h2 ea C vs I1 hm hE⟩
end
end L2

namespace L2
open PySem PySem.Spec PyProof.Rows
section
variable{X:Cx}{pins:List (Addr×Obj)}{σ:St}{H H':Hp}{s s':Shared}{e:Value}{D:Ends}
end
end L2

namespace L2
open PySem PySem.Spec PyProof.Rows
section
variable{M:Model}{A:Around}{E:Value->Shared->Prop}{env:Env}{s:Shared}
end
end L2

namespace L2
open PySem PySem.Spec PyProof.Rows
section
variable{X:Cx}{pins:List (Addr×Obj)}{σ:St}{H H':Hp}{s s':Shared}
end
end L2

namespace L2
open PySem PySem.Spec PyProof.Rows
def EA(K:PySem.W.Frag)(a:Addr):It :=
 ⟨λi H=>∃xs x,gp K H a xs/\xs[i]?=some x,λi H v H'=>∃p x,H p=none/\v=.ref p/\(∀xs,gp K H a xs->xs[i]?=some x)/\H'=upd H p (.tup [.int i,x]),λi H=>∃xs,gp K H a xs/\xs.length<=i⟩
theorem YY{P:Program}{w:World}{K:PySem.W.Frag}{elts:List Expr}{x1:Nat}{tp:Pos}(a e it:Addr)(Gj:e≠it):Turn P w K (.Tuple elts x1 tp) (EA K a) [e,it] e (λi h=>(∃old,IsEnum h e it i old)/\h.IsListIter it a i) where
 mem:=by simp
 obj:=λi h st b hb=>by
  obtain⟨⟨old,h1⟩,o,h2,c,d⟩:=st;rcases aE.mp hb with z|z
  ·subst z;exact ⟨_,h1,λv z=>by
    have z':Data.fields _=Data.cell v:=z;cases z'⟩
  ·have z:b=it:=by simpa using z
   subst z;exact⟨o,h2,λv z=>by rw[d] at z;cases z⟩
 keep:=λi h h' st k=>by
  obtain⟨⟨old,h1⟩,h2⟩:=st;exact⟨⟨old,k e (by simp) _ h1⟩,h2.at λo x=>k it (by simp) o x⟩
 item:=by
  intro X hP hw hK hc i pins s σ H E I hf st hg;subst hP hw hK;obtain⟨⟨old,h1⟩,h2⟩:=st;obtain⟨xs,x,hq,hx⟩:=hg;obtain⟨ba,rv,p,hz⟩:=I.list hq;obtain⟨u,hu,ru⟩:=rv.get hx;obtain⟨e0,e1,e2,e3,e4,e5⟩:=hf e (by simp);obtain⟨f0,f1,f2,f3,f4,f5⟩:=hf it (by simp);refine wpAny_pyNext_enum_item h1 h2 p.isList (x:=u) (by simpa using hu) Gj λh' pI AI vj hz' oe=>?_;refine⟨_,rfl,wpAny_letOwnedTupleGo_enum pI λvL MY gA=>?_⟩;have gA:Heap.SameBut e h' vL:=gA;have elt:e<s.heap.objs.size:=aB h1;have kp:∀b o,b≠e->b≠it->s.heap.get? b=some o->vL.get? b=some o:=λb o b1 b2 q=>(gA.2 b b1).trans (oe b o b1 b2 q);have hn:H s.heap.objs.size=none:=I.bX.fresh (av _);have zM:vL.get? s.heap.objs.size=some { cls:=.type "tuple",data:=.seq #[.int i s.toks,u] }:=(gA.2 _ (bV elt)).trans vj;have ne:∀b u',H b=some u'->b≠e/\b≠it:=λb u' q=>And.intro (λ(z:b=e)=>by rw[z,e0] at q;cases q) (λ(z:b=it)=>by rw[z,f0] at q;cases q);have bX:gK X.prog X.w (upd H s.heap.objs.size (.tup [.int i,x])) vL:=λb o q=>by
   by_cases hb:b=s.heap.objs.size
   ·subst hb;rw[u3] at q;cases q;exact⟨by show 2<=sizeLine;decide,[.int i s.toks,u],.cons ⟨_,rfl⟩ (.cons ru .nil),_,zM,rfl,⟨_,rfl⟩,rfl⟩
   ·rw[f9 hb] at q;refine(I.bX b o q).Y3 (λc v hc q'=>?_) (λc q'=>by rw[f9 (n5 q' hn)];exact q') λc ys q'=>by rw[f9 (n5 q' hn)];exact q'
    rcases hc with z|z
    ·subst z;exact kp _ _ (ne _ _ q).1 (ne _ _ q).2 q'
    ·exact kp _ _ (ne _ _ z).1 (ne _ _ z).2 q'
  have I2:Inv X pins σ (upd H s.heap.objs.size (.tup [.int i,x])) { s with heap:=vL,toks:=s.toks+1 }:=by
   refine I.step (g':=s.gens) (d':=s.drawn) (t':=s.toks+1) (ch:=[e,it]) (λb hb=>?_) (λb o _ _ hb q _=>kp b o (λz=>hb (by simp[z])) (λz=>hb (by simp[z])) q) (λb o _ _ hb q _=>⟨o.slots,kp b o (λz=>hb (by simp[z])) (λz=>hb (by simp[z])) q⟩)
    (λb o _ q n=>by rw[f9 (aK (aB q))];exact n) (λb o hb q=>⟨o,kp b o (λz=>hb (by simp[z])) (λz=>hb (by simp[z])) q⟩)
    (λb ys q=>by rw[f9 (n5 q hn)];exact q) (λb o' ys q=>by rw[f9 (n5 q hn)];exact q) (λb ps q=>⟨#[],by rw[f9 (n5 q hn),q];simp⟩) (λm hm=>?_) bX I.bare
   ·rcases aE.mp hb with z|z
    ·subst z;exact⟨e3,e1,e4,e5⟩
    ·have z:b=it:=by simpa using z
     subst z;exact⟨f3,f1,f4,f5⟩
   ·obtain⟨o,es,ep,ho,r⟩:=hm;exact⟨o,es,ep,kp _ o (cx e1) (cx f1) ho,r⟩
  refine⟨.ref s.heap.objs.size,_,I2,rfl,⟨s.heap.objs.size,x,hn,rfl,λys hy=>by rw[I.Kj hy hq];exact hx,rfl⟩,⟨⟨u,by simpa using MY⟩,AI.at λo y=>(gA.2 it Gj.symm).trans y⟩,λb hb=>?_⟩;have lL:b<s.heap.objs.size:=by
   rcases aE.mp hb with z|z
   ·subst z;exact elt
   ·have z:b=it:=by simpa using z
    subst z;obtain⟨o,h2,_⟩:=h2;exact aB h2
  rw[f9 (aK lL)];exact(hf b hb).1
 done:=by
  intro X hP hw hK hc i pins s σ H E I hf st hg;subst hP hw hK;obtain⟨⟨old,h1⟩,h2⟩:=st;obtain⟨xs,hq,hx⟩:=hg;obtain⟨ba,rv,p,hz⟩:=I.list hq;obtain⟨f0,f1,f2,f3,f4,f5⟩:=hf it (by simp);have hl:=rv.length;exact wpAny_pyNext_enum_end (I.ok.hd hc) h1 h2 p.isList (by simp;omega) λh' eb=>⟨rfl,I.turned (t':=s.toks) (λb o hb e=>eb b o hb e) f0 f1 f3 f4 f5⟩
 self:=λ_ _ _ _ _ st h=>by
  obtain⟨⟨old,h1⟩,h2⟩:=st;exact wpAny_pyIter_enum h1 h
section
variable{X:Cx}
theorem To{l:Expr}{ta:TA}{p pos tp:Pos}{elts:List Expr}{x1:Nat}(hg:Gl X "enumerate")(hm:X.mg "enumerate"=none)(ha:PA X [l] ta)(hs:starEach [l] X.env=[(false,eval l X.env)]) :
  PI X (.Tuple elts x1 tp) (.Call (.Name "enumerate" p) [l] [] pos) (λσ H R=>ta σ H λvs H1=>∃a,vs=[.ref a]/\(∃xs,gp X.K H1 a xs)/\R (EA X.K a) H1):=by
 intro pins s σ H R I h;refine Call_ (N9 I hg hm PyProof.Rows.boot_enumerate (cE (cT (ha pos pins s σ H _ I h) λus s1 bB=>?_) hs rfl));obtain⟨vs,H1,I1,r1,q1⟩:=bB;obtain⟨a,e,⟨xs,hq⟩,q⟩:=q1;subst e;cases r1 with
 |cons r rr =>
  cases rr;cases r;obtain⟨ba,rv,p,hz⟩:=I1.list hq;refine call_enumerate_list p.isList λh' he hit hsz hk=>wpAny_pyIter_enum he ?_;refine⟨s1.heap.objs.size+1,[s1.heap.objs.size+1,s1.heap.objs.size],_,_,H1,rfl,I1.kept (t':=s1.toks) hk,YY a _ _ (by simp),⟨⟨_,he⟩,hit⟩,λb hb=>?_,q⟩;have lL:s1.heap.objs.size<=b:=by
   rcases aE.mp hb with z|z
   ·rw[z];exact cL _
   ·have z:b=s1.heap.objs.size:=by simpa using z
    rw[z];exact av _
  exact I1.rW lL (I1.bX.fresh lL)
theorem WX{e:Expr}{t:TE}{pos:Pos}(he:PE X e t):PE X (.FormattedValue e (-1) none pos) (λσ H Q=>t σ H λx H1=>(∃i,x=.int i/\i.natAbs.log2<1920/\Q (.str (toString i)) H1)\/∃y,x=.str y/\y.length<=sizeLine/\Q (.str y) H1):=by
 intro pins s σ H Q I h;refine wpAny_FormattedValue_plain (cT (he pins s σ H _ I h) λv s1 bB=>?_);obtain⟨x,H1,I1,r1,q1⟩:=bB;rcases q1 with⟨i,rfl,hd,q⟩|⟨y,rfl,hy,q⟩
 ·obtain⟨t,rfl⟩:=r1;exact wpAny_formatField_int hd ⟨.str _,H1,I1.tok _,⟨_,rfl⟩,q⟩
 ·obtain⟨t,rfl⟩:=r1;exact wpAny_formatField_str ⟨.str _,H1,I1,⟨_,rfl⟩,q⟩ ⟨.str _,H1,I1.tok _,⟨_,rfl⟩,q⟩ hy
inductive ub(X:Cx):List Expr->List TE->Prop
 |nil:ub X [] []
 |cons {e:Expr} {t:TE} {es:List Expr} {ts:List TE} (h:PE X e t) (r:ub X es ts):ub X (e::es) (t::ts)
def yA:List TE->St->Hp->Str->(Str->Hp->Prop)->Prop
 |[],_,H,acc,Q=>Q acc H
 |t::ts,σ,H,acc,Q=>t σ H λx H1=>∃y,x=.str y/\(acc++y).length<=sizeLine/\yA ts σ H1 (acc++y) Q
theorem Ki{pins:List (Addr×Obj)}{σ:St}{Q:Str->Hp->Prop}:∀{es:List Expr} {ts:List TE},ub X es ts->∀{s:Shared} {H:Hp} {acc:Str},Inv X pins σ H s->yA ts σ H acc Q ->
  Joins (model X.prog X.w) X.A X.xe (evalEach es X.env) acc (λout s1=>∃H1,Inv X pins σ H1 s1/\Q out H1) s
 |_,_,.nil,s,H,acc,I,h=>⟨H,I,h⟩
 |_,_,.cons he r,s,H,acc,I,h=>by
  rw[arm_evalEach_cons];refine cT (he pins s σ H _ I h) λv s1 bB=>?_;obtain⟨x,H1,I1,r1,y,ey,hy,q1⟩:=bB;subst ey;obtain⟨t,rfl⟩:=r1;exact⟨y,t,rfl,hy,Ki r I1 q1⟩
theorem Ig{M:Model}{A:Around}{E:Value->Shared->Prop}{Q Q':Str->Shared->Prop}(hq:∀x s,Q x s->Q' x s):∀{l:List (Sem Value)} {acc:Str} {s:Shared},Joins M A E l acc Q s->Joins M A E l acc Q' s
 |[],acc,s,h=>hq _ _ h
 |x::r,acc,s,h=>cT h λv s1 ⟨y,t,e,hz,h1⟩=>⟨y,t,e,hz,Ig hq h1⟩
theorem Th{lY lX:Expr}{rest:List Expr}{ts:List TE}{pos:Pos}(h:ub X (lY::lX::rest) ts):PE X (.JoinedStr (lY::lX::rest) pos) (λσ H Q=>yA ts σ H Str.empty λout H1=>out.length<=sizeLine/\Q (.str out) H1):=by
 intro pins s σ H Q I hw;refine wpAny_JoinedStr (Ig (λx s1 ⟨H1,I1,hl,q⟩=>⟨hl,.str x,H1,I1.tok _,⟨_,rfl⟩,q⟩) (Ki h I hw))
theorem Zk{lo:Int}{acc:Array Value}{n:Nat}(h:ItemsOf (λi v=>∃t,v=.int (lo+i*1) t) acc n):Vals ((List.range n).map λ(k:Nat)=>V.int (lo+k)) acc.toList:=by
 have hl:acc.toList.length=n:=by
  have:=h.1;simpa using this
 have go:∀(m:Nat) (l:List Value),l.length<=n->m+l.length=n->(∀i v,l[i]?=some v->∃t,v=Value.int (lo+((m+i:Nat):Int)) t)->Vals ((List.range' m l.length).map λ(k:Nat)=>V.int (lo+k)) l:=by
  intro m l
  induction l generalizing m with
  |nil=>intro _ _ _;exact .nil
  |cons x r ih =>
   intro h1 h2 h3;simp only[List.length_cons,List.range'_succ,List.map_cons];refine .cons ?_ (ih (m+1) (by simp at h1;omega) (by simp at h2;omega) λi v hv=>?_)
   ·obtain⟨t,e⟩:=h3 0 x rfl;exact⟨t,by rw[e];simp⟩
   ·obtain⟨t,e⟩:=h3 (i+1) v (by simpa using hv);exact⟨t,by rw[e,show m+(i+1)=m+1+i by omega]⟩
 have:=go 0 acc.toList (by omega) (by omega) λi v hv=>?_
 ·rw[hl,<- List.range_eq_range'] at this;exact this
 ·have hi:i<n:=by
   have:=(aw.mp hv).1;omega
  have:acc[i]?=some v:=by rw[<- et];exact hv
  obtain⟨t,e⟩:=h.2 i v this;refine⟨t,?_⟩;rw[e];simp
theorem IV(hc:X.calm=true):n4 X (.type "list") (λxs H Q=>∃a lo hi,xs=[.ref a]/\H a=some (.mK lo hi)/\(-(2 ^ 62)<=lo/\lo<2 ^ 62/\-(2 ^ 62)<=hi/\hi<2 ^ 62/\hi-lo<=100000)/\∀p,H p=none->Q (.ref p) (upd H p (.lst ((List.range (hi-lo).toNat).map λ(k:Nat)=>V.int (lo+k))))):=by
 intro pins s σ H xs us Q I r h;obtain⟨a,lo,hi,rfl,ha,⟨h1,h2,h3,h4,h5⟩,q⟩:=h;obtain⟨t,u,v,ho⟩:=I.bX a _ ha;cases r with
 |cons r rr =>
 cases rr;cases r;have hn:Builtin.Range.rangeSize lo hi 1=((hi-lo).toNat:Nat):=by rw[rangeSize_one];split<;>omega
 refine call_list_range (n:=(hi-lo).toNat) (I.ok.hd hc) ho (small_one h1 h2 h3 h4) hn (by omega) λh' mZ acc c hk hS jz=>?_;have hp:H s.heap.objs.size=none:=I.bX.fresh (av _);refine⟨.ref _,_,I.laid (a:=s.heap.objs.size) (o:=.lst ((List.range (hi-lo).toNat).map λ(k:Nat)=>V.int (lo+k))) (t':=mZ) hk (av _) ⟨?_,acc.toList,c,Zk jz,by simpa using hS⟩,rfl,q _ hp⟩;rw[ai,lp];have:(hi-lo).toNat<=100000:=by omega
 exact aI this (by decide)
theorem YC{a:Expr}{ta:TA}{p pos:Pos}(hg:Gl X "range")(hm:X.mg "range"=none)(ha:PA X [a] ta)(hs:starEach [a] X.env=[(false,eval a X.env)]):PE X (.Call (.Name "range" p) [a] [] pos) (λσ H Q=>ta σ H λvs H1=>∃j:Int,vs=[.int j]/\∀q,H1 q=none->Q (.ref q) (upd H1 q (.mK 0 j))):=by
 intro pins s σ H Q I h;refine dh (N9 I hg hm boot_range (cE (cT (ha pos pins s σ H _ I h) λus s1 bB=>?_) hs rfl));obtain⟨vs,H1,I1,r1,q1⟩:=bB;obtain⟨j,e,q⟩:=q1;subst e;cases r1 with
 |cons r rr =>
  cases rr;obtain⟨t,rfl⟩:=r;exact call_range_1 ⟨.ref s1.heap.objs.size,_,I1.laid (a:=s1.heap.objs.size) (o:=.mK 0 j) (λb o e=>au _ e) (av _) ⟨_,_,_,aF _ rfl⟩,rfl,q _ (I1.bX.fresh (av _))⟩
theorem YD{a b:Expr}{ta:TA}{p pos:Pos}(hg:Gl X "range")(hm:X.mg "range"=none)(ha:PA X [a,b] ta)(hs:starEach [a,b] X.env=[(false,eval a X.env),(false,eval b X.env)])(gA:starEach [b] X.env=[(false,eval b X.env)]):PE X (.Call (.Name "range" p) [a,b] [] pos) (λσ H Q=>ta σ H λvs H1=>∃i j:Int,vs=[.int i,.int j]/\∀q,H1 q=none->Q (.ref q) (upd H1 q (.mK i j))):=by
 intro pins s σ H Q I h;refine dh (N9 I hg hm boot_range (cE (cT (ha pos pins s σ H _ I h) λus s1 bB=>?_) (by rw[hs,gA]) (by rw[gA];rfl)));obtain⟨vs,H1,I1,r1,q1⟩:=bB;obtain⟨i,j,e,q⟩:=q1;subst e;cases r1 with
 |cons r rr =>
  cases rr with
  |cons r' rr =>
   cases rr;obtain⟨t,rfl⟩:=r;obtain⟨t',rfl⟩:=r';exact call_range_2 ⟨.ref s1.heap.objs.size,_,I1.laid (a:=s1.heap.objs.size) (o:=.mK i j) (λb o e=>au _ e) (av _) ⟨_,_,_,aF _ rfl⟩,rfl,q _ (I1.bX.fresh (av _))⟩
def wy(K:PySem.W.Frag)(P:Params)(a:Addr)(kvs:List (Str×V)):Prop :=
 ∃es n,K.lookup a=some ⟨.type "dict",none,.dict es n,#[]⟩/\PySem.W.KeysLit P es.toList/\(a==sysModules)=false/\∀x,F1 (kvs.lookup x) (findBy Value.isStrOf es x)
theorem Jk{kvs:List (Str×V)}(neg:Bool):gb X (compareOp (if neg then .NotIn else .In)) (λx y H Q=>∃a z,y=.ref a/\wy X.K X.w.params a kvs/\x=.str z/\Q (.bl (xor neg (kvs.lookup z).isSome)) H):=by
 intro pins s σ H x y v u Q I rx ry h;obtain⟨a,z,rfl,⟨es,n,hl,hk,lo,hf⟩,rfl,q⟩:=h;obtain⟨t,rfl⟩:=rx;cases ry;have hm:=PySem.W.mapOf_K (prog:=X.prog) (w:=X.w) I.ig hl hk;have e:=hf z;have ee:(findBy Value.isStrOf es z).isSome=(kvs.lookup z).isSome:=by
  cases h1:kvs.lookup z<;>cases h2:findBy Value.isStrOf es z<;>rw[h1,h2] at e<;>first|rfl|exact e.elim
 cases neg
 ·exact wpAny_in_of (strKind_is X.prog X.w z t) lo hm ⟨.bl _,H,I.tok _,by rw[ee];rfl,by simpa using q⟩
 ·exact wpAny_notIn_of (strKind_is X.prog X.w z t) lo hm ⟨.bl _,H,I.tok _,by rw[ee];rfl,by simpa using q⟩
theorem Wy{kvs:List (Str×V)}:su X (λx y H Q=>∃a z v,x=.ref a/\wy X.K X.w.params a kvs/\y=.str z/\kvs.lookup z=some v/\Q v H):=by
 intro value slice pins s σ H x y v u Q I rx ry h hs;obtain⟨a,z,d,rfl,⟨es,n,hl,hk,lo,hf⟩,rfl,hz,q⟩:=h;cases rx;obtain⟨t,rfl⟩:=ry;have hm:=PySem.W.mapOf_K (prog:=X.prog) (w:=X.w) I.ig hl hk;have e:=hf z;rw[hz] at e;cases h2:findBy Value.isStrOf es z with
 |none=>rw[h2] at e;exact e.elim
 |some r =>
  rw[h2] at e;exact tail_any hm.typeIs slot_dict_getitem.lookup (wpAny_getItem_of (strKind_is X.prog X.w z t) hm h2 ⟨d,H,I.tok _,e,q⟩) hs
theorem SH(hu:X.A.units+1<cLine):su X (λx y H Q=>∃a v,x=.ref a/\O3 H a y (some v)/\Q v H):=by
 intro value slice pins s σ H x y v u Q I rx ry h hs;obtain⟨a,d,rfl,g,q⟩:=h;cases rx;exact tail_any (ZT I g) slot_dict_getitem.lookup (Yc hu I g ry λw' s3 I3 gn=>⟨d,H,I3,gn,q⟩) hs
end
end L2

namespace ST
open PySem PyProof.Rows
noncomputable abbrev kX(xs:Array Nat):Prop:=xs.toList.Pairwise (· < ·)
theorem kX.lt{xs:Array Nat}(h:kX xs){i k:Nat}(gN:i<k)(hk:k<xs.size):xs.getD i 0<xs.getD k 0:=by
 have:=eP.mp h i k (by simpa using cV gN hk) (by simpa using hk) gN;simp only[Array.getElem_toList] at this;rw[<- ei (h:=cV gN hk),<- ei (h:=hk)];exact this
theorem kX.le{xs:Array Nat}(h:kX xs){i k:Nat}(gN:i<=k)(hk:k<xs.size):xs.getD i 0<=xs.getD k 0:=by
 rcases Nat.eq_or_lt_of_le gN with e|e
 ·rw[e];exact av _
 ·exact eL (h.lt e hk)
theorem Co{xs:Array Nat}{j:Nat}(h:kX xs):∀(fuel lo hi:Nat),hi-lo<=fuel->lo<=hi->hi<=xs.size->(∀i,i<lo->xs.getD i 0<j)->(∀i,hi<=i->i<xs.size->j<=xs.getD i 0) ->
  SetTable.below.go xs j fuel lo hi<=xs.size/\(∀i,i<SetTable.below.go xs j fuel lo hi->xs.getD i 0<j)/\∀i,SetTable.below.go xs j fuel lo hi<=i->i<xs.size->j<=xs.getD i 0
 |0,lo,hi,h1,h2,h3,h4,h5=>by
  unfold SetTable.below.go;have:lo=hi:=by omega
  subst this;exact⟨h3,h4,h5⟩
 |fuel+1,lo,hi,h1,h2,h3,h4,h5=>by
  unfold SetTable.below.go;split
  ·rename_i hl;have hm:(lo+hi) / 2<xs.size:=by omega
   have em:xs.getD ((lo+hi) / 2) j=xs.getD ((lo+hi) / 2) 0:=by simp[Array.getD,hm]
   dsimp only;rw[em];by_cases hc:xs.getD ((lo+hi) / 2) 0<j
   ·rw[aJ hc];exact Co h fuel _ hi (by omega) (by omega) h3 (λi jz=>cZ (h.le (by omega) hm) hc) h5
   ·rw[aC hc];exact Co h fuel lo _ (by omega) (by omega) (by omega) h4 λi jz hs=>aI (Nat.le_of_not_lt hc) (h.le jz hs)
  ·have:lo=hi:=by omega
   subst this;exact⟨h3,h4,h5⟩
theorem P1{xs:Array Nat}(j:Nat)(h:kX xs):SetTable.below xs j<=xs.size/\(∀i,i<SetTable.below xs j->xs.getD i 0<j)/\∀i,SetTable.below xs j<=i->i<xs.size->j<=xs.getD i 0 :=
 Co h _ 0 _ (by omega) (by omega) (av _) (λi hi=>absurd hi (Nat.not_lt_zero _)) λi h1 h2=>absurd h2 (by omega)
theorem below_at{xs:Array Nat}(h:kX xs){i:Nat}(hi:i<xs.size):SetTable.below xs (xs.getD i 0)=i:=by
 obtain⟨h1,h2,h3⟩:=P1 (xs.getD i 0) h;rcases gT (SetTable.below xs (xs.getD i 0)) i with z|z|z
 ·exact absurd (h3 _ (av _) (by omega)) (Nat.not_le_of_lt (h.lt z hi))
 ·exact z
 ·exact absurd (h2 i z) (bH _)
theorem Zc{xs:Array Nat}(h:kX xs){i:Nat}(hi:i<xs.size):SetTable.below xs (xs.getD i 0+1)=i+1:=by
 obtain⟨h1,h2,h3⟩:=P1 (xs.getD i 0+1) h;rcases gT (SetTable.below xs (xs.getD i 0+1)) (i+1) with z|z|z
 ·have:=h3 i (by omega) hi;omega
 ·exact z
 ·have:=h2 (i+1) z;have:=h.lt (fJ i) (k:=i+1) (by omega);omega
theorem Zd{xs:Array Nat}(h:kX xs):SetTable.below xs 0=0:=by
 obtain⟨_,h2,_⟩:=P1 0 h;rcases Nat.eq_zero_or_pos (SetTable.below xs 0) with z|z
 ·exact z
 ·exact absurd (h2 0 z) (Nat.not_lt_zero _)
theorem getD_mem{xs:Array Nat}{i:Nat}(hi:i<xs.size):xs[i]?=some (xs.getD i 0):=by simp[Array.getD,hi]
theorem ZD{t:SetTable}{j:Nat}(h:kX t.place)(hs:t.slot j=.empty):j∉t.place.toList:=by
 intro hm;obtain⟨i,hi,e⟩:=bD.mp hm;have jz:i<t.place.size:=by simpa using hi
 have ej:t.place.getD i 0=j:=by rw[<- ei (h:=jz)];simpa using e
 have hb:=below_at h jz;rw[ej] at hb;unfold SetTable.slot at hs;dsimp only at hs;rw[hb,getD_mem jz,ej] at hs;simp at hs
theorem Zy{xs:Array Nat}{j:Nat}(h:kX xs)(hj:j∉xs.toList):kX (SetTable.insertAt xs (SetTable.below xs j) j):=by
 obtain⟨h1,h2,h3⟩:=P1 j h;show(SetTable.insertAt xs (SetTable.below xs j) j).toList.Pairwise (· < ·);rw[SetTable.toList_insertAt,aR];have tk:∀a∈xs.toList.take (SetTable.below xs j),a<j:=λa ha=>by
  obtain⟨i,hi,e⟩:=bD.mp ha;rw[cY] at hi;rw[List.getElem_take] at e;have hs:i<xs.size:=by simp at hi;omega
  have:=h2 i (by omega);rw[<- ei (h:=hs)] at this;simp at e;omega
 have dp:∀b∈xs.toList.drop (SetTable.below xs j),j<b:=λb hb=>by
  obtain⟨i,hi,e⟩:=bD.mp hb;rw[lU] at hi;rw[List.getElem_drop] at e;have hs:SetTable.below xs j+i<xs.size:=by simp at hi;omega
  have:=h3 (SetTable.below xs j+i) (by omega) hs;rw[<- ei (h:=hs)] at this;have ft:b≠j:=λz=>hj (by rw[<- z];exact zA hb);simp at e;omega
 refine⟨h.take,fj.mpr ⟨dp,h.drop⟩,λa ha b hb=>?_⟩;have nE:=tk a ha;rcases aE.mp hb with z|z
 ·omega
 ·have:=dp b z;omega
theorem YO(n:Nat):kX (Array.range n):=by
 show(Array.range n).toList.Pairwise (· < ·);rw[Array.toList_range];exact ug
structure Well(L:Bool)(t:SetTable):Prop where
 xu:kX t.place
 BH:t.dummies=#[]
 led:t.led=L
theorem a38{t:SetTable}(hd:t.dummies=#[])(j:Nat):t.slot j≠.dummy:=by
 unfold SetTable.slot;dsimp only;split
 ·intro z;cases z
 ·rw[hd];split
  ·rename_i z;simp[SetTable.has] at z
  ·intro z;cases z
theorem IL{t:SetTable}(hd:t.dummies=#[]){hashAt:Nat->Int}{h:Int}:∀(fuel:Nat) (p:SetTable.Probe) {j:Nat} {dm:Option Nat},p.dummy=none->SetTable.probe.go t hashAt h fuel p=some (.empty j dm)->t.slot j=.empty/\dm=none
 |0,p,j,dm,_,e=>by simp[SetTable.probe.go] at e
 |fuel+1,p,j,dm,hp,e=>by
  unfold SetTable.probe.go at e;have ad:∀q:SetTable.Probe,q.dummy=none->(t.advance q).dummy=none:=λq hq=>by
   unfold SetTable.advance;split
   ·exact hq
   ·exact hq
  split at e
  ·rename_i hs;cases e;exact⟨hs,hp⟩
  ·rename_i hs;exact absurd hs (a38 hd _)
  ·split at e
   ·cases e
   ·exact IL hd fuel _ (ad p hp) e
theorem Yf{t:SetTable}(hd:t.dummies=#[]){h:Int}{j:Nat}{wd:Bool}(e:t.freeSlot h=some (j,wd)):t.slot j=.empty/\wd=false:=by
 unfold SetTable.freeSlot at e;split at e
 ·rename_i j' dm hp;obtain⟨h1,h2⟩:=IL hd _ _ rfl hp;subst h2;cases e;exact⟨h1,rfl⟩
 ·cases e
theorem L0{L:Bool}{t:SetTable}(h:Well L t)(n:Nat):Well L (t.standIn n):=⟨YO n,rfl,h.led⟩
theorem ZW{L:Bool}{t:SetTable}{es:Array (Int×Value)}{h:Int}{x:Value}(hw:Well L t):Well L (layNew t es h x).2.1/\(layNew t es h x).2.2.1=false:=by
 unfold layNew;split
 ·rename_i slot wd e;obtain⟨h1,h2⟩:=Yf hw.BH e;refine⟨?_,h2⟩;have hd:SetTable.has t.dummies slot=false:=by rw[hw.BH];simp[SetTable.has]
  have w2:Well L (t.put slot).1:=⟨Zy hw.xu (ZD hw.xu h1),by simp only[SetTable.put,hd];exact hw.BH,hw.led⟩
  dsimp only;unfold SetTable.orStandIn;split
  ·exact w2
  ·exact L0 w2 _
 ·exact⟨L0 hw _,rfl⟩
theorem Yo{L:Bool}{mask finger moves:Nat}{led plain:Bool}{hashes:Array Int}{t:SetTable}{o:Array Nat}(hl:led=L)(e:SetTable.laid mask finger moves led plain hashes=some (t,o)):Well L t:=by
 unfold SetTable.laid at e;cases ho:SetTable.layClean mask hashes with
 |none=>rw[ho] at e;cases e
 |some owner =>
  rw[ho] at e;simp only[Option.bind_eq_bind,Option.bind_some,Option.pure_def,Option.some.injEq,Prod.mk.injEq] at e;obtain⟨rfl,_⟩:=e;refine⟨?_,rfl,hl⟩;show(List.map _ _).toArray.toList.Pairwise (· < ·);rw[List.toList_toArray];have sub:((List.range (mask+1)).filterMap λj=>(owner.getD j none).map (j,·)).map (·.1) |>.Sublist (List.range (mask+1)):=by
   generalize List.range (mask+1)=l
   induction l with
   |nil=>simp
   |cons a r ih =>
    rw[eV];cases owner.getD a none with
    |none=>exact ih.cons a
    |some k=>exact ih.cons_cons a
  exact List.Pairwise.sublist sub ug
theorem Xk{L:Bool}{t:SetTable}{es:Array (Int×Value)}{n:Nat}(hw:Well L t):Well L (relayAll t es n).2.1:=by
 unfold relayAll;split
 ·rename_i t' order e;dsimp only;split
  ·exact Yo hw.led e
  ·exact L0 hw _
 ·exact L0 hw _
end ST

namespace ST
open PySem PyProof.Rows
def toI:Value->Int
 |.int k _=>k
 |_=>0
def Led(w:World):Bool:=!(w.params.followText "set-order")
section
variable{prog:Program}{w:World}
def u5(prog:Program)(w:World)(h:Heap)(a:Addr)(ks:List Int):Prop :=
 ∃o es ep t,h.get? a=some o/\o.ExactSet/\o.data=.set es ep t/\ElemsOf (intKind prog w) es.toList/\(es.toList.map λe=>toI e.2).Perm ks/\ks.Nodup/\es.size<scanBound/\t.fits es.size=true/\Well (Led w) t
theorem u5.at{h h':Heap}{a:Addr}{ks:List Int}(x:u5 prog w h a ks)(k:∀o,h.get? a=some o->h'.get? a=some o):u5 prog w h' a ks:=by
 obtain⟨o,es,ep,t,e,r⟩:=x;exact⟨o,es,ep,t,k o e,r⟩
theorem Jz{e:Int×Value}{es:List (Int×Value)}(h:ElemsOf (intKind prog w) es)(he:e∈es):∃tk,e.2=.int (toI e.2) tk/\e.1=(intKind prog w).hash (toI e.2):=by
 obtain⟨⟨k,h1,h2⟩,_⟩:=h e he;obtain⟨t,ht⟩:=oi (k:=k) (v:=e.2) h1;refine⟨t,by rw[ht];rfl,?_⟩;rw[h2,ht]
 rfl
theorem Jg{e:Int×Value}{es:List (Int×Value)}(h:ElemsOf (intKind prog w) es)(he:e∈es)(k:Int):(intKind prog w).is k e.2=decide (toI e.2=k):=by
 obtain⟨t,ht,_⟩:=Jz h he;show Value.isInt k e.2=_;rw[ht];generalize toI e.2=m;show Value.isInt k (.int m t)=decide (m=k);by_cases z:m=k
 ·subst z;simp[Value.isInt]
 ·rw[aG z];cases hv:Value.isInt k (.int m t) with
  |false=>rfl
  |true =>
   obtain⟨t',e'⟩:=oi hv;cases e';exact absurd rfl z
theorem u5.mem{a:Addr}{es:List (Int×Value)}{ks:List Int}(h:ElemsOf (intKind prog w) es)(hp:(es.map λe=>toI e.2).Perm ks)(k:Int):(es.findIdx? λe=>(intKind prog w).is k e.2).isSome=decide (k∈ks):=by
 rw[aZ,dN,<- hp.mem_iff,aT,eZ];constructor
 ·rintro⟨i,hi⟩;obtain⟨h1,h2,_⟩:=kR.mp hi;have hm:=cC h1;rw[Jg h hm] at h2;exact⟨_,hm,bh h2⟩
 ·rintro⟨e,he,rfl⟩;cases hf:es.findIdx? λe'=>(intKind prog w).is (toI e.2) e'.2 with
  |some i=>exact⟨i,rfl⟩
  |none =>
   have:=List.findIdx?_eq_none_iff.mp hf e he;rw[Jg h he] at this;simp at this
variable{A:Around}{E:Value->Shared->Prop}{s:Shared}
def C3(ks:List Int)(k:Int):List Int:=if k∈ks then ks else ks++[k]
theorem a65(ks:List Int)(k:Int):(C3 ks k).length<=ks.length+1:=by unfold C3;split<;>simp
theorem Km{a:Addr}{ks:List Int}{k:Int}{tk:Tok}{Q:Bool->Shared->Prop}(hS:u5 prog w s.heap a ks)(hr:ks.length+1<scanBound)(h:∀h' b,Heap.SameBut a s.heap h'->u5 prog w h' a (C3 ks k)->Q b { s with heap:=h' }):wpAny (model prog w) A (setAddHashed a (.int k tk) ((intKind prog w).hash k)) Q E s:=by
 obtain⟨o,es,ep,t,ho,hx,hd,rf,hp,hn,hb,hf,hw⟩:=hS;have hlen:es.size=ks.length:=by rw[<- hp.length_eq];simp
 have gh:(intKind prog w).is k (.int k tk)=true:=gs _ _ _ _;have gv:∀(b:Bool) (s1:Shared) (Q':Unit->Shared->Prop),Q' () s1->wpAny (model prog w) A (match b with|true=>rule "set.scan.the-table-gave-way"|false=>pure ()) Q' E s1:=λb s1 Q' q=>by
  cases b
  ·exact aj q
  ·exact cX q
 unfold setAddHashed setAddHashedIn;refine cb (aa (cN ho hd hf ?_));dsimp only;rw[byScan_of rfl hb rf,aJ rfl];unfold setAddByScan;refine aa (aa (cX (aa (wpAny_setScan_of gh ho hd hf rf ?_))));have hm:=u5.mem (a:=a) rf hp k;cases eT:es.toList.findIdx? (λe=>(intKind prog w).is k e.2) with
 |some j =>
  rw[eT] at hm;have hk:k∈ks:=by simpa using hm.symm
  refine aj (aj ?_);have e0:s={ s with heap:=s.heap }:=rfl;rw[e0];refine h s.heap _ (Heap.SameBut.refl a s.heap) ?_;unfold C3;rw[aJ hk];exact⟨o,es,ep,t,ho,hx,hd,rf,hp,hn,hb,hf,hw⟩
 |none =>
  rw[eT] at hm;have hk:k∉ks:=by simpa using hm.symm
  dsimp only;have p1:=layNew_perm t es ((intKind prog w).hash k) (.int k tk);have f1:=layNew_fits t es ((intKind prog w).hash k) (.int k tk);obtain⟨w1,zJ⟩:=ZW (es:=es) (h:=(intKind prog w).hash k) (x:=.int k tk) hw;generalize layNew t es ((intKind prog w).hash k) (.int k tk)=R1 at p1 f1 w1 zJ ⊢;obtain⟨gS,t1,wd,NX⟩:=R1;dsimp only at p1 f1 w1 zJ ⊢;subst zJ;rw[dz] at p1;have GN:ElemsOf (intKind prog w) gS.toList:=(rf.push gh rfl).perm p1;have sz1:gS.size=es.size+1:=by rw[<- bt,p1.length_eq];simp
  have k1:(gS.toList.map λe=>toI e.2).Perm (C3 ks k):=by
   unfold C3;rw[aC hk];refine(p1.map _).trans ?_;rw[dW];exact hp.append_right _
  have n1:(C3 ks k).Nodup:=by
   unfold C3;rw[aC hk,dj];exact⟨hn,by simp,λx hx y hy=>by simp at hy;subst hy;exact λz=>hk (z▸hx)⟩
  refine aa (gv _ _ _ ?_);have fin:∀ (t2:SetTable),t2.fits gS.size=true->Well (Led w) t2->wpAny (model prog w) A (do
    storeSet a gS t2
    if(!false&&t2.tooFull)=true then do
      (match(relayAll t2 gS (SetTable.grown gS.size)).2.2 with|true=>rule "set.scan.the-table-gave-way"|false=>pure ())
      storeSet a (relayAll t2 gS (SetTable.grown gS.size)).1 (relayAll t2 gS (SetTable.grown gS.size)).2.1
      pure (some true)
     else pure (some true)) (λr s'=>wpAny (model prog w) A (match r with | some added=>pure added | none=>setAddHashedIn a (.int k tk) ((intKind prog w).hash k) 99999) Q E s') E s:=λt2 f2 w2=>by
   have g1:(s.heap.update a (Obj.putSet gS t2)).get? a=some { o with data:=.set gS (ep+1) t2 }:=by
    have:=bC (Obj.putSet gS t2) ho (by rw[lE gS t2 hd];rfl);rw[lE gS t2 hd] at this;exact this
   refine aa (wpAny_storeSet_of ho hd ?_ (fits_of_scanBound (by omega)));have Fc:=cz s.heap a (Obj.putSet gS t2);split
   ·have p2:=relayAll_perm t2 gS (SetTable.grown gS.size);have f3:=relayAll_fits t2 gS (SetTable.grown gS.size);have w3:=Xk (es:=gS) (n:=SetTable.grown gS.size) w2;generalize relayAll t2 gS (SetTable.grown gS.size)=R2 at p2 f3 w3 ⊢;obtain⟨nL,t3,gv2⟩:=R2;dsimp only at p2 f3 w3 ⊢;have sz2:nL.size=gS.size:=by rw[<- bt,p2.length_eq,bt]
    refine aa (gv _ _ _ ?_);refine aa (wpAny_storeSet_of g1 rfl ?_ (fits_of_scanBound (by omega)));refine aj (aj (h _ _ (Fc.trans (cz _ a _)) ?_));have g2:((s.heap.update a (Obj.putSet gS t2)).update a (Obj.putSet nL t3)).get? a=some { o with data:=.set nL (ep+1+1) t3 }:=by
     have:=bC (Obj.putSet nL t3) g1 (by rw[lE nL t3 rfl];rfl);rw[lE nL t3 rfl] at this;exact this
    exact⟨_,nL,_,t3,g2,hx,rfl,GN.perm p2,(p2.map _).trans k1,n1,by omega,f3,w3⟩
   ·exact aj (aj (h _ _ Fc ⟨_,gS,_,t2,g1,hx,rfl,GN,k1,n1,by omega,f1 |> λ_=>f2,w2⟩))
  split
  ·refine aa (eY (hashByValue_scannable 8 rfl) ?_);exact fin _ f1 w1
  ·refine aa (aj ?_);exact fin _ f1 w1
end
end ST

namespace ST
open PySem PyProof.Rows
theorem aC1:entryFor table "set.__iter__"=some Builtin.«frozenset.__iter__» :=
 entryFor_alias (id':="frozenset.__iter__") (by kernel_rfl) rfl (by decide +kernel) (by kernel_rfl)
theorem B6:Slot "set_iterator" "__next__" "set_iterator.__next__" :=
 .of (owner:="set_iterator") (n:="__next__") (by rw[uc,kx];kernel_rfl) (by decide +kernel) (by decide +kernel) (by decide +kernel)
  (by first|exact .inl (by decide +kernel)|exact .inr (by decide +kernel)) (by rw[ik];kernel_rfl)
theorem IE:entryFor table "set_iterator.__next__"=some Builtin.«set_iterator.__next__»:=entryFor_of_tree (by kernel_rfl)
theorem IQ(a:Value):argsOk "set_iterator.__next__" ⟨[a],[]⟩:=by
 unfold argsOk
 kernel_rfl
theorem IU:Slot "set_iterator" "__iter__" "set_iterator.__iter__" :=
 .of (owner:="set_iterator") (n:="__iter__") (by rw[uc,kx];kernel_rfl) (by decide +kernel) (by decide +kernel) (by decide +kernel)
  (by first|exact .inl (by decide +kernel)|exact .inr (by decide +kernel)) (by rw[ik];kernel_rfl)
theorem ZU:entryFor table "set_iterator.__iter__"=some Builtin.«dict_keyiterator.__iter__» :=
 entryFor_alias (id':="dict_keyiterator.__iter__") (by kernel_rfl) rfl (by decide +kernel) (by kernel_rfl)
theorem aD7(a:Value):argsOk "set_iterator.__iter__" ⟨[a],[]⟩:=by
 unfold argsOk
 kernel_rfl
end ST

namespace ST
open PySem PyProof.Rows
inductive Rd|text|plain|drawn
structure Lies(h:Heap)(a:Addr)(es:Array (Int×Value))(ep:Nat)(t:SetTable):Prop where
 at_:∃o,h.get? a=some o/\o.cls=.type "set"/\o.data=.set es ep t
 fit:t.fits es.size=true
theorem Lies.at{h h':Heap}{a:Addr}{es:Array (Int×Value)}{ep:Nat}{t:SetTable}(x:Lies h a es ep t)(k:∀o,h.get? a=some o->h'.get? a=some o):Lies h' a es ep t :=
 ⟨let ⟨o,e,r⟩:=x.at_;⟨o,k o e,r⟩,x.fit⟩
def C5(h:Heap)(I a:Addr)(f:Value)(i n ep:Nat):Prop:=∃o,h.get? I=some o/\o.cls=.type "set_iterator"/\o.data=.fields #[f,rawInt i,.ref a,rawInt n,rawInt ep]
theorem C5.at{h h':Heap}{I a:Addr}{f:Value}{i n ep:Nat}(x:C5 h I a f i n ep)(k:∀o,h.get? I=some o->h'.get? I=some o):C5 h' I a f i n ep:=let ⟨o,e,r⟩:=x;⟨o,k o e,r⟩
theorem C5.ty{s:Shared}{I a:Addr}{f:Value}{i n ep:Nat}(x:C5 s.heap I a f i n ep):s.TypeIs (.ref I) "set_iterator":=let ⟨o,e,c,_⟩:=x;⟨o,e,c⟩
def wC(w:World)(a:Addr)(es:Array (Int×Value))(ep:Nat)(pl:List Nat):Rd->List Value
 |.text=>(pickOrder (w.params.setOrder a ep) es).toList.map (·.2)
 |.plain=>es.toList.map (·.2)
 |.drawn=>pl.map λj=>(es.getD j (0,.none)).2
def slotAt(t:SetTable):Nat->Nat
 |0=>0
 |i+1=>t.place.getD i 0+1
def M4(h:Heap)(t:SetTable)(b:Addr)(pl:List Nat)(i:Nat)(f:Value):Rd->Prop
 |.text=>∃k:Nat,f=rawInt k
 |.plain=>f=rawInt (slotAt t i)
 |.drawn=>f=.ref b/\∃o e,h.get? b=some o/\o.cls=.type "tuple"/\o.data=.seq (pl.map λj=>rawInt (j:Nat)).toArray e
def tN(w:World)(es:Array (Int×Value))(t:SetTable)(pl:List Nat):Rd->Prop
 |.text=>w.params.followText "set-order"=true
 |.plain=>w.params.followText "set-order"=false/\(t.plain=true\/es.size<=1)/\Well true t
 |.drawn=>w.params.followText "set-order"=false/\pl.Perm (List.range es.size)
section
variable{prog:Program}{w:World}{A:Around}{E:Value->Shared->Prop}{s:Shared}{a:Addr}{es:Array (Int×Value)}{ep:Nat}{t:SetTable}
theorem wG{Q:Bool->Shared->Prop}(h:Q (w.params.followText "set-order") s):wpAny (model prog w) A setsByText Q E s:=by
 unfold setsByText;exact aa (qi (aj h))
theorem HV(hL:Lies s.heap a es ep t)(ht:w.params.followText "set-order"=true){sl g:Nat}{Q:Option (Value×Nat)->Shared->Prop}(h:Q (((pickOrder (w.params.setOrder a ep) es)[g]?).map λe=>(e.2,sl)) s) :
  wpAny (model prog w) A (setNext a sl g ep) Q E s:=by
 obtain⟨o,ho,_,hd⟩:=hL.at_;unfold setNext;refine aa (cN ho hd hL.fit ?_);refine aa (wG ?_);rw[ht,aJ rfl,aC (by simp)];unfold setWalk;refine aa (aa (cN ho hd hL.fit ?_));refine aa (wG ?_);rw[ht,aJ rfl];exact aa (qi (aj (aj h)))
theorem Iu(hL:Lies s.heap a es ep t)(ht:w.params.followText "set-order"=false)(hp:t.plain=true\/es.size<=1)(hl:t.led=true){sl g:Nat}{Q:Option (Value×Nat)->Shared->Prop}(h:Q (match es[SetTable.below t.place sl]?,t.place[SetTable.below t.place sl]? with|some (_,x),some j=>some (x,j+1)|_,_=>none) s):wpAny (model prog w) A (setNext a sl g ep) Q E s:=by
 obtain⟨o,ho,_,hd⟩:=hL.at_;unfold setNext;refine aa (cN ho hd hL.fit ?_);refine aa (wG ?_);rw[ht,aC (by decide)];show wpAny _ _ (if(!t.plain&&decide (es.size>1))=true then _ else _) _ _ _;rw[aC (by rcases hp with e|e<;>simp[e])];refine aa (eY (a:=()) ?_ (aj h));show((if(!t.led&&!es.isEmpty)=true then unsupported "set:maker-not-led" else pure ()):Sem Unit)=pure ();rw[hl]
 rfl
theorem Zt(hL:Lies s.heap a es ep t){j:Nat}(hj:j<es.size){Q:Value->Shared->Prop}(h:Q (es.getD j (0,.none)).2 s):wpAny (model prog w) A (setNextDrawn a j ep) Q E s:=by
 obtain⟨o,ho,_,hd⟩:=hL.at_;unfold setNextDrawn;refine aa (cN ho hd hL.fit ?_);dsimp only;rw[aC (by simp)];have e:es[j]?=some (es.getD j (0,.none)):=by simp[Array.getD,hj]
 rw[e];exact aj h
end
end ST

namespace ST
open PySem PyProof.Rows
section
variable{prog:Program}{w:World}{A:Around}{E:Value->Shared->Prop}{s:Shared}{a I b:Addr}{es:Array (Int×Value)}{ep:Nat}{t:SetTable}{pl:List Nat}
theorem HA(hL:Lies s.heap a es ep t):t.place.size=es.size:=by
 have:=hL.fit;unfold SetTable.fits at this;simp at this;exact this.1
theorem Ii(hw:kX t.place){i:Nat}(hi:i<=t.place.size):SetTable.below t.place (slotAt t i)=i:=by
 cases i with
 |zero=>exact Zd hw
 |succ i=>exact Zc hw (by omega)
theorem entries{Q:Array (Int×Value)->Shared->Prop}(hL:Lies s.heap a es ep t)(h:Q es s):wpAny (model prog w) A (setEntries a) Q E s:=by
 obtain⟨o,ho,_,hd⟩:=hL.at_;unfold setEntries;exact aa (cN ho hd hL.fit (aj h))
theorem UO{f f':Value}{i n:Nat}{h:Heap}(hi:C5 h I a f i n ep){x:Value}(hx:x=rawInt ((i:Int)+1)):C5 ((h.update I (Obj.mapFields (·.setIfInBounds 0 f'))).update I (Obj.mapFields (·.setIfInBounds 1 x))) I a f' (i+1) n ep:=by
 obtain⟨o,ho,hc,hd⟩:=hi;have h1:=bC (Obj.mapFields (·.setIfInBounds 0 f')) ho (eK (bY hd _));have d1:(Obj.mapFields (·.setIfInBounds 0 f') o).data=.fields #[f',rawInt i,.ref a,rawInt n,rawInt ep]:=by rw[bY hd];simp
 have h2:=bC (Obj.mapFields (·.setIfInBounds 1 x)) h1 (eK (bY d1 _));refine⟨_,h2,(oj ..).trans ((oj ..).trans hc),?_⟩;rw[bY d1];subst hx;simp[rawInt]
theorem UN{f:Value}{i n:Nat}{h:Heap}(hi:C5 h I a f i n ep){x:Value}(hx:x=rawInt ((i:Int)+1)):C5 (h.update I (Obj.mapFields (·.setIfInBounds 1 x))) I a f (i+1) n ep:=by
 obtain⟨o,ho,hc,hd⟩:=hi;have h2:=bC (Obj.mapFields (·.setIfInBounds 1 x)) ho (eK (bY hd _));refine⟨_,h2,(oj ..).trans hc,?_⟩;rw[bY hd];subst hx;simp[rawInt]
theorem Hm{α:Type}{f f' x:Value}{i n:Nat}{m:Sem α}{Q':α->Shared->Prop}(hi:C5 s.heap I a f i n ep)(hx:x=rawInt ((i:Int)+1))(h:∀h',C5 h' I a f' (i+1) n ep->Heap.SameBut I s.heap h'->wpAny (model prog w) A m Q' E { s with heap:=h' }) :
  wpAny (model prog w) A (do setField (.ref I) 0 f';setField (.ref I) 1 x;m) Q' E s:=by
 obtain⟨o,ho,hc,hd⟩:=id hi;refine aa (eX ho hd (by simp) ?_);have h1:=bC (Obj.mapFields (·.setIfInBounds 0 f')) ho (eK (bY hd _));have d1:(Obj.mapFields (·.setIfInBounds 0 f') o).data=.fields #[f',rawInt i,.ref a,rawInt n,rawInt ep]:=by rw[bY hd];simp
 refine aa (eX (s:={ s with heap:=_ }) h1 d1 (by simp) ?_);exact h _ (UO hi hx) ((cz ..).trans (cz ..))
theorem Vu{α:Type}{f x:Value}{i n:Nat}{m:Sem α}{Q':α->Shared->Prop}(hi:C5 s.heap I a f i n ep)(hx:x=rawInt ((i:Int)+1))(h:∀h',C5 h' I a f (i+1) n ep->Heap.SameBut I s.heap h'->wpAny (model prog w) A m Q' E { s with heap:=h' }) :
  wpAny (model prog w) A (do setField (.ref I) 1 x;m) Q' E s:=by
 obtain⟨o,ho,hc,hd⟩:=id hi;refine aa (eX ho hd (by simp) ?_);exact h _ (UN hi hx) (cz ..)
theorem CK{α:Type}(next:Nat->Nat)(xs:Array α):(pickOrder next xs).toList.Perm xs.toList:=by
 have go:∀(fuel k:Nat) (left:List α) (out:Array α),fuel=left.length->(pickOrder.go next fuel k left out).toList.Perm (out.toList++left):=by
  intro fuel
  induction fuel with
  |zero =>
   intro k left out e;have:left=[]:=dJ e.symm;subst this;simp[pickOrder.go]
  |succ n ih =>
   intro k left out e;have eA:next k % left.length<left.length:=Lm _ (by omega)
   unfold pickOrder.go;rw[ak eA];refine(ih _ _ _ (by rw[gB eA];omega)).trans ?_;rw[dz,bL];refine dZ _ ?_;have:left.Perm (left[next k % left.length]::left.eraseIdx (next k % left.length)):=by
    rw[lF]
    conv=>lhs;rw[<- bK (next k % left.length) left,eR eA]
    exact List.perm_middle
   exact this.symm
 have:=go xs.size 0 xs.toList #[] (by simp);simpa[pickOrder] using this
theorem next_item{r:Rd}{i:Nat}{f:Value}{Q:Option Value->Shared->Prop}(hL:Lies s.heap a es ep t)(hr:tN w es t pl r)(hi:C5 s.heap I a f i es.size ep)(hf:M4 s.heap t b pl i f r)(ft:b≠I)(eA:i<es.size)(h:∀v h' f',(wC w a es ep pl r)[i]?=some v->C5 h' I a f' (i+1) es.size ep->M4 h' t b pl (i+1) f' r->Heap.SameBut I s.heap h'->Q (some v) { s with heap:=h' }):wpAny (model prog w) A (pyNext (.ref I)) Q E s:=by
 obtain⟨o,ho,hc,hd⟩:=id hi;unfold pyNext;refine aa (Lg (fI (name:=Str.ofString "__next__") hi.ty B6 (cG B6 hi.ty IE ?_ (IQ _))));unfold Builtin.«set_iterator.__next__»;refine aa (aj ?_);refine aa (wpAny_fieldsOf ho hd ?_);dsimp only[rawInt];refine aa (entries hL ?_);rw[aC (by simp)];rw[cJ,cJ];cases r with
 |text =>
  obtain⟨k,rfl⟩:=hf;dsimp only[rawInt];refine aa (HV hL hr ?_);have hl:i<(pickOrder (w.params.setOrder a ep) es).size:=by
   have:=(CK (w.params.setOrder a ep) es).length_eq;simp at this;omega
  rw[ph hl];refine Hm hi rfl λh' h1 h2=>aj ⟨_,rfl,aj (h _ _ _ ?_ h1 ⟨_,rfl⟩ h2)⟩;show((pickOrder (w.params.setOrder a ep) es).toList.map (·.2))[i]?=_;simp[hl]
 |plain =>
  obtain⟨r1,r2,r3⟩:=hr;have hs:=HA hL;obtain rfl:=hf;dsimp only[rawInt];rw[cJ];refine aa (Iu hL r1 r2 r3.led ?_);rw[Ii r3.xu (by omega),ph eA,getD_mem (by omega)];refine Hm hi rfl λh' h1 h2=>aj ⟨_,rfl,aj (h _ _ _ ?_ h1 rfl h2)⟩;show(es.toList.map (·.2))[i]?=_;simp[eA]
 |drawn =>
  obtain⟨r1,r2⟩:=hr;obtain⟨rfl,ob,e,hb,Gp,xT⟩:=hf;have iC:i<pl.length:=by rw[r2.length_eq];simpa using eA
  dsimp only;refine aa (wpAny_seqItems hb xT ?_);have hj:pl[i]<es.size:=by
   have:=r2.mem_iff.mp (cC iC);simpa using this
  have e1:(pl.map λj=>rawInt (j:Nat)).toArray[i]?=some (rawInt (pl[i]:Nat)):=by simp[iC]
  dsimp only;rw[e1];dsimp only[rawInt];rw[cJ];refine aa (Zt hL hj ?_);refine Vu hi rfl λh' h1 h2=>aj ⟨_,rfl,aj (h _ _ _ ?_ h1 ⟨rfl,ob,e,by rw[h2.2 b ft];exact hb,Gp,xT⟩ h2)⟩;show(pl.map λj=>(es.getD j (0,.none)).2)[i]?=_;simp[iC]
theorem CL{Q:Option Value->Shared->Prop}{I:Addr}{h0:Heap}(hh:A.handled=none)(NP:Heap.ExtBut I h0 s.heap)(h:∀h',Heap.ExtBut I h0 h'->Q none { s with heap:=h' }) :
  wpAny (model prog w) A.in1 (newExc (.type "StopIteration") [] >>= λe=>(raiseNew e:Sem Fin)) (λfin s'=>∃v,fin=Fin.done (Flow.ret v)/\wpAny (model prog w) A (pure (some v)) Q E s')
   (λe s'=>wpAny (model prog w) A (do
     let x <- isInstance e (Value.type "StopIteration")
     if x=true then pure none else throw e) Q E s') s:=by
 refine aa ?_;simp only[newExc,newTuple];refine aa (cA ?_ (by size_fits));refine aa (m:=firstArgMember _ _) (eY (a:=Value.none) (by first|rfl|(simp only[firstArgMember];rfl)) ?_);refine cA ?_ (by size_fits);simp only[raiseNew];refine aa (wpAny_handled ?_);rw[show A.in1.handled=none from hh];refine aa (aj (wpAny_throw ?_));refine aa (jA (T:="StopIteration") (b:=true) ⟨_,aF _ rfl,rfl⟩ isSubtype_stop ?_);exact aj (h _ ((NP.push _).push _))
theorem next_end{r:Rd}{f:Value}{Q:Option Value->Shared->Prop}(hh:A.handled=none)(hL:Lies s.heap a es ep t)(hr:tN w es t pl r)(hi:C5 s.heap I a f es.size es.size ep)(hf:M4 s.heap t b pl es.size f r)(ft:b≠I)(h:∀h',Heap.ExtBut I s.heap h'->Q none { s with heap:=h' }):wpAny (model prog w) A (pyNext (.ref I)) Q E s:=by
 obtain⟨o,ho,hc,hd⟩:=id hi;unfold pyNext;refine aa (Lg (fI (name:=Str.ofString "__next__") hi.ty B6 (cG B6 hi.ty IE ?_ (IQ _))));unfold Builtin.«set_iterator.__next__»;refine aa (aj ?_);refine aa (wpAny_fieldsOf ho hd ?_);dsimp only[rawInt];refine aa (entries hL ?_);rw[aC (by simp)];rw[cJ,cJ];cases r with
 |text =>
  obtain⟨k,rfl⟩:=hf;dsimp only[rawInt];refine aa (HV hL hr ?_);have hl:(pickOrder (w.params.setOrder a ep) es).size<=es.size:=by
   have:=(CK (w.params.setOrder a ep) es).length_eq;simp at this;omega
  rw[uo hl];refine aa (eX ho hd (by simp) ?_);exact CL (s:={ s with heap:=_ }) hh (cz ..).extBut h
 |plain =>
  obtain⟨r1,r2,r3⟩:=hr;have hs:=HA hL;obtain rfl:=hf;dsimp only[rawInt];rw[cJ];refine aa (Iu hL r1 r2 r3.led ?_);rw[Ii r3.xu (by omega),uo (av _)];refine aa (eX ho hd (by simp) ?_);exact CL (s:={ s with heap:=_ }) hh (cz ..).extBut h
 |drawn =>
  obtain⟨r1,r2⟩:=hr;obtain⟨rfl,ob,e,hb,Gp,xT⟩:=hf;have iC:pl.length=es.size:=by rw[r2.length_eq];simp
  dsimp only;refine aa (wpAny_seqItems hb xT ?_);have e1:(pl.map λj=>rawInt (j:Nat)).toArray[es.size]?=none:=by simp[iC]
  dsimp only;rw[e1];dsimp only[rawInt];refine aa (eX ho hd (by simp) ?_);have h1:=bC (Obj.mapFields (·.setIfInBounds 0 (Value.int 0 0))) ho (eK (bY hd _));refine aa (eX (s:={ s with heap:=_ }) h1 (bY hd _) (by simp) ?_);exact CL (s:={ s with heap:=_ }) hh ((cz ..).trans (cz ..)).extBut h
end
end ST

namespace ST
open PySem PyProof.Rows
section
variable{prog:Program}{w:World}{A:Around}{E:Value->Shared->Prop}{s:Shared}{a I b:Addr}{es:Array (Int×Value)}{ep:Nat}{t:SetTable}{pl:List Nat}
theorem YE{α:Type}{l:List α}{k:Nat}(eA:k<l.length):(l[k]::l.eraseIdx k).Perm l:=by
 rw[lF]
 conv=>rhs;rw[<- bK k l,eR eA]
 exact List.perm_middle.symm
theorem Im{α:Type}:∀(n:Nat) (xs:List α) (s:Shared) (Q:List α->Shared->Prop),n=xs.length->(∀ys d,ys.Perm xs->Q ys { s with drawn:=d })->wpAny (model prog w) A (drawOrder n xs) Q E s
 |0,xs,s,Q,e,h=>by
  have:xs=[]:=dJ e.symm;subst this;exact aj (h [] s.drawn (jB _))
 |n+1,[],s,Q,e,h=>by simp at e
 |n+1,x::xs,s,Q,e,h=>by
  unfold drawOrder;refine aa ?_;intro Γ p hΓ;refine⟨by simp,?_⟩;generalize (model prog w).w.draws .order (s.drawn.get .order)=k;have eA:k % (x::xs).length<(x::xs).length:=Lm _ (by simp);have go:wpAny (model prog w) A (match (x :: xs)[k % (x :: xs).length]? with
   |some y=>do
    let ys <- drawOrder n ((x::xs).eraseIdx (k % (x::xs).length))
    pure (y::ys)
   | none=>unsupported "internal:drawOrder") Q E { s with drawn:=s.drawn.bump .order }:=by
   rw[ak eA];refine aa (Im n _ _ _ (by rw[gB eA];simp at e ⊢;omega) λys d hp=>aj ?_);exact h _ d ((List.Perm.cons _ hp).trans (YE eA))
  exact go
theorem Hs{r:Rd}(hr:tN w es t pl r):(wC w a es ep pl r).Perm (es.toList.map (·.2)):=by
 cases r with
 |text=>exact(CK _ es).map _
 |plain=>exact jB _
 |drawn =>
  refine(hr.2.map _).trans ?_;have:(List.range es.size).map (λj=>(es.getD j (0,.none)).2)=es.toList.map (·.2):=by
   apply List.ext_getElem
   ·simp
   ·intro i h1 h2;simp at h1;simp[Array.getD,h1]
  rw[this]
theorem Lies.ty(hL:Lies s.heap a es ep t):s.TypeIs (.ref a) "set":=let ⟨o,e,c,_⟩:=hL.at_;⟨o,e,c⟩
theorem a02(hL:Lies s.heap a es ep t)(hw:Well (Led w) t)(hz:es.size<=10000){Q:Value->Shared->Prop}(h:∀r pl b f I h' d',tN w es t pl r->C5 h' I a f 0 es.size ep->M4 h' t b pl 0 f r->b≠I->(b=a\/s.heap.objs.size<=b)->(∀c o,s.heap.get? c=some o->h'.get? c=some o)->s.heap.objs.size<=I->s.heap.objs.size<=h'.objs.size->Q (.ref I) { s with heap:=h',drawn:=d' }) :
  wpAny (model prog w) A (pyIter (.ref a)) Q E s:=by
 obtain⟨o,ho,Av,hd⟩:=hL.at_;refine wpAny_pyIter_slot hL.ty F.slot_set_iter (cG F.slot_set_iter hL.ty aC1 ?_ (F.args_set_iter_1 _));unfold Builtin.«frozenset.__iter__»;refine aa (aj ?_);unfold Builtin.Frozenset.sizeOf;refine aa (aa (entries hL (aj ?_)));unfold setDrawn;refine aa (aa (cN ho hd hL.fit ?_));refine aa (wG (aj ?_));have eA:=aB ho;have fin:∀(r:Rd) (f:Value) (b:Addr) (pl:List Nat) (h1:Heap) (d1:Drawn),tN w es t pl r->(∀h',(∀c o,h1.get? c=some o->h'.get? c=some o)->M4 h' t b pl 0 f r)->b<h1.objs.size->(b=a\/s.heap.objs.size<=b)->(∀c o,s.heap.get? c=some o->h1.get? c=some o)->s.heap.objs.size<=h1.objs.size ->
   wpAny (model prog w) A.in1 (do
    let e <- setEpoch a
    ret (<- newFields "set_iterator" [f,rawInt 0,.ref a,rawInt es.size,rawInt e])) (λfin s'=>∃ v,fin=Fin.done (Flow.ret v)/\∃ T' r,s'.TypeIs v T'/\typeLookup (.type T') "__next__"=pure (some r)/\Q v s') E { s with heap:=h1,drawn:=d1 }:=λr f b pl h1 d1 hr hf hb tj he hsz=>by
  have tB:Lies h1 a es ep t:=hL.at λo e=>he a o e;obtain⟨o1,xJ,_,Gn⟩:=tB.at_;unfold setEpoch;refine aa (aa (cN (s:={ s with heap:=h1,drawn:=d1 }) xJ Gn tB.fit (aj ?_)));refine aa (cA (aj ⟨_,rfl,"set_iterator",_,⟨_,aF _ rfl,rfl⟩,B6.lookup,?_⟩));refine h r pl b f h1.objs.size _ d1 hr ⟨_,aF _ rfl,rfl,rfl⟩ (hf _ λc o e=>au _ e) (aK hb) tj (λc o e=>au _ (he c o e)) hsz (by rw[jH];exact Nat.le_succ_of_le hsz)
 have e0:s={ s with heap:=s.heap,drawn:=s.drawn }:=rfl;cases hT:w.params.followText "set-order" with
 |true =>
  dsimp only[Bool.not_true,Bool.false_and];rw[aC (by simp)];refine aa (aj ?_);rw[e0];exact fin .text (rawInt 0) a [] s.heap s.drawn hT (λh' _=>⟨0,rfl⟩) eA (.inl rfl) (λc o e=>e) (av _)
 |false =>
  show wpAny _ _ (if(!false&&(!t.plain&&decide (es.size>1)))=true then _ else _ ) _ _ _;by_cases hp:t.plain=true\/es.size<=1
  ·rw[aC (by rcases hp with e|e<;>simp[e])];refine aa (aj ?_);rw[e0];refine fin .plain (rawInt 0) a [] s.heap s.drawn ⟨hT,hp,?_⟩ (λh' _=>rfl) eA (.inl rfl) (λc o e=>e) (av _);have:Led w=true:=by unfold Led;rw[hT];rfl
   rw[<- this];exact hw
  ·have h1:t.plain=false:=by cases hq:t.plain with|true=>exact absurd (.inl hq) hp|false=>rfl
   have h2:¬es.size<=1:=λz=>hp (.inr z);rw[aJ (by simp[h1];omega)];refine aa (Im _ _ _ _ (lp).symm λys d hy=>?_);have hl:ys.length=es.size:=by rw[hy.length_eq];simp
   refine aa (cA ?_ (by show(List.map _ ys).toArray.size<=sizeLine;rw[aH,ai,hl];exact aI hz (by decide)));refine fin .drawn (.ref s.heap.objs.size) s.heap.objs.size ys _ d ⟨hT,hy⟩ (λh' hk=>⟨rfl,_,_,hk _ _ (aF _ rfl),rfl,rfl⟩) (by rw[jH];exact fJ _) (.inr (av _)) (λc o e=>au _ e) (by rw[jH];exact cL _)
theorem YS(hh:A.handled=none){r:Rd}(hr:tN w es t pl r)(ft:b≠I)(FX:a≠I) :
  Walks prog w A I [I,a,b] [I] es.size (λi v=>(wC w a es ep pl r)[i]?=some v) (λi h=>Lies h a es ep t/\∃f,C5 h I a f i es.size ep/\M4 h t b pl i f r) where
 sub:=λc hc=>by simp at hc;simp[hc]
 frame:=λi h h' st hk=>by
  obtain⟨hL,f,hi,hf⟩:=st;refine⟨hL.at λo e=>hk a (by simp) o e,f,hi.at λo e=>hk I (by simp) o e,?_⟩;cases r with
  |text=>exact hf
  |plain=>exact hf
  |drawn =>
   obtain⟨e1,o,e,h1,h2⟩:=hf;exact⟨e1,o,e,hk b (by simp) o h1,h2⟩
 item:=λi s Q E hi st hQ=>by
  obtain⟨hL,f,hI,hf⟩:=st;exact next_item hL hr hI hf ft hi λv h' f' hv h1 h2 h3=>hQ v h' s.toks hv ⟨hL.at λo e=>by rw[h3.2 a FX];exact e,f',h1,h2⟩ λc o hc e=>h3.extBut c o (λz=>hc (by simp[z])) e
 done:=λs Q E st hQ=>by
  obtain⟨hL,f,hI,hf⟩:=st;exact next_end hh hL hr hI hf ft λh' he=>hQ h' s.toks λc o hc e=>he c o (λz=>hc (by simp[z])) e
 self:=λi s Q E st hQ=>by
  obtain⟨hL,f,hI,hf⟩:=st;refine wpAny_pyIter_slot hI.ty IU (cG IU hI.ty ZU ?_ (aD7 _));exact aa (aj (aj ⟨_,rfl,"set_iterator",_,hI.ty,B6.lookup,hQ⟩))
end
end ST

namespace ST
open PySem PyProof.Rows
theorem aA9:typeLookup (.type "set") "__len__"=pure (some (.builtin "set.__len__")):=by rw[uc,kx];kernel_rfl
section
variable{prog:Program}{w:World}{A:Around}{E:Value->Shared->Prop}{s:Shared}{a I b:Addr}{es:Array (Int×Value)}{ep:Nat}{t:SetTable}{pl:List Nat}
theorem aE4(hh:A.handled=none)(hL:Lies s.heap a es ep t)(hw:Well (Led w) t)(hz:es.size<=10000){Q:List Value->Shared->Prop}(h:∀(vs:List Value) h' d' mZ,vs.Perm (es.toList.map (·.2))->(∀c o,s.heap.get? c=some o->h'.get? c=some o)->s.heap.objs.size<=h'.objs.size->s.toks<=mZ->Q vs { s with heap:=h',drawn:=d',toks:=mZ }) :
  wpAny (model prog w) A (collect (.ref a)) Q E s:=by
 have eA:a<s.heap.objs.size:=let ⟨o,ho,_⟩:=hL.at_;aB ho
 unfold collect;refine aa (wpAny_runValue (fE F.entry_proto_collect ?_));rw[fc F.plain_proto_collect _];show wpAny _ A.in1 (newList [] >>= λl=>again (.builtin "list.__iadd__" ⟨[l,.ref a],[]⟩)) _ _ s;refine aa (cA ?_);refine aj ⟨mE F.plain_list_iadd _,fE F.entry_list_iadd ?_⟩;rw[fc F.plain_list_iadd _];have tB:Lies (s.heap.push { cls:=.type "list",data:=.seq ([]:List Value).toArray }) a es ep t:=hL.at λo e=>au _ e;have Nn:(s.heap.push { cls:=.type "list",data:=.seq ([]:List Value).toArray }).get? s.heap.objs.size=some { cls:=.type "list",data:=.seq ([]:List Value).toArray }:=aF _ rfl;have ft:s.heap.objs.size≠a:=bV eA;have h1:Builtin.List.listSameRef (.ref s.heap.objs.size) (.ref a)=false:=by simp[Builtin.List.listSameRef,ft]
 show wpAny _ A.in1 (Builtin.List.listExtendWith (.ref s.heap.objs.size) (.ref a) (.ref s.heap.objs.size)) _ _ _;unfold Builtin.List.listExtendWith;refine aa (fi (Lies.ty (s:={ s with heap:=_ }) tB) ?_);rw[aC (by rw[h1];decide)];refine aa (a02 (s:={ s with heap:=_ }) tB hw hz λr pl b f I h2 d2 hr hI hf hb Nf he Ba h2z=>?_);have rm:Lies h2 a es ep t:=tB.at λo e=>he a o e;have vE:=he _ _ Nn;refine aa (cb ?_);unfold Builtin.List.listLengthHint;refine aa (wpAny_specialOf (Lies.ty (s:={ s with heap:=h2,drawn:=d2 }) rm) aA9 ?_);generalize Gb:("set.__len__":String)=Mu;dsimp only;rw[show splitId Mu=some ("set","__len__") from by subst Gb;decide +kernel];dsimp only;refine aa (jA (b:=true) (Lies.ty (s:={ s with heap:=h2,drawn:=d2 }) rm) (by rw[ik];kernel_rfl) ?_);rw[aC (by decide)];subst Gb;rw[aJ (by decide +kernel)];refine aa (fi (Lies.ty (s:={ s with heap:=h2,drawn:=d2 }) rm) ?_);refine aj ?_;rw[aJ (by decide +kernel)];refine aa (cX ?_);refine aa ?_;show wpAny _ A.in1 (updateSeq s.heap.objs.size (·.push .none) >>= λ_=>updateSeq s.heap.objs.size (·.pop)) _ _ _;refine aa (wpAny_updateSeq (s:={ s with heap:=h2,drawn:=d2 }) vE rfl ?_);have Gw:=bC (Obj.mapSeq (·.push Value.none)) vE rfl;refine wpAny_updateSeq (s:={ s with heap:=_,drawn:=d2 }) Gw rfl ?_;have Nm:=bC (Obj.mapSeq (·.pop)) Gw rfl;have xy:∀c o,c≠s.heap.objs.size->h2.get? c=some o->((h2.update s.heap.objs.size (Obj.mapSeq (·.push Value.none))).update s.heap.objs.size (Obj.mapSeq (·.pop))).get? c=some o :=
  λc o hc e=>(eB _ _ (cx hc)).trans ((eB _ _ (cx hc)).trans e)
 have sT:s.heap.objs.size<(s.heap.push { cls:=.type "list",data:=.seq ([]:List Value).toArray }).objs.size:=by rw[jH];exact fJ _
 have hSI:I≠s.heap.objs.size:=bV (ay sT Ba);have hSb:b≠s.heap.objs.size:=by
  rcases Nf with z|z
  ·rw[z];exact cx ft
  ·exact bV (ay sT z)
 have W:=(YS (prog:=prog) (w:=w) (A:=A.in1) (a:=a) (b:=b) (I:=I) (es:=es) (ep:=ep) (t:=t) (pl:=pl) hh hr hb (aK (ay (cV eA sT) Ba))).toS;have st:Lies h2 a es ep t/\∃f,C5 h2 I a f 0 es.size ep/\M4 h2 t b pl 0 f r:=⟨rm,f,hI,hf⟩
 have gL:=W.frame 0 ({ s with heap:=h2,drawn:=d2 }:Shared) _ s.toks st (av _) λc hc o e=>xy c o (λz=>by simp at hc;rcases hc with y|y|y<;>simp_all) e;refine aj ⟨mE F.plain_extend_loop _,codeAny_extend_loopS W (aI hz (by decide)) _ (λz=>by simp at z;rcases z with y|y|y<;>simp_all) _ es.size 0 _ _ _ rfl (cB _) gL Nm (ItemsOf.nil _) λs' wI c' hm nF lD=>?_⟩;show wpAny _ A (load s.heap.objs.size >>= _) _ _ s';refine aa (wpAny_load nF ?_);refine aj ?_;have eS:s'={ s with heap:=s'.heap,drawn:=d2,toks:=s'.toks }:=by
  obtain⟨gJ,g',d',mZ,uI⟩:=s';have m1:g'=s.gens:=hm.gens;have m2:d'=d2:=hm.drawn;have m3:uI=s.os:=hm.os;subst m1;subst m2;subst m3
  rfl
 have eo:wI.toList=wC w a es ep pl r:=by
  have l1:(wC w a es ep pl r).length=es.size:=by rw[(Hs hr).length_eq];simp
  apply List.ext_getElem
  ·rw[l1];simpa using lD.1
  ·intro i h1 h2;have:=lD.2 i wI.toList[i] (by simp at h1 ⊢);dsimp only at this;rw[ak h2] at this;exact(aP this).symm
 rw[eo,eS];refine h _ _ d2 s'.toks (Hs hr) (λc o e=>?_) (eL (aB nF)) hm.toks;have hc:c<s.heap.objs.size:=aB e;have n1:c≠s.heap.objs.size:=aK hc;have n2:c≠I:=aK (ay (cV hc sT) Ba);exact hm.heap c o (by simp[n1,n2]) (xy c o n1 (he c o (au _ e)))
theorem ZG{ks:List Int}(hh:A.handled=none)(hS:u5 prog w s.heap a ks)(xZ:ks.length<64){Q:Value->Shared->Prop}(h:∀(S:Addr) (vs:List Value) (ns:List Int) e h' d' mZ,IntsAre vs ns->ns.Perm ks->ns.Pairwise (·<=·)->h'.get? S=some (seqObj "list" vs.toArray e)->s.heap.objs.size<=S->(∀c o,s.heap.get? c=some o->h'.get? c=some o)->s.toks<=mZ->Q (.ref S) { s with heap:=h',drawn:=d',toks:=mZ }) :
  wpAny (model prog w) A (call (.builtin "sorted") [.ref a]) Q E s:=by
 obtain⟨o,es,ep,t,ho,hx,hd,rf,hp,hn,hb,hf,hw⟩:=hS;have hL:Lies s.heap a es ep t:=⟨⟨o,ho,hx.1,hd⟩,hf⟩
 have hz:es.size=ks.length:=by rw[<- hp.length_eq];simp
 refine EL kind_sorted plain_sorted entry_sorted (args_sorted1 _) ?_;unfold Builtin.«sorted»;refine aa (m:=checkCount "sorted" 1 1 _) (aj ?_);refine aa (aE4 (A:=A.in1) hh hL hw (by omega) λvs h1 d1 zO hv he sT xH=>?_);have hI:IntsAre vs (vs.map toI):=by
  have all:∀v∈vs,∃tk,v=.int (toI v) tk:=λv Ao=>by
   obtain⟨e,kU,rfl⟩:=aT.mp (hv.mem_iff.mp Ao);obtain⟨tk,h1,_⟩:=Jz rf kU;exact⟨tk,h1⟩
  clear hv
  induction vs with
  |nil=>exact .nil
  |cons v r ih =>
   obtain⟨tk,e⟩:=all v (by simp);have:=IntsAre.cons (toI v) tk (ih λu hu=>all u (by simp[hu]));rw[<- e] at this;exact this
 have hk:(vs.map toI).Perm ks:=by
  refine(hv.map toI).trans ?_;rw[bA];exact hp
 have hl:vs.length<64:=by rw[hv.length_eq];simp;omega
 refine aa (Lf (s:={ s with heap:=h1,drawn:=d1,toks:=zO }) ?_);have oE:(h1.push (seqObj "list" vs.toArray 0)).get? h1.objs.size=some (seqObj "list" vs.toArray 0):=aF _ rfl;refine aa (cb (cG (s:={ s with heap:=h1.push (seqObj "list" vs.toArray 0),drawn:=d1,toks:=zO }) slot_list_sort ⟨_,oE,rfl⟩ entry_list_sort (list_sort_tree oE hI hl λout kG a1 a2 a3=>⟨_,rfl,?_⟩) (args_list_sort _)));obtain⟨e,kU⟩:=sortedHeap_at (vs:=vs) (out:=out) oE;refine aj ⟨_,rfl,h h1.objs.size out.toList kG e _ d1 zO a1 (a2.trans hk) a3 kU sT (λc o' e'=>?_) xH⟩;have hc:=aB (he c o' e');rw[sortedHeap_old (aK hc) (by rw[jH];exact lg hc)];exact au _ (he c o' e')
end
end ST

namespace ST
open PySem PyProof.Rows
def j5(ks xs:List Int):List Int:=xs.foldl C3 ks
theorem L4:∀(xs ks:List Int),(j5 ks xs).length<=ks.length+xs.length
 |[],ks=>by simp[j5]
 |x::xs,ks=>by
  have:=L4 xs (C3 ks x);have h2:=a65 ks x;show(j5 (C3 ks x) xs).length<=_;simp only[List.length_cons];omega
theorem Z3:∀(xs ks:List Int) (k:Int),k∈j5 ks xs↔k∈ks\/k∈xs
 |[],ks,k=>by simp[j5]
 |x::xs,ks,k=>by
  show k∈j5 (C3 ks x) xs↔_;rw[Z3 xs];unfold C3;split
  ·rename_i h;constructor
   ·rintro(a|a)
    ·exact .inl a
    ·exact .inr (by simp[a])
   ·rintro(a|a)
    ·exact .inl a
    ·rcases aE.mp a with rfl|b
     ·exact .inl h
     ·exact .inr b
  ·simp[or_assoc]
theorem Dc:∀(xs ks:List Int),ks.Nodup->(j5 ks xs).Nodup
 |[],ks,h=>h
 |x::xs,ks,h=>by
  show(j5 (C3 ks x) xs).Nodup;refine Dc xs _ ?_;unfold C3;split
  ·exact h
  ·rename_i hk;rw[dj];exact⟨h,by simp,λa ha b hb=>by simp at hb;subst hb;exact λz=>hk (z▸ha)⟩
section
variable{prog:Program}{w:World}{A:Around}{E:Value->Shared->Prop}{s:Shared}{a:Addr}
theorem Zh:Well (Led w) (SetTable.fresh 0 0 (Led w)):=⟨by simp[kX,SetTable.fresh],rfl,rfl⟩
theorem HM{h:Heap}(e:h.get? a=some { cls:=.type "set",dict:=none,data:=.set #[] 0 (.fresh 0 0 (Led w)) }):u5 prog w h a [] :=
 ⟨_,#[],0,_,e,⟨rfl,rfl,rfl⟩,rfl,(by intro e he;simp at he),by simp,by simp,by decide,by rfl,Zh⟩
theorem XN{R:Result->Shared->Prop}{I:Addr}{fp wr:List Addr}{G:Array GenState->Array GenState->Prop}{n:Nat}{P:Nat->Value->Prop}{St:Nat->Shared->Prop}(W:WalksS prog w A.in1 I fp wr G n P St)(Gv:a∉fp){ns:List Int}(hn:n=ns.length)(hv:∀i v,P i v->∃tk,v=.int (ns.getD i 0) tk)(hb:n+1<scanBound):∀(k i:Nat) (s:Shared),i+k=n->St i s->u5 prog w s.heap a (j5 [] (ns.take i)) ->
   (∀s',Moved (a::wr) G s s'->u5 prog w s'.heap a (j5 [] ns)->R (.ok (.ret .none)) s')->codeAny (model prog w) A (.builtin "set.update.loop" ⟨[.ref a,.ref I],[]⟩) R s:=by
 have hw:a∉wr:=λh=>Gv (W.sub _ h);have uB:∀b∈wr,b∈a::wr:=λb hb=>by simp[hb]
 intro k
 induction k with
 |zero =>
  intro i s e st hS hR;obtain rfl:i=n:=by omega
  refine fE jW ?_;rw[fc eU _];unfold Builtin.«set.update.loop»;refine aa (W.done s _ _ st λs' m=>aj (hR s' (m.mono uB) (u5.at ?_ λo e=>m.heap a o hw e)));rw[hn,bW] at hS;exact hS
 |succ k ih =>
  intro i s e st hS hR;have eA:i<ns.length:=by omega
  refine fE jW ?_;rw[fc eU _];unfold Builtin.«set.update.loop»;refine aa (W.item i s _ _ (by omega) st λv s' hP aX m=>?_);obtain⟨tk,rfl⟩:=hv i v hP;have nF:=u5.at hS λo e=>m.heap a o hw e;have hl:=L4 (ns.take i) [];rw[cY] at hl;simp only[List.length_nil] at hl;refine aa (cb ?_);unfold setAdd;refine cb (aa ((intKind prog w).pyHash (k:=ns.getD i 0) (gs _ _ _ _) ?_));refine Km (s:={ s' with toks:=s'.toks+1 }) nF (by omega) λh' bb sb vE=>?_;have e2:C3 (j5 [] (ns.take i)) (ns.getD i 0)=j5 [] (ns.take (i+1)):=by
   unfold j5;rw[bR,List.foldl_append,ak eA];simp[List.getD,eA]
  rw[e2] at vE;refine aj ⟨mE eU _,ih (i+1) _ (by omega) (W.frame _ s' _ _ aX (cL _) λb hb o e=>by rw[sb.2 b λz=>Gv (z▸hb)];exact e) vE λs2 m2 h2=>?_⟩;exact hR s2 (Moved.trans W.gtrans ((m.mono uB).then_heap (cL _) λb o hb e=>by rw[sb.2 b λz=>hb (by rw[z];simp)];exact e) m2) h2
end
end ST

namespace ST
open PySem PyProof.Rows
section
variable{prog:Program}{w:World}{A:Around}{E:Value->Shared->Prop}{s:Shared}{a:Addr}
noncomputable abbrev y9(w:World):Obj:={ cls:=.type "set",dict:=none,data:=.set #[] 0 (.fresh 0 0 (Led w)) }
theorem JJ{Q:Value->Shared->Prop}(h:Q (.ref s.heap.objs.size) { s with heap:=s.heap.push (y9 w) }):wpAny (model prog w) A (newSet (.type "set")) Q E s:=by
 unfold newSet;refine aa (wG ?_);exact cA h (cB _)
theorem a54(x:Value){Q:Value->Shared->Prop}(h:Q (.ref s.heap.objs.size) { s with heap:=s.heap.push (y9 w) }):codeAny (model prog w) A (.call (.builtin "set.__new__") ⟨[.type "set",x],[]⟩) (wants Q E) s:=by
 refine ud (?_:wpAny _ A.in1 (do
  checkBuiltinCall "set.__new__" ⟨[.type "set",x],[]⟩
  again (.builtin "set.__new__" ⟨[.type "set",x],[]⟩)) _ _ s)
 refine aa (eY (F.newCall_set_1 x) (aj ⟨mE F.plain_set_new _,?_⟩));refine fE F.entry_set_new ?_;rw[fc F.plain_set_new _];unfold Builtin.«set.__new__»;have sub:=sub_set_self;refine aa (m:=Builtin.Frozenset.newClass "set" _) ?_;unfold Builtin.Frozenset.newClass;dsimp only;refine aa (eY (a:=true) (by first|rfl|(simp[isType];rfl)) ?_);rw[aC (by decide)];refine aa (eY sub ?_);rw[aC (by decide)];refine aj ?_;exact aa (JJ (aj h))
theorem CG{vs:List Value}{ns:List Int}(h:IntsAre vs ns):vs.length=ns.length:=by
 induction h with
 |nil=>rfl
 |cons n t r ih=>simp[ih]
def wM(h:Heap)(l:Addr)(items:Array Value):Prop:=h.IsList l items\/h.IsTuple l items
theorem wM.lt{h:Heap}{l:Addr}{items:Array Value}(x:wM h l items):l<h.objs.size:=by
 rcases x with⟨_,e,_⟩|⟨_,e,_⟩<;>exact aB e
theorem a49{l:Addr}{items:Array Value}{ns:List Int}{Q:Fin->Shared->Prop}(hh:A.handled=none)(hS:s.heap.get? a=some (y9 w))(hl:wM s.heap l items)(hi:IntsAre items.toList ns)(hb:items.size+1<scanBound)(ft:a≠l)(h:∀h' tk,u5 prog w h' a (j5 [] ns)->(∀b o,b≠a->s.heap.get? b=some o->h'.get? b=some o)->s.toks<=tk->wpAny (model prog w) A (ret .none) Q E { s with heap:=h',toks:=tk }) :
  wpAny (model prog w) A (Builtin.«set.__init__» ⟨[.ref a,.ref l],[]⟩) Q E s:=by
 have hT:s.TypeIs (.ref a) "set":=⟨_,hS,rfl⟩
 have hLi:Lies s.heap a #[] 0 (SetTable.fresh 0 0 (Led w)):=⟨⟨_,hS,rfl,rfl⟩,rfl⟩
 have eA:=hl.lt;have FY:l≠s.heap.objs.size:=aK eA;unfold Builtin.«set.__init__» noKeywords;dsimp only;refine aa (eY (a:=()) rfl ?_);have nm:∀{Q':String->Shared->Prop},(∀x,Q' x s)->wpAny (model prog w) A (typeNameOfCut 200 (.ref a)) Q' E s:=λ{Q'} q=>by
  unfold typeNameOfCut shownTypeOf;refine aa (aa (fi hT ?_));rw[aC (by decide)];refine aj (eY (a:="set") ?_ (q _));unfold typeNameCut;dsimp only
  first|(unfold typeName;rw[find?_eq_fast];kernel_rfl)|kernel_rfl
 refine aa (nm λx=>?_);refine aa (m:=checkCount _ 0 1 _) (aj ?_);refine aa (m:=Builtin.Frozenset.addrOf _) (aj ?_);unfold setUsed;refine aa (aa (cN hS rfl rfl (aj ?_)));rw[aC (by show ¬((SetTable.fill (SetTable.fresh 0 0 (Led w)) != 0)=true);unfold SetTable.fill;simp[SetTable.fresh])];unfold Builtin.Frozenset.updateFrom Builtin.Frozenset.isAnySet;obtain⟨c,sZ,AY,it,hit,Ga,St,W,fq⟩:∃c:String,(c="list"\/c="tuple")/\s.TypeIs (.ref l) c/\∃it:Obj,(∀Q':Value->Shared->Prop,Q' (.ref s.heap.objs.size) { s with heap:=s.heap.push it }->wpAny (model prog w) A (pyIter (.ref l)) Q' E s) /\
   (∀b o,s.heap.get? b=some o->(s.heap.push it).get? b=some o)/\∃St:Nat->Shared->Prop,WalksS prog w A.in1 s.heap.objs.size [s.heap.objs.size,l] [s.heap.objs.size] (λa b=>b=a) items.size (λi v=>items[i]?=some v) St/\St 0 { s with heap:=s.heap.push it }:=by
  rcases hl with hl|hl
  ·obtain⟨o,ho,hc,_⟩:=id hl;exact⟨"list",.inl rfl,⟨o,ho,hc⟩,_,λQ' q=>iW hl q,λb o e=>au _ e,_,(Walks.list (A:=A.in1) hh _ l FY items).toS,⟨⟨_,aF _ rfl,rfl,rfl⟩,hl.push _⟩⟩
  ·obtain⟨o,ho,hc,_⟩:=id hl;exact⟨"tuple",.inr rfl,⟨o,ho,hc⟩,_,λQ' q=>wpAny_pyIter_tuple hl q,λb o e=>au _ e,_,(Walks.tuple (A:=A.in1) hh _ l FY items).toS,⟨⟨_,aF _ rfl,rfl,rfl⟩,hl.push _⟩⟩
 refine aa (aa (aa (jA (b:=false) AY (by rcases sZ with rfl|rfl<;>(rw[ik];kernel_rfl)) ?_)));show wpAny (model prog w) A (isInstance (Value.ref l) (Value.type "frozenset")) _ _ _;refine jA (b:=false) AY (by rcases sZ with rfl|rfl<;>(rw[ik];kernel_rfl)) ?_;rw[aC (by decide)];refine aa (fi AY ?_);rw[aC (by rcases sZ with rfl|rfl<;>decide)];refine aa (hit _ ?_);refine aa (wpAny_runValue ?_);have Ni:a<s.heap.objs.size:=aB hS;have hsz:items.size=ns.length:=by rw[<- bt];exact CG hi
 refine XN (a:=a) (ns:=ns) W (by simp only[List.mem_cons,List.not_mem_nil,or_false,not_or];exact⟨aK Ni,ft⟩) hsz (λi v hv=>IntsAre.int_at hi i v (by rw[et];exact hv)) hb items.size 0 _ (by omega)
  fq (HM (Ga _ _ hS)) λs' m nF=>?_
 have eS:s'={ s with heap:=s'.heap,toks:=s'.toks }:=by
  obtain⟨gJ,g',d',mZ,uI⟩:=s';have m1:g'=s.gens:=m.gens;have m2:d'=s.drawn:=m.drawn;have m3:uI=s.os:=m.os;subst m1;subst m2;subst m3
  rfl
 rw[eS];refine aj (h _ _ nF (λb o hb e=>?_) m.toks);exact m.heap b o (by simp only[List.mem_cons,List.not_mem_nil,or_false,not_or];exact⟨hb,aK (aB e)⟩) (Ga _ _ e)
theorem a57{l:Addr}{items:Array Value}{ns:List Int}{Q:Value->Shared->Prop}(hh:A.handled=none)(hl:wM s.heap l items)(hi:IntsAre items.toList ns)(hb:items.size+1<scanBound)(h:∀h' tk,u5 prog w h' s.heap.objs.size (j5 [] ns)->(∀b o,s.heap.get? b=some o->h'.get? b=some o)->s.toks<=tk->Q (.ref s.heap.objs.size) { s with heap:=h',toks:=tk }) :
  wpAny (model prog w) A (call (.type "set") [.ref l]) Q E s:=by
 have cs:=F.called_set;obtain⟨_,_,y1⟩:=cs.mro;have y2:=cs.made;have y3:=cs.sub;have y4:=cs.notType;have y5:=cs.canCreate;have y6:=F.typeCall_set_1 (.ref l);refine wpAny_call (ud (?_:wpAny _ _ (callAny (.type "set") _) _ _ _));refine aj ⟨Code.quiet_builtin _ (by decide +kernel),fE F.entry_type_call ?_⟩;rw[Around.under_plain (weight_type_call_type "set" [.ref l] []) rfl]
 repeat (any_goals (first|assumption|wp_step))
 refine gZ (a54 (.ref l) (E:=E) (Q:=λv s1=>v=.ref s.heap.objs.size/\s1={ s with heap:=s.heap.push (y9 w) }) ⟨rfl,rfl⟩) ?_;rintro(e|fl) s1 hr
 ·exact hr
 cases fl with
 |next=>exact hr
 |brk=>exact hr
 |cont=>exact hr
 |ret v =>
 obtain⟨rfl,rfl⟩:=hr;have hS:(s.heap.push (y9 w)).get? s.heap.objs.size=some (y9 w):=aF _ rfl;have hT:Shared.TypeIs { s with heap:=s.heap.push (y9 w) } (.ref s.heap.objs.size) "set":=⟨_,hS,rfl⟩
 have y7:=cs.init.lookup;have y8:=cs.init.bind (.ref s.heap.objs.size)
 repeat (any_goals (first|assumption|wp_step))
 refine gZ (codeAny_call_builtin (R:=wants (λv s2=>v=.none/\∃h' tk,s2={ s with heap:=h',toks:=tk }/\u5 prog w h' s.heap.objs.size (j5 [] ns)/\(∀b o,s.heap.get? b=some o->h'.get? b=some o)/\s.toks<=tk) E) cs.init.plain F.entry_set_init (check_set_init_1 hT ?_)) ?_
 ·have jD:wM (s.heap.push (y9 w)) l items:=hl.imp (·.push _) (·.push _);have MO:=hl.lt;refine a49 (s:={ s with heap:=s.heap.push (y9 w) }) (by simp[hh]) hS jD hi hb (bV MO) λh' tk h1 h2 h3=>aj ⟨rfl,h',tk,rfl,h1,λb o e=>h2 b o (aK (aB e)) (au _ e),h3⟩
 ·rintro(e|fl) s2 hr
  ·exact hr
  cases fl with
  |next=>exact hr
  |brk=>exact hr
  |cont=>exact hr
  |ret v =>
  obtain⟨rfl,h',tk,rfl,h1,h2,h3⟩:=hr
  repeat (any_goals (first|assumption|wp_step))
  exact h _ _ h1 h2 h3
end
end ST

namespace L2
open PySem PySem.Spec PyProof.Rows
def rZ(X:Cx)(a:Addr)(ks:List Int):HO:=.ext λh=>ST.u5 X.prog X.w h a ks
def o6(ns:List Int):List Int:=(ST.j5 [] ns).mergeSort (λa b=>decide (a<=b))
theorem S4:∀{a b:List Int},a.Perm b->a.Pairwise (·<=·)->b.Pairwise (·<=·)->a=b
 |[],b,h,_,_=>by rw[List.nil_perm.mp h]
 |x::a,[],h,_,_=>absurd h.length_eq (by simp)
 |x::a,y::b,h,h1,h2=>by
  rw[fj] at h1 h2;have e:x=y:=by
   have m1:=h.mem_iff (a:=y);have m2:=h.mem_iff (a:=x);simp only[List.mem_cons,true_or,true_iff,iff_true] at m1 m2;rcases m1 with z|z
   ·exact z.symm
   ·rcases m2 with z'|z'
    ·exact z'
    ·have:=h1.1 y z;have:=h2.1 x z';omega
  subst e;rw[S4 (h.cons_inv) h1.2 h2.2]
theorem ZE(ns:List Int):(o6 ns).Pairwise (·<=·):=by
 have:=sD (le:=λa b:Int=>decide (a<=b)) (λa b c h1 h2=>by simp at *;omega) (λa b=>by simp;omega) (ST.j5 [] ns);exact this.imp λh=>by simpa using h
theorem O5(ns:List Int):(o6 ns).Perm (ST.j5 [] ns):=EI _ _
theorem R9(ns:List Int):(o6 ns).length<=ns.length:=by
 rw[(O5 ns).length_eq];have:=ST.L4 ns [];simpa using this
section
variable{X:Cx}{pins:List (Addr×Obj)}{σ:St}{H:Hp}{s:Shared}
theorem Inv.draw(I:Inv X pins σ H s)(d:Drawn):Inv X pins σ H { s with drawn:=d } :=
 I.step (g':=s.gens) (t':=s.toks) (d':=d) (ch:=[]) (by simp) (λb o _ _ _ e _=>e) (λb o _ _ _ e _=>⟨o.slots,e⟩) (λb o _ _ e=>e) (λb o _ e=>⟨o,e⟩) (λ_ _ e=>e) (λ_ _ _ e=>e) (λb ps e=>⟨#[],by simp[e]⟩) (λm hm=>hm) I.bX I.bare
theorem JU{h:Heap}{H:Hp}{a:Addr}{ks:List Int}(x:ST.u5 X.prog X.w h a ks):n6 X.prog X.w H h a (rZ X a ks) :=
 ⟨x,by obtain⟨o,_,_,_,e,_⟩:=x;exact⟨o,e⟩,λh1 h2 y k=>y.at k⟩
theorem IC{ns:List Int}{vs:List Value}(h:IntsAre vs ns):Vals (ns.map V.int) vs:=by
 induction h with
 |nil=>exact .nil
 |cons n t r ih=>exact .cons ⟨t,rfl⟩ ih
theorem I9:∀{ns:List Int} {vs:List Value},Vals (ns.map V.int) vs->IntsAre vs ns
 |[],_,h=>by cases h;exact .nil
 |n::ns,_,h=>by
  cases h with
  |cons r rr =>
   obtain⟨t,rfl⟩:=r;exact .cons n t (I9 rr)
theorem IS(hc:X.calm=true):n4 X (.type "set") (λxs H Q=>∃a ns,xs=[.ref a]/\gp X.K H a (ns.map V.int)/\ns.length<60/\∀p,H p=none->Q (.ref p) (upd H p (rZ X p (ST.j5 [] ns)))):=by
 intro pins s σ H xs us Q I r h;obtain⟨a,ns,rfl,hq,hl,q⟩:=h;cases r with
 |cons r rr =>
 cases rr;cases r;obtain⟨ba,rv,p,hz⟩:=I.list hq;have hI:=I9 rv;have hlen:=ST.CG hI;refine ST.a57 (ns:=ns) (I.ok.hd hc) (.inl p.isList) (by simpa using hI) (by rw[aH,hlen];exact ay (Nat.succ_lt_succ hl) (by decide)) λh' tk hS hk _=>?_;exact⟨.ref _,_,I.laid (a:=s.heap.objs.size) (t':=tk) hk (av _) (JU hS),rfl,q _ (I.bX.fresh (av _))⟩
theorem U0(hc:X.calm=true):n4 X (.builtin "sorted") (λxs H Q=>∃a ns,xs=[.ref a]/\H a=some (rZ X a (ST.j5 [] ns))/\ns.length<60/\∀p,H p=none->Q (.ref p) (upd H p (.lst ((o6 ns).map V.int)))):=by
 intro pins s σ H xs us Q I r h;obtain⟨a,ns,rfl,ha,hl,q⟩:=h;cases r with
 |cons r rr =>
 cases rr;cases r;have hS:ST.u5 X.prog X.w s.heap a (ST.j5 [] ns):=(I.bX a _ ha).1;have hn:=ST.L4 ns [];simp only[List.length_nil] at hn;refine ST.ZG (I.ok.hd hc) hS (by omega) λS vs kG e h' d' mZ h1 h2 h3 h4 h5 h6 _=>?_;have e1:kG=o6 ns:=S4 (h2.trans (O5 ns).symm) h3 (ZE ns);subst e1;have hz:=R9 ns;exact⟨.ref S,_,(I.laid (a:=S) (o:=.lst ((o6 ns).map V.int)) (t':=mZ) h6 h5 ⟨by rw[ai];exact aI hz (aI (eL hl) (by decide)),vs,e,IC h1,h4⟩).draw d',rfl,q S (I.bX.fresh h5)⟩
end
end L2

namespace ST
open PySem PyProof.Rows
theorem a58{prog:Program}{w:World}{A:Around}{E:Value->Shared->Prop}{s:Shared}{a:Addr}{ks:List Int}{k:Int}{tk:Tok}{Q:Value->Shared->Prop}(hS:u5 prog w s.heap a ks)(hr:ks.length+1<scanBound)(h:∀h',Heap.SameBut a s.heap h'->u5 prog w h' a (C3 ks k)->Q .none { s with heap:=h',toks:=s.toks+1 }):wpAny (model prog w) A (call (.builtin "set.add") [.ref a,.int k tk]) Q E s:=by
 have hT:s.TypeIs (.ref a) "set":=let ⟨o,_,_,_,e,x,_⟩:=hS;⟨o,e,x.1⟩
 refine cG F.slot_set_add hT F.entry_set_add ?_ (F.args_set_add_2 _ _);have go:∀(Q':Fin->Shared->Prop),(∀h',Heap.SameBut a s.heap h'->u5 prog w h' a (C3 ks k)->wpAny (model prog w) A.in1 (ret .none) Q' E { s with heap:=h',toks:=s.toks+1 })->wpAny (model prog w) A.in1 (do let _ <- setAdd a (.int k tk);ret .none) Q' E s:=λQ' q=>by
  unfold setAdd;refine aa (cb (aa ((intKind prog w).pyHash (k:=k) (gs _ _ _ _) ?_)));exact Km (s:={ s with toks:=s.toks+1 }) hS hr λh' b sb S2=>q h' sb S2
 unfold Builtin.«set.add» Builtin.Frozenset.oneOther;simp only[List.isEmpty_nil,bind_assoc];unfold Builtin.Frozenset.addrOf;refine aa (aj ?_)
 try dsimp only
 refine aa (aj ?_)
 try dsimp only
 exact go _ λh' sb S2=>aj ⟨_,rfl,h h' sb S2⟩
end ST
namespace L2
open PySem PySem.Spec PyProof.Rows
section
variable{prog:Program}{w:World}{A:Around}{R:Result->Shared->Prop}{s:Shared}
theorem ZI(elt target iter:Expr)(ifs:List Expr)(scope:Scope)(pos:Pos)(it acc:Value)(env:Env):compTurn (.SetComp elt [⟨target,iter,ifs,0⟩] scope pos) 0 it acc env=(do
      standAt iter.pos
      match <- pyNext it with
      |none=>pure (.done .next)
      |some v =>
        letOwnedTupleGo target it v
        assign target env v
        let mut ok:=true
        for c in ifs do if ok then ok <- isTrue c env (eval c env)
        if ok then(do let x <- eval elt env;standAt elt.pos;let _ <- call (.builtin "set.add") [acc,x])
        again (.compLoop (.SetComp elt [⟨target,iter,ifs,0⟩] scope pos) 0 it acc env)):=by rfl
theorem Xl{elt target iter:Expr}{ifs:List Expr}{scope:Scope}{pos:Pos}{it acc:Value}{env:Env}(I:Nat->Shared->Prop)(turn:∀ n s,I n s->wpAny (model prog w) A (pyNext it) (λr cq=>match r with
   |none=>R (.ok .next) cq
   | some v=>wpAny (model prog w) A (letOwnedTupleGo target it v) (λ_ cq=>wpAny (model prog w) A (assign target env v) (λ_ iN =>
     wpAny (model prog w) A (forIn ifs true λc r=>if r=true then do let ok <- isTrue c env (eval c env);pure (ForInStep.yield ok) else pure (ForInStep.yield r)) (λok fU =>
      if ok=true then wpAny (model prog w) A (eval elt env) (λx ka =>
       wpAny (model prog w) A (call (.builtin "set.add") [acc,x]) (λ_ nc=>∃ m,m < n/\I m nc) (λ_ _=>False) ka) (λ_ _=>False) fU
      else ∃ m,m < n/\I m fU) (λ_ _=>False) iN) (λ_ _=>False) cq) (λ_ _=>False) cq) (λ_ _=>False) s)(n:Nat)(h:I n s) :
  codeAny (model prog w) A (.compLoop (.SetComp elt [⟨target,iter,ifs,0⟩] scope pos) 0 it acc env) R s:=by
 refine codeAny_loop rfl I (λn s hI=>?_) n h;show wpAny _ A ((compTurn (.SetComp elt [⟨target,iter,ifs,0⟩] scope pos) 0 it acc env).onRaise (λx=>do noteFrame x env;theTreesLotGoes x)) _ _ s;refine wpAny_noted ?_;rw[ZI];refine aa (eI (aa (bI (turn n s hI) (λr cq dR=>?_) λ_ _ h'=>h'.elim)));cases r with
 |none=>exact aj dR
 |some v =>
  refine aa (bI dR (λ_ cq dR=>?_) λ_ _ h'=>h'.elim);refine aa (bI dR (λ_ iN jt=>aa (bI jt (λok fU nu=>?_) λ_ _ h'=>h'.elim)) λ_ _ h'=>h'.elim);cases ok with
  |false=>exact wpAny_pure ⟨rfl,nu⟩
  |true =>
   exact aa (aa (bI nu (λx ka qS=>aa (eI (aa (bI qS (λ_ nc qR=>aj (aj ⟨rfl,qR⟩)) λ_ _ h'=>h'.elim)))) λ_ _ h'=>h'.elim))
theorem Zz{elt target iter:Expr}{ifs:List Expr}{scope:Scope}{pos:Pos}{it acc:Value}{env:Env}(h0:codeAny (model prog w) A (.compLoop (.SetComp elt [⟨target,iter,ifs,0⟩] scope pos) 0 it acc env) R s)(h:wpAny (model prog w) A (pyIter it) (λFI s'=>codeAny (model prog w) A (.compLoop (.SetComp elt [⟨target,iter,ifs,0⟩] scope pos) 0 FI acc env) R s') (notedBy (model prog w) A env λx s'=>R (.error x) s') s) :
  codeAny (model prog w) A (.compStart (.SetComp elt [⟨target,iter,ifs,0⟩] scope pos) 0 it acc env) R s:=by
 refine ud (?_:wpAny _ _ ((compStart (.SetComp elt [⟨target,iter,ifs,0⟩] scope pos) 0 it acc env).onRaise (λx=>do noteFrame x env;standAt theWindowsPlace)) _ _ s);refine wpAny_notedAt ?_;unfold compStart;refine aa (qi (wpAny_ite ?_));split
 ·first
   |exact aj ⟨rfl,h0⟩
   |exact aa (aj (aj ⟨rfl,h0⟩))
 ·refine aa (cX ?_);exact aa (eI (aa (bI h (λFI s' h'=>aj ⟨rfl,h'⟩) λ_ _ x=>x)))
end
def DV(o:Obj):Prop:=∀v,o.data≠.cell v
def RY(X:Cx)(wi:TI)(d6:List Nat)(n:Nat)(g:TG)(tc:TT)(te:TE):TE:=λσ H Q=>wi σ H λJ H1=>∃W:Nat->Nat->List Int->St->Hp->Prop,(∃m,W 0 m [] (B8 σ d6 n) H1)/\∀i m ys σ H,W i m ys σ H ->
 (J.stop i H/\∀p,H p=none->Q (.ref p) (upd H p (rZ X p (ST.j5 [] ys)))) \/
 (J.go i H/\ys.length < 60/\∀ x H',J.qr i H x H'->g x σ H' λcR H2=>tc cR H2 λb H3 =>
  if b=true then te cR H3 λy H4=>∃ k,y=.int k/\∃ m',m' < m/\W (i + 1) m' (ys ++ [k]) cR H4 else ∃ m',m' < m/\W (i + 1) m' ys cR H3)
section
variable{X:Cx}{pins:List (Addr×Obj)}{σ:St}{H:Hp}{s:Shared}
theorem Inv.Sa{D:Addr}{φ:Heap->Prop}(I:Inv X pins σ H s)(f:C0 X pins H D)(hs:X.dB.heap.objs.size<=D)(ho:n6 X.prog X.w (upd H D (.ext φ)) s.heap D (.ext φ)):Inv X pins σ (upd H D (.ext φ)) s:=by
 obtain⟨f0,f1,f2,f3,f4,f5⟩:=f;have ft:∀b o,X.dB.heap.get? b=some o->b≠D:=λb o e z=>absurd (aB e) (by rw[z];exact kz.mpr hs);have tup:∀b u,H b=some u->upd H D (.ext φ) b=some u:=λb u e=>by rw[f9 (n5 e f0)];exact e
 refine⟨I.ok,I.os,I.bare,⟨?_,?_,?_,I.base.there,?_,?_,?_⟩,I.loc,I.cell,?_,?_,?_,?_,I.len⟩
 ·exact λb o e n1 n2 n3=>I.base.keep b o e n1 n2 n3
 ·exact λb o e n1 n2 n3=>I.base.slot b o e n1 n2 n3
 ·exact λb o e n1 n2=>by rw[f9 (ft b o e)];exact I.base.free b o e n1 n2
 ·exact λb xs e=>tup _ _ (I.base.jm b xs e)
 ·exact λb o u e=>tup _ _ (I.base.iS b o u e)
 ·exact λb ps e=>by
   obtain⟨more,q⟩:=I.base.jn b ps e;exact⟨more,tup _ _ q⟩
 ·rw[f9 f1.symm];exact I.free
 ·exact λx c e=>by rw[f9 (f4 x c e)];exact I.fZ x c e
 ·intro p hp;obtain⟨p1,p2,p3⟩:=I.pin p hp;exact⟨p1,by rw[f9 (f5 p hp)];exact p2,p3⟩
 ·intro a o e;by_cases ha:a=D
  ·subst ha;rw[u3] at e;cases e;exact ho
  ·rw[f9 ha] at e;have q:=I.bX a o e;refine q.Y3 (λb u _ h=>h) (λb hb=>tup _ _ hb) (λb xs hb=>tup _ _ hb)
theorem Z'{elt tg iter:Expr}{ifs:List Expr}{scope:Scope}{N':List Str}{d6:List Nat}{cl:List (Str×Addr)}{pos:Pos}{it:Addr}{fp:List Addr}{tn:Nat->Heap->Prop}{J:It}{g:TG}{tc:TT}{te:TE}{RR:Value->Addr->Result->Shared->Prop}{E:Value->Shared->Prop}{W:Nat->Nat->List Int->St->Hp->Prop}{m0:Nat}{Q:VK}(S:dG X scope N' d6 cl)(hc:X.calm=true)(hg:∀C s H,PG (d8 X pins scope N' cl C s H fp) tg g)(ht:∀C s H,lR (d8 X pins scope N' cl C s H fp) ifs tc)(he:∀C s H,PE (d8 X pins scope N' cl C s H fp) elt te)(I:Inv X pins σ H s)(T:Turn X.prog X.w X.K tg J fp it tn)(st:tn 0 s.heap)(hf:∀b∈fp,C0 X pins H b)(w0:W 0 m0 [] (B8 σ d6 N'.length) H)(turn:∀ i m ys σ H,W i m ys σ H->(J.stop i H/\∀ p,H p=none->Q (.ref p) (upd H p (rZ X p (ST.j5 [] ys)))) \/
   (J.go i H/\ys.length < 60/\∀ x H',J.qr i H x H'->g x σ H' λcR H2=>tc cR H2 λb H3 =>
    if b=true then te cR H3 λy H4=>∃ k,y=.int k/\∃ m',m' < m/\W (i + 1) m' (ys ++ [k]) cR H4 else ∃ m',m' < m/\W (i + 1) m' ys cR H3))(AZ:∀D C s' H' m,Inv X pins σ H' s'->Q (.ref D) H'->s'.heap.Ns C m->H' C=none->s.heap.objs.size<=C->RR (.ref D) C (.ok .next) s') :
  wpAny (model X.prog X.w) X.A (newSet (.type "set")) (λacc fU=>wpAny (model X.prog X.w) X.A (newFunctionEnv scope X.env.globals cl [] X.env.qual none .none (some X.env)) (λmz ka =>
   codeAny (model X.prog X.w) X.A (.compStart (.SetComp elt [⟨tg,iter,ifs,0⟩] scope pos) 0 (.ref it) acc { mz with scope:=relabel scope X.env }) (RR acc mz.locals) ka) E fU) E s:=by
 refine ST.JJ (IZ λdR gR fV nD=>?_);dsimp only at gR fV nD ⊢;generalize rq:s.heap.push (ST.y9 X.w)=H2 at gR fV nD ⊢;generalize eD:s.heap.objs.size=D at *;have hC:H2.objs.size=D+1:=by rw[<- rq,fb,eD]
 generalize eC:H2.objs.size=C at *;have vH:D≠C:=by omega
 have lt:∀b o,s.heap.get? b=some o->b<D:=λb o e=>by rw[<- eD];exact aB e
 have qO:D<=C:=by omega
 have pA:∀b o,s.heap.get? b=some o->b≠C:=λb o e=>aK (ay (lt b o e) qO);have nk:∀b o,s.heap.get? b=some o->b≠D:=λb o e=>aK (lt b o e);have old:∀b o,s.heap.get? b=some o->dR.get? b=some o:=λb o e=>fV b o (rq▸au _ e);have lD:dR.get? D=some (ST.y9 X.w):=fV _ _ (by rw[<- rq,<- eD];exact aF _ rfl);have ju:∀b∈fp,∃o,s.heap.get? b=some o:=λb hb=>by
  obtain⟨o,e,_⟩:=T.obj _ _ st b hb;exact⟨o,e⟩
 have vG:D∉fp:=λhm=>by
  obtain⟨o,e⟩:=ju D hm;exact nk D o e rfl
 have X1:Inv (d8 X pins scope N' cl C s H fp) [] (B8 σ d6 N'.length) H { s with heap:=dR } :=
  I.Il S hc hf ju (by rw[eD];omega) ⟨_,gR⟩ old nD
 have eJ:tn 0 dR:=T.keep _ _ _ st λb _ o e=>old b o e;have Bw:∀{H':Hp},(∀b∈fp,H' b=none)->∀b∈fp,C0 (d8 X pins scope N' cl C s H fp) [] H' b:=λhn b hb=>by
  obtain⟨f0,f1,f2,f3,f4,f5⟩:=hf b hb;obtain⟨o,e⟩:=ju b hb;refine⟨hn b hb,?_,?_,.inl hb,λx c q=>(zg nD q).elim (λl z=>absurd (cV (z▸l) (ay (lt b o e) qO)) (bH _)) λq=>f4 x c (S.cin x c q),λp hp=>?_⟩
  ·exact pA b o e
  ·exact λz=>by
    rcases aE.mp (I.K9 b z) with z|z
    ·exact f1 z
    ·exact f2 z
  ·have gJ:p∈X.pn++pins:=by simpa[d8] using hp
   exact f5 p gJ
 have fD:∀{H':Hp},H' D=none->C0 (d8 X pins scope N' cl C s H fp) [] H' D:=λhn=>by
  refine⟨hn,vH,λz=>?_,.inr (by show s.heap.objs.size<=D;omega),λx c q=>?_,λp hp=>?_⟩
  ·exact absurd (I.we (a:=D) (by omega)) λpF=>by
    rcases aE.mp (I.K9 D z) with z|z
    ·exact absurd I.lt (by rw[<- z,eD];exact bH _)
    ·exact pF z
  ·rcases zg nD q with l|q
   ·exact λz=>absurd (ay (z▸l) qO) (bH _)
   ·obtain⟨v,o,e,_⟩:=I.cell x c (S.cin x c q);exact nk c o e
  ·have gJ:p∈X.pn++pins:=by simpa[d8] using hp
   exact nk _ _ (I.pin p gJ).1
 have qK:∀{H':Hp} {s':Shared} {cF:St} {oD:Obj},DV oD->Inv (d8 X pins scope N' cl C s H fp) [] cF H' s'->H' D=none->s'.heap.get? D=some oD ->
   Inv (d8 X pins scope N' cl C s H fp) [(D,oD)] cF H' s':=λ{H' s' cF oD} kq J0 hn e=>J0.K5 λp hp=>by
  have z:p=(D,oD):=by simpa using hp
  subst z;obtain⟨f0,f1,f2,_⟩:=fD hn;exact⟨e,f0,f1,f2,kq⟩
 have rK:∀{H':Hp} {oD:Obj},(∀b∈fp,H' b=none)->∀b∈fp,C0 (d8 X pins scope N' cl C s H fp) [(D,oD)] H' b:=λ{H' oD} hn b hb=>by
  obtain⟨f0,f1,f2,f3,f4,f5⟩:=Bw hn b hb;refine⟨f0,f1,f2,f3,f4,λp hp=>?_⟩;have gJ:p∈(d8 X pins scope N' cl C s H fp).pn\/p=(D,oD):=by simpa using hp
  rcases gJ with z|z
  ·exact f5 p (bw _ z)
  ·subst z;exact λz=>vG (by rw[show D=b from z];exact hb)
 have loop:∀fU:Shared,fU={ s with heap:=dR } ->
   codeAny (model X.prog X.w) X.A (.compLoop (.SetComp elt [⟨tg,iter,ifs,0⟩] scope pos) 0 (.ref it) (.ref D) (compEnvC scope (K3 scope cl C) C X.env)) (RR (.ref D) C) fU:=by
  rintro fU rfl;refine Xl (λn s'=>∃ (i:Nat) (ys:List Int) (cF:St) (H':Hp) (oD:Obj),Inv (d8 X pins scope N' cl C s H fp) [] cF H' s'/\tn i s'.heap/\(∀ b ∈ fp,H' b=none)/\H' D=none/\ys.length <= 60/\DV oD /\
   s'.heap.get? D=some oD/\ST.u5 X.prog X.w s'.heap D (ST.j5 [] ys)/\W i n ys cF H') ?_ m0 ⟨0,[],_,H,ST.y9 X.w,X1,eJ,λb hb=>(hf b hb).1,I.bX.fresh (by omega),cB _,(λv (z:Data.set _ _ _=_)=>by cases z),lD,ST.HM lD,w0⟩
  rintro n s3 ⟨i,ys,lG,H3,oD,I3,jo,pR,d3,z3,c3,o3,S3,w3⟩;have xa:=qK c3 I3 d3 o3;rcases turn i n ys lG H3 w3 with⟨stop,q⟩|⟨go,hz,step⟩
  ·refine cT (T.done (d8 X pins scope N' cl C s H fp) rfl rfl rfl rfl i _ s3 _ H3 _ xa (rK pR) jo stop) λr s4 ⟨hr,I4⟩=>?_;subst hr;have o4:=(I4.pin (D,oD) (by simp)).1;have J4:Inv X pins σ H3 s4:=I.Kc hf I4;have Bx:C0 X pins H3 D:=by
    refine⟨d3,bV (by rw[<- eD];exact I.lt),I.we (by omega),.inr (by have:=I.sz;omega),λx c q=>?_,λp hp=>?_⟩
    ·obtain⟨v,o,e,_⟩:=I.cell x c q;exact nk c o e
    ·exact nk _ _ (I.pin p hp).1
   obtain⟨mC,AB,_⟩:=I4.loc;exact AZ D C s4 (upd H3 D (rZ X D (ST.j5 [] ys))) mC (J4.Sa Bx (by have:=I.sz;omega) (JU (S3.at λo e=>by rw[o3] at e;cases e;exact o4))) (q D d3) AB (by rw[f9 vH.symm];exact I4.free) (by omega)
  ·refine cT (T.item (d8 X pins scope N' cl C s H fp) rfl rfl rfl rfl i _ s3 _ H3 _ xa (rK pR) jo go) λr s4 ⟨u,hr,h4⟩=>?_;subst hr;refine cT h4 λ_ s5 bB=>?_;obtain⟨x,H5,I5,r5,y5,mh,vQ⟩:=bB;have o5:=I5.pin (D,oD) (by simp);have wZ:=I5.pinned (rK vQ) (T.obj _ _ mh);refine cT (hg C s H _ s5 _ H5 x u _ wZ r5 (step x H5 y5)) λ_ s6 bB=>?_;obtain⟨lW,H6,I6,q6⟩:=bB;refine cT (ht C s H _ s6 lW H6 _ I6 q6) λok s7 ⟨H7,I7,q7⟩=>?_;have back:∀{uq:St} {H8:Hp} {s8:Shared},Inv (d8 X pins scope N' cl C s H fp) ([(D,oD)]++V9 fp s5.heap) uq H8 s8->(∀b∈fp,H8 b=none)/\tn (i+1) s8.heap/\H8 D=none/\s8.heap.get? D=some oD :=
    λ{uq H8 s8} I8=>by
     have pf:∀b∈fp,∀o,s5.heap.get? b=some o->s8.heap.get? b=some o/\H8 b=none:=λb hb o e=>by
      have:=I8.pin (b,o) (aO _ (aO _ (O7 hb e)));exact⟨this.1,this.2.1⟩
     have pd:=I8.pin (D,oD) (by simp);refine⟨λb hb=>?_,T.keep _ _ _ mh λb hb o e=>(pf b hb o e).1,pd.2.1,pd.1⟩;obtain⟨o,e,_⟩:=T.obj _ _ mh b hb;exact(pf b hb o e).2
   cases ok with
   |false =>
    obtain⟨m',hm,w7⟩:=q7;obtain⟨b1,b2,b3,b4⟩:=back I7;exact⟨m',hm,i+1,ys,lW,H7,oD,I7.K5 λp hp=>absurd hp (by simp),b2,b1,b3,z3,c3,b4,S3.at λo e=>by rw[o3] at e;cases e;exact b4,w7⟩
   |true =>
    refine cT (he C s H _ s7 lW H7 _ I7 q7) λxv s8 bB=>?_;obtain⟨y,H8,I8,r8,kk,ey,m',hm,w8⟩:=bB;subst ey;obtain⟨tk,rfl⟩:=r8;obtain⟨b1,b2,b3,b4⟩:=back I8;have S8:ST.u5 X.prog X.w s8.heap D (ST.j5 [] ys):=S3.at λo e=>by rw[o3] at e;cases e;exact b4
    have Af:=ST.L4 ys [];simp only[List.length_nil] at Af;refine ST.a58 S8 (ay (by omega:_<62) (by decide)) λh' sb S9=>?_;have e9:ST.C3 (ST.j5 [] ys) kk=ST.j5 [] (ys++[kk]):=by unfold ST.j5;rw[List.foldl_append];rfl
    rw[e9] at S9;obtain⟨o9,es9,ep9,t9,g9,x9,d9,r9⟩:=id S9;have c9:DV o9:=λv z=>by rw[d9] at z;cases z
    have EB:Inv (d8 X pins scope N' cl C s H fp) [] lW H8 s8:=I8.K5 λp hp=>absurd hp (by simp);obtain⟨f0,f1,f2,f3,f4,f5⟩:=fD (H':=H8) b3;have kp:∀b o,b≠D->s8.heap.get? b=some o->h'.get? b=some o:=λb' u hb hu=>by rw[sb.2 b' hb];exact hu
    refine⟨m',hm,i+1,ys++[kk],lW,H8,o9,EB.turned (it:=D) (t':=s8.toks+1) kp f0 f1 f3 f4 f5,T.keep _ _ _ b2 λb hb o e=>kp b o (λz=>vG (by rw[<- z];exact hb)) e,b1,b3,?_,c9,g9,S9,w8⟩;rw[bj,jk];omega
 exact Zz (loop _ rfl) (T.self _ 0 _ _ _ eJ (loop _ rfl))
theorem a30{elt tg iter:Expr}{ifs:List Expr}{scope:Scope}{N':List Str}{d6:List Nat}{cl:List (Str×Addr)}{pos:Pos}{wi:TI}{g:TG}{tc:TT}{te:TE}(S:dG X scope N' d6 cl)(hc:X.calm=true)(hi:PI X tg iter wi)(hg:∀pins C s H fp,PG (d8 X pins scope N' cl C s H fp) tg g)(ht:∀pins C s H fp,lR (d8 X pins scope N' cl C s H fp) ifs tc)(he:∀pins C s H fp,PE (d8 X pins scope N' cl C s H fp) elt te)(hs:∀x,foldedSetIterable iter X.env x=pure x):PE X (.SetComp elt [⟨tg,iter,ifs,0⟩] scope pos) (RY X wi d6 N'.length g tc te):=by
 intro pins s σ H Q I h;rw[arm_eval_SetComp];refine je (use:=none) rfl hs S.rQ S.kind S.names (cT (hi pins s σ H _ I h) λxv cq dR=>cT dR λve iN jt=>?_);obtain⟨it,fp,tn,J,H2,e,I2,T,gL,f2,W,⟨m0,w0⟩,turn⟩:=jt;subst e;refine Z' (RR:=λacc C=>compPost (model X.prog X.w) X.A X.xe none (EP X pins σ Q) acc C) S hc (λC s H=>hg pins C s H fp) (λC s H=>ht pins C s H fp) (λC s H=>he pins C s H fp) I2 T gL f2 w0 turn ?_;intro D C s' H' m I' q hn hC hsz;exact⟨m,hn,λh' sb=>⟨.ref D,H',I'.KC hsz I2 hC sb,rfl,q⟩⟩
end
end L2

namespace HT
open PySem PyProof.Rows Builtin
theorem Xz:fillsNumberSlot (.type "tuple") "mul"=pure false :=
 PySem.fillsNumberSlot_seq (id:="tuple.__mul__") (r:=some (.builtin "tuple.__rmul__")) ql.lookup (by decide +kernel) F.slot_tuple_rmul.lookup (by decide +kernel)
theorem Xb:seqRepeat? (.type "tuple")=pure (some (.builtin "tuple.__mul__")):=by
 unfold seqRepeat?;rw[PySem.seqSlot_of (T:="tuple") (name:="__mul__") (id:="tuple.__mul__") ql.lookup (by decide +kernel),PySem.seqSlot_of (T:="tuple") (name:="__rmul__") (id:="tuple.__rmul__") F.slot_tuple_rmul.lookup (by decide +kernel)]
 rfl
theorem Xv(a:Int)(t:Tok)(l:Addr)(items:Array Value)(n:Nat)(dd:Option Addr)(sl:Array (Option Value)) :
  Meets (Builtin.«int.__rmul__» ⟨[.int a t,.ref l],[]⟩) (λ_ R s=>s.heap.get? l=some { cls:=.type "tuple",dict:=dd,data:=.seq items n,slots:=sl }/\R (.ok (.ret Value.notImplemented)) s) :=
 .of_wp λprog w A R s h=>by obtain⟨hp,g,d,tk,os⟩:=s;obtain⟨hl,h⟩:=h;wp_walk;exact⟨_,rfl,h⟩
theorem Xw(t:Value)(c:Value):Builtin.«tuple.__mul__» ⟨[t,c],[]⟩=(do
 let n <- asIndex c
 if n < -(2 ^ 63)||n>=2 ^ 63 then
  rule "tuple.repeat.overflow";raiseError "OverflowError" s!"cannot fit '{<- typeNameOf c}' into an index-sized integer"
 let xs <- Builtin.Tuple.tupleItemsOf t
 if xs.isEmpty||n==1 then
  if <- Builtin.Tuple.tupleIsExact t then rule "tuple.repeat.same-object";return <- ret t
 if n<=0||xs.isEmpty then return <- ret (<- Builtin.Tuple.tupleExact #[])
 if xs.size*n>(2 ^ 63-1) / 8 then rule "tuple.repeat.no-memory";raiseNew (<- newExc (.type "MemoryError") [])
 if Builtin.Tuple.tupleTooMany (xs.size*n) then unsupported "tuple.__mul__:memory"
 ret (<- Builtin.Tuple.tupleExact ((List.replicate n.toNat xs).foldl (· ++ ·) #[]))):=rfl
section
variable{prog:Program}{w:World}{A:Around}{E:Value->Shared->Prop}{s:Shared}
theorem Zf(ba:List Value):∀(m:Nat) (acc:Array Value),List.foldl (λx1 x2=>x1++x2) acc (List.replicate m ba.toArray)=acc++(List.replicate m ba).flatten.toArray:=by
 intro m
 induction m with
 |zero=>intro acc;simp
 |succ m ih=>intro acc;rw[cj,mV,ih,cj,dy];simp
theorem YX{a:Addr}{ba:List Value}{n:Int}{t:Tok}{Q:Value->Shared->Prop}(ht:IsTup s.heap a ba.toArray)(ft:ba≠[])(h1:1<=n)(h2:n<2 ^ 62)(hz:ba.length*n.toNat<=sizeLine)(q1:n=1->Q (.ref a) s)(q2:Q (.ref s.heap.objs.size) { s with heap:=s.heap.push { cls:=.type "tuple",data:=.seq (List.replicate n.toNat ba).flatten.toArray } }):wpAny (model prog w) A (binaryOp .Mult (.ref a) (.int n t)) Q E s:=by
 obtain⟨o,ho,hc,k,hd⟩:=id ht;obtain⟨cls,dict,data,slots⟩:=o;dsimp only at hc hd;subst hc hd;have he:ba.toArray.isEmpty=false:=by cases ba<;>first|exact absurd rfl ft|rfl
 refine EF (T:="tuple") (U:="int") (by decide) ht.typeIs (λs'=>mT s' n t) Xz F.fills_int_mul km Xb F.slot_int_index.lookup
  (jV km (mT s n t) F.entry_int_rmul (F.args_int_rmul_2 _ _) (Xv n t a ba.toArray k dict slots) ⟨ho,rfl,ht.typeIs,?_⟩)
 refine cG ql ht.typeIs F.entry_tuple_mul ?_ (F.args_tuple_mul_2 _ _);rw[Xw];refine aa (eY (show asIndex (.int n t)=pure n from rfl) ?_);dsimp only;rw[aC (by simp only[Bool.or_eq_true,decide_eq_true_eq];omega)];refine aa (tupleItemsOf_ ht ?_);have big:¬((ba.toArray.size:Int)*n>(2 ^ 63-1) / 8):=by
  rw[aH];have:((ba.length*n.toNat:Nat):Int)=(ba.length:Int)*n:=by rw[Int.natCast_mul];rw[show((n.toNat:Nat):Int)=n by omega]
  rw[<- this];have hs:sizeLine<2 ^ 59:=by decide
  omega
 have many:¬(Builtin.Tuple.tupleTooMany ((ba.toArray.size:Int)*n)=true):=by
  unfold Builtin.Tuple.tupleTooMany;rw[aH,dN];have:((ba.length*n.toNat:Nat):Int)=(ba.length:Int)*n:=by rw[Int.natCast_mul];rw[show((n.toNat:Nat):Int)=n by omega]
  rw[<- this];omega
 have hsz:sizeOk (.seq (List.replicate n.toNat ba).flatten.toArray):=by
  show(List.replicate n.toNat ba).flatten.toArray.size<=sizeLine;simp only[List.size_toArray,List.length_flatten,List.map_replicate,List.sum_replicate_nat];rw[kZ];exact hz
 by_cases e1:n=1
 ·subst e1;rw[aJ (by rw[he];rfl)];unfold Builtin.Tuple.tupleIsExact;refine aa (aa (fi ht.typeIs (aj ?_)));rw[aJ (by decide)]
  first
   |exact aa (cX (aa (aj ⟨_,rfl,aj (q1 rfl)⟩)))
   |exact aa (cX (aj ⟨_,rfl,(q1 rfl)⟩))
   |exact aa (cX (aj ⟨_,rfl,aj (q1 rfl)⟩))
 ·rw[aC (by rw[he];simpa using e1)];rw[aC (by rw[he];simp;omega),aC big,aC many];rw[show List.foldl (λx1 x2=>x1++x2) #[] (List.replicate n.toNat ba.toArray)=(List.replicate n.toNat ba).flatten.toArray by rw[Zf];simp]
  first
   |exact aa (m:=Builtin.Tuple.tupleExact _) (cA (aj ⟨_,rfl,q2⟩) hsz)
   |exact aa (m:=Builtin.Tuple.tupleExact _) (cA (aj ⟨_,rfl,aj q2⟩) hsz)
end
end HT
namespace L2
open PySem PySem.Spec PyProof.Rows
section
variable{X:Cx}
def ON(K:PySem.W.Frag):R2:=λx y H Q=>∃(a:Addr) (n:Int) (xs:List V),x=.ref a/\y=.int n/\jc K H a xs/\xs≠[]/\1<=n/\n<2 ^ 62/\xs.length*n.toNat<=sizeLine /\
 (n=1->Q (.ref a) H)/\(∀p,H p=none->Q (.ref p) (upd H p (.tup (List.replicate n.toNat xs).flatten)))
theorem Ta:gb X (binaryOp .Mult) (ON X.K):=by
 intro pins s σ H x y v u Q I rx ry h;obtain⟨a,n,xs,rfl,rfl,ha,ft,h1,h2,hz,q1,q2⟩:=h;cases rx;obtain⟨tk,rfl⟩:=ry;obtain⟨ba,r,p,_⟩:=I.tuple ha;refine HT.YX p (λz=>ft (r.zc.mp z)) h1 h2 (by rw[<- r.length];exact hz) (λe=>⟨.ref a,H,I,rfl,q1 e⟩) ?_;refine⟨.ref s.heap.objs.size,_,I.laid (t':=s.toks) (o:=.tup (List.replicate n.toNat xs).flatten) (λb ob q=>au _ q) (av _) ?_,rfl,q2 _ (I.bX.fresh (av _))⟩;exact⟨by rw[len_rep,kZ];exact hz,_,r.rep _,L5.new _ _⟩
def SJ(sep:Str)(ys:List Str):Nat:=ys.foldl (λn y=>n+y.length+sep.length) 0
end
end L2

namespace HT
open PySem PyProof.Rows Builtin PySem.SeqAt
section
variable{prog:Program}{w:World}{A:Around}{E:Value->Shared->Prop}{s:Shared}
end
end HT
namespace L2
open PySem PySem.Spec PyProof.Rows
section
variable{X:Cx}
def Ej(K:PySem.W.Frag)(H:Hp)(a:Addr)(xs:List V):Prop :=
 H a=some (.tup xs)\/∃(o:Obj) (ba:Array Value) (n:Nat),K.lookup a=some o/\o.cls=.type "tuple"/\o.dict=none/\o.data=.seq ba n/\ba.size<=sizeLine/\Vals xs ba.toList
theorem Ej.sq{K:PySem.W.Frag}{H:Hp}{a:Addr}{xs:List V}(h:Ej K H a xs):jc K H a xs:=by
 rcases h with h|⟨o,ba,n,h1,h2,_,h3,h4,h5⟩
 ·exact .inl (.inl h)
 ·exact .inr ⟨o,ba,n,h1,h2,h3,h4,h5⟩
end
end L2

namespace ST
open PySem PyProof.Rows
def Spot(k:Int):Prop:=0<=k/\k<8
structure Own(mask:Nat)(owner:Array (Option Nat))(pre:List Int):Prop where
 sz:owner.size=mask+1
 fwd:∀(i:Nat) (k:Int),pre[i]?=some k->owner[k.toNat]?=some (some i)
 bwd:∀(j i:Nat),owner[j]?=some (some i)->pre[i]?=some (j:Int)
end ST

namespace ST
open PySem PyProof.Rows
section
variable{prog:Program}{w:World}{A:Around}{E:Value->Shared->Prop}{s:Shared}{a:Addr}
def Ux(prog:Program)(w:World)(h:Heap)(a:Addr)(ks:List Int):Prop :=
 ∃o es ep t,h.get? a=some o/\o.ExactSet/\o.data=.set es ep t/\ElemsOf (intKind prog w) es.toList/\(es.toList.map λe=>toI e.2).Perm ks/\ks.Nodup/\es.size<scanBound/\t.fits es.size=true/\Well (Led w) t/\(ks=[]->7<=t.mask)
theorem u5.toV{h:Heap}{ks:List Int}(x:u5 prog w h a ks)(hn:ks≠[]):Ux prog w h a ks:=by
 obtain⟨o,es,ep,t,h1,h2,h3,h4,h5,h6,h7,h8,h9⟩:=x;exact⟨o,es,ep,t,h1,h2,h3,h4,h5,h6,h7,h8,h9,λz=>absurd z hn⟩
theorem u5.same{h:Heap}{ks us:List Int}(x:u5 prog w h a ks)(hp:ks.Perm us):u5 prog w h a us:=by
 obtain⟨o,es,ep,t,h1,h2,h3,h4,h5,h6,h7⟩:=x;exact⟨o,es,ep,t,h1,h2,h3,h4,h5.trans hp,hp.nodup_iff.mp h6,h7⟩
theorem L9{h:Heap}{o:Obj}{es oR:Array (Int×Value)}{ep:Nat}{t t':SetTable}(ho:h.get? a=some o)(hd:o.data=.set es ep t):(h.update a (Obj.putSet oR t')).get? a=some { o with data:=.set oR (ep+1) t' }:=by
 have:=bC (Obj.putSet oR t') ho (by rw[lE oR t' hd];rfl);rw[lE oR t' hd] at this;exact this
theorem above:∀n,n<300->7<SetTable.sizeAbove n/\n<SetTable.sizeAbove n/\SetTable.sizeAbove n<=sizeLine:=by decide +kernel
end
end ST
namespace L2
open PySem PySem.Spec PyProof.Rows
variable{X:Cx}
end L2

namespace ST
open PySem PyProof.Rows
section
variable{prog:Program}{w:World}{A:Around}{E:Value->Shared->Prop}{s:Shared}{a:Addr}{ep:Nat}{K:Type}[DecidableEq K]{knd:PySem.KeyKind prog w K}{kvs:List (K×Value)}
end
end ST
namespace L2
open PySem PySem.Spec PyProof.Rows
section
variable{X:Cx}
end
end L2

namespace L2
open PySem PySem.Spec PyProof.Rows
section
variable{X:Cx}
theorem V0{ba:List Value}{ns:List Int}(hi:IntsAre ba ns):∃xs,ba.toArray=intItems xs/\ns=xs.toList.map (·.1):=by
 obtain⟨xs,e⟩:=hi.allInts.items;exact⟨xs,e,by rw[<- hi.numsOf,<- nums_intItems,<- e]⟩
theorem Yb(hc:X.calm=true):n4 X (.builtin "sum") (λxs H Q=>∃a,∃ns:List Int,xs=[.ref a]/\gp X.K H a (ns.map V.int)/\Q (.int ns.sum) H):=by
 intro pins s σ H xs us Q I r h;obtain⟨a,ns,rfl,ha,q⟩:=h;obtain⟨u,rfl,ru⟩:=vals1 r;cases ru;obtain⟨ba,rv,p,hz⟩:=I.list ha;obtain⟨xs,e,en⟩:=V0 (I9 rv);refine sum_intListG (xs:=xs) (I.ok.hd hc) (by rw[<- e];exact p.isList) λh' tk t' k=>⟨.int ns.sum,H,I.kept k,⟨t',?_⟩,q⟩
 rw[preSum_eq,cW (by simp),en]
theorem XZ(hc:X.calm=true):n4 X (.builtin "max") (λxs H Q=>∃a,∃(ns:List Int) (M:Int),xs=[.ref a]/\gp X.K H a (ns.map V.int)/\M∈ns/\(∀x∈ns,x<=M)/\Q (.int M) H):=by
 intro pins s σ H xs us Q I r h;obtain⟨a,ns,M,rfl,ha,hm,hM,q⟩:=h;obtain⟨u,rfl,ru⟩:=vals1 r;cases ru;obtain⟨ba,rv,p,hz⟩:=I.list ha;obtain⟨xs,e,en⟩:=V0 (I9 rv);have hsz:0<xs.size:=by
  have:=iM hm;rw[en,ai,bt] at this;exact this
 refine max_intList (xs:=xs) (I.ok.hd hc) (by rw[<- e];exact p.isList) hsz λv h' tk hv k=>?_;obtain⟨t,rfl⟩:=intItems_at hv;obtain⟨h1,h2⟩:=argBest_gt (numAt xs) (xs.size-1);generalize argBest (λi j=>decide (numAt xs i>numAt xs j)) (xs.size-1)=j0 at *;have m1:numAt xs j0∈ns:=by rw[en,numAt_eq];exact getD_mem (by rw[ai,bt];omega)
 have m2:M<=numAt xs j0:=by
  rw[en] at hm;obtain⟨j,hj,rfl⟩:=mem_getD hm;rw[ai,bt] at hj;rw[<- numAt_eq];exact h2 j (by omega)
 have e2:numAt xs j0=M:=Int.le_antisymm (hM _ m1) m2;exact⟨.int M,H,I.kept k,⟨t,by rw[e2]⟩,q⟩
theorem Ya(hc:X.calm=true):n4 X (.builtin "min") (λxs H Q=>∃a,∃(ns:List Int) (M:Int),xs=[.ref a]/\gp X.K H a (ns.map V.int)/\M∈ns/\(∀x∈ns,M<=x)/\Q (.int M) H):=by
 intro pins s σ H xs us Q I r h;obtain⟨a,ns,M,rfl,ha,hm,hM,q⟩:=h;obtain⟨u,rfl,ru⟩:=vals1 r;cases ru;obtain⟨ba,rv,p,hz⟩:=I.list ha;obtain⟨xs,e,en⟩:=V0 (I9 rv);have hsz:0<xs.size:=by
  have:=iM hm;rw[en,ai,bt] at this;exact this
 refine min_intList (xs:=xs) (I.ok.hd hc) (by rw[<- e];exact p.isList) hsz λv h' tk hv k=>?_;obtain⟨t,rfl⟩:=intItems_at hv;obtain⟨h1,h2⟩:=argBest_lt (numAt xs) (xs.size-1);generalize argBest (λi j=>decide (numAt xs i<numAt xs j)) (xs.size-1)=j0 at *;have m1:numAt xs j0∈ns:=by rw[en,numAt_eq];exact getD_mem (by rw[ai,bt];omega)
 have m2:numAt xs j0<=M:=by
  rw[en] at hm;obtain⟨j,hj,rfl⟩:=mem_getD hm;rw[ai,bt] at hj;rw[<- numAt_eq];exact h2 j (by omega)
 have e2:numAt xs j0=M:=Int.le_antisymm m2 (hM _ m1);exact⟨.int M,H,I.kept k,⟨t,by rw[e2]⟩,q⟩
theorem XU(hc:X.calm=true):n4 X (.builtin "all") (λxs H Q=>∃(a:Addr) (ns:List Int),xs=[.ref a]/\gp X.K H a (ns.map V.int)/\Q (.bl (ns.all λn=>n != 0)) H):=by
 intro pins s σ H xs us Q I r h;obtain⟨a,ns,rfl,ha,q⟩:=h;obtain⟨u,rfl,ru⟩:=vals1 r;cases ru;obtain⟨ba,rv,p,hz⟩:=I.list ha;refine call_all_walk ?_;refine iW p.isList ?_;have ft:a≠s.heap.objs.size:=by
  obtain⟨o,e,_⟩:=id p.isList;exact aK (aB e)
 have hl:=rv.length;rw[ai] at hl;refine⟨s.heap.objs.size,_,_,_,_,_,λi=>ns.getD i 1 != 0,rfl,Walks.list (A:=X.A.in1) (I.ok.hd hc) _ a ft ba.toArray,⟨⟨_,aF _ rfl,rfl,rfl⟩,?_⟩,?_,λh' tk k=>?_⟩
 ·obtain⟨o,e,q1⟩:=id p.isList;exact⟨o,au _ e,q1⟩
 ·intro i v s' Q' E' hP hQ;have hv:ba[i]?=some v:=by simpa using hP
  have hi:i<ns.length:=by rw[hl];exact(aw.mp hv).1
  obtain⟨u',vh,zU⟩:=rv.get (i:=i) (x:=V.int ns[i]) (by rw[ao,ak hi];rfl);rw[hv] at vh;cases vh;obtain⟨t,rfl⟩:=zU;refine truthy_int ?_;have:ns.getD i 1=ns[i]:=by simp[List.getD,hi]
  dsimp only at hQ;rw[this] at hQ;exact hQ
 ·have e1:(List.range ba.toArray.size).all (λi=>ns.getD i 1 != 0)=ns.all λn=>n != 0:=by
   rw[aH,<- hl];rw[aZ];simp only[List.all_eq_true,List.mem_range];constructor
   ·intro hh x hx;obtain⟨i,hi,rfl⟩:=bD.mp hx;have:=hh i hi;simpa[List.getD,hi] using this
   ·intro hh i hi;have:=hh ns[i] (cC hi);simpa[List.getD,hi] using this
  rw[e1];exact ⟨.bl _,H,I.kept (t':=tk) λb o e=>k b o (by
   intro hb;have:b=s.heap.objs.size:=by simpa using hb
   exact absurd (aB e) (by rw [this];exact bH _)) (au _ e),rfl,q⟩
theorem Xe:n4 X (.builtin "len") (λxs H Q=>∃a,∃ks:List Int,xs=[.ref a]/\H a=some (rZ X a ks)/\Q (.int ks.length) H):=by
 intro pins s σ H xs us Q I r h;obtain⟨a,ks,rfl,ha,q⟩:=h;obtain⟨u,rfl,ru⟩:=vals1 r;cases ru;have hS:ST.u5 X.prog X.w s.heap a ks:=(I.bX a _ ha).1;obtain⟨o,es,ep,t,e,ex,ed,_,hp,nd,hz,hf,_⟩:=hS;have hl:es.size=ks.length:=by have:=hp.length_eq;simpa using this
 refine call_len_set e ex ed hf (by have:scanBound<2 ^ 62:=(by decide);omega) ⟨.int ks.length,H,I.tok _,⟨_,by rw[hl]⟩,q⟩
end
end L2

namespace L2
open PySem PySem.Spec PyProof.Rows
section
variable{X:Cx}
theorem Tj{i:Int}{j:Nat}{p pos:Pos}(nC:PySem.W.kdsCode X.K X.env.code=true):PE X (.Set [.Constant (.int i) j p] 0 pos) (λσ H Q=>∀q,H q=none->Q (.ref q) (upd H q (.set (λk=>decide (k=i)) 1))):=by
 intro pins s σ H Q I h;rw[arm_eval_Set];refine aa (eI ?_);refine aa (PySem.W.kds_main I.ig nC λb=>?_);rw[PySem.W.kds_star _ (by rfl),bA];refine PySem.W.kds_core (ts:=(evalEach [Expr.Constant (.int i) j p] X.env).map λt=>do let v <- t;standAt pos;pure v) (by rfl) (by rfl) (by show 1<=30;decide) (by rw[bA];rfl) λled=>?_;refine PySem.W.kds_all pos _ _ _ ?_;show wpAny _ _ (eval (.Constant (.int i) j p) X.env) _ _ _;refine wpAny_Constant_int ?_;refine PySem.W.kds_fill_cons ?_;have Np:(s.heap.push { cls:=.type "set",dict:=none,data:=.set #[] 0 (.fresh 0 0 led) }).SetOf (intKind X.prog X.w) s.heap.objs.size (λ_=>false) 0:=(setObjOf_fresh led).setOf (aF _ rfl) (by decide);unfold setAdd;refine cb (aa ((intKind X.prog X.w).pyHash (k:=i) (gs _ _ _ _) ?_));refine wpAny_setAddHashed_of (knd:=intKind X.prog X.w) (gs _ _ _ _) rfl Np (by decide) λh' Aq nF=>?_;refine PySem.W.kds_fill_nil (by rfl) ?_;have kp:∀b u,s.heap.get? b=some u->h'.get? b=some u:=λb u e=>(Aq.2 b (aK (aB e))).trans (au _ e);exact⟨.ref s.heap.objs.size,_,I.laid (a:=s.heap.objs.size) (o:=.set (λk=>decide (k=i)) 1) kp (av _) (by show Heap.SetOf _ _ _ _ _;simpa using nF),rfl,h _ (I.bX.fresh (av _))⟩
theorem Yx:gb X (compareOp .In) (λx y H Q=>∃i a S n,x=.int i/\y=.ref a/\H a=some (.set S n)/\Q (.bl (S i)) H):=by
 intro pins s σ H x y v u Q I rx ry h;obtain⟨i,a,S,n,rfl,rfl,ha,q⟩:=h;obtain⟨t,rfl⟩:=rx;cases ry;exact wpAny_inSet_of (knd:=intKind X.prog X.w) (k:=i) (gs _ _ _ _) rfl (I.bX a _ ha) ⟨.bl (S i),H,I.tok _,rfl,q⟩
theorem Xa:gb X (compareOp .NotIn) (λx y H Q=>∃i a S n,x=.int i/\y=.ref a/\H a=some (.set S n)/\Q (.bl (!S i)) H):=by
 intro pins s σ H x y v u Q I rx ry h;obtain⟨i,a,S,n,rfl,rfl,ha,q⟩:=h;obtain⟨t,rfl⟩:=rx;cases ry;exact wpAny_notInSet_of (knd:=intKind X.prog X.w) (k:=i) (gs _ _ _ _) rfl (I.bX a _ ha) ⟨.bl (!S i),H,I.tok _,rfl,q⟩
theorem Zs:nP X "set.add" (λx xs H Q=>∃a i S n,x=.ref a/\xs=[.int i]/\H a=some (.set S n)/\n+1<4096/\Q .bN (upd H a (.set (λk=>S k||decide (k=i)) (if S i then n else n+1)))):=by
 intro pins s σ H x vs v us Q I rx rv h;obtain⟨a,i,S,n,rfl,rfl,ha,hn,q⟩:=h;cases rx;obtain⟨u,rfl,t,rfl⟩:=rv.one;refine call_set_add (knd:=intKind X.prog X.w) (k:=i) (gs _ _ _ _) rfl (I.bX a _ ha) (show n+1<scanBound from hn) λh' Aq nF=>?_;obtain⟨o,es,ep,tb,ho,_⟩:=id nF;exact⟨.bN,_,I.write (x:=a) (e:=a) (o:=.set (λk=>S k||decide (k=i)) (if S i then n else n+1)) (by rw[ha];trivial) (.inl rfl) (λb u hb e=>(Aq.2 b hb).trans e) ⟨o,ho⟩ nF,rfl,q⟩
end
end L2

namespace TS
open PySem PyProof.Rows
def Bu:Bool->Keyed->Array Keyed->Nat->Nat->Nat->StateT SortSt Sem (Option Nat):=sortPriv% PySem.Builtin.gallop
def Fy:Array Keyed->Array Keyed->StateT SortSt Sem (Array Keyed):=sortPriv% PySem.Builtin.mergeLo
def Fz:Array Keyed->Array Keyed->StateT SortSt Sem (Array Keyed):=sortPriv% PySem.Builtin.mergeHi
noncomputable abbrev kn(p:Keyed):Int:=numOf p.1
def IK(p:Keyed):Prop:=∃n t,p.1=.int n t
section
variable{prog:Program}{w:World}{A:Around}{E:Value->Shared->Prop}{s:Shared}
theorem yw{st:SortSt}{x y:Keyed}{Q:Option Bool->SortSt->Prop}(hk:kindOf st=oneType')(hx:IK x)(hy:IK y)(h:Q (some (decide (kn x<kn y))) st) :
  wpS (model prog w) A E s (lt' x y) Q st:=by
 obtain⟨a,t,ha⟩:=hx;obtain⟨b,u,hb⟩:=hy;rw[lt'_eq];refine az (mD ?_);rw[hk,keyLt'_oneType,ha,hb];refine az (pb (Lg (oneLt_int ⟨rfl,?_⟩)));have:kn x=a/\kn y=b:=by unfold kn;rw[ha,hb];exact⟨rfl,rfl⟩
 rw[this.1,this.2] at h;exact aD h
theorem w9{st:SortSt}{xs:Array Keyed}{i:Nat}{p:Keyed}{Q:Keyed->SortSt->Prop}(h1:xs[i]?=some p)(h:Q p st):wpS (model prog w) A E s (elem' xs i) Q st:=by
 rw[elem'_eq,h1];exact aD h
theorem f7{M:Model}{σ α:Type}{c:Prop}[Decidable c]{x y:StateT σ Sem α}{Q:α->σ->Prop}{st:σ}(h1:c->wpS M A E s x Q st)(h2:¬c->wpS M A E s y Q st):wpS M A E s (if c then x else y) Q st:=by
 by_cases h:c
 ·rw[aJ h];exact h1 h
 ·rw[aC h];exact h2 h
def fH(left:Bool)(key p:Keyed):Bool:=if left then decide (kn p<kn key) else !decide (kn key<kn p)
theorem yF{st:SortSt}{left:Bool}{key p:Keyed}{arr:Array Keyed}{i:Nat}{Q:Option Bool->SortSt->Prop}(hk:kindOf st=oneType')(gh:IK key)(hp:arr[i]?=some p)(hi:IK p)(h:Q (some (fH left key p)) st) :
  wpS (model prog w) A E s (elem' arr i >>= λx=>if left=true then lt' x key else lt' key x >>= λr=>pure (r.map λb=>!b)) Q st:=by
 refine az (w9 hp ?_);cases left
 ·exact az (yw hk gh hi (aD h))
 ·exact yw hk hi gh h
theorem PN{st:SortSt}{left:Bool}{key:Keyed}{arr:Array Keyed}{base n hint:Nat}{f:Nat->Keyed}{Q:Option Nat->SortSt->Prop}(hk:kindOf st=oneType')(gh:IK key)(hf:∀i,i<n->arr[base+i]?=some (f i)/\IK (f i))(hm:∀i j,i<=j->j<n->fH left key (f j)=true->fH left key (f i)=true)(hh:hint<n)(h:∀k,k<=n->(∀i,i<k->fH left key (f i)=true)->(∀i,k<=i->i<n->fH left key (f i)=false)->Q (some k) st):wpS (model prog w) A E s (Bu left key arr base n hint) Q st:=by
 have nZ:∀i j,i<=j->j<n->fH left key (f i)=false->fH left key (f j)=false:=λi j a b c=>by
  cases e:fH left key (f j) with
  |false=>rfl
  |true=>rw[hm i j a b e] at c;exact absurd c (by decide)
 unfold Bu;refine az ?_;refine yF hk gh (hf hint hh).1 (hf hint hh).2 ?_;have last:∀lo hi:Nat,lo<=hi->hi<=n->(∀i,i<lo->fH left key (f i)=true)->(∀i,hi<=i->i<n->fH left key (f i)=false)->∀(F:Nat->Option (Option Nat)×Nat×Nat->StateT SortSt Sem (ForInStep (Option (Option Nat)×Nat×Nat))),
   (F=λ_ c=>if c.2.1 >= c.2.2 then pure (.done (none,c.2.1,c.2.2)) else (elem' arr (base + (c.2.1 + (c.2.2 - c.2.1) / 2)) >>= λx=>if left=true then lt' x key else lt' key x >>= λr=>pure (r.map λb=>!b)) >>= λr=>match r with
    |some more=>if more=true then pure (.yield (none,c.2.1+(c.2.2-c.2.1) / 2+1,c.2.2)) else pure (.yield (none,c.2.1,c.2.1+(c.2.2-c.2.1) / 2))
    | x=>pure (.done (some none,c.2.1,c.2.2))) ->
   wpS (model prog w) A E s (forIn [0:n] (none,lo,hi) F) (λc aX=>aX=st/\c.1=none/\Q (some c.2.2) st) st:=by
  intro lo hi h1 h2 h3 h4 F e;subst e;refine dC (I:=λx c aX=>aX=st/\c.1=none/\c.2.1<=c.2.2/\c.2.2<=n/\c.2.2-c.2.1<=n-x/\(∀i,i<c.2.1->fH left key (f i)=true)/\(∀i,c.2.2<=i->i<n->fH left key (f i)=false)) ?_ ?_ ⟨rfl,rfl,h1,h2,by show hi-lo<=_;omega,h3,h4⟩
  ·rintro x ⟨c1,l,r⟩ aX _ hx ⟨rfl,rfl,q1,q2,q3,q4,q5⟩;dsimp only at q1 q2 q3 q4 q5 ⊢;by_cases jE:l>=r
   ·rw[aJ jE];have:l=r:=by omega
    subst this;exact aD ⟨rfl,rfl,h l q2 q4 q5⟩
   ·rw[aC jE];have nY:l+(r-l) / 2<n:=by omega
    refine az (yF hk gh (hf _ nY).1 (hf _ nY).2 ?_);cases e:fH left key (f (l+(r-l) / 2)) with
    |true=>exact aD ⟨rfl,rfl,by dsimp only;omega,q2,by dsimp only;omega,λi hi=>hm i _ (Nat.le_of_lt_succ hi) nY e,q5⟩
    |false=>exact aD ⟨rfl,rfl,by dsimp only;omega,by dsimp only;omega,by dsimp only;omega,q4,λi hi hn=>nZ _ i hi hn e⟩
  ·rintro⟨c1,l,r⟩ aX ⟨rfl,rfl,q1,q2,q3,q4,q5⟩;dsimp only at q1 q2 q3 q4 q5;have:l=r:=by omega
   subst this;exact⟨rfl,rfl,h l q2 q4 q5⟩
 cases e0:fH left key (f hint) with
 |true =>
  refine az (wpS_mono (dC (I:=λx (c:Option (Option Nat) × Nat × Nat) aX=>aX=st/\c.1=none/\c.2.1 < c.2.2/\hint + c.2.1 < n/\x < c.2.2/\fH left key (f (hint + c.2.1))=true)
   (Q:=λc aX=>aX=st/\c.1=none/\c.2.1 < c.2.2/\hint + c.2.1 < n/\fH left key (f (hint + c.2.1))=true/\(c.2.2 >= n - hint \/ fH left key (f (hint + c.2.2))=false)) ?_ ?_ ⟨rfl,rfl,by decide,hh,by decide,e0⟩) ?_)
  ·rintro x ⟨c1,l,r⟩ aX _ hx ⟨rfl,rfl,q1,q2,q3,q4⟩;dsimp only at q1 q2 q3 q4 ⊢;by_cases jE:r>=n-hint
   ·rw[aJ jE];exact aD ⟨rfl,rfl,q1,q2,q4,.inl jE⟩
   ·rw[aC jE];have nY:hint+r<n:=by omega
    refine az (yF hk gh (hf _ nY).1 (hf _ nY).2 ?_);cases e:fH left key (f (hint+r)) with
    |true=>exact aD ⟨rfl,rfl,by show r<2*r+1;omega,nY,by show x+1<2*r+1;omega,e⟩
    |false=>exact aD ⟨rfl,rfl,q1,q2,q4,.inr e⟩
  ·rintro⟨c1,l,r⟩ aX ⟨rfl,rfl,q1,q2,q3,q4⟩;dsimp only at q1 q2 q3 q4;exact⟨rfl,rfl,q1,q2,q4,.inl (by show r>=_;omega)⟩
  ·rintro⟨c1,l,r⟩ aX ⟨rfl,rfl,q1,q2,q3,q4⟩;dsimp only at q1 q2 q3 q4 ⊢;refine az (wpS_mono (last (hint+l+1) (hint+min r (n-hint)) (by omega) (by omega) (λi hi=>hm i _ (Nat.le_of_lt_succ hi) q2 q3) ?_ _ rfl) ?_)
   ·intro i h1 h2;rcases q4 with q4|q4
    ·omega
    ·exact nZ (hint+r) i (by omega) h2 q4
   ·rintro⟨c1,l,r⟩ aX ⟨rfl,rfl,q⟩;exact aD q
 |false =>
  refine az (wpS_mono (dC (I:=λx (c:Option (Option Nat) × Nat × Nat) aX=>aX=st/\c.1=none/\c.2.1 < c.2.2/\c.2.1 <= hint/\x < c.2.2/\fH left key (f (hint - c.2.1))=false)
   (Q:=λc aX=>aX=st/\c.1=none/\c.2.1 < c.2.2/\c.2.1 <= hint/\fH left key (f (hint - c.2.1))=false/\(c.2.2 >= hint + 1 \/ fH left key (f (hint - c.2.2))=true)) ?_ ?_ ⟨rfl,rfl,by decide,cB _,by decide,e0⟩) ?_)
  ·rintro x ⟨c1,l,r⟩ aX _ hx ⟨rfl,rfl,q1,q2,q3,q4⟩;dsimp only at q1 q2 q3 q4 ⊢;by_cases jE:r>=hint+1
   ·rw[aJ jE];exact aD ⟨rfl,rfl,q1,q2,q4,.inl jE⟩
   ·rw[aC jE];have nY:hint-r<n:=by omega
    refine az (yF hk gh (hf _ nY).1 (hf _ nY).2 ?_);cases e:fH left key (f (hint-r)) with
    |true=>exact aD ⟨rfl,rfl,q1,q2,q4,.inr e⟩
    |false=>exact aD ⟨rfl,rfl,by show r<2*r+1;omega,by show r<=hint;omega,by show x+1<2*r+1;omega,e⟩
  ·rintro⟨c1,l,r⟩ aX ⟨rfl,rfl,q1,q2,q3,q4⟩;dsimp only at q1 q2 q3 q4;exact⟨rfl,rfl,q1,q2,q4,.inl (by show r>=_;omega)⟩
  ·rintro⟨c1,l,r⟩ aX ⟨rfl,rfl,q1,q2,q3,q4⟩;dsimp only at q1 q2 q3 q4 ⊢;refine az (wpS_mono (last (hint+1-min r (hint+1)) (hint-l) (by omega) (by omega) ?_ (λi hi hn=>nZ _ i hi hn q3) _ rfl) ?_)
   ·intro i h1;rcases q4 with q4|q4
    ·omega
    ·exact hm i (hint-r) (by omega) (by omega) q4
   ·rintro⟨c1,l,r⟩ aX ⟨rfl,rfl,q⟩;exact aD q
theorem a62{left:Bool}{key p q:Keyed}(h:kn p<=kn q)(hq:fH left key q=true):fH left key p=true:=by
 unfold fH at hq ⊢;cases left
 ·simp only[Bool.false_eq_true,if_false,Bool.not_eq_true',decide_eq_false_iff_not] at hq ⊢;omega
 ·simp only[if_true,decide_eq_true_eq] at hq ⊢;omega
theorem tO{st:SortSt}{left:Bool}{key:Keyed}{xs:Array Keyed}{base n hint:Nat}{Q:Option Nat->SortSt->Prop}(hk:kindOf st=oneType')(gh:IK key)(gN:∀p∈xs.toList,IK p)(hs:∀i j (hj:j<xs.size) (hX:i<=j),base<=i->j<base+n->kn xs[i]<=kn xs[j])(hn:base+n<=xs.size)(hh:hint<n)(h:∀k,k<=n->(∀p∈(xs.toList.drop base).take k,fH left key p=true)->(∀p∈(xs.toList.drop (base+k)).take (n-k),fH left key p=false)->Q (some k) st):wpS (model prog w) A E s (Bu left key xs base n hint) Q st:=by
 refine PN (f:=λt=>(xs[base+t]?).getD key) hk gh (λt ht=>?_) (λu v mn hv hq=>a62 ?_ hq) hh λk hk kh kT=>h k hk ?_ ?_
 ·rw[cw xs (base+t) (by omega)];exact⟨rfl,gN _ (by simp)⟩
 ·rw[cw xs (base+u) (by omega),cw xs (base+v) (by omega)];exact hs _ _ (by omega) (by omega) (by omega) (by omega)
 ·intro p hp;obtain⟨t,ht,rfl⟩:=bD.mp hp;simp only[List.length_take,List.length_drop,Array.length_toList] at ht;have:=kh t (by omega);rw[cw xs (base+t) (by omega)] at this;simpa using this
 ·intro p hp;obtain⟨t,ht,rfl⟩:=bD.mp hp;simp only[List.length_take,List.length_drop,Array.length_toList] at ht;have:=kT (k+t) (by omega) (by omega);rw[cw xs (base+(k+t)) (by omega)] at this;simpa[Nat.add_assoc] using this
end
end TS

namespace TS
open PySem PyProof.Rows
section
variable{r:Keyed->Keyed->Prop}{all o x y u v:List Keyed}
structure MI(r:Keyed->Keyed->Prop)(all o x y:List Keyed):Prop where
 pm:(o++(x++y)).Perm all
 so:o.Pairwise r
 sx:x.Pairwise r
 sy:y.Pairwise r
 cr:∀p∈o,∀q,q∈x\/q∈y->r p q
 hl:∀q∈y,∀z,x.getLast?=some z->r q z
theorem MI.x1(h:MI r all o (u++v) y)(c:∀p∈u,∀q∈y,r p q)(ne:v≠[]):MI r all (o++u) v y:=by
 obtain⟨a1,a2,a3⟩:=aR.mp h.sx;refine⟨by have:=h.pm;simpa[List.append_assoc] using this,aR.mpr ⟨h.so,a1,λp hp q hq=>h.cr p hp q (.inl (bw _ hq))⟩,a2,h.sy,λp hp q hq=>?_,λq hq z hz=>h.hl q hq z ?_⟩
 ·rcases aS.mp hp with hp|hp
  ·exact h.cr p hp q (hq.imp (aO _) id)
  ·rcases hq with hq|hq
   ·exact a3 p hp q hq
   ·exact c p hp q hq
 ·rw[List.getLast?_append,hz];rfl
theorem MI.y1(h:MI r all o y (u++v))(c:∀p∈u,∀q∈y,r p q):MI r all (o++u) y v:=by
 obtain⟨a1,a2,a3⟩:=aR.mp h.sy;refine⟨?_,aR.mpr ⟨h.so,a1,λp hp q hq=>h.cr p hp q (.inr (bw _ hq))⟩,h.sx,a2,λp hp q hq=>?_,λq hq z hz=>h.hl q (aO _ hq) z hz⟩
 ·refine List.Perm.trans ?_ h.pm;rw[bL];refine dZ _ ?_;rw[<- bL,<- bL];exact fA _ jh
 ·rcases aS.mp hp with hp|hp
  ·exact h.cr p hp q (hq.imp id (aO _))
  ·rcases hq with hq|hq
   ·exact c p hp q hq
   ·exact a3 p hp q hq
def Fn(r:Keyed->Keyed->Prop)(all z:List Keyed):Prop:=z.Perm all/\z.Pairwise r
theorem MI.e1(h:MI r all o x []):Fn r all (o++x):=by
 refine⟨by have:=h.pm;simpa using this,aR.mpr ⟨h.so,h.sx,λp hp q hq=>h.cr p hp q (.inl hq)⟩⟩
theorem MI.e0(h:MI r all o x y)(c:∀p∈x,∀q∈y,r p q):Fn r all (o++(x++y)) :=
 ⟨h.pm,aR.mpr ⟨h.so,aR.mpr ⟨h.sx,h.sy,c⟩,λp hp q hq=>h.cr p hp q (aS.mp hq)⟩⟩
theorem MI.e2{z:Keyed}(h:MI r all o [z] y):Fn r all (o++(y++[z])):=by
 refine⟨List.Perm.trans (dZ _ jh) h.pm,aR.mpr ⟨h.so,aR.mpr ⟨h.sy,h.sx,λp hp q hq=>?_⟩,λp hp q hq=>?_⟩⟩
 ·rw[bf] at hq;subst hq;exact h.hl p hp q rfl
 ·exact h.cr p hp q ((aS.mp hq).symm)
theorem MI.len(h:MI r all o x y):o.length+x.length+y.length=all.length:=by
 have:=h.pm.length_eq;simp only[List.length_append] at this;omega
theorem MI.hx{p q:Keyed}(h:MI r all o (p::x) y)(tr:∀a b c,r a b->r b c->r a c)(c:r q p):∀z∈p::x,r q z:=by
 intro z hz;rcases aE.mp hz with rfl|hz
 ·exact c
 ·exact tr _ _ _ c ((fj.mp h.sx).1 z hz)
theorem MI.hy{p q:Keyed}(h:MI r all o y (p::x))(tr:∀a b c,r a b->r b c->r a c)(c:r q p):∀z∈p::x,r q z:=by
 intro z hz;rcases aE.mp hz with rfl|hz
 ·exact c
 ·exact tr _ _ _ c ((fj.mp h.sy).1 z hz)
def Sm(st aX:SortSt):Prop:=kindOf aX=kindOf st/\arrOf aX=arrOf st/\pendingOf aX=pendingOf st/\failedOf aX=failedOf st
theorem dc{xs:Array Keyed}{i:Nat}(h:i<xs.size):xs.toList.drop i=xs[i]::xs.toList.drop (i+1):=by
 rw[eR (by simpa using h)];simp
theorem ex(o':Array Keyed)(xs:Array Keyed)(i k:Nat):(o'++xs.extract i (i+k)).toList=o'.toList++(xs.toList.drop i).take k:=by
 rw[br,dA,List.extract_eq_drop_take,Nat.add_sub_cancel_left]
theorem dk(l:List Keyed)(i k:Nat):l.drop i=(l.drop i).take k++l.drop (i+k):=by
 rw[<- gC,bK]
theorem Ek{k p:Keyed}(h:fH false k p=true):kn p<=kn k:=by
 unfold fH at h;simp only[Bool.false_eq_true,if_false,Bool.not_eq_true',decide_eq_false_iff_not] at h;omega
theorem ym{k p:Keyed}(h:fH false k p=false):kn k<kn p:=by
 unfold fH at h;simpa using h
theorem zk{k p:Keyed}(h:fH true k p=true):kn p<kn k:=by
 unfold fH at h;simpa using h
theorem Du{k p:Keyed}(h:fH true k p=false):kn k<=kn p:=by
 unfold fH at h;simp only[if_true,decide_eq_false_iff_not] at h;omega
theorem dt{xs:Array Keyed}{i n:Nat}(h:xs.size-i<=n):(xs.toList.drop i).take n=xs.toList.drop i:=cW (by simp;omega)
end
section
variable{prog:Program}{w:World}{A:Around}{E:Value->Shared->Prop}{s:Shared}
def Vw:Nat->StateT SortSt Sem Unit:=sortPriv% PySem.Builtin.setMinGallop
theorem Sm.trans{a b c:SortSt}(h:Sm a b)(q:Sm b c):Sm a c:=⟨q.1.trans h.1,q.2.1.trans h.2.1,q.2.2.1.trans h.2.2.1,q.2.2.2.trans h.2.2.2⟩
theorem yz{st:SortSt}{g:Nat}{Q:Unit->SortSt->Prop}(h:∀aX,Sm st aX->Q () aX):wpS (model prog w) A E s (Vw g) Q st:=mB (h _ ⟨rfl,rfl,rfl,rfl⟩)
def fs{β σ:Type}(Q I:β->σ->Prop):ForInStep β->σ->Prop
 |.done c,st=>Q c st
 |.yield c,st=>I c st
theorem forR{M:Model}{σ β:Type}{a b:Nat}{f:Nat->β->StateT σ Sem (ForInStep β)}(I:Nat->β->σ->Prop){Q:β->σ->Prop}(hs:∀i c st,a<=i->i<b->I i c st->wpS M A E s (f i c) (fs Q (I (i+1))) st)(hd:∀c st,I (max a b) c st->Q c st){c:β}{st:σ}(h:I a c st):wpS M A E s (forIn [a:b] c f) Q st :=
 dC I (λi c st h1 h2 h3=>wpS_mono (hs i c st h1 h2 h3) λr aX hq=>by cases r<;>exact hq) hd h
noncomputable abbrev le(p q:Keyed):Prop:=kn p<=kn q
theorem yt:∀a b c,le a b->le b c->le a c:=λ_ _ _=>fB
theorem wL{xs:Array Keyed}(h:xs.toList.Pairwise le){u v:Nat}(hv:v<xs.size)(mn:u<=v):kn xs[u]<=kn xs[v]:=by
 by_cases e:u=v
 ·subst e;exact dM _
 ·have:=eP.mp h u v (by simp;omega) (by simpa using hv) (by omega);simpa using this
section
variable{st aX:SortSt}{a b o:Array Keyed}{i j n k:Nat}{p q:Keyed}
structure LI(st:SortSt)(a b:Array Keyed)(n:Nat)(o:Array Keyed)(i j:Nat)(aX:SortSt):Prop where
 sm:Sm st aX
 mi:MI le (a.toList++b.toList) o.toList (a.toList.drop i) (b.toList.drop j)
 hi:i+1<a.size
 hj:j<b.size
 ho:n<o.size
theorem dq{xs:Array Keyed}{i:Nat}{p:Keyed}(h:xs[i]?=some p):xs.toList.drop i=p::xs.toList.drop (i+1):=by
 obtain⟨hi,rfl⟩:=oq.mp h;exact dc hi
theorem dn{xs:Array Keyed}{i:Nat}(h:xs.size<=i):xs.toList.drop i=[]:=uj (by simpa using h)
theorem tH(xs:Array Keyed)(i:Nat):(xs.extract i xs.size).toList=xs.toList.drop i:=by
 rw[dA,List.extract_eq_drop_take,dt (av _)]
theorem JI{xs:Array Keyed}{i:Nat}(h:i<xs.size):xs.toList.drop i≠[]:=by rw[dc h];exact List.cons_ne_nil _ _
theorem fD(hm:MI le (a.toList++b.toList) o.toList (a.toList.drop i) (b.toList.drop j))(h:b.size<=j):Fn le (a.toList++b.toList) (o++a.extract i a.size++b.extract j b.size).toList:=by
 rw[br,br,tH,tH,dn h,de];rw[dn h] at hm;exact hm.e1
theorem fL(hm:MI le (a.toList++b.toList) o.toList (a.toList.drop i) (b.toList.drop j))(h:i+1=a.size):Fn le (a.toList++b.toList) (o++b.extract j b.size++a.extract i a.size).toList:=by
 have e:a.toList.drop i=[a[i]]:=by rw[dc (by omega),dn (by omega)]
 rw[br,br,tH,tH,bL,e];rw[e] at hm;exact hm.e2
theorem LI.y(h:LI st a b n o i j aX)(hp:a[i]?=some p)(hq:b[j]?=some q)(hc:kn q<=kn p) :
  (j+1=b.size->Fn le (a.toList++b.toList) (o.push q++a.extract i a.size++b.extract (j+1) b.size).toList)/\(¬j+1=b.size->LI st a b (n+1) (o.push q) i (j+1) aX):=by
 have hm:MI le (a.toList++b.toList) (o.push q).toList (a.toList.drop i) (b.toList.drop (j+1)):=by
  have hm:=h.mi;rw[dq hp] at hm ⊢;rw[dq hq] at hm;rw[dz];exact hm.y1 (u:=[q]) λu hu z hz=>by rw[bf] at hu;subst hu;exact hm.hx yt hc z hz
 have hj:=h.hj;exact⟨λe=>fD hm (fz e.symm),λe=>⟨h.sm,hm,h.hi,by omega,by rw[iZ];have:=h.ho;omega⟩⟩
theorem LI.x(h:LI st a b n o i j aX)(hp:a[i]?=some p)(hq:b[j]?=some q)(hc:kn p<=kn q) :
  (i+1+1=a.size->Fn le (a.toList++b.toList) (o.push p++b.extract j b.size++a.extract (i+1) a.size).toList)/\(¬i+1+1=a.size->LI st a b (n+1) (o.push p) (i+1) j aX):=by
 have hm:MI le (a.toList++b.toList) (o.push p).toList (a.toList.drop (i+1)) (b.toList.drop j):=by
  have hm:=h.mi;rw[dq hq] at hm ⊢;rw[dq hp] at hm;rw[dz];exact hm.x1 (u:=[p]) (λu hu z hz=>by rw[bf] at hu;subst hu;exact hm.hy yt hc z hz) (JI h.hi)
 have hi:=h.hi;exact⟨λe=>fL hm e,λe=>⟨h.sm,hm,by omega,h.hj,by rw[iZ];have:=h.ho;omega⟩⟩
theorem LI.gx(h:LI st a b n o i j aX)(hq:b[j]?=some q)(h1:k<=a.size-i)(h2:∀p∈(a.toList.drop i).take k,fH false q p=true)(h3:∀p∈(a.toList.drop (i+k)).take (a.size-i-k),fH false q p=false) :
  (i+k+1=a.size->Fn le (a.toList++b.toList) (o++a.extract i (i+k)++b.extract j b.size++a.extract (i+k) a.size).toList) /\
  (i+k=a.size->Fn le (a.toList++b.toList) (o++a.extract i (i+k)++a.extract (i+k) a.size++b.extract j b.size).toList) /\
  (¬i+k+1=a.size->¬i+k=a.size->LI st a b n (o++a.extract i (i+k)) (i+k) j aX)/\∀p,a[i+k]?=some p->kn q<=kn p:=by
 have hi:=h.hi;have XY:∀p∈(a.toList.drop i).take k,∀q∈b.toList.drop j,le p q:=λp hp q FT=>by
  have hm:=h.mi;rw[dq hq] at FT hm;exact hm.hy yt (Ek (h2 p hp)) q FT
 have M2:i+k<a.size->MI le (a.toList++b.toList) (o++a.extract i (i+k)).toList (a.toList.drop (i+k)) (b.toList.drop j):=λeA=>by
  have hm:=h.mi;rw[dk a.toList i k] at hm;rw[ex];exact hm.x1 XY (JI eA)
 refine⟨λe=>fL (M2 (by omega)) e,λe=>?_,λe1 e2=>⟨h.sm,M2 (by omega),by omega,h.hj,by rw[gX];have:=h.ho;omega⟩,λp hp=>cy (ym (h3 p ?_))⟩
 ·rw[br,br,ex,tH,tH,dn (fz e.symm),dt (by omega),de,bL];rw[dt (by omega)] at XY;exact h.mi.e0 XY
 ·rw[dt (by omega),dq hp];exact cO ..
theorem LI.gy(h:LI st a b n o i j aX)(hp:a[i]?=some p)(h1:k<=b.size-j)(h2:∀q∈(b.toList.drop j).take k,fH true p q=true)(h3:∀q∈(b.toList.drop (j+k)).take (b.size-j-k),fH true p q=false) :
  (j+k=b.size->Fn le (a.toList++b.toList) (o++b.extract j (j+k)++a.extract i a.size++b.extract (j+k) b.size).toList) /\
  (¬j+k=b.size->LI st a b n (o++b.extract j (j+k)) i (j+k) aX)/\∀q,b[j+k]?=some q->kn p<=kn q:=by
 have hj:=h.hj;have hm:MI le (a.toList++b.toList) (o++b.extract j (j+k)).toList (a.toList.drop i) (b.toList.drop (j+k)):=by
  have hm:=h.mi;rw[dk b.toList j k] at hm;rw[ex];refine hm.y1 λq hq z hz=>?_;rw[dq hp] at hz hm;exact hm.hx yt (cy (zk (h2 q hq))) z hz
 refine⟨λe=>fD hm (fz e.symm),λe=>⟨h.sm,hm,h.hi,by omega,by rw[gX];have:=h.ho;omega⟩,λq hq=>Du (h3 q ?_)⟩;rw[dt (by omega),dq hq];exact cO ..
theorem LI.ex(h:LI st a b n o i j aX)(gN:∀p∈a.toList++b.toList,IK p):∃p q,a[i]?=some p/\b[j]?=some q/\IK p/\IK q:=by
 have hi:=h.hi;have hj:=h.hj;exact⟨a[i],b[j],by simp,by simp,gN _ (bw _ (by simp)),gN _ (aO _ (by simp))⟩
theorem LI.uE(h:LI st a b n o i j aX){gL:SortSt}(q:Sm aX gL):LI st a b n o i j gL:=⟨h.sm.trans q,h.mi,h.hi,h.hj,h.ho⟩
theorem LI.wk(h:LI st a b n o i j aX){m:Nat}(hm:m<=n):LI st a b m o i j aX:=⟨h.sm,h.mi,h.hi,h.hj,cZ hm h.ho⟩
theorem LI.full(h:LI st a b (a.size+b.size) o i j aX):False:=by
 have h1:=h.mi.len;have h2:=h.ho;simp only[List.length_append,Array.length_toList] at h1;omega
def LR(st:SortSt)(a b:Array Keyed)(n:Nat)(Q:Array Keyed->SortSt->Prop)(r:Option (Array Keyed))(o:Array Keyed)(i j:Nat)(aX:SortSt):Prop:=match r with
 |some z=>Q z aX
 |none=>LI st a b n o i j aX
end
noncomputable abbrev nQ:Array Keyed->SortSt->Prop:=λ_ _=>False
theorem Qp{st:SortSt}{a b:Array Keyed}{Q:Array Keyed->SortSt->Prop}(hk:kindOf st=oneType')(gN:∀p∈a.toList++b.toList,IK p)(ha:0<a.size)(hb:0<b.size)(h0:MI le (a.toList++b.toList) [] a.toList b.toList)(hf:∀p∈a.toList,kn b[0]<=kn p)(h:∀z aX,Sm st aX->Fn le (a.toList++b.toList) z.toList->Q z aX):wpS (model prog w) A E s (Fy a b) Q st:=by
  have IA:∀p∈a.toList,IK p:=λp hp=>gN p (bw _ hp);have IB:∀p∈b.toList,IK p:=λp hp=>gN p (aO _ hp);have SA:∀x n u v (hv:v<a.size) (mn:u<=v),x<=u->v<x+n->kn a[u]<=kn a[v]:=λ_ _ u v hv mn _ _=>wL h0.sx hv mn;have SB:∀x n u v (hv:v<b.size) (mn:u<=v),x<=u->v<x+n->kn b[u]<=kn b[v]:=λ_ _ u v hv mn _ _=>wL h0.sy hv mn;have h1:MI le (a.toList++b.toList) (#[b[0]]:Array Keyed).toList (a.toList.drop 0) (b.toList.drop 1):=by
    have:b.toList=[b[0]]++b.toList.drop 1:=by have:=dc hb;simpa using this
    refine MI.y1 (o:=[]) (by rw[<- this];exact h0) ?_;intro p hp q hq;rw[bf] at hp;subst hp;exact hf q hq
  have s0:Sm st st:=⟨rfl,rfl,rfl,rfl⟩
  unfold Fy;refine az (pb (cX ⟨rfl,?_⟩));refine az (w9 (p:=b[0]) (by simp[hb]) ?_);refine f7 (λe=>aD (h _ st s0 (fD h1 (fz (eq_of_beq e).symm)))) λe=>?_;refine f7 (λe2=>aD (h _ st s0 (fL h1 (eq_of_beq e2)))) λe2=>?_;have e:¬1=b.size:=λz=>e (bz.mpr z);have e2:¬0+1=a.size:=λz=>e2 (bz.mpr z);refine az (mD ?_);refine az (wpS_mono (forR (I:=λn (c:Option (Array Keyed)×Array Keyed×Nat×Nat×Nat)=>LR st a b n nQ c.1 c.2.1 c.2.2.1 c.2.2.2.1) (Q:=λc=>LR st a b (a.size+b.size) Q c.1 c.2.1 c.2.2.1 c.2.2.2.1) ?_ ?_ (show LI st a b 0 #[b[0]] 0 1 st from⟨s0,h1,by omega,by omega,by simp⟩)) ?_)
  · rintro n ⟨c1,o,i,j,mg⟩ eJ _ hn hL;cases c1 with
    |some z=>exact hL.elim
    |none =>
    replace hL:LI st a b n o i j eJ:=hL
    refine az (wpS_mono (forR (I:=λx (c:Option (Array Keyed)×Array Keyed×Nat×Nat×Nat×Nat)=>LR st a b (n+x) nQ c.1 c.2.1 c.2.2.1 c.2.2.2.1) (Q:=λc=>LR st a b (n+1) Q c.1 c.2.1 c.2.2.1 c.2.2.2.1) ?_ ?_ hL) ?_)
    · rintro x ⟨c1,o,i,j,ac,bc⟩ eJ _ _ hL;cases c1 with
      |some z=>exact hL.elim
      |none =>
      replace hL:LI st a b (n+x) o i j eJ:=hL
      obtain⟨p,q,hp,hq,ip,iq⟩:=hL.ex gN;refine az (w9 hq (az (w9 hp (az (yw (hL.sm.1.trans hk) iq ip ?_)))));refine f7 (λhc=>az (w9 hq ?_)) (λhc=>az (w9 hp ?_))
      · have Y:=hL.y hp hq (cy (bh hc));refine f7 (λe=>aD (h _ _ hL.sm (Y.1 (eq_of_beq e)))) λe=>?_;have Z:=Y.2 λz=>e (bz.mpr z);exact f7 (λ_=>aD (Z.wk (by omega))) (λ_=>aD Z)
      · have Y:=hL.x hp hq (gD.mp λz=>hc (aA z));refine f7 (λe=>aD (h _ _ hL.sm (Y.1 (eq_of_beq e)))) λe=>?_;have Z:=Y.2 λz=>e (bz.mpr z);exact f7 (λ_=>aD (Z.wk (by omega))) (λ_=>aD Z)
    · rintro⟨c1,o,i,j,ac,bc⟩ eJ hL;cases c1 with
      |some z=>exact hL.elim
      |none=>exact LI.wk hL (by omega)
    · rintro⟨c1,o,i,j,ac,bc⟩ eJ hL;cases c1 with
      |some z=>exact aD hL
      |none =>
      replace hL:LI st a b (n+1) o i j eJ:=hL
      refine az (pb (cX ⟨rfl,?_⟩));refine az (wpS_mono (forR (I:=λx (c:Option (Array Keyed)×Array Keyed×Nat×Nat×Nat×Nat×Nat)=>LR st a b (n+1) nQ c.1 c.2.1 c.2.2.1 c.2.2.2.1) (Q:=λc=>LR st a b (n+1) Q c.1 c.2.1 c.2.2.1 c.2.2.2.1) ?_ ?_ hL) ?_)
      · rintro x ⟨c1,o,i,j,mg,ac,bc⟩ eJ _ _ hL;cases c1 with
        |some z=>exact hL.elim
        |none =>
        replace hL:LI st a b (n+1) o i j eJ:=hL
        lift_lets
        intro s1 out s2 ia s3 ib s4 Mo s5 XC TZ FL jp;have e1:o=out:=rfl;have e2:i=ia:=rfl;have e3:j=ib:=rfl;have e4:j+1=FL:=rfl
        clear_value out ia ib FL
        subst e1 e2 e3 e4;have J:∀u m,wpS (model prog w) A E s (jp u m) (fs (λc=>LR st a b (n+1) Q c.1 c.2.1 c.2.2.1 c.2.2.2.1) (λc=>LR st a b (n+1) nQ c.1 c.2.1 c.2.2.1 c.2.2.2.1)) eJ:=by
          intro u m;dsimp -zeta -zetaHave only[jp]
          clear_value jp
          refine az (yz (g:=m) λgL gA=>?_)
          replace hL:=hL.uE gA
          obtain⟨p,q,hp,hq,ip,iq⟩:=hL.ex gN;refine az (w9 hq ?_);refine az (tO (hL.sm.1.trans hk) iq IA (SA _ _) (by have:=hL.hi;omega) (by have:=hL.hi;omega) λk lB kh kT=>?_);have G:=hL.gx hq lB kh kT;clear lB kh kT hp ip;dsimp -zeta -zetaHave only
          lift_lets
          intro Dg oy zY ia2;have J2:∀u o i,LI st a b (n+1) o i j gL->(∀p,a[i]?=some p->kn q<=kn p)->wpS (model prog w) A E s (oy u o i) (fs (λc=>LR st a b (n+1) Q c.1 c.2.1 c.2.2.1 c.2.2.2.1) (λc=>LR st a b (n+1) nQ c.1 c.2.1 c.2.2.1 c.2.2.2.1)) gL:=by
            clear G hL;intro u o i hL hc;dsimp -zeta -zetaHave only[oy]
            clear_value oy Dg
            obtain⟨p,q2,hp,_,ip,_⟩:=hL.ex gN;have Y:=hL.y hp hq (hc p hp);refine az (w9 hq ?_);refine f7 (λe=>aD (h _ _ hL.sm (Y.1 (eq_of_beq e)))) λe=>?_;have Z:=Y.2 λz=>e (bz.mpr z);refine az (w9 hp ?_);refine az (tO (hL.sm.1.trans hk) ip IB (SB _ _) (by have:=Z.hj;omega) (by have:=Z.hj;omega) λk lB kh kT=>?_);have G:=Z.gy hp lB kh kT;clear lB kh kT Y e hc;dsimp -zeta -zetaHave only
            lift_lets
            intro TX qP zX ib3;have J3:∀u o j,LI st a b (n+1) o i j gL->(∀q,b[j]?=some q->kn p<=kn q)->wpS (model prog w) A E s (qP u o j) (fs (λc=>LR st a b (n+1) Q c.1 c.2.1 c.2.2.1 c.2.2.2.1) (λc=>LR st a b (n+1) nQ c.1 c.2.1 c.2.2.1 c.2.2.2.1)) gL:=by
              clear G Z hL hq;intro u o j hL hc;dsimp -zeta -zetaHave only[qP];obtain⟨p2,q,_,hq,_,_⟩:=hL.ex gN;have Y:=hL.x hp hq (hc q hq);refine az (w9 hp ?_);refine f7 (λe=>aD (h _ _ hL.sm (Y.1 (eq_of_beq e)))) λe=>?_;have Z:=Y.2 λz=>e (bz.mpr z);exact f7 (λ_=>aD (Z.wk (cL _))) (λ_=>aD (Z.wk (cL _)))
            clear_value qP
            refine f7 (λ_=>f7 (λe=>aD (h _ _ hL.sm (G.1 (eq_of_beq e)))) λe=>J3 _ _ _ ((G.2.1 λz=>e (bz.mpr z)).wk (cL _)) G.2.2) (λe=>J3 _ _ _ (Z.wk (cL _)) ?_);have e:k=0:=by omega
            subst e;exact G.2.2
          clear_value oy
          refine f7 (λ_=>f7 (λe=>aD (h _ _ hL.sm (G.1 (eq_of_beq e)))) λe=>f7 (λe2=>aD (h _ _ hL.sm (G.2.1 (eq_of_beq e2)))) λe2=>J2 _ _ _ (G.2.2.1 (λz=>e (bz.mpr z)) (λz=>e2 (bz.mpr z))) G.2.2.2) (λe=>J2 _ _ _ hL ?_);have e:k=0:=by omega
          subst e;exact G.2.2.2
        clear_value jp
        exact f7 (λ_=>J _ _) (λ_=>J _ _)
      · rintro⟨c1,o,i,j,mg,ac,bc⟩ eJ hL;cases c1 with
        |some z=>exact hL.elim
        |none=>exact hL
      · rintro⟨c1,o,i,j,mg,ac,bc⟩ eJ hL;cases c1 with
        |some z=>exact aD hL
        |none=>exact az (yz λgL gA=>aD (LI.uE hL gA))
  · rintro⟨c1,o,i,j,mg⟩ eJ hL;cases c1 with
    |some z=>exact hL.elim
    |none=>exact LI.wk hL (by omega)
  · rintro⟨c1,o,i,j,mg⟩ eJ hL;cases c1 with
    |some z=>exact aD hL
    |none=>exact(LI.full hL).elim
end
end TS

namespace TS
open PySem PyProof.Rows
section
variable{prog:Program}{w:World}{A:Around}{E:Value->Shared->Prop}{s:Shared}
noncomputable abbrev ge(p q:Keyed):Prop:=kn q<=kn p
theorem yp:∀a b c,ge a b->ge b c->ge a c:=λ_ _ _ h1 h2=>fB h2 h1
def rt(xs:Array Keyed)(n:Nat):List Keyed:=(xs.toList.take n).reverse
theorem DG{xs:Array Keyed}{n:Nat}(h:n<xs.size):rt xs (n+1)=xs[n]::rt xs n:=by
 unfold rt;rw[List.take_succ_eq_append_getElem (by simpa using h),EH];simp
theorem Jp{xs:Array Keyed}{n:Nat}{p:Keyed}(h:p∈rt xs n):p∈xs.toList:=dw (fK.mp h)
theorem BU(xs:Array Keyed){k n:Nat}(h:k<=n):rt xs n=((xs.toList.drop k).take (n-k)).reverse++rt xs k:=by
 unfold rt;rw[<- EH]
 congr 1
 have:=bK k (xs.toList.take n);rw[List.take_take,List.drop_take,Nat.min_eq_left h] at this;exact this.symm
theorem DH(o xs:Array Keyed)(k n:Nat):(o++(xs.extract k n).reverse).toList=o.toList++((xs.toList.drop k).take (n-k)).reverse:=by
 rw[br,fS,dA,List.extract_eq_drop_take]
theorem ua(xs:Array Keyed)(n:Nat):(xs.extract 0 n).toList=(rt xs n).reverse:=by
 rw[dA,List.extract_eq_drop_take];simp[rt]
theorem Fn.rev{all l:List Keyed}(h:Fn ge all l):Fn le all l.reverse:=⟨(lh l).trans h.1,ji.mpr h.2⟩
theorem OQ{xs:Array Keyed}{i:Nat}(h:0<i)(hi:i<xs.size):rt xs i≠[]:=by
 obtain⟨i,rfl⟩:∃m,i=m+1:=⟨i-1,by omega⟩
 rw[DG (by omega)];exact List.cons_ne_nil _ _
theorem wJ(xs:Array Keyed):rt xs xs.size=xs.toList.reverse:=by unfold rt;rw[cW (by simp)]
section
variable{st aX:SortSt}{a b o:Array Keyed}{na nb n t:Nat}{p q:Keyed}
theorem Y9{xs:Array Keyed}{n:Nat}{p:Keyed}(h0:0<n)(h:xs[n-1]?=some p):rt xs n=p::rt xs (n-1):=by
 obtain⟨n,rfl⟩:∃m,n=m+1:=⟨n-1,by omega⟩
 obtain⟨hi,rfl⟩:=oq.mp h;exact DG hi
theorem wg(xs:Array Keyed):rt xs 0=[]:=by simp[rt]
structure HI(st:SortSt)(a b:Array Keyed)(n:Nat)(na nb:Nat)(o:Array Keyed)(aX:SortSt):Prop where
 sm:Sm st aX
 mi:MI ge (a.toList++b.toList) o.toList (rt b nb) (rt a na)
 b1:1<nb
 b2:nb<=b.size
 a1:0<na
 a2:na<=a.size
 ho:n<o.size
theorem hD(hm:MI ge (a.toList++b.toList) o.toList (rt b nb) (rt a na))(h:na=0):Fn le (a.toList++b.toList) (a.extract 0 na++b.extract 0 nb++o.reverse).toList:=by
 subst h;rw[wg] at hm;rw[br,br,fS,ua,ua,wg];simpa using hm.e1.rev
theorem hL(hm:MI ge (a.toList++b.toList) o.toList (rt b nb) (rt a na))(h:nb=1)(hb:0<b.size):Fn le (a.toList++b.toList) (b.extract 0 nb++a.extract 0 na++o.reverse).toList:=by
 subst h;have e:rt b 1=[b[0]]:=by rw[DG hb,wg]
 rw[e] at hm;rw[br,br,fS,ua,ua,e];simpa using hm.e2.rev
theorem HI.y(h:HI st a b n na nb o aX)(hp:a[na-1]?=some p)(hq:b[nb-1]?=some q)(hc:kn q<=kn p) :
  (na-1=0->Fn le (a.toList++b.toList) (a.extract 0 (na-1)++b.extract 0 nb++(o.push p).reverse).toList)/\(¬na-1=0->HI st a b (n+1) (na-1) nb (o.push p) aX):=by
 have h1:=h.b1;have h2:=h.a2;have hm:MI ge (a.toList++b.toList) (o.push p).toList (rt b nb) (rt a (na-1)):=by
  have hm:=h.mi;rw[Y9 (by omega) hq] at hm ⊢;rw[Y9 h.a1 hp] at hm;rw[dz];exact hm.y1 (u:=[p]) λu hu z hz=>by rw[bf] at hu;subst hu;exact hm.hx yp hc z hz
 exact⟨λe=>hD hm e,λe=>⟨h.sm,hm,h1,h.b2,by omega,by omega,by rw[iZ];have:=h.ho;omega⟩⟩
theorem HI.x(h:HI st a b n na nb o aX)(hp:a[na-1]?=some p)(hq:b[nb-1]?=some q)(hc:kn p<=kn q) :
  (nb-1=1->Fn le (a.toList++b.toList) (b.extract 0 (nb-1)++a.extract 0 na++(o.push q).reverse).toList)/\(¬nb-1=1->HI st a b (n+1) na (nb-1) (o.push q) aX):=by
 have h1:=h.b1;have h2:=h.b2;have hm:MI ge (a.toList++b.toList) (o.push q).toList (rt b (nb-1)) (rt a na):=by
  have hm:=h.mi;rw[Y9 h.a1 hp] at hm ⊢;rw[Y9 (by omega) hq] at hm;rw[dz];exact hm.x1 (u:=[q]) (λu hu z hz=>by rw[bf] at hu;subst hu;exact hm.hy yp hc z hz) (OQ (by omega) (by omega))
 exact⟨λe=>hL hm e (by omega),λe=>⟨h.sm,hm,by omega,by omega,h.a1,h.a2,by rw[iZ];have:=h.ho;omega⟩⟩
theorem HI.gy(h:HI st a b n na nb o aX)(hq:b[nb-1]?=some q)(h1:t<=na)(h2:∀p∈(a.toList.drop 0).take t,fH false q p=true)(h3:∀p∈(a.toList.drop (0+t)).take (na-t),fH false q p=false) :
  (t=0->Fn le (a.toList++b.toList) (a.extract 0 t++b.extract 0 nb++(o++(a.extract t na).reverse).reverse).toList)/\(¬t=0->HI st a b n t nb (o++(a.extract t na).reverse) aX)/\∀p,0<t->a[t-1]?=some p->kn p<=kn q:=by
 have h4:=h.b1;have h5:=h.a2;rw[Nat.zero_add] at h3;have hm:MI ge (a.toList++b.toList) (o++(a.extract t na).reverse).toList (rt b nb) (rt a t):=by
  have hm:=h.mi;rw[BU a h1] at hm;rw[DH];refine hm.y1 λp hp z hz=>?_;rw[Y9 (by omega) hq] at hz hm;exact hm.hx yp (cy (ym (h3 p (fK.mp hp)))) z hz
 refine⟨λe=>hD hm e,λe=>⟨h.sm,hm,h4,h.b2,by omega,by omega,by rw[gX];have:=h.ho;omega⟩,λp h0 hp=>Ek (h2 p ?_)⟩;have:=Y9 h0 hp;exact fK.mp (show p∈rt a t by rw[this];exact cO ..)
theorem HI.gx(h:HI st a b n na nb o aX)(hp:a[na-1]?=some p)(h1:t<=nb)(h2:∀q∈(b.toList.drop 0).take t,fH true p q=true)(h3:∀q∈(b.toList.drop (0+t)).take (nb-t),fH true p q=false) :
  (t=1->Fn le (a.toList++b.toList) (b.extract 0 t++a.extract 0 na++(o++(b.extract t nb).reverse).reverse).toList)/\(t=0->Fn le (a.toList++b.toList) (a.extract 0 na++b.extract 0 t++(o++(b.extract t nb).reverse).reverse).toList) /\
  (¬t=1->¬t=0->HI st a b n na t (o++(b.extract t nb).reverse) aX)/\∀q,0<t->b[t-1]?=some q->kn q<=kn p:=by
 have h4:=h.b1;have h5:=h.b2;rw[Nat.zero_add] at h3;have Y2:∀p∈((b.toList.drop t).take (nb-t)).reverse,∀q∈rt a na,ge p q:=λq hq z hz=>by
  have hm:=h.mi;rw[Y9 h.a1 hp] at hz hm;exact hm.hy yp (Du (h3 q (fK.mp hq))) z hz
 have hm:0<t->MI ge (a.toList++b.toList) (o++(b.extract t nb).reverse).toList (rt b t) (rt a na):=λh0=>by
  have hm:=h.mi;rw[BU b h1] at hm;rw[DH];refine hm.x1 Y2 λe=>?_;have:=fx List.length e;simp only[rt,List.length_reverse,List.length_take,Array.length_toList,List.length_nil] at this;omega
 refine⟨λe=>hL (hm (by omega)) e (by omega),λe=>?_,λe1 e2=>⟨h.sm,hm (by omega),by omega,by omega,h.a1,h.a2,by rw[gX];have:=h.ho;omega⟩,λq h0 hq=>cy (zk (h2 q ?_))⟩
 ·subst e;have hm:=h.mi;rw[BU b h1,wg,de] at hm;have:=(hm.e0 Y2).rev;rw[br,br,fS,DH,ua,ua,wg];simpa[List.append_assoc] using this
 ·have:=Y9 h0 hq;exact fK.mp (show q∈rt b t by rw[this];exact cO ..)
theorem HI.ex(h:HI st a b n na nb o aX)(gN:∀p∈a.toList++b.toList,IK p):∃p q,a[na-1]?=some p/\b[nb-1]?=some q/\IK p/\IK q:=by
 have h1:=h.b1;have h2:=h.b2;have h3:=h.a1;have h4:=h.a2;have h5:na-1<a.size:=by omega
 have h6:nb-1<b.size:=by omega
 exact⟨a[na-1],b[nb-1],cw a (na-1) h5,cw b (nb-1) h6,gN _ (bw _ (by simp)),gN _ (aO _ (by simp))⟩
theorem HI.uE(h:HI st a b n na nb o aX){gL:SortSt}(q:Sm aX gL):HI st a b n na nb o gL:=⟨h.sm.trans q,h.mi,h.b1,h.b2,h.a1,h.a2,h.ho⟩
theorem HI.wk(h:HI st a b n na nb o aX){m:Nat}(hm:m<=n):HI st a b m na nb o aX:=⟨h.sm,h.mi,h.b1,h.b2,h.a1,h.a2,cZ hm h.ho⟩
theorem HI.full(h:HI st a b (a.size+b.size) na nb o aX):False:=by
 have h1:=h.mi.len;have h2:=h.ho;simp only[List.length_append,Array.length_toList] at h1;omega
def HR(st:SortSt)(a b:Array Keyed)(n:Nat)(Q:Array Keyed->SortSt->Prop)(r:Option (Array Keyed))(na nb:Nat)(o:Array Keyed)(aX:SortSt):Prop:=match r with
 |some z=>Q z aX
 |none=>HI st a b n na nb o aX
end
theorem Qo{st:SortSt}{a b:Array Keyed}{Q:Array Keyed->SortSt->Prop}(hk:kindOf st=oneType')(gN:∀p∈a.toList++b.toList,IK p)(ha:0<a.size)(hb:0<b.size)(sa:a.toList.Pairwise le)(sb:b.toList.Pairwise le)(h0:MI ge (a.toList++b.toList) [] (rt b b.size) (rt a a.size))(hf:∀p∈b.toList,kn p<=kn a[a.size-1])(h:∀z aX,Sm st aX->Fn le (a.toList++b.toList) z.toList->Q z aX):wpS (model prog w) A E s (Fz a b) Q st:=by
  have IA:∀p∈a.toList,IK p:=λp hp=>gN p (bw _ hp);have IB:∀p∈b.toList,IK p:=λp hp=>gN p (aO _ hp);have SA:∀x n u v (hv:v<a.size) (mn:u<=v),x<=u->v<x+n->kn a[u]<=kn a[v]:=λ_ _ u v hv mn _ _=>wL sa hv mn;have SB:∀x n u v (hv:v<b.size) (mn:u<=v),x<=u->v<x+n->kn b[u]<=kn b[v]:=λ_ _ u v hv mn _ _=>wL sb hv mn;have sV:a[a.size-1]?=some a[a.size-1]:=cw _ _ _;have h1:MI ge (a.toList++b.toList) (#[a[a.size-1]]:Array Keyed).toList (rt b b.size) (rt a (a.size-1)):=by
    rw[Y9 ha sV] at h0;refine MI.y1 (o:=[]) (u:=[a[a.size-1]]) h0 ?_;intro p hp q hq;rw[bf] at hp;subst hp;exact hf q (Jp hq)
  have s0:Sm st st:=⟨rfl,rfl,rfl,rfl⟩
  unfold Fz;refine az (pb (cX ⟨rfl,?_⟩));refine az (w9 sV ?_);refine f7 (λe=>aD (h _ st s0 (hD h1 (eq_of_beq e)))) λe=>?_;refine f7 (λe2=>aD (h _ st s0 (hL h1 (eq_of_beq e2) hb))) λe2=>?_;have e:¬a.size-1=0:=λz=>e (bz.mpr z);have e2:¬b.size=1:=λz=>e2 (bz.mpr z);refine az (mD ?_);refine az (wpS_mono (forR (I:=λn (c:Option (Array Keyed)×Nat×Nat×Array Keyed×Nat)=>HR st a b n nQ c.1 c.2.1 c.2.2.1 c.2.2.2.1) (Q:=λc=>HR st a b (a.size+b.size) Q c.1 c.2.1 c.2.2.1 c.2.2.2.1) ?_ ?_ (show HI st a b 0 (a.size-1) b.size #[a[a.size-1]] st from⟨s0,h1,by omega,by omega,by omega,by omega,by simp⟩)) ?_)
  · rintro n ⟨c1,na,nb,o,mg⟩ eJ _ hn hL;cases c1 with
    |some z=>exact hL.elim
    |none =>
    replace hL:HI st a b n na nb o eJ:=hL
    refine az (wpS_mono (forR (I:=λx (c:Option (Array Keyed)×Nat×Nat×Array Keyed×Nat×Nat)=>HR st a b (n+x) nQ c.1 c.2.1 c.2.2.1 c.2.2.2.1) (Q:=λc=>HR st a b (n+1) Q c.1 c.2.1 c.2.2.1 c.2.2.2.1) ?_ ?_ hL) ?_)
    · rintro x ⟨c1,na,nb,o,ac,bc⟩ eJ _ _ hL;cases c1 with
      |some z=>exact hL.elim
      |none =>
      replace hL:HI st a b (n+x) na nb o eJ:=hL
      obtain⟨p,q,hp,hq,ip,iq⟩:=hL.ex gN;refine az (w9 hq (az (w9 hp (az (yw (hL.sm.1.trans hk) iq ip ?_)))));refine f7 (λhc=>az (w9 hp ?_)) (λhc=>az (w9 hq ?_))
      · have Y:=hL.y hp hq (cy (bh hc));refine f7 (λe=>aD (h _ _ hL.sm (Y.1 (eq_of_beq e)))) λe=>?_;have Z:=Y.2 λz=>e (bz.mpr z);exact f7 (λ_=>aD (Z.wk (by omega))) (λ_=>aD Z)
      · have Y:=hL.x hp hq (gD.mp λz=>hc (aA z));refine f7 (λe=>aD (h _ _ hL.sm (Y.1 (eq_of_beq e)))) λe=>?_;have Z:=Y.2 λz=>e (bz.mpr z);exact f7 (λ_=>aD (Z.wk (by omega))) (λ_=>aD Z)
    · rintro⟨c1,na,nb,o,ac,bc⟩ eJ hL;cases c1 with
      |some z=>exact hL.elim
      |none=>exact HI.wk hL (by omega)
    · rintro⟨c1,na,nb,o,ac,bc⟩ eJ hL;cases c1 with
      |some z=>exact aD hL
      |none =>
      replace hL:HI st a b (n+1) na nb o eJ:=hL
      refine az (pb (cX ⟨rfl,?_⟩));refine az (wpS_mono (forR (I:=λx (c:Option (Array Keyed)×Nat×Nat×Array Keyed×Nat×Nat×Nat)=>HR st a b (n+1) nQ c.1 c.2.1 c.2.2.1 c.2.2.2.1) (Q:=λc=>HR st a b (n+1) Q c.1 c.2.1 c.2.2.1 c.2.2.2.1) ?_ ?_ hL) ?_)
      · rintro x ⟨c1,na,nb,o,mg,ac,bc⟩ eJ _ _ hL;cases c1 with
        |some z=>exact hL.elim
        |none =>
        replace hL:HI st a b (n+1) na nb o eJ:=hL
        lift_lets
        intro s1 Fv s2 Fu s3 out s4 Mo s5 XC TZ Ft jp;have e1:na=Fv:=rfl;have e2:nb=Fu:=rfl;have e3:o=out:=rfl;have e4:nb-1=Ft:=rfl
        clear_value Fv Fu out Ft
        subst e1 e2 e3 e4;have J:∀u m,wpS (model prog w) A E s (jp u m) (fs (λc=>HR st a b (n+1) Q c.1 c.2.1 c.2.2.1 c.2.2.2.1) (λc=>HR st a b (n+1) nQ c.1 c.2.1 c.2.2.1 c.2.2.2.1)) eJ:=by
          intro u m;dsimp -zeta -zetaHave only[jp]
          clear_value jp
          refine az (yz (g:=m) λgL gA=>?_)
          replace hL:=hL.uE gA
          obtain⟨p,q,hp,hq,ip,iq⟩:=hL.ex gN;refine az (w9 hq ?_);refine az (tO (hL.sm.1.trans hk) iq IA (SA _ _) (by have:=hL.a2;omega) (by have:=hL.a1;omega) λk lB kh kT=>?_);have G:=hL.gy hq lB kh kT;clear kh kT hp ip;dsimp -zeta -zetaHave only
          lift_lets
          intro k2 Dg oy zY na2;have J2:∀u na o,HI st a b (n+1) na nb o gL->(∀p,0<na->a[na-1]?=some p->kn p<=kn q)->wpS (model prog w) A E s (oy u na o) (fs (λc=>HR st a b (n+1) Q c.1 c.2.1 c.2.2.1 c.2.2.2.1) (λc=>HR st a b (n+1) nQ c.1 c.2.1 c.2.2.1 c.2.2.2.1)) gL:=by
            clear G hL;intro u na o hL hc;dsimp -zeta -zetaHave only[oy]
            clear_value oy Dg
            obtain⟨p,q2,hp,_,ip,_⟩:=hL.ex gN;have Y:=hL.x hp hq (hc p hL.a1 hp);refine az (w9 hq ?_);refine f7 (λe=>aD (h _ _ hL.sm (Y.1 (eq_of_beq e)))) λe=>?_;have Z:=Y.2 λz=>e (bz.mpr z);refine az (w9 hp ?_);refine az (tO (hL.sm.1.trans hk) ip IB (SB _ _) (by have:=Z.b2;omega) (by have:=Z.b1;omega) λk lB kh kT=>?_);have G:=Z.gx hp lB kh kT;clear kh kT Y e hc;dsimp -zeta -zetaHave only
            lift_lets
            intro k3 TX qP zX nb3;have J3:∀u nb o,HI st a b (n+1) na nb o gL->(∀q,0<nb->b[nb-1]?=some q->kn q<=kn p)->wpS (model prog w) A E s (qP u nb o) (fs (λc=>HR st a b (n+1) Q c.1 c.2.1 c.2.2.1 c.2.2.2.1) (λc=>HR st a b (n+1) nQ c.1 c.2.1 c.2.2.1 c.2.2.2.1)) gL:=by
              clear G Z hL hq;intro u nb o hL hc;dsimp -zeta -zetaHave only[qP];obtain⟨p2,q,_,hq,_,_⟩:=hL.ex gN;have Y:=hL.y hp hq (hc q (by have:=hL.b1;omega) hq);refine az (w9 hp ?_);refine f7 (λe=>aD (h _ _ hL.sm (Y.1 (eq_of_beq e)))) λe=>?_;have Z:=Y.2 λz=>e (bz.mpr z);exact f7 (λ_=>aD (Z.wk (cL _))) (λ_=>aD (Z.wk (cL _)))
            clear_value qP
            refine f7 (λ_=>f7 (λe=>aD (h _ _ hL.sm (G.1 (eq_of_beq e)))) λe=>f7 (λe2=>aD (h _ _ hL.sm (G.2.1 (eq_of_beq e2)))) λe2=>J3 _ _ _ ((G.2.2.1 (λz=>e (bz.mpr z)) (λz=>e2 (bz.mpr z))).wk (cL _)) G.2.2.2) (λe=>J3 _ _ _ (Z.wk (cL _)) ?_);have e:k=nb-1:=by have e:¬nb-1-k>0:=e;omega
            subst e;exact G.2.2.2
          clear_value oy
          refine f7 (λ_=>f7 (λe=>aD (h _ _ hL.sm (G.1 (eq_of_beq e)))) λe=>J2 _ _ _ (G.2.1 (λz=>e (bz.mpr z))) G.2.2) (λe=>J2 _ _ _ hL ?_);have e:k=na:=by have e:¬na-k>0:=e;omega
          subst e;exact G.2.2
        clear_value jp
        exact f7 (λ_=>J _ _) (λ_=>J _ _)
      · rintro⟨c1,na,nb,o,mg,ac,bc⟩ eJ hL;cases c1 with
        |some z=>exact hL.elim
        |none=>exact hL
      · rintro⟨c1,na,nb,o,mg,ac,bc⟩ eJ hL;cases c1 with
        |some z=>exact aD hL
        |none=>exact az (yz λgL gA=>aD (HI.uE hL gA))
  · rintro⟨c1,na,nb,o,mg⟩ eJ hL;cases c1 with
    |some z=>exact hL.elim
    |none=>exact HI.wk hL (by omega)
  · rintro⟨c1,na,nb,o,mg⟩ eJ hL;cases c1 with
    |some z=>exact aD hL
    |none=>exact(HI.full hL).elim
end
end TS

namespace TS
open PySem PyProof.Rows
def seg(l:List Keyed)(s n:Nat):List Keyed:=(l.drop s).take n
theorem A8{l:List Keyed}{s n:Nat}(h:s+n<=l.length):(seg l s n).length=n:=by simp[seg];omega
theorem V5(l:List Keyed)(s n k:Nat):(seg l s n)[k]?=if k<n then l[s+k]? else none:=by
 unfold seg;rw[Ln];split<;>simp
theorem Cv(l:List Keyed)(s n m:Nat):seg l s (n+m)=seg l s n++seg l (s+n) m:=by
 unfold seg;rw[List.take_add,gC]
theorem De{l l':List Keyed}{s n:Nat}(h:∀k,s<=k->k<s+n->l'[k]?=l[k]?):seg l' s n=seg l s n:=by
 apply cI;intro k;rw[V5,V5];by_cases hk:k<n
 ·rw[aJ hk,aJ hk];exact h _ (by omega) (by omega)
 ·rw[aC hk,aC hk]
def put(l:List Keyed)(s:Nat)(m:List Keyed):List Keyed:=l.take s++(m++l.drop (s+m.length))
theorem L9{l:List Keyed}{s:Nat}{m:List Keyed}(h:s+m.length<=l.length)(k:Nat):(put l s m)[k]?=if s<=k/\k<s+m.length then m[k-s]? else l[k]?:=by
 unfold put;rw[zB,cY,Nat.min_eq_left (by omega)];by_cases h1:k<s
 ·rw[aJ h1,aC (by omega),Ln,aJ h1]
 ·rw[aC h1,zB];by_cases h2:k-s<m.length
  ·rw[aJ h2,aJ (by omega)]
  ·rw[aC h2,aC (by omega),List.getElem?_drop];congr 1;omega
theorem Tw{l:List Keyed}{s:Nat}{m:List Keyed}(h:s+m.length<=l.length):seg (put l s m) s m.length=m:=by
 apply cI;intro k;rw[V5,L9 h];by_cases hk:k<m.length
 ·rw[aJ hk,aJ (by omega)];congr 1;omega
 ·rw[aC hk,aV (by omega)]
theorem a18{l:List Keyed}{s:Nat}{m:List Keyed}(h:m.Perm (seg l s m.length)):(put l s m).Perm l:=by
 have e:l=l.take s++(seg l s m.length++l.drop (s+m.length)):=by
  unfold seg;rw[<- gC,bK,bK]
 conv=>rhs;rw[e]
 exact dZ _ (fA _ h)
theorem Ht:∀(m:List Keyed) (s j:Nat) (a:Array Keyed),s+j+m.length<=a.size->((m.zipIdx j).foldl (λa (p:Keyed×Nat)=>a.setIfInBounds (s+p.2) p.1) a).toList=put a.toList (s+j) m
 |[],s,j,a,h=>by simp[put]
 |p::m,s,j,a,h=>by
  rw[List.zipIdx_cons,mV,Ht m s (j+1) _ (by simp at h ⊢;omega)];have h1:s+j+(p::m).length<=a.toList.length:=by simpa using h
  have h2:s+(j+1)+m.length<=(a.setIfInBounds (s+j) p).toList.length:=by simp at h ⊢;omega
  apply cI;intro k;rw[L9 h1,L9 h2];simp only[Array.toList_setIfInBounds,List.getElem?_set,List.length_cons,Array.length_toList] at h ⊢;by_cases h3:s+(j+1)<=k/\k<s+(j+1)+m.length
  ·rw[aJ h3,aJ (by omega),show k-(s+j)=(k-(s+(j+1)))+1 by omega,sE]
  ·rw[aC h3];by_cases e:s+j=k
   ·subst e;rw[aJ rfl,aJ (by omega),aJ (by omega),Nat.sub_self];rfl
   ·rw[aC e,aC (by omega)]
theorem a17{l z:List Keyed}{s k r:Nat}(h:s+k+z.length+r<=l.length):put l (s+k) z=put l s (seg l s k++(z++seg l (s+k+z.length) r)):=by
 have e:(seg l s k++(z++seg l (s+k+z.length) r)).length=k+z.length+r:=by
  rw[bj,bj,A8 (by omega),A8 (by omega)];omega
 have e2:l.drop (s+k+z.length)=seg l (s+k+z.length) r++l.drop (s+(k+z.length+r)):=by
  unfold seg;rw[show s+(k+z.length+r)=s+k+z.length+r by omega,<- gC (i:=r),bK]
 unfold put;rw[e,List.take_add,e2];simp only[seg,List.append_assoc]
theorem SN{a1 a2 b1 b2 m:List Keyed}(sa:(a1++a2).Pairwise le)(sb:(b1++b2).Pairwise le)(hm:Fn le (a2++b1) m)(h1:∀p∈a1,∀q∈b1++b2,le p q)(h2:∀p∈a2,∀q∈b2,le p q):(a1++(m++b2)).Pairwise le:=by
 obtain⟨x1,x2,x3⟩:=aR.mp sa;obtain⟨y1,y2,y3⟩:=aR.mp sb;have mm:∀p∈m,p∈a2\/p∈b1:=λp hp=>aS.mp (hm.1.mem_iff.mp hp);refine aR.mpr ⟨x1,aR.mpr ⟨hm.2,y2,λp hp q hq=>?_⟩,λp hp q hq=>?_⟩
 ·rcases mm p hp with hp|hp
  ·exact h2 p hp q hq
  ·exact y3 p hp q hq
 ·rcases aS.mp hq with hq|hq
  ·rcases mm q hq with hq|hq
   ·exact x3 p hp q hq
   ·exact h1 p hp q (bw _ hq)
  ·exact h1 p hp q (aO _ hq)
def Ad:Nat->StateT SortSt Sem Bool:=sortPriv% PySem.Builtin.mergeAt
section
variable{prog:Program}{w:World}{A:Around}{E:Value->Shared->Prop}{s:Shared}
theorem a98{σ:Type}{M:Model}{x st:σ}{Q:PUnit->σ->Prop}(h:Q ⟨⟩ x):wpS M A E s (set x:StateT σ Sem PUnit) Q st:=by
 unfold wpS;rw[StateT.run_set];exact aj ⟨rfl,h⟩
theorem Qn{st:SortSt}{i sa na pw sb nb sO:Nat}{Q:Bool->SortSt->Prop}(hk:kindOf st=oneType')(Gf:failedOf st=none)(gN:∀p∈(arrOf st).toList,IK p)(e1:(pendingOf st)[i]?=some (sa,na,pw))(e2:(pendingOf st)[i+1]?=some (sb,nb,sO))(Og:sb=sa+na)(hn:sb+nb<=(arrOf st).size)(NR:0<na)(h0b:0<nb)(ha:(seg (arrOf st).toList sa na).Pairwise le)(hb:(seg (arrOf st).toList sb nb).Pairwise le)(h:∀ aX m,m.length=na + nb->m.Pairwise le->m.Perm (seg (arrOf st).toList sa (na + nb))->kindOf aX=oneType'->failedOf aX=none->(arrOf aX).toList=put (arrOf st).toList sa m ->
   pendingOf aX=((pendingOf st).setIfInBounds i (sa,na + nb,pw)).eraseIdxIfInBounds (i + 1)->Q true aX):wpS (model prog w) A E s (Ad i) Q st:=by
 obtain⟨kd,X,pd,mg,fl⟩:=st;dsimp only[arrOf,kindOf,pendingOf,failedOf] at *;subst hk Gf;unfold Ad;refine az (mD ?_);rw[e1,e2];refine az (m:=set _) (a98 ?_);have hsz:X.toList.length=X.size:=by simp
 have tj:sb<X.size:=by omega
 refine az (w9 (p:=X[sb]) (cw _ sb tj) ?_);have IX:∀t (ht:t<X.size),IK X[t]:=λt ht=>gN _ (by simp);have xq:∀u n,u+n<=X.size->(seg X.toList u n).Pairwise le->∀i j (hj:j<X.size) (hX:i<=j),u<=i->j<u+n->kn X[i]<=kn X[j]:=by
  intro u n hun hp i j hj hX h1 h2;by_cases e:i=j
  ·subst e;exact dM _
  ·have l1:=A8 (l:=X.toList) (s:=u) (n:=n) (by omega);have:=eP.mp hp (i-u) (j-u) (by omega) (by omega) (by omega);simp only[seg,List.getElem_take,List.getElem_drop,show u+(i-u)=i by omega,show u+(j-u)=j by omega,Array.getElem_toList] at this;exact this
 refine az (tO (xs:=X) rfl (IX sb tj) gN (xq sa na (by omega) ha) (by omega) NR λk lB kh kT=>?_);have ea:seg X.toList sa na=seg X.toList sa k++seg X.toList (sa+k) (na-k):=by rw[<- Cv];congr 1;omega
 have vS:seg X.toList sa (na+nb)=seg X.toList sa na++seg X.toList sb nb:=by rw[Cv,Og]
 have jb:∀q∈seg X.toList sb nb,kn X[sb]<=kn q:=by
  intro q hq;obtain⟨t,ht,rfl⟩:=bD.mp hq;rw[A8 (by omega)] at ht;simp only[seg,List.getElem_take,List.getElem_drop,Array.getElem_toList];exact xq sb nb hn hb sb (sb+t) (by omega) (by omega) (by omega) (by omega)
 have X1:∀p∈seg X.toList sa k,∀q∈seg X.toList sb nb,le p q:=λp hp q hq=>fB (Ek (kh p hp)) (jb q hq);have keep:(∀p∈seg X.toList (sa+k) (na-k),∀q∈seg X.toList sb nb,le p q)->∀aX,kindOf aX=oneType'->failedOf aX=none->arrOf aX=X->pendingOf aX=(pd.setIfInBounds i (sa,na+nb,pw)).eraseIdxIfInBounds (i+1)->Q true aX:=by
  intro hc aX g1 g2 g3 g4;have l2:(seg X.toList sa (na+nb)).length=na+nb:=A8 (by omega);refine h aX (seg X.toList sa (na+nb)) l2 ?_ (jB _) g1 g2 ?_ g4
  ·rw[vS];refine aR.mpr ⟨ha,hb,λp hp q hq=>?_⟩;rw[ea] at hp;rcases aS.mp hp with hp|hp
   ·exact X1 p hp q hq
   ·exact hc p hp q hq
  ·show(arrOf aX).toList=_;rw[g3];unfold put;rw[l2];unfold seg;rw[<- gC,bK,bK]
 dsimp only;refine f7 (λhe=>?_) (λhe=>?_)
 ·have he:na-k=0:=by simpa using he
  refine aD (keep (λp hp=>?_) _ rfl rfl rfl rfl);rw[he] at hp;simp[seg] at hp
 have FX:0<na-k:=by simp at he;omega
 rw[show sa+k+(na-k)-1=sb-1 by omega];have sV:sb-1<X.size:=by omega
 refine az (w9 (p:=X[sb-1]) (cw X (sb-1) sV) ?_);refine az (tO (xs:=X) rfl (IX _ sV) gN (xq sb nb hn hb) hn (by omega) λt ht1 FP MA=>?_);have xU:∀p∈seg X.toList (sa+k) (na-k),kn p<=kn X[sb-1]:=by
  intro q hq;obtain⟨u,hu,rfl⟩:=bD.mp hq;rw[A8 (by omega)] at hu;simp only[seg,List.getElem_take,List.getElem_drop,Array.getElem_toList];exact xq sa na (by omega) ha (sa+k+u) (sb-1) sV (by omega) (by omega) (by omega)
 have eb:seg X.toList sb nb=seg X.toList sb t++seg X.toList (sb+t) (nb-t):=by rw[<- Cv];congr 1;omega
 have X2:∀p∈seg X.toList (sa+k) (na-k),∀q∈seg X.toList (sb+t) (nb-t),le p q:=λp hp q hq=>fB (xU p hp) (Du (MA q hq));dsimp only;refine f7 (λhe=>?_) (λhe=>?_)
 ·have he:t=0:=by simpa using he
  subst he;refine aD (keep (λp hp q hq=>?_) _ rfl rfl rfl rfl);exact X2 p hp q hq
 have ht:0<t:=by simp at he;omega
 have oQ:(X.extract (sa+k) sb).toList=seg X.toList (sa+k) (na-k):=by
  rw[dA,List.extract_eq_drop_take];unfold seg;congr 1;omega
 have oP:(X.extract sb (sb+t)).toList=seg X.toList sb t:=by
  rw[dA,List.extract_eq_drop_take];unfold seg;congr 1;omega
 rw[ea] at ha;rw[eb] at hb;have s1:=(aR.mp ha).2.1;have s2:=(aR.mp hb).1;have z1:(X.extract (sa+k) sb).size=na-k:=by simp;omega
 have z2:(X.extract sb (sb+t)).size=t:=by simp;omega
 have sub:∀u n p,p∈seg X.toList u n->IK p:=λu n p hp=>gN p (zA (dw hp));have FK:∀p∈(X.extract (sa+k) sb).toList++(X.extract sb (sb+t)).toList,IK p:=by
  rw[oQ,oP];intro p hp;rcases aS.mp hp with hp|hp
  ·exact sub _ _ p hp
  ·exact sub _ _ p hp
 have y0:∀h,kn ((X.extract sb (sb+t))[0]'h)=kn X[sb]:=λh=>by simp
 have xl:∀h,kn ((X.extract (sa+k) sb)[(X.extract (sa+k) sb).size-1]'h)=kn X[sb-1]:=λh=>by
  simp only[Array.getElem_extract];congr 2;omega
 have lst:∀z,(seg X.toList (sa+k) (na-k)).getLast?=some z->kn z=kn X[sb-1]:=by
  intro z hz;rw[List.getLast?_eq_getElem?,A8 (by omega),V5,aJ (by omega),show sa+k+(na-k-1)=sb-1 by omega,ak (by omega)] at hz;cases hz;simp
 refine f7 (λhc=>?_) (λhc=>?_);refine az (Qp rfl FK (by omega) (by omega) ⟨jB _,List.Pairwise.nil,by rw[oQ];exact s1,by rw[oP];exact s2,λp hp=>absurd hp lT,λq hq z hz=>?_⟩ (λp hp=>?_) λz aX hs hz=>?_)
 ·rw[oQ] at hz;rw[oP] at hq;show kn q<=kn z;rw[lst z hz];exact cy (zk (FP q hq))
 ·rw[oQ] at hp;rw[y0];exact cy (ym (kT p hp))
 rotate_left
 refine az (Qo rfl FK (by omega) (by omega) (by rw[oQ];exact s1) (by rw[oP];exact s2) ⟨?_,List.Pairwise.nil,?_,?_,λp hp=>absurd hp lT,λq hq z hz=>?_⟩ (λp hp=>?_) λz aX hs hz=>?_)
 ·rw[wJ,wJ,List.nil_append];exact(List.Perm.append (lh _) (lh _)).trans jh
 ·rw[wJ,oP];exact ji.mpr s2
 ·rw[wJ,oQ];exact ji.mpr s1
 ·have hq:=Jp hq;rw[oQ] at hq;rw[wJ,List.getLast?_reverse,oP,List.head?_eq_getElem?,V5,aJ ht,ak (by simp;omega)] at hz;cases hz;exact cy (by simpa using ym (kT q hq))
 ·rw[oP] at hp;rw[xl];exact cy (zk (FP p hp))
 all_goals
  refine az (mB (az (mD (aD ?_))));show Q (failedOf aX).isNone _;rw[hs.2.2.2];have hzl:z.toList.length=na-k+t:=by rw[hz.1.length_eq,bj,oQ,oP,A8 (by omega),A8 (by omega)]
  rw[oQ,oP] at hz;have hA:(seg X.toList sa k).length=k:=A8 (by omega);have hB:(seg X.toList (sb+t) (nb-t)).length=nb-t:=A8 (by omega);refine h _ (seg X.toList sa k++(z.toList++seg X.toList (sb+t) (nb-t))) (by rw[bj,bj,hA,hB];omega) (SN ha hb hz (by rw[<- eb];exact X1) X2) ?_ hs.1 hs.2.2.2 ?_ hs.2.2.1
  ·rw[vS,ea,eb,bL];refine dZ _ ?_;rw[<- bL];exact fA _ hz.1
  ·have:=Ht z.toList (sa+k) 0 (arrOf aX) (by rw[hs.2.1];show sa+k+0+_<=X.size;omega);refine Eq.trans this ?_;rw[hs.2.1];have:=a17 (l:=X.toList) (z:=z.toList) (s:=sa) (k:=k) (r:=nb-t) (by omega);rw[show sa+k+z.toList.length=sb+t by omega] at this;exact this
end
end TS

namespace TS
open PySem PyProof.Rows
structure Nr(st aX:SortSt)(lo hi:Nat):Prop where
 kd:kindOf aX=oneType'
 fl:failedOf aX=none
 pd:pendingOf aX=pendingOf st
 pm:(arrOf aX).Perm (arrOf st)
 out:∀k,k<lo\/hi<=k->(arrOf aX)[k]?=(arrOf st)[k]?
theorem Nr.arr{st aX:SortSt}{lo hi:Nat}(h:Nr st aX lo hi){xs:Array Keyed}(hp:xs.Perm (arrOf aX))(ho:∀k,k<lo\/hi<=k->xs[k]?=(arrOf aX)[k]?):Nr st (setArr aX xs) lo hi :=
 ⟨h.kd,h.fl,h.pd,hp.trans h.pm,λk hk=>(ho k hk).trans (h.out k hk)⟩
def SB(xs:Array Keyed)(lo m:Nat):Prop:=∀i j,lo<=i->i<=j->j<lo+m->K xs i<=K xs j
def ND(xs:Array Keyed)(lo m:Nat):Prop:=∀i j,lo<=i->i<=j->j<lo+m->K xs j<=K xs i
theorem SB.one(xs:Array Keyed)(lo:Nat):SB xs lo 1:=λi j a b c=>by
 have:i=j:=by omega
 subst this;exact dM _
theorem SB.more{xs:Array Keyed}{lo x:Nat}(h:SB xs lo x)(h0:0<x)(hc:¬K xs (lo+x)<K xs (lo+x-1)):SB xs lo (x+1):=by
 intro i j h1 h2 h3;by_cases hj:j<lo+x
 ·exact h i j h1 h2 hj
 ·have:j=lo+x:=by omega
  subst this;by_cases hi:i=lo+x
  ·subst hi;exact dM _
  ·exact fB (h i (lo+x-1) h1 (by omega) (by omega)) (gD.mp hc)
theorem ND.more{xs:Array Keyed}{lo x:Nat}(h:ND xs lo x)(h0:0<x)(hc:K xs (lo+x)<=K xs (lo+x-1)):ND xs lo (x+1):=by
 intro i j h1 h2 h3;by_cases hj:j<lo+x
 ·exact h i j h1 h2 hj
 ·have:j=lo+x:=by omega
  subst this;by_cases hi:i=lo+x
  ·subst hi;exact dM _
  ·exact fB hc (h i (lo+x-1) h1 (by omega) (by omega))
theorem ND.same{xs ys:Array Keyed}{lo m:Nat}(h:ND xs lo m)(hk:∀k,K ys k=K xs k):ND ys lo m:=λi j a b c=>by rw[hk,hk];exact h i j a b c
section
variable{prog:Program}{w:World}{A:Around}{E:Value->Shared->Prop}{s:Shared}
theorem GY{xs:Array Keyed}{i:Nat}(hi:i<xs.size)(hk:IK xs[i]):∃t q,xs[i]?=some (.int (K xs i) t,q):=by
 obtain⟨n,t,e⟩:=hk;refine⟨t,xs[i].2,?_⟩;have e2:xs[i]?=some xs[i]:=cw _ i hi;have e3:xs[i]=(.int n t,xs[i].2):=zx e rfl;unfold K;rw[e2,e3]
 rfl
theorem uV{st:SortSt}{i j:Nat}{Q:Option Bool->SortSt->Prop}(hk:kindOf st=oneType')(h0:∀p∈(arrOf st).toList,IK p)(hi:i<(arrOf st).size)(hj:j<(arrOf st).size)(h:Q (some (decide (K (arrOf st) i<K (arrOf st) j))) st) :
  wpS (model prog w) A E s (ltAt' i j) Q st:=by
 obtain⟨t,p,e1⟩:=GY hi (h0 _ (by simp));obtain⟨u,q,e2⟩:=GY hj (h0 _ (by simp));exact wpS_ltAt hk e1 e2 h
theorem Py{st:SortSt}{lo n ok:Nat}{Q:Bool->SortSt->Prop}(hk:kindOf st=oneType')(hf:failedOf st=none)(h0:∀p∈(arrOf st).toList,IK p)(hn:lo+n<=(arrOf st).size)(bX:ok<=n)(hs:SB (arrOf st) lo ok)(h:∀aX,Nr st aX lo (lo+n)->SB (arrOf aX) lo n->Q true aX):wpS (model prog w) A E s (binarySort' lo n ok) Q st:=by
 unfold binarySort';refine az (wpS_mono (dC (I:=λk (c:Option Bool × Unit) aX=>c=(none,())/\Nr st aX lo (lo + n)/\SB (arrOf aX) lo (min k n))
  (Q:=λc aX=>c=(none,())/\Nr st aX lo (lo + n)/\SB (arrOf aX) lo n) ?_ ?_ ⟨rfl,⟨hk,hf,rfl,mW _,λ_ _=>rfl⟩,?_⟩) ?_)
 ·rintro k c aX hak hkn ⟨rfl,hN,jP⟩;rw[show min k n=k by omega] at jP;have hsz:(arrOf aX).size=(arrOf st).size:=hN.pm.size_eq;have tG:∀p∈(arrOf aX).toList,IK p:=λp hp=>h0 p ((bS.mp hN.pm).mem_iff.mp hp);refine az (wpS_mono (dC (I:=λx (c:Option Bool × Nat × Nat) gF=>gF=aX/\c.1=none/\c.2.1 <= c.2.2/\c.2.2 <= k/\c.2.2 - c.2.1 <= k - x /\
    (∀ i,lo <= i->i < lo + c.2.1->K (arrOf aX) i <= K (arrOf aX) (lo + k))/\(∀ i,lo + c.2.2 <= i->i < lo + k->K (arrOf aX) (lo + k) < K (arrOf aX) i))
   (Q:=λc gF=>gF=aX/\c.1=none/\c.2.1<=k/\(∀i,lo<=i->i<lo+c.2.1->K (arrOf aX) i<=K (arrOf aX) (lo+k))/\(∀i,lo+c.2.1<=i->i<lo+k->K (arrOf aX) (lo+k)<K (arrOf aX) i)) ?_ ?_
   ⟨rfl,rfl,cB _,av _,av _,λi h1 h2=>absurd h2 (by dsimp only;omega),λi h1 h2=>absurd h2 (by dsimp only at h1;omega)⟩) ?_)
  ·rintro x ⟨c1,l,r⟩ gF _ hx ⟨rfl,rfl,q1,q2,q3,q4,q5⟩;dsimp only at q1 q2 q3 q4 q5;refine f7 (λjE=>?_) (λjE=>?_)
   ·have:l=r:=by dsimp only at jE;omega
    subst this;exact aD ⟨rfl,rfl,q2,q4,q5⟩
   ·have jE:l<r:=by dsimp only at jE;omega
    refine az (uV hN.kd tG (by rw[hsz];omega) (by rw[hsz];dsimp only;omega) ?_);refine f7 (λhc=>?_) (λhc=>?_)
    ·have hc:=bh hc;exact aD ⟨rfl,rfl,by dsimp only;omega,by dsimp only;omega,by dsimp only;omega,q4,λi h1 h2=>Int.lt_of_lt_of_le hc (jP _ _ (by omega) h1 h2)⟩
    ·have hc:=gD.mp λz=>hc (aA z);exact aD ⟨rfl,rfl,by dsimp only;omega,q2,by dsimp only;omega,λi h1 h2=>fB (jP i (lo+(l+r) / 2) h1 (by dsimp only at h2;omega) (by omega)) hc,q5⟩
  ·rintro⟨c1,l,r⟩ gF ⟨rfl,rfl,q1,q2,q3,q4,q5⟩;dsimp only at q1 q2 q3 q4 q5;have:l=r:=by omega
   subst this;exact⟨rfl,rfl,q2,q4,q5⟩
  ·rintro⟨c1,l,r⟩ gF ⟨rfl,rfl,q1,q2,q3⟩;dsimp only at q1 q2 q3 ⊢;have sW:lo+k<(arrOf gF).size:=by rw[hsz];omega
   refine az (mB (aD ⟨rfl,hN.arr (bubble_perm _ (lo+k) (lo+k-(lo+l))) (λt ht=>?_),?_⟩))
   ·show(bubble (arrOf gF) (lo+k) (lo+k-(lo+l)))[t]?=_;rw[getElem?_bubble sW _ (by omega),aC (by omega),aC (by omega)]
   ·rw[show min (k+1) n=k+1 by omega];intro i j h1 hX hj;show K (bubble (arrOf gF) (lo+k) (lo+k-(lo+l))) i<=K (bubble (arrOf gF) (lo+k) (lo+k-(lo+l))) j;rw[K_bubble sW (by omega),K_bubble sW (by omega),show lo+k-(lo+k-(lo+l))=lo+l by omega]
    repeat' split
    all_goals first
     |(exfalso;omega)
     |exact dM _
     |exact q2 _ (by omega) (by omega)
     |exact cy (q3 _ (by omega) (by omega))
     |exact jP _ _ (by omega) (by omega) (by omega)
 ·rintro c aX ⟨rfl,hN,jP⟩;refine⟨rfl,hN,?_⟩
  rwa [show min (max (max ok 1) n) n=n by omega] at jP
 ·intro i j h1 hX hj;by_cases e:ok=0
  ·have:i=j:=by omega
   subst this;exact dM _
  ·exact hs i j h1 hX (by omega)
 ·rintro c aX ⟨rfl,hN,jP⟩;exact aD (h aX hN jP)
theorem Nr.xD{st aX:SortSt}{lo hi i j:Nat}(h:Nr st aX lo hi)(h1:lo<=i)(h2:j<=hi)(h3:j<=(arrOf aX).size):Nr st (setArr aX (mirror (arrOf aX) i j ((j-i) / 2))) lo hi :=
 h.arr (mirror_perm _ _ _ _) λk hk=>by rw[getElem?_mirror_all h3,aC (by omega)]
theorem Rk{st:SortSt}{lo gf:Nat}{Q:Option Nat->SortSt->Prop}(hk:kindOf st=oneType')(hf:failedOf st=none)(h0:∀p∈(arrOf st).toList,IK p)(hn:lo+gf<=(arrOf st).size)(h1:1<=gf)(h:∀m aX,Nr st aX lo (lo+gf)->1<=m->m<=gf->SB (arrOf aX) lo m->Q (some m) aX):wpS (model prog w) A E s (countRun' lo gf) Q st:=by
 have asc:∀aX n,Nr st aX lo (lo+gf)->1<=n->n<=gf->SB (arrOf aX) lo n->∀(F:Nat->Option (Option Nat)×Nat->StateT SortSt Sem (ForInStep (Option (Option Nat)×Nat))),
   (F=λ_ c=>ltAt' (lo + c.2) (lo + c.2 - 1) >>= λr=>match r with
    |some b=>if b=true then pure (.done (none,c.2)) else pure (.yield (none,c.2+1))
    | x=>pure (.done (some none,c.2))) ->
   wpS (model prog w) A E s (forIn [n:gf] (none,n) F) (λc gF=>gF=aX/\c.1=none/\1<=c.2/\c.2<=gf/\SB (arrOf aX) lo c.2/\(c.2=gf\/K (arrOf aX) (lo+c.2)<K (arrOf aX) (lo+c.2-1))) aX:=by
  intro aX n hN h2 h3 hs F e;subst e;have hsz:(arrOf aX).size=(arrOf st).size:=hN.pm.size_eq;have tG:∀p∈(arrOf aX).toList,IK p:=λp hp=>h0 p ((bS.mp hN.pm).mem_iff.mp hp);refine dC (I:=λx c gF=>gF=aX/\c=(none,x)/\1<=x/\SB (arrOf aX) lo x) ?_ ?_ ⟨rfl,rfl,h2,hs⟩
  ·rintro x c gF Gq FO ⟨rfl,rfl,q1,q2⟩;refine az (uV hN.kd tG (by rw[hsz];dsimp only;omega) (by rw[hsz];dsimp only;omega) ?_);refine f7 (λhc=>?_) (λhc=>?_)
   ·exact aD ⟨rfl,rfl,q1,by dsimp only;omega,q2,.inr (bh hc)⟩
   ·exact aD ⟨rfl,rfl,by omega,q2.more (by omega) λz=>hc (aA z)⟩
  ·rintro c gF ⟨rfl,rfl,q1,q2⟩;rw[show max n gf=gf by omega] at q1 q2 ⊢;exact⟨rfl,rfl,q1,av _,q2,.inl rfl⟩
 have N0:Nr st st lo (lo+gf):=⟨hk,hf,rfl,mW _,λ_ _=>rfl⟩
 unfold countRun';refine az (wpS_mono (asc st 1 N0 (av _) h1 (SB.one _ _) _ rfl) ?_);rintro⟨c1,n⟩ eJ ⟨rfl,rfl,xM,mP,hs,FV⟩;dsimp only at xM mP hs FV ⊢;refine f7 (λhe=>aD (h n eJ N0 xM mP hs)) (λhe=>?_);have hnn:n<gf:=by simp at he;omega
 have eA:K (arrOf eJ) (lo+n)<K (arrOf eJ) (lo+n-1):=FV.resolve_left (by omega);refine f7 (λhg=>?_) (λhg=>?_);refine az (uV hk h0 (by omega) (by omega) ?_);refine f7 (λhc=>aD (h n eJ N0 xM mP hs)) (λhc=>?_);have hc:=gD.mp λz=>hc (aA z);have ki:∀k,lo<=k->k<lo+n->K (arrOf eJ) k=K (arrOf eJ) (lo+n-1):=by
  intro k lB kh;have a1:=hs lo k (av _) lB kh;have a2:=hs k (lo+n-1) lB (by omega) (by omega);omega
 refine az (wpS_reverse ?_);have hN:=N0.xD (i:=lo) (j:=lo+n) (av _) (by omega) (by omega);have hD:ND (arrOf (setArr eJ (mirror (arrOf eJ) lo (lo+n) ((lo+n-lo) / 2)))) lo (n+1):=by
  refine ND.more (x:=n) (ND.same (xs:=arrOf eJ) (λi j a b c=>?_) λk=>jI (by omega) ki k) (by omega) ?_
  ·rw[ki i a (by omega),ki j (by omega) c];exact dM _
  ·rw[jI (by omega) ki,jI (by omega) ki];exact cy eA
 generalize setArr eJ (mirror (arrOf eJ) lo (lo+n) ((lo+n-lo) / 2))=gL at hN hD ⊢
 rotate_left
 have Ay:n=1:=by omega
 subst Ay;have hN:=N0;have hD:ND (arrOf eJ) lo (1+1):=ND.more (x:=1) (λi j a b c=>by rw[show i=j by omega];exact dM _) (by decide) (cy eA)
 all_goals
  refine az (pb (cX ⟨rfl,?_⟩));refine az (wpS_mono (dC (I:=λx (c:Option (Option Nat) × Nat × Nat) aX=>c.1=none/\c.2.1=x/\Nr eJ aX lo (lo + gf)/\ND (arrOf aX) lo x/\c.2.2 + 1 <= x/\∀ i,lo + x - (c.2.2 + 1) <= i->i < lo + x->K (arrOf aX) i=K (arrOf aX) (lo + x - 1))
   (Q:=λc aX=>c.1=none/\1<=c.2.1/\c.2.1<=gf/\Nr eJ aX lo (lo+gf)/\ND (arrOf aX) lo c.2.1/\c.2.2+1<=c.2.1/\∀i,lo+c.2.1-(c.2.2+1)<=i->i<lo+c.2.1->K (arrOf aX) i=K (arrOf aX) (lo+c.2.1-1)) ?_ ?_
   ⟨rfl,rfl,hN,hD,by dsimp only;omega,λi a b=>by dsimp only at a;congr 1;omega⟩) ?_)
  ·rintro x ⟨c1,c2,q⟩ aX Gq FO ⟨rfl,rfl,lM,jP,hq,kU⟩;dsimp only at Gq FO jP hq kU ⊢;have hsz:(arrOf aX).size=(arrOf eJ).size:=lM.pm.size_eq;have tG:∀p∈(arrOf aX).toList,IK p:=λp hp=>h0 p ((bS.mp lM.pm).mem_iff.mp hp);refine az (uV lM.kd tG (by rw[hsz];omega) (by rw[hsz];omega) ?_);refine f7 (λhc=>?_) (λhc=>?_)
   ·have hm:=jP.more (by omega) (cy (bh hc));refine f7 (λhg=>?_) (λhg=>?_)
    ·exact az (wpS_reverse (aD ⟨rfl,rfl,lM.xD (by omega) (by omega) (by rw[hsz];omega),hm.same λk=>jI (by rw[hsz];omega) kU k,by dsimp only;omega,λi a b=>by dsimp only at a;congr 1;omega⟩))
    ·exact aD ⟨rfl,rfl,lM,hm,by dsimp only;omega,λi a b=>by dsimp only at a;congr 1;omega⟩
   ·have hc:=gD.mp λz=>hc (aA z);refine az (uV lM.kd tG (by rw[hsz];omega) (by rw[hsz];omega) ?_);refine f7 (λhd=>aD ⟨rfl,by dsimp only;omega,by dsimp only;omega,lM,jP,hq,kU⟩) (λhd=>?_);have hd:=gD.mp λz=>hd (aA z);refine aD ⟨rfl,rfl,lM,jP.more (by omega) hd,by dsimp only;omega,λi a b=>?_⟩;rw[show lo+(c2+1)-1=lo+c2 by omega];by_cases e:i=lo+c2
    ·rw[e]
    ·rw[kU i (by dsimp only at a;omega) (by omega)];omega
  ·rintro⟨c1,c2,q⟩ aX ⟨rfl,e2,lM,jP,hq,kU⟩;dsimp only at e2;have e3:c2=gf:=by omega
   rw[<- e2] at jP hq kU;exact⟨rfl,by dsimp only;omega,by dsimp only;omega,lM,jP,hq,kU⟩
  ·rintro⟨c1,n,q⟩ aX ⟨rfl,qW,FZ,lM,jP,hq,kU⟩;dsimp only at qW FZ jP hq kU ⊢;have hsz:(arrOf aX).size=(arrOf eJ).size:=lM.pm.size_eq;refine f7 (λhg=>az (wpS_reverse ?_)) (λhg=>?_);have tw:=lM.xD (i:=lo+n-(q+1)) (j:=lo+n) (by omega) (by omega) (by rw[hsz];omega);have gA:ND (arrOf (setArr aX (mirror (arrOf aX) (lo+n-(q+1)) (lo+n) ((lo+n-(lo+n-(q+1))) / 2)))) lo n:=jP.same λk=>jI (by rw[hsz];omega) kU k;generalize setArr aX (mirror (arrOf aX) (lo+n-(q+1)) (lo+n) ((lo+n-(lo+n-(q+1))) / 2))=jo at tw gA ⊢
   rotate_left
   have tw:=lM;have gA:=jP
   all_goals
    have hsz2:=tw.pm.size_eq;refine az (wpS_reverse ?_);have tu:=tw.xD (i:=lo) (j:=lo+n) (av _) (by omega) (by omega);refine az (wpS_mono (asc _ n tu qW FZ (λi j a b c=>?_) _ rfl) ?_)
    ·show K (mirror _ lo (lo+n) _) i<=K (mirror _ lo (lo+n) _) j;rw[K_mirror (by omega),K_mirror (by omega),aJ (by omega),aJ (by omega)];exact gA _ _ (by omega) (by omega) (by omega)
    ·rintro⟨c1,m⟩ st4 ⟨rfl,rfl,q1,q2,q3,_⟩;exact aD (h m _ tu q1 q2 q3)
end
end TS

namespace TS
open PySem PyProof.Rows
def Ch(l:List Keyed):List (Nat×Nat×Nat)->Nat->Nat->Prop
 |[],a,b=>a=b
 |(s,n,_)::r,a,b=>s=a/\0<n/\(seg l a n).Pairwise le/\Ch l r (a+n) b
theorem Ch.le{l:List Keyed}:∀{p:List (Nat×Nat×Nat)} {a b:Nat},Ch l p a b->a+p.length<=b
 |[],a,b,h=>fz h
 |(s,n,w)::r,a,b,⟨_,h1,_,h2⟩=>by have:=Ch.le h2;simp only[List.length_cons];omega
theorem Ch.congr{l l':List Keyed}:∀{p:List (Nat×Nat×Nat)} {a b:Nat},Ch l p a b->(∀k,a<=k->k<b->l'[k]?=l[k]?)->Ch l' p a b
 |[],a,b,h,_=>h
 |(s,n,w)::r,a,b,⟨h0,h1,h2,h3⟩,hc=>by
  have:=Ch.le h3;exact⟨h0,h1,by rw[De λk a b=>hc k a (by omega)];exact h2,Ch.congr h3 λk a b=>hc k (by omega) b⟩
theorem Ch.push{l:List Keyed}{n w:Nat}:∀{p:List (Nat×Nat×Nat)} {a b:Nat},Ch l p a b->0<n->(seg l b n).Pairwise TS.le->Ch l (p++[(b,n,w)]) a (b+n)
 |[],a,b,h,h1,h2=>by cases h;exact⟨rfl,h1,h2,rfl⟩
 |(s,m,v)::r,a,b,⟨g0,g1,g2,g3⟩,h1,h2=>⟨g0,g1,g2,Ch.push g3 h1 h2⟩
theorem Ch.pow{l:List Keyed}{f:Nat×Nat×Nat->Nat×Nat×Nat}(hf:∀x,(f x).1=x.1/\(f x).2.1=x.2.1):∀{p:List (Nat×Nat×Nat)} {a b i:Nat},Ch l p a b->Ch l (p.modify i f) a b
 |[],a,b,i,h=>by simpa using h
 |(s,m,v)::r,a,b,0,⟨g0,g1,g2,g3⟩=>by
  obtain⟨x,y⟩:∃z,f (s,m,v)=(s,m,z):=⟨(f (s,m,v)).2.2,zx (hf _).1 (zx (hf _).2 rfl)⟩
  rw[List.modify_zero_cons,y];exact⟨g0,g1,g2,g3⟩
 |(s,m,v)::r,a,b,i+1,⟨g0,g1,g2,g3⟩=>by rw[List.modify_succ_cons];exact⟨g0,g1,g2,Ch.pow hf g3⟩
theorem Ch.merge{l:List Keyed}{b sa na pw sb nb sO:Nat}:∀{i:Nat} {p:List (Nat×Nat×Nat)} {a:Nat},Ch l p a b->p[i]?=some (sa,na,pw)->p[i+1]?=some (sb,nb,sO)->a<=sa/\sb=sa+na/\0<na/\0<nb/\sb+nb<=b/\(seg l sa na).Pairwise TS.le/\(seg l sb nb).Pairwise TS.le /\
  ∀m,m.length=na+nb->m.Pairwise TS.le->b<=l.length->Ch (put l sa m) ((p.set i (sa,na+nb,pw)).eraseIdx (i+1)) a b
 |0,(s,n,w)::(s',n',w')::r,a,⟨g0,g1,g2,g3,g4,g5,g6⟩,e1,e2=>by
  simp only[List.getElem?_cons_zero,List.getElem?_cons_succ,Nat.zero_add,Option.some.injEq,Prod.mk.injEq] at e1 e2;obtain⟨rfl,rfl,rfl⟩:=e1;obtain⟨rfl,rfl,rfl⟩:=e2;subst g0;have:=Ch.le g6;subst g3;refine⟨av _,rfl,g1,g4,by omega,g2,g5,λm hm hs hb=>?_⟩;simp only[List.set_cons_zero,Nat.zero_add,List.eraseIdx_cons_succ,List.eraseIdx_cons_zero];have hl:s+m.length<=l.length:=by omega
  refine⟨rfl,by omega,by rw[<- hm,Tw hl];exact hs,?_⟩;rw[<- Nat.add_assoc];exact Ch.congr g6 λk h1 h2=>by rw[L9 hl,aC (by omega)]
 |i+1,(s,n,w)::r,a,⟨g0,g1,g2,g3⟩,e1,e2=>by
  rw[sE] at e1 e2;obtain⟨h1,h2,h3,h4,h5,h6,h7,h8⟩:=Ch.merge g3 e1 e2;refine⟨by omega,h2,h3,h4,h5,h6,h7,λm hm hs hb=>?_⟩;rw[List.set_cons_succ,List.eraseIdx_cons_succ];refine⟨g0,g1,?_,h8 m hm hs hb⟩;rw[De (l:=l) (l':=put l sa m) λk h1 h2=>by rw[L9 (by omega),aC (by omega)]];exact g2
theorem SB.seg{xs:Array Keyed}{lo n:Nat}(hn:lo+n<=xs.size)(h:SB xs lo n):(seg xs.toList lo n).Pairwise le:=by
 rw[eP];intro i j hi hj hX;rw[A8 (by simpa using hn)] at hi hj;have:=h (lo+i) (lo+j) (by omega) (by omega) (by omega);rw[K_eq (by omega),K_eq (by omega)] at this;simpa[TS.seg] using this
section
variable{prog:Program}{w:World}{A:Around}{E:Value->Shared->Prop}{s:Shared}
structure Go(a₀:Array Keyed)(st:SortSt)(lo:Nat):Prop where
 kd:kindOf st=oneType'
 fl:failedOf st=none
 pm:(arrOf st).Perm a₀
 ch:Ch (arrOf st).toList (pendingOf st).toList 0 lo
theorem JX{a₀:Array Keyed}{st:SortSt}{lo i:Nat}{Q:Bool->SortSt->Prop}(h0:∀p∈a₀.toList,IK p)(hG:Go a₀ st lo)(pH:lo<=a₀.size)(hi:i+1<(pendingOf st).size)(h:∀aX,Go a₀ aX lo->(pendingOf aX).size+1=(pendingOf st).size->(∀k,lo<=k->(arrOf aX).toList[k]?=(arrOf st).toList[k]?)->Q true aX):wpS (model prog w) A E s (Ad i) Q st:=by
 obtain⟨sa,na,pw,e1⟩:∃sa na pw,(pendingOf st)[i]?=some (sa,na,pw):=⟨_,_,_,cw _ i (by omega)⟩
 obtain⟨sb,nb,sO,e2⟩:∃sb nb sO,(pendingOf st)[i+1]?=some (sb,nb,sO):=⟨_,_,_,cw _ (i+1) hi⟩
 obtain⟨g1,g2,g3,g4,g5,g6,g7,g8⟩:=hG.ch.merge (i:=i) (by simpa using e1) (by simpa using e2);have hsz:=hG.pm.size_eq;have hl:(arrOf st).toList.length=a₀.size:=by simpa using hsz
 refine Qn hG.kd hG.fl (λp hp=>h0 p ((bS.mp hG.pm).mem_iff.mp hp)) e1 e2 g2 (by omega) g3 g4 g6 g7 λaX m m1 m2 m3 m4 m5 m6 m7=>h aX ⟨m4,m5,?_,?_⟩ ?_ ?_
 ·refine Array.Perm.trans (bS.mpr ?_) hG.pm;rw[m6];exact a18 (by rw[m1];exact m3)
 ·rw[m6,m7];have:=g8 m m1 m2 (by omega);simpa using this
 ·rw[m7,<- bt,Array.toList_eraseIdxIfInBounds,List.length_eraseIdx,Array.toList_setIfInBounds,List.length_set,bt,aJ hi];omega
 ·intro k hk;rw[m6,L9 (by omega),aC (by omega)]
theorem Mt{c:Prop}[Decidable c]{n:Nat}(h:1<n):(if c then n-2-1 else n-2)+1<n:=by split<;>omega
theorem Go.near{a₀:Array Keyed}{st aX:SortSt}{lo hi:Nat}(h:Go a₀ st lo)(hN:Nr st aX lo hi):Go a₀ aX lo :=
 ⟨hN.kd,hN.fl,hN.pm.trans h.pm,by rw[hN.pd];exact h.ch.congr λk _ hk=>by rw[et,et];exact hN.out k (.inl hk)⟩
theorem TK{a₀:Array Keyed}{st:SortSt}{Q:Unit->SortSt->Prop}(h0:∀p∈a₀.toList,IK p)(hG:Go a₀ st 0)(h2:0<a₀.size)(h:∀aX,(arrOf aX).Perm a₀->failedOf aX=none->(arrOf aX).toList.Pairwise le->Q () aX):wpS (model prog w) A E s sortRuns' Q st:=by
 unfold sortRuns';refine az (mD ?_);have hsz:∀aX lo,Go a₀ aX lo->(arrOf aX).size=a₀.size:=λaX lo h=>h.pm.size_eq;have e0:=hsz st 0 hG;refine az (wpS_mono (dC (I:=λx (c:Option Unit × Nat) aX=>c.1=none/\Go a₀ aX c.2/\c.2 <= a₀.size/\x <= c.2)
  (Q:=λc aX=>c.1=none/\Go a₀ aX a₀.size) ?_ ?_ ⟨rfl,hG,cB _,cB _⟩) ?_)
 ·rintro x ⟨c1,lo⟩ eJ _ hx ⟨rfl,mx,pH,xF⟩;dsimp only at mx pH xF;rw[e0];refine f7 (λjE=>aD ⟨rfl,?_⟩) (λjE=>?_)
  ·have:lo=a₀.size:=by dsimp only at jE;omega
   rw[<- this];exact mx
  have jE:lo<a₀.size:=by dsimp only at jE;omega
  have z1:=hsz eJ lo mx;have i1:∀p∈(arrOf eJ).toList,IK p:=λp hp=>h0 p ((bS.mp mx.pm).mem_iff.mp hp);refine az (Rk mx.kd mx.fl i1 (by dsimp only;omega) (by dsimp only;omega) λm gL hN MN MM hs=>?_);dsimp only at hN MM hs ⊢;rw[show lo+(a₀.size-lo)=a₀.size by omega] at hN;have z2:(arrOf gL).size=a₀.size:=hN.pm.size_eq.trans z1;have i2:∀p∈(arrOf gL).toList,IK p:=λp hp=>i1 p ((bS.mp hN.pm).mem_iff.mp hp);have fin:∀jo n,Go a₀ jo lo->0<n->lo+n<=a₀.size->(seg (arrOf jo).toList lo n).Pairwise le->(λc aX=>c.1=none/\Go a₀ aX c.2/\c.2<=a₀.size/\x+1<=c.2:Option Unit×Nat->SortSt->Prop) (none,lo+n) (setPending jo ((pendingOf jo).push (lo,n,0))):=by
   intro jo n hG h1 h2 h3;refine⟨rfl,⟨hG.kd,hG.fl,hG.pm,?_⟩,h2,by dsimp only;omega⟩;show Ch _ ((pendingOf jo).push (lo,n,0)).toList 0 _;rw[dz];exact hG.ch.push h1 h3
  refine f7 (λhc=>?_) (λhc=>?_);refine az (pb (cX ⟨rfl,?_⟩));refine az (Py hN.kd hN.fl i2 (by omega) (by omega) hs λjo tu FQ=>?_);simp only[Bool.not_true,Bool.false_eq_true,if_false];have hc:m<minRun' a₀.size a₀.size 0:=hc;have qW:lo+min (a₀.size-lo) (minRun' a₀.size a₀.size 0)<=a₀.size:=by omega
  have hq:=FQ.seg (by rw[tu.pm.size_eq,z2];exact qW);have Az:0<min (a₀.size-lo) (minRun' a₀.size a₀.size 0):=by omega
  have xY:=(mx.near hN).near tu;clear tu FQ hN hs i2 z2;change Go a₀ jo lo at xY
  rotate_left
  have Az:0<m:=MN;have xY:=mx.near hN;have qW:lo+m<=a₀.size:=by omega
  have hq:=hs.seg (by omega);clear hN hs i2 z2;generalize gL=jo at *
  all_goals
   refine az (mD ?_);cases hb:(pendingOf jo).back? with
   |none=>exact az (mB (aD (fin jo _ xY Az qW hq)))
   |some q =>
    obtain⟨s1,n1,p1⟩:=q;refine az (wpS_mono (dC (I:=λ_ (c:Option Unit × Unit) aX=>c=(none,())/\Go a₀ aX lo/\∀ k,lo <= k->(arrOf aX).toList[k]?=(arrOf jo).toList[k]?)
     (Q:=λc aX=>c=(none,())/\Go a₀ aX lo/\∀ k,lo <= k->(arrOf aX).toList[k]?=(arrOf jo).toList[k]?) ?_ (λ_ _ z=>z) ⟨rfl,xY,λ_ _=>rfl⟩) ?_)
    ·rintro y c aX _ _ ⟨rfl,kr,iR⟩;refine az (mD ?_);by_cases hp:(pendingOf aX).size>1
     ·rw[aJ hp,cw (pendingOf aX) ((pendingOf aX).size-2) (by omega)];exact f7 (λ_=>aD ⟨rfl,kr,iR⟩) λ_=>az (JX h0 kr pH (show(pendingOf aX).size-2+1<(pendingOf aX).size by omega) λmh g1 g2 g3=>aD ⟨rfl,g1,λk hk=>(g3 k hk).trans (iR k hk)⟩)
     ·rw[aC hp];exact aD ⟨rfl,kr,iR⟩
    ·rintro c aX ⟨rfl,kr,iR⟩;refine az (mB (az (mB (aD (fin (setPending aX ((pendingOf aX).modify ((pendingOf aX).size-1) _)) _ ⟨kr.kd,kr.fl,kr.pm,?_⟩ Az qW ?_)))))
     ·show Ch _ ((pendingOf aX).modify _ _).toList 0 lo;rw[Array.toList_modify];refine Ch.pow ?_ kr.ch;exact λx=>⟨rfl,rfl⟩
     ·show(seg (arrOf aX).toList lo _).Pairwise le;rw[De λk h1 _=>iR k h1];exact hq
 ·rintro⟨c1,lo⟩ eJ ⟨rfl,mx,pH,xF⟩;rw[e0] at xF;have:lo=a₀.size:=by dsimp only at xF pH;omega
  subst this;exact⟨rfl,mx⟩
 ·rintro⟨c1,lo⟩ eJ ⟨rfl,mx⟩;dsimp only;rw[e0];refine az (wpS_mono (dC (I:=λx (c:Option Unit × Unit) aX=>c=(none,())/\Go a₀ aX a₀.size/\(pendingOf aX).size <= max 1 (a₀.size - x))
   (Q:=λc aX=>c=(none,())/\Go a₀ aX a₀.size/\(pendingOf aX).size <= 1) ?_ ?_ ⟨rfl,mx,?_⟩) ?_)
  ·rintro y c aX _ hy ⟨rfl,kr,iR⟩;refine az (mD ?_);refine f7 (λhp=>aD ⟨rfl,kr,hp⟩) λhp=>?_;have hp:1<(pendingOf aX).size:=Nat.lt_of_not_le hp;refine az (JX h0 kr (av _) ?_ λmh g1 g2 g3=>aD ⟨rfl,g1,by omega⟩);exact Mt hp
  ·rintro c aX ⟨rfl,kr,iR⟩;exact⟨rfl,kr,by omega⟩
  ·have:=mx.ch.le;simp at this;show(pendingOf eJ).size<=_;omega
  ·rintro c aX ⟨rfl,kr,iR⟩;refine aD (h aX kr.pm kr.fl ?_);have hc:=kr.ch
   match hp:(pendingOf aX).toList with
   |[]=>rw[hp] at hc;exact absurd (show 0=a₀.size from hc) (by omega)
   |[(s1,n1,w1)] =>
    rw[hp] at hc;obtain⟨q1,q2,q3,q4⟩:=hc;have q4:0+n1=a₀.size:=q4;have e:seg (arrOf aX).toList 0 n1=(arrOf aX).toList:=by
     have:=kr.pm.size_eq;unfold seg;rw[List.drop_zero,cW (by simp;omega)]
    rw[e] at q3;exact q3
   |_::_::_ =>
    have:(pendingOf aX).toList.length<=1:=by simpa using iR
    rw[hp] at this;simp at this
theorem a01{a:Addr}{vs:List Value}{ns:List Int}{n:Nat}{P:Fin->Shared->Prop}(ho:s.heap.get? a=some (seqObj "list" vs.toArray n))(hI:IntsAre vs ns)(hl:vs.length<=100000)(h:∀(out:Array Value) (kG:List Int),IntsAre out.toList kG->kG.Perm ns->kG.Pairwise (·<=·)->P (.done (.ret .none)) { s with heap:=sortedHeap s.heap a vs out }):wpAny (model prog w) A (Builtin.«list.sort» ⟨[.ref a],[]⟩) P E s:=by
 by_cases xZ:vs.length<64
 ·exact list_sort_tree ho hI xZ h
 rw[list_sort_plain];have ha:=aB ho;refine aa (listItems_at ho rfl (aa (listUpdate_at ho rfl ?_)));have xJ:=get?_update_seq ho (λ_=>#[]);refine aa (seqEpoch_at xJ rfl (aa (wpAny_newTuple (aa (Lf (cb ?_))))));have FW:(((s.heap.update a (Obj.mapSeq λ_=>#[])).push (seqObj "tuple" vs.toArray 0)).push (seqObj "list" #[] 0)).get? a=some (seqObj "list" #[] (if((λ_=>#[]) vs.toArray:Array Value).size==vs.toArray.size then n else n+1)):=by
  rw[Heap.get?_push_ne _ _ _ (by rw[jH,Heap.size_update];exact aK (lg ha)),Heap.get?_push_ne _ _ _ (by rw[Heap.size_update];exact aK ha)];exact xJ
 dsimp only;have h2:¬vs.toArray.size<2:=by simp;omega
 rw[aC h2,aC h2];obtain⟨v1,v2,r,rfl⟩:∃v1 v2 r,vs=v1::v2::r:=by
  match vs,xZ with
  |[],h=>simp at h
  |[_],h=>simp at h
  |x::y::r,_=>exact⟨x,y,r,rfl⟩
 rw[keyKind_ints hI];refine aa (aj (aa (bI (TK (a₀:=pairsOf (v1::v2::r)) (Q:=λ_ aX=>(arrOf aX).Perm (pairsOf (v1::v2::r))/\failedOf aX=none/\(arrOf aX).toList.Pairwise le) hI.intKeys ⟨rfl,rfl,mW _,rfl⟩ (by rw[pairsOf_size];simp) λaX a1 a2 a3=>⟨a1,a2,a3⟩) ?_ λ_ _ e=>e)));rintro⟨⟨⟩,aX⟩ s' ⟨rfl,hp,hf,hs⟩;dsimp only;refine aa (seqEpoch_at FW rfl (aa (listUpdate_at FW rfl ?_ (hsz2:=?_))))
 ·rw[hf];simp only[bne_self_eq_false,Bool.false_eq_true,if_false];obtain⟨kG,q1,q2,q3⟩:=sorted_out hI hp λi j hX hj=>by
   have e:=hp.size_eq;rw[K_eq (by omega),K_eq (by omega)];exact wL hs (by omega) hX
  exact aj (h _ kG q1 q2 q3)
 ·rw[Array.size_map,hp.size_eq,pairsOf_size,iX];omega
end
end TS

namespace ST
open PySem PyProof.Rows
section
variable{prog:Program}{w:World}{A:Around}{E:Value->Shared->Prop}{s:Shared}{a:Addr}
theorem ZF{T:String}{o:Obj}{items:Array Value}{n:Nat}{ns:List Int}(hT:T="list"\/T="tuple")(ho:s.heap.get? a=some o)(hc:o.cls=.type T)(hd:o.data=.seq items n)(hI:IntsAre items.toList ns)(xZ:ns.length<=10000){Q:Value->Shared->Prop}(h:∀(h1:Heap) (vs:List Value) (kG:List Int) e h',(∀b o',s.heap.get? b=some o'->h1.get? b=some o')->IntsAre vs kG->kG.Perm ns->kG.Pairwise (·<=·)->h'.get? h1.objs.size=some (seqObj "list" vs.toArray e)->(∀c o,h1.get? c=some o->h'.get? c=some o)->Q (.ref h1.objs.size) { s with heap:=h' }) :
  wpAny (model prog w) A (call (.builtin "sorted") [.ref a]) Q E s:=by
 have hl:items.toList.length=ns.length:=CG hI;refine EL kind_sorted plain_sorted entry_sorted (args_sorted1 _) ?_;unfold Builtin.«sorted»;refine aa (m:=checkCount "sorted" 1 1 _) (aj ?_);refine aa (wpAny_collect_seq (A:=A.in1) a hT ho hc hd (λh1 kp=>?_) (by simp at hl;unfold sizeLine;omega));have xN:items.toList.length<=100000:=by omega
 generalize items.toList=vs at *;refine aa (Lf (s:={ s with heap:=h1 }) ?_);have oE:(h1.push (seqObj "list" vs.toArray 0)).get? h1.objs.size=some (seqObj "list" vs.toArray 0):=aF _ rfl;refine aa (cb (cG (s:={ s with heap:=h1.push (seqObj "list" vs.toArray 0) }) slot_list_sort ⟨_,oE,rfl⟩ entry_list_sort (TS.a01 oE hI xN λout kG a1 a2 a3=>⟨_,rfl,?_⟩) (args_list_sort _)));obtain⟨e,kU⟩:=sortedHeap_at (vs:=vs) (out:=out) oE;refine aj ⟨_,rfl,h h1 out.toList kG e _ kp a1 a2 a3 kU (λc o' e'=>?_)⟩;have hc:=aB e';rw[sortedHeap_old (aK hc) (by rw[jH];exact lg hc)];exact au _ e'
end
end ST
namespace L2
open PySem PyProof.Rows
def J9(ns:List Int):List Int:=ns.mergeSort (λa b=>decide (a<=b))
theorem Iz(ns:List Int):(J9 ns).Pairwise (·<=·):=by
 have:=sD (le:=λa b:Int=>decide (a<=b)) (λa b c h1 h2=>by simp at *;omega) (λa b=>by simp;omega) ns;exact this.imp λh=>by simpa using h
theorem Y5(ns:List Int):(J9 ns).Perm ns:=EI _ _
section
variable{X:Cx}
theorem Xr:n4 X (.builtin "sorted") (λxs H Q=>∃p,∃ns:List Int,xs=[.ref p]/\(gp X.K H p (ns.map V.int)\/jc X.K H p (ns.map V.int))/\ns.length<=10000/\∀l,H l=none->Q (.ref l) (upd H l (.lst ((J9 ns).map V.int)))):=by
 intro pins s σ H xs us Q I r h;obtain⟨p,ns,rfl,hq,hl,q⟩:=h;obtain⟨u,rfl,rx⟩:=vals1 r;cases rx;obtain⟨T,ba,o,n,hT,r',ho,hc,hd⟩:∃T,∃(ba:List Value) (o:Obj) (n:Nat),(T="list"\/T="tuple")/\Vals (ns.map V.int) ba/\s.heap.get? p=some o/\o.cls=.type T/\o.data=.seq ba.toArray n:=by
  rcases hq with hq|hq
  ·obtain⟨ba,r',pl,_⟩:=I.list hq;obtain⟨o,ho,hc,n,hd⟩:=pl.isList;exact⟨_,ba,o,n,.inl rfl,r',ho,hc,hd⟩
  ·obtain⟨ba,r',⟨o,ho,hc,n,hd⟩,_⟩:=I.tuple hq;exact⟨_,ba,o,n,.inr rfl,r',ho,hc,hd⟩
 refine ST.ZF hT ho hc hd (I9 r') hl λh1 vs kG e h' kp i1 i2 i3 i4 i5=>?_;have e1:kG=J9 ns:=S4 (i2.trans (Y5 ns).symm) i3 (Iz ns);subst e1;have I1:Inv X pins σ H { s with heap:=h1 }:=I.kept (t':=s.toks) kp;have hz:(J9 ns).length<=10000:=by rw[(Y5 ns).length_eq];exact hl
 exact⟨.ref h1.objs.size,_,(I1.laid (a:=h1.objs.size) (o:=.lst ((J9 ns).map V.int)) (t':=s.toks) i5 (av _) ⟨by rw[ai];exact aI hz (by decide),vs,e,IC i1,i4⟩),rfl,q _ (I1.bX.fresh (av _))⟩
theorem Ia:∀{ks:List Key} {l:List Value},l.length=ks.length->(∀(i:Nat) v,l[i]?=some v->∃k,ks[i]?=some k/\sj k v=true)->Vals (ks.map kV) l
 |[],[],_,_=>.nil
 |k::ks,v::l,hl,h=>by
  obtain⟨k',e,hk⟩:=h 0 v rfl;cases e;refine .cons ?_ (Ia (by simpa using hl) λi v e=>h (i+1) v e);rcases u6 hk with⟨i,t,rfl,rfl⟩|⟨x,t,rfl,rfl⟩<;>exact⟨t,rfl⟩
theorem Xq(hc:X.calm=true):n4 X (.type "list") (λxs H Q=>∃a kvs,xs=[.ref a]/\H a=some (.dK kvs)/\kvs.length<=10000/\∀p,H p=none->Q (.ref p) (upd H p (.lst ((kvs.map (·.1)).map kV)))):=by
 intro pins s σ H xs us Q I r h;obtain⟨a,kvs,rfl,ha,hl,q⟩:=h;obtain⟨u,rfl,rx⟩:=vals1 r;cases rx;obtain⟨_,hd,vs,kv,hD⟩:=Dy I.bX ha;obtain⟨ep,hA⟩:=hD.dictAt;have xN:vs.length<=10000:=by rw[<- kv.length];exact hl
 refine PySem.W.kdl_call (PySem.W.kdl_dict (kvs:=vs) (ep:=ep) hd) (I.ok.hd hc) hA (aI xN (by decide)) λh' tk acc c k1 k2 k3=>?_;have hv:Vals ((kvs.map (·.1)).map kV) acc.toList:=by
  refine Ia (by rw[bt,k3.1,ai,kv.length]) λi v e=>?_;obtain⟨k,x,e1,e2⟩:=k3.2 i v (by simpa using e);exact⟨k,by rw[kv.keys,ao,e1];rfl,e2⟩
 exact⟨.ref s.heap.objs.size,_,(I.laid (a:=s.heap.objs.size) (o:=.lst ((kvs.map (·.1)).map kV)) (t':=tk) k1 (av _) ⟨by rw[ai,ai];exact aI hl (by decide),acc.toList,c,hv,by simpa using k2⟩),rfl,q _ (I.bX.fresh (av _))⟩
end
end L2

namespace M
open PySem L2
set_option genInjectivity true in
inductive D where
 |bN|bl (b:Bool)|int (i:Int)|str (x:Str)|ty (n:String)|ref (i:Nat)|tup (l:List D)
set_option genInjectivity true in
inductive O where
 |lst (l:List D)|oJ (l:List D)
 |dg (kvs:List (Key×D))
 |ins (c:Str) (fs:List (Str×D))
 |set (S:Int->Bool) (n:Nat)
def O.mut:O->Bool
 |.oJ _=>false
 |_=>true
def U9:D->Option Key
 |.int i=>some (.inl i)
 |.str x=>some (.inr x)
 |_=>none
def w6(kvs:List (Key×D))(k:Key):Option D:=(kvs.find? λkv=>decide (kv.1=k)).map (·.2)
def putD(kvs:List (Key×D))(k:Key)(v:D):List (Key×D) :=
 if(kvs.any λkv=>decide (kv.1=k))=true then kvs.map (λkv=>if kv.1=k then(kv.1,v) else kv) else kvs++[(k,v)]
def m9(f:Str)(v:D):List (Str×D)->List (Str×D)
 |[]=>[(f,v)]
 |(g,x)::r=>if g=f then(g,v)::r else(g,x)::m9 f v r
def M8:List D->Str->Option D
 |.tup [.str y,v]::r,x=>if x=y then some v else M8 r x
 |_::_,_=>none
 |[],_=>none
def T2:List D->Option Str
 |[]=>some Str.empty
 |.str x::r=>(T2 r).map λy=>x++y
 |_=>none
structure Xn where
 cls:Str
noncomputable abbrev G:=List O
noncomputable abbrev S:=List (Option D)
noncomputable abbrev KD:=D->G->Prop
noncomputable abbrev KX:=Xn->G->Prop
noncomputable abbrev jS:KX:=λ_ _=>False
def Ea:Option O->Option (List D)
 |some (.lst l)=>some l
 |some (.oJ l)=>some l
 |_=>none
noncomputable abbrev d7(g:G)(a:Nat):Option (List D):=Ea g[a]?
def rd(g:G):Nat->D->Option PyData
 |_,.bN=>some .none
 |_,.bl b=>some (.bool b)
 |_,.int i=>some (.int i)
 |_,.str x=>some (.str x)
 |_,.ty _=>none
 |0,.ref _=>none
 |0,.tup _=>none
 |n+1,.ref a=>match d7 g a with
  |some l=>(l.mapM (rd g n)).map .list
  |none=>none
 |n+1,.tup l=>(l.mapM (rd g n)).map .tuple
def LV(g:G)(l:List D):Option (List PyData):=l.mapM (rd g 6)
def E7(g:G):D->Option (List D)
 |.tup l=>some l
 |.ref a=>d7 g a
 |_=>none
def M9:D->Bool
 |.bN=>true
 |_=>false
def cut{α:Type}(xs:List α)(lo hi:Option Int):List α:=(xs.drop (HT.dQ xs.length 0 lo)).take (HT.dQ xs.length xs.length hi-HT.dQ xs.length 0 lo)
def rX(g:G)(x:D)(c:String):Option Bool:=match x with
 |.bN=>some (c=="NoneType")
 |.bl _=>some (c=="bool"||c=="int")
 |.int _=>some (c=="int")
 |.str _=>some (c=="str")
 |.tup _=>some (c=="tuple")
 |.ref a=>match g[a]? with
  |some (.lst _)=>some (c=="list")
  |_=>none
 |.ty _=>none
def i8(lo:Int)(n:Nat):List D:=(List.range n).map λ(k:Nat)=>.int (lo+k)
def U1:List D->Option Bool
 |[]=>some true
 |.bl b::r=>(U1 r).map λc=>b&&c
 |_=>none
inductive Pr where
 |bin (op:Operator)|un (op:UnaryOp)|cmp (op:CmpOp)
 |ix|nU (lo hi:Bool)|rev|tup|lst|V2
 |len|list|tuple|isin|all|max|min|int|str|jM|kJ|sset|LL|vV
 |GC|vP|nK|fv|my|fld (f:Str)
 |append|pop|get|index|join|iadd|clear|zV|extend|any|jK|sum|qa|Ah|kE|kC (i:Int)
noncomputable abbrev DR:=List D->G->D->G->Prop
def Xo:Operator->Int->Int->Int->Prop
 |.Add,i,j,r=>r=i+j
 |.Sub,i,j,r=>r=i-j
 |.Mult,i,j,r=>rS i j/\r=i*j
 |.FloorDiv,i,j,r=>Ef i j/\r=i / j
 |.Mod,i,j,r=>0<j/\r=i % j
 |.Pow,i,j,r=>oU i j/\r=i ^ j.toNat
 |.LShift,i,j,r=>oU i j/\r=i*2 ^ j.toNat
 |.BitAnd,i,j,r=>r=Builtin.bitAnd i j
 |.BitOr,i,j,r=>r=Builtin.bitOr i j
 |_,_,_,_=>False
def UE(op:Operator):DR:=λxs g d g' =>
 (∃i j r,xs=[.int i,.int j]/\Xo op i j r/\d=.int r/\g'=g) \/
 (op=.Add/\((∃ l m,xs=[.tup l,.tup m]/\l.length + m.length <= 100000/\d=.tup (l ++ m)/\g'=g) \/
  (∃a b l m,xs=[.ref a,.ref b]/\g[a]?=some (.lst l)/\g[b]?=some (.lst m)/\l.length+m.length<=100000/\d=.ref g.length/\g'=g++[.lst (l++m)]) \/
  (∃ x y,xs=[.str x,.str y]/\x.length + y.length <= 100000/\d=.str (x ++ y)/\g'=g))) \/
 (op=.Mult/\((∃ a l n,xs=[.ref a,.int n]/\g[a]?=some (.lst l)/\-(2 ^ 62) <= n/\n < 2 ^ 62/\l.length * n.toNat <= 100000/\d=.ref g.length/\g'=g ++ [.lst (List.replicate n.toNat l).flatten]) \/
  (∃ l n,xs=[.tup l,.int n]/\l ≠ []/\1 <= n/\n < 2 ^ 62/\l.length * n.toNat <= 100000/\d=.tup (List.replicate n.toNat l).flatten/\g'=g)))
def Lx(op:UnaryOp):DR:=λxs g d g'=>op=.USub/\∃i,xs=[.int i]/\d=.int (-i)/\g'=g
def vR(g:G)(x y:D)(b:Bool):Prop :=
 (∃i j,x=.int i/\y=.int j/\b=decide (i=j))\/(∃i j,x=.bl i/\y=.bl j/\b=(i==j))\/(∃i j,x=.str i/\y=.str j/\b=decide (i=j)) \/
 ∃p q,rd g 6 x=some p/\rd g 6 y=some q/\p.canLay0=true/\q.canLay0=true/\b=PyData.eqv p q
def inR(g:G)(x y:D)(b:Bool):Prop :=
 (∃a kvs c,y=.ref a/\g[a]?=some (.dg kvs)/\U9 x=some c/\b=(w6 kvs c).isSome) \/
 ∃l ps p,E7 g y=some l/\LV g l=some ps/\rd g 6 x=some p/\PyData.canLayAll0 ps=true/\p.canLay0=true/\b=(ps.any λq=>PyData.eqv q p)
def Hn(g:G)(x y:D)(b:Bool):Prop:=∃a S n i,y=.ref a/\g[a]?=some (.set S n)/\x=.int i/\b=S i
def Ha(g:G)(x y:D)(b:Bool):CmpOp->Prop
 |.Eq=>vR g x y b
 |.NotEq=>vR g x y (!b)
 |.In=>inR g x y b\/Hn g x y b
 |.NotIn=>inR g x y (!b)\/Hn g x y (!b)
 |.Lt=>∃i j,x=.int i/\y=.int j/\b=decide (i<j)
 |.LtE=>∃i j,x=.int i/\y=.int j/\b=decide (i<=j)
 |.Gt=>∃i j,x=.int i/\y=.int j/\b=decide (j<i)
 |.GtE=>∃i j,x=.int i/\y=.int j/\b=decide (j<=i)
 |.Is=>y=.bN/\b=M9 x
 |.IsNot=>y=.bN/\b=!M9 x
def UK(op:CmpOp):DR:=λxs g d g'=>∃x y b,xs=[x,y]/\Ha g x y b op/\d=.bl b/\g'=g
def Hr(g:G)(x:D)(b:Bool):Prop :=
 (x=.bN/\b=false)\/x=.bl b\/(∃i,x=.int i/\b=(i != 0))\/(∃l,x=.tup l/\b=!l.isEmpty)\/∃a l,x=.ref a/\d7 g a=some l/\b=!l.isEmpty
def Mr:DR:=λxs g d g'=>g'=g/\((∃x l i,xs=[x,.int i]/\E7 g x=some l/\gz l i=some d)\/(∃a kvs y c,xs=[.ref a,y]/\g[a]?=some (.dg kvs)/\U9 y=some c/\w6 kvs c=some d) \/
 ∃ x i c,xs=[.str x,.int i]/\x.length <= 100000/\gz x.cps.toList i=some c/\d=.str ⟨#[c]⟩)
def uG(x:D)(lo hi:Option Int)(g:G)(d:D)(g':G):Prop:=(∃l,x=.tup l/\d=.tup (cut l lo hi)/\g'=g)\/∃a l,x=.ref a/\d7 g a=some l/\d=.ref g.length/\g'=g++[.lst (cut l lo hi)]
def Vx:Bool->Bool->DR
 |false,false,xs,g,d,g'=>∃x,xs=[x]/\uG x none none g d g'
 |true,false,xs,g,d,g'=>∃x i,xs=[x,.int i]/\uG x (some i) none g d g'
 |false,true,xs,g,d,g'=>∃x j,xs=[x,.int j]/\uG x none (some j) g d g'
 |true,true,xs,g,d,g'=>∃x i j,xs=[x,.int i,.int j]/\uG x (some i) (some j) g d g'
def Vs:DR:=λxs g d g'=>(∃l,xs=[.tup l]/\d=.tup l.reverse/\g'=g)\/∃a l,xs=[.ref a]/\d7 g a=some l/\d=.ref g.length/\g'=g++[.lst l.reverse]
def VS:DR:=λxs g d g'=>xs.length<=1000/\d=.tup xs/\g'=g
def U':DR:=λxs g d g'=>xs.length<=1000/\d=.ref g.length/\g'=g++[.lst xs]
def wO:List D->List (Key×D)->Option (List (Key×D))
 |[],kvs=>some kvs
 |k::v::r,kvs=>(U9 k).bind λc=>wO r (putD kvs c v)
 |_,_=>none
def Wm:DR:=λxs g d g'=>xs=[]/\d=.ref g.length/\g'=g++[.dg []]
def UZ:DR:=λxs g d g'=>g'=g/\((∃x l,xs=[x]/\E7 g x=some l/\d=.int l.length)\/(∃a kvs,xs=[.ref a]/\g[a]?=some (.dg kvs)/\d=.int kvs.length)\/∃x,xs=[.str x]/\x.length<=100000/\d=.int x.length)
def kD:Key->D
 |.inl i=>.int i
 |.inr x=>.str x
def WD:DR:=λxs g d g'=>(∃x l,xs=[x]/\E7 g x=some l/\d=.ref g.length/\g'=g++[.lst l])\/∃a kvs,xs=[.ref a]/\g[a]?=some (.dg kvs)/\kvs.length<=10000/\d=.ref g.length/\g'=g++[.lst ((kvs.map (·.1)).map kD)]
def Se:DR:=λxs g d g'=>∃x l,xs=[x]/\E7 g x=some l/\d=.tup l/\g'=g
def Ww:DR:=λxs g d g'=>∃x c b,xs=[x,.ty c]/\c∈["int","bool","str","tuple","list"]/\rX g x c=some b/\d=.bl b/\g'=g
def allR:DR:=λxs g d g'=>∃a l b,xs=[.ref a]/\d7 g a=some l/\(U1 l=some b\/∃ns:List Int,l=ns.map .int/\b=ns.all λn=>n != 0)/\d=.bl b/\g'=g
def Kn:List D->Option Bool
 |[]=>some false
 |.bl b::r=>(Kn r).map λc=>b||c
 |_=>none
def anyR:DR:=λxs g d g'=>∃a l b,xs=[.ref a]/\d7 g a=some l/\Kn l=some b/\d=.bl b/\g'=g
def RG:DR:=λxs g d g'=>False\/∃x,∃ns:List Int,xs=[x]/\E7 g x=some (ns.map .int)/\ns.length<=10000/\d=.ref g.length/\g'=g++[.lst ((J9 ns).map .int)]
def Va:DR:=λxs g d g'=>g'=g/\((∃i j,xs=[.int i,.int j]/\d=.int (if j>i then j else i))\/∃a,∃(ns:List Int) (M:Int),xs=[.ref a]/\d7 g a=some (ns.map .int)/\M∈ns/\(∀x∈ns,x<=M)/\d=.int M)
def Vb:DR:=λxs g d g'=>g'=g/\((∃i j,xs=[.int i,.int j]/\d=.int (if j<i then j else i))\/∃a,∃(ns:List Int) (M:Int),xs=[.ref a]/\d7 g a=some (ns.map .int)/\M∈ns/\(∀x∈ns,M<=x)/\d=.int M)
def OR:DR:=λxs g d g'=>∃a i S n,xs=[.ref a,.int i]/\g[a]?=some (.set S n)/\n+1<4096/\d=.bN/\g'=g.set a (.set (λk=>S k||decide (k=i)) (if S i then n else n+1))
def Rn(i:Int):DR:=λxs g d g'=>xs=[]/\d=.ref g.length/\g'=g++[.set (λk=>decide (k=i)) 1]
def Vz:DR:=λxs g d g'=>∃a,∃ns:List Int,xs=[.ref a]/\d7 g a=some (ns.map .int)/\d=.int ns.sum/\g'=g
def WE:DR:=λxs g d g'=>∃a,∃ns:List Int,xs=[.ref a]/\d7 g a=some (ns.map .int)/\ns.length<60/\d=.int (ST.j5 [] ns).length/\g'=g
def Wx:DR:=λxs g d g'=>∃i j,xs=[.int i,.int j]/\d=.int (i-j)/\g'=g
def UW:DR:=λxs g d g'=>g'=g/\((∃i,xs=[.int i]/\d=.int i)\/∃b,xs=[.bl b]/\d=.int (if b then 1 else 0))
def Vy:DR:=λxs g d g'=>(∃i,xs=[.int i]/\i.natAbs.log2<1920/\d=.str (toString i)/\g'=g)\/∃x,xs=[.str x]/\d=.str x/\g'=g
def Qj:DR:=λxs g d g'=>∃j,xs=[.int j]/\-(2 ^ 62)<=j/\j<=100000/\d=.ref g.length/\g'=g++[.lst (i8 0 j.toNat)]
def Qk:DR:=λxs g d g'=>∃i j,xs=[.int i,.int j]/\(-(2 ^ 62)<=i/\i<2 ^ 62/\-(2 ^ 62)<=j/\j<2 ^ 62/\j-i<=100000)/\d=.ref g.length/\g'=g++[.lst (i8 i (j-i).toNat)]
def OV:DR:=λxs g d g'=>∃a ns,xs=[.ref a]/\d7 g a=some (ns.map .int)/\ns.length<60/\d=.ref g.length/\g'=g++[.lst ((o6 ns).map .int)]
def VA:DR:=λxs g d g'=>∃ns ms:List Int,xs=[.tup (ns.map .int),.tup (ms.map .int)]/\(∀k∈ns,ST.Spot k)/\(∀k∈ms,ST.Spot k)/\ns.length+ms.length<50/\d=.ref g.length/\g'=g++[.lst ((o6 (ns++ms)).map .int)]
def Eo(neg:Bool):DR:=λxs g d g'=>∃kvs x,xs=[.tup kvs,.str x]/\d=.bl (xor neg (M8 kvs x).isSome)/\g'=g
def Wr:DR:=λxs g d g'=>∃kvs x,xs=[.tup kvs,.str x]/\M8 kvs x=some d/\g'=g
def Ob:DR:=λxs g d g'=>g'=g/\((∃i,xs=[.int i]/\i.natAbs.log2<1920/\d=.str (toString i))\/∃x,xs=[.str x]/\x.length<=2000/\d=.str x)
def Wq:DR:=λxs g d g'=>∃x,T2 xs=some x/\d=.str x/\g'=g
def UP(f:Str):DR:=λxs g d g'=>∃a c fs,xs=[.ref a]/\g[a]?=some (.ins c fs)/\fs.lookup f=some d/\g'=g
def appendR:DR:=λxs g d g'=>∃a y l,xs=[.ref a,y]/\g[a]?=some (.lst l)/\l.length<100000/\d=.bN/\g'=g.set a (.lst (l++[y]))
def Vj:DR:=λxs g d g'=>∃a i l k,xs=[.ref a,.int i]/\g[a]?=some (.lst l)/\-(2 ^ 63)<=i/\i<2 ^ 63/\seqIndex? i l.length=some k/\l[k]?=some d/\g'=g.set a (.lst (l.eraseIdx k))
def US:DR:=λxs g d g'=>∃a y z kvs c,xs=[.ref a,y,z]/\g[a]?=some (.dg kvs)/\U9 y=some c/\d=(w6 kvs c).getD z/\g'=g
def Ku:D->Bool
 |.bN=>true
 |.bl _=>true
 |.int _=>true
 |.str _=>true
 |_=>false
def toV:D->V
 |.bl b=>.bl b
 |.int i=>.int i
 |.str x=>.str x
 |_=>.bN
def Pt(l:List D)(y:D)(n:Nat):Prop:=l.all Ku=true/\Ku y=true/\(∃z,l[n]?=some z/\GL (toV z) (toV y)=true)/\∀(m:Nat) z,m<n->l[m]?=some z->GL (toV z) (toV y)=false
def PU:DR:=λxs g d g'=>∃x y l n,xs=[x,y]/\E7 g x=some l/\Pt l y n/\l.length<=100000/\d=.int n/\g'=g
def joinR:DR:=λxs g d g'=>∃sep a ys,xs=[.str sep,.ref a]/\d7 g a=some (ys.map .str)/\SJ sep ys<=100000/\d=.str (Builtin.Str.glued sep ys)/\g'=g
def Wu:DR:=λxs g d g'=>(∃i j,xs=[.int i,.int j]/\d=.int (i+j)/\g'=g)\/∃l m,xs=[.tup l,.tup m]/\l.length+m.length<=100000/\d=.tup (l++m)/\g'=g
def Pz:DR:=λxs g d g'=>∃a l,xs=[.ref a]/\g[a]?=some (.lst l)/\d=.bN/\g'=g.set a (.lst [])
def OI:DR:=λxs g d g'=>∃a l,xs=[.ref a]/\g[a]?=some (.lst (l++[d]))/\g'=g.set a (.lst l)
def Sy:DR:=λxs g d g'=>∃a b l m,xs=[.ref a,.ref b]/\g[a]?=some (.lst l)/\g[b]?=some (.lst m)/\l.length+m.length<=100000/\d=.bN/\g'=g.set a (.lst (l++m))
def PJ:DR:=λxs g d g'=>∃a kvs,xs=[.ref a]/\g[a]?=some (.dg kvs)/\d=.ref g.length/\g'=g++[.dg kvs]
def PR:Pr->DR
 |.clear=>Pz
 |.any=>anyR
 |.sum=>Vz
 |.kE=>OR
 |.kC i=>Rn i
 |.qa=>WE
 |.Ah=>Wx
 |.jK=>RG
 |.extend=>Sy
 |.zV=>OI
 |.vV=>PJ
 |.bin op=>UE op
 |.un op=>Lx op
 |.cmp op=>UK op
 |.ix=>Mr
 |.nU a b=>Vx a b
 |.rev=>Vs
 |.tup=>VS
 |.lst=>U'
 |.V2=>Wm
 |.len=>UZ
 |.list=>WD
 |.tuple=>Se
 |.isin=>Ww
 |.all=>allR
 |.max=>Va
 |.min=>Vb
 |.int=>UW
 |.str=>Vy
 |.jM=>Qj
 |.kJ=>Qk
 |.sset=>OV
 |.LL=>VA
 |.GC=>Eo false
 |.vP=>Eo true
 |.nK=>Wr
 |.fv=>Ob
 |.my=>Wq
 |.fld f=>UP f
 |.append=>appendR
 |.pop=>Vj
 |.get=>US
 |.index=>PU
 |.join=>joinR
 |.iadd=>Wu
def cS(p:Pr)(xs:List D)(g:G)(Q:KD):Prop:=∃d g',PR p xs g d g'/\Q d g'
def tI(g:G)(x y:D)(k:Bool->Prop):Prop:=∃b,vR g x y b/\k b
def qQ(g:G)(x y:D)(k:Bool->Prop):Prop:=∃b,inR g x y b/\k b
def qc(g:G)(x:D)(k:Bool->Prop):Prop:=∃b,Hr g x b/\k b
def Vv(x y v:D)(g g':G):Prop:=(∃a i l j,x=.ref a/\y=.int i/\g[a]?=some (.lst l)/\lJ l.length i=some j/\g'=g.set a (.lst (l.set j v))) \/
 ∃a kvs c,x=.ref a/\g[a]?=some (.dg kvs)/\U9 y=some c/\kvs.length<100000/\g'=g.set a (.dg (putD kvs c v))
def Y7(x y v:D)(g:G)(k:G->Prop):Prop:=∃g',Vv x y v g g'/\k g'
def KN(f:Str)(cs:List Str)(x v:D)(g g':G):Prop:=∃a c fs,x=.ref a/\g[a]?=some (.ins c fs)/\c∈cs/\fs.length<100/\g'=g.set a (.ins c (m9 f v fs))
def wD(f:Str)(cs:List Str)(x v:D)(g:G)(k:G->Prop):Prop:=∃g',KN f cs x v g g'/\k g'
def mM:Pr->D->G->Prop
 |.get,x,g=>∃a kvs,x=.ref a/\g[a]?=some (.dg kvs)
 |.join,x,g=>∃y,x=.str y
 |.kE,x,g=>∃a S n,x=.ref a/\g[a]?=some (.set S n)
 |.index,x,g=>(∃l,x=.tup l)\/∃a l,x=.ref a/\d7 g a=some l
 |_,x,g=>∃a l,x=.ref a/\d7 g a=some l
inductive IK where
 |fix (l:List D)|lst (a:Nat)|oS (a:Nat)|Fe (a n:Nat)
def IK.at:IK->Nat->G->Option (Option D)
 |.fix l,i,_=>some l[i]?
 |.lst a,i,g=>match d7 g a with
  |some l=>some l[i]?
  |none=>none
 |.oS a,i,g=>match d7 g a with
  |some l=>some (l[i]?.map λd=>.tup [.int i,d])
  |none=>none
 |.Fe a n,i,g=>match d7 g a with
  |some l=>if l.length=n then some (if i<n then l[n-1-i]? else none) else none
  |none=>none
inductive MT where
 |one (i:Nat)|many (is:List Nat)
def C7:List Nat->List D->S->Option S
 |[],[],σ=>some σ
 |i::is,d::ds,σ=>C7 is ds (σ.set i (some d))
 |_,_,_=>none
def jZ(t:MT)(x:D)(σ:S)(k:S->Prop):Prop:=match t with
 |.one i=>k (σ.set i (some x))
 |.many is=>∃l cF,x=.tup l/\C7 is l σ=some cF/\k cF
set_option genInjectivity false in
set_option genSizeOf false in
inductive ME where
 |var (i:Nat)|lit (d:D)
 |nil|cons (a b:ME)|prim (p:Pr) (es:ME)|ff (p:Pr) (o es:ME)|pT (es:ME)
 |chain (o1 o2:CmpOp) (a b c:ME)
 |dS (a b:ME)|ke (a b:ME)|fe (a:ME)|ite (c a b:ME)
 |call (f:Nat) (es:ME)|make (c:Str) (f:Nat) (es:ME)|kH (m:Str) (cs:List (Str×Nat)) (o es:ME)
 |comp (d6:List Nat) (n:Nat) (tg:MT) (it cond elt:ME)|hV (d6:List Nat) (n:Nat) (tg:MT) (it cond elt:ME)|kF (d6:List Nat) (n:Nat) (tg:MT) (it cond elt:ME)
 |fF (e:ME)|eG (a:ME)|kL (a b:ME)|lA (e:ME)|sR (e:ME)|fT (e:ME)|no
noncomputable abbrev fY:=Nat->List D->G->KD->KX->Prop
def J5(σ:S)(d6:List Nat)(n:Nat):S:=d6.map (λj=>(σ[j]?).join)++List.replicate (n-d6.length) none
def turns(k:IK)(σ:S)(g:G)(fin:S->G->Prop)(turn:D->(S->G->Prop)->S->G->Prop):Prop :=
 ∃W:Nat->Nat->S->G->Prop,(∃m,W 0 m σ g)/\∀i m σ g,W i m σ g->(k.at i g=some none/\fin σ g)\/∃x,k.at i g=some (some x)/\∃N2:S->G->Prop,(∀cF g',N2 cF g'->∃m',m'<m/\W (i+1) m' cF g')/\turn x N2 σ g
def yP(k:IK)(σ:S)(g:G)(fin:List D->G->Prop)(turn:D->(Option D->S->G->Prop)->S->G->Prop):Prop :=
 ∃W:Nat->Nat->List D->S->G->Prop,(∃m,W 0 m [] σ g)/\∀i m ys σ g,W i m ys σ g->(k.at i g=some none/\fin ys g) \/
  ∃x,k.at i g=some (some x)/\ys.length<100000/\turn x (λy cF g'=>∃m',m'<m/\W (i+1) m' (ys++y.toList) cF g') σ g
def BX(k:IK)(σ:S)(g:G)(fin:List Int->G->Prop)(turn:D->(Option Int->S->G->Prop)->S->G->Prop):Prop :=
 ∃W:Nat->Nat->List Int->S->G->Prop,(∃m,W 0 m [] σ g)/\∀i m ys σ g,W i m ys σ g->(k.at i g=some none/\ys.length<60/\fin ys g) \/
  ∃x,k.at i g=some (some x)/\ys.length<60/\turn x (λy cF g'=>∃m',m'<m/\W (i+1) m' (ys++y.toList) cF g') σ g
mutual
noncomputable def bg(P:fY):ME->S->G->KD->KX->Prop
 |.var i,σ,g,Q,_=>∃d,σ[i]?=some (some d)/\Q d g
 |.lit d,_,g,Q,_=>Q d g
 |.prim p es,σ,g,Q,E=>gk P es σ g (λxs g1=>cS p xs g1 Q) E
 |.ff p o es,σ,g,Q,E=>bg P o σ g (λx g1=>mM p x g1/\gk P es σ g1 (λxs g2=>cS p (x::xs) g2 Q) E) E
 |.pT es,σ,g,Q,E=>gk P es σ (g++[.dg []]) (λxs g1=>∃kvs,wO xs []=some kvs/\xs.length<=30/\g1[g.length]?=some (.dg [])/\Q (.ref g.length) (g1.set g.length (.dg kvs))) E
 |.chain o1 o2 a b c,σ,g,Q,E=>bg P a σ g (λx g1=>bg P b σ g1 (λy g2=>cS (.cmp o1) [x,y] g2 λz g3=>∃t,z=.bl t/\if t=true then bg P c σ g3 (λw g4=>cS (.cmp o2) [y,w] g4 Q) E else Q (.bl false) g3) E) E
 |.dS a b,σ,g,Q,E=>bg P a σ g (λx g1=>∃t,x=.bl t/\if t=true then bg P b σ g1 Q E else Q (.bl false) g1) E
 |.ke a b,σ,g,Q,E=>bg P a σ g (λx g1=>∃t,x=.bl t/\if t=true then Q (.bl true) g1 else bg P b σ g1 Q E) E
 |.fe a,σ,g,Q,E=>bg P a σ g (λx g1=>∃t,x=.bl t/\Q (.bl (!t)) g1) E
 |.ite c a b,σ,g,Q,E=>df P c σ g (λt g1=>if t=true then bg P a σ g1 Q E else bg P b σ g1 Q E) E
 |.call f es,σ,g,Q,E=>gk P es σ g (λxs g1=>P f xs g1 Q E) E
 |.make c f es,σ,g,Q,E=>gk P es σ g (λxs g1=>P f (.ref g1.length::xs) (g1++[.ins c []]) (λd g2=>d=.bN/\Q (.ref g1.length) g2) E) E
 |.kH m cs o es,σ,g,Q,E=>bg P o σ g (λx g1=>∃a c fs f,x=.ref a/\g1[a]?=some (.ins c fs)/\fs.lookup m=none/\cs.lookup c=some f/\gk P es σ g1 (λxs g2=>P f (x::xs) g2 Q E) E) E
 |.comp d6 n tg it cond elt,σ,g,Q,E=>iu P it σ g (λk g1=>yP k (J5 σ d6 n) g1 (λys g=>Q (.ref g.length) (g++[.lst ys])) λx N σ g=>jZ tg x σ λcR=>df P cond cR g (λb g3=>if b=true then bg P elt cR g3 (λy g4=>N (some y) cR g4) jS else N none cR g3) jS) E
 |.kF d6 n tg it cond elt,σ,g,Q,E=>iu P it σ g (λk g1=>yP k (J5 σ d6 n) g1 (λys g=>Q (.ref g.length) (g++[.lst ys])) λx N σ g=>jZ tg x σ λcR=>df P cond cR g (λb g3=>if b=true then bg P elt cR g3 (λy g4=>N (some y) cR g4) E else N none cR g3) jS) E
 |.hV d6 n tg it cond elt,σ,g,Q,E=>iu P it σ g (λk g1=>BX k (J5 σ d6 n) g1 (λys g=>Q (.ref g.length) (g++[.lst ((o6 ys).map .int)])) λx N σ g=>jZ tg x σ λcR=>df P cond cR g (λb g3=>if b=true then bg P elt cR g3 (λy g4=>∃j,y=.int j/\N (some j) cR g4) jS else N none cR g3) jS) E
 |.nil,_,_,_,_=>False
 |.cons _ _,_,_,_,_=>False
 |.fF _,_,_,_,_=>False
 |.eG _,_,_,_,_=>False
 |.kL _ _,_,_,_,_=>False
 |.lA _,_,_,_,_=>False
 |.sR _,_,_,_,_=>False
 |.fT _,_,_,_,_=>False
 |.no,_,_,_,_=>False
noncomputable def gk(P:fY):ME->S->G->(List D->G->Prop)->KX->Prop
 |.nil,_,g,Q,_=>Q [] g
 |.cons a b,σ,g,Q,E=>bg P a σ g (λx g1=>gk P b σ g1 (λxs g2=>Q (x::xs) g2) E) E
 |_,_,_,_,_=>False
noncomputable def df(P:fY):ME->S->G->(Bool->G->Prop)->KX->Prop
 |.dS a b,σ,g,Q,E=>df P a σ g (λt g1=>if t=true then df P b σ g1 Q E else Q false g1) E
 |.ke a b,σ,g,Q,E=>df P a σ g (λt g1=>if t=true then Q true g1 else df P b σ g1 Q E) E
 |.fe a,σ,g,Q,E=>df P a σ g (λt g1=>Q (!t) g1) E
 |.no,_,g,Q,_=>Q true g
 |.fT e,σ,g,Q,E=>bg P e σ g (λx g1=>qc g1 x λb=>Q b g1) E
 |_,_,_,_,_=>False
noncomputable def iu(P:fY):ME->S->G->(IK->G->Prop)->KX->Prop
 |.fF e,σ,g,R,E=>bg P e σ g (λx g1=>(∃l,x=.tup l/\R (.fix l) g1)\/∃a l,x=.ref a/\d7 g1 a=some l/\R (.lst a) g1) E
 |.eG a,σ,g,R,E=>bg P a σ g (λx g1=>∃j:Int,x=.int j/\-(2 ^ 62)<=j/\j<2 ^ 62/\R (.fix (i8 0 j.toNat)) g1) E
 |.kL a b,σ,g,R,E=>bg P a σ g (λx g1=>bg P b σ g1 (λy g2=>∃i j:Int,x=.int i/\y=.int j/\(-(2 ^ 62)<=i/\i<2 ^ 62/\-(2 ^ 62)<=j/\j<2 ^ 62)/\R (.fix (i8 i (j-i).toNat)) g2) E) E
 |.lA e,σ,g,R,E=>bg P e σ g (λx g1=>∃a l,x=.ref a/\d7 g1 a=some l/\R (.oS a) g1) E
 |.sR e,σ,g,R,E=>bg P e σ g (λx g1=>∃a l,x=.ref a/\d7 g1 a=some l/\R (.Fe a l.length) g1) E
 |_,_,_,_,_=>False
end
set_option genInjectivity false in
set_option genSizeOf false in
inductive MS where
 |pass|seq (a b:MS)|expr (e:ME)|set (i:Nat) (e:ME)|lZ (t:MT) (e:ME)|eW (o i v:ME)|iw (f:Str) (cs:List Str) (o v:ME)
 |wu (f:Str) (cs:List Str) (o v:ME)|wt (i:Nat) (p:Pr) (v:ME)|xo (o1 i1 o2 i2 e:ME)
 |ifs (c:ME) (a b:MS)|dX (t:MT) (it:ME) (b:MS)|uy (c:ME) (b:MS)|ret (e:ME)|qz|brk|cont
 |raise (x:Str) (es:ME)|uz (b:MS) (hs:List (Str×ME))
structure Ends where
 nx:S->G->Prop
 rt:KD
 bk:S->G->Prop:=λ_ _=>False
 ct:S->G->Prop:=λ_ _=>False
def ux(P:fY)(N:Ends)(σ:S)(E:KX):List (Str×ME)->KX
 |[],x,g=>E x g
 |(y,e)::r,x,g=>if x.cls=y\/y="MintError" then bg P e σ g N.rt jS else ux P N σ E r x g
def wpS(P:fY):MS->Ends->S->G->KX->Prop
 |.pass,N,σ,g,_=>N.nx σ g
 |.seq a b,N,σ,g,E=>wpS P a { N with nx:=λjY g1=>wpS P b N jY g1 E } σ g E
 |.expr e,N,σ,g,E=>bg P e σ g (λ_ g1=>N.nx σ g1) E
 |.set i e,N,σ,g,E=>bg P e σ g (λx g1=>N.nx (σ.set i (some x)) g1) E
 |.lZ t e,N,σ,g,E=>bg P e σ g (λx g1=>jZ t x σ λjY=>N.nx jY g1) E
 |.eW o i v,N,σ,g,E=>bg P v σ g (λx g1=>bg P o σ g1 (λy g2=>bg P i σ g2 (λz g3=>Y7 y z x g3 λg4=>N.nx σ g4) E) E) E
 |.iw f cs o v,N,σ,g,E=>bg P v σ g (λx g1=>bg P o σ g1 (λy g2=>wD f cs y x g2 λg3=>N.nx σ g3) E) E
 |.wu f cs o v,N,σ,g,E=>bg P o σ g (λy g1=>∃a c fs x,y=.ref a/\g1[a]?=some (.ins c fs)/\c∈cs/\fs.lookup f=some x/\bg P v σ g1 (λz g3=>cS .iadd [x,z] g3 λw g4=>∃rH,g4[a]?=some (.ins c rH)/\rH.length<100/\N.nx σ (g4.set a (.ins c (m9 f w rH)))) E) E
 |.xo o1 i1 o2 i2 e,N,σ,g,E=>bg P e σ g (λx g1=>∃u v,x=.tup [u,v]/\bg P o1 σ g1 (λy1 g2=>bg P i1 σ g2 (λz1 g3=>Y7 y1 z1 u g3 λg4=>bg P o2 σ g4 (λy2 g5=>bg P i2 σ g5 (λz2 g6=>Y7 y2 z2 v g6 λg7=>N.nx σ g7) E) E) E) E) E
 |.wt i p v,N,σ,g,E=>∃x,σ[i]?=some (some x)/\bg P v σ g (λz g1=>cS p [x,z] g1 λw g2=>N.nx (σ.set i (some w)) g2) E
 |.ifs c a b,N,σ,g,E=>df P c σ g (λt g1=>if t=true then wpS P a N σ g1 E else wpS P b N σ g1 E) E
 |.dX t it b,N,σ,g,E=>iu P it σ g (λk g1=>turns k σ g1 N.nx λx N2 σ g=>jZ t x σ λcR=>wpS P b { N with nx:=N2,ct:=N2,bk:=N.nx } cR g E) E
 |.uy c b,N,σ,g,E=>∃W:Nat->S->G->Prop,(∃m,W m σ g)/\∀m σ g,W m σ g->df P c σ g (λt g1=>if t=true then ∃N2:S->G->Prop,(∀cF g',N2 cF g'->∃m',m'<m/\W m' cF g')/\wpS P b { N with nx:=N2,ct:=N2,bk:=N.nx } σ g1 E else N.nx σ g1) E
 |.ret e,N,σ,g,E=>bg P e σ g N.rt E
 |.qz,N,_,g,_=>N.rt .bN g
 |.brk,N,σ,g,_=>N.bk σ g
 |.cont,N,σ,g,_=>N.ct σ g
 |.raise x es,_,σ,g,E=>gk P es σ g (λvs g1=>vs.length<=1000/\E ⟨x⟩ g1) E
 |.uz b hs,N,σ,g,E=>wpS P b N σ g (ux P N (σ.map λ_=>none) E hs)
structure bq where
 ar:Nat
 n:Nat
 body:MS
def d4(m:bq)(ds:List D):S:=ds.map some++List.replicate (m.n-ds.length) none
def d0(T:Nat->Option bq):Nat->fY
 |0,_,_,_,_,_=>False
 |k+1,f,ds,g,Q,E=>∃m,T f=some m/\ds.length=m.ar/\wpS (d0 T k) m.body ⟨λ_ g'=>Q .bN g',Q,λ_ _=>False,λ_ _=>False⟩ (d4 m ds) g E
end M

namespace M
open PySem L2
theorem u7{p xs}{g:G}{Q Q':KD}(h:∀d g,Q d g->Q' d g)(q:cS p xs g Q):cS p xs g Q':=by
 obtain⟨d,g',a,b⟩:=q;exact⟨d,g',a,h _ _ b⟩
theorem YV{x}{g:G}{k k':Bool->Prop}(h:∀b,k b->k' b)(q:qc g x k):qc g x k':=by
 obtain⟨b,a,z⟩:=q;exact⟨b,a,h _ z⟩
theorem S1{x y v}{g:G}{k k':G->Prop}(h:∀g,k g->k' g)(q:Y7 x y v g k):Y7 x y v g k':=by
 obtain⟨b,a,z⟩:=q;exact⟨b,a,h _ z⟩
theorem ZC{f cs x v}{g:G}{k k':G->Prop}(h:∀g,k g->k' g)(q:wD f cs x v g k):wD f cs x v g k':=by
 obtain⟨b,a,z⟩:=q;exact⟨b,a,h _ z⟩
theorem A2{t x σ}{k k':S->Prop}(h:∀σ,k σ->k' σ)(q:jZ t x σ k):jZ t x σ k':=by
 cases t with
 |one i=>exact h _ q
 |many is=>obtain⟨l,cF,a,b,c⟩:=q;exact⟨l,cF,a,b,h _ c⟩
theorem ZK{k σ g}{fin kM:S->G->Prop}{turn iE:D->(S->G->Prop)->S->G->Prop}(h:∀σ g,fin σ g->kM σ g)(h2:∀x N σ g,turn x N σ g->iE x N σ g)(q:turns k σ g fin turn):turns k σ g kM iE:=by
 obtain⟨W,w0,q⟩:=q;refine⟨W,w0,λi m σ g w=>?_⟩;rcases q i m σ g w with⟨a,b⟩|⟨x,a,N2,b,c⟩
 ·exact .inl ⟨a,h _ _ b⟩
 ·exact .inr ⟨x,a,N2,b,h2 _ _ _ _ c⟩
theorem IP{k σ g}{fin kM:List D->G->Prop}{turn iE:D->(Option D->S->G->Prop)->S->G->Prop}(h:∀ys g,fin ys g->kM ys g)(h2:∀x N σ g,turn x N σ g->iE x N σ g)(q:yP k σ g fin turn):yP k σ g kM iE:=by
 obtain⟨W,w0,q⟩:=q;refine⟨W,w0,λi m ys σ g w=>?_⟩;rcases q i m ys σ g w with⟨a,b⟩|⟨x,a,b,c⟩
 ·exact .inl ⟨a,h _ _ b⟩
 ·exact .inr ⟨x,a,b,h2 _ _ _ _ c⟩
theorem aE2{k σ g}{fin kM:List Int->G->Prop}{turn iE:D->(Option Int->S->G->Prop)->S->G->Prop}(h:∀ys g,fin ys g->kM ys g)(h2:∀x N σ g,turn x N σ g->iE x N σ g)(q:BX k σ g fin turn):BX k σ g kM iE:=by
 obtain⟨W,w0,q⟩:=q;refine⟨W,w0,λi m ys σ g w=>?_⟩;rcases q i m ys σ g w with⟨a,b,c⟩|⟨x,a,b,c⟩
 ·exact .inl ⟨a,b,h _ _ c⟩
 ·exact .inr ⟨x,a,b,h2 _ _ _ _ c⟩
theorem E8{t:Bool}{A B A' B':Prop}(h1:A->A')(h2:B->B')(q:if t=true then A else B):if t=true then A' else B':=by
 cases t
 ·exact h2 q
 ·exact h1 q
def j6(P:fY):Prop:=∀f xs g Q Q' E E',(∀d g,Q d g->Q' d g)->(∀x g,E x g->E' x g)->P f xs g Q E->P f xs g Q' E'
mutual
theorem c7{P:fY}(hP:j6 P):∀(e:ME) (σ:S) (g:G) (Q Q':KD) (E E':KX),(∀d g,Q d g->Q' d g)->(∀x g,E x g->E' x g)->bg P e σ g Q E->bg P e σ g Q' E'
 |.var i,σ,g,Q,Q',E,E',h,hx,q=>by
  obtain⟨d,a,b⟩:=q;exact⟨d,a,h _ _ b⟩
 |.lit d,σ,g,Q,Q',E,E',h,hx,q=>by exact h _ _ q
 |.prim p es,σ,g,Q,Q',E,E',h,hx,q=>by
  exact x8 hP es _ _ _ _ _ _ (λxs g1 q=>u7 h q) hx q
 |.ff p o es,σ,g,Q,Q',E,E',h,hx,q=>by
  exact c7 hP o _ _ _ _ _ _ (λx g1 q=>⟨q.1,x8 hP es _ _ _ _ _ _ (λxs g2 q=>u7 h q) hx q.2⟩) hx q
 |.pT es,σ,g,Q,Q',E,E',h,hx,q=>by
  exact x8 hP es _ _ _ _ _ _ (λxs g1 ⟨kvs,a,b,c,d⟩=>⟨kvs,a,b,c,h _ _ d⟩) hx q
 |.chain o1 o2 a b c,σ,g,Q,Q',E,E',h,hx,q=>by
  refine c7 hP a _ _ _ _ _ _ (λx g1 q=>c7 hP b _ _ _ _ _ _ (λy g2 q=>u7 (λz g3 q=>?_) q) hx q) hx q;obtain⟨t,e,q⟩:=q;exact⟨t,e,E8 (λq=>c7 hP c _ _ _ _ _ _ (λw g4 q=>u7 h q) hx q) (h _ _) q⟩
 |.dS a b,σ,g,Q,Q',E,E',h,hx,q=>by
  refine c7 hP a _ _ _ _ _ _ (λx g1 q=>?_) hx q;obtain⟨t,e,q⟩:=q;exact⟨t,e,E8 (λq=>c7 hP b _ _ _ _ _ _ h hx q) (h _ _) q⟩
 |.ke a b,σ,g,Q,Q',E,E',h,hx,q=>by
  refine c7 hP a _ _ _ _ _ _ (λx g1 q=>?_) hx q;obtain⟨t,e,q⟩:=q;exact⟨t,e,E8 (h _ _) (λq=>c7 hP b _ _ _ _ _ _ h hx q) q⟩
 |.fe a,σ,g,Q,Q',E,E',h,hx,q=>by
  refine c7 hP a _ _ _ _ _ _ (λx g1 q=>?_) hx q;obtain⟨t,e,q⟩:=q;exact⟨t,e,h _ _ q⟩
 |.ite c a b,σ,g,Q,Q',E,E',h,hx,q=>by
  exact t8 hP c _ _ _ _ _ _ (λt g1 q=>E8 (λq=>c7 hP a _ _ _ _ _ _ h hx q) (λq=>c7 hP b _ _ _ _ _ _ h hx q) q) hx q
 |.call f es,σ,g,Q,Q',E,E',h,hx,q=>by
  exact x8 hP es _ _ _ _ _ _ (λxs g1 q=>hP _ _ _ _ _ _ _ h hx q) hx q
 |.make c f es,σ,g,Q,Q',E,E',h,hx,q=>by
  exact x8 hP es _ _ _ _ _ _ (λxs g1 q=>hP _ _ _ _ _ _ _ (λd g2 q=>⟨q.1,h _ _ q.2⟩) hx q) hx q
 |.kH m cs o es,σ,g,Q,Q',E,E',h,hx,q=>by
  refine c7 hP o _ _ _ _ _ _ (λx g1 q=>?_) hx q;obtain⟨a,c,fs,f,q1,q2,q3,q4,q⟩:=q;exact⟨a,c,fs,f,q1,q2,q3,q4,x8 hP es _ _ _ _ _ _ (λxs g2 q=>hP _ _ _ _ _ _ _ h hx q) hx q⟩
 |.comp d6 n tg it cond elt,σ,g,Q,Q',E,E',h,hx,q=>by
  exact B4 hP it _ _ _ _ _ _ (λk g1 q=>IP (λys g q=>h _ _ q) (λ_ _ _ _ q=>q) q) hx q
 |.kF d6 n tg it cond elt,σ,g,Q,Q',E,E',h,hx,q=>by
  exact B4 hP it _ _ _ _ _ _ (λk g1 q=>IP (λys g q=>h _ _ q) (λx N σ g q=>A2 (λcR q=>t8 hP cond _ _ _ _ _ _ (λb g3 q=>by
   cases b
   ·exact q
   ·exact c7 hP elt _ _ _ _ _ _ (λ_ _ z=>z) hx q) (λ_ _ z=>z) q) q) q) hx q
 |.hV d6 n tg it cond elt,σ,g,Q,Q',E,E',h,hx,q=>by
  exact B4 hP it _ _ _ _ _ _ (λk g1 q=>aE2 (λys g q=>h _ _ q) (λ_ _ _ _ q=>q) q) hx q
 |.nil,σ,g,Q,Q',E,E',h,hx,q=>(show False from q).elim
 |.cons _ _,σ,g,Q,Q',E,E',h,hx,q=>(show False from q).elim
 |.fF _,σ,g,Q,Q',E,E',h,hx,q=>(show False from q).elim
 |.eG _,σ,g,Q,Q',E,E',h,hx,q=>(show False from q).elim
 |.kL _ _,σ,g,Q,Q',E,E',h,hx,q=>(show False from q).elim
 |.lA _,σ,g,Q,Q',E,E',h,hx,q|.sR _,σ,g,Q,Q',E,E',h,hx,q=>(show False from q).elim
 |.fT _,σ,g,Q,Q',E,E',h,hx,q=>(show False from q).elim
 |.no,σ,g,Q,Q',E,E',h,hx,q=>(show False from q).elim
theorem x8{P:fY}(hP:j6 P):∀(e:ME) (σ:S) (g:G) (Q Q':List D->G->Prop) (E E':KX),(∀d g,Q d g->Q' d g)->(∀x g,E x g->E' x g)->gk P e σ g Q E->gk P e σ g Q' E'
 |.nil,σ,g,Q,Q',E,E',h,hx,q=>by exact h _ _ q
 |.cons a b,σ,g,Q,Q',E,E',h,hx,q=>by
  exact c7 hP a _ _ _ _ _ _ (λx g1 q=>x8 hP b _ _ _ _ _ _ (λxs g2 q=>h _ _ q) hx q) hx q
 |.var _,σ,g,Q,Q',E,E',h,hx,q|.lit _,σ,g,Q,Q',E,E',h,hx,q|.prim _ _,σ,g,Q,Q',E,E',h,hx,q|.ff _ _ _,σ,g,Q,Q',E,E',h,hx,q|.pT _,σ,g,Q,Q',E,E',h,hx,q|.chain _ _ _ _ _,σ,g,Q,Q',E,E',h,hx,q|.dS _ _,σ,g,Q,Q',E,E',h,hx,q|.ke _ _,σ,g,Q,Q',E,E',h,hx,q|.fe _,σ,g,Q,Q',E,E',h,hx,q|.ite _ _ _,σ,g,Q,Q',E,E',h,hx,q|.call _ _,σ,g,Q,Q',E,E',h,hx,q
 |.make _ _ _,σ,g,Q,Q',E,E',h,hx,q|.kH _ _ _ _,σ,g,Q,Q',E,E',h,hx,q|.comp _ _ _ _ _ _,σ,g,Q,Q',E,E',h,hx,q|.hV _ _ _ _ _ _,σ,g,Q,Q',E,E',h,hx,q|.kF _ _ _ _ _ _,σ,g,Q,Q',E,E',h,hx,q|.fF _,σ,g,Q,Q',E,E',h,hx,q|.eG _,σ,g,Q,Q',E,E',h,hx,q|.kL _ _,σ,g,Q,Q',E,E',h,hx,q|.lA _,σ,g,Q,Q',E,E',h,hx,q|.sR _,σ,g,Q,Q',E,E',h,hx,q|.fT _,σ,g,Q,Q',E,E',h,hx,q|.no,σ,g,Q,Q',E,E',h,hx,q=>(show False from q).elim
theorem t8{P:fY}(hP:j6 P):∀(e:ME) (σ:S) (g:G) (Q Q':Bool->G->Prop) (E E':KX),(∀d g,Q d g->Q' d g)->(∀x g,E x g->E' x g)->df P e σ g Q E->df P e σ g Q' E'
 |.dS a b,σ,g,Q,Q',E,E',h,hx,q=>by
  exact t8 hP a _ _ _ _ _ _ (λt g1 q=>E8 (λq=>t8 hP b _ _ _ _ _ _ h hx q) (h _ _) q) hx q
 |.ke a b,σ,g,Q,Q',E,E',h,hx,q=>by
  exact t8 hP a _ _ _ _ _ _ (λt g1 q=>E8 (h _ _) (λq=>t8 hP b _ _ _ _ _ _ h hx q) q) hx q
 |.fe a,σ,g,Q,Q',E,E',h,hx,q=>by exact t8 hP a _ _ _ _ _ _ (λt g1 q=>h _ _ q) hx q
 |.no,σ,g,Q,Q',E,E',h,hx,q=>by exact h _ _ q
 |.fT e,σ,g,Q,Q',E,E',h,hx,q=>by exact c7 hP e _ _ _ _ _ _ (λx g1 q=>YV (λb q=>h _ _ q) q) hx q
 |.var _,σ,g,Q,Q',E,E',h,hx,q|.lit _,σ,g,Q,Q',E,E',h,hx,q|.prim _ _,σ,g,Q,Q',E,E',h,hx,q|.ff _ _ _,σ,g,Q,Q',E,E',h,hx,q|.pT _,σ,g,Q,Q',E,E',h,hx,q|.chain _ _ _ _ _,σ,g,Q,Q',E,E',h,hx,q|.ite _ _ _,σ,g,Q,Q',E,E',h,hx,q|.call _ _,σ,g,Q,Q',E,E',h,hx,q|.nil,σ,g,Q,Q',E,E',h,hx,q|.cons _ _,σ,g,Q,Q',E,E',h,hx,q
 |.make _ _ _,σ,g,Q,Q',E,E',h,hx,q|.kH _ _ _ _,σ,g,Q,Q',E,E',h,hx,q|.comp _ _ _ _ _ _,σ,g,Q,Q',E,E',h,hx,q|.hV _ _ _ _ _ _,σ,g,Q,Q',E,E',h,hx,q|.kF _ _ _ _ _ _,σ,g,Q,Q',E,E',h,hx,q|.fF _,σ,g,Q,Q',E,E',h,hx,q|.eG _,σ,g,Q,Q',E,E',h,hx,q|.kL _ _,σ,g,Q,Q',E,E',h,hx,q|.lA _,σ,g,Q,Q',E,E',h,hx,q|.sR _,σ,g,Q,Q',E,E',h,hx,q=>(show False from q).elim
theorem B4{P:fY}(hP:j6 P):∀(e:ME) (σ:S) (g:G) (Q Q':IK->G->Prop) (E E':KX),(∀d g,Q d g->Q' d g)->(∀x g,E x g->E' x g)->iu P e σ g Q E->iu P e σ g Q' E'
 |.fF e,σ,g,Q,Q',E,E',h,hx,q=>by
  exact c7 hP e _ _ _ _ _ _ (λx g1 q=>q.imp (λ⟨l,a,b⟩=>⟨l,a,h _ _ b⟩) λ⟨i,l,a,b,c⟩=>⟨i,l,a,b,h _ _ c⟩) hx q
 |.eG a,σ,g,Q,Q',E,E',h,hx,q=>by
  exact c7 hP a _ _ _ _ _ _ (λx g1 ⟨j,a,b,c,d⟩=>⟨j,a,b,c,h _ _ d⟩) hx q
 |.kL a b,σ,g,Q,Q',E,E',h,hx,q=>by
  exact c7 hP a _ _ _ _ _ _ (λx g1 q=>c7 hP b _ _ _ _ _ _ (λy g2 ⟨i,j,a,b,c,d⟩=>⟨i,j,a,b,c,h _ _ d⟩) hx q) hx q
 |.lA e,σ,g,Q,Q',E,E',h,hx,q=>by
  exact c7 hP e _ _ _ _ _ _ (λx g1 ⟨i,l,a,b,c⟩=>⟨i,l,a,b,h _ _ c⟩) hx q
 |.sR e,σ,g,Q,Q',E,E',h,hx,q=>by
  exact c7 hP e _ _ _ _ _ _ (λx g1 ⟨i,l,a,b,c⟩=>⟨i,l,a,b,h _ _ c⟩) hx q
 |.var _,σ,g,Q,Q',E,E',h,hx,q|.lit _,σ,g,Q,Q',E,E',h,hx,q|.prim _ _,σ,g,Q,Q',E,E',h,hx,q|.ff _ _ _,σ,g,Q,Q',E,E',h,hx,q|.pT _,σ,g,Q,Q',E,E',h,hx,q|.chain _ _ _ _ _,σ,g,Q,Q',E,E',h,hx,q|.ite _ _ _,σ,g,Q,Q',E,E',h,hx,q|.call _ _,σ,g,Q,Q',E,E',h,hx,q|.nil,σ,g,Q,Q',E,E',h,hx,q|.cons _ _,σ,g,Q,Q',E,E',h,hx,q
 |.dS _ _,σ,g,Q,Q',E,E',h,hx,q|.ke _ _,σ,g,Q,Q',E,E',h,hx,q|.fe _,σ,g,Q,Q',E,E',h,hx,q|.fT _,σ,g,Q,Q',E,E',h,hx,q|.no,σ,g,Q,Q',E,E',h,hx,q
 |.make _ _ _,σ,g,Q,Q',E,E',h,hx,q|.kH _ _ _ _,σ,g,Q,Q',E,E',h,hx,q|.comp _ _ _ _ _ _,σ,g,Q,Q',E,E',h,hx,q|.hV _ _ _ _ _ _,σ,g,Q,Q',E,E',h,hx,q|.kF _ _ _ _ _ _,σ,g,Q,Q',E,E',h,hx,q=>(show False from q).elim
end
structure Ends.le(N N':Ends):Prop where
 nx:∀σ g,N.nx σ g->N'.nx σ g
 rt:∀d g,N.rt d g->N'.rt d g
 bk:∀σ g,N.bk σ g->N'.bk σ g
 ct:∀σ g,N.ct σ g->N'.ct σ g
theorem HE{P:fY}(hP:j6 P){N N':Ends}{E E':KX}(h:N.le N')(hx:∀x g,E x g->E' x g){σ:S}:∀(hs:List (Str×ME)) x g,ux P N σ E hs x g->ux P N' σ E' hs x g
 |[],x,g,q=>hx x g q
 |(y,e)::r,x,g,q=>by
  unfold ux at q ⊢;split
  ·rename_i hh;rw[aJ hh] at q;exact c7 hP e _ _ _ _ _ _ h.rt (λ_ _ z=>z) q
  ·rename_i hh;rw[aC hh] at q;exact HE hP h hx r x g q
theorem wpS_mono{P:fY}(hP:j6 P):∀(s:MS) (N N':Ends) (σ:S) (g:G) (E E':KX),N.le N'->(∀x g,E x g->E' x g)->wpS P s N σ g E->wpS P s N' σ g E'
 |.pass,N,N',σ,g,E,E',h,hx,q=>h.nx _ _ q
 |.seq a b,N,N',σ,g,E,E',h,hx,q=>wpS_mono hP a { N with nx:=λjY g1=>wpS P b N jY g1 E } { N' with nx:=λjY g1=>wpS P b N' jY g1 E' } _ _ _ _ ⟨λjY g1 q=>wpS_mono hP b _ _ _ _ _ _ h hx q,h.rt,h.bk,h.ct⟩ hx q
 |.expr e,N,N',σ,g,E,E',h,hx,q=>c7 hP e _ _ _ _ _ _ (λx g1 q=>h.nx _ _ q) hx q
 |.set i e,N,N',σ,g,E,E',h,hx,q=>c7 hP e _ _ _ _ _ _ (λx g1 q=>h.nx _ _ q) hx q
 |.lZ t e,N,N',σ,g,E,E',h,hx,q=>c7 hP e _ _ _ _ _ _ (λx g1 q=>A2 (λσ q=>h.nx _ _ q) q) hx q
 |.eW o i v,N,N',σ,g,E,E',h,hx,q=>c7 hP v _ _ _ _ _ _ (λx g1 q=>c7 hP o _ _ _ _ _ _ (λy g2 q=>c7 hP i _ _ _ _ _ _ (λz g3 q=>S1 (λg q=>h.nx _ _ q) q) hx q) hx q) hx q
 |.iw f cs o v,N,N',σ,g,E,E',h,hx,q=>c7 hP v _ _ _ _ _ _ (λx g1 q=>c7 hP o _ _ _ _ _ _ (λy g2 q=>ZC (λg q=>h.nx _ _ q) q) hx q) hx q
 | .wu f cs o v,N,N',σ,g,E,E',h,hx,q=>c7 hP o _ _ _ _ _ _ (λy g1 q=>by
   obtain⟨a,c,fs,x,q1,q2,q3,q4,q⟩:=q;exact ⟨a,c,fs,x,q1,q2,q3,q4,c7 hP v _ _ _ _ _ _ (λz g3 q=>u7 (λw g4 q=>by
    obtain⟨rH,k1,k2,k3⟩:=q;exact ⟨rH,k1,k2,h.nx _ _ k3⟩) q) hx q⟩) hx q
 |.xo o1 i1 o2 i2 e,N,N',σ,g,E,E',h,hx,q=>c7 hP e _ _ _ _ _ _ (λx g1 q=>let ⟨u,v,q1,q⟩:=q;⟨u,v,q1,c7 hP o1 _ _ _ _ _ _ (λy g2 q=>c7 hP i1 _ _ _ _ _ _ (λz g3 q=>S1 (λg4 q=>c7 hP o2 _ _ _ _ _ _ (λy g5 q=>c7 hP i2 _ _ _ _ _ _ (λz g6 q=>S1 (λg q=>h.nx _ _ q) q) hx q) hx q) q) hx q) hx q⟩) hx q
 |.wt i p v,N,N',σ,g,E,E',h,hx,q=>let ⟨x,q1,q⟩:=q;⟨x,q1,c7 hP v _ _ _ _ _ _ (λz g1 q=>u7 (λw g2 q=>h.nx _ _ q) q) hx q⟩
 |.ifs c a b,N,N',σ,g,E,E',h,hx,q=>t8 hP c _ _ _ _ _ _ (λt g1 q=>E8 (λq=>wpS_mono hP a _ _ _ _ _ _ h hx q) (λq=>wpS_mono hP b _ _ _ _ _ _ h hx q) q) hx q
 |.dX t it b,N,N',σ,g,E,E',h,hx,q=>B4 hP it _ _ _ _ _ _ (λk g1 q=>ZK h.nx (λx N2 σ g q=>A2 (λcR q=>wpS_mono hP b { N with nx:=N2,ct:=N2,bk:=N.nx } { N' with nx:=N2,ct:=N2,bk:=N'.nx } _ _ _ _ ⟨λ_ _ z=>z,h.rt,h.nx,λ_ _ z=>z⟩ hx q) q) q) hx q
 |.uy c b,N,N',σ,g,E,E',h,hx,q=>by
  obtain⟨W,w0,q⟩:=q;refine⟨W,w0,λm σ g w=>t8 hP c _ _ _ _ _ _ (λt g1 q=>E8 (λq=>?_) (h.nx _ _) q) hx (q m σ g w)⟩;obtain⟨N2,a,q⟩:=q;exact⟨N2,a,wpS_mono hP b { N with nx:=N2,ct:=N2,bk:=N.nx } { N' with nx:=N2,ct:=N2,bk:=N'.nx } _ _ _ _ ⟨λ_ _ z=>z,h.rt,h.nx,λ_ _ z=>z⟩ hx q⟩
 |.ret e,N,N',σ,g,E,E',h,hx,q=>c7 hP e _ _ _ _ _ _ h.rt hx q
 |.qz,N,N',σ,g,E,E',h,hx,q=>h.rt _ _ q
 |.brk,N,N',σ,g,E,E',h,hx,q=>h.bk _ _ q
 |.cont,N,N',σ,g,E,E',h,hx,q=>h.ct _ _ q
 |.raise x es,N,N',σ,g,E,E',h,hx,q=>x8 hP es _ _ _ _ _ _ (λvs g1 q=>⟨q.1,hx _ _ q.2⟩) hx q
 |.uz b hs,N,N',σ,g,E,E',h,hx,q=>wpS_mono hP b _ _ _ _ _ _ h (λx g q=>HE hP h hx hs x g q) q
theorem b0(T:Nat->Option bq):∀k,j6 (d0 T k)
 |0=>λf xs g Q Q' E E' h hx q=>q.elim
 |k+1=>λf xs g Q Q' E E' h hx q=>by
  obtain⟨m,a,b,q⟩:=q;exact⟨m,a,b,wpS_mono (b0 T k) m.body ⟨λ_ g'=>Q .bN g',Q,λ_ _=>False,λ_ _=>False⟩ _ _ _ _ _ ⟨λ_ _ z=>h _ _ z,h,λ_ _ z=>z,λ_ _ z=>z⟩ hx q⟩
end M

namespace M
open PySem L2
def TupAt(K:PySem.W.Frag)(H:Hp)(a:Addr)(vs:List V):Prop :=
 H a=some (.tup vs)\/∃(o:Obj) (ba:Array Value) (n:Nat),K.lookup a=some o/\o.cls=.type "tuple"/\o.dict=none/\o.data=.seq ba n/\ba.size<=sizeLine/\Vals vs ba.toList
theorem TupAt.d{K:PySem.W.Frag}{H:Hp}{a:Addr}{vs:List V}(h:TupAt K H a vs):Ej K H a vs:=h
theorem TupAt.sq{K:PySem.W.Frag}{H:Hp}{a:Addr}{vs:List V}(h:TupAt K H a vs):jc K H a vs:=h.d.sq
mutual
inductive f6(K:PySem.W.Frag)(ρ:List Addr)(H:Hp):D->V->Prop
 |bN:f6 K ρ H .bN .bN
 |bl (b:Bool):f6 K ρ H (.bl b) (.bl b)
 |int (i:Int):f6 K ρ H (.int i) (.int i)
 |str (x:Str):f6 K ρ H (.str x) (.str x)
 |ty (n:String):f6 K ρ H (.ty n) (.ty n)
 |ref {i:Nat} {a:Addr} (h:ρ[i]?=some a):f6 K ρ H (.ref i) (.ref a)
 |tup {l:List D} {a:Addr} {vs:List V} (h:TupAt K H a vs) (r:b9 K ρ H l vs):f6 K ρ H (.tup l) (.ref a)
inductive b9(K:PySem.W.Frag)(ρ:List Addr)(H:Hp):List D->List V->Prop
 |nil:b9 K ρ H [] []
 |cons {d:D} {v:V} {ds:List D} {vs:List V} (h:f6 K ρ H d v) (r:b9 K ρ H ds vs):b9 K ρ H (d::ds) (v::vs)
end
structure Ext(ρ:List Addr)(H:Hp)(bQ:List Addr)(H':Hp):Prop where
 pre:∃more,bQ=ρ++more
 tup:∀a xs,H a=some (.tup xs)->H' a=some (.tup xs)
theorem Ext.refl(ρ:List Addr)(H:Hp):Ext ρ H ρ H:=⟨⟨[],by simp⟩,λ_ _ h=>h⟩
theorem Ext.trans{ρ H bZ H1 fM H2}(a:Ext ρ H bZ H1)(b:Ext bZ H1 fM H2):Ext ρ H fM H2:=by
 obtain⟨⟨m,rfl⟩,t⟩:=a;obtain⟨⟨m',rfl⟩,t'⟩:=b;exact⟨⟨m++m',by simp⟩,λx xs h=>t' _ _ (t _ _ h)⟩
theorem Ext.get{ρ H bQ H'}(e:Ext ρ H bQ H'){i:Nat}{a:Addr}(h:ρ[i]?=some a):bQ[i]?=some a:=by
 obtain⟨⟨m,rfl⟩,_⟩:=e;rw[aL (aw.mp h).1];exact h
theorem TupAt.ext{K ρ H bQ H'}(e:Ext ρ H bQ H'){a:Addr}{vs:List V}(h:TupAt K H a vs):TupAt K H' a vs:=h.elim (λz=>.inl (e.tup _ _ z)) .inr
mutual
theorem f6.ext{K ρ H bQ H'}(e:Ext ρ H bQ H'):∀{d v},f6 K ρ H d v->f6 K bQ H' d v
 |_,_,.bN=>.bN
 |_,_,.bl b=>.bl b
 |_,_,.int i=>.int i
 |_,_,.str x=>.str x
 |_,_,.ty n=>.ty n
 |_,_,.ref h=>.ref (e.get h)
 |_,_,.tup h r=>.tup (h.ext e) (b9.ext e r)
theorem b9.ext{K ρ H bQ H'}(e:Ext ρ H bQ H'):∀{ds vs},b9 K ρ H ds vs->b9 K bQ H' ds vs
 |_,_,.nil=>.nil
 |_,_,.cons h r=>.cons (f6.ext e h) (b9.ext e r)
end
theorem b9.length{K ρ H}{ds:List D}{vs:List V}(h:b9 K ρ H ds vs):ds.length=vs.length:=by
 induction ds generalizing vs with
 |nil=>cases h;rfl
 |cons d ds ih =>
  cases h with
  |cons q r=>simp[ih r]
theorem b9.get{K ρ H}:∀{ds vs} {i:Nat} {d:D},b9 K ρ H ds vs->ds[i]?=some d->∃v,vs[i]?=some v/\f6 K ρ H d v
 |_,_,_,_,.nil,h=>by simp at h
 |_,_,0,_,.cons h _,e=>by simp at e;subst e;exact⟨_,rfl,h⟩
 |_,_,i+1,d,.cons _ r,e=>by
  obtain⟨v,h1,h2⟩:=b9.get (i:=i) (d:=d) r (by simpa using e);exact⟨v,by simpa using h1,h2⟩
theorem b9.set{K ρ H}{d:D}{v:V}(h:f6 K ρ H d v):∀{ds vs} (i:Nat),b9 K ρ H ds vs->b9 K ρ H (ds.set i d) (vs.set i v)
 |_,_,_,.nil=>.nil
 |_,_,0,.cons _ r=>.cons h r
 |_,_,i+1,.cons q r=>.cons q (b9.set h i r)
theorem b9.append{K ρ H}{ds es:List D}{vs ws:List V}(h:b9 K ρ H ds vs)(s:b9 K ρ H es ws):b9 K ρ H (ds++es) (vs++ws):=by
 induction ds generalizing vs with
 |nil=>cases h;exact s
 |cons d ds ih =>
  cases h with
  |cons q r=>exact .cons q (ih r)
theorem b9.rep{K ρ H}{ds:List D}{vs:List V}(r:b9 K ρ H ds vs):∀n,b9 K ρ H (List.replicate n ds).flatten (List.replicate n vs).flatten
 |0=>.nil
 |n+1=>by
  rw[cj,cj,dy,dy];exact b9.append r (b9.rep r n)
theorem b9.erase{K ρ H}:∀{ds:List D} {vs:List V} (i:Nat),b9 K ρ H ds vs->b9 K ρ H (ds.eraseIdx i) (vs.eraseIdx i)
 |_,_,_,.nil=>.nil
 |_,_,0,.cons _ r=>r
 |_,_,i+1,.cons q r=>.cons q (b9.erase i r)
theorem b9.take{K ρ H}:∀{ds:List D} {vs:List V} (n:Nat),b9 K ρ H ds vs->b9 K ρ H (ds.take n) (vs.take n)
 |_,_,0,_=>.nil
 |_,_,_+1,.nil=>.nil
 |_,_,n+1,.cons h r=>.cons h (b9.take n r)
theorem b9.drop{K ρ H}:∀{ds:List D} {vs:List V} (n:Nat),b9 K ρ H ds vs->b9 K ρ H (ds.drop n) (vs.drop n)
 |_,_,0,r=>r
 |_,_,_+1,.nil=>.nil
 |_,_,n+1,.cons _ r=>b9.drop n r
theorem b9.reverse{K ρ H}:∀{ds:List D} {vs:List V},b9 K ρ H ds vs->b9 K ρ H ds.reverse vs.reverse
 |_,_,.nil=>.nil
 |_,_,.cons h r=>by
  rw[gU,gU];exact b9.append (b9.reverse r) (.cons h .nil)
theorem b9.cut{K ρ H}{ds:List D}{vs:List V}(r:b9 K ρ H ds vs)(lo hi:Option Int):b9 K ρ H (M.cut ds lo hi) (R6 vs lo hi):=by
 unfold M.cut R6;rw[r.length];exact(r.drop _).take _
theorem b9.ints{K ρ H}:∀{ns:List Int} {vs:List V},b9 K ρ H (ns.map D.int) vs->vs=ns.map V.int
 |[],_,.nil=>rfl
 |_::_,_,.cons h r=>by cases h;rw[b9.ints r];rfl
theorem b9.ofInts{K ρ H}:∀(ns:List Int),b9 K ρ H (ns.map D.int) (ns.map V.int)
 |[]=>.nil
 |n::r=>.cons (.int n) (b9.ofInts r)
def tS(K:PySem.W.Frag)(H:Hp)(a:Addr)(vs:List V):Prop :=
 (∃o,H a=some (.kj o (.lst vs)))\/∃(o:Obj) (ba:Array Value) (n:Nat),K.lookup a=some o/\o.cls=.type "list"/\o.dict=none/\o.data=.seq ba n/\ba.size<=sizeLine/\Vals vs ba.toList
theorem tS.sq{K:PySem.W.Frag}{H:Hp}{a:Addr}{vs:List V}(h:tS K H a vs):gp K H a vs:=h.elim (λ⟨o,z⟩=>.inl (.inr ⟨o,z⟩)) .inr
inductive i7{α:Type}(K:PySem.W.Frag)(ρ:List Addr)(H:Hp):List (α×D)->List (α×V)->Prop
 |nil:i7 K ρ H [] []
 |cons {k:α} {d:D} {v:V} {ds:List (α×D)} {vs:List (α×V)} (h:f6 K ρ H d v) (r:i7 K ρ H ds vs):i7 K ρ H ((k,d)::ds) ((k,v)::vs)
theorem i7.ext{α:Type}{K ρ H bQ H'}(e:Ext ρ H bQ H'){ds:List (α×D)}{vs:List (α×V)}(h:i7 K ρ H ds vs):i7 K bQ H' ds vs:=by
 induction h with
 |nil=>exact .nil
 |cons h r ih=>exact .cons (h.ext e) ih
theorem i7.length{α:Type}{K ρ H}{ds:List (α×D)}{vs:List (α×V)}(h:i7 K ρ H ds vs):ds.length=vs.length:=by
 induction h with
 |nil=>rfl
 |cons h r ih=>simp[ih]
def se(K:PySem.W.Frag)(ρ:List Addr)(H:Hp):Option D->Option V->Prop
 |some d,some v=>f6 K ρ H d v
 |none,none=>True
 |_,_=>False
theorem i7.val{K ρ H}:∀{ds vs} (k:Key),i7 K ρ H ds vs->se K ρ H (w6 ds k) (K7 vs k)
 |_,_,k,.nil=>trivial
 |_,_,k,.cons (k:=k') h r=>by
  unfold w6 K7;rw[fg,fg];by_cases e:k'=k
  ·simp only[e,decide_true];exact h
  ·simp only[e,decide_false];exact i7.val k r
theorem i7.Ko{K ρ H}:∀{ds vs} (k:Key),i7 K ρ H ds vs->(ds.any λkv=>decide (kv.1=k))=(vs.any λkv=>decide (kv.1=k))
 |_,_,k,.nil=>rfl
 |_,_,k,.cons h r=>by simp only[List.any_cons,i7.Ko k r]
theorem i7.snoc{K ρ H}{k:Key}{d:D}{v:V}(h:f6 K ρ H d v){ds vs}(t:i7 K ρ H ds vs):i7 K ρ H (ds++[(k,d)]) (vs++[(k,v)]):=by
 induction ds generalizing vs with
 |nil=>cases t;exact .cons h .nil
 |cons d ds ih =>
  cases t with
  |cons q r=>exact .cons q (ih r)
theorem i7.Ed{K ρ H}{k:Key}{d:D}{v:V}(h:f6 K ρ H d v):∀{ds vs},i7 K ρ H ds vs->i7 K ρ H (ds.map λkv=>if kv.1=k then(kv.1,d) else kv) (vs.map λkv=>if kv.1=k then(kv.1,v) else kv)
 |_,_,.nil=>.nil
 |_,_,.cons (k:=k') q r=>by
  simp only[List.map_cons];by_cases e:k'=k
  ·rw[aJ e,aJ e];exact .cons h (i7.Ed h r)
  ·rw[aC e,aC e];exact .cons q (i7.Ed h r)
theorem i7.put{K ρ H}{k:Key}{d:D}{v:V}(h:f6 K ρ H d v){ds vs}(r:i7 K ρ H ds vs):i7 K ρ H (putD ds k d) (putK vs k v):=by
 unfold putD putK;rw[r.Ko k];split
 ·exact r.Ed h
 ·exact r.snoc h
noncomputable abbrev v8(K:PySem.W.Frag)(x:Str)(C:Addr):Prop:=PySem.W.nsIn K mainGlobals x=some (some (.ref C))
theorem i7.look{K ρ H}{ds:List (Str×D)}{vs:List (Str×V)}(f:Str)(h:i7 K ρ H ds vs):se K ρ H (ds.lookup f) (vs.lookup f):=by
 induction h with
 |nil=>trivial
 |cons h r ih =>
  rename_i k d v ds vs;rw[cP,cP];cases f==k
  ·exact ih
  ·exact h
theorem i7.A4{K ρ H}{f:Str}{d:D}{v:V}(h:f6 K ρ H d v){ds:List (Str×D)}{vs:List (Str×V)}(r:i7 K ρ H ds vs):i7 K ρ H (m9 f d ds) (L2.A4 f v vs):=by
 induction r with
 |nil=>exact .cons h .nil
 |cons q r ih =>
  unfold m9 L2.A4;split
  ·exact .cons h r
  ·exact .cons q ih
theorem Iw{f:Str}{d:D}{p:Str->Prop}(hf:p f):∀{ds:List (Str×D)},(∀x∈ds,p x.1)->∀x∈m9 f d ds,p x.1
 |[],_,x,hx=>by
  have:x=(f,d):=by simpa[m9] using hx
  rw[this];exact hf
 |(k,e)::r,h,x,hx=>by
  unfold m9 at hx;split at hx
  ·rcases aE.mp hx with z|z
   ·rw[z];exact h (k,e) (by simp)
   ·exact h x (by simp[z])
  ·rcases aE.mp hx with z|z
   ·rw[z];exact h (k,e) (by simp)
   ·exact Iw hf (λy hy=>h y (by simp[hy])) x z
def OH(K:PySem.W.Frag)(ρ:List Addr)(H:Hp):O->HO->Prop
 |.lst l,.lst vs=>b9 K ρ H l vs
 |.dg kvs,.dK vs=>i7 K ρ H kvs vs
 |.set S n,.set S' n'=>S=S'/\n=n'
 |.ins c fs,.ins C _ vs=>v8 K c C/\ku K C/\i7 K ρ H fs vs/\∀x∈fs,B3 K C x.1
 |_,_=>False
theorem OH.ext{K ρ H bQ H'}(e:Ext ρ H bQ H'){o:O}{u:HO}(h:OH K ρ H o u):OH K bQ H' o u:=by
 cases o<;>cases u<;>first|exact h.elim|exact b9.ext e h|exact i7.ext e h|exact⟨h.1,h.2.1,h.2.2.1.ext e,h.2.2.2⟩|exact h
theorem OH.tZ{K ρ H}{o:O}{xs:List V}(h:OH K ρ H o (.tup xs)):False:=by cases o<;>exact h
theorem OH.WL{K ρ H}{o:O}{ob:Obj}{u:HO}(h:OH K ρ H o (.kj ob u)):False:=by cases o<;>exact h
def J6(K:PySem.W.Frag)(ρ:List Addr)(H:Hp)(o:O)(a:Addr):Prop:=match o with
 |.oJ l=>∃vs,tS K H a vs/\b9 K ρ H l vs
 |o=>∃u,H a=some u/\OH K ρ H o u
theorem J6.of{K ρ H}{o:O}{a:Addr}{u:HO}(hu:H a=some u)(h:OH K ρ H o u):J6 K ρ H o a:=by
 cases o<;>first|exact⟨u,hu,h⟩|(cases u<;>exact h.elim)
theorem J6.inv{K ρ H}{o:O}{a:Addr}(m:o.mut=true)(h:J6 K ρ H o a):∃u,H a=some u/\OH K ρ H o u:=by
 cases o<;>first|exact h|cases m
theorem J6.lst{K ρ H}{l:List D}{a:Addr}(h:J6 K ρ H (.lst l) a):∃vs,H a=some (.lst vs)/\b9 K ρ H l vs:=by
 obtain⟨u,h1,h2⟩:=h;cases u<;>first|exact⟨_,h1,h2⟩|exact h2.elim
theorem J6.dg{K ρ H}{l:List (Key×D)}{a:Addr}(h:J6 K ρ H (.dg l) a):∃vs,H a=some (.dK vs)/\i7 K ρ H l vs:=by
 obtain⟨u,h1,h2⟩:=h;cases u<;>first|exact⟨_,h1,h2⟩|exact h2.elim
theorem J6.set{K ρ H}{S:Int->Bool}{n:Nat}{a:Addr}(h:J6 K ρ H (.set S n) a):H a=some (.set S n):=by
 obtain⟨u,h1,h2⟩:=h;cases u<;>first|(obtain⟨rfl,rfl⟩:=(show _/\_ from h2);exact h1)|exact h2.elim
theorem J6.ins{K ρ H}{c:Str}{fs:List (Str×D)}{a:Addr}(h:J6 K ρ H (.ins c fs) a):∃C dx vs,H a=some (.ins C dx vs)/\v8 K c C/\ku K C/\i7 K ρ H fs vs/\∀x∈fs,B3 K C x.1:=by
 obtain⟨u,h1,h2⟩:=h;cases u<;>first|exact⟨_,_,_,h1,h2⟩|exact h2.elim
structure Rl(K:PySem.W.Frag)(ρ:List Addr)(g:G)(H:Hp):Prop where
 len:ρ.length=g.length
 obj:∀(i:Nat) o a,g[i]?=some o->ρ[i]?=some a->J6 K ρ H o a
 nd:∀(i j:Nat) o o' a,g[i]?=some o->g[j]?=some o'->o.mut=true->o'.mut=true->ρ[i]?=some a->ρ[j]?=some a->i=j
section
variable{K:PySem.W.Frag}{ρ:List Addr}{g:G}{H:Hp}
theorem Rl.lst(R:Rl K ρ g H){i:Nat}{l:List D}{a:Addr}(h:g[i]?=some (.lst l))(ha:ρ[i]?=some a):∃vs,H a=some (.lst vs)/\b9 K ρ H l vs:=(R.obj _ _ _ h ha).lst
theorem Rl.dg(R:Rl K ρ g H){i:Nat}{l:List (Key×D)}{a:Addr}(h:g[i]?=some (.dg l))(ha:ρ[i]?=some a):∃vs,H a=some (.dK vs)/\i7 K ρ H l vs:=(R.obj _ _ _ h ha).dg
theorem Rl.set(R:Rl K ρ g H){i:Nat}{S:Int->Bool}{n:Nat}{a:Addr}(h:g[i]?=some (.set S n))(ha:ρ[i]?=some a):H a=some (.set S n):=(R.obj _ _ _ h ha).set
theorem Rl.ins(R:Rl K ρ g H){i:Nat}{c:Str}{fs:List (Str×D)}{a:Addr}(h:g[i]?=some (.ins c fs))(ha:ρ[i]?=some a):∃C dx vs,H a=some (.ins C dx vs)/\v8 K c C/\ku K C/\i7 K ρ H fs vs/\∀x∈fs,B3 K C x.1:=(R.obj _ _ _ h ha).ins
theorem Rl.items(R:Rl K ρ g H){i:Nat}{l:List D}{a:Addr}(h:d7 g i=some l)(ha:ρ[i]?=some a):∃vs,gp K H a vs/\b9 K ρ H l vs:=by
 cases e:g[i]? with
 |none=>rw[d7,e] at h;cases h
 |some o =>
  rw[d7,e] at h;have q:=R.obj _ _ _ e ha;cases o with
  |lst m=>cases h;obtain⟨vs,z,r⟩:=q.lst;exact⟨vs,gp.of z,r⟩
  |oJ m=>cases h;obtain⟨vs,z,r⟩:=q;exact⟨vs,z.sq,r⟩
  |_=>cases h
theorem A7{p:Addr}{o:HO}(hp:H p=none):Ext ρ H ρ (upd H p o):=⟨⟨[],by simp⟩,λa xs h=>by rw[f9 (n5 h hp)];exact h⟩
theorem tS.upd{p a:Addr}{o:HO}{vs:List V}(h:tS K H a vs)(hp:∀ob u,H p≠some (.kj ob u)):tS K (upd H p o) a vs:=by
 rcases h with⟨ob,z⟩|z
 ·refine .inl ⟨ob,?_⟩;rw[f9 ?_]
  ·exact z
  ·intro e;subst e;exact hp _ _ z
 ·exact .inr z
theorem J6.upd{p a:Addr}{o:O}{u:HO}{bQ:List Addr}(h:J6 K ρ H o a)(ft:o.mut=true->a≠p)(hp:∀ob u,H p≠some (.kj ob u))(e:Ext ρ H bQ (L2.upd H p u)):J6 K bQ (L2.upd H p u) o a:=by
 cases hm:o.mut with
 |true =>
  obtain⟨u',h1,h2⟩:=h.inv hm;exact .of (by rw[f9 (ft hm)];exact h1) (h2.ext e)
 |false =>
  cases o<;>first|cases hm|skip
  obtain⟨vs,z,r⟩:=h;exact⟨vs,z.upd hp,r.ext e⟩
theorem Rl.grow{p:Addr}{o:HO}(R:Rl K ρ g H)(hp:H p=none):Rl K ρ g (upd H p o):=by
 have e:Ext ρ H ρ (upd H p o):=A7 hp;refine⟨R.len,λi ob a h1 h2=>?_,R.nd⟩;have q:=R.obj _ _ _ h1 h2;refine q.upd (λhm=>?_) (λob u z=>by rw[hp] at z;cases z) e;obtain⟨u,h1,_⟩:=q.inv hm;exact n5 h1 hp
theorem Rl.A3(R:Rl K ρ g H)(p:Addr):(ρ++[p])[g.length]?=some p:=by rw[<- R.len];simp
theorem E9{p:Addr}{o:HO}(hp:H p=none):Ext ρ H (ρ++[p]) (upd H p o):=⟨⟨[p],rfl⟩,(A7 (ρ:=ρ) hp).tup⟩
theorem Rl.new{p:Addr}{o:O}{u:HO}(R:Rl K ρ g H)(hp:H p=none)(r:OH K ρ H o u):Rl K (ρ++[p]) (g++[o]) (upd H p u):=by
 have e:Ext ρ H (ρ++[p]) (upd H p u):=E9 hp;have old:∀{i:Nat} {ob:O} {a:Addr},g[i]?=some ob->(ρ++[p])[i]?=some a->ρ[i]?=some a:=λ{i ob a} h1 h2=>by
  rw[aL (by rw[R.len];exact(aw.mp h1).1)] at h2;exact h2
 have split:∀{i:Nat} {ob:O},(g++[o])[i]?=some ob->g[i]?=some ob\/(i=g.length/\ob=o):=λ{i ob} h=>by
  rcases gT i g.length with q|q|q
  ·rw[aL q] at h;exact .inl h
  ·subst q;simp at h;exact .inr ⟨rfl,h.symm⟩
  ·rw[aV (by simp;omega)] at h;cases h
 refine⟨by simp[R.len],λi ob a h1 h2=>?_,λi j o1 o2 a h1 h2 m1 m2 h3 h4=>?_⟩
 ·rcases split h1 with q|⟨rfl,rfl⟩
  ·have z:=R.obj _ _ _ q (old q h2);refine z.upd (λhm=>?_) (λob u z=>by rw[hp] at z;cases z) e;obtain⟨u,h1,_⟩:=z.inv hm;exact n5 h1 hp
  ·rw[R.A3] at h2;cases h2;exact .of u3 (r.ext e)
 ·have nq:∀{i:Nat} {o:O} {a:Addr},g[i]?=some o->o.mut=true->ρ[i]?=some a->a≠p:=λ{i o a} h1 hm h2=>by
   obtain⟨u,z,_⟩:=(R.obj _ _ _ h1 h2).inv hm;exact n5 z hp
  rcases split h1 with q|⟨rfl,_⟩
  ·rcases split h2 with q'|⟨rfl,_⟩
   ·exact R.nd _ _ _ _ _ q q' m1 m2 (old q h3) (old q' h4)
   ·rw[R.A3] at h4;cases h4;exact absurd rfl (nq q m1 (old q h3))
  ·rcases split h2 with q'|⟨rfl,_⟩
   ·rw[R.A3] at h3;cases h3;exact absurd rfl (nq q' m2 (old q' h4))
   ·rfl
theorem Rl.alloc{p:Addr}{l:List D}{vs:List V}(R:Rl K ρ g H)(hp:H p=none)(r:b9 K ρ H l vs):Rl K (ρ++[p]) (g++[.lst l]) (upd H p (.lst vs)):=R.new hp r
theorem Rl.put{i:Nat}{a:Addr}{o o':O}{u:HO}(R:Rl K ρ g H)(h:g[i]?=some o)(hm:o.mut=true)(ha:ρ[i]?=some a)(r:OH K ρ H o' u) :
  Rl K ρ (g.set i o') (upd H a u)/\Ext ρ H ρ (upd H a u):=by
 obtain⟨u0,z0,Fm⟩:=(R.obj _ _ _ h ha).inv hm;have e:Ext ρ H ρ (upd H a u):=⟨⟨[],by simp⟩,λb xs q=>by rw[f9];exact q;intro z;subst z;rw[z0] at q;cases q;exact Fm.tZ⟩
 refine⟨⟨by simp[R.len],λj ob b h1 h2=>?_,λj k o1 o2 b h1 h2 m1 m2 h3 h4=>?_⟩,e⟩
 ·by_cases hX:i=j
  ·subst hX;rw[ha] at h2;cases h2;have hi:i<g.length:=(aw.mp h).1;rw[aY hi] at h1;cases h1;exact .of u3 (r.ext e)
  ·rw[ax hX] at h1;refine(R.obj _ _ _ h1 h2).upd (λnZ ez=>?_) (λob u z=>by rw[z0] at z;cases z;exact Fm.WL) e;subst ez;exact hX (R.nd _ _ _ _ _ h h1 hm nZ ha h2)
 ·have back:∀{j:Nat} {m:O},(g.set i o')[j]?=some m->m.mut=true->∃m',g[j]?=some m'/\m'.mut=true:=λ{j m} q nZ=>by
   by_cases hX:i=j
   ·subst hX;exact⟨o,h,hm⟩
   ·rw[ax hX] at q;exact⟨m,q,nZ⟩
  obtain⟨_,q1,n1⟩:=back h1 m1;obtain⟨_,q2,n2⟩:=back h2 m2;exact R.nd _ _ _ _ _ q1 q2 n1 n2 h3 h4
theorem Rl.write{i:Nat}{a:Addr}{l l':List D}{vs:List V}(R:Rl K ρ g H)(h:g[i]?=some (.lst l))(ha:ρ[i]?=some a)(r:b9 K ρ H l' vs) :
  Rl K ρ (g.set i (.lst l')) (upd H a (.lst vs))/\Ext ρ H ρ (upd H a (.lst vs)):=R.put h rfl ha r
end
structure q8(K:PySem.W.Frag)(ρ:List Addr)(H:Hp)(σ:S)(cu:St):Prop where
 len:σ.length=cu.length
 val:∀(i:Nat) d,σ[i]?=some (some d)->∃v,cu[i]?=some (some v)/\f6 K ρ H d v
section
variable{K:PySem.W.Frag}{ρ bQ:List Addr}{H H':Hp}
theorem q8.ext{σ cu}(e:Ext ρ H bQ H')(r:q8 K ρ H σ cu):q8 K bQ H' σ cu:=⟨r.len,λi d h=>let ⟨v,a,b⟩:=r.val i d h;⟨v,a,b.ext e⟩⟩
theorem q8.set{σ cu d v}(r:q8 K ρ H σ cu)(i:Nat)(h:f6 K ρ H d v):q8 K ρ H (σ.set i (some d)) (cu.set i (some v)):=by
 refine⟨by simp[r.len],λj e q=>?_⟩;by_cases hX:i=j
 ·subst hX;have hi:i<σ.length:=by
   have:=(aw.mp q).1;simpa using this
  rw[aY hi] at q;cases q;exact⟨v,by rw[aY (by rw[<- r.len];exact hi)],h⟩
 ·rw[ax hX] at q ⊢;exact r.val j e q
theorem q8.start{ds vs}{n:Nat}(r:b9 K ρ H ds vs):q8 K ρ H (ds.map some++List.replicate (n-ds.length) none) (vs.map some++List.replicate (n-vs.length) none):=by
 refine⟨by simp[r.length],λi d h=>?_⟩;by_cases hi:i<ds.length
 ·rw[aL (by simpa using hi),ao] at h;cases e:ds[i]? with
  |none=>rw[e] at h;cases h
  |some x =>
   rw[e] at h;cases h;obtain⟨v,h1,h2⟩:=r.get e;refine⟨v,?_,h2⟩;rw[aL (by rw[ai,<- r.length];exact hi),ao,h1]
   rfl
 ·rw[eF (by simpa using hi),fu] at h;split at h<;>cases h
theorem q8.d6{σ cu}(r:q8 K ρ H σ cu)(d6:List Nat)(n:Nat):q8 K ρ H (J5 σ d6 n) (B8 cu d6 n):=by
 refine⟨by simp[J5,B8],λi d h=>?_⟩;unfold J5 at h;unfold B8;by_cases hi:i<d6.length
 ·rw[aL (by simpa using hi),ao,ak hi] at h;rw[aL (by simpa using hi),ao,ak hi];simp only[Option.map_some] at h ⊢;cases e:σ[d6[i]]? with
  |none=>rw[e] at h;cases h
  |some x =>
   rw[e] at h;have hx:x=some d:=aP h;subst hx;obtain⟨v,h1,h2⟩:=r.val _ _ e;exact⟨v,by rw[h1];rfl,h2⟩
 ·rw[eF (by simpa using hi),fu] at h;split at h<;>cases h
end
end M

namespace M
open PySem L2 PySem.Spec PyProof.Rows
def LQ(K:PySem.W.Frag)(ρ:List Addr)(H:Hp)(Q:VK):KD:=λd g'=>∀bQ H' v,Ext ρ H bQ H'->Rl K bQ g' H'->f6 K bQ H' d v->Q v H'
theorem LQ.ext{K ρ H bZ H1 Q d g}(e:Ext ρ H bZ H1)(h:LQ K ρ H Q d g):LQ K bZ H1 Q d g:=λbQ H' v e' R r=>h bQ H' v (e.trans e') R r
theorem LQ.now{K ρ H Q d g v}(h:LQ K ρ H Q d g)(R:Rl K ρ g H)(r:f6 K ρ H d v):Q v H:=h ρ H v (.refl _ _) R r
theorem LQ.new{K ρ H Q}{g:G}{l:List D}{vs:List V}{p:Addr}(h:LQ K ρ H Q (.ref g.length) (g++[.lst l]))(R:Rl K ρ g H)(hp:H p=none)(r:b9 K ρ H l vs):Q (.ref p) (upd H p (.lst vs)) :=
 h (ρ++[p]) _ _ (E9 hp) (R.alloc hp r) (.ref (R.A3 p))
theorem LQ.tup{K ρ H Q}{g:G}{l:List D}{vs:List V}{p:Addr}(h:LQ K ρ H Q (.tup l) g)(R:Rl K ρ g H)(hp:H p=none)(r:b9 K ρ H l vs):Q (.ref p) (upd H p (.tup vs)) :=
 h ρ _ _ (A7 hp) (R.grow hp) (.tup (.inl u3) (r.ext (A7 hp)))
def r2(K:PySem.W.Frag)(p:Pr):R2:=λx y H Q=>∃d e g ρ,Rl K ρ g H/\f6 K ρ H d x/\f6 K ρ H e y/\cS p [d,e] g (LQ K ρ H Q)
def r1(K:PySem.W.Frag)(p:Pr):V->Hp->VK->Prop:=λx H Q=>∃d g ρ,Rl K ρ g H/\f6 K ρ H d x/\cS p [d] g (LQ K ρ H Q)
def rN(K:PySem.W.Frag)(p:Pr):List V->Hp->VK->Prop:=λxs H Q=>∃ds g ρ,Rl K ρ g H/\b9 K ρ H ds xs/\cS p ds g (LQ K ρ H Q)
theorem n9{n:Nat}(h:n<=100000):n<=sizeLine:=aI h (by decide)
theorem Cr{n:Nat}(h:n<100000):n<sizeLine:=ay h (by decide)
theorem f6.j7{K ρ H i v}(h:f6 K ρ H (.int i) v):v=.int i:=by cases h;rfl
theorem f6.C6{K ρ H i v}(h:f6 K ρ H (.str i) v):v=.str i:=by cases h;rfl
theorem f6.L1{K ρ H i v}(h:f6 K ρ H (.bl i) v):v=.bl i:=by cases h;rfl
theorem f6.yM{K ρ H v}(h:f6 K ρ H .bN v):v=.bN:=by cases h;rfl
theorem f6.Pn{K ρ H n v}(h:f6 K ρ H (.ty n) v):v=.ty n:=by cases h;rfl
theorem f6.l9{K ρ H i v}(h:f6 K ρ H (.ref i) v):∃a,v=.ref a/\ρ[i]?=some a:=by cases h;exact⟨_,rfl,by assumption⟩
theorem f6.Q3{K ρ H l v}(h:f6 K ρ H (.tup l) v):∃a vs,v=.ref a/\TupAt K H a vs/\b9 K ρ H l vs:=by cases h;exact⟨_,_,rfl,by assumption,by assumption⟩
theorem b9.one{K ρ H d vs}(h:b9 K ρ H [d] vs):∃v,vs=[v]/\f6 K ρ H d v:=by
 cases h with
 |cons r rr=>cases rr;exact⟨_,rfl,r⟩
theorem b9.two{K ρ H d e vs}(h:b9 K ρ H [d,e] vs):∃v w,vs=[v,w]/\f6 K ρ H d v/\f6 K ρ H e w:=by
 cases h with
 |cons r rr=>obtain⟨w,rfl,q⟩:=rr.one;exact⟨_,_,rfl,r,q⟩
theorem C9{a b c d:D}(h:[a,b]=[c,d]):a=c/\b=d:=by cases h;exact⟨rfl,rfl⟩
section
variable{X:Cx}
theorem Qx(op:Operator):gb X (binaryOp op) (r2 X.K (.bin op)):=by
 intro pins s σ H x y v u Q I rx ry h;obtain⟨d,e,g,ρ,R,rd,re,d',g',h,q⟩:=h;rcases h with⟨i,j,r,ex,ha,rfl,rfl⟩|⟨rfl,h⟩|⟨rfl,h⟩
 ·obtain⟨rfl,rfl⟩:=C9 ex;obtain rfl:=rd.j7;obtain rfl:=re.j7;have fin:=q.now R (.int r);cases op<;>first|exact(show False from ha).elim|skip
  ·cases ha;exact Qv pins s σ H _ _ v u Q I rx ry ⟨i,j,rfl,rfl,fin⟩
  ·cases ha;exact QF pins s σ H _ _ v u Q I rx ry ⟨i,j,rfl,rfl,fin⟩
  ·obtain⟨hc,rfl⟩:=ha;exact QB pins s σ H _ _ v u Q I rx ry ⟨i,j,rfl,rfl,hc,fin⟩
  ·obtain⟨hc,rfl⟩:=ha;exact QA pins s σ H _ _ v u Q I rx ry ⟨i,j,rfl,rfl,hc,fin⟩
  ·obtain⟨hc,rfl⟩:=ha;exact QC pins s σ H _ _ v u Q I rx ry ⟨i,j,rfl,rfl,hc,fin⟩
  ·obtain⟨hc,rfl⟩:=ha;exact QE pins s σ H _ _ v u Q I rx ry ⟨i,j,rfl,rfl,hc,fin⟩
  ·cases ha;exact WR pins s σ H _ _ v u Q I rx ry ⟨i,j,rfl,rfl,fin⟩
  ·cases ha;exact Qw pins s σ H _ _ v u Q I rx ry ⟨i,j,rfl,rfl,fin⟩
  ·obtain⟨hc,rfl⟩:=ha;exact SX pins s σ H _ _ v u Q I rx ry ⟨i,j,rfl,rfl,hc,fin⟩
 ·rcases h with⟨l,m,ex,hz,rfl,rfl⟩|⟨a,b,l,m,ex,ha,hb,hz,rfl,rfl⟩|⟨x',y',ex,hz,rfl,rfl⟩
  ·obtain⟨rfl,rfl⟩:=C9 ex;obtain⟨a,vs,rfl,ta,rs⟩:=rd.Q3;obtain⟨b,ws,rfl,tb,rt⟩:=re.Q3;refine a36 pins s σ H _ _ v u Q I rx ry ⟨a,b,vs,ws,rfl,rfl,ta.sq,tb.sq,?_,λz=>?_,λz=>?_,λp hp=>q.tup R hp (rs.append rt)⟩
   ·rw[<- rs.length,<- rt.length];exact n9 hz
   ·subst z;cases rs;exact q.now R (.tup tb rt)
   ·subst z;cases rt;rw[de] at q;exact q.now R (.tup ta rs)
  ·obtain⟨rfl,rfl⟩:=C9 ex;obtain⟨a',rfl,ra⟩:=rd.l9;obtain⟨b',rfl,rb⟩:=re.l9;obtain⟨vs,z1,rs⟩:=R.lst ha ra;obtain⟨ws,z2,rt⟩:=R.lst hb rb;exact Qy pins s σ H _ _ v u Q I rx ry ⟨_,_,vs,ws,rfl,rfl,z1,z2,by rw[<- rs.length,<- rt.length];exact n9 hz,λp hp=>q.new R hp (rs.append rt)⟩
  ·obtain⟨rfl,rfl⟩:=C9 ex;obtain rfl:=rd.C6;obtain rfl:=re.C6;exact Zu pins s σ H _ _ v u Q I rx ry ⟨_,_,rfl,rfl,n9 hz,q.now R (.str _)⟩
 ·rcases h with⟨a,l,n,ex,ha,h1,h2,hz,rfl,rfl⟩|⟨l,n,ex,ft,h1,h2,hz,rfl,rfl⟩
  rotate_left
  ·obtain⟨rfl,rfl⟩:=C9 ex;obtain⟨a',vs,rfl,ta,rs⟩:=rd.Q3;obtain rfl:=re.j7;refine Ta pins s σ H _ _ v u Q I rx ry ⟨_,_,vs,rfl,rfl,ta.sq,λz=>?_,h1,h2,by rw[<- rs.length];exact n9 hz,λz=>?_,λp hp=>q.tup R hp (rs.rep _)⟩
   ·subst z;cases rs;exact ft rfl
   ·subst z;have:(List.replicate (Int.toNat 1) l).flatten=l:=by simp
    rw[this] at q;exact q.now R (.tup ta rs)
  obtain⟨rfl,rfl⟩:=C9 ex;obtain⟨a',rfl,ra⟩:=rd.l9;obtain rfl:=re.j7;obtain⟨vs,z1,rs⟩:=R.lst ha ra;exact QD pins s σ H _ _ v u Q I rx ry ⟨_,_,vs,rfl,rfl,z1,by omega,by omega,by rw[<- rs.length];exact n9 hz,λp hp=>q.new R hp (rs.rep _)⟩
theorem WS(op:UnaryOp):zu X (unaryOp op) (r1 X.K (.un op)):=by
 intro pins s σ H x v Q I rx h;obtain⟨d,g,ρ,R,rd,d',g',⟨rfl,i,ex,rfl,rfl⟩,q⟩:=h;cases ex;obtain rfl:=rd.j7;exact Sf pins s σ H _ v Q I rx ⟨_,rfl,q.now R (.int _)⟩
section
variable{ρ:List Addr}{g:G}{H:Hp}{pins:List (Addr×Obj)}{σ:L2.St}{s:Shared}
theorem IM(I:Inv X pins σ H s)(R:Rl X.K ρ g H)(n:Nat)(ih:∀{d:D} {v:V} {u:Value} {p:PyData},rd g n d=some p->f6 X.K ρ H d v->RelV v u->∃as,Reads s.heap u p as/\p.depth<=n){l:List D}:∀{vs:List V} {us:List Value} {ps:List PyData},l.mapM (rd g n)=some ps->b9 X.K ρ H l vs->Vals vs us->∃as,ReadsAll s.heap us ps as/\PyData.depthAll ps<=n:=by
 induction l with
 |nil =>
  intro vs us ps h rs rv;cases rs;cases rv;simp at h;subst h;exact⟨_,.nil,cB _⟩
 |cons d l il =>
  intro vs us ps h rs rv;cases rs with
  |cons iG rs =>
   cases rv with
   |cons ru rv =>
    rw[List.mapM_cons] at h;cases e:rd g n d with
    |none=>rw[e] at h;cases h
    |some p =>
     rw[e] at h;cases e2:l.mapM (rd g n) with
     |none=>rw[e2] at h;cases h
     |some qs =>
      rw[e2] at h;cases h;obtain⟨as,q1,d1⟩:=ih e iG ru;obtain⟨bs,q2,d2⟩:=il e2 rs rv;refine⟨_,.cons q1 q2,?_⟩;simp only[PyData.depthAll];omega
theorem Q6(I:Inv X pins σ H s)(R:Rl X.K ρ g H)(n:Nat):∀{d:D} {v:V} {u:Value} {p:PyData},rd g n d=some p->f6 X.K ρ H d v->RelV v u->∃as,Reads s.heap u p as/\p.depth<=n:=by
 induction n with
 |zero =>
  intro d v u p h r ru;cases r with
  |bN=>simp only[rd] at h;cases h;cases ru;exact⟨_,.none,Nat.zero_le _⟩
  |bl b=>simp only[rd] at h;cases h;cases ru;exact⟨_,.bool b,Nat.zero_le _⟩
  |int i=>simp only[rd] at h;cases h;obtain⟨t,rfl⟩:=ru;exact⟨_,.int i t,Nat.zero_le _⟩
  |str x=>simp only[rd] at h;cases h;obtain⟨t,rfl⟩:=ru;exact⟨_,.str x t,Nat.zero_le _⟩
  |_=>simp only[rd] at h;cases h
 |succ n ih =>
  intro d v u p h r ru;cases r with
  |bN=>simp only[rd] at h;cases h;cases ru;exact⟨_,.none,Nat.zero_le _⟩
  |bl b=>simp only[rd] at h;cases h;cases ru;exact⟨_,.bool b,Nat.zero_le _⟩
  |int i=>simp only[rd] at h;cases h;obtain⟨t,rfl⟩:=ru;exact⟨_,.int i t,Nat.zero_le _⟩
  |str x=>simp only[rd] at h;cases h;obtain⟨t,rfl⟩:=ru;exact⟨_,.str x t,Nat.zero_le _⟩
  |ty x=>simp only[rd] at h;cases h
  |ref ha =>
   rename_i i a;simp only[rd] at h;cases e:d7 g i with
   |none=>rw[e] at h;cases h
   |some l =>
    rw[e] at h;dsimp only at h;cases e2:l.mapM (rd g n) with
    |none=>rw[e2] at h;cases h
    |some ps =>
     rw[e2] at h;cases h;cases ru;obtain⟨vs,hq,rs⟩:=R.items e ha;obtain⟨ba,rv,p,hz⟩:=I.list hq;obtain⟨as,q,hd⟩:=IM I R n ih e2 rs rv;obtain⟨o,ho,hc,k,rg⟩:=p.isList;refine⟨_,.list ho hc rg (by simpa using q),?_⟩;simp only[PyData.depth];omega
  |tup ht rs =>
   rename_i l a vs;simp only[rd] at h;cases e2:l.mapM (rd g n) with
   |none=>rw[e2] at h;cases h
   |some ps =>
    rw[e2] at h;cases h;cases ru;obtain⟨ba,rv,pt,hz⟩:=I.tuple ht.sq;obtain⟨as,q,hd⟩:=IM I R n ih e2 rs rv;obtain⟨o,ho,hc,k,rg⟩:=id pt;refine⟨_,.tuple ho hc rg (by simpa using q),?_⟩;simp only[PyData.depth];omega
end
end
section
variable{X:Cx}
theorem yU{α:Type}[BEq α][LawfulBEq α][DecidableEq α](a b:α):decide (a=b)=(a==b):=by
 by_cases e:a=b
 ·subst e;simp
 ·rw[aG e];exact(dD.mpr e).symm
theorem W7{K ρ H}{d:D}{v:V}{c:Key}(h:U9 d=some c)(r:f6 K ρ H d v):v=kV c:=by
 cases r<;>first|(cases h;rfl)|cases h
theorem se.some{K ρ H}{o:Option V}{d:D}(h:se K ρ H (some d) o):∃v,o=some v/\f6 K ρ H d v:=by
 cases o with
 |none=>exact h.elim
 |some v=>exact⟨v,rfl,h⟩
theorem se.isSome{K ρ H}{o:Option V}{d:Option D}(h:se K ρ H d o):d.isSome=o.isSome:=by
 cases o<;>cases d<;>first|rfl|exact h.elim
theorem Kt{pins:List (Addr×Obj)}{s:Shared}{σ:L2.St}{H:Hp}{ρ:List Addr}{g:G}{d e:D}{x y:V}{v u:Value}{b:Bool}{Q:VK}(hu:X.A.units+100<cLine)(I:Inv X pins σ H s)(rx:RelV x v)(ry:RelV y u)(R:Rl X.K ρ g H)(iG:f6 X.K ρ H d x)(re:f6 X.K ρ H e y)(h:vR g d e b)(neg:Bool)(q:Q (.bl (xor neg b)) H):wpAny (model X.prog X.w) X.A (compareOp (if neg then .NotEq else .Eq) v u) (EP X pins σ Q) X.xe s:=by
 rcases h with⟨i,j,rfl,rfl,rfl⟩|⟨i,j,rfl,rfl,rfl⟩|⟨i,j,rfl,rfl,rfl⟩|⟨p,p',h1,h2,c1,c2,rfl⟩
 ·obtain rfl:=iG.j7;obtain rfl:=re.j7;cases neg
  ·exact DC pins s σ H _ _ v u Q I rx ry ⟨rfl,by rw[yV];simpa[yU] using q⟩
  ·exact DD pins s σ H _ _ v u Q I rx ry ⟨rfl,by rw[yV];simpa[yU] using q⟩
 ·obtain rfl:=iG.L1;obtain rfl:=re.L1;cases neg
  ·exact DC pins s σ H _ _ v u Q I rx ry ⟨rfl,by rw[yG];simpa using q⟩
  ·exact DD pins s σ H _ _ v u Q I rx ry ⟨rfl,by rw[yG];simpa using q⟩
 ·obtain rfl:=iG.C6;obtain rfl:=re.C6;cases neg
  ·exact DC pins s σ H _ _ v u Q I rx ry ⟨rfl,by rw[yW];simpa[yU] using q⟩
  ·exact DD pins s σ H _ _ v u Q I rx ry ⟨rfl,by rw[yW];simpa[yU] using q⟩
 ·obtain⟨as,q1,d1⟩:=Q6 I R 6 h1 iG rx;obtain⟨bs,q2,d2⟩:=Q6 I R 6 h2 re ry;have hr:X.A.units+min p.depth p'.depth<cLine:=by omega
  cases neg
  ·exact SeqAt.compareEq_reads q1 q2 c1 c2 hr ⟨.bl _,H,I,rfl,by simpa using q⟩
  ·exact SeqAt.compareNe_reads q1 q2 c1 c2 hr ⟨.bl _,H,I,rfl,by simpa using q⟩
theorem in_of{pins:List (Addr×Obj)}{s:Shared}{σ:L2.St}{H:Hp}{ρ:List Addr}{g:G}{d e:D}{x y:V}{v u:Value}{b:Bool}{Q:VK}(hu:X.A.units+100<cLine)(I:Inv X pins σ H s)(rx:RelV x v)(ry:RelV y u)(R:Rl X.K ρ g H)(iG:f6 X.K ρ H d x)(re:f6 X.K ρ H e y)(h:inR g d e b)(neg:Bool)(q:Q (.bl (xor neg b)) H):wpAny (model X.prog X.w) X.A (compareOp (if neg then .NotIn else .In) v u) (EP X pins σ Q) X.xe s:=by
 rcases h with⟨a,kvs,c,rfl,ha,hc,rfl⟩|⟨l,ps,p,h0,h1,h2,c1,c2,rfl⟩
 ·obtain⟨a',rfl,ra⟩:=re.l9;obtain⟨vs,z,rs⟩:=R.dg ha ra;have:=W7 hc iG;subst this;cases ry;rw[(rs.val c).isSome] at q;cases neg
  ·exact UL (by omega) I (O3.k z) rx λs' I'=>⟨.bl _,H,I',rfl,by simpa using q⟩
  ·exact Sx (by omega) I (O3.k z) rx λs' I'=>⟨.bl _,H,I',rfl,by simpa using q⟩
 ·obtain⟨as,q1,d1⟩:=Q6 I R 6 h2 iG rx;cases e with
  |tup m =>
   cases h0;have h3:rd g 7 (.tup l)=some (.tuple ps):=by simp only[rd];rw[show l.mapM (rd g 6)=some ps from h1];rfl
   obtain⟨bs,q2,d2⟩:=Q6 I R 7 h3 re ry;have hr:X.A.units+1+min (PyData.depthAll ps) p.depth<cLine:=by omega
   cases neg
   ·exact SeqAt.in_tuple_reads q2 q1 c1 c2 hr ⟨.bl _,H,I,rfl,by simpa using q⟩
   ·exact SeqAt.notIn_tuple_reads q2 q1 c1 c2 hr ⟨.bl _,H,I,rfl,by simpa using q⟩
  |ref a =>
   have h3:rd g 7 (.ref a)=some (.list ps):=by
    simp only[rd];rw[show d7 g a=some l from h0];dsimp only;rw[show l.mapM (rd g 6)=some ps from h1]
    rfl
   obtain⟨bs,q2,d2⟩:=Q6 I R 7 h3 re ry;have hr:X.A.units+1+min (PyData.depthAll ps) p.depth<cLine:=by omega
   cases neg
   ·exact SeqAt.in_list_reads q2 q1 c1 c2 hr ⟨.bl _,H,I,rfl,by simpa using q⟩
   ·exact SeqAt.notIn_list_reads q2 q1 c1 c2 hr ⟨.bl _,H,I,rfl,by simpa using q⟩
  |_=>cases h0
theorem W3(hu:X.A.units+100<cLine)(op:CmpOp):gb X (compareOp op) (r2 X.K (.cmp op)):=by
 intro pins s σ H x y v u Q I rx ry h;obtain⟨d,e,g,ρ,R,iG,re,d',g',⟨x',y',b,ex,h,rfl,rfl⟩,q⟩:=h;obtain⟨rfl,rfl⟩:=C9 ex;have fin:=q.now R (.bl b);have oA:∀{P:Int->Int->Bool},(∃i j,d=.int i/\e=.int j/\b=P i j)->∃i j,x=.int i/\y=.int j/\b=P i j:=λhh=>by
  obtain⟨i,j,z1,z2,z3⟩:=hh;exact⟨i,j,(z1▸iG).j7,(z2▸re).j7,z3⟩
 cases op
 ·exact Kt hu I rx ry R iG re h false (by simpa using fin)
 ·exact Kt hu I rx ry R iG re h true (by simpa using fin)
 ·obtain⟨i,j,e1,e2,e3⟩:=oA (P:=λi j=>decide (i<j)) h;exact WQ pins s σ H _ _ v u Q I rx ry ⟨i,j,e1,e2,by subst e3;exact fin⟩
 ·obtain⟨i,j,e1,e2,e3⟩:=oA (P:=λi j=>decide (i<=j)) h;exact WO pins s σ H _ _ v u Q I rx ry ⟨i,j,e1,e2,by subst e3;exact fin⟩
 ·obtain⟨i,j,e1,e2,e3⟩:=oA (P:=λi j=>decide (j<i)) h;exact WN pins s σ H _ _ v u Q I rx ry ⟨i,j,e1,e2,by subst e3;exact fin⟩
 ·obtain⟨i,j,e1,e2,e3⟩:=oA (P:=λi j=>decide (j<=i)) h;exact WM pins s σ H _ _ v u Q I rx ry ⟨i,j,e1,e2,by subst e3;exact fin⟩
 ·obtain⟨rfl,rfl⟩:=(show _/\_ from h)
  obtain rfl:=re.yM;refine Qz pins s σ H _ _ v u Q I rx ry ⟨rfl,?_⟩;have e:M9 d=decide (x=V.bN):=by cases iG<;>simp[M9]
  rw[<- e];exact fin
 ·obtain⟨rfl,rfl⟩:=(show _/\_ from h)
  obtain rfl:=re.yM;refine SY pins s σ H _ _ v u Q I rx ry ⟨rfl,?_⟩;have e:M9 d=decide (x=V.bN):=by cases iG<;>simp[M9]
  rw[<- e];exact fin
 ·rcases h with h|⟨a,S,n,i,rfl,ha,rfl,rfl⟩
  ·exact in_of hu I rx ry R iG re h false (by simpa using fin)
  ·obtain⟨a',rfl,ra⟩:=re.l9;obtain rfl:=iG.j7;exact Yx pins s σ H _ _ v u Q I rx ry ⟨i,a',S,n,rfl,rfl,R.set ha ra,fin⟩
 ·rcases h with h|⟨a,S,n,i,rfl,ha,rfl,hb⟩
  ·exact in_of hu I rx ry R iG re h true (by simpa using fin)
  ·obtain⟨a',rfl,ra⟩:=re.l9;obtain rfl:=iG.j7;exact Xa pins s σ H _ _ v u Q I rx ry ⟨i,a',S,n,rfl,rfl,R.set ha ra,by rw[<- hb,uk];exact fin⟩
theorem empty_eq{K ρ H}{l:List D}{vs:List V}(r:b9 K ρ H l vs):l.isEmpty=vs.isEmpty:=by cases r<;>rfl
theorem Sb{K:PySem.W.Frag}{ρ:List Addr}{g:G}{H:Hp}{d:D}{x:V}{b:Bool}(R:Rl K ρ g H)(r:f6 K ρ H d x)(h:Hr g d b):Ei K x H b:=by
 rcases h with⟨rfl,rfl⟩|rfl|⟨i,rfl,rfl⟩|⟨l,rfl,rfl⟩|⟨a,l,rfl,hl,rfl⟩
 ·obtain rfl:=r.yM;rfl
 ·obtain rfl:=r.L1;rfl
 ·obtain rfl:=r.j7;rfl
 ·obtain⟨a,vs,rfl,ht,rs⟩:=r.Q3;exact .inr (.inl ⟨_,ht.sq,by rw[empty_eq rs]⟩)
 ·obtain⟨a',rfl,ha⟩:=r.l9;obtain⟨vs,hq,rs⟩:=R.items hl ha;exact .inl ⟨_,hq,by rw[empty_eq rs]⟩
theorem Sr{K ρ H}{l:List D}{vs:List V}{i:Int}{d:D}(r:b9 K ρ H l vs)(h:gz l i=some d):∃v,gz vs i=some v/\f6 K ρ H d v:=by
 unfold gz at h ⊢;rw[<- r.length];cases e:lJ l.length i with
 |none=>rw[e] at h;cases h
 |some j =>
  rw[e] at h;exact r.get h
theorem wK{K ρ H}{g:G}{x:D}{v:V}{l:List D}(R:Rl K ρ g H)(r:f6 K ρ H x v)(h:E7 g x=some l):∃a vs,v=.ref a/\b9 K ρ H l vs/\((∃i,x=.ref i/\ρ[i]?=some a)/\gp K H a vs\/x=.tup l/\TupAt K H a vs):=by
 cases r with
 |tup ht rs=>cases h;exact⟨_,_,rfl,rs,.inr ⟨rfl,ht⟩⟩
 |ref ha=>obtain⟨vs,hq,rs⟩:=R.items h ha;exact⟨_,_,rfl,rs,.inl ⟨⟨_,rfl,ha⟩,hq⟩⟩
 |_=>cases h
theorem Wz(hu:X.A.units+100<cLine):su X (r2 X.K .ix):=by
 intro value slice pins s σ H x y v u Q I rx ry h hs;obtain⟨d,e,g,ρ,R,iG,re,d',g',⟨rfl,h⟩,q⟩:=h;rcases h with⟨x',l,i,ex,hl,ha⟩|⟨a,kvs,y',c,ex,ha,hc,hv⟩|⟨x',i,c,ex,h0,h1,rfl⟩
 ·obtain⟨rfl,rfl⟩:=C9 ex;obtain rfl:=re.j7;obtain⟨a,vs,rfl,rs,h⟩:=wK R iG hl;obtain⟨w,hw,gn⟩:=Sr rs ha;rcases h with⟨_,hq⟩|⟨_,ht⟩
  ·exact SI value slice pins s σ H _ _ v u Q I rx ry ⟨_,_,i,w,rfl,rfl,hq,hw,q.now R gn⟩ hs
  ·exact Qa value slice pins s σ H _ _ v u Q I rx ry ⟨_,_,i,w,rfl,rfl,ht.sq,hw,q.now R gn⟩ hs
 ·obtain⟨rfl,rfl⟩:=C9 ex;obtain⟨a',rfl,ra⟩:=iG.l9;obtain⟨vs,z,rs⟩:=R.dg ha ra;have:=W7 hc re;subst this;have q2:=rs.val c;rw[hv] at q2;obtain⟨w,hw,gn⟩:=q2.some;exact SH (by omega) value slice pins s σ H _ _ v u Q I rx ry ⟨_,w,rfl,by have:=O3.k (k:=c) z;rw[hw] at this;exact this,q.now R gn⟩ hs
 ·obtain⟨rfl,rfl⟩:=C9 ex;obtain rfl:=iG.C6;obtain rfl:=re.j7;exact PZ value slice pins s σ H _ _ v u Q I rx ry ⟨x',i,c,rfl,rfl,n9 h0,h1,q.now R (.str _)⟩ hs
end
end M

namespace M
open PySem L2 PySem.Spec PyProof.Rows
section
variable{X:Cx}
def LW(K:PySem.W.Frag):V->Option Int->Option Int->Hp->VK->Prop:=λx lo hi H Q=>∃d g ρ d' g',Rl K ρ g H/\f6 K ρ H d x/\uG d lo hi g d' g'/\LQ K ρ H Q d' g'
theorem DJ:wU X (LW X.K):=by
 intro pins s σ H x v vl vu lo hi sl Q I rx hs pl pu h;obtain⟨d,g,ρ,d',g',R,iG,h,q⟩:=h;rcases h with⟨l,rfl,rfl,rfl⟩|⟨a,l,rfl,hl,rfl,rfl⟩
 ·obtain⟨a,vs,rfl,ht,rs⟩:=iG.Q3;refine Uj pins s σ H _ v vl vu lo hi sl Q I rx hs pl pu ⟨_,_,rfl,ht.sq,λz=>?_,λp hp=>q.tup R hp (rs.cut lo hi)⟩;refine q.now R (.tup ht ?_);have:=rs.cut lo hi;rw[z] at this;exact this
 ·obtain⟨a',rfl,ha⟩:=iG.l9;obtain⟨vs,hq,rs⟩:=R.items hl ha;exact Ui pins s σ H _ v vl vu lo hi sl Q I rx hs pl pu ⟨_,_,rfl,hq,λp hp=>q.new R hp (rs.cut lo hi)⟩
def Vp(K:PySem.W.Frag):V->V->V->Hp->(Hp->Prop)->Prop:=λo i v H Q=>∃BI di dv g ρ,Rl K ρ g H/\f6 K ρ H BI o/\f6 K ρ H di i/\f6 K ρ H dv v/\Y7 BI di dv g (λg'=>∀bQ H',Ext ρ H bQ H'->Rl K bQ g' H'->Q H')
theorem RA(hu:X.A.units+100<cLine):Eg X (Vp X.K):=by
 intro pins s σ H o i v ov iv u Q I ro ri rv h;obtain⟨BI,di,dv,g,ρ,R,r1,r2,r3,g',h,q⟩:=h;rcases h with⟨a,i',l,j,rfl,rfl,hl,hj,rfl⟩|⟨a,kvs,c,rfl,ha,hc,hz,rfl⟩
 ·obtain⟨a',rfl,ha⟩:=r1.l9;obtain rfl:=r2.j7;obtain⟨vs,z,rs⟩:=R.lst hl ha;obtain⟨R',e'⟩:=R.write hl ha (rs.set r3 j);exact set_list pins s σ H _ _ _ ov iv u Q I ro ri rv ⟨_,vs,_,j,rfl,rfl,z,by rw[<- rs.length];exact hj,q ρ _ e' R'⟩
 ·obtain⟨a',rfl,ra⟩:=r1.l9;obtain⟨vs,z,rs⟩:=R.dg ha ra;have:=W7 hc r2;subst this;obtain⟨R',e'⟩:=R.put (o':=.dg (putD kvs c dv)) (u:=.dK (putK vs c v)) ha rfl ra (rs.put r3);cases ro;exact Yd (by omega) I (zi.k z (by rw[<- rs.length];exact Cr hz)) ri rv λs' I'=>⟨_,I',q ρ _ e' R'⟩
theorem Qi:n4 X (.builtin "len") (rN X.K .len):=by
 intro pins s σ H xs us Q I r h;obtain⟨ds,g,ρ,R,rs,d',g',⟨rfl,h⟩,q⟩:=h;rcases h with⟨x,l,rfl,hl,rfl⟩|⟨a,kvs,rfl,ha,rfl⟩|⟨x,rfl,hz,rfl⟩
 ·obtain⟨v,rfl,rv⟩:=rs.one;obtain⟨a,vs,rfl,rl,h⟩:=wK R rv hl;refine aD1 pins s σ H _ us Q I r ⟨_,_,rfl,?_,by rw[<- rl.length];exact q.now R (.int _)⟩;exact h.imp (λz=>z.2) (λz=>z.2.sq)
 ·obtain⟨v,rfl,rv⟩:=rs.one;obtain⟨a',rfl,ra⟩:=rv.l9;obtain⟨vs,z,rk⟩:=R.dg ha ra;exact XW pins s σ H _ us Q I r ⟨_,_,rfl,z,by rw[<- rk.length];exact q.now R (.int _)⟩
 ·obtain⟨v,rfl,rv⟩:=rs.one;obtain rfl:=rv.C6;exact aD0 pins s σ H _ us Q I r ⟨_,rfl,n9 hz,q.now R (.int _)⟩
theorem CH{K ρ H}:∀(ks:List Key),b9 K ρ H (ks.map kD) (ks.map kV)
 |[]=>.nil
 |.inl _::r=>.cons (.int _) (CH r)
 |.inr _::r=>.cons (.str _) (CH r)
theorem i7.keys{α:Type}{K ρ H}{ds:List (α×D)}{vs:List (α×V)}(h:i7 K ρ H ds vs):ds.map (·.1)=vs.map (·.1):=by
 induction h with
 |nil=>rfl
 |cons _ _ ih=>rw[bu,bu,ih]
theorem SK(hc:X.calm=true):n4 X (.type "list") (rN X.K .list):=by
 intro pins s σ H xs us Q I r h;obtain⟨ds,g,ρ,R,rs,d',g',⟨x,l,rfl,hl,rfl,rfl⟩|⟨a,kvs,rfl,ha,hn,rfl,rfl⟩,q⟩:=h
 rotate_left
 ·obtain⟨v,rfl,rv⟩:=rs.one;obtain⟨a',rfl,ra⟩:=rv.l9;obtain⟨vs,z,rk⟩:=R.dg ha ra;exact Xq hc pins s σ H _ us Q I r ⟨_,vs,rfl,z,by rw[<- rk.length];exact hn,λp hp=>q (ρ++[p]) _ _ (E9 hp) (R.new hp (o:=.lst ((kvs.map (·.1)).map kD)) (u:=.lst ((vs.map (·.1)).map kV)) (by rw[rk.keys];exact CH _)) (.ref (R.A3 p))⟩
 obtain⟨v,rfl,rv⟩:=rs.one;obtain⟨a,vs,rfl,rl,h⟩:=wK R rv hl;exact aC9 pins s σ H _ us Q I r ⟨_,_,rfl,h.imp (λz=>z.2) (λz=>z.2.sq),λp hp=>q.new R hp rl⟩
theorem XJ:n4 X (.type "tuple") (rN X.K .tuple):=by
 intro pins s σ H xs us Q I r h;obtain⟨ds,g,ρ,R,rs,d',g',⟨x,l,rfl,hl,rfl,rfl⟩,q⟩:=h;obtain⟨v,rfl,rv⟩:=rs.one;obtain⟨a,vs,rfl,rl,h⟩:=wK R rv hl;refine Xf pins s σ H _ us Q I r ⟨a,vs,rfl,?_⟩;exact h.imp (λz=>⟨z.2,λp hp=>q.tup R hp rl⟩) (λz=>⟨z.2.sq,q.now R (.tup z.2 rl)⟩)
theorem SG:n4 X (.builtin "isinstance") (rN X.K .isin):=by
 intro pins s σ H xs us Q I r h;obtain⟨ds,g,ρ,R,rs,d',g',⟨x,c,b,rfl,hc,hb,rfl,rfl⟩,q⟩:=h;obtain⟨v,w,rfl,r1,r2⟩:=rs.two;obtain rfl:=r2.Pn;have fin:=q.now R (.bl b);have go:∀(t:Value) (v:V),ic X.K H v t->PySem.W.kitOne X.K t (.type c)=some b->Vals [v,V.ty c] us->wpAny (model X.prog X.w) X.A (call (.builtin "isinstance") us) (EP X pins σ Q) X.xe s :=
  λt v ht hk r=>ZR pins s σ H _ us Q I r ⟨v,t,c,b,rfl,ht,hk,fin⟩
 simp only[List.mem_cons,List.mem_nil_iff,or_false] at hc;cases r1 with
 |bN=>refine go _ _ .bN ?_ r;cases hb;rcases hc with rfl|rfl|rfl|rfl|rfl<;>rfl
 |bl y=>refine go _ _ (.bl y) ?_ r;cases hb;rcases hc with rfl|rfl|rfl|rfl|rfl<;>rfl
 |int y=>refine go _ _ (.int y) ?_ r;cases hb;rcases hc with rfl|rfl|rfl|rfl|rfl<;>rfl
 |str y=>refine go _ _ (.str y) ?_ r;cases hb;rcases hc with rfl|rfl|rfl|rfl|rfl<;>rfl
 |ty _=>cases hb
 |tup ht rs =>
  cases hb;rcases ht with ht|ht
  ·refine go _ _ (.tup ht) ?_ r;rcases hc with rfl|rfl|rfl|rfl|rfl<;>rfl
  ·obtain⟨o,ba,n,lk,kq,_⟩:=ht;obtain⟨u,w',rfl,ru,gn⟩:=vals2 r;cases (show w'=Value.type c from gn);cases ru;have hk:PySem.W.kitOne X.K (.type "tuple") (.type c)=some (c=="tuple"):=by rcases hc with rfl|rfl|rfl|rfl|rfl<;>rfl
   exact bU Lj I.ig ⟨o,I.ig _ _ lk,kq⟩ hk (λz=>nomatch z) λtk=>⟨.bl _,H,I.tok tk,rfl,fin⟩
 |@ref i a ha =>
  have vB:∃m,g'[i]?=some (.lst m)/\b=(c=="list"):=by
   simp only[rX] at hb;split at hb
   ·exact⟨_,by assumption,(aP hb).symm⟩
   ·cases hb
  obtain⟨m,e,rfl⟩:=vB;obtain⟨vs,z,_⟩:=R.lst e ha;refine go _ _ (.lst z) ?_ r;rcases hc with rfl|rfl|rfl|rfl|rfl<;>rfl
theorem Za:∀{l:List D} {b:Bool},U1 l=some b->∃bs:List Bool,l=bs.map D.bl/\b=bs.all id:=by
 intro l
 induction l with
 |nil=>intro b h;cases h;exact⟨[],rfl,rfl⟩
 |cons d r ih =>
  intro b h;cases d<;>first|(cases h;done)|skip
  rename_i c;simp only[U1] at h;cases e:U1 r with
  |none=>rw[e] at h;cases h
  |some b' =>
   rw[e] at h;cases h;obtain⟨bs,rfl,rfl⟩:=ih e;exact⟨c::bs,rfl,by simp⟩
theorem b9.RC{K ρ H}:∀{bs:List Bool} {vs:List V},b9 K ρ H (bs.map D.bl) vs->vs=bs.map V.bl:=by
 intro bs
 induction bs with
 |nil=>intro vs h;cases h;rfl
 |cons b r ih =>
  intro vs h;cases h with
  |cons h rr=>rw[ih rr,h.L1];rfl
theorem Pw(hc:X.calm=true):n4 X (.builtin "all") (rN X.K .all):=by
 intro pins s σ H xs us Q I r h;obtain⟨ds,g,ρ,R,rs,d',g',⟨a,l,b,rfl,hl,hb,rfl,rfl⟩,q⟩:=h;obtain⟨v,rfl,rv⟩:=rs.one;obtain⟨a',rfl,ra⟩:=rv.l9;obtain⟨vs,hq,rs⟩:=R.items hl ra;rcases hb with hb|⟨ns,rfl,rfl⟩
 rotate_left
 ·have:=rs.ints;subst this;exact XU hc pins s σ H _ us Q I r ⟨_,ns,rfl,hq,q.now R (.bl _)⟩
 obtain⟨bs,rfl,rfl⟩:=Za hb;have:=rs.RC;subst this;exact XT hc pins s σ H _ us Q I r ⟨_,bs,rfl,hq,q.now R (.bl _)⟩
theorem Kh{K ρ H}:∀(ns:List Int),b9 K ρ H (ns.map D.int) (ns.map V.int)
 |[]=>.nil
 |_::r=>.cons (.int _) (Kh r)
theorem a00(hc:X.calm=true):n4 X (.builtin "sorted") (rN X.K .jK):=by
 intro pins s σ H xs us Q I r h;obtain⟨ds,g,ρ,R,rs,d',g',z|⟨x,ns,rfl,hx,hn,rfl,rfl⟩,q⟩:=h
 rotate_left
 ·obtain⟨v,rfl,rv⟩:=rs.one;obtain⟨a,vs,rfl,rl,h⟩:=wK R rv hx;have:=rl.ints;subst this;exact Xr pins s σ H _ us Q I r ⟨_,ns,rfl,h.imp (λz=>z.2) (λz=>z.2.sq),hn,λp hp=>q (ρ++[p]) _ _ (E9 hp) (R.new hp (o:=.lst ((J9 ns).map .int)) (u:=.lst ((J9 ns).map V.int)) (Kh _)) (.ref (R.A3 p))⟩
 exact z.elim
theorem Qr(hc:X.calm=true):n4 X (.builtin "max") (rN X.K .max):=by
 intro pins s σ H xs us Q I r h;obtain⟨ds,g,ρ,R,rs,d',g',⟨rfl,⟨i,j,rfl,rfl⟩|⟨a,ns,M,rfl,hl,h1,h2,rfl⟩⟩,q⟩:=h
 rotate_left
 ·obtain⟨v,rfl,rv⟩:=rs.one;obtain⟨a',rfl,ra⟩:=rv.l9;obtain⟨vs,hq,rs⟩:=R.items hl ra;have:=rs.ints;subst this;exact XZ hc pins s σ H _ us Q I r ⟨_,ns,M,rfl,hq,h1,h2,q.now R (.int _)⟩
 obtain⟨v,w,rfl,r1,r2⟩:=rs.two;obtain rfl:=r1.j7;obtain rfl:=r2.j7;exact XX hc pins s σ H _ us Q I r ⟨i,j,rfl,q.now R (.int _)⟩
theorem Qs(hc:X.calm=true):n4 X (.builtin "min") (rN X.K .min):=by
 intro pins s σ H xs us Q I r h;obtain⟨ds,g,ρ,R,rs,d',g',⟨rfl,⟨i,j,rfl,rfl⟩|⟨a,ns,M,rfl,hl,h1,h2,rfl⟩⟩,q⟩:=h
 rotate_left
 ·obtain⟨v,rfl,rv⟩:=rs.one;obtain⟨a',rfl,ra⟩:=rv.l9;obtain⟨vs,hq,rs⟩:=R.items hl ra;have:=rs.ints;subst this;exact Ya hc pins s σ H _ us Q I r ⟨_,ns,M,rfl,hq,h1,h2,q.now R (.int _)⟩
 obtain⟨v,w,rfl,r1,r2⟩:=rs.two;obtain rfl:=r1.j7;obtain rfl:=r2.j7;exact X' hc pins s σ H _ us Q I r ⟨i,j,rfl,q.now R (.int _)⟩
theorem RO(hc:X.calm=true):n4 X (.builtin "sum") (rN X.K .sum):=by
 intro pins s σ H xs us Q I r h;obtain⟨ds,g,ρ,R,rs,d',g',⟨a,ns,rfl,hl,rfl,rfl⟩,q⟩:=h;obtain⟨v,rfl,rv⟩:=rs.one;obtain⟨a',rfl,ra⟩:=rv.l9;obtain⟨vs,hq,rs⟩:=R.items hl ra;have:=rs.ints;subst this;exact Yb hc pins s σ H _ us Q I r ⟨_,ns,rfl,hq,q.now R (.int _)⟩
theorem PY:n4 X (.type "int") (rN X.K .int):=by
 intro pins s σ H xs us Q I r h;obtain⟨ds,g,ρ,R,rs,d',g',⟨rfl,h⟩,q⟩:=h;rcases h with⟨i,rfl,rfl⟩|⟨b,rfl,rfl⟩
 ·obtain⟨v,rfl,rv⟩:=rs.one;obtain rfl:=rv.j7;exact HK pins s σ H _ us Q I r (.inl ⟨i,rfl,q.now R (.int _)⟩)
 ·obtain⟨v,rfl,rv⟩:=rs.one;obtain rfl:=rv.L1;exact HK pins s σ H _ us Q I r (.inr ⟨b,rfl,q.now R (.int _)⟩)
def rM(K:PySem.W.Frag)(p:Pr):V->List V->Hp->VK->Prop:=λx xs H Q=>∃d ds g ρ,Rl K ρ g H/\f6 K ρ H d x/\b9 K ρ H ds xs/\cS p (d::ds) g (LQ K ρ H Q)
theorem zf{a b:D}{l m:List D}(h:a::l=b::m):a=b/\l=m:=by cases h;exact⟨rfl,rfl⟩
theorem XQ:nP X "list.append" (rM X.K .append):=by
 intro pins s σ H x xs v us Q I rx r h;obtain⟨d,ds,g,ρ,R,rd,rs,d',g',⟨a,y,l,ex,ha,hz,rfl,rfl⟩,q⟩:=h;obtain⟨rfl,rfl⟩:=zf ex;obtain⟨a',rfl,ra⟩:=rd.l9;obtain⟨w,rfl,gn⟩:=rs.one;obtain⟨vs,z1,rv⟩:=R.lst ha ra;obtain⟨R2,e2⟩:=R.write ha ra (rv.append (.cons gn .nil));exact Yu pins s σ H _ _ v us Q I rx r ⟨_,vs,_,rfl,rfl,z1,by rw[<- rv.length];exact Cr hz,q ρ _ _ e2 R2 .bN⟩
theorem PQ(hu:X.A.units+100<cLine):nP X "dict.get" (rM X.K .get):=by
 intro pins s σ H x xs v us Q I rx r h;obtain⟨d,ds,g,ρ,R,rd,rs,d',g',⟨a,y,z,kvs,c,ex,ha,hc,rfl,rfl⟩,q⟩:=h;obtain⟨rfl,rfl⟩:=zf ex;obtain⟨a',rfl,ra⟩:=rd.l9;obtain⟨w1,w2,rfl,r1,r2⟩:=rs.two;obtain⟨vs,z1,rv⟩:=R.dg ha ra;have:=W7 hc r1;subst this;obtain⟨u1,u2,rfl,p1,p2⟩:=vals2 r;cases rx;refine PH (by omega) I (O3.k z1) p1 p2 λw' s4 I4 gn=>⟨_,H,I4,gn,q.now R ?_⟩
 have q:=rv.val c;cases e1:w6 kvs c with
 |none =>
  rw[e1] at q;cases e2:K7 vs c with
  |none=>exact r2
  |some w=>rw[e2] at q;exact q.elim
 |some d' =>
  rw[e1] at q;obtain⟨w,hw,q⟩:=q.some;rw[hw];exact q
theorem a27:nP X "list.pop" (rM X.K .pop):=by
 intro pins s σ H x xs v us Q I rx r h;obtain⟨d,ds,g,ρ,R,rd,rs,y,g',⟨a,i,l,k,ex,ha,h1,h2,hk,hy,rfl⟩,q⟩:=h;obtain⟨rfl,rfl⟩:=zf ex;obtain⟨a',rfl,ra⟩:=rd.l9;obtain⟨w,rfl,gn⟩:=rs.one;obtain rfl:=gn.j7;obtain⟨vs,z1,rv⟩:=R.lst ha ra;obtain⟨w,hw,gn⟩:=rv.get hy;obtain⟨R2,e2⟩:=R.write ha ra (rv.erase k);exact a40 pins s σ H _ _ v us Q I rx r ⟨_,vs,i,k,w,rfl,rfl,z1,h1,h2,by rw[<- rv.length];exact hk,hw,q ρ _ _ e2 R2 (gn.ext e2)⟩
theorem b9.strs{K ρ H}{ys:List Str}{vs:List V}(h:b9 K ρ H (ys.map D.str) vs):vs=ys.map V.str:=by
 induction ys generalizing vs with
 |nil=>cases h;rfl
 |cons y ys ih =>
  cases h with
  |cons q r=>cases q;rw[ih r];rfl
theorem ty_list{d:D}{v:V}{g:G}{ρ:List Addr}{H:Hp}(R:Rl X.K ρ g H)(r:f6 X.K ρ H d v)(h:∃a l,d=.ref a/\d7 g a=some l):nT X.K "list" v H:=by
 obtain⟨a,l,rfl,hl⟩:=h;obtain⟨a',rfl,ra⟩:=r.l9;obtain⟨vs,hq,_⟩:=R.items hl ra;exact .inl ⟨rfl,vs,hq⟩
theorem TL:nP X "set.add" (rM X.K .kE):=by
 intro pins s σ H x xs v us Q I rx r h;obtain⟨d,ds,g,ρ,R,rd,rs,d',g',⟨a,i,S,n,ex,ha,hn,rfl,rfl⟩,q⟩:=h;obtain⟨rfl,rfl⟩:=zf ex;obtain⟨a',rfl,ra⟩:=rd.l9;obtain⟨w,rfl,gn⟩:=rs.one;obtain rfl:=gn.j7;obtain⟨R2,e2⟩:=R.put (o':=.set (λk=>S k||decide (k=i)) (if S i then n else n+1)) (u:=.set (λk=>S k||decide (k=i)) (if S i then n else n+1)) ha rfl ra ⟨rfl,rfl⟩;exact Zs pins s σ H _ _ v us Q I rx r ⟨_,i,S,n,rfl,rfl,R.set ha ra,hn,q ρ _ _ e2 R2 .bN⟩
theorem ty_set{d:D}{v:V}{g:G}{ρ:List Addr}{H:Hp}(R:Rl X.K ρ g H)(r:f6 X.K ρ H d v)(h:mM .kE d g):nT X.K "set" v H:=by
 obtain⟨a,S,n,rfl,hl⟩:=h;obtain⟨a',rfl,ra⟩:=r.l9;exact .inr (.inr (.inr ⟨rfl,S,n,R.set hl ra⟩))
theorem ty_dict{d:D}{v:V}{g:G}{ρ:List Addr}{H:Hp}(R:Rl X.K ρ g H)(r:f6 X.K ρ H d v)(h:mM .get d g):nT X.K "dict" v H:=by
 obtain⟨a,l,rfl,hl⟩:=h;obtain⟨a',rfl,ra⟩:=r.l9;obtain⟨vs,hq,_⟩:=R.dg hl ra;exact .inr (.inr (.inl ⟨rfl,.inl ⟨vs,hq⟩⟩))
end
end M

namespace M
open PySem L2 PySem.Spec PyProof.Rows
noncomputable abbrev iT:=List Str×XK
def LX(K:PySem.W.Frag)(ρ:List Addr)(H:Hp)(Ξ:iT):KX:=λx g'=>∀bQ H' C,Ext ρ H bQ H'->Rl K bQ g' H'->x.cls∈Ξ.1->v8 K x.cls C->Ξ.2 (.ref C) none H'
theorem LX.ext{K:PySem.W.Frag}{ρ bZ:List Addr}{H H1:Hp}{Ξ:iT}(e:Ext ρ H bZ H1){x:Xn}{g:G}(h:LX K ρ H Ξ x g):LX K bZ H1 Ξ x g:=λbQ H' C e' R hm c=>h bQ H' C (e.trans e') R hm c
noncomputable abbrev sk(ex:List Str):iT:=(ex,λ_ _ _=>False)
def LE(K:PySem.W.Frag)(Ξ:iT)(t:S->G->KD->KX->Prop):TE:=λcu H Q=>∃σ g ρ,q8 K ρ H σ cu/\Rl K ρ g H/\t σ g (LQ K ρ H Q) (LX K ρ H Ξ)
def LT(K:PySem.W.Frag)(Ξ:iT)(t:S->G->(Bool->G->Prop)->KX->Prop):TT:=λcu H Q=>∃σ g ρ,q8 K ρ H σ cu/\Rl K ρ g H/\t σ g (λb g'=>∀bQ H',Ext ρ H bQ H'->Rl K bQ g' H'->Q b H') (LX K ρ H Ξ)
def LA(K:PySem.W.Frag)(Ξ:iT)(t:S->G->(List D->G->Prop)->KX->Prop):TA:=λcu H Q=>∃σ g ρ,q8 K ρ H σ cu/\Rl K ρ g H/\t σ g (λds g'=>∀bQ H' vs,Ext ρ H bQ H'->Rl K bQ g' H'->b9 K bQ H' ds vs->Q vs H') (LX K ρ H Ξ)
def pW(K:PySem.W.Frag)(gE:List Addr)(H0:Hp)(k:IK)(J:It):Prop:=∀ρ g H,Ext gE H0 ρ H->Rl K ρ g H->∀i,(k.at i g=some none->J.stop i H) /\
 ∀d,k.at i g=some (some d)->J.go i H/\∀v H',J.qr i H v H'->Ext ρ H ρ H'/\Rl K ρ g H'/\f6 K ρ H' d v
def LI(K:PySem.W.Frag)(Ξ:iT)(t:S->G->(IK->G->Prop)->KX->Prop):TI:=λcu H R=>∃σ g ρ,q8 K ρ H σ cu/\Rl K ρ g H/\t σ g (λk g'=>∀bQ H' J,Ext ρ H bQ H'->Rl K bQ g' H'->pW K bQ H' k J->R J H') (LX K ρ H Ξ)
def LG(K:PySem.W.Frag)(t:MT):TG:=λv cu H Q=>∃d σ g ρ,q8 K ρ H σ cu/\Rl K ρ g H/\f6 K ρ H d v/\jZ t d σ (λcF=>∀dH,q8 K ρ H cF dH->Q dH H)
def LN(K:PySem.W.Frag)(ρ:List Addr)(H:Hp)(N:L2.Ends):Ends where
 nx:=λcF g'=>∀bQ H' dH,Ext ρ H bQ H'->Rl K bQ g' H'->q8 K bQ H' cF dH->N.nx dH H'
 rt:=LQ K ρ H N.rt
 bk:=λcF g'=>∀bQ H' dH,Ext ρ H bQ H'->Rl K bQ g' H'->q8 K bQ H' cF dH->N.bk dH H'
 ct:=λcF g'=>∀bQ H' dH,Ext ρ H bQ H'->Rl K bQ g' H'->q8 K bQ H' cF dH->N.ct dH H'
def LS(K:PySem.W.Frag)(Ξ:iT)(t:Ends->S->G->KX->Prop):TS:=λN cu H=>∃σ g ρ,q8 K ρ H σ cu/\Rl K ρ g H/\t (LN K ρ H N) σ g (LX K ρ H Ξ)
end M
namespace L2
open PySem PySem.Spec PyProof.Rows
section
variable{X:Cx}{e:Expr}
theorem PE.imp{t t':TE}(h:PE X e t)(i:∀σ H Q,t' σ H Q->t σ H Q):PE X e t':=λpins s σ H Q I q=>h pins s σ H Q I (i σ H Q q)
theorem PT.imp{t t':TT}(h:PT X e t)(i:∀σ H Q,t' σ H Q->t σ H Q):PT X e t':=λpins s σ H Q I q=>h pins s σ H Q I (i σ H Q q)
theorem PW.imp{t t':TT}(h:PW X e t)(i:∀σ H Q,t' σ H Q->t σ H Q):PW X e t':=λw pins s σ H Q I q=>h w pins s σ H Q I (i σ H Q q)
theorem PA.imp{es:List Expr}{t t':TA}(h:PA X es t)(i:∀σ H Q,t' σ H Q->t σ H Q):PA X es t':=λp pins s σ H Q I q=>h p pins s σ H Q I (i σ H Q q)
theorem lR.imp{es:List Expr}{t t':TT}(h:lR X es t)(i:∀σ H Q,t' σ H Q->t σ H Q):lR X es t':=λpins s σ H Q I q=>h pins s σ H Q I (i σ H Q q)
theorem PI.imp{tg:Expr}{t t':TI}(h:PI X tg e t)(i:∀σ H Q,t' σ H Q->t σ H Q):PI X tg e t':=λpins s σ H Q I q=>h pins s σ H Q I (i σ H Q q)
theorem PG.imp{t t':TG}(h:PG X e t)(i:∀v σ H Q,t' v σ H Q->t v σ H Q):PG X e t':=λpins s σ H v u Q I r q=>h pins s σ H v u Q I r (i v σ H Q q)
theorem PS.imp{st:Stmt}{t t':TS}(h:PS X st t)(i:∀N σ H,t' N σ H->t N σ H):PS X st t':=λpins s σ H N I q=>h pins s σ H N I (i N σ H q)
theorem kP.imp{st:List Stmt}{t t':TS}(h:kP X st t)(i:∀N σ H,t' N σ H->t N σ H):kP X st t':=λpins s σ H N I q=>h pins s σ H N I (i N σ H q)
end
end L2
namespace M
open PySem L2 PySem.Spec PyProof.Rows
section
variable{K:PySem.W.Frag}{Ξ:iT}{P:fY}(hP:j6 P){ρ gE:List Addr}{H H0:Hp}{σ:S}{cu:L2.St}{g:G}{m:ME}
include hP
theorem fN{Q0:KD}{Q:VK}(s:q8 K ρ H σ cu)(R:Rl K ρ g H)(e0:Ext gE H0 ρ H)(h:bg P m σ g Q0 (LX K gE H0 Ξ))(k:∀x g1 bZ H1 v1,Ext ρ H bZ H1->Rl K bZ g1 H1->f6 K bZ H1 x v1->Q0 x g1->Q v1 H1):LE K Ξ (bg P m) cu H Q :=
 ⟨σ,g,ρ,s,R,c7 hP m _ _ _ _ _ _ (λx g1 h bZ H1 v1 e1 R1 r1=>k x g1 bZ H1 v1 e1 R1 r1 h) (λ_ _ z=>LX.ext e0 z) h⟩
theorem kS{Q0:List D->G->Prop}{Q:List V->Hp->Prop}(s:q8 K ρ H σ cu)(R:Rl K ρ g H)(e0:Ext gE H0 ρ H)(h:gk P m σ g Q0 (LX K gE H0 Ξ))(k:∀x g1 bZ H1 v1,Ext ρ H bZ H1->Rl K bZ g1 H1->b9 K bZ H1 x v1->Q0 x g1->Q v1 H1):LA K Ξ (gk P m) cu H Q :=
 ⟨σ,g,ρ,s,R,x8 hP m _ _ _ _ _ _ (λx g1 h bZ H1 v1 e1 R1 r1=>k x g1 bZ H1 v1 e1 R1 r1 h) (λ_ _ z=>LX.ext e0 z) h⟩
theorem qu{Q0:Bool->G->Prop}{Q:Bool->Hp->Prop}(s:q8 K ρ H σ cu)(R:Rl K ρ g H)(e0:Ext gE H0 ρ H)(h:df P m σ g Q0 (LX K gE H0 Ξ))(k:∀t g1 bZ H1,Ext ρ H bZ H1->Rl K bZ g1 H1->Q0 t g1->Q t H1):LT K Ξ (df P m) cu H Q :=
 ⟨σ,g,ρ,s,R,t8 hP m _ _ _ _ _ _ (λt g1 h bZ H1 e1 R1=>k t g1 bZ H1 e1 R1 h) (λ_ _ z=>LX.ext e0 z) h⟩
theorem uA{ms:MS}{N:L2.Ends}{N0:Ends}(s:q8 K ρ H σ cu)(R:Rl K ρ g H)(e0:Ext gE H0 ρ H)(h:wpS P ms N0 σ g (LX K gE H0 Ξ))(k:N0.le (LN K ρ H N)):LS K Ξ (wpS P ms) N cu H :=
 ⟨σ,g,ρ,s,R,wpS_mono hP ms _ _ _ _ _ _ k (λ_ _ z=>LX.ext e0 z) h⟩
end
theorem b9.mK{K ρ H}(lo:Int)(n:Nat):b9 K ρ H (i8 lo n) ((List.range n).map λ(k:Nat)=>V.int (lo+k)):=by
 unfold i8;have:∀l:List Nat,b9 K ρ H (l.map λ(k:Nat)=>D.int (lo+k)) (l.map λ(k:Nat)=>V.int (lo+k)):=by
  intro l
  induction l with
  |nil=>exact .nil
  |cons x r ih=>exact .cons (.int _) ih
 exact this _
section
variable{X:Cx}{Ξ:iT}{P:fY}(hP:j6 P){a b c e:Expr}{ma mb mc:ME}{pos:Pos}{p:Pr}
include hP
theorem BV(h:PE X e (sH (r2 X.K p) (LE X.K Ξ (bg P ma)) (LE X.K Ξ (bg P mb)))):PE X e (LE X.K Ξ (bg P (.prim p (.cons ma (.cons mb .nil))))) :=
 h.imp λcu H Q bB=>by
  obtain⟨σ,g,ρ,s,R,h⟩:=bB;exact fN hP s R (.refl _ _) h λx g1 bZ H1 v1 e1 R1 r1 h=>fN hP (s.ext e1) R1 e1 h λy g2 fM H2 v2 e2 R2 r2 h =>
   ⟨x,y,g2,fM,R2,r1.ext e2,r2,u7 (λd g' h=>h.ext (e1.trans e2)) h⟩
theorem RL{op:CmpOp}(h:PT X e (DL (sH (r2 X.K (.cmp op)) (LE X.K Ξ (bg P ma)) (LE X.K Ξ (bg P mb))))):PT X e (LT X.K Ξ (df P (.fT (.prim (.cmp op) (.cons ma (.cons mb .nil)))))) :=
 h.imp λcu H Q bB=>by
  obtain⟨σ,g,ρ,s,R,h⟩:=bB;refine fN hP s R (.refl _ _) h λx g1 bZ H1 v1 e1 R1 r1 h=>fN hP (s.ext e1) R1 e1 h λy g2 fM H2 v2 e2 R2 r2 h=>?_;obtain⟨d',g',h,q⟩:=h;obtain⟨x',y',t,ex,hc,rfl,rfl⟩:=id h;refine⟨x,y,g',fM,R2,r1.ext e2,r2,_,_,h,λbQ H' v e' R' r'=>?_⟩;obtain⟨t',ht,q⟩:=q;rcases ht with⟨z,_⟩|z|⟨i,z,_⟩|⟨l,z,_⟩|⟨a,l,z,_⟩<;>cases z
  exact⟨_,r'.L1,q bQ H' (e1.trans (e2.trans e')) R'⟩
theorem OU{op:UnaryOp}(ha:PE X a (LE X.K Ξ (bg P ma))):PE X (.UnaryOp op a pos) (LE X.K Ξ (bg P (.prim (.un op) (.cons ma .nil)))) :=
 (OG (WS op) ha).imp λcu H Q bB=>by
  obtain⟨σ,g,ρ,s,R,h⟩:=bB;exact fN hP s R (.refl _ _) h λx g1 bZ H1 v1 e1 R1 r1 h=>⟨x,g1,bZ,R1,r1,u7 (λd g' h=>h.ext e1) h⟩
theorem Kb{op iH:CmpOp}:∀cu H Q,LE X.K Ξ (bg P (.chain op iH ma mb mc)) cu H Q->BW (r2 X.K (.cmp op)) (r2 X.K (.cmp iH)) (LE X.K Ξ (bg P ma)) (LE X.K Ξ (bg P mb)) (LE X.K Ξ (bg P mc)) cu H Q:=λcu H Q bB=>by
 obtain⟨σ,g,ρ,s,R,h⟩:=bB;refine fN hP s R (.refl _ _) h λx g1 bZ H1 v1 e1 R1 r1 h=>fN hP (s.ext e1) R1 e1 h λy g2 fM H2 v2 e2 R2 r2 h=>?_;refine⟨x,y,g2,fM,R2,r1.ext e2,r2,u7 (λd g3 h lx H3 v3 e3 R3 r3=>?_) h⟩;obtain⟨t,rfl,h⟩:=h;obtain rfl:=r3.L1;refine⟨t,rfl,?_⟩;cases t
 ·exact h lx H3 _ (e1.trans (e2.trans e3)) R3 (.bl _)
 ·exact fN hP (s.ext (e1.trans (e2.trans e3))) R3 (e1.trans (e2.trans e3)) h λz g4 qq H4 v4 e4 R4 r4 h =>
   ⟨y,z,g4,qq,R4,r2.ext (e3.trans e4),r4,u7 (λd g' h=>h.ext (e1.trans (e2.trans (e3.trans e4)))) h⟩
theorem a11{op iH:CmpOp}(hu:X.A.units+100<cLine)(ha:PE X a (LE X.K Ξ (bg P ma)))(hb:PE X b (LE X.K Ξ (bg P mb)))(hc:PE X c (LE X.K Ξ (bg P mc)))(hm:lastMarks [op,iH] [b,c]=false) :
  PE X (.Compare a [op,iH] [b,c] pos) (LE X.K Ξ (bg P (.chain op iH ma mb mc))):=(a34 (W3 hu op) (W3 hu iH) ha hb hc hm).imp (Kb hP)
theorem a55{op iH:CmpOp}{σ:S}{g:G}{Q:Bool->G->Prop}{E:KX}(h:df P (.fT (.chain op iH ma mb mc)) σ g Q E):bg P (.chain op iH ma mb mc) σ g (λd g'=>∃t,d=.bl t/\Q t g') E:=by
 have one:∀{o:CmpOp} {xs:List D} {g:G},cS (.cmp o) xs g (λd g1=>qc g1 d λb=>Q b g1)->cS (.cmp o) xs g λd g'=>∃t,d=.bl t/\Q t g':=by
  intro o xs g h;obtain⟨d',g',h,t',ht,q⟩:=h;obtain⟨x',y',t,ex,hc,rfl,rfl⟩:=id h;refine⟨_,_,h,t',?_,q⟩;rcases ht with⟨z,_⟩|z|⟨i,z,_⟩|⟨l,z,_⟩|⟨a,l,z,_⟩<;>first|exact z|cases z
 refine c7 hP ma _ _ _ _ _ _ (λx g1 h=>c7 hP mb _ _ _ _ _ _ (λy g2 h=>u7 (λz g3 h=>?_) h) (λ_ _ z=>z) h) (λ_ _ z=>z) h;obtain⟨t,rfl,h⟩:=h;refine⟨t,rfl,?_⟩;cases t
 ·obtain⟨b,hb,q⟩:=(show qc g3 (.bl false) λb=>Q b g3 from h)
  rcases hb with⟨z,_⟩|z|⟨i,z,_⟩|⟨l,z,_⟩|⟨a,l,z,_⟩<;>first|(cases z;exact⟨_,rfl,q⟩)|cases z
 ·exact c7 hP mc _ _ _ _ _ _ (λw g4 h=>one h) (λ_ _ z=>z) h
theorem XE{op iH:CmpOp}(hu:X.A.units+100<cLine)(ha:PE X a (LE X.K Ξ (bg P ma)))(hb:PE X b (LE X.K Ξ (bg P mb)))(hc:PE X c (LE X.K Ξ (bg P mc)))(hm:lastMarks [op,iH] [b,c]=false) :
  PT X (.Compare a [op,iH] [b,c] pos) (LT X.K Ξ (df P (.fT (.chain op iH ma mb mc)))) :=
 (a21 (W3 hu op) (W3 hu iH) ha hb hc hm).imp λcu H Q ⟨σ,g,ρ,s,R,h⟩ =>
  Kb hP cu H _ (fN hP s R (.refl _ _) (a55 hP h) λx g1 bZ H1 v1 e1 R1 r1 h=>by
   obtain⟨t,rfl,h⟩:=h;exact ⟨t,r1.L1,h bZ H1 e1 R1⟩)
theorem Ro{rest:List Expr}(ha:PE X a (LE X.K Ξ (bg P ma)))(hb:PE X (.BoolOp .And (b::rest) pos) (LE X.K Ξ (bg P mb))):PE X (.BoolOp .And (a::b::rest) pos) (LE X.K Ξ (bg P (.dS ma mb))) :=
 (QK ha hb).imp λcu H Q bB=>by
  obtain⟨σ,g,ρ,s,R,h⟩:=bB;refine fN hP s R (.refl _ _) h λx g1 bZ H1 v1 e1 R1 r1 h=>?_;obtain⟨t,rfl,h⟩:=h;refine⟨t,r1.L1,?_⟩;cases t
  ·exact h bZ H1 _ e1 R1 (.bl _)
  ·exact fN hP (s.ext e1) R1 e1 h λy g2 fM H2 v2 e2 R2 r2 h=>h fM H2 v2 (e1.trans e2) R2 r2
theorem OT{rest:List Expr}(ha:PE X a (LE X.K Ξ (bg P ma)))(hb:PE X (.BoolOp .Or (b::rest) pos) (LE X.K Ξ (bg P mb))):PE X (.BoolOp .Or (a::b::rest) pos) (LE X.K Ξ (bg P (.ke ma mb))) :=
 (WZ ha hb).imp λcu H Q bB=>by
  obtain⟨σ,g,ρ,s,R,h⟩:=bB;refine fN hP s R (.refl _ _) h λx g1 bZ H1 v1 e1 R1 r1 h=>?_;obtain⟨t,rfl,h⟩:=h;refine⟨t,r1.L1,?_⟩;cases t
  ·exact fN hP (s.ext e1) R1 e1 h λy g2 fM H2 v2 e2 R2 r2 h=>h fM H2 v2 (e1.trans e2) R2 r2
  ·exact h bZ H1 _ e1 R1 (.bl _)
theorem Rx(ha:PE X a (LE X.K Ξ (bg P ma))):PE X (.UnaryOp .Not a pos) (LE X.K Ξ (bg P (.fe ma))) :=
 (QQ ha).imp λcu H Q bB=>by
  obtain⟨σ,g,ρ,s,R,h⟩:=bB;refine fN hP s R (.refl _ _) h λx g1 bZ H1 v1 e1 R1 r1 h=>?_;obtain⟨t,rfl,h⟩:=h;exact⟨t,r1.L1,h bZ H1 _ e1 R1 (.bl _)⟩
theorem Rv(hc:PT X c (LT X.K Ξ (df P mc)))(ha:PE X a (LE X.K Ξ (bg P ma)))(hb:PE X b (LE X.K Ξ (bg P mb))):PE X (.IfExp c a b pos) (LE X.K Ξ (bg P (.ite mc ma mb))) :=
 (a32 hc ha hb).imp λcu H Q bB=>by
  obtain⟨σ,g,ρ,s,R,h⟩:=bB;refine qu hP s R (.refl _ _) h λt g1 bZ H1 e1 R1 h=>?_;cases t
  ·exact fN hP (s.ext e1) R1 e1 h λy g2 fM H2 v2 e2 R2 r2 h=>h fM H2 v2 (e1.trans e2) R2 r2
  ·exact fN hP (s.ext e1) R1 e1 h λy g2 fM H2 v2 e2 R2 r2 h=>h fM H2 v2 (e1.trans e2) R2 r2
theorem Ry{es:List Expr}{ie:ME}{k:Nat}(h:PA X es (LA X.K Ξ (gk P ie))):PE X (.Tuple es k pos) (LE X.K Ξ (bg P (.prim .tup ie))) :=
 (QS h).imp λcu H Q bB=>by
  obtain⟨σ,g,ρ,s,R,h⟩:=bB;refine kS hP s R (.refl _ _) h λds g1 bZ H1 vs e1 R1 r1 h=>?_;obtain⟨d',g',⟨hz,rfl,rfl⟩,q⟩:=h;exact⟨by rw[<- r1.length];exact n9 (aI hz (by decide)),λp hp=>(q.ext e1).tup R1 hp r1⟩
theorem Rw{es:List Expr}{ie:ME}(h:PA X es (LA X.K Ξ (gk P ie))):PE X (.List es pos) (LE X.K Ξ (bg P (.prim .lst ie))) :=
 (QO h).imp λcu H Q bB=>by
  obtain⟨σ,g,ρ,s,R,h⟩:=bB;refine kS hP s R (.refl _ _) h λds g1 bZ H1 vs e1 R1 r1 h=>?_;obtain⟨d',g',⟨hz,rfl,rfl⟩,q⟩:=h;exact⟨by rw[<- r1.length];exact n9 (aI hz (by decide)),λp hp=>(q.ext e1).new R1 hp r1⟩
theorem N1:PA X [] (LA X.K Ξ (gk P .nil)) :=
 (W0 (X:=X)).imp λcu H Q bB=>by
  obtain⟨σ,g,ρ,s,R,h⟩:=bB;exact h ρ H [] (.refl _ _) R .nil
theorem E0{es:List Expr}{ie:ME}(ha:PE X a (LE X.K Ξ (bg P ma)))(h:PA X es (LA X.K Ξ (gk P ie)))(hs:starEach (a::es) X.env=(false,eval a X.env)::starEach es X.env):PA X (a::es) (LA X.K Ξ (gk P (.cons ma ie))) :=
 (P5 ha h hs).imp λcu H Q bB=>by
  obtain⟨σ,g,ρ,s,R,h⟩:=bB;exact fN hP s R (.refl _ _) h λx g1 bZ H1 v1 e1 R1 r1 h=>kS hP (s.ext e1) R1 e1 h λxs g2 fM H2 vs e2 R2 r2 h=>h fM H2 _ (e1.trans e2) R2 (.cons (r1.ext e2) r2)
theorem a05{p2:Pos}(ha:PE X a (LE X.K Ξ (bg P ma))):PE X (.Subscript a (.Slice none none none p2) pos) (LE X.K Ξ (bg P (.prim (.nU false false) (.cons ma .nil)))) :=
 (CJ DJ ha ze ze).imp λcu H Q bB=>by
  obtain⟨σ,g,ρ,s,R,h⟩:=bB;refine fN hP s R (.refl _ _) h λx g1 bZ H1 v1 e1 R1 r1 h=>?_;obtain⟨d',g',⟨x',ex,h⟩,q⟩:=h;cases ex;exact⟨x,g1,bZ,d',g',R1,r1,h,q.ext e1⟩
theorem a03{p2:Pos}(ha:PE X a (LE X.K Ξ (bg P ma)))(hb:PE X b (LE X.K Ξ (bg P mb))):PE X (.Subscript a (.Slice (some b) none none p2) pos) (LE X.K Ξ (bg P (.prim (.nU true false) (.cons ma (.cons mb .nil))))) :=
 (CJ DJ ha (JO hb) ze).imp λcu H Q bB=>by
  obtain⟨σ,g,ρ,s,R,h⟩:=bB;refine fN hP s R (.refl _ _) h λx g1 bZ H1 v1 e1 R1 r1 h=>fN hP (s.ext e1) R1 e1 h λy g2 fM H2 v2 e2 R2 r2 h=>?_;obtain⟨d',g',⟨x',i,ex,h⟩,q⟩:=h;cases ex;exact⟨i,r2.j7,x,g2,fM,d',g',R2,r1.ext e2,h,q.ext (e1.trans e2)⟩
theorem a04{p2:Pos}(ha:PE X a (LE X.K Ξ (bg P ma)))(hb:PE X b (LE X.K Ξ (bg P mb))):PE X (.Subscript a (.Slice none (some b) none p2) pos) (LE X.K Ξ (bg P (.prim (.nU false true) (.cons ma (.cons mb .nil))))) :=
 (CJ DJ ha ze (JO hb)).imp λcu H Q bB=>by
  obtain⟨σ,g,ρ,s,R,h⟩:=bB;refine fN hP s R (.refl _ _) h λx g1 bZ H1 v1 e1 R1 r1 h=>fN hP (s.ext e1) R1 e1 h λy g2 fM H2 v2 e2 R2 r2 h=>?_;obtain⟨d',g',⟨x',i,ex,h⟩,q⟩:=h;cases ex;exact⟨i,r2.j7,x,g2,fM,d',g',R2,r1.ext e2,h,q.ext (e1.trans e2)⟩
theorem RN(ha:PE X a (LE X.K Ξ (bg P ma)))(he:∀whole,isTrue a X.env whole=(do let v <- whole;standAt a.pos;holding [v] (truthy v))):PT X a (LT X.K Ξ (df P (.fT ma))) :=
 (a20 ha he).imp λcu H Q bB=>by
  obtain⟨σ,g,ρ,s,R,h⟩:=bB;refine fN hP s R (.refl _ _) h λx g1 bZ H1 v1 e1 R1 r1 h=>?_;obtain⟨b,h1,h2⟩:=h;exact⟨b,Sb R1 r1 h1,h2 bZ H1 e1 R1⟩
theorem RK(ha:PT X a (LT X.K Ξ (df P ma))):PT X (.UnaryOp .Not a pos) (LT X.K Ξ (df P (.fe ma))) :=
 (Rc ha).imp λcu H Q bB=>by
  obtain⟨σ,g,ρ,s,R,h⟩:=bB;exact qu hP s R (.refl _ _) h λt g1 bZ H1 e1 R1 h=>h bZ H1 e1 R1
theorem RP{rest:List Expr}(ha:PT X a (LT X.K Ξ (df P ma)))(hb:PW X (.BoolOp .And (b::rest) pos) (LT X.K Ξ (df P mb))):PW X (.BoolOp .And (a::b::rest) pos) (LT X.K Ξ (df P (.dS ma mb))) :=
 (Rf ha hb).imp λcu H Q bB=>by
  obtain⟨σ,g,ρ,s,R,h⟩:=bB;refine qu hP s R (.refl _ _) h λt g1 bZ H1 e1 R1 h=>?_;cases t
  ·exact h bZ H1 e1 R1
  ·exact qu hP (s.ext e1) R1 e1 h λt g2 fM H2 e2 R2 h=>h fM H2 (e1.trans e2) R2
theorem OX{rest:List Expr}(ha:PT X a (LT X.K Ξ (df P ma)))(hb:PW X (.BoolOp .Or (b::rest) pos) (LT X.K Ξ (df P mb))):PW X (.BoolOp .Or (a::b::rest) pos) (LT X.K Ξ (df P (.ke ma mb))) :=
 (OK ha hb).imp λcu H Q bB=>by
  obtain⟨σ,g,ρ,s,R,h⟩:=bB;refine qu hP s R (.refl _ _) h λt g1 bZ H1 e1 R1 h=>?_;cases t
  ·exact qu hP (s.ext e1) R1 e1 h λt g2 fM H2 e2 R2 h=>h fM H2 (e1.trans e2) R2
  ·exact h bZ H1 e1 R1
theorem Um:lR X [] (LT X.K Ξ (df P .no)) :=
 (Tu (X:=X)).imp λcu H Q bB=>by
  obtain⟨σ,g,ρ,s,R,h⟩:=bB;exact h ρ H (.refl _ _) R
theorem Rp{x:Str}{v:Value}{es:List Expr}{ie:ME}{q:Pos}(hv:(∃id,v=.builtin id)\/∃T,v=.type T)(hc:n4 X v (rN X.K p))(hg:Gl X x)(hm:X.mg x=none)(hb:bootBuiltins x=some v)(ha:PA X (e::es) (LA X.K Ξ (gk P ie)))(hn:x≠"__name__")(hd:(x==("__debug__":Str))=false)(fq:starEach (e::es) X.env=(false,eval e X.env)::starEach es X.env)(iC:(backTo pos (starEach es X.env)).any (·.1)=false):PE X (.Call (.Name x q) (e::es) [] pos) (LE X.K Ξ (bg P (.prim p ie))):=by
 have base:PE X (.Call (.Name x q) (e::es) [] pos) (zQ (rN X.K p) (LA X.K Ξ (gk P ie))):=by
  rcases hv with⟨id,rfl⟩|⟨T,rfl⟩
  ·exact Z0 hc hg hm hb ha hn hd fq iC
  ·exact N6 hc hg hm hb ha hn hd fq iC
 refine base.imp λcu H Q bB=>?_;obtain⟨σ,g,ρ,s,R,h⟩:=bB;exact kS hP s R (.refl _ _) h λxs g1 bZ H1 vs e1 R1 r1 h=>⟨xs,g1,bZ,R1,r1,u7 (λd g' h=>h.ext e1) h⟩
theorem TY{o:Expr}{es:List Expr}{mo ie:ME}{T:String}{name:Str}{id:String}{apos:Pos}(pa:PlainAttrs T)(slot:Slot T name id)(jO:typeOf (.builtin id)=pure (.type "method_descriptor"))(hm:nP X id (rM X.K p))(hk:∀{d:D} {v:V} {g:G} {ρ:List Addr} {H:Hp},Rl X.K ρ g H->f6 X.K ρ H d v->mM p d g->nT X.K T v H)(ho:PE X o (LE X.K Ξ (bg P mo)))(ha:PA X (e::es) (LA X.K Ξ (gk P ie)))(jx:attributeBase o name X.env (eval o X.env)=eval o X.env)(qZ:((backTo pos (starEach (e::es) X.env)).all (λx=>!x.1)&&(backToKw pos (keywordEach [] X.env)).all (λx=>x.1.isSome)&&decide ((e::es).length+([]:List Keyword).length+(if([]:List Keyword).isEmpty then 0 else 1)<30))=true)(jv:(apos.endLine==pos.line)=true)(hs:starEach (e::es) X.env=(false,eval e X.env)::starEach es X.env)(gQ:(backTo pos (starEach es X.env)).any (·.1)=false) :
  PE X (.Call (.Attribute o name apos) (e::es) [] pos) (LE X.K Ξ (bg P (.ff p mo ie))) :=
 (WW pa slot jO hm ho ha jx qZ jv hs gQ).imp λcu H Q bB=>by
  obtain⟨σ,g,ρ,s,R,h⟩:=bB;exact fN hP s R (.refl _ _) h λx g1 bZ H1 v1 e1 R1 r1 h=>⟨hk R1 r1 h.1,kS hP (s.ext e1) R1 e1 h.2 λxs g2 fM H2 ws e2 R2 r2 h =>
   ⟨x,xs,g2,fM,R2,r1.ext e2,r2,u7 (λd g' h=>h.ext (e1.trans e2)) h⟩⟩
theorem a07{o:Expr}{mo:ME}{T:String}{name:Str}{id:String}{apos:Pos}(pa:PlainAttrs T)(slot:Slot T name id)(jO:typeOf (.builtin id)=pure (.type "method_descriptor"))(hm:nP X id (rM X.K p))(hk:∀{d:D} {v:V} {g:G} {ρ:List Addr} {H:Hp},Rl X.K ρ g H->f6 X.K ρ H d v->mM p d g->nT X.K T v H)(ho:PE X o (LE X.K Ξ (bg P mo)))(jx:attributeBase o name X.env (eval o X.env)=eval o X.env)(jv:(apos.endLine==pos.line)=true) :
  PE X (.Call (.Attribute o name apos) [] [] pos) (LE X.K Ξ (bg P (.ff p mo .nil))) :=
 (QL pa slot jO hm ho jx jv).imp λcu H Q bB=>by
  obtain⟨σ,g,ρ,s,R,h⟩:=bB;exact fN hP s R (.refl _ _) h λx g1 bZ H1 v1 e1 R1 r1 h=>⟨hk R1 r1 h.1,x,[],g1,bZ,R1,r1,.nil,u7 (λd g' h=>h.ext e1) h.2⟩
theorem a10{q p2 kc:Pos}(hc:X.calm=true)(ha:PE X a (LE X.K Ξ (bg P ma)))(nA:Gl X "list")(oG:X.mg "list"=none)(hg:Gl X "range")(hm:X.mg "range"=none)(hs:starEach [a] X.env=[(false,eval a X.env)]) :
  PE X (.Call (.Name "list" p2) [.Call (.Name "range" q) [a] [] pos] [] kc) (LE X.K Ξ (bg P (.prim .jM (.cons ma .nil)))) :=
 (N6 (IV hc) nA oG (by first|exact fy|decide +kernel) (P5 (YC hg hm (E0 hP ha (N1 hP) (by rw[hs];rfl)) hs) W0)).imp λcu H Q bB=>by
  obtain⟨σ,g,ρ,s,R,h⟩:=bB;refine kS hP s R (.refl _ _) h λxs g1 bZ H1 vs e1 R1 r1 h=>?_;obtain⟨d',g',⟨j,rfl,h1,h2,rfl,rfl⟩,q⟩:=h;obtain⟨v,rfl,rv⟩:=r1.one;obtain rfl:=rv.j7;refine⟨j,rfl,λq' hq=>⟨q',0,j,rfl,u3,⟨by omega,by omega,h1,by omega,by omega⟩,λp hp=>?_⟩⟩;rw[show(j-0).toNat=j.toNat by omega];exact(q.ext (e1.trans (A7 hq))).new (R1.grow hq) hp (b9.mK 0 _)
theorem a09{q p2 kc:Pos}(hc:X.calm=true)(ha:PE X a (LE X.K Ξ (bg P ma)))(hb:PE X b (LE X.K Ξ (bg P mb)))(nA:Gl X "list")(oG:X.mg "list"=none)(hg:Gl X "range")(hm:X.mg "range"=none)(hs:starEach [a,b] X.env=[(false,eval a X.env),(false,eval b X.env)])(gA:starEach [b] X.env=[(false,eval b X.env)]) :
  PE X (.Call (.Name "list" p2) [.Call (.Name "range" q) [a,b] [] pos] [] kc) (LE X.K Ξ (bg P (.prim .kJ (.cons ma (.cons mb .nil))))) :=
 (N6 (IV hc) nA oG (by first|exact fy|decide +kernel) (P5 (YD hg hm (E0 hP ha (E0 hP hb (N1 hP) (by rw[gA];rfl)) (by rw[hs,gA])) hs gA) W0)).imp λcu H Q bB=>by
  obtain⟨σ,g,ρ,s,R,h⟩:=bB;refine kS hP s R (.refl _ _) h λxs g1 bZ H1 vs e1 R1 r1 h=>?_;obtain⟨d',g',⟨i,j,rfl,hb,rfl,rfl⟩,q⟩:=h;obtain⟨v,w,rfl,rv,gn⟩:=r1.two;obtain rfl:=rv.j7;obtain rfl:=gn.j7;exact⟨i,j,rfl,λq' hq=>⟨q',i,j,rfl,u3,hb,λp hp=>(q.ext (e1.trans (A7 hq))).new (R1.grow hq) hp (b9.mK i _)⟩⟩
theorem Ub{q p2 kc:Pos}(hc:X.calm=true)(ha:PE X a (LE X.K Ξ (bg P ma)))(nA:Gl X "sorted")(oG:X.mg "sorted"=none)(hg:Gl X "set")(hm:X.mg "set"=none)(hs:starEach [a] X.env=[(false,eval a X.env)]) :
  PE X (.Call (.Name "sorted" p2) [.Call (.Name "set" q) [a] [] pos] [] kc) (LE X.K Ξ (bg P (.prim .sset (.cons ma .nil)))) :=
 (Z0 (U0 hc) nA oG (by first|exact hU|decide +kernel) (P5 (N6 (IS hc) hg hm (by first|exact xc|decide +kernel) (E0 hP ha (N1 hP) (by rw[hs];rfl)) (by decide) (by decide) (by rw[hs];rfl) rfl) W0)).imp λcu H Q bB=>by
  obtain⟨σ,g,ρ,s,R,h⟩:=bB;refine kS hP s R (.refl _ _) h λxs g1 bZ H1 vs e1 R1 r1 h=>?_;obtain⟨d',g',⟨i,ns,rfl,hl,hz,rfl,rfl⟩,q⟩:=h;obtain⟨v,rfl,rv⟩:=r1.one;obtain⟨a',rfl,ra⟩:=rv.l9;obtain⟨ws,hq,rs⟩:=R1.items hl ra;obtain rfl:=rs.ints;refine⟨_,ns,rfl,hq,hz,λq' nv=>⟨q',ns,rfl,u3,hz,λp hp=>?_⟩⟩;exact(q.ext (e1.trans (A7 nv))).new (R1.grow nv) hp (b9.ofInts _)
theorem TU{q p2 kc:Pos}(hc:X.calm=true)(ha:PE X a (LE X.K Ξ (bg P ma)))(nA:Gl X "len")(oG:X.mg "len"=none)(hg:Gl X "set")(hm:X.mg "set"=none)(hs:starEach [a] X.env=[(false,eval a X.env)]) :
  PE X (.Call (.Name "len" p2) [.Call (.Name "set" q) [a] [] pos] [] kc) (LE X.K Ξ (bg P (.prim .qa (.cons ma .nil)))) :=
 (Z0 Xe nA oG PySem.boot_len (P5 (N6 (IS hc) hg hm (by first|exact xc|decide +kernel) (E0 hP ha (N1 hP) (by rw[hs];rfl)) (by decide) (by decide) (by rw[hs];rfl) rfl) W0)).imp λcu H Q bB=>by
  obtain⟨σ,g,ρ,s,R,h⟩:=bB;refine kS hP s R (.refl _ _) h λxs g1 bZ H1 vs e1 R1 r1 h=>?_;obtain⟨d',g',⟨i,ns,rfl,hl,hz,rfl,rfl⟩,q⟩:=h;obtain⟨v,rfl,rv⟩:=r1.one;obtain⟨a',rfl,ra⟩:=rv.l9;obtain⟨ws,hq,rs⟩:=R1.items hl ra;obtain rfl:=rs.ints;refine⟨_,ns,rfl,hq,hz,λq' nv=>⟨q',_,rfl,u3,?_⟩⟩;exact(q.ext (e1.trans (A7 nv))).now (R1.grow nv) (.int _)
theorem Ua{i:Int}{j:Nat}{q:Pos}(nC:PySem.W.kdsCode X.K X.env.code=true):PE X (.Set [.Constant (.int i) j q] 0 pos) (LE X.K Ξ (bg P (.prim (.kC i) .nil))) :=
 (Tj nC).imp λcu H Q bB=>by
  obtain⟨σ,g,ρ,s,R,h⟩:=bB;obtain⟨d',g',⟨_,rfl,rfl⟩,q⟩:=h;exact λp hp=>q (ρ++[p]) _ _ (E9 hp) (R.new hp (o:=.set (λk=>decide (k=i)) 1) (u:=.set (λk=>decide (k=i)) 1) ⟨rfl,rfl⟩) (.ref (R.A3 p))
theorem Rt{f:Str}(ha:PE X a (LE X.K Ξ (bg P ma)))(hb:attributeBase a f X.env (eval a X.env)=eval a X.env):PE X (.Attribute a f pos) (LE X.K Ξ (bg P (.prim (.fld f) (.cons ma .nil)))) :=
 (QM ha hb).imp λcu H Q bB=>by
  obtain⟨σ,g,ρ,s,R,h⟩:=bB;refine fN hP s R (.refl _ _) h λx g1 bZ H1 v1 e1 R1 r1 h=>?_;obtain⟨d',g',⟨i,c,fs,ex,hi,hf,rfl⟩,q⟩:=h;cases ex;obtain⟨a',rfl,ra⟩:=r1.l9;obtain⟨C,dx,vs,hH,_,hC,rk,na⟩:=R1.ins hi ra;have lk:=rk.look f;rw[hf] at lk;obtain⟨v,hv,rv⟩:=lk.some;exact⟨a',C,dx,vs,v,rfl,hH,hC,na _ (aQ hf),hv,q bZ H1 v e1 R1 rv⟩
end
section
variable{X:Cx}{Ξ:iT}{P:fY}{a b c:Expr}{ma mb mc:ME}{pos:Pos}
theorem Rz{i:Nat}{x:Str}(hN:X.N[i]?=some x)(hv:zt X.env.scope x)(hd:(x==("__debug__":Str))=false)(mq:(x==("__classdict__":Str))=false):PE X (.Name x pos) (LE X.K Ξ (bg P (.var i))) :=
 (QT hN hv hd mq).imp λcu H Q bB=>by
  obtain⟨σ,g,ρ,s,R,h⟩:=bB;obtain⟨d,e,h⟩:=h;obtain⟨v,h1,h2⟩:=s.val _ _ e;exact⟨v,h1,h.now R h2⟩
theorem Q5{e:Expr}{d:D}{v:V}(h:PE X e (tC v))(r:∀ρ H,f6 X.K ρ H d v):PE X e (LE X.K Ξ (bg P (.lit d))) :=
 h.imp λcu H Q bB=>by
  obtain⟨σ,g,ρ,s,R,h⟩:=bB;exact LQ.now h R (r ρ H)
theorem TN:PE X (.Dict [] [] pos) (LE X.K Ξ (bg P (.prim .V2 .nil))) :=
 (a33 (X:=X)).imp λcu H Q ⟨σ,g,ρ,s,R,h⟩ p hp=>by
  obtain⟨d',g',⟨_,rfl,rfl⟩,q⟩:=h;exact q (ρ++[p]) _ _ (E9 hp) (R.new hp (o:=.dg []) (u:=.dK []) i7.nil) (.ref (R.A3 p))
end
end M

namespace L2
open PySem PySem.Spec PyProof.Rows
section
variable{X:Cx}{m:Str}{pos apos:Pos}{e o:Expr}{es:List Expr}{ta:TE}{t:TA}
end
end L2
namespace M
open PySem L2 PySem.Spec PyProof.Rows
inductive pV(K:PySem.W.Frag):List D->List (Str×V)->Prop
 |nil:pV K [] []
 |cons {x:Str} {d:D} {v:V} {ds:List D} {vs:List (Str×V)} (h:∀ρ H,f6 K ρ H d v) (r:pV K ds vs):pV K (.tup [.str x,d]::ds) ((x,v)::vs)
theorem pV.look{K:PySem.W.Frag}{ρ:List Addr}{H:Hp}{ds vs}(x:Str)(h:pV K ds vs):se K ρ H (M8 ds x) (vs.lookup x):=by
 induction h with
 |nil=>trivial
 |cons h r ih =>
  rename_i y d v ds vs;unfold M8;rw[cP];by_cases e:x=y
  ·rw[aJ e,show(x==y)=true from by simp[e]];exact h ρ H
  ·rw[aC e,show(x==y)=false from by simpa using e];exact ih
def yj(X:Cx)(x:Str)(kvs:List D):Prop:=∃A vs,X.mg x=some (.ref A)/\wy X.K X.w.params A vs/\pV X.K kvs vs
def yq(neg:Bool):Pr:=if neg then .vP else .GC
theorem JB{neg:Bool}:PR (yq neg)=Eo neg:=by cases neg<;>rfl
theorem YT(a b c:Str):a++b++c=a++(b++c):=by
 cases a;cases b;cases c;show Str.mk _=Str.mk _;exact fx Str.mk (Lq ..)
theorem Ul(x:Str):x++Str.empty=x:=by cases x;show Str.mk _=_;simp[Str.empty]
theorem SS(x:Str):Str.empty++x=x:=by cases x;show Str.mk _=_;simp[Str.empty]
section
variable{X:Cx}{Ξ:iT}{P:fY}(hP:j6 P){a b c:Expr}{ma mb mc:ME}{pos:Pos}
include hP
theorem Ru{x:Str}{p:Pos}{kvs:List D}{neg:Bool}(hg:Gl X x)(hd:(x==("__debug__":Str))=false)(hG:yj X x kvs)(ha:PE X a (LE X.K Ξ (bg P ma)))(hm:behindInMarks (if neg then .NotIn else .In) (.Name x p)=false) :
  PE X (.Compare a [if neg then .NotIn else .In] [.Name x p] pos) (LE X.K Ξ (bg P (.prim (yq neg) (.cons (.lit (.tup kvs)) (.cons ma .nil))))):=by
 obtain⟨A,vs,hmg,hk,gr⟩:=hG;refine(JL (Jk (kvs:=vs) neg) ha (zd (v:=.ref A) hg hmg rfl hd) hm).imp λcu H Q bB=>?_;obtain⟨σ,g,ρ,s,R,h⟩:=bB;refine fN hP s R (.refl _ _) h λd g1 bZ H1 v1 e1 R1 r1 h=>?_;obtain⟨d',g',h,q⟩:=h;rw[JB] at h;obtain⟨iQ,z,ex,rfl,rfl⟩:=h;cases ex;obtain rfl:=r1.C6;refine⟨A,z,rfl,hk,rfl,?_⟩;rw[<- (gr.look (ρ:=bZ) (H:=H1) z).isSome];exact q bZ H1 _ e1 R1 (.bl _)
theorem RJ{x:Str}{p:Pos}{kvs:List D}{neg:Bool}(hg:Gl X x)(hd:(x==("__debug__":Str))=false)(hG:yj X x kvs)(ha:PE X a (LE X.K Ξ (bg P ma)))(hm:behindInMarks (if neg then .NotIn else .In) (.Name x p)=false) :
  PT X (.Compare a [if neg then .NotIn else .In] [.Name x p] pos) (LT X.K Ξ (df P (.fT (.prim (yq neg) (.cons (.lit (.tup kvs)) (.cons ma .nil)))))):=by
 obtain⟨A,vs,hmg,hk,gr⟩:=hG;refine(JP (Jk (kvs:=vs) neg) ha (zd (v:=.ref A) hg hmg rfl hd) hm).imp λcu H Q bB=>?_;obtain⟨σ,g,ρ,s,R,h⟩:=bB;refine fN hP s R (.refl _ _) h λd g1 bZ H1 v1 e1 R1 r1 h=>?_;obtain⟨d',g',h,t,ht,q⟩:=h;rw[JB] at h;obtain⟨iQ,z,ex,rfl,rfl⟩:=h;cases ex;obtain rfl:=r1.C6;refine⟨A,z,rfl,hk,rfl,t,?_,q bZ H1 e1 R1⟩;rw[<- (gr.look (ρ:=bZ) (H:=H1) z).isSome];rcases ht with⟨z,_⟩|z|⟨i,z,_⟩|⟨l,z,_⟩|⟨a,l,z,_⟩<;>cases z
 rfl
theorem TR{x:Str}{p:Pos}{kvs:List D}(hg:Gl X x)(hd:(x==("__debug__":Str))=false)(hG:yj X x kvs)(ha:PE X a (LE X.K Ξ (bg P ma)))(hs:Cc a):PE X (.Subscript (.Name x p) a pos) (LE X.K Ξ (bg P (.prim .nK (.cons (.lit (.tup kvs)) (.cons ma .nil))))):=by
 obtain⟨A,vs,hmg,hk,gr⟩:=hG;refine(KI (Wy (kvs:=vs)) (zd (v:=.ref A) hg hmg rfl hd) ha hs).imp λcu H Q bB=>?_;obtain⟨σ,g,ρ,s,R,h⟩:=bB;refine fN hP s R (.refl _ _) h λd g1 bZ H1 v1 e1 R1 r1 h=>?_;obtain⟨d',g',⟨iQ,z,ex,hz,rfl⟩,q⟩:=h;cases ex;obtain rfl:=r1.C6;have lk:=gr.look (ρ:=bZ) (H:=H1) z;rw[hz] at lk;obtain⟨w,hw,lk⟩:=lk.some;exact⟨A,z,w,rfl,hk,rfl,hw,q bZ H1 _ e1 R1 lk⟩
theorem OS(ha:PE X a (LE X.K Ξ (bg P ma))):PE X (.FormattedValue a (-1) none pos) (LE X.K Ξ (bg P (.prim .fv (.cons ma .nil)))) :=
 (WX ha).imp λcu H Q bB=>by
  obtain⟨σ,g,ρ,s,R,h⟩:=bB;refine fN hP s R (.refl _ _) h λd g1 bZ H1 v1 e1 R1 r1 h=>?_;obtain⟨d',g',⟨rfl,h⟩,q⟩:=h;rcases h with⟨i,ex,h1,rfl⟩|⟨z,ex,h1,rfl⟩
  ·cases ex;exact .inl ⟨i,r1.j7,h1,q bZ H1 _ e1 R1 (.str _)⟩
  ·cases ex;exact .inr ⟨z,r1.C6,n9 (by omega),q bZ H1 _ e1 R1 (.str _)⟩
omit hP in
inductive mR(X:Cx)(Ξ:iT)(P:fY):List Expr->ME->List TE->Prop
 |nil:mR X Ξ P [] .nil []
 |lit {x:Str} {j:Nat} {p:Pos} {es:List Expr} {ms:ME} {ts:List TE} (hx:x.length<=2000) (r:mR X Ξ P es ms ts):mR X Ξ P (.Constant (.str x) j p::es) (.cons (.lit (.str x)) ms) (LE X.K Ξ (bg P (.lit (.str x)))::ts)
 |val {e:Expr} {m:ME} {p:Pos} {es:List Expr} {ms:ME} {ts:List TE} (he:PE X e (LE X.K Ξ (bg P m))) (r:mR X Ξ P es ms ts):mR X Ξ P (.FormattedValue e (-1) none p::es) (.cons (.prim .fv (.cons m .nil)) ms) (LE X.K Ξ (bg P (.prim .fv (.cons m .nil)))::ts)
theorem mR.Mb{es ms ts}(h:mR X Ξ P es ms ts):ub X es ts:=by
 induction h with
 |nil=>exact .nil
 |lit hx r ih=>exact .cons (Q5 Jl λ_ _=>.str _) ih
 |val he r ih=>exact .cons (OS hP he) ih
theorem mR.join{cu:L2.St}{Q:Str->Hp->Prop}{es ms ts}(hf:mR X Ξ P es ms ts):∀{σ:S} {g:G} {ρ:List Addr} {H:Hp} {acc:Str},acc.length+2000*es.length<=100000->q8 X.K ρ H σ cu->Rl X.K ρ g H ->
  gk P ms σ g (λds g1=>∃x,T2 ds=some x/\∀bQ H',Ext ρ H bQ H'->Rl X.K bQ g1 H'->Q (acc++x) H') (LX X.K ρ H Ξ)->yA ts cu H acc (λout H1=>out.length<=sizeLine/\Q out H1):=by
 have tl:∀{acc y:Str} {ρ:List Addr} {H:Hp} {bZ:List Addr} {H1:Hp} {ds:List D} {g1:G},Ext ρ H bZ H1->(∃x,T2 (.str y::ds)=some x/\∀bQ H',Ext ρ H bQ H'->Rl X.K bQ g1 H'->Q (acc++x) H')->∃x,T2 ds=some x/\∀bQ H',Ext bZ H1 bQ H'->Rl X.K bQ g1 H'->Q (acc++y++x) H':=by
  intro acc y ρ H bZ H1 ds g1 e1 h;obtain⟨x,hx,h⟩:=h;simp only[T2] at hx;cases hj:T2 ds with
  |none=>rw[hj] at hx;cases hx
  |some x' =>
   rw[hj] at hx;cases hx;refine⟨x',rfl,λbQ H' e' R'=>?_⟩;rw[YT];exact h bQ H' (e1.trans e') R'
 induction hf with
 |nil =>
  intro σ g ρ H acc ha s R h;obtain⟨x,hx,h⟩:=h;cases hx;rw[Ul] at h;exact⟨n9 (by simpa using ha),h ρ H (.refl _ _) R⟩
 |lit hx r ih =>
  rename_i y j p es ms ts;intro σ g ρ H acc ha s R h;refine⟨σ,g,ρ,s,R,?_⟩;intro bZ H1 v1 e1 R1 r1;obtain rfl:=r1.C6;have hl:(acc++y).length<=acc.length+2000:=by rw[strLen_append];omega
  simp only[List.length_cons] at ha;exact⟨y,rfl,n9 (by omega),ih (by omega) (s.ext e1) R1 (x8 hP _ _ _ _ _ _ _ (λds g1 h=>tl e1 h) (λ_ _ z=>LX.ext e1 z) h)⟩
 |val he r ih =>
  rename_i e m p es ms ts;intro σ g ρ H acc ha s R h;refine⟨σ,g,ρ,s,R,?_⟩;simp only[List.length_cons] at ha;refine c7 hP m _ _ _ _ _ _ (λd g1 h=>?_) (λ_ _ z=>z) h;obtain⟨d',g',⟨rfl,h⟩,q⟩:=h;have hy:∃y,d'=.str y/\y.length<=2000:=by
   rcases h with⟨i,ex,h1,rfl⟩|⟨z,ex,h1,rfl⟩
   ·exact⟨_,rfl,by rw[PySem.ofString_length];have:=int_text_length_le (k:=1920) (by decide) h1;omega⟩
   ·exact⟨z,rfl,h1⟩
  obtain⟨y,rfl,hy⟩:=hy;refine⟨_,_,⟨rfl,h⟩,λbZ H1 v1 e1 R1 r1=>?_⟩;obtain rfl:=r1.C6;have hl:(acc++y).length<=acc.length+2000:=by rw[strLen_append];omega
  exact⟨y,rfl,n9 (by omega),ih (by omega) (s.ext e1) R1 (x8 hP _ _ _ _ _ _ _ (λds g1 h=>tl e1 h) (λ_ _ z=>LX.ext e1 z) q)⟩
theorem TQ{lY lX:Expr}{rest:List Expr}{ms:ME}{ts:List TE}(h:mR X Ξ P (lY::lX::rest) ms ts)(hl:(lY::lX::rest).length<=40):PE X (.JoinedStr (lY::lX::rest) pos) (LE X.K Ξ (bg P (.prim .my ms))) :=
 (Th (h.Mb hP)).imp λcu H Q bB=>by
  obtain⟨σ,g,ρ,s,R,hw⟩:=bB;refine mR.join hP h (Q:=λout H1=>Q (.str out) H1) (acc:=Str.empty) ?_ s R (x8 hP ms _ _ _ _ _ _ (λds g1 hw=>?_) (λ_ _ z=>z) hw)
  ·have:Str.empty.length=0:=rfl;omega
  ·obtain⟨d',g',⟨x,hx,rfl,rfl⟩,q⟩:=hw;refine⟨x,hx,λbQ H' e' R'=>?_⟩;rw[SS];exact q bQ H' _ e' R' (.str _)
omit hP in
def pq(ex:List Str)(K:PySem.W.Frag)(n:Nat)(t:List D->G->KD->KX->Prop):Sp:=λvs H Q E=>vs.length=n/\∃ds g ρ,b9 K ρ H ds vs/\Rl K ρ g H/\t ds g (LQ K ρ H Q) (LX K ρ H (ex,E))
omit hP in
def qh(X:Cx)(P:fY)(ex:List Str)(k f:Nat)(fa:Addr)(fd:FuncData)(ps:List Str):Prop :=
 iU X.prog X.w X.K X.mg X.base (jG X.prog X.w) k fa fd ps (pq ex X.K ps.length (P f))/\Binds X.K fd ps []/\∀ds g Q E,P f ds g Q E->ds.length=ps.length
theorem KP{k f:Nat}{fa:Addr}{fd:FuncData}{ps:List Str}(F:qh X P Ξ.1 k f fa fd ps){ρ gE:List Addr}{H H0:Hp}{g:G}{xs:List D}{vs:List V}{Q0:KD}{Q:VK}(e0:Ext gE H0 ρ H)(R:Rl X.K ρ g H)(r:b9 X.K ρ H xs vs)(h:P f xs g Q0 (LX X.K gE H0 Ξ))(k:∀d g',Q0 d g'->LQ X.K ρ H Q d g'):pq Ξ.1 X.K ps.length (P f) (vs++[]) H Q Ξ.2:=by
 rw[de];exact⟨by rw[<- r.length];exact F.2.2 _ _ _ _ h,xs,g,ρ,r,R,hP _ _ _ _ _ _ _ k (λ_ _ z=>LX.ext e0 z) h⟩
theorem TM{k f:Nat}{x:Str}{fa:Addr}{fd:FuncData}{ps:List Str}{es:List Expr}{e:Expr}{ie:ME}{p:Pos}(hx:Passes (jG X.prog X.w) X Ξ.2)(F:qh X P Ξ.1 k f fa fd ps)(hr:x5 k X.A)(hg:Gl X x)(hm:X.mg x=some (.ref fa))(hk:PySem.W.keepIn X.K (.ref fa)=true)(ha:PA X (e::es) (LA X.K Ξ (gk P ie)))(hd:(x==("__debug__":Str))=false)(fq:starEach (e::es) X.env=(false,eval e X.env)::starEach es X.env)(iC:(backTo pos (starEach es X.env)).any (·.1)=false):PE X (.Call (.Name x p) (e::es) [] pos) (LE X.K Ξ (bg P (.call f ie))) :=
 (Tf F.1 hr hg hm hk F.2.1 .nil hx ha hd fq iC).imp λcu H Q bB=>by
  obtain⟨σ,g,ρ,s,R,h⟩:=bB;exact kS hP s R (.refl _ _) h λxs g1 bZ H1 vs e1 R1 r1 h=>KP hP F e1 R1 r1 h λd g' h=>h.ext e1
theorem JG{c:Str}{f k:Nat}{C fa:Addr}{fd:FuncData}{ps:List Str}(F:qh X P Ξ.1 k f fa fd ps)(hC:v8 X.K c C)(hc:ku X.K C){ρ gE:List Addr}{H H0:Hp}{g1:G}{xs:List D}{vs:List V}{Q:VK}(e0:Ext gE H0 ρ H)(R:Rl X.K ρ g1 H)(r:b9 X.K ρ H xs vs)(h:P f (.ref g1.length::xs) (g1++[.ins c []]) (λd g2=>d=.bN/\LQ X.K gE H0 Q (.ref g1.length) g2) (LX X.K gE H0 Ξ)):∀x dx,H x=none->H dx=none->dx≠x->pq Ξ.1 X.K ps.length (P f) (.ref x::(vs++[])) (upd (upd H dx (.own x)) x (.ins C dx [])) (λv H2=>v=.bN/\Q (.ref x) H2) Ξ.2:=by
 intro x dx hx Gk ft;have xG:upd H dx (.own x) x=none:=by rw[f9 (cx ft)];exact hx
 have R2:=R.grow (o:=.own x) Gk;have e2:Ext ρ H ρ (upd H dx (.own x)):=A7 Gk;have R3:=R2.new (o:=.ins c []) (u:=.ins C dx []) xG ⟨hC,hc,.nil,λx hx=>absurd hx (by simp)⟩;have e3:Ext ρ (upd H dx (.own x)) (ρ++[x]) (upd (upd H dx (.own x)) x (.ins C dx [])):=E9 xG;have:=KP hP F (e0.trans (e2.trans e3)) R3 (.cons (.ref (R.A3 x)) (r.ext (e2.trans e3))) h (Q:=λv H2=>v=.bN/\Q (.ref x) H2) λd g' q bQ H' v e' R' r'=>by
  obtain⟨rfl,q⟩:=q;exact⟨r'.yM,q bQ H' _ (e0.trans (e2.trans (e3.trans e'))) R' (.ref (e'.get (R.A3 x)))⟩
 exact this
theorem TV{k f:Nat}{x:Str}{C fa:Addr}{fd:FuncData}{ps:List Str}{es:List Expr}{e:Expr}{ie:ME}{p:Pos}(hx:Passes (jG X.prog X.w) X Ξ.2)(F:qh X P Ξ.1 k f fa fd ps)(M:Mk X.K C fa)(hC:v8 X.K x C)(hc:ku X.K C)(hr:x5 (k+1) X.A)(hg:Gl X x)(hm:X.mg x=some (.ref C))(ha:PA X (e::es) (LA X.K Ξ (gk P ie)))(hd:(x==("__debug__":Str))=false)(fq:starEach (e::es) X.env=(false,eval e X.env)::starEach es X.env)(iC:(backTo pos (starEach es X.env)).any (·.1)=false):PE X (.Call (.Name x p) (e::es) [] pos) (LE X.K Ξ (bg P (.make x f ie))) :=
 (Ti M F.1 hr hg hm F.2.1 .nil hx ha hd fq iC).imp λcu H Q bB=>by
  obtain⟨σ,g,ρ,s,R,h⟩:=bB;exact kS hP s R (.refl _ _) h λxs g1 bZ H1 vs e1 R1 r1 h=>JG hP F hC hc e1 R1 r1 h
theorem a08{k f:Nat}{x:Str}{C fa:Addr}{fd:FuncData}{ps:List Str}{p:Pos}(hx:Passes (jG X.prog X.w) X Ξ.2)(F:qh X P Ξ.1 k f fa fd ps)(M:Mk X.K C fa)(hC:v8 X.K x C)(hc:ku X.K C)(hr:x5 (k+1) X.A)(hg:Gl X x)(hm:X.mg x=some (.ref C))(hd:(x==("__debug__":Str))=false):PE X (.Call (.Name x p) [] [] pos) (LE X.K Ξ (bg P (.make x f .nil))) :=
 (a31 M F.1 hr hg hm F.2.1 .nil hx hd).imp λcu H Q bB=>by
  obtain⟨σ,g,ρ,s,R,h⟩:=bB;exact JG hP F hC hc (.refl _ _) R .nil h
end
end M

namespace M
open PySem L2 PySem.Spec PyProof.Rows
inductive kQ(K:PySem.W.Frag)(ρ:List Addr)(H:Hp):List D->List (V×V)->Prop
 |nil:kQ K ρ H [] []
 |cons {k d:D} {x y:V} {ds:List D} {ps:List (V×V)} (h1:f6 K ρ H k x) (h2:f6 K ρ H d y) (r:kQ K ρ H ds ps):kQ K ρ H (k::d::ds) ((x,y)::ps)
theorem PK{K ρ H}{xs:List D}{ps:List (V×V)}(r:kQ K ρ H xs ps):∀{acc kvs:List (Key×D)} {accV:List (Key×V)},wO xs acc=some kvs->i7 K ρ H acc accV->∃more:List (Key×V),ps=more.map (λkv=>(kV kv.1,kv.2))/\2*more.length=xs.length/\i7 K ρ H kvs (Q7 accV more):=by
 induction r with
 |nil =>
  intro acc kvs accV h ra;cases h;exact⟨[],rfl,rfl,ra⟩
 |cons h1 h2 r ih =>
  rename_i k d x y ds ps;intro acc kvs accV h ra;simp only[wO] at h;cases hk:U9 k with
  |none=>rw[hk] at h;cases h
  |some c =>
   rw[hk] at h;obtain⟨more,e1,e2,r2⟩:=ih (show wO ds (putD acc c d)=some kvs from h) (ra.put h2);have ex:=W7 hk h1;subst ex;refine⟨(c,y)::more,by rw[bu,<- e1],by simp only[List.length_cons];omega,r2⟩
section
variable{X:Cx}{Ξ:iT}{P:fY}(hP:j6 P){pos:Pos}
inductive mS(X:Cx)(Ξ:iT)(P:fY):List (Option Expr)->List Expr->ME->List (TE×TE)->Prop
 |nil:mS X Ξ P [] [] .nil []
 |cons {k v:Expr} {ks:List (Option Expr)} {vs:List Expr} {mk mv ms:ME} {iF:List (TE×TE)} (hk:PE X k (LE X.K Ξ (bg P mk))) (hv:PE X v (LE X.K Ξ (bg P mv))) (r:mS X Ξ P ks vs ms iF) :
   mS X Ξ P (some k::ks) (v::vs) (.cons mk (.cons mv ms)) ((LE X.K Ξ (bg P mk),LE X.K Ξ (bg P mv))::iF)
theorem mS.Ma{ks vs ms iF}(h:mS X Ξ P ks vs ms iF):wV X pos ks vs iF:=by
 induction h with
 |nil=>exact Tp
 |cons hk hv r ih=>exact a24 hk hv ih
theorem mS.len{ks vs ms iF}(h:mS X Ξ P ks vs ms iF):ks.all (·.isSome)=true/\ks.length=vs.length:=by
 induction h with
 |nil=>exact⟨rfl,rfl⟩
 |cons hk hv r ih=>exact⟨by simpa using ih.1,by simp[ih.2]⟩
include hP
theorem mS.pairs{ks vs ms iF}(hd:mS X Ξ P ks vs ms iF):∀{cu:L2.St} {σ:S} {g:G} {ρ gE:List Addr} {H H0:Hp} {Qd:List D->G->Prop} {Q:List (V×V)->Hp->Prop},q8 X.K ρ H σ cu->Rl X.K ρ g H->Ext gE H0 ρ H->gk P ms σ g Qd (LX X.K gE H0 Ξ) ->
  (∀ds g' bQ H' ps,Ext ρ H bQ H'->Rl X.K bQ g' H'->kQ X.K bQ H' ds ps->Qd ds g'->Q ps H')->yO iF cu H Q:=by
 induction hd with
 |nil =>
  intro cu σ g ρ gE H H0 Qd Q s R e0 h k;exact k [] g ρ H [] (.refl _ _) R .nil h
 |cons hk hv r ih =>
  intro cu σ g ρ gE H H0 Qd Q s R e0 h k;refine fN hP s R e0 h λx g1 bZ H1 v1 e1 R1 r1 h=>fN hP (s.ext e1) R1 (e0.trans e1) h λy g2 fM H2 v2 e2 R2 r2 h=>?_;refine ih (s.ext (e1.trans e2)) R2 (e0.trans (e1.trans e2)) h λds g' bQ H' ps e' R' rp hq=>?_;exact k _ g' bQ H' _ (e1.trans (e2.trans e')) R' (.cons (r1.ext (e2.trans e')) (r2.ext e') rp) hq
theorem Rq{ks:List (Option Expr)}{vs:List Expr}{ms:ME}{iF:List (TE×TE)}(hd:mS X Ξ P ks vs ms iF)(h0:ks≠[])(pM:ks.length<=15):PE X (.Dict ks vs pos) (LE X.K Ξ (bg P (.pT ms))) :=
 (Tg hd.Ma hd.len.1 hd.len.2 h0 pM).imp λcu H Q ⟨σ,g,ρ,s,R,h⟩ p hp=>by
  have e1:Ext ρ H (ρ++[p]) (upd H p (.dK [])):=E9 hp;refine mS.pairs hP hd (s.ext e1) (R.new hp (o:=.dg []) (u:=.dK []) i7.nil) e1 h λds g2 fM H2 ps e2 R2 rp hq=>?_;obtain⟨kvs,hk,hz,hg,q⟩:=hq;have qT:fM[g.length]?=some p:=e2.get (R.A3 p);obtain⟨vs',hv,rv⟩:=R2.dg hg qT;cases rv;obtain⟨more,em,hl,rk⟩:=PK rp hk (accV:=[]) .nil;refine⟨hv,more,em,by omega,?_⟩;obtain⟨R3,e3⟩:=R2.put (o':=.dg kvs) (u:=.dK (Q7 [] more)) hg rfl qT rk;exact q fM _ _ (e1.trans (e2.trans e3)) R3 (.ref qT)
end
end M

namespace M
open PySem L2 PySem.Spec PyProof.Rows
theorem WC{K:PySem.W.Frag}{gE:List Addr}{H0:Hp}{a:Addr}{l:List D}{vs:List V}(ht:TupAt K H0 a vs)(rs:b9 K gE H0 l vs):pW K gE H0 (.fix l) (Ey K a):=by
 intro ρ g H e R i;have vj:=ht.ext e;have Ff:=rs.ext e;refine⟨λh=>⟨vs,vj.sq,?_⟩,λd h=>?_⟩
 ·simp only[IK.at] at h;have:=eQ.mp (aP h);rw[<- Ff.length];exact this
 ·simp only[IK.at] at h;obtain⟨v,hv,rv⟩:=Ff.get (aP h);refine⟨⟨vs,v,vj.sq,hv⟩,λw H' y=>?_⟩;obtain⟨rfl,y⟩:=y;have:=y vs vj.sq;rw[hv] at this;cases this;exact⟨.refl _ _,R,rv⟩
theorem WB{K:PySem.W.Frag}{gE:List Addr}{H0:Hp}{a:Addr}{j:Nat}(ha:gE[j]?=some a):pW K gE H0 (.lst j) (Ez K a):=by
 intro ρ g H e R i;have nE:=e.get ha;refine⟨λh=>?_,λd h=>?_⟩
 ·simp only[IK.at] at h;cases el:d7 g j with
  |none=>rw[el] at h;cases h
  |some l =>
   rw[el] at h;obtain⟨vs,hq,rs⟩:=R.items el nE;refine⟨vs,hq,?_⟩;have:=eQ.mp (aP h);rw[<- rs.length];exact this
 ·simp only[IK.at] at h;cases el:d7 g j with
  |none=>rw[el] at h;cases h
  |some l =>
   rw[el] at h;obtain⟨vs,hq,rs⟩:=R.items el nE;obtain⟨v,hv,rv⟩:=rs.get (aP h);refine⟨⟨vs,v,hq,hv⟩,λw H' y=>?_⟩;obtain⟨rfl,y⟩:=y;have:=y vs hq;rw[hv] at this;cases this;exact⟨.refl _ _,R,rv⟩
theorem Kz{K:PySem.W.Frag}{gE:List Addr}{H0:Hp}{lo:Int}{n:Nat}:pW K gE H0 (.fix (i8 lo n)) (wY lo n):=by
 unfold i8;intro ρ g H e R i;refine⟨λh=>?_,λd h=>?_⟩
 ·simp only[IK.at] at h;have:=eQ.mp (aP h);show n<=i;simpa using this
 ·simp only[IK.at] at h;have h:=aP h;have hi:i<n:=by
   have:=(aw.mp h).1;simpa using this
  rw[ao,cK hi] at h;cases h;refine⟨hi,λw H' y=>?_⟩;obtain⟨rfl,rfl⟩:=y;exact⟨.refl _ _,R,.int _⟩
theorem WA{K:PySem.W.Frag}{gE:List Addr}{H0:Hp}{a:Addr}{j:Nat}(ha:gE[j]?=some a):pW K gE H0 (.oS j) (EA K a):=by
 intro ρ g H e R i;have nE:=e.get ha;refine⟨λh=>?_,λd h=>?_⟩
 ·simp only[IK.at] at h;cases el:d7 g j with
  |none=>rw[el] at h;cases h
  |some l =>
   rw[el] at h;obtain⟨vs,hq,rs⟩:=R.items el nE;refine⟨vs,hq,?_⟩;have h:=aP h;rw[Option.map_eq_none_iff] at h;have:=eQ.mp h;rw[<- rs.length];exact this
 ·simp only[IK.at] at h;cases el:d7 g j with
  |none=>rw[el] at h;cases h
  |some l =>
   rw[el] at h;obtain⟨vs,hq,rs⟩:=R.items el nE;have h:=aP h;rw[ae] at h;obtain⟨d',hd,rfl⟩:=h;obtain⟨v,hv,rv⟩:=rs.get hd;refine⟨⟨vs,v,hq,hv⟩,λw H' y=>?_⟩;obtain⟨p,x,hp,rfl,y,rfl⟩:=y;have:=y vs hq;rw[hv] at this;cases this;exact⟨A7 hp,R.grow hp,.tup (.inl u3) (.cons (.int _) (.cons (rv.ext (A7 hp)) .nil))⟩
end M
namespace L2
open PySem PySem.Spec PyProof.Rows
theorem QW{X:Cx}{tg l:Expr}{tl:TE}(hl:PE X l tl):PI X tg l (λσ H R=>tl σ H λx H1=>(∃a,x=.ref a/\(∃xs,gp X.K H1 a xs)/\R (Ez X.K a) H1)\/(∃a,x=.ref a/\(∃xs,jc X.K H1 a xs)/\R (Ey X.K a) H1)):=by
 intro pins s σ H R I h;refine cT (hl pins s σ H _ I h) λv s1 bB=>?_;obtain⟨x,H1,I1,r1,q1⟩:=bB;rcases q1 with⟨a,e,⟨xs,hq⟩,q⟩|⟨a,e,⟨xs,hq⟩,q⟩
 ·subst e;cases r1;obtain⟨ba,rv,p,hz⟩:=I1.list hq;refine iW p.isList ?_;refine⟨s1.heap.objs.size,[s1.heap.objs.size],_,_,H1,rfl,I1.kept (t':=s1.toks) λb o e=>au _ e,YZ a _,⟨_,aF _ rfl,rfl,rfl⟩,λb hb=>?_,q⟩;have e:b=s1.heap.objs.size:=by simpa using hb
  subst e;exact I1.rW (av _) (I1.bX.fresh (av _))
 ·subst e;cases r1;obtain⟨ba,rv,p,hz⟩:=I1.tuple hq;refine wpAny_pyIter_tuple (show s1.heap.IsTuple a ba.toArray from p) ?_;refine⟨s1.heap.objs.size,[s1.heap.objs.size],_,_,H1,rfl,I1.kept (t':=s1.toks) λb o e=>au _ e,ZJ a _,⟨_,aF _ rfl,rfl,rfl⟩,λb hb=>?_,q⟩;have e:b=s1.heap.objs.size:=by simpa using hb
  subst e;exact I1.rW (av _) (I1.bX.fresh (av _))
end L2
namespace M
open PySem L2 PySem.Spec PyProof.Rows
section
variable{X:Cx}{Ξ:iT}{P:fY}(hP:j6 P){a b c tg:Expr}{ma mb mc:ME}{pos p:Pos}
include hP
theorem RD(ha:PE X a (LE X.K Ξ (bg P ma))):PI X tg a (LI X.K Ξ (iu P (.fF ma))) :=
 (QW ha).imp λcu H R bB=>by
  obtain⟨σ,g,ρ,s,Rr,h⟩:=bB;refine fN hP s Rr (.refl _ _) h λx g1 bZ H1 v1 e1 R1 r1 h=>?_;rcases h with⟨l,rfl,h⟩|⟨i,l,rfl,hl,h⟩
  ·obtain⟨a',vs,rfl,ht,rs⟩:=r1.Q3;exact .inr ⟨_,rfl,⟨_,ht.sq⟩,h bZ H1 _ e1 R1 (WC ht rs)⟩
  ·obtain⟨a',rfl,nE⟩:=r1.l9;obtain⟨vs,hq,rs⟩:=R1.items hl nE;exact .inl ⟨_,rfl,⟨_,hq⟩,h bZ H1 _ e1 R1 (WB nE)⟩
theorem Ue{elts:List Expr}{x1:Nat}{tp:Pos}(ha:PE X a (LE X.K Ξ (bg P ma)))(hg:Gl X "enumerate")(hm:X.mg "enumerate"=none)(hs:starEach [a] X.env=[(false,eval a X.env)]):PI X (.Tuple elts x1 tp) (.Call (.Name "enumerate" p) [a] [] pos) (LI X.K Ξ (iu P (.lA ma))) :=
 (To hg hm (E0 hP ha (N1 hP) (by rw[hs];rfl)) hs).imp λcu H R bB=>by
  obtain⟨σ,g,ρ,s,Rr,h⟩:=bB;refine kS hP (m:=.cons ma .nil) s Rr (.refl _ _) (Q0:=λxs g1=>∃a l,xs=[.ref a]/\d7 g1 a=some l/\∀bQ H' J,Ext ρ H bQ H'->Rl X.K bQ g1 H'->pW X.K bQ H' (.oS a) J->R J H') ?_ λxs g1 bZ H1 vs e1 R1 r1 h=>?_
  ·skip
   exact c7 hP ma _ _ _ _ _ _ (λx g1 ⟨i,l,e,hl,h⟩=>⟨i,l,by rw[e],hl,h⟩) (λ_ _ z=>z) h
  ·obtain⟨j,l,rfl,hl,h⟩:=h;obtain⟨v,rfl,rv⟩:=r1.one;obtain⟨a',rfl,ra⟩:=rv.l9;obtain⟨vs,hq,rs⟩:=R1.items hl ra;exact⟨_,rfl,⟨_,hq⟩,h bZ H1 _ e1 R1 (WA ra)⟩
theorem Ug(ha:PE X a (LE X.K Ξ (bg P ma)))(hg:Gl X "range")(hm:X.mg "range"=none)(hs:starEach [a] X.env=[(false,eval a X.env)]):PI X tg (.Call (.Name "range" p) [a] [] pos) (LI X.K Ξ (iu P (.eG ma))) :=
 (YH hg hm (E0 hP ha (N1 hP) (by rw[hs];rfl)) hs).imp λcu H R bB=>by
  obtain⟨σ,g,ρ,s,Rr,h⟩:=bB;refine kS hP (m:=.cons ma .nil) s Rr (.refl _ _) (Q0:=λxs g1=>∃j:Int,xs=[.int j]/\-(2 ^ 62)<=j/\j<2 ^ 62/\∀bQ H' J,Ext ρ H bQ H'->Rl X.K bQ g1 H'->pW X.K bQ H' (.fix (i8 0 j.toNat)) J->R J H') ?_ λxs g1 bZ H1 vs e1 R1 r1 h=>?_
  ·skip
   exact c7 hP ma _ _ _ _ _ _ (λx g1 ⟨j,e,h1,h2,h⟩=>⟨j,by rw[e],h1,h2,h⟩) (λ_ _ z=>z) h
  ·obtain⟨j,rfl,h1,h2,h⟩:=h;obtain⟨v,rfl,rv⟩:=r1.one;obtain rfl:=rv.j7;exact⟨_,rfl,h1,h2,h bZ H1 _ e1 R1 Kz⟩
theorem Uh(ha:PE X a (LE X.K Ξ (bg P ma)))(hb:PE X b (LE X.K Ξ (bg P mb)))(hg:Gl X "range")(hm:X.mg "range"=none)(hs:starEach [a,b] X.env=[(false,eval a X.env),(false,eval b X.env)])(gA:starEach [b] X.env=[(false,eval b X.env)]) :
  PI X tg (.Call (.Name "range" p) [a,b] [] pos) (LI X.K Ξ (iu P (.kL ma mb))) :=
 (YI hg hm (E0 hP ha (E0 hP hb (N1 hP) (by rw[gA];rfl)) (by rw[hs,gA])) hs gA).imp λcu H R bB=>by
  obtain⟨σ,g,ρ,s,Rr,h⟩:=bB;refine kS hP (m:=.cons ma (.cons mb .nil)) s Rr (.refl _ _) (Q0:=λxs g1=>∃i j:Int,xs=[.int i,.int j]/\(-(2 ^ 62)<=i/\i<2 ^ 62/\-(2 ^ 62)<=j/\j<2 ^ 62)/\∀bQ H' J,Ext ρ H bQ H'->Rl X.K bQ g1 H'->pW X.K bQ H' (.fix (i8 i (j-i).toNat)) J->R J H') ?_ λxs g1 bZ H1 vs e1 R1 r1 h=>?_
  ·skip
   exact c7 hP ma _ _ _ _ _ _ (λx g1 h=>c7 hP mb _ _ _ _ _ _ (λy g2 ⟨i,j,e,e',h1,h⟩=>⟨i,j,by rw[e,e'],h1,h⟩) (λ_ _ z=>z) h) (λ_ _ z=>z) h
  ·obtain⟨i,j,rfl,h1,h⟩:=h;obtain⟨v,w,rfl,rv,gn⟩:=r1.two;obtain rfl:=rv.j7;obtain rfl:=gn.j7;exact⟨_,_,rfl,h1,h bZ H1 _ e1 R1 Kz⟩
end
section
variable{X:Cx}{pos:Pos}
theorem RB{i:Nat}{x:Str}(hN:X.N.Nodup)(hi:X.N[i]?=some x)(hx:Loc X.env.scope x)(hf:X.fn x=true\/X.env.scope.names.lookup x=some .local):PG X (.Name x pos) (LG X.K (.one i)) :=
 (JN hN hi hx hf).imp λv cu H Q hq=>by
  obtain⟨d,σ,g,ρ,s,R,r,h⟩:=hq;exact h _ (s.set i r)
inductive fX(X:Cx):List Expr->List Nat->Prop
 |nil:fX X [] []
 |cons {x:Str} {p:Pos} {i:Nat} {es:List Expr} {is:List Nat} (hi:X.N[i]?=some x) (hx:Loc X.env.scope x) (hf:X.fn x=true\/X.env.scope.names.lookup x=some .local) (r:fX X es is):fX X (.Name x p::es) (i::is)
def DZ:List Nat->qd
 |[]=>Hc
 |i::is=>Kv (tW i) (DZ is)
theorem YG(hN:X.N.Nodup){es:List Expr}{is:List Nat}(h:fX X es is):wW X es (DZ is):=by
 induction h with
 |nil=>exact Tn
 |cons hi hx hf r ih=>exact a29 (JN hN hi hx hf) ih rfl
theorem Df:∀{es:List Expr} {is:List Nat},fX X es is->(assignEach es X.env).length=is.length/\(assignEach es X.env).findIdx? (·.1)=none
 |_,_,.nil=>⟨rfl,rfl⟩
 |_,_,.cons (x:=x) (p:=p) (es:=es) hi hx hf r=>by
  obtain⟨h1,h2⟩:=Df r;have e:assignEach (.Name x p::es) X.env=(false,assign (.Name x p) X.env)::assignEach es X.env:=rfl;rw[e];refine⟨by simp[h1],?_⟩;rw[List.findIdx?_cons,h2]
  rfl
theorem HN{K:PySem.W.Frag}{ρ:List Addr}{H:Hp}{k:S->Prop}{Q:L2.St->Hp->Prop}:∀{is:List Nat} {l:List D} {vs:List V} {σ cF:S} {cu:L2.St},C7 is l σ=some cF->b9 K ρ H l vs->q8 K ρ H σ cu->(∀dH,q8 K ρ H cF dH->Q dH H)->DZ is vs cu H Q
 |[],_,_,_,_,_,h,.nil,s,q=>by
  simp only[C7] at h;cases h;exact⟨rfl,q _ s⟩
 |[],_,_,_,_,_,h,.cons _ _,s,q=>by simp only[C7] at h;cases h
 |i::is,_,_,_,_,_,h,.nil,s,q=>by simp only[C7] at h;cases h
 |i::is,_,_,_,_,_,h,.cons r rr,s,q=>by
  simp only[C7] at h;exact⟨_,_,rfl,HN (k:=k) h rr (s.set i r) q⟩
theorem Y8:∀{is:List Nat} {l:List D} {σ cF:S},C7 is l σ=some cF->l.length=is.length
 |[],[],_,_,_=>rfl
 |[],_::_,_,_,h=>by simp only[C7] at h;cases h
 |_::_,[],_,_,h=>by simp only[C7] at h;cases h
 |_::is,_::l,_,_,h=>by simp only[C7] at h;simp[Y8 h]
theorem JV{es:List Expr}{is:List Nat}{k:Nat}(hc:X.calm=true)(hN:X.N.Nodup)(hs:fX X es is):PG X (.Tuple es k pos) (LG X.K (.many is)) :=
 (QV hc (YG hN hs) (Df hs).1 (Df hs).2).imp λv cu H Q bB=>by
  obtain⟨d,σ,g,ρ,s,R,r,h⟩:=bB;obtain⟨l,cF,rfl,e,h⟩:=h;obtain⟨a',vs,rfl,ht,rs⟩:=r.Q3;exact⟨_,_,rfl,ht.sq,by rw[<- rs.length];exact Y8 e,HN (k:=λ_=>True) e rs s h⟩
end
theorem LN.ext{K ρ H N bZ H1}(e:Ext ρ H bZ H1):(LN K ρ H N).le (LN K bZ H1 N) :=
 ⟨λσ g h bQ H' dH e' R s=>h bQ H' dH (e.trans e') R s,λd g h=>h.ext e,λσ g h bQ H' dH e' R s=>h bQ H' dH (e.trans e') R s,λσ g h bQ H' dH e' R s=>h bQ H' dH (e.trans e') R s⟩
section
variable{X:Cx}{Ξ:iT}{P:fY}(hP:j6 P){a b c tg:Expr}{ma mb mc:ME}{st:Stmt}{rest:List Stmt}{Ac nr:MS}{pos p:Pos}
include hP
theorem RH:kP X [] (LS X.K Ξ (wpS P .pass)) :=
 (Tt (X:=X)).imp λN cu H ⟨σ,g,ρ,s,R,h⟩=>h ρ H cu (.refl _ _) R s
theorem Uk(h1:PS X st (LS X.K Ξ (wpS P Ac)))(h2:kP X rest (LS X.K Ξ (wpS P nr))):kP X (st::rest) (LS X.K Ξ (wpS P (.seq Ac nr))) :=
 (a22 h1 h2).imp λN cu H ⟨σ,g,ρ,s,R,h⟩ =>
  uA hP s R (.refl _ _) (show wpS P Ac { LN X.K ρ H N with nx:=λjY g1=>wpS P nr (LN X.K ρ H N) jY g1 (LX X.K ρ H Ξ) } σ g (LX X.K ρ H Ξ) from h) ⟨λjY g1 h bZ H1 Lr e1 R1 s1=>uA hP s1 R1 e1 h (LN.ext e1),λ_ _ z=>z,λ_ _ z=>z,λ_ _ z=>z⟩
theorem Uo(ha:PE X a (LE X.K Ξ (bg P ma)))(hs:swapsWith a none pos.line X.env=pure false):PS X (.Expr a pos) (LS X.K Ξ (wpS P (.expr ma))) :=
 (Tq ha hs).imp λN cu H ⟨σ,g,ρ,s,R,h⟩=>fN hP s R (.refl _ _) h λx g1 bZ H1 v1 e1 R1 r1 h=>h bZ H1 cu e1 R1 (s.ext e1)
theorem Jt{i:Nat}{x:Str}{p:Pos}(h0:PS X (.Assign [.Name x p] a pos) (wj (LE X.K Ξ (bg P ma)) (tW i))):PS X (.Assign [.Name x p] a pos) (LS X.K Ξ (wpS P (.set i ma))) :=
 h0.imp λN cu H ⟨σ,g,ρ,s,R,h⟩=>fN hP s R (.refl _ _) h λx g1 bZ H1 v1 e1 R1 r1 h=>h bZ H1 _ e1 R1 ((s.ext e1).set i r1)
theorem RU{t:MT}(h0:PS X (.Assign [tg] a pos) (wj (LE X.K Ξ (bg P ma)) (LG X.K t))):PS X (.Assign [tg] a pos) (LS X.K Ξ (wpS P (.lZ t ma))) :=
 h0.imp λN cu H ⟨σ,g,ρ,s,R,h⟩=>fN hP s R (.refl _ _) h λx g1 bZ H1 v1 e1 R1 r1 h=>⟨x,σ,g1,bZ,s.ext e1,R1,r1,A2 (λcF h dH s'=>h bZ H1 dH e1 R1 s') h⟩
theorem XG(hu:X.A.units+100<cLine){o i:Expr}{mo mi:ME}{tp:Pos}(ha:PE X a (LE X.K Ξ (bg P ma)))(ho:PE X o (LE X.K Ξ (bg P mo)))(hi:PE X i (LE X.K Ξ (bg P mi)))(hs:swapsWithSole [.Subscript o i tp] a pos.line X.env=pure false)(nE:∀ v,assign (.Subscript o i tp) X.env v=(do
   let ov <- holding [v] (eval o X.env)
   let iv <- holding [v,ov] (eval i X.env)
   standAt tp
   holding [v,ov,iv] (setItem ov iv v)
   release [v,ov,iv] [])):PS X (.Assign [.Subscript o i tp] a pos) (LS X.K Ξ (wpS P (.eW mo mi ma))) :=
 (Jn ha (QU ho hi (RA hu) nE) hs).imp λN cu H ⟨σ,g,ρ,s,R,h⟩ =>
  fN hP s R (.refl _ _) h λx g1 bZ H1 v1 e1 R1 r1 h=>fN hP (s.ext e1) R1 e1 h λy g2 fM H2 v2 e2 R2 r2 h=>fN hP (s.ext (e1.trans e2)) R2 (e1.trans e2) h λz g3 lx H3 v3 e3 R3 r3 h =>
   ⟨y,z,x,g3,lx,R3,r2.ext e3,r3,r1.ext (e2.trans e3),S1 (λg4 h qq H4 e4 R4=>h qq H4 cu (e1.trans (e2.trans (e3.trans e4))) R4 (s.ext (e1.trans (e2.trans (e3.trans e4))))) h⟩
omit hP in
def DU(K:PySem.W.Frag)(f:Str)(cs:List Str):Prop:=∀c C,c∈cs->v8 K c C->B3 K C f
omit hP in
theorem Ud{f:Str}{cs:List Str}(hF:DU X.K f cs){ρ:List Addr}{H:Hp}{g g':G}{x v:D}{xv vv:V}(R:Rl X.K ρ g H)(rx:f6 X.K ρ H x xv)(rv:f6 X.K ρ H v vv)(h:KN f cs x v g g') :
  ∃a C dx fs,xv=.ref a/\H a=some (.ins C dx fs)/\ku X.K C/\B3 X.K C f/\fs.length<1000/\Rl X.K ρ g' (upd H a (.ins C dx (A4 f vv fs)))/\Ext ρ H ρ (upd H a (.ins C dx (A4 f vv fs))):=by
 obtain⟨i,c,fs,rfl,hi,hc,hz,rfl⟩:=h;obtain⟨a',rfl,ra⟩:=rx.l9;obtain⟨C,dx,vs,hH,hC,kq,rk,na⟩:=R.ins hi ra;obtain⟨R',e'⟩:=R.put (o':=.ins c (m9 f v fs)) (u:=.ins C dx (A4 f vv vs)) hi rfl ra ⟨hC,kq,rk.A4 rv,Iw (p:=λy=>B3 X.K C y) (hF c C hc hC) na⟩;exact⟨a',C,dx,vs,rfl,hH,kq,hF c C hc hC,by rw[<- rk.length];omega,R',e'⟩
theorem Up{f:Str}{cs:List Str}{o:Expr}{mo:ME}{tp:Pos}(hF:DU X.K f cs)(ho:PE X o (LE X.K Ξ (bg P mo)))(ha:PE X a (LE X.K Ξ (bg P ma)))(hs:swapsWith a (some (.Attribute o f tp)) pos.line X.env=pure false):PS X (.Assign [.Attribute o f tp] a pos) (LS X.K Ξ (wpS P (.iw f cs mo ma))) :=
 (QY ho ha hs).imp λN cu H ⟨σ,g,ρ,s,R,h⟩=>fN hP s R (.refl _ _) h λx g1 bZ H1 v1 e1 R1 r1 h=>fN hP (s.ext e1) R1 e1 h λy g2 fM H2 v2 e2 R2 r2 h=>by
  obtain⟨g3,h,q⟩:=h;obtain⟨a',C,dx,fs,hx,hH,kq,na,hz,R3,e3⟩:=Ud hF R2 r2 (r1.ext e2) h;exact⟨a',C,dx,fs,hx,hH,kq,na,hz,q fM _ cu (e1.trans (e2.trans e3)) R3 (s.ext (e1.trans (e2.trans e3)))⟩
theorem OY{sa sb:List Stmt}{Fx msb:MS}(hc:PT X c (LT X.K Ξ (df P mc)))(ha:kP X sa (LS X.K Ξ (wpS P Fx)))(hb:kP X sb (LS X.K Ξ (wpS P msb))):PS X (.If c sa sb pos) (LS X.K Ξ (wpS P (.ifs mc Fx msb))) :=
 (OJ hc ha hb).imp λN cu H ⟨σ,g,ρ,s,R,h⟩=>qu hP s R (.refl _ _) h λt g1 bZ H1 e1 R1 h=>by
  cases t
  ·exact uA hP (s.ext e1) R1 e1 h (LN.ext e1)
  ·exact uA hP (s.ext e1) R1 e1 h (LN.ext e1)
theorem RT(ha:PE X a (LE X.K Ξ (bg P ma))):PS X (.Return (some a) pos) (LS X.K Ξ (wpS P (.ret ma))) :=
 (Rb ha).imp λN cu H ⟨σ,g,ρ,s,R,h⟩=>⟨σ,g,ρ,s,R,h⟩
theorem RQ{iter:Expr}{mi:ME}{body:List Stmt}{mb:MS}{t:MT}(hp:PassesOwn (model X.prog X.w) X.A X.env X.xe)(hc:X.calm=true)(hi:PI X tg iter (LI X.K Ξ (iu P mi)))(hg:PG X tg (LG X.K t))(hb:kP X body (LS X.K Ξ (wpS P mb)))(hs:∀x,foldedSetIterable iter X.env x=pure x):PS X (.For tg iter body [] pos) (LS X.K Ξ (wpS P (.dX t mi mb))) :=
 (QZ hp hc hi hg hb hs).imp λN cu H bB=>by
  obtain⟨σ,g,ρ,s,R,h⟩:=bB;refine⟨σ,g,ρ,s,R,B4 hP mi _ _ _ _ _ _ (λk g1 h bZ H1 J e1 R1 j1=>?_) (λ_ _ z=>z) h⟩;obtain⟨W,⟨m0,w0⟩,h⟩:=h;refine⟨λi m dH H'=>∃cF g' bQ,Ext bZ H1 bQ H'/\q8 X.K bQ H' cF dH/\Rl X.K bQ g' H'/\W i m cF g',⟨m0,σ,g1,bZ,.refl _ _,s.ext e1,R1,w0⟩,?_⟩;rintro i m dH H' ⟨cF,g',bQ,e',s',R',w'⟩;obtain⟨vd,vc⟩:=j1 bQ g' H' e' R' i;rcases h i m cF g' w' with⟨ek,q⟩|⟨x,ek,N2,tw,q⟩
  ·exact .inl ⟨vd ek,q bQ H' dH (e1.trans e') R' s'⟩
  ·obtain⟨go,yl⟩:=vc x ek;refine .inr ⟨go,λmX H2=>∃cR g2 fM,Ext bZ H1 fM H2/\q8 X.K fM H2 cR mX/\Rl X.K fM g2 H2/\N2 cR g2,?_,?_⟩
   ·rintro mX H2 ⟨cR,g2,fM,e2,s2,R2,n2⟩;obtain⟨m',hm,w2⟩:=tw cR g2 n2;exact⟨m',hm,cR,g2,fM,e2,s2,R2,w2⟩
   ·intro v H2 y;obtain⟨e2,R2,r2⟩:=yl v H2 y;refine⟨x,cF,g',bQ,s'.ext e2,R2,r2,A2 (λcR q mX s2=>?_) q⟩;refine uA hP s2 R2 (e1.trans (e'.trans e2)) q ⟨?_,?_,?_,?_⟩
    ·exact λlG g3 n3 lx H3 qp e3 R3 s3=>⟨lG,g3,lx,(e'.trans e2).trans e3,s3,R3,n3⟩
    ·exact λd g3 h=>h.ext (e1.trans (e'.trans e2))
    ·exact λlG g3 h lx H3 qp e3 R3 s3=>h lx H3 qp (e1.trans ((e'.trans e2).trans e3)) R3 s3
    ·exact λlG g3 n3 lx H3 qp e3 R3 s3=>⟨lG,g3,lx,(e'.trans e2).trans e3,s3,R3,n3⟩
theorem Kd{d6:List Nat}{n:Nat}{t:MT}{mi jq me:ME}:∀cu H Q,LE X.K Ξ (bg P (.comp d6 n t mi jq me)) cu H Q->DK (LI X.K Ξ (iu P mi)) d6 n (LG X.K t) (LT X.K (sk Ξ.1) (df P jq)) (LE X.K (sk Ξ.1) (bg P me)) cu H Q:=λcu H Q bB=>by
 obtain⟨σ,g,ρ,s,R,h⟩:=bB;refine⟨σ,g,ρ,s,R,B4 hP mi _ _ _ _ _ _ (λk g1 h bZ H1 J e1 R1 j1=>?_) (λ_ _ z=>z) h⟩;obtain⟨W,⟨m0,w0⟩,h⟩:=h;refine⟨λi m EM dH H'=>∃ys cF g' bQ,Ext bZ H1 bQ H'/\q8 X.K bQ H' cF dH/\Rl X.K bQ g' H'/\b9 X.K bQ H' ys EM/\W i m ys cF g',⟨m0,[],_,g1,bZ,.refl _ _,(s.ext e1).d6 d6 n,R1,.nil,w0⟩,?_⟩;rintro i m EM dH H' ⟨ys,cF,g',bQ,e',s',R',ry,w'⟩;obtain⟨vd,vc⟩:=j1 bQ g' H' e' R' i;rcases h i m ys cF g' w' with⟨ek,q⟩|⟨x,ek,hz,q⟩
 ·exact .inl ⟨vd ek,λp hp=>(q.ext (e1.trans e')).new R' hp ry⟩
 ·obtain⟨go,yl⟩:=vc x ek;refine .inr ⟨go,by rw[<- ry.length];exact Cr hz,λv H2 y=>?_⟩;obtain⟨e2,R2,r2⟩:=yl v H2 y;refine⟨x,cF,g',bQ,s'.ext e2,R2,r2,A2 (λcR q mX s2=>?_) q⟩;refine⟨cR,g',bQ,s2,R2,t8 hP jq _ _ _ _ _ _ (λb g3 q lx H3 e3 R3=>?_) (λ_ _ z=>z.elim) q⟩;cases b
  ·obtain⟨m',hm,w3⟩:=q;exact⟨m',hm,ys,cR,g3,lx,(e'.trans e2).trans e3,s2.ext e3,R3,(ry.ext e2).ext e3,by simpa using w3⟩
  ·refine⟨cR,g3,lx,s2.ext e3,R3,c7 hP me _ _ _ _ _ _ (λz g4 q qq H4 v4 e4 R4 r4=>?_) (λ_ _ z=>z.elim) q⟩;obtain⟨m',hm,w4⟩:=q;exact⟨m',hm,ys++[z],cR,g4,qq,(e'.trans e2).trans (e3.trans e4),(s2.ext e3).ext e4,R4,(((ry.ext e2).ext e3).ext e4).append (.cons r4 .nil),by simpa using w4⟩
theorem a06{elt tg iter:Expr}{ifs:List Expr}{scope:Scope}{N':List Str}{d6:List Nat}{cl:List (Str×Addr)}{pos p2 kc:Pos}{t:MT}{mi jq me:ME}(S:dG X scope N' d6 cl)(hc:X.calm=true)(hi:PI X tg iter (LI X.K Ξ (iu P mi)))(hg:∀pins C s H fp,PG (d8 X pins scope N' cl C s H fp) tg (LG X.K t))(ht:∀pins C s H fp,lR (d8 X pins scope N' cl C s H fp) ifs (LT X.K (sk Ξ.1) (df P jq)))(he:∀pins C s H fp,PE (d8 X pins scope N' cl C s H fp) elt (LE X.K (sk Ξ.1) (bg P me)))(hs:∀x,foldedSetIterable iter X.env x=pure x)(nA:Gl X "sorted")(oG:X.mg "sorted"=none):PE X (.Call (.Name "sorted" p2) [.SetComp elt [⟨tg,iter,ifs,0⟩] scope pos] [] kc) (LE X.K Ξ (bg P (.hV d6 N'.length t mi jq me))) :=
 (Z0 (U0 hc) nA oG (by first|exact hU|decide +kernel) (P5 (a30 S hc hi hg ht he hs) W0)).imp λcu H Q bB=>by
  obtain⟨σ,g,ρ,s,R,h⟩:=bB;refine⟨σ,g,ρ,s,R,B4 hP mi _ _ _ _ _ _ (λk g1 h bZ H1 J e1 R1 j1=>?_) (λ_ _ z=>z) h⟩;obtain⟨W,⟨m0,w0⟩,h⟩:=h;refine⟨λi m ys dH H'=>∃cF g' bQ,Ext bZ H1 bQ H'/\q8 X.K bQ H' cF dH/\Rl X.K bQ g' H'/\W i m ys cF g',⟨m0,_,g1,bZ,.refl _ _,(s.ext e1).d6 d6 _,R1,w0⟩,?_⟩;rintro i m ys dH H' ⟨cF,g',bQ,e',s',R',w'⟩;obtain⟨vd,vc⟩:=j1 bQ g' H' e' R' i;rcases h i m ys cF g' w' with⟨ek,hz,q⟩|⟨x,ek,hz,q⟩
  ·exact .inl ⟨vd ek,λp hp=>⟨p,ys,rfl,u3,hz,λp' gJ=>(q.ext ((e1.trans e').trans (A7 hp))).new (R'.grow hp) gJ (b9.ofInts _)⟩⟩
  ·obtain⟨go,yl⟩:=vc x ek;refine .inr ⟨go,hz,λv H2 y=>?_⟩;obtain⟨e2,R2,r2⟩:=yl v H2 y;refine⟨x,cF,g',bQ,s'.ext e2,R2,r2,A2 (λcR q mX s2=>?_) q⟩;refine⟨cR,g',bQ,s2,R2,t8 hP jq _ _ _ _ _ _ (λb g3 q lx H3 e3 R3=>?_) (λ_ _ z=>z.elim) q⟩;cases b
   ·obtain⟨m',hm,w3⟩:=q;exact⟨m',hm,cR,g3,lx,(e'.trans e2).trans e3,s2.ext e3,R3,by simpa using w3⟩
   ·refine⟨cR,g3,lx,s2.ext e3,R3,c7 hP me _ _ _ _ _ _ (λz g4 q qq H4 v4 e4 R4 r4=>?_) (λ_ _ z=>z.elim) q⟩;obtain⟨j,rfl,m',hm,w4⟩:=q;obtain rfl:=r4.j7;exact⟨j,rfl,m',hm,cR,g4,qq,(e'.trans e2).trans (e3.trans e4),(s2.ext e3).ext e4,R4,by simpa using w4⟩
end
end M

namespace M
open PySem L2 PySem.Spec PyProof.Rows
section
variable{X:Cx}{Ξ:iT}{P:fY}(hP:j6 P)
include hP
theorem XF{x:Str}{C:Addr}{B newId gP:String}{bm:List Value}{np gi pos:Pos}{kl:Expr}{rest:List Expr}{ie:ME}(hc:X.calm=true)(O:OwnCls x C bm newId X.mg X.base)(FB:ExcBaseFacts B newId gP bm)(hg:Gl X x)(ha:PA X (kl::rest) (LA X.K Ξ (gk P ie)))(hr:yR X Ξ.2)(hx:x∈Ξ.1)(hC:v8 X.K x C)(he:starEach (kl::rest) X.env=(false,eval kl X.env)::starEach rest X.env)(gQ:(backTo gi (starEach rest X.env)).any (·.1)=false)(hd:(x==("__debug__":Str))=false):PS X (.Raise (some (.Call (.Name x np) (kl::rest) [] gi)) none pos) (LS X.K Ξ (wpS P (.raise x ie))) :=
 (a23 hc O FB hg ha hr he gQ hd).imp λN cu H bB=>by
  obtain⟨σ,g,ρ,s,R,h⟩:=bB;refine kS hP s R (.refl _ _) h λds g1 bZ H1 vs e1 R1 r1 h=>?_;exact⟨by rw[<- r1.length];exact n9 (aI h.1 (by decide)),h.2 bZ H1 C e1 R1 hx hC⟩
end
end M

namespace M
open PySem L2 PySem.Spec PyProof.Rows
structure i0 where
 N:List Str
 nm:List (Str×NameKind)
 oK:Bool
 fns:List (Str×Nat)
 con:List (Str×D)
 blt:List Str
 exc:List Str
 gd:List (Str×List D)
 cls:List (Str×Nat)
 qN:List (Str×Str×Nat)
 oN:List (Str×Str)
 mj:Bool
 ot:Bool
def gw:Expr->Bool
 |.Set ..=>false
 |.Starred ..=>false
 |.Slice ..=>false
 |_=>true
def x4:Expr->Bool
 |.ListComp ..=>false
 |.SetComp ..=>false
 |.DictComp ..=>false
 |_=>true
def tZ:Expr->Bool
 |.Tuple ..=>false
 |_=>true
def Dd:Expr->Bool
 |.Name ..=>true
 |.Call ..=>true
 |.Subscript ..=>true
 |.Constant ..=>true
 |.Attribute ..=>true
 |.BinOp ..=>true
 |_=>false
def yN:Expr->Bool
 |.Call (.Name ..) ..=>false
 |_=>true
def i0.idx(c:i0)(x:Str):Option Nat:=c.N.findIdx? λy=>decide (y=x)
def i0.zL(c:i0)(x:Str):Bool:=match c.nm.lookup x with
 |some .local=>true
 |some .cell=>true
 |some .free=>true
 |_=>false
def i0.gl(c:i0)(x:Str):Bool:=decide (c.nm.lookup x=some .globalImplicit)
def i0.C2(c:i0)(x:Str):Bool:=decide (c.nm.lookup x=some .local)||decide (c.nm.lookup x=some .cell)
def qb(x:Str):Bool:=(x==("__debug__":Str))==false&&(x==("__classdict__":Str))==false&&decide (x≠"__name__")
def DM:List (Str×String):=[("int","int"),("bool","bool"),("str","str"),("tuple","tuple"),("list","list")]
def DX:List (Str×Pr):=[("len",.len),("list",.list),("tuple",.tuple),("isinstance",.isin),("all",.all),("max",.max),("min",.min),("int",.int),("sorted",.jK),("sum",.sum)]
def za:List (Str×Pr):=[]
def Ee:List (Str×Pr):=[("append",.append),("pop",.pop),("get",.get),("add",.kE)]
def yT:Expr->Option (Str×List Expr)
 |.Call (.Name x _) args [] _=>some (x,args)
 |_=>none
def Kq:Expr->Bool
 |.Tuple ..=>true
 |_=>false
def asName:Expr->Option Str
 |.Name x _=>some x
 |_=>none
def frees(sc:Scope):List Str:=(sc.names.filter λy=>decide (y.2=.free)).map (·.1)
def locals(sc:Scope):List Str:=(sc.names.filter λy=>decide (y.2=.local)||decide (y.2=.cell)).map (·.1)
def i0.inner(c:i0)(sc:Scope):i0:={ c with N:=frees sc++locals sc,nm:=sc.names,oK:=false,mj:=false,ot:=false }
def i0.d6(c:i0)(sc:Scope):List Nat:=(frees sc).map λx=>(c.idx x).getD 0
def i0.Cu(c:i0)(sc:Scope):Bool :=
 decide (sc.kind=.function)&&sc.names.all (λy=>!decide (y.2=.cell)||decide (sc.names.lookup y.1=some .cell))&&sc.names.all (λy=>!decide (y.2=.local)||decide (sc.names.lookup y.1=some .local)) &&
 decide (frees sc++locals sc).Nodup&&(frees sc).all (λx=>(c.idx x).isSome&&decide (sc.names.lookup x=some .free)&&(decide (c.nm.lookup x=some .cell)||decide (c.nm.lookup x=some .free)))
def i0.slot(c:i0)(e:Expr):Option Nat:=(asName e).bind λx=>if c.C2 x then c.idx x else none
def i0.slots(c:i0):List Expr->Option (List Nat)
 |[]=>some []
 |e::r=>(c.slot e).bind λi=>(c.slots r).map λis=>i::is
def i0.tg(c:i0)(e:Expr):Option MT:=((c.slot e).map .one).orElse λ_=>match e with
 |.Tuple es _ _=>(c.slots es).map .many
 |_=>none
def Dw:Const->Option D
 |.int i=>some (.int i)
 |.bool b=>some (.bl b)
 |.none=>some .bN
 |.str x=>some (.str x)
 |_=>none
structure CF where
 e:i0->Expr->Option ME
 t:i0->Expr->Option ME
 s:i0->Stmt->Option MS
section
variable(r:CF)(c:i0)
def c1(p:Pr)(a:Expr):Option ME:=(r.e c a).map λm=>.prim p (.cons m .nil)
def c2(p:Pr)(a b:Expr):Option ME:=(r.e c a).bind λma=>(r.e c b).map λmb=>.prim p (.cons ma (.cons mb .nil))
def J1:List Expr->Option ME
 |[]=>some .nil
 |e::es=>if gw e then(r.e c e).bind λm=>(J1 es).map λms=>.cons m ms else none
def Jc:Expr->Option Str
 |.Constant (.str x) _ _=>some x
 |_=>none
def GZ:Expr->Option Expr
 |.FormattedValue e k none _=>if k=-1 then some e else none
 |_=>none
def tU:List Expr->Option ME
 |[]=>some .nil
 |e::es=>((Jc e).bind λx=>if x.length<=2000 then(tU es).map λms=>.cons (.lit (.str x)) ms else none).orElse λ_ =>
   (GZ e).bind λa=>(r.e c a).bind λm=>(tU es).map λms=>.cons (.prim .fv (.cons m .nil)) ms
def wA:List (Option Expr)->List Expr->Option ME
 |[],[]=>some .nil
 |some k::ks,v::vs=>(r.e c k).bind λmk=>(r.e c v).bind λmv=>(wA ks vs).map λms=>.cons mk (.cons mv ms)
 |_,_=>none
def yn(op:BoolOp):List Expr->Option ME
 |[]=>none
 |[a]=>r.e c a
 |a::b::rs=>(r.e c a).bind λma=>(yn op (b::rs)).map λmb=>match op with
  |.And=>.dS ma mb
  |.Or=>.ke ma mb
def yo(op:BoolOp):List Expr->Option ME
 |[]=>none
 |[a]=>r.t c a
 |a::b::rs=>(r.t c a).bind λma=>(yo op (b::rs)).map λmb=>match op with
  |.And=>.dS ma mb
  |.Or=>.ke ma mb
def Je:List Expr->Option ME
 |[]=>some .no
 |[e]=>r.t c e
 |_=>none
def B1:List Stmt->Option MS
 |[]=>some .pass
 |s::rs=>(r.s c s).bind λm=>(B1 rs).map λms=>.seq m ms
def DT(x:Str):Option ME :=
 if qb x then(if c.zL x then(c.idx x).map .var else if c.gl x then((c.con.lookup x).map .lit).orElse λ_=>if c.blt.contains x then(DM.lookup x).map λt=>.lit (.ty t) else none else none) else none
def zE(op:UnaryOp)(a:Expr):Option ME:=if op=.Not then(r.e c a).map .fe else c1 r c (.un op) a
def i0.zm(b:Expr):Option (List D):=(asName b).bind λx=>if c.gl x&&qb x then c.gd.lookup x else none
def UU:CmpOp->Option Bool
 |.In=>some false
 |.NotIn=>some true
 |_=>none
def wq(a:Expr)(ops:List CmpOp)(bs:List Expr):Option ME:=match ops,bs with
 |[op],[b]=>if behindInMarks op b then none else((UU op).bind λneg=>(c.zm b).bind λkvs=>(r.e c a).map λma=>.prim (yq neg) (.cons (.lit (.tup kvs)) (.cons ma .nil))).orElse λ_=>c2 r c (.cmp op) a b
 |[op,iH],[b,d]=>if lastMarks [op,iH] [b,d] then none else(r.e c a).bind λma=>(r.e c b).bind λmb=>(r.e c d).map λmd=>.chain op iH ma mb md
 |_,_=>none
def UD:Expr->Option (Option Expr×Option Expr×Option Expr)
 |.Slice lo hi st _=>some (lo,hi,st)
 |_=>none
def EN(a:Expr):Option Expr->Option Expr->Option Expr->Option ME
 |none,none,none=>c1 r c (.nU false false) a
 |some b,none,none=>c2 r c (.nU true false) a b
 |none,some b,none=>c2 r c (.nU false true) a b
 |_,_,_=>none
def Dk(a b:Expr):Option ME:=((UD b).bind λq=>EN r c a q.1 q.2.1 q.2.2).orElse λ_=>if gw b then((c.zm a).bind λkvs=>(r.e c b).map λmb=>.prim .nK (.cons (.lit (.tup kvs)) (.cons mb .nil))).orElse λ_=>c2 r c .ix a b else none
def zF(x:Str)(e:Expr):Option ME:=(yT e).bind λq =>
 if x="list" && q.1="range" && c.blt.contains "list" && c.blt.contains "range" && c.gl "range" then (match q.2 with
  |[a]=>if gw a then c1 r c .jM a else none
  |[a,b]=>if gw a&&gw b then c2 r c .kJ a b else none
  | _=>none)
 else if x="sorted" && q.1="set" && c.blt.contains "sorted" && c.blt.contains "set" && c.gl "set" then (match q.2 with
  |[a]=>if gw a then c1 r c .sset a else none
  | _=>none)
 else if x="len" && q.1="set" && c.blt.contains "len" && c.blt.contains "set" && c.gl "set" then (match q.2 with
  |[a]=>if gw a then c1 r c .qa a else none
  | _=>none)
 else none
def VU(x:Str)(e:Expr):List Expr->Option ME
 |[]=>zF r c x e
 |_=>none
def BZ(x:Str):Option ME:=if qb x&&c.gl x then(c.cls.lookup x).map λf=>.make x f .nil else none
def Ca(x:Str)(e:Expr)(es:List Expr):Option ME:=if qb x&&c.gl x then(VU r c x e es).orElse λ_=>(J1 r c (e::es)).bind λms=>((c.fns.lookup x).map λf=>.call f ms).orElse λ_=>((c.cls.lookup x).map λf=>.make x f ms).orElse λ_=>if c.blt.contains x then(DX.lookup x).map λp=>.prim p ms else none else none
def Jw(x:Str):List Expr->Option ME
 |[]=>BZ c x
 |e::es=>Ca r c x e es
def Cb(o:Expr)(m:Str)(apos pos:Pos)(args:List Expr):Option ME :=
 if yN o && (apos.endLine == pos.line) && decide (args.length < 20) then (r.e c o).bind λmo=>(J1 r c args).bind λms=>if m="index" then none else if args.isEmpty && (za.lookup m).isSome then (za.lookup m).map λp=>.ff p mo ms else (match Ee.lookup m with
  |some p=>if args.isEmpty then none else some (.ff p mo ms)
  | none=>none) else none
def DS(f:Expr)(args:List Expr)(jC:List Keyword)(pos:Pos):Option ME:=if jC.isEmpty then(match f with
 |.Name x _=>Jw r c x args
 |.Attribute o m apos=>Cb r c o m apos pos args
 | _=>none) else none
def wB(tg e:Expr):Option ME:=(((yT e).bind λq =>
  if q.1="enumerate" then (match q.2 with
   |[a]=>if c.gl "enumerate"&&c.blt.contains "enumerate"&&gw a&&Kq tg then(r.e c a).map .lA else none
   | _=>none)
  else if q.1="range" then (match q.2 with
   |[a]=>if c.gl "range"&&c.blt.contains "range"&&gw a then(r.e c a).map .eG else none
   |[a,b]=>if c.gl "range"&&c.blt.contains "range"&&gw a&&gw b then(r.e c a).bind λma=>(r.e c b).map λmb=>.kL ma mb else none
   | _=>none)
  else none):Option ME).orElse λ_=>if gw e then (r.e c e).map .fF else none
def X8(elt:Expr)(gens:List Comprehension)(sc:Scope):Option ME:=match gens with
 |[⟨tg,it,ifs,FJ⟩]=>if c.Cu sc&&decide (FJ=0)&&gw it then((c.inner sc).tg tg).bind λt=>(wB r c tg it).bind λmi=>(Je r (c.inner sc) ifs).bind λmc=>(r.e (c.inner sc) elt).map λme=>.comp (c.d6 sc) (frees sc++locals sc).length t mi mc me else none
 |_=>none
def UB:Expr->Option Str
 |.Name x _=>some x
 |_=>none
def UC:Expr->Option (Expr×List Comprehension×Scope)
 |.SetComp elt gens sc _=>some (elt,gens,sc)
 |_=>none
def VR:ME->Option ME
 |.comp a n t i k e=>some (.hV a n t i k e)
 |_=>none
def zG(f:Expr)(args:List Expr)(jC:List Keyword):Option ME:=match args with
 |[a]=>if jC.isEmpty&&decide (UB f=some "sorted")&&c.gl "sorted"&&c.blt.contains "sorted" then(UC a).bind λq=>(X8 r c q.1 q.2.1 q.2.2).bind VR else none
 |_=>none
def xi(f:Expr)(args:List Expr)(jC:List Keyword):Option ME:=(λ(_:i0)=>none) c
def Dj(es:List Expr)(k:Nat):Option ME:=if c.oK&&decide (k=0) then(match es with
 |[.Constant (.int i) _ _]=>some (.prim (.kC i) .nil)
 | _=>none) else none
def KQ:Expr->Option ME
 |.Name x _=>DT c x
 |.Constant k _ _=>(Dw k).map .lit
 |.BinOp a op b _=>c2 r c (.bin op) a b
 |.UnaryOp op a _=>zE r c op a
 |.Compare a ops bs _=>wq r c a ops bs
 |.BoolOp op vs _=>yn r c op vs
 |.IfExp t a b _=>(r.t c t).bind λmt=>(r.e c a).bind λma=>(r.e c b).map λmb=>.ite mt ma mb
 |.Tuple es _ _=>(J1 r c es).map (.prim .tup)
 |.List es _=>(J1 r c es).map (.prim .lst)
 |.Subscript a b _=>Dk r c a b
 |.Dict ks vs _=>if ks.isEmpty&&vs.isEmpty then some (.prim .V2 .nil) else if decide (ks.length<=15) then(wA r c ks vs).map .pT else none
 |.JoinedStr vs _=>if decide (2<=vs.length)&&decide (vs.length<=40) then(tU r c vs).map (.prim .my) else none
 |.Attribute o f _=>if yN o then c1 r c (.fld f) o else none
 |.Call f args jC pos=>(zG r c f args jC).orElse λ_=>(xi c f args jC).orElse λ_=>DS r c f args jC pos
 |.ListComp elt gens sc _=>X8 r c elt gens sc
 |.Set es k _=>Dj c es k
 |_=>none
def stepT:Expr->Option ME
 |.UnaryOp op a _=>if op=.Not then(r.t c a).map .fe else none
 |.BoolOp op vs _=>yo r c op vs
 |.Compare a ops bs _=>(wq r c a ops bs).map .fT
 |e=>if Dd e then(r.e c e).map .fT else none
def Kp:Expr->Option (Str×Pos)
 |.Name x p=>some (x,p)
 |_=>none
def VZ:Expr->Option (Expr×Expr)
 | .Tuple es _ _=>(match es with
  |[a,b]=>some (a,b)
  | _=>none)
 |_=>none
def i0.Es(x:Str)(px:Pos)(y:Str)(py:Pos)(a b:Expr):Bool:=decide (c.nm.lookup x=some .local)&&decide (c.nm.lookup y=some .local)&&decide (x≠y)&&decide (py.line=px.line)&&gw a&&gw b&&!([a,b].all (foldedForSure 8))&&!([a,b].all (constantsAlone 8))
def i0.yy:List Expr->Expr->Bool
 |[s,t],e=>((Kp s).bind λp=>(Kp t).bind λq=>(VZ e).map λz=>c.Es p.1 p.2 q.1 q.2 z.1 z.2).getD false
 |_,_=>false
def Ce(e f:Option Expr):Option (Str×Expr×List Expr):=if f.isNone then e.bind λe=>(yT e).bind λq=>q.2.head?.map λa=>(q.1,a,q.2.tail) else none
def i0.zl(f:Str):List Str:=(c.oN.filter λy=>decide (y.1=f)).map (·.2)
def DW:List Expr->Option (Expr×Expr×Expr×Expr)
 |_=>none
def Hj(tg e:Expr):Option MS:=match tg with
 |.Name x _=>if c.C2 x then(c.idx x).bind λi=>(r.e c e).map λm=>.set i m else none
 |.Tuple es _ _=>(DW es).elim (if(tZ e&&x4 e)||c.yy es e then(c.slots es).bind λis=>(r.e c e).map λm=>.lZ (.many is) m else none) λq=>if x4 e&&gw q.2.1&&gw q.2.2.2 then(r.e c q.1).bind λm1=>(r.e c q.2.1).bind λn1=>(r.e c q.2.2.1).bind λm2=>(r.e c q.2.2.2).bind λn2=>(r.e c e).map λm=>.xo m1 n1 m2 n2 m else none
 |.Subscript o i _=>if gw i&&x4 e then(r.e c o).bind λmo=>(r.e c i).bind λmi=>(r.e c e).map λm=>.eW mo mi m else none
 |.Attribute o f _=>if x4 e then(r.e c o).bind λmo=>(r.e c e).map λm=>.iw f (c.zl f) mo m else none
 |_=>none
def toR(e:Expr)(m:ME):ME:=(λ(_:i0)=>m) c
def KR:Stmt->Option MS
 |.Expr e _=>if x4 e then(r.e c e).map .expr else none
 | .Assign zP e _=>(match zP with
  |[tg]=>Hj r c tg e
  | _=>none)
 |.If t a b _=>(r.t c t).bind λmt=>(B1 r c a).bind λma=>(B1 r c b).map λmb=>.ifs mt ma mb
 |.For tg it body yd _=>if c.oK&&(yd.isEmpty&&gw it) then(c.tg tg).bind λt=>(wB r c tg it).bind λmi=>(B1 r c body).map λmb=>.dX t mi mb else none
 | .Return e _=>(match e with
  |some e=>(r.e c e).map λm=>.ret (toR c e m)
  | none=>some .qz)
 |.Pass _=>some .pass
 |.Raise e f _=>(Ce e f).bind λq=>if c.mj&&c.exc.contains q.1&&c.gl q.1&&qb q.1 then(J1 r c (q.2.1::q.2.2)).map (.raise q.1) else none
 |_=>none
end
def comp:Nat->CF
 |0=>⟨λ_ _=>none,λ_ _=>none,λ_ _=>none⟩
 |n+1=>⟨KQ (comp n),stepT (comp n),λc s=>(KR (comp n) c s).orElse λ_=>some (.expr .no)⟩
end M

namespace M
open PySem L2 PySem.Spec PyProof.Rows
structure iV(X:Cx)(c:i0)(P:fY)(Ξ:iT):Prop where
 N:X.N=c.N
 nd:c.N.Nodup
 loc:∀x,c.nm.lookup x=some .local->X.env.scope.names.lookup x=some .local
 BQ:∀x,c.nm.lookup x=some .cell->X.env.scope.names.lookup x=some .cell
 GF:∀x,c.nm.lookup x=some .free->X.env.scope.names.lookup x=some .cell\/X.env.scope.names.lookup x=some .free
 NU:∀x,c.nm.lookup x=some .globalImplicit->X.env.scope.names.lookup x=some .globalImplicit
 cells:∀x,(c.nm.lookup x=some .cell\/c.nm.lookup x=some .free)->∃a,X.env.cells.lookup x=some a
 oK:∀x,c.nm.lookup x=some .cell->X.fn x=true
 calm:X.calm=true
 units:X.A.units+100<cLine
 own:c.oK=true->PassesOwn (model X.prog X.w) X.A X.env X.xe
 mono:j6 P
 con:∀x d,c.con.lookup x=some d->∃v u,X.mg x=some u/\RelV v u/\∀ρ H,f6 X.K ρ H d v
 blt:∀x,c.blt.contains x=true->X.mg x=none
 fns:∀x f,c.fns.lookup x=some f->∃k fa fd ps,qh X P Ξ.1 k f fa fd ps/\x5 k X.A/\X.mg x=some (.ref fa)/\PySem.W.keepIn X.K (.ref fa)=true
 cls:∀x f,c.cls.lookup x=some f->∃k C fa fd ps,qh X P Ξ.1 k f fa fd ps/\x5 (k+1) X.A/\X.mg x=some (.ref C)/\v8 X.K x C/\ku X.K C/\Mk X.K C fa
 qN:∀m y f C,(m,y,f)∈c.qN->v8 X.K y C->∃k fa fd ps,Meth X.K C m fa/\qh X P Ξ.1 k f fa fd ps/\x5 k X.A
 oN:∀f y C,(f,y)∈c.oN->v8 X.K y C->B3 X.K C f
 GG:Ξ.1=c.exc
 pass:Passes (jG X.prog X.w) X Ξ.2
 mj:c.mj=true->yR X Ξ.2
 ot:c.ot=true->X.stack=X.env::X.outer/\X.env.frame=some X.env.locals/\Ja X Ξ.2
 exc:∀x,c.exc.contains x=true->∃C,X.mg x=some (.ref C)/\v8 X.K x C/\∃B newId gP bm,OwnCls x C bm newId X.mg X.base/\ExcBaseFacts B newId gP bm
 Oc:∀x y C C',c.exc.contains x=true->c.exc.contains y=true->v8 X.K x C->v8 X.K y C'->PySem.W.exmOne X.K (.ref C) (.ref C')=some (decide (x=y\/y="MintError"))
 ya:∀x kvs,c.gd.lookup x=some kvs->yj X x kvs
 code:c.oK=true->PySem.W.kdsCode X.K X.env.code=true
section
variable{X:Cx}{c:i0}{P:fY}{Ξ:iT}
theorem SF{c:i0}{x:Str}{i:Nat}(h:c.idx x=some i):c.N[i]?=some x:=by
 unfold i0.idx at h;rw[kR] at h;obtain⟨h1,h2,_⟩:=h;rw[ak h1,bh h2]
theorem iV.Po(C:iV X c P Ξ){x:Str}(h:c.zL x=true):zt X.env.scope x:=by
 unfold i0.zL at h;split at h
 ·rename_i e;exact .inl (C.loc x e)
 ·rename_i e;exact .inr (.inl (C.BQ x e))
 ·rename_i e;rcases C.GF x e with z|z
  ·exact .inr (.inl z)
  ·exact .inr (.inr z)
 ·cases h
theorem iV.A6(C:iV X c P Ξ){x:Str}(h:c.gl x=true):Gl X x:=C.NU x (bh h)
theorem iV.C2(C:iV X c P Ξ){x:Str}(h:c.C2 x=true):Loc X.env.scope x/\(X.fn x=true\/X.env.scope.names.lookup x=some .local):=by
 unfold i0.C2 at h;rw[cU] at h;rcases h with h|h
 ·have:=C.loc x (bh h);exact⟨.inl this,.inr this⟩
 ·exact⟨.inr (C.BQ x (bh h)),.inl (C.oK x (bh h))⟩
theorem iV.tP(C:iV X c P Ξ){x:Str}{i:Nat}(h:c.idx x=some i):X.N[i]?=some x:=by rw[C.N];exact SF h
theorem iV.sP(C:iV X c P Ξ):X.N.Nodup:=by rw[C.N];exact C.nd
theorem Ih{e:Expr}{x:Str}(h:asName e=some x):∃p,e=.Name x p:=by
 cases e<;>first|(cases h;exact⟨_,rfl⟩)|cases h
theorem Hx{e:Expr}{i:Nat}(h:c.slot e=some i):∃x p,e=.Name x p/\c.C2 x=true/\c.idx x=some i:=by
 unfold i0.slot at h;obtain⟨x,hx,h2⟩:=ag.mp h;obtain⟨p,rfl⟩:=Ih hx;split at h2
 ·exact⟨x,p,rfl,by assumption,h2⟩
 ·cases h2
theorem iV.slots(C:iV X c P Ξ):∀{es:List Expr} {is:List Nat},c.slots es=some is->fX X es is:=by
 intro es
 induction es with
 |nil=>intro is h;cases h;exact .nil
 |cons e r ih =>
  intro is h;unfold i0.slots at h;obtain⟨i,hi,h⟩:=ag.mp h;obtain⟨is',hs,rfl⟩:=ae.mp h;obtain⟨x,p,rfl,hl,hx⟩:=Hx hi;exact .cons (C.tP hx) (C.C2 hl).1 (C.C2 hl).2 (ih hs)
theorem orElse_some{α:Type}{a:Option α}{b:Unit->Option α}{m:α}(h:a.orElse b=some m):a=some m\/b ()=some m:=by
 cases a with
 |none=>exact .inr h
 |some x=>exact .inl h
theorem iV.Hq(C:iV X c P Ξ){tg:Expr}{t:MT}(h:c.tg tg=some t):PG X tg (LG X.K t):=by
 unfold i0.tg at h;rcases orElse_some h with h|h
 ·obtain⟨i,hi,rfl⟩:=ae.mp h;obtain⟨x,p,rfl,hl,hx⟩:=Hx hi;exact RB C.sP (C.tP hx) (C.C2 hl).1 (C.C2 hl).2
 ·cases tg<;>first|(cases h;done)|skip
  obtain⟨is,hs,rfl⟩:=ae.mp (show(c.slots _).map MT.many=some t from h);exact JV C.calm C.sP (C.slots hs)
theorem o8{e:Expr}{es:List Expr}{env:Env}(h:gw e=true):starEach (e::es) env=(false,eval e env)::starEach es env:=by
 cases e<;>first|rfl|cases h
theorem Z1{e:Expr}{env:Env}(h:gw e=true):∀x,foldedSetIterable e env x=pure x:=by
 intro x;cases e<;>first|rfl|cases h
theorem Jj{e:Expr}(h:gw e=true):Cc e:=by
 intro o i;cases e<;>first|rfl|cases h
theorem SV{o i:Expr}{tp:Pos}{env:Env}(h:gw i=true):∀v,assign (.Subscript o i tp) env v=(do
      let ov <- holding [v] (eval o env)
      let iv <- holding [v,ov] (eval i env)
      standAt tp
      holding [v,ov,iv] (setItem ov iv v)
      release [v,ov,iv] []):=by
  intro v;cases i<;>first|rfl|cases h
theorem S5{e:Expr}{t:Option Expr}{n:Nat}{env:Env}(h:x4 e=true):swapsWith e t n env=pure false:=by
 cases e<;>first|rfl|cases h
theorem a39{e:Expr}{es:List Expr}{k:Nat}{p:Pos}{env:Env}(h:tZ e=true):swappedStores [.Tuple es k p] e env=pure none:=by
 cases e<;>first|rfl|cases h
theorem YJ{e:Expr}{env:Env}(h:Dd e=true):∀whole,isTrue e env whole=(do let v <- whole;standAt e.pos;holding [v] (truthy v)):=by
 intro w;cases e<;>first|rfl|cases h
theorem V4{e:Expr}{q:Str×List Expr}(h:yT e=some q):∃p pos,e=.Call (.Name q.1 p) q.2 [] pos:=by
 cases e<;>first|(cases h;done)|skip
 rename_i f as jC pos;cases f<;>first|(cases h;done)|skip
 cases jC<;>first|(cases h;done)|skip
 cases h;exact⟨_,_,rfl⟩
theorem XR{e:Expr}(h:Kq e=true):∃es k p,e=.Tuple es k p:=by
 cases e<;>first|exact⟨_,_,_,rfl⟩|cases h
theorem Kf{b:Expr}{kvs:List D}(h:c.zm b=some kvs):∃x p,b=.Name x p/\c.gl x=true/\qb x=true/\c.gd.lookup x=some kvs:=by
 unfold i0.zm at h;obtain⟨x,hx,h2⟩:=ag.mp h;obtain⟨p,rfl⟩:=Ih hx;split at h2
 ·rename_i hc;rw[aW] at hc;exact⟨x,p,rfl,hc.1,hc.2,h2⟩
 ·cases h2
theorem P7{o:Expr}{f:Str}{env:Env}(h:yN o=true):attributeBase o f env (eval o env)=eval o env:=by
 cases o<;>first|rfl|skip
 rename_i f as jC pos;cases f<;>first|rfl|cases h
theorem Cj{env:Env}:∀(names:List (Str×NameKind)) (acc:List (Str×Addr)),(∀y∈names,y.2=.free->∃a,env.cells.lookup y.1=some a)->(∀x a,acc.lookup x=some a->env.cells.lookup x=some a) ->
  ∃ cl,(forIn names acc λ(y:Str × NameKind) (cs:List (Str × Addr))=>(match y with
   |(name,kind)=>if(kind==NameKind.free)=true then do
     let __do_lift <- cellOf env name
     pure (ForInStep.yield ((name,__do_lift)::cs))
    else pure (ForInStep.yield cs):Sem (ForInStep (List (Str × Addr)))))=pure cl/\(∀ x a,cl.lookup x=some a->env.cells.lookup x=some a)/\(∀ y ∈ names,y.2=.free->∃ a,cl.lookup y.1=some a)/\∀ x a,acc.lookup x=some a->∃ a',cl.lookup x=some a'
 |[],acc,_,h2=>⟨acc,rfl,h2,λy hy=>absurd hy (by simp),λx a h=>⟨a,h⟩⟩
 |(n,k)::r,acc,h1,h2=>by
  rw[List.forIn_cons];by_cases hk:k=.free
  ·subst hk;obtain⟨a,ha⟩:=h1 (n,.free) (by simp) rfl;have hc:cellOf env n=pure a:=by unfold cellOf;rw[ha]
   obtain ⟨cl,e,q1,q2,q3⟩:=Cj r ((n,a) :: acc) (λy hy=>h1 y (by simp [hy])) (λx b hb=>by
    rw[cP] at hb;cases hx:x==n with
    |true=>rw[hx] at hb;cases hb;rw[eq_of_beq hx];exact ha
    | false=>rw [hx] at hb;exact h2 x b hb)
   refine⟨cl,?_,q1,λy hy hf=>?_,λx b hb=>?_⟩
   ·simp only[beq_self_eq_true,if_true,hc];exact e
   ·rcases aE.mp hy with z|z
    ·subst z;exact q3 n a (by simp[List.lookup_cons])
    ·exact q2 y z hf
   ·cases hx:x==n with
    |true=>exact q3 x a (by rw[cP,hx])
    |false=>exact q3 x b (by rw[cP,hx];exact hb)
  ·have hb:(k==NameKind.free)=false:=by simpa using hk
   obtain⟨cl,e,q1,q2,q3⟩:=Cj r acc (λy hy=>h1 y (by simp[hy])) h2;refine⟨cl,?_,q1,λy hy hf=>?_,q3⟩
   ·simp only[hb,Bool.false_eq_true,if_false];exact e
   ·rcases aE.mp hy with z|z
    ·subst z;exact absurd hf hk
    ·exact q2 y z hf
end
end M

namespace M
open PySem L2 PySem.Spec PyProof.Rows
theorem YB{P:Program}{w:World}{X:Cx}:Passes (jG P w) X (λ_ _ _=>False):=λ_ _ _ _ _ _ _ h=>by
 obtain⟨_,_,_,_,_,_,_,z⟩:=h;exact z.elim
theorem O4{env:Env}:∀{names:List (Str×NameKind)} {x:Str},names.lookup x=some .globalImplicit ->
  (names.map λ(n,k)=>if(k==NameKind.free&&env.scope.kind==.function&&env.kindOf n==some .cell) then(n,NameKind.cell) else(n,k)).lookup x=some .globalImplicit
 |[],_,h=>by simp at h
 |(n,k)::r,x,h=>by
  have ih:=@O4 env r x;show List.lookup x ((if(k==NameKind.free&&env.scope.kind==.function&&env.kindOf n==some .cell)=true then(n,NameKind.cell) else(n,k))::_)=_;cases hx:x==n with
  |true =>
   simp only[List.lookup_cons,hx] at h;cases h;simp[List.lookup_cons,hx]
  |false =>
   simp only[List.lookup_cons,hx] at h;by_cases hc:(k==NameKind.free&&env.scope.kind==.function&&env.kindOf n==some .cell)=true
   ·rw[aJ hc];simp only[List.lookup_cons,hx];exact ih h
   ·rw[aC hc];simp only[List.lookup_cons,hx];exact ih h
section
variable{X:Cx}{c:i0}{P:fY}{Ξ:iT}
theorem iV.comp(C:iV X c P Ξ){sc:Scope}(h:c.Cu sc=true):∃cl,dG X sc (frees sc++locals sc) (c.d6 sc) cl/\∀pins A s H fp,iV (d8 X pins sc (frees sc++locals sc) cl A s H fp) (c.inner sc) P (sk Ξ.1):=by
 unfold i0.Cu at h;simp only[Bool.and_eq_true,decide_eq_true_eq,List.all_eq_true] at h;obtain⟨⟨⟨⟨h1,h2⟩,h3⟩,h4⟩,h5⟩:=h;have nB:∀x,sc.names.lookup x=some .free->x∈frees sc:=λx hx=>by
  unfold frees;exact aT.mpr ⟨(x,.free),bJ.mpr ⟨aQ hx,by simp⟩,rfl⟩
 have fr:∀x∈frees sc,(∃i,c.idx x=some i)/\sc.names.lookup x=some .free/\(c.nm.lookup x=some .cell\/c.nm.lookup x=some .free):=λx hx=>by
  have:=h5 x hx;rw[eZ,cU] at this;simp only[decide_eq_true_eq] at this;exact⟨this.1.1,this.1.2,this.2⟩
 have rR:∀y∈sc.names,y.2=.free->∃a,X.env.cells.lookup y.1=some a:=λy hy hf=>by
  have hm:y.1∈frees sc:=aT.mpr ⟨y,bJ.mpr ⟨hy,by simp[hf]⟩,rfl⟩;exact C.cells y.1 (fr y.1 hm).2.2
 obtain⟨cl,e,q1,q2,_⟩:=Cj sc.names [] rR (λx a h=>by simp at h);have h2:∀y∈sc.names,y.2=.cell->sc.names.lookup y.1=some .cell:=λy hy hl=>by
  have:=h2 y hy;rw[cU] at this;simp only[Bool.not_eq_true',decide_eq_false_iff_not,decide_eq_true_eq] at this;exact this.resolve_left λz=>z hl
 refine⟨cl,⟨h1,h2,λy hy hl=>?_,?_,q1,λx hx=>q2 (x,.free) (aQ hx) rfl,h4,λi j hX=>?_,?_⟩,λpins A s H fp=>?_⟩
 ·have:=h3 y hy;rw[cU] at this;simp only[Bool.not_eq_true',decide_eq_false_iff_not,decide_eq_true_eq] at this;exact this.resolve_left λz=>z hl
 ·simp only[closureFor];rw[e]
  rfl
 ·unfold i0.d6 at hX;rw[ao] at hX;cases ex:(frees sc)[i]? with
  |none=>rw[ex] at hX;cases hX
  |some x =>
   rw[ex] at hX;have hx:x∈frees sc:=aN ex;obtain⟨⟨k,hk⟩,hl,hc⟩:=fr x hx;have hj:k=j:=by
    have:=aP hX;dsimp only at this;rw[hk] at this;exact this
   subst hj;refine⟨x,?_,C.tP hk,hl,?_⟩
   ·rw[aL (aw.mp ex).1];exact ex
   ·rcases hc with z|z
    ·exact .inl (C.BQ x z)
    ·exact C.GF x z
 ·unfold i0.d6;rw[ai,bj];omega
 ·refine⟨rfl,h4,λx hx=>lookup_relabel_local hx,λx hx=>?_,λx hx=>E2 hx,λx hx=>O4 hx,λx hx=>?_,λx _=>?_,rfl,C.units,(λ_=>PassesOwn.never),C.mono,C.con,C.blt,C.fns,C.cls,C.qN,C.oN,C.GG,YB,(λz=>by cases z),(λz=>by cases z),C.exc,C.Oc,C.ya,(λz=>by cases z)⟩
  ·exact L7 hx
  ·rcases hx with hx|hx
   ·exact HL (.inl hx)
   ·exact HL (.inr (q2 (x,.free) (aQ hx) rfl))
  ·exact aA ‹_›
theorem M1{x:Str}(h:qb x=true):(x==("__debug__":Str))=false/\(x==("__classdict__":Str))=false/\x≠"__name__":=by
 unfold qb at h;simp only[Bool.and_eq_true,decide_eq_true_eq,beq_iff_eq] at h;exact⟨h.1.1,h.1.2,h.2⟩
theorem XM{x:Str}{t:String}(h:DM.lookup x=some t):bootBuiltins x=some (.type t):=by
 have hm:=aQ h;simp only[DM,List.mem_cons,List.mem_nil_iff,or_false] at hm;rcases hm with z|z|z|z|z<;>(cases z;first|exact xf|exact PyProof.Rows.boot_bool|exact PyProof.Rows.boot_str|exact sC|exact fy|decide +kernel|rfl)
theorem XS{x:Str}{p:Pr}(hc:X.calm=true)(h:DX.lookup x=some p):∃v,((∃id,v=.builtin id)\/∃T,v=.type T)/\bootBuiltins x=some v/\n4 X v (rN X.K p):=by
 have hm:=aQ h;simp only[DX,List.mem_cons,List.mem_nil_iff,or_false] at hm;rcases hm with z|z|z|z|z|z|z|z|z|z
 ·cases z;exact⟨.builtin "len",.inl ⟨_,rfl⟩,PySem.boot_len,Qi⟩
 ·cases z;exact⟨.type "list",.inr ⟨_,rfl⟩,by first|exact fy|decide +kernel,SK hc⟩
 ·cases z;exact⟨.type "tuple",.inr ⟨_,rfl⟩,by first|exact sC|decide +kernel,XJ⟩
 ·cases z;exact⟨.builtin "isinstance",.inl ⟨_,rfl⟩,by first|exact PyProof.Rows.boot_isinstance|decide +kernel,SG⟩
 ·cases z;exact⟨.builtin "all",.inl ⟨_,rfl⟩,by first|exact PyProof.Rows.boot_all|decide +kernel,Pw hc⟩
 ·cases z;exact⟨.builtin "max",.inl ⟨_,rfl⟩,by first|exact PyProof.Rows.boot_max|decide +kernel,Qr hc⟩
 ·cases z;exact⟨.builtin "min",.inl ⟨_,rfl⟩,by first|exact PyProof.Rows.boot_min|decide +kernel,Qs hc⟩
 ·cases z;exact⟨.type "int",.inr ⟨_,rfl⟩,by first|exact xf|decide +kernel,PY⟩
 ·cases z;exact⟨.builtin "sorted",.inl ⟨_,rfl⟩,by first|exact hU|decide +kernel,a00 hc⟩
 ·cases z;exact⟨.builtin "sum",.inl ⟨_,rfl⟩,by first|exact PyProof.Rows.boot_sum|decide +kernel,RO hc⟩
theorem Zr{x:Str}{p:Pr}(h:za.lookup x=some p):∃T id,PlainAttrs T/\Slot T x id/\typeOf (.builtin id)=pure (.type "method_descriptor")/\nP X id (rM X.K p) /\
  ∀{d:D} {v:V} {g:G} {ρ:List Addr} {H:Hp},Rl X.K ρ g H->f6 X.K ρ H d v->mM p d g->nT X.K T v H:=by
 cases h
theorem Yt{x:Str}{p:Pr}(hu:X.A.units+100<cLine)(h:Ee.lookup x=some p):∃T id,PlainAttrs T/\Slot T x id/\typeOf (.builtin id)=pure (.type "method_descriptor")/\nP X id (rM X.K p) /\
  ∀{d:D} {v:V} {g:G} {ρ:List Addr} {H:Hp},Rl X.K ρ g H->f6 X.K ρ H d v->mM p d g->nT X.K T v H:=by
 have hm:=aQ h;simp only[Ee,List.mem_cons,List.mem_nil_iff,or_false] at hm;rcases hm with z|z|z|z
 ·cases z;exact⟨_,_,sv,PySem.F.slot_list_append,PySem.F.type_list_append,XQ,λR r h=>ty_list R r h⟩
 ·cases z;exact⟨_,_,sv,PySem.F.slot_list_pop,PySem.F.type_list_pop,a27,λR r h=>ty_list R r h⟩
 ·cases z;exact⟨_,_,PySem.F.plainAttrs_dict,jf,PySem.F.type_dict_get,PQ hu,λR r h=>ty_dict R r h⟩
 ·cases z;exact⟨_,_,PySem.F.plainAttrs_set,PySem.F.slot_set_add,PySem.F.type_set_add,TL,λR r h=>ty_set R r h⟩
theorem Hz{pos:Pos}{env:Env}:∀{es:List Expr},(∀e∈es,gw e=true)->(backTo pos (starEach es env)).all (λx=>!x.1)=true
 |[],_=>rfl
 |e::es,h=>by
  rw[o8 (h e (by simp))];have ih:=Hz (pos:=pos) (env:=env) (es:=es) λx hx=>h x (by simp[hx]);unfold backTo at ih ⊢;rw[bu,List.all_cons,ih]
  rfl
theorem Y4{pos:Pos}{env:Env}:∀{es:List Expr},(∀e∈es,gw e=true)->(backTo pos (starEach es env)).any (·.1)=false
 |[],_=>rfl
 |e::es,h=>by
  rw[o8 (h e (by simp))];have ih:=Y4 (pos:=pos) (env:=env) (es:=es) λx hx=>h x (by simp[hx]);unfold backTo at ih ⊢;rw[bu,fR,ih]
  rfl
theorem CA{r:CF}:∀{es:List Expr} {m:ME},J1 r c es=some m->∀e∈es,gw e=true:=by
 intro es
 induction es with
 |nil=>intro m _ e he;exact absurd he (by simp)
 |cons a es ih =>
  intro m h e he;unfold J1 at h;split at h
  ·obtain⟨m1,h1,h⟩:=ag.mp h;obtain⟨m2,h2,_⟩:=ae.mp h;rcases aE.mp he with z|z
   ·rw[z];assumption
   ·exact ih h2 e z
  ·cases h
end
theorem Zb{a:Expr}{x:Str}(h:Jc a=some x):∃j p,a=.Constant (.str x) j p:=by
 cases a with
 |Constant k j p=>cases k with
  |str y=>cases h;exact⟨_,_,rfl⟩
  |_=>cases h
 |_=>cases h
theorem a64{a e:Expr}(h:GZ a=some e):∃p,a=.FormattedValue e (-1) none p:=by
 cases a with
 |FormattedValue v k f p=>cases f with
  |none =>
   have h2:(if k=-1 then some v else none)=some e:=h;split at h2
   ·rename_i hk;cases h2;rw[hk];exact⟨_,rfl⟩
   ·cases h2
  |some _=>cases h
 |_=>cases h
structure qf(P:fY)(r:CF):Prop where
 e:∀X c Ξ,iV X c P Ξ->∀e m,r.e c e=some m->PE X e (LE X.K Ξ (bg P m))
 t:∀X c Ξ,iV X c P Ξ->∀e m,r.t c e=some m->PT X e (LT X.K Ξ (df P m))
 s:∀X c Ξ,iV X c P Ξ->∀st m,r.s c st=some m->PS X st (LS X.K Ξ (wpS P m))
section
variable{X:Cx}{c:i0}{P:fY}{Ξ:iT}{r:CF}(S:qf P r)(C:iV X c P Ξ){a b d e:Expr}{m:ME}{pos:Pos}
include S C
theorem X7{p:Pr}(h:c1 r c p a=some m):∃ma,PE X a (LE X.K Ξ (bg P ma))/\m=.prim p (.cons ma .nil):=by
 obtain⟨ma,ha,rfl⟩:=ae.mp h;exact⟨ma,S.e X c Ξ C _ _ ha,rfl⟩
theorem X6{p:Pr}(h:c2 r c p a b=some m):∃ma mb,PE X a (LE X.K Ξ (bg P ma))/\PE X b (LE X.K Ξ (bg P mb))/\m=.prim p (.cons ma (.cons mb .nil)):=by
 obtain⟨ma,ha,h⟩:=ag.mp h;obtain⟨mb,hb,rfl⟩:=ae.mp h;exact⟨ma,mb,S.e X c Ξ C _ _ ha,S.e X c Ξ C _ _ hb,rfl⟩
theorem sQ:∀{es:List Expr} {m:ME},J1 r c es=some m->PA X es (LA X.K Ξ (gk P m)):=by
 intro es
 induction es with
 |nil=>intro m h;cases h;exact N1 C.mono
 |cons a es ih =>
  intro m h;unfold J1 at h;split at h
  ·rename_i bX;obtain⟨m1,h1,h⟩:=ag.mp h;obtain⟨m2,h2,rfl⟩:=ae.mp h;exact E0 C.mono (S.e X c Ξ C _ _ h1) (ih h2) (o8 bX)
  ·cases h
theorem Mh:∀{es:List Expr} {m:ME},tU r c es=some m->∃ts,mR X Ξ P es m ts:=by
 intro es
 induction es with
 |nil=>intro m h;cases h;exact⟨_,.nil⟩
 |cons a es ih =>
  intro m h;unfold tU at h;rcases orElse_some h with h1|h1
  ·obtain⟨x,hx,h2⟩:=ag.mp h1;obtain⟨j,p,rfl⟩:=Zb hx;split at h2
   ·obtain⟨m2,h3,rfl⟩:=ae.mp h2;obtain⟨ts,F⟩:=ih h3;exact⟨_,.lit (by assumption) F⟩
   ·cases h2
  ·obtain⟨x,hx,h2⟩:=ag.mp h1;obtain⟨m1,h3,h4⟩:=ag.mp h2;obtain⟨m2,h5,rfl⟩:=ae.mp h4;obtain⟨p,rfl⟩:=a64 hx;obtain⟨ts,F⟩:=ih h5;exact⟨_,.val (S.e X c Ξ C _ _ h3) F⟩
theorem Mj:∀{ks:List (Option Expr)} {vs:List Expr} {m:ME},wA r c ks vs=some m->∃iF,mS X Ξ P ks vs m iF:=by
 intro ks
 induction ks with
 |nil=>intro vs m h;cases vs<;>first|(cases h;exact⟨_,.nil⟩)|cases h
 |cons k ks ih =>
  intro vs m h;cases k<;>first|(cases h;done)|skip
  cases vs<;>first|(cases h;done)|skip
  unfold wA at h;obtain⟨m1,h1,h⟩:=ag.mp h;obtain⟨m2,h2,h⟩:=ag.mp h;obtain⟨m3,h3,rfl⟩:=ae.mp h;obtain⟨iF,D⟩:=ih h3;exact⟨_,.cons (S.e X c Ξ C _ _ h1) (S.e X c Ξ C _ _ h2) D⟩
theorem Ml{op:BoolOp}:∀{vs:List Expr} {m:ME},yn r c op vs=some m->PE X (.BoolOp op vs pos) (LE X.K Ξ (bg P m)):=by
 intro vs
 induction vs with
 |nil=>intro m h;cases h
 |cons a vs ih =>
  intro m h;cases vs with
  |nil=>exact QR (S.e X c Ξ C _ _ h)
  |cons b vs =>
   unfold yn at h;obtain⟨m1,h1,h⟩:=ag.mp h;obtain⟨m2,h2,rfl⟩:=ae.mp h;cases op
   ·exact Ro C.mono (S.e X c Ξ C _ _ h1) (ih h2)
   ·exact OT C.mono (S.e X c Ξ C _ _ h1) (ih h2)
theorem Md{op:BoolOp}:∀{vs:List Expr} {m:ME},yo r c op vs=some m->PW X (.BoolOp op vs pos) (LT X.K Ξ (df P m)):=by
 intro vs
 induction vs with
 |nil=>intro m h;cases h
 |cons a vs ih =>
  intro m h;cases vs with
  |nil =>
   cases op
   ·exact Tx (S.t X c Ξ C _ _ h)
   ·exact Rg (S.t X c Ξ C _ _ h)
  |cons b vs =>
   unfold yo at h;obtain⟨m1,h1,h⟩:=ag.mp h;obtain⟨m2,h2,rfl⟩:=ae.mp h;cases op
   ·exact RP C.mono (S.t X c Ξ C _ _ h1) (ih h2)
   ·exact OX C.mono (S.t X c Ξ C _ _ h1) (ih h2)
theorem Vg{es:List Expr}(h:Je r c es=some m):lR X es (LT X.K Ξ (df P m)):=by
 rcases es with _|⟨e,_|⟨_,_⟩⟩
 ·cases h;exact Um C.mono
 ·exact Tv (S.t X c Ξ C _ _ h)
 ·cases h
theorem zp:∀{EX:List Stmt} {m:MS},B1 r c EX=some m->kP X EX (LS X.K Ξ (wpS P m)):=by
 intro es
 induction es with
 |nil=>intro m h;cases h;exact RH C.mono
 |cons a es ih =>
  intro m h;unfold B1 at h;obtain⟨m1,h1,h⟩:=ag.mp h;obtain⟨m2,h2,rfl⟩:=ae.mp h;exact Uk C.mono (S.s X c Ξ C _ _ h1) (ih h2)
end
theorem II{e t:Expr}{n:Nat}{env:Env}(h:x4 e=true):swapsWithSole [t] e n env=pure false:=by
 show swapsWith e (some t) n env=pure false;exact S5 h
theorem Zv{x y:Str}{px py pt pz:Pos}{kt k2:Nat}{a b:Expr}{env:Env}(hk:env.scope.kind=.function)(hx:env.kindOf x=some .local)(hy:env.kindOf y=some .local)(ft:x≠y)(hl:py.line=px.line)(ha:gw a=true)(hb:gw b=true)(h1:[a,b].all (foldedForSure 8)=false)(h2:[a,b].all (constantsAlone 8)=false):swappedStores [.Tuple [.Name x px,.Name y py] kt pt] (.Tuple [a,b] k2 pz) env=pure (some [x,y]):=by
 have Ng:env.blockKind=.function:=by simp[Env.blockKind,hk,ScopeKind.isAnnotationScope]
 have hd:[x,y].eraseDups.length=2:=by
  have:(y==x)=false:=by simpa using cx ft
  simp[List.eraseDups_cons,this]
 have pD:(env.kindOf x==some NameKind.local&&px.line==px.line)=true:=by simp[hx]
 have Am:(env.kindOf y==some NameKind.local&&py.line==px.line)=true:=by simp[hy,hl]
 have hp:Expr.pos (.Name x px)=px:=rfl;unfold swappedStores;simp only[List.length_cons,List.length_nil,Ng,List.head?_cons,Option.map_some,Option.getD_some,hp,List.filterMap_cons,List.filterMap_nil,pD,Am,if_true,hd,h1,h2];rw[aC (by decide),aC ?_]
 ·rfl
 ·simp only[List.any_cons,List.any_nil,Bool.or_false,Bool.or_eq_true,not_or];constructor
  ·cases a<;>first|(intro h;cases h;done)|cases ha
  ·cases b<;>first|(intro h;cases h;done)|cases hb
theorem RS{X:Cx}{Ξ:iT}{P:fY}(hP:j6 P){i j:Nat}{x y:Str}{a b:Expr}{px py pt pz pos:Pos}{kt k2:Nat}{ie:ME}(hc:X.calm=true)(hN:X.N.Nodup)(hi:X.N[i]?=some x)(hj:X.N[j]?=some y)(ft:x≠y)(hl:py.line=px.line)(hx:X.env.scope.names.lookup x=some .local)(hy:X.env.scope.names.lookup y=some .local)(oa:gw a=true)(ob:gw b=true)(h1:[a,b].all (foldedForSure 8)=false)(h2:[a,b].all (constantsAlone 8)=false)(ha:PA X [a,b] (LA X.K Ξ (gk P ie))):PS X (.Assign [.Tuple [.Name x px,.Name y py] kt pt] (.Tuple [a,b] k2 pz) pos) (LS X.K Ξ (wpS P (.lZ (.many [i,j]) (.prim .tup ie)))):=by
 intro pins s cu H D I h;have hX:i≠j:=by
  rintro rfl;rw[hi] at hj;cases hj;exact ft rfl
 refine Ra hc hN hi hj hX hx hy ha (Zv I.ok.kind hx hy ft hl oa ob h1 h2) rfl pins s cu H D I ?_;obtain⟨σ,g,ρ,sr,R,h⟩:=h;refine kS hP sr R (.refl _ _) (show gk P ie σ g (λxs g1=>cS .tup xs g1 _) _ from h) λds g1 bZ H1 vs e1 R1 r1 h=>?_;obtain⟨d',g',⟨_,rfl,rfl⟩,l,cF,ex,hs,h⟩:=h;cases ex;have hl:=Y8 hs;have e2:∃d1 d2,ds=[d1,d2]:=by
  rcases ds with _|⟨d1,_|⟨d2,_|⟨d3,r⟩⟩⟩<;>first|exact⟨_,_,rfl⟩|(simp at hl;done)|(simp at hl;omega)
 obtain⟨d1,d2,rfl⟩:=e2;obtain⟨v,w,rfl,q1,q2⟩:=r1.two;cases hs;exact⟨_,_,rfl,h bZ H1 _ e1 R1 (((sr.ext e1).set i q1).set j q2)⟩
end M

namespace M
open PySem L2 PySem.Spec PyProof.Rows
section
variable{X:Cx}{c:i0}{P:fY}{Ξ:iT}{r:CF}(S:qf P r)(C:iV X c P Ξ){a b d e:Expr}{m:ME}{pos:Pos}
include C
theorem Qu{x:Str}(h:DT c x=some m):PE X (.Name x pos) (LE X.K Ξ (bg P m)):=by
 unfold DT at h;split at h
 ·rename_i jb;obtain⟨d1,d2,d3⟩:=M1 jb;split at h
  ·rename_i hv;obtain⟨i,hi,rfl⟩:=ae.mp h;exact Rz (C.tP hi) (C.Po hv) d1 d2
  ·split at h
   ·rename_i hg;rcases orElse_some h with h|h
    ·obtain⟨d,hd,rfl⟩:=ae.mp h;obtain⟨v,u,hm,r,rr⟩:=C.con x d hd;exact Q5 (zd (C.A6 hg) hm r d1) rr
    ·split at h
     ·rename_i hb;obtain⟨t,ht,rfl⟩:=ae.mp h;exact Q5 (v:=.ty t) (Te (C.A6 hg) (C.blt x hb) (XM ht) rfl d3 d1) λ_ _=>.ty t
     ·cases h
   ·cases h
 ·cases h
omit C in
theorem Mg{k:Const}{j:Nat}{d:D}(h:Dw k=some d):PE X (.Constant k j pos) (LE X.K Ξ (bg P (.lit d))):=by
 cases k<;>first|(cases h;done)|skip
 ·cases h;exact Q5 QP λ_ _=>.bN
 ·cases h;exact Q5 WV λ_ _=>.bl _
 ·cases h;exact Q5 QN λ_ _=>.int _
 ·cases h;exact Q5 Jl λ_ _=>.str _
include S
theorem Vh{op:UnaryOp}(h:zE r c op a=some m):PE X (.UnaryOp op a pos) (LE X.K Ξ (bg P m)):=by
 unfold zE at h;split at h
 ·rename_i ho;subst ho;obtain⟨ma,ha,rfl⟩:=ae.mp h;exact Rx C.mono (S.e X c Ξ C _ _ ha)
 ·obtain⟨ma,ha,rfl⟩:=X7 S C h;exact OU C.mono ha
theorem KH{ops:List CmpOp}{bs:List Expr}(h:wq r c a ops bs=some m):PE X (.Compare a ops bs pos) (LE X.K Ξ (bg P m))/\PT X (.Compare a ops bs pos) (LT X.K Ξ (df P (.fT m))):=by
 unfold wq at h;split at h
 ·rename_i op b;split at h
  ·cases h
  ·rename_i hm;have hm:behindInMarks op b=false:=by simpa using hm
   rcases orElse_some h with h|h
   ·obtain⟨neg,hn,h⟩:=ag.mp h;obtain⟨kvs,hk,h⟩:=ag.mp h;obtain⟨ma,ha,rfl⟩:=ae.mp h;obtain⟨x,p,rfl,hg,hd,hk⟩:=Kf hk;have ho:op=if neg then .NotIn else .In:=by cases op<;>cases hn<;>rfl
    subst ho;exact⟨Ru C.mono (C.A6 hg) (M1 hd).1 (C.ya x kvs hk) (S.e X c Ξ C _ _ ha) hm,RJ C.mono (C.A6 hg) (M1 hd).1 (C.ya x kvs hk) (S.e X c Ξ C _ _ ha) hm⟩
   ·obtain⟨ma,mb,ha,hb,rfl⟩:=X6 S C h;exact⟨BV C.mono (JL (W3 C.units op) ha hb hm),RL C.mono (JP (W3 C.units op) ha hb hm)⟩
 ·split at h
  ·cases h
  ·rename_i hm;obtain⟨ma,ha,h⟩:=ag.mp h;obtain⟨mb,hb,h⟩:=ag.mp h;obtain⟨md,hd,rfl⟩:=ae.mp h;exact⟨a11 C.mono C.units (S.e X c Ξ C _ _ ha) (S.e X c Ξ C _ _ hb) (S.e X c Ξ C _ _ hd) (by simpa using hm),XE C.mono C.units (S.e X c Ξ C _ _ ha) (S.e X c Ξ C _ _ hb) (S.e X c Ξ C _ _ hd) (by simpa using hm)⟩
 ·cases h
theorem Ve{lo hi st:Option Expr}{p2:Pos}(h:EN r c a lo hi st=some m):PE X (.Subscript a (.Slice lo hi st p2) pos) (LE X.K Ξ (bg P m)):=by
 cases lo<;>cases hi<;>cases st<;>first|(cases h;done)|skip
 ·obtain⟨ma,ha,rfl⟩:=X7 S C h;exact a05 C.mono ha
 ·obtain⟨ma,mb,ha,hb,rfl⟩:=X6 S C h;exact a04 C.mono ha hb
 ·obtain⟨ma,mb,ha,hb,rfl⟩:=X6 S C h;exact a03 C.mono ha hb
theorem WJ(h:Dk r c a b=some m):PE X (.Subscript a b pos) (LE X.K Ξ (bg P m)):=by
 unfold Dk at h;rcases orElse_some h with h|h
 ·obtain⟨q,hq,h⟩:=ag.mp h;have eb:∃p,b=.Slice q.1 q.2.1 q.2.2 p:=by cases b<;>first|(cases hq;exact⟨_,rfl⟩)|cases hq
  obtain⟨p,rfl⟩:=eb;exact Ve S C h
 ·split at h
  ·rename_i hb;rcases orElse_some h with h|h
   ·obtain⟨kvs,hk,h⟩:=ag.mp h;obtain⟨mb,lL,rfl⟩:=ae.mp h;obtain⟨x,p,rfl,hg,hd,hk⟩:=Kf hk;exact TR C.mono (C.A6 hg) (M1 hd).1 (C.ya x kvs hk) (S.e X c Ξ C _ _ lL) (Jj hb)
   ·obtain⟨ma,mb,ha,lL,rfl⟩:=X6 S C h;exact BV C.mono (KI (Wz C.units) ha lL (Jj hb))
  ·cases h
theorem Vf{x:Str}{px:Pos}(hg:c.gl x=true)(h:zF r c x e=some m):PE X (.Call (.Name x px) [e] [] pos) (LE X.K Ξ (bg P m)):=by
 unfold zF at h;obtain⟨q,hq,h'⟩:=ag.mp h;clear h;have h:=h';clear h';obtain⟨p,pos',rfl⟩:=V4 hq;obtain⟨y,as⟩:=q;dsimp only at h ⊢;split at h
 ·rename_i hc;simp only[Bool.and_eq_true,decide_eq_true_eq] at hc;obtain⟨⟨⟨⟨rfl,rfl⟩,hl⟩,hr⟩,sX⟩:=hc;rcases as with _|⟨a,_|⟨b,_|⟨_,_⟩⟩⟩
  ·cases h
  ·dsimp only at h;split at h
   ·rename_i ho;obtain⟨ma,ha,rfl⟩:=X7 S C h;exact a10 C.mono C.calm ha (C.A6 hg) (C.blt _ hl) (C.A6 sX) (C.blt _ hr) (o8 ho)
   ·cases h
  ·dsimp only at h;split at h
   ·rename_i ho;rw[aW] at ho;obtain⟨ma,mb,ha,hb,rfl⟩:=X6 S C h;exact a09 C.mono C.calm ha hb (C.A6 hg) (C.blt _ hl) (C.A6 sX) (C.blt _ hr) (by rw[o8 ho.1,o8 ho.2];rfl) (o8 ho.2)
   ·cases h
  ·cases h
 ·split at h
  ·rename_i hc;simp only[Bool.and_eq_true,decide_eq_true_eq] at hc;obtain⟨⟨⟨⟨rfl,rfl⟩,hl⟩,hr⟩,sX⟩:=hc;rcases as with _|⟨a,_|⟨_,_⟩⟩
   ·cases h
   ·dsimp only at h;split at h
    ·rename_i ho;obtain⟨ma,ha,rfl⟩:=X7 S C h;exact Ub C.mono C.calm ha (C.A6 hg) (C.blt _ hl) (C.A6 sX) (C.blt _ hr) (o8 ho)
    ·cases h
   ·cases h
  ·split at h
   ·rename_i hc;simp only[Bool.and_eq_true,decide_eq_true_eq] at hc;obtain⟨⟨⟨⟨rfl,rfl⟩,hl⟩,hr⟩,sX⟩:=hc;rcases as with _|⟨a,_|⟨_,_⟩⟩
    ·cases h
    ·dsimp only at h;split at h
     ·rename_i ho;obtain⟨ma,ha,rfl⟩:=X7 S C h;exact TU C.mono C.calm ha (C.A6 hg) (C.blt _ hl) (C.A6 sX) (C.blt _ hr) (o8 ho)
     ·cases h
    ·cases h
   ·cases h
theorem SR{x:Str}{px:Pos}{args:List Expr}(h:Jw r c x args=some m):PE X (.Call (.Name x px) args [] pos) (LE X.K Ξ (bg P m)):=by
 cases args with
 |nil =>
  have h2:BZ c x=some m:=h;unfold BZ at h2;split at h2
  ·rename_i jb;rw[aW] at jb;obtain⟨f,hf,rfl⟩:=ae.mp h2;obtain⟨k,C',fa,fd,ps,F,hr,hm,hC,kq,M⟩:=C.cls x f hf;exact a08 C.mono C.pass F M hC kq hr (C.A6 jb.2) hm (M1 jb.1).1
  ·cases h2
 |cons e es =>
  have h0:Ca r c x e es=some m:=h;clear h;have h:=h0;clear h0;unfold Ca at h;split at h
  ·rename_i jb;rw[aW] at jb;obtain⟨d1,d2,d3⟩:=M1 jb.1;rcases orElse_some h with h|h
   ·cases es with
    |nil=>exact Vf S C jb.2 h
    |cons _ _=>cases h
   ·obtain⟨ms,pG,h⟩:=ag.mp h;have ok:=CA pG;have pa:=sQ S C pG;have fq:=o8 (env:=X.env) (es:=es) (ok e (by simp));have iC:=Y4 (pos:=pos) (env:=X.env) (es:=es) λz hz=>ok z (by simp[hz]);rcases orElse_some h with h|h
    ·obtain⟨f,hf,rfl⟩:=ae.mp h;obtain⟨k,fa,fd,ps,F,hr,hm,hk⟩:=C.fns x f hf;exact TM C.mono C.pass F hr (C.A6 jb.2) hm hk pa d1 fq iC
    ·rcases orElse_some h with h|h
     ·obtain⟨f,hf,rfl⟩:=ae.mp h;obtain⟨k,C',fa,fd,ps,F,hr,hm,hC,kq,M⟩:=C.cls x f hf;exact TV C.mono C.pass F M hC kq hr (C.A6 jb.2) hm pa d1 fq iC
     ·split at h
      ·rename_i hb;obtain⟨p,hp,rfl⟩:=ae.mp h;obtain⟨v,hv,AR,hc⟩:=XS (X:=X) C.calm hp;exact Rp C.mono hv hc (C.A6 jb.2) (C.blt x hb) AR pa d3 d1 fq iC
      ·cases h
  ·cases h
theorem SQ{o:Expr}{mt:Str}{apos:Pos}{args:List Expr}(h:Cb r c o mt apos pos args=some m):PE X (.Call (.Attribute o mt apos) args [] pos) (LE X.K Ξ (bg P m)):=by
 unfold Cb at h;split at h
 ·rename_i hc;simp only[Bool.and_eq_true,decide_eq_true_eq] at hc;obtain⟨⟨hb,hl⟩,hn⟩:=hc;obtain⟨mo,ho,h⟩:=ag.mp h;obtain⟨ms,pG,h⟩:=ag.mp h;have ok:=CA pG;have pa:=sQ S C pG;have po:=S.e X c Ξ C _ _ ho;have hf:methodCallForm args.length (backTo pos (starEach args X.env)) (backToKw pos (keywordEach [] X.env))=true:=by
   unfold methodCallForm;rw[Hz ok];have:args.length+0<30:=by omega
   show(true&&true&&decide (args.length+0<30))=true;rw[aA this]
   rfl
  by_cases vq:mt="index"
  ·subst vq;rw[aJ rfl] at h;cases h
  rw[aC vq] at h;cases args with
  |nil =>
   cases pG;by_cases h0:(za.lookup mt).isSome=true
   ·rw[aJ (by rw[h0];rfl)] at h;obtain⟨p,hp,rfl⟩:=ae.mp h;obtain⟨T,id,zW,sl,ty,Ab,hk⟩:=Zr (X:=X) hp;exact a07 C.mono zW sl ty Ab hk po (P7 hb) hl
   rw[aC (by rw[aW];exact λz=>h0 z.2)] at h;split at h
   ·cases h
   ·cases h
  |cons e es =>
   have fq:=o8 (env:=X.env) (es:=es) (ok e (by simp));have iC:=Y4 (pos:=pos) (env:=X.env) (es:=es) λz hz=>ok z (by simp[hz]);rw[aC (by simp)] at h;split at h
   ·rename_i p hp;cases h;obtain⟨T,id,zW,sl,ty,Ab,hk⟩:=Yt (X:=X) C.units hp;exact TY C.mono zW sl ty Ab hk po pa (P7 hb) hf hl fq iC
   ·cases h
 ·cases h
theorem Fw{tg:Expr}(h:wB r c tg e=some m):PI X tg e (LI X.K Ξ (iu P m)):=by
 unfold wB at h;rcases orElse_some h with h|h
 ·obtain⟨q,hq,h'⟩:=ag.mp h;rename_i h0;clear h h0;have h:=h';clear h';obtain⟨p,pos',rfl⟩:=V4 hq;obtain⟨y,as⟩:=q;dsimp only at h ⊢;split at h
  ·rename_i hy;subst hy;rcases as with _|⟨a,_|⟨_,_⟩⟩
   ·cases h
   ·dsimp only at h;split at h
    ·rename_i hc;simp only[Bool.and_eq_true] at hc;obtain⟨⟨⟨hg,hb⟩,ho⟩,ht⟩:=hc;obtain⟨ma,ha,rfl⟩:=ae.mp h;obtain⟨es,k,tp,rfl⟩:=XR ht;exact Ue C.mono (S.e X c Ξ C _ _ ha) (C.A6 hg) (C.blt _ hb) (o8 ho)
    ·cases h
   ·cases h
  ·split at h
   ·rename_i hy;subst hy;rcases as with _|⟨a,_|⟨b,_|⟨_,_⟩⟩⟩
    ·cases h
    ·dsimp only at h;split at h
     ·rename_i hc;simp only[Bool.and_eq_true] at hc;obtain⟨⟨hg,hb⟩,ho⟩:=hc;obtain⟨ma,ha,rfl⟩:=ae.mp h;exact Ug C.mono (S.e X c Ξ C _ _ ha) (C.A6 hg) (C.blt _ hb) (o8 ho)
     ·cases h
    ·dsimp only at h;split at h
     ·rename_i hc;simp only[Bool.and_eq_true] at hc;obtain⟨⟨⟨hg,hb⟩,ho⟩,nX⟩:=hc;obtain⟨ma,ha,h⟩:=ag.mp h;obtain⟨mb,lL,rfl⟩:=ae.mp h;exact Uh C.mono (S.e X c Ξ C _ _ ha) (S.e X c Ξ C _ _ lL) (C.A6 hg) (C.blt _ hb) (by rw[o8 ho,o8 nX];rfl) (o8 nX)
     ·cases h
    ·cases h
   ·cases h
 ·split at h
  ·obtain⟨ma,ha,rfl⟩:=ae.mp h;exact RD C.mono (S.e X c Ξ C _ _ ha)
  ·cases h
theorem Ct{elt:Expr}{gens:List Comprehension}{sc:Scope}(h:X8 r c elt gens sc=some m):∃tg it ifs t mi mc me cl,gens=[⟨tg,it,ifs,0⟩]/\m=.comp (c.d6 sc) (frees sc++locals sc).length t mi mc me/\gw it=true /\
  dG X sc (frees sc++locals sc) (c.d6 sc) cl/\PI X tg it (LI X.K Ξ (iu P mi))/\(∀pins A s H fp,PG (d8 X pins sc (frees sc++locals sc) cl A s H fp) tg (LG X.K t)) /\
   (∀pins A s H fp,lR (d8 X pins sc (frees sc++locals sc) cl A s H fp) ifs (LT X.K (sk Ξ.1) (df P mc)))/\(∀pins A s H fp,PE (d8 X pins sc (frees sc++locals sc) cl A s H fp) elt (LE X.K (sk Ξ.1) (bg P me))):=by
 unfold X8 at h;rcases gens with _|⟨⟨tg,it,ifs,FJ⟩,_|⟨_,_⟩⟩
 ·cases h
 ·dsimp only at h;split at h
  ·rename_i hs;simp only[Bool.and_eq_true,decide_eq_true_eq] at hs;obtain⟨⟨hs,rfl⟩,hit⟩:=hs;obtain⟨t,h1,h⟩:=ag.mp h;obtain⟨mi,h2,h⟩:=ag.mp h;obtain⟨mc,h3,h⟩:=ag.mp h;obtain⟨me,h4,rfl⟩:=ae.mp h;obtain⟨cl,Sc,I⟩:=C.comp hs;exact⟨tg,it,ifs,t,mi,mc,me,cl,rfl,rfl,hit,Sc,Fw S C h2,λpins A s H fp=>(I pins A s H fp).Hq h1,λpins A s H fp=>Vg S (I pins A s H fp) h3,λpins A s H fp=>S.e _ _ _ (I pins A s H fp) elt me h4⟩
  ·cases h
 ·cases h
omit S in
theorem Vd{f:Expr}{args:List Expr}{jC:List Keyword}(h:xi c f args jC=some m):PE X (.Call f args jC pos) (LE X.K Ξ (bg P m)):=by
 unfold xi at h;cases h
theorem Mi:∀e m,KQ r c e=some m->PE X e (LE X.K Ξ (bg P m)):=by
 intro e m h;cases e with
 |Name x p=>exact Qu C h
 |Constant k j p =>
  obtain⟨d,hd,rfl⟩:=ae.mp (show(Dw k).map ME.lit=some m from h);exact Mg hd
 |BinOp a op b p =>
  obtain⟨ma,mb,ha,hb,rfl⟩:=X6 S C h;exact BV C.mono (WY (Qx op) ha hb)
 |UnaryOp op a p=>exact Vh S C h
 |Compare a ops bs p=>exact(KH S C h).1
 |BoolOp op vs p=>exact Ml S C h
 |IfExp t a b p =>
  obtain⟨mt,ht,h⟩:=ag.mp h;obtain⟨ma,ha,h⟩:=ag.mp h;obtain⟨mb,hb,rfl⟩:=ae.mp h;exact Rv C.mono (S.t X c Ξ C _ _ ht) (S.e X c Ξ C _ _ ha) (S.e X c Ξ C _ _ hb)
 |Tuple es k p =>
  obtain⟨ma,ha,rfl⟩:=ae.mp h;exact Ry C.mono (sQ S C ha)
 |List es p =>
  obtain⟨ma,ha,rfl⟩:=ae.mp h;exact Rw C.mono (sQ S C ha)
 |Subscript a b p=>exact WJ S C h
 |Dict ks vs p =>
  have h2:(if ks.isEmpty&&vs.isEmpty then some (ME.prim .V2 .nil) else if decide (ks.length<=15) then(wA r c ks vs).map .pT else none)=some m:=h;split at h2
  ·rename_i hc;cases ks<;>cases vs<;>first|(cases hc;done)|skip
   cases h2;exact TN
  ·rename_i hc;split at h2
   ·rename_i hl;obtain⟨ms,hm,rfl⟩:=ae.mp h2;obtain⟨iF,D⟩:=Mj S C hm;refine Rq C.mono D (λz=>hc ?_) (bh hl);have:=D.len.2;subst z;cases vs<;>first|rfl|cases this
   ·cases h2
 |JoinedStr vs p =>
  have h2:(if decide (2<=vs.length)&&decide (vs.length<=40) then(tU r c vs).map (ME.prim .my) else none)=some m:=h;split at h2
  ·rename_i hc;simp only[Bool.and_eq_true,decide_eq_true_eq] at hc;obtain⟨ms,hm,rfl⟩:=ae.mp h2;obtain⟨ts,F⟩:=Mh S C hm;rcases vs with _|⟨v1,_|⟨v2,vs⟩⟩
   ·simp at hc
   ·simp at hc
   ·exact TQ C.mono F hc.2
  ·cases h2
 |Attribute o f p =>
  have h2:(if yN o then c1 r c (.fld f) o else none)=some m:=h;split at h2
  ·rename_i hb;obtain⟨ma,ha,rfl⟩:=X7 S C h2;exact Rt C.mono ha (P7 hb)
  ·cases h2
 |Call f args jC pos =>
  have h1:((zG r c f args jC).orElse λ_=>(xi c f args jC).orElse λ_=>DS r c f args jC pos)=some m:=h;rcases orElse_some h1 with h2|h2
  ·unfold zG at h2;rcases args with _|⟨a,_|⟨_,_⟩⟩
   ·cases h2
   ·dsimp only at h2;split at h2
    ·rename_i hk;simp only[Bool.and_eq_true,decide_eq_true_eq] at hk;obtain⟨⟨⟨hk,hf⟩,nA⟩,hb⟩:=hk;cases jC<;>first|(cases hk;done)|skip
     obtain⟨q,hq,h3⟩:=ag.mp h2;obtain⟨m1,h4,h5⟩:=ag.mp h3;cases f<;>first|(cases hf;done)|skip
     cases a<;>first|(cases hq;done)|skip
     cases hf;cases hq;obtain⟨tg,it,ifs,t,mi,mc,me,cl,eg,rfl,hit,Sc,q1,q2,q3,q4⟩:=Ct S C h4;dsimp only at eg;subst eg;cases h5;exact a06 C.mono Sc C.calm q1 q2 q3 q4 (Z1 hit) (C.A6 nA) (C.blt _ hb)
    ·cases h2
   ·cases h2
  clear h h1;rcases orElse_some h2 with h3|h3
  ·exact Vd C h3
  clear h2;unfold DS at h3;split at h3
  ·rename_i hk;cases jC<;>first|(cases hk;done)|skip
   cases f with
   |Name x p=>exact SR S C h3
   |Attribute o a p=>exact SQ S C h3
   |_=>cases h3
  ·cases h3
 |Set es k p =>
  have h2:Dj c es k=some m:=h;unfold Dj at h2;split at h2
  ·rename_i hc;rw[aW] at hc;obtain rfl:=bh hc.2;split at h2
   ·cases h2;exact Ua C.mono (C.code hc.1)
   ·cases h2
  ·cases h2
 |ListComp elt gens sc p =>
  obtain⟨tg,it,ifs,t,mi,mc,me,cl,rfl,rfl,hit,Sc,q1,q2,q3,q4⟩:=Ct S C h;exact(JM Sc C.calm q1 q2 q3 q4 (Z1 hit)).imp λσ H Q h=>Kd C.mono σ H Q h
 |_=>cases h
theorem Me:∀e m,stepT r c e=some m->PT X e (LT X.K Ξ (df P m)):=by
 intro e m h;have plain:∀{e:Expr} {m:ME},(if Dd e then(r.e c e).map ME.fT else none)=some m->PT X e (LT X.K Ξ (df P m)):=λ{e m} h=>by
  split at h
  ·rename_i hp;obtain⟨ma,ha,rfl⟩:=ae.mp h;exact RN C.mono (S.e X c Ξ C _ _ ha) (YJ hp)
  ·cases h
 cases e with
 |UnaryOp op a p =>
  have h2:(if op=.Not then(r.t c a).map ME.fe else none)=some m:=h;split at h2
  ·rename_i ho;subst ho;obtain⟨ma,ha,rfl⟩:=ae.mp h2;exact RK C.mono (S.t X c Ξ C _ _ ha)
  ·cases h2
 |BoolOp op vs p=>exact(Md S C h).pt
 |Compare a ops bs p =>
  obtain⟨ma,ha,rfl⟩:=ae.mp (show(wq r c a ops bs).map ME.fT=some m from h);exact(KH S C ha).2
 |_=>exact plain h
end
end M

namespace M
open PySem L2 PySem.Spec PyProof.Rows
section
variable{X:Cx}{c:i0}{P:fY}{Ξ:iT}
theorem ZO{e f:Option Expr}{q:Str×Expr×List Expr}(h:Ce e f=some q):f=none/\∃p p',e=some (.Call (.Name q.1 p) (q.2.1::q.2.2) [] p'):=by
 unfold Ce at h;cases f with
 |some _=>cases h
 |none =>
  obtain⟨t,rfl,h⟩:=ag.mp (show e.bind _=some q from h);obtain⟨z,hz,h⟩:=ag.mp h;obtain⟨p,p',rfl⟩:=V4 hz;obtain⟨x,as⟩:=z;cases as with
  |nil=>cases h
  |cons a as=>cases h;exact⟨rfl,_,_,rfl⟩
theorem YA{es:List Expr}{e:Expr}(h:c.yy es e=true):∃x px y py a b k p,es=[.Name x px,.Name y py]/\e=.Tuple [a,b] k p/\c.Es x px y py a b=true:=by
 rcases es with _|⟨s,_|⟨t,_|⟨_,_⟩⟩⟩
 ·cases h
 ·cases h
 ·cases s<;>first|(cases h;done)|skip
  cases t<;>first|(cases h;done)|skip
  cases e<;>first|(cases h;done)|skip
  rename_i l _ _;rcases l with _|⟨a,_|⟨b,_|⟨_,_⟩⟩⟩
  ·cases h
  ·cases h
  ·exact⟨_,_,_,_,_,_,_,_,rfl,rfl,h⟩
  ·cases h
 ·cases h
theorem SD(C:iV X c P Ξ){f:Str}:DU X.K f (c.zl f):=λy C' h hC=>by
 unfold i0.zl at h;obtain⟨⟨f',y'⟩,h1,h2⟩:=aT.mp h;obtain⟨h3,h4⟩:=bJ.mp h1;cases h2;have:f'=f:=by simpa using h4
 subst this;exact C.oN f' y' C' h3 hC
variable{r:CF}(S:qf P r)(C:iV X c P Ξ){pos:Pos}
include S C
theorem WI{tg e:Expr}{m:MS}(hS:∀e m,r.e c e=some m->x4 e=false->∃elt gens sc p,e=.ListComp elt gens sc p/\∃r',qf P r'/\X8 r' c elt gens sc=some m)(hT:∀a b k p m,r.e c (.Tuple [a,b] k p)=some m->∃r' ms,qf P r'/\J1 r' c [a,b]=some ms/\m=.prim .tup ms)(h:Hj r c tg e=some m):PS X (.Assign [tg] e pos) (LS X.K Ξ (wpS P m)):=by
 cases tg with
 |Name x px =>
  have h2:(if c.C2 x then(c.idx x).bind λi=>(r.e c e).map λm=>MS.set i m else none)=some m:=h;split at h2
  ·rename_i hl;obtain⟨i,hi,h2⟩:=ag.mp h2;obtain⟨me,he,rfl⟩:=ae.mp h2;cases hn:x4 e with
   |true=>exact Jt C.mono (Jo C.sP (C.tP hi) (C.C2 hl).1 (S.e X c Ξ C _ _ he) (S5 hn) (C.C2 hl).2)
   |false =>
    obtain⟨elt,gens,sc,p,rfl,r',S',hx⟩:=hS e me he hn;obtain⟨tg,it,ifs,t,mi,mc,me,cl,rfl,rfl,hit,Sc,q1,q2,q3,q4⟩:=Ct S' C hx;refine Jt C.mono ?_;exact(ZZ Sc C.calm q1 q2 q3 q4 (Z1 hit) C.sP (C.tP hi) (C.C2 hl).1 (C.C2 hl).2).imp λN σ H h=>Kd C.mono σ H _ h
  ·cases h2
 |Tuple es k pt =>
  have h0:((DW es).elim (if(tZ e&&x4 e)||c.yy es e then(c.slots es).bind λis=>(r.e c e).map λm=>MS.lZ (.many is) m else none) λq=>if x4 e&&gw q.2.1&&gw q.2.2.2 then(r.e c q.1).bind λm1=>(r.e c q.2.1).bind λn1=>(r.e c q.2.2.1).bind λm2=>(r.e c q.2.2.2).bind λn2=>(r.e c e).map λm=>MS.xo m1 n1 m2 n2 m else none)=some m:=h;cases hq:DW es with
  |some q =>
   rw[hq] at h0;dsimp only[Option.elim] at h0;split at h0
   ·cases hq
   ·cases h0
  |none =>
  rw[hq] at h0;have h2:(if(tZ e&&x4 e)||c.yy es e then(c.slots es).bind λis=>(r.e c e).map λm=>MS.lZ (.many is) m else none)=some m:=h0;split at h2
  ·rename_i hn;rw[cU,aW] at hn;obtain⟨is,hs,h2⟩:=ag.mp h2;obtain⟨me,he,rfl⟩:=ae.mp h2;rcases hn with hn|hn
   ·exact RU C.mono (Jn (S.e X c Ξ C _ _ he) (JV C.calm C.sP (C.slots hs)) (II hn.2) (a39 hn.1))
   ·obtain⟨x,px,y,py,a,b,k2,pz,rfl,rfl,hk⟩:=YA hn
    ·unfold i0.Es at hk;simp only[Bool.and_eq_true,decide_eq_true_eq,Bool.not_eq_true'] at hk;obtain⟨⟨⟨⟨⟨⟨⟨l1,l2⟩,ft⟩,hl⟩,oa⟩,ob⟩,f1⟩,f2⟩:=hk;obtain⟨r',ms,S',pG,rfl⟩:=hT _ _ _ _ _ he;have so:=C.slots hs;cases so with
     |cons hi _ _ so =>
     cases so with
     |cons hj _ _ so =>
     cases so;exact RS C.mono C.calm C.sP hi hj ft hl (C.loc x l1) (C.loc y l2) oa ob f1 f2 (sQ S' C pG)
  ·cases h2
 |Subscript o i pt =>
  have h2:(if gw i&&x4 e then(r.e c o).bind λmo=>(r.e c i).bind λmi=>(r.e c e).map λm=>MS.eW mo mi m else none)=some m:=h;split at h2
  ·rename_i hn;rw[aW] at hn;obtain⟨mo,ho,h2⟩:=ag.mp h2;obtain⟨mi,hi,h2⟩:=ag.mp h2;obtain⟨me,he,rfl⟩:=ae.mp h2;exact XG C.mono C.units (S.e X c Ξ C _ _ he) (S.e X c Ξ C _ _ ho) (S.e X c Ξ C _ _ hi) (II hn.2) (SV hn.1)
  ·cases h2
 |Attribute o f pt =>
  have h2:(if x4 e then(r.e c o).bind λmo=>(r.e c e).map λm=>MS.iw f (c.zl f) mo m else none)=some m:=h;split at h2
  ·rename_i hn;obtain⟨mo,ho,h2⟩:=ag.mp h2;obtain⟨me,he,rfl⟩:=ae.mp h2;exact Up C.mono (SD C) (S.e X c Ξ C _ _ ho) (S.e X c Ξ C _ _ he) (S5 hn)
  ·cases h2
 |_=>cases h
theorem Mf(hS:∀e m,r.e c e=some m->x4 e=false->∃elt gens sc p,e=.ListComp elt gens sc p/\∃r',qf P r'/\X8 r' c elt gens sc=some m)(hT:∀a b k p m,r.e c (.Tuple [a,b] k p)=some m->∃r' ms,qf P r'/\J1 r' c [a,b]=some ms/\m=.prim .tup ms) :
  ∀st m,KR r c st=some m->PS X st (LS X.K Ξ (wpS P m)):=by
 intro st m h;have hP:=C.mono;cases st with
 |Expr e p =>
  have h2:(if x4 e then(r.e c e).map MS.expr else none)=some m:=h;split at h2
  ·rename_i hn;obtain⟨me,he,rfl⟩:=ae.mp h2;exact Uo hP (S.e X c Ξ C _ _ he) (S5 hn)
  ·cases h2
 |Assign zP e p =>
  rcases zP with _|⟨tg,_|⟨_,_⟩⟩
  ·cases h
  ·exact WI S C hS hT h
  ·cases h
 |If t a b p =>
  obtain⟨mt,ht,h⟩:=ag.mp h;obtain⟨ma,ha,h⟩:=ag.mp h;obtain⟨mb,hb,rfl⟩:=ae.mp h;exact OY hP (S.t X c Ξ C _ _ ht) (zp S C ha) (zp S C hb)
 |For tg it body yd p =>
  have h2:(if c.oK&&(yd.isEmpty&&gw it) then(c.tg tg).bind λt=>(wB r c tg it).bind λmi=>(B1 r c body).map λmb=>MS.dX t mi mb else none)=some m:=h;split at h2
  ·rename_i hc;rw[aW,aW] at hc;cases yd<;>first|(cases hc.2.1;done)|skip
   obtain⟨t,h1,h2⟩:=ag.mp h2;obtain⟨mi,h3,h2⟩:=ag.mp h2;obtain⟨mb,h4,rfl⟩:=ae.mp h2;exact RQ hP (C.own hc.1) C.calm (Fw S C h3) (C.Hq h1) (zp S C h4) (Z1 hc.2.2)
  ·cases h2
 |Return e p =>
  cases e with
  |none=>cases h;exact(Ts (X:=X)).imp λN cu H ⟨σ,g,ρ,s,R,h⟩=>LQ.now h R .bN
  |some e =>
   obtain⟨me,he,rfl⟩:=ae.mp (show(r.e c e).map (λm=>MS.ret (toR c e m))=some m from h);refine RT hP ?_;exact S.e X c Ξ C _ _ he
 |Raise e f p =>
  obtain⟨q,hq,h2⟩:=ag.mp h;clear h;obtain⟨rfl,px,p2,rfl⟩:=ZO hq;obtain⟨x,e,es⟩:=q;dsimp only at h2 ⊢;split at h2
  ·rename_i hc;simp only[Bool.and_eq_true] at hc;obtain⟨ma,ha,rfl⟩:=ae.mp h2;have ok:=CA ha;obtain⟨C',hm,hi,B,nI,iI,bm,O,FB⟩:=C.exc x hc.1.1.2;exact XF hP C.calm O FB (C.A6 hc.1.2) (sQ S C ha) (C.mj hc.1.1.1) (by rw[C.GG];simpa using hc.1.1.2) hi (o8 (ok e (by simp))) (Y4 λz hz=>ok z (by simp[hz])) (M1 hc.2).1
  ·cases h2
 |Pass p=>cases h;exact(Tr (X:=X)).imp λN cu H ⟨σ,g,ρ,s,R,h⟩=>h ρ H cu (.refl _ _) R s
 |_=>cases h
end
theorem ZS{n:Nat}{c:i0}{e:Expr}{m:ME}(h:(comp (n+1)).e c e=some m)(hn:x4 e=false):∃elt gens sc p,e=.ListComp elt gens sc p/\X8 (comp n) c elt gens sc=some m:=by
 cases e<;>first|(cases hn;done)|(cases h;done)|exact⟨_,_,_,_,rfl,h⟩
theorem snd{P:fY}:∀n,(∀k,k<=n->qf P (comp k)):=by
 intro n
 induction n with
 |zero =>
  intro k hk;obtain rfl:=Nat.le_zero.mp hk;exact⟨λ_ _ _ _ _ _ h=>(by cases h),λ_ _ _ _ _ _ h=>(by cases h),λ_ _ _ _ _ _ h=>(by cases h)⟩
 |succ n ih =>
  intro k hk;rcases iK k (n+1) with eA|jE
  ·exact ih k (by omega)
  obtain rfl:k=n+1:=by omega
  have I:=ih n (av n);refine⟨λX c Ξ C e m h=>Mi I C e m h,λX c Ξ C e m h=>Me I C e m h,λX c Ξ C st m h=>?_⟩;rcases orElse_some h with h|h
  rotate_left
  ·cases h;exact λpins s σ H D I q=>by obtain⟨_,_,_,_,_,z⟩:=q;exact(show False from z).elim
  refine Mf I C (λe m he hn=>?_) (λa b k p m he=>?_) st m h
  ·cases n with
   |zero=>cases he
   |succ n =>
    obtain⟨elt,gens,sc,p,rfl,hx⟩:=ZS he hn;exact⟨_,_,_,_,rfl,comp n,ih n (by omega),hx⟩
  ·cases n with
   |zero=>cases he
   |succ n =>
    obtain⟨ms,hm,rfl⟩:=ae.mp (show(J1 (comp n) c [a,b]).map (ME.prim .tup)=some m from he);exact⟨comp n,ms,ih n (by omega),hm,rfl⟩
end M

namespace M
open PySem L2 PySem.Spec PyProof.Rows
structure oZ where
 nm:Str
 qn:Str
 N:List Str
 ps:List Str
 st:Stmt
def i0.at(c:i0)(d:oZ):i0:={ c with N:=d.N,nm:=(p6 d.st).names,oK:=true,mj:=true,ot:=true }
structure jU(K:PySem.W.Frag)(c:i0)(d:oZ)(m:bq)(f:Addr)(fd:FuncData):Prop where
 fn:qg K d.nm d.qn d.st f fd
 bi:Binds K fd d.ps []
 sc:jd d.N d.ps (p6 d.st)
 co:B1 (comp 60) (c.at d) (p9 d.st)=some m.body
 ar:m.ar=d.ps.length
 nn:m.n=d.N.length
structure nN(w:World)(K:PySem.W.Frag)(mg:Str->Option Value)(c:i0)(T:Nat->Option bq):Prop where
 fns:∀x i,c.fns.lookup x=some i->∃d m f fd,T i=some m/\jU K c d m f fd/\mg x=some (.ref f)
 cls:∀x i,c.cls.lookup x=some i->∃C d m f fd,T i=some m/\jU K c d m f fd/\mg x=some (.ref C)/\v8 K x C/\ku K C/\Mk K C f
 qN:∀x y i C,(x,y,i)∈c.qN->v8 K y C->∃d m f fd,T i=some m/\jU K c d m f fd/\Meth K C x f
 oN:∀f y C,(f,y)∈c.oN->v8 K y C->B3 K C f
 con:∀x d,c.con.lookup x=some d->∃v u,mg x=some u/\RelV v u/\∀ρ H,f6 K ρ H d v
 blt:∀x,c.blt.contains x=true->mg x=none
 Bz:∀x,c.exc.contains x=true->∃C,mg x=some (.ref C)/\v8 K x C/\∀base:Heap,K.In base->base.Ns mainGlobals mg->∃B newId gP bm,OwnCls x C bm newId mg base/\ExcBaseFacts B newId gP bm
 By:∀x y C C',c.exc.contains x=true->c.exc.contains y=true->v8 K x C->v8 K y C'->PySem.W.exmOne K (.ref C) (.ref C')=some (decide (x=y\/y="MintError"))
 rG:∀x kvs,c.gd.lookup x=some kvs->∃A vs,mg x=some (.ref A)/\wy K w.params A vs/\pV K kvs vs
section
variable{Pg:Program}{w:World}{K:PySem.W.Frag}{mg:Str->Option Value}{base:Heap}{c:i0}{T:Nat->Option bq}
theorem Qb{K:PySem.W.Frag}{cd:Value}{q:Str}(h:PySem.W.codeIn K cd q=true):PySem.W.kdsCode K cd=true:=by
 unfold PySem.W.codeIn at h;unfold PySem.W.kdsCode;split at h
 ·dsimp only;split at h
  ·rename_i e;rw[e]
  ·cases h
 ·cases h
theorem Td{N:List Str}{qual:Str}{scope:Scope}{f:Addr}{cd:Value}{A:Around}{outer:List Env}{s:Shared}{H:Hp}{E:XK}:Passes (jG Pg w) (oX (jG Pg w) Pg w K mg base N qual scope f cd A outer s H E) E:=λpins σ H1 s1 e s' I h=>by
 obtain⟨C,H',J,fl,hE⟩:=I.flew h;exact aB1 J fl (λb o q=>I.base.there b o q (by intro z;cases z)) rfl rfl rfl hE
theorem a16{N:List Str}{qual:Str}{scope:Scope}{f:Addr}{cd:Value}{A:Around}{outer:List Env}{s:Shared}{H:Hp}{E:XK}:yR (oX (jG Pg w) Pg w K mg base N qual scope f cd A outer s H E) E:=λpins σ H1 s1 h' ea C vs I hm hE =>
 Zm I hm rfl rfl rfl hE
theorem SE{N:List Str}{qual:Str}{scope:Scope}{f:Addr}{cd:Value}{A:Around}{outer:List Env}{s:Shared}{H:Hp}{E:XK}:Ja (oX (jG Pg w) Pg w K mg base N qual scope f cd A outer s H E) E:=λpins σ H1 H2 s1 s2 B ea C a0 I l hh hE =>
 leave_held I l hh rfl rfl rfl hE
theorem Ci{k i:Nat}{m:bq}(hT:T i=some m){ds:List D}{g:G}{Q:KD}{E:KX}(h:d0 T k i ds g Q E):ds.length=m.ar:=by
 cases k with
 |zero=>exact h.elim
 |succ k =>
  obtain⟨m',e,h,_⟩:=h;rw[hT] at e;cases e;exact h
theorem Pu(nW:K.In base)(vO:base.Ns mainGlobals mg)(A:nN w K mg c T):∀(k i:Nat) d m f fd,T i=some m->jU K c d m f fd->iU Pg w K mg base (jG Pg w) (2*k) f fd d.ps (pq c.exc K d.ps.length (d0 T k i)):=by
 intro k
 induction k with
 |zero =>
  intro i d m f fd hm O;refine⟨λvs H Q E h=>h.1,λA outer s H args us vs Q E _ _ _ _ h=>?_⟩;obtain⟨_,_,_,_,_,_,q⟩:=h;exact q.elim
 |succ k ih =>
  intro i d m f fd hm O;obtain⟨oc,od,kV,doc,pm,an,fW,ct,mL,rfl,lk,mq⟩:=O.fn.ex;refine Wo (k:=2*k+1) lk mq O.sc (λvs H Q E h=>h.1) (λA0 outer s H vs Q E hr h=>?_);obtain⟨hl,xs,g,ρ,rs,R,q⟩:=h;have C:iV (oX (jG Pg w) Pg w K mg base d.N d.qn (p6 d.st) f fW A0 outer s H E) (c.at d) (d0 T k) (c.exc,E):=by
   refine⟨rfl,O.sc.nd,λx h=>h,λx h=>h,λx h=>.inr h,λx h=>h,λx h=>?_,λ_ _=>rfl,rfl,?_,(λ_=>PassesOwn.leaving),b0 T k,A.con,A.blt,λx j hj=>?_,λx j hj=>?_,λx y j C' hj hC=>?_,A.oN,rfl,Td,λ_=>a16,λ_=>⟨rfl,rfl,SE⟩,λx hx=>?_,A.By,A.rG,λ_=>Qb mq⟩
   ·rcases h with h|h
    ·exact Cz h
    ·exact absurd rfl (O.sc.ni _ (aQ h))
   ·have:=hr.un;show(A0.deeper _).units+100<cLine;omega
   ·obtain⟨d',m',f',pS,hT,O',hmg⟩:=A.fns x j hj;exact⟨2*k,f',pS,d'.ps,⟨ih j d' m' f' pS hT O',O'.bi,λGS g' Q' E' h'=>(Ci hT h').trans O'.ar⟩,hr.mono (by omega),hmg,O'.fn.kp⟩
   ·obtain⟨C',d',m',f',pS,hT,O',hmg,hC,kq,M⟩:=A.cls x j hj;exact⟨2*k,C',f',pS,d'.ps,⟨ih j d' m' f' pS hT O',O'.bi,λGS g' Q' E' h'=>(Ci hT h').trans O'.ar⟩,hr,hmg,hC,kq,M⟩
   ·obtain⟨d',m',f',pS,hT,O',M⟩:=A.qN x y j C' hj hC;exact⟨2*k,f',pS,d'.ps,M,⟨ih j d' m' f' pS hT O',O'.bi,λGS g' Q' E' h'=>(Ci hT h').trans O'.ar⟩,hr.mono (by omega)⟩
   ·obtain⟨C,h1,h2,h3⟩:=A.Bz x hx;exact⟨C,h1,h2,h3 base nW vO⟩
  refine⟨_,zp (snd (P:=d0 T k) 60 60 (av _)) C O.co,?_⟩;obtain⟨m',e,q1,q⟩:=q;rw[hm] at e;cases e;refine⟨d4 m xs,g,ρ,?_,R,wpS_mono (b0 T k) m.body ⟨λ_ g'=>LQ K ρ H Q .bN g',LQ K ρ H Q,λ_ _=>False,λ_ _=>False⟩ _ _ _ _ _ ⟨λσ g' h bQ H' dH e R' s'=>h bQ H' _ e R' .bN,λd g' h=>h,λ_ _ h=>h.elim,λ_ _ h=>h.elim⟩ (λ_ _ z=>z) q⟩;have:=q8.start (n:=d.N.length) rs;unfold d4 L2.start;rw[O.nn];exact this
theorem Qh{L k0:Nat}{H:Hp}{a:Addr}{ns:List Int}(hO:zj H)(hS:gp K H a (ns.map V.int))(h:d0 T k0 L [.ref 0] [.oJ (ns.map .int)] (λd _=>d=.bl true) jS) :
  pq exc K 1 (d0 T k0 L) [.ref a] H (λv _=>v=.bl true) λ_ _ _=>False:=by
 refine⟨rfl,[.ref 0],[.oJ (ns.map .int)],[a],.cons (.ref rfl) .nil,⟨rfl,λi o b h1 h2=>?_,λi j l m b h1 h2 m1=>?_⟩,b0 T k0 _ _ _ _ _ _ _ (λd g' e bQ H' v _ _ r=>?_) (λ_ _ z=>z.elim) h⟩
 ·cases i with
  |zero =>
   cases h1;cases h2;refine⟨_,?_,b9.ofInts ns⟩;rcases hS with(z|⟨o,z⟩)|z
   ·rcases hO a with q|⟨o,xs,q⟩
    ·rw[z] at q;cases q
    ·rw[z] at q;cases q
   ·exact .inl ⟨o,z⟩
   ·exact .inr z
  |succ i=>simp at h1
 ·cases i with
  |zero=>cases h1;cases m1
  |succ i=>simp at h1
 ·subst e;cases r
  rfl
end
end M

namespace M
open PySem L2
section
variable{P:fY}{σ:S}{g:G}{Q:KD}{E:KX}{N:Ends}{a b c o:ME}{x y:MS}{p:Pr}
theorem E5(h:N.nx σ g):wpS P .pass N σ g E:=h
theorem wF(h:wpS P x ⟨λjY g1=>wpS P y N jY g1 E,N.rt,N.bk,N.ct⟩ σ g E):wpS P (.seq x y) N σ g E:=h
theorem Q1(h:wpS P x N σ g E):wpS P (.seq x .pass) N σ g E:=h
theorem Sg(h:bg P a σ g (λ_ g1=>N.nx σ g1) E):wpS P (.expr a) N σ g E:=h
theorem yC{i:Nat}(h:bg P a σ g (λx g1=>N.nx (σ.set i (some x)) g1) E):wpS P (.set i a) N σ g E:=h
theorem Pq{t:MT}(h:bg P a σ g (λx g1=>jZ t x σ λjY=>N.nx jY g1) E):wpS P (.lZ t a) N σ g E:=h
theorem JY{o i:ME}(h:bg P a σ g (λx g1=>bg P o σ g1 (λy g2=>bg P i σ g2 (λz g3=>Y7 y z x g3 λg4=>N.nx σ g4) E) E) E):wpS P (.eW o i a) N σ g E:=h
theorem Sl{f:Str}{cs:List Str}(h:bg P a σ g (λx g1=>bg P o σ g1 (λy g2=>wD f cs y x g2 λg3=>N.nx σ g3) E) E):wpS P (.iw f cs o a) N σ g E:=h
theorem DN(h:df P c σ g (λt g1=>if t=true then wpS P x N σ g1 E else wpS P y N σ g1 E) E):wpS P (.ifs c x y) N σ g E:=h
theorem DO(h:bg P a σ g N.rt E):wpS P (.ret a) N σ g E:=h
theorem Us{x:Str}(h:gk P a σ g (λvs g1=>vs.length<=1000/\E ⟨x⟩ g1) E):wpS P (.raise x a) N σ g E:=h
theorem w_var{i:Nat}{d:D}(e:σ[i]?=some (some d))(h:Q d g):bg P (.var i) σ g Q E:=by exact⟨d,e,h⟩
theorem w_lit{d:D}(h:Q d g):bg P (.lit d) σ g Q E:=h
theorem Sk(h:gk P a σ g (λxs g1=>cS p xs g1 Q) E):bg P (.prim p a) σ g Q E:=h
theorem VT(h:cS p [] g Q):bg P (.prim p .nil) σ g Q E:=by exact h
theorem wm(h:bg P a σ g (λx g1=>cS p [x] g1 Q) E):bg P (.prim p (.cons a .nil)) σ g Q E:=by exact h
theorem wo(h:bg P a σ g (λx g1=>bg P b σ g1 (λy g2=>cS p [x,y] g2 Q) E) E):bg P (.prim p (.cons a (.cons b .nil))) σ g Q E:=by exact h
theorem Ur{o1 o2:CmpOp}(h:bg P a σ g (λx g1=>bg P b σ g1 (λy g2=>cS (.cmp o1) [x,y] g2 λz g3=>∃t,z=.bl t/\if t=true then bg P c σ g3 (λw g4=>cS (.cmp o2) [y,w] g4 Q) E else Q (.bl false) g3) E) E):bg P (.chain o1 o2 a b c) σ g Q E:=h
theorem w_and(h:bg P a σ g (λx g1=>∃t,x=.bl t/\if t=true then bg P b σ g1 Q E else Q (.bl false) g1) E):bg P (.dS a b) σ g Q E:=h
theorem w_or(h:bg P a σ g (λx g1=>∃t,x=.bl t/\if t=true then Q (.bl true) g1 else bg P b σ g1 Q E) E):bg P (.ke a b) σ g Q E:=h
theorem w_not(h:bg P a σ g (λx g1=>∃t,x=.bl t/\Q (.bl (!t)) g1) E):bg P (.fe a) σ g Q E:=h
theorem w_ite(h:df P c σ g (λt g1=>if t=true then bg P a σ g1 Q E else bg P b σ g1 Q E) E):bg P (.ite c a b) σ g Q E:=h
theorem yQ{f:Nat}(h:gk P a σ g (λxs g1=>P f xs g1 Q E) E):bg P (.call f a) σ g Q E:=h
theorem Si{f:Nat}{c:Str}(h:gk P a σ g (λxs g1=>P f (.ref g1.length::xs) (g1++[.ins c []]) (λd g2=>d=.bN/\Q (.ref g1.length) g2) E) E):bg P (.make c f a) σ g Q E:=h
theorem Sj(h:bg P o σ g (λx g1=>mM p x g1/\gk P a σ g1 (λxs g2=>cS p (x::xs) g2 Q) E) E):bg P (.ff p o a) σ g Q E:=h
theorem yB{Q:List D->G->Prop}(h:Q [] g):gk P .nil σ g Q E:=h
theorem Q2{Q:List D->G->Prop}(h:bg P a σ g (λx g1=>gk P b σ g1 (λxs g2=>Q (x::xs) g2) E) E):gk P (.cons a b) σ g Q E:=h
theorem Sn{Q:Bool->G->Prop}(h:df P a σ g (λt g1=>if t=true then df P b σ g1 Q E else Q false g1) E):df P (.dS a b) σ g Q E:=h
theorem Pp{Q:Bool->G->Prop}(h:df P a σ g (λt g1=>if t=true then Q true g1 else df P b σ g1 Q E) E):df P (.ke a b) σ g Q E:=h
theorem So{Q:Bool->G->Prop}(h:df P a σ g (λt g1=>Q (!t) g1) E):df P (.fe a) σ g Q E:=h
theorem DP{Q:Bool->G->Prop}(h:Q true g):df P .no σ g Q E:=h
theorem DQ{Q:Bool->G->Prop}(h:bg P a σ g (λx g1=>qc g1 x λb=>Q b g1) E):df P (.fT a) σ g Q E:=h
end
section
variable{g:G}{Q:KD}{i j:Int}{kb:Bool->Prop}{t s:Bool}{l m:List D}
theorem VW(h:Q (.int (i+j)) g):cS (.bin .Add) [.int i,.int j] g Q:=⟨_,_,.inl ⟨i,j,_,rfl,rfl,rfl,rfl⟩,h⟩
theorem VX(h:Q (.int (i-j)) g):cS (.bin .Sub) [.int i,.int j] g Q:=⟨_,_,.inl ⟨i,j,_,rfl,rfl,rfl,rfl⟩,h⟩
theorem P2(c:rS i j)(h:Q (.int (i*j)) g):cS (.bin .Mult) [.int i,.int j] g Q:=⟨_,_,.inl ⟨i,j,_,rfl,⟨c,rfl⟩,rfl,rfl⟩,h⟩
theorem P4(c:0<j)(h:Q (.int (i % j)) g):cS (.bin .Mod) [.int i,.int j] g Q:=⟨_,_,.inl ⟨i,j,_,rfl,⟨c,rfl⟩,rfl,rfl⟩,h⟩
theorem yk(c:Ef i j)(h:Q (.int (i / j)) g):cS (.bin .FloorDiv) [.int i,.int j] g Q:=⟨_,_,.inl ⟨i,j,_,rfl,⟨c,rfl⟩,rfl,rfl⟩,h⟩
theorem Jb(h1:0<j)(h2:j<1073741824)(h:Q (.int (i / j)) g):cS (.bin .FloorDiv) [.int i,.int j] g Q:=yk ⟨h1,h2⟩ h
theorem Dp(c:oU i j)(h:Q (.int (i ^ j.toNat)) g):cS (.bin .Pow) [.int i,.int j] g Q:=⟨_,_,.inl ⟨i,j,_,rfl,⟨c,rfl⟩,rfl,rfl⟩,h⟩
theorem Dt{i j:Nat}(hi:g[i]?=some (.lst l))(hj:g[j]?=some (.lst m))(hl:l.length+m.length<=100000)(h:Q (.ref g.length) (g++[.lst (l++m)])):cS (.bin .Add) [.ref i,.ref j] g Q:=⟨_,_,.inr (.inl ⟨rfl,.inr (.inl ⟨i,j,l,m,rfl,hi,hj,hl,rfl,rfl⟩)⟩),h⟩
theorem R8{op:CmpOp}{x y:D}{b:Bool}(hb:Ha g x y b op)(h:Q (.bl b) g):cS (.cmp op) [x,y] g Q:=⟨_,_,⟨x,y,b,rfl,hb,rfl,rfl⟩,h⟩
theorem UJ(h:Q (.bl (decide (i<j))) g):cS (.cmp .Lt) [.int i,.int j] g Q:=R8 ⟨i,j,rfl,rfl,rfl⟩ h
theorem UI(h:Q (.bl (decide (i<=j))) g):cS (.cmp .LtE) [.int i,.int j] g Q:=R8 ⟨i,j,rfl,rfl,rfl⟩ h
theorem UH(h:Q (.bl (decide (j<i))) g):cS (.cmp .Gt) [.int i,.int j] g Q:=R8 ⟨i,j,rfl,rfl,rfl⟩ h
theorem UG(h:Q (.bl (decide (j<=i))) g):cS (.cmp .GtE) [.int i,.int j] g Q:=R8 ⟨i,j,rfl,rfl,rfl⟩ h
theorem Em{x y:D}(h:tI g x y λb=>Q (.bl b) g):cS (.cmp .Eq) [x,y] g Q:=let ⟨_,hb,h⟩:=h;R8 hb h
theorem En{x y:D}(h:tI g x y λb=>Q (.bl (!b)) g):cS (.cmp .NotEq) [x,y] g Q:=let ⟨b,hb,h⟩:=h;R8 (b:=!b) (show vR g x y (!(!b)) from by rw[uk];exact hb) h
theorem wN{x y:D}(h:qQ g x y λb=>Q (.bl b) g):cS (.cmp .In) [x,y] g Q:=let ⟨_,hb,h⟩:=h;R8 (.inl hb) h
theorem Wd{a n:Nat}{S:Int->Bool}(hg:g[a]?=some (.set S n))(h:Q (.bl (S i)) g):cS (.cmp .In) [.int i,.ref a] g Q:=R8 (.inr ⟨a,S,n,i,rfl,hg,rfl,rfl⟩) h
theorem tT{x y:D}(h:qQ g x y λb=>Q (.bl (!b)) g):cS (.cmp .NotIn) [x,y] g Q:=let ⟨b,hb,h⟩:=h;R8 (b:=!b) (.inl (show inR g x y (!(!b)) from by rw[uk];exact hb)) h
theorem KJ(h:kb (decide (i=j))):tI g (.int i) (.int j) kb:=⟨_,.inl ⟨i,j,rfl,rfl,rfl⟩,h⟩
theorem Hi(h:kb (t==s)):tI g (.bl t) (.bl s) kb:=⟨_,.inr (.inl ⟨t,s,rfl,rfl,rfl⟩),h⟩
theorem OL{x y:Str}(h:kb (decide (x=y))):tI g (.str x) (.str y) kb:=⟨_,.inr (.inr (.inl ⟨x,y,rfl,rfl,rfl⟩)),h⟩
theorem Wa(h:Q (.bl (decide (i=j))) g):cS (.cmp .Eq) [.int i,.int j] g Q:=Em (KJ h)
theorem Ks(h:Q (.bl (!decide (i=j))) g):cS (.cmp .NotEq) [.int i,.int j] g Q:=En (KJ h)
theorem V'(h:Q (.bl (t==s)) g):cS (.cmp .Eq) [.bl t,.bl s] g Q:=Em (Hi h)
theorem Wk(h:Q (.bl (!(t==s))) g):cS (.cmp .NotEq) [.bl t,.bl s] g Q:=En (Hi h)
theorem Wb{p q:Str}(h:Q (.bl (decide (p=q))) g):cS (.cmp .Eq) [.str p,.str q] g Q:=Em (OL h)
theorem rV{d:D}(h:Q (.bl (M9 d)) g):cS (.cmp .Is) [d,.bN] g Q:=R8 ⟨rfl,rfl⟩ h
theorem Kr{d:D}(h:Q (.bl (!M9 d)) g):cS (.cmp .IsNot) [d,.bN] g Q:=R8 ⟨rfl,rfl⟩ h
theorem We(h:Q (.bl true) g):cS (.cmp .Is) [.bN,.bN] g Q:=rV h
theorem Wg(h:Q (.bl false) g):cS (.cmp .Is) [.int i,.bN] g Q:=rV h
theorem Wf(h:Q (.bl false) g):cS (.cmp .Is) [.bl t,.bN] g Q:=rV h
theorem Wi{x:Str}(h:Q (.bl false) g):cS (.cmp .Is) [.str x,.bN] g Q:=rV h
theorem Wj(h:Q (.bl false) g):cS (.cmp .Is) [.tup l,.bN] g Q:=rV h
theorem Wh{n:Nat}(h:Q (.bl false) g):cS (.cmp .Is) [.ref n,.bN] g Q:=rV h
theorem Wc(h:Q (.bl false) g):cS (.cmp .IsNot) [.bN,.bN] g Q:=Kr h
theorem VQ(h:kb t):qc g (.bl t) kb:=⟨t,.inr (.inl rfl),h⟩
theorem Pj(h:kb (i != 0)):qc g (.int i) kb:=⟨_,.inr (.inr (.inl ⟨i,rfl,rfl⟩)),h⟩
theorem Cg{t:Bool}{p:Bool->Prop}(h:p t):∃s,D.bl t=D.bl s/\p s:=⟨t,rfl,h⟩
theorem PV{p:Int->Prop}(h:p i):∃s,D.int i=D.int s/\p s:=⟨i,rfl,h⟩
theorem if2{c:Prop}[Decidable c]{A B:Prop}(h1:c->A)(h2:¬c->B):if decide c=true then A else B:=by
 by_cases h:c
 ·rw[aJ (aA h)];exact h1 h
 ·rw[aC (by rw[aG h];decide)];exact h2 h
theorem mO{A B:Prop}(h:A):if true=true then A else B:=by rw[aJ rfl];exact h
theorem pZ{A B:Prop}(h:B):if false=true then A else B:=by rw[aC (by decide)];exact h
theorem Hd{A B:Prop}(h:A):if(!false)=true then A else B:=by rw[aJ (show(!false)=true from rfl)];exact h
theorem UT{A B:Prop}(h:B):if(!true)=true then A else B:=by rw[aC (by decide)];exact h
theorem gI{b:Bool}{A B:Prop}(hb:b=false)(h:B):if b=true then A else B:=by rw[hb];exact pZ h
theorem js{b:Bool}{A B:Prop}(hb:b=true)(h:A):if b=true then A else B:=by rw[hb];exact mO h
theorem p8{a:Nat}{d:D}(hl:d7 g a=some l)(h2:gz l i=some d)(h:Q d g):cS .ix [.ref a,.int i] g Q:=⟨_,_,⟨rfl,.inl ⟨_,l,i,rfl,hl,h2⟩⟩,h⟩
theorem u9{d:D}(h2:gz l i=some d)(h:Q d g):cS .ix [.tup l,.int i] g Q:=⟨_,_,⟨rfl,.inl ⟨_,l,i,rfl,rfl,h2⟩⟩,h⟩
theorem UX{i:Nat}{kvs:List (Key×D)}{y v:D}{k:Key}(hg:g[i]?=some (.dg kvs))(hk:U9 y=some k)(hv:w6 kvs k=some v)(h:Q v g):cS .ix [.ref i,y] g Q:=⟨_,_,⟨rfl,.inr (.inl ⟨i,kvs,y,k,rfl,hg,hk,hv⟩)⟩,h⟩
theorem S0{a n:Nat}{v:D}{kg:G->Prop}(hl:g[a]?=some (.lst l))(hn:lJ l.length i=some n)(h:kg (g.set a (.lst (l.set n v)))):Y7 (.ref a) (.int i) v g kg:=⟨_,.inl ⟨a,i,l,n,rfl,rfl,hl,hn,rfl⟩,h⟩
theorem DI{i:Nat}{kvs:List (Key×D)}{y v:D}{k:Key}{kg:G->Prop}(hg:g[i]?=some (.dg kvs))(hk:U9 y=some k)(hl:kvs.length<100000)(h:kg (g.set i (.dg (putD kvs k v)))):Y7 (.ref i) y v g kg:=⟨_,.inr ⟨i,kvs,k,rfl,hg,hk,hl,rfl⟩,h⟩
theorem Y6{f c:Str}{cs:List Str}{a:Nat}{fs:List (Str×D)}{v:D}{kg:G->Prop}(hg:g[a]?=some (.ins c fs))(hc:c∈cs)(hl:fs.length<100)(h:kg (g.set a (.ins c (m9 f v fs)))):wD f cs (.ref a) v g kg:=⟨_,⟨a,c,fs,rfl,hg,hc,hl,rfl⟩,h⟩
theorem pX{f c:Str}{a:Nat}{fs:List (Str×D)}{d:D}(hg:g[a]?=some (.ins c fs))(hf:fs.lookup f=some d)(h:Q d g):cS (.fld f) [.ref a] g Q:=⟨_,_,⟨a,c,fs,rfl,hg,hf,rfl⟩,h⟩
theorem a9{a:Nat}(h:g[a]?=some (.lst l)):d7 g a=some l:=by simp only[d7,h,Ea]
theorem Yl{a:Nat}(h:g[a]?=some (.oJ l)):d7 g a=some l:=by simp only[d7,h,Ea]
theorem K0{a:Nat}(hl:d7 g a=some l)(h:Q (.int l.length) g):cS .len [.ref a] g Q:=⟨_,_,⟨rfl,.inl ⟨_,l,rfl,hl,rfl⟩⟩,h⟩
theorem Jr{a:Nat}(hl:d7 g a=some l)(h:Q (.ref g.length) (g++[.lst (cut l none (some i))])):cS (.nU false true) [.ref a,.int i] g Q:=⟨_,_,⟨_,i,rfl,.inr ⟨a,l,rfl,hl,rfl,rfl⟩⟩,h⟩
theorem DF(hl:l.length<=1000)(h:Q (.tup l) g):cS .tup l g Q:=⟨_,_,⟨hl,rfl,rfl⟩,h⟩
theorem DE(hl:l.length<=1000)(h:Q (.ref g.length) (g++[.lst l])):cS .lst l g Q:=⟨_,_,⟨hl,rfl,rfl⟩,h⟩
theorem yu{a:Nat}(hl:d7 g a=some l)(h:Q (.ref g.length) (g++[.lst l])):cS .list [.ref a] g Q:=⟨_,_,.inl ⟨_,l,rfl,hl,rfl,rfl⟩,h⟩
theorem KG{a:Nat}{kvs:List (Key×D)}(hg:g[a]?=some (.dg kvs))(hz:kvs.length<=10000)(h:Q (.ref g.length) (g++[.lst ((kvs.map (·.1)).map kD)])):cS .list [.ref a] g Q:=⟨_,_,.inr ⟨a,kvs,rfl,hg,hz,rfl,rfl⟩,h⟩
theorem Pm{a:Nat}(hl:d7 g a=some l)(h:Q (.tup l) g):cS .tuple [.ref a] g Q:=⟨_,_,⟨_,l,rfl,hl,rfl,rfl⟩,h⟩
theorem gM{d:D}{c:String}{b:Bool}(hc:c∈["int","bool","str","tuple","list"])(hb:rX g d c=some b)(h:Q (.bl b) g):cS .isin [d,.ty c] g Q:=⟨_,_,⟨d,c,b,rfl,hc,hb,rfl,rfl⟩,h⟩
theorem O8{i:Nat}{y:D}(hg:g[i]?=some (.lst l))(hl:l.length<100000)(h:Q .bN (g.set i (.lst (l++[y])))):cS .append [.ref i,y] g Q:=⟨_,_,⟨i,y,l,rfl,hg,hl,rfl,rfl⟩,h⟩
theorem WG{i j:Nat}{y:D}{n:Int}(hg:g[i]?=some (.lst l))(hn:n=j)(hj:l[j]?=some y)(hl:l.length<100000)(h:Q y (g.set i (.lst (l.eraseIdx j)))):cS .pop [.ref i,.int n] g Q:=by
 have eA:=(aw.mp hj).1;refine⟨_,_,⟨i,n,l,j,rfl,hg,by omega,by omega,?_,hj,rfl⟩,h⟩;rw[hn];exact PySem.StrLaws.seqIndex_nonneg (by omega) (by omega) |>.trans (by simp)
theorem DB{i:Nat}{kvs:List (Key×D)}{y z:D}{k:Key}(hg:g[i]?=some (.dg kvs))(hk:U9 y=some k)(h:Q ((w6 kvs k).getD z) g):cS .get [.ref i,y,z] g Q:=⟨_,_,⟨i,y,z,kvs,k,rfl,hg,hk,rfl,rfl⟩,h⟩
theorem JK{i:Nat}{ns:List Int}(hl:d7 g i=some (ns.map .int))(hz:ns.length<=10000)(h:Q (.ref g.length) (g++[.lst ((J9 ns).map .int)])):cS .jK [.ref i] g Q:=⟨_,_,.inr ⟨_,ns,rfl,hl,hz,rfl,rfl⟩,h⟩
theorem W5{i:Nat}(hg:g[i]?=some (.lst l)):mM .append (.ref i) g:=⟨i,l,rfl,a9 hg⟩
theorem Qt{i:Nat}(hg:g[i]?=some (.lst l)):mM .pop (.ref i) g:=⟨i,l,rfl,a9 hg⟩
theorem Vc{i:Nat}{l:List (Key×D)}(hg:g[i]?=some (.dg l)):mM .get (.ref i) g:=⟨i,l,rfl,hg⟩
theorem FD{j:Int}(h1:-(2 ^ 62)<=j)(h2:j<=100000)(h:Q (.ref g.length) (g++[.lst (i8 0 j.toNat)])):cS .jM [.int j] g Q:=⟨_,_,⟨j,rfl,h1,h2,rfl,rfl⟩,h⟩
theorem Mp{i j:Int}(h1:-(2 ^ 62)<=i/\i<2 ^ 62/\-(2 ^ 62)<=j/\j<2 ^ 62/\j-i<=100000)(h:Q (.ref g.length) (g++[.lst (i8 i (j-i).toNat)])):cS .kJ [.int i,.int j] g Q:=⟨_,_,⟨i,j,rfl,h1,rfl,rfl⟩,h⟩
theorem QJ{a:Nat}{ns:List Int}(hl:d7 g a=some (ns.map .int))(hz:ns.length<60)(h:Q (.ref g.length) (g++[.lst ((o6 ns).map .int)])):cS .sset [.ref a] g Q:=⟨_,_,⟨a,ns,rfl,hl,hz,rfl,rfl⟩,h⟩
theorem V2(h:Q (.ref g.length) (g++[.dg []])):cS .V2 [] g Q:=⟨_,_,⟨rfl,rfl,rfl⟩,h⟩
theorem max2{i j:Int}(h:Q (.int (if j>i then j else i)) g):cS .max [.int i,.int j] g Q:=⟨_,_,⟨rfl,.inl ⟨i,j,rfl,rfl⟩⟩,h⟩
theorem WH{a:Nat}{ns:List Int}{M:Int}(hl:d7 g a=some (ns.map .int))(h1:M∈ns)(h2:∀x∈ns,x<=M)(h:Q (.int M) g):cS .max [.ref a] g Q:=⟨_,_,⟨rfl,.inr ⟨a,ns,M,rfl,hl,h1,h2,rfl⟩⟩,h⟩
theorem Qq{a n:Nat}{i:Int}{S:Int->Bool}(hg:g[a]?=some (.set S n))(hn:n+1<4096)(h:Q .bN (g.set a (.set (λk=>S k||decide (k=i)) (if S i then n else n+1)))):cS .kE [.ref a,.int i] g Q:=⟨_,_,⟨a,i,S,n,rfl,hg,hn,rfl,rfl⟩,h⟩
theorem SO{a n:Nat}{S:Int->Bool}(hg:g[a]?=some (.set S n)):mM .kE (.ref a) g:=⟨a,S,n,rfl,hg⟩
theorem Tc{i:Int}(h:Q (.ref g.length) (g++[.set (λk=>decide (k=i)) 1])):cS (.kC i) [] g Q:=⟨_,_,⟨rfl,rfl,rfl⟩,h⟩
theorem OW{a:Nat}{ns:List Int}(hl:d7 g a=some (ns.map .int))(h:Q (.int ns.sum) g):cS .sum [.ref a] g Q:=⟨_,_,⟨a,ns,rfl,hl,rfl,rfl⟩,h⟩
theorem Ql{a:Nat}{ns:List Int}(hl:d7 g a=some (ns.map .int))(hz:ns.length<60)(h:Q (.int (ST.j5 [] ns).length) g):cS .qa [.ref a] g Q:=⟨_,_,⟨a,ns,rfl,hl,hz,rfl,rfl⟩,h⟩
theorem VY{a:Nat}{ns:List Int}(hl:d7 g a=some (ns.map .int))(h:Q (.bl (ns.all λn=>n != 0)) g):cS .all [.ref a] g Q:=⟨_,_,⟨a,_,_,rfl,hl,.inr ⟨ns,rfl,rfl⟩,rfl,rfl⟩,h⟩
theorem Dq{i j:Int}(c:oU i j)(h:Q (.int (i*2 ^ j.toNat)) g):cS (.bin .LShift) [.int i,.int j] g Q:=⟨_,_,.inl ⟨i,j,_,rfl,⟨c,rfl⟩,rfl,rfl⟩,h⟩
theorem wz{i j:Int}(h:Q (.int (Builtin.bitAnd i j)) g):cS (.bin .BitAnd) [.int i,.int j] g Q:=⟨_,_,.inl ⟨i,j,_,rfl,rfl,rfl,rfl⟩,h⟩
theorem Uz{i j:Int}(h:Q (.int (Builtin.bitOr i j)) g):cS (.bin .BitOr) [.int i,.int j] g Q:=⟨_,_,.inl ⟨i,j,_,rfl,rfl,rfl,rfl⟩,h⟩
theorem min2{i j:Int}(h:Q (.int (if j<i then j else i)) g):cS .min [.int i,.int j] g Q:=⟨_,_,⟨rfl,.inl ⟨i,j,rfl,rfl⟩⟩,h⟩
theorem Wv{v:Bool}(h:Q (.int (if v then 1 else 0)) g):cS .int [.bl v] g Q:=⟨_,_,⟨rfl,.inr ⟨v,rfl,rfl⟩⟩,h⟩
theorem Kw{kvs:List D}{x:Str}{v:D}(hv:M8 kvs x=some v)(h:Q v g):cS .nK [.tup kvs,.str x] g Q:=⟨_,_,⟨kvs,x,rfl,hv,rfl⟩,h⟩
theorem UM{i:Int}(hi:i.natAbs.log2<1920)(h:Q (.str (toString i)) g):cS .fv [.int i] g Q:=⟨_,_,⟨rfl,.inl ⟨i,rfl,hi,rfl⟩⟩,h⟩
theorem QI{x:Str}(hx:T2 l=some x)(h:Q (.str x) g):cS .my l g Q:=⟨_,_,⟨x,hx,rfl,rfl⟩,h⟩
theorem Dr{i:Nat}{v:Bool}(hl:d7 g i=some l)(hv:U1 l=some v)(h:Q (.bl v) g):cS .all [.ref i] g Q:=⟨_,_,⟨i,l,v,rfl,hl,.inl hv,rfl,rfl⟩,h⟩
theorem l6{i:Nat}{x:D}{σ:S}{k:S->Prop}(h:k (σ.set i (some x))):jZ (.one i) x σ k:=h
theorem B5{is:List Nat}{σ cF:S}{k:S->Prop}(e:C7 is l σ=some cF)(h:k cF):jZ (.many is) (.tup l) σ k:=⟨l,cF,rfl,e,h⟩
end
theorem CP:∀(bs:List Bool),U1 (bs.map D.bl)=some (bs.all id):=by
 intro bs
 induction bs with
 |nil=>rfl
 |cons b r ih=>simp[U1,ih]
theorem call_of{T:Nat->Option bq}{k f:Nat}{m:bq}{ds:List D}{g:G}{Q:KD}{E:KX}(hT:T f=some m)(hl:ds.length=m.ar)(h:wpS (d0 T k) m.body ⟨λ_ g'=>Q .bN g',Q,λ_ _=>False,λ_ _=>False⟩ (d4 m ds) g E):d0 T (k+1) f ds g Q E:=⟨m,hT,hl,h⟩
def IK.Is(k:IK)(l:List D)(g:G):Prop:=∀i,k.at i g=some l[i]?
theorem s9{l:List D}{g:G}:(IK.fix l).Is l g:=λ_=>rfl
theorem p0{a:Nat}{l:List D}{g:G}(h:d7 g a=some l):(IK.lst a).Is l g:=λi=>by simp only[IK.at,h]
def mQ(l:List D):List D:=l.mapIdx λi d=>.tup [.int i,d]
theorem yH{a:Nat}{l:List D}{g:G}(h:d7 g a=some l):(IK.oS a).Is (mQ l) g:=λi=>by
 simp only[IK.at,h,mQ,List.getElem?_mapIdx]
theorem M3(l:List D):(mQ l).length=l.length:=by simp[mQ]
theorem yX{l:List D}{i:Nat}{x:D}(h:(mQ l)[i]?=some x):∃d,l[i]?=some d/\x=.tup [.int i,d]:=by
 rw[mQ,List.getElem?_mapIdx,ae] at h;obtain⟨d,h1,h2⟩:=h;exact⟨d,h1,h2.symm⟩
theorem x6{lo:Int}{n i:Nat}{x:D}(h:(i8 lo n)[i]?=some x):i<n/\x=.int (lo+i):=by
 unfold i8 at h;have hi:i<n:=by
  have:=(aw.mp h).1;simpa using this
 rw[ao,cK hi] at h;cases h;exact⟨hi,rfl⟩
theorem j9(lo:Int)(n:Nat):(i8 lo n).length=n:=by simp[i8]
section
variable{P:fY}{σ:S}{g:G}{E:KX}{N:Ends}{it a b c o:ME}{s:MS}{t:MT}{Q:KD}
theorem HB{k:IK}{l:List D}{fin:S->G->Prop}{turn:D->(S->G->Prop)->S->G->Prop}(I:Nat->S->G->Prop)(hk:∀i σ g,I i σ g->k.Is l g)(h0:I 0 σ g)(hs:∀i x σ g,l[i]?=some x->I i σ g->turn x (I (i+1)) σ g)(hd:∀σ g,I l.length σ g->fin σ g):turns k σ g fin turn:=by
 refine⟨λi m σ g=>m=l.length-i/\i<=l.length/\I i σ g,⟨l.length,by simp,cB _,h0⟩,?_⟩;rintro i m σ g ⟨rfl,hi,p⟩;rw[hk i σ g p i];by_cases eA:i<l.length
 ·rw[ak eA];exact .inr ⟨_,rfl,I (i+1),λcF g' p'=>⟨l.length-(i+1),by omega,rfl,eA,p'⟩,hs i l[i] σ g (ak eA) p⟩
 ·have e:i=l.length:=by omega
  subst e;rw[aV (av _)];exact .inl ⟨rfl,hd σ g p⟩
theorem z9(hP:j6 P)(h:iu P it σ g (λk g1=>∃(l:List D) (I:Nat->S->G->Prop),(∀i σ g,I i σ g->k.Is l g)/\I 0 σ g1 /\
      (∀ i x σ g,l[i]?=some x->I i σ g->jZ t x σ λcR=>wpS P s ⟨I (i + 1),N.rt,N.nx,I (i + 1)⟩ cR g E)/\∀ σ g,I l.length σ g->N.nx σ g) E):wpS P (.dX t it s) N σ g E :=
  B4 hP it _ _ _ _ _ _ (λk g1 hq=>by obtain⟨l,I,hk,h0,hs,hd⟩:=hq;exact HB I hk h0 hs hd) (λ_ _ z=>z) h
theorem Ib{n:Nat}(hn:(n:Int)<2 ^ 62)(I:Nat->S->G->Prop)(h0:I 0 σ g)(hs:∀(i:Nat) σ g,i<n->I i σ g->jZ t (.int i) σ λcR=>wpS P s ⟨I (i+1),N.rt,N.nx,I (i+1)⟩ cR g E)(hd:∀σ g,I n σ g->N.nx σ g):wpS P (.dX t (.eG (.lit (.int n))) s) N σ g E:=by
 refine⟨n,rfl,by omega,hn,HB (l:=i8 0 n) I (λ_ _ _ _=>s9) h0 (λi x σ g hx p=>?_) (λσ g p=>hd σ g (by rw[j9] at p;exact p))⟩;obtain⟨hi,rfl⟩:=x6 hx;have:=hs i σ g hi p;rw[show(0:Int)+(i:Int)=i by omega];exact this
theorem J7{d6:List Nat}{n:Nat}{cond elt:ME}(hP:j6 P)(h:iu P it σ g (λk g1=>∃(l:List D) (I:Nat->List D->S->G->Prop),l.length<=1000/\(∀i ys σ g,I i ys σ g->k.Is l g/\ys.length<=i)/\I 0 [] (J5 σ d6 n) g1 /\
      (∀i x ys σ g,l[i]?=some x->I i ys σ g->jZ t x σ λcR=>df P cond cR g (λc g3=>if c=true then bg P elt cR g3 (λy g4=>I (i+1) (ys++[y]) cR g4) jS else I (i+1) ys cR g3) jS) /\
      ∀ ys σ g,I l.length ys σ g->Q (.ref g.length) (g ++ [.lst ys])) E):bg P (.comp d6 n t it cond elt) σ g Q E:=by
  refine B4 hP it _ _ _ _ _ _ (λk g1 h=>?_) (λ_ _ z=>z) h;obtain⟨l,I,hl,hk,h0,hs,hd⟩:=h;refine⟨λi m ys σ g=>m=l.length-i/\i<=l.length/\I i ys σ g,⟨l.length,by simp,cB _,h0⟩,?_⟩;rintro i m ys σ g ⟨rfl,hi,p⟩;obtain⟨oe,hy⟩:=hk i ys σ g p;rw[oe i];by_cases eA:i<l.length
  · rw[ak eA];refine .inr ⟨_,rfl,by omega,A2 (λcR q=>t8 hP cond _ _ _ _ _ _ (λc g3 q=>?_) (λ_ _ z=>z) q) (hs i l[i] ys σ g (ak eA) p)⟩;cases c
    · exact⟨l.length-(i+1),by omega,rfl,eA,by simpa using(show I (i+1) ys cR g3 from q)⟩
    · exact c7 hP elt _ _ _ _ _ _ (λy g4 q=>⟨l.length-(i+1),by omega,rfl,eA,by simpa using q⟩) (λ_ _ z=>z) q
  · have e:i=l.length:=by omega
    subst e;rw[aV (av _)];exact .inl ⟨rfl,hd ys σ g p⟩
theorem Ut{d6:List Nat}{n:Nat}{cond elt:ME}(hP:j6 P)(h:iu P it σ g (λk g1=>∃(l:List D) (I:Nat->List Int->S->G->Prop),l.length<60/\(∀i ys σ g,I i ys σ g->k.Is l g/\ys.length<=i)/\I 0 [] (J5 σ d6 n) g1 /\
      (∀i x ys σ g,l[i]?=some x->I i ys σ g->jZ t x σ λcR=>df P cond cR g (λc g3=>if c=true then bg P elt cR g3 (λy g4=>∃j,y=.int j/\I (i+1) (ys++[j]) cR g4) jS else I (i+1) ys cR g3) jS) /\
      ∀ ys σ g,I l.length ys σ g->Q (.ref g.length) (g ++ [.lst ((o6 ys).map .int)])) E):bg P (.hV d6 n t it cond elt) σ g Q E:=by
  refine B4 hP it _ _ _ _ _ _ (λk g1 h=>?_) (λ_ _ z=>z) h;obtain⟨l,I,hl,hk,h0,hs,hd⟩:=h;refine⟨λi m ys σ g=>m=l.length-i/\i<=l.length/\I i ys σ g,⟨l.length,by simp,cB _,h0⟩,?_⟩;rintro i m ys σ g ⟨rfl,hi,p⟩;obtain⟨oe,hy⟩:=hk i ys σ g p;rw[oe i];by_cases eA:i<l.length
  · rw[ak eA];refine .inr ⟨_,rfl,by omega,A2 (λcR q=>t8 hP cond _ _ _ _ _ _ (λc g3 q=>?_) (λ_ _ z=>z) q) (hs i l[i] ys σ g (ak eA) p)⟩;cases c
    · exact⟨l.length-(i+1),by omega,rfl,eA,by simpa using(show I (i+1) ys cR g3 from q)⟩
    · refine c7 hP elt _ _ _ _ _ _ (λy g4 q=>?_) (λ_ _ z=>z) q;obtain⟨j,e,q⟩:=q;exact⟨j,e,l.length-(i+1),by omega,rfl,eA,by simpa using q⟩
  · have e:i=l.length:=by omega
    subst e;rw[aV (av _)];exact .inl ⟨rfl,by omega,hd ys σ g p⟩
theorem ZL{d6:List Nat}{n:Nat}{cond elt:ME}(hP:j6 P)(h:bg P a σ g (λx g1=>∃j:Nat,x=.int j/\j<=1000/\∃I:Nat->List D->S->G->Prop,I 0 [] (J5 σ d6 n) g1/\(∀i ys σ g,I i ys σ g->ys.length<=i) /\
      (∀(i:Nat) ys σ g,i<j->I i ys σ g->jZ t (.int i) σ λcR=>df P cond cR g (λc g3=>if c=true then bg P elt cR g3 (λy g4=>I (i+1) (ys++[y]) cR g4) jS else I (i+1) ys cR g3) jS) /\
      ∀ ys σ g,I j ys σ g->Q (.ref g.length) (g ++ [.lst ys])) E):bg P (.comp d6 n t (.eG a) cond elt) σ g Q E:=by
  refine J7 hP ?_;refine c7 hP a _ _ _ _ _ _ (λx g1 h=>?_) (λ_ _ z=>z) h;obtain⟨j,rfl,hj,I,h0,hz,hs,hd⟩:=h;refine⟨j,rfl,by omega,by omega,_,I,by rw[j9];simpa using hj,λi ys σ g p=>⟨s9,hz i ys σ g p⟩,h0,λi x ys σ g hx p=>?_,λys σ g p=>hd ys σ g (by rw[j9] at p;simpa using p)⟩;obtain⟨hi,rfl⟩:=x6 hx;rw[show(0:Int)+(i:Int)=i by omega];exact hs i ys σ g (by simpa using hi) p
theorem ZM{d6:List Nat}{n:Nat}{cond elt:ME}(hP:j6 P)(h:bg P a σ g (λx g1=>∃l,x=.tup l/\l.length<=1000/\∃I:Nat->List D->S->G->Prop,I 0 [] (J5 σ d6 n) g1/\(∀i ys σ g,I i ys σ g->ys.length<=i) /\
      (∀(i:Nat) x ys σ g,l[i]?=some x->I i ys σ g->jZ t x σ λcR=>df P cond cR g (λc g3=>if c=true then bg P elt cR g3 (λy g4=>I (i+1) (ys++[y]) cR g4) jS else I (i+1) ys cR g3) jS) /\
      ∀ ys σ g,I l.length ys σ g->Q (.ref g.length) (g ++ [.lst ys])) E):bg P (.comp d6 n t (.fF a) cond elt) σ g Q E:=by
  refine J7 hP ?_;refine c7 hP a _ _ _ _ _ _ (λx g1 h=>?_) (λ_ _ z=>z) h;obtain⟨l,rfl,hj,I,h0,hz,hs,hd⟩:=h;exact .inl ⟨l,rfl,_,I,hj,λi ys σ g p=>⟨s9,hz i ys σ g p⟩,h0,hs,hd⟩
theorem V1(hP:j6 P){R:IK->G->Prop}(h:bg P a σ g (λx g1=>∃j:Int,x=.int j/\-(2 ^ 62)<=j/\j<2 ^ 62/\R (.fix (i8 0 j.toNat)) g1) E):iu P (.eG a) σ g R E:=h
theorem vg(hP:j6 P){R:IK->G->Prop}(h:bg P a σ g (λx g1=>∃l,x=.tup l/\R (.fix l) g1) E):iu P (.fF a) σ g R E:=by
 exact c7 hP a _ _ _ _ _ _ (λx g1 h=>.inl h) (λ_ _ z=>z) h
theorem ml(hP:j6 P){R:IK->G->Prop}(h:bg P a σ g (λx g1=>∃i l,x=.ref i/\d7 g1 i=some l/\R (.lst i) g1) E):iu P (.fF a) σ g R E:=by
 exact c7 hP a _ _ _ _ _ _ (λx g1 h=>.inr h) (λ_ _ z=>z) h
theorem Ai{R:IK->G->Prop}(h:bg P a σ g (λx g1=>∃i l,x=.ref i/\d7 g1 i=some l/\R (.oS i) g1) E):iu P (.lA a) σ g R E:=h
end
end M

namespace M
open PySem L2 PySem.Spec PyProof.Rows
structure RF where
 id:Nat
 nm:Str
 N:List Str
 k:Nat
 i:Nat
 m:bq
structure RM where
 id:Nat
 cl:Str
 nm:Str
 qn:Str
 N:List Str
 k:Nat
 i:Nat
 j:Nat
 m:bq
def RF.d(tp:Nat->Stmt)(r:RF):oZ:=⟨r.nm,r.nm,r.N,r.N.take r.k,tp r.i⟩
def RM.d(mt:Nat->Nat->Stmt)(r:RM):oZ:=⟨r.nm,r.qn,r.N,r.N.take r.k,mt r.i r.j⟩
def tQ(F:List RF)(M:List RM)(i:Nat):Option bq:=match F.find? λr=>Nat.beq r.id i with
 |some r=>some r.m
 |none=>(M.find? λr=>Nat.beq r.id i).map (·.m)
section
variable(tp:Nat->Stmt)(mt:Nat->Nat->Stmt)(K:PySem.W.Frag)
def PF:List RF->Prop
 |[]=>True
 |r::l=>(∃f fd,PySem.W.nsIn K mainGlobals r.nm=some (some (.ref f))/\qg K r.nm r.nm (tp r.i) f fd)/\PF l
def PM:List RM->Prop
 |[]=>True
 |r::l=>(∃C f fd,PySem.W.nsIn K mainGlobals r.cl=some (some (.ref C))/\Meth K C r.nm f/\qg K r.nm r.qn (mt r.i r.j) f fd)/\PM l
def PC:List (Str×Nat)->Prop
 |[]=>True
 |r::l=>(∃C,PySem.W.nsIn K mainGlobals r.1=some (some (.ref C))/\ku K C/\PySem.W.makesIn K C=true/\PySem.W.keepIn K (.ref C)=true)/\PC l
def PA:List (Str×Str)->Prop
 |[]=>True
 |r::l=>(∃C,PySem.W.nsIn K mainGlobals r.2=some (some (.ref C))/\PySem.W.findIn K (.ref C) r.1=some none)/\PA l
def PB:List Str->Prop
 |[]=>True
 |r::l=>PySem.W.nsIn K mainGlobals r=some none/\PB l
def PX:List Str->Prop
 |[]=>True
 |r::l=>(∃C,PySem.W.nsIn K mainGlobals r=some (some (.ref C))/\PySem.W.excIn K C [.type "ValueError",.type "Exception",.type "BaseException",.type "object"] "ValueError.__new__"=true)/\PX l
def BF:List RF->Prop
 |[]=>True
 |r::l=>(∀(kV doc pm:Value) (an:Option Addr) (fW ct:Value) (us:List Value),us.length=(r.N.take r.k).length->bindArgs (PySem.W.fnOf r.nm r.nm (A9 (tp r.i)) (p9 (tp r.i)) (p6 (tp r.i)) .none kV doc pm an fW ct) ⟨us,[]⟩=pure ((r.N.take r.k).zip us))/\BF l
def BM:List RM->Prop
 |[]=>True
 |r::l=>(∀(kV doc pm:Value) (an:Option Addr) (fW ct:Value) (us:List Value),us.length=(r.N.take r.k).length->bindArgs (PySem.W.fnOf r.nm r.qn (A9 (mt r.i r.j)) (p9 (mt r.i r.j)) (p6 (mt r.i r.j)) .none kV doc pm an fW ct) ⟨us,[]⟩=pure ((r.N.take r.k).zip us))/\BM l
def YF(c:i0):List RF->Prop
 |[]=>True
 |r::l=>B1 (comp 60) (c.at (r.d tp)) (p9 (tp r.i))=some r.m.body/\YF c l
def YM(c:i0):List RM->Prop
 |[]=>True
 |r::l=>B1 (comp 60) (c.at (r.d mt)) (p9 (mt r.i r.j))=some r.m.body/\YM c l
end
section
variable{tp:Nat->Stmt}{mt:Nat->Nat->Stmt}{K:PySem.W.Frag}{c:i0}{id k i j:Nat}{cl nm qn x:Str}{N:List Str}{m:bq}{f C:Addr}{oc kV doc pm fW ct:Value}{od an:Option Addr}{mL:Array (Option Value)}
theorem PF.nil:PF tp K []:=trivial
theorem PF.cons{l:List RF}(a:PySem.W.nsIn K mainGlobals nm=some (some (.ref f)))(lk:K.lookup f=some ⟨oc,od,.func (PySem.W.fnOf nm nm (A9 (tp i)) (p9 (tp i)) (p6 (tp i)) .none kV doc pm an fW ct),mL⟩)(cd:PySem.W.codeIn K fW nm=true)(kp:PySem.W.keepIn K (.ref f)=true)(h:PF tp K l):PF tp K (⟨id,nm,N,k,i,m⟩::l):=⟨⟨f,_,a,Jh lk cd kp⟩,h⟩
theorem PM.nil:PM mt K []:=trivial
theorem PM.cons{l:List RM}(c0:PySem.W.nsIn K mainGlobals cl=some (some (.ref C)))(a:PySem.W.findIn K (.ref C) nm=some (some (.ref f)))(af:PySem.W.isFn K (.ref f)=true)(lk:K.lookup f=some ⟨oc,od,.func (PySem.W.fnOf nm qn (A9 (mt i j)) (p9 (mt i j)) (p6 (mt i j)) .none kV doc pm an fW ct),mL⟩)(cd:PySem.W.codeIn K fW qn=true)(kp:PySem.W.keepIn K (.ref f)=true)(h:PM mt K l):PM mt K (⟨id,cl,nm,qn,N,k,i,j,m⟩::l):=⟨⟨C,f,_,c0,⟨a,af,kp⟩,Jh lk cd kp⟩,h⟩
theorem PC.nil:PC K []:=trivial
theorem PC.cons{l:List (Str×Nat)}(cn:PySem.W.nsIn K mainGlobals x=some (some (.ref C)))(cp:PySem.W.plainGet K C Str.empty=true)(OC:PySem.W.hasDictIn K C=true)(Oz:PySem.W.plainOver K C=true)(Oy:PySem.W.findIn K (.ref C) "__setattr__"=some (some (.builtin "object.__setattr__")))(OA:PySem.W.makesIn K C=true)(OB:PySem.W.keepIn K (.ref C)=true)(h:PC K l):PC K ((x,i)::l):=⟨⟨C,cn,⟨cp,OC,Oz,Oy⟩,OA,OB⟩,h⟩
theorem PA.nil:PA K []:=trivial
theorem PA.cons{l:List (Str×Str)}(cn:PySem.W.nsIn K mainGlobals x=some (some (.ref C)))(fl:PySem.W.findIn K (.ref C) nm=some none)(h:PA K l):PA K ((nm,x)::l):=⟨⟨C,cn,fl⟩,h⟩
theorem PB.nil:PB K []:=trivial
theorem PB.cons{l:List Str}(cn:PySem.W.nsIn K mainGlobals x=some none)(h:PB K l):PB K (x::l):=⟨cn,h⟩
theorem PX.nil:PX K []:=trivial
theorem PX.cons{l:List Str}(cn:PySem.W.nsIn K mainGlobals x=some (some (.ref C)))(q:PySem.W.excIn K C [.type "ValueError",.type "Exception",.type "BaseException",.type "object"] "ValueError.__new__"=true)(h:PX K l):PX K (x::l):=⟨⟨C,cn,q⟩,h⟩
theorem ES{P:List Value->Prop}{n:Nat}(h:∀a vs,vs.length=n->P (a::vs))(us:List Value)(hl:us.length=n+1):P us:=by
 cases us with
 |nil=>cases hl
 |cons a vs=>exact h a vs (Nat.succ.inj hl)
theorem ER{P:List Value->Prop}(h:P [])(us:List Value)(hl:us.length=0):P us:=by
 cases List.length_eq_zero_iff.mp hl;exact h
theorem BF.nil:BF tp []:=trivial
theorem BF.cons{l:List RF}(h:∀(kV doc pm:Value) (an:Option Addr) (fW ct:Value) (us:List Value),us.length=(N.take k).length->bindArgs (PySem.W.fnOf nm nm (A9 (tp i)) (p9 (tp i)) (p6 (tp i)) .none kV doc pm an fW ct) ⟨us,[]⟩=pure ((N.take k).zip us))(h2:BF tp l):BF tp (⟨id,nm,N,k,i,m⟩::l):=⟨h,h2⟩
theorem BM.nil:BM mt []:=trivial
theorem BM.cons{l:List RM}(h:∀(kV doc pm:Value) (an:Option Addr) (fW ct:Value) (us:List Value),us.length=(N.take k).length->bindArgs (PySem.W.fnOf nm qn (A9 (mt i j)) (p9 (mt i j)) (p6 (mt i j)) .none kV doc pm an fW ct) ⟨us,[]⟩=pure ((N.take k).zip us))(h2:BM mt l):BM mt (⟨id,cl,nm,qn,N,k,i,j,m⟩::l):=⟨h,h2⟩
theorem YF.nil:YF tp c []:=trivial
theorem YF.cons{l:List RF}(h:B1 (comp 60) (c.at ⟨nm,nm,N,N.take k,tp i⟩) (p9 (tp i))=some m.body)(h2:YF tp c l):YF tp c (⟨id,nm,N,k,i,m⟩::l):=⟨h,h2⟩
theorem YM.nil:YM mt c []:=trivial
theorem YM.cons{l:List RM}(h:B1 (comp 60) (c.at ⟨nm,qn,N,N.take k,mt i j⟩) (p9 (mt i j))=some m.body)(h2:YM mt c l):YM mt c (⟨id,cl,nm,qn,N,k,i,j,m⟩::l):=⟨h,h2⟩
theorem YF.get:∀{l:List RF},YF tp c l->∀r∈l,B1 (comp 60) (c.at (r.d tp)) (p9 (tp r.i))=some r.m.body
 |_::_,h,r,hr=>(aE.mp hr).elim (λz=>z▸h.1) (YF.get h.2 r)
theorem YM.get:∀{l:List RM},YM mt c l->∀r∈l,B1 (comp 60) (c.at (r.d mt)) (p9 (mt r.i r.j))=some r.m.body
 |_::_,h,r,hr=>(aE.mp hr).elim (λz=>z▸h.1) (YM.get h.2 r)
theorem PF.get:∀{l:List RF},PF tp K l->∀r∈l,∃f fd,PySem.W.nsIn K mainGlobals r.nm=some (some (.ref f))/\qg K r.nm r.nm (tp r.i) f fd
 |_::_,h,r,hr=>(aE.mp hr).elim (λz=>z▸h.1) (PF.get h.2 r)
theorem PM.get:∀{l:List RM},PM mt K l->∀r∈l,∃C f fd,PySem.W.nsIn K mainGlobals r.cl=some (some (.ref C))/\Meth K C r.nm f/\qg K r.nm r.qn (mt r.i r.j) f fd
 |_::_,h,r,hr=>(aE.mp hr).elim (λz=>z▸h.1) (PM.get h.2 r)
theorem PC.get:∀{l:List (Str×Nat)},PC K l->∀r∈l,∃C,PySem.W.nsIn K mainGlobals r.1=some (some (.ref C))/\ku K C/\PySem.W.makesIn K C=true/\PySem.W.keepIn K (.ref C)=true
 |_::_,h,r,hr=>(aE.mp hr).elim (λz=>z▸h.1) (PC.get h.2 r)
theorem PA.get:∀{l:List (Str×Str)},PA K l->∀r∈l,∃C,PySem.W.nsIn K mainGlobals r.2=some (some (.ref C))/\PySem.W.findIn K (.ref C) r.1=some none
 |_::_,h,r,hr=>(aE.mp hr).elim (λz=>z▸h.1) (PA.get h.2 r)
theorem PB.get:∀{l:List Str},PB K l->∀r∈l,PySem.W.nsIn K mainGlobals r=some none
 |_::_,h,r,hr=>(aE.mp hr).elim (λz=>z▸h.1) (PB.get h.2 r)
theorem PX.get:∀{l:List Str},PX K l->∀r∈l,∃C,PySem.W.nsIn K mainGlobals r=some (some (.ref C))/\PySem.W.excIn K C [.type "ValueError",.type "Exception",.type "BaseException",.type "object"] "ValueError.__new__"=true
 |_::_,h,r,hr=>(aE.mp hr).elim (λz=>z▸h.1) (PX.get h.2 r)
theorem BF.get:∀{l:List RF},BF tp l->∀r∈l,∀(kV doc pm:Value) (an:Option Addr) (fW ct:Value) (us:List Value),us.length=(r.N.take r.k).length->bindArgs (PySem.W.fnOf r.nm r.nm (A9 (tp r.i)) (p9 (tp r.i)) (p6 (tp r.i)) .none kV doc pm an fW ct) ⟨us,[]⟩=pure ((r.N.take r.k).zip us)
 |_::_,h,r,hr=>(aE.mp hr).elim (λz=>z▸h.1) (BF.get h.2 r)
theorem BM.get:∀{l:List RM},BM mt l->∀r∈l,∀(kV doc pm:Value) (an:Option Addr) (fW ct:Value) (us:List Value),us.length=(r.N.take r.k).length->bindArgs (PySem.W.fnOf r.nm r.qn (A9 (mt r.i r.j)) (p9 (mt r.i r.j)) (p6 (mt r.i r.j)) .none kV doc pm an fW ct) ⟨us,[]⟩=pure ((r.N.take r.k).zip us)
 |_::_,h,r,hr=>(aE.mp hr).elim (λz=>z▸h.1) (BM.get h.2 r)
end
def xt(N P:List Str)(sc:Scope):Bool:=decide (sc.kind=.function)&&!sc.isCoroutine&&!sc.isGenerator&&decide N.Nodup&&decide (N.take P.length=P)&&P.all (λx=>decide (sc.names.lookup x=some .local)||decide (sc.names.lookup x=some .cell))&&sc.names.all λy=>decide (y.2≠.free)
theorem Jq{N P:List Str}{sc:Scope}(h:xt N P sc=true):jd N P sc:=by
 unfold xt at h;simp only[Bool.and_eq_true,decide_eq_true_eq,Bool.not_eq_true',List.all_eq_true,Bool.or_eq_true] at h;obtain⟨⟨⟨⟨⟨⟨h1,h2⟩,h3⟩,h4⟩,h5⟩,h6⟩,h7⟩:=h;exact⟨h1,h2,h3,h4,h5,h6,h7⟩
theorem Yz{K:PySem.W.Frag}{h₀:Heap}{mg:Str->Option Value}{x:Str}{C:Addr}{Hl:List Value}{newId:String}(X:K.In h₀)(G:h₀.Ns mainGlobals mg)(e:PySem.W.nsIn K mainGlobals x=some (some (.ref C)))(q:PySem.W.excIn K C Hl newId=true):PyProof.Rows.OwnCls x C Hl newId mg h₀:=by
 refine⟨bT X G e,?_⟩;unfold PySem.W.excIn at q;split at q
 ·rename_i dd cd sl ho;split at q
  ·rename_i C' bm k0 k1 k2 k3 n k5 hm hs;simp only[Bool.and_eq_true,beq_iff_eq,Bool.not_eq_true'] at q;obtain⟨⟨⟨⟨⟨z1,z2⟩,vy⟩,ht⟩,bX⟩,xK⟩:=q;subst z1;subst z2;obtain⟨nm,bs,mro,ns,qn,hd,sn,sub,ab,col,del⟩:=cd;dsimp only at hm vy bX xK;subst hm vy;have MB:sl=#[k0,k1,k2,k3,some (.builtin n),k5]:=by
    obtain⟨l⟩:=sl;simp only at hs;rw[hs]
   subst MB;exact⟨bm,ns,nm,qn,bs,hd,sn,sub,ab,col,dd,k0,k1,k2,k3,k5,_,X _ _ ho,.of_isNs (PySem.W.isNs_of_in X bX),PySem.W.nsMap_none_of_in X bX xK,PySem.W.tail_of_in X ht⟩
  ·cases q
 ·cases q
def P6(K:PySem.W.Frag)(x:Str):Addr:=match PySem.W.nsIn K mainGlobals x with
 |some (some (.ref C))=>C
 |_=>0
def JA(K:PySem.W.Frag)(exc:List Str):Bool:=exc.all λx=>exc.all λy=>decide (PySem.W.exmOne K (.ref (P6 K x)) (.ref (P6 K y))=some (decide (x=y\/y="MintError")))
theorem PL{K:PySem.W.Frag}{exc:List Str}(h:JA K exc=true){x y:Str}{C C':Addr}(hx:exc.contains x=true)(hy:exc.contains y=true)(hC:v8 K x C)(Bf:v8 K y C'):PySem.W.exmOne K (.ref C) (.ref C')=some (decide (x=y\/y="MintError")):=by
 have h1:=cQ.mp h x (by simpa using hx);have h2:=bh (cQ.mp h1 y (by simpa using hy));have e1:P6 K x=C:=by unfold P6;rw[show PySem.W.nsIn K mainGlobals x=_ from hC]
 have e2:P6 K y=C':=by unfold P6;rw[show PySem.W.nsIn K mainGlobals y=_ from Bf]
 rw[e1,e2] at h2;exact h2
theorem Cm{α:Type}{f:α->Nat}:∀{l:List α},(l.map f).Nodup->∀r∈l,l.find? (λx=>Nat.beq (f x) (f r))=some r
 |y::l,nd,r,hr=>by
  rw[bu,dU] at nd;rcases aE.mp hr with rfl|hr
  ·rw[List.find?_cons_of_pos];exact Nat.beq_refl _
  ·rw[List.find?_cons_of_neg]
   ·exact Cm nd.2 r hr
   ·intro z;exact nd.1 (aT.mpr ⟨r,hr,(jg z).symm⟩)
theorem Sz{α β:Type}{f:α->Nat}{g:β->Nat}{l:List α}{r:β}(h:g r∉l.map f):l.find? (λx=>Nat.beq (f x) (g r))=none:=by
 rw[kB];intro x hx z;exact h (aT.mpr ⟨x,hx,jg z⟩)
section
variable{w:World}{K:PySem.W.Frag}{h₀:Heap}{mg:Str->Option Value}{c:i0}{F:List RF}{M:List RM}{tp:Nat->Stmt}{mt:Nat->Nat->Stmt}
structure lQ(K:PySem.W.Frag)(c:i0)(F:List RF)(M:List RM)(tp:Nat->Stmt)(mt:Nat->Nat->Stmt):Prop where
 qF:PF tp K F
 qM:PM mt K M
 qC:PC K c.cls
 qA:PA K c.oN
 qB:PB K c.blt
 qX:PX K c.exc
 xm:JA K c.exc=true
structure lP(c:i0)(F:List RF)(M:List RM)(tp:Nat->Stmt)(mt:Nat->Nat->Stmt):Prop where
 cf:c.fns=F.map λr=>(r.nm,r.id)
 cm:c.qN=M.map λr=>(r.nm,r.cl,r.id)
 ci:c.cls.all (λy=>M.any λr=>decide (r.cl=y.1)&&decide (r.nm="__init__")&&Nat.beq r.id y.2)=true
 nd:(F.map (·.id)++M.map (·.id)).Nodup
 sF:F.all (λr=>xt r.N (r.N.take r.k) (p6 (tp r.i))&&decide (r.m.ar=(r.N.take r.k).length)&&decide (r.m.n=r.N.length))=true
 sM:M.all (λr=>xt r.N (r.N.take r.k) (p6 (mt r.i r.j))&&decide (r.m.ar=(r.N.take r.k).length)&&decide (r.m.n=r.N.length))=true
 oF:YF tp c F
 oM:YM mt c M
 bF:BF tp F
 bM:BM mt M
theorem JS(I:lQ K c F M tp mt)(X:lP c F M tp mt)(r:RF)(hr:r∈F):∃f fd,jU K c (r.d tp) r.m f fd/\PySem.W.nsIn K mainGlobals r.nm=some (some (.ref f))/\tQ F M r.id=some r.m:=by
 obtain⟨f,fd,a,q⟩:=I.qF.get r hr;have s:=cQ.mp X.sF r hr;simp only[Bool.and_eq_true,decide_eq_true_eq] at s;have o:=X.oF.get r hr;refine⟨f,fd,⟨q,q.binds (X.bF.get r hr),Jq s.1.1,o,s.1.2,s.2⟩,a,?_⟩;unfold tQ;rw[Cm (f:=(·.id)) (dj.mp X.nd).1 r hr]
theorem JT(I:lQ K c F M tp mt)(X:lP c F M tp mt)(r:RM)(hr:r∈M):∃C f fd,jU K c (r.d mt) r.m f fd/\PySem.W.nsIn K mainGlobals r.cl=some (some (.ref C))/\Meth K C r.nm f/\tQ F M r.id=some r.m:=by
 obtain⟨C,f,fd,a,q1,q⟩:=I.qM.get r hr;have s:=cQ.mp X.sM r hr;simp only[Bool.and_eq_true,decide_eq_true_eq] at s;have o:=X.oM.get r hr;refine⟨C,f,fd,⟨q,q.binds (X.bM.get r hr),Jq s.1.1,o,s.1.2,s.2⟩,a,q1,?_⟩;have nd:=dj.mp X.nd;unfold tQ;rw[Sz (f:=λr:RF=>r.id) (g:=λr:RM=>r.id) (r:=r) (λz=>nd.2.2 _ z _ (aT.mpr ⟨r,hr,rfl⟩) rfl),Cm (f:=λr:RM=>r.id) nd.2.1 r hr]
 rfl
theorem RZ(I:lQ K c F M tp mt)(Y:lP c F M tp mt)(X:K.In h₀)(G:h₀.Ns mainGlobals mg)(con:∀x d,c.con.lookup x=some d->∃v u,mg x=some u/\RelV v u/\∀ρ H,f6 K ρ H d v)(rG:∀x kvs,c.gd.lookup x=some kvs->∃A vs,mg x=some (.ref A)/\wy K w.params A vs/\pV K kvs vs):nN w K mg c (tQ F M):=by
 refine⟨λx i hx=>?_,λx i hx=>?_,λx y i C hx hC=>?_,λf y C hx hC=>?_,con,λx hx=>?_,λx hx=>?_,λx y C C' hx hy hC Bf=>PL I.xm hx hy hC Bf,rG⟩
 ·have hm:=aQ hx;rw[Y.cf] at hm;obtain⟨r,hr,e⟩:=aT.mp hm;cases e;obtain⟨f,fd,O,a,t⟩:=JS I Y r hr;exact⟨_,_,f,fd,t,O,bT X G a⟩
 ·have hm:=aQ hx;have h1:=cQ.mp Y.ci _ hm;obtain⟨r,hr,e⟩:=aU.mp h1;simp only[Bool.and_eq_true,decide_eq_true_eq] at e;obtain⟨⟨e1,e2⟩,e3⟩:=e;have e3:=jg e3;obtain⟨C,f,fd,O,a,q,t⟩:=JT I Y r hr;obtain⟨C',a',hc,mk,kp⟩:=I.qC.get _ hm;rw[e1] at a;cases a.symm.trans a';rw[e2] at q;rw[e3] at t;exact⟨C,_,_,f,fd,t,O,bT X G a,a,hc,⟨mk,q.at_,q.fn,kp⟩⟩
 ·rw[Y.cm] at hx;obtain⟨r,hr,e⟩:=aT.mp hx;cases e;obtain⟨C',f,fd,O,a,q,t⟩:=JT I Y r hr;cases a.symm.trans hC;exact⟨_,_,f,fd,t,O,q⟩
 ·obtain⟨C',a,q⟩:=I.qA.get _ hx;cases a.symm.trans hC;exact q
 ·exact PySem.W.mg_none_of X G (I.qB.get x (by simpa using hx))
 ·obtain⟨C,a,q⟩:=I.qX.get x (by simpa using hx);exact⟨_,bT X G a,a,λbase nW vO=>⟨_,_,_,_,Yz nW vO a q,PySem.F.excBase_ValueError⟩⟩
end
end M

namespace M
open PySem L2
set_option hygiene false
local macro_rules|`(tactic|walk_at"w1")=>`(tactic|with_reducible first|refine Q1 ?_|refine wF ?_|refine yC ?_|refine DO ?_|refine Sg ?_|refine Pq ?_|refine JY ?_|refine Sl ?_|refine DN ?_|refine E5 ?_|refine zK ?_|(refine w_var (d:=?_) ?_ ?_;rotate_left;·with_unfolding_all rfl)|refine w_lit ?_|refine wo ?_|refine wm ?_|refine VT ?_|refine Sk ?_|refine Ur ?_|refine w_and ?_|refine w_or ?_|refine w_not ?_|refine w_ite ?_|refine yQ ?_|refine Si ?_|refine xk ?_|refine yB ?_|refine Q2 ?_|refine Sn ?_|refine Pp ?_|refine So ?_|refine DP ?_|refine DQ ?_|refine VW ?_|refine VX ?_|refine ET ?_|refine UJ ?_|refine UI ?_|refine UH ?_|refine UG ?_|refine Wa ?_|refine Ks ?_|refine V' ?_|refine Wk ?_|refine Wb ?_|refine We ?_|refine Wg ?_|refine Wf ?_|refine Wi ?_|refine Wj ?_|refine Wh ?_|refine rV ?_|refine Wc ?_|refine GX ?_|refine GV ?_|refine GW ?_|refine Kr ?_|refine VQ ?_|refine Cg ?_|refine PV ?_|refine mO ?_|refine pZ ?_|refine Hd ?_|refine UT ?_|refine FE ?_|refine zT ?_|refine zR ?_|refine zS ?_|refine Fg ?_|refine FA ?_|refine EU ?_)
local macro_rules|`(tactic|walk_at"w2")=>`(tactic|repeat(with_reducible first|walk_at "w1"|refine DF (by simp) ?_|refine DE (by simp) ?_|refine p8 (a9 (by assumption)) (by with_unfolding_all rfl) ?_|refine K0 (a9 (by assumption)) ?_|refine Dp (by unfold oU;decide) ?_))
local macro_rules|`(tactic|walk_at"w3")=>`(tactic|repeat(with_reducible first|walk_at "w1"|refine DF (by simp) ?_|refine DE (by simp) ?_|refine p8 (a9 (by assumption)) (by with_unfolding_all rfl) ?_|refine K0 (a9 (by assumption)) ?_|refine Dp (by unfold oU;decide) ?_|refine And.intro (show List.length _ <= 1000 from by simp) ?_|refine B5 (by with_unfolding_all rfl) ?_|refine l6 ?_|refine u9 (by with_unfolding_all rfl) ?_))
local macro_rules|`(tactic|walk_at"")=>`(tactic|repeat(with_reducible first|walk_at "w1"|refine Us ?_|refine EO ?_|refine Sj ?_|refine GU ?_|refine Pj ?_|refine EV ?_|refine max2 ?_|refine min2 ?_|refine Wv ?_|refine V2 ?_|refine NY ?_|refine GD ?_|refine DF (by simp) ?_|refine DE (by simp) ?_|refine p8 (a9 (by assumption)) (by with_unfolding_all rfl) ?_|refine K0 (a9 (by assumption)) ?_|refine Dp (by unfold oU;decide) ?_|refine And.intro (show List.length _ <= 1000 from by simp) ?_|refine B5 (by with_unfolding_all rfl) ?_|refine l6 ?_|refine u9 (by with_unfolding_all rfl) ?_|refine And.intro (W5 (by assumption)) ?_|refine And.intro (Qt (by assumption)) ?_|refine And.intro (Vc (by assumption)) ?_|refine P4 (by decide) ?_|refine Jb (by decide) (by decide) ?_|refine Ai ?_))
set_option hygiene true
abbrev fP(a:ME):ME:=.cons a .nil
abbrev eE(a b:ME):ME:=.cons a (.cons b .nil)
abbrev iD(a b c:ME):ME:=.cons a (.cons b (.cons c .nil))
abbrev sG(a b c d:ME):ME:=.cons a (.cons b (.cons c (.cons d .nil)))
abbrev uw(a b c d e:ME):ME:=.cons a (.cons b (.cons c (.cons d (.cons e .nil))))
abbrev GA(a b c d e f:ME):ME:=.cons a (.cons b (.cons c (.cons d (.cons e (.cons f .nil)))))
abbrev Bt(a b c d e f g:ME):ME:=.cons a (.cons b (.cons c (.cons d (.cons e (.cons f (.cons g .nil))))))
abbrev fo(o:PySem.CmpOp)(a b:ME):ME:=.fT (.prim (.cmp o) (.cons a (.cons b .nil)))
abbrev da(a b:ME):ME:=.prim .ix (.cons a (.cons b .nil))
abbrev bo(a:Int):ME:=.lit (.int a)
abbrev iB(a:PySem.Str):ME:=.lit (.str a)
abbrev dY(p:Pr)(a:ME):ME:=.prim p (.cons a .nil)
abbrev cc(p:Pr)(a b:ME):ME:=.prim p (.cons a (.cons b .nil))
abbrev aM:ME:=.var 0
abbrev bx:ME:=.var 1
abbrev pC:ME:=.var 10
abbrev lI:ME:=.var 12
abbrev va:ME:=.var 13
abbrev pB:ME:=.var 15
abbrev uZ:ME:=.var 16
abbrev bG:ME:=.var 2
abbrev cv:ME:=.var 3
abbrev dI:ME:=.var 4
abbrev fC:ME:=.var 5
abbrev fO:ME:=.var 6
abbrev gH:ME:=.var 7
abbrev kK:ME:=.var 8
def E4:bq:=⟨2,5,(.seq (.ifs (.dS (fo .Lt (da aM (bo 2)) bx) (fo .Lt (da aM (bo 1)) (dY .len (da aM (bo 0))))) (.seq (.set 2 (da (da aM (bo 0)) (da aM (bo 1)))) (.seq (.eW aM (bo 1) (cc (.bin .Add) (da aM (bo 1)) (bo 1))) (.seq (.eW aM (bo 2) (bo 0)) (.seq (.ifs (fo .GtE bG (cc (.bin .Pow) (bo 10) (bo 18))) (.seq (.eW aM (bo 2) bG) .pass) (.seq (.eW aM (bo 3) (cc (.bin .Mod) (cc (.bin .Add) (cc (.bin .Add) (cc (.bin .Mult) (da aM (bo 3)) (bo 48271)) (cc (.bin .Mult) (cc (.bin .Mod) bG (bo 2147483629)) (bo 69621))) (bo 12345)) (bo 2147483647))) .pass)) .pass)))) .pass) (.seq (.ifs (fo .GtE (da aM (bo 2)) bx) (.seq (.set 3 (cc (.bin .Mod) (da aM (bo 2)) bx)) (.seq (.eW aM (bo 2) (cc (.bin .FloorDiv) (da aM (bo 2)) bx)) (.seq (.ret cv) .pass))) .pass) (.seq (.set 4 (da aM (bo 3))) (.seq (.eW aM (bo 3) (cc (.bin .Mod) (cc (.bin .Add) (cc (.bin .Add) (cc (.bin .Mult) (cc (.bin .Mod) (cc (.bin .Mult) dI dI) (bo 2147483629)) (bo 5)) (cc (.bin .Mult) dI (bo 16811))) (bo 2531011)) (bo 2147483647))) (.seq (.ret (cc (.bin .Mod) (cc (.bin .Add) (cc (.bin .FloorDiv) (da aM (bo 3)) (bo 59)) (cc (.bin .Mult) (cc (.bin .Mod) (da aM (bo 3)) (bo 8191)) (bo 31))) bx)) .pass)))))⟩
structure i9(g:G)(d:Nat):Prop where
 ex:∃(s:Nat) (p b r:Int) (xs:List Int),g[d]?=some (.lst [.ref s,.int p,.int b,.int r])/\g[s]?=some (.lst (xs.map .int))/\s<d/\0<=p/\0<=b/\0<=r/\r<2147483647
structure Gr(d:Nat)(g g':G):Prop where
 len:g.length<=g'.length
 old:∀i,i≠d->i<g.length->g'[i]?=g[i]?
theorem Gr.refl(d:Nat)(g:G):Gr d g g:=⟨av _,λ_ _ _=>rfl⟩
theorem Gr.trans{d:Nat}{g g1 g2:G}(a:Gr d g g1)(b:Gr d g1 g2):Gr d g g2:=⟨aI a.len b.len,λi h1 h2=>(b.old i h1 (ay h2 a.len)).trans (a.old i h1 h2)⟩
theorem Gr.set(d:Nat)(g:G)(o:O):Gr d g (g.set d o):=⟨by simp,λi h1 h2=>ax (cx h1)⟩
theorem Gr.snoc(d:Nat)(g:G)(o:O):Gr d g (g++[o]):=⟨by simp,λi h1 h2=>aL h2⟩
theorem Gr.at{d:Nat}{g g':G}(h:Gr d g g'){i:Nat}{o:O}(hi:i≠d)(e:g[i]?=some o):g'[i]?=some o:=(h.old i hi (aw.mp e).1).trans e
theorem m8{g:G}{i:Nat}{o:O}(h:g[i]?=some o):i<g.length:=(aw.mp h).1
theorem i9.lt{g:G}{d:Nat}(h:i9 g d):d<g.length:=by
 obtain⟨_,_,_,_,_,e,_⟩:=h.ex;exact m8 e
theorem i9.snoc{g:G}{d:Nat}(h:i9 g d)(o:O):i9 (g++[o]) d:=by
 obtain⟨s,p,b,r,xs,e1,e2,q⟩:=h.ex;exact⟨s,p,b,r,xs,by rw[aL (m8 e1)];exact e1,by rw[aL (m8 e2)];exact e2,q⟩
def j4:MS->MS
 |.seq _ b=>b
 |x=>x
theorem DY{i j:Int}(h1:-(2 ^ 64)<i)(h2:i<2 ^ 64):rS i j:=.inl ⟨h1,h2⟩
theorem X4{i j:Int}(h1:-(2 ^ 64)<j)(h2:j<2 ^ 64):rS i j:=.inr ⟨h1,h2⟩
theorem YL{P:fY}{d:Nat}{n:Int}{g:G}{Q:KD}{E:KX}{N:Ends}{c2:Option D}(hN:N.rt=Q)(D0:i9 g d)(hn:0<n)(mP:n<1073741824)(h:∀r g',0<=r->r<n->i9 g' d->Gr d g g'->Q (.int r) g'):wpS P (j4 E4.body) N [some (.ref d),some (.int n),c2,none,none] g E:=by
 obtain⟨s,p,b,r,xs,e1,e2,oB,hp,hb,hr,pE⟩:=D0.ex;have eA:=m8 e1;subst hN;dsimp[E4,j4];walk_at "w2";refine if2 (λc=>?_) (λc=>?_)
 ·walk_at "w2";refine P4 hn ?_;walk_at "w2";refine yk ⟨hn,mP⟩ ?_;walk_at "w2";refine S0 e1 (by with_unfolding_all rfl) ?_;walk_at "w2";refine h _ _ (fh _ (by omega)) (dP _ hn) ⟨s,p,b / n,r,xs,?_,?_,oB,hp,Int.ediv_nonneg hb (by omega),hr,pE⟩ (Gr.set d g _)
  ·rw[aY eA];rfl
  ·rw[ax (bV oB)];exact e2
 ·walk_at "w2";have Fh:-(2 ^ 64)<r/\r<2 ^ 64:=⟨by omega,by omega⟩
  refine P2 (DY Fh.1 Fh.2) ?_;walk_at "w2";refine P4 (by decide) ?_;walk_at "w2";refine P2 (X4 (by decide) (by decide)) ?_;walk_at "w2";refine P2 (X4 (by decide) (by decide)) ?_;walk_at "w2";refine P4 (by decide) ?_;walk_at "w2";refine S0 e1 (by with_unfolding_all rfl) ?_;generalize eT:(r*r % 2147483629*5+r*16811+2531011) % 2147483647=r';have q0:0<=r':=by rw[<- eT];exact fh _ (by decide)
  have q1:r'<2147483647:=by rw[<- eT];exact dP _ (by decide)
  have Ov:(g.set d (.lst [.ref s,.int p,.int b,.int r']))[d]?=some (.lst [.ref s,.int p,.int b,.int r']):=aY eA;show wpS P _ _ _ (g.set d (.lst [.ref s,.int p,.int b,.int r'])) E;walk_at "w2";refine yk ⟨by decide,by decide⟩ ?_;walk_at "w2";refine P4 (by decide) ?_;walk_at "w2";refine P2 (X4 (by decide) (by decide)) ?_;walk_at "w2";refine P4 hn ?_;walk_at "w2";refine h _ _ (fh _ (by omega)) (dP _ hn) ⟨s,p,b,r',xs,Ov,?_,oB,hp,hb,q0,q1⟩ (Gr.set d g _);rw[ax (bV oB)];exact e2
theorem i6{T:Nat->Option bq}(hT:T 4=some E4){k d:Nat}{n:Int}{g:G}{Q:KD}{E:KX}(D0:i9 g d)(hn:0<n)(mP:n<1073741824)(h:∀r g',0<=r->r<n->i9 g' d->Gr d g g'->Q (.int r) g'):d0 T (k+1) 4 [.ref d,.int n] g Q E:=by
 obtain⟨s,p,b,r,xs,e1,e2,oB,hp,hb,hr,pE⟩:=D0.ex;have eA:=m8 e1;refine call_of hT rfl ?_;have tail:∀(g':G) (c2:Option D),i9 g' d->Gr d g g'->wpS (d0 T k) (j4 E4.body) ⟨λ_ g'=>Q .bN g',Q,λ_ _=>False,λ_ _=>False⟩ [some (.ref d),some (.int n),c2,none,none] g' E :=
  λg' c2 D1 gr=>YL rfl D1 hn mP λr g2 a b c e=>h r g2 a b c (gr.trans e)
 dsimp[E4,d4,List.replicate];walk_at "w2";refine if2 (λc=>?_) (λc=>?_)
 ·walk_at "w2";refine if2 (λc'=>?_) (λc'=>?_)
  ·walk_at "w2";have gJ:p.toNat<xs.length:=by
    rw[ai] at c';omega
   have ea:gz (xs.map D.int) p=some (.int xs[p.toNat]):=by
    have:=E1 (xs:=xs.map D.int) (j:=p.toNat) (v:=.int xs[p.toNat]) (by rw[ao,ak gJ];rfl)
    rwa [show((p.toNat:Nat):Int)=p by omega] at this
   refine p8 (a9 e2) ea ?_;generalize xs[p.toNat]=cell;walk_at "w2";refine S0 e1 (by with_unfolding_all rfl) ?_;have f1:(g.set d (.lst [.ref s,.int (p+1),.int b,.int r]))[d]?=some (.lst [.ref s,.int (p+1),.int b,.int r]):=aY eA;show wpS (d0 T k) _ _ _ (g.set d (.lst [.ref s,.int (p+1),.int b,.int r])) E;walk_at "w2";refine S0 f1 (by with_unfolding_all rfl) ?_;rw[iL];have f2:(g.set d (.lst [.ref s,.int (p+1),.int 0,.int r]))[d]?=some (.lst [.ref s,.int (p+1),.int 0,.int r]):=aY eA;show wpS (d0 T k) _ _ _ (g.set d (.lst [.ref s,.int (p+1),.int 0,.int r])) E;walk_at "w2";refine if2 (λc2=>?_) (λc2=>?_)
   ·walk_at "w2";refine S0 f2 (by with_unfolding_all rfl) ?_;rw[iL];refine tail _ _ ⟨s,p+1,cell,r,xs,aY eA,by rw[ax (bV oB)];exact e2,oB,by omega,?_,hr,pE⟩ (Gr.set d g _);have:(10:Int) ^ (18:Int).toNat<=cell:=c2;have Gz:(0:Int)<=10 ^ (18:Int).toNat:=by decide
    omega
   ·walk_at "w2";refine P2 (X4 (by decide) (by decide)) ?_;walk_at "w2";refine P4 (by decide) ?_;walk_at "w2";refine P2 (X4 (by decide) (by decide)) ?_;walk_at "w2";refine P4 (by decide) ?_;walk_at "w2";refine S0 f2 (by with_unfolding_all rfl) ?_;rw[iL];exact tail _ _ ⟨s,p+1,0,_,xs,aY eA,by rw[ax (bV oB)];exact e2,oB,by omega,by decide,fh _ (by decide),dP _ (by decide)⟩ (Gr.set d g _)
  ·walk_at "w1";exact tail _ _ D0 (Gr.refl _ _)
 ·walk_at "w1";walk_at "w1";exact tail _ _ D0 (Gr.refl _ _)
def CW:bq:=⟨1,1,(.seq (.ret (.dS (cc .isin aM (.lit (.ty "int"))) (.fe (cc .isin aM (.lit (.ty "bool")))))) .pass)⟩
def U3:bq:=⟨3,3,(.seq (.ret (.dS (.call 38 (fP aM)) (.chain .LtE .LtE bx aM bG))) .pass)⟩
structure NF(T:Nat->Option bq):Prop where
 nf:T 1=some U3
 is:T 38=some CW
def G0:bq:=⟨1,3,(.seq (.set 1 (bo 0)) (.seq (.dX (.one 2) (.fF aM) (.seq (.ifs (.fe (.fT (.call 1 (iD bG bx (bo 7))))) (.seq (.ret (.lit (.bl false))) .pass) .pass) (.seq (.set 1 (cc (.bin .Add) bG (bo 1))) .pass))) (.seq (.ret (.lit (.bl true))) .pass)))⟩
def yx:bq:=⟨1,1,(.seq (.ret (.prim .lst (sG (dY .list (cc (.nU false true) aM (bo 63))) (bo 0) (bo 0) (bo 29)))) .pass)⟩
def wR:bq:=⟨1,1,(.seq (.ret (.dS (cc .isin aM (.lit (.ty "int"))) (.fe (cc .isin aM (.lit (.ty "bool")))))) .pass)⟩
def C1:bq:=⟨2,2,(.seq (.ifs (fo .Is bx (.lit .bN)) (.seq (.ret (cc (.cmp .Is) aM (.lit .bN))) .pass) .pass) (.seq (.ifs (.fT (cc .isin bx (.lit (.ty "bool")))) (.seq (.ret (.dS (cc .isin aM (.lit (.ty "bool"))) (cc (.cmp .Eq) aM bx))) .pass) .pass) (.seq (.ifs (.fT (cc .isin bx (.lit (.ty "int")))) (.seq (.ret (.dS (.call 6 (fP aM)) (cc (.cmp .Eq) aM bx))) .pass) .pass) (.seq (.ifs (.fT (cc .isin bx (.lit (.ty "str")))) (.seq (.ret (.dS (cc .isin aM (.lit (.ty "str"))) (cc (.cmp .Eq) aM bx))) .pass) .pass) (.seq (.ifs (.ke (fo .NotEq (cc .isin bx (.lit (.ty "tuple"))) (cc .isin aM (.lit (.ty "tuple")))) (fo .NotEq (cc .isin bx (.lit (.ty "list"))) (cc .isin aM (.lit (.ty "list"))))) (.seq (.ret (.lit (.bl false))) .pass) .pass) (.seq (.ifs (fo .NotEq (dY .len aM) (dY .len bx)) (.seq (.ret (.lit (.bl false))) .pass) .pass) (.seq (.ret (dY .all (.comp [1,0] 4 (.one 3) (.eG (dY .len bx)) .no (.call 7 (eE (da bx cv) (da aM cv)))))) .pass)))))))⟩
theorem N8{g:G}{n:Nat}:∀ms:List Int,(ms.map D.int).mapM (rd g n)=some (ms.map PyData.int)
 |[]=>rfl
 |m::r=>by
  rw[bu,List.mapM_cons,N8 r];cases n<;>rfl
theorem lay_ints:∀ms:List Int,PyData.canLayAll0 (ms.map PyData.int)=true
 |[]=>by simp[PyData.canLayAll0]
 |m::r=>by simp[PyData.canLayAll0,PyData.canLay0,lay_ints r]
theorem IF:∀ms ns:List Int,PyData.eqvAll (ms.map PyData.int) (ns.map PyData.int)=decide (ms=ns)
 |[],[]=>by simp[PyData.eqvAll]
 |[],_::_=>by simp[PyData.eqvAll]
 |_::_,[]=>by simp[PyData.eqvAll]
 |m::r,n::q=>by
  simp only[List.map_cons,PyData.eqvAll,PyData.eqv,IF r q];by_cases h:m=n
  ·subst h;simp
  ·simp[h]
theorem CQ{g:G}{ms:List Int}{i:Int}{k:Bool->Prop}(h:k (ms.any λm=>m==i)):qQ g (.int i) (.tup (ms.map .int)) k:=by
 refine⟨_,.inr ⟨_,_,_,rfl,N8 ms,rfl,lay_ints ms,by simp[PyData.canLay0],rfl⟩,?_⟩;rw[lr];exact h
theorem Ye{g:G}{a b:Nat}{ms ns:List Int}{k:Bool->Prop}(ha:d7 g a=some (ms.map .int))(hb:d7 g b=some (ns.map .int))(h:k (decide (ms=ns))):tI g (.ref a) (.ref b) k:=by
 refine⟨_,.inr (.inr (.inr ⟨.list (ms.map .int),.list (ns.map .int),?_,?_,?_,?_,rfl⟩)),?_⟩
 ·simp only[rd];rw[ha];dsimp only;rw[N8];rfl
 ·simp only[rd];rw[hb];dsimp only;rw[N8];rfl
 ·simp[PyData.canLay0,lay_ints]
 ·simp[PyData.canLay0,lay_ints]
 ·simp only[PyData.eqv,IF];exact h
section
variable{T:Nat->Option bq}{k d:Nat}{g:G}{Q:KD}{E:KX}
theorem IT(h1:NF T){i:Int}(h:Q (.bl true) g):d0 T (k+1) 38 [.int i] g Q E:=by
 refine call_of h1.is rfl ?_;dsimp[CW,d4,List.replicate];walk_at "w2";refine gM (c:="int") (b:=true) (by decide) rfl ?_;walk_at "w2";refine gM (c:="bool") (b:=false) (by decide) rfl ?_;walk_at "w2";exact h
theorem B7(h1:NF T){i l m:Int}(h:Q (.bl (decide (l<=i)&&decide (i<=m))) g):d0 T (k+2) 1 [.int i,.int l,.int m] g Q E:=by
 refine call_of h1.nf rfl ?_;dsimp[U3,d4,List.replicate];walk_at "w2";refine IT h1 ?_;walk_at "w2";refine if2 (λc=>?_) (λc=>?_)
 ·rw[aA c] at h;walk_at "w2";exact h
 ·rw[aG c] at h;exact h
def gm:Int->List Int->Bool
 |_,[]=>true
 |l,x::r=>(decide (l<=x)&&decide (x<=7))&&gm (x+1) r
theorem IW(h1:NF T)(h2:T 2=some G0){ms:List Int}(h:Q (.bl (gm 0 ms)) g):d0 T (k+3) 2 [.tup (ms.map .int)] g Q E:=by
 refine call_of h2 rfl ?_;dsimp[G0,d4,List.replicate];walk_at "w2";refine z9 (b0 T _) (vg (b0 T _) ?_);walk_at "w2";refine⟨_,rfl,_,λi σ g'=>g'=g/\∃(l:Int) (z:Option D),σ=[some (.tup (ms.map .int)),some (.int l),z]/\gm 0 ms=gm l (ms.drop i),λ_ _ _ _=>s9,⟨rfl,0,none,rfl,rfl⟩,λi x σ g' hx p=>?_,λσ g' p=>?_⟩
 ·obtain⟨rfl,l,z,rfl,e⟩:=p;rw[ao] at hx;cases em:ms[i]? with
  |none=>rw[em] at hx;cases hx
  |some m =>
   rw[em] at hx;cases hx;have hi:=(aw.mp em).1;have ed:ms.drop i=m::ms.drop (i+1):=by
    rw[eR hi]
    congr 1
    exact(aw.mp em).2
   rw[ed] at e;simp only[gm] at e;show wpS _ _ _ _ _ _;walk_at "w2";refine B7 h1 ?_;walk_at "w2";cases hc:(decide (l<=m)&&decide (m<=7)) with
   |true =>
    rw[hc,qm] at e;show wpS _ _ _ _ _ _;walk_at "w2";exact⟨rfl,m+1,some (.int m),rfl,e⟩
   |false =>
    rw[hc,Bool.false_and] at e;rw[e] at h;show wpS _ _ _ _ _ _;walk_at "w2";exact h
 ·obtain⟨rfl,l,z,rfl,e⟩:=p;rw[uj (by simp)] at e;simp only[gm] at e;rw[e] at h;show wpS _ _ _ _ _ _;walk_at "w2";exact h
theorem Tb(h3:T 3=some yx){a:Nat}{ns:List Int}(hg:g[a]?=some (.oJ (ns.map .int)))(h:∀d g',i9 g' d->g.length<=d->(∀i,i<g.length->g'[i]?=g[i]?)->Q (.ref d) g'):d0 T (k+1) 3 [.ref a] g Q E:=by
 refine call_of h3 rfl ?_;dsimp[yx,d4,List.replicate];walk_at "w2";refine Jr (Yl hg) ?_;walk_at "w2";refine yu (l:=cut (ns.map D.int) none (some 63)) (a9 (by simp)) ?_;walk_at "w2";have ec:cut (ns.map D.int) none (some 63)=(cut ns none (some 63)).map D.int:=by
  unfold cut;simp[List.map_take,List.map_drop]
 refine h _ _ ⟨g.length+1,0,0,29,cut ns none (some 63),?_,?_,?_,by decide,by decide,by decide,by decide⟩ (by simp) (λi hi=>?_)
 ·simp
 ·rw[<- ec];simp
 ·simp
 ·simp[List.getElem?_append,hi,Nat.lt_of_lt_of_le hi (by omega:g.length<=g.length+1),Nat.lt_of_lt_of_le hi (by omega:g.length<=g.length+1+1)]
end
theorem Kx:∀{ms:List Int} {l:Int},ms.Pairwise (· < ·)->(∀m∈ms,l<=m/\m<=7)->gm l ms=true
 |[],_,_,_=>rfl
 |m::r,l,hp,h=>by
  obtain⟨h1,h2⟩:=fj.mp hp;have hm:=h m (by simp);simp only[gm];rw[aA hm.1,aA hm.2,Kx h2 λx hx=>⟨by have:=h1 x hx;omega,(h x (by simp[hx])).2⟩]
  rfl
theorem K4{α:Type}{l:List α}{r:Int}(h0:0<=r)(h1:r<l.length):∃v,gz l r=some v/\v∈l:=by
 have hi:r.toNat<l.length:=by omega
 refine⟨l[r.toNat],?_,cC hi⟩;have:=E1 (xs:=l) (j:=r.toNat) (v:=l[r.toNat]) (ak hi)
 rwa [show((r.toNat:Nat):Int)=r by omega] at this
section
variable{T:Nat->Option bq}{k d:Nat}{g:G}{Q:KD}{E:KX}
theorem JF(h7:T 7=some C1){a b:Bool}(h:Q (.bl (a==b)) g):d0 T (k+1) 7 [.bl a,.bl b] g Q E:=by
 refine call_of h7 rfl ?_;dsimp[C1,d4,List.replicate];walk_at "w2";walk_at "w2";refine gM (c:="bool") (b:=true) (by decide) rfl ?_;walk_at "w2";refine gM (c:="bool") (b:=true) (by decide) rfl ?_;walk_at "w2";exact h
end
def B0:bq:=⟨1,8,(.seq (.lZ (.many [1,2,3,4,5]) aM) (.seq (.set 6 (.dS (.call 1 (iD bx (bo 1) (bo 99))) (.call 2 (fP bG)))) (.seq (.set 7 (.dS (.call 1 (iD cv (bo 1) (bo 99))) (.call 2 (fP dI)))) (.seq (.ret (.dS fO (.dS gH (.call 1 (iD fC (bo 0) (bo 9999)))))) .pass))))⟩
structure b7 where
 lo:Int
 lm:List Int
 up:Int
 um:List Int
 yr:Int
def b7.d(c:b7):D:=.tup [.int c.lo,.tup (c.lm.map .int),.int c.up,.tup (c.um.map .int),.int c.yr]
def v5(c:b7):Bool:=((decide (1<=c.lo)&&decide (c.lo<=99))&&gm 0 c.lm)&&(((decide (1<=c.up)&&decide (c.up<=99))&&gm 0 c.um)&&(decide (0<=c.yr)&&decide (c.yr<=9999)))
section
variable{T:Nat->Option bq}{k d:Nat}{g:G}{Q:KD}{E:KX}
theorem aB7(h1:NF T)(h2:T 2=some G0)(tF:T 12=some B0){c:b7}(h:Q (.bl (v5 c)) g):d0 T (k+4) 12 [c.d] g Q E:=by
 refine call_of tF rfl ?_;dsimp[B0,d4,List.replicate,b7.d];walk_at "w3";refine B7 h1 ?_;have s1:∀b:Bool,b=((decide (1<=c.lo)&&decide (c.lo<=99))&&gm 0 c.lm)->wpS (d0 T (k+3)) (j4 (j4 B0.body)) ⟨λ_ g'=>Q .bN g',Q,λ_ _=>False,λ_ _=>False⟩ [some c.d,some (.int c.lo),some (.tup (c.lm.map .int)),some (.int c.up),some (.tup (c.um.map .int)),some (.int c.yr),some (.bl b),none] g E:=by
  intro b hb;dsimp[B0,j4];walk_at "w3";refine B7 h1 ?_;have s2:∀b':Bool,b'=((decide (1<=c.up)&&decide (c.up<=99))&&gm 0 c.um)->wpS (d0 T (k+3)) (j4 (j4 (j4 B0.body))) ⟨λ_ g'=>Q .bN g',Q,λ_ _=>False,λ_ _=>False⟩ [some c.d,some (.int c.lo),some (.tup (c.lm.map .int)),some (.int c.up),some (.tup (c.um.map .int)),some (.int c.yr),some (.bl b),some (.bl b')] g E:=by
   intro b' lL;dsimp[B0,j4];have e:v5 c=(b&&(b'&&(decide (0<=c.yr)&&decide (c.yr<=9999)))):=by unfold v5;rw[hb,lL]
   rw[e] at h;walk_at "w3";cases b
   ·exact pZ h
   ·refine mO ?_;walk_at "w3";cases b'
    ·exact pZ h
    ·refine mO ?_;walk_at "w3";exact B7 h1 h
  refine Cg ?_;cases hc:(decide (1<=c.up)&&decide (c.up<=99)) with
  |false=>exact pZ (s2 false (by rw[hc];rfl))
  |true =>
   refine mO ?_;walk_at "w1";walk_at "w1";walk_at "w1";walk_at "w1";exact IW h1 h2 (s2 _ (by rw[hc];rfl))
 refine Cg ?_;cases hc:(decide (1<=c.lo)&&decide (c.lo<=99)) with
 |false=>exact pZ (s1 false (by rw[hc];rfl))
 |true =>
  refine mO ?_;walk_at "w1";walk_at "w1";walk_at "w1";walk_at "w1";exact IW h1 h2 (s1 _ (by rw[hc];rfl))
end
def Q8:bq:=⟨2,5,(.seq (.set 2 (dY .list bx)) (.seq (.set 3 (.prim .lst .nil)) (.seq (.dX (.one 4) (.eG (dY .len bx)) (.seq (.expr (.ff .append cv (fP (.ff .pop bG (fP (.call 4 (eE aM (dY .len bG)))))))) .pass)) (.seq (.ret cv) .pass))))⟩
theorem Iv{α:Type}:∀{l:List α} {j:Nat} (h:j<l.length),(l[j]::l.eraseIdx j).Perm l
 |a::r,0,_=>by simp
 |a::r,j+1,h=>by
  simp only[List.getElem_cons_succ,List.eraseIdx_cons_succ];exact(List.Perm.swap _ _ _).trans ((Iv (l:=r) (j:=j) (by simpa using h)).cons a)
theorem Gr.K1{d x:Nat}{g g':G}{o:O}(h:Gr d g g')(hx:g.length<=x):Gr d g (g'.set x o):=⟨by simp[h.len],λi h1 h2=>by rw[ax (by omega)];exact h.old i h1 h2⟩
theorem i9.K1{g:G}{d x:Nat}{o:O}(h:i9 g d)(hx:d<x):i9 (g.set x o) d:=by
 obtain⟨s,p,b,r,xs,e1,e2,hs,q⟩:=h.ex;exact⟨s,p,b,r,xs,by rw[ax (by omega)];exact e1,by rw[ax (by omega)];exact e2,hs,q⟩
theorem b8{g:G}{o:O}:(g++[o])[g.length]?=some o:=by simp
theorem n8{g:G}{i:Nat}{o o':O}(h:g[i]?=some o):(g++[o'])[i]?=some o:=by rw[aL (m8 h)];exact h
theorem get_set{g:G}{i:Nat}{o o':O}(h:g[i]?=some o):(g.set i o')[i]?=some o':=aY (m8 h)
theorem d5{g:G}{i j:Nat}{o o':O}(h:g[i]?=some o)(hn:j≠i):(g.set j o')[i]?=some o:=by rw[ax hn];exact h
section
variable{T:Nat->Option bq}{k d:Nat}{g:G}{Q:KD}{E:KX}
theorem IJ(h4:T 4=some E4)(Bh:T 21=some Q8){a:Nat}{l:List D}(ha:g[a]?=some (.lst l))(hl:l.length<=1000)(hd:a≠d)(D0:i9 g d)(h:∀(l':List D) b g',l'.Perm l->g'[b]?=some (.lst l')->g.length<=b->i9 g' d->Gr d g g'->Q (.ref b) g'):d0 T (k+2) 21 [.ref d,.ref a] g Q E:=by
 refine call_of Bh rfl ?_;dsimp[Q8,d4,List.replicate];walk_at"";refine yu (a9 ha) ?_;walk_at"";have dl:=D0.lt;refine z9 (b0 T _) (V1 (b0 T _) ?_);walk_at"";have xW:(g++[O.lst l]++[O.lst []])[a]?=some (.lst l):=n8 (n8 ha);refine K0 (a9 xW) ?_;refine ⟨_,rfl,by omega,by omega,i8 0 l.length,λi σ g'=>∃ left found w,σ=[some (.ref d),some (.ref a),some (.ref g.length),some (.ref (g.length + 1)),w]/\(left ++ found).Perm l/\left.length + i=l.length/\g'[g.length]?=some (.lst left)/\g'[g.length + 1]?=some (.lst found)/\i9 g' d/\Gr d g g',
  λi σ g p=>s9,?_,λi x σ g' hx p=>?_,λσ g' p=>?_⟩
 ·refine⟨l,[],none,?_,by simp,by simp,?_,?_,(D0.snoc _).snoc _,(Gr.snoc _ _ _).trans (Gr.snoc _ _ _)⟩
  ·simp
  ·exact n8 b8
  ·have:=b8 (g:=g++[O.lst l]) (o:=O.lst []);simpa using this
 ·obtain⟨left,found,w,rfl,hp,hn,e1,e2,D1,G1⟩:=p;obtain⟨hi,rfl⟩:=x6 hx;show wpS _ _ _ _ _ _;walk_at"";refine i6 (n:=(left.length:Int)) h4 D1 (by omega) (by omega) λr g2 r0 r1 D2 G2=>?_;have f1:=G2.at (by omega) e1;have f2:=G2.at (by omega) e2;have hr:r.toNat<left.length:=by omega
  walk_at"";refine WG (j:=r.toNat) f1 (by omega) (ak hr) (by omega) ?_;walk_at"";refine O8 (d5 f2 (by omega)) ?_ ?_
  ·have:=hp.length_eq;simp at this;omega
  walk_at"";refine⟨_,_,_,rfl,?_,?_,d5 (get_set f1) (by omega),get_set (d5 f2 (by omega)),(D2.K1 (by omega)).K1 (by omega),((G1.trans G2).K1 (by omega)).K1 (by omega)⟩
  ·refine List.Perm.trans ?_ hp;have:=Iv hr;refine List.Perm.trans ?_ (fA found this);simp only[List.cons_append];rw[<- bL];exact(List.perm_append_singleton _ _)
  ·rw[gB hr];omega
 ·obtain⟨left,found,w,rfl,hp,hn,e1,e2,D1,G1⟩:=p;show wpS _ _ _ _ _ _;walk_at"";rw[j9] at hn;have:left=[]:=dJ (by omega);subst this;exact h _ _ _ (by simpa using hp) e2 (by omega) D1 G1
end
def zh:bq:=⟨1,5,(.seq (.set 1 (.prim .lst (Bt (.prim .tup .nil) (dY .tup (bo 0)) (cc .tup (bo 0) (bo 1)) (dY .tup (bo 1)) (.prim .tup (iD (bo 0) (bo 1) (bo 2))) (.prim .tup (sG (bo 0) (bo 1) (bo 2) (bo 7))) (dY .tup (bo 2))))) (.seq (.set 2 (da bx (.call 4 (eE aM (da (cc .tup (bo 4) (bo 7)) (dY .int (cc (.cmp .Eq) (.call 4 (eE aM (bo 4))) (bo 0)))))))) (.seq (.set 3 (da bx (.call 4 (eE aM (bo 5))))) (.seq (.set 4 (da (.prim .lst (GA (bo 0) (bo 0) (bo 1400) (bo 1400) (bo 1401) (bo 1))) (.call 4 (eE aM (bo 6))))) (.seq (.ret (.prim .tup (uw (cc (.bin .Add) (bo 1) (.call 4 (eE aM (bo 3)))) bG (cc (.bin .Add) (bo 1) (.call 4 (eE aM (bo 4)))) cv dI))) .pass)))))⟩
def F6:bq:=⟨4,4,(.seq (.ifs (.ke (fo .Eq (dY .len bx) (bo 0)) (.dS (fo .Lt (dY .len bx) cv) (fo .Eq (.call 4 (eE aM (bo 3))) (bo 0)))) (.seq (.expr (.ff .append bx (fP bG))) (.seq (.ret (cc (.bin .Add) bG (bo 1))) .pass)) .pass) (.seq (.ifs (fo .Eq (.call 4 (eE aM (bo 5))) (bo 0)) (.seq (.eW bx (.call 4 (eE aM (dY .len bx))) bG) (.seq (.ret (cc (.bin .Add) bG (bo 1))) .pass)) .pass) (.seq (.ret bG) .pass)))⟩
structure jT(c:b7):Prop where
 good:v5 c=true
 l8:c.lm.length<=8
 u8:c.um.length<=8
theorem jT.mk'{lo up yr:Int}{lm um:List Int}(h1:1<=lo)(h2:lo<=99)(h3:1<=up)(h4:up<=99)(h5:0<=yr)(h6:yr<=9999)(h7:gm 0 lm=true)(h8:gm 0 um=true)(h9:lm.length<=8)(Gz:um.length<=8):jT ⟨lo,lm,up,um,yr⟩:=by
 refine⟨?_,h9,Gz⟩;simp only[v5,h7,h8,decide_eq_true h1,decide_eq_true h2,decide_eq_true h3,decide_eq_true h4,decide_eq_true h5,decide_eq_true h6]
 rfl
theorem jT.inv{c:b7}(h:jT c):(1<=c.lo/\c.lo<=99)/\gm 0 c.lm=true/\(1<=c.up/\c.up<=99)/\gm 0 c.um=true/\0<=c.yr/\c.yr<=9999:=by
 have:=h.good;unfold v5 at this;simp only[Bool.and_eq_true,decide_eq_true_eq] at this;obtain⟨⟨⟨a,b⟩,e⟩,⟨⟨c',d⟩,f⟩,p,q⟩:=this;exact⟨⟨a,b⟩,e,⟨c',d⟩,f,p,q⟩
def M6:List (List Int):=[[],[0],[0,1],[1],[0,1,2],[0,1,2,7],[2]]
theorem SM:∀ms∈M6,gm 0 ms=true/\ms.length<=8:=by decide
theorem JH{r:Int}(h0:0<=r)(h7:r<7):∃ms,gz (M6.map λms=>D.tup (ms.map .int)) r=some (.tup (ms.map .int))/\gm 0 ms=true/\ms.length<=8:=by
 obtain⟨v,hv,hm⟩:=K4 (l:=M6.map λms=>D.tup (ms.map .int)) h0 (by simpa[M6] using h7);obtain⟨ms,h1,rfl⟩:=aT.mp hm;exact⟨ms,hv,SM ms h1⟩
section
variable{T:Nat->Option bq}{k d:Nat}{g:G}{Q:KD}{E:KX}
theorem ZN(h4:T 4=some E4)(NL:T 22=some zh)(D0:i9 g d)(h:∀c g',jT c->i9 g' d->Gr d g g'->Q c.d g'):d0 T (k+2) 22 [.ref d] g Q E:=by
 refine call_of NL rfl ?_;dsimp[zh,d4,List.replicate];have dl:=D0.lt;walk_at"";have D1:=D0.snoc (.lst (M6.map λms=>D.tup (ms.map .int)));have G1:=Gr.snoc d g (.lst (M6.map λms=>D.tup (ms.map .int)));have e1:(g++[O.lst (M6.map λms=>D.tup (ms.map .int))])[g.length]?=some (.lst (M6.map λms=>D.tup (ms.map .int))):=b8;show d0 _ _ _ _ (g++[O.lst (M6.map λms=>D.tup (ms.map .int))]) _ _;generalize g++[O.lst (M6.map λms=>D.tup (ms.map .int))]=g1 at *;refine i6 h4 D1 (by decide) (by decide) λr g2 r0 r1 D2 G2=>?_;walk_at"";have e2:=G2.at (by omega) e1;have hn:∃n:Int,gz [D.int 4,D.int 7] (if decide (r=0)=true then 1 else 0)=some (.int n)/\0<n/\n<=7:=by
  by_cases hr:r=0
  ·exact⟨7,by rw[aA hr];rfl,by decide,by decide⟩
  ·exact⟨4,by rw[aG hr];rfl,by decide,by decide⟩
 obtain⟨n,en,n0,n7⟩:=hn;refine u9 en ?_;walk_at"";refine i6 h4 D2 n0 (by omega) λr3 g3 iP ja D3 G3=>?_;have e3:=G3.at (by omega) e2;obtain⟨lm,el,gl,ll⟩:=JH iP (by omega);refine p8 (a9 e3) el ?_;walk_at"";refine i6 h4 D3 (by decide) (by decide) λr4 g4 qE sN D4 G4=>?_;have e4:=G4.at (by omega) e3;obtain⟨um,eu,gu,lu⟩:=JH qE (by omega);refine p8 (a9 e4) eu ?_;walk_at"";have e5:(g4++[O.lst [.int 0,.int 0,.int 1400,.int 1400,.int 1401,.int 1]])[g4.length]?=some (.lst [.int 0,.int 0,.int 1400,.int 1400,.int 1401,.int 1]):=b8;refine i6 h4 (D4.snoc _) (by decide) (by decide) λr5 g5 lz ly D5 G5=>?_;have e6:=G5.at (by have:=D4.lt;omega) e5;obtain⟨v,hv,hm⟩:=K4 (l:=[D.int 0,.int 0,.int 1400,.int 1400,.int 1401,.int 1]) lz (by simpa using ly);have hy:∃y:Int,v=.int y/\0<=y/\y<=9999:=by
  simp only[List.mem_cons,List.mem_nil_iff,or_false] at hm;rcases hm with rfl|rfl|rfl|rfl|rfl|rfl<;>exact⟨_,rfl,by decide,by decide⟩
 obtain⟨y,rfl,y0,y1⟩:=hy;refine p8 (a9 e6) hv ?_;walk_at"";refine i6 h4 D5 (by decide) (by decide) λr6 g6 Fj Fi D6 G6=>?_;walk_at"";refine i6 h4 D6 (by decide) (by decide) λr7 g7 r70 r71 D7 G7=>?_;walk_at"";exact h ⟨1+r6,lm,1+r7,um,y⟩ _ (jT.mk' (by omega) (by omega) (by omega) (by omega) y0 y1 gl gu ll lu) D7 (G1.trans (G2.trans (G3.trans (G4.trans ((Gr.snoc _ _ _).trans (G5.trans (G6.trans G7)))))))
def Dn(l:List D)(f:Int):Prop:=∃ns:List Int,l=ns.map .int/\∀n∈ns,1<=n/\n<f
theorem YR(h4:T 4=some E4)(vK:T 23=some F6){a:Nat}{l:List D}{f v:Int}(ha:g[a]?=some (.lst l))(hl:l.length<1000)(hs:Dn l f)(f1:1<=f)(hd:d<a)(D0:i9 g d)(h:∀(l':List D) (f':Int) g',l'≠[]->l'.length<=l.length+1->Dn l' f'->f<=f'->f'<=f+1->g'[a]?=some (.lst l')->i9 g' d->(∀i,i≠d->i≠a->i<g.length->g'[i]?=g[i]?)->g.length<=g'.length->Q (.int f') g'):d0 T (k+2) 23 [.ref d,.ref a,.int f,.int v] g Q E:=by
 refine call_of vK rfl ?_;have dl:=D0.lt;obtain⟨ns,rfl,qV⟩:=id hs;have app:∀g':G,g'[a]?=some (.lst (ns.map D.int))->i9 g' d->Gr d g g'->wpS (d0 T (k+1)) (.seq (.expr (.ff .append (.var 1) (.cons (.var 2) .nil))) (.seq (.ret (.prim (.bin .Add) (.cons (.var 2) (.cons (.lit (.int 1)) .nil)))) .pass)) ⟨λjY g1=>wpS (d0 T (k+1)) (j4 F6.body) ⟨λ_ g'=>Q .bN g',Q,λ_ _=>False,λ_ _=>False⟩ jY g1 E,Q,λ_ _=>False,λ_ _=>False⟩ [some (.ref d),some (.ref a),some (.int f),some (.int v)] g' E:=by
  intro g' e D1 G1;walk_at"";refine O8 e (by simp at hl ⊢;omega) ?_;walk_at"";refine h _ _ _ (by simp) (by simp) ⟨ns++[f],by simp,λn hn=>?_⟩ (by omega) (by omega) (get_set e) (D1.K1 hd) (λi h1 h2 h3=>?_) (by simp[G1.len])
  ·rcases aS.mp hn with z|z
   ·have:=qV n z;omega
   ·simp at z;omega
  ·rw[ax (cx h2)];exact G1.old i h1 h3
 have rest:∀g':G,g'[a]?=some (.lst (ns.map D.int))->ns≠[]->i9 g' d->Gr d g g'->wpS (d0 T (k+1)) (j4 F6.body) ⟨λ_ g'=>Q .bN g',Q,λ_ _=>False,λ_ _=>False⟩ [some (.ref d),some (.ref a),some (.int f),some (.int v)] g' E:=by
  intro g' e ft D1 G1;dsimp[F6,j4];walk_at"";refine i6 h4 D1 (by decide) (by decide) λr g2 r0 r1 D2 G2=>?_;have e2:=G2.at (by omega) e;have hlen:0<ns.length:=EK.mpr ft;walk_at"";refine if2 (λc=>?_) (λc=>?_)
  ·walk_at"";rw[ai];refine i6 h4 D2 (by omega) (by simp at hl;omega) λr3 g3 iP ja D3 G3=>?_;have e3:=G3.at (by omega) e2;have hj:lJ (ns.map D.int).length r3=some r3.toNat:=by
    unfold lJ;rw[aJ iP,aJ (by rw[ai];exact ja)]
   refine S0 e3 hj ?_;walk_at"";refine h _ _ _ (by simp[ft]) (by simp) ⟨ns.set r3.toNat f,by simp,λn hn=>?_⟩ (by omega) (by omega) (get_set e3) (D3.K1 hd) (λi h1 h2 h3=>?_) (by simp[((G1.trans G2).trans G3).len])
   ·rcases pe hn with z|z
    ·have:=qV n z;omega
    ·omega
   ·rw[ax (cx h2)];exact((G1.trans G2).trans G3).old i h1 h3
  ·walk_at"";exact h _ _ _ (by simp[ft]) (by simp) hs (by omega) (by omega) e2 D2 (λi h1 h2 h3=>(G1.trans G2).old i h1 h3) (G1.trans G2).len
 dsimp[F6,d4,List.replicate];walk_at"";refine if2 (λc=>?_) (λc=>?_)
 ·refine mO ?_;exact app g ha D0 (Gr.refl _ _)
 ·have ft:ns≠[]:=λz=>c (by rw[z];rfl);walk_at"";refine if2 (λc2=>?_) (λc2=>?_)
  ·walk_at"";refine i6 h4 D0 (by decide) (by decide) λr g2 r0 r1 D2 G2=>?_;walk_at"";refine if2 (λc3=>?_) (λc3=>?_)
   ·exact app g2 (G2.at (by omega) ha) D2 G2
   ·walk_at "w1";exact rest g2 (G2.at (by omega) ha) ft D2 G2
  ·walk_at "w1";walk_at "w1";exact rest g ha ft D0 (Gr.refl _ _)
end
def F2:bq:=⟨3,17,(.seq (.set 3 (.prim .lst .nil)) (.seq (.set 4 (bo 1)) (.seq (.set 5 (.prim .V2 .nil)) (.seq (.set 6 (da (.prim .lst (iD (bo 0) (bo 1) (bo 1350))) (.call 4 (eE aM (bo 3))))) (.seq (.set 7 (cc (.bin .Add) (bo 1) (.call 4 (eE aM (bo 96))))) (.seq (.set 8 (cc (.bin .Add) (bo 2) (.call 4 (eE aM (bo 4))))) (.seq (.set 9 (cc .max (bo 0) (cc (.bin .Sub) (.call 4 (eE aM (bo 9))) (bo 6)))) (.seq (.set 10 (.prim .lst .nil)) (.seq (.dX (.one 11) (.eG bx) (.seq (.set 4 (.call 23 (sG aM cv dI bG))) (.seq (.set 12 (cc .tup (da cv (.call 4 (eE aM (dY .len cv)))) (cc (.bin .Add) (bo 50) (.call 4 (eE aM (cc (.bin .Add) (bo 2) bG)))))) (.seq (.dX (.one 13) (.fF lI) (.seq (.ifs (fo .Eq (.call 4 (eE aM kK)) (bo 0)) (.seq (.set 14 (.call 4 (eE aM (bo 8)))) (.seq (.eW fC va (dY .tuple (.comp [13,14,5] 5 (.one 4) (.eG (bo 8)) (.ke (fo .Eq dI bx) (fo .In dI (.ff .get bG (eE aM (.prim .tup .nil))))) dI))) .pass)) .pass) .pass)) (.seq (.ifs (fo .Eq (.call 4 (eE aM (bo 5))) (bo 0)) (.seq (.set 6 (cc .min (bo 9999) (cc (.bin .Add) (cc (.bin .Add) fO (bo 1)) (.call 4 (eE aM (bo 9)))))) .pass) .pass) (.seq (.set 15 (.comp [9,7] 4 (.one 3) (.fF lI) .no (cc (.bin .Add) (cc (.bin .Add) (bo 1) aM) (cc (.bin .Mod) (cc (.bin .Mult) cv bx) (bo 97))))) (.seq (.set 16 (cc (.bin .Mult) fO (dY .int (cc (.cmp .Gt) (.call 4 (eE aM (bo 4))) (bo 0))))) (.seq (.expr (.ff .append pC (fP (.prim .tup (uw (da pB (bo 0)) (.ff .get fC (eE (da lI (bo 0)) (.prim .tup .nil))) (da pB (bo 1)) (.ff .get fC (eE (da lI (bo 1)) (.prim .tup .nil))) uZ))))) .pass)))))))) (.seq (.ret pC) .pass))))))))))⟩
def oW(kvs:List (Key×D)):Prop:=∀k v,w6 kvs k=some v->∃ms:List Int,v=.tup (ms.map .int)/\gm 0 ms=true/\ms.length<=8
theorem XO(kvs:List (Key×D))(k k':Key)(v:D):w6 (putD kvs k v) k'=if k'=k then some v else w6 kvs k':=by
 unfold putD;split
 ·rename_i mr;have go:∀l:List (Key×D),w6 (l.map λkv=>if kv.1=k then(kv.1,v) else kv) k'=if k'=k then(if(l.any λkv=>decide (kv.1=k))=true then some v else none) else w6 l k':=by
   intro l
   induction l with
   |nil=>simp[w6]
   |cons p r ih =>
    obtain⟨pk,pv⟩:=p;by_cases e:pk=k
    ·subst e;by_cases e2:k'=pk
     ·subst e2;simp[w6]
     ·have:¬pk=k':=λz=>e2 z.symm;unfold w6 at ih ⊢;simp[this,e2] at ih ⊢;exact ih
    ·by_cases e2:k'=k
     ·subst e2;unfold w6 at ih ⊢;rw[fR,show decide (pk=k')=false from aG e,qo];simp[e] at ih ⊢;exact ih
     ·unfold w6 at ih ⊢;simp only[List.map_cons,e,if_false,List.find?_cons];by_cases e3:pk=k'
      ·simp[e3,e2]
      ·simp[e3];simp[e2] at ih;simp[e2];exact ih
  rw[go,mr]
  rfl
 ·rename_i mr;unfold w6;rw[lq];by_cases e:k'=k
  ·subst e;have:kvs.find? (λkv=>decide (kv.1=k'))=none:=by
    rw[kB];intro x hx hd;exact mr (aU.mpr ⟨x,hx,hd⟩)
   rw[this];simp
  ·have:¬k=k':=λz=>e z.symm;simp[this,e]
theorem a19(kvs:List (Key×D))(k:Key)(v:D):(putD kvs k v).length<=kvs.length+1:=by
 unfold putD;split<;>simp
theorem oW.put{kvs:List (Key×D)}{k:Key}{ms:List Int}(h:oW kvs)(h1:gm 0 ms=true)(h2:ms.length<=8):oW (putD kvs k (.tup (ms.map .int))):=λk' v hv=>by
 rw[XO] at hv;split at hv
 ·cases hv;exact⟨ms,rfl,h1,h2⟩
 ·exact h k' v hv
theorem oW.get{kvs:List (Key×D)}(h:oW kvs)(k:Key):∃ms:List Int,(w6 kvs k).getD (.tup [])=.tup (ms.map .int)/\gm 0 ms=true/\ms.length<=8:=by
 cases e:w6 kvs k with
 |none=>exact⟨[],rfl,rfl,by simp⟩
 |some v=>obtain⟨ms,rfl,h1,h2⟩:=h k v e;exact⟨ms,rfl,h1,h2⟩
theorem Yg(p:Int->Bool):gm 0 (((List.range 8).map λ(n:Nat)=>(n:Int)).filter p)=true/\(((List.range 8).map λ(n:Nat)=>(n:Int)).filter p).length<=8:=by
 refine⟨Kx (List.Pairwise.filter _ (by decide)) λm hm=>?_,aI (jl _ _) (by decide)⟩;have:=(bJ.mp hm).1;revert this;revert m;intro m _ hm;simp at hm;obtain⟨a,ha,rfl⟩:=hm;omega
theorem List.XB{α:Type}{l:List α}{i:Nat}{x:α}(h:l[i]?=some x):l.set i x=l:=by
 apply cI;intro j;by_cases e:i=j
 ·subst e;rw[aY (aw.mp h).1];exact h.symm
 ·rw[ax e]
section
variable{T:Nat->Option bq}{k d:Nat}{g:G}{Q:KD}{E:KX}
def HD:MS:=match F2.body with
 |.seq _ (.seq _ (.seq _ (.seq _ (.seq _ (.seq _ (.seq _ (.seq _ (.seq (.dX _ _ (.seq _ (.seq _ (.seq (.dX _ _ b) _)))) _))))))))=>b
 |x=>x
theorem Uv(h4:T 4=some E4){w0:Nat}{key wr:Int}{kvs:List (Key×D)}{σ:S}{N:Ends}(hw:g[w0]?=some (.dg kvs))(W:oW kvs)(hk:kvs.length<1000)(hr:0<wr)(pE:wr<1000)(hd:d<w0)(D0:i9 g d)(s0:σ[0]?=some (some (.ref d)))(s5:σ[5]?=some (some (.ref w0)))(s8:σ[8]?=some (some (.int wr)))(LU:σ[13]?=some (some (.int key)))(sl:σ.length=17)(h:∀z iQ g',g'[w0]?=some (.dg iQ)->oW iQ->iQ.length<=kvs.length+1->i9 g' d->(∀i,i≠d->i≠w0->i<g.length->g'[i]?=g[i]?)->g.length<=g'.length->N.nx (σ.set 14 z) g'):wpS (d0 T (k+1)) HD N σ g E:=by
 obtain⟨mG,Ou⟩:∃z,σ[14]?=some z:=⟨_,ak (by omega)⟩
 dsimp[HD,F2];refine Q1 (DN (DQ (wo (yQ (Q2 (w_var s0 (Q2 (w_var s8 (yB ?_)))))))));refine i6 h4 D0 hr (by omega) λr g2 r0 r1 D2 G2=>?_;have dl:=D0.lt;walk_at"";refine if2 (λc=>?_) (λc=>?_)
 ·refine wF (yC (yQ (Q2 (w_var s0 (Q2 (w_lit (yB ?_)))))));refine i6 h4 D2 (by decide) (by decide) λr3 g3 iP ja D3 G3=>?_;have e3:=(G2.trans G3).at (by omega) hw;have t0:(σ.set 14 (some (.int r3)))[0]?=some (some (.ref d)):=by rw[ax (by decide)];exact s0
  have t5:(σ.set 14 (some (.int r3)))[5]?=some (some (.ref w0)):=by rw[ax (by decide)];exact s5
  have EW:(σ.set 14 (some (.int r3)))[13]?=some (some (.int key)):=by rw[ax (by decide)];exact LU
  have LK:(σ.set 14 (some (.int r3)))[14]?=some (some (.int r3)):=aY (by omega);obtain⟨ms,em,_,_⟩:=W.get (.inl key);refine Q1 (JY (wm ?_));refine ZL (b0 T _) (w_lit ⟨8,rfl,by decide,λi ys cF g'=>g'=g3/\ys.length<=i/\(∃z w,cF=[some (.int key),some (.int r3),some (.ref w0),z,w])/\ys=((((List.range i).map λ(n:Nat)=>(n:Int)).filter λs=>decide (s=r3)||ms.any λm=>m==s).map D.int),⟨rfl,by simp,⟨none,none,?_⟩,rfl⟩,λi ys σ g' p=>p.2.1,λi ys cF g' hi p=>?_,λys cF g' p=>?_⟩)
  ·simp[J5,EW,LK,t5,List.replicate]
  ·obtain⟨rfl,hl,⟨z,w,rfl⟩,e⟩:=p;have er:(List.range (i+1)).map (λ(n:Nat)=>(n:Int))=(List.range i).map (λ(n:Nat)=>(n:Int))++[(i:Int)]:=by rw[iY];simp
   have yes:(decide ((i:Int)=r3)||ms.any λm=>m==(i:Int))=true->bg (d0 T (k+1)) (.var 4) [some (.int key),some (.int r3),some (.ref w0),z,some (.int i)] g' (λy g4=>g4=g'/\(ys++[y]).length<=i+1/\(∃z' w',[some (.int key),some (.int r3),some (.ref w0),z,some (D.int i)]=[some (.int key),some (.int r3),some (.ref w0),z',w'])/\(ys++[y])=((((List.range (i+1)).map λ(n:Nat)=>(n:Int)).filter λs=>decide (s=r3)||ms.any λm=>m==s).map D.int)) jS:=λhc=>by
    walk_at"";refine⟨rfl,by simp;omega,⟨_,_,rfl⟩,?_⟩;rw[er,fk,dW,<- e];simp[hc]
   show df _ _ _ _ _ _;walk_at"";refine if2 (λc1=>?_) (λc1=>?_)
   ·refine mO ?_;exact yes (by rw[aA c1];rfl)
   ·walk_at"";refine DB e3 (k:=.inl key) rfl ?_;rw[em];walk_at"";refine wN (CQ ?_);walk_at"";cases hc:(ms.any λm=>m==(i:Int)) with
    |true =>
     refine mO ?_;exact yes (by rw[hc];simp)
    |false =>
     refine pZ ?_;refine⟨rfl,by omega,⟨_,_,rfl⟩,?_⟩;rw[er,fk,dW,<- e];simp[hc,c1]
  ·obtain⟨rfl,hl,_,e⟩:=p;subst e;refine Pm (a9 b8) ?_;obtain⟨f1,f2⟩:=Yg λs=>decide (s=r3)||ms.any λm=>m==s
   refine w_var t5 (w_var EW ?_);refine DI (n8 e3) (k:=.inl key) rfl (by omega) ?_;refine h _ _ _ (get_set (n8 e3)) (W.put f1 f2) (a19 _ _ _) ((D3.snoc _).K1 hd) (λi h1 h2 h3=>?_) ?_
   ·rw[ax (cx h2),aL (ay h3 (G2.trans G3).len)];exact(G2.trans G3).old i h1 h3
   ·have:=(G2.trans G3).len;simp;omega
 ·refine E5 ?_;have e2:=G2.at (by omega) hw;have:=h mG kvs g2 e2 W (by omega) D2 (λi h1 h2 h3=>G2.old i h1 h3) G2.len
  rwa [List.XB Ou] at this
end
section
variable{T:Nat->Option bq}{k d:Nat}{g:G}{Q:KD}{E:KX}
def K8:MS:=match F2.body with
 |.seq _ (.seq _ (.seq _ (.seq _ (.seq _ (.seq _ (.seq _ (.seq _ (.seq (.dX _ _ b) _))))))))=>b
 |x=>x
structure jy(d s0 w0 f0 i:Nat)(g:G)(f y:Int):Prop where
 Fb:∃l,g[s0]?=some (.lst l)/\Dn l f/\l.length<=i
 fr:1<=f/\f<=1+i
 Lw:∃kvs,g[w0]?=some (.dg kvs)/\oW kvs/\kvs.length<=2*i
 found:∃cs:List b7,g[f0]?=some (.lst (cs.map b7.d))/\cs.length=i/\∀c∈cs,jT c
 year:0<=y/\y<=9999
 dr:i9 g d
theorem aE3{s0 w0 f0 i n0:Nat}{n v f y st wr sh:Int}{xj Lv Lu Ls zI zH:Option D}(h4:T 4=some E4)(vK:T 23=some F6)(S:jy d s0 w0 f0 i g f y)(hi:i<=100)(hv:1<=v/\v<=100)(fq:1<=st/\st<=96)(jN:0<wr/\wr<1000)(kf:0<=sh/\sh<=2)(o1:d<n0)(o2:n0<=s0)(o3:s0<w0)(o4:w0<f0){N:Ends}(h:∀f' y' uv nS mG uu ur g',jy d s0 w0 f0 (i+1) g' f' y'->(∀j,j≠d->j<n0->g'[j]?=g[j]?)->g.length<=g'.length->N.nx [some (.ref d),some (.int n),some (.int v),some (.ref s0),some (.int f'),some (.ref w0),some (.int y'),some (.int st),some (.int wr),some (.int sh),some (.ref f0),xj,uv,nS,mG,uu,ur] g') :
  wpS (d0 T (k+2)) K8 N [some (.ref d),some (.int n),some (.int v),some (.ref s0),some (.int f),some (.ref w0),some (.int y),some (.int st),some (.int wr),some (.int sh),some (.ref f0),xj,Lv,Lu,Ls,zI,zH] g E:=by
 obtain⟨⟨l,es,hs,hl⟩,⟨f1,f2⟩,⟨kvs,ew,W,hk⟩,⟨cs,ef,hc,hg⟩,⟨y0,y1⟩,D0⟩:=S;have lf:=m8 ef;dsimp[K8,F2];walk_at"";refine YR h4 vK es (by omega) hs f1 (by omega) D0 λl1 f' g1 ft jD FR f3 f5 gS D1 ox gG=>?_;have GK:g1[w0]?=some (.dg kvs):=(ox w0 (by omega) (by omega) (m8 ew)).trans ew;have GQ:g1[f0]?=some (.lst (cs.map b7.d)):=(ox f0 (by omega) (by omega) lf).trans ef;walk_at"";have gg:0<l1.length:=EK.mpr ft;refine i6 (n:=(l1.length:Int)) h4 D1 (by omega) (by omega) λr2 g2 iz iy D2 G2=>?_;have nL:=G2.at (by omega) gS;have GJ:=G2.at (by omega) GK;have GP:=G2.at (by omega) GQ;obtain⟨x,hx,hm⟩:=K4 (l:=l1) iz iy;obtain⟨ns,rfl,qV⟩:=id FR;obtain⟨k1,lB,rfl⟩:=aT.mp hm;refine p8 (a9 nL) hx ?_;walk_at"";refine i6 (n:=2+v) h4 D2 (by omega) (by omega) λr3 g3 iP ja D3 G3=>?_;have BB:=G3.at (by omega) nL;have GI:=G3.at (by omega) GJ;have BD:=G3.at (by omega) GP;walk_at"";have kb1:=qV k1 lB;have uM:∀j,j≠d->j<n0->g3[j]?=g[j]?:=λj a b=>by
  have lj:j<g.length:=by omega
  rw[G3.old j a (by have:=G2.len;(clear hi hv fq jN kf o1 hl f1 f2 hk hc y0 y1 f3 f5 iz jD gg iy iP ja kb1 a lj;omega)),G2.old j a (by omega),ox j a (by omega) lj]
 have iA:g.length<=g3.length:=by have:=G2.len;have:=G3.len;(clear hi hv fq jN kf o1 o2 o3 o4 hl f1 f2 hk hc y0 y1 lf f3 f5 iz jD gg iy iP ja kb1;omega)
 refine z9 (b0 T _) (vg (b0 T _) ?_);walk_at"";refine ⟨_,rfl,_,λj σ g'=>∃ iQ nS mG,σ=[some (.ref d),some (.int n),some (.int v),some (.ref s0),some (.int f'),some (.ref w0),some (.int y),some (.int st),some (.int wr),some (.int sh),some (.ref f0),xj,some (.tup [.int k1,.int (50 + r3)]),nS,mG,zI,zH]/\g'[w0]?=some (.dg iQ)/\oW iQ/\iQ.length <= 2 * i + j/\i9 g' d/\(∀ j,j ≠ d->j ≠ w0->j < g3.length->g'[j]?=g3[j]?)/\g3.length <= g'.length,
  λ_ _ _ _=>s9,⟨kvs,_,_,rfl,GI,W,by omega,D3,λ_ _ _ _=>rfl,av _⟩,λj x σ g' hx p=>?_,λσ g' p=>?_⟩
 ·obtain⟨iQ,nS,mG,rfl,Of,W',oe,D',zZ,uX⟩:=p;have gh:∃key:Int,x=.int key/\j<2:=by
   match j,hx with
   |0,hx=>cases hx;exact⟨_,rfl,by decide⟩
   |1,hx=>cases hx;exact⟨_,rfl,by decide⟩
   |j+2,hx=>simp at hx
  obtain⟨key,rfl,hj⟩:=gh;show wpS _ _ _ _ _ _;refine Uv (k:=k+1) h4 Of W' (by(clear hv fq jN kf o1 o2 o3 o4 hl f1 f2 hk y0 y1 lf f3 f5 gG iz jD gg iy iP ja kb1 iA uX;omega)) jN.1 jN.2 (by omega) D' rfl rfl rfl rfl rfl λz Ag g2' e2 W2 kh D2' qL uW=>?_;exact⟨Ag,_,_,rfl,e2,W2,by(clear hi hv fq jN kf o1 o2 o3 o4 hl f1 f2 hk y0 y1 lf f3 f5 gG iz jD gg iy iP ja kb1 iA uX hj uW;omega),D2',λj a b c=>(qL j a b (by omega)).trans (zZ j a b c),by(clear hi hv fq jN kf o1 o2 o3 o4 hl f1 f2 hk hc y0 y1 lf f3 f5 gG iz jD gg iy iP ja kb1 iA oe hj kh;omega)⟩
 obtain⟨vb,nS,mG,rfl,Oe,W4,iR,D4,ow,jr⟩:=p;have Oj:g'[s0]?=some (.lst (ns.map D.int)):=(ow s0 (by omega) (by omega) (m8 BB)).trans BB;have Oo:g'[f0]?=some (.lst (cs.map b7.d)):=(ow f0 (by omega) (by omega) (m8 BD)).trans BD;have uL:∀j,j≠d->j<n0->g'[j]?=g[j]?:=λj a b=>(ow j a (by omega) (by(clear hi hv fq jN kf o1 hl f1 f2 hk hc y0 y1 f3 f5 gG iz jD gg iy iP ja kb1 iR jr a;omega))).trans (uM j a b);clear ow uM G2 G3 gS GK GQ nL GJ GP BB GI BD ox;have iR:vb.length<=2*(i+1):=by simp at iR;(clear hi hv fq jN kf o1 o2 o3 o4 hl f1 f2 hk y0 y1 lf f3 f5 gG iz jD gg iy iP ja kb1 iA jr;omega)
 show wpS _ _ _ _ _ _;walk_at"";refine i6 h4 D4 (by decide) (by decide) λr5 g5 lz ly D5 G5=>?_;walk_at"";have tail:∀(y':Int) (g6:G),0<=y'->y'<=9999->i9 g6 d->Gr d g' g6->wpS (d0 T (k+2)) (j4 (j4 (j4 (j4 K8)))) N [some (.ref d),some (.int n),some (.int v),some (.ref s0),some (.int f'),some (.ref w0),some (.int y'),some (.int st),some (.int wr),some (.int sh),some (.ref f0),xj,some (.tup [.int k1,.int (50+r3)]),nS,mG,zI,zH] g6 E:=by
  intro y' g6 mI mH D6 G6;have Oi:=G6.at (by omega) Oj;have Od:=G6.at (by omega) Oe;have ye:=G6.at (by omega) Oo;dsimp[K8,F2,j4];walk_at"";refine ZM (b0 T _) ?_;walk_at"";refine⟨_,rfl,by simp,λj ys σ g7=>g7=g6/\(∃z w,σ=[some (.int sh),some (.int st),z,w])/\ys=([k1,50+r3].take j).map (λkey=>D.int (1+sh+key*st % 97)),⟨rfl,⟨none,none,rfl⟩,rfl⟩,λj ys σ g7 p=>?_,λj x ys σ g7 hx p=>?_,λys σ g7 p=>?_⟩
  ·obtain⟨rfl,_,rfl⟩:=p;simp;omega
  ·obtain⟨rfl,⟨z,w,rfl⟩,rfl⟩:=p;have gh:∃key:Int,x=.int key/\([k1,50+r3].take j).map (λkey=>D.int (1+sh+key*st % 97))++[D.int (1+sh+key*st % 97)]=([k1,50+r3].take (j+1)).map (λkey=>D.int (1+sh+key*st % 97)):=by
    match j,hx with
    |0,hx=>cases hx;exact⟨_,rfl,rfl⟩
    |1,hx=>cases hx;exact⟨_,rfl,rfl⟩
    |j+2,hx=>simp at hx
   obtain⟨key,rfl,he⟩:=gh;show df _ _ _ _ _ _;walk_at"";refine P2 (X4 (by omega) (by omega)) ?_;walk_at"";exact⟨rfl,⟨_,_,rfl⟩,he⟩
  obtain⟨rfl,_,rfl⟩:=p;have eN:(g7++[O.lst [D.int (1+sh+k1*st % 97),D.int (1+sh+(50+r3)*st % 97)]])[g7.length]?=some (.lst [D.int (1+sh+k1*st % 97),D.int (1+sh+(50+r3)*st % 97)]):=b8;show wpS _ _ _ _ (g7++[O.lst [D.int (1+sh+k1*st % 97),D.int (1+sh+(50+r3)*st % 97)]]) _;walk_at"";refine i6 h4 (D6.snoc _) (by decide) (by decide) λr8 g8 nh ng D8 G8=>?_;have l7:=D6.lt;have eN8:=G8.at (by omega) eN;have Oh:=G8.at (by omega) (n8 Oi);have BA:=G8.at (by omega) (n8 Od);have GO:=G8.at (by omega) (n8 ye);walk_at"";refine P2 (DY (by omega) (by omega)) ?_;walk_at"";obtain⟨lm,el,gl,ll⟩:=W4.get (.inl k1);obtain⟨um,eu,gu,lu⟩:=W4.get (.inl (50+r3));refine DB BA (k:=.inl k1) rfl ?_;rw[el];walk_at"";refine DB BA (k:=.inl (50+r3)) rfl ?_;rw[eu];walk_at"";refine O8 GO (by simp;omega) ?_;generalize jO:y'*(if decide (0<r8)=true then 1 else 0)=ty;have mf:0<=ty/\ty<=9999:=by
   rw[<- jO];split<;>simp<;>omega
  walk_at"";refine h f' y' _ _ _ _ _ _ ⟨⟨_,d5 Oh (by omega),FR,by(clear hi hv fq jN kf o1 o2 o3 o4 f1 f2 hk y0 y1 lf f3 f5 gG iz gg iy iP ja kb1 iA jr iR lz ly mI mH nh ng l7 ll lu jO mf;omega)⟩,⟨by omega,by(clear hi hv fq jN kf o1 o2 o3 o4 hl f1 hk y0 y1 lf gG iz jD gg iy iP ja kb1 iA jr iR lz ly mI mH nh ng l7 ll lu jO mf;omega)⟩,⟨vb,d5 BA (by omega),W4,iR⟩,⟨cs++[⟨1+sh+k1*st % 97,lm,1+sh+(50+r3)*st % 97,um,ty⟩],?_,by simp[hc],?_⟩,⟨mI,mH⟩,D8.K1 (by omega)⟩ (λj a b=>?_) ?_
  ·rw[get_set GO];simp[b7.d]
  ·intro c jw;rcases aS.mp jw with z|z
   ·exact hg c z
   ·simp at z;subst z;have m1:=fh (k1*st) (show(97:Int)≠0 by decide);have m2:=dP (k1*st) (show(0:Int)<97 by decide);have m3:=fh ((50+r3)*st) (show(97:Int)≠0 by decide);have m4:=dP ((50+r3)*st) (show(0:Int)<97 by decide);exact jT.mk' (by(clear hi hv fq jN o1 o2 o3 o4 hl f1 f2 hk hc y0 y1 lf f3 f5 gG iz jD gg iy iP ja kb1 iA jr iR lz ly mI mH nh ng l7 ll lu jO mf m2 m3 m4;omega)) (by(clear hi hv fq jN o1 o2 o3 o4 hl f1 f2 hk hc y0 y1 lf f3 f5 gG iz jD gg iy iP ja kb1 iA jr iR lz ly mI mH nh ng l7 ll lu jO mf m2 m3 m4;omega)) (by(clear hi hv fq jN o1 o2 o3 o4 hl f1 f2 hk hc y0 y1 lf f3 f5 gG iz jD gg iy iP ja kb1 iA jr iR lz ly mI mH nh ng l7 ll lu jO mf m1 m2 m4;omega)) (by(clear hi hv fq jN o1 o2 o3 o4 hl f1 f2 hk hc y0 y1 lf f3 f5 gG iz jD gg iy iP ja kb1 iA jr iR lz ly mI mH nh ng l7 ll lu jO mf m1 m2 m4;omega)) mf.1 mf.2 gl gu ll lu
  ·have lj:j<g'.length:=by(clear hi hv fq jN kf o1 hl f1 f2 hk hc y0 y1 f3 f5 gG iz jD gg iy iP ja kb1 iR lz ly mI mH nh ng l7 ll lu jO mf a;omega)
   rw[ax (by(clear hi hv fq jN kf o1 hl f1 f2 hk hc y0 y1 lf f3 f5 gG iz jD gg iy iP ja kb1 iA jr iR lz ly mI mH nh ng l7 ll lu jO mf a lj;omega)),G8.old j a (by have:=G6.len;simp;(clear hi hv fq jN kf o1 o2 o3 o4 hl f1 f2 hk hc y0 y1 lf f3 f5 gG iz jD gg iy iP ja kb1 iA jr iR lz ly mI mH nh ng l7 ll lu jO mf a b;omega)),aL (by have:=G6.len;(clear hi hv fq jN kf o1 o2 o3 o4 hl f1 f2 hk hc y0 y1 lf f3 f5 gG iz jD gg iy iP ja kb1 iA jr iR lz ly mI mH nh ng l7 ll lu jO mf a b;omega)),G6.old j a lj];exact uL j a b
  ·have:=G6.len;have:=G8.len;simp at this ⊢
   (clear hi hv fq jN kf o1 o2 o3 o4 hl f1 f2 hk hc y0 y1 lf f3 f5 gG iz jD gg iy iP ja kb1 iR lz ly mI mH nh ng l7 ll lu jO mf;omega)
 refine if2 (λc=>?_) (λc=>?_)
 ·walk_at"";refine i6 h4 D5 (by decide) (by decide) λr6 g6 Fj Fi D6 G6=>?_;walk_at"";generalize Am:(if y+1+r6<9999 then y+1+r6 else 9999)=y';have:0<=y'/\y'<=9999:=by rw[<- Am];split<;>omega
  exact tail y' g6 this.1 this.2 D6 (G5.trans G6)
 ·refine E5 ?_;exact tail y g5 y0 y1 D5 G5
theorem YU(h4:T 4=some E4)(vK:T 23=some F6)(NK:T 24=some F2){n v:Int}(hn:0<=n/\n<=100)(hv:1<=v/\v<=100)(D0:i9 g d)(h:∀(cs:List b7) a g',(cs.length:Int)=n->(∀c∈cs,jT c)->g'[a]?=some (.lst (cs.map b7.d))->g.length<=a->i9 g' d->Gr d g g'->Q (.ref a) g'):d0 T (k+3) 24 [.ref d,.int n,.int v] g Q E:=by
 refine call_of NK rfl ?_;dsimp[F2,d4,List.replicate];have dl:=D0.lt;walk_at"";have D1:i9 (g++[O.lst []]++[O.dg []]++[O.lst [.int 0,.int 1,.int 1350]]) d:=((D0.snoc _).snoc _).snoc _;have G1:Gr d g (g++[O.lst []]++[O.dg []]++[O.lst [.int 0,.int 1,.int 1350]]):=((Gr.snoc _ _ _).trans (Gr.snoc _ _ _)).trans (Gr.snoc _ _ _);have e0:(g++[O.lst []]++[O.dg []]++[O.lst [.int 0,.int 1,.int 1350]])[g.length]?=some (.lst []):=n8 (n8 b8);have e1:(g++[O.lst []]++[O.dg []]++[O.lst [.int 0,.int 1,.int 1350]])[(g++[O.lst []]).length]?=some (.dg []):=n8 b8;have e2:(g++[O.lst []]++[O.dg []]++[O.lst [.int 0,.int 1,.int 1350]])[(g++[O.lst []]++[O.dg []]).length]?=some (.lst [.int 0,.int 1,.int 1350]):=b8;have n1:(g++[O.lst []]).length=g.length+1:=by simp
 have n2:(g++[O.lst []]++[O.dg []]).length=g.length+2:=by simp
 rw[n1] at e1 ⊢;rw[n2] at e2 ⊢;generalize g++[O.lst []]++[O.dg []]++[O.lst [.int 0,.int 1,.int 1350]]=g1 at *;refine i6 h4 D1 (by decide) (by decide) λr2 g2 iz iy D2 G2=>?_;have Ox:=G2.at (by omega) e0;have BG:=G2.at (by omega) e1;have Ot:=G2.at (by omega) e2;obtain⟨x,hx,hm⟩:=K4 (l:=[D.int 0,.int 1,.int 1350]) iz (by simpa using iy);have hy:∃y:Int,x=.int y/\0<=y/\y<=9999:=by
  simp only[List.mem_cons,List.mem_nil_iff,or_false] at hm;rcases hm with rfl|rfl|rfl<;>exact⟨_,rfl,by decide,by decide⟩
 obtain⟨y,rfl,y0,y1⟩:=hy;refine p8 (a9 Ot) hx ?_;walk_at"";refine i6 h4 D2 (by decide) (by decide) λr3 g3 iP ja D3 G3=>?_;walk_at"";refine i6 h4 D3 (by decide) (by decide) λr4 g4 qE sN D4 G4=>?_;walk_at"";refine i6 h4 D4 (by decide) (by decide) λr5 g5 lz ly D5 G5=>?_;have zv:=G3.trans (G4.trans G5);have Ow:=zv.at (by omega) Ox;have GR:=zv.at (by omega) BG;have l5:=(G1.trans (G2.trans zv)).len;have lw:=m8 GR;walk_at"";generalize kf:(if r5-6>0 then r5-6 else 0)=sh;have EZ:0<=sh/\sh<=2:=by rw[<- kf];split<;>omega
 have yf:(g5++[O.lst []])[g5.length]?=some (.lst []):=b8;refine z9 (b0 T _) (V1 (b0 T _) ?_);walk_at"";refine ⟨by omega,by omega,i8 0 n.toNat,λi σ g'=>∃ f' y' zD uv nS mG uu ur,σ=[some (.ref d),some (.int n),some (.int v),some (.ref g.length),some (.int f'),some (.ref (g.length + 1)),some (.int y'),some (.int (1 + r3)),some (.int (2 + r4)),some (.int sh),some (.ref g5.length),zD,uv,nS,mG,uu,ur]/\jy d g.length (g.length + 1) g5.length i g' f' y'/\Gr d g g',
  λ_ _ _ _=>s9,⟨1,y,none,none,none,none,none,none,rfl,⟨⟨[],n8 Ow,⟨[],rfl,by simp⟩,by simp⟩,⟨by omega,by omega⟩,⟨[],n8 GR,(λk v hv=>by cases hv),by simp⟩,⟨[],yf,rfl,by simp⟩,⟨y0,y1⟩,D5.snoc _⟩,(G1.trans (G2.trans zv)).trans (Gr.snoc _ _ _)⟩,λi x σ g' hx p=>?_,λσ g' p=>?_⟩
 ·obtain⟨f',y',zD,uv,nS,mG,uu,ur,rfl,S,G'⟩:=p;obtain⟨hi,rfl⟩:=x6 hx;show wpS _ K8 _ _ _ _;refine aE3 (n0:=g.length) h4 vK S (by omega) hv ⟨by omega,by omega⟩ ⟨by omega,by omega⟩ EZ dl (av _) (by omega) (by omega) λf2 y2 a b c e f g2 S2 qL uW=>?_;exact⟨f2,y2,_,_,_,_,_,_,rfl,S2,⟨by have:=G'.len;(clear hn hv dl iz iy y0 y1 iP ja qE sN lz ly l5 lw kf EZ hi;omega),λj h1 h2=>(qL j h1 h2).trans (G'.old j h1 h2)⟩⟩
 ·obtain⟨f',y',zD,uv,nS,mG,uu,ur,rfl,S,G'⟩:=p;show wpS _ _ _ _ _ _;walk_at"";obtain⟨cs,ef,hc,hg⟩:=S.found;rw[j9] at hc;exact h cs _ _ (by omega) hg ef (by omega) S.dr G'
end
def yY:bq:=⟨2,8,(.seq (.set 2 (cc .kJ (bo 1) (cc (.bin .Add) (cc (.bin .Add) (cc (.bin .FloorDiv) bx (bo 2)) (cc (.bin .Mod) bx (bo 2))) (bo 1)))) (.seq (.set 3 (cc (.bin .Add) bG (cc (.nU false true) (.call 21 (eE aM bG)) (cc (.bin .FloorDiv) bx (bo 2))))) (.seq (.set 4 (.call 4 (eE aM (bo 3)))) (.seq (.set 5 (.prim .lst .nil)) (.seq (.dX (.one 6) (.eG bx) (.seq (.set 7 (da (.prim .lst (iD (cc (.bin .Add) (bo 1000) fO) (bo 0) (cc (.bin .Add) (bo 1) (cc (.bin .FloorDiv) (cc (.bin .Mult) (bo 2) fO) (cc .max (bo 1) bx))))) dI)) (.seq (.expr (.ff .append fC (fP (.prim .tup (uw (da cv fO) (.prim .tup .nil) (cc (.bin .Add) (bo 1) (.call 4 (eE aM (bo 9)))) (.prim .tup .nil) gH))))) .pass))) (.seq (.ret fC) .pass))))))⟩
def O9:bq:=⟨2,9,(.seq (.set 2 (.call 4 (eE aM (cc (.bin .Add) bx (bo 1))))) (.seq (.set 3 (cc (.bin .Add) (bo 1) (.call 4 (eE aM (bo 3))))) (.seq (.set 4 (.call 4 (eE aM (bo 5)))) (.seq (.ifs (fo .Eq dI (bo 0)) (.seq (.ret (cc .tup (.comp [0] 3 (.one 2) (.eG bG) .no (.call 22 (fP aM))) cv)) .pass) .pass) (.seq (.ifs (fo .Eq dI (bo 4)) (.seq (.set 3 (cc (.bin .Add) (bo 1) (.call 4 (eE aM (bo 6))))) .pass) .pass) (.seq (.set 5 (.ite (fo .Eq dI (bo 4)) (.call 25 (eE aM bG)) (.call 24 (iD aM bG cv)))) (.seq (.set 5 (.comp [5] 3 (.one 2) (.fF (.call 21 (eE aM (dY .jM bG)))) .no (da aM bG))) (.seq (.ifs (.dS (fo .Eq dI (bo 1)) (fo .Gt bG (bo 0))) (.seq (.set 6 (.call 4 (eE aM bG))) (.seq (.set 7 (da fC fO)) (.seq (.set 8 (da fC (.call 4 (eE aM bG)))) (.seq (.eW fC fO (.prim .tup (uw (da gH (bo 0)) (da kK (bo 1)) (da kK (bo 2)) (da gH (bo 3)) (da (.prim .lst (iD (da gH (bo 4)) (da kK (bo 4)) (bo 9999))) (.call 4 (eE aM (bo 3))))))) .pass)))) .pass) (.seq (.ifs (fo .Eq dI (bo 2)) (.seq (.set 3 (bo 1)) .pass) .pass) (.seq (.ret (cc .tup fC cv)) .pass))))))))))⟩
theorem JC{p:Int->Prop}:∀{l:List D},(∀x∈l,∃i:Int,x=.int i/\p i)->∃ns:List Int,l=ns.map .int/\∀i∈ns,p i
 |[],_=>⟨[],rfl,by simp⟩
 |x::r,h=>by
  obtain⟨i,rfl,hi⟩:=h x (by simp);obtain⟨ns,rfl,hn⟩:=JC (l:=r) λy hy=>h y (by simp[hy]);exact⟨i::ns,rfl,λj hj=>(aE.mp hj).elim (λz=>z▸hi) (hn j)⟩
theorem JR{lo:Int}{n:Nat}{x:D}(h:x∈i8 lo n):∃i:Int,x=.int i/\lo<=i/\i<lo+n:=by
 unfold i8 at h;obtain⟨k,hk,rfl⟩:=aT.mp h;exact⟨_,rfl,by omega,by have:=bp.mp hk;omega⟩
theorem PD{α:Type}{l:List α}{n:Nat}(h:n<=l.length):cut l none (some (n:Int))=l.take n:=by
 have:¬((n:Int)<0):=by omega
 unfold cut HT.dQ;simp[this]
theorem Ss{ns:List Int}{r:Int}(h0:0<=r)(h1:r<ns.length):∃i∈ns,gz (ns.map D.int) r=some (.int i):=by
 obtain⟨v,hv,hm⟩:=K4 (l:=ns.map D.int) h0 (by simpa using h1);obtain⟨i,hi,rfl⟩:=aT.mp hm;exact⟨i,hi,hv⟩
theorem Cy{cs:List b7}{r:Int}(h0:0<=r)(h1:r<cs.length):∃c∈cs,gz (cs.map b7.d) r=some c.d:=by
 obtain⟨v,hv,hm⟩:=K4 (l:=cs.map b7.d) h0 (by simpa using h1);obtain⟨i,hi,rfl⟩:=aT.mp hm;exact⟨i,hi,hv⟩
section
variable{T:Nat->Option bq}{k d:Nat}{g:G}{Q:KD}{E:KX}
theorem Yy(h4:T 4=some E4)(Bh:T 21=some Q8)(NJ:T 25=some yY){n:Int}(hn:0<=n/\n<=100)(D0:i9 g d)(h:∀(cs:List b7) a g',(cs.length:Int)=n->(∀c∈cs,jT c)->g'[a]?=some (.lst (cs.map b7.d))->g.length<=a->i9 g' d->Gr d g g'->Q (.ref a) g'):d0 T (k+3) 25 [.ref d,.int n] g Q E:=by
 refine call_of NJ rfl ?_;dsimp[yY,d4,List.replicate];have dl:=D0.lt;walk_at"";refine Mp (i:=1) (j:=n / 2+n % 2+1) (by omega) ?_;walk_at"";have hh:∃hf:Nat,(n / 2+n % 2+1-1).toNat=hf/\(hf:Int)=n / 2+n % 2/\hf<=50:=⟨_,rfl,by omega,by omega⟩
 obtain⟨hf,AK,Gd,oH⟩:=hh;rw[AK];have e1:(g++[O.lst (i8 1 hf)])[g.length]?=some (.lst (i8 1 hf)):=b8;refine IJ h4 Bh e1 (by rw[j9];omega) (by omega) (D0.snoc _) λl' b g2 hp e2 hb D2 G2=>?_;have BG:=G2.at (by omega) e1;walk_at"";refine Jr (a9 e2) ?_;have hle:l'.length=hf:=by rw[hp.length_eq,j9]
 have hc:cut l' none (some (n / 2))=l'.take (n / 2).toNat:=by
  have:=PD (l:=l') (n:=(n / 2).toNat) (by omega)
  rwa [show(((n / 2).toNat:Nat):Int)=n / 2 by omega] at this
 rw[hc];refine Dt (n8 BG) b8 (by rw[j9,cY];omega) ?_;obtain⟨rl,er,hr⟩:=JC (p:=λi=>1<=i/\i<=50) (l:=i8 1 hf++l'.take (n / 2).toNat) λx hx=>by
  have pD:x∈i8 1 hf:=by
   rcases aS.mp hx with z|z
   ·exact z
   ·exact hp.mem_iff.mp (dw z)
  obtain⟨i,rfl,h1,h2⟩:=JR pD;exact⟨i,rfl,h1,by omega⟩
 have hrl:(rl.length:Int)=n:=by
  have:=fx List.length er;rw[bj,j9,cY,ai] at this;omega
 rw[er];have D3:=(D2.snoc (.lst (l'.take (n / 2).toNat))).snoc (.lst (rl.map D.int));have G3:=(Gr.snoc d g (.lst (i8 1 hf))).trans (G2.trans ((Gr.snoc d g2 (.lst (l'.take (n / 2).toNat))).trans (Gr.snoc d _ (.lst (rl.map D.int)))));have e3:(g2++[O.lst (l'.take (n / 2).toNat)]++[O.lst (rl.map D.int)])[(g2++[O.lst (l'.take (n / 2).toNat)]).length]?=some (.lst (rl.map D.int)):=b8;have l3:g.length+1<=(g2++[O.lst (l'.take (n / 2).toNat)]).length:=by have:=G2.len;simp at this ⊢;omega
 generalize (g2++[O.lst (l'.take (n / 2).toNat)]).length=Fd at *;generalize g2++[O.lst (l'.take (n / 2).toNat)]++[O.lst (rl.map D.int)]=g3 at *;walk_at"";refine i6 h4 D3 (by decide) (by decide) λr4 g4 qE sN D4 G4=>?_;have e4:=G4.at (by omega) e3;walk_at"";have Lb:=G3.trans G4;have l4:=Lb.len;have e5:(g4++[O.lst []])[g4.length]?=some (.lst ([].map b7.d)):=b8;have FC:=m8 e4;refine z9 (b0 T _) (V1 (b0 T _) ?_);walk_at"";refine ⟨by omega,by omega,i8 0 n.toNat,λi σ g'=>∃ cs z6 z7,σ=[some (.ref d),some (.int n),some (.ref g.length),some (.ref Fd),some (.int r4),some (.ref g4.length),z6,z7]/\cs.length=i/\(∀ c ∈ cs,jT c)/\g'[g4.length]?=some (.lst (cs.map b7.d))/\g'[Fd]?=some (.lst (rl.map D.int))/\i9 g' d/\Gr d g g',
  λ_ _ _ _=>s9,⟨[],none,none,rfl,rfl,by simp,e5,n8 e4,D4.snoc _,Lb.trans (Gr.snoc _ _ _)⟩,λi x σ g' hx p=>?_,λσ g' p=>?_⟩
 ·obtain⟨cs,z6,z7,rfl,hc,hg,ef,erw,D',G'⟩:=p;obtain⟨hi,rfl⟩:=x6 hx;show wpS _ _ _ _ _ _;walk_at"";refine P2 (DY (by decide) (by decide)) ?_;walk_at"";refine yk ⟨by split<;>omega,by split<;>omega⟩ ?_;walk_at"";obtain⟨yv,hy,Aj⟩:∃yv:Int,gz [D.int (1000+(0+(i:Int))),D.int 0,D.int (1+2*(0+(i:Int)) / (if n>1 then n else 1))] r4=some (.int yv)/\0<=yv/\yv<=9999:=by
   have dv0:0<=2*(0+(i:Int)) / (if n>1 then n else 1):=Int.ediv_nonneg (by omega) (by split<;>omega);have dv1:2*(0+(i:Int)) / (if n>1 then n else 1)<=2*(0+(i:Int)):=Int.ediv_le_self _ (by omega);have:r4=0\/r4=1\/r4=2:=by omega
   rcases this with rfl|rfl|rfl
   ·exact⟨_,rfl,by omega,by(clear dl AK oH hb l3 l4 FC hc qE sN;omega)⟩
   ·exact⟨_,rfl,by omega,by omega⟩
   ·exact⟨_,rfl,by omega,by omega⟩
  refine p8 (a9 b8) hy ?_;walk_at"";obtain⟨lo,pH,AD⟩:=Ss (ns:=rl) (r:=0+(i:Int)) (by omega) (by(clear hn dl AK oH hb l3 qE sN l4 FC Aj;omega));have lf:=m8 ef;refine And.intro (W5 (n8 ef)) ?_;walk_at"";refine p8 (a9 (n8 erw)) AD ?_;walk_at"";refine i6 h4 (D'.snoc _) (by decide) (by decide) λr6 g6 Fj Fi D6 G6=>?_;have ye:=G6.at (by omega) (n8 ef);have Ol:=G6.at (by omega) (n8 erw);walk_at"";refine O8 ye (by simp;omega) ?_;walk_at"";have hlb:=hr lo pH;refine⟨cs++[⟨lo,[],1+r6,[],yv⟩],_,_,rfl,by simp[hc],?_,?_,d5 Ol (by omega),D6.K1 (by omega),(G'.trans ((Gr.snoc _ _ _).trans G6)).K1 (by omega)⟩
  ·intro c jw;rcases aS.mp jw with z|z
   ·exact hg c z
   ·simp at z;subst z;exact jT.mk' (by omega) (by omega) (by omega) (by omega) Aj.1 Aj.2 rfl rfl (by simp) (by simp)
  ·rw[get_set ye];simp[b7.d]
 ·obtain⟨cs,z6,z7,rfl,hc,hg,ef,erw,D',G'⟩:=p;show wpS _ _ _ _ _ _;walk_at"";rw[j9] at hc;exact h cs _ _ (by omega) hg ef (by omega) D' G'
end
section
variable{T:Nat->Option bq}{k d:Nat}{g:G}{Q:KD}{E:KX}
structure LF(T:Nat->Option bq):Prop where
 pull:T 4=some E4
 order:T 21=some Q8
 any:T 22=some zh
 qy:T 23=some F6
 qv:T 24=some F2
 opened:T 25=some yY
 list:T 26=some O9
theorem Zl(hT:LF T){n:Int}(hn:0<=n/\n<=99)(D0:i9 g d)(h:∀(cs:List b7) a (v:Int) g',(cs.length:Int)<=n->(∀c∈cs,jT c)->g'[a]?=some (.lst (cs.map b7.d))->g.length<=a->1<=v->v<=6->i9 g' d->Gr d g g'->Q (.tup [.ref a,.int v]) g'):d0 T (k+4) 26 [.ref d,.int n] g Q E:=by
 refine call_of hT.list rfl ?_;dsimp[O9,d4,List.replicate];have dl:=D0.lt;walk_at"";refine i6 (n:=n+1) hT.pull D0 (by omega) (by omega) λm g1 m0 m1 D1 G1=>?_;walk_at"";refine i6 hT.pull D1 (by decide) (by decide) λr2 g2 iz iy D2 G2=>?_;walk_at"";refine i6 hT.pull D2 (by decide) (by decide) λway g3 w0 w1 D3 G3=>?_;have zw:=G1.trans (G2.trans G3);have l3:=zw.len;walk_at"";refine if2 (λc=>?_) (λc=>?_)
 ·walk_at"";refine J7 (b0 T _) (V1 (b0 T _) ?_);walk_at"";refine⟨by omega,by omega,i8 0 m.toNat,λi ys σ g'=>∃cs z1 z2,ys=cs.map b7.d/\cs.length=i/\(∀c∈cs,jT c)/\σ=[some (.ref d),z1,z2]/\i9 g' d/\Gr d g g',by rw[j9];omega,λi ys σ g' p=>⟨s9,?_⟩,⟨[],none,none,rfl,rfl,by simp,rfl,D3,zw⟩,λi x ys σ g' hx p=>?_,λys σ g' p=>?_⟩
  ·obtain⟨cs,z1,z2,rfl,hc,_⟩:=p;simp[hc]
  ·obtain⟨cs,z1,z2,rfl,hc,hg,rfl,D',G'⟩:=p;show df _ _ _ _ _ _;walk_at"";refine ZN hT.pull hT.any D' λc0 g4 gc D4 G4=>?_;refine⟨cs++[c0],_,_,by simp,by simp[hc],λc1 rh=>?_,rfl,D4,G'.trans G4⟩;rcases aS.mp rh with z|z
   ·exact hg c1 z
   ·simp at z;subst z;exact gc
  ·obtain⟨cs,z1,z2,rfl,hc,hg,rfl,D',G'⟩:=p;rw[j9] at hc;walk_at"";exact h cs _ _ _ (by omega) hg b8 G'.len (by omega) (by omega) (D'.snoc _) (G'.trans (Gr.snoc _ _ _))
 have tail:∀(v:Int) (g4:G),1<=v->v<=6->i9 g4 d->Gr d g g4->wpS (d0 T (k+3)) (j4 (j4 (j4 (j4 (j4 O9.body))))) ⟨λ_ g'=>Q .bN g',Q,λ_ _=>False,λ_ _=>False⟩ [some (.ref d),some (.int n),some (.int m),some (.int v),some (.int way),none,none,none,none] g4 E:=by
  intro v g4 v0 v1 D4 G4;dsimp[O9,j4];have after:∀(cs:List b7) a g5,(cs.length:Int)=m->(∀c∈cs,jT c)->g5[a]?=some (.lst (cs.map b7.d))->g4.length<=a->i9 g5 d->Gr d g4 g5->wpS (d0 T (k+3)) (j4 (j4 (j4 (j4 (j4 (j4 O9.body)))))) ⟨λ_ g'=>Q .bN g',Q,λ_ _=>False,λ_ _=>False⟩ [some (.ref d),some (.int n),some (.int m),some (.int v),some (.int way),some (.ref a),none,none,none] g5 E:=by
   intro cs a g5 hc hg ea la D5 G5;have La:=G4.trans G5;have l4:=G4.len;dsimp[O9,j4];walk_at"";refine J7 (b0 T _) (ml (b0 T _) ?_);walk_at"";refine FD (by omega) (by omega) ?_;walk_at"";have e6:(g5++[O.lst (i8 0 m.toNat)])[g5.length]?=some (.lst (i8 0 m.toNat)):=b8;have l5:=D5.lt;refine IJ hT.pull hT.order e6 (by rw[j9];omega) (by omega) (D5.snoc _) λl' b g7 hp eb lb D7 G7=>?_;have Oq:=G7.at (by omega) (n8 ea);have xO:l'.length=m.toNat:=by rw[hp.length_eq,j9]
   refine⟨b,l',rfl,a9 eb,l',λi ys σ g'=>∃jQ z1 z2,ys=jQ.map b7.d/\jQ.length=i/\(∀c∈jQ,jT c)/\σ=[some (.ref a),z1,z2]/\g'=g7,by omega,λi ys σ g' p=>?_,⟨[],none,none,rfl,rfl,by simp,rfl,rfl⟩,λi x ys σ g' hx p=>?_,λys σ g' p=>?_⟩
   ·obtain⟨jQ,z1,z2,rfl,jw,_,_,rfl⟩:=p;exact⟨p0 (a9 eb),by simp[jw]⟩
   ·obtain⟨jQ,z1,z2,rfl,jw,oI,rfl,rfl⟩:=p;obtain⟨j,rfl,j0,j1⟩:=JR (hp.mem_iff.mp (aN hx));show df _ _ _ _ _ _;walk_at"";obtain⟨c0,xS,e0⟩:=Cy (cs:=cs) j0 (by omega);refine p8 (a9 Oq) e0 ?_;refine⟨jQ++[c0],_,_,by simp,by simp[jw],λc1 rh=>?_,rfl,rfl⟩;rcases aS.mp rh with z|z
    ·exact oI c1 z
    ·simp at z;subst z;exact hg c1 xS
   ·obtain⟨jQ,z1,z2,rfl,jw,oI,rfl,rfl⟩:=p;have e8:(g'++[O.lst (jQ.map b7.d)])[g'.length]?=some (.lst (jQ.map b7.d)):=b8;have D8:=D7.snoc (.lst (jQ.map b7.d));have G8:=(La.trans ((Gr.snoc d g5 (.lst (i8 0 m.toNat))).trans G7)).trans (Gr.snoc d g' (.lst (jQ.map b7.d)));have l8:g.length<=g'.length:=(La.trans ((Gr.snoc d g5 (.lst (i8 0 m.toNat))).trans G7)).len;have fin:∀(tK:List b7) z6 z7 z8 g9,(tK.length:Int)=m->(∀c∈tK,jT c)->g9[g'.length]?=some (.lst (tK.map b7.d))->i9 g9 d->Gr d g g9->wpS (d0 T (k+3)) (j4 (j4 (j4 (j4 (j4 (j4 (j4 (j4 O9.body)))))))) ⟨λ_ g'=>Q .bN g',Q,λ_ _=>False,λ_ _=>False⟩ [some (.ref d),some (.int n),some (.int m),some (.int v),some (.int way),some (.ref g'.length),z6,z7,z8] g9 E:=by
     intro tK z6 z7 z8 g9 pK Ge e9 D9 G9;dsimp[O9,j4];walk_at"";refine if2 (λc=>?_) (λc=>?_)
     ·walk_at"";exact h tK _ _ _ (by omega) Ge e9 l8 (by omega) (by omega) D9 G9
     ·walk_at"";exact h tK _ _ _ (by omega) Ge e9 l8 v0 v1 D9 G9
    show wpS _ _ _ _ (g'++[O.lst (jQ.map b7.d)]) _;have nZ:(jQ.length:Int)=m:=by omega
    have xE:=D7.lt;generalize hg8:g'++[O.lst (jQ.map b7.d)]=g8 at *;walk_at"";refine if2 (λc1=>?_) (λc1=>?_)
    ·walk_at"";refine if2 (λc2=>?_) (λc2=>?_)
     ·walk_at"";refine i6 (n:=m) hT.pull D8 c2 (by omega) λr g9 r0 r1 D9 G9=>?_;have e9:=G9.at (by omega) e8;obtain⟨c0,xS,e0⟩:=Cy (cs:=jQ) r0 (by(clear hn dl m0 m1 iz iy w0 w1 l3 c v0 v1 la l4 l5 lb xO jw l8 xE c1 c2 r0;omega));walk_at"";refine p8 (a9 e9) e0 ?_;walk_at"";refine i6 (n:=m) hT.pull D9 c2 (by omega) λr' Bv xw Fl Lc KZ=>?_;have oT:=KZ.at (by omega) e9;obtain⟨c3,xR,e3⟩:=Cy (cs:=jQ) xw (by(clear hn dl m0 m1 iz iy w0 w1 l3 c v0 v1 la l4 l5 lb xO jw l8 xE c1 c2 r0 r1 xw;omega));refine p8 (a9 oT) e3 ?_;dsimp only[b7.d];walk_at"";refine i6 hT.pull (Lc.snoc _) (by decide) (by decide) λr'' NZ qH qG D11 EC=>?_;have FF:=Lc.lt;have yh:=EC.at (by omega) (b8 (g:=Bv) (o:=.lst [.int c0.yr,.int c3.yr,.int 9999]));have vU:=EC.at (by omega) (n8 (o':=.lst [.int c0.yr,.int c3.yr,.int 9999]) oT);obtain⟨x,hx,hm⟩:=K4 (l:=[D.int c0.yr,.int c3.yr,.int 9999]) qH (by simpa using qG);obtain⟨a1,a2,a3,a4,a5,a6⟩:=(oI c0 xS).inv;obtain⟨b1,b2,b3,b4,b5,b6⟩:=(oI c3 xR).inv;have hy:∃y:Int,x=.int y/\0<=y/\y<=9999:=by
       simp only[List.mem_cons,List.mem_nil_iff,or_false] at hm;rcases hm with rfl|rfl|rfl
       ·exact⟨_,rfl,a5,a6⟩
       ·exact⟨_,rfl,b5,b6⟩
       ·exact⟨_,rfl,by decide,by decide⟩
      obtain⟨y,rfl,y0,y1⟩:=hy;refine p8 (a9 yh) hx ?_;walk_at"";have hj:lJ (jQ.map b7.d).length r=some r.toNat:=by
       unfold lJ;rw[aJ r0,aJ (by rw[ai];(clear hn dl m0 m1 iz iy w0 w1 l3 c v0 v1 la l4 l5 lb xO jw l8 xE c1 c2 r0 xw Fl qH qG FF a1 a3 a5 a6 b1 b3 b5 b6 y0 y1;omega))]
      refine S0 vU hj ?_;have gr:jT ⟨c0.lo,c3.lm,c3.up,c0.um,y⟩:=jT.mk' a1.1 a1.2 b3.1 b3.2 y0 y1 b2 a4 (oI c3 xR).l8 (oI c0 xS).u8;refine fin (jQ.set r.toNat ⟨c0.lo,c3.lm,c3.up,c0.um,y⟩) _ _ _ _ (by simp;(clear hn dl m0 m1 iz iy w0 w1 l3 c v0 v1 la l4 l5 lb xO jw l8 xE c1 c2 r0 r1 xw Fl qH qG FF a1 a3 a5 a6 b1 b3 b5 b6 y0 y1;omega)) (λc4 Nd=>?_) ?_ (D11.K1 (by omega)) ((G8.trans (G9.trans (KZ.trans ((Gr.snoc _ _ _).trans EC)))).K1 l8)
      ·rcases pe Nd with z|z
       ·exact oI c4 z
       ·rw[z];exact gr
      ·rw[get_set vU,List.map_set]
       rfl
     ·refine E5 ?_;exact fin jQ _ _ _ _ nZ oI e8 D8 G8
    ·exact fin jQ _ _ _ _ nZ oI e8 D8 G8
  walk_at"";refine if2 (λc=>?_) (λc=>?_)
  ·walk_at"";refine Yy hT.pull hT.order hT.opened ⟨m0,by omega⟩ D4 λcs a g5 hc hg ea la D5 G5=>?_;exact after cs a g5 hc hg ea la D5 G5
  ·walk_at"";refine YU hT.pull hT.qy hT.qv ⟨m0,by omega⟩ ⟨v0,by omega⟩ D4 λcs a g5 hc hg ea la D5 G5=>?_;exact after cs a g5 hc hg ea la D5 G5
 walk_at"";refine if2 (λc=>?_) (λc=>?_)
 ·walk_at"";refine i6 hT.pull D3 (by decide) (by decide) λr4 g4 qE sN D4 G4=>?_;walk_at "w1";walk_at "w1";exact tail _ _ (by omega) (by omega) D4 (zw.trans G4)
 ·refine E5 ?_;exact tail _ _ (by omega) (by omega) D3 zw
end
def E6:bq:=⟨1,1,(.seq (.ifs (.fe (.fT (.call 1 (iD aM (bo 1) (bo 9))))) (.seq (.raise "BadAnvils" (fP (iB "there are from one to nine anvils"))) .pass) .pass) .pass)⟩
def yZ:bq:=⟨2,2,(.seq (.ret (dY .all (.comp [1] 3 (.one 2) (.fF aM) .no (cc (.cmp .In) bG aM)))) .pass)⟩
def Dh:bq:=⟨1,1,(.seq (.ifs (.fe (.fT (.call 12 (fP aM)))) (.seq (.raise "BadCoin" (fP (iB "it is no coin"))) .pass) .pass) .pass)⟩
def U6:bq:=⟨1,2,(.seq (.ifs (fo .Gt (dY .len aM) (bo 9)) (.seq (.raise "TooMany" (fP (iB "at most nine coins are asked about at once"))) .pass) .pass) (.seq (.dX (.one 1) (.fF aM) (.seq (.expr (.call 39 (fP bx))) .pass)) .pass))⟩
def P0:bq:=⟨1,1,(.seq (.ifs (fo .NotIn aM (.lit (.tup [(.str "lower"),(.str "upper")]))) (.seq (.raise "BadSide" (fP (iB "a side is lower or upper"))) .pass) .pass) .pass)⟩
def CU:bq:=⟨1,1,(.seq (.expr (.call 40 (fP aM))) (.seq (.ret (cc .nK (.lit (.tup [(.tup [(.str "lower"),(.int 0)]),(.tup [(.str "upper"),(.int 2)])])) aM)) .pass))⟩
noncomputable abbrev Ld(T:Nat->Option bq):Prop:=T 18=some U6/\T 39=some Dh
noncomputable abbrev EE(T:Nat->Option bq):Prop:=T 19=some CU/\T 40=some P0
def Z6:bq:=⟨2,2,(.seq (.ret (cc (.cmp .Eq) (dY .len (.comp [1] 3 (.one 2) (.fF aM) (fo .NotIn bG aM) bG)) (bo 0))) .pass)⟩
structure Ex(g g':G):Prop where
 len:g.length<=g'.length
 old:∀i,i<g.length->g'[i]?=g[i]?
theorem Ex.refl(g:G):Ex g g:=⟨av _,λ_ _=>rfl⟩
theorem Ex.trans{g g1 g2:G}(a:Ex g g1)(b:Ex g1 g2):Ex g g2:=⟨aI a.len b.len,λi h=>(b.old i (ay h a.len)).trans (a.old i h)⟩
theorem Ex.snoc(g:G)(o:O):Ex g (g++[o]):=⟨by simp,λi h=>aL h⟩
theorem Ex.at{g g':G}(h:Ex g g'){i:Nat}{o:O}(e:g[i]?=some o):g'[i]?=some o:=(h.old i (m8 e)).trans e
theorem Ex.gr{g g':G}(h:Ex g g')(d:Nat):Gr d g g':=⟨h.len,λi _ h2=>h.old i h2⟩
theorem Ex.draw{g g':G}{d:Nat}(h:Ex g g')(D0:i9 g d):i9 g' d:=by
 obtain⟨s,p,b,r,xs,e1,e2,q⟩:=D0.ex;exact⟨s,p,b,r,xs,h.at e1,h.at e2,q⟩
inductive C4(g:G):Nat->D->D->Prop
 |bN {n:Nat}:C4 g n .bN .bN
 |bl {n:Nat} (b:Bool):C4 g n (.bl b) (.bl b)
 |int {n:Nat} (i:Int):C4 g n (.int i) (.int i)
 |str {n:Nat} (x:Str):C4 g n (.str x) (.str x)
 |tup {n:Nat} {l m:List D} (hl:l.length=m.length) (h:∀(i:Nat) x y,l[i]?=some x->m[i]?=some y->C4 g n x y) (hz:m.length<=1000):C4 g (n+1) (.tup l) (.tup m)
 |lst {n a b:Nat} {l m:List D} (ha:g[a]?=some (.lst l)) (hb:g[b]?=some (.lst m)) (hl:l.length=m.length) (h:∀(i:Nat) x y,l[i]?=some x->m[i]?=some y->C4 g n x y) (hz:m.length<=1000):C4 g (n+1) (.ref a) (.ref b)
theorem C4.ex{g g':G}(e:Ex g g'){n:Nat}{x y:D}(h:C4 g n x y):C4 g' n x y:=by
 induction h with
 |bN=>exact .bN
 |bl b=>exact .bl b
 |int i=>exact .int i
 |str x=>exact .str x
 |tup hl h hz ih=>exact .tup hl ih hz
 |lst ha hb hl h hz ih=>exact .lst (e.at ha) (e.at hb) hl ih hz
section
variable{T:Nat->Option bq}{k d:Nat}{g:G}{Q:KD}{E:KX}
theorem Ji(h6:T 6=some wR){i:Int}(h:Q (.bl true) g):d0 T (k+1) 6 [.int i] g Q E:=by
 refine call_of h6 rfl ?_;dsimp[wR,d4,List.replicate];walk_at"";refine gM (c:="int") (b:=true) (by decide) rfl ?_;walk_at"";refine gM (c:="bool") (b:=false) (by decide) rfl ?_;walk_at"";exact h
def JE:MS:=match C1.body with
 |.seq _ (.seq _ (.seq _ (.seq _ (.seq _ b))))=>b
 |x=>x
theorem Ys(h6:T 6=some wR)(h7:T 7=some C1):∀(n:Nat) {k:Nat} {g:G} {x y:D} {Q:KD} {E:KX},C4 g n x y->(∀g',Ex g g'->Q (.bl true) g')->d0 T (k+n+2) 7 [x,y] g Q E:=by
 have uH:∀(n:Nat),(∀{k:Nat} {g:G} {x y:D} {Q:KD} {E:KX},C4 g n x y->(∀g',Ex g g'->Q (.bl true) g')->d0 T (k+n+2) 7 [x,y] g Q E) ->
   ∀{k:Nat} {g:G} {x y:D} {l m:List D} {Q:KD} {E:KX},(∀g',Ex g g'->E7 g' x=some l)->(∀g',Ex g g'->E7 g' y=some m)->l.length=m.length->m.length<=1000->(∀(i:Nat) x y,l[i]?=some x->m[i]?=some y->C4 g n x y)->(∀g',Ex g g'->Q (.bl true) g') ->
   wpS (d0 T (k+n+2)) JE ⟨λ_ g'=>Q .bN g',Q,λ_ _=>False,λ_ _=>False⟩ [some x,some y] g E:=by
  intro n ih k g x y l m Q E hx hy hl hz hs hQ;have len:∀(z:D) (l:List D) (g':G) (Q':KD),E7 g' z=some l->Q' (.int l.length) g'->cS .len [z] g' Q':=λz l g' Q' e q=>⟨_,_,⟨rfl,.inl ⟨z,l,rfl,e,rfl⟩⟩,q⟩
  dsimp[JE,C1];refine wF (DN (DQ (wo (wm (w_var rfl (len _ _ _ _ (hx g (Ex.refl g)) ?_))))));refine wm (w_var rfl (len _ _ _ _ (hy g (Ex.refl g)) ?_));refine Ks ?_;rw[hl,aA rfl];walk_at"";refine J7 (b0 T _) (V1 (b0 T _) ?_);refine wm (w_var rfl (len _ _ _ _ (hy g (Ex.refl g)) ?_));refine⟨_,rfl,by omega,by omega,i8 0 m.length,λi ys σ g'=>∃z w,ys=List.replicate i (.bl true)/\σ=[some y,some x,z,w]/\Ex g g',by rw[j9];exact hz,λi ys σ g' p=>⟨s9,?_⟩,⟨none,none,rfl,rfl,Ex.refl g⟩,λi z ys σ g' hz p=>?_,λys σ g' p=>?_⟩
  ·obtain⟨z,w,rfl,_⟩:=p;simp
  ·obtain⟨z,w,rfl,rfl,e⟩:=p;obtain⟨hi,rfl⟩:=x6 hz;have h1:l[i]?=some l[i]:=ak (by omega);have h2:m[i]?=some m[i]:=ak hi;have a1:gz l (0+(i:Int))=some l[i]:=by rw[eO];exact E1 h1
   have a2:gz m (0+(i:Int))=some m[i]:=by rw[eO];exact E1 h2
   show df _ _ _ _ _ _;refine DP (mO (yQ (Q2 (wo (w_var rfl (w_var rfl ⟨_,_,⟨rfl,.inl ⟨_,l,_,rfl,hx g' e,a1⟩⟩,?_⟩))))));refine Q2 (wo (w_var rfl (w_var rfl ⟨_,_,⟨rfl,.inl ⟨_,m,_,rfl,hy g' e,a2⟩⟩,?_⟩)));refine yB (ih ((hs i _ _ h1 h2).ex e) λg2 e2=>?_);exact⟨_,_,by rw[List.replicate_succ'],rfl,e.trans e2⟩
  ·obtain⟨z,w,rfl,rfl,e⟩:=p;refine Dr (a9 b8) (v:=true) ?_ (hQ _ (e.trans (Ex.snoc _ _)));have:List.replicate (i8 0 m.length).length (D.bl true)=(List.replicate (i8 0 m.length).length true).map D.bl:=by simp
   rw[this,CP];simp
 intro n
 induction n with
 |zero =>
  intro k g x y Q E h hQ;have h0:=hQ g (Ex.refl g);cases h with
  |bN =>
   refine call_of h7 rfl ?_;dsimp[C1,d4,List.replicate];walk_at"";exact h0
  |bl b=>exact JF h7 (by simpa using h0)
  |int i =>
   refine call_of h7 rfl ?_;dsimp[C1,d4,List.replicate];walk_at""
   try show wpS _ _ _ _ _ _
   walk_at"";refine gM (c:="bool") (b:=false) (by decide) rfl ?_;walk_at"";refine gM (c:="int") (b:=true) (by decide) rfl ?_;walk_at"";refine Ji h6 ?_;walk_at"";simpa using h0
  |str x =>
   refine call_of h7 rfl ?_;dsimp[C1,d4,List.replicate];walk_at""
   try show wpS _ _ _ _ _ _
   walk_at"";refine gM (c:="bool") (b:=false) (by decide) rfl ?_;walk_at"";refine gM (c:="int") (b:=false) (by decide) rfl ?_;walk_at"";refine gM (c:="str") (b:=true) (by decide) rfl ?_;walk_at"";refine gM (c:="str") (b:=true) (by decide) rfl ?_;walk_at"";simpa using h0
 |succ n ih =>
  intro k g x y Q E h hQ;have h0:=hQ g (Ex.refl g);cases h with
  |bN =>
   refine call_of h7 rfl ?_;dsimp[C1,d4,List.replicate];walk_at"";exact h0
  |bl b=>exact JF h7 (by simpa using h0)
  |int i =>
   refine call_of h7 rfl ?_;dsimp[C1,d4,List.replicate];walk_at""
   try show wpS _ _ _ _ _ _
   walk_at"";refine gM (c:="bool") (b:=false) (by decide) rfl ?_;walk_at"";refine gM (c:="int") (b:=true) (by decide) rfl ?_;walk_at"";refine Ji h6 ?_;walk_at"";simpa using h0
  |str x =>
   refine call_of h7 rfl ?_;dsimp[C1,d4,List.replicate];walk_at""
   try show wpS _ _ _ _ _ _
   walk_at"";refine gM (c:="bool") (b:=false) (by decide) rfl ?_;walk_at"";refine gM (c:="int") (b:=false) (by decide) rfl ?_;walk_at"";refine gM (c:="str") (b:=true) (by decide) rfl ?_;walk_at"";refine gM (c:="str") (b:=true) (by decide) rfl ?_;walk_at"";simpa using h0
  |@tup _ l m hl hs hz =>
   refine call_of h7 rfl ?_;have body:=uH n ih (k:=k) (x:=.tup l) (y:=.tup m) (E:=E) (λ_ _=>rfl) (λ_ _=>rfl) hl hz hs hQ;dsimp[C1,d4,List.replicate];walk_at""
   try show wpS _ _ _ _ _ _
   walk_at"";refine gM (c:="bool") (b:=false) (by decide) rfl ?_;walk_at"";refine gM (c:="int") (b:=false) (by decide) rfl ?_;walk_at"";refine gM (c:="str") (b:=false) (by decide) rfl ?_;walk_at"";refine gM (c:="tuple") (b:=true) (by decide) rfl ?_;walk_at"";refine gM (c:="tuple") (b:=true) (by decide) rfl ?_;walk_at"";refine gI rfl ?_;walk_at"";refine gM (c:="list") (b:=false) (by decide) rfl ?_;walk_at"";refine gM (c:="list") (b:=false) (by decide) rfl ?_;walk_at"";refine gI rfl (E5 ?_);exact body
  |@lst _ a b l m ha hb hl hs hz =>
   refine call_of h7 rfl ?_;have body:=uH n ih (k:=k) (x:=.ref a) (y:=.ref b) (E:=E) (λg' e=>a9 (e.at ha)) (λg' e=>a9 (e.at hb)) hl hz hs hQ;have ta:∀c,rX g (.ref a) c=some (c=="list"):=λc=>by simp only[rX,ha]
   have tb:∀c,rX g (.ref b) c=some (c=="list"):=λc=>by simp only[rX,hb]
   dsimp[C1,d4,List.replicate];walk_at""
   try show wpS _ _ _ _ _ _
   walk_at"";refine gM (c:="bool") (b:=false) (by decide) (tb _) ?_;walk_at"";refine gM (c:="int") (b:=false) (by decide) (tb _) ?_;walk_at"";refine gM (c:="str") (b:=false) (by decide) (tb _) ?_;walk_at"";refine gM (c:="tuple") (b:=false) (by decide) (tb _) ?_;walk_at"";refine gM (c:="tuple") (b:=false) (by decide) (ta _) ?_;walk_at"";refine gI rfl ?_;walk_at"";refine gM (c:="list") (b:=true) (by decide) (tb _) ?_;walk_at"";refine gM (c:="list") (b:=true) (by decide) (ta _) ?_;walk_at"";refine gI rfl (E5 ?_);exact body
end
def jJ(a b:List Int):Bool:=a.all λs=>b.any λm=>m==s
section
variable{T:Nat->Option bq}{k d:Nat}{g:G}{Q:KD}{E:KX}
theorem Ie(pM:T 15=some yZ){a b:List Int}(ha:a.length<=1000)(h:∀g',Ex g g'->Q (.bl (jJ a b)) g'):d0 T (k+1) 15 [.tup (a.map .int),.tup (b.map .int)] g Q E:=by
 refine call_of pM rfl ?_;dsimp[yZ,d4,List.replicate];walk_at"";refine J7 (b0 T _) (vg (b0 T _) ?_);walk_at"";refine⟨_,rfl,_,λi ys σ g'=>∃z w,ys=((a.take i).map λs=>b.any λm=>m==s).map D.bl/\σ=[some (.tup (b.map .int)),z,w]/\g'=g,by simpa using ha,λi ys σ g' p=>⟨s9,?_⟩,⟨none,none,rfl,rfl,rfl⟩,λi x ys σ g' hx p=>?_,λys σ g' p=>?_⟩
 ·obtain⟨z,w,rfl,_⟩:=p;simp;omega
 ·obtain⟨z,w,rfl,rfl,rfl⟩:=p;rw[ao,ae] at hx;obtain⟨s,hs,rfl⟩:=hx;show df _ _ _ _ _ _;walk_at"";refine wN (CQ ?_);refine⟨_,_,?_,rfl,rfl⟩;have hi:=(aw.mp hs)
  rw[bR,hs];simp
 ·obtain⟨z,w,rfl,rfl,rfl⟩:=p;refine Dr (a9 b8) (CP _) ?_;have e:((a.take (a.map D.int).length).map λs=>b.any λm=>m==s).all id=jJ a b:=by
   rw[ai,bW];simp[jJ,List.all_map]
  rw[e];exact h _ (Ex.snoc _ _)
theorem Zn(Bi:T 17=some Z6){a b:List Int}(ha:a.length<=1000)(h:∀g',Ex g g'->Q (.bl (jJ a b)) g'):d0 T (k+1) 17 [.tup (a.map .int),.tup (b.map .int)] g Q E:=by
 refine call_of Bi rfl ?_;dsimp[Z6,d4,List.replicate];walk_at"";refine J7 (b0 T _) (vg (b0 T _) ?_);walk_at"";refine⟨_,rfl,_,λi ys σ g'=>∃z w,ys=((a.take i).filter λs=>!(b.any λm=>m==s)).map D.int/\ys.length<=i/\σ=[some (.tup (b.map .int)),z,w]/\g'=g,by simpa using ha,λi ys σ g' p=>⟨s9,?_⟩,⟨none,none,rfl,by simp,rfl,rfl⟩,λi x ys σ g' hx p=>?_,λys σ g' p=>?_⟩
 ·obtain⟨z,w,_,h1,_⟩:=p;exact h1
 ·obtain⟨z,w,e,hl,rfl,rfl⟩:=p;rw[ao,ae] at hx;obtain⟨s,hs,rfl⟩:=hx;show df _ _ _ _ _ _;walk_at"";refine tT (CQ ?_);walk_at"";cases hc:(b.any λm=>m==s) with
  |true =>
   refine pZ ⟨_,_,?_,by omega,rfl,rfl⟩;rw[bR,hs,e];simp[hc]
  |false =>
   refine mO (w_var rfl ⟨_,_,?_,by simp;omega,rfl,rfl⟩);rw[bR,hs,e];simp[hc]
 ·obtain⟨z,w,e,hl,rfl,rfl⟩:=p;rw[ai,bW] at e;refine K0 (a9 b8) ?_;walk_at"";have e2:decide ((ys.length:Int)=0)=jJ a b:=by
   rw[e,ai,aZ,dN];unfold jJ;rw[cQ];constructor
   ·intro h0 s hs;have h1:(a.filter λs=>!(b.any λm=>m==s))=[]:=dJ (by omega);rw[ui] at h1;have:=h1 s hs;simpa using this
   ·intro h0;have h1:(a.filter λs=>!(b.any λm=>m==s))=[]:=by
     rw[ui];intro s hs;simpa using h0 s hs
    rw[h1]
    rfl
  rw[e2];exact h _ (Ex.snoc _ _)
theorem a50{g:G}{x:Str}{kb:Bool->Prop}(hx:PyData.strOk x=true)(h:kb (decide (x="lower")||decide (x="upper"))):qQ g (.str x) (.tup [.str "lower",.str "upper"]) kb:=by
 refine⟨_,.inr ⟨_,[.str "lower",.str "upper"],.str x,rfl,rfl,rfl,by simp only[PyData.canLayAll0,PyData.canLay0,Bool.and_true];decide +kernel,by simp only[PyData.canLay0];exact hx,rfl⟩,?_⟩;have e:∀y:Str,PyData.eqv (.str y) (.str x)=decide (x=y):=λy=>by
  simp only[PyData.eqv];rw[aZ,bz,dN];exact eq_comm
 simp only[List.any_cons,List.any_nil,Bool.or_false,e];exact h
theorem Xg(NI:T 40=some P0){x:Str}(ho:PyData.strOk x=true)(h1:x="lower"\/x="upper"->Q .bN g)(h3:x≠"lower"->x≠"upper"->E ⟨"BadSide"⟩ g):d0 T (k+1) 40 [.str x] g Q E:=by
 refine call_of NI rfl ?_;dsimp[P0,d4,List.replicate];walk_at"";refine tT (a50 ho ?_);walk_at"";by_cases e:x="lower"\/x="upper"
 ·refine gI (by rw[Bool.not_eq_false',cU,dN,dN];exact e) ?_;walk_at"";exact h1 e
 ·refine js (by rw[Bool.not_eq_true',Bool.or_eq_false_iff,dE,dE];exact not_or.mp e) ?_;walk_at"";exact h3 (λz=>e (.inl z)) (λz=>e (.inr z))
theorem F0(lN:EE T){x:Str}(ho:PyData.strOk x=true)(h1:x="lower"->Q (.int 0) g)(h2:x="upper"->Q (.int 2) g)(h3:x≠"lower"->x≠"upper"->E ⟨"BadSide"⟩ g):d0 T (k+2) 19 [.str x] g Q E:=by
 refine call_of lN.1 rfl ?_;dsimp[CU,d4,List.replicate];walk_at"";refine Xg lN.2 ho (λhx=>?_) h3;walk_at"";by_cases e1:x="lower"
 ·have el:M8 [.tup [.str "lower",.int 0],.tup [.str "upper",.int 2]] x=some (.int 0):=by simp[M8,e1]
  refine Kw el ?_;exact h1 e1
 ·have e2:x="upper":=hx.resolve_left e1;have el:M8 [.tup [.str "lower",.int 0],.tup [.str "upper",.int 2]] x=some (.int 2):=by simp[M8,e1];simp[e2]
  refine Kw el ?_;exact h2 e2
def CB(c:b7):Prop:=c.lm.length<=8/\c.um.length<=8
theorem X5(h1:NF T)(h2:T 2=some G0)(tF:T 12=some B0)(vM:Ld T){a:Nat}{cs:List b7}(ha:g[a]?=some (.lst (cs.map b7.d)))(hz:cs.length<=1000)(hm:9<cs.length->E ⟨"TooMany"⟩ g)(hb:cs.length<=9->cs.all v5=false->E ⟨"BadCoin"⟩ g)(h:cs.length<=9->cs.all v5=true->Q .bN g):d0 T (k+6) 18 [.ref a] g Q E:=by
 refine call_of vM.1 rfl ?_;dsimp[U6,d4,List.replicate];walk_at"";rw[ai];refine if2 (λc=>?_) (λc=>?_)
 ·walk_at"";exact hm (by omega)
 have h9:cs.length<=9:=by omega
 walk_at"";refine z9 (b0 T _) (ml (b0 T _) ?_);walk_at"";refine⟨a,_,rfl,a9 ha,cs.map b7.d,λi σ g'=>∃z,σ=[some (.ref a),z]/\g'=g/\(cs.take i).all v5=true,λi σ g' p=>?_,⟨none,rfl,rfl,by simp⟩,λi x σ g' hx p=>?_,λσ g' p=>?_⟩
 ·obtain⟨z,rfl,rfl,_⟩:=p;exact p0 (a9 ha)
 ·obtain⟨z,rfl,rfl,hg⟩:=p;rw[ao,ae] at hx;obtain⟨c,hc,rfl⟩:=hx;refine l6 ?_
  try show wpS _ _ _ _ _ _
  walk_at"";refine call_of vM.2 rfl ?_;dsimp[Dh,d4,List.replicate];walk_at"";refine aB7 h1 h2 tF ?_;walk_at"";cases e:v5 c with
  |true =>
   walk_at"";refine⟨_,rfl,rfl,?_⟩;rw[bR,hc];simp[hg,e]
  |false =>
   refine Hd ?_;walk_at"";refine hb h9 ?_;rw[List.all_eq_false];exact⟨c,aN hc,by rw[e];decide⟩
 ·obtain⟨z,rfl,rfl,hg⟩:=p;rw[ai,bW] at hg;exact h h9 hg
end
def A5(f:Int)(c:b7):Int:=if f=0 then c.lo else c.up
def rY(f:Int)(c:b7):List Int:=if f=0 then c.lm else c.um
theorem CB.Mn{c:b7}(h:CB c)(f:Int):(rY f c).length<=1000:=by
 unfold rY;split
 ·have:=h.1;omega
 ·have:=h.2;omega
theorem L3{f:Int}(hf:f=0\/f=2)(c:b7):gz [D.int c.lo,D.tup (c.lm.map .int),D.int c.up,D.tup (c.um.map .int),D.int c.yr] f=some (.int (A5 f c)):=by
 rcases hf with rfl|rfl<;>rfl
theorem Jd{f:Int}(hf:f=0\/f=2)(c:b7):gz [D.int c.lo,D.tup (c.lm.map .int),D.int c.up,D.tup (c.um.map .int),D.int c.yr] (f+1)=some (.tup ((rY f c).map .int)):=by
 rcases hf with rfl|rfl<;>rfl
section
variable{T:Nat->Option bq}{k d:Nat}{g:G}{Q:KD}{E:KX}
end
section
variable{T:Nat->Option bq}{k d:Nat}{g:G}{Q:KD}{E:KX}
end
theorem Yr{g:G}{a b:Nat}{l:List D}(ha:g[a]?=some (.lst l))(hb:g[b]?=some (.lst l))(h:∀x∈l,(∃i,x=.int i)\/∃y,x=.str y)(hz:l.length<=1000):C4 g 1 (.ref a) (.ref b):=by
 refine .lst ha hb rfl (λi x y hx hy=>?_) hz;rw[hx] at hy;cases hy;rcases h x (aN hx) with⟨j,rfl⟩|⟨y,rfl⟩
 ·exact .int _
 ·exact .str _
def cD:b7:=⟨0,[],0,[],0⟩
noncomputable abbrev bO(cs:List b7)(i:Nat):b7:=cs.getD i cD
theorem B9{cs:List b7}{i:Nat}{c:b7}(h:cs[i]?=some c):bO cs i=c:=by simp[bO,List.getD,h]
inductive RW where
 |fQ|lower|upper
def RW.s:RW->Str
 |.fQ=>"coin"
 |.lower=>"lower"
 |.upper=>"upper"
structure gY where
 w:RW
 x:Int
 y:Int
def gY.d(r:gY):D:=.tup [.str r.w.s,.int r.x,.int r.y]
def meant(cs:List b7)(w:RW)(x:Int)(i:Nat):Bool:=match w with
 |.fQ=>decide ((i:Int)=x)
 |.lower=>decide ((bO cs i).lo=x)
 |.upper=>decide ((bO cs i).up=x)
def jL(cs:List b7)(w:RW)(x:Int):List Nat:=(List.range cs.length).filter (meant cs w x)
def c6(l:List Nat):List D:=l.map λ(i:Nat)=>D.int i
def pj(l:List Nat):Nat:=(l.map (2 ^ ·)).sum
def iO(n:Nat)(p:Nat->Bool):Nat:=pj ((List.range n).filter p)
theorem Hy(n:Nat)(p:Nat->Bool):iO (n+1) p=iO n p+if p n=true then 2 ^ n else 0:=by
 unfold iO pj;rw[iY,fk,dW,List.sum_append]
 congr 1
 cases h:p n<;>simp[List.filter_cons,h]
theorem RI(n:Nat)(p:Nat->Bool):iO n p<2 ^ n:=by
 induction n with
 |zero=>simp[iO,pj]
 |succ n ih =>
  rw[Hy,uf];split<;>omega
theorem JW(n:Nat)(p:Nat->Bool)(i:Nat):(iO n p).testBit i=(decide (i<n)&&p i):=by
 induction n with
 |zero=>simp[iO,pj]
 |succ n ih =>
  have hl:=RI n p;rw[Hy];by_cases hp:p n=true
  ·rw[aJ hp,Nat.add_comm];rcases gT i n with h|h|h
   ·rw[Nat.testBit_two_pow_add_gt h,ih,aA h,aA (by omega)]
   ·subst h;rw[Nat.testBit_two_pow_add_eq,ih];simp[hp]
   ·rw[Nat.testBit_lt_two_pow (ay (show 2 ^ n+iO n p<2 ^ (n+1) by rw[uf];omega) (zz (by omega) h)),aG (by omega)]
    rfl
  ·rw[aC hp,Nat.add_zero,ih];by_cases h:i=n
   ·subst h;simp[hp]
   ·rw[show decide (i<n)=decide (i<n+1) from lS.mpr (by omega)]
theorem Cd(a b:Nat):Builtin.bitAnd (a:Int) (b:Int)=((a &&& b:Nat):Int):=by
 unfold Builtin.bitAnd;rw[aA (Lo a),aA (Lo b)];simp
theorem QH(a b:Nat):Builtin.bitOr (a:Int) (b:Int)=((a |||b:Nat):Int):=by
 unfold Builtin.bitOr Builtin.bitAnd;have h1:∀x:Nat,decide (0<=Builtin.bitNot (x:Int))=false:=λx=>by unfold Builtin.bitNot;exact aG (by omega)
 have h2:∀x:Nat,Builtin.bitNot (Builtin.bitNot (x:Int))=x:=λx=>by unfold Builtin.bitNot;omega
 rw[h1,h1];simp only[h2];simp
theorem Px(a b:Nat):((a &&& b:Nat)≠0)↔∃i,a.testBit i=true/\b.testBit i=true:=by
 constructor
 ·intro h;obtain⟨i,hi⟩:=Nat.exists_testBit_of_ne_zero h;rw[Nat.testBit_and,aW] at hi;exact⟨i,hi⟩
 ·rintro⟨i,h1,h2⟩ e;have:(a &&& b).testBit i=true:=by rw[Nat.testBit_and,h1,h2];rfl
  rw[e,Nat.zero_testBit] at this;cases this
theorem yS(s n:Nat)(p:Nat->Bool):((((s &&& iO n p:Nat):Int) != 0)=(List.range n).any λi=>s.testBit i&&p i):=by
 rw[aZ,bne_iff_ne,aU];have:(((s &&& iO n p:Nat):Int)≠0)↔((s &&& iO n p:Nat)≠0):=by omega
 rw[this,Px];constructor
 ·rintro⟨i,h1,h2⟩;rw[JW,aW,cH] at h2;exact⟨i,bp.mpr h2.1,by rw[h1,h2.2];rfl⟩
 ·rintro⟨i,h1,h2⟩;rw[aW] at h2;exact⟨i,h2.1,by rw[JW,aA (bp.mp h1),h2.2];rfl⟩
def mw(a b:b7):Bool:=(decide (a.lo=b.lo)&&!jJ a.lm b.lm)||(decide (a.up=b.up)&&!jJ a.um b.um)
def kI(a b:b7):Bool:=decide (0<b.yr)&&decide (b.yr<a.yr)
def J8(cs:List b7)(S:Nat->Bool)(p:Nat):Bool:=(List.range cs.length).any λi=>S i&&mw (bO cs i) (bO cs p)
def I0(cs:List b7)(S:Nat->Bool)(p:Nat):Bool:=(List.range cs.length).any λi=>S i&&kI (bO cs i) (bO cs p)
def Y0(cs:List b7)(S:Nat->Bool)(p:Nat)(d:Int):Bool :=
 ((List.range cs.length).any λi=>(S i||decide (i=p))&&decide ((bO cs i).lo=d))&&((List.range cs.length).any λi=>!S i&&decide ((bO cs i).lo=d))
def tR(cs:List b7)(S:Nat->Bool)(p:Nat):Nat:=((o6 (cs.map b7.lo)).filter (Y0 cs S p)).length
def O6(cs:List b7)(rs:List gY)(S:Nat->Bool)(p:Nat):Bool:=rs.all λr=>!meant cs r.w r.y p||(List.range cs.length).any λi=>S i&&meant cs r.w r.x i
def fault(cs:List b7)(v:Int)(rs:List gY)(S:Nat->Bool)(p:Nat):Str :=
 if J8 cs S p=true then "wear" else if I0 cs S p=true then "year" else if v<tR cs S p then "anvil" else if O6 cs rs S p=true then "" else "rule"
def yc(x:Str):D:=if x="" then .bN else .str x
theorem ZV{cs:List b7}{v:Int}{rs:List gY}{S S':Nat->Bool}{p:Nat}(h:∀i,i<cs.length->S i=S' i):fault cs v rs S p=fault cs v rs S' p:=by
 have a:∀f:Nat->Bool->Bool,((List.range cs.length).any λi=>f i (S i))=(List.range cs.length).any λi=>f i (S' i):=λf=>by
  rw[aZ,aU,aU];constructor
  ·rintro⟨i,h1,h2⟩;exact⟨i,h1,by rw[<- h i (bp.mp h1)];exact h2⟩
  ·rintro⟨i,h1,h2⟩;exact⟨i,h1,by rw[h i (bp.mp h1)];exact h2⟩
 have b1:J8 cs S p=J8 cs S' p:=a λi t=>t&&mw (bO cs i) (bO cs p);have b2:I0 cs S p=I0 cs S' p:=a λi t=>t&&kI (bO cs i) (bO cs p);have b3:Y0 cs S p=Y0 cs S' p:=by
  funext d
  unfold Y0;rw[a λi t=>(t||decide (i=p))&&decide ((bO cs i).lo=d),a λi t=>!t&&decide ((bO cs i).lo=d)]
 have b4:O6 cs rs S p=O6 cs rs S' p:=by
  unfold O6
  congr 1
  funext r
  rw[a λi t=>t&&meant cs r.w r.x i]
 unfold fault tR;rw[b1,b2,b3,b4]
def T1:bq:=⟨3,4,(.seq (.ifs (.fe (.fT (.call 38 (fP bG)))) (.seq (.ret (.prim .lst .nil)) .pass) .pass) (.seq (.ifs (fo .Eq bx (iB "coin")) (.seq (.ret (.comp [2] 3 (.one 2) (.eG (dY .len aM)) (fo .Eq bG aM) bG)) .pass) .pass) (.seq (.set 3 (.call 19 (fP bx))) (.seq (.ret (.comp [3,2] 5 (.many [3,4]) (.lA aM) (fo .Eq (da dI aM) bx) cv)) .pass))))⟩
def Cs:bq:=⟨2,3,(.seq (.expr (.call 18 (fP aM))) (.seq (.set 2 (.call 19 (fP bx))) (.seq (.ret (.hV [2] 3 (.one 2) (.fF aM) .no (da bG aM))) .pass)))⟩
def CV:bq:=⟨2,5,(.seq (.lZ (.many [2,3,4]) bx) (.seq (.ifs (.ke (fo .NotIn bG (.lit (.tup [(.str "coin"),(.str "lower"),(.str "upper")]))) (fo .Eq cv dI)) (.seq (.ret (.lit (.bl false))) .pass) .pass) (.seq (.ret (.dS (cc (.cmp .NotEq) (.call 74 (iD aM bG cv)) (.prim .lst .nil)) (cc (.cmp .NotEq) (.call 74 (iD aM bG dI)) (.prim .lst .nil)))) .pass)))⟩
def U5:bq:=⟨2,4,(.seq (.dX (.many [2,3]) (.lA bx) (.seq (.ifs (.fe (.fT (.call 88 (eE aM cv)))) (.seq (.raise "BadRule" (fP (.prim .my (iD (iB "rule ") (dY .fv bG) (iB " is none for these coins"))))) .pass) .pass) .pass)) .pass)⟩
def Z4:bq:=⟨1,1,(.seq (.ret (dY .sum (.comp [] 2 (.one 1) (.fF aM) .no (cc (.bin .LShift) (bo 1) bx)))) .pass)⟩
def S7:bq:=⟨2,2,(.seq (.ret (cc (.bin .BitOr) aM (cc (.bin .LShift) (bo 1) bx))) .pass)⟩
def CY:bq:=⟨2,4,(.seq (.dX (.one 2) (.fF (.lit (.tup [(.str "lower"),(.str "upper")]))) (.seq (.set 3 (.call 19 (fP bG))) (.seq (.ifs (.dS (fo .Eq (da aM cv) (da bx cv)) (.fe (.fT (.call 15 (eE (da aM (cc (.bin .Add) cv (bo 1))) (da bx (cc (.bin .Add) cv (bo 1)))))))) (.seq (.ret (.lit (.bl true))) .pass) .pass) .pass))) (.seq (.ret (.lit (.bl false))) .pass))⟩
def Eb:bq:=⟨2,2,(.seq (.ret (.chain .Lt .Lt (bo 0) (da bx (bo 4)) (da aM (bo 4)))) .pass)⟩
def U2:bq:=⟨1,1,(.seq (.ret (.comp [0] 3 (.one 2) (.fF aM) .no (.call 90 (fP (.comp [2] 4 (.many [2,3]) (.lA aM) (.fT (.call 92 (eE cv aM))) bG))))) .pass)⟩
def Q9:bq:=⟨1,1,(.seq (.ret (.comp [0] 3 (.one 2) (.fF aM) .no (.call 90 (fP (.comp [2] 4 (.many [2,3]) (.lA aM) (.fT (.call 93 (eE cv aM))) bG))))) .pass)⟩
def Di:bq:=⟨1,1,(.seq (.ret (.comp [0] 3 (.one 2) (.fF (.call 20 (eE aM (iB "lower")))) .no (.call 90 (fP (.call 74 (iD aM (iB "lower") bG)))))) .pass)⟩
def O1:bq:=⟨2,8,(.seq (.set 2 (.comp [] 2 (.one 1) (.fF aM) .no (.prim .lst .nil))) (.seq (.dX (.many [3,4,5]) (.fF bx) (.seq (.set 6 (.call 90 (fP (.call 74 (iD aM cv dI))))) (.seq (.dX (.one 7) (.fF (.call 74 (iD aM cv fC))) (.seq (.ifs (fo .NotIn fO (da bG gH)) (.seq (.expr (.ff .append (da bG gH) (fP fO))) .pass) .pass) .pass)) .pass))) (.seq (.ret bG) .pass)))⟩
def M7:bq:=⟨3,3,(.seq (.expr (.call 18 (fP aM))) (.seq (.expr (.call 42 (fP bx))) (.seq (.expr (.call 89 (eE aM bG))) .pass)))⟩
def CT:bq:=⟨3,3,(.seq (.expr (.call 98 (iD aM bx bG))) (.seq (.ret (.make "Bounds" 113 (iD aM bx bG))) .pass))⟩
def Z9:bq:=⟨3,5,(.seq (.set 3 (.call 91 (eE bx bG))) (.seq (.set 4 (cc (.bin .Sub) (dY (.fld "full") aM) bx)) (.seq (.ret (dY .len (.comp [4,3] 4 (.one 3) (.fF (dY (.fld "lower_dies") aM)) (.dS (.fT (cc (.bin .BitAnd) cv bx)) (.fT (cc (.bin .BitAnd) cv aM))) cv))) .pass)))⟩
def Z5:bq:=⟨3,3,(.seq (.ifs (.fT (cc (.bin .BitAnd) bx (da (dY (.fld "worn_by_place") aM) bG))) (.seq (.ret (iB "wear")) .pass) .pass) (.seq (.ifs (.fT (cc (.bin .BitAnd) bx (da (dY (.fld "later_by_place") aM) bG))) (.seq (.ret (iB "year")) .pass) .pass) (.seq (.ifs (fo .Gt (.call 100 (iD aM bx bG)) (dY (.fld "room") aM)) (.seq (.ret (iB "anvil")) .pass) .pass) (.seq (.ifs (.fe (.fT (dY .all (.comp [1] 3 (.one 2) (.fF (da (dY (.fld "needed_by_place") aM) bG)) .no (cc (.bin .BitAnd) aM bG))))) (.seq (.ret (iB "rule")) .pass) .pass) (.seq (.ret (.lit .bN)) .pass)))))⟩
def U7:bq:=⟨4,4,(.seq (.iw "size" ["Bounds"] aM (dY .len bx)) (.seq (.iw "full" ["Bounds"] aM (cc (.bin .Sub) (cc (.bin .LShift) (bo 1) (dY .len bx)) (bo 1))) (.seq (.iw "room" ["Bounds"] aM bG) (.seq (.iw "worn_by_place" ["Bounds"] aM (.call 94 (fP bx))) (.seq (.iw "later_by_place" ["Bounds"] aM (.call 95 (fP bx))) (.seq (.iw "lower_dies" ["Bounds"] aM (.call 96 (fP bx))) (.seq (.iw "needed_by_place" ["Bounds"] aM (.call 97 (eE bx cv))) .pass)))))))⟩
section
variable{P:fY}{σ:S}{g:G}{Q:KD}{E:KX}{t:MT}{it c elt:ME}{d6:List Nat}{n:Nat}
theorem A1(hP:j6 P)(Sh:S->Prop)(p:Nat->Bool)(w:Nat->D){l:List D}{k:IK}(hk:∀g',Ex g g'->k.Is l g')(hl:l.length<=1000)(h0:Sh (J5 σ d6 n))(hs:∀i d σ g',l[i]?=some d->Ex g g'->Sh σ->jZ t d σ λcR=>df P c cR g' (λb g3=>b=p i/\Ex g g3/\if b=true then bg P elt cR g3 (λy g4=>y=w i/\Ex g g4/\Sh cR) jS else Sh cR) jS)(hd:∀g',Ex g g'->Q (.ref g'.length) (g'++[.lst (((List.range l.length).filter p).map w)]))(hi:∀R:IK->G->Prop,R k g->iu P it σ g R E):bg P (.comp d6 n t it c elt) σ g Q E:=by
 refine J7 hP (hi _ ?_);refine⟨l,λi ys σ g'=>Ex g g'/\ys=((List.range i).filter p).map w/\Sh σ,hl,λi ys σ g' q=>⟨hk _ q.1,?_⟩,⟨Ex.refl _,rfl,h0⟩,λi x ys σ g' hx q=>?_,λys σ g' q=>?_⟩
 ·obtain⟨_,rfl,_⟩:=q;rw[ai];exact aI (jl _ _) (by simp)
 ·obtain⟨e1,rfl,sh⟩:=q;refine A2 (λcR q=>t8 hP c _ _ _ _ _ _ (λb g3 q=>?_) (λ_ _ z=>z) q) (hs i x σ g' hx e1 sh);obtain⟨rfl,e3,q⟩:=q;have ef:((List.range (i+1)).filter p).map w=((List.range i).filter p).map w++if p i=true then[w i] else[]:=by
   rw[iY,fk,dW]
   congr 1
   cases z:p i<;>simp only[List.filter_cons,z,List.filter_nil]<;>rfl
  cases hp:p i with
  |true =>
   rw[hp] at q ef;rw[aJ rfl] at q ⊢;refine c7 hP elt _ _ _ _ _ _ (λy g4 q=>?_) (λ_ _ z=>z) q;obtain⟨rfl,e4,sh⟩:=q;exact⟨e4,by rw[ef];rfl,sh⟩
  |false =>
   rw[hp] at q ef;rw[aC (by decide)] at q ⊢;exact⟨e3,by rw[ef];simp,q⟩
 ·obtain⟨e1,rfl,sh⟩:=q;exact hd g' e1
theorem comp_map(hP:j6 P)(Sh:S->Prop)(w:Nat->D){l:List D}{k:IK}(hk:∀g',Ex g g'->k.Is l g')(hl:l.length<=1000)(h0:Sh (J5 σ d6 n))(hs:∀i d σ g',l[i]?=some d->Ex g g'->Sh σ->jZ t d σ λcR=>bg P elt cR g' (λy g4=>y=w i/\Ex g g4/\Sh cR) jS)(hd:∀g',Ex g g'->Q (.ref g'.length) (g'++[.lst ((List.range l.length).map w)]))(hi:∀R:IK->G->Prop,R k g->iu P it σ g R E):bg P (.comp d6 n t it .no elt) σ g Q E:=by
 refine A1 hP Sh (λ_=>true) w hk hl h0 (λi d σ g' hx e sh=>A2 (λcR q=>DP ⟨rfl,e,?_⟩) (hs i d σ g' hx e sh)) (λg' e=>?_) hi
 ·exact mO q
 ·have:=hd g' e
  rwa [show(List.range l.length).filter (λ_=>true)=List.range l.length from List.filter_eq_self.mpr λ_ _=>rfl]
theorem R5(hP:j6 P){a:Nat}{l:List D}{o:ME}(hl:d7 g a=some l)(h:∀Q:KD,Q (.ref a) g->bg P o σ g Q E):∀R:IK->G->Prop,R (.lst a) g->iu P (.fF o) σ g R E:=λR r=>ml hP (h _ ⟨a,l,rfl,hl,r⟩)
theorem Ep{a:Nat}{l:List D}{o:ME}(hl:d7 g a=some l)(h:∀Q:KD,Q (.ref a) g->bg P o σ g Q E):∀R:IK->G->Prop,R (.oS a) g->iu P (.lA o) σ g R E:=λR r=>Ai (h _ ⟨a,l,rfl,hl,r⟩)
theorem zo(hP:j6 P){j:Nat}{o:ME}(hj:j<=1000)(h:∀Q:KD,Q (.int (j:Nat)) g->bg P o σ g Q E):∀R:IK->G->Prop,R (.fix (i8 0 j)) g->iu P (.eG o) σ g R E:=λR r=>V1 hP (h _ ⟨j,rfl,by omega,by omega,by simpa using r⟩)
end
theorem CD(l:List Nat):c6 l=(l.map λ(i:Nat)=>(i:Int)).map D.int:=by simp[c6]
structure TB0(T:Nat->Option bq):Prop where
 nf:NF T
 h2:T 2=some G0
 tF:T 12=some B0
 vM:Ld T
 lN:EE T
 pM:T 15=some yZ
 NM:T 20=some Cs
 rz:T 74=some T1
 NH:T 88=some CV
 NG:T 89=some U5
 tE:T 90=some Z4
 vI:T 91=some S7
 NC:T 92=some CY
 NB:T 93=some Eb
 NA:T 94=some U2
 Nz:T 95=some Q9
 Ny:T 96=some Di
 Nx:T 97=some O1
 Bs:T 100=some Z9
 Br:T 101=some Z5
 Bm:T 113=some U7
structure TB(T:Nat->Option bq):Prop extends TB0 T where
 vJ:T 42=some E6
 Bg:T 98=some M7
 Nw:T 99=some CT
instance{T:Nat->Option bq}:CoeOut (TB T) (TB0 T):=⟨TB.toTB0⟩
section
variable{T:Nat->Option bq}{k d:Nat}{g g':G}{Q:KD}{E:KX}{a p:Nat}{cs:List b7}
theorem Xx(h1:NF T)(vJ:T 42=some E6){i:Int}(h:1<=i->i<=9->Q .bN g)(hn:¬(1<=i/\i<=9)->E ⟨"BadAnvils"⟩ g):d0 T (k+3) 42 [.int i] g Q E:=by
 refine call_of vJ rfl ?_;dsimp[E6,d4,List.replicate];walk_at"";refine B7 (k:=k) h1 ?_;walk_at"";by_cases hi:1<=i/\i<=9
 ·rw[aA hi.1,aA hi.2];walk_at"";exact h hi.1 hi.2
 ·have:(decide (1<=i)&&decide (i<=9))=false:=by
   rw[Bool.and_eq_false_iff,dE,dE];omega
  rw[this];walk_at"";exact hn hi
theorem N4(h1:NF T)(lN:EE T)(rz:T 74=some T1){w:RW}{x:Int}(ha:g[a]?=some (.lst (cs.map b7.d)))(hz:cs.length<=1000)(h:∀g' b,Ex g g'->g.length<=b->g'[b]?=some (.lst (c6 (jL cs w x)))->Q (.ref b) g'):d0 T (k+3) 74 [.ref a,.str w.s,.int x] g Q E:=by
 refine call_of rz rfl ?_;dsimp[T1,d4,List.replicate];walk_at"";refine IT (k:=k+1) h1 ?_;walk_at"";have fld:∀f:Int,(f=0\/f=2)->(∀i c,cs[i]?=some c->meant cs w x i=decide (A5 f c=x))->bg (d0 T (k+2)) (.comp [3,2] 5 (.many [3,4]) (.lA (.var 0)) (.fT (.prim (.cmp .Eq) (.cons (.prim .ix (.cons (.var 4) (.cons (.var 0) .nil))) (.cons (.var 1) .nil)))) (.var 3)) [some (.ref a),some (.str w.s),some (.int x),some (.int f)] g Q E:=λf hf hm=>by
  refine A1 (b0 T _) (λσ=>∃z2 z3 z4,σ=[some (.int f),some (.int x),z2,z3,z4]) (meant cs w x) (λi=>.int (i:Nat)) (l:=mQ (cs.map b7.d)) (λg' e=>yH (a9 (e.at ha))) (by rw[M3];simpa using hz) ⟨none,none,none,rfl⟩ (λi d σ g' hx e sh=>?_) (λg' e=>?_) (Ep (a9 ha) λQ q=>w_var (d:=.ref a) rfl q)
  ·obtain⟨z2,z3,z4,rfl⟩:=sh;obtain⟨dd,hd,rfl⟩:=yX hx;rw[ao,ae] at hd;obtain⟨c,hc,rfl⟩:=hd;refine B5 rfl ?_
   try show df _ _ _ _ _ _
   walk_at"";refine u9 (L3 hf c) ?_;walk_at"";rw[hm i c hc];refine⟨rfl,e,?_⟩;refine if2 (λ_=>?_) (λ_=>?_)
   ·walk_at"";exact⟨rfl,e,_,_,_,rfl⟩
   ·exact⟨_,_,_,rfl⟩
  ·rw[M3,ai];exact h _ _ (e.trans (Ex.snoc _ _)) e.len b8
 cases w with
 |fQ =>
  refine js (by decide +kernel) ?_;walk_at"";refine A1 (b0 T _) (λσ=>∃z1 z2,σ=[some (.int x),z1,z2]) (meant cs .fQ x) (λi=>.int (i:Nat)) (l:=i8 0 cs.length) (λg' e=>s9) (by rw[j9];exact hz) ⟨none,none,rfl⟩ (λi d σ g' hx e sh=>?_) (λg' e=>?_) (zo (b0 T _) hz λQ q=>?_)
  ·obtain⟨z2,z3,rfl⟩:=sh;obtain⟨hi,rfl⟩:=x6 hx;rw[eO];refine l6 ?_
   try show df _ _ _ _ _ _
   walk_at"";refine⟨rfl,e,?_⟩;refine if2 (λ_=>?_) (λ_=>?_)
   ·walk_at"";exact⟨rfl,e,_,_,rfl⟩
   ·exact⟨_,_,rfl⟩
  ·rw[j9];exact h _ _ (e.trans (Ex.snoc _ _)) e.len b8
  ·walk_at"";rw[ai];exact q
 |lower =>
  refine gI (by decide +kernel) ?_;walk_at"";refine F0 (k:=k) lN (by decide +kernel) (λ_=>?_) (λz=>absurd z (by decide +kernel)) (λz=>absurd rfl z);walk_at"";exact fld 0 (.inl rfl) λi c hc=>by simp only[meant,B9 hc];rfl
 |upper =>
  refine gI (by decide +kernel) ?_;walk_at"";refine F0 (k:=k) lN (by decide +kernel) (λz=>absurd z (by decide +kernel)) (λ_=>?_) (λ_ z=>absurd rfl z);walk_at"";exact fld 2 (.inr rfl) λi c hc=>by simp only[meant,B9 hc];rfl
theorem M5(tE:T 90=some Z4){l:List Nat}(ha:g[a]?=some (.lst (c6 l)))(hz:l.length<=1000)(hl:∀i∈l,i<=1000)(h:∀g',Ex g g'->Q (.int (pj l:Nat)) g'):d0 T (k+1) 90 [.ref a] g Q E:=by
 refine call_of tE rfl ?_;dsimp[Z4,d4,List.replicate];walk_at"";refine comp_map (b0 T _) (λσ=>∃z0 z1,σ=[z0,z1]) (λi=>.int ((2 ^ (l.getD i 0):Nat):Int)) (l:=c6 l) (k:=.lst a) (λg' e=>p0 (a9 (e.at ha))) (by simpa[c6] using hz) ⟨none,none,rfl⟩ (λi d σ g' hx e sh=>?_) (λg' e=>?_) (R5 (b0 T _) (a9 ha) λQ q=>w_var (d:=.ref a) rfl q)
 ·obtain⟨z0,z1,rfl⟩:=sh;rw[c6,ao,ae] at hx;obtain⟨j,hj,rfl⟩:=hx;refine l6 ?_
  try show bg _ _ _ _ _ _
  walk_at"";have:=hl j (aN hj);refine Dq ⟨by omega,by omega,by decide⟩ ?_;refine⟨?_,e,_,_,rfl⟩;simp[List.getD,hj]
 ·refine OW (ns:=(List.range l.length).map λi=>((2 ^ (l.getD i 0):Nat):Int)) (a9 (by rw[bA];simpa[c6] using b8)) ?_;have:((List.range l.length).map λi=>((2 ^ (l.getD i 0):Nat):Int)).sum=(pj l:Nat):=by
   have e2:(List.range l.length).map (λi=>((2 ^ (l.getD i 0):Nat):Int))=(l.map (2 ^ ·)).map λ(n:Nat)=>(n:Int):=by
    refine cI λi=>?_;rw[ao,ao,ao];by_cases hi:i<l.length
    ·rw[cK hi,ak hi];simp[List.getD,hi]
    ·rw[aV (by simpa using hi),aV (by omega)]
     rfl
   rw[e2];unfold pj;generalize l.map (2 ^ ·)=m
   induction m with
   |nil=>rfl
   |cons x r ih=>simp[ih]
  rw[this];exact h _ (e.trans (Ex.snoc _ _))
theorem P8(vI:T 91=some S7){s p:Nat}(hp:p<=1000)(h:Q (.int ((s |||2 ^ p:Nat):Int)) g):d0 T (k+1) 91 [.int (s:Nat),.int (p:Nat)] g Q E:=by
 refine call_of vI rfl ?_;dsimp[S7,d4,List.replicate];walk_at"";refine Dq ⟨by omega,by omega,by decide⟩ ?_;walk_at"";refine Uz ?_;have e:(1:Int)*2 ^ ((p:Nat):Int).toNat=((2 ^ p:Nat):Int):=by simp
 rw[e,QH];exact h
end
section
variable{T:Nat->Option bq}{k d:Nat}{g g':G}{Q:KD}{E:KX}{a p:Nat}{cs:List b7}
theorem Jv{c:b7}(h:CB c):c.lm.length<=1000/\c.um.length<=1000:=⟨aI h.1 (by decide),aI h.2 (by decide)⟩
theorem aA2(hT:TB0 T){c e:b7}(hc:CB c)(h:∀g',Ex g g'->Q (.bl (mw c e)) g'):d0 T (k+3) 92 [c.d,e.d] g Q E:=by
 refine call_of hT.NC rfl ?_;dsimp[CY,d4,List.replicate];walk_at"";refine z9 (b0 T _) (vg (b0 T _) ?_);walk_at"";refine⟨_,rfl,_,λi σ g'=>Ex g g'/\(∃z2 z3,σ=[some c.d,some e.d,z2,z3])/\(1<=i->(decide (c.lo=e.lo)&&!jJ c.lm e.lm)=false)/\(2<=i->(decide (c.up=e.up)&&!jJ c.um e.um)=false),λ_ _ _ _=>s9,⟨Ex.refl _,⟨none,none,rfl⟩,λz=>absurd z (by omega),λz=>absurd z (by omega)⟩,λi x σ g' hx q=>?_,λσ g' q=>?_⟩
 ·obtain⟨e1,⟨z2,z3,rfl⟩,q1,q2⟩:=q;refine l6 ?_
  try show wpS _ _ _ _ _ _
  match i,hx with
  |0,hx =>
   cases hx;walk_at"";refine F0 (k:=k) hT.lN (by decide +kernel) (λ_=>?_) (λz=>absurd z (by decide +kernel)) (λz=>absurd rfl z);walk_at"";refine u9 (l:=[.int c.lo,.tup (c.lm.map .int),.int c.up,.tup (c.um.map .int),.int c.yr]) rfl ?_;walk_at"";refine u9 (l:=[.int e.lo,.tup (e.lm.map .int),.int e.up,.tup (e.um.map .int),.int e.yr]) rfl ?_;walk_at"";refine if2 (λh1=>?_) (λh1=>?_)
   ·walk_at"";refine u9 (l:=[.int c.lo,.tup (c.lm.map .int),.int c.up,.tup (c.um.map .int),.int c.yr]) rfl ?_;walk_at"";refine u9 (l:=[.int e.lo,.tup (e.lm.map .int),.int e.up,.tup (e.um.map .int),.int e.yr]) rfl ?_;walk_at"";refine Ie (k:=k+1) hT.pM (Jv hc).1 λg2 e2=>?_;walk_at"";cases hw:jJ c.lm e.lm with
    |false =>
     walk_at"";have:mw c e=true:=by unfold mw;rw[aA h1,hw];rfl
     rw[<- this];exact h _ (e1.trans e2)
    |true =>
     walk_at"";exact⟨e1.trans e2,⟨_,_,rfl⟩,λ_=>by rw[aA h1];rfl,λz=>absurd z (by omega)⟩
   ·walk_at"";exact⟨e1,⟨_,_,rfl⟩,λ_=>by rw[aG h1];rfl,λz=>absurd z (by omega)⟩
  |1,hx =>
   cases hx;walk_at"";refine F0 (k:=k) hT.lN (by decide +kernel) (λz=>absurd z (by decide +kernel)) (λ_=>?_) (λ_ z=>absurd rfl z);walk_at"";refine u9 (l:=[.int c.lo,.tup (c.lm.map .int),.int c.up,.tup (c.um.map .int),.int c.yr]) rfl ?_;walk_at"";refine u9 (l:=[.int e.lo,.tup (e.lm.map .int),.int e.up,.tup (e.um.map .int),.int e.yr]) rfl ?_;walk_at"";refine if2 (λh1=>?_) (λh1=>?_)
   ·walk_at"";refine u9 (l:=[.int c.lo,.tup (c.lm.map .int),.int c.up,.tup (c.um.map .int),.int c.yr]) rfl ?_;walk_at"";refine u9 (l:=[.int e.lo,.tup (e.lm.map .int),.int e.up,.tup (e.um.map .int),.int e.yr]) rfl ?_;walk_at"";refine Ie (k:=k+1) hT.pM (Jv hc).2 λg2 e2=>?_;walk_at"";cases hw:jJ c.um e.um with
    |false =>
     walk_at"";have:mw c e=true:=by unfold mw;rw[aA h1,hw];simp
     rw[<- this];exact h _ (e1.trans e2)
    |true =>
     walk_at"";exact⟨e1.trans e2,⟨_,_,rfl⟩,λ_=>q1 (by omega),λ_=>by rw[aA h1];rfl⟩
   ·walk_at"";exact⟨e1,⟨_,_,rfl⟩,λ_=>q1 (by omega),λ_=>by rw[aG h1];rfl⟩
  |i+2,hx=>simp at hx
 ·obtain⟨e1,⟨z2,z3,rfl⟩,q1,q2⟩:=q
  try show wpS _ _ _ _ _ _
  walk_at"";have:mw c e=false:=by unfold mw;rw[q1 (by decide),q2 (by decide)];rfl
  rw[<- this];exact h _ e1
theorem a46(hT:TB0 T){c e:b7}(h:Q (.bl (kI c e)) g):d0 T (k+1) 93 [c.d,e.d] g Q E:=by
 refine call_of hT.NB rfl ?_;dsimp[Eb,d4,List.replicate];walk_at"";refine u9 (l:=[.int e.lo,.tup (e.lm.map .int),.int e.up,.tup (e.um.map .int),.int e.yr]) rfl ?_;walk_at"";refine if2 (λh1=>?_) (λh1=>?_)
 ·walk_at"";refine u9 (l:=[.int c.lo,.tup (c.lm.map .int),.int c.up,.tup (c.um.map .int),.int c.yr]) rfl ?_;walk_at"";have:kI c e=decide (e.yr<c.yr):=by unfold kI;rw[aA h1];rfl
  rw[<- this];exact h
 ·have:kI c e=false:=by unfold kI;rw[aG h1];rfl
  rw[<- this];exact h
def sI(cs:List b7)(q:b7->b7->Bool):List D:=(List.range cs.length).map λi=>.int ((iO cs.length λj=>q (bO cs j) (bO cs i):Nat):Int)
theorem V8{cs:List b7}{q:Nat->Bool}:∀i∈(List.range cs.length).filter q,i<cs.length:=λi hi=>bp.mp (bJ.mp hi).1
theorem K2{n:Nat}{q:Nat->Bool}:((List.range n).filter q).length<=n:=aI (jl _ _) (by simp)
theorem a99(hT:TB0 T)(ha:g[a]?=some (.lst (cs.map b7.d)))(hz:cs.length<=9)(hB:∀c∈cs,CB c)(h:∀g' b,Ex g g'->g.length<=b->g'[b]?=some (.lst (sI cs mw))->Q (.ref b) g'):d0 T (k+4) 94 [.ref a] g Q E:=by
 refine call_of hT.NA rfl ?_;dsimp[U2,d4,List.replicate];walk_at"";refine comp_map (b0 T _) (λσ=>∃z1 z2,σ=[some (.ref a),z1,z2]) (λi=>.int ((iO cs.length λj=>mw (bO cs j) (bO cs i):Nat):Int)) (l:=cs.map b7.d) (k:=.lst a) (λg' e=>p0 (a9 (e.at ha))) (by simp;omega) ⟨none,none,rfl⟩ (λi d σ g' hx e sh=>?_) (λg' e=>?_) (R5 (b0 T _) (a9 ha) λQ q=>w_var (d:=.ref a) rfl q)
 ·obtain⟨z1,z2,rfl⟩:=sh;rw[ao,ae] at hx;obtain⟨c,hc,rfl⟩:=hx;refine l6 ?_
  try show bg _ _ _ _ _ _
  walk_at"";refine A1 (b0 T _) (λσ=>∃z1 z2 z3,σ=[some c.d,z1,z2,z3]) (λj=>mw (bO cs j) (bO cs i)) (λi=>.int (i:Nat)) (l:=mQ (cs.map b7.d)) (k:=.oS a) (λg2 e2=>yH (a9 ((e.trans e2).at ha))) (by rw[M3];simp;omega) ⟨none,none,none,rfl⟩ (λj d σ g2 hx e2 sh=>?_) (λg2 e2=>?_) (Ep (a9 (e.at ha)) λQ q=>w_var (d:=.ref a) rfl q)
  ·obtain⟨z1,z2,z3,rfl⟩:=sh;obtain⟨dd,hd,rfl⟩:=yX hx;rw[ao,ae] at hd;obtain⟨c',jw,rfl⟩:=hd;refine B5 rfl ?_
   try show df _ _ _ _ _ _
   walk_at"";refine aA2 (k:=k) hT (hB c' (aN jw)) λg3 e3=>?_;walk_at"";refine⟨by simp only[B9 jw,B9 hc],e2.trans e3,?_⟩;cases mw c' c with
   |true =>
    refine js rfl ?_;walk_at"";exact⟨rfl,e2.trans e3,_,_,_,rfl⟩
   |false=>exact gI rfl ⟨_,_,_,rfl⟩
  ·walk_at"";refine M5 (k:=k+2) hT.tE (l:=(List.range cs.length).filter λj=>mw (bO cs j) (bO cs i)) (by have:=b8 (g:=g2) (o:=.lst (((List.range (mQ (cs.map b7.d)).length).filter λj=>mw (bO cs j) (bO cs i)).map λi=>D.int (i:Nat)));rw[M3,ai] at this ⊢;exact this) (aI K2 (by omega)) (λj hj=>by have:=V8 j hj;omega) λg3 e3=>?_;exact⟨rfl,(e.trans (e2.trans (Ex.snoc _ _))).trans e3,_,_,rfl⟩
 ·refine h _ _ (e.trans (Ex.snoc _ _)) e.len ?_;rw[b8,ai]
  rfl
theorem Yp(hT:TB0 T)(ha:g[a]?=some (.lst (cs.map b7.d)))(hz:cs.length<=9)(h:∀g' b,Ex g g'->g.length<=b->g'[b]?=some (.lst (sI cs kI))->Q (.ref b) g'):d0 T (k+4) 95 [.ref a] g Q E:=by
 refine call_of hT.Nz rfl ?_;dsimp[Q9,d4,List.replicate];walk_at"";refine comp_map (b0 T _) (λσ=>∃z1 z2,σ=[some (.ref a),z1,z2]) (λi=>.int ((iO cs.length λj=>kI (bO cs j) (bO cs i):Nat):Int)) (l:=cs.map b7.d) (k:=.lst a) (λg' e=>p0 (a9 (e.at ha))) (by simp;omega) ⟨none,none,rfl⟩ (λi d σ g' hx e sh=>?_) (λg' e=>?_) (R5 (b0 T _) (a9 ha) λQ q=>w_var (d:=.ref a) rfl q)
 ·obtain⟨z1,z2,rfl⟩:=sh;rw[ao,ae] at hx;obtain⟨c,hc,rfl⟩:=hx;refine l6 ?_
  try show bg _ _ _ _ _ _
  walk_at"";refine A1 (b0 T _) (λσ=>∃z1 z2 z3,σ=[some c.d,z1,z2,z3]) (λj=>kI (bO cs j) (bO cs i)) (λi=>.int (i:Nat)) (l:=mQ (cs.map b7.d)) (k:=.oS a) (λg2 e2=>yH (a9 ((e.trans e2).at ha))) (by rw[M3];simp;omega) ⟨none,none,none,rfl⟩ (λj d σ g2 hx e2 sh=>?_) (λg2 e2=>?_) (Ep (a9 (e.at ha)) λQ q=>w_var (d:=.ref a) rfl q)
  ·obtain⟨z1,z2,z3,rfl⟩:=sh;obtain⟨dd,hd,rfl⟩:=yX hx;rw[ao,ae] at hd;obtain⟨c',jw,rfl⟩:=hd;refine B5 rfl ?_
   try show df _ _ _ _ _ _
   walk_at"";refine a46 (k:=k+2) hT ?_;walk_at"";refine⟨by simp only[B9 jw,B9 hc],e2,?_⟩;cases kI c' c with
   |true =>
    refine js rfl ?_;walk_at"";exact⟨rfl,e2,_,_,_,rfl⟩
   |false=>exact gI rfl ⟨_,_,_,rfl⟩
  ·walk_at"";refine M5 (k:=k+2) hT.tE (l:=(List.range cs.length).filter λj=>kI (bO cs j) (bO cs i)) (by have:=b8 (g:=g2) (o:=.lst (((List.range (mQ (cs.map b7.d)).length).filter λj=>kI (bO cs j) (bO cs i)).map λi=>D.int (i:Nat)));rw[M3,ai] at this ⊢;exact this) (aI K2 (by omega)) (λj hj=>by have:=V8 j hj;omega) λg3 e3=>?_;exact⟨rfl,(e.trans (e2.trans (Ex.snoc _ _))).trans e3,_,_,rfl⟩
 ·refine h _ _ (e.trans (Ex.snoc _ _)) e.len ?_;rw[b8,ai]
  rfl
theorem a53(hT:TB0 T)(ha:g[a]?=some (.lst (cs.map b7.d)))(hz:cs.length<=9)(hg:cs.all v5=true)(h:Q (.ref g.length) (g++[.lst ((o6 (cs.map b7.lo)).map .int)])):d0 T (k+7) 20 [.ref a,.str "lower"] g Q E:=by
 refine call_of hT.NM rfl ?_;dsimp[Cs,d4,List.replicate];walk_at"";refine X5 (k:=k) hT.nf hT.h2 hT.tF hT.vM ha (by omega) (λz=>by omega) (λ_ z=>by rw[hg] at z;cases z) λ_ _=>?_;walk_at"";refine F0 (k:=k+4) hT.lN (by decide +kernel) (λ_=>?_) (λz=>absurd z (by decide +kernel)) (λz=>absurd rfl z);walk_at"";refine Ut (b0 T _) (ml (b0 T _) ?_);walk_at"";refine⟨a,_,rfl,a9 ha,cs.map b7.d,λi ys σ g'=>∃z w,ys=(cs.take i).map b7.lo/\σ=[some (.int 0),z,w]/\g'=g,by simp;omega,λi ys σ g' p=>?_,⟨none,none,rfl,rfl,rfl⟩,λi c ys σ g' hx p=>?_,λys σ g' p=>?_⟩
 ·obtain⟨z,w,rfl,rfl,rfl⟩:=p;exact⟨p0 (a9 ha),by simp;omega⟩
 ·obtain⟨z,w,rfl,rfl,rfl⟩:=p;rw[ao,ae] at hx;obtain⟨c,hc,rfl⟩:=hx;show df _ _ _ _ _ _;walk_at"";refine u9 (l:=[.int c.lo,.tup (c.lm.map .int),.int c.up,.tup (c.um.map .int),.int c.yr]) rfl ?_;refine⟨_,rfl,_,_,?_,rfl,rfl⟩;rw[bR,hc];simp
 ·obtain⟨z,w,rfl,rfl,rfl⟩:=p;rw[ai,bW];exact h
def V3(cs:List b7):List D:=(o6 (cs.map b7.lo)).map λd=>.int ((iO cs.length (meant cs .lower d):Nat):Int)
theorem Xh(hT:TB0 T)(ha:g[a]?=some (.lst (cs.map b7.d)))(hz:cs.length<=9)(hg:cs.all v5=true)(h:∀g' b,Ex g g'->g.length<=b->g'[b]?=some (.lst (V3 cs))->Q (.ref b) g'):d0 T (k+8) 96 [.ref a] g Q E:=by
 refine call_of hT.Ny rfl ?_;dsimp[Di,d4,List.replicate];walk_at"";have AE:(o6 (cs.map b7.lo)).length<=9:=aI (R9 _) (by simpa using hz);unfold V3 at h;refine J7 (b0 T _) (ml (b0 T _) ?_);walk_at"";refine a53 (k:=k) hT ha hz hg ?_;have e0:=Ex.snoc g (O.lst ((o6 (cs.map b7.lo)).map .int));have hb:=b8 (g:=g) (o:=O.lst ((o6 (cs.map b7.lo)).map .int));generalize o6 (cs.map b7.lo)=ds at *;generalize g++[O.lst (ds.map .int)]=g1 at *;refine⟨_,_,rfl,a9 hb,ds.map .int,λi ys σ g'=>Ex g1 g'/\ys=(ds.take i).map (λd=>.int ((iO cs.length (meant cs .lower d):Nat):Int))/\∃z1 z2,σ=[some (.ref a),z1,z2],by simp;omega,λi ys σ g' q=>⟨p0 (a9 (q.1.at hb)),?_⟩,⟨Ex.refl _,rfl,none,none,rfl⟩,λi x ys σ g' hx q=>?_,λys σ g' q=>?_⟩
 ·obtain⟨_,rfl,_⟩:=q;simp;omega
 ·obtain⟨e1,rfl,z1,z2,rfl⟩:=q;rw[ao,ae] at hx;obtain⟨dd,hd,rfl⟩:=hx;refine l6 ?_
  try show df _ _ _ _ _ _
  walk_at"";refine N4 (k:=k+4) hT.nf hT.lN hT.rz (w:=.lower) ((e0.trans e1).at ha) (by omega) λg2 b2 e2 _ vB=>?_;walk_at"";refine M5 (k:=k+6) hT.tE vB (aI K2 (by omega)) (λj hj=>by have:=V8 j hj;omega) λg3 e3=>?_;refine⟨e1.trans (e2.trans e3),?_,_,_,rfl⟩;rw[bR,hd];simp[iO,jL]
 ·obtain⟨e1,rfl,z1,z2,rfl⟩:=q;rw[ai,bW];exact h _ _ (e0.trans (e1.trans (Ex.snoc _ _))) (aI e0.len e1.len) b8
end
theorem T9{g:G}{a:Nat}{ms:List Int}{i:Int}{k:Bool->Prop}(ha:d7 g a=some (ms.map .int))(h:k (ms.any λm=>m==i)):qQ g (.int i) (.ref a) k:=by
 refine⟨_,.inr ⟨_,_,_,ha,N8 ms,rfl,lay_ints ms,by simp[PyData.canLay0],rfl⟩,?_⟩;rw[lr];exact h
theorem Cp{g:G}{a:Nat}{l:List Nat}{i:Nat}{k:Bool->Prop}(ha:g[a]?=some (.lst (c6 l)))(h:k (decide (i∈l))):qQ g (.int (i:Nat)) (.ref a) k:=by
 refine T9 (ms:=l.map λ(i:Nat)=>(i:Int)) (by rw[<- CD];exact a9 ha) ?_;have:((l.map λ(i:Nat)=>(i:Int)).any λm=>m==(i:Int))=decide (i∈l):=by
  rw[aZ,aU,cH];constructor
  ·rintro⟨x,hx,e⟩;obtain⟨j,hj,rfl⟩:=aT.mp hx;rw[bz] at e;rw[show i=j by omega];exact hj
  ·exact λhi=>⟨_,aT.mpr ⟨i,hi,rfl⟩,by simp⟩
 rw[this];exact h
structure nO(g:G)(nb lo n:Nat)(B:Nat->Nat)(F:Nat->Nat->Prop):Prop where
 ex:∃as:List Nat,g[nb]?=some (.lst (as.map .ref))/\as.length=n/\as.Nodup/\(∀a∈as,lo<=a/\a≠nb)/\∀i a,as[i]?=some a->∃ms:List Nat,g[a]?=some (.lst (c6 ms))/\ms.length<=B i/\∀m,m∈ms↔F i m
theorem nO.at{g g':G}{nb lo n:Nat}{B:Nat->Nat}{F:Nat->Nat->Prop}(h:nO g nb lo n B F)(e:Ex g g'):nO g' nb lo n B F:=by
 obtain⟨as,h1,h2,h3,h4,h5⟩:=h.ex;refine⟨⟨as,e.at h1,h2,h3,h4,λi a hi=>?_⟩⟩;obtain⟨ms,m1,m2⟩:=h5 i a hi;exact⟨ms,e.at m1,m2⟩
theorem nO.imp{g:G}{nb lo n:Nat}{B B':Nat->Nat}{F F':Nat->Nat->Prop}(h:nO g nb lo n B F)(hB:∀i,i<n->B i<=B' i)(hF:∀i m,i<n->(F i m↔F' i m)):nO g nb lo n B' F' :=
 let ⟨as,h1,h2,h3,h4,h5⟩:=h.ex
 ⟨⟨as,h1,h2,h3,h4,λi a hi=>let ⟨ms,m1,m2,m3⟩:=h5 i a hi
  have jz:i<n:=by rw[<- h2];exact(aw.mp hi).1
  ⟨ms,m1,aI m2 (hB i jz),λm=>(m3 m).trans (hF i m jz)⟩⟩⟩
def tY(cs:List b7)(rs:List gY)(i m:Nat):Prop:=∃r∈rs,meant cs r.w r.y i=true/\m=iO cs.length (meant cs r.w r.x)
def u4(rs:List gY):List D:=rs.map gY.d
theorem HW{α:Type}{l:List α}(h:l.Nodup){i j:Nat}{a:α}(hi:l[i]?=some a)(hj:l[j]?=some a):i=j:=by
 obtain⟨h1,e1⟩:=aw.mp hi;obtain⟨h2,e2⟩:=aw.mp hj;exact(lV h).mp (e1.trans e2.symm)
section
variable{T:Nat->Option bq}{k d:Nat}{g g':G}{Q:KD}{E:KX}{a c p:Nat}{cs:List b7}{rs:List gY}
theorem Yv(hT:TB0 T)(ha:g[a]?=some (.lst (cs.map b7.d)))(hz:cs.length<=9)(hc:g[c]?=some (.lst (u4 rs)))(hr:rs.length<=900)(h:∀g' b,Ex g g'->g.length<=b->nO g' b g.length cs.length (λ_=>rs.length) (tY cs rs)->Q (.ref b) g'):d0 T (k+4) 97 [.ref a,.ref c] g Q E:=by
 refine call_of hT.Nx rfl ?_;dsimp[O1,d4,List.replicate];walk_at"";refine J7 (b0 T _) (ml (b0 T _) ?_);walk_at"";refine⟨a,_,rfl,a9 ha,cs.map b7.d,λi ys σ g'=>Ex g g'/\(∃as:List Nat,ys=as.map .ref/\as.length=i/\as.Nodup/\∀b∈as,g.length<=b/\g'[b]?=some (.lst []))/\∃z0 z1,σ=[z0,z1],by simp;omega,λi ys σ g' q=>⟨p0 (a9 (q.1.at ha)),?_⟩,⟨Ex.refl _,⟨[],rfl,rfl,by simp,by simp⟩,none,none,rfl⟩,λi x ys σ g' hx q=>?_,λys σ g' q=>?_⟩
 ·obtain⟨_,⟨as,rfl,rfl,_⟩,_⟩:=q;simp
 ·obtain⟨e1,⟨as,rfl,hl,nd,hA⟩,z0,z1,rfl⟩:=q;refine l6 ?_
  try show df _ _ _ _ _ _
  walk_at"";refine⟨e1.trans (Ex.snoc _ _),⟨as++[g'.length],by simp,by simp[hl],?_,λb hb=>?_⟩,_,_,rfl⟩
  ·rw[dj];exact⟨nd,by simp,λx hx y hy=>by cases bf.mp hy;exact aK (m8 (hA x hx).2)⟩
  ·rcases aS.mp hb with hb|hb
   ·exact⟨(hA b hb).1,(Ex.snoc _ _).at (hA b hb).2⟩
   ·cases bf.mp hb;exact⟨e1.len,b8⟩
 ·obtain⟨e1,⟨as,rfl,hl,nd,hA⟩,z0,z1,rfl⟩:=q;rw[ai] at hl;walk_at"";have e2:=e1.trans (Ex.snoc g' (O.lst (as.map D.ref)));have lo:=e1.len;have N0:nO (g'++[O.lst (as.map D.ref)]) g'.length g.length cs.length (λ_=>0) (tY cs []):=⟨⟨as,b8,hl,nd,λb hb=>⟨(hA b hb).1,aK (m8 (hA b hb).2)⟩,λi b hb=>⟨[],(Ex.snoc _ _).at (hA b (aN hb)).2,by simp,λm=>⟨λz=>absurd z (by simp),λ⟨r,hr,_⟩=>absurd hr (by simp)⟩⟩⟩⟩
  generalize g'++[O.lst (as.map D.ref)]=g1 at *;generalize g'.length=nb at *;refine z9 (b0 T _) (ml (b0 T _) ?_);walk_at"";refine⟨c,_,rfl,a9 (e2.at hc),u4 rs,λi σ g'=>Ex g g'/\nO g' nb g.length cs.length (λ_=>i) (tY cs (rs.take i))/\∃z3 z4 z5 z6 z7,σ=[some (.ref a),some (.ref c),some (.ref nb),z3,z4,z5,z6,z7],λi σ g' q=>p0 (a9 (q.1.at hc)),⟨e2,N0,none,none,none,none,none,rfl⟩,λi x σ g' hx q=>?_,λσ g' q=>?_⟩
  ·obtain⟨e3,N3,z3,z4,z5,z6,z7,rfl⟩:=q;rw[u4,ao,ae] at hx;obtain⟨r,eT,rfl⟩:=hx;have hi:i<rs.length:=(aw.mp eT).1;refine B5 (l:=[.str r.w.s,.int r.x,.int r.y]) rfl ?_
   try show wpS _ _ _ _ _ _
   walk_at"";refine N4 (k:=k) hT.nf hT.lN hT.rz (e3.at ha) (by omega) λg4 b4 e4 _ Nh=>?_;walk_at"";refine M5 (k:=k+2) hT.tE Nh (aI K2 (by omega)) (λj hj=>by have:=V8 j hj;omega) λg5 e5=>?_;walk_at"";have yf:=e3.trans (e4.trans e5);have N5:=N3.at (e4.trans e5);have ef:pj (jL cs r.w r.x)=iO cs.length (meant cs r.w r.x):=rfl;rw[ef];generalize iO cs.length (meant cs r.w r.x)=first at *
   refine z9 (b0 T _) (ml (b0 T _) ?_);walk_at"";refine N4 (k:=k) hT.nf hT.lN hT.rz (yf.at ha) (by omega) λg6 b6 e6 hb6 FU=>?_;refine⟨b6,_,rfl,a9 FU,c6 (jL cs r.w r.y),λj σ g'=>Ex g g'/\g'[b6]?=some (.lst (c6 (jL cs r.w r.y)))/\nO g' nb g.length cs.length (λq=>i+if q∈(jL cs r.w r.y).take j then 1 else 0) (λq m=>tY cs (rs.take i) q m\/(q∈(jL cs r.w r.y).take j/\m=first))/\(∀as:List Nat,g'[nb]?=some (.lst (as.map .ref))->b6∉as)/\∃z7,σ=[some (.ref a),some (.ref c),some (.ref nb),some (.str r.w.s),some (.int r.x),some (.int r.y),some (.int (first:Nat)),z7],λj σ g' q=>p0 (a9 q.2.1),⟨yf.trans e6,FU,(N5.at e6).imp (λq _=>by simp) (λq m _=>by simp),?_,z7,rfl⟩,λj x σ g' hx q=>?_,λσ g' q=>?_⟩
   ·intro yD h' hm;obtain⟨Ic,h1,h2,h3,h4,h5⟩:=N5.ex;have:=(e6.at h1).symm.trans h';have e':Ic=yD:=by
     have h0:Ic.map D.ref=yD.map D.ref:=by injection this with w;injection w
     exact(List.map_inj_right (λx y z=>by injection z)).mp h0
    subst e';obtain⟨i',jz⟩:=jj.mp hm;obtain⟨ms,m1,_⟩:=h5 i' b6 jz;have:=m8 m1;omega
   ·obtain⟨e7,p7,N7,xC,z7,rfl⟩:=q;rw[c6,ao,ae] at hx;obtain⟨q,hq,rfl⟩:=hx;have hqn:q<cs.length:=V8 q (aN hq);have MJ:q∉(jL cs r.w r.y).take j:=λz=>by
     obtain⟨j',AH⟩:=jj.mp z;have hl:j'<j:=by
      have:=(aw.mp AH).1;simp at this;omega
     rw[qk hl] at AH;have Mc:(jL cs r.w r.y).Nodup:=List.nodup_range.filter _;have:=HW Mc AH hq;omega
    have tk:(jL cs r.w r.y).take (j+1)=(jL cs r.w r.y).take j++[q]:=by rw[bR,hq];rfl
    obtain⟨wx,h1,h2,h3,h4,h5⟩:=N7.ex;have MD:q<wx.length:=by omega
    have tm:=ak MD;generalize wx[q]=aq at tm;obtain⟨ms,m1,m2,m3⟩:=h5 q aq tm;have gq:gz (wx.map D.ref) (q:Int)=some (.ref aq):=E1 (by rw[ao,tm];rfl);refine l6 ?_
    try show wpS _ _ _ _ _ _
    walk_at"";refine p8 (a9 h1) gq ?_;refine tT (Cp m1 ?_);walk_at"";by_cases lC:first∈ms
    ·refine gI (by simp[lC]) ?_;walk_at"";refine⟨e7,p7,N7.imp (λq' _=>?_) (λq' m _=>?_),xC,_,rfl⟩
     ·rw[tk];simp only[List.mem_append,List.mem_singleton];by_cases z:q'∈(jL cs r.w r.y).take j
      ·simp[z]
      ·simp[z]
     ·rw[tk];simp only[List.mem_append,List.mem_singleton];constructor
      ·rintro(z|⟨z1,z2⟩)
       ·exact .inl z
       ·exact .inr ⟨.inl z1,z2⟩
      ·rintro(z|⟨z1|z1,z2⟩)
       ·exact .inl z
       ·exact .inr ⟨z1,z2⟩
       ·subst z1 z2;exact(m3 m).mp lC
    ·refine js (by simp[lC]) ?_;walk_at"";refine p8 (a9 h1) gq ?_
     try refine⟨W5 m1,?_⟩
     walk_at"";rw[aC MJ] at m2;refine O8 m1 (by simp[c6];omega) ?_;walk_at"";have nz:=aN tm;have ft:=(h4 aq nz).2;have MK:aq≠b6:=λz=>xC wx h1 (z▸nz);have GB:=d5 (o':=O.lst (c6 ms++[D.int (first:Nat)])) h1 ft;refine⟨⟨by simp;exact e7.len,λi' jz=>by rw[ax (by have:=(h4 aq nz).1;omega)];exact e7.old i' jz⟩,d5 p7 MK,⟨⟨wx,GB,h2,h3,h4,λi' b hb=>?_⟩⟩,λyD h'=>?_,_,rfl⟩
     ·by_cases xP:i'=q
      ·subst xP;have:b=aq:=by rw[tm] at hb;injection hb with z;exact z.symm
       subst this;refine⟨ms++[first],by rw[get_set m1];simp[c6],?_,λm=>?_⟩
       ·rw[tk];simp;omega
       ·rw[aS,bf,m3 m,tk];simp only[List.mem_append,List.mem_singleton];constructor
        ·rintro((z|⟨z1,z2⟩)|z)
         ·exact .inl z
         ·exact .inr ⟨.inl z1,z2⟩
         ·exact .inr ⟨.inr trivial,z⟩
        ·rintro(z|⟨z1|z1,z2⟩)
         ·exact .inl (.inl z)
         ·exact .inl (.inr ⟨z1,z2⟩)
         ·exact .inr z2
      ·have tj:aq≠b:=λz=>xP (HW h3 hb (z▸tm));obtain⟨Mm,k1,k2,k3⟩:=h5 i' b hb;refine⟨Mm,d5 k1 tj,?_,λm=>(k3 m).trans ?_⟩
       ·rw[tk];simpa[xP] using k2
       ·rw[tk];simp[xP]
     ·rw[GB] at h';exact xC yD (h1.trans h')
   ·obtain⟨e7,p7,N7,xC,z7,rfl⟩:=q;rw[c6,ai,bW] at N7
    try show wpS _ _ _ _ _ _
    walk_at"";refine⟨e7,N7.imp (λq _=>by split<;>omega) (λq m hq=>?_),_,_,_,_,_,rfl⟩;have tk:rs.take (i+1)=rs.take i++[r]:=by rw[bR,eT];rfl
    unfold tY;rw[tk];simp only[List.mem_append,List.mem_singleton];constructor
    ·rintro(⟨r',h1,h2⟩|⟨h1,h2⟩)
     ·exact⟨r',.inl h1,h2⟩
     ·exact⟨r,.inr rfl,(bJ.mp h1).2,by rw[h2];exact ef.symm⟩
    ·rintro⟨r',h1|h1,h2,h3⟩
     ·exact .inl ⟨r',h1,h2,h3⟩
     ·subst h1;exact .inr ⟨bJ.mpr ⟨bp.mpr hq,h2⟩,by rw[h3];exact ef⟩
  ·obtain⟨e3,N3,z3,z4,z5,z6,z7,rfl⟩:=q;rw[u4,ai,bW] at N3
   try show wpS _ _ _ _ _ _
   walk_at"";exact h _ _ e3 lo N3
end
def v9(cs:List b7)(r:gY):Bool:=!decide (r.x=r.y)&&(!(jL cs r.w r.x).isEmpty&&!(jL cs r.w r.y).isEmpty)
theorem in_words{g:G}{w:RW}{kb:Bool->Prop}(h:kb true):qQ g (.str w.s) (.tup [.str "coin",.str "lower",.str "upper"]) kb:=by
 refine⟨_,.inr ⟨_,[.str "coin",.str "lower",.str "upper"],.str w.s,rfl,rfl,rfl,by simp only[PyData.canLayAll0,PyData.canLay0,Bool.and_true];decide +kernel,by simp only[PyData.canLay0];cases w<;>decide +kernel,rfl⟩,?_⟩;have:([PyData.str "coin",PyData.str "lower",PyData.str "upper"].any λq=>PyData.eqv q (.str w.s))=true:=by
  simp only[List.any_cons,List.any_nil,PyData.eqv];cases w<;>decide +kernel
 rw[this];exact h
theorem ne_nil{g:G}{a b:Nat}{l:List Nat}{Q:KD}(ha:g[a]?=some (.lst (c6 l)))(hb:g[b]?=some (.lst []))(h:Q (.bl (!l.isEmpty)) g):cS (.cmp .NotEq) [.ref a,.ref b] g Q:=by
 refine En (Ye (ms:=l.map λ(i:Nat)=>(i:Int)) (ns:=[]) (by rw[<- CD];exact a9 ha) (a9 hb) ?_);have:decide ((l.map λ(i:Nat)=>(i:Int))=[])=l.isEmpty:=by cases l<;>simp
 rw[this];exact h
structure Bd(g:G)(b:Nat)(cs:List b7)(v:Int)(rs:List gY):Prop where
 ex:∃w l d nb,g[b]?=some (.ins "Bounds" [("size",.int cs.length),("full",.int ((2 ^ cs.length-1:Nat):Int)),("room",.int v),("worn_by_place",.ref w),("later_by_place",.ref l),("lower_dies",.ref d),("needed_by_place",.ref nb)]) /\
  g[w]?=some (.lst (sI cs mw))/\g[l]?=some (.lst (sI cs kI))/\g[d]?=some (.lst (V3 cs))/\nO g nb 0 cs.length (λ_=>rs.length) (tY cs rs)
theorem Bd.at{g g':G}{b:Nat}{cs:List b7}{v:Int}{rs:List gY}(h:Bd g b cs v rs)(e:Ex g g'):Bd g' b cs v rs:=by
 obtain⟨w,l,d,nb,h1,h2,h3,h4,h5⟩:=h.ex;exact⟨⟨w,l,d,nb,e.at h1,e.at h2,e.at h3,e.at h4,h5.at e⟩⟩
theorem Ze{α:Type}(l:List α)(z:α)(q:α->Bool):((List.range l.length).filter λi=>q (l.getD i z)).length=(l.filter q).length:=by
 have e:l=(List.range l.length).map λi=>l.getD i z:=by
  refine cI λi=>?_;rw[ao];by_cases hi:i<l.length
  ·rw[cK hi,ak hi];simp[List.getD,hi]
  ·rw[aV (by omega),aV (by simpa using hi)]
   rfl
 conv=>rhs;rw[e,List.filter_map,ai]
 rfl
theorem J'{n:Nat}{q:Nat->Bool}{s:Nat}{S:Nat->Bool}(h:∀i,i<n->s.testBit i=S i):((Builtin.bitAnd ((iO n q:Nat):Int) (s:Nat)) != 0)=(List.range n).any λi=>S i&&q i:=by
 rw[Cd,Nat.and_comm,yS,aZ,aU,aU];constructor
 ·rintro⟨i,h1,h2⟩;exact⟨i,h1,by rw[<- h i (bp.mp h1)];exact h2⟩
 ·rintro⟨i,h1,h2⟩;exact⟨i,h1,by rw[h i (bp.mp h1)];exact h2⟩
theorem a43{n s i:Nat}(h:s<2 ^ n)(hi:i<n):(2 ^ n-1-s).testBit i=!s.testBit i:=by
 rw[show 2 ^ n-1-s=2 ^ n-(s+1) by omega,Nat.testBit_two_pow_sub_succ h,aA hi]
 rfl
theorem P9(s p i:Nat):(s |||2 ^ p).testBit i=(s.testBit i||decide (i=p)):=by
 rw[Nat.testBit_or,Nat.testBit_two_pow]
 congr 1
 exact lS.mpr eq_comm
theorem JZ{s p n:Nat}(h:s<2 ^ n)(hp:p<n):s |||2 ^ p<2 ^ n:=Nat.or_lt_two_pow h (zy (by omega) hp)
section
variable{T:Nat->Option bq}{k d:Nat}{g g':G}{Q:KD}{E:KX}{a b c:Nat}{cs:List b7}{rs:List gY}{v:Int}
theorem aB6(hT:TB0 T){r:gY}(ha:g[a]?=some (.lst (cs.map b7.d)))(hz:cs.length<=1000)(h:∀g',Ex g g'->Q (.bl (v9 cs r)) g'):d0 T (k+4) 88 [.ref a,r.d] g Q E:=by
 refine call_of hT.NH rfl ?_;dsimp[CV,d4,List.replicate];walk_at"";refine B5 (l:=[.str r.w.s,.int r.x,.int r.y]) rfl ?_;walk_at"";refine tT (in_words ?_);walk_at"";refine if2 (λh1=>?_) (λh1=>?_)
 ·walk_at"";have:v9 cs r=false:=by unfold v9;rw[aA h1];rfl
  rw[<- this];exact h _ (Ex.refl _)
 ·walk_at"";refine N4 (k:=k) hT.nf hT.lN hT.rz ha hz λg1 b1 e1 _ vC=>?_;walk_at"";refine ne_nil ((Ex.snoc _ _).at vC) b8 ?_;walk_at"";cases h2:(jL cs r.w r.x).isEmpty with
  |true =>
   refine gI rfl ?_;have:v9 cs r=false:=by unfold v9;rw[aG h1,h2];rfl
   rw[<- this];exact h _ (e1.trans (Ex.snoc _ _))
  |false =>
   refine js rfl ?_;walk_at"";refine N4 (k:=k) hT.nf hT.lN hT.rz ((e1.trans (Ex.snoc _ _)).at ha) hz λg2 b2 e2 _ vB=>?_;walk_at"";refine ne_nil ((Ex.snoc _ _).at vB) b8 ?_;have:v9 cs r=!(jL cs r.w r.y).isEmpty:=by unfold v9;rw[aG h1,h2];rfl
   rw[<- this];exact h _ ((e1.trans (Ex.snoc _ _)).trans (e2.trans (Ex.snoc _ _)))
theorem Xt(hT:TB0 T)(ha:g[a]?=some (.lst (cs.map b7.d)))(hz:cs.length<=1000)(hc:g[c]?=some (.lst (u4 rs)))(hr:rs.length<=900)(h:rs.all (v9 cs)=true->∀g',Ex g g'->Q .bN g')(hn:rs.all (v9 cs)=false->∀g',Ex g g'->E ⟨"BadRule"⟩ g'):d0 T (k+5) 89 [.ref a,.ref c] g Q E:=by
 refine call_of hT.NG rfl ?_;dsimp[U5,d4,List.replicate];walk_at"";refine z9 (b0 T _) (Ai ?_);walk_at"";refine⟨c,_,rfl,a9 hc,mQ (u4 rs),λi σ g'=>Ex g g'/\(∃z2 z3,σ=[some (.ref a),some (.ref c),z2,z3])/\(rs.take i).all (v9 cs)=true,λi σ g' q=>yH (a9 (q.1.at hc)),⟨Ex.refl _,⟨none,none,rfl⟩,rfl⟩,λi x σ g' hx q=>?_,λσ g' q=>?_⟩
 ·obtain⟨e1,⟨z2,z3,rfl⟩,q⟩:=q;obtain⟨dd,hd,rfl⟩:=yX hx;rw[u4,ao,ae] at hd;obtain⟨r,eT,rfl⟩:=hd;have tk:rs.take (i+1)=rs.take i++[r]:=by rw[bR,eT];rfl
  refine B5 rfl ?_
  try show wpS _ _ _ _ _ _
  walk_at"";refine aB6 (k:=k) hT (e1.at ha) hz λg2 e2=>?_;walk_at"";cases hg:v9 cs r with
  |true =>
   walk_at"";exact⟨e1.trans e2,⟨_,_,rfl⟩,by rw[tk,List.all_append,q];simp[hg]⟩
  |false =>
   walk_at"";have hi:i<rs.length:=(aw.mp eT).1;refine UM ?_ ?_
   ·have:(i:Int).natAbs<2 ^ 10:=by rw[Lp];omega
    rw[Lp] at this ⊢;by_cases h0:i=0
    ·subst h0;decide
    ·exact cV ((Nat.log2_lt h0).mpr this) (by decide)
   walk_at"";refine QI rfl ?_;walk_at"";refine hn ?_ _ (e1.trans e2);rw[List.all_eq_false];exact⟨r,aN eT,by rw[hg];decide⟩
 ·obtain⟨e1,⟨z2,z3,rfl⟩,q⟩:=q;rw[M3,u4,ai,bW] at q;exact h q _ e1
theorem Xs(hT:TB0 T)(vJ:T 42=some E6)(Bg:T 98=some M7)(ha:g[a]?=some (.lst (cs.map b7.d)))(hz:cs.length<=1000)(hc:g[c]?=some (.lst (u4 rs)))(hr:rs.length<=900)(hm:9<cs.length->E ⟨"TooMany"⟩ g)(hb:cs.length<=9->cs.all v5=false->E ⟨"BadCoin"⟩ g)(hv:cs.length<=9->cs.all v5=true->¬(1<=v/\v<=9)->E ⟨"BadAnvils"⟩ g)(hw:cs.length<=9->cs.all v5=true->1<=v/\v<=9->rs.all (v9 cs)=false->∀g',Ex g g'->E ⟨"BadRule"⟩ g')(h:cs.length<=9->cs.all v5=true->1<=v/\v<=9->rs.all (v9 cs)=true->∀g',Ex g g'->Q .bN g'):d0 T (k+7) 98 [.ref a,.int v,.ref c] g Q E:=by
 refine call_of Bg rfl ?_;dsimp[M7,d4,List.replicate];walk_at"";refine X5 (k:=k) hT.nf hT.h2 hT.tF hT.vM ha hz hm hb λh9 hg=>?_;walk_at"";refine Xx (k:=k+3) hT.nf vJ (λv1 v2=>?_) (hv h9 hg);walk_at"";exact Xt (k:=k+1) hT ha hz hc hr (h h9 hg ⟨v1,v2⟩) (hw h9 hg ⟨v1,v2⟩)
theorem JQ{f:Str}{x:D}(fs:List (Str×D)):(m9 f x fs).length<=fs.length+1:=by
 induction fs with
 |nil=>simp[m9]
 |cons y r ih =>
  unfold m9;split<;>simp
  exact ih
theorem V7{f:Str}{x:D}{fs:List (Str×D)}{n:Nat}(h:fs.length+1<n):(m9 f x fs).length<n:=cZ (JQ fs) h
theorem V6{f:Str}{x:D}{fs:List (Str×D)}{m n:Nat}(h:fs.length+(m+1)<n):(m9 f x fs).length+m<n:=by
 have:=JQ (f:=f) (x:=x) fs;omega
def f3(n:Nat)(v:Int):List (Str×D):=[("size",.int n),("full",.int ((2 ^ n-1:Nat):Int)),("room",.int v)]
theorem X3(n:Nat)(v:Int):(f3 n v).length=3:=rfl
theorem Xp(hT:TB0 T)(ha:g[a]?=some (.lst (cs.map b7.d)))(hz:cs.length<=9)(hg:cs.all v5=true)(hB:∀c∈cs,CB c)(hc:g[c]?=some (.lst (u4 rs)))(hr:rs.length<=900)(hb:g[b]?=some (.ins "Bounds" []))(h:∀g',g.length<=g'.length->(∀i,i<g.length->i≠b->g'[i]?=g[i]?)->Bd g' b cs v rs->Q .bN g'):d0 T (k+9) 113 [.ref b,.ref a,.int v,.ref c] g Q E:=by
 refine call_of hT.Bm rfl ?_;dsimp[U7,d4,List.replicate];have uS:b≠a:=λz=>by subst z;rw[ha] at hb;cases hb
 have xB:b≠c:=λz=>by subst z;rw[hc] at hb;cases hb
 have lb:=m8 hb;walk_at"";refine Y6 hb (by simp) (by simp) ?_;walk_at"";have tq:=d5 (o':=O.ins "Bounds" (m9 "size" (.int (cs.map b7.d).length) [])) ha uS;refine K0 (a9 tq) ?_;walk_at"";refine Dq ⟨by omega,by simp;omega,by decide⟩ ?_;walk_at"";refine Y6 (get_set hb) (by simp) (by first|(simp;done)|(refine V7 ?_;repeat (first|(rw[X3];omega)|(simp;done)|refine V6 ?_))) ?_;rw[iL];walk_at"";refine Y6 (get_set hb) (by simp) (by first|(simp;done)|(refine V7 ?_;repeat (first|(rw[X3];omega)|(simp;done)|refine V6 ?_))) ?_;rw[iL];have e0:m9 "room" (.int v) (m9 "full" (.int (1*2 ^ Int.toNat ((cs.map b7.d).length:Int)-1)) (m9 "size" (.int (cs.map b7.d).length) []))=(f3 cs.length v):=by
  have:(1*2 ^ Int.toNat ((cs.map b7.d).length:Int)-1:Int)=((2 ^ cs.length-1:Nat):Int):=by
   rw[ai,cJ,Int.one_mul];have:=ky (n:=cs.length);rw[Int.natCast_sub this];simp
  rw[this,ai]
  rfl
 simp only[e0];have kp:∀(g1:G) (o:O),Ex (g.set b o) g1->(∀i,i<g.length->i≠b->g1[i]?=g[i]?)/\g.length<=g1.length:=λg1 o e=>⟨λi hi hn=>by rw[e.old i (by simpa using hi),ax (cx hn)],by have:=e.len;simpa using this⟩
 generalize ho:O.ins "Bounds" (f3 cs.length v)=o1;have vC:=get_set (o':=o1) hb;have tq:=d5 (o':=o1) ha uS;have rh:=d5 (o':=o1) hc xB;have k1:=kp _ o1 (Ex.refl _);generalize g.set b o1=g1 at *;subst ho;walk_at"";refine a99 (k:=k+4) hT tq hz hB λg2 w e2 hw1 hw=>?_;walk_at"";refine Y6 (e2.at vC) (by simp) (by rw[X3];omega) ?_;have lw:w≠b:=λz=>by have:=m8 vC;omega
 have AV:=get_set (o':=O.ins "Bounds" (m9 "worn_by_place" (.ref w) (f3 cs.length v))) (e2.at vC);have Mz:=d5 (o':=O.ins "Bounds" (m9 "worn_by_place" (.ref w) (f3 cs.length v))) hw lw.symm;have xV:=d5 (o':=O.ins "Bounds" (m9 "worn_by_place" (.ref w) (f3 cs.length v))) (e2.at tq) uS;have xR:=d5 (o':=O.ins "Bounds" (m9 "worn_by_place" (.ref w) (f3 cs.length v))) (e2.at rh) xB;have k3:(∀i,i<g.length->i≠b->(g2.set b (O.ins "Bounds" (m9 "worn_by_place" (.ref w) (f3 cs.length v))))[i]?=g[i]?)/\g.length<=(g2.set b (O.ins "Bounds" (m9 "worn_by_place" (.ref w) (f3 cs.length v)))).length:=⟨λi hi hn=>by rw[ax (cx hn),e2.old i (by have:=k1.2;omega)];exact k1.1 i hi hn,by simp;have:=e2.len;have:=k1.2;omega⟩
 generalize g2.set b (O.ins "Bounds" (m9 "worn_by_place" (.ref w) (f3 cs.length v)))=g3 at *;walk_at"";refine Yp (k:=k+4) hT xV hz λg4 l e4 jD hl=>?_;walk_at"";refine Y6 (e4.at AV) (by simp) (by first|(simp;done)|(refine V7 ?_;repeat (first|(rw[X3];omega)|(simp;done)|refine V6 ?_))) ?_;have ll:l≠b:=λz=>by have:=m8 AV;omega
 generalize ho:O.ins "Bounds" (m9 "later_by_place" (.ref l) (m9 "worn_by_place" (.ref w) (f3 cs.length v)))=o5;have AU:=get_set (o':=o5) (e4.at AV);have My:=d5 (o':=o5) (e4.at Mz) lw.symm;have MR:=d5 (o':=o5) hl ll.symm;have Gs:=d5 (o':=o5) (e4.at xV) uS;have Nc:=d5 (o':=o5) (e4.at xR) xB;have k5:(∀i,i<g.length->i≠b->(g4.set b o5)[i]?=g[i]?)/\g.length<=(g4.set b o5).length:=⟨λi hi hn=>by rw[ax (cx hn),e4.old i (by have:=k3.2;omega)];exact k3.1 i hi hn,by simp;have:=e4.len;have:=k3.2;omega⟩
 generalize g4.set b o5=g5 at *;subst ho;walk_at"";refine Xh (k:=k) hT Gs hz hg λg6 dd e6 Gn hd=>?_;walk_at"";refine Y6 (e6.at AU) (by simp) (by first|(simp;done)|(refine V7 ?_;repeat (first|(rw[X3];omega)|(simp;done)|refine V6 ?_))) ?_;have ld:dd≠b:=λz=>by have:=m8 AU;omega
 generalize ho:O.ins "Bounds" (m9 "lower_dies" (.ref dd) (m9 "later_by_place" (.ref l) (m9 "worn_by_place" (.ref w) (f3 cs.length v))))=o7;have AS:=get_set (o':=o7) (e6.at AU);have Mx:=d5 (o':=o7) (e6.at My) lw.symm;have MQ:=d5 (o':=o7) (e6.at MR) ll.symm;have M':=d5 (o':=o7) hd ld.symm;have Nj:=d5 (o':=o7) (e6.at Gs) uS;have Nb:=d5 (o':=o7) (e6.at Nc) xB;have k7:(∀i,i<g.length->i≠b->(g6.set b o7)[i]?=g[i]?)/\g.length<=(g6.set b o7).length:=⟨λi hi hn=>by rw[ax (cx hn),e6.old i (by have:=k5.2;omega)];exact k5.1 i hi hn,by simp;have:=e6.len;have:=k5.2;omega⟩
 generalize g6.set b o7=g7 at *;subst ho;walk_at"";refine Yv (k:=k+4) hT Nj hz Nb hr λg8 nb e8 xM hn=>?_;walk_at"";refine Y6 (e8.at AS) (by simp) (by first|(simp;done)|(refine V7 ?_;repeat (first|(rw[X3];omega)|(simp;done)|refine V6 ?_))) ?_;have lb7:=m8 AS;have ln:nb≠b:=λz=>by omega
 generalize ho:O.ins "Bounds" (m9 "needed_by_place" (.ref nb) (m9 "lower_dies" (.ref dd) (m9 "later_by_place" (.ref l) (m9 "worn_by_place" (.ref w) (f3 cs.length v)))))=o9;refine h _ (by simp;have:=e8.len;have:=k7.2;omega) (λi hi hn=>by rw[ax (cx hn),e8.old i (by have:=k7.2;omega)];exact k7.1 i hi hn) ⟨⟨w,l,dd,nb,?_,d5 (e8.at Mx) lw.symm,d5 (e8.at MQ) ll.symm,d5 (e8.at M') ld.symm,?_⟩⟩
 ·rw[get_set (e8.at AS),<- ho]
  rfl
 ·obtain⟨as,q1,q2,q3,q4,q5⟩:=hn.ex;exact⟨⟨as,d5 q1 ln.symm,q2,q3,λx hx=>⟨by omega,(q4 x hx).2⟩,λi x hx=>let ⟨ms,m1,m2⟩:=q5 i x hx;⟨ms,d5 m1 (λz=>by have:=(q4 x (aN hx)).1;omega),m2⟩⟩⟩
end
section
variable{T:Nat->Option bq}{k d:Nat}{g g':G}{Q:KD}{E:KX}{a b c:Nat}{cs:List b7}{rs:List gY}{v:Int}
theorem aD3(hT:TB T)(ha:g[a]?=some (.lst (cs.map b7.d)))(hz:cs.length<=1000)(hB:∀c∈cs,CB c)(hc:g[c]?=some (.lst (u4 rs)))(hr:rs.length<=900)(hm:9<cs.length->E ⟨"TooMany"⟩ g)(hb:cs.length<=9->cs.all v5=false->E ⟨"BadCoin"⟩ g)(hv:cs.length<=9->cs.all v5=true->¬(1<=v/\v<=9)->E ⟨"BadAnvils"⟩ g)(hw:cs.length<=9->cs.all v5=true->1<=v/\v<=9->rs.all (v9 cs)=false->∀g',Ex g g'->E ⟨"BadRule"⟩ g')(h:cs.length<=9->cs.all v5=true->1<=v/\v<=9->rs.all (v9 cs)=true->∀g' b,Ex g g'->g.length<=b->Bd g' b cs v rs->Q (.ref b) g'):d0 T (k+10) 99 [.ref a,.int v,.ref c] g Q E:=by
 refine call_of hT.Nw rfl ?_;dsimp[CT,d4,List.replicate];walk_at"";refine Xs (k:=k+2) hT.toTB0 hT.vJ hT.Bg ha hz hc hr hm hb hv hw λh9 hg hv hR g1 e1=>?_;walk_at"";have x1:=Ex.snoc g1 (O.ins "Bounds" []);refine Xp (k:=k) hT (x1.at (e1.at ha)) h9 hg hB (x1.at (e1.at hc)) hr b8 λg2 l2 o2 B2=>?_;refine⟨rfl,h h9 hg hv hR g2 _ ⟨by have:=e1.len;simp at l2;omega,λi hi=>?_⟩ e1.len B2⟩;have:=e1.len;rw[o2 i (by simp;omega) (by omega),x1.old i (by omega)];exact e1.old i hi
theorem ZQ(hT:TB T)(ha:g[a]?=some (.lst (cs.map b7.d)))(hz:cs.length<=9)(hg:cs.all v5=true)(hB:∀c∈cs,CB c)(hv:1<=v/\v<=9)(hc:g[c]?=some (.lst (u4 rs)))(hr:rs.length<=900)(hR:rs.all (v9 cs)=true)(h:∀g' b,Ex g g'->g.length<=b->Bd g' b cs v rs->Q (.ref b) g'):d0 T (k+10) 99 [.ref a,.int v,.ref c] g Q E :=
 aD3 hT ha (by omega) hB hc hr (λz=>by omega) (λ_ z=>by rw[hg] at z;cases z) (λ_ _ z=>absurd hv z) (λ_ _ _ z=>by rw[hR] at z;cases z) λ_ _ _ _=>h
theorem Xu(hT:TB0 T)(B:Bd g b cs v rs)(hz:cs.length<=9){s p:Nat}(hs:s<2 ^ cs.length)(hp:p<cs.length)(h:∀g',Ex g g'->Q (.int (tR cs s.testBit p:Nat)) g'):d0 T (k+2) 100 [.ref b,.int (s:Nat),.int (p:Nat)] g Q E:=by
 refine call_of hT.Bs rfl ?_;dsimp[Z9,d4,List.replicate];obtain⟨w,l,dd,nb,h1,h2,h3,h4,h5⟩:=B.ex;walk_at"";refine P8 (k:=k) hT.vI (by omega) ?_;walk_at"";refine pX h1 rfl ?_;walk_at"";have e1:((2 ^ cs.length-1:Nat):Int)-(s:Nat)=((2 ^ cs.length-1-s:Nat):Int):=by omega
 rw[e1];have AE:(o6 (cs.map b7.lo)).length<=9:=aI (R9 _) (by simpa using hz);have Gm:(V3 cs).length=(o6 (cs.map b7.lo)).length:=by simp[V3]
 refine A1 (b0 T _) (λσ=>∃z2 z3,σ=[some (.int ((2 ^ cs.length-1-s:Nat):Int)),some (.int ((s |||2 ^ p:Nat):Int)),z2,z3]) (λi=>Y0 cs s.testBit p ((o6 (cs.map b7.lo)).getD i 0)) (λi=>(V3 cs).getD i .bN) (l:=V3 cs) (k:=.lst dd) (λg' e=>p0 (a9 (e.at h4))) (by rw[Gm];omega) ⟨none,none,rfl⟩ (λi x σ g' hx e sh=>?_) (λg' e=>?_) (R5 (b0 T _) (a9 h4) λQ q=>?_)
 ·obtain⟨z2,z3,rfl⟩:=sh;have pD:=hx;rw[V3,ao,ae] at pD;obtain⟨nM,hd,rfl⟩:=pD;have eg:(o6 (cs.map b7.lo)).getD i 0=nM:=by simp[List.getD,hd]
  refine l6 ?_
  try show df _ _ _ _ _ _
  walk_at"";refine wz ?_;walk_at"";have b1:=J' (n:=cs.length) (q:=meant cs .lower nM) (s:=s |||2 ^ p) (S:=λi=>s.testBit i||decide (i=p)) (λi _=>P9 s p i);have b2:=J' (n:=cs.length) (q:=meant cs .lower nM) (s:=2 ^ cs.length-1-s) (S:=λi=>!s.testBit i) (λi hi=>a43 hs hi);rw[b1,eg];have hu:Y0 cs s.testBit p nM=(((List.range cs.length).any λi=>(s.testBit i||decide (i=p))&&meant cs .lower nM i)&&(List.range cs.length).any λi=>!s.testBit i&&meant cs .lower nM i):=rfl;rw[hu];cases (List.range cs.length).any λi=>(s.testBit i||decide (i=p))&&meant cs .lower nM i with
  |false =>
   refine gI rfl ?_;exact⟨rfl,e,gI rfl ⟨_,_,rfl⟩⟩
  |true =>
   refine js rfl ?_;walk_at"";refine wz ?_;walk_at"";rw[b2,qm];refine⟨rfl,e,?_⟩;cases (List.range cs.length).any λi=>!s.testBit i&&meant cs .lower nM i with
   |false=>exact gI rfl ⟨_,_,rfl⟩
   |true =>
    refine js rfl ?_;walk_at"";refine⟨?_,e,_,_,rfl⟩;simp[List.getD,hx]
 ·refine K0 (a9 b8) ?_;have:(((List.range (V3 cs).length).filter λi=>Y0 cs s.testBit p ((o6 (cs.map b7.lo)).getD i 0)).map λi=>(V3 cs).getD i .bN).length=tR cs s.testBit p:=by
   rw[ai,Gm,Ze (o6 (cs.map b7.lo)) 0 (Y0 cs s.testBit p)]
   rfl
  rw[this];exact h _ (e.trans (Ex.snoc _ _))
 ·walk_at"";exact pX h1 rfl q
theorem Js{q:b7->b7->Bool}{p:Nat}(hp:p<cs.length):gz (sI cs q) (p:Int)=some (.int ((iO cs.length λj=>q (bO cs j) (bO cs p):Nat):Int)):=E1 (by rw[sI,ao,cK hp];rfl)
theorem Ka{s n:Nat}{q:Nat->Bool}:((Builtin.bitAnd (s:Nat) ((iO n q:Nat):Int)) != 0)=(List.range n).any λi=>s.testBit i&&q i:=by rw[Cd,yS]
theorem Xj(hT:TB0 T)(B:Bd g b cs v rs)(hz:cs.length<=9)(hr:rs.length<=900){s p:Nat}(hs:s<2 ^ cs.length)(hp:p<cs.length)(h:∀g',Ex g g'->Q (yc (fault cs v rs s.testBit p)) g'):d0 T (k+3) 101 [.ref b,.int (s:Nat),.int (p:Nat)] g Q E:=by
 refine call_of hT.Br rfl ?_;dsimp[Z5,d4,List.replicate];obtain⟨w,l,dd,nb,h1,h2,h3,h4,h5⟩:=B.ex;walk_at"";refine pX h1 rfl ?_;walk_at"";refine p8 (a9 h2) (Js hp) ?_;refine wz ?_;walk_at"";rw[Ka];cases c1:(List.range cs.length).any λi=>s.testBit i&&mw (bO cs i) (bO cs p) with
 |true =>
  refine js rfl ?_;walk_at"";have:fault cs v rs s.testBit p="wear":=by unfold fault J8;rw[aJ c1]
  rw[this] at h;exact h _ (Ex.refl _)
 |false =>
 refine gI rfl ?_;walk_at"";refine pX h1 rfl ?_;walk_at"";refine p8 (a9 h3) (Js hp) ?_;refine wz ?_;walk_at"";rw[Ka];cases c2:(List.range cs.length).any λi=>s.testBit i&&kI (bO cs i) (bO cs p) with
 |true =>
  refine js rfl ?_;walk_at"";have:fault cs v rs s.testBit p="year":=by unfold fault J8 I0;rw[aC (by rw[c1];decide),aJ c2]
  rw[this] at h;exact h _ (Ex.refl _)
 |false =>
 refine gI rfl ?_;walk_at"";refine Xu (k:=k) hT B hz hs hp λg2 e2=>?_;walk_at"";refine pX (e2.at h1) rfl ?_;walk_at"";refine if2 (λc3=>?_) (λc3=>?_)
 ·walk_at"";have:fault cs v rs s.testBit p="anvil":=by unfold fault J8 I0;rw[aC (by rw[c1];decide),aC (by rw[c2];decide),aJ c3]
  rw[this] at h;exact h _ e2
 walk_at"";obtain⟨as,q1,q2,q3,q4,q5⟩:=h5.ex;have MG:p<as.length:=by omega
 have AW:=ak MG;generalize as[p]=ap at AW;obtain⟨ms,m1,m2,m3⟩:=q5 p ap AW;refine comp_map (b0 T _) (λσ=>∃z1 z2,σ=[some (.int (s:Nat)),z1,z2]) (λi=>.int ((s &&& ms.getD i 0:Nat):Int)) (l:=c6 ms) (k:=.lst ap) (λg' e=>p0 (a9 ((e2.trans e).at m1))) (by simp[c6];omega) ⟨none,none,rfl⟩ (λi x σ g' hx e sh=>?_) (λg' e=>?_) (R5 (b0 T _) (a9 (e2.at m1)) λQ q=>?_)
 ·obtain⟨z1,z2,rfl⟩:=sh;rw[c6,ao,ae] at hx;obtain⟨m,hm,rfl⟩:=hx;refine l6 ?_
  try show bg _ _ _ _ _ _
  walk_at"";refine wz ?_;refine⟨?_,e,_,_,rfl⟩;rw[Cd];simp[List.getD,hm]
 ·refine VY (ns:=(List.range (c6 ms).length).map λi=>((s &&& ms.getD i 0:Nat):Int)) (a9 (by rw[bA];exact b8)) ?_;have en:(((List.range (c6 ms).length).map λi=>((s &&& ms.getD i 0:Nat):Int)).all λn=>n != 0)=O6 cs rs s.testBit p:=by
   rw[aZ,cQ];unfold O6;rw[cQ];constructor
   ·intro hA r hr;cases AA:meant cs r.w r.y p with
    |false=>rfl
    |true =>
     have hm:=(m3 (iO cs.length (meant cs r.w r.x))).mpr ⟨r,hr,AA,rfl⟩;obtain⟨i,hi⟩:=jj.mp hm;have MW:=(aw.mp hi).1;have:=hA ((s &&& iO cs.length (meant cs r.w r.x):Nat):Int) (aT.mpr ⟨i,bp.mpr (by simpa[c6] using MW),by simp[List.getD,hi]⟩);rw[yS] at this;exact this
   ·intro hA x hx;obtain⟨i,hi,rfl⟩:=aT.mp hx;have hi:i<ms.length:=by simpa[c6] using hi
    have hm:ms.getD i 0∈ms:=by simp[List.getD,hi]
    obtain⟨r,hr,AA,em⟩:=(m3 _).mp hm;have:=hA r hr;rw[AA,Bool.not_true,qo] at this;rw[em,yS];exact this
  rw[en];walk_at"";cases c4:O6 cs rs s.testBit p with
  |true =>
   walk_at"";have:fault cs v rs s.testBit p="":=by unfold fault J8 I0;rw[aC (by rw[c1];decide),aC (by rw[c2];decide),aC c3,aJ c4]
   rw[this] at h;exact h _ (e2.trans (e.trans (Ex.snoc _ _)))
  |false =>
   walk_at"";have:fault cs v rs s.testBit p="rule":=by unfold fault J8 I0;rw[aC (by rw[c1];decide),aC (by rw[c2];decide),aC c3,aC (by rw[c4];decide)]
   rw[this] at h;exact h _ (e2.trans (e.trans (Ex.snoc _ _)))
 ·walk_at"";refine pX (e2.at h1) rfl ?_;walk_at"";exact p8 (a9 (e2.at q1)) (E1 (by rw[ao,AW];rfl)) q
end
def tX:bq:=⟨2,5,(.seq (.set 2 (da (.prim .lst (sG (iB "coin") (iB "coin") (iB "lower") (iB "upper"))) (.call 4 (eE aM (bo 4))))) (.seq (.set 3 (dY .jM (dY .len bx))) (.seq (.ifs (fo .Eq bG (iB "lower")) (.seq (.set 3 (dY .sset (.comp [] 2 (.one 1) (.fF bx) .no (da bx (bo 0))))) .pass) .pass) (.seq (.ifs (fo .Eq bG (iB "upper")) (.seq (.set 3 (dY .sset (.comp [] 2 (.one 1) (.fF bx) .no (da bx (bo 2))))) .pass) .pass) (.seq (.ifs (fo .Lt (dY .len cv) (bo 2)) (.seq (.ret (.lit .bN)) .pass) .pass) (.seq (.set 4 (.call 4 (eE aM (dY .len cv)))) (.seq (.ret (.prim .tup (iD bG (da cv dI) (da cv (cc (.bin .Mod) (cc (.bin .Add) (cc (.bin .Add) dI (bo 1)) (.call 4 (eE aM (cc (.bin .Sub) (dY .len cv) (bo 1))))) (dY .len cv)))))) .pass)))))))⟩
def Ec:bq:=⟨2,5,(.seq (.set 2 (.prim .lst .nil)) (.seq (.dX (.one 3) (.eG (da (.prim .lst (GA (bo 0) (bo 0) (bo 1) (bo 1) (bo 2) (bo 4))) (.call 4 (eE aM (bo 6))))) (.seq (.set 4 (.call 105 (eE aM bx))) (.seq (.ifs (fo .IsNot dI (.lit .bN)) (.seq (.expr (.ff .append bG (fP dI))) .pass) .pass) .pass))) (.seq (.ret bG) .pass)))⟩
def CZ:bq:=⟨4,8,(.seq (.lZ (.many [4,5,6]) cv) (.seq (.ifs (fo .Eq dI (iB "coin")) (.seq (.ret (.ke (cc (.cmp .NotEq) bG fO) (cc (.cmp .In) fC bx))) .pass) .pass) (.seq (.set 7 (.ite (fo .Eq dI (iB "lower")) (bo 0) (bo 2))) (.seq (.ret (.ke (cc (.cmp .NotEq) (da (da aM bG) gH) fO) (cc (.cmp .In) fC (.comp [7,0] 4 (.one 3) (.fF bx) .no (da (da bx cv) aM))))) .pass))))⟩
def wH:bq:=⟨5,10,(.seq (.set 5 (da aM dI)) (.seq (.dX (.one 6) (.fF cv) (.seq (.dX (.one 7) (.fF (cc .lst (bo 0) (bo 2))) (.seq (.ifs (.dS (fo .Eq (da (da aM fO) gH) (da fC gH)) (.fe (.fT (.call 17 (eE (da (da aM fO) (cc (.bin .Add) gH (bo 1))) (da fC (cc (.bin .Add) gH (bo 1)))))))) (.seq (.ret (iB "wear")) .pass) .pass) .pass)) .pass)) (.seq (.ifs (.dS (fo .Gt (da fC (bo 4)) (bo 0)) (fo .Gt (dY .max (cc (.bin .Add) (dY .lst (bo 0)) (.comp [0] 3 (.one 2) (.fF cv) .no (da (da aM bG) (bo 4))))) (da fC (bo 4)))) (.seq (.ret (iB "year")) .pass) .pass) (.seq (.set 8 (cc (.bin .Add) (.comp [0] 3 (.one 2) (.fF cv) .no (da (da aM bG) (bo 0))) (dY .lst (da fC (bo 0))))) (.seq (.set 9 (.comp [3,0] 4 (.one 3) (.eG (dY .len aM)) (fo .NotIn cv aM) (da (da bx cv) (bo 0)))) (.seq (.ifs (fo .Gt (dY .qa (.comp [9] 3 (.one 2) (.fF kK) (fo .In bG aM) bG)) bx) (.seq (.ret (iB "anvil")) .pass) .pass) (.seq (.ifs (.fe (.fT (dY .all (.comp [3,0,4] 5 (.one 4) (.fF bG) .no (.call 107 (sG bx aM bG dI)))))) (.seq (.ret (iB "rule")) .pass) .pass) (.seq (.ret (iB "")) .pass))))))))⟩
def yJ:bq:=⟨2,4,(.seq (.lZ (.many [2,3]) (.call 26 (eE aM bx))) (.seq (.ret (.prim .tup (iD bG cv (.call 106 (eE aM bG))))) .pass))⟩
structure TBR(T:Nat->Option bq):Prop where
 lf:LF T
 Bq:T 105=some tX
 Bp:T 106=some Ec
structure qe(T:Nat->Option bq):Prop extends TBR T where
 Bi:T 17=some Z6
 Bo:T 107=some CZ
 Bn:T 108=some wH
 rF:T 110=some yJ
instance{T:Nat->Option bq}:CoeOut (qe T) (TBR T):=⟨qe.toTBR⟩
theorem Jm{cs:List b7}{w:RW}{x:Int}{i:Nat}(hi:i<cs.length)(h:meant cs w x i=true):(jL cs w x).isEmpty=false:=by
 cases e:jL cs w x with
 |nil =>
  have:i∈jL cs w x:=bJ.mpr ⟨bp.mpr hi,h⟩;rw[e] at this;cases this
 |cons _ _=>rfl
section
variable{T:Nat->Option bq}{k d:Nat}{g g':G}{Q:KD}{E:KX}{a b c:Nat}{cs:List b7}{rs:List gY}{v:Int}
theorem HU{ns:List Int}{x:Int}:x∈o6 ns↔x∈ns:=by
 rw[(O5 ns).mem_iff,ST.Z3];simp
theorem Kk(ns:List Int):(o6 ns).Nodup:=(O5 ns).nodup_iff.mpr (ST.Dc _ _ (by simp))
theorem HX(hT:TBR T)(D0:i9 g d){w:RW}{L:List Int}{sL:Nat}{N:Ends}(hN:N.rt=Q)(hL:g[sL]?=some (.lst (L.map .int)))(hd:sL≠d)(nd:L.Nodup)(hl:L.length<=9)(hm:∀x∈L,(jL cs w x).isEmpty=false)(h:∀g',i9 g' d->Gr d g g'->Q .bN g'/\∀r,v9 cs r=true->Q r.d g'):wpS (d0 T (k+1)) (match tX.body with|.seq _ (.seq _ (.seq _ (.seq _ b)))=>b|x=>x) N [some (.ref d),some (.ref a),some (.str w.s),some (.ref sL),none] g E:=by
 subst hN;dsimp[tX];walk_at"";refine if2 (λh2=>?_) (λh2=>?_)
 ·walk_at"";exact(h g D0 (Gr.refl _ _)).1
 rw[ai] at h2;walk_at"";refine i6 (k:=k) hT.lf.pull D0 (by rw[ai];omega) (by rw[ai];omega) λr1 g1 h0 h1 D1 G1=>?_;rw[ai] at h1;walk_at"";obtain⟨j,rfl⟩:∃j:Nat,r1=j:=⟨r1.toNat,by omega⟩
 have hj:j<L.length:=by omega
 have gj:gz (L.map D.int) (j:Int)=some (.int L[j]):=E1 (by rw[ao,ak hj];rfl);refine p8 (a9 (G1.at hd hL)) gj ?_;walk_at"";refine K0 (a9 (G1.at hd hL)) ?_;walk_at"";refine i6 (k:=k) hT.lf.pull D1 (by rw[ai];omega) (by rw[ai];omega) λr2 g2 k0 k1 D2 G2=>?_;rw[ai] at k1;walk_at"";have rm:=(G1.trans G2).at hd hL;refine K0 (a9 rm) ?_;walk_at"";refine P4 (by rw[ai];omega) ?_;obtain⟨j2,rfl⟩:∃j:Nat,r2=j:=⟨r2.toNat,by omega⟩
 have em:((j:Int)+1+(j2:Nat)) % ((L.map D.int).length:Nat)=(((j+1+j2) % L.length:Nat):Int):=by rw[ai,Int.natCast_emod,show((j+1+j2:Nat):Int)=(j:Int)+1+(j2:Nat) by omega]
 rw[em];have qY:(j+1+j2) % L.length<L.length:=Lm _ (by omega);have ft:(j+1+j2) % L.length≠j:=by
  by_cases hc:j+1+j2<L.length
  ·rw[Nat.mod_eq_of_lt hc];omega
  ·rw[Nat.mod_eq_sub_mod (by omega),Nat.mod_eq_of_lt (by omega)];omega
 generalize (j+1+j2) % L.length=j3 at *;have NV:gz (L.map D.int) (j3:Int)=some (.int L[j3]):=E1 (by rw[ao,ak qY];rfl);refine p8 (a9 rm) NV ?_;walk_at"";refine(h g2 D2 (G1.trans G2)).2 ⟨w,L[j],L[j3]⟩ ?_;unfold v9;rw[hm _ (cC hj),hm _ (cC qY),aG (λz=>ft ((lV nd).mp z).symm)]
 rfl
theorem TJ(hT:TBR T)(ha:g[a]?=some (.lst (cs.map b7.d)))(hz:cs.length<=9)(hd:d<a)(D0:i9 g d)(h:∀g',i9 g' d->Gr d g g'->Q .bN g'/\∀r,v9 cs r=true->Q r.d g'):d0 T (k+2) 105 [.ref d,.ref a] g Q E:=by
 refine call_of hT.Bq rfl ?_;dsimp[tX,d4,List.replicate];walk_at"";refine i6 (k:=k) hT.lf.pull (D0.snoc _) (by decide) (by decide) λr0 g1 h0 h1 D1 G1=>?_;have ED:=(Gr.snoc d g _).trans G1;have tq:=ED.at (bV hd) ha;have l1:=ED.len;have dl:=D0.lt;have hw:∃w:RW,gz [D.str "coin",D.str "coin",D.str "lower",D.str "upper"] r0=some (.str w.s):=by
  obtain⟨j,rfl⟩:∃j:Nat,r0=j:=⟨r0.toNat,by omega⟩
  have:j=0\/j=1\/j=2\/j=3:=by omega
  rcases this with rfl|rfl|rfl|rfl
  ·exact⟨.fQ,rfl⟩
  ·exact⟨.fQ,rfl⟩
  ·exact⟨.lower,rfl⟩
  ·exact⟨.upper,rfl⟩
 obtain⟨w,hw⟩:=hw;walk_at"";refine p8 (a9 (G1.at (bV dl) b8)) hw ?_;walk_at"";refine FD (by omega) (by simp;omega) ?_;walk_at"";have e2:=Ex.snoc g1 (O.lst (i8 0 (Int.toNat ((cs.map b7.d).length:Nat))));have pE:=b8 (g:=g1) (o:=O.lst (i8 0 (Int.toNat ((cs.map b7.d).length:Nat))));generalize g1++[O.lst (i8 0 (Int.toNat ((cs.map b7.d).length:Nat)))]=g2 at *;have xW:=e2.at tq;have D2:=e2.draw D1;have G2:=ED.trans (e2.gr d);have fld:∀(f:Int) (w:RW) (N:Ends),(f=0\/f=2)->(∀i c,cs[i]?=some c->∀x,meant cs w x i=decide (A5 f c=x))->N.rt=Q->bg (d0 T (k+1)) (.prim .sset (.cons (.comp [] 2 (.one 1) (.fF (.var 1)) .no (.prim .ix (.cons (.var 1) (.cons (.lit (.int f)) .nil)))) .nil)) [some (.ref d),some (.ref a),some (.str w.s),some (.ref g1.length),none] g2 (λx g3=>wpS (d0 T (k+1)) (match tX.body with|.seq _ (.seq _ (.seq _ (.seq _ b)))=>b|x=>x) N [some (.ref d),some (.ref a),some (.str w.s),some x,none] g3 E) E:=λf w N hf hm hN=>by
  walk_at"";refine comp_map (b0 T _) (λσ=>∃z0 z1,σ=[z0,z1]) (λi=>.int (A5 f (bO cs i))) (l:=cs.map b7.d) (k:=.lst a) (λg' e=>p0 (a9 (e.at xW))) (by simp;omega) ⟨none,none,rfl⟩ (λi x σ g' hx e sh=>?_) (λg' e=>?_) (R5 (b0 T _) (a9 xW) λQ q=>w_var (d:=.ref a) rfl q)
  ·obtain⟨z0,z1,rfl⟩:=sh;rw[ao,ae] at hx;obtain⟨c,hc,rfl⟩:=hx;refine l6 ?_
   try show bg _ _ _ _ _ _
   walk_at"";refine u9 (L3 hf c) ?_;exact⟨by rw[B9 hc],e,_,_,rfl⟩
  ·refine QJ (ns:=(List.range cs.length).map λi=>A5 f (bO cs i)) (a9 (by rw[bA];rw[b8,ai];rfl)) (by simp;omega) ?_;have e3:=(e.trans (Ex.snoc g' (O.lst ((List.range (cs.map b7.d).length).map λi=>D.int (A5 f (bO cs i)))))).trans (Ex.snoc _ (O.lst ((o6 ((List.range cs.length).map λi=>A5 f (bO cs i))).map .int)));have AE:(o6 ((List.range cs.length).map λi=>A5 f (bO cs i))).length<=9:=aI (R9 _) (by simpa using hz);refine HX (k:=k) hT (e3.draw D2) hN b8 (by have:=D2.lt;have:=e.len;simp;omega) (Kk _) AE (λx hx=>?_) λg4 D4 G4=>h g4 D4 (G2.trans ((e3.gr d).trans G4));rw[HU] at hx;obtain⟨i,hi,rfl⟩:=aT.mp hx;have hi:=bp.mp hi;have hc:=ak hi;refine Jm hi ?_;rw[hm i _ hc,B9 hc];exact aA rfl
 cases w with
 |fQ =>
  refine gI (by decide +kernel) ?_;walk_at"";refine gI (by decide +kernel) ?_
  try refine E5 ?_
  have er:i8 0 (Int.toNat ((cs.map b7.d).length:Nat))=((List.range cs.length).map λ(i:Nat)=>(i:Int)).map D.int:=by
   simp[i8]
  refine HX (k:=k) hT (w:=.fQ) (L:=(List.range cs.length).map λ(i:Nat)=>(i:Int)) D2 rfl (by rw[<- er];exact pE) (by omega) ?_ (by simpa using hz) (λx hx=>?_) λg4 D4 G4=>h g4 D4 (G2.trans G4)
  ·exact gW.mpr (List.nodup_range.imp λh e=>h (by omega))
  ·obtain⟨i,hi,rfl⟩:=aT.mp hx;exact Jm (bp.mp hi) (aA rfl)
 |lower =>
  refine js (by decide +kernel) ?_;refine Q1 ?_;refine yC ?_;refine c7 (b0 T _) _ _ _ _ _ _ _ (λx g3 q=>?_) (λ_ _ z=>z) (fld 0 .lower ⟨λ_ g'=>Q .bN g',Q,λ_ _=>False,λ_ _=>False⟩ (.inl rfl) (λi c hc x=>by simp only[meant,B9 hc];rfl) rfl);refine wF ?_;walk_at"";refine gI (by decide +kernel) ?_
  try refine E5 ?_
  exact q
 |upper =>
  refine gI (by decide +kernel) ?_;walk_at"";refine js (by decide +kernel) ?_;refine Q1 ?_;refine yC ?_;exact fld 2 .upper _ (.inr rfl) (λi c hc x=>by simp only[meant,B9 hc];rfl) rfl
end
section
variable{T:Nat->Option bq}{k d:Nat}{g g':G}{Q:KD}{E:KX}{a b c:Nat}{cs:List b7}{rs:List gY}{v:Int}
theorem a13(hT:TBR T)(ha:g[a]?=some (.lst (cs.map b7.d)))(hz:cs.length<=9)(hd:d<a)(D0:i9 g d)(h:∀(rs:List gY) b g',rs.length<=4->rs.all (v9 cs)=true->g'[b]?=some (.lst (u4 rs))->g.length<=b->i9 g' d->Gr d g g'->Q (.ref b) g'):d0 T (k+3) 106 [.ref d,.ref a] g Q E:=by
 refine call_of hT.Bp rfl ?_;dsimp[Ec,d4,List.replicate];walk_at"";have dl:=D0.lt;have e1:=Ex.snoc g (O.lst []);have Gi:=b8 (g:=g) (o:=O.lst []);have D1:=D0.snoc (O.lst []);generalize g++[O.lst []]=g1 at *;refine z9 (b0 T _) (V1 (b0 T _) ?_);walk_at"";refine i6 (k:=k+1) hT.lf.pull (D1.snoc _) (by decide) (by decide) λr0 g2 h0 h1 D2 G2=>?_;have l1:=m8 Gi;have hw:∃j:Nat,j<=4/\gz [D.int 0,D.int 0,D.int 1,D.int 1,D.int 2,D.int 4] r0=some (.int (j:Nat)):=by
  obtain⟨j,rfl⟩:∃j:Nat,r0=j:=⟨r0.toNat,by omega⟩
  have:j=0\/j=1\/j=2\/j=3\/j=4\/j=5:=by omega
  rcases this with rfl|rfl|rfl|rfl|rfl|rfl
  ·exact⟨0,by decide,rfl⟩
  ·exact⟨0,by decide,rfl⟩
  ·exact⟨1,by decide,rfl⟩
  ·exact⟨1,by decide,rfl⟩
  ·exact⟨2,by decide,rfl⟩
  ·exact⟨4,by decide,rfl⟩
 obtain⟨j,hj,hw⟩:=hw;refine p8 (a9 (G2.at (by omega) b8)) hw ?_;refine⟨j,rfl,by omega,by omega,_,λi σ g'=>i9 g' d/\Gr d g g'/\(∃rs:List gY,rs.length<=i/\rs.all (v9 cs)=true/\g'[g.length]?=some (.lst (u4 rs)))/\∃z3 z4,σ=[some (.ref d),some (.ref a),some (.ref g.length),z3,z4],λ_ _ _ _=>s9,⟨D2,(e1.gr d).trans ((Gr.snoc d g1 _).trans G2),⟨[],by simp,rfl,((Gr.snoc d g1 _).trans G2).at (by omega) Gi⟩,none,none,rfl⟩,λi x σ g' hx q=>?_,λσ g' q=>?_⟩
 ·obtain⟨D3,G3,⟨rs,hl,hA,hF⟩,z3,z4,rfl⟩:=q;obtain⟨hi,rfl⟩:=x6 hx;have hi:i<j:=by simpa using hi
  refine l6 ?_
  try show wpS _ _ _ _ _ _
  walk_at"";have xV:=G3.at (bV hd) ha;refine TJ (k:=k) hT xV hz hd D3 λg4 D4 G4=>⟨?_,λr hr=>?_⟩
  ·walk_at"";exact⟨D4,G3.trans G4,⟨rs,by omega,hA,G4.at (by omega) hF⟩,_,_,rfl⟩
  ·walk_at"";refine js rfl ?_;walk_at"";have Bc:=G4.at (by omega) hF
   try refine⟨W5 Bc,?_⟩
   walk_at"";refine O8 Bc (by simp[u4];omega) ?_;walk_at"";refine⟨D4.K1 (by omega),(G3.trans G4).K1 (av _),⟨rs++[r],by simp;omega,by rw[List.all_append,hA];simp[hr],?_⟩,_,_,rfl⟩;rw[get_set Bc];simp[u4]
 ·obtain⟨D3,G3,⟨rs,hl,hA,hF⟩,z3,z4,rfl⟩:=q;rw[j9] at hl
  try show wpS _ _ _ _ _ _
  walk_at"";exact h rs _ _ (by simp at hl;omega) hA hF (av _) D3 G3
theorem a15(hT:TBR T)(rF:T 110=some yJ){n:Int}(hn:0<=n/\n<=9)(D0:i9 g d)(h:∀(cs:List b7) (rs:List gY) a c (v:Int) g',(cs.length:Int)<=n->(∀c∈cs,jT c)->g'[a]?=some (.lst (cs.map b7.d))->g.length<=a->rs.length<=4->rs.all (v9 cs)=true->g'[c]?=some (.lst (u4 rs))->g.length<=c->a≠c->1<=v->v<=6->i9 g' d->Gr d g g'->Q (.tup [.ref a,.int v,.ref c]) g'):d0 T (k+5) 110 [.ref d,.int n] g Q E:=by
 refine call_of rF rfl ?_;dsimp[yJ,d4,List.replicate];walk_at"";refine Zl (k:=k) hT.lf ⟨hn.1,by omega⟩ D0 λcs a v g1 hl hg ha xU v1 v2 D1 G1=>?_;refine B5 rfl ?_
 try show wpS _ _ _ _ _ _
 walk_at"";have dl:=D0.lt;refine a13 (k:=k+1) hT ha (by omega) (by omega) D1 λrs c g2 hr hR hc kq D2 G2=>?_;walk_at"";exact h cs rs a c v g2 hl hg (G2.at (by omega) ha) xU hr hR hc (aI G1.len kq) (aK (ay (m8 ha) kq)) v1 v2 D2 (G1.trans G2)
theorem Sq{H:List Nat}{x:Int}:((H.map λ(i:Nat)=>(i:Int)).any λm=>m==x)=H.any λi=>decide ((i:Int)=x):=by
 rw[lr]
 rfl
theorem yE{n:Nat}{H:List Nat}(hH:∀i∈H,i<n)(q:Nat->Bool):((List.range n).any λi=>decide (i∈H)&&q i)=H.any q:=by
 rw[aZ,aU,aU];constructor
 ·rintro⟨i,_,h⟩;rw[aW,cH] at h;exact⟨i,h.1,h.2⟩
 ·rintro⟨i,h1,h2⟩;exact⟨i,bp.mpr (hH i h1),by rw[aA h1,h2];rfl⟩
theorem K6{cs:List b7}{i:Nat}(hi:i<cs.length):gz (cs.map b7.d) (i:Int)=some (bO cs i).d:=E1 (by rw[ao,ak hi,B9 (ak hi)];rfl)
theorem Xc(hT:qe T){hl p:Nat}{H:List Nat}{r:gY}(ha:g[a]?=some (.lst (cs.map b7.d)))(hh:g[hl]?=some (.lst (c6 H)))(hH:∀i∈H,i<cs.length)(rn:H.length<=50)(hp:p<cs.length)(h:∀g',Ex g g'->Q (.bl (!meant cs r.w r.y p||(List.range cs.length).any λi=>decide (i∈H)&&meant cs r.w r.x i)) g'):d0 T (k+1) 107 [.ref a,.ref hl,.int (p:Nat),r.d] g Q E:=by
 refine call_of hT.Bo rfl ?_;dsimp[CZ,d4,List.replicate];simp only[yE hH] at h;walk_at"";refine B5 (l:=[.str r.w.s,.int r.x,.int r.y]) rfl ?_;walk_at"";have nM:∀(w:RW) (f:Int),(f=0\/f=2)->(∀i x,meant cs w x i=decide (A5 f (bO cs i)=x))->(∀g',Ex g g'->Q (.bl (!meant cs w r.y p||H.any λi=>meant cs w r.x i)) g')->bg (d0 T k) (.ke (.prim (.cmp .NotEq) (.cons (.prim .ix (.cons (.prim .ix (.cons (.var 0) (.cons (.var 2) .nil))) (.cons (.var 7) .nil))) (.cons (.var 6) .nil))) (.prim (.cmp .In) (.cons (.var 5) (.cons (.comp [7,0] 4 (.one 3) (.fF (.var 1)) .no (.prim .ix (.cons (.prim .ix (.cons (.var 1) (.cons (.var 3) .nil))) (.cons (.var 0) .nil)))) .nil)))) [some (.ref a),some (.ref hl),some (.int (p:Nat)),some r.d,some (.str w.s),some (.int r.x),some (.int r.y),some (.int f)] g Q E:=λw f hf hm h=>by
  walk_at"";refine p8 (a9 ha) (K6 hp) ?_;walk_at"";refine u9 (L3 hf _) ?_;walk_at"";rw[hm] at h;by_cases c1:A5 f (bO cs p)=r.y
  ·refine gI (by rw[aA c1];rfl) ?_;walk_at"";refine comp_map (b0 T _) (λσ=>∃z2 z3,σ=[some (.int f),some (.ref a),z2,z3]) (λi=>.int (A5 f (bO cs (H.getD i 0)))) (l:=c6 H) (k:=.lst hl) (λg' e=>p0 (a9 (e.at hh))) (by simp[c6];omega) ⟨none,none,rfl⟩ (λi x σ g' hx e sh=>?_) (λg' e=>?_) (R5 (b0 T _) (a9 hh) λQ q=>w_var (d:=.ref hl) rfl q)
   ·obtain⟨z2,z3,rfl⟩:=sh;rw[c6,ao,ae] at hx;obtain⟨j,hj,rfl⟩:=hx;refine l6 ?_
    try show bg _ _ _ _ _ _
    walk_at"";refine p8 (a9 (e.at ha)) (K6 (hH j (aN hj))) ?_;walk_at"";refine u9 (L3 hf _) ?_;exact⟨by simp[List.getD,hj],e,_,_,rfl⟩
   ·refine wN (T9 (ms:=(List.range (c6 H).length).map λi=>A5 f (bO cs (H.getD i 0))) (a9 (by rw[bA];exact b8)) ?_);have e2:(((List.range (c6 H).length).map λi=>A5 f (bO cs (H.getD i 0))).any λm=>m==r.x)=(H.any λi=>meant cs w r.x i):=by
     rw[lr,aZ,aU,aU];constructor
     ·rintro⟨i,hi,h1⟩;have hi:i<H.length:=by simpa[c6] using hi
      refine⟨H[i],cC hi,?_⟩;rw[hm];simpa[List.getD,hi] using h1
     ·rintro⟨j,hj,h1⟩;obtain⟨i,hi,rfl⟩:=bD.mp hj;refine⟨i,by simpa[c6] using hi,?_⟩;rw[hm] at h1;simpa[List.getD,hi] using h1
    rw[e2];simp only[decide_eq_true c1,Bool.not_true,Bool.false_or] at h;exact h _ (e.trans (Ex.snoc _ _))
  ·refine js (by rw[aG c1];rfl) ?_;have:=h _ (Ex.refl _);rw[aG c1] at this;exact this
 obtain⟨w,x,y⟩:=r;cases w with
 |fQ =>
  refine js (show decide (RW.fQ.s="coin")=true from by decide +kernel) ?_;walk_at"";by_cases c1:((p:Nat):Int)=y
  ·refine gI (by rw[aA c1];rfl) ?_;walk_at"";refine wN (T9 (ms:=H.map λ(i:Nat)=>(i:Int)) (by rw[<- CD];exact a9 hh) ?_);rw[Sq];have:=h _ (Ex.refl _);rw[show meant cs .fQ y p=true from aA c1] at this;exact this
  ·refine js (by rw[aG c1];rfl) ?_;have:=h _ (Ex.refl _);rw[show meant cs .fQ y p=false from aG c1] at this;exact this
 |lower =>
  refine gI (show decide (RW.lower.s="coin")=false from by decide +kernel) ?_;walk_at"";refine js (show decide (RW.lower.s="lower")=true from by decide +kernel) ?_;refine w_lit (Q1 (DO ?_));exact nM .lower 0 (.inl rfl) (λi x=>rfl) h
 |upper =>
  refine gI (show decide (RW.upper.s="coin")=false from by decide +kernel) ?_;walk_at"";refine gI (show decide (RW.upper.s="lower")=false from by decide +kernel) ?_;refine w_lit (Q1 (DO ?_));exact nM .upper 2 (.inr rfl) (λi x=>rfl) h
end
theorem Ip:∀{ns:List Int},ns≠[]->∃M∈ns,∀x∈ns,x<=M
 |[],h=>absurd rfl h
 |[x],_=>⟨x,by simp,by simp⟩
 |x::y::r,_=>by
  obtain⟨M,h1,h2⟩:=Ip (ns:=y::r) (by simp);by_cases h:x<=M
  ·refine⟨M,bE _ h1,λz hz=>?_⟩;rcases aE.mp hz with rfl|hz
   ·exact h
   ·exact h2 z hz
  ·refine⟨x,by simp,λz hz=>?_⟩;rcases aE.mp hz with rfl|hz
   ·exact dM _
   ·have:=h2 z hz;omega
theorem a12{l m:List Int}(hl:l.Nodup)(hm:m.Nodup)(h:∀x,x∈l↔x∈m):l.length=m.length:=((om hl hm).mpr h).length_eq
noncomputable abbrev ko(H:List Nat):Nat->Bool:=λi=>decide (i∈H)
def fTail(n:Nat):MS->MS
 |.seq a b=>match n with
  |0=>.seq a b
  |n+1=>fTail n b
 |x=>x
section
variable{T:Nat->Option bq}{k d:Nat}{g g':G}{Q:KD}{E:KX}{a b c hl p:Nat}{cs:List b7}{rs:List gY}{v:Int}{H:List Nat}
theorem Iq(hT:qe T){N:Ends}(hN:N.rt=Q){z6 z7:Option D}(ha:g[a]?=some (.lst (cs.map b7.d)))(hz:cs.length<=9)(hc:g[c]?=some (.lst (u4 rs)))(hr:rs.length<=900)(hh:g[hl]?=some (.lst (c6 H)))(hH:∀i∈H,i<cs.length)(rn:H.length<=50)(hp:p<cs.length)(w1:J8 cs (ko H) p=false)(w2:I0 cs (ko H) p=false)(h:∀g',Ex g g'->Q (.str (fault cs v rs (ko H) p)) g') :
  wpS (d0 T (k+1)) (fTail 3 wH.body) N [some (.ref a),some (.int v),some (.ref c),some (.ref hl),some (.int (p:Nat)),some (bO cs p).d,z6,z7,none,none] g E:=by
 subst hN;dsimp[wH,fTail];walk_at"";refine comp_map (b0 T _) (λσ=>∃z1 z2,σ=[some (.ref a),z1,z2]) (λi=>.int (bO cs (H.getD i 0)).lo) (l:=c6 H) (k:=.lst hl) (λg' e=>p0 (a9 (e.at hh))) (by simp[c6];omega) ⟨none,none,rfl⟩ (λi x σ g' hx e sh=>?_) (λg1 e1=>?_) (R5 (b0 T _) (a9 hh) λQ q=>w_var (d:=.ref hl) rfl q)
 ·obtain⟨z1,z2,rfl⟩:=sh;rw[c6,ao,ae] at hx;obtain⟨j,hj,rfl⟩:=hx;refine l6 ?_
  try show bg _ _ _ _ _ _
  walk_at"";refine p8 (a9 (e.at ha)) (K6 (hH j (aN hj))) ?_;walk_at"";refine u9 (L3 (.inl rfl) _) ?_;exact⟨by simp[List.getD,hj,A5],e,_,_,rfl⟩
 have e2:=e1.trans (Ex.snoc g1 (O.lst ((List.range (c6 H).length).map λi=>D.int (bO cs (H.getD i 0)).lo)));have eh:(List.range (c6 H).length).map (λi=>D.int (bO cs (H.getD i 0)).lo)=(H.map λi=>(bO cs i).lo).map D.int:=by
  rw[bA];refine cI λi=>?_;rw[ao,ao];by_cases hi:i<H.length
  ·rw[cK (by simpa[c6] using hi),ak hi];simp[List.getD,hi]
  ·rw[aV (by simpa[c6] using hi),aV (by omega)]
   rfl
 rw[eh] at e2 ⊢;have h2:=b8 (g:=g1) (o:=O.lst ((H.map λi=>(bO cs i).lo).map D.int));generalize g1++[O.lst ((H.map λi=>(bO cs i).lo).map D.int)]=g2 at *;walk_at"";refine u9 (L3 (.inl rfl) _) ?_;walk_at"";have e3:=Ex.snoc g2 (O.lst [D.int (A5 0 (bO cs p))]);refine Dt (e3.at h2) b8 (by simp;omega) ?_;have e4:=(e2.trans e3).trans (Ex.snoc _ (O.lst ((H.map λi=>(bO cs i).lo).map D.int++[D.int (A5 0 (bO cs p))])));have h4:=b8 (g:=g2++[O.lst [D.int (A5 0 (bO cs p))]]) (o:=O.lst ((H.map λi=>(bO cs i).lo).map D.int++[D.int (A5 0 (bO cs p))]));have Om:(H.map λi=>(bO cs i).lo).map D.int++[D.int (A5 0 (bO cs p))]=((H.map λi=>(bO cs i).lo)++[(bO cs p).lo]).map D.int:=by simp[A5]
 rw[Om] at e4 h4 ⊢;generalize AJ:(H.map λi=>(bO cs i).lo)++[(bO cs p).lo]=eT at *;have lhr:eT.length<=51:=by rw[<- AJ];simp;omega
 generalize g2++[O.lst [D.int (A5 0 (bO cs p))]]=g3 at *;generalize g3++[O.lst (eT.map D.int)]=g4 at *;generalize g3.length=ah at *;walk_at"";refine A1 (b0 T _) (λσ=>∃z2 z3,σ=[some (.ref hl),some (.ref a),z2,z3]) (λi=>!decide (i∈H)) (λi=>.int (bO cs i).lo) (l:=i8 0 cs.length) (λg' e=>s9) (by rw[j9];omega) ⟨none,none,rfl⟩ (λi d σ g' hx e sh=>?_) (λg5 e5=>?_) (zo (b0 T _) (by omega:cs.length<=1000) λQ q=>?_)
 ·obtain⟨z2,z3,rfl⟩:=sh;obtain⟨hi,rfl⟩:=x6 hx;rw[eO];refine l6 ?_
  try show df _ _ _ _ _ _
  walk_at"";refine tT (Cp ((e4.trans e).at hh) ?_);walk_at"";refine⟨rfl,e,?_⟩;by_cases vt:i∈H
  ·rw[aA vt];exact gI rfl ⟨_,_,rfl⟩
  ·rw[aG vt];refine js rfl ?_;walk_at"";refine p8 (a9 ((e4.trans e).at ha)) (K6 hi) ?_;walk_at"";refine u9 (L3 (.inl rfl) _) ?_;exact⟨rfl,e,_,_,rfl⟩
 rotate_left
 ·walk_at"";refine K0 (a9 (e4.at ha)) ?_;rw[ai];exact q
 have e6:=e5.trans (Ex.snoc g5 (O.lst (((List.range (i8 0 cs.length).length).filter λi=>!decide (i∈H)).map λi=>D.int (bO cs i).lo)));have h6:=b8 (g:=g5) (o:=O.lst (((List.range (i8 0 cs.length).length).filter λi=>!decide (i∈H)).map λi=>D.int (bO cs i).lo));have el:(((List.range (i8 0 cs.length).length).filter λi=>!decide (i∈H)).map λi=>D.int (bO cs i).lo)=(((List.range cs.length).filter λi=>!decide (i∈H)).map λi=>(bO cs i).lo).map D.int:=by
  rw[j9,bA]
  rfl
 rw[el] at e6 h6 ⊢;generalize eA:(((List.range cs.length).filter λi=>!decide (i∈H)).map λi=>(bO cs i).lo)=lt' at *;generalize g5++[O.lst (lt'.map D.int)]=g6 at *;generalize g5.length=al at *;walk_at"";refine A1 (b0 T _) (λσ=>∃z1 z2,σ=[some (.ref al),z1,z2]) (λi=>decide (eT.getD i 0∈lt')) (λi=>.int (eT.getD i 0)) (l:=eT.map D.int) (k:=.lst ah) (λg' e=>p0 (a9 ((e6.trans e).at h4))) (by simp;omega) ⟨none,none,rfl⟩ (λi d σ g' hx e sh=>?_) (λg7 e7=>?_) (R5 (b0 T _) (a9 (e6.at h4)) λQ q=>w_var (d:=.ref ah) rfl q)
 ·obtain⟨z1,z2,rfl⟩:=sh;rw[ao,ae] at hx;obtain⟨x,hx,rfl⟩:=hx;have ex:eT.getD i 0=x:=by simp[List.getD,hx]
  refine l6 ?_
  try show df _ _ _ _ _ _
  walk_at"";refine wN (T9 (a9 (e.at h6)) ?_);walk_at"";have ed:(lt'.any λm=>m==x)=decide (x∈lt'):=by
   rw[aZ,aU,cH];exact⟨λ⟨y,hy,e⟩=>(bz.mp e)▸hy,λhy=>⟨x,hy,by simp⟩⟩
  rw[ed,ex];refine⟨rfl,e,?_⟩;refine if2 (λ_=>?_) (λ_=>?_)
  ·walk_at"";exact⟨rfl,e,_,_,rfl⟩
  ·exact⟨_,_,rfl⟩
 have es:((List.range (eT.map D.int).length).filter λi=>decide (eT.getD i 0∈lt')).map (λi=>D.int (eT.getD i 0))=(((List.range eT.length).filter λi=>decide (eT.getD i 0∈lt')).map λi=>eT.getD i 0).map D.int:=by
  rw[bA,ai]
  rfl
 have e8:=e7.trans (Ex.snoc g7 (O.lst (((List.range (eT.map D.int).length).filter λi=>decide (eT.getD i 0∈lt')).map λi=>D.int (eT.getD i 0))));refine Ql (ns:=((List.range eT.length).filter λi=>decide (eT.getD i 0∈lt')).map λi=>eT.getD i 0) (a9 (by rw[es];exact b8)) (by rw[ai];exact cZ K2 (by omega)) ?_;generalize g7++[O.lst (((List.range (eT.map D.int).length).filter λi=>decide (eT.getD i 0∈lt')).map λi=>D.int (eT.getD i 0))]=g8 at *;have en:(ST.j5 [] (((List.range eT.length).filter λi=>decide (eT.getD i 0∈lt')).map λi=>eT.getD i 0)).length=tR cs (ko H) p:=by
  unfold tR;refine a12 (ST.Dc _ _ (by simp)) ((Kk _).filter _) λx=>?_;rw[ST.Z3,bJ,HU];unfold Y0;rw[aW,aU,aU];simp only[List.not_mem_nil,false_or,List.mem_map,List.mem_filter,List.mem_range,Bool.and_eq_true,decide_eq_true_eq,Bool.or_eq_true,Bool.not_eq_true',decide_eq_false_iff_not];constructor
  ·rintro⟨i,⟨hi,hx⟩,rfl⟩;have hm:eT.getD i 0∈eT:=by simp[List.getD,hi]
   generalize eT.getD i 0=x at *;rw[<- eA] at hx;simp only[List.mem_map,List.mem_filter,List.mem_range,Bool.not_eq_true',decide_eq_false_iff_not] at hx;rw[<- AJ] at hm;obtain⟨j,⟨vo,AG⟩,qY⟩:=hx;have xG:∃q,q<cs.length/\(q∈H\/q=p)/\(bO cs q).lo=x:=by
    rcases aS.mp hm with hm|hm
    ·obtain⟨q,hq,e⟩:=aT.mp hm;exact⟨q,hH q hq,.inl hq,e⟩
    ·exact⟨p,hp,.inr rfl,(bf.mp hm).symm⟩
   obtain⟨q,q1,q2,q3⟩:=xG;refine⟨⟨bO cs j,?_,qY⟩,⟨q,q1,q2,q3⟩,j,vo,AG,qY⟩;rw[B9 (ak vo)];exact cC vo
  ·rintro⟨_,⟨q,q1,q2,q3⟩,j,vo,AG,qY⟩;have hm:x∈eT:=by
    rw[<- AJ];rcases q2 with q2|q2
    ·exact bw _ (aT.mpr ⟨q,q2,q3⟩)
    ·subst q2;exact aO _ (by rw[q3];simp)
   obtain⟨i,hi,e⟩:=bD.mp hm;refine⟨i,⟨hi,?_⟩,by simp[List.getD,hi,e]⟩;rw[show eT.getD i 0=x by simp[List.getD,hi,e],<- eA];simp only[List.mem_map,List.mem_filter,List.mem_range,Bool.not_eq_true',decide_eq_false_iff_not];exact⟨j,⟨vo,AG⟩,qY⟩
 rw[en];walk_at"";have tJ:=(e4.trans e6).trans e8;refine if2 (λc3=>?_) (λc3=>?_)
 ·walk_at"";have:fault cs v rs (ko H) p="anvil":=by unfold fault;rw[aC (by rw[w1];decide),aC (by rw[w2];decide),aJ c3]
  rw[this] at h;exact h _ tJ
 walk_at"";refine comp_map (b0 T _) (λσ=>∃z3 z4,σ=[some (.ref hl),some (.ref a),some (.int (p:Nat)),z3,z4]) (λi=>.bl (!meant cs (rs.getD i ⟨.fQ,0,0⟩).w (rs.getD i ⟨.fQ,0,0⟩).y p||(List.range cs.length).any λj=>decide (j∈H)&&meant cs (rs.getD i ⟨.fQ,0,0⟩).w (rs.getD i ⟨.fQ,0,0⟩).x j)) (l:=u4 rs) (k:=.lst c) (λg' e=>p0 (a9 ((tJ.trans e).at hc))) (by simp[u4];omega) ⟨none,none,rfl⟩ (λi x σ g' hx e sh=>?_) (λg9 e9=>?_) (R5 (b0 T _) (a9 (tJ.at hc)) λQ q=>w_var (d:=.ref c) rfl q)
 ·obtain⟨z3,z4,rfl⟩:=sh;rw[u4,ao,ae] at hx;obtain⟨r,pE,rfl⟩:=hx;refine l6 ?_
  try show bg _ _ _ _ _ _
  walk_at"";refine Xc (k:=k) hT ((tJ.trans e).at ha) ((tJ.trans e).at hh) hH rn hp λBv oT=>?_;exact⟨by simp[List.getD,pE],e.trans oT,_,_,rfl⟩
 have eb:((List.range (u4 rs).length).map λi=>D.bl (!meant cs (rs.getD i ⟨.fQ,0,0⟩).w (rs.getD i ⟨.fQ,0,0⟩).y p||(List.range cs.length).any λj=>decide (j∈H)&&meant cs (rs.getD i ⟨.fQ,0,0⟩).w (rs.getD i ⟨.fQ,0,0⟩).x j))=(rs.map λr=>!meant cs r.w r.y p||(List.range cs.length).any λj=>decide (j∈H)&&meant cs r.w r.x j).map D.bl:=by
  rw[bA];refine cI λi=>?_;rw[ao,ao];by_cases hi:i<rs.length
  ·rw[cK (by simpa[u4] using hi),ak hi];simp[List.getD,hi]
  ·rw[aV (by simpa[u4] using hi),aV (by omega)]
   rfl
 rw[eb];refine Dr (a9 b8) (CP _) ?_;have eN:(rs.map λr=>!meant cs r.w r.y p||(List.range cs.length).any λj=>decide (j∈H)&&meant cs r.w r.x j).all id=O6 cs rs (ko H) p:=by
  rw[List.all_map]
  rfl
 rw[eN];walk_at"";have oT:=tJ.trans (e9.trans (Ex.snoc g9 (O.lst ((rs.map λr=>!meant cs r.w r.y p||(List.range cs.length).any λj=>decide (j∈H)&&meant cs r.w r.x j).map D.bl))));cases c4:O6 cs rs (ko H) p with
 |true =>
  walk_at"";have:fault cs v rs (ko H) p="":=by unfold fault;rw[aC (by rw[w1];decide),aC (by rw[w2];decide),aC c3,aJ c4]
  rw[this] at h;exact h _ oT
 |false =>
  walk_at"";have:fault cs v rs (ko H) p="rule":=by unfold fault;rw[aC (by rw[w1];decide),aC (by rw[w2];decide),aC c3,aC (by rw[c4];decide)]
  rw[this] at h;exact h _ oT
end
section
variable{T:Nat->Option bq}{k d:Nat}{g g':G}{Q:KD}{E:KX}{a b c hl p:Nat}{cs:List b7}{rs:List gY}{v:Int}{H:List Nat}
theorem Ds(c:b7):gz [D.int c.lo,D.tup (c.lm.map .int),D.int c.up,D.tup (c.um.map .int),D.int c.yr] 4=some (.int c.yr):=rfl
theorem Uw{i:Nat}(hi:i∈H)(hH:∀i∈H,i<cs.length)(h:mw (bO cs i) (bO cs p)=true):fault cs v rs (ko H) p="wear":=by
 unfold fault;rw[aJ];unfold J8;rw[yE hH,aU];exact⟨i,hi,h⟩
theorem Yq(hT:qe T)(hB:∀c∈cs,CB c)(ha:g[a]?=some (.lst (cs.map b7.d)))(hz:cs.length<=9)(hc:g[c]?=some (.lst (u4 rs)))(hr:rs.length<=900)(hh:g[hl]?=some (.lst (c6 H)))(hH:∀i∈H,i<cs.length)(rn:H.length<=50)(hp:p<cs.length)(h:∀g',Ex g g'->Q (.str (fault cs v rs (ko H) p)) g'):d0 T (k+2) 108 [.ref a,.int v,.ref c,.ref hl,.int (p:Nat)] g Q E:=by
 refine call_of hT.Bn rfl ?_;have Nv:∀i,i<cs.length->CB (bO cs i):=λi hi=>by rw[B9 (ak hi)];exact hB _ (cC hi)
 dsimp[wH,d4,List.replicate];walk_at"";refine p8 (a9 ha) (K6 hp) ?_;walk_at"";refine z9 (b0 T _) (ml (b0 T _) ?_);walk_at"";refine⟨hl,_,rfl,a9 hh,c6 H,λt σ g'=>Ex g g'/\(∀i∈H.take t,mw (bO cs i) (bO cs p)=false)/\∃z6 z7,σ=[some (.ref a),some (.int v),some (.ref c),some (.ref hl),some (.int (p:Nat)),some (bO cs p).d,z6,z7,none,none],λi σ g' q=>p0 (a9 (q.1.at hh)),⟨Ex.refl _,by simp,none,none,rfl⟩,λt x σ g' hx q=>?_,λσ g' q=>?_⟩
 ·obtain⟨e1,q,z6,z7,rfl⟩:=q;rw[c6,ao,ae] at hx;obtain⟨i,hi,rfl⟩:=hx;have vt:=aN hi;have lC:=hH i vt;refine l6 ?_
  try show wpS _ _ _ _ _ _
  walk_at"";refine z9 (b0 T _) (ml (b0 T _) ?_);walk_at"";have e2:=e1.trans (Ex.snoc g' (O.lst [D.int 0,D.int 2]));have h2:=b8 (g:=g') (o:=O.lst [D.int 0,D.int 2]);generalize g'++[O.lst [D.int 0,D.int 2]]=g2 at *;refine⟨_,_,rfl,a9 h2,[D.int 0,D.int 2],λj σ g3=>Ex g2 g3/\(1<=j->(decide ((bO cs i).lo=(bO cs p).lo)&&!jJ (bO cs i).lm (bO cs p).lm)=false)/\(2<=j->(decide ((bO cs i).up=(bO cs p).up)&&!jJ (bO cs i).um (bO cs p).um)=false)/\∃z7,σ=[some (.ref a),some (.int v),some (.ref c),some (.ref hl),some (.int (p:Nat)),some (bO cs p).d,some (.int (i:Nat)),z7,none,none],λj σ g3 q=>p0 (a9 (q.1.at h2)),⟨Ex.refl _,λz=>absurd z (by omega),λz=>absurd z (by omega),z7,rfl⟩,λj x σ g3 hx q=>?_,λσ g3 q=>?_⟩
  ·obtain⟨e3,q1,q2,z7,rfl⟩:=q;have hf:∃f:Int,(f=0\/f=2)/\x=.int f/\(f=0↔j=0)/\j<2:=by
    match j,hx with
    |0,hx=>cases hx;exact⟨0,.inl rfl,rfl,by simp,by omega⟩
    |1,hx=>cases hx;exact⟨2,.inr rfl,rfl,by simp,by omega⟩
    |j+2,hx=>simp at hx
   obtain⟨f,hf,rfl,Gg,hj⟩:=hf;have BE:=e2.trans e3;refine l6 ?_
   try show wpS _ _ _ _ _ _
   walk_at"";refine p8 (a9 (BE.at ha)) (K6 lC) ?_;walk_at"";refine u9 (L3 hf _) ?_;walk_at"";refine u9 (L3 hf _) ?_;walk_at"";have fin:∀g4,Ex g3 g4->(decide (A5 f (bO cs i)=A5 f (bO cs p))&&!jJ (rY f (bO cs i)) (rY f (bO cs p)))=false->(Ex g2 g4/\(1<=j+1->(decide ((bO cs i).lo=(bO cs p).lo)&&!jJ (bO cs i).lm (bO cs p).lm)=false)/\(2<=j+1->(decide ((bO cs i).up=(bO cs p).up)&&!jJ (bO cs i).um (bO cs p).um)=false)/\∃z7,([some (.ref a),some (.int v),some (.ref c),some (.ref hl),some (.int (p:Nat)),some (bO cs p).d,some (.int (i:Nat)),some (.int f),none,none]:S)=[some (.ref a),some (.int v),some (.ref c),some (.ref hl),some (.int (p:Nat)),some (bO cs p).d,some (.int (i:Nat)),z7,none,none]):=λg4 e4 hw=>by
    refine⟨e3.trans e4,λ_=>?_,λz=>?_,_,rfl⟩
    ·by_cases h0:j=0
     ·rw[Gg.mpr h0] at hw;exact hw
     ·exact q1 (by omega)
    ·have:¬f=0:=λw=>by have:=Gg.mp w;omega
     have f2:f=2:=hf.resolve_left this;rw[f2] at hw;exact hw
   refine if2 (λh1=>?_) (λh1=>?_)
   ·walk_at"";refine p8 (a9 (BE.at ha)) (K6 lC) ?_;walk_at"";refine u9 (Jd hf _) ?_;walk_at"";refine u9 (Jd hf _) ?_;walk_at"";refine Zn (k:=k) hT.Bi ((Nv i lC).Mn f) λg4 e4=>?_;walk_at"";cases hw:jJ (rY f (bO cs i)) (rY f (bO cs p)) with
    |false =>
     walk_at"";have:mw (bO cs i) (bO cs p)=true:=by
      unfold mw;rcases hf with rfl|rfl
      ·rw[aA (show(bO cs i).lo=(bO cs p).lo from h1),show jJ (bO cs i).lm (bO cs p).lm=false from hw];rfl
      ·rw[aA (show(bO cs i).up=(bO cs p).up from h1),show jJ (bO cs i).um (bO cs p).um=false from hw];simp
     rw[Uw vt hH this] at h;exact h _ (BE.trans e4)
    |true =>
     walk_at"";exact fin g4 e4 (by rw[hw];simp)
   ·walk_at"";exact fin g3 (Ex.refl _) (by rw[aG h1];rfl)
  ·obtain⟨e3,q1,q2,z7,rfl⟩:=q
   try show wpS _ _ _ _ _ _
   try walk_at""
   refine⟨e2.trans e3,λi' jz=>?_,_,_,rfl⟩;rw[bR,hi] at jz;rcases aS.mp jz with jz|jz
   ·exact q i' jz
   ·have:i'=i:=by simpa using jz
    subst this;unfold mw;rw[q1 (by decide),q2 (by decide)]
    rfl
 ·obtain⟨e1,q,z6,z7,rfl⟩:=q;rw[c6,ai,bW] at q;have w1:J8 cs (ko H) p=false:=by
   unfold J8;rw[yE hH,List.any_eq_false];exact λi hi=>by rw[q i hi];decide
  try show wpS _ _ _ _ _ _
  refine wF ?_;walk_at"";refine u9 (Ds _) ?_;walk_at"";have uY:I0 cs (ko H) p=(decide (0<(bO cs p).yr)&&H.any λi=>decide ((bO cs p).yr<(bO cs i).yr)):=by
   unfold I0;rw[yE hH,aZ,aU,aW,aU];constructor
   ·rintro⟨i,h1,h2⟩;unfold kI at h2;rw[aW] at h2;exact⟨h2.1,i,h1,h2.2⟩
   ·rintro⟨h1,i,h2,h3⟩;exact⟨i,h2,by unfold kI;rw[h1,h3];rfl⟩
  refine if2 (λc1=>?_) (λc1=>?_)
  ·walk_at"";have e2:=e1.trans (Ex.snoc g' (O.lst [D.int 0]));have h2:=b8 (g:=g') (o:=O.lst [D.int 0]);generalize g'++[O.lst [D.int 0]]=g2 at *;generalize g'.length=z0 at *;refine comp_map (b0 T _) (λσ=>∃z1 z2,σ=[some (.ref a),z1,z2]) (λi=>.int (bO cs (H.getD i 0)).yr) (l:=c6 H) (k:=.lst hl) (λg' e=>p0 (a9 ((e2.trans e).at hh))) (by simp[c6];omega) ⟨none,none,rfl⟩ (λi x σ g' hx e sh=>?_) (λg3 e3=>?_) (R5 (b0 T _) (a9 (e2.at hh)) λQ q=>w_var (d:=.ref hl) rfl q)
   ·obtain⟨z1,z2,rfl⟩:=sh;rw[c6,ao,ae] at hx;obtain⟨j,hj,rfl⟩:=hx;refine l6 ?_
    try show bg _ _ _ _ _ _
    walk_at"";refine p8 (a9 ((e2.trans e).at ha)) (K6 (hH j (aN hj))) ?_;walk_at"";refine u9 (Ds _) ?_;exact⟨by simp[List.getD,hj],e,_,_,rfl⟩
   have ey:(List.range (c6 H).length).map (λi=>D.int (bO cs (H.getD i 0)).yr)=(H.map λi=>(bO cs i).yr).map D.int:=by
    rw[bA];refine cI λi=>?_;rw[ao,ao];by_cases hi:i<H.length
    ·rw[cK (by simpa[c6] using hi),ak hi];simp[List.getD,hi]
    ·rw[aV (by simpa[c6] using hi),aV (by omega)]
     rfl
   rw[ey];have e4:=e3.trans (Ex.snoc g3 (O.lst ((H.map λi=>(bO cs i).yr).map D.int)));refine Dt (e4.at h2) b8 (by simp;omega) ?_;have e5:=e4.trans (Ex.snoc _ (O.lst ([D.int 0]++(H.map λi=>(bO cs i).yr).map D.int)));obtain⟨M,m1,m2⟩:=Ip (ns:=0::H.map λi=>(bO cs i).yr) (by simp);refine WH (ns:=0::H.map λi=>(bO cs i).yr) (a9 b8) m1 m2 ?_;walk_at"";refine u9 (Ds _) ?_;walk_at"";have em:decide ((bO cs p).yr<M)=I0 cs (ko H) p:=by
    rw[uY,aA c1,qm,aZ,cH,aU];constructor
    ·intro hM;rcases aE.mp m1 with rfl|hm
     ·omega
     ·obtain⟨i,hi,rfl⟩:=aT.mp hm;exact⟨i,hi,aA hM⟩
    ·rintro⟨i,hi,h1⟩;have:=m2 _ (bE _ (aT.mpr ⟨i,hi,rfl⟩));have:=bh h1;omega
   rw[em];cases w2:I0 cs (ko H) p with
   |true =>
    walk_at"";have:fault cs v rs (ko H) p="year":=by unfold fault;rw[aC (by rw[w1];decide),aJ w2]
    rw[this] at h;exact h _ (e2.trans e5)
   |false =>
    refine gI rfl ?_;refine E5 ?_;have yg:=e2.trans e5;exact Iq (k:=k) hT rfl (yg.at ha) hz (yg.at hc) hr (yg.at hh) hH rn hp w1 w2 λg6 e6=>h g6 (yg.trans e6)
  ·refine gI rfl ?_;refine E5 ?_;have w2:I0 cs (ko H) p=false:=by rw[uY,aG c1];rfl
   exact Iq (k:=k) hT rfl (e1.at ha) hz (e1.at hc) hr (e1.at hh) hH rn hp w1 w2 λg6 e6=>h g6 (e1.trans e6)
end
def Z7:bq:=⟨3,3,(.seq (.ret (.dS (cc (.cmp .NotEq) (.call 91 (eE bx bG)) bx) (cc (.cmp .Is) (.call 101 (iD aM bx bG)) (.lit .bN)))) .pass)⟩
def Z8:bq:=⟨2,2,(.seq (.ret (.comp [0,1] 4 (.one 3) (.eG (dY (.fld "size") aM)) (.fT (.call 115 (iD aM bx cv))) cv)) .pass)⟩
def yL:bq:=⟨2,2,(.seq (.ret (.comp [0] 3 (.one 2) (.eG bx) (fo .Eq (cc (.bin .Mod) (cc (.bin .FloorDiv) aM (da (.prim .lst (.cons (bo 1) (.cons (bo 2) (Bt (bo 4) (bo 8) (bo 16) (bo 32) (bo 64) (bo 128) (bo 256))))) bG)) (bo 2)) (bo 1)) bG)) .pass)⟩
def yI:bq:=⟨1,1,(.seq (.ret (da (.prim .lst (.cons (bo 1) (.cons (bo 2) (.cons (bo 4) (Bt (bo 8) (bo 16) (bo 32) (bo 64) (bo 128) (bo 256) (bo 512)))))) aM)) .pass)⟩
def U4:bq:=⟨4,7,(.seq (.set 4 (.call 146 (eE cv (dY .len aM)))) (.seq (.set 5 (.prim .lst .nil)) (.seq (.dX (.one 6) (.eG (dY .len aM)) (.seq (.ifs (.dS (fo .NotIn fO dI) (fo .Eq (.call 108 (uw aM bx bG dI fO)) (iB ""))) (.seq (.expr (.ff .append fC (fP fO))) .pass) .pass) .pass)) (.seq (.ret fC) .pass))))⟩
def E3(cs:List b7)(v:Int)(rs:List gY)(s p:Nat):Bool:=!s.testBit p&&decide (fault cs v rs s.testBit p="")
def pY(cs:List b7)(v:Int)(rs:List gY)(s:Nat):List Nat:=(List.range cs.length).filter (E3 cs v rs s)
theorem a48(x:Str):M9 (yc x)=decide (x=""):=by
 unfold yc;by_cases h:x=""
 ·rw[aJ h,aA h];rfl
 ·rw[aC h,aG h];rfl
theorem WU{s p:Nat}:decide (((s |||2 ^ p:Nat):Int)=(s:Nat))=s.testBit p:=by
 rw[aZ,cH];constructor
 ·intro h;have h:s |||2 ^ p=s:=by omega
  have:=P9 s p p;rw[h] at this;rw[this];simp
 ·intro h;have:s |||2 ^ p=s:=Nat.eq_of_testBit_eq λi=>by
   rw[P9];by_cases hi:i=p
   ·subst hi;rw[h];rfl
   ·rw[aG hi,Bool.or_false]
  rw[this]
structure TF(T:Nat->Option bq):Prop where
 rE:T 115=some Z7
 Bl:T 116=some Z8
section
variable{T:Nat->Option bq}{k d:Nat}{g g':G}{Q:KD}{E:KX}{a b c hl p:Nat}{cs:List b7}{rs:List gY}{v:Int}{H:List Nat}
theorem Zg(hT:TB0 T)(rE:T 115=some Z7)(B:Bd g b cs v rs)(hz:cs.length<=9)(hr:rs.length<=900){s p:Nat}(hs:s<2 ^ cs.length)(hp:p<cs.length)(h:∀g',Ex g g'->Q (.bl (E3 cs v rs s p)) g'):d0 T (k+4) 115 [.ref b,.int (s:Nat),.int (p:Nat)] g Q E:=by
 refine call_of rE rfl ?_;dsimp[Z7,d4,List.replicate];walk_at"";refine P8 (k:=k+2) hT.vI (by omega) ?_;walk_at"";rw[WU];cases hb:s.testBit p with
 |true =>
  refine gI rfl ?_;have:E3 cs v rs s p=false:=by unfold E3;rw[hb];rfl
  rw[this] at h;exact h _ (Ex.refl _)
 |false =>
  refine js rfl ?_;walk_at"";refine Xj (k:=k) hT B hz hr hs hp λg1 e1=>?_;walk_at"";have:E3 cs v rs s p=M9 (yc (fault cs v rs s.testBit p)):=by unfold E3;rw[hb,a48];rfl
  rw[this] at h;exact h _ e1
theorem aC0(hT:TB0 T)(hF:TF T)(B:Bd g b cs v rs)(hz:cs.length<=9)(hr:rs.length<=900){s:Nat}(hs:s<2 ^ cs.length)(h:∀g' l,Ex g g'->g.length<=l->g'[l]?=some (.lst (c6 (pY cs v rs s)))->Q (.ref l) g'):d0 T (k+5) 116 [.ref b,.int (s:Nat)] g Q E:=by
 refine call_of hF.Bl rfl ?_;dsimp[Z8,d4,List.replicate];obtain⟨w,l,dd,nb,h1,h2,h3,h4,h5⟩:=B.ex;walk_at"";refine A1 (b0 T _) (λσ=>∃z2 z3,σ=[some (.ref b),some (.int (s:Nat)),z2,z3]) (E3 cs v rs s) (λi=>.int (i:Nat)) (l:=i8 0 cs.length) (λg' e=>s9) (by rw[j9];omega) ⟨none,none,rfl⟩ (λi d σ g' hx e sh=>?_) (λg' e=>?_) (zo (b0 T _) (by omega:cs.length<=1000) λQ q=>?_)
 ·obtain⟨z2,z3,rfl⟩:=sh;obtain⟨hi,rfl⟩:=x6 hx;rw[eO];refine l6 ?_
  try show df _ _ _ _ _ _
  walk_at"";refine Zg (k:=k) hT hF.rE (B.at e) hz hr hs hi λg2 e2=>?_;walk_at"";refine⟨rfl,e.trans e2,?_⟩;cases E3 cs v rs s i with
  |true =>
   refine js rfl ?_;walk_at"";exact⟨rfl,e.trans e2,_,_,rfl⟩
  |false=>exact gI rfl ⟨_,_,rfl⟩
 ·rw[j9];exact h _ _ (e.trans (Ex.snoc _ _)) e.len b8
 ·walk_at"";exact pX h1 rfl q
def Hh:List D:=[.int 1,.int 2,.int 4,.int 8,.int 16,.int 32,.int 64,.int 128,.int 256]
theorem QX{i:Nat}(hi:i<9):gz Hh (i:Int)=some (.int ((2 ^ i:Nat):Int)):=by
 have:i=0\/i=1\/i=2\/i=3\/i=4\/i=5\/i=6\/i=7\/i=8:=by omega
 rcases this with rfl|rfl|rfl|rfl|rfl|rfl|rfl|rfl|rfl<;>rfl
theorem a25(rB:T 147=some yI){n:Nat}(hn:n<=9)(h:∀g',Ex g g'->Q (.int ((2 ^ n:Nat):Int)) g'):d0 T (k+1) 147 [.int (n:Nat)] g Q E:=by
 refine call_of rB rfl ?_;dsimp[yI,d4,List.replicate];walk_at"";refine p8 (a9 b8) (d:=.int ((2 ^ n:Nat):Int)) ?_ (h _ (Ex.snoc _ _));have:n=0\/n=1\/n=2\/n=3\/n=4\/n=5\/n=6\/n=7\/n=8\/n=9:=by omega
 rcases this with rfl|rfl|rfl|rfl|rfl|rfl|rfl|rfl|rfl|rfl<;>rfl
theorem XI(rC:T 146=some yL){s n:Nat}(hn:n<=9)(h:∀g' l,Ex g g'->g.length<=l->g'[l]?=some (.lst (c6 ((List.range n).filter s.testBit)))->Q (.ref l) g'):d0 T (k+1) 146 [.int (s:Nat),.int (n:Nat)] g Q E:=by
 refine call_of rC rfl ?_;dsimp[yL,d4,List.replicate];walk_at"";refine A1 (b0 T _) (λσ=>∃z1 z2,σ=[some (.int (s:Nat)),z1,z2]) s.testBit (λi=>.int (i:Nat)) (l:=i8 0 n) (λg' e=>s9) (by rw[j9];omega) ⟨none,none,rfl⟩ (λi d σ g' hx e sh=>?_) (λg' e=>?_) (zo (b0 T _) (by omega:n<=1000) λQ q=>w_var (d:=.int (n:Nat)) rfl q)
 ·obtain⟨z1,z2,rfl⟩:=sh;obtain⟨hi,rfl⟩:=x6 hx;rw[eO];refine l6 ?_
  try show df _ _ _ _ _ _
  walk_at"";refine p8 (a9 b8) (QX (i:=i) (by omega)) ?_;have hp:(0:Int)<((2 ^ i:Nat):Int):=by have:=ky (n:=i);omega
  have qT:((2 ^ i:Nat):Int)<1073741824:=by
   have:=zy (a:=2) (by omega) (show i<30 by omega);omega
  refine Jb hp qT ?_;walk_at"";have eb:decide ((s:Int) / ((2 ^ i:Nat):Int) % 2=1)=s.testBit i:=by
   rw[Nat.testBit_eq_decide_div_mod_eq];refine lS.mpr ?_;rw[<- Int.natCast_ediv];omega
  have e2:=e.trans (Ex.snoc g' (O.lst Hh));rw[eb];refine⟨rfl,e2,?_⟩;cases s.testBit i with
  |true =>
   refine js rfl ?_;walk_at"";exact⟨rfl,e2,_,_,rfl⟩
  |false=>exact gI rfl ⟨_,_,rfl⟩
 ·rw[j9];exact h _ _ (e.trans (Ex.snoc _ _)) e.len b8
structure Ew(T:Nat->Option bq):Prop where
 rC:T 146=some yL
 rB:T 147=some yI
 Bj:T 148=some U4
theorem Xi(hT:qe T)(vD:Ew T)(hB:∀c∈cs,CB c)(ha:g[a]?=some (.lst (cs.map b7.d)))(hz:cs.length<=9)(hc:g[c]?=some (.lst (u4 rs)))(hr:rs.length<=900){s:Nat}(h:∀g' l,Ex g g'->g.length<=l->g'[l]?=some (.lst (c6 (pY cs v rs s)))->Q (.ref l) g'):d0 T (k+3) 148 [.ref a,.int v,.ref c,.int (s:Nat)] g Q E:=by
 refine call_of vD.Bj rfl ?_;dsimp[U4,d4,List.replicate];walk_at"";rw[ai];refine XI (k:=k+1) vD.rC hz λg1 hl e1 jD hh=>?_;walk_at"";have e2:=e1.trans (Ex.snoc g1 (O.lst []));have Gd:=(Ex.snoc g1 (O.lst [])).at hh;have h2:=b8 (g:=g1) (o:=O.lst []);have l1:=m8 hh;have ge:g.length<=g1.length:=e1.len;generalize g1++[O.lst []]=g2 at *;generalize g1.length=fl at *;have hH:∀i∈(List.range cs.length).filter s.testBit,i<cs.length:=V8;have rn:((List.range cs.length).filter s.testBit).length<=50:=aI K2 (by omega);have hS:∀i,i<cs.length->ko ((List.range cs.length).filter s.testBit) i=s.testBit i:=λi hi=>by
  rw[aZ,cH,bJ,bp];exact⟨λz=>z.2,λz=>⟨hi,z⟩⟩
 refine z9 (b0 T _) (V1 (b0 T _) ?_);walk_at"";refine K0 (a9 (e2.at ha)) ?_;refine⟨_,rfl,by omega,by simp;omega,i8 0 cs.length,λi σ g'=>Ex g g'/\g'[hl]?=some (.lst (c6 ((List.range cs.length).filter s.testBit)))/\g'[fl]?=some (.lst (c6 ((List.range i).filter (E3 cs v rs s))))/\∃z6,σ=[some (.ref a),some (.int v),some (.ref c),some (.int (s:Nat)),some (.ref hl),some (.ref fl),z6],λ_ _ _ _=>by simp only[List.length_map,Int.toNat_natCast];exact s9,⟨e2,Gd,h2,none,rfl⟩,λi x σ g' hx q=>?_,λσ g' q=>?_⟩
 ·obtain⟨e3,oH,h3,z6,rfl⟩:=q;obtain⟨hi,rfl⟩:=x6 hx;rw[eO];refine l6 ?_
  try show wpS _ _ _ _ _ _
  walk_at"";refine tT (Cp oH ?_);walk_at"";have es:(List.range (i+1)).filter (E3 cs v rs s)=(List.range i).filter (E3 cs v rs s)++if E3 cs v rs s i=true then[i] else[]:=by
   rw[iY,fk]
   congr 1
   cases z:E3 cs v rs s i<;>simp only[List.filter_cons,z,List.filter_nil]<;>rfl
  have Nl:decide (i∈(List.range cs.length).filter s.testBit)=s.testBit i:=hS i hi;rw[Nl];cases hb:s.testBit i with
  |true =>
   refine gI rfl ?_;walk_at"";refine⟨e3,oH,?_,_,rfl⟩;rw[es,aC (by unfold E3;rw[hb];simp),de];exact h3
  |false =>
   refine js rfl ?_;walk_at"";refine Yq (k:=k) hT hB (e3.at ha) hz (e3.at hc) hr oH hH rn hi λg4 e4=>?_;rw[ZV hS];walk_at"";have Gh:E3 cs v rs s i=decide (fault cs v rs s.testBit i=""):=by unfold E3;rw[hb];rfl
   refine if2 (λc1=>?_) (λc1=>?_)
   ·walk_at"";have h4:=e4.at h3
    try refine⟨W5 h4,?_⟩
    walk_at"";refine O8 h4 (by have:=@K2 i (E3 cs v rs s);simp[c6];omega) ?_;walk_at"";refine⟨⟨by simp;exact(e3.trans e4).len,λj hj=>by rw[ax (by omega)];exact(e3.trans e4).old j hj⟩,d5 (e4.at oH) (by omega),?_,_,rfl⟩;rw[get_set h4,es,aJ (by rw[Gh];exact aA c1)];simp[c6]
   ·walk_at"";refine⟨e3.trans e4,e4.at oH,?_,_,rfl⟩;rw[es,aC (by rw[Gh,aG c1];decide),de];exact e4.at h3
 ·obtain⟨e3,oH,h3,z6,rfl⟩:=q;rw[j9] at h3
  try show wpS _ _ _ _ _ _
  walk_at"";exact h _ _ e3 ge h3
end
def FG(n:Nat)(F:Nat->List Nat):Prop:=∀s p,p∈F s->p<n/\s.testBit p=false
theorem WT{s p:Nat}(h:s.testBit p=false):s<s |||2 ^ p:=by
 have h1:s<=s |||2 ^ p:=Nat.left_le_or
 have h2:s |||2 ^ p≠s:=λe=>by
  have:=P9 s p p;rw[e,h] at this;simp at this
 omega
inductive jR(F:Nat->List Nat):Nat->Prop
 |zero:jR F 0
 |step {s p:Nat} (h:jR F s) (hp:p∈F s):jR F (s |||2 ^ p)
theorem jR.lt{n:Nat}{F:Nat->List Nat}(hF:FG n F){s:Nat}(h:jR F s):s<2 ^ n:=by
 induction h with
 |zero=>exact Nat.two_pow_pos _
 |step h hp ih=>exact JZ ih (hF _ _ hp).1
theorem Cn(cs:List b7)(v:Int)(rs:List gY):FG cs.length (pY cs v rs):=λs p hp=>by
 obtain⟨h1,h2⟩:=bJ.mp hp;unfold E3 at h2;rw[aW,Bool.not_eq_true'] at h2;exact⟨bp.mp h1,h2.1⟩
noncomputable abbrev kN(j:Nat):Key:=.inl (j:Int)
theorem Hu{kvs:List (Key×D)}{c:Key}{x:D}:w6 (putD kvs c x) c=some x:=by
 unfold w6 putD;by_cases h:(kvs.any λkv=>decide (kv.1=c))=true
 ·rw[aJ h]
  induction kvs with
  |nil=>cases h
  |cons kv r ih =>
   rw[bu,fg];by_cases hk:kv.1=c
   ·rw[aJ hk];simp[hk]
   ·rw[aC hk];simp only[hk,decide_false];refine ih ?_;rw[fR,cU] at h;exact h.resolve_left (by simp[hk])
 ·rw[aC h,lq];have:kvs.find? (λkv=>decide (kv.1=c))=none:=by
   rw[kB];exact λkv hk hc=>h (aU.mpr ⟨kv,hk,hc⟩)
  rw[this];simp
theorem YN{kvs:List (Key×D)}{c c':Key}{x:D}(hn:c≠c'):w6 (putD kvs c x) c'=w6 kvs c':=by
 unfold w6 putD;by_cases h:(kvs.any λkv=>decide (kv.1=c))=true
 ·rw[aJ h];clear h
  induction kvs with
  |nil=>rfl
  |cons kv r ih =>
   rw[bu,fg,fg];by_cases hk:kv.1=c
   ·rw[aJ hk];have:kv.1≠c':=λz=>hn (hk.symm.trans z);simp only[this,decide_false];exact ih
   ·rw[aC hk];by_cases oe:kv.1=c'
    ·simp only[oe,decide_true]
    ·simp only[oe,decide_false];exact ih
 ·rw[aC h,lq];have:[(c,x)].find? (λkv=>decide (kv.1=c'))=none:=by simp[hn]
  rw[this];simp
theorem KA{i j:Nat}(h:i≠j):kN i≠kN j:=λz=>h (by have:(i:Int)=j:=Sum.inl.inj z;omega)
def F9:bq:=⟨1,5,(.seq (.set 1 (.prim (.kC 0) .nil)) (.seq (.set 2 (.prim .lst .nil)) (.seq (.dX (.one 3) (.eG (cc (.bin .Add) (dY (.fld "full") aM) (bo 1))) (.seq (.ifs (fo .In cv bx) (.seq (.expr (.ff .append bG (fP cv))) (.seq (.dX (.one 4) (.fF (.call 116 (eE aM cv))) (.seq (.expr (.ff .kE bx (fP (.call 91 (eE cv dI))))) .pass)) .pass)) .pass) .pass)) (.seq (.ret bG) .pass))))⟩
theorem zb:∀{l m:List Nat},l.Nodup->(∀x∈l,x∈m)->l.length<=m.length
 |[],m,_,_=>cB _
 |x::r,m,nd,h=>by
  rw[dU] at nd;have:=zb (l:=r) (m:=m.erase x) nd.2 λy hy=>(List.mem_erase_of_ne λz=>nd.1 (by rw[<- z];exact hy)).mpr (h y (by simp[hy]));have hx:=h x (by simp);rw[List.length_erase_of_mem hx] at this;have:=iM hx;simp;omega
section
variable{P:fY}{σ:S}{g:G}{Q:KD}{E:KX}{t:MT}{it elt:ME}{d6:List Nat}{n:Nat}
end
def oV(g:G)(sd n:Nat)(K:List Nat):Prop:=∃S m,g[sd]?=some (.set S m)/\m=K.length/\K.Nodup/\(∀j∈K,j<2 ^ n)/\∀k:Int,S k=true↔∃j∈K,k=(j:Nat)
theorem oV.at{g g':G}{sd n:Nat}{K:List Nat}(h:oV g sd n K)(e:Ex g g'):oV g' sd n K:=let ⟨S,m,h1,h2⟩:=h;⟨S,m,e.at h1,h2⟩
theorem oV.size{g:G}{sd n:Nat}{K:List Nat}(h:oV g sd n K):K.length<=2 ^ n:=by
 obtain⟨S,m,_,_,nd,lt,_⟩:=h;have:=zb (m:=List.range (2 ^ n)) nd λx hx=>bp.mpr (lt x hx);simpa using this
theorem Et{n:Nat}(h:n<=9):1<=2 ^ n/\2 ^ n<=512:=⟨ky,zz (by omega) h⟩
section
variable{T:Nat->Option bq}{k d:Nat}{g g':G}{Q:KD}{E:KX}{a b c r:Nat}{cs:List b7}{rs:List gY}{v:Int}
theorem Zx(hT:TB0 T)(hF:TF T)(rD:T 117=some F9)(B:Bd g b cs v rs)(hz:cs.length<=9)(hr:rs.length<=900)(h:∀(L:List Nat) l g',Ex g g'->g.length<=l->g'[l]?=some (.lst (c6 L))->L.Pairwise (· < ·)->(∀s,s∈L↔jR (pY cs v rs) s)->L.length<=512->Q (.ref l) g'):d0 T (k+6) 117 [.ref b] g Q E:=by
 refine call_of rD rfl ?_;dsimp[F9,d4,List.replicate];have nG:=Cn cs v rs;generalize Bb:pY cs v rs=F at *;obtain⟨w0,l0,dd,nb,f1,f2,f3,f4,f5⟩:=B.ex;have p2:=Et hz;walk_at"";refine Tc ?_;have s1:oV (g++[O.set (λk=>decide (k=0)) 1]) g.length cs.length [0]:=⟨_,_,b8,rfl,by simp,by simp;omega,λk=>by simp⟩
 have e1:=Ex.snoc g (O.set (λk=>decide (k=0)) 1);generalize g++[O.set (λk=>decide (k=0)) 1]=g1 at *;walk_at"";have e2:=e1.trans (Ex.snoc g1 (O.lst []));have s2:=s1.at (Ex.snoc g1 (O.lst []));have t2:=b8 (g:=g1) (o:=O.lst []);have l1:g.length<g1.length:=by obtain⟨_,_,z,_⟩:=s1;exact m8 z
 generalize g1++[O.lst []]=g2 at *;generalize g1.length=tl at *;refine z9 (b0 T _) (V1 (b0 T _) ?_);walk_at"";refine pX (e2.at f1) rfl ?_;walk_at"";have en:((2 ^ cs.length-1:Nat):Int)+1=((2 ^ cs.length:Nat):Int):=by omega
 rw[en];refine⟨by omega,by omega,i8 0 (2 ^ cs.length),λt σ g'=>Ex g g'/\(∃K,oV g' g.length cs.length K/\∀j,j∈K↔j=0\/∃s p,s<t/\jR F s/\p∈F s/\j=s |||2 ^ p)/\(∃L,g'[tl]?=some (.lst (c6 L))/\L.Pairwise (· < ·)/\(∀s,s∈L↔s<t/\jR F s)/\L.length<=t)/\∃z3 z4,σ=[some (.ref b),some (.ref g.length),some (.ref tl),z3,z4],λ_ _ _ _=>by rw[cJ];exact s9,⟨e2,⟨[0],s2,λj=>by simp⟩,⟨[],t2,by simp,by simp,by simp⟩,none,none,rfl⟩,λt x σ g' hx q=>?_,λσ g' q=>?_⟩
 ·obtain⟨e3,⟨K,s3,hK⟩,⟨L,t3,pw,hL,Gx⟩,z3,z4,rfl⟩:=q;obtain⟨ht,rfl⟩:=x6 hx;rw[eO];have nz:t∈K↔jR F t:=by
   rw[hK];constructor
   ·rintro(rfl|⟨s,p,_,h2,h3,rfl⟩)
    ·exact .zero
    ·exact .step h2 h3
   ·intro h;cases h with
    |zero=>exact .inl rfl
    |step h hp=>exact .inr ⟨_,_,WT (nG _ _ hp).2,h,hp,rfl⟩
  refine l6 ?_
  try show wpS _ _ _ _ _ _
  walk_at"";obtain⟨S,m,sg,sm,snd,slt,sS⟩:=id s3;refine Wd sg ?_;walk_at"";have Gu:S (t:Nat)=true↔jR F t:=by
   rw[sS,<- nz];exact⟨λ⟨j,hj,e⟩=>by rw[show t=j by omega];exact hj,λz=>⟨t,z,rfl⟩⟩
  cases hb:S (t:Nat) with
  |false =>
   have pF:¬jR F t:=λz=>by rw[Gu.mpr z] at hb;cases hb
   refine gI rfl ?_;walk_at"";refine⟨e3,⟨K,s3,λj=>(hK j).trans ⟨?_,?_⟩⟩,⟨L,t3,pw,λs=>(hL s).trans ⟨λz=>⟨by omega,z.2⟩,λz=>⟨?_,z.2⟩⟩,by omega⟩,_,_,rfl⟩
   ·rintro(z|⟨s,p,h1,h2⟩)
    ·exact .inl z
    ·exact .inr ⟨s,p,by omega,h2⟩
   ·rintro(z|⟨s,p,h1,h2,h3⟩)
    ·exact .inl z
    ·refine .inr ⟨s,p,?_,h2,h3⟩;rcases iK s t with y|y
     ·exact y
     ·exact absurd (show jR F t by rw[show t=s by omega];exact h2) pF
   ·rcases iK s t with y|y
    ·exact y
    ·exact absurd (show jR F t by rw[show t=s by omega];exact z.2) pF
  |true =>
   have hR:=Gu.mp hb;refine js rfl ?_;walk_at"";refine O8 t3 (by simp[c6];omega) ?_;have LM:tl≠g.length:=by omega
   have s4:oV (g'.set tl (.lst (c6 L++[D.int (t:Nat)]))) g.length cs.length K:=⟨S,m,d5 sg LM,sm,snd,slt,sS⟩
   have t4:(g'.set tl (.lst (c6 L++[D.int (t:Nat)])))[tl]?=some (.lst (c6 (L++[t]))):=by rw[get_set t3];simp[c6]
   have e4:Ex g (g'.set tl (.lst (c6 L++[D.int (t:Nat)]))):=⟨by simp;exact e3.len,λi hi=>by rw[ax (by omega)];exact e3.old i hi⟩
   generalize g'.set tl (.lst (c6 L++[D.int (t:Nat)]))=g4 at *;walk_at"";refine z9 (b0 T _) (ml (b0 T _) ?_);walk_at"";refine aC0 (k:=k) hT hF (B.at e4) hz hr ht λg5 fl e5 Gf h5=>?_;rw[Bb] at h5;have l4:tl<g4.length:=m8 t4;refine⟨fl,_,rfl,a9 h5,c6 (F t),λj σ g'=>Ex g g'/\g'[fl]?=some (.lst (c6 (F t)))/\g'[tl]?=some (.lst (c6 (L++[t])))/\(∃K',oV g' g.length cs.length K'/\∀x,x∈K'↔x∈K\/∃p∈(F t).take j,x=t |||2 ^ p)/\∃z4,σ=[some (.ref b),some (.ref g.length),some (.ref tl),some (.int (t:Nat)),z4],λj σ g' q=>p0 (a9 q.2.1),⟨e4.trans e5,h5,e5.at t4,⟨K,s4.at e5,λx=>by simp⟩,z4,rfl⟩,λj x σ g' hx q=>?_,λσ g' q=>?_⟩
   ·obtain⟨e6,h6,t6,⟨K',s6,tD⟩,z4,rfl⟩:=q;rw[c6,ao,ae] at hx;obtain⟨p,hp,rfl⟩:=hx;have Ar:=aN hp;have MF:=(nG _ _ Ar)
    have tk:(F t).take (j+1)=(F t).take j++[p]:=by rw[bR,hp];rfl
    obtain⟨S6,m6,xr,EY,uD,uF,sJ⟩:=id s6;refine l6 ?_
    try show wpS _ _ _ _ _ _
    walk_at"";refine⟨SO xr,?_⟩;walk_at"";refine P8 (k:=k+4) hT.vI (by omega) ?_;walk_at"";have hsz:=s6.size;refine Qq xr (by omega) ?_;walk_at"";have eA:=JZ ht MF.1;refine⟨⟨by simp;exact e6.len,λi hi=>by rw[ax (by omega)];exact e6.old i hi⟩,d5 h6 (by have:=e4.len;omega),d5 t6 (by omega),?_,_,rfl⟩;by_cases lC:S6 ((t |||2 ^ p:Nat):Int)=true
    ·refine⟨K',⟨_,_,get_set xr,by rw[aJ lC];exact EY,uD,uF,λk=>?_⟩,λx=>?_⟩
     ·rw[cU,cH];constructor
      ·rintro(z|z)
       ·exact(sJ k).mp z
       ·subst z;exact(sJ _).mp lC
      ·exact λz=>.inl ((sJ k).mpr z)
     ·rw[tD x,tk];simp only[List.mem_append,List.mem_singleton];constructor
      ·rintro(z|⟨q,z1,z2⟩)
       ·exact .inl z
       ·exact .inr ⟨q,.inl z1,z2⟩
      ·rintro(z|⟨q,z1|z1,z2⟩)
       ·exact .inl z
       ·exact .inr ⟨q,z1,z2⟩
       ·subst z1 z2;obtain⟨y,y1,y2⟩:=(sJ _).mp lC;rw[<- tD,show(t |||2 ^ q)=y by omega];exact y1
    ·have Aw:(t |||2 ^ p)∉K':=λz=>lC ((sJ _).mpr ⟨_,z,rfl⟩);refine⟨K'++[t |||2 ^ p],⟨_,_,get_set xr,by rw[aC lC];simp[EY],?_,λy hy=>?_,λk=>?_⟩,λx=>?_⟩
     ·rw[dj];exact⟨uD,by simp,λx hx y hy=>by cases bf.mp hy;exact λz=>Aw (z▸hx)⟩
     ·rcases aS.mp hy with z|z
      ·exact uF y z
      ·cases bf.mp z;exact eA
     ·rw[cU,cH,sJ];simp only[List.mem_append,List.mem_singleton];constructor
      ·rintro(⟨y,y1,y2⟩|z)
       ·exact⟨y,.inl y1,y2⟩
       ·exact⟨_,.inr rfl,z⟩
      ·rintro⟨y,y1|y1,y2⟩
       ·exact .inl ⟨y,y1,y2⟩
       ·subst y1;exact .inr y2
     ·rw[aS,bf,tD x,tk];simp only[List.mem_append,List.mem_singleton];constructor
      ·rintro((z|⟨q,z1,z2⟩)|z)
       ·exact .inl z
       ·exact .inr ⟨q,.inl z1,z2⟩
       ·exact .inr ⟨p,.inr rfl,z⟩
      ·rintro(z|⟨q,z1|z1,z2⟩)
       ·exact .inl (.inl z)
       ·exact .inl (.inr ⟨q,z1,z2⟩)
       ·subst z1;exact .inr z2
   ·obtain⟨e6,h6,t6,⟨K',s6,tD⟩,z4,rfl⟩:=q;rw[c6,ai,bW] at tD
    try show wpS _ _ _ _ _ _
    walk_at"";refine⟨e6,⟨K',s6,λj=>(tD j).trans ?_⟩,⟨L++[t],t6,?_,λs=>?_,by simp;omega⟩,_,_,rfl⟩
    ·rw[hK j];constructor
     ·rintro((z|⟨s,p,h1,h2⟩)|⟨p,h1,h2⟩)
      ·exact .inl z
      ·exact .inr ⟨s,p,by omega,h2⟩
      ·exact .inr ⟨t,p,by omega,hR,h1,h2⟩
     ·rintro(z|⟨s,p,h1,h2,h3,h4⟩)
      ·exact .inl (.inl z)
      ·rcases iK s t with y|y
       ·exact .inl (.inr ⟨s,p,y,h2,h3,h4⟩)
       ·have:s=t:=by omega
        subst this;exact .inr ⟨p,h3,h4⟩
    ·rw[aR];exact⟨pw,by simp,λx hx y hy=>by cases bf.mp hy;exact((hL x).mp hx).1⟩
    ·rw[aS,bf,hL s];constructor
     ·rintro(z|z)
      ·exact⟨by omega,z.2⟩
      ·subst z;exact⟨by omega,hR⟩
     ·rintro⟨z1,z2⟩;rcases iK s t with y|y
      ·exact .inl ⟨y,z2⟩
      ·exact .inr (by omega)
 ·obtain⟨e3,⟨K,s3,hK⟩,⟨L,t3,pw,hL,Gx⟩,z3,z4,rfl⟩:=q;rw[j9] at hL Gx
  try show wpS _ _ _ _ _ _
  walk_at"";exact h L tl g' e3 (by omega) t3 pw (λs=>(hL s).trans ⟨λz=>z.2,λz=>⟨z.lt nG,z⟩⟩) (by omega)
end
def yK:bq:=⟨3,9,(.seq (.set 3 (.prim .V2 .nil)) (.seq (.set 4 (dY .lst (bo 0))) (.seq (.dX (.one 5) (.eG (cc (.bin .Add) (dY .len aM) (bo 1))) (.seq (.set 6 (.prim .V2 .nil)) (.seq (.dX (.one 7) (.fF dI) (.seq (.eW cv gH (.call 148 (sG aM bx bG gH))) (.seq (.dX (.one 8) (.fF (da cv gH)) (.seq (.eW fO (cc (.bin .Add) gH (.call 147 (fP kK))) (.lit (.bl true))) .pass)) .pass))) (.seq (.set 4 (dY .jK (dY .list fO))) .pass)))) (.seq (.ret cv) .pass))))⟩
theorem QG{s p:Nat}(h:s.testBit p=false):s |||2 ^ p=s+2 ^ p:=by
 induction p generalizing s with
 |zero =>
  rw[Nat.testBit_zero,dE] at h;have h1:=Nat.or_div_two (a:=s) (b:=1);have h2:(s |||1) % 2=1:=xg.mpr (.inr rfl);rw[show(1:Nat) / 2=0 from rfl,Nat.or_zero] at h1;show s |||1=s+1
  omega
 |succ p ih =>
  have h0:(s / 2).testBit p=false:=by rw[Nat.testBit_succ] at h;exact h
  have h1:=Nat.or_div_two (a:=s) (b:=2 ^ (p+1));have h2:=xg (a:=s) (b:=2 ^ (p+1));have e:2 ^ (p+1)=2*2 ^ p:=by rw[uf,kZ]
  rw[e,Nat.mul_div_cancel_left _ (by decide),ih h0] at h1;rw[e] at h2 ⊢;omega
def Lay(F:Nat->List Nat):Nat->Nat->Prop
 |0,s=>s=0
 |i+1,s=>∃r p,Lay F i r/\p∈F r/\s=r |||2 ^ p
theorem Lay.qD{F:Nat->List Nat}:∀{i s:Nat},Lay F i s->jR F s
 |0,_,h=>by cases h;exact .zero
 |i+1,_,⟨r,p,h1,h2,h3⟩=>by rw[h3];exact .step h1.qD h2
theorem TC{F:Nat->List Nat}{s:Nat}(h:jR F s):∃i,Lay F i s:=by
 induction h with
 |zero=>exact⟨0,rfl⟩
 |step _ hp ih=>obtain⟨i,hi⟩:=ih;exact⟨i+1,_,_,hi,hp,rfl⟩
theorem Lay.bits{n:Nat}{F:Nat->List Nat}(hF:FG n F):∀{i s:Nat},Lay F i s->∃l:List Nat,l.Nodup/\l.length=i/\∀q∈l,s.testBit q=true/\q<n
 |0,s,_=>⟨[],oo,rfl,λq hq=>absurd hq lT⟩
 |i+1,s,⟨r,p,h1,h2,h3⟩=>by
  obtain⟨l,n1,n2,n3⟩:=h1.bits hF;obtain⟨p1,p2⟩:=hF r p h2;refine⟨p::l,dU.mpr ⟨λz=>?_,n1⟩,by simp[n2],λq hq=>?_⟩
  ·rw[(n3 p z).1] at p2;cases p2
  ·rw[h3,P9];rcases aE.mp hq with rfl|hq
   ·exact⟨by simp,p1⟩
   ·exact⟨by rw[(n3 q hq).1];rfl,(n3 q hq).2⟩
theorem Lay.le{n:Nat}{F:Nat->List Nat}(hF:FG n F){i s:Nat}(h:Lay F i s):i<=n:=by
 obtain⟨l,n1,n2,n3⟩:=h.bits hF;have:=zb (m:=List.range n) n1 λq hq=>bp.mpr (n3 q hq).2;rw[lp] at this;omega
def Ky(kvs:List (Key×D))(L:List Nat):Prop:=kvs.map (·.1)=L.map kN/\L.Nodup
theorem Ky.put{kvs:List (Key×D)}{L:List Nat}(h:Ky kvs L)(j:Nat)(x:D):∃L',Ky (putD kvs (kN j) x) L'/\∀s,s∈L'↔s∈L\/s=j:=by
 obtain⟨h1,h2⟩:=h;have mr:(kvs.any λkv=>decide (kv.1=kN j))=true↔j∈L:=by
  rw[aU];constructor
  ·rintro⟨kv,m,e⟩;have e:=bh e;have:kv.1∈L.map kN:=by rw[<- h1];exact EJ m
   obtain⟨i,hi,e2⟩:=aT.mp this;have:i=j:=Classical.byContradiction λz=>KA z (e2.trans e);rw[<- this];exact hi
  ·intro hj;have:kN j∈kvs.map (·.1):=by rw[h1];exact EJ hj
   obtain⟨kv,m,e⟩:=aT.mp this;exact⟨kv,m,aA e⟩
 unfold putD;by_cases hj:j∈L
 ·rw[aJ (mr.mpr hj)];refine⟨L,⟨?_,h2⟩,λs=>⟨.inl,λz=>z.elim id λe=>e▸hj⟩⟩;rw[bA,<- h1];refine jX λkv _=>?_;show(if kv.1=kN j then(kv.1,x) else kv).1=kv.1;split<;>rfl
 ·rw[aC λz=>hj (mr.mp z)];refine⟨L++[j],⟨by rw[dW,dW,h1];rfl,dj.mpr ⟨h2,by simp,λa ha b hb=>by simp at hb;subst hb;exact λe=>hj (e▸ha)⟩⟩,λs=>by simp⟩
theorem Ky.len{kvs:List (Key×D)}{L:List Nat}(h:Ky kvs L):kvs.length=L.length:=by simpa using fx List.length h.1
theorem Ky.small{kvs:List (Key×D)}{L:List Nat}{n:Nat}(h:Ky kvs L)(hn:n<=9)(hL:∀s∈L,s<2 ^ n):kvs.length<=512:=by
 have h1:=zb (m:=List.range (2 ^ n)) h.2 λq hq=>bp.mpr (hL q hq);have:=Et hn;rw[h.len];simp at h1;omega
theorem Ky.keys{kvs:List (Key×D)}{L:List Nat}(h:Ky kvs L):(kvs.map (·.1)).map kD=(L.map λj:Nat=>(j:Int)).map .int:=by
 rw[h.1,bA,bA];rfl
theorem KO{L:List Nat}(hn:L.Nodup):∃S:List Nat,(J9 (L.map λj:Nat=>(j:Int))).map D.int=c6 S/\S.Pairwise (· < ·)/\(∀s,s∈S↔s∈L)/\S.length=L.length:=by
 have hp:=Y5 (L.map λj:Nat=>(j:Int));have hr:=Iz (L.map λj:Nat=>(j:Int));generalize J9 (L.map λj:Nat=>(j:Int))=Z at *;have hZ:(Z.map Int.toNat).Perm L:=by
  have:=hp.map Int.toNat;rw[bA] at this;have e:(Int.toNat ∘ λj:Nat=>(j:Int))=id:=by funext j;simp
  rw[e,List.map_id] at this;exact this
 have hE:(Z.map Int.toNat).map (λj:Nat=>(j:Int))=Z:=by
  rw[bA];have:∀x∈Z,((λj:Nat=>(j:Int)) ∘ Int.toNat) x=x:=λx hx=>by
   obtain⟨j,_,rfl⟩:=aT.mp (hp.mem_iff.mp hx);simp
  rw[jX this,List.map_id']
 refine⟨Z.map Int.toNat,?_,?_,λs=>hZ.mem_iff,hZ.length_eq⟩
 ·rw[c6,<- hE,bA,bA,bA,hE];refine jX λx hx=>?_;obtain⟨j,_,rfl⟩:=aT.mp (hp.mem_iff.mp hx);simp
 ·have nd:(Z.map Int.toNat).Nodup:=hZ.nodup_iff.mpr hn;have h2:(Z.map Int.toNat).Pairwise (·<=·):=by
   rw[gW];exact hr.imp λh=>Int.toNat_le_toNat h
  exact(h2.and nd).imp λh=>Nat.lt_of_le_of_ne h.1 h.2
def kW(g:G)(t:Nat)(F:Nat->List Nat)(P:Nat->Prop):Prop:=∃kvs L,g[t]?=some (.dg kvs)/\Ky kvs L/\(∀s,s∈L↔P s)/\∀s,P s->∃l,w6 kvs (kN s)=some (.ref l)/\g[l]?=some (.lst (c6 (F s)))
theorem kW.at{g g':G}{t:Nat}{F:Nat->List Nat}{P:Nat->Prop}(h:kW g t F P)(e:Ex g g'):kW g' t F P:=by
 obtain⟨kvs,L,h1,h2,h3,h4⟩:=h;exact⟨kvs,L,e.at h1,h2,h3,λs hs=>by obtain⟨l,q1,q4⟩:=h4 s hs;exact⟨l,q1,e.at q4⟩⟩
theorem kW.cg{g:G}{t:Nat}{F:Nat->List Nat}{P P':Nat->Prop}(h:kW g t F P)(e:∀s,P' s↔P s):kW g t F P':=by
 obtain⟨kvs,L,h1,h2,h3,h4⟩:=h;exact⟨kvs,L,h1,h2,λs=>(h3 s).trans (e s).symm,λs hs=>h4 s ((e s).mp hs)⟩
theorem Z2{g:G}{i j:Nat}{l:List D}{kvs:List (Key×D)}(h1:g[i]?=some (.lst l))(h2:g[j]?=some (.dg kvs)):j≠i:=λe=>by rw[e,h1] at h2;cases h2
theorem kW.xy{g:G}{t w:Nat}{F:Nat->List Nat}{P:Nat->Prop}{kw:List (Key×D)}{o:O}(h:kW g t F P)(hw:g[w]?=some (.dg kw))(ne:w≠t):kW (g.set w o) t F P:=by
 obtain⟨kvs,L,h1,h2,h3,h4⟩:=h;exact⟨kvs,L,d5 h1 ne,h2,h3,λs hs=>by obtain⟨l,q1,q4⟩:=h4 s hs;exact⟨l,q1,d5 q4 (Z2 q4 hw)⟩⟩
theorem kW.put{g:G}{t l r:Nat}{F:Nat->List Nat}{P:Nat->Prop}{kvs:List (Key×D)}(h:kW g t F P)(hk:g[t]?=some (.dg kvs))(hl:g[l]?=some (.lst (c6 (F r)))):kW (g.set t (.dg (putD kvs (kN r) (.ref l)))) t F (λs=>P s\/s=r):=by
 obtain⟨iQ,L,h1,h2,h3,h4⟩:=h;rw[hk] at h1;cases h1;obtain⟨L',k1,k2⟩:=h2.put r (.ref l);refine⟨_,L',get_set hk,k1,λs=>by rw[k2,h3],λs hs=>?_⟩;by_cases e:s=r
 ·subst e;exact⟨l,Hu,d5 hl (Z2 hl hk)⟩
 ·obtain⟨l',q1,q2⟩:=h4 s (hs.resolve_right e);exact⟨l',by rw[YN (KA λz=>e z.symm)];exact q1,d5 q2 (Z2 q2 hk)⟩
theorem take1{α:Type}{l:List α}{i:Nat}{x:α}(h:l[i]?=some x)(y:α):y∈l.take (i+1)↔y∈l.take i\/y=x:=by
 rw[bR,h];simp
theorem Dz{g g':G}{x:Nat}{o:O}(h:Ex g g')(hx:g.length<=x):Ex g (g'.set x o):=⟨by simp[h.len],λi hi=>by rw[ax (by omega)];exact h.old i hi⟩
theorem Kg{L:List Nat}{i:Nat}{x:D}(h:(c6 L)[i]?=some x):∃j,L[i]?=some j/\x=.int (j:Nat):=by
 rw[c6,ao,ae] at h;obtain⟨j,h1,h2⟩:=h;exact⟨j,h1,h2.symm⟩
section
variable{T:Nat->Option bq}{k d:Nat}{g g':G}{Q:KD}{E:KX}{a b c r:Nat}{cs:List b7}{rs:List gY}{v:Int}
theorem XH(hT:qe T)(vD:Ew T)(rA:T 149=some yK)(hB:∀c∈cs,CB c)(ha:g[a]?=some (.lst (cs.map b7.d)))(hz:cs.length<=9)(hc:g[c]?=some (.lst (u4 rs)))(hr:rs.length<=900)(h:∀g' t,Ex g g'->g.length<=t->kW g' t (pY cs v rs) (jR (pY cs v rs))->Q (.ref t) g'):d0 T (k+4) 149 [.ref a,.int v,.ref c] g Q E:=by
 refine call_of rA rfl ?_;dsimp[yK,d4,List.replicate];have nG:=Cn cs v rs;have p2:=Et hz;walk_at"";have e1:=Ex.snoc g (O.dg []);have t1:=b8 (g:=g) (o:=O.dg []);generalize g++[O.dg []]=g1 at *;have l1:=m8 t1;walk_at"";have e2:=e1.trans (Ex.snoc g1 (O.lst [.int 0]));have t2:=(Ex.snoc g1 (O.lst [.int 0])).at t1;have f2:=b8 (g:=g1) (o:=O.lst [.int 0]);generalize g1++[O.lst [.int 0]]=g2 at *;generalize g1.length=f at *;refine z9 (b0 T _) (V1 (b0 T _) ?_);walk_at"";refine K0 (a9 (e2.at ha)) ?_;walk_at"";rw[ai];generalize Bb:pY cs v rs=F at *;refine⟨by omega,by omega,i8 0 (cs.length+1),λi σ g'=>Ex g g'/\kW g' g.length F (λs=>∃j,j<i/\Lay F j s)/\∃fr Fr z5 z6 z7 z8,g'[fr]?=some (.lst (c6 Fr))/\g.length<=fr/\(∀s,s∈Fr↔Lay F i s)/\σ=[some (.ref a),some (.int v),some (.ref c),some (.ref g.length),some (.ref fr),z5,z6,z7,z8],λ_ _ _ _=>s9,⟨e2,⟨[],[],t2,⟨rfl,oo⟩,λs=>by simp,λs hs=>by obtain⟨j,hj,_⟩:=hs;omega⟩,f,[0],none,none,none,none,f2,by omega,λs=>by simp[Lay],rfl⟩,λi x σ g' hx q=>?_,λσ g' q=>?_⟩
 ·obtain⟨e3,T3,fr,Fr,z5,z6,z7,z8,F3,lf,pL,rfl⟩:=q;obtain⟨hi,rfl⟩:=x6 hx;refine l6 ?_
  try show wpS _ _ _ _ _ _
  walk_at"";have e4:=e3.trans (Ex.snoc g' (O.dg []));have T4:=T3.at (Ex.snoc g' (O.dg []));have F4:=(Ex.snoc g' (O.dg [])).at F3;have w4:=b8 (g:=g') (o:=O.dg []);have lw:=e3.len;have nt:g'.length≠g.length:=λe=>by obtain⟨_,_,q,_⟩:=T3;have:=m8 q;omega
  generalize g'++[O.dg []]=g4 at *;generalize g'.length=wd at *;refine z9 (b0 T _) (ml (b0 T _) ?_);walk_at"";refine⟨_,_,rfl,a9 F4,c6 Fr,λm σ g'=>Ex g g'/\g'[fr]?=some (.lst (c6 Fr))/\kW g' g.length F (λs=>(∃j,j<i/\Lay F j s)\/s∈Fr.take m)/\(∃kvs W,g'[wd]?=some (.dg kvs)/\Ky kvs W/\∀s,s∈W↔∃r∈Fr.take m,∃p∈F r,s=r |||2 ^ p)/\∃z7 z8,σ=[some (.ref a),some (.int v),some (.ref c),some (.ref g.length),some (.ref fr),some (.int ((0:Int)+(i:Nat))),some (.ref wd),z7,z8],λ_ _ _ q=>p0 (a9 q.2.1),⟨e4,F4,T4.cg λs=>by simp,⟨[],[],w4,⟨rfl,oo⟩,λs=>by simp⟩,z7,z8,rfl⟩,λm x σ g' hx q=>?_,λσ g' q=>?_⟩
  ·obtain⟨e5,F5,T5,⟨kvs,W,w5,k5,hW⟩,z7,z8,rfl⟩:=q;obtain⟨r,vk,rfl⟩:=Kg hx;refine l6 ?_
   try show wpS _ _ _ _ _ _
   walk_at"";refine Xi (k:=k) hT vD hB (e5.at ha) hz (e5.at hc) hr λg6 l e6 ll h6=>?_;rw[Bb] at h6;have T6:=T5.at e6;obtain⟨kt,L6,vi,k6,Nt,_⟩:=id T6;have eA:∀s,((∃j,j<i/\Lay F j s)\/s∈Fr.take m)->s<2 ^ cs.length:=λs hs=>by
    rcases hs with⟨j,_,hj⟩|hs
    ·exact hj.qD.lt nG
    ·exact((pL s).mp (dw hs)).qD.lt nG
   have hk6:=k6.small hz λs hs=>eA s ((Nt s).mp hs);have MC:jR F r:=((pL r).mp (aN vk)).qD;walk_at"";refine DI vi rfl (by omega) ?_;walk_at"";have T7:=T6.put vi h6;have h7:(g6.set g.length (.dg (putD kt (kN r) (.ref l))))[l]?=some (.lst (c6 (F r))):=d5 h6 (Z2 h6 vi);have v7:(g6.set g.length (.dg (putD kt (kN r) (.ref l))))[g.length]?=some (.dg (putD kt (kN r) (.ref l))):=get_set vi;have e7:Ex g (g6.set g.length (.dg (putD kt (kN r) (.ref l)))):=Dz (e5.trans e6) (av _);have F7:(g6.set g.length (.dg (putD kt (kN r) (.ref l))))[fr]?=some (.lst (c6 Fr)):=d5 (e6.at F5) (Z2 (e6.at F5) vi);have w7:(g6.set g.length (.dg (putD kt (kN r) (.ref l))))[wd]?=some (.dg kvs):=d5 (e6.at w5) (cx nt);generalize g6.set g.length (.dg (putD kt (kN r) (.ref l)))=g7 at *;refine z9 (b0 T _) (ml (b0 T _) ?_);walk_at"";refine UX v7 rfl Hu ?_;refine⟨_,_,rfl,a9 h7,c6 (F r),λq σ g'=>Ex g g'/\g'[fr]?=some (.lst (c6 Fr))/\g'[l]?=some (.lst (c6 (F r)))/\kW g' g.length F (λs=>((∃j,j<i/\Lay F j s)\/s∈Fr.take m)\/s=r)/\(∃kvs W,g'[wd]?=some (.dg kvs)/\Ky kvs W/\∀s,s∈W↔(∃r∈Fr.take m,∃p∈F r,s=r |||2 ^ p)\/∃p∈(F r).take q,s=r |||2 ^ p)/\∃z8,σ=[some (.ref a),some (.int v),some (.ref c),some (.ref g.length),some (.ref fr),some (.int ((0:Int)+(i:Nat))),some (.ref wd),some (.int (r:Nat)),z8],λ_ _ _ q=>p0 (a9 q.2.2.1),⟨e7,F7,h7,T7,⟨kvs,W,w7,k5,λs=>by simp[hW]⟩,z8,rfl⟩,λq x σ g' hx q=>?_,λσ g' q=>?_⟩
   ·obtain⟨e8,F8,h8,T8,⟨FH,W8,w8,k8,xX⟩,z8,rfl⟩:=q;obtain⟨p,hp,rfl⟩:=Kg hx;have Ar:=nG r p (aN hp);refine l6 ?_
    try show wpS _ _ _ _ _ _
    walk_at"";refine a25 (k:=k+2) vD.rB (by omega) λg9 e9=>?_;walk_at"";have sW:=k8.small hz λs hs=>by
     rcases(xX s).mp hs with⟨r',eT,p',gJ,e⟩|⟨p',gJ,e⟩
     ·rw[e];exact(jR.step ((pL r').mp (dw eT)).qD gJ).lt nG
     ·rw[e];exact(jR.step MC (dw gJ)).lt nG
    have es:((r:Nat):Int)+((2 ^ p:Nat):Int)=((r |||2 ^ p:Nat):Int):=by rw[QG Ar.2];omega
    rw[es];refine DI (e9.at w8) rfl (by omega) ?_;walk_at"";obtain⟨W9,k9,Nk⟩:=k8.put (r |||2 ^ p) (.bl true);refine⟨Dz (e8.trans e9) lw,d5 (e9.at F8) (Z2 (e9.at F8) (e9.at w8)),d5 (e9.at h8) (Z2 (e9.at h8) (e9.at w8)),(T8.at e9).xy (e9.at w8) nt,⟨_,W9,get_set (e9.at w8),k9,λs=>?_⟩,_,rfl⟩;rw[Nk,xX];constructor
    ·rintro((z|⟨p',gJ,e⟩)|e)
     ·exact .inl z
     ·exact .inr ⟨p',(take1 hp p').mpr (.inl gJ),e⟩
     ·exact .inr ⟨p,(take1 hp p).mpr (.inr rfl),e⟩
    ·rintro(z|⟨p',gJ,e⟩)
     ·exact .inl (.inl z)
     ·rcases(take1 hp p').mp gJ with z|rfl
      ·exact .inl (.inr ⟨p',z,e⟩)
      ·exact .inr e
   ·obtain⟨e8,F8,h8,T8,⟨FH,W8,w8,k8,xX⟩,z8,rfl⟩:=q
    try show wpS _ _ _ _ _ _
    walk_at"";refine⟨e8,F8,T8.cg λs=>?_,⟨FH,W8,w8,k8,λs=>?_⟩,_,_,rfl⟩
    ·rw[take1 vk];exact or_assoc.symm
    ·rw[xX,show(F r).take (c6 (F r)).length=F r from cW (by simp[c6])];constructor
     ·rintro(⟨r',eT,z⟩|z)
      ·exact⟨r',(take1 vk r').mpr (.inl eT),z⟩
      ·exact⟨r,(take1 vk r).mpr (.inr rfl),z⟩
     ·rintro⟨r',eT,z⟩;rcases(take1 vk r').mp eT with y|rfl
      ·exact .inl ⟨r',y,z⟩
      ·exact .inr z
  ·obtain⟨e5,F5,T5,⟨kvs,W,w5,k5,hW⟩,z7,z8,rfl⟩:=q;rw[show Fr.take (c6 Fr).length=Fr from cW (by simp[c6])] at T5 hW;have sW:=k5.small hz λs hs=>by
    obtain⟨r',eT,p',gJ,e⟩:=(hW s).mp hs;rw[e];exact(jR.step ((pL r').mp eT).qD gJ).lt nG
   try show wpS _ _ _ _ _ _
   walk_at"";refine KG w5 (by omega) ?_;rw[k5.keys];have e6:=Ex.snoc g' (O.lst ((W.map λj:Nat=>(j:Int)).map .int));have h6:=b8 (g:=g') (o:=O.lst ((W.map λj:Nat=>(j:Int)).map .int));generalize g'++[O.lst ((W.map λj:Nat=>(j:Int)).map .int)]=g6 at *;refine JK (a9 h6) (by rw[ai,<- k5.len];omega) ?_;obtain⟨S,s1,s2,s3,s4⟩:=KO k5.2;rw[s1];walk_at"";refine⟨(e5.trans e6).trans (Ex.snoc _ _),((T5.at e6).at (Ex.snoc _ _)).cg λs=>?_,_,S,_,_,_,_,b8,(e5.trans e6).len,λs=>?_,rfl⟩
   ·rw[pL];constructor
    ·rintro⟨j,hj,z⟩;by_cases e:j=i
     ·subst e;exact .inr z
     ·exact .inl ⟨j,by omega,z⟩
    ·rintro(⟨j,hj,z⟩|z)
     ·exact⟨j,by omega,z⟩
     ·exact⟨i,by omega,z⟩
   ·rw[s3,hW];constructor
    ·rintro⟨r',eT,p',gJ,e⟩;exact⟨r',p',(pL r').mp eT,gJ,e⟩
    ·rintro⟨r',p',eT,gJ,e⟩;exact⟨r',(pL r').mpr eT,p',gJ,e⟩
 ·obtain⟨e3,T3,fr,Fr,z5,z6,z7,z8,F3,lf,pL,rfl⟩:=q
  try show wpS _ _ _ _ _ _
  walk_at"";refine h _ _ e3 (av _) (T3.cg λs=>⟨λz=>?_,λz=>?_⟩)
  ·obtain⟨i,hi⟩:=TC z;exact⟨i,by rw[j9];have:=hi.le nG;omega,hi⟩
  ·obtain⟨j,_,hj⟩:=z;exact hj.qD
end
def CI:bq:=⟨3,3,(.seq (.ret (.call 117 (fP (.call 99 (iD aM bx bG))))) .pass)⟩
def Er:bq:=⟨1,9,(.seq (.set 1 (.call 3 (fP aM))) (.seq (.dX (.one 2) (.eG (bo 2)) (.seq (.lZ (.many [3,4,5]) (.call 110 (eE bx (da (cc .tup (bo 9) (bo 6)) bG)))) (.seq (.set 6 (dY .jK (dY .list (.call 149 (iD cv dI fC))))) (.seq (.dX (.one 7) (.eG (bo 2)) (.seq (.set 8 (.call 120 (iD (dY .list cv) dI (dY .list fC)))) (.seq (.ifs (.fe (.fT (.call 7 (eE kK fO)))) (.seq (.ret (.lit (.bl false))) .pass) .pass) (.seq (.expr (.ff .append kK (fP (bo 1)))) .pass)))) .pass)))) (.seq (.ret (.lit (.bl true))) .pass)))⟩
structure T13(T:Nat->Option bq):Prop where
 tb:TB T
 mJ:qe T
 tf:TF T
 Lz:Ew T
 h3:T 3=some yx
 h6:T 6=some wR
 h7:T 7=some C1
 NN:T 11=some Er
 rD:T 117=some F9
 Bk:T 120=some CI
 rA:T 149=some yK
theorem TH:∀{l m:List Nat},l.Pairwise (· < ·)->m.Pairwise (· < ·)->(∀s,s∈l↔s∈m)->l=m:=by
 intro l m h1 h2 h3;have hp:l.Perm m:=(om (h1.imp λh=>aK h) (h2.imp λh=>aK h)).mpr h3;have:=S4 (hp.map λj:Nat=>(j:Int)) (by rw[gW];exact h1.imp λh=>by omega) (by rw[gW];exact h2.imp λh=>by omega);have e:=fx (List.map Int.toNat) this;simpa[List.map_map,Function.comp_def] using e
section
variable{T:Nat->Option bq}{k d:Nat}{g g':G}{Q:KD}{E:KX}{a b c r w:Nat}{cs:List b7}{rs:List gY}{v:Int}
theorem a45(hT:T13 T){ns:List Int}:d0 T (k+12) 11 [.ref 0] [.oJ (ns.map .int)] (λd _=>d=.bl true) jS:=by
 refine call_of hT.NN rfl ?_;dsimp[Er,d4,List.replicate];walk_at"";refine Tb (k:=k+10) hT.h3 (a:=0) (ns:=ns) rfl λd g D0 _ _=>?_;walk_at"";refine Ib (n:=2) (by decide) (λi σ g=>i9 g d/\∃z2 z3 z4 z5 z6 z7 z8,σ=[some (.ref 0),some (.ref d),z2,z3,z4,z5,z6,z7,z8]) ⟨D0,none,none,none,none,none,none,none,rfl⟩ (λi σ g hi p=>?_) (λσ g p=>?_)
 ·obtain⟨D1,z2,z3,z4,z5,z6,z7,z8,rfl⟩:=p;have dl:=D1.lt
  try show wpS _ _ _ _ _ _
  walk_at"";have hn:∃n:Int,gz [D.int 9,D.int 6] (i:Int)=some (.int n)/\0<=n/\n<=9:=by
   have:i=0\/i=1:=by omega
   rcases this with rfl|rfl
   ·exact⟨9,rfl,by decide,by decide⟩
   ·exact⟨6,rfl,by decide,by decide⟩
  obtain⟨n,hn,n1,n2⟩:=hn;refine u9 hn ?_;walk_at"";refine a15 (k:=k+6) hT.mJ hT.mJ.rF ⟨n1,n2⟩ D1 λcs rs a c v g2 hl hG ha xU hr hR hc kq hac v1 v2 D2 G2=>?_;refine B5 rfl ?_
  try show wpS _ _ _ _ _ _
  have hz:cs.length<=9:=by omega
  have hB:∀c∈cs,CB c:=λc hc=>⟨(hG c hc).l8,(hG c hc).u8⟩
  have hg:cs.all v5=true:=cQ.mpr λc hc=>(hG c hc).good;walk_at"";refine XH (k:=k+7) (v:=v) hT.mJ hT.Lz hT.rA hB ha hz hc (by omega) λg3 t e3 _ T3=>?_;obtain⟨kvs,L,t3,k3,hL,_⟩:=T3;have sW:=k3.small hz λs hs=>((hL s).mp hs).lt (Cn cs v rs);walk_at"";refine KG t3 (by omega) ?_;rw[k3.keys];have e4:=e3.trans (Ex.snoc g3 (O.lst ((L.map λj:Nat=>(j:Int)).map .int)));have h4:=b8 (g:=g3) (o:=O.lst ((L.map λj:Nat=>(j:Int)).map .int));generalize g3++[O.lst ((L.map λj:Nat=>(j:Int)).map .int)]=g4 at *;refine JK (a9 h4) (by rw[ai,<- k3.len];omega) ?_;obtain⟨S,s1,s2,s3,s4⟩:=KO k3.2;rw[s1];have e5:=e4.trans (Ex.snoc g4 (O.lst (c6 S)));have h5:=b8 (g:=g4) (o:=O.lst (c6 S));generalize g4++[O.lst (c6 S)]=g5 at *;generalize g4.length=du at *;have D5:=e5.draw D2;have a5:=e5.at ha;have c5:=e5.at hc;walk_at"";refine Ib (n:=2) (by decide) (λj σ g'=>Ex g5 g'/\∃z7 z8,σ=[some (.ref 0),some (.ref d),some (.int i),some (.ref a),some (.int v),some (.ref c),some (.ref du),z7,z8]) ⟨Ex.refl _,_,_,rfl⟩ (λj σ g6 hj p=>?_) (λσ g6 p=>?_)
  ·obtain⟨e6,z7,z8,rfl⟩:=p
   try show wpS _ _ _ _ _ _
   walk_at""
   try refine yu (a9 (e6.at a5)) ?_
   walk_at"";have e7:=e6.trans (Ex.snoc g6 (O.lst (cs.map b7.d)));have a7:=b8 (g:=g6) (o:=O.lst (cs.map b7.d));generalize g6++[O.lst (cs.map b7.d)]=g7 at *
   try refine yu (a9 (e7.at c5)) ?_
   walk_at"";have e8:=e7.trans (Ex.snoc g7 (O.lst (u4 rs)));have c8:=b8 (g:=g7) (o:=O.lst (u4 rs));have a8:=(Ex.snoc g7 (O.lst (u4 rs))).at a7;generalize g7++[O.lst (u4 rs)]=g8 at *;refine call_of hT.Bk rfl ?_;dsimp[CI,d4,List.replicate];walk_at"";refine ZQ (k:=k) hT.tb a8 hz hg hB ⟨v1,by omega⟩ c8 (by omega) hR λg9 b e9 _ B=>?_;walk_at"";refine Zx (k:=k+4) hT.tb hT.tf hT.rD B hz (by omega) λM f Bv oT hf hM m1 m2 m3=>?_;walk_at"";have eM:M=S:=TH m1 s2 λs=>by rw[m2,s3,hL]
   subst eM;have vT:=e8.trans (e9.trans oT);refine Ys hT.h6 hT.h7 1 (k:=k+8) (Yr hM (vT.at h5) (λx hx=>by obtain⟨i,_,rfl⟩:=aT.mp hx;exact .inl ⟨_,rfl⟩) (by simp[c6];omega)) λNZ yh=>?_;walk_at"";have vF:=yh.at hM
   try refine⟨W5 vF,?_⟩
   walk_at"";refine O8 vF (by simp[c6];omega) ?_;walk_at"";exact⟨Dz (vT.trans yh) (by have:=(e8.trans e9).len;omega),_,_,rfl⟩
  ·obtain⟨e6,z7,z8,rfl⟩:=p
   try show wpS _ _ _ _ _ _
   try walk_at""
   exact⟨e6.draw D5,_,_,_,_,_,_,_,rfl⟩
 ·obtain⟨D1,z2,z3,z4,z5,z6,z7,z8,rfl⟩:=p
  try show wpS _ _ _ _ _ _
  walk_at""
  rfl
end
end M

namespace Lk
open PySem L2 M
def top(i:Nat):Stmt:=PySem.Challenge.pw_trussel_k13_stands_reached.main.body.getD i (.Pass ⟨0,0,0,0⟩)
def Sw:Stmt->List Stmt
 |.ClassDef (body:=b) ..=>b
 |_=>[]
def Hg(i j:Nat):Stmt:=(Sw (top i)).getD j (.Pass ⟨0,0,0,0⟩)
def F:List RF:=[⟨38,"is_number",["thing"],1,9,CW⟩,⟨1,"number_from",["number","least","most"],3,10,U3⟩,⟨2,"good_marks",["marks","least","spot"],1,11,G0⟩,⟨15,"within",["one","other"],2,12,yZ⟩,⟨12,"good_coin",["coin","lower","lower_marks","upper","upper_marks","year","good_lower","good_upper"],1,19,B0⟩,⟨39,"check_coin",["coin"],1,20,Dh⟩,⟨18,"check_coins",["coins","coin"],1,21,U6⟩,⟨40,"check_side",["side"],1,22,P0⟩,⟨19,"die_field",["side"],1,23,CU⟩,⟨74,"places_of",["coins","word","thing","field"],3,24,T1⟩,⟨20,"dies_of",["coins","side","field"],2,25,Cs⟩,⟨42,"check_anvils",["anvils"],1,30,E6⟩,⟨88,"good_rule",["coins","rule","word","one","other"],2,31,CV⟩,⟨89,"check_rules",["coins","rules","at","rule"],2,32,U5⟩,⟨90,"stand_of",["places"],1,33,Z4⟩,⟨91,"with_coin",["stand","place"],2,34,S7⟩,⟨92,"more_worn",["one","other","side","field"],2,35,CY⟩,⟨93,"later",["one","other"],2,36,Eb⟩,⟨94,"worn_stands",["coins"],1,37,U2⟩,⟨95,"later_stands",["coins"],1,38,Q9⟩,⟨96,"die_stands",["coins"],1,39,Di⟩,⟨97,"needed_stands",["coins","rules","needed","word","one","other","first","place"],2,40,O1⟩,⟨98,"check_asked",["coins","anvils","rules"],3,42,M7⟩,⟨99,"bounds_of",["coins","anvils","rules"],3,43,CT⟩,⟨100,"dies_in_use",["bounds","stand","place","struck","left"],3,44,Z9⟩,⟨101,"next_fault",["bounds","stand","place"],3,45,Z5⟩,⟨115,"follows",["bounds","stand","place"],3,47,Z7⟩,⟨116,"followers",["bounds","stand"],2,48,Z8⟩,⟨117,"reached_stands",["bounds","led_to","told","stand","place"],1,49,F9⟩,⟨120,"reached",["coins","anvils","rules"],3,50,CI⟩,⟨3,"_law_open",["_law_script"],1,52,yx⟩,⟨4,"_law_pull",["_law_draw","_law_total_of","_law_cell","_law_got","_law_seed"],2,53,E4⟩,⟨6,"_law_num",["_law_found"],1,54,wR⟩,⟨7,"_law_like",["_law_found","_law_due"],2,55,C1⟩,⟨21,"_law_order_of",["_law_draw","_law_numbers","_law_left","_law_found","_law_step"],2,56,Q8⟩,⟨17,"_law_within",["_law_one","_law_other"],2,57,Z6⟩,⟨22,"_law_any_coin",["_law_draw","_law_menu","_law_lower","_law_upper","_law_year"],1,58,zh⟩,⟨23,"_law_seated",["_law_draw","_law_seats","_law_fresh","_law_anvils"],4,59,F6⟩,⟨24,"_law_struck",["_law_draw","_law_size","_law_anvils","_law_seats","_law_fresh","_law_worn","_law_year","_law_step","_law_wear","_law_shift","_law_found","_law_k","_law_keys","_law_key","_law_spot","_law_named","_law_told_year"],3,60,F2⟩,⟨25,"_law_opened",["_law_draw","_law_size","_law_dies","_law_row","_law_held","_law_found","_law_k","_law_year"],2,61,yY⟩,⟨26,"_law_list",["_law_draw","_law_most","_law_size","_law_anvils","_law_way","_law_found","_law_at","_law_coin","_law_other"],2,62,O9⟩,⟨105,"_law_rule",["_law_draw","_law_coins","_law_word","_law_some","_law_at"],2,63,tX⟩,⟨106,"_law_rules",["_law_draw","_law_coins","_law_found","_law_k","_law_rule_here"],2,64,Ec⟩,⟨107,"_law_rule_kept",["_law_coins","_law_ahead","_law_place","_law_rule_here","_law_word","_law_one","_law_other","_law_at"],4,65,CZ⟩,⟨108,"_law_fault",["_law_coins","_law_anvils","_law_rules_here","_law_ahead","_law_place","_law_coin","_law_there_here","_law_at","_law_here","_law_later"],5,66,wH⟩,⟨146,"_law_there",["_law_stand","_law_size"],2,67,yL⟩,⟨147,"_law_power",["_law_place"],1,68,yI⟩,⟨148,"_law_following",["_law_coins","_law_anvils","_law_rules_here","_law_stand","_law_there_here","_law_found","_law_place"],4,69,U4⟩,⟨149,"_law_table",["_law_coins","_law_anvils","_law_rules_here","_law_table_here","_law_front","_law_step","_law_wider","_law_stand","_law_place"],3,70,yK⟩,⟨110,"_law_ready",["_law_draw","_law_most","_law_coins","_law_anvils"],2,71,yJ⟩,⟨11,"law",["_law_script","_law_draw","_law_turn","_law_coins","_law_anvils","_law_rules_here","_law_due","_law_step","_law_found"],1,72,Er⟩]
def Ms:List RM:=[⟨113,"Bounds","__init__","Bounds.__init__",["self","coins","anvils","rules"],4,41,0,U7⟩]
def con:List (Str×D):=[("LAST_SPOT",.int 7),("MOST_COINS",.int 9),("LAST_DIE",.int 99),("LAST_YEAR",.int 9999),("SIDES",.tup [(.str "lower"),(.str "upper")]),("MOST_ANVILS",.int 9),("RULE_WORDS",.tup [(.str "coin"),(.str "lower"),(.str "upper")]),("YEAR_FIELD",.int 4)]
def gd:List (Str×List D):=[("DIE_FIELDS",[.tup [.str "lower",.int 0],.tup [.str "upper",.int 2]])]
def exc:List Str:=["BadAnvils","BadCoin","BadRule","BadSide","TooMany"]
def c0:i0:=⟨[],[],true,F.map λr=>(r.nm,r.id),con,["len","enumerate","list","tuple","isinstance","all","range","int","bool","str","max","min","sorted","set","sum"],exc,gd,[("Bounds",113)],Ms.map λr=>(r.nm,r.cl,r.id),[("size","Bounds"),("full","Bounds"),("room","Bounds"),("worn_by_place","Bounds"),("later_by_place","Bounds"),("lower_dies","Bounds"),("needed_by_place","Bounds")],true,true⟩
noncomputable abbrev T:Nat->Option bq:=tQ F Ms
theorem tx:lP c0 F Ms top Hg:=by
 refine⟨rfl,rfl,by decide +kernel,by decide +kernel,by decide +kernel,by decide +kernel,?_,?_,?_,?_⟩
 all_goals
  repeat first
   |exact BF.nil
   |exact BM.nil
   |exact YF.nil
   |exact YM.nil
   |refine YF.cons (by kernel_rfl) ?_
   |refine YM.cons (by kernel_rfl) ?_
   |refine BF.cons (λ_ _ _ _ _ _=>(by(repeat refine ES λ_=>?_);exact ER rfl)) ?_
   |refine BM.cons (λ_ _ _ _ _ _=>(by(repeat refine ES λ_=>?_);exact ER rfl)) ?_
inductive tL:List DictEntry->List (Str×V)->Prop
 |nil:tL [] []
 |cons {h:Int} {x:Str} {t:Tok} {u:Value} {v:V} {es:List DictEntry} {vs:List (Str×V)} (r:RelV v u) (q:tL es vs):tL (⟨h,.str x t,u⟩::es) ((x,v)::vs)
theorem tL.find{es vs}(x:Str)(h:tL es vs):F1 (vs.lookup x) (findBy Value.isStrOf es.toArray x):=by
 induction h with
 |nil=>trivial
 |cons r q ih =>
  rename_i h y t u v es vs;unfold findBy at ih ⊢;rw[List.find?_toArray] at ih ⊢;rw[fg,cP];by_cases e:x=y
  ·rw[show(x==y)=true from by simp[e],show Value.isStrOf x (.str y t)=true from by simp[Value.isStrOf,e]];exact r
  ·rw[show(x==y)=false from by simpa using e,show Value.isStrOf x (.str y t)=false from by simp[Value.isStrOf];exact λz=>e (z.symm)];exact ih
theorem all_mk{l:PySem.W.OpenLaw}{w:World}{K:PySem.W.Frag}{h:Heap}{mg:Str->Option Value}{fa:Addr}{BS BR yb:Addr}{t0 t1 t2 t3 wa vZ t5 vY vX vW t7 pQ pP pO pN:Tok}{BK:Array (Option Value)}{BN:Nat}{BJ:Array (Option Value)}{BL:Nat}{NT:Nat}{nJ nH:Int}(X:K.In h)(G:h.Ns mainGlobals mg)(MX:mg "law"=some (.ref fa))(I:lQ K c0 F Ms top Hg)(e0:PySem.W.nsIn K mainGlobals "LAST_SPOT"=some (some (Value.int 7 t0)))(e1:PySem.W.nsIn K mainGlobals "MOST_COINS"=some (some (Value.int 9 t1)))(e2:PySem.W.nsIn K mainGlobals "LAST_DIE"=some (some (Value.int 99 t2)))(e3:PySem.W.nsIn K mainGlobals "LAST_YEAR"=some (some (Value.int 9999 t3)))(e4:PySem.W.nsIn K mainGlobals "SIDES"=some (some (.ref BS)))(OE:K.lookup BS=some ⟨.type "tuple",none,.seq #[Value.str "lower" wa,Value.str "upper" vZ] BN,BK⟩)(e5:PySem.W.nsIn K mainGlobals "MOST_ANVILS"=some (some (Value.int 9 t5)))(e6:PySem.W.nsIn K mainGlobals "RULE_WORDS"=some (some (.ref BR)))(OD:K.lookup BR=some ⟨.type "tuple",none,.seq #[Value.str "coin" vY,Value.str "lower" vX,Value.str "upper" vW] BL,BJ⟩)(e7:PySem.W.nsIn K mainGlobals "YEAR_FIELD"=some (some (Value.int 4 t7)))(g0:PySem.W.nsIn K mainGlobals "DIE_FIELDS"=some (some (.ref yb)))(NW:K.lookup yb=some ⟨.type "dict",none,.dict #[⟨nJ,Value.str "lower" pQ,Value.int 0 pP⟩,⟨nH,Value.str "upper" pO,Value.int 2 pN⟩] NT,#[]⟩)(qJ:nJ=PyData.keyHash w.params "lower")(qI:nH=PyData.keyHash w.params "upper")(NS:(yb==sysModules)=false)
  : ∃fd:FuncData,(∀(s:Shared) (v:Value),BindsTo s fd ⟨[v],[]⟩ [("_law_script",v)])/\∀base:Heap,K.In base->base.Ns mainGlobals mg->iU l.prog w K mg base (jG l.prog w) 80 fa fd ["_law_script"] (pq exc K 1 (d0 T 40 11)):=by
 have A:nN w K mg c0 T:=by
  refine RZ I tx X G (λx d hx=>?_) (λx kvs hx=>?_)
  ·have hm:=aQ hx;simp only[c0,con,List.mem_cons,List.mem_nil_iff,or_false] at hm;rcases hm with z|z|z|z|z|z|z|z
   ·cases z;exact⟨(.int 7),_,bT X G e0,⟨_,rfl⟩,λ_ _=>.int _⟩
   ·cases z;exact⟨(.int 9),_,bT X G e1,⟨_,rfl⟩,λ_ _=>.int _⟩
   ·cases z;exact⟨(.int 99),_,bT X G e2,⟨_,rfl⟩,λ_ _=>.int _⟩
   ·cases z;exact⟨(.int 9999),_,bT X G e3,⟨_,rfl⟩,λ_ _=>.int _⟩
   ·cases z;exact⟨.ref BS,_,bT X G e4,rfl,λ_ _=>.tup (vs:=[.str "lower",.str "upper"]) (.inr ⟨_,_,_,OE,rfl,rfl,rfl,(by show 2<=sizeLine;decide),.cons ⟨_,rfl⟩ (.cons ⟨_,rfl⟩ (.nil))⟩) (.cons (.str _) (.cons (.str _) (.nil)))⟩
   ·cases z;exact⟨(.int 9),_,bT X G e5,⟨_,rfl⟩,λ_ _=>.int _⟩
   ·cases z;exact⟨.ref BR,_,bT X G e6,rfl,λ_ _=>.tup (vs:=[.str "coin",.str "lower",.str "upper"]) (.inr ⟨_,_,_,OD,rfl,rfl,rfl,(by show 3<=sizeLine;decide),.cons ⟨_,rfl⟩ (.cons ⟨_,rfl⟩ (.cons ⟨_,rfl⟩ (.nil)))⟩) (.cons (.str _) (.cons (.str _) (.cons (.str _) (.nil))))⟩
   ·cases z;exact⟨(.int 4),_,bT X G e7,⟨_,rfl⟩,λ_ _=>.int _⟩
  ·have hm:=aQ hx;simp only[c0,gd,List.mem_cons,List.mem_nil_iff,or_false] at hm;have z:=hm
   ·cases z;have er:tL [⟨nJ,Value.str "lower" pQ,Value.int 0 pP⟩,⟨nH,Value.str "upper" pO,Value.int 2 pN⟩] [("lower",.int 0),("upper",.int 2)]:=.cons (v:=.int 0) ⟨_,rfl⟩ (.cons (v:=.int 2) ⟨_,rfl⟩ (.nil));exact⟨yb,_,bT X G g0,⟨_,_,NW,⟨⟨_,_,rfl,qJ⟩,⟨⟨_,_,rfl,qI⟩,True.intro⟩⟩,NS,λx=>er.find x⟩,.cons (λ_ _=>.int _) (.cons (λ_ _=>.int _) (.nil))⟩
 obtain⟨f,fd,O,a,t⟩:=JS I tx _ (aN (i:=50) rfl);cases MX.symm.trans (bT X G a);obtain⟨oc,od,kV,doc,pm,an,fW,ct,mL,rfl,lk,mq⟩:=O.fn.ex;exact⟨_,λs v=>.of_eq rfl,λbase nW vO=>Pu nW vO A 40 11 _ _ fa _ rfl O⟩
theorem walk{l:PySem.W.OpenLaw}{q:Program}{loose:List Str}{XP:(Str->Option Value)->Heap->Prop}{YP:World->Heap->Prop}{d:DefRec}{K:Params->PySem.W.Frag}(hn:l.most=some 63)(vx:d.params.defaults=[])(hY:∀(w:World) (h:Heap),YP w h->(K w.params).In h)(F:∀ (w:World) (mg:Str->Option Value) (fa:Addr) (h:Heap),(K w.params).In h->h.Ns mainGlobals mg->mg d.name=some (.ref fa) ->
   ∃ fd:FuncData,(∀ (s:Shared) (u:Value),BindsTo s fd ⟨[u],[]⟩ [("_law_script",u)])/\∀ base:Heap,(K w.params).In base->base.Ns mainGlobals mg->iU l.prog w (K w.params) mg base (jG l.prog w) 80 fa fd ["_law_script"] (pq exc (K w.params) 1 (d0 T 40 11))) :
  PySem.W.WalkO q loose XP YP l.row.toRowW d [] (λf vs=>PySem.call f vs) :=
 L2.Uu (n:=63) (k:=80) (x:="_law_script") (CX:=λw=>jG l.prog w) (sp:=λw=>pq exc (K w.params) 1 (d0 T 40 11)) hn (by decide) vx ⟨rfl,by decide,by decide⟩ hY F (λw H a ns hl hO hS=>Qh hO hS (a45 (k:=28) ⟨⟨⟨⟨rfl,rfl⟩,rfl,rfl,⟨rfl,rfl⟩,⟨rfl,rfl⟩,rfl,rfl,rfl,rfl,rfl,rfl,rfl,rfl,rfl,rfl,rfl,rfl,rfl,rfl,rfl,rfl⟩,rfl,rfl,rfl⟩,⟨⟨⟨rfl,rfl,rfl,rfl,rfl,rfl,rfl⟩,rfl,rfl⟩,rfl,rfl,rfl,rfl⟩,⟨rfl,rfl⟩,⟨rfl,rfl,rfl⟩,rfl,rfl,rfl,rfl,rfl,rfl,rfl⟩)) λ_ _ _ _ _ ⟨_,_,_,_,_,_,_,z⟩=>z
end Lk
end _X
open _X
open PySem PySem.W PyProof.Rows
set_option maxRecDepth 100000 in
set_option maxHeartbeats 0 in
theorem PySem.Challenge.cw_trussel_k13_stands_reached_holds : PySem.Challenge.rw_trussel_k13_stands_reached.Holds := by
 w_on;o_law;k_head;(case hw=>w_witness2)
 k_fill
 refine Lk.walk (l:=PySem.Challenge.rw_trussel_k13_stands_reached) rfl rfl (fun w h Y=>PySem.W.kIn_of Y) ?F
 case F =>
  intro w mg fa h KX G hmg
  refine' Lk.all_mk KX G hmg ⟨?zz1,?zz2,?zz3,?zz4,?zz5,?zz6,?zz7⟩ ?_ ?_ ?_ ?_ ?_ ?_ ?_ ?_ ?_ ?_ ?_ ?_ ?_ ?_ ?_
  (case zz1=>repeat' first | (with_reducible show _=_;k_is) | exact M.PF.nil | apply M.PF.cons)
  (case zz2=>repeat' first | (with_reducible show _=_;k_is) | exact M.PM.nil | apply M.PM.cons)
  (case zz3=>repeat' first | (with_reducible show _=_;k_is) | exact M.PC.nil | apply M.PC.cons)
  (case zz4=>repeat' first | (with_reducible show _=_;k_is) | exact M.PA.nil | apply M.PA.cons)
  (case zz5=>repeat' first | (with_reducible show _=_;k_is) | exact M.PB.nil | apply M.PB.cons)
  (case zz6=>repeat' first | (with_reducible show _=_;first | (with_reducible show PySem.W.excIn _ _ _ _=true;k_exc) | k_is) | exact M.PX.nil | apply M.PX.cons)
  (case zz7=>kernel_rfl)
  all_goals try (with_reducible show _=_;k_is)
  all_goals try ((with_reducible show _=_);rfl)
#print axioms PySem.Challenge.cw_trussel_k13_stands_reached_holds
