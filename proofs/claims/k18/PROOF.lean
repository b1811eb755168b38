import PyProof.Rows.All
import Wide.All
import OpenK.AllK
import Wide.FinOn
import Lean
import PyProof.EqAt
import PyProof.EqKinds
import PyProof.TupleCall
import PySem.Challenge.RW_trussel_k18_whole_names_and_places
set_option Elab.async false
set_option linter.all false
set_option maxRecDepth 100000
set_option maxHeartbeats 4000000
local macro_rules|`(def $i:declId $s:optDeclSig $v:declVal)=>`(noncomputable def $i:declId $s:optDeclSig $v:declVal)
def EK:=@PySem.wpAny_binaryOp_repeat_ref
def EL:=@PySem.W.hideAll_get
def EM:=@List.mergeSort_perm
def EN:=@List.length_pos_iff
def EO:=@List.flatMap_append
def ER:=@List.filter_sublist
def Mp:=@PySem.wpAny_newList
def Mq:=@PySem.W.of_hideAll
def Mr:=@PySem.W.kitx_tuple
def Mt:=@PySem.W.callWith_K
def Mu:=@Nat.mod_lt
def Mv:=@Int.natCast_nonneg
def Mw:=@Int.natAbs_natCast
def Mx:=@Array.append_assoc
def aA:=@List.getElem?_append_left
def aD:=@if_neg
def aE:=@Nat.le_trans
def aF:=@decide_eq_true
def aG:=@List.size_toArray
def aH:=@List.mem_range
def aI:=@List.mem_cons
def aJ:=@List.mem_of_getElem?
def aK:=@if_pos
def aL:=@decide_eq_false
def aM:=@List.mem_map
def aN:=@Nat.ne_of_lt
def aO:=@Option.some.inj
def aQ:=@PySem.mem_of_lookup
def aR:=@List.mem_singleton
def aT:=@List.mem_filter
def aU:=@Bool.and_eq_true
def aV:=@List.mem_append
def aX:=@List.getElem?_set_self
def aY:=@List.length_append
def aa:=@Option.map_eq_some_iff
def ae:=@PySem.wpAny_bind
def ag:=@List.length_map
def ah:=@List.getElem?_eq_getElem
def ai:=@List.getElem?_map
def aj:=@List.getElem?_eq_some_iff
def ak:=@Option.bind_eq_some_iff
def ao:=@PySem.Heap.get?_push_of_some
def au:=@PySem.wpAny_pure
def av:=@Nat.le_refl
def aw:=@List.getElem?_set_ne
def ax:=@PySem.Heap.lt_size
def ay:=@Nat.lt_of_lt_of_le
def az:=@PySem.Heap.get?_push_size
def bA:=@decide_eq_decide
def bB:=@List.getElem?_append_right
def bC:=@List.getD_eq_getElem?_getD
def bD:=@List.mem_append_left
def bE:=@Nat.ne_of_gt
def bG:=@Bool.false_ne_true
def bH:=@List.map_append
def bI:=@PySem.wpAny_mono
def bJ:=@List.take_length
def bK:=@List.any_eq_true
def bN:=@PyProof.Rows.callWith_type1
def bO:=@Int.toNat_natCast
def bP:=@PySem.wpAny_holding
def bS:=@PyProof.Rows.slot_tuple_getitem
def bT:=@Ne.symm
def bV:=@PySem.wpAny_newObj_type
def bW:=@List.mem_cons_of_mem
def bX:=@PySem.W.mg_of
def bY:=@PySem.W.kia_one
def ba:=@List.getElem?_eq_none
def bc:=@Bool.eq_iff_iff
def bg:=@List.map_cons
def bj:=@of_decide_eq_true
def bo:=@List.all_eq_true
def bq:=@List.mem_append_right
def br:=@PySem.Heap.get?_update_self
def bu:=@List.map_map
def bw:=@Nat.lt_irrefl
def bx:=@List.take_succ
def bz:=@Array.length_toList
def cA:=@List.length_filter_le
def cF:=@List.append_nil
def cG:=@PySem.Heap.SameBut.update
def cH:=@PySem.wpAny_truthy_bool
def cI:=@decide_eq_false_iff_not
def cJ:=@Nat.zero_le
def cM:=@Nat.lt_trans
def cN:=@PySem.wpAny_setState_of
def cO:=@PySem.Heap.get?_update_other
def cQ:=@List.lookup_cons
def cR:=@Int.emod_lt_of_pos
def cS:=@List.mem_iff_getElem
def cU:=@List.nodup_cons
def cV:=@Bool.or_eq_true
def cW:=@List.getElem?_range
def cX:=@PySem.Around.under_plainId
def cZ:=@List.length_take
def cc:=@List.getElem_mem
def cj:=@PySem.Obj.data_mapFields
def cu:=@List.replicate_succ
def cw:=@List.nodup_append
def cx:=@List.append_assoc
def cz:=@PySem.wpAny_call_entry
def dB:=@Option.isSome_iff_exists
def dG:=@PySem.codeAny_builtin
def dH:=@beq_eq_false_iff_ne
def dI:=@List.map_congr_left
def dM:=@PySem.wpAny_typeOf
def dP:=@PySem.W.cellsFrom_some
def dS:=@Array.getElem_eq_getD
def dU:=@Nat.lt_trichotomy
def dW:=@PySem.call_meets
def da:=@List.length_cons
def dc:=@decide_eq_true_iff
def de:=@List.filter_append
def dh:=@List.getElem?_eq_none_iff
def dj:=@List.range_succ
def dk:=@Int.emod_nonneg
def dn:=@PySem.wpAny_Call_Name_kw
def dq:=@decide_eq_true_eq
def dt:=@congrArg
def du:=@Nat.le_of_lt
def dw:=@List.pairwise_map
def dy:=@List.flatten_cons
def dz:=@List.flatMap_cons
def eE:=@PySem.wpAny_standAt
def eG:=@PySem.builtinLookup_eq_fast
def eI:=@PySem.Obj.isFreed_of_fields
def eJ:=@Nat.lt_succ_self
def eK:=@List.nodup_range
def eM:=@List.drop_eq_getElem_cons
def eP:=@PyProof.Rows.F.plain_set_update_loop
def eQ:=@List.filterMap_cons
def eR:=@PySem.wpAny_setField
def eT:=@PySem.wpAny_of_eq
def eU:=@List.getElem?_take_of_lt
def eV:=@PySem.Heap.size_push
def eZ:=@List.find?_cons
def eh:=@PySem.wpAny_passesOwn
def fC:=@PySem.wpAny_callSpecial?_slot
def fE:=@List.mem_iff_getElem?
def fI:=@List.any_cons
def fL:=@PySem.wpAny_pyIter_list
def fM:=@PySem.isSubtype_type
def fN:=@List.eq_nil_of_length_eq_zero
def fO:=@PySem.Calls.callWith_builtin
def fY:=@PySem.wpAny_isInstance
def fZ:=@PySem.intKind_is
def fb:=@beq_iff_eq
def fe:=@List.getElem?_replicate
def fg:=@PyProof.Rows.boot_list
def fh:=@List.length_pos_of_mem
def fi:=@List.ext_getElem?
def fm:=@PySem.wpAny_rule
def fo:=@PySem.tupleKind_room_in1
def gA:=@List.findSome?_eq_none_iff
def gC:=@List.find?_eq_none
def gE:=@PySem.Calls.evalArgs_plain
def gJ:=@PySem.typeLookup_type
def gK:=@Array.getElem?_eq_getElem
def gQ:=@Option.isSome_map
def gR:=@Nat.le_succ
def gS:=@List.reverse_cons
def gU:=@PySem.codeAny_mono
def gW:=@PySem.F.args_tuple_add_2
def gX:=@PyProof.Rows.boot_sorted
def gY:=@List.length_erase_of_mem
def gb:=@Nat.lt_or_ge
def gh:=@PySem.plainId_quiet
def gi:=@Nat.one_le_two_pow
def gk:=@Nat.lt_of_le_of_lt
def gs:=@List.pairwise_cons
def gw:=@List.mem_cons_self
def gz:=@List.length_eraseIdx_of_lt
def hV:=@PyProof.Rows.size_push'
def iA:=@PySem.F.slot_tuple_add
def iB:=@List.take_of_length_le
def iC:=@List.set_set
def iD:=@List.pairwise_lt_range
def iE:=@PySem.Calls.call_function_entry
def iP:=@PySem.F.plain_list_iadd
def iT:=@PySem.wpAny_comprehension_free
def iU:=@PySem.F.slot_dict_get
def iV:=@Nat.eq_of_beq_eq_true
def iW:=@List.take_append_drop
def iX:=@List.length_singleton
def iY:=@Array.getElem?_toList
def ia:=@PySem.F.entry_tuple_add
def ib:=@List.getElem_inj
def jC:=@PyProof.Rows.F.entry_set_update_loop
def jD:=@List.filter_eq_self
def jO:=@PySem.wpAny_updateSeq
def jP:=@List.map_take
def jQ:=@List.all_cons
def jR:=@PySem.F.slot_int_rmul
def jV:=@Nat.not_lt
def jW:=@List.mem_filterMap
def jq:=@PySem.noFill_tuple_add
def kB:=@PySem.sizeLine_eq
def kC:=@Nat.lt_succ_of_lt
def kD:=@List.find?_append
def kE:=@Int.zero_add
def kF:=@Bool.not_eq_true'
def kS:=@List.eraseIdx_eq_take_drop_succ
def ky:=@List.findIdx?_eq_some_iff_getElem
def lC:=@Nat.le_of_not_lt
def lD:=@List.mem_reverse
def lE:=@List.mem_flatMap
def lF:=@List.length_drop
def lW:=@PySem.seq_tuple_add
def lX:=@PySem.Paired.length
def lY:=@List.map_id
def mH:=@PySem.typeIs_int
def mI:=@Nat.two_pow_pos
def mJ:=@Nat.le_antisymm
def mK:=@List.of_mem_zip
def mL:=@List.foldl_cons
def mM:=@Int.natCast_mul
def mO:=@PySem.F.args_tuple_add_2
def nR:=@Nat.testBit_two_pow_sub_one
def oi:=@PySem.Value.isInt_shape
def oj:=@PySem.Obj.cls_mapFields
def om:=@PySem.F.entry_tuple_add
def pb:=@List.pairwise_iff_getElem
def pe:=@List.mem_or_eq_of_mem_set
def ph:=@List.mem_of_find?_eq_some
def qq:=@PySem.wpAny_askSetting
def qr:=@PySem.F.slot_tuple_mul
def qt:=@PySem.F.slot_tuple_add
def qu:=@Bool.false_or
def sH:=@PySem.F.plainAttrs_list
def sI:=@PySem.F.args_dict_get_3
def sJ:=@PyProof.Rows.boot_tuple
def sN:=@List.pairwise_mergeSort
def sO:=@List.length_eq_zero_iff
def ub:=@PySem.wpAny_execs_nil
def uc:=@PySem.codeAny_of_tree
def ud:=@PySem.F.entry_dict_get
def ue:=@Nat.pow_succ
def ug:=@Nat.mul_comm
def uh:=@List.map_nil
def ui:=@List.drop_eq_nil_of_le
def uj:=@Int.mul_emod
def uk:=@Bool.not_not
def uo:=@Array.getElem?_eq_none
def xa:=@PyProof.Rows.assignInOrder_cons
def xb:=@PyProof.Rows.boot_set
def xc:=@PyProof.Rows.boot_int
def xf:=@List.length_replicate
def xg:=@List.findSome?_append
def xh:=@Bool.and_eq_false_iff
def zm:=@PySem.wpAny_runValue
def zo:=@PySem.Walks.list
def zp:=@Sum.inl.inj
def zq:=@Nat.pow_le_pow_right
def zr:=@Nat.eq_of_testBit_eq
def zt:=@List.pairwise_append
def zu:=@List.mem_of_mem_take
def zw:=@List.mem_erase_of_ne
def zx:=@List.getElem_toArray
def zy:=@PySem.Calls.Name_function_global
structure PySem.W.Fast:Prop where(tw18079100665582634743 tw15123649060928307429 tw2086476025059198154 tw15285255891730782196 tw10333742156242911261 tw6999666260269763879 tw638967223562486078 tw17044278000561080999 tw8865066918851096931 tw12084794346980212025 tw3832458152108847557 tw17840198823173993000 tw5112672811029703775 tw10955258335182392920 tw4475913377086940419 tw9565037796412979047 tw1969073126123753011 tw2714291623050468780 tw18117569997442689953 tw14350123341550257664 tw1032663385094797220 tw5672219106945608994 tw9117399534534213664 tw14844490410439441448 tw11357714978729049145 tw11731759286732447795 tw17573358898454970374 tw9368667468839341542 tw15646491214773494123 tw13043951659421394192 tw12555518349475157037 tw5816995401260134285 tw8335524955571557981 tw12413241132988435589 tw15354692493120672663 tw18071462576672701983 tw15513774635574679654 tw14097801554406391926 tw401515994749932995 tw8592913758825272515 tw13241782938357192047 tw7007606818629193505 tw6608273811755680923 tw15489644210257779230 tw659949743384220735 tw13533843657165917428 tw17681069194321957365 tw3849058165009460711 tw3587573384901463336 tw13672250360006103041 tw16611386821413050338 tw14583376311494950212 tw9227335398255679970 tw15868569588326892130 tw998935889236766838 tw8170481827504317169 tw11393677571801779366 tw12902763630772374106 tw11416641803820640237 tw100076944411303058 tw14394578204539194402 tw3567407963573338087 tw16429930141065801969 tw17776832987948250920 tw15846033056194502112 tw5372495612396268595 tw10653355379581290421 tw13318762076210677923 tw10923005410061466816 tw17235695829249725523 tw12934644424115611420 tw2441920972998256373 tw8030814010639778112 tw1052057382778196926 tw17014448728128021699 tw3045105052637592525 tw15826551632601368294 tw886330226670214997 tw2326097216857913921 tw3770067004048208129 tw2748566692350122063 tw3396713928155708004 tw11619194209148770028 tw6793716781778559332 tw9818884161296754995 tw13469555251522825693 tw3756282244673699873 tw3893227449997741092 tw16423879616034700450 tw8315280131138839418 tw1820386477438706861 tw16891892062740667540 tw11088449654906019709 tw13870791276770578533 tw6137423115300808672 tw16155576542577999702 tw8307825805078427733 tw2229471537798995372 tw12853413780704561779 tw14634114271896584753 tw2227416351893014919 tw2754681931194776728 tw15791716575102226881 tw16283630813241631148 tw12660133310095469230 tw3404791215826089485 tw17287155621472199659 tw11139949755314814429 tw12924979797370345913 tw4735425219436830622 tw16049215902279435546 tw16158016357227537370 tw17360554555297551580 tw11578708178140589773 tw6496382143478102166 tw1274609030296652137 tw14453816836263172069 tw13028550131905856201 tw14910293640186083984 tw1963926194844465672 tw14774341402444332124 tw4119591222721821995 tw13902078288412785629 tw14901332526788335533 tw5179673281497929777 tw6755047687014789732 tw7569844487050843001 tw5863422098132263501 tw1626966443848957521 tw10998119710472108378 tw949100156024687634 tw2764165309682175822 tw8447220155493681180 tw16482791339424324359 tw6840260055039841460 tw15816812632784161788 tw6990344565530997058 tw13345470865599850131 tw14916293605866345341 tw7679109204293387682 tw17234575145508268599 tw9497456243239393201 tw17241713879719466156 tw9761385847890387413 tw17892295858968527595 tw15963645256050657236 tw7744490362589371658 tw17309866441901506834 tw13770993367743836369 tw5388999280201087548 tw15515437582314039210 tw10113519868626648538 tw11633825598009173937 tw13191422142589398096 tw16290534275350044723 tw12892276267577141076 tw11829244335928389150 tw6328578626526665278 tw8521643607470579208 tw14197344297953047243 tw2880547888962008959 tw13747338789992863290 tw4846600346107364912 tw6839382334903711438 tw16505203518049462626 tw2257068404378060364 tw15008343097585668689 tw10065862437906683077 tw18203114407471201618 tw1361194307486973361 tw11448659802346593685 tw18099812570165801238 tw1961795830241475385 tw9461626765620889157 tw1074159044758170450 tw3915615588253657074 tw12068469792996903948 tw15742690371881812920 tw2765424334032379841 tw8594904493401234119 tw14528337365811209403 tw15510002705150971409 tw15466751377987561219 tw14798206725137443779 tw5352904609557344506 tw5291389554412721380 tw3944532299741624756 tw11492893881733680488 tw14819495588753175905 tw18247360427234915785 tw3158851404374542668 tw11732433830158851242 tw14459441039815307758 tw835291741823786844 tw12924510558534811086 tw16142457195263848508 tw304527557024458675 tw3257588939384474621 tw4600544486662419435 tw10311511391486614821 tw6119272062782316300 tw7098449652478765154 tw18063354121945585660 tw17660571249516030140 tw14816553707357250256 tw15330111164895714073 tw11940126583874318402 tw2513417300819073680 tw7462683313589300735 tw7447387253139701097 tw7502348410880451277 tw9319628226664287688 tw4800775508018066709 tw17216511271848156988 tw11504527073092974991 tw1602691939456995234 tw2573998683205018694 tw17105887051642110075 tw3677640427797806713 tw15945418572114487812 tw5178583640392504721 tw12291594968769058594 tw16663664632422628109 tw17375263601335432590 tw14321862825595394354 tw9832838777456994847 tw4824206637435403044 tw521693761193943088 tw3180953492126495268 tw2694015566517289914 tw13772736177383650748 tw10913083977429205974 tw15338572802539545907 tw6881006281984958540 tw8059747681850112552 tw7080094705026364119 tw3651595041023728680 tw1532385653025942130 tw2612980082190770785 tw17194964015566889783 tw17243660961873741346 tw14704426317384488521 tw10128645102746009959 tw4382574400278937257 tw4530031350557243461 tw8920909054691096018 tw6193535244501446815 tw4019231622781568203 tw7105626312893155386 tw3295450214775629768 tw7232817945090912962 tw13051567107790139803 tw5785470933511906340 tw12266251653251178012 tw10288920271604852152 tw8535882707861375097 tw11177105169958180380 tw3566514559671377057 tw13522564151684955249 tw4539395784209018888 tw4536961301329385522 tw8801700352995002046 tw8439751321850642805 tw18112342163586957172 tw7595838279417417815 tw15093332603868338234 tw6035903627398113854 tw11401891934015495313 tw4136382969765970205 tw17553526194033658515 tw11279207346033905402 tw13790408585952941284 tw17572290174916147196 tw9271812482594400477 tw17087016016582973974 tw7708004398273770308 tw7017236300974812246 tw8370304309058689711 tw5464493837795494621 tw17918889084921844045 tw9908060327743857586 tw15992227482329020396 tw17582952892061325697 tw8826233661519232552 tw14955485904736722855 tw8846565169681702114 tw38587163108417712 tw16493662392133382980 tw9770368349587325258 tw5981246793665973634 tw10096329377162437687 tw3697452251515124901 tw4605857730760768426 tw4239890222038748205 tw2523816560494539203 tw15826350814013219400 tw374990627748010473 tw16779676803489530396 tw9096241727563408555 tw5476394911323238547 tw16195429769395840686 tw15900036742406306660 tw16953738924895954079 tw12786029708279444395 tw11782251310287867004 tw6854482469188507403 tw8795715063582323254 tw17666836473270273633 tw18251571369987449748 tw11624808861197843765 tw16202795912625923675 tw3408219661052052829 tw3722864381429162693 tw10762796057933485002 tw253440890084437614 tw1806760512791628538 tw10811419949755486445 tw10310525281419119531 tw16468859775582448713 tw11118431570349112441 tw15051557816798607477 tw15258434073103268792 tw17231675469241391337 tw8333153058461680874 tw431863384444200023 tw875443333781712956 tw11258023282580590599 tw11157268804966995387 tw6054658222259401916 tw11938653945617023425 tw16413372356920926481 tw9300489937967368631 tw10261488220714739545 tw17999388155444040302 tw15544254676044217315 tw5367259683854094395 tw2515591646157121779 tw4750544142440613615 tw4020881220157829124 tw16677802424729508394 tw9464827768326913884 tw4084326314058985871 tw4698136322338112907 tw8380888211732289952 tw4179148794032271247 tw6032293343627153239 tw12684586907725115374 tw8223720945252282708 tw13559550443490525617 tw13688460639541445804 tw665314138975360067 tw15751339278161849155 tw5217876919178192369 tw7929391459056540100 tw14725649661530752704 tw4561032833913819532 tw12751176409932201865 tw2055547404100055954 tw4070578651952479568 tw17147278816769013326 tw13182393466678490936 tw15456123257149407644 tw12183458041404667510 tw16281844006696164735 tw10338401052883426097 tw15498171580762337748 tw4166933756767921867 tw16131329609373166322 tw1013250466324424750 tw4276582205317925969 tw5627796855619464767 tw11479662056697651127 tw6378891556450761621 tw5357989241565109807 tw13269231129353040710 tw8771659102636145105 tw6289567941457270968 tw6509694220001618727 tw4154603205415781926 tw8233448200063002049 tw1136785998175885906 tw11959054710413009953 tw9542186992483058004 tw13890839274204239962 tw11672929090322027751 tw13553997018732312646 tw12572666356328937031 tw12768059432215092545 tw4669677379286366899 tw14550496291381100683 tw6029201273341865032 tw11633315909236361725 tw16717872193326812072 tw2699456953309107607 tw16358848550747431912 tw14946935924018220601 tw7238961187499977986 tw10277730162643656324 tw16261621463991921992 tw4744086242244188013 tw5644315843005703995 tw13525484196535120660 tw16159398437334992509 tw949690158029350211 tw15624273074087439573 tw4985990638975168179 tw9037870440994239521 tw7147099785276446983 tw9150029198026206669 tw4327219729190179816 tw17716328360645324948 tw3657868574705888479 tw17761621365417284663 tw15793369202026568002 tw12906074439194286801 tw2275843798002348042 tw17907947811985885222 tw10855743743110840300 tw962149411263337890 tw4292525393630638445 tw12326143864446116463 tw4235606145348010053 tw16727628942636439069 tw14215230373978153799 tw1849751872694793488 tw14887270735976195004 tw10676217338826783697 tw16307056816713757067 tw13225182246909080692 tw14610456544201770047 tw14184878024281311616 tw10397569266948946997 tw15401074564031184774 tw2202167722382126313 tw7038290577442470824 tw16883542229808093845 tw1571252016168214426 tw5533144057525330730:True)
namespace L2
open PySem PySem.Spec PyProof.Rows
noncomputable abbrev Key:=Sum Int Str
def sC:Key->Value->Bool
 |.inl k,v=>Value.isInt k v
 |.inr x,v=>Value.isStrOf x v
def VH(w:World):Key->Int
 |.inl k=>hashInt k
 |.inr x=>hashStr w x
theorem u7:∀{k:Key} {v:Value},sC k v=true->(∃i t,k=Sum.inl i/\v=Value.int i t)\/(∃x t,k=Sum.inr x/\v=Value.str x t)
 |.inl i,v,h=>by
  obtain⟨t,e⟩:=oi (k:=i) (v:=v) h;exact .inl ⟨i,t,rfl,e⟩
 |.inr x,v,h=>by
  obtain⟨t,e⟩:=Value.isStrOf_shape (x:=x) (v:=v) h;exact .inr ⟨x,t,rfl,e⟩
theorem Zy(i:Int)(t:Tok):sC (.inl i) (.int i t)=true:=by simp[sC,Value.isInt]
theorem Zz(x:Str)(t:Tok):sC (.inr x) (.str x t)=true:=by simp[sC,Value.isStrOf]
theorem QB(a b:Int):decide ((Sum.inl a:Key)=Sum.inl b)=(a==b):=by
 by_cases e:a=b
 ·subst e;simp
 ·have h:¬(Sum.inl a:Key)=Sum.inl b:=λq=>e (zp q);rw[aL h];exact(dH.mpr e).symm
theorem QE(a b:Str):decide ((Sum.inr a:Key)=Sum.inr b)=decide (a=b):=by
 by_cases e:a=b
 ·subst e;simp
 ·have h:¬(Sum.inr a:Key)=Sum.inr b:=λq=>e (Sum.inr.inj q);rw[aL h,aL e]
theorem QC(a:Int)(b:Str):decide ((Sum.inl a:Key)=Sum.inr b)=false:=aL (λq=>nomatch q)
theorem QD(a:Str)(b:Int):decide ((Sum.inr a:Key)=Sum.inl b)=false:=aL (λq=>nomatch q)
def n9(prog:Program)(w:World):PySem.KeyKind prog w Key where
 is:=sC
 hash:=VH w
 inj:=λv a b ha hb=>by
  rcases u7 ha with⟨i,t,rfl,rfl⟩|⟨x,t,rfl,rfl⟩
  ·rcases u7 hb with⟨j,u,rfl,e⟩|⟨y,u,rfl,e⟩
   ·injection e with e1 _;rw[e1]
   ·exact nomatch e
  ·rcases u7 hb with⟨j,u,rfl,e⟩|⟨y,u,rfl,e⟩
   ·exact nomatch e
   ·injection e with e1 _;rw[e1]
 byValue:=λk v h=>by
  rcases u7 h with⟨i,t,rfl,rfl⟩|⟨x,t,rfl,rfl⟩<;>rfl
 pyHash:=λhv h=>by
  rcases u7 hv with⟨i,t,rfl,rfl⟩|⟨x,t,rfl,rfl⟩
  ·exact wpAny_pyHash_int h
  ·exact wpAny_pyHash_str h
 eqBool:=λhu hv h=>by
  rcases u7 hu with⟨i,t,rfl,rfl⟩|⟨x,t,rfl,rfl⟩
  ·rcases u7 hv with⟨j,u,rfl,rfl⟩|⟨y,u,rfl,rfl⟩
   ·rw[QB] at h;exact wpAny_eqBool_int h
   ·rw[QC] at h;exact SeqAt.EqAt.int_str i t y u _ _ _ _ h
  ·rcases u7 hv with⟨j,u,rfl,rfl⟩|⟨y,u,rfl,rfl⟩
   ·rw[QD] at h;exact SeqAt.EqAt.str_int x t j u _ _ _ _ h
   ·rw[QE] at h;exact wpAny_eqBool_str h
 «strs»:=λk x t v h=>by
  rcases u7 h with⟨i,u,rfl,e⟩|⟨y,u,rfl,e⟩
  ·exact nomatch e
  ·injection e with e1 _;subst e1;cases v<;>rfl
theorem aO8(prog:Program)(w:World)(k:Key)(v:Value):(n9 prog w).is k v=sC k v:=rfl
theorem aH0(prog:Program)(w:World)(i:Int)(t:Tok):(n9 prog w).is (.inl i) (.int i t)=true:=Zy i t
theorem aG9(prog:Program)(w:World)(x:Str)(t:Tok):(n9 prog w).is (.inr x) (.str x t)=true:=Zz x t
inductive V where
 |bQ|bl (b:Bool)|int (i:Int)|str (x:Str)|ly (b:Array UInt8)|rT (b:UInt64)|ref (a:Addr)|ty (n:String)
 deriving DecidableEq
def RelV:V->Value->Prop
 |.bQ,u=>u=Value.none
 |.bl b,u=>u=Value.bool b
 |.int i,u=>∃t,u=Value.int i t
 |.str x,u=>∃t,u=Value.str x t
 |.ly b,u=>∃t,u=Value.bytes b t
 |.rT b,u=>∃t,u=Value.float b t
 |.ref a,u=>u=Value.ref a
 |.ty n,u=>u=Value.type n
noncomputable abbrev Vals:List V->List Value->Prop:=Paired RelV
theorem Vals.length{xs:List V}{us:List Value}(r:Vals xs us):xs.length=us.length:=lX r
theorem Vals.get:∀{xs:List V} {us:List Value} {i:Nat} {x:V},Vals xs us->xs[i]?=some x->∃u,us[i]?=some u/\RelV x u
 |_,_,_,_,.nil,e=>by simp at e
 |_,_,0,_,.cons r _,e=>by simp at e;subst e;exact⟨_,rfl,r⟩
 |_,_,i+1,x,.cons _ t,e=>by
  obtain⟨u,h1,h2⟩:=Vals.get (i:=i) (x:=x) t (by simpa using e);exact⟨u,by simpa using h1,h2⟩
theorem Vals.set{x:V}{u:Value}(r:RelV x u):∀{xs:List V} {us:List Value} (i:Nat),Vals xs us->Vals (xs.set i x) (us.set i u)
 |_,_,_,.nil=>.nil
 |_,_,0,.cons _ t=>.cons r t
 |_,_,i+1,.cons q t=>.cons q (Vals.set r i t)
theorem Vals.append{xs ys:List V}{us ws:List Value}(h:Vals xs us)(s:Vals ys ws):Vals (xs++ys) (us++ws):=by
 induction h with
 |nil=>exact s
 |cons r t ih=>exact .cons r ih
theorem Vals.take:∀{xs:List V} {us:List Value} (n:Nat),Vals xs us->Vals (xs.take n) (us.take n)
 |_,_,0,_=>.nil
 |_,_,_+1,.nil=>.nil
 |_,_,n+1,.cons r t=>.cons r (Vals.take n t)
theorem Vals.drop:∀{xs:List V} {us:List Value} (n:Nat),Vals xs us->Vals (xs.drop n) (us.drop n)
 |_,_,0,r=>r
 |_,_,_+1,.nil=>.nil
 |_,_,n+1,.cons _ t=>Vals.drop n t
def F8:Option V->Option Value->Prop
 |some v,some u=>RelV v u
 |none,none=>True
 |_,_=>False
def KV{κ:Type}:List (κ×V)->List (κ×Value)->Prop:=Paired λ(p:κ×V) (q:κ×Value)=>p.1=q.1/\RelV p.2 q.2
def kV:Key->V
 |.inl i=>.int i
 |.inr x=>.str x
inductive HO where
 |lst (xs:List V)
 |tup (xs:List V)
 |dK (kvs:List (Key×V))|dT (kvs:List (List Key×V))
 |set (S:Int->Bool) (n:Nat)
 |ins (C dx:Addr) (fs:List (Str×V))
 |own (x:Addr)
 |xd (fs:List (Str×V))
 |met (f x:Addr)
 |ml (lo hi:Int)
 |jL (o:Obj) (u:HO)
 |pq (ps:Array Value)
 |ext (φ:Heap->Prop)
noncomputable abbrev Hp:=Addr->Option HO
def upd(H:Hp)(a:Addr)(o:HO):Hp:=λb=>if b=a then some o else H b
theorem u3{H:Hp}{a:Addr}{o:HO}:upd H a o a=some o:=by unfold upd;rw[aK rfl]
theorem f9{H:Hp}{a b:Addr}{o:HO}(h:b≠a):upd H a o b=H b:=by unfold upd;rw[aD h]
theorem Xz{H:Hp}{a b:Addr}{o u:HO}(h:H a=some o)(h':H b=some u)(d:o≠u):a≠b:=by
 intro e;subst e;rw[h] at h';exact d (aO h')
theorem m7{H:Hp}{a b:Addr}{o:HO}(h:H a=some o)(h':H b=none):a≠b:=by
 intro e;subst e;rw[h] at h';cases h'
def J9(h:Heap)(a:Addr)(items:Array Value):Prop:=∃o,h.get? a=some o/\o.cls=.type "tuple"/\(∃n,o.data=.seq items n)/\o.dict=none
theorem J9.tup{h:Heap}{a:Addr}{items:Array Value}(x:J9 h a items):IsTup h a items:=let ⟨o,e,c,d,_⟩:=x;⟨o,e,c,d⟩
theorem J9.new(h:Heap)(items:Array Value):J9 (h.push { cls:=.type "tuple",data:=.seq items }) h.objs.size items:=⟨_,az _ rfl,rfl,⟨_,rfl⟩,rfl⟩
section
variable(P:Program)(w:World)
def m8(H:Hp)(h:Heap)(a:Addr):HO->Prop
 |.lst xs=>xs.length<=sizeLine/\∃(aW:List Value) (n:Nat),Vals xs aW/\h.get? a=some { cls:=.type "list",data:=.seq aW.toArray n }
 |.tup xs=>xs.length<=sizeLine/\∃aW:List Value,Vals xs aW/\J9 h a aW.toArray
 |.dK kvs=>kvs.length<=sizeLine/\(a==sysModules)=false/\∃vs,KV kvs vs/\h.DictOf (n9 P w) a vs
 |.dT kvs=>kvs.length<=sizeLine/\(a==sysModules)=false/\∃xs:List (List Key×Addr×Value),
   Paired (λ(p:List Key×V) (q:List Key×Addr×Value)=>p.1=q.1/\H q.2.1=some (.tup (p.1.map kV))/\RelV p.2 q.2.2) kvs xs /\
   ∃o es ep,h.get? a=some o/\o.ExactDict/\o.data=.dict es ep/\es.toList=xs.map (entryOfKey (tupleKind (n9 P w)))/\(xs.map (·.1)).Nodup
 |.set S n=>h.SetOf (intKind P w) a S n
 |.ins C dx fs=>H dx=some (.own a)/\fs.length<=1000/\dx≠a/\h.get? a=some (PySem.W.instObj C dx) /\
   ∃mA,h.Ns1 dx mA/\(∀f,F8 (fs.lookup f) (mA f))/\PySem.Within mA (fs.map (·.1))
 |.own _=>∃o,h.get? a=some o
 |.xd fs=>∃mA,h.Ns1 a mA/\∀f,F8 (fs.lookup f) (mA f)
 |.ml lo hi=>∃t u v,h.get? a=some { cls:=.type "range",data:=.fields #[.int lo t,.int hi u,.int 1 v] }
 |.jL o u=>h.get? a=some o/\m8 H h a u
 |.pq ps=>h.get? a=some { cls:=.none,data:=.fields ps }
 |.met f x=>h.get? a=some (PySem.W.methodObj (.ref f) (.ref x))
 |.ext φ=>φ h/\(∃o,h.get? a=some o)/\∀h1 h2:Heap,φ h1->(∀o,h1.get? a=some o->h2.get? a=some o)->φ h2
def gH(H:Hp)(h:Heap):Prop:=∀a o,H a=some o->m8 P w H h a o
end
section
variable{P:Program}{w:World}{H H':Hp}{h h':Heap}{a:Addr}{o:HO}
theorem m8.lt(x:m8 P w H h a o):a<h.objs.size:=by
 cases o with
 |lst xs=>obtain⟨_,_,_,_,e⟩:=x;exact ax e
 |tup xs=>obtain⟨_,_,_,p⟩:=x;exact p.tup.lt
 |dK kvs=>obtain⟨_,_,_,_,o,_,_,e,_⟩:=x;exact ax e
 |dT kvs=>obtain⟨_,_,_,_,o,_,_,e,_⟩:=x;exact ax e
 |set S n=>obtain⟨o,_,_,_,e,_⟩:=x;exact ax e
 |ins C dx fs=>obtain⟨_,_,_,e,_⟩:=x;exact ax e
 |own y=>obtain⟨_,e⟩:=x;exact ax e
 |xd fs=>obtain⟨_,⟨_,_,_,e,_⟩,_⟩:=x;exact ax e
 |ml lo hi=>obtain⟨_,_,_,e⟩:=x;exact ax e
 |jL ob u=>obtain⟨e,_⟩:=x;exact ax e
 |pq ps=>exact ax (show h.get? a=some _ from x)
 |met f y=>exact ax (show h.get? a=some _ from x)
 |ext φ=>obtain⟨_,⟨_,e⟩,_⟩:=x;exact ax e
theorem Paired.HD{α β:Type}{F G:α->β->Prop}{uW:List α}{uV:List β}(h:Paired F uW uV)(f:∀a b,F a b->G a b):Paired G uW uV:=by
 induction h with
 |nil=>exact .nil
 |cons r t ih=>exact .cons (f _ _ r) ih
theorem m8.Z3(x:m8 P w H h a o)(k:∀b u,(b=a\/H b=some (.own a))->h.get? b=some u->h'.get? b=some u)(ho:∀b,H b=some (.own a)->H' b=some (.own a))(ht:∀b xs,H b=some (.tup xs)->H' b=some (.tup xs)):m8 P w H' h' a o:=by
 induction o with
 |lst xs=>obtain⟨z,aW,n,r,e⟩:=x;exact⟨z,aW,n,r,k _ _ (.inl rfl) e⟩
 |tup xs=>obtain⟨z,aW,r,ob,e,c⟩:=x;exact⟨z,aW,r,ob,k _ _ (.inl rfl) e,c⟩
 |dK kvs=>obtain⟨z,y,vs,r,ob,es,ep,e,c⟩:=x;exact⟨z,y,vs,r,ob,es,ep,k _ _ (.inl rfl) e,c⟩
 |dT kvs =>
  obtain⟨z,y,xs,r,ob,es,ep,e,c⟩:=x;exact⟨z,y,xs,Paired.HD r λp q z=>⟨z.1,ht _ _ z.2.1,z.2.2⟩,ob,es,ep,k _ _ (.inl rfl) e,c⟩
 |set S n=>obtain⟨ob,es,ep,t,e,c⟩:=x;exact⟨ob,es,ep,t,k _ _ (.inl rfl) e,c⟩
 |ins C dx fs =>
  obtain⟨d,z,ne,e,mA,⟨od,es,ep,e2,c⟩,r⟩:=x;exact⟨ho _ d,z,ne,k _ _ (.inl rfl) e,mA,⟨od,es,ep,k _ _ (.inr d) e2,c⟩,r⟩
 |own y=>obtain⟨ob,e⟩:=x;exact⟨ob,k _ _ (.inl rfl) e⟩
 |xd fs=>obtain⟨mA,⟨od,es,ep,e,c⟩,r⟩:=x;exact⟨mA,⟨od,es,ep,k _ _ (.inl rfl) e,c⟩,r⟩
 |ml lo hi=>obtain⟨t,u,v,e⟩:=x;exact⟨t,u,v,k _ _ (.inl rfl) e⟩
 |jL ob u ih=>obtain⟨e,q⟩:=x;exact⟨k _ _ (.inl rfl) e,ih q⟩
 |pq ps =>
  have e:h.get? a=some { cls:=.none,data:=.fields ps }:=x;show h'.get? a=some { cls:=.none,data:=.fields ps };exact k a _ (.inl rfl) e
 |met f y =>
  have e:h.get? a=some (PySem.W.methodObj (.ref f) (.ref y)):=x;show h'.get? a=some (PySem.W.methodObj (.ref f) (.ref y));exact k a _ (.inl rfl) e
 |ext φ=>obtain⟨p,⟨o,e⟩,st⟩:=x;exact⟨st _ _ p λo q=>k _ _ (.inl rfl) q,⟨o,k _ _ (.inl rfl) e⟩,st⟩
theorem gH.lt(x:gH P w H h)(e:H a=some o):a<h.objs.size:=(x a o e).lt
theorem gH.fresh(x:gH P w H h)(e:h.objs.size<=a):H a=none:=by
 cases q:H a with
 |none=>rfl
 |some u=>exact absurd (ay (x.lt q) e) (bw _)
theorem gH.kept(x:gH P w H h)(k:∀b u,h.get? b=some u->h'.get? b=some u):gH P w H h':=λa o e =>
 (x a o e).Z3 (λb u _ q=>k b u q) (λ_ q=>q) λ_ _ q=>q
theorem gH.laid(x:gH P w H h)(k:∀b u,h.get? b=some u->h'.get? b=some u)(hp:h.objs.size<=a)(new:m8 P w (upd H a o) h' a o):gH P w (upd H a o) h':=λb u e=>by
 have hn:=x.fresh hp;by_cases hb:b=a
 ·subst hb;rw[u3] at e;cases e;exact new
 ·rw[f9 hb] at e;exact(x b u e).Z3 (λc v _ q=>k c v q) (λc q=>by rw[f9 (m7 q hn)];exact q) λc xs q=>by rw[f9 (m7 q hn)];exact q
end
def Rd(H:Hp)(a:Addr)(u:HO):Prop:=H a=some u\/∃o,H a=some (.jL o u)
theorem Rd.ok{P:Program}{w:World}{H:Hp}{h:Heap}{a:Addr}{u:HO}(r:Rd H a u)(x:gH P w H h):m8 P w H h a u:=by
 rcases r with r|⟨o,r⟩
 ·exact x a u r
 ·obtain⟨_,q⟩:=x a _ r;exact q
def wW:Option HO->Prop
 |some (.lst _)=>True
 |some (.dK _)=>True
 |some (.dT _)=>True
 |some (.set _ _)=>True
 |some (.ins _ _ _)=>True
 |some (.ext _)=>True
 |_=>False
section
variable{P:Program}{w:World}{H:Hp}{h h':Heap}{x e:Addr}{o':HO}
theorem gH.write(ok:gH P w H h)(mu:wW (H x))(he:e=x\/H e=some (.own x))(k:∀b u,b≠e->h.get? b=some u->h'.get? b=some u)(pQ:∃u,h'.get? e=some u)(new:m8 P w (upd H x o') h' x o'):gH P w (upd H x o') h':=λb u q=>by
 have uP:∀c y,H c=some (.own y)->c≠x:=λc y r z=>by subst z;rw[r] at mu;exact mu
 have zS:∀c xs,H c=some (.tup xs)->c≠x:=λc xs r z=>by subst z;rw[r] at mu;exact mu
 by_cases hb:b=x
 ·subst hb;rw[u3] at q;cases q;exact new
 ·rw[f9 hb] at q;by_cases rA:b=e
  ·have q':H b=some (.own x):=by
    rcases he with z|z
    ·exact absurd (rA.trans z) hb
    ·rw[rA];exact z
   rw[q] at q';cases q';obtain⟨v,hv⟩:=pQ;exact⟨v,by rw[rA];exact hv⟩
  ·refine(ok b u q).Z3 (λc v hc r=>k c v ?_ r) (λc r=>by rw[f9 (uP c b r)];exact r) λc xs r=>by rw[f9 (zS c xs r)];exact r
   rcases hc with rfl|hc
   ·exact rA
   ·rintro rfl;rcases he with z|z
    ·exact uP c b hc z
    ·rw[hc] at z;cases z;exact hb rfl
end
structure Un(fs ex:List Addr)(H H':Hp)(h h':Heap):Prop where
 keep:∀b o,h.get? b=some o->H b=none->b∉fs->b∉ex->h'.get? b=some o
 slot:∀b o,h.get? b=some o->H b=none->b∈fs->b∉ex->∃sl,h'.get? b=some { o with slots:=sl }
 free:∀b o,h.get? b=some o->H b=none->b∉ex->H' b=none
 there:∀b o,h.get? b=some o->b∉ex->∃o',h'.get? b=some o'
 iZ:∀b xs,H b=some (.tup xs)->H' b=some (.tup xs)
 iL:∀b o u,H b=some (.jL o u)->H' b=some (.jL o u)
 ja:∀b ps,H b=some (.pq ps)->∃more,H' b=some (.pq (ps++more))
section
variable{fs rQ ex xZ:List Addr}{H H1 H2:Hp}{h h1 h2 h':Heap}{a x e:Addr}{o:HO}
theorem Un.any(u:Un fs ex H H1 h h1){b:Addr}{ob:Obj}(q:h.get? b=some ob)(n:H b=none)(hx:b∉ex):∃sl,h1.get? b=some { ob with slots:=sl }:=by
 by_cases hb:b∈fs
 ·exact u.slot b ob q n hb hx
 ·exact⟨ob.slots,u.keep b ob q n hb hx⟩
theorem Un.kept(k:∀b u,h.get? b=some u->h'.get? b=some u):Un fs ex H H h h' :=
 ⟨λb ob q _ _ _=>k b ob q,λb ob q _ _ _=>⟨ob.slots,k b ob q⟩,λ_ _ _ n _=>n,λb ob q _=>⟨ob,k b ob q⟩,λ_ _ q=>q,λ_ _ _ q=>q,λ_ ps q=>⟨#[],by rw[q];simp⟩⟩
theorem Un.refl:Un fs ex H H h h:=Un.kept λ_ _ q=>q
theorem Un.laid(k:∀b u,h.get? b=some u->h'.get? b=some u)(hp:h.objs.size<=a)(hn:H a=none):Un fs ex H (upd H a o) h h' where
 keep:=λb u q _ _ _=>k b u q
 slot:=λb u q _ _ _=>⟨u.slots,k b u q⟩
 free:=λb u q n _=>by rw[f9 (aN (ay (ax q) hp))];exact n
 there:=λb u q _=>⟨u,k b u q⟩
 iZ:=λb xs q=>by rw[f9 (m7 q hn)];exact q
 iL:=λb u xs q=>by rw[f9 (m7 q hn)];exact q
 ja:=λb ps q=>⟨#[],by rw[f9 (m7 q hn),q];simp⟩
theorem Un.write(mu:wW (H x))(he:e=x\/H e=some (.own x))(k:∀b u,b≠e->h.get? b=some u->h'.get? b=some u)(pQ:∃u,h'.get? e=some u):Un fs ex H (upd H x o) h h':=by
 have hx:∀b,H b=none->b≠x:=λb n z=>by subst z;rw[n] at mu;exact mu
 have hb:∀b,H b=none->b≠e:=λb n z=>by
  subst z;rcases he with r|r
  ·exact hx b n r
  ·rw[n] at r;cases r
 have hm:∀b u,H b=some u->¬wW (some u)->b≠x:=λb u q nm z=>by subst z;rw[q] at mu;exact nm mu
 refine ⟨λb u q n _ _=>k b u (hb b n) q,λb u q n _ _=>⟨u.slots,k b u (hb b n) q⟩,λb u q n _=>by rw [f9 (hx b n)];exact n,λb u q _=>?_,
  λb xs q=>by rw [f9 (hm b _ q λz=>z)];exact q,λb u xs q=>by rw [f9 (hm b _ q λz=>z)];exact q,λb ps q=>⟨#[],by rw [f9 (hm b _ q λz=>z),q];simp⟩⟩
 by_cases rA:b=e
 ·subst rA;exact pQ
 ·exact⟨u,k b u rA q⟩
end
def qy(h:Heap)(H:Hp):List Addr:=(List.range h.objs.size).filter λa=>(H a).isSome
def oW(h:Heap)(H:Hp):Heap:=PySem.W.hideAll h (qy h H)
theorem Zu(h:Heap)(H:Hp):(oW h H).objs.size=h.objs.size:=PySem.W.hideAll_size _ _
theorem a96{h:Heap}{H:Hp}{b:Addr}{o:Obj}(e:h.get? b=some o)(n:H b=none):(oW h H).get? b=some o :=
 EL _ e λhm=>by
  have q:(H b).isSome=true:=(aT.mp hm).2;rw[n] at q;simp at q
theorem TK{h:Heap}{H:Hp}{b:Addr}{o:Obj}(e:(oW h H).get? b=some o):h.get? b=some o/\H b=none:=by
 have e':h.get? b=some o:=Mq (qy h H) e;refine⟨e',?_⟩;cases q:H b with
 |none=>rfl
 |some x =>
  have hm:b∈qy h H:=aT.mpr ⟨aH.mpr (ax e'),by simp[q]⟩;have z:(oW h H).get? b=none:=PySem.W.hideAll_none (qy h H) hm;rw[z] at e;cases e
structure Mod(K:PySem.W.Frag)(mg:Str->Option Value)(base:Heap):Prop where
 nU:K.In base
 glob:base.Ns mainGlobals mg
 blt:∃mb,base.Ns builtinsNs mb/\∀x:Str,x≠"__name__"->mb x=bootBuiltins x
 nolimit:base.NoLimit
structure Cx where
 prog:Program
 w:World
 K:PySem.W.Frag
 mg:Str->Option Value
 base:Heap
 A:Around
 N:List Str
 dC:Shared
 ju:Hp
 env:Env
 outer:List Env
 stack:List Env
 ex:List Addr
 fn:Str->Bool
 calm:Bool
 pn:List (Addr×Obj)
 xe:Value->Shared->Prop
def hZ(l:List Env):List Addr:=l.filterMap (·.frame)
noncomputable abbrev Cx.fs(X:Cx):List Addr:=hZ X.outer
def wQ(sc:Scope)(x:Str):Prop:=sc.names.lookup x=some .local\/sc.names.lookup x=some .cell\/sc.names.lookup x=some .free
def Loc(sc:Scope)(x:Str):Prop:=sc.names.lookup x=some .local\/sc.names.lookup x=some .cell
def Look(env:Env)(h:Heap)(m:Str->Option Value)(x:Str)(u:Value):Prop :=
 (env.kindOf x=some .local/\m x=some u)\/((env.kindOf x=some .cell\/env.kindOf x=some .free)/\∃c,env.cells.lookup x=some c/\h.IsCell c (some u))
structure Cx.Ok(X:Cx):Prop where
 mod:Mod X.K X.mg X.base
 kind:X.env.scope.kind=.function
 glob:X.env.globals=mainGlobals
 blt:X.env.builtins=builtinsNs
 above:X.dC.heap.objs.size<=X.env.locals
 inj:∀x y c,X.env.cells.lookup x=some c->X.env.cells.lookup y=some c->x=y
 has:∀x,(X.env.kindOf x=some .cell\/X.env.kindOf x=some .free)->∃c,X.env.cells.lookup x=some c
 wk:∀x c,X.fn x=true->X.env.cells.lookup x=some c->X.dC.heap.objs.size<=c
 hd:X.calm=true->X.A.handled=none
 frames:X.A.frames=some X.stack
 xo:X.stack=X.outer\/(X.stack=X.env::X.outer/\X.env.frame=some X.env.locals)
 GV:∀b∈X.ex,b≠X.env.locals/\∀x c,X.env.cells.lookup x=some c->c≠b
 bs:∀b o,X.base.get? b=some o->X.dC.heap.get? b=some o/\X.ju b=none
 qd:X.base.objs.size<=X.dC.heap.objs.size
 mY:∀b o,X.base.get? b=some o->b∉X.ex
 oN:∀b∈X.ex,b∉X.fs
 P6:X.dC.heap.FunFrames X.base X.outer
 rR:∀b∈X.fs,X.ju b=none
structure Inv(X:Cx)(pins:List (Addr×Obj))(Z:List (Option V))(H:Hp)(s:Shared):Prop where
 ok:X.Ok
 os:s.os=X.dC.os
 bare:AllBare s.gens
 base:Un X.fs X.ex X.ju H X.dC.heap s.heap
 loc:∃m,s.heap.Ns X.env.locals m/\∀(i:Nat) (x:Str) (v:V),X.N[i]?=some x->Z[i]?=some (some v)->wQ X.env.scope x->∃u,RelV v u/\Look X.env s.heap m x u
 cell:∀x c,X.env.cells.lookup x=some c->∃v,s.heap.IsCell c v
 free:H X.env.locals=none
 fT:∀x c,X.env.cells.lookup x=some c->H c=none
 pin:∀p∈X.pn++pins,s.heap.get? p.1=some p.2/\H p.1=none/\p.1≠X.env.locals/\p.1∉X.fs/\∀v,p.2.data≠.cell v
 bZ:gH X.prog X.w H s.heap
 len:Z.length=X.N.length
section
variable{X:Cx}{pins:List (Addr×Obj)}{Z:List (Option V)}{H H':Hp}{s:Shared}{h':Heap}
theorem Cx.Ok.VT(ok:X.Ok){b:Addr}{o:Obj}(e:X.base.get? b=some o):b∉X.fs:=λhb=>by
 have:=(ok.P6.mem hb).1;rw[e] at this;cases this
theorem Inv.bs(I:Inv X pins Z H s):∀b o,X.base.get? b=some o->s.heap.get? b=some o/\H b=none:=λb o e =>
 ⟨I.base.keep b o (I.ok.bs b o e).1 (I.ok.bs b o e).2 (I.ok.VT e) (I.ok.mY b o e),I.base.free b o (I.ok.bs b o e).1 (I.ok.bs b o e).2 (I.ok.mY b o e)⟩
theorem Inv.bk(I:Inv X pins Z H s):∀b o,X.base.get? b=some o->s.heap.get? b=some o:=λb o e=>(I.bs b o e).1
theorem Inv.mod(I:Inv X pins Z H s):Mod X.K X.mg X.base:=I.ok.mod
theorem Inv.gT(I:Inv X pins Z H s):X.K.In s.heap:=I.ok.mod.nU.keeps I.bk
theorem Inv.lt(I:Inv X pins Z H s):X.env.locals<s.heap.objs.size:=let ⟨_,hn,_⟩:=I.loc;hn.lt
theorem Inv.sz(I:Inv X pins Z H s):X.dC.heap.objs.size<=s.heap.objs.size:=aE I.ok.above (du I.lt)
theorem Inv.wN(I:Inv X pins Z H s){a:Addr}(h:s.heap.objs.size<=a):a∉X.fs:=λhb=>by
 obtain⟨_,o,ho,_⟩:=I.ok.P6.mem hb;exact absurd (ay (ax ho) (aE I.sz h)) (bw _)
theorem Inv.rW(I:Inv X pins Z H s):∀x c,X.env.cells.lookup x=some c->c≠X.env.locals:=λx c e z=>by
 obtain⟨v,o,ho,hd⟩:=I.cell x c e;obtain⟨m,⟨o',es,ep,ny,vy,_⟩,_⟩:=I.loc;rw[z,ny] at ho;cases ho;rw[vy] at hd;cases hd
theorem Inv.P6(I:Inv X pins Z H s):s.heap.FunFrames X.base X.outer:=by
 have all:∀(l:List Env),(∀b∈hZ l,b∈X.fs)->X.dC.heap.FunFrames X.base l->s.heap.FunFrames X.base l:=by
  intro l
  induction l with
  |nil=>intro _ _;trivial
  |cons env r ih =>
   intro hs hl;obtain⟨hk,⟨L,o,hf,hn,ho,hd⟩,hr⟩:=hl;have hL:L∈X.fs:=hs L (by unfold hZ;rw[eQ,hf];exact gw);obtain⟨sl,e⟩:=I.base.slot L o ho (I.ok.rR L hL) hL λz=>I.ok.oN L z hL;exact⟨hk,⟨L,_,hf,hn,e,hd⟩,ih (λb hb=>hs b (by unfold hZ;rw[eQ,hf];exact bW _ hb)) hr⟩
 exact all X.outer (λ_ hb=>hb) I.ok.P6
theorem Inv.stack(I:Inv X pins Z H s):s.heap.FunFrames X.base X.stack:=by
 rcases I.ok.xo with e|⟨e,hf⟩
 ·rw[e];exact I.P6
 ·rw[e];obtain⟨m,hn,_⟩:=I.loc;refine .cons (by rw[I.ok.kind];decide) hf hn ?_ I.P6;exact Heap.get?_none_of_le (aE I.ok.qd I.ok.above)
theorem Inv.K8(I:Inv X pins Z H s):∀b∈hZ X.stack,b∈X.env.locals::X.fs:=λb hb=>by
 rcases I.ok.xo with e|⟨e,hf⟩
 ·rw[e] at hb;exact bW _ hb
 ·rw[e] at hb;unfold hZ at hb;rw[eQ,hf] at hb;exact hb
theorem Inv.Cz(I:Inv X pins Z H s):∀b∈hZ X.stack,H b=none:=λb hb=>by
 rcases aI.mp (I.K8 b hb) with e|hb
 ·rw[e];exact I.free
 ·obtain⟨_,o,ho,_⟩:=I.ok.P6.mem hb;exact I.base.free b o ho (I.ok.rR b hb) λz=>I.ok.oN b z hb
theorem Inv.step{g':Array GenState}{t':Nat}{d':Drawn}{ch:List Addr}(I:Inv X pins Z H s)(lg:∀b∈ch,(b∈X.ex\/X.dC.heap.objs.size<=b)/\b≠X.env.locals/\(∀x c,X.env.cells.lookup x=some c->c≠b)/\∀p∈X.pn++pins,p.1≠b)(keep:∀b o,b≠X.env.locals->b∉X.fs->b∉ch->s.heap.get? b=some o->H b=none->h'.get? b=some o)(slot:∀b o,b≠X.env.locals->b∈X.fs->b∉ch->s.heap.get? b=some o->H b=none->∃sl,h'.get? b=some { o with slots:=sl })(free:∀b o,b∉ch->s.heap.get? b=some o->H b=none->H' b=none)(there:∀b o,b∉ch->s.heap.get? b=some o->∃o',h'.get? b=some o')(iZ:∀b xs,H b=some (.tup xs)->H' b=some (.tup xs))(iL:∀b o u,H b=some (.jL o u)->H' b=some (.jL o u))(ja:∀b ps,H b=some (.pq ps)->∃more,H' b=some (.pq (ps++more)))(ns:∀m,s.heap.Ns X.env.locals m->h'.Ns X.env.locals m)(bZ:gH X.prog X.w H' h')(hg:AllBare g') :
  Inv X pins Z H' { s with heap:=h',gens:=g',drawn:=d',toks:=t' }:=by
 have Fw:∀b o,X.dC.heap.get? b=some o->b≠X.env.locals:=λb o e=>aN (ay (ax e) I.ok.above);have pF:∀b o,X.dC.heap.get? b=some o->b∉X.ex->b∉ch:=λb o e hx hb=>by
  rcases(lg b hb).1 with z|z
  ·exact hx z
  ·exact absurd (ay (ax e) z) (bw _)
 have cellK:∀x c,X.env.cells.lookup x=some c->∀v,s.heap.IsCell c v->h'.IsCell c v:=λx c e v bt=>by
  obtain⟨o,ho,hd⟩:=bt;have uT:c∉ch:=λz=>(lg c z).2.2.1 x c e rfl;by_cases hc:c∈X.fs
  ·obtain⟨sl,q⟩:=slot c o (I.rW x c e) hc uT ho (I.fT x c e);exact⟨_,q,hd⟩
  ·exact⟨o,keep c o (I.rW x c e) hc uT ho (I.fT x c e),hd⟩
 refine⟨I.ok,I.os,hg,⟨λb o e n hb hx=>?_,λb o e n hb hx=>?_,λb o e n hx=>?_,λb o e hx=>?_,λb xs e=>iZ b xs (I.base.iZ b xs e),λb o xs e=>iL b o xs (I.base.iL b o xs e),λb ps e=>?_⟩,?_,λx c e=>?_,?_,λx c e=>?_,λp hp=>?_,bZ,I.len⟩
 ·exact keep b o (Fw b o e) hb (pF b o e hx) (I.base.keep b o e n hb hx) (I.base.free b o e n hx)
 ·obtain⟨sl,e1⟩:=I.base.slot b o e n hb hx;obtain⟨MW,e2⟩:=slot b _ (Fw b o e) hb (pF b o e hx) e1 (I.base.free b o e n hx);exact⟨MW,e2⟩
 ·obtain⟨o',e1⟩:=I.base.there b o e hx;exact free b o' (pF b o e hx) e1 (I.base.free b o e n hx)
 ·obtain⟨o',e1⟩:=I.base.there b o e hx;exact there b o' (pF b o e hx) e1
 ·obtain⟨m1,e1⟩:=I.base.ja b ps e;obtain⟨m2,e2⟩:=ja b _ e1;exact⟨m1++m2,by rw[e2,Mx]⟩
 ·obtain⟨m,hn,hl⟩:=I.loc;refine⟨m,ns m hn,λi x v e1 e2 e3=>?_⟩;obtain⟨u,r,l⟩:=hl i x v e1 e2 e3;refine⟨u,r,?_⟩;rcases l with l|⟨k,c,e,z⟩
  ·exact .inl l
  ·exact .inr ⟨k,c,e,cellK x c e _ z⟩
 ·obtain⟨v,z⟩:=I.cell x c e;exact⟨v,cellK x c e v z⟩
 ·obtain⟨m,⟨o,_,_,ho,_⟩,_⟩:=I.loc;exact free _ o (λz=>(lg _ z).2.1 rfl) ho I.free
 ·obtain⟨v,o,ho,hd⟩:=I.cell x c e;exact free c o (λz=>(lg c z).2.2.1 x c e rfl) ho (I.fT x c e)
 ·obtain⟨e,n,ne,nf,d⟩:=I.pin p hp;have uT:p.1∉ch:=λz=>(lg p.1 z).2.2.2 p hp rfl;exact⟨keep p.1 p.2 ne nf uT e n,free p.1 p.2 uT e n,ne,nf,d⟩
theorem Inv.un{t':Nat}(I:Inv X pins Z H s)(u:Un X.fs [] H H' s.heap h')(bZ:gH X.prog X.w H' h'):Inv X pins Z H' { s with heap:=h',toks:=t' }:=by
 obtain⟨m,⟨o,es,ep,ho,r⟩,_⟩:=id I.loc;obtain⟨sl,hL⟩:=u.any ho I.free (by simp);exact I.step (g':=s.gens) (d':=s.drawn) (ch:=[]) (λ_ z=>nomatch z) (λb o _ hb _ e n=>u.keep b o e n hb (by simp)) (λb o _ hb _ e n=>u.slot b o e n hb (by simp)) (λb o _ e n=>u.free b o e n (by simp)) (λb o _ e=>u.there b o e (by simp)) u.iZ u.iL u.ja (λm' hm=>by
  obtain⟨o',Bw,Bx,ny,r'⟩:=hm;rw[ho] at ny;cases ny;exact ⟨_,Bw,Bx,hL,r'⟩) bZ I.bare
theorem Inv.call{g':Array GenState}{t':Nat}{d':Drawn}{ch:List Addr}(I:Inv X pins Z H s)(u:Un (hZ X.stack) ch H H' s.heap h')(bZ:gH X.prog X.w H' h')(hg:AllBare g')(lg:∀b∈ch,(b∈X.ex\/X.dC.heap.objs.size<=b)/\b≠X.env.locals/\(∀x c,X.env.cells.lookup x=some c->c≠b)/\∀p∈X.pn++pins,p.1≠b) :
  Inv X pins Z H' { s with heap:=h',gens:=g',drawn:=d',toks:=t' }:=by
 obtain⟨m,⟨o,es,ep,ho,r⟩,_⟩:=id I.loc;obtain⟨sl,hL⟩:=u.any ho I.free λz=>(lg _ z).2.1 rfl;exact I.step (ch:=ch) lg (λb o hL hb hc e n=>u.keep b o e n (λz=>(aI.mp (I.K8 b z)).elim hL hb) hc) (λb o _ _ hc e n=>u.any e n hc) (λb o hc e n=>u.free b o e n hc) (λb o hc e=>u.there b o e hc) u.iZ u.iL u.ja (λm' hm=>by
  obtain⟨o',Bw,Bx,ny,r'⟩:=hm;rw[ho] at ny;cases ny;exact ⟨_,Bw,Bx,hL,r'⟩) bZ hg
theorem Inv.turned{t':Nat}{it:Addr}(I:Inv X pins Z H s)(k:∀b o,b≠it->s.heap.get? b=some o->h'.get? b=some o)(hn:H it=none)(hL:it≠X.env.locals)(h1:it∈X.ex\/X.dC.heap.objs.size<=it)(h2:∀x c,X.env.cells.lookup x=some c->c≠it)(h3:∀p∈X.pn++pins,p.1≠it):Inv X pins Z H { s with heap:=h',toks:=t' }:=by
 have Fv:∀b u,H b=some u->b≠it:=λb u e z=>by rw[z,hn] at e;cases e
 refine I.step (g':=s.gens) (d':=s.drawn) (ch:=[it]) (λb hb=>?_) (λb o _ _ hc e _=>k b o (λz=>hc (by simp[z])) e) (λb o _ _ hc e _=>⟨o.slots,k b o (λz=>hc (by simp[z])) e⟩) (λ_ _ _ _ n=>n)
  (λb o hc e=>⟨o,k b o (λz=>hc (by simp[z])) e⟩) (λ_ _ e=>e) (λ_ _ _ e=>e) (λb ps e=>⟨#[],by rw[e];simp⟩) (λm hm=>?_) (λb u e=>?_) I.bare
 ·have e:b=it:=by simpa using hb
  subst e;exact⟨h1,hL,h2,h3⟩
 ·obtain⟨o,es,ep,ho,r⟩:=hm;exact⟨o,es,ep,k _ o (bT hL) ho,r⟩
 ·refine(I.bZ b u e).Z3 (λc v hc q=>k c v ?_ q) (λ_ q=>q) λ_ _ q=>q;rcases hc with z|z
  ·rw[z];exact Fv b u e
  ·exact Fv c _ z
theorem Inv.tok(I:Inv X pins Z H s)(t:Nat):Inv X pins Z H { s with toks:=t }:=I.un (h':=s.heap) (t':=t) Un.refl I.bZ
theorem Inv.kept{t':Nat}(I:Inv X pins Z H s)(k:∀b u,s.heap.get? b=some u->h'.get? b=some u):Inv X pins Z H { s with heap:=h',toks:=t' }:=I.un (Un.kept k) (I.bZ.kept k)
theorem Inv.laid{a:Addr}{o:HO}{t':Nat}(I:Inv X pins Z H s)(k:∀b u,s.heap.get? b=some u->h'.get? b=some u)(hp:s.heap.objs.size<=a)(new:m8 X.prog X.w (upd H a o) h' a o) :
  Inv X pins Z (upd H a o) { s with heap:=h',toks:=t' }:=I.un (Un.laid k hp (I.bZ.fresh hp)) (I.bZ.laid k hp new)
theorem Inv.write{x e:Addr}{o:HO}{t':Nat}(I:Inv X pins Z H s)(mu:wW (H x))(he:e=x\/H e=some (.own x))(k:∀b u,b≠e->s.heap.get? b=some u->h'.get? b=some u)(pQ:∃u,h'.get? e=some u)(new:m8 X.prog X.w (upd H x o) h' x o):Inv X pins Z (upd H x o) { s with heap:=h',toks:=t' }:=I.un (Un.write mu he k pQ) (I.bZ.write mu he k pQ new)
theorem Inv.K3{kU:List (Addr×Obj)}(I:Inv X pins Z H s)(h:∀p∈kU,s.heap.get? p.1=some p.2/\H p.1=none/\p.1≠X.env.locals/\p.1∉X.fs/\∀v,p.2.data≠.cell v):Inv X kU Z H s :=
 ⟨I.ok,I.os,I.bare,I.base,I.loc,I.cell,I.free,I.fT,λp hp=>(aV.mp hp).elim (λz=>I.pin p (bD _ z)) (h p),I.bZ,I.len⟩
theorem LJ{N:List Str}(hN:N.Nodup){i j:Nat}{x:Str}(a:N[i]?=some x)(b:N[j]?=some x):i=j:=by
 obtain⟨h1,e1⟩:=aj.mp a;obtain⟨h2,e2⟩:=aj.mp b;exact(ib hN).mp (e1.trans e2.symm)
theorem Jo{M:Model}{A:Around}{E:Value->Shared->Prop}{i:Nat}{x:Str}{v:V}{u:Value}{Q:Unit->Shared->Prop}(I:Inv X pins Z H s)(hN:X.N.Nodup)(hi:X.N[i]?=some x)(hx:Loc X.env.scope x)(r:RelV v u)(h:∀s',Inv X pins (Z.set i (some v)) H s'->(∃a,Heap.SameBut a s.heap s'.heap/\(a=X.env.locals\/X.env.cells.lookup x=some a))->Q () s')(hf:X.fn x=true\/X.env.scope.names.lookup x=some .local:=by first|exact .inl rfl|exact .inr rfl|assumption):wpAny M A (storeName X.env x u) Q E s:=by
 obtain⟨m,hn,hl⟩:=id I.loc;have AH:(X.env.scope.kind==.class||(X.env.scope.kind==.module&&X.env.locals != X.env.globals))=false:=by rw[I.ok.kind];rfl
 have vo:i<Z.length:=by rw[I.len];exact(aj.mp hi).1
 have rW:=I.rW;have tracked:∀{a:Addr} {h':Heap},(∃o,s.heap.get? a=some o/\H a=none)->Heap.SameBut a s.heap h'->gH X.prog X.w H h':=λ{a h'} ha hs b ob e=>by
  obtain⟨_,_,nB⟩:=ha;refine(I.bZ b ob e).Z3 (λc w' hc q=>(hs.2 c ?_).trans q) (λ_ q=>q) λ_ _ q=>q;rintro rfl;rcases hc with rfl|hc
  ·rw[nB] at e;cases e
  ·rw[nB] at hc;cases hc
 rcases hx with hk|hk
 ·refine wpAny_storeName_local hk hn (λh' Oc hs=>?_) AH;obtain⟨oL,_,_,lO,_⟩:=id hn;refine h _ ⟨I.ok,I.os,I.bare,⟨λb o e n hb hx=>?_,λb o e n hb hx=>?_,I.base.free,λb o e hx=>?_,I.base.iZ,I.base.iL,I.base.ja⟩,⟨_,Oc,λj y v' e1 e2 e3=>?_⟩,λy c e=>?_,I.free,I.fT,λp hp=>?_,tracked ⟨oL,lO,I.free⟩ hs,by simpa using I.len⟩ ⟨_,hs,.inl rfl⟩
  ·exact(hs.2 b (aN (ay (ax e) I.ok.above))).trans (I.base.keep b o e n hb hx)
  ·obtain⟨sl,e1⟩:=I.base.slot b o e n hb hx;exact⟨sl,(hs.2 b (aN (ay (ax e) I.ok.above))).trans e1⟩
  ·obtain⟨o',e1⟩:=I.base.there b o e hx;exact⟨o',(hs.2 b (aN (ay (ax e) I.ok.above))).trans e1⟩
  ·by_cases hj:j=i
   ·subst hj;rw[hi] at e1;cases e1;rw[aX vo] at e2;cases e2;exact⟨u,r,.inl ⟨hk,by simp⟩⟩
   ·rw[aw (bT hj)] at e2;obtain⟨u',r',q⟩:=hl j y v' e1 e2 e3;refine⟨u',r',?_⟩;rcases q with⟨k,e⟩|⟨k,c,e,z⟩
    ·refine .inl ⟨k,?_⟩;have:y≠x:=λe=>hj (LJ hN e1 (e▸hi));simp[this,e]
    ·exact .inr ⟨k,c,e,z.sameBut hs (rW y c e)⟩
  ·obtain⟨w',z⟩:=I.cell y c e;exact⟨w',z.sameBut hs (rW y c e)⟩
  ·obtain⟨e,n,ne,nf,d⟩:=I.pin p hp;exact⟨(hs.2 p.1 ne).trans e,n,ne,nf,d⟩
 ·have tu:X.fn x=true:=by
   rcases hf with z|z
   ·exact z
   ·rw[z] at hk;cases hk
  obtain⟨c,hc⟩:=I.ok.has x (.inl hk);obtain⟨w',z⟩:=I.cell x c hc;refine wpAny_storeName_cell I.ok.kind hk hc z (λh' ji hs=>?_);obtain⟨oc,As,Ar⟩:=id z;refine h { s with heap:=h' } ⟨I.ok,I.os,I.bare,⟨λb o e n hb hx=>?_,λb o e n hb hx=>?_,I.base.free,λb o e hx=>?_,I.base.iZ,I.base.iL,I.base.ja⟩,⟨m,hn.sameBut hs (bT (rW x c hc)),λj y v' e1 e2 e3=>?_⟩,λy c' e=>?_,I.free,I.fT,λp hp=>?_,tracked ⟨oc,As,I.fT x c hc⟩ hs,by simpa using I.len⟩ ⟨c,hs,.inr hc⟩
  ·exact(hs.2 b (aN (ay (ax e) (I.ok.wk x c tu hc)))).trans (I.base.keep b o e n hb hx)
  ·obtain⟨sl,e1⟩:=I.base.slot b o e n hb hx;exact⟨sl,(hs.2 b (aN (ay (ax e) (I.ok.wk x c tu hc)))).trans e1⟩
  ·obtain⟨o',e1⟩:=I.base.there b o e hx;exact⟨o',(hs.2 b (aN (ay (ax e) (I.ok.wk x c tu hc)))).trans e1⟩
  ·by_cases hj:j=i
   ·subst hj;rw[hi] at e1;cases e1;rw[aX vo] at e2;cases e2;exact⟨u,r,.inr ⟨.inl hk,c,hc,ji⟩⟩
   ·rw[aw (bT hj)] at e2;obtain⟨u',r',q⟩:=hl j y v' e1 e2 e3;refine⟨u',r',?_⟩;rcases q with q|⟨k,c',e,z'⟩
    ·exact .inl q
    ·refine .inr ⟨k,c',e,z'.sameBut hs ?_⟩;rintro rfl;exact hj (LJ hN e1 (I.ok.inj _ _ _ e hc▸hi))
  ·by_cases tB:c'=c
   ·subst tB;exact⟨_,ji⟩
   ·obtain⟨w2,z2⟩:=I.cell y c' e;exact⟨w2,z2.sameBut hs tB⟩
  ·obtain⟨e,n,ne,nf,d⟩:=I.pin p hp;refine⟨(hs.2 p.1 ?_).trans e,n,ne,nf,d⟩;intro q;rw[q,As] at e;have q':oc=p.2:=aO e;exact d w' (by rw[<- q'];exact Ar)
theorem R7{M:Model}{A:Around}{E:Value->Shared->Prop}{i:Nat}{x:Str}{v:V}{u:Value}{Q:Unit->Shared->Prop}(I:Inv X pins Z H s)(hN:X.N.Nodup)(hi:X.N[i]?=some x)(hx:Loc X.env.scope x)(r:RelV v u)(h:∀s',Inv X pins (Z.set i (some v)) H s'->Q () s')(hf:X.fn x=true\/X.env.scope.names.lookup x=some .local:=by first|exact .inl rfl|exact .inr rfl|assumption):wpAny M A (storeName X.env x u) Q E s :=
 Jo I hN hi hx r (λs' I' _=>h s' I') hf
theorem Inv.Dz{s':Shared}{ch:List Addr}(I:Inv X pins Z H s)(ho:s'.os=s.os)(u:Un (hZ X.stack) ch H H' s.heap s'.heap)(bZ:gH X.prog X.w H' s'.heap)(hg:AllBare s'.gens)(lg:∀b∈ch,(b∈X.ex\/X.dC.heap.objs.size<=b)/\b≠X.env.locals/\(∀x c,X.env.cells.lookup x=some c->c≠b)/\∀p∈X.pn++pins,p.1≠b):Inv X pins Z H' s':=by
 obtain⟨h',g',d',t',o'⟩:=s';have e:o'=s.os:=ho;subst e;exact I.call (g':=g') (t':=t') (d':=d') u bZ hg lg
end
noncomputable abbrev XK:=Value->Option Addr->Hp->Prop
noncomputable abbrev St:=List (Option V)
noncomputable abbrev VK:=V->Hp->Prop
noncomputable abbrev TE:=St->Hp->VK->Prop
noncomputable abbrev TT:=St->Hp->(Bool->Hp->Prop)->Prop
noncomputable abbrev TA:=St->Hp->(List V->Hp->Prop)->Prop
structure Ends where
 nx:St->Hp->Prop
 rt:VK
 bk:St->Hp->Prop:=λ_ _=>False
 ct:St->Hp->Prop:=λ_ _=>False
noncomputable abbrev TS:=Ends->St->Hp->Prop
def EP(X:Cx)(pins:List (Addr×Obj))(Z:St)(Q:VK)(u:Value)(s':Shared):Prop:=∃v H',Inv X pins Z H' s'/\RelV v u/\Q v H'
def TP(X:Cx)(pins:List (Addr×Obj))(Z:St)(Q:Bool->Hp->Prop)(b:Bool)(s':Shared):Prop:=∃H',Inv X pins Z H' s'/\Q b H'
def AP(X:Cx)(pins:List (Addr×Obj))(Z:St)(Q:List V->Hp->Prop)(us:List Value)(s':Shared):Prop:=∃vs H',Inv X pins Z H' s'/\Vals vs us/\Q vs H'
def SP(X:Cx)(pins:List (Addr×Obj))(D:Ends)(f:Flow)(s':Shared):Prop :=
 match f with
 |.next=>∃cq H',Inv X pins cq H' s'/\D.nx cq H'
 |.brk=>∃cq H',Inv X pins cq H' s'/\D.bk cq H'
 |.cont=>∃cq H',Inv X pins cq H' s'/\D.ct cq H'
 |.ret u=>∃v cq H',Inv X pins cq H' s'/\RelV v u/\D.rt v H'
def PE(X:Cx)(e:Expr)(t:TE):Prop :=
 ∀(pins:List (Addr×Obj)) (s:Shared) (Z:St) (H:Hp) (Q:VK),Inv X pins Z H s->t Z H Q->wpAny (model X.prog X.w) X.A (eval e X.env) (EP X pins Z Q) X.xe s
def PT(X:Cx)(e:Expr)(t:TT):Prop :=
 ∀(pins:List (Addr×Obj)) (s:Shared) (Z:St) (H:Hp) (Q:Bool->Hp->Prop),Inv X pins Z H s->t Z H Q->wpAny (model X.prog X.w) X.A (isTrue e X.env (eval e X.env)) (TP X pins Z Q) X.xe s
def PW(X:Cx)(e:Expr)(t:TT):Prop :=
 ∀(whole:Sem Value) (pins:List (Addr×Obj)) (s:Shared) (Z:St) (H:Hp) (Q:Bool->Hp->Prop),Inv X pins Z H s->t Z H Q->wpAny (model X.prog X.w) X.A (isTrue e X.env whole) (TP X pins Z Q) X.xe s
theorem PW.pt{X:Cx}{e:Expr}{t:TT}(h:PW X e t):PT X e t:=h _
def PA(X:Cx)(es:List Expr)(t:TA):Prop :=
 ∀(pos:Pos) (pins:List (Addr×Obj)) (s:Shared) (Z:St) (H:Hp) (Q:List V->Hp->Prop),Inv X pins Z H s->t Z H Q->wpAny (model X.prog X.w) X.A (spliced (backTo pos (starEach es X.env))) (AP X pins Z Q) X.xe s
def PS(X:Cx)(st:Stmt)(t:TS):Prop :=
 ∀(pins:List (Addr×Obj)) (s:Shared) (Z:St) (H:Hp) (D:Ends),Inv X pins Z H s->t D Z H->wpAny (model X.prog X.w) X.A (exec st X.env) (SP X pins D) X.xe s
def jN(X:Cx)(st:List Stmt)(t:TS):Prop :=
 ∀(pins:List (Addr×Obj)) (s:Shared) (Z:St) (H:Hp) (D:Ends),Inv X pins Z H s->t D Z H->wpAny (model X.prog X.w) X.A (execs st X.env) (SP X pins D) X.xe s
theorem cP{α:Type}{t:Sem α}{Q Q':α->Shared->Prop}{M:Model}{A:Around}{E:Value->Shared->Prop}{s:Shared}(h:wpAny M A t Q E s)(hQ:∀a s,Q a s->Q' a s):wpAny M A t Q' E s:=bI h hQ λ_ _ x=>x
section
variable{X:Cx}
def WB(i:Nat):TE:=λZ H Q=>∃v,Z[i]?=some (some v)/\Q v H
def tC(v:V):TE:=λ_ H Q=>Q v H
theorem Rt{i:Nat}{x:Str}{pos:Pos}(hN:X.N[i]?=some x)(hv:wQ X.env.scope x)(hd:(x==("__debug__":Str))=false:=by decide)(kn:(x==("__classdict__":Str))=false:=by decide):PE X (.Name x pos) (WB i):=by
 intro pins s Z H Q I h;obtain⟨v,e,h⟩:=h;obtain⟨m,hn,hl⟩:=I.loc;obtain⟨u,r,l⟩:=hl i x v hN e hv;have fin:EP X pins Z Q u s:=⟨v,H,I,r,h⟩
 rcases l with⟨hk,hm⟩|⟨hk,c,hc,lh⟩
 ·exact wpAny_Name (wpAny_loadName_local I.ok.kind hk hn hm fin) hd
 ·rcases hk with hk|hk
  ·exact wpAny_Name (wpAny_loadName_cell I.ok.kind hk hc lh fin) hd
  ·exact wpAny_Name (wpAny_loadName_free I.ok.kind hk hc lh fin kn) hd
theorem Rk{i j pos}:PE X (.Constant (.int i) j pos) (tC (.int i)):=λ_ _ _ H _ I h=>wpAny_Constant_int ⟨.int i,H,I.tok _,⟨_,rfl⟩,h⟩
theorem XI{b j pos}:PE X (.Constant (.bool b) j pos) (tC (.bl b)):=λ_ _ _ H _ I h=>Constant_bool ⟨.bl b,H,I,rfl,h⟩
theorem Rn{j pos}:PE X (.Constant .none j pos) (tC .bQ):=λ_ _ _ H _ I h=>Constant_none ⟨.bQ,H,I,rfl,h⟩
theorem Ko{x j pos}:PE X (.Constant (.str x) j pos) (tC (.str x)):=λ_ _ _ H _ I h=>Calls.Constant_str ⟨.str x,H,I.tok _,⟨_,rfl⟩,h⟩
def Gl(X:Cx)(x:Str):Prop:=X.env.kindOf x=some .globalImplicit
theorem Y1{E:Value->Shared->Prop}{pins:List (Addr×Obj)}{s:Shared}{Z:St}{H:Hp}{x:Str}{u:Value}{pos:Pos}{Q:Value->Shared->Prop}(I:Inv X pins Z H s)(hg:Gl X x)(hm:X.mg x=some u)(h:Q u s)(hd:(x==("__debug__":Str))=false:=by decide):wpAny (model X.prog X.w) X.A (eval (.Name x pos) X.env) Q E s :=
 zy I.ok.kind hg (Calls.loadGlobal_global (by rw[I.ok.glob];exact I.mod.glob.keeps I.bk) hm h) hd
theorem L4{E:Value->Shared->Prop}{pins:List (Addr×Obj)}{s:Shared}{Z:St}{H:Hp}{x:Str}{u:Value}{pos:Pos}{Q:Value->Shared->Prop}(I:Inv X pins Z H s)(hg:Gl X x)(hm:X.mg x=none)(hv:bootBuiltins x=some u)(h:Q u s)(hn:x≠"__name__":=by decide)(hd:(x==("__debug__":Str))=false:=by decide):wpAny (model X.prog X.w) X.A (eval (.Name x pos) X.env) Q E s:=by
 obtain⟨mb,h1,h2⟩:=I.mod.blt;exact zy I.ok.kind hg (Calls.loadGlobal_builtin (by rw[I.ok.glob];exact I.mod.glob.keeps I.bk) hm (by rw[I.ok.blt];exact h1.keeps I.bk) ((h2 x hn).trans hv) h) hd
theorem yN{x:Str}{v:V}{u:Value}{pos:Pos}(hg:Gl X x)(hm:X.mg x=some u)(r:RelV v u)(hd:(x==("__debug__":Str))=false:=by decide):PE X (.Name x pos) (tC v) :=
 λ_ _ _ H _ I h=>Y1 I hg hm ⟨v,H,I,r,h⟩ hd
theorem Ub{x:Str}{v:V}{u:Value}{pos:Pos}(hg:Gl X x)(hm:X.mg x=none)(hv:bootBuiltins x=some u)(r:RelV v u)(hn:x≠"__name__":=by decide)(hd:(x==("__debug__":Str))=false:=by decide):PE X (.Name x pos) (tC v) :=
 λ_ _ _ H _ I h=>L4 I hg hm hv ⟨v,H,I,r,h⟩ hn hd
variable{a b:Expr}{ta tb:TE}{pos:Pos}
variable{tA xl:TT}{rest:List Expr}
def Wm(t u:TT):TT:=λZ H Q=>t Z H λc H1=>if c=true then u Z H1 Q else Q false H1
def MM(t u:TT):TT:=λZ H Q=>t Z H λc H1=>if c=true then Q true H1 else u Z H1 Q
def Wu(t:TT):TT:=λZ H Q=>t Z H λc H1=>Q (!c) H1
theorem Ut(ha:PT X a tA):PW X (.BoolOp .And [a] pos) tA:=by
 intro wh pins s Z H Q I h;refine isTrue_and (cP (ha pins s Z H Q I h) λc s1 e=>?_);cases c with
 |true=>exact isTrue_and_nil e
 |false=>exact e
theorem RG(ha:PT X a tA):PW X (.BoolOp .Or [a] pos) tA:=by
 intro wh pins s Z H Q I h;refine isTrue_or (cP (ha pins s Z H Q I h) λc s1 e=>?_);cases c with
 |false=>exact isTrue_or_nil e
 |true=>exact e
theorem RE(ha:PT X a tA)(hb:PW X (.BoolOp .And (b::rest) pos) xl):PW X (.BoolOp .And (a::b::rest) pos) (Wm tA xl):=by
 intro wh pins s Z H Q I h;refine isTrue_and (cP (ha pins s Z H _ I h) λc s1 ⟨H1,I1,q1⟩=>?_);cases c with
 |true=>exact hb wh pins s1 Z H1 Q I1 q1
 |false=>exact⟨H1,I1,q1⟩
theorem XU(ha:PT X a tA)(hb:PW X (.BoolOp .Or (b::rest) pos) xl):PW X (.BoolOp .Or (a::b::rest) pos) (MM tA xl):=by
 intro wh pins s Z H Q I h;refine isTrue_or (cP (ha pins s Z H _ I h) λc s1 ⟨H1,I1,q1⟩=>?_);cases c with
 |true=>exact⟨H1,I1,q1⟩
 |false=>exact hb wh pins s1 Z H1 Q I1 q1
theorem RD(ha:PT X a tA):PT X (.UnaryOp .Not a pos) (Wu tA):=by
 intro pins s Z H Q I h;exact isTrue_not (ha pins s Z H (λc H1=>Q (!c) H1) I h)
def Yi(ta tb:TE):TE:=λZ H Q=>ta Z H λx H1=>∃c,x=.bl c/\if c=true then tb Z H1 Q else Q (.bl false) H1
def Wv(ta tb:TE):TE:=λZ H Q=>ta Z H λx H1=>∃c,x=.bl c/\if c=true then Q (.bl true) H1 else tb Z H1 Q
def Yn(ta:TE):TE:=λZ H Q=>ta Z H λx H1=>∃c,x=.bl c/\Q (.bl (!c)) H1
theorem Rp{op}{t:TE}(h:PE X a t):PE X (.BoolOp op [a] pos) t:=λpins s Z H Q I hw=>BoolOp_one (h pins s Z H Q I hw)
theorem Rh(ha:PE X a ta)(hb:PE X (.BoolOp .And (b::rest) pos) tb):PE X (.BoolOp .And (a::b::rest) pos) (Yi ta tb):=by
 intro pins s Z H Q I h;refine BoolOp_and (cP (ha pins s Z H _ I h) λv s1 bt=>?_);obtain⟨x,H1,I1,r1,q1⟩:=bt;obtain⟨c,rfl,q1⟩:=q1;cases r1;refine cH ?_;cases c with
 |true=>exact hb pins s1 Z H1 Q I1 q1
 |false=>exact⟨.bl false,H1,I1,rfl,q1⟩
theorem XO(ha:PE X a ta)(hb:PE X (.BoolOp .Or (b::rest) pos) tb):PE X (.BoolOp .Or (a::b::rest) pos) (Wv ta tb):=by
 intro pins s Z H Q I h;refine BoolOp_or (cP (ha pins s Z H _ I h) λv s1 bt=>?_);obtain⟨x,H1,I1,r1,q1⟩:=bt;obtain⟨c,rfl,q1⟩:=q1;cases r1;refine cH ?_;cases c with
 |false=>exact hb pins s1 Z H1 Q I1 q1
 |true=>exact⟨.bl true,H1,I1,rfl,q1⟩
theorem Ro(ha:PE X a ta):PE X (.UnaryOp .Not a pos) (Yn ta):=by
 intro pins s Z H Q I h;refine UnaryOp_ (cP (ha pins s Z H _ I h) λv s1 bt=>?_);obtain⟨x,H1,I1,r1,q1⟩:=bt;obtain⟨c,rfl,q1⟩:=q1;cases r1;exact not_of (cH ⟨.bl (!c),H1,I1,rfl,q1⟩)
def MN(t:TT)(ta tb:TE):TE:=λZ H Q=>t Z H λc H1=>if c=true then ta Z H1 Q else tb Z H1 Q
theorem a75{c:Expr}(hc:PT X c tA)(ha:PE X a ta)(hb:PE X b tb):PE X (.IfExp c a b pos) (MN tA ta tb):=by
 intro pins s Z H Q I h;refine wpAny_IfExp (cP (hc pins s Z H _ I h) λd s1 ⟨H1,I1,q1⟩=>?_);cases d with
 |true=>exact ha pins s1 Z H1 Q I1 q1
 |false=>exact hb pins s1 Z H1 Q I1 q1
end
def fG(K:PySem.W.Frag)(H:Hp)(a:Addr)(xs:List V):Prop :=
 Rd H a (.lst xs) \/
  ∃(o:Obj) (aW:Array Value) (n:Nat),K.lookup a=some o/\o.cls=.type "list"/\o.dict=none/\o.data=.seq aW n/\aW.size<=sizeLine/\Vals xs aW.toList
def ip(K:PySem.W.Frag)(H:Hp)(a:Addr)(xs:List V):Prop :=
 Rd H a (.tup xs) \/
  ∃(o:Obj) (aW:Array Value) (n:Nat),K.lookup a=some o/\o.cls=.type "tuple"/\o.data=.seq aW n/\aW.size<=sizeLine/\Vals xs aW.toList
def Vl:Value->Option V
 |.none=>some .bQ
 |.bool b=>some (.bl b)
 |.int i _=>some (.int i)
 |.str x _=>some (.str x)
 |.bytes b _=>some (.ly b)
 |.float b _=>some (.rT b)
 |.ref a=>some (.ref a)
 |.type n=>some (.ty n)
 |_=>none
theorem RelV.abs{x:V}{u:Value}(r:RelV x u):Vl u=some x:=by
 cases x with
 |bQ=>cases r;rfl
 |bl _=>cases r;rfl
 |int _=>obtain⟨t,rfl⟩:=r;rfl
 |str _=>obtain⟨t,rfl⟩:=r;rfl
 |ly _=>obtain⟨t,rfl⟩:=r;rfl
 |rT _=>obtain⟨t,rfl⟩:=r;rfl
 |ref _=>cases r;rfl
 |ty _=>cases r;rfl
theorem RelV.inj{x y:V}{u:Value}(r:RelV x u)(q:RelV y u):x=y:=aO (r.abs.symm.trans q.abs)
theorem Vals.inj{xs ys:List V}{us:List Value}(h:Vals xs us)(h':Vals ys us):xs=ys:=by
 induction h generalizing ys with
 |nil=>cases h';rfl
 |cons r t ih =>
  cases h' with
  |cons r' t'=>rw[r.inj r',ih t']
section
variable{X:Cx}{pins:List (Addr×Obj)}{Z:St}{H:Hp}{s:Shared}{a:Addr}{xs ys:List V}
theorem fG.of{K:PySem.W.Frag}(h:H a=some (.lst xs)):fG K H a xs:=.inl (.inl h)
theorem Inv.list(I:Inv X pins Z H s)(h:fG X.K H a xs):∃aW:List Value,Vals xs aW/\PlainL s.heap a aW.toArray/\xs.length<=sizeLine:=by
 rcases h with h|⟨o,aW,n,hk,hc,hd,hs,hz,r⟩
 ·obtain⟨z,aW,n,r,e⟩:=h.ok I.bZ;exact⟨aW,r,⟨_,n,e,rfl,rfl,rfl⟩,z⟩
 ·refine⟨aW.toList,r,⟨o,n,I.gT a o hk,hc,hd,by simpa using hs⟩,?_⟩;have e:=r.length;simp only[Array.length_toList] at e;omega
theorem Inv.tuple(I:Inv X pins Z H s)(h:ip X.K H a xs):∃aW:List Value,Vals xs aW/\IsTup s.heap a aW.toArray/\xs.length<=sizeLine:=by
 rcases h with h|⟨o,aW,n,hk,hc,hs,hz,r⟩
 ·obtain⟨z,aW,r,p⟩:=h.ok I.bZ;exact⟨aW,r,p.tup,z⟩
 ·refine⟨aW.toList,r,⟨o,I.gT a o hk,hc,n,by simpa using hs⟩,?_⟩;have e:=r.length;simp only[Array.length_toList] at e;omega
theorem Inv.CL(I:Inv X pins Z H s)(h:fG X.K H a xs)(h':fG X.K H a ys):xs=ys:=by
 obtain⟨aW,r,⟨o,n,e,_,_,d⟩,_⟩:=I.list h;obtain⟨its',r',⟨o',n',e',_,_,d'⟩,_⟩:=I.list h';rw[e] at e';cases e';rw[d] at d';injection d' with d1 _;have:aW=its':=by simpa using dt Array.toList d1
 subst this;exact r.inj r'
theorem Inv.aT5(I:Inv X pins Z H s)(h:ip X.K H a xs)(h':ip X.K H a ys):xs=ys:=by
 obtain⟨aW,r,⟨o,e,_,n,d⟩,_⟩:=I.tuple h;obtain⟨its',r',⟨o',e',_,n',d'⟩,_⟩:=I.tuple h';rw[e] at e';cases e';rw[d] at d';injection d' with d1 _;have:aW=its':=by simpa using dt Array.toList d1
 subst this;exact r.inj r'
end
noncomputable abbrev Cx.Z0(X:Cx)(E:Value->Shared->Prop):Cx:={ X with xe:=E }
theorem Cx.Ok.Z0{X:Cx}(ok:X.Ok)(E:Value->Shared->Prop):(X.Z0 E).Ok :=
 ⟨ok.mod,ok.kind,ok.glob,ok.blt,ok.above,ok.inj,ok.has,ok.wk,ok.hd,ok.frames,ok.xo,ok.GV,ok.bs,ok.qd,ok.mY,ok.oN,ok.P6,ok.rR⟩
theorem Cx.Ok.BX{X:Cx}{E:Value->Shared->Prop}(ok:(X.Z0 E).Ok):X.Ok :=
 ⟨ok.mod,ok.kind,ok.glob,ok.blt,ok.above,ok.inj,ok.has,ok.wk,ok.hd,ok.frames,ok.xo,ok.GV,ok.bs,ok.qd,ok.mY,ok.oN,ok.P6,ok.rR⟩
section
variable{X:Cx}{pins:List (Addr×Obj)}{Z:St}{H:Hp}{s:Shared}{E:Value->Shared->Prop}
theorem Inv.Z0(I:Inv X pins Z H s)(E:Value->Shared->Prop):Inv (X.Z0 E) pins Z H s:=⟨I.ok.Z0 E,I.os,I.bare,I.base,I.loc,I.cell,I.free,I.fT,I.pin,I.bZ,I.len⟩
theorem Inv.BX(I:Inv (X.Z0 E) pins Z H s):Inv X pins Z H s:=⟨I.ok.BX,I.os,I.bare,I.base,I.loc,I.cell,I.free,I.fT,I.pin,I.bZ,I.len⟩
end
section
variable{X:Cx}{st:Stmt}{rest:List Stmt}{t u:TS}{e:Expr}{te:TE}{pos:Pos}
def Iv:TS:=λD Z H=>D.nx Z H
def Wz(t u:TS):TS:=λD Z H=>t { D with nx:=u D } Z H
theorem Up:jN X [] Iv:=λ_ _ Z H _ I h=>ub ⟨Z,H,I,h⟩
theorem a63(h1:PS X st t)(h2:jN X rest u):jN X (st::rest) (Wz t u):=by
 intro pins s Z H D I h;refine wpAny_execs_cons (cP (h1 pins s Z H { D with nx:=u D } I h) λf s1 q=>?_);cases f with
 |next =>
  obtain⟨cq,H',I',q⟩:=q;exact h2 pins s1 cq H' D I' q
 |ret v=>exact q
 |brk=>exact q
 |cont=>exact q
theorem Um:PS X (.Pass pos) Iv:=λ_ _ Z H _ I h=>wpAny_Pass ⟨Z,H,I,h⟩
theorem Inv.quiet{pins:List (Addr×Obj)}{Z:St}{H:Hp}{s:Shared}(I:Inv X pins Z H s):interactive X.env=false:=by simp[interactive,I.ok.kind]
def Ym(te:TE):TS:=λD Z H=>te Z H λ_ H1=>D.nx Z H1
theorem Ul(he:PE X e te)(hs:swapsWith e none pos.line X.env=pure false:=by rfl):PS X (.Expr e pos) (Ym te):=by
 intro pins s Z H D I h;exact wpAny_Expr_any (cP (he pins s Z H _ I h) λv s1 ⟨x,H1,I1,r1,q1⟩=>⟨Z,H1,I1,q1⟩) I.quiet hs
def Wx(te:TE):TS:=λD Z H=>te Z H D.rt
theorem RC(he:PE X e te):PS X (.Return (some e) pos) (Wx te):=by
 intro pins s Z H D I h;exact wpAny_Return_some (cP (he pins s Z H _ I h) λv s1 ⟨x,H1,I1,r1,q1⟩=>⟨x,Z,H1,I1,r1,q1⟩)
def Yp:TS:=λD _ H=>D.rt .bQ H
theorem Uo:PS X (.Return none pos) Yp:=λ_ _ Z H _ I h=>wpAny_Return_none ⟨.bQ,Z,H,I,rfl,h⟩
def Ws(c:TT)(t u:TS):TS:=λD Z H=>c Z H λb H1=>if b=true then t D Z H1 else u D Z H1
theorem XT{c:Expr}{a b:List Stmt}{tc:TT}(hc:PT X c tc)(ha:jN X a t)(hb:jN X b u):PS X (.If c a b pos) (Ws tc t u):=by
 intro pins s Z H D I h;refine wpAny_If (cP (hc pins s Z H _ I h) λd s1 ⟨H1,I1,q1⟩=>?_);cases d with
 |true=>exact ha pins s1 Z H1 D I1 q1
 |false=>exact hb pins s1 Z H1 D I1 q1
end
noncomputable abbrev TG:=V->St->Hp->(St->Hp->Prop)->Prop
noncomputable abbrev qk:=List V->St->Hp->(St->Hp->Prop)->Prop
def PG(X:Cx)(target:Expr)(t:TG):Prop :=
 ∀(pins:List (Addr×Obj)) (s:Shared) (Z:St) (H:Hp) (v:V) (u:Value) (Q:St->Hp->Prop),Inv X pins Z H s->RelV v u->t v Z H Q ->
  wpAny (model X.prog X.w) X.A (assign target X.env u) (λ_ s'=>∃cq H',Inv X pins cq H' s'/\Q cq H') X.xe s
def wV(X:Cx)(ts:List Expr)(t:qk):Prop :=
 ∀(pins:List (Addr×Obj)) (s:Shared) (Z:St) (H:Hp) (vs:List V) (us:List Value) (Q:St->Hp->Prop),Inv X pins Z H s->Vals vs us->t vs Z H Q ->
  wpAny (model X.prog X.w) X.A (assignInOrder ((assignEach ts X.env).map (·.2)) us) (λ_ s'=>∃cq H',Inv X pins cq H' s'/\Q cq H') X.xe s
noncomputable abbrev BQ:=V->V->V->Hp->(Hp->Prop)->Prop
def BP(X:Cx)(t:BQ):Prop :=
 ∀(pins:List (Addr×Obj)) (s:Shared) (Z:St) (H:Hp) (o i v:V) (ov iv u:Value) (Q:Hp->Prop),Inv X pins Z H s->RelV o ov->RelV i iv->RelV v u->t o i v H Q ->
  wpAny (model X.prog X.w) X.A (setItem ov iv u) (λ_ s'=>∃H',Inv X pins Z H' s'/\Q H') X.xe s
noncomputable abbrev Ey:=V->V->Hp->VK->Prop
def Mb(X:Cx)(op:Operator)(t:Ey):Prop :=
 ∀(pins:List (Addr×Obj)) (s:Shared) (Z:St) (H:Hp) (x y:V) (v u:Value) (Q:VK),Inv X pins Z H s->RelV x v->RelV y u->t x y H Q ->
  wpAny (model X.prog X.w) X.A (inplaceOp op v u) (EP X pins Z Q) X.xe s
section
variable{X:Cx}{pos:Pos}
def tW(i:Nat):TG:=λv Z H Q=>Q (Z.set i (some v)) H
theorem KY{i:Nat}{x:Str}(hN:X.N.Nodup)(hi:X.N[i]?=some x)(hx:Loc X.env.scope x)(hf:X.fn x=true\/X.env.scope.names.lookup x=some .local:=by first|exact .inl rfl|exact .inr rfl|assumption):PG X (.Name x pos) (tW i):=by
 intro pins s Z H v u Q I r h;exact wpAny_assign_Name (R7 I hN hi hx r (λs' I'=>⟨_,H,I',h⟩) hf)
def IF:qk:=λvs Z H Q=>vs=[]/\Q Z H
def HZ(t:TG)(u:qk):qk:=λvs Z H Q=>∃v r,vs=v::r/\t v Z H λcq H'=>u r cq H' Q
theorem Ui:wV X [] IF:=by
 intro pins s Z H vs us Q I r h;obtain⟨e,h⟩:=h;subst e;cases r;exact assignInOrder_nil ⟨Z,H,I,h⟩
theorem a70{e:Expr}{es:List Expr}{t:TG}{u:qk}(h1:PG X e t)(h2:wV X es u)(hs:(assignEach (e::es) X.env).map (·.2)=assign e X.env::(assignEach es X.env).map (·.2):=by rfl):wV X (e::es) (HZ t u):=by
 intro pins s Z H vs us Q I r h;obtain⟨v,vr,e1,h⟩:=h;subst e1;cases r with
 |cons r rr =>
  rw[hs];refine xa (cP (h1 pins s Z H _ _ _ I r h) λ_ s1 bt=>?_);obtain⟨iQ,H1,I1,q1⟩:=bt;exact h2 pins s1 iQ H1 _ _ Q I1 rr q1
def VC(K:PySem.W.Frag)(n:Nat)(t:qk):TG:=λv Z H Q=>∃a xs,v=.ref a/\ip K H a xs/\xs.length=n/\t xs Z H Q
theorem Rv{es:List Expr}{k:Nat}{t:qk}{n:Nat}(hc:X.calm=true)(h:wV X es t)(hn:(assignEach es X.env).length=n:=by rfl)(fc:(assignEach es X.env).findIdx? (·.1)=none:=by rfl):PG X (.Tuple es k pos) (VC X.K n t):=by
 intro pins s Z H v u Q I r hw;obtain⟨a,xs,e1,hq,hl,hw⟩:=hw;subst e1;cases r;obtain⟨aW,rv,ht,hz⟩:=I.tuple hq;refine assign_Tuple_tuple (I.ok.hd hc) ht (by simp[hn,<- hl,rv.length]) fc λh' hx=>?_;have I1:Inv X pins Z H { s with heap:=h' }:=I.kept (t':=s.toks) λb o e=>hx b o (aN (ax e)) e;exact h pins _ Z H xs _ Q I1 (by simpa using rv) hw
def VB(to ti:TE)(t:BQ):TG:=λv Z H Q=>to Z H λo H1=>ti Z H1 λi H2=>t o i v H2 λH3=>Q Z H3
theorem Ru{o i:Expr}{to ti:TE}{t:BQ}(ho:PE X o to)(hi:PE X i ti)(hs:BP X t)(ha:∀ v,assign (.Subscript o i pos) X.env v=(do
   let ov <- holding [v] (eval o X.env)
   let iv <- holding [v,ov] (eval i X.env)
   standAt pos
   holding [v,ov,iv] (setItem ov iv v)
   release [v,ov,iv] []):=by intro _;rfl):PG X (.Subscript o i pos) (VB to ti t):=by
 intro pins s Z H v u Q I r h;rw[ha];refine ae (bP (cP (ho pins s Z H _ I h) λov s1 bt=>?_));obtain⟨x,H1,I1,r1,q1⟩:=bt;refine ae (bP (cP (hi pins s1 Z H1 _ I1 q1) λiv s2 bt=>?_));obtain⟨y,H2,I2,r2,q2⟩:=bt;refine ae (eE (ae (bP (cP (hs pins s2 Z H2 x y v ov iv u _ I2 r1 r2 r q2) λ_ s3 ⟨H3,I3,q3⟩=>?_))));exact wpAny_release ⟨Z,H3,I3,q3⟩
def wm(te:TE)(g:TG):TS:=λD Z H=>te Z H λx H1=>g x Z H1 D.nx
theorem Kq{tg e:Expr}{te:TE}{g:TG}(he:PE X e te)(hg:PG X tg g)(hs:swapsWithSole [tg] e pos.line X.env=pure false:=by rfl)(hw:swappedStores [tg] e X.env=pure none:=by rfl)(h1:(assignEach [tg] X.env).map (·.2)=[assign tg X.env]:=by rfl):PS X (.Assign [tg] e pos) (wm te g):=by
 intro pins s Z H D I h;refine wpAny_Assign_stores (cP (he pins s Z H _ I h) λv s1 bt=>?_) hs hw;obtain⟨x,H1,I1,r1,q1⟩:=bt;rw[h1];exact cP (hg pins s1 Z H1 x v _ I1 r1 q1) λ_ s2 q=>q
theorem Kr{i:Nat}{x:Str}{e:Expr}{te:TE}{pos':Pos}(hN:X.N.Nodup)(hi:X.N[i]?=some x)(hx:Loc X.env.scope x)(he:PE X e te)(hs:swapsWith e (some (.Name x pos')) pos.line X.env=pure false:=by rfl)(hf:X.fn x=true\/X.env.scope.names.lookup x=some .local:=by first|exact .inl rfl|exact .inr rfl|assumption) :
  PS X (.Assign [.Name x pos'] e pos) (wm te (tW i)):=by
 intro pins s Z H D I h;refine wpAny_Assign_Name (cP (he pins s Z H _ I h) λv s1 bt=>?_) hs;obtain⟨y,H1,I1,r1,q1⟩:=bt;exact R7 I1 hN hi hx r1 (λs2 I2=>⟨_,H1,I2,q1⟩) hf
def Ww(i j:Nat)(ta:TA):TS:=λD Z H=>ta Z H λvs H1=>∃v w,vs=[v,w]/\D.nx ((Z.set i (some v)).set j (some w)) H1
theorem RB{i j:Nat}{x y:Str}{a b:Expr}{ta:TA}{px py pt:Pos}{kt k2 pE}(hc:X.calm=true)(hN:X.N.Nodup)(hi:X.N[i]?=some x)(hj:X.N[j]?=some y)(jn:i≠j)(hx:X.env.scope.names.lookup x=some .local)(hy:X.env.scope.names.lookup y=some .local)(ha:PA X [a,b] ta)(hw:swappedStores [.Tuple [.Name x px,.Name y py] kt pt] (.Tuple [a,b] k2 pE) X.env=pure (some [x,y]))(hs:swapsWithSole [.Tuple [.Name x px,.Name y py] kt pt] (.Tuple [a,b] k2 pE) pos.line X.env=pure false:=by rfl) :
  PS X (.Assign [.Tuple [.Name x px,.Name y py] kt pt] (.Tuple [a,b] k2 pE) pos) (Ww i j ta):=by
 intro pins s Z H D I h;rw[exec_Assign_arm];refine ae (eE ?_);rw[hs];refine ae (au ?_);rw[aD (by decide)];refine ae (Tuple_ (cP (ha _ pins s Z H _ I h) λus s1 bt=>?_));obtain⟨vs,H1,I1,r1,q1⟩:=bt;obtain⟨v,w,e1,q1⟩:=q1;subst e1;obtain⟨u1,u2,rfl,rv,fJ⟩:∃u1 u2,us=[u1,u2]/\RelV v u1/\RelV w u2:=by
  cases r1 with
  |cons p q =>
   cases q with
   |cons p' q' =>
    cases q';exact⟨_,_,rfl,p,p'⟩
 refine bV ?_ (by show 2<=sizeLine;decide);have I2:Inv X pins Z H1 { s1 with heap:=s1.heap.push { cls:=.type "tuple",data:=.seq [u1,u2].toArray } }:=I1.kept (t':=s1.toks) λb o e=>ao _ e;rw[hw];refine ae (au ?_);show wpAny (model X.prog X.w) X.A (do rule "assign.swapped-stores";let items <- unpackItems (.ref s1.heap.objs.size) 2 none;assignInOrder [λv=>bindName X.env y v,λv=>bindName X.env x v] items.reverse;pure Flow.next) _ _ _;refine ae (fm (ae (unpackItems_tuple (items:=#[u1,u2]) (I.ok.hd hc) (IsTup.new s1.heap _) λh' pJ=>?_)));have I3:=I2.kept (h':=h') (t':=s1.toks) λb o e=>pJ b o (aN (ax e)) e;show wpAny _ _ (assignInOrder [λv=>bindName X.env y v,λv=>bindName X.env x v] [u2,u1] >>= λ_=>pure Flow.next) _ _ _;refine ae (xa (wpAny_bindName (R7 I3 hN hj (.inl hy) fJ (λs2 I4=>?_) (.inr hy))));refine xa (wpAny_bindName (R7 I4 hN hi (.inl hx) rv (λs3 I5=>assignInOrder_nil (au ?_)) (.inr hx)));rw[List.set_comm _ _ (bT jn)] at I5;exact⟨_,H1,I5,q1⟩
def Wn(i:Nat)(te:TE)(ti:Ey):TS:=λD Z H=>∃x,Z[i]?=some (some x)/\te Z H λy H1=>ti x y H1 λz H2=>D.nx (Z.set i (some z)) H2
theorem Ry{i:Nat}{x:Str}{e:Expr}{te:TE}{op:Operator}{ti:Ey}{pos':Pos}(hN:X.N.Nodup)(hi:X.N[i]?=some x)(hx:Loc X.env.scope x)(he:PE X e te)(ho:Mb X op ti)(hf:X.fn x=true\/X.env.scope.names.lookup x=some .local:=by first|exact .inl rfl|exact .inr rfl|assumption) :
  PS X (.AugAssign (.Name x pos') op e pos) (Wn i te ti):=by
 intro pins s Z H D I h;obtain⟨v,e1,h⟩:=h;obtain⟨m,hn,hl⟩:=I.loc;have uy:wQ X.env.scope x:=by rcases hx with k|k;exact .inl k;exact .inr (.inl k)
 obtain⟨u,r,l⟩:=hl i x v hi e1 uy;refine wpAny_AugAssign_Name ?_;have go:wpAny (model X.prog X.w) X.A (eval e X.env) (λw gZ=>wpAny (model X.prog X.w) X.A (inplaceOp op u w) (λr ft=>wpAny (model X.prog X.w) X.A (storeName X.env x r) (λ_=>SP X pins D .next) X.xe ft) X.xe gZ) X.xe s:=by
  refine cP (he pins s Z H _ I h) λw s1 bt=>?_;obtain⟨y,H1,I1,r1,q1⟩:=bt;refine cP (ho pins s1 Z H1 v y u w _ I1 r r1 q1) λz s2 bt=>?_;obtain⟨zv,H2,I2,r2,q2⟩:=bt;exact R7 I2 hN hi hx r2 (λs3 I3=>⟨_,H2,I3,q2⟩) hf
 rcases l with⟨hk,hm⟩|⟨hk,c,hc,lh⟩
 ·exact wpAny_loadName_local I.ok.kind hk hn hm go
 ·rcases hk with hk|hk
  ·exact wpAny_loadName_cell I.ok.kind hk hc lh go
  ·rcases hx with k|k
   ·have:X.env.scope.names.lookup x=some .free:=hk;rw[k] at this;cases this
   ·have:X.env.scope.names.lookup x=some .free:=hk;rw[k] at this;cases this
end
section
variable{X:Cx}{pos:Pos}
def SD(c:TT)(tb:TS):TS:=λD Z H=>∃W:Nat->St->Hp->Prop,(∃m,W m Z H)/\∀m Z H,W m Z H ->
 c Z H λb H1=>if b=true then ∃N:St->Hp->Prop,(∀cq H',N cq H'->∃m',m'<m/\W m' cq H')/\tb { D with nx:=N,ct:=N,bk:=D.nx } Z H1 else D.nx Z H1
theorem a64{c:Expr}{body:List Stmt}{tc:TT}{tb:TS}(hp:PassesOwn (model X.prog X.w) X.A X.env X.xe)(hc:PT X c tc)(hb:jN X body tb):PS X (.While c body [] pos) (SD tc tb):=by
 intro pins s Z H D I h;obtain⟨W,⟨m0,w0⟩,turn⟩:=h;refine wpAny_While (codeAny_whileLoop (λn s'=>∃cq H',Inv X pins cq H' s'/\W n cq H') ?_ m0 ⟨Z,H,I,w0⟩);rintro n s1 ⟨iQ,H1,I1,w1⟩;refine eh hp (cP (hc pins s1 iQ H1 _ I1 (turn n iQ H1 w1)) λb s2 ⟨H2,I2,q2⟩=>?_);cases b with
 |true =>
  obtain⟨N,hN,q2⟩:=q2;rw[aK rfl];refine eh hp (cP (hb pins s2 iQ H2 _ I2 q2) λf s3 q3=>?_);cases f with
  |next =>
   obtain⟨iF,H3,I3,n3⟩:=q3;obtain⟨m',hm,w3⟩:=hN iF H3 n3;exact⟨m',hm,iF,H3,I3,w3⟩
  |cont =>
   obtain⟨iF,H3,I3,n3⟩:=q3;obtain⟨m',hm,w3⟩:=hN iF H3 n3;exact⟨m',hm,iF,H3,I3,w3⟩
  |brk=>exact q3
  |ret v=>exact q3
 |false =>
  rw[aD bG];exact ub ⟨iQ,H2,I2,q2⟩
end
structure It where
 go:Nat->Hp->Prop
 qx:Nat->Hp->V->Hp->Prop
 stop:Nat->Hp->Prop
def C8(X:Cx)(pins:List (Addr×Obj))(H:Hp)(b:Addr):Prop :=
 H b=none/\b≠X.env.locals/\b∉X.fs/\(b∈X.ex\/X.dC.heap.objs.size<=b)/\(∀x c,X.env.cells.lookup x=some c->c≠b)/\∀p∈X.pn++pins,p.1≠b
theorem Inv.qg{X:Cx}{pins:List (Addr×Obj)}{Z:St}{H H':Hp}{s:Shared}{b:Addr}(I:Inv X pins Z H s)(hb:s.heap.objs.size<=b)(hn:H' b=none):C8 X pins H' b:=by
 refine⟨hn,bE (ay I.lt hb),I.wN hb,.inr (aE I.sz hb),λx c e z=>?_,λp hp z=>?_⟩
 ·obtain⟨v,q⟩:=I.cell x c e;exact absurd (ay q.lt (by rw[z];exact hb)) (bw _)
 ·exact absurd (ay (ax (I.pin p hp).1) (by rw[z];exact hb)) (bw _)
structure Turn(P:Program)(w:World)(K:PySem.W.Frag)(tg:Expr)(J:It)(fp:List Addr)(it:Addr)(tn:Nat->Heap->Prop):Prop where
 mem:it∈fp
 obj:∀i h,tn i h->∀b∈fp,∃o,h.get? b=some o/\∀v,o.data≠.cell v
 keep:∀i h h',tn i h->(∀b∈fp,∀o,h.get? b=some o->h'.get? b=some o)->tn i h'
 item:∀(X:Cx),X.prog=P->X.w=w->X.K=K->X.calm=true->∀(i:Nat) (pins:List (Addr×Obj)) (s:Shared) (Z:St) (H:Hp) (E:Value->Shared->Prop),Inv X pins Z H s->(∀b∈fp,C8 X pins H b)->tn i s.heap->J.go i H ->
  wpAny (model P w) X.A (pyNext (.ref it)) (λr s1=>∃ u,r=some u /\
   wpAny (model P w) X.A (letOwnedTupleGo tg (.ref it) u) (λ_ s2=>∃ x H',Inv X pins Z H' s2/\RelV x u/\J.qx i H x H'/\tn (i + 1) s2.heap/\∀ b ∈ fp,H' b=none) E s1) E s
 done:∀(X:Cx),X.prog=P->X.w=w->X.K=K->X.calm=true->∀(i:Nat) (pins:List (Addr×Obj)) (s:Shared) (Z:St) (H:Hp) (E:Value->Shared->Prop),Inv X pins Z H s->(∀b∈fp,C8 X pins H b)->tn i s.heap->J.stop i H ->
  wpAny (model P w) X.A (pyNext (.ref it)) (λr s1=>r=none/\Inv X pins Z H s1) E s
 self:∀(A:Around) (i:Nat) (s:Shared) (Q:Value->Shared->Prop) (E:Value->Shared->Prop),tn i s.heap->Q (.ref it) s->wpAny (model P w) A (pyIter (.ref it)) Q E s
noncomputable abbrev TI:=St->Hp->(It->Hp->Prop)->Prop
def Mc(X:Cx)(pins:List (Addr×Obj))(Z:St)(tg:Expr)(R:It->Hp->Prop)(ve:Value)(s2:Shared):Prop :=
 ∃(it:Addr) (fp:List Addr) (tn:Nat->Heap->Prop) (J:It) (H':Hp),ve=.ref it/\Inv X pins Z H' s2/\Turn X.prog X.w X.K tg J fp it tn/\tn 0 s2.heap/\(∀b∈fp,C8 X pins H' b)/\R J H'
def PI(X:Cx)(tg iter:Expr)(wi:TI):Prop :=
 ∀(pins:List (Addr×Obj)) (s:Shared) (Z:St) (H:Hp) (R:It->Hp->Prop),Inv X pins Z H s->wi Z H R ->
  wpAny (model X.prog X.w) X.A (eval iter X.env) (λv s1=>wpAny (model X.prog X.w) X.A (pyIter v) (Mc X pins Z tg R) X.xe s1) X.xe s
theorem yj{M:Model}{A:Around}{E:Value->Shared->Prop}{s:Shared}{tg:Expr}{it:Addr}{u:Value}{o:Obj}{n:String}{vs:Array Value}{Q:Unit->Shared->Prop}(ho:s.heap.get? it=some o)(hc:o.cls=.type n)(hd:o.data=.fields vs)(hn:["enumerate","zip","dict_itemiterator","dict_reverseitemiterator","odict_iterator","itertools.zip_longest","itertools.pairwise"].contains n=false)(hQ:Q () s):wpAny M A (letOwnedTupleGo tg (.ref it) u) Q E s:=by
  unfold letOwnedTupleGo;cases tg<;>first
    |exact au hQ
    | (cases u <;> first
        |exact au hQ
        | (refine ae (wpAny_load ho ?_)
           rw[hc,hd];show wpAny M A (if(["enumerate","zip","dict_itemiterator","dict_reverseitemiterator","odict_iterator","itertools.zip_longest","itertools.pairwise"].contains n&&vs[0]?==some (rawInt _))=true then _ else _) Q E s;rw[aD (by intro h;rw[hn,Bool.false_and] at h;cases h)];exact au hQ))
def EB(K:PySem.W.Frag)(a:Addr):It :=
 ⟨λi H=>∃xs x,fG K H a xs/\xs[i]?=some x,λi H x H'=>H'=H/\∀xs,fG K H a xs->xs[i]?=some x,λi H=>∃xs,fG K H a xs/\xs.length<=i⟩
def EA(K:PySem.W.Frag)(a:Addr):It :=
 ⟨λi H=>∃xs x,ip K H a xs/\xs[i]?=some x,λi H x H'=>H'=H/\∀xs,ip K H a xs->xs[i]?=some x,λi H=>∃xs,ip K H a xs/\xs.length<=i⟩
def wX(lo:Int)(n:Nat):It:=⟨λi _=>i<n,λi H x H'=>H'=H/\x=.int (lo+i),λi _=>n<=i⟩
theorem aT2{P:Program}{w:World}{K:PySem.W.Frag}{tg:Expr}(a it:Addr):Turn P w K tg (EB K a) [it] it (λi h=>h.IsListIter it a i) where
 mem:=by simp
 obj:=λi h st b hb=>by
  have e:b=it:=by simpa using hb
  subst e;obtain⟨o,e,c,d⟩:=st;exact⟨o,e,λv z=>by rw[d] at z;cases z⟩
 keep:=λi h h' st k=>st.at λo e=>k it (by simp) o e
 item:=by
  intro X hP hw hK hc i pins s Z H E I hf st hg;subst hP hw hK;obtain⟨xs,x,hq,hx⟩:=hg;obtain⟨aW,rv,p,hz⟩:=I.list hq;obtain⟨u,hu,ru⟩:=rv.get hx;obtain⟨f0,f1,f2,f3,f4,f5⟩:=hf it (by simp);refine wpAny_pyNext_list_item st p.isList (x:=u) (by simpa using hu) λh' lK sb=>?_;have I1:Inv X pins Z H { s with heap:=h' }:=I.turned (t':=s.toks) (λb o hb e=>(sb.2 b hb).trans e) f0 f1 f3 f4 f5;obtain⟨o,e,c,d⟩:=id lK;exact⟨u,rfl,yj (s:={ s with heap:=h' }) e c d (by decide) ⟨x,H,I1,ru,⟨rfl,λys hy=>by rw[I.CL hy hq];exact hx⟩,lK,λb hb=>(hf b hb).1⟩⟩
 done:=by
  intro X hP hw hK hc i pins s Z H E I hf st hg;subst hP hw hK;obtain⟨xs,hq,hx⟩:=hg;obtain⟨aW,rv,p,hz⟩:=I.list hq;obtain⟨f0,f1,f2,f3,f4,f5⟩:=hf it (by simp);have hl:=rv.length;exact wpAny_pyNext_list_end (I.ok.hd hc) st p.isList (by simp;omega) λh' eb=>⟨rfl,I.turned (t':=s.toks) (λb o hb e=>eb b o hb e) f0 f1 f3 f4 f5⟩
 self:=λ_ _ _ _ _ st h=>wpAny_pyIter_listiter st h
theorem aM1{P:Program}{w:World}{K:PySem.W.Frag}{tg:Expr}(a it:Addr):Turn P w K tg (EA K a) [it] it (λi h=>h.IsTupleIter it a i) where
 mem:=by simp
 obj:=λi h st b hb=>by
  have e:b=it:=by simpa using hb
  subst e;obtain⟨o,e,c,d⟩:=st;exact⟨o,e,λv z=>by rw[d] at z;cases z⟩
 keep:=λi h h' st k=>st.at λo e=>k it (by simp) o e
 item:=by
  intro X hP hw hK hc i pins s Z H E I hf st hg;subst hP hw hK;obtain⟨xs,x,hq,hx⟩:=hg;obtain⟨aW,rv,p,hz⟩:=I.tuple hq;obtain⟨u,hu,ru⟩:=rv.get hx;obtain⟨f0,f1,f2,f3,f4,f5⟩:=hf it (by simp);refine wpAny_pyNext_tuple_item st (show s.heap.IsTuple a aW.toArray from p) (x:=u) (by simpa using hu) λh' lK sb=>?_;have I1:Inv X pins Z H { s with heap:=h' }:=I.turned (t':=s.toks) (λb o hb e=>(sb.2 b hb).trans e) f0 f1 f3 f4 f5;obtain⟨o,e,c,d⟩:=id lK;exact⟨u,rfl,yj (s:={ s with heap:=h' }) e c d (by decide) ⟨x,H,I1,ru,⟨rfl,λys hy=>by rw[I.aT5 hy hq];exact hx⟩,lK,λb hb=>(hf b hb).1⟩⟩
 done:=by
  intro X hP hw hK hc i pins s Z H E I hf st hg;subst hP hw hK;obtain⟨xs,hq,hx⟩:=hg;obtain⟨aW,rv,p,hz⟩:=I.tuple hq;obtain⟨f0,f1,f2,f3,f4,f5⟩:=hf it (by simp);have hl:=rv.length;exact wpAny_pyNext_tuple_end (I.ok.hd hc) st (show s.heap.IsTuple a aW.toArray from p) (by simp;omega) λh' eb=>⟨rfl,I.turned (t':=s.toks) (λb o hb e=>eb b o hb e) f0 f1 f3 f4 f5⟩
 self:=λ_ _ _ _ _ st h=>wpAny_pyIter_tupleiter st h
theorem aM3{P:Program}{w:World}{K:PySem.W.Frag}{tg:Expr}(it:Addr)(lo:Int)(n:Nat):Turn P w K tg (wX lo n) [it] it (λi h=>IsRangeIter h it (lo+(i:Nat)*1) ((n:Int)-(i:Nat)) 1) where
 mem:=by simp
 obj:=λi h st b hb=>by
  have e:b=it:=by simpa using hb
  subst e;exact ⟨_,st,λv z=>by
   have z':Data.fields _=Data.cell v:=z;cases z'⟩
 keep:=λi h h' st k=>k it (by simp) _ st
 item:=by
  intro X hP hw hK hc i pins s Z H E I hf st hg;subst hP hw hK;obtain⟨f0,f1,f2,f3,f4,f5⟩:=hf it (by simp);have W:=Walks.range (prog:=X.prog) (w:=X.w) (I.ok.hd hc) it lo 1 n;refine W.item i s _ _ hg st λv h' tk hv lK kk=>?_;obtain⟨t,rfl⟩:=hv;have I1:Inv X pins Z H { s with heap:=h',toks:=tk }:=I.turned (λb o hb e=>kk b o (by simpa using hb) e) f0 f1 f3 f4 f5;refine⟨_,rfl,yj (s:={ s with heap:=h',toks:=tk }) (n:="range_iterator") lK rfl rfl (by decide) ⟨.int (lo+i),H,I1,⟨t,?_⟩,⟨rfl,rfl⟩,lK,λb hb=>(hf b hb).1⟩⟩;rw[Int.mul_one]
 done:=by
  intro X hP hw hK hc i pins s Z H E I hf st hg;subst hP hw hK;obtain⟨f0,f1,f2,f3,f4,f5⟩:=hf it (by simp);exact wpAny_pyNext_range_end (I.ok.hd hc) st (by have:n<=i:=hg;omega) λh' eb=>⟨rfl,I.turned (t':=s.toks) (λb o hb e=>eb b o hb e) f0 f1 f3 f4 f5⟩
 self:=λ_ _ _ _ _ st h=>wpAny_pyIter_rangeiter st h
section
variable{X:Cx}{tg:Expr}
theorem LL{pins:List (Addr×Obj)}{Z:St}{H:Hp}{s:Shared}{R:It->Hp->Prop}{E:Value->Shared->Prop}{lo hi:Int}{t u v:Tok}{tk:Nat}(I:Inv X pins Z H s)(h1:-(2 ^ 62)<=lo)(h2:lo<2 ^ 62)(h3:-(2 ^ 62)<=hi)(h4:hi<2 ^ 62)(q:R (wX lo (hi-lo).toNat) H):wpAny (model X.prog X.w) X.A (pyIter (.ref s.heap.objs.size)) (Mc X pins Z tg R) E { s with heap:=s.heap.push { cls:=.type "range",data:=.fields #[.int lo t,.int hi u,.int 1 v] },toks:=tk }:=by
 refine wpAny_pyIter_range (IsRange.new ..) (small_one h1 h2 h3 h4) ?_;have I1:Inv X pins Z H { s with heap:=s.heap.push { cls:=.type "range",data:=.fields #[.int lo t,.int hi u,.int 1 v] },toks:=tk }:=I.kept λb o e=>ao _ e;refine ⟨(s.heap.push { cls:=.type "range",data:=.fields #[.int lo t,.int hi u,.int 1 v] }).objs.size,[(s.heap.push { cls:=.type "range",data:=.fields #[.int lo t,.int hi u,.int 1 v] }).objs.size],_,_,H,rfl,
  I1.kept (t':=tk) λb o e=>ao _ e,aM3 _ lo (hi - lo).toNat,?_,λb hb=>?_,q⟩
 ·have e1:lo+((0:Nat):Int)*1=lo:=by simp
  have e2:(((hi-lo).toNat:Nat):Int)-((0:Nat):Int)=Builtin.Range.rangeSize lo hi 1:=by rw[rangeSize_one];split<;>omega
  show IsRangeIter _ _ (lo+((0:Nat):Int)*1) ((((hi-lo).toNat:Nat):Int)-((0:Nat):Int)) 1;rw[e1,e2];exact az _ rfl
 ·have e:b=(s.heap.push { cls:=.type "range",data:=.fields #[.int lo t,.int hi u,.int 1 v] }).objs.size:=by simpa using hb
  subst e;exact I1.qg (av _) (I1.bZ.fresh (av _))
def Xc(ta:TA):TI:=λZ H R=>ta Z H λvs H1=>∃j:Int,vs=[.int j]/\-(2 ^ 62)<=j/\j<2 ^ 62/\R (wX 0 j.toNat) H1
def Xd(ta:TA):TI:=λZ H R=>ta Z H λvs H1=>∃i j:Int,vs=[.int i,.int j]/\(-(2 ^ 62)<=i/\i<2 ^ 62/\-(2 ^ 62)<=j/\j<2 ^ 62)/\R (wX i (j-i).toNat) H1
theorem ZX{a:Expr}{ta:TA}{p pos:Pos}(hg:Gl X "range")(hm:X.mg "range"=none)(ha:PA X [a] ta)(hs:starEach [a] X.env=[(false,eval a X.env)]:=by rfl):PI X tg (.Call (.Name "range" p) [a] [] pos) (Xc ta):=by
 intro pins s Z H R I h;refine Call_ (L4 I hg hm boot_range (bN (cP (ha pos pins s Z H _ I h) λus s1 bt=>?_) hs rfl));obtain⟨vs,H1,I1,r1,q1⟩:=bt;obtain⟨j,e,q1,q2,q⟩:=q1;subst e;cases r1 with
 |cons r rr =>
  cases rr;obtain⟨t,rfl⟩:=r;exact call_range_1 (LL I1 (by omega) (by omega) q1 q2 (by simpa using q))
theorem ZY{a b:Expr}{ta:TA}{p pos:Pos}(hg:Gl X "range")(hm:X.mg "range"=none)(ha:PA X [a,b] ta)(hs:starEach [a,b] X.env=[(false,eval a X.env),(false,eval b X.env)]:=by rfl)(jm:starEach [b] X.env=[(false,eval b X.env)]:=by rfl) :
  PI X tg (.Call (.Name "range" p) [a,b] [] pos) (Xd ta):=by
 intro pins s Z H R I h;refine Call_ (L4 I hg hm boot_range (bN (cP (ha pos pins s Z H _ I h) λus s1 bt=>?_) (by rw[hs,jm]) (by rw[jm];rfl)));obtain⟨vs,H1,I1,r1,q1⟩:=bt;obtain⟨i,j,e,⟨q1,q2,q3,q4⟩,q⟩:=q1;subst e;cases r1 with
 |cons r rr =>
  cases rr with
  |cons r' rr =>
   cases rr;obtain⟨t,rfl⟩:=r;obtain⟨t',rfl⟩:=r';exact call_range_2 (LL I1 q1 q2 q3 q4 q)
def Wr(wi:TI)(g:TG)(tb:TS):TS:=λD Z H=>wi Z H λJ H1=>∃W:Nat->Nat->St->Hp->Prop,(∃m,W 0 m Z H1)/\∀i m Z H,W i m Z H ->
 (J.stop i H/\D.nx Z H)\/(J.go i H/\∃N:St->Hp->Prop,(∀cq H',N cq H'->∃m',m'<m/\W (i+1) m' cq H')/\∀x H',J.qx i H x H'->g x Z H' λcK H2=>tb { D with nx:=N,ct:=N,bk:=D.nx } cK H2)
def X7(fp:List Addr)(h:Heap):List (Addr×Obj):=fp.filterMap λb=>(h.get? b).map λo=>(b,o)
theorem Q2{fp:List Addr}{h:Heap}{b:Addr}{o:Obj}(hb:b∈fp)(e:h.get? b=some o):(b,o)∈X7 fp h:=jW.mpr ⟨b,hb,by rw[e];rfl⟩
theorem ZL{fp:List Addr}{h:Heap}{p:Addr×Obj}(hp:p∈X7 fp h):p.1∈fp/\h.get? p.1=some p.2:=by
 obtain⟨b,hb,e⟩:=jW.mp hp;cases q:h.get? b with
 |none=>rw[q] at e;cases e
 |some o =>
  rw[q] at e;have e':(b,o)=p:=aO e;subst e';exact⟨hb,q⟩
theorem Inv.pinned{pins:List (Addr×Obj)}{Z:St}{H:Hp}{s:Shared}{fp:List Addr}(I:Inv X pins Z H s)(hf:∀b∈fp,C8 X pins H b)(ho:∀b∈fp,∃o,s.heap.get? b=some o/\∀v,o.data≠.cell v):Inv X (pins++X7 fp s.heap) Z H s :=
 I.K3 λp hp=>(aV.mp hp).elim (λz=>I.pin p (bq _ z)) λz=>by
  obtain⟨hb,e⟩:=ZL z;obtain⟨f0,f1,f2,_⟩:=hf p.1 hb;obtain⟨o,e',d⟩:=ho p.1 hb;rw[e] at e';cases e';exact⟨e,f0,f1,f2,d⟩
theorem Inv.CT{pins pl:List (Addr×Obj)}{Z:St}{H:Hp}{s:Shared}(I:Inv X (pins++pl) Z H s):Inv X pins Z H s:=I.K3 λp hp=>I.pin p (bq _ (bD _ hp))
theorem RA{iter:Expr}{body:List Stmt}{wi:TI}{g:TG}{tb:TS}{pos:Pos}(hp:PassesOwn (model X.prog X.w) X.A X.env X.xe)(hc:X.calm=true)(hi:PI X tg iter wi)(hg:PG X tg g)(hb:jN X body tb)(hs:∀x,foldedSetIterable iter X.env x=pure x:=by intro _;rfl):PS X (.For tg iter body [] pos) (Wr wi g tb):=by
 intro pins s Z H D I h;refine wpAny_For (cP (hi pins s Z H _ I h) λv s1 h1=>cP h1 λve s2 h2=>?_) hs;obtain⟨it,fp,tn,J,H2,e,I2,T,jZ,f2,W,⟨m0,w0⟩,turn⟩:=h2;subst e;have qG:∀{H':Hp},(∀b∈fp,H' b=none)->∀b∈fp,C8 X pins H' b:=λhn b hb=>⟨hn b hb,(f2 b hb).2⟩
 refine codeAny_forLoop_any (λn s'=>∃i cq H',Inv X pins cq H' s'/\tn i s'.heap/\(∀b∈fp,H' b=none)/\W i n cq H') ?_ m0 ⟨0,Z,H2,I2,jZ,λb hb=>(f2 b hb).1,w0⟩;rintro n s3 ⟨i,iF,H3,I3,pA,pY,w3⟩;rcases turn i n iF H3 w3 with⟨stop,qn⟩|⟨go,N,hN,step⟩
 ·refine eh hp (cP (T.done X rfl rfl rfl hc i pins s3 iF H3 X.xe I3 (qG pY) pA stop) λr s4 ⟨hr,I4⟩=>?_);subst hr;exact ub ⟨iF,H3,I4,qn⟩
 ·refine eh hp (cP (T.item X rfl rfl rfl hc i pins s3 iF H3 X.xe I3 (qG pY) pA go) λr s4 ⟨u,hr,h4⟩=>?_);subst hr;refine eh hp (cP h4 λ_ s5 bt=>?_);obtain⟨x,H5,I5,r5,y5,mR,vP⟩:=bt;have wY:=I5.pinned (qG vP) (T.obj _ _ mR);refine eh hp (cP (hg _ s5 iF H5 x u _ wY r5 (step x H5 y5)) λ_ s6 bt=>?_);obtain⟨lG,H6,I6,q6⟩:=bt;refine eh hp (cP (hb _ s6 lG H6 _ I6 q6) λf s7 q7=>?_);have again:∀{mP:St} {H7:Hp},Inv X (pins++X7 fp s5.heap) mP H7 s7->N mP H7->∃m,m<n/\∃i cq H',Inv X pins cq H' s7/\tn i s7.heap/\(∀b∈fp,H' b=none)/\W i m cq H':=λ{mP H7} I7 n7=>by
   obtain⟨m',hm,w7⟩:=hN mP H7 n7;refine⟨m',hm,i+1,mP,H7,I7.CT,T.keep _ _ _ mR λb hb o e=>(I7.pin (b,o) (bq _ (bq _ (Q2 hb e)))).1,λb hb=>?_,w7⟩;obtain⟨o,e,d⟩:=T.obj _ _ mR b hb;exact(I7.pin (b,o) (bq _ (bq _ (Q2 hb e)))).2.1
  cases f with
  |next=>obtain⟨mP,H7,I7,n7⟩:=q7;exact again I7 n7
  |cont=>obtain⟨mP,H7,I7,n7⟩:=q7;exact again I7 n7
  |brk=>obtain⟨mP,H7,I7,q7⟩:=q7;exact⟨mP,H7,I7.CT,q7⟩
  |ret v=>obtain⟨x7,mP,H7,I7,r7,q7⟩:=q7;exact⟨x7,mP,H7,I7.CT,r7,q7⟩
end
noncomputable abbrev R2:=V->V->Hp->VK->Prop
def fK(X:Cx)(f:Value->Value->Sem Value)(r:R2):Prop :=
 ∀(pins:List (Addr×Obj)) (s:Shared) (Z:St) (H:Hp) (x y:V) (v u:Value) (Q:VK),Inv X pins Z H s->RelV x v->RelV y u->r x y H Q ->
  wpAny (model X.prog X.w) X.A (f v u) (EP X pins Z Q) X.xe s
def zg(X:Cx)(f:Value->Sem Value)(r:V->Hp->VK->Prop):Prop :=
 ∀(pins:List (Addr×Obj)) (s:Shared) (Z:St) (H:Hp) (x:V) (v:Value) (Q:VK),Inv X pins Z H s->RelV x v->r x H Q ->
  wpAny (model X.prog X.w) X.A (f v) (EP X pins Z Q) X.xe s
def l6(X:Cx)(f:Value)(r:List V->Hp->VK->Prop):Prop :=
 ∀(pins:List (Addr×Obj)) (s:Shared) (Z:St) (H:Hp) (xs:List V) (us:List Value) (Q:VK),Inv X pins Z H s->Vals xs us->r xs H Q ->
  wpAny (model X.prog X.w) X.A (call f us) (EP X pins Z Q) X.xe s
def Vj(X:Cx)(r:V->Hp->(Bool->Hp->Prop)->Prop):Prop :=
 ∀(pins:List (Addr×Obj)) (s:Shared) (Z:St) (H:Hp) (x:V) (v:Value) (Q:Bool->Hp->Prop),Inv X pins Z H s->RelV x v->r x H Q ->
  wpAny (model X.prog X.w) X.A (truthy v) (TP X pins Z Q) X.xe s
def sR(r:R2)(ta tb:TE):TE:=λZ H Q=>ta Z H λx H1=>tb Z H1 λy H2=>r x y H2 Q
def MK(r:V->Hp->VK->Prop)(ta:TE):TE:=λZ H Q=>ta Z H λx H1=>r x H1 Q
def rI(C:Int->Int->Prop)(g:Int->Int->V):R2:=λx y H Q=>∃i j,x=.int i/\y=.int j/\C i j/\Q (g i j) H
def mn(g:Int->Int->V):R2:=λx y H Q=>∃i j,x=.int i/\y=.int j/\Q (g i j) H
def rU(g:Int->V):V->Hp->VK->Prop:=λx H Q=>∃i,x=.int i/\Q (g i) H
section
variable{X:Cx}{a b c:Expr}{ta tb tc:TE}{pos:Pos}
theorem BS(ha:PE X a ta)(hb:PE X b tb){pins:List (Addr×Obj)}{s:Shared}{Z:St}{H:Hp}{R:V->V->Hp->Prop}(I:Inv X pins Z H s)(h:ta Z H λx H1=>tb Z H1 λy H2=>R x y H2){Q:Value->Shared->Prop}{f:Value->Value->Sem Value}(hf:∀v u s2 x y H2,Inv X pins Z H2 s2->RelV x v->RelV y u->R x y H2->wpAny (model X.prog X.w) X.A (f v u) Q X.xe s2) :
  wpAny (model X.prog X.w) X.A (eval a X.env) (λv cv=>wpAny (model X.prog X.w) X.A (eval b X.env) (λu gZ=>wpAny (model X.prog X.w) X.A (f v u) Q X.xe gZ) X.xe cv) X.xe s:=by
 refine cP (ha pins s Z H _ I h) λv s1 bt=>?_;obtain⟨x,H1,I1,r1,q1⟩:=bt;refine cP (hb pins s1 Z H1 _ I1 q1) λu s2 bt=>?_;obtain⟨y,H2,I2,r2,q2⟩:=bt;exact hf v u s2 x y H2 I2 r1 r2 q2
theorem XN{op:Operator}{r:R2}(ho:fK X (binaryOp op) r)(ha:PE X a ta)(hb:PE X b tb):PE X (.BinOp a op b pos) (sR r ta tb):=by
 intro pins s Z H Q I h;exact wpAny_BinOp (BS ha hb I h λv u s2 x y H2 I2 rx ry q=>ho pins s2 Z H2 x y v u Q I2 rx ry q)
theorem XQ{op:UnaryOp}{r:V->Hp->VK->Prop}(ho:zg X (unaryOp op) r)(ha:PE X a ta):PE X (.UnaryOp op a pos) (MK r ta):=by
 intro pins s Z H Q I h;exact UnaryOp_ (cP (ha pins s Z H _ I h) λv s1 ⟨x,H1,I1,r1,q1⟩=>ho pins s1 Z H1 x v Q I1 r1 q1)
theorem uL{f:Value->Value->Sem Value}{C:Int->Int->Prop}{g:Int->Int->Int}(rule:∀(i j:Int) (t u:Tok) (s:Shared) (Q:Value->Shared->Prop) (E:Value->Shared->Prop),C i j->Q (.int (g i j) s.toks) { s with toks:=s.toks+1 }->wpAny (model X.prog X.w) X.A (f (.int i t) (.int j u)) Q E s) :
  fK X f (rI C λi j=>.int (g i j)):=by
 intro pins s Z H x y v u Q I rx ry h;obtain⟨i,j,rfl,rfl,hc,q⟩:=h;obtain⟨t,rfl⟩:=rx;obtain⟨t',rfl⟩:=ry;exact rule i j t t' s _ _ hc ⟨.int (g i j),H,I.tok _,⟨_,rfl⟩,q⟩
theorem tR{f:Value->Value->Sem Value}{g:Int->Int->Int}(rule:∀(i j:Int) (t u:Tok) (s:Shared) (Q:Value->Shared->Prop) (E:Value->Shared->Prop),Q (.int (g i j) s.toks) { s with toks:=s.toks+1 }->wpAny (model X.prog X.w) X.A (f (.int i t) (.int j u)) Q E s) :
  fK X f (mn λi j=>.int (g i j)):=by
 intro pins s Z H x y v u Q I rx ry h;obtain⟨i,j,rfl,rfl,q⟩:=h;obtain⟨t,rfl⟩:=rx;obtain⟨t',rfl⟩:=ry;exact rule i j t t' s _ _ ⟨.int (g i j),H,I.tok _,⟨_,rfl⟩,q⟩
theorem zd{f:Value->Value->Sem Value}{g:Int->Int->Bool}(rule:∀(i j:Int) (t u:Tok) (s:Shared) (Q:Value->Shared->Prop) (E:Value->Shared->Prop),Q (.bool (g i j)) s->wpAny (model X.prog X.w) X.A (f (.int i t) (.int j u)) Q E s) :
  fK X f (mn λi j=>.bl (g i j)):=by
 intro pins s Z H x y v u Q I rx ry h;obtain⟨i,j,rfl,rfl,q⟩:=h;obtain⟨t,rfl⟩:=rx;obtain⟨t',rfl⟩:=ry;exact rule i j t t' s _ _ ⟨.bl (g i j),H,I,rfl,q⟩
def BO(i j:Int):Prop:=0<j/\j<1073741824
def oR(i j:Int):Prop:=0<=j/\j<=1000000/\i.natAbs<2 ^ 64
def rZ(i j:Int):Prop:=(-(2 ^ 64)<i/\i<2 ^ 64)\/(-(2 ^ 64)<j/\j<2 ^ 64)
theorem rZ.ok{i j:Int}(h:rZ i j):IntMulOk i j:=by
 rcases h with⟨h1,h2⟩|⟨h1,h2⟩
 ·exact .of_left (intBits_le_64 h1 h2)
 ·exact .of_right (intBits_le_64 h1 h2)
theorem QR:fK X (binaryOp .Add) (mn λi j=>.int (i+j)):=tR λ_ _ _ _ _ _ _ q=>add_int q
theorem Rb:fK X (binaryOp .Sub) (mn λi j=>.int (i-j)):=tR λ_ _ _ _ _ _ _ q=>sub_int q
theorem QX:fK X (binaryOp .Mult) (rI rZ λi j=>.int (i*j)):=uL λ_ _ _ _ _ _ _ hc q=>mul_int q hc.ok
theorem TQ:fK X (binaryOp .FloorDiv) (rI BO λi j=>.int (i / j)):=uL λi j _ _ _ _ _ hc q=>by
 have h1:(0:Int)<j:=hc.1;have h2:j<1073741824:=hc.2;exact floordiv_int (by omega) (by rw[Int.fdiv_eq_ediv_of_nonneg i (by omega)];exact q) (.inl (PyProof.noPylong_small (by omega)))
theorem QW:fK X (binaryOp .Mod) (rI (λ_ j=>0<j) λi j=>.int (i % j)):=uL λi j _ _ _ _ _ hc q=>by
 have h1:(0:Int)<j:=hc;exact mod_int' (by omega) (by rw[Int.fmod_eq_emod_of_nonneg i (by omega)];exact q)
theorem QY:fK X (binaryOp .Pow) (rI oR λi j=>.int (i ^ j.toNat)):=uL λ_ _ _ _ _ _ _ hc q=>pow_int_small hc.1 hc.2.1 hc.2.2 q
theorem Ra:fK X (binaryOp .LShift) (rI oR λi j=>.int (i*2 ^ j.toNat)):=uL λ_ _ _ _ _ _ _ hc q=>lshift_int_small hc.1 hc.2.1 hc.2.2 q
theorem QS:fK X (binaryOp .BitAnd) (mn λi j=>.int (Builtin.bitAnd i j)):=tR λ_ _ _ _ _ _ _ q=>and_int q
theorem XF:fK X (binaryOp .BitOr) (mn λi j=>.int (Builtin.bitOr i j)):=tR λ_ _ _ _ _ _ _ q=>or_int q
theorem Tj:fK X (inplaceOp .Add) (mn λi j=>.int (i+j)):=tR λ_ _ _ _ _ _ _ q=>iadd_int q
theorem Tn:fK X (inplaceOp .Sub) (mn λi j=>.int (i-j)):=tR λ_ _ _ _ _ _ _ q=>isub_int q
theorem MJ{f:Value->Sem Value}{g:Int->Int}(rule:∀(i:Int) (t:Tok) (s:Shared) (Q:Value->Shared->Prop) (E:Value->Shared->Prop),Q (.int (g i) s.toks) { s with toks:=s.toks+1 }->wpAny (model X.prog X.w) X.A (f (.int i t)) Q E s) :
  zg X f (rU λi=>.int (g i)):=by
 intro pins s Z H x v Q I rx h;obtain⟨i,rfl,q⟩:=h;obtain⟨t,rfl⟩:=rx;exact rule i t s _ _ ⟨.int (g i),H,I.tok _,⟨_,rfl⟩,q⟩
theorem SJ:zg X (unaryOp .USub) (rU λi=>.int (-i)):=MJ λ_ _ _ _ _ q=>neg_int q
end
def HG:V->V->Bool
 |.bQ,.bQ=>true|.bQ,.int _=>true|.int _,.bQ=>true|.bQ,.bl _=>true|.bl _,.bQ=>true|.bQ,.str _=>true|.str _,.bQ=>true
 |.int _,.int _=>true|.bl _,.bl _=>true|.str _,.str _=>true|.ly _,.ly _=>true
 |.int _,.str _=>true|.str _,.int _=>true|.bl _,.str _=>true|.str _,.bl _=>true
 |_,_=>false
def Nd:R2:=λx y H Q=>HG x y=true/\Q (.bl (decide (x=y))) H
def Nc:R2:=λx y H Q=>HG x y=true/\Q (.bl (!decide (x=y))) H
theorem yG{i j:Int}:decide (V.int i=V.int j)=(i==j):=by
 rw[bc];simp
theorem yu{i j:Bool}:decide (V.bl i=V.bl j)=(i==j):=by
 rw[bc];simp
theorem yH{i j:Str}:decide (V.str i=V.str j)=(i==j):=by
 rw[bc];simp
theorem KC{i j:Array UInt8}:decide (V.ly i=V.ly j)=(i.toList==j.toList):=by
 rw[bc];cases i;cases j;simp
section
variable{X:Cx}{a b c:Expr}{ta tb tc:TE}{pos:Pos}
theorem j8{pins:List (Addr×Obj)}{Z:St}{H:Hp}{s:Shared}{Q:VK}{k k':Bool}(I:Inv X pins Z H s)(q:Q (.bl k) H)(e:k=k'):EP X pins Z Q (.bool k') s:=by
 subst e;exact⟨.bl k,H,I,rfl,q⟩
theorem DG:fK X (compareOp .Eq) Nd:=by
 intro pins s Z H x y v u Q I rx ry h;obtain⟨hs,q⟩:=h;cases x with
 |bQ =>
  cases rx;cases y with
  |bQ=>cases ry;exact PySem.EqNone.eq_none_none (j8 I q (by simp))
  |bl j=>cases ry;exact PySem.EqNone.eq_none_bool (j8 I q (by simp))
  |int j=>obtain⟨t',rfl⟩:=ry;exact PySem.EqNone.eq_none_int (j8 I q (by simp))
  |str j=>obtain⟨t',rfl⟩:=ry;exact PySem.EqNone.eq_none_str (j8 I q (by simp))
  |_=>exact absurd (show false=true from hs) Bool.false_ne_true
 |bl i =>
  cases rx;cases y with
  |bQ=>cases ry;exact PySem.EqNone.eq_bool_none (j8 I q (by simp))
  |bl j=>cases ry;exact eq_bool (j8 I q yu)
  |str j=>obtain⟨t',rfl⟩:=ry;exact PySem.EqMixed.eq_bool_str (j8 I q (by simp))
  |_=>exact absurd (show false=true from hs) Bool.false_ne_true
 |int i =>
  obtain⟨t,rfl⟩:=rx;cases y with
  |bQ=>cases ry;exact PySem.EqNone.eq_int_none (j8 I q (by simp))
  |int j=>obtain⟨t',rfl⟩:=ry;exact eq_int (j8 I q yG)
  |str j=>obtain⟨t',rfl⟩:=ry;exact PySem.EqMixed.eq_int_str (j8 I q (by simp))
  |_=>exact absurd (show false=true from hs) Bool.false_ne_true
 |str i =>
  obtain⟨t,rfl⟩:=rx;cases y with
  |bQ=>cases ry;exact PySem.EqNone.eq_str_none (j8 I q (by simp))
  |bl j=>cases ry;exact PySem.EqMixed.eq_str_bool (j8 I q (by simp))
  |int j=>obtain⟨t',rfl⟩:=ry;exact PySem.EqMixed.eq_str_int (j8 I q (by simp))
  |str j=>obtain⟨t',rfl⟩:=ry;exact eq_str (j8 I q yH)
  |_=>exact absurd (show false=true from hs) Bool.false_ne_true
 |ly i =>
  obtain⟨t,rfl⟩:=rx;cases y with
  |ly j=>obtain⟨t',rfl⟩:=ry;exact PySem.W.eq_bytes (j8 I q KC)
  |_=>exact absurd (show false=true from hs) Bool.false_ne_true
 |_=>cases y<;>exact absurd (show false=true from hs) bG
theorem DH:fK X (compareOp .NotEq) Nc:=by
 intro pins s Z H x y v u Q I rx ry h;obtain⟨hs,q⟩:=h;cases x with
 |bQ =>
  cases rx;cases y with
  |bQ=>cases ry;exact PySem.EqNone.ne_none_none (j8 I q (by simp))
  |bl j=>cases ry;exact PySem.EqNone.ne_none_bool (j8 I q (by simp))
  |int j=>obtain⟨t',rfl⟩:=ry;exact PySem.EqNone.ne_none_int (j8 I q (by simp))
  |str j=>obtain⟨t',rfl⟩:=ry;exact PySem.EqNone.ne_none_str (j8 I q (by simp))
  |_=>exact absurd (show false=true from hs) Bool.false_ne_true
 |bl i =>
  cases rx;cases y with
  |bQ=>cases ry;exact PySem.EqNone.ne_bool_none (j8 I q (by simp))
  |bl j=>cases ry;exact ne_bool (j8 I q (congrArg not yu))
  |str j=>obtain⟨t',rfl⟩:=ry;exact PySem.EqMixed.ne_bool_str (j8 I q (by simp))
  |_=>exact absurd (show false=true from hs) Bool.false_ne_true
 |int i =>
  obtain⟨t,rfl⟩:=rx;cases y with
  |bQ=>cases ry;exact PySem.EqNone.ne_int_none (j8 I q (by simp))
  |int j=>obtain⟨t',rfl⟩:=ry;exact ne_int (j8 I q (congrArg not yG))
  |str j=>obtain⟨t',rfl⟩:=ry;exact PySem.EqMixed.ne_int_str (j8 I q (by simp))
  |_=>exact absurd (show false=true from hs) Bool.false_ne_true
 |str i =>
  obtain⟨t,rfl⟩:=rx;cases y with
  |bQ=>cases ry;exact PySem.EqNone.ne_str_none (j8 I q (by simp))
  |bl j=>cases ry;exact PySem.EqMixed.ne_str_bool (j8 I q (by simp))
  |int j=>obtain⟨t',rfl⟩:=ry;exact PySem.EqMixed.ne_str_int (j8 I q (by simp))
  |str j=>obtain⟨t',rfl⟩:=ry;exact ne_str (j8 I q (congrArg not yH))
  |_=>exact absurd (show false=true from hs) Bool.false_ne_true
 |ly i =>
  obtain⟨t,rfl⟩:=rx;cases y with
  |ly j=>obtain⟨t',rfl⟩:=ry;exact PySem.W.ne_bytes (j8 I q (congrArg not KC))
  |_=>exact absurd (show false=true from hs) Bool.false_ne_true
 |_=>cases y<;>exact absurd (show false=true from hs) bG
theorem XE:fK X (compareOp .Lt) (mn λi j=>.bl (decide (i<j))):=zd λ_ _ _ _ _ _ _ q=>lt_int q
theorem XD:fK X (compareOp .LtE) (mn λi j=>.bl (decide (i<=j))):=zd λ_ _ _ _ _ _ _ q=>le_int q
theorem XC:fK X (compareOp .Gt) (mn λi j=>.bl (decide (j<i))):=zd λ_ _ _ _ _ _ _ q=>gt_int q
theorem XB:fK X (compareOp .GtE) (mn λi j=>.bl (decide (j<=i))):=zd λ_ _ _ _ _ _ _ q=>ge_int q
theorem QV:fK X (compareOp .Is) (λx y H Q=>y=.bQ/\Q (.bl (decide (x=.bQ))) H):=by
 intro pins s Z H x y v u Q I rx ry h;obtain⟨rfl,q⟩:=h;cases ry;refine is_none_gen (j8 I q ?_);cases x<;>first
  |(cases rx;rfl)
  |(obtain⟨t,rfl⟩:=rx;rfl)
theorem TR:fK X (compareOp .IsNot) (λx y H Q=>y=.bQ/\Q (.bl (!decide (x=.bQ))) H):=by
 intro pins s Z H x y v u Q I rx ry h;obtain⟨rfl,q⟩:=h;cases ry;refine isnot_none_gen (j8 I q ?_);cases x<;>first
  |(cases rx;rfl)
  |(obtain⟨t,rfl⟩:=rx;rfl)
theorem KU{op:CmpOp}{r:R2}(ho:fK X (compareOp op) r)(ha:PE X a ta)(hb:PE X b tb)(hm:behindInMarks op b=false):PE X (.Compare a [op] [b] pos) (sR r ta tb):=by
 intro pins s Z H Q I h;exact wpAny_Compare1 (BS ha hb I h λv u s2 x y H2 I2 rx ry q=>ho pins s2 Z H2 x y v u Q I2 rx ry q) hm
def DN(t:TE):TT:=λZ H Q=>t Z H λx H'=>∃k,x=.bl k/\Q k H'
theorem La{op:CmpOp}{r:R2}(ho:fK X (compareOp op) r)(ha:PE X a ta)(hb:PE X b tb)(hm:behindInMarks op b=false):PT X (.Compare a [op] [b] pos) (DN (sR r ta tb)):=by
 intro pins s Z H Q I h;refine wpAny_isTrue_Compare1 (cP (ha pins s Z H _ I h) λv s1 ⟨x,H1,I1,r1,q1⟩=>cP (hb pins s1 Z H1 _ I1 q1) λu s2 ⟨y,H2,I2,r2,q2⟩ =>
  cP (ho pins s2 Z H2 x y v u _ I2 r1 r2 q2) λc s3 ⟨z,H3,I3,r3,k,e,q3⟩=>?_) hm
 subst e;cases r3;exact cH ⟨H3,I3,q3⟩
def BV(r r':R2)(ta tb tc:TE):TE:=λZ H Q=>ta Z H λx H1=>tb Z H1 λy H2=>r x y H2 λz H3=>∃k,z=.bl k /\
 (if k=true then tc Z H3 λw' H4=>r' y w' H4 Q else Q (.bl false) H3)
theorem a77{op iw:CmpOp}{r r':R2}(ho:fK X (compareOp op) r)(ny:fK X (compareOp iw) r')(ha:PE X a ta)(hb:PE X b tb)(hc:PE X c tc)(hm:lastMarks [op,iw] [b,c]=false:=by with_unfolding_all rfl):PE X (.Compare a [op,iw] [b,c] pos) (BV r r' ta tb tc):=by
 intro pins s Z H Q I h;refine Compare_chain (cP (ha pins s Z H _ I h) λv s1 ⟨x,H1,I1,r1,q1⟩=>chain_link (cP (hb pins s1 Z H1 _ I1 q1) λu s2 ⟨y,H2,I2,r2,q2⟩ =>
  cP (ho pins s2 Z H2 x y v u _ I2 r1 r2 q2) λd s3 ⟨z,H3,I3,r3,k,e,q3⟩=>?_)) hm
 subst e;cases r3;refine cH ?_;cases k with
 |false=>exact ite_ff ⟨.bl false,H3,I3,rfl,q3⟩
 |true=>exact ite_tt (chain_last (cP (hc pins s3 Z H3 _ I3 q3) λw' s4 ⟨z',H4,I4,r4,q4⟩=>ny pins s4 Z H4 y z' u w' Q I4 r2 r4 q4))
theorem a62{op iw:CmpOp}{r r':R2}(ho:fK X (compareOp op) r)(ny:fK X (compareOp iw) r')(ha:PE X a ta)(hb:PE X b tb)(hc:PE X c tc)(hm:lastMarks [op,iw] [b,c]=false:=by with_unfolding_all rfl):PT X (.Compare a [op,iw] [b,c] pos) (DN (BV r r' ta tb tc)):=by
 intro pins s Z H Q I h;refine isTrue_chain (cP (ha pins s Z H _ I h) λv s1 ⟨x,H1,I1,r1,q1⟩=>test_link (cP (hb pins s1 Z H1 _ I1 q1) λu s2 ⟨y,H2,I2,r2,q2⟩ =>
  cP (ho pins s2 Z H2 x y v u _ I2 r1 r2 q2) λd s3 ⟨z,H3,I3,r3,k,e,q3⟩=>?_)) hm
 subst e;cases r3;refine cH ?_;cases k with
 |false =>
  obtain⟨k',e',q'⟩:=q3;cases e';exact ite_ff ⟨H3,I3,q'⟩
 |true =>
  refine ite_tt (test_last (cP (hc pins s3 Z H3 _ I3 q3) λw' s4 ⟨z',H4,I4,r4,q4⟩=>cP (ny pins s4 Z H4 y z' u w' _ I4 r2 r4 q4) λd' s5 bt=>?_));obtain⟨z2,H5,I5,r5,k2,e2,q5⟩:=bt;subst e2;cases r5;exact cH ⟨H5,I5,q5⟩
def BR(K:PySem.W.Frag)(x:V)(H:Hp)(k:Bool):Prop :=
 match x with
 |.bQ=>k=false
 |.bl b=>k=b
 |.int i=>k=(i != 0)
 |.str y=>y.length<=sizeLine/\k=((y.length:Int) != 0)
 |.ly y=>y.size<=sizeLine/\k=((y.size:Int) != 0)
 |.ref p=>(∃xs,fG K H p xs/\k=!xs.isEmpty)\/(∃xs,ip K H p xs/\k=!xs.isEmpty)\/∃kvs,H p=some (.dK kvs)/\k=!kvs.isEmpty
 |_=>False
theorem aP9{κ:Type}{kvs:List (κ×V)}{vs:List (κ×Value)}(r:KV kvs vs):(!vs.isEmpty)=!kvs.isEmpty:=by
 cases r<;>rfl
theorem JB{xs:List V}{aW:List Value}(r:Vals xs aW):(!aW.toArray.isEmpty)=!xs.isEmpty:=by
 cases r<;>simp
theorem T6:(sizeLine:Nat)<2 ^ 63:=by rw[kB];decide
theorem SH:Vj X (λx H Q=>∃k,BR X.K x H k/\Q k H):=by
 intro pins s Z H x v Q I rx h;obtain⟨k,e,q⟩:=h;have hl:=T6;have hs:sizeLine=16777216:=kB;cases x with
 |bQ =>
  cases rx;have e':k=false:=e;subst e';exact truthy_none ⟨H,I,q⟩
 |bl b =>
  cases rx;have e':k=b:=e;subst e';exact cH ⟨H,I,q⟩
 |int i =>
  obtain⟨t,rfl⟩:=rx;have e':k=(i != 0):=e;subst e';exact PySem.P.truthy_int ⟨H,I,q⟩
 |str y =>
  obtain⟨t,rfl⟩:=rx;obtain⟨hy,e'⟩:y.length<=sizeLine/\k=((y.length:Int) != 0):=e;subst e';exact PySem.P.truthy_str (by omega) ⟨H,I.tok _,q⟩
 |ly y =>
  obtain⟨t,rfl⟩:=rx;obtain⟨hy,e'⟩:y.size<=sizeLine/\k=((y.size:Int) != 0):=e;subst e';exact PySem.W.truthy_bytes (by omega) ⟨H,I.tok _,q⟩
 |ref p =>
  cases rx;have e':(∃xs,fG X.K H p xs/\k=!xs.isEmpty)\/(∃xs,ip X.K H p xs/\k=!xs.isEmpty)\/∃kvs,H p=some (.dK kvs)/\k=!kvs.isEmpty:=e;rcases e' with⟨xs,hx,e'⟩|⟨xs,hx,e'⟩|⟨kvs,hx,e'⟩
  ·subst e';obtain⟨aW,r,pl,hz⟩:=I.list hx;have hlen:=r.length;exact wpAny_truthy_list pl.isList (by simp only[List.size_toArray];omega) ⟨H,I.tok _,by rw[JB r];exact q⟩
  ·subst e';obtain⟨aW,r,pl,hz⟩:=I.tuple hx;have hlen:=r.length;exact truthy_tuple pl (by simp only[List.size_toArray];omega) ⟨H,I.tok _,by rw[JB r];exact q⟩
  ·subst e';obtain⟨hz,hS,vs,r,m⟩:kvs.length<=sizeLine/\(p==sysModules)=false/\∃vs,KV kvs vs/\s.heap.DictOf (n9 X.prog X.w) p vs:=I.bZ p _ hx;have hlen:kvs.length=vs.length:=lX r;exact wpAny_truthy_dict hS m (by omega) ⟨H,I.tok _,by rw[aP9 r];exact q⟩
 |_=>exact(show False from e).elim
theorem a61(ha:PE X a ta)(he:∀whole,isTrue a X.env whole=(do let v <- whole;standAt a.pos;holding [v] (truthy v))) :
  PT X a (λZ H Q=>ta Z H λx H'=>∃k,BR X.K x H' k/\Q k H'):=by
 intro pins s Z H Q I h;exact isTrue_plain (cP (ha pins s Z H _ I h) λv s1 ⟨x,H1,I1,r1,q1⟩=>SH pins s1 Z H1 x v Q I1 r1 q1) (he _)
theorem aO4:fK X (binaryOp .Add) (λx y H Q=>∃i j,x=.str i/\y=.str j/\i.length+j.length<=sizeLine/\Q (.str (i++j)) H):=by
 intro pins s Z H x y v u Q I rx ry h;obtain⟨i,j,rfl,rfl,hz,q⟩:=h;obtain⟨t,rfl⟩:=rx;obtain⟨t',rfl⟩:=ry;exact add_str (λt' tk=>⟨.str (i++j),H,I.tok _,⟨_,rfl⟩,q⟩) hz
theorem vals1{x:V}{us:List Value}(r:Vals [x] us):∃u,us=[u]/\RelV x u:=by
 cases r with
 |cons r1 r2=>cases r2;exact⟨_,rfl,r1⟩
theorem vals2{x y:V}{us:List Value}(r:Vals [x,y] us):∃u w',us=[u,w']/\RelV x u/\RelV y w':=by
 cases r with
 |cons r1 r2 =>
  cases r2 with
  |cons r3 r4=>cases r4;exact⟨_,_,rfl,r1,r3⟩
theorem a10(hc:X.calm=true):l6 X (.builtin "max") (λxs H Q=>∃i j,xs=[.int i,.int j]/\Q (.int (if j>i then j else i)) H):=by
 intro pins s Z H xs us Q I r h;obtain⟨i,j,rfl,q⟩:=h;obtain⟨u,w',rfl,⟨t,rfl⟩,⟨t',rfl⟩⟩:=vals2 r;refine max_two_ints (I.ok.hd hc) λh' tk k=>⟨_,H,I.kept k,?_,q⟩
 by_cases hj:j>i
 ·rw[aK hj,aK hj];exact⟨_,rfl⟩
 ·rw[aD hj,aD hj];exact⟨_,rfl⟩
theorem a08(hc:X.calm=true):l6 X (.builtin "min") (λxs H Q=>∃i j,xs=[.int i,.int j]/\Q (.int (if j<i then j else i)) H):=by
 intro pins s Z H xs us Q I r h;obtain⟨i,j,rfl,q⟩:=h;obtain⟨u,w',rfl,⟨t,rfl⟩,⟨t',rfl⟩⟩:=vals2 r;refine min_two_ints (I.ok.hd hc) λh' tk k=>⟨_,H,I.kept k,?_,q⟩
 by_cases hj:j<i
 ·rw[aK hj,aK hj];exact⟨_,rfl⟩
 ·rw[aD hj,aD hj];exact⟨_,rfl⟩
theorem IU:l6 X (.type "int") (λxs H Q=>(∃i,xs=[.int i]/\Q (.int i) H)\/∃k,xs=[.bl k]/\Q (.int (if k then 1 else 0)) H):=by
 intro pins s Z H xs us Q I r h;rcases h with⟨i,rfl,q⟩|⟨k,rfl,q⟩
 ·obtain⟨u,rfl,t,rfl⟩:=vals1 r;exact call_int_int ⟨.int i,H,I,⟨_,rfl⟩,q⟩
 ·obtain⟨u,rfl,r1⟩:=vals1 r;cases r1;exact call_int_bool ⟨.int (if k then 1 else 0),H,I.tok _,⟨_,rfl⟩,q⟩
end
structure tM(h:Heap)(x dx C:Addr)(mA:Str->Option Value):Prop where
 obj:h.get? x=some (PySem.W.instObj C dx)
 ns:h.Ns1 dx mA
 ne:dx≠x
theorem Jg{h:Heap}{dx:Addr}{mA:Str->Option Value}(n:h.Ns1 dx mA):∃od,h.get? dx=some od/\∀name,PySem.W.lookIn name od=some (mA name):=by
 obtain⟨o,es,ep,ho,hd,hk,_,hm⟩:=n;refine⟨o,ho,λname=>?_⟩;have e:=hm name;unfold nsFind findBy at e;rw[<- Array.find?_toList] at e;unfold PySem.W.lookIn;rw[hd];dsimp only;split
 ·rename_i y q;rw[q] at e;exact dt some e
 ·rename_i q;rw[q] at e;have a:es.toList.any (·.refKey)=false:=by
   rw[List.any_eq_false];intro y hy;obtain⟨z,t,km⟩:=hk y (Array.mem_toList_iff.mp hy);simp[DictEntry.refKey,km]
  have a':¬es.toList.any (·.refKey)=true:=by rw[a];exact bG
  rw[aD a'];exact dt some e
theorem tM.look{h:Heap}{x dx C:Addr}{mA:Str->Option Value}(I:tM h x dx C mA):∃od,PySem.W.InstAt h x (PySem.W.instObj C dx) C (some od)/\∀name,PySem.W.lookIn name od=some (mA name) :=
 let ⟨od,ho,hl⟩:=Jg I.ns
 ⟨od,⟨I.obj,rfl,rfl,ho⟩,hl⟩
section
variable{prog:Program}{w:World}{A:Around}{E:Value->Shared->Prop}{s:Shared}{K:PySem.W.Frag}{x dx C f:Addr}{mA:Str->Option Value}{name:Str}{v:Value}
theorem get_map{expr:Bool}{Q:Value->Shared->Prop}(X:K.In s.heap)(I:tM s.heap x dx C mA)(hg:PySem.W.plainGet K C name=true)(hh:PySem.W.hasDictIn K C=true)(ha:PySem.W.findIn K (.ref C) name=some none)(hv:mA name=some v)(Ai:PySem.W.handedIn v=true)(h:Q v { s with toks:=s.toks+1 }) :
  wpAny (model prog w) A (getAttr (.ref x) name expr) Q E s:=by
 obtain⟨od,J,hl⟩:=I.look;exact PySem.W.get_value X J (PySem.W.plainGet_of hg).1 (PySem.W.findObj_own hh ha rfl (by rw[hl,hv])) Ai h
theorem UH{ns:List Str}{Q:Unit->Shared->Prop}(X:K.In s.heap)(I:tM s.heap x dx C mA)(hs:PySem.W.findIn K (.ref C) "__setattr__"=some (some (.builtin "object.__setattr__")))(hp:PySem.W.plainOver K C=true)(ht:PySem.W.takerIn K C name=some none)(hh:PySem.W.hasDictIn K C=true)(hw:PySem.Within mA ns)(hsz:ns.length<=sizeLine)(h:∀h',tM h' x dx C (λy=>if y=name then some v else mA y)->Heap.SameBut dx s.heap h'->Q () { s with heap:=h',toks:=s.toks+2 }) :
  wpAny (model prog w) A (setAttr (.ref x) name v) Q E s:=by
 obtain⟨od,J,hl⟩:=I.look;refine PySem.W.set_plain X J hs (PySem.W.osa_open (s:={ s with toks:=s.toks+1 }) (r:=none) X J hp ht λb=>?_);obtain⟨cd,hc,vy⟩:=PySem.W.any_some hh;have hx:s.heap.get? x=some ⟨.ref C,some dx,.plain,#[]⟩:=I.obj;refine ae (au (ae (ae (wpAny_loadPart hx (ae (PySem.W.Looks.here (s:={ s with toks:=s.toks+1 }) (PySem.W.looks_clsIn X hc) ?_))))));rw[vy];refine au (a:=some dx) (ae (au (ae ?_)));refine wpAny_nsSet1 (s:={ s with toks:=s.toks+1 }) I.ns λh' oA jm=>?_;obtain⟨oD,esD,epD,NX,OD,OF⟩:=oA.count (PySem.Within.cons name v hw);refine ae (wpAny_lookBehind NX (by rw[OD];exact pastItsLine_dict (aE OF (by rw[da];omega))) ?_);exact au (h _ ⟨(jm.2 _ (bT I.ne)).trans I.obj,oA,I.ne⟩ jm)
theorem a84{R:Result->Shared->Prop}{vs:List Value}{kw:List (Str×Value)}(X:K.In s.heap)(hm:PySem.W.makesIn K C=true)(hi:PySem.W.findIn K (.ref C) "__init__"=some (some (.ref f)))(hf:PySem.W.typeIn K (.ref f)=some (.type "function"))(h:codeAny (model prog w) (A.under (.builtin "type.__call__" ⟨.ref C :: vs,kw⟩)) (.call (.ref f) ⟨.ref (s.heap.objs.size + 1) :: vs,kw⟩) (PySem.W.InitBack (s.heap.objs.size + 1) R)
   { s with heap:=(s.heap.push PySem.W.emptyDict).push (PySem.W.instObj C s.heap.objs.size) }) :
  codeAny (model prog w) A (.call (.ref C) ⟨vs,kw⟩) R s:=by
 obtain⟨hh,g,d,t,os⟩:=s;exact PySem.W.make_core (PySem.W.makes_of X hm) (PySem.W.looks_findIn X hi) (λself=>PySem.W.bind_fn X self hf) (.inl rfl) h
end
def B3(f:Str)(v:V):List (Str×V)->List (Str×V)
 |[]=>[(f,v)]
 |(g,x)::r=>if g=f then(g,v)::r else(g,x)::B3 f v r
theorem JR(f g:Str)(v:V):∀fs:List (Str×V),(B3 f v fs).lookup g=if g=f then some v else fs.lookup g
 |[]=>by
  show List.lookup g [(f,v)]=_;by_cases h:g=f
  ·have hb:(g==f)=true:=fb.mpr h;simp only[List.lookup,hb,if_pos h]
  ·have hb:(g==f)=false:=dH.mpr h;simp only[List.lookup,hb,if_neg h]
 |(k,x)::r=>by
  have ih:=JR f g v r;rw[show B3 f v ((k,x)::r)=(if k=f then(k,v)::r else(k,x)::B3 f v r) from rfl];by_cases hk:k=f
  ·rw[aK hk];by_cases h:g=k
   ·have hb:(g==k)=true:=fb.mpr h;simp only[List.lookup,hb,if_pos (h.trans hk)]
   ·have hb:(g==k)=false:=dH.mpr h;simp only[List.lookup,hb,if_neg (λe:g=f=>h (e.trans hk.symm))]
  ·rw[aD hk];by_cases h:g=k
   ·have hb:(g==k)=true:=fb.mpr h;simp only[List.lookup,hb,if_neg (λe:g=f=>hk (h.symm.trans e))]
   ·have hb:(g==k)=false:=dH.mpr h;simp only[List.lookup,hb];exact ih
theorem Dc(f:Str)(v:V):∀fs:List (Str×V),f∈(B3 f v fs).map (·.1)/\∀g,g∈fs.map (·.1)->g∈(B3 f v fs).map (·.1)
 |[]=>⟨by simp[B3],λg h=>by simp at h⟩
 |(k,x)::r=>by
  obtain⟨i1,i2⟩:=Dc f v r;rw[show B3 f v ((k,x)::r)=(if k=f then(k,v)::r else(k,x)::B3 f v r) from rfl];by_cases hk:k=f
  ·rw[aK hk];subst hk;exact⟨by simp,λg h=>by simpa using h⟩
  ·rw[aD hk];refine⟨?_,λg h=>?_⟩
   ·rw[bg];exact bW _ i1
   ·rw[bg] at h ⊢;rcases aI.mp h with e|e
    ·exact aI.mpr (.inl e)
    ·exact bW _ (i2 g e)
theorem JQ(f:Str)(v:V):∀fs:List (Str×V),(B3 f v fs).length<=fs.length+1
 |[]=>by simp[B3]
 |(k,x)::r=>by
  have ih:=JQ f v r;rw[show B3 f v ((k,x)::r)=(if k=f then(k,v)::r else(k,x)::B3 f v r) from rfl];by_cases hk:k=f
  ·rw[aK hk,da,da];omega
  ·rw[aD hk,da,da];omega
theorem F8.some_of{v:V}{o:Option Value}(r:F8 (some v) o):∃u,o=some u/\RelV v u:=by
 cases o with
 |none=>exact(show False from r).elim
 |some u=>exact⟨u,rfl,r⟩
theorem Zt{v:V}{u:Value}(r:RelV v u):PySem.W.handedIn u=true:=by
 cases v with
 |bQ=>cases (show u=Value.none from r);rfl
 |bl b=>cases (show u=Value.bool b from r);rfl
 |int i=>obtain⟨t,e⟩:=(show ∃t,u=Value.int i t from r);cases e;rfl
 |str x=>obtain⟨t,e⟩:=(show ∃t,u=Value.str x t from r);cases e;rfl
 |ly b=>obtain⟨t,e⟩:=(show ∃t,u=Value.bytes b t from r);cases e;rfl
 |rT b=>obtain⟨t,e⟩:=(show ∃t,u=Value.float b t from r);cases e;rfl
 |ref a=>cases (show u=Value.ref a from r);rfl
 |ty n=>cases (show u=Value.type n from r);rfl
section
variable{P:Program}{w:World}{H H':Hp}{h h':Heap}{a C dx:Addr}{fs rQ:List (Str×V)}
theorem Cq(bZ:gH P w H h)(e:H a=some (.ins C dx fs)):∃mA,tM h a dx C mA/\(∀f,F8 (fs.lookup f) (mA f))/\PySem.Within mA (fs.map (·.1))/\fs.length<=1000/\H dx=some (.own a):=by
 obtain⟨d,z,ne,ob,mA,n,r,q⟩:=(show m8 P w H h a (.ins C dx fs) from bZ a _ e)
 exact⟨mA,⟨ob,n,ne⟩,r,q,z,d⟩
end
structure jU(K:PySem.W.Frag)(C:Addr):Prop where
 pg:PySem.W.plainGet K C Str.empty=true
 hd:PySem.W.hasDictIn K C=true
 po:PySem.W.plainOver K C=true
 sa:PySem.W.findIn K (.ref C) "__setattr__"=some (some (.builtin "object.__setattr__"))
theorem jU.get{K:PySem.W.Frag}{C:Addr}(c:jU K C)(f:Str):PySem.W.plainGet K C f=true:=c.pg
def C0(K:PySem.W.Frag)(C:Addr)(f:Str):Prop:=PySem.W.findIn K (.ref C) f=some none
theorem C0.Ys{K:PySem.W.Frag}{C:Addr}{f:Str}(n:C0 K C f):PySem.W.takerIn K C f=some none:=by
 unfold PySem.W.takerIn;rw[show PySem.W.findIn K (.ref C) f=some none from n]
 rfl
structure Meth(K:PySem.W.Frag)(C:Addr)(m:Str)(f:Addr):Prop where
 at_:PySem.W.findIn K (.ref C) m=some (some (.ref f))
 fn:PySem.W.isFn K (.ref f)=true
 kp:PySem.W.keepIn K (.ref f)=true
section
variable{X:Cx}{pins:List (Addr×Obj)}{Z:St}{H:Hp}{s:Shared}{a C dx:Addr}{fs:List (Str×V)}{f:Str}{v:V}{A:Around}{E:Value->Shared->Prop}
theorem aQ1{b:Bool}{Q:Value->Shared->Prop}(I:Inv X pins Z H s)(e:H a=some (.ins C dx fs))(c:jU X.K C)(n:C0 X.K C f)(l:fs.lookup f=some v)(h:∀u s',Inv X pins Z H s'->RelV v u->Q u s'):wpAny (model X.prog X.w) A (getAttr (.ref a) f b) Q E s:=by
 obtain⟨mA,O,r,_,_,_⟩:=Cq I.bZ e;obtain⟨u,hu,ru⟩:=F8.some_of (v:=v) (o:=mA f) (by rw[<- l];exact r f);exact get_map I.gT O (c.get f) c.hd n hu (Zt ru) (h u _ (I.tok _) ru)
theorem aN3{y:V}{u:Value}{Q:Unit->Shared->Prop}(I:Inv X pins Z H s)(e:H a=some (.ins C dx fs))(c:jU X.K C)(n:C0 X.K C f)(hl:fs.length<1000)(ry:RelV y u)(h:∀s',Inv X pins Z (upd H a (.ins C dx (B3 f y fs))) s'->Q () s'):wpAny (model X.prog X.w) A (setAttr (.ref a) f u) Q E s:=by
 obtain⟨mA,O,r,wi,_,ho⟩:=Cq I.bZ e;have hz:(fs.map (·.1)).length<=sizeLine:=by rw[ag,kB];omega
 refine UH I.gT O c.sa c.po n.Ys c.hd wi hz λh' O' sb=>h _ ?_;have hd:∃o,h'.get? dx=some o:=let ⟨o,_,_,e',_⟩:=O'.ns;⟨o,e'⟩
 refine I.write (x:=a) (e:=dx) (by rw[e];exact True.intro) (.inr ho) (λb q hb z=>(sb.2 b hb).trans z) hd ?_;refine⟨by rw[f9 O.ne];exact ho,?_,O.ne,O'.obj,_,O'.ns,λg=>?_,λg hg=>?_⟩
 ·have:=JQ f y fs;omega
 ·show F8 ((B3 f y fs).lookup g) (if g=f then some u else mA g);rw[JR];by_cases q:g=f
  ·rw[aK q,aK q];exact ry
  ·rw[aD q,aD q];exact r g
 ·by_cases q:g=f
  ·rw[q];exact(Dc f y fs).1
  ·refine(Dc f y fs).2 g (wi g λz=>hg ?_);show(if g=f then some u else mA g)=none;rw[aD q];exact z
theorem Inv.made(I:Inv X pins Z H s):Inv X pins Z (upd (upd H s.heap.objs.size (.own (s.heap.objs.size+1))) (s.heap.objs.size+1) (.ins C s.heap.objs.size []))
  { s with heap:=(s.heap.push PySem.W.emptyDict).push (PySem.W.instObj C s.heap.objs.size) }:=by
 have e1:(s.heap.push PySem.W.emptyDict).get? s.heap.objs.size=some PySem.W.emptyDict:=az s.heap rfl;have e2:((s.heap.push PySem.W.emptyDict).push (PySem.W.instObj C s.heap.objs.size)).get? (s.heap.objs.size+1)=some (PySem.W.instObj C s.heap.objs.size):=by
  have:=az (s.heap.push PySem.W.emptyDict) (o:=PySem.W.instObj C s.heap.objs.size) rfl
  rwa [eV] at this
 have e3:(s.heap.push PySem.W.emptyDict).Ns s.heap.objs.size (λ_=>none):=⟨PySem.W.emptyDict,#[],_,e1,rfl,(λe he=>absurd he (by simp)),λ_=>rfl⟩
 have I1:=I.laid (a:=s.heap.objs.size) (o:=.own (s.heap.objs.size+1)) (h':=s.heap.push PySem.W.emptyDict) (t':=s.toks) (λb u q=>ao _ q) (av _) ⟨_,e1⟩;refine I1.laid (a:=s.heap.objs.size+1) (o:=.ins C s.heap.objs.size []) (t':=s.toks) (λb u q=>ao _ q) (Nat.le_of_eq (eV _ _)) ?_;have ne:s.heap.objs.size≠s.heap.objs.size+1:=aN (eJ _);refine⟨by rw[f9 ne,u3],cJ _,ne,e2,λ_=>none,(Heap.Ns1.of_empty e3).at λo q=>ao _ q,λ_=>True.intro,λy hy=>absurd rfl hy⟩
theorem SW{prog:Program}{w:World}{env:Env}{e:Expr}{f:Str}{pos:Pos}{s:Shared}{Q:Value->Shared->Prop}(hb:attributeBase e f env (eval e env)=eval e env)(h:wpAny (model prog w) A (eval e env) (λo cv=>wpAny (model prog w) A (getAttr o f true) Q E cv) E s):wpAny (model prog w) A (eval (.Attribute e f pos) env) Q E s :=
 Attribute_any_ h (by rw[arm_eval_Attribute,hb])
end
def Wq(K:PySem.W.Frag)(ta:TE)(f:Str):TE:=λZ H Q=>ta Z H λx H1=>∃a C dx fs v,x=.ref a/\H1 a=some (.ins C dx fs)/\jU K C/\C0 K C f/\fs.lookup f=some v/\Q v H1
def Wf(K:PySem.W.Frag)(ta tv:TE)(f:Str):TS:=λD Z H=>tv Z H λy H1=>ta Z H1 λx H2=>∃a C dx fs,x=.ref a/\H2 a=some (.ins C dx fs)/\jU K C/\C0 K C f/\fs.length<1000 /\
 D.nx Z (upd H2 a (.ins C dx (B3 f y fs)))
def Iz(X:Cx)(op:Operator)(rd:V->V->Hp->VK->Prop):Prop :=
 ∀(pins:List (Addr×Obj)) (s:Shared) (Z:St) (H:Hp) (x y:V) (u v:Value) (Q:VK),Inv X pins Z H s->RelV x u->RelV y v->rd x y H Q->wpAny (model X.prog X.w) X.A (inplaceOp op u v) (EP X pins Z Q) X.xe s
section
variable{X:Cx}{o e value:Expr}{f:Str}{pos pos' zJ:Pos}{ta tv:TE}
theorem Rj(he:PE X e ta)(hb:attributeBase e f X.env (eval e X.env)=eval e X.env):PE X (.Attribute e f pos) (Wq X.K ta f):=by
 intro pins s Z H Q I h;refine SW hb (cP (he pins s Z H _ I h) λu s1 bt=>?_);obtain⟨x,H1,I1,rx,a,C,dx,fs,v,ex,ea,c,n,l,q⟩:=bt;subst ex;obtain rfl:u=Value.ref a:=rx;exact aQ1 I1 ea c n l λu' s2 I2 ru=>⟨v,H1,I2,ru,q⟩
theorem Rz(ha:PE X o ta)(hv:PE X value tv)(hs:swapsWith value (some (.Attribute o f pos')) pos.line X.env=pure false):PS X (.Assign [.Attribute o f pos'] value pos) (Wf X.K ta tv f):=by
 intro pins s Z H D I h;refine plainObj_wpAny_Assign_Attribute (cP (hv pins s Z H _ I h) λu s1 ⟨y,H1,I1,ry,q⟩=>cP (ha pins s1 Z H1 _ I1 q) λov s2 bt=>?_) hs;obtain⟨x,H2,I2,rx,a,C,dx,fs,ex,ea,c,n,l,q2⟩:=bt;subst ex;obtain rfl:ov=Value.ref a:=rx;exact aN3 I2 ea c n l ry λs3 I3=>⟨Z,_,I3,q2⟩
def VW:V->V->Hp->VK->Prop:=λx y H Q=>∃i j,x=.int i/\y=.int j/\Q (.int (i+j)) H
theorem Qs:Iz X .Add VW:=by
 rintro pins s Z H x y u v Q I rx ry ⟨i,j,rfl,rfl,q⟩;obtain⟨t,rfl⟩:=(show ∃t,u=Value.int i t from rx)
 obtain⟨t',rfl⟩:=(show ∃t',v=Value.int j t' from ry)
 exact PyProof.Rows.iadd_int ⟨.int (i+j),H,I.tok _,⟨_,rfl⟩,q⟩
end
section
variable{X:Cx}{pins:List (Addr×Obj)}{Z:St}{H:Hp}{s:Shared}{A:Around}{E:Value->Shared->Prop}{Q:Value->Shared->Prop}{c:Value}{b:Bool}
inductive hU(K:PySem.W.Frag)(H:Hp):V->Value->Prop where
 |bQ:hU K H .bQ (.type "NoneType")
 |bl (x:Bool):hU K H (.bl x) (.type "bool")
 |int (i:Int):hU K H (.int i) (.type "int")
 |str (x:Str):hU K H (.str x) (.type "str")
 |rT (x:UInt64):hU K H (.rT x) (.type "float")
 |lst {a:Addr} {xs:List V} (e:H a=some (.lst xs)):hU K H (.ref a) (.type "list")
 |jL {a:Addr} {o:Obj} {xs:List V} (e:H a=some (.jL o (.lst xs))):hU K H (.ref a) (.type "list")
 |tup {a:Addr} {xs:List V} (e:H a=some (.tup xs)):hU K H (.ref a) (.type "tuple")
 |dK {a:Addr} {kvs:List (Key×V)} (e:H a=some (.dK kvs)):hU K H (.ref a) (.type "dict")
 |dT {a:Addr} {kvs:List (List Key×V)} (e:H a=some (.dT kvs)):hU K H (.ref a) (.type "dict")
 |ins {a C dx:Addr} {fs:List (Str×V)} (e:H a=some (.ins C dx fs)) (cl:jU K C) (ha:PySem.W.findIn K (.ref C) "__class__"=some (some (.builtin "object.__class__")))
   (hn:PySem.W.specialIn K (.builtin "object.__class__") "__get__"=some (some (.builtin "getset_descriptor.__get__"))) (sZ:PySem.W.takesIn K (.builtin "object.__class__")=some true)
   (hm:PySem.W.mroIn K C (.type "object")=some true):hU K H (.ref a) (.ref C)
theorem Zw{x:V}{u t:Value}(I:Inv X pins Z H s)(rx:RelV x u)(ty:hU X.K H x t)(e:PySem.W.kitOne X.K t c=some b)(h:∀tk,Q (.bool b) { s with toks:=tk }) :
  wpAny (model X.prog X.w) A (call (.builtin "isinstance") [u,c]) Q E s:=by
 cases ty with
 |bQ=>cases (show u=Value.none from rx);exact bY PySem.W.kitx_none I.gT True.intro e (λz=>nomatch z) h
 |bl y=>cases (show u=Value.bool y from rx);exact bY PySem.W.kitx_bool I.gT True.intro e (λz=>nomatch z) h
 |int i=>obtain⟨t,q⟩:=(show ∃t,u=Value.int i t from rx);cases q;exact bY PySem.W.kitx_int I.gT True.intro e (λz=>nomatch z) h
 |str y=>obtain⟨t,q⟩:=(show ∃t,u=Value.str y t from rx);cases q;exact bY PySem.W.kitx_str I.gT True.intro e (λz=>nomatch z) h
 |rT y=>obtain⟨t,q⟩:=(show ∃t,u=Value.float y t from rx);cases q;exact bY PySem.W.kitx_float I.gT True.intro e (λz=>nomatch z) h
 |@lst a xs ea =>
  cases (show u=Value.ref a from rx);obtain⟨_,_,n,_,h1⟩:=(show m8 X.prog X.w H s.heap a (.lst xs) from I.bZ a _ ea)
  exact bY PySem.W.kitx_list I.gT ⟨_,h1,rfl⟩ e (λz=>nomatch z) h
 |@jL a ob xs ea =>
  cases (show u=Value.ref a from rx);obtain⟨_,_,_,n,_,h1⟩:=(show m8 X.prog X.w H s.heap a (.jL ob (.lst xs)) from I.bZ a _ ea)
  exact bY PySem.W.kitx_list I.gT ⟨_,h1,rfl⟩ e (λz=>nomatch z) h
 |@tup a xs ea =>
  cases (show u=Value.ref a from rx);obtain⟨_,_,_,p⟩:=(show m8 X.prog X.w H s.heap a (.tup xs) from I.bZ a _ ea)
  obtain⟨o,h1,h2,_⟩:=p;exact bY Mr I.gT ⟨o,h1,h2⟩ e (λz=>nomatch z) h
 |@dK a kvs ea =>
  cases (show u=Value.ref a from rx);obtain⟨_,_,vs,_,p⟩:=(show m8 X.prog X.w H s.heap a (.dK kvs) from I.bZ a _ ea)
  obtain⟨o,es,ep,h1,h2,_⟩:=p;exact bY PySem.W.kitx_dict I.gT ⟨o,h1,h2.1⟩ e (λz=>nomatch z) h
 |@dT a kvs ea =>
  cases (show u=Value.ref a from rx);obtain⟨_,_,xs,_,o,es,ep,h1,h2,_⟩:=(show m8 X.prog X.w H s.heap a (.dT kvs) from I.bZ a _ ea)
  exact bY PySem.W.kitx_dict I.gT ⟨o,h1,h2.1⟩ e (λz=>nomatch z) h
 |@ins a C dx fs ea cl ha hn sZ hm =>
  cases (show u=Value.ref a from rx);obtain⟨mA,O,_⟩:=Cq I.bZ ea;obtain⟨od,J,_⟩:=O.look;exact bY (PySem.W.kitx_own (cl.get _) cl.hd ha hn sZ hm) I.gT J e (λz=>nomatch z) h
end
structure x6(k:Nat)(A:Around):Prop where
 hd:A.handled=none
 dp:A.depth+3*k+5<recursionLimit
 un:A.units+16*k+200<cLine
theorem x6.mono{j k:Nat}{A:Around}(r:x6 k A)(h:j<=k):x6 j A:=⟨r.hd,by have:=r.dp;omega,by have:=r.un;omega⟩
theorem x6.deeper{k:Nat}{A:Around}(r:x6 (k+1) A)(env:Env):x6 k (A.deeper env) :=
 ⟨r.hd,by have:=r.dp;show A.depth+1+3*k+5<_;omega,by have:=r.un;show A.units+3+16*k+200<_;omega⟩
theorem aP3{A:Around}{C:Addr}{us:List Value}{kw:List (Str×Value)}:(A.under (.builtin "type.__call__" ⟨.ref C::us,kw⟩)).depth=A.depth+1:=by
 first|rfl|simp[Around.under,Code.weight,Code.isCreation,Code.isGuard,Code.isCaller,Code.frames,Code.isFrame,guardIds]
theorem aP2{A:Around}{C:Addr}{us:List Value}{kw:List (Str×Value)}:(A.under (.builtin "type.__call__" ⟨.ref C::us,kw⟩)).units=A.units+1:=by
 first|rfl|simp[Around.under,Code.cUnits,Code.frames,Code.isFrame]
theorem x6.make{k:Nat}{A:Around}(r:x6 (k+1) A)(C:Addr)(us:List Value)(kw:List (Str×Value)):x6 k (A.under (.builtin "type.__call__" ⟨.ref C::us,kw⟩)) :=
 ⟨r.hd,by have:=r.dp;rw[aP3];omega,by have:=r.un;rw[aP2];omega⟩
theorem x6.depth{k:Nat}{A:Around}(r:x6 k A):A.depth<recursionLimit:=by have:=r.dp;omega
def HJ:TA:=λ_ H Q=>Q [] H
def Yk(ta:TE)(tr:TA):TA:=λZ H Q=>ta Z H λx H1=>tr Z H1 λxs H2=>Q (x::xs) H2
section
variable{X:Cx}{e:Expr}{es:List Expr}{te:TE}{t:TA}{pos:Pos}
theorem X8:PA X [] HJ:=λ_ _ _ _ H Q I h=>Calls.spliced_nil ⟨[],H,I,.nil,h⟩
theorem Q9(ha:PE X e te)(hr:PA X es t)(hs:starEach (e::es) X.env=(false,eval e X.env)::starEach es X.env:=by rfl):PA X (e::es) (Yk te t):=by
 intro pos pins s Z H Q I h;rw[hs];show wpAny _ _ (spliced ((false,eval e X.env)::backTo pos (starEach es X.env))) _ _ s;refine Calls.spliced_cons (cP (ha pins s Z H _ I h) λu s1 bt=>?_);obtain⟨x,H1,I1,r1,q1⟩:=bt;exact cP (hr pos pins s1 Z H1 _ I1 q1) λus s2 ⟨xs,H2,I2,r2,q2⟩=>⟨x::xs,H2,I2,.cons r1 r2,q2⟩
def WA(t:TA):TE:=λZ H Q=>t Z H λxs H1=>xs.length<=sizeLine/\∀p,H1 p=none->Q (.ref p) (upd H1 p (.tup xs))
def Wt(t:TA):TE:=λZ H Q=>t Z H λxs H1=>xs.length<=sizeLine/\∀p,H1 p=none->Q (.ref p) (upd H1 p (.lst xs))
theorem Rq{x1}(h:PA X es t):PE X (.Tuple es x1 pos) (WA t):=by
 intro pins s Z H Q I hq;refine wpAny_Tuple_spliced (cP (h pos pins s Z H _ I hq) λus s1 ⟨xs,H1,I1,r,z,q⟩=>⟨by rw[<- r.length];exact z,?_⟩);have hf:H1 s1.heap.objs.size=none:=I1.bZ.fresh (av _);refine⟨.ref s1.heap.objs.size,upd H1 s1.heap.objs.size (.tup xs),I1.laid (t':=s1.toks) (λb u e=>ao _ e) (av _) ?_,rfl,q _ hf⟩;exact⟨z,us,r,⟨_,az _ rfl,rfl,⟨_,rfl⟩,rfl⟩⟩
theorem Rm(h:PA X es t):PE X (.List es pos) (Wt t):=by
 intro pins s Z H Q I hq;refine wpAny_List_spliced (cP (h pos pins s Z H _ I hq) λus s1 ⟨xs,H1,I1,r,z,q⟩=>⟨by rw[<- r.length];exact z,?_⟩);have hf:H1 s1.heap.objs.size=none:=I1.bZ.fresh (av _);refine⟨.ref s1.heap.objs.size,upd H1 s1.heap.objs.size (.lst xs),I1.laid (t':=s1.toks) (λb u e=>ao _ e) (av _) ?_,rfl,q _ hf⟩;exact⟨z,us,0,r,az _ rfl⟩
end
noncomputable abbrev Sp:=List V->Hp->VK->XK->Prop
noncomputable abbrev nQ:=List Env->Hp->Shared->XK->Value->Shared->Prop
structure se(P:Program)(w:World)(K:PySem.W.Frag)(mg:Str->Option Value)(base:Heap)(A:Around)(outer:List Env)(s:Shared)(H:Hp):Prop where
 frames:A.frames=some outer
 mod:Mod K mg base
 bs:∀b o,base.get? b=some o->s.heap.get? b=some o/\H b=none
 qd:base.objs.size<=s.heap.objs.size
 P6:s.heap.FunFrames base outer
 rR:∀b∈hZ outer,H b=none
 bZ:gH P w H s.heap
 bare:AllBare s.gens
def CE(outer:List Env)(P:Program)(w:World)(H:Hp)(s:Shared)(Q:VK)(u:Value)(s':Shared):Prop :=
 ∃v H',s'.os=s.os/\AllBare s'.gens/\Un (hZ outer) [] H H' s.heap s'.heap/\gH P w H' s'.heap/\RelV v u/\Q v H'
def CR(CX:nQ)(outer:List Env)(P:Program)(w:World)(H:Hp)(s:Shared)(Q:VK)(E:XK)(r:Result)(s':Shared):Prop :=
 match r with
 |.ok (.ret u)=>CE outer P w H s Q u s'
 |.ok _=>False
 |.error e=>CX outer H s E e s'
structure iN(P:Program)(w:World)(K:PySem.W.Frag)(mg:Str->Option Value)(base:Heap)(CX:nQ)(k:Nat)(f:Addr)(fd:FuncData)(ps:List Str)(sp:Sp):Prop where
 len:∀vs H Q E,sp vs H Q E->vs.length=ps.length
 run:∀(A:Around) (outer:List Env) (s:Shared) (H:Hp) (args:Args) (us:List Value) (vs:List V) (Q:VK) (E:XK),x6 k A->se P w K mg base A outer s H->BindsTo s fd args (ps.zip us)->Vals vs us->sp vs H Q E ->
  codeAny (model P w) A (.call (.ref f) args) (CR CX outer P w H s Q E) s
theorem se.make{P:Program}{w:World}{K:PySem.W.Frag}{mg:Str->Option Value}{base:Heap}{A:Around}{outer:List Env}{s:Shared}{H:Hp}(e:se P w K mg base A outer s H)(C:Addr)(us:List Value)(kw:List (Str×Value)) :
  se P w K mg base (A.under (.builtin "type.__call__" ⟨.ref C::us,kw⟩)) outer s H:=⟨by first|exact e.frames|(simpa[Around.under,Code.envs,Code.isFrame,pushEnvs] using e.frames),e.mod,e.bs,e.qd,e.P6,e.rR,e.bZ,e.bare⟩
section
variable{X:Cx}{pins:List (Addr×Obj)}{Z:St}{H:Hp}{s s':Shared}
theorem Inv.IE(I:Inv X pins Z H s):se X.prog X.w X.K X.mg X.base X.A X.stack s H :=
 ⟨I.ok.frames,I.ok.mod,I.bs,aE I.ok.qd I.sz,I.stack,I.Cz,I.bZ,I.bare⟩
theorem Inv.after{Q:VK}{u:Value}(I:Inv X pins Z H s)(h:CE X.stack X.prog X.w H s Q u s'):EP X pins Z Q u s':=by
 obtain⟨v,H',os,bare,un,bZ,r,q⟩:=h;obtain⟨hh,g,d,t,qQ⟩:=s';obtain rfl:qQ=s.os:=os;exact⟨v,H',I.call (h':=hh) (g':=g) (d':=d) (t':=t) (ch:=[]) un bZ bare (λb z=>absurd z (by simp)),r,q⟩
end
def Yj(sp:Sp)(kq:List V)(E:XK)(t:TA):TE:=λZ H Q=>t Z H λvs H1=>sp (vs++kq) H1 Q E
def Iu(C:Addr)(sp:Sp)(kq:List V)(E:XK)(t:TA):TE:=λZ H Q=>t Z H λvs H1=>∀x dx,H1 x=none->H1 dx=none->dx≠x ->
 sp (.ref x::(vs++kq)) (upd (upd H1 dx (.own x)) x (.ins C dx [])) (λv H2=>v=.bQ/\Q (.ref x) H2) E
def Binds(K:PySem.W.Frag)(fd:FuncData)(ps:List Str)(ds:List Value):Prop :=
 ∀(s:Shared) (us:List Value),K.In s.heap->(us++ds).length=ps.length->BindsTo s fd ⟨us,[]⟩ (ps.zip (us++ds))
theorem Binds.all{K:PySem.W.Frag}{fd:FuncData}{ps:List Str}(h:∀us:List Value,us.length=ps.length->bindArgs fd ⟨us,[]⟩=pure (ps.zip us)):Binds K fd ps []:=λs us _ hl=>by
 rw[cF] at hl ⊢;exact .of_eq (h us hl)
def Passes(CX:nQ)(X:Cx)(E:XK):Prop:=∀(pins:List (Addr×Obj)) (Z:St) (H:Hp) (s:Shared) (e:Value) (s':Shared),Inv X pins Z H s->CX X.stack H s E e s'->X.xe e s'
section
variable{X:Cx}{CX:nQ}{k:Nat}{f C:Addr}{fd:FuncData}{ps:List Str}{sp:Sp}{kq:List V}{ds:List Value}{E:XK}{x m:Str}{p pos apos:Pos}{e o:Expr}{es:List Expr}{ta:TE}{t:TA}
theorem RJ{pins:List (Addr×Obj)}{Z:St}{H:Hp}{s:Shared}{Q:VK}{us:List Value}{vs:List V}(F:iN X.prog X.w X.K X.mg X.base CX k f fd ps sp)(hr:x6 k X.A)(hb:Binds X.K fd ps ds)(hd:Vals kq ds)(hx:Passes CX X E)(I:Inv X pins Z H s)(r:Vals vs us)(h:sp (vs++kq) H Q E):wpAny (model X.prog X.w) X.A (call (.ref f) us) (EP X pins Z Q) X.xe s:=by
 have r2:Vals (vs++kq) (us++ds):=r.append hd;have hl:(us++ds).length=ps.length:=by rw[<- r2.length];exact F.len _ _ _ _ h
 refine wpAny_call (gU (F.run X.A X.stack s H ⟨us,[]⟩ (us++ds) (vs++kq) Q E hr I.IE (hb s us I.gT hl) r2 h) λr s' hq=>?_);cases r with
 |error e=>exact hx pins Z H s e s' I hq
 |ok fl =>
  cases fl with
  |ret u=>exact I.after hq
  |next=>exact False.elim hq
  |brk=>exact False.elim hq
  |cont=>exact False.elim hq
theorem Uc(F:iN X.prog X.w X.K X.mg X.base CX k f fd ps sp)(hr:x6 k X.A)(hg:Gl X x)(hm:X.mg x=some (.ref f))(hk:PySem.W.keepIn X.K (.ref f)=true)(hb:Binds X.K fd ps ds)(hd:Vals kq ds)(hx:Passes CX X E)(ha:PA X (e::es) t)(jo:(x==("__debug__":Str))=false:=by decide)(he:starEach (e::es) X.env=(false,eval e X.env)::starEach es X.env:=by rfl)(fX:(backTo pos (starEach es X.env)).any (·.1)=false:=by rfl) :
  PE X (.Call (.Name x p) (e::es) [] pos) (Yj sp kq E t):=by
 intro pins s Z H Q I h;refine dn (Y1 I hg hm ?_ jo);refine Mt (h₀:=X.base) I.ok.mod.nU hk (cP (ha pos pins s Z H _ I h) λus s1 ⟨vs,H1,I1,r,q⟩=>⟨I1.gT,?_⟩) he fX;exact RJ F hr hb hd hx I1 r q
structure Mk(K:PySem.W.Frag)(C f:Addr):Prop where
 makes:PySem.W.makesIn K C=true
 init:PySem.W.findIn K (.ref C) "__init__"=some (some (.ref f))
 fn:PySem.W.isFn K (.ref f)=true
 kp:PySem.W.keepIn K (.ref C)=true
theorem LP{pins:List (Addr×Obj)}{Z:St}{H:Hp}{s:Shared}{Q:VK}{us:List Value}{vs:List V}(M:Mk X.K C f)(F:iN X.prog X.w X.K X.mg X.base CX k f fd ps sp)(hr:x6 (k+1) X.A)(hb:Binds X.K fd ps ds)(hd:Vals kq ds)(hx:Passes CX X E)(I:Inv X pins Z H s)(r:Vals vs us)(h:∀x dx,H x=none->H dx=none->dx≠x->sp (.ref x::(vs++kq)) (upd (upd H dx (.own x)) x (.ins C dx [])) (λv H2=>v=.bQ/\Q (.ref x) H2) E) :
  wpAny (model X.prog X.w) X.A (call (.ref C) us) (EP X pins Z Q) X.xe s:=by
 have hq:=h (s.heap.objs.size+1) s.heap.objs.size (I.bZ.fresh (gR _)) (I.bZ.fresh (av _)) (aN (eJ _));have I2:=Inv.made (C:=C) I;have r2:Vals (V.ref (s.heap.objs.size+1)::(vs++kq)) (Value.ref (s.heap.objs.size+1)::(us++ds)):=.cons rfl (r.append hd);have hl:(Value.ref (s.heap.objs.size+1)::us++ds).length=ps.length:=by
  have e:=r2.length;rw[F.len _ _ _ _ hq] at e;exact e.symm
 refine wpAny_call (a84 (f:=f) I.gT M.makes M.init (fb.mp M.fn) (gU (F.run _ X.stack _ _ ⟨Value.ref (s.heap.objs.size + 1) :: us,[]⟩ (Value.ref (s.heap.objs.size + 1) :: (us ++ ds)) _ _ E (hr.make C us [])
  (I2.IE.make C us []) (hb _ (Value.ref (s.heap.objs.size + 1) :: us) I2.gT hl) r2 hq) λr s' nu=>?_))
 cases r with
 |error e=>exact hx pins Z _ _ e s' I2 nu
 |ok fl =>
  cases fl with
  |ret u =>
   obtain⟨v,H',I3,rv,ev,q3⟩:=I2.after nu;subst ev;exact⟨rv,⟨V.ref (s.heap.objs.size+1),H',I3,rfl,q3⟩⟩
  |next=>exact False.elim nu
  |brk=>exact False.elim nu
  |cont=>exact False.elim nu
theorem Ug(M:Mk X.K C f)(F:iN X.prog X.w X.K X.mg X.base CX k f fd ps sp)(hr:x6 (k+1) X.A)(hg:Gl X x)(hm:X.mg x=some (.ref C))(hb:Binds X.K fd ps ds)(hd:Vals kq ds)(hx:Passes CX X E)(ha:PA X (e::es) t)(jo:(x==("__debug__":Str))=false:=by decide)(he:starEach (e::es) X.env=(false,eval e X.env)::starEach es X.env:=by rfl)(fX:(backTo pos (starEach es X.env)).any (·.1)=false:=by rfl) :
  PE X (.Call (.Name x p) (e::es) [] pos) (Iu C sp kq E t):=by
 intro pins s Z H Q I h;refine dn (Y1 I hg hm ?_ jo);refine Mt (h₀:=X.base) I.ok.mod.nU M.kp (cP (ha pos pins s Z H _ I h) λus s1 ⟨vs,H1,I1,r,q⟩=>⟨I1.gT,?_⟩) he fX;exact LP M F hr hb hd hx I1 r q
theorem a73(M:Mk X.K C f)(F:iN X.prog X.w X.K X.mg X.base CX k f fd ps sp)(hr:x6 (k+1) X.A)(hg:Gl X x)(hm:X.mg x=some (.ref C))(hb:Binds X.K fd ps ds)(hd:Vals kq ds)(hx:Passes CX X E)(jo:(x==("__debug__":Str))=false:=by decide):PE X (.Call (.Name x p) [] [] pos) (Iu C sp kq E HJ):=by
 intro pins s Z H Q I h;refine dn (Y1 I hg hm ?_ jo);exact PySem.W.callWith_K0 I.gT M.kp (LP (us:=[]) M F hr hb hd hx I .nil h)
end
section
variable{X:Cx}{CX:nQ}{k:Nat}{f C:Addr}{fd:FuncData}{ps ks:List Str}{sp:Sp}{E:XK}{x m:Str}{p pos apos Nz:Pos}{e o:Expr}{es:List Expr}{js:List Keyword}{te ta:TE}{t tk:TA}{nm:Option Str}
variable{g:List Value->List Value->List Value}{gV:List V->List V->List V}
end
structure iS(N P:List Str)(sc:Scope):Prop where
 kind:sc.kind=.function
 co:sc.isCoroutine=false
 gen:sc.isGenerator=false
 nd:N.Nodup
 pre:N.take P.length=P
 par:∀x∈P,sc.names.lookup x=some .local\/sc.names.lookup x=some .cell
 mX:∀y∈sc.names,y.2≠.free
theorem IT{kindOf:Str->Option NameKind}{x:Str}:∀{binds:List (Str×Value)} {m:Str->Option Value},(∀v,(x,v)∉binds)->bindL kindOf binds m x=m x
 |[],_,_=>rfl
 |(n,v)::r,m,h=>by
  unfold bindL;rw[IT λw hw=>h w (bW _ hw)];split
  ·have:x≠n:=by rintro rfl;exact h v gw
   simp[this]
  ·rfl
theorem IQ{kindOf:Str->Option NameKind}{x:Str}:∀{binds:List (Str×Value)} {m:Str->Option Value},(∀v,(x,v)∉binds)->bindC kindOf binds m x=m x
 |[],_,_=>rfl
 |(n,v)::r,m,h=>by
  unfold bindC;rw[IQ λw hw=>h w (bW _ hw)];split
  ·rfl
  ·have:x≠n:=by rintro rfl;exact h v gw
   simp[this]
theorem IS{kindOf:Str->Option NameKind}{x:Str}{v:Value}:∀{P:List Str} {vs:List Value} {i:Nat} {m:Str->Option Value},P.Nodup->P[i]?=some x->vs[i]?=some v->kindOf x=some .local ->
  bindL kindOf (P.zip vs) m x=some v
 |[],_,_,_,_,h,_,_=>by simp at h
 |_::_,[],_,_,_,_,h,_=>by simp at h
 |p::P,w::vs,0,m,nd,h1,h2,hk=>by
  simp at h1 h2;subst h1;subst h2;show bindL kindOf ((p,w)::P.zip vs) m p=_;unfold bindL;rw[IT λv hv=>(cU.mp nd).1 (mK hv).1,aK hk];simp
 |p::P,w::vs,i+1,m,nd,h1,h2,hk=>by
  show bindL kindOf ((p,w)::P.zip vs) m x=_;unfold bindL;exact IS (i:=i) (cU.mp nd).2 (by simpa using h1) (by simpa using h2) hk
theorem IP{kindOf:Str->Option NameKind}{x:Str}{v:Value}:∀{P:List Str} {vs:List Value} {i:Nat} {m:Str->Option Value},P.Nodup->P[i]?=some x->vs[i]?=some v->kindOf x≠some .local ->
  bindC kindOf (P.zip vs) m x=some v
 |[],_,_,_,_,h,_,_=>by simp at h
 |_::_,[],_,_,_,_,h,_=>by simp at h
 |p::P,w::vs,0,m,nd,h1,h2,hk=>by
  simp at h1 h2;subst h1;subst h2;show bindC kindOf ((p,w)::P.zip vs) m p=_;unfold bindC;rw[IQ λv hv=>(cU.mp nd).1 (mK hv).1,aD hk];simp
 |p::P,w::vs,i+1,m,nd,h1,h2,hk=>by
  show bindC kindOf ((p,w)::P.zip vs) m x=_;unfold bindC;exact IP (i:=i) (cU.mp nd).2 (by simpa using h1) (by simpa using h2) hk
def start(N:List Str)(vs:List V):St:=vs.map some++List.replicate (N.length-vs.length) none
def oU(CX:nQ)(P:Program)(w:World)(K:PySem.W.Frag)(mg:Str->Option Value)(base:Heap)(N:List Str)(qual:Str)(scope:Scope)(f:Addr)(cd:Value)(A:Around)(outer:List Env)(s:Shared)(H:Hp)(E:XK):Cx where
 prog:=P
 w:=w
 K:=K
 mg:=mg
 base:=base
 A:=A.deeper (envOfC qual scope s.heap.objs.size f cd)
 N:=N
 dC:=s
 ju:=H
 env:=envOfC qual scope s.heap.objs.size f cd
 outer:=outer
 stack:=envOfC qual scope s.heap.objs.size f cd::outer
 ex:=[]
 calm:=true
 fn:=λ_=>true
 pn:=[]
 xe:=λe s'=>wpAny (model P w) (A.deeper (envOfC qual scope s.heap.objs.size f cd)) (leaving (envOfC qual scope s.heap.objs.size f cd) e) (λ_ ot=>CX outer H s E e ot) (λe' ot=>CX outer H s E e' ot) s'
theorem CG{sc:Scope}{n:Nat}{x:Str}(h:sc.names.lookup x=some .cell):∃c,(cellsFrom n sc.names []).lookup x=some c:=by
 have q:=dP sc.names n [] (.inl h);exact dB.mp q
theorem Zv{CX:nQ}{P:Program}{w:World}{K:PySem.W.Frag}{mg:Str->Option Value}{base:Heap}{N ps:List Str}{qual:Str}{scope:Scope}{f:Addr}{cd:Value}{A:Around}{outer:List Env}{s s1:Shared}{H:Hp}{E:XK}{us:List Value}{vs:List V}(S:iS N ps scope)(hd:A.handled=none)(e0:se P w K mg base A outer s H)(hl:vs.length=ps.length)(r:Vals vs us)(x:InCallC s s.heap.objs.size (bindL (envOfC qual scope s.heap.objs.size f cd).kindOf (ps.zip us) λ_=>none) (cellsFrom (s.heap.objs.size+1) scope.names []) (bindC (envOfC qual scope s.heap.objs.size f cd).kindOf (ps.zip us) λ_=>none) s1) :
  Inv (oU CX P w K mg base N qual scope f cd A outer s H E) [] (start N vs) H s1:=by
 have fX:ps.length<=N.length:=by have:=dt List.length S.pre;rw[cZ] at this;omega
 obtain⟨h1,tk,rfl,hk⟩:=x.done;have uR:∀b:Addr,b∉(oU CX P w K mg base N qual scope f cd A outer s H E).ex:=λb z=>absurd (show b∈([]:List Addr) from z) (by simp);refine ⟨⟨e0.mod,S.kind,rfl,rfl,av _,λy z c h1 h2=>?_,λy hy=>?_,λy c _ h=>?_,λ_=>hd,Around.frames_deeper e0.frames,.inr ⟨rfl,rfl⟩,λb z=>absurd z (uR b),e0.bs,e0.qd,λb _ _=>uR b,λb z=>absurd z (uR b),e0.P6,e0.rR⟩,
  rfl,e0.bare,Un.kept hk,⟨_,x.toInCall.ns,λi y v h1 h2 h3=>?_⟩,λy c h=>⟨_,x.cell y c h⟩,e0.bZ.fresh (av _),λy c h=>?_,λp hp=>absurd (show p ∈ ([]:List (Addr × Obj)) from hp) (by simp),e0.bZ.kept hk,?_⟩
 ·exact name_of_addr x.apart (aQ h1) (aQ h2)
 ·have hy:scope.names.lookup y=some .cell\/scope.names.lookup y=some .free:=hy;rcases hy with hy|hy
  ·exact CG hy
  ·exact absurd rfl (S.mX _ (aQ hy))
 ·exact du (x.above y c (aQ h))
 ·have hi:i<vs.length:=by
   unfold start at h2;by_cases hi:i<vs.length
   ·exact hi
   ·rw[bB (by simpa using hi)] at h2;rw[fe] at h2;split at h2<;>cases h2
  have ha:vs[i]?=some v:=by
   unfold start at h2;rw[aA (by simpa using hi),ai] at h2;cases e:vs[i]? with
   |none=>rw[e] at h2;cases h2
   |some a=>rw[e] at h2;cases h2;rfl
  obtain⟨u,hu,rv⟩:=r.get ha;have hp:ps[i]?=some y:=by
   rw[<- S.pre,eU (by omega)];exact h1
  have Fx:ps.Nodup:=by rw[<- S.pre];exact S.nd.sublist (List.take_sublist _ _)
  refine⟨u,rv,?_⟩;rcases S.par y (aJ hp) with k|k
  ·exact .inl ⟨k,IS Fx hp hu k⟩
  ·obtain⟨c,e⟩:=CG (n:=s.heap.objs.size+1) k;refine .inr ⟨.inl k,c,e,?_⟩;have q:=x.cell y c e;rw[IP Fx hp hu (by show scope.names.lookup y≠_;rw[k];decide)] at q;exact q
 ·exact e0.bZ.fresh (du (x.above y c (aQ h)))
 ·unfold start;show _=N.length;rw[aY,ag,xf];omega
theorem WZ{CX:nQ}{P:Program}{w:World}{K:PySem.W.Frag}{mg:Str->Option Value}{base:Heap}{k:Nat}{f:Addr}{name qual:Str}{params:Arguments}{body:List Stmt}{scope:Scope}{dV kV doc pm fQ ct oc:Value}{an od:Option Addr}{mq:Array (Option Value)}{N ps:List Str}{sp:Sp}(lk:K.lookup f=some ⟨oc,od,.func (PySem.W.fnOf name qual params body scope dV kV doc pm an fQ ct),mq⟩)(kn:PySem.W.codeIn K fQ qual=true)(S:iS N ps scope)(len:∀vs H Q E,sp vs H Q E->vs.length=ps.length)(vz:∀ (A:Around) (outer:List Env) (s:Shared) (H:Hp) (vs:List V) (Q:VK) (E:XK),x6 k (A.deeper (envOfC qual scope s.heap.objs.size f fQ))->sp vs H Q E ->
   ∃ t,jN (oU CX P w K mg base N qual scope f fQ A outer s H E) body t/\t { nx:=λ_ H'=>Q .bQ H',rt:=Q } (start N vs) H) :
  iN P w K mg base CX (k+1) f (PySem.W.fnOf name qual params body scope dV kV doc pm an fQ ct) ps sp:=by
 refine⟨len,λA outer s H args us vs Q E hr e0 hb r tj=>?_⟩;have hl:=len _ _ _ _ tj;have KX:K.In s.heap:=e0.mod.nU.keeps λb o e=>(e0.bs b o e).1;have lim:s.heap.NoLimit:=e0.mod.nolimit.keeps λb o e=>(e0.bs b o e).1;have vn:∀y∈ps.zip us,scope.names.lookup y.1=some .local\/(scope.names.lookup y.1=some .cell/\((cellsFrom (s.heap.objs.size+1) scope.names []).lookup y.1).isSome=true):=λ⟨n,v⟩ hy=>by
  rcases S.par n (mK hy).1 with q|q
  ·exact .inl q
  ·exact .inr ⟨q,dP _ _ _ (.inl q)⟩
 refine codeAny_call_function hr.depth (KX _ _ lk) rfl S.co S.gen rfl (PySem.W.codeRec_of KX kn) (hb _ _ _ _ ?_);refine wpAny_newFunctionEnv_cells S.kind vn λenv he s1 x=>?_;subst he;refine⟨lim.keeps x.toInCall.keep,codeAny_func ?_⟩;obtain⟨t,ht,hq⟩:=vz A outer s H vs Q E (hr.deeper _) tj;have I:Inv (oU CX P w K mg base N qual scope f fQ A outer s H E) [] (start N vs) H s1:=Zv S hr.hd e0 hl r x;refine bI (ht [] s1 (start N vs) H _ I hq) (λfl s' hs=>?_) λe s' hs=>hs;have fin:∀{cq:St} {H':Hp} {v:V} {u:Value},Inv (oU CX P w K mg base N qual scope f fQ A outer s H E) [] cq H' s'->RelV v u->Q v H'->CE outer P w H s Q u s' :=
  λ{cq H' v u} J rv q=>⟨v,H',J.os,J.bare,J.base,J.bZ,rv,q⟩
 cases fl with
 |ret u =>
  obtain⟨v,cq,H',J,rv,q⟩:=hs;exact fin J rv q
 |next =>
  obtain⟨cq,H',J,q⟩:=hs;exact fin (v:=V.bQ) (u:=Value.none) J rfl q
 |brk =>
  obtain⟨_,_,_,q⟩:=hs;exact False.elim q
 |cont =>
  obtain⟨_,_,_,q⟩:=hs;exact False.elim q
section
variable{X:Cx}{x:Str}{p pos:Pos}{e:Expr}{es:List Expr}{t:TA}{id T:String}{r:List V->Hp->VK->Prop}
def zL(r:List V->Hp->VK->Prop)(t:TA):TE:=λZ H Q=>t Z H λvs H1=>r vs H1 Q
theorem Z8(hc:l6 X (.builtin id) r)(hg:Gl X x)(hm:X.mg x=none)(hv:bootBuiltins x=some (.builtin id))(ha:PA X (e::es) t)(hn:x≠"__name__":=by decide)(jo:(x==("__debug__":Str))=false:=by decide)(he:starEach (e::es) X.env=(false,eval e X.env)::starEach es X.env:=by rfl)(fX:(backTo pos (starEach es X.env)).any (·.1)=false:=by rfl):PE X (.Call (.Name x p) (e::es) [] pos) (zL r t):=by
 intro pins s Z H Q I h;refine dn (L4 I hg hm hv ?_ hn jo);exact PyProof.Rows.callWith_builtin1 (cP (ha pos pins s Z H _ I h) λus s1 ⟨vs,H1,I1,r1,q1⟩=>hc pins s1 Z H1 vs us Q I1 r1 q1) he fX
theorem P0(hc:l6 X (.type T) r)(hg:Gl X x)(hm:X.mg x=none)(hv:bootBuiltins x=some (.type T))(ha:PA X (e::es) t)(hn:x≠"__name__":=by decide)(jo:(x==("__debug__":Str))=false:=by decide)(he:starEach (e::es) X.env=(false,eval e X.env)::starEach es X.env:=by rfl)(fX:(backTo pos (starEach es X.env)).any (·.1)=false:=by rfl):PE X (.Call (.Name x p) (e::es) [] pos) (zL r t):=by
 intro pins s Z H Q I h;refine dn (L4 I hg hm hv ?_ hn jo);exact bN (cP (ha pos pins s Z H _ I h) λus s1 ⟨vs,H1,I1,r1,q1⟩=>hc pins s1 Z H1 vs us Q I1 r1 q1) he fX
end
end L2

namespace HT
open PySem PyProof.Rows
section
open PySem.SeqAt
open PySem.AutoSeq1 (wpAny_loadPart')
open PySem.MeetsSeq PySem.MeetsSeq2 PySem.MeetsSeq3
end
section
variable{prog:Program}{w:World}{A:Around}{E:Value->Shared->Prop}{s:Shared}
theorem SX{t b:Addr}{vs ws:List Value}{Q:Value->Shared->Prop}(ht:IsTup s.heap t vs.toArray)(hb:IsTup s.heap b ws.toArray)(hv:vs≠[])(h1:ws=[]->Q (.ref t) s)(h2:ws≠[]->Q (.ref s.heap.objs.size) { s with heap:=s.heap.push { cls:=.type "tuple",data:=.seq (vs++ws).toArray } })(hsz:vs.length+ws.length<=sizeLine):wpAny (model prog w) A (binaryOp .Add (.ref t) (.ref b)) Q E s:=by
 obtain⟨⟨cls,dd,data,sl⟩,ho,hc,n,hd⟩:=id ht;obtain⟨⟨wg,qc,data2,mT⟩,kM,nE,n2,hd2⟩:=id hb;simp only at hc hd nE hd2;subst hc hd nE hd2;have e:vs.toArray++ws.toArray=(vs++ws).toArray:=by simp
 by_cases hw:ws=[]
 ·exact concat_meets ⟨_,ho,rfl⟩ ⟨_,kM,rfl⟩ jq lW iA ia (gW _ _)
   (tuple_addW1 t b vs.toArray ws.toArray n n2 dd qc sl mT (by simpa using hv) (by simp[hw])) ⟨ho,kM,h1 hw⟩
 ·refine concat_meets ⟨_,ho,rfl⟩ ⟨_,kM,rfl⟩ jq lW iA ia (gW _ _)
   (tuple_addW2 t b vs.toArray ws.toArray n n2 dd qc sl mT (by simpa using hv) (by simpa using hw) (by rw[aG,aG];exact hsz)) ⟨ho,kM,?_⟩
  rw[e];exact h2 hw
def dQ(n d:Nat):Option Int->Nat
 |none=>d
 |some v=>if v<0 then(v+(n:Int)).toNat else min v.toNat n
theorem RK(n d:Nat)(hd:d<=n)(o:Option Int):dQ n d o<=n:=by
 cases o with
 |none=>exact hd
 |some v =>
  show(if v<0 then(v+(n:Int)).toNat else min v.toNat n)<=n;by_cases hv:v<0
  ·rw[aK hv];omega
  ·rw[aD hv];exact Nat.min_le_right _ _
theorem KA(v:Int)(n d:Nat):(if v<0 then max (v+(n:Int)) 0 else min v (n:Int))=((dQ n d (some v):Nat):Int):=by
 show(if v<0 then max (v+(n:Int)) 0 else min v (n:Int))=(((if v<0 then(v+(n:Int)).toNat else min v.toNat n):Nat):Int);by_cases hv:v<0
 ·simp only[if_pos hv];omega
 ·simp only[if_neg hv];omega
theorem aS1(lo hi:Option Int)(n:Nat):Builtin.Slice.sliceAdjust lo hi 1 (n:Int)=(((dQ n 0 lo:Nat):Int),((dQ n n hi:Nat):Int)):=by
 have h1:¬((1:Int)<0):=by omega
 unfold Builtin.Slice.sliceAdjust;simp only[h1,if_false];refine Prod.ext ?_ ?_
 ·cases lo with
  |none=>rfl
  |some v=>exact KA v n 0
 ·cases hi with
  |none=>rfl
  |some v=>exact KA v n n
theorem aN8(i j:Nat):Builtin.Slice.slicePlaces (i:Int) (j:Int) 1=j-i:=by
 unfold Builtin.Slice.slicePlaces;have h1:(1:Int)>0:=by omega
 simp only[h1,if_true,Int.ediv_one];split<;>omega
theorem JG{v:Value}{o:Option Int}{Q:Option Int->Shared->Prop}(p:IsPart v o)(h:Q o s):wpAny (model prog w) A (Builtin.Slice.slicePartIndex v) Q E s:=by
 cases p with
 |none=>exact slicePart_none h
 |int i t=>exact slicePart_int h
theorem R9{sl:Addr}{vl vu:Value}{lo hi:Option Int}{n:Nat}{Q:Int×Int×Nat->Shared->Prop}(hs:s.heap.IsSliceOf sl vl vu .none)(pl:IsPart vl lo)(pu:IsPart vu hi)(h:Q (((dQ n 0 lo:Nat):Int),1,dQ n n hi-dQ n 0 lo) s):wpAny (model prog w) A (Builtin.Slice.sliceApplied (.ref sl) (pure (n:Int))) Q E s:=by
 obtain⟨os,qZ,xQ,vt⟩:=id hs;unfold Builtin.Slice.sliceApplied Builtin.Slice.sliceFields;refine ae (ae (wpAny_field qZ vt (x:=vl) rfl (ae (wpAny_field qZ vt (x:=vu) rfl (ae (wpAny_field qZ vt (x:=.none) rfl (au ?_)))))));refine ae (slicePart_none ?_);show wpAny _ _ (if((1:Int)==0)=true then _ else _) _ _ s;rw[aD (by decide)];refine ae (JG pl (ae (JG pu (ae (au ?_)))));show wpAny _ _ (match Builtin.Slice.sliceAdjust lo hi 1 (n:Int) with|(lo,hi)=>pure (lo,(1:Int),Builtin.Slice.slicePlaces lo hi 1)) _ _ s;rw[aS1 lo hi n];show wpAny _ _ (pure (((dQ n 0 lo:Nat):Int),(1:Int),Builtin.Slice.slicePlaces ((dQ n 0 lo:Nat):Int) ((dQ n n hi:Nat):Int) 1)) _ _ s;rw[aN8];exact au h
theorem a69(xs:Array Value)(i k:Nat):((List.range k).filterMap λ(m:Nat)=>xs[((i:Int)+(m:Int)*1).toNat]?).toArray=((xs.toList.drop i).take k).toArray:=by
 have e:(λ(m:Nat)=>xs[((i:Int)+(m:Int)*1).toNat]?)=λm=>xs[i+m]?:=by
  funext m
  have:((i:Int)+(m:Int)*1).toNat=i+m:=by omega
  rw[this]
 rw[e];have:=pick_run xs i k;rw[List.filterMap_map] at this;have e2:((λx=>xs[x]?) ∘ λx=>i+x)=λm=>xs[i+m]?:=rfl;rw[e2] at this;rw[this]
theorem Zm{t sl:Addr}{items:Array Value}{vl vu:Value}{lo hi:Option Int}{Q:Value->Shared->Prop}(ht:IsTup s.heap t items)(hs:s.heap.IsSliceOf sl vl vu .none)(pl:IsPart vl lo)(pu:IsPart vu hi)(hw:¬(dQ items.size 0 lo=0/\dQ items.size items.size hi=items.size))(h:Q (.ref s.heap.objs.size) { s with heap:=s.heap.push { cls:=.type "tuple",data:=.seq ((items.toList.drop (dQ items.size 0 lo)).take (dQ items.size items.size hi-dQ items.size 0 lo)).toArray } })(hsz:items.size<=sizeLine):wpAny (model prog w) A (getItem (.ref t) (.ref sl)) Q E s:=by
 have kZ:sizeOk (.seq ((items.toList.drop (dQ items.size 0 lo)).take (dQ items.size items.size hi-dQ items.size 0 lo)).toArray):=by
  show((items.toList.drop (dQ items.size 0 lo)).take (dQ items.size items.size hi-dQ items.size 0 lo)).toArray.size<=sizeLine;rw[aG,cZ,lF,bz];omega
 have hj:dQ items.size items.size hi<=items.size:=RK _ _ (av _) hi;obtain⟨os,qZ,xQ,vt⟩:=id hs;have AO:s.TypeIs (.ref sl) "slice":=⟨os,qZ,xQ⟩
 unfold getItem
 try with_reducible refine bP ?_
 first|refine ae (au ?_)|skip
 refine ae (wpAny_sequenceKey ht.typeIs (by decide) ?_);refine ae (fC (name:=Str.ofString "__getitem__") ht.typeIs bS
  (cz bS ht.typeIs entry_tuple_getitem ?_ (args_tuple_getitem _ _)))
 show wpAny _ _ (Builtin.Tuple.tupleItemsOf (.ref t) >>= _) _ _ s;refine ae (tupleItemsOf_ ht ?_);refine ae (dM AO ?_);rw[aK (by decide)];refine ae (R9 hs pl pu ?_);have jK:¬((((dQ items.size 0 lo:Nat):Int)==0&&(1:Int)==1&&(dQ items.size items.size hi-dQ items.size 0 lo)==items.size)=true):=by
  intro q;rw[aU,aU] at q;have q1:((dQ items.size 0 lo:Nat):Int)=0:=eq_of_beq q.1.1;have q2:dQ items.size items.size hi-dQ items.size 0 lo=items.size:=eq_of_beq q.2;exact hw ⟨by omega,by omega⟩
 show wpAny _ _ (if(((dQ items.size 0 lo:Nat):Int)==0&&(1:Int)==1&&(dQ items.size items.size hi-dQ items.size 0 lo)==items.size)=true then _ else _) _ _ s;rw[aD jK,a69]
 first
  |exact wpAny_bind (m:=Builtin.Tuple.tupleExact _) (wpAny_newObj_type (wpAny_pure ⟨_,rfl,wpAny_pure h⟩) kZ)
  |exact wpAny_bind (m:=Builtin.Tuple.tupleExact _) (wpAny_newObj_type (wpAny_bind (wpAny_pure (wpAny_pure ⟨_,rfl,wpAny_pure h⟩))) kZ)
  |exact wpAny_bind (wpAny_bind (m:=Builtin.Tuple.tupleExact _) (wpAny_newObj_type (wpAny_pure (wpAny_pure ⟨_,rfl,wpAny_pure h⟩)) kZ))
  |exact wpAny_bind (wpAny_bind (m:=Builtin.Tuple.tupleExact _) (wpAny_newObj_type (wpAny_pure ⟨_,rfl,wpAny_pure h⟩) kZ))
end
end HT
namespace L2
open PySem PySem.Spec PyProof.Rows
noncomputable abbrev TO:=St->Hp->(Option Int->Hp->Prop)->Prop
def PO(X:Cx)(e:Option Expr)(t:TO):Prop :=
 ∀(pins:List (Addr×Obj)) (s:Shared) (Z:St) (H:Hp) (Q:Option Int->Hp->Prop),Inv X pins Z H s->t Z H Q ->
  wpAny (model X.prog X.w) X.A (evalPart e X.env) (λu s'=>∃o H',Inv X pins Z H' s'/\IsPart u o/\Q o H') X.xe s
def UU:TO:=λ_ H Q=>Q none H
def Yo(t:TE):TO:=λZ H Q=>t Z H λx H1=>∃i,x=.int i/\Q (some i) H1
section
variable{X:Cx}{e:Expr}{te:TE}{lo hi:Option Expr}{tl th:TO}{pos p2:Pos}
theorem yO:PO X none UU:=by
 intro pins s Z H Q I h;rw[evalPart_none];exact au ⟨none,H,I,.none,h⟩
theorem KZ(h:PE X e te):PO X (some e) (Yo te):=by
 intro pins s Z H Q I hw;rw[evalPart_some];refine cP (h pins s Z H _ I hw) λu s1 bt=>?_;obtain⟨x,H1,I1,r1,q1⟩:=bt;obtain⟨i,rfl,q⟩:=q1;obtain⟨t,rfl⟩:=r1;exact⟨some i,H1,I1,.int i t,q⟩
def wR(X:Cx)(r:V->Option Int->Option Int->Hp->VK->Prop):Prop :=
 ∀(pins:List (Addr×Obj)) (s:Shared) (Z:St) (H:Hp) (x:V) (v vl vu:Value) (lo hi:Option Int) (sl:Addr) (Q:VK),Inv X pins Z H s->RelV x v->s.heap.IsSliceOf sl vl vu .none->IsPart vl lo->IsPart vu hi->r x lo hi H Q ->
  ∃T id,typeLookup (.type T) "__getitem__"=pure (some (.builtin id))/\s.TypeIs v T/\wpAny (model X.prog X.w) X.A (getItem v (.ref sl)) (EP X pins Z Q) X.xe s
def ML(r:V->Option Int->Option Int->Hp->VK->Prop)(te:TE)(tl th:TO):TE:=λZ H Q=>te Z H λx H1=>tl Z H1 λl H2=>th Z H2 λu H3=>r x l u H3 Q
theorem CP{r:V->Option Int->Option Int->Hp->VK->Prop}(hr:wR X r)(he:PE X e te)(hl:PO X lo tl)(hu:PO X hi th):PE X (.Subscript e (.Slice lo hi none p2) pos) (ML r te tl th):=by
 intro pins s Z H Q I h;refine Subscript_ (cP (he pins s Z H _ I h) λv s1 bt=>?_);obtain⟨x,H1,I1,r1,q1⟩:=bt;refine wpAny_Slice (cP (hl pins s1 Z H1 _ I1 q1) λvl s2 ⟨l,H2,I2,pl,q2⟩=>cP (hu pins s2 Z H2 _ I2 q2) λvu s3 bt=>?_);obtain⟨u,H3,I3,pu,q3⟩:=bt;rw[evalPart_none];refine au ?_;have I4:Inv X pins Z H3 { s3 with heap:=s3.heap.push { cls:=.type "slice",data:=.fields #[vl,vu,.none] } }:=I3.kept (t':=s3.toks) λb ob q=>ao _ q;obtain⟨T,id,hT,ht,hg⟩:=hr pins { s3 with heap:=s3.heap.push { cls:=.type "slice",data:=.fields #[vl,vu,.none] } } Z H3 x v vl vu l u s3.heap.objs.size Q I4 r1 (Heap.IsSliceOf.new ..) pl pu q3;show wpAny (model X.prog X.w) X.A (subscriptTail e (.Slice lo hi none p2) v (.ref s3.heap.objs.size)) (EP X pins Z Q) X.xe { s3 with heap:=s3.heap.push { cls:=.type "slice",data:=.fields #[vl,vu,.none] } };exact tail_any (ops:=[.ref s3.heap.objs.size,v]) ht hT hg (by with_unfolding_all rfl)
def U2(xs:List V)(lo hi:Option Int):List V:=(xs.drop (HT.dQ xs.length 0 lo)).take (HT.dQ xs.length xs.length hi-HT.dQ xs.length 0 lo)
theorem JL(xs:List V)(lo hi:Option Int):(U2 xs lo hi).length<=xs.length:=by
 unfold U2;rw[cZ,lF];omega
def Wd(K:PySem.W.Frag):V->Option Int->Option Int->Hp->VK->Prop:=λx lo hi H Q=>∃a xs,x=.ref a/\ip K H a xs /\
 ¬(HT.dQ xs.length 0 lo=0/\HT.dQ xs.length xs.length hi=xs.length)/\∀p,H p=none->Q (.ref p) (upd H p (.tup (U2 xs lo hi)))
theorem Se:wR X (Wd X.K):=by
 intro pins s Z H x v vl vu lo hi sl Q I rx hs pl pu h;obtain⟨a,xs,rfl,hx,hw,q⟩:=h;cases rx;obtain⟨aW,r,ht,hz⟩:=I.tuple hx;have hlen:aW.toArray.size=xs.length:=by rw[aG];exact r.length.symm
 refine⟨"tuple",_,bS.lookup,ht.typeIs,?_⟩;refine HT.Zm ht hs pl pu (by rw[hlen];exact hw) ?_ (by rw[hlen];exact hz);rw[hlen];refine⟨.ref s.heap.objs.size,_,I.laid (t':=s.toks) (o:=.tup (U2 xs lo hi)) (λb ob q=>ao _ q) (av _) ?_,rfl,q _ (I.bZ.fresh (av _))⟩;exact⟨aE (JL xs lo hi) hz,_,(r.drop (HT.dQ xs.length 0 lo)).take (HT.dQ xs.length xs.length hi-HT.dQ xs.length 0 lo),J9.new _ _⟩
def XX(K:PySem.W.Frag):R2:=λx y H Q=>∃a b xs ys,x=.ref a/\y=.ref b/\ip K H a xs/\ip K H b ys/\xs≠[]/\xs.length+ys.length<=sizeLine /\
 (ys=[]->Q (.ref a) H)/\(ys≠[]->∀p,H p=none->Q (.ref p) (upd H p (.tup (xs++ys))))
theorem Vals.R0{xs:List V}{us:List Value}(r:Vals xs us):us=[]↔xs=[]:=by
 cases r with
 |nil=>simp
 |cons _ _=>simp
theorem TM:fK X (binaryOp .Add) (XX X.K):=by
 intro pins s Z H x y v u Q I rx ry h;obtain⟨a,b,xs,ys,rfl,rfl,ha,hb,hx,hz,q1,q2⟩:=h;cases rx;cases ry;obtain⟨aW,r1,p1,_⟩:=I.tuple ha;obtain⟨nj,r2,p2,_⟩:=I.tuple hb;refine HT.SX p1 p2 (λz=>hx (r1.R0.mp z)) (λz=>⟨.ref a,H,I,rfl,q1 (r2.R0.mp z)⟩) (λz=>?_) (by rw[<- r1.length,<- r2.length];exact hz);refine⟨.ref s.heap.objs.size,_,I.laid (t':=s.toks) (o:=.tup (xs++ys)) (λb ob q=>ao _ q) (av _) ?_,rfl,q2 (λw=>z (r2.R0.mpr w)) _ (I.bZ.fresh (av _))⟩;exact⟨by rw[aY];exact hz,_,r1.append r2,J9.new _ _⟩
end
def kY(n:Nat)(i:Int):Option Nat:=if 0<=i then(if i<n then some i.toNat else none) else if -(n:Int)<=i then some (i+n).toNat else none
def gP{α:Type}(xs:List α)(i:Int):Option α:=(kY xs.length i).bind λj=>xs[j]?
theorem KP{n:Nat}{i:Int}{j:Nat}(h:kY n i=some j):seqIndex? i n=some j/\j<n/\-(n:Int)<=i/\i<n:=by
 unfold kY at h;by_cases h0:0<=i
 ·rw[aK h0] at h;by_cases h1:i<n
  ·rw[aK h1] at h;have e:i.toNat=j:=aO h;exact⟨by rw[seqIndex_of h0 h1,e],by omega,by omega,h1⟩
  ·rw[aD h1] at h;cases h
 ·rw[aD h0] at h;by_cases h1:-(n:Int)<=i
  ·rw[aK h1] at h;have e:(i+n).toNat=j:=aO h;exact⟨by rw[seqIndex_neg (by omega) h1,e],by omega,h1,by omega⟩
  ·rw[aD h1] at h;cases h
theorem Ci{α:Type}{xs:List α}{i:Int}{v:α}(h:gP xs i=some v):∃j,seqIndex? i xs.length=some j/\xs[j]?=some v/\j<xs.length/\-(xs.length:Int)<=i/\i<xs.length:=by
 unfold gP at h;cases e:kY xs.length i with
 |none=>rw[e] at h;cases h
 |some j =>
  rw[e] at h;obtain⟨h1,h2,h3,h4⟩:=KP e;exact⟨j,h1,h,h2,h3,h4⟩
theorem C7{α:Type}{xs:List α}{j:Nat}{v:α}(h:xs[j]?=some v):gP xs (j:Int)=some v:=by
 have hj:j<xs.length:=(aj.mp h).1;have e:kY xs.length (j:Int)=some j:=by
  unfold kY;rw[aK (by omega),aK (by omega)];simp
 unfold gP;rw[e];exact h
def Cd(b:Expr):Prop:=∀o i,subscripted b false o i=operate [o,i] (getItem o i)
def sE(X:Cx)(r:R2):Prop :=
 ∀(value slice:Expr) (pins:List (Addr×Obj)) (s:Shared) (Z:St) (H:Hp) (x y:V) (v u:Value) (Q:VK),Inv X pins Z H s->RelV x v->RelV y u->r x y H Q ->
  subscripted slice false v u=operate [v,u] (getItem v u)->wpAny (model X.prog X.w) X.A (subscriptTail value slice v u) (EP X pins Z Q) X.xe s
def lU(X:Cx)(id:String)(r:V->List V->Hp->VK->Prop):Prop :=
 ∀(pins:List (Addr×Obj)) (s:Shared) (Z:St) (H:Hp) (x:V) (xs:List V) (v:Value) (us:List Value) (Q:VK),Inv X pins Z H s->RelV x v->Vals xs us->r x xs H Q ->
  wpAny (model X.prog X.w) X.A (call (.builtin id) (v::us)) (EP X pins Z Q) X.xe s
section
variable{X:Cx}{a b:Expr}{ta tb:TE}{pos:Pos}
theorem Ij{r:R2}(hr:sE X r)(ha:PE X a ta)(hb:PE X b tb)(hs:Cd b):PE X (.Subscript a b pos) (sR r ta tb):=by
 intro pins s Z H Q I h;exact Subscript_ (BS ha hb I h λv u s2 x y H2 I2 rx ry q=>hr a b pins s2 Z H2 x y v u Q I2 rx ry q (hs _ _))
def VY(K:PySem.W.Frag):R2:=λx y H Q=>∃p xs i v,x=.ref p/\y=.int i/\fG K H p xs/\gP xs i=some v/\Q v H
def V'(K:PySem.W.Frag):R2:=λx y H Q=>∃p xs i v,x=.ref p/\y=.int i/\ip K H p xs/\gP xs i=some v/\Q v H
def VZ:R2:=λx y H Q=>∃z i c,x=.str z/\y=.int i/\z.length<=sizeLine/\gP z.cps.toList i=some c/\Q (.str ⟨#[c]⟩) H
theorem Tq:sE X (VY X.K):=by
 intro value slice pins s Z H x y v u Q I rx ry h hs;obtain⟨p,xs,i,z,rfl,rfl,hq,he,q⟩:=h;cases rx;obtain⟨t,rfl⟩:=ry;obtain⟨aW,r,pl,hz⟩:=I.list hq;obtain⟨j,h1,h2,h3,h4,h5⟩:=Ci he;obtain⟨w,ew,fJ⟩:=r.get h2;have hl:=r.length;have hn:=T6;have fin:EP X pins Z Q w s:=⟨z,H,I,fJ,q⟩
 by_cases h0:0<=i
 ·have hj:i.toNat=j:=by
   rw[seqIndex_of h0 h5] at h1;exact aO h1
  exact item_listR pl.isList h0 (by omega) (by rw[hj];simpa using ew) fin hs
 ·have hj:(i+(aW.toArray.size:Int)).toNat=j:=by
   rw[seqIndex_neg (by omega) h4] at h1;rw[aG,<- hl];exact aO h1
  exact subscriptTail_builtinR (x:=w) pl.isList.typeIs slot_list_getitem.lookup
   (wpAny_getItem_list_neg (Q:=λr s'=>r=w/\EP X pins Z Q r s') pl.isList (by omega) (by rw[aG]<;>omega) (by omega) (by rw[hj];simpa using ew) ⟨rfl,fin⟩) hs
theorem Qz:sE X (V' X.K):=by
 intro value slice pins s Z H x y v u Q I rx ry h hs;obtain⟨p,xs,i,z,rfl,rfl,hq,he,q⟩:=h;cases rx;obtain⟨t,rfl⟩:=ry;obtain⟨aW,r,pl,hz⟩:=I.tuple hq;obtain⟨j,h1,h2,h3,h4,h5⟩:=Ci he;obtain⟨w,ew,fJ⟩:=r.get h2;have hl:=r.length;have hn:=T6;have fin:EP X pins Z Q w s:=⟨z,H,I,fJ,q⟩
 exact subscriptTail_builtinR (x:=w) pl.typeIs slot_tuple_getitem.lookup
  (getItem_tuple (j:=j) (Q:=λr s'=>r=w/\EP X pins Z Q r s') pl (by omega) (by omega) (by rw[aG,<- hl];exact h1) (by simpa using ew) ⟨rfl,fin⟩) hs
theorem Qy:sE X VZ:=by
 intro value slice pins s Z H x y v u Q I rx ry h hs;obtain⟨z,i,c,rfl,rfl,hz,he,q⟩:=h;obtain⟨t,rfl⟩:=rx;obtain⟨t',rfl⟩:=ry;obtain⟨j,h1,h2,h3,h4,h5⟩:=Ci he;have hl:z.cps.toList.length=z.length:=by simp[Str.length]
 rw[hl] at h1 h4 h5;have hn:=T6;exact tail_any (typeIs_str s z t) slot_str_getitem.lookup (getItem_str (c:=c) (by
  have e1:decide (i < -(2 ^ 63:Int))=false:=aL (by omega);have e2:decide (i>=2 ^ 63)=false:=aL (by omega);rw [e1,e2,Bool.or_false]) (by rw [h1];simpa using h2) ⟨.str ⟨#[c]⟩,H,I.tok _,⟨_,rfl⟩,q⟩) hs
theorem aP1(aW:List Value)(n j:Nat)(u:Value):Obj.mapSeq (·.setIfInBounds j u) { cls:=.type "list",data:=.seq aW.toArray n }={ cls:=.type "list",data:=.seq (aW.set j u).toArray n }:=by
 simp[Obj.mapSeq]
theorem Inv.lst{pins:List (Addr×Obj)}{Z:St}{H:Hp}{s:Shared}{p:Addr}{xs:List V}(I:Inv X pins Z H s)(h:H p=some (.lst xs)) :
  ∃(aW:List Value) (n:Nat),Vals xs aW/\s.heap.get? p=some { cls:=.type "list",data:=.seq aW.toArray n }/\xs.length<=sizeLine:=by
 obtain⟨z,aW,n,r,e⟩:=I.bZ p _ h;exact⟨aW,n,r,e,z⟩
theorem Inv.QK{pins:List (Addr×Obj)}{Z:St}{H:Hp}{s:Shared}{p:Addr}{xs ys:List V}{aW its':List Value}{n n':Nat}{f:Obj->Obj}(I:Inv X pins Z H s)(h:H p=some (.lst xs))(ho:s.heap.get? p=some { cls:=.type "list",data:=.seq aW.toArray n })(hf:f { cls:=.type "list",data:=.seq aW.toArray n }={ cls:=.type "list",data:=.seq its'.toArray n' })(r:Vals ys its')(hz:ys.length<=sizeLine)(t:Nat) :
  Inv X pins Z (upd H p (.lst ys)) { s with heap:=s.heap.update p f,toks:=t }:=by
 have e:(s.heap.update p f).get? p=some { cls:=.type "list",data:=.seq its'.toArray n' }:=by
  rw[br f ho (by rw[hf]<;>rfl),hf]
 refine I.write (x:=p) (e:=p) (by rw[h];trivial) (.inl rfl) (λb u hb q=>(cO _ _ (bT hb)).trans q) ⟨_,e⟩ ?_;exact⟨hz,its',n',r,e⟩
def X':V->V->V->Hp->(Hp->Prop)->Prop:=λo i v H Q=>∃p xs k j,o=.ref p/\i=.int k/\H p=some (.lst xs)/\kY xs.length k=some j/\Q (upd H p (.lst (xs.set j v)))
theorem set_list:BP X X':=by
 intro pins s Z H o i v ov iv u Q I ro ri rv h;obtain⟨p,xs,k,j,rfl,rfl,hp,hj,q⟩:=h;cases ro;obtain⟨t,rfl⟩:=ri;obtain⟨aW,n,r,ho,hz⟩:=I.lst hp;obtain⟨h1,h2,h3,h4⟩:=KP hj;have hl:=r.length;have hn:=T6;have I':Inv X pins Z (upd H p (.lst (xs.set j v))) { s with heap:=s.heap.update p (Obj.mapSeq (·.setIfInBounds j u)) } :=
  I.QK hp ho (aP1 aW n j u) (r.set rv j) (by rw[List.length_set];exact hz) s.toks
 by_cases h0:0<=k
 ·have hk:k.toNat=j:=by
   rw[seqIndex_of h0 h4] at h1;exact aO h1
  exact PySem.W.ki_setAt ho h0 (by omega) (by rw[aG,<- hl];exact h4) (by rw[hk];exact⟨_,I',q⟩)
 ·have hk:(k+(aW.toArray.size:Int)).toNat=j:=by
   rw[seqIndex_neg (by omega) h3] at h1;rw[aG,<- hl];exact aO h1
  exact PySem.W.ki_setBack ho (by omega) (by rw[aG,<- hl];exact h3) (by omega) (by rw[hk];exact⟨_,I',q⟩)
theorem aA2(lo hi:Option Int)(n:Nat):(sliceBounds lo hi none n).1=((HT.dQ n 0 lo:Nat):Int)/\(sliceBounds lo hi none n).2.1=((HT.dQ n n hi:Nat):Int)/\(sliceBounds lo hi none n).2.2=1:=by
 refine⟨?_,?_,rfl⟩
 ·cases lo with
  |none=>simp[sliceBounds,HT.dQ]
  |some i =>
   simp only[sliceBounds,HT.dQ,Option.getD_none,show(1:Int)>0 by decide,if_true];by_cases h:i<0
   ·simp only[h,if_true]<;>omega
   ·simp only[h,if_false]<;>omega
 ·cases hi with
  |none=>simp[sliceBounds,HT.dQ]
  |some i =>
   simp only[sliceBounds,HT.dQ,Option.getD_none,show(1:Int)>0 by decide,if_true];by_cases h:i<0
   ·simp only[h,if_true]<;>omega
   ·simp only[h,if_false]<;>omega
theorem YY(aW:List Value)(lo hi:Option Int):slicePick aW.toArray lo hi none=((aW.drop (HT.dQ aW.length 0 lo)).take (HT.dQ aW.length aW.length hi-HT.dQ aW.length 0 lo)).toArray:=by
 obtain⟨h1,h2,h3⟩:=aA2 lo hi aW.toArray.size;unfold slicePick;rw[h1,h2,h3];simp only[sliceRange_one,pick_run,List.size_toArray]<;>rfl
def Wc(K:PySem.W.Frag):V->Option Int->Option Int->Hp->VK->Prop:=λx lo hi H Q=>∃a xs,x=.ref a/\fG K H a xs/\∀p,H p=none->Q (.ref p) (upd H p (.lst (U2 xs lo hi)))
theorem UM:wR X (Wc X.K):=by
 intro pins s Z H x v vl vu lo hi sl Q I rx hs pl pu h;obtain⟨a,xs,rfl,hx,q⟩:=h;cases rx;obtain⟨aW,r,ht,hz⟩:=I.list hx;have hlen:=r.length;refine⟨"list",_,slot_list_getitem.lookup,ht.isList.typeIs,?_⟩;refine wpAny_getItem_list_slice ht.isList hs pl pu .none (by simp) ?_ (by rw[aG]<;>omega);rw[YY,<- hlen];refine⟨.ref s.heap.objs.size,_,I.laid (t':=s.toks) (o:=.lst (U2 xs lo hi)) (λb ob q=>ao _ q) (av _) ?_,rfl,q _ (I.bZ.fresh (av _))⟩;exact⟨aE (JL xs lo hi) hz,_,0,(r.drop (HT.dQ xs.length 0 lo)).take (HT.dQ xs.length xs.length hi-HT.dQ xs.length 0 lo),az _ rfl⟩
def L7:V->Bool
 |.bQ=>true
 |.bl _=>true
 |.int _=>true
 |.str _=>true
 |_=>false
def oe:V->V->Bool
 |.bQ,.bQ=>true
 |.bl a,.bl b=>a==b
 |.bl a,.int b=>(if a then 1 else 0)==b
 |.int a,.bl b=>a==(if b then 1 else 0)
 |.int a,.int b=>a==b
 |.str a,.str b=>a==b
 |_,_=>false
theorem YN{A:Around}{s:Shared}{y x:V}{u v:Value}(ry:RelV y u)(rx:RelV x v)(fy:L7 y=true)(fx:L7 x=true):SeqAt.EqAt A s u v (oe y x):=by
 cases y with
 |bQ =>
  cases ry;cases x with
  |bQ=>cases rx;exact SeqAt.EqAt.same _
  |bl b=>cases rx;exact SeqAt.EqAt.none_bool b
  |int b=>obtain⟨t,rfl⟩:=rx;exact SeqAt.EqAt.none_int b t
  |str b=>obtain⟨t,rfl⟩:=rx;exact SeqAt.EqAt.none_str b t
  |_=>exact absurd (show false=true from fx) Bool.false_ne_true
 |bl a =>
  cases ry;cases x with
  |bQ=>cases rx;exact SeqAt.EqAt.bool_none a
  |bl b=>cases rx;exact SeqAt.EqAt.bool_bool a b
  |int b=>obtain⟨t,rfl⟩:=rx;exact SeqAt.EqAt.bool_int a b t
  |str b=>obtain⟨t,rfl⟩:=rx;exact SeqAt.EqAt.bool_str a b t
  |_=>exact absurd (show false=true from fx) Bool.false_ne_true
 |int a =>
  obtain⟨t',rfl⟩:=ry;cases x with
  |bQ=>cases rx;exact SeqAt.EqAt.int_none a t'
  |bl b=>cases rx;exact SeqAt.EqAt.int_bool a t' b
  |int b=>obtain⟨t,rfl⟩:=rx;exact SeqAt.EqAt.int_int a t' b t
  |str b=>obtain⟨t,rfl⟩:=rx;exact SeqAt.EqAt.int_str a t' b t
  |_=>exact absurd (show false=true from fx) Bool.false_ne_true
 |str a =>
  obtain⟨t',rfl⟩:=ry;cases x with
  |bQ=>cases rx;exact SeqAt.EqAt.str_none a t'
  |bl b=>cases rx;exact SeqAt.EqAt.str_bool a t' b
  |int b=>obtain⟨t,rfl⟩:=rx;exact SeqAt.EqAt.str_int a t' b t
  |str b=>obtain⟨t,rfl⟩:=rx;exact SeqAt.EqAt.str_str a t' b t
  |_=>exact absurd (show false=true from fx) Bool.false_ne_true
 |_=>exact absurd (show false=true from fy) bG
def tJ(x:V)(u:Value):Bool:=match u with
 |.none=>oe .bQ x
 |.bool b=>oe (.bl b) x
 |.int i _=>oe (.int i) x
 |.str z _=>oe (.str z) x
 |_=>false
theorem Eb{x y:V}{u:Value}(r:RelV y u)(f:L7 y=true):tJ x u=oe y x:=by
 cases y with
 |bQ=>cases r;rfl
 |bl b=>cases r;rfl
 |int i=>obtain⟨t,rfl⟩:=r;rfl
 |str z=>obtain⟨t,rfl⟩:=r;rfl
 |_=>exact absurd (show false=true from f) bG
theorem CN{A:Around}{s:Shared}{x:V}{v:Value}(rx:RelV x v)(fx:L7 x=true):∀{xs:List V} {us:List Value},Vals xs us->xs.all L7=true->∀u∈us,SeqAt.EqAt A s u v (tJ x u)
 |_,_,.nil,_=>λu hu=>by cases hu
 |y::xs,u::us,.cons r t,f=>λu' hu=>by
  rw[jQ,aU] at f;rcases aI.mp hu with rfl|hu
  ·rw[Eb r f.1];exact YN r rx f.1 fx
  ·exact CN rx fx t f.2 u' hu
theorem aF0:l6 X (.builtin "len") (λxs H Q=>∃p ys,xs=[.ref p]/\(fG X.K H p ys\/ip X.K H p ys)/\Q (.int ys.length) H):=by
 intro pins s Z H xs us Q I r h;obtain⟨p,ys,rfl,hq,q⟩:=h;obtain⟨u,rfl,rx⟩:=vals1 r;cases rx;have hn:=T6;rcases hq with hq|hq
 ·obtain⟨aW,r',pl,hz⟩:=I.list hq;have hlen:=r'.length;exact Calls.call_len_list pl.isList (by simp only[List.size_toArray]<;>omega) ⟨.int ys.length,H,I.tok _,⟨s.toks+1,by rw[aG,hlen]⟩,q⟩
 ·obtain⟨aW,r',pl,hz⟩:=I.tuple hq;have hlen:=r'.length;exact len_tuple pl (by simp only[List.size_toArray]<;>omega) ⟨.int ys.length,H,I.tok _,⟨s.toks+1,by rw[aG,hlen]⟩,q⟩
theorem aE9:l6 X (.builtin "len") (λxs H Q=>∃z,xs=[.str z]/\z.length<=sizeLine/\Q (.int z.length) H):=by
 intro pins s Z H xs us Q I r h;obtain⟨z,rfl,hz,q⟩:=h;obtain⟨u,rfl,t,rfl⟩:=vals1 r;have hn:=T6;exact len_str (by omega) ⟨.int z.length,H,I.tok _,⟨_,rfl⟩,q⟩
theorem aE8:l6 X (.type "list") (λxs H Q=>∃p ys,xs=[.ref p]/\(fG X.K H p ys\/ip X.K H p ys)/\∀l,H l=none->Q (.ref l) (upd H l (.lst ys))):=by
 intro pins s Z H xs us Q I r h;obtain⟨p,ys,rfl,hq,q⟩:=h;obtain⟨u,rfl,rx⟩:=vals1 r;cases rx;have fin:∀(aW:List Value),Vals ys aW->ys.length<=sizeLine->∀(h':Heap) (c':Nat),(∀b o',s.heap.get? b=some o'->h'.get? b=some o') ->
   h'.get? s.heap.objs.size=some { cls:=.type "list",dict:=none,data:=.seq aW.toArray c',slots:=#[] }->EP X pins Z Q (.ref s.heap.objs.size) { s with heap:=h' }:=λaW r' hz h' c' kp e =>
  ⟨.ref s.heap.objs.size,_,I.laid (t':=s.toks) kp (av _) (show m8 X.prog X.w _ h' _ (.lst ys) from⟨hz,aW,c',r',e⟩),rfl,q _ (I.bZ.fresh (av _))⟩
 rcases hq with hq|hq
 ·obtain⟨aW,r',pl,hz⟩:=I.list hq;have hlen:=r'.length;obtain⟨o,ho,hc,n,hd⟩:=pl.isList;exact call_list_seq p (.inl rfl) ho hc hd (λh' c' kp e=>fin aW r' hz h' c' kp e) (by simp only[List.size_toArray]<;>omega)
 ·obtain⟨aW,r',pl,hz⟩:=I.tuple hq;have hlen:=r'.length;obtain⟨o,ho,hc,n,hd⟩:=pl;exact call_list_seq p (.inr rfl) ho hc hd (λh' c' kp e=>fin aW r' hz h' c' kp e) (by simp only[List.size_toArray]<;>omega)
theorem YS:l6 X (.type "tuple") (λxs H Q=>∃p ys,xs=[.ref p]/\((fG X.K H p ys/\∀l,H l=none->Q (.ref l) (upd H l (.tup ys)))\/(ip X.K H p ys/\Q (.ref p) H))):=by
 intro pins s Z H xs us Q I r h;obtain⟨p,ys,rfl,h⟩:=h;obtain⟨u,rfl,rx⟩:=vals1 r;cases rx;rcases h with⟨hq,q⟩|⟨hq,q⟩
 ·obtain⟨aW,r',pl,hz⟩:=I.list hq;have hlen:=r'.length;refine call_tuple_list pl.isList (λh' kp=>?_) (by simp only[List.size_toArray]<;>omega);have I1:Inv X pins Z H { s with heap:=h' }:=I.kept (t':=s.toks) kp;have I2:Inv X pins Z (upd H h'.objs.size (.tup ys)) { s with heap:=h'.push { cls:=.type "tuple",data:=.seq aW.toArray } } :=
   I1.laid (t':=s.toks) (λb o e=>ao _ e) (av _) (show m8 X.prog X.w _ _ _ (.tup ys) from⟨hz,aW,r',J9.new _ _⟩)
  exact⟨.ref h'.objs.size,_,I2,rfl,q _ (I1.bZ.fresh (av _))⟩
 ·obtain⟨aW,r',pl,hz⟩:=I.tuple hq;exact call_tuple_same pl ⟨.ref p,H,I,rfl,q⟩
def nT(K:PySem.W.Frag)(T:String)(x:V)(H:Hp):Prop:=match x with
 |.str _=>T="str"
 |.int _=>T="int"
 |.ref p=>(T="list"/\∃xs,fG K H p xs)\/(T="tuple"/\∃o,K.lookup p=some o/\o.cls=.type "tuple"/\o.dict=none) \/
   (T="dict"/\((∃kvs,H p=some (.dK kvs))\/∃kvs,H p=some (.dT kvs)))\/(T="set"/\∃S n,H p=some (.set S n))
 |_=>False
theorem Kw{pins:List (Addr×Obj)}{Z:St}{H:Hp}{s:Shared}{T:String}{x:V}{v:Value}(I:Inv X pins Z H s)(r:RelV x v)(ty:nT X.K T x H) :
  s.TypeIs v T/\∀a,v=.ref a->∃ob,s.heap.get? a=some ob/\ob.dict=none:=by
 cases x with
 |str z =>
  obtain⟨t,rfl⟩:=r;cases (show T="str" from ty);exact⟨typeIs_str s z t,λ_ e=>nomatch e⟩
 |int i =>
  obtain⟨t,rfl⟩:=r;cases (show T="int" from ty);exact⟨mH s i t,λ_ e=>nomatch e⟩
 |ref p =>
  cases r;rcases ty with⟨rfl,xs,hq⟩|⟨rfl,o,hk,hc,hd⟩|⟨rfl,hk⟩|⟨rfl,S,n,hk⟩
  ·obtain⟨aW,_,pl,_⟩:=I.list hq;refine⟨pl.isList.typeIs,λa e=>?_⟩;cases e;obtain⟨o,n,e,c,hd,_⟩:=pl;exact⟨o,e,hd⟩
  ·refine⟨⟨o,I.gT p o hk,hc⟩,λa e=>?_⟩;cases e;exact⟨o,I.gT _ o hk,hd⟩
  ·have z:∃o,s.heap.get? p=some o/\o.ExactDict:=by
    rcases hk with⟨kvs,hk⟩|⟨kvs,hk⟩
    ·obtain⟨_,_,_,_,o,_,_,e,ex,_⟩:=I.bZ p _ hk;exact⟨o,e,ex⟩
    ·obtain⟨_,_,_,_,o,_,_,e,ex,_⟩:=I.bZ p _ hk;exact⟨o,e,ex⟩
   obtain⟨o,e,ex⟩:=z;refine⟨⟨o,e,ex.1⟩,λa e2=>?_⟩;cases e2;exact⟨o,e,ex.2.1⟩
  ·obtain⟨o,_,_,_,e,ex,_⟩:=I.bZ p _ hk;refine⟨⟨o,e,ex.1⟩,λa e2=>?_⟩;cases e2;exact⟨o,e,ex.2.1⟩
 |_=>exact False.elim ty
def Wo(K:PySem.W.Frag)(T:String)(r:V->List V->Hp->VK->Prop)(to:TE):TE:=λZ H Q=>to Z H λx H1=>nT K T x H1/\r x [] H1 Q
def MO(K:PySem.W.Frag)(T:String)(r:V->List V->Hp->VK->Prop)(to:TE)(t:TA):TE:=λZ H Q=>to Z H λx H1=>nT K T x H1/\t Z H1 λxs H2=>r x xs H2 Q
variable{o e:Expr}{es:List Expr}{to:TE}{t:TA}{name:Str}{apos eA:Pos}{T id:String}{r:V->List V->Hp->VK->Prop}
theorem Ri(pa:PlainAttrs T)(slot:Slot T name id)(jy:typeOf (.builtin id)=pure (.type "method_descriptor"))(hm:lU X id r)(ho:PE X o to)(gg:attributeBase o name X.env (eval o X.env)=eval o X.env:=by rfl)(gf:(apos.endLine==eA.line)=true:=by rfl):PE X (.Call (.Attribute o name apos) [] [] eA) (Wo X.K T r to):=by
 intro pins s Z H Q I h;refine wpAny_Call_method0_late gg gf (cP (ho pins s Z H _ I h) λv s1 bt=>?_);obtain⟨x,H1,I1,r1,ty,q1⟩:=bt;obtain⟨h1,h2⟩:=Kw I1 r1 ty;exact⟨T,id,pa,slot,jy,h1,h2,fO rfl (PySem.evalArgs_none (hm pins s1 Z H1 x [] v [] Q I1 r1 .nil q1))⟩
theorem XJ(pa:PlainAttrs T)(slot:Slot T name id)(jy:typeOf (.builtin id)=pure (.type "method_descriptor"))(hm:lU X id r)(ho:PE X o to)(ha:PA X (e::es) t)(gg:attributeBase o name X.env (eval o X.env)=eval o X.env:=by rfl)(kP:((backTo eA (starEach (e :: es) X.env)).all (λx=>!x.1) && (backToKw eA (keywordEach [] X.env)).all (λx=>x.1.isSome)
   && decide ((e :: es).length + ([]:List Keyword).length + (if ([]:List Keyword).isEmpty then 0 else 1) < 30))=true:=by rfl)(gf:(apos.endLine==eA.line)=true:=by rfl)(hs:starEach (e::es) X.env=(false,eval e X.env)::starEach es X.env:=by rfl)(eY:(backTo eA (starEach es X.env)).any (·.1)=false:=by rfl) :
  PE X (.Call (.Attribute o name apos) (e::es) [] eA) (MO X.K T r to t):=by
 intro pins s Z H Q I h;refine wpAny_Call_method_late gg kP gf rfl (cP (ho pins s Z H _ I h) λv s1 bt=>?_);obtain⟨x,H1,I1,r1,ty,q1⟩:=bt;obtain⟨h1,h2⟩:=Kw I1 r1 ty;refine⟨T,id,pa,slot,jy,h1,h2,?_⟩;have hA:=ha eA pins s1 Z H1 _ I1 q1;rw[hs] at hA ⊢;refine fO (by show(false||(backTo eA (starEach es X.env)).any (·.1))=false;rw[eY]<;>rfl) (gE ?_);exact cP hA λus s2 ⟨vs,H2,I2,r2,q2⟩=>hm pins s2 Z H2 x vs v us Q I2 r1 r2 q2
end
def Md(X:Cx)(id:String)(r:V->List V->Hp->VK->Prop):Prop :=
 ∀(pins:List (Addr×Obj)) (s:Shared) (Z:St) (H:Hp) (x:V) (xs:List V) (v:Value) (us:List Value) (Q:VK),Inv X pins Z H s->RelV x v->Vals xs us->r x xs H Q ->
  wpAny (model X.prog X.w) X.A (call (.builtin id) (v::us)) (EP X pins Z Q) X.xe s
theorem Vals.one{x:V}{us:List Value}(h:Vals [x] us):∃u,us=[u]/\RelV x u:=by
 cases h with
 |cons r h =>
  cases h;exact⟨_,rfl,r⟩
theorem Vals.zero:∀{us:List Value},Vals [] us->us=[]
 |_,.nil=>rfl
theorem Vals.eraseIdx:∀{xs:List V} {us:List Value} (i:Nat),Vals xs us->Vals (xs.eraseIdx i) (us.eraseIdx i)
 |_,_,_,.nil=>.nil
 |_,_,0,.cons _ t=>t
 |_,_,i+1,.cons r t=>.cons r (Vals.eraseIdx i t)
theorem Vals.reverse{xs:List V}{us:List Value}(h:Vals xs us):Vals xs.reverse us.reverse:=by
 induction h with
 |nil=>exact .nil
 |cons r t ih=>rw[gS,gS];exact Vals.append ih (.cons r .nil)
theorem Vals.rep{xs:List V}{us:List Value}(h:Vals xs us):∀k:Nat,Vals (List.replicate k xs).flatten (List.replicate k us).flatten
 |0=>.nil
 |k+1=>by
  rw[cu,cu,dy,dy];exact Vals.append h (Vals.rep h k)
theorem Jf{α:Type}:∀(l:List α) (i:Nat),(l.eraseIdx i).length<=l.length
 |[],_=>av _
 |_::_,0=>gR _
 |_::r,i+1=>Nat.succ_le_succ (Jf r i)
theorem foldl_rep(aW:List Value):∀(k:Nat) (acc:List Value),
  List.foldl (λx1 x2=>x1++x2) acc.toArray (List.replicate k aW.toArray)=(acc++(List.replicate k aW).flatten).toArray
 |0,acc=>by simp
 |k+1,acc=>by
  have e:acc.toArray++aW.toArray=(acc++aW).toArray:=by simp
  have e2:(acc++aW)++(List.replicate k aW).flatten=acc++(List.replicate (k+1) aW).flatten:=by
   rw[cu,dy,cx]
  rw[<- e2,<- foldl_rep aW k (acc++aW),<- e,cu,mL]
section
variable{X:Cx}{pins:List (Addr×Obj)}{Z:St}{H:Hp}{s:Shared}{l b:Addr}{xs ys zs:List V}
theorem Inv.tQ{aW its':List Value}{n:Nat}{f:Array Value->Array Value}{t':Nat}(I:Inv X pins Z H s)(hH:H l=some (.lst xs))(e:s.heap.get? l=some { cls:=.type "list",data:=.seq aW.toArray n })(hf:f aW.toArray=its'.toArray)(hv:Vals ys its')(hz:ys.length<=sizeLine) :
  Inv X pins Z (upd H l (.lst ys)) { s with heap:=s.heap.update l (Obj.mapSeq f),toks:=t' }:=by
 have q:=PySem.IsL.update e f;rw[hf] at q;refine I.write (x:=l) (e:=l) (by rw[hH];exact trivial) (.inl rfl) (λb' u hb hu=>(cO s.heap (Obj.mapSeq f) (bT hb)).trans hu) ⟨_,q⟩ ?_;exact⟨hz,its',_,hv,q⟩
theorem Inv.HC{aW:List Value}{t':Nat}(I:Inv X pins Z H s)(hv:Vals ys aW)(hz:ys.length<=sizeLine) :
  Inv X pins Z (upd H s.heap.objs.size (.lst ys)) { s with heap:=s.heap.push { cls:=.type "list",data:=.seq aW.toArray },toks:=t' } :=
 I.laid (λ_ _ q=>ao _ q) (av _) ⟨hz,aW,0,hv,az _ rfl⟩
theorem Inv.fresh(I:Inv X pins Z H s):H s.heap.objs.size=none:=I.bZ.fresh (av _)
theorem Inv.wL(I:Inv X pins Z H s)(hH:H l=some (.lst xs)):xs.length<=sizeLine/\∃(aW:List Value) (n:Nat),Vals xs aW/\xs.length=aW.length/\s.heap.get? l=some { cls:=.type "list",data:=.seq aW.toArray n }:=by
 obtain⟨z,aW,n,r,e⟩:=I.bZ l _ hH;exact⟨z,aW,n,r,r.length,e⟩
theorem a79{n:Nat}(h:n<=sizeLine):Builtin.List.listTooLong n=false:=by
 unfold Builtin.List.listTooLong;exact aL (by omega)
end
section
variable{X:Cx}
def Uu:V->List V->Hp->VK->Prop:=λx vs H Q=>∃l xs y,x=.ref l/\vs=[y]/\H l=some (.lst xs)/\xs.length<sizeLine/\Q .bQ (upd H l (.lst (xs++[y])))
theorem ZF:Md X "list.append" Uu:=by
 intro pins s Z H x vs v us Q I rx rv h;obtain⟨l,xs,y,rfl,rfl,hH,hz,q⟩:=h;cases rx;obtain⟨u,rfl,ru⟩:=rv.one;obtain⟨z,aW,n,r,hl,e⟩:=I.wL hH;refine dW F.slot_list_append ⟨_,e,rfl⟩ F.entry_list_append (F.args_list_append_2 _ _) (PySem.list_append l aW.toArray n u (by rw[aG];omega)) ⟨e,?_⟩;refine⟨.bQ,_,I.tQ (its':=aW++[u]) hH e (by simp) (r.append (.cons ru .nil)) ?_,rfl,q⟩;rw[aY,iX];omega
def RI:V->List V->Hp->VK->Prop:=λx vs H Q=>∃l xs i k y,x=.ref l/\vs=[.int i]/\H l=some (.lst xs)/\-(2 ^ 63)<=i/\i<2 ^ 63/\seqIndex? i xs.length=some k/\xs[k]?=some y/\Q y (upd H l (.lst (xs.eraseIdx k)))
theorem a83:Md X "list.pop" RI:=by
 intro pins s Z H x vs v us Q I rx rv h;obtain⟨l,xs,i,k,y,rfl,rfl,hH,h1,h2,hk,hy,q⟩:=h;cases rx;obtain⟨u,rfl,ru⟩:=rv.one;obtain⟨t,rfl⟩:=ru;obtain⟨z,aW,n,r,hl,e⟩:=I.wL hH;obtain⟨w,hw,fJ⟩:=r.get hy;refine dW F.slot_list_pop ⟨_,e,rfl⟩ F.entry_list_pop (F.args_list_pop_2 _ _)
  (MeetsSeq.list_pop_at l aW.toArray n i t k w (fitsIndex_both h1 h2) (by rw[aG,<- hl];exact hk) (by rw[<- iY];exact hw) (by rw[aG];omega)) ⟨e,?_⟩
 refine⟨y,_,I.tQ (its':=aW.eraseIdx k) hH e ?_ (r.eraseIdx k) ?_,fJ,q⟩
 ·show aW.toArray.eraseIdxIfInBounds k=(aW.eraseIdx k).toArray;rw[List.eraseIdxIfInBounds_toArray]
 ·have:=Jf xs k;omega
def VX:R2:=λx y H Q=>∃l b xs zs,x=.ref l/\y=.ref b/\H l=some (.lst xs)/\H b=some (.lst zs)/\xs.length+zs.length<=sizeLine/\∀p,H p=none->Q (.ref p) (upd H p (.lst (xs++zs)))
theorem QU:fK X (binaryOp .Add) VX:=by
 intro pins s Z H x y v u Q I rx ry h;obtain⟨l,b,xs,zs,rfl,rfl,hH,hB,hz,q⟩:=h;cases rx;cases ry;obtain⟨z,aW,n,r,hl,e⟩:=I.wL hH;obtain⟨z2,nj,n2,r2,xK,e2⟩:=I.wL hB;refine PySem.P.add_list e e2 ?_ (by rw[aG,aG];omega);have ea:aW.toArray++nj.toArray=(aW++nj).toArray:=by simp
 rw[ea];exact⟨.ref _,_,I.HC (t':=s.toks) (r.append r2) (by rw[aY];omega),rfl,q _ I.fresh⟩
def Wa:R2:=λx y H Q=>∃l k xs,x=.ref l/\y=.int k/\H l=some (.lst xs)/\-(2 ^ 63)<=k/\k<2 ^ 63/\xs.length*k.toNat<=sizeLine /\
 ∀p,H p=none->Q (.ref p) (upd H p (.lst (List.replicate k.toNat xs).flatten))
theorem len_rep{α:Type}(xs:List α)(k:Nat):(List.replicate k xs).flatten.length=k*xs.length:=by
 induction k with
 |zero=>simp
 |succ k ih=>rw[cu,dy,aY,ih,Nat.succ_mul,Nat.add_comm]
theorem QZ:fK X (binaryOp .Mult) Wa:=by
 intro pins s Z H x y v u Q I rx ry h;obtain⟨l,k,xs,rfl,rfl,hH,h1,h2,hz,q⟩:=h;cases rx;obtain⟨t,rfl⟩:=ry;obtain⟨z,aW,n,r,hl,e⟩:=I.wL hH;have hlen:aW.toArray.size*k.toNat<=sizeLine:=by rw[aG,<- hl];exact hz
 have AI:¬aW.toArray.size*k.toNat>(2 ^ 63-1) / 8:=by
  have:(sizeLine:Nat)<=(2 ^ 63-1) / 8:=by decide
  omega
 have AE:¬(!Builtin.List.listFitsIndex k)=true:=by
  rw[fitsIndex_both h1 h2];exact bG
 have vk:¬Builtin.List.listTooLong (aW.toArray.size*k.toNat)=true:=by
  rw[a79 hlen];exact bG
 have Av:List.foldl (λx1 x2=>x1++x2) #[] (List.replicate (if aW.toArray.isEmpty=true then 0 else k.toNat) aW.toArray)=(List.replicate k.toNat aW).flatten.toArray:=by
  have f0:∀m:Nat,List.foldl (λx1 x2=>x1++x2) #[] (List.replicate m aW.toArray)=(List.replicate m aW).flatten.toArray:=λm=>by
   have:=foldl_rep aW m [];rw[List.nil_append] at this;exact this
  rw[f0];cases aW with
  |nil=>simp
  |cons a r'=>rw[if_neg (by simp)]
 refine EK (T:="list") (U:="int") (by decide) ⟨_,e,rfl⟩ (λs'=>mH s' k t) noFill_list_mul F.fills_int_mul jR repeat_list F.slot_int_index.lookup
  (dW jR (mH s k t) F.entry_int_rmul (F.args_int_rmul_2 _ _) (int___rmul___int_list k t l aW.toArray n)
   ⟨e,rfl,⟨_,e,rfl⟩,dW F.slot_list_mul ⟨_,e,rfl⟩ F.entry_list_mul (F.args_list_mul_2 _ _) (AutoListH.list___mul___list_int_3 l aW.toArray n k t AE AI vk) ⟨e,?_⟩⟩)
 rw[Av];exact⟨.ref _,_,I.HC (t':=s.toks) (r.rep k.toNat) (by rw[len_rep,ug];exact hz),rfl,q _ I.fresh⟩
end
section
variable{prog:Program}{w:World}{A:Around}{E:Value->Shared->Prop}{s:Shared}
end
section
variable{X:Cx}
end
end L2

namespace L2
open PySem PySem.Spec PyProof.Rows
section
variable{κ:Type}[DecidableEq κ]
def K6(kvs:List (κ×V))(k:κ):Option V:=(kvs.find? λkv=>decide (kv.1=k)).map (·.2)
def putK(kvs:List (κ×V))(k:κ)(v:V):List (κ×V) :=
 if(kvs.any λkv=>decide (kv.1=k))=true then kvs.map (λkv=>if kv.1=k then(kv.1,v) else kv) else kvs++[(k,v)]
theorem CV{p:κ×V}{r:List (κ×V)}{k:κ}(e:p.1=k):K6 (p::r) k=some p.2:=by simp[K6,List.find?_cons,e]
theorem CU{p:κ×V}{r:List (κ×V)}{k:κ}(e:¬p.1=k):K6 (p::r) k=K6 r k:=by simp[K6,List.find?_cons,e]
theorem IJ(k:κ):∀kvs:List (κ×V),(kvs.any λkv=>decide (kv.1=k))=(K6 kvs k).isSome
 |[]=>rfl
 |p::r=>by
  rw[fI];by_cases e:p.1=k
  ·simp only[CV e,decide_eq_true e,Bool.true_or,Option.isSome_some]
  ·rw[CU e,aL e,qu];exact IJ k r
theorem W8(kvs:List (κ×V))(k:κ)(v:V):(putK kvs k v).length<=kvs.length+1:=by
 unfold putK;split
 ·rw[ag];omega
 ·rw[aY,da,List.length_nil];omega
theorem F8.P2{o:Option V}{u:Option Value}(r:F8 o u):o.isSome=u.isSome:=by
 cases o with
 |none=>cases u with
  |none=>rfl
  |some _=>exact(show False from r).elim
 |some _=>cases u with
  |none=>exact(show False from r).elim
  |some _=>rfl
theorem F8.getD{o:Option V}{u:Option Value}{d:V}{d':Value}(r:F8 o u)(rd:RelV d d'):RelV (o.getD d) (u.getD d'):=by
 cases o with
 |none=>cases u with
  |none=>exact rd
  |some _=>exact(show False from r).elim
 |some _=>cases u with
  |none=>exact(show False from r).elim
  |some _=>exact r
theorem KV.val{kvs:List (κ×V)}{vs:List (κ×Value)}(r:KV kvs vs)(k:κ):F8 (K6 kvs k) (valueAt vs k):=by
 unfold KV at r
 induction r with
 |nil=>exact True.intro
 |@cons p q ps qs h t ih =>
  obtain⟨h1,h2⟩:=h;by_cases e:p.1=k
  ·have e':q.1=k:=h1.symm.trans e;have b:valueAt (q::qs) k=some q.2:=by simp[valueAt,List.find?_cons,e']
   rw[CV e,b];exact h2
  ·have e':¬q.1=k:=λz=>e (h1.trans z);have b:valueAt (q::qs) k=valueAt qs k:=by simp[valueAt,List.find?_cons,e']
   rw[CU e,b];exact ih
theorem KV.any{kvs:List (κ×V)}{vs:List (κ×Value)}(r:KV kvs vs)(k:κ):(kvs.any λkv=>decide (kv.1=k))=vs.any λkv=>decide (kv.1=k):=by
 unfold KV at r
 induction r with
 |nil=>rfl
 |cons h t ih=>rw[fI,fI,ih,h.1]
theorem KV.Et{kvs:List (κ×V)}{vs:List (κ×Value)}(r:KV kvs vs)(k:κ){y:V}{u:Value}(ry:RelV y u) :
  KV (kvs.map λkv=>if kv.1=k then(kv.1,y) else kv) (vs.map λkv=>if kv.1=k then(kv.1,u) else kv):=by
 unfold KV at r ⊢
 induction r with
 |nil=>exact .nil
 |@cons p q ps qs h t ih =>
  rw[bg,bg];refine .cons ?_ ih;obtain⟨h1,h2⟩:=h;by_cases e:p.1=k
  ·rw[aK e,aK (h1.symm.trans e)];exact⟨h1,ry⟩
  ·rw[aD e,aD (λz=>e (h1.trans z))];exact⟨h1,h2⟩
theorem KV.put{kvs:List (κ×V)}{vs:List (κ×Value)}(r:KV kvs vs)(k:κ){y:V}{u:Value}(ry:RelV y u):KV (putK kvs k y) (stored vs k u):=by
 unfold putK stored;rw[r.any k];by_cases e:(vs.any λkv=>decide (kv.1=k))=true
 ·rw[aK e,aK e];exact r.Et k ry
 ·rw[aD e,aD e];exact Paired.snoc r ⟨rfl,ry⟩
theorem KV.keys{kvs:List (κ×V)}{vs:List (κ×Value)}(r:KV kvs vs):kvs.map (·.1)=vs.map (·.1):=by
 unfold KV at r
 induction r with
 |nil=>rfl
 |cons h t ih=>rw[bg,bg,ih,h.1]
theorem KV.length{kvs:List (κ×V)}{vs:List (κ×Value)}(r:KV kvs vs):kvs.length=vs.length:=lX r
end
theorem sA{P:Program}{w:World}{k:Key}{u:Value}(r:RelV (kV k) u):(n9 P w).is k u=true:=by
 cases k with
 |inl i=>obtain⟨t,e⟩:=(show ∃t,u=Value.int i t from r);subst e;exact aH0 P w i t
 |inr x=>obtain⟨t,e⟩:=(show ∃t,u=Value.str x t from r);subst e;exact aG9 P w x t
theorem Je{P:Program}{w:World}:∀{ks:List Key} {us:List Value},Vals (ks.map kV) us->ItemsAre (n9 P w) ks us
 |[],_,r=>by rw[uh] at r;cases r;exact .nil
 |k::ks,_,r=>by
  rw[bg] at r;cases r with
  |cons h t=>exact .cons (sA h) (Je t)
noncomputable abbrev KT(H:Hp):List (List Key×V)->List (List Key×Addr×Value)->Prop:=Paired λp q=>p.1=q.1/\H q.2.1=some (.tup (p.1.map kV))/\RelV p.2 q.2.2
theorem KT.val{H:Hp}{kvs:List (List Key×V)}{xs:List (List Key×Addr×Value)}(r:KT H kvs xs)(k:List Key):F8 (K6 kvs k) ((atKey xs k).map (·.2)):=by
 induction r with
 |nil=>exact True.intro
 |@cons p q ps qs h t ih =>
  obtain⟨h1,_,h2⟩:=h;by_cases e:p.1=k
  ·have e':q.1=k:=h1.symm.trans e;have b:atKey (q::qs) k=some q.2:=by simp[atKey,List.find?_cons,e']
   rw[CV e,b];exact h2
  ·have e':¬q.1=k:=λz=>e (h1.trans z);have b:atKey (q::qs) k=atKey qs k:=by simp[atKey,List.find?_cons,e']
   rw[CU e,b];exact ih
theorem KT.Et{H:Hp}{kvs:List (List Key×V)}{xs:List (List Key×Addr×Value)}(r:KT H kvs xs)(k:List Key){y:V}{u:Value}(ry:RelV y u) :
  KT H (kvs.map λkv=>if kv.1=k then(kv.1,y) else kv) (xs.map (putAt k u)):=by
 induction r with
 |nil=>exact .nil
 |@cons p q ps qs h t ih =>
  rw[bg,bg];refine .cons ?_ ih;obtain⟨h1,h2,h3⟩:=h;unfold putAt;by_cases e:p.1=k
  ·rw[aK e,aK (h1.symm.trans e)];exact⟨h1,h2,ry⟩
  ·rw[aD e,aD (λz=>e (h1.trans z))];exact⟨h1,h2,h3⟩
theorem KT.put{H:Hp}{kvs:List (List Key×V)}{xs:List (List Key×Addr×Value)}(r:KT H kvs xs)(k:List Key){b:Addr}{y:V}{u:Value}(hb:H b=some (.tup (k.map kV)))(ry:RelV y u) :
  KT H (putK kvs k y) (storedH xs k b u):=by
 have e:(kvs.any λkv=>decide (kv.1=k))=(atKey xs k).isSome:=by
  rw[IJ,(r.val k).P2,gQ]
 unfold putK storedH;rw[e];by_cases q:(atKey xs k).isSome=true
 ·rw[aK q,aK q];exact r.Et k ry
 ·rw[aD q,aD q];exact Paired.snoc r ⟨rfl,hb,ry⟩
theorem KT.keeps{H H':Hp}{kvs:List (List Key×V)}{xs:List (List Key×Addr×Value)}(r:KT H kvs xs)(ht:∀b ys,H b=some (.tup ys)->H' b=some (.tup ys)):KT H' kvs xs :=
 Paired.HD r λ_ _ z=>⟨z.1,ht _ _ z.2.1,z.2.2⟩
section
variable{P:Program}{w:World}{H:Hp}{h:Heap}{a:Addr}
theorem Il{u:HO}(ok:gH P w H h)(e:Rd H a u):m8 P w H h a u:=e.ok ok
theorem sy{kvs:List (Key×V)}(ok:gH P w H h)(e:Rd H a (.dK kvs)):kvs.length<=sizeLine/\(a==sysModules)=false/\∃vs,KV kvs vs/\h.DictOf (n9 P w) a vs :=
 show m8 P w H h a (.dK kvs) from Il ok e
theorem DE{kvs:List (Key×V)}(ok:gH P w H h)(e:H a=some (.dK kvs)):kvs.length<=sizeLine/\(a==sysModules)=false/\∃vs,KV kvs vs/\h.DictOf (n9 P w) a vs:=sy ok (.inl e)
theorem Y3{ks:List Key}(ok:gH P w H h)(e:H a=some (.tup (ks.map kV))):(tupleKind (n9 P w)).is h ks a:=by
 obtain⟨_,aW,r,o,h1,h2,⟨n,h3⟩,_⟩:=(show m8 P w H h a (.tup (ks.map kV)) from ok a _ e)
 exact⟨o,aW.toArray,n,h1,h2,h3,by simpa using Je r⟩
theorem tV{kvs:List (List Key×V)}(ok:gH P w H h)(e:Rd H a (.dT kvs)):kvs.length<=sizeLine/\(a==sysModules)=false /\
  ∃xs,KT H kvs xs/\h.DictOfH (tupleKind (n9 P w)) a xs:=by
 obtain⟨z,y,xs,r,o,es,ep,h1,h2,h3,h4,h5⟩:=(show m8 P w H h a (.dT kvs) from Il ok e)
 refine⟨z,y,xs,r,o,es,ep,h1,h2,h3,h4,λx hx=>?_,h5⟩;have all:∀{l:List (List Key×V)} {m:List (List Key×Addr×Value)},KT H l m->∀x∈m,(tupleKind (n9 P w)).is h x.1 x.2.1:=by
  intro l m q
  induction q with
  |nil=>intro x hx;exact nomatch hx
  |@cons p q ps qs hq t ih =>
   intro x hx;rcases aI.mp hx with e|hx
   ·subst e;exact Y3 ok (by rw[<- hq.1];exact hq.2.1)
   ·exact ih x hx
 exact all r x hx
theorem WY{kvs:List (List Key×V)}(ok:gH P w H h)(e:H a=some (.dT kvs)):kvs.length<=sizeLine/\(a==sysModules)=false /\
  ∃xs,KT H kvs xs/\h.DictOfH (tupleKind (n9 P w)) a xs:=tV ok (.inl e)
end
def P7(H:Hp)(a:Addr)(y:V)(r:Option V):Prop :=
 (∃kvs k,Rd H a (.dK kvs)/\y=kV k/\r=K6 kvs k)\/∃kvs k b,Rd H a (.dT kvs)/\y=.ref b/\H b=some (.tup (k.map kV))/\r=K6 kvs k
def yW(H:Hp)(a:Addr)(y v:V)(H':Hp):Prop :=
 (∃kvs k,H a=some (.dK kvs)/\y=kV k/\kvs.length<sizeLine/\H'=upd H a (.dK (putK kvs k v))) \/
 ∃kvs k b,H a=some (.dT kvs)/\y=.ref b/\H b=some (.tup (k.map kV))/\kvs.length<sizeLine/\H'=upd H a (.dT (putK kvs k v))
theorem P7.k{H:Hp}{a:Addr}{kvs:List (Key×V)}{k:Key}(e:H a=some (.dK kvs)):P7 H a (kV k) (K6 kvs k):=.inl ⟨kvs,k,.inl e,rfl,rfl⟩
theorem yW.k{H:Hp}{a:Addr}{kvs:List (Key×V)}{k:Key}{v:V}(e:H a=some (.dK kvs))(hl:kvs.length<sizeLine):yW H a (kV k) v (upd H a (.dK (putK kvs k v))):=.inl ⟨kvs,k,e,rfl,hl,rfl⟩
section
variable{X:Cx}{pins:List (Addr×Obj)}{Z:St}{H:Hp}{s:Shared}{a:Addr}{y v:V}{u r:Value}{o:Option V}{A:Around}{E:Value->Shared->Prop}
theorem Inv.big(I:Inv X pins Z H s):sysModules<s.heap.objs.size:=by
 have h:mainGlobals<s.heap.objs.size:=(I.mod.glob.keeps I.bk).lt;exact cM (by decide) h
theorem a01{Q:Value->Shared->Prop}(hu:A.units+1<cLine)(I:Inv X pins Z H s)(g:P7 H a y (some v))(ry:RelV y u)(h:∀w' s',Inv X pins Z H s'->RelV v w'->Q w' s') :
  wpAny (model X.prog X.w) A (getItem (.ref a) u) Q E s:=by
 rcases g with⟨kvs,k,e,ey,l⟩|⟨kvs,k,b,e,ey,eb,l⟩
 ·subst ey;obtain⟨z,hd,vs,rel,dd⟩:=sy I.bZ e;obtain⟨w',hw,fJ⟩:=F8.some_of (v:=v) (o:=valueAt vs k) (by rw[l];exact rel.val k);exact wpAny_getItem_of (sA ry) dd.mapOf hw (h w' _ (I.tok _) fJ)
 ·subst ey;cases (show u=Value.ref b from ry);obtain⟨z,hd,xs,rel,dd⟩:=tV I.bZ e;obtain⟨w',hw,fJ⟩:=F8.some_of (v:=v) (o:=(atKey xs k).map (·.2)) (by rw[l];exact rel.val k);obtain⟨p,hp,vi⟩:=aa.mp hw;refine wpAny_getItem_heap (fo hu) (Y3 I.bZ eb) dd hp ?_;rw[vi];exact h w' _ (I.tok _) fJ
theorem Vw{Q:Value->Shared->Prop}(hu:A.units+1<cLine)(I:Inv X pins Z H s)(g:P7 H a y o)(ry:RelV y u)(h:∀s',Inv X pins Z H s'->Q (.bool o.isSome) s') :
  wpAny (model X.prog X.w) A (compareOp .In u (.ref a)) Q E s:=by
 rcases g with⟨kvs,k,e,ey,l⟩|⟨kvs,k,b,e,ey,eb,l⟩
 ·subst ey;obtain⟨z,hd,vs,rel,dd⟩:=sy I.bZ e;refine wpAny_in_of (sA ry) hd dd.mapOf ?_;rw[<- (rel.val k).P2,<- l];exact h _ (I.tok _)
 ·subst ey;cases (show u=Value.ref b from ry);obtain⟨z,hd,xs,rel,dd⟩:=tV I.bZ e;refine wpAny_in_heap (fo hu) (Y3 I.bZ eb) hd dd ?_;have q:=(rel.val k).P2;rw[gQ] at q;rw[<- q,<- l];exact h _ (I.tok _)
theorem Tb{Q:Value->Shared->Prop}(hu:A.units+1<cLine)(I:Inv X pins Z H s)(g:P7 H a y o)(ry:RelV y u)(h:∀s',Inv X pins Z H s'->Q (.bool (!o.isSome)) s') :
  wpAny (model X.prog X.w) A (compareOp .NotIn u (.ref a)) Q E s:=by
 rcases g with⟨kvs,k,e,ey,l⟩|⟨kvs,k,b,e,ey,eb,l⟩
 ·subst ey;obtain⟨z,hd,vs,rel,dd⟩:=sy I.bZ e;refine wpAny_notIn_of (sA ry) hd dd.mapOf ?_;rw[<- (rel.val k).P2,<- l];exact h _ (I.tok _)
 ·subst ey;cases (show u=Value.ref b from ry);obtain⟨z,hd,xs,rel,dd⟩:=tV I.bZ e;refine wpAny_notIn_heap (fo hu) (Y3 I.bZ eb) hd dd ?_;have q:=(rel.val k).P2;rw[gQ] at q;rw[<- q,<- l];exact h _ (I.tok _)
theorem Cn{h':Heap}{t':Nat}{ob:HO}(I:Inv X pins Z H s)(mu:wW (H a))(hs:Heap.SameBut a s.heap h')(he:∃q,h'.get? a=some q)(new:m8 X.prog X.w (upd H a ob) h' a ob) :
  Inv X pins Z (upd H a ob) { s with heap:=h',toks:=t' } :=
 I.write (x:=a) (e:=a) mu (.inl rfl) (λb q hb z=>(hs.2 b hb).trans z) he new
theorem Kg{P:Program}{w:World}{H':Hp}{h':Heap}{kvs:List (Key×V)}{vs:List (Key×Value)}(z:kvs.length<=sizeLine)(hd:(a==sysModules)=false)(rel:KV kvs vs)(dd:h'.DictOf (n9 P w) a vs) :
  m8 P w H' h' a (.dK kvs):=⟨z,hd,vs,rel,dd⟩
theorem a00{H':Hp}{Q:Unit->Shared->Prop}(hu:A.units+1<cLine)(I:Inv X pins Z H s)(g:yW H a y v H')(ry:RelV y u)(rv:RelV v r)(h:∀s',Inv X pins Z H' s'->Q () s') :
  wpAny (model X.prog X.w) A (setItem (.ref a) u r) Q E s:=by
 rcases g with⟨kvs,k,e,ey,l,eH⟩|⟨kvs,k,b,e,ey,eb,l,eH⟩
 ·subst ey eH;obtain⟨z,hd,vs,rel,dd⟩:=DE I.bZ e;have hz:vs.length<=sizeLine:=by rw[<- rel.length];exact z
  have hl:(putK kvs k v).length<=sizeLine:=by have:=W8 kvs k v;omega
  refine wpAny_setItem_pairs (hsz:=hz) (sA ry) dd λh' rV hs=>h _ ?_;have he:∃q,h'.get? a=some q:=let ⟨q,_,_,hq,_⟩:=rV;⟨q,hq⟩
  exact Cn I (by rw[e];exact True.intro) hs he (Kg hl hd (rel.put k rv) rV)
 ·subst ey eH;cases (show u=Value.ref b from ry);obtain⟨z,hd,xs,rel,dd⟩:=WY I.bZ e;have hz:xs.length<=sizeLine:=by rw[<- lX rel];exact z
  have hl:(putK kvs k v).length<=sizeLine:=by have:=W8 kvs k v;omega
  refine wpAny_setItem_heap (hsz:=hz) (fo hu) (Y3 I.bZ eb) dd λh' rV hs=>h _ ?_;obtain⟨q,es,ep,hq,h2,h3,h4,_,h5⟩:=rV;refine Cn I (by rw[e];exact True.intro) hs ⟨q,hq⟩ ⟨hl,hd,_,(rel.put k eb rv).keeps λc ys ec=>?_,q,es,ep,hq,h2,h3,h4,h5⟩;rw[f9 (Xz ec e (λz=>nomatch z))];exact ec
end
section
variable{X:Cx}{pins:List (Addr×Obj)}{Z:St}{H:Hp}{s:Shared}{a:Addr}{kvs:List (Key×V)}{k:Key}{u:Value}{A:Around}{E:Value->Shared->Prop}
theorem WW{Q:Value->Shared->Prop}(I:Inv X pins Z H s)(e:Rd H a (.dK kvs))(h:∀t s',Inv X pins Z H s'->Q (.int kvs.length t) s'):wpAny (model X.prog X.w) A (call (.builtin "len") [.ref a]) Q E s:=by
 obtain⟨z,hd,vs,rel,dd⟩:=sy I.bZ e;refine call_len_dict hd dd (by rw[<- rel.length];rw[kB] at z;omega) ?_;rw[<- rel.length];exact h _ _ (I.tok _)
end
theorem aH5{X:Cx}{pins:List (Addr×Obj)}{Z:St}{H:Hp}{s:Shared}{a:Addr}{y:V}{o:Option V}(I:Inv X pins Z H s)(g:P7 H a y o):s.TypeIs (.ref a) "dict":=by
 rcases g with⟨kvs,k,e,_,_⟩|⟨kvs,k,b,e,_,_,_⟩
 ·obtain⟨_,_,vs,_,dd⟩:=sy I.bZ e;exact dd.typeIs
 ·obtain⟨_,_,xs,_,dd⟩:=tV I.bZ e;exact dd.typeIs
section
variable{X:Cx}{o i e value:Expr}{pos pos' zJ:Pos}{td ty tv:TE}
end
theorem Lv{P:Program}{w:World}{H:Hp}(h:Heap)(hb:sysModules<h.objs.size):m8 P w H (h.push { cls:=.type "dict",data:=.dict #[] }) h.objs.size (.dK []) :=
 ⟨cJ _,dH.mpr (bT (aN hb)),[],.nil,Heap.DictOf.new h⟩
def Sx:TE:=λ_ H Q=>∀p,H p=none->Q (.ref p) (upd H p (.dK []))
section
variable{X:Cx}{pos:Pos}
theorem a76:PE X (.Dict [] [] pos) Sx:=λpins s Z H Q I h =>
 wpAny_Dict_empty ⟨.ref s.heap.objs.size,_,I.laid (a:=s.heap.objs.size) (o:=.dK []) (t':=s.toks) (λ_ _ q=>ao _ q) (av _) (Lv s.heap I.big),rfl,h _ (I.bZ.fresh (av _))⟩
end
def yz:List (TE×TE)->St->Hp->(List (V×V)->Hp->Prop)->Prop
 |[],_,H,Q=>Q [] H
 |(tk,tv)::r,Z,H,Q=>tk Z H λx H1=>tv Z H1 λy H2=>yz r Z H2 λps H3=>Q ((x,y)::ps) H3
noncomputable abbrev VV:List (V×V)->List (Value×Value)->Prop:=Paired λp q=>RelV p.1 q.1/\RelV p.2 q.2
def wU(X:Cx)(pos:Pos)(keys:List (Option Expr))(values:List Expr)(ir:List (TE×TE)):Prop :=
 ∀(pins:List (Addr×Obj)) (s:Shared) (Z:St) (H:Hp) (Q:List (V×V)->Hp->Prop),Inv X pins Z H s->yz ir Z H Q ->
  wpAny (model X.prog X.w) X.A (evalPairs (pairTrees keys values X.env pos)) (λvs s'=>∃ps H',Inv X pins Z H' s'/\VV ps vs/\Q ps H') X.xe s
theorem Uk{X:Cx}{pos:Pos}:wU X pos [] [] []:=λpins s Z H Q I h=>pairTrees_nil_walk ⟨[],H,I,.nil,h⟩
theorem a66{X:Cx}{pos:Pos}{k v:Expr}{ks:List (Option Expr)}{vs:List Expr}{tk tv:TE}{ir:List (TE×TE)}(hk:PE X k tk)(hv:PE X v tv)(hr:wU X pos ks vs ir) :
  wU X pos (some k::ks) (v::vs) ((tk,tv)::ir):=λpins s Z H Q I h =>
 pairTrees_cons_walk (cP (hk pins s Z H _ I h) λu s1 ⟨x,H1,I1,rx,q1⟩=>cP (hv pins s1 Z H1 _ I1 q1) λw2 s2 ⟨y,H2,I2,ry,q2⟩ =>
  cP (hr pins s2 Z H2 _ I2 q2) λws s3 ⟨ps,H3,I3,rel,q3⟩=>⟨(x,y) :: ps,H3,I3,.cons ⟨rx,ry⟩ rel,q3⟩)
def S7(kvs more:List (Key×V)):List (Key×V):=more.foldl (λacc kv=>putK acc kv.1 kv.2) kvs
theorem KV.merge:∀{more:List (Key×V)} {rs:List (Key×Value)} {kvs:List (Key×V)} {vs:List (Key×Value)},KV more rs->KV kvs vs->KV (S7 kvs more) (merged vs rs):=by
 intro more rs kvs vs r;unfold KV at r
 induction r generalizing kvs vs with
 |nil=>intro q;exact q
 |@cons p q ps qs h t ih =>
  intro r0;have e:KV (putK kvs p.1 p.2) (stored vs q.1 q.2):=by
   have:=r0.put p.1 h.2;rw[<- h.1];exact this
  exact ih e
theorem Kd:∀(more kvs:List (Key×V)),(S7 kvs more).length<=kvs.length+more.length
 |[],kvs=>by show kvs.length<=kvs.length+0;omega
 |p::r,kvs=>by
  have h1:=Kd r (putK kvs p.1 p.2);have h2:=W8 kvs p.1 p.2;show(S7 (putK kvs p.1 p.2) r).length<=_;rw[da];omega
theorem Jw{P:Program}{w:World}:∀{kvs:List (Key×V)} {ws:List (Value×Value)},VV (kvs.map λkv=>(kV kv.1,kv.2)) ws->∃rs,Carries (n9 P w) ws rs/\KV kvs rs
 |[],_,r=>by rw[uh] at r;cases r;exact⟨[],True.intro,.nil⟩
 |p::kvs,_,r=>by
  rw[bg] at r;cases r with
  |@cons a b as bs h t =>
   obtain⟨rs,c,q⟩:=Jw (P:=P) (w:=w) t;obtain⟨b1,b2⟩:=b;exact⟨(p.1,b2)::rs,⟨sA h.1,rfl,c⟩,.cons ⟨rfl,h.2⟩ q⟩
def Yl(ir:List (TE×TE)):TE:=λZ H Q=>∀p,H p=none->yz ir Z (upd H p (.dK [])) λps H2=>H2 p=some (.dK [])/\∃kvs:List (Key×V),ps=kvs.map (λkv=>(kV kv.1,kv.2))/\kvs.length<=15/\Q (.ref p) (upd H2 p (.dK (S7 [] kvs)))
theorem Ud{X:Cx}{pos:Pos}{keys:List (Option Expr)}{values:List Expr}{ir:List (TE×TE)}(h:wU X pos keys values ir)(rC:keys.all (·.isSome)=true)(hl:keys.length=values.length)(h0:keys≠[])(oG:keys.length<=15):PE X (.Dict keys values pos) (Yl ir):=by
 intro pins s Z H Q I q;have hn:=I.bZ.fresh (av s.heap.objs.size);have I1:=I.laid (a:=s.heap.objs.size) (o:=.dK []) (h':=s.heap.push { cls:=.type "dict",data:=.dict #[] }) (t':=s.toks) (λ_ _ q=>ao _ q) (av _) (Lv s.heap I.big);refine wpAny_Dict_walk (knd:=n9 X.prog X.w) rC hl h0 oG (cP (h pins _ Z _ _ I1 (q _ hn)) λws s2 bt=>?_);obtain⟨ps,H2,I2,rel,e,kvs,ep,lk,q2⟩:=bt;subst ep;obtain⟨rs,c,rk⟩:=Jw (P:=X.prog) (w:=X.w) rel;obtain⟨z,hd,vs0,r0,dd⟩:=DE I2.bZ e;cases r0;refine⟨rs,c,dd,λh' rV hs=>⟨.ref s.heap.objs.size,_,?_,rfl,q2⟩⟩;have hz:(S7 [] kvs).length<=sizeLine:=by
  have h1:=Kd kvs [];rw[List.length_nil] at h1;rw[kB];omega
 have he:∃q,h'.get? s.heap.objs.size=some q:=let ⟨q,_,_,hq,_⟩:=rV;⟨q,hq⟩
 exact Cn I2 (by rw[e];exact True.intro) hs he (Kg hz hd (rk.merge .nil) rV)
section
variable{X:Cx}{pins:List (Addr×Obj)}{Z:St}{H:Hp}{s:Shared}{a:Addr}{y d:V}{u r:Value}{o:Option V}{A:Around}{E:Value->Shared->Prop}
theorem YJ{Q:Value->Shared->Prop}(hu:A.units+1<cLine)(I:Inv X pins Z H s)(g:P7 H a y o)(ry:RelV y u)(rd:RelV d r)(h:∀w' s',Inv X pins Z H s'->RelV (o.getD d) w'->Q w' s') :
  wpAny (model X.prog X.w) A (call (.builtin "dict.get") [.ref a,u,r]) Q E s:=by
 rcases g with⟨kvs,k,e,ey,l⟩|⟨kvs,k,b,e,ey,eb,l⟩
 ·subst ey;obtain⟨z,hd,vs,rel,dd⟩:=sy I.bZ e;refine call_meetsIn iU dd.typeIs ud (sI _ _ _) (meets_dict_get_default (n9 X.prog X.w) a (sA ry) hd r) ⟨_,dd.mapOf,h _ _ (I.tok _) ?_⟩;rw[l];exact(rel.val k).getD rd
 ·subst ey;cases (show u=Value.ref b from ry);obtain⟨z,hd,xs,rel,dd⟩:=tV I.bZ e;refine call_meetsIn iU dd.typeIs ud (sI _ _ _) (meetsH_dict_get_default (tupleKind (n9 X.prog X.w)) a b hd r) ⟨fo hu,k,xs,Y3 I.bZ eb,dd,h _ _ (I.tok _) ?_⟩;rw[l];exact(rel.val k).getD rd
end
section
variable{X:Cx}{o e f:Expr}{apos eA:Pos}{td ty tx:TE}
end
section
variable{X:Cx}{pins:List (Addr×Obj)}{Z:St}{H:Hp}{s:Shared}{a:Addr}{kvs:List (Key×V)}{A:Around}{E:Value->Shared->Prop}
end
section
variable{X:Cx}{pins:List (Addr×Obj)}{Z:St}{H:Hp}{s:Shared}{a:Addr}{y:V}{u:Value}{A:Around}{E:Value->Shared->Prop}
end
end L2

namespace Mo
open PySem PySem.W PySem.Calls PyProof.Rows
theorem Zi{P:Params}{h:Heap}:∀(ns:List Int) (vs:List Value),WellAll P h vs (ns.map WData.int)->IntsAre vs ns:=by
 intro ns
 induction ns with
 |nil =>
  intro vs w;rw[uh] at w;cases w;exact .nil
 |cons n ns ih =>
  intro vs w;rw[bg] at w;cases w with
  |cons a b =>
   cases a;exact .cons _ _ (ih _ b)
theorem aU3{l:OpenLaw}{n:Nat}(hn:l.most=some n){P:Params}{h:Heap}{args:List WData}{vals:List Value}(oz:l.row.toRowW.claim.pre args=true)(Ah:WellAll P h vals args) :
  ∃a vs ns,vals=[Value.ref a]/\args=[WData.list (ns.map WData.int)]/\h.get? a=some { cls:=.type "list",data:=.seq vs.toArray }/\IntsAre vs ns/\ns.length<=n:=by
 have jJ:WShape.hasAll [] args [.list .int]=true:=(pre_splitW oz).1;have hc:l.pre.holds [] { args:=args }=true:=(pre_splitW oz).2;obtain⟨d,r,rfl,h1,h2⟩:=hasAllW_cons jJ;obtain rfl:=hasAllW_nil h2;obtain⟨xs,rfl,h3⟩:=hasW_list h1;obtain⟨ns,rfl⟩:=items_int h3;have hlen:ns.length<=n:=by
  unfold OpenLaw.pre at hc;have h4:(WTm.not (.lt (.lit (.int (n:Int))) (.len (.arg 0)))).holds [] { args:=[.list (ns.map .int)] }=true:=by
   have h4:=(holds_andW hc).1;rw[hn] at h4;exact h4
  have h5:=condW_of h4 (w_not (w_lt w_lit (w_len_list (w_arg rfl))));rw[ag] at h5;refine lC λq=>?_;have q':(n:Int)<((ns.length:Nat):Int):=by omega
  first
   |(rw[aF q'] at h5;exact absurd h5 (by decide))
   |(simp at h5;omega)
 cases Ah with
 |cons w1 w2 =>
  cases w2;cases w1 with
  |list ho rC=>exact⟨_,_,ns,rfl,rfl,ho,Zi ns _ rC,hlen⟩
theorem Z'(l:OpenLaw)(args:List WData):l.row.toRowW.claim.post args (.bool true) args=true :=
 postW_of (r:=l.row.toRowW) (X:=(true==true))
  (show WShape.has [] (.bool true) .bool=true by first|rfl|decide|simp[WShape.has,WShape.arms,WShape.armsAll])
  (show(WTm.eq .res (.lit (.bool true))).value [] { args:=args,res:=some (.bool true),after:=args }=some (.bool (true==true)) from w_eq_bool (w_res rfl) w_lit) rfl
theorem aH8{l:OpenLaw}{n:Nat}{q:Program}{loose:List Str}{XP:(Str->Option Value)->Heap->Prop}{YP:World->Heap->Prop}{d:DefRec}(hn:l.most=some n)(vw:d.params.defaults=[])(call:∀ (w:World) (dC cv:Shared) (mg mb:Str->Option Value) (fa:Addr) (o:Obj) (pm cd doc:Value) (a:Addr) (vs:List Value) (ns:List Int),
   Ground q loose [] XP w dC mg mb cv.heap->YP w cv.heap ->
   cv.heap.get? fa=some o->o.data=.func (docDef d.name d.params d.body d.scope pm cd doc)->cv.heap.CodeRec cd d.name->mg d.name=some (.ref fa) ->
   cv.heap.get? a=some { cls:=.type "list",data:=.seq vs.toArray }->IntsAre vs ns->ns.length<=n->cv.gens=#[] ->
   codeAny (model l.prog w) callerA (.call (.ref fa) ⟨[.ref a],[]⟩) (λr s'=>r=.ok (.ret (.bool true))/\OldK cv.heap s'.heap/\s'.os=cv.os/\AllBare s'.gens) cv) :
  WalkO q loose XP YP l.row.toRowW d [] (λf vs=>PySem.call f vs):=by
 intro w dC cv mg mb G Y fa o pm cd doc dV kV ho hd kn hD hmg hg args vals as oz Og hrd Ah rg;obtain rfl:dV=.none:=Dflts.none hD vw;obtain rfl:kV=.none:=Dflts.noKw hD;obtain⟨a,vs,ns,rfl,rfl,jh,hints,hlen⟩:=aU3 hn oz Ah;refine enter_call (gU (call w dC cv mg mb fa o pm cd doc a vs ns G Y ho (fd_plain hd) kn hmg jh hints hlen hg) λr s' hq=>?_);obtain⟨rfl,h2,h3,h4⟩:=hq;exact⟨.inl ⟨.bool true,.bool true,[],rfl,λ_=>rfl,.bool true,Z' l _,λ_=>⟨List.Pairwise.nil,λ_ hm=>(nomatch hm)⟩⟩,h2,h3,h4⟩
section
variable{prog:Program}{w:World}{A:Around}{E:Value->Shared->Prop}{s:Shared}{K:Frag}
end
end Mo
namespace L2
open PySem PySem.Spec PyProof.Rows
theorem Jp:∀{vs:List Value} {ns:List Int},IntsAre vs ns->Vals (ns.map V.int) vs
 |_,_,.nil=>.nil
 |_,_,.cons n t h=>.cons ⟨t,rfl⟩ (Jp h)
def yX(H:Hp):Prop:=∀b,H b=none\/∃o xs,H b=some (.jL o (.lst xs))
theorem a87{P:Program}{w:World}{K:PySem.W.Frag}{mg mb:Str->Option Value}{CX:nQ}{k:Nat}{fa a:Addr}{fd:FuncData}{x:Str}{sp:Sp}{cv:Shared}{vs:List Value}{ns:List Int}(KX:K.In cv.heap)(rf:cv.heap.Ns mainGlobals mg)(hb:cv.heap.Ns builtinsNs mb)(AJ:∀x:Str,x≠"__name__"->mb x=bootBuiltins x)(AA:cv.heap.NoLimit)(hg:cv.gens=#[])(ha:cv.heap.get? a=some { cls:=.type "list",data:=.seq vs.toArray })(hi:IntsAre vs ns)(hl:ns.length<=sizeLine)(hr:x6 k callerA)(F:∀base:Heap,K.In base->base.Ns mainGlobals mg->iN P w K mg base CX k fa fd [x] sp)(vA:∀(s:Shared) (u:Value),BindsTo s fd ⟨[u],[]⟩ [(x,u)])(tj:∀H:Hp,yX H->fG K H a (ns.map V.int)->sp [.ref a] H (λv _=>v=.bl true) λ_ _ _=>False)(Ba:∀H e s',CX [] H cv (λ_ _ _=>False) e s'->False) :
  codeAny (model P w) callerA (.call (.ref fa) ⟨[.ref a],[]⟩) (λr s'=>r=.ok (.ret (.bool true))/\OldK cv.heap s'.heap/\s'.os=cv.os/\AllBare s'.gens) cv:=by
 have rv:=Jp hi;have zZ:=hi.length;have core:∀H:Hp,yX H->fG K H a (ns.map V.int)->gH P w H cv.heap->(∀b,H b≠none->b=a)->(H a≠none->K.lookup a=none) ->
   codeAny (model P w) callerA (.call (.ref fa) ⟨[.ref a],[]⟩) (λr s'=>r=.ok (.ret (.bool true))/\OldK cv.heap s'.heap/\s'.os=cv.os/\AllBare s'.gens) cv:=by
  intro H hO hS bZ hA hK;have N6:∀{b:Addr} {o:Obj},cv.heap.get? b=some o->H b=none->(oW cv.heap H).get? b=some o:=λe n=>a96 e n;have uR:∀{b:Addr} {o:Obj} {es:Array DictEntry} {ep:Nat},cv.heap.get? b=some o->o.data=.dict es ep->H b=none:=λ{b o es ep} e d=>by
   cases q:H b with
   |none=>rfl
   |some u =>
    have e':b=a:=hA b (by rw[q];simp);subst e';rw[ha] at e;cases e;have d':Data.seq vs.toArray _=Data.dict es ep:=d;cases d'
  have xy:∀{b:Addr} {m:Str->Option Value},cv.heap.Ns b m->(oW cv.heap H).Ns b m:=λ{b m} ⟨o,es,ep,e,d,r⟩=>⟨o,es,ep,N6 e (uR e d),d,r⟩
  have GG:K.In (oW cv.heap H):=λb o e=>N6 (KX b o e) (by
   cases q:H b with
   |none=>rfl
   |some u =>
    have e':b=a:=hA b (by rw[q];simp);subst e';rw [hK (by rw [q];simp)] at e;cases e)
  have hM:Mod K mg (oW cv.heap H):=⟨GG,xy rf,⟨mb,xy hb,AJ⟩,let ⟨mc,h1,h2⟩:=AA;⟨mc,xy h1,h2⟩⟩
  have e0:se P w K mg (oW cv.heap H) callerA [] cv H:=⟨rfl,hM,λb o e=>TK e,Nat.le_of_eq (Zu _ _),trivial,λb hb=>absurd (show b∈([]:List Addr) from hb) (by simp),bZ,.of_eq hg⟩
  refine gU ((F _ GG (xy rf)).run callerA [] cv H ⟨[.ref a],[]⟩ [.ref a] [.ref a] _ _ hr e0 (vA cv (.ref a)) (.cons rfl .nil) (tj H hO hS)) λr s' h=>?_;cases r with
  |error e=>exact(Ba H e s' h).elim
  |ok fl =>
   cases fl with
   |next=>exact False.elim h
   |brk=>exact False.elim h
   |cont=>exact False.elim h
   |ret u =>
    obtain⟨v,H',os,bare,un,Aq,r',q⟩:=h;have q':v=.bl true:=q;subst q';obtain rfl:u=Value.bool true:=r';refine⟨rfl,OldK.of_keep λb o e=>?_,os,bare⟩;cases q:H b with
    |none=>exact un.keep b o e q (by intro z;exact absurd (show b∈([]:List Addr) from z) (by simp)) (by simp)
    |some u =>
     rcases hO b with z|⟨ob,xs,z⟩
     ·rw[q] at z;cases z
     ·have z2:=un.iL b ob _ z;obtain⟨e1,_⟩:=bZ b _ z;obtain⟨e2,_⟩:=Aq b _ z2;rw[e] at e1;cases e1;exact e2
 cases hk:K.lookup a with
 |some o =>
  have e:=KX a o hk;rw[ha] at e;cases e;refine core (λ_=>none) (λ_=>.inl rfl) (.inr ⟨_,vs.toArray,_,hk,rfl,rfl,rfl,by rw[aG,zZ];exact hl,by simpa using rv⟩) (λb u z=>by have z':(none:Option HO)=some u:=z;cases z') (λb z=>absurd rfl z) λz=>absurd rfl z
 |none =>
  refine core (λb=>if b=a then some (.jL { cls:=.type "list",data:=.seq vs.toArray } (.lst (ns.map V.int))) else none) (λb=>?_) (.inl (.inr ⟨{ cls:=.type "list",data:=.seq vs.toArray },aK rfl⟩)) (λb u z=>?_) (λb z=>?_) λ_=>hk
  ·by_cases hb:b=a
   ·exact .inr ⟨_,_,aK hb⟩
   ·exact .inl (aD hb)
  ·by_cases hb:b=a
   ·have z':=(aK hb).symm.trans z;cases z';subst hb;exact⟨ha,by rw[ag];exact hl,vs,_,rv,ha⟩
   ·have z':=(aD hb).symm.trans z;cases z'
  ·by_cases hb:b=a
   ·exact hb
   ·exact absurd (aD hb) z
theorem UZ{l:PySem.W.OpenLaw}{n k:Nat}{q:Program}{loose:List Str}{XP:(Str->Option Value)->Heap->Prop}{YP:World->Heap->Prop}{d:DefRec}{K:Params->PySem.W.Frag}{CX:World->nQ}{sp:World->Sp}{x:Str}(hn:l.most=some n)(oA:n<=sizeLine)(vw:d.params.defaults=[])(hr:x6 k callerA)(hY:∀(w:World) (h:Heap),YP w h->(K w.params).In h)(F:∀ (w:World) (mg:Str->Option Value) (fa:Addr) (h:Heap),(K w.params).In h->h.Ns mainGlobals mg->mg d.name=some (.ref fa) ->
   ∃fd:FuncData,(∀(s:Shared) (u:Value),BindsTo s fd ⟨[u],[]⟩ [(x,u)]) /\
    ∀ base:Heap,(K w.params).In base->base.Ns mainGlobals mg->iN l.prog w (K w.params) mg base (CX w) k fa fd [x] (sp w))(tj:∀(w:World) (H:Hp) (a:Addr) (ns:List Int),ns.length<=n->yX H->fG (K w.params) H a (ns.map V.int)->sp w [.ref a] H (λv _=>v=.bl true) λ_ _ _=>False)(Ba:∀(w:World) (H:Hp) (s:Shared) (e:Value) (s':Shared),CX w [] H s (λ_ _ _=>False) e s'->False) :
  PySem.W.WalkO q loose XP YP l.row.toRowW d [] (λf vs=>PySem.call f vs):=by
 refine Mo.aH8 hn vw λw dC cv mg mb fa o pm cd doc a vs ns G Y ho hd kn hmg jh hints hlen hg=>?_;have KX:=hY w _ Y;obtain⟨fd,hb,hF⟩:=F w mg fa _ KX G.T.g hmg;exact a87 KX G.T.g G.T.b G.T.builtins G.T.nolimit hg jh hints (aE hlen oA) hr hF hb (λH hO hS=>tj w H a ns hlen hO hS) λH e s'=>Ba w H cv e s'
def B9(s:Stmt):Arguments:=match s with
 |.FunctionDef _ a _ _ _ _ _ _ _ _=>a
 |_=>{ posonlyargs:=[],args:=[],vararg:=none,kwonlyargs:=[],kw_defaults:=[],kwarg:=none,defaults:=[] }
def q9(s:Stmt):List Stmt:=match s with
 |.FunctionDef _ _ b _ _ _ _ _ _ _=>b
 |_=>[]
def p8(s:Stmt):Scope:=match s with
 |.FunctionDef _ _ _ _ _ _ sc _ _ _=>sc
 |_=>{ kind:=.function,names:=[],isGenerator:=false,isCoroutine:=false }
structure qm(K:PySem.W.Frag)(x qual:Str)(st:Stmt)(f:Addr)(fd:FuncData):Prop where
 ex:∃(oc:Value) (od:Option Addr) (kV doc pm:Value) (an:Option Addr) (fQ ct:Value) (mq:Array (Option Value)),
  fd=PySem.W.fnOf x qual (B9 st) (q9 st) (p8 st) .none kV doc pm an fQ ct/\K.lookup f=some ⟨oc,od,.func fd,mq⟩/\PySem.W.codeIn K fQ qual=true
 kp:PySem.W.keepIn K (.ref f)=true
section
variable{P:Program}{w:World}{K:PySem.W.Frag}{mg:Str->Option Value}{base:Heap}
theorem qm.binds{x qual:Str}{st:Stmt}{f:Addr}{fd:FuncData}{ps:List Str}(F:qm K x qual st f fd)(h:∀(kV doc pm:Value) (an:Option Addr) (fQ ct:Value) (us:List Value),us.length=ps.length->bindArgs (PySem.W.fnOf x qual (B9 st) (q9 st) (p8 st) .none kV doc pm an fQ ct) ⟨us,[]⟩=pure (ps.zip us)):Binds K fd ps []:=by
 obtain⟨oc,od,kV,doc,pm,an,fQ,ct,mq,rfl,lk,kn⟩:=F.ex;exact .all (h kV doc pm an fQ ct)
theorem Kj{x qual:Str}{st:Stmt}{f:Addr}{oc:Value}{od an:Option Addr}{mq:Array (Option Value)}{kV doc pm fQ ct:Value}(l:K.lookup f=some ⟨oc,od,.func (PySem.W.fnOf x qual (B9 st) (q9 st) (p8 st) .none kV doc pm an fQ ct),mq⟩)(c:PySem.W.codeIn K fQ qual=true)(k:PySem.W.keepIn K (.ref f)=true):qm K x qual st f (PySem.W.fnOf x qual (B9 st) (q9 st) (p8 st) .none kV doc pm an fQ ct):=⟨⟨oc,od,kV,doc,pm,an,fQ,ct,mq,rfl,l,c⟩,k⟩
end
section
variable{X:Cx}
theorem a11:l6 X (.builtin "len") (λxs H Q=>∃a kvs,xs=[V.ref a]/\H a=some (.dK kvs)/\Q (.int kvs.length) H):=by
 intro pins s Z H xs us Q I r h;obtain⟨a,kvs,rfl,ha,q⟩:=h;obtain⟨u,rfl,ru⟩:=vals1 r;cases ru;exact WW I (.inl ha) λt s' I'=>⟨.int kvs.length,H,I',⟨t,rfl⟩,q⟩
end
section
variable{κ:Type}[DecidableEq κ]
end
end L2

namespace L2
open PySem PySem.Spec PyProof.Rows
section
variable{prog:Program}{w:World}{A:Around}{R:Result->Shared->Prop}{s:Shared}
theorem aE6{elt target iter:Expr}{ifs:List Expr}{scope:Scope}{pos:Pos}{it acc:Value}{env:Env}(I:Nat->Shared->Prop)(turn:∀ n s,I n s->wpAny (model prog w) A (pyNext it) (λr cv=>match r with
   |none=>R (.ok .next) cv
   | some v=>wpAny (model prog w) A (letOwnedTupleGo target it v) (λ_ cv=>wpAny (model prog w) A (assign target env v) (λ_ gZ =>
     wpAny (model prog w) A (forIn ifs true λc r=>if r=true then do let ok <- isTrue c env (eval c env);pure (ForInStep.yield ok) else pure (ForInStep.yield r)) (λok ft =>
      if ok=true then wpAny (model prog w) A (eval elt env) (λx jG =>
       wpAny (model prog w) A (call (.builtin "list.append") [acc,x]) (λ_ mQ=>∃ m,m < n/\I m mQ) (λ_ _=>False) jG) (notedBy (model prog w) A env λe s'=>R (.error e) s') ft
      else ∃ m,m < n/\I m ft) (λ_ _=>False) gZ) (λ_ _=>False) cv) (λ_ _=>False) cv) (λ_ _=>False) s)(n:Nat)(h:I n s) :
  codeAny (model prog w) A (.compLoop (.ListComp elt [⟨target,iter,ifs,0⟩] scope pos) 0 it acc env) R s:=by
 refine codeAny_loop rfl I (λn s hI=>?_) n h;show wpAny _ A ((compTurn (.ListComp elt [⟨target,iter,ifs,0⟩] scope pos) 0 it acc env).onRaise (λx=>do noteFrame x env;theTreesLotGoes x)) _ _ s;refine wpAny_noted ?_;rw[compTurn_list];refine ae (eE (ae (bI (turn n s hI) (λr cv h₁=>?_) λ_ _ h'=>h'.elim)));cases r with
 |none=>exact au h₁
 |some v =>
  refine ae (bI h₁ (λ_ cv h₁=>?_) λ_ _ h'=>h'.elim);refine ae (bI h₁ (λ_ gZ jf=>ae (bI jf (λok ft nt=>?_) λ_ _ h'=>h'.elim)) λ_ _ h'=>h'.elim);cases ok with
  |false=>exact wpAny_pure ⟨rfl,nt⟩
  |true =>
   exact ae (ae (bI nt (λx jG qY=>ae (bI qY (λ_ mQ qW=>au (au ⟨rfl,qW⟩)) λ_ _ h'=>h'.elim)) λ_ _ h'=>h'))
end
def lB(X:Cx)(es:List Expr)(t:TT):Prop :=
 ∀(pins:List (Addr×Obj)) (s:Shared) (Z:St) (H:Hp) (Q:Bool->Hp->Prop),Inv X pins Z H s->t Z H Q ->
  wpAny (model X.prog X.w) X.A (forIn es true λc r=>if r=true then do let ok <- isTrue c X.env (eval c X.env);pure (ForInStep.yield ok) else pure (ForInStep.yield r)) (TP X pins Z Q) X.xe s
def WC:TT:=λ_ H Q=>Q true H
section
variable{X:Cx}
theorem Uq:lB X [] WC:=λpins s Z H Q I h=>au ⟨H,I,h⟩
theorem Ur{c:Expr}{t:TT}(h:PT X c t):lB X [c] t:=by
 intro pins s Z H Q I q;simp only[List.forIn_cons,List.forIn_nil,if_true];exact ae (ae (bI (h pins s Z H Q I q) (λb s' hb=>au (au hb)) λ_ _ x=>x))
end
def K1(scope:Scope)(cl:List (Str×Addr))(C:Addr):List (Str×Addr):=cellsFrom (C+1) scope.names []++cl
theorem E6:∀(names:List (Str×NameKind)) (n:Nat) (acc:List (Str×Addr)),cellsFrom n names acc=cellsFrom n names []++acc
 |[],_,_=>rfl
 |(y,k)::r,n,acc=>by
  unfold cellsFrom;split
  ·rw[E6 r (n+1) ((y,n)::acc),E6 r (n+1) [(y,n)],cx]
   rfl
  ·exact E6 r n acc
theorem U3{x:Str}{c:Addr}:∀{names:List (Str×NameKind)} {n:Nat},(x,c)∈cellsFrom n names []->(x,NameKind.cell)∈names
 |[],_,h=>by simp[cellsFrom] at h
 |(y,k)::r,n,h=>by
  unfold cellsFrom at h;split at h
  ·rename_i hk;rw[E6] at h;rcases aV.mp h with z|z
   ·exact bW _ (U3 z)
   ·cases aR.mp z;rw[show k=NameKind.cell from by simpa using hk];exact gw
  ·exact bW _ (U3 h)
theorem J2{α:Type}{x:Str}:∀{a b:List (Str×α)},(a++b).lookup x=(a.lookup x).or (b.lookup x)
 |[],_=>rfl
 |(y,v)::r,b=>by
  rw[List.cons_append,cQ,cQ];cases x==y
  ·exact J2
  ·rfl
theorem IX{scope:Scope}{cl:List (Str×Addr)}{C:Addr}{x:Str}(h:scope.names.lookup x=some .cell\/∃c,cl.lookup x=some c):∃c,(K1 scope cl C).lookup x=some c:=by
 unfold K1;rw[J2];cases e:(cellsFrom (C+1) scope.names []).lookup x with
 |some c=>exact⟨c,rfl⟩
 |none =>
  rcases h with h|h
  ·have q:=dP scope.names (C+1) [] (.inl h);rw[e] at q;cases q
  ·exact h
theorem M1{env:Env}:∀{names:List (Str×NameKind)} {x:Str},names.lookup x=some .cell ->
  (names.map λ(n,k)=>if(k==NameKind.free&&env.scope.kind==.function&&env.kindOf n==some .cell) then(n,NameKind.cell) else(n,k)).lookup x=some .cell
 |[],_,h=>by simp at h
 |(n,k)::r,x,h=>by
  have ih:=@M1 env r x;show List.lookup x ((if(k==NameKind.free&&env.scope.kind==.function&&env.kindOf n==some .cell)=true then(n,NameKind.cell) else(n,k))::_)=_;cases hx:x==n with
  |true =>
   simp only[List.lookup_cons,hx] at h;cases h;simp[List.lookup_cons,hx]
  |false =>
   simp only[List.lookup_cons,hx] at h;by_cases hc:(k==NameKind.free&&env.scope.kind==.function&&env.kindOf n==some .cell)=true
   ·rw[aK hc];simp only[List.lookup_cons,hx];exact ih h
   ·rw[aD hc];simp only[List.lookup_cons,hx];exact ih h
theorem yR{scope:Scope}{cl:List (Str×Addr)}{C:Addr}{h:Heap}(ck:CellsOk h (C+1) (cellsFrom (C+1) scope.names [])){x:Str}{c:Addr}(e:(K1 scope cl C).lookup x=some c):C<c\/cl.lookup x=some c:=by
 unfold K1 at e;rw[J2] at e;cases e2:(cellsFrom (C+1) scope.names []).lookup x with
 |some c' =>
  rw[e2] at e;cases e;exact .inl (ck.empty x c (aQ e2)).2
 |none =>
  rw[e2] at e;exact .inr e
theorem Kf{M:Model}{A:Around}{E:Value->Shared->Prop}{s:Shared}{scope:Scope}{globals:Addr}{cl:List (Str×Addr)}{qual:Str}{outer:Env}{Q:Env->Shared->Prop}(hQ:∀ h₁:Heap,h₁.Ns s.heap.objs.size (λ_=>none)->(∀ b o,s.heap.get? b=some o->h₁.get? b=some o)->CellsOk h₁ (s.heap.objs.size + 1) (cellsFrom (s.heap.objs.size + 1) scope.names []) ->
   Q (newEnv scope s.heap.objs.size globals (K1 scope cl s.heap.objs.size) qual none .none (some outer) builtinsNs) { s with heap:=h₁ }) :
  wpAny M A (newFunctionEnv scope globals cl [] qual none .none (some outer)) Q E s:=by
 simp only[newFunctionEnv,Option.isSome_some,if_true];refine ae (wpAny_alloc ?_);refine ae (wpAny_layCells _ (λname kind cells=>by cases Om:kind==NameKind.cell<;>simp[Om]) _ _ _ _ ?_);have ok:=cellsFrom_ok scope.names (s.heap.push { cls:=.type "dict",data:=.dict #[] }) (s.heap.objs.size+1) [] ⟨λ_ _ hm=>(nomatch hm),List.Pairwise.nil⟩ (by rw[eV];exact av _);rw[eV] at ok;rw[show({ s with heap:=s.heap.push { cls:=.type "dict",data:=.dict #[] } }:Shared).heap.objs.size=s.heap.objs.size+1 from eV ..];rw[List.forIn_nil];refine ae (au (au ?_));rw[E6];exact hQ _ ((Heap.Ns.new s.heap (.type "dict")).keeps (pushCells_keeps _ _)) (λb o e=>pushCells_keeps _ _ b o (ao _ e)) ok
def f6(X:Cx)(pins:List (Addr×Obj))(scope:Scope)(N':List Str)(cl:List (Str×Addr))(C:Addr)(s:Shared)(H:Hp)(fp:List Addr):Cx where
 prog:=X.prog
 w:=X.w
 K:=X.K
 mg:=X.mg
 base:=X.base
 A:=X.A
 N:=N'
 dC:=s
 ju:=H
 env:=compEnvC scope (K1 scope cl C) C X.env
 outer:=X.stack
 stack:=X.stack
 ex:=fp
 calm:=true
 fn:=λx=>decide (scope.names.lookup x=some .cell)
 pn:=X.pn++pins
 xe:=λ_ _=>False
structure dN(X:Cx)(scope:Scope)(N':List Str)(d6:List Nat)(cl:List (Str×Addr)):Prop where
 kind:scope.kind=.function
 cells:∀y∈scope.names,y.2=.cell->scope.names.lookup y.1=some .cell
 names:∀y∈scope.names,y.2=.local->scope.names.lookup y.1=some .local
 rX:closureFor scope X.env=pure cl
 cin:∀x c,cl.lookup x=some c->X.env.cells.lookup x=some c
 wj:∀x,scope.names.lookup x=some .free->∃c,cl.lookup x=some c
 nd:N'.Nodup
 Qq:∀(i j:Nat),d6[i]?=some j->∃x,N'[i]?=some x/\X.N[j]?=some x/\scope.names.lookup x=some .free/\(X.env.kindOf x=some .cell\/X.env.kindOf x=some .free)
 BJ:d6.length<=N'.length
theorem E8{env:Env}:∀{names:List (Str×NameKind)} {x:Str},names.lookup x=some .free ->
  (names.map λ(n,k)=>if(k==NameKind.free&&env.scope.kind==.function&&env.kindOf n==some .cell) then(n,NameKind.cell) else(n,k)).lookup x=some .cell \/
  (names.map λ(n,k)=>if(k==NameKind.free&&env.scope.kind==.function&&env.kindOf n==some .cell) then(n,NameKind.cell) else(n,k)).lookup x=some .free
 |[],_,h=>by simp at h
 |(n,k)::r,x,h=>by
  have ih:=@E8 env r x;show List.lookup x ((if(k==NameKind.free&&env.scope.kind==.function&&env.kindOf n==some .cell)=true then(n,NameKind.cell) else(n,k))::_)=_\/List.lookup x ((if(k==NameKind.free&&env.scope.kind==.function&&env.kindOf n==some .cell)=true then(n,NameKind.cell) else(n,k))::_)=_;cases hx:x==n with
  |true =>
   simp only[List.lookup_cons,hx] at h;cases h;by_cases hc:(NameKind.free==NameKind.free&&env.scope.kind==.function&&env.kindOf n==some .cell)=true
   ·rw[aK hc];simp[List.lookup_cons,hx]
   ·rw[aD hc];simp[List.lookup_cons,hx]
  |false =>
   simp only[List.lookup_cons,hx] at h;by_cases hc:(k==NameKind.free&&env.scope.kind==.function&&env.kindOf n==some .cell)=true
   ·rw[aK hc];simp only[List.lookup_cons,hx];exact ih h
   ·rw[aD hc];simp only[List.lookup_cons,hx];exact ih h
theorem M3{env:Env}:∀{names:List (Str×NameKind)} {x:Str},((names.map λ(n,k)=>if(k==NameKind.free&&env.scope.kind==.function&&env.kindOf n==some .cell) then(n,NameKind.cell) else(n,k)).lookup x=some .cell \/
  (names.map λ(n,k)=>if (k == NameKind.free && env.scope.kind == .function && env.kindOf n == some .cell) then (n,NameKind.cell) else (n,k)).lookup x=some .free)->names.lookup x=some .free \/ names.lookup x=some .cell
 |[],_,h=>by simp at h
 |(n,k)::r,x,h=>by
  have ih:=@M3 env r x;rw[bg] at h;cases hx:x==n with
  |true =>
   simp only[List.lookup_cons,hx];by_cases hc:(k==NameKind.free&&env.scope.kind==.function&&env.kindOf n==some .cell)=true
   ·left;simp only[Bool.and_eq_true,beq_iff_eq] at hc;rw[hc.1.1]
   ·simp only[if_neg hc,List.lookup_cons,hx] at h;rcases h with h|h
    ·exact .inr h
    ·exact .inl h
  |false =>
   simp only[List.lookup_cons,hx];by_cases hc:(k==NameKind.free&&env.scope.kind==.function&&env.kindOf n==some .cell)=true
   ·simp only[if_pos hc,List.lookup_cons,hx] at h;exact ih h
   ·simp only[if_neg hc,List.lookup_cons,hx] at h;exact ih h
def C6(Z:St)(d6:List Nat)(n:Nat):St:=d6.map (λj=>(Z[j]?).join)++List.replicate (n-d6.length) none
section
variable{X:Cx}{pins:List (Addr×Obj)}{Z:St}{H:Hp}{s:Shared}
theorem Inv.Jy{scope:Scope}{N':List Str}{d6:List Nat}{cl:List (Str×Addr)}{C:Addr}{h1:Heap}{fp:List Addr}{tk:Nat}(I:Inv X pins Z H s)(S:dN X scope N' d6 cl)(hc:X.calm=true)(hf:∀b∈fp,C8 X pins H b)(ho:∀b∈fp,∃o,s.heap.get? b=some o)(hC:s.heap.objs.size<=C)(hn:∃m,h1.Ns C m)(k:∀b o,s.heap.get? b=some o->h1.get? b=some o)(ck:CellsOk h1 (C+1) (cellsFrom (C+1) scope.names [])) :
  Inv (f6 X pins scope N' cl C s H fp) [] (C6 Z d6 N'.length) H { s with heap:=h1,toks:=tk }:=by
 obtain⟨m,hm⟩:=hn;have Ol:(relabel scope X.env).kind=.function:=S.kind;have Fu:∀b o,s.heap.get? b=some o->b≠C:=λb o e z=>absurd (ax e) (by rw[z];exact jV.mpr hC);have two:∀{x:Str} {c:Addr},(K1 scope cl C).lookup x=some c->(C<c/\h1.IsCell c none/\(x,c)∈cellsFrom (C+1) scope.names [])\/(cl.lookup x=some c/\(cellsFrom (C+1) scope.names []).lookup x=none):=λ{x c} h=>by
  unfold K1 at h;rw[J2] at h;cases e:(cellsFrom (C+1) scope.names []).lookup x with
  |some c' =>
   rw[e] at h;cases h;have hm:=aQ e;exact .inl ⟨(ck.empty x c hm).2,(ck.empty x c hm).1,hm⟩
  |none =>
   rw[e] at h;exact .inr ⟨h,rfl⟩
 have uM:∀{x:Str} {c:Addr},cl.lookup x=some c->c<s.heap.objs.size:=λ{x c} h=>by
  obtain⟨v,o,e,_⟩:=I.cell x c (S.cin x c h);exact ax e
 have frees:∀{x:Str},scope.names.lookup x=some .free->(K1 scope cl C).lookup x=cl.lookup x:=λ{x} h=>by
  unfold K1;rw[J2];cases e:(cellsFrom (C+1) scope.names []).lookup x with
  |some c' =>
   have:=S.cells _ (U3 (aQ e)) rfl;rw[h] at this;cases this
  |none=>rfl
 refine⟨⟨I.mod,Ol,I.ok.glob,I.ok.blt,hC,?_,?_,?_,λ_=>I.ok.hd hc,I.ok.frames,.inl rfl,?_,I.bs,?_,?_,?_,I.stack,I.Cz⟩,rfl,I.bare,Un.kept k,⟨m,hm,?_⟩,?_,?_,?_,?_,I.bZ.kept k,?_⟩
 ·intro x y c h1 h2;rcases two h1 with⟨l1,_,q1⟩|⟨q1,_⟩<;>rcases two h2 with⟨l2,_,q2⟩|⟨q2,_⟩
  ·exact PySem.name_of_addr ck.apart q1 q2
  ·exact absurd (cM l1 (ay (uM q2) hC)) (bw _)
  ·exact absurd (cM l2 (ay (uM q1) hC)) (bw _)
  ·exact I.ok.inj x y c (S.cin x c q1) (S.cin y c q2)
 ·intro x hx;rcases M3 (env:=X.env) (names:=scope.names) hx with z|z
  ·obtain⟨c,hc⟩:=S.wj x z;exact⟨c,(frees z).trans hc⟩
  ·have q:=dP scope.names (C+1) [] (.inl z);obtain⟨c,hc⟩:=dB.mp q;refine⟨c,?_⟩;show(K1 scope cl C).lookup x=some c;unfold K1;rw[J2,hc]
   rfl
 ·intro x c hf h;have z:scope.names.lookup x=some .cell:=bj hf;have q:=dP scope.names (C+1) [] (.inl z);rcases two h with⟨l,_⟩|⟨_,e⟩
  ·exact du (gk hC l)
  ·rw[e] at q;cases q
 ·intro b hb;obtain⟨f0,f1,f2,f3,f4,f5⟩:=hf b hb;obtain⟨o,e⟩:=ho b hb;refine⟨Fu b o e,λx c h=>?_⟩;rcases two h with⟨l,_⟩|⟨q,_⟩
  ·intro z;subst z;exact absurd (cM l (ay (ax e) hC)) (bw _)
  ·exact f4 x c (S.cin x c q)
 ·exact aE I.ok.qd I.sz
 ·intro b o e hb;obtain⟨f0,f1,f2,f3,f4,f5⟩:=hf b hb;rcases f3 with f3|f3
  ·exact I.ok.mY b o e f3
  ·exact absurd (ax (I.ok.bs b o e).1) (jV.mpr f3)
 ·intro b hb z;obtain⟨f0,f1,f2,f3,f4,f5⟩:=hf b hb;rcases aI.mp (I.K8 b z) with z|z
  ·exact f1 z
  ·exact f2 z
 ·intro i x v Po h2 h3;have hi:i<d6.length:=by
   unfold C6 at h2;by_cases hi:i<d6.length
   ·exact hi
   ·rw[bB (by simpa using hi),fe] at h2;split at h2<;>cases h2
  obtain⟨j,hj⟩:∃j,d6[i]?=some j:=⟨_,ah hi⟩
  have hs:Z[j]?=some (some v):=by
   unfold C6 at h2;rw[aA (by simpa using hi),ai,hj] at h2;simp only[Option.map_some] at h2;cases e:Z[j]? with
   |none=>rw[e] at h2;cases h2
   |some a=>rw[e] at h2;exact dt some (aO h2)
  obtain⟨y,NH,NG,Af,FP⟩:=S.Qq i j hj;have ey:y=x:=by
   have vM:N'[i]?=some x:=Po;rw[NH] at vM;exact aO vM
  subst ey;obtain⟨m0,Gg,hl⟩:=I.loc;obtain ⟨u,ru,hu⟩:=hl j y v NG hs (by
   rcases FP with z|z
   ·exact .inr (.inl z)
   ·exact .inr (.inr z))
  refine⟨u,ru,.inr ⟨E8 (env:=X.env) (names:=scope.names) Af,?_⟩⟩;rcases hu with⟨z,_⟩|⟨_,c,rq,nE⟩
  ·rcases FP with z'|z'<;>(rw[z'] at z;cases z)
  ·obtain⟨c',ji⟩:=S.wj y Af;have e:=S.cin y c' ji;rw[rq] at e;cases e;obtain⟨o,e1,e2⟩:=nE;exact⟨c,(frees Af).trans ji,o,k _ _ e1,e2⟩
 ·intro x c h;rcases two h with⟨_,q,_⟩|⟨q,_⟩
  ·exact⟨none,q⟩
  ·obtain⟨v,o,e1,e2⟩:=I.cell x c (S.cin x c q);exact⟨v,o,k _ _ e1,e2⟩
 ·exact I.bZ.fresh hC
 ·intro x c h;rcases two h with⟨l,_⟩|⟨q,_⟩
  ·exact I.bZ.fresh (du (gk hC l))
  ·exact I.fT x c (S.cin x c q)
 ·intro p hp;have jz:p∈X.pn++pins:=by simpa[f6] using hp
  obtain⟨p1,p2,p3,p4,p5⟩:=I.pin p jz;refine⟨k _ _ p1,p2,Fu _ _ p1,λz=>?_,p5⟩;rcases aI.mp (I.K8 _ z) with z|z
  ·exact p3 z
  ·exact p4 z
 ·unfold C6;show _=N'.length;rw[aY,ag,xf];have:=S.BJ;omega
theorem Inv.Ls{scope:Scope}{N':List Str}{cl:List (Str×Addr)}{C:Addr}{fp:List Addr}{kU:List (Addr×Obj)}{cq:St}{H':Hp}{s':Shared}(I:Inv X pins Z H s)(hf:∀b∈fp,C8 X pins H b)(J:Inv (f6 X pins scope N' cl C s H fp) kU cq H' s'):Inv X pins Z H' s' :=
 I.Dz (ch:=fp) J.os J.base J.bZ J.bare λb hb=>by
  obtain⟨f0,f1,f2,f3,f4,f5⟩:=hf b hb;exact⟨f3,f1,f4,f5⟩
theorem Inv.Yt{D:Addr}{ys:List V}{aW:List Value}{n:Nat}(I:Inv X pins Z H s)(f:C8 X pins H D)(hs:X.dC.heap.objs.size<=D)(hv:Vals ys aW)(hz:ys.length<=sizeLine)(ho:s.heap.get? D=some { cls:=.type "list",data:=.seq aW.toArray n }):Inv X pins Z (upd H D (.lst ys)) s:=by
 obtain⟨f0,f1,f2,f3,f4,f5⟩:=f;have dF:∀b o,X.dC.heap.get? b=some o->b≠D:=λb o e z=>absurd (ax e) (by rw[z];exact jV.mpr hs);have tup:∀b u,H b=some u->upd H D (.lst ys) b=some u:=λb u e=>by rw[f9 (m7 e f0)];exact e
 refine⟨I.ok,I.os,I.bare,⟨?_,?_,?_,I.base.there,?_,?_,?_⟩,I.loc,I.cell,?_,?_,?_,?_,I.len⟩
 ·exact λb o e n1 n2 n3=>I.base.keep b o e n1 n2 n3
 ·exact λb o e n1 n2 n3=>I.base.slot b o e n1 n2 n3
 ·exact λb o e n1 n2=>by rw[f9 (dF b o e)];exact I.base.free b o e n1 n2
 ·exact λb xs e=>tup _ _ (I.base.iZ b xs e)
 ·exact λb o u e=>tup _ _ (I.base.iL b o u e)
 ·exact λb ps e=>by
   obtain⟨more,q⟩:=I.base.ja b ps e;exact⟨more,tup _ _ q⟩
 ·rw[f9 f1.symm];exact I.free
 ·exact λx c e=>by rw[f9 (f4 x c e)];exact I.fT x c e
 ·intro p hp;obtain⟨p1,p2,p3⟩:=I.pin p hp;exact⟨p1,by rw[f9 (f5 p hp)];exact p2,p3⟩
 ·intro a o e;by_cases ha:a=D
  ·subst ha;rw[u3] at e;cases e;exact⟨hz,aW,n,hv,ho⟩
  ·rw[f9 ha] at e;have q:=I.bZ a o e;refine q.Z3 (λb u _ h=>h) (λb hb=>tup _ _ hb) (λb xs hb=>tup _ _ hb)
end
end L2

namespace L2
open PySem PySem.Spec PyProof.Rows
def DM(wi:TI)(d6:List Nat)(n:Nat)(g:TG)(tc:TT)(te:TE):TE:=λZ H Q=>wi Z H λJ H1=>∃W:Nat->Nat->List V->St->Hp->Prop,(∃m,W 0 m [] (C6 Z d6 n) H1)/\∀i m ys Z H,W i m ys Z H ->
 (J.stop i H/\∀p,H p=none->Q (.ref p) (upd H p (.lst ys))) \/
 (J.go i H/\ys.length < sizeLine/\∀ x H',J.qx i H x H'->g x Z H' λcK H2=>tc cK H2 λb H3 =>
  if b=true then te cK H3 λy H4=>∃ m',m' < m/\W (i + 1) m' (ys ++ [y]) cK H4 else ∃ m',m' < m/\W (i + 1) m' ys cK H3)
noncomputable abbrev M6(aW:List Value)(n:Nat):Obj:={ cls:=.type "list",data:=.seq aW.toArray n }
section
variable{X:Cx}{pins:List (Addr×Obj)}{Z:St}{H:Hp}{s:Shared}
theorem Jx{elt tg iter:Expr}{ifs:List Expr}{scope:Scope}{N':List Str}{d6:List Nat}{cl:List (Str×Addr)}{pos:Pos}{it:Addr}{fp:List Addr}{tn:Nat->Heap->Prop}{J:It}{g:TG}{tc:TT}{te:TE}{xx:Addr->Shared->Hp->Value->Shared->Prop}{RR:Value->Addr->Result->Shared->Prop}{E:Value->Shared->Prop}{W:Nat->Nat->List V->St->Hp->Prop}{m0:Nat}{Q:VK}(S:dN X scope N' d6 cl)(hc:X.calm=true)(hg:∀C s H,PG (f6 X pins scope N' cl C s H fp) tg g)(ht:∀C s H,lB (f6 X pins scope N' cl C s H fp) ifs tc)(he:∀C s H,PE ((f6 X pins scope N' cl C s H fp).Z0 (xx C s H)) elt te)(I:Inv X pins Z H s)(T:Turn X.prog X.w X.K tg J fp it tn)(st:tn 0 s.heap)(hf:∀b∈fp,C8 X pins H b)(w0:W 0 m0 [] (C6 Z d6 N'.length) H)(turn:∀ i m ys Z H,W i m ys Z H->(J.stop i H/\∀ p,H p=none->Q (.ref p) (upd H p (.lst ys))) \/
   (J.go i H/\ys.length < sizeLine/\∀ x H',J.qx i H x H'->g x Z H' λcK H2=>tc cK H2 λb H3 =>
    if b=true then te cK H3 λy H4=>∃ m',m' < m/\W (i + 1) m' (ys ++ [y]) cK H4 else ∃ m',m' < m/\W (i + 1) m' ys cK H3))(AU:∀D C s' H' m,Inv X pins Z H' s'->Q (.ref D) H'->s'.heap.Ns C m->H' C=none->s.heap.objs.size<=C->RR (.ref D) C (.ok .next) s')(OS:∀D C e s',s.heap.objs.size<=C->xx C s H e s'->notedBy (model X.prog X.w) X.A (compEnvC scope (K1 scope cl C) C X.env) (λe s'=>RR (.ref D) C (.error e) s') e s') :
  wpAny (model X.prog X.w) X.A (newList []) (λacc ft=>wpAny (model X.prog X.w) X.A (newFunctionEnv scope X.env.globals cl [] X.env.qual none .none (some X.env)) (λlT jG =>
   lT.frame=X.env.frame/\codeAny (model X.prog X.w) X.A (.compStart (.ListComp elt [⟨tg,iter,ifs,0⟩] scope pos) 0 (.ref it) acc { lT with scope:=relabel scope X.env }) (RR acc lT.locals) jG) E ft) E s:=by
 refine bV (Kf λh₁ gN fP nD=>?_);dsimp only at gN fP nD ⊢;generalize rD:s.heap.push { cls:=.type "list",dict:=none,data:=.seq ([]:List Value).toArray }=H2 at gN fP nD ⊢;generalize eD:s.heap.objs.size=D at *;have hC:H2.objs.size=D+1:=by rw[<- rD,eV,eD]
 generalize eC:H2.objs.size=C at *;have vH:D≠C:=by omega
 have lt:∀b o,s.heap.get? b=some o->b<D:=λb o e=>by rw[<- eD];exact ax e
 have qU:D<=C:=by omega
 have pF:∀b o,s.heap.get? b=some o->b≠C:=λb o e=>aN (ay (lt b o e) qU);have mZ:∀b o,s.heap.get? b=some o->b≠D:=λb o e=>aN (lt b o e);have old:∀b o,s.heap.get? b=some o->h₁.get? b=some o:=λb o e=>fP b o (rD▸ao _ e);have jt:h₁.get? D=some (M6 [] 0):=fP _ _ (by rw[<- rD,<- eD];exact az _ rfl);have jh:∀b∈fp,∃o,s.heap.get? b=some o:=λb hb=>by
  obtain⟨o,e,_⟩:=T.obj _ _ st b hb;exact⟨o,e⟩
 have vG:D∉fp:=λhm=>by
  obtain⟨o,e⟩:=jh D hm;exact mZ D o e rfl
 have X1:Inv (f6 X pins scope N' cl C s H fp) [] (C6 Z d6 N'.length) H { s with heap:=h₁ } :=
  I.Jy S hc hf jh (by rw[eD];omega) ⟨_,gN⟩ old nD
 have uC:tn 0 h₁:=T.keep _ _ _ st λb _ o e=>old b o e;have Bq:∀{H':Hp},(∀b∈fp,H' b=none)->∀b∈fp,C8 (f6 X pins scope N' cl C s H fp) [] H' b:=λhn b hb=>by
  obtain⟨f0,f1,f2,f3,f4,f5⟩:=hf b hb;obtain⟨o,e⟩:=jh b hb;refine⟨hn b hb,?_,?_,.inl hb,λx c q=>(yR nD q).elim (λl z=>absurd (cM (z▸l) (ay (lt b o e) qU)) (bw _)) λq=>f4 x c (S.cin x c q),λp hp=>?_⟩
  ·exact pF b o e
  ·exact λz=>by
    rcases aI.mp (I.K8 b z) with z|z
    ·exact f1 z
    ·exact f2 z
  ·have jz:p∈X.pn++pins:=by simpa[f6] using hp
   exact f5 p jz
 have fD:∀{H':Hp},H' D=none->C8 (f6 X pins scope N' cl C s H fp) [] H' D:=λhn=>by
  refine⟨hn,vH,λz=>?_,.inr (by show s.heap.objs.size<=D;omega),λx c q=>?_,λp hp=>?_⟩
  ·exact absurd (I.wN (a:=D) (by omega)) λjK=>by
    rcases aI.mp (I.K8 D z) with z|z
    ·exact absurd I.lt (by rw[<- z,eD];exact bw _)
    ·exact jK z
  ·rcases yR nD q with l|q
   ·exact λz=>absurd (ay (z▸l) qU) (bw _)
   ·obtain⟨v,o,e,_⟩:=I.cell x c (S.cin x c q);exact mZ c o e
  ·have jz:p∈X.pn++pins:=by simpa[f6] using hp
   exact mZ _ _ (I.pin p jz).1
 have qP:∀{H':Hp} {s':Shared} {cq:St} {aW:List Value} {n:Nat},Inv (f6 X pins scope N' cl C s H fp) [] cq H' s'->H' D=none->s'.heap.get? D=some (M6 aW n) ->
   Inv (f6 X pins scope N' cl C s H fp) [(D,M6 aW n)] cq H' s':=λ{H' s' cq aW n} J0 hn e=>J0.K3 λp hp=>by
  have z:p=(D,M6 aW n):=by simpa using hp
  subst z;obtain⟨f0,f1,f2,_⟩:=fD hn;exact⟨e,f0,f1,f2,λv z=>nomatch z⟩
 have rS:∀{H':Hp} {aW:List Value} {n:Nat},(∀b∈fp,H' b=none)->∀b∈fp,C8 (f6 X pins scope N' cl C s H fp) [(D,M6 aW n)] H' b:=λ{H' aW n} hn b hb=>by
  obtain⟨f0,f1,f2,f3,f4,f5⟩:=Bq hn b hb;refine⟨f0,f1,f2,f3,f4,λp hp=>?_⟩;have jz:p∈(f6 X pins scope N' cl C s H fp).pn\/p=(D,M6 aW n):=by simpa using hp
  rcases jz with z|z
  ·exact f5 p (bD _ z)
  ·subst z;exact λz=>vG (by rw[show D=b from z];exact hb)
 have loop:∀ft:Shared,ft={ s with heap:=h₁ } ->
   codeAny (model X.prog X.w) X.A (.compLoop (.ListComp elt [⟨tg,iter,ifs,0⟩] scope pos) 0 (.ref it) (.ref D) (compEnvC scope (K1 scope cl C) C X.env)) (RR (.ref D) C) ft:=by
  rintro ft rfl;refine aE6 (λn s'=>∃ i ys cq H' aW nn,Inv (f6 X pins scope N' cl C s H fp) [] cq H' s'/\tn i s'.heap/\(∀ b ∈ fp,H' b=none)/\H' D=none/\Vals ys aW/\ys.length <= sizeLine /\
   s'.heap.get? D=some (M6 aW nn)/\W i n ys cq H') ?_ m0 ⟨0,[],_,H,[],0,X1,uC,λb hb=>(hf b hb).1,I.bZ.fresh (by omega),.nil,cJ _,jt,w0⟩
  rintro n s3 ⟨i,ys,iF,H3,aW,nn,I3,pA,pY,d3,v3,z3,o3,w3⟩;have wZ:=qP I3 d3 o3;rcases turn i n ys iF H3 w3 with⟨stop,q⟩|⟨go,hz,step⟩
  ·refine cP (T.done (f6 X pins scope N' cl C s H fp) rfl rfl rfl rfl i _ s3 _ H3 _ wZ (rS pY) pA stop) λr s4 ⟨hr,I4⟩=>?_;subst hr;have o4:=(I4.pin (D,M6 aW nn) (by simp)).1;have J4:Inv X pins Z H3 s4:=I.Ls hf I4;have Br:C8 X pins H3 D:=by
    refine⟨d3,bE (by rw[<- eD];exact I.lt),I.wN (by omega),.inr (by have:=I.sz;omega),λx c q=>?_,λp hp=>?_⟩
    ·obtain⟨v,o,e,_⟩:=I.cell x c q;exact mZ c o e
    ·exact mZ _ _ (I.pin p hp).1
   obtain⟨mC,Ay,_⟩:=I4.loc;exact AU D C s4 (upd H3 D (.lst ys)) mC (J4.Yt Br (by have:=I.sz;omega) v3 z3 o4) (q D d3) Ay (by rw[f9 vH.symm];exact I4.free) (by omega)
  ·refine cP (T.item (f6 X pins scope N' cl C s H fp) rfl rfl rfl rfl i _ s3 _ H3 _ wZ (rS pY) pA go) λr s4 ⟨u,hr,h4⟩=>?_;subst hr;refine cP h4 λ_ s5 bt=>?_;obtain⟨x,H5,I5,r5,y5,mR,vP⟩:=bt;have o5:=I5.pin (D,M6 aW nn) (by simp);have wY:=I5.pinned (rS vP) (T.obj _ _ mR);refine cP (hg C s H _ s5 _ H5 x u _ wY r5 (step x H5 y5)) λ_ s6 bt=>?_;obtain⟨lG,H6,I6,q6⟩:=bt;refine cP (ht C s H _ s6 lG H6 _ I6 q6) λok s7 ⟨H7,I7,q7⟩=>?_;have back:∀{uq:St} {H8:Hp} {s8:Shared},Inv (f6 X pins scope N' cl C s H fp) ([(D,M6 aW nn)]++X7 fp s5.heap) uq H8 s8->(∀b∈fp,H8 b=none)/\tn (i+1) s8.heap/\H8 D=none/\s8.heap.get? D=some (M6 aW nn) :=
    λ{uq H8 s8} I8=>by
     have pf:∀b∈fp,∀o,s5.heap.get? b=some o->s8.heap.get? b=some o/\H8 b=none:=λb hb o e=>by
      have:=I8.pin (b,o) (bq _ (bq _ (Q2 hb e)));exact⟨this.1,this.2.1⟩
     have pd:=I8.pin (D,M6 aW nn) (by simp);refine⟨λb hb=>?_,T.keep _ _ _ mR λb hb o e=>(pf b hb o e).1,pd.2.1,pd.1⟩;obtain⟨o,e,_⟩:=T.obj _ _ mR b hb;exact(pf b hb o e).2
   cases ok with
   |false =>
    obtain⟨m',hm,w7⟩:=q7;obtain⟨b1,b2,b3,b4⟩:=back I7;exact⟨m',hm,i+1,ys,lG,H7,aW,nn,I7.K3 λp hp=>absurd hp (by simp),b2,b1,b3,v3,z3,b4,w7⟩
   |true =>
    refine bI (he C s H _ s7 lG H7 _ (I7.Z0 _) q7) (λxv s8 bt=>?_) λe s' hx=>OS D C e s' (by omega) hx;obtain⟨y,H8,I8,r8,m',hm,w8⟩:=bt;have I8:=I8.BX;obtain⟨b1,b2,b3,b4⟩:=back I8;refine dW F.slot_list_append ⟨_,b4,rfl⟩ F.entry_list_append (F.args_list_append_2 _ _) (PySem.list_append D aW.toArray nn xv (by rw[aG];have:=v3.length;omega)) ⟨b4,?_⟩;have q:∃n',(s8.heap.update D (Obj.mapSeq (·.push xv))).get? D=some (M6 (aW++[xv]) n'):=by
     have q0:=PySem.IsL.update b4 (·.push xv);have e0:aW.toArray.push xv=(aW++[xv]).toArray:=by simp
     rw[e0] at q0;exact⟨_,q0⟩
    obtain⟨n',q⟩:=q;have ED:Inv (f6 X pins scope N' cl C s H fp) [] lG H8 s8:=I8.K3 λp hp=>absurd hp (by simp);obtain⟨f0,f1,f2,f3,f4,f5⟩:=fD (H':=H8) b3;have kp:∀b o,b≠D->s8.heap.get? b=some o->(s8.heap.update D (Obj.mapSeq (·.push xv))).get? b=some o:=λb' u hb hu=>(cO s8.heap (Obj.mapSeq (·.push xv)) (bT hb)).trans hu;refine⟨m',hm,i+1,ys++[y],lG,H8,aW++[xv],n',ED.turned (it:=D) (t':=s8.toks) kp f0 f1 f3 f4 f5,T.keep _ _ _ b2 λb hb o e=>kp b o (λz=>vG (by rw[<- z];exact hb)) e,b1,b3,v3.append (.cons r8 .nil),?_,q,w8⟩;rw[aY,iX];omega
 exact⟨rfl,codeAny_compStart_list (loop _ rfl) (T.self _ 0 _ _ _ uC (loop _ rfl))⟩
theorem Inv.Ig{C:Addr}{h':Heap}{s2:Shared}{H2:Hp}(I:Inv X pins Z H s)(hC:s2.heap.objs.size<=C)(I2:Inv X pins Z H2 s2)(hn:H C=none)(sb:Heap.SameBut C s.heap h'):Inv X pins Z H { s with heap:=h' }:=by
 have f:=I2.qg (b:=C) (H':=H) hC hn;obtain⟨f0,f1,f2,f3,f4,f5⟩:=f;exact I.turned (t':=s.toks) (λb o hb e=>sb.extBut b o hb e) f0 f1 f3 f4 f5
theorem JA{M:Model}{A:Around}{E:Value->Shared->Prop}{s:Shared}{a:Sem Value}{b:Sem Env}{P:Env->Prop}{Q:Value->Env->Shared->Prop}(h:wpAny M A a (λx s1=>wpAny M A b (λy s2=>P y/\Q x y s2) E s1) E s):wpAny M A a (λx s1=>wpAny M A b (λy s2=>Q x y s2) E s1) E s :=
 bI h (λ_ _ h=>bI h (λ_ _ h=>h.2) λ_ _ z=>z) λ_ _ z=>z
theorem KW{elt tg iter:Expr}{ifs:List Expr}{scope:Scope}{N':List Str}{d6:List Nat}{cl:List (Str×Addr)}{pos:Pos}{wi:TI}{g:TG}{tc:TT}{te:TE}(S:dN X scope N' d6 cl)(hc:X.calm=true)(hi:PI X tg iter wi)(hg:∀pins C s H fp,PG (f6 X pins scope N' cl C s H fp) tg g)(ht:∀pins C s H fp,lB (f6 X pins scope N' cl C s H fp) ifs tc)(he:∀pins C s H fp,PE (f6 X pins scope N' cl C s H fp) elt te)(hs:∀x,foldedSetIterable iter X.env x=pure x):PE X (.ListComp elt [⟨tg,iter,ifs,0⟩] scope pos) (DM wi d6 N'.length g tc te):=by
 intro pins s Z H Q I h;rw[eval_ListComp];refine iT (use:=none) rfl hs S.rX S.kind S.names (cP (hi pins s Z H _ I h) λxv cv h₁=>cP h₁ λve gZ jf=>?_);obtain⟨it,fp,tn,J,H2,e,I2,T,jZ,f2,W,⟨m0,w0⟩,turn⟩:=jf;subst e;refine JA (Jx (xx:=λ_ _ _ _ _=>False) (RR:=λacc C=>compPost (model X.prog X.w) X.A X.xe none (EP X pins Z Q) acc C) S hc (λC s H=>hg pins C s H fp) (λC s H=>ht pins C s H fp) (λC s H=>he pins C s H fp) I2 T jZ f2 w0 turn ?_ λ_ _ _ _ _ z=>z.elim);intro D C s' H' m I' q hn hC hsz;exact⟨m,hn,λh' sb=>⟨.ref D,H',I'.Ig hsz I2 hC sb,rfl,q⟩⟩
theorem aG7{elt tg iter:Expr}{ifs:List Expr}{scope:Scope}{N':List Str}{d6:List Nat}{cl:List (Str×Addr)}{pos uD px:Pos}{wi:TI}{g:TG}{tc:TT}{te:TE}{i:Nat}{x:Str}(S:dN X scope N' d6 cl)(hc:X.calm=true)(hi:PI X tg iter wi)(hg:∀pins C s H fp,PG (f6 X pins scope N' cl C s H fp) tg g)(ht:∀pins C s H fp,lB (f6 X pins scope N' cl C s H fp) ifs tc)(he:∀pins C s H fp,PE (f6 X pins scope N' cl C s H fp) elt te)(hs:∀x,foldedSetIterable iter X.env x=pure x)(hN:X.N.Nodup)(pP:X.N[i]?=some x)(hx:Loc X.env.scope x)(hf:X.fn x=true\/X.env.scope.names.lookup x=some .local) :
  PS X (.Assign [.Name x px] (.ListComp elt [⟨tg,iter,ifs,0⟩] scope pos) uD) (wm (DM wi d6 N'.length g tc te) (tW i)):=by
 intro pins s Z H D I h;have xH:∃b,swapsWith (.ListComp elt [⟨tg,iter,ifs,0⟩] scope pos) (some (.Name x px)) uD.line X.env=pure b:=⟨_,rfl⟩
 obtain⟨b,xH⟩:=xH;cases b with
 |false=>exact Kr hN pP hx (KW S hc hi hg ht he hs) xH hf pins s Z H D I h
 |true =>
  rw[exec_Assign_Name_used _ _ _ _ xH];refine ae (eE (ae ?_));show wpAny _ X.A (do let _ <- comprehension (.ListComp elt [⟨tg,iter,ifs,0⟩] scope pos) scope X.env _ (newList []) false (eval iter X.env) (some (assign (.Name x px) X.env))) _ _ s;refine ae (bI (iT (use:=some (assign (.Name x px) X.env)) (Q:=λ_ s'=>SP X pins D .next s') rfl hs S.rX S.kind S.names
   (cP (hi pins s Z H _ I h) λxv cv h₁=>cP h₁ λve gZ jf=>?_)) (λ_ s' hq=>au (au hq)) λ_ _ e=>e)
  obtain⟨it,fp,tn,J,H2,e,I2,T,jZ,f2,W,⟨m0,w0⟩,turn⟩:=jf;subst e;refine JA (Jx (xx:=λ_ _ _ _ _=>False) (Q:=λv H1=>tW i v Z H1 D.nx) (RR:=λacc C=>compPost (model X.prog X.w) X.A X.xe (some (assign (.Name x px) X.env)) (λ_ s'=>SP X pins D .next s') acc C) S hc (λC s H=>hg pins C s H fp) (λC s H=>ht pins C s H fp) (λC s H=>he pins C s H fp) I2 T jZ f2 w0 turn ?_ λ_ _ _ _ _ z=>z.elim);intro Dl C s' H' m I' q hn hC hsz;show wpAny _ X.A (assign (.Name x px) X.env (.ref Dl)) _ _ _;refine wpAny_assign_Name (Jo I' hN pP hx (v:=.ref Dl) rfl (λs3 I3 ⟨a,sb,ha⟩=>?_) hf);have OX:C≠a:=by
   obtain⟨f0,f1,f2,f3,f4,f5⟩:=I2.qg (b:=C) (H':=H') hsz hC;rcases ha with z|z
   ·rw[z];exact f1
   ·exact λz'=>f4 _ _ z z'.symm
  obtain⟨f0,f1,f2,f3,f4,f5⟩:=I2.qg (b:=C) (H':=H') hsz hC;refine⟨m,hn.sameBut sb OX,λh3 MX=>⟨_,H',I3.turned (t':=s3.toks) (λb o hb e=>MX.extBut b o hb e) f0 f1 f3 f4 f5,q⟩⟩
end
end L2

namespace HT
open PySem PyProof.Rows
section
variable{prog:Program}{w:World}{A:Around}{E:Value->Shared->Prop}{s:Shared}
theorem Vg{t b:Addr}{ws:List Value}{Q:Value->Shared->Prop}(ht:IsTup s.heap t #[])(hb:IsTup s.heap b ws.toArray)(h1:Q (.ref b) s):wpAny (model prog w) A (binaryOp .Add (.ref t) (.ref b)) Q E s:=by
 obtain⟨⟨cls,dd,data,sl⟩,ho,hc,n,hd⟩:=id ht;obtain⟨⟨wg,qc,data2,mT⟩,kM,nE,n2,hd2⟩:=id hb;simp only at hc hd nE hd2;subst hc hd nE hd2;exact concat_meets ⟨_,ho,rfl⟩ ⟨_,kM,rfl⟩ jq lW iA ia (gW _ _)
   (tuple_addW0 t b #[] ws.toArray n n2 dd qc sl mT rfl) ⟨ho,kM,h1⟩
theorem Zo{t sl:Addr}{items:Array Value}{vl vu:Value}{lo hi:Option Int}{Q:Value->Shared->Prop}(ht:IsTup s.heap t items)(hs:s.heap.IsSliceOf sl vl vu .none)(pl:IsPart vl lo)(pu:IsPart vu hi)(hw:dQ items.size 0 lo=0/\dQ items.size items.size hi=items.size)(h:Q (.ref t) s):wpAny (model prog w) A (getItem (.ref t) (.ref sl)) Q E s:=by
 obtain⟨os,qZ,xQ,vt⟩:=id hs;have AO:s.TypeIs (.ref sl) "slice":=⟨os,qZ,xQ⟩
 unfold getItem
 try with_reducible refine bP ?_
 first|refine ae (au ?_)|skip
 refine ae (wpAny_sequenceKey ht.typeIs (by decide) ?_);refine ae (fC (name:=Str.ofString "__getitem__") ht.typeIs bS
  (cz bS ht.typeIs entry_tuple_getitem ?_ (args_tuple_getitem _ _)))
 show wpAny _ _ (Builtin.Tuple.tupleItemsOf (.ref t) >>= _) _ _ s;refine ae (tupleItemsOf_ ht ?_);refine ae (dM AO ?_);rw[aK (by decide)];refine ae (R9 hs pl pu ?_);have Ae:((((dQ items.size 0 lo:Nat):Int)==0&&(1:Int)==1&&(dQ items.size items.size hi-dQ items.size 0 lo)==items.size)=true):=by
  rw[hw.1,hw.2];simp
 show wpAny _ _ (if(((dQ items.size 0 lo:Nat):Int)==0&&(1:Int)==1&&(dQ items.size items.size hi-dQ items.size 0 lo)==items.size)=true then _ else _) _ _ s;rw[aK Ae];obtain⟨o,ho,hc,_⟩:=id ht;unfold Builtin.Tuple.tupleIsExact;refine ae (ae (dM ht.typeIs (au ?_)));rw[aK (by decide)]
 first
  |exact wpAny_bind (wpAny_rule (wpAny_bind (wpAny_pure ⟨_,rfl,wpAny_pure h⟩)))
  |exact wpAny_bind (wpAny_rule (wpAny_pure ⟨_,rfl,wpAny_pure h⟩))
  |exact wpAny_bind (wpAny_rule (wpAny_bind (wpAny_pure (wpAny_pure ⟨_,rfl,wpAny_pure h⟩))))
end
end HT
namespace L2
open PySem PySem.Spec PyProof.Rows
section
variable{X:Cx}
def RH(K:PySem.W.Frag):R2:=λx y H Q=>∃a b xs ys,x=.ref a/\y=.ref b/\ip K H a xs/\ip K H b ys/\xs.length+ys.length<=sizeLine /\
 (xs=[]->Q (.ref b) H)/\(ys=[]->Q (.ref a) H)/\(∀p,H p=none->Q (.ref p) (upd H p (.tup (xs++ys))))
theorem a78:fK X (binaryOp .Add) (RH X.K):=by
 intro pins s Z H x y v u Q I rx ry h;obtain⟨a,b,xs,ys,rfl,rfl,ha,hb,hz,q0,q1,q2⟩:=h;by_cases hx:xs=[]
 ·subst hx;cases rx;cases ry;obtain⟨aW,r1,p1,_⟩:=I.tuple ha;obtain⟨nj,r2,p2,_⟩:=I.tuple hb;cases r1;exact HT.Vg p1 p2 ⟨.ref b,H,I,rfl,q0 rfl⟩
 ·exact TM pins s Z H _ _ v u Q I rx ry ⟨a,b,xs,ys,rfl,rfl,ha,hb,hx,hz,q1,λ_=>q2⟩
def Ya(K:PySem.W.Frag):V->Option Int->Option Int->Hp->VK->Prop:=λx lo hi H Q=>∃a xs,x=.ref a/\ip K H a xs /\
 (U2 xs lo hi=xs->Q (.ref a) H)/\∀p,H p=none->Q (.ref p) (upd H p (.tup (U2 xs lo hi)))
theorem UN:wR X (Ya X.K):=by
 intro pins s Z H x v vl vu lo hi sl Q I rx hs pl pu h;obtain⟨a,xs,rfl,hx,q0,q⟩:=h;by_cases hw:HT.dQ xs.length 0 lo=0/\HT.dQ xs.length xs.length hi=xs.length
 ·cases rx;obtain⟨aW,r,ht,hz⟩:=I.tuple hx;have hlen:aW.toArray.size=xs.length:=by rw[aG];exact r.length.symm
  refine⟨"tuple",_,bS.lookup,ht.typeIs,?_⟩;exact HT.Zo ht hs pl pu (by rw[hlen];exact hw) ⟨.ref a,H,I,rfl,q0 (by unfold U2;rw[hw.1,hw.2];simp)⟩
 ·exact Se pins s Z H _ v vl vu lo hi sl Q I rx hs pl pu ⟨a,xs,rfl,hx,hw,q⟩
theorem aH7:l6 X (.builtin "isinstance") (λxs H Q=>∃x t c b,xs=[x,.ty c]/\hU X.K H x t/\PySem.W.kitOne X.K t (.type c)=some b/\Q (.bl b) H):=by
 intro pins s Z H xs us Q I r h;obtain⟨x,t,c,b,rfl,hT,hk,q⟩:=h;obtain⟨u,w',rfl,ru,fJ⟩:=vals2 r;cases (show w'=Value.type c from fJ);exact Zw I ru hT hk λtk=>⟨.bl b,H,I.tok tk,rfl,q⟩
theorem a16(hc:X.calm=true):l6 X (.builtin "all") (λxs H Q=>∃(a:Addr) (bs:List Bool),xs=[.ref a]/\fG X.K H a (bs.map V.bl)/\Q (.bl (bs.all id)) H):=by
 intro pins s Z H xs us Q I r h;obtain⟨a,bs,rfl,ha,q⟩:=h;obtain⟨u,rfl,ru⟩:=vals1 r;cases ru;obtain⟨aW,rv,p,hz⟩:=I.list ha;refine call_all_walk ?_;refine fL p.isList ?_;have dF:a≠s.heap.objs.size:=by
  obtain⟨o,e,_⟩:=id p.isList;exact aN (ax e)
 have hl:=rv.length;rw[ag] at hl;refine⟨s.heap.objs.size,_,_,_,_,_,λi=>bs.getD i true,rfl,zo (A:=X.A.in1) (I.ok.hd hc) _ a dF aW.toArray,⟨⟨_,az _ rfl,rfl,rfl⟩,?_⟩,?_,λh' tk k=>?_⟩
 ·obtain⟨o,e,q1⟩:=id p.isList;exact⟨o,ao _ e,q1⟩
 ·intro i v s' Q' E' hP hQ;have hv:aW[i]?=some v:=by simpa using hP
  have hi:i<bs.length:=by rw[hl];exact(aj.mp hv).1
  obtain⟨u',pK,uH⟩:=rv.get (i:=i) (x:=V.bl bs[i]) (by rw[ai,ah hi];rfl);rw[hv] at pK;cases pK;cases (show v=Value.bool bs[i] from uH);refine cH ?_;have:bs.getD i true=bs[i]:=by simp[List.getD,hi]
  dsimp only at hQ;rw[this] at hQ;exact hQ
 ·have e1:(List.range aW.toArray.size).all (λi=>bs.getD i true)=bs.all id:=by
   rw[aG,<- hl];rw[bc];simp only[List.all_eq_true,List.mem_range,id];constructor
   ·intro hh x hx;obtain⟨i,hi,rfl⟩:=cS.mp hx;have:=hh i hi;simpa[List.getD,hi] using this
   ·intro hh i hi;have:=hh bs[i] (cc hi);simpa[List.getD,hi] using this
  rw[e1];exact ⟨.bl (bs.all id),H,I.kept (t':=tk) λb o e=>k b o (by
   intro hb;have:b=s.heap.objs.size:=by simpa using hb
   exact absurd (ax e) (by rw [this];exact bw _)) (ao _ e),rfl,q⟩
end
end L2

namespace HT
open PySem PyProof.Rows
section
variable{prog:Program}{w:World}{A:Around}{E:Value->Shared->Prop}{s:Shared}
end
end HT
namespace L2
open PySem PySem.Spec PyProof.Rows
section
variable{X:Cx}{e st:Expr}{te ts:TE}{pos p2:Pos}
end
end L2

namespace L2
open PySem PySem.Spec PyProof.Rows
theorem m8.get{P:Program}{w:World}{H:Hp}{h:Heap}{a:Addr}:∀{o:HO},m8 P w H h a o->∃ob,h.get? a=some ob
 |.lst _,x=>by obtain⟨_,_,_,_,e⟩:=x;exact⟨_,e⟩
 |.tup _,x=>by obtain⟨_,_,_,o,e,_⟩:=x;exact⟨o,e⟩
 |.dK _,x=>by obtain⟨_,_,_,_,o,es,ep,e,_⟩:=x;exact⟨o,e⟩
 |.dT _,x=>by obtain⟨_,_,_,_,o,es,ep,e,_⟩:=x;exact⟨o,e⟩
 |.set _ _,x=>by obtain⟨o,es,ep,t,e,_⟩:=x;exact⟨o,e⟩
 |.ins _ _ _,x=>by obtain⟨_,_,_,e,_⟩:=x;exact⟨_,e⟩
 |.own _,x=>x
 |.xd _,x=>by obtain⟨mA,n,_⟩:=x;obtain⟨od,e,_⟩:=Jg n;exact⟨od,e⟩
 |.ml _ _,x=>by obtain⟨_,_,_,e⟩:=x;exact⟨_,e⟩
 |.jL _ _,x=>⟨_,x.1⟩
 |.pq _,x=>⟨_,x⟩
 |.met _ _,x=>⟨_,x⟩
 |.ext _,x=>x.2.1
def Dv(H':Hp)(h0:Heap)(l:List Env)(e:Value)(C:Addr)(h:Heap):Prop :=
 ∃(ea:Addr) (a0:Value) (B:Heap),e=.ref ea/\Heap.FlyingW B l ea (.ref C) a0 h/\∀b o,h.get? b=some o->b∉hZ l->(H' b≠none\/∃o0,h0.get? b=some o0)->B.get? b=some o
def jv(P:Program)(w:World):nQ:=λouter H s E e s'=>∃(C:Addr) (H':Hp),s'.os=s.os/\AllBare s'.gens/\Un (hZ outer) [] H H' s.heap s'.heap/\gH P w H' s'.heap/\Dv H' s.heap outer e C s'.heap/\E (.ref C) none H'
section
variable{X:Cx}{pins:List (Addr×Obj)}{Z:St}{H:Hp}{s s':Shared}{E:XK}{e:Value}
theorem Inv.flew(I:Inv X pins Z H s)(h:jv X.prog X.w X.stack H s E e s'):∃C H',Inv X pins Z H' s'/\Dv H' s.heap X.stack e C s'.heap/\E (.ref C) none H':=by
 obtain⟨C,H',ho,hb,hu,bZ,fl,hE⟩:=h;exact⟨C,H',I.Dz (ch:=[]) ho hu bZ hb (by simp),fl,hE⟩
theorem CI(I:Inv X pins Z H s){b:Addr}(hb:b∈hZ X.stack):∃o,s.heap.get? b=some o/\∀vs,o.data≠.fields vs:=(I.stack.mem hb).2
theorem DD{nZ:Heap}{B:Heap}{ea C:Addr}{a0:Value}(I:Inv X pins Z H s)(fc:X.stack=X.env::X.outer)(hex:X.ex=[])(hf:X.env.frame=some X.env.locals)(vf:∀b o,s.heap.get? b=some o->b∉hZ X.stack->(H b≠none\/∃o0,X.dC.heap.get? b=some o0)->B.get? b=some o)(sl:∀b∈hZ X.stack,∀o,s.heap.get? b=some o->∃sl,nZ.get? b=some { o with slots:=sl })(fw:Heap.FlyingW B X.outer ea (.ref C) a0 nZ)(hE:E (.ref C) none H):jv X.prog X.w X.outer X.ju X.dC E (.ref ea) { s with heap:=nZ }:=by
 have Al:∀b,b∈hZ X.outer->b∈hZ X.stack:=λb hb=>by rw[fc];unfold hZ at hb ⊢;rw[eQ,hf];exact bW _ hb
 have uQ:∀b o,X.dC.heap.get? b=some o->b∉hZ X.outer->b∉hZ X.stack:=λb o e hb z=>by
  rcases aI.mp (I.K8 b z) with z|z
  ·exact absurd (ax e) (by rw[z];exact jV.mpr I.ok.above)
  ·exact hb z
 have qy:∀b u,H b=some u->b∉hZ X.stack:=λb u e z=>by rw[I.Cz b z] at e;cases e
 have kept:∀b o,s.heap.get? b=some o->b∉hZ X.stack->(H b≠none\/∃o0,X.dC.heap.get? b=some o0)->nZ.get? b=some o:=λb o e n q=>fw.1 b o (vf b o e n q);have uS:∀b,b∉X.ex:=λb=>by rw[hex];simp
 refine⟨C,H,I.os,I.bare,⟨?_,?_,?_,?_,I.base.iZ,I.base.iL,I.base.ja⟩,?_,⟨ea,a0,B,rfl,fw,?_⟩,hE⟩
 ·exact λb o e n1 n2 _=>kept b o (I.base.keep b o e n1 n2 (uS b)) (uQ b o e n2) (.inr ⟨o,e⟩)
 ·intro b o e n1 n2 _;obtain⟨sl1,e1⟩:=I.base.slot b o e n1 n2 (uS b);obtain⟨mT,e2⟩:=sl b (Al b n2) _ e1;exact⟨mT,e2⟩
 ·exact λb o e n1 _=>I.base.free b o e n1 (uS b)
 ·intro b o e _;obtain⟨o1,e1⟩:=I.base.there b o e (uS b);by_cases hb:b∈hZ X.stack
  ·obtain⟨mT,e2⟩:=sl b hb _ e1;exact⟨_,e2⟩
  ·exact⟨o1,kept b o1 e1 hb (.inr ⟨o,e⟩)⟩
 ·intro a o e;exact (I.bZ a o e).Z3 (λb u hb q=>by
   have lp:∃v,H b=some v:=by
    rcases hb with rfl|hb
    ·exact⟨o,e⟩
    ·exact⟨_,hb⟩
   obtain⟨v,hv⟩:=lp;exact kept b u q (qy b v hv) (.inl (by rw [hv];simp))) (λb hb=>hb) (λb xs hb=>hb)
 ·intro b o e n q;rcases q with q|⟨o0,q⟩
  ·obtain⟨v,hv⟩:=Option.ne_none_iff_exists'.mp q;obtain⟨o1,e1⟩:=(I.bZ b v hv).get;have z:=vf b o1 e1 (qy b v hv) (.inl (by rw[hv];simp));have z':=fw.1 b o1 z;have:o=o1:=by
    have e':nZ.get? b=some o:=e;rw[z'] at e';exact(aO e').symm
   subst this;exact z
  ·obtain⟨o1,e1⟩:=I.base.there b o0 q (uS b);have z:=vf b o1 e1 (uQ b o0 q n) (.inr ⟨o0,q⟩);have z':=fw.1 b o1 z;have:o=o1:=by
    have e':nZ.get? b=some o:=e;rw[z'] at e';exact(aO e').symm
   subst this;exact z
theorem aC7{h0:Heap}{C:Addr}{Ex:Value->Shared->Prop}(I:Inv X pins Z H s)(fl:Dv H h0 X.stack e C s.heap)(Pq:∀b o,X.dC.heap.get? b=some o->∃o',h0.get? b=some o')(fc:X.stack=X.env::X.outer)(hex:X.ex=[])(hf:X.env.frame=some X.env.locals)(hE:E (.ref C) none H):wpAny (model X.prog X.w) X.A (leaving X.env e) (λ_ ot=>jv X.prog X.w X.outer X.ju X.dC E e ot) Ex s:=by
 obtain⟨ea,a0,B,rfl,fw,hB⟩:=fl;have fw0:=fw;rw[fc] at fw;refine wpAny_leaves_onW (by rw[I.ok.frames,fc]) hf fw λnZ PL us=>?_;refine DD I fc hex hf (λb o e n q=>hB b o e n (q.imp id λ⟨o0,q⟩=>Pq b o0 q)) (λb hb o e=>?_) PL hE;obtain⟨o1,e1,nf⟩:=CI I hb;rw[e] at e1;cases e1;exact us b o e nf
theorem aP6{h':Heap}{ea C:Addr}{vs:List Value}{Ex:Value->Shared->Prop}(I:Inv X pins Z H s)(hx:Heap.MadeExcOf s.heap h' ea (.ref C) vs)(fc:X.stack=X.env::X.outer)(hex:X.ex=[])(hf:X.env.frame=some X.env.locals)(hE:E (.ref C) none H):wpAny (model X.prog X.w) X.A (leaving X.env (.ref ea)) (λ_ ot=>jv X.prog X.w X.outer X.ju X.dC E (.ref ea) ot) Ex { s with heap:=h' }:=by
 have tu:=I.stack;rw[fc] at tu;have jT:∀env∈(X.env::X.outer),∀b,env.frame=some b->b∈hZ X.stack:=λenv he b hb=>by rw[fc];exact jW.mpr ⟨env,he,hb⟩
 refine wpAny_leaves_madeW (s:={ s with heap:=h' }) (base:=PySem.W.hideAll s.heap (hZ X.stack)) (h:=s.heap) (by rw[I.ok.frames,fc]) hf (λb o q=>Mq _ q) (PySem.W.funFrames_hide tu jT) hx λnZ t fw _ _ us=>?_;refine(show jv X.prog X.w X.outer X.ju X.dC E (.ref ea) { s with heap:=nZ } from DD I fc hex hf (λb o e n _=>EL _ e n) (λb hb o e=>?_) fw hE);obtain⟨o1,e1,nf⟩:=CI I hb;rw[e] at e1;cases e1;exact us b o (hx.keeps b o e) nf
section
variable{s':Shared}
structure Lies(X:Cx)(H H':Hp)(s:Shared)(B:Heap)(ea C:Addr)(a0:Value)(s':Shared):Prop where
 os:s'.os=s.os
 bare:AllBare s'.gens
 un:Un (hZ X.stack) [] H H' s.heap s'.heap
 bZ:gH X.prog X.w H' s'.heap
 vf:∀b o,s'.heap.get? b=some o->b∉hZ X.stack->(H' b≠none\/∃o0,s.heap.get? b=some o0)->B.get? b=some o
theorem Lies.inv{H':Hp}{B:Heap}{ea C:Addr}{a0:Value}(I:Inv X pins Z H s)(l:Lies X H H' s B ea C a0 s'):Inv X pins Z H' s':=I.Dz (ch:=[]) l.os l.un l.bZ l.bare (by simp)
theorem leave_held{H':Hp}{B:Heap}{ea C:Addr}{a0:Value}{Ex:Value->Shared->Prop}(I:Inv X pins Z H s)(l:Lies X H H' s B ea C a0 s')(hh:Heap.HeldW B X.stack ea (.ref C) a0 X.env.locals s'.heap)(fc:X.stack=X.env::X.outer)(hex:X.ex=[])(hf:X.env.frame=some X.env.locals)(hE:E (.ref C) none H'):wpAny (model X.prog X.w) X.A (leaving X.env (.ref ea)) (λ_ ot=>jv X.prog X.w X.outer X.ju X.dC E (.ref ea) ot) Ex s':=by
 have J:=l.inv I;have AD:=hh;rw[fc] at AD;unfold leaving;refine ae (wpAny_noteFrame_againW hf AD.2.2.2 ?_);refine wpAny_landsW AD λnZ fl us=>?_;obtain⟨k1,k2,⟨_,_,k3⟩,k4⟩:=fl;refine DD J fc hex hf (λb o e n q=>l.vf b o e n (q.imp id λ⟨o0,q⟩=>I.base.there b o0 q (by rw[hex];simp))) (λb hb o e=>?_) ⟨k1,k2,k3,k4⟩ hE;obtain⟨o1,e1,nf⟩:=CI J hb;rw[e] at e1;cases e1;exact us b o e nf
end
def yC(X:Cx)(Ξ:XK):Prop:=∀(pins:List (Addr×Obj)) (Z:St) (H:Hp) (s:Shared) (h':Heap) (ea C:Addr) (vs:List Value),Inv X pins Z H s->Heap.MadeExcOf s.heap h' ea (.ref C) vs->Ξ (.ref C) none H->X.xe (.ref ea) { s with heap:=h' }
def LV(X:Cx)(Ξ:XK):Prop:=∀(pins:List (Addr×Obj)) (Z:St) (H H':Hp) (s s':Shared) (B:Heap) (ea C:Addr) (a0:Value),Inv X pins Z H s->Lies X H H' s B ea C a0 s'->Heap.HeldW B X.stack ea (.ref C) a0 X.env.locals s'.heap->Ξ (.ref C) none H'->X.xe (.ref ea) s'
def Sz(C:Addr)(Ξ:XK)(t:TA):TS:=λ_ Z H=>t Z H λvs H1=>vs.length<=sizeLine/\Ξ (.ref C) none H1
theorem a65{x:Str}{C:Addr}{B newId gM:String}{bm:List Value}{np eA pos:Pos}{jM:Expr}{rest:List Expr}{t:TA}{Ξ:XK}(hc:X.calm=true)(O:OwnCls x C bm newId X.mg X.base)(FB:ExcBaseFacts B newId gM bm)(hg:Gl X x)(ha:PA X (jM::rest) t)(hr:yC X Ξ)(he:starEach (jM::rest) X.env=(false,eval jM X.env)::starEach rest X.env)(eY:(backTo eA (starEach rest X.env)).any (·.1)=false)(hd:(x==("__debug__":Str))=false) :
  PS X (.Raise (some (.Call (.Name x np) (jM::rest) [] eA)) none pos) (Sz C Ξ t):=by
 intro pins s Z H D I h;obtain⟨tl,N,nm,q,bs,hdct,sn,sub,ab,col,dd,k0,k1,k2,k3,k5,mN,hC,hN,xJ,T⟩:=O.obj;refine wpAny_Raise_call_subT (C:=C) (nm:=nm) (q:=q) (N:=N) (bs:=bs) (bm:=tl) (hdct:=hdct) (sn:=sn) (sub:=sub) (ab:=ab) (col:=col) (dd:=dd) (k0:=k0) (k1:=k1) (k2:=k2) (k3:=k3) (k5:=k5)
  FB (mN:=mN) (T.hasType FB.hasBase) (I.ok.hd hc) (by rw[he];show(false||(backTo eA (starEach rest X.env)).any (·.1))=false;rw[eY];rfl) xJ (Y1 I hg O.bound ⟨rfl,?_⟩ hd)
 have h':=ha eA pins s Z H _ I h;rw[he] at h' ⊢;refine gE (bI h' (λvs gZ jf=>?_) λ_ _ y=>y);obtain⟨ws,H1,I1,rv,hz,hE⟩:=jf;exact⟨rfl,by rw[<- rv.length];exact hz,I1.bk _ _ hC,hN.keeps I1.bk,T.keeps I1.bk,λh2 ea hm=>hr pins Z H1 gZ h2 ea C vs I1 hm hE⟩
end
end L2

namespace L2
open PySem PySem.Spec PyProof.Rows
section
variable{X:Cx}{pins:List (Addr×Obj)}{Z:St}{H H':Hp}{s s':Shared}{e:Value}{D:Ends}
end
end L2

namespace L2
open PySem PySem.Spec PyProof.Rows
section
variable{M:Model}{A:Around}{E:Value->Shared->Prop}{env:Env}{s:Shared}
end
end L2

namespace L2
open PySem PySem.Spec PyProof.Rows
section
variable{X:Cx}{pins:List (Addr×Obj)}{Z:St}{H H':Hp}{s s':Shared}
end
end L2

namespace L2
open PySem PySem.Spec PyProof.Rows
def EC(K:PySem.W.Frag)(a:Addr):It :=
 ⟨λi H=>∃xs x,fG K H a xs/\xs[i]?=some x,λi H v H'=>∃p x,H p=none/\v=.ref p/\(∀xs,fG K H a xs->xs[i]?=some x)/\H'=upd H p (.tup [.int i,x]),λi H=>∃xs,fG K H a xs/\xs.length<=i⟩
theorem aT3{P:Program}{w:World}{K:PySem.W.Frag}{elts:List Expr}{x1:Nat}{tp:Pos}(a e it:Addr)(Gv:e≠it):Turn P w K (.Tuple elts x1 tp) (EC K a) [e,it] e (λi h=>(∃old,IsEnum h e it i old)/\h.IsListIter it a i) where
 mem:=by simp
 obj:=λi h st b hb=>by
  obtain⟨⟨old,h1⟩,o,h2,c,d⟩:=st;rcases aI.mp hb with z|z
  ·subst z;exact ⟨_,h1,λv z=>by
    have z':Data.fields _=Data.cell v:=z;cases z'⟩
  ·have z:b=it:=by simpa using z
   subst z;exact⟨o,h2,λv z=>by rw[d] at z;cases z⟩
 keep:=λi h h' st k=>by
  obtain⟨⟨old,h1⟩,h2⟩:=st;exact⟨⟨old,k e (by simp) _ h1⟩,h2.at λo x=>k it (by simp) o x⟩
 item:=by
  intro X hP hw hK hc i pins s Z H E I hf st hg;subst hP hw hK;obtain⟨⟨old,h1⟩,h2⟩:=st;obtain⟨xs,x,hq,hx⟩:=hg;obtain⟨aW,rv,p,hz⟩:=I.list hq;obtain⟨u,hu,ru⟩:=rv.get hx;obtain⟨e0,e1,e2,e3,e4,e5⟩:=hf e (by simp);obtain⟨f0,f1,f2,f3,f4,f5⟩:=hf it (by simp);refine wpAny_pyNext_enum_item h1 h2 p.isList (x:=u) (by simpa using hu) Gv λh' pQ AB vh FL nW=>?_;refine⟨_,rfl,wpAny_letOwnedTupleGo_enum pQ λvL OC jm=>?_⟩;have jm:Heap.SameBut e h' vL:=jm;have elt:e<s.heap.objs.size:=ax h1;have kp:∀b o,b≠e->b≠it->s.heap.get? b=some o->vL.get? b=some o:=λb o b1 b2 q=>(jm.2 b b1).trans (nW b o b1 b2 q);have hn:H s.heap.objs.size=none:=I.bZ.fresh (av _);have zI:vL.get? s.heap.objs.size=some { cls:=.type "tuple",data:=.seq #[.int i s.toks,u] }:=(jm.2 _ (bE elt)).trans vh;have ne:∀b u',H b=some u'->b≠e/\b≠it:=λb u' q=>And.intro (λ(z:b=e)=>by rw[z,e0] at q;cases q) (λ(z:b=it)=>by rw[z,f0] at q;cases q);have bZ:gH X.prog X.w (upd H s.heap.objs.size (.tup [.int i,x])) vL:=λb o q=>by
   by_cases hb:b=s.heap.objs.size
   ·subst hb;rw[u3] at q;cases q;exact⟨by show 2<=sizeLine;decide,[.int i s.toks,u],.cons ⟨_,rfl⟩ (.cons ru .nil),_,zI,rfl,⟨_,rfl⟩,rfl⟩
   ·rw[f9 hb] at q;refine(I.bZ b o q).Z3 (λc v hc q'=>?_) (λc q'=>by rw[f9 (m7 q' hn)];exact q') λc ys q'=>by rw[f9 (m7 q' hn)];exact q'
    rcases hc with z|z
    ·subst z;exact kp _ _ (ne _ _ q).1 (ne _ _ q).2 q'
    ·exact kp _ _ (ne _ _ z).1 (ne _ _ z).2 q'
  have I2:Inv X pins Z (upd H s.heap.objs.size (.tup [.int i,x])) { s with heap:=vL,toks:=s.toks+1 }:=by
   refine I.step (g':=s.gens) (d':=s.drawn) (t':=s.toks+1) (ch:=[e,it]) (λb hb=>?_) (λb o _ _ hb q _=>kp b o (λz=>hb (by simp[z])) (λz=>hb (by simp[z])) q) (λb o _ _ hb q _=>⟨o.slots,kp b o (λz=>hb (by simp[z])) (λz=>hb (by simp[z])) q⟩)
    (λb o _ q n=>by rw[f9 (aN (ax q))];exact n) (λb o hb q=>⟨o,kp b o (λz=>hb (by simp[z])) (λz=>hb (by simp[z])) q⟩)
    (λb ys q=>by rw[f9 (m7 q hn)];exact q) (λb o' ys q=>by rw[f9 (m7 q hn)];exact q) (λb ps q=>⟨#[],by rw[f9 (m7 q hn),q];simp⟩) (λm hm=>?_) bZ I.bare
   ·rcases aI.mp hb with z|z
    ·subst z;exact⟨e3,e1,e4,e5⟩
    ·have z:b=it:=by simpa using z
     subst z;exact⟨f3,f1,f4,f5⟩
   ·obtain⟨o,es,ep,ho,r⟩:=hm;exact⟨o,es,ep,kp _ o (bT e1) (bT f1) ho,r⟩
  refine⟨.ref s.heap.objs.size,_,I2,rfl,⟨s.heap.objs.size,x,hn,rfl,λys hy=>by rw[I.CL hy hq];exact hx,rfl⟩,⟨⟨u,by simpa using OC⟩,AB.at λo y=>(jm.2 it Gv.symm).trans y⟩,λb hb=>?_⟩;have lp:b<s.heap.objs.size:=by
   rcases aI.mp hb with z|z
   ·subst z;exact elt
   ·have z:b=it:=by simpa using z
    subst z;obtain⟨o,h2,_⟩:=h2;exact ax h2
  rw[f9 (aN lp)];exact(hf b hb).1
 done:=by
  intro X hP hw hK hc i pins s Z H E I hf st hg;subst hP hw hK;obtain⟨⟨old,h1⟩,h2⟩:=st;obtain⟨xs,hq,hx⟩:=hg;obtain⟨aW,rv,p,hz⟩:=I.list hq;obtain⟨f0,f1,f2,f3,f4,f5⟩:=hf it (by simp);have hl:=rv.length;exact wpAny_pyNext_enum_end (I.ok.hd hc) h1 h2 p.isList (by simp;omega) λh' eb=>⟨rfl,I.turned (t':=s.toks) (λb o hb e=>eb b o hb e) f0 f1 f3 f4 f5⟩
 self:=λ_ _ _ _ _ st h=>by
  obtain⟨⟨old,h1⟩,h2⟩:=st;exact wpAny_pyIter_enum h1 h
section
variable{X:Cx}
theorem Uj{l:Expr}{ta:TA}{p pos tp:Pos}{elts:List Expr}{x1:Nat}(hg:Gl X "enumerate")(hm:X.mg "enumerate"=none)(ha:PA X [l] ta)(hs:starEach [l] X.env=[(false,eval l X.env)]) :
  PI X (.Tuple elts x1 tp) (.Call (.Name "enumerate" p) [l] [] pos) (λZ H R=>ta Z H λvs H1=>∃a,vs=[.ref a]/\(∃xs,fG X.K H1 a xs)/\R (EC X.K a) H1):=by
 intro pins s Z H R I h;refine Call_ (L4 I hg hm PyProof.Rows.boot_enumerate (bN (cP (ha pos pins s Z H _ I h) λus s1 bt=>?_) hs rfl));obtain⟨vs,H1,I1,r1,q1⟩:=bt;obtain⟨a,e,⟨xs,hq⟩,q⟩:=q1;subst e;cases r1 with
 |cons r rr =>
  cases rr;cases r;obtain⟨aW,rv,p,hz⟩:=I1.list hq;refine call_enumerate_list p.isList λh' he hit hsz hk=>wpAny_pyIter_enum he ?_;refine⟨s1.heap.objs.size+1,[s1.heap.objs.size+1,s1.heap.objs.size],_,_,H1,rfl,I1.kept (t':=s1.toks) hk,aT3 a _ _ (by simp),⟨⟨_,he⟩,hit⟩,λb hb=>?_,q⟩;have lp:s1.heap.objs.size<=b:=by
   rcases aI.mp hb with z|z
   ·rw[z];exact gR _
   ·have z:b=s1.heap.objs.size:=by simpa using z
    rw[z];exact av _
  exact I1.qg lp (I1.bZ.fresh lp)
theorem XM{e:Expr}{t:TE}{pos:Pos}(he:PE X e t):PE X (.FormattedValue e (-1) none pos) (λZ H Q=>t Z H λx H1=>(∃i,x=.int i/\i.natAbs.log2<1920/\Q (.str (toString i)) H1)\/∃y,x=.str y/\y.length<=sizeLine/\Q (.str y) H1):=by
 intro pins s Z H Q I h;refine wpAny_FormattedValue_plain (cP (he pins s Z H _ I h) λv s1 bt=>?_);obtain⟨x,H1,I1,r1,q1⟩:=bt;rcases q1 with⟨i,rfl,hd,q⟩|⟨y,rfl,hy,q⟩
 ·obtain⟨t,rfl⟩:=r1;exact wpAny_formatField_int hd ⟨.str _,H1,I1.tok _,⟨_,rfl⟩,q⟩
 ·obtain⟨t,rfl⟩:=r1;exact wpAny_formatField_str ⟨.str _,H1,I1,⟨_,rfl⟩,q⟩ ⟨.str _,H1,I1.tok _,⟨_,rfl⟩,q⟩ hy
inductive ua(X:Cx):List Expr->List TE->Prop
 |nil:ua X [] []
 |cons {e:Expr} {t:TE} {es:List Expr} {ts:List TE} (h:PE X e t) (r:ua X es ts):ua X (e::es) (t::ts)
def yp:List TE->St->Hp->Str->(Str->Hp->Prop)->Prop
 |[],_,H,acc,Q=>Q acc H
 |t::ts,Z,H,acc,Q=>t Z H λx H1=>∃y,x=.str y/\(acc++y).length<=sizeLine/\yp ts Z H1 (acc++y) Q
theorem LC{pins:List (Addr×Obj)}{Z:St}{Q:Str->Hp->Prop}:∀{es:List Expr} {ts:List TE},ua X es ts->∀{s:Shared} {H:Hp} {acc:Str},Inv X pins Z H s->yp ts Z H acc Q ->
  Joins (model X.prog X.w) X.A X.xe (evalEach es X.env) acc (λout s1=>∃H1,Inv X pins Z H1 s1/\Q out H1) s
 |_,_,.nil,s,H,acc,I,h=>⟨H,I,h⟩
 |_,_,.cons he r,s,H,acc,I,h=>by
  rw[arm_evalEach_cons];refine cP (he pins s Z H _ I h) λv s1 bt=>?_;obtain⟨x,H1,I1,r1,y,ey,hy,q1⟩:=bt;subst ey;obtain⟨t,rfl⟩:=r1;exact⟨y,t,rfl,hy,LC r I1 q1⟩
theorem Js{M:Model}{A:Around}{E:Value->Shared->Prop}{Q Q':Str->Shared->Prop}(hq:∀x s,Q x s->Q' x s):∀{l:List (Sem Value)} {acc:Str} {s:Shared},Joins M A E l acc Q s->Joins M A E l acc Q' s
 |[],acc,s,h=>hq _ _ h
 |x::r,acc,s,h=>cP h λv s1 ⟨y,t,e,hz,h1⟩=>⟨y,t,e,hz,Js hq h1⟩
theorem Ue{lI lH:Expr}{rest:List Expr}{ts:List TE}{pos:Pos}(h:ua X (lI::lH::rest) ts):PE X (.JoinedStr (lI::lH::rest) pos) (λZ H Q=>yp ts Z H Str.empty λout H1=>out.length<=sizeLine/\Q (.str out) H1):=by
 intro pins s Z H Q I hw;refine wpAny_JoinedStr (Js (λx s1 ⟨H1,I1,hl,q⟩=>⟨hl,.str x,H1,I1.tok _,⟨_,rfl⟩,q⟩) (LC h I hw))
theorem aP8{lo:Int}{acc:Array Value}{n:Nat}(h:ItemsOf (λi v=>∃t,v=.int (lo+i*1) t) acc n):Vals ((List.range n).map λ(k:Nat)=>V.int (lo+k)) acc.toList:=by
 have hl:acc.toList.length=n:=by
  have:=h.1;simpa using this
 have go:∀(m:Nat) (l:List Value),l.length<=n->m+l.length=n->(∀i v,l[i]?=some v->∃t,v=Value.int (lo+((m+i:Nat):Int)) t)->Vals ((List.range' m l.length).map λ(k:Nat)=>V.int (lo+k)) l:=by
  intro m l
  induction l generalizing m with
  |nil=>intro _ _ _;exact .nil
  |cons x r ih =>
   intro h1 h2 h3;simp only[List.length_cons,List.range'_succ,List.map_cons];refine .cons ?_ (ih (m+1) (by simp at h1;omega) (by simp at h2;omega) λi v hv=>?_)
   ·obtain⟨t,e⟩:=h3 0 x rfl;exact⟨t,by rw[e];simp⟩
   ·obtain⟨t,e⟩:=h3 (i+1) v (by simpa using hv);exact⟨t,by rw[e,show m+(i+1)=m+1+i by omega]⟩
 have:=go 0 acc.toList (by omega) (by omega) λi v hv=>?_
 ·rw[hl,<- List.range_eq_range'] at this;exact this
 ·have hi:i<n:=by
   have:=(aj.mp hv).1;omega
  have:acc[i]?=some v:=by rw[<- iY];exact hv
  obtain⟨t,e⟩:=h.2 i v this;refine⟨t,?_⟩;rw[e];simp
theorem Kb(hc:X.calm=true):l6 X (.type "list") (λxs H Q=>∃a lo hi,xs=[.ref a]/\H a=some (.ml lo hi)/\(-(2 ^ 62)<=lo/\lo<2 ^ 62/\-(2 ^ 62)<=hi/\hi<2 ^ 62/\hi-lo<=100000)/\∀p,H p=none->Q (.ref p) (upd H p (.lst ((List.range (hi-lo).toNat).map λ(k:Nat)=>V.int (lo+k))))):=by
 intro pins s Z H xs us Q I r h;obtain⟨a,lo,hi,rfl,ha,⟨h1,h2,h3,h4,h5⟩,q⟩:=h;obtain⟨t,u,v,ho⟩:=I.bZ a _ ha;cases r with
 |cons r rr =>
 cases rr;cases r;have hn:Builtin.Range.rangeSize lo hi 1=((hi-lo).toNat:Nat):=by rw[rangeSize_one];split<;>omega
 refine call_list_range (n:=(hi-lo).toNat) (I.ok.hd hc) ho (small_one h1 h2 h3 h4) hn (by omega) λh' jw acc c hk hS iy=>?_;have hp:H s.heap.objs.size=none:=I.bZ.fresh (av _);refine⟨.ref _,_,I.laid (a:=s.heap.objs.size) (o:=.lst ((List.range (hi-lo).toNat).map λ(k:Nat)=>V.int (lo+k))) (t':=jw) hk (av _) ⟨?_,acc.toList,c,aP8 iy,by simpa using hS⟩,rfl,q _ hp⟩;rw[ag,List.length_range];have:(hi-lo).toNat<=100000:=by omega
 exact aE this (by decide)
theorem ZS{a:Expr}{ta:TA}{p pos:Pos}(hg:Gl X "range")(hm:X.mg "range"=none)(ha:PA X [a] ta)(hs:starEach [a] X.env=[(false,eval a X.env)]):PE X (.Call (.Name "range" p) [a] [] pos) (λZ H Q=>ta Z H λvs H1=>∃j:Int,vs=[.int j]/\∀q,H1 q=none->Q (.ref q) (upd H1 q (.ml 0 j))):=by
 intro pins s Z H Q I h;refine dn (L4 I hg hm boot_range (bN (cP (ha pos pins s Z H _ I h) λus s1 bt=>?_) hs rfl));obtain⟨vs,H1,I1,r1,q1⟩:=bt;obtain⟨j,e,q⟩:=q1;subst e;cases r1 with
 |cons r rr =>
  cases rr;obtain⟨t,rfl⟩:=r;exact call_range_1 ⟨.ref s1.heap.objs.size,_,I1.laid (a:=s1.heap.objs.size) (o:=.ml 0 j) (λb o e=>ao _ e) (av _) ⟨_,_,_,az _ rfl⟩,rfl,q _ (I1.bZ.fresh (av _))⟩
theorem ZT{a b:Expr}{ta:TA}{p pos:Pos}(hg:Gl X "range")(hm:X.mg "range"=none)(ha:PA X [a,b] ta)(hs:starEach [a,b] X.env=[(false,eval a X.env),(false,eval b X.env)])(jm:starEach [b] X.env=[(false,eval b X.env)]):PE X (.Call (.Name "range" p) [a,b] [] pos) (λZ H Q=>ta Z H λvs H1=>∃i j:Int,vs=[.int i,.int j]/\∀q,H1 q=none->Q (.ref q) (upd H1 q (.ml i j))):=by
 intro pins s Z H Q I h;refine dn (L4 I hg hm boot_range (bN (cP (ha pos pins s Z H _ I h) λus s1 bt=>?_) (by rw[hs,jm]) (by rw[jm];rfl)));obtain⟨vs,H1,I1,r1,q1⟩:=bt;obtain⟨i,j,e,q⟩:=q1;subst e;cases r1 with
 |cons r rr =>
  cases rr with
  |cons r' rr =>
   cases rr;obtain⟨t,rfl⟩:=r;obtain⟨t',rfl⟩:=r';exact call_range_2 ⟨.ref s1.heap.objs.size,_,I1.laid (a:=s1.heap.objs.size) (o:=.ml i j) (λb o e=>ao _ e) (av _) ⟨_,_,_,az _ rfl⟩,rfl,q _ (I1.bZ.fresh (av _))⟩
def wu(K:PySem.W.Frag)(P:Params)(a:Addr)(kvs:List (Str×V)):Prop :=
 ∃es n,K.lookup a=some ⟨.type "dict",none,.dict es n,#[]⟩/\PySem.W.KeysLit P es.toList/\(a==sysModules)=false/\∀x,F8 (kvs.lookup x) (findBy Value.isStrOf es x)
theorem Kn{kvs:List (Str×V)}(neg:Bool):fK X (compareOp (if neg then .NotIn else .In)) (λx y H Q=>∃a z,y=.ref a/\wu X.K X.w.params a kvs/\x=.str z/\Q (.bl (xor neg (kvs.lookup z).isSome)) H):=by
 intro pins s Z H x y v u Q I rx ry h;obtain⟨a,z,rfl,⟨es,n,hl,hk,lo,hf⟩,rfl,q⟩:=h;obtain⟨t,rfl⟩:=rx;cases ry;have hm:=PySem.W.mapOf_K (prog:=X.prog) (w:=X.w) I.gT hl hk;have e:=hf z;have ee:(findBy Value.isStrOf es z).isSome=(kvs.lookup z).isSome:=by
  cases h1:kvs.lookup z<;>cases h2:findBy Value.isStrOf es z<;>rw[h1,h2] at e<;>first|rfl|exact e.elim
 cases neg
 ·exact wpAny_in_of (strKind_is X.prog X.w z t) lo hm ⟨.bl _,H,I.tok _,by rw[ee];rfl,by simpa using q⟩
 ·exact wpAny_notIn_of (strKind_is X.prog X.w z t) lo hm ⟨.bl _,H,I.tok _,by rw[ee];rfl,by simpa using q⟩
theorem Xj{kvs:List (Str×V)}:sE X (λx y H Q=>∃a z v,x=.ref a/\wu X.K X.w.params a kvs/\y=.str z/\kvs.lookup z=some v/\Q v H):=by
 intro value slice pins s Z H x y v u Q I rx ry h hs;obtain⟨a,z,d,rfl,⟨es,n,hl,hk,lo,hf⟩,rfl,hz,q⟩:=h;cases rx;obtain⟨t,rfl⟩:=ry;have hm:=PySem.W.mapOf_K (prog:=X.prog) (w:=X.w) I.gT hl hk;have e:=hf z;rw[hz] at e;cases h2:findBy Value.isStrOf es z with
 |none=>rw[h2] at e;exact e.elim
 |some r =>
  rw[h2] at e;exact tail_any hm.typeIs slot_dict_getitem.lookup (wpAny_getItem_of (strKind_is X.prog X.w z t) hm h2 ⟨d,H,I.tok _,e,q⟩) hs
theorem Tp(hu:X.A.units+1<cLine):sE X (λx y H Q=>∃a v,x=.ref a/\P7 H a y (some v)/\Q v H):=by
 intro value slice pins s Z H x y v u Q I rx ry h hs;obtain⟨a,d,rfl,g,q⟩:=h;cases rx;exact tail_any (aH5 I g) slot_dict_getitem.lookup (a01 hu I g ry λw' s3 I3 fJ=>⟨d,H,I3,fJ,q⟩) hs
end
end L2

namespace ST
open PySem PyProof.Rows
noncomputable abbrev kA(xs:Array Nat):Prop:=xs.toList.Pairwise (· < ·)
theorem kA.lt{xs:Array Nat}(h:kA xs){i k:Nat}(vp:i<k)(hk:k<xs.size):xs.getD i 0<xs.getD k 0:=by
 have:=pb.mp h i k (by simpa using cM vp hk) (by simpa using hk) vp;simp only[Array.getElem_toList] at this;rw[<- dS (h:=cM vp hk),<- dS (h:=hk)];exact this
theorem kA.le{xs:Array Nat}(h:kA xs){i k:Nat}(vp:i<=k)(hk:k<xs.size):xs.getD i 0<=xs.getD k 0:=by
 rcases Nat.eq_or_lt_of_le vp with e|e
 ·rw[e];exact av _
 ·exact du (h.lt e hk)
theorem Cp{xs:Array Nat}{j:Nat}(h:kA xs):∀(fuel lo hi:Nat),hi-lo<=fuel->lo<=hi->hi<=xs.size->(∀i,i<lo->xs.getD i 0<j)->(∀i,hi<=i->i<xs.size->j<=xs.getD i 0) ->
  SetTable.below.go xs j fuel lo hi<=xs.size/\(∀i,i<SetTable.below.go xs j fuel lo hi->xs.getD i 0<j)/\∀i,SetTable.below.go xs j fuel lo hi<=i->i<xs.size->j<=xs.getD i 0
 |0,lo,hi,h1,h2,h3,h4,h5=>by
  unfold SetTable.below.go;have:lo=hi:=by omega
  subst this;exact⟨h3,h4,h5⟩
 |fuel+1,lo,hi,h1,h2,h3,h4,h5=>by
  unfold SetTable.below.go;split
  ·rename_i hl;have hm:(lo+hi) / 2<xs.size:=by omega
   have em:xs.getD ((lo+hi) / 2) j=xs.getD ((lo+hi) / 2) 0:=by simp[Array.getD,hm]
   dsimp only;rw[em];by_cases hc:xs.getD ((lo+hi) / 2) 0<j
   ·rw[aK hc];exact Cp h fuel _ hi (by omega) (by omega) h3 (λi iy=>gk (h.le (by omega) hm) hc) h5
   ·rw[aD hc];exact Cp h fuel lo _ (by omega) (by omega) (by omega) h4 λi iy hs=>aE (lC hc) (h.le iy hs)
  ·have:lo=hi:=by omega
   subst this;exact⟨h3,h4,h5⟩
theorem Q6{xs:Array Nat}(j:Nat)(h:kA xs):SetTable.below xs j<=xs.size/\(∀i,i<SetTable.below xs j->xs.getD i 0<j)/\∀i,SetTable.below xs j<=i->i<xs.size->j<=xs.getD i 0 :=
 Cp h _ 0 _ (by omega) (by omega) (av _) (λi hi=>absurd hi (Nat.not_lt_zero _)) λi h1 h2=>absurd h2 (by omega)
theorem below_at{xs:Array Nat}(h:kA xs){i:Nat}(hi:i<xs.size):SetTable.below xs (xs.getD i 0)=i:=by
 obtain⟨h1,h2,h3⟩:=Q6 (xs.getD i 0) h;rcases dU (SetTable.below xs (xs.getD i 0)) i with z|z|z
 ·exact absurd (h3 _ (av _) (by omega)) (Nat.not_le_of_lt (h.lt z hi))
 ·exact z
 ·exact absurd (h2 i z) (bw _)
theorem aR5{xs:Array Nat}(h:kA xs){i:Nat}(hi:i<xs.size):SetTable.below xs (xs.getD i 0+1)=i+1:=by
 obtain⟨h1,h2,h3⟩:=Q6 (xs.getD i 0+1) h;rcases dU (SetTable.below xs (xs.getD i 0+1)) (i+1) with z|z|z
 ·have:=h3 i (by omega) hi;omega
 ·exact z
 ·have:=h2 (i+1) z;have:=h.lt (eJ i) (k:=i+1) (by omega);omega
theorem aR4{xs:Array Nat}(h:kA xs):SetTable.below xs 0=0:=by
 obtain⟨_,h2,_⟩:=Q6 0 h;rcases Nat.eq_zero_or_pos (SetTable.below xs 0) with z|z
 ·exact z
 ·exact absurd (h2 0 z) (Nat.not_lt_zero _)
theorem getD_mem{xs:Array Nat}{i:Nat}(hi:i<xs.size):xs[i]?=some (xs.getD i 0):=by simp[Array.getD,hi]
theorem aN0{t:SetTable}{j:Nat}(h:kA t.place)(hs:t.slot j=.empty):j∉t.place.toList:=by
 intro hm;obtain⟨i,hi,e⟩:=cS.mp hm;have iy:i<t.place.size:=by simpa using hi
 have ej:t.place.getD i 0=j:=by rw[<- dS (h:=iy)];simpa using e
 have hb:=below_at h iy;rw[ej] at hb;unfold SetTable.slot at hs;dsimp only at hs;rw[hb,getD_mem iy,ej] at hs;simp at hs
theorem aN6{xs:Array Nat}{j:Nat}(h:kA xs)(hj:j∉xs.toList):kA (SetTable.insertAt xs (SetTable.below xs j) j):=by
 obtain⟨h1,h2,h3⟩:=Q6 j h;show(SetTable.insertAt xs (SetTable.below xs j) j).toList.Pairwise (· < ·);rw[SetTable.toList_insertAt,zt];have tk:∀a∈xs.toList.take (SetTable.below xs j),a<j:=λa ha=>by
  obtain⟨i,hi,e⟩:=cS.mp ha;rw[cZ] at hi;rw[List.getElem_take] at e;have hs:i<xs.size:=by simp at hi;omega
  have:=h2 i (by omega);rw[<- dS (h:=hs)] at this;simp at e;omega
 have dp:∀b∈xs.toList.drop (SetTable.below xs j),j<b:=λb hb=>by
  obtain⟨i,hi,e⟩:=cS.mp hb;rw[lF] at hi;rw[List.getElem_drop] at e;have hs:SetTable.below xs j+i<xs.size:=by simp at hi;omega
  have:=h3 (SetTable.below xs j+i) (by omega) hs;rw[<- dS (h:=hs)] at this;have dF:b≠j:=λz=>hj (by rw[<- z];exact List.mem_of_mem_drop hb);simp at e;omega
 refine⟨h.take,gs.mpr ⟨dp,h.drop⟩,λa ha b hb=>?_⟩;have lQ:=tk a ha;rcases aI.mp hb with z|z
 ·omega
 ·have:=dp b z;omega
theorem aU5(n:Nat):kA (Array.range n):=by
 show(Array.range n).toList.Pairwise (· < ·);rw[Array.toList_range];exact iD
structure Well(L:Bool)(t:SetTable):Prop where
 xt:kA t.place
 BC:t.dummies=#[]
 led:t.led=L
theorem a80{t:SetTable}(hd:t.dummies=#[])(j:Nat):t.slot j≠.dummy:=by
 unfold SetTable.slot;dsimp only;split
 ·intro z;cases z
 ·rw[hd];split
  ·rename_i z;simp[SetTable.has] at z
  ·intro z;cases z
theorem JT{t:SetTable}(hd:t.dummies=#[]){hashAt:Nat->Int}{h:Int}:∀(fuel:Nat) (p:SetTable.Probe) {j:Nat} {dm:Option Nat},p.dummy=none->SetTable.probe.go t hashAt h fuel p=some (.empty j dm)->t.slot j=.empty/\dm=none
 |0,p,j,dm,_,e=>by simp[SetTable.probe.go] at e
 |fuel+1,p,j,dm,hp,e=>by
  unfold SetTable.probe.go at e;have ad:∀q:SetTable.Probe,q.dummy=none->(t.advance q).dummy=none:=λq hq=>by
   unfold SetTable.advance;split
   ·exact hq
   ·exact hq
  split at e
  ·rename_i hs;cases e;exact⟨hs,hp⟩
  ·rename_i hs;exact absurd hs (a80 hd _)
  ·split at e
   ·cases e
   ·exact JT hd fuel _ (ad p hp) e
theorem Zr{t:SetTable}(hd:t.dummies=#[]){h:Int}{j:Nat}{wd:Bool}(e:t.freeSlot h=some (j,wd)):t.slot j=.empty/\wd=false:=by
 unfold SetTable.freeSlot at e;split at e
 ·rename_i j' dm hp;obtain⟨h1,h2⟩:=JT hd _ _ rfl hp;subst h2;cases e;exact⟨h1,rfl⟩
 ·cases e
theorem K9{L:Bool}{t:SetTable}(h:Well L t)(n:Nat):Well L (t.standIn n):=⟨aU5 n,rfl,h.led⟩
theorem aH1{L:Bool}{t:SetTable}{es:Array (Int×Value)}{h:Int}{x:Value}(hw:Well L t):Well L (layNew t es h x).2.1/\(layNew t es h x).2.2.1=false:=by
 unfold layNew;split
 ·rename_i slot wd e;obtain⟨h1,h2⟩:=Zr hw.BC e;refine⟨?_,h2⟩;have hd:SetTable.has t.dummies slot=false:=by rw[hw.BC];simp[SetTable.has]
  have w2:Well L (t.put slot).1:=⟨aN6 hw.xt (aN0 hw.xt h1),by simp only[SetTable.put,hd];exact hw.BC,hw.led⟩
  dsimp only;unfold SetTable.orStandIn;split
  ·exact w2
  ·exact K9 w2 _
 ·exact⟨K9 hw _,rfl⟩
theorem ZA{L:Bool}{mask finger moves:Nat}{led plain:Bool}{hashes:Array Int}{t:SetTable}{o:Array Nat}(hl:led=L)(e:SetTable.laid mask finger moves led plain hashes=some (t,o)):Well L t:=by
 unfold SetTable.laid at e;cases ho:SetTable.layClean mask hashes with
 |none=>rw[ho] at e;cases e
 |some owner =>
  rw[ho] at e;simp only[Option.bind_eq_bind,Option.bind_some,Option.pure_def,Option.some.injEq,Prod.mk.injEq] at e;obtain⟨rfl,_⟩:=e;refine⟨?_,rfl,hl⟩;show(List.map _ _).toArray.toList.Pairwise (· < ·);rw[List.toList_toArray];have sub:((List.range (mask+1)).filterMap λj=>(owner.getD j none).map (j,·)).map (·.1) |>.Sublist (List.range (mask+1)):=by
   generalize List.range (mask+1)=l
   induction l with
   |nil=>simp
   |cons a r ih =>
    rw[eQ];cases owner.getD a none with
    |none=>exact ih.cons a
    |some k=>exact ih.cons_cons a
  exact List.Pairwise.sublist sub iD
theorem YW{L:Bool}{t:SetTable}{es:Array (Int×Value)}{n:Nat}(hw:Well L t):Well L (relayAll t es n).2.1:=by
 unfold relayAll;split
 ·rename_i t' order e;dsimp only;split
  ·exact ZA hw.led e
  ·exact K9 hw _
 ·exact K9 hw _
end ST

namespace ST
open PySem PyProof.Rows
def toI:Value->Int
 |.int k _=>k
 |_=>0
def Led(w:World):Bool:=!(w.params.followText "set-order")
section
variable{prog:Program}{w:World}
def u6(prog:Program)(w:World)(h:Heap)(a:Addr)(ks:List Int):Prop :=
 ∃o es ep t,h.get? a=some o/\o.ExactSet/\o.data=.set es ep t/\ElemsOf (intKind prog w) es.toList/\(es.toList.map λe=>toI e.2).Perm ks/\ks.Nodup/\es.size<scanBound/\t.fits es.size=true/\Well (Led w) t
theorem u6.at{h h':Heap}{a:Addr}{ks:List Int}(x:u6 prog w h a ks)(k:∀o,h.get? a=some o->h'.get? a=some o):u6 prog w h' a ks:=by
 obtain⟨o,es,ep,t,e,r⟩:=x;exact⟨o,es,ep,t,k o e,r⟩
theorem KG{e:Int×Value}{es:List (Int×Value)}(h:ElemsOf (intKind prog w) es)(he:e∈es):∃tk,e.2=.int (toI e.2) tk/\e.1=(intKind prog w).hash (toI e.2):=by
 obtain⟨⟨k,h1,h2⟩,_⟩:=h e he;obtain⟨t,ht⟩:=oi (k:=k) (v:=e.2) h1;refine⟨t,by rw[ht];rfl,?_⟩;rw[h2,ht]
 rfl
theorem Kh{e:Int×Value}{es:List (Int×Value)}(h:ElemsOf (intKind prog w) es)(he:e∈es)(k:Int):(intKind prog w).is k e.2=decide (toI e.2=k):=by
 obtain⟨t,ht,_⟩:=KG h he;show Value.isInt k e.2=_;rw[ht];generalize toI e.2=m;show Value.isInt k (.int m t)=decide (m=k);by_cases z:m=k
 ·subst z;simp[Value.isInt]
 ·rw[aL z];cases hv:Value.isInt k (.int m t) with
  |false=>rfl
  |true =>
   obtain⟨t',e'⟩:=oi hv;cases e';exact absurd rfl z
theorem u6.mem{a:Addr}{es:List (Int×Value)}{ks:List Int}(h:ElemsOf (intKind prog w) es)(hp:(es.map λe=>toI e.2).Perm ks)(k:Int):(es.findIdx? λe=>(intKind prog w).is k e.2).isSome=decide (k∈ks):=by
 rw[bc,dc,<- hp.mem_iff,aM,dB];constructor
 ·rintro⟨i,hi⟩;obtain⟨h1,h2,_⟩:=ky.mp hi;have hm:=cc h1;rw[Kh h hm] at h2;exact⟨_,hm,bj h2⟩
 ·rintro⟨e,he,rfl⟩;cases hf:es.findIdx? λe'=>(intKind prog w).is (toI e.2) e'.2 with
  |some i=>exact⟨i,rfl⟩
  |none =>
   have:=List.findIdx?_eq_none_iff.mp hf e he;rw[Kh h he] at this;simp at this
variable{A:Around}{E:Value->Shared->Prop}{s:Shared}
def B7(ks:List Int)(k:Int):List Int:=if k∈ks then ks else ks++[k]
theorem Vc(ks:List Int)(k:Int):(B7 ks k).length<=ks.length+1:=by unfold B7;split<;>simp
theorem HR{a:Addr}{ks:List Int}{k:Int}{tk:Tok}{Q:Bool->Shared->Prop}(hS:u6 prog w s.heap a ks)(hr:ks.length+1<scanBound)(h:∀h' b,Heap.SameBut a s.heap h'->u6 prog w h' a (B7 ks k)->Q b { s with heap:=h' }):wpAny (model prog w) A (setAddHashed a (.int k tk) ((intKind prog w).hash k)) Q E s:=by
 obtain⟨o,es,ep,t,ho,hx,hd,rj,hp,hn,hb,hf,hw⟩:=hS;have hlen:es.size=ks.length:=by rw[<- hp.length_eq];simp
 have km:(intKind prog w).is k (.int k tk)=true:=fZ _ _ _ _;have gv:∀(b:Bool) (s1:Shared) (Q':Unit->Shared->Prop),Q' () s1->wpAny (model prog w) A (match b with|true=>rule "set.scan.the-table-gave-way"|false=>pure ()) Q' E s1:=λb s1 Q' q=>by
  cases b
  ·exact au q
  ·exact fm q
 unfold setAddHashed setAddHashedIn;refine bP (ae (cN ho hd hf ?_));dsimp only;rw[byScan_of rfl hb rj,aK rfl];unfold setAddByScan;refine ae (ae (fm (ae (wpAny_setScan_of km ho hd hf rj ?_))));have hm:=u6.mem (a:=a) rj hp k;cases my:es.toList.findIdx? (λe=>(intKind prog w).is k e.2) with
 |some j =>
  rw[my] at hm;have hk:k∈ks:=by simpa using hm.symm
  refine au (au ?_);have e0:s={ s with heap:=s.heap }:=rfl;rw[e0];refine h s.heap _ (Heap.SameBut.refl a s.heap) ?_;unfold B7;rw[aK hk];exact⟨o,es,ep,t,ho,hx,hd,rj,hp,hn,hb,hf,hw⟩
 |none =>
  rw[my] at hm;have hk:k∉ks:=by simpa using hm.symm
  dsimp only;have p1:=layNew_perm t es ((intKind prog w).hash k) (.int k tk);have f1:=layNew_fits t es ((intKind prog w).hash k) (.int k tk);obtain⟨w1,zF⟩:=aH1 (es:=es) (h:=(intKind prog w).hash k) (x:=.int k tk) hw;generalize layNew t es ((intKind prog w).hash k) (.int k tk)=R1 at p1 f1 w1 zF ⊢;obtain⟨gO,t1,wd,PD⟩:=R1;dsimp only at p1 f1 w1 zF ⊢;subst zF;rw[Array.toList_push] at p1;have Ha:ElemsOf (intKind prog w) gO.toList:=(rj.push km rfl).perm p1;have sz1:gO.size=es.size+1:=by rw[<- bz,p1.length_eq];simp
  have k1:(gO.toList.map λe=>toI e.2).Perm (B7 ks k):=by
   unfold B7;rw[aD hk];refine(p1.map _).trans ?_;rw[bH];exact hp.append_right _
  have n1:(B7 ks k).Nodup:=by
   unfold B7;rw[aD hk,cw];exact⟨hn,by simp,λx hx y hy=>by simp at hy;subst hy;exact λz=>hk (z▸hx)⟩
  refine ae (gv _ _ _ ?_);have fin:∀ (t2:SetTable),t2.fits gO.size=true->Well (Led w) t2->wpAny (model prog w) A (do
    storeSet a gO t2
    if(!false&&t2.tooFull)=true then do
      (match(relayAll t2 gO (SetTable.grown gO.size)).2.2 with|true=>rule "set.scan.the-table-gave-way"|false=>pure ())
      storeSet a (relayAll t2 gO (SetTable.grown gO.size)).1 (relayAll t2 gO (SetTable.grown gO.size)).2.1
      pure (some true)
     else pure (some true)) (λr s'=>wpAny (model prog w) A (match r with | some added=>pure added | none=>setAddHashedIn a (.int k tk) ((intKind prog w).hash k) 99999) Q E s') E s:=λt2 f2 w2=>by
   have g1:(s.heap.update a (Obj.putSet gO t2)).get? a=some { o with data:=.set gO (ep+1) t2 }:=by
    have:=br (Obj.putSet gO t2) ho (by rw[putSet_of gO t2 hd];rfl);rw[putSet_of gO t2 hd] at this;exact this
   refine ae (wpAny_storeSet_of ho hd ?_ (fits_of_scanBound (by omega)));have Fg:=cG s.heap a (Obj.putSet gO t2);split
   ·have p2:=relayAll_perm t2 gO (SetTable.grown gO.size);have f3:=relayAll_fits t2 gO (SetTable.grown gO.size);have w3:=YW (es:=gO) (n:=SetTable.grown gO.size) w2;generalize relayAll t2 gO (SetTable.grown gO.size)=R2 at p2 f3 w3 ⊢;obtain⟨nM,t3,gv2⟩:=R2;dsimp only at p2 f3 w3 ⊢;have sz2:nM.size=gO.size:=by rw[<- bz,p2.length_eq,bz]
    refine ae (gv _ _ _ ?_);refine ae (wpAny_storeSet_of g1 rfl ?_ (fits_of_scanBound (by omega)));refine au (au (h _ _ (Fg.trans (cG _ a _)) ?_));have g2:((s.heap.update a (Obj.putSet gO t2)).update a (Obj.putSet nM t3)).get? a=some { o with data:=.set nM (ep+1+1) t3 }:=by
     have:=br (Obj.putSet nM t3) g1 (by rw[putSet_of nM t3 rfl];rfl);rw[putSet_of nM t3 rfl] at this;exact this
    exact⟨_,nM,_,t3,g2,hx,rfl,Ha.perm p2,(p2.map _).trans k1,n1,by omega,f3,w3⟩
   ·exact au (au (h _ _ Fg ⟨_,gO,_,t2,g1,hx,rfl,Ha,k1,n1,by omega,f1 |> λ_=>f2,w2⟩))
  split
  ·refine ae (eT (hashByValue_scannable 8 rfl) ?_);exact fin _ f1 w1
  ·refine ae (au ?_);exact fin _ f1 w1
end
end ST

namespace ST
open PySem PyProof.Rows
theorem aE1:entryFor table "set.__iter__"=some Builtin.«frozenset.__iter__» :=
 entryFor_alias (id':="frozenset.__iter__") (by kernel_rfl) rfl (by decide +kernel) (by kernel_rfl)
theorem C2:Slot "set_iterator" "__next__" "set_iterator.__next__" :=
 .of (owner:="set_iterator") (n:="__next__") (by rw[gJ,eG];kernel_rfl) (by decide +kernel) (by decide +kernel) (by decide +kernel)
  (by first|exact .inl (by decide +kernel)|exact .inr (by decide +kernel)) (by rw[fM];kernel_rfl)
theorem JM:entryFor table "set_iterator.__next__"=some Builtin.«set_iterator.__next__»:=entryFor_of_tree (by kernel_rfl)
theorem JX(a:Value):argsOk "set_iterator.__next__" ⟨[a],[]⟩:=by
 unfold argsOk
 kernel_rfl
theorem Ka:Slot "set_iterator" "__iter__" "set_iterator.__iter__" :=
 .of (owner:="set_iterator") (n:="__iter__") (by rw[gJ,eG];kernel_rfl) (by decide +kernel) (by decide +kernel) (by decide +kernel)
  (by first|exact .inl (by decide +kernel)|exact .inr (by decide +kernel)) (by rw[fM];kernel_rfl)
theorem aH4:entryFor table "set_iterator.__iter__"=some Builtin.«dict_keyiterator.__iter__» :=
 entryFor_alias (id':="dict_keyiterator.__iter__") (by kernel_rfl) rfl (by decide +kernel) (by kernel_rfl)
theorem aF5(a:Value):argsOk "set_iterator.__iter__" ⟨[a],[]⟩:=by
 unfold argsOk
 kernel_rfl
end ST

namespace ST
open PySem PyProof.Rows
inductive Rd|text|plain|drawn
structure Lies(h:Heap)(a:Addr)(es:Array (Int×Value))(ep:Nat)(t:SetTable):Prop where
 at_:∃o,h.get? a=some o/\o.cls=.type "set"/\o.data=.set es ep t
 fit:t.fits es.size=true
theorem Lies.at{h h':Heap}{a:Addr}{es:Array (Int×Value)}{ep:Nat}{t:SetTable}(x:Lies h a es ep t)(k:∀o,h.get? a=some o->h'.get? a=some o):Lies h' a es ep t :=
 ⟨let ⟨o,e,r⟩:=x.at_;⟨o,k o e,r⟩,x.fit⟩
def E3(h:Heap)(I a:Addr)(f:Value)(i n ep:Nat):Prop:=∃o,h.get? I=some o/\o.cls=.type "set_iterator"/\o.data=.fields #[f,rawInt i,.ref a,rawInt n,rawInt ep]
theorem E3.at{h h':Heap}{I a:Addr}{f:Value}{i n ep:Nat}(x:E3 h I a f i n ep)(k:∀o,h.get? I=some o->h'.get? I=some o):E3 h' I a f i n ep:=let ⟨o,e,r⟩:=x;⟨o,k o e,r⟩
theorem E3.ty{s:Shared}{I a:Addr}{f:Value}{i n ep:Nat}(x:E3 s.heap I a f i n ep):s.TypeIs (.ref I) "set_iterator":=let ⟨o,e,c,_⟩:=x;⟨o,e,c⟩
def wA(w:World)(a:Addr)(es:Array (Int×Value))(ep:Nat)(pl:List Nat):Rd->List Value
 |.text=>(pickOrder (w.params.setOrder a ep) es).toList.map (·.2)
 |.plain=>es.toList.map (·.2)
 |.drawn=>pl.map λj=>(es.getD j (0,.none)).2
def slotAt(t:SetTable):Nat->Nat
 |0=>0
 |i+1=>t.place.getD i 0+1
def N8(h:Heap)(t:SetTable)(b:Addr)(pl:List Nat)(i:Nat)(f:Value):Rd->Prop
 |.text=>∃k:Nat,f=rawInt k
 |.plain=>f=rawInt (slotAt t i)
 |.drawn=>f=.ref b/\∃o e,h.get? b=some o/\o.cls=.type "tuple"/\o.data=.seq (pl.map λj=>rawInt (j:Nat)).toArray e
def tN(w:World)(es:Array (Int×Value))(t:SetTable)(pl:List Nat):Rd->Prop
 |.text=>w.params.followText "set-order"=true
 |.plain=>w.params.followText "set-order"=false/\(t.plain=true\/es.size<=1)/\Well true t
 |.drawn=>w.params.followText "set-order"=false/\pl.Perm (List.range es.size)
section
variable{prog:Program}{w:World}{A:Around}{E:Value->Shared->Prop}{s:Shared}{a:Addr}{es:Array (Int×Value)}{ep:Nat}{t:SetTable}
theorem wC{Q:Bool->Shared->Prop}(h:Q (w.params.followText "set-order") s):wpAny (model prog w) A setsByText Q E s:=by
 unfold setsByText;exact ae (qq (au h))
theorem Jj(hL:Lies s.heap a es ep t)(ht:w.params.followText "set-order"=true){sl g:Nat}{Q:Option (Value×Nat)->Shared->Prop}(h:Q (((pickOrder (w.params.setOrder a ep) es)[g]?).map λe=>(e.2,sl)) s) :
  wpAny (model prog w) A (setNext a sl g ep) Q E s:=by
 obtain⟨o,ho,_,hd⟩:=hL.at_;unfold setNext;refine ae (cN ho hd hL.fit ?_);refine ae (wC ?_);rw[ht,aK rfl,aD (by simp)];unfold setWalk;refine ae (ae (cN ho hd hL.fit ?_));refine ae (wC ?_);rw[ht,aK rfl];exact ae (qq (au (au h)))
theorem JC(hL:Lies s.heap a es ep t)(ht:w.params.followText "set-order"=false)(hp:t.plain=true\/es.size<=1)(hl:t.led=true){sl g:Nat}{Q:Option (Value×Nat)->Shared->Prop}(h:Q (match es[SetTable.below t.place sl]?,t.place[SetTable.below t.place sl]? with|some (_,x),some j=>some (x,j+1)|_,_=>none) s):wpAny (model prog w) A (setNext a sl g ep) Q E s:=by
 obtain⟨o,ho,_,hd⟩:=hL.at_;unfold setNext;refine ae (cN ho hd hL.fit ?_);refine ae (wC ?_);rw[ht,aD (by decide)];show wpAny _ _ (if(!t.plain&&decide (es.size>1))=true then _ else _) _ _ _;rw[aD (by rcases hp with e|e<;>simp[e])];refine ae (eT (a:=()) ?_ (au h));show((if(!t.led&&!es.isEmpty)=true then unsupported "set:maker-not-led" else pure ()):Sem Unit)=pure ();rw[hl]
 rfl
theorem aO6(hL:Lies s.heap a es ep t){j:Nat}(hj:j<es.size){Q:Value->Shared->Prop}(h:Q (es.getD j (0,.none)).2 s):wpAny (model prog w) A (setNextDrawn a j ep) Q E s:=by
 obtain⟨o,ho,_,hd⟩:=hL.at_;unfold setNextDrawn;refine ae (cN ho hd hL.fit ?_);dsimp only;rw[aD (by simp)];have e:es[j]?=some (es.getD j (0,.none)):=by simp[Array.getD,hj]
 rw[e];exact au h
end
end ST

namespace ST
open PySem PyProof.Rows
section
variable{prog:Program}{w:World}{A:Around}{E:Value->Shared->Prop}{s:Shared}{a I b:Addr}{es:Array (Int×Value)}{ep:Nat}{t:SetTable}{pl:List Nat}
theorem II(hL:Lies s.heap a es ep t):t.place.size=es.size:=by
 have:=hL.fit;unfold SetTable.fits at this;simp at this;exact this.1
theorem Ju(hw:kA t.place){i:Nat}(hi:i<=t.place.size):SetTable.below t.place (slotAt t i)=i:=by
 cases i with
 |zero=>exact aR4 hw
 |succ i=>exact aR5 hw (by omega)
theorem entries{Q:Array (Int×Value)->Shared->Prop}(hL:Lies s.heap a es ep t)(h:Q es s):wpAny (model prog w) A (setEntries a) Q E s:=by
 obtain⟨o,ho,_,hd⟩:=hL.at_;unfold setEntries;exact ae (cN ho hd hL.fit (au h))
theorem Vz{f f':Value}{i n:Nat}{h:Heap}(hi:E3 h I a f i n ep){x:Value}(hx:x=rawInt ((i:Int)+1)):E3 ((h.update I (Obj.mapFields (·.setIfInBounds 0 f'))).update I (Obj.mapFields (·.setIfInBounds 1 x))) I a f' (i+1) n ep:=by
 obtain⟨o,ho,hc,hd⟩:=hi;have h1:=br (Obj.mapFields (·.setIfInBounds 0 f')) ho (eI (cj hd _));have d1:(Obj.mapFields (·.setIfInBounds 0 f') o).data=.fields #[f',rawInt i,.ref a,rawInt n,rawInt ep]:=by rw[cj hd];simp
 have h2:=br (Obj.mapFields (·.setIfInBounds 1 x)) h1 (eI (cj d1 _));refine⟨_,h2,(oj ..).trans ((oj ..).trans hc),?_⟩;rw[cj d1];subst hx;simp[rawInt]
theorem Vy{f:Value}{i n:Nat}{h:Heap}(hi:E3 h I a f i n ep){x:Value}(hx:x=rawInt ((i:Int)+1)):E3 (h.update I (Obj.mapFields (·.setIfInBounds 1 x))) I a f (i+1) n ep:=by
 obtain⟨o,ho,hc,hd⟩:=hi;have h2:=br (Obj.mapFields (·.setIfInBounds 1 x)) ho (eI (cj hd _));refine⟨_,h2,(oj ..).trans hc,?_⟩;rw[cj hd];subst hx;simp[rawInt]
theorem HH{α:Type}{f f' x:Value}{i n:Nat}{m:Sem α}{Q':α->Shared->Prop}(hi:E3 s.heap I a f i n ep)(hx:x=rawInt ((i:Int)+1))(h:∀h',E3 h' I a f' (i+1) n ep->Heap.SameBut I s.heap h'->wpAny (model prog w) A m Q' E { s with heap:=h' }) :
  wpAny (model prog w) A (do setField (.ref I) 0 f';setField (.ref I) 1 x;m) Q' E s:=by
 obtain⟨o,ho,hc,hd⟩:=id hi;refine ae (eR ho hd (by simp) ?_);have h1:=br (Obj.mapFields (·.setIfInBounds 0 f')) ho (eI (cj hd _));have d1:(Obj.mapFields (·.setIfInBounds 0 f') o).data=.fields #[f',rawInt i,.ref a,rawInt n,rawInt ep]:=by rw[cj hd];simp
 refine ae (eR (s:={ s with heap:=_ }) h1 d1 (by simp) ?_);exact h _ (Vz hi hx) ((cG ..).trans (cG ..))
theorem Wg{α:Type}{f x:Value}{i n:Nat}{m:Sem α}{Q':α->Shared->Prop}(hi:E3 s.heap I a f i n ep)(hx:x=rawInt ((i:Int)+1))(h:∀h',E3 h' I a f (i+1) n ep->Heap.SameBut I s.heap h'->wpAny (model prog w) A m Q' E { s with heap:=h' }) :
  wpAny (model prog w) A (do setField (.ref I) 1 x;m) Q' E s:=by
 obtain⟨o,ho,hc,hd⟩:=id hi;refine ae (eR ho hd (by simp) ?_);exact h _ (Vy hi hx) (cG ..)
theorem CQ{α:Type}(next:Nat->Nat)(xs:Array α):(pickOrder next xs).toList.Perm xs.toList:=by
 have go:∀(fuel k:Nat) (left:List α) (out:Array α),fuel=left.length->(pickOrder.go next fuel k left out).toList.Perm (out.toList++left):=by
  intro fuel
  induction fuel with
  |zero =>
   intro k left out e;have:left=[]:=fN e.symm;subst this;simp[pickOrder.go]
  |succ n ih =>
   intro k left out e;have et:next k % left.length<left.length:=Mu _ (by omega)
   unfold pickOrder.go;rw[ah et];refine(ih _ _ _ (by rw[gz et];omega)).trans ?_;rw[Array.toList_push,cx];refine List.Perm.append_left _ ?_;have:left.Perm (left[next k % left.length]::left.eraseIdx (next k % left.length)):=by
    rw[kS]
    conv=>lhs;rw[<- iW (next k % left.length) left,eM et]
    exact List.perm_middle
   exact this.symm
 have:=go xs.size 0 xs.toList #[] (by simp);simpa[pickOrder] using this
theorem next_item{r:Rd}{i:Nat}{f:Value}{Q:Option Value->Shared->Prop}(hL:Lies s.heap a es ep t)(hr:tN w es t pl r)(hi:E3 s.heap I a f i es.size ep)(hf:N8 s.heap t b pl i f r)(dF:b≠I)(et:i<es.size)(h:∀v h' f',(wA w a es ep pl r)[i]?=some v->E3 h' I a f' (i+1) es.size ep->N8 h' t b pl (i+1) f' r->Heap.SameBut I s.heap h'->Q (some v) { s with heap:=h' }):wpAny (model prog w) A (pyNext (.ref I)) Q E s:=by
 obtain⟨o,ho,hc,hd⟩:=id hi;unfold pyNext;refine ae (wpAny_attempt (fC (name:=Str.ofString "__next__") hi.ty C2 (cz C2 hi.ty JM ?_ (JX _))));unfold Builtin.«set_iterator.__next__»;refine ae (au ?_);refine ae (wpAny_fieldsOf ho hd ?_);dsimp only[rawInt];refine ae (entries hL ?_);rw[aD (by simp)];rw[bO,bO];cases r with
 |text =>
  obtain⟨k,rfl⟩:=hf;dsimp only[rawInt];refine ae (Jj hL hr ?_);have hl:i<(pickOrder (w.params.setOrder a ep) es).size:=by
   have:=(CQ (w.params.setOrder a ep) es).length_eq;simp at this;omega
  rw[gK hl];refine HH hi rfl λh' h1 h2=>au ⟨_,rfl,au (h _ _ _ ?_ h1 ⟨_,rfl⟩ h2)⟩;show((pickOrder (w.params.setOrder a ep) es).toList.map (·.2))[i]?=_;simp[hl]
 |plain =>
  obtain⟨r1,r2,r3⟩:=hr;have hs:=II hL;obtain rfl:=hf;dsimp only[rawInt];rw[bO];refine ae (JC hL r1 r2 r3.led ?_);rw[Ju r3.xt (by omega),gK et,getD_mem (by omega)];refine HH hi rfl λh' h1 h2=>au ⟨_,rfl,au (h _ _ _ ?_ h1 rfl h2)⟩;show(es.toList.map (·.2))[i]?=_;simp[et]
 |drawn =>
  obtain⟨r1,r2⟩:=hr;obtain⟨rfl,ob,e,hb,GA,xS⟩:=hf;have fX:i<pl.length:=by rw[r2.length_eq];simpa using et
  dsimp only;refine ae (wpAny_seqItems hb xS ?_);have hj:pl[i]<es.size:=by
   have:=r2.mem_iff.mp (cc fX);simpa using this
  have e1:(pl.map λj=>rawInt (j:Nat)).toArray[i]?=some (rawInt (pl[i]:Nat)):=by simp[fX]
  dsimp only;rw[e1];dsimp only[rawInt];rw[bO];refine ae (aO6 hL hj ?_);refine Wg hi rfl λh' h1 h2=>au ⟨_,rfl,au (h _ _ _ ?_ h1 ⟨rfl,ob,e,by rw[h2.2 b dF];exact hb,GA,xS⟩ h2)⟩;show(pl.map λj=>(es.getD j (0,.none)).2)[i]?=_;simp[fX]
theorem CS{Q:Option Value->Shared->Prop}{I:Addr}{h0:Heap}(hh:A.handled=none)(Pp:Heap.ExtBut I h0 s.heap)(h:∀h',Heap.ExtBut I h0 h'->Q none { s with heap:=h' }) :
  wpAny (model prog w) A.in1 (newExc (.type "StopIteration") [] >>= λe=>(raiseNew e:Sem Fin)) (λfin s'=>∃v,fin=Fin.done (Flow.ret v)/\wpAny (model prog w) A (pure (some v)) Q E s')
   (λe s'=>wpAny (model prog w) A (do
     let x <- isInstance e (Value.type "StopIteration")
     if x=true then pure none else throw e) Q E s') s:=by
 refine ae ?_;simp only[newExc,newTuple];refine ae (bV ?_ (by size_fits));refine ae (m:=firstArgMember _ _) (eT (a:=Value.none) (by first|rfl|(simp only[firstArgMember];rfl)) ?_);refine bV ?_ (by size_fits);simp only[raiseNew];refine ae (wpAny_handled ?_);rw[show A.in1.handled=none from hh];refine ae (au (wpAny_throw ?_));refine ae (fY (T:="StopIteration") (b:=true) ⟨_,az _ rfl,rfl⟩ isSubtype_stop ?_);exact au (h _ ((Pp.push _).push _))
theorem next_end{r:Rd}{f:Value}{Q:Option Value->Shared->Prop}(hh:A.handled=none)(hL:Lies s.heap a es ep t)(hr:tN w es t pl r)(hi:E3 s.heap I a f es.size es.size ep)(hf:N8 s.heap t b pl es.size f r)(dF:b≠I)(h:∀h',Heap.ExtBut I s.heap h'->Q none { s with heap:=h' }):wpAny (model prog w) A (pyNext (.ref I)) Q E s:=by
 obtain⟨o,ho,hc,hd⟩:=id hi;unfold pyNext;refine ae (wpAny_attempt (fC (name:=Str.ofString "__next__") hi.ty C2 (cz C2 hi.ty JM ?_ (JX _))));unfold Builtin.«set_iterator.__next__»;refine ae (au ?_);refine ae (wpAny_fieldsOf ho hd ?_);dsimp only[rawInt];refine ae (entries hL ?_);rw[aD (by simp)];rw[bO,bO];cases r with
 |text =>
  obtain⟨k,rfl⟩:=hf;dsimp only[rawInt];refine ae (Jj hL hr ?_);have hl:(pickOrder (w.params.setOrder a ep) es).size<=es.size:=by
   have:=(CQ (w.params.setOrder a ep) es).length_eq;simp at this;omega
  rw[uo hl];refine ae (eR ho hd (by simp) ?_);exact CS (s:={ s with heap:=_ }) hh (cG ..).extBut h
 |plain =>
  obtain⟨r1,r2,r3⟩:=hr;have hs:=II hL;obtain rfl:=hf;dsimp only[rawInt];rw[bO];refine ae (JC hL r1 r2 r3.led ?_);rw[Ju r3.xt (by omega),uo (av _)];refine ae (eR ho hd (by simp) ?_);exact CS (s:={ s with heap:=_ }) hh (cG ..).extBut h
 |drawn =>
  obtain⟨r1,r2⟩:=hr;obtain⟨rfl,ob,e,hb,GA,xS⟩:=hf;have fX:pl.length=es.size:=by rw[r2.length_eq];simp
  dsimp only;refine ae (wpAny_seqItems hb xS ?_);have e1:(pl.map λj=>rawInt (j:Nat)).toArray[es.size]?=none:=by simp[fX]
  dsimp only;rw[e1];dsimp only[rawInt];refine ae (eR ho hd (by simp) ?_);have h1:=br (Obj.mapFields (·.setIfInBounds 0 (Value.int 0 0))) ho (eI (cj hd _));refine ae (eR (s:={ s with heap:=_ }) h1 (cj hd _) (by simp) ?_);exact CS (s:={ s with heap:=_ }) hh ((cG ..).trans (cG ..)).extBut h
end
end ST

namespace ST
open PySem PyProof.Rows
section
variable{prog:Program}{w:World}{A:Around}{E:Value->Shared->Prop}{s:Shared}{a I b:Addr}{es:Array (Int×Value)}{ep:Nat}{t:SetTable}{pl:List Nat}
theorem ZV{α:Type}{l:List α}{k:Nat}(et:k<l.length):(l[k]::l.eraseIdx k).Perm l:=by
 rw[kS]
 conv=>rhs;rw[<- iW k l,eM et]
 exact List.perm_middle.symm
theorem Jz{α:Type}:∀(n:Nat) (xs:List α) (s:Shared) (Q:List α->Shared->Prop),n=xs.length->(∀ys d,ys.Perm xs->Q ys { s with drawn:=d })->wpAny (model prog w) A (drawOrder n xs) Q E s
 |0,xs,s,Q,e,h=>by
  have:xs=[]:=fN e.symm;subst this;exact au (h [] s.drawn (List.Perm.refl _))
 |n+1,[],s,Q,e,h=>by simp at e
 |n+1,x::xs,s,Q,e,h=>by
  unfold drawOrder;refine ae ?_;intro Γ p hΓ;refine⟨by simp,?_⟩;generalize (model prog w).w.draws .order (s.drawn.get .order)=k;have et:k % (x::xs).length<(x::xs).length:=Mu _ (by simp);have go:wpAny (model prog w) A (match (x :: xs)[k % (x :: xs).length]? with
   |some y=>do
    let ys <- drawOrder n ((x::xs).eraseIdx (k % (x::xs).length))
    pure (y::ys)
   | none=>unsupported "internal:drawOrder") Q E { s with drawn:=s.drawn.bump .order }:=by
   rw[ah et];refine ae (Jz n _ _ _ (by rw[gz et];simp at e ⊢;omega) λys d hp=>au ?_);exact h _ d ((List.Perm.cons _ hp).trans (ZV et))
  exact go
theorem LK{r:Rd}(hr:tN w es t pl r):(wA w a es ep pl r).Perm (es.toList.map (·.2)):=by
 cases r with
 |text=>exact(CQ _ es).map _
 |plain=>exact List.Perm.refl _
 |drawn =>
  refine(hr.2.map _).trans ?_;have:(List.range es.size).map (λj=>(es.getD j (0,.none)).2)=es.toList.map (·.2):=by
   apply List.ext_getElem
   ·simp
   ·intro i h1 h2;simp at h1;simp[Array.getD,h1]
  rw[this]
theorem Lies.ty(hL:Lies s.heap a es ep t):s.TypeIs (.ref a) "set":=let ⟨o,e,c,_⟩:=hL.at_;⟨o,e,c⟩
theorem a40(hL:Lies s.heap a es ep t)(hw:Well (Led w) t)(hz:es.size<=10000){Q:Value->Shared->Prop}(h:∀r pl b f I h' d',tN w es t pl r->E3 h' I a f 0 es.size ep->N8 h' t b pl 0 f r->b≠I->(b=a\/s.heap.objs.size<=b)->(∀c o,s.heap.get? c=some o->h'.get? c=some o)->s.heap.objs.size<=I->s.heap.objs.size<=h'.objs.size->Q (.ref I) { s with heap:=h',drawn:=d' }) :
  wpAny (model prog w) A (pyIter (.ref a)) Q E s:=by
 obtain⟨o,ho,As,hd⟩:=hL.at_;refine wpAny_pyIter_slot hL.ty F.slot_set_iter (cz F.slot_set_iter hL.ty aE1 ?_ (F.args_set_iter_1 _));unfold Builtin.«frozenset.__iter__»;refine ae (au ?_);unfold Builtin.Frozenset.sizeOf;refine ae (ae (entries hL (au ?_)));unfold setDrawn;refine ae (ae (cN ho hd hL.fit ?_));refine ae (wC (au ?_));have et:=ax ho;have fin:∀(r:Rd) (f:Value) (b:Addr) (pl:List Nat) (h1:Heap) (d1:Drawn),tN w es t pl r->(∀h',(∀c o,h1.get? c=some o->h'.get? c=some o)->N8 h' t b pl 0 f r)->b<h1.objs.size->(b=a\/s.heap.objs.size<=b)->(∀c o,s.heap.get? c=some o->h1.get? c=some o)->s.heap.objs.size<=h1.objs.size ->
   wpAny (model prog w) A.in1 (do
    let e <- setEpoch a
    ret (<- newFields "set_iterator" [f,rawInt 0,.ref a,rawInt es.size,rawInt e])) (λfin s'=>∃ v,fin=Fin.done (Flow.ret v)/\∃ T' r,s'.TypeIs v T'/\typeLookup (.type T') "__next__"=pure (some r)/\Q v s') E { s with heap:=h1,drawn:=d1 }:=λr f b pl h1 d1 hr hf hb AK he hsz=>by
  have nX:Lies h1 a es ep t:=hL.at λo e=>he a o e;obtain⟨o1,NY,_,Gz⟩:=nX.at_;unfold setEpoch;refine ae (ae (cN (s:={ s with heap:=h1,drawn:=d1 }) NY Gz nX.fit (au ?_)));refine ae (bV (au ⟨_,rfl,"set_iterator",_,⟨_,az _ rfl,rfl⟩,C2.lookup,?_⟩));refine h r pl b f h1.objs.size _ d1 hr ⟨_,az _ rfl,rfl,rfl⟩ (hf _ λc o e=>ao _ e) (aN hb) AK (λc o e=>ao _ (he c o e)) hsz (by rw[hV];exact Nat.le_succ_of_le hsz)
 have e0:s={ s with heap:=s.heap,drawn:=s.drawn }:=rfl;cases hT:w.params.followText "set-order" with
 |true =>
  dsimp only[Bool.not_true,Bool.false_and];rw[aD (by simp)];refine ae (au ?_);rw[e0];exact fin .text (rawInt 0) a [] s.heap s.drawn hT (λh' _=>⟨0,rfl⟩) et (.inl rfl) (λc o e=>e) (av _)
 |false =>
  show wpAny _ _ (if(!false&&(!t.plain&&decide (es.size>1)))=true then _ else _ ) _ _ _;by_cases hp:t.plain=true\/es.size<=1
  ·rw[aD (by rcases hp with e|e<;>simp[e])];refine ae (au ?_);rw[e0];refine fin .plain (rawInt 0) a [] s.heap s.drawn ⟨hT,hp,?_⟩ (λh' _=>rfl) et (.inl rfl) (λc o e=>e) (av _);have:Led w=true:=by unfold Led;rw[hT];rfl
   rw[<- this];exact hw
  ·have h1:t.plain=false:=by cases hq:t.plain with|true=>exact absurd (.inl hq) hp|false=>rfl
   have h2:¬es.size<=1:=λz=>hp (.inr z);rw[aK (by simp[h1];omega)];refine ae (Jz _ _ _ _ (List.length_range).symm λys d hy=>?_);have hl:ys.length=es.size:=by rw[hy.length_eq];simp
   refine ae (bV ?_ (by show(List.map _ ys).toArray.size<=sizeLine;rw[aG,ag,hl];exact aE hz (by decide)));refine fin .drawn (.ref s.heap.objs.size) s.heap.objs.size ys _ d ⟨hT,hy⟩ (λh' hk=>⟨rfl,_,_,hk _ _ (az _ rfl),rfl,rfl⟩) (by rw[hV];exact eJ _) (.inr (av _)) (λc o e=>ao _ e) (by rw[hV];exact gR _)
theorem aU1(hh:A.handled=none){r:Rd}(hr:tN w es t pl r)(dF:b≠I)(Oa:a≠I) :
  Walks prog w A I [I,a,b] [I] es.size (λi v=>(wA w a es ep pl r)[i]?=some v) (λi h=>Lies h a es ep t/\∃f,E3 h I a f i es.size ep/\N8 h t b pl i f r) where
 sub:=λc hc=>by simp at hc;simp[hc]
 frame:=λi h h' st hk=>by
  obtain⟨hL,f,hi,hf⟩:=st;refine⟨hL.at λo e=>hk a (by simp) o e,f,hi.at λo e=>hk I (by simp) o e,?_⟩;cases r with
  |text=>exact hf
  |plain=>exact hf
  |drawn =>
   obtain⟨e1,o,e,h1,h2⟩:=hf;exact⟨e1,o,e,hk b (by simp) o h1,h2⟩
 item:=λi s Q E hi st hQ=>by
  obtain⟨hL,f,hI,hf⟩:=st;exact next_item hL hr hI hf dF hi λv h' f' hv h1 h2 h3=>hQ v h' s.toks hv ⟨hL.at λo e=>by rw[h3.2 a Oa];exact e,f',h1,h2⟩ λc o hc e=>h3.extBut c o (λz=>hc (by simp[z])) e
 done:=λs Q E st hQ=>by
  obtain⟨hL,f,hI,hf⟩:=st;exact next_end hh hL hr hI hf dF λh' he=>hQ h' s.toks λc o hc e=>he c o (λz=>hc (by simp[z])) e
 self:=λi s Q E st hQ=>by
  obtain⟨hL,f,hI,hf⟩:=st;refine wpAny_pyIter_slot hI.ty Ka (cz Ka hI.ty aH4 ?_ (aF5 _));exact ae (au (au ⟨_,rfl,"set_iterator",_,hI.ty,C2.lookup,hQ⟩))
end
end ST

namespace ST
open PySem PyProof.Rows
theorem aC6:typeLookup (.type "set") "__len__"=pure (some (.builtin "set.__len__")):=by rw[gJ,eG];kernel_rfl
section
variable{prog:Program}{w:World}{A:Around}{E:Value->Shared->Prop}{s:Shared}{a I b:Addr}{es:Array (Int×Value)}{ep:Nat}{t:SetTable}{pl:List Nat}
theorem aG5(hh:A.handled=none)(hL:Lies s.heap a es ep t)(hw:Well (Led w) t)(hz:es.size<=10000){Q:List Value->Shared->Prop}(h:∀(vs:List Value) h' d' jw,vs.Perm (es.toList.map (·.2))->(∀c o,s.heap.get? c=some o->h'.get? c=some o)->s.heap.objs.size<=h'.objs.size->s.toks<=jw->Q vs { s with heap:=h',drawn:=d',toks:=jw }) :
  wpAny (model prog w) A (collect (.ref a)) Q E s:=by
 have et:a<s.heap.objs.size:=let ⟨o,ho,_⟩:=hL.at_;ax ho
 unfold collect;refine ae (zm (dG F.entry_proto_collect ?_));rw[cX F.plain_proto_collect _];show wpAny _ A.in1 (newList [] >>= λl=>again (.builtin "list.__iadd__" ⟨[l,.ref a],[]⟩)) _ _ s;refine ae (bV ?_);refine au ⟨gh iP _,dG F.entry_list_iadd ?_⟩;rw[cX iP _];have nX:Lies (s.heap.push { cls:=.type "list",data:=.seq ([]:List Value).toArray }) a es ep t:=hL.at λo e=>ao _ e;have AS:(s.heap.push { cls:=.type "list",data:=.seq ([]:List Value).toArray }).get? s.heap.objs.size=some { cls:=.type "list",data:=.seq ([]:List Value).toArray }:=az _ rfl;have dF:s.heap.objs.size≠a:=bE et;have h1:Builtin.List.listSameRef (.ref s.heap.objs.size) (.ref a)=false:=by simp[Builtin.List.listSameRef,dF]
 show wpAny _ A.in1 (Builtin.List.listExtendWith (.ref s.heap.objs.size) (.ref a) (.ref s.heap.objs.size)) _ _ _;unfold Builtin.List.listExtendWith;refine ae (dM (Lies.ty (s:={ s with heap:=_ }) nX) ?_);rw[aD (by rw[h1];decide)];refine ae (a40 (s:={ s with heap:=_ }) nX hw hz λr pl b f I h2 d2 hr hI hf hb OK he AX h2z=>?_);have mB:Lies h2 a es ep t:=nX.at λo e=>he a o e;have pR:=he _ _ AS;refine ae (bP ?_);unfold Builtin.List.listLengthHint;refine ae (wpAny_specialOf (Lies.ty (s:={ s with heap:=h2,drawn:=d2 }) mB) aC6 ?_);generalize vq:("set.__len__":String)=Ad;dsimp only;rw[show splitId Ad=some ("set","__len__") from by subst vq;decide +kernel];dsimp only;refine ae (fY (b:=true) (Lies.ty (s:={ s with heap:=h2,drawn:=d2 }) mB) (by rw[fM];kernel_rfl) ?_);rw[aD (by decide)];subst vq;rw[aK (by decide +kernel)];refine ae (dM (Lies.ty (s:={ s with heap:=h2,drawn:=d2 }) mB) ?_);refine au ?_;rw[aK (by decide +kernel)];refine ae (fm ?_);refine ae ?_;show wpAny _ A.in1 (updateSeq s.heap.objs.size (·.push .none) >>= λ_=>updateSeq s.heap.objs.size (·.pop)) _ _ _;refine ae (jO (s:={ s with heap:=h2,drawn:=d2 }) pR rfl ?_);have vE:=br (Obj.mapSeq (·.push Value.none)) pR rfl;refine jO (s:={ s with heap:=_,drawn:=d2 }) vE rfl ?_;have AR:=br (Obj.mapSeq (·.pop)) vE rfl;have uK:∀c o,c≠s.heap.objs.size->h2.get? c=some o->((h2.update s.heap.objs.size (Obj.mapSeq (·.push Value.none))).update s.heap.objs.size (Obj.mapSeq (·.pop))).get? c=some o :=
  λc o hc e=>(cO _ _ (bT hc)).trans ((cO _ _ (bT hc)).trans e)
 have mr:s.heap.objs.size<(s.heap.push { cls:=.type "list",data:=.seq ([]:List Value).toArray }).objs.size:=by rw[hV];exact eJ _
 have OQ:I≠s.heap.objs.size:=bE (ay mr AX);have hSb:b≠s.heap.objs.size:=by
  rcases OK with z|z
  ·rw[z];exact bT dF
  ·exact bE (ay mr z)
 have W:=(aU1 (prog:=prog) (w:=w) (A:=A.in1) (a:=a) (b:=b) (I:=I) (es:=es) (ep:=ep) (t:=t) (pl:=pl) hh hr hb (aN (ay (cM et mr) AX))).toS;have st:Lies h2 a es ep t/\∃f,E3 h2 I a f 0 es.size ep/\N8 h2 t b pl 0 f r:=⟨mB,f,hI,hf⟩
 have jZ:=W.frame 0 ({ s with heap:=h2,drawn:=d2 }:Shared) _ s.toks st (av _) λc hc o e=>uK c o (λz=>by simp at hc;rcases hc with y|y|y<;>simp_all) e;refine au ⟨gh F.plain_extend_loop _,codeAny_extend_loopS W (aE hz (by decide)) _ (λz=>by simp at z;rcases z with y|y|y<;>simp_all) _ es.size 0 _ _ _ rfl (cJ _) jZ AR (ItemsOf.nil _) λs' sv c' hm lq jt=>?_⟩;show wpAny _ A (load s.heap.objs.size >>= _) _ _ s';refine ae (wpAny_load lq ?_);refine au ?_;have eS:s'={ s with heap:=s'.heap,drawn:=d2,toks:=s'.toks }:=by
  obtain⟨jz,g',d',jw,qQ⟩:=s';have m1:g'=s.gens:=hm.gens;have m2:d'=d2:=hm.drawn;have m3:qQ=s.os:=hm.os;subst m1;subst m2;subst m3
  rfl
 have eo:sv.toList=wA w a es ep pl r:=by
  have l1:(wA w a es ep pl r).length=es.size:=by rw[(LK hr).length_eq];simp
  apply List.ext_getElem
  ·rw[l1];simpa using jt.1
  ·intro i h1 h2;have:=jt.2 i sv.toList[i] (by simp at h1 ⊢);dsimp only at this;rw[ah h2] at this;exact(aO this).symm
 rw[eo,eS];refine h _ _ d2 s'.toks (LK hr) (λc o e=>?_) (du (ax lq)) hm.toks;have hc:c<s.heap.objs.size:=ax e;have n1:c≠s.heap.objs.size:=aN hc;have n2:c≠I:=aN (ay (cM hc mr) AX);exact hm.heap c o (by simp[n1,n2]) (uK c o n1 (he c o (ao _ e)))
theorem aM7{ks:List Int}(hh:A.handled=none)(hS:u6 prog w s.heap a ks)(Bf:ks.length<64){Q:Value->Shared->Prop}(h:∀(S:Addr) (vs:List Value) (ns:List Int) e h' d' jw,IntsAre vs ns->ns.Perm ks->ns.Pairwise (·<=·)->h'.get? S=some (seqObj "list" vs.toArray e)->s.heap.objs.size<=S->(∀c o,s.heap.get? c=some o->h'.get? c=some o)->s.toks<=jw->Q (.ref S) { s with heap:=h',drawn:=d',toks:=jw }) :
  wpAny (model prog w) A (call (.builtin "sorted") [.ref a]) Q E s:=by
 obtain⟨o,es,ep,t,ho,hx,hd,rj,hp,hn,hb,hf,hw⟩:=hS;have hL:Lies s.heap a es ep t:=⟨⟨o,ho,hx.1,hd⟩,hf⟩
 have hz:es.size=ks.length:=by rw[<- hp.length_eq];simp
 refine iE kind_sorted plain_sorted entry_sorted (args_sorted1 _) ?_;unfold Builtin.«sorted»;refine ae (m:=checkCount "sorted" 1 1 _) (au ?_);refine ae (aG5 (A:=A.in1) hh hL hw (by omega) λvs h1 d1 qz hv he mr sZ=>?_);have hI:IntsAre vs (vs.map toI):=by
  have all:∀v∈vs,∃tk,v=.int (toI v) tk:=λv Ai=>by
   obtain⟨e,rm,rfl⟩:=aM.mp (hv.mem_iff.mp Ai);obtain⟨tk,h1,_⟩:=KG rj rm;exact⟨tk,h1⟩
  clear hv
  induction vs with
  |nil=>exact .nil
  |cons v r ih =>
   obtain⟨tk,e⟩:=all v (by simp);have:=IntsAre.cons (toI v) tk (ih λu hu=>all u (by simp[hu]));rw[<- e] at this;exact this
 have hk:(vs.map toI).Perm ks:=by
  refine(hv.map toI).trans ?_;rw[bu];exact hp
 have hl:vs.length<64:=by rw[hv.length_eq];simp;omega
 refine ae (Mp (s:={ s with heap:=h1,drawn:=d1,toks:=qz }) ?_);have lO:(h1.push (seqObj "list" vs.toArray 0)).get? h1.objs.size=some (seqObj "list" vs.toArray 0):=az _ rfl;refine ae (bP (cz (s:={ s with heap:=h1.push (seqObj "list" vs.toArray 0),drawn:=d1,toks:=qz }) slot_list_sort ⟨_,lO,rfl⟩ entry_list_sort (list_sort_tree lO hI hl λout jI a1 a2 a3=>⟨_,rfl,?_⟩) (args_list_sort _)));obtain⟨e,rm⟩:=sortedHeap_at (vs:=vs) (out:=out) lO;refine au ⟨_,rfl,h h1.objs.size out.toList jI e _ d1 qz a1 (a2.trans hk) a3 rm mr (λc o' e'=>?_) sZ⟩;have hc:=ax (he c o' e');rw[sortedHeap_old (aN hc) (by rw[hV];exact kC hc)];exact ao _ (he c o' e')
end
end ST

namespace ST
open PySem PyProof.Rows
def j4(ks xs:List Int):List Int:=xs.foldl B7 ks
theorem L9:∀(xs ks:List Int),(j4 ks xs).length<=ks.length+xs.length
 |[],ks=>by simp[j4]
 |x::xs,ks=>by
  have:=L9 xs (B7 ks x);have h2:=Vc ks x;show(j4 (B7 ks x) xs).length<=_;simp only[List.length_cons];omega
theorem Du:∀(xs ks:List Int) (k:Int),k∈j4 ks xs↔k∈ks\/k∈xs
 |[],ks,k=>by simp[j4]
 |x::xs,ks,k=>by
  show k∈j4 (B7 ks x) xs↔_;rw[Du xs];unfold B7;split
  ·rename_i h;constructor
   ·rintro(a|a)
    ·exact .inl a
    ·exact .inr (by simp[a])
   ·rintro(a|a)
    ·exact .inl a
    ·rcases aI.mp a with rfl|b
     ·exact .inl h
     ·exact .inr b
  ·simp[or_assoc]
theorem Dj:∀(xs ks:List Int),ks.Nodup->(j4 ks xs).Nodup
 |[],ks,h=>h
 |x::xs,ks,h=>by
  show(j4 (B7 ks x) xs).Nodup;refine Dj xs _ ?_;unfold B7;split
  ·exact h
  ·rename_i hk;rw[cw];exact⟨h,by simp,λa ha b hb=>by simp at hb;subst hb;exact λz=>hk (z▸ha)⟩
section
variable{prog:Program}{w:World}{A:Around}{E:Value->Shared->Prop}{s:Shared}{a:Addr}
theorem aQ3:Well (Led w) (SetTable.fresh 0 0 (Led w)):=⟨by simp[kA,SetTable.fresh],rfl,rfl⟩
theorem Ja{h:Heap}(e:h.get? a=some { cls:=.type "set",dict:=none,data:=.set #[] 0 (.fresh 0 0 (Led w)) }):u6 prog w h a [] :=
 ⟨_,#[],0,_,e,⟨rfl,rfl,rfl⟩,rfl,(by intro e he;simp at he),by simp,by simp,by decide,by rfl,aQ3⟩
theorem a28{R:Result->Shared->Prop}{I:Addr}{fp wr:List Addr}{G:Array GenState->Array GenState->Prop}{n:Nat}{P:Nat->Value->Prop}{St:Nat->Shared->Prop}(W:WalksS prog w A.in1 I fp wr G n P St)(GD:a∉fp){ns:List Int}(hn:n=ns.length)(hv:∀i v,P i v->∃tk,v=.int (ns.getD i 0) tk)(hb:n+1<scanBound):∀(k i:Nat) (s:Shared),i+k=n->St i s->u6 prog w s.heap a (j4 [] (ns.take i)) ->
   (∀s',Moved (a::wr) G s s'->u6 prog w s'.heap a (j4 [] ns)->R (.ok (.ret .none)) s')->codeAny (model prog w) A (.builtin "set.update.loop" ⟨[.ref a,.ref I],[]⟩) R s:=by
 have hw:a∉wr:=λh=>GD (W.sub _ h);have uA:∀b∈wr,b∈a::wr:=λb hb=>by simp[hb]
 intro k
 induction k with
 |zero =>
  intro i s e st hS hR;obtain rfl:i=n:=by omega
  refine dG jC ?_;rw[cX eP _];unfold Builtin.«set.update.loop»;refine ae (W.done s _ _ st λs' m=>au (hR s' (m.mono uA) (u6.at ?_ λo e=>m.heap a o hw e)));rw[hn,bJ] at hS;exact hS
 |succ k ih =>
  intro i s e st hS hR;have et:i<ns.length:=by omega
  refine dG jC ?_;rw[cX eP _];unfold Builtin.«set.update.loop»;refine ae (W.item i s _ _ (by omega) st λv s' hP lK m=>?_);obtain⟨tk,rfl⟩:=hv i v hP;have lq:=u6.at hS λo e=>m.heap a o hw e;have hl:=L9 (ns.take i) [];rw[cZ] at hl;simp only[List.length_nil] at hl;refine ae (bP ?_);unfold setAdd;refine bP (ae ((intKind prog w).pyHash (k:=ns.getD i 0) (fZ _ _ _ _) ?_));refine HR (s:={ s' with toks:=s'.toks+1 }) lq (by omega) λh' bb sb pR=>?_;have e2:B7 (j4 [] (ns.take i)) (ns.getD i 0)=j4 [] (ns.take (i+1)):=by
   unfold j4;rw[bx,List.foldl_append,ah et];simp[List.getD,et]
  rw[e2] at pR;refine au ⟨gh eP _,ih (i+1) _ (by omega) (W.frame _ s' _ _ lK (gR _) λb hb o e=>by rw[sb.2 b λz=>GD (z▸hb)];exact e) pR λs2 m2 h2=>?_⟩;exact hR s2 (Moved.trans W.gtrans ((m.mono uA).then_heap (gR _) λb o hb e=>by rw[sb.2 b λz=>hb (by rw[z];simp)];exact e) m2) h2
end
end ST

namespace ST
open PySem PyProof.Rows
section
variable{prog:Program}{w:World}{A:Around}{E:Value->Shared->Prop}{s:Shared}{a:Addr}
noncomputable abbrev A2(w:World):Obj:={ cls:=.type "set",dict:=none,data:=.set #[] 0 (.fresh 0 0 (Led w)) }
theorem KS{Q:Value->Shared->Prop}(h:Q (.ref s.heap.objs.size) { s with heap:=s.heap.push (A2 w) }):wpAny (model prog w) A (newSet (.type "set")) Q E s:=by
 unfold newSet;refine ae (wC ?_);exact bV h (cJ _)
theorem a99(x:Value){Q:Value->Shared->Prop}(h:Q (.ref s.heap.objs.size) { s with heap:=s.heap.push (A2 w) }):codeAny (model prog w) A (.call (.builtin "set.__new__") ⟨[.type "set",x],[]⟩) (wants Q E) s:=by
 refine uc (?_:wpAny _ A.in1 (do
  checkBuiltinCall "set.__new__" ⟨[.type "set",x],[]⟩
  again (.builtin "set.__new__" ⟨[.type "set",x],[]⟩)) _ _ s)
 refine ae (eT (F.newCall_set_1 x) (au ⟨gh F.plain_set_new _,?_⟩));refine dG F.entry_set_new ?_;rw[cX F.plain_set_new _];unfold Builtin.«set.__new__»;have sub:=sub_set_self;refine ae (m:=Builtin.Frozenset.newClass "set" _) ?_;unfold Builtin.Frozenset.newClass;dsimp only;refine ae (eT (a:=true) (by first|rfl|(simp[isType];rfl)) ?_);rw[aD (by decide)];refine ae (eT sub ?_);rw[aD (by decide)];refine au ?_;exact ae (KS (au h))
theorem E1{vs:List Value}{ns:List Int}(h:IntsAre vs ns):vs.length=ns.length:=by
 induction h with
 |nil=>rfl
 |cons n t r ih=>simp[ih]
def wJ(h:Heap)(l:Addr)(items:Array Value):Prop:=h.IsList l items\/h.IsTuple l items
theorem wJ.lt{h:Heap}{l:Addr}{items:Array Value}(x:wJ h l items):l<h.objs.size:=by
 rcases x with⟨_,e,_⟩|⟨_,e,_⟩<;>exact ax e
theorem a93{l:Addr}{items:Array Value}{ns:List Int}{Q:Fin->Shared->Prop}(hh:A.handled=none)(hS:s.heap.get? a=some (A2 w))(hl:wJ s.heap l items)(hi:IntsAre items.toList ns)(hb:items.size+1<scanBound)(dF:a≠l)(h:∀h' tk,u6 prog w h' a (j4 [] ns)->(∀b o,b≠a->s.heap.get? b=some o->h'.get? b=some o)->s.toks<=tk->wpAny (model prog w) A (ret .none) Q E { s with heap:=h',toks:=tk }) :
  wpAny (model prog w) A (Builtin.«set.__init__» ⟨[.ref a,.ref l],[]⟩) Q E s:=by
 have hT:s.TypeIs (.ref a) "set":=⟨_,hS,rfl⟩
 have hLi:Lies s.heap a #[] 0 (SetTable.fresh 0 0 (Led w)):=⟨⟨_,hS,rfl,rfl⟩,rfl⟩
 have et:=hl.lt;have Gd:l≠s.heap.objs.size:=aN et;unfold Builtin.«set.__init__» noKeywords;dsimp only;refine ae (eT (a:=()) rfl ?_);have nm:∀{Q':String->Shared->Prop},(∀x,Q' x s)->wpAny (model prog w) A (typeNameOfCut 200 (.ref a)) Q' E s:=λ{Q'} q=>by
  unfold typeNameOfCut shownTypeOf;refine ae (ae (dM hT ?_));rw[aD (by decide)];refine au (eT (a:="set") ?_ (q _));unfold typeNameCut;dsimp only
  first|(unfold typeName;rw[find?_eq_fast];kernel_rfl)|kernel_rfl
 refine ae (nm λx=>?_);refine ae (m:=checkCount _ 0 1 _) (au ?_);refine ae (m:=Builtin.Frozenset.addrOf _) (au ?_);unfold setUsed;refine ae (ae (cN hS rfl rfl (au ?_)));rw[aD (by show ¬((SetTable.fill (SetTable.fresh 0 0 (Led w)) != 0)=true);unfold SetTable.fill;simp[SetTable.fresh])];unfold Builtin.Frozenset.updateFrom Builtin.Frozenset.isAnySet;obtain⟨c,tB,AQ,it,hit,Gi,St,W,fc⟩:∃c:String,(c="list"\/c="tuple")/\s.TypeIs (.ref l) c/\∃it:Obj,(∀Q':Value->Shared->Prop,Q' (.ref s.heap.objs.size) { s with heap:=s.heap.push it }->wpAny (model prog w) A (pyIter (.ref l)) Q' E s) /\
   (∀b o,s.heap.get? b=some o->(s.heap.push it).get? b=some o)/\∃St:Nat->Shared->Prop,WalksS prog w A.in1 s.heap.objs.size [s.heap.objs.size,l] [s.heap.objs.size] (λa b=>b=a) items.size (λi v=>items[i]?=some v) St/\St 0 { s with heap:=s.heap.push it }:=by
  rcases hl with hl|hl
  ·obtain⟨o,ho,hc,_⟩:=id hl;exact⟨"list",.inl rfl,⟨o,ho,hc⟩,_,λQ' q=>fL hl q,λb o e=>ao _ e,_,(zo (A:=A.in1) hh _ l Gd items).toS,⟨⟨_,az _ rfl,rfl,rfl⟩,hl.push _⟩⟩
  ·obtain⟨o,ho,hc,_⟩:=id hl;exact⟨"tuple",.inr rfl,⟨o,ho,hc⟩,_,λQ' q=>wpAny_pyIter_tuple hl q,λb o e=>ao _ e,_,(Walks.tuple (A:=A.in1) hh _ l Gd items).toS,⟨⟨_,az _ rfl,rfl,rfl⟩,hl.push _⟩⟩
 refine ae (ae (ae (fY (b:=false) AQ (by rcases tB with rfl|rfl<;>(rw[fM];kernel_rfl)) ?_)));show wpAny (model prog w) A (isInstance (Value.ref l) (Value.type "frozenset")) _ _ _;refine fY (b:=false) AQ (by rcases tB with rfl|rfl<;>(rw[fM];kernel_rfl)) ?_;rw[aD (by decide)];refine ae (dM AQ ?_);rw[aD (by rcases tB with rfl|rfl<;>decide)];refine ae (hit _ ?_);refine ae (zm ?_);have ON:a<s.heap.objs.size:=ax hS;have hsz:items.size=ns.length:=by rw[<- bz];exact E1 hi
 refine a28 (a:=a) (ns:=ns) W (by simp only[List.mem_cons,List.not_mem_nil,or_false,not_or];exact⟨aN ON,dF⟩) hsz (λi v hv=>IntsAre.int_at hi i v (by rw[iY];exact hv)) hb items.size 0 _ (by omega)
  fc (Ja (Gi _ _ hS)) λs' m lq=>?_
 have eS:s'={ s with heap:=s'.heap,toks:=s'.toks }:=by
  obtain⟨jz,g',d',jw,qQ⟩:=s';have m1:g'=s.gens:=m.gens;have m2:d'=s.drawn:=m.drawn;have m3:qQ=s.os:=m.os;subst m1;subst m2;subst m3
  rfl
 rw[eS];refine au (h _ _ lq (λb o hb e=>?_) m.toks);exact m.heap b o (by simp only[List.mem_cons,List.not_mem_nil,or_false,not_or];exact⟨hb,aN (ax e)⟩) (Gi _ _ e)
theorem Vf{l:Addr}{items:Array Value}{ns:List Int}{Q:Value->Shared->Prop}(hh:A.handled=none)(hl:wJ s.heap l items)(hi:IntsAre items.toList ns)(hb:items.size+1<scanBound)(h:∀h' tk,u6 prog w h' s.heap.objs.size (j4 [] ns)->(∀b o,s.heap.get? b=some o->h'.get? b=some o)->s.toks<=tk->Q (.ref s.heap.objs.size) { s with heap:=h',toks:=tk }) :
  wpAny (model prog w) A (call (.type "set") [.ref l]) Q E s:=by
 have cs:=F.called_set;obtain⟨_,_,y1⟩:=cs.mro;have y2:=cs.made;have y3:=cs.sub;have y4:=cs.notType;have y5:=cs.canCreate;have y6:=F.typeCall_set_1 (.ref l);refine wpAny_call (uc (?_:wpAny _ _ (callAny (.type "set") _) _ _ _));refine au ⟨Code.quiet_builtin _ (by decide +kernel),dG F.entry_type_call ?_⟩;rw[Around.under_plain (weight_type_call_type "set" [.ref l] []) rfl]
 repeat (any_goals (first|assumption|wp_step))
 refine gU (a99 (.ref l) (E:=E) (Q:=λv s1=>v=.ref s.heap.objs.size/\s1={ s with heap:=s.heap.push (A2 w) }) ⟨rfl,rfl⟩) ?_;rintro(e|fl) s1 hr
 ·exact hr
 cases fl with
 |next=>exact hr
 |brk=>exact hr
 |cont=>exact hr
 |ret v =>
 obtain⟨rfl,rfl⟩:=hr;have hS:(s.heap.push (A2 w)).get? s.heap.objs.size=some (A2 w):=az _ rfl;have hT:Shared.TypeIs { s with heap:=s.heap.push (A2 w) } (.ref s.heap.objs.size) "set":=⟨_,hS,rfl⟩
 have y7:=cs.init.lookup;have y8:=cs.init.bind (.ref s.heap.objs.size)
 repeat (any_goals (first|assumption|wp_step))
 refine gU (codeAny_call_builtin (R:=wants (λv s2=>v=.none/\∃h' tk,s2={ s with heap:=h',toks:=tk }/\u6 prog w h' s.heap.objs.size (j4 [] ns)/\(∀b o,s.heap.get? b=some o->h'.get? b=some o)/\s.toks<=tk) E) cs.init.plain F.entry_set_init (check_set_init_1 hT ?_)) ?_
 ·have jA:wJ (s.heap.push (A2 w)) l items:=hl.imp (·.push _) (·.push _);have Of:=hl.lt;refine a93 (s:={ s with heap:=s.heap.push (A2 w) }) (by simp[hh]) hS jA hi hb (bE Of) λh' tk h1 h2 h3=>au ⟨rfl,h',tk,rfl,h1,λb o e=>h2 b o (aN (ax e)) (ao _ e),h3⟩
 ·rintro(e|fl) s2 hr
  ·exact hr
  cases fl with
  |next=>exact hr
  |brk=>exact hr
  |cont=>exact hr
  |ret v =>
  obtain⟨rfl,h',tk,rfl,h1,h2,h3⟩:=hr
  repeat (any_goals (first|assumption|wp_step))
  exact h _ _ h1 h2 h3
end
end ST

namespace L2
open PySem PySem.Spec PyProof.Rows
def sk(X:Cx)(a:Addr)(ks:List Int):HO:=.ext λh=>ST.u6 X.prog X.w h a ks
def j9(ns:List Int):List Int:=(ST.j4 [] ns).mergeSort (λa b=>decide (a<=b))
theorem O9:∀{a b:List Int},a.Perm b->a.Pairwise (·<=·)->b.Pairwise (·<=·)->a=b
 |[],b,h,_,_=>by rw[List.nil_perm.mp h]
 |x::a,[],h,_,_=>absurd h.length_eq (by simp)
 |x::a,y::b,h,h1,h2=>by
  rw[gs] at h1 h2;have e:x=y:=by
   have m1:=h.mem_iff (a:=y);have m2:=h.mem_iff (a:=x);simp only[List.mem_cons,true_or,true_iff,iff_true] at m1 m2;rcases m1 with z|z
   ·exact z.symm
   ·rcases m2 with z'|z'
    ·exact z'
    ·have:=h1.1 y z;have:=h2.1 x z';omega
  subst e;rw[O9 (h.cons_inv) h1.2 h2.2]
theorem Z4(ns:List Int):(j9 ns).Pairwise (·<=·):=by
 have:=sN (le:=λa b:Int=>decide (a<=b)) (λa b c h1 h2=>by simp at *;omega) (λa b=>by simp;omega) (ST.j4 [] ns);exact this.imp λh=>by simpa using h
theorem F9(ns:List Int):(j9 ns).Perm (ST.j4 [] ns):=EM _ _
theorem O7(ns:List Int):(j9 ns).length<=ns.length:=by
 rw[(F9 ns).length_eq];have:=ST.L9 ns [];simpa using this
section
variable{X:Cx}{pins:List (Addr×Obj)}{Z:St}{H:Hp}{s:Shared}
theorem Inv.draw(I:Inv X pins Z H s)(d:Drawn):Inv X pins Z H { s with drawn:=d } :=
 I.step (g':=s.gens) (t':=s.toks) (d':=d) (ch:=[]) (by simp) (λb o _ _ _ e _=>e) (λb o _ _ _ e _=>⟨o.slots,e⟩) (λb o _ _ e=>e) (λb o _ e=>⟨o,e⟩) (λ_ _ e=>e) (λ_ _ _ e=>e) (λb ps e=>⟨#[],by simp[e]⟩) (λm hm=>hm) I.bZ I.bare
theorem Li{h:Heap}{H:Hp}{a:Addr}{ks:List Int}(x:ST.u6 X.prog X.w h a ks):m8 X.prog X.w H h a (sk X a ks) :=
 ⟨x,by obtain⟨o,_,_,_,e,_⟩:=x;exact⟨o,e⟩,λh1 h2 y k=>y.at k⟩
theorem Z1{ns:List Int}{vs:List Value}(h:IntsAre vs ns):Vals (ns.map V.int) vs:=by
 induction h with
 |nil=>exact .nil
 |cons n t r ih=>exact .cons ⟨t,rfl⟩ ih
theorem J3:∀{ns:List Int} {vs:List Value},Vals (ns.map V.int) vs->IntsAre vs ns
 |[],_,h=>by cases h;exact .nil
 |n::ns,_,h=>by
  cases h with
  |cons r rr =>
   obtain⟨t,rfl⟩:=r;exact .cons n t (J3 rr)
theorem JY(hc:X.calm=true):l6 X (.type "set") (λxs H Q=>∃a ns,xs=[.ref a]/\fG X.K H a (ns.map V.int)/\ns.length<60/\∀p,H p=none->Q (.ref p) (upd H p (sk X p (ST.j4 [] ns)))):=by
 intro pins s Z H xs us Q I r h;obtain⟨a,ns,rfl,hq,hl,q⟩:=h;cases r with
 |cons r rr =>
 cases rr;cases r;obtain⟨aW,rv,p,hz⟩:=I.list hq;have hI:=J3 rv;have hlen:=ST.E1 hI;refine ST.Vf (ns:=ns) (I.ok.hd hc) (.inl p.isList) (by simpa using hI) (by rw[aG,hlen];exact ay (Nat.succ_lt_succ hl) (by decide)) λh' tk hS hk _=>?_;exact⟨.ref _,_,I.laid (a:=s.heap.objs.size) (t':=tk) hk (av _) (Li hS),rfl,q _ (I.bZ.fresh (av _))⟩
theorem V5(hc:X.calm=true):l6 X (.builtin "sorted") (λxs H Q=>∃a ns,xs=[.ref a]/\H a=some (sk X a (ST.j4 [] ns))/\ns.length<60/\∀p,H p=none->Q (.ref p) (upd H p (.lst ((j9 ns).map V.int)))):=by
 intro pins s Z H xs us Q I r h;obtain⟨a,ns,rfl,ha,hl,q⟩:=h;cases r with
 |cons r rr =>
 cases rr;cases r;have hS:ST.u6 X.prog X.w s.heap a (ST.j4 [] ns):=(I.bZ a _ ha).1;have hn:=ST.L9 ns [];simp only[List.length_nil] at hn;refine ST.aM7 (I.ok.hd hc) hS (by omega) λS vs jI e h' d' jw h1 h2 h3 h4 h5 h6 _=>?_;have e1:jI=j9 ns:=O9 (h2.trans (F9 ns).symm) h3 (Z4 ns);subst e1;have hz:=O7 ns;exact⟨.ref S,_,(I.laid (a:=S) (o:=.lst ((j9 ns).map V.int)) (t':=jw) h6 h5 ⟨by rw[ag];exact aE hz (aE (du hl) (by decide)),vs,e,Z1 h1,h4⟩).draw d',rfl,q S (I.bZ.fresh h5)⟩
end
end L2

namespace ST
open PySem PyProof.Rows
theorem Ve{prog:Program}{w:World}{A:Around}{E:Value->Shared->Prop}{s:Shared}{a:Addr}{ks:List Int}{k:Int}{tk:Tok}{Q:Value->Shared->Prop}(hS:u6 prog w s.heap a ks)(hr:ks.length+1<scanBound)(h:∀h',Heap.SameBut a s.heap h'->u6 prog w h' a (B7 ks k)->Q .none { s with heap:=h',toks:=s.toks+1 }):wpAny (model prog w) A (call (.builtin "set.add") [.ref a,.int k tk]) Q E s:=by
 have hT:s.TypeIs (.ref a) "set":=let ⟨o,_,_,_,e,x,_⟩:=hS;⟨o,e,x.1⟩
 refine cz F.slot_set_add hT F.entry_set_add ?_ (F.args_set_add_2 _ _);have go:∀(Q':Fin->Shared->Prop),(∀h',Heap.SameBut a s.heap h'->u6 prog w h' a (B7 ks k)->wpAny (model prog w) A.in1 (ret .none) Q' E { s with heap:=h',toks:=s.toks+1 })->wpAny (model prog w) A.in1 (do let _ <- setAdd a (.int k tk);ret .none) Q' E s:=λQ' q=>by
  unfold setAdd;refine ae (bP (ae ((intKind prog w).pyHash (k:=k) (fZ _ _ _ _) ?_)));exact HR (s:={ s with toks:=s.toks+1 }) hS hr λh' b sb S2=>q h' sb S2
 unfold Builtin.«set.add» Builtin.Frozenset.oneOther;simp only[List.isEmpty_nil,bind_assoc];unfold Builtin.Frozenset.addrOf;refine ae (au ?_)
 try dsimp only
 refine ae (au ?_)
 try dsimp only
 exact go _ λh' sb S2=>au ⟨_,rfl,h h' sb S2⟩
end ST
namespace L2
open PySem PySem.Spec PyProof.Rows
section
variable{prog:Program}{w:World}{A:Around}{R:Result->Shared->Prop}{s:Shared}
theorem aM2(elt target iter:Expr)(ifs:List Expr)(scope:Scope)(pos:Pos)(it acc:Value)(env:Env):compTurn (.SetComp elt [⟨target,iter,ifs,0⟩] scope pos) 0 it acc env=(do
      standAt iter.pos
      match <- pyNext it with
      |none=>pure (.done .next)
      |some v =>
        letOwnedTupleGo target it v
        assign target env v
        let mut ok:=true
        for c in ifs do if ok then ok <- isTrue c env (eval c env)
        if ok then(do let x <- eval elt env;standAt elt.pos;let _ <- call (.builtin "set.add") [acc,x])
        again (.compLoop (.SetComp elt [⟨target,iter,ifs,0⟩] scope pos) 0 it acc env)):=by rfl
theorem YX{elt target iter:Expr}{ifs:List Expr}{scope:Scope}{pos:Pos}{it acc:Value}{env:Env}(I:Nat->Shared->Prop)(turn:∀ n s,I n s->wpAny (model prog w) A (pyNext it) (λr cv=>match r with
   |none=>R (.ok .next) cv
   | some v=>wpAny (model prog w) A (letOwnedTupleGo target it v) (λ_ cv=>wpAny (model prog w) A (assign target env v) (λ_ gZ =>
     wpAny (model prog w) A (forIn ifs true λc r=>if r=true then do let ok <- isTrue c env (eval c env);pure (ForInStep.yield ok) else pure (ForInStep.yield r)) (λok ft =>
      if ok=true then wpAny (model prog w) A (eval elt env) (λx jG =>
       wpAny (model prog w) A (call (.builtin "set.add") [acc,x]) (λ_ mQ=>∃ m,m < n/\I m mQ) (λ_ _=>False) jG) (λ_ _=>False) ft
      else ∃ m,m < n/\I m ft) (λ_ _=>False) gZ) (λ_ _=>False) cv) (λ_ _=>False) cv) (λ_ _=>False) s)(n:Nat)(h:I n s) :
  codeAny (model prog w) A (.compLoop (.SetComp elt [⟨target,iter,ifs,0⟩] scope pos) 0 it acc env) R s:=by
 refine codeAny_loop rfl I (λn s hI=>?_) n h;show wpAny _ A ((compTurn (.SetComp elt [⟨target,iter,ifs,0⟩] scope pos) 0 it acc env).onRaise (λx=>do noteFrame x env;theTreesLotGoes x)) _ _ s;refine wpAny_noted ?_;rw[aM2];refine ae (eE (ae (bI (turn n s hI) (λr cv h₁=>?_) λ_ _ h'=>h'.elim)));cases r with
 |none=>exact au h₁
 |some v =>
  refine ae (bI h₁ (λ_ cv h₁=>?_) λ_ _ h'=>h'.elim);refine ae (bI h₁ (λ_ gZ jf=>ae (bI jf (λok ft nt=>?_) λ_ _ h'=>h'.elim)) λ_ _ h'=>h'.elim);cases ok with
  |false=>exact wpAny_pure ⟨rfl,nt⟩
  |true =>
   exact ae (ae (bI nt (λx jG qY=>ae (eE (ae (bI qY (λ_ mQ qW=>au (au ⟨rfl,qW⟩)) λ_ _ h'=>h'.elim)))) λ_ _ h'=>h'.elim))
theorem aN5{elt target iter:Expr}{ifs:List Expr}{scope:Scope}{pos:Pos}{it acc:Value}{env:Env}(h0:codeAny (model prog w) A (.compLoop (.SetComp elt [⟨target,iter,ifs,0⟩] scope pos) 0 it acc env) R s)(h:wpAny (model prog w) A (pyIter it) (λFJ s'=>codeAny (model prog w) A (.compLoop (.SetComp elt [⟨target,iter,ifs,0⟩] scope pos) 0 FJ acc env) R s') (notedBy (model prog w) A env λx s'=>R (.error x) s') s) :
  codeAny (model prog w) A (.compStart (.SetComp elt [⟨target,iter,ifs,0⟩] scope pos) 0 it acc env) R s:=by
 refine uc (?_:wpAny _ _ ((compStart (.SetComp elt [⟨target,iter,ifs,0⟩] scope pos) 0 it acc env).onRaise (λx=>do noteFrame x env;standAt theWindowsPlace)) _ _ s);refine wpAny_notedAt ?_;unfold compStart;refine ae (qq (wpAny_ite ?_));split
 ·first
   |exact au ⟨rfl,h0⟩
   |exact ae (au (au ⟨rfl,h0⟩))
 ·refine ae (fm ?_);exact ae (eE (ae (bI h (λFJ s' h'=>au ⟨rfl,h'⟩) λ_ _ x=>x)))
end
def DY(o:Obj):Prop:=∀v,o.data≠.cell v
def SA(X:Cx)(wi:TI)(d6:List Nat)(n:Nat)(g:TG)(tc:TT)(te:TE):TE:=λZ H Q=>wi Z H λJ H1=>∃W:Nat->Nat->List Int->St->Hp->Prop,(∃m,W 0 m [] (C6 Z d6 n) H1)/\∀i m ys Z H,W i m ys Z H ->
 (J.stop i H/\∀p,H p=none->Q (.ref p) (upd H p (sk X p (ST.j4 [] ys)))) \/
 (J.go i H/\ys.length < 60/\∀ x H',J.qx i H x H'->g x Z H' λcK H2=>tc cK H2 λb H3 =>
  if b=true then te cK H3 λy H4=>∃ k,y=.int k/\∃ m',m' < m/\W (i + 1) m' (ys ++ [k]) cK H4 else ∃ m',m' < m/\W (i + 1) m' ys cK H3)
section
variable{X:Cx}{pins:List (Addr×Obj)}{Z:St}{H:Hp}{s:Shared}
theorem Inv.SF{D:Addr}{φ:Heap->Prop}(I:Inv X pins Z H s)(f:C8 X pins H D)(hs:X.dC.heap.objs.size<=D)(ho:m8 X.prog X.w (upd H D (.ext φ)) s.heap D (.ext φ)):Inv X pins Z (upd H D (.ext φ)) s:=by
 obtain⟨f0,f1,f2,f3,f4,f5⟩:=f;have dF:∀b o,X.dC.heap.get? b=some o->b≠D:=λb o e z=>absurd (ax e) (by rw[z];exact jV.mpr hs);have tup:∀b u,H b=some u->upd H D (.ext φ) b=some u:=λb u e=>by rw[f9 (m7 e f0)];exact e
 refine⟨I.ok,I.os,I.bare,⟨?_,?_,?_,I.base.there,?_,?_,?_⟩,I.loc,I.cell,?_,?_,?_,?_,I.len⟩
 ·exact λb o e n1 n2 n3=>I.base.keep b o e n1 n2 n3
 ·exact λb o e n1 n2 n3=>I.base.slot b o e n1 n2 n3
 ·exact λb o e n1 n2=>by rw[f9 (dF b o e)];exact I.base.free b o e n1 n2
 ·exact λb xs e=>tup _ _ (I.base.iZ b xs e)
 ·exact λb o u e=>tup _ _ (I.base.iL b o u e)
 ·exact λb ps e=>by
   obtain⟨more,q⟩:=I.base.ja b ps e;exact⟨more,tup _ _ q⟩
 ·rw[f9 f1.symm];exact I.free
 ·exact λx c e=>by rw[f9 (f4 x c e)];exact I.fT x c e
 ·intro p hp;obtain⟨p1,p2,p3⟩:=I.pin p hp;exact⟨p1,by rw[f9 (f5 p hp)];exact p2,p3⟩
 ·intro a o e;by_cases ha:a=D
  ·subst ha;rw[u3] at e;cases e;exact ho
  ·rw[f9 ha] at e;have q:=I.bZ a o e;refine q.Z3 (λb u _ h=>h) (λb hb=>tup _ _ hb) (λb xs hb=>tup _ _ hb)
theorem aG6{elt tg iter:Expr}{ifs:List Expr}{scope:Scope}{N':List Str}{d6:List Nat}{cl:List (Str×Addr)}{pos:Pos}{it:Addr}{fp:List Addr}{tn:Nat->Heap->Prop}{J:It}{g:TG}{tc:TT}{te:TE}{RR:Value->Addr->Result->Shared->Prop}{E:Value->Shared->Prop}{W:Nat->Nat->List Int->St->Hp->Prop}{m0:Nat}{Q:VK}(S:dN X scope N' d6 cl)(hc:X.calm=true)(hg:∀C s H,PG (f6 X pins scope N' cl C s H fp) tg g)(ht:∀C s H,lB (f6 X pins scope N' cl C s H fp) ifs tc)(he:∀C s H,PE (f6 X pins scope N' cl C s H fp) elt te)(I:Inv X pins Z H s)(T:Turn X.prog X.w X.K tg J fp it tn)(st:tn 0 s.heap)(hf:∀b∈fp,C8 X pins H b)(w0:W 0 m0 [] (C6 Z d6 N'.length) H)(turn:∀ i m ys Z H,W i m ys Z H->(J.stop i H/\∀ p,H p=none->Q (.ref p) (upd H p (sk X p (ST.j4 [] ys)))) \/
   (J.go i H/\ys.length < 60/\∀ x H',J.qx i H x H'->g x Z H' λcK H2=>tc cK H2 λb H3 =>
    if b=true then te cK H3 λy H4=>∃ k,y=.int k/\∃ m',m' < m/\W (i + 1) m' (ys ++ [k]) cK H4 else ∃ m',m' < m/\W (i + 1) m' ys cK H3))(AU:∀D C s' H' m,Inv X pins Z H' s'->Q (.ref D) H'->s'.heap.Ns C m->H' C=none->s.heap.objs.size<=C->RR (.ref D) C (.ok .next) s') :
  wpAny (model X.prog X.w) X.A (newSet (.type "set")) (λacc ft=>wpAny (model X.prog X.w) X.A (newFunctionEnv scope X.env.globals cl [] X.env.qual none .none (some X.env)) (λlT jG =>
   codeAny (model X.prog X.w) X.A (.compStart (.SetComp elt [⟨tg,iter,ifs,0⟩] scope pos) 0 (.ref it) acc { lT with scope:=relabel scope X.env }) (RR acc lT.locals) jG) E ft) E s:=by
 refine ST.KS (Kf λh₁ gN fP nD=>?_);dsimp only at gN fP nD ⊢;generalize rD:s.heap.push (ST.A2 X.w)=H2 at gN fP nD ⊢;generalize eD:s.heap.objs.size=D at *;have hC:H2.objs.size=D+1:=by rw[<- rD,eV,eD]
 generalize eC:H2.objs.size=C at *;have vH:D≠C:=by omega
 have lt:∀b o,s.heap.get? b=some o->b<D:=λb o e=>by rw[<- eD];exact ax e
 have qU:D<=C:=by omega
 have pF:∀b o,s.heap.get? b=some o->b≠C:=λb o e=>aN (ay (lt b o e) qU);have mZ:∀b o,s.heap.get? b=some o->b≠D:=λb o e=>aN (lt b o e);have old:∀b o,s.heap.get? b=some o->h₁.get? b=some o:=λb o e=>fP b o (rD▸ao _ e);have jt:h₁.get? D=some (ST.A2 X.w):=fP _ _ (by rw[<- rD,<- eD];exact az _ rfl);have jh:∀b∈fp,∃o,s.heap.get? b=some o:=λb hb=>by
  obtain⟨o,e,_⟩:=T.obj _ _ st b hb;exact⟨o,e⟩
 have vG:D∉fp:=λhm=>by
  obtain⟨o,e⟩:=jh D hm;exact mZ D o e rfl
 have X1:Inv (f6 X pins scope N' cl C s H fp) [] (C6 Z d6 N'.length) H { s with heap:=h₁ } :=
  I.Jy S hc hf jh (by rw[eD];omega) ⟨_,gN⟩ old nD
 have uC:tn 0 h₁:=T.keep _ _ _ st λb _ o e=>old b o e;have Bq:∀{H':Hp},(∀b∈fp,H' b=none)->∀b∈fp,C8 (f6 X pins scope N' cl C s H fp) [] H' b:=λhn b hb=>by
  obtain⟨f0,f1,f2,f3,f4,f5⟩:=hf b hb;obtain⟨o,e⟩:=jh b hb;refine⟨hn b hb,?_,?_,.inl hb,λx c q=>(yR nD q).elim (λl z=>absurd (cM (z▸l) (ay (lt b o e) qU)) (bw _)) λq=>f4 x c (S.cin x c q),λp hp=>?_⟩
  ·exact pF b o e
  ·exact λz=>by
    rcases aI.mp (I.K8 b z) with z|z
    ·exact f1 z
    ·exact f2 z
  ·have jz:p∈X.pn++pins:=by simpa[f6] using hp
   exact f5 p jz
 have fD:∀{H':Hp},H' D=none->C8 (f6 X pins scope N' cl C s H fp) [] H' D:=λhn=>by
  refine⟨hn,vH,λz=>?_,.inr (by show s.heap.objs.size<=D;omega),λx c q=>?_,λp hp=>?_⟩
  ·exact absurd (I.wN (a:=D) (by omega)) λjK=>by
    rcases aI.mp (I.K8 D z) with z|z
    ·exact absurd I.lt (by rw[<- z,eD];exact bw _)
    ·exact jK z
  ·rcases yR nD q with l|q
   ·exact λz=>absurd (ay (z▸l) qU) (bw _)
   ·obtain⟨v,o,e,_⟩:=I.cell x c (S.cin x c q);exact mZ c o e
  ·have jz:p∈X.pn++pins:=by simpa[f6] using hp
   exact mZ _ _ (I.pin p jz).1
 have qP:∀{H':Hp} {s':Shared} {cq:St} {oD:Obj},DY oD->Inv (f6 X pins scope N' cl C s H fp) [] cq H' s'->H' D=none->s'.heap.get? D=some oD ->
   Inv (f6 X pins scope N' cl C s H fp) [(D,oD)] cq H' s':=λ{H' s' cq oD} kQ J0 hn e=>J0.K3 λp hp=>by
  have z:p=(D,oD):=by simpa using hp
  subst z;obtain⟨f0,f1,f2,_⟩:=fD hn;exact⟨e,f0,f1,f2,kQ⟩
 have rS:∀{H':Hp} {oD:Obj},(∀b∈fp,H' b=none)->∀b∈fp,C8 (f6 X pins scope N' cl C s H fp) [(D,oD)] H' b:=λ{H' oD} hn b hb=>by
  obtain⟨f0,f1,f2,f3,f4,f5⟩:=Bq hn b hb;refine⟨f0,f1,f2,f3,f4,λp hp=>?_⟩;have jz:p∈(f6 X pins scope N' cl C s H fp).pn\/p=(D,oD):=by simpa using hp
  rcases jz with z|z
  ·exact f5 p (bD _ z)
  ·subst z;exact λz=>vG (by rw[show D=b from z];exact hb)
 have loop:∀ft:Shared,ft={ s with heap:=h₁ } ->
   codeAny (model X.prog X.w) X.A (.compLoop (.SetComp elt [⟨tg,iter,ifs,0⟩] scope pos) 0 (.ref it) (.ref D) (compEnvC scope (K1 scope cl C) C X.env)) (RR (.ref D) C) ft:=by
  rintro ft rfl;refine YX (λn s'=>∃ (i:Nat) (ys:List Int) (cq:St) (H':Hp) (oD:Obj),Inv (f6 X pins scope N' cl C s H fp) [] cq H' s'/\tn i s'.heap/\(∀ b ∈ fp,H' b=none)/\H' D=none/\ys.length <= 60/\DY oD /\
   s'.heap.get? D=some oD/\ST.u6 X.prog X.w s'.heap D (ST.j4 [] ys)/\W i n ys cq H') ?_ m0 ⟨0,[],_,H,ST.A2 X.w,X1,uC,λb hb=>(hf b hb).1,I.bZ.fresh (by omega),cJ _,(λv (z:Data.set _ _ _=_)=>by cases z),jt,ST.Ja jt,w0⟩
  rintro n s3 ⟨i,ys,iF,H3,oD,I3,pA,pY,d3,z3,c3,o3,S3,w3⟩;have wZ:=qP c3 I3 d3 o3;rcases turn i n ys iF H3 w3 with⟨stop,q⟩|⟨go,hz,step⟩
  ·refine cP (T.done (f6 X pins scope N' cl C s H fp) rfl rfl rfl rfl i _ s3 _ H3 _ wZ (rS pY) pA stop) λr s4 ⟨hr,I4⟩=>?_;subst hr;have o4:=(I4.pin (D,oD) (by simp)).1;have J4:Inv X pins Z H3 s4:=I.Ls hf I4;have Br:C8 X pins H3 D:=by
    refine⟨d3,bE (by rw[<- eD];exact I.lt),I.wN (by omega),.inr (by have:=I.sz;omega),λx c q=>?_,λp hp=>?_⟩
    ·obtain⟨v,o,e,_⟩:=I.cell x c q;exact mZ c o e
    ·exact mZ _ _ (I.pin p hp).1
   obtain⟨mC,Ay,_⟩:=I4.loc;exact AU D C s4 (upd H3 D (sk X D (ST.j4 [] ys))) mC (J4.SF Br (by have:=I.sz;omega) (Li (S3.at λo e=>by rw[o3] at e;cases e;exact o4))) (q D d3) Ay (by rw[f9 vH.symm];exact I4.free) (by omega)
  ·refine cP (T.item (f6 X pins scope N' cl C s H fp) rfl rfl rfl rfl i _ s3 _ H3 _ wZ (rS pY) pA go) λr s4 ⟨u,hr,h4⟩=>?_;subst hr;refine cP h4 λ_ s5 bt=>?_;obtain⟨x,H5,I5,r5,y5,mR,vP⟩:=bt;have o5:=I5.pin (D,oD) (by simp);have wY:=I5.pinned (rS vP) (T.obj _ _ mR);refine cP (hg C s H _ s5 _ H5 x u _ wY r5 (step x H5 y5)) λ_ s6 bt=>?_;obtain⟨lG,H6,I6,q6⟩:=bt;refine cP (ht C s H _ s6 lG H6 _ I6 q6) λok s7 ⟨H7,I7,q7⟩=>?_;have back:∀{uq:St} {H8:Hp} {s8:Shared},Inv (f6 X pins scope N' cl C s H fp) ([(D,oD)]++X7 fp s5.heap) uq H8 s8->(∀b∈fp,H8 b=none)/\tn (i+1) s8.heap/\H8 D=none/\s8.heap.get? D=some oD :=
    λ{uq H8 s8} I8=>by
     have pf:∀b∈fp,∀o,s5.heap.get? b=some o->s8.heap.get? b=some o/\H8 b=none:=λb hb o e=>by
      have:=I8.pin (b,o) (bq _ (bq _ (Q2 hb e)));exact⟨this.1,this.2.1⟩
     have pd:=I8.pin (D,oD) (by simp);refine⟨λb hb=>?_,T.keep _ _ _ mR λb hb o e=>(pf b hb o e).1,pd.2.1,pd.1⟩;obtain⟨o,e,_⟩:=T.obj _ _ mR b hb;exact(pf b hb o e).2
   cases ok with
   |false =>
    obtain⟨m',hm,w7⟩:=q7;obtain⟨b1,b2,b3,b4⟩:=back I7;exact⟨m',hm,i+1,ys,lG,H7,oD,I7.K3 λp hp=>absurd hp (by simp),b2,b1,b3,z3,c3,b4,S3.at λo e=>by rw[o3] at e;cases e;exact b4,w7⟩
   |true =>
    refine cP (he C s H _ s7 lG H7 _ I7 q7) λxv s8 bt=>?_;obtain⟨y,H8,I8,r8,kk,ey,m',hm,w8⟩:=bt;subst ey;obtain⟨tk,rfl⟩:=r8;obtain⟨b1,b2,b3,b4⟩:=back I8;have S8:ST.u6 X.prog X.w s8.heap D (ST.j4 [] ys):=S3.at λo e=>by rw[o3] at e;cases e;exact b4
    have Aa:=ST.L9 ys [];simp only[List.length_nil] at Aa;refine ST.Ve S8 (ay (by omega:_<62) (by decide)) λh' sb S9=>?_;have e9:ST.B7 (ST.j4 [] ys) kk=ST.j4 [] (ys++[kk]):=by unfold ST.j4;rw[List.foldl_append];rfl
    rw[e9] at S9;obtain⟨o9,es9,ep9,t9,g9,x9,d9,r9⟩:=id S9;have c9:DY o9:=λv z=>by rw[d9] at z;cases z
    have ED:Inv (f6 X pins scope N' cl C s H fp) [] lG H8 s8:=I8.K3 λp hp=>absurd hp (by simp);obtain⟨f0,f1,f2,f3,f4,f5⟩:=fD (H':=H8) b3;have kp:∀b o,b≠D->s8.heap.get? b=some o->h'.get? b=some o:=λb' u hb hu=>by rw[sb.2 b' hb];exact hu
    refine⟨m',hm,i+1,ys++[kk],lG,H8,o9,ED.turned (it:=D) (t':=s8.toks+1) kp f0 f1 f3 f4 f5,T.keep _ _ _ b2 λb hb o e=>kp b o (λz=>vG (by rw[<- z];exact hb)) e,b1,b3,?_,c9,g9,S9,w8⟩;rw[aY,iX];omega
 exact aN5 (loop _ rfl) (T.self _ 0 _ _ _ uC (loop _ rfl))
theorem a72{elt tg iter:Expr}{ifs:List Expr}{scope:Scope}{N':List Str}{d6:List Nat}{cl:List (Str×Addr)}{pos:Pos}{wi:TI}{g:TG}{tc:TT}{te:TE}(S:dN X scope N' d6 cl)(hc:X.calm=true)(hi:PI X tg iter wi)(hg:∀pins C s H fp,PG (f6 X pins scope N' cl C s H fp) tg g)(ht:∀pins C s H fp,lB (f6 X pins scope N' cl C s H fp) ifs tc)(he:∀pins C s H fp,PE (f6 X pins scope N' cl C s H fp) elt te)(hs:∀x,foldedSetIterable iter X.env x=pure x):PE X (.SetComp elt [⟨tg,iter,ifs,0⟩] scope pos) (SA X wi d6 N'.length g tc te):=by
 intro pins s Z H Q I h;rw[arm_eval_SetComp];refine iT (use:=none) rfl hs S.rX S.kind S.names (cP (hi pins s Z H _ I h) λxv cv h₁=>cP h₁ λve gZ jf=>?_);obtain⟨it,fp,tn,J,H2,e,I2,T,jZ,f2,W,⟨m0,w0⟩,turn⟩:=jf;subst e;refine aG6 (RR:=λacc C=>compPost (model X.prog X.w) X.A X.xe none (EP X pins Z Q) acc C) S hc (λC s H=>hg pins C s H fp) (λC s H=>ht pins C s H fp) (λC s H=>he pins C s H fp) I2 T jZ f2 w0 turn ?_;intro D C s' H' m I' q hn hC hsz;exact⟨m,hn,λh' sb=>⟨.ref D,H',I'.Ig hsz I2 hC sb,rfl,q⟩⟩
end
end L2

namespace HT
open PySem PyProof.Rows Builtin
theorem Zl:fillsNumberSlot (.type "tuple") "mul"=pure false :=
 PySem.fillsNumberSlot_seq (id:="tuple.__mul__") (r:=some (.builtin "tuple.__rmul__")) qr.lookup (by decide +kernel) F.slot_tuple_rmul.lookup (by decide +kernel)
theorem aA8:seqRepeat? (.type "tuple")=pure (some (.builtin "tuple.__mul__")):=by
 unfold seqRepeat?;rw[PySem.seqSlot_of (T:="tuple") (name:="__mul__") (id:="tuple.__mul__") qr.lookup (by decide +kernel),PySem.seqSlot_of (T:="tuple") (name:="__rmul__") (id:="tuple.__rmul__") F.slot_tuple_rmul.lookup (by decide +kernel)]
 rfl
theorem Ze(a:Int)(t:Tok)(l:Addr)(items:Array Value)(n:Nat)(dd:Option Addr)(sl:Array (Option Value)) :
  Meets (Builtin.«int.__rmul__» ⟨[.int a t,.ref l],[]⟩) (λ_ R s=>s.heap.get? l=some { cls:=.type "tuple",dict:=dd,data:=.seq items n,slots:=sl }/\R (.ok (.ret Value.notImplemented)) s) :=
 .of_wp λprog w A R s h=>by obtain⟨hp,g,d,tk,os⟩:=s;obtain⟨hl,h⟩:=h;wp_walk;exact⟨_,rfl,h⟩
theorem Zf(t:Value)(c:Value):Builtin.«tuple.__mul__» ⟨[t,c],[]⟩=(do
 let n <- asIndex c
 if n < -(2 ^ 63)||n>=2 ^ 63 then
  rule "tuple.repeat.overflow";raiseError "OverflowError" s!"cannot fit '{<- typeNameOf c}' into an index-sized integer"
 let xs <- Builtin.Tuple.tupleItemsOf t
 if xs.isEmpty||n==1 then
  if <- Builtin.Tuple.tupleIsExact t then rule "tuple.repeat.same-object";return <- ret t
 if n<=0||xs.isEmpty then return <- ret (<- Builtin.Tuple.tupleExact #[])
 if xs.size*n>(2 ^ 63-1) / 8 then rule "tuple.repeat.no-memory";raiseNew (<- newExc (.type "MemoryError") [])
 if Builtin.Tuple.tupleTooMany (xs.size*n) then unsupported "tuple.__mul__:memory"
 ret (<- Builtin.Tuple.tupleExact ((List.replicate n.toNat xs).foldl (· ++ ·) #[]))):=rfl
section
variable{prog:Program}{w:World}{A:Around}{E:Value->Shared->Prop}{s:Shared}
theorem aQ5(aW:List Value):∀(m:Nat) (acc:Array Value),List.foldl (λx1 x2=>x1++x2) acc (List.replicate m aW.toArray)=acc++(List.replicate m aW).flatten.toArray:=by
 intro m
 induction m with
 |zero=>intro acc;simp
 |succ m ih=>intro acc;rw[cu,mL,ih,cu,dy];simp
theorem aT4{a:Addr}{aW:List Value}{n:Int}{t:Tok}{Q:Value->Shared->Prop}(ht:IsTup s.heap a aW.toArray)(dF:aW≠[])(h1:1<=n)(h2:n<2 ^ 62)(hz:aW.length*n.toNat<=sizeLine)(q1:n=1->Q (.ref a) s)(q2:Q (.ref s.heap.objs.size) { s with heap:=s.heap.push { cls:=.type "tuple",data:=.seq (List.replicate n.toNat aW).flatten.toArray } }):wpAny (model prog w) A (binaryOp .Mult (.ref a) (.int n t)) Q E s:=by
 obtain⟨o,ho,hc,k,hd⟩:=id ht;obtain⟨cls,dict,data,slots⟩:=o;dsimp only at hc hd;subst hc hd;have he:aW.toArray.isEmpty=false:=by cases aW<;>first|exact absurd rfl dF|rfl
 refine EK (T:="tuple") (U:="int") (by decide) ht.typeIs (λs'=>mH s' n t) Zl F.fills_int_mul jR aA8 F.slot_int_index.lookup
  (dW jR (mH s n t) F.entry_int_rmul (F.args_int_rmul_2 _ _) (Ze n t a aW.toArray k dict slots) ⟨ho,rfl,ht.typeIs,?_⟩)
 refine cz qr ht.typeIs F.entry_tuple_mul ?_ (F.args_tuple_mul_2 _ _);rw[Zf];refine ae (eT (show asIndex (.int n t)=pure n from rfl) ?_);dsimp only;rw[aD (by simp only[Bool.or_eq_true,decide_eq_true_eq];omega)];refine ae (tupleItemsOf_ ht ?_);have big:¬((aW.toArray.size:Int)*n>(2 ^ 63-1) / 8):=by
  rw[aG];have:((aW.length*n.toNat:Nat):Int)=(aW.length:Int)*n:=by rw[mM];rw[show((n.toNat:Nat):Int)=n by omega]
  rw[<- this];have hs:sizeLine<2 ^ 59:=by decide
  omega
 have many:¬(Builtin.Tuple.tupleTooMany ((aW.toArray.size:Int)*n)=true):=by
  unfold Builtin.Tuple.tupleTooMany;rw[aG,dc];have:((aW.length*n.toNat:Nat):Int)=(aW.length:Int)*n:=by rw[mM];rw[show((n.toNat:Nat):Int)=n by omega]
  rw[<- this];omega
 have hsz:sizeOk (.seq (List.replicate n.toNat aW).flatten.toArray):=by
  show(List.replicate n.toNat aW).flatten.toArray.size<=sizeLine;simp only[List.size_toArray,List.length_flatten,List.map_replicate,List.sum_replicate_nat];rw[ug];exact hz
 by_cases e1:n=1
 ·subst e1;rw[aK (by rw[he];rfl)];unfold Builtin.Tuple.tupleIsExact;refine ae (ae (dM ht.typeIs (au ?_)));rw[aK (by decide)]
  first
   |exact ae (fm (ae (au ⟨_,rfl,au (q1 rfl)⟩)))
   |exact ae (fm (au ⟨_,rfl,(q1 rfl)⟩))
   |exact ae (fm (au ⟨_,rfl,au (q1 rfl)⟩))
 ·rw[aD (by rw[he];simpa using e1)];rw[aD (by rw[he];simp;omega),aD big,aD many];rw[show List.foldl (λx1 x2=>x1++x2) #[] (List.replicate n.toNat aW.toArray)=(List.replicate n.toNat aW).flatten.toArray by rw[aQ5];simp]
  first
   |exact ae (m:=Builtin.Tuple.tupleExact _) (bV (au ⟨_,rfl,q2⟩) hsz)
   |exact ae (m:=Builtin.Tuple.tupleExact _) (bV (au ⟨_,rfl,au q2⟩) hsz)
end
end HT
namespace L2
open PySem PySem.Spec PyProof.Rows
section
variable{X:Cx}
def XZ(K:PySem.W.Frag):R2:=λx y H Q=>∃(a:Addr) (n:Int) (xs:List V),x=.ref a/\y=.int n/\ip K H a xs/\xs≠[]/\1<=n/\n<2 ^ 62/\xs.length*n.toNat<=sizeLine /\
 (n=1->Q (.ref a) H)/\(∀p,H p=none->Q (.ref p) (upd H p (.tup (List.replicate n.toNat xs).flatten)))
theorem TU:fK X (binaryOp .Mult) (XZ X.K):=by
 intro pins s Z H x y v u Q I rx ry h;obtain⟨a,n,xs,rfl,rfl,ha,dF,h1,h2,hz,q1,q2⟩:=h;cases rx;obtain⟨tk,rfl⟩:=ry;obtain⟨aW,r,p,_⟩:=I.tuple ha;refine HT.aT4 p (λz=>dF (r.R0.mp z)) h1 h2 (by rw[<- r.length];exact hz) (λe=>⟨.ref a,H,I,rfl,q1 e⟩) ?_;refine⟨.ref s.heap.objs.size,_,I.laid (t':=s.toks) (o:=.tup (List.replicate n.toNat xs).flatten) (λb ob q=>ao _ q) (av _) ?_,rfl,q2 _ (I.bZ.fresh (av _))⟩;exact⟨by rw[len_rep,ug];exact hz,_,r.rep _,J9.new _ _⟩
def Tr(sep:Str)(ys:List Str):Nat:=ys.foldl (λn y=>n+y.length+sep.length) 0
end
end L2

namespace HT
open PySem PyProof.Rows Builtin PySem.SeqAt
theorem YZ(l:Addr)(items:Array Value)(n:Nat)(dd:Option Addr)(sl:Array (Option Value))(x:Value)(e:Value->Bool)(j:Nat)(hj:j<items.size)(hit:e items[j]=true)(jK:∀m (hm:m<items.size),m<j->e items[m]=false) :
    Meets (Builtin.«tuple.index» ⟨[.ref l,x],[]⟩)
      (λA R s=>s.heap.get? l=some { cls:=.type "tuple",dict:=dd,data:=.seq items n,slots:=sl }/\(∀y,y∈items->EqAt A.in1 s y x (e y))/\R (.ok (.ret (.int j s.toks))) { s with toks:=s.toks+1 }) :=
  .of_wp λprog w A R s h=>by
    obtain⟨hp,g,d,tk,os⟩:=s;obtain⟨hl,he,h⟩:=h
    wp_walk using wpAny_loadPart' hl
    show wpAny (model prog w) A.in1 (forIn ([:Min.min items.size items.size]:Std.Legacy.Range) ((none,()):Option PySem.Fin × Unit) (λ(i:Nat) __s =>
            match items[i]? with
            |some y=>do
              let __do_lift <- eqBool y x
              if __do_lift=true then do
                  let __do_lift <- retInt (i:Nat)
                  pure (ForInStep.done (some __do_lift,()))
                else pure (ForInStep.yield (none,()))
            | x=>pure (ForInStep.yield (none,())))) _ _ _
    rw[Std.Legacy.Range.forIn_eq_forIn_range'];simp only[Std.Legacy.Range.size,Nat.sub_zero,Nat.add_sub_cancel,Nat.div_one,Nat.min_self];refine wpAny_forIn_list _ (λrest b s'=>b=(none,())/\s'=⟨hp,g,d,tk,os⟩/\∃i,rest=List.range' i (items.size-i)/\i<=j) _ ?_ ?_ _ _ ⟨rfl,rfl,0,by simp,cJ _⟩
    · rintro y rest b s' ⟨rfl,rfl,i,hr,hi⟩;have et:i<items.size:=by omega
      rw[show items.size-i=(items.size-(i+1))+1 by omega,List.range'_succ] at hr;cases hr;rw[show items[y]?=some items[y] from gK et];refine ae (he _ (Array.getElem_mem et) prog w _ _ ?_);by_cases jn:y=j
      · subst jn;rw[hit]
        wp_walk
        exact⟨_,rfl,h⟩
      · rw[jK y et (by omega)]
        wp_walk
        exact⟨rfl,rfl,y+1,rfl,by omega⟩
    · rintro b s' ⟨rfl,rfl,i,hr,hi⟩;exfalso;have:=dt List.length hr;simp at this;omega
section
variable{prog:Program}{w:World}{A:Around}{E:Value->Shared->Prop}{s:Shared}
theorem ZK:typeLookup (.type "tuple") (dunderI "add")=pure none:=by
 show typeLookup (.type "tuple") "__iadd__"=pure none;rw[gJ,eG];kernel_rfl
theorem a95{t b:Addr}{vs ws:List Value}{Q:Value->Shared->Prop}(ht:IsTup s.heap t vs.toArray)(hb:IsTup s.heap b ws.toArray)(h0:vs=[]->Q (.ref b) s)(h1:ws=[]->Q (.ref t) s)(h2:Q (.ref s.heap.objs.size) { s with heap:=s.heap.push { cls:=.type "tuple",data:=.seq (vs++ws).toArray } })(hsz:vs.length+ws.length<=sizeLine):wpAny (model prog w) A (inplaceOp .Add (.ref t) (.ref b)) Q E s:=by
 obtain⟨⟨cls,dd,data,sl⟩,ho,hc,n,hd⟩:=id ht;obtain⟨⟨wg,qc,data2,mT⟩,kM,nE,n2,hd2⟩:=id hb;simp only at hc hd nE hd2;subst hc hd nE hd2;have e:vs.toArray++ws.toArray=(vs++ws).toArray:=by simp
 refine wpAny_inplaceOp_concat (T:="tuple") ⟨_,ho,rfl⟩ ⟨_,kM,rfl⟩ ZK jq lW ?_;by_cases hv:vs=[]
 ·subst hv;exact dW qt ⟨_,ho,rfl⟩ om (mO _ _) (tuple_addW0 t b #[] ws.toArray n n2 dd qc sl mT rfl) ⟨ho,kM,h0 rfl⟩
 by_cases hw:ws=[]
 ·exact dW qt ⟨_,ho,rfl⟩ om (mO _ _) (tuple_addW1 t b vs.toArray ws.toArray n n2 dd qc sl mT (by simpa using hv) (by simp[hw])) ⟨ho,kM,h1 hw⟩
 ·refine dW qt ⟨_,ho,rfl⟩ om (mO _ _) (tuple_addW2 t b vs.toArray ws.toArray n n2 dd qc sl mT (by simpa using hv) (by simpa using hw) (by rw[aG,aG];exact hsz)) ⟨ho,kM,?_⟩;rw[e];exact h2
end
end HT
namespace L2
open PySem PySem.Spec PyProof.Rows
section
variable{X:Cx}
def yB(ys:List V)(y:V)(n:Nat):Prop:=ys.all L7=true/\L7 y=true/\(∃z,ys[n]?=some z/\oe z y=true)/\∀(m:Nat) z,m<n->ys[m]?=some z->oe z y=false
theorem CA:∀{xs:List V} {us:List Value} {i:Nat} (hi:i<us.length),Vals xs us->∃x,xs[i]?=some x/\RelV x us[i]
 |_,_,0,hi,.cons r _=>⟨_,rfl,r⟩
 |_,_,i+1,hi,.cons _ t=>by
  obtain⟨x,h1,h2⟩:=CA (i:=i) (by simpa using hi) t;exact⟨x,by simpa using h1,by simpa using h2⟩
theorem LW{xs:List V}(h:xs.all L7=true){i:Nat}{x:V}(e:xs[i]?=some x):L7 x=true:=bo.mp h x (aJ e)
theorem IY{ys:List V}{y:V}{n:Nat}{aW:List Value}(F:yB ys y n)(r:Vals ys aW):∃hn:n<aW.toArray.size,tJ y aW.toArray[n]=true/\∀m (hm:m<aW.toArray.size),m<n->tJ y aW.toArray[m]=false:=by
 obtain⟨fs,fy,⟨z,hz,he⟩,jK⟩:=F;have hl:=r.length;have hn:n<aW.length:=by
  have:=(aj.mp hz).1;omega
 refine⟨by simpa using hn,?_,λm hm Od=>?_⟩
 ·obtain⟨x,hx,rx⟩:=CA hn r;rw[hz] at hx;cases hx;rw[zx,Eb rx (LW fs hz)];exact he
 ·have pO:m<aW.length:=by simpa using hm
  obtain⟨x,hx,rx⟩:=CA pO r;rw[zx,Eb rx (LW fs hx)];exact jK m x Od hx
def Ld(K:PySem.W.Frag):V->List V->Hp->VK->Prop:=λx xs H Q=>∃a ys y n,x=.ref a/\xs=[y]/\ip K H a ys/\yB ys y n/\Q (.int n) H
def Lc(K:PySem.W.Frag):V->List V->Hp->VK->Prop:=λx xs H Q=>∃a ys y n,x=.ref a/\xs=[y]/\fG K H a ys/\yB ys y n/\n<2 ^ 62/\Q (.int n) H
theorem ZH:lU X "tuple.index" (Ld X.K):=by
 intro pins s Z H x xs v us Q I rx r h;obtain⟨a,ys,y,n,rfl,rfl,hq,W,q⟩:=h;cases rx;cases r with
 |cons ry rr =>
 cases rr;obtain⟨aW,rv,p,hz⟩:=I.tuple hq;obtain⟨hn,hit,jK⟩:=IY W rv;obtain⟨⟨cls,dd,data,sl⟩,ho,hc,k,hd⟩:=id p;simp only at hc hd;subst hc hd;refine dW F.slot_tuple_index p.typeIs F.entry_tuple_index (F.args_tuple_index_2 _ _) (HT.YZ a aW.toArray k dd sl _ (tJ y) n hn hit jK) ⟨ho,λw hw=>CN ry W.2.1 rv W.1 w (by simpa using hw),⟨.int n,H,I.tok _,⟨_,rfl⟩,q⟩⟩
theorem ZG:lU X "list.index" (Lc X.K):=by
 intro pins s Z H x xs v us Q I rx r h;obtain⟨a,ys,y,n,rfl,rfl,hq,W,oA,q⟩:=h;cases rx;cases r with
 |cons ry rr =>
 cases rr;obtain⟨aW,rv,p,hz⟩:=I.list hq;obtain⟨hn,hit,jK⟩:=IY W rv;have pt:=p.isList.typeIs;obtain⟨⟨cls,dd,data,sl⟩,k,ho,hc,Gy,hd⟩:=id p;simp only at hc Gy hd;subst hc Gy hd;refine dW F.slot_list_index pt F.entry_list_index (F.args_list_index_2 _ _) (SeqAt.list_indexAt a aW.toArray k none sl _ (tJ y) n hn (by omega) hit jK) ⟨ho,λw hw=>CN ry W.2.1 rv W.1 w (by simpa using hw),⟨.int n,H,I.tok _,⟨_,rfl⟩,q⟩⟩
def wK(K:PySem.W.Frag)(H:Hp)(a:Addr)(xs:List V):Prop :=
 H a=some (.tup xs)\/∃(o:Obj) (aW:Array Value) (n:Nat),K.lookup a=some o/\o.cls=.type "tuple"/\o.dict=none/\o.data=.seq aW n/\aW.size<=sizeLine/\Vals xs aW.toList
theorem wK.sq{K:PySem.W.Frag}{H:Hp}{a:Addr}{xs:List V}(h:wK K H a xs):ip K H a xs:=by
 rcases h with h|⟨o,aW,n,h1,h2,_,h3,h4,h5⟩
 ·exact .inl (.inl h)
 ·exact .inr ⟨o,aW,n,h1,h2,h3,h4,h5⟩
theorem Inv.WG{pins:List (Addr×Obj)}{Z:St}{H:Hp}{s:Shared}{a:Addr}{xs:List V}(I:Inv X pins Z H s)(h:wK X.K H a xs):s.TypeIs (.ref a) "tuple"/\∀b,Value.ref a=.ref b->∃ob,s.heap.get? b=some ob/\ob.dict=none:=by
 rcases h with h|⟨o,aW,n,h1,h2,h3,_⟩
 ·obtain⟨_,aW,_,o,e,c,_,d⟩:=(show m8 X.prog X.w H s.heap a (.tup xs) from I.bZ a _ h)
  exact⟨⟨o,e,c⟩,λb q=>by cases q;exact⟨o,e,d⟩⟩
 ·exact⟨⟨o,I.gT a o h1,h2⟩,λb q=>by cases q;exact⟨o,I.gT a o h1,h3⟩⟩
def Sy(K:PySem.W.Frag)(to:TE)(t:TA):TE:=λZ H Q=>to Z H λx H1=>(∃a xs,x=.ref a/\fG K H1 a xs/\t Z H1 λys H2=>Lc K x ys H2 Q)\/(∃a xs,x=.ref a/\wK K H1 a xs/\t Z H1 λys H2=>Ld K x ys H2 Q)
theorem a74{o e:Expr}{es:List Expr}{to:TE}{t:TA}{apos eA:Pos}(ho:PE X o to)(ha:PA X (e::es) t)(gg:attributeBase o "index" X.env (eval o X.env)=eval o X.env)(kP:((backTo eA (starEach (e :: es) X.env)).all (λx=>!x.1) && (backToKw eA (keywordEach [] X.env)).all (λx=>x.1.isSome)
   && decide ((e :: es).length + ([]:List Keyword).length + (if ([]:List Keyword).isEmpty then 0 else 1) < 30))=true)(gf:(apos.endLine==eA.line)=true)(hs:starEach (e::es) X.env=(false,eval e X.env)::starEach es X.env)(eY:(backTo eA (starEach es X.env)).any (·.1)=false) :
  PE X (.Call (.Attribute o "index" apos) (e::es) [] eA) (Sy X.K to t):=by
 intro pins s Z H Q I h;refine wpAny_Call_method_late gg kP gf rfl (cP (ho pins s Z H _ I h) λv s1 bt=>?_);obtain⟨x,H1,I1,r1,q1⟩:=bt;rcases q1 with⟨a,xs,rfl,hq,q1⟩|⟨a,xs,rfl,hq,q1⟩
 ·cases r1;obtain⟨aW,rv,pl,hz⟩:=I1.list hq;have pt:=pl.isList.typeIs;obtain⟨ob,k,e1,_,e2,_⟩:=id pl;refine⟨"list","list.index",F.plainAttrs_list,F.slot_list_index,F.type_list_index,pt,λb q=>by cases q;exact⟨ob,e1,e2⟩,?_⟩;have hA:=ha eA pins s1 Z H1 _ I1 q1;rw[hs] at hA ⊢;refine fO (by show(false||(backTo eA (starEach es X.env)).any (·.1))=false;rw[eY]<;>rfl) (gE ?_);exact cP hA λus s2 ⟨vs,H2,I2,r2,q2⟩=>ZG pins s2 Z H2 (.ref a) vs (.ref a) us Q I2 rfl r2 q2
 ·cases r1;obtain⟨pt,hd⟩:=I1.WG hq;refine⟨"tuple","tuple.index",F.plainAttrs_tuple,F.slot_tuple_index,F.type_tuple_index,pt,hd,?_⟩;have hA:=ha eA pins s1 Z H1 _ I1 q1;rw[hs] at hA ⊢;refine fO (by show(false||(backTo eA (starEach es X.env)).any (·.1))=false;rw[eY]<;>rfl) (gE ?_);exact cP hA λus s2 ⟨vs,H2,I2,r2,q2⟩=>ZH pins s2 Z H2 (.ref a) vs (.ref a) us Q I2 rfl r2 q2
def XY(K:PySem.W.Frag):V->V->Hp->VK->Prop:=λx y H Q=>(∃i j,x=.int i/\y=.int j/\Q (.int (i+j)) H) \/
 ∃a b xs ys,x=.ref a/\y=.ref b/\ip K H a xs/\ip K H b ys/\xs.length+ys.length<=sizeLine/\(xs=[]->Q (.ref b) H)/\(ys=[]->Q (.ref a) H)/\(∀p,H p=none->Q (.ref p) (upd H p (.tup (xs++ys))))
theorem Th:Iz X .Add (XY X.K):=by
 rintro pins s Z H x y u v Q I rx ry h;rcases h with h|⟨a,b,xs,ys,rfl,rfl,ha,hb,hz,q0,q1,q2⟩
 ·exact Qs pins s Z H x y u v Q I rx ry h
 ·cases rx;cases ry;obtain⟨aW,r1,p1,_⟩:=I.tuple ha;obtain⟨nj,r2,p2,_⟩:=I.tuple hb;refine HT.a95 p1 p2 (λz=>⟨.ref b,H,I,rfl,q0 (r1.R0.mp z)⟩) (λz=>⟨.ref a,H,I,rfl,q1 (r2.R0.mp z)⟩) ?_ (by rw[<- r1.length,<- r2.length];exact hz);refine⟨.ref s.heap.objs.size,_,I.laid (t':=s.toks) (o:=.tup (xs++ys)) (λb ob q=>ao _ q) (av _) ?_,rfl,q2 _ (I.bZ.fresh (av _))⟩;exact⟨by rw[aY];exact hz,_,r1.append r2,J9.new _ _⟩
end
end L2

namespace ST
open PySem PyProof.Rows
def Spot(k:Int):Prop:=0<=k/\k<8
structure Own(mask:Nat)(owner:Array (Option Nat))(pre:List Int):Prop where
 sz:owner.size=mask+1
 fwd:∀(i:Nat) (k:Int),pre[i]?=some k->owner[k.toNat]?=some (some i)
 bwd:∀(j i:Nat),owner[j]?=some (some i)->pre[i]?=some (j:Int)
end ST

namespace ST
open PySem PyProof.Rows
section
variable{prog:Program}{w:World}{A:Around}{E:Value->Shared->Prop}{s:Shared}{a:Addr}
def Vi(prog:Program)(w:World)(h:Heap)(a:Addr)(ks:List Int):Prop :=
 ∃o es ep t,h.get? a=some o/\o.ExactSet/\o.data=.set es ep t/\ElemsOf (intKind prog w) es.toList/\(es.toList.map λe=>toI e.2).Perm ks/\ks.Nodup/\es.size<scanBound/\t.fits es.size=true/\Well (Led w) t/\(ks=[]->7<=t.mask)
theorem u6.toV{h:Heap}{ks:List Int}(x:u6 prog w h a ks)(hn:ks≠[]):Vi prog w h a ks:=by
 obtain⟨o,es,ep,t,h1,h2,h3,h4,h5,h6,h7,h8,h9⟩:=x;exact⟨o,es,ep,t,h1,h2,h3,h4,h5,h6,h7,h8,h9,λz=>absurd z hn⟩
theorem u6.same{h:Heap}{ks us:List Int}(x:u6 prog w h a ks)(hp:ks.Perm us):u6 prog w h a us:=by
 obtain⟨o,es,ep,t,h1,h2,h3,h4,h5,h6,h7⟩:=x;exact⟨o,es,ep,t,h1,h2,h3,h4,h5.trans hp,hp.nodup_iff.mp h6,h7⟩
theorem above:∀n,n<300->7<SetTable.sizeAbove n/\n<SetTable.sizeAbove n/\SetTable.sizeAbove n<=sizeLine:=by decide +kernel
end
end ST
namespace L2
open PySem PySem.Spec PyProof.Rows
variable{X:Cx}
end L2

namespace ST
open PySem PyProof.Rows
theorem YV:typeLookup (.type "dict") "__len__"=pure (some (.builtin "dict.__len__")):=by rw[gJ,eG];kernel_rfl
section
variable{prog:Program}{w:World}{A:Around}{E:Value->Shared->Prop}{s:Shared}{a:Addr}{ep:Nat}{K:Type}[DecidableEq K]{knd:PySem.KeyKind prog w K}{kvs:List (K×Value)}
theorem aE3(hh:A.handled=none)(hd:(a==sysModules)=false)(hm:s.heap.DictAt knd a kvs ep)(hz:kvs.length<=10000){Q:List Value->Shared->Prop}(h:∀(vs:List Value) h' jw,vs.length=kvs.length->(∀(i:Nat) v,vs[i]?=some v->∃k x,kvs[i]?=some (k,x)/\knd.is k v=true)->(∀c o,s.heap.get? c=some o->h'.get? c=some o)->s.heap.objs.size<=h'.objs.size->s.toks<=jw->Q vs { s with heap:=h',toks:=jw }) :
  wpAny (model prog w) A (collect (.ref a)) Q E s:=by
 have et:a<s.heap.objs.size:=hm.lt_size;unfold collect;refine ae (zm (dG F.entry_proto_collect ?_));rw[cX F.plain_proto_collect _];show wpAny _ A.in1 (newList [] >>= λl=>again (.builtin "list.__iadd__" ⟨[l,.ref a],[]⟩)) _ _ s;refine ae (bV ?_);refine au ⟨gh iP _,dG F.entry_list_iadd ?_⟩;rw[cX iP _];have nX:=hm.push { cls:=.type "list",data:=.seq ([]:List Value).toArray };have AS:(s.heap.push { cls:=.type "list",data:=.seq ([]:List Value).toArray }).get? s.heap.objs.size=some { cls:=.type "list",data:=.seq ([]:List Value).toArray }:=az _ rfl;have dF:s.heap.objs.size≠a:=bE et;have h1:Builtin.List.listSameRef (.ref s.heap.objs.size) (.ref a)=false:=by simp[Builtin.List.listSameRef,dF]
 show wpAny _ A.in1 (Builtin.List.listExtendWith (.ref s.heap.objs.size) (.ref a) (.ref s.heap.objs.size)) _ _ _;unfold Builtin.List.listExtendWith;refine ae (dM (s:={ s with heap:=_ }) nX.dictOf.typeIs ?_);rw[aD (by rw[h1];decide)];refine ae (wpAny_pyIter_dict (s:={ s with heap:=_ }) hd nX ?_);have mr:s.heap.objs.size<(s.heap.push { cls:=.type "list",data:=.seq ([]:List Value).toArray }).objs.size:=by rw[hV];exact eJ _
 have OU:((s.heap.push { cls:=.type "list",data:=.seq ([]:List Value).toArray }).push { cls:=.type "dict_keyiterator",data:=.fields #[.ref a,.int 0 0,.int kvs.length 0,.int ep 0] }).IsKeyIter (s.heap.push { cls:=.type "list",data:=.seq ([]:List Value).toArray }).objs.size a 0 kvs.length ep:=⟨_,az _ rfl,rfl,rfl⟩
 have mB:=nX.push { cls:=.type "dict_keyiterator",data:=.fields #[.ref a,.int 0 0,.int kvs.length 0,.int ep 0] };have he:∀c o,(s.heap.push { cls:=.type "list",data:=.seq ([]:List Value).toArray }).get? c=some o->((s.heap.push { cls:=.type "list",data:=.seq ([]:List Value).toArray }).push { cls:=.type "dict_keyiterator",data:=.fields #[.ref a,.int 0 0,.int kvs.length 0,.int ep 0] }).get? c=some o:=λc o e=>ao _ e;have pR:=he _ _ AS;generalize ((s.heap.push { cls:=.type "list",data:=.seq ([]:List Value).toArray }).push { cls:=.type "dict_keyiterator",data:=.fields #[.ref a,.int 0 0,.int kvs.length 0,.int ep 0] })=h2 at *;generalize hI':(s.heap.push { cls:=.type "list",data:=.seq ([]:List Value).toArray }).objs.size=I at *;refine ae (bP ?_);unfold Builtin.List.listLengthHint;refine ae (wpAny_specialOf (s:={ s with heap:=h2 }) mB.dictOf.typeIs YV ?_);generalize vq:("dict.__len__":String)=Ad;dsimp only;rw[show splitId Ad=some ("dict","__len__") from by subst vq;decide +kernel];dsimp only;refine ae (fY (s:={ s with heap:=h2 }) (b:=true) mB.dictOf.typeIs (by rw[fM];kernel_rfl) ?_);rw[aD (by decide)];subst vq;rw[aK (by decide +kernel)];refine ae (dM (s:={ s with heap:=h2 }) mB.dictOf.typeIs ?_);refine au ?_;rw[aK (by decide +kernel)];refine ae (fm ?_);refine ae ?_;show wpAny _ A.in1 (updateSeq s.heap.objs.size (·.push .none) >>= λ_=>updateSeq s.heap.objs.size (·.pop)) _ _ _;refine ae (jO (s:={ s with heap:=h2 }) pR rfl ?_);have vE:=br (Obj.mapSeq (·.push Value.none)) pR rfl;refine jO (s:={ s with heap:=_ }) vE rfl ?_;have AR:=br (Obj.mapSeq (·.pop)) vE rfl;have uK:∀c o,c≠s.heap.objs.size->h2.get? c=some o->((h2.update s.heap.objs.size (Obj.mapSeq (·.push Value.none))).update s.heap.objs.size (Obj.mapSeq (·.pop))).get? c=some o :=
  λc o hc e=>(cO _ _ (bT hc)).trans ((cO _ _ (bT hc)).trans e)
 have OQ:I≠s.heap.objs.size:=bE mr;have OO:a≠I:=aN (cM et mr);have W:=(Walks.dictKeys (prog:=prog) (w:=w) (A:=A.in1) (knd:=knd) hh I a OO kvs ep).toS;have st:h2.IsKeyIter I a 0 kvs.length ep/\h2.DictAt knd a kvs ep:=⟨OU,mB⟩
 have jZ:=W.frame 0 ({ s with heap:=h2 }:Shared) _ s.toks st (av _) λc hc o e=>uK c o (λz=>by simp at hc;rcases hc with y|y<;>simp_all) e;refine au ⟨gh F.plain_extend_loop _,codeAny_extend_loopS W (aE hz (by decide)) _ (λz=>by simp at z;rcases z with y|y<;>simp_all) _ kvs.length 0 _ _ _ rfl (cJ _) jZ AR (ItemsOf.nil _) λs' sv c' hm lq jt=>?_⟩;show wpAny _ A (load s.heap.objs.size >>= _) _ _ s';refine ae (wpAny_load lq ?_);refine au ?_;have eS:s'={ s with heap:=s'.heap,toks:=s'.toks }:=by
  obtain⟨jz,g',d',jw,qQ⟩:=s';have m1:g'=s.gens:=hm.gens;have m2:d'=s.drawn:=hm.drawn;have m3:qQ=s.os:=hm.os;subst m1;subst m2;subst m3
  rfl
 rw[eS];refine h _ _ s'.toks (by simpa using jt.1) (λi v hv=>jt.2 i v (by simpa using hv)) (λc o e=>?_) (du (ax lq)) hm.toks;have hc:c<s.heap.objs.size:=ax e;have n1:c≠s.heap.objs.size:=aN hc;have n2:c≠I:=aN (cM hc mr);exact hm.heap c o (by simp[n1,n2]) (uK c o n1 (he c o (ao _ e)))
theorem Ts{i:Int}{v:Value}(h:(L2.n9 prog w).is (.inl i) v=true):∃t,v=.int i t:=by
 rw[L2.aO8] at h;rcases L2.u7 h with⟨j,t,e1,e2⟩|⟨x,t,e1,_⟩
 ·cases e1;exact⟨t,e2⟩
 ·cases e1
theorem aG4{kvs:List (L2.Key×Value)}{ns:List Int}(hh:A.handled=none)(hd:(a==sysModules)=false)(hm:s.heap.DictAt (L2.n9 prog w) a kvs ep)(hk:kvs.map (·.1)=ns.map Sum.inl)(Bf:ns.length<64){Q:Value->Shared->Prop}(h:∀(S:Addr) (vs:List Value) (jI:List Int) e h' jw,IntsAre vs jI->jI.Perm ns->jI.Pairwise (·<=·)->h'.get? S=some (seqObj "list" vs.toArray e)->s.heap.objs.size<=S->(∀c o,s.heap.get? c=some o->h'.get? c=some o)->s.toks<=jw->Q (.ref S) { s with heap:=h',toks:=jw }) :
  wpAny (model prog w) A (call (.builtin "sorted") [.ref a]) Q E s:=by
 have hl:kvs.length=ns.length:=by simpa using dt List.length hk
 refine iE kind_sorted plain_sorted entry_sorted (args_sorted1 _) ?_;unfold Builtin.«sorted»;refine ae (m:=checkCount "sorted" 1 1 _) (au ?_);refine ae (aE3 (A:=A.in1) hh hd hm (by omega) λvs h1 qz FR hv he mr sZ=>?_);have hI:IntsAre vs ns:=by
  have all:∀(i:Nat) v,vs[i]?=some v->∃n tk,ns[i]?=some n/\v=.int n tk:=λi v e=>by
   obtain⟨k,x,h1,h2⟩:=hv i v e;have h3:(kvs.map (·.1))[i]?=some k:=by rw[ai,h1];rfl
   rw[hk,ai,aa] at h3;obtain⟨n,h4,rfl⟩:=h3;obtain⟨tk,e⟩:=Ts h2;exact⟨n,tk,h4,e⟩
  have oB:vs.length=ns.length:=FR.trans hl;clear hv FR hl hk h
  induction vs generalizing ns with
  |nil =>
   cases ns with
   |nil=>exact .nil
   |cons=>simp at oB
  |cons v r ih =>
   cases ns with
   |nil=>simp at oB
   |cons n ns =>
    obtain⟨n',tk,e1,e2⟩:=all 0 v rfl;cases e1;rw[e2];exact .cons n tk (ih (by simp at Bf;omega) (λi v e=>all (i+1) v e) (by simpa using oB))
 have xK:vs.length<64:=by omega
 refine ae (Mp (s:={ s with heap:=h1,toks:=qz }) ?_);have lO:(h1.push (seqObj "list" vs.toArray 0)).get? h1.objs.size=some (seqObj "list" vs.toArray 0):=az _ rfl;refine ae (bP (cz (s:={ s with heap:=h1.push (seqObj "list" vs.toArray 0),toks:=qz }) slot_list_sort ⟨_,lO,rfl⟩ entry_list_sort (list_sort_tree lO hI xK λout jI a1 a2 a3=>⟨_,rfl,?_⟩) (args_list_sort _)));obtain⟨e,rm⟩:=sortedHeap_at (vs:=vs) (out:=out) lO;refine au ⟨_,rfl,h h1.objs.size out.toList jI e _ qz a1 a2 a3 rm mr (λc o' e'=>?_) sZ⟩;have hc:=ax (he c o' e');rw[sortedHeap_old (aN hc) (by rw[hV];exact kC hc)];exact ao _ (he c o' e')
end
end ST
namespace L2
open PySem PySem.Spec PyProof.Rows
section
variable{X:Cx}
theorem a13(hc:X.calm=true):l6 X (.builtin "any") (λxs H Q=>∃(a:Addr) (bs:List Bool),xs=[.ref a]/\fG X.K H a (bs.map V.bl)/\Q (.bl (bs.any id)) H):=by
 intro pins s Z H xs us Q I r h;obtain⟨a,bs,rfl,ha,q⟩:=h;obtain⟨u,rfl,ru⟩:=vals1 r;cases ru;obtain⟨aW,rv,p,hz⟩:=I.list ha;refine call_any_walk ?_;refine fL p.isList ?_;have dF:a≠s.heap.objs.size:=by
  obtain⟨o,e,_⟩:=id p.isList;exact aN (ax e)
 have hl:=rv.length;rw[ag] at hl;refine⟨s.heap.objs.size,_,_,_,_,_,λi=>bs.getD i false,rfl,zo (A:=X.A.in1) (I.ok.hd hc) _ a dF aW.toArray,⟨⟨_,az _ rfl,rfl,rfl⟩,?_⟩,?_,λh' tk k=>?_⟩
 ·obtain⟨o,e,q1⟩:=id p.isList;exact⟨o,ao _ e,q1⟩
 ·intro i v s' Q' E' hP hQ;have hv:aW[i]?=some v:=by simpa using hP
  have hi:i<bs.length:=by rw[hl];exact(aj.mp hv).1
  obtain⟨u',pK,uH⟩:=rv.get (i:=i) (x:=V.bl bs[i]) (by rw[ai,ah hi];rfl);rw[hv] at pK;cases pK;cases (show v=Value.bool bs[i] from uH);refine cH ?_;have:bs.getD i false=bs[i]:=by simp[List.getD,hi]
  dsimp only at hQ;rw[this] at hQ;exact hQ
 ·have e1:(List.range aW.toArray.size).any (λi=>bs.getD i false)=bs.any id:=by
   rw[aG,<- hl];rw[bc];simp only[List.any_eq_true,List.mem_range,id];constructor
   ·rintro⟨i,hi,hh⟩;exact⟨bs[i],cc hi,by simpa[List.getD,hi] using hh⟩
   ·rintro⟨x,hx,hh⟩;obtain⟨i,hi,rfl⟩:=cS.mp hx;exact⟨i,hi,by simpa[List.getD,hi] using hh⟩
  rw[e1];exact ⟨.bl (bs.any id),H,I.kept (t':=tk) λb o e=>k b o (by
   intro hb;have:b=s.heap.objs.size:=by simpa using hb
   exact absurd (ax e) (by rw [this];exact bw _)) (ao _ e),rfl,q⟩
theorem JW:∀{ns ks:List Int},(ks++ns).Nodup->ST.j4 ks ns=ks++ns
 |[],ks,_=>by simp[ST.j4]
 |n::r,ks,h=>by
  have hn:n∉ks:=λz=>by
   have:=(cw.mp h).2.2 n z n (by simp);exact this rfl
  have e:ST.B7 ks n=ks++[n]:=by
   unfold ST.B7;rw[aD (by simpa using hn)]
  show ST.j4 (ST.B7 ks n) r=_;rw[e,JW (by rw[cx];exact h),cx]
  rfl
theorem Zk(hc:X.calm=true):l6 X (.builtin "sorted") (λxs H Q=>∃a kvs ns,xs=[.ref a]/\H a=some (.dK kvs)/\kvs.map (·.1)=ns.map Sum.inl/\ns.length<60/\∀p,H p=none->Q (.ref p) (upd H p (.lst ((j9 ns).map V.int)))):=by
 intro pins s Z H xs us Q I r h;obtain⟨a,kvs,ns,rfl,ha,hk,hl,q⟩:=h;cases r with
 |cons r rr =>
 cases rr;cases r;obtain⟨_,hd,vs,kv,hD⟩:=DE I.bZ ha;obtain⟨ep,hA⟩:=hD.dictAt;have xN:vs.map (·.1)=ns.map Sum.inl:=kv.keys.symm.trans hk;have Aw:ns.Nodup:=by
  obtain⟨_,_,_,_,_,_,_,_,nd⟩:=id hD;rw[xN] at nd;exact(dw.mp nd).imp λh e=>h (dt _ e)
 refine ST.aG4 (I.ok.hd hc) hd hA xN (by omega) λS us jI e h' jw h1 h2 h3 h4 h5 h6 _=>?_;have e1:jI=j9 ns:=O9 (h2.trans ((F9 ns).trans (by rw[JW (ks:=[]) Aw];exact .refl _)).symm) h3 (Z4 ns);subst e1;have hz:=O7 ns;exact⟨.ref S,_,(I.laid (a:=S) (o:=.lst ((j9 ns).map V.int)) (t':=jw) h6 h5 ⟨by rw[ag];exact aE hz (aE (du hl) (by decide)),us,e,Z1 h1,h4⟩),rfl,q S (I.bZ.fresh h5)⟩
end
end L2

namespace L2
open PySem PySem.Spec PyProof.Rows
section
variable{X:Cx}
theorem X0{aW:List Value}{ns:List Int}(hi:IntsAre aW ns):∃xs,aW.toArray=intItems xs/\ns=xs.toList.map (·.1):=by
 obtain⟨xs,e⟩:=hi.allInts.items;exact⟨xs,e,by rw[<- hi.numsOf,<- nums_intItems,<- e]⟩
theorem a06(hc:X.calm=true):l6 X (.builtin "sum") (λxs H Q=>∃a,∃ns:List Int,xs=[.ref a]/\fG X.K H a (ns.map V.int)/\Q (.int ns.sum) H):=by
 intro pins s Z H xs us Q I r h;obtain⟨a,ns,rfl,ha,q⟩:=h;obtain⟨u,rfl,ru⟩:=vals1 r;cases ru;obtain⟨aW,rv,p,hz⟩:=I.list ha;obtain⟨xs,e,en⟩:=X0 (J3 rv);refine sum_intListG (xs:=xs) (I.ok.hd hc) (by rw[<- e];exact p.isList) λh' tk t' k=>⟨.int ns.sum,H,I.kept k,⟨t',?_⟩,q⟩
 rw[preSum_eq,iB (by simp),en]
theorem a09(hc:X.calm=true):l6 X (.builtin "max") (λxs H Q=>∃a,∃(ns:List Int) (M:Int),xs=[.ref a]/\fG X.K H a (ns.map V.int)/\M∈ns/\(∀x∈ns,x<=M)/\Q (.int M) H):=by
 intro pins s Z H xs us Q I r h;obtain⟨a,ns,M,rfl,ha,hm,hM,q⟩:=h;obtain⟨u,rfl,ru⟩:=vals1 r;cases ru;obtain⟨aW,rv,p,hz⟩:=I.list ha;obtain⟨xs,e,en⟩:=X0 (J3 rv);have hsz:0<xs.size:=by
  have:=fh hm;rw[en,ag,bz] at this;exact this
 refine max_intList (xs:=xs) (I.ok.hd hc) (by rw[<- e];exact p.isList) hsz λv h' tk hv k=>?_;obtain⟨t,rfl⟩:=intItems_at hv;obtain⟨h1,h2⟩:=argBest_gt (numAt xs) (xs.size-1);generalize argBest (λi j=>decide (numAt xs i>numAt xs j)) (xs.size-1)=j0 at *;have m1:numAt xs j0∈ns:=by rw[en,numAt_eq];exact getD_mem (by rw[ag,bz];omega)
 have m2:M<=numAt xs j0:=by
  rw[en] at hm;obtain⟨j,hj,rfl⟩:=mem_getD hm;rw[ag,bz] at hj;rw[<- numAt_eq];exact h2 j (by omega)
 have e2:numAt xs j0=M:=Int.le_antisymm (hM _ m1) m2;exact⟨.int M,H,I.kept k,⟨t,by rw[e2]⟩,q⟩
theorem a07(hc:X.calm=true):l6 X (.builtin "min") (λxs H Q=>∃a,∃(ns:List Int) (M:Int),xs=[.ref a]/\fG X.K H a (ns.map V.int)/\M∈ns/\(∀x∈ns,M<=x)/\Q (.int M) H):=by
 intro pins s Z H xs us Q I r h;obtain⟨a,ns,M,rfl,ha,hm,hM,q⟩:=h;obtain⟨u,rfl,ru⟩:=vals1 r;cases ru;obtain⟨aW,rv,p,hz⟩:=I.list ha;obtain⟨xs,e,en⟩:=X0 (J3 rv);have hsz:0<xs.size:=by
  have:=fh hm;rw[en,ag,bz] at this;exact this
 refine min_intList (xs:=xs) (I.ok.hd hc) (by rw[<- e];exact p.isList) hsz λv h' tk hv k=>?_;obtain⟨t,rfl⟩:=intItems_at hv;obtain⟨h1,h2⟩:=argBest_lt (numAt xs) (xs.size-1);generalize argBest (λi j=>decide (numAt xs i<numAt xs j)) (xs.size-1)=j0 at *;have m1:numAt xs j0∈ns:=by rw[en,numAt_eq];exact getD_mem (by rw[ag,bz];omega)
 have m2:numAt xs j0<=M:=by
  rw[en] at hm;obtain⟨j,hj,rfl⟩:=mem_getD hm;rw[ag,bz] at hj;rw[<- numAt_eq];exact h2 j (by omega)
 have e2:numAt xs j0=M:=Int.le_antisymm m2 (hM _ m1);exact⟨.int M,H,I.kept k,⟨t,by rw[e2]⟩,q⟩
theorem a15(hc:X.calm=true):l6 X (.builtin "all") (λxs H Q=>∃(a:Addr) (ns:List Int),xs=[.ref a]/\fG X.K H a (ns.map V.int)/\Q (.bl (ns.all λn=>n != 0)) H):=by
 intro pins s Z H xs us Q I r h;obtain⟨a,ns,rfl,ha,q⟩:=h;obtain⟨u,rfl,ru⟩:=vals1 r;cases ru;obtain⟨aW,rv,p,hz⟩:=I.list ha;refine call_all_walk ?_;refine fL p.isList ?_;have dF:a≠s.heap.objs.size:=by
  obtain⟨o,e,_⟩:=id p.isList;exact aN (ax e)
 have hl:=rv.length;rw[ag] at hl;refine⟨s.heap.objs.size,_,_,_,_,_,λi=>ns.getD i 1 != 0,rfl,zo (A:=X.A.in1) (I.ok.hd hc) _ a dF aW.toArray,⟨⟨_,az _ rfl,rfl,rfl⟩,?_⟩,?_,λh' tk k=>?_⟩
 ·obtain⟨o,e,q1⟩:=id p.isList;exact⟨o,ao _ e,q1⟩
 ·intro i v s' Q' E' hP hQ;have hv:aW[i]?=some v:=by simpa using hP
  have hi:i<ns.length:=by rw[hl];exact(aj.mp hv).1
  obtain⟨u',pK,uH⟩:=rv.get (i:=i) (x:=V.int ns[i]) (by rw[ai,ah hi];rfl);rw[hv] at pK;cases pK;obtain⟨t,rfl⟩:=uH;refine truthy_int ?_;have:ns.getD i 1=ns[i]:=by simp[List.getD,hi]
  dsimp only at hQ;rw[this] at hQ;exact hQ
 ·have e1:(List.range aW.toArray.size).all (λi=>ns.getD i 1 != 0)=ns.all λn=>n != 0:=by
   rw[aG,<- hl];rw[bc];simp only[List.all_eq_true,List.mem_range];constructor
   ·intro hh x hx;obtain⟨i,hi,rfl⟩:=cS.mp hx;have:=hh i hi;simpa[List.getD,hi] using this
   ·intro hh i hi;have:=hh ns[i] (cc hi);simpa[List.getD,hi] using this
  rw[e1];exact ⟨.bl _,H,I.kept (t':=tk) λb o e=>k b o (by
   intro hb;have:b=s.heap.objs.size:=by simpa using hb
   exact absurd (ax e) (by rw [this];exact bw _)) (ao _ e),rfl,q⟩
theorem YR:l6 X (.builtin "len") (λxs H Q=>∃a,∃ks:List Int,xs=[.ref a]/\H a=some (sk X a ks)/\Q (.int ks.length) H):=by
 intro pins s Z H xs us Q I r h;obtain⟨a,ks,rfl,ha,q⟩:=h;obtain⟨u,rfl,ru⟩:=vals1 r;cases ru;have hS:ST.u6 X.prog X.w s.heap a ks:=(I.bZ a _ ha).1;obtain⟨o,es,ep,t,e,ex,ed,_,hp,nd,hz,hf,_⟩:=hS;have hl:es.size=ks.length:=by have:=hp.length_eq;simpa using this
 refine call_len_set e ex ed hf (by have:scanBound<2 ^ 62:=(by decide);omega) ⟨.int ks.length,H,I.tok _,⟨_,by rw[hl]⟩,q⟩
end
end L2

namespace L2
open PySem PySem.Spec PyProof.Rows
section
variable{X:Cx}
theorem Uh{i:Int}{j:Nat}{p pos:Pos}(nC:PySem.W.kdsCode X.K X.env.code=true):PE X (.Set [.Constant (.int i) j p] 0 pos) (λZ H Q=>∀q,H q=none->Q (.ref q) (upd H q (.set (λk=>decide (k=i)) 1))):=by
 intro pins s Z H Q I h;rw[arm_eval_Set];refine ae (eE ?_);refine ae (PySem.W.kds_main I.gT nC λb=>?_);rw[PySem.W.kds_star _ (by rfl),bu];refine PySem.W.kds_core (ts:=(evalEach [Expr.Constant (.int i) j p] X.env).map λt=>do let v <- t;standAt pos;pure v) (by rfl) (by rfl) (by show 1<=30;decide) (by rw[bu];rfl) λled=>?_;refine PySem.W.kds_all pos _ _ _ ?_;show wpAny _ _ (eval (.Constant (.int i) j p) X.env) _ _ _;refine wpAny_Constant_int ?_;refine PySem.W.kds_fill_cons ?_;have OR:(s.heap.push { cls:=.type "set",dict:=none,data:=.set #[] 0 (.fresh 0 0 led) }).SetOf (intKind X.prog X.w) s.heap.objs.size (λ_=>false) 0:=(setObjOf_fresh led).setOf (az _ rfl) (by decide);unfold setAdd;refine bP (ae ((intKind X.prog X.w).pyHash (k:=i) (fZ _ _ _ _) ?_));refine wpAny_setAddHashed_of (knd:=intKind X.prog X.w) (fZ _ _ _ _) rfl OR (by decide) λh' An lq=>?_;refine PySem.W.kds_fill_nil (by rfl) ?_;have kp:∀b u,s.heap.get? b=some u->h'.get? b=some u:=λb u e=>(An.2 b (aN (ax e))).trans (ao _ e);exact⟨.ref s.heap.objs.size,_,I.laid (a:=s.heap.objs.size) (o:=.set (λk=>decide (k=i)) 1) kp (av _) (by show Heap.SetOf _ _ _ _ _;simpa using lq),rfl,h _ (I.bZ.fresh (av _))⟩
theorem ZN:fK X (compareOp .In) (λx y H Q=>∃i a S n,x=.int i/\y=.ref a/\H a=some (.set S n)/\Q (.bl (S i)) H):=by
 intro pins s Z H x y v u Q I rx ry h;obtain⟨i,a,S,n,rfl,rfl,ha,q⟩:=h;obtain⟨t,rfl⟩:=rx;cases ry;exact wpAny_inSet_of (knd:=intKind X.prog X.w) (k:=i) (fZ _ _ _ _) rfl (I.bZ a _ ha) ⟨.bl (S i),H,I.tok _,rfl,q⟩
theorem aB3:fK X (compareOp .NotIn) (λx y H Q=>∃i a S n,x=.int i/\y=.ref a/\H a=some (.set S n)/\Q (.bl (!S i)) H):=by
 intro pins s Z H x y v u Q I rx ry h;obtain⟨i,a,S,n,rfl,rfl,ha,q⟩:=h;obtain⟨t,rfl⟩:=rx;cases ry;exact wpAny_notInSet_of (knd:=intKind X.prog X.w) (k:=i) (fZ _ _ _ _) rfl (I.bZ a _ ha) ⟨.bl (!S i),H,I.tok _,rfl,q⟩
theorem aO7:lU X "set.add" (λx xs H Q=>∃a i S n,x=.ref a/\xs=[.int i]/\H a=some (.set S n)/\n+1<4096/\Q .bQ (upd H a (.set (λk=>S k||decide (k=i)) (if S i then n else n+1)))):=by
 intro pins s Z H x vs v us Q I rx rv h;obtain⟨a,i,S,n,rfl,rfl,ha,hn,q⟩:=h;cases rx;obtain⟨u,rfl,t,rfl⟩:=rv.one;refine call_set_add (knd:=intKind X.prog X.w) (k:=i) (fZ _ _ _ _) rfl (I.bZ a _ ha) (show n+1<scanBound from hn) λh' An lq=>?_;obtain⟨o,es,ep,tb,ho,_⟩:=id lq;exact⟨.bQ,_,I.write (x:=a) (e:=a) (o:=.set (λk=>S k||decide (k=i)) (if S i then n else n+1)) (by rw[ha];trivial) (.inl rfl) (λb u hb e=>(An.2 b hb).trans e) ⟨o,ho⟩ lq,rfl,q⟩
def Ez(K:PySem.W.Frag)(a:Addr)(n:Nat):It :=
 ⟨λi H=>∃xs x,fG K H a xs/\xs.length=n/\i<n/\xs[n-1-i]?=some x,λi H x H'=>H'=H/\∀xs,fG K H a xs->xs[n-1-i]?=some x,λi H=>n<=i⟩
theorem a31{P:Program}{w:World}{K:PySem.W.Frag}{tg:Expr}(a it:Addr)(n:Nat):Turn P w K tg (Ez K a n) [it] it (λi h=>i<=n/\h.IsRevIter it a ((n:Int)-1-(i:Nat))) where
 mem:=by simp
 obj:=λi h st b hb=>by
  have e:b=it:=by simpa using hb
  subst e;obtain⟨o,e,c,d⟩:=st.2;exact⟨o,e,λv z=>by rw[d] at z;cases z⟩
 keep:=λi h h' st k=>⟨st.1,st.2.at λo e=>k it (by simp) o e⟩
 item:=by
  intro X hP hw hK hc i pins s Z H E I hf st hg;subst hP hw hK;obtain⟨xs,x,hq,hn,hi,hx⟩:=hg;obtain⟨aW,rv,p,hz⟩:=I.list hq;obtain⟨u,hu,ru⟩:=rv.get hx;obtain⟨f0,f1,f2,f3,f4,f5⟩:=hf it (by simp);have jZ:=st.2;rw[show(n:Int)-1-(i:Nat)=((n-1-i:Nat):Int) by omega] at jZ;refine wpAny_pyNext_rev_item jZ p.isList (x:=u) (by simpa using hu) λh' lK sb=>?_;have I1:Inv X pins Z H { s with heap:=h' }:=I.turned (t':=s.toks) (λb o hb e=>(sb.2 b hb).trans e) f0 f1 f3 f4 f5;obtain⟨o,e,c,d⟩:=id lK;refine⟨u,rfl,yj (s:={ s with heap:=h' }) e c d (by decide) ⟨x,H,I1,ru,⟨rfl,λys hy=>by rw[I.CL hy hq];exact hx⟩,⟨by omega,?_⟩,λb hb=>(hf b hb).1⟩⟩;rw[show(n:Int)-1-((i+1:Nat):Int)=((n-1-i:Nat):Int)-1 by omega];exact lK
 done:=by
  intro X hP hw hK hc i pins s Z H E I hf st hg;subst hP hw hK;obtain⟨f0,f1,f2,f3,f4,f5⟩:=hf it (by simp);have jZ:=st.2;have:n<=i:=hg;rw[show(n:Int)-1-(i:Nat)=-1 by have:=st.1;omega] at jZ;exact wpAny_pyNext_rev_end (I.ok.hd hc) jZ λh' eb=>⟨rfl,I.turned (t':=s.toks) (λb o hb e=>eb b o hb e) f0 f1 f3 f4 f5⟩
 self:=λ_ _ _ _ _ st h=>wpAny_pyIter_revIter st.2 h
theorem boot_reversed:bootBuiltins "reversed"=some (.type "reversed"):=by decide +kernel
theorem Rw{tg l:Expr}{ta:TA}{p pos:Pos}(hg:Gl X "reversed")(hm:X.mg "reversed"=none)(ha:PA X [l] ta)(hs:starEach [l] X.env=[(false,eval l X.env)]) :
  PI X tg (.Call (.Name "reversed" p) [l] [] pos) (λZ H R=>ta Z H λvs H1=>∃a xs,vs=[.ref a]/\fG X.K H1 a xs/\R (Ez X.K a xs.length) H1):=by
 intro pins s Z H R I h;refine Call_ (L4 I hg hm boot_reversed (bN (cP (ha pos pins s Z H _ I h) λus s1 bt=>?_) hs rfl));obtain⟨vs,H1,I1,r1,q1⟩:=bt;obtain⟨a,xs,e,hq,q⟩:=q1;subst e;cases r1 with
 |cons r rr =>
  cases rr;cases r;obtain⟨aW,rv,p,hz⟩:=I1.list hq;refine call_reversed_list p.isList ?_;have hl:=rv.length;have hit:(s1.heap.push (revObj a ((aW.toArray.size:Int)-1))).IsRevIter s1.heap.objs.size a ((xs.length:Int)-1-((0:Nat):Int)):=⟨_,az _ rfl,rfl,by simp[revObj,hl]⟩
  refine wpAny_pyIter_revIter hit ?_;refine⟨s1.heap.objs.size,[s1.heap.objs.size],_,_,H1,rfl,I1.kept (t':=s1.toks) λb o e=>ao _ e,a31 a _ xs.length,⟨cJ _,hit⟩,λb hb=>?_,q⟩;have e:b=s1.heap.objs.size:=by simpa using hb
  subst e;exact I1.qg (av _) (I1.bZ.fresh (av _))
end
end L2

namespace ST
open PySem PyProof.Rows
section
variable{prog:Program}{w:World}{A:Around}{E:Value->Shared->Prop}{s:Shared}{a:Addr}
theorem aM8{T:String}{o:Obj}{items:Array Value}{n:Nat}{ns:List Int}(hT:T="list"\/T="tuple")(ho:s.heap.get? a=some o)(hc:o.cls=.type T)(hd:o.data=.seq items n)(hI:IntsAre items.toList ns)(Bf:ns.length<64){Q:Value->Shared->Prop}(h:∀(h1:Heap) (vs:List Value) (jI:List Int) e h',(∀b o',s.heap.get? b=some o'->h1.get? b=some o')->IntsAre vs jI->jI.Perm ns->jI.Pairwise (·<=·)->h'.get? h1.objs.size=some (seqObj "list" vs.toArray e)->(∀c o,h1.get? c=some o->h'.get? c=some o)->Q (.ref h1.objs.size) { s with heap:=h' }) :
  wpAny (model prog w) A (call (.builtin "sorted") [.ref a]) Q E s:=by
 have hl:items.toList.length=ns.length:=E1 hI;refine iE kind_sorted plain_sorted entry_sorted (args_sorted1 _) ?_;unfold Builtin.«sorted»;refine ae (m:=checkCount "sorted" 1 1 _) (au ?_);refine ae (wpAny_collect_seq (A:=A.in1) a hT ho hc hd (λh1 kp=>?_) (by simp at hl;unfold sizeLine;omega));have xK:items.toList.length<64:=by omega
 generalize items.toList=vs at *;refine ae (Mp (s:={ s with heap:=h1 }) ?_);have lO:(h1.push (seqObj "list" vs.toArray 0)).get? h1.objs.size=some (seqObj "list" vs.toArray 0):=az _ rfl;refine ae (bP (cz (s:={ s with heap:=h1.push (seqObj "list" vs.toArray 0) }) slot_list_sort ⟨_,lO,rfl⟩ entry_list_sort (list_sort_tree lO hI xK λout jI a1 a2 a3=>⟨_,rfl,?_⟩) (args_list_sort _)));obtain⟨e,rm⟩:=sortedHeap_at (vs:=vs) (out:=out) lO;refine au ⟨_,rfl,h h1 out.toList jI e _ kp a1 a2 a3 rm (λc o' e'=>?_)⟩;have hc:=ax e';rw[sortedHeap_old (aN hc) (by rw[hV];exact kC hc)];exact ao _ e'
end
end ST
namespace L2
open PySem PyProof.Rows
def P9(ns:List Int):List Int:=ns.mergeSort (λa b=>decide (a<=b))
theorem aM9(ns:List Int):(P9 ns).Pairwise (·<=·):=by
 have:=sN (le:=λa b:Int=>decide (a<=b)) (λa b c h1 h2=>by simp at *;omega) (λa b=>by simp;omega) ns;exact this.imp λh=>by simpa using h
theorem JH(ns:List Int):(P9 ns).Perm ns:=EM _ _
section
variable{X:Cx}
theorem Zg(hc:X.calm=true):l6 X (.builtin "sorted") (λxs H Q=>∃p,∃ns:List Int,xs=[.ref p]/\ip X.K H p (ns.map V.int)/\ns.length<60/\∀l,H l=none->Q (.ref l) (upd H l (.lst ((P9 ns).map V.int)))):=by
 intro pins s Z H xs us Q I r h;obtain⟨p,ns,rfl,hq,hl,q⟩:=h;obtain⟨u,rfl,rx⟩:=vals1 r;cases rx;obtain⟨aW,r',pl,hz⟩:=I.tuple hq;obtain⟨o,ho,hc,n,hd⟩:=pl;refine ST.aM8 (.inr rfl) ho hc hd (J3 r') (by omega) λh1 vs jI e h' kp i1 i2 i3 i4 i5=>?_;have e1:jI=P9 ns:=O9 (i2.trans (JH ns).symm) i3 (aM9 ns);subst e1;have I1:Inv X pins Z H { s with heap:=h1 }:=I.kept (t':=s.toks) kp;have hz:(P9 ns).length<=60:=by rw[(JH ns).length_eq];omega
 exact⟨.ref h1.objs.size,_,(I1.laid (a:=h1.objs.size) (o:=.lst ((P9 ns).map V.int)) (t':=s.toks) i5 (av _) ⟨by rw[ag];exact aE hz (by decide),vs,e,Z1 i1,i4⟩),rfl,q _ (I1.bZ.fresh (av _))⟩
end
end L2

namespace M
open PySem L2
inductive D where
 |bQ|bl (b:Bool)|int (i:Int)|str (x:Str)|ty (n:String)|ref (i:Nat)|tup (l:List D)
inductive O where
 |lst (l:List D)|oJ (l:List D)
 |dD (kvs:List (Key×D))
 |ins (c:Str) (fs:List (Str×D))
 |set (S:Int->Bool) (n:Nat)
def O.mut:O->Bool
 |.oJ _=>false
 |_=>true
def W9:D->Option Key
 |.int i=>some (.inl i)
 |.str x=>some (.inr x)
 |_=>none
def n8(kvs:List (Key×D))(k:Key):Option D:=(kvs.find? λkv=>decide (kv.1=k)).map (·.2)
def putD(kvs:List (Key×D))(k:Key)(v:D):List (Key×D) :=
 if(kvs.any λkv=>decide (kv.1=k))=true then kvs.map (λkv=>if kv.1=k then(kv.1,v) else kv) else kvs++[(k,v)]
def l9(f:Str)(v:D):List (Str×D)->List (Str×D)
 |[]=>[(f,v)]
 |(g,x)::r=>if g=f then(g,v)::r else(g,x)::l9 f v r
def O5:List D->Str->Option D
 |.tup [.str y,v]::r,x=>if x=y then some v else O5 r x
 |_::_,_=>none
 |[],_=>none
def V3:List D->Option Str
 |[]=>some Str.empty
 |.str x::r=>(V3 r).map λy=>x++y
 |_=>none
structure Xn where
 cls:Str
noncomputable abbrev G:=List O
noncomputable abbrev S:=List (Option D)
noncomputable abbrev KD:=D->G->Prop
noncomputable abbrev KX:=Xn->G->Prop
noncomputable abbrev jk:KX:=λ_ _=>False
def Ee:Option O->Option (List D)
 |some (.lst l)=>some l
 |some (.oJ l)=>some l
 |_=>none
noncomputable abbrev d0(g:G)(a:Nat):Option (List D):=Ee g[a]?
def rd(g:G):Nat->D->Option PyData
 |_,.bQ=>some .none
 |_,.bl b=>some (.bool b)
 |_,.int i=>some (.int i)
 |_,.str x=>some (.str x)
 |_,.ty _=>none
 |0,.ref _=>none
 |0,.tup _=>none
 |n+1,.ref a=>match d0 g a with
  |some l=>(l.mapM (rd g n)).map .list
  |none=>none
 |n+1,.tup l=>(l.mapM (rd g n)).map .tuple
def Na(g:G)(l:List D):Option (List PyData):=l.mapM (rd g 6)
def T7(g:G):D->Option (List D)
 |.tup l=>some l
 |.ref a=>d0 g a
 |_=>none
def L6:D->Bool
 |.bQ=>true
 |_=>false
def cut{α:Type}(xs:List α)(lo hi:Option Int):List α:=(xs.drop (HT.dQ xs.length 0 lo)).take (HT.dQ xs.length xs.length hi-HT.dQ xs.length 0 lo)
def Eo(g:G)(x:D)(c:String):Option Bool:=match x with
 |.bQ=>some (c=="NoneType")
 |.bl _=>some (c=="bool"||c=="int")
 |.int _=>some (c=="int")
 |.str _=>some (c=="str")
 |.tup _=>some (c=="tuple")
 |.ref a=>match g[a]? with
  |some (.lst _)=>some (c=="list")
  |_=>none
 |.ty _=>none
def k8(lo:Int)(n:Nat):List D:=(List.range n).map λ(k:Nat)=>.int (lo+k)
def V7:List D->Option Bool
 |[]=>some true
 |.bl b::r=>(V7 r).map λc=>b&&c
 |_=>none
inductive Pr where
 |bin (op:Operator)|un (op:UnaryOp)|cmp (op:CmpOp)
 |ix|mS (lo hi:Bool)|rev|tup|lst|oV
 |len|list|tuple|isin|all|max|min|int|str|jc|ki|sset|MU|vY
 |GK|vO|nK|fv|lR|fld (f:Str)
 |append|pop|get|index|join|iadd|clear|zP|extend|any|ka|sum|tQ|nk|kd|kc (i:Int)
noncomputable abbrev DR:=List D->G->D->G->Prop
def Za:Operator->Int->Int->Int->Prop
 |.Add,i,j,r=>r=i+j
 |.Sub,i,j,r=>r=i-j
 |.Mult,i,j,r=>rZ i j/\r=i*j
 |.FloorDiv,i,j,r=>BO i j/\r=i / j
 |.Mod,i,j,r=>0<j/\r=i % j
 |.Pow,i,j,r=>oR i j/\r=i ^ j.toNat
 |.LShift,i,j,r=>oR i j/\r=i*2 ^ j.toNat
 |.BitAnd,i,j,r=>r=Builtin.bitAnd i j
 |.BitOr,i,j,r=>r=Builtin.bitOr i j
 |_,_,_,_=>False
def Vp(op:Operator):DR:=λxs g d g' =>
 (∃i j r,xs=[.int i,.int j]/\Za op i j r/\d=.int r/\g'=g) \/
 (op=.Add/\((∃ l m,xs=[.tup l,.tup m]/\l.length + m.length <= 100000/\d=.tup (l ++ m)/\g'=g) \/
  (∃a b l m,xs=[.ref a,.ref b]/\g[a]?=some (.lst l)/\g[b]?=some (.lst m)/\l.length+m.length<=100000/\d=.ref g.length/\g'=g++[.lst (l++m)]) \/
  (∃ x y,xs=[.str x,.str y]/\x.length + y.length <= 100000/\d=.str (x ++ y)/\g'=g))) \/
 (op=.Mult/\((∃ a l n,xs=[.ref a,.int n]/\g[a]?=some (.lst l)/\-(2 ^ 62) <= n/\n < 2 ^ 62/\l.length * n.toNat <= 100000/\d=.ref g.length/\g'=g ++ [.lst (List.replicate n.toNat l).flatten]) \/
  (∃ l n,xs=[.tup l,.int n]/\l ≠ []/\1 <= n/\n < 2 ^ 62/\l.length * n.toNat <= 100000/\d=.tup (List.replicate n.toNat l).flatten/\g'=g)))
def MI(op:UnaryOp):DR:=λxs g d g'=>op=.USub/\∃i,xs=[.int i]/\d=.int (-i)/\g'=g
def vR(g:G)(x y:D)(b:Bool):Prop :=
 (∃i j,x=.int i/\y=.int j/\b=decide (i=j))\/(∃i j,x=.bl i/\y=.bl j/\b=(i==j))\/(∃i j,x=.str i/\y=.str j/\b=decide (i=j)) \/
 ∃p q,rd g 6 x=some p/\rd g 6 y=some q/\p.canLay0=true/\q.canLay0=true/\b=PyData.eqv p q
def inR(g:G)(x y:D)(b:Bool):Prop :=
 (∃a kvs c,y=.ref a/\g[a]?=some (.dD kvs)/\W9 x=some c/\b=(n8 kvs c).isSome) \/
 ∃l ps p,T7 g y=some l/\Na g l=some ps/\rd g 6 x=some p/\PyData.canLayAll0 ps=true/\p.canLay0=true/\b=(ps.any λq=>PyData.eqv q p)
def HI(g:G)(x y:D)(b:Bool):Prop:=∃a S n i,y=.ref a/\g[a]?=some (.set S n)/\x=.int i/\b=S i
def ID(g:G)(x y:D)(b:Bool):CmpOp->Prop
 |.Eq=>vR g x y b
 |.NotEq=>vR g x y (!b)
 |.In=>inR g x y b\/HI g x y b
 |.NotIn=>inR g x y (!b)\/HI g x y (!b)
 |.Lt=>∃i j,x=.int i/\y=.int j/\b=decide (i<j)
 |.LtE=>∃i j,x=.int i/\y=.int j/\b=decide (i<=j)
 |.Gt=>∃i j,x=.int i/\y=.int j/\b=decide (j<i)
 |.GtE=>∃i j,x=.int i/\y=.int j/\b=decide (j<=i)
 |.Is=>y=.bQ/\b=L6 x
 |.IsNot=>y=.bQ/\b=!L6 x
def Vv(op:CmpOp):DR:=λxs g d g'=>∃x y b,xs=[x,y]/\ID g x y b op/\d=.bl b/\g'=g
def HL(g:G)(x:D)(b:Bool):Prop :=
 (x=.bQ/\b=false)\/x=.bl b\/(∃i,x=.int i/\b=(i != 0))\/(∃l,x=.tup l/\b=!l.isEmpty)\/∃a l,x=.ref a/\d0 g a=some l/\b=!l.isEmpty
def NA:DR:=λxs g d g'=>g'=g/\((∃x l i,xs=[x,.int i]/\T7 g x=some l/\gP l i=some d)\/(∃a kvs y c,xs=[.ref a,y]/\g[a]?=some (.dD kvs)/\W9 y=some c/\n8 kvs c=some d) \/
 ∃ x i c,xs=[.str x,.int i]/\x.length <= 100000/\gP x.cps.toList i=some c/\d=.str ⟨#[c]⟩)
def uG(x:D)(lo hi:Option Int)(g:G)(d:D)(g':G):Prop:=(∃l,x=.tup l/\d=.tup (cut l lo hi)/\g'=g)\/∃a l,x=.ref a/\d0 g a=some l/\d=.ref g.length/\g'=g++[.lst (cut l lo hi)]
def Wi:Bool->Bool->DR
 |false,false,xs,g,d,g'=>∃x,xs=[x]/\uG x none none g d g'
 |true,false,xs,g,d,g'=>∃x i,xs=[x,.int i]/\uG x (some i) none g d g'
 |false,true,xs,g,d,g'=>∃x j,xs=[x,.int j]/\uG x none (some j) g d g'
 |true,true,xs,g,d,g'=>∃x i j,xs=[x,.int i,.int j]/\uG x (some i) (some j) g d g'
def We:DR:=λxs g d g'=>(∃l,xs=[.tup l]/\d=.tup l.reverse/\g'=g)\/∃a l,xs=[.ref a]/\d0 g a=some l/\d=.ref g.length/\g'=g++[.lst l.reverse]
def WH:DR:=λxs g d g'=>xs.length<=1000/\d=.tup xs/\g'=g
def VJ:DR:=λxs g d g'=>xs.length<=1000/\d=.ref g.length/\g'=g++[.lst xs]
def tO:List D->List (Key×D)->Option (List (Key×D))
 |[],kvs=>some kvs
 |k::v::r,kvs=>(W9 k).bind λc=>tO r (putD kvs c v)
 |_,_=>none
def WX:DR:=λxs g d g'=>xs=[]/\d=.ref g.length/\g'=g++[.dD []]
def VI:DR:=λxs g d g'=>g'=g/\((∃x l,xs=[x]/\T7 g x=some l/\d=.int l.length)\/(∃a kvs,xs=[.ref a]/\g[a]?=some (.dD kvs)/\d=.int kvs.length)\/∃x,xs=[.str x]/\x.length<=100000/\d=.int x.length)
def Xr:DR:=λxs g d g'=>∃x l,xs=[x]/\T7 g x=some l/\d=.ref g.length/\g'=g++[.lst l]
def SI:DR:=λxs g d g'=>∃x l,xs=[x]/\T7 g x=some l/\d=.tup l/\g'=g
def Xh:DR:=λxs g d g'=>∃x c b,xs=[x,.ty c]/\c∈["int","bool","str","tuple","list"]/\Eo g x c=some b/\d=.bl b/\g'=g
def allR:DR:=λxs g d g'=>∃a l b,xs=[.ref a]/\d0 g a=some l/\(V7 l=some b\/∃ns:List Int,l=ns.map .int/\b=ns.all λn=>n != 0)/\d=.bl b/\g'=g
def V6:List D->Option Bool
 |[]=>some false
 |.bl b::r=>(V6 r).map λc=>b||c
 |_=>none
def anyR:DR:=λxs g d g'=>∃a l b,xs=[.ref a]/\d0 g a=some l/\V6 l=some b/\d=.bl b/\g'=g
def Sf:DR:=λxs g d g'=>(∃a kvs ns,xs=[.ref a]/\g[a]?=some (.dD kvs)/\kvs.map (·.1)=ns.map Sum.inl/\ns.length<60/\d=.ref g.length/\g'=g++[.lst ((j9 ns).map .int)])\/∃ns:List Int,xs=[.tup (ns.map .int)]/\ns.length<60/\d=.ref g.length/\g'=g++[.lst ((P9 ns).map .int)]
def VL:DR:=λxs g d g'=>g'=g/\((∃i j,xs=[.int i,.int j]/\d=.int (if j>i then j else i))\/∃a,∃(ns:List Int) (M:Int),xs=[.ref a]/\d0 g a=some (ns.map .int)/\M∈ns/\(∀x∈ns,x<=M)/\d=.int M)
def VM:DR:=λxs g d g'=>g'=g/\((∃i j,xs=[.int i,.int j]/\d=.int (if j<i then j else i))\/∃a,∃(ns:List Int) (M:Int),xs=[.ref a]/\d0 g a=some (ns.map .int)/\M∈ns/\(∀x∈ns,M<=x)/\d=.int M)
def Yb:DR:=λxs g d g'=>∃a i S n,xs=[.ref a,.int i]/\g[a]?=some (.set S n)/\n+1<4096/\d=.bQ/\g'=g.set a (.set (λk=>S k||decide (k=i)) (if S i then n else n+1))
def RL(i:Int):DR:=λxs g d g'=>xs=[]/\d=.ref g.length/\g'=g++[.set (λk=>decide (k=i)) 1]
def Wk:DR:=λxs g d g'=>∃a,∃ns:List Int,xs=[.ref a]/\d0 g a=some (ns.map .int)/\d=.int ns.sum/\g'=g
def Xs:DR:=λxs g d g'=>∃a,∃ns:List Int,xs=[.ref a]/\d0 g a=some (ns.map .int)/\ns.length<60/\d=.int (ST.j4 [] ns).length/\g'=g
def Xi:DR:=λxs g d g'=>∃i j,xs=[.int i,.int j]/\d=.int (i-j)/\g'=g
def VG:DR:=λxs g d g'=>g'=g/\((∃i,xs=[.int i]/\d=.int i)\/∃b,xs=[.bl b]/\d=.int (if b then 1 else 0))
def Wj:DR:=λxs g d g'=>(∃i,xs=[.int i]/\i.natAbs.log2<1920/\d=.str (toString i)/\g'=g)\/∃x,xs=[.str x]/\d=.str x/\g'=g
def QI:DR:=λxs g d g'=>∃j,xs=[.int j]/\-(2 ^ 62)<=j/\j<=100000/\d=.ref g.length/\g'=g++[.lst (k8 0 j.toNat)]
def QJ:DR:=λxs g d g'=>∃i j,xs=[.int i,.int j]/\(-(2 ^ 62)<=i/\i<2 ^ 62/\-(2 ^ 62)<=j/\j<2 ^ 62/\j-i<=100000)/\d=.ref g.length/\g'=g++[.lst (k8 i (j-i).toNat)]
def Yf:DR:=λxs g d g'=>∃a ns,xs=[.ref a]/\d0 g a=some (ns.map .int)/\ns.length<60/\d=.ref g.length/\g'=g++[.lst ((j9 ns).map .int)]
def Wl:DR:=λxs g d g'=>∃ns ms:List Int,xs=[.tup (ns.map .int),.tup (ms.map .int)]/\(∀k∈ns,ST.Spot k)/\(∀k∈ms,ST.Spot k)/\ns.length+ms.length<50/\d=.ref g.length/\g'=g++[.lst ((j9 (ns++ms)).map .int)]
def En(neg:Bool):DR:=λxs g d g'=>∃kvs x,xs=[.tup kvs,.str x]/\d=.bl (xor neg (O5 kvs x).isSome)/\g'=g
def Xb:DR:=λxs g d g'=>∃kvs x,xs=[.tup kvs,.str x]/\O5 kvs x=some d/\g'=g
def PN:DR:=λxs g d g'=>g'=g/\((∃i,xs=[.int i]/\i.natAbs.log2<1920/\d=.str (toString i))\/∃x,xs=[.str x]/\x.length<=2000/\d=.str x)
def Xa:DR:=λxs g d g'=>∃x,V3 xs=some x/\d=.str x/\g'=g
def VA(f:Str):DR:=λxs g d g'=>∃a c fs,xs=[.ref a]/\g[a]?=some (.ins c fs)/\fs.lookup f=some d/\g'=g
def appendR:DR:=λxs g d g'=>∃a y l,xs=[.ref a,y]/\g[a]?=some (.lst l)/\l.length<100000/\d=.bQ/\g'=g.set a (.lst (l++[y]))
def VU:DR:=λxs g d g'=>∃a i l k,xs=[.ref a,.int i]/\g[a]?=some (.lst l)/\-(2 ^ 63)<=i/\i<2 ^ 63/\seqIndex? i l.length=some k/\l[k]?=some d/\g'=g.set a (.lst (l.eraseIdx k))
def VD:DR:=λxs g d g'=>∃a y z kvs c,xs=[.ref a,y,z]/\g[a]?=some (.dD kvs)/\W9 y=some c/\d=(n8 kvs c).getD z/\g'=g
def yh:D->Bool
 |.bQ=>true
 |.bl _=>true
 |.int _=>true
 |.str _=>true
 |_=>false
def toV:D->V
 |.bl b=>.bl b
 |.int i=>.int i
 |.str x=>.str x
 |_=>.bQ
def DW(l:List D)(y:D)(n:Nat):Prop:=l.all yh=true/\yh y=true/\(∃z,l[n]?=some z/\oe (toV z) (toV y)=true)/\∀(m:Nat) z,m<n->l[m]?=some z->oe (toV z) (toV y)=false
def Qt:DR:=λxs g d g'=>∃x y l n,xs=[x,y]/\T7 g x=some l/\DW l y n/\l.length<=100000/\d=.int n/\g'=g
def joinR:DR:=λxs g d g'=>∃sep a ys,xs=[.str sep,.ref a]/\d0 g a=some (ys.map .str)/\Tr sep ys<=100000/\d=.str (Builtin.Str.glued sep ys)/\g'=g
def Xe:DR:=λxs g d g'=>(∃i j,xs=[.int i,.int j]/\d=.int (i+j)/\g'=g)\/∃l m,xs=[.tup l,.tup m]/\l.length+m.length<=100000/\d=.tup (l++m)/\g'=g
def YI:DR:=λxs g d g'=>∃a l,xs=[.ref a]/\g[a]?=some (.lst l)/\d=.bQ/\g'=g.set a (.lst [])
def XS:DR:=λxs g d g'=>∃a l,xs=[.ref a]/\g[a]?=some (.lst (l++[d]))/\g'=g.set a (.lst l)
def Tc:DR:=λxs g d g'=>∃a b l m,xs=[.ref a,.ref b]/\g[a]?=some (.lst l)/\g[b]?=some (.lst m)/\l.length+m.length<=100000/\d=.bQ/\g'=g.set a (.lst (l++m))
def YK:DR:=λxs g d g'=>∃a kvs,xs=[.ref a]/\g[a]?=some (.dD kvs)/\d=.ref g.length/\g'=g++[.dD kvs]
def PR:Pr->DR
 |.clear=>YI
 |.any=>anyR
 |.sum=>Wk
 |.kd=>Yb
 |.kc i=>RL i
 |.tQ=>Xs
 |.nk=>Xi
 |.ka=>Sf
 |.extend=>Tc
 |.zP=>XS
 |.vY=>YK
 |.bin op=>Vp op
 |.un op=>MI op
 |.cmp op=>Vv op
 |.ix=>NA
 |.mS a b=>Wi a b
 |.rev=>We
 |.tup=>WH
 |.lst=>VJ
 |.oV=>WX
 |.len=>VI
 |.list=>Xr
 |.tuple=>SI
 |.isin=>Xh
 |.all=>allR
 |.max=>VL
 |.min=>VM
 |.int=>VG
 |.str=>Wj
 |.jc=>QI
 |.ki=>QJ
 |.sset=>Yf
 |.MU=>Wl
 |.GK=>En false
 |.vO=>En true
 |.nK=>Xb
 |.fv=>PN
 |.lR=>Xa
 |.fld f=>VA f
 |.append=>appendR
 |.pop=>VU
 |.get=>VD
 |.index=>Qt
 |.join=>joinR
 |.iadd=>Xe
def cY(p:Pr)(xs:List D)(g:G)(Q:KD):Prop:=∃d g',PR p xs g d g'/\Q d g'
def vS(g:G)(x y:D)(k:Bool->Prop):Prop:=∃b,vR g x y b/\k b
def qV(g:G)(x y:D)(k:Bool->Prop):Prop:=∃b,inR g x y b/\k b
def Z2(g:G)(x:D)(k:Bool->Prop):Prop:=∃b,HL g x b/\k b
def Wh(x y v:D)(g g':G):Prop:=(∃a i l j,x=.ref a/\y=.int i/\g[a]?=some (.lst l)/\kY l.length i=some j/\g'=g.set a (.lst (l.set j v))) \/
 ∃a kvs c,x=.ref a/\g[a]?=some (.dD kvs)/\W9 y=some c/\kvs.length<100000/\g'=g.set a (.dD (putD kvs c v))
def V8(x y v:D)(g:G)(k:G->Prop):Prop:=∃g',Wh x y v g g'/\k g'
def Im(f:Str)(cs:List Str)(x v:D)(g g':G):Prop:=∃a c fs,x=.ref a/\g[a]?=some (.ins c fs)/\c∈cs/\fs.length<100/\g'=g.set a (.ins c (l9 f v fs))
def wB(f:Str)(cs:List Str)(x v:D)(g:G)(k:G->Prop):Prop:=∃g',Im f cs x v g g'/\k g'
def lN:Pr->D->G->Prop
 |.get,x,g=>∃a kvs,x=.ref a/\g[a]?=some (.dD kvs)
 |.join,x,g=>∃y,x=.str y
 |.kd,x,g=>∃a S n,x=.ref a/\g[a]?=some (.set S n)
 |.index,x,g=>(∃l,x=.tup l)\/∃a l,x=.ref a/\d0 g a=some l
 |_,x,g=>∃a l,x=.ref a/\d0 g a=some l
inductive IK where
 |fix (l:List D)|lst (a:Nat)|oO (a:Nat)|sV (a n:Nat)
def IK.at:IK->Nat->G->Option (Option D)
 |.fix l,i,_=>some l[i]?
 |.lst a,i,g=>match d0 g a with
  |some l=>some l[i]?
  |none=>none
 |.oO a,i,g=>match d0 g a with
  |some l=>some (l[i]?.map λd=>.tup [.int i,d])
  |none=>none
 |.sV a n,i,g=>match d0 g a with
  |some l=>if l.length=n then some (if i<n then l[n-1-i]? else none) else none
  |none=>none
inductive MT where
 |one (i:Nat)|many (is:List Nat)
def E5:List Nat->List D->S->Option S
 |[],[],Z=>some Z
 |i::is,d::ds,Z=>E5 is ds (Z.set i (some d))
 |_,_,_=>none
def jx(t:MT)(x:D)(Z:S)(k:S->Prop):Prop:=match t with
 |.one i=>k (Z.set i (some x))
 |.many is=>∃l cq,x=.tup l/\E5 is l Z=some cq/\k cq
set_option genInjectivity false in
set_option genSizeOf false in
inductive ME where
 |var (i:Nat)|lit (d:D)
 |nil|cons (a b:ME)|prim (p:Pr) (es:ME)|dR (p:Pr) (o es:ME)|og (es:ME)
 |chain (o1 o2:CmpOp) (a b c:ME)
 |eL (a b:ME)|kz (a b:ME)|eX (a:ME)|ite (c a b:ME)
 |call (f:Nat) (es:ME)|make (c:Str) (f:Nat) (es:ME)|kf (m:Str) (cs:List (Str×Nat)) (o es:ME)
 |comp (d6:List Nat) (n:Nat) (tg:MT) (it cond elt:ME)|hJ (d6:List Nat) (n:Nat) (tg:MT) (it cond elt:ME)|ke (d6:List Nat) (n:Nat) (tg:MT) (it cond elt:ME)
 |fF (e:ME)|fA (a:ME)|kl (a b:ME)|jS (e:ME)|nV (e:ME)|fS (e:ME)|no
noncomputable abbrev fH:=Nat->List D->G->KD->KX->Prop
def E2(Z:S)(d6:List Nat)(n:Nat):S:=d6.map (λj=>(Z[j]?).join)++List.replicate (n-d6.length) none
def turns(k:IK)(Z:S)(g:G)(fin:S->G->Prop)(turn:D->(S->G->Prop)->S->G->Prop):Prop :=
 ∃W:Nat->Nat->S->G->Prop,(∃m,W 0 m Z g)/\∀i m Z g,W i m Z g->(k.at i g=some none/\fin Z g)\/∃x,k.at i g=some (some x)/\∃N2:S->G->Prop,(∀cq g',N2 cq g'->∃m',m'<m/\W (i+1) m' cq g')/\turn x N2 Z g
def yA(k:IK)(Z:S)(g:G)(fin:List D->G->Prop)(turn:D->(Option D->S->G->Prop)->S->G->Prop):Prop :=
 ∃W:Nat->Nat->List D->S->G->Prop,(∃m,W 0 m [] Z g)/\∀i m ys Z g,W i m ys Z g->(k.at i g=some none/\fin ys g) \/
  ∃x,k.at i g=some (some x)/\ys.length<100000/\turn x (λy cq g'=>∃m',m'<m/\W (i+1) m' (ys++y.toList) cq g') Z g
def BW(k:IK)(Z:S)(g:G)(fin:List Int->G->Prop)(turn:D->(Option Int->S->G->Prop)->S->G->Prop):Prop :=
 ∃W:Nat->Nat->List Int->S->G->Prop,(∃m,W 0 m [] Z g)/\∀i m ys Z g,W i m ys Z g->(k.at i g=some none/\ys.length<60/\fin ys g) \/
  ∃x,k.at i g=some (some x)/\ys.length<60/\turn x (λy cq g'=>∃m',m'<m/\W (i+1) m' (ys++y.toList) cq g') Z g
mutual
noncomputable def aS(P:fH):ME->S->G->KD->KX->Prop
 |.var i,Z,g,Q,_=>∃d,Z[i]?=some (some d)/\Q d g
 |.lit d,_,g,Q,_=>Q d g
 |.prim p es,Z,g,Q,E=>dJ P es Z g (λxs g1=>cY p xs g1 Q) E
 |.dR p o es,Z,g,Q,E=>aS P o Z g (λx g1=>lN p x g1/\dJ P es Z g1 (λxs g2=>cY p (x::xs) g2 Q) E) E
 |.og es,Z,g,Q,E=>dJ P es Z (g++[.dD []]) (λxs g1=>∃kvs,tO xs []=some kvs/\xs.length<=30/\g1[g.length]?=some (.dD [])/\Q (.ref g.length) (g1.set g.length (.dD kvs))) E
 |.chain o1 o2 a b c,Z,g,Q,E=>aS P a Z g (λx g1=>aS P b Z g1 (λy g2=>cY (.cmp o1) [x,y] g2 λz g3=>∃t,z=.bl t/\if t=true then aS P c Z g3 (λw g4=>cY (.cmp o2) [y,w] g4 Q) E else Q (.bl false) g3) E) E
 |.eL a b,Z,g,Q,E=>aS P a Z g (λx g1=>∃t,x=.bl t/\if t=true then aS P b Z g1 Q E else Q (.bl false) g1) E
 |.kz a b,Z,g,Q,E=>aS P a Z g (λx g1=>∃t,x=.bl t/\if t=true then Q (.bl true) g1 else aS P b Z g1 Q E) E
 |.eX a,Z,g,Q,E=>aS P a Z g (λx g1=>∃t,x=.bl t/\Q (.bl (!t)) g1) E
 |.ite c a b,Z,g,Q,E=>cT P c Z g (λt g1=>if t=true then aS P a Z g1 Q E else aS P b Z g1 Q E) E
 |.call f es,Z,g,Q,E=>dJ P es Z g (λxs g1=>P f xs g1 Q E) E
 |.make c f es,Z,g,Q,E=>dJ P es Z g (λxs g1=>P f (.ref g1.length::xs) (g1++[.ins c []]) (λd g2=>d=.bQ/\Q (.ref g1.length) g2) E) E
 |.kf m cs o es,Z,g,Q,E=>aS P o Z g (λx g1=>∃a c fs f,x=.ref a/\g1[a]?=some (.ins c fs)/\fs.lookup m=none/\cs.lookup c=some f/\dJ P es Z g1 (λxs g2=>P f (x::xs) g2 Q E) E) E
 |.comp d6 n tg it cond elt,Z,g,Q,E=>fj P it Z g (λk g1=>yA k (E2 Z d6 n) g1 (λys g=>Q (.ref g.length) (g++[.lst ys])) λx N Z g=>jx tg x Z λcK=>cT P cond cK g (λb g3=>if b=true then aS P elt cK g3 (λy g4=>N (some y) cK g4) jk else N none cK g3) jk) E
 |.ke d6 n tg it cond elt,Z,g,Q,E=>fj P it Z g (λk g1=>yA k (E2 Z d6 n) g1 (λys g=>Q (.ref g.length) (g++[.lst ys])) λx N Z g=>jx tg x Z λcK=>cT P cond cK g (λb g3=>if b=true then aS P elt cK g3 (λy g4=>N (some y) cK g4) E else N none cK g3) jk) E
 |.hJ d6 n tg it cond elt,Z,g,Q,E=>fj P it Z g (λk g1=>BW k (E2 Z d6 n) g1 (λys g=>Q (.ref g.length) (g++[.lst ((j9 ys).map .int)])) λx N Z g=>jx tg x Z λcK=>cT P cond cK g (λb g3=>if b=true then aS P elt cK g3 (λy g4=>∃j,y=.int j/\N (some j) cK g4) jk else N none cK g3) jk) E
 |.nil,_,_,_,_=>False
 |.cons _ _,_,_,_,_=>False
 |.fF _,_,_,_,_=>False
 |.fA _,_,_,_,_=>False
 |.kl _ _,_,_,_,_=>False
 |.jS _,_,_,_,_=>False
 |.nV _,_,_,_,_=>False
 |.fS _,_,_,_,_=>False
 |.no,_,_,_,_=>False
noncomputable def dJ(P:fH):ME->S->G->(List D->G->Prop)->KX->Prop
 |.nil,_,g,Q,_=>Q [] g
 |.cons a b,Z,g,Q,E=>aS P a Z g (λx g1=>dJ P b Z g1 (λxs g2=>Q (x::xs) g2) E) E
 |_,_,_,_,_=>False
noncomputable def cT(P:fH):ME->S->G->(Bool->G->Prop)->KX->Prop
 |.eL a b,Z,g,Q,E=>cT P a Z g (λt g1=>if t=true then cT P b Z g1 Q E else Q false g1) E
 |.kz a b,Z,g,Q,E=>cT P a Z g (λt g1=>if t=true then Q true g1 else cT P b Z g1 Q E) E
 |.eX a,Z,g,Q,E=>cT P a Z g (λt g1=>Q (!t) g1) E
 |.no,_,g,Q,_=>Q true g
 |.fS e,Z,g,Q,E=>aS P e Z g (λx g1=>Z2 g1 x λb=>Q b g1) E
 |_,_,_,_,_=>False
noncomputable def fj(P:fH):ME->S->G->(IK->G->Prop)->KX->Prop
 |.fF e,Z,g,R,E=>aS P e Z g (λx g1=>(∃l,x=.tup l/\R (.fix l) g1)\/∃a l,x=.ref a/\d0 g1 a=some l/\R (.lst a) g1) E
 |.fA a,Z,g,R,E=>aS P a Z g (λx g1=>∃j:Int,x=.int j/\-(2 ^ 62)<=j/\j<2 ^ 62/\R (.fix (k8 0 j.toNat)) g1) E
 |.kl a b,Z,g,R,E=>aS P a Z g (λx g1=>aS P b Z g1 (λy g2=>∃i j:Int,x=.int i/\y=.int j/\(-(2 ^ 62)<=i/\i<2 ^ 62/\-(2 ^ 62)<=j/\j<2 ^ 62)/\R (.fix (k8 i (j-i).toNat)) g2) E) E
 |.jS e,Z,g,R,E=>aS P e Z g (λx g1=>∃a l,x=.ref a/\d0 g1 a=some l/\R (.oO a) g1) E
 |.nV e,Z,g,R,E=>aS P e Z g (λx g1=>∃a l,x=.ref a/\d0 g1 a=some l/\R (.sV a l.length) g1) E
 |_,_,_,_,_=>False
end
set_option genInjectivity false in
set_option genSizeOf false in
inductive MS where
 |pass|seq (a b:MS)|expr (e:ME)|set (i:Nat) (e:ME)|mj (t:MT) (e:ME)|eF (o i v:ME)|ic (f:Str) (cs:List Str) (o v:ME)
 |wq (f:Str) (cs:List Str) (o v:ME)|kr (i:Nat) (p:Pr) (v:ME)|xn (o1 i1 o2 i2 e:ME)
 |ifs (c:ME) (a b:MS)|dY (t:MT) (it:ME) (b:MS)|jE (c:ME) (b:MS)|ret (e:ME)|qJ|brk|cont
 |raise (x:Str) (es:ME)|uz (b:MS) (hs:List (Str×ME))
structure Ends where
 nx:S->G->Prop
 rt:KD
 bk:S->G->Prop:=λ_ _=>False
 ct:S->G->Prop:=λ_ _=>False
def ux(P:fH)(N:Ends)(Z:S)(E:KX):List (Str×ME)->KX
 |[],x,g=>E x g
 |(y,e)::r,x,g=>if x.cls=y\/y="MintError" then aS P e Z g N.rt jk else ux P N Z E r x g
def wpS(P:fH):MS->Ends->S->G->KX->Prop
 |.pass,N,Z,g,_=>N.nx Z g
 |.seq a b,N,Z,g,E=>wpS P a { N with nx:=λiQ g1=>wpS P b N iQ g1 E } Z g E
 |.expr e,N,Z,g,E=>aS P e Z g (λ_ g1=>N.nx Z g1) E
 |.set i e,N,Z,g,E=>aS P e Z g (λx g1=>N.nx (Z.set i (some x)) g1) E
 |.mj t e,N,Z,g,E=>aS P e Z g (λx g1=>jx t x Z λiQ=>N.nx iQ g1) E
 |.eF o i v,N,Z,g,E=>aS P v Z g (λx g1=>aS P o Z g1 (λy g2=>aS P i Z g2 (λz g3=>V8 y z x g3 λg4=>N.nx Z g4) E) E) E
 |.ic f cs o v,N,Z,g,E=>aS P v Z g (λx g1=>aS P o Z g1 (λy g2=>wB f cs y x g2 λg3=>N.nx Z g3) E) E
 |.wq f cs o v,N,Z,g,E=>aS P o Z g (λy g1=>∃a c fs x,y=.ref a/\g1[a]?=some (.ins c fs)/\c∈cs/\fs.lookup f=some x/\aS P v Z g1 (λz g3=>cY .iadd [x,z] g3 λw g4=>∃rQ,g4[a]?=some (.ins c rQ)/\rQ.length<100/\N.nx Z (g4.set a (.ins c (l9 f w rQ)))) E) E
 |.xn o1 i1 o2 i2 e,N,Z,g,E=>aS P e Z g (λx g1=>∃u v,x=.tup [u,v]/\aS P o1 Z g1 (λy1 g2=>aS P i1 Z g2 (λz1 g3=>V8 y1 z1 u g3 λg4=>aS P o2 Z g4 (λy2 g5=>aS P i2 Z g5 (λz2 g6=>V8 y2 z2 v g6 λg7=>N.nx Z g7) E) E) E) E) E
 |.kr i p v,N,Z,g,E=>∃x,Z[i]?=some (some x)/\aS P v Z g (λz g1=>cY p [x,z] g1 λw g2=>N.nx (Z.set i (some w)) g2) E
 |.ifs c a b,N,Z,g,E=>cT P c Z g (λt g1=>if t=true then wpS P a N Z g1 E else wpS P b N Z g1 E) E
 |.dY t it b,N,Z,g,E=>fj P it Z g (λk g1=>turns k Z g1 N.nx λx N2 Z g=>jx t x Z λcK=>wpS P b { N with nx:=N2,ct:=N2,bk:=N.nx } cK g E) E
 |.jE c b,N,Z,g,E=>∃W:Nat->S->G->Prop,(∃m,W m Z g)/\∀m Z g,W m Z g->cT P c Z g (λt g1=>if t=true then ∃N2:S->G->Prop,(∀cq g',N2 cq g'->∃m',m'<m/\W m' cq g')/\wpS P b { N with nx:=N2,ct:=N2,bk:=N.nx } Z g1 E else N.nx Z g1) E
 |.ret e,N,Z,g,E=>aS P e Z g N.rt E
 |.qJ,N,_,g,_=>N.rt .bQ g
 |.brk,N,Z,g,_=>N.bk Z g
 |.cont,N,Z,g,_=>N.ct Z g
 |.raise x es,_,Z,g,E=>dJ P es Z g (λvs g1=>vs.length<=1000/\E ⟨x⟩ g1) E
 |.uz b hs,N,Z,g,E=>wpS P b N Z g (ux P N (Z.map λ_=>none) E hs)
structure aZ where
 ar:Nat
 n:Nat
 body:MS
def d7(m:aZ)(ds:List D):S:=ds.map some++List.replicate (m.n-ds.length) none
def c8(T:Nat->Option aZ):Nat->fH
 |0,_,_,_,_,_=>False
 |k+1,f,ds,g,Q,E=>∃m,T f=some m/\ds.length=m.ar/\wpS (c8 T k) m.body ⟨λ_ g'=>Q .bQ g',Q,λ_ _=>False,λ_ _=>False⟩ (d7 m ds) g E
end M

namespace M
open PySem L2
theorem u4{p xs}{g:G}{Q Q':KD}(h:∀d g,Q d g->Q' d g)(q:cY p xs g Q):cY p xs g Q':=by
 obtain⟨d,g',a,b⟩:=q;exact⟨d,g',a,h _ _ b⟩
theorem aT6{x}{g:G}{k k':Bool->Prop}(h:∀b,k b->k' b)(q:Z2 g x k):Z2 g x k':=by
 obtain⟨b,a,z⟩:=q;exact⟨b,a,h _ z⟩
theorem U6{x y v}{g:G}{k k':G->Prop}(h:∀g,k g->k' g)(q:V8 x y v g k):V8 x y v g k':=by
 obtain⟨b,a,z⟩:=q;exact⟨b,a,h _ z⟩
theorem aN2{f cs x v}{g:G}{k k':G->Prop}(h:∀g,k g->k' g)(q:wB f cs x v g k):wB f cs x v g k':=by
 obtain⟨b,a,z⟩:=q;exact⟨b,a,h _ z⟩
theorem v9{t x Z}{k k':S->Prop}(h:∀Z,k Z->k' Z)(q:jx t x Z k):jx t x Z k':=by
 cases t with
 |one i=>exact h _ q
 |many is=>obtain⟨l,cq,a,b,c⟩:=q;exact⟨l,cq,a,b,h _ c⟩
theorem aM0{k Z g}{fin ko:S->G->Prop}{turn iq:D->(S->G->Prop)->S->G->Prop}(h:∀Z g,fin Z g->ko Z g)(h2:∀x N Z g,turn x N Z g->iq x N Z g)(q:turns k Z g fin turn):turns k Z g ko iq:=by
 obtain⟨W,w0,q⟩:=q;refine⟨W,w0,λi m Z g w=>?_⟩;rcases q i m Z g w with⟨a,b⟩|⟨x,a,N2,b,c⟩
 ·exact .inl ⟨a,h _ _ b⟩
 ·exact .inr ⟨x,a,N2,b,h2 _ _ _ _ c⟩
theorem JV{k Z g}{fin ko:List D->G->Prop}{turn iq:D->(Option D->S->G->Prop)->S->G->Prop}(h:∀ys g,fin ys g->ko ys g)(h2:∀x N Z g,turn x N Z g->iq x N Z g)(q:yA k Z g fin turn):yA k Z g ko iq:=by
 obtain⟨W,w0,q⟩:=q;refine⟨W,w0,λi m ys Z g w=>?_⟩;rcases q i m ys Z g w with⟨a,b⟩|⟨x,a,b,c⟩
 ·exact .inl ⟨a,h _ _ b⟩
 ·exact .inr ⟨x,a,b,h2 _ _ _ _ c⟩
theorem aG2{k Z g}{fin ko:List Int->G->Prop}{turn iq:D->(Option Int->S->G->Prop)->S->G->Prop}(h:∀ys g,fin ys g->ko ys g)(h2:∀x N Z g,turn x N Z g->iq x N Z g)(q:BW k Z g fin turn):BW k Z g ko iq:=by
 obtain⟨W,w0,q⟩:=q;refine⟨W,w0,λi m ys Z g w=>?_⟩;rcases q i m ys Z g w with⟨a,b,c⟩|⟨x,a,b,c⟩
 ·exact .inl ⟨a,b,h _ _ c⟩
 ·exact .inr ⟨x,a,b,h2 _ _ _ _ c⟩
theorem F5{t:Bool}{A B A' B':Prop}(h1:A->A')(h2:B->B')(q:if t=true then A else B):if t=true then A' else B':=by
 cases t
 ·exact h2 q
 ·exact h1 q
def i7(P:fH):Prop:=∀f xs g Q Q' E E',(∀d g,Q d g->Q' d g)->(∀x g,E x g->E' x g)->P f xs g Q E->P f xs g Q' E'
mutual
theorem b9{P:fH}(hP:i7 P):∀(e:ME) (Z:S) (g:G) (Q Q':KD) (E E':KX),(∀d g,Q d g->Q' d g)->(∀x g,E x g->E' x g)->aS P e Z g Q E->aS P e Z g Q' E'
 |.var i,Z,g,Q,Q',E,E',h,hx,q=>by
  simp only[aS] at q ⊢;obtain⟨d,a,b⟩:=q;exact⟨d,a,h _ _ b⟩
 |.lit d,Z,g,Q,Q',E,E',h,hx,q=>by simp only[aS] at q ⊢;exact h _ _ q
 |.prim p es,Z,g,Q,Q',E,E',h,hx,q=>by
  simp only[aS] at q ⊢;exact A1 hP es _ _ _ _ _ _ (λxs g1 q=>u4 h q) hx q
 |.dR p o es,Z,g,Q,Q',E,E',h,hx,q=>by
  simp only[aS] at q ⊢;exact b9 hP o _ _ _ _ _ _ (λx g1 q=>⟨q.1,A1 hP es _ _ _ _ _ _ (λxs g2 q=>u4 h q) hx q.2⟩) hx q
 |.og es,Z,g,Q,Q',E,E',h,hx,q=>by
  simp only[aS] at q ⊢;exact A1 hP es _ _ _ _ _ _ (λxs g1 ⟨kvs,a,b,c,d⟩=>⟨kvs,a,b,c,h _ _ d⟩) hx q
 |.chain o1 o2 a b c,Z,g,Q,Q',E,E',h,hx,q=>by
  simp only[aS] at q ⊢;refine b9 hP a _ _ _ _ _ _ (λx g1 q=>b9 hP b _ _ _ _ _ _ (λy g2 q=>u4 (λz g3 q=>?_) q) hx q) hx q;obtain⟨t,e,q⟩:=q;exact⟨t,e,F5 (λq=>b9 hP c _ _ _ _ _ _ (λw g4 q=>u4 h q) hx q) (h _ _) q⟩
 |.eL a b,Z,g,Q,Q',E,E',h,hx,q=>by
  simp only[aS] at q ⊢;refine b9 hP a _ _ _ _ _ _ (λx g1 q=>?_) hx q;obtain⟨t,e,q⟩:=q;exact⟨t,e,F5 (λq=>b9 hP b _ _ _ _ _ _ h hx q) (h _ _) q⟩
 |.kz a b,Z,g,Q,Q',E,E',h,hx,q=>by
  simp only[aS] at q ⊢;refine b9 hP a _ _ _ _ _ _ (λx g1 q=>?_) hx q;obtain⟨t,e,q⟩:=q;exact⟨t,e,F5 (h _ _) (λq=>b9 hP b _ _ _ _ _ _ h hx q) q⟩
 |.eX a,Z,g,Q,Q',E,E',h,hx,q=>by
  simp only[aS] at q ⊢;refine b9 hP a _ _ _ _ _ _ (λx g1 q=>?_) hx q;obtain⟨t,e,q⟩:=q;exact⟨t,e,h _ _ q⟩
 |.ite c a b,Z,g,Q,Q',E,E',h,hx,q=>by
  simp only[aS] at q ⊢;exact p6 hP c _ _ _ _ _ _ (λt g1 q=>F5 (λq=>b9 hP a _ _ _ _ _ _ h hx q) (λq=>b9 hP b _ _ _ _ _ _ h hx q) q) hx q
 |.call f es,Z,g,Q,Q',E,E',h,hx,q=>by
  simp only[aS] at q ⊢;exact A1 hP es _ _ _ _ _ _ (λxs g1 q=>hP _ _ _ _ _ _ _ h hx q) hx q
 |.make c f es,Z,g,Q,Q',E,E',h,hx,q=>by
  simp only[aS] at q ⊢;exact A1 hP es _ _ _ _ _ _ (λxs g1 q=>hP _ _ _ _ _ _ _ (λd g2 q=>⟨q.1,h _ _ q.2⟩) hx q) hx q
 |.kf m cs o es,Z,g,Q,Q',E,E',h,hx,q=>by
  simp only[aS] at q ⊢;refine b9 hP o _ _ _ _ _ _ (λx g1 q=>?_) hx q;obtain⟨a,c,fs,f,q1,q2,q3,q4,q⟩:=q;exact⟨a,c,fs,f,q1,q2,q3,q4,A1 hP es _ _ _ _ _ _ (λxs g2 q=>hP _ _ _ _ _ _ _ h hx q) hx q⟩
 |.comp d6 n tg it cond elt,Z,g,Q,Q',E,E',h,hx,q=>by
  simp only[aS] at q ⊢;exact y9 hP it _ _ _ _ _ _ (λk g1 q=>JV (λys g q=>h _ _ q) (λ_ _ _ _ q=>q) q) hx q
 |.ke d6 n tg it cond elt,Z,g,Q,Q',E,E',h,hx,q=>by
  simp only[aS] at q ⊢;exact y9 hP it _ _ _ _ _ _ (λk g1 q=>JV (λys g q=>h _ _ q) (λx N Z g q=>v9 (λcK q=>p6 hP cond _ _ _ _ _ _ (λb g3 q=>by
   cases b
   ·exact q
   ·exact b9 hP elt _ _ _ _ _ _ (λ_ _ z=>z) hx q) (λ_ _ z=>z) q) q) q) hx q
 |.hJ d6 n tg it cond elt,Z,g,Q,Q',E,E',h,hx,q=>by
  simp only[aS] at q ⊢;exact y9 hP it _ _ _ _ _ _ (λk g1 q=>aG2 (λys g q=>h _ _ q) (λ_ _ _ _ q=>q) q) hx q
 |.nil,Z,g,Q,Q',E,E',h,hx,q=>(show False from q).elim
 |.cons _ _,Z,g,Q,Q',E,E',h,hx,q=>(show False from q).elim
 |.fF _,Z,g,Q,Q',E,E',h,hx,q=>(show False from q).elim
 |.fA _,Z,g,Q,Q',E,E',h,hx,q=>(show False from q).elim
 |.kl _ _,Z,g,Q,Q',E,E',h,hx,q=>(show False from q).elim
 |.jS _,Z,g,Q,Q',E,E',h,hx,q|.nV _,Z,g,Q,Q',E,E',h,hx,q=>(show False from q).elim
 |.fS _,Z,g,Q,Q',E,E',h,hx,q=>(show False from q).elim
 |.no,Z,g,Q,Q',E,E',h,hx,q=>(show False from q).elim
theorem A1{P:fH}(hP:i7 P):∀(e:ME) (Z:S) (g:G) (Q Q':List D->G->Prop) (E E':KX),(∀d g,Q d g->Q' d g)->(∀x g,E x g->E' x g)->dJ P e Z g Q E->dJ P e Z g Q' E'
 |.nil,Z,g,Q,Q',E,E',h,hx,q=>by simp only[dJ] at q ⊢;exact h _ _ q
 |.cons a b,Z,g,Q,Q',E,E',h,hx,q=>by
  simp only[dJ] at q ⊢;exact b9 hP a _ _ _ _ _ _ (λx g1 q=>A1 hP b _ _ _ _ _ _ (λxs g2 q=>h _ _ q) hx q) hx q
 |.var _,Z,g,Q,Q',E,E',h,hx,q|.lit _,Z,g,Q,Q',E,E',h,hx,q|.prim _ _,Z,g,Q,Q',E,E',h,hx,q|.dR _ _ _,Z,g,Q,Q',E,E',h,hx,q|.og _,Z,g,Q,Q',E,E',h,hx,q|.chain _ _ _ _ _,Z,g,Q,Q',E,E',h,hx,q|.eL _ _,Z,g,Q,Q',E,E',h,hx,q|.kz _ _,Z,g,Q,Q',E,E',h,hx,q|.eX _,Z,g,Q,Q',E,E',h,hx,q|.ite _ _ _,Z,g,Q,Q',E,E',h,hx,q|.call _ _,Z,g,Q,Q',E,E',h,hx,q
 |.make _ _ _,Z,g,Q,Q',E,E',h,hx,q|.kf _ _ _ _,Z,g,Q,Q',E,E',h,hx,q|.comp _ _ _ _ _ _,Z,g,Q,Q',E,E',h,hx,q|.hJ _ _ _ _ _ _,Z,g,Q,Q',E,E',h,hx,q|.ke _ _ _ _ _ _,Z,g,Q,Q',E,E',h,hx,q|.fF _,Z,g,Q,Q',E,E',h,hx,q|.fA _,Z,g,Q,Q',E,E',h,hx,q|.kl _ _,Z,g,Q,Q',E,E',h,hx,q|.jS _,Z,g,Q,Q',E,E',h,hx,q|.nV _,Z,g,Q,Q',E,E',h,hx,q|.fS _,Z,g,Q,Q',E,E',h,hx,q|.no,Z,g,Q,Q',E,E',h,hx,q=>(show False from q).elim
theorem p6{P:fH}(hP:i7 P):∀(e:ME) (Z:S) (g:G) (Q Q':Bool->G->Prop) (E E':KX),(∀d g,Q d g->Q' d g)->(∀x g,E x g->E' x g)->cT P e Z g Q E->cT P e Z g Q' E'
 |.eL a b,Z,g,Q,Q',E,E',h,hx,q=>by
  simp only[cT] at q ⊢;exact p6 hP a _ _ _ _ _ _ (λt g1 q=>F5 (λq=>p6 hP b _ _ _ _ _ _ h hx q) (h _ _) q) hx q
 |.kz a b,Z,g,Q,Q',E,E',h,hx,q=>by
  simp only[cT] at q ⊢;exact p6 hP a _ _ _ _ _ _ (λt g1 q=>F5 (h _ _) (λq=>p6 hP b _ _ _ _ _ _ h hx q) q) hx q
 |.eX a,Z,g,Q,Q',E,E',h,hx,q=>by simp only[cT] at q ⊢;exact p6 hP a _ _ _ _ _ _ (λt g1 q=>h _ _ q) hx q
 |.no,Z,g,Q,Q',E,E',h,hx,q=>by simp only[cT] at q ⊢;exact h _ _ q
 |.fS e,Z,g,Q,Q',E,E',h,hx,q=>by simp only[cT] at q ⊢;exact b9 hP e _ _ _ _ _ _ (λx g1 q=>aT6 (λb q=>h _ _ q) q) hx q
 |.var _,Z,g,Q,Q',E,E',h,hx,q|.lit _,Z,g,Q,Q',E,E',h,hx,q|.prim _ _,Z,g,Q,Q',E,E',h,hx,q|.dR _ _ _,Z,g,Q,Q',E,E',h,hx,q|.og _,Z,g,Q,Q',E,E',h,hx,q|.chain _ _ _ _ _,Z,g,Q,Q',E,E',h,hx,q|.ite _ _ _,Z,g,Q,Q',E,E',h,hx,q|.call _ _,Z,g,Q,Q',E,E',h,hx,q|.nil,Z,g,Q,Q',E,E',h,hx,q|.cons _ _,Z,g,Q,Q',E,E',h,hx,q
 |.make _ _ _,Z,g,Q,Q',E,E',h,hx,q|.kf _ _ _ _,Z,g,Q,Q',E,E',h,hx,q|.comp _ _ _ _ _ _,Z,g,Q,Q',E,E',h,hx,q|.hJ _ _ _ _ _ _,Z,g,Q,Q',E,E',h,hx,q|.ke _ _ _ _ _ _,Z,g,Q,Q',E,E',h,hx,q|.fF _,Z,g,Q,Q',E,E',h,hx,q|.fA _,Z,g,Q,Q',E,E',h,hx,q|.kl _ _,Z,g,Q,Q',E,E',h,hx,q|.jS _,Z,g,Q,Q',E,E',h,hx,q|.nV _,Z,g,Q,Q',E,E',h,hx,q=>(show False from q).elim
theorem y9{P:fH}(hP:i7 P):∀(e:ME) (Z:S) (g:G) (Q Q':IK->G->Prop) (E E':KX),(∀d g,Q d g->Q' d g)->(∀x g,E x g->E' x g)->fj P e Z g Q E->fj P e Z g Q' E'
 |.fF e,Z,g,Q,Q',E,E',h,hx,q=>by
  simp only[fj] at q ⊢;exact b9 hP e _ _ _ _ _ _ (λx g1 q=>q.imp (λ⟨l,a,b⟩=>⟨l,a,h _ _ b⟩) λ⟨i,l,a,b,c⟩=>⟨i,l,a,b,h _ _ c⟩) hx q
 |.fA a,Z,g,Q,Q',E,E',h,hx,q=>by
  simp only[fj] at q ⊢;exact b9 hP a _ _ _ _ _ _ (λx g1 ⟨j,a,b,c,d⟩=>⟨j,a,b,c,h _ _ d⟩) hx q
 |.kl a b,Z,g,Q,Q',E,E',h,hx,q=>by
  simp only[fj] at q ⊢;exact b9 hP a _ _ _ _ _ _ (λx g1 q=>b9 hP b _ _ _ _ _ _ (λy g2 ⟨i,j,a,b,c,d⟩=>⟨i,j,a,b,c,h _ _ d⟩) hx q) hx q
 |.jS e,Z,g,Q,Q',E,E',h,hx,q=>by
  simp only[fj] at q ⊢;exact b9 hP e _ _ _ _ _ _ (λx g1 ⟨i,l,a,b,c⟩=>⟨i,l,a,b,h _ _ c⟩) hx q
 |.nV e,Z,g,Q,Q',E,E',h,hx,q=>by
  simp only[fj] at q ⊢;exact b9 hP e _ _ _ _ _ _ (λx g1 ⟨i,l,a,b,c⟩=>⟨i,l,a,b,h _ _ c⟩) hx q
 |.var _,Z,g,Q,Q',E,E',h,hx,q|.lit _,Z,g,Q,Q',E,E',h,hx,q|.prim _ _,Z,g,Q,Q',E,E',h,hx,q|.dR _ _ _,Z,g,Q,Q',E,E',h,hx,q|.og _,Z,g,Q,Q',E,E',h,hx,q|.chain _ _ _ _ _,Z,g,Q,Q',E,E',h,hx,q|.ite _ _ _,Z,g,Q,Q',E,E',h,hx,q|.call _ _,Z,g,Q,Q',E,E',h,hx,q|.nil,Z,g,Q,Q',E,E',h,hx,q|.cons _ _,Z,g,Q,Q',E,E',h,hx,q
 |.eL _ _,Z,g,Q,Q',E,E',h,hx,q|.kz _ _,Z,g,Q,Q',E,E',h,hx,q|.eX _,Z,g,Q,Q',E,E',h,hx,q|.fS _,Z,g,Q,Q',E,E',h,hx,q|.no,Z,g,Q,Q',E,E',h,hx,q
 |.make _ _ _,Z,g,Q,Q',E,E',h,hx,q|.kf _ _ _ _,Z,g,Q,Q',E,E',h,hx,q|.comp _ _ _ _ _ _,Z,g,Q,Q',E,E',h,hx,q|.hJ _ _ _ _ _ _,Z,g,Q,Q',E,E',h,hx,q|.ke _ _ _ _ _ _,Z,g,Q,Q',E,E',h,hx,q=>(show False from q).elim
end
structure Ends.le(N N':Ends):Prop where
 nx:∀Z g,N.nx Z g->N'.nx Z g
 rt:∀d g,N.rt d g->N'.rt d g
 bk:∀Z g,N.bk Z g->N'.bk Z g
 ct:∀Z g,N.ct Z g->N'.ct Z g
theorem IM{P:fH}(hP:i7 P){N N':Ends}{E E':KX}(h:N.le N')(hx:∀x g,E x g->E' x g){Z:S}:∀(hs:List (Str×ME)) x g,ux P N Z E hs x g->ux P N' Z E' hs x g
 |[],x,g,q=>hx x g q
 |(y,e)::r,x,g,q=>by
  unfold ux at q ⊢;split
  ·rename_i hh;rw[aK hh] at q;exact b9 hP e _ _ _ _ _ _ h.rt (λ_ _ z=>z) q
  ·rename_i hh;rw[aD hh] at q;exact IM hP h hx r x g q
theorem wpS_mono{P:fH}(hP:i7 P):∀(s:MS) (N N':Ends) (Z:S) (g:G) (E E':KX),N.le N'->(∀x g,E x g->E' x g)->wpS P s N Z g E->wpS P s N' Z g E'
 |.pass,N,N',Z,g,E,E',h,hx,q=>h.nx _ _ q
 |.seq a b,N,N',Z,g,E,E',h,hx,q=>wpS_mono hP a { N with nx:=λiQ g1=>wpS P b N iQ g1 E } { N' with nx:=λiQ g1=>wpS P b N' iQ g1 E' } _ _ _ _ ⟨λiQ g1 q=>wpS_mono hP b _ _ _ _ _ _ h hx q,h.rt,h.bk,h.ct⟩ hx q
 |.expr e,N,N',Z,g,E,E',h,hx,q=>b9 hP e _ _ _ _ _ _ (λx g1 q=>h.nx _ _ q) hx q
 |.set i e,N,N',Z,g,E,E',h,hx,q=>b9 hP e _ _ _ _ _ _ (λx g1 q=>h.nx _ _ q) hx q
 |.mj t e,N,N',Z,g,E,E',h,hx,q=>b9 hP e _ _ _ _ _ _ (λx g1 q=>v9 (λZ q=>h.nx _ _ q) q) hx q
 |.eF o i v,N,N',Z,g,E,E',h,hx,q=>b9 hP v _ _ _ _ _ _ (λx g1 q=>b9 hP o _ _ _ _ _ _ (λy g2 q=>b9 hP i _ _ _ _ _ _ (λz g3 q=>U6 (λg q=>h.nx _ _ q) q) hx q) hx q) hx q
 |.ic f cs o v,N,N',Z,g,E,E',h,hx,q=>b9 hP v _ _ _ _ _ _ (λx g1 q=>b9 hP o _ _ _ _ _ _ (λy g2 q=>aN2 (λg q=>h.nx _ _ q) q) hx q) hx q
 | .wq f cs o v,N,N',Z,g,E,E',h,hx,q=>b9 hP o _ _ _ _ _ _ (λy g1 q=>by
   obtain⟨a,c,fs,x,q1,q2,q3,q4,q⟩:=q;exact ⟨a,c,fs,x,q1,q2,q3,q4,b9 hP v _ _ _ _ _ _ (λz g3 q=>u4 (λw g4 q=>by
    obtain⟨rQ,k1,k2,k3⟩:=q;exact ⟨rQ,k1,k2,h.nx _ _ k3⟩) q) hx q⟩) hx q
 |.xn o1 i1 o2 i2 e,N,N',Z,g,E,E',h,hx,q=>b9 hP e _ _ _ _ _ _ (λx g1 q=>let ⟨u,v,q1,q⟩:=q;⟨u,v,q1,b9 hP o1 _ _ _ _ _ _ (λy g2 q=>b9 hP i1 _ _ _ _ _ _ (λz g3 q=>U6 (λg4 q=>b9 hP o2 _ _ _ _ _ _ (λy g5 q=>b9 hP i2 _ _ _ _ _ _ (λz g6 q=>U6 (λg q=>h.nx _ _ q) q) hx q) hx q) q) hx q) hx q⟩) hx q
 |.kr i p v,N,N',Z,g,E,E',h,hx,q=>let ⟨x,q1,q⟩:=q;⟨x,q1,b9 hP v _ _ _ _ _ _ (λz g1 q=>u4 (λw g2 q=>h.nx _ _ q) q) hx q⟩
 |.ifs c a b,N,N',Z,g,E,E',h,hx,q=>p6 hP c _ _ _ _ _ _ (λt g1 q=>F5 (λq=>wpS_mono hP a _ _ _ _ _ _ h hx q) (λq=>wpS_mono hP b _ _ _ _ _ _ h hx q) q) hx q
 |.dY t it b,N,N',Z,g,E,E',h,hx,q=>y9 hP it _ _ _ _ _ _ (λk g1 q=>aM0 h.nx (λx N2 Z g q=>v9 (λcK q=>wpS_mono hP b { N with nx:=N2,ct:=N2,bk:=N.nx } { N' with nx:=N2,ct:=N2,bk:=N'.nx } _ _ _ _ ⟨λ_ _ z=>z,h.rt,h.nx,λ_ _ z=>z⟩ hx q) q) q) hx q
 |.jE c b,N,N',Z,g,E,E',h,hx,q=>by
  obtain⟨W,w0,q⟩:=q;refine⟨W,w0,λm Z g w=>p6 hP c _ _ _ _ _ _ (λt g1 q=>F5 (λq=>?_) (h.nx _ _) q) hx (q m Z g w)⟩;obtain⟨N2,a,q⟩:=q;exact⟨N2,a,wpS_mono hP b { N with nx:=N2,ct:=N2,bk:=N.nx } { N' with nx:=N2,ct:=N2,bk:=N'.nx } _ _ _ _ ⟨λ_ _ z=>z,h.rt,h.nx,λ_ _ z=>z⟩ hx q⟩
 |.ret e,N,N',Z,g,E,E',h,hx,q=>b9 hP e _ _ _ _ _ _ h.rt hx q
 |.qJ,N,N',Z,g,E,E',h,hx,q=>h.rt _ _ q
 |.brk,N,N',Z,g,E,E',h,hx,q=>h.bk _ _ q
 |.cont,N,N',Z,g,E,E',h,hx,q=>h.ct _ _ q
 |.raise x es,N,N',Z,g,E,E',h,hx,q=>A1 hP es _ _ _ _ _ _ (λvs g1 q=>⟨q.1,hx _ _ q.2⟩) hx q
 |.uz b hs,N,N',Z,g,E,E',h,hx,q=>wpS_mono hP b _ _ _ _ _ _ h (λx g q=>IM hP h hx hs x g q) q
theorem b0(T:Nat->Option aZ):∀k,i7 (c8 T k)
 |0=>λf xs g Q Q' E E' h hx q=>q.elim
 |k+1=>λf xs g Q Q' E E' h hx q=>by
  obtain⟨m,a,b,q⟩:=q;exact⟨m,a,b,wpS_mono (b0 T k) m.body ⟨λ_ g'=>Q .bQ g',Q,λ_ _=>False,λ_ _=>False⟩ _ _ _ _ _ ⟨λ_ _ z=>h _ _ z,h,λ_ _ z=>z,λ_ _ z=>z⟩ hx q⟩
end M

namespace M
open PySem L2
def TupAt(K:PySem.W.Frag)(H:Hp)(a:Addr)(vs:List V):Prop :=
 H a=some (.tup vs)\/∃(o:Obj) (aW:Array Value) (n:Nat),K.lookup a=some o/\o.cls=.type "tuple"/\o.dict=none/\o.data=.seq aW n/\aW.size<=sizeLine/\Vals vs aW.toList
theorem TupAt.d{K:PySem.W.Frag}{H:Hp}{a:Addr}{vs:List V}(h:TupAt K H a vs):wK K H a vs:=h
theorem TupAt.sq{K:PySem.W.Frag}{H:Hp}{a:Addr}{vs:List V}(h:TupAt K H a vs):ip K H a vs:=h.d.sq
mutual
inductive d8(K:PySem.W.Frag)(ρ:List Addr)(H:Hp):D->V->Prop
 |bQ:d8 K ρ H .bQ .bQ
 |bl (b:Bool):d8 K ρ H (.bl b) (.bl b)
 |int (i:Int):d8 K ρ H (.int i) (.int i)
 |str (x:Str):d8 K ρ H (.str x) (.str x)
 |ty (n:String):d8 K ρ H (.ty n) (.ty n)
 |ref {i:Nat} {a:Addr} (h:ρ[i]?=some a):d8 K ρ H (.ref i) (.ref a)
 |tup {l:List D} {a:Addr} {vs:List V} (h:TupAt K H a vs) (r:c6 K ρ H l vs):d8 K ρ H (.tup l) (.ref a)
inductive c6(K:PySem.W.Frag)(ρ:List Addr)(H:Hp):List D->List V->Prop
 |nil:c6 K ρ H [] []
 |cons {d:D} {v:V} {ds:List D} {vs:List V} (h:d8 K ρ H d v) (r:c6 K ρ H ds vs):c6 K ρ H (d::ds) (v::vs)
end
structure Ext(ρ:List Addr)(H:Hp)(bL:List Addr)(H':Hp):Prop where
 pre:∃more,bL=ρ++more
 tup:∀a xs,H a=some (.tup xs)->H' a=some (.tup xs)
theorem Ext.refl(ρ:List Addr)(H:Hp):Ext ρ H ρ H:=⟨⟨[],by simp⟩,λ_ _ h=>h⟩
theorem Ext.trans{ρ H bU H1 eW H2}(a:Ext ρ H bU H1)(b:Ext bU H1 eW H2):Ext ρ H eW H2:=by
 obtain⟨⟨m,rfl⟩,t⟩:=a;obtain⟨⟨m',rfl⟩,t'⟩:=b;exact⟨⟨m++m',by simp⟩,λx xs h=>t' _ _ (t _ _ h)⟩
theorem Ext.get{ρ H bL H'}(e:Ext ρ H bL H'){i:Nat}{a:Addr}(h:ρ[i]?=some a):bL[i]?=some a:=by
 obtain⟨⟨m,rfl⟩,_⟩:=e;rw[aA (aj.mp h).1];exact h
theorem TupAt.ext{K ρ H bL H'}(e:Ext ρ H bL H'){a:Addr}{vs:List V}(h:TupAt K H a vs):TupAt K H' a vs:=h.elim (λz=>.inl (e.tup _ _ z)) .inr
mutual
theorem d8.ext{K ρ H bL H'}(e:Ext ρ H bL H'):∀{d v},d8 K ρ H d v->d8 K bL H' d v
 |_,_,.bQ=>.bQ
 |_,_,.bl b=>.bl b
 |_,_,.int i=>.int i
 |_,_,.str x=>.str x
 |_,_,.ty n=>.ty n
 |_,_,.ref h=>.ref (e.get h)
 |_,_,.tup h r=>.tup (h.ext e) (c6.ext e r)
theorem c6.ext{K ρ H bL H'}(e:Ext ρ H bL H'):∀{ds vs},c6 K ρ H ds vs->c6 K bL H' ds vs
 |_,_,.nil=>.nil
 |_,_,.cons h r=>.cons (d8.ext e h) (c6.ext e r)
end
theorem c6.length{K ρ H}{ds:List D}{vs:List V}(h:c6 K ρ H ds vs):ds.length=vs.length:=by
 induction ds generalizing vs with
 |nil=>cases h;rfl
 |cons d ds ih =>
  cases h with
  |cons q r=>simp[ih r]
theorem c6.get{K ρ H}:∀{ds vs} {i:Nat} {d:D},c6 K ρ H ds vs->ds[i]?=some d->∃v,vs[i]?=some v/\d8 K ρ H d v
 |_,_,_,_,.nil,h=>by simp at h
 |_,_,0,_,.cons h _,e=>by simp at e;subst e;exact⟨_,rfl,h⟩
 |_,_,i+1,d,.cons _ r,e=>by
  obtain⟨v,h1,h2⟩:=c6.get (i:=i) (d:=d) r (by simpa using e);exact⟨v,by simpa using h1,h2⟩
theorem c6.set{K ρ H}{d:D}{v:V}(h:d8 K ρ H d v):∀{ds vs} (i:Nat),c6 K ρ H ds vs->c6 K ρ H (ds.set i d) (vs.set i v)
 |_,_,_,.nil=>.nil
 |_,_,0,.cons _ r=>.cons h r
 |_,_,i+1,.cons q r=>.cons q (c6.set h i r)
theorem c6.append{K ρ H}{ds es:List D}{vs ws:List V}(h:c6 K ρ H ds vs)(s:c6 K ρ H es ws):c6 K ρ H (ds++es) (vs++ws):=by
 induction ds generalizing vs with
 |nil=>cases h;exact s
 |cons d ds ih =>
  cases h with
  |cons q r=>exact .cons q (ih r)
theorem c6.rep{K ρ H}{ds:List D}{vs:List V}(r:c6 K ρ H ds vs):∀n,c6 K ρ H (List.replicate n ds).flatten (List.replicate n vs).flatten
 |0=>.nil
 |n+1=>by
  rw[cu,cu,dy,dy];exact c6.append r (c6.rep r n)
theorem c6.erase{K ρ H}:∀{ds:List D} {vs:List V} (i:Nat),c6 K ρ H ds vs->c6 K ρ H (ds.eraseIdx i) (vs.eraseIdx i)
 |_,_,_,.nil=>.nil
 |_,_,0,.cons _ r=>r
 |_,_,i+1,.cons q r=>.cons q (c6.erase i r)
theorem c6.take{K ρ H}:∀{ds:List D} {vs:List V} (n:Nat),c6 K ρ H ds vs->c6 K ρ H (ds.take n) (vs.take n)
 |_,_,0,_=>.nil
 |_,_,_+1,.nil=>.nil
 |_,_,n+1,.cons h r=>.cons h (c6.take n r)
theorem c6.drop{K ρ H}:∀{ds:List D} {vs:List V} (n:Nat),c6 K ρ H ds vs->c6 K ρ H (ds.drop n) (vs.drop n)
 |_,_,0,r=>r
 |_,_,_+1,.nil=>.nil
 |_,_,n+1,.cons _ r=>c6.drop n r
theorem c6.reverse{K ρ H}:∀{ds:List D} {vs:List V},c6 K ρ H ds vs->c6 K ρ H ds.reverse vs.reverse
 |_,_,.nil=>.nil
 |_,_,.cons h r=>by
  rw[gS,gS];exact c6.append (c6.reverse r) (.cons h .nil)
theorem c6.cut{K ρ H}{ds:List D}{vs:List V}(r:c6 K ρ H ds vs)(lo hi:Option Int):c6 K ρ H (M.cut ds lo hi) (U2 vs lo hi):=by
 unfold M.cut U2;rw[r.length];exact(r.drop _).take _
theorem c6.ints{K ρ H}:∀{ns:List Int} {vs:List V},c6 K ρ H (ns.map D.int) vs->vs=ns.map V.int
 |[],_,.nil=>rfl
 |_::_,_,.cons h r=>by cases h;rw[c6.ints r];rfl
theorem c6.ofInts{K ρ H}:∀(ns:List Int),c6 K ρ H (ns.map D.int) (ns.map V.int)
 |[]=>.nil
 |n::r=>.cons (.int n) (c6.ofInts r)
def tT(K:PySem.W.Frag)(H:Hp)(a:Addr)(vs:List V):Prop :=
 (∃o,H a=some (.jL o (.lst vs)))\/∃(o:Obj) (aW:Array Value) (n:Nat),K.lookup a=some o/\o.cls=.type "list"/\o.dict=none/\o.data=.seq aW n/\aW.size<=sizeLine/\Vals vs aW.toList
theorem tT.sq{K:PySem.W.Frag}{H:Hp}{a:Addr}{vs:List V}(h:tT K H a vs):fG K H a vs:=h.elim (λ⟨o,z⟩=>.inl (.inr ⟨o,z⟩)) .inr
inductive i9{α:Type}(K:PySem.W.Frag)(ρ:List Addr)(H:Hp):List (α×D)->List (α×V)->Prop
 |nil:i9 K ρ H [] []
 |cons {k:α} {d:D} {v:V} {ds:List (α×D)} {vs:List (α×V)} (h:d8 K ρ H d v) (r:i9 K ρ H ds vs):i9 K ρ H ((k,d)::ds) ((k,v)::vs)
theorem i9.ext{α:Type}{K ρ H bL H'}(e:Ext ρ H bL H'){ds:List (α×D)}{vs:List (α×V)}(h:i9 K ρ H ds vs):i9 K bL H' ds vs:=by
 induction h with
 |nil=>exact .nil
 |cons h r ih=>exact .cons (h.ext e) ih
theorem i9.length{α:Type}{K ρ H}{ds:List (α×D)}{vs:List (α×V)}(h:i9 K ρ H ds vs):ds.length=vs.length:=by
 induction h with
 |nil=>rfl
 |cons h r ih=>simp[ih]
def sx(K:PySem.W.Frag)(ρ:List Addr)(H:Hp):Option D->Option V->Prop
 |some d,some v=>d8 K ρ H d v
 |none,none=>True
 |_,_=>False
theorem i9.val{K ρ H}:∀{ds vs} (k:Key),i9 K ρ H ds vs->sx K ρ H (n8 ds k) (K6 vs k)
 |_,_,k,.nil=>trivial
 |_,_,k,.cons (k:=k') h r=>by
  unfold n8 K6;rw[eZ,eZ];by_cases e:k'=k
  ·simp only[e,decide_true];exact h
  ·simp only[e,decide_false];exact i9.val k r
theorem i9.HS{K ρ H}:∀{ds vs} (k:Key),i9 K ρ H ds vs->(ds.any λkv=>decide (kv.1=k))=(vs.any λkv=>decide (kv.1=k))
 |_,_,k,.nil=>rfl
 |_,_,k,.cons h r=>by simp only[List.any_cons,i9.HS k r]
theorem i9.snoc{K ρ H}{k:Key}{d:D}{v:V}(h:d8 K ρ H d v){ds vs}(t:i9 K ρ H ds vs):i9 K ρ H (ds++[(k,d)]) (vs++[(k,v)]):=by
 induction ds generalizing vs with
 |nil=>cases t;exact .cons h .nil
 |cons d ds ih =>
  cases t with
  |cons q r=>exact .cons q (ih r)
theorem i9.Ei{K ρ H}{k:Key}{d:D}{v:V}(h:d8 K ρ H d v):∀{ds vs},i9 K ρ H ds vs->i9 K ρ H (ds.map λkv=>if kv.1=k then(kv.1,d) else kv) (vs.map λkv=>if kv.1=k then(kv.1,v) else kv)
 |_,_,.nil=>.nil
 |_,_,.cons (k:=k') q r=>by
  simp only[List.map_cons];by_cases e:k'=k
  ·rw[aK e,aK e];exact .cons h (i9.Ei h r)
  ·rw[aD e,aD e];exact .cons q (i9.Ei h r)
theorem i9.put{K ρ H}{k:Key}{d:D}{v:V}(h:d8 K ρ H d v){ds vs}(r:i9 K ρ H ds vs):i9 K ρ H (putD ds k d) (putK vs k v):=by
 unfold putD putK;rw[r.HS k];split
 ·exact r.Ei h
 ·exact r.snoc h
noncomputable abbrev v7(K:PySem.W.Frag)(x:Str)(C:Addr):Prop:=PySem.W.nsIn K mainGlobals x=some (some (.ref C))
theorem i9.look{K ρ H}{ds:List (Str×D)}{vs:List (Str×V)}(f:Str)(h:i9 K ρ H ds vs):sx K ρ H (ds.lookup f) (vs.lookup f):=by
 induction h with
 |nil=>trivial
 |cons h r ih =>
  rename_i k d v ds vs;rw[cQ,cQ];cases f==k
  ·exact ih
  ·exact h
theorem i9.B3{K ρ H}{f:Str}{d:D}{v:V}(h:d8 K ρ H d v){ds:List (Str×D)}{vs:List (Str×V)}(r:i9 K ρ H ds vs):i9 K ρ H (l9 f d ds) (L2.B3 f v vs):=by
 induction r with
 |nil=>exact .cons h .nil
 |cons q r ih =>
  unfold l9 L2.B3;split
  ·exact .cons h r
  ·exact .cons q ih
theorem JF{f:Str}{d:D}{p:Str->Prop}(hf:p f):∀{ds:List (Str×D)},(∀x∈ds,p x.1)->∀x∈l9 f d ds,p x.1
 |[],_,x,hx=>by
  have:x=(f,d):=by simpa[l9] using hx
  rw[this];exact hf
 |(k,e)::r,h,x,hx=>by
  unfold l9 at hx;split at hx
  ·rcases aI.mp hx with z|z
   ·rw[z];exact h (k,e) (by simp)
   ·exact h x (by simp[z])
  ·rcases aI.mp hx with z|z
   ·rw[z];exact h (k,e) (by simp)
   ·exact JF hf (λy hy=>h y (by simp[hy])) x z
def OH(K:PySem.W.Frag)(ρ:List Addr)(H:Hp):O->HO->Prop
 |.lst l,.lst vs=>c6 K ρ H l vs
 |.dD kvs,.dK vs=>i9 K ρ H kvs vs
 |.set S n,.set S' n'=>S=S'/\n=n'
 |.ins c fs,.ins C _ vs=>v7 K c C/\jU K C/\i9 K ρ H fs vs/\∀x∈fs,C0 K C x.1
 |_,_=>False
theorem OH.ext{K ρ H bL H'}(e:Ext ρ H bL H'){o:O}{u:HO}(h:OH K ρ H o u):OH K bL H' o u:=by
 cases o<;>cases u<;>first|exact h.elim|exact c6.ext e h|exact i9.ext e h|exact⟨h.1,h.2.1,h.2.2.1.ext e,h.2.2.2⟩|exact h
theorem OH.tZ{K ρ H}{o:O}{xs:List V}(h:OH K ρ H o (.tup xs)):False:=by cases o<;>exact h
theorem OH.XA{K ρ H}{o:O}{ob:Obj}{u:HO}(h:OH K ρ H o (.jL ob u)):False:=by cases o<;>exact h
def J7(K:PySem.W.Frag)(ρ:List Addr)(H:Hp)(o:O)(a:Addr):Prop:=match o with
 |.oJ l=>∃vs,tT K H a vs/\c6 K ρ H l vs
 |o=>∃u,H a=some u/\OH K ρ H o u
theorem J7.of{K ρ H}{o:O}{a:Addr}{u:HO}(hu:H a=some u)(h:OH K ρ H o u):J7 K ρ H o a:=by
 cases o<;>first|exact⟨u,hu,h⟩|(cases u<;>exact h.elim)
theorem J7.inv{K ρ H}{o:O}{a:Addr}(m:o.mut=true)(h:J7 K ρ H o a):∃u,H a=some u/\OH K ρ H o u:=by
 cases o<;>first|exact h|cases m
theorem J7.lst{K ρ H}{l:List D}{a:Addr}(h:J7 K ρ H (.lst l) a):∃vs,H a=some (.lst vs)/\c6 K ρ H l vs:=by
 obtain⟨u,h1,h2⟩:=h;cases u<;>first|exact⟨_,h1,h2⟩|exact h2.elim
theorem J7.dD{K ρ H}{l:List (Key×D)}{a:Addr}(h:J7 K ρ H (.dD l) a):∃vs,H a=some (.dK vs)/\i9 K ρ H l vs:=by
 obtain⟨u,h1,h2⟩:=h;cases u<;>first|exact⟨_,h1,h2⟩|exact h2.elim
theorem J7.set{K ρ H}{S:Int->Bool}{n:Nat}{a:Addr}(h:J7 K ρ H (.set S n) a):H a=some (.set S n):=by
 obtain⟨u,h1,h2⟩:=h;cases u<;>first|(obtain⟨rfl,rfl⟩:=(show _/\_ from h2);exact h1)|exact h2.elim
theorem J7.ins{K ρ H}{c:Str}{fs:List (Str×D)}{a:Addr}(h:J7 K ρ H (.ins c fs) a):∃C dx vs,H a=some (.ins C dx vs)/\v7 K c C/\jU K C/\i9 K ρ H fs vs/\∀x∈fs,C0 K C x.1:=by
 obtain⟨u,h1,h2⟩:=h;cases u<;>first|exact⟨_,_,_,h1,h2⟩|exact h2.elim
structure Rl(K:PySem.W.Frag)(ρ:List Addr)(g:G)(H:Hp):Prop where
 len:ρ.length=g.length
 obj:∀(i:Nat) o a,g[i]?=some o->ρ[i]?=some a->J7 K ρ H o a
 nd:∀(i j:Nat) o o' a,g[i]?=some o->g[j]?=some o'->o.mut=true->o'.mut=true->ρ[i]?=some a->ρ[j]?=some a->i=j
section
variable{K:PySem.W.Frag}{ρ:List Addr}{g:G}{H:Hp}
theorem Rl.lst(R:Rl K ρ g H){i:Nat}{l:List D}{a:Addr}(h:g[i]?=some (.lst l))(ha:ρ[i]?=some a):∃vs,H a=some (.lst vs)/\c6 K ρ H l vs:=(R.obj _ _ _ h ha).lst
theorem Rl.dD(R:Rl K ρ g H){i:Nat}{l:List (Key×D)}{a:Addr}(h:g[i]?=some (.dD l))(ha:ρ[i]?=some a):∃vs,H a=some (.dK vs)/\i9 K ρ H l vs:=(R.obj _ _ _ h ha).dD
theorem Rl.set(R:Rl K ρ g H){i:Nat}{S:Int->Bool}{n:Nat}{a:Addr}(h:g[i]?=some (.set S n))(ha:ρ[i]?=some a):H a=some (.set S n):=(R.obj _ _ _ h ha).set
theorem Rl.ins(R:Rl K ρ g H){i:Nat}{c:Str}{fs:List (Str×D)}{a:Addr}(h:g[i]?=some (.ins c fs))(ha:ρ[i]?=some a):∃C dx vs,H a=some (.ins C dx vs)/\v7 K c C/\jU K C/\i9 K ρ H fs vs/\∀x∈fs,C0 K C x.1:=(R.obj _ _ _ h ha).ins
theorem Rl.items(R:Rl K ρ g H){i:Nat}{l:List D}{a:Addr}(h:d0 g i=some l)(ha:ρ[i]?=some a):∃vs,fG K H a vs/\c6 K ρ H l vs:=by
 cases e:g[i]? with
 |none=>rw[d0,e] at h;cases h
 |some o =>
  rw[d0,e] at h;have q:=R.obj _ _ _ e ha;cases o with
  |lst m=>cases h;obtain⟨vs,z,r⟩:=q.lst;exact⟨vs,fG.of z,r⟩
  |oJ m=>cases h;obtain⟨vs,z,r⟩:=q;exact⟨vs,z.sq,r⟩
  |_=>cases h
theorem B8{p:Addr}{o:HO}(hp:H p=none):Ext ρ H ρ (upd H p o):=⟨⟨[],by simp⟩,λa xs h=>by rw[f9 (m7 h hp)];exact h⟩
theorem tT.upd{p a:Addr}{o:HO}{vs:List V}(h:tT K H a vs)(hp:∀ob u,H p≠some (.jL ob u)):tT K (upd H p o) a vs:=by
 rcases h with⟨ob,z⟩|z
 ·refine .inl ⟨ob,?_⟩;rw[f9 ?_]
  ·exact z
  ·intro e;subst e;exact hp _ _ z
 ·exact .inr z
theorem J7.upd{p a:Addr}{o:O}{u:HO}{bL:List Addr}(h:J7 K ρ H o a)(dF:o.mut=true->a≠p)(hp:∀ob u,H p≠some (.jL ob u))(e:Ext ρ H bL (L2.upd H p u)):J7 K bL (L2.upd H p u) o a:=by
 cases hm:o.mut with
 |true =>
  obtain⟨u',h1,h2⟩:=h.inv hm;exact .of (by rw[f9 (dF hm)];exact h1) (h2.ext e)
 |false =>
  cases o<;>first|cases hm|skip
  obtain⟨vs,z,r⟩:=h;exact⟨vs,z.upd hp,r.ext e⟩
theorem Rl.grow{p:Addr}{o:HO}(R:Rl K ρ g H)(hp:H p=none):Rl K ρ g (upd H p o):=by
 have e:Ext ρ H ρ (upd H p o):=B8 hp;refine⟨R.len,λi ob a h1 h2=>?_,R.nd⟩;have q:=R.obj _ _ _ h1 h2;refine q.upd (λhm=>?_) (λob u z=>by rw[hp] at z;cases z) e;obtain⟨u,h1,_⟩:=q.inv hm;exact m7 h1 hp
theorem Rl.B0(R:Rl K ρ g H)(p:Addr):(ρ++[p])[g.length]?=some p:=by rw[<- R.len];simp
theorem F6{p:Addr}{o:HO}(hp:H p=none):Ext ρ H (ρ++[p]) (upd H p o):=⟨⟨[p],rfl⟩,(B8 (ρ:=ρ) hp).tup⟩
theorem Rl.new{p:Addr}{o:O}{u:HO}(R:Rl K ρ g H)(hp:H p=none)(r:OH K ρ H o u):Rl K (ρ++[p]) (g++[o]) (upd H p u):=by
 have e:Ext ρ H (ρ++[p]) (upd H p u):=F6 hp;have old:∀{i:Nat} {ob:O} {a:Addr},g[i]?=some ob->(ρ++[p])[i]?=some a->ρ[i]?=some a:=λ{i ob a} h1 h2=>by
  rw[aA (by rw[R.len];exact(aj.mp h1).1)] at h2;exact h2
 have split:∀{i:Nat} {ob:O},(g++[o])[i]?=some ob->g[i]?=some ob\/(i=g.length/\ob=o):=λ{i ob} h=>by
  rcases dU i g.length with q|q|q
  ·rw[aA q] at h;exact .inl h
  ·subst q;simp at h;exact .inr ⟨rfl,h.symm⟩
  ·rw[ba (by simp;omega)] at h;cases h
 refine⟨by simp[R.len],λi ob a h1 h2=>?_,λi j o1 o2 a h1 h2 m1 m2 h3 h4=>?_⟩
 ·rcases split h1 with q|⟨rfl,rfl⟩
  ·have z:=R.obj _ _ _ q (old q h2);refine z.upd (λhm=>?_) (λob u z=>by rw[hp] at z;cases z) e;obtain⟨u,h1,_⟩:=z.inv hm;exact m7 h1 hp
  ·rw[R.B0] at h2;cases h2;exact .of u3 (r.ext e)
 ·have nq:∀{i:Nat} {o:O} {a:Addr},g[i]?=some o->o.mut=true->ρ[i]?=some a->a≠p:=λ{i o a} h1 hm h2=>by
   obtain⟨u,z,_⟩:=(R.obj _ _ _ h1 h2).inv hm;exact m7 z hp
  rcases split h1 with q|⟨rfl,_⟩
  ·rcases split h2 with q'|⟨rfl,_⟩
   ·exact R.nd _ _ _ _ _ q q' m1 m2 (old q h3) (old q' h4)
   ·rw[R.B0] at h4;cases h4;exact absurd rfl (nq q m1 (old q h3))
  ·rcases split h2 with q'|⟨rfl,_⟩
   ·rw[R.B0] at h3;cases h3;exact absurd rfl (nq q' m2 (old q' h4))
   ·rfl
theorem Rl.alloc{p:Addr}{l:List D}{vs:List V}(R:Rl K ρ g H)(hp:H p=none)(r:c6 K ρ H l vs):Rl K (ρ++[p]) (g++[.lst l]) (upd H p (.lst vs)):=R.new hp r
theorem Rl.put{i:Nat}{a:Addr}{o o':O}{u:HO}(R:Rl K ρ g H)(h:g[i]?=some o)(hm:o.mut=true)(ha:ρ[i]?=some a)(r:OH K ρ H o' u) :
  Rl K ρ (g.set i o') (upd H a u)/\Ext ρ H ρ (upd H a u):=by
 obtain⟨u0,z0,Ft⟩:=(R.obj _ _ _ h ha).inv hm;have e:Ext ρ H ρ (upd H a u):=⟨⟨[],by simp⟩,λb xs q=>by rw[f9];exact q;intro z;subst z;rw[z0] at q;cases q;exact Ft.tZ⟩
 refine⟨⟨by simp[R.len],λj ob b h1 h2=>?_,λj k o1 o2 b h1 h2 m1 m2 h3 h4=>?_⟩,e⟩
 ·by_cases jn:i=j
  ·subst jn;rw[ha] at h2;cases h2;have hi:i<g.length:=(aj.mp h).1;rw[aX hi] at h1;cases h1;exact .of u3 (r.ext e)
  ·rw[aw jn] at h1;refine(R.obj _ _ _ h1 h2).upd (λpO ez=>?_) (λob u z=>by rw[z0] at z;cases z;exact Ft.XA) e;subst ez;exact jn (R.nd _ _ _ _ _ h h1 hm pO ha h2)
 ·have back:∀{j:Nat} {m:O},(g.set i o')[j]?=some m->m.mut=true->∃m',g[j]?=some m'/\m'.mut=true:=λ{j m} q pO=>by
   by_cases jn:i=j
   ·subst jn;exact⟨o,h,hm⟩
   ·rw[aw jn] at q;exact⟨m,q,pO⟩
  obtain⟨_,q1,n1⟩:=back h1 m1;obtain⟨_,q2,n2⟩:=back h2 m2;exact R.nd _ _ _ _ _ q1 q2 n1 n2 h3 h4
theorem Rl.write{i:Nat}{a:Addr}{l l':List D}{vs:List V}(R:Rl K ρ g H)(h:g[i]?=some (.lst l))(ha:ρ[i]?=some a)(r:c6 K ρ H l' vs) :
  Rl K ρ (g.set i (.lst l')) (upd H a (.lst vs))/\Ext ρ H ρ (upd H a (.lst vs)):=R.put h rfl ha r
end
structure o8(K:PySem.W.Frag)(ρ:List Addr)(H:Hp)(Z:S)(cg:St):Prop where
 len:Z.length=cg.length
 val:∀(i:Nat) d,Z[i]?=some (some d)->∃v,cg[i]?=some (some v)/\d8 K ρ H d v
section
variable{K:PySem.W.Frag}{ρ bL:List Addr}{H H':Hp}
theorem o8.ext{Z cg}(e:Ext ρ H bL H')(r:o8 K ρ H Z cg):o8 K bL H' Z cg:=⟨r.len,λi d h=>let ⟨v,a,b⟩:=r.val i d h;⟨v,a,b.ext e⟩⟩
theorem o8.set{Z cg d v}(r:o8 K ρ H Z cg)(i:Nat)(h:d8 K ρ H d v):o8 K ρ H (Z.set i (some d)) (cg.set i (some v)):=by
 refine⟨by simp[r.len],λj e q=>?_⟩;by_cases jn:i=j
 ·subst jn;have hi:i<Z.length:=by
   have:=(aj.mp q).1;simpa using this
  rw[aX hi] at q;cases q;exact⟨v,by rw[aX (by rw[<- r.len];exact hi)],h⟩
 ·rw[aw jn] at q ⊢;exact r.val j e q
theorem o8.start{ds vs}{n:Nat}(r:c6 K ρ H ds vs):o8 K ρ H (ds.map some++List.replicate (n-ds.length) none) (vs.map some++List.replicate (n-vs.length) none):=by
 refine⟨by simp[r.length],λi d h=>?_⟩;by_cases hi:i<ds.length
 ·rw[aA (by simpa using hi),ai] at h;cases e:ds[i]? with
  |none=>rw[e] at h;cases h
  |some x =>
   rw[e] at h;cases h;obtain⟨v,h1,h2⟩:=r.get e;refine⟨v,?_,h2⟩;rw[aA (by rw[ag,<- r.length];exact hi),ai,h1]
   rfl
 ·rw[bB (by simpa using hi),fe] at h;split at h<;>cases h
theorem o8.d6{Z cg}(r:o8 K ρ H Z cg)(d6:List Nat)(n:Nat):o8 K ρ H (E2 Z d6 n) (C6 cg d6 n):=by
 refine⟨by simp[E2,C6],λi d h=>?_⟩;unfold E2 at h;unfold C6;by_cases hi:i<d6.length
 ·rw[aA (by simpa using hi),ai,ah hi] at h;rw[aA (by simpa using hi),ai,ah hi];simp only[Option.map_some] at h ⊢;cases e:Z[d6[i]]? with
  |none=>rw[e] at h;cases h
  |some x =>
   rw[e] at h;have hx:x=some d:=aO h;subst hx;obtain⟨v,h1,h2⟩:=r.val _ _ e;exact⟨v,by rw[h1];rfl,h2⟩
 ·rw[bB (by simpa using hi),fe] at h;split at h<;>cases h
end
end M

namespace M
open PySem L2 PySem.Spec PyProof.Rows
def LQ(K:PySem.W.Frag)(ρ:List Addr)(H:Hp)(Q:VK):KD:=λd g'=>∀bL H' v,Ext ρ H bL H'->Rl K bL g' H'->d8 K bL H' d v->Q v H'
theorem LQ.ext{K ρ H bU H1 Q d g}(e:Ext ρ H bU H1)(h:LQ K ρ H Q d g):LQ K bU H1 Q d g:=λbL H' v e' R r=>h bL H' v (e.trans e') R r
theorem LQ.now{K ρ H Q d g v}(h:LQ K ρ H Q d g)(R:Rl K ρ g H)(r:d8 K ρ H d v):Q v H:=h ρ H v (.refl _ _) R r
theorem LQ.new{K ρ H Q}{g:G}{l:List D}{vs:List V}{p:Addr}(h:LQ K ρ H Q (.ref g.length) (g++[.lst l]))(R:Rl K ρ g H)(hp:H p=none)(r:c6 K ρ H l vs):Q (.ref p) (upd H p (.lst vs)) :=
 h (ρ++[p]) _ _ (F6 hp) (R.alloc hp r) (.ref (R.B0 p))
theorem LQ.tup{K ρ H Q}{g:G}{l:List D}{vs:List V}{p:Addr}(h:LQ K ρ H Q (.tup l) g)(R:Rl K ρ g H)(hp:H p=none)(r:c6 K ρ H l vs):Q (.ref p) (upd H p (.tup vs)) :=
 h ρ _ _ (B8 hp) (R.grow hp) (.tup (.inl u3) (r.ext (B8 hp)))
def r2(K:PySem.W.Frag)(p:Pr):R2:=λx y H Q=>∃d e g ρ,Rl K ρ g H/\d8 K ρ H d x/\d8 K ρ H e y/\cY p [d,e] g (LQ K ρ H Q)
def r1(K:PySem.W.Frag)(p:Pr):V->Hp->VK->Prop:=λx H Q=>∃d g ρ,Rl K ρ g H/\d8 K ρ H d x/\cY p [d] g (LQ K ρ H Q)
def rN(K:PySem.W.Frag)(p:Pr):List V->Hp->VK->Prop:=λxs H Q=>∃ds g ρ,Rl K ρ g H/\c6 K ρ H ds xs/\cY p ds g (LQ K ρ H Q)
theorem n5{n:Nat}(h:n<=100000):n<=sizeLine:=aE h (by decide)
theorem Cr{n:Nat}(h:n<100000):n<sizeLine:=ay h (by decide)
theorem d8.i8{K ρ H i v}(h:d8 K ρ H (.int i) v):v=.int i:=by cases h;rfl
theorem d8.E4{K ρ H i v}(h:d8 K ρ H (.str i) v):v=.str i:=by cases h;rfl
theorem d8.L8{K ρ H i v}(h:d8 K ρ H (.bl i) v):v=.bl i:=by cases h;rfl
theorem d8.yx{K ρ H v}(h:d8 K ρ H .bQ v):v=.bQ:=by cases h;rfl
theorem d8.Yv{K ρ H n v}(h:d8 K ρ H (.ty n) v):v=.ty n:=by cases h;rfl
theorem d8.j6{K ρ H i v}(h:d8 K ρ H (.ref i) v):∃a,v=.ref a/\ρ[i]?=some a:=by cases h;exact⟨_,rfl,by assumption⟩
theorem d8.J8{K ρ H l v}(h:d8 K ρ H (.tup l) v):∃a vs,v=.ref a/\TupAt K H a vs/\c6 K ρ H l vs:=by cases h;exact⟨_,_,rfl,by assumption,by assumption⟩
theorem c6.one{K ρ H d vs}(h:c6 K ρ H [d] vs):∃v,vs=[v]/\d8 K ρ H d v:=by
 cases h with
 |cons r rr=>cases rr;exact⟨_,rfl,r⟩
theorem c6.two{K ρ H d e vs}(h:c6 K ρ H [d,e] vs):∃v w,vs=[v,w]/\d8 K ρ H d v/\d8 K ρ H e w:=by
 cases h with
 |cons r rr=>obtain⟨w,rfl,q⟩:=rr.one;exact⟨_,_,rfl,r,q⟩
theorem A8{a b c d:D}(h:[a,b]=[c,d]):a=c/\b=d:=by cases h;exact⟨rfl,rfl⟩
section
variable{X:Cx}
theorem QT(op:Operator):fK X (binaryOp op) (r2 X.K (.bin op)):=by
 intro pins s Z H x y v u Q I rx ry h;obtain⟨d,e,g,ρ,R,rd,re,d',g',h,q⟩:=h;rcases h with⟨i,j,r,ex,ha,rfl,rfl⟩|⟨rfl,h⟩|⟨rfl,h⟩
 ·obtain⟨rfl,rfl⟩:=A8 ex;obtain rfl:=rd.i8;obtain rfl:=re.i8;have fin:=q.now R (.int r);cases op<;>first|exact(show False from ha).elim|skip
  ·cases ha;exact QR pins s Z H _ _ v u Q I rx ry ⟨i,j,rfl,rfl,fin⟩
  ·cases ha;exact Rb pins s Z H _ _ v u Q I rx ry ⟨i,j,rfl,rfl,fin⟩
  ·obtain⟨hc,rfl⟩:=ha;exact QX pins s Z H _ _ v u Q I rx ry ⟨i,j,rfl,rfl,hc,fin⟩
  ·obtain⟨hc,rfl⟩:=ha;exact QW pins s Z H _ _ v u Q I rx ry ⟨i,j,rfl,rfl,hc,fin⟩
  ·obtain⟨hc,rfl⟩:=ha;exact QY pins s Z H _ _ v u Q I rx ry ⟨i,j,rfl,rfl,hc,fin⟩
  ·obtain⟨hc,rfl⟩:=ha;exact Ra pins s Z H _ _ v u Q I rx ry ⟨i,j,rfl,rfl,hc,fin⟩
  ·cases ha;exact XF pins s Z H _ _ v u Q I rx ry ⟨i,j,rfl,rfl,fin⟩
  ·cases ha;exact QS pins s Z H _ _ v u Q I rx ry ⟨i,j,rfl,rfl,fin⟩
  ·obtain⟨hc,rfl⟩:=ha;exact TQ pins s Z H _ _ v u Q I rx ry ⟨i,j,rfl,rfl,hc,fin⟩
 ·rcases h with⟨l,m,ex,hz,rfl,rfl⟩|⟨a,b,l,m,ex,ha,hb,hz,rfl,rfl⟩|⟨x',y',ex,hz,rfl,rfl⟩
  ·obtain⟨rfl,rfl⟩:=A8 ex;obtain⟨a,vs,rfl,ta,rs⟩:=rd.J8;obtain⟨b,ws,rfl,tb,rt⟩:=re.J8;refine a78 pins s Z H _ _ v u Q I rx ry ⟨a,b,vs,ws,rfl,rfl,ta.sq,tb.sq,?_,λz=>?_,λz=>?_,λp hp=>q.tup R hp (rs.append rt)⟩
   ·rw[<- rs.length,<- rt.length];exact n5 hz
   ·subst z;cases rs;exact q.now R (.tup tb rt)
   ·subst z;cases rt;rw[cF] at q;exact q.now R (.tup ta rs)
  ·obtain⟨rfl,rfl⟩:=A8 ex;obtain⟨a',rfl,ra⟩:=rd.j6;obtain⟨b',rfl,rb⟩:=re.j6;obtain⟨vs,z1,rs⟩:=R.lst ha ra;obtain⟨ws,z2,rt⟩:=R.lst hb rb;exact QU pins s Z H _ _ v u Q I rx ry ⟨_,_,vs,ws,rfl,rfl,z1,z2,by rw[<- rs.length,<- rt.length];exact n5 hz,λp hp=>q.new R hp (rs.append rt)⟩
  ·obtain⟨rfl,rfl⟩:=A8 ex;obtain rfl:=rd.E4;obtain rfl:=re.E4;exact aO4 pins s Z H _ _ v u Q I rx ry ⟨_,_,rfl,rfl,n5 hz,q.now R (.str _)⟩
 ·rcases h with⟨a,l,n,ex,ha,h1,h2,hz,rfl,rfl⟩|⟨l,n,ex,dF,h1,h2,hz,rfl,rfl⟩
  rotate_left
  ·obtain⟨rfl,rfl⟩:=A8 ex;obtain⟨a',vs,rfl,ta,rs⟩:=rd.J8;obtain rfl:=re.i8;refine TU pins s Z H _ _ v u Q I rx ry ⟨_,_,vs,rfl,rfl,ta.sq,λz=>?_,h1,h2,by rw[<- rs.length];exact n5 hz,λz=>?_,λp hp=>q.tup R hp (rs.rep _)⟩
   ·subst z;cases rs;exact dF rfl
   ·subst z;have:(List.replicate (Int.toNat 1) l).flatten=l:=by simp
    rw[this] at q;exact q.now R (.tup ta rs)
  obtain⟨rfl,rfl⟩:=A8 ex;obtain⟨a',rfl,ra⟩:=rd.j6;obtain rfl:=re.i8;obtain⟨vs,z1,rs⟩:=R.lst ha ra;exact QZ pins s Z H _ _ v u Q I rx ry ⟨_,_,vs,rfl,rfl,z1,by omega,by omega,by rw[<- rs.length];exact n5 hz,λp hp=>q.new R hp (rs.rep _)⟩
theorem XG(op:UnaryOp):zg X (unaryOp op) (r1 X.K (.un op)):=by
 intro pins s Z H x v Q I rx h;obtain⟨d,g,ρ,R,rd,d',g',⟨rfl,i,ex,rfl,rfl⟩,q⟩:=h;cases ex;obtain rfl:=rd.i8;exact SJ pins s Z H _ v Q I rx ⟨_,rfl,q.now R (.int _)⟩
section
variable{ρ:List Addr}{g:G}{H:Hp}{pins:List (Addr×Obj)}{Z:L2.St}{s:Shared}
theorem JU(I:Inv X pins Z H s)(R:Rl X.K ρ g H)(n:Nat)(ih:∀{d:D} {v:V} {u:Value} {p:PyData},rd g n d=some p->d8 X.K ρ H d v->RelV v u->∃as,Reads s.heap u p as/\p.depth<=n){l:List D}:∀{vs:List V} {us:List Value} {ps:List PyData},l.mapM (rd g n)=some ps->c6 X.K ρ H l vs->Vals vs us->∃as,ReadsAll s.heap us ps as/\PyData.depthAll ps<=n:=by
 induction l with
 |nil =>
  intro vs us ps h rs rv;cases rs;cases rv;simp at h;subst h;exact⟨_,.nil,cJ _⟩
 |cons d l il =>
  intro vs us ps h rs rv;cases rs with
  |cons iu rs =>
   cases rv with
   |cons ru rv =>
    rw[List.mapM_cons] at h;cases e:rd g n d with
    |none=>rw[e] at h;cases h
    |some p =>
     rw[e] at h;cases e2:l.mapM (rd g n) with
     |none=>rw[e2] at h;cases h
     |some qs =>
      rw[e2] at h;cases h;obtain⟨as,q1,d1⟩:=ih e iu ru;obtain⟨bs,q2,d2⟩:=il e2 rs rv;refine⟨_,.cons q1 q2,?_⟩;simp only[PyData.depthAll];omega
theorem S1(I:Inv X pins Z H s)(R:Rl X.K ρ g H)(n:Nat):∀{d:D} {v:V} {u:Value} {p:PyData},rd g n d=some p->d8 X.K ρ H d v->RelV v u->∃as,Reads s.heap u p as/\p.depth<=n:=by
 induction n with
 |zero =>
  intro d v u p h r ru;cases r with
  |bQ=>simp only[rd] at h;cases h;cases ru;exact⟨_,.none,Nat.zero_le _⟩
  |bl b=>simp only[rd] at h;cases h;cases ru;exact⟨_,.bool b,Nat.zero_le _⟩
  |int i=>simp only[rd] at h;cases h;obtain⟨t,rfl⟩:=ru;exact⟨_,.int i t,Nat.zero_le _⟩
  |str x=>simp only[rd] at h;cases h;obtain⟨t,rfl⟩:=ru;exact⟨_,.str x t,Nat.zero_le _⟩
  |_=>simp only[rd] at h;cases h
 |succ n ih =>
  intro d v u p h r ru;cases r with
  |bQ=>simp only[rd] at h;cases h;cases ru;exact⟨_,.none,Nat.zero_le _⟩
  |bl b=>simp only[rd] at h;cases h;cases ru;exact⟨_,.bool b,Nat.zero_le _⟩
  |int i=>simp only[rd] at h;cases h;obtain⟨t,rfl⟩:=ru;exact⟨_,.int i t,Nat.zero_le _⟩
  |str x=>simp only[rd] at h;cases h;obtain⟨t,rfl⟩:=ru;exact⟨_,.str x t,Nat.zero_le _⟩
  |ty x=>simp only[rd] at h;cases h
  |ref ha =>
   rename_i i a;simp only[rd] at h;cases e:d0 g i with
   |none=>rw[e] at h;cases h
   |some l =>
    rw[e] at h;dsimp only at h;cases e2:l.mapM (rd g n) with
    |none=>rw[e2] at h;cases h
    |some ps =>
     rw[e2] at h;cases h;cases ru;obtain⟨vs,hq,rs⟩:=R.items e ha;obtain⟨aW,rv,p,hz⟩:=I.list hq;obtain⟨as,q,hd⟩:=JU I R n ih e2 rs rv;obtain⟨o,ho,hc,k,rn⟩:=p.isList;refine⟨_,.list ho hc rn (by simpa using q),?_⟩;simp only[PyData.depth];omega
  |tup ht rs =>
   rename_i l a vs;simp only[rd] at h;cases e2:l.mapM (rd g n) with
   |none=>rw[e2] at h;cases h
   |some ps =>
    rw[e2] at h;cases h;cases ru;obtain⟨aW,rv,pt,hz⟩:=I.tuple ht.sq;obtain⟨as,q,hd⟩:=JU I R n ih e2 rs rv;obtain⟨o,ho,hc,k,rn⟩:=id pt;refine⟨_,.tuple ho hc rn (by simpa using q),?_⟩;simp only[PyData.depth];omega
end
end
section
variable{X:Cx}
theorem yF{α:Type}[BEq α][LawfulBEq α][DecidableEq α](a b:α):decide (a=b)=(a==b):=by
 by_cases e:a=b
 ·subst e;simp
 ·rw[aL e];exact(dH.mpr e).symm
theorem Y2{K ρ H}{d:D}{v:V}{c:Key}(h:W9 d=some c)(r:d8 K ρ H d v):v=kV c:=by
 cases r<;>first|(cases h;rfl)|cases h
theorem sx.some{K ρ H}{o:Option V}{d:D}(h:sx K ρ H (some d) o):∃v,o=some v/\d8 K ρ H d v:=by
 cases o with
 |none=>exact h.elim
 |some v=>exact⟨v,rfl,h⟩
theorem sx.isSome{K ρ H}{o:Option V}{d:Option D}(h:sx K ρ H d o):d.isSome=o.isSome:=by
 cases o<;>cases d<;>first|rfl|exact h.elim
theorem HY{pins:List (Addr×Obj)}{s:Shared}{Z:L2.St}{H:Hp}{ρ:List Addr}{g:G}{d e:D}{x y:V}{v u:Value}{b:Bool}{Q:VK}(hu:X.A.units+100<cLine)(I:Inv X pins Z H s)(rx:RelV x v)(ry:RelV y u)(R:Rl X.K ρ g H)(iu:d8 X.K ρ H d x)(re:d8 X.K ρ H e y)(h:vR g d e b)(neg:Bool)(q:Q (.bl (xor neg b)) H):wpAny (model X.prog X.w) X.A (compareOp (if neg then .NotEq else .Eq) v u) (EP X pins Z Q) X.xe s:=by
 rcases h with⟨i,j,rfl,rfl,rfl⟩|⟨i,j,rfl,rfl,rfl⟩|⟨i,j,rfl,rfl,rfl⟩|⟨p,p',h1,h2,c1,c2,rfl⟩
 ·obtain rfl:=iu.i8;obtain rfl:=re.i8;cases neg
  ·exact DG pins s Z H _ _ v u Q I rx ry ⟨rfl,by rw[yG];simpa[yF] using q⟩
  ·exact DH pins s Z H _ _ v u Q I rx ry ⟨rfl,by rw[yG];simpa[yF] using q⟩
 ·obtain rfl:=iu.L8;obtain rfl:=re.L8;cases neg
  ·exact DG pins s Z H _ _ v u Q I rx ry ⟨rfl,by rw[yu];simpa using q⟩
  ·exact DH pins s Z H _ _ v u Q I rx ry ⟨rfl,by rw[yu];simpa using q⟩
 ·obtain rfl:=iu.E4;obtain rfl:=re.E4;cases neg
  ·exact DG pins s Z H _ _ v u Q I rx ry ⟨rfl,by rw[yH];simpa[yF] using q⟩
  ·exact DH pins s Z H _ _ v u Q I rx ry ⟨rfl,by rw[yH];simpa[yF] using q⟩
 ·obtain⟨as,q1,d1⟩:=S1 I R 6 h1 iu rx;obtain⟨bs,q2,d2⟩:=S1 I R 6 h2 re ry;have hr:X.A.units+min p.depth p'.depth<cLine:=by omega
  cases neg
  ·exact SeqAt.compareEq_reads q1 q2 c1 c2 hr ⟨.bl _,H,I,rfl,by simpa using q⟩
  ·exact SeqAt.compareNe_reads q1 q2 c1 c2 hr ⟨.bl _,H,I,rfl,by simpa using q⟩
theorem in_of{pins:List (Addr×Obj)}{s:Shared}{Z:L2.St}{H:Hp}{ρ:List Addr}{g:G}{d e:D}{x y:V}{v u:Value}{b:Bool}{Q:VK}(hu:X.A.units+100<cLine)(I:Inv X pins Z H s)(rx:RelV x v)(ry:RelV y u)(R:Rl X.K ρ g H)(iu:d8 X.K ρ H d x)(re:d8 X.K ρ H e y)(h:inR g d e b)(neg:Bool)(q:Q (.bl (xor neg b)) H):wpAny (model X.prog X.w) X.A (compareOp (if neg then .NotIn else .In) v u) (EP X pins Z Q) X.xe s:=by
 rcases h with⟨a,kvs,c,rfl,ha,hc,rfl⟩|⟨l,ps,p,h0,h1,h2,c1,c2,rfl⟩
 ·obtain⟨a',rfl,ra⟩:=re.j6;obtain⟨vs,z,rs⟩:=R.dD ha ra;have:=Y2 hc iu;subst this;cases ry;rw[(rs.val c).isSome] at q;cases neg
  ·exact Vw (by omega) I (P7.k z) rx λs' I'=>⟨.bl _,H,I',rfl,by simpa using q⟩
  ·exact Tb (by omega) I (P7.k z) rx λs' I'=>⟨.bl _,H,I',rfl,by simpa using q⟩
 ·obtain⟨as,q1,d1⟩:=S1 I R 6 h2 iu rx;cases e with
  |tup m =>
   cases h0;have h3:rd g 7 (.tup l)=some (.tuple ps):=by simp only[rd];rw[show l.mapM (rd g 6)=some ps from h1];rfl
   obtain⟨bs,q2,d2⟩:=S1 I R 7 h3 re ry;have hr:X.A.units+1+min (PyData.depthAll ps) p.depth<cLine:=by omega
   cases neg
   ·exact SeqAt.in_tuple_reads q2 q1 c1 c2 hr ⟨.bl _,H,I,rfl,by simpa using q⟩
   ·exact SeqAt.notIn_tuple_reads q2 q1 c1 c2 hr ⟨.bl _,H,I,rfl,by simpa using q⟩
  |ref a =>
   have h3:rd g 7 (.ref a)=some (.list ps):=by
    simp only[rd];rw[show d0 g a=some l from h0];dsimp only;rw[show l.mapM (rd g 6)=some ps from h1]
    rfl
   obtain⟨bs,q2,d2⟩:=S1 I R 7 h3 re ry;have hr:X.A.units+1+min (PyData.depthAll ps) p.depth<cLine:=by omega
   cases neg
   ·exact SeqAt.in_list_reads q2 q1 c1 c2 hr ⟨.bl _,H,I,rfl,by simpa using q⟩
   ·exact SeqAt.notIn_list_reads q2 q1 c1 c2 hr ⟨.bl _,H,I,rfl,by simpa using q⟩
  |_=>cases h0
theorem X9(hu:X.A.units+100<cLine)(op:CmpOp):fK X (compareOp op) (r2 X.K (.cmp op)):=by
 intro pins s Z H x y v u Q I rx ry h;obtain⟨d,e,g,ρ,R,iu,re,d',g',⟨x',y',b,ex,h,rfl,rfl⟩,q⟩:=h;obtain⟨rfl,rfl⟩:=A8 ex;have fin:=q.now R (.bl b);have ox:∀{P:Int->Int->Bool},(∃i j,d=.int i/\e=.int j/\b=P i j)->∃i j,x=.int i/\y=.int j/\b=P i j:=λhh=>by
  obtain⟨i,j,z1,z2,z3⟩:=hh;exact⟨i,j,(z1▸iu).i8,(z2▸re).i8,z3⟩
 cases op
 ·exact HY hu I rx ry R iu re h false (by simpa using fin)
 ·exact HY hu I rx ry R iu re h true (by simpa using fin)
 ·obtain⟨i,j,e1,e2,e3⟩:=ox (P:=λi j=>decide (i<j)) h;exact XE pins s Z H _ _ v u Q I rx ry ⟨i,j,e1,e2,by subst e3;exact fin⟩
 ·obtain⟨i,j,e1,e2,e3⟩:=ox (P:=λi j=>decide (i<=j)) h;exact XD pins s Z H _ _ v u Q I rx ry ⟨i,j,e1,e2,by subst e3;exact fin⟩
 ·obtain⟨i,j,e1,e2,e3⟩:=ox (P:=λi j=>decide (j<i)) h;exact XC pins s Z H _ _ v u Q I rx ry ⟨i,j,e1,e2,by subst e3;exact fin⟩
 ·obtain⟨i,j,e1,e2,e3⟩:=ox (P:=λi j=>decide (j<=i)) h;exact XB pins s Z H _ _ v u Q I rx ry ⟨i,j,e1,e2,by subst e3;exact fin⟩
 ·obtain⟨rfl,rfl⟩:=(show _/\_ from h)
  obtain rfl:=re.yx;refine QV pins s Z H _ _ v u Q I rx ry ⟨rfl,?_⟩;have e:L6 d=decide (x=V.bQ):=by cases iu<;>simp[L6]
  rw[<- e];exact fin
 ·obtain⟨rfl,rfl⟩:=(show _/\_ from h)
  obtain rfl:=re.yx;refine TR pins s Z H _ _ v u Q I rx ry ⟨rfl,?_⟩;have e:L6 d=decide (x=V.bQ):=by cases iu<;>simp[L6]
  rw[<- e];exact fin
 ·rcases h with h|⟨a,S,n,i,rfl,ha,rfl,rfl⟩
  ·exact in_of hu I rx ry R iu re h false (by simpa using fin)
  ·obtain⟨a',rfl,ra⟩:=re.j6;obtain rfl:=iu.i8;exact ZN pins s Z H _ _ v u Q I rx ry ⟨i,a',S,n,rfl,rfl,R.set ha ra,fin⟩
 ·rcases h with h|⟨a,S,n,i,rfl,ha,rfl,hb⟩
  ·exact in_of hu I rx ry R iu re h true (by simpa using fin)
  ·obtain⟨a',rfl,ra⟩:=re.j6;obtain rfl:=iu.i8;exact aB3 pins s Z H _ _ v u Q I rx ry ⟨i,a',S,n,rfl,rfl,R.set ha ra,by rw[<- hb,uk];exact fin⟩
theorem empty_eq{K ρ H}{l:List D}{vs:List V}(r:c6 K ρ H l vs):l.isEmpty=vs.isEmpty:=by cases r<;>rfl
theorem SG{K:PySem.W.Frag}{ρ:List Addr}{g:G}{H:Hp}{d:D}{x:V}{b:Bool}(R:Rl K ρ g H)(r:d8 K ρ H d x)(h:HL g d b):BR K x H b:=by
 rcases h with⟨rfl,rfl⟩|rfl|⟨i,rfl,rfl⟩|⟨l,rfl,rfl⟩|⟨a,l,rfl,hl,rfl⟩
 ·obtain rfl:=r.yx;rfl
 ·obtain rfl:=r.L8;rfl
 ·obtain rfl:=r.i8;rfl
 ·obtain⟨a,vs,rfl,ht,rs⟩:=r.J8;exact .inr (.inl ⟨_,ht.sq,by rw[empty_eq rs]⟩)
 ·obtain⟨a',rfl,ha⟩:=r.j6;obtain⟨vs,hq,rs⟩:=R.items hl ha;exact .inl ⟨_,hq,by rw[empty_eq rs]⟩
theorem SU{K ρ H}{l:List D}{vs:List V}{i:Int}{d:D}(r:c6 K ρ H l vs)(h:gP l i=some d):∃v,gP vs i=some v/\d8 K ρ H d v:=by
 unfold gP at h ⊢;rw[<- r.length];cases e:kY l.length i with
 |none=>rw[e] at h;cases h
 |some j =>
  rw[e] at h;exact r.get h
theorem wG{K ρ H}{g:G}{x:D}{v:V}{l:List D}(R:Rl K ρ g H)(r:d8 K ρ H x v)(h:T7 g x=some l):∃a vs,v=.ref a/\c6 K ρ H l vs/\((∃i,x=.ref i/\ρ[i]?=some a)/\fG K H a vs\/x=.tup l/\TupAt K H a vs):=by
 cases r with
 |tup ht rs=>cases h;exact⟨_,_,rfl,rs,.inr ⟨rfl,ht⟩⟩
 |ref ha=>obtain⟨vs,hq,rs⟩:=R.items h ha;exact⟨_,_,rfl,rs,.inl ⟨⟨_,rfl,ha⟩,hq⟩⟩
 |_=>cases h
theorem Xk(hu:X.A.units+100<cLine):sE X (r2 X.K .ix):=by
 intro value slice pins s Z H x y v u Q I rx ry h hs;obtain⟨d,e,g,ρ,R,iu,re,d',g',⟨rfl,h⟩,q⟩:=h;rcases h with⟨x',l,i,ex,hl,ha⟩|⟨a,kvs,y',c,ex,ha,hc,hv⟩|⟨x',i,c,ex,h0,h1,rfl⟩
 ·obtain⟨rfl,rfl⟩:=A8 ex;obtain rfl:=re.i8;obtain⟨a,vs,rfl,rs,h⟩:=wG R iu hl;obtain⟨w,hw,fJ⟩:=SU rs ha;rcases h with⟨_,hq⟩|⟨_,ht⟩
  ·exact Tq value slice pins s Z H _ _ v u Q I rx ry ⟨_,_,i,w,rfl,rfl,hq,hw,q.now R fJ⟩ hs
  ·exact Qz value slice pins s Z H _ _ v u Q I rx ry ⟨_,_,i,w,rfl,rfl,ht.sq,hw,q.now R fJ⟩ hs
 ·obtain⟨rfl,rfl⟩:=A8 ex;obtain⟨a',rfl,ra⟩:=iu.j6;obtain⟨vs,z,rs⟩:=R.dD ha ra;have:=Y2 hc re;subst this;have q2:=rs.val c;rw[hv] at q2;obtain⟨w,hw,fJ⟩:=q2.some;exact Tp (by omega) value slice pins s Z H _ _ v u Q I rx ry ⟨_,w,rfl,by have:=P7.k (k:=c) z;rw[hw] at this;exact this,q.now R fJ⟩ hs
 ·obtain⟨rfl,rfl⟩:=A8 ex;obtain rfl:=iu.E4;obtain rfl:=re.i8;exact Qy value slice pins s Z H _ _ v u Q I rx ry ⟨x',i,c,rfl,rfl,n5 h0,h1,q.now R (.str _)⟩ hs
end
end M

namespace M
open PySem L2 PySem.Spec PyProof.Rows
section
variable{X:Cx}
def Nb(K:PySem.W.Frag):V->Option Int->Option Int->Hp->VK->Prop:=λx lo hi H Q=>∃d g ρ d' g',Rl K ρ g H/\d8 K ρ H d x/\uG d lo hi g d' g'/\LQ K ρ H Q d' g'
theorem DL:wR X (Nb X.K):=by
 intro pins s Z H x v vl vu lo hi sl Q I rx hs pl pu h;obtain⟨d,g,ρ,d',g',R,iu,h,q⟩:=h;rcases h with⟨l,rfl,rfl,rfl⟩|⟨a,l,rfl,hl,rfl,rfl⟩
 ·obtain⟨a,vs,rfl,ht,rs⟩:=iu.J8;refine UN pins s Z H _ v vl vu lo hi sl Q I rx hs pl pu ⟨_,_,rfl,ht.sq,λz=>?_,λp hp=>q.tup R hp (rs.cut lo hi)⟩;refine q.now R (.tup ht ?_);have:=rs.cut lo hi;rw[z] at this;exact this
 ·obtain⟨a',rfl,ha⟩:=iu.j6;obtain⟨vs,hq,rs⟩:=R.items hl ha;exact UM pins s Z H _ v vl vu lo hi sl Q I rx hs pl pu ⟨_,_,rfl,hq,λp hp=>q.new R hp (rs.cut lo hi)⟩
def Wb(K:PySem.W.Frag):V->V->V->Hp->(Hp->Prop)->Prop:=λo i v H Q=>∃BD di dv g ρ,Rl K ρ g H/\d8 K ρ H BD o/\d8 K ρ H di i/\d8 K ρ H dv v/\V8 BD di dv g (λg'=>∀bL H',Ext ρ H bL H'->Rl K bL g' H'->Q H')
theorem RZ(hu:X.A.units+100<cLine):BP X (Wb X.K):=by
 intro pins s Z H o i v ov iv u Q I ro ri rv h;obtain⟨BD,di,dv,g,ρ,R,r1,r2,r3,g',h,q⟩:=h;rcases h with⟨a,i',l,j,rfl,rfl,hl,hj,rfl⟩|⟨a,kvs,c,rfl,ha,hc,hz,rfl⟩
 ·obtain⟨a',rfl,ha⟩:=r1.j6;obtain rfl:=r2.i8;obtain⟨vs,z,rs⟩:=R.lst hl ha;obtain⟨R',e'⟩:=R.write hl ha (rs.set r3 j);exact set_list pins s Z H _ _ _ ov iv u Q I ro ri rv ⟨_,vs,_,j,rfl,rfl,z,by rw[<- rs.length];exact hj,q ρ _ e' R'⟩
 ·obtain⟨a',rfl,ra⟩:=r1.j6;obtain⟨vs,z,rs⟩:=R.dD ha ra;have:=Y2 hc r2;subst this;obtain⟨R',e'⟩:=R.put (o':=.dD (putD kvs c dv)) (u:=.dK (putK vs c v)) ha rfl ra (rs.put r3);cases ro;exact a00 (by omega) I (yW.k z (by rw[<- rs.length];exact Cr hz)) ri rv λs' I'=>⟨_,I',q ρ _ e' R'⟩
theorem QG:l6 X (.builtin "len") (rN X.K .len):=by
 intro pins s Z H xs us Q I r h;obtain⟨ds,g,ρ,R,rs,d',g',⟨rfl,h⟩,q⟩:=h;rcases h with⟨x,l,rfl,hl,rfl⟩|⟨a,kvs,rfl,ha,rfl⟩|⟨x,rfl,hz,rfl⟩
 ·obtain⟨v,rfl,rv⟩:=rs.one;obtain⟨a,vs,rfl,rl,h⟩:=wG R rv hl;refine aF0 pins s Z H _ us Q I r ⟨_,_,rfl,?_,by rw[<- rl.length];exact q.now R (.int _)⟩;exact h.imp (λz=>z.2) (λz=>z.2.sq)
 ·obtain⟨v,rfl,rv⟩:=rs.one;obtain⟨a',rfl,ra⟩:=rv.j6;obtain⟨vs,z,rk⟩:=R.dD ha ra;exact a11 pins s Z H _ us Q I r ⟨_,_,rfl,z,by rw[<- rk.length];exact q.now R (.int _)⟩
 ·obtain⟨v,rfl,rv⟩:=rs.one;obtain rfl:=rv.E4;exact aE9 pins s Z H _ us Q I r ⟨_,rfl,n5 hz,q.now R (.int _)⟩
theorem Tt:l6 X (.type "list") (rN X.K .list):=by
 intro pins s Z H xs us Q I r h;obtain⟨ds,g,ρ,R,rs,d',g',⟨x,l,rfl,hl,rfl,rfl⟩,q⟩:=h;obtain⟨v,rfl,rv⟩:=rs.one;obtain⟨a,vs,rfl,rl,h⟩:=wG R rv hl;exact aE8 pins s Z H _ us Q I r ⟨_,_,rfl,h.imp (λz=>z.2) (λz=>z.2.sq),λp hp=>q.new R hp rl⟩
theorem a32:l6 X (.type "tuple") (rN X.K .tuple):=by
 intro pins s Z H xs us Q I r h;obtain⟨ds,g,ρ,R,rs,d',g',⟨x,l,rfl,hl,rfl,rfl⟩,q⟩:=h;obtain⟨v,rfl,rv⟩:=rs.one;obtain⟨a,vs,rfl,rl,h⟩:=wG R rv hl;refine YS pins s Z H _ us Q I r ⟨a,vs,rfl,?_⟩;exact h.imp (λz=>⟨z.2,λp hp=>q.tup R hp rl⟩) (λz=>⟨z.2.sq,q.now R (.tup z.2 rl)⟩)
theorem To:l6 X (.builtin "isinstance") (rN X.K .isin):=by
 intro pins s Z H xs us Q I r h;obtain⟨ds,g,ρ,R,rs,d',g',⟨x,c,b,rfl,hc,hb,rfl,rfl⟩,q⟩:=h;obtain⟨v,w,rfl,r1,r2⟩:=rs.two;obtain rfl:=r2.Yv;have fin:=q.now R (.bl b);have go:∀(t:Value) (v:V),hU X.K H v t->PySem.W.kitOne X.K t (.type c)=some b->Vals [v,V.ty c] us->wpAny (model X.prog X.w) X.A (call (.builtin "isinstance") us) (EP X pins Z Q) X.xe s :=
  λt v ht hk r=>aH7 pins s Z H _ us Q I r ⟨v,t,c,b,rfl,ht,hk,fin⟩
 simp only[List.mem_cons,List.mem_nil_iff,or_false] at hc;cases r1 with
 |bQ=>refine go _ _ .bQ ?_ r;cases hb;rcases hc with rfl|rfl|rfl|rfl|rfl<;>rfl
 |bl y=>refine go _ _ (.bl y) ?_ r;cases hb;rcases hc with rfl|rfl|rfl|rfl|rfl<;>rfl
 |int y=>refine go _ _ (.int y) ?_ r;cases hb;rcases hc with rfl|rfl|rfl|rfl|rfl<;>rfl
 |str y=>refine go _ _ (.str y) ?_ r;cases hb;rcases hc with rfl|rfl|rfl|rfl|rfl<;>rfl
 |ty _=>cases hb
 |tup ht rs =>
  cases hb;rcases ht with ht|ht
  ·refine go _ _ (.tup ht) ?_ r;rcases hc with rfl|rfl|rfl|rfl|rfl<;>rfl
  ·obtain⟨o,aW,n,lk,kQ,_⟩:=ht;obtain⟨u,w',rfl,ru,fJ⟩:=vals2 r;cases (show w'=Value.type c from fJ);cases ru;have hk:PySem.W.kitOne X.K (.type "tuple") (.type c)=some (c=="tuple"):=by rcases hc with rfl|rfl|rfl|rfl|rfl<;>rfl
   exact bY Mr I.gT ⟨o,I.gT _ _ lk,kQ⟩ hk (λz=>nomatch z) λtk=>⟨.bl _,H,I.tok tk,rfl,fin⟩
 |@ref i a ha =>
  have vC:∃m,g'[i]?=some (.lst m)/\b=(c=="list"):=by
   simp only[Eo] at hb;split at hb
   ·exact⟨_,by assumption,(aO hb).symm⟩
   ·cases hb
  obtain⟨m,e,rfl⟩:=vC;obtain⟨vs,z,_⟩:=R.lst e ha;refine go _ _ (.lst z) ?_ r;rcases hc with rfl|rfl|rfl|rfl|rfl<;>rfl
theorem aS0:∀{l:List D} {b:Bool},V7 l=some b->∃bs:List Bool,l=bs.map D.bl/\b=bs.all id:=by
 intro l
 induction l with
 |nil=>intro b h;cases h;exact⟨[],rfl,rfl⟩
 |cons d r ih =>
  intro b h;cases d<;>first|(cases h;done)|skip
  rename_i c;simp only[V7] at h;cases e:V7 r with
  |none=>rw[e] at h;cases h
  |some b' =>
   rw[e] at h;cases h;obtain⟨bs,rfl,rfl⟩:=ih e;exact⟨c::bs,rfl,by simp⟩
theorem c6.HQ{K ρ H}:∀{bs:List Bool} {vs:List V},c6 K ρ H (bs.map D.bl) vs->vs=bs.map V.bl:=by
 intro bs
 induction bs with
 |nil=>intro vs h;cases h;rfl
 |cons b r ih =>
  intro vs h;cases h with
  |cons h rr=>rw[ih rr,h.L8];rfl
theorem YE(hc:X.calm=true):l6 X (.builtin "all") (rN X.K .all):=by
 intro pins s Z H xs us Q I r h;obtain⟨ds,g,ρ,R,rs,d',g',⟨a,l,b,rfl,hl,hb,rfl,rfl⟩,q⟩:=h;obtain⟨v,rfl,rv⟩:=rs.one;obtain⟨a',rfl,ra⟩:=rv.j6;obtain⟨vs,hq,rs⟩:=R.items hl ra;rcases hb with hb|⟨ns,rfl,rfl⟩
 rotate_left
 ·have:=rs.ints;subst this;exact a15 hc pins s Z H _ us Q I r ⟨_,ns,rfl,hq,q.now R (.bl _)⟩
 obtain⟨bs,rfl,rfl⟩:=aS0 hb;have:=rs.HQ;subst this;exact a16 hc pins s Z H _ us Q I r ⟨_,bs,rfl,hq,q.now R (.bl _)⟩
theorem aR7:∀{l:List D} {b:Bool},V6 l=some b->∃bs:List Bool,l=bs.map D.bl/\b=bs.any id:=by
 intro l
 induction l with
 |nil=>intro b h;cases h;exact⟨[],rfl,rfl⟩
 |cons d r ih =>
  intro b h;cases d<;>first|(cases h;done)|skip
  rename_i c;simp only[V6] at h;cases e:V6 r with
  |none=>rw[e] at h;cases h
  |some c' =>
   rw[e] at h;cases h;obtain⟨bs,rfl,rfl⟩:=ih e;exact⟨c::bs,rfl,rfl⟩
theorem YH(hc:X.calm=true):l6 X (.builtin "any") (rN X.K .any):=by
 intro pins s Z H xs us Q I r h;obtain⟨ds,g,ρ,R,rs,d',g',⟨a,l,b,rfl,hl,hb,rfl,rfl⟩,q⟩:=h;obtain⟨bs,rfl,rfl⟩:=aR7 hb;obtain⟨v,rfl,rv⟩:=rs.one;obtain⟨a',rfl,ra⟩:=rv.j6;obtain⟨vs,hq,rs⟩:=R.items hl ra;have:=rs.HQ;subst this;exact a13 hc pins s Z H _ us Q I r ⟨_,bs,rfl,hq,q.now R (.bl _)⟩
theorem i9.keys{α:Type}{K ρ H}{ds:List (α×D)}{vs:List (α×V)}(h:i9 K ρ H ds vs):ds.map (·.1)=vs.map (·.1):=by
 induction h with
 |nil=>rfl
 |cons _ _ ih=>rw[bg,bg,ih]
theorem CK{K ρ H}:∀(ns:List Int),c6 K ρ H (ns.map D.int) (ns.map V.int)
 |[]=>.nil
 |_::r=>.cons (.int _) (CK r)
theorem a39(hc:X.calm=true):l6 X (.builtin "sorted") (rN X.K .ka):=by
 intro pins s Z H xs us Q I r h;obtain⟨ds,g,ρ,R,rs,d',g',⟨a,kvs,ns,rfl,ha,hk,hn,rfl,rfl⟩|⟨ns,rfl,hn,rfl,rfl⟩,q⟩:=h
 rotate_left
 ·obtain⟨v,rfl,rv⟩:=rs.one;obtain⟨a,vs,rfl,rl,h⟩:=wG (l:=ns.map .int) R rv rfl;have:=rl.ints;subst this;rcases h with⟨⟨_,z,_⟩,_⟩|⟨_,z⟩
  ·cases z
  ·exact Zg hc pins s Z H _ us Q I r ⟨_,ns,rfl,z.sq,hn,λp hp=>q (ρ++[p]) _ _ (F6 hp) (R.new hp (o:=.lst ((P9 ns).map .int)) (u:=.lst ((P9 ns).map V.int)) (CK _)) (.ref (R.B0 p))⟩
 obtain⟨v,rfl,rv⟩:=rs.one;obtain⟨a',rfl,ra⟩:=rv.j6;obtain⟨vs,z1,rk⟩:=R.dD ha ra;exact Zk hc pins s Z H _ us Q I r ⟨_,vs,ns,rfl,z1,rk.keys.symm.trans hk,hn,λp hp=>q (ρ++[p]) _ _ (F6 hp) (R.new hp (o:=.lst ((j9 ns).map .int)) (u:=.lst ((j9 ns).map V.int)) (CK _)) (.ref (R.B0 p))⟩
theorem QM(hc:X.calm=true):l6 X (.builtin "max") (rN X.K .max):=by
 intro pins s Z H xs us Q I r h;obtain⟨ds,g,ρ,R,rs,d',g',⟨rfl,⟨i,j,rfl,rfl⟩|⟨a,ns,M,rfl,hl,h1,h2,rfl⟩⟩,q⟩:=h
 rotate_left
 ·obtain⟨v,rfl,rv⟩:=rs.one;obtain⟨a',rfl,ra⟩:=rv.j6;obtain⟨vs,hq,rs⟩:=R.items hl ra;have:=rs.ints;subst this;exact a09 hc pins s Z H _ us Q I r ⟨_,ns,M,rfl,hq,h1,h2,q.now R (.int _)⟩
 obtain⟨v,w,rfl,r1,r2⟩:=rs.two;obtain rfl:=r1.i8;obtain rfl:=r2.i8;exact a10 hc pins s Z H _ us Q I r ⟨i,j,rfl,q.now R (.int _)⟩
theorem QN(hc:X.calm=true):l6 X (.builtin "min") (rN X.K .min):=by
 intro pins s Z H xs us Q I r h;obtain⟨ds,g,ρ,R,rs,d',g',⟨rfl,⟨i,j,rfl,rfl⟩|⟨a,ns,M,rfl,hl,h1,h2,rfl⟩⟩,q⟩:=h
 rotate_left
 ·obtain⟨v,rfl,rv⟩:=rs.one;obtain⟨a',rfl,ra⟩:=rv.j6;obtain⟨vs,hq,rs⟩:=R.items hl ra;have:=rs.ints;subst this;exact a07 hc pins s Z H _ us Q I r ⟨_,ns,M,rfl,hq,h1,h2,q.now R (.int _)⟩
 obtain⟨v,w,rfl,r1,r2⟩:=rs.two;obtain rfl:=r1.i8;obtain rfl:=r2.i8;exact a08 hc pins s Z H _ us Q I r ⟨i,j,rfl,q.now R (.int _)⟩
theorem Sq(hc:X.calm=true):l6 X (.builtin "sum") (rN X.K .sum):=by
 intro pins s Z H xs us Q I r h;obtain⟨ds,g,ρ,R,rs,d',g',⟨a,ns,rfl,hl,rfl,rfl⟩,q⟩:=h;obtain⟨v,rfl,rv⟩:=rs.one;obtain⟨a',rfl,ra⟩:=rv.j6;obtain⟨vs,hq,rs⟩:=R.items hl ra;have:=rs.ints;subst this;exact a06 hc pins s Z H _ us Q I r ⟨_,ns,rfl,hq,q.now R (.int _)⟩
theorem Qv:l6 X (.type "int") (rN X.K .int):=by
 intro pins s Z H xs us Q I r h;obtain⟨ds,g,ρ,R,rs,d',g',⟨rfl,h⟩,q⟩:=h;rcases h with⟨i,rfl,rfl⟩|⟨b,rfl,rfl⟩
 ·obtain⟨v,rfl,rv⟩:=rs.one;obtain rfl:=rv.i8;exact IU pins s Z H _ us Q I r (.inl ⟨i,rfl,q.now R (.int _)⟩)
 ·obtain⟨v,rfl,rv⟩:=rs.one;obtain rfl:=rv.L8;exact IU pins s Z H _ us Q I r (.inr ⟨b,rfl,q.now R (.int _)⟩)
def rM(K:PySem.W.Frag)(p:Pr):V->List V->Hp->VK->Prop:=λx xs H Q=>∃d ds g ρ,Rl K ρ g H/\d8 K ρ H d x/\c6 K ρ H ds xs/\cY p (d::ds) g (LQ K ρ H Q)
theorem yQ{a b:D}{l m:List D}(h:a::l=b::m):a=b/\l=m:=by cases h;exact⟨rfl,rfl⟩
theorem a21:lU X "list.append" (rM X.K .append):=by
 intro pins s Z H x xs v us Q I rx r h;obtain⟨d,ds,g,ρ,R,rd,rs,d',g',⟨a,y,l,ex,ha,hz,rfl,rfl⟩,q⟩:=h;obtain⟨rfl,rfl⟩:=yQ ex;obtain⟨a',rfl,ra⟩:=rd.j6;obtain⟨w,rfl,fJ⟩:=rs.one;obtain⟨vs,z1,rv⟩:=R.lst ha ra;obtain⟨R2,e2⟩:=R.write ha ra (rv.append (.cons fJ .nil));exact ZF pins s Z H _ _ v us Q I rx r ⟨_,vs,_,rfl,rfl,z1,by rw[<- rv.length];exact Cr hz,q ρ _ _ e2 R2 .bQ⟩
theorem YQ(hu:X.A.units+100<cLine):lU X "dict.get" (rM X.K .get):=by
 intro pins s Z H x xs v us Q I rx r h;obtain⟨d,ds,g,ρ,R,rd,rs,d',g',⟨a,y,z,kvs,c,ex,ha,hc,rfl,rfl⟩,q⟩:=h;obtain⟨rfl,rfl⟩:=yQ ex;obtain⟨a',rfl,ra⟩:=rd.j6;obtain⟨w1,w2,rfl,r1,r2⟩:=rs.two;obtain⟨vs,z1,rv⟩:=R.dD ha ra;have:=Y2 hc r1;subst this;obtain⟨u1,u2,rfl,p1,p2⟩:=vals2 r;cases rx;refine YJ (by omega) I (P7.k z1) p1 p2 λw' s4 I4 fJ=>⟨_,H,I4,fJ,q.now R ?_⟩
 have q:=rv.val c;cases e1:n8 kvs c with
 |none =>
  rw[e1] at q;cases e2:K6 vs c with
  |none=>exact r2
  |some w=>rw[e2] at q;exact q.elim
 |some d' =>
  rw[e1] at q;obtain⟨w,hw,q⟩:=q.some;rw[hw];exact q
theorem a68:lU X "list.pop" (rM X.K .pop):=by
 intro pins s Z H x xs v us Q I rx r h;obtain⟨d,ds,g,ρ,R,rd,rs,y,g',⟨a,i,l,k,ex,ha,h1,h2,hk,hy,rfl⟩,q⟩:=h;obtain⟨rfl,rfl⟩:=yQ ex;obtain⟨a',rfl,ra⟩:=rd.j6;obtain⟨w,rfl,fJ⟩:=rs.one;obtain rfl:=fJ.i8;obtain⟨vs,z1,rv⟩:=R.lst ha ra;obtain⟨w,hw,fJ⟩:=rv.get hy;obtain⟨R2,e2⟩:=R.write ha ra (rv.erase k);exact a83 pins s Z H _ _ v us Q I rx r ⟨_,vs,i,k,w,rfl,rfl,z1,h1,h2,by rw[<- rv.length];exact hk,hw,q ρ _ _ e2 R2 (fJ.ext e2)⟩
theorem c6.strs{K ρ H}{ys:List Str}{vs:List V}(h:c6 K ρ H (ys.map D.str) vs):vs=ys.map V.str:=by
 induction ys generalizing vs with
 |nil=>cases h;rfl
 |cons y ys ih =>
  cases h with
  |cons q r=>cases q;rw[ih r];rfl
theorem ty_list{d:D}{v:V}{g:G}{ρ:List Addr}{H:Hp}(R:Rl X.K ρ g H)(r:d8 X.K ρ H d v)(h:∃a l,d=.ref a/\d0 g a=some l):nT X.K "list" v H:=by
 obtain⟨a,l,rfl,hl⟩:=h;obtain⟨a',rfl,ra⟩:=r.j6;obtain⟨vs,hq,_⟩:=R.items hl ra;exact .inl ⟨rfl,vs,hq⟩
theorem Uw:lU X "set.add" (rM X.K .kd):=by
 intro pins s Z H x xs v us Q I rx r h;obtain⟨d,ds,g,ρ,R,rd,rs,d',g',⟨a,i,S,n,ex,ha,hn,rfl,rfl⟩,q⟩:=h;obtain⟨rfl,rfl⟩:=yQ ex;obtain⟨a',rfl,ra⟩:=rd.j6;obtain⟨w,rfl,fJ⟩:=rs.one;obtain rfl:=fJ.i8;obtain⟨R2,e2⟩:=R.put (o':=.set (λk=>S k||decide (k=i)) (if S i then n else n+1)) (u:=.set (λk=>S k||decide (k=i)) (if S i then n else n+1)) ha rfl ra ⟨rfl,rfl⟩;exact aO7 pins s Z H _ _ v us Q I rx r ⟨_,i,S,n,rfl,rfl,R.set ha ra,hn,q ρ _ _ e2 R2 .bQ⟩
theorem ty_set{d:D}{v:V}{g:G}{ρ:List Addr}{H:Hp}(R:Rl X.K ρ g H)(r:d8 X.K ρ H d v)(h:lN .kd d g):nT X.K "set" v H:=by
 obtain⟨a,S,n,rfl,hl⟩:=h;obtain⟨a',rfl,ra⟩:=r.j6;exact .inr (.inr (.inr ⟨rfl,S,n,R.set hl ra⟩))
theorem ty_dict{d:D}{v:V}{g:G}{ρ:List Addr}{H:Hp}(R:Rl X.K ρ g H)(r:d8 X.K ρ H d v)(h:lN .get d g):nT X.K "dict" v H:=by
 obtain⟨a,l,rfl,hl⟩:=h;obtain⟨a',rfl,ra⟩:=r.j6;obtain⟨vs,hq,_⟩:=R.dD hl ra;exact .inr (.inr (.inl ⟨rfl,.inl ⟨vs,hq⟩⟩))
end
end M

namespace M
open PySem L2 PySem.Spec PyProof.Rows
noncomputable abbrev iM:=List Str×XK
def LX(K:PySem.W.Frag)(ρ:List Addr)(H:Hp)(Ξ:iM):KX:=λx g'=>∀bL H' C,Ext ρ H bL H'->Rl K bL g' H'->x.cls∈Ξ.1->v7 K x.cls C->Ξ.2 (.ref C) none H'
theorem LX.ext{K:PySem.W.Frag}{ρ bU:List Addr}{H H1:Hp}{Ξ:iM}(e:Ext ρ H bU H1){x:Xn}{g:G}(h:LX K ρ H Ξ x g):LX K bU H1 Ξ x g:=λbL H' C e' R hm c=>h bL H' C (e.trans e') R hm c
noncomputable abbrev sD(ex:List Str):iM:=(ex,λ_ _ _=>False)
def LE(K:PySem.W.Frag)(Ξ:iM)(t:S->G->KD->KX->Prop):TE:=λcg H Q=>∃Z g ρ,o8 K ρ H Z cg/\Rl K ρ g H/\t Z g (LQ K ρ H Q) (LX K ρ H Ξ)
def LT(K:PySem.W.Frag)(Ξ:iM)(t:S->G->(Bool->G->Prop)->KX->Prop):TT:=λcg H Q=>∃Z g ρ,o8 K ρ H Z cg/\Rl K ρ g H/\t Z g (λb g'=>∀bL H',Ext ρ H bL H'->Rl K bL g' H'->Q b H') (LX K ρ H Ξ)
def LA(K:PySem.W.Frag)(Ξ:iM)(t:S->G->(List D->G->Prop)->KX->Prop):TA:=λcg H Q=>∃Z g ρ,o8 K ρ H Z cg/\Rl K ρ g H/\t Z g (λds g'=>∀bL H' vs,Ext ρ H bL H'->Rl K bL g' H'->c6 K bL H' ds vs->Q vs H') (LX K ρ H Ξ)
def X4(K:PySem.W.Frag)(fV:List Addr)(H0:Hp)(k:IK)(J:It):Prop:=∀ρ g H,Ext fV H0 ρ H->Rl K ρ g H->∀i,(k.at i g=some none->J.stop i H) /\
 ∀d,k.at i g=some (some d)->J.go i H/\∀v H',J.qx i H v H'->Ext ρ H ρ H'/\Rl K ρ g H'/\d8 K ρ H' d v
def LI(K:PySem.W.Frag)(Ξ:iM)(t:S->G->(IK->G->Prop)->KX->Prop):TI:=λcg H R=>∃Z g ρ,o8 K ρ H Z cg/\Rl K ρ g H/\t Z g (λk g'=>∀bL H' J,Ext ρ H bL H'->Rl K bL g' H'->X4 K bL H' k J->R J H') (LX K ρ H Ξ)
def LG(K:PySem.W.Frag)(t:MT):TG:=λv cg H Q=>∃d Z g ρ,o8 K ρ H Z cg/\Rl K ρ g H/\d8 K ρ H d v/\jx t d Z (λcq=>∀dA,o8 K ρ H cq dA->Q dA H)
def LN(K:PySem.W.Frag)(ρ:List Addr)(H:Hp)(N:L2.Ends):Ends where
 nx:=λcq g'=>∀bL H' dA,Ext ρ H bL H'->Rl K bL g' H'->o8 K bL H' cq dA->N.nx dA H'
 rt:=LQ K ρ H N.rt
 bk:=λcq g'=>∀bL H' dA,Ext ρ H bL H'->Rl K bL g' H'->o8 K bL H' cq dA->N.bk dA H'
 ct:=λcq g'=>∀bL H' dA,Ext ρ H bL H'->Rl K bL g' H'->o8 K bL H' cq dA->N.ct dA H'
def LS(K:PySem.W.Frag)(Ξ:iM)(t:Ends->S->G->KX->Prop):TS:=λN cg H=>∃Z g ρ,o8 K ρ H Z cg/\Rl K ρ g H/\t (LN K ρ H N) Z g (LX K ρ H Ξ)
end M
namespace L2
open PySem PySem.Spec PyProof.Rows
section
variable{X:Cx}{e:Expr}
theorem PE.imp{t t':TE}(h:PE X e t)(i:∀Z H Q,t' Z H Q->t Z H Q):PE X e t':=λpins s Z H Q I q=>h pins s Z H Q I (i Z H Q q)
theorem PT.imp{t t':TT}(h:PT X e t)(i:∀Z H Q,t' Z H Q->t Z H Q):PT X e t':=λpins s Z H Q I q=>h pins s Z H Q I (i Z H Q q)
theorem PW.imp{t t':TT}(h:PW X e t)(i:∀Z H Q,t' Z H Q->t Z H Q):PW X e t':=λw pins s Z H Q I q=>h w pins s Z H Q I (i Z H Q q)
theorem PA.imp{es:List Expr}{t t':TA}(h:PA X es t)(i:∀Z H Q,t' Z H Q->t Z H Q):PA X es t':=λp pins s Z H Q I q=>h p pins s Z H Q I (i Z H Q q)
theorem lB.imp{es:List Expr}{t t':TT}(h:lB X es t)(i:∀Z H Q,t' Z H Q->t Z H Q):lB X es t':=λpins s Z H Q I q=>h pins s Z H Q I (i Z H Q q)
theorem PI.imp{tg:Expr}{t t':TI}(h:PI X tg e t)(i:∀Z H Q,t' Z H Q->t Z H Q):PI X tg e t':=λpins s Z H Q I q=>h pins s Z H Q I (i Z H Q q)
theorem PG.imp{t t':TG}(h:PG X e t)(i:∀v Z H Q,t' v Z H Q->t v Z H Q):PG X e t':=λpins s Z H v u Q I r q=>h pins s Z H v u Q I r (i v Z H Q q)
theorem PS.imp{st:Stmt}{t t':TS}(h:PS X st t)(i:∀N Z H,t' N Z H->t N Z H):PS X st t':=λpins s Z H N I q=>h pins s Z H N I (i N Z H q)
theorem jN.imp{st:List Stmt}{t t':TS}(h:jN X st t)(i:∀N Z H,t' N Z H->t N Z H):jN X st t':=λpins s Z H N I q=>h pins s Z H N I (i N Z H q)
end
end L2
namespace M
open PySem L2 PySem.Spec PyProof.Rows
section
variable{K:PySem.W.Frag}{Ξ:iM}{P:fH}(hP:i7 P){ρ fV:List Addr}{H H0:Hp}{Z:S}{cg:L2.St}{g:G}{m:ME}
include hP
theorem fq{Q0:KD}{Q:VK}(s:o8 K ρ H Z cg)(R:Rl K ρ g H)(e0:Ext fV H0 ρ H)(h:aS P m Z g Q0 (LX K fV H0 Ξ))(k:∀x g1 bU H1 v1,Ext ρ H bU H1->Rl K bU g1 H1->d8 K bU H1 x v1->Q0 x g1->Q v1 H1):LE K Ξ (aS P m) cg H Q :=
 ⟨Z,g,ρ,s,R,b9 hP m _ _ _ _ _ _ (λx g1 h bU H1 v1 e1 R1 r1=>k x g1 bU H1 v1 e1 R1 r1 h) (λ_ _ z=>LX.ext e0 z) h⟩
theorem jF{Q0:List D->G->Prop}{Q:List V->Hp->Prop}(s:o8 K ρ H Z cg)(R:Rl K ρ g H)(e0:Ext fV H0 ρ H)(h:dJ P m Z g Q0 (LX K fV H0 Ξ))(k:∀x g1 bU H1 v1,Ext ρ H bU H1->Rl K bU g1 H1->c6 K bU H1 x v1->Q0 x g1->Q v1 H1):LA K Ξ (dJ P m) cg H Q :=
 ⟨Z,g,ρ,s,R,A1 hP m _ _ _ _ _ _ (λx g1 h bU H1 v1 e1 R1 r1=>k x g1 bU H1 v1 e1 R1 r1 h) (λ_ _ z=>LX.ext e0 z) h⟩
theorem pj{Q0:Bool->G->Prop}{Q:Bool->Hp->Prop}(s:o8 K ρ H Z cg)(R:Rl K ρ g H)(e0:Ext fV H0 ρ H)(h:cT P m Z g Q0 (LX K fV H0 Ξ))(k:∀t g1 bU H1,Ext ρ H bU H1->Rl K bU g1 H1->Q0 t g1->Q t H1):LT K Ξ (cT P m) cg H Q :=
 ⟨Z,g,ρ,s,R,p6 hP m _ _ _ _ _ _ (λt g1 h bU H1 e1 R1=>k t g1 bU H1 e1 R1 h) (λ_ _ z=>LX.ext e0 z) h⟩
theorem sQ{ms:MS}{N:L2.Ends}{N0:Ends}(s:o8 K ρ H Z cg)(R:Rl K ρ g H)(e0:Ext fV H0 ρ H)(h:wpS P ms N0 Z g (LX K fV H0 Ξ))(k:N0.le (LN K ρ H N)):LS K Ξ (wpS P ms) N cg H :=
 ⟨Z,g,ρ,s,R,wpS_mono hP ms _ _ _ _ _ _ k (λ_ _ z=>LX.ext e0 z) h⟩
end
theorem c6.ml{K ρ H}(lo:Int)(n:Nat):c6 K ρ H (k8 lo n) ((List.range n).map λ(k:Nat)=>V.int (lo+k)):=by
 unfold k8;have:∀l:List Nat,c6 K ρ H (l.map λ(k:Nat)=>D.int (lo+k)) (l.map λ(k:Nat)=>V.int (lo+k)):=by
  intro l
  induction l with
  |nil=>exact .nil
  |cons x r ih=>exact .cons (.int _) ih
 exact this _
section
variable{X:Cx}{Ξ:iM}{P:fH}(hP:i7 P){a b c e:Expr}{ma mb mc:ME}{pos:Pos}{p:Pr}
include hP
theorem El(h:PE X e (sR (r2 X.K p) (LE X.K Ξ (aS P ma)) (LE X.K Ξ (aS P mb)))):PE X e (LE X.K Ξ (aS P (.prim p (.cons ma (.cons mb .nil))))) :=
 h.imp λcg H Q bt=>by
  obtain⟨Z,g,ρ,s,R,h⟩:=bt;simp only[aS,dJ] at h;exact fq hP s R (.refl _ _) h λx g1 bU H1 v1 e1 R1 r1 h=>fq hP (s.ext e1) R1 e1 h λy g2 eW H2 v2 e2 R2 r2 h =>
   ⟨x,y,g2,eW,R2,r1.ext e2,r2,u4 (λd g' h=>h.ext (e1.trans e2)) h⟩
theorem Sn{op:CmpOp}(h:PT X e (DN (sR (r2 X.K (.cmp op)) (LE X.K Ξ (aS P ma)) (LE X.K Ξ (aS P mb))))):PT X e (LT X.K Ξ (cT P (.fS (.prim (.cmp op) (.cons ma (.cons mb .nil)))))) :=
 h.imp λcg H Q bt=>by
  obtain⟨Z,g,ρ,s,R,h⟩:=bt;simp only[cT,aS,dJ] at h;refine fq hP s R (.refl _ _) h λx g1 bU H1 v1 e1 R1 r1 h=>fq hP (s.ext e1) R1 e1 h λy g2 eW H2 v2 e2 R2 r2 h=>?_;obtain⟨d',g',h,q⟩:=h;obtain⟨x',y',t,ex,hc,rfl,rfl⟩:=id h;refine⟨x,y,g',eW,R2,r1.ext e2,r2,_,_,h,λbL H' v e' R' r'=>?_⟩;obtain⟨t',ht,q⟩:=q;rcases ht with⟨z,_⟩|z|⟨i,z,_⟩|⟨l,z,_⟩|⟨a,l,z,_⟩<;>cases z
  exact⟨_,r'.L8,q bL H' (e1.trans (e2.trans e')) R'⟩
theorem Ye{op:UnaryOp}(ha:PE X a (LE X.K Ξ (aS P ma))):PE X (.UnaryOp op a pos) (LE X.K Ξ (aS P (.prim (.un op) (.cons ma .nil)))) :=
 (XQ (XG op) ha).imp λcg H Q bt=>by
  obtain⟨Z,g,ρ,s,R,h⟩:=bt;simp only[aS,dJ] at h;exact fq hP s R (.refl _ _) h λx g1 bU H1 v1 e1 R1 r1 h=>⟨x,g1,bU,R1,r1,u4 (λd g' h=>h.ext e1) h⟩
theorem Lr{op iw:CmpOp}:∀cg H Q,LE X.K Ξ (aS P (.chain op iw ma mb mc)) cg H Q->BV (r2 X.K (.cmp op)) (r2 X.K (.cmp iw)) (LE X.K Ξ (aS P ma)) (LE X.K Ξ (aS P mb)) (LE X.K Ξ (aS P mc)) cg H Q:=λcg H Q bt=>by
 obtain⟨Z,g,ρ,s,R,h⟩:=bt;simp only[aS] at h;refine fq hP s R (.refl _ _) h λx g1 bU H1 v1 e1 R1 r1 h=>fq hP (s.ext e1) R1 e1 h λy g2 eW H2 v2 e2 R2 r2 h=>?_;refine⟨x,y,g2,eW,R2,r1.ext e2,r2,u4 (λd g3 h jr H3 v3 e3 R3 r3=>?_) h⟩;obtain⟨t,rfl,h⟩:=h;obtain rfl:=r3.L8;refine⟨t,rfl,?_⟩;cases t
 ·exact h jr H3 _ (e1.trans (e2.trans e3)) R3 (.bl _)
 ·exact fq hP (s.ext (e1.trans (e2.trans e3))) R3 (e1.trans (e2.trans e3)) h λz g4 qv H4 v4 e4 R4 r4 h =>
   ⟨y,z,g4,qv,R4,r2.ext (e3.trans e4),r4,u4 (λd g' h=>h.ext (e1.trans (e2.trans (e3.trans e4)))) h⟩
theorem a50{op iw:CmpOp}(hu:X.A.units+100<cLine)(ha:PE X a (LE X.K Ξ (aS P ma)))(hb:PE X b (LE X.K Ξ (aS P mb)))(hc:PE X c (LE X.K Ξ (aS P mc)))(hm:lastMarks [op,iw] [b,c]=false) :
  PE X (.Compare a [op,iw] [b,c] pos) (LE X.K Ξ (aS P (.chain op iw ma mb mc))):=(a77 (X9 hu op) (X9 hu iw) ha hb hc hm).imp (Lr hP)
theorem Vh{op iw:CmpOp}{Z:S}{g:G}{Q:Bool->G->Prop}{E:KX}(h:cT P (.fS (.chain op iw ma mb mc)) Z g Q E):aS P (.chain op iw ma mb mc) Z g (λd g'=>∃t,d=.bl t/\Q t g') E:=by
 have one:∀{o:CmpOp} {xs:List D} {g:G},cY (.cmp o) xs g (λd g1=>Z2 g1 d λb=>Q b g1)->cY (.cmp o) xs g λd g'=>∃t,d=.bl t/\Q t g':=by
  intro o xs g h;obtain⟨d',g',h,t',ht,q⟩:=h;obtain⟨x',y',t,ex,hc,rfl,rfl⟩:=id h;refine⟨_,_,h,t',?_,q⟩;rcases ht with⟨z,_⟩|z|⟨i,z,_⟩|⟨l,z,_⟩|⟨a,l,z,_⟩<;>first|exact z|cases z
 simp only[cT,aS] at h ⊢;refine b9 hP ma _ _ _ _ _ _ (λx g1 h=>b9 hP mb _ _ _ _ _ _ (λy g2 h=>u4 (λz g3 h=>?_) h) (λ_ _ z=>z) h) (λ_ _ z=>z) h;obtain⟨t,rfl,h⟩:=h;refine⟨t,rfl,?_⟩;cases t
 ·obtain⟨b,hb,q⟩:=(show Z2 g3 (.bl false) λb=>Q b g3 from h)
  rcases hb with⟨z,_⟩|z|⟨i,z,_⟩|⟨l,z,_⟩|⟨a,l,z,_⟩<;>first|(cases z;exact⟨_,rfl,q⟩)|cases z
 ·exact b9 hP mc _ _ _ _ _ _ (λw g4 h=>one h) (λ_ _ z=>z) h
theorem a37{op iw:CmpOp}(hu:X.A.units+100<cLine)(ha:PE X a (LE X.K Ξ (aS P ma)))(hb:PE X b (LE X.K Ξ (aS P mb)))(hc:PE X c (LE X.K Ξ (aS P mc)))(hm:lastMarks [op,iw] [b,c]=false) :
  PT X (.Compare a [op,iw] [b,c] pos) (LT X.K Ξ (cT P (.fS (.chain op iw ma mb mc)))) :=
 (a62 (X9 hu op) (X9 hu iw) ha hb hc hm).imp λcg H Q ⟨Z,g,ρ,s,R,h⟩ =>
  Lr hP cg H _ (fq hP s R (.refl _ _) (Vh hP h) λx g1 bU H1 v1 e1 R1 r1 h=>by
   obtain⟨t,rfl,h⟩:=h;exact ⟨t,r1.L8,h bU H1 e1 R1⟩)
theorem RN{rest:List Expr}(ha:PE X a (LE X.K Ξ (aS P ma)))(hb:PE X (.BoolOp .And (b::rest) pos) (LE X.K Ξ (aS P mb))):PE X (.BoolOp .And (a::b::rest) pos) (LE X.K Ξ (aS P (.eL ma mb))) :=
 (Rh ha hb).imp λcg H Q bt=>by
  obtain⟨Z,g,ρ,s,R,h⟩:=bt;simp only[aS] at h;refine fq hP s R (.refl _ _) h λx g1 bU H1 v1 e1 R1 r1 h=>?_;obtain⟨t,rfl,h⟩:=h;refine⟨t,r1.L8,?_⟩;cases t
  ·exact h bU H1 _ e1 R1 (.bl _)
  ·exact fq hP (s.ext e1) R1 e1 h λy g2 eW H2 v2 e2 R2 r2 h=>h eW H2 v2 (e1.trans e2) R2 r2
theorem Yd{rest:List Expr}(ha:PE X a (LE X.K Ξ (aS P ma)))(hb:PE X (.BoolOp .Or (b::rest) pos) (LE X.K Ξ (aS P mb))):PE X (.BoolOp .Or (a::b::rest) pos) (LE X.K Ξ (aS P (.kz ma mb))) :=
 (XO ha hb).imp λcg H Q bt=>by
  obtain⟨Z,g,ρ,s,R,h⟩:=bt;simp only[aS] at h;refine fq hP s R (.refl _ _) h λx g1 bU H1 v1 e1 R1 r1 h=>?_;obtain⟨t,rfl,h⟩:=h;refine⟨t,r1.L8,?_⟩;cases t
  ·exact fq hP (s.ext e1) R1 e1 h λy g2 eW H2 v2 e2 R2 r2 h=>h eW H2 v2 (e1.trans e2) R2 r2
  ·exact h bU H1 _ e1 R1 (.bl _)
theorem RV(ha:PE X a (LE X.K Ξ (aS P ma))):PE X (.UnaryOp .Not a pos) (LE X.K Ξ (aS P (.eX ma))) :=
 (Ro ha).imp λcg H Q bt=>by
  obtain⟨Z,g,ρ,s,R,h⟩:=bt;simp only[aS] at h;refine fq hP s R (.refl _ _) h λx g1 bU H1 v1 e1 R1 r1 h=>?_;obtain⟨t,rfl,h⟩:=h;exact⟨t,r1.L8,h bU H1 _ e1 R1 (.bl _)⟩
theorem RT(hc:PT X c (LT X.K Ξ (cT P mc)))(ha:PE X a (LE X.K Ξ (aS P ma)))(hb:PE X b (LE X.K Ξ (aS P mb))):PE X (.IfExp c a b pos) (LE X.K Ξ (aS P (.ite mc ma mb))) :=
 (a75 hc ha hb).imp λcg H Q bt=>by
  obtain⟨Z,g,ρ,s,R,h⟩:=bt;simp only[aS] at h;refine pj hP s R (.refl _ _) h λt g1 bU H1 e1 R1 h=>?_;cases t
  ·exact fq hP (s.ext e1) R1 e1 h λy g2 eW H2 v2 e2 R2 r2 h=>h eW H2 v2 (e1.trans e2) R2 r2
  ·exact fq hP (s.ext e1) R1 e1 h λy g2 eW H2 v2 e2 R2 r2 h=>h eW H2 v2 (e1.trans e2) R2 r2
theorem RX{es:List Expr}{gL:ME}{k:Nat}(h:PA X es (LA X.K Ξ (dJ P gL))):PE X (.Tuple es k pos) (LE X.K Ξ (aS P (.prim .tup gL))) :=
 (Rq h).imp λcg H Q bt=>by
  obtain⟨Z,g,ρ,s,R,h⟩:=bt;simp only[aS] at h;refine jF hP s R (.refl _ _) h λds g1 bU H1 vs e1 R1 r1 h=>?_;obtain⟨d',g',⟨hz,rfl,rfl⟩,q⟩:=h;exact⟨by rw[<- r1.length];exact n5 (aE hz (by decide)),λp hp=>(q.ext e1).tup R1 hp r1⟩
theorem RU{es:List Expr}{gL:ME}(h:PA X es (LA X.K Ξ (dJ P gL))):PE X (.List es pos) (LE X.K Ξ (aS P (.prim .lst gL))) :=
 (Rm h).imp λcg H Q bt=>by
  obtain⟨Z,g,ρ,s,R,h⟩:=bt;simp only[aS] at h;refine jF hP s R (.refl _ _) h λds g1 bU H1 vs e1 R1 r1 h=>?_;obtain⟨d',g',⟨hz,rfl,rfl⟩,q⟩:=h;exact⟨by rw[<- r1.length];exact n5 (aE hz (by decide)),λp hp=>(q.ext e1).new R1 hp r1⟩
theorem L0:PA X [] (LA X.K Ξ (dJ P .nil)) :=
 (X8 (X:=X)).imp λcg H Q bt=>by
  obtain⟨Z,g,ρ,s,R,h⟩:=bt;simp only[dJ] at h;exact h ρ H [] (.refl _ _) R .nil
theorem C3{es:List Expr}{gL:ME}(ha:PE X a (LE X.K Ξ (aS P ma)))(h:PA X es (LA X.K Ξ (dJ P gL)))(hs:starEach (a::es) X.env=(false,eval a X.env)::starEach es X.env):PA X (a::es) (LA X.K Ξ (dJ P (.cons ma gL))) :=
 (Q9 ha h hs).imp λcg H Q bt=>by
  obtain⟨Z,g,ρ,s,R,h⟩:=bt;simp only[dJ] at h;exact fq hP s R (.refl _ _) h λx g1 bU H1 v1 e1 R1 r1 h=>jF hP (s.ext e1) R1 e1 h λxs g2 eW H2 vs e2 R2 r2 h=>h eW H2 _ (e1.trans e2) R2 (.cons (r1.ext e2) r2)
theorem a43{p2:Pos}(ha:PE X a (LE X.K Ξ (aS P ma))):PE X (.Subscript a (.Slice none none none p2) pos) (LE X.K Ξ (aS P (.prim (.mS false false) (.cons ma .nil)))) :=
 (CP DL ha yO yO).imp λcg H Q bt=>by
  obtain⟨Z,g,ρ,s,R,h⟩:=bt;simp only[aS,dJ] at h;refine fq hP s R (.refl _ _) h λx g1 bU H1 v1 e1 R1 r1 h=>?_;obtain⟨d',g',⟨x',ex,h⟩,q⟩:=h;cases ex;exact⟨x,g1,bU,d',g',R1,r1,h,q.ext e1⟩
theorem a41{p2:Pos}(ha:PE X a (LE X.K Ξ (aS P ma)))(hb:PE X b (LE X.K Ξ (aS P mb))):PE X (.Subscript a (.Slice (some b) none none p2) pos) (LE X.K Ξ (aS P (.prim (.mS true false) (.cons ma (.cons mb .nil))))) :=
 (CP DL ha (KZ hb) yO).imp λcg H Q bt=>by
  obtain⟨Z,g,ρ,s,R,h⟩:=bt;simp only[aS,dJ] at h;refine fq hP s R (.refl _ _) h λx g1 bU H1 v1 e1 R1 r1 h=>fq hP (s.ext e1) R1 e1 h λy g2 eW H2 v2 e2 R2 r2 h=>?_;obtain⟨d',g',⟨x',i,ex,h⟩,q⟩:=h;cases ex;exact⟨i,r2.i8,x,g2,eW,d',g',R2,r1.ext e2,h,q.ext (e1.trans e2)⟩
theorem a42{p2:Pos}(ha:PE X a (LE X.K Ξ (aS P ma)))(hb:PE X b (LE X.K Ξ (aS P mb))):PE X (.Subscript a (.Slice none (some b) none p2) pos) (LE X.K Ξ (aS P (.prim (.mS false true) (.cons ma (.cons mb .nil))))) :=
 (CP DL ha yO (KZ hb)).imp λcg H Q bt=>by
  obtain⟨Z,g,ρ,s,R,h⟩:=bt;simp only[aS,dJ] at h;refine fq hP s R (.refl _ _) h λx g1 bU H1 v1 e1 R1 r1 h=>fq hP (s.ext e1) R1 e1 h λy g2 eW H2 v2 e2 R2 r2 h=>?_;obtain⟨d',g',⟨x',i,ex,h⟩,q⟩:=h;cases ex;exact⟨i,r2.i8,x,g2,eW,d',g',R2,r1.ext e2,h,q.ext (e1.trans e2)⟩
theorem So(ha:PE X a (LE X.K Ξ (aS P ma)))(he:∀whole,isTrue a X.env whole=(do let v <- whole;standAt a.pos;holding [v] (truthy v))):PT X a (LT X.K Ξ (cT P (.fS ma))) :=
 (a61 ha he).imp λcg H Q bt=>by
  obtain⟨Z,g,ρ,s,R,h⟩:=bt;simp only[cT] at h;refine fq hP s R (.refl _ _) h λx g1 bU H1 v1 e1 R1 r1 h=>?_;obtain⟨b,h1,h2⟩:=h;exact⟨b,SG R1 r1 h1,h2 bU H1 e1 R1⟩
theorem Sm(ha:PT X a (LT X.K Ξ (cT P ma))):PT X (.UnaryOp .Not a pos) (LT X.K Ξ (cT P (.eX ma))) :=
 (RD ha).imp λcg H Q bt=>by
  obtain⟨Z,g,ρ,s,R,h⟩:=bt;simp only[cT] at h;exact pj hP s R (.refl _ _) h λt g1 bU H1 e1 R1 h=>h bU H1 e1 R1
theorem Sr{rest:List Expr}(ha:PT X a (LT X.K Ξ (cT P ma)))(hb:PW X (.BoolOp .And (b::rest) pos) (LT X.K Ξ (cT P mb))):PW X (.BoolOp .And (a::b::rest) pos) (LT X.K Ξ (cT P (.eL ma mb))) :=
 (RE ha hb).imp λcg H Q bt=>by
  obtain⟨Z,g,ρ,s,R,h⟩:=bt;simp only[cT] at h;refine pj hP s R (.refl _ _) h λt g1 bU H1 e1 R1 h=>?_;cases t
  ·exact h bU H1 e1 R1
  ·exact pj hP (s.ext e1) R1 e1 h λt g2 eW H2 e2 R2 h=>h eW H2 (e1.trans e2) R2
theorem Yg{rest:List Expr}(ha:PT X a (LT X.K Ξ (cT P ma)))(hb:PW X (.BoolOp .Or (b::rest) pos) (LT X.K Ξ (cT P mb))):PW X (.BoolOp .Or (a::b::rest) pos) (LT X.K Ξ (cT P (.kz ma mb))) :=
 (XU ha hb).imp λcg H Q bt=>by
  obtain⟨Z,g,ρ,s,R,h⟩:=bt;simp only[cT] at h;refine pj hP s R (.refl _ _) h λt g1 bU H1 e1 R1 h=>?_;cases t
  ·exact pj hP (s.ext e1) R1 e1 h λt g2 eW H2 e2 R2 h=>h eW H2 (e1.trans e2) R2
  ·exact h bU H1 e1 R1
theorem UQ:lB X [] (LT X.K Ξ (cT P .no)) :=
 (Uq (X:=X)).imp λcg H Q bt=>by
  obtain⟨Z,g,ρ,s,R,h⟩:=bt;simp only[cT] at h;exact h ρ H (.refl _ _) R
theorem RO{x:Str}{v:Value}{es:List Expr}{gL:ME}{q:Pos}(hv:(∃id,v=.builtin id)\/∃T,v=.type T)(hc:l6 X v (rN X.K p))(hg:Gl X x)(hm:X.mg x=none)(hb:bootBuiltins x=some v)(ha:PA X (e::es) (LA X.K Ξ (dJ P gL)))(hn:x≠"__name__")(hd:(x==("__debug__":Str))=false)(fc:starEach (e::es) X.env=(false,eval e X.env)::starEach es X.env)(fX:(backTo pos (starEach es X.env)).any (·.1)=false):PE X (.Call (.Name x q) (e::es) [] pos) (LE X.K Ξ (aS P (.prim p gL))):=by
 have base:PE X (.Call (.Name x q) (e::es) [] pos) (zL (rN X.K p) (LA X.K Ξ (dJ P gL))):=by
  rcases hv with⟨id,rfl⟩|⟨T,rfl⟩
  ·exact Z8 hc hg hm hb ha hn hd fc fX
  ·exact P0 hc hg hm hb ha hn hd fc fX
 refine base.imp λcg H Q bt=>?_;obtain⟨Z,g,ρ,s,R,h⟩:=bt;simp only[aS] at h;exact jF hP s R (.refl _ _) h λxs g1 bU H1 vs e1 R1 r1 h=>⟨xs,g1,bU,R1,r1,u4 (λd g' h=>h.ext e1) h⟩
theorem UD{o:Expr}{es:List Expr}{mo gL:ME}{T:String}{name:Str}{id:String}{apos:Pos}(pa:PlainAttrs T)(slot:Slot T name id)(jy:typeOf (.builtin id)=pure (.type "method_descriptor"))(hm:lU X id (rM X.K p))(hk:∀{d:D} {v:V} {g:G} {ρ:List Addr} {H:Hp},Rl X.K ρ g H->d8 X.K ρ H d v->lN p d g->nT X.K T v H)(ho:PE X o (LE X.K Ξ (aS P mo)))(ha:PA X (e::es) (LA X.K Ξ (dJ P gL)))(gg:attributeBase o name X.env (eval o X.env)=eval o X.env)(kP:((backTo pos (starEach (e::es) X.env)).all (λx=>!x.1)&&(backToKw pos (keywordEach [] X.env)).all (λx=>x.1.isSome)&&decide ((e::es).length+([]:List Keyword).length+(if([]:List Keyword).isEmpty then 0 else 1)<30))=true)(gf:(apos.endLine==pos.line)=true)(hs:starEach (e::es) X.env=(false,eval e X.env)::starEach es X.env)(eY:(backTo pos (starEach es X.env)).any (·.1)=false) :
  PE X (.Call (.Attribute o name apos) (e::es) [] pos) (LE X.K Ξ (aS P (.dR p mo gL))) :=
 (XJ pa slot jy hm ho ha gg kP gf hs eY).imp λcg H Q bt=>by
  obtain⟨Z,g,ρ,s,R,h⟩:=bt;simp only[aS] at h;exact fq hP s R (.refl _ _) h λx g1 bU H1 v1 e1 R1 r1 h=>⟨hk R1 r1 h.1,jF hP (s.ext e1) R1 e1 h.2 λxs g2 eW H2 ws e2 R2 r2 h =>
   ⟨x,xs,g2,eW,R2,r1.ext e2,r2,u4 (λd g' h=>h.ext (e1.trans e2)) h⟩⟩
theorem a45{o:Expr}{mo:ME}{T:String}{name:Str}{id:String}{apos:Pos}(pa:PlainAttrs T)(slot:Slot T name id)(jy:typeOf (.builtin id)=pure (.type "method_descriptor"))(hm:lU X id (rM X.K p))(hk:∀{d:D} {v:V} {g:G} {ρ:List Addr} {H:Hp},Rl X.K ρ g H->d8 X.K ρ H d v->lN p d g->nT X.K T v H)(ho:PE X o (LE X.K Ξ (aS P mo)))(gg:attributeBase o name X.env (eval o X.env)=eval o X.env)(gf:(apos.endLine==pos.line)=true) :
  PE X (.Call (.Attribute o name apos) [] [] pos) (LE X.K Ξ (aS P (.dR p mo .nil))) :=
 (Ri pa slot jy hm ho gg gf).imp λcg H Q bt=>by
  obtain⟨Z,g,ρ,s,R,h⟩:=bt;simp only[aS,dJ] at h;exact fq hP s R (.refl _ _) h λx g1 bU H1 v1 e1 R1 r1 h=>⟨hk R1 r1 h.1,x,[],g1,bU,R1,r1,.nil,u4 (λd g' h=>h.ext e1) h.2⟩
omit hP in
theorem Lx{K ρ H}{d:D}{v:V}(r:d8 K ρ H d v)(h:yh d=true):v=toV d/\L7 v=true:=by
 cases r with
 |bQ=>exact⟨rfl,rfl⟩
 |bl _=>exact⟨rfl,rfl⟩
 |int _=>exact⟨rfl,rfl⟩
 |str _=>exact⟨rfl,rfl⟩
 |ty _=>exact absurd h bG
 |ref _=>exact absurd h bG
 |tup _ _=>exact absurd h bG
omit hP in
theorem Zq{K ρ H}{l:List D}{vs:List V}(r:c6 K ρ H l vs)(h:l.all yh=true):vs=l.map toV/\vs.all L7=true:=by
 induction l generalizing vs with
 |nil=>cases r;exact⟨rfl,rfl⟩
 |cons d l ih =>
  cases r with
  |cons rd rs =>
   rw[jQ,aU] at h;obtain⟨e1,f1⟩:=Lx rd h.1;obtain⟨e2,f2⟩:=ih rs h.2;subst e1 e2;exact⟨rfl,by rw[jQ,f1,f2];rfl⟩
omit hP in
theorem IZ{K ρ H}{l:List D}{vs:List V}{y:D}{w:V}{n:Nat}(r:c6 K ρ H l vs)(ry:d8 K ρ H y w)(h:DW l y n):yB vs w n:=by
 obtain⟨h1,h2,⟨z,h3,h4⟩,h5⟩:=h;obtain⟨e1,f1⟩:=Zq r h1;obtain⟨e2,f2⟩:=Lx ry h2;subst e1 e2;refine⟨f1,f2,⟨toV z,by rw[ai,h3];rfl,h4⟩,λm z' hm hz=>?_⟩;rw[ai,aa] at hz;obtain⟨MB,hz,rfl⟩:=hz;exact h5 m MB hm hz
theorem a49{o:Expr}{es:List Expr}{mo gL:ME}{apos:Pos}(ho:PE X o (LE X.K Ξ (aS P mo)))(ha:PA X (e::es) (LA X.K Ξ (dJ P gL)))(gg:attributeBase o "index" X.env (eval o X.env)=eval o X.env)(kP:((backTo pos (starEach (e::es) X.env)).all (λx=>!x.1)&&(backToKw pos (keywordEach [] X.env)).all (λx=>x.1.isSome)&&decide ((e::es).length+([]:List Keyword).length+(if([]:List Keyword).isEmpty then 0 else 1)<30))=true)(gf:(apos.endLine==pos.line)=true)(hs:starEach (e::es) X.env=(false,eval e X.env)::starEach es X.env)(eY:(backTo pos (starEach es X.env)).any (·.1)=false) :
  PE X (.Call (.Attribute o "index" apos) (e::es) [] pos) (LE X.K Ξ (aS P (.dR .index mo gL))) :=
 (a74 ho ha gg kP gf hs eY).imp λcg H Q bt=>by
  obtain⟨Z,g,ρ,s,R,h⟩:=bt;simp only[aS] at h;refine fq hP s R (.refl _ _) h λx g1 bU H1 v1 e1 R1 r1 h=>?_;obtain⟨hk,h⟩:=h;rcases hk with⟨l,rfl⟩|⟨a,l,rfl,hl⟩
  ·obtain⟨a',vs,rfl,ta,rs⟩:=r1.J8;refine .inr ⟨a',vs,rfl,ta.d,jF hP (s.ext e1) R1 e1 h λxs g2 eW H2 ws e2 R2 r2 h=>?_⟩;obtain⟨d',g',⟨x,y,l',n,ex,hi,W,hz,rfl,rfl⟩,q⟩:=h;cases ex;cases hi;obtain⟨w,rfl,fJ⟩:=r2.one;exact⟨a',vs,w,n,rfl,rfl,(ta.ext e2).sq,IZ (rs.ext e2) fJ W,(q.ext (e1.trans e2)).now R2 (.int n)⟩
  ·obtain⟨a',rfl,ra⟩:=r1.j6;obtain⟨vs,hq,_⟩:=R1.items hl ra;refine .inl ⟨a',vs,rfl,hq,jF hP (s.ext e1) R1 e1 h λxs g2 eW H2 ws e2 R2 r2 h=>?_⟩;obtain⟨d',g',⟨x,y,l',n,ex,hi,W,hz,rfl,rfl⟩,q⟩:=h;cases ex;obtain⟨w,rfl,fJ⟩:=r2.one;obtain⟨zH,NT,qI⟩:=R2.items (show d0 _ a=some l' from hi) (e2.get ra);have hn:n<2 ^ 62:=by
    obtain⟨_,_,⟨z,FL,_⟩,_⟩:=W;have:=(aj.mp FL).1;omega
   exact⟨a',zH,w,n,rfl,rfl,NT,IZ qI fJ W,hn,(q.ext (e1.trans e2)).now R2 (.int n)⟩
theorem a48{q p2 jH:Pos}(hc:X.calm=true)(ha:PE X a (LE X.K Ξ (aS P ma)))(nA:Gl X "list")(lP:X.mg "list"=none)(hg:Gl X "range")(hm:X.mg "range"=none)(hs:starEach [a] X.env=[(false,eval a X.env)]) :
  PE X (.Call (.Name "list" p2) [.Call (.Name "range" q) [a] [] pos] [] jH) (LE X.K Ξ (aS P (.prim .jc (.cons ma .nil)))) :=
 (P0 (Kb hc) nA lP (by first|exact fg|decide +kernel) (Q9 (ZS hg hm (C3 hP ha (L0 hP) (by rw[hs];rfl)) hs) X8)).imp λcg H Q bt=>by
  obtain⟨Z,g,ρ,s,R,h⟩:=bt;simp only[aS] at h;refine jF hP s R (.refl _ _) h λxs g1 bU H1 vs e1 R1 r1 h=>?_;obtain⟨d',g',⟨j,rfl,h1,h2,rfl,rfl⟩,q⟩:=h;obtain⟨v,rfl,rv⟩:=r1.one;obtain rfl:=rv.i8;refine⟨j,rfl,λq' hq=>⟨q',0,j,rfl,u3,⟨by omega,by omega,h1,by omega,by omega⟩,λp hp=>?_⟩⟩;rw[show(j-0).toNat=j.toNat by omega];exact(q.ext (e1.trans (B8 hq))).new (R1.grow hq) hp (c6.ml 0 _)
theorem a47{q p2 jH:Pos}(hc:X.calm=true)(ha:PE X a (LE X.K Ξ (aS P ma)))(hb:PE X b (LE X.K Ξ (aS P mb)))(nA:Gl X "list")(lP:X.mg "list"=none)(hg:Gl X "range")(hm:X.mg "range"=none)(hs:starEach [a,b] X.env=[(false,eval a X.env),(false,eval b X.env)])(jm:starEach [b] X.env=[(false,eval b X.env)]) :
  PE X (.Call (.Name "list" p2) [.Call (.Name "range" q) [a,b] [] pos] [] jH) (LE X.K Ξ (aS P (.prim .ki (.cons ma (.cons mb .nil))))) :=
 (P0 (Kb hc) nA lP (by first|exact fg|decide +kernel) (Q9 (ZT hg hm (C3 hP ha (C3 hP hb (L0 hP) (by rw[jm];rfl)) (by rw[hs,jm])) hs jm) X8)).imp λcg H Q bt=>by
  obtain⟨Z,g,ρ,s,R,h⟩:=bt;simp only[aS] at h;refine jF hP s R (.refl _ _) h λxs g1 bU H1 vs e1 R1 r1 h=>?_;obtain⟨d',g',⟨i,j,rfl,hb,rfl,rfl⟩,q⟩:=h;obtain⟨v,w,rfl,rv,fJ⟩:=r1.two;obtain rfl:=rv.i8;obtain rfl:=fJ.i8;exact⟨i,j,rfl,λq' hq=>⟨q',i,j,rfl,u3,hb,λp hp=>(q.ext (e1.trans (B8 hq))).new (R1.grow hq) hp (c6.ml i _)⟩⟩
theorem UG{q p2 jH:Pos}(hc:X.calm=true)(ha:PE X a (LE X.K Ξ (aS P ma)))(nA:Gl X "sorted")(lP:X.mg "sorted"=none)(hg:Gl X "set")(hm:X.mg "set"=none)(hs:starEach [a] X.env=[(false,eval a X.env)]) :
  PE X (.Call (.Name "sorted" p2) [.Call (.Name "set" q) [a] [] pos] [] jH) (LE X.K Ξ (aS P (.prim .sset (.cons ma .nil)))) :=
 (Z8 (V5 hc) nA lP (by first|exact gX|decide +kernel) (Q9 (P0 (JY hc) hg hm (by first|exact xb|decide +kernel) (C3 hP ha (L0 hP) (by rw[hs];rfl)) (by decide) (by decide) (by rw[hs];rfl) rfl) X8)).imp λcg H Q bt=>by
  obtain⟨Z,g,ρ,s,R,h⟩:=bt;simp only[aS] at h;refine jF hP s R (.refl _ _) h λxs g1 bU H1 vs e1 R1 r1 h=>?_;obtain⟨d',g',⟨i,ns,rfl,hl,hz,rfl,rfl⟩,q⟩:=h;obtain⟨v,rfl,rv⟩:=r1.one;obtain⟨a',rfl,ra⟩:=rv.j6;obtain⟨ws,hq,rs⟩:=R1.items hl ra;obtain rfl:=rs.ints;refine⟨_,ns,rfl,hq,hz,λq' nu=>⟨q',ns,rfl,u3,hz,λp hp=>?_⟩⟩;exact(q.ext (e1.trans (B8 nu))).new (R1.grow nu) hp (c6.ofInts _)
theorem UB{q p2 jH:Pos}(hc:X.calm=true)(ha:PE X a (LE X.K Ξ (aS P ma)))(nA:Gl X "len")(lP:X.mg "len"=none)(hg:Gl X "set")(hm:X.mg "set"=none)(hs:starEach [a] X.env=[(false,eval a X.env)]) :
  PE X (.Call (.Name "len" p2) [.Call (.Name "set" q) [a] [] pos] [] jH) (LE X.K Ξ (aS P (.prim .tQ (.cons ma .nil)))) :=
 (Z8 YR nA lP PySem.boot_len (Q9 (P0 (JY hc) hg hm (by first|exact xb|decide +kernel) (C3 hP ha (L0 hP) (by rw[hs];rfl)) (by decide) (by decide) (by rw[hs];rfl) rfl) X8)).imp λcg H Q bt=>by
  obtain⟨Z,g,ρ,s,R,h⟩:=bt;simp only[aS] at h;refine jF hP s R (.refl _ _) h λxs g1 bU H1 vs e1 R1 r1 h=>?_;obtain⟨d',g',⟨i,ns,rfl,hl,hz,rfl,rfl⟩,q⟩:=h;obtain⟨v,rfl,rv⟩:=r1.one;obtain⟨a',rfl,ra⟩:=rv.j6;obtain⟨ws,hq,rs⟩:=R1.items hl ra;obtain rfl:=rs.ints;refine⟨_,ns,rfl,hq,hz,λq' nu=>⟨q',_,rfl,u3,?_⟩⟩;exact(q.ext (e1.trans (B8 nu))).now (R1.grow nu) (.int _)
theorem UE{i:Int}{j:Nat}{q:Pos}(nC:PySem.W.kdsCode X.K X.env.code=true):PE X (.Set [.Constant (.int i) j q] 0 pos) (LE X.K Ξ (aS P (.prim (.kc i) .nil))) :=
 (Uh nC).imp λcg H Q bt=>by
  obtain⟨Z,g,ρ,s,R,h⟩:=bt;simp only[aS,dJ] at h;obtain⟨d',g',⟨_,rfl,rfl⟩,q⟩:=h;exact λp hp=>q (ρ++[p]) _ _ (F6 hp) (R.new hp (o:=.set (λk=>decide (k=i)) 1) (u:=.set (λk=>decide (k=i)) 1) ⟨rfl,rfl⟩) (.ref (R.B0 p))
theorem RQ{f:Str}(ha:PE X a (LE X.K Ξ (aS P ma)))(hb:attributeBase a f X.env (eval a X.env)=eval a X.env):PE X (.Attribute a f pos) (LE X.K Ξ (aS P (.prim (.fld f) (.cons ma .nil)))) :=
 (Rj ha hb).imp λcg H Q bt=>by
  obtain⟨Z,g,ρ,s,R,h⟩:=bt;simp only[aS,dJ] at h;refine fq hP s R (.refl _ _) h λx g1 bU H1 v1 e1 R1 r1 h=>?_;obtain⟨d',g',⟨i,c,fs,ex,hi,hf,rfl⟩,q⟩:=h;cases ex;obtain⟨a',rfl,ra⟩:=r1.j6;obtain⟨C,dx,vs,hH,_,hC,rk,na⟩:=R1.ins hi ra;have lk:=rk.look f;rw[hf] at lk;obtain⟨v,hv,rv⟩:=lk.some;exact⟨a',C,dx,vs,v,rfl,hH,hC,na _ (aQ hf),hv,q bU H1 v e1 R1 rv⟩
end
section
variable{X:Cx}{Ξ:iM}{P:fH}{a b c:Expr}{ma mb mc:ME}{pos:Pos}
theorem RY{i:Nat}{x:Str}(hN:X.N[i]?=some x)(hv:wQ X.env.scope x)(hd:(x==("__debug__":Str))=false)(kn:(x==("__classdict__":Str))=false):PE X (.Name x pos) (LE X.K Ξ (aS P (.var i))) :=
 (Rt hN hv hd kn).imp λcg H Q bt=>by
  obtain⟨Z,g,ρ,s,R,h⟩:=bt;simp only[aS] at h;obtain⟨d,e,h⟩:=h;obtain⟨v,h1,h2⟩:=s.val _ _ e;exact⟨v,h1,h.now R h2⟩
theorem S0{e:Expr}{d:D}{v:V}(h:PE X e (tC v))(r:∀ρ H,d8 X.K ρ H d v):PE X e (LE X.K Ξ (aS P (.lit d))) :=
 h.imp λcg H Q bt=>by
  obtain⟨Z,g,ρ,s,R,h⟩:=bt;simp only[aS] at h;exact LQ.now h R (r ρ H)
theorem Uy:PE X (.Dict [] [] pos) (LE X.K Ξ (aS P (.prim .oV .nil))) :=
 (a76 (X:=X)).imp λcg H Q ⟨Z,g,ρ,s,R,h⟩ p hp=>by
  simp only[aS,dJ] at h;obtain⟨d',g',⟨_,rfl,rfl⟩,q⟩:=h;exact q (ρ++[p]) _ _ (F6 hp) (R.new hp (o:=.dD []) (u:=.dK []) i9.nil) (.ref (R.B0 p))
end
end M

namespace L2
open PySem PySem.Spec PyProof.Rows
section
variable{X:Cx}{m:Str}{pos apos:Pos}{e o:Expr}{es:List Expr}{ta:TE}{t:TA}
end
end L2
namespace M
open PySem L2 PySem.Spec PyProof.Rows
inductive qe(K:PySem.W.Frag):List D->List (Str×V)->Prop
 |nil:qe K [] []
 |cons {x:Str} {d:D} {v:V} {ds:List D} {vs:List (Str×V)} (h:∀ρ H,d8 K ρ H d v) (r:qe K ds vs):qe K (.tup [.str x,d]::ds) ((x,v)::vs)
theorem qe.look{K:PySem.W.Frag}{ρ:List Addr}{H:Hp}{ds vs}(x:Str)(h:qe K ds vs):sx K ρ H (O5 ds x) (vs.lookup x):=by
 induction h with
 |nil=>trivial
 |cons h r ih =>
  rename_i y d v ds vs;unfold O5;rw[cQ];by_cases e:x=y
  ·rw[aK e,show(x==y)=true from by simp[e]];exact h ρ H
  ·rw[aD e,show(x==y)=false from by simpa using e];exact ih
def yc(X:Cx)(x:Str)(kvs:List D):Prop:=∃A vs,X.mg x=some (.ref A)/\wu X.K X.w.params A vs/\qe X.K kvs vs
def yi(neg:Bool):Pr:=if neg then .vO else .GK
theorem KL{neg:Bool}:PR (yi neg)=En neg:=by cases neg<;>rfl
theorem aT9(a b c:Str):a++b++c=a++(b++c):=by
 cases a;cases b;cases c;show Str.mk _=Str.mk _;exact dt Str.mk (Mx ..)
theorem UP(x:Str):x++Str.empty=x:=by cases x;show Str.mk _=_;simp[Str.empty]
theorem TJ(x:Str):Str.empty++x=x:=by cases x;show Str.mk _=_;simp[Str.empty]
section
variable{X:Cx}{Ξ:iM}{P:fH}(hP:i7 P){a b c:Expr}{ma mb mc:ME}{pos:Pos}
include hP
theorem RS{x:Str}{p:Pos}{kvs:List D}{neg:Bool}(hg:Gl X x)(hd:(x==("__debug__":Str))=false)(hG:yc X x kvs)(ha:PE X a (LE X.K Ξ (aS P ma)))(hm:behindInMarks (if neg then .NotIn else .In) (.Name x p)=false) :
  PE X (.Compare a [if neg then .NotIn else .In] [.Name x p] pos) (LE X.K Ξ (aS P (.prim (yi neg) (.cons (.lit (.tup kvs)) (.cons ma .nil))))):=by
 obtain⟨A,vs,hmg,hk,gr⟩:=hG;refine(KU (Kn (kvs:=vs) neg) ha (yN (v:=.ref A) hg hmg rfl hd) hm).imp λcg H Q bt=>?_;obtain⟨Z,g,ρ,s,R,h⟩:=bt;simp only[aS,dJ] at h;refine fq hP s R (.refl _ _) h λd g1 bU H1 v1 e1 R1 r1 h=>?_;obtain⟨d',g',h,q⟩:=h;rw[KL] at h;obtain⟨iK,z,ex,rfl,rfl⟩:=h;cases ex;obtain rfl:=r1.E4;refine⟨A,z,rfl,hk,rfl,?_⟩;rw[<- (gr.look (ρ:=bU) (H:=H1) z).isSome];exact q bU H1 _ e1 R1 (.bl _)
theorem Sk{x:Str}{p:Pos}{kvs:List D}{neg:Bool}(hg:Gl X x)(hd:(x==("__debug__":Str))=false)(hG:yc X x kvs)(ha:PE X a (LE X.K Ξ (aS P ma)))(hm:behindInMarks (if neg then .NotIn else .In) (.Name x p)=false) :
  PT X (.Compare a [if neg then .NotIn else .In] [.Name x p] pos) (LT X.K Ξ (cT P (.fS (.prim (yi neg) (.cons (.lit (.tup kvs)) (.cons ma .nil)))))):=by
 obtain⟨A,vs,hmg,hk,gr⟩:=hG;refine(La (Kn (kvs:=vs) neg) ha (yN (v:=.ref A) hg hmg rfl hd) hm).imp λcg H Q bt=>?_;obtain⟨Z,g,ρ,s,R,h⟩:=bt;simp only[cT,aS,dJ] at h;refine fq hP s R (.refl _ _) h λd g1 bU H1 v1 e1 R1 r1 h=>?_;obtain⟨d',g',h,t,ht,q⟩:=h;rw[KL] at h;obtain⟨iK,z,ex,rfl,rfl⟩:=h;cases ex;obtain rfl:=r1.E4;refine⟨A,z,rfl,hk,rfl,t,?_,q bU H1 e1 R1⟩;rw[<- (gr.look (ρ:=bU) (H:=H1) z).isSome];rcases ht with⟨z,_⟩|z|⟨i,z,_⟩|⟨l,z,_⟩|⟨a,l,z,_⟩<;>cases z
 rfl
theorem UA{x:Str}{p:Pos}{kvs:List D}(hg:Gl X x)(hd:(x==("__debug__":Str))=false)(hG:yc X x kvs)(ha:PE X a (LE X.K Ξ (aS P ma)))(hs:Cd a):PE X (.Subscript (.Name x p) a pos) (LE X.K Ξ (aS P (.prim .nK (.cons (.lit (.tup kvs)) (.cons ma .nil))))):=by
 obtain⟨A,vs,hmg,hk,gr⟩:=hG;refine(Ij (Xj (kvs:=vs)) (yN (v:=.ref A) hg hmg rfl hd) ha hs).imp λcg H Q bt=>?_;obtain⟨Z,g,ρ,s,R,h⟩:=bt;simp only[aS,dJ] at h;refine fq hP s R (.refl _ _) h λd g1 bU H1 v1 e1 R1 r1 h=>?_;obtain⟨d',g',⟨iK,z,ex,hz,rfl⟩,q⟩:=h;cases ex;obtain rfl:=r1.E4;have lk:=gr.look (ρ:=bU) (H:=H1) z;rw[hz] at lk;obtain⟨w,hw,lk⟩:=lk.some;exact⟨A,z,w,rfl,hk,rfl,hw,q bU H1 _ e1 R1 lk⟩
theorem Yc(ha:PE X a (LE X.K Ξ (aS P ma))):PE X (.FormattedValue a (-1) none pos) (LE X.K Ξ (aS P (.prim .fv (.cons ma .nil)))) :=
 (XM ha).imp λcg H Q bt=>by
  obtain⟨Z,g,ρ,s,R,h⟩:=bt;simp only[aS,dJ] at h;refine fq hP s R (.refl _ _) h λd g1 bU H1 v1 e1 R1 r1 h=>?_;obtain⟨d',g',⟨rfl,h⟩,q⟩:=h;rcases h with⟨i,ex,h1,rfl⟩|⟨z,ex,h1,rfl⟩
  ·cases ex;exact .inl ⟨i,r1.i8,h1,q bU H1 _ e1 R1 (.str _)⟩
  ·cases ex;exact .inr ⟨z,r1.E4,n5 (by omega),q bU H1 _ e1 R1 (.str _)⟩
omit hP in
inductive mF(X:Cx)(Ξ:iM)(P:fH):List Expr->ME->List TE->Prop
 |nil:mF X Ξ P [] .nil []
 |lit {x:Str} {j:Nat} {p:Pos} {es:List Expr} {ms:ME} {ts:List TE} (hx:x.length<=2000) (r:mF X Ξ P es ms ts):mF X Ξ P (.Constant (.str x) j p::es) (.cons (.lit (.str x)) ms) (LE X.K Ξ (aS P (.lit (.str x)))::ts)
 |val {e:Expr} {m:ME} {p:Pos} {es:List Expr} {ms:ME} {ts:List TE} (he:PE X e (LE X.K Ξ (aS P m))) (r:mF X Ξ P es ms ts):mF X Ξ P (.FormattedValue e (-1) none p::es) (.cons (.prim .fv (.cons m .nil)) ms) (LE X.K Ξ (aS P (.prim .fv (.cons m .nil)))::ts)
theorem mF.Nh{es ms ts}(h:mF X Ξ P es ms ts):ua X es ts:=by
 induction h with
 |nil=>exact .nil
 |lit hx r ih=>exact .cons (S0 Ko λ_ _=>.str _) ih
 |val he r ih=>exact .cons (Yc hP he) ih
theorem mF.join{cg:L2.St}{Q:Str->Hp->Prop}{es ms ts}(hf:mF X Ξ P es ms ts):∀{Z:S} {g:G} {ρ:List Addr} {H:Hp} {acc:Str},acc.length+2000*es.length<=100000->o8 X.K ρ H Z cg->Rl X.K ρ g H ->
  dJ P ms Z g (λds g1=>∃x,V3 ds=some x/\∀bL H',Ext ρ H bL H'->Rl X.K bL g1 H'->Q (acc++x) H') (LX X.K ρ H Ξ)->yp ts cg H acc (λout H1=>out.length<=sizeLine/\Q out H1):=by
 have tl:∀{acc y:Str} {ρ:List Addr} {H:Hp} {bU:List Addr} {H1:Hp} {ds:List D} {g1:G},Ext ρ H bU H1->(∃x,V3 (.str y::ds)=some x/\∀bL H',Ext ρ H bL H'->Rl X.K bL g1 H'->Q (acc++x) H')->∃x,V3 ds=some x/\∀bL H',Ext bU H1 bL H'->Rl X.K bL g1 H'->Q (acc++y++x) H':=by
  intro acc y ρ H bU H1 ds g1 e1 h;obtain⟨x,hx,h⟩:=h;simp only[V3] at hx;cases hj:V3 ds with
  |none=>rw[hj] at hx;cases hx
  |some x' =>
   rw[hj] at hx;cases hx;refine⟨x',rfl,λbL H' e' R'=>?_⟩;rw[aT9];exact h bL H' (e1.trans e') R'
 induction hf with
 |nil =>
  intro Z g ρ H acc ha s R h;simp only[dJ] at h;obtain⟨x,hx,h⟩:=h;cases hx;rw[UP] at h;exact⟨n5 (by simpa using ha),h ρ H (.refl _ _) R⟩
 |lit hx r ih =>
  rename_i y j p es ms ts;intro Z g ρ H acc ha s R h;simp only[dJ,aS] at h;refine⟨Z,g,ρ,s,R,?_⟩;simp only[aS];intro bU H1 v1 e1 R1 r1;obtain rfl:=r1.E4;have hl:(acc++y).length<=acc.length+2000:=by rw[strLen_append];omega
  simp only[List.length_cons] at ha;exact⟨y,rfl,n5 (by omega),ih (by omega) (s.ext e1) R1 (A1 hP _ _ _ _ _ _ _ (λds g1 h=>tl e1 h) (λ_ _ z=>LX.ext e1 z) h)⟩
 |val he r ih =>
  rename_i e m p es ms ts;intro Z g ρ H acc ha s R h;simp only[dJ,aS] at h;refine⟨Z,g,ρ,s,R,?_⟩;simp only[aS,dJ];simp only[List.length_cons] at ha;refine b9 hP m _ _ _ _ _ _ (λd g1 h=>?_) (λ_ _ z=>z) h;obtain⟨d',g',⟨rfl,h⟩,q⟩:=h;have hy:∃y,d'=.str y/\y.length<=2000:=by
   rcases h with⟨i,ex,h1,rfl⟩|⟨z,ex,h1,rfl⟩
   ·exact⟨_,rfl,by rw[PySem.ofString_length];have:=int_text_length_le (k:=1920) (by decide) h1;omega⟩
   ·exact⟨z,rfl,h1⟩
  obtain⟨y,rfl,hy⟩:=hy;refine⟨_,_,⟨rfl,h⟩,λbU H1 v1 e1 R1 r1=>?_⟩;obtain rfl:=r1.E4;have hl:(acc++y).length<=acc.length+2000:=by rw[strLen_append];omega
  exact⟨y,rfl,n5 (by omega),ih (by omega) (s.ext e1) R1 (A1 hP _ _ _ _ _ _ _ (λds g1 h=>tl e1 h) (λ_ _ z=>LX.ext e1 z) q)⟩
theorem Uz{lI lH:Expr}{rest:List Expr}{ms:ME}{ts:List TE}(h:mF X Ξ P (lI::lH::rest) ms ts)(hl:(lI::lH::rest).length<=40):PE X (.JoinedStr (lI::lH::rest) pos) (LE X.K Ξ (aS P (.prim .lR ms))) :=
 (Ue (h.Nh hP)).imp λcg H Q bt=>by
  obtain⟨Z,g,ρ,s,R,hw⟩:=bt;simp only[aS] at hw;refine mF.join hP h (Q:=λout H1=>Q (.str out) H1) (acc:=Str.empty) ?_ s R (A1 hP ms _ _ _ _ _ _ (λds g1 hw=>?_) (λ_ _ z=>z) hw)
  ·have:Str.empty.length=0:=rfl;omega
  ·obtain⟨d',g',⟨x,hx,rfl,rfl⟩,q⟩:=hw;refine⟨x,hx,λbL H' e' R'=>?_⟩;rw[TJ];exact q bL H' _ e' R' (.str _)
omit hP in
def pD(ex:List Str)(K:PySem.W.Frag)(n:Nat)(t:List D->G->KD->KX->Prop):Sp:=λvs H Q E=>vs.length=n/\∃ds g ρ,c6 K ρ H ds vs/\Rl K ρ g H/\t ds g (LQ K ρ H Q) (LX K ρ H (ex,E))
omit hP in
def qo(X:Cx)(P:fH)(ex:List Str)(k f:Nat)(fa:Addr)(fd:FuncData)(ps:List Str):Prop :=
 iN X.prog X.w X.K X.mg X.base (jv X.prog X.w) k fa fd ps (pD ex X.K ps.length (P f))/\Binds X.K fd ps []/\∀ds g Q E,P f ds g Q E->ds.length=ps.length
theorem Io{k f:Nat}{fa:Addr}{fd:FuncData}{ps:List Str}(F:qo X P Ξ.1 k f fa fd ps){ρ fV:List Addr}{H H0:Hp}{g:G}{xs:List D}{vs:List V}{Q0:KD}{Q:VK}(e0:Ext fV H0 ρ H)(R:Rl X.K ρ g H)(r:c6 X.K ρ H xs vs)(h:P f xs g Q0 (LX X.K fV H0 Ξ))(k:∀d g',Q0 d g'->LQ X.K ρ H Q d g'):pD Ξ.1 X.K ps.length (P f) (vs++[]) H Q Ξ.2:=by
 rw[cF];exact⟨by rw[<- r.length];exact F.2.2 _ _ _ _ h,xs,g,ρ,r,R,hP _ _ _ _ _ _ _ k (λ_ _ z=>LX.ext e0 z) h⟩
theorem Ux{k f:Nat}{x:Str}{fa:Addr}{fd:FuncData}{ps:List Str}{es:List Expr}{e:Expr}{gL:ME}{p:Pos}(hx:Passes (jv X.prog X.w) X Ξ.2)(F:qo X P Ξ.1 k f fa fd ps)(hr:x6 k X.A)(hg:Gl X x)(hm:X.mg x=some (.ref fa))(hk:PySem.W.keepIn X.K (.ref fa)=true)(ha:PA X (e::es) (LA X.K Ξ (dJ P gL)))(hd:(x==("__debug__":Str))=false)(fc:starEach (e::es) X.env=(false,eval e X.env)::starEach es X.env)(fX:(backTo pos (starEach es X.env)).any (·.1)=false):PE X (.Call (.Name x p) (e::es) [] pos) (LE X.K Ξ (aS P (.call f gL))) :=
 (Uc F.1 hr hg hm hk F.2.1 .nil hx ha hd fc fX).imp λcg H Q bt=>by
  obtain⟨Z,g,ρ,s,R,h⟩:=bt;simp only[aS] at h;exact jF hP s R (.refl _ _) h λxs g1 bU H1 vs e1 R1 r1 h=>Io hP F e1 R1 r1 h λd g' h=>h.ext e1
theorem KQ{c:Str}{f k:Nat}{C fa:Addr}{fd:FuncData}{ps:List Str}(F:qo X P Ξ.1 k f fa fd ps)(hC:v7 X.K c C)(hc:jU X.K C){ρ fV:List Addr}{H H0:Hp}{g1:G}{xs:List D}{vs:List V}{Q:VK}(e0:Ext fV H0 ρ H)(R:Rl X.K ρ g1 H)(r:c6 X.K ρ H xs vs)(h:P f (.ref g1.length::xs) (g1++[.ins c []]) (λd g2=>d=.bQ/\LQ X.K fV H0 Q (.ref g1.length) g2) (LX X.K fV H0 Ξ)):∀x dx,H x=none->H dx=none->dx≠x->pD Ξ.1 X.K ps.length (P f) (.ref x::(vs++[])) (upd (upd H dx (.own x)) x (.ins C dx [])) (λv H2=>v=.bQ/\Q (.ref x) H2) Ξ.2:=by
 intro x dx hx Gw dF;have pI:upd H dx (.own x) x=none:=by rw[f9 (bT dF)];exact hx
 have R2:=R.grow (o:=.own x) Gw;have e2:Ext ρ H ρ (upd H dx (.own x)):=B8 Gw;have R3:=R2.new (o:=.ins c []) (u:=.ins C dx []) pI ⟨hC,hc,.nil,λx hx=>absurd hx (by simp)⟩;have e3:Ext ρ (upd H dx (.own x)) (ρ++[x]) (upd (upd H dx (.own x)) x (.ins C dx [])):=F6 pI;have:=Io hP F (e0.trans (e2.trans e3)) R3 (.cons (.ref (R.B0 x)) (r.ext (e2.trans e3))) h (Q:=λv H2=>v=.bQ/\Q (.ref x) H2) λd g' q bL H' v e' R' r'=>by
  obtain⟨rfl,q⟩:=q;exact⟨r'.yx,q bL H' _ (e0.trans (e2.trans (e3.trans e'))) R' (.ref (e'.get (R.B0 x)))⟩
 exact this
theorem UC{k f:Nat}{x:Str}{C fa:Addr}{fd:FuncData}{ps:List Str}{es:List Expr}{e:Expr}{gL:ME}{p:Pos}(hx:Passes (jv X.prog X.w) X Ξ.2)(F:qo X P Ξ.1 k f fa fd ps)(M:Mk X.K C fa)(hC:v7 X.K x C)(hc:jU X.K C)(hr:x6 (k+1) X.A)(hg:Gl X x)(hm:X.mg x=some (.ref C))(ha:PA X (e::es) (LA X.K Ξ (dJ P gL)))(hd:(x==("__debug__":Str))=false)(fc:starEach (e::es) X.env=(false,eval e X.env)::starEach es X.env)(fX:(backTo pos (starEach es X.env)).any (·.1)=false):PE X (.Call (.Name x p) (e::es) [] pos) (LE X.K Ξ (aS P (.make x f gL))) :=
 (Ug M F.1 hr hg hm F.2.1 .nil hx ha hd fc fX).imp λcg H Q bt=>by
  obtain⟨Z,g,ρ,s,R,h⟩:=bt;simp only[aS] at h;exact jF hP s R (.refl _ _) h λxs g1 bU H1 vs e1 R1 r1 h=>KQ hP F hC hc e1 R1 r1 h
theorem a46{k f:Nat}{x:Str}{C fa:Addr}{fd:FuncData}{ps:List Str}{p:Pos}(hx:Passes (jv X.prog X.w) X Ξ.2)(F:qo X P Ξ.1 k f fa fd ps)(M:Mk X.K C fa)(hC:v7 X.K x C)(hc:jU X.K C)(hr:x6 (k+1) X.A)(hg:Gl X x)(hm:X.mg x=some (.ref C))(hd:(x==("__debug__":Str))=false):PE X (.Call (.Name x p) [] [] pos) (LE X.K Ξ (aS P (.make x f .nil))) :=
 (a73 M F.1 hr hg hm F.2.1 .nil hx hd).imp λcg H Q bt=>by
  obtain⟨Z,g,ρ,s,R,h⟩:=bt;simp only[aS,dJ] at h;exact KQ hP F hC hc (.refl _ _) R .nil h
end
end M

namespace M
open PySem L2 PySem.Spec PyProof.Rows
inductive kx(K:PySem.W.Frag)(ρ:List Addr)(H:Hp):List D->List (V×V)->Prop
 |nil:kx K ρ H [] []
 |cons {k d:D} {x y:V} {ds:List D} {ps:List (V×V)} (h1:d8 K ρ H k x) (h2:d8 K ρ H d y) (r:kx K ρ H ds ps):kx K ρ H (k::d::ds) ((x,y)::ps)
theorem YL{K ρ H}{xs:List D}{ps:List (V×V)}(r:kx K ρ H xs ps):∀{acc kvs:List (Key×D)} {accV:List (Key×V)},tO xs acc=some kvs->i9 K ρ H acc accV->∃more:List (Key×V),ps=more.map (λkv=>(kV kv.1,kv.2))/\2*more.length=xs.length/\i9 K ρ H kvs (S7 accV more):=by
 induction r with
 |nil =>
  intro acc kvs accV h ra;cases h;exact⟨[],rfl,rfl,ra⟩
 |cons h1 h2 r ih =>
  rename_i k d x y ds ps;intro acc kvs accV h ra;simp only[tO] at h;cases hk:W9 k with
  |none=>rw[hk] at h;cases h
  |some c =>
   rw[hk] at h;obtain⟨more,e1,e2,r2⟩:=ih (show tO ds (putD acc c d)=some kvs from h) (ra.put h2);have ex:=Y2 hk h1;subst ex;refine⟨(c,y)::more,by rw[bg,<- e1],by simp only[List.length_cons];omega,r2⟩
section
variable{X:Cx}{Ξ:iM}{P:fH}(hP:i7 P){pos:Pos}
inductive mG(X:Cx)(Ξ:iM)(P:fH):List (Option Expr)->List Expr->ME->List (TE×TE)->Prop
 |nil:mG X Ξ P [] [] .nil []
 |cons {k v:Expr} {ks:List (Option Expr)} {vs:List Expr} {mk mv ms:ME} {ir:List (TE×TE)} (hk:PE X k (LE X.K Ξ (aS P mk))) (hv:PE X v (LE X.K Ξ (aS P mv))) (r:mG X Ξ P ks vs ms ir) :
   mG X Ξ P (some k::ks) (v::vs) (.cons mk (.cons mv ms)) ((LE X.K Ξ (aS P mk),LE X.K Ξ (aS P mv))::ir)
theorem mG.Ng{ks vs ms ir}(h:mG X Ξ P ks vs ms ir):wU X pos ks vs ir:=by
 induction h with
 |nil=>exact Uk
 |cons hk hv r ih=>exact a66 hk hv ih
theorem mG.len{ks vs ms ir}(h:mG X Ξ P ks vs ms ir):ks.all (·.isSome)=true/\ks.length=vs.length:=by
 induction h with
 |nil=>exact⟨rfl,rfl⟩
 |cons hk hv r ih=>exact⟨by simpa using ih.1,by simp[ih.2]⟩
include hP
theorem mG.pairs{ks vs ms ir}(hd:mG X Ξ P ks vs ms ir):∀{cg:L2.St} {Z:S} {g:G} {ρ fV:List Addr} {H H0:Hp} {Qd:List D->G->Prop} {Q:List (V×V)->Hp->Prop},o8 X.K ρ H Z cg->Rl X.K ρ g H->Ext fV H0 ρ H->dJ P ms Z g Qd (LX X.K fV H0 Ξ) ->
  (∀ds g' bL H' ps,Ext ρ H bL H'->Rl X.K bL g' H'->kx X.K bL H' ds ps->Qd ds g'->Q ps H')->yz ir cg H Q:=by
 induction hd with
 |nil =>
  intro cg Z g ρ fV H H0 Qd Q s R e0 h k;simp only[dJ] at h;exact k [] g ρ H [] (.refl _ _) R .nil h
 |cons hk hv r ih =>
  intro cg Z g ρ fV H H0 Qd Q s R e0 h k;simp only[dJ] at h;refine fq hP s R e0 h λx g1 bU H1 v1 e1 R1 r1 h=>fq hP (s.ext e1) R1 (e0.trans e1) h λy g2 eW H2 v2 e2 R2 r2 h=>?_;refine ih (s.ext (e1.trans e2)) R2 (e0.trans (e1.trans e2)) h λds g' bL H' ps e' R' rp hq=>?_;exact k _ g' bL H' _ (e1.trans (e2.trans e')) R' (.cons (r1.ext (e2.trans e')) (r2.ext e') rp) hq
theorem RP{ks:List (Option Expr)}{vs:List Expr}{ms:ME}{ir:List (TE×TE)}(hd:mG X Ξ P ks vs ms ir)(h0:ks≠[])(oG:ks.length<=15):PE X (.Dict ks vs pos) (LE X.K Ξ (aS P (.og ms))) :=
 (Ud hd.Ng hd.len.1 hd.len.2 h0 oG).imp λcg H Q ⟨Z,g,ρ,s,R,h⟩ p hp=>by
  simp only[aS] at h;have e1:Ext ρ H (ρ++[p]) (upd H p (.dK [])):=F6 hp;refine mG.pairs hP hd (s.ext e1) (R.new hp (o:=.dD []) (u:=.dK []) i9.nil) e1 h λds g2 eW H2 ps e2 R2 rp hq=>?_;obtain⟨kvs,hk,hz,hg,q⟩:=hq;have vi:eW[g.length]?=some p:=e2.get (R.B0 p);obtain⟨vs',hv,rv⟩:=R2.dD hg vi;cases rv;obtain⟨more,em,hl,rk⟩:=YL rp hk (accV:=[]) .nil;refine⟨hv,more,em,by omega,?_⟩;obtain⟨R3,e3⟩:=R2.put (o':=.dD kvs) (u:=.dK (S7 [] more)) hg rfl vi rk;exact q eW _ _ (e1.trans (e2.trans e3)) R3 (.ref vi)
end
end M

namespace M
open PySem L2 PySem.Spec PyProof.Rows
theorem Xp{K:PySem.W.Frag}{fV:List Addr}{H0:Hp}{a:Addr}{l:List D}{vs:List V}(ht:TupAt K H0 a vs)(rs:c6 K fV H0 l vs):X4 K fV H0 (.fix l) (EA K a):=by
 intro ρ g H e R i;have vh:=ht.ext e;have xr:=rs.ext e;refine⟨λh=>⟨vs,vh.sq,?_⟩,λd h=>?_⟩
 ·simp only[IK.at] at h;have:=dh.mp (aO h);rw[<- xr.length];exact this
 ·simp only[IK.at] at h;obtain⟨v,hv,rv⟩:=xr.get (aO h);refine⟨⟨vs,v,vh.sq,hv⟩,λw H' y=>?_⟩;obtain⟨rfl,y⟩:=y;have:=y vs vh.sq;rw[hv] at this;cases this;exact⟨.refl _ _,R,rv⟩
theorem Xm{K:PySem.W.Frag}{fV:List Addr}{H0:Hp}{a:Addr}{j:Nat}(ha:fV[j]?=some a):X4 K fV H0 (.lst j) (EB K a):=by
 intro ρ g H e R i;have lQ:=e.get ha;refine⟨λh=>?_,λd h=>?_⟩
 ·simp only[IK.at] at h;cases el:d0 g j with
  |none=>rw[el] at h;cases h
  |some l =>
   rw[el] at h;obtain⟨vs,hq,rs⟩:=R.items el lQ;refine⟨vs,hq,?_⟩;have:=dh.mp (aO h);rw[<- rs.length];exact this
 ·simp only[IK.at] at h;cases el:d0 g j with
  |none=>rw[el] at h;cases h
  |some l =>
   rw[el] at h;obtain⟨vs,hq,rs⟩:=R.items el lQ;obtain⟨v,hv,rv⟩:=rs.get (aO h);refine⟨⟨vs,v,hq,hv⟩,λw H' y=>?_⟩;obtain⟨rfl,y⟩:=y;have:=y vs hq;rw[hv] at this;cases this;exact⟨.refl _ _,R,rv⟩
theorem Ie{K:PySem.W.Frag}{fV:List Addr}{H0:Hp}{lo:Int}{n:Nat}:X4 K fV H0 (.fix (k8 lo n)) (wX lo n):=by
 unfold k8;intro ρ g H e R i;refine⟨λh=>?_,λd h=>?_⟩
 ·simp only[IK.at] at h;have:=dh.mp (aO h);show n<=i;simpa using this
 ·simp only[IK.at] at h;have h:=aO h;have hi:i<n:=by
   have:=(aj.mp h).1;simpa using this
  rw[ai,cW hi] at h;cases h;refine⟨hi,λw H' y=>?_⟩;obtain⟨rfl,rfl⟩:=y;exact⟨.refl _ _,R,.int _⟩
theorem Xo{K:PySem.W.Frag}{fV:List Addr}{H0:Hp}{a:Addr}{j n:Nat}(ha:fV[j]?=some a):X4 K fV H0 (.sV j n) (Ez K a n):=by
 intro ρ g H e R i;have lQ:=e.get ha;refine⟨λh=>?_,λd h=>?_⟩
 ·simp only[IK.at] at h;cases el:d0 g j with
  |none=>rw[el] at h;cases h
  |some l =>
   rw[el] at h;dsimp only at h;by_cases hl:l.length=n
   ·rw[aK hl] at h;have h:=aO h;by_cases hi:i<n
    ·rw[aK hi] at h;have:=dh.mp h;omega
    ·exact lC hi
   ·rw[aD hl] at h;cases h
 ·simp only[IK.at] at h;cases el:d0 g j with
  |none=>rw[el] at h;cases h
  |some l =>
   rw[el] at h;dsimp only at h;by_cases hl:l.length=n
   ·rw[aK hl] at h;have h:=aO h;by_cases hi:i<n
    ·rw[aK hi] at h;obtain⟨vs,hq,rs⟩:=R.items el lQ;obtain⟨v,hv,rv⟩:=rs.get h;refine⟨⟨vs,v,hq,by rw[<- rs.length];exact hl,hi,hv⟩,λw H' y=>?_⟩;obtain⟨rfl,y⟩:=y;have:=y vs hq;rw[hv] at this;cases this;exact⟨.refl _ _,R,rv⟩
    ·rw[aD hi] at h;cases h
   ·rw[aD hl] at h;cases h
theorem Xl{K:PySem.W.Frag}{fV:List Addr}{H0:Hp}{a:Addr}{j:Nat}(ha:fV[j]?=some a):X4 K fV H0 (.oO j) (EC K a):=by
 intro ρ g H e R i;have lQ:=e.get ha;refine⟨λh=>?_,λd h=>?_⟩
 ·simp only[IK.at] at h;cases el:d0 g j with
  |none=>rw[el] at h;cases h
  |some l =>
   rw[el] at h;obtain⟨vs,hq,rs⟩:=R.items el lQ;refine⟨vs,hq,?_⟩;have h:=aO h;rw[Option.map_eq_none_iff] at h;have:=dh.mp h;rw[<- rs.length];exact this
 ·simp only[IK.at] at h;cases el:d0 g j with
  |none=>rw[el] at h;cases h
  |some l =>
   rw[el] at h;obtain⟨vs,hq,rs⟩:=R.items el lQ;have h:=aO h;rw[aa] at h;obtain⟨d',hd,rfl⟩:=h;obtain⟨v,hv,rv⟩:=rs.get hd;refine⟨⟨vs,v,hq,hv⟩,λw H' y=>?_⟩;obtain⟨p,x,hp,rfl,y,rfl⟩:=y;have:=y vs hq;rw[hv] at this;cases this;exact⟨B8 hp,R.grow hp,.tup (.inl u3) (.cons (.int _) (.cons (rv.ext (B8 hp)) .nil))⟩
end M
namespace L2
open PySem PySem.Spec PyProof.Rows
theorem Rx{X:Cx}{tg l:Expr}{tl:TE}(hl:PE X l tl):PI X tg l (λZ H R=>tl Z H λx H1=>(∃a,x=.ref a/\(∃xs,fG X.K H1 a xs)/\R (EB X.K a) H1)\/(∃a,x=.ref a/\(∃xs,ip X.K H1 a xs)/\R (EA X.K a) H1)):=by
 intro pins s Z H R I h;refine cP (hl pins s Z H _ I h) λv s1 bt=>?_;obtain⟨x,H1,I1,r1,q1⟩:=bt;rcases q1 with⟨a,e,⟨xs,hq⟩,q⟩|⟨a,e,⟨xs,hq⟩,q⟩
 ·subst e;cases r1;obtain⟨aW,rv,p,hz⟩:=I1.list hq;refine fL p.isList ?_;refine⟨s1.heap.objs.size,[s1.heap.objs.size],_,_,H1,rfl,I1.kept (t':=s1.toks) λb o e=>ao _ e,aT2 a _,⟨_,az _ rfl,rfl,rfl⟩,λb hb=>?_,q⟩;have e:b=s1.heap.objs.size:=by simpa using hb
  subst e;exact I1.qg (av _) (I1.bZ.fresh (av _))
 ·subst e;cases r1;obtain⟨aW,rv,p,hz⟩:=I1.tuple hq;refine wpAny_pyIter_tuple (show s1.heap.IsTuple a aW.toArray from p) ?_;refine⟨s1.heap.objs.size,[s1.heap.objs.size],_,_,H1,rfl,I1.kept (t':=s1.toks) λb o e=>ao _ e,aM1 a _,⟨_,az _ rfl,rfl,rfl⟩,λb hb=>?_,q⟩;have e:b=s1.heap.objs.size:=by simpa using hb
  subst e;exact I1.qg (av _) (I1.bZ.fresh (av _))
end L2
namespace M
open PySem L2 PySem.Spec PyProof.Rows
section
variable{X:Cx}{Ξ:iM}{P:fH}(hP:i7 P){a b c tg:Expr}{ma mb mc:ME}{pos p:Pos}
include hP
theorem Sd(ha:PE X a (LE X.K Ξ (aS P ma))):PI X tg a (LI X.K Ξ (fj P (.fF ma))) :=
 (Rx ha).imp λcg H R bt=>by
  obtain⟨Z,g,ρ,s,Rr,h⟩:=bt;simp only[fj] at h;refine fq hP s Rr (.refl _ _) h λx g1 bU H1 v1 e1 R1 r1 h=>?_;rcases h with⟨l,rfl,h⟩|⟨i,l,rfl,hl,h⟩
  ·obtain⟨a',vs,rfl,ht,rs⟩:=r1.J8;exact .inr ⟨_,rfl,⟨_,ht.sq⟩,h bU H1 _ e1 R1 (Xp ht rs)⟩
  ·obtain⟨a',rfl,lQ⟩:=r1.j6;obtain⟨vs,hq,rs⟩:=R1.items hl lQ;exact .inl ⟨_,rfl,⟨_,hq⟩,h bU H1 _ e1 R1 (Xm lQ)⟩
theorem UJ{elts:List Expr}{x1:Nat}{tp:Pos}(ha:PE X a (LE X.K Ξ (aS P ma)))(hg:Gl X "enumerate")(hm:X.mg "enumerate"=none)(hs:starEach [a] X.env=[(false,eval a X.env)]):PI X (.Tuple elts x1 tp) (.Call (.Name "enumerate" p) [a] [] pos) (LI X.K Ξ (fj P (.jS ma))) :=
 (Uj hg hm (C3 hP ha (L0 hP) (by rw[hs];rfl)) hs).imp λcg H R bt=>by
  obtain⟨Z,g,ρ,s,Rr,h⟩:=bt;simp only[fj] at h;refine jF hP (m:=.cons ma .nil) s Rr (.refl _ _) (Q0:=λxs g1=>∃a l,xs=[.ref a]/\d0 g1 a=some l/\∀bL H' J,Ext ρ H bL H'->Rl X.K bL g1 H'->X4 X.K bL H' (.oO a) J->R J H') ?_ λxs g1 bU H1 vs e1 R1 r1 h=>?_
  ·simp only[dJ];exact b9 hP ma _ _ _ _ _ _ (λx g1 ⟨i,l,e,hl,h⟩=>⟨i,l,by rw[e],hl,h⟩) (λ_ _ z=>z) h
  ·obtain⟨j,l,rfl,hl,h⟩:=h;obtain⟨v,rfl,rv⟩:=r1.one;obtain⟨a',rfl,ra⟩:=rv.j6;obtain⟨vs,hq,rs⟩:=R1.items hl ra;exact⟨_,rfl,⟨_,hq⟩,h bU H1 _ e1 R1 (Xl ra)⟩
theorem Sb(ha:PE X a (LE X.K Ξ (aS P ma)))(hg:Gl X "reversed")(hm:X.mg "reversed"=none)(hs:starEach [a] X.env=[(false,eval a X.env)]):PI X tg (.Call (.Name "reversed" p) [a] [] pos) (LI X.K Ξ (fj P (.nV ma))) :=
 (Rw hg hm (C3 hP ha (L0 hP) (by rw[hs];rfl)) hs).imp λcg H R bt=>by
  obtain⟨Z,g,ρ,s,Rr,h⟩:=bt;simp only[fj] at h;refine jF hP (m:=.cons ma .nil) s Rr (.refl _ _) (Q0:=λxs g1=>∃a l,xs=[.ref a]/\d0 g1 a=some l/\∀bL H' J,Ext ρ H bL H'->Rl X.K bL g1 H'->X4 X.K bL H' (.sV a l.length) J->R J H') ?_ λxs g1 bU H1 vs e1 R1 r1 h=>?_
  ·simp only[dJ];exact b9 hP ma _ _ _ _ _ _ (λx g1 ⟨i,l,e,hl,h⟩=>⟨i,l,by rw[e],hl,h⟩) (λ_ _ z=>z) h
  ·obtain⟨j,l,rfl,hl,h⟩:=h;obtain⟨v,rfl,rv⟩:=r1.one;obtain⟨a',rfl,ra⟩:=rv.j6;obtain⟨vs,hq,rs⟩:=R1.items hl ra;exact⟨_,vs,rfl,hq,h bU H1 _ e1 R1 (by rw[rs.length];exact Xo ra)⟩
theorem UK(ha:PE X a (LE X.K Ξ (aS P ma)))(hg:Gl X "range")(hm:X.mg "range"=none)(hs:starEach [a] X.env=[(false,eval a X.env)]):PI X tg (.Call (.Name "range" p) [a] [] pos) (LI X.K Ξ (fj P (.fA ma))) :=
 (ZX hg hm (C3 hP ha (L0 hP) (by rw[hs];rfl)) hs).imp λcg H R bt=>by
  obtain⟨Z,g,ρ,s,Rr,h⟩:=bt;simp only[fj] at h;refine jF hP (m:=.cons ma .nil) s Rr (.refl _ _) (Q0:=λxs g1=>∃j:Int,xs=[.int j]/\-(2 ^ 62)<=j/\j<2 ^ 62/\∀bL H' J,Ext ρ H bL H'->Rl X.K bL g1 H'->X4 X.K bL H' (.fix (k8 0 j.toNat)) J->R J H') ?_ λxs g1 bU H1 vs e1 R1 r1 h=>?_
  ·simp only[dJ];exact b9 hP ma _ _ _ _ _ _ (λx g1 ⟨j,e,h1,h2,h⟩=>⟨j,by rw[e],h1,h2,h⟩) (λ_ _ z=>z) h
  ·obtain⟨j,rfl,h1,h2,h⟩:=h;obtain⟨v,rfl,rv⟩:=r1.one;obtain rfl:=rv.i8;exact⟨_,rfl,h1,h2,h bU H1 _ e1 R1 Ie⟩
theorem UL(ha:PE X a (LE X.K Ξ (aS P ma)))(hb:PE X b (LE X.K Ξ (aS P mb)))(hg:Gl X "range")(hm:X.mg "range"=none)(hs:starEach [a,b] X.env=[(false,eval a X.env),(false,eval b X.env)])(jm:starEach [b] X.env=[(false,eval b X.env)]) :
  PI X tg (.Call (.Name "range" p) [a,b] [] pos) (LI X.K Ξ (fj P (.kl ma mb))) :=
 (ZY hg hm (C3 hP ha (C3 hP hb (L0 hP) (by rw[jm];rfl)) (by rw[hs,jm])) hs jm).imp λcg H R bt=>by
  obtain⟨Z,g,ρ,s,Rr,h⟩:=bt;simp only[fj] at h;refine jF hP (m:=.cons ma (.cons mb .nil)) s Rr (.refl _ _) (Q0:=λxs g1=>∃i j:Int,xs=[.int i,.int j]/\(-(2 ^ 62)<=i/\i<2 ^ 62/\-(2 ^ 62)<=j/\j<2 ^ 62)/\∀bL H' J,Ext ρ H bL H'->Rl X.K bL g1 H'->X4 X.K bL H' (.fix (k8 i (j-i).toNat)) J->R J H') ?_ λxs g1 bU H1 vs e1 R1 r1 h=>?_
  ·simp only[dJ];exact b9 hP ma _ _ _ _ _ _ (λx g1 h=>b9 hP mb _ _ _ _ _ _ (λy g2 ⟨i,j,e,e',h1,h⟩=>⟨i,j,by rw[e,e'],h1,h⟩) (λ_ _ z=>z) h) (λ_ _ z=>z) h
  ·obtain⟨i,j,rfl,h1,h⟩:=h;obtain⟨v,w,rfl,rv,fJ⟩:=r1.two;obtain rfl:=rv.i8;obtain rfl:=fJ.i8;exact⟨_,_,rfl,h1,h bU H1 _ e1 R1 Ie⟩
end
section
variable{X:Cx}{pos:Pos}
theorem Sa{i:Nat}{x:Str}(hN:X.N.Nodup)(hi:X.N[i]?=some x)(hx:Loc X.env.scope x)(hf:X.fn x=true\/X.env.scope.names.lookup x=some .local):PG X (.Name x pos) (LG X.K (.one i)) :=
 (KY hN hi hx hf).imp λv cg H Q hq=>by
  obtain⟨d,Z,g,ρ,s,R,r,h⟩:=hq;exact h _ (s.set i r)
inductive fR(X:Cx):List Expr->List Nat->Prop
 |nil:fR X [] []
 |cons {x:Str} {p:Pos} {i:Nat} {es:List Expr} {is:List Nat} (hi:X.N[i]?=some x) (hx:Loc X.env.scope x) (hf:X.fn x=true\/X.env.scope.names.lookup x=some .local) (r:fR X es is):fR X (.Name x p::es) (i::is)
def Ed:List Nat->qk
 |[]=>IF
 |i::is=>HZ (tW i) (Ed is)
theorem ZW(hN:X.N.Nodup){es:List Expr}{is:List Nat}(h:fR X es is):wV X es (Ed is):=by
 induction h with
 |nil=>exact Ui
 |cons hi hx hf r ih=>exact a70 (KY hN hi hx hf) ih rfl
theorem Dn:∀{es:List Expr} {is:List Nat},fR X es is->(assignEach es X.env).length=is.length/\(assignEach es X.env).findIdx? (·.1)=none
 |_,_,.nil=>⟨rfl,rfl⟩
 |_,_,.cons (x:=x) (p:=p) (es:=es) hi hx hf r=>by
  obtain⟨h1,h2⟩:=Dn r;have e:assignEach (.Name x p::es) X.env=(false,assign (.Name x p) X.env)::assignEach es X.env:=rfl;rw[e];refine⟨by simp[h1],?_⟩;rw[List.findIdx?_cons,h2]
  rfl
theorem Jb{K:PySem.W.Frag}{ρ:List Addr}{H:Hp}{k:S->Prop}{Q:L2.St->Hp->Prop}:∀{is:List Nat} {l:List D} {vs:List V} {Z cq:S} {cg:L2.St},E5 is l Z=some cq->c6 K ρ H l vs->o8 K ρ H Z cg->(∀dA,o8 K ρ H cq dA->Q dA H)->Ed is vs cg H Q
 |[],_,_,_,_,_,h,.nil,s,q=>by
  simp only[E5] at h;cases h;exact⟨rfl,q _ s⟩
 |[],_,_,_,_,_,h,.cons _ _,s,q=>by simp only[E5] at h;cases h
 |i::is,_,_,_,_,_,h,.nil,s,q=>by simp only[E5] at h;cases h
 |i::is,_,_,_,_,_,h,.cons r rr,s,q=>by
  simp only[E5] at h;exact⟨_,_,rfl,Jb (k:=k) h rr (s.set i r) q⟩
theorem Z6:∀{is:List Nat} {l:List D} {Z cq:S},E5 is l Z=some cq->l.length=is.length
 |[],[],_,_,_=>rfl
 |[],_::_,_,_,h=>by simp only[E5] at h;cases h
 |_::_,[],_,_,h=>by simp only[E5] at h;cases h
 |_::is,_::l,_,_,h=>by simp only[E5] at h;simp[Z6 h]
theorem Lj{es:List Expr}{is:List Nat}{k:Nat}(hc:X.calm=true)(hN:X.N.Nodup)(hs:fR X es is):PG X (.Tuple es k pos) (LG X.K (.many is)) :=
 (Rv hc (ZW hN hs) (Dn hs).1 (Dn hs).2).imp λv cg H Q bt=>by
  obtain⟨d,Z,g,ρ,s,R,r,h⟩:=bt;obtain⟨l,cq,rfl,e,h⟩:=h;obtain⟨a',vs,rfl,ht,rs⟩:=r.J8;exact⟨_,_,rfl,ht.sq,by rw[<- rs.length];exact Z6 e,Jb (k:=λ_=>True) e rs s h⟩
end
theorem LN.ext{K ρ H N bU H1}(e:Ext ρ H bU H1):(LN K ρ H N).le (LN K bU H1 N) :=
 ⟨λZ g h bL H' dA e' R s=>h bL H' dA (e.trans e') R s,λd g h=>h.ext e,λZ g h bL H' dA e' R s=>h bL H' dA (e.trans e') R s,λZ g h bL H' dA e' R s=>h bL H' dA (e.trans e') R s⟩
section
variable{X:Cx}{Ξ:iM}{P:fH}(hP:i7 P){a b c tg:Expr}{ma mb mc:ME}{st:Stmt}{rest:List Stmt}{zW ng:MS}{pos p:Pos}
include hP
theorem Sg:jN X [] (LS X.K Ξ (wpS P .pass)) :=
 (Up (X:=X)).imp λN cg H ⟨Z,g,ρ,s,R,h⟩=>h ρ H cg (.refl _ _) R s
theorem UO(h1:PS X st (LS X.K Ξ (wpS P zW)))(h2:jN X rest (LS X.K Ξ (wpS P ng))):jN X (st::rest) (LS X.K Ξ (wpS P (.seq zW ng))) :=
 (a63 h1 h2).imp λN cg H ⟨Z,g,ρ,s,R,h⟩ =>
  sQ hP s R (.refl _ _) (show wpS P zW { LN X.K ρ H N with nx:=λiQ g1=>wpS P ng (LN X.K ρ H N) iQ g1 (LX X.K ρ H Ξ) } Z g (LX X.K ρ H Ξ) from h) ⟨λiQ g1 h bU H1 My e1 R1 s1=>sQ hP s1 R1 e1 h (LN.ext e1),λ_ _ z=>z,λ_ _ z=>z,λ_ _ z=>z⟩
theorem US(ha:PE X a (LE X.K Ξ (aS P ma)))(hs:swapsWith a none pos.line X.env=pure false):PS X (.Expr a pos) (LS X.K Ξ (wpS P (.expr ma))) :=
 (Ul ha hs).imp λN cg H ⟨Z,g,ρ,s,R,h⟩=>fq hP s R (.refl _ _) h λx g1 bU H1 v1 e1 R1 r1 h=>h bU H1 cg e1 R1 (s.ext e1)
theorem Kv{i:Nat}{x:Str}{p:Pos}(h0:PS X (.Assign [.Name x p] a pos) (wm (LE X.K Ξ (aS P ma)) (tW i))):PS X (.Assign [.Name x p] a pos) (LS X.K Ξ (wpS P (.set i ma))) :=
 h0.imp λN cg H ⟨Z,g,ρ,s,R,h⟩=>fq hP s R (.refl _ _) h λx g1 bU H1 v1 e1 R1 r1 h=>h bU H1 _ e1 R1 ((s.ext e1).set i r1)
theorem Sw{t:MT}(h0:PS X (.Assign [tg] a pos) (wm (LE X.K Ξ (aS P ma)) (LG X.K t))):PS X (.Assign [tg] a pos) (LS X.K Ξ (wpS P (.mj t ma))) :=
 h0.imp λN cg H ⟨Z,g,ρ,s,R,h⟩=>fq hP s R (.refl _ _) h λx g1 bU H1 v1 e1 R1 r1 h=>⟨x,Z,g1,bU,s.ext e1,R1,r1,v9 (λcq h dA s'=>h bU H1 dA e1 R1 s') h⟩
theorem a34(hu:X.A.units+100<cLine){o i:Expr}{mo mi:ME}{tp:Pos}(ha:PE X a (LE X.K Ξ (aS P ma)))(ho:PE X o (LE X.K Ξ (aS P mo)))(hi:PE X i (LE X.K Ξ (aS P mi)))(hs:swapsWithSole [.Subscript o i tp] a pos.line X.env=pure false)(lQ:∀ v,assign (.Subscript o i tp) X.env v=(do
   let ov <- holding [v] (eval o X.env)
   let iv <- holding [v,ov] (eval i X.env)
   standAt tp
   holding [v,ov,iv] (setItem ov iv v)
   release [v,ov,iv] [])):PS X (.Assign [.Subscript o i tp] a pos) (LS X.K Ξ (wpS P (.eF mo mi ma))) :=
 (Kq ha (Ru ho hi (RZ hu) lQ) hs).imp λN cg H ⟨Z,g,ρ,s,R,h⟩ =>
  fq hP s R (.refl _ _) h λx g1 bU H1 v1 e1 R1 r1 h=>fq hP (s.ext e1) R1 e1 h λy g2 eW H2 v2 e2 R2 r2 h=>fq hP (s.ext (e1.trans e2)) R2 (e1.trans e2) h λz g3 jr H3 v3 e3 R3 r3 h =>
   ⟨y,z,x,g3,jr,R3,r2.ext e3,r3,r1.ext (e2.trans e3),U6 (λg4 h qv H4 e4 R4=>h qv H4 cg (e1.trans (e2.trans (e3.trans e4))) R4 (s.ext (e1.trans (e2.trans (e3.trans e4))))) h⟩
omit hP in
def DX(K:PySem.W.Frag)(f:Str)(cs:List Str):Prop:=∀c C,c∈cs->v7 K c C->C0 K C f
omit hP in
theorem UI{f:Str}{cs:List Str}(hF:DX X.K f cs){ρ:List Addr}{H:Hp}{g g':G}{x v:D}{xv vv:V}(R:Rl X.K ρ g H)(rx:d8 X.K ρ H x xv)(rv:d8 X.K ρ H v vv)(h:Im f cs x v g g') :
  ∃a C dx fs,xv=.ref a/\H a=some (.ins C dx fs)/\jU X.K C/\C0 X.K C f/\fs.length<1000/\Rl X.K ρ g' (upd H a (.ins C dx (B3 f vv fs)))/\Ext ρ H ρ (upd H a (.ins C dx (B3 f vv fs))):=by
 obtain⟨i,c,fs,rfl,hi,hc,hz,rfl⟩:=h;obtain⟨a',rfl,ra⟩:=rx.j6;obtain⟨C,dx,vs,hH,hC,kQ,rk,na⟩:=R.ins hi ra;obtain⟨R',e'⟩:=R.put (o':=.ins c (l9 f v fs)) (u:=.ins C dx (B3 f vv vs)) hi rfl ra ⟨hC,kQ,rk.B3 rv,JF (p:=λy=>C0 X.K C y) (hF c C hc hC) na⟩;exact⟨a',C,dx,vs,rfl,hH,kQ,hF c C hc hC,by rw[<- rk.length];omega,R',e'⟩
theorem UT{f:Str}{cs:List Str}{o:Expr}{mo:ME}{tp:Pos}(hF:DX X.K f cs)(ho:PE X o (LE X.K Ξ (aS P mo)))(ha:PE X a (LE X.K Ξ (aS P ma)))(hs:swapsWith a (some (.Attribute o f tp)) pos.line X.env=pure false):PS X (.Assign [.Attribute o f tp] a pos) (LS X.K Ξ (wpS P (.ic f cs mo ma))) :=
 (Rz ho ha hs).imp λN cg H ⟨Z,g,ρ,s,R,h⟩=>fq hP s R (.refl _ _) h λx g1 bU H1 v1 e1 R1 r1 h=>fq hP (s.ext e1) R1 e1 h λy g2 eW H2 v2 e2 R2 r2 h=>by
  obtain⟨g3,h,q⟩:=h;obtain⟨a',C,dx,fs,hx,hH,kQ,na,hz,R3,e3⟩:=UI hF R2 r2 (r1.ext e2) h;exact⟨a',C,dx,fs,hx,hH,kQ,na,hz,q eW _ cg (e1.trans (e2.trans e3)) R3 (s.ext (e1.trans (e2.trans e3)))⟩
theorem UR{i:Nat}{x:Str}{tp:Pos}{op:Operator}{p:Pr}(NV:(op=.Add/\p=.iadd)\/(op=.Sub/\p=.nk))(hN:X.N.Nodup)(hi:X.N[i]?=some x)(hx:Loc X.env.scope x)(hf:X.fn x=true\/X.env.scope.names.lookup x=some .local)(ha:PE X a (LE X.K Ξ (aS P ma))):PS X (.AugAssign (.Name x tp) op a pos) (LS X.K Ξ (wpS P (.kr i p ma))):=by
 have ho:Mb X op (r2 X.K p):=by
  intro pins s Z H x y v u Q I rx ry h;obtain⟨d,e,g,ρ,R,rd,re,d',g',hr,q⟩:=h;rcases NV with⟨rfl,rfl⟩|⟨rfl,rfl⟩
  ·rcases hr with⟨i,j,ex,rfl,rfl⟩|⟨l,m,ex,hz,rfl,rfl⟩
   ·obtain⟨rfl,rfl⟩:=A8 ex;obtain rfl:=rd.i8;obtain rfl:=re.i8;exact Tj pins s Z H _ _ v u Q I rx ry ⟨i,j,rfl,rfl,q.now R (.int _)⟩
   ·obtain⟨rfl,rfl⟩:=A8 ex;obtain⟨p1,MH,rfl,t1,uI⟩:=rd.J8;obtain⟨p2,zH,rfl,t2,qI⟩:=re.J8;refine Th pins s Z H _ _ v u Q I rx ry (.inr ⟨p1,p2,MH,zH,rfl,rfl,t1.sq,t2.sq,by rw[<- uI.length,<- qI.length];exact n5 hz,λz=>?_,λz=>?_,λp hp=>q.tup R hp (uI.append qI)⟩)
    ·subst z;cases uI;exact q.now R (.tup t2 qI)
    ·subst z;cases qI;rw[cF] at q;exact q.now R (.tup t1 uI)
  ·obtain⟨i,j,ex,rfl,rfl⟩:=hr;obtain⟨rfl,rfl⟩:=A8 ex;obtain rfl:=rd.i8;obtain rfl:=re.i8;exact Tn pins s Z H _ _ v u Q I rx ry ⟨i,j,rfl,rfl,q.now R (.int _)⟩
 refine(Ry hN hi hx ha ho hf).imp λN cg H bt=>?_;obtain⟨Z,g,ρ,s,R,h⟩:=bt;obtain⟨xd,NJ,h⟩:=h;obtain⟨xv,hv,rx⟩:=s.val _ _ NJ;refine⟨xv,hv,fq hP s R (.refl _ _) h λz g1 bU H1 v1 e1 R1 r1 h=>?_⟩;refine⟨xd,z,g1,bU,R1,rx.ext e1,r1,u4 (λw g2 q=>?_) h⟩;exact λeW H2 v2 e2 R2 r2=>q eW H2 _ (e1.trans e2) R2 ((s.ext (e1.trans e2)).set i r2)
theorem Yh{sa sb:List Stmt}{FD msb:MS}(hc:PT X c (LT X.K Ξ (cT P mc)))(ha:jN X sa (LS X.K Ξ (wpS P FD)))(hb:jN X sb (LS X.K Ξ (wpS P msb))):PS X (.If c sa sb pos) (LS X.K Ξ (wpS P (.ifs mc FD msb))) :=
 (XT hc ha hb).imp λN cg H ⟨Z,g,ρ,s,R,h⟩=>pj hP s R (.refl _ _) h λt g1 bU H1 e1 R1 h=>by
  cases t
  ·exact sQ hP (s.ext e1) R1 e1 h (LN.ext e1)
  ·exact sQ hP (s.ext e1) R1 e1 h (LN.ext e1)
theorem Sv(ha:PE X a (LE X.K Ξ (aS P ma))):PS X (.Return (some a) pos) (LS X.K Ξ (wpS P (.ret ma))) :=
 (RC ha).imp λN cg H ⟨Z,g,ρ,s,R,h⟩=>⟨Z,g,ρ,s,R,h⟩
theorem a33{body:List Stmt}{mb:MS}(hp:PassesOwn (model X.prog X.w) X.A X.env X.xe)(hc:PT X c (LT X.K Ξ (cT P mc)))(hb:jN X body (LS X.K Ξ (wpS P mb))):PS X (.While c body [] pos) (LS X.K Ξ (wpS P (.jE mc mb))) :=
 (a64 hp hc hb).imp λN cg H bt=>by
  obtain⟨Z,g,ρ,s,R,h⟩:=bt;obtain⟨W,⟨m0,w0⟩,h⟩:=h;refine⟨λm dA H'=>∃cq g' bL,Ext ρ H bL H'/\o8 X.K bL H' cq dA/\Rl X.K bL g' H'/\W m cq g',⟨m0,Z,g,ρ,.refl _ _,s,R,w0⟩,?_⟩;rintro m dA H' ⟨cq,g',bL,e1,s',R',w'⟩;refine pj hP s' R' e1 (h m cq g' w') λt g1 bU H1 e2 R1 q=>?_;cases t
  ·exact q bU H1 dA (e1.trans e2) R1 (s'.ext e2)
  ·obtain⟨N2,AV,q⟩:=q;refine⟨λjX H2=>∃cK g2 eW,Ext ρ H eW H2/\o8 X.K eW H2 cK jX/\Rl X.K eW g2 H2/\N2 cK g2,?_,?_⟩
   ·rintro jX H2 ⟨cK,g2,eW,e3,s2,R2,n2⟩;obtain⟨m',hm,w2⟩:=AV cK g2 n2;exact⟨m',hm,cK,g2,eW,e3,s2,R2,w2⟩
   ·refine sQ hP (s'.ext e2) R1 (e1.trans e2) q ⟨?_,?_,?_,?_⟩
    ·exact λiF g3 n3 jr H3 kG e3 R3 s3=>⟨iF,g3,jr,(e1.trans e2).trans e3,s3,R3,n3⟩
    ·exact λd g3 h=>h.ext (e1.trans e2)
    ·exact λiF g3 h jr H3 kG e3 R3 s3=>h jr H3 kG ((e1.trans e2).trans e3) R3 s3
    ·exact λiF g3 n3 jr H3 kG e3 R3 s3=>⟨iF,g3,jr,(e1.trans e2).trans e3,s3,R3,n3⟩
theorem Ss{iter:Expr}{mi:ME}{body:List Stmt}{mb:MS}{t:MT}(hp:PassesOwn (model X.prog X.w) X.A X.env X.xe)(hc:X.calm=true)(hi:PI X tg iter (LI X.K Ξ (fj P mi)))(hg:PG X tg (LG X.K t))(hb:jN X body (LS X.K Ξ (wpS P mb)))(hs:∀x,foldedSetIterable iter X.env x=pure x):PS X (.For tg iter body [] pos) (LS X.K Ξ (wpS P (.dY t mi mb))) :=
 (RA hp hc hi hg hb hs).imp λN cg H bt=>by
  obtain⟨Z,g,ρ,s,R,h⟩:=bt;refine⟨Z,g,ρ,s,R,y9 hP mi _ _ _ _ _ _ (λk g1 h bU H1 J e1 R1 j1=>?_) (λ_ _ z=>z) h⟩;obtain⟨W,⟨m0,w0⟩,h⟩:=h;refine⟨λi m dA H'=>∃cq g' bL,Ext bU H1 bL H'/\o8 X.K bL H' cq dA/\Rl X.K bL g' H'/\W i m cq g',⟨m0,Z,g1,bU,.refl _ _,s.ext e1,R1,w0⟩,?_⟩;rintro i m dA H' ⟨cq,g',bL,e',s',R',w'⟩;obtain⟨vd,vc⟩:=j1 bL g' H' e' R' i;rcases h i m cq g' w' with⟨ek,q⟩|⟨x,ek,N2,AV,q⟩
  ·exact .inl ⟨vd ek,q bL H' dA (e1.trans e') R' s'⟩
  ·obtain⟨go,yl⟩:=vc x ek;refine .inr ⟨go,λjX H2=>∃cK g2 eW,Ext bU H1 eW H2/\o8 X.K eW H2 cK jX/\Rl X.K eW g2 H2/\N2 cK g2,?_,?_⟩
   ·rintro jX H2 ⟨cK,g2,eW,e2,s2,R2,n2⟩;obtain⟨m',hm,w2⟩:=AV cK g2 n2;exact⟨m',hm,cK,g2,eW,e2,s2,R2,w2⟩
   ·intro v H2 y;obtain⟨e2,R2,r2⟩:=yl v H2 y;refine⟨x,cq,g',bL,s'.ext e2,R2,r2,v9 (λcK q jX s2=>?_) q⟩;refine sQ hP s2 R2 (e1.trans (e'.trans e2)) q ⟨?_,?_,?_,?_⟩
    ·exact λiF g3 n3 jr H3 kG e3 R3 s3=>⟨iF,g3,jr,(e'.trans e2).trans e3,s3,R3,n3⟩
    ·exact λd g3 h=>h.ext (e1.trans (e'.trans e2))
    ·exact λiF g3 h jr H3 kG e3 R3 s3=>h jr H3 kG (e1.trans ((e'.trans e2).trans e3)) R3 s3
    ·exact λiF g3 n3 jr H3 kG e3 R3 s3=>⟨iF,g3,jr,(e'.trans e2).trans e3,s3,R3,n3⟩
theorem Lu{d6:List Nat}{n:Nat}{t:MT}{mi jb me:ME}:∀cg H Q,LE X.K Ξ (aS P (.comp d6 n t mi jb me)) cg H Q->DM (LI X.K Ξ (fj P mi)) d6 n (LG X.K t) (LT X.K (sD Ξ.1) (cT P jb)) (LE X.K (sD Ξ.1) (aS P me)) cg H Q:=λcg H Q bt=>by
 obtain⟨Z,g,ρ,s,R,h⟩:=bt;simp only[aS] at h;refine⟨Z,g,ρ,s,R,y9 hP mi _ _ _ _ _ _ (λk g1 h bU H1 J e1 R1 j1=>?_) (λ_ _ z=>z) h⟩;obtain⟨W,⟨m0,w0⟩,h⟩:=h;refine⟨λi m ES dA H'=>∃ys cq g' bL,Ext bU H1 bL H'/\o8 X.K bL H' cq dA/\Rl X.K bL g' H'/\c6 X.K bL H' ys ES/\W i m ys cq g',⟨m0,[],_,g1,bU,.refl _ _,(s.ext e1).d6 d6 n,R1,.nil,w0⟩,?_⟩;rintro i m ES dA H' ⟨ys,cq,g',bL,e',s',R',ry,w'⟩;obtain⟨vd,vc⟩:=j1 bL g' H' e' R' i;rcases h i m ys cq g' w' with⟨ek,q⟩|⟨x,ek,hz,q⟩
 ·exact .inl ⟨vd ek,λp hp=>(q.ext (e1.trans e')).new R' hp ry⟩
 ·obtain⟨go,yl⟩:=vc x ek;refine .inr ⟨go,by rw[<- ry.length];exact Cr hz,λv H2 y=>?_⟩;obtain⟨e2,R2,r2⟩:=yl v H2 y;refine⟨x,cq,g',bL,s'.ext e2,R2,r2,v9 (λcK q jX s2=>?_) q⟩;refine⟨cK,g',bL,s2,R2,p6 hP jb _ _ _ _ _ _ (λb g3 q jr H3 e3 R3=>?_) (λ_ _ z=>z.elim) q⟩;cases b
  ·obtain⟨m',hm,w3⟩:=q;exact⟨m',hm,ys,cK,g3,jr,(e'.trans e2).trans e3,s2.ext e3,R3,(ry.ext e2).ext e3,by simpa using w3⟩
  ·refine⟨cK,g3,jr,s2.ext e3,R3,b9 hP me _ _ _ _ _ _ (λz g4 q qv H4 v4 e4 R4 r4=>?_) (λ_ _ z=>z.elim) q⟩;obtain⟨m',hm,w4⟩:=q;exact⟨m',hm,ys++[z],cK,g4,qv,(e'.trans e2).trans (e3.trans e4),(s2.ext e3).ext e4,R4,(((ry.ext e2).ext e3).ext e4).append (.cons r4 .nil),by simpa using w4⟩
theorem a44{elt tg iter:Expr}{ifs:List Expr}{scope:Scope}{N':List Str}{d6:List Nat}{cl:List (Str×Addr)}{pos p2 jH:Pos}{t:MT}{mi jb me:ME}(S:dN X scope N' d6 cl)(hc:X.calm=true)(hi:PI X tg iter (LI X.K Ξ (fj P mi)))(hg:∀pins C s H fp,PG (f6 X pins scope N' cl C s H fp) tg (LG X.K t))(ht:∀pins C s H fp,lB (f6 X pins scope N' cl C s H fp) ifs (LT X.K (sD Ξ.1) (cT P jb)))(he:∀pins C s H fp,PE (f6 X pins scope N' cl C s H fp) elt (LE X.K (sD Ξ.1) (aS P me)))(hs:∀x,foldedSetIterable iter X.env x=pure x)(nA:Gl X "sorted")(lP:X.mg "sorted"=none):PE X (.Call (.Name "sorted" p2) [.SetComp elt [⟨tg,iter,ifs,0⟩] scope pos] [] jH) (LE X.K Ξ (aS P (.hJ d6 N'.length t mi jb me))) :=
 (Z8 (V5 hc) nA lP (by first|exact gX|decide +kernel) (Q9 (a72 S hc hi hg ht he hs) X8)).imp λcg H Q bt=>by
  obtain⟨Z,g,ρ,s,R,h⟩:=bt;simp only[aS] at h;refine⟨Z,g,ρ,s,R,y9 hP mi _ _ _ _ _ _ (λk g1 h bU H1 J e1 R1 j1=>?_) (λ_ _ z=>z) h⟩;obtain⟨W,⟨m0,w0⟩,h⟩:=h;refine⟨λi m ys dA H'=>∃cq g' bL,Ext bU H1 bL H'/\o8 X.K bL H' cq dA/\Rl X.K bL g' H'/\W i m ys cq g',⟨m0,_,g1,bU,.refl _ _,(s.ext e1).d6 d6 _,R1,w0⟩,?_⟩;rintro i m ys dA H' ⟨cq,g',bL,e',s',R',w'⟩;obtain⟨vd,vc⟩:=j1 bL g' H' e' R' i;rcases h i m ys cq g' w' with⟨ek,hz,q⟩|⟨x,ek,hz,q⟩
  ·exact .inl ⟨vd ek,λp hp=>⟨p,ys,rfl,u3,hz,λp' jz=>(q.ext ((e1.trans e').trans (B8 hp))).new (R'.grow hp) jz (c6.ofInts _)⟩⟩
  ·obtain⟨go,yl⟩:=vc x ek;refine .inr ⟨go,hz,λv H2 y=>?_⟩;obtain⟨e2,R2,r2⟩:=yl v H2 y;refine⟨x,cq,g',bL,s'.ext e2,R2,r2,v9 (λcK q jX s2=>?_) q⟩;refine⟨cK,g',bL,s2,R2,p6 hP jb _ _ _ _ _ _ (λb g3 q jr H3 e3 R3=>?_) (λ_ _ z=>z.elim) q⟩;cases b
   ·obtain⟨m',hm,w3⟩:=q;exact⟨m',hm,cK,g3,jr,(e'.trans e2).trans e3,s2.ext e3,R3,by simpa using w3⟩
   ·refine⟨cK,g3,jr,s2.ext e3,R3,b9 hP me _ _ _ _ _ _ (λz g4 q qv H4 v4 e4 R4 r4=>?_) (λ_ _ z=>z.elim) q⟩;obtain⟨j,rfl,m',hm,w4⟩:=q;obtain rfl:=r4.i8;exact⟨j,rfl,m',hm,cK,g4,qv,(e'.trans e2).trans (e3.trans e4),(s2.ext e3).ext e4,R4,by simpa using w4⟩
end
end M

namespace M
open PySem L2 PySem.Spec PyProof.Rows
section
variable{X:Cx}{Ξ:iM}{P:fH}(hP:i7 P)
include hP
theorem a35{x:Str}{C:Addr}{B newId gM:String}{bm:List Value}{np eA pos:Pos}{jM:Expr}{rest:List Expr}{gL:ME}(hc:X.calm=true)(O:OwnCls x C bm newId X.mg X.base)(FB:ExcBaseFacts B newId gM bm)(hg:Gl X x)(ha:PA X (jM::rest) (LA X.K Ξ (dJ P gL)))(hr:yC X Ξ.2)(hx:x∈Ξ.1)(hC:v7 X.K x C)(he:starEach (jM::rest) X.env=(false,eval jM X.env)::starEach rest X.env)(eY:(backTo eA (starEach rest X.env)).any (·.1)=false)(hd:(x==("__debug__":Str))=false):PS X (.Raise (some (.Call (.Name x np) (jM::rest) [] eA)) none pos) (LS X.K Ξ (wpS P (.raise x gL))) :=
 (a65 hc O FB hg ha hr he eY hd).imp λN cg H bt=>by
  obtain⟨Z,g,ρ,s,R,h⟩:=bt;refine jF hP s R (.refl _ _) h λds g1 bU H1 vs e1 R1 r1 h=>?_;exact⟨by rw[<- r1.length];exact n5 (aE h.1 (by decide)),h.2 bU H1 C e1 R1 hx hC⟩
end
end M

namespace M
open PySem L2 PySem.Spec PyProof.Rows
structure i6 where
 N:List Str
 nm:List (Str×NameKind)
 nL:Bool
 fns:List (Str×Nat)
 con:List (Str×D)
 blt:List Str
 exc:List Str
 gd:List (Str×List D)
 cls:List (Str×Nat)
 qT:List (Str×Str×Nat)
 oK:List (Str×Str)
 lL:Bool
 oq:Bool
def fW:Expr->Bool
 |.Set ..=>false
 |.Starred ..=>false
 |.Slice ..=>false
 |_=>true
def w9:Expr->Bool
 |.ListComp ..=>false
 |.SetComp ..=>false
 |.DictComp ..=>false
 |_=>true
def tZ:Expr->Bool
 |.Tuple ..=>false
 |_=>true
def Dm:Expr->Bool
 |.Name ..=>true
 |.Call ..=>true
 |.Subscript ..=>true
 |.Constant ..=>true
 |.Attribute ..=>true
 |.BinOp ..=>true
 |_=>false
def yy:Expr->Bool
 |.Call (.Name ..) ..=>false
 |_=>true
def i6.idx(c:i6)(x:Str):Option Nat:=c.N.findIdx? λy=>decide (y=x)
def i6.uy(c:i6)(x:Str):Bool:=match c.nm.lookup x with
 |some .local=>true
 |some .cell=>true
 |some .free=>true
 |_=>false
def i6.gl(c:i6)(x:Str):Bool:=decide (c.nm.lookup x=some .globalImplicit)
def i6.A5(c:i6)(x:Str):Bool:=decide (c.nm.lookup x=some .local)||decide (c.nm.lookup x=some .cell)
def qj(x:Str):Bool:=(x==("__debug__":Str))==false&&(x==("__classdict__":Str))==false&&decide (x≠"__name__")
def DO:List (Str×String):=[("int","int"),("bool","bool"),("str","str"),("tuple","tuple"),("list","list")]
def Ea:List (Str×Pr):=[("len",.len),("list",.list),("tuple",.tuple),("isinstance",.isin),("all",.all),("max",.max),("min",.min),("int",.int),("any",.any),("sorted",.ka),("sum",.sum)]
def yM:List (Str×Pr):=[]
def Ej:List (Str×Pr):=[("append",.append),("pop",.pop),("get",.get),("add",.kd)]
def Cf:Expr->Option (Str×List Expr)
 |.Call (.Name x _) args [] _=>some (x,args)
 |_=>none
def HU:Expr->Bool
 |.Tuple ..=>true
 |_=>false
def asName:Expr->Option Str
 |.Name x _=>some x
 |_=>none
def frees(sc:Scope):List Str:=(sc.names.filter λy=>decide (y.2=.free)).map (·.1)
def locals(sc:Scope):List Str:=(sc.names.filter λy=>decide (y.2=.local)||decide (y.2=.cell)).map (·.1)
def i6.inner(c:i6)(sc:Scope):i6:={ c with N:=frees sc++locals sc,nm:=sc.names,nL:=false,lL:=false,oq:=false }
def i6.d6(c:i6)(sc:Scope):List Nat:=(frees sc).map λx=>(c.idx x).getD 0
def i6.Cy(c:i6)(sc:Scope):Bool :=
 decide (sc.kind=.function)&&sc.names.all (λy=>!decide (y.2=.cell)||decide (sc.names.lookup y.1=some .cell))&&sc.names.all (λy=>!decide (y.2=.local)||decide (sc.names.lookup y.1=some .local)) &&
 decide (frees sc++locals sc).Nodup&&(frees sc).all (λx=>(c.idx x).isSome&&decide (sc.names.lookup x=some .free)&&(decide (c.nm.lookup x=some .cell)||decide (c.nm.lookup x=some .free)))
def i6.slot(c:i6)(e:Expr):Option Nat:=(asName e).bind λx=>if c.A5 x then c.idx x else none
def i6.slots(c:i6):List Expr->Option (List Nat)
 |[]=>some []
 |e::r=>(c.slot e).bind λi=>(c.slots r).map λis=>i::is
def i6.tg(c:i6)(e:Expr):Option MT:=((c.slot e).map .one).orElse λ_=>match e with
 |.Tuple es _ _=>(c.slots es).map .many
 |_=>none
def DA:Const->Option D
 |.int i=>some (.int i)
 |.bool b=>some (.bl b)
 |.none=>some .bQ
 |.str x=>some (.str x)
 |_=>none
structure CF where
 e:i6->Expr->Option ME
 t:i6->Expr->Option ME
 s:i6->Stmt->Option MS
section
variable(r:CF)(c:i6)
def c1(p:Pr)(a:Expr):Option ME:=(r.e c a).map λm=>.prim p (.cons m .nil)
def c2(p:Pr)(a b:Expr):Option ME:=(r.e c a).bind λma=>(r.e c b).map λmb=>.prim p (.cons ma (.cons mb .nil))
def J6:List Expr->Option ME
 |[]=>some .nil
 |e::es=>if fW e then(r.e c e).bind λm=>(J6 es).map λms=>.cons m ms else none
def LY:Expr->Option Str
 |.Constant (.str x) _ _=>some x
 |_=>none
def IA:Expr->Option Expr
 |.FormattedValue e k none _=>if k=-1 then some e else none
 |_=>none
def tU:List Expr->Option ME
 |[]=>some .nil
 |e::es=>((LY e).bind λx=>if x.length<=2000 then(tU es).map λms=>.cons (.lit (.str x)) ms else none).orElse λ_ =>
   (IA e).bind λa=>(r.e c a).bind λm=>(tU es).map λms=>.cons (.prim .fv (.cons m .nil)) ms
def wy:List (Option Expr)->List Expr->Option ME
 |[],[]=>some .nil
 |some k::ks,v::vs=>(r.e c k).bind λmk=>(r.e c v).bind λmv=>(wy ks vs).map λms=>.cons mk (.cons mv ms)
 |_,_=>none
def yf(op:BoolOp):List Expr->Option ME
 |[]=>none
 |[a]=>r.e c a
 |a::b::rs=>(r.e c a).bind λma=>(yf op (b::rs)).map λmb=>match op with
  |.And=>.eL ma mb
  |.Or=>.kz ma mb
def yg(op:BoolOp):List Expr->Option ME
 |[]=>none
 |[a]=>r.t c a
 |a::b::rs=>(r.t c a).bind λma=>(yg op (b::rs)).map λmb=>match op with
  |.And=>.eL ma mb
  |.Or=>.kz ma mb
def L':List Expr->Option ME
 |[]=>some .no
 |[e]=>r.t c e
 |_=>none
def A3:List Stmt->Option MS
 |[]=>some .pass
 |s::rs=>(r.s c s).bind λm=>(A3 rs).map λms=>.seq m ms
def DV(x:Str):Option ME :=
 if qj x then(if c.uy x then(c.idx x).map .var else if c.gl x then((c.con.lookup x).map .lit).orElse λ_=>if c.blt.contains x then(DO.lookup x).map λt=>.lit (.ty t) else none else none) else none
def zA(op:UnaryOp)(a:Expr):Option ME:=if op=.Not then(r.e c a).map .eX else c1 r c (.un op) a
def i6.zb(b:Expr):Option (List D):=(asName b).bind λx=>if c.gl x&&qj x then c.gd.lookup x else none
def VF:CmpOp->Option Bool
 |.In=>some false
 |.NotIn=>some true
 |_=>none
def wo(a:Expr)(ops:List CmpOp)(bs:List Expr):Option ME:=match ops,bs with
 |[op],[b]=>if behindInMarks op b then none else((VF op).bind λneg=>(c.zb b).bind λkvs=>(r.e c a).map λma=>.prim (yi neg) (.cons (.lit (.tup kvs)) (.cons ma .nil))).orElse λ_=>c2 r c (.cmp op) a b
 |[op,iw],[b,d]=>if lastMarks [op,iw] [b,d] then none else(r.e c a).bind λma=>(r.e c b).bind λmb=>(r.e c d).map λmd=>.chain op iw ma mb md
 |_,_=>none
def Vo:Expr->Option (Option Expr×Option Expr×Option Expr)
 |.Slice lo hi st _=>some (lo,hi,st)
 |_=>none
def ET(a:Expr):Option Expr->Option Expr->Option Expr->Option ME
 |none,none,none=>c1 r c (.mS false false) a
 |some b,none,none=>c2 r c (.mS true false) a b
 |none,some b,none=>c2 r c (.mS false true) a b
 |_,_,_=>none
def Ew(a b:Expr):Option ME:=((Vo b).bind λq=>ET r c a q.1 q.2.1 q.2.2).orElse λ_=>if fW b then((c.zb a).bind λkvs=>(r.e c b).map λmb=>.prim .nK (.cons (.lit (.tup kvs)) (.cons mb .nil))).orElse λ_=>c2 r c .ix a b else none
def zB(x:Str)(e:Expr):Option ME:=(Cf e).bind λq =>
 if x="list" && q.1="range" && c.blt.contains "list" && c.blt.contains "range" && c.gl "range" then (match q.2 with
  |[a]=>if fW a then c1 r c .jc a else none
  |[a,b]=>if fW a&&fW b then c2 r c .ki a b else none
  | _=>none)
 else if x="sorted" && q.1="set" && c.blt.contains "sorted" && c.blt.contains "set" && c.gl "set" then (match q.2 with
  |[a]=>if fW a then c1 r c .sset a else none
  | _=>none)
 else if x="len" && q.1="set" && c.blt.contains "len" && c.blt.contains "set" && c.gl "set" then (match q.2 with
  |[a]=>if fW a then c1 r c .tQ a else none
  | _=>none)
 else none
def WJ(x:Str)(e:Expr):List Expr->Option ME
 |[]=>zB r c x e
 |_=>none
def BZ(x:Str):Option ME:=if qj x&&c.gl x then(c.cls.lookup x).map λf=>.make x f .nil else none
def Ca(x:Str)(e:Expr)(es:List Expr):Option ME:=if qj x&&c.gl x then(WJ r c x e es).orElse λ_=>(J6 r c (e::es)).bind λms=>((c.fns.lookup x).map λf=>.call f ms).orElse λ_=>((c.cls.lookup x).map λf=>.make x f ms).orElse λ_=>if c.blt.contains x then(Ea.lookup x).map λp=>.prim p ms else none else none
def Kz(x:Str):List Expr->Option ME
 |[]=>BZ c x
 |e::es=>Ca r c x e es
def Cb(o:Expr)(m:Str)(apos pos:Pos)(args:List Expr):Option ME :=
 if yy o && (apos.endLine == pos.line) && decide (args.length < 20) then (r.e c o).bind λmo=>(J6 r c args).bind λms=>if m="index" then (if args.isEmpty then none else some (.dR .index mo ms)) else if args.isEmpty && (yM.lookup m).isSome then (yM.lookup m).map λp=>.dR p mo ms else (match Ej.lookup m with
  |some p=>if args.isEmpty then none else some (.dR p mo ms)
  | none=>none) else none
def DU(f:Expr)(args:List Expr)(js:List Keyword)(pos:Pos):Option ME:=if js.isEmpty then(match f with
 |.Name x _=>Kz r c x args
 |.Attribute o m apos=>Cb r c o m apos pos args
 | _=>none) else none
def wz(tg e:Expr):Option ME:=(((Cf e).bind λq =>
  if q.1="enumerate" then (match q.2 with
   |[a]=>if c.gl "enumerate"&&c.blt.contains "enumerate"&&fW a&&HU tg then(r.e c a).map .jS else none
   | _=>none)
  else if q.1="reversed" then (match q.2 with
   |[a]=>if c.gl "reversed"&&c.blt.contains "reversed"&&fW a then(r.e c a).map .nV else none
   | _=>none)
  else if q.1="range" then (match q.2 with
   |[a]=>if c.gl "range"&&c.blt.contains "range"&&fW a then(r.e c a).map .fA else none
   |[a,b]=>if c.gl "range"&&c.blt.contains "range"&&fW a&&fW b then(r.e c a).bind λma=>(r.e c b).map λmb=>.kl ma mb else none
   | _=>none)
  else none):Option ME).orElse λ_=>if fW e then (r.e c e).map .fF else none
def Y9(elt:Expr)(gens:List Comprehension)(sc:Scope):Option ME:=match gens with
 |[⟨tg,it,ifs,FK⟩]=>if c.Cy sc&&decide (FK=0)&&fW it then((c.inner sc).tg tg).bind λt=>(wz r c tg it).bind λmi=>(L' r (c.inner sc) ifs).bind λmc=>(r.e (c.inner sc) elt).map λme=>.comp (c.d6 sc) (frees sc++locals sc).length t mi mc me else none
 |_=>none
def Vm:Expr->Option Str
 |.Name x _=>some x
 |_=>none
def Vn:Expr->Option (Expr×List Comprehension×Scope)
 |.SetComp elt gens sc _=>some (elt,gens,sc)
 |_=>none
def WE:ME->Option ME
 |.comp a n t i k e=>some (.hJ a n t i k e)
 |_=>none
def zC(f:Expr)(args:List Expr)(js:List Keyword):Option ME:=match args with
 |[a]=>if js.isEmpty&&decide (Vm f=some "sorted")&&c.gl "sorted"&&c.blt.contains "sorted" then(Vn a).bind λq=>(Y9 r c q.1 q.2.1 q.2.2).bind WE else none
 |_=>none
def xi(f:Expr)(args:List Expr)(js:List Keyword):Option ME:=(λ(_:i6)=>none) c
def Eu(es:List Expr)(k:Nat):Option ME:=if c.nL&&decide (k=0) then(match es with
 |[.Constant (.int i) _ _]=>some (.prim (.kc i) .nil)
 | _=>none) else none
def Ip:Expr->Option ME
 |.Name x _=>DV c x
 |.Constant k _ _=>(DA k).map .lit
 |.BinOp a op b _=>c2 r c (.bin op) a b
 |.UnaryOp op a _=>zA r c op a
 |.Compare a ops bs _=>wo r c a ops bs
 |.BoolOp op vs _=>yf r c op vs
 |.IfExp t a b _=>(r.t c t).bind λmt=>(r.e c a).bind λma=>(r.e c b).map λmb=>.ite mt ma mb
 |.Tuple es _ _=>(J6 r c es).map (.prim .tup)
 |.List es _=>(J6 r c es).map (.prim .lst)
 |.Subscript a b _=>Ew r c a b
 |.Dict ks vs _=>if ks.isEmpty&&vs.isEmpty then some (.prim .oV .nil) else if decide (ks.length<=15) then(wy r c ks vs).map .og else none
 |.JoinedStr vs _=>if decide (2<=vs.length)&&decide (vs.length<=40) then(tU r c vs).map (.prim .lR) else none
 |.Attribute o f _=>if yy o then c1 r c (.fld f) o else none
 |.Call f args js pos=>(zC r c f args js).orElse λ_=>(xi c f args js).orElse λ_=>DU r c f args js pos
 |.ListComp elt gens sc _=>Y9 r c elt gens sc
 |.Set es k _=>Eu c es k
 |_=>none
def stepT:Expr->Option ME
 |.UnaryOp op a _=>if op=.Not then(r.t c a).map .eX else none
 |.BoolOp op vs _=>yg r c op vs
 |.Compare a ops bs _=>(wo r c a ops bs).map .fS
 |e=>if Dm e then(r.e c e).map .fS else none
def i6.yo:List Expr->Expr->Bool
 |[.Name x px,.Name y py],.Tuple [a,b] _ _=>decide (c.nm.lookup x=some .local)&&decide (c.nm.lookup y=some .local)&&decide (x≠y)&&decide (py.line=px.line)&&fW a&&fW b&&!([a,b].all (foldedForSure 8))&&!([a,b].all (constantsAlone 8))
 |_,_=>false
def Cg:Option Expr->Option Expr->Option (Str×Expr×List Expr)
 |some (.Call (.Name x _) (e::es) [] _),none=>some (x,e,es)
 |_,_=>none
def i6.za(f:Str):List Str:=(c.oK.filter λy=>decide (y.1=f)).map (·.2)
def DZ:List Expr->Option (Expr×Expr×Expr×Expr)
 |_=>none
def HF(tg e:Expr):Option MS:=match tg with
 |.Name x _=>if c.A5 x then(c.idx x).bind λi=>(r.e c e).map λm=>.set i m else none
 |.Tuple es _ _=>(DZ es).elim (if(tZ e&&w9 e)||c.yo es e then(c.slots es).bind λis=>(r.e c e).map λm=>.mj (.many is) m else none) λq=>if w9 e&&fW q.2.1&&fW q.2.2.2 then(r.e c q.1).bind λm1=>(r.e c q.2.1).bind λn1=>(r.e c q.2.2.1).bind λm2=>(r.e c q.2.2.2).bind λn2=>(r.e c e).map λm=>.xn m1 n1 m2 n2 m else none
 |.Subscript o i _=>if fW i&&w9 e then(r.e c o).bind λmo=>(r.e c i).bind λmi=>(r.e c e).map λm=>.eF mo mi m else none
 |.Attribute o f _=>if w9 e then(r.e c o).bind λmo=>(r.e c e).map λm=>.ic f (c.za f) mo m else none
 |_=>none
def HV:Operator->Option Pr
 |.Add=>some .iadd
 |.Sub=>some .nk
 |_=>none
def toR(e:Expr)(m:ME):ME:=(λ(_:i6)=>m) c
def Iq:Stmt->Option MS
 |.Expr e _=>if w9 e then(r.e c e).map .expr else none
 | .Assign zK e _=>(match zK with
  |[tg]=>HF r c tg e
  | _=>none)
 | .AugAssign tg op e _=>(match tg with
  |.Name x _=>if c.A5 x then(HV op).bind λp=>(c.idx x).bind λi=>(r.e c e).map λm=>.kr i p m else none
  | _=>none)
 |.If t a b _=>(r.t c t).bind λmt=>(A3 r c a).bind λma=>(A3 r c b).map λmb=>.ifs mt ma mb
 |.For tg it body oP _=>if c.nL&&(oP.isEmpty&&fW it) then(c.tg tg).bind λt=>(wz r c tg it).bind λmi=>(A3 r c body).map λmb=>.dY t mi mb else none
 |.While t body oP _=>if c.nL&&oP.isEmpty then(r.t c t).bind λmt=>(A3 r c body).map λmb=>.jE mt mb else none
 | .Return e _=>(match e with
  |some e=>(r.e c e).map λm=>.ret (toR c e m)
  | none=>some .qJ)
 |.Pass _=>some .pass
 |.Raise e f _=>(Cg e f).bind λq=>if c.lL&&c.exc.contains q.1&&c.gl q.1&&qj q.1 then(J6 r c (q.2.1::q.2.2)).map (.raise q.1) else none
 |_=>none
end
def comp:Nat->CF
 |0=>⟨λ_ _=>none,λ_ _=>none,λ_ _=>none⟩
 |n+1=>⟨Ip (comp n),stepT (comp n),Iq (comp n)⟩
end M

namespace M
open PySem L2 PySem.Spec PyProof.Rows
structure iO(X:Cx)(c:i6)(P:fH)(Ξ:iM):Prop where
 N:X.N=c.N
 nd:c.N.Nodup
 loc:∀x,c.nm.lookup x=some .local->X.env.scope.names.lookup x=some .local
 BK:∀x,c.nm.lookup x=some .cell->X.env.scope.names.lookup x=some .cell
 GQ:∀x,c.nm.lookup x=some .free->X.env.scope.names.lookup x=some .cell\/X.env.scope.names.lookup x=some .free
 Px:∀x,c.nm.lookup x=some .globalImplicit->X.env.scope.names.lookup x=some .globalImplicit
 cells:∀x,(c.nm.lookup x=some .cell\/c.nm.lookup x=some .free)->∃a,X.env.cells.lookup x=some a
 nL:∀x,c.nm.lookup x=some .cell->X.fn x=true
 calm:X.calm=true
 units:X.A.units+100<cLine
 own:c.nL=true->PassesOwn (model X.prog X.w) X.A X.env X.xe
 mono:i7 P
 con:∀x d,c.con.lookup x=some d->∃v u,X.mg x=some u/\RelV v u/\∀ρ H,d8 X.K ρ H d v
 blt:∀x,c.blt.contains x=true->X.mg x=none
 fns:∀x f,c.fns.lookup x=some f->∃k fa fd ps,qo X P Ξ.1 k f fa fd ps/\x6 k X.A/\X.mg x=some (.ref fa)/\PySem.W.keepIn X.K (.ref fa)=true
 cls:∀x f,c.cls.lookup x=some f->∃k C fa fd ps,qo X P Ξ.1 k f fa fd ps/\x6 (k+1) X.A/\X.mg x=some (.ref C)/\v7 X.K x C/\jU X.K C/\Mk X.K C fa
 qT:∀m y f C,(m,y,f)∈c.qT->v7 X.K y C->∃k fa fd ps,Meth X.K C m fa/\qo X P Ξ.1 k f fa fd ps/\x6 k X.A
 oK:∀f y C,(f,y)∈c.oK->v7 X.K y C->C0 X.K C f
 GU:Ξ.1=c.exc
 pass:Passes (jv X.prog X.w) X Ξ.2
 lL:c.lL=true->yC X Ξ.2
 oq:c.oq=true->X.stack=X.env::X.outer/\X.env.frame=some X.env.locals/\LV X Ξ.2
 exc:∀x,c.exc.contains x=true->∃C,X.mg x=some (.ref C)/\v7 X.K x C/\∃B newId gM bm,OwnCls x C bm newId X.mg X.base/\ExcBaseFacts B newId gM bm
 PQ:∀x y C C',c.exc.contains x=true->c.exc.contains y=true->v7 X.K x C->v7 X.K y C'->PySem.W.exmOne X.K (.ref C) (.ref C')=some (decide (x=y\/y="MintError"))
 xX:∀x kvs,c.gd.lookup x=some kvs->yc X x kvs
 code:c.nL=true->PySem.W.kdsCode X.K X.env.code=true
section
variable{X:Cx}{c:i6}{P:fH}{Ξ:iM}
theorem Tg{c:i6}{x:Str}{i:Nat}(h:c.idx x=some i):c.N[i]?=some x:=by
 unfold i6.idx at h;rw[ky] at h;obtain⟨h1,h2,_⟩:=h;rw[ah h1,bj h2]
theorem iO.Yw(C:iO X c P Ξ){x:Str}(h:c.uy x=true):wQ X.env.scope x:=by
 unfold i6.uy at h;split at h
 ·rename_i e;exact .inl (C.loc x e)
 ·rename_i e;exact .inr (.inl (C.BK x e))
 ·rename_i e;rcases C.GQ x e with z|z
  ·exact .inr (.inl z)
  ·exact .inr (.inr z)
 ·cases h
theorem iO.B6(C:iO X c P Ξ){x:Str}(h:c.gl x=true):Gl X x:=C.Px x (bj h)
theorem iO.A5(C:iO X c P Ξ){x:Str}(h:c.A5 x=true):Loc X.env.scope x/\(X.fn x=true\/X.env.scope.names.lookup x=some .local):=by
 unfold i6.A5 at h;rw[cV] at h;rcases h with h|h
 ·have:=C.loc x (bj h);exact⟨.inl this,.inr this⟩
 ·exact⟨.inr (C.BK x (bj h)),.inl (C.nL x (bj h))⟩
theorem iO.sf(C:iO X c P Ξ){x:Str}{i:Nat}(h:c.idx x=some i):X.N[i]?=some x:=by rw[C.N];exact Tg h
theorem iO.qS(C:iO X c P Ξ):X.N.Nodup:=by rw[C.N];exact C.nd
theorem Jt{e:Expr}{x:Str}(h:asName e=some x):∃p,e=.Name x p:=by
 cases e<;>first|(cases h;exact⟨_,rfl⟩)|cases h
theorem LR{e:Expr}{i:Nat}(h:c.slot e=some i):∃x p,e=.Name x p/\c.A5 x=true/\c.idx x=some i:=by
 unfold i6.slot at h;obtain⟨x,hx,h2⟩:=ak.mp h;obtain⟨p,rfl⟩:=Jt hx;split at h2
 ·exact⟨x,p,rfl,by assumption,h2⟩
 ·cases h2
theorem iO.slots(C:iO X c P Ξ):∀{es:List Expr} {is:List Nat},c.slots es=some is->fR X es is:=by
 intro es
 induction es with
 |nil=>intro is h;cases h;exact .nil
 |cons e r ih =>
  intro is h;unfold i6.slots at h;obtain⟨i,hi,h⟩:=ak.mp h;obtain⟨is',hs,rfl⟩:=aa.mp h;obtain⟨x,p,rfl,hl,hx⟩:=LR hi;exact .cons (C.sf hx) (C.A5 hl).1 (C.A5 hl).2 (ih hs)
theorem orElse_some{α:Type}{a:Option α}{b:Unit->Option α}{m:α}(h:a.orElse b=some m):a=some m\/b ()=some m:=by
 cases a with
 |none=>exact .inr h
 |some x=>exact .inl h
theorem iO.HK(C:iO X c P Ξ){tg:Expr}{t:MT}(h:c.tg tg=some t):PG X tg (LG X.K t):=by
 unfold i6.tg at h;rcases orElse_some h with h|h
 ·obtain⟨i,hi,rfl⟩:=aa.mp h;obtain⟨x,p,rfl,hl,hx⟩:=LR hi;exact Sa C.qS (C.sf hx) (C.A5 hl).1 (C.A5 hl).2
 ·cases tg<;>first|(cases h;done)|skip
  obtain⟨is,hs,rfl⟩:=aa.mp (show(c.slots _).map MT.many=some t from h);exact Lj C.calm C.qS (C.slots hs)
theorem n4{e:Expr}{es:List Expr}{env:Env}(h:fW e=true):starEach (e::es) env=(false,eval e env)::starEach es env:=by
 cases e<;>first|rfl|cases h
theorem Z9{e:Expr}{env:Env}(h:fW e=true):∀x,foldedSetIterable e env x=pure x:=by
 intro x;cases e<;>first|rfl|cases h
theorem Km{e:Expr}(h:fW e=true):Cd e:=by
 intro o i;cases e<;>first|rfl|cases h
theorem TL{o i:Expr}{tp:Pos}{env:Env}(h:fW i=true):∀v,assign (.Subscript o i tp) env v=(do
      let ov <- holding [v] (eval o env)
      let iv <- holding [v,ov] (eval i env)
      standAt tp
      holding [v,ov,iv] (setItem ov iv v)
      release [v,ov,iv] []):=by
  intro v;cases i<;>first|rfl|cases h
theorem U8{e:Expr}{t:Option Expr}{n:Nat}{env:Env}(h:w9 e=true):swapsWith e t n env=pure false:=by
 cases e<;>first|rfl|cases h
theorem a81{e:Expr}{es:List Expr}{k:Nat}{p:Pos}{env:Env}(h:tZ e=true):swappedStores [.Tuple es k p] e env=pure none:=by
 cases e<;>first|rfl|cases h
theorem ZZ{e:Expr}{env:Env}(h:Dm e=true):∀whole,isTrue e env whole=(do let v <- whole;standAt e.pos;holding [v] (truthy v)):=by
 intro w;cases e<;>first|rfl|cases h
theorem JJ{e:Expr}{q:Str×List Expr}(h:Cf e=some q):∃p pos,e=.Call (.Name q.1 p) q.2 [] pos:=by
 cases e<;>first|(cases h;done)|skip
 rename_i f as js pos;cases f<;>first|(cases h;done)|skip
 cases js<;>first|(cases h;done)|skip
 cases h;exact⟨_,_,rfl⟩
theorem a19{e:Expr}(h:HU e=true):∃es k p,e=.Tuple es k p:=by
 cases e<;>first|exact⟨_,_,_,rfl⟩|cases h
theorem Ly{b:Expr}{kvs:List D}(h:c.zb b=some kvs):∃x p,b=.Name x p/\c.gl x=true/\qj x=true/\c.gd.lookup x=some kvs:=by
 unfold i6.zb at h;obtain⟨x,hx,h2⟩:=ak.mp h;obtain⟨p,rfl⟩:=Jt hx;split at h2
 ·rename_i hc;rw[aU] at hc;exact⟨x,p,rfl,hc.1,hc.2,h2⟩
 ·cases h2
theorem N6{o:Expr}{f:Str}{env:Env}(h:yy o=true):attributeBase o f env (eval o env)=eval o env:=by
 cases o<;>first|rfl|skip
 rename_i f as js pos;cases f<;>first|rfl|cases h
theorem Cm{env:Env}:∀(names:List (Str×NameKind)) (acc:List (Str×Addr)),(∀y∈names,y.2=.free->∃a,env.cells.lookup y.1=some a)->(∀x a,acc.lookup x=some a->env.cells.lookup x=some a) ->
  ∃ cl,(forIn names acc λ(y:Str × NameKind) (cs:List (Str × Addr))=>(match y with
   |(name,kind)=>if(kind==NameKind.free)=true then do
     let __do_lift <- cellOf env name
     pure (ForInStep.yield ((name,__do_lift)::cs))
    else pure (ForInStep.yield cs):Sem (ForInStep (List (Str × Addr)))))=pure cl/\(∀ x a,cl.lookup x=some a->env.cells.lookup x=some a)/\(∀ y ∈ names,y.2=.free->∃ a,cl.lookup y.1=some a)/\∀ x a,acc.lookup x=some a->∃ a',cl.lookup x=some a'
 |[],acc,_,h2=>⟨acc,rfl,h2,λy hy=>absurd hy (by simp),λx a h=>⟨a,h⟩⟩
 |(n,k)::r,acc,h1,h2=>by
  rw[List.forIn_cons];by_cases hk:k=.free
  ·subst hk;obtain⟨a,ha⟩:=h1 (n,.free) (by simp) rfl;have hc:cellOf env n=pure a:=by unfold cellOf;rw[ha]
   obtain ⟨cl,e,q1,q2,q3⟩:=Cm r ((n,a) :: acc) (λy hy=>h1 y (by simp [hy])) (λx b hb=>by
    rw[cQ] at hb;cases hx:x==n with
    |true=>rw[hx] at hb;cases hb;rw[eq_of_beq hx];exact ha
    | false=>rw [hx] at hb;exact h2 x b hb)
   refine⟨cl,?_,q1,λy hy hf=>?_,λx b hb=>?_⟩
   ·simp only[beq_self_eq_true,if_true,hc];exact e
   ·rcases aI.mp hy with z|z
    ·subst z;exact q3 n a (by simp[List.lookup_cons])
    ·exact q2 y z hf
   ·cases hx:x==n with
    |true=>exact q3 x a (by rw[cQ,hx])
    |false=>exact q3 x b (by rw[cQ,hx];exact hb)
  ·have hb:(k==NameKind.free)=false:=by simpa using hk
   obtain⟨cl,e,q1,q2,q3⟩:=Cm r acc (λy hy=>h1 y (by simp[hy])) h2;refine⟨cl,?_,q1,λy hy hf=>?_,q3⟩
   ·simp only[hb,Bool.false_eq_true,if_false];exact e
   ·rcases aI.mp hy with z|z
    ·subst z;exact absurd hf hk
    ·exact q2 y z hf
end
end M

namespace M
open PySem L2 PySem.Spec PyProof.Rows
theorem ZR{P:Program}{w:World}{X:Cx}:Passes (jv P w) X (λ_ _ _=>False):=λ_ _ _ _ _ _ _ h=>by
 obtain⟨_,_,_,_,_,_,_,z⟩:=h;exact z.elim
theorem P8{env:Env}:∀{names:List (Str×NameKind)} {x:Str},names.lookup x=some .globalImplicit ->
  (names.map λ(n,k)=>if(k==NameKind.free&&env.scope.kind==.function&&env.kindOf n==some .cell) then(n,NameKind.cell) else(n,k)).lookup x=some .globalImplicit
 |[],_,h=>by simp at h
 |(n,k)::r,x,h=>by
  have ih:=@P8 env r x;show List.lookup x ((if(k==NameKind.free&&env.scope.kind==.function&&env.kindOf n==some .cell)=true then(n,NameKind.cell) else(n,k))::_)=_;cases hx:x==n with
  |true =>
   simp only[List.lookup_cons,hx] at h;cases h;simp[List.lookup_cons,hx]
  |false =>
   simp only[List.lookup_cons,hx] at h;by_cases hc:(k==NameKind.free&&env.scope.kind==.function&&env.kindOf n==some .cell)=true
   ·rw[aK hc];simp only[List.lookup_cons,hx];exact ih h
   ·rw[aD hc];simp only[List.lookup_cons,hx];exact ih h
section
variable{X:Cx}{c:i6}{P:fH}{Ξ:iM}
theorem iO.comp(C:iO X c P Ξ){sc:Scope}(h:c.Cy sc=true):∃cl,dN X sc (frees sc++locals sc) (c.d6 sc) cl/\∀pins A s H fp,iO (f6 X pins sc (frees sc++locals sc) cl A s H fp) (c.inner sc) P (sD Ξ.1):=by
 unfold i6.Cy at h;simp only[Bool.and_eq_true,decide_eq_true_eq,List.all_eq_true] at h;obtain⟨⟨⟨⟨h1,h2⟩,h3⟩,h4⟩,h5⟩:=h;have nB:∀x,sc.names.lookup x=some .free->x∈frees sc:=λx hx=>by
  unfold frees;exact aM.mpr ⟨(x,.free),aT.mpr ⟨aQ hx,by simp⟩,rfl⟩
 have fr:∀x∈frees sc,(∃i,c.idx x=some i)/\sc.names.lookup x=some .free/\(c.nm.lookup x=some .cell\/c.nm.lookup x=some .free):=λx hx=>by
  have:=h5 x hx;rw[dB,cV] at this;simp only[decide_eq_true_eq] at this;exact⟨this.1.1,this.1.2,this.2⟩
 have rY:∀y∈sc.names,y.2=.free->∃a,X.env.cells.lookup y.1=some a:=λy hy hf=>by
  have hm:y.1∈frees sc:=aM.mpr ⟨y,aT.mpr ⟨hy,by simp[hf]⟩,rfl⟩;exact C.cells y.1 (fr y.1 hm).2.2
 obtain⟨cl,e,q1,q2,_⟩:=Cm sc.names [] rY (λx a h=>by simp at h);have h2:∀y∈sc.names,y.2=.cell->sc.names.lookup y.1=some .cell:=λy hy hl=>by
  have:=h2 y hy;rw[cV] at this;simp only[Bool.not_eq_true',decide_eq_false_iff_not,decide_eq_true_eq] at this;exact this.resolve_left λz=>z hl
 refine⟨cl,⟨h1,h2,λy hy hl=>?_,?_,q1,λx hx=>q2 (x,.free) (aQ hx) rfl,h4,λi j jn=>?_,?_⟩,λpins A s H fp=>?_⟩
 ·have:=h3 y hy;rw[cV] at this;simp only[Bool.not_eq_true',decide_eq_false_iff_not,decide_eq_true_eq] at this;exact this.resolve_left λz=>z hl
 ·simp only[closureFor];rw[e]
  rfl
 ·unfold i6.d6 at jn;rw[ai] at jn;cases ex:(frees sc)[i]? with
  |none=>rw[ex] at jn;cases jn
  |some x =>
   rw[ex] at jn;have hx:x∈frees sc:=aJ ex;obtain⟨⟨k,hk⟩,hl,hc⟩:=fr x hx;have hj:k=j:=by
    have:=aO jn;dsimp only at this;rw[hk] at this;exact this
   subst hj;refine⟨x,?_,C.sf hk,hl,?_⟩
   ·rw[aA (aj.mp ex).1];exact ex
   ·rcases hc with z|z
    ·exact .inl (C.BK x z)
    ·exact C.GQ x z
 ·unfold i6.d6;rw[ag,aY];omega
 ·refine⟨rfl,h4,λx hx=>lookup_relabel_local hx,λx hx=>?_,λx hx=>E8 hx,λx hx=>P8 hx,λx hx=>?_,λx _=>?_,rfl,C.units,(λ_=>PassesOwn.never),C.mono,C.con,C.blt,C.fns,C.cls,C.qT,C.oK,C.GU,ZR,(λz=>by cases z),(λz=>by cases z),C.exc,C.PQ,C.xX,(λz=>by cases z)⟩
  ·exact M1 hx
  ·rcases hx with hx|hx
   ·exact IX (.inl hx)
   ·exact IX (.inr (q2 (x,.free) (aQ hx) rfl))
  ·exact aF ‹_›
theorem M7{x:Str}(h:qj x=true):(x==("__debug__":Str))=false/\(x==("__classdict__":Str))=false/\x≠"__name__":=by
 unfold qj at h;simp only[Bool.and_eq_true,decide_eq_true_eq,beq_iff_eq] at h;exact⟨h.1.1,h.1.2,h.2⟩
theorem a29{x:Str}{t:String}(h:DO.lookup x=some t):bootBuiltins x=some (.type t):=by
 have hm:=aQ h;simp only[DO,List.mem_cons,List.mem_nil_iff,or_false] at hm;rcases hm with z|z|z|z|z<;>(cases z;first|exact xc|exact PyProof.Rows.boot_bool|exact PyProof.Rows.boot_str|exact sJ|exact fg|decide +kernel|rfl)
theorem a17{x:Str}{p:Pr}(hc:X.calm=true)(h:Ea.lookup x=some p):∃v,((∃id,v=.builtin id)\/∃T,v=.type T)/\bootBuiltins x=some v/\l6 X v (rN X.K p):=by
 have hm:=aQ h;simp only[Ea,List.mem_cons,List.mem_nil_iff,or_false] at hm;rcases hm with z|z|z|z|z|z|z|z|z|z|z
 ·cases z;exact⟨.builtin "len",.inl ⟨_,rfl⟩,PySem.boot_len,QG⟩
 ·cases z;exact⟨.type "list",.inr ⟨_,rfl⟩,by first|exact fg|decide +kernel,Tt⟩
 ·cases z;exact⟨.type "tuple",.inr ⟨_,rfl⟩,by first|exact sJ|decide +kernel,a32⟩
 ·cases z;exact⟨.builtin "isinstance",.inl ⟨_,rfl⟩,by first|exact PyProof.Rows.boot_isinstance|decide +kernel,To⟩
 ·cases z;exact⟨.builtin "all",.inl ⟨_,rfl⟩,by first|exact PyProof.Rows.boot_all|decide +kernel,YE hc⟩
 ·cases z;exact⟨.builtin "max",.inl ⟨_,rfl⟩,by first|exact PyProof.Rows.boot_max|decide +kernel,QM hc⟩
 ·cases z;exact⟨.builtin "min",.inl ⟨_,rfl⟩,by first|exact PyProof.Rows.boot_min|decide +kernel,QN hc⟩
 ·cases z;exact⟨.type "int",.inr ⟨_,rfl⟩,by first|exact xc|decide +kernel,Qv⟩
 ·cases z;exact⟨.builtin "any",.inl ⟨_,rfl⟩,by first|exact PyProof.Rows.boot_any|decide +kernel,YH hc⟩
 ·cases z;exact⟨.builtin "sorted",.inl ⟨_,rfl⟩,by first|exact gX|decide +kernel,a39 hc⟩
 ·cases z;exact⟨.builtin "sum",.inl ⟨_,rfl⟩,by first|exact PyProof.Rows.boot_sum|decide +kernel,Sq hc⟩
theorem aO9{x:Str}{p:Pr}(h:yM.lookup x=some p):∃T id,PlainAttrs T/\Slot T x id/\typeOf (.builtin id)=pure (.type "method_descriptor")/\lU X id (rM X.K p) /\
  ∀{d:D} {v:V} {g:G} {ρ:List Addr} {H:Hp},Rl X.K ρ g H->d8 X.K ρ H d v->lN p d g->nT X.K T v H:=by
 cases h
theorem ZE{x:Str}{p:Pr}(hu:X.A.units+100<cLine)(h:Ej.lookup x=some p):∃T id,PlainAttrs T/\Slot T x id/\typeOf (.builtin id)=pure (.type "method_descriptor")/\lU X id (rM X.K p) /\
  ∀{d:D} {v:V} {g:G} {ρ:List Addr} {H:Hp},Rl X.K ρ g H->d8 X.K ρ H d v->lN p d g->nT X.K T v H:=by
 have hm:=aQ h;simp only[Ej,List.mem_cons,List.mem_nil_iff,or_false] at hm;rcases hm with z|z|z|z
 ·cases z;exact⟨_,_,sH,PySem.F.slot_list_append,PySem.F.type_list_append,a21,λR r h=>ty_list R r h⟩
 ·cases z;exact⟨_,_,sH,PySem.F.slot_list_pop,PySem.F.type_list_pop,a68,λR r h=>ty_list R r h⟩
 ·cases z;exact⟨_,_,PySem.F.plainAttrs_dict,iU,PySem.F.type_dict_get,YQ hu,λR r h=>ty_dict R r h⟩
 ·cases z;exact⟨_,_,PySem.F.plainAttrs_set,PySem.F.slot_set_add,PySem.F.type_set_add,Uw,λR r h=>ty_set R r h⟩
theorem IH{pos:Pos}{env:Env}:∀{es:List Expr},(∀e∈es,fW e=true)->(backTo pos (starEach es env)).all (λx=>!x.1)=true
 |[],_=>rfl
 |e::es,h=>by
  rw[n4 (h e (by simp))];have ih:=IH (pos:=pos) (env:=env) (es:=es) λx hx=>h x (by simp[hx]);unfold backTo at ih ⊢;rw[bg,jQ,ih]
  rfl
theorem R8{pos:Pos}{env:Env}:∀{es:List Expr},(∀e∈es,fW e=true)->(backTo pos (starEach es env)).any (·.1)=false
 |[],_=>rfl
 |e::es,h=>by
  rw[n4 (h e (by simp))];have ih:=R8 (pos:=pos) (env:=env) (es:=es) λx hx=>h x (by simp[hx]);unfold backTo at ih ⊢;rw[bg,fI,ih]
  rfl
theorem CH{r:CF}:∀{es:List Expr} {m:ME},J6 r c es=some m->∀e∈es,fW e=true:=by
 intro es
 induction es with
 |nil=>intro m _ e he;exact absurd he (by simp)
 |cons a es ih =>
  intro m h e he;unfold J6 at h;split at h
  ·obtain⟨m1,h1,h⟩:=ak.mp h;obtain⟨m2,h2,_⟩:=aa.mp h;rcases aI.mp he with z|z
   ·rw[z];assumption
   ·exact ih h2 e z
  ·cases h
end
theorem aR6{a:Expr}{x:Str}(h:LY a=some x):∃j p,a=.Constant (.str x) j p:=by
 cases a with
 |Constant k j p=>cases k with
  |str y=>cases h;exact⟨_,_,rfl⟩
  |_=>cases h
 |_=>cases h
theorem Vd{a e:Expr}(h:IA a=some e):∃p,a=.FormattedValue e (-1) none p:=by
 cases a with
 |FormattedValue v k f p=>cases f with
  |none =>
   have h2:(if k=-1 then some v else none)=some e:=h;split at h2
   ·rename_i hk;cases h2;rw[hk];exact⟨_,rfl⟩
   ·cases h2
  |some _=>cases h
 |_=>cases h
structure ql(P:fH)(r:CF):Prop where
 e:∀X c Ξ,iO X c P Ξ->∀e m,r.e c e=some m->PE X e (LE X.K Ξ (aS P m))
 t:∀X c Ξ,iO X c P Ξ->∀e m,r.t c e=some m->PT X e (LT X.K Ξ (cT P m))
 s:∀X c Ξ,iO X c P Ξ->∀st m,r.s c st=some m->PS X st (LS X.K Ξ (wpS P m))
section
variable{X:Cx}{c:i6}{P:fH}{Ξ:iM}{r:CF}(S:ql P r)(C:iO X c P Ξ){a b d e:Expr}{m:ME}{pos:Pos}
include S C
theorem Y8{p:Pr}(h:c1 r c p a=some m):∃ma,PE X a (LE X.K Ξ (aS P ma))/\m=.prim p (.cons ma .nil):=by
 obtain⟨ma,ha,rfl⟩:=aa.mp h;exact⟨ma,S.e X c Ξ C _ _ ha,rfl⟩
theorem Y7{p:Pr}(h:c2 r c p a b=some m):∃ma mb,PE X a (LE X.K Ξ (aS P ma))/\PE X b (LE X.K Ξ (aS P mb))/\m=.prim p (.cons ma (.cons mb .nil)):=by
 obtain⟨ma,ha,h⟩:=ak.mp h;obtain⟨mb,hb,rfl⟩:=aa.mp h;exact⟨ma,mb,S.e X c Ξ C _ _ ha,S.e X c Ξ C _ _ hb,rfl⟩
theorem sX:∀{es:List Expr} {m:ME},J6 r c es=some m->PA X es (LA X.K Ξ (dJ P m)):=by
 intro es
 induction es with
 |nil=>intro m h;cases h;exact L0 C.mono
 |cons a es ih =>
  intro m h;unfold J6 at h;split at h
  ·rename_i bZ;obtain⟨m1,h1,h⟩:=ak.mp h;obtain⟨m2,h2,rfl⟩:=aa.mp h;exact C3 C.mono (S.e X c Ξ C _ _ h1) (ih h2) (n4 bZ)
  ·cases h
theorem Nt:∀{es:List Expr} {m:ME},tU r c es=some m->∃ts,mF X Ξ P es m ts:=by
 intro es
 induction es with
 |nil=>intro m h;cases h;exact⟨_,.nil⟩
 |cons a es ih =>
  intro m h;unfold tU at h;rcases orElse_some h with h1|h1
  ·obtain⟨x,hx,h2⟩:=ak.mp h1;obtain⟨j,p,rfl⟩:=aR6 hx;split at h2
   ·obtain⟨m2,h3,rfl⟩:=aa.mp h2;obtain⟨ts,F⟩:=ih h3;exact⟨_,.lit (by assumption) F⟩
   ·cases h2
  ·obtain⟨x,hx,h2⟩:=ak.mp h1;obtain⟨m1,h3,h4⟩:=ak.mp h2;obtain⟨m2,h5,rfl⟩:=aa.mp h4;obtain⟨p,rfl⟩:=Vd hx;obtain⟨ts,F⟩:=ih h5;exact⟨_,.val (S.e X c Ξ C _ _ h3) F⟩
theorem Nv:∀{ks:List (Option Expr)} {vs:List Expr} {m:ME},wy r c ks vs=some m->∃ir,mG X Ξ P ks vs m ir:=by
 intro ks
 induction ks with
 |nil=>intro vs m h;cases vs<;>first|(cases h;exact⟨_,.nil⟩)|cases h
 |cons k ks ih =>
  intro vs m h;cases k<;>first|(cases h;done)|skip
  cases vs<;>first|(cases h;done)|skip
  unfold wy at h;obtain⟨m1,h1,h⟩:=ak.mp h;obtain⟨m2,h2,h⟩:=ak.mp h;obtain⟨m3,h3,rfl⟩:=aa.mp h;obtain⟨ir,D⟩:=ih h3;exact⟨_,.cons (S.e X c Ξ C _ _ h1) (S.e X c Ξ C _ _ h2) D⟩
theorem Nw{op:BoolOp}:∀{vs:List Expr} {m:ME},yf r c op vs=some m->PE X (.BoolOp op vs pos) (LE X.K Ξ (aS P m)):=by
 intro vs
 induction vs with
 |nil=>intro m h;cases h
 |cons a vs ih =>
  intro m h;cases vs with
  |nil=>exact Rp (S.e X c Ξ C _ _ h)
  |cons b vs =>
   unfold yf at h;obtain⟨m1,h1,h⟩:=ak.mp h;obtain⟨m2,h2,rfl⟩:=aa.mp h;cases op
   ·exact RN C.mono (S.e X c Ξ C _ _ h1) (ih h2)
   ·exact Yd C.mono (S.e X c Ξ C _ _ h1) (ih h2)
theorem Nn{op:BoolOp}:∀{vs:List Expr} {m:ME},yg r c op vs=some m->PW X (.BoolOp op vs pos) (LT X.K Ξ (cT P m)):=by
 intro vs
 induction vs with
 |nil=>intro m h;cases h
 |cons a vs ih =>
  intro m h;cases vs with
  |nil =>
   cases op
   ·exact Ut (S.t X c Ξ C _ _ h)
   ·exact RG (S.t X c Ξ C _ _ h)
  |cons b vs =>
   unfold yg at h;obtain⟨m1,h1,h⟩:=ak.mp h;obtain⟨m2,h2,rfl⟩:=aa.mp h;cases op
   ·exact Sr C.mono (S.t X c Ξ C _ _ h1) (ih h2)
   ·exact Yg C.mono (S.t X c Ξ C _ _ h1) (ih h2)
theorem VR{es:List Expr}(h:L' r c es=some m):lB X es (LT X.K Ξ (cT P m)):=by
 rcases es with _|⟨e,_|⟨_,_⟩⟩
 ·cases h;exact UQ C.mono
 ·exact Ur (S.t X c Ξ C _ _ h)
 ·cases h
theorem wM:∀{Fc:List Stmt} {m:MS},A3 r c Fc=some m->jN X Fc (LS X.K Ξ (wpS P m)):=by
 intro es
 induction es with
 |nil=>intro m h;cases h;exact Sg C.mono
 |cons a es ih =>
  intro m h;unfold A3 at h;obtain⟨m1,h1,h⟩:=ak.mp h;obtain⟨m2,h2,rfl⟩:=aa.mp h;exact UO C.mono (S.s X c Ξ C _ _ h1) (ih h2)
end
theorem JS{e t:Expr}{n:Nat}{env:Env}(h:w9 e=true):swapsWithSole [t] e n env=pure false:=by
 show swapsWith e (some t) n env=pure false;exact U8 h
theorem aN9{x y:Str}{px py pt pE:Pos}{kt k2:Nat}{a b:Expr}{env:Env}(hk:env.scope.kind=.function)(hx:env.kindOf x=some .local)(hy:env.kindOf y=some .local)(dF:x≠y)(hl:py.line=px.line)(ha:fW a=true)(hb:fW b=true)(h1:[a,b].all (foldedForSure 8)=false)(h2:[a,b].all (constantsAlone 8)=false):swappedStores [.Tuple [.Name x px,.Name y py] kt pt] (.Tuple [a,b] k2 pE) env=pure (some [x,y]):=by
 have OL:env.blockKind=.function:=by simp[Env.blockKind,hk,ScopeKind.isAnnotationScope]
 have hd:[x,y].eraseDups.length=2:=by
  have:(y==x)=false:=by simpa using bT dF
  simp[List.eraseDups_cons,this]
 have pJ:(env.kindOf x==some NameKind.local&&px.line==px.line)=true:=by simp[hx]
 have Ag:(env.kindOf y==some NameKind.local&&py.line==px.line)=true:=by simp[hy,hl]
 have hp:Expr.pos (.Name x px)=px:=rfl;unfold swappedStores;simp only[List.length_cons,List.length_nil,OL,List.head?_cons,Option.map_some,Option.getD_some,hp,List.filterMap_cons,List.filterMap_nil,pJ,Ag,if_true,hd,h1,h2];rw[aD (by decide),aD ?_]
 ·rfl
 ·simp only[List.any_cons,List.any_nil,Bool.or_false,Bool.or_eq_true,not_or];constructor
  ·cases a<;>first|(intro h;cases h;done)|cases ha
  ·cases b<;>first|(intro h;cases h;done)|cases hb
theorem Su{X:Cx}{Ξ:iM}{P:fH}(hP:i7 P){i j:Nat}{x y:Str}{a b:Expr}{px py pt pE pos:Pos}{kt k2:Nat}{gL:ME}(hc:X.calm=true)(hN:X.N.Nodup)(hi:X.N[i]?=some x)(hj:X.N[j]?=some y)(dF:x≠y)(hl:py.line=px.line)(hx:X.env.scope.names.lookup x=some .local)(hy:X.env.scope.names.lookup y=some .local)(oa:fW a=true)(ob:fW b=true)(h1:[a,b].all (foldedForSure 8)=false)(h2:[a,b].all (constantsAlone 8)=false)(ha:PA X [a,b] (LA X.K Ξ (dJ P gL))):PS X (.Assign [.Tuple [.Name x px,.Name y py] kt pt] (.Tuple [a,b] k2 pE) pos) (LS X.K Ξ (wpS P (.mj (.many [i,j]) (.prim .tup gL)))):=by
 intro pins s cg H D I h;have jn:i≠j:=by
  rintro rfl;rw[hi] at hj;cases hj;exact dF rfl
 refine RB hc hN hi hj jn hx hy ha (aN9 I.ok.kind hx hy dF hl oa ob h1 h2) rfl pins s cg H D I ?_;obtain⟨Z,g,ρ,sr,R,h⟩:=h;refine jF hP sr R (.refl _ _) (show dJ P gL Z g (λxs g1=>cY .tup xs g1 _) _ from h) λds g1 bU H1 vs e1 R1 r1 h=>?_;obtain⟨d',g',⟨_,rfl,rfl⟩,l,cq,ex,hs,h⟩:=h;cases ex;have hl:=Z6 hs;have e2:∃d1 d2,ds=[d1,d2]:=by
  rcases ds with _|⟨d1,_|⟨d2,_|⟨d3,r⟩⟩⟩<;>first|exact⟨_,_,rfl⟩|(simp at hl;done)|(simp at hl;omega)
 obtain⟨d1,d2,rfl⟩:=e2;obtain⟨v,w,rfl,q1,q2⟩:=r1.two;cases hs;exact⟨_,_,rfl,h bU H1 _ e1 R1 (((sr.ext e1).set i q1).set j q2)⟩
end M

namespace M
open PySem L2 PySem.Spec PyProof.Rows
section
variable{X:Cx}{c:i6}{P:fH}{Ξ:iM}{r:CF}(S:ql P r)(C:iO X c P Ξ){a b d e:Expr}{m:ME}{pos:Pos}
include C
theorem QP{x:Str}(h:DV c x=some m):PE X (.Name x pos) (LE X.K Ξ (aS P m)):=by
 unfold DV at h;split at h
 ·rename_i jo;obtain⟨d1,d2,d3⟩:=M7 jo;split at h
  ·rename_i hv;obtain⟨i,hi,rfl⟩:=aa.mp h;exact RY (C.sf hi) (C.Yw hv) d1 d2
  ·split at h
   ·rename_i hg;rcases orElse_some h with h|h
    ·obtain⟨d,hd,rfl⟩:=aa.mp h;obtain⟨v,u,hm,r,rr⟩:=C.con x d hd;exact S0 (yN (C.B6 hg) hm r d1) rr
    ·split at h
     ·rename_i hb;obtain⟨t,ht,rfl⟩:=aa.mp h;exact S0 (v:=.ty t) (Ub (C.B6 hg) (C.blt x hb) (a29 ht) rfl d3 d1) λ_ _=>.ty t
     ·cases h
   ·cases h
 ·cases h
omit C in
theorem Nr{k:Const}{j:Nat}{d:D}(h:DA k=some d):PE X (.Constant k j pos) (LE X.K Ξ (aS P (.lit d))):=by
 cases k<;>first|(cases h;done)|skip
 ·cases h;exact S0 Rn λ_ _=>.bQ
 ·cases h;exact S0 XI λ_ _=>.bl _
 ·cases h;exact S0 Rk λ_ _=>.int _
 ·cases h;exact S0 Ko λ_ _=>.str _
include S
theorem VS{op:UnaryOp}(h:zA r c op a=some m):PE X (.UnaryOp op a pos) (LE X.K Ξ (aS P m)):=by
 unfold zA at h;split at h
 ·rename_i ho;subst ho;obtain⟨ma,ha,rfl⟩:=aa.mp h;exact RV C.mono (S.e X c Ξ C _ _ ha)
 ·obtain⟨ma,ha,rfl⟩:=Y8 S C h;exact Ye C.mono ha
theorem Ii{ops:List CmpOp}{bs:List Expr}(h:wo r c a ops bs=some m):PE X (.Compare a ops bs pos) (LE X.K Ξ (aS P m))/\PT X (.Compare a ops bs pos) (LT X.K Ξ (cT P (.fS m))):=by
 unfold wo at h;split at h
 ·rename_i op b;split at h
  ·cases h
  ·rename_i hm;have hm:behindInMarks op b=false:=by simpa using hm
   rcases orElse_some h with h|h
   ·obtain⟨neg,hn,h⟩:=ak.mp h;obtain⟨kvs,hk,h⟩:=ak.mp h;obtain⟨ma,ha,rfl⟩:=aa.mp h;obtain⟨x,p,rfl,hg,hd,hk⟩:=Ly hk;have ho:op=if neg then .NotIn else .In:=by cases op<;>cases hn<;>rfl
    subst ho;exact⟨RS C.mono (C.B6 hg) (M7 hd).1 (C.xX x kvs hk) (S.e X c Ξ C _ _ ha) hm,Sk C.mono (C.B6 hg) (M7 hd).1 (C.xX x kvs hk) (S.e X c Ξ C _ _ ha) hm⟩
   ·obtain⟨ma,mb,ha,hb,rfl⟩:=Y7 S C h;exact⟨El C.mono (KU (X9 C.units op) ha hb hm),Sn C.mono (La (X9 C.units op) ha hb hm)⟩
 ·split at h
  ·cases h
  ·rename_i hm;obtain⟨ma,ha,h⟩:=ak.mp h;obtain⟨mb,hb,h⟩:=ak.mp h;obtain⟨md,hd,rfl⟩:=aa.mp h;exact⟨a50 C.mono C.units (S.e X c Ξ C _ _ ha) (S.e X c Ξ C _ _ hb) (S.e X c Ξ C _ _ hd) (by simpa using hm),a37 C.mono C.units (S.e X c Ξ C _ _ ha) (S.e X c Ξ C _ _ hb) (S.e X c Ξ C _ _ hd) (by simpa using hm)⟩
 ·cases h
theorem VP{lo hi st:Option Expr}{p2:Pos}(h:ET r c a lo hi st=some m):PE X (.Subscript a (.Slice lo hi st p2) pos) (LE X.K Ξ (aS P m)):=by
 cases lo<;>cases hi<;>cases st<;>first|(cases h;done)|skip
 ·obtain⟨ma,ha,rfl⟩:=Y8 S C h;exact a43 C.mono ha
 ·obtain⟨ma,mb,ha,hb,rfl⟩:=Y7 S C h;exact a42 C.mono ha hb
 ·obtain⟨ma,mb,ha,hb,rfl⟩:=Y7 S C h;exact a41 C.mono ha hb
theorem Xx(h:Ew r c a b=some m):PE X (.Subscript a b pos) (LE X.K Ξ (aS P m)):=by
 unfold Ew at h;rcases orElse_some h with h|h
 ·obtain⟨q,hq,h⟩:=ak.mp h;have eb:∃p,b=.Slice q.1 q.2.1 q.2.2 p:=by cases b<;>first|(cases hq;exact⟨_,rfl⟩)|cases hq
  obtain⟨p,rfl⟩:=eb;exact VP S C h
 ·split at h
  ·rename_i hb;rcases orElse_some h with h|h
   ·obtain⟨kvs,hk,h⟩:=ak.mp h;obtain⟨mb,lp,rfl⟩:=aa.mp h;obtain⟨x,p,rfl,hg,hd,hk⟩:=Ly hk;exact UA C.mono (C.B6 hg) (M7 hd).1 (C.xX x kvs hk) (S.e X c Ξ C _ _ lp) (Km hb)
   ·obtain⟨ma,mb,ha,lp,rfl⟩:=Y7 S C h;exact El C.mono (Ij (Xk C.units) ha lp (Km hb))
  ·cases h
theorem VQ{x:Str}{px:Pos}(hg:c.gl x=true)(h:zB r c x e=some m):PE X (.Call (.Name x px) [e] [] pos) (LE X.K Ξ (aS P m)):=by
 unfold zB at h;obtain⟨q,hq,h'⟩:=ak.mp h;clear h;have h:=h';clear h';obtain⟨p,pos',rfl⟩:=JJ hq;obtain⟨y,as⟩:=q;dsimp only at h ⊢;split at h
 ·rename_i hc;simp only[Bool.and_eq_true,decide_eq_true_eq] at hc;obtain⟨⟨⟨⟨rfl,rfl⟩,hl⟩,hr⟩,tq⟩:=hc;rcases as with _|⟨a,_|⟨b,_|⟨_,_⟩⟩⟩
  ·cases h
  ·dsimp only at h;split at h
   ·rename_i ho;obtain⟨ma,ha,rfl⟩:=Y8 S C h;exact a48 C.mono C.calm ha (C.B6 hg) (C.blt _ hl) (C.B6 tq) (C.blt _ hr) (n4 ho)
   ·cases h
  ·dsimp only at h;split at h
   ·rename_i ho;rw[aU] at ho;obtain⟨ma,mb,ha,hb,rfl⟩:=Y7 S C h;exact a47 C.mono C.calm ha hb (C.B6 hg) (C.blt _ hl) (C.B6 tq) (C.blt _ hr) (by rw[n4 ho.1,n4 ho.2];rfl) (n4 ho.2)
   ·cases h
  ·cases h
 ·split at h
  ·rename_i hc;simp only[Bool.and_eq_true,decide_eq_true_eq] at hc;obtain⟨⟨⟨⟨rfl,rfl⟩,hl⟩,hr⟩,tq⟩:=hc;rcases as with _|⟨a,_|⟨_,_⟩⟩
   ·cases h
   ·dsimp only at h;split at h
    ·rename_i ho;obtain⟨ma,ha,rfl⟩:=Y8 S C h;exact UG C.mono C.calm ha (C.B6 hg) (C.blt _ hl) (C.B6 tq) (C.blt _ hr) (n4 ho)
    ·cases h
   ·cases h
  ·split at h
   ·rename_i hc;simp only[Bool.and_eq_true,decide_eq_true_eq] at hc;obtain⟨⟨⟨⟨rfl,rfl⟩,hl⟩,hr⟩,tq⟩:=hc;rcases as with _|⟨a,_|⟨_,_⟩⟩
    ·cases h
    ·dsimp only at h;split at h
     ·rename_i ho;obtain⟨ma,ha,rfl⟩:=Y8 S C h;exact UB C.mono C.calm ha (C.B6 hg) (C.blt _ hl) (C.B6 tq) (C.blt _ hr) (n4 ho)
     ·cases h
    ·cases h
   ·cases h
theorem TH{x:Str}{px:Pos}{args:List Expr}(h:Kz r c x args=some m):PE X (.Call (.Name x px) args [] pos) (LE X.K Ξ (aS P m)):=by
 cases args with
 |nil =>
  have h2:BZ c x=some m:=h;unfold BZ at h2;split at h2
  ·rename_i jo;rw[aU] at jo;obtain⟨f,hf,rfl⟩:=aa.mp h2;obtain⟨k,C',fa,fd,ps,F,hr,hm,hC,kQ,M⟩:=C.cls x f hf;exact a46 C.mono C.pass F M hC kQ hr (C.B6 jo.2) hm (M7 jo.1).1
  ·cases h2
 |cons e es =>
  have h0:Ca r c x e es=some m:=h;clear h;have h:=h0;clear h0;unfold Ca at h;split at h
  ·rename_i jo;rw[aU] at jo;obtain⟨d1,d2,d3⟩:=M7 jo.1;rcases orElse_some h with h|h
   ·cases es with
    |nil=>exact VQ S C jo.2 h
    |cons _ _=>cases h
   ·obtain⟨ms,pN,h⟩:=ak.mp h;have ok:=CH pN;have pa:=sX S C pN;have fc:=n4 (env:=X.env) (es:=es) (ok e (by simp));have fX:=R8 (pos:=pos) (env:=X.env) (es:=es) λz hz=>ok z (by simp[hz]);rcases orElse_some h with h|h
    ·obtain⟨f,hf,rfl⟩:=aa.mp h;obtain⟨k,fa,fd,ps,F,hr,hm,hk⟩:=C.fns x f hf;exact Ux C.mono C.pass F hr (C.B6 jo.2) hm hk pa d1 fc fX
    ·rcases orElse_some h with h|h
     ·obtain⟨f,hf,rfl⟩:=aa.mp h;obtain⟨k,C',fa,fd,ps,F,hr,hm,hC,kQ,M⟩:=C.cls x f hf;exact UC C.mono C.pass F M hC kQ hr (C.B6 jo.2) hm pa d1 fc fX
     ·split at h
      ·rename_i hb;obtain⟨p,hp,rfl⟩:=aa.mp h;obtain⟨v,hv,AJ,hc⟩:=a17 (X:=X) C.calm hp;exact RO C.mono hv hc (C.B6 jo.2) (C.blt x hb) AJ pa d3 d1 fc fX
      ·cases h
  ·cases h
theorem TC{o:Expr}{mt:Str}{apos:Pos}{args:List Expr}(h:Cb r c o mt apos pos args=some m):PE X (.Call (.Attribute o mt apos) args [] pos) (LE X.K Ξ (aS P m)):=by
 unfold Cb at h;split at h
 ·rename_i hc;simp only[Bool.and_eq_true,decide_eq_true_eq] at hc;obtain⟨⟨hb,hl⟩,hn⟩:=hc;obtain⟨mo,ho,h⟩:=ak.mp h;obtain⟨ms,pN,h⟩:=ak.mp h;have ok:=CH pN;have pa:=sX S C pN;have po:=S.e X c Ξ C _ _ ho;have hf:methodCallForm args.length (backTo pos (starEach args X.env)) (backToKw pos (keywordEach [] X.env))=true:=by
   unfold methodCallForm;rw[IH ok];have:args.length+0<30:=by omega
   show(true&&true&&decide (args.length+0<30))=true;rw[aF this]
   rfl
  by_cases pP:mt="index"
  ·subst pP;rw[aK rfl] at h;cases args with
   |nil=>cases h
   |cons e es =>
    cases h;exact a49 C.mono po pa (N6 hb) hf hl (n4 (env:=X.env) (es:=es) (ok e (by simp))) (R8 (pos:=pos) (env:=X.env) (es:=es) λz hz=>ok z (by simp[hz]))
  rw[aD pP] at h;cases args with
  |nil =>
   cases pN;by_cases h0:(yM.lookup mt).isSome=true
   ·rw[aK (by rw[h0];rfl)] at h;obtain⟨p,hp,rfl⟩:=aa.mp h;obtain⟨T,id,zQ,sl,ty,zV,hk⟩:=aO9 (X:=X) hp;exact a45 C.mono zQ sl ty zV hk po (N6 hb) hl
   rw[aD (by rw[aU];exact λz=>h0 z.2)] at h;split at h
   ·cases h
   ·cases h
  |cons e es =>
   have fc:=n4 (env:=X.env) (es:=es) (ok e (by simp));have fX:=R8 (pos:=pos) (env:=X.env) (es:=es) λz hz=>ok z (by simp[hz]);rw[aD (by simp)] at h;split at h
   ·rename_i p hp;cases h;obtain⟨T,id,zQ,sl,ty,zV,hk⟩:=ZE (X:=X) C.units hp;exact UD C.mono zQ sl ty zV hk po pa (N6 hb) hf hl fc fX
   ·cases h
 ·cases h
theorem Fy{tg:Expr}(h:wz r c tg e=some m):PI X tg e (LI X.K Ξ (fj P m)):=by
 unfold wz at h;rcases orElse_some h with h|h
 ·obtain⟨q,hq,h'⟩:=ak.mp h;rename_i h0;clear h h0;have h:=h';clear h';obtain⟨p,pos',rfl⟩:=JJ hq;obtain⟨y,as⟩:=q;dsimp only at h ⊢;split at h
  ·rename_i hy;subst hy;rcases as with _|⟨a,_|⟨_,_⟩⟩
   ·cases h
   ·dsimp only at h;split at h
    ·rename_i hc;simp only[Bool.and_eq_true] at hc;obtain⟨⟨⟨hg,hb⟩,ho⟩,ht⟩:=hc;obtain⟨ma,ha,rfl⟩:=aa.mp h;obtain⟨es,k,tp,rfl⟩:=a19 ht;exact UJ C.mono (S.e X c Ξ C _ _ ha) (C.B6 hg) (C.blt _ hb) (n4 ho)
    ·cases h
   ·cases h
  ·split at h
   ·rename_i hy;subst hy;rcases as with _|⟨a,_|⟨_,_⟩⟩
    ·cases h
    ·dsimp only at h;split at h
     ·rename_i hc;simp only[Bool.and_eq_true] at hc;obtain⟨⟨hg,hb⟩,ho⟩:=hc;obtain⟨ma,ha,rfl⟩:=aa.mp h;exact Sb C.mono (S.e X c Ξ C _ _ ha) (C.B6 hg) (C.blt _ hb) (n4 ho)
     ·cases h
    ·cases h
   split at h
   ·rename_i hy;subst hy;rcases as with _|⟨a,_|⟨b,_|⟨_,_⟩⟩⟩
    ·cases h
    ·dsimp only at h;split at h
     ·rename_i hc;simp only[Bool.and_eq_true] at hc;obtain⟨⟨hg,hb⟩,ho⟩:=hc;obtain⟨ma,ha,rfl⟩:=aa.mp h;exact UK C.mono (S.e X c Ξ C _ _ ha) (C.B6 hg) (C.blt _ hb) (n4 ho)
     ·cases h
    ·dsimp only at h;split at h
     ·rename_i hc;simp only[Bool.and_eq_true] at hc;obtain⟨⟨⟨hg,hb⟩,ho⟩,kM⟩:=hc;obtain⟨ma,ha,h⟩:=ak.mp h;obtain⟨mb,lp,rfl⟩:=aa.mp h;exact UL C.mono (S.e X c Ξ C _ _ ha) (S.e X c Ξ C _ _ lp) (C.B6 hg) (C.blt _ hb) (by rw[n4 ho,n4 kM];rfl) (n4 kM)
     ·cases h
    ·cases h
   ·cases h
 ·split at h
  ·obtain⟨ma,ha,rfl⟩:=aa.mp h;exact Sd C.mono (S.e X c Ξ C _ _ ha)
  ·cases h
theorem Cv{elt:Expr}{gens:List Comprehension}{sc:Scope}(h:Y9 r c elt gens sc=some m):∃tg it ifs t mi mc me cl,gens=[⟨tg,it,ifs,0⟩]/\m=.comp (c.d6 sc) (frees sc++locals sc).length t mi mc me/\fW it=true /\
  dN X sc (frees sc++locals sc) (c.d6 sc) cl/\PI X tg it (LI X.K Ξ (fj P mi))/\(∀pins A s H fp,PG (f6 X pins sc (frees sc++locals sc) cl A s H fp) tg (LG X.K t)) /\
   (∀pins A s H fp,lB (f6 X pins sc (frees sc++locals sc) cl A s H fp) ifs (LT X.K (sD Ξ.1) (cT P mc)))/\(∀pins A s H fp,PE (f6 X pins sc (frees sc++locals sc) cl A s H fp) elt (LE X.K (sD Ξ.1) (aS P me))):=by
 unfold Y9 at h;rcases gens with _|⟨⟨tg,it,ifs,FK⟩,_|⟨_,_⟩⟩
 ·cases h
 ·dsimp only at h;split at h
  ·rename_i hs;simp only[Bool.and_eq_true,decide_eq_true_eq] at hs;obtain⟨⟨hs,rfl⟩,hit⟩:=hs;obtain⟨t,h1,h⟩:=ak.mp h;obtain⟨mi,h2,h⟩:=ak.mp h;obtain⟨mc,h3,h⟩:=ak.mp h;obtain⟨me,h4,rfl⟩:=aa.mp h;obtain⟨cl,Sc,I⟩:=C.comp hs;exact⟨tg,it,ifs,t,mi,mc,me,cl,rfl,rfl,hit,Sc,Fy S C h2,λpins A s H fp=>(I pins A s H fp).HK h1,λpins A s H fp=>VR S (I pins A s H fp) h3,λpins A s H fp=>S.e _ _ _ (I pins A s H fp) elt me h4⟩
  ·cases h
 ·cases h
omit S in
theorem VO{f:Expr}{args:List Expr}{js:List Keyword}(h:xi c f args js=some m):PE X (.Call f args js pos) (LE X.K Ξ (aS P m)):=by
 unfold xi at h;cases h
theorem Nu:∀e m,Ip r c e=some m->PE X e (LE X.K Ξ (aS P m)):=by
 intro e m h;cases e with
 |Name x p=>exact QP C h
 |Constant k j p =>
  obtain⟨d,hd,rfl⟩:=aa.mp (show(DA k).map ME.lit=some m from h);exact Nr hd
 |BinOp a op b p =>
  obtain⟨ma,mb,ha,hb,rfl⟩:=Y7 S C h;exact El C.mono (XN (QT op) ha hb)
 |UnaryOp op a p=>exact VS S C h
 |Compare a ops bs p=>exact(Ii S C h).1
 |BoolOp op vs p=>exact Nw S C h
 |IfExp t a b p =>
  obtain⟨mt,ht,h⟩:=ak.mp h;obtain⟨ma,ha,h⟩:=ak.mp h;obtain⟨mb,hb,rfl⟩:=aa.mp h;exact RT C.mono (S.t X c Ξ C _ _ ht) (S.e X c Ξ C _ _ ha) (S.e X c Ξ C _ _ hb)
 |Tuple es k p =>
  obtain⟨ma,ha,rfl⟩:=aa.mp h;exact RX C.mono (sX S C ha)
 |List es p =>
  obtain⟨ma,ha,rfl⟩:=aa.mp h;exact RU C.mono (sX S C ha)
 |Subscript a b p=>exact Xx S C h
 |Dict ks vs p =>
  have h2:(if ks.isEmpty&&vs.isEmpty then some (ME.prim .oV .nil) else if decide (ks.length<=15) then(wy r c ks vs).map .og else none)=some m:=h;split at h2
  ·rename_i hc;cases ks<;>cases vs<;>first|(cases hc;done)|skip
   cases h2;exact Uy
  ·rename_i hc;split at h2
   ·rename_i hl;obtain⟨ms,hm,rfl⟩:=aa.mp h2;obtain⟨ir,D⟩:=Nv S C hm;refine RP C.mono D (λz=>hc ?_) (bj hl);have:=D.len.2;subst z;cases vs<;>first|rfl|cases this
   ·cases h2
 |JoinedStr vs p =>
  have h2:(if decide (2<=vs.length)&&decide (vs.length<=40) then(tU r c vs).map (ME.prim .lR) else none)=some m:=h;split at h2
  ·rename_i hc;simp only[Bool.and_eq_true,decide_eq_true_eq] at hc;obtain⟨ms,hm,rfl⟩:=aa.mp h2;obtain⟨ts,F⟩:=Nt S C hm;rcases vs with _|⟨v1,_|⟨v2,vs⟩⟩
   ·simp at hc
   ·simp at hc
   ·exact Uz C.mono F hc.2
  ·cases h2
 |Attribute o f p =>
  have h2:(if yy o then c1 r c (.fld f) o else none)=some m:=h;split at h2
  ·rename_i hb;obtain⟨ma,ha,rfl⟩:=Y8 S C h2;exact RQ C.mono ha (N6 hb)
  ·cases h2
 |Call f args js pos =>
  have h1:((zC r c f args js).orElse λ_=>(xi c f args js).orElse λ_=>DU r c f args js pos)=some m:=h;rcases orElse_some h1 with h2|h2
  ·unfold zC at h2;rcases args with _|⟨a,_|⟨_,_⟩⟩
   ·cases h2
   ·dsimp only at h2;split at h2
    ·rename_i hk;simp only[Bool.and_eq_true,decide_eq_true_eq] at hk;obtain⟨⟨⟨hk,hf⟩,nA⟩,hb⟩:=hk;cases js<;>first|(cases hk;done)|skip
     obtain⟨q,hq,h3⟩:=ak.mp h2;obtain⟨m1,h4,h5⟩:=ak.mp h3;cases f<;>first|(cases hf;done)|skip
     cases a<;>first|(cases hq;done)|skip
     cases hf;cases hq;obtain⟨tg,it,ifs,t,mi,mc,me,cl,eg,rfl,hit,Sc,q1,q2,q3,q4⟩:=Cv S C h4;dsimp only at eg;subst eg;cases h5;exact a44 C.mono Sc C.calm q1 q2 q3 q4 (Z9 hit) (C.B6 nA) (C.blt _ hb)
    ·cases h2
   ·cases h2
  clear h h1;rcases orElse_some h2 with h3|h3
  ·exact VO C h3
  clear h2;unfold DU at h3;split at h3
  ·rename_i hk;cases js<;>first|(cases hk;done)|skip
   cases f with
   |Name x p=>exact TH S C h3
   |Attribute o a p=>exact TC S C h3
   |_=>cases h3
  ·cases h3
 |Set es k p =>
  have h2:Eu c es k=some m:=h;unfold Eu at h2;split at h2
  ·rename_i hc;rw[aU] at hc;obtain rfl:=bj hc.2;split at h2
   ·cases h2;exact UE C.mono (C.code hc.1)
   ·cases h2
  ·cases h2
 |ListComp elt gens sc p =>
  obtain⟨tg,it,ifs,t,mi,mc,me,cl,rfl,rfl,hit,Sc,q1,q2,q3,q4⟩:=Cv S C h;exact(KW Sc C.calm q1 q2 q3 q4 (Z9 hit)).imp λZ H Q h=>Lu C.mono Z H Q h
 |_=>cases h
theorem Np:∀e m,stepT r c e=some m->PT X e (LT X.K Ξ (cT P m)):=by
 intro e m h;have plain:∀{e:Expr} {m:ME},(if Dm e then(r.e c e).map ME.fS else none)=some m->PT X e (LT X.K Ξ (cT P m)):=λ{e m} h=>by
  split at h
  ·rename_i hp;obtain⟨ma,ha,rfl⟩:=aa.mp h;exact So C.mono (S.e X c Ξ C _ _ ha) (ZZ hp)
  ·cases h
 cases e with
 |UnaryOp op a p =>
  have h2:(if op=.Not then(r.t c a).map ME.eX else none)=some m:=h;split at h2
  ·rename_i ho;subst ho;obtain⟨ma,ha,rfl⟩:=aa.mp h2;exact Sm C.mono (S.t X c Ξ C _ _ ha)
  ·cases h2
 |BoolOp op vs p=>exact(Nn S C h).pt
 |Compare a ops bs p =>
  obtain⟨ma,ha,rfl⟩:=aa.mp (show(wo r c a ops bs).map ME.fS=some m from h);exact(Ii S C ha).2
 |_=>exact plain h
end
end M

namespace M
open PySem L2 PySem.Spec PyProof.Rows
section
variable{X:Cx}{c:i6}{P:fH}{Ξ:iM}
theorem aH9{e f:Option Expr}{q:Str×Expr×List Expr}(h:Cg e f=some q):f=none/\∃p p',e=some (.Call (.Name q.1 p) (q.2.1::q.2.2) [] p'):=by
 unfold Cg at h;split at h
 ·cases h;exact⟨rfl,_,_,rfl⟩
 ·cases h
theorem Te(C:iO X c P Ξ){f:Str}:DX X.K f (c.za f):=λy C' h hC=>by
 unfold i6.za at h;obtain⟨⟨f',y'⟩,h1,h2⟩:=aM.mp h;obtain⟨h3,h4⟩:=aT.mp h1;cases h2;have:f'=f:=by simpa using h4
 subst this;exact C.oK f' y' C' h3 hC
variable{r:CF}(S:ql P r)(C:iO X c P Ξ){pos:Pos}
include S C
theorem Xw{tg e:Expr}{m:MS}(hS:∀e m,r.e c e=some m->w9 e=false->∃elt gens sc p,e=.ListComp elt gens sc p/\∃r',ql P r'/\Y9 r' c elt gens sc=some m)(hT:∀a b k p m,r.e c (.Tuple [a,b] k p)=some m->∃r' ms,ql P r'/\J6 r' c [a,b]=some ms/\m=.prim .tup ms)(h:HF r c tg e=some m):PS X (.Assign [tg] e pos) (LS X.K Ξ (wpS P m)):=by
 cases tg with
 |Name x px =>
  have h2:(if c.A5 x then(c.idx x).bind λi=>(r.e c e).map λm=>MS.set i m else none)=some m:=h;split at h2
  ·rename_i hl;obtain⟨i,hi,h2⟩:=ak.mp h2;obtain⟨me,he,rfl⟩:=aa.mp h2;cases hn:w9 e with
   |true=>exact Kv C.mono (Kr C.qS (C.sf hi) (C.A5 hl).1 (S.e X c Ξ C _ _ he) (U8 hn) (C.A5 hl).2)
   |false =>
    obtain⟨elt,gens,sc,p,rfl,r',S',hx⟩:=hS e me he hn;obtain⟨tg,it,ifs,t,mi,mc,me,cl,rfl,rfl,hit,Sc,q1,q2,q3,q4⟩:=Cv S' C hx;refine Kv C.mono ?_;exact(aG7 Sc C.calm q1 q2 q3 q4 (Z9 hit) C.qS (C.sf hi) (C.A5 hl).1 (C.A5 hl).2).imp λN Z H h=>Lu C.mono Z H _ h
  ·cases h2
 |Tuple es k pt =>
  have h0:((DZ es).elim (if(tZ e&&w9 e)||c.yo es e then(c.slots es).bind λis=>(r.e c e).map λm=>MS.mj (.many is) m else none) λq=>if w9 e&&fW q.2.1&&fW q.2.2.2 then(r.e c q.1).bind λm1=>(r.e c q.2.1).bind λn1=>(r.e c q.2.2.1).bind λm2=>(r.e c q.2.2.2).bind λn2=>(r.e c e).map λm=>MS.xn m1 n1 m2 n2 m else none)=some m:=h;cases hq:DZ es with
  |some q =>
   rw[hq] at h0;dsimp only[Option.elim] at h0;split at h0
   ·cases hq
   ·cases h0
  |none =>
  rw[hq] at h0;have h2:(if(tZ e&&w9 e)||c.yo es e then(c.slots es).bind λis=>(r.e c e).map λm=>MS.mj (.many is) m else none)=some m:=h0;split at h2
  ·rename_i hn;rw[cV,aU] at hn;obtain⟨is,hs,h2⟩:=ak.mp h2;obtain⟨me,he,rfl⟩:=aa.mp h2;rcases hn with hn|hn
   ·exact Sw C.mono (Kq (S.e X c Ξ C _ _ he) (Lj C.calm C.qS (C.slots hs)) (JS hn.2) (a81 hn.1))
   ·unfold i6.yo at hn;split at hn
    ·rename_i x px y py a b k2 pE _;simp only[Bool.and_eq_true,decide_eq_true_eq,Bool.not_eq_true'] at hn;obtain⟨⟨⟨⟨⟨⟨⟨l1,l2⟩,dF⟩,hl⟩,oa⟩,ob⟩,f1⟩,f2⟩:=hn;obtain⟨r',ms,S',pN,rfl⟩:=hT _ _ _ _ _ he;have so:=C.slots hs;cases so with
     |cons hi _ _ so =>
     cases so with
     |cons hj _ _ so =>
     cases so;exact Su C.mono C.calm C.qS hi hj dF hl (C.loc x l1) (C.loc y l2) oa ob f1 f2 (sX S' C pN)
    ·cases hn
  ·cases h2
 |Subscript o i pt =>
  have h2:(if fW i&&w9 e then(r.e c o).bind λmo=>(r.e c i).bind λmi=>(r.e c e).map λm=>MS.eF mo mi m else none)=some m:=h;split at h2
  ·rename_i hn;rw[aU] at hn;obtain⟨mo,ho,h2⟩:=ak.mp h2;obtain⟨mi,hi,h2⟩:=ak.mp h2;obtain⟨me,he,rfl⟩:=aa.mp h2;exact a34 C.mono C.units (S.e X c Ξ C _ _ he) (S.e X c Ξ C _ _ ho) (S.e X c Ξ C _ _ hi) (JS hn.2) (TL hn.1)
  ·cases h2
 |Attribute o f pt =>
  have h2:(if w9 e then(r.e c o).bind λmo=>(r.e c e).map λm=>MS.ic f (c.za f) mo m else none)=some m:=h;split at h2
  ·rename_i hn;obtain⟨mo,ho,h2⟩:=ak.mp h2;obtain⟨me,he,rfl⟩:=aa.mp h2;exact UT C.mono (Te C) (S.e X c Ξ C _ _ ho) (S.e X c Ξ C _ _ he) (U8 hn)
  ·cases h2
 |_=>cases h
theorem Nq(hS:∀e m,r.e c e=some m->w9 e=false->∃elt gens sc p,e=.ListComp elt gens sc p/\∃r',ql P r'/\Y9 r' c elt gens sc=some m)(hT:∀a b k p m,r.e c (.Tuple [a,b] k p)=some m->∃r' ms,ql P r'/\J6 r' c [a,b]=some ms/\m=.prim .tup ms) :
  ∀st m,Iq r c st=some m->PS X st (LS X.K Ξ (wpS P m)):=by
 intro st m h;have hP:=C.mono;cases st with
 |AugAssign tg op e p =>
  cases tg with
  |Name x tp =>
   have h2:(if c.A5 x then(HV op).bind λp=>(c.idx x).bind λi=>(r.e c e).map λm=>MS.kr i p m else none)=some m:=h;split at h2
   ·rename_i hl;obtain⟨p,hp,h2⟩:=ak.mp h2;obtain⟨i,hi,h2⟩:=ak.mp h2;obtain⟨me,he,rfl⟩:=aa.mp h2;refine UR C.mono ?_ C.qS (C.sf hi) (C.A5 hl).1 (C.A5 hl).2 (S.e X c Ξ C _ _ he);cases op<;>first|(cases hp;done)|skip
    ·cases hp;exact .inl ⟨rfl,rfl⟩
    ·cases hp;exact .inr ⟨rfl,rfl⟩
   ·cases h2
  |_=>cases h
 |Expr e p =>
  have h2:(if w9 e then(r.e c e).map MS.expr else none)=some m:=h;split at h2
  ·rename_i hn;obtain⟨me,he,rfl⟩:=aa.mp h2;exact US hP (S.e X c Ξ C _ _ he) (U8 hn)
  ·cases h2
 |Assign zK e p =>
  rcases zK with _|⟨tg,_|⟨_,_⟩⟩
  ·cases h
  ·exact Xw S C hS hT h
  ·cases h
 |If t a b p =>
  obtain⟨mt,ht,h⟩:=ak.mp h;obtain⟨ma,ha,h⟩:=ak.mp h;obtain⟨mb,hb,rfl⟩:=aa.mp h;exact Yh hP (S.t X c Ξ C _ _ ht) (wM S C ha) (wM S C hb)
 |For tg it body oP p =>
  have h2:(if c.nL&&(oP.isEmpty&&fW it) then(c.tg tg).bind λt=>(wz r c tg it).bind λmi=>(A3 r c body).map λmb=>MS.dY t mi mb else none)=some m:=h;split at h2
  ·rename_i hc;rw[aU,aU] at hc;cases oP<;>first|(cases hc.2.1;done)|skip
   obtain⟨t,h1,h2⟩:=ak.mp h2;obtain⟨mi,h3,h2⟩:=ak.mp h2;obtain⟨mb,h4,rfl⟩:=aa.mp h2;exact Ss hP (C.own hc.1) C.calm (Fy S C h3) (C.HK h1) (wM S C h4) (Z9 hc.2.2)
  ·cases h2
 |While t body oP p =>
  have h2:(if c.nL&&oP.isEmpty then(r.t c t).bind λmt=>(A3 r c body).map λmb=>MS.jE mt mb else none)=some m:=h;split at h2
  ·rename_i hc;rw[aU] at hc;cases oP<;>first|(cases hc.2;done)|skip
   obtain⟨mt,h1,h2⟩:=ak.mp h2;obtain⟨mb,h4,rfl⟩:=aa.mp h2;exact a33 hP (C.own hc.1) (S.t X c Ξ C _ _ h1) (wM S C h4)
  ·cases h2
 |Return e p =>
  cases e with
  |none=>cases h;exact(Uo (X:=X)).imp λN cg H ⟨Z,g,ρ,s,R,h⟩=>LQ.now h R .bQ
  |some e =>
   obtain⟨me,he,rfl⟩:=aa.mp (show(r.e c e).map (λm=>MS.ret (toR c e m))=some m from h);refine Sv hP ?_;exact S.e X c Ξ C _ _ he
 |Raise e f p =>
  obtain⟨q,hq,h2⟩:=ak.mp h;clear h;obtain⟨rfl,px,p2,rfl⟩:=aH9 hq;obtain⟨x,e,es⟩:=q;dsimp only at h2 ⊢;split at h2
  ·rename_i hc;simp only[Bool.and_eq_true] at hc;obtain⟨ma,ha,rfl⟩:=aa.mp h2;have ok:=CH ha;obtain⟨C',hm,hi,B,nI,iI,bm,O,FB⟩:=C.exc x hc.1.1.2;exact a35 hP C.calm O FB (C.B6 hc.1.2) (sX S C ha) (C.lL hc.1.1.1) (by rw[C.GU];simpa using hc.1.1.2) hi (n4 (ok e (by simp))) (R8 λz hz=>ok z (by simp[hz])) (M7 hc.2).1
  ·cases h2
 |Pass p=>cases h;exact(Um (X:=X)).imp λN cg H ⟨Z,g,ρ,s,R,h⟩=>h ρ H cg (.refl _ _) R s
 |_=>cases h
end
theorem aH6{n:Nat}{c:i6}{e:Expr}{m:ME}(h:(comp (n+1)).e c e=some m)(hn:w9 e=false):∃elt gens sc p,e=.ListComp elt gens sc p/\Y9 (comp n) c elt gens sc=some m:=by
 cases e<;>first|(cases hn;done)|(cases h;done)|exact⟨_,_,_,_,rfl,h⟩
theorem snd{P:fH}:∀n,(∀k,k<=n->ql P (comp k)):=by
 intro n
 induction n with
 |zero =>
  intro k hk;obtain rfl:=Nat.le_zero.mp hk;exact⟨λ_ _ _ _ _ _ h=>(by cases h),λ_ _ _ _ _ _ h=>(by cases h),λ_ _ _ _ _ _ h=>(by cases h)⟩
 |succ n ih =>
  intro k hk;rcases gb k (n+1) with et|hge
  ·exact ih k (by omega)
  obtain rfl:k=n+1:=by omega
  have I:=ih n (av n);refine⟨λX c Ξ C e m h=>Nu I C e m h,λX c Ξ C e m h=>Np I C e m h,λX c Ξ C st m h=>Nq I C (λe m he hn=>?_) (λa b k p m he=>?_) st m h⟩
  ·cases n with
   |zero=>cases he
   |succ n =>
    obtain⟨elt,gens,sc,p,rfl,hx⟩:=aH6 he hn;exact⟨_,_,_,_,rfl,comp n,ih n (by omega),hx⟩
  ·cases n with
   |zero=>cases he
   |succ n =>
    obtain⟨ms,hm,rfl⟩:=aa.mp (show(J6 (comp n) c [a,b]).map (ME.prim .tup)=some m from he);exact⟨comp n,ms,ih n (by omega),hm,rfl⟩
end M

namespace M
open PySem L2 PySem.Spec PyProof.Rows
structure oY where
 nm:Str
 qn:Str
 N:List Str
 ps:List Str
 st:Stmt
def i6.at(c:i6)(d:oY):i6:={ c with N:=d.N,nm:=(p8 d.st).names,nL:=true,lL:=true,oq:=true }
structure jB(K:PySem.W.Frag)(c:i6)(d:oY)(m:aZ)(f:Addr)(fd:FuncData):Prop where
 fn:qm K d.nm d.qn d.st f fd
 bi:Binds K fd d.ps []
 sc:iS d.N d.ps (p8 d.st)
 co:A3 (comp 60) (c.at d) (q9 d.st)=some m.body
 ar:m.ar=d.ps.length
 nn:m.n=d.N.length
structure nO(w:World)(K:PySem.W.Frag)(mg:Str->Option Value)(c:i6)(T:Nat->Option aZ):Prop where
 fns:∀x i,c.fns.lookup x=some i->∃d m f fd,T i=some m/\jB K c d m f fd/\mg x=some (.ref f)
 cls:∀x i,c.cls.lookup x=some i->∃C d m f fd,T i=some m/\jB K c d m f fd/\mg x=some (.ref C)/\v7 K x C/\jU K C/\Mk K C f
 qT:∀x y i C,(x,y,i)∈c.qT->v7 K y C->∃d m f fd,T i=some m/\jB K c d m f fd/\Meth K C x f
 oK:∀f y C,(f,y)∈c.oK->v7 K y C->C0 K C f
 con:∀x d,c.con.lookup x=some d->∃v u,mg x=some u/\RelV v u/\∀ρ H,d8 K ρ H d v
 blt:∀x,c.blt.contains x=true->mg x=none
 Bt:∀x,c.exc.contains x=true->∃C,mg x=some (.ref C)/\v7 K x C/\∀base:Heap,K.In base->base.Ns mainGlobals mg->∃B newId gM bm,OwnCls x C bm newId mg base/\ExcBaseFacts B newId gM bm
 Bs:∀x y C C',c.exc.contains x=true->c.exc.contains y=true->v7 K x C->v7 K y C'->PySem.W.exmOne K (.ref C) (.ref C')=some (decide (x=y\/y="MintError"))
 rP:∀x kvs,c.gd.lookup x=some kvs->∃A vs,mg x=some (.ref A)/\wu K w.params A vs/\qe K kvs vs
section
variable{Pg:Program}{w:World}{K:PySem.W.Frag}{mg:Str->Option Value}{base:Heap}{c:i6}{T:Nat->Option aZ}
theorem QA{K:PySem.W.Frag}{cd:Value}{q:Str}(h:PySem.W.codeIn K cd q=true):PySem.W.kdsCode K cd=true:=by
 unfold PySem.W.codeIn at h;unfold PySem.W.kdsCode;split at h
 ·dsimp only;split at h
  ·rename_i e;rw[e]
  ·cases h
 ·cases h
theorem Ua{N:List Str}{qual:Str}{scope:Scope}{f:Addr}{cd:Value}{A:Around}{outer:List Env}{s:Shared}{H:Hp}{E:XK}:Passes (jv Pg w) (oU (jv Pg w) Pg w K mg base N qual scope f cd A outer s H E) E:=λpins Z H1 s1 e s' I h=>by
 obtain⟨C,H',J,fl,hE⟩:=I.flew h;exact aC7 J fl (λb o q=>I.base.there b o q (by intro z;cases z)) rfl rfl rfl hE
theorem a57{N:List Str}{qual:Str}{scope:Scope}{f:Addr}{cd:Value}{A:Around}{outer:List Env}{s:Shared}{H:Hp}{E:XK}:yC (oU (jv Pg w) Pg w K mg base N qual scope f cd A outer s H E) E:=λpins Z H1 s1 h' ea C vs I hm hE =>
 aP6 I hm rfl rfl rfl hE
theorem Tf{N:List Str}{qual:Str}{scope:Scope}{f:Addr}{cd:Value}{A:Around}{outer:List Env}{s:Shared}{H:Hp}{E:XK}:LV (oU (jv Pg w) Pg w K mg base N qual scope f cd A outer s H E) E:=λpins Z H1 H2 s1 s2 B ea C a0 I l hh hE =>
 leave_held I l hh rfl rfl rfl hE
theorem Ck{k i:Nat}{m:aZ}(hT:T i=some m){ds:List D}{g:G}{Q:KD}{E:KX}(h:c8 T k i ds g Q E):ds.length=m.ar:=by
 cases k with
 |zero=>exact h.elim
 |succ k =>
  obtain⟨m',e,h,_⟩:=h;rw[hT] at e;cases e;exact h
theorem YC(nU:K.In base)(vN:base.Ns mainGlobals mg)(A:nO w K mg c T):∀(k i:Nat) d m f fd,T i=some m->jB K c d m f fd->iN Pg w K mg base (jv Pg w) (2*k) f fd d.ps (pD c.exc K d.ps.length (c8 T k i)):=by
 intro k
 induction k with
 |zero =>
  intro i d m f fd hm O;refine⟨λvs H Q E h=>h.1,λA outer s H args us vs Q E _ _ _ _ h=>?_⟩;obtain⟨_,_,_,_,_,_,q⟩:=h;exact q.elim
 |succ k ih =>
  intro i d m f fd hm O;obtain⟨oc,od,kV,doc,pm,an,fQ,ct,mq,rfl,lk,kn⟩:=O.fn.ex;refine WZ (k:=2*k+1) lk kn O.sc (λvs H Q E h=>h.1) (λA0 outer s H vs Q E hr h=>?_);obtain⟨hl,xs,g,ρ,rs,R,q⟩:=h;have C:iO (oU (jv Pg w) Pg w K mg base d.N d.qn (p8 d.st) f fQ A0 outer s H E) (c.at d) (c8 T k) (c.exc,E):=by
   refine⟨rfl,O.sc.nd,λx h=>h,λx h=>h,λx h=>.inr h,λx h=>h,λx h=>?_,λ_ _=>rfl,rfl,?_,(λ_=>PassesOwn.leaving),b0 T k,A.con,A.blt,λx j hj=>?_,λx j hj=>?_,λx y j C' hj hC=>?_,A.oK,rfl,Ua,λ_=>a57,λ_=>⟨rfl,rfl,Tf⟩,λx hx=>?_,A.Bs,A.rP,λ_=>QA kn⟩
   ·rcases h with h|h
    ·exact CG h
    ·exact absurd rfl (O.sc.mX _ (aQ h))
   ·have:=hr.un;show(A0.deeper _).units+100<cLine;omega
   ·obtain⟨d',m',f',pZ,hT,O',hmg⟩:=A.fns x j hj;exact⟨2*k,f',pZ,d'.ps,⟨ih j d' m' f' pZ hT O',O'.bi,λHk g' Q' E' h'=>(Ck hT h').trans O'.ar⟩,hr.mono (by omega),hmg,O'.fn.kp⟩
   ·obtain⟨C',d',m',f',pZ,hT,O',hmg,hC,kQ,M⟩:=A.cls x j hj;exact⟨2*k,C',f',pZ,d'.ps,⟨ih j d' m' f' pZ hT O',O'.bi,λHk g' Q' E' h'=>(Ck hT h').trans O'.ar⟩,hr,hmg,hC,kQ,M⟩
   ·obtain⟨d',m',f',pZ,hT,O',M⟩:=A.qT x y j C' hj hC;exact⟨2*k,f',pZ,d'.ps,M,⟨ih j d' m' f' pZ hT O',O'.bi,λHk g' Q' E' h'=>(Ck hT h').trans O'.ar⟩,hr.mono (by omega)⟩
   ·obtain⟨C,h1,h2,h3⟩:=A.Bt x hx;exact⟨C,h1,h2,h3 base nU vN⟩
  refine⟨_,wM (snd (P:=c8 T k) 60 60 (av _)) C O.co,?_⟩;obtain⟨m',e,q1,q⟩:=q;rw[hm] at e;cases e;refine⟨d7 m xs,g,ρ,?_,R,wpS_mono (b0 T k) m.body ⟨λ_ g'=>LQ K ρ H Q .bQ g',LQ K ρ H Q,λ_ _=>False,λ_ _=>False⟩ _ _ _ _ _ ⟨λZ g' h bL H' dA e R' s'=>h bL H' _ e R' .bQ,λd g' h=>h,λ_ _ h=>h.elim,λ_ _ h=>h.elim⟩ (λ_ _ z=>z) q⟩;have:=o8.start (n:=d.N.length) rs;unfold d7 L2.start;rw[O.nn];exact this
theorem QF{L k0:Nat}{H:Hp}{a:Addr}{ns:List Int}(hO:yX H)(hS:fG K H a (ns.map V.int))(h:c8 T k0 L [.ref 0] [.oJ (ns.map .int)] (λd _=>d=.bl true) jk) :
  pD exc K 1 (c8 T k0 L) [.ref a] H (λv _=>v=.bl true) λ_ _ _=>False:=by
 refine⟨rfl,[.ref 0],[.oJ (ns.map .int)],[a],.cons (.ref rfl) .nil,⟨rfl,λi o b h1 h2=>?_,λi j l m b h1 h2 m1=>?_⟩,b0 T k0 _ _ _ _ _ _ _ (λd g' e bL H' v _ _ r=>?_) (λ_ _ z=>z.elim) h⟩
 ·cases i with
  |zero =>
   cases h1;cases h2;refine⟨_,?_,c6.ofInts ns⟩;rcases hS with(z|⟨o,z⟩)|z
   ·rcases hO a with q|⟨o,xs,q⟩
    ·rw[z] at q;cases q
    ·rw[z] at q;cases q
   ·exact .inl ⟨o,z⟩
   ·exact .inr z
  |succ i=>simp at h1
 ·cases i with
  |zero=>cases h1;cases m1
  |succ i=>simp at h1
 ·subst e;cases r
  rfl
end
end M

namespace M
open PySem L2
section
variable{P:fH}{Z:S}{g:G}{Q:KD}{E:KX}{N:Ends}{a b c o:ME}{x y:MS}{p:Pr}
theorem R6(h:N.nx Z g):wpS P .pass N Z g E:=h
theorem DS(h:wpS P x ⟨λiQ g1=>wpS P y N iQ g1 E,N.rt,N.bk,N.ct⟩ Z g E):wpS P (.seq x y) N Z g E:=h
theorem wI(h:wpS P x N Z g E):wpS P (.seq x .pass) N Z g E:=h
theorem SK(h:aS P a Z g (λ_ g1=>N.nx Z g1) E):wpS P (.expr a) N Z g E:=h
theorem yq{i:Nat}(h:aS P a Z g (λx g1=>N.nx (Z.set i (some x)) g1) E):wpS P (.set i a) N Z g E:=h
theorem YA{t:MT}(h:aS P a Z g (λx g1=>jx t x Z λiQ=>N.nx iQ g1) E):wpS P (.mj t a) N Z g E:=h
theorem Ln{o i:ME}(h:aS P a Z g (λx g1=>aS P o Z g1 (λy g2=>aS P i Z g2 (λz g3=>V8 y z x g3 λg4=>N.nx Z g4) E) E) E):wpS P (.eF o i a) N Z g E:=h
theorem SQ{f:Str}{cs:List Str}(h:aS P a Z g (λx g1=>aS P o Z g1 (λy g2=>wB f cs y x g2 λg3=>N.nx Z g3) E) E):wpS P (.ic f cs o a) N Z g E:=h
theorem Iw(h:cT P c Z g (λt g1=>if t=true then wpS P x N Z g1 E else wpS P y N Z g1 E) E):wpS P (.ifs c x y) N Z g E:=h
theorem Yy(h:aS P a Z g N.rt E):wpS P (.ret a) N Z g E:=h
theorem UX{x:Str}(h:dJ P a Z g (λvs g1=>vs.length<=1000/\E ⟨x⟩ g1) E):wpS P (.raise x a) N Z g E:=h
theorem w_var{i:Nat}{d:D}(e:Z[i]?=some (some d))(h:Q d g):aS P (.var i) Z g Q E:=by simp only[aS];exact⟨d,e,h⟩
theorem w_lit{d:D}(h:Q d g):aS P (.lit d) Z g Q E:=h
theorem SO(h:dJ P a Z g (λxs g1=>cY p xs g1 Q) E):aS P (.prim p a) Z g Q E:=h
theorem WI(h:cY p [] g Q):aS P (.prim p .nil) Z g Q E:=by rw[aS,dJ];exact h
theorem HM(h:aS P a Z g (λx g1=>cY p [x] g1 Q) E):aS P (.prim p (.cons a .nil)) Z g Q E:=by simp only[aS,dJ];exact h
theorem HN(h:aS P a Z g (λx g1=>aS P b Z g1 (λy g2=>cY p [x,y] g2 Q) E) E):aS P (.prim p (.cons a (.cons b .nil))) Z g Q E:=by simp only[aS,dJ];exact h
theorem UW{o1 o2:CmpOp}(h:aS P a Z g (λx g1=>aS P b Z g1 (λy g2=>cY (.cmp o1) [x,y] g2 λz g3=>∃t,z=.bl t/\if t=true then aS P c Z g3 (λw g4=>cY (.cmp o2) [y,w] g4 Q) E else Q (.bl false) g3) E) E):aS P (.chain o1 o2 a b c) Z g Q E:=h
theorem w_and(h:aS P a Z g (λx g1=>∃t,x=.bl t/\if t=true then aS P b Z g1 Q E else Q (.bl false) g1) E):aS P (.eL a b) Z g Q E:=h
theorem w_not(h:aS P a Z g (λx g1=>∃t,x=.bl t/\Q (.bl (!t)) g1) E):aS P (.eX a) Z g Q E:=h
theorem w_ite(h:cT P c Z g (λt g1=>if t=true then aS P a Z g1 Q E else aS P b Z g1 Q E) E):aS P (.ite c a b) Z g Q E:=h
theorem BY{f:Nat}(h:dJ P a Z g (λxs g1=>P f xs g1 Q E) E):aS P (.call f a) Z g Q E:=h
theorem SM{f:Nat}{c:Str}(h:dJ P a Z g (λxs g1=>P f (.ref g1.length::xs) (g1++[.ins c []]) (λd g2=>d=.bQ/\Q (.ref g1.length) g2) E) E):aS P (.make c f a) Z g Q E:=h
theorem SN(h:aS P o Z g (λx g1=>lN p x g1/\dJ P a Z g1 (λxs g2=>cY p (x::xs) g2 Q) E) E):aS P (.dR p o a) Z g Q E:=h
theorem Yx(h:dJ P a Z (g++[.dD []]) (λxs g1=>∃kvs,tO xs []=some kvs/\xs.length<=30/\g1[g.length]?=some (.dD [])/\Q (.ref g.length) (g1.set g.length (.dD kvs))) E):aS P (.og a) Z g Q E:=h
theorem DQ{Q:List D->G->Prop}(h:Q [] g):dJ P .nil Z g Q E:=h
theorem wH{Q:List D->G->Prop}(h:aS P a Z g (λx g1=>dJ P b Z g1 (λxs g2=>Q (x::xs) g2) E) E):dJ P (.cons a b) Z g Q E:=h
theorem SR{Q:Bool->G->Prop}(h:cT P a Z g (λt g1=>if t=true then cT P b Z g1 Q E else Q false g1) E):cT P (.eL a b) Z g Q E:=h
theorem Yz{Q:Bool->G->Prop}(h:cT P a Z g (λt g1=>if t=true then Q true g1 else cT P b Z g1 Q E) E):cT P (.kz a b) Z g Q E:=h
theorem SS{Q:Bool->G->Prop}(h:cT P a Z g (λt g1=>Q (!t) g1) E):cT P (.eX a) Z g Q E:=h
theorem DT{Q:Bool->G->Prop}(h:Q true g):cT P .no Z g Q E:=h
theorem Iy{Q:Bool->G->Prop}(h:aS P a Z g (λx g1=>Z2 g1 x λb=>Q b g1) E):cT P (.fS a) Z g Q E:=h
end
section
variable{g:G}{Q:KD}{i j:Int}{kb:Bool->Prop}{t s:Bool}{l m:List D}
theorem WK(h:Q (.int (i+j)) g):cY (.bin .Add) [.int i,.int j] g Q:=⟨_,_,.inl ⟨i,j,_,rfl,rfl,rfl,rfl⟩,h⟩
theorem WL(h:Q (.int (i-j)) g):cY (.bin .Sub) [.int i,.int j] g Q:=⟨_,_,.inl ⟨i,j,_,rfl,rfl,rfl,rfl⟩,h⟩
theorem M0(c:rZ i j)(h:Q (.int (i*j)) g):cY (.bin .Mult) [.int i,.int j] g Q:=⟨_,_,.inl ⟨i,j,_,rfl,⟨c,rfl⟩,rfl,rfl⟩,h⟩
theorem Q7(c:0<j)(h:Q (.int (i % j)) g):cY (.bin .Mod) [.int i,.int j] g Q:=⟨_,_,.inl ⟨i,j,_,rfl,⟨c,rfl⟩,rfl,rfl⟩,h⟩
theorem yd(c:BO i j)(h:Q (.int (i / j)) g):cY (.bin .FloorDiv) [.int i,.int j] g Q:=⟨_,_,.inl ⟨i,j,_,rfl,⟨c,rfl⟩,rfl,rfl⟩,h⟩
theorem YB(h1:0<j)(h2:j<1073741824)(h:Q (.int (i / j)) g):cY (.bin .FloorDiv) [.int i,.int j] g Q:=yd ⟨h1,h2⟩ h
theorem Dx(c:oR i j)(h:Q (.int (i ^ j.toNat)) g):cY (.bin .Pow) [.int i,.int j] g Q:=⟨_,_,.inl ⟨i,j,_,rfl,⟨c,rfl⟩,rfl,rfl⟩,h⟩
theorem HW{i j:Nat}(hi:g[i]?=some (.lst l))(hj:g[j]?=some (.lst m))(hl:l.length+m.length<=100000)(h:Q (.ref g.length) (g++[.lst (l++m)])):cY (.bin .Add) [.ref i,.ref j] g Q:=⟨_,_,.inr (.inl ⟨rfl,.inr (.inl ⟨i,j,l,m,rfl,hi,hj,hl,rfl,rfl⟩)⟩),h⟩
theorem U4{op:CmpOp}{x y:D}{b:Bool}(hb:ID g x y b op)(h:Q (.bl b) g):cY (.cmp op) [x,y] g Q:=⟨_,_,⟨x,y,b,rfl,hb,rfl,rfl⟩,h⟩
theorem Vu(h:Q (.bl (decide (i<j))) g):cY (.cmp .Lt) [.int i,.int j] g Q:=U4 ⟨i,j,rfl,rfl,rfl⟩ h
theorem Vt(h:Q (.bl (decide (i<=j))) g):cY (.cmp .LtE) [.int i,.int j] g Q:=U4 ⟨i,j,rfl,rfl,rfl⟩ h
theorem Vr(h:Q (.bl (decide (j<i))) g):cY (.cmp .Gt) [.int i,.int j] g Q:=U4 ⟨i,j,rfl,rfl,rfl⟩ h
theorem Vq(h:Q (.bl (decide (j<=i))) g):cY (.cmp .GtE) [.int i,.int j] g Q:=U4 ⟨i,j,rfl,rfl,rfl⟩ h
theorem IB{x y:D}(h:vS g x y λb=>Q (.bl b) g):cY (.cmp .Eq) [x,y] g Q:=let ⟨_,hb,h⟩:=h;U4 hb h
theorem IC{x y:D}(h:vS g x y λb=>Q (.bl (!b)) g):cY (.cmp .NotEq) [x,y] g Q:=let ⟨b,hb,h⟩:=h;U4 (b:=!b) (show vR g x y (!(!b)) from by rw[uk];exact hb) h
theorem BU{x y:D}(h:qV g x y λb=>Q (.bl b) g):cY (.cmp .In) [x,y] g Q:=let ⟨_,hb,h⟩:=h;U4 (.inl hb) h
theorem WT{a n:Nat}{S:Int->Bool}(hg:g[a]?=some (.set S n))(h:Q (.bl (S i)) g):cY (.cmp .In) [.int i,.ref a] g Q:=U4 (.inr ⟨a,S,n,i,rfl,hg,rfl,rfl⟩) h
theorem ye{x y:D}(h:qV g x y λb=>Q (.bl (!b)) g):cY (.cmp .NotIn) [x,y] g Q:=let ⟨b,hb,h⟩:=h;U4 (b:=!b) (.inl (show inR g x y (!(!b)) from by rw[uk];exact hb)) h
theorem Ik(h:kb (decide (i=j))):vS g (.int i) (.int j) kb:=⟨_,.inl ⟨i,j,rfl,rfl,rfl⟩,h⟩
theorem XW{x y:Str}(h:kb (decide (x=y))):vS g (.str x) (.str y) kb:=⟨_,.inr (.inr (.inl ⟨x,y,rfl,rfl,rfl⟩)),h⟩
theorem WQ(h:Q (.bl (decide (i=j))) g):cY (.cmp .Eq) [.int i,.int j] g Q:=IB (Ik h)
theorem WU(h:Q (.bl (!decide (i=j))) g):cY (.cmp .NotEq) [.int i,.int j] g Q:=IC (Ik h)
theorem WR{p q:Str}(h:Q (.bl (decide (p=q))) g):cY (.cmp .Eq) [.str p,.str q] g Q:=IB (XW h)
theorem Vs{d:D}(h:Q (.bl (L6 d)) g):cY (.cmp .Is) [d,.bQ] g Q:=U4 ⟨rfl,rfl⟩ h
theorem HX{d:D}(h:Q (.bl (!L6 d)) g):cY (.cmp .IsNot) [d,.bQ] g Q:=U4 ⟨rfl,rfl⟩ h
theorem WS(h:Q (.bl false) g):cY (.cmp .IsNot) [.bQ,.bQ] g Q:=HX h
theorem WD(h:kb t):Z2 g (.bl t) kb:=⟨t,.inr (.inl rfl),h⟩
theorem Yq(h:kb (i != 0)):Z2 g (.int i) kb:=⟨_,.inr (.inr (.inl ⟨i,rfl,rfl⟩)),h⟩
theorem Yr{i:Nat}(hl:d0 g i=some l)(h:kb (!l.isEmpty)):Z2 g (.ref i) kb:=⟨_,.inr (.inr (.inr (.inr ⟨i,l,rfl,hl,rfl⟩))),h⟩
theorem Cj{t:Bool}{p:Bool->Prop}(h:p t):∃s,D.bl t=D.bl s/\p s:=⟨t,rfl,h⟩
theorem Qu{p:Int->Prop}(h:p i):∃s,D.int i=D.int s/\p s:=⟨i,rfl,h⟩
theorem if2{c:Prop}[Decidable c]{A B:Prop}(h1:c->A)(h2:¬c->B):if decide c=true then A else B:=by
 by_cases h:c
 ·rw[aK (aF h)];exact h1 h
 ·rw[aD (by rw[aL h];decide)];exact h2 h
theorem nr{A B:Prop}(h:A):if true=true then A else B:=by rw[aK rfl];exact h
theorem si{A B:Prop}(h:B):if false=true then A else B:=by rw[aD (by decide)];exact h
theorem HA{A B:Prop}(h:A):if(!false)=true then A else B:=by rw[aK (show(!false)=true from rfl)];exact h
theorem VE{A B:Prop}(h:B):if(!true)=true then A else B:=by rw[aD (by decide)];exact h
theorem gG{b:Bool}{A B:Prop}(hb:b=false)(h:B):if b=true then A else B:=by rw[hb];exact si h
theorem ik{b:Bool}{A B:Prop}(hb:b=true)(h:A):if b=true then A else B:=by rw[hb];exact nr h
theorem u5{a:Nat}{d:D}(hl:d0 g a=some l)(h2:gP l i=some d)(h:Q d g):cY .ix [.ref a,.int i] g Q:=⟨_,_,⟨rfl,.inl ⟨_,l,i,rfl,hl,h2⟩⟩,h⟩
theorem B4{d:D}(h2:gP l i=some d)(h:Q d g):cY .ix [.tup l,.int i] g Q:=⟨_,_,⟨rfl,.inl ⟨_,l,i,rfl,rfl,h2⟩⟩,h⟩
theorem tP{i:Nat}{kvs:List (Key×D)}{y v:D}{k:Key}(hg:g[i]?=some (.dD kvs))(hk:W9 y=some k)(hv:n8 kvs k=some v)(h:Q v g):cY .ix [.ref i,y] g Q:=⟨_,_,⟨rfl,.inr (.inl ⟨i,kvs,y,k,rfl,hg,hk,hv⟩)⟩,h⟩
theorem U5{a n:Nat}{v:D}{kg:G->Prop}(hl:g[a]?=some (.lst l))(hn:kY l.length i=some n)(h:kg (g.set a (.lst (l.set n v)))):V8 (.ref a) (.int i) v g kg:=⟨_,.inl ⟨a,i,l,n,rfl,rfl,hl,hn,rfl⟩,h⟩
theorem DK{i:Nat}{kvs:List (Key×D)}{y v:D}{k:Key}{kg:G->Prop}(hg:g[i]?=some (.dD kvs))(hk:W9 y=some k)(hl:kvs.length<100000)(h:kg (g.set i (.dD (putD kvs k v)))):V8 (.ref i) y v g kg:=⟨_,.inr ⟨i,kvs,k,rfl,hg,hk,hl,rfl⟩,h⟩
theorem Z5{f c:Str}{cs:List Str}{a:Nat}{fs:List (Str×D)}{v:D}{kg:G->Prop}(hg:g[a]?=some (.ins c fs))(hc:c∈cs)(hl:fs.length<100)(h:kg (g.set a (.ins c (l9 f v fs)))):wB f cs (.ref a) v g kg:=⟨_,⟨a,c,fs,rfl,hg,hc,hl,rfl⟩,h⟩
theorem U0{f c:Str}{a:Nat}{fs:List (Str×D)}{d:D}(hg:g[a]?=some (.ins c fs))(hf:fs.lookup f=some d)(h:Q d g):cY (.fld f) [.ref a] g Q:=⟨_,_,⟨a,c,fs,rfl,hg,hf,rfl⟩,h⟩
theorem a8{a:Nat}(h:g[a]?=some (.lst l)):d0 g a=some l:=by simp only[d0,h,Ee]
theorem Zx{a:Nat}(h:g[a]?=some (.oJ l)):d0 g a=some l:=by simp only[d0,h,Ee]
theorem O6{a:Nat}(hl:d0 g a=some l)(h:Q (.int l.length) g):cY .len [.ref a] g Q:=⟨_,_,⟨rfl,.inl ⟨_,l,rfl,hl,rfl⟩⟩,h⟩
theorem Em{a:Nat}(hl:d0 g a=some l)(h:Q (.ref g.length) (g++[.lst (cut l none (some i))])):cY (.mS false true) [.ref a,.int i] g Q:=⟨_,_,⟨_,i,rfl,.inr ⟨a,l,rfl,hl,rfl,rfl⟩⟩,h⟩
theorem DJ(hl:l.length<=1000)(h:Q (.tup l) g):cY .tup l g Q:=⟨_,_,⟨hl,rfl,rfl⟩,h⟩
theorem DI(hl:l.length<=1000)(h:Q (.ref g.length) (g++[.lst l])):cY .lst l g Q:=⟨_,_,⟨hl,rfl,rfl⟩,h⟩
theorem Ih{a:Nat}(hl:d0 g a=some l)(h:Q (.ref g.length) (g++[.lst l])):cY .list [.ref a] g Q:=⟨_,_,⟨_,l,rfl,hl,rfl,rfl⟩,h⟩
theorem Yu{a:Nat}(hl:d0 g a=some l)(h:Q (.tup l) g):cY .tuple [.ref a] g Q:=⟨_,_,⟨_,l,rfl,hl,rfl,rfl⟩,h⟩
theorem xE{d:D}{c:String}{b:Bool}(hc:c∈["int","bool","str","tuple","list"])(hb:Eo g d c=some b)(h:Q (.bl b) g):cY .isin [d,.ty c] g Q:=⟨_,_,⟨d,c,b,rfl,hc,hb,rfl,rfl⟩,h⟩
theorem L1{i:Nat}{y:D}(hg:g[i]?=some (.lst l))(hl:l.length<100000)(h:Q .bQ (g.set i (.lst (l++[y])))):cY .append [.ref i,y] g Q:=⟨_,_,⟨i,y,l,rfl,hg,hl,rfl,rfl⟩,h⟩
theorem Xu{i j:Nat}{y:D}{n:Int}(hg:g[i]?=some (.lst l))(hn:n=j)(hj:l[j]?=some y)(hl:l.length<100000)(h:Q y (g.set i (.lst (l.eraseIdx j)))):cY .pop [.ref i,.int n] g Q:=by
 have et:=(aj.mp hj).1;refine⟨_,_,⟨i,n,l,j,rfl,hg,by omega,by omega,?_,hj,rfl⟩,h⟩;rw[hn];exact PySem.StrLaws.seqIndex_nonneg (by omega) (by omega) |>.trans (by simp)
theorem DF{i:Nat}{kvs:List (Key×D)}{y z:D}{k:Key}(hg:g[i]?=some (.dD kvs))(hk:W9 y=some k)(h:Q ((n8 kvs k).getD z) g):cY .get [.ref i,y,z] g Q:=⟨_,_,⟨i,y,z,kvs,k,rfl,hg,hk,rfl,rfl⟩,h⟩
theorem Ek{a:Nat}{l:List D}(hl:d0 g a=some l):lN .index (.ref a) g:=.inr ⟨a,l,rfl,hl⟩
theorem Xt{a:Nat}{l:List D}{y:D}{n:Nat}(hl:d0 g a=some l)(W:DW l y n)(hz:l.length<=100000)(h:Q (.int n) g):cY .index [.ref a,y] g Q:=⟨_,_,⟨_,y,l,n,rfl,hl,W,hz,rfl,rfl⟩,h⟩
theorem Qr{i j:Int}(h:Q (.int (i+j)) g):cY .iadd [.int i,.int j] g Q:=⟨_,_,.inl ⟨i,j,rfl,rfl,rfl⟩,h⟩
theorem WO{i:Nat}{v:Bool}{l:List D}(hl:d0 g i=some l)(hv:V6 l=some v)(h:Q (.bl v) g):cY .any [.ref i] g Q:=⟨_,_,⟨i,l,v,rfl,hl,hv,rfl,rfl⟩,h⟩
theorem TZ{i:Nat}{kvs:List (Key×D)}{ns:List Int}(hg:g[i]?=some (.dD kvs))(hk:kvs.map (·.1)=ns.map Sum.inl)(hz:ns.length<60)(h:Q (.ref g.length) (g++[.lst ((j9 ns).map .int)])):cY .ka [.ref i] g Q:=⟨_,_,.inl ⟨i,kvs,ns,rfl,hg,hk,hz,rfl,rfl⟩,h⟩
theorem S5{i:Nat}(hg:g[i]?=some (.lst l)):lN .append (.ref i) g:=⟨i,l,rfl,a8 hg⟩
theorem QO{i:Nat}(hg:g[i]?=some (.lst l)):lN .pop (.ref i) g:=⟨i,l,rfl,a8 hg⟩
theorem VN{i:Nat}{l:List (Key×D)}(hg:g[i]?=some (.dD l)):lN .get (.ref i) g:=⟨i,l,rfl,hg⟩
theorem zX{j:Int}(h1:-(2 ^ 62)<=j)(h2:j<=100000)(h:Q (.ref g.length) (g++[.lst (k8 0 j.toNat)])):cY .jc [.int j] g Q:=⟨_,_,⟨j,rfl,h1,h2,rfl,rfl⟩,h⟩
theorem Ny{i j:Int}(h1:-(2 ^ 62)<=i/\i<2 ^ 62/\-(2 ^ 62)<=j/\j<2 ^ 62/\j-i<=100000)(h:Q (.ref g.length) (g++[.lst (k8 i (j-i).toNat)])):cY .ki [.int i,.int j] g Q:=⟨_,_,⟨i,j,rfl,h1,rfl,rfl⟩,h⟩
theorem Rg{a:Nat}{ns:List Int}(hl:d0 g a=some (ns.map .int))(hz:ns.length<60)(h:Q (.ref g.length) (g++[.lst ((j9 ns).map .int)])):cY .sset [.ref a] g Q:=⟨_,_,⟨a,ns,rfl,hl,hz,rfl,rfl⟩,h⟩
theorem oV(h:Q (.ref g.length) (g++[.dD []])):cY .oV [] g Q:=⟨_,_,⟨rfl,rfl,rfl⟩,h⟩
theorem max2{i j:Int}(h:Q (.int (if j>i then j else i)) g):cY .max [.int i,.int j] g Q:=⟨_,_,⟨rfl,.inl ⟨i,j,rfl,rfl⟩⟩,h⟩
theorem Xv{a:Nat}{ns:List Int}{M:Int}(hl:d0 g a=some (ns.map .int))(h1:M∈ns)(h2:∀x∈ns,x<=M)(h:Q (.int M) g):cY .max [.ref a] g Q:=⟨_,_,⟨rfl,.inr ⟨a,ns,M,rfl,hl,h1,h2,rfl⟩⟩,h⟩
theorem QL{a n:Nat}{i:Int}{S:Int->Bool}(hg:g[a]?=some (.set S n))(hn:n+1<4096)(h:Q .bQ (g.set a (.set (λk=>S k||decide (k=i)) (if S i then n else n+1)))):cY .kd [.ref a,.int i] g Q:=⟨_,_,⟨a,i,S,n,rfl,hg,hn,rfl,rfl⟩,h⟩
theorem Tz{a n:Nat}{S:Int->Bool}(hg:g[a]?=some (.set S n)):lN .kd (.ref a) g:=⟨a,S,n,rfl,hg⟩
theorem TY{i:Int}(h:Q (.ref g.length) (g++[.set (λk=>decide (k=i)) 1])):cY (.kc i) [] g Q:=⟨_,_,⟨rfl,rfl,rfl⟩,h⟩
theorem Ir{a:Nat}{ns:List Int}(hl:d0 g a=some (ns.map .int))(h:Q (.int ns.sum) g):cY .sum [.ref a] g Q:=⟨_,_,⟨a,ns,rfl,hl,rfl,rfl⟩,h⟩
theorem WN{a:Nat}{ns:List Int}(hl:d0 g a=some (ns.map .int))(h:Q (.bl (ns.all λn=>n != 0)) g):cY .all [.ref a] g Q:=⟨_,_,⟨a,_,_,rfl,hl,.inr ⟨ns,rfl,rfl⟩,rfl,rfl⟩,h⟩
theorem Dy{i j:Int}(c:oR i j)(h:Q (.int (i*2 ^ j.toNat)) g):cY (.bin .LShift) [.int i,.int j] g Q:=⟨_,_,.inl ⟨i,j,_,rfl,⟨c,rfl⟩,rfl,rfl⟩,h⟩
theorem wx{i j:Int}(h:Q (.int (Builtin.bitAnd i j)) g):cY (.bin .BitAnd) [.int i,.int j] g Q:=⟨_,_,.inl ⟨i,j,_,rfl,rfl,rfl,rfl⟩,h⟩
theorem Vk{i j:Int}(h:Q (.int (Builtin.bitOr i j)) g):cY (.bin .BitOr) [.int i,.int j] g Q:=⟨_,_,.inl ⟨i,j,_,rfl,rfl,rfl,rfl⟩,h⟩
theorem Kx{P:fH}{Z:S}{E:KX}{N:Ends}{i:Nat}{p:Pr}{v:ME}{x:D}(e:Z[i]?=some (some x))(h:aS P v Z g (λz g1=>cY p [x,z] g1 λw g2=>N.nx (Z.set i (some w)) g2) E):wpS P (.kr i p v) N Z g E:=⟨x,e,h⟩
theorem Qw{i j:Int}(h:Q (.int (i-j)) g):cY .nk [.int i,.int j] g Q:=⟨_,_,⟨i,j,rfl,rfl,rfl⟩,h⟩
theorem min2{i j:Int}(h:Q (.int (if j<i then j else i)) g):cY .min [.int i,.int j] g Q:=⟨_,_,⟨rfl,.inl ⟨i,j,rfl,rfl⟩⟩,h⟩
theorem Xf{v:Bool}(h:Q (.int (if v then 1 else 0)) g):cY .int [.bl v] g Q:=⟨_,_,⟨rfl,.inr ⟨v,rfl,rfl⟩⟩,h⟩
theorem Ia{kvs:List D}{x:Str}{v:D}(hv:O5 kvs x=some v)(h:Q v g):cY .nK [.tup kvs,.str x] g Q:=⟨_,_,⟨kvs,x,rfl,hv,rfl⟩,h⟩
theorem Vx{i:Int}(hi:i.natAbs.log2<1920)(h:Q (.str (toString i)) g):cY .fv [.int i] g Q:=⟨_,_,⟨rfl,.inl ⟨i,rfl,hi,rfl⟩⟩,h⟩
theorem Rf{x:Str}(hx:V3 l=some x)(h:Q (.str x) g):cY .lR l g Q:=⟨_,_,⟨x,hx,rfl,rfl⟩,h⟩
theorem WM{i:Nat}{v:Bool}(hl:d0 g i=some l)(hv:V7 l=some v)(h:Q (.bl v) g):cY .all [.ref i] g Q:=⟨_,_,⟨i,l,v,rfl,hl,.inl hv,rfl,rfl⟩,h⟩
theorem m5{i:Nat}{x:D}{Z:S}{k:S->Prop}(h:k (Z.set i (some x))):jx (.one i) x Z k:=h
theorem A9{is:List Nat}{Z cq:S}{k:S->Prop}(e:E5 is l Z=some cq)(h:k cq):jx (.many is) (.tup l) Z k:=⟨l,cq,rfl,e,h⟩
end
theorem a23:∀(bs:List Bool),V7 (bs.map D.bl)=some (bs.all id):=by
 intro bs
 induction bs with
 |nil=>rfl
 |cons b r ih=>simp[V7,ih]
theorem call_of{T:Nat->Option aZ}{k f:Nat}{m:aZ}{ds:List D}{g:G}{Q:KD}{E:KX}(hT:T f=some m)(hl:ds.length=m.ar)(h:wpS (c8 T k) m.body ⟨λ_ g'=>Q .bQ g',Q,λ_ _=>False,λ_ _=>False⟩ (d7 m ds) g E):c8 T (k+1) f ds g Q E:=⟨m,hT,hl,h⟩
def IK.Is(k:IK)(l:List D)(g:G):Prop:=∀i,k.at i g=some l[i]?
theorem B5{l:List D}{g:G}:(IK.fix l).Is l g:=λ_=>rfl
theorem s9{a:Nat}{l:List D}{g:G}(h:d0 g a=some l):(IK.lst a).Is l g:=λi=>by simp only[IK.at,h]
def kR(l:List D):List D:=l.mapIdx λi d=>.tup [.int i,d]
theorem T8{a:Nat}{l:List D}{g:G}(h:d0 g a=some l):(IK.oO a).Is (kR l) g:=λi=>by
 simp only[IK.at,h,kR,List.getElem?_mapIdx]
theorem Qx{a:Nat}{l:List D}{g:G}(h:d0 g a=some l):(IK.sV a l.length).Is l.reverse g:=λi=>by
 simp only[IK.at,h,if_true];by_cases hi:i<l.length
 ·rw[aK hi,List.getElem?_reverse hi]
 ·rw[aD hi,ba (by simpa using hi)]
theorem C5(l:List D):(kR l).length=l.length:=by simp[kR]
theorem N1{l:List D}{i:Nat}{x:D}(h:(kR l)[i]?=some x):∃d,l[i]?=some d/\x=.tup [.int i,d]:=by
 rw[kR,List.getElem?_mapIdx,aa] at h;obtain⟨d,h1,h2⟩:=h;exact⟨d,h1,h2.symm⟩
theorem G0{lo:Int}{n i:Nat}{x:D}(h:(k8 lo n)[i]?=some x):i<n/\x=.int (lo+i):=by
 unfold k8 at h;have hi:i<n:=by
  have:=(aj.mp h).1;simpa using this
 rw[ai,cW hi] at h;cases h;exact⟨hi,rfl⟩
theorem q8(lo:Int)(n:Nat):(k8 lo n).length=n:=by simp[k8]
section
variable{P:fH}{Z:S}{g:G}{E:KX}{N:Ends}{it a b c o:ME}{s:MS}{t:MT}{Q:KD}
theorem a30{k:IK}{l:List D}{fin:S->G->Prop}{turn:D->(S->G->Prop)->S->G->Prop}(I:Nat->S->G->Prop)(hk:∀i Z g,I i Z g->k.Is l g)(h0:I 0 Z g)(hs:∀i x Z g,l[i]?=some x->I i Z g->turn x (I (i+1)) Z g)(hd:∀Z g,I l.length Z g->fin Z g):turns k Z g fin turn:=by
 refine⟨λi m Z g=>m=l.length-i/\i<=l.length/\I i Z g,⟨l.length,by simp,cJ _,h0⟩,?_⟩;rintro i m Z g ⟨rfl,hi,p⟩;rw[hk i Z g p i];by_cases et:i<l.length
 ·rw[ah et];exact .inr ⟨_,rfl,I (i+1),λcq g' p'=>⟨l.length-(i+1),by omega,rfl,et,p'⟩,hs i l[i] Z g (ah et) p⟩
 ·have e:i=l.length:=by omega
  subst e;rw[ba (av _)];exact .inl ⟨rfl,hd Z g p⟩
theorem x8(hP:i7 P)(h:fj P it Z g (λk g1=>∃(l:List D) (I:Nat->S->G->Prop),(∀i Z g,I i Z g->k.Is l g)/\I 0 Z g1 /\
      (∀ i x Z g,l[i]?=some x->I i Z g->jx t x Z λcK=>wpS P s ⟨I (i + 1),N.rt,N.nx,I (i + 1)⟩ cK g E)/\∀ Z g,I l.length Z g->N.nx Z g) E):wpS P (.dY t it s) N Z g E :=
  y9 hP it _ _ _ _ _ _ (λk g1 hq=>by obtain⟨l,I,hk,h0,hs,hd⟩:=hq;exact a30 I hk h0 hs hd) (λ_ _ z=>z) h
theorem F0{d6:List Nat}{n:Nat}{cond elt:ME}(hP:i7 P)(h:fj P it Z g (λk g1=>∃(l:List D) (I:Nat->List D->S->G->Prop),l.length<=1000/\(∀i ys Z g,I i ys Z g->k.Is l g/\ys.length<=i)/\I 0 [] (E2 Z d6 n) g1 /\
      (∀i x ys Z g,l[i]?=some x->I i ys Z g->jx t x Z λcK=>cT P cond cK g (λc g3=>if c=true then aS P elt cK g3 (λy g4=>I (i+1) (ys++[y]) cK g4) jk else I (i+1) ys cK g3) jk) /\
      ∀ ys Z g,I l.length ys Z g->Q (.ref g.length) (g ++ [.lst ys])) E):aS P (.comp d6 n t it cond elt) Z g Q E:=by
  simp only[aS];refine y9 hP it _ _ _ _ _ _ (λk g1 h=>?_) (λ_ _ z=>z) h;obtain⟨l,I,hl,hk,h0,hs,hd⟩:=h;refine⟨λi m ys Z g=>m=l.length-i/\i<=l.length/\I i ys Z g,⟨l.length,by simp,cJ _,h0⟩,?_⟩;rintro i m ys Z g ⟨rfl,hi,p⟩;obtain⟨nW,hy⟩:=hk i ys Z g p;rw[nW i];by_cases et:i<l.length
  · rw[ah et];refine .inr ⟨_,rfl,by omega,v9 (λcK q=>p6 hP cond _ _ _ _ _ _ (λc g3 q=>?_) (λ_ _ z=>z) q) (hs i l[i] ys Z g (ah et) p)⟩;cases c
    · exact⟨l.length-(i+1),by omega,rfl,et,by simpa using(show I (i+1) ys cK g3 from q)⟩
    · exact b9 hP elt _ _ _ _ _ _ (λy g4 q=>⟨l.length-(i+1),by omega,rfl,et,by simpa using q⟩) (λ_ _ z=>z) q
  · have e:i=l.length:=by omega
    subst e;rw[ba (av _)];exact .inl ⟨rfl,hd ys Z g p⟩
theorem UY{d6:List Nat}{n:Nat}{cond elt:ME}(hP:i7 P)(h:fj P it Z g (λk g1=>∃(l:List D) (I:Nat->List Int->S->G->Prop),l.length<60/\(∀i ys Z g,I i ys Z g->k.Is l g/\ys.length<=i)/\I 0 [] (E2 Z d6 n) g1 /\
      (∀i x ys Z g,l[i]?=some x->I i ys Z g->jx t x Z λcK=>cT P cond cK g (λc g3=>if c=true then aS P elt cK g3 (λy g4=>∃j,y=.int j/\I (i+1) (ys++[j]) cK g4) jk else I (i+1) ys cK g3) jk) /\
      ∀ ys Z g,I l.length ys Z g->Q (.ref g.length) (g ++ [.lst ((j9 ys).map .int)])) E):aS P (.hJ d6 n t it cond elt) Z g Q E:=by
  simp only[aS];refine y9 hP it _ _ _ _ _ _ (λk g1 h=>?_) (λ_ _ z=>z) h;obtain⟨l,I,hl,hk,h0,hs,hd⟩:=h;refine⟨λi m ys Z g=>m=l.length-i/\i<=l.length/\I i ys Z g,⟨l.length,by simp,cJ _,h0⟩,?_⟩;rintro i m ys Z g ⟨rfl,hi,p⟩;obtain⟨nW,hy⟩:=hk i ys Z g p;rw[nW i];by_cases et:i<l.length
  · rw[ah et];refine .inr ⟨_,rfl,by omega,v9 (λcK q=>p6 hP cond _ _ _ _ _ _ (λc g3 q=>?_) (λ_ _ z=>z) q) (hs i l[i] ys Z g (ah et) p)⟩;cases c
    · exact⟨l.length-(i+1),by omega,rfl,et,by simpa using(show I (i+1) ys cK g3 from q)⟩
    · refine b9 hP elt _ _ _ _ _ _ (λy g4 q=>?_) (λ_ _ z=>z) q;obtain⟨j,e,q⟩:=q;exact⟨j,e,l.length-(i+1),by omega,rfl,et,by simpa using q⟩
  · have e:i=l.length:=by omega
    subst e;rw[ba (av _)];exact .inl ⟨rfl,by omega,hd ys Z g p⟩
theorem aL7{d6:List Nat}{n:Nat}{cond elt:ME}(hP:i7 P)(h:aS P a Z g (λx g1=>∃j:Nat,x=.int j/\j<=1000/\∃I:Nat->List D->S->G->Prop,I 0 [] (E2 Z d6 n) g1/\(∀i ys Z g,I i ys Z g->ys.length<=i) /\
      (∀(i:Nat) ys Z g,i<j->I i ys Z g->jx t (.int i) Z λcK=>cT P cond cK g (λc g3=>if c=true then aS P elt cK g3 (λy g4=>I (i+1) (ys++[y]) cK g4) jk else I (i+1) ys cK g3) jk) /\
      ∀ ys Z g,I j ys Z g->Q (.ref g.length) (g ++ [.lst ys])) E):aS P (.comp d6 n t (.fA a) cond elt) Z g Q E:=by
  refine F0 hP ?_;simp only[fj];refine b9 hP a _ _ _ _ _ _ (λx g1 h=>?_) (λ_ _ z=>z) h;obtain⟨j,rfl,hj,I,h0,hz,hs,hd⟩:=h;refine⟨j,rfl,by omega,by omega,_,I,by rw[q8];simpa using hj,λi ys Z g p=>⟨B5,hz i ys Z g p⟩,h0,λi x ys Z g hx p=>?_,λys Z g p=>hd ys Z g (by rw[q8] at p;simpa using p)⟩;obtain⟨hi,rfl⟩:=G0 hx;rw[show(0:Int)+(i:Int)=i by omega];exact hs i ys Z g (by simpa using hi) p
theorem JI{d6:List Nat}{n:Nat}{cond elt:ME}(hP:i7 P)(h:aS P a Z g (λx g1=>∃l,x=.tup l/\l.length<=1000/\∃I:Nat->List D->S->G->Prop,I 0 [] (E2 Z d6 n) g1/\(∀i ys Z g,I i ys Z g->ys.length<=i) /\
      (∀(i:Nat) x ys Z g,l[i]?=some x->I i ys Z g->jx t x Z λcK=>cT P cond cK g (λc g3=>if c=true then aS P elt cK g3 (λy g4=>I (i+1) (ys++[y]) cK g4) jk else I (i+1) ys cK g3) jk) /\
      ∀ ys Z g,I l.length ys Z g->Q (.ref g.length) (g ++ [.lst ys])) E):aS P (.comp d6 n t (.fF a) cond elt) Z g Q E:=by
  refine F0 hP ?_;simp only[fj];refine b9 hP a _ _ _ _ _ _ (λx g1 h=>?_) (λ_ _ z=>z) h;obtain⟨l,rfl,hj,I,h0,hz,hs,hd⟩:=h;exact .inl ⟨l,rfl,_,I,hj,λi ys Z g p=>⟨B5,hz i ys Z g p⟩,h0,hs,hd⟩
theorem CC(I:Nat->S->G->Prop)(m0:Nat)(h0:I m0 Z g)(hs:∀m Z g,I m Z g->cT P c Z g (λt g1=>if t=true then wpS P s ⟨λcq g'=>∃m',m'<m/\I m' cq g',N.rt,N.nx,λcq g'=>∃m',m'<m/\I m' cq g'⟩ Z g1 E else N.nx Z g1) E)(hP:i7 P):wpS P (.jE c s) N Z g E:=by
 refine⟨I,⟨m0,h0⟩,λm Z g p=>p6 hP c _ _ _ _ _ _ (λt g1 q=>?_) (λ_ _ z=>z) (hs m Z g p)⟩;cases t
 ·exact q
 ·exact⟨_,λ_ _ z=>z,q⟩
theorem qh(hP:i7 P){R:IK->G->Prop}(h:aS P a Z g (λx g1=>∃j:Int,x=.int j/\-(2 ^ 62)<=j/\j<2 ^ 62/\R (.fix (k8 0 j.toNat)) g1) E):fj P (.fA a) Z g R E:=h
theorem xF(hP:i7 P){R:IK->G->Prop}(h:aS P a Z g (λx g1=>∃l,x=.tup l/\R (.fix l) g1) E):fj P (.fF a) Z g R E:=by
 simp only[fj];exact b9 hP a _ _ _ _ _ _ (λx g1 h=>.inl h) (λ_ _ z=>z) h
theorem kL(hP:i7 P){R:IK->G->Prop}(h:aS P a Z g (λx g1=>∃i l,x=.ref i/\d0 g1 i=some l/\R (.lst i) g1) E):fj P (.fF a) Z g R E:=by
 simp only[fj];exact b9 hP a _ _ _ _ _ _ (λx g1 h=>.inr h) (λ_ _ z=>z) h
theorem NC{R:IK->G->Prop}(h:aS P a Z g (λx g1=>∃i l,x=.ref i/\d0 g1 i=some l/\R (.sV i l.length) g1) E):fj P (.nV a) Z g R E:=h
theorem sY{R:IK->G->Prop}(h:aS P a Z g (λx g1=>∃i l,x=.ref i/\d0 g1 i=some l/\R (.oO i) g1) E):fj P (.jS a) Z g R E:=h
end
end M

namespace M
open PySem L2 PySem.Spec PyProof.Rows
structure RF where
 id:Nat
 nm:Str
 N:List Str
 k:Nat
 i:Nat
 m:aZ
structure RM where
 id:Nat
 cl:Str
 nm:Str
 qn:Str
 N:List Str
 k:Nat
 i:Nat
 j:Nat
 m:aZ
def RF.d(tp:Nat->Stmt)(r:RF):oY:=⟨r.nm,r.nm,r.N,r.N.take r.k,tp r.i⟩
def RM.d(mt:Nat->Nat->Stmt)(r:RM):oY:=⟨r.nm,r.qn,r.N,r.N.take r.k,mt r.i r.j⟩
def tS(F:List RF)(M:List RM)(i:Nat):Option aZ:=match F.find? λr=>Nat.beq r.id i with
 |some r=>some r.m
 |none=>(M.find? λr=>Nat.beq r.id i).map (·.m)
section
variable(tp:Nat->Stmt)(mt:Nat->Nat->Stmt)(K:PySem.W.Frag)
def PF:List RF->Prop
 |[]=>True
 |r::l=>(∃f fd,PySem.W.nsIn K mainGlobals r.nm=some (some (.ref f))/\qm K r.nm r.nm (tp r.i) f fd)/\PF l
def PM:List RM->Prop
 |[]=>True
 |r::l=>(∃C f fd,PySem.W.nsIn K mainGlobals r.cl=some (some (.ref C))/\Meth K C r.nm f/\qm K r.nm r.qn (mt r.i r.j) f fd)/\PM l
def PC:List (Str×Nat)->Prop
 |[]=>True
 |r::l=>(∃C,PySem.W.nsIn K mainGlobals r.1=some (some (.ref C))/\jU K C/\PySem.W.makesIn K C=true/\PySem.W.keepIn K (.ref C)=true)/\PC l
def PA:List (Str×Str)->Prop
 |[]=>True
 |r::l=>(∃C,PySem.W.nsIn K mainGlobals r.2=some (some (.ref C))/\PySem.W.findIn K (.ref C) r.1=some none)/\PA l
def PB:List Str->Prop
 |[]=>True
 |r::l=>PySem.W.nsIn K mainGlobals r=some none/\PB l
def PX:List Str->Prop
 |[]=>True
 |r::l=>(∃C,PySem.W.nsIn K mainGlobals r=some (some (.ref C))/\PySem.W.excIn K C [.type "ValueError",.type "Exception",.type "BaseException",.type "object"] "ValueError.__new__"=true)/\PX l
def BF:List RF->Prop
 |[]=>True
 |r::l=>(∀(kV doc pm:Value) (an:Option Addr) (fQ ct:Value) (us:List Value),us.length=(r.N.take r.k).length->bindArgs (PySem.W.fnOf r.nm r.nm (B9 (tp r.i)) (q9 (tp r.i)) (p8 (tp r.i)) .none kV doc pm an fQ ct) ⟨us,[]⟩=pure ((r.N.take r.k).zip us))/\BF l
def BM:List RM->Prop
 |[]=>True
 |r::l=>(∀(kV doc pm:Value) (an:Option Addr) (fQ ct:Value) (us:List Value),us.length=(r.N.take r.k).length->bindArgs (PySem.W.fnOf r.nm r.qn (B9 (mt r.i r.j)) (q9 (mt r.i r.j)) (p8 (mt r.i r.j)) .none kV doc pm an fQ ct) ⟨us,[]⟩=pure ((r.N.take r.k).zip us))/\BM l
def YF(c:i6):List RF->Prop
 |[]=>True
 |r::l=>A3 (comp 60) (c.at (r.d tp)) (q9 (tp r.i))=some r.m.body/\YF c l
def YM(c:i6):List RM->Prop
 |[]=>True
 |r::l=>A3 (comp 60) (c.at (r.d mt)) (q9 (mt r.i r.j))=some r.m.body/\YM c l
end
section
variable{tp:Nat->Stmt}{mt:Nat->Nat->Stmt}{K:PySem.W.Frag}{c:i6}{id k i j:Nat}{cl nm qn x:Str}{N:List Str}{m:aZ}{f C:Addr}{oc kV doc pm fQ ct:Value}{od an:Option Addr}{mq:Array (Option Value)}
theorem PF.nil:PF tp K []:=trivial
theorem PF.cons{l:List RF}(a:PySem.W.nsIn K mainGlobals nm=some (some (.ref f)))(lk:K.lookup f=some ⟨oc,od,.func (PySem.W.fnOf nm nm (B9 (tp i)) (q9 (tp i)) (p8 (tp i)) .none kV doc pm an fQ ct),mq⟩)(cd:PySem.W.codeIn K fQ nm=true)(kp:PySem.W.keepIn K (.ref f)=true)(h:PF tp K l):PF tp K (⟨id,nm,N,k,i,m⟩::l):=⟨⟨f,_,a,Kj lk cd kp⟩,h⟩
theorem PM.nil:PM mt K []:=trivial
theorem PM.cons{l:List RM}(c0:PySem.W.nsIn K mainGlobals cl=some (some (.ref C)))(a:PySem.W.findIn K (.ref C) nm=some (some (.ref f)))(af:PySem.W.isFn K (.ref f)=true)(lk:K.lookup f=some ⟨oc,od,.func (PySem.W.fnOf nm qn (B9 (mt i j)) (q9 (mt i j)) (p8 (mt i j)) .none kV doc pm an fQ ct),mq⟩)(cd:PySem.W.codeIn K fQ qn=true)(kp:PySem.W.keepIn K (.ref f)=true)(h:PM mt K l):PM mt K (⟨id,cl,nm,qn,N,k,i,j,m⟩::l):=⟨⟨C,f,_,c0,⟨a,af,kp⟩,Kj lk cd kp⟩,h⟩
theorem PC.nil:PC K []:=trivial
theorem PC.cons{l:List (Str×Nat)}(cn:PySem.W.nsIn K mainGlobals x=some (some (.ref C)))(cp:PySem.W.plainGet K C Str.empty=true)(Qn:PySem.W.hasDictIn K C=true)(Qk:PySem.W.plainOver K C=true)(Qj:PySem.W.findIn K (.ref C) "__setattr__"=some (some (.builtin "object.__setattr__")))(Ql:PySem.W.makesIn K C=true)(Qm:PySem.W.keepIn K (.ref C)=true)(h:PC K l):PC K ((x,i)::l):=⟨⟨C,cn,⟨cp,Qn,Qk,Qj⟩,Ql,Qm⟩,h⟩
theorem PA.nil:PA K []:=trivial
theorem PA.cons{l:List (Str×Str)}(cn:PySem.W.nsIn K mainGlobals x=some (some (.ref C)))(fl:PySem.W.findIn K (.ref C) nm=some none)(h:PA K l):PA K ((nm,x)::l):=⟨⟨C,cn,fl⟩,h⟩
theorem PB.nil:PB K []:=trivial
theorem PB.cons{l:List Str}(cn:PySem.W.nsIn K mainGlobals x=some none)(h:PB K l):PB K (x::l):=⟨cn,h⟩
theorem PX.nil:PX K []:=trivial
theorem PX.cons{l:List Str}(cn:PySem.W.nsIn K mainGlobals x=some (some (.ref C)))(q:PySem.W.excIn K C [.type "ValueError",.type "Exception",.type "BaseException",.type "object"] "ValueError.__new__"=true)(h:PX K l):PX K (x::l):=⟨⟨C,cn,q⟩,h⟩
theorem EW{P:List Value->Prop}{n:Nat}(h:∀a vs,vs.length=n->P (a::vs))(us:List Value)(hl:us.length=n+1):P us:=by
 cases us with
 |nil=>cases hl
 |cons a vs=>exact h a vs (Nat.succ.inj hl)
theorem EV{P:List Value->Prop}(h:P [])(us:List Value)(hl:us.length=0):P us:=by
 cases sO.mp hl;exact h
theorem BF.nil:BF tp []:=trivial
theorem BF.cons{l:List RF}(h:∀(kV doc pm:Value) (an:Option Addr) (fQ ct:Value) (us:List Value),us.length=(N.take k).length->bindArgs (PySem.W.fnOf nm nm (B9 (tp i)) (q9 (tp i)) (p8 (tp i)) .none kV doc pm an fQ ct) ⟨us,[]⟩=pure ((N.take k).zip us))(h2:BF tp l):BF tp (⟨id,nm,N,k,i,m⟩::l):=⟨h,h2⟩
theorem BM.nil:BM mt []:=trivial
theorem BM.cons{l:List RM}(h:∀(kV doc pm:Value) (an:Option Addr) (fQ ct:Value) (us:List Value),us.length=(N.take k).length->bindArgs (PySem.W.fnOf nm qn (B9 (mt i j)) (q9 (mt i j)) (p8 (mt i j)) .none kV doc pm an fQ ct) ⟨us,[]⟩=pure ((N.take k).zip us))(h2:BM mt l):BM mt (⟨id,cl,nm,qn,N,k,i,j,m⟩::l):=⟨h,h2⟩
theorem YF.nil:YF tp c []:=trivial
theorem YF.cons{l:List RF}(h:A3 (comp 60) (c.at ⟨nm,nm,N,N.take k,tp i⟩) (q9 (tp i))=some m.body)(h2:YF tp c l):YF tp c (⟨id,nm,N,k,i,m⟩::l):=⟨h,h2⟩
theorem YM.nil:YM mt c []:=trivial
theorem YM.cons{l:List RM}(h:A3 (comp 60) (c.at ⟨nm,qn,N,N.take k,mt i j⟩) (q9 (mt i j))=some m.body)(h2:YM mt c l):YM mt c (⟨id,cl,nm,qn,N,k,i,j,m⟩::l):=⟨h,h2⟩
theorem YF.get:∀{l:List RF},YF tp c l->∀r∈l,A3 (comp 60) (c.at (r.d tp)) (q9 (tp r.i))=some r.m.body
 |_::_,h,r,hr=>(aI.mp hr).elim (λz=>z▸h.1) (YF.get h.2 r)
theorem YM.get:∀{l:List RM},YM mt c l->∀r∈l,A3 (comp 60) (c.at (r.d mt)) (q9 (mt r.i r.j))=some r.m.body
 |_::_,h,r,hr=>(aI.mp hr).elim (λz=>z▸h.1) (YM.get h.2 r)
theorem PF.get:∀{l:List RF},PF tp K l->∀r∈l,∃f fd,PySem.W.nsIn K mainGlobals r.nm=some (some (.ref f))/\qm K r.nm r.nm (tp r.i) f fd
 |_::_,h,r,hr=>(aI.mp hr).elim (λz=>z▸h.1) (PF.get h.2 r)
theorem PM.get:∀{l:List RM},PM mt K l->∀r∈l,∃C f fd,PySem.W.nsIn K mainGlobals r.cl=some (some (.ref C))/\Meth K C r.nm f/\qm K r.nm r.qn (mt r.i r.j) f fd
 |_::_,h,r,hr=>(aI.mp hr).elim (λz=>z▸h.1) (PM.get h.2 r)
theorem PC.get:∀{l:List (Str×Nat)},PC K l->∀r∈l,∃C,PySem.W.nsIn K mainGlobals r.1=some (some (.ref C))/\jU K C/\PySem.W.makesIn K C=true/\PySem.W.keepIn K (.ref C)=true
 |_::_,h,r,hr=>(aI.mp hr).elim (λz=>z▸h.1) (PC.get h.2 r)
theorem PA.get:∀{l:List (Str×Str)},PA K l->∀r∈l,∃C,PySem.W.nsIn K mainGlobals r.2=some (some (.ref C))/\PySem.W.findIn K (.ref C) r.1=some none
 |_::_,h,r,hr=>(aI.mp hr).elim (λz=>z▸h.1) (PA.get h.2 r)
theorem PB.get:∀{l:List Str},PB K l->∀r∈l,PySem.W.nsIn K mainGlobals r=some none
 |_::_,h,r,hr=>(aI.mp hr).elim (λz=>z▸h.1) (PB.get h.2 r)
theorem PX.get:∀{l:List Str},PX K l->∀r∈l,∃C,PySem.W.nsIn K mainGlobals r=some (some (.ref C))/\PySem.W.excIn K C [.type "ValueError",.type "Exception",.type "BaseException",.type "object"] "ValueError.__new__"=true
 |_::_,h,r,hr=>(aI.mp hr).elim (λz=>z▸h.1) (PX.get h.2 r)
theorem BF.get:∀{l:List RF},BF tp l->∀r∈l,∀(kV doc pm:Value) (an:Option Addr) (fQ ct:Value) (us:List Value),us.length=(r.N.take r.k).length->bindArgs (PySem.W.fnOf r.nm r.nm (B9 (tp r.i)) (q9 (tp r.i)) (p8 (tp r.i)) .none kV doc pm an fQ ct) ⟨us,[]⟩=pure ((r.N.take r.k).zip us)
 |_::_,h,r,hr=>(aI.mp hr).elim (λz=>z▸h.1) (BF.get h.2 r)
theorem BM.get:∀{l:List RM},BM mt l->∀r∈l,∀(kV doc pm:Value) (an:Option Addr) (fQ ct:Value) (us:List Value),us.length=(r.N.take r.k).length->bindArgs (PySem.W.fnOf r.nm r.qn (B9 (mt r.i r.j)) (q9 (mt r.i r.j)) (p8 (mt r.i r.j)) .none kV doc pm an fQ ct) ⟨us,[]⟩=pure ((r.N.take r.k).zip us)
 |_::_,h,r,hr=>(aI.mp hr).elim (λz=>z▸h.1) (BM.get h.2 r)
end
def xq(N P:List Str)(sc:Scope):Bool:=decide (sc.kind=.function)&&!sc.isCoroutine&&!sc.isGenerator&&decide N.Nodup&&decide (N.take P.length=P)&&P.all (λx=>decide (sc.names.lookup x=some .local)||decide (sc.names.lookup x=some .cell))&&sc.names.all λy=>decide (y.2≠.free)
theorem Kt{N P:List Str}{sc:Scope}(h:xq N P sc=true):iS N P sc:=by
 unfold xq at h;simp only[Bool.and_eq_true,decide_eq_true_eq,Bool.not_eq_true',List.all_eq_true,Bool.or_eq_true] at h;obtain⟨⟨⟨⟨⟨⟨h1,h2⟩,h3⟩,h4⟩,h5⟩,h6⟩,h7⟩:=h;exact⟨h1,h2,h3,h4,h5,h6,h7⟩
theorem ZQ{K:PySem.W.Frag}{h₀:Heap}{mg:Str->Option Value}{x:Str}{C:Addr}{HP:List Value}{newId:String}(X:K.In h₀)(G:h₀.Ns mainGlobals mg)(e:PySem.W.nsIn K mainGlobals x=some (some (.ref C)))(q:PySem.W.excIn K C HP newId=true):PyProof.Rows.OwnCls x C HP newId mg h₀:=by
 refine⟨bX X G e,?_⟩;unfold PySem.W.excIn at q;split at q
 ·rename_i dd cd sl ho;split at q
  ·rename_i C' bm k0 k1 k2 k3 n k5 hm hs;simp only[Bool.and_eq_true,beq_iff_eq,Bool.not_eq_true'] at q;obtain⟨⟨⟨⟨⟨z1,z2⟩,vx⟩,ht⟩,bZ⟩,xJ⟩:=q;subst z1;subst z2;obtain⟨nm,bs,mro,ns,qn,hd,sn,sub,ab,col,del⟩:=cd;dsimp only at hm vx bZ xJ;subst hm vx;have pL:sl=#[k0,k1,k2,k3,some (.builtin n),k5]:=by
    obtain⟨l⟩:=sl;simp only at hs;rw[hs]
   subst pL;exact⟨bm,ns,nm,qn,bs,hd,sn,sub,ab,col,dd,k0,k1,k2,k3,k5,_,X _ _ ho,.of_isNs (PySem.W.isNs_of_in X bZ),PySem.W.nsMap_none_of_in X bZ xJ,PySem.W.tail_of_in X ht⟩
  ·cases q
 ·cases q
def R5(K:PySem.W.Frag)(x:Str):Addr:=match PySem.W.nsIn K mainGlobals x with
 |some (some (.ref C))=>C
 |_=>0
def KH(K:PySem.W.Frag)(exc:List Str):Bool:=exc.all λx=>exc.all λy=>decide (PySem.W.exmOne K (.ref (R5 K x)) (.ref (R5 K y))=some (decide (x=y\/y="MintError")))
theorem YO{K:PySem.W.Frag}{exc:List Str}(h:KH K exc=true){x y:Str}{C C':Addr}(hx:exc.contains x=true)(hy:exc.contains y=true)(hC:v7 K x C)(Bb:v7 K y C'):PySem.W.exmOne K (.ref C) (.ref C')=some (decide (x=y\/y="MintError")):=by
 have h1:=bo.mp h x (by simpa using hx);have h2:=bj (bo.mp h1 y (by simpa using hy));have e1:R5 K x=C:=by unfold R5;rw[show PySem.W.nsIn K mainGlobals x=_ from hC]
 have e2:R5 K y=C':=by unfold R5;rw[show PySem.W.nsIn K mainGlobals y=_ from Bb]
 rw[e1,e2] at h2;exact h2
theorem Co{α:Type}{f:α->Nat}:∀{l:List α},(l.map f).Nodup->∀r∈l,l.find? (λx=>Nat.beq (f x) (f r))=some r
 |y::l,nd,r,hr=>by
  rw[bg,cU] at nd;rcases aI.mp hr with rfl|hr
  ·rw[List.find?_cons_of_pos];exact Nat.beq_refl _
  ·rw[List.find?_cons_of_neg]
   ·exact Co nd.2 r hr
   ·intro z;exact nd.1 (aM.mpr ⟨r,hr,(iV z).symm⟩)
theorem Td{α β:Type}{f:α->Nat}{g:β->Nat}{l:List α}{r:β}(h:g r∉l.map f):l.find? (λx=>Nat.beq (f x) (g r))=none:=by
 rw[gC];intro x hx z;exact h (aM.mpr ⟨x,hx,iV z⟩)
section
variable{w:World}{K:PySem.W.Frag}{h₀:Heap}{mg:Str->Option Value}{c:i6}{F:List RF}{M:List RM}{tp:Nat->Stmt}{mt:Nat->Nat->Stmt}
structure lA(K:PySem.W.Frag)(c:i6)(F:List RF)(M:List RM)(tp:Nat->Stmt)(mt:Nat->Nat->Stmt):Prop where
 qF:PF tp K F
 qM:PM mt K M
 qC:PC K c.cls
 qA:PA K c.oK
 qB:PB K c.blt
 qX:PX K c.exc
 xm:KH K c.exc=true
structure lz(c:i6)(F:List RF)(M:List RM)(tp:Nat->Stmt)(mt:Nat->Nat->Stmt):Prop where
 cf:c.fns=F.map λr=>(r.nm,r.id)
 cm:c.qT=M.map λr=>(r.nm,r.cl,r.id)
 ci:c.cls.all (λy=>M.any λr=>decide (r.cl=y.1)&&decide (r.nm="__init__")&&Nat.beq r.id y.2)=true
 nd:(F.map (·.id)++M.map (·.id)).Nodup
 sF:F.all (λr=>xq r.N (r.N.take r.k) (p8 (tp r.i))&&decide (r.m.ar=(r.N.take r.k).length)&&decide (r.m.n=r.N.length))=true
 sM:M.all (λr=>xq r.N (r.N.take r.k) (p8 (mt r.i r.j))&&decide (r.m.ar=(r.N.take r.k).length)&&decide (r.m.n=r.N.length))=true
 oF:YF tp c F
 oM:YM mt c M
 bF:BF tp F
 bM:BM mt M
theorem Lf(I:lA K c F M tp mt)(X:lz c F M tp mt)(r:RF)(hr:r∈F):∃f fd,jB K c (r.d tp) r.m f fd/\PySem.W.nsIn K mainGlobals r.nm=some (some (.ref f))/\tS F M r.id=some r.m:=by
 obtain⟨f,fd,a,q⟩:=I.qF.get r hr;have s:=bo.mp X.sF r hr;simp only[Bool.and_eq_true,decide_eq_true_eq] at s;have o:=X.oF.get r hr;refine⟨f,fd,⟨q,q.binds (X.bF.get r hr),Kt s.1.1,o,s.1.2,s.2⟩,a,?_⟩;unfold tS;rw[Co (f:=(·.id)) (cw.mp X.nd).1 r hr]
theorem Lg(I:lA K c F M tp mt)(X:lz c F M tp mt)(r:RM)(hr:r∈M):∃C f fd,jB K c (r.d mt) r.m f fd/\PySem.W.nsIn K mainGlobals r.cl=some (some (.ref C))/\Meth K C r.nm f/\tS F M r.id=some r.m:=by
 obtain⟨C,f,fd,a,q1,q⟩:=I.qM.get r hr;have s:=bo.mp X.sM r hr;simp only[Bool.and_eq_true,decide_eq_true_eq] at s;have o:=X.oM.get r hr;refine⟨C,f,fd,⟨q,q.binds (X.bM.get r hr),Kt s.1.1,o,s.1.2,s.2⟩,a,q1,?_⟩;have nd:=cw.mp X.nd;unfold tS;rw[Td (f:=λr:RF=>r.id) (g:=λr:RM=>r.id) (r:=r) (λz=>nd.2.2 _ z _ (aM.mpr ⟨r,hr,rfl⟩) rfl),Co (f:=λr:RM=>r.id) nd.2.1 r hr]
 rfl
theorem SE(I:lA K c F M tp mt)(Y:lz c F M tp mt)(X:K.In h₀)(G:h₀.Ns mainGlobals mg)(con:∀x d,c.con.lookup x=some d->∃v u,mg x=some u/\RelV v u/\∀ρ H,d8 K ρ H d v)(rP:∀x kvs,c.gd.lookup x=some kvs->∃A vs,mg x=some (.ref A)/\wu K w.params A vs/\qe K kvs vs):nO w K mg c (tS F M):=by
 refine⟨λx i hx=>?_,λx i hx=>?_,λx y i C hx hC=>?_,λf y C hx hC=>?_,con,λx hx=>?_,λx hx=>?_,λx y C C' hx hy hC Bb=>YO I.xm hx hy hC Bb,rP⟩
 ·have hm:=aQ hx;rw[Y.cf] at hm;obtain⟨r,hr,e⟩:=aM.mp hm;cases e;obtain⟨f,fd,O,a,t⟩:=Lf I Y r hr;exact⟨_,_,f,fd,t,O,bX X G a⟩
 ·have hm:=aQ hx;have h1:=bo.mp Y.ci _ hm;obtain⟨r,hr,e⟩:=bK.mp h1;simp only[Bool.and_eq_true,decide_eq_true_eq] at e;obtain⟨⟨e1,e2⟩,e3⟩:=e;have e3:=iV e3;obtain⟨C,f,fd,O,a,q,t⟩:=Lg I Y r hr;obtain⟨C',a',hc,mk,kp⟩:=I.qC.get _ hm;rw[e1] at a;cases a.symm.trans a';rw[e2] at q;rw[e3] at t;exact⟨C,_,_,f,fd,t,O,bX X G a,a,hc,⟨mk,q.at_,q.fn,kp⟩⟩
 ·rw[Y.cm] at hx;obtain⟨r,hr,e⟩:=aM.mp hx;cases e;obtain⟨C',f,fd,O,a,q,t⟩:=Lg I Y r hr;cases a.symm.trans hC;exact⟨_,_,f,fd,t,O,q⟩
 ·obtain⟨C',a,q⟩:=I.qA.get _ hx;cases a.symm.trans hC;exact q
 ·exact PySem.W.mg_none_of X G (I.qB.get x (by simpa using hx))
 ·obtain⟨C,a,q⟩:=I.qX.get x (by simpa using hx);exact⟨_,bX X G a,a,λbase nU vN=>⟨_,_,_,_,ZQ nU vN a q,PySem.F.excBase_ValueError⟩⟩
end
end M

namespace M
open PySem L2
set_option hygiene false
local macro_rules|`(tactic|walk_at"w1")=>`(tactic|with_reducible first|refine wI ?_|refine DS ?_|refine yq ?_|refine Yy ?_|refine SK ?_|refine YA ?_|refine Ln ?_|refine SQ ?_|refine Iw ?_|refine R6 ?_|refine zG ?_|(refine w_var (d:=?_) ?_ ?_;rotate_left;·with_unfolding_all rfl)|refine w_lit ?_|refine HN ?_|refine HM ?_|refine WI ?_|refine SO ?_|refine UW ?_|refine w_and ?_|refine w_or ?_|refine w_not ?_|refine w_ite ?_|refine BY ?_|refine SM ?_|refine xk ?_|refine DQ ?_|refine wH ?_|refine SR ?_|refine Yz ?_|refine SS ?_|refine DT ?_|refine Iy ?_|refine WK ?_|refine WL ?_|refine EX ?_|refine Vu ?_|refine Vt ?_|refine Vr ?_|refine Vq ?_|refine WQ ?_|refine WU ?_|refine Hx ?_|refine Hm ?_|refine WR ?_|refine Ht ?_|refine Hr ?_|refine Hs ?_|refine Ho ?_|refine Hn ?_|refine Hq ?_|refine Vs ?_|refine WS ?_|refine Hw ?_|refine Hu ?_|refine Hv ?_|refine HX ?_|refine WD ?_|refine Cj ?_|refine Qu ?_|refine nr ?_|refine si ?_|refine HA ?_|refine VE ?_|refine FH ?_|refine zO ?_|refine zM ?_|refine zN ?_|refine Fi ?_|refine FF ?_|refine EY ?_)
local macro_rules|`(tactic|walk_at"w2")=>`(tactic|repeat(with_reducible first|walk_at "w1"|refine DJ (by simp) ?_|refine DI (by simp) ?_|refine u5 (a8 (by assumption)) (by with_unfolding_all rfl) ?_|refine O6 (a8 (by assumption)) ?_|refine Dx (by unfold oR;decide) ?_))
local macro_rules|`(tactic|walk_at"w3")=>`(tactic|repeat(with_reducible first|walk_at "w1"|refine DJ (by simp) ?_|refine DI (by simp) ?_|refine u5 (a8 (by assumption)) (by with_unfolding_all rfl) ?_|refine O6 (a8 (by assumption)) ?_|refine Dx (by unfold oR;decide) ?_|refine And.intro (show List.length _ <= 1000 from by simp) ?_|refine A9 (by with_unfolding_all rfl) ?_|refine m5 ?_|refine B4 (by with_unfolding_all rfl) ?_))
local macro_rules|`(tactic|walk_at"")=>`(tactic|repeat(with_reducible first|walk_at "w1"|refine UX ?_|refine EU ?_|refine SN ?_|refine Hl ?_|refine Yq ?_|refine EZ ?_|refine max2 ?_|refine min2 ?_|refine Xf ?_|refine oV ?_|refine PH ?_|refine GL ?_|refine DJ (by simp) ?_|refine DI (by simp) ?_|refine u5 (a8 (by assumption)) (by with_unfolding_all rfl) ?_|refine O6 (a8 (by assumption)) ?_|refine Dx (by unfold oR;decide) ?_|refine And.intro (show List.length _ <= 1000 from by simp) ?_|refine A9 (by with_unfolding_all rfl) ?_|refine m5 ?_|refine B4 (by with_unfolding_all rfl) ?_|refine And.intro (S5 (by assumption)) ?_|refine And.intro (QO (by assumption)) ?_|refine And.intro (VN (by assumption)) ?_|refine Q7 (by decide) ?_|refine YB (by decide) (by decide) ?_|refine sY ?_))
set_option hygiene true
abbrev eO(a:ME):ME:=.cons a .nil
abbrev dE(a b:ME):ME:=.cons a (.cons b .nil)
abbrev gI(a b c:ME):ME:=.cons a (.cons b (.cons c .nil))
abbrev qw(a b c d:ME):ME:=.cons a (.cons b (.cons c (.cons d .nil)))
abbrev uw(a b c d e:ME):ME:=.cons a (.cons b (.cons c (.cons d (.cons e .nil))))
abbrev GI(a b c d e f:ME):ME:=.cons a (.cons b (.cons c (.cons d (.cons e (.cons f .nil)))))
abbrev Pt(a b c d e f g:ME):ME:=.cons a (.cons b (.cons c (.cons d (.cons e (.cons f (.cons g .nil))))))
abbrev ff(o:PySem.CmpOp)(a b:ME):ME:=.fS (.prim (.cmp o) (.cons a (.cons b .nil)))
abbrev df(a b:ME):ME:=.prim .ix (.cons a (.cons b .nil))
abbrev bf(a:Int):ME:=.lit (.int a)
abbrev iJ(a:PySem.Str):ME:=.lit (.str a)
abbrev dX(p:Pr)(a:ME):ME:=.prim p (.cons a .nil)
abbrev cE(p:Pr)(a b:ME):ME:=.prim p (.cons a (.cons b .nil))
abbrev aP:ME:=.var 0
abbrev bh:ME:=.var 1
abbrev kX:ME:=.var 10
abbrev kW:ME:=.var 11
abbrev kj:ME:=.var 12
abbrev va:ME:=.var 13
abbrev pG:ME:=.var 15
abbrev uZ:ME:=.var 16
abbrev bp:ME:=.var 2
abbrev bR:ME:=.var 3
abbrev dg:ME:=.var 4
abbrev fz:ME:=.var 5
abbrev fk:ME:=.var 6
abbrev je:ME:=.var 7
abbrev ni:ME:=.var 8
abbrev nh:ME:=.var 9
def E9:aZ:=⟨2,5,(.seq (.ifs (.eL (ff .Lt (df aP (bf 2)) bh) (ff .Lt (df aP (bf 1)) (dX .len (df aP (bf 0))))) (.seq (.set 2 (df (df aP (bf 0)) (df aP (bf 1)))) (.seq (.eF aP (bf 1) (cE (.bin .Add) (df aP (bf 1)) (bf 1))) (.seq (.eF aP (bf 2) (bf 0)) (.seq (.ifs (ff .GtE bp (cE (.bin .Pow) (bf 10) (bf 18))) (.seq (.eF aP (bf 2) bp) .pass) (.seq (.eF aP (bf 3) (cE (.bin .Mod) (cE (.bin .Add) (cE (.bin .Add) (cE (.bin .Mult) (df aP (bf 3)) (bf 48271)) (cE (.bin .Mult) (cE (.bin .Mod) bp (bf 2147483629)) (bf 69621))) (bf 12345)) (bf 2147483647))) .pass)) .pass)))) .pass) (.seq (.ifs (ff .GtE (df aP (bf 2)) bh) (.seq (.set 3 (cE (.bin .Mod) (df aP (bf 2)) bh)) (.seq (.eF aP (bf 2) (cE (.bin .FloorDiv) (df aP (bf 2)) bh)) (.seq (.ret bR) .pass))) .pass) (.seq (.set 4 (df aP (bf 3))) (.seq (.eF aP (bf 3) (cE (.bin .Mod) (cE (.bin .Add) (cE (.bin .Add) (cE (.bin .Mult) (cE (.bin .Mod) (cE (.bin .Mult) dg dg) (bf 2147483629)) (bf 5)) (cE (.bin .Mult) dg (bf 16811))) (bf 2531011)) (bf 2147483647))) (.seq (.ret (cE (.bin .Mod) (cE (.bin .Add) (cE (.bin .FloorDiv) (df aP (bf 3)) (bf 59)) (cE (.bin .Mult) (cE (.bin .Mod) (df aP (bf 3)) (bf 8191)) (bf 31))) bh)) .pass)))))⟩
structure j7(g:G)(d:Nat):Prop where
 ex:∃(s:Nat) (p b r:Int) (xs:List Int),g[d]?=some (.lst [.ref s,.int p,.int b,.int r])/\g[s]?=some (.lst (xs.map .int))/\s<d/\0<=p/\0<=b/\0<=r/\r<2147483647
structure Gr(d:Nat)(g g':G):Prop where
 len:g.length<=g'.length
 old:∀i,i≠d->i<g.length->g'[i]?=g[i]?
theorem Gr.refl(d:Nat)(g:G):Gr d g g:=⟨av _,λ_ _ _=>rfl⟩
theorem Gr.trans{d:Nat}{g g1 g2:G}(a:Gr d g g1)(b:Gr d g1 g2):Gr d g g2:=⟨aE a.len b.len,λi h1 h2=>(b.old i h1 (ay h2 a.len)).trans (a.old i h1 h2)⟩
theorem Gr.set(d:Nat)(g:G)(o:O):Gr d g (g.set d o):=⟨by simp,λi h1 h2=>aw (bT h1)⟩
theorem Gr.snoc(d:Nat)(g:G)(o:O):Gr d g (g++[o]):=⟨by simp,λi h1 h2=>aA h2⟩
theorem Gr.at{d:Nat}{g g':G}(h:Gr d g g'){i:Nat}{o:O}(hi:i≠d)(e:g[i]?=some o):g'[i]?=some o:=(h.old i hi (aj.mp e).1).trans e
theorem k6{g:G}{i:Nat}{o:O}(h:g[i]?=some o):i<g.length:=(aj.mp h).1
theorem j7.lt{g:G}{d:Nat}(h:j7 g d):d<g.length:=by
 obtain⟨_,_,_,_,_,e,_⟩:=h.ex;exact k6 e
theorem j7.snoc{g:G}{d:Nat}(h:j7 g d)(o:O):j7 (g++[o]) d:=by
 obtain⟨s,p,b,r,xs,e1,e2,q⟩:=h.ex;exact⟨s,p,b,r,xs,by rw[aA (k6 e1)];exact e1,by rw[aA (k6 e2)];exact e2,q⟩
def j5:MS->MS
 |.seq _ b=>b
 |x=>x
theorem wD{i j:Int}(h1:-(2 ^ 64)<i)(h2:i<2 ^ 64):rZ i j:=.inl ⟨h1,h2⟩
theorem Y6{i j:Int}(h1:-(2 ^ 64)<j)(h2:j<2 ^ 64):rZ i j:=.inr ⟨h1,h2⟩
theorem aU9{P:fH}{d:Nat}{n:Int}{g:G}{Q:KD}{E:KX}{N:Ends}{c2:Option D}(hN:N.rt=Q)(D0:j7 g d)(hn:0<n)(oA:n<1073741824)(h:∀r g',0<=r->r<n->j7 g' d->Gr d g g'->Q (.int r) g'):wpS P (j5 E9.body) N [some (.ref d),some (.int n),c2,none,none] g E:=by
 obtain⟨s,p,b,r,xs,e1,e2,oy,hp,hb,hr,tm⟩:=D0.ex;have et:=k6 e1;subst hN;dsimp[E9,j5];walk_at "w2";refine if2 (λc=>?_) (λc=>?_)
 ·walk_at "w2";refine Q7 hn ?_;walk_at "w2";refine yd ⟨hn,oA⟩ ?_;walk_at "w2";refine U5 e1 (by with_unfolding_all rfl) ?_;walk_at "w2";refine h _ _ (dk _ (by omega)) (cR _ hn) ⟨s,p,b / n,r,xs,?_,?_,oy,hp,Int.ediv_nonneg hb (by omega),hr,tm⟩ (Gr.set d g _)
  ·rw[aX et];rfl
  ·rw[aw (bE oy)];exact e2
 ·walk_at "w2";have Fj:-(2 ^ 64)<r/\r<2 ^ 64:=⟨by omega,by omega⟩
  refine M0 (wD Fj.1 Fj.2) ?_;walk_at "w2";refine Q7 (by decide) ?_;walk_at "w2";refine M0 (Y6 (by decide) (by decide)) ?_;walk_at "w2";refine M0 (Y6 (by decide) (by decide)) ?_;walk_at "w2";refine Q7 (by decide) ?_;walk_at "w2";refine U5 e1 (by with_unfolding_all rfl) ?_;generalize my:(r*r % 2147483629*5+r*16811+2531011) % 2147483647=r';have q0:0<=r':=by rw[<- my];exact dk _ (by decide)
  have q1:r'<2147483647:=by rw[<- my];exact cR _ (by decide)
  have Qg:(g.set d (.lst [.ref s,.int p,.int b,.int r']))[d]?=some (.lst [.ref s,.int p,.int b,.int r']):=aX et;show wpS P _ _ _ (g.set d (.lst [.ref s,.int p,.int b,.int r'])) E;walk_at "w2";refine yd ⟨by decide,by decide⟩ ?_;walk_at "w2";refine Q7 (by decide) ?_;walk_at "w2";refine M0 (Y6 (by decide) (by decide)) ?_;walk_at "w2";refine Q7 hn ?_;walk_at "w2";refine h _ _ (dk _ (by omega)) (cR _ hn) ⟨s,p,b,r',xs,Qg,?_,oy,hp,hb,q0,q1⟩ (Gr.set d g _);rw[aw (bE oy)];exact e2
theorem i0{T:Nat->Option aZ}(hT:T 4=some E9){k d:Nat}{n:Int}{g:G}{Q:KD}{E:KX}(D0:j7 g d)(hn:0<n)(oA:n<1073741824)(h:∀r g',0<=r->r<n->j7 g' d->Gr d g g'->Q (.int r) g'):c8 T (k+1) 4 [.ref d,.int n] g Q E:=by
 obtain⟨s,p,b,r,xs,e1,e2,oy,hp,hb,hr,tm⟩:=D0.ex;have et:=k6 e1;refine call_of hT rfl ?_;have tail:∀(g':G) (c2:Option D),j7 g' d->Gr d g g'->wpS (c8 T k) (j5 E9.body) ⟨λ_ g'=>Q .bQ g',Q,λ_ _=>False,λ_ _=>False⟩ [some (.ref d),some (.int n),c2,none,none] g' E :=
  λg' c2 D1 gr=>aU9 rfl D1 hn oA λr g2 a b c e=>h r g2 a b c (gr.trans e)
 dsimp[E9,d7,List.replicate];walk_at "w2";refine if2 (λc=>?_) (λc=>?_)
 ·walk_at "w2";refine if2 (λc'=>?_) (λc'=>?_)
  ·walk_at "w2";have jz:p.toNat<xs.length:=by
    rw[ag] at c';omega
   have ea:gP (xs.map D.int) p=some (.int xs[p.toNat]):=by
    have:=C7 (xs:=xs.map D.int) (j:=p.toNat) (v:=.int xs[p.toNat]) (by rw[ai,ah jz];rfl)
    rwa [show((p.toNat:Nat):Int)=p by omega] at this
   refine u5 (a8 e2) ea ?_;generalize xs[p.toNat]=cell;walk_at "w2";refine U5 e1 (by with_unfolding_all rfl) ?_;have f1:(g.set d (.lst [.ref s,.int (p+1),.int b,.int r]))[d]?=some (.lst [.ref s,.int (p+1),.int b,.int r]):=aX et;show wpS (c8 T k) _ _ _ (g.set d (.lst [.ref s,.int (p+1),.int b,.int r])) E;walk_at "w2";refine U5 f1 (by with_unfolding_all rfl) ?_;rw[iC];have f2:(g.set d (.lst [.ref s,.int (p+1),.int 0,.int r]))[d]?=some (.lst [.ref s,.int (p+1),.int 0,.int r]):=aX et;show wpS (c8 T k) _ _ _ (g.set d (.lst [.ref s,.int (p+1),.int 0,.int r])) E;walk_at "w2";refine if2 (λc2=>?_) (λc2=>?_)
   ·walk_at "w2";refine U5 f2 (by with_unfolding_all rfl) ?_;rw[iC];refine tail _ _ ⟨s,p+1,cell,r,xs,aX et,by rw[aw (bE oy)];exact e2,oy,by omega,?_,hr,tm⟩ (Gr.set d g _);have:(10:Int) ^ (18:Int).toNat<=cell:=c2;have GH:(0:Int)<=10 ^ (18:Int).toNat:=by decide
    omega
   ·walk_at "w2";refine M0 (Y6 (by decide) (by decide)) ?_;walk_at "w2";refine Q7 (by decide) ?_;walk_at "w2";refine M0 (Y6 (by decide) (by decide)) ?_;walk_at "w2";refine Q7 (by decide) ?_;walk_at "w2";refine U5 f2 (by with_unfolding_all rfl) ?_;rw[iC];exact tail _ _ ⟨s,p+1,0,_,xs,aX et,by rw[aw (bE oy)];exact e2,oy,by omega,by decide,dk _ (by decide),cR _ (by decide)⟩ (Gr.set d g _)
  ·walk_at "w1";exact tail _ _ D0 (Gr.refl _ _)
 ·walk_at "w1";walk_at "w1";exact tail _ _ D0 (Gr.refl _ _)
def Dh:aZ:=⟨1,1,(.seq (.ret (.eL (cE .isin aP (.lit (.ty "int"))) (.eX (cE .isin aP (.lit (.ty "bool")))))) .pass)⟩
def W3:aZ:=⟨3,3,(.seq (.ret (.eL (.call 38 (eO aP)) (.chain .LtE .LtE bh aP bp))) .pass)⟩
structure NF(T:Nat->Option aZ):Prop where
 nf:T 1=some W3
 is:T 38=some Dh
def C9:aZ:=⟨1,3,(.seq (.set 1 (bf 0)) (.seq (.dY (.one 2) (.fF aP) (.seq (.ifs (.eX (.fS (.call 1 (gI bp bh (bf 7))))) (.seq (.ret (.lit (.bl false))) .pass) .pass) (.seq (.set 1 (cE (.bin .Add) bp (bf 1))) .pass))) (.seq (.ret (.lit (.bl true))) .pass)))⟩
def yk:aZ:=⟨1,1,(.seq (.ret (.prim .lst (qw (dX .list (cE (.mS false true) aP (bf 63))) (bf 0) (bf 0) (bf 29)))) .pass)⟩
def zc:aZ:=⟨1,1,(.seq (.ret (.eL (cE .isin aP (.lit (.ty "int"))) (.eX (cE .isin aP (.lit (.ty "bool")))))) .pass)⟩
theorem P1{g:G}{n:Nat}:∀ms:List Int,(ms.map D.int).mapM (rd g n)=some (ms.map PyData.int)
 |[]=>rfl
 |m::r=>by
  rw[bg,List.mapM_cons,P1 r];cases n<;>rfl
theorem lay_ints:∀ms:List Int,PyData.canLayAll0 (ms.map PyData.int)=true
 |[]=>by simp[PyData.canLayAll0]
 |m::r=>by simp[PyData.canLayAll0,PyData.canLay0,lay_ints r]
theorem JN:∀ms ns:List Int,PyData.eqvAll (ms.map PyData.int) (ns.map PyData.int)=decide (ms=ns)
 |[],[]=>by simp[PyData.eqvAll]
 |[],_::_=>by simp[PyData.eqvAll]
 |_::_,[]=>by simp[PyData.eqvAll]
 |m::r,n::q=>by
  simp only[List.map_cons,PyData.eqvAll,PyData.eqv,JN r q];by_cases h:m=n
  ·subst h;simp
  ·simp[h]
theorem Jd{g:G}{ms:List Int}{i:Int}{k:Bool->Prop}(h:k (ms.any λm=>m==i)):qV g (.int i) (.tup (ms.map .int)) k:=by
 refine⟨_,.inr ⟨_,_,_,rfl,P1 ms,rfl,lay_ints ms,by simp[PyData.canLay0],rfl⟩,?_⟩;rw[List.any_map];exact h
theorem Zp{g:G}{a b:Nat}{ms ns:List Int}{k:Bool->Prop}(ha:d0 g a=some (ms.map .int))(hb:d0 g b=some (ns.map .int))(h:k (decide (ms=ns))):vS g (.ref a) (.ref b) k:=by
 refine⟨_,.inr (.inr (.inr ⟨.list (ms.map .int),.list (ns.map .int),?_,?_,?_,?_,rfl⟩)),?_⟩
 ·simp only[rd];rw[ha];dsimp only;rw[P1];rfl
 ·simp only[rd];rw[hb];dsimp only;rw[P1];rfl
 ·simp[PyData.canLay0,lay_ints]
 ·simp[PyData.canLay0,lay_ints]
 ·simp only[PyData.eqv,JN];exact h
section
variable{T:Nat->Option aZ}{k d:Nat}{g:G}{Q:KD}{E:KX}
theorem J'(h1:NF T){i:Int}(h:Q (.bl true) g):c8 T (k+1) 38 [.int i] g Q E:=by
 refine call_of h1.is rfl ?_;dsimp[Dh,d7,List.replicate];walk_at "w2";refine xE (c:="int") (b:=true) (by decide) rfl ?_;walk_at "w2";refine xE (c:="bool") (b:=false) (by decide) rfl ?_;walk_at "w2";exact h
theorem w5(h1:NF T){i l m:Int}(h:Q (.bl (decide (l<=i)&&decide (i<=m))) g):c8 T (k+2) 1 [.int i,.int l,.int m] g Q E:=by
 refine call_of h1.nf rfl ?_;dsimp[W3,d7,List.replicate];walk_at "w2";refine J' h1 ?_;walk_at "w2";refine if2 (λc=>?_) (λc=>?_)
 ·rw[aF c] at h;walk_at "w2";exact h
 ·rw[aL c] at h;exact h
def gm:Int->List Int->Bool
 |_,[]=>true
 |l,x::r=>(decide (l<=x)&&decide (x<=7))&&gm (x+1) r
theorem Kc(h1:NF T)(h2:T 2=some C9){ms:List Int}(h:Q (.bl (gm 0 ms)) g):c8 T (k+3) 2 [.tup (ms.map .int)] g Q E:=by
 refine call_of h2 rfl ?_;dsimp[C9,d7,List.replicate];walk_at "w2";refine x8 (b0 T _) (xF (b0 T _) ?_);walk_at "w2";refine⟨_,rfl,_,λi Z g'=>g'=g/\∃(l:Int) (z:Option D),Z=[some (.tup (ms.map .int)),some (.int l),z]/\gm 0 ms=gm l (ms.drop i),λ_ _ _ _=>B5,⟨rfl,0,none,rfl,rfl⟩,λi x Z g' hx p=>?_,λZ g' p=>?_⟩
 ·obtain⟨rfl,l,z,rfl,e⟩:=p;rw[ai] at hx;cases em:ms[i]? with
  |none=>rw[em] at hx;cases hx
  |some m =>
   rw[em] at hx;cases hx;have hi:=(aj.mp em).1;have ed:ms.drop i=m::ms.drop (i+1):=by
    rw[eM hi]
    congr 1
    exact(aj.mp em).2
   rw[ed] at e;simp only[gm] at e;show wpS _ _ _ _ _ _;walk_at "w2";refine w5 h1 ?_;walk_at "w2";cases hc:(decide (l<=m)&&decide (m<=7)) with
   |true =>
    rw[hc,Bool.true_and] at e;show wpS _ _ _ _ _ _;walk_at "w2";exact⟨rfl,m+1,some (.int m),rfl,e⟩
   |false =>
    rw[hc,Bool.false_and] at e;rw[e] at h;show wpS _ _ _ _ _ _;walk_at "w2";exact h
 ·obtain⟨rfl,l,z,rfl,e⟩:=p;rw[ui (by simp)] at e;simp only[gm] at e;rw[e] at h;show wpS _ _ _ _ _ _;walk_at "w2";exact h
theorem TV(h3:T 3=some yk){a:Nat}{ns:List Int}(hg:g[a]?=some (.oJ (ns.map .int)))(h:∀d g',j7 g' d->g.length<=d->(∀i,i<g.length->g'[i]?=g[i]?)->Q (.ref d) g'):c8 T (k+1) 3 [.ref a] g Q E:=by
 refine call_of h3 rfl ?_;dsimp[yk,d7,List.replicate];walk_at "w2";refine Em (Zx hg) ?_;walk_at "w2";refine Ih (l:=cut (ns.map D.int) none (some 63)) (a8 (by simp)) ?_;walk_at "w2";have ec:cut (ns.map D.int) none (some 63)=(cut ns none (some 63)).map D.int:=by
  unfold cut;simp[List.map_take,List.map_drop]
 refine h _ _ ⟨g.length+1,0,0,29,cut ns none (some 63),?_,?_,?_,by decide,by decide,by decide,by decide⟩ (by simp) (λi hi=>?_)
 ·simp
 ·rw[<- ec];simp
 ·simp
 ·simp[List.getElem?_append,hi,Nat.lt_of_lt_of_le hi (by omega:g.length<=g.length+1),Nat.lt_of_lt_of_le hi (by omega:g.length<=g.length+1+1)]
end
theorem Ib:∀{ms:List Int} {l:Int},ms.Pairwise (· < ·)->(∀m∈ms,l<=m/\m<=7)->gm l ms=true
 |[],_,_,_=>rfl
 |m::r,l,hp,h=>by
  obtain⟨h1,h2⟩:=gs.mp hp;have hm:=h m (by simp);simp only[gm];rw[aF hm.1,aF hm.2,Ib h2 λx hx=>⟨by have:=h1 x hx;omega,(h x (by simp[hx])).2⟩]
  rfl
theorem K2{α:Type}{l:List α}{r:Int}(h0:0<=r)(h1:r<l.length):∃v,gP l r=some v/\v∈l:=by
 have hi:r.toNat<l.length:=by omega
 refine⟨l[r.toNat],?_,cc hi⟩;have:=C7 (xs:=l) (j:=r.toNat) (v:=l[r.toNat]) (ah hi)
 rwa [show((r.toNat:Nat):Int)=r by omega] at this
section
variable{T:Nat->Option aZ}{k d:Nat}{g:G}{Q:KD}{E:KX}
end
def A7:aZ:=⟨1,8,(.seq (.mj (.many [1,2,3,4,5]) aP) (.seq (.set 6 (.eL (.call 1 (gI bh (bf 1) (bf 99))) (.call 2 (eO bp)))) (.seq (.set 7 (.eL (.call 1 (gI bR (bf 1) (bf 99))) (.call 2 (eO dg)))) (.seq (.ret (.eL fk (.eL je (.call 1 (gI fz (bf 0) (bf 9999)))))) .pass))))⟩
structure b7 where
 lo:Int
 lm:List Int
 up:Int
 um:List Int
 yr:Int
def b7.d(c:b7):D:=.tup [.int c.lo,.tup (c.lm.map .int),.int c.up,.tup (c.um.map .int),.int c.yr]
def p0(c:b7):Bool:=((decide (1<=c.lo)&&decide (c.lo<=99))&&gm 0 c.lm)&&(((decide (1<=c.up)&&decide (c.up<=99))&&gm 0 c.um)&&(decide (0<=c.yr)&&decide (c.yr<=9999)))
section
variable{T:Nat->Option aZ}{k d:Nat}{g:G}{Q:KD}{E:KX}
theorem aD4(h1:NF T)(h2:T 2=some C9)(nG:T 12=some A7){c:b7}(h:Q (.bl (p0 c)) g):c8 T (k+4) 12 [c.d] g Q E:=by
 refine call_of nG rfl ?_;dsimp[A7,d7,List.replicate,b7.d];walk_at "w3";refine w5 h1 ?_;have s1:∀b:Bool,b=((decide (1<=c.lo)&&decide (c.lo<=99))&&gm 0 c.lm)->wpS (c8 T (k+3)) (j5 (j5 A7.body)) ⟨λ_ g'=>Q .bQ g',Q,λ_ _=>False,λ_ _=>False⟩ [some c.d,some (.int c.lo),some (.tup (c.lm.map .int)),some (.int c.up),some (.tup (c.um.map .int)),some (.int c.yr),some (.bl b),none] g E:=by
  intro b hb;dsimp[A7,j5];walk_at "w3";refine w5 h1 ?_;have s2:∀b':Bool,b'=((decide (1<=c.up)&&decide (c.up<=99))&&gm 0 c.um)->wpS (c8 T (k+3)) (j5 (j5 (j5 A7.body))) ⟨λ_ g'=>Q .bQ g',Q,λ_ _=>False,λ_ _=>False⟩ [some c.d,some (.int c.lo),some (.tup (c.lm.map .int)),some (.int c.up),some (.tup (c.um.map .int)),some (.int c.yr),some (.bl b),some (.bl b')] g E:=by
   intro b' lp;dsimp[A7,j5];have e:p0 c=(b&&(b'&&(decide (0<=c.yr)&&decide (c.yr<=9999)))):=by unfold p0;rw[hb,lp]
   rw[e] at h;walk_at "w3";cases b
   ·exact si h
   ·refine nr ?_;walk_at "w3";cases b'
    ·exact si h
    ·refine nr ?_;walk_at "w3";exact w5 h1 h
  refine Cj ?_;cases hc:(decide (1<=c.up)&&decide (c.up<=99)) with
  |false=>exact si (s2 false (by rw[hc];rfl))
  |true =>
   refine nr ?_;walk_at "w1";walk_at "w1";walk_at "w1";walk_at "w1";exact Kc h1 h2 (s2 _ (by rw[hc];rfl))
 refine Cj ?_;cases hc:(decide (1<=c.lo)&&decide (c.lo<=99)) with
 |false=>exact si (s1 false (by rw[hc];rfl))
 |true =>
  refine nr ?_;walk_at "w1";walk_at "w1";walk_at "w1";walk_at "w1";exact Kc h1 h2 (s1 _ (by rw[hc];rfl))
end
def T4:aZ:=⟨2,5,(.seq (.set 2 (dX .list bh)) (.seq (.set 3 (.prim .lst .nil)) (.seq (.dY (.one 4) (.fA (dX .len bh)) (.seq (.expr (.dR .append bR (eO (.dR .pop bp (eO (.call 4 (dE aP (dX .len bp)))))))) .pass)) (.seq (.ret bR) .pass))))⟩
theorem JE{α:Type}:∀{l:List α} {j:Nat} (h:j<l.length),(l[j]::l.eraseIdx j).Perm l
 |a::r,0,_=>by simp
 |a::r,j+1,h=>by
  simp only[List.getElem_cons_succ,List.eraseIdx_cons_succ];exact(List.Perm.swap _ _ _).trans ((JE (l:=r) (j:=j) (by simpa using h)).cons a)
theorem Gr.K0{d x:Nat}{g g':G}{o:O}(h:Gr d g g')(hx:g.length<=x):Gr d g (g'.set x o):=⟨by simp[h.len],λi h1 h2=>by rw[aw (by omega)];exact h.old i h1 h2⟩
theorem j7.K0{g:G}{d x:Nat}{o:O}(h:j7 g d)(hx:d<x):j7 (g.set x o) d:=by
 obtain⟨s,p,b,r,xs,e1,e2,hs,q⟩:=h.ex;exact⟨s,p,b,r,xs,by rw[aw (by omega)];exact e1,by rw[aw (by omega)];exact e2,hs,q⟩
theorem b8{g:G}{o:O}:(g++[o])[g.length]?=some o:=by simp
theorem o6{g:G}{i:Nat}{o o':O}(h:g[i]?=some o):(g++[o'])[i]?=some o:=by rw[aA (k6 h)];exact h
theorem get_set{g:G}{i:Nat}{o o':O}(h:g[i]?=some o):(g.set i o')[i]?=some o':=aX (k6 h)
theorem d5{g:G}{i j:Nat}{o o':O}(h:g[i]?=some o)(hn:j≠i):(g.set j o')[i]?=some o:=by rw[aw hn];exact h
section
variable{T:Nat->Option aZ}{k d:Nat}{g:G}{Q:KD}{E:KX}
theorem V9(h4:T 4=some E9)(Bg:T 21=some T4){a:Nat}{l:List D}(ha:g[a]?=some (.lst l))(hl:l.length<=1000)(hd:a≠d)(D0:j7 g d)(h:∀(l':List D) b g',l'.Perm l->g'[b]?=some (.lst l')->g.length<=b->j7 g' d->Gr d g g'->Q (.ref b) g'):c8 T (k+2) 21 [.ref d,.ref a] g Q E:=by
 refine call_of Bg rfl ?_;dsimp[T4,d7,List.replicate];walk_at"";refine Ih (a8 ha) ?_;walk_at"";have dl:=D0.lt;refine x8 (b0 T _) (qh (b0 T _) ?_);walk_at"";have xU:(g++[O.lst l]++[O.lst []])[a]?=some (.lst l):=o6 (o6 ha);refine O6 (a8 xU) ?_;refine ⟨_,rfl,by omega,by omega,k8 0 l.length,λi Z g'=>∃ left found w,Z=[some (.ref d),some (.ref a),some (.ref g.length),some (.ref (g.length + 1)),w]/\(left ++ found).Perm l/\left.length + i=l.length/\g'[g.length]?=some (.lst left)/\g'[g.length + 1]?=some (.lst found)/\j7 g' d/\Gr d g g',
  λi Z g p=>B5,?_,λi x Z g' hx p=>?_,λZ g' p=>?_⟩
 ·refine⟨l,[],none,?_,by simp,by simp,?_,?_,(D0.snoc _).snoc _,(Gr.snoc _ _ _).trans (Gr.snoc _ _ _)⟩
  ·simp
  ·exact o6 b8
  ·have:=b8 (g:=g++[O.lst l]) (o:=O.lst []);simpa using this
 ·obtain⟨left,found,w,rfl,hp,hn,e1,e2,D1,G1⟩:=p;obtain⟨hi,rfl⟩:=G0 hx;show wpS _ _ _ _ _ _;walk_at"";refine i0 (n:=(left.length:Int)) h4 D1 (by omega) (by omega) λr g2 r0 r1 D2 G2=>?_;have f1:=G2.at (by omega) e1;have f2:=G2.at (by omega) e2;have hr:r.toNat<left.length:=by omega
  walk_at"";refine Xu (j:=r.toNat) f1 (by omega) (ah hr) (by omega) ?_;walk_at"";refine L1 (d5 f2 (by omega)) ?_ ?_
  ·have:=hp.length_eq;simp at this;omega
  walk_at"";refine⟨_,_,_,rfl,?_,?_,d5 (get_set f1) (by omega),get_set (d5 f2 (by omega)),(D2.K0 (by omega)).K0 (by omega),((G1.trans G2).K0 (by omega)).K0 (by omega)⟩
  ·refine List.Perm.trans ?_ hp;have:=JE hr;refine List.Perm.trans ?_ (List.Perm.append_right found this);simp only[List.cons_append];rw[<- cx];exact(List.perm_append_singleton _ _)
  ·rw[gz hr];omega
 ·obtain⟨left,found,w,rfl,hp,hn,e1,e2,D1,G1⟩:=p;show wpS _ _ _ _ _ _;walk_at"";rw[q8] at hn;have:left=[]:=fN (by omega);subst this;exact h _ _ _ (by simpa using hp) e2 (by omega) D1 G1
end
def yS:aZ:=⟨1,5,(.seq (.set 1 (.prim .lst (Pt (.prim .tup .nil) (dX .tup (bf 0)) (cE .tup (bf 0) (bf 1)) (dX .tup (bf 1)) (.prim .tup (gI (bf 0) (bf 1) (bf 2))) (.prim .tup (qw (bf 0) (bf 1) (bf 2) (bf 7))) (dX .tup (bf 2))))) (.seq (.set 2 (df bh (.call 4 (dE aP (df (cE .tup (bf 4) (bf 7)) (dX .int (cE (.cmp .Eq) (.call 4 (dE aP (bf 4))) (bf 0)))))))) (.seq (.set 3 (df bh (.call 4 (dE aP (bf 5))))) (.seq (.set 4 (df (.prim .lst (GI (bf 0) (bf 0) (bf 1400) (bf 1400) (bf 1401) (bf 1))) (.call 4 (dE aP (bf 6))))) (.seq (.ret (.prim .tup (uw (cE (.bin .Add) (bf 1) (.call 4 (dE aP (bf 3)))) bp (cE (.bin .Add) (bf 1) (.call 4 (dE aP (bf 4)))) bR dg))) .pass)))))⟩
def I9:aZ:=⟨4,4,(.seq (.ifs (.kz (ff .Eq (dX .len bh) (bf 0)) (.eL (ff .Lt (dX .len bh) bR) (ff .Eq (.call 4 (dE aP (bf 3))) (bf 0)))) (.seq (.expr (.dR .append bh (eO bp))) (.seq (.ret (cE (.bin .Add) bp (bf 1))) .pass)) .pass) (.seq (.ifs (ff .Eq (.call 4 (dE aP (bf 5))) (bf 0)) (.seq (.eF bh (.call 4 (dE aP (dX .len bh))) bp) (.seq (.ret (cE (.bin .Add) bp (bf 1))) .pass)) .pass) (.seq (.ret bp) .pass)))⟩
structure iz(c:b7):Prop where
 good:p0 c=true
 l8:c.lm.length<=8
 u8:c.um.length<=8
theorem iz.mk'{lo up yr:Int}{lm um:List Int}(h1:1<=lo)(h2:lo<=99)(h3:1<=up)(h4:up<=99)(h5:0<=yr)(h6:yr<=9999)(h7:gm 0 lm=true)(h8:gm 0 um=true)(h9:lm.length<=8)(GH:um.length<=8):iz ⟨lo,lm,up,um,yr⟩:=by
 refine⟨?_,h9,GH⟩;simp only[p0,h7,h8,decide_eq_true h1,decide_eq_true h2,decide_eq_true h3,decide_eq_true h4,decide_eq_true h5,decide_eq_true h6]
 rfl
theorem iz.inv{c:b7}(h:iz c):(1<=c.lo/\c.lo<=99)/\gm 0 c.lm=true/\(1<=c.up/\c.up<=99)/\gm 0 c.um=true/\0<=c.yr/\c.yr<=9999:=by
 have:=h.good;unfold p0 at this;simp only[Bool.and_eq_true,decide_eq_true_eq] at this;obtain⟨⟨⟨a,b⟩,e⟩,⟨⟨c',d⟩,f⟩,p,q⟩:=this;exact⟨⟨a,b⟩,e,⟨c',d⟩,f,p,q⟩
def O2:List (List Int):=[[],[0],[0,1],[1],[0,1,2],[0,1,2,7],[2]]
theorem Tx:∀ms∈O2,gm 0 ms=true/\ms.length<=8:=by decide
theorem KR{r:Int}(h0:0<=r)(h7:r<7):∃ms,gP (O2.map λms=>D.tup (ms.map .int)) r=some (.tup (ms.map .int))/\gm 0 ms=true/\ms.length<=8:=by
 obtain⟨v,hv,hm⟩:=K2 (l:=O2.map λms=>D.tup (ms.map .int)) h0 (by simpa[O2] using h7);obtain⟨ms,h1,rfl⟩:=aM.mp hm;exact⟨ms,hv,Tx ms h1⟩
section
variable{T:Nat->Option aZ}{k d:Nat}{g:G}{Q:KD}{E:KX}
theorem aI0(h4:T 4=some E9)(Pl:T 22=some yS)(D0:j7 g d)(h:∀c g',iz c->j7 g' d->Gr d g g'->Q c.d g'):c8 T (k+2) 22 [.ref d] g Q E:=by
 refine call_of Pl rfl ?_;dsimp[yS,d7,List.replicate];have dl:=D0.lt;walk_at"";have D1:=D0.snoc (.lst (O2.map λms=>D.tup (ms.map .int)));have G1:=Gr.snoc d g (.lst (O2.map λms=>D.tup (ms.map .int)));have e1:(g++[O.lst (O2.map λms=>D.tup (ms.map .int))])[g.length]?=some (.lst (O2.map λms=>D.tup (ms.map .int))):=b8;show c8 _ _ _ _ (g++[O.lst (O2.map λms=>D.tup (ms.map .int))]) _ _;generalize g++[O.lst (O2.map λms=>D.tup (ms.map .int))]=g1 at *;refine i0 h4 D1 (by decide) (by decide) λr g2 r0 r1 D2 G2=>?_;walk_at"";have e2:=G2.at (by omega) e1;have hn:∃n:Int,gP [D.int 4,D.int 7] (if decide (r=0)=true then 1 else 0)=some (.int n)/\0<n/\n<=7:=by
  by_cases hr:r=0
  ·exact⟨7,by rw[aF hr];rfl,by decide,by decide⟩
  ·exact⟨4,by rw[aL hr];rfl,by decide,by decide⟩
 obtain⟨n,en,n0,n7⟩:=hn;refine B4 en ?_;walk_at"";refine i0 h4 D2 n0 (by omega) λr3 g3 iH iR D3 G3=>?_;have e3:=G3.at (by omega) e2;obtain⟨lm,el,gl,ll⟩:=KR iH (by omega);refine u5 (a8 e3) el ?_;walk_at"";refine i0 h4 D3 (by decide) (by decide) λr4 g4 uJ xu D4 G4=>?_;have e4:=G4.at (by omega) e3;obtain⟨um,eu,gu,lu⟩:=KR uJ (by omega);refine u5 (a8 e4) eu ?_;walk_at"";have e5:(g4++[O.lst [.int 0,.int 0,.int 1400,.int 1400,.int 1401,.int 1]])[g4.length]?=some (.lst [.int 0,.int 0,.int 1400,.int 1400,.int 1401,.int 1]):=b8;refine i0 h4 (D4.snoc _) (by decide) (by decide) λr5 g5 kJ kH D5 G5=>?_;have e6:=G5.at (by have:=D4.lt;omega) e5;obtain⟨v,hv,hm⟩:=K2 (l:=[D.int 0,.int 0,.int 1400,.int 1400,.int 1401,.int 1]) kJ (by simpa using kH);have hy:∃y:Int,v=.int y/\0<=y/\y<=9999:=by
  simp only[List.mem_cons,List.mem_nil_iff,or_false] at hm;rcases hm with rfl|rfl|rfl|rfl|rfl|rfl<;>exact⟨_,rfl,by decide,by decide⟩
 obtain⟨y,rfl,y0,y1⟩:=hy;refine u5 (a8 e6) hv ?_;walk_at"";refine i0 h4 D5 (by decide) (by decide) λr6 g6 Fm Fl D6 G6=>?_;walk_at"";refine i0 h4 D6 (by decide) (by decide) λr7 g7 r70 r71 D7 G7=>?_;walk_at"";exact h ⟨1+r6,lm,1+r7,um,y⟩ _ (iz.mk' (by omega) (by omega) (by omega) (by omega) y0 y1 gl gu ll lu) D7 (G1.trans (G2.trans (G3.trans (G4.trans ((Gr.snoc _ _ _).trans (G5.trans (G6.trans G7)))))))
def Dw(l:List D)(f:Int):Prop:=∃ns:List Int,l=ns.map .int/\∀n∈ns,1<=n/\n<f
theorem aU2(h4:T 4=some E9)(vK:T 23=some I9){a:Nat}{l:List D}{f v:Int}(ha:g[a]?=some (.lst l))(hl:l.length<1000)(hs:Dw l f)(f1:1<=f)(hd:d<a)(D0:j7 g d)(h:∀(l':List D) (f':Int) g',l'≠[]->l'.length<=l.length+1->Dw l' f'->f<=f'->f'<=f+1->g'[a]?=some (.lst l')->j7 g' d->(∀i,i≠d->i≠a->i<g.length->g'[i]?=g[i]?)->g.length<=g'.length->Q (.int f') g'):c8 T (k+2) 23 [.ref d,.ref a,.int f,.int v] g Q E:=by
 refine call_of vK rfl ?_;have dl:=D0.lt;obtain⟨ns,rfl,rf⟩:=id hs;have app:∀g':G,g'[a]?=some (.lst (ns.map D.int))->j7 g' d->Gr d g g'->wpS (c8 T (k+1)) (.seq (.expr (.dR .append (.var 1) (.cons (.var 2) .nil))) (.seq (.ret (.prim (.bin .Add) (.cons (.var 2) (.cons (.lit (.int 1)) .nil)))) .pass)) ⟨λiQ g1=>wpS (c8 T (k+1)) (j5 I9.body) ⟨λ_ g'=>Q .bQ g',Q,λ_ _=>False,λ_ _=>False⟩ iQ g1 E,Q,λ_ _=>False,λ_ _=>False⟩ [some (.ref d),some (.ref a),some (.int f),some (.int v)] g' E:=by
  intro g' e D1 G1;walk_at"";refine L1 e (by simp at hl ⊢;omega) ?_;walk_at"";refine h _ _ _ (by simp) (by simp) ⟨ns++[f],by simp,λn hn=>?_⟩ (by omega) (by omega) (get_set e) (D1.K0 hd) (λi h1 h2 h3=>?_) (by simp[G1.len])
  ·rcases aV.mp hn with z|z
   ·have:=rf n z;omega
   ·simp at z;omega
  ·rw[aw (bT h2)];exact G1.old i h1 h3
 have rest:∀g':G,g'[a]?=some (.lst (ns.map D.int))->ns≠[]->j7 g' d->Gr d g g'->wpS (c8 T (k+1)) (j5 I9.body) ⟨λ_ g'=>Q .bQ g',Q,λ_ _=>False,λ_ _=>False⟩ [some (.ref d),some (.ref a),some (.int f),some (.int v)] g' E:=by
  intro g' e dF D1 G1;dsimp[I9,j5];walk_at"";refine i0 h4 D1 (by decide) (by decide) λr g2 r0 r1 D2 G2=>?_;have e2:=G2.at (by omega) e;have hlen:0<ns.length:=EN.mpr dF;walk_at"";refine if2 (λc=>?_) (λc=>?_)
  ·walk_at"";rw[ag];refine i0 h4 D2 (by omega) (by simp at hl;omega) λr3 g3 iH iR D3 G3=>?_;have e3:=G3.at (by omega) e2;have hj:kY (ns.map D.int).length r3=some r3.toNat:=by
    unfold kY;rw[aK iH,aK (by rw[ag];exact iR)]
   refine U5 e3 hj ?_;walk_at"";refine h _ _ _ (by simp[dF]) (by simp) ⟨ns.set r3.toNat f,by simp,λn hn=>?_⟩ (by omega) (by omega) (get_set e3) (D3.K0 hd) (λi h1 h2 h3=>?_) (by simp[((G1.trans G2).trans G3).len])
   ·rcases pe hn with z|z
    ·have:=rf n z;omega
    ·omega
   ·rw[aw (bT h2)];exact((G1.trans G2).trans G3).old i h1 h3
  ·walk_at"";exact h _ _ _ (by simp[dF]) (by simp) hs (by omega) (by omega) e2 D2 (λi h1 h2 h3=>(G1.trans G2).old i h1 h3) (G1.trans G2).len
 dsimp[I9,d7,List.replicate];walk_at"";refine if2 (λc=>?_) (λc=>?_)
 ·refine nr ?_;exact app g ha D0 (Gr.refl _ _)
 ·have dF:ns≠[]:=λz=>c (by rw[z];rfl);walk_at"";refine if2 (λc2=>?_) (λc2=>?_)
  ·walk_at"";refine i0 h4 D0 (by decide) (by decide) λr g2 r0 r1 D2 G2=>?_;walk_at"";refine if2 (λc3=>?_) (λc3=>?_)
   ·exact app g2 (G2.at (by omega) ha) D2 G2
   ·walk_at "w1";exact rest g2 (G2.at (by omega) ha) dF D2 G2
  ·walk_at "w1";walk_at "w1";exact rest g ha dF D0 (Gr.refl _ _)
end
def I0:aZ:=⟨3,17,(.seq (.set 3 (.prim .lst .nil)) (.seq (.set 4 (bf 1)) (.seq (.set 5 (.prim .oV .nil)) (.seq (.set 6 (df (.prim .lst (gI (bf 0) (bf 1) (bf 1350))) (.call 4 (dE aP (bf 3))))) (.seq (.set 7 (cE (.bin .Add) (bf 1) (.call 4 (dE aP (bf 96))))) (.seq (.set 8 (cE (.bin .Add) (bf 2) (.call 4 (dE aP (bf 4))))) (.seq (.set 9 (cE .max (bf 0) (cE (.bin .Sub) (.call 4 (dE aP (bf 9))) (bf 6)))) (.seq (.set 10 (.prim .lst .nil)) (.seq (.dY (.one 11) (.fA bh) (.seq (.set 4 (.call 23 (qw aP bR dg bp))) (.seq (.set 12 (cE .tup (df bR (.call 4 (dE aP (dX .len bR)))) (cE (.bin .Add) (bf 50) (.call 4 (dE aP (cE (.bin .Add) (bf 2) bp)))))) (.seq (.dY (.one 13) (.fF kj) (.seq (.ifs (ff .Eq (.call 4 (dE aP ni)) (bf 0)) (.seq (.set 14 (.call 4 (dE aP (bf 8)))) (.seq (.eF fz va (dX .tuple (.comp [13,14,5] 5 (.one 4) (.fA (bf 8)) (.kz (ff .Eq dg bh) (ff .In dg (.dR .get bp (dE aP (.prim .tup .nil))))) dg))) .pass)) .pass) .pass)) (.seq (.ifs (ff .Eq (.call 4 (dE aP (bf 5))) (bf 0)) (.seq (.set 6 (cE .min (bf 9999) (cE (.bin .Add) (cE (.bin .Add) fk (bf 1)) (.call 4 (dE aP (bf 9)))))) .pass) .pass) (.seq (.set 15 (.comp [9,7] 4 (.one 3) (.fF kj) .no (cE (.bin .Add) (cE (.bin .Add) (bf 1) aP) (cE (.bin .Mod) (cE (.bin .Mult) bR bh) (bf 97))))) (.seq (.set 16 (cE (.bin .Mult) fk (dX .int (cE (.cmp .Gt) (.call 4 (dE aP (bf 4))) (bf 0))))) (.seq (.expr (.dR .append kX (eO (.prim .tup (uw (df pG (bf 0)) (.dR .get fz (dE (df kj (bf 0)) (.prim .tup .nil))) (df pG (bf 1)) (.dR .get fz (dE (df kj (bf 1)) (.prim .tup .nil))) uZ))))) .pass)))))))) (.seq (.ret kX) .pass))))))))))⟩
def oT(kvs:List (Key×D)):Prop:=∀k v,n8 kvs k=some v->∃ms:List Int,v=.tup (ms.map .int)/\gm 0 ms=true/\ms.length<=8
theorem a27(kvs:List (Key×D))(k k':Key)(v:D):n8 (putD kvs k v) k'=if k'=k then some v else n8 kvs k':=by
 unfold putD;split
 ·rename_i rB;have go:∀l:List (Key×D),n8 (l.map λkv=>if kv.1=k then(kv.1,v) else kv) k'=if k'=k then(if(l.any λkv=>decide (kv.1=k))=true then some v else none) else n8 l k':=by
   intro l
   induction l with
   |nil=>simp[n8]
   |cons p r ih =>
    obtain⟨pk,pv⟩:=p;by_cases e:pk=k
    ·subst e;by_cases e2:k'=pk
     ·subst e2;simp[n8]
     ·have:¬pk=k':=λz=>e2 z.symm;unfold n8 at ih ⊢;simp[this,e2] at ih ⊢;exact ih
    ·by_cases e2:k'=k
     ·subst e2;unfold n8 at ih ⊢;rw[fI,show decide (pk=k')=false from aL e,qu];simp[e] at ih ⊢;exact ih
     ·unfold n8 at ih ⊢;simp only[List.map_cons,e,if_false,List.find?_cons];by_cases e3:pk=k'
      ·simp[e3,e2]
      ·simp[e3];simp[e2] at ih;simp[e2];exact ih
  rw[go,rB]
  rfl
 ·rename_i rB;unfold n8;rw[kD];by_cases e:k'=k
  ·subst e;have:kvs.find? (λkv=>decide (kv.1=k'))=none:=by
    rw[gC];intro x hx hd;exact rB (bK.mpr ⟨x,hx,hd⟩)
   rw[this];simp
  ·have:¬k=k':=λz=>e z.symm;simp[this,e]
theorem a60(kvs:List (Key×D))(k:Key)(v:D):(putD kvs k v).length<=kvs.length+1:=by
 unfold putD;split<;>simp
theorem oT.put{kvs:List (Key×D)}{k:Key}{ms:List Int}(h:oT kvs)(h1:gm 0 ms=true)(h2:ms.length<=8):oT (putD kvs k (.tup (ms.map .int))):=λk' v hv=>by
 rw[a27] at hv;split at hv
 ·cases hv;exact⟨ms,rfl,h1,h2⟩
 ·exact h k' v hv
theorem oT.get{kvs:List (Key×D)}(h:oT kvs)(k:Key):∃ms:List Int,(n8 kvs k).getD (.tup [])=.tup (ms.map .int)/\gm 0 ms=true/\ms.length<=8:=by
 cases e:n8 kvs k with
 |none=>exact⟨[],rfl,rfl,by simp⟩
 |some v=>obtain⟨ms,rfl,h1,h2⟩:=h k v e;exact⟨ms,rfl,h1,h2⟩
theorem Zs(p:Int->Bool):gm 0 (((List.range 8).map λ(n:Nat)=>(n:Int)).filter p)=true/\(((List.range 8).map λ(n:Nat)=>(n:Int)).filter p).length<=8:=by
 refine⟨Ib (List.Pairwise.filter _ (by decide)) λm hm=>?_,aE (cA _ _) (by decide)⟩;have:=(aT.mp hm).1;revert this;revert m;intro m _ hm;simp at hm;obtain⟨a,ha,rfl⟩:=hm;omega
theorem List.Zn{α:Type}{l:List α}{i:Nat}{x:α}(h:l[i]?=some x):l.set i x=l:=by
 apply fi;intro j;by_cases e:i=j
 ·subst e;rw[aX (aj.mp h).1];exact h.symm
 ·rw[aw e]
section
variable{T:Nat->Option aZ}{k d:Nat}{g:G}{Q:KD}{E:KX}
def IL:MS:=match I0.body with
 |.seq _ (.seq _ (.seq _ (.seq _ (.seq _ (.seq _ (.seq _ (.seq _ (.seq (.dY _ _ (.seq _ (.seq _ (.seq (.dY _ _ b) _)))) _))))))))=>b
 |x=>x
theorem Va(h4:T 4=some E9){w0:Nat}{key wr:Int}{kvs:List (Key×D)}{Z:S}{N:Ends}(hw:g[w0]?=some (.dD kvs))(W:oT kvs)(hk:kvs.length<1000)(hr:0<wr)(tm:wr<1000)(hd:d<w0)(D0:j7 g d)(s0:Z[0]?=some (some (.ref d)))(s5:Z[5]?=some (some (.ref w0)))(s8:Z[8]?=some (some (.int wr)))(MY:Z[13]?=some (some (.int key)))(sl:Z.length=17)(h:∀z iK g',g'[w0]?=some (.dD iK)->oT iK->iK.length<=kvs.length+1->j7 g' d->(∀i,i≠d->i≠w0->i<g.length->g'[i]?=g[i]?)->g.length<=g'.length->N.nx (Z.set 14 z) g'):wpS (c8 T (k+1)) IL N Z g E:=by
 obtain⟨lZ,oQ⟩:∃z,Z[14]?=some z:=⟨_,ah (by omega)⟩
 dsimp[IL,I0];refine wI (Iw (Iy (HN (BY (wH (w_var s0 (wH (w_var s8 (DQ ?_)))))))));refine i0 h4 D0 hr (by omega) λr g2 r0 r1 D2 G2=>?_;have dl:=D0.lt;walk_at"";refine if2 (λc=>?_) (λc=>?_)
 ·refine DS (yq (BY (wH (w_var s0 (wH (w_lit (DQ ?_)))))));refine i0 h4 D2 (by decide) (by decide) λr3 g3 iH iR D3 G3=>?_;have e3:=(G2.trans G3).at (by omega) hw;have t0:(Z.set 14 (some (.int r3)))[0]?=some (some (.ref d)):=by rw[aw (by decide)];exact s0
  have t5:(Z.set 14 (some (.int r3)))[5]?=some (some (.ref w0)):=by rw[aw (by decide)];exact s5
  have Fb:(Z.set 14 (some (.int r3)))[13]?=some (some (.int key)):=by rw[aw (by decide)];exact MY
  have MP:(Z.set 14 (some (.int r3)))[14]?=some (some (.int r3)):=aX (by omega);obtain⟨ms,em,_,_⟩:=W.get (.inl key);refine wI (Ln (HM ?_));refine aL7 (b0 T _) (w_lit ⟨8,rfl,by decide,λi ys cq g'=>g'=g3/\ys.length<=i/\(∃z w,cq=[some (.int key),some (.int r3),some (.ref w0),z,w])/\ys=((((List.range i).map λ(n:Nat)=>(n:Int)).filter λs=>decide (s=r3)||ms.any λm=>m==s).map D.int),⟨rfl,by simp,⟨none,none,?_⟩,rfl⟩,λi ys Z g' p=>p.2.1,λi ys cq g' hi p=>?_,λys cq g' p=>?_⟩)
  ·simp[E2,Fb,MP,t5,List.replicate]
  ·obtain⟨rfl,hl,⟨z,w,rfl⟩,e⟩:=p;have er:(List.range (i+1)).map (λ(n:Nat)=>(n:Int))=(List.range i).map (λ(n:Nat)=>(n:Int))++[(i:Int)]:=by rw[dj];simp
   have yes:(decide ((i:Int)=r3)||ms.any λm=>m==(i:Int))=true->aS (c8 T (k+1)) (.var 4) [some (.int key),some (.int r3),some (.ref w0),z,some (.int i)] g' (λy g4=>g4=g'/\(ys++[y]).length<=i+1/\(∃z' w',[some (.int key),some (.int r3),some (.ref w0),z,some (D.int i)]=[some (.int key),some (.int r3),some (.ref w0),z',w'])/\(ys++[y])=((((List.range (i+1)).map λ(n:Nat)=>(n:Int)).filter λs=>decide (s=r3)||ms.any λm=>m==s).map D.int)) jk:=λhc=>by
    walk_at"";refine⟨rfl,by simp;omega,⟨_,_,rfl⟩,?_⟩;rw[er,de,bH,<- e];simp[hc]
   show cT _ _ _ _ _ _;walk_at"";refine if2 (λc1=>?_) (λc1=>?_)
   ·refine nr ?_;exact yes (by rw[aF c1];rfl)
   ·walk_at"";refine DF e3 (k:=.inl key) rfl ?_;rw[em];walk_at"";refine BU (Jd ?_);walk_at"";cases hc:(ms.any λm=>m==(i:Int)) with
    |true =>
     refine nr ?_;exact yes (by rw[hc];simp)
    |false =>
     refine si ?_;refine⟨rfl,by omega,⟨_,_,rfl⟩,?_⟩;rw[er,de,bH,<- e];simp[hc,c1]
  ·obtain⟨rfl,hl,_,e⟩:=p;subst e;refine Yu (a8 b8) ?_;obtain⟨f1,f2⟩:=Zs λs=>decide (s=r3)||ms.any λm=>m==s
   refine w_var t5 (w_var Fb ?_);refine DK (o6 e3) (k:=.inl key) rfl (by omega) ?_;refine h _ _ _ (get_set (o6 e3)) (W.put f1 f2) (a60 _ _ _) ((D3.snoc _).K0 hd) (λi h1 h2 h3=>?_) ?_
   ·rw[aw (bT h2),aA (ay h3 (G2.trans G3).len)];exact(G2.trans G3).old i h1 h3
   ·have:=(G2.trans G3).len;simp;omega
 ·refine R6 ?_;have e2:=G2.at (by omega) hw;have:=h lZ kvs g2 e2 W (by omega) D2 (λi h1 h2 h3=>G2.old i h1 h3) G2.len
  rwa [List.Zn oQ] at this
end
section
variable{T:Nat->Option aZ}{k d:Nat}{g:G}{Q:KD}{E:KX}
def K7:MS:=match I0.body with
 |.seq _ (.seq _ (.seq _ (.seq _ (.seq _ (.seq _ (.seq _ (.seq _ (.seq (.dY _ _ b) _))))))))=>b
 |x=>x
structure jj(d s0 w0 f0 i:Nat)(g:G)(f y:Int):Prop where
 Ff:∃l,g[s0]?=some (.lst l)/\Dw l f/\l.length<=i
 fr:1<=f/\f<=1+i
 MG:∃kvs,g[w0]?=some (.dD kvs)/\oT kvs/\kvs.length<=2*i
 found:∃cs:List b7,g[f0]?=some (.lst (cs.map b7.d))/\cs.length=i/\∀c∈cs,iz c
 year:0<=y/\y<=9999
 dr:j7 g d
theorem aG3{s0 w0 f0 i n0:Nat}{n v f y st wr sh:Int}{xj MF MD MC zE zD:Option D}(h4:T 4=some E9)(vK:T 23=some I9)(S:jj d s0 w0 f0 i g f y)(hi:i<=100)(hv:1<=v/\v<=100)(fc:1<=st/\st<=96)(jg:0<wr/\wr<1000)(jJ:0<=sh/\sh<=2)(o1:d<n0)(o2:n0<=s0)(o3:s0<w0)(o4:w0<f0){N:Ends}(h:∀f' y' uv nS lZ uu ur g',jj d s0 w0 f0 (i+1) g' f' y'->(∀j,j≠d->j<n0->g'[j]?=g[j]?)->g.length<=g'.length->N.nx [some (.ref d),some (.int n),some (.int v),some (.ref s0),some (.int f'),some (.ref w0),some (.int y'),some (.int st),some (.int wr),some (.int sh),some (.ref f0),xj,uv,nS,lZ,uu,ur] g') :
  wpS (c8 T (k+2)) K7 N [some (.ref d),some (.int n),some (.int v),some (.ref s0),some (.int f),some (.ref w0),some (.int y),some (.int st),some (.int wr),some (.int sh),some (.ref f0),xj,MF,MD,MC,zE,zD] g E:=by
 obtain⟨⟨l,es,hs,hl⟩,⟨f1,f2⟩,⟨kvs,ew,W,hk⟩,⟨cs,ef,hc,hg⟩,⟨y0,y1⟩,D0⟩:=S;have lf:=k6 ef;dsimp[K7,I0];walk_at"";refine aU2 h4 vK es (by omega) hs f1 (by omega) D0 λl1 f' g1 dF jA xI f3 f5 gO D1 ow gF=>?_;have GY:g1[w0]?=some (.dD kvs):=(ow w0 (by omega) (by omega) (k6 ew)).trans ew;have Hd:g1[f0]?=some (.lst (cs.map b7.d)):=(ow f0 (by omega) (by omega) lf).trans ef;walk_at"";have fU:0<l1.length:=EN.mpr dF;refine i0 (n:=(l1.length:Int)) h4 D1 (by omega) (by omega) λr2 g2 ig ie D2 G2=>?_;have nM:=G2.at (by omega) gO;have GX:=G2.at (by omega) GY;have Hc:=G2.at (by omega) Hd;obtain⟨x,hx,hm⟩:=K2 (l:=l1) ig ie;obtain⟨ns,rfl,rf⟩:=id xI;obtain⟨k1,Oo,rfl⟩:=aM.mp hm;refine u5 (a8 nM) hx ?_;walk_at"";refine i0 (n:=2+v) h4 D2 (by omega) (by omega) λr3 g3 iH iR D3 G3=>?_;have Bv:=G3.at (by omega) nM;have GW:=G3.at (by omega) GX;have Bz:=G3.at (by omega) Hc;walk_at"";have kb1:=rf k1 Oo;have uO:∀j,j≠d->j<n0->g3[j]?=g[j]?:=λj a b=>by
  have lj:j<g.length:=by omega
  rw[G3.old j a (by have:=G2.len;(clear hi hv fc jg jJ o1 hl f1 f2 hk hc y0 y1 f3 f5 ig jA fU ie iH iR kb1 a lj;omega)),G2.old j a (by omega),ow j a (by omega) lj]
 have ij:g.length<=g3.length:=by have:=G2.len;have:=G3.len;(clear hi hv fc jg jJ o1 o2 o3 o4 hl f1 f2 hk hc y0 y1 lf f3 f5 ig jA fU ie iH iR kb1;omega)
 refine x8 (b0 T _) (xF (b0 T _) ?_);walk_at"";refine ⟨_,rfl,_,λj Z g'=>∃ iK nS lZ,Z=[some (.ref d),some (.int n),some (.int v),some (.ref s0),some (.int f'),some (.ref w0),some (.int y),some (.int st),some (.int wr),some (.int sh),some (.ref f0),xj,some (.tup [.int k1,.int (50 + r3)]),nS,lZ,zE,zD]/\g'[w0]?=some (.dD iK)/\oT iK/\iK.length <= 2 * i + j/\j7 g' d/\(∀ j,j ≠ d->j ≠ w0->j < g3.length->g'[j]?=g3[j]?)/\g3.length <= g'.length,
  λ_ _ _ _=>B5,⟨kvs,_,_,rfl,GW,W,by omega,D3,λ_ _ _ _=>rfl,av _⟩,λj x Z g' hx p=>?_,λZ g' p=>?_⟩
 ·obtain⟨iK,nS,lZ,rfl,PY,W',nW,D',zR,uY⟩:=p;have km:∃key:Int,x=.int key/\j<2:=by
   match j,hx with
   |0,hx=>cases hx;exact⟨_,rfl,by decide⟩
   |1,hx=>cases hx;exact⟨_,rfl,by decide⟩
   |j+2,hx=>simp at hx
  obtain⟨key,rfl,hj⟩:=km;show wpS _ _ _ _ _ _;refine Va (k:=k+1) h4 PY W' (by(clear hv fc jg jJ o1 o2 o3 o4 hl f1 f2 hk y0 y1 lf f3 f5 gF ig jA fU ie iH iR kb1 ij uY;omega)) jg.1 jg.2 (by omega) D' rfl rfl rfl rfl rfl λz Ab g2' e2 W2 xN D2' qR uX=>?_;exact⟨Ab,_,_,rfl,e2,W2,by(clear hi hv fc jg jJ o1 o2 o3 o4 hl f1 f2 hk y0 y1 lf f3 f5 gF ig jA fU ie iH iR kb1 ij uY hj uX;omega),D2',λj a b c=>(qR j a b (by omega)).trans (zR j a b c),by(clear hi hv fc jg jJ o1 o2 o3 o4 hl f1 f2 hk hc y0 y1 lf f3 f5 gF ig jA fU ie iH iR kb1 ij nW hj xN;omega)⟩
 obtain⟨vb,nS,lZ,rfl,PV,W4,kO,D4,ou,jd⟩:=p;have Qa:g'[s0]?=some (.lst (ns.map D.int)):=(ou s0 (by omega) (by omega) (k6 Bv)).trans Bv;have Qc:g'[f0]?=some (.lst (cs.map b7.d)):=(ou f0 (by omega) (by omega) (k6 Bz)).trans Bz;have uN:∀j,j≠d->j<n0->g'[j]?=g[j]?:=λj a b=>(ou j a (by omega) (by(clear hi hv fc jg jJ o1 hl f1 f2 hk hc y0 y1 f3 f5 gF ig jA fU ie iH iR kb1 kO jd a;omega))).trans (uO j a b);clear ou uO G2 G3 gO GY Hd nM GX Hc Bv GW Bz ow;have kO:vb.length<=2*(i+1):=by simp at kO;(clear hi hv fc jg jJ o1 o2 o3 o4 hl f1 f2 hk y0 y1 lf f3 f5 gF ig jA fU ie iH iR kb1 ij jd;omega)
 show wpS _ _ _ _ _ _;walk_at"";refine i0 h4 D4 (by decide) (by decide) λr5 g5 kJ kH D5 G5=>?_;walk_at"";have tail:∀(y':Int) (g6:G),0<=y'->y'<=9999->j7 g6 d->Gr d g' g6->wpS (c8 T (k+2)) (j5 (j5 (j5 (j5 K7)))) N [some (.ref d),some (.int n),some (.int v),some (.ref s0),some (.int f'),some (.ref w0),some (.int y'),some (.int st),some (.int wr),some (.int sh),some (.ref f0),xj,some (.tup [.int k1,.int (50+r3)]),nS,lZ,zE,zD] g6 E:=by
  intro y' g6 mh mf D6 G6;have P':=G6.at (by omega) Qa;have PU:=G6.at (by omega) PV;have ya:=G6.at (by omega) Qc;dsimp[K7,I0,j5];walk_at"";refine JI (b0 T _) ?_;walk_at"";refine⟨_,rfl,by simp,λj ys Z g7=>g7=g6/\(∃z w,Z=[some (.int sh),some (.int st),z,w])/\ys=([k1,50+r3].take j).map (λkey=>D.int (1+sh+key*st % 97)),⟨rfl,⟨none,none,rfl⟩,rfl⟩,λj ys Z g7 p=>?_,λj x ys Z g7 hx p=>?_,λys Z g7 p=>?_⟩
  ·obtain⟨rfl,_,rfl⟩:=p;simp;omega
  ·obtain⟨rfl,⟨z,w,rfl⟩,rfl⟩:=p;have km:∃key:Int,x=.int key/\([k1,50+r3].take j).map (λkey=>D.int (1+sh+key*st % 97))++[D.int (1+sh+key*st % 97)]=([k1,50+r3].take (j+1)).map (λkey=>D.int (1+sh+key*st % 97)):=by
    match j,hx with
    |0,hx=>cases hx;exact⟨_,rfl,rfl⟩
    |1,hx=>cases hx;exact⟨_,rfl,rfl⟩
    |j+2,hx=>simp at hx
   obtain⟨key,rfl,he⟩:=km;show cT _ _ _ _ _ _;walk_at"";refine M0 (Y6 (by omega) (by omega)) ?_;walk_at"";exact⟨rfl,⟨_,_,rfl⟩,he⟩
  obtain⟨rfl,_,rfl⟩:=p;have eN:(g7++[O.lst [D.int (1+sh+k1*st % 97),D.int (1+sh+(50+r3)*st % 97)]])[g7.length]?=some (.lst [D.int (1+sh+k1*st % 97),D.int (1+sh+(50+r3)*st % 97)]):=b8;show wpS _ _ _ _ (g7++[O.lst [D.int (1+sh+k1*st % 97),D.int (1+sh+(50+r3)*st % 97)]]) _;walk_at"";refine i0 h4 (D6.snoc _) (by decide) (by decide) λr8 g8 mW mV D8 G8=>?_;have l7:=D6.lt;have eN8:=G8.at (by omega) eN;have PZ:=G8.at (by omega) (o6 P');have Bu:=G8.at (by omega) (o6 PU);have Hb:=G8.at (by omega) (o6 ya);walk_at"";refine M0 (wD (by omega) (by omega)) ?_;walk_at"";obtain⟨lm,el,gl,ll⟩:=W4.get (.inl k1);obtain⟨um,eu,gu,lu⟩:=W4.get (.inl (50+r3));refine DF Bu (k:=.inl k1) rfl ?_;rw[el];walk_at"";refine DF Bu (k:=.inl (50+r3)) rfl ?_;rw[eu];walk_at"";refine L1 Hb (by simp;omega) ?_;generalize jy:y'*(if decide (0<r8)=true then 1 else 0)=ty;have lJ:0<=ty/\ty<=9999:=by
   rw[<- jy];split<;>simp<;>omega
  walk_at"";refine h f' y' _ _ _ _ _ _ ⟨⟨_,d5 PZ (by omega),xI,by(clear hi hv fc jg jJ o1 o2 o3 o4 f1 f2 hk y0 y1 lf f3 f5 gF ig fU ie iH iR kb1 ij jd kO kJ kH mh mf mW mV l7 ll lu jy lJ;omega)⟩,⟨by omega,by(clear hi hv fc jg jJ o1 o2 o3 o4 hl f1 hk y0 y1 lf gF ig jA fU ie iH iR kb1 ij jd kO kJ kH mh mf mW mV l7 ll lu jy lJ;omega)⟩,⟨vb,d5 Bu (by omega),W4,kO⟩,⟨cs++[⟨1+sh+k1*st % 97,lm,1+sh+(50+r3)*st % 97,um,ty⟩],?_,by simp[hc],?_⟩,⟨mh,mf⟩,D8.K0 (by omega)⟩ (λj a b=>?_) ?_
  ·rw[get_set Hb];simp[b7.d]
  ·intro c ji;rcases aV.mp ji with z|z
   ·exact hg c z
   ·simp at z;subst z;have m1:=dk (k1*st) (show(97:Int)≠0 by decide);have m2:=cR (k1*st) (show(0:Int)<97 by decide);have m3:=dk ((50+r3)*st) (show(97:Int)≠0 by decide);have m4:=cR ((50+r3)*st) (show(0:Int)<97 by decide);exact iz.mk' (by(clear hi hv fc jg o1 o2 o3 o4 hl f1 f2 hk hc y0 y1 lf f3 f5 gF ig jA fU ie iH iR kb1 ij jd kO kJ kH mh mf mW mV l7 ll lu jy lJ m2 m3 m4;omega)) (by(clear hi hv fc jg o1 o2 o3 o4 hl f1 f2 hk hc y0 y1 lf f3 f5 gF ig jA fU ie iH iR kb1 ij jd kO kJ kH mh mf mW mV l7 ll lu jy lJ m2 m3 m4;omega)) (by(clear hi hv fc jg o1 o2 o3 o4 hl f1 f2 hk hc y0 y1 lf f3 f5 gF ig jA fU ie iH iR kb1 ij jd kO kJ kH mh mf mW mV l7 ll lu jy lJ m1 m2 m4;omega)) (by(clear hi hv fc jg o1 o2 o3 o4 hl f1 f2 hk hc y0 y1 lf f3 f5 gF ig jA fU ie iH iR kb1 ij jd kO kJ kH mh mf mW mV l7 ll lu jy lJ m1 m2 m4;omega)) lJ.1 lJ.2 gl gu ll lu
  ·have lj:j<g'.length:=by(clear hi hv fc jg jJ o1 hl f1 f2 hk hc y0 y1 f3 f5 gF ig jA fU ie iH iR kb1 kO kJ kH mh mf mW mV l7 ll lu jy lJ a;omega)
   rw[aw (by(clear hi hv fc jg jJ o1 hl f1 f2 hk hc y0 y1 lf f3 f5 gF ig jA fU ie iH iR kb1 ij jd kO kJ kH mh mf mW mV l7 ll lu jy lJ a lj;omega)),G8.old j a (by have:=G6.len;simp;(clear hi hv fc jg jJ o1 o2 o3 o4 hl f1 f2 hk hc y0 y1 lf f3 f5 gF ig jA fU ie iH iR kb1 ij jd kO kJ kH mh mf mW mV l7 ll lu jy lJ a b;omega)),aA (by have:=G6.len;(clear hi hv fc jg jJ o1 o2 o3 o4 hl f1 f2 hk hc y0 y1 lf f3 f5 gF ig jA fU ie iH iR kb1 ij jd kO kJ kH mh mf mW mV l7 ll lu jy lJ a b;omega)),G6.old j a lj];exact uN j a b
  ·have:=G6.len;have:=G8.len;simp at this ⊢
   (clear hi hv fc jg jJ o1 o2 o3 o4 hl f1 f2 hk hc y0 y1 lf f3 f5 gF ig jA fU ie iH iR kb1 kO kJ kH mh mf mW mV l7 ll lu jy lJ;omega)
 refine if2 (λc=>?_) (λc=>?_)
 ·walk_at"";refine i0 h4 D5 (by decide) (by decide) λr6 g6 Fm Fl D6 G6=>?_;walk_at"";generalize Ag:(if y+1+r6<9999 then y+1+r6 else 9999)=y';have:0<=y'/\y'<=9999:=by rw[<- Ag];split<;>omega
  exact tail y' g6 this.1 this.2 D6 (G5.trans G6)
 ·refine R6 ?_;exact tail y g5 y0 y1 D5 G5
theorem aT8(h4:T 4=some E9)(vK:T 23=some I9)(Pk:T 24=some I0){n v:Int}(hn:0<=n/\n<=100)(hv:1<=v/\v<=100)(D0:j7 g d)(h:∀(cs:List b7) a g',(cs.length:Int)=n->(∀c∈cs,iz c)->g'[a]?=some (.lst (cs.map b7.d))->g.length<=a->j7 g' d->Gr d g g'->Q (.ref a) g'):c8 T (k+3) 24 [.ref d,.int n,.int v] g Q E:=by
 refine call_of Pk rfl ?_;dsimp[I0,d7,List.replicate];have dl:=D0.lt;walk_at"";have D1:j7 (g++[O.lst []]++[O.dD []]++[O.lst [.int 0,.int 1,.int 1350]]) d:=((D0.snoc _).snoc _).snoc _;have G1:Gr d g (g++[O.lst []]++[O.dD []]++[O.lst [.int 0,.int 1,.int 1350]]):=((Gr.snoc _ _ _).trans (Gr.snoc _ _ _)).trans (Gr.snoc _ _ _);have e0:(g++[O.lst []]++[O.dD []]++[O.lst [.int 0,.int 1,.int 1350]])[g.length]?=some (.lst []):=o6 (o6 b8);have e1:(g++[O.lst []]++[O.dD []]++[O.lst [.int 0,.int 1,.int 1350]])[(g++[O.lst []]).length]?=some (.dD []):=o6 b8;have e2:(g++[O.lst []]++[O.dD []]++[O.lst [.int 0,.int 1,.int 1350]])[(g++[O.lst []]++[O.dD []]).length]?=some (.lst [.int 0,.int 1,.int 1350]):=b8;have n1:(g++[O.lst []]).length=g.length+1:=by simp
 have n2:(g++[O.lst []]++[O.dD []]).length=g.length+2:=by simp
 rw[n1] at e1 ⊢;rw[n2] at e2 ⊢;generalize g++[O.lst []]++[O.dD []]++[O.lst [.int 0,.int 1,.int 1350]]=g1 at *;refine i0 h4 D1 (by decide) (by decide) λr2 g2 ig ie D2 G2=>?_;have Qi:=G2.at (by omega) e0;have lx:=G2.at (by omega) e1;have Hf:=G2.at (by omega) e2;obtain⟨x,hx,hm⟩:=K2 (l:=[D.int 0,.int 1,.int 1350]) ig (by simpa using ie);have hy:∃y:Int,x=.int y/\0<=y/\y<=9999:=by
  simp only[List.mem_cons,List.mem_nil_iff,or_false] at hm;rcases hm with rfl|rfl|rfl<;>exact⟨_,rfl,by decide,by decide⟩
 obtain⟨y,rfl,y0,y1⟩:=hy;refine u5 (a8 Hf) hx ?_;walk_at"";refine i0 h4 D2 (by decide) (by decide) λr3 g3 iH iR D3 G3=>?_;walk_at"";refine i0 h4 D3 (by decide) (by decide) λr4 g4 uJ xu D4 G4=>?_;walk_at"";refine i0 h4 D4 (by decide) (by decide) λr5 g5 kJ kH D5 G5=>?_;have zj:=G3.trans (G4.trans G5);have Qh:=zj.at (by omega) Qi;have qa:=zj.at (by omega) lx;have l5:=(G1.trans (G2.trans zj)).len;have lw:=k6 qa;walk_at"";generalize jJ:(if r5-6>0 then r5-6 else 0)=sh;have Fe:0<=sh/\sh<=2:=by rw[<- jJ];split<;>omega
 have yb:(g5++[O.lst []])[g5.length]?=some (.lst []):=b8;refine x8 (b0 T _) (qh (b0 T _) ?_);walk_at"";refine ⟨by omega,by omega,k8 0 n.toNat,λi Z g'=>∃ f' y' zz uv nS lZ uu ur,Z=[some (.ref d),some (.int n),some (.int v),some (.ref g.length),some (.int f'),some (.ref (g.length + 1)),some (.int y'),some (.int (1 + r3)),some (.int (2 + r4)),some (.int sh),some (.ref g5.length),zz,uv,nS,lZ,uu,ur]/\jj d g.length (g.length + 1) g5.length i g' f' y'/\Gr d g g',
  λ_ _ _ _=>B5,⟨1,y,none,none,none,none,none,none,rfl,⟨⟨[],o6 Qh,⟨[],rfl,by simp⟩,by simp⟩,⟨by omega,by omega⟩,⟨[],o6 qa,(λk v hv=>by cases hv),by simp⟩,⟨[],yb,rfl,by simp⟩,⟨y0,y1⟩,D5.snoc _⟩,(G1.trans (G2.trans zj)).trans (Gr.snoc _ _ _)⟩,λi x Z g' hx p=>?_,λZ g' p=>?_⟩
 ·obtain⟨f',y',zz,uv,nS,lZ,uu,ur,rfl,S,G'⟩:=p;obtain⟨hi,rfl⟩:=G0 hx;show wpS _ K7 _ _ _ _;refine aG3 (n0:=g.length) h4 vK S (by omega) hv ⟨by omega,by omega⟩ ⟨by omega,by omega⟩ Fe dl (av _) (by omega) (by omega) λf2 y2 a b c e f g2 S2 qR uX=>?_;exact⟨f2,y2,_,_,_,_,_,_,rfl,S2,⟨by have:=G'.len;(clear hn hv dl ig ie y0 y1 iH iR uJ xu kJ kH l5 lw jJ Fe hi;omega),λj h1 h2=>(qR j h1 h2).trans (G'.old j h1 h2)⟩⟩
 ·obtain⟨f',y',zz,uv,nS,lZ,uu,ur,rfl,S,G'⟩:=p;show wpS _ _ _ _ _ _;walk_at"";obtain⟨cs,ef,hc,hg⟩:=S.found;rw[q8] at hc;exact h cs _ _ (by omega) hg ef (by omega) S.dr G'
end
def yJ:aZ:=⟨2,8,(.seq (.set 2 (cE .ki (bf 1) (cE (.bin .Add) (cE (.bin .Add) (cE (.bin .FloorDiv) bh (bf 2)) (cE (.bin .Mod) bh (bf 2))) (bf 1)))) (.seq (.set 3 (cE (.bin .Add) bp (cE (.mS false true) (.call 21 (dE aP bp)) (cE (.bin .FloorDiv) bh (bf 2))))) (.seq (.set 4 (.call 4 (dE aP (bf 3)))) (.seq (.set 5 (.prim .lst .nil)) (.seq (.dY (.one 6) (.fA bh) (.seq (.set 7 (df (.prim .lst (gI (cE (.bin .Add) (bf 1000) fk) (bf 0) (cE (.bin .Add) (bf 1) (cE (.bin .FloorDiv) (cE (.bin .Mult) (bf 2) fk) (cE .max (bf 1) bh))))) dg)) (.seq (.expr (.dR .append fz (eO (.prim .tup (uw (df bR fk) (.prim .tup .nil) (cE (.bin .Add) (bf 1) (.call 4 (dE aP (bf 9)))) (.prim .tup .nil) je))))) .pass))) (.seq (.ret fz) .pass))))))⟩
def Q3:aZ:=⟨2,9,(.seq (.set 2 (.call 4 (dE aP (cE (.bin .Add) bh (bf 1))))) (.seq (.set 3 (cE (.bin .Add) (bf 1) (.call 4 (dE aP (bf 3))))) (.seq (.set 4 (.call 4 (dE aP (bf 5)))) (.seq (.ifs (ff .Eq dg (bf 0)) (.seq (.ret (cE .tup (.comp [0] 3 (.one 2) (.fA bp) .no (.call 22 (eO aP))) bR)) .pass) .pass) (.seq (.ifs (ff .Eq dg (bf 4)) (.seq (.set 3 (cE (.bin .Add) (bf 1) (.call 4 (dE aP (bf 6))))) .pass) .pass) (.seq (.set 5 (.ite (ff .Eq dg (bf 4)) (.call 25 (dE aP bp)) (.call 24 (gI aP bp bR)))) (.seq (.set 5 (.comp [5] 3 (.one 2) (.fF (.call 21 (dE aP (dX .jc bp)))) .no (df aP bp))) (.seq (.ifs (.eL (ff .Eq dg (bf 1)) (ff .Gt bp (bf 0))) (.seq (.set 6 (.call 4 (dE aP bp))) (.seq (.set 7 (df fz fk)) (.seq (.set 8 (df fz (.call 4 (dE aP bp)))) (.seq (.eF fz fk (.prim .tup (uw (df je (bf 0)) (df ni (bf 1)) (df ni (bf 2)) (df je (bf 3)) (df (.prim .lst (gI (df je (bf 4)) (df ni (bf 4)) (bf 9999))) (.call 4 (dE aP (bf 3))))))) .pass)))) .pass) (.seq (.ifs (ff .Eq dg (bf 2)) (.seq (.set 3 (bf 1)) .pass) .pass) (.seq (.ret (cE .tup fz bR)) .pass))))))))))⟩
theorem KO{p:Int->Prop}:∀{l:List D},(∀x∈l,∃i:Int,x=.int i/\p i)->∃ns:List Int,l=ns.map .int/\∀i∈ns,p i
 |[],_=>⟨[],rfl,by simp⟩
 |x::r,h=>by
  obtain⟨i,rfl,hi⟩:=h x (by simp);obtain⟨ns,rfl,hn⟩:=KO (l:=r) λy hy=>h y (by simp[hy]);exact⟨i::ns,rfl,λj hj=>(aI.mp hj).elim (λz=>z▸hi) (hn j)⟩
theorem Le{lo:Int}{n:Nat}{x:D}(h:x∈k8 lo n):∃i:Int,x=.int i/\lo<=i/\i<lo+n:=by
 unfold k8 at h;obtain⟨k,hk,rfl⟩:=aM.mp h;exact⟨_,rfl,by omega,by have:=aH.mp hk;omega⟩
theorem Ma{α:Type}{l:List α}{n:Nat}(h:n<=l.length):cut l none (some (n:Int))=l.take n:=by
 have:¬((n:Int)<0):=by omega
 unfold cut HT.dQ;simp[this]
theorem SV{ns:List Int}{r:Int}(h0:0<=r)(h1:r<ns.length):∃i∈ns,gP (ns.map D.int) r=some (.int i):=by
 obtain⟨v,hv,hm⟩:=K2 (l:=ns.map D.int) h0 (by simpa using h1);obtain⟨i,hi,rfl⟩:=aM.mp hm;exact⟨i,hi,hv⟩
theorem CD{cs:List b7}{r:Int}(h0:0<=r)(h1:r<cs.length):∃c∈cs,gP (cs.map b7.d) r=some c.d:=by
 obtain⟨v,hv,hm⟩:=K2 (l:=cs.map b7.d) h0 (by simpa using h1);obtain⟨i,hi,rfl⟩:=aM.mp hm;exact⟨i,hi,hv⟩
section
variable{T:Nat->Option aZ}{k d:Nat}{g:G}{Q:KD}{E:KX}
theorem ZO(h4:T 4=some E9)(Bg:T 21=some T4)(Pj:T 25=some yJ){n:Int}(hn:0<=n/\n<=100)(D0:j7 g d)(h:∀(cs:List b7) a g',(cs.length:Int)=n->(∀c∈cs,iz c)->g'[a]?=some (.lst (cs.map b7.d))->g.length<=a->j7 g' d->Gr d g g'->Q (.ref a) g'):c8 T (k+3) 25 [.ref d,.int n] g Q E:=by
 refine call_of Pj rfl ?_;dsimp[yJ,d7,List.replicate];have dl:=D0.lt;walk_at"";refine Ny (i:=1) (j:=n / 2+n % 2+1) (by omega) ?_;walk_at"";have hh:∃hf:Nat,(n / 2+n % 2+1-1).toNat=hf/\(hf:Int)=n / 2+n % 2/\hf<=50:=⟨_,rfl,by omega,by omega⟩
 obtain⟨hf,Ow,hh2,hh3⟩:=hh;rw[Ow];have e1:(g++[O.lst (k8 1 hf)])[g.length]?=some (.lst (k8 1 hf)):=b8;refine V9 h4 Bg e1 (by rw[q8];omega) (by omega) (D0.snoc _) λl' b g2 hp e2 hb D2 G2=>?_;have lx:=G2.at (by omega) e1;walk_at"";refine Em (a8 e2) ?_;have hle:l'.length=hf:=by rw[hp.length_eq,q8]
 have hc:cut l' none (some (n / 2))=l'.take (n / 2).toNat:=by
  have:=Ma (l:=l') (n:=(n / 2).toNat) (by omega)
  rwa [show(((n / 2).toNat:Nat):Int)=n / 2 by omega] at this
 rw[hc];refine HW (o6 lx) b8 (by rw[q8,cZ];omega) ?_;obtain⟨rl,er,hr⟩:=KO (p:=λi=>1<=i/\i<=50) (l:=k8 1 hf++l'.take (n / 2).toNat) λx hx=>by
  have pJ:x∈k8 1 hf:=by
   rcases aV.mp hx with z|z
   ·exact z
   ·exact hp.mem_iff.mp (zu z)
  obtain⟨i,rfl,h1,h2⟩:=Le pJ;exact⟨i,rfl,h1,by omega⟩
 have FW:(rl.length:Int)=n:=by
  have:=dt List.length er;rw[aY,q8,cZ,ag] at this;omega
 rw[er];have D3:=(D2.snoc (.lst (l'.take (n / 2).toNat))).snoc (.lst (rl.map D.int));have G3:=(Gr.snoc d g (.lst (k8 1 hf))).trans (G2.trans ((Gr.snoc d g2 (.lst (l'.take (n / 2).toNat))).trans (Gr.snoc d _ (.lst (rl.map D.int)))));have e3:(g2++[O.lst (l'.take (n / 2).toNat)]++[O.lst (rl.map D.int)])[(g2++[O.lst (l'.take (n / 2).toNat)]).length]?=some (.lst (rl.map D.int)):=b8;have l3:g.length+1<=(g2++[O.lst (l'.take (n / 2).toNat)]).length:=by have:=G2.len;simp at this ⊢;omega
 generalize (g2++[O.lst (l'.take (n / 2).toNat)]).length=Fh at *;generalize g2++[O.lst (l'.take (n / 2).toNat)]++[O.lst (rl.map D.int)]=g3 at *;walk_at"";refine i0 h4 D3 (by decide) (by decide) λr4 g4 uJ xu D4 G4=>?_;have e4:=G4.at (by omega) e3;walk_at"";have Mi:=G3.trans G4;have l4:=Mi.len;have e5:(g4++[O.lst []])[g4.length]?=some (.lst ([].map b7.d)):=b8;have lr4:=k6 e4;refine x8 (b0 T _) (qh (b0 T _) ?_);walk_at"";refine ⟨by omega,by omega,k8 0 n.toNat,λi Z g'=>∃ cs z6 z7,Z=[some (.ref d),some (.int n),some (.ref g.length),some (.ref Fh),some (.int r4),some (.ref g4.length),z6,z7]/\cs.length=i/\(∀ c ∈ cs,iz c)/\g'[g4.length]?=some (.lst (cs.map b7.d))/\g'[Fh]?=some (.lst (rl.map D.int))/\j7 g' d/\Gr d g g',
  λ_ _ _ _=>B5,⟨[],none,none,rfl,rfl,by simp,e5,o6 e4,D4.snoc _,Mi.trans (Gr.snoc _ _ _)⟩,λi x Z g' hx p=>?_,λZ g' p=>?_⟩
 ·obtain⟨cs,z6,z7,rfl,hc,hg,ef,erw,D',G'⟩:=p;obtain⟨hi,rfl⟩:=G0 hx;show wpS _ _ _ _ _ _;walk_at"";refine M0 (wD (by decide) (by decide)) ?_;walk_at"";refine yd ⟨by split<;>omega,by split<;>omega⟩ ?_;walk_at"";obtain⟨yv,hy,FO⟩:∃yv:Int,gP [D.int (1000+(0+(i:Int))),D.int 0,D.int (1+2*(0+(i:Int)) / (if n>1 then n else 1))] r4=some (.int yv)/\0<=yv/\yv<=9999:=by
   have dv0:0<=2*(0+(i:Int)) / (if n>1 then n else 1):=Int.ediv_nonneg (by omega) (by split<;>omega);have dv1:2*(0+(i:Int)) / (if n>1 then n else 1)<=2*(0+(i:Int)):=Int.ediv_le_self _ (by omega);have:r4=0\/r4=1\/r4=2:=by omega
   rcases this with rfl|rfl|rfl
   ·exact⟨_,rfl,by omega,by omega⟩
   ·exact⟨_,rfl,by omega,by omega⟩
   ·exact⟨_,rfl,by omega,by omega⟩
  refine u5 (a8 b8) hy ?_;walk_at"";obtain⟨lo,rg,Az⟩:=SV (ns:=rl) (r:=0+(i:Int)) (by omega) (by omega);have lf:=k6 ef;refine And.intro (S5 (o6 ef)) ?_;walk_at"";refine u5 (a8 (o6 erw)) Az ?_;walk_at"";refine i0 h4 (D'.snoc _) (by decide) (by decide) λr6 g6 Fm Fl D6 G6=>?_;have ya:=G6.at (by omega) (o6 ef);have Qb:=G6.at (by omega) (o6 erw);walk_at"";refine L1 ya (by simp;omega) ?_;walk_at"";have hlb:=hr lo rg;refine⟨cs++[⟨lo,[],1+r6,[],yv⟩],_,_,rfl,by simp[hc],?_,?_,d5 Qb (by omega),D6.K0 (by omega),(G'.trans ((Gr.snoc _ _ _).trans G6)).K0 (by omega)⟩
  ·intro c ji;rcases aV.mp ji with z|z
   ·exact hg c z
   ·simp at z;subst z;exact iz.mk' (by omega) (by omega) (by omega) (by omega) FO.1 FO.2 rfl rfl (by simp) (by simp)
  ·rw[get_set ya];simp[b7.d]
 ·obtain⟨cs,z6,z7,rfl,hc,hg,ef,erw,D',G'⟩:=p;show wpS _ _ _ _ _ _;walk_at"";rw[q8] at hc;exact h cs _ _ (by omega) hg ef (by omega) D' G'
end
section
variable{T:Nat->Option aZ}{k d:Nat}{g:G}{Q:KD}{E:KX}
structure LF(T:Nat->Option aZ):Prop where
 pull:T 4=some E9
 order:T 21=some T4
 any:T 22=some yS
 qH:T 23=some I9
 qE:T 24=some I0
 opened:T 25=some yJ
 list:T 26=some Q3
theorem aP7(hT:LF T){n:Int}(hn:0<=n/\n<=99)(D0:j7 g d)(h:∀(cs:List b7) a (v:Int) g',(cs.length:Int)<=n->(∀c∈cs,iz c)->g'[a]?=some (.lst (cs.map b7.d))->g.length<=a->1<=v->v<=6->j7 g' d->Gr d g g'->Q (.tup [.ref a,.int v]) g'):c8 T (k+4) 26 [.ref d,.int n] g Q E:=by
 refine call_of hT.list rfl ?_;dsimp[Q3,d7,List.replicate];have dl:=D0.lt;walk_at"";refine i0 (n:=n+1) hT.pull D0 (by omega) (by omega) λm g1 m0 m1 D1 G1=>?_;walk_at"";refine i0 hT.pull D1 (by decide) (by decide) λr2 g2 ig ie D2 G2=>?_;walk_at"";refine i0 hT.pull D2 (by decide) (by decide) λway g3 w0 w1 D3 G3=>?_;have zk:=G1.trans (G2.trans G3);have l3:=zk.len;walk_at"";refine if2 (λc=>?_) (λc=>?_)
 ·walk_at"";refine F0 (b0 T _) (qh (b0 T _) ?_);walk_at"";refine⟨by omega,by omega,k8 0 m.toNat,λi ys Z g'=>∃cs z1 z2,ys=cs.map b7.d/\cs.length=i/\(∀c∈cs,iz c)/\Z=[some (.ref d),z1,z2]/\j7 g' d/\Gr d g g',by rw[q8];omega,λi ys Z g' p=>⟨B5,?_⟩,⟨[],none,none,rfl,rfl,by simp,rfl,D3,zk⟩,λi x ys Z g' hx p=>?_,λys Z g' p=>?_⟩
  ·obtain⟨cs,z1,z2,rfl,hc,_⟩:=p;simp[hc]
  ·obtain⟨cs,z1,z2,rfl,hc,hg,rfl,D',G'⟩:=p;show cT _ _ _ _ _ _;walk_at"";refine aI0 hT.pull hT.any D' λc0 g4 gc D4 G4=>?_;refine⟨cs++[c0],_,_,by simp,by simp[hc],λc1 rq=>?_,rfl,D4,G'.trans G4⟩;rcases aV.mp rq with z|z
   ·exact hg c1 z
   ·simp at z;subst z;exact gc
  ·obtain⟨cs,z1,z2,rfl,hc,hg,rfl,D',G'⟩:=p;rw[q8] at hc;walk_at"";exact h cs _ _ _ (by omega) hg b8 G'.len (by omega) (by omega) (D'.snoc _) (G'.trans (Gr.snoc _ _ _))
 have tail:∀(v:Int) (g4:G),1<=v->v<=6->j7 g4 d->Gr d g g4->wpS (c8 T (k+3)) (j5 (j5 (j5 (j5 (j5 Q3.body))))) ⟨λ_ g'=>Q .bQ g',Q,λ_ _=>False,λ_ _=>False⟩ [some (.ref d),some (.int n),some (.int m),some (.int v),some (.int way),none,none,none,none] g4 E:=by
  intro v g4 v0 v1 D4 G4;dsimp[Q3,j5];have after:∀(cs:List b7) a g5,(cs.length:Int)=m->(∀c∈cs,iz c)->g5[a]?=some (.lst (cs.map b7.d))->g4.length<=a->j7 g5 d->Gr d g4 g5->wpS (c8 T (k+3)) (j5 (j5 (j5 (j5 (j5 (j5 Q3.body)))))) ⟨λ_ g'=>Q .bQ g',Q,λ_ _=>False,λ_ _=>False⟩ [some (.ref d),some (.int n),some (.int m),some (.int v),some (.int way),some (.ref a),none,none,none] g5 E:=by
   intro cs a g5 hc hg ea la D5 G5;have Mh:=G4.trans G5;have l4:=G4.len;dsimp[Q3,j5];walk_at"";refine F0 (b0 T _) (kL (b0 T _) ?_);walk_at"";refine zX (by omega) (by omega) ?_;walk_at"";have e6:(g5++[O.lst (k8 0 m.toNat)])[g5.length]?=some (.lst (k8 0 m.toNat)):=b8;have l5:=D5.lt;refine V9 hT.pull hT.order e6 (by rw[q8];omega) (by omega) (D5.snoc _) λl' b g7 hp eb lb D7 G7=>?_;have Qe:=G7.at (by omega) (o6 ea);have xM:l'.length=m.toNat:=by rw[hp.length_eq,q8]
   refine⟨b,l',rfl,a8 eb,l',λi ys Z g'=>∃dO z1 z2,ys=dO.map b7.d/\dO.length=i/\(∀c∈dO,iz c)/\Z=[some (.ref a),z1,z2]/\g'=g7,by omega,λi ys Z g' p=>?_,⟨[],none,none,rfl,rfl,by simp,rfl,rfl⟩,λi x ys Z g' hx p=>?_,λys Z g' p=>?_⟩
   ·obtain⟨dO,z1,z2,rfl,ji,_,_,rfl⟩:=p;exact⟨s9 (a8 eb),by simp[ji]⟩
   ·obtain⟨dO,z1,z2,rfl,ji,oC,rfl,rfl⟩:=p;obtain⟨j,rfl,j0,j1⟩:=Le (hp.mem_iff.mp (aJ hx));show cT _ _ _ _ _ _;walk_at"";obtain⟨c0,rz,e0⟩:=CD (cs:=cs) j0 (by omega);refine u5 (a8 Qe) e0 ?_;refine⟨dO++[c0],_,_,by simp,by simp[ji],λc1 rq=>?_,rfl,rfl⟩;rcases aV.mp rq with z|z
    ·exact oC c1 z
    ·simp at z;subst z;exact hg c1 rz
   ·obtain⟨dO,z1,z2,rfl,ji,oC,rfl,rfl⟩:=p;have e8:(g'++[O.lst (dO.map b7.d)])[g'.length]?=some (.lst (dO.map b7.d)):=b8;have D8:=D7.snoc (.lst (dO.map b7.d));have G8:=(Mh.trans ((Gr.snoc d g5 (.lst (k8 0 m.toNat))).trans G7)).trans (Gr.snoc d g' (.lst (dO.map b7.d)));have l8:g.length<=g'.length:=(Mh.trans ((Gr.snoc d g5 (.lst (k8 0 m.toNat))).trans G7)).len;have fin:∀(tK:List b7) z6 z7 z8 g9,(tK.length:Int)=m->(∀c∈tK,iz c)->g9[g'.length]?=some (.lst (tK.map b7.d))->j7 g9 d->Gr d g g9->wpS (c8 T (k+3)) (j5 (j5 (j5 (j5 (j5 (j5 (j5 (j5 Q3.body)))))))) ⟨λ_ g'=>Q .bQ g',Q,λ_ _=>False,λ_ _=>False⟩ [some (.ref d),some (.int n),some (.int m),some (.int v),some (.int way),some (.ref g'.length),z6,z7,z8] g9 E:=by
     intro tK z6 z7 z8 g9 nE Gn e9 D9 G9;dsimp[Q3,j5];walk_at"";refine if2 (λc=>?_) (λc=>?_)
     ·walk_at"";exact h tK _ _ _ (by omega) Gn e9 l8 (by omega) (by omega) D9 G9
     ·walk_at"";exact h tK _ _ _ (by omega) Gn e9 l8 v0 v1 D9 G9
    show wpS _ _ _ _ (g'++[O.lst (dO.map b7.d)]) _;have pO:(dO.length:Int)=m:=by omega
    have xD:=D7.lt;generalize hg8:g'++[O.lst (dO.map b7.d)]=g8 at *;walk_at"";refine if2 (λc1=>?_) (λc1=>?_)
    ·walk_at"";refine if2 (λc2=>?_) (λc2=>?_)
     ·walk_at"";refine i0 (n:=m) hT.pull D8 c2 (by omega) λr g9 r0 r1 D9 G9=>?_;have e9:=G9.at (by omega) e8;obtain⟨c0,rz,e0⟩:=CD (cs:=dO) r0 (by(clear hn dl m0 m1 ig ie w0 w1 l3 c v0 v1 la l4 l5 lb xM ji l8 xD c1 c2 r0;omega));walk_at"";refine u5 (a8 e9) e0 ?_;walk_at"";refine i0 (n:=m) hT.pull D9 c2 (by omega) λr' GP xw Fn Mn Mg=>?_;have Hj:=Mg.at (by omega) e9;obtain⟨c3,xR,e3⟩:=CD (cs:=dO) xw (by(clear hn dl m0 m1 ig ie w0 w1 l3 c v0 v1 la l4 l5 lb xM ji l8 xD c1 c2 r0 r1 xw;omega));refine u5 (a8 Hj) e3 ?_;dsimp only[b7.d];walk_at"";refine i0 hT.pull (Mn.snoc _) (by decide) (by decide) λr'' tH qL qK D11 EF=>?_;have FI:=Mn.lt;have vV:=EF.at (by omega) (b8 (g:=GP) (o:=.lst [.int c0.yr,.int c3.yr,.int 9999]));have vW:=EF.at (by omega) (o6 (o':=.lst [.int c0.yr,.int c3.yr,.int 9999]) Hj);obtain⟨x,hx,hm⟩:=K2 (l:=[D.int c0.yr,.int c3.yr,.int 9999]) qL (by simpa using qK);obtain⟨a1,a2,a3,a4,a5,a6⟩:=(oC c0 rz).inv;obtain⟨b1,b2,b3,b4,b5,b6⟩:=(oC c3 xR).inv;have hy:∃y:Int,x=.int y/\0<=y/\y<=9999:=by
       simp only[List.mem_cons,List.mem_nil_iff,or_false] at hm;rcases hm with rfl|rfl|rfl
       ·exact⟨_,rfl,a5,a6⟩
       ·exact⟨_,rfl,b5,b6⟩
       ·exact⟨_,rfl,by decide,by decide⟩
      obtain⟨y,rfl,y0,y1⟩:=hy;refine u5 (a8 vV) hx ?_;walk_at"";have hj:kY (dO.map b7.d).length r=some r.toNat:=by
       unfold kY;rw[aK r0,aK (by rw[ag];(clear hn dl m0 m1 ig ie w0 w1 l3 c v0 v1 la l4 l5 lb xM ji l8 xD c1 c2 r0 xw Fn qL qK FI a1 a3 a5 a6 b1 b3 b5 b6 y0 y1;omega))]
      refine U5 vW hj ?_;have gr:iz ⟨c0.lo,c3.lm,c3.up,c0.um,y⟩:=iz.mk' a1.1 a1.2 b3.1 b3.2 y0 y1 b2 a4 (oC c3 xR).l8 (oC c0 rz).u8;refine fin (dO.set r.toNat ⟨c0.lo,c3.lm,c3.up,c0.um,y⟩) _ _ _ _ (by simp;(clear hn dl m0 m1 ig ie w0 w1 l3 c v0 v1 la l4 l5 lb xM ji l8 xD c1 c2 r0 r1 xw Fn qL qK FI a1 a3 a5 a6 b1 b3 b5 b6 y0 y1;omega)) (λc4 OJ=>?_) ?_ (D11.K0 (by omega)) ((G8.trans (G9.trans (Mg.trans ((Gr.snoc _ _ _).trans EF)))).K0 l8)
      ·rcases pe OJ with z|z
       ·exact oC c4 z
       ·rw[z];exact gr
      ·rw[get_set vW,List.map_set]
       rfl
     ·refine R6 ?_;exact fin dO _ _ _ _ pO oC e8 D8 G8
    ·exact fin dO _ _ _ _ pO oC e8 D8 G8
  walk_at"";refine if2 (λc=>?_) (λc=>?_)
  ·walk_at"";refine ZO hT.pull hT.order hT.opened ⟨m0,by omega⟩ D4 λcs a g5 hc hg ea la D5 G5=>?_;exact after cs a g5 hc hg ea la D5 G5
  ·walk_at"";refine aT8 hT.pull hT.qH hT.qE ⟨m0,by omega⟩ ⟨v0,by omega⟩ D4 λcs a g5 hc hg ea la D5 G5=>?_;exact after cs a g5 hc hg ea la D5 G5
 walk_at"";refine if2 (λc=>?_) (λc=>?_)
 ·walk_at"";refine i0 hT.pull D3 (by decide) (by decide) λr4 g4 uJ xu D4 G4=>?_;walk_at "w1";walk_at "w1";exact tail _ _ (by omega) (by omega) D4 (zk.trans G4)
 ·refine R6 ?_;exact tail _ _ (by omega) (by omega) D3 zk
end
def F4:aZ:=⟨1,1,(.seq (.ifs (.eX (.fS (.call 1 (gI aP (bf 1) (bf 9))))) (.seq (.raise "BadAnvils" (eO (iJ "there are from one to nine anvils"))) .pass) .pass) .pass)⟩
def yL:aZ:=⟨2,2,(.seq (.ret (dX .all (.comp [1] 3 (.one 2) (.fF aP) .no (cE (.cmp .In) bp aP)))) .pass)⟩
def Dp:aZ:=⟨1,1,(.seq (.ifs (.eX (.fS (.call 12 (eO aP)))) (.seq (.raise "BadCoin" (eO (iJ "it is no coin"))) .pass) .pass) .pass)⟩
def W6:aZ:=⟨1,2,(.seq (.ifs (ff .Gt (dX .len aP) (bf 9)) (.seq (.raise "TooMany" (eO (iJ "at most nine coins are asked about at once"))) .pass) .pass) (.seq (.dY (.one 1) (.fF aP) (.seq (.expr (.call 39 (eO bh))) .pass)) .pass))⟩
def Q4:aZ:=⟨1,1,(.seq (.ifs (ff .NotIn aP (.lit (.tup [(.str "lower"),(.str "upper")]))) (.seq (.raise "BadSide" (eO (iJ "a side is lower or upper"))) .pass) .pass) .pass)⟩
def Df:aZ:=⟨1,1,(.seq (.expr (.call 40 (eO aP))) (.seq (.ret (cE .nK (.lit (.tup [(.tup [(.str "lower"),(.int 0)]),(.tup [(.str "upper"),(.int 2)])])) aP)) .pass))⟩
noncomputable abbrev EH(T:Nat->Option aZ):Prop:=T 18=some W6/\T 39=some Dp
noncomputable abbrev sG(T:Nat->Option aZ):Prop:=T 19=some Df/\T 40=some Q4
structure Ex(g g':G):Prop where
 len:g.length<=g'.length
 old:∀i,i<g.length->g'[i]?=g[i]?
theorem Ex.refl(g:G):Ex g g:=⟨av _,λ_ _=>rfl⟩
theorem Ex.trans{g g1 g2:G}(a:Ex g g1)(b:Ex g1 g2):Ex g g2:=⟨aE a.len b.len,λi h=>(b.old i (ay h a.len)).trans (a.old i h)⟩
theorem Ex.snoc(g:G)(o:O):Ex g (g++[o]):=⟨by simp,λi h=>aA h⟩
theorem Ex.at{g g':G}(h:Ex g g'){i:Nat}{o:O}(e:g[i]?=some o):g'[i]?=some o:=(h.old i (k6 e)).trans e
theorem Ex.gr{g g':G}(h:Ex g g')(d:Nat):Gr d g g':=⟨h.len,λi _ h2=>h.old i h2⟩
theorem Ex.draw{g g':G}{d:Nat}(h:Ex g g')(D0:j7 g d):j7 g' d:=by
 obtain⟨s,p,b,r,xs,e1,e2,q⟩:=D0.ex;exact⟨s,p,b,r,xs,h.at e1,h.at e2,q⟩
section
variable{T:Nat->Option aZ}{k d:Nat}{g:G}{Q:KD}{E:KX}
theorem QQ(h6:T 6=some zc){i:Int}(h:Q (.bl true) g):c8 T (k+1) 6 [.int i] g Q E:=by
 refine call_of h6 rfl ?_;dsimp[zc,d7,List.replicate];walk_at"";refine xE (c:="int") (b:=true) (by decide) rfl ?_;walk_at"";refine xE (c:="bool") (b:=false) (by decide) rfl ?_;walk_at"";exact h
end
def oo(a b:List Int):Bool:=a.all λs=>b.any λm=>m==s
section
variable{T:Nat->Option aZ}{k d:Nat}{g:G}{Q:KD}{E:KX}
theorem Jq(oG:T 15=some yL){a b:List Int}(ha:a.length<=1000)(h:∀g',Ex g g'->Q (.bl (oo a b)) g'):c8 T (k+1) 15 [.tup (a.map .int),.tup (b.map .int)] g Q E:=by
 refine call_of oG rfl ?_;dsimp[yL,d7,List.replicate];walk_at"";refine F0 (b0 T _) (xF (b0 T _) ?_);walk_at"";refine⟨_,rfl,_,λi ys Z g'=>∃z w,ys=((a.take i).map λs=>b.any λm=>m==s).map D.bl/\Z=[some (.tup (b.map .int)),z,w]/\g'=g,by simpa using ha,λi ys Z g' p=>⟨B5,?_⟩,⟨none,none,rfl,rfl,rfl⟩,λi x ys Z g' hx p=>?_,λys Z g' p=>?_⟩
 ·obtain⟨z,w,rfl,_⟩:=p;simp;omega
 ·obtain⟨z,w,rfl,rfl,rfl⟩:=p;rw[ai,aa] at hx;obtain⟨s,hs,rfl⟩:=hx;show cT _ _ _ _ _ _;walk_at"";refine BU (Jd ?_);refine⟨_,_,?_,rfl,rfl⟩;have hi:=(aj.mp hs)
  rw[bx,hs];simp
 ·obtain⟨z,w,rfl,rfl,rfl⟩:=p;refine WM (a8 b8) (a23 _) ?_;have e:((a.take (a.map D.int).length).map λs=>b.any λm=>m==s).all id=oo a b:=by
   rw[ag,bJ];simp[oo,List.all_map]
  rw[e];exact h _ (Ex.snoc _ _)
theorem a94{g:G}{x:Str}{kb:Bool->Prop}(hx:PyData.strOk x=true)(h:kb (decide (x="lower")||decide (x="upper"))):qV g (.str x) (.tup [.str "lower",.str "upper"]) kb:=by
 refine⟨_,.inr ⟨_,[.str "lower",.str "upper"],.str x,rfl,rfl,rfl,by simp only[PyData.canLayAll0,PyData.canLay0,Bool.and_true];decide +kernel,by simp only[PyData.canLay0];exact hx,rfl⟩,?_⟩;have e:∀y:Str,PyData.eqv (.str y) (.str x)=decide (x=y):=λy=>by
  simp only[PyData.eqv];rw[bc,fb,dc];exact eq_comm
 simp only[List.any_cons,List.any_nil,Bool.or_false,e];exact h
theorem YT(Ph:T 40=some Q4){x:Str}(ho:PyData.strOk x=true)(h1:x="lower"\/x="upper"->Q .bQ g)(h3:x≠"lower"->x≠"upper"->E ⟨"BadSide"⟩ g):c8 T (k+1) 40 [.str x] g Q E:=by
 refine call_of Ph rfl ?_;dsimp[Q4,d7,List.replicate];walk_at"";refine ye (a94 ho ?_);walk_at"";by_cases e:x="lower"\/x="upper"
 ·refine gG (by rw[Bool.not_eq_false',cV,dc,dc];exact e) ?_;walk_at"";exact h1 e
 ·refine ik (by rw[kF,Bool.or_eq_false_iff,cI,cI];exact not_or.mp e) ?_;walk_at"";exact h3 (λz=>e (.inl z)) (λz=>e (.inr z))
theorem v5(hX:sG T){x:Str}(ho:PyData.strOk x=true)(h1:x="lower"->Q (.int 0) g)(h2:x="upper"->Q (.int 2) g)(h3:x≠"lower"->x≠"upper"->E ⟨"BadSide"⟩ g):c8 T (k+2) 19 [.str x] g Q E:=by
 refine call_of hX.1 rfl ?_;dsimp[Df,d7,List.replicate];walk_at"";refine YT hX.2 ho (λhx=>?_) h3;walk_at"";by_cases e1:x="lower"
 ·have el:O5 [.tup [.str "lower",.int 0],.tup [.str "upper",.int 2]] x=some (.int 0):=by simp[O5,e1]
  refine Ia el ?_;exact h1 e1
 ·have e2:x="upper":=hx.resolve_left e1;have el:O5 [.tup [.str "lower",.int 0],.tup [.str "upper",.int 2]] x=some (.int 2):=by simp[O5,e1];simp[e2]
  refine Ia el ?_;exact h2 e2
def CB(c:b7):Prop:=c.lm.length<=8/\c.um.length<=8
theorem N4(h1:NF T)(h2:T 2=some C9)(nG:T 12=some A7)(mD:EH T){a:Nat}{cs:List b7}(ha:g[a]?=some (.lst (cs.map b7.d)))(hz:cs.length<=1000)(hm:9<cs.length->E ⟨"TooMany"⟩ g)(hb:cs.length<=9->cs.all p0=false->E ⟨"BadCoin"⟩ g)(h:cs.length<=9->cs.all p0=true->Q .bQ g):c8 T (k+6) 18 [.ref a] g Q E:=by
 refine call_of mD.1 rfl ?_;dsimp[W6,d7,List.replicate];walk_at"";rw[ag];refine if2 (λc=>?_) (λc=>?_)
 ·walk_at"";exact hm (by omega)
 have h9:cs.length<=9:=by omega
 walk_at"";refine x8 (b0 T _) (kL (b0 T _) ?_);walk_at"";refine⟨a,_,rfl,a8 ha,cs.map b7.d,λi Z g'=>∃z,Z=[some (.ref a),z]/\g'=g/\(cs.take i).all p0=true,λi Z g' p=>?_,⟨none,rfl,rfl,by simp⟩,λi x Z g' hx p=>?_,λZ g' p=>?_⟩
 ·obtain⟨z,rfl,rfl,_⟩:=p;exact s9 (a8 ha)
 ·obtain⟨z,rfl,rfl,hg⟩:=p;rw[ai,aa] at hx;obtain⟨c,hc,rfl⟩:=hx;refine m5 ?_
  try show wpS _ _ _ _ _ _
  walk_at"";refine call_of mD.2 rfl ?_;dsimp[Dp,d7,List.replicate];walk_at"";refine aD4 h1 h2 nG ?_;walk_at"";cases e:p0 c with
  |true =>
   walk_at"";refine⟨_,rfl,rfl,?_⟩;rw[bx,hc];simp[hg,e]
  |false =>
   refine HA ?_;walk_at"";refine hb h9 ?_;rw[List.all_eq_false];exact⟨c,aJ hc,by rw[e];decide⟩
 ·obtain⟨z,rfl,rfl,hg⟩:=p;rw[ag,bJ] at hg;exact h h9 hg
end
section
variable{T:Nat->Option aZ}{k d:Nat}{g:G}{Q:KD}{E:KX}
end
def qf(f:Int)(c:b7):Int:=if f=0 then c.lo else c.up
theorem LZ{f:Int}(hf:f=0\/f=2)(c:b7):gP [D.int c.lo,D.tup (c.lm.map .int),D.int c.up,D.tup (c.um.map .int),D.int c.yr] f=some (.int (qf f c)):=by
 rcases hf with rfl|rfl<;>rfl
section
variable{T:Nat->Option aZ}{k d:Nat}{g:G}{Q:KD}{E:KX}
end
section
variable{T:Nat->Option aZ}{k d:Nat}{g:G}{Q:KD}{E:KX}
end
def cD:b7:=⟨0,[],0,[],0⟩
noncomputable abbrev cL(cs:List b7)(i:Nat):b7:=cs.getD i cD
theorem A4{cs:List b7}{i:Nat}{c:b7}(h:cs[i]?=some c):cL cs i=c:=by simp[cL,List.getD,h]
inductive RW where
 |fB|lower|upper
def RW.s:RW->Str
 |.fB=>"coin"
 |.lower=>"lower"
 |.upper=>"upper"
structure dZ where
 w:RW
 x:Int
 y:Int
def dZ.d(r:dZ):D:=.tup [.str r.w.s,.int r.x,.int r.y]
def meant(cs:List b7)(w:RW)(x:Int)(i:Nat):Bool:=match w with
 |.fB=>decide ((i:Int)=x)
 |.lower=>decide ((cL cs i).lo=x)
 |.upper=>decide ((cL cs i).up=x)
def jl(cs:List b7)(w:RW)(x:Int):List Nat:=(List.range cs.length).filter (meant cs w x)
def d4(l:List Nat):List D:=l.map λ(i:Nat)=>D.int i
def pz(l:List Nat):Nat:=(l.map (2 ^ ·)).sum
def iG(n:Nat)(p:Nat->Bool):Nat:=pz ((List.range n).filter p)
theorem IG(n:Nat)(p:Nat->Bool):iG (n+1) p=iG n p+if p n=true then 2 ^ n else 0:=by
 unfold iG pz;rw[dj,de,bH,List.sum_append]
 congr 1
 cases h:p n<;>simp[List.filter_cons,h]
theorem Sj(n:Nat)(p:Nat->Bool):iG n p<2 ^ n:=by
 induction n with
 |zero=>simp[iG,pz]
 |succ n ih =>
  rw[IG,ue];split<;>omega
theorem Ll(n:Nat)(p:Nat->Bool)(i:Nat):(iG n p).testBit i=(decide (i<n)&&p i):=by
 induction n with
 |zero=>simp[iG,pz]
 |succ n ih =>
  have hl:=Sj n p;rw[IG];by_cases hp:p n=true
  ·rw[aK hp,Nat.add_comm];rcases dU i n with h|h|h
   ·rw[Nat.testBit_two_pow_add_gt h,ih,aF h,aF (by omega)]
   ·subst h;rw[Nat.testBit_two_pow_add_eq,ih];simp[hp]
   ·rw[Nat.testBit_lt_two_pow (ay (show 2 ^ n+iG n p<2 ^ (n+1) by rw[ue];omega) (zq (by omega) h)),aL (by omega)]
    rfl
  ·rw[aD hp,Nat.add_zero,ih];by_cases h:i=n
   ·subst h;simp[hp]
   ·rw[show decide (i<n)=decide (i<n+1) from bA.mpr (by omega)]
theorem Ce(a b:Nat):Builtin.bitAnd (a:Int) (b:Int)=((a &&& b:Nat):Int):=by
 unfold Builtin.bitAnd;rw[aF (Mv a),aF (Mv b)];simp
theorem Rc(a b:Nat):Builtin.bitOr (a:Int) (b:Int)=((a |||b:Nat):Int):=by
 unfold Builtin.bitOr Builtin.bitAnd;have h1:∀x:Nat,decide (0<=Builtin.bitNot (x:Int))=false:=λx=>by unfold Builtin.bitNot;exact aL (by omega)
 have h2:∀x:Nat,Builtin.bitNot (Builtin.bitNot (x:Int))=x:=λx=>by unfold Builtin.bitNot;omega
 rw[h1,h1];simp only[h2];simp
theorem YG(a b:Nat):((a &&& b:Nat)≠0)↔∃i,a.testBit i=true/\b.testBit i=true:=by
 constructor
 ·intro h;obtain⟨i,hi⟩:=Nat.exists_testBit_of_ne_zero h;rw[Nat.testBit_and,aU] at hi;exact⟨i,hi⟩
 ·rintro⟨i,h1,h2⟩ e;have:(a &&& b).testBit i=true:=by rw[Nat.testBit_and,h1,h2];rfl
  rw[e,Nat.zero_testBit] at this;cases this
theorem yD(s n:Nat)(p:Nat->Bool):((((s &&& iG n p:Nat):Int) != 0)=(List.range n).any λi=>s.testBit i&&p i):=by
 rw[bc,bne_iff_ne,bK];have:(((s &&& iG n p:Nat):Int)≠0)↔((s &&& iG n p:Nat)≠0):=by omega
 rw[this,YG];constructor
 ·rintro⟨i,h1,h2⟩;rw[Ll,aU,dq] at h2;exact⟨i,aH.mpr h2.1,by rw[h1,h2.2];rfl⟩
 ·rintro⟨i,h1,h2⟩;rw[aU] at h2;exact⟨i,h2.1,by rw[Ll,aF (aH.mp h1),h2.2];rfl⟩
def mw(a b:b7):Bool:=(decide (a.lo=b.lo)&&!oo a.lm b.lm)||(decide (a.up=b.up)&&!oo a.um b.um)
def kh(a b:b7):Bool:=decide (0<b.yr)&&decide (b.yr<a.yr)
def N9(cs:List b7)(S:Nat->Bool)(p:Nat):Bool:=(List.range cs.length).any λi=>S i&&mw (cL cs i) (cL cs p)
def Q5(cs:List b7)(S:Nat->Bool)(p:Nat):Bool:=(List.range cs.length).any λi=>S i&&kh (cL cs i) (cL cs p)
def M5(cs:List b7)(S:Nat->Bool)(p:Nat)(d:Int):Bool :=
 ((List.range cs.length).any λi=>(S i||decide (i=p))&&decide ((cL cs i).lo=d))&&((List.range cs.length).any λi=>!S i&&decide ((cL cs i).lo=d))
def su(cs:List b7)(S:Nat->Bool)(p:Nat):Nat:=((j9 (cs.map b7.lo)).filter (M5 cs S p)).length
def O1(cs:List b7)(rs:List dZ)(S:Nat->Bool)(p:Nat):Bool:=rs.all λr=>!meant cs r.w r.y p||(List.range cs.length).any λi=>S i&&meant cs r.w r.x i
def fault(cs:List b7)(v:Int)(rs:List dZ)(S:Nat->Bool)(p:Nat):Str :=
 if N9 cs S p=true then "wear" else if Q5 cs S p=true then "year" else if v<su cs S p then "anvil" else if O1 cs rs S p=true then "" else "rule"
def tI(x:Str):D:=if x="" then .bQ else .str x
theorem aH3{cs:List b7}{v:Int}{rs:List dZ}{S S':Nat->Bool}{p:Nat}(h:∀i,i<cs.length->S i=S' i):fault cs v rs S p=fault cs v rs S' p:=by
 have a:∀f:Nat->Bool->Bool,((List.range cs.length).any λi=>f i (S i))=(List.range cs.length).any λi=>f i (S' i):=λf=>by
  rw[bc,bK,bK];constructor
  ·rintro⟨i,h1,h2⟩;exact⟨i,h1,by rw[<- h i (aH.mp h1)];exact h2⟩
  ·rintro⟨i,h1,h2⟩;exact⟨i,h1,by rw[h i (aH.mp h1)];exact h2⟩
 have b1:N9 cs S p=N9 cs S' p:=a λi t=>t&&mw (cL cs i) (cL cs p);have b2:Q5 cs S p=Q5 cs S' p:=a λi t=>t&&kh (cL cs i) (cL cs p);have b3:M5 cs S p=M5 cs S' p:=by
  funext d
  unfold M5;rw[a λi t=>(t||decide (i=p))&&decide ((cL cs i).lo=d),a λi t=>!t&&decide ((cL cs i).lo=d)]
 have b4:O1 cs rs S p=O1 cs rs S' p:=by
  unfold O1
  congr 1
  funext r
  rw[a λi t=>t&&meant cs r.w r.x i]
 unfold fault su;rw[b1,b2,b3,b4]
def V1:aZ:=⟨3,4,(.seq (.ifs (.eX (.fS (.call 38 (eO bp)))) (.seq (.ret (.prim .lst .nil)) .pass) .pass) (.seq (.ifs (ff .Eq bh (iJ "coin")) (.seq (.ret (.comp [2] 3 (.one 2) (.fA (dX .len aP)) (ff .Eq bp aP) bp)) .pass) .pass) (.seq (.set 3 (.call 19 (eO bh))) (.seq (.ret (.comp [3,2] 5 (.many [3,4]) (.jS aP) (ff .Eq (df dg aP) bh) bR)) .pass))))⟩
def Cs:aZ:=⟨2,3,(.seq (.expr (.call 18 (eO aP))) (.seq (.set 2 (.call 19 (eO bh))) (.seq (.ret (.hJ [2] 3 (.one 2) (.fF aP) .no (df bp aP))) .pass)))⟩
def Dg:aZ:=⟨2,5,(.seq (.mj (.many [2,3,4]) bh) (.seq (.ifs (.kz (ff .NotIn bp (.lit (.tup [(.str "coin"),(.str "lower"),(.str "upper")]))) (ff .Eq bR dg)) (.seq (.ret (.lit (.bl false))) .pass) .pass) (.seq (.ret (.eL (cE (.cmp .NotEq) (.call 74 (gI aP bp bR)) (.prim .lst .nil)) (cE (.cmp .NotEq) (.call 74 (gI aP bp dg)) (.prim .lst .nil)))) .pass)))⟩
def W5:aZ:=⟨2,4,(.seq (.dY (.many [2,3]) (.jS bh) (.seq (.ifs (.eX (.fS (.call 88 (dE aP bR)))) (.seq (.raise "BadRule" (eO (.prim .lR (gI (iJ "rule ") (dX .fv bp) (iJ " is none for these coins"))))) .pass) .pass) .pass)) .pass)⟩
def yV:aZ:=⟨1,1,(.seq (.ret (dX .sum (.comp [] 2 (.one 1) (.fF aP) .no (cE (.bin .LShift) (bf 1) bh)))) .pass)⟩
def V0:aZ:=⟨2,2,(.seq (.ret (cE (.bin .BitOr) aP (cE (.bin .LShift) (bf 1) bh))) .pass)⟩
def Di:aZ:=⟨2,4,(.seq (.dY (.one 2) (.fF (.lit (.tup [(.str "lower"),(.str "upper")]))) (.seq (.set 3 (.call 19 (eO bp))) (.seq (.ifs (.eL (ff .Eq (df aP bR) (df bh bR)) (.eX (.fS (.call 15 (dE (df aP (cE (.bin .Add) bR (bf 1))) (df bh (cE (.bin .Add) bR (bf 1)))))))) (.seq (.ret (.lit (.bl true))) .pass) .pass) .pass))) (.seq (.ret (.lit (.bl false))) .pass))⟩
def Eg:aZ:=⟨2,2,(.seq (.ret (.chain .Lt .Lt (bf 0) (df bh (bf 4)) (df aP (bf 4)))) .pass)⟩
def W0:aZ:=⟨1,1,(.seq (.ret (.comp [0] 3 (.one 2) (.fF aP) .no (.call 90 (eO (.comp [2] 4 (.many [2,3]) (.jS aP) (.fS (.call 92 (dE bR aP))) bp))))) .pass)⟩
def T5:aZ:=⟨1,1,(.seq (.ret (.comp [0] 3 (.one 2) (.fF aP) .no (.call 90 (eO (.comp [2] 4 (.many [2,3]) (.jS aP) (.fS (.call 93 (dE bR aP))) bp))))) .pass)⟩
def Dq:aZ:=⟨1,1,(.seq (.ret (.comp [0] 3 (.one 2) (.fF (.call 20 (dE aP (iJ "lower")))) .no (.call 90 (eO (.call 74 (gI aP (iJ "lower") bp)))))) .pass)⟩
def P5:aZ:=⟨2,8,(.seq (.set 2 (.comp [] 2 (.one 1) (.fF aP) .no (.prim .lst .nil))) (.seq (.dY (.many [3,4,5]) (.fF bh) (.seq (.set 6 (.call 90 (eO (.call 74 (gI aP bR dg))))) (.seq (.dY (.one 7) (.fF (.call 74 (gI aP bR fz))) (.seq (.ifs (ff .NotIn fk (df bp je)) (.seq (.expr (.dR .append (df bp je) (eO fk))) .pass) .pass) .pass)) .pass))) (.seq (.ret bp) .pass)))⟩
def O4:aZ:=⟨3,3,(.seq (.expr (.call 18 (eO aP))) (.seq (.expr (.call 42 (eO bh))) (.seq (.expr (.call 89 (dE aP bp))) .pass)))⟩
def De:aZ:=⟨3,3,(.seq (.expr (.call 98 (gI aP bh bp))) (.seq (.ret (.make "Bounds" 113 (gI aP bh bp))) .pass))⟩
def Dr:aZ:=⟨3,5,(.seq (.set 3 (.call 91 (dE bh bp))) (.seq (.set 4 (cE (.bin .Sub) (dX (.fld "full") aP) bh)) (.seq (.ret (dX .len (.comp [4,3] 4 (.one 3) (.fF (dX (.fld "lower_dies") aP)) (.eL (.fS (cE (.bin .BitAnd) bR bh)) (.fS (cE (.bin .BitAnd) bR aP))) bR))) .pass)))⟩
def Dt:aZ:=⟨3,3,(.seq (.ifs (.fS (cE (.bin .BitAnd) bh (df (dX (.fld "worn_by_place") aP) bp))) (.seq (.ret (iJ "wear")) .pass) .pass) (.seq (.ifs (.fS (cE (.bin .BitAnd) bh (df (dX (.fld "later_by_place") aP) bp))) (.seq (.ret (iJ "year")) .pass) .pass) (.seq (.ifs (ff .Gt (.call 100 (gI aP bh bp)) (dX (.fld "room") aP)) (.seq (.ret (iJ "anvil")) .pass) .pass) (.seq (.ifs (.eX (.fS (dX .all (.comp [1] 3 (.one 2) (.fF (df (dX (.fld "needed_by_place") aP) bp)) .no (cE (.bin .BitAnd) aP bp))))) (.seq (.ret (iJ "rule")) .pass) .pass) (.seq (.ret (.lit .bQ)) .pass)))))⟩
def W7:aZ:=⟨4,4,(.seq (.ic "size" ["Bounds"] aP (dX .len bh)) (.seq (.ic "full" ["Bounds"] aP (cE (.bin .Sub) (cE (.bin .LShift) (bf 1) (dX .len bh)) (bf 1))) (.seq (.ic "room" ["Bounds"] aP bp) (.seq (.ic "worn_by_place" ["Bounds"] aP (.call 94 (eO bh))) (.seq (.ic "later_by_place" ["Bounds"] aP (.call 95 (eO bh))) (.seq (.ic "lower_dies" ["Bounds"] aP (.call 96 (eO bh))) (.seq (.ic "needed_by_place" ["Bounds"] aP (.call 97 (dE bh bR))) .pass)))))))⟩
section
variable{P:fH}{Z:S}{g:G}{Q:KD}{E:KX}{t:MT}{it c elt:ME}{d6:List Nat}{n:Nat}
theorem F7(hP:i7 P)(Sh:S->Prop)(p:Nat->Bool)(w:Nat->D){l:List D}{k:IK}(hk:∀g',Ex g g'->k.Is l g')(hl:l.length<=1000)(h0:Sh (E2 Z d6 n))(hs:∀i d Z g',l[i]?=some d->Ex g g'->Sh Z->jx t d Z λcK=>cT P c cK g' (λb g3=>b=p i/\Ex g g3/\if b=true then aS P elt cK g3 (λy g4=>y=w i/\Ex g g4/\Sh cK) jk else Sh cK) jk)(hd:∀g',Ex g g'->Q (.ref g'.length) (g'++[.lst (((List.range l.length).filter p).map w)]))(hi:∀R:IK->G->Prop,R k g->fj P it Z g R E):aS P (.comp d6 n t it c elt) Z g Q E:=by
 refine F0 hP (hi _ ?_);refine⟨l,λi ys Z g'=>Ex g g'/\ys=((List.range i).filter p).map w/\Sh Z,hl,λi ys Z g' q=>⟨hk _ q.1,?_⟩,⟨Ex.refl _,rfl,h0⟩,λi x ys Z g' hx q=>?_,λys Z g' q=>?_⟩
 ·obtain⟨_,rfl,_⟩:=q;rw[ag];exact aE (cA _ _) (by simp)
 ·obtain⟨e1,rfl,sh⟩:=q;refine v9 (λcK q=>p6 hP c _ _ _ _ _ _ (λb g3 q=>?_) (λ_ _ z=>z) q) (hs i x Z g' hx e1 sh);obtain⟨rfl,e3,q⟩:=q;have ef:((List.range (i+1)).filter p).map w=((List.range i).filter p).map w++if p i=true then[w i] else[]:=by
   rw[dj,de,bH]
   congr 1
   cases z:p i<;>simp only[List.filter_cons,z,List.filter_nil]<;>rfl
  cases hp:p i with
  |true =>
   rw[hp] at q ef;rw[aK rfl] at q ⊢;refine b9 hP elt _ _ _ _ _ _ (λy g4 q=>?_) (λ_ _ z=>z) q;obtain⟨rfl,e4,sh⟩:=q;exact⟨e4,by rw[ef];rfl,sh⟩
  |false =>
   rw[hp] at q ef;rw[aD (by decide)] at q ⊢;exact⟨e3,by rw[ef];simp,q⟩
 ·obtain⟨e1,rfl,sh⟩:=q;exact hd g' e1
theorem comp_map(hP:i7 P)(Sh:S->Prop)(w:Nat->D){l:List D}{k:IK}(hk:∀g',Ex g g'->k.Is l g')(hl:l.length<=1000)(h0:Sh (E2 Z d6 n))(hs:∀i d Z g',l[i]?=some d->Ex g g'->Sh Z->jx t d Z λcK=>aS P elt cK g' (λy g4=>y=w i/\Ex g g4/\Sh cK) jk)(hd:∀g',Ex g g'->Q (.ref g'.length) (g'++[.lst ((List.range l.length).map w)]))(hi:∀R:IK->G->Prop,R k g->fj P it Z g R E):aS P (.comp d6 n t it .no elt) Z g Q E:=by
 refine F7 hP Sh (λ_=>true) w hk hl h0 (λi d Z g' hx e sh=>v9 (λcK q=>DT ⟨rfl,e,?_⟩) (hs i d Z g' hx e sh)) (λg' e=>?_) hi
 ·exact nr q
 ·have:=hd g' e
  rwa [show(List.range l.length).filter (λ_=>true)=List.range l.length from jD.mpr λ_ _=>rfl]
theorem qi(hP:i7 P){a:Nat}{l:List D}{o:ME}(hl:d0 g a=some l)(h:∀Q:KD,Q (.ref a) g->aS P o Z g Q E):∀R:IK->G->Prop,R (.lst a) g->fj P (.fF o) Z g R E:=λR r=>kL hP (h _ ⟨a,l,rfl,hl,r⟩)
theorem Ep{a:Nat}{l:List D}{o:ME}(hl:d0 g a=some l)(h:∀Q:KD,Q (.ref a) g->aS P o Z g Q E):∀R:IK->G->Prop,R (.oO a) g->fj P (.jS o) Z g R E:=λR r=>sY (h _ ⟨a,l,rfl,hl,r⟩)
theorem HB(hP:i7 P){j:Nat}{o:ME}(hj:j<=1000)(h:∀Q:KD,Q (.int (j:Nat)) g->aS P o Z g Q E):∀R:IK->G->Prop,R (.fix (k8 0 j)) g->fj P (.fA o) Z g R E:=λR r=>qh hP (h _ ⟨j,rfl,by omega,by omega,by simpa using r⟩)
end
theorem Lz(l:List Nat):d4 l=(l.map λ(i:Nat)=>(i:Int)).map D.int:=by simp[d4]
structure TB0(T:Nat->Option aZ):Prop where
 nf:NF T
 h2:T 2=some C9
 nG:T 12=some A7
 mD:EH T
 hX:sG T
 oG:T 15=some yL
 xW:T 20=some Cs
 rF:T 74=some V1
 Pf:T 88=some Dg
 Pe:T 89=some W5
 tG:T 90=some yV
 nY:T 91=some V0
 Pd:T 92=some Di
 Pc:T 93=some Eg
 Pb:T 94=some W0
 Pa:T 95=some T5
 OZ:T 96=some Dq
 xV:T 97=some P5
 Bp:T 100=some Dr
 Bo:T 101=some Dt
 Bk:T 113=some W7
structure TB(T:Nat->Option aZ):Prop extends TB0 T where
 vJ:T 42=some F4
 Bc:T 98=some O4
 OY:T 99=some De
instance{T:Nat->Option aZ}:CoeOut (TB T) (TB0 T):=⟨TB.toTB0⟩
section
variable{T:Nat->Option aZ}{k d:Nat}{g g':G}{Q:KD}{E:KX}{a p:Nat}{cs:List b7}
theorem Zh(h1:NF T)(vJ:T 42=some F4){i:Int}(h:1<=i->i<=9->Q .bQ g)(hn:¬(1<=i/\i<=9)->E ⟨"BadAnvils"⟩ g):c8 T (k+3) 42 [.int i] g Q E:=by
 refine call_of vJ rfl ?_;dsimp[F4,d7,List.replicate];walk_at"";refine w5 (k:=k) h1 ?_;walk_at"";by_cases hi:1<=i/\i<=9
 ·rw[aF hi.1,aF hi.2];walk_at"";exact h hi.1 hi.2
 ·have:(decide (1<=i)&&decide (i<=9))=false:=by
   rw[xh,cI,cI];omega
  rw[this];walk_at"";exact hn hi
theorem O8(h1:NF T)(hX:sG T)(rF:T 74=some V1){w:RW}{x:Int}(ha:g[a]?=some (.lst (cs.map b7.d)))(hz:cs.length<=1000)(h:∀g' b,Ex g g'->g.length<=b->g'[b]?=some (.lst (d4 (jl cs w x)))->Q (.ref b) g'):c8 T (k+3) 74 [.ref a,.str w.s,.int x] g Q E:=by
 refine call_of rF rfl ?_;dsimp[V1,d7,List.replicate];walk_at"";refine J' (k:=k+1) h1 ?_;walk_at"";have fld:∀f:Int,(f=0\/f=2)->(∀i c,cs[i]?=some c->meant cs w x i=decide (qf f c=x))->aS (c8 T (k+2)) (.comp [3,2] 5 (.many [3,4]) (.jS (.var 0)) (.fS (.prim (.cmp .Eq) (.cons (.prim .ix (.cons (.var 4) (.cons (.var 0) .nil))) (.cons (.var 1) .nil)))) (.var 3)) [some (.ref a),some (.str w.s),some (.int x),some (.int f)] g Q E:=λf hf hm=>by
  refine F7 (b0 T _) (λZ=>∃z2 z3 z4,Z=[some (.int f),some (.int x),z2,z3,z4]) (meant cs w x) (λi=>.int (i:Nat)) (l:=kR (cs.map b7.d)) (λg' e=>T8 (a8 (e.at ha))) (by rw[C5];simpa using hz) ⟨none,none,none,rfl⟩ (λi d Z g' hx e sh=>?_) (λg' e=>?_) (Ep (a8 ha) λQ q=>w_var (d:=.ref a) rfl q)
  ·obtain⟨z2,z3,z4,rfl⟩:=sh;obtain⟨dd,hd,rfl⟩:=N1 hx;rw[ai,aa] at hd;obtain⟨c,hc,rfl⟩:=hd;refine A9 rfl ?_
   try show cT _ _ _ _ _ _
   walk_at"";refine B4 (LZ hf c) ?_;walk_at"";rw[hm i c hc];refine⟨rfl,e,?_⟩;refine if2 (λ_=>?_) (λ_=>?_)
   ·walk_at"";exact⟨rfl,e,_,_,_,rfl⟩
   ·exact⟨_,_,_,rfl⟩
  ·rw[C5,ag];exact h _ _ (e.trans (Ex.snoc _ _)) e.len b8
 cases w with
 |fB =>
  refine ik (by decide +kernel) ?_;walk_at"";refine F7 (b0 T _) (λZ=>∃z1 z2,Z=[some (.int x),z1,z2]) (meant cs .fB x) (λi=>.int (i:Nat)) (l:=k8 0 cs.length) (λg' e=>B5) (by rw[q8];exact hz) ⟨none,none,rfl⟩ (λi d Z g' hx e sh=>?_) (λg' e=>?_) (HB (b0 T _) hz λQ q=>?_)
  ·obtain⟨z2,z3,rfl⟩:=sh;obtain⟨hi,rfl⟩:=G0 hx;rw[kE];refine m5 ?_
   try show cT _ _ _ _ _ _
   walk_at"";refine⟨rfl,e,?_⟩;refine if2 (λ_=>?_) (λ_=>?_)
   ·walk_at"";exact⟨rfl,e,_,_,rfl⟩
   ·exact⟨_,_,rfl⟩
  ·rw[q8];exact h _ _ (e.trans (Ex.snoc _ _)) e.len b8
  ·walk_at"";rw[ag];exact q
 |lower =>
  refine gG (by decide +kernel) ?_;walk_at"";refine v5 (k:=k) hX (by decide +kernel) (λ_=>?_) (λz=>absurd z (by decide +kernel)) (λz=>absurd rfl z);walk_at"";exact fld 0 (.inl rfl) λi c hc=>by simp only[meant,A4 hc];rfl
 |upper =>
  refine gG (by decide +kernel) ?_;walk_at"";refine v5 (k:=k) hX (by decide +kernel) (λz=>absurd z (by decide +kernel)) (λ_=>?_) (λ_ z=>absurd rfl z);walk_at"";exact fld 2 (.inr rfl) λi c hc=>by simp only[meant,A4 hc];rfl
theorem O0(tG:T 90=some yV){l:List Nat}(ha:g[a]?=some (.lst (d4 l)))(hz:l.length<=1000)(hl:∀i∈l,i<=1000)(h:∀g',Ex g g'->Q (.int (pz l:Nat)) g'):c8 T (k+1) 90 [.ref a] g Q E:=by
 refine call_of tG rfl ?_;dsimp[yV,d7,List.replicate];walk_at"";refine comp_map (b0 T _) (λZ=>∃z0 z1,Z=[z0,z1]) (λi=>.int ((2 ^ (l.getD i 0):Nat):Int)) (l:=d4 l) (k:=.lst a) (λg' e=>s9 (a8 (e.at ha))) (by simpa[d4] using hz) ⟨none,none,rfl⟩ (λi d Z g' hx e sh=>?_) (λg' e=>?_) (qi (b0 T _) (a8 ha) λQ q=>w_var (d:=.ref a) rfl q)
 ·obtain⟨z0,z1,rfl⟩:=sh;rw[d4,ai,aa] at hx;obtain⟨j,hj,rfl⟩:=hx;refine m5 ?_
  try show aS _ _ _ _ _ _
  walk_at"";have:=hl j (aJ hj);refine Dy ⟨by omega,by omega,by decide⟩ ?_;refine⟨?_,e,_,_,rfl⟩;simp[List.getD,hj]
 ·refine Ir (ns:=(List.range l.length).map λi=>((2 ^ (l.getD i 0):Nat):Int)) (a8 (by rw[bu];simpa[d4] using b8)) ?_;have:((List.range l.length).map λi=>((2 ^ (l.getD i 0):Nat):Int)).sum=(pz l:Nat):=by
   have e2:(List.range l.length).map (λi=>((2 ^ (l.getD i 0):Nat):Int))=(l.map (2 ^ ·)).map λ(n:Nat)=>(n:Int):=by
    refine fi λi=>?_;rw[ai,ai,ai];by_cases hi:i<l.length
    ·rw[cW hi,ah hi];simp[List.getD,hi]
    ·rw[ba (by simpa using hi),ba (by omega)]
     rfl
   rw[e2];unfold pz;generalize l.map (2 ^ ·)=m
   induction m with
   |nil=>rfl
   |cons x r ih=>simp[ih]
  rw[this];exact h _ (e.trans (Ex.snoc _ _))
theorem w6(nY:T 91=some V0){s p:Nat}(hp:p<=1000)(h:Q (.int ((s |||2 ^ p:Nat):Int)) g):c8 T (k+1) 91 [.int (s:Nat),.int (p:Nat)] g Q E:=by
 refine call_of nY rfl ?_;dsimp[V0,d7,List.replicate];walk_at"";refine Dy ⟨by omega,by omega,by decide⟩ ?_;walk_at"";refine Vk ?_;have e:(1:Int)*2 ^ ((p:Nat):Int).toNat=((2 ^ p:Nat):Int):=by simp
 rw[e,Rc];exact h
end
section
variable{T:Nat->Option aZ}{k d:Nat}{g g':G}{Q:KD}{E:KX}{a p:Nat}{cs:List b7}
theorem Ky{c:b7}(h:CB c):c.lm.length<=1000/\c.um.length<=1000:=⟨aE h.1 (by decide),aE h.2 (by decide)⟩
theorem aB8(hT:TB0 T){c e:b7}(hc:CB c)(h:∀g',Ex g g'->Q (.bl (mw c e)) g'):c8 T (k+3) 92 [c.d,e.d] g Q E:=by
 refine call_of hT.Pd rfl ?_;dsimp[Di,d7,List.replicate];walk_at"";refine x8 (b0 T _) (xF (b0 T _) ?_);walk_at"";refine⟨_,rfl,_,λi Z g'=>Ex g g'/\(∃z2 z3,Z=[some c.d,some e.d,z2,z3])/\(1<=i->(decide (c.lo=e.lo)&&!oo c.lm e.lm)=false)/\(2<=i->(decide (c.up=e.up)&&!oo c.um e.um)=false),λ_ _ _ _=>B5,⟨Ex.refl _,⟨none,none,rfl⟩,λz=>absurd z (by omega),λz=>absurd z (by omega)⟩,λi x Z g' hx q=>?_,λZ g' q=>?_⟩
 ·obtain⟨e1,⟨z2,z3,rfl⟩,q1,q2⟩:=q;refine m5 ?_
  try show wpS _ _ _ _ _ _
  match i,hx with
  |0,hx =>
   cases hx;walk_at"";refine v5 (k:=k) hT.hX (by decide +kernel) (λ_=>?_) (λz=>absurd z (by decide +kernel)) (λz=>absurd rfl z);walk_at"";refine B4 (l:=[.int c.lo,.tup (c.lm.map .int),.int c.up,.tup (c.um.map .int),.int c.yr]) rfl ?_;walk_at"";refine B4 (l:=[.int e.lo,.tup (e.lm.map .int),.int e.up,.tup (e.um.map .int),.int e.yr]) rfl ?_;walk_at"";refine if2 (λh1=>?_) (λh1=>?_)
   ·walk_at"";refine B4 (l:=[.int c.lo,.tup (c.lm.map .int),.int c.up,.tup (c.um.map .int),.int c.yr]) rfl ?_;walk_at"";refine B4 (l:=[.int e.lo,.tup (e.lm.map .int),.int e.up,.tup (e.um.map .int),.int e.yr]) rfl ?_;walk_at"";refine Jq (k:=k+1) hT.oG (Ky hc).1 λg2 e2=>?_;walk_at"";cases hw:oo c.lm e.lm with
    |false =>
     walk_at"";have:mw c e=true:=by unfold mw;rw[aF h1,hw];rfl
     rw[<- this];exact h _ (e1.trans e2)
    |true =>
     walk_at"";exact⟨e1.trans e2,⟨_,_,rfl⟩,λ_=>by rw[aF h1];rfl,λz=>absurd z (by omega)⟩
   ·walk_at"";exact⟨e1,⟨_,_,rfl⟩,λ_=>by rw[aL h1];rfl,λz=>absurd z (by omega)⟩
  |1,hx =>
   cases hx;walk_at"";refine v5 (k:=k) hT.hX (by decide +kernel) (λz=>absurd z (by decide +kernel)) (λ_=>?_) (λ_ z=>absurd rfl z);walk_at"";refine B4 (l:=[.int c.lo,.tup (c.lm.map .int),.int c.up,.tup (c.um.map .int),.int c.yr]) rfl ?_;walk_at"";refine B4 (l:=[.int e.lo,.tup (e.lm.map .int),.int e.up,.tup (e.um.map .int),.int e.yr]) rfl ?_;walk_at"";refine if2 (λh1=>?_) (λh1=>?_)
   ·walk_at"";refine B4 (l:=[.int c.lo,.tup (c.lm.map .int),.int c.up,.tup (c.um.map .int),.int c.yr]) rfl ?_;walk_at"";refine B4 (l:=[.int e.lo,.tup (e.lm.map .int),.int e.up,.tup (e.um.map .int),.int e.yr]) rfl ?_;walk_at"";refine Jq (k:=k+1) hT.oG (Ky hc).2 λg2 e2=>?_;walk_at"";cases hw:oo c.um e.um with
    |false =>
     walk_at"";have:mw c e=true:=by unfold mw;rw[aF h1,hw];simp
     rw[<- this];exact h _ (e1.trans e2)
    |true =>
     walk_at"";exact⟨e1.trans e2,⟨_,_,rfl⟩,λ_=>q1 (by omega),λ_=>by rw[aF h1];rfl⟩
   ·walk_at"";exact⟨e1,⟨_,_,rfl⟩,λ_=>q1 (by omega),λ_=>by rw[aL h1];rfl⟩
  |i+2,hx=>simp at hx
 ·obtain⟨e1,⟨z2,z3,rfl⟩,q1,q2⟩:=q
  try show wpS _ _ _ _ _ _
  walk_at"";have:mw c e=false:=by unfold mw;rw[q1 (by decide),q2 (by decide)];rfl
  rw[<- this];exact h _ e1
theorem a89(hT:TB0 T){c e:b7}(h:Q (.bl (kh c e)) g):c8 T (k+1) 93 [c.d,e.d] g Q E:=by
 refine call_of hT.Pc rfl ?_;dsimp[Eg,d7,List.replicate];walk_at"";refine B4 (l:=[.int e.lo,.tup (e.lm.map .int),.int e.up,.tup (e.um.map .int),.int e.yr]) rfl ?_;walk_at"";refine if2 (λh1=>?_) (λh1=>?_)
 ·walk_at"";refine B4 (l:=[.int c.lo,.tup (c.lm.map .int),.int c.up,.tup (c.um.map .int),.int c.yr]) rfl ?_;walk_at"";have:kh c e=decide (e.yr<c.yr):=by unfold kh;rw[aF h1];rfl
  rw[<- this];exact h
 ·have:kh c e=false:=by unfold kh;rw[aL h1];rfl
  rw[<- this];exact h
def sT(cs:List b7)(q:b7->b7->Bool):List D:=(List.range cs.length).map λi=>.int ((iG cs.length λj=>q (cL cs j) (cL cs i):Nat):Int)
theorem wF{cs:List b7}{q:Nat->Bool}:∀i∈(List.range cs.length).filter q,i<cs.length:=λi hi=>aH.mp (aT.mp hi).1
theorem U1{n:Nat}{q:Nat->Bool}:((List.range n).filter q).length<=n:=aE (cA _ _) (by simp)
theorem Vb(hT:TB0 T)(ha:g[a]?=some (.lst (cs.map b7.d)))(hz:cs.length<=9)(hB:∀c∈cs,CB c)(h:∀g' b,Ex g g'->g.length<=b->g'[b]?=some (.lst (sT cs mw))->Q (.ref b) g'):c8 T (k+4) 94 [.ref a] g Q E:=by
 refine call_of hT.Pb rfl ?_;dsimp[W0,d7,List.replicate];walk_at"";refine comp_map (b0 T _) (λZ=>∃z1 z2,Z=[some (.ref a),z1,z2]) (λi=>.int ((iG cs.length λj=>mw (cL cs j) (cL cs i):Nat):Int)) (l:=cs.map b7.d) (k:=.lst a) (λg' e=>s9 (a8 (e.at ha))) (by simp;omega) ⟨none,none,rfl⟩ (λi d Z g' hx e sh=>?_) (λg' e=>?_) (qi (b0 T _) (a8 ha) λQ q=>w_var (d:=.ref a) rfl q)
 ·obtain⟨z1,z2,rfl⟩:=sh;rw[ai,aa] at hx;obtain⟨c,hc,rfl⟩:=hx;refine m5 ?_
  try show aS _ _ _ _ _ _
  walk_at"";refine F7 (b0 T _) (λZ=>∃z1 z2 z3,Z=[some c.d,z1,z2,z3]) (λj=>mw (cL cs j) (cL cs i)) (λi=>.int (i:Nat)) (l:=kR (cs.map b7.d)) (k:=.oO a) (λg2 e2=>T8 (a8 ((e.trans e2).at ha))) (by rw[C5];simp;omega) ⟨none,none,none,rfl⟩ (λj d Z g2 hx e2 sh=>?_) (λg2 e2=>?_) (Ep (a8 (e.at ha)) λQ q=>w_var (d:=.ref a) rfl q)
  ·obtain⟨z1,z2,z3,rfl⟩:=sh;obtain⟨dd,hd,rfl⟩:=N1 hx;rw[ai,aa] at hd;obtain⟨c',ji,rfl⟩:=hd;refine A9 rfl ?_
   try show cT _ _ _ _ _ _
   walk_at"";refine aB8 (k:=k) hT (hB c' (aJ ji)) λg3 e3=>?_;walk_at"";refine⟨by simp only[A4 ji,A4 hc],e2.trans e3,?_⟩;cases mw c' c with
   |true =>
    refine ik rfl ?_;walk_at"";exact⟨rfl,e2.trans e3,_,_,_,rfl⟩
   |false=>exact gG rfl ⟨_,_,_,rfl⟩
  ·walk_at"";refine O0 (k:=k+2) hT.tG (l:=(List.range cs.length).filter λj=>mw (cL cs j) (cL cs i)) (by have:=b8 (g:=g2) (o:=.lst (((List.range (kR (cs.map b7.d)).length).filter λj=>mw (cL cs j) (cL cs i)).map λi=>D.int (i:Nat)));rw[C5,ag] at this ⊢;exact this) (aE U1 (by omega)) (λj hj=>by have:=wF j hj;omega) λg3 e3=>?_;exact⟨rfl,(e.trans (e2.trans (Ex.snoc _ _))).trans e3,_,_,rfl⟩
 ·refine h _ _ (e.trans (Ex.snoc _ _)) e.len ?_;rw[b8,ag]
  rfl
theorem ZC(hT:TB0 T)(ha:g[a]?=some (.lst (cs.map b7.d)))(hz:cs.length<=9)(h:∀g' b,Ex g g'->g.length<=b->g'[b]?=some (.lst (sT cs kh))->Q (.ref b) g'):c8 T (k+4) 95 [.ref a] g Q E:=by
 refine call_of hT.Pa rfl ?_;dsimp[T5,d7,List.replicate];walk_at"";refine comp_map (b0 T _) (λZ=>∃z1 z2,Z=[some (.ref a),z1,z2]) (λi=>.int ((iG cs.length λj=>kh (cL cs j) (cL cs i):Nat):Int)) (l:=cs.map b7.d) (k:=.lst a) (λg' e=>s9 (a8 (e.at ha))) (by simp;omega) ⟨none,none,rfl⟩ (λi d Z g' hx e sh=>?_) (λg' e=>?_) (qi (b0 T _) (a8 ha) λQ q=>w_var (d:=.ref a) rfl q)
 ·obtain⟨z1,z2,rfl⟩:=sh;rw[ai,aa] at hx;obtain⟨c,hc,rfl⟩:=hx;refine m5 ?_
  try show aS _ _ _ _ _ _
  walk_at"";refine F7 (b0 T _) (λZ=>∃z1 z2 z3,Z=[some c.d,z1,z2,z3]) (λj=>kh (cL cs j) (cL cs i)) (λi=>.int (i:Nat)) (l:=kR (cs.map b7.d)) (k:=.oO a) (λg2 e2=>T8 (a8 ((e.trans e2).at ha))) (by rw[C5];simp;omega) ⟨none,none,none,rfl⟩ (λj d Z g2 hx e2 sh=>?_) (λg2 e2=>?_) (Ep (a8 (e.at ha)) λQ q=>w_var (d:=.ref a) rfl q)
  ·obtain⟨z1,z2,z3,rfl⟩:=sh;obtain⟨dd,hd,rfl⟩:=N1 hx;rw[ai,aa] at hd;obtain⟨c',ji,rfl⟩:=hd;refine A9 rfl ?_
   try show cT _ _ _ _ _ _
   walk_at"";refine a89 (k:=k+2) hT ?_;walk_at"";refine⟨by simp only[A4 ji,A4 hc],e2,?_⟩;cases kh c' c with
   |true =>
    refine ik rfl ?_;walk_at"";exact⟨rfl,e2,_,_,_,rfl⟩
   |false=>exact gG rfl ⟨_,_,_,rfl⟩
  ·walk_at"";refine O0 (k:=k+2) hT.tG (l:=(List.range cs.length).filter λj=>kh (cL cs j) (cL cs i)) (by have:=b8 (g:=g2) (o:=.lst (((List.range (kR (cs.map b7.d)).length).filter λj=>kh (cL cs j) (cL cs i)).map λi=>D.int (i:Nat)));rw[C5,ag] at this ⊢;exact this) (aE U1 (by omega)) (λj hj=>by have:=wF j hj;omega) λg3 e3=>?_;exact⟨rfl,(e.trans (e2.trans (Ex.snoc _ _))).trans e3,_,_,rfl⟩
 ·refine h _ _ (e.trans (Ex.snoc _ _)) e.len ?_;rw[b8,ag]
  rfl
theorem a98(hT:TB0 T)(ha:g[a]?=some (.lst (cs.map b7.d)))(hz:cs.length<=9)(hg:cs.all p0=true)(h:Q (.ref g.length) (g++[.lst ((j9 (cs.map b7.lo)).map .int)])):c8 T (k+7) 20 [.ref a,.str "lower"] g Q E:=by
 refine call_of hT.xW rfl ?_;dsimp[Cs,d7,List.replicate];walk_at"";refine N4 (k:=k) hT.nf hT.h2 hT.nG hT.mD ha (by omega) (λz=>by omega) (λ_ z=>by rw[hg] at z;cases z) λ_ _=>?_;walk_at"";refine v5 (k:=k+4) hT.hX (by decide +kernel) (λ_=>?_) (λz=>absurd z (by decide +kernel)) (λz=>absurd rfl z);walk_at"";refine UY (b0 T _) (kL (b0 T _) ?_);walk_at"";refine⟨a,_,rfl,a8 ha,cs.map b7.d,λi ys Z g'=>∃z w,ys=(cs.take i).map b7.lo/\Z=[some (.int 0),z,w]/\g'=g,by simp;omega,λi ys Z g' p=>?_,⟨none,none,rfl,rfl,rfl⟩,λi c ys Z g' hx p=>?_,λys Z g' p=>?_⟩
 ·obtain⟨z,w,rfl,rfl,rfl⟩:=p;exact⟨s9 (a8 ha),by simp;omega⟩
 ·obtain⟨z,w,rfl,rfl,rfl⟩:=p;rw[ai,aa] at hx;obtain⟨c,hc,rfl⟩:=hx;show cT _ _ _ _ _ _;walk_at"";refine B4 (l:=[.int c.lo,.tup (c.lm.map .int),.int c.up,.tup (c.um.map .int),.int c.yr]) rfl ?_;refine⟨_,rfl,_,_,?_,rfl,rfl⟩;rw[bx,hc];simp
 ·obtain⟨z,w,rfl,rfl,rfl⟩:=p;rw[ag,bJ];exact h
def X3(cs:List b7):List D:=(j9 (cs.map b7.lo)).map λd=>.int ((iG cs.length (meant cs .lower d):Nat):Int)
theorem YU(hT:TB0 T)(ha:g[a]?=some (.lst (cs.map b7.d)))(hz:cs.length<=9)(hg:cs.all p0=true)(h:∀g' b,Ex g g'->g.length<=b->g'[b]?=some (.lst (X3 cs))->Q (.ref b) g'):c8 T (k+8) 96 [.ref a] g Q E:=by
 refine call_of hT.OZ rfl ?_;dsimp[Dq,d7,List.replicate];walk_at"";have oB:(j9 (cs.map b7.lo)).length<=9:=aE (O7 _) (by simpa using hz);unfold X3 at h;refine F0 (b0 T _) (kL (b0 T _) ?_);walk_at"";refine a98 (k:=k) hT ha hz hg ?_;have e0:=Ex.snoc g (O.lst ((j9 (cs.map b7.lo)).map .int));have hb:=b8 (g:=g) (o:=O.lst ((j9 (cs.map b7.lo)).map .int));generalize j9 (cs.map b7.lo)=ds at *;generalize g++[O.lst (ds.map .int)]=g1 at *;refine⟨_,_,rfl,a8 hb,ds.map .int,λi ys Z g'=>Ex g1 g'/\ys=(ds.take i).map (λd=>.int ((iG cs.length (meant cs .lower d):Nat):Int))/\∃z1 z2,Z=[some (.ref a),z1,z2],by simp;omega,λi ys Z g' q=>⟨s9 (a8 (q.1.at hb)),?_⟩,⟨Ex.refl _,rfl,none,none,rfl⟩,λi x ys Z g' hx q=>?_,λys Z g' q=>?_⟩
 ·obtain⟨_,rfl,_⟩:=q;simp;omega
 ·obtain⟨e1,rfl,z1,z2,rfl⟩:=q;rw[ai,aa] at hx;obtain⟨dd,hd,rfl⟩:=hx;refine m5 ?_
  try show cT _ _ _ _ _ _
  walk_at"";refine O8 (k:=k+4) hT.nf hT.hX hT.rF (w:=.lower) ((e0.trans e1).at ha) (by omega) λg2 b2 e2 _ vC=>?_;walk_at"";refine O0 (k:=k+6) hT.tG vC (aE U1 (by omega)) (λj hj=>by have:=wF j hj;omega) λg3 e3=>?_;refine⟨e1.trans (e2.trans e3),?_,_,_,rfl⟩;rw[bx,hd];simp[iG,jl]
 ·obtain⟨e1,rfl,z1,z2,rfl⟩:=q;rw[ag,bJ];exact h _ _ (e0.trans (e1.trans (Ex.snoc _ _))) (aE e0.len e1.len) b8
end
theorem Jc{g:G}{a:Nat}{ms:List Int}{i:Int}{k:Bool->Prop}(ha:d0 g a=some (ms.map .int))(h:k (ms.any λm=>m==i)):qV g (.int i) (.ref a) k:=by
 refine⟨_,.inr ⟨_,_,_,ha,P1 ms,rfl,lay_ints ms,by simp[PyData.canLay0],rfl⟩,?_⟩;rw[List.any_map];exact h
theorem Ti{g:G}{a:Nat}{l:List Nat}{i:Nat}{k:Bool->Prop}(ha:g[a]?=some (.lst (d4 l)))(h:k (decide (i∈l))):qV g (.int (i:Nat)) (.ref a) k:=by
 refine Jc (ms:=l.map λ(i:Nat)=>(i:Int)) (by rw[<- Lz];exact a8 ha) ?_;have:((l.map λ(i:Nat)=>(i:Int)).any λm=>m==(i:Int))=decide (i∈l):=by
  rw[bc,bK,dq];constructor
  ·rintro⟨x,hx,e⟩;obtain⟨j,hj,rfl⟩:=aM.mp hx;rw[fb] at e;rw[show i=j by omega];exact hj
  ·exact λhi=>⟨_,aM.mpr ⟨i,hi,rfl⟩,by simp⟩
 rw[this];exact h
structure nP(g:G)(nb lo n:Nat)(B:Nat->Nat)(F:Nat->Nat->Prop):Prop where
 ex:∃as:List Nat,g[nb]?=some (.lst (as.map .ref))/\as.length=n/\as.Nodup/\(∀a∈as,lo<=a/\a≠nb)/\∀i a,as[i]?=some a->∃ms:List Nat,g[a]?=some (.lst (d4 ms))/\ms.length<=B i/\∀m,m∈ms↔F i m
theorem nP.at{g g':G}{nb lo n:Nat}{B:Nat->Nat}{F:Nat->Nat->Prop}(h:nP g nb lo n B F)(e:Ex g g'):nP g' nb lo n B F:=by
 obtain⟨as,h1,h2,h3,h4,h5⟩:=h.ex;refine⟨⟨as,e.at h1,h2,h3,h4,λi a hi=>?_⟩⟩;obtain⟨ms,m1,m2⟩:=h5 i a hi;exact⟨ms,e.at m1,m2⟩
theorem nP.imp{g:G}{nb lo n:Nat}{B B':Nat->Nat}{F F':Nat->Nat->Prop}(h:nP g nb lo n B F)(hB:∀i,i<n->B i<=B' i)(hF:∀i m,i<n->(F i m↔F' i m)):nP g nb lo n B' F' :=
 let ⟨as,h1,h2,h3,h4,h5⟩:=h.ex
 ⟨⟨as,h1,h2,h3,h4,λi a hi=>let ⟨ms,m1,m2,m3⟩:=h5 i a hi
  have iy:i<n:=by rw[<- h2];exact(aj.mp hi).1
  ⟨ms,m1,aE m2 (hB i iy),λm=>(m3 m).trans (hF i m iy)⟩⟩⟩
def tY(cs:List b7)(rs:List dZ)(i m:Nat):Prop:=∃r∈rs,meant cs r.w r.y i=true/\m=iG cs.length (meant cs r.w r.x)
def t8(rs:List dZ):List D:=rs.map dZ.d
theorem Jk{α:Type}{l:List α}(h:l.Nodup){i j:Nat}{a:α}(hi:l[i]?=some a)(hj:l[j]?=some a):i=j:=by
 obtain⟨h1,e1⟩:=aj.mp hi;obtain⟨h2,e2⟩:=aj.mp hj;exact(ib h).mp (e1.trans e2.symm)
section
variable{T:Nat->Option aZ}{k d:Nat}{g g':G}{Q:KD}{E:KX}{a c p:Nat}{cs:List b7}{rs:List dZ}
theorem ZJ(hT:TB0 T)(ha:g[a]?=some (.lst (cs.map b7.d)))(hz:cs.length<=9)(hc:g[c]?=some (.lst (t8 rs)))(hr:rs.length<=900)(h:∀g' b,Ex g g'->g.length<=b->nP g' b g.length cs.length (λ_=>rs.length) (tY cs rs)->Q (.ref b) g'):c8 T (k+4) 97 [.ref a,.ref c] g Q E:=by
 refine call_of hT.xV rfl ?_;dsimp[P5,d7,List.replicate];walk_at"";refine F0 (b0 T _) (kL (b0 T _) ?_);walk_at"";refine⟨a,_,rfl,a8 ha,cs.map b7.d,λi ys Z g'=>Ex g g'/\(∃as:List Nat,ys=as.map .ref/\as.length=i/\as.Nodup/\∀b∈as,g.length<=b/\g'[b]?=some (.lst []))/\∃z0 z1,Z=[z0,z1],by simp;omega,λi ys Z g' q=>⟨s9 (a8 (q.1.at ha)),?_⟩,⟨Ex.refl _,⟨[],rfl,rfl,by simp,by simp⟩,none,none,rfl⟩,λi x ys Z g' hx q=>?_,λys Z g' q=>?_⟩
 ·obtain⟨_,⟨as,rfl,rfl,_⟩,_⟩:=q;simp
 ·obtain⟨e1,⟨as,rfl,hl,nd,hA⟩,z0,z1,rfl⟩:=q;refine m5 ?_
  try show cT _ _ _ _ _ _
  walk_at"";refine⟨e1.trans (Ex.snoc _ _),⟨as++[g'.length],by simp,by simp[hl],?_,λb hb=>?_⟩,_,_,rfl⟩
  ·rw[cw];exact⟨nd,by simp,λx hx y hy=>by cases aR.mp hy;exact aN (k6 (hA x hx).2)⟩
  ·rcases aV.mp hb with hb|hb
   ·exact⟨(hA b hb).1,(Ex.snoc _ _).at (hA b hb).2⟩
   ·cases aR.mp hb;exact⟨e1.len,b8⟩
 ·obtain⟨e1,⟨as,rfl,hl,nd,hA⟩,z0,z1,rfl⟩:=q;rw[ag] at hl;walk_at"";have e2:=e1.trans (Ex.snoc g' (O.lst (as.map D.ref)));have lo:=e1.len;have N0:nP (g'++[O.lst (as.map D.ref)]) g'.length g.length cs.length (λ_=>0) (tY cs []):=⟨⟨as,b8,hl,nd,λb hb=>⟨(hA b hb).1,aN (k6 (hA b hb).2)⟩,λi b hb=>⟨[],(Ex.snoc _ _).at (hA b (aJ hb)).2,by simp,λm=>⟨λz=>absurd z (by simp),λ⟨r,hr,_⟩=>absurd hr (by simp)⟩⟩⟩⟩
  generalize g'++[O.lst (as.map D.ref)]=g1 at *;generalize g'.length=nb at *;refine x8 (b0 T _) (kL (b0 T _) ?_);walk_at"";refine⟨c,_,rfl,a8 (e2.at hc),t8 rs,λi Z g'=>Ex g g'/\nP g' nb g.length cs.length (λ_=>i) (tY cs (rs.take i))/\∃z3 z4 z5 z6 z7,Z=[some (.ref a),some (.ref c),some (.ref nb),z3,z4,z5,z6,z7],λi Z g' q=>s9 (a8 (q.1.at hc)),⟨e2,N0,none,none,none,none,none,rfl⟩,λi x Z g' hx q=>?_,λZ g' q=>?_⟩
  ·obtain⟨e3,N3,z3,z4,z5,z6,z7,rfl⟩:=q;rw[t8,ai,aa] at hx;obtain⟨r,my,rfl⟩:=hx;have hi:i<rs.length:=(aj.mp my).1;refine A9 (l:=[.str r.w.s,.int r.x,.int r.y]) rfl ?_
   try show wpS _ _ _ _ _ _
   walk_at"";refine O8 (k:=k) hT.nf hT.hX hT.rF (e3.at ha) (by omega) λg4 b4 e4 _ OM=>?_;walk_at"";refine O0 (k:=k+2) hT.tG OM (aE U1 (by omega)) (λj hj=>by have:=wF j hj;omega) λg5 e5=>?_;walk_at"";have yb:=e3.trans (e4.trans e5);have N5:=N3.at (e4.trans e5);have ef:pz (jl cs r.w r.x)=iG cs.length (meant cs r.w r.x):=rfl;rw[ef];generalize iG cs.length (meant cs r.w r.x)=first at *
   refine x8 (b0 T _) (kL (b0 T _) ?_);walk_at"";refine O8 (k:=k) hT.nf hT.hX hT.rF (yb.at ha) (by omega) λg6 b6 e6 hb6 Ga=>?_;refine⟨b6,_,rfl,a8 Ga,d4 (jl cs r.w r.y),λj Z g'=>Ex g g'/\g'[b6]?=some (.lst (d4 (jl cs r.w r.y)))/\nP g' nb g.length cs.length (λq=>i+if q∈(jl cs r.w r.y).take j then 1 else 0) (λq m=>tY cs (rs.take i) q m\/(q∈(jl cs r.w r.y).take j/\m=first))/\(∀as:List Nat,g'[nb]?=some (.lst (as.map .ref))->b6∉as)/\∃z7,Z=[some (.ref a),some (.ref c),some (.ref nb),some (.str r.w.s),some (.int r.x),some (.int r.y),some (.int (first:Nat)),z7],λj Z g' q=>s9 (a8 q.2.1),⟨yb.trans e6,Ga,(N5.at e6).imp (λq _=>by simp) (λq m _=>by simp),?_,z7,rfl⟩,λj x Z g' hx q=>?_,λZ g' q=>?_⟩
   ·intro yt h' hm;obtain⟨Jr,h1,h2,h3,h4,h5⟩:=N5.ex;have:=(e6.at h1).symm.trans h';have e':Jr=yt:=by
     have h0:Jr.map D.ref=yt.map D.ref:=by injection this with w;injection w
     exact(List.map_inj_right (λx y z=>by injection z)).mp h0
    subst e';obtain⟨i',iy⟩:=fE.mp hm;obtain⟨ms,m1,_⟩:=h5 i' b6 iy;have:=k6 m1;omega
   ·obtain⟨e7,p7,N7,xC,z7,rfl⟩:=q;rw[d4,ai,aa] at hx;obtain⟨q,hq,rfl⟩:=hx;have FX:q<cs.length:=wF q (aJ hq);have NZ:q∉(jl cs r.w r.y).take j:=λz=>by
     obtain⟨j',mz⟩:=fE.mp z;have hl:j'<j:=by
      have:=(aj.mp mz).1;simp at this;omega
     rw[eU hl] at mz;have Nm:(jl cs r.w r.y).Nodup:=eK.filter _;have:=Jk Nm mz hq;omega
    have tk:(jl cs r.w r.y).take (j+1)=(jl cs r.w r.y).take j++[q]:=by rw[bx,hq];rfl
    obtain⟨wt,h1,h2,h3,h4,h5⟩:=N7.ex;have NS:q<wt.length:=by omega
    have tD:=ah NS;generalize wt[q]=aq at tD;obtain⟨ms,m1,m2,m3⟩:=h5 q aq tD;have gq:gP (wt.map D.ref) (q:Int)=some (.ref aq):=C7 (by rw[ai,tD];rfl);refine m5 ?_
    try show wpS _ _ _ _ _ _
    walk_at"";refine u5 (a8 h1) gq ?_;refine ye (Ti m1 ?_);walk_at"";by_cases jT:first∈ms
    ·refine gG (by simp[jT]) ?_;walk_at"";refine⟨e7,p7,N7.imp (λq' _=>?_) (λq' m _=>?_),xC,_,rfl⟩
     ·rw[tk];simp only[List.mem_append,List.mem_singleton];by_cases z:q'∈(jl cs r.w r.y).take j
      ·simp[z]
      ·simp[z]
     ·rw[tk];simp only[List.mem_append,List.mem_singleton];constructor
      ·rintro(z|⟨z1,z2⟩)
       ·exact .inl z
       ·exact .inr ⟨.inl z1,z2⟩
      ·rintro(z|⟨z1|z1,z2⟩)
       ·exact .inl z
       ·exact .inr ⟨z1,z2⟩
       ·subst z1 z2;exact(m3 m).mp jT
    ·refine ik (by simp[jT]) ?_;walk_at"";refine u5 (a8 h1) gq ?_
     try refine⟨S5 m1,?_⟩
     walk_at"";rw[aD NZ] at m2;refine L1 m1 (by simp[d4];omega) ?_;walk_at"";have nz:=aJ tD;have dF:=(h4 aq nz).2;have Ob:aq≠b6:=λz=>xC wt h1 (z▸nz);have GJ:=d5 (o':=O.lst (d4 ms++[D.int (first:Nat)])) h1 dF;refine⟨⟨by simp;exact e7.len,λi' iy=>by rw[aw (by have:=(h4 aq nz).1;omega)];exact e7.old i' iy⟩,d5 p7 Ob,⟨⟨wt,GJ,h2,h3,h4,λi' b hb=>?_⟩⟩,λyt h'=>?_,_,rfl⟩
     ·by_cases xO:i'=q
      ·subst xO;have:b=aq:=by rw[tD] at hb;injection hb with z;exact z.symm
       subst this;refine⟨ms++[first],by rw[get_set m1];simp[d4],?_,λm=>?_⟩
       ·rw[tk];simp;omega
       ·rw[aV,aR,m3 m,tk];simp only[List.mem_append,List.mem_singleton];constructor
        ·rintro((z|⟨z1,z2⟩)|z)
         ·exact .inl z
         ·exact .inr ⟨.inl z1,z2⟩
         ·exact .inr ⟨.inr trivial,z⟩
        ·rintro(z|⟨z1|z1,z2⟩)
         ·exact .inl (.inl z)
         ·exact .inl (.inr ⟨z1,z2⟩)
         ·exact .inr z2
      ·have AK:aq≠b:=λz=>xO (Jk h3 hb (z▸tD));obtain⟨Nx,k1,k2,k3⟩:=h5 i' b hb;refine⟨Nx,d5 k1 AK,?_,λm=>(k3 m).trans ?_⟩
       ·rw[tk];simpa[xO] using k2
       ·rw[tk];simp[xO]
     ·rw[GJ] at h';exact xC yt (h1.trans h')
   ·obtain⟨e7,p7,N7,xC,z7,rfl⟩:=q;rw[d4,ag,bJ] at N7
    try show wpS _ _ _ _ _ _
    walk_at"";refine⟨e7,N7.imp (λq _=>by split<;>omega) (λq m hq=>?_),_,_,_,_,_,rfl⟩;have tk:rs.take (i+1)=rs.take i++[r]:=by rw[bx,my];rfl
    unfold tY;rw[tk];simp only[List.mem_append,List.mem_singleton];constructor
    ·rintro(⟨r',h1,h2⟩|⟨h1,h2⟩)
     ·exact⟨r',.inl h1,h2⟩
     ·exact⟨r,.inr rfl,(aT.mp h1).2,by rw[h2];exact ef.symm⟩
    ·rintro⟨r',h1|h1,h2,h3⟩
     ·exact .inl ⟨r',h1,h2,h3⟩
     ·subst h1;exact .inr ⟨aT.mpr ⟨aH.mpr hq,h2⟩,by rw[h3];exact ef⟩
  ·obtain⟨e3,N3,z3,z4,z5,z6,z7,rfl⟩:=q;rw[t8,ag,bJ] at N3
   try show wpS _ _ _ _ _ _
   walk_at"";exact h _ _ e3 lo N3
end
def k9(cs:List b7)(r:dZ):Bool:=!decide (r.x=r.y)&&(!(jl cs r.w r.x).isEmpty&&!(jl cs r.w r.y).isEmpty)
theorem in_words{g:G}{w:RW}{kb:Bool->Prop}(h:kb true):qV g (.str w.s) (.tup [.str "coin",.str "lower",.str "upper"]) kb:=by
 refine⟨_,.inr ⟨_,[.str "coin",.str "lower",.str "upper"],.str w.s,rfl,rfl,rfl,by simp only[PyData.canLayAll0,PyData.canLay0,Bool.and_true];decide +kernel,by simp only[PyData.canLay0];cases w<;>decide +kernel,rfl⟩,?_⟩;have:([PyData.str "coin",PyData.str "lower",PyData.str "upper"].any λq=>PyData.eqv q (.str w.s))=true:=by
  simp only[List.any_cons,List.any_nil,PyData.eqv];cases w<;>decide +kernel
 rw[this];exact h
theorem ne_nil{g:G}{a b:Nat}{l:List Nat}{Q:KD}(ha:g[a]?=some (.lst (d4 l)))(hb:g[b]?=some (.lst []))(h:Q (.bl (!l.isEmpty)) g):cY (.cmp .NotEq) [.ref a,.ref b] g Q:=by
 refine IC (Zp (ms:=l.map λ(i:Nat)=>(i:Int)) (ns:=[]) (by rw[<- Lz];exact a8 ha) (a8 hb) ?_);have:decide ((l.map λ(i:Nat)=>(i:Int))=[])=l.isEmpty:=by cases l<;>simp
 rw[this];exact h
structure Bd(g:G)(b:Nat)(cs:List b7)(v:Int)(rs:List dZ):Prop where
 ex:∃w l d nb,g[b]?=some (.ins "Bounds" [("size",.int cs.length),("full",.int ((2 ^ cs.length-1:Nat):Int)),("room",.int v),("worn_by_place",.ref w),("later_by_place",.ref l),("lower_dies",.ref d),("needed_by_place",.ref nb)]) /\
  g[w]?=some (.lst (sT cs mw))/\g[l]?=some (.lst (sT cs kh))/\g[d]?=some (.lst (X3 cs))/\nP g nb 0 cs.length (λ_=>rs.length) (tY cs rs)
theorem Bd.at{g g':G}{b:Nat}{cs:List b7}{v:Int}{rs:List dZ}(h:Bd g b cs v rs)(e:Ex g g'):Bd g' b cs v rs:=by
 obtain⟨w,l,d,nb,h1,h2,h3,h4,h5⟩:=h.ex;exact⟨⟨w,l,d,nb,e.at h1,e.at h2,e.at h3,e.at h4,h5.at e⟩⟩
theorem aQ8{α:Type}(l:List α)(z:α)(q:α->Bool):((List.range l.length).filter λi=>q (l.getD i z)).length=(l.filter q).length:=by
 have e:l=(List.range l.length).map λi=>l.getD i z:=by
  refine fi λi=>?_;rw[ai];by_cases hi:i<l.length
  ·rw[cW hi,ah hi];simp[List.getD,hi]
  ·rw[ba (by omega),ba (by simpa using hi)]
   rfl
 conv=>rhs;rw[e,List.filter_map,ag]
 rfl
theorem Lp{n:Nat}{q:Nat->Bool}{s:Nat}{S:Nat->Bool}(h:∀i,i<n->s.testBit i=S i):((Builtin.bitAnd ((iG n q:Nat):Int) (s:Nat)) != 0)=(List.range n).any λi=>S i&&q i:=by
 rw[Ce,Nat.and_comm,yD,bc,bK,bK];constructor
 ·rintro⟨i,h1,h2⟩;exact⟨i,h1,by rw[<- h i (aH.mp h1)];exact h2⟩
 ·rintro⟨i,h1,h2⟩;exact⟨i,h1,by rw[h i (aH.mp h1)];exact h2⟩
theorem a86{n s i:Nat}(h:s<2 ^ n)(hi:i<n):(2 ^ n-1-s).testBit i=!s.testBit i:=by
 rw[show 2 ^ n-1-s=2 ^ n-(s+1) by omega,Nat.testBit_two_pow_sub_succ h,aF hi]
 rfl
theorem M4(s p i:Nat):(s |||2 ^ p).testBit i=(s.testBit i||decide (i=p)):=by
 rw[Nat.testBit_or,Nat.testBit_two_pow]
 congr 1
 exact bA.mpr eq_comm
theorem Q8{s p n:Nat}(h:s<2 ^ n)(hp:p<n):s |||2 ^ p<2 ^ n:=Nat.or_lt_two_pow h (Nat.pow_lt_pow_right (by omega) hp)
section
variable{T:Nat->Option aZ}{k d:Nat}{g g':G}{Q:KD}{E:KX}{a b c:Nat}{cs:List b7}{rs:List dZ}{v:Int}
theorem aD3(hT:TB0 T){r:dZ}(ha:g[a]?=some (.lst (cs.map b7.d)))(hz:cs.length<=1000)(h:∀g',Ex g g'->Q (.bl (k9 cs r)) g'):c8 T (k+4) 88 [.ref a,r.d] g Q E:=by
 refine call_of hT.Pf rfl ?_;dsimp[Dg,d7,List.replicate];walk_at"";refine A9 (l:=[.str r.w.s,.int r.x,.int r.y]) rfl ?_;walk_at"";refine ye (in_words ?_);walk_at"";refine if2 (λh1=>?_) (λh1=>?_)
 ·walk_at"";have:k9 cs r=false:=by unfold k9;rw[aF h1];rfl
  rw[<- this];exact h _ (Ex.refl _)
 ·walk_at"";refine O8 (k:=k) hT.nf hT.hX hT.rF ha hz λg1 b1 e1 _ vD=>?_;walk_at"";refine ne_nil ((Ex.snoc _ _).at vD) b8 ?_;walk_at"";cases h2:(jl cs r.w r.x).isEmpty with
  |true =>
   refine gG rfl ?_;have:k9 cs r=false:=by unfold k9;rw[aL h1,h2];rfl
   rw[<- this];exact h _ (e1.trans (Ex.snoc _ _))
  |false =>
   refine ik rfl ?_;walk_at"";refine O8 (k:=k) hT.nf hT.hX hT.rF ((e1.trans (Ex.snoc _ _)).at ha) hz λg2 b2 e2 _ vC=>?_;walk_at"";refine ne_nil ((Ex.snoc _ _).at vC) b8 ?_;have:k9 cs r=!(jl cs r.w r.y).isEmpty:=by unfold k9;rw[aL h1,h2];rfl
   rw[<- this];exact h _ ((e1.trans (Ex.snoc _ _)).trans (e2.trans (Ex.snoc _ _)))
theorem Zc(hT:TB0 T)(ha:g[a]?=some (.lst (cs.map b7.d)))(hz:cs.length<=1000)(hc:g[c]?=some (.lst (t8 rs)))(hr:rs.length<=900)(h:rs.all (k9 cs)=true->∀g',Ex g g'->Q .bQ g')(hn:rs.all (k9 cs)=false->∀g',Ex g g'->E ⟨"BadRule"⟩ g'):c8 T (k+5) 89 [.ref a,.ref c] g Q E:=by
 refine call_of hT.Pe rfl ?_;dsimp[W5,d7,List.replicate];walk_at"";refine x8 (b0 T _) (sY ?_);walk_at"";refine⟨c,_,rfl,a8 hc,kR (t8 rs),λi Z g'=>Ex g g'/\(∃z2 z3,Z=[some (.ref a),some (.ref c),z2,z3])/\(rs.take i).all (k9 cs)=true,λi Z g' q=>T8 (a8 (q.1.at hc)),⟨Ex.refl _,⟨none,none,rfl⟩,rfl⟩,λi x Z g' hx q=>?_,λZ g' q=>?_⟩
 ·obtain⟨e1,⟨z2,z3,rfl⟩,q⟩:=q;obtain⟨dd,hd,rfl⟩:=N1 hx;rw[t8,ai,aa] at hd;obtain⟨r,my,rfl⟩:=hd;have tk:rs.take (i+1)=rs.take i++[r]:=by rw[bx,my];rfl
  refine A9 rfl ?_
  try show wpS _ _ _ _ _ _
  walk_at"";refine aD3 (k:=k) hT (e1.at ha) hz λg2 e2=>?_;walk_at"";cases hg:k9 cs r with
  |true =>
   walk_at"";exact⟨e1.trans e2,⟨_,_,rfl⟩,by rw[tk,List.all_append,q];simp[hg]⟩
  |false =>
   walk_at"";have hi:i<rs.length:=(aj.mp my).1;refine Vx ?_ ?_
   ·have:(i:Int).natAbs<2 ^ 10:=by rw[Mw];omega
    rw[Mw] at this ⊢;by_cases h0:i=0
    ·subst h0;decide
    ·exact cM ((Nat.log2_lt h0).mpr this) (by decide)
   walk_at"";refine Rf rfl ?_;walk_at"";refine hn ?_ _ (e1.trans e2);rw[List.all_eq_false];exact⟨r,aJ my,by rw[hg];decide⟩
 ·obtain⟨e1,⟨z2,z3,rfl⟩,q⟩:=q;rw[C5,t8,ag,bJ] at q;exact h q _ e1
theorem Zb(hT:TB0 T)(vJ:T 42=some F4)(Bc:T 98=some O4)(ha:g[a]?=some (.lst (cs.map b7.d)))(hz:cs.length<=1000)(hc:g[c]?=some (.lst (t8 rs)))(hr:rs.length<=900)(hm:9<cs.length->E ⟨"TooMany"⟩ g)(hb:cs.length<=9->cs.all p0=false->E ⟨"BadCoin"⟩ g)(hv:cs.length<=9->cs.all p0=true->¬(1<=v/\v<=9)->E ⟨"BadAnvils"⟩ g)(hw:cs.length<=9->cs.all p0=true->1<=v/\v<=9->rs.all (k9 cs)=false->∀g',Ex g g'->E ⟨"BadRule"⟩ g')(h:cs.length<=9->cs.all p0=true->1<=v/\v<=9->rs.all (k9 cs)=true->∀g',Ex g g'->Q .bQ g'):c8 T (k+7) 98 [.ref a,.int v,.ref c] g Q E:=by
 refine call_of Bc rfl ?_;dsimp[O4,d7,List.replicate];walk_at"";refine N4 (k:=k) hT.nf hT.h2 hT.nG hT.mD ha hz hm hb λh9 hg=>?_;walk_at"";refine Zh (k:=k+3) hT.nf vJ (λv1 v2=>?_) (hv h9 hg);walk_at"";exact Zc (k:=k+1) hT ha hz hc hr (h h9 hg ⟨v1,v2⟩) (hw h9 hg ⟨v1,v2⟩)
theorem Lb{f:Str}{x:D}(fs:List (Str×D)):(l9 f x fs).length<=fs.length+1:=by
 induction fs with
 |nil=>simp[l9]
 |cons y r ih =>
  unfold l9;split<;>simp
  exact ih
theorem X6{f:Str}{x:D}{fs:List (Str×D)}{n:Nat}(h:fs.length+1<n):(l9 f x fs).length<n:=gk (Lb fs) h
theorem X5{f:Str}{x:D}{fs:List (Str×D)}{m n:Nat}(h:fs.length+(m+1)<n):(l9 f x fs).length+m<n:=by
 have:=Lb (f:=f) (x:=x) fs;omega
def f3(n:Nat)(v:Int):List (Str×D):=[("size",.int n),("full",.int ((2 ^ n-1:Nat):Int)),("room",.int v)]
theorem Y5(n:Nat)(v:Int):(f3 n v).length=3:=rfl
theorem Y'(hT:TB0 T)(ha:g[a]?=some (.lst (cs.map b7.d)))(hz:cs.length<=9)(hg:cs.all p0=true)(hB:∀c∈cs,CB c)(hc:g[c]?=some (.lst (t8 rs)))(hr:rs.length<=900)(hb:g[b]?=some (.ins "Bounds" []))(h:∀g',g.length<=g'.length->(∀i,i<g.length->i≠b->g'[i]?=g[i]?)->Bd g' b cs v rs->Q .bQ g'):c8 T (k+9) 113 [.ref b,.ref a,.int v,.ref c] g Q E:=by
 refine call_of hT.Bk rfl ?_;dsimp[W7,d7,List.replicate];have uU:b≠a:=λz=>by subst z;rw[ha] at hb;cases hb
 have xB:b≠c:=λz=>by subst z;rw[hc] at hb;cases hb
 have lb:=k6 hb;walk_at"";refine Z5 hb (by simp) (by simp) ?_;walk_at"";have tE:=d5 (o':=O.ins "Bounds" (l9 "size" (.int (cs.map b7.d).length) [])) ha uU;refine O6 (a8 tE) ?_;walk_at"";refine Dy ⟨by omega,by simp;omega,by decide⟩ ?_;walk_at"";refine Z5 (get_set hb) (by simp) (by first|(simp;done)|(refine X6 ?_;repeat (first|(rw[Y5];omega)|(simp;done)|refine X5 ?_))) ?_;rw[iC];walk_at"";refine Z5 (get_set hb) (by simp) (by first|(simp;done)|(refine X6 ?_;repeat (first|(rw[Y5];omega)|(simp;done)|refine X5 ?_))) ?_;rw[iC];have e0:l9 "room" (.int v) (l9 "full" (.int (1*2 ^ Int.toNat ((cs.map b7.d).length:Int)-1)) (l9 "size" (.int (cs.map b7.d).length) []))=(f3 cs.length v):=by
  have:(1*2 ^ Int.toNat ((cs.map b7.d).length:Int)-1:Int)=((2 ^ cs.length-1:Nat):Int):=by
   rw[ag,bO,Int.one_mul];have:=gi (n:=cs.length);rw[Int.natCast_sub this];simp
  rw[this,ag]
  rfl
 simp only[e0];have kp:∀(g1:G) (o:O),Ex (g.set b o) g1->(∀i,i<g.length->i≠b->g1[i]?=g[i]?)/\g.length<=g1.length:=λg1 o e=>⟨λi hi hn=>by rw[e.old i (by simpa using hi),aw (bT hn)],by have:=e.len;simpa using this⟩
 generalize ho:O.ins "Bounds" (f3 cs.length v)=o1;have vD:=get_set (o':=o1) hb;have tE:=d5 (o':=o1) ha uU;have rq:=d5 (o':=o1) hc xB;have k1:=kp _ o1 (Ex.refl _);generalize g.set b o1=g1 at *;subst ho;walk_at"";refine Vb (k:=k+4) hT tE hz hB λg2 w e2 hw1 hw=>?_;walk_at"";refine Z5 (e2.at vD) (by simp) (by rw[Y5];omega) ?_;have lw:w≠b:=λz=>by have:=k6 vD;omega
 have vB:=get_set (o':=O.ins "Bounds" (l9 "worn_by_place" (.ref w) (f3 cs.length v))) (e2.at vD);have NN:=d5 (o':=O.ins "Bounds" (l9 "worn_by_place" (.ref w) (f3 cs.length v))) hw lw.symm;have xT:=d5 (o':=O.ins "Bounds" (l9 "worn_by_place" (.ref w) (f3 cs.length v))) (e2.at tE) uU;have xR:=d5 (o':=O.ins "Bounds" (l9 "worn_by_place" (.ref w) (f3 cs.length v))) (e2.at rq) xB;have k3:(∀i,i<g.length->i≠b->(g2.set b (O.ins "Bounds" (l9 "worn_by_place" (.ref w) (f3 cs.length v))))[i]?=g[i]?)/\g.length<=(g2.set b (O.ins "Bounds" (l9 "worn_by_place" (.ref w) (f3 cs.length v)))).length:=⟨λi hi hn=>by rw[aw (bT hn),e2.old i (by have:=k1.2;omega)];exact k1.1 i hi hn,by simp;have:=e2.len;have:=k1.2;omega⟩
 generalize g2.set b (O.ins "Bounds" (l9 "worn_by_place" (.ref w) (f3 cs.length v)))=g3 at *;walk_at"";refine ZC (k:=k+4) hT xT hz λg4 l e4 jA hl=>?_;walk_at"";refine Z5 (e4.at vB) (by simp) (by first|(simp;done)|(refine X6 ?_;repeat (first|(rw[Y5];omega)|(simp;done)|refine X5 ?_))) ?_;have ll:l≠b:=λz=>by have:=k6 vB;omega
 generalize ho:O.ins "Bounds" (l9 "later_by_place" (.ref l) (l9 "worn_by_place" (.ref w) (f3 cs.length v)))=o5;have AM:=get_set (o':=o5) (e4.at vB);have NM:=d5 (o':=o5) (e4.at NN) lw.symm;have Oi:=d5 (o':=o5) hl ll.symm;have GB:=d5 (o':=o5) (e4.at xT) uU;have OI:=d5 (o':=o5) (e4.at xR) xB;have k5:(∀i,i<g.length->i≠b->(g4.set b o5)[i]?=g[i]?)/\g.length<=(g4.set b o5).length:=⟨λi hi hn=>by rw[aw (bT hn),e4.old i (by have:=k3.2;omega)];exact k3.1 i hi hn,by simp;have:=e4.len;have:=k3.2;omega⟩
 generalize g4.set b o5=g5 at *;subst ho;walk_at"";refine YU (k:=k) hT GB hz hg λg6 dd e6 Gz hd=>?_;walk_at"";refine Z5 (e6.at AM) (by simp) (by first|(simp;done)|(refine X6 ?_;repeat (first|(rw[Y5];omega)|(simp;done)|refine X5 ?_))) ?_;have ld:dd≠b:=λz=>by have:=k6 AM;omega
 generalize ho:O.ins "Bounds" (l9 "lower_dies" (.ref dd) (l9 "later_by_place" (.ref l) (l9 "worn_by_place" (.ref w) (f3 cs.length v))))=o7;have AL:=get_set (o':=o7) (e6.at AM);have NL:=d5 (o':=o7) (e6.at NM) lw.symm;have Oh:=d5 (o':=o7) (e6.at Oi) ll.symm;have OE:=d5 (o':=o7) hd ld.symm;have OP:=d5 (o':=o7) (e6.at GB) uU;have OG:=d5 (o':=o7) (e6.at OI) xB;have k7:(∀i,i<g.length->i≠b->(g6.set b o7)[i]?=g[i]?)/\g.length<=(g6.set b o7).length:=⟨λi hi hn=>by rw[aw (bT hn),e6.old i (by have:=k5.2;omega)];exact k5.1 i hi hn,by simp;have:=e6.len;have:=k5.2;omega⟩
 generalize g6.set b o7=g7 at *;subst ho;walk_at"";refine ZJ (k:=k+4) hT OP hz OG hr λg8 nb e8 hn1 hn=>?_;walk_at"";refine Z5 (e8.at AL) (by simp) (by first|(simp;done)|(refine X6 ?_;repeat (first|(rw[Y5];omega)|(simp;done)|refine X5 ?_))) ?_;have lb7:=k6 AL;have ln:nb≠b:=λz=>by omega
 generalize ho:O.ins "Bounds" (l9 "needed_by_place" (.ref nb) (l9 "lower_dies" (.ref dd) (l9 "later_by_place" (.ref l) (l9 "worn_by_place" (.ref w) (f3 cs.length v)))))=o9;refine h _ (by simp;have:=e8.len;have:=k7.2;omega) (λi hi hn=>by rw[aw (bT hn),e8.old i (by have:=k7.2;omega)];exact k7.1 i hi hn) ⟨⟨w,l,dd,nb,?_,d5 (e8.at NL) lw.symm,d5 (e8.at Oh) ll.symm,d5 (e8.at OE) ld.symm,?_⟩⟩
 ·rw[get_set (e8.at AL),<- ho]
  rfl
 ·obtain⟨as,q1,q2,q3,q4,q5⟩:=hn.ex;exact⟨⟨as,d5 q1 ln.symm,q2,q3,λx hx=>⟨by omega,(q4 x hx).2⟩,λi x hx=>let ⟨ms,m1,m2⟩:=q5 i x hx;⟨ms,d5 m1 (λz=>by have:=(q4 x (aJ hx)).1;omega),m2⟩⟩⟩
end
section
variable{T:Nat->Option aZ}{k d:Nat}{g g':G}{Q:KD}{E:KX}{a b c:Nat}{cs:List b7}{rs:List dZ}{v:Int}
theorem aF1(hT:TB T)(ha:g[a]?=some (.lst (cs.map b7.d)))(hz:cs.length<=1000)(hB:∀c∈cs,CB c)(hc:g[c]?=some (.lst (t8 rs)))(hr:rs.length<=900)(hm:9<cs.length->E ⟨"TooMany"⟩ g)(hb:cs.length<=9->cs.all p0=false->E ⟨"BadCoin"⟩ g)(hv:cs.length<=9->cs.all p0=true->¬(1<=v/\v<=9)->E ⟨"BadAnvils"⟩ g)(hw:cs.length<=9->cs.all p0=true->1<=v/\v<=9->rs.all (k9 cs)=false->∀g',Ex g g'->E ⟨"BadRule"⟩ g')(h:cs.length<=9->cs.all p0=true->1<=v/\v<=9->rs.all (k9 cs)=true->∀g' b,Ex g g'->g.length<=b->Bd g' b cs v rs->Q (.ref b) g'):c8 T (k+10) 99 [.ref a,.int v,.ref c] g Q E:=by
 refine call_of hT.OY rfl ?_;dsimp[De,d7,List.replicate];walk_at"";refine Zb (k:=k+2) hT.toTB0 hT.vJ hT.Bc ha hz hc hr hm hb hv hw λh9 hg hv hR g1 e1=>?_;walk_at"";have x1:=Ex.snoc g1 (O.ins "Bounds" []);refine Y' (k:=k) hT (x1.at (e1.at ha)) h9 hg hB (x1.at (e1.at hc)) hr b8 λg2 l2 o2 B2=>?_;refine⟨rfl,h h9 hg hv hR g2 _ ⟨by have:=e1.len;simp at l2;omega,λi hi=>?_⟩ e1.len B2⟩;have:=e1.len;rw[o2 i (by simp;omega) (by omega),x1.old i (by omega)];exact e1.old i hi
theorem JK(hT:TB T)(ha:g[a]?=some (.lst (cs.map b7.d)))(hz:cs.length<=9)(hg:cs.all p0=true)(hB:∀c∈cs,CB c)(hv:1<=v/\v<=9)(hc:g[c]?=some (.lst (t8 rs)))(hr:rs.length<=900)(hR:rs.all (k9 cs)=true)(h:∀g' b,Ex g g'->g.length<=b->Bd g' b cs v rs->Q (.ref b) g'):c8 T (k+10) 99 [.ref a,.int v,.ref c] g Q E :=
 aF1 hT ha (by omega) hB hc hr (λz=>by omega) (λ_ z=>by rw[hg] at z;cases z) (λ_ _ z=>absurd hv z) (λ_ _ _ z=>by rw[hR] at z;cases z) λ_ _ _ _=>h
theorem Zd(hT:TB0 T)(B:Bd g b cs v rs)(hz:cs.length<=9){s p:Nat}(hs:s<2 ^ cs.length)(hp:p<cs.length)(h:∀g',Ex g g'->Q (.int (su cs s.testBit p:Nat)) g'):c8 T (k+2) 100 [.ref b,.int (s:Nat),.int (p:Nat)] g Q E:=by
 refine call_of hT.Bp rfl ?_;dsimp[Dr,d7,List.replicate];obtain⟨w,l,dd,nb,h1,h2,h3,h4,h5⟩:=B.ex;walk_at"";refine w6 (k:=k) hT.nY (by omega) ?_;walk_at"";refine U0 h1 rfl ?_;walk_at"";have e1:((2 ^ cs.length-1:Nat):Int)-(s:Nat)=((2 ^ cs.length-1-s:Nat):Int):=by omega
 rw[e1];have oB:(j9 (cs.map b7.lo)).length<=9:=aE (O7 _) (by simpa using hz);have Gx:(X3 cs).length=(j9 (cs.map b7.lo)).length:=by simp[X3]
 refine F7 (b0 T _) (λZ=>∃z2 z3,Z=[some (.int ((2 ^ cs.length-1-s:Nat):Int)),some (.int ((s |||2 ^ p:Nat):Int)),z2,z3]) (λi=>M5 cs s.testBit p ((j9 (cs.map b7.lo)).getD i 0)) (λi=>(X3 cs).getD i .bQ) (l:=X3 cs) (k:=.lst dd) (λg' e=>s9 (a8 (e.at h4))) (by rw[Gx];omega) ⟨none,none,rfl⟩ (λi x Z g' hx e sh=>?_) (λg' e=>?_) (qi (b0 T _) (a8 h4) λQ q=>?_)
 ·obtain⟨z2,z3,rfl⟩:=sh;have pJ:=hx;rw[X3,ai,aa] at pJ;obtain⟨qb,hd,rfl⟩:=pJ;have eg:(j9 (cs.map b7.lo)).getD i 0=qb:=by simp[List.getD,hd]
  refine m5 ?_
  try show cT _ _ _ _ _ _
  walk_at"";refine wx ?_;walk_at"";have b1:=Lp (n:=cs.length) (q:=meant cs .lower qb) (s:=s |||2 ^ p) (S:=λi=>s.testBit i||decide (i=p)) (λi _=>M4 s p i);have b2:=Lp (n:=cs.length) (q:=meant cs .lower qb) (s:=2 ^ cs.length-1-s) (S:=λi=>!s.testBit i) (λi hi=>a86 hs hi);rw[b1,eg];have hu:M5 cs s.testBit p qb=(((List.range cs.length).any λi=>(s.testBit i||decide (i=p))&&meant cs .lower qb i)&&(List.range cs.length).any λi=>!s.testBit i&&meant cs .lower qb i):=rfl;rw[hu];cases (List.range cs.length).any λi=>(s.testBit i||decide (i=p))&&meant cs .lower qb i with
  |false =>
   refine gG rfl ?_;exact⟨rfl,e,gG rfl ⟨_,_,rfl⟩⟩
  |true =>
   refine ik rfl ?_;walk_at"";refine wx ?_;walk_at"";rw[b2,Bool.true_and];refine⟨rfl,e,?_⟩;cases (List.range cs.length).any λi=>!s.testBit i&&meant cs .lower qb i with
   |false=>exact gG rfl ⟨_,_,rfl⟩
   |true =>
    refine ik rfl ?_;walk_at"";refine⟨?_,e,_,_,rfl⟩;simp[List.getD,hx]
 ·refine O6 (a8 b8) ?_;have:(((List.range (X3 cs).length).filter λi=>M5 cs s.testBit p ((j9 (cs.map b7.lo)).getD i 0)).map λi=>(X3 cs).getD i .bQ).length=su cs s.testBit p:=by
   rw[ag,Gx,aQ8 (j9 (cs.map b7.lo)) 0 (M5 cs s.testBit p)]
   rfl
  rw[this];exact h _ (e.trans (Ex.snoc _ _))
 ·walk_at"";exact U0 h1 rfl q
theorem Ku{q:b7->b7->Bool}{p:Nat}(hp:p<cs.length):gP (sT cs q) (p:Int)=some (.int ((iG cs.length λj=>q (cL cs j) (cL cs p):Nat):Int)):=C7 (by rw[sT,ai,cW hp];rfl)
theorem Lq{s n:Nat}{q:Nat->Bool}:((Builtin.bitAnd (s:Nat) ((iG n q:Nat):Int)) != 0)=(List.range n).any λi=>s.testBit i&&q i:=by rw[Ce,yD]
theorem Ke(hT:TB0 T)(B:Bd g b cs v rs)(hz:cs.length<=9)(hr:rs.length<=900){s p:Nat}(hs:s<2 ^ cs.length)(hp:p<cs.length)(h:∀g',Ex g g'->Q (tI (fault cs v rs s.testBit p)) g'):c8 T (k+3) 101 [.ref b,.int (s:Nat),.int (p:Nat)] g Q E:=by
 refine call_of hT.Bo rfl ?_;dsimp[Dt,d7,List.replicate];obtain⟨w,l,dd,nb,h1,h2,h3,h4,h5⟩:=B.ex;walk_at"";refine U0 h1 rfl ?_;walk_at"";refine u5 (a8 h2) (Ku hp) ?_;refine wx ?_;walk_at"";rw[Lq];cases c1:(List.range cs.length).any λi=>s.testBit i&&mw (cL cs i) (cL cs p) with
 |true =>
  refine ik rfl ?_;walk_at"";have:fault cs v rs s.testBit p="wear":=by unfold fault N9;rw[aK c1]
  rw[this] at h;exact h _ (Ex.refl _)
 |false =>
 refine gG rfl ?_;walk_at"";refine U0 h1 rfl ?_;walk_at"";refine u5 (a8 h3) (Ku hp) ?_;refine wx ?_;walk_at"";rw[Lq];cases c2:(List.range cs.length).any λi=>s.testBit i&&kh (cL cs i) (cL cs p) with
 |true =>
  refine ik rfl ?_;walk_at"";have:fault cs v rs s.testBit p="year":=by unfold fault N9 Q5;rw[aD (by rw[c1];decide),aK c2]
  rw[this] at h;exact h _ (Ex.refl _)
 |false =>
 refine gG rfl ?_;walk_at"";refine Zd (k:=k) hT B hz hs hp λg2 e2=>?_;walk_at"";refine U0 (e2.at h1) rfl ?_;walk_at"";refine if2 (λc3=>?_) (λc3=>?_)
 ·walk_at"";have:fault cs v rs s.testBit p="anvil":=by unfold fault N9 Q5;rw[aD (by rw[c1];decide),aD (by rw[c2];decide),aK c3]
  rw[this] at h;exact h _ e2
 walk_at"";obtain⟨as,q1,q2,q3,q4,q5⟩:=h5.ex;have NU:p<as.length:=by omega
 have AN:=ah NU;generalize as[p]=ap at AN;obtain⟨ms,m1,m2,m3⟩:=q5 p ap AN;refine comp_map (b0 T _) (λZ=>∃z1 z2,Z=[some (.int (s:Nat)),z1,z2]) (λi=>.int ((s &&& ms.getD i 0:Nat):Int)) (l:=d4 ms) (k:=.lst ap) (λg' e=>s9 (a8 ((e2.trans e).at m1))) (by simp[d4];omega) ⟨none,none,rfl⟩ (λi x Z g' hx e sh=>?_) (λg' e=>?_) (qi (b0 T _) (a8 (e2.at m1)) λQ q=>?_)
 ·obtain⟨z1,z2,rfl⟩:=sh;rw[d4,ai,aa] at hx;obtain⟨m,hm,rfl⟩:=hx;refine m5 ?_
  try show aS _ _ _ _ _ _
  walk_at"";refine wx ?_;refine⟨?_,e,_,_,rfl⟩;rw[Ce];simp[List.getD,hm]
 ·refine WN (ns:=(List.range (d4 ms).length).map λi=>((s &&& ms.getD i 0:Nat):Int)) (a8 (by rw[bu];exact b8)) ?_;have en:(((List.range (d4 ms).length).map λi=>((s &&& ms.getD i 0:Nat):Int)).all λn=>n != 0)=O1 cs rs s.testBit p:=by
   rw[bc,bo];unfold O1;rw[bo];constructor
   ·intro hA r hr;cases vj:meant cs r.w r.y p with
    |false=>rfl
    |true =>
     have hm:=(m3 (iG cs.length (meant cs r.w r.x))).mpr ⟨r,hr,vj,rfl⟩;obtain⟨i,hi⟩:=fE.mp hm;have Gk:=(aj.mp hi).1;have:=hA ((s &&& iG cs.length (meant cs r.w r.x):Nat):Int) (aM.mpr ⟨i,aH.mpr (by simpa[d4] using Gk),by simp[List.getD,hi]⟩);rw[yD] at this;exact this
   ·intro hA x hx;obtain⟨i,hi,rfl⟩:=aM.mp hx;have hi:i<ms.length:=by simpa[d4] using hi
    have hm:ms.getD i 0∈ms:=by simp[List.getD,hi]
    obtain⟨r,hr,vj,em⟩:=(m3 _).mp hm;have:=hA r hr;rw[vj,Bool.not_true,qu] at this;rw[em,yD];exact this
  rw[en];walk_at"";cases c4:O1 cs rs s.testBit p with
  |true =>
   walk_at"";have:fault cs v rs s.testBit p="":=by unfold fault N9 Q5;rw[aD (by rw[c1];decide),aD (by rw[c2];decide),aD c3,aK c4]
   rw[this] at h;exact h _ (e2.trans (e.trans (Ex.snoc _ _)))
  |false =>
   walk_at"";have:fault cs v rs s.testBit p="rule":=by unfold fault N9 Q5;rw[aD (by rw[c1];decide),aD (by rw[c2];decide),aD c3,aD (by rw[c4];decide)]
   rw[this] at h;exact h _ (e2.trans (e.trans (Ex.snoc _ _)))
 ·walk_at"";refine U0 (e2.at h1) rfl ?_;walk_at"";exact u5 (a8 (e2.at q1)) (C7 (by rw[ai,AN];rfl)) q
end
def tX:aZ:=⟨2,5,(.seq (.set 2 (df (.prim .lst (qw (iJ "coin") (iJ "coin") (iJ "lower") (iJ "upper"))) (.call 4 (dE aP (bf 4))))) (.seq (.set 3 (dX .jc (dX .len bh))) (.seq (.ifs (ff .Eq bp (iJ "lower")) (.seq (.set 3 (dX .sset (.comp [] 2 (.one 1) (.fF bh) .no (df bh (bf 0))))) .pass) .pass) (.seq (.ifs (ff .Eq bp (iJ "upper")) (.seq (.set 3 (dX .sset (.comp [] 2 (.one 1) (.fF bh) .no (df bh (bf 2))))) .pass) .pass) (.seq (.ifs (ff .Lt (dX .len bR) (bf 2)) (.seq (.ret (.lit .bQ)) .pass) .pass) (.seq (.set 4 (.call 4 (dE aP (dX .len bR)))) (.seq (.ret (.prim .tup (gI bp (df bR dg) (df bR (cE (.bin .Mod) (cE (.bin .Add) (cE (.bin .Add) dg (bf 1)) (.call 4 (dE aP (cE (.bin .Sub) (dX .len bR) (bf 1))))) (dX .len bR)))))) .pass)))))))⟩
def Eh:aZ:=⟨2,5,(.seq (.set 2 (.prim .lst .nil)) (.seq (.dY (.one 3) (.fA (df (.prim .lst (GI (bf 0) (bf 0) (bf 1) (bf 1) (bf 2) (bf 4))) (.call 4 (dE aP (bf 6))))) (.seq (.set 4 (.call 105 (dE aP bh))) (.seq (.ifs (ff .IsNot dg (.lit .bQ)) (.seq (.expr (.dR .append bp (eO dg))) .pass) .pass) .pass))) (.seq (.ret bp) .pass)))⟩
structure zh(T:Nat->Option aZ):Prop where
 lf:LF T
 Bm:T 105=some tX
 Bl:T 106=some Eh
theorem Kp{cs:List b7}{w:RW}{x:Int}{i:Nat}(hi:i<cs.length)(h:meant cs w x i=true):(jl cs w x).isEmpty=false:=by
 cases e:jl cs w x with
 |nil =>
  have:i∈jl cs w x:=aT.mpr ⟨aH.mpr hi,h⟩;rw[e] at this;cases this
 |cons _ _=>rfl
section
variable{T:Nat->Option aZ}{k d:Nat}{g g':G}{Q:KD}{E:KX}{a b c:Nat}{cs:List b7}{rs:List dZ}{v:Int}
theorem Ji{ns:List Int}{x:Int}:x∈j9 ns↔x∈ns:=by
 rw[(F9 ns).mem_iff,ST.Du];simp
theorem LH(ns:List Int):(j9 ns).Nodup:=(F9 ns).nodup_iff.mpr (ST.Dj _ _ (by simp))
theorem Jn(hT:zh T)(D0:j7 g d){w:RW}{L:List Int}{sL:Nat}{N:Ends}(hN:N.rt=Q)(hL:g[sL]?=some (.lst (L.map .int)))(hd:sL≠d)(nd:L.Nodup)(hl:L.length<=9)(hm:∀x∈L,(jl cs w x).isEmpty=false)(h:∀g',j7 g' d->Gr d g g'->Q .bQ g'/\∀r,k9 cs r=true->Q r.d g'):wpS (c8 T (k+1)) (match tX.body with|.seq _ (.seq _ (.seq _ (.seq _ b)))=>b|x=>x) N [some (.ref d),some (.ref a),some (.str w.s),some (.ref sL),none] g E:=by
 subst hN;dsimp[tX];walk_at"";refine if2 (λh2=>?_) (λh2=>?_)
 ·walk_at"";exact(h g D0 (Gr.refl _ _)).1
 rw[ag] at h2;walk_at"";refine i0 (k:=k) hT.lf.pull D0 (by rw[ag];omega) (by rw[ag];omega) λr1 g1 h0 h1 D1 G1=>?_;rw[ag] at h1;walk_at"";obtain⟨j,rfl⟩:∃j:Nat,r1=j:=⟨r1.toNat,by omega⟩
 have hj:j<L.length:=by omega
 have gj:gP (L.map D.int) (j:Int)=some (.int L[j]):=C7 (by rw[ai,ah hj];rfl);refine u5 (a8 (G1.at hd hL)) gj ?_;walk_at"";refine O6 (a8 (G1.at hd hL)) ?_;walk_at"";refine i0 (k:=k) hT.lf.pull D1 (by rw[ag];omega) (by rw[ag];omega) λr2 g2 k0 k1 D2 G2=>?_;rw[ag] at k1;walk_at"";have mB:=(G1.trans G2).at hd hL;refine O6 (a8 mB) ?_;walk_at"";refine Q7 (by rw[ag];omega) ?_;obtain⟨j2,rfl⟩:∃j:Nat,r2=j:=⟨r2.toNat,by omega⟩
 have em:((j:Int)+1+(j2:Nat)) % ((L.map D.int).length:Nat)=(((j+1+j2) % L.length:Nat):Int):=by rw[ag,Int.natCast_emod,show((j+1+j2:Nat):Int)=(j:Int)+1+(j2:Nat) by omega]
 rw[em];have Gj:(j+1+j2) % L.length<L.length:=Mu _ (by omega);have dF:(j+1+j2) % L.length≠j:=by
  by_cases hc:j+1+j2<L.length
  ·rw[Nat.mod_eq_of_lt hc];omega
  ·rw[Nat.mod_eq_sub_mod (by omega),Nat.mod_eq_of_lt (by omega)];omega
 generalize (j+1+j2) % L.length=j3 at *;have Py:gP (L.map D.int) (j3:Int)=some (.int L[j3]):=C7 (by rw[ai,ah Gj];rfl);refine u5 (a8 mB) Py ?_;walk_at"";refine(h g2 D2 (G1.trans G2)).2 ⟨w,L[j],L[j3]⟩ ?_;unfold k9;rw[hm _ (cc hj),hm _ (cc Gj),aL (λz=>dF ((ib nd).mp z).symm)]
 rfl
theorem Uv(hT:zh T)(ha:g[a]?=some (.lst (cs.map b7.d)))(hz:cs.length<=9)(hd:d<a)(D0:j7 g d)(h:∀g',j7 g' d->Gr d g g'->Q .bQ g'/\∀r,k9 cs r=true->Q r.d g'):c8 T (k+2) 105 [.ref d,.ref a] g Q E:=by
 refine call_of hT.Bm rfl ?_;dsimp[tX,d7,List.replicate];walk_at"";refine i0 (k:=k) hT.lf.pull (D0.snoc _) (by decide) (by decide) λr0 g1 h0 h1 D1 G1=>?_;have EG:=(Gr.snoc d g _).trans G1;have tE:=EG.at (bE hd) ha;have l1:=EG.len;have dl:=D0.lt;have hw:∃w:RW,gP [D.str "coin",D.str "coin",D.str "lower",D.str "upper"] r0=some (.str w.s):=by
  obtain⟨j,rfl⟩:∃j:Nat,r0=j:=⟨r0.toNat,by omega⟩
  have:j=0\/j=1\/j=2\/j=3:=by omega
  rcases this with rfl|rfl|rfl|rfl
  ·exact⟨.fB,rfl⟩
  ·exact⟨.fB,rfl⟩
  ·exact⟨.lower,rfl⟩
  ·exact⟨.upper,rfl⟩
 obtain⟨w,hw⟩:=hw;walk_at"";refine u5 (a8 (G1.at (bE dl) b8)) hw ?_;walk_at"";refine zX (by omega) (by simp;omega) ?_;walk_at"";have e2:=Ex.snoc g1 (O.lst (k8 0 (Int.toNat ((cs.map b7.d).length:Nat))));have tm:=b8 (g:=g1) (o:=O.lst (k8 0 (Int.toNat ((cs.map b7.d).length:Nat))));generalize g1++[O.lst (k8 0 (Int.toNat ((cs.map b7.d).length:Nat)))]=g2 at *;have xU:=e2.at tE;have D2:=e2.draw D1;have G2:=EG.trans (e2.gr d);have fld:∀(f:Int) (w:RW) (N:Ends),(f=0\/f=2)->(∀i c,cs[i]?=some c->∀x,meant cs w x i=decide (qf f c=x))->N.rt=Q->aS (c8 T (k+1)) (.prim .sset (.cons (.comp [] 2 (.one 1) (.fF (.var 1)) .no (.prim .ix (.cons (.var 1) (.cons (.lit (.int f)) .nil)))) .nil)) [some (.ref d),some (.ref a),some (.str w.s),some (.ref g1.length),none] g2 (λx g3=>wpS (c8 T (k+1)) (match tX.body with|.seq _ (.seq _ (.seq _ (.seq _ b)))=>b|x=>x) N [some (.ref d),some (.ref a),some (.str w.s),some x,none] g3 E) E:=λf w N hf hm hN=>by
  walk_at"";refine comp_map (b0 T _) (λZ=>∃z0 z1,Z=[z0,z1]) (λi=>.int (qf f (cL cs i))) (l:=cs.map b7.d) (k:=.lst a) (λg' e=>s9 (a8 (e.at xU))) (by simp;omega) ⟨none,none,rfl⟩ (λi x Z g' hx e sh=>?_) (λg' e=>?_) (qi (b0 T _) (a8 xU) λQ q=>w_var (d:=.ref a) rfl q)
  ·obtain⟨z0,z1,rfl⟩:=sh;rw[ai,aa] at hx;obtain⟨c,hc,rfl⟩:=hx;refine m5 ?_
   try show aS _ _ _ _ _ _
   walk_at"";refine B4 (LZ hf c) ?_;exact⟨by rw[A4 hc],e,_,_,rfl⟩
  ·refine Rg (ns:=(List.range cs.length).map λi=>qf f (cL cs i)) (a8 (by rw[bu];rw[b8,ag];rfl)) (by simp;omega) ?_;have e3:=(e.trans (Ex.snoc g' (O.lst ((List.range (cs.map b7.d).length).map λi=>D.int (qf f (cL cs i)))))).trans (Ex.snoc _ (O.lst ((j9 ((List.range cs.length).map λi=>qf f (cL cs i))).map .int)));have oB:(j9 ((List.range cs.length).map λi=>qf f (cL cs i))).length<=9:=aE (O7 _) (by simpa using hz);refine Jn (k:=k) hT (e3.draw D2) hN b8 (by have:=D2.lt;have:=e.len;simp;omega) (LH _) oB (λx hx=>?_) λg4 D4 G4=>h g4 D4 (G2.trans ((e3.gr d).trans G4));rw[Ji] at hx;obtain⟨i,hi,rfl⟩:=aM.mp hx;have hi:=aH.mp hi;have hc:=ah hi;refine Kp hi ?_;rw[hm i _ hc,A4 hc];exact aF rfl
 cases w with
 |fB =>
  refine gG (by decide +kernel) ?_;walk_at"";refine gG (by decide +kernel) ?_
  try refine R6 ?_
  have er:k8 0 (Int.toNat ((cs.map b7.d).length:Nat))=((List.range cs.length).map λ(i:Nat)=>(i:Int)).map D.int:=by
   simp[k8]
  refine Jn (k:=k) hT (w:=.fB) (L:=(List.range cs.length).map λ(i:Nat)=>(i:Int)) D2 rfl (by rw[<- er];exact tm) (by omega) ?_ (by simpa using hz) (λx hx=>?_) λg4 D4 G4=>h g4 D4 (G2.trans G4)
  ·exact dw.mpr (eK.imp λh e=>h (by omega))
  ·obtain⟨i,hi,rfl⟩:=aM.mp hx;exact Kp (aH.mp hi) (aF rfl)
 |lower =>
  refine ik (by decide +kernel) ?_;refine wI ?_;refine yq ?_;refine b9 (b0 T _) _ _ _ _ _ _ _ (λx g3 q=>?_) (λ_ _ z=>z) (fld 0 .lower ⟨λ_ g'=>Q .bQ g',Q,λ_ _=>False,λ_ _=>False⟩ (.inl rfl) (λi c hc x=>by simp only[meant,A4 hc];rfl) rfl);refine DS ?_;walk_at"";refine gG (by decide +kernel) ?_
  try refine R6 ?_
  exact q
 |upper =>
  refine gG (by decide +kernel) ?_;walk_at"";refine ik (by decide +kernel) ?_;refine wI ?_;refine yq ?_;exact fld 2 .upper _ (.inr rfl) (λi c hc x=>by simp only[meant,A4 hc];rfl) rfl
end
section
variable{T:Nat->Option aZ}{k d:Nat}{g g':G}{Q:KD}{E:KX}{a b c:Nat}{cs:List b7}{rs:List dZ}{v:Int}
theorem a51(hT:zh T)(ha:g[a]?=some (.lst (cs.map b7.d)))(hz:cs.length<=9)(hd:d<a)(D0:j7 g d)(h:∀(rs:List dZ) b g',rs.length<=4->rs.all (k9 cs)=true->g'[b]?=some (.lst (t8 rs))->g.length<=b->j7 g' d->Gr d g g'->Q (.ref b) g'):c8 T (k+3) 106 [.ref d,.ref a] g Q E:=by
 refine call_of hT.Bl rfl ?_;dsimp[Eh,d7,List.replicate];walk_at"";have dl:=D0.lt;have e1:=Ex.snoc g (O.lst []);have Gu:=b8 (g:=g) (o:=O.lst []);have D1:=D0.snoc (O.lst []);generalize g++[O.lst []]=g1 at *;refine x8 (b0 T _) (qh (b0 T _) ?_);walk_at"";refine i0 (k:=k+1) hT.lf.pull (D1.snoc _) (by decide) (by decide) λr0 g2 h0 h1 D2 G2=>?_;have l1:=k6 Gu;have hw:∃j:Nat,j<=4/\gP [D.int 0,D.int 0,D.int 1,D.int 1,D.int 2,D.int 4] r0=some (.int (j:Nat)):=by
  obtain⟨j,rfl⟩:∃j:Nat,r0=j:=⟨r0.toNat,by omega⟩
  have:j=0\/j=1\/j=2\/j=3\/j=4\/j=5:=by omega
  rcases this with rfl|rfl|rfl|rfl|rfl|rfl
  ·exact⟨0,by decide,rfl⟩
  ·exact⟨0,by decide,rfl⟩
  ·exact⟨1,by decide,rfl⟩
  ·exact⟨1,by decide,rfl⟩
  ·exact⟨2,by decide,rfl⟩
  ·exact⟨4,by decide,rfl⟩
 obtain⟨j,hj,hw⟩:=hw;refine u5 (a8 (G2.at (by omega) b8)) hw ?_;refine⟨j,rfl,by omega,by omega,_,λi Z g'=>j7 g' d/\Gr d g g'/\(∃rs:List dZ,rs.length<=i/\rs.all (k9 cs)=true/\g'[g.length]?=some (.lst (t8 rs)))/\∃z3 z4,Z=[some (.ref d),some (.ref a),some (.ref g.length),z3,z4],λ_ _ _ _=>B5,⟨D2,(e1.gr d).trans ((Gr.snoc d g1 _).trans G2),⟨[],by simp,rfl,((Gr.snoc d g1 _).trans G2).at (by omega) Gu⟩,none,none,rfl⟩,λi x Z g' hx q=>?_,λZ g' q=>?_⟩
 ·obtain⟨D3,G3,⟨rs,hl,hA,hF⟩,z3,z4,rfl⟩:=q;obtain⟨hi,rfl⟩:=G0 hx;have hi:i<j:=by simpa using hi
  refine m5 ?_
  try show wpS _ _ _ _ _ _
  walk_at"";have xT:=G3.at (bE hd) ha;refine Uv (k:=k) hT xT hz hd D3 λg4 D4 G4=>⟨?_,λr hr=>?_⟩
  ·walk_at"";exact⟨D4,G3.trans G4,⟨rs,by omega,hA,G4.at (by omega) hF⟩,_,_,rfl⟩
  ·walk_at"";refine ik rfl ?_;walk_at"";have AY:=G4.at (by omega) hF
   try refine⟨S5 AY,?_⟩
   walk_at"";refine L1 AY (by simp[t8];omega) ?_;walk_at"";refine⟨D4.K0 (by omega),(G3.trans G4).K0 (av _),⟨rs++[r],by simp;omega,by rw[List.all_append,hA];simp[hr],?_⟩,_,_,rfl⟩;rw[get_set AY];simp[t8]
 ·obtain⟨D3,G3,⟨rs,hl,hA,hF⟩,z3,z4,rfl⟩:=q;rw[q8] at hl
  try show wpS _ _ _ _ _ _
  walk_at"";exact h rs _ _ (by simp at hl;omega) hA hF (av _) D3 G3
theorem Ta{cs:List b7}{i:Nat}(hi:i<cs.length):gP (cs.map b7.d) (i:Int)=some (cL cs i).d:=C7 (by rw[ai,ah hi,A4 (ah hi)];rfl)
end
noncomputable abbrev kK(H:List Nat):Nat->Bool:=λi=>decide (i∈H)
section
variable{T:Nat->Option aZ}{k d:Nat}{g g':G}{Q:KD}{E:KX}{a b c hl p:Nat}{cs:List b7}{rs:List dZ}{v:Int}{H:List Nat}
end
section
variable{T:Nat->Option aZ}{k d:Nat}{g g':G}{Q:KD}{E:KX}{a b c hl p:Nat}{cs:List b7}{rs:List dZ}{v:Int}{H:List Nat}
end
def yT:aZ:=⟨3,3,(.seq (.ret (.eL (cE (.cmp .NotEq) (.call 91 (dE bh bp)) bh) (cE (.cmp .Is) (.call 101 (gI aP bh bp)) (.lit .bQ)))) .pass)⟩
def Ds:aZ:=⟨2,2,(.seq (.ret (.comp [0,1] 4 (.one 3) (.fA (dX (.fld "size") aP)) (.fS (.call 115 (gI aP bh bR))) bR)) .pass)⟩
def X2(cs:List b7)(v:Int)(rs:List dZ)(s p:Nat):Bool:=!s.testBit p&&decide (fault cs v rs s.testBit p="")
def u9(cs:List b7)(v:Int)(rs:List dZ)(s:Nat):List Nat:=(List.range cs.length).filter (X2 cs v rs s)
theorem LB(x:Str):L6 (tI x)=decide (x=""):=by
 unfold tI;by_cases h:x=""
 ·rw[aK h,aF h];rfl
 ·rw[aD h,aL h];rfl
theorem XH{s p:Nat}:decide (((s |||2 ^ p:Nat):Int)=(s:Nat))=s.testBit p:=by
 rw[bc,dq];constructor
 ·intro h;have h:s |||2 ^ p=s:=by omega
  have:=M4 s p p;rw[h] at this;rw[this];simp
 ·intro h;have:s |||2 ^ p=s:=zr λi=>by
   rw[M4];by_cases hi:i=p
   ·subst hi;rw[h];rfl
   ·rw[aL hi,Bool.or_false]
  rw[this]
structure TF(T:Nat->Option aZ):Prop where
 rK:T 115=some yT
 Bj:T 116=some Ds
section
variable{T:Nat->Option aZ}{k d:Nat}{g g':G}{Q:KD}{E:KX}{a b c hl p:Nat}{cs:List b7}{rs:List dZ}{v:Int}{H:List Nat}
theorem aQ4(hT:TB0 T)(rK:T 115=some yT)(B:Bd g b cs v rs)(hz:cs.length<=9)(hr:rs.length<=900){s p:Nat}(hs:s<2 ^ cs.length)(hp:p<cs.length)(h:∀g',Ex g g'->Q (.bl (X2 cs v rs s p)) g'):c8 T (k+4) 115 [.ref b,.int (s:Nat),.int (p:Nat)] g Q E:=by
 refine call_of rK rfl ?_;dsimp[yT,d7,List.replicate];walk_at"";refine w6 (k:=k+2) hT.nY (by omega) ?_;walk_at"";rw[XH];cases hb:s.testBit p with
 |true =>
  refine gG rfl ?_;have:X2 cs v rs s p=false:=by unfold X2;rw[hb];rfl
  rw[this] at h;exact h _ (Ex.refl _)
 |false =>
  refine ik rfl ?_;walk_at"";refine Ke (k:=k) hT B hz hr hs hp λg1 e1=>?_;walk_at"";have:X2 cs v rs s p=L6 (tI (fault cs v rs s.testBit p)):=by unfold X2;rw[hb,LB];rfl
  rw[this] at h;exact h _ e1
theorem T9(hT:TB0 T)(hF:TF T)(B:Bd g b cs v rs)(hz:cs.length<=9)(hr:rs.length<=900){s:Nat}(hs:s<2 ^ cs.length)(h:∀g' l,Ex g g'->g.length<=l->g'[l]?=some (.lst (d4 (u9 cs v rs s)))->Q (.ref l) g'):c8 T (k+5) 116 [.ref b,.int (s:Nat)] g Q E:=by
 refine call_of hF.Bj rfl ?_;dsimp[Ds,d7,List.replicate];obtain⟨w,l,dd,nb,h1,h2,h3,h4,h5⟩:=B.ex;walk_at"";refine F7 (b0 T _) (λZ=>∃z2 z3,Z=[some (.ref b),some (.int (s:Nat)),z2,z3]) (X2 cs v rs s) (λi=>.int (i:Nat)) (l:=k8 0 cs.length) (λg' e=>B5) (by rw[q8];omega) ⟨none,none,rfl⟩ (λi d Z g' hx e sh=>?_) (λg' e=>?_) (HB (b0 T _) (by omega:cs.length<=1000) λQ q=>?_)
 ·obtain⟨z2,z3,rfl⟩:=sh;obtain⟨hi,rfl⟩:=G0 hx;rw[kE];refine m5 ?_
  try show cT _ _ _ _ _ _
  walk_at"";refine aQ4 (k:=k) hT hF.rK (B.at e) hz hr hs hi λg2 e2=>?_;walk_at"";refine⟨rfl,e.trans e2,?_⟩;cases X2 cs v rs s i with
  |true =>
   refine ik rfl ?_;walk_at"";exact⟨rfl,e.trans e2,_,_,rfl⟩
  |false=>exact gG rfl ⟨_,_,rfl⟩
 ·rw[q8];exact h _ _ (e.trans (Ex.snoc _ _)) e.len b8
 ·walk_at"";exact U0 h1 rfl q
end
def L3:aZ:=⟨2,4,(.seq (.ifs (ff .NotEq (dX .len bh) aP) (.seq (.ret (cE .tup (iJ "many") (dX .len bh))) .pass) .pass) (.seq (.dY (.many [2,3]) (.jS bh) (.seq (.ifs (.eX (.fS (.call 1 (gI bR (bf 0) (cE (.bin .Sub) aP (bf 1)))))) (.seq (.ret (cE .tup (iJ "stranger") bp)) .pass) .pass) (.seq (.ifs (ff .In bR (cE (.mS false true) bh bp)) (.seq (.ret (cE .tup (iJ "twice") bp)) .pass) .pass) .pass))) (.seq (.ret (.lit .bQ)) .pass)))⟩
def CM:aZ:=⟨2,7,(.seq (.set 2 (.call 102 (dE (dX (.fld "size") aP) bh))) (.seq (.ifs (ff .IsNot bp (.lit .bQ)) (.seq (.ret bp) .pass) .pass) (.seq (.set 3 (bf 0)) (.seq (.dY (.many [4,5]) (.jS bh) (.seq (.set 6 (.call 101 (gI aP bR fz))) (.seq (.ifs (ff .IsNot fk (.lit .bQ)) (.seq (.ret (cE .tup fk dg)) .pass) .pass) (.seq (.set 3 (.call 91 (dE bR fz))) .pass)))) (.seq (.ret (.lit .bQ)) .pass)))))⟩
def O3:aZ:=⟨4,4,(.seq (.ret (.call 103 (dE (.call 99 (gI aP bh bp)) bR))) .pass)⟩
theorem KJ{α:Type}{f:Nat->Option α}{i:Nat}:(List.range (i+1)).findSome? f=none↔(List.range i).findSome? f=none/\f i=none:=by
 rw[dj,xg];cases (List.range i).findSome? f<;>simp
theorem Ec{α:Type}{f:Nat->Option α}{i n:Nat}{r:α}(h:(List.range i).findSome? f=none)(hi:i<n)(hr:f i=some r):(List.range n).findSome? f=some r:=by
 have e:List.range n=List.range i++(List.range (n-i)).map (i+·):=by
  rw[<- List.range_add]
  congr 1
  omega
 obtain⟨m,hm⟩:∃m,n-i=m+1:=⟨n-i-1,by omega⟩
 rw[e,xg,h,hm,List.range_succ_eq_map];simp[hr]
def lM(n:Nat)(ns:List Int)(i:Nat):Option (Str×Nat):=if 0<=ns.getD i 0/\ns.getD i 0<n then(if ns.getD i 0∈ns.take i then some ("twice",i) else none) else some ("stranger",i)
def H9(ns:List Int)(i:Nat):List Nat:=(ns.take i).map Int.toNat
def oI(cs:List b7)(v:Int)(rs:List dZ)(ns:List Int)(i:Nat):Option (Str×Nat):=if fault cs v rs (kK (H9 ns i)) (ns.getD i 0).toNat="" then none else some (fault cs v rs (kK (H9 ns i)) (ns.getD i 0).toNat,i)
def pairF:Option (Str×Nat)->D
 |some (w,i)=>.tup [.str w,.int i]
 |none=>.bQ
def wO(cs:List b7)(v:Int)(rs:List dZ)(ns:List Int):Option (Str×Nat) :=
 if ns.length=cs.length then((List.range ns.length).findSome? (lM cs.length ns)).orElse λ_=>(List.range ns.length).findSome? (oI cs v rs ns) else some ("many",ns.length)
theorem getD_at{ns:List Int}{i:Nat}{x:Int}(h:ns[i]?=some x):ns.getD i 0=x:=by simp[List.getD,h]
theorem XR{n:Nat}{ns:List Int}(h:(List.range ns.length).findSome? (lM n ns)=none){i:Nat}(hi:i<ns.length):(0<=ns.getD i 0/\ns.getD i 0<n)/\ns.getD i 0∉ns.take i:=by
 have:=gA.mp h i (aH.mpr hi);unfold lM at this;split at this
 ·rename_i h1;split at this
  ·cases this
  ·rename_i h2;exact⟨h1,h2⟩
 ·cases this
theorem aV2{ns:List Int}{i:Nat}(hi:i<ns.length):H9 ns (i+1)=H9 ns i++[(ns.getD i 0).toNat]:=by
 unfold H9;rw[bx,ah hi,getD_at (ah hi),bH]
 rfl
theorem Tw{l:List Int}{x:Int}:(l.any λm=>m==x)=decide (x∈l):=by
 rw[bc,bK,dq];exact⟨λ⟨y,hy,e⟩=>(fb.mp e)▸hy,λhy=>⟨x,hy,by simp⟩⟩
structure TO(T:Nat->Option aZ):Prop where
 rO:T 102=some L3
 Bn:T 103=some CM
section
variable{T:Nat->Option aZ}{k d:Nat}{g g':G}{Q:KD}{E:KX}{a b c r:Nat}{cs:List b7}{rs:List dZ}{v:Int}{ns:List Int}
theorem Zj(h1:NF T)(rO:T 102=some L3){n:Nat}(hr:g[r]?=some (.lst (ns.map .int)))(hz:ns.length<=100)(h:∀g',Ex g g'->Q (pairF (if ns.length=n then(List.range ns.length).findSome? (lM n ns) else some ("many",ns.length))) g'):c8 T (k+3) 102 [.int (n:Nat),.ref r] g Q E:=by
 refine call_of rO rfl ?_;dsimp[L3,d7,List.replicate];walk_at"";rw[ag];by_cases hn:ns.length=n
 ·rw[aK hn] at h;refine gG (by rw[aF (by omega)];rfl) ?_;walk_at"";refine x8 (b0 T _) (sY ?_);walk_at"";refine⟨r,_,rfl,a8 hr,kR (ns.map .int),λi Z g'=>Ex g g'/\(List.range i).findSome? (lM n ns)=none/\∃z2 z3,Z=[some (.int (n:Nat)),some (.ref r),z2,z3],λi Z g' q=>T8 (a8 (q.1.at hr)),⟨Ex.refl _,rfl,none,none,rfl⟩,λi x Z g' hx q=>?_,λZ g' q=>?_⟩
  ·obtain⟨e1,q,z2,z3,rfl⟩:=q;obtain⟨dd,hd,rfl⟩:=N1 hx;rw[ai,aa] at hd;obtain⟨x,pI,rfl⟩:=hd;have hi:i<ns.length:=(aj.mp pI).1;have hg:=getD_at pI;refine A9 rfl ?_
   try show wpS _ _ _ _ _ _
   walk_at"";refine w5 (k:=k) h1 ?_;walk_at"";by_cases hs:0<=x/\x<n
   ·rw[aF hs.1,aF (show x<=(n:Int)-1 by omega)];refine gG rfl ?_;walk_at"";refine Em (a8 (e1.at hr)) ?_;rw[Ma (by rw[ag];omega),<- jP];refine BU (Jc (a8 b8) ?_);rw[Tw];walk_at"";refine if2 (λht=>?_) (λht=>?_)
    ·walk_at"";rw[Ec q hi (show lM n ns i=some (("twice":Str),i) by unfold lM;rw[hg,aK hs,aK ht])] at h;exact h _ (e1.trans (Ex.snoc _ _))
    ·walk_at"";exact⟨e1.trans (Ex.snoc _ _),KJ.mpr ⟨q,by unfold lM;rw[hg,aK hs,aD ht]⟩,_,_,rfl⟩
   ·have:(decide (0<=x)&&decide (x<=(n:Int)-1))=false:=by
     rw[xh,cI,cI];omega
    rw[this];walk_at"";rw[Ec q hi (show lM n ns i=some (("stranger":Str),i) by unfold lM;rw[hg,aD hs])] at h;exact h _ e1
  ·obtain⟨e1,q,z2,z3,rfl⟩:=q;rw[C5,ag] at q;rw[q] at h
   try show wpS _ _ _ _ _ _
   walk_at"";exact h _ e1
 ·rw[aD hn] at h;refine ik (by rw[aL (by omega)];rfl) ?_;walk_at"";rw[ag];exact h _ (Ex.refl _)
theorem a92{o:Option (Str×Nat)}:L6 (pairF o)=o.isNone:=by cases o<;>rfl
theorem aH2(hT:TB0 T)(hO:TO T)(B:Bd g b cs v rs)(hz:cs.length<=9)(hR:rs.length<=900)(hr:g[r]?=some (.lst (ns.map .int)))(hl:ns.length<=100)(h:∀g',Ex g g'->Q (pairF (wO cs v rs ns)) g'):c8 T (k+4) 103 [.ref b,.ref r] g Q E:=by
 refine call_of hO.Bn rfl ?_;dsimp[CM,d7,List.replicate];obtain⟨w0,l0,dd,nb,f1,f2,f3,f4,f5⟩:=B.ex;walk_at"";refine U0 f1 rfl ?_;walk_at"";refine Zj (k:=k) hT.nf hO.rO hr hl λg1 e1=>?_;walk_at"";rw[a92];unfold wO at h;by_cases hn:ns.length=cs.length
 ·rw[aK hn] at h ⊢;cases hp:(List.range ns.length).findSome? (lM cs.length ns) with
  |some x =>
   refine ik rfl ?_;walk_at"";rw[hp] at h;exact h _ e1
  |none =>
   refine gG rfl ?_;walk_at"";rw[hp] at h;have B1:=B.at e1;refine x8 (b0 T _) (sY ?_);walk_at"";refine⟨r,_,rfl,a8 (e1.at hr),kR (ns.map .int),λi Z g'=>Ex g1 g'/\(List.range i).findSome? (oI cs v rs ns)=none/\∃(s:Nat) (z4 z5 z6:Option D),s<2 ^ cs.length/\(∀j,s.testBit j=kK (H9 ns i) j)/\Z=[some (.ref b),some (.ref r),some .bQ,some (.int (s:Nat)),z4,z5,z6],λi Z g' q=>T8 (a8 ((e1.trans q.1).at hr)),⟨Ex.refl _,rfl,0,none,none,none,mI _,λj=>by simp[H9],rfl⟩,λi x Z g' hx q=>?_,λZ g' q=>?_⟩
   ·obtain⟨e2,q,s,z4,z5,z6,hs,hb,rfl⟩:=q;obtain⟨d2,hd,rfl⟩:=N1 hx;rw[ai,aa] at hd;obtain⟨x,pI,rfl⟩:=hd;have hi:i<ns.length:=(aj.mp pI).1;have hg:=getD_at pI;have jT:=XR hp hi;rw[hg] at jT;obtain⟨p,rfl⟩:∃p:Nat,x=p:=⟨x.toNat,by omega⟩
    have nv:p<cs.length:=by omega
    refine A9 rfl ?_
    try show wpS _ _ _ _ _ _
    walk_at"";refine Ke (k:=k) hT (B1.at e2) hz hR hs nv λg3 e3=>?_;walk_at"";have ef:fault cs v rs s.testBit p=fault cs v rs (kK (H9 ns i)) p:=aH3 λj _=>hb j;rw[ef];have Gp:oI cs v rs ns i=if fault cs v rs (kK (H9 ns i)) p="" then none else some (fault cs v rs (kK (H9 ns i)) p,i):=by unfold oI;rw[hg];rfl
    generalize fault cs v rs (kK (H9 ns i)) p=fx at *;rw[LB];by_cases vg:fx=""
    ·refine gG (by rw[aF vg];rfl) ?_;walk_at"";refine w6 (k:=k+2) hT.nY (by omega) ?_;walk_at"";refine⟨e2.trans e3,KJ.mpr ⟨q,by rw[Gp,aK vg]⟩,_,_,_,_,Q8 hs nv,λj=>?_,rfl⟩;rw[M4,hb,aV2 hi,hg];rw[bc];simp only[Bool.or_eq_true,decide_eq_true_eq,List.mem_append,List.mem_singleton,Int.toNat_natCast]
    ·refine ik (by rw[aL vg];rfl) ?_;walk_at"";have h2:=Ec q hi (show oI cs v rs ns i=some (fx,i) by rw[Gp,aD vg]);have ew:tI fx=.str fx:=by unfold tI;rw[aD vg]
     rw[ew];rw[show(Option.none.orElse λ_:Unit=>(List.range ns.length).findSome? (oI cs v rs ns))=some (fx,i) from h2] at h;exact h _ (e1.trans (e2.trans e3))
   ·obtain⟨e2,q,s,z4,z5,z6,hs,hb,rfl⟩:=q;rw[C5,ag] at q;rw[show(Option.none.orElse λ_:Unit=>(List.range ns.length).findSome? (oI cs v rs ns))=none from q] at h
    try show wpS _ _ _ _ _ _
    walk_at"";exact h _ (e1.trans e2)
 ·rw[aD hn] at h ⊢;refine ik rfl ?_;walk_at"";exact h _ e1
end
structure Ask(g:G)(a c:Nat)(cs:List b7)(v:Int)(rs:List dZ):Prop where
 ha:g[a]?=some (.lst (cs.map b7.d))
 hz:cs.length<=9
 hG:∀c∈cs,iz c
 hv:1<=v/\v<=9
 hc:g[c]?=some (.lst (t8 rs))
 hr:rs.length<=900
 hR:rs.all (k9 cs)=true
section
variable{T:Nat->Option aZ}{k d:Nat}{g g':G}{Q:KD}{E:KX}{a b c r:Nat}{cs:List b7}{rs:List dZ}{v:Int}{ns:List Int}
theorem Ask.at(h:Ask g a c cs v rs)(e:Ex g g'):Ask g' a c cs v rs:=⟨e.at h.ha,h.hz,h.hG,h.hv,e.at h.hc,h.hr,h.hR⟩
theorem Ask.gr(h:Ask g a c cs v rs)(e:Gr d g g')(h1:a≠d)(h2:c≠d):Ask g' a c cs v rs:=⟨e.at h1 h.ha,h.hz,h.hG,h.hv,e.at h2 h.hc,h.hr,h.hR⟩
theorem Ask.hB(h:Ask g a c cs v rs):∀c∈cs,CB c:=λc hc=>⟨(h.hG c hc).l8,(h.hG c hc).u8⟩
theorem Ask.good(h:Ask g a c cs v rs):cs.all p0=true:=bo.mpr λc hc=>(h.hG c hc).good
theorem Jv(hT:TB T)(A:Ask g a c cs v rs)(h:∀g' b,Ex g g'->g.length<=b->Bd g' b cs v rs->Q (.ref b) g'):c8 T (k+10) 99 [.ref a,.int v,.ref c] g Q E:=JK hT A.ha A.hz A.good A.hB A.hv A.hc A.hr A.hR h
theorem ZU{l:List D}{ns:List Int}(h:l.Perm (ns.map D.int)):∃ms:List Int,l=ms.map D.int/\ms.Perm ns:=by
 have hm:∀x∈l,∃i,x=D.int i:=λx hx=>by
  obtain⟨i,_,e⟩:=aM.mp (h.mem_iff.mp hx);exact⟨i,e.symm⟩
 have:∀l:List D,(∀x∈l,∃i,x=D.int i)->∃ms:List Int,l=ms.map D.int:=λl=>by
  induction l with
  |nil=>exact λ_=>⟨[],rfl⟩
  |cons x r ih =>
   intro h;obtain⟨i,rfl⟩:=h x (by simp);obtain⟨ms,rfl⟩:=ih λy hy=>h y (by simp[hy]);exact⟨i::ms,rfl⟩
 obtain⟨ms,rfl⟩:=this l hm;refine⟨ms,rfl,?_⟩;have:=h.map λx=>match x with|.int i=>i|_=>0
 simpa[List.map_map,Function.comp_def] using this
end
def FG(n:Nat)(F:Nat->List Nat):Prop:=∀s p,p∈F s->p<n/\s.testBit p=false
def Q1(n:Nat)(F:Nat->List Nat):Nat->Nat->List (List Nat)
 |0,s=>if s=2 ^ n-1 then[[]] else[]
 |f+1,s=>if s=2 ^ n-1 then[[]] else(F s).flatMap λp=>(Q1 n F f (s |||2 ^ p)).map (p::·)
def m9(n:Nat)(F:Nat->List Nat)(s:Nat):List (List Nat):=Q1 n F (2 ^ n) s
theorem yn{s p:Nat}(h:s.testBit p=false):s<s |||2 ^ p:=by
 have h1:s<=s |||2 ^ p:=Nat.left_le_or
 have h2:s |||2 ^ p≠s:=λe=>by
  have:=M4 s p p;rw[e,h] at this;simp at this
 omega
theorem J5{α β:Type}{l:List α}{f g:α->List β}(h:∀x∈l,f x=g x):l.flatMap f=l.flatMap g:=by
 induction l with
 |nil=>rfl
 |cons a r ih=>rw[dz,dz,h a (by simp),ih λx hx=>h x (by simp[hx])]
theorem JD{n:Nat}{F:Nat->List Nat}(hF:FG n F):∀(f s:Nat),s<2 ^ n->2 ^ n-1-s<=f->Q1 n F f s=Q1 n F (f+1) s
 |0,s,hs,hf=>by
  have e:s=2 ^ n-1:=by omega
  simp only[Q1];rw[aK e,aK e]
 |f+1,s,hs,hf=>by
  rw[Q1,Q1];by_cases e:s=2 ^ n-1
  ·rw[aK e,aK e]
  ·rw[aD e,aD e];refine J5 λp hp=>?_;have:=hF s p hp;rw[JD hF f (s |||2 ^ p) (Q8 hs this.1) (by have:=yn this.2;omega)]
theorem Dk{n:Nat}{F:Nat->List Nat}{s:Nat}(h:s=2 ^ n-1):m9 n F s=[[]]:=by
 unfold m9;obtain⟨m,hm⟩:∃m,2 ^ n=m+1:=⟨2 ^ n-1,by have:=gi (n:=n);omega⟩
 rw[hm,Q1,aK h]
theorem Cw{n:Nat}{F:Nat->List Nat}(hF:FG n F){s:Nat}(hs:s<2 ^ n)(h:s≠2 ^ n-1):m9 n F s=(F s).flatMap λp=>(m9 n F (s |||2 ^ p)).map (p::·):=by
 unfold m9;obtain⟨m,hm⟩:∃m,2 ^ n=m+1:=⟨2 ^ n-1,by have:=gi (n:=n);omega⟩
 conv=>lhs;rw[hm,Q1,aD h]
 refine J5 λp hp=>?_;have:=hF s p hp;rw[hm,<- JD hF m (s |||2 ^ p) (Q8 hs this.1) (by omega)]
theorem U'{n:Nat}{F:Nat->List Nat}(hF:FG n F){s:Nat}(hs:s<2 ^ n)(h:s≠2 ^ n-1):(m9 n F s).length=((F s).map λp=>(m9 n F (s |||2 ^ p)).length).sum:=by
 rw[Cw hF hs h,List.length_flatMap];simp[Function.comp_def]
inductive ku(F:Nat->List Nat):Nat->Prop
 |zero:ku F 0
 |step {s p:Nat} (h:ku F s) (hp:p∈F s):ku F (s |||2 ^ p)
theorem ku.lt{n:Nat}{F:Nat->List Nat}(hF:FG n F){s:Nat}(h:ku F s):s<2 ^ n:=by
 induction h with
 |zero=>exact mI _
 |step h hp ih=>exact Q8 ih (hF _ _ hp).1
theorem K5(cs:List b7)(v:Int)(rs:List dZ):FG cs.length (u9 cs v rs):=λs p hp=>by
 obtain⟨h1,h2⟩:=aT.mp hp;unfold X2 at h2;rw[aU,kF] at h2;exact⟨aH.mp h1,h2.1⟩
theorem aQ7{α β:Type}{f:α->List β}{l:List α}{j:Nat}{x:α}(hx:l[j]?=some x)(m:Nat):(l.flatMap f)[((l.take j).flatMap f).length+m]?=((l.drop j).flatMap f)[m]?/\(l.drop j).flatMap f=f x++(l.drop (j+1)).flatMap f:=by
 have e:l.flatMap f=(l.take j).flatMap f++(l.drop j).flatMap f:=by rw[<- EO,iW]
 have hj:j<l.length:=(aj.mp hx).1;have ed:l.drop j=x::l.drop (j+1):=by
  rw[eM hj]
  congr 1
  exact(aj.mp hx).2
 constructor
 ·rw[e,bB (by omega)]
  congr 1
  omega
 ·rw[ed,dz]
noncomputable abbrev kN(j:Nat):Key:=.inl (j:Int)
theorem a59{kvs:List (Key×D)}{c:Key}{x:D}:n8 (putD kvs c x) c=some x:=by
 unfold n8 putD;by_cases h:(kvs.any λkv=>decide (kv.1=c))=true
 ·rw[aK h]
  induction kvs with
  |nil=>cases h
  |cons kv r ih =>
   rw[bg,eZ];by_cases hk:kv.1=c
   ·rw[aK hk];simp[hk]
   ·rw[aD hk];simp only[hk,decide_false];refine ih ?_;rw[fI,cV] at h;exact h.resolve_left (by simp[hk])
 ·rw[aD h,kD];have:kvs.find? (λkv=>decide (kv.1=c))=none:=by
   rw[gC];exact λkv hk hc=>h (bK.mpr ⟨kv,hk,hc⟩)
  rw[this];simp
theorem aU8{kvs:List (Key×D)}{c c':Key}{x:D}(hn:c≠c'):n8 (putD kvs c x) c'=n8 kvs c':=by
 unfold n8 putD;by_cases h:(kvs.any λkv=>decide (kv.1=c))=true
 ·rw[aK h];clear h
  induction kvs with
  |nil=>rfl
  |cons kv r ih =>
   rw[bg,eZ,eZ];by_cases hk:kv.1=c
   ·rw[aK hk];have:kv.1≠c':=λz=>hn (hk.symm.trans z);simp only[this,decide_false];exact ih
   ·rw[aD hk];by_cases nW:kv.1=c'
    ·simp only[nW,decide_true]
    ·simp only[nW,decide_false];exact ih
 ·rw[aD h,kD];have:[(c,x)].find? (λkv=>decide (kv.1=c'))=none:=by simp[hn]
  rw[this];simp
theorem a58{kvs:List (Key×D)}{c:Key}{x:D}:(putD kvs c x).length<=kvs.length+1:=by
 unfold putD;split<;>simp
theorem Xq{i j:Nat}(h:i≠j):kN i≠kN j:=λz=>h (by have:(i:Int)=j:=zp z;omega)
def J1:aZ:=⟨1,5,(.seq (.set 1 (.prim (.kc 0) .nil)) (.seq (.set 2 (.prim .lst .nil)) (.seq (.dY (.one 3) (.fA (cE (.bin .Add) (dX (.fld "full") aP) (bf 1))) (.seq (.ifs (ff .In bR bh) (.seq (.expr (.dR .append bp (eO bR))) (.seq (.dY (.one 4) (.fF (.call 116 (dE aP bR))) (.seq (.expr (.dR .kd bh (eO (.call 91 (dE bR dg))))) .pass)) .pass)) .pass) .pass)) (.seq (.ret bp) .pass))))⟩
def Ct:aZ:=⟨1,3,(.seq (.set 1 (.prim .oV .nil)) (.seq (.dY (.one 2) (.nV (.call 117 (eO aP))) (.seq (.ifs (ff .Eq bp (dX (.fld "full") aP)) (.seq (.eF bh bp (bf 1)) .pass) (.seq (.eF bh bp (dX .sum (.comp [2,1] 4 (.one 3) (.fF (.call 116 (dE aP bp))) .no (df bh (.call 91 (dE aP bR)))))) .pass)) .pass)) (.seq (.ret bh) .pass)))⟩
def yK:aZ:=⟨4,7,(.seq (.set 4 (.call 116 (dE aP bp))) (.seq (.set 5 bR) (.seq (.set 6 (bf 0)) (.seq (.jE (ff .GtE fz (df bh (.call 91 (dE bp (df dg fk))))) (.seq (.kr 5 .nk (df bh (.call 91 (dE bp (df dg fk))))) (.seq (.kr 6 .iadd (bf 1)) .pass))) (.seq (.ret (cE .tup (df dg fk) fz)) .pass)))))⟩
def M8:aZ:=⟨3,7,(.seq (.set 3 (.prim .lst .nil)) (.seq (.set 4 (bf 0)) (.seq (.set 5 bp) (.seq (.jE (ff .NotEq dg (dX (.fld "full") aP)) (.seq (.mj (.many [6,5]) (.call 122 (qw aP bh dg fz))) (.seq (.expr (.dR .append bR (eO fk))) (.seq (.set 4 (.call 91 (dE dg fk))) .pass)))) (.seq (.ret bR) .pass)))))⟩
def yU:aZ:=⟨3,3,(.seq (.ret (df (.call 121 (eO (.call 99 (gI aP bh bp)))) (bf 0))) .pass)⟩
theorem Y0:∀{l m:List Nat},l.Nodup->(∀x∈l,x∈m)->l.length<=m.length
 |[],m,_,_=>cJ _
 |x::r,m,nd,h=>by
  rw[cU] at nd;have:=Y0 (l:=r) (m:=m.erase x) nd.2 λy hy=>(zw λz=>nd.1 (by rw[<- z];exact hy)).mpr (h y (by simp[hy]));have hx:=h x (by simp);rw[gY hx] at this;have:=fh hx;simp;omega
section
variable{P:fH}{Z:S}{g:G}{Q:KD}{E:KX}{t:MT}{it elt:ME}{d6:List Nat}{n:Nat}
theorem IV(hP:i7 P)(h:fj P it Z g (λk g1=>∃(l:List D) (Sh:S->Prop) (w:Nat->D),(∀g',Ex g1 g'->k.Is l g')/\l.length<=1000/\Sh (E2 Z d6 n) /\
      (∀ i d Z g',l[i]?=some d->Ex g1 g'->Sh Z->jx t d Z λcK=>aS P elt cK g' (λy g4=>y=w i/\Ex g1 g4/\Sh cK) jk)/\∀ g',Ex g1 g'->Q (.ref g'.length) (g' ++ [.lst ((List.range l.length).map w)])) E):aS P (.comp d6 n t it .no elt) Z g Q E:=by
  refine F0 hP (y9 hP it _ _ _ _ _ _ (λk g1 h=>?_) (λ_ _ z=>z) h);obtain⟨l,Sh,w,hk,hl,h0,hs,hd⟩:=h;refine⟨l,λi ys Z g'=>Ex g1 g'/\ys=(List.range i).map w/\Sh Z,hl,λi ys Z g' q=>⟨hk _ q.1,by rw[q.2.1];simp⟩,⟨Ex.refl _,rfl,h0⟩,λi x ys Z g' hx q=>?_,λys Z g' q=>?_⟩
  · obtain⟨e1,rfl,sh⟩:=q;refine v9 (λcK q=>DT (nr (b9 hP elt _ _ _ _ _ _ (λy g4 q=>?_) (λ_ _ z=>z) q))) (hs i x Z g' hx e1 sh);obtain⟨rfl,e4,sh⟩:=q;exact⟨e4,by rw[dj,bH];rfl,sh⟩
  · obtain⟨e1,rfl,sh⟩:=q;exact hd g' e1
end
def oS(g:G)(sd n:Nat)(K:List Nat):Prop:=∃S m,g[sd]?=some (.set S m)/\m=K.length/\K.Nodup/\(∀j∈K,j<2 ^ n)/\∀k:Int,S k=true↔∃j∈K,k=(j:Nat)
theorem oS.at{g g':G}{sd n:Nat}{K:List Nat}(h:oS g sd n K)(e:Ex g g'):oS g' sd n K:=let ⟨S,m,h1,h2⟩:=h;⟨S,m,e.at h1,h2⟩
theorem oS.size{g:G}{sd n:Nat}{K:List Nat}(h:oS g sd n K):K.length<=2 ^ n:=by
 obtain⟨S,m,_,_,nd,lt,_⟩:=h;have:=Y0 (m:=List.range (2 ^ n)) nd λx hx=>aH.mpr (lt x hx);simpa using this
structure TW(T:Nat->Option aZ):Prop where
 rJ:T 117=some J1
 Bi:T 121=some Ct
structure Wy(g:G)(w:Nat)(cs:List b7)(v:Int)(rs:List dZ):Prop where
 ex:∃kvs,g[w]?=some (.dD kvs)/\∀s,ku (u9 cs v rs) s->n8 kvs (kN s)=some (.int ((m9 cs.length (u9 cs v rs) s).length:Nat))
theorem Wy.at{g g':G}{w:Nat}{cs:List b7}{v:Int}{rs:List dZ}(h:Wy g w cs v rs)(e:Ex g g'):Wy g' w cs v rs:=let ⟨kvs,h1,h2⟩:=h.ex;⟨⟨kvs,e.at h1,h2⟩⟩
theorem aP0{l:List Nat}(hl:l.Pairwise (· > ·)){i s x:Nat}(hi:l[i]?=some s)(hx:x∈l)(h:s<x):x∈l.take i:=by
 obtain⟨j,hj,rfl⟩:=cS.mp hx;obtain⟨iy,rfl⟩:=aj.mp hi;have Oq:j<i:=by
  rcases dU j i with z|z|z
  ·exact z
  ·subst z;omega
  ·have:=pb.mp hl i j iy hj z;omega
 exact fE.mpr ⟨j,by rw[eU Oq,ah hj]⟩
theorem Es{n:Nat}(h:n<=9):1<=2 ^ n/\2 ^ n<=512:=⟨gi,zq (by omega) h⟩
section
variable{T:Nat->Option aZ}{k d:Nat}{g g':G}{Q:KD}{E:KX}{a b c r:Nat}{cs:List b7}{rs:List dZ}{v:Int}
theorem aN7(hT:TB0 T)(hF:TF T)(rJ:T 117=some J1)(B:Bd g b cs v rs)(hz:cs.length<=9)(hr:rs.length<=900)(h:∀(L:List Nat) l g',Ex g g'->g.length<=l->g'[l]?=some (.lst (d4 L))->L.Pairwise (· < ·)->(∀s,s∈L↔ku (u9 cs v rs) s)->L.length<=512->Q (.ref l) g'):c8 T (k+6) 117 [.ref b] g Q E:=by
 refine call_of rJ rfl ?_;dsimp[J1,d7,List.replicate];have lr:=K5 cs v rs;generalize pT:u9 cs v rs=F at *;obtain⟨w0,l0,dd,nb,f1,f2,f3,f4,f5⟩:=B.ex;have p2:=Es hz;walk_at"";refine TY ?_;have s1:oS (g++[O.set (λk=>decide (k=0)) 1]) g.length cs.length [0]:=⟨_,_,b8,rfl,by simp,by simp;omega,λk=>by simp⟩
 have e1:=Ex.snoc g (O.set (λk=>decide (k=0)) 1);generalize g++[O.set (λk=>decide (k=0)) 1]=g1 at *;walk_at"";have e2:=e1.trans (Ex.snoc g1 (O.lst []));have s2:=s1.at (Ex.snoc g1 (O.lst []));have t2:=b8 (g:=g1) (o:=O.lst []);have l1:g.length<g1.length:=by obtain⟨_,_,z,_⟩:=s1;exact k6 z
 generalize g1++[O.lst []]=g2 at *;generalize g1.length=tl at *;refine x8 (b0 T _) (qh (b0 T _) ?_);walk_at"";refine U0 (e2.at f1) rfl ?_;walk_at"";have en:((2 ^ cs.length-1:Nat):Int)+1=((2 ^ cs.length:Nat):Int):=by omega
 rw[en];refine⟨by omega,by omega,k8 0 (2 ^ cs.length),λt Z g'=>Ex g g'/\(∃K,oS g' g.length cs.length K/\∀j,j∈K↔j=0\/∃s p,s<t/\ku F s/\p∈F s/\j=s |||2 ^ p)/\(∃L,g'[tl]?=some (.lst (d4 L))/\L.Pairwise (· < ·)/\(∀s,s∈L↔s<t/\ku F s)/\L.length<=t)/\∃z3 z4,Z=[some (.ref b),some (.ref g.length),some (.ref tl),z3,z4],λ_ _ _ _=>by rw[bO];exact B5,⟨e2,⟨[0],s2,λj=>by simp⟩,⟨[],t2,by simp,by simp,by simp⟩,none,none,rfl⟩,λt x Z g' hx q=>?_,λZ g' q=>?_⟩
 ·obtain⟨e3,⟨K,s3,hK⟩,⟨L,t3,pw,hL,AW⟩,z3,z4,rfl⟩:=q;obtain⟨ht,rfl⟩:=G0 hx;rw[kE];have nz:t∈K↔ku F t:=by
   rw[hK];constructor
   ·rintro(rfl|⟨s,p,_,h2,h3,rfl⟩)
    ·exact .zero
    ·exact .step h2 h3
   ·intro h;cases h with
    |zero=>exact .inl rfl
    |step h hp=>exact .inr ⟨_,_,yn (lr _ _ hp).2,h,hp,rfl⟩
  refine m5 ?_
  try show wpS _ _ _ _ _ _
  walk_at"";obtain⟨S,m,sg,sm,snd,slt,sS⟩:=id s3;refine WT sg ?_;walk_at"";have GC:S (t:Nat)=true↔ku F t:=by
   rw[sS,<- nz];exact⟨λ⟨j,hj,e⟩=>by rw[show t=j by omega];exact hj,λz=>⟨t,z,rfl⟩⟩
  cases hb:S (t:Nat) with
  |false =>
   have jK:¬ku F t:=λz=>by rw[GC.mpr z] at hb;cases hb
   refine gG rfl ?_;walk_at"";refine⟨e3,⟨K,s3,λj=>(hK j).trans ⟨?_,?_⟩⟩,⟨L,t3,pw,λs=>(hL s).trans ⟨λz=>⟨by omega,z.2⟩,λz=>⟨?_,z.2⟩⟩,by omega⟩,_,_,rfl⟩
   ·rintro(z|⟨s,p,h1,h2⟩)
    ·exact .inl z
    ·exact .inr ⟨s,p,by omega,h2⟩
   ·rintro(z|⟨s,p,h1,h2,h3⟩)
    ·exact .inl z
    ·refine .inr ⟨s,p,?_,h2,h3⟩;rcases gb s t with y|y
     ·exact y
     ·exact absurd (show ku F t by rw[show t=s by omega];exact h2) jK
   ·rcases gb s t with y|y
    ·exact y
    ·exact absurd (show ku F t by rw[show t=s by omega];exact z.2) jK
  |true =>
   have hR:=GC.mp hb;refine ik rfl ?_;walk_at"";refine L1 t3 (by simp[d4];omega) ?_;have MV:tl≠g.length:=by omega
   have s4:oS (g'.set tl (.lst (d4 L++[D.int (t:Nat)]))) g.length cs.length K:=⟨S,m,d5 sg MV,sm,snd,slt,sS⟩
   have t4:(g'.set tl (.lst (d4 L++[D.int (t:Nat)])))[tl]?=some (.lst (d4 (L++[t]))):=by rw[get_set t3];simp[d4]
   have e4:Ex g (g'.set tl (.lst (d4 L++[D.int (t:Nat)]))):=⟨by simp;exact e3.len,λi hi=>by rw[aw (by omega)];exact e3.old i hi⟩
   generalize g'.set tl (.lst (d4 L++[D.int (t:Nat)]))=g4 at *;walk_at"";refine x8 (b0 T _) (kL (b0 T _) ?_);walk_at"";refine T9 (k:=k) hT hF (B.at e4) hz hr ht λg5 fl e5 Oz h5=>?_;rw[pT] at h5;have l4:tl<g4.length:=k6 t4;refine⟨fl,_,rfl,a8 h5,d4 (F t),λj Z g'=>Ex g g'/\g'[fl]?=some (.lst (d4 (F t)))/\g'[tl]?=some (.lst (d4 (L++[t])))/\(∃K',oS g' g.length cs.length K'/\∀x,x∈K'↔x∈K\/∃p∈(F t).take j,x=t |||2 ^ p)/\∃z4,Z=[some (.ref b),some (.ref g.length),some (.ref tl),some (.int (t:Nat)),z4],λj Z g' q=>s9 (a8 q.2.1),⟨e4.trans e5,h5,e5.at t4,⟨K,s4.at e5,λx=>by simp⟩,z4,rfl⟩,λj x Z g' hx q=>?_,λZ g' q=>?_⟩
   ·obtain⟨e6,h6,t6,⟨K',s6,tF⟩,z4,rfl⟩:=q;rw[d4,ai,aa] at hx;obtain⟨p,hp,rfl⟩:=hx;have pM:=aJ hp;have nv:=(lr _ _ pM)
    have tk:(F t).take (j+1)=(F t).take j++[p]:=by rw[bx,hp];rfl
    obtain⟨S6,m6,xp,Fd,uE,uF,sU⟩:=id s6;refine m5 ?_
    try show wpS _ _ _ _ _ _
    walk_at"";refine⟨Tz xp,?_⟩;walk_at"";refine w6 (k:=k+4) hT.nY (by omega) ?_;walk_at"";have hsz:=s6.size;refine QL xp (by omega) ?_;walk_at"";have et:=Q8 ht nv.1;refine⟨⟨by simp;exact e6.len,λi hi=>by rw[aw (by omega)];exact e6.old i hi⟩,d5 h6 (by have:=e4.len;omega),d5 t6 (by omega),?_,_,rfl⟩;by_cases jT:S6 ((t |||2 ^ p:Nat):Int)=true
    ·refine⟨K',⟨_,_,get_set xp,by rw[aK jT];exact Fd,uE,uF,λk=>?_⟩,λx=>?_⟩
     ·rw[cV,dq];constructor
      ·rintro(z|z)
       ·exact(sU k).mp z
       ·subst z;exact(sU _).mp jT
      ·exact λz=>.inl ((sU k).mpr z)
     ·rw[tF x,tk];simp only[List.mem_append,List.mem_singleton];constructor
      ·rintro(z|⟨q,z1,z2⟩)
       ·exact .inl z
       ·exact .inr ⟨q,.inl z1,z2⟩
      ·rintro(z|⟨q,z1|z1,z2⟩)
       ·exact .inl z
       ·exact .inr ⟨q,z1,z2⟩
       ·subst z1 z2;obtain⟨y,y1,y2⟩:=(sU _).mp jT;rw[<- tF,show(t |||2 ^ q)=y by omega];exact y1
    ·have Au:(t |||2 ^ p)∉K':=λz=>jT ((sU _).mpr ⟨_,z,rfl⟩);refine⟨K'++[t |||2 ^ p],⟨_,_,get_set xp,by rw[aD jT];simp[Fd],?_,λy hy=>?_,λk=>?_⟩,λx=>?_⟩
     ·rw[cw];exact⟨uE,by simp,λx hx y hy=>by cases aR.mp hy;exact λz=>Au (z▸hx)⟩
     ·rcases aV.mp hy with z|z
      ·exact uF y z
      ·cases aR.mp z;exact et
     ·rw[cV,dq,sU];simp only[List.mem_append,List.mem_singleton];constructor
      ·rintro(⟨y,y1,y2⟩|z)
       ·exact⟨y,.inl y1,y2⟩
       ·exact⟨_,.inr rfl,z⟩
      ·rintro⟨y,y1|y1,y2⟩
       ·exact .inl ⟨y,y1,y2⟩
       ·subst y1;exact .inr y2
     ·rw[aV,aR,tF x,tk];simp only[List.mem_append,List.mem_singleton];constructor
      ·rintro((z|⟨q,z1,z2⟩)|z)
       ·exact .inl z
       ·exact .inr ⟨q,.inl z1,z2⟩
       ·exact .inr ⟨p,.inr rfl,z⟩
      ·rintro(z|⟨q,z1|z1,z2⟩)
       ·exact .inl (.inl z)
       ·exact .inl (.inr ⟨q,z1,z2⟩)
       ·subst z1;exact .inr z2
   ·obtain⟨e6,h6,t6,⟨K',s6,tF⟩,z4,rfl⟩:=q;rw[d4,ag,bJ] at tF
    try show wpS _ _ _ _ _ _
    walk_at"";refine⟨e6,⟨K',s6,λj=>(tF j).trans ?_⟩,⟨L++[t],t6,?_,λs=>?_,by simp;omega⟩,_,_,rfl⟩
    ·rw[hK j];constructor
     ·rintro((z|⟨s,p,h1,h2⟩)|⟨p,h1,h2⟩)
      ·exact .inl z
      ·exact .inr ⟨s,p,by omega,h2⟩
      ·exact .inr ⟨t,p,by omega,hR,h1,h2⟩
     ·rintro(z|⟨s,p,h1,h2,h3,h4⟩)
      ·exact .inl (.inl z)
      ·rcases gb s t with y|y
       ·exact .inl (.inr ⟨s,p,y,h2,h3,h4⟩)
       ·have:s=t:=by omega
        subst this;exact .inr ⟨p,h3,h4⟩
    ·rw[zt];exact⟨pw,by simp,λx hx y hy=>by cases aR.mp hy;exact((hL x).mp hx).1⟩
    ·rw[aV,aR,hL s];constructor
     ·rintro(z|z)
      ·exact⟨by omega,z.2⟩
      ·subst z;exact⟨by omega,hR⟩
     ·rintro⟨z1,z2⟩;rcases gb s t with y|y
      ·exact .inl ⟨y,z2⟩
      ·exact .inr (by omega)
 ·obtain⟨e3,⟨K,s3,hK⟩,⟨L,t3,pw,hL,AW⟩,z3,z4,rfl⟩:=q;rw[q8] at hL AW
  try show wpS _ _ _ _ _ _
  walk_at"";exact h L tl g' e3 (by omega) t3 pw (λs=>(hL s).trans ⟨λz=>z.2,λz=>⟨z.lt lr,z⟩⟩) (by omega)
theorem Lo(hT:TB0 T)(hF:TF T)(hW:TW T)(B:Bd g b cs v rs)(hz:cs.length<=9)(hr:rs.length<=900)(h:∀w g',Ex g g'->g.length<=w->Wy g' w cs v rs->Q (.ref w) g'):c8 T (k+7) 121 [.ref b] g Q E:=by
 refine call_of hW.Bi rfl ?_;dsimp[Ct,d7,List.replicate];have lr:=K5 cs v rs;generalize pT:u9 cs v rs=F at *;obtain⟨w0,l0,dd,nb,f1,f2,f3,f4,f5⟩:=B.ex;have p2:=Es hz;walk_at"";have e1:=Ex.snoc g (O.dD []);have w1:=b8 (g:=g) (o:=O.dD []);generalize g++[O.dD []]=g1 at *;refine x8 (b0 T _) (NC ?_);walk_at"";refine aN7 (k:=k) hT hF hW.rJ (B.at e1) hz hr λL l g2 e2 hl h2 pw hL AW=>?_;rw[pT] at hL;have lw:=k6 w1;have Nf:L.reverse.Pairwise (· > ·):=List.pairwise_reverse.mpr pw;have Ac:(d4 L).length=L.length:=by simp[d4]
 refine⟨l,_,rfl,a8 h2,(d4 L).reverse,λi Z g'=>Ex g g'/\g'[l]?=some (.lst (d4 L))/\(∃kvs,g'[g.length]?=some (.dD kvs)/\kvs.length<=i/\∀s∈L.reverse.take i,n8 kvs (kN s)=some (.int ((m9 cs.length F s).length:Nat)))/\∃z2,Z=[some (.ref b),some (.ref g.length),z2],λi Z g' q=>Qx (a8 q.2.1),⟨e1.trans e2,h2,⟨[],e2.at w1,by simp,by simp⟩,none,rfl⟩,λi x Z g' hx q=>?_,λZ g' q=>?_⟩
 ·obtain⟨e3,h3,⟨kvs,w3,hk,vm⟩,z2,rfl⟩:=q;rw[d4,<- List.map_reverse,ai,aa] at hx;obtain⟨s,hs,rfl⟩:=hx;have Gk:i<L.length:=by have:=(aj.mp hs).1;simpa using this
  have FT:ku F s:=(hL s).mp (lD.mp (aJ hs));have pL:=FT.lt lr;have tk:L.reverse.take (i+1)=L.reverse.take i++[s]:=by rw[bx,hs];rfl
  have fin:∀(N:Ends) g4 z2,Ex g' g4->(∀g5,(Ex g g5/\g5[l]?=some (.lst (d4 L))/\(∃kvs,g5[g.length]?=some (.dD kvs)/\kvs.length<=i+1/\∀s∈L.reverse.take (i+1),n8 kvs (kN s)=some (.int ((m9 cs.length F s).length:Nat)))/\∃z2,([some (.ref b),some (.ref g.length),z2]:S)=[some (.ref b),some (.ref g.length),z2])->N.nx [some (.ref b),some (.ref g.length),z2] g5)->V8 (.ref g.length) (.int (s:Nat)) (.int ((m9 cs.length F s).length:Nat)) g4 λg5=>N.nx [some (.ref b),some (.ref g.length),z2] g5:=λN g4 z2 e4 hN=>by
   refine DK (e4.at w3) rfl (by omega) ?_;refine hN _ ⟨⟨by simp;exact(e3.trans e4).len,λj hj=>by rw[aw (by omega)];exact(e3.trans e4).old j hj⟩,d5 (e4.at h3) (by omega),⟨_,get_set (e4.at w3),aE a58 (by omega),λs' FU=>?_⟩,z2,rfl⟩;rw[tk] at FU;by_cases Am:s'=s
   ·subst Am;exact a59
   ·refine(aU8 (Xq (bT Am))).trans (vm s' ?_);rcases aV.mp FU with z|z
    ·exact z
    ·exact absurd (aR.mp z) Am
  refine m5 ?_
  try show wpS _ _ _ _ _ _
  walk_at"";refine U0 (e3.at f1) rfl ?_;walk_at"";have ed:decide (((s:Nat):Int)=((2 ^ cs.length-1:Nat):Int))=decide (s=2 ^ cs.length-1):=bA.mpr (by omega);rw[ed];refine if2 (λc1=>?_) (λc1=>?_)
  ·walk_at"";have e1:(1:Int)=((m9 cs.length F s).length:Nat):=by rw[Dk c1];rfl
   rw[e1];exact fin _ _ _ (Ex.refl _) λg5 z=>⟨z.1,z.2.1,z.2.2.1,_,rfl⟩
  ·walk_at"";refine IV (b0 T _) (kL (b0 T _) ?_);walk_at"";refine T9 (k:=k+1) hT hF (B.at e3) hz hr pL λg4 fl e4 Oz h4=>?_;rw[pT] at h4;refine⟨fl,_,rfl,a8 h4,d4 (F s),λZ=>∃z2 z3,Z=[some (.int (s:Nat)),some (.ref g.length),z2,z3],λi=>.int ((m9 cs.length F (s |||2 ^ ((F s).getD i 0))).length:Nat),λg' e=>s9 (a8 (e.at h4)),?_,⟨none,none,rfl⟩,λj d Z g5 hx e5 sh=>?_,λg5 e5=>?_⟩
   ·have:(F s).length<=cs.length:=by rw[<- pT];exact U1
    simp[d4];omega
   ·obtain⟨z2,z3,rfl⟩:=sh;rw[d4,ai,aa] at hx;obtain⟨p,hp,rfl⟩:=hx;have pM:=aJ hp;have nv:=lr _ _ pM;refine m5 ?_
    try show aS _ _ _ _ _ _
    walk_at"";refine w6 (k:=k+5) hT.nY (by omega) ?_;have hv:n8 kvs (kN (s |||2 ^ p))=some (.int ((m9 cs.length F (s |||2 ^ p)).length:Nat)):=by
     refine vm _ (aP0 Nf hs (lD.mpr ((hL _).mpr (.step FT pM))) (yn nv.2))
    refine tP ((e4.trans e5).at w3) rfl hv ?_;exact⟨by simp[List.getD,hp],e5,_,_,rfl⟩
   ·have el:(List.range (d4 (F s)).length).map (λi=>D.int ((m9 cs.length F (s |||2 ^ ((F s).getD i 0))).length:Nat))=(((F s).map λp=>(m9 cs.length F (s |||2 ^ p)).length).map λ(n:Nat)=>(n:Int)).map D.int:=by
     refine fi λi=>?_;rw[ai,ai,ai,ai];by_cases hi:i<(F s).length
     ·rw[cW (by simpa[d4] using hi),ah hi];simp[List.getD,hi]
     ·rw[ba (by simpa[d4] using hi),ba (by omega)]
      rfl
    rw[el];refine Ir (a8 b8) ?_;have es:(((F s).map λp=>(m9 cs.length F (s |||2 ^ p)).length).map λ(n:Nat)=>(n:Int)).sum=((m9 cs.length F s).length:Nat):=by
     rw[U' lr pL c1];generalize (F s).map (λp=>(m9 cs.length F (s |||2 ^ p)).length)=m
     induction m with
     |nil=>rfl
     |cons x r ih=>simp[ih]
    rw[es];walk_at"";exact fin _ _ _ (e4.trans (e5.trans (Ex.snoc _ _))) λg6 z=>⟨z.1,z.2.1,z.2.2.1,_,rfl⟩
 ·obtain⟨e3,h3,⟨kvs,w3,hk,vm⟩,z2,rfl⟩:=q;rw[List.length_reverse,Ac,iB (by simp)] at vm
  try show wpS _ _ _ _ _ _
  walk_at"";refine h _ _ e3 (av _) ⟨⟨kvs,w3,λs hs=>?_⟩⟩;rw[pT] at hs ⊢;exact vm s (lD.mpr ((hL s).mpr hs))
end
structure TN(T:Nat->Option aZ):Prop where
 rH:T 122=some yK
 Bh:T 123=some M8
section
variable{T:Nat->Option aZ}{k d:Nat}{g g':G}{Q:KD}{E:KX}{a b c r w:Nat}{cs:List b7}{rs:List dZ}{v:Int}
theorem JP(hT:TB T)(hF:TF T)(hW:TW T)(oH:T 126=some yU)(ha:g[a]?=some (.lst (cs.map b7.d)))(hz:cs.length<=9)(hg:cs.all p0=true)(hB:∀c∈cs,CB c)(hv:1<=v/\v<=9)(hc:g[c]?=some (.lst (t8 rs)))(hr:rs.length<=900)(hR:rs.all (k9 cs)=true)(h:∀g',Ex g g'->Q (.int ((m9 cs.length (u9 cs v rs) 0).length:Nat)) g'):c8 T (k+11) 126 [.ref a,.int v,.ref c] g Q E:=by
 refine call_of oH rfl ?_;dsimp[yU,d7,List.replicate];walk_at"";refine JK (k:=k) hT ha hz hg hB hv hc hr hR λg1 b e1 _ B=>?_;walk_at"";refine Lo (k:=k+3) hT hF hW B hz hr λw g2 e2 _ W=>?_;walk_at"";obtain⟨kvs,w1,w2⟩:=W.ex;exact tP w1 rfl (w2 0 .zero) (h _ (e1.trans e2))
theorem aM6(hT:TB0 T)(hF:TF T)(rH:T 122=some yK)(B:Bd g b cs v rs)(W:Wy g w cs v rs)(hz:cs.length<=9)(hr:rs.length<=900){s m:Nat}(hs:ku (u9 cs v rs) s)(dF:s≠2 ^ cs.length-1)(hm:m<(m9 cs.length (u9 cs v rs) s).length)(h:∀(p l:Nat) g',Ex g g'->p∈u9 cs v rs s->l<(m9 cs.length (u9 cs v rs) (s |||2 ^ p)).length->(m9 cs.length (u9 cs v rs) s)[m]?=((m9 cs.length (u9 cs v rs) (s |||2 ^ p))[l]?).map (p::·)->Q (.tup [.int (p:Nat),.int (l:Nat)]) g'):c8 T (k+6) 122 [.ref b,.ref w,.int (s:Nat),.int (m:Nat)] g Q E:=by
 refine call_of rH rfl ?_;dsimp[yK,d7,List.replicate];have lr:=K5 cs v rs;have pL:=hs.lt lr;have eo:=Cw lr pL dF;walk_at"";refine T9 (k:=k) hT hF B hz hr pL λg1 ch e1 _ lg=>?_;generalize pT:u9 cs v rs=F at *;obtain⟨kvs,w1,w2⟩:=W.ex;rw[pT] at w2;walk_at"";generalize Gs:(λp=>(m9 cs.length F (s |||2 ^ p)).map (p::·))=f at *;have vQ:∀p,(f p).length=(m9 cs.length F (s |||2 ^ p)).length:=λp=>by rw[<- Gs];simp
 rw[eo] at hm;have Nl:0<(F s).length:=by
  cases hl:F s with
  |nil=>rw[hl] at hm;simp at hm
  |cons _ _=>simp
 refine CC (λmm Z g'=>Ex g1 g'/\∃j lf:Nat,Z=[some (.ref b),some (.ref w),some (.int (s:Nat)),some (.int (m:Nat)),some (.ref ch),some (.int (lf:Nat)),some (.int (j:Nat))]/\j<(F s).length/\mm=(F s).length-j/\m=(((F s).take j).flatMap f).length+lf/\lf<(((F s).drop j).flatMap f).length) _ ⟨Ex.refl _,0,m,rfl,Nl,rfl,by simp,by simpa using hm⟩ (λmm Z g' q=>?_) (b0 T _);obtain⟨e2,j,lf,rfl,hj,rfl,lP,rh⟩:=q;have hx:=ah hj;generalize (F s)[j]=p at hx;have pM:=aJ hx;have nv:=lr _ _ pM;have hv:n8 kvs (kN (s |||2 ^ p))=some (.int ((f p).length:Nat)):=by rw[vQ];exact w2 _ (.step hs pM)
 have Cc:gP (d4 (F s)) (j:Int)=some (.int (p:Nat)):=C7 (by rw[d4,ai,hx];rfl);have sp:=aQ7 (f:=f) hx lf;have lx:=e1.trans e2;walk_at"";refine u5 (a8 (e2.at lg)) Cc ?_;walk_at"";refine w6 (k:=k+4) hT.nY (by omega) ?_;refine tP (lx.at w1) rfl hv ?_;walk_at"";by_cases hc:(f p).length<=lf
 ·refine ik (aF (by omega)) ?_;walk_at"";refine Kx rfl ?_;walk_at"";refine u5 (a8 (e2.at lg)) Cc ?_;walk_at"";refine w6 (k:=k+4) hT.nY (by omega) ?_;refine tP (lx.at w1) rfl hv ?_;refine Qw ?_;walk_at"";refine Kx rfl ?_;walk_at"";refine Qr ?_;have tk:(F s).take (j+1)=(F s).take j++[p]:=by rw[bx,hx];rfl
  rw[sp.2,aY] at rh;have Ot:j+1<(F s).length:=by
   rcases gb (j+1) (F s).length with z|z
   ·exact z
   ·rw[ui z] at rh;simp at rh;omega
  refine⟨_,?_,e2,j+1,lf-(f p).length,?_,Ot,rfl,?_,by omega⟩
  ·omega
  ·have e1:((lf:Nat):Int)-((f p).length:Nat)=((lf-(f p).length:Nat):Int):=by omega
   have e2:((j:Nat):Int)+1=((j+1:Nat):Int):=by omega
   rw[e1,e2]
   rfl
  ·rw[tk,EO,aY,dz,List.flatMap_nil,cF];omega
 ·refine gG (aL (by omega)) ?_;walk_at"";refine u5 (a8 (e2.at lg)) Cc ?_;walk_at"";refine h p lf g' lx pM (by rw[vQ] at hc;omega) ?_;rw[eo,lP,sp.1,sp.2,aA (by omega),<- Gs];simp
theorem aG8(hT:TB0 T)(hF:TF T)(hN:TN T)(B:Bd g b cs v rs)(W:Wy g w cs v rs)(hz:cs.length<=9)(hr:rs.length<=900){m:Nat}{o:List Nat}(hm:(m9 cs.length (u9 cs v rs) 0)[m]?=some o)(h:∀l g',Ex g g'->g.length<=l->g'[l]?=some (.lst (d4 o))->Q (.ref l) g'):c8 T (k+7) 123 [.ref b,.ref w,.int (m:Nat)] g Q E:=by
 refine call_of hN.Bh rfl ?_;dsimp[M8,d7,List.replicate];have lr:=K5 cs v rs;obtain⟨w0,l0,dd,nb,f1,f2,f3,f4,f5⟩:=B.ex;have p2:=Es hz;walk_at"";have e1:=Ex.snoc g (O.lst []);have h1:=b8 (g:=g) (o:=O.lst []);generalize g++[O.lst []]=g1 at *;refine CC (λmm Z g'=>Ex g g'/\∃(s lf:Nat) (p:List Nat) (z6:Option D),Z=[some (.ref b),some (.ref w),some (.int (m:Nat)),some (.ref g.length),some (.int (s:Nat)),some (.int (lf:Nat)),z6]/\mm=2 ^ cs.length-s/\ku (u9 cs v rs) s/\lf<(m9 cs.length (u9 cs v rs) s).length/\some o=((m9 cs.length (u9 cs v rs) s)[lf]?).map (p++·)/\g'[g.length]?=some (.lst (d4 p))/\p.length<=s) _ ⟨e1,0,m,[],none,rfl,rfl,.zero,(aj.mp hm).1,by rw[hm];rfl,h1,by simp⟩ (λmm Z g' q=>?_) (b0 T _);obtain⟨e2,s,lf,p,z6,rfl,rfl,hs,rh,ho,hp,fX⟩:=q;have pL:=hs.lt lr;walk_at"";refine U0 (e2.at f1) rfl ?_;walk_at"";have ed:decide (((s:Nat):Int)=((2 ^ cs.length-1:Nat):Int))=decide (s=2 ^ cs.length-1):=bA.mpr (by omega);rw[ed];by_cases dF:s=2 ^ cs.length-1
 ·refine gG (by rw[aF dF];rfl) ?_;walk_at"";rw[Dk dF] at rh ho;have:lf=0:=by simp at rh;omega
  subst this;have:o=p:=by simpa using ho
  subst this;exact h _ _ e2 (av _) hp
 ·refine ik (by rw[aL dF];rfl) ?_;walk_at"";refine aM6 (k:=k) hT hF hN.rH (B.at e2) (W.at e2) hz hr hs dF rh λq l g3 e3 hq hl NW=>?_;refine A9 rfl ?_
  try show wpS _ _ _ _ _ _
  have FX:=lr _ _ hq;have Ap:=e3.at hp;walk_at""
  try refine⟨S5 Ap,?_⟩
  walk_at"";refine L1 Ap (by simp[d4];omega) ?_;walk_at"";refine w6 (k:=k+5) hT.nY (by omega) ?_;walk_at"";have hgt:=yn FX.2;have He:=e2.trans e3;refine⟨_,?_,⟨by simp;exact He.len,λi hi=>by rw[aw (by omega)];exact He.old i hi⟩,s |||2 ^ q,l,p++[q],_,rfl,rfl,.step hs hq,hl,?_,?_,by simp;omega⟩
  ·omega
  ·rw[ho,NW];simp[Option.map_map,Function.comp_def]
  ·rw[get_set Ap];simp[d4]
end
def jY(r:List Nat):Nat:=r.foldl (λs p=>s |||2 ^ p) 0
theorem a38(r:List Nat)(p:Nat):jY (r++[p])=jY r |||2 ^ p:=by simp[jY,List.foldl_append]
theorem yP(r:List Nat)(i:Nat):(jY r).testBit i=decide (i∈r):=by
 have:∀(r:List Nat) (s:Nat),(r.foldl (λs p=>s |||2 ^ p) s).testBit i=(s.testBit i||decide (i∈r)):=by
  intro r
  induction r with
  |nil=>intro s;simp
  |cons p r ih =>
   intro s;rw[mL,ih,M4,Bool.or_assoc,bc];simp
 rw[jY,this];simp
theorem Si{n:Nat}:∀{r:List Nat},(∀i∈r,i<n)->jY r<2 ^ n:=λ{r} h=>by
 have:∀(r:List Nat) (s:Nat),(∀i∈r,i<n)->s<2 ^ n->r.foldl (λs p=>s |||2 ^ p) s<2 ^ n:=by
  intro r
  induction r with
  |nil=>intro s _ hs;exact hs
  |cons p r ih=>intro s h hs;exact ih _ (λi hi=>h i (by simp[hi])) (Q8 hs (h p (by simp)))
 exact this r 0 h (mI _)
def C1(F:Nat->List Nat):Nat->List (List Nat)
 |0=>[[]]
 |t+1=>(C1 F t).flatMap λr=>(F (jY r)).map λp=>r++[p]
theorem U7{n:Nat}{F:Nat->List Nat}(hF:FG n F):∀{t:Nat} {r:List Nat},r∈C1 F t->r.length=t/\r.Nodup/\∀i∈r,i<n
 |0,r,h=>by
  cases aR.mp h;simp
 |t+1,r,h=>by
  obtain⟨r0,h0,h1⟩:=lE.mp h;obtain⟨p,hp,rfl⟩:=aM.mp h1;obtain⟨g1,g2,g3⟩:=U7 hF h0;have nv:=hF _ _ hp;rw[yP] at nv;refine⟨by simp[g1],?_,λi hi=>?_⟩
  ·rw[cw];exact⟨g2,by simp,λx hx y hy=>by cases aR.mp hy;exact λz=>(by simpa using nv.2:p∉r0) (z▸hx)⟩
  ·rcases aV.mp hi with z|z
   ·exact g3 i z
   ·cases aR.mp z;exact nv.1
theorem YD{n:Nat}{r:List Nat}(h:r.Nodup)(hl:r.length=n)(hr:∀i∈r,i<n){i:Nat}(hi:i<n):i∈r:=by
 refine Decidable.byContradiction λhn=>?_;have:=Y0 (l:=i::r) (m:=List.range n) (cU.mpr ⟨hn,h⟩) λx hx=>by
  rcases aI.mp hx with rfl|hx
  ·exact aH.mpr hi
  ·exact aH.mpr (hr x hx)
 simp at this;omega
theorem LU{n:Nat}{r:List Nat}(h:r.Nodup)(hr:∀i∈r,i<n):jY r=2 ^ n-1↔r.length=n:=by
 constructor
 ·intro e;have:∀i,i<n->i∈r:=λi hi=>by
   have:=yP r i;rw[e,nR,aF hi] at this;exact bj this.symm
  have h1:=Y0 (l:=List.range n) (m:=r) eK λi hi=>this i (aH.mp hi);have h2:=Y0 (l:=r) (m:=List.range n) h λi hi=>aH.mpr (hr i hi);simp at h1 h2;omega
 ·intro hl;refine zr λi=>?_;rw[yP,nR];refine bA.mpr ⟨hr i,λhi=>YD h hl hr hi⟩
theorem Jm{n:Nat}{F:Nat->List Nat}(hF:FG n F):∀{t:Nat},t<=n->(C1 F t).flatMap (λr=>(m9 n F (jY r)).map (r++·))=m9 n F 0
 |0,_=>by simp[C1,jY]
 |t+1,ht=>by
  rw[<- Jm hF (show t<=n by omega),C1,List.flatMap_assoc];refine J5 λr hr=>?_;obtain⟨g1,g2,g3⟩:=U7 hF hr;have dF:jY r≠2 ^ n-1:=λz=>by have:=(LU g2 g3).mp z;omega
  rw[Cw hF (Si g3) dF,List.map_flatMap,List.flatMap_map];refine J5 λp hp=>?_;rw[a38,bu];refine dI λo _=>?_;simp
theorem Z7{n:Nat}{F:Nat->List Nat}(hF:FG n F):C1 F n=m9 n F 0:=by
 rw[<- Jm hF (av n)];have:∀(l:List (List Nat)),(∀r∈l,r∈C1 F n)->l.flatMap (λr=>(m9 n F (jY r)).map (r++·))=l:=by
  intro l
  induction l with
  |nil=>intro _;rfl
  |cons r l ih =>
   intro h;obtain⟨g1,g2,g3⟩:=U7 hF (h r (by simp));rw[dz,ih λx hx=>h x (by simp[hx]),Dk ((LU g2 g3).mpr g1)];simp
 exact(this _ λ_ h=>h).symm
theorem KI{α β:Type}{f:α->List β}{m:Nat}:∀{l:List α},(∀x∈l,(f x).length<=m)->(l.flatMap f).length<=l.length*m
 |[],_=>by simp
 |x::r,h=>by
  rw[dz,aY,da,Nat.succ_mul];have h1:=h x (by simp);have h2:=KI (l:=r) λy hy=>h y (by simp[hy]);omega
theorem LM{n:Nat}{F:Nat->List Nat}(hF:∀s,(F s).length<=n):∀t,(C1 F t).length<=n ^ t
 |0=>by simp[C1]
 |t+1=>by
  rw[C1,ue];refine aE (KI (m:=n) λr _=>by rw[ag];exact hF _) ?_;exact Nat.mul_le_mul_right _ (LM hF t)
section
variable{T:Nat->Option aZ}{k d:Nat}{g g':G}{Q:KD}{E:KX}{a b c r w:Nat}{cs:List b7}{rs:List dZ}{v:Int}
end
theorem ZP{n:Nat}{F:Nat->List Nat}(hF:FG n F){o:List Nat}(h:o∈m9 n F 0):o.length=n/\o.Nodup/\∀i∈o,i<n:=by
 rw[<- Z7 hF] at h;exact U7 hF h
def many(cs:List b7)(v:Int)(rs:List dZ):Nat:=(m9 cs.length (u9 cs v rs) 0).length
theorem Sl(l:List Nat):(jY l).testBit=kK l:=funext λi=>yP l i
theorem CO{F:Nat->List Nat}:∀{t:Nat} {r:List Nat},r∈C1 F t↔r.length=t/\∀i p,r[i]?=some p->p∈F (jY (r.take i))
 |0,r=>by
  constructor
  ·intro h;cases aR.mp h;exact⟨rfl,λi p e=>by simp at e⟩
  ·rintro⟨h,_⟩;cases sO.mp h;exact aR.mpr rfl
 |t+1,r=>by
  show r∈(C1 F t).flatMap (λr=>(F (jY r)).map λp=>r++[p])↔_;rw[lE];constructor
  ·rintro⟨r0,h0,h1⟩;obtain⟨p,hp,rfl⟩:=aM.mp h1;obtain⟨hl,hs⟩:=CO.mp h0;refine⟨by simp[hl],λi q e=>?_⟩;by_cases hi:i<r0.length
   ·rw[aA hi] at e;rw[List.take_append_of_le_length (by omega)];exact hs i q e
   ·have Ou:i=r0.length:=by
     have:=(aj.mp e).1;simp at this;omega
    subst Ou;rw[bB (av _),Nat.sub_self] at e;cases e;rw[List.take_left' rfl];exact hp
  ·rintro⟨hl,hs⟩;have ht:t<r.length:=by omega
   refine⟨r.take t,CO.mpr ⟨by simp;omega,λi p e=>?_⟩,?_⟩
   ·have hi:i<t:=by
     have:=(aj.mp e).1;simp at this;omega
    rw[eU hi] at e;rw[List.take_take,Nat.min_eq_left (by omega)];exact hs i p e
   ·refine aM.mpr ⟨r[t],hs t _ (ah ht),?_⟩;have e:=bx (l:=r) (i:=t);rw[ah ht,iB (by omega)] at e;exact e.symm
structure oX(cs:List b7)(v:Int)(rs:List dZ)(o:List Nat):Prop where
 len:o.length=cs.length
 st:∀i p,o[i]?=some p->p<cs.length/\p∉o.take i/\fault cs v rs (kK (o.take i)) p=""
theorem LD{cs:List b7}{v:Int}{rs:List dZ}{l:List Nat}{p:Nat}:p∈u9 cs v rs (jY l)↔p<cs.length/\p∉l/\fault cs v rs (kK l) p="":=by
 unfold u9 X2;rw[aT,aH,Sl,aU,dq,kF,cI]
theorem T1{cs:List b7}{v:Int}{rs:List dZ}{o:List Nat}:o∈m9 cs.length (u9 cs v rs) 0↔oX cs v rs o:=by
 rw[<- Z7 (K5 cs v rs),CO];exact⟨λh=>⟨h.1,λi p e=>LD.mp (h.2 i p e)⟩,λh=>⟨h.len,λi p e=>LD.mpr (h.st i p e)⟩⟩
theorem Ki{cs:List b7}{v:Int}{rs:List dZ}{S:Nat->Bool}{p:Nat}:fault cs v rs S p=""↔N9 cs S p=false/\Q5 cs S p=false/\(su cs S p:Int)<=v/\O1 cs rs S p=true:=by
 unfold fault;cases N9 cs S p
 ·cases Q5 cs S p
  ·rw[aD (by decide),aD (by decide)];by_cases h:v<su cs S p
   ·rw[aK h];exact⟨λz=>absurd z (by decide),λz=>absurd z.2.2.1 (by omega)⟩
   ·rw[aD h];cases O1 cs rs S p
    ·exact⟨λz=>absurd z (by decide),λz=>absurd z.2.2.2 (by decide)⟩
    ·exact⟨λ_=>⟨rfl,rfl,by omega,rfl⟩,λ_=>rfl⟩
  ·rw[aD (by decide),aK rfl];exact⟨λz=>absurd z (by decide),λz=>absurd z.2.1 (by decide)⟩
 ·rw[aK rfl];exact⟨λz=>absurd z (by decide),λz=>absurd z.1 (by decide)⟩
theorem yY{n:Nat}{f:Nat->Bool}:(List.range n).any f=false↔∀i,i<n->f i=false:=by
 rw[List.any_eq_false];exact⟨λh i hi=>Bool.eq_false_iff.mpr (h i (aH.mpr hi)),λh i hi=>Bool.eq_false_iff.mp (h i (aH.mp hi))⟩
theorem yZ{n:Nat}{f:Nat->Bool}:(List.range n).any f=true↔∃i,i<n/\f i=true:=by
 rw[bK];exact⟨λ⟨i,h,e⟩=>⟨i,aH.mp h,e⟩,λ⟨i,h,e⟩=>⟨i,aH.mpr h,e⟩⟩
theorem ym{α:Type}[DecidableEq α]:∀{l m:List α},l.Nodup->(∀x∈l,x∈m)->l.length<=m.length
 |[],m,_,_=>cJ _
 |x::l,m,nd,h=>by
  obtain⟨h1,h2⟩:=cU.mp nd;have hx:=h x (by simp);have:=ym (m:=m.erase x) h2 λy hy=>(zw λz=>h1 (by rw[<- z];exact hy)).mpr (h y (by simp[hy]));rw[gY hx] at this;have:0<m.length:=fh hx;simp only[List.length_cons];omega
theorem DP{cs:List b7}{S:Nat->Bool}{p:Nat}{d:Int}:M5 cs S p d=true↔(∃i,i<cs.length/\(S i=true\/i=p)/\(cL cs i).lo=d)/\∃i,i<cs.length/\S i=false/\(cL cs i).lo=d:=by
 unfold M5;rw[aU,yZ,yZ];simp only[Bool.and_eq_true,Bool.or_eq_true,decide_eq_true_eq,Bool.not_eq_true']
theorem QH{cs:List b7}{i:Nat}(h:i<cs.length):(cL cs i).lo∈cs.map b7.lo:=aM.mpr ⟨_,by rw[A4 (ah h)];exact cc h,rfl⟩
theorem V4{cs:List b7}{r:dZ}(hw:r.w=.fB)(h:k9 cs r=true):(0<=r.x/\r.x<cs.length)/\(0<=r.y/\r.y<cs.length)/\r.x≠r.y:=by
 obtain⟨w,x,y⟩:=r;cases hw;unfold k9 jl at h;simp only[Bool.and_eq_true,Bool.not_eq_true',decide_eq_false_iff_not,List.isEmpty_eq_false_iff] at h;have f:∀z:Int,List.filter (meant cs .fB z) (List.range cs.length)≠[]->0<=z/\z<cs.length:=λz hz=>by
  obtain⟨i,hi⟩:=List.exists_mem_of_ne_nil _ hz;obtain⟨h1,h2⟩:=aT.mp hi;have h1:=aH.mp h1;have h2:(i:Int)=z:=bj h2;omega
 exact⟨f _ h.2.1,f _ h.2.2,h.1⟩
section
variable{cs:List b7}{v:Int}{rs:List dZ}{o:List Nat}
theorem oX.lt(h:oX cs v rs o):∀i∈o,i<cs.length:=(ZP (K5 cs v rs) (T1.mpr h)).2.2
theorem oX.none(h:oX cs v rs o):wO cs v rs (o.map λ(i:Nat)=>(i:Int))=none:=by
 have gD:∀i,i<o.length->∃p,o[i]?=some p/\(o.map λ(i:Nat)=>(i:Int)).getD i 0=(p:Nat):=λi hi=>⟨o[i],ah hi,getD_at (by rw[ai,ah hi];rfl)⟩
 unfold wO;rw[aK (by rw[ag,h.len])];have p1:(List.range (o.map λ(i:Nat)=>(i:Int)).length).findSome? (lM cs.length (o.map λ(i:Nat)=>(i:Int)))=Option.none:=by
  rw[gA];intro i hi;rw[aH,ag] at hi;obtain⟨p,e1,e2⟩:=gD i hi;obtain⟨h1,h2,_⟩:=h.st i p e1;unfold lM;rw[e2,aK ⟨by omega,by omega⟩,aD];rw[<- jP];intro z;obtain⟨q,hq,e⟩:=aM.mp z;exact h2 ((by omega:q=p)▸hq)
 have p2:(List.range (o.map λ(i:Nat)=>(i:Int)).length).findSome? (oI cs v rs (o.map λ(i:Nat)=>(i:Int)))=Option.none:=by
  rw[gA];intro i hi;rw[aH,ag] at hi;obtain⟨p,e1,e2⟩:=gD i hi;obtain⟨_,_,h3⟩:=h.st i p e1;unfold oI;have:H9 (o.map λ(i:Nat)=>(i:Int)) i=o.take i:=by
   unfold H9;rw[<- jP,bu];exact(dI λ_ _=>rfl).trans (lY _)
  rw[e2,this,bO,aK h3]
 rw[p1,p2]
 rfl
end
theorem Xy{α:Type}{l:List α}(nd:l.Nodup){u w:Nat}{x:α}(h1:l[u]?=some x)(h2:l[w]?=some x):u=w:=by
 obtain⟨a1,a2⟩:=aj.mp h1;obtain⟨b1,b2⟩:=aj.mp h2;exact(ib (h₀:=a1) (h₁:=b1) nd).mp (a2.trans b2.symm)
theorem Lh{F:Nat->List Nat}(hF:∀s,(F s).Nodup):∀t,(C1 F t).Nodup
 |0=>by simp[C1]
 |t+1=>by
  show((C1 F t).flatMap λr=>(F (jY r)).map λp=>r++[p]).Nodup;have ih:=Lh hF t;generalize C1 F t=X at ih
  induction X with
  |nil=>simp
  |cons r X NB =>
   rw[cU] at ih;rw[dz,cw];refine⟨(dw.mpr ((hF _).imp λh z=>h (by simpa using z))),NB ih.2,λa ha b hb z=>?_⟩;obtain⟨p,_,rfl⟩:=aM.mp ha;obtain⟨r2,h2,h3⟩:=lE.mp hb;obtain⟨q,_,rfl⟩:=aM.mp h3;have:=(List.append_inj' z rfl).1;exact ih.1 (this▸h2)
section
variable{cs dO:List b7}{v:Int}{rs:List dZ}{o:List Nat}
theorem TX:(m9 cs.length (u9 cs v rs) 0).Nodup:=by
 rw[<- Z7 (K5 cs v rs)];exact Lh (λs=>eK.sublist ER) _
theorem Tv(hz:cs.length<=9):many cs v rs<1073741824:=by
 unfold many;rw[<- Z7 (K5 cs v rs)];have h1:=LM (n:=cs.length) (F:=u9 cs v rs) (λs=>by unfold u9;exact aE (cA _ _) (by simp)) cs.length;have h2:cs.length ^ cs.length<=387420489:=by
  have:∀n,n<=9->n ^ n<=387420489:=by decide
  exact this _ hz
 omega
end
def V2:aZ:=⟨4,6,(.seq (.set 4 (.call 99 (gI aP bh bp))) (.seq (.set 5 (.call 121 (eO dg))) (.seq (.ifs (.eX (.fS (.call 1 (gI bR (bf 0) (cE (.bin .Sub) (df fz (bf 0)) (bf 1)))))) (.seq (.raise "BadNumber" (eO (iJ "no order has that number"))) .pass) .pass) (.seq (.ret (.call 123 (gI dg fz bR))) .pass))))⟩
section
variable{P:fH}{Z:S}{g:G}{Q:KD}{E:KX}{t:MT}{it c elt:ME}{d6:List Nat}{n:Nat}
theorem aR1(hP:i7 P)(h:fj P it Z g (λk g1=>∃(l:List D) (Sh:S->Prop) (p:Nat->Bool) (w:Nat->D),(∀g',Ex g1 g'->k.Is l g')/\l.length<=1000/\Sh (E2 Z d6 n) /\
      (∀ i d Z g',l[i]?=some d->Ex g1 g'->Sh Z->jx t d Z λcK=>cT P c cK g' (λb g3=>b=p i/\Ex g1 g3/\if b=true then aS P elt cK g3 (λy g4=>y=w i/\Ex g1 g4/\Sh cK) jk else Sh cK) jk)/\∀ g',Ex g1 g'->Q (.ref g'.length) (g' ++ [.lst (((List.range l.length).filter p).map w)])) E):aS P (.comp d6 n t it c elt) Z g Q E:=by
  refine F0 hP (y9 hP it _ _ _ _ _ _ (λk g1 h=>?_) (λ_ _ z=>z) h);obtain⟨l,Sh,p,w,hk,hl,h0,hs,hd⟩:=h;refine⟨l,λi ys Z g'=>Ex g1 g'/\ys=((List.range i).filter p).map w/\Sh Z,hl,λi ys Z g' q=>⟨hk _ q.1,?_⟩,⟨Ex.refl _,rfl,h0⟩,λi x ys Z g' hx q=>?_,λys Z g' q=>?_⟩
  · obtain⟨_,rfl,_⟩:=q;rw[ag];exact aE (cA _ _) (by simp)
  · obtain⟨e1,rfl,sh⟩:=q;refine v9 (λcK q=>p6 hP c _ _ _ _ _ _ (λb g3 q=>?_) (λ_ _ z=>z) q) (hs i x Z g' hx e1 sh);obtain⟨rfl,e3,q⟩:=q;have ef:((List.range (i+1)).filter p).map w=((List.range i).filter p).map w++if p i=true then[w i] else[]:=by
      rw[dj,de,bH]
      congr 1
      cases z:p i<;>simp only[List.filter_cons,z,List.filter_nil]<;>rfl
    cases hp:p i with
    |true =>
      rw[hp] at q ef;rw[aK rfl] at q ⊢;refine b9 hP elt _ _ _ _ _ _ (λy g4 q=>?_) (λ_ _ z=>z) q;obtain⟨rfl,e4,sh⟩:=q;exact⟨e4,by rw[ef];rfl,sh⟩
    |false =>
      rw[hp] at q ef;rw[aD (by decide)] at q ⊢;exact⟨e3,by rw[ef];simp,q⟩
  · obtain⟨e1,rfl,sh⟩:=q;exact hd g' e1
end
theorem Lw{α:Type}(q:α->Bool)(f:α->D)(d:α)(l:List α):((List.range l.length).filter λi=>q (l.getD i d)).map (λi=>f (l.getD i d))=(l.filter q).map f:=by
 have e:(List.range l.length).map (λi=>l.getD i d)=l:=by
  refine fi λi=>?_;rw[ai];by_cases hi:i<l.length
  ·rw[cW hi,Option.map_some,bC,ah hi]
   rfl
  ·rw[ba (by simpa using hi),ba (by omega)]
   rfl
 have h:(((List.range l.length).map λi=>l.getD i d).filter q).map f=(l.filter q).map f:=by rw[e]
 rw[List.filter_map,bu] at h;exact h
def r0:dZ:=⟨.fB,0,0⟩
def pH(r:dZ):Bool:=decide (r.w.s="coin")
theorem Xg{r:dZ}(h:pH r=true):r.w=.fB:=by
 obtain⟨w,x,y⟩:=r;unfold pH at h;cases w
 ·rfl
 ·exact absurd (show RW.s .lower="coin" from bj h) (by decide)
 ·exact absurd (show RW.s .upper="coin" from bj h) (by decide)
theorem LO(rs:List dZ):(t8 rs).length=rs.length:=by unfold t8;simp
theorem E1(o:List Nat):(d4 o).length=o.length:=by unfold d4;simp
theorem ints_map(o:List Nat):d4 o=(o.map λ(i:Nat)=>(i:Int)).map D.int:=by unfold d4;rw[bu];rfl
theorem aQ0{cs:List b7}{x y:Int}(hx:0<=x/\x<cs.length)(hy:0<=y/\y<cs.length)(hn:x≠y):k9 cs ⟨.fB,x,y⟩=true:=by
 unfold k9 jl;simp only[Bool.and_eq_true,Bool.not_eq_true',decide_eq_false_iff_not,List.isEmpty_eq_false_iff];have f:∀z:Int,0<=z/\z<cs.length->List.filter (meant cs .fB z) (List.range cs.length)≠[]:=λz hz=>List.ne_nil_of_mem (a:=z.toNat) (aT.mpr ⟨aH.mpr (by omega),aF (by omega)⟩);exact⟨hn,f _ hx,f _ hy⟩
section
variable{T:Nat->Option aZ}{k d:Nat}{g g':G}{Q:KD}{E:KX}{a b c r:Nat}{cs:List b7}{rs:List dZ}{v:Int}{ns:List Int}
theorem ZM(hT:TB T)(hO:TO T)(rL:T 104=some O3)(A:Ask g a c cs v rs)(hr:g[r]?=some (.lst (ns.map .int)))(hl:ns.length<=100)(h:∀g',Ex g g'->Q (pairF (wO cs v rs ns)) g'):c8 T (k+11) 104 [.ref a,.int v,.ref c,.ref r] g Q E:=by
 refine call_of rL rfl ?_;dsimp[O3,d7,List.replicate];walk_at"";refine Jv (k:=k) hT A λg1 b e1 _ B=>?_;walk_at"";exact aH2 (k:=k+6) hT hO B A.hz A.hr (e1.at hr) hl λg2 e2=>h g2 (e1.trans e2)
theorem aB0(hT:TB T)(hF:TF T)(hW:TW T)(hN:TN T)(rG:T 127=some V2)(A:Ask g a c cs v rs){m:Nat}(hm:m<many cs v rs)(h:∀o l g',oX cs v rs o->Ex g g'->g.length<=l->g'[l]?=some (.lst (d4 o))->Q (.ref l) g'):c8 T (k+11) 127 [.ref a,.int v,.ref c,.int (m:Nat)] g Q E:=by
 refine call_of rG rfl ?_;dsimp[V2,d7,List.replicate];walk_at"";refine Jv (k:=k) hT A λg1 b e1 _ B=>?_;walk_at"";refine Lo (k:=k+3) hT hF hW B A.hz A.hr λw g2 e2 _ W=>?_;walk_at"";obtain⟨kvs,w1,w2⟩:=W.ex;refine tP w1 rfl (w2 0 .zero) ?_;walk_at"";unfold many at hm;refine w5 (k:=k+8) hT.nf ?_;walk_at"";refine gG (by rw[aF (by omega),aF (by omega)];rfl) ?_;walk_at"";exact aG8 (k:=k+3) hT hF hN (m:=m) (B.at e2) W A.hz A.hr (ah hm) λl g3 e3 hl h3=>h _ l g3 (T1.mp (cc hm)) (e1.trans (e2.trans e3)) (aE (e1.trans e2).len hl) h3
end
def M9:aZ:=⟨2,2,(.seq (.ret (dX .any (.comp [0,1] 4 (.one 3) (.fF (.lit (.tup [(.str "lower"),(.str "upper")]))) .no (cE (.cmp .Eq) (df aP (.call 19 (eO bR))) (df bh (.call 19 (eO bR))))))) .pass)⟩
def E7:aZ:=⟨2,2,(.seq (.ret (.comp [0,1] 5 (.many [3,4]) (.jS aP) (.eL (ff .NotEq bR bh) (.fS (.call 76 (dE dg (df aP bh))))) bR)) .pass)⟩
def T3:aZ:=⟨2,7,(.seq (.set 2 (.og (dE bh (bf 0)))) (.seq (.set 3 (dX .lst bh)) (.seq (.jE (.fS bR) (.seq (.set 4 (.prim .lst .nil)) (.seq (.dY (.one 5) (.fF bR) (.seq (.dY (.one 6) (.fF (.call 77 (dE aP fz))) (.seq (.ifs (ff .NotIn fk bp) (.seq (.eF bp fk (cE (.bin .Add) (df bp fz) (bf 1))) (.seq (.expr (.dR .append dg (eO fk))) .pass)) .pass) .pass)) .pass)) (.seq (.set 3 dg) .pass)))) (.seq (.ret bp) .pass))))⟩
def yw:aZ:=⟨1,4,(.seq (.expr (.call 18 (eO aP))) (.seq (.set 1 (.prim .lst .nil)) (.seq (.dY (.one 2) (.fA (dX .len aP)) (.seq (.set 3 (dX .ka (.call 78 (dE aP bp)))) (.seq (.ifs (ff .Eq (df bR (bf 0)) bp) (.seq (.expr (.dR .append bh (eO bR))) .pass) .pass) .pass))) (.seq (.ret bh) .pass))))⟩
def lk(c c':b7):Bool:=decide (c.lo=c'.lo)||decide (c.up=c'.up)
def E0(cs:List b7)(i j:Nat):Bool:=match cs[i]?,cs[j]? with
 |some c,some c'=>lk c c'
 |_,_=>false
inductive v8(cs:List b7):Nat->Nat->Prop
 |refl {i:Nat} (h:i<cs.length):v8 cs i i
 |step {i j l:Nat} (h:v8 cs i j) (a:E0 cs j l=true):v8 cs i l
def U9(cs:List b7)(p:Nat):List Nat:=(List.range cs.length).filter λj=>decide (j≠p)&&E0 cs j p
theorem yI{cs:List b7}{i j:Nat}(h:E0 cs i j=true):i<cs.length/\j<cs.length:=by
 unfold E0 at h;split at h
 ·rename_i h1 h2;exact⟨(aj.mp h1).1,(aj.mp h2).1⟩
 ·cases h
theorem Tu{c c':b7}:lk c c'=lk c' c:=by
 unfold lk;rw[bA.mpr (show c.lo=c'.lo↔c'.lo=c.lo from⟨Eq.symm,Eq.symm⟩),bA.mpr (show c.up=c'.up↔c'.up=c.up from⟨Eq.symm,Eq.symm⟩)]
theorem Dd{cs:List b7}{i j:Nat}(h:E0 cs i j=true):E0 cs j i=true:=by
 unfold E0 at h ⊢;split at h
 ·rename_i h1 h2;rw[h1,h2];exact Tu.trans h
 ·cases h
theorem v8.lt{cs:List b7}{i j:Nat}(h:v8 cs i j):i<cs.length/\j<cs.length:=by
 induction h with
 |refl h=>exact⟨h,h⟩
 |step _ a ih=>exact⟨ih.1,(yI a).2⟩
theorem v8.trans{cs:List b7}{i j l:Nat}(a:v8 cs i j)(b:v8 cs j l):v8 cs i l:=by
 induction b with
 |refl _=>exact a
 |step _ e ih=>exact .step ih e
theorem v8.symm{cs:List b7}{i j:Nat}(h:v8 cs i j):v8 cs j i:=by
 induction h with
 |refl h=>exact .refl h
 |step _ a ih=>exact(v8.step (.refl (yI a).2) (Dd a)).trans ih
theorem Jh{cs:List b7}{p j:Nat}:j∈U9 cs p↔j≠p/\E0 cs j p=true:=by
 unfold U9;simp only[List.mem_filter,List.mem_range,Bool.and_eq_true,decide_eq_true_eq];exact⟨λh=>h.2,λh=>⟨(yI h.2).1,h⟩⟩
section
variable{T:Nat->Option aZ}{k d:Nat}{g g':G}{Q:KD}{E:KX}{a p:Nat}{cs:List b7}
theorem ZD(hX:sG T)(nF:T 76=some M9){c c':b7}(h:∀g',Ex g g'->Q (.bl (lk c c')) g'):c8 T (k+3) 76 [c.d,c'.d] g Q E:=by
 refine call_of nF rfl ?_;dsimp[M9,d7,List.replicate];walk_at"";refine JI (b0 T _) ?_;walk_at"";refine⟨_,rfl,by decide,λi ys Z g'=>∃z2 z3,ys=([D.bl (decide (c.lo=c'.lo)),.bl (decide (c.up=c'.up))].take i)/\Z=[some c.d,some c'.d,z2,z3]/\g'=g,⟨none,none,rfl,rfl,rfl⟩,λi ys Z g' q=>?_,λi x ys Z g' hx q=>?_,λys Z g' q=>?_⟩
 ·obtain⟨_,_,rfl,_⟩:=q;rw[cZ];omega
 ·obtain⟨z2,z3,rfl,rfl,rfl⟩:=q;refine m5 ?_
  try show cT _ _ _ _ _ _
  match i,hx with
  |0,hx =>
   cases hx;walk_at"";refine v5 (k:=k) hX (by decide +kernel) (λ_=>?_) (λz=>absurd z (by decide +kernel)) (λz=>absurd rfl z);walk_at"";refine B4 (l:=[.int c.lo,.tup (c.lm.map .int),.int c.up,.tup (c.um.map .int),.int c.yr]) rfl ?_;walk_at"";refine v5 (k:=k) hX (by decide +kernel) (λ_=>?_) (λz=>absurd z (by decide +kernel)) (λz=>absurd rfl z);walk_at"";refine B4 (l:=[.int c'.lo,.tup (c'.lm.map .int),.int c'.up,.tup (c'.um.map .int),.int c'.yr]) rfl ?_;walk_at"";exact⟨_,_,rfl,rfl,rfl⟩
  |1,hx =>
   cases hx;walk_at"";refine v5 (k:=k) hX (by decide +kernel) (λz=>absurd z (by decide +kernel)) (λ_=>?_) (λ_ z=>absurd rfl z);walk_at"";refine B4 (l:=[.int c.lo,.tup (c.lm.map .int),.int c.up,.tup (c.um.map .int),.int c.yr]) rfl ?_;walk_at"";refine v5 (k:=k) hX (by decide +kernel) (λz=>absurd z (by decide +kernel)) (λ_=>?_) (λ_ z=>absurd rfl z);walk_at"";refine B4 (l:=[.int c'.lo,.tup (c'.lm.map .int),.int c'.up,.tup (c'.um.map .int),.int c'.yr]) rfl ?_;walk_at"";exact⟨_,_,rfl,rfl,rfl⟩
  |i+2,hx=>simp at hx
 ·obtain⟨z2,z3,rfl,rfl,rfl⟩:=q;refine WO (a8 b8) (v:=lk c c') ?_ ?_
  ·show(V6 [D.bl (decide (c.lo=c'.lo)),.bl (decide (c.up=c'.up))])=some (lk c c');simp[V6,lk]
  ·walk_at"";exact h _ (Ex.snoc _ _)
theorem a82(hX:sG T)(nF:T 76=some M9)(oE:T 77=some E7)(ha:g[a]?=some (.lst (cs.map b7.d)))(hz:cs.length<=9)(hp:p<cs.length)(h:∀g' i,Ex g g'->g.length<=i->g'[i]?=some (.lst ((U9 cs p).map λj=>.int (j:Nat)))->Q (.ref i) g'):c8 T (k+4) 77 [.ref a,.int (p:Nat)] g Q E:=by
 refine call_of oE rfl ?_;dsimp[E7,d7,List.replicate];walk_at"";refine F0 (b0 T _) (sY ?_);walk_at"";have AG:=ah hp;generalize cs[p]=cp at AG;have gp:gP (cs.map b7.d) (p:Int)=some cp.d:=C7 (by rw[ai,AG];rfl);refine⟨a,_,rfl,a8 ha,kR (cs.map b7.d),λi ys Z g'=>Ex g g'/\ys=(((List.range i).filter λj=>decide (j≠p)&&E0 cs j p).map λj=>D.int (j:Nat))/\∃z2 z3 z4,Z=[some (.ref a),some (.int (p:Nat)),z2,z3,z4],by rw[C5];simp;omega,λi ys Z g' q=>⟨T8 (a8 (q.1.at ha)),?_⟩,⟨Ex.refl _,rfl,none,none,none,rfl⟩,λi x ys Z g' hx q=>?_,λys Z g' q=>?_⟩
 ·obtain⟨_,rfl,_⟩:=q;rw[ag];exact aE (cA _ _) (by simp)
 ·obtain⟨e1,rfl,z2,z3,z4,rfl⟩:=q;obtain⟨dd,hd,rfl⟩:=N1 hx;rw[ai,aa] at hd;obtain⟨c,hc,rfl⟩:=hd;refine A9 rfl ?_
  try show cT _ _ _ _ _ _
  have el:E0 cs i p=lk c cp:=by unfold E0;rw[hc,AG]
  have ef:(List.range (i+1)).filter (λj=>decide (j≠p)&&E0 cs j p)=(List.range i).filter (λj=>decide (j≠p)&&E0 cs j p)++if(decide (i≠p)&&E0 cs i p)=true then[i] else[]:=by
   rw[dj,de]
   congr 1
   cases z:(decide (i≠p)&&E0 cs i p)<;>simp only[List.filter_cons,z,List.filter_nil]<;>rfl
  walk_at"";have ei:decide (((i:Nat):Int)=((p:Nat):Int))=decide (i=p):=by
   rw[bA];omega
  rw[ei];by_cases xP:i=p
  ·refine gG (by simp[xP]) ?_;refine⟨e1,?_,_,_,_,rfl⟩;rw[ef,aD (by simp[xP]),cF]
  ·refine ik (by simp[xP]) ?_;walk_at"";refine u5 (a8 (e1.at ha)) gp ?_;walk_at"";refine ZD (k:=k) hX nF λg2 e2=>?_;walk_at"";cases Gh:lk c cp with
   |true =>
    refine ik rfl ?_;walk_at"";refine⟨e1.trans e2,?_,_,_,_,rfl⟩;rw[ef,aK (by rw[el,Gh];simp[xP])];simp
   |false =>
    refine gG rfl ?_;refine⟨e1.trans e2,?_,_,_,_,rfl⟩;rw[ef,aD (by rw[el,Gh];simp),cF]
 ·obtain⟨e1,rfl,z2,z3,z4,rfl⟩:=q;walk_at"";rw[C5,ag];exact h _ _ (e1.trans (Ex.snoc _ _)) e1.len b8
end
theorem CW{kvs:List (Key×D)}{c:Key}:(n8 kvs c).isSome=true↔c∈kvs.map (·.1):=by
 unfold n8;rw[gQ,List.find?_isSome];simp only[List.mem_map,decide_eq_true_eq]
theorem Us{kvs:List (Key×D)}{c:Key}{v:D}(h:c∉kvs.map (·.1)):putD kvs c v=kvs++[(c,v)]:=by
 unfold putD;rw[aD];intro z;rw[bK] at z;obtain⟨kv,h1,h2⟩:=z;exact h (aM.mpr ⟨kv,h1,bj h2⟩)
noncomputable abbrev kI(j:Nat):Key:=.inl (j:Int)
theorem Ef{S:List Nat}{j:Nat}:kI j∈S.map kI↔j∈S:=by
 rw[aM];constructor
 ·rintro⟨i,h,e⟩;have:(i:Int)=j:=zp e;rw[show j=i by omega];exact h
 ·exact λh=>⟨j,h,rfl⟩
theorem S4:∀{n:Nat} {S:List Nat},S.Nodup->(∀j∈S,j<n)->S.length<=n
 |0,S,_,h=>by
  cases S with
  |nil=>simp
  |cons a l=>exact absurd (h a (by simp)) (by omega)
 |n+1,S,nd,h=>by
  have:=S4 (n:=n) (nd.erase n) λj hj=>by
   have h1:=(nd.mem_erase_iff.mp hj)
   have h2:=h j h1.2;omega
  by_cases hn:n∈S
  ·rw[gY hn] at this;omega
  ·rw[List.erase_of_not_mem hn] at this;omega
structure oh(g:G)(sd:Nat)(S:List Nat):Prop where
 ex:∃kvs:List (Key×D),g[sd]?=some (.dD kvs)/\kvs.map (·.1)=S.map kI/\∀kv∈kvs,∃v,kv.2=.int v
section
variable{T:Nat->Option aZ}{k d:Nat}{g g':G}{Q:KD}{E:KX}{a p sd:Nat}{cs:List b7}{S:List Nat}
theorem oh.xZ(h:oh g sd S)(e:Ex g g'):oh g' sd S:=let ⟨kvs,h1,h2⟩:=h.ex;⟨⟨kvs,e.at h1,h2⟩⟩
theorem oh.val(h:oh g sd S){j:Nat}(hj:j∈S):∃kvs v,g[sd]?=some (.dD kvs)/\n8 kvs (kI j)=some (.int v):=by
 obtain⟨kvs,h1,h2,h3⟩:=h.ex;have:(n8 kvs (kI j)).isSome=true:=CW.mpr (by rw[h2];exact Ef.mpr hj);obtain⟨x,hx⟩:=dB.mp this;have:∃kv∈kvs,kv.2=x:=by
  unfold n8 at hx;obtain⟨kv,h4,h5⟩:=aa.mp hx;exact⟨kv,ph h4,h5⟩
 obtain⟨kv,h4,rfl⟩:=this;obtain⟨v,hv⟩:=h3 kv h4;exact⟨kvs,v,h1,by rw[hx,hv]⟩
theorem a36(hX:sG T)(nF:T 76=some M9)(oE:T 77=some E7)(rE:T 78=some T3)(ha:g[a]?=some (.lst (cs.map b7.d)))(hz:cs.length<=9)(hp:p<cs.length)(h:∀g' sd S,Ex g g'->g.length<=sd->oh g' sd S->S.Nodup->(∀j,j∈S↔v8 cs p j)->Q (.ref sd) g'):c8 T (k+5) 78 [.ref a,.int (p:Nat)] g Q E:=by
 refine call_of rE rfl ?_;dsimp[T3,d7,List.replicate];walk_at"";refine Yx ?_;walk_at"";refine⟨[(kI p,.int 0)],rfl,by simp,by simp,?_⟩;have s1:oh ((g++[O.dD []]).set g.length (.dD [(kI p,.int 0)])) g.length [p]:=⟨⟨[(kI p,.int 0)],by simp,rfl,λkv hk=>by cases aR.mp hk;exact⟨0,rfl⟩⟩⟩
 have x1:Ex g ((g++[O.dD []]).set g.length (.dD [(kI p,.int 0)])):=⟨by simp,λi hi=>by rw[aw (by omega),aA hi]⟩
 have l1:((g++[O.dD []]).set g.length (.dD [(kI p,.int 0)])).length=g.length+1:=by simp
 generalize (g++[O.dD []]).set g.length (.dD [(kI p,.int 0)])=g1 at *;walk_at"";have x2:=x1.trans (Ex.snoc g1 (O.lst [.int (p:Nat)]));have s2:=s1.xZ (Ex.snoc g1 (O.lst [.int (p:Nat)]));have e2:(g1++[O.lst [.int (p:Nat)]])[g1.length]?=some (.lst (([p]:List Nat).map λj=>D.int (j:Nat))):=b8;generalize g1++[O.lst [.int (p:Nat)]]=g2 at *;refine CC (λm Z g'=>∃e S F z4 z5 z6,Z=[some (.ref a),some (.int (p:Nat)),some (.ref g.length),some (.ref e),z4,z5,z6]/\Ex g g'/\oh g' g.length S/\g'[e]?=some (.lst (F.map λj=>D.int (j:Nat)))/\g.length<e/\S.Nodup/\(∀j∈S,v8 cs p j)/\p∈S/\(∀j∈F,j∈S)/\(∀x∈S,x∉F->∀y,E0 cs x y=true->y∈S)/\m=2*(cs.length-S.length)+(if F=[] then 0 else 1)) _ ⟨g1.length,[p],[p],none,none,none,rfl,x2,s2,e2,by omega,by simp,λj hj=>(by cases aR.mp hj;exact .refl hp),by simp,by simp,λx hx hn=>absurd hx hn,rfl⟩ (λm Z g' q=>?_) (b0 T _);obtain⟨e,S,F,z4,z5,z6,rfl,x3,s3,e3,le3,nd,hS,pS,hF,cl,rfl⟩:=q;walk_at"";refine Yr (a8 e3) ?_;cases AZ:F with
 |nil =>
  refine gG rfl ?_;walk_at"";refine h _ _ S x3 (av _) s3 nd λj=>⟨hS j,λhc=>?_⟩
  have all:∀{i l:Nat},v8 cs i l->i∈S->l∈S:=λ{i l} hc hi=>by
   induction hc with
   |refl _=>exact hi
   |step _ e ih=>exact cl _ ih (by rw[AZ];simp) _ e
  exact all hc pS
 |cons f0 fr =>
  refine ik rfl ?_;rw[<- AZ];have Fne:F≠[]:=by rw[AZ];simp
  walk_at"";have x4:=x3.trans (Ex.snoc g' (O.lst []));have s4:=s3.xZ (Ex.snoc g' (O.lst []));have e4:=(Ex.snoc g' (O.lst [])).at e3;have f4:(g'++[O.lst []])[g'.length]?=some (.lst (([]:List Nat).map λj=>D.int (j:Nat))):=b8;have l3:=x3.len;have el:=k6 e3;generalize g'++[O.lst []]=g4 at *;generalize g'.length=f at *;refine x8 (b0 T _) (kL (b0 T _) ?_);walk_at"";refine⟨e,_,rfl,a8 e4,F.map λj=>D.int (j:Nat),λi Z g5=>∃F2 z5 z6,Z=[some (.ref a),some (.int (p:Nat)),some (.ref g.length),some (.ref e),some (.ref f),z5,z6]/\Ex g g5/\oh g5 g.length (S++F2)/\g5[e]?=some (.lst (F.map λj=>D.int (j:Nat)))/\g5[f]?=some (.lst (F2.map λj=>D.int (j:Nat)))/\(S++F2).Nodup/\(∀j∈S++F2,v8 cs p j)/\∀x∈F.take i,∀y,E0 cs x y=true->y∈S++F2,λi Z g5 q=>s9 (a8 (by obtain⟨_,_,_,_,_,_,q,_⟩:=q;exact q)),⟨[],z5,z6,rfl,x4,by rw[cF];exact s4,e4,f4,by rw[cF];exact nd,by rw[cF];exact hS,λx hx=>by simp at hx⟩,λi x Z g5 hx q=>?_,λZ g5 q=>?_⟩
  ·obtain⟨F2,z5,z6,rfl,x5,s5,e5,f5,xA,c5,done⟩:=q;rw[ai,aa] at hx;obtain⟨x,hx,rfl⟩:=hx;have NK:=aJ hx;have xG:=hF x NK;have NI:x<cs.length:=(hS x xG).lt.2;refine m5 ?_
   try show wpS _ _ _ _ _ _
   walk_at"";refine x8 (b0 T _) (kL (b0 T _) ?_);walk_at"";refine a82 (k:=k) hX nF oE (x5.at ha) hz NI λg6 nl e6 hnl n6=>?_;have lf:=k6 f5;have le5:=k6 e5;refine⟨nl,_,rfl,a8 n6,(U9 cs x).map λj=>D.int (j:Nat),λj Z g7=>∃F3 z6,Z=[some (.ref a),some (.int (p:Nat)),some (.ref g.length),some (.ref e),some (.ref f),some (.int (x:Nat)),z6]/\Ex g g7/\oh g7 g.length (S++F3)/\g7[e]?=some (.lst (F.map λj=>D.int (j:Nat)))/\g7[f]?=some (.lst (F3.map λj=>D.int (j:Nat)))/\g7[nl]?=some (.lst ((U9 cs x).map λj=>D.int (j:Nat)))/\(S++F3).Nodup/\(∀j∈S++F3,v8 cs p j)/\(∀y∈S++F2,y∈S++F3)/\∀y∈(U9 cs x).take j,y∈S++F3,λj Z g7 q=>s9 (a8 (by obtain⟨_,_,_,_,_,_,_,q,_⟩:=q;exact q)),⟨F2,z6,rfl,x5.trans e6,s5.xZ e6,e6.at e5,e6.at f5,n6,xA,c5,λy hy=>hy,λy hy=>by simp at hy⟩,λj y Z g7 hy q=>?_,λZ g7 q=>?_⟩
   ·obtain⟨F3,z6,rfl,x7,s7,e7,f7,n7,sW,c7,sub,vX⟩:=q;rw[ai,aa] at hy;obtain⟨y,hy,rfl⟩:=hy;have ND:=Jh.mp (aJ hy);have cy:v8 cs p y:=.step (hS x xG) (Dd ND.2);have tk:(U9 cs x).take (j+1)=(U9 cs x).take j++[y]:=by rw[bx,hy];rfl
    refine m5 ?_
    try show wpS _ _ _ _ _ _
    walk_at"";obtain⟨kvs,k1,k2,k3⟩:=s7.ex;refine ye ⟨(n8 kvs (kI y)).isSome,.inl ⟨_,kvs,kI y,rfl,k1,rfl,rfl⟩,?_⟩;walk_at"";by_cases jT:y∈S++F3
    ·refine gG (by rw[CW.mpr (by rw[k2];exact Ef.mpr jT)];rfl) ?_;walk_at"";refine⟨F3,_,rfl,x7,s7,e7,f7,n7,sW,c7,sub,λw hw=>?_⟩;rw[tk] at hw;rcases aV.mp hw with hw|hw
     ·exact vX w hw
     ·cases aR.mp hw;exact jT
    ·have jK:kI y∉kvs.map (·.1):=by rw[k2];exact λz=>jT (Ef.mp z)
     refine ik (by cases z:(n8 kvs (kI y)).isSome with|true=>exact absurd (CW.mp z) jK|false=>rfl) ?_;walk_at"";obtain⟨iK,v,m1,m2⟩:=s7.val (bD F3 xG);refine tP m1 rfl m2 ?_;walk_at"";have hlen:kvs.length<=9:=by
      have l1:kvs.length=(S++F3).length:=by simpa using dt List.length k2
      have:=S4 sW λj hj=>(c7 j hj).lt.2;omega
     refine DK k1 rfl (by omega) ?_;rw[Us jK];have nf:g.length≠f:=by omega
     have ne:g.length≠e:=by omega
     have f8:=d5 f7 nf (o':=O.dD (kvs++[(kI y,.int (v+1))]));walk_at""
     try refine⟨S5 f8,?_⟩
     walk_at"";have F3l:F3.length<=9:=by
      have:=S4 sW λj hj=>(c7 j hj).lt.2;simp at this;omega
     refine L1 f8 (by simp;omega) ?_;walk_at"";have dF:f≠e:=by omega
     refine⟨F3++[y],_,rfl,⟨by simp;exact x7.len,λi hi=>by rw[aw (by omega),aw (by omega)];exact x7.old i hi⟩,⟨⟨_,d5 (get_set k1) (by omega),by rw[bH,k2];simp,λkv hk=>?_⟩⟩,d5 (d5 e7 ne) dF,by rw[bH];exact get_set f8,d5 (d5 n7 (by omega)) (by omega),?_,λw hw=>?_,λw hw=>?_,λw hw=>?_⟩
     ·rcases aV.mp hk with hk|hk
      ·exact k3 kv hk
      ·cases aR.mp hk;exact⟨_,rfl⟩
     ·rw[<- cx,cw];exact⟨sW,by simp,λw hw w' NO=>by cases aR.mp NO;exact λz=>jT (z▸hw)⟩
     ·rw[<- cx] at hw;rcases aV.mp hw with hw|hw
      ·exact c7 w hw
      ·cases aR.mp hw;exact cy
     ·rw[<- cx];exact bD _ (sub w hw)
     ·rw[tk] at hw;rw[<- cx];rcases aV.mp hw with hw|hw
      ·exact bD _ (vX w hw)
      ·exact bq _ hw
   ·obtain⟨F3,z6,rfl,x7,s7,e7,f7,n7,sW,c7,sub,vX⟩:=q;rw[ag,bJ] at vX
    try show wpS _ _ _ _ _ _
    walk_at"";refine⟨F3,_,_,rfl,x7,s7,e7,f7,sW,c7,λw hw y hy=>?_⟩;rw[bx,hx] at hw;rcases aV.mp hw with hw|hw
    ·exact sub y (done w hw y hy)
    ·have:w=x:=by simpa using hw
     subst this;by_cases FN:y=w
     ·subst FN;exact bD _ xG
     ·exact vX y (Jh.mpr ⟨FN,Dd hy⟩)
  ·obtain⟨F2,z5,z6,rfl,x5,s5,e5,f5,xA,c5,done⟩:=q;rw[ag,bJ] at done
   try show wpS _ _ _ _ _ _
   walk_at"";have lS:=S4 xA λj hj=>(c5 j hj).lt.2;rw[aY] at lS;refine⟨_,?_,f,S++F2,F2,_,_,_,rfl,x5,s5,f5,by omega,xA,c5,bD _ pS,λj hj=>bq _ hj,λw hw hn y hy=>?_,rfl⟩
   ·rw[aD Fne,aY];cases OW:F2 with
    |nil=>simp
    |cons u v =>
     rw[OW] at lS;simp at lS ⊢;omega
   ·rcases aV.mp hw with hw|hw
    ·by_cases FQ:w∈F
     ·exact done w FQ y hy
     ·exact bD _ (cl w hw FQ y hy)
    ·exact absurd hw hn
end
def cb(p:Prop):Bool:=@decide p (Classical.propDecidable p)
theorem P4{p:Prop}:cb p=true↔p:=by
 unfold cb;exact @decide_eq_true_iff p (Classical.propDecidable p)
theorem WV{p:Prop}{b:Bool}(h:b=true↔p):cb p=b:=by
 cases b with
 |true=>exact P4.mpr (h.mp rfl)
 |false =>
  cases z:cb p with
  |false=>rfl
  |true=>exact absurd (h.mpr (P4.mp z)) (by decide)
def A6(cs:List b7)(p:Nat):List Nat:=(List.range cs.length).filter λj=>cb (v8 cs p j)
def Top(cs:List b7)(p:Nat):Prop:=∀j,v8 cs p j->p<=j
def K4(cs:List b7)(n:Nat):List (List Nat):=((List.range n).filter λp=>cb (Top cs p)).map (A6 cs)
noncomputable abbrev Y4(cs:List b7):List (List Nat):=K4 cs cs.length
noncomputable abbrev sj(l:List Nat):List D:=l.map λj=>.int (j:Nat)
theorem T2{cs:List b7}{p j:Nat}:j∈A6 cs p↔v8 cs p j:=by
 unfold A6;rw[aT,P4,aH];exact⟨λh=>h.2,λh=>⟨h.lt.2,h⟩⟩
theorem IW(cs:List b7)(p:Nat):(A6 cs p).Pairwise (· < ·):=iD.sublist ER
theorem a03{cs:List b7}{p:Nat}{S:List Nat}(nd:S.Nodup)(h:∀j,j∈S↔v8 cs p j):j9 (S.map λj:Nat=>(j:Int))=(A6 cs p).map λj:Nat=>(j:Int):=by
 have h1:((A6 cs p).map λj:Nat=>(j:Int)).Pairwise (· < ·):=by
  rw[dw];exact(IW cs p).imp λh=>by omega
 refine O9 ?_ (Z4 _) (h1.imp λh=>Int.le_of_lt h);refine(F9 _).trans ?_;refine(List.perm_ext_iff_of_nodup (ST.Dj _ _ List.nodup_nil) (h1.imp λh=>Int.ne_of_lt h)).mpr λi=>?_;rw[ST.Du];simp only[List.not_mem_nil,false_or,List.mem_map];constructor
 ·rintro⟨j,hj,rfl⟩;exact⟨j,T2.mpr ((h j).mp hj),rfl⟩
 ·rintro⟨j,hj,rfl⟩;exact⟨j,(h j).mpr (T2.mp hj),rfl⟩
theorem CY{cs:List b7}{p:Nat}(hp:p<cs.length):∃m,(A6 cs p)[0]?=some m/\(m=p↔Top cs p):=by
 have h1:=T2.mpr (.refl hp:v8 cs p p);have h2:=IW cs p;have h3:=λj=>(T2 (cs:=cs) (p:=p) (j:=j))
 cases z:A6 cs p with
 |nil=>rw[z] at h1;cases h1
 |cons m t =>
  rw[z] at h1 h2 h3;rw[gs] at h2;refine⟨m,rfl,λe j hj=>?_,λe=>?_⟩
  ·rcases aI.mp ((h3 j).mpr hj) with w|w
   ·omega
   ·have:=h2.1 j w;omega
  ·have:=e m ((h3 m).mp (by simp));rcases aI.mp h1 with w|w
   ·exact w.symm
   ·have:=h2.1 p w;omega
theorem JZ{cs:List b7}{n:Nat}:K4 cs (n+1)=K4 cs n++if cb (Top cs n)=true then[A6 cs n] else[]:=by
 unfold K4;rw[dj,de,bH]
 congr 1
 cases z:cb (Top cs n)<;>simp only[List.filter_cons,z,List.filter_nil]<;>rfl
theorem JO{cs:List b7}{n:Nat}:(K4 cs n).length<=n:=by
 unfold K4;rw[ag];exact aE (cA _ _) (by simp)
structure lV(g:G)(lo r:Nat)(rs:List Nat)(hs:List (List Nat)):Prop where
 len:rs.length=hs.length
 at_:∀(i a:Nat) (h:List Nat),rs[i]?=some a->hs[i]?=some h->lo<=a/\a≠r/\g[a]?=some (.lst (sj h))
theorem lV.nil{g:G}{lo r:Nat}:lV g lo r [] []:=⟨rfl,λi a h e=>by simp at e⟩
theorem lV.ex{g g':G}{lo r:Nat}{rs:List Nat}{hs:List (List Nat)}(L:lV g lo r rs hs)(e:Ex g g'):lV g' lo r rs hs:=⟨L.len,λi a h h1 h2=>let ⟨x,y,z⟩:=L.at_ i a h h1 h2;⟨x,y,e.at z⟩⟩
theorem lV.set{g:G}{lo r:Nat}{rs:List Nat}{hs:List (List Nat)}(L:lV g lo r rs hs)(o:O):lV (g.set r o) lo r rs hs:=⟨L.len,λi a h h1 h2=>let ⟨x,y,z⟩:=L.at_ i a h h1 h2;⟨x,y,d5 z (bT y)⟩⟩
theorem lV.add{g:G}{lo r a:Nat}{rs:List Nat}{hs:List (List Nat)}{h:List Nat}(L:lV g lo r rs hs)(h1:lo<=a)(h2:a≠r)(h3:g[a]?=some (.lst (sj h))):lV g lo r (rs++[a]) (hs++[h]):=by
 refine⟨by simp[L.len],λi b h' e1 e2=>?_⟩;have hl:=L.len;rcases dU i rs.length with w|w|w
 ·rw[aA w] at e1;rw[aA (by omega)] at e2;exact L.at_ i b h' e1 e2
 ·subst w;rw[bB (av _)] at e1;rw[hl,bB (av _)] at e2;simp at e1 e2;subst e1 e2;exact⟨h1,h2,h3⟩
 ·rw[ba (by simp;omega)] at e1;cases e1
section
variable{T:Nat->Option aZ}{k d:Nat}{g g':G}{Q:KD}{E:KX}{a p sd:Nat}{cs:List b7}{S:List Nat}
theorem CJ(h1:NF T)(h2:T 2=some C9)(nG:T 12=some A7)(mD:EH T)(hX:sG T)(nF:T 76=some M9)(oE:T 77=some E7)(rE:T 78=some T3)(vI:T 79=some yw)(ha:g[a]?=some (.lst (cs.map b7.d)))(hz:cs.length<=1000)(hm:9<cs.length->E ⟨"TooMany"⟩ g)(hb:cs.length<=9->cs.all p0=false->E ⟨"BadCoin"⟩ g)(h:∀(g':G) (r:Nat) (rs:List Nat),cs.length<=9->cs.all p0=true->Ex g g'->g.length<=r->g'[r]?=some (.lst (rs.map .ref))->lV g' g.length r rs (Y4 cs)->Q (.ref r) g'):c8 T (k+7) 79 [.ref a] g Q E:=by
 refine call_of vI rfl ?_;dsimp[yw,d7,List.replicate];walk_at"";refine N4 (k:=k) h1 h2 nG mD ha hz hm hb λh9 hg=>?_;walk_at"";have x1:=Ex.snoc g (O.lst []);have e1:(g++[O.lst []])[g.length]?=some (.lst (([]:List Nat).map D.ref)):=b8;generalize g++[O.lst []]=g1 at *;refine x8 (b0 T _) (qh (b0 T _) ?_);walk_at"";refine O6 (a8 (x1.at ha)) ?_;rw[ag];refine⟨_,rfl,by omega,by omega,k8 0 cs.length,λi Z g'=>∃rs z2 z3,Z=[some (.ref a),some (.ref g.length),z2,z3]/\Ex g g'/\g'[g.length]?=some (.lst (rs.map .ref))/\lV g' g.length g.length rs (K4 cs i),λi Z g p=>B5,⟨[],none,none,rfl,x1,e1,.nil⟩,λi x Z g' hx p=>?_,λZ g' p=>?_⟩
 ·obtain⟨rs,z2,z3,rfl,x2,e2,L⟩:=p;obtain⟨hi,rfl⟩:=G0 hx;have ez:(0:Int)+(i:Nat)=(i:Nat):=by omega
  rw[ez]
  try show wpS _ _ _ _ _ _
  walk_at"";refine a36 (k:=k+1) hX nF oE rE (x2.at ha) h9 hi λg3 sd S x3 l3 s3 nd hS=>?_;obtain⟨kvs,k1,k2,k3⟩:=s3.ex;have hSl:S.length<=cs.length:=S4 nd λj hj=>((hS j).mp hj).lt.2;refine TZ (ns:=S.map λj:Nat=>(j:Int)) k1 (by rw[k2,bu];rfl) (by simp;omega) ?_;rw[a03 nd hS,bu];have x4:=Ex.snoc g3 (O.lst (sj (A6 cs i)));have e4:(g3++[O.lst (sj (A6 cs i))])[g3.length]?=some (.lst (sj (A6 cs i))):=b8;have l4:=x3.len;have l2:=x2.len;have lt2:=k6 e2;have e5:=x4.at (x3.at e2);have L5:=(L.ex x3).ex x4;have x5:=(x2.trans x3).trans x4;show wpS _ _ _ _ (g3++[O.lst (sj (A6 cs i))]) _;generalize g3++[O.lst (sj (A6 cs i))]=g5 at *;walk_at"";obtain⟨m,Gg,vj⟩:=CY (p:=i) hi;refine u5 (d:=.int (m:Nat)) (a8 e4) (C7 (j:=0) (by rw[ai,Gg];rfl)) ?_;walk_at"";have ec:cb (Top cs i)=decide ((m:Int)=(i:Int)):=WV (by rw[dc,<- vj];omega);by_cases Gf:m=i
  ·refine ik (by rw[Gf];simp) ?_;walk_at""
   try refine⟨S5 e5,?_⟩
   walk_at"";have FW:=L.len;have NQ:=JO (cs:=cs) (n:=i);refine L1 e5 (by rw[ag];omega) ?_;walk_at"";refine⟨rs++[g3.length],_,_,rfl,⟨by rw[List.length_set];exact x5.len,λj hj=>by rw[aw (by omega)];exact x5.old j hj⟩,by rw[bH];exact get_set e5,?_⟩;rw[JZ,ec,aK (by rw[Gf];simp)];exact(L5.set _).add (by omega) (by omega) (d5 e4 (by omega))
  ·refine gG (aL (by omega)) ?_;walk_at"";refine⟨rs,_,_,rfl,x5,e5,?_⟩;rw[JZ,ec,aD (by rw[dc];omega),cF];exact L5
 ·obtain⟨rs,z2,z3,rfl,x2,e2,L⟩:=p;walk_at"";rw[show(k8 0 cs.length).length=cs.length by simp[k8]] at L;exact h _ _ rs h9 hg x2 (av _) e2 L
end
structure mE(cs dO:List b7)(f u:Nat->Nat):Prop where
 len:dO.length=cs.length
 fl:∀i,i<cs.length->f i<cs.length
 ul:∀i,i<cs.length->u i<cs.length
 fu:∀i,i<cs.length->f (u i)=i
 uf:∀i,i<cs.length->u (f i)=i
 lo:∀i j,i<cs.length->j<cs.length->((cL dO (f i)).lo=(cL dO (f j)).lo↔(cL cs i).lo=(cL cs j).lo)
 mw:∀i j,i<cs.length->j<cs.length->mw (cL dO (f i)) (cL dO (f j))=mw (cL cs i) (cL cs j)
 lt:∀i j,i<cs.length->j<cs.length->kh (cL dO (f i)) (cL dO (f j))=kh (cL cs i) (cL cs j)
 lk:∀i j,i<cs.length->j<cs.length->lk (cL dO (f i)) (cL dO (f j))=lk (cL cs i) (cL cs j)
def C4(f:Nat->Nat)(r:dZ):dZ:=⟨.fB,(f r.x.toNat:Nat),(f r.y.toNat:Nat)⟩
section
variable{cs dO:List b7}{v:Int}{rs:List dZ}{o:List Nat}{f u:Nat->Nat}
theorem mE.symm(R:mE cs dO f u):mE dO cs u f:=by
 have hl:=R.len;refine⟨hl.symm,λi hi=>hl▸R.ul i (hl▸hi),λi hi=>hl▸R.fl i (hl▸hi),λi hi=>R.uf i (hl▸hi),λi hi=>R.fu i (hl▸hi),λi j hi hj=>?_,λi j hi hj=>?_,λi j hi hj=>?_,λi j hi hj=>?_⟩
 all_goals
  have iy:i<cs.length:=hl▸hi;have mz:j<cs.length:=hl▸hj
 ·have:=R.lo (u i) (u j) (R.ul i iy) (R.ul j mz);rw[R.fu i iy,R.fu j mz] at this;exact this.symm
 ·have:=R.mw (u i) (u j) (R.ul i iy) (R.ul j mz);rw[R.fu i iy,R.fu j mz] at this;exact this.symm
 ·have:=R.lt (u i) (u j) (R.ul i iy) (R.ul j mz);rw[R.fu i iy,R.fu j mz] at this;exact this.symm
 ·have:=R.lk (u i) (u j) (R.ul i iy) (R.ul j mz);rw[R.fu i iy,R.fu j mz] at this;exact this.symm
theorem oX.kT(R:mE cs dO f u)(hw:∀r∈rs,r.w=.fB)(hR:∀r∈rs,k9 cs r=true)(h:oX cs v rs o):oX dO v (rs.map (C4 f)) (o.map f):=by
 refine⟨by rw[ag,h.len,R.len],λi p' e=>?_⟩;rw[ai,aa] at e;obtain⟨p,e,rfl⟩:=e;rw[<- jP];obtain⟨h1,h2,h3⟩:=h.st i p e;have hH:∀x∈o.take i,x<cs.length:=λx hx=>h.lt x (zu hx);generalize o.take i=H at *;have mem:∀j,j<cs.length->(j∈H.map f↔u j∈H):=λj hj=>by
  rw[aM];constructor
  ·rintro⟨y,hy,rfl⟩;rw[R.uf y (hH y hy)];exact hy
  ·intro hy;exact⟨u j,hy,R.fu j hj⟩
 have S':∀j,j<cs.length->kK (H.map f) j=kK H (u j):=λj hj=>bA.mpr (mem j hj);have Aj:=R.uf p h1;have Gq:=R.fl p h1;obtain⟨w1,w2,w3,w4⟩:=Ki.mp h3;refine⟨by rw[R.len];exact Gq,λz=>h2 (Aj▸(mem _ Gq).mp z),Ki.mpr ⟨?_,?_,?_,?_⟩⟩
 ·refine yY.mpr λj hj=>?_;rw[R.len] at hj;have e:=R.mw (u j) p (R.ul j hj) h1;rw[R.fu j hj] at e;rw[S' j hj,e];exact yY.mp w1 (u j) (R.ul j hj)
 ·refine yY.mpr λj hj=>?_;rw[R.len] at hj;have e:=R.lt (u j) p (R.ul j hj) h1;rw[R.fu j hj] at e;rw[S' j hj,e];exact yY.mp w2 (u j) (R.ul j hj)
 ·refine Int.le_trans (Int.ofNat_le.mpr ?_) w3;have zY:∀a b,a<cs.length->b<cs.length->((cL dO a).lo=(cL dO b).lo↔(cL cs (u a)).lo=(cL cs (u b)).lo):=λa b ha hb=>by
   have:=R.lo (u a) (u b) (R.ul a ha) (R.ul b hb)
   rwa [R.fu a ha,R.fu b hb] at this
  obtain⟨ix,pP⟩:∃ix:Int->Nat,∀a,a<cs.length->ix (cL dO a).lo<cs.length/\(cL dO (ix (cL dO a).lo)).lo=(cL dO a).lo:=by
   refine⟨λd=>((List.range cs.length).find? λa=>decide ((cL dO a).lo=d)).getD 0,λa ha=>?_⟩;dsimp only;cases z:(List.range cs.length).find? λb=>decide ((cL dO b).lo=(cL dO a).lo) with
   |none=>exact absurd (aF rfl) (gC.mp z a (aH.mpr ha))
   |some b=>exact⟨aH.mp (ph z),by have:=List.find?_some z;simpa using this⟩
  have key:∀a,a<cs.length->(cL cs (u (ix (cL dO a).lo))).lo=(cL cs (u a)).lo:=λa ha=>(zY _ _ (pP a ha).1 ha).mp (pP a ha).2;have wit:∀d',M5 dO (kK (H.map f)) (f p) d'=true->∃a,a<cs.length/\(cL dO a).lo=d':=λd' hd=>by
   obtain⟨⟨a,a1,_,a3⟩,_⟩:=DP.mp hd;rw[R.len] at a1;exact⟨a,a1,a3⟩
  unfold su;have:=ym (l:=((j9 (dO.map b7.lo)).filter (M5 dO (kK (H.map f)) (f p))).map λd'=>(cL cs (u (ix d'))).lo) (m:=(j9 (cs.map b7.lo)).filter (M5 cs (kK H) p)) ?_ ?_
  ·rwa [ag] at this
  ·refine dw.mpr (((LH _).filter _).imp_of_mem λ{x y} hx hy dF z=>dF ?_);obtain⟨a,a1,rfl⟩:=wit x (aT.mp hx).2;obtain⟨b,b1,rfl⟩:=wit y (aT.mp hy).2;rw[key a a1,key b b1] at z;exact(zY a b a1 b1).mpr z
  ·intro d hd;obtain⟨d',vy,rfl⟩:=aM.mp hd;have hu:=(aT.mp vy).2;obtain⟨⟨a,a1,a2,a3⟩,b,b1,b2,b3⟩:=DP.mp hu;rw[R.len] at a1 b1;subst a3;rw[key a a1];have vB:=(zY b a b1 a1).mp b3;rw[S' a a1] at a2;rw[S' b b1] at b2;refine aT.mpr ⟨Ji.mpr (QH (R.ul a a1)),DP.mpr ⟨⟨u a,R.ul a a1,a2.imp id (λz=>by rw[z,Aj]),rfl⟩,u b,R.ul b b1,b2,vB⟩⟩
 ·unfold O1;rw[List.all_map,bo];intro r hr;have jg:=hw r hr;obtain⟨gx,gy,gn⟩:=V4 jg (hR r hr);have hn:=bo.mp w4 r hr;rw[jg] at hn;simp only[meant,Bool.or_eq_true,Bool.not_eq_true',decide_eq_false_iff_not] at hn;simp only[Function.comp_apply,C4,meant,Bool.or_eq_true,Bool.not_eq_true',decide_eq_false_iff_not];rcases hn with hn|hn
  ·refine .inl (aL λz=>hn ?_);have z:f p=f r.y.toNat:=by omega
   have:=dt u z;rw[Aj,R.uf _ (by omega)] at this;omega
  ·refine .inr (yZ.mpr ?_);obtain⟨j,j1,j2⟩:=yZ.mp hn;simp only[Bool.and_eq_true,decide_eq_true_eq] at j2;have hj:j=r.x.toNat:=by omega
   refine⟨f j,by rw[R.len];exact R.fl j j1,?_⟩;rw[S' _ (R.fl j j1),R.uf j j1];rw[aU];exact⟨aF j2.1,aF (by rw[hj])⟩
theorem Jl(R:mE cs dO f u){r:dZ}(hw:r.w=.fB)(h:k9 cs r=true):k9 dO (C4 f r)=true:=by
 obtain⟨gx,gy,gn⟩:=V4 hw h;have h1:=R.fl r.x.toNat (by omega);have h2:=R.fl r.y.toNat (by omega);refine aQ0 (by rw[R.len];omega) (by rw[R.len];omega) λz=>gn ?_;have z:f r.x.toNat=f r.y.toNat:=by omega
 have:=dt u z;rw[R.uf _ (by omega),R.uf _ (by omega)] at this;omega
theorem a56(R:mE cs dO f u){rs:List dZ}(hw:∀r∈rs,r.w=.fB)(hR:∀r∈rs,k9 cs r=true):(rs.map (C4 f)).map (C4 u)=rs:=by
 rw[bu];refine(dI (g:=id) λr hr=>?_).trans (lY rs);obtain⟨gx,gy,gn⟩:=V4 (hw r hr) (hR r hr);have e:=hw r hr;obtain⟨w,x,y⟩:=r;simp only at e gx gy;subst e;simp only[Function.comp_apply,C4,Int.toNat_natCast,id];rw[R.uf _ (by omega),R.uf _ (by omega)]
 congr 1<;>omega
theorem Ks(R:mE cs dO f u)(hw:∀r∈rs,r.w=.fB)(hR:∀r∈rs,k9 cs r=true):many cs v rs<=many dO v (rs.map (C4 f)):=by
 have back:∀{o:List Nat},o∈m9 cs.length (u9 cs v rs) 0->(o.map f).map u=o:=λ{o} ho=>by
  rw[bu];exact(dI (g:=id) λi hi=>R.uf i ((T1.mp ho).lt i hi)).trans (lY o)
 have:=ym (l:=(m9 cs.length (u9 cs v rs) 0).map (List.map f)) (m:=m9 dO.length (u9 dO v (rs.map (C4 f))) 0) (dw.mpr (TX.imp_of_mem λ{x y} hx hy dF z=>dF (by
  have z:=dt (List.map u) z
  rwa [back hx,back hy] at z))) λx hx=>by
  obtain⟨o,ho,rfl⟩:=aM.mp hx;exact T1.mpr ((T1.mp ho).kT R hw hR)
 rwa [ag] at this
theorem a54(R:mE cs dO f u)(hw:∀r∈rs,r.w=.fB)(hR:∀r∈rs,k9 cs r=true):many dO v (rs.map (C4 f))=many cs v rs:=by
 refine mJ ?_ (Ks R hw hR);have:=Ks (v:=v) (rs:=rs.map (C4 f)) R.symm (λr hr=>by
  obtain⟨r',h',rfl⟩:=aM.mp hr
  rfl) λr hr=>by
  obtain⟨r',h',rfl⟩:=aM.mp hr;exact Jl R (hw r' h') (hR r' h')
 rwa [a56 R hw hR] at this
theorem Kl{i j:Nat}(hi:i<cs.length)(hj:j<cs.length):E0 cs i j=lk (cL cs i) (cL cs j):=by
 unfold E0;rw[A4 (ah hi),A4 (ah hj),ah hi,ah hj]
theorem v8.kT(R:mE cs dO f u){i j:Nat}(h:v8 cs i j):v8 dO (f i) (f j):=by
 induction h with
 |refl h=>exact .refl (by rw[R.len];exact R.fl _ h)
 |step h a ih =>
  obtain⟨h1,h2⟩:=yI a;refine .step ih ?_;rw[Kl (by rw[R.len];exact R.fl _ h1) (by rw[R.len];exact R.fl _ h2),R.lk _ _ h1 h2,<- Kl h1 h2];exact a
theorem a04{p q:Nat}(h:v8 cs p q):A6 cs p=A6 cs q:=by
 unfold A6;refine List.filter_congr λj _=>?_;rw[bc,P4,P4];exact⟨λz=>h.symm.trans z,λz=>h.trans z⟩
theorem Lm(R:mE cs dO f u):(Y4 dO).length<=(Y4 cs).length:=by
 unfold Y4 K4;rw[ag,ag];have:=ym (l:=((List.range dO.length).filter λp=>cb (Top dO p)).map λp=>(A6 cs (u p)).getD 0 0) (m:=(List.range cs.length).filter λp=>cb (Top cs p)) ?_ ?_
 ·rwa [ag] at this
 all_goals
  have hd:∀p,p<cs.length->∃m,(A6 cs p).getD 0 0=m/\v8 cs p m/\Top cs m:=λp hp=>by
   obtain⟨m,m1,_⟩:=CY hp;have hc:=T2.mp (aJ m1);obtain⟨m',FE,m2⟩:=CY (cs:=cs) (p:=m) hc.lt.2;rw[<- a04 hc,m1] at FE;exact⟨m,by rw[bC,m1];rfl,hc,m2.mp (aO FE).symm⟩
 ·refine dw.mpr ((eK.filter _).imp_of_mem λ{x y} hx hy dF z=>dF ?_);obtain⟨x1,x2⟩:=aT.mp hx;obtain⟨y1,y2⟩:=aT.mp hy;have x1:=aH.mp x1;have y1:=aH.mp y1;rw[R.len] at x1 y1;obtain⟨m,m1,m2,_⟩:=hd (u x) (R.ul x x1);obtain⟨n,n1,n2,_⟩:=hd (u y) (R.ul y y1);rw[m1,n1] at z;subst z;have hc:=(m2.trans n2.symm).kT R;rw[R.fu x x1,R.fu y y1] at hc;exact mJ (P4.mp x2 y hc) (P4.mp y2 x hc.symm)
 ·intro q hq;obtain⟨p,hp,rfl⟩:=aM.mp hq;have p1:=aH.mp (aT.mp hp).1;rw[R.len] at p1;obtain⟨m,m1,m2,m3⟩:=hd (u p) (R.ul p p1);rw[m1];exact aT.mpr ⟨aH.mpr m2.lt.2,P4.mpr m3⟩
theorem aU7(R:mE cs dO f u):(Y4 dO).length=(Y4 cs).length:=mJ (Lm R) (Lm R.symm)
end
def Er:aZ:=⟨1,13,(.seq (.set 1 (.call 3 (eO aP))) (.seq (.mj (.many [2,3]) (.call 26 (dE bh (bf 8)))) (.seq (.set 4 (.comp [] 2 (.one 1) (.fF (.call 106 (dE bh bp))) (ff .Eq (df bh (bf 0)) (iJ "coin")) bh)) (.seq (.set 5 (.call 21 (dE bh (dX .jc (dX .len bp))))) (.seq (.set 6 (cE .lst (cE (.bin .Add) (bf 1) (.call 4 (dE bh (bf 96)))) (cE (.bin .Add) (bf 1) (.call 4 (dE bh (bf 96)))))) (.seq (.set 7 (.prim .lst .nil)) (.seq (.dY (.one 8) (.fF fz) (.seq (.set 9 (df bp ni)) (.seq (.expr (.dR .append je (eO (.prim .tup (uw (cE (.bin .Add) (bf 1) (cE (.bin .Mod) (cE (.bin .Mult) (df nh (bf 0)) (df fk (bf 0))) (bf 97))) (df nh (bf 1)) (cE (.bin .Add) (bf 1) (cE (.bin .Mod) (cE (.bin .Mult) (df nh (bf 2)) (df fk (bf 1))) (bf 97))) (df nh (bf 3)) (df nh (bf 4))))))) .pass))) (.seq (.set 10 (.comp [5] 3 (.one 2) (.fF dg) .no (.prim .tup (gI (iJ "coin") (.dR .index aP (eO (df bp (bf 1)))) (.dR .index aP (eO (df bp (bf 2)))))))) (.seq (.ifs (ff .Gt (dX .max (cE (.bin .Add) (dX .lst (bf 0)) (.comp [] 2 (.one 1) (.fF bp) .no (cE .max (df bh (bf 0)) (df bh (bf 2)))))) (bf 97)) (.seq (.ret (cE (.cmp .LtE) (dX .len (.call 79 (eO bp))) (dX .len bp))) .pass) .pass) (.seq (.set 11 (.call 126 (gI bp bR dg))) (.seq (.ifs (.kz (.eX (.fS (.call 6 (eO kW)))) (.kz (ff .NotEq (.call 126 (gI je bR kX)) kW) (ff .NotEq (dX .len (.call 79 (eO je))) (dX .len (.call 79 (eO bp)))))) (.seq (.ret (.lit (.bl false))) .pass) .pass) (.seq (.ifs (ff .Eq kW (bf 0)) (.seq (.ret (.lit (.bl true))) .pass) .pass) (.seq (.set 12 (.comp [5] 3 (.one 2) (.fF (.call 127 (qw bp bR dg (.call 4 (dE bh kW))))) .no (.dR .index aP (eO bp)))) (.seq (.ret (cE (.cmp .Is) (.call 104 (qw je bR kX kj)) (.lit .bQ))) .pass))))))))))))))⟩
structure T18(T:Nat->Option aZ):Prop where
 tb:TB T
 qD:zh T
 tf:TF T
 tw:TW T
 tn:TN T
 to:TO T
 h3:T 3=some yk
 h6:T 6=some zc
 Pn:T 11=some Er
 nF:T 76=some M9
 oE:T 77=some E7
 rE:T 78=some T3
 vI:T 79=some yw
 rL:T 104=some O3
 oH:T 126=some yU
 rG:T 127=some V2
structure GCd(c:b7):Prop where
 lo:1<=c.lo/\c.lo<=99
 up:1<=c.up/\c.up<=99
 lm:gm 0 c.lm=true
 um:gm 0 c.um=true
 yr:0<=c.yr/\c.yr<=9999
theorem iz.d{c:b7}(h:iz c):GCd c:=by
 have:=h.good;simp only[p0,Bool.and_eq_true,decide_eq_true_eq] at this;exact⟨this.1.1,this.2.1.1,this.1.2,this.2.1.2,this.2.2⟩
theorem yE{cs:List b7}{i:Nat}(hi:i<cs.length):cL cs i∈cs:=by
 rw[A4 (ah hi)];exact cc hi
theorem Cu{α:Type}(f:α->D)(d:α)(l:List α):(List.range l.length).map (λi=>f (l.getD i d))=l.map f:=by
 have:=Lw (λ_:α=>true) f d l
 rwa [jD.mpr (λ_ _=>rfl),jD.mpr (λ_ _=>rfl)] at this
def kT(s t:Int)(c:b7):b7:=⟨1+c.lo*s % 97,c.lm,1+c.up*t % 97,c.um,c.yr⟩
theorem Ic{s a b:Int}(hs:1<=s/\s<=96)(ha:1<=a/\a<=97)(hb:1<=b/\b<=97):1+a*s % 97=1+b*s % 97↔a=b:=by
 constructor
 ·intro h;have h:a*s % 97=b*s % 97:=by omega
  have inv:∀n:Nat,n<97->1<=n->∃t,t<97/\(n*t) % 97=1:=by decide
  obtain⟨t,_,ht⟩:=inv s.toNat (by omega) (by omega);have ht:s*(t:Int) % 97=1:=by
   have e:((s.toNat*t:Nat):Int) % 97=1:=by omega
   rw[mM,show((s.toNat:Nat):Int)=s by omega] at e;exact e
  have key:∀x:Int,x*s*(t:Int) % 97=x % 97:=λx=>by
   rw[Int.mul_assoc,uj,ht,Int.mul_one,Int.emod_emod]
  have h1:a*s*(t:Int) % 97=b*s*(t:Int) % 97:=by
   rw[uj,h,<- uj]
  rw[key,key] at h1;omega
 ·intro h;rw[h]
theorem a55{s t:Int}{c:b7}(h:iz c):iz (kT s t c):=by
 obtain⟨h1,h2,h3,h4,h5⟩:=h.d;have l1:=dk (c.lo*s) (show(97:Int)≠0 by decide);have l2:=cR (c.lo*s) (show(0:Int)<97 by decide);have u1:=dk (c.up*t) (show(97:Int)≠0 by decide);have u2:=cR (c.up*t) (show(0:Int)<97 by decide);exact iz.mk' (by omega) (by omega) (by omega) (by omega) h5.1 h5.2 h3 h4 h.l8 h.u8
def nc(c:b7):Int:=if c.up>c.lo then c.up else c.lo
def idx(π:List Nat)(i:Nat):Nat:=π.findIdx λx=>x==i
theorem Kk{π:List Nat}{i:Nat}(h:i∈π):π[idx π i]?=some i:=by
 have hl:idx π i<π.length:=List.findIdx_lt_length_of_exists ⟨i,h,by simp⟩;have:=List.findIdx_getElem (w:=hl);rw[ah hl];exact dt some (fb.mp this)
theorem a71{l:List D}{n:Nat}(h:l.Perm (d4 (List.range n))):∃π:List Nat,l=d4 π/\π.length=n/\π.Nodup/\∀i,i∈π↔i<n:=by
 rw[ints_map] at h;obtain⟨ms,rfl,hp⟩:=ZU h;have h2:=hp.map Int.toNat;rw[bu,show(Int.toNat ∘ λ(i:Nat)=>(i:Int))=id from funext λ_=>rfl,lY] at h2;refine⟨ms.map Int.toNat,?_,by rw[h2.length_eq];simp,h2.nodup_iff.mpr eK,λi=>by rw[h2.mem_iff,aH]⟩;unfold d4;rw[bu];refine dI λx hx=>?_;obtain⟨i,_,rfl⟩:=aM.mp (hp.mem_iff.mp hx)
 rfl
theorem a52(n:Nat):k8 0 n=d4 (List.range n):=by
 unfold k8 d4;exact dI λi _=>by rw[kE]
theorem KN:∀{l:List Int},l≠[]->∃m∈l,∀x∈l,x<=m
 |[],h=>absurd rfl h
 |[x],_=>⟨x,by simp,λy hy=>by simp at hy;omega⟩
 |x::y::r,_=>by
  obtain⟨m,h1,h2⟩:=KN (l:=y::r) (by simp);by_cases hx:m<=x
  ·refine⟨x,by simp,λz hz=>?_⟩;rcases aI.mp hz with e|e
   ·omega
   ·have:=h2 z e;omega
  ·refine⟨m,by simp[h1],λz hz=>?_⟩;rcases aI.mp hz with e|e
   ·omega
   ·exact h2 z e
section
variable{cs:List b7}{π:List Nat}{s t:Int}
def named(s t:Int)(cs:List b7)(π:List Nat):List b7:=π.map λj=>kT s t (cL cs j)
theorem F1{j p:Nat}(h:π[j]?=some p):cL (named s t cs π) j=kT s t (cL cs p):=A4 (by unfold named;rw[ai,h];rfl)
theorem ZI(hl:π.length=cs.length)(nd:π.Nodup)(hm:∀i,i∈π↔i<cs.length)(hs:1<=s/\s<=96)(ht:1<=t/\t<=96)(rg:∀i,i<cs.length->(1<=(cL cs i).lo/\(cL cs i).lo<=97)/\1<=(cL cs i).up/\(cL cs i).up<=97):mE cs (named s t cs π) (idx π) (λj=>π.getD j 0):=by
 have nN:∀i,i<cs.length->π[idx π i]?=some i:=λi hi=>Kk ((hm i).mpr hi);have at2:∀j,j<cs.length->π[j]?=some (π.getD j 0):=λj hj=>by
  rw[bC,ah (hl▸hj)]
  rfl
 have By:∀i j,i<cs.length->j<cs.length->((kT s t (cL cs i)).lo=(kT s t (cL cs j)).lo↔(cL cs i).lo=(cL cs j).lo):=λi j hi hj=>Ic hs (rg i hi).1 (rg j hj).1;have GZ:∀i j,i<cs.length->j<cs.length->((kT s t (cL cs i)).up=(kT s t (cL cs j)).up↔(cL cs i).up=(cL cs j).up):=λi j hi hj=>Ic ht (rg i hi).2 (rg j hj).2;refine⟨by unfold named;rw[ag,hl],λi hi=>?_,λj hj=>?_,λj hj=>?_,λi hi=>?_,λi j hi hj=>?_,λi j hi hj=>?_,λi j hi hj=>?_,λi j hi hj=>?_⟩
 ·have:=(aj.mp (nN i hi)).1;omega
 ·exact(hm _).mp (aJ (at2 j hj))
 ·exact Xy nd (nN _ ((hm _).mp (aJ (at2 j hj)))) (at2 j hj)
 ·rw[bC,nN i hi]
  rfl
 ·rw[F1 (nN i hi),F1 (nN j hj)];exact By i j hi hj
 ·rw[F1 (nN i hi),F1 (nN j hj)];unfold M.mw;rw[bA.mpr (By i j hi hj),bA.mpr (GZ i j hi hj)]
  rfl
 ·rw[F1 (nN i hi),F1 (nN j hj)]
  rfl
 ·rw[F1 (nN i hi),F1 (nN j hj)];unfold M.lk;rw[bA.mpr (By i j hi hj),bA.mpr (GZ i j hi hj)]
end
section
variable{T:Nat->Option aZ}{k d:Nat}{g g':G}{Q:KD}{E:KX}{a b c r:Nat}{cs:List b7}{rs:List dZ}{v:Int}{ns:List Int}
theorem CZ{π:List Nat}{i:Nat}(hb:g[b]?=some (.lst (d4 π)))(hl:π.length<=100000)(hi:i∈π)(h:Q (.int (idx π i:Nat)) g):cY .index [.ref b,.int (i:Nat)] g Q:=by
 refine Xt (n:=idx π i) (a8 hb) ⟨?_,rfl,⟨.int (i:Nat),by rw[d4,ai,Kk hi];rfl,?_⟩,λm z hm hz=>?_⟩ (by rw[E1];omega) h
 ·rw[bo];intro z hz;obtain⟨i,_,rfl⟩:=aM.mp hz
  rfl
 ·show((i:Int)==(i:Int))=true;simp
 ·rw[d4,ai,aa] at hz;obtain⟨p,hp,rfl⟩:=hz;show((p:Int)==(i:Int))=false;cases e:((p:Int)==(i:Int)) with
  |false=>rfl
  |true =>
   have e:p=i:=by have:=fb.mp e;omega
   subst e;have lP:=(aj.mp hp)
   obtain⟨h1,h2⟩:=lP;have:=List.not_of_lt_findIdx (p:=λx=>x==p) (xs:=π) (i:=m) hm;rw[h2] at this;simp at this
theorem a88(hT:T18 T){ns:List Int}:c8 T (k+12) 11 [.ref 0] [.oJ (ns.map .int)] (λd _=>d=.bl true) jk:=by
 refine call_of hT.Pn rfl ?_;dsimp[Er,d7,List.replicate];walk_at"";refine TV (k:=k+10) hT.h3 (a:=0) (ns:=ns) rfl λd g D1 _ _=>?_;walk_at"";have dl:=D1.lt;refine aP7 (k:=k+7) hT.qD.lf ⟨by decide,by decide⟩ D1 λcs a v g2 hl hG ha hal v1 v2 D2 G2=>?_;refine A9 rfl ?_
 try show wpS _ _ _ _ _ _
 have hz:cs.length<=8:=by omega
 have dl2:=D2.lt;walk_at"";refine aR1 (b0 T _) (kL (b0 T _) ?_);walk_at"";refine a51 (k:=k+8) hT.qD ha (by omega) (by omega) D2 λmU c0 g3 NR OT rz kQ D3 G3=>?_;have a3:=G3.at (by omega) ha;have Ao:(t8 mU).length=mU.length:=by unfold t8;simp
 refine⟨c0,_,rfl,a8 rz,t8 mU,λZ=>∃z0 z1,Z=[z0,z1],λi=>pH (mU.getD i r0),λi=>(mU.getD i r0).d,λg' e=>s9 (a8 (e.at rz)),by omega,⟨none,none,rfl⟩,λi x Z g' hx e sh=>?_,λg4 e4=>?_⟩
 ·obtain⟨z0,z1,rfl⟩:=sh;unfold t8 at hx;rw[ai,aa] at hx;obtain⟨r,hr,rfl⟩:=hx;have er:mU.getD i r0=r:=by rw[bC,hr];rfl
  dsimp only;rw[er];refine m5 ?_
  try show cT _ _ _ _ _ _
  walk_at"";refine B4 (l:=[.str r.w.s,.int r.x,.int r.y]) rfl ?_;walk_at"";refine⟨rfl,e,?_⟩;refine if2 (λ_=>?_) (λ_=>⟨_,_,rfl⟩);walk_at"";exact⟨rfl,e,_,_,rfl⟩
 rw[Ao,Lw pH dZ.d r0 mU];have hw:∀r∈mU.filter pH,r.w=.fB:=λr hr=>Xg (aT.mp hr).2;have vF:∀r∈mU.filter pH,k9 cs r=true:=λr hr=>bo.mp OT r (aT.mp hr).1;have FW:(mU.filter pH).length<=4:=aE (cA _ _) NR;generalize mU.filter pH=rs at *;have hR:rs.all (k9 cs)=true:=bo.mpr vF;have c5:(g4++[O.lst (rs.map dZ.d)])[g4.length]?=some (.lst (t8 rs)):=b8;have e5:=e4.trans (Ex.snoc g4 (O.lst (rs.map dZ.d)));have a5:=e5.at a3;have D5:=e5.draw D3;have kn:g4.length≠d:=by have:=e4.len;have:=D3.lt;omega
 have AF:a≠d:=by omega
 generalize g4++[O.lst (rs.map dZ.d)]=g5 at *;generalize g4.length=c at *;clear e5 e4;walk_at"";refine zX (by omega) (by rw[ag];omega) ?_;rw[ag,bO,a52];walk_at"";refine V9 (k:=k+9) hT.qD.lf.pull hT.qD.lf.order b8 (by rw[E1];simp;omega) (by have:=D5.lt;omega) (D5.snoc _) λl' pa g7 FY h7 fX D7 G7=>?_;obtain⟨π,rfl,MA,Mz,sP⟩:=a71 FY;have a7:=G7.at AF ((Ex.snoc _ _).at a5);have c7:=G7.at kn ((Ex.snoc _ _).at c5);have FZ:pa≠d:=by have:=D5.lt;simp at fX;omega
 clear a5 c5 D5 G7 FY fX;walk_at"";refine i0 (k:=k+10) hT.qD.lf.pull D7 (by decide) (by decide) λs0 g8 M' MZ D8 G8=>?_;walk_at"";refine i0 (k:=k+10) hT.qD.lf.pull D8 (by decide) (by decide) λt0 g9 MR MQ D9 G9=>?_;have zi:=G8.trans G9;have a9:=zi.at AF a7;have c9:=zi.at kn c7;have p9:=zi.at FZ h7;obtain⟨s,hs⟩:∃s,s=1+s0:=⟨_,rfl⟩
 obtain⟨t,ht⟩:∃t,t=1+t0:=⟨_,rfl⟩
 clear G8 G9 zi D8 D7 a7 c7 h7;walk_at"";rw[<- hs,<- ht];have xI:1<=s/\s<=96:=by omega
 have NP:1<=t/\t<=96:=by omega
 clear hs ht M' MZ MR MQ;have uB:=b8 (g:=g9) (o:=O.lst [D.int s,D.int t]);have eB:=Ex.snoc g9 (O.lst [D.int s,D.int t]);generalize g9++[O.lst [D.int s,D.int t]]=gB at *;generalize g9.length=st at *;have aB:=eB.at a9;have cB:=eB.at c9;have pB:=eB.at p9;have DB:=eB.draw D9;clear eB a9 c9 p9 D9;have zT:=b8 (g:=gB) (o:=O.lst []);have e0:=Ex.snoc gB (O.lst []);generalize gB++[O.lst []]=GP at *;obtain⟨nm,Gb⟩:∃nm,nm=gB.length:=⟨_,rfl⟩
 rw[<- Gb] at zT ⊢;refine x8 (b0 T _) (kL (b0 T _) ?_);walk_at"";refine⟨pa,_,rfl,a8 (e0.at pB),d4 π,λi Z g'=>(Ex gB g'/\g'[nm]?=some (.lst ((π.take i).map λj=>(kT s t (cL cs j)).d)))/\∃z8 z9,Z=[some (.ref 0),some (.ref d),some (.ref a),some (.int v),some (.ref c),some (.ref pa),some (.ref st),some (.ref nm),z8,z9,none,none,none],λi Z g' q=>s9 (a8 (q.1.1.at pB)),⟨⟨e0,zT⟩,none,none,rfl⟩,λi x Z g' hx q=>?_,λZ g' q=>?_⟩
 ·obtain⟨⟨e1,n1⟩,z8,z9,rfl⟩:=q;rw[d4,ai,aa] at hx;obtain⟨p,hp,rfl⟩:=hx;have fX:p<cs.length:=(sP p).mp (aJ hp);have Gm:=(hG _ (yE fX)).d;have Oy:=Gm.lo;have Ox:=Gm.up;have a1:=e1.at aB;have s1:=e1.at uB;refine m5 ?_
  try show wpS _ _ _ _ _ _
  walk_at"";refine u5 (a8 a1) (Ta fX) ?_;dsimp only[b7.d];walk_at"";refine M0 (wD (by omega) (by omega)) ?_;walk_at"";refine M0 (wD (by omega) (by omega)) ?_;walk_at"";refine L1 n1 (by simp;omega) ?_;walk_at"";refine⟨⟨⟨by simp;exact e1.len,λq hq=>by rw[aw (by omega)];exact e1.old q hq⟩,?_⟩,_,_,rfl⟩;rw[get_set n1,bx,hp,bH]
  rfl
 obtain⟨⟨e1,n1⟩,z8,z9,rfl⟩:=q;rw[E1,bJ,show(π.map λj=>(kT s t (cL cs j)).d)=(named s t cs π).map b7.d by unfold named;rw[bu];rfl] at n1;have aC:=e1.at aB;have cC:=e1.at cB;have pC:=e1.at pB;have DC:=e1.draw DB;have Aw:nm≠d:=by have:=DB.lt;omega
 clear e1 e0 aB cB pB DB zT uB Gb
 try show wpS _ _ _ _ _ _
 walk_at"";refine comp_map (b0 T _) (λZ=>∃z1 z2,Z=[some (.ref pa),z1,z2]) (λi=>(C4 (idx π) (rs.getD i r0)).d) (l:=t8 rs) (k:=.lst c) (λg' e=>s9 (a8 (e.at cC))) (by rw[LO];omega) ⟨none,none,rfl⟩ (λi x Z g2 hx e sh=>?_) (λtH vV=>?_) (qi (b0 T _) (a8 cC) λQ q=>w_var (d:=.ref c) rfl q)
 ·obtain⟨z1,z2,rfl⟩:=sh;unfold t8 at hx;rw[ai,aa] at hx;obtain⟨r,hr,rfl⟩:=hx;have er:rs.getD i r0=r:=by rw[bC,hr];rfl
  rw[er];have FV:=aJ hr;obtain⟨gx,gy,gn⟩:=V4 (hw r FV) (vF r FV);obtain⟨x,hx⟩:∃x:Nat,r.x=x:=⟨r.x.toNat,by omega⟩
  obtain⟨y,hy⟩:∃y:Nat,r.y=y:=⟨r.y.toNat,by omega⟩
  refine m5 ?_
  try show aS _ _ _ _ _ _
  have p2:=e.at pC;walk_at"";refine⟨Ek (a8 p2),?_⟩;walk_at"";refine B4 (l:=[.str r.w.s,.int r.x,.int r.y]) rfl ?_;walk_at"";rw[hx];refine CZ p2 (by omega) ((sP x).mpr (by omega)) ?_;walk_at"";refine⟨Ek (a8 p2),?_⟩;walk_at"";refine B4 (l:=[.str r.w.s,.int r.x,.int r.y]) rfl ?_;walk_at"";rw[hy];refine CZ p2 (by omega) ((sP y).mpr (by omega)) ?_;walk_at"";exact⟨by unfold C4 dZ.d;rw[hx,hy];rfl,e,_,_,rfl⟩
 rw[LO,Cu (λr=>(C4 (idx π) r).d) r0 rs,show rs.map (λr=>(C4 (idx π) r).d)=t8 (rs.map (C4 (idx π))) by unfold t8;rw[bu];rfl];have GS:=b8 (g:=tH) (o:=O.lst (t8 (rs.map (C4 (idx π)))));have lx:=vV.trans (Ex.snoc tH (O.lst (t8 (rs.map (C4 (idx π))))));have OA:tH.length≠d:=by have:=vV.len;have:=DC.lt;omega
 generalize tH++[O.lst (t8 (rs.map (C4 (idx π))))]=PK at *;generalize tH.length=f at *;have zf:=lx.at aC;have Hz:=lx.at cC;have Fs:=lx.at pC;have FA:=lx.at n1;have Mm:=lx.draw DC;clear vV lx aC cC pC n1 DC;walk_at"";refine comp_map (b0 T _) (λZ=>∃z0 z1,Z=[z0,z1]) (λi=>.int (nc (cs.getD i cD))) (l:=cs.map b7.d) (k:=.lst a) (λg' e=>s9 (a8 (e.at ((Ex.snoc _ _).at zf)))) (by simp;omega) ⟨none,none,rfl⟩ (λi x Z g' hx e sh=>?_) (λGO BB=>?_) (qi (b0 T _) (a8 ((Ex.snoc _ _).at zf)) λQ q=>w_var (d:=.ref a) rfl q)
 ·obtain⟨z0,z1,rfl⟩:=sh;rw[ai,aa] at hx;obtain⟨x,hx,rfl⟩:=hx;have ex:cs.getD i cD=x:=by rw[bC,hx];rfl
  rw[ex];refine m5 ?_;dsimp only[b7.d]
  try show aS _ _ _ _ _ _
  walk_at"";exact⟨rfl,e,_,_,rfl⟩
 rw[ag,Cu (λx=>D.int (nc x)) cD cs];refine HW ((BB.trans (Ex.snoc _ _)).at b8) b8 (by simp;omega) ?_;have Ge:([D.int 0]++cs.map λx=>D.int (nc x))=((0:Int)::cs.map nc).map D.int:=by simp
 rw[Ge];obtain⟨mx,FC,zU⟩:=KN (l:=(0:Int)::cs.map nc) (by simp);refine Xv (a8 b8) FC zU ?_;have oQ:=(Ex.snoc PK (O.lst [D.int 0])).trans (BB.trans ((Ex.snoc GO (O.lst (cs.map λx=>D.int (nc x)))).trans (Ex.snoc _ (O.lst (((0:Int)::cs.map nc).map D.int)))));generalize GO++[O.lst (cs.map λx=>D.int (nc x))]++[O.lst (((0:Int)::cs.map nc).map D.int)]=GN at *;have ze:=oQ.at zf;have Hy:=oQ.at Hz;have Fq:=oQ.at Fs;have Fz:=oQ.at FA;have GR:=oQ.at GS;have Ml:=oQ.draw Mm;clear BB oQ zf Hz Fs FA GS Mm;have hg:cs.all p0=true:=bo.mpr λc hc=>(hG c hc).good;walk_at"";refine if2 (λxV=>?_) (λxV=>?_)
 ·walk_at"";refine CJ (k:=k+4) hT.tb.nf hT.tb.h2 hT.tb.nG hT.tb.mD hT.tb.hX hT.nF hT.oE hT.rE hT.vI ze (by omega) (λz=>absurd z (by omega)) (λ_ z=>by rw[hg] at z;cases z) λPJ r xr _ _ qa _ oG L15=>?_;walk_at"";refine O6 (a8 (qa.at ze)) ?_;walk_at"";have h1:xr.length<=cs.length:=L15.len▸JO;rw[aF (by simp only[List.length_map];omega)]
 have Be:∀i,i<cs.length->(1<=(cL cs i).lo/\(cL cs i).lo<=97)/\1<=(cL cs i).up/\(cL cs i).up<=97:=λi hi=>by
  have h1:=(hG _ (yE hi)).d;have h2:=h1.lo;have h3:=h1.up;have:=zU (nc (cL cs i)) (by simp only[List.mem_cons,List.mem_map];exact .inr ⟨_,yE hi,rfl⟩);unfold nc at this;split at this<;>exact⟨⟨by omega,by omega⟩,by omega,by omega⟩
 have R:=ZI (cs:=cs) (s:=s) (t:=t) MA Mz sP xI NP Be;clear FC zU xV Ge;have OV:∀x∈named s t cs π,iz x:=λx hx=>by
  unfold named at hx;obtain⟨j,hj,rfl⟩:=aM.mp hx;exact a55 (hG _ (yE ((sP j).mp hj)))
 have GF:(rs.map (C4 (idx π))).all (k9 (named s t cs π))=true:=by
  rw[List.all_map,bo];exact λr hr=>Jl R (hw r hr) (vF r hr)
 have oB:(named s t cs π).length=cs.length:=R.len;have oZ:Ask GN a c cs v rs:=⟨ze,by omega,hG,⟨v1,by omega⟩,Hy,by omega,hR⟩
 have EI:Ask GN nm f (named s t cs π) v (rs.map (C4 (idx π))):=⟨Fz,by omega,OV,⟨v1,by omega⟩,GR,by rw[ag];omega,GF⟩
 clear ze Hy Fz GR;have Ax:=a54 (v:=v) R hw vF;have Oe:=Ax;have Ov:=aU7 R;walk_at"";refine JP (k:=k) hT.tb hT.tf hT.tw hT.oH oZ.ha oZ.hz oZ.good oZ.hB oZ.hv oZ.hc oZ.hr hR λPJ qa=>?_;walk_at"";refine QQ (k:=k+10) hT.h6 ?_;walk_at"";have qp:=EI.at qa;refine JP (k:=k) hT.tb hT.tf hT.tw hT.oH qp.ha qp.hz qp.good qp.hB qp.hv qp.hc qp.hr GF λg16 Hi=>?_;walk_at"";unfold many at Ax;rw[Ax];refine gG (by simp) ?_;have vU:=qa.trans Hi;have EJ:=oZ.at vU;have zl:=EI.at vU;have Fp:=vU.at Fq;have Mj:=vU.draw Ml;clear qa Hi vU oZ EI qp Fq Ml;walk_at"";refine CJ (k:=k+4) hT.tb.nf hT.tb.h2 hT.tb.nG hT.tb.mD hT.tb.hX hT.nF hT.oE hT.rE hT.vI zl.ha (by omega) (λz=>absurd z (by omega)) (λ_ z=>by rw[zl.good] at z;cases z) λg17 r1 uI _ _ BA _ Pm Mf=>?_;walk_at"";refine CJ (k:=k+4) hT.tb.nf hT.tb.h2 hT.tb.nG hT.tb.mD hT.tb.hX hT.nF hT.oE hT.rE hT.vI (BA.at EJ.ha) (by omega) (λz=>absurd z (by omega)) (λ_ z=>by rw[hg] at z;cases z) λg18 r2 qI _ _ Hh _ mD Me=>?_;walk_at"";refine gG (by rw[ag,ag,Mf.len,Me.len,Ov];simp) ?_;have vT:=BA.trans Hh;have A18:=EJ.at vT;have B18:=zl.at vT;have Nk:=vT.at Fp;have D18:=vT.draw Mj;clear BA Hh vT Pm mD Mf Me EJ zl Fp Mj;have Ak:=Tv (v:=v) (rs:=rs) (show cs.length<=9 by omega);unfold many at Ak;walk_at"";refine if2 (λz=>?_) (λdF=>?_)
 ·walk_at""
  rfl
 walk_at"";refine IV (b0 T _) (kL (b0 T _) ?_);walk_at"";refine i0 (k:=k+10) hT.qD.lf.pull D18 (by omega) (by omega) λm g19 m0 m1 D19 EE=>?_;obtain⟨m,rfl⟩:∃m':Nat,m=m':=⟨m.toNat,by omega⟩
 have A19:=A18.gr EE AF kn;have B19:=B18.gr EE Aw OA;have Nj:=EE.at FZ Nk;walk_at"";refine aB0 (k:=k) hT.tb hT.tf hT.tw hT.tn hT.rG A19 (m:=m) (by unfold many;omega) λo l g20 hO Hg Oj xW=>?_;have Ni:=Hg.at Nj;have B20:=B19.at Hg;have hOr:=hO.kT R hw vF;refine⟨l,_,rfl,a8 xW,d4 o,λZ=>∃z1 z2,Z=[some (.ref pa),z1,z2],λj=>.int ((idx π (o.getD j 0):Nat):Int),λg' e=>s9 (a8 (e.at xW)),by rw[E1,hO.len];omega,⟨none,none,rfl⟩,λj x Z g' hx e sh=>?_,λg21 Qf=>?_⟩
 ·obtain⟨z1,z2,rfl⟩:=sh;rw[d4,ai,aa] at hx;obtain⟨p,hp,rfl⟩:=hx;have ep:o.getD j 0=p:=by rw[bC,hp];rfl
  have fX:=hO.lt p (aJ hp);dsimp only;rw[ep];refine m5 ?_
  try show aS _ _ _ _ _ _
  have Fo:=e.at Ni;walk_at"";refine⟨Ek (a8 Fo),?_⟩;walk_at"";refine CZ Fo (by omega) ((sP p).mpr fX) ?_;exact⟨rfl,e,_,_,rfl⟩
 rw[E1,Cu (λi=>D.int ((idx π i:Nat):Int)) 0 o,show o.map (λi=>D.int ((idx π i:Nat):Int))=((o.map (idx π)).map λ(i:Nat)=>(i:Int)).map D.int by rw[bu,bu];rfl];walk_at"";refine ZM (k:=k) hT.tb hT.to hT.rL (B20.at (Qf.trans (Ex.snoc _ _))) b8 (by rw[ag,hOr.len,oB];omega) λg22 Hf=>?_;rw[hOr.none];walk_at""
 rfl
end
end M

namespace Lk
open PySem L2 M
def top(i:Nat):Stmt:=PySem.Challenge.pw_trussel_k18_whole_names_and_places.main.body.getD i (.Pass ⟨0,0,0,0⟩)
def SY:Stmt->List Stmt
 |.ClassDef (body:=b) ..=>b
 |_=>[]
def HE(i j:Nat):Stmt:=(SY (top i)).getD j (.Pass ⟨0,0,0,0⟩)
def F:List RF:=[⟨38,"is_number",["thing"],1,10,Dh⟩,⟨1,"number_from",["number","least","most"],3,11,W3⟩,⟨2,"good_marks",["marks","least","spot"],1,12,C9⟩,⟨15,"within",["one","other"],2,13,yL⟩,⟨12,"good_coin",["coin","lower","lower_marks","upper","upper_marks","year","good_lower","good_upper"],1,20,A7⟩,⟨39,"check_coin",["coin"],1,21,Dp⟩,⟨18,"check_coins",["coins","coin"],1,22,W6⟩,⟨40,"check_side",["side"],1,23,Q4⟩,⟨19,"die_field",["side"],1,24,Df⟩,⟨74,"places_of",["coins","word","thing","field"],3,25,V1⟩,⟨20,"dies_of",["coins","side","field"],2,26,Cs⟩,⟨42,"check_anvils",["anvils"],1,31,F4⟩,⟨88,"good_rule",["coins","rule","word","one","other"],2,32,Dg⟩,⟨89,"check_rules",["coins","rules","at","rule"],2,33,W5⟩,⟨90,"stand_of",["places"],1,34,yV⟩,⟨91,"with_coin",["stand","place"],2,35,V0⟩,⟨92,"more_worn",["one","other","side","field"],2,36,Di⟩,⟨93,"later",["one","other"],2,37,Eg⟩,⟨94,"worn_stands",["coins"],1,38,W0⟩,⟨95,"later_stands",["coins"],1,39,T5⟩,⟨96,"die_stands",["coins"],1,40,Dq⟩,⟨97,"needed_stands",["coins","rules","needed","word","one","other","first","place"],2,41,P5⟩,⟨98,"check_asked",["coins","anvils","rules"],3,43,O4⟩,⟨99,"bounds_of",["coins","anvils","rules"],3,44,De⟩,⟨100,"dies_in_use",["bounds","stand","place","struck","left"],3,45,Dr⟩,⟨101,"next_fault",["bounds","stand","place"],3,46,Dt⟩,⟨102,"places_fault",["many","order","at","place"],2,47,L3⟩,⟨103,"fault_of",["bounds","order","fault","stand","at","place","word"],2,48,CM⟩,⟨104,"order_fault",["coins","anvils","rules","order"],4,49,O3⟩,⟨115,"follows",["bounds","stand","place"],3,51,yT⟩,⟨116,"followers",["bounds","stand"],2,52,Ds⟩,⟨117,"reached_stands",["bounds","led_to","told","stand","place"],1,53,J1⟩,⟨121,"ways_on",["bounds","ways","stand"],1,55,Ct⟩,⟨122,"step_on",["bounds","ways","stand","number","choices","left","at"],4,56,yK⟩,⟨123,"numbered_order",["bounds","ways","number","order","stand","left","place"],3,57,M8⟩,⟨126,"how_many",["coins","anvils","rules"],3,58,yU⟩,⟨127,"order_of",["coins","anvils","rules","number","bounds","ways"],4,59,V2⟩,⟨76,"linked",["one","other"],2,61,M9⟩,⟨77,"near_places",["coins","place"],2,62,E7⟩,⟨78,"steps_to",["coins","goal","steps","edge","further","place","near"],2,63,T3⟩,⟨79,"heaps",["coins","told","place","heap"],1,64,yw⟩,⟨3,"_law_open",["_law_script"],1,66,yk⟩,⟨4,"_law_pull",["_law_draw","_law_total_of","_law_cell","_law_got","_law_seed"],2,67,E9⟩,⟨6,"_law_num",["_law_found"],1,68,zc⟩,⟨21,"_law_order_of",["_law_draw","_law_numbers","_law_left","_law_found","_law_step"],2,69,T4⟩,⟨22,"_law_any_coin",["_law_draw","_law_menu","_law_lower","_law_upper","_law_year"],1,70,yS⟩,⟨23,"_law_seated",["_law_draw","_law_seats","_law_fresh","_law_anvils"],4,71,I9⟩,⟨24,"_law_struck",["_law_draw","_law_size","_law_anvils","_law_seats","_law_fresh","_law_worn","_law_year","_law_step","_law_wear","_law_shift","_law_found","_law_k","_law_keys","_law_key","_law_spot","_law_named","_law_told_year"],3,72,I0⟩,⟨25,"_law_opened",["_law_draw","_law_size","_law_dies","_law_row","_law_held","_law_found","_law_k","_law_year"],2,73,yJ⟩,⟨26,"_law_list",["_law_draw","_law_most","_law_size","_law_anvils","_law_way","_law_found","_law_at","_law_coin","_law_other"],2,74,Q3⟩,⟨105,"_law_rule",["_law_draw","_law_coins","_law_word","_law_some","_law_at"],2,75,tX⟩,⟨106,"_law_rules",["_law_draw","_law_coins","_law_found","_law_k","_law_rule_here"],2,76,Eh⟩,⟨11,"law",["_law_script","_law_draw","_law_coins","_law_anvils","_law_rules_here","_law_places","_law_steps","_law_named","_law_at","_law_coin","_law_moved_rules","_law_total","_law_row"],1,77,Er⟩]
def Ms:List RM:=[⟨113,"Bounds","__init__","Bounds.__init__",["self","coins","anvils","rules"],4,42,0,W7⟩]
def con:List (Str×D):=[("LAST_SPOT",.int 7),("MOST_COINS",.int 9),("LAST_DIE",.int 99),("LAST_YEAR",.int 9999),("SIDES",.tup [(.str "lower"),(.str "upper")]),("MOST_ANVILS",.int 9),("RULE_WORDS",.tup [(.str "coin"),(.str "lower"),(.str "upper")]),("YEAR_FIELD",.int 4)]
def gd:List (Str×List D):=[("DIE_FIELDS",[.tup [.str "lower",.int 0],.tup [.str "upper",.int 2]])]
def exc:List Str:=["BadAnvils","BadCoin","BadNumber","BadRule","BadSide","TooMany"]
def c0:i6:=⟨[],[],true,F.map λr=>(r.nm,r.id),con,["len","enumerate","list","tuple","isinstance","all","range","int","bool","max","min","sorted","set","any","sum","reversed"],exc,gd,[("Bounds",113)],Ms.map λr=>(r.nm,r.cl,r.id),[("size","Bounds"),("full","Bounds"),("room","Bounds"),("worn_by_place","Bounds"),("later_by_place","Bounds"),("lower_dies","Bounds"),("needed_by_place","Bounds")],true,true⟩
noncomputable abbrev T:Nat->Option aZ:=tS F Ms
theorem tx:lz c0 F Ms top HE:=by
 refine⟨rfl,rfl,by decide +kernel,by decide +kernel,by decide +kernel,by decide +kernel,?_,?_,?_,?_⟩
 all_goals
  repeat first
   |exact BF.nil
   |exact BM.nil
   |exact YF.nil
   |exact YM.nil
   |refine YF.cons (by kernel_rfl) ?_
   |refine YM.cons (by kernel_rfl) ?_
   |refine BF.cons (λ_ _ _ _ _ _=>(by(repeat refine EW λ_=>?_);exact EV rfl)) ?_
   |refine BM.cons (λ_ _ _ _ _ _=>(by(repeat refine EW λ_=>?_);exact EV rfl)) ?_
inductive tL:List DictEntry->List (Str×V)->Prop
 |nil:tL [] []
 |cons {h:Int} {x:Str} {t:Tok} {u:Value} {v:V} {es:List DictEntry} {vs:List (Str×V)} (r:RelV v u) (q:tL es vs):tL (⟨h,.str x t,u⟩::es) ((x,v)::vs)
theorem tL.find{es vs}(x:Str)(h:tL es vs):F8 (vs.lookup x) (findBy Value.isStrOf es.toArray x):=by
 induction h with
 |nil=>trivial
 |cons r q ih =>
  rename_i h y t u v es vs;unfold findBy at ih ⊢;rw[List.find?_toArray] at ih ⊢;rw[eZ,cQ];by_cases e:x=y
  ·rw[show(x==y)=true from by simp[e],show Value.isStrOf x (.str y t)=true from by simp[Value.isStrOf,e]];exact r
  ·rw[show(x==y)=false from by simpa using e,show Value.isStrOf x (.str y t)=false from by simp[Value.isStrOf];exact λz=>e (z.symm)];exact ih
theorem all_mk{l:PySem.W.OpenLaw}{w:World}{K:PySem.W.Frag}{h:Heap}{mg:Str->Option Value}{fa:Addr}{BN BL xY:Addr}{t0 t1 t2 t3 we wc t5 wb wa vZ t7 pX pW pV pU:Tok}{BG:Array (Option Value)}{BI:Nat}{BE:Array (Option Value)}{BH:Nat}{Pw:Nat}{nJ nH:Int}(X:K.In h)(G:h.Ns mainGlobals mg)(OB:mg "law"=some (.ref fa))(I:lA K c0 F Ms top HE)(e0:PySem.W.nsIn K mainGlobals "LAST_SPOT"=some (some (Value.int 7 t0)))(e1:PySem.W.nsIn K mainGlobals "MOST_COINS"=some (some (Value.int 9 t1)))(e2:PySem.W.nsIn K mainGlobals "LAST_DIE"=some (some (Value.int 99 t2)))(e3:PySem.W.nsIn K mainGlobals "LAST_YEAR"=some (some (Value.int 9999 t3)))(e4:PySem.W.nsIn K mainGlobals "SIDES"=some (some (.ref BN)))(Qp:K.lookup BN=some ⟨.type "tuple",none,.seq #[Value.str "lower" we,Value.str "upper" wc] BI,BG⟩)(e5:PySem.W.nsIn K mainGlobals "MOST_ANVILS"=some (some (Value.int 9 t5)))(e6:PySem.W.nsIn K mainGlobals "RULE_WORDS"=some (some (.ref BL)))(Qo:K.lookup BL=some ⟨.type "tuple",none,.seq #[Value.str "coin" wb,Value.str "lower" wa,Value.str "upper" vZ] BH,BE⟩)(e7:PySem.W.nsIn K mainGlobals "YEAR_FIELD"=some (some (Value.int 4 t7)))(g0:PySem.W.nsIn K mainGlobals "DIE_FIELDS"=some (some (.ref xY)))(Pz:K.lookup xY=some ⟨.type "dict",none,.dict #[⟨nJ,Value.str "lower" pX,Value.int 0 pW⟩,⟨nH,Value.str "upper" pV,Value.int 2 pU⟩] Pw,#[]⟩)(qO:nJ=PyData.keyHash w.params "lower")(qN:nH=PyData.keyHash w.params "upper")(Pu:(xY==sysModules)=false)
  : ∃fd:FuncData,(∀(s:Shared) (v:Value),BindsTo s fd ⟨[v],[]⟩ [("_law_script",v)])/\∀base:Heap,K.In base->base.Ns mainGlobals mg->iN l.prog w K mg base (jv l.prog w) 80 fa fd ["_law_script"] (pD exc K 1 (c8 T 40 11)):=by
 have A:nO w K mg c0 T:=by
  refine SE I tx X G (λx d hx=>?_) (λx kvs hx=>?_)
  ·have hm:=aQ hx;simp only[c0,con,List.mem_cons,List.mem_nil_iff,or_false] at hm;rcases hm with z|z|z|z|z|z|z|z
   ·cases z;exact⟨(.int 7),_,bX X G e0,⟨_,rfl⟩,λ_ _=>.int _⟩
   ·cases z;exact⟨(.int 9),_,bX X G e1,⟨_,rfl⟩,λ_ _=>.int _⟩
   ·cases z;exact⟨(.int 99),_,bX X G e2,⟨_,rfl⟩,λ_ _=>.int _⟩
   ·cases z;exact⟨(.int 9999),_,bX X G e3,⟨_,rfl⟩,λ_ _=>.int _⟩
   ·cases z;exact⟨.ref BN,_,bX X G e4,rfl,λ_ _=>.tup (vs:=[.str "lower",.str "upper"]) (.inr ⟨_,_,_,Qp,rfl,rfl,rfl,(by show 2<=sizeLine;decide),.cons ⟨_,rfl⟩ (.cons ⟨_,rfl⟩ (.nil))⟩) (.cons (.str _) (.cons (.str _) (.nil)))⟩
   ·cases z;exact⟨(.int 9),_,bX X G e5,⟨_,rfl⟩,λ_ _=>.int _⟩
   ·cases z;exact⟨.ref BL,_,bX X G e6,rfl,λ_ _=>.tup (vs:=[.str "coin",.str "lower",.str "upper"]) (.inr ⟨_,_,_,Qo,rfl,rfl,rfl,(by show 3<=sizeLine;decide),.cons ⟨_,rfl⟩ (.cons ⟨_,rfl⟩ (.cons ⟨_,rfl⟩ (.nil)))⟩) (.cons (.str _) (.cons (.str _) (.cons (.str _) (.nil))))⟩
   ·cases z;exact⟨(.int 4),_,bX X G e7,⟨_,rfl⟩,λ_ _=>.int _⟩
  ·have hm:=aQ hx;simp only[c0,gd,List.mem_cons,List.mem_nil_iff,or_false] at hm;have z:=hm
   ·cases z;have er:tL [⟨nJ,Value.str "lower" pX,Value.int 0 pW⟩,⟨nH,Value.str "upper" pV,Value.int 2 pU⟩] [("lower",.int 0),("upper",.int 2)]:=.cons (v:=.int 0) ⟨_,rfl⟩ (.cons (v:=.int 2) ⟨_,rfl⟩ (.nil));exact⟨xY,_,bX X G g0,⟨_,_,Pz,⟨⟨_,_,rfl,qO⟩,⟨⟨_,_,rfl,qN⟩,True.intro⟩⟩,Pu,λx=>er.find x⟩,.cons (λ_ _=>.int _) (.cons (λ_ _=>.int _) (.nil))⟩
 obtain⟨f,fd,O,a,t⟩:=Lf I tx _ (aJ (i:=52) rfl);cases OB.symm.trans (bX X G a);obtain⟨oc,od,kV,doc,pm,an,fQ,ct,mq,rfl,lk,kn⟩:=O.fn.ex;exact⟨_,λs v=>.of_eq rfl,λbase nU vN=>YC nU vN A 40 11 _ _ fa _ rfl O⟩
theorem walk{l:PySem.W.OpenLaw}{q:Program}{loose:List Str}{XP:(Str->Option Value)->Heap->Prop}{YP:World->Heap->Prop}{d:DefRec}{K:Params->PySem.W.Frag}(hn:l.most=some 63)(vw:d.params.defaults=[])(hY:∀(w:World) (h:Heap),YP w h->(K w.params).In h)(F:∀ (w:World) (mg:Str->Option Value) (fa:Addr) (h:Heap),(K w.params).In h->h.Ns mainGlobals mg->mg d.name=some (.ref fa) ->
   ∃ fd:FuncData,(∀ (s:Shared) (u:Value),BindsTo s fd ⟨[u],[]⟩ [("_law_script",u)])/\∀ base:Heap,(K w.params).In base->base.Ns mainGlobals mg->iN l.prog w (K w.params) mg base (jv l.prog w) 80 fa fd ["_law_script"] (pD exc (K w.params) 1 (c8 T 40 11))) :
  PySem.W.WalkO q loose XP YP l.row.toRowW d [] (λf vs=>PySem.call f vs) :=
 L2.UZ (n:=63) (k:=80) (x:="_law_script") (CX:=λw=>jv l.prog w) (sp:=λw=>pD exc (K w.params) 1 (c8 T 40 11)) hn (by decide) vw ⟨rfl,by decide,by decide⟩ hY F (λw H a ns hl hO hS=>QF hO hS (a88 (k:=28) ⟨⟨⟨⟨rfl,rfl⟩,rfl,rfl,⟨rfl,rfl⟩,⟨rfl,rfl⟩,rfl,rfl,rfl,rfl,rfl,rfl,rfl,rfl,rfl,rfl,rfl,rfl,rfl,rfl,rfl,rfl⟩,rfl,rfl,rfl⟩,⟨⟨rfl,rfl,rfl,rfl,rfl,rfl,rfl⟩,rfl,rfl⟩,⟨rfl,rfl⟩,⟨rfl,rfl⟩,⟨rfl,rfl⟩,⟨rfl,rfl⟩,rfl,rfl,rfl,rfl,rfl,rfl,rfl,rfl,rfl,rfl⟩)) λ_ _ _ _ _ ⟨_,_,_,_,_,_,_,z⟩=>z
end Lk
open PySem PySem.W PyProof.Rows
set_option maxRecDepth 100000 in
set_option maxHeartbeats 0 in
theorem PySem.Challenge.cw_trussel_k18_whole_names_and_places_holds : PySem.Challenge.rw_trussel_k18_whole_names_and_places.Holds := by
 w_on;o_law;k_head;(case hw=>w_witness2)
 k_fill
 refine Lk.walk (l:=PySem.Challenge.rw_trussel_k18_whole_names_and_places) rfl rfl (fun w h Y=>PySem.W.kIn_of Y) ?F
 case F =>
  intro w mg fa h KX G hmg
  refine' Lk.all_mk KX G hmg ⟨?zz1,?zz2,?zz3,?zz4,?zz5,?zz6,?zz7⟩ ?_ ?_ ?_ ?_ ?_ ?_ ?_ ?_ ?_ ?_ ?_ ?_ ?_ ?_ ?_
  (case zz1=>repeat' first | (with_reducible show _=_;k_is) | exact M.PF.nil | apply M.PF.cons)
  (case zz2=>repeat' first | (with_reducible show _=_;k_is) | exact M.PM.nil | apply M.PM.cons)
  (case zz3=>repeat' first | (with_reducible show _=_;k_is) | exact M.PC.nil | apply M.PC.cons)
  (case zz4=>repeat' first | (with_reducible show _=_;k_is) | exact M.PA.nil | apply M.PA.cons)
  (case zz5=>repeat' first | (with_reducible show _=_;k_is) | exact M.PB.nil | apply M.PB.cons)
  (case zz6=>repeat' first | (with_reducible show _=_;first | (with_reducible show PySem.W.excIn _ _ _ _=true;k_exc) | k_is) | exact M.PX.nil | apply M.PX.cons)
  (case zz7=>kernel_rfl)
  all_goals try (with_reducible show _=_;k_is)
  all_goals try ((with_reducible show _=_);rfl)
#print axioms PySem.Challenge.cw_trussel_k18_whole_names_and_places_holds
