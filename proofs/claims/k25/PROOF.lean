import PyProof.Rows.All
import Wide.All
import OpenK.AllK
import Wide.FinOn
import Lean
import PyProof.EqAt
import PyProof.EqKinds
import PyProof.TupleCall
import PySem.Challenge.RW_trussel_k25_whole_fewest_by_all_orders
set_option Elab.async false
set_option linter.all false
set_option maxRecDepth 100000
set_option maxHeartbeats 4000000
local macro_rules|`(def $i:declId $s:optDeclSig $v:declVal)=>`(noncomputable def $i:declId $s:optDeclSig $v:declVal)
def Dn:=@PySem.wpAny_binaryOp_repeat_ref
def Dp:=@PySem.W.hideAll_get
def Dq:=@List.length_pos_iff
def JJ:=@PySem.W.of_hideAll
def JK:=@PySem.W.kitx_tuple
def JL:=@PySem.W.callWith_K
def JN:=@Nat.mod_lt
def JO:=@List.filter_filter
def JP:=@Int.natCast_nonneg
def JQ:=@Int.natAbs_natCast
def JR:=@Array.append_assoc
def aA:=@decide_eq_true
def aB:=@PySem.Heap.lt_size
def aC:=@if_neg
def aD:=@Nat.le_trans
def aE:=@List.mem_cons
def aF:=@List.getElem?_append_left
def aG:=@PySem.Heap.get?_push_size
def aH:=@List.size_toArray
def aI:=@List.mem_of_getElem?
def aJ:=@List.getElem?_eq_none
def aK:=@if_pos
def aM:=@Option.some.inj
def aN:=@Nat.ne_of_lt
def aP:=@PySem.mem_of_lookup
def aQ:=@List.mem_map
def aR:=@List.any_eq_true
def aS:=@Bool.and_eq_true
def aT:=@List.mem_range
def aU:=@Bool.eq_iff_iff
def aV:=@List.mem_append
def aW:=@List.getElem?_set_self
def aY:=@List.mem_singleton
def aZ:=@List.length_append
def aa:=@Option.map_eq_some_iff
def ae:=@PySem.wpAny_bind
def ag:=@List.getElem?_map
def ai:=@Option.bind_eq_some_iff
def aj:=@List.getElem?_eq_getElem
def ak:=@List.length_map
def ao:=@List.getElem?_eq_some_iff
def au:=@PySem.wpAny_pure
def av:=@PySem.Heap.get?_push_of_some
def aw:=@Nat.le_refl
def ax:=@List.getElem?_set_ne
def ay:=@Nat.lt_of_lt_of_le
def az:=@decide_eq_false
def bA:=@List.getElem?_range
def bB:=@Array.length_toList
def bD:=@List.mem_iff_getElem
def bE:=@Ne.symm
def bI:=@List.take_length
def bJ:=@PyProof.Rows.callWith_type1
def bL:=@PyProof.Rows.slot_tuple_getitem
def bQ:=@PySem.W.mg_of
def bR:=@PySem.W.kia_one
def bS:=@Nat.ne_of_gt
def bT:=@List.getElem_mem
def bX:=@List.replicate_succ
def bY:=@List.flatMap_cons
def bZ:=@PySem.Heap.get?_update_other
def bc:=@PySem.Heap.get?_update_self
def bg:=@List.map_cons
def bj:=@List.mem_filter
def bo:=@List.mem_cons_of_mem
def br:=@List.mem_append_right
def bt:=@of_decide_eq_true
def bu:=@List.take_succ
def bw:=@Nat.lt_irrefl
def bx:=@PySem.wpAny_mono
def bz:=@PySem.Obj.data_mapFields
def cA:=@PySem.wpAny_truthy_bool
def cB:=@PySem.wpAny_setState_of
def cC:=@List.lookup_cons
def cE:=@List.all_eq_true
def cH:=@PySem.wpAny_call_entry
def cK:=@Bool.or_eq_true
def cL:=@Nat.lt_trans
def cM:=@Nat.zero_le
def cN:=@List.length_cons
def cO:=@List.getElem?_eq_none_iff
def cP:=@PySem.wpAny_Call_Name_kw
def cQ:=@Nat.lt_or_ge
def cR:=@List.mem_append_left
def cS:=@List.flatten_cons
def cV:=@PySem.Obj.isFreed_of_fields
def cX:=@beq_eq_false_iff_ne
def cY:=@List.getElem?_replicate
def cb:=@List.map_map
def cc:=@PySem.Heap.SameBut.update
def cg:=@PySem.wpAny_newObj_type
def cj:=@List.length_take
def cq:=@decide_eq_true_eq
def cu:=@List.nodup_append
def cv:=@List.getElem?_append_right
def cw:=@List.ext_getElem?
def cx:=@Int.toNat_natCast
def cz:=@PySem.wpAny_holding
def dA:=@List.nodup_cons
def dB:=@List.map_append
def dD:=@Array.getElem_eq_getD
def dF:=@Nat.lt_trichotomy
def dI:=@PySem.wpAny_passesOwn
def dM:=@PySem.wpAny_standAt
def dO:=@decide_eq_decide
def dP:=@Nat.le_of_lt
def dQ:=@Int.zero_add
def dU:=@List.drop_eq_getElem_cons
def dW:=@PyProof.Rows.F.plain_set_update_loop
def dX:=@List.filterMap_cons
def df:=@List.eq_nil_of_length_eq_zero
def dh:=@decide_eq_true_iff
def dj:=@PySem.W.cellsFrom_some
def dk:=@Nat.lt_of_le_of_lt
def dn:=@List.filter_append
def dq:=@Int.emod_lt_of_pos
def dt:=@Bool.false_ne_true
def dz:=@PySem.wpAny_setField
def eA:=@PySem.Heap.size_push
def eB:=@PySem.Around.under_plainId
def eF:=@List.find?_cons
def eG:=@List.append_nil
def eI:=@Int.emod_nonneg
def eJ:=@PySem.wpAny_typeOf
def eR:=@PyProof.Rows.boot_list
def eT:=@List.length_pos_of_mem
def eU:=@List.drop_eq_nil_of_le
def eV:=@List.append_assoc
def eW:=@PySem.codeAny_builtin
def eY:=@PySem.tupleKind_room_in1
def eZ:=@PySem.call_meets
def ei:=@PySem.wpAny_of_eq
def et:=@Option.isSome_iff_exists
def fC:=@List.range_succ
def fH:=@PySem.builtinLookup_eq_fast
def fM:=@PySem.wpAny_rule
def fN:=@PySem.intKind_is
def fP:=@congrArg
def fQ:=@Nat.one_le_two_pow
def fR:=@List.mem_cons_self
def fS:=@List.length_eraseIdx_of_lt
def fX:=@List.pairwise_iff_getElem
def fc:=@PySem.wpAny_callSpecial?_slot
def fe:=@List.take_append_drop
def ff:=@List.mem_iff_getElem?
def fj:=@beq_iff_eq
def fk:=@Nat.lt_succ_self
def fo:=@List.any_cons
def gC:=@PySem.isSubtype_type
def gD:=@PySem.F.entry_tuple_add
def gE:=@List.nodup_range
def gF:=@List.length_eq_zero_iff
def gG:=@List.length_drop
def gS:=@PySem.F.slot_tuple_add
def gT:=@List.take_of_length_le
def gU:=@List.set_set
def gW:=@List.filter_eq_nil_iff
def gg:=@Nat.le_succ
def gh:=@List.reverse_cons
def gi:=@PySem.codeAny_mono
def gk:=@PySem.F.args_tuple_add_2
def gn:=@List.getElem?_take_of_lt
def hX:=@PySem.wpAny_pyIter_list
def iP:=@PySem.wpAny_isInstance
def iQ:=@PySem.noFill_tuple_add
def iR:=@Nat.pow_le_pow_right
def iS:=@Nat.mul_le_mul_right
def iT:=@List.mem_of_mem_take
def iU:=@List.mem_of_mem_drop
def ik:=@PySem.wpAny_comprehension_free
def ip:=@PySem.F.slot_dict_get
def iq:=@Nat.eq_of_beq_eq_true
def ir:=@List.length_singleton
def iu:=@List.length_replicate
def iw:=@List.length_filter_le
def iy:=@Array.getElem?_toList
def jA:=@PySem.F.slot_int_rmul
def jF:=@Nat.not_lt
def jG:=@List.pairwise_cons
def jH:=@List.mem_filterMap
def jI:=@List.find?_eq_none
def jn:=@PyProof.Rows.F.entry_set_update_loop
def jo:=@List.flatMap_append
def jy:=@PySem.wpAny_execs_nil
def jz:=@PySem.typeLookup_type
def kC:=@List.eraseIdx_eq_take_drop_succ
def kP:=@Nat.le_of_not_lt
def kQ:=@List.mem_reverse
def kR:=@List.getElem_inj
def kc:=@List.findIdx?_eq_some_iff_getElem
def kf:=@PySem.wpAny_field
def kh:=@PySem.sizeLine_eq
def ki:=@Option.isSome_map
def kj:=@List.find?_append
def kl:=@List.any_map
def lC:=@PySem.seq_tuple_add
def lD:=@PySem.plainId_quiet
def lE:=@PySem.Paired.length
def lS:=@PySem.typeIs_int
def lT:=@Nat.two_pow_pos
def lU:=@List.of_mem_zip
def lV:=@List.foldl_cons
def lW:=@PySem.F.args_tuple_add_2
def nB:=@PySem.Value.isInt_shape
def nC:=@Option.ne_none_iff_exists'
def nD:=@PySem.Obj.cls_mapFields
def nE:=@PySem.F.entry_tuple_add
def ng:=@Nat.testBit_two_pow_sub_one
def oj:=@List.mem_or_eq_of_mem_set
def om:=@Decidable.byContradiction
def oo:=@Array.getElem?_eq_getElem
def pE:=@PySem.wpAny_askSetting
def pF:=@PyProof.Rows.boot_sorted
def pG:=@PySem.F.slot_tuple_mul
def pH:=@PySem.F.slot_tuple_add
def pI:=@Bool.true_and
def pJ:=@Bool.false_or
def rg:=@decide_eq_false_iff_not
def rh:=@PySem.F.plainAttrs_list
def rj:=@PySem.F.args_dict_get_3
def rm:=@PyProof.Rows.boot_tuple
def sQ:=@PySem.codeAny_of_tree
def sR:=@PySem.F.entry_dict_get
def sT:=@Nat.pow_succ
def sU:=@Nat.mul_comm
def sV:=@Nat.le_of_eq
def sW:=@List.pairwise_lt_range
def sX:=@List.map_nil
def sY:=@Bool.not_not
def sZ:=@Array.getElem?_eq_none
def wc:=@PyProof.Rows.size_push'
def we:=@PyProof.Rows.assignInOrder_cons
def wg:=@PyProof.Rows.boot_set
def wj:=@PyProof.Rows.boot_int
def yt:=@Nat.eq_of_testBit_eq
def yu:=@List.pairwise_append
def yw:=@PySem.Calls.Name_function_global
structure PySem.W.Fast:Prop where(tw9013663640330498367 tw8322123476760868092 tw16146410480931331119 tw5864482626017991047 tw12723702972332874193 tw18017230939239282407 tw8963523971430954623 tw9942741919593844074 tw10791429172998196917 tw16052617986181771391 tw4458849931279457203 tw10019854208887832547 tw16394497537800619725 tw9552681506875920566 tw3018675324934836204 tw2051832976716951671 tw554847917737155646 tw10911428757588524546 tw5799924177402381757 tw6711323513166818626 tw3122816557873274988 tw15695586177756525204 tw1778638753999275321 tw11464395160388183560 tw13609867915931091912 tw15269217100803717142 tw9868957705685012820 tw8500082963369642436 tw12856760756963327698 tw8384779726193095232 tw17490834274376248691 tw13511833173130843090 tw5525623344150771533 tw9217005164182595106 tw2627468189190651311 tw11920742356183099424 tw9027259017403060003 tw6417222016727536225 tw12933680245362253714 tw10252831234532141879 tw13873229777738351554 tw11516974624031717022 tw4309848825929361575 tw14201810380152819623 tw18423515123724434537 tw6887247528801226321 tw3518026554061749429 tw13441194887011023181 tw5181438715799752396 tw11816737072075905083 tw4860191616960189391 tw3072618534485682948 tw1361425210739127658 tw4905938779436206099 tw7706517218589487675 tw9628650736136899886 tw3709278157865633673 tw8400791698985783417 tw3143553570023013174 tw11375385036274493569 tw8316775690320827371 tw10457072479969700802 tw4418505797485286682 tw7891129244648266684 tw15169488475196762170 tw16090913209615102426 tw13218992787625676069 tw10048145258983904928 tw798763526443978076 tw3481592530811943535 tw5740934948830887114 tw17677496707076911165 tw4399233886733023192 tw11568534719570465170 tw4184324048191858579 tw5937956254327617257 tw12770135504726335266 tw14636841948667772100 tw18019013830716707133 tw13507324248244079884 tw17233574341851187307 tw5437778882984430480 tw15543160335471809843 tw13480923494732605454 tw17261849288173991707 tw511086937362282014 tw6652141675740803196 tw9220076319919588167 tw14109776711467403717 tw2621897902335804653 tw13706875014001655031 tw13033484668048674042 tw18117834234752032821 tw17587005015063958716 tw15705538160834421372 tw3547855749703066505 tw18259768815830819383 tw18280253608549186850 tw17572832751431444558 tw4300637891402514018 tw13001316053294203255 tw14398859703537949578 tw11964686726135600969 tw13147164245327414213 tw6894956938989820523 tw5267242300577659676 tw2181510218508979299 tw16846784933866488940 tw14370604583006632707 tw6191789225633469675 tw813980315033231847 tw13574214256400343495 tw3112462104418155167 tw16373342563030835191 tw3189688387465913152 tw17662592517875942975 tw13328521650471406345 tw17670860482844472892 tw6455619943831097407 tw9890040868223128027 tw231115874907793085 tw6811716458855692470 tw4737844131546348843 tw5672484090201574241 tw10549439320354296247 tw11973249132765518730 tw11386489931641604549 tw9880107530073378819 tw13071226582410718762 tw17036653432664096812 tw9323594772920257794 tw18189583481896043883 tw14451572170328344187 tw7104658093530515946 tw5530644174969820523 tw13079218998133310661 tw11975633977052510432 tw8571649894672566109 tw10955572212550922434 tw17760596365684933345 tw12871585545991491331 tw5879421104743831810 tw8155221350111725005 tw13413072928700455514 tw13134409090930144489 tw4180835140562988907 tw4600184696550275355 tw11060631096138854414 tw8872116477884723964 tw1079276011408693009 tw10158830129696711526 tw17479090342349804972 tw2359647583068336849 tw8164984348420094529 tw2816340535375458260 tw13776079605788080089 tw15477429312433164371 tw3048248826571990850 tw7435331127028538196 tw16969487979601554156 tw2528105760805970830 tw13925044419581710006 tw9614485475986794210 tw15298733871441294462 tw3049910871624792122 tw2481446376827756445 tw6826742990372259000 tw10129623935968172934 tw13021948793267637908 tw11574595736260192871 tw17710272290564340559 tw3608086453843708949 tw4316843697691033371 tw15396567402543659546 tw16638354746183230322 tw12766081475342130929 tw11865020439307375511 tw2112391355078531526 tw7161686012247567571 tw13108461853861970816 tw6925515538165708730 tw12698095348360358848 tw5502225266919763709 tw2345431667014313935 tw15004894798639359057 tw17949701087380274421 tw10321708731827001995 tw9892924542715899630 tw10732947005572623392 tw3761587546002139267 tw14715862076130273827 tw1815876231059368655 tw11582100693631076134 tw17195632872259630689 tw5201638193827735276 tw786429359869495383 tw5626495548845063179 tw16792686742041677066 tw13807128308934901961 tw7816196090245052930 tw2287257287618128263 tw2732485711308150076 tw14780072745606120997 tw15790914697101036455 tw3369232982637706035 tw6482622056902090794 tw12126813402693184317 tw11569698316627651545 tw7449881689410993826 tw17937319459052656524 tw16473957174308231551 tw7726078399457636165 tw5073481904032092676 tw15052461568439651962 tw8402251089242451478 tw13142165958730633730 tw8029494900182680892 tw10062708125231719943 tw6866700665137529292 tw13024005743292448916 tw10124832839591116968 tw13771849178221552307 tw17819581824997201441 tw10923651998013170099 tw2741225136579060370 tw13763552206811137551 tw18110154663765777763 tw74094997522010015 tw3796278350152110567 tw2040574343100113920 tw13031389117312373568 tw15372549521078521739 tw3074126255373910279 tw4734630016511624137 tw11629970305260064356 tw301897187715081269 tw2362171445234015738 tw15088913168644803015 tw6568314108573978717 tw2753908492522985175 tw7996784976992143883 tw412306430394761296 tw11194802377462173237 tw2327029867205576611 tw13644629666876822357 tw8957854051636083784 tw1794717708424882455 tw9328810144059496562 tw9173397422144533289 tw15022104642585192583 tw14990450348076799072 tw8496369089070755643 tw14268946374330903852 tw1072766830880140449 tw16325937518484974294 tw12581567038085018428 tw4540591514513638526 tw11352836959995868892 tw15217092193241299662 tw10247838925450346746 tw15450717087080357034 tw9248963939784020626 tw18370148786527693787 tw17846680594047832258 tw2516271539903999350 tw12748705769680277898 tw10952164179659396700 tw11676429696856919888 tw9430273242606124024 tw11222082686436388927 tw16045528503810250997 tw4517925071867934281 tw4003832216318105521 tw16983606089347894529 tw11678300336330496763 tw16044247466554330934 tw14301586876819734234 tw16294501346674984281 tw5017994777005282977 tw12895163678345516429 tw8738923009519557599 tw5454429010522469772 tw6860144359380509595 tw1449121080786623298 tw8271869243486887444 tw15440919367812883560 tw4648446922821605667 tw10460112664136159390 tw16154307572245598754 tw16131546223426787878 tw13323595448206538198 tw9180583439260010141 tw13608734476460397693 tw15943723839772299890 tw15403354464016165061 tw2326505462778546389 tw4077706396977866154 tw3709654717707560917 tw6590385989505850799 tw7068937950026407753 tw4939016352157640416 tw43116451883691424 tw4505453761412313326 tw8735438017373730717 tw18032391796685446628 tw2818384973849251125 tw5379507823431750258 tw16873493344755604289 tw9153905215511424694 tw18344867266942685718 tw15121668598560587600 tw17217415155483489012 tw3626666220874770738 tw5843190071584031860 tw13563641165632157533 tw13884244277486849721 tw7163739669670967213 tw11450238936267581044 tw6976109639373065707 tw10575463802165769201 tw789872697787107402 tw1189636229617072623 tw9192180529987574195 tw18364691812007656354 tw11009497410158993209 tw225824040681533441 tw2808910899470069631 tw14256578462025556567 tw3537696858944514113 tw1236638023715347828 tw14908265437722198967 tw1040548026108330968 tw795121942118113984 tw14462682476089849285 tw9205313595283865987 tw7143227808161304040 tw8089668801551891507 tw4888097306099059960 tw374967408570850611 tw4765515194592048352 tw10475503739637062178 tw7895588236508845014 tw5898298273261686474 tw6223389743896995249 tw8629236162303382242 tw5174455555153136165 tw9058251175937650484 tw5111349949085482828 tw3027976482855500496 tw9262294825591383177 tw3542989273432115137 tw7032835800786091172 tw10659317707034373886 tw17293416567583529340 tw1849933366130987415 tw16048321770325495904 tw3482580047835795815 tw1263112234719770038 tw1109261010670927097 tw3984942562347230011 tw16792029875705041512 tw12841447547613728429 tw16471390036605011603 tw999155790293253336 tw6529249885049892158 tw12238533068738134648 tw9074499703237909968 tw9819766556004249480 tw18134899982266116080 tw7242108464419753834 tw16342538541990414387 tw6621300287380139351 tw14757825371233957490 tw10856832501515834135 tw3170104356225427300 tw3465624535221656758 tw2163777759234755994 tw5153796031777145751 tw18081923058692042538 tw12442166012750482841 tw12104575396192023926 tw10806279907007243077 tw13020092535528421552 tw18413874249216795391 tw11309709840673251120 tw10234380065867926916 tw844001499389717955 tw15839829972575800230 tw2266862950698871458 tw17456363832464407377 tw8844295065795805305 tw13896918249266596438 tw16514842709285099783 tw120276957319434997 tw4686116407138718555 tw3735962277593072232 tw16203103673691470162 tw4354971701714598975 tw2598555028950296828 tw2121136569276212400 tw1700212196852029235 tw5761183587519883314 tw14905069807876821688 tw14267097377062296029 tw18378922498223809969 tw8093039387000254809 tw6930243459067221289 tw6235116226638710204 tw4043912629744390045 tw14452842342752245277 tw13322689795549472386 tw4028416706010440998 tw4481505294718849967 tw1492753356950490814 tw727861434396312782 tw13584001653173923127 tw4037991454621116092:True)
namespace L2
open PySem PySem.Spec PyProof.Rows
noncomputable abbrev Key:=Sum Int Str
def sG:Key->Value->Bool
 |.inl k,v=>Value.isInt k v
 |.inr x,v=>Value.isStrOf x v
def Tv(w:World):Key->Int
 |.inl k=>hashInt k
 |.inr x=>hashStr w x
theorem u4:∀{k:Key} {v:Value},sG k v=true->(∃i t,k=Sum.inl i/\v=Value.int i t)\/(∃x t,k=Sum.inr x/\v=Value.str x t)
 |.inl i,v,h=>by
  obtain⟨t,e⟩:=nB (k:=i) (v:=v) h;exact .inl ⟨i,t,rfl,e⟩
 |.inr x,v,h=>by
  obtain⟨t,e⟩:=Value.isStrOf_shape (x:=x) (v:=v) h;exact .inr ⟨x,t,rfl,e⟩
theorem Xf(i:Int)(t:Tok):sG (.inl i) (.int i t)=true:=by simp[sG,Value.isInt]
theorem Xg(x:Str)(t:Tok):sG (.inr x) (.str x t)=true:=by simp[sG,Value.isStrOf]
theorem Oy(a b:Int):decide ((Sum.inl a:Key)=Sum.inl b)=(a==b):=by
 by_cases e:a=b
 ·subst e;simp
 ·have h:¬(Sum.inl a:Key)=Sum.inl b:=λq=>e (Sum.inl.inj q);rw[az h];exact(cX.mpr e).symm
theorem OB(a b:Str):decide ((Sum.inr a:Key)=Sum.inr b)=decide (a=b):=by
 by_cases e:a=b
 ·subst e;simp
 ·have h:¬(Sum.inr a:Key)=Sum.inr b:=λq=>e (Sum.inr.inj q);rw[az h,az e]
theorem Oz(a:Int)(b:Str):decide ((Sum.inl a:Key)=Sum.inr b)=false:=az (λq=>nomatch q)
theorem OA(a:Str)(b:Int):decide ((Sum.inr a:Key)=Sum.inl b)=false:=az (λq=>nomatch q)
def o8(prog:Program)(w:World):PySem.KeyKind prog w Key where
 is:=sG
 hash:=Tv w
 inj:=λv a b ha hb=>by
  rcases u4 ha with⟨i,t,rfl,rfl⟩|⟨x,t,rfl,rfl⟩
  ·rcases u4 hb with⟨j,u,rfl,e⟩|⟨y,u,rfl,e⟩
   ·injection e with e1 _;rw[e1]
   ·exact nomatch e
  ·rcases u4 hb with⟨j,u,rfl,e⟩|⟨y,u,rfl,e⟩
   ·exact nomatch e
   ·injection e with e1 _;rw[e1]
 byValue:=λk v h=>by
  rcases u4 h with⟨i,t,rfl,rfl⟩|⟨x,t,rfl,rfl⟩<;>rfl
 pyHash:=λhv h=>by
  rcases u4 hv with⟨i,t,rfl,rfl⟩|⟨x,t,rfl,rfl⟩
  ·exact wpAny_pyHash_int h
  ·exact wpAny_pyHash_str h
 eqBool:=λhu hv h=>by
  rcases u4 hu with⟨i,t,rfl,rfl⟩|⟨x,t,rfl,rfl⟩
  ·rcases u4 hv with⟨j,u,rfl,rfl⟩|⟨y,u,rfl,rfl⟩
   ·rw[Oy] at h;exact wpAny_eqBool_int h
   ·rw[Oz] at h;exact SeqAt.EqAt.int_str i t y u _ _ _ _ h
  ·rcases u4 hv with⟨j,u,rfl,rfl⟩|⟨y,u,rfl,rfl⟩
   ·rw[OA] at h;exact SeqAt.EqAt.str_int x t j u _ _ _ _ h
   ·rw[OB] at h;exact wpAny_eqBool_str h
 «strs»:=λk x t v h=>by
  rcases u4 h with⟨i,u,rfl,e⟩|⟨y,u,rfl,e⟩
  ·exact nomatch e
  ·injection e with e1 _;subst e1;cases v<;>rfl
theorem Za(prog:Program)(w:World)(i:Int)(t:Tok):(o8 prog w).is (.inl i) (.int i t)=true:=Xf i t
theorem Zb(prog:Program)(w:World)(x:Str)(t:Tok):(o8 prog w).is (.inr x) (.str x t)=true:=Xg x t
inductive V where
 |bC|bl (b:Bool)|int (i:Int)|str (x:Str)|kK (b:Array UInt8)|qD (b:UInt64)|ref (a:Addr)|ty (n:String)
 deriving DecidableEq
def RelV:V->Value->Prop
 |.bC,u=>u=Value.none
 |.bl b,u=>u=Value.bool b
 |.int i,u=>∃t,u=Value.int i t
 |.str x,u=>∃t,u=Value.str x t
 |.kK b,u=>∃t,u=Value.bytes b t
 |.qD b,u=>∃t,u=Value.float b t
 |.ref a,u=>u=Value.ref a
 |.ty n,u=>u=Value.type n
noncomputable abbrev Vals:List V->List Value->Prop:=Paired RelV
theorem Vals.length{xs:List V}{us:List Value}(r:Vals xs us):xs.length=us.length:=lE r
theorem Vals.get:∀{xs:List V} {us:List Value} {i:Nat} {x:V},Vals xs us->xs[i]?=some x->∃u,us[i]?=some u/\RelV x u
 |_,_,_,_,.nil,e=>by simp at e
 |_,_,0,_,.cons r _,e=>by simp at e;subst e;exact⟨_,rfl,r⟩
 |_,_,i+1,x,.cons _ t,e=>by
  obtain⟨u,h1,h2⟩:=Vals.get (i:=i) (x:=x) t (by simpa using e);exact⟨u,by simpa using h1,h2⟩
theorem Vals.set{x:V}{u:Value}(r:RelV x u):∀{xs:List V} {us:List Value} (i:Nat),Vals xs us->Vals (xs.set i x) (us.set i u)
 |_,_,_,.nil=>.nil
 |_,_,0,.cons _ t=>.cons r t
 |_,_,i+1,.cons q t=>.cons q (Vals.set r i t)
theorem Vals.append{xs ys:List V}{us ws:List Value}(h:Vals xs us)(s:Vals ys ws):Vals (xs++ys) (us++ws):=by
 induction h with
 |nil=>exact s
 |cons r t ih=>exact .cons r ih
theorem Vals.take:∀{xs:List V} {us:List Value} (n:Nat),Vals xs us->Vals (xs.take n) (us.take n)
 |_,_,0,_=>.nil
 |_,_,_+1,.nil=>.nil
 |_,_,n+1,.cons r t=>.cons r (Vals.take n t)
theorem Vals.drop:∀{xs:List V} {us:List Value} (n:Nat),Vals xs us->Vals (xs.drop n) (us.drop n)
 |_,_,0,r=>r
 |_,_,_+1,.nil=>.nil
 |_,_,n+1,.cons _ t=>Vals.drop n t
def F0:Option V->Option Value->Prop
 |some v,some u=>RelV v u
 |none,none=>True
 |_,_=>False
def KV{κ:Type}:List (κ×V)->List (κ×Value)->Prop:=Paired λ(p:κ×V) (q:κ×Value)=>p.1=q.1/\RelV p.2 q.2
def kV:Key->V
 |.inl i=>.int i
 |.inr x=>.str x
inductive HO where
 |lst (xs:List V)
 |tup (xs:List V)
 |dK (kvs:List (Key×V))|dT (kvs:List (List Key×V))
 |set (S:Int->Bool) (n:Nat)
 |ins (C dx:Addr) (fs:List (Str×V))
 |own (x:Addr)
 |xd (fs:List (Str×V))
 |met (f x:Addr)
 |lJ (lo hi:Int)
 |jw (o:Obj) (u:HO)
 |lI (ps:Array Value)
 |ext (φ:Heap->Prop)
noncomputable abbrev Hp:=Addr->Option HO
def upd(H:Hp)(a:Addr)(o:HO):Hp:=λb=>if b=a then some o else H b
theorem p8{H:Hp}{a:Addr}{o:HO}:upd H a o a=some o:=by unfold upd;rw[aK rfl]
theorem d6{H:Hp}{a b:Addr}{o:HO}(h:b≠a):upd H a o b=H b:=by unfold upd;rw[aC h]
theorem VA{H:Hp}{a b:Addr}{o u:HO}(h:H a=some o)(h':H b=some u)(d:o≠u):a≠b:=by
 intro e;subst e;rw[h] at h';exact d (aM h')
theorem j9{H:Hp}{a b:Addr}{o:HO}(h:H a=some o)(h':H b=none):a≠b:=by
 intro e;subst e;rw[h] at h';cases h'
def J6(h:Heap)(a:Addr)(items:Array Value):Prop:=∃o,h.get? a=some o/\o.cls=.type "tuple"/\(∃n,o.data=.seq items n)/\o.dict=none
theorem J6.tup{h:Heap}{a:Addr}{items:Array Value}(x:J6 h a items):IsTup h a items:=let ⟨o,e,c,d,_⟩:=x;⟨o,e,c,d⟩
theorem J6.new(h:Heap)(items:Array Value):J6 (h.push { cls:=.type "tuple",data:=.seq items }) h.objs.size items:=⟨_,aG _ rfl,rfl,⟨_,rfl⟩,rfl⟩
section
variable(P:Program)(w:World)
def l6(H:Hp)(h:Heap)(a:Addr):HO->Prop
 |.lst xs=>xs.length<=sizeLine/\∃(aX:List Value) (n:Nat),Vals xs aX/\h.get? a=some { cls:=.type "list",data:=.seq aX.toArray n }
 |.tup xs=>xs.length<=sizeLine/\∃aX:List Value,Vals xs aX/\J6 h a aX.toArray
 |.dK kvs=>kvs.length<=sizeLine/\(a==sysModules)=false/\∃vs,KV kvs vs/\h.DictOf (o8 P w) a vs
 |.dT kvs=>kvs.length<=sizeLine/\(a==sysModules)=false/\∃xs:List (List Key×Addr×Value),
   Paired (λ(p:List Key×V) (q:List Key×Addr×Value)=>p.1=q.1/\H q.2.1=some (.tup (p.1.map kV))/\RelV p.2 q.2.2) kvs xs /\
   ∃o es ep,h.get? a=some o/\o.ExactDict/\o.data=.dict es ep/\es.toList=xs.map (entryOfKey (tupleKind (o8 P w)))/\(xs.map (·.1)).Nodup
 |.set S n=>h.SetOf (intKind P w) a S n
 |.ins C dx fs=>H dx=some (.own a)/\fs.length<=1000/\dx≠a/\h.get? a=some (PySem.W.instObj C dx) /\
   ∃mA,h.Ns1 dx mA/\(∀f,F0 (fs.lookup f) (mA f))/\PySem.Within mA (fs.map (·.1))
 |.own _=>∃o,h.get? a=some o
 |.xd fs=>∃mA,h.Ns1 a mA/\∀f,F0 (fs.lookup f) (mA f)
 |.lJ lo hi=>∃t u v,h.get? a=some { cls:=.type "range",data:=.fields #[.int lo t,.int hi u,.int 1 v] }
 |.jw o u=>h.get? a=some o/\l6 H h a u
 |.lI ps=>h.get? a=some { cls:=.none,data:=.fields ps }
 |.met f x=>h.get? a=some (PySem.W.methodObj (.ref f) (.ref x))
 |.ext φ=>φ h/\(∃o,h.get? a=some o)/\∀h1 h2:Heap,φ h1->(∀o,h1.get? a=some o->h2.get? a=some o)->φ h2
def fO(H:Hp)(h:Heap):Prop:=∀a o,H a=some o->l6 P w H h a o
end
section
variable{P:Program}{w:World}{H H':Hp}{h h':Heap}{a:Addr}{o:HO}
theorem l6.lt(x:l6 P w H h a o):a<h.objs.size:=by
 cases o with
 |lst xs=>obtain⟨_,_,_,_,e⟩:=x;exact aB e
 |tup xs=>obtain⟨_,_,_,p⟩:=x;exact p.tup.lt
 |dK kvs=>obtain⟨_,_,_,_,o,_,_,e,_⟩:=x;exact aB e
 |dT kvs=>obtain⟨_,_,_,_,o,_,_,e,_⟩:=x;exact aB e
 |set S n=>obtain⟨o,_,_,_,e,_⟩:=x;exact aB e
 |ins C dx fs=>obtain⟨_,_,_,e,_⟩:=x;exact aB e
 |own y=>obtain⟨_,e⟩:=x;exact aB e
 |xd fs=>obtain⟨_,⟨_,_,_,e,_⟩,_⟩:=x;exact aB e
 |lJ lo hi=>obtain⟨_,_,_,e⟩:=x;exact aB e
 |jw ob u=>obtain⟨e,_⟩:=x;exact aB e
 |lI ps=>exact aB (show h.get? a=some _ from x)
 |met f y=>exact aB (show h.get? a=some _ from x)
 |ext φ=>obtain⟨_,⟨_,e⟩,_⟩:=x;exact aB e
theorem Paired.Fw{α β:Type}{F G:α->β->Prop}{tZ:List α}{tY:List β}(h:Paired F tZ tY)(f:∀a b,F a b->G a b):Paired G tZ tY:=by
 induction h with
 |nil=>exact .nil
 |cons r t ih=>exact .cons (f _ _ r) ih
theorem l6.Q7(x:l6 P w H h a o)(k:∀b u,(b=a\/H b=some (.own a))->h.get? b=some u->h'.get? b=some u)(ho:∀b,H b=some (.own a)->H' b=some (.own a))(ht:∀b xs,H b=some (.tup xs)->H' b=some (.tup xs)):l6 P w H' h' a o:=by
 induction o with
 |lst xs=>obtain⟨z,aX,n,r,e⟩:=x;exact⟨z,aX,n,r,k _ _ (.inl rfl) e⟩
 |tup xs=>obtain⟨z,aX,r,ob,e,c⟩:=x;exact⟨z,aX,r,ob,k _ _ (.inl rfl) e,c⟩
 |dK kvs=>obtain⟨z,y,vs,r,ob,es,ep,e,c⟩:=x;exact⟨z,y,vs,r,ob,es,ep,k _ _ (.inl rfl) e,c⟩
 |dT kvs =>
  obtain⟨z,y,xs,r,ob,es,ep,e,c⟩:=x;exact⟨z,y,xs,Paired.Fw r λp q z=>⟨z.1,ht _ _ z.2.1,z.2.2⟩,ob,es,ep,k _ _ (.inl rfl) e,c⟩
 |set S n=>obtain⟨ob,es,ep,t,e,c⟩:=x;exact⟨ob,es,ep,t,k _ _ (.inl rfl) e,c⟩
 |ins C dx fs =>
  obtain⟨d,z,ne,e,mA,⟨od,es,ep,e2,c⟩,r⟩:=x;exact⟨ho _ d,z,ne,k _ _ (.inl rfl) e,mA,⟨od,es,ep,k _ _ (.inr d) e2,c⟩,r⟩
 |own y=>obtain⟨ob,e⟩:=x;exact⟨ob,k _ _ (.inl rfl) e⟩
 |xd fs=>obtain⟨mA,⟨od,es,ep,e,c⟩,r⟩:=x;exact⟨mA,⟨od,es,ep,k _ _ (.inl rfl) e,c⟩,r⟩
 |lJ lo hi=>obtain⟨t,u,v,e⟩:=x;exact⟨t,u,v,k _ _ (.inl rfl) e⟩
 |jw ob u ih=>obtain⟨e,q⟩:=x;exact⟨k _ _ (.inl rfl) e,ih q⟩
 |lI ps =>
  have e:h.get? a=some { cls:=.none,data:=.fields ps }:=x;show h'.get? a=some { cls:=.none,data:=.fields ps };exact k a _ (.inl rfl) e
 |met f y =>
  have e:h.get? a=some (PySem.W.methodObj (.ref f) (.ref y)):=x;show h'.get? a=some (PySem.W.methodObj (.ref f) (.ref y));exact k a _ (.inl rfl) e
 |ext φ=>obtain⟨p,⟨o,e⟩,st⟩:=x;exact⟨st _ _ p λo q=>k _ _ (.inl rfl) q,⟨o,k _ _ (.inl rfl) e⟩,st⟩
theorem fO.lt(x:fO P w H h)(e:H a=some o):a<h.objs.size:=(x a o e).lt
theorem fO.fresh(x:fO P w H h)(e:h.objs.size<=a):H a=none:=by
 cases q:H a with
 |none=>rfl
 |some u=>exact absurd (ay (x.lt q) e) (bw _)
theorem fO.kept(x:fO P w H h)(k:∀b u,h.get? b=some u->h'.get? b=some u):fO P w H h':=λa o e =>
 (x a o e).Q7 (λb u _ q=>k b u q) (λ_ q=>q) λ_ _ q=>q
theorem fO.laid(x:fO P w H h)(k:∀b u,h.get? b=some u->h'.get? b=some u)(hp:h.objs.size<=a)(new:l6 P w (upd H a o) h' a o):fO P w (upd H a o) h':=λb u e=>by
 have hn:=x.fresh hp;by_cases hb:b=a
 ·subst hb;rw[p8] at e;cases e;exact new
 ·rw[d6 hb] at e;exact(x b u e).Q7 (λc v _ q=>k c v q) (λc q=>by rw[d6 (j9 q hn)];exact q) λc xs q=>by rw[d6 (j9 q hn)];exact q
end
def Rd(H:Hp)(a:Addr)(u:HO):Prop:=H a=some u\/∃o,H a=some (.jw o u)
theorem Rd.ok{P:Program}{w:World}{H:Hp}{h:Heap}{a:Addr}{u:HO}(r:Rd H a u)(x:fO P w H h):l6 P w H h a u:=by
 rcases r with r|⟨o,r⟩
 ·exact x a u r
 ·obtain⟨_,q⟩:=x a _ r;exact q
def vY:Option HO->Prop
 |some (.lst _)=>True
 |some (.dK _)=>True
 |some (.dT _)=>True
 |some (.set _ _)=>True
 |some (.ins _ _ _)=>True
 |some (.ext _)=>True
 |_=>False
section
variable{P:Program}{w:World}{H:Hp}{h h':Heap}{x e:Addr}{o':HO}
theorem fO.write(ok:fO P w H h)(mu:vY (H x))(he:e=x\/H e=some (.own x))(k:∀b u,b≠e->h.get? b=some u->h'.get? b=some u)(oP:∃u,h'.get? e=some u)(new:l6 P w (upd H x o') h' x o'):fO P w (upd H x o') h':=λb u q=>by
 have tS:∀c y,H c=some (.own y)->c≠x:=λc y r z=>by subst z;rw[r] at mu;exact mu
 have yR:∀c xs,H c=some (.tup xs)->c≠x:=λc xs r z=>by subst z;rw[r] at mu;exact mu
 by_cases hb:b=x
 ·subst hb;rw[p8] at q;cases q;exact new
 ·rw[d6 hb] at q;by_cases qj:b=e
  ·have q':H b=some (.own x):=by
    rcases he with z|z
    ·exact absurd (qj.trans z) hb
    ·rw[qj];exact z
   rw[q] at q';cases q';obtain⟨v,hv⟩:=oP;exact⟨v,by rw[qj];exact hv⟩
  ·refine(ok b u q).Q7 (λc v hc r=>k c v ?_ r) (λc r=>by rw[d6 (tS c b r)];exact r) λc xs r=>by rw[d6 (yR c xs r)];exact r
   rcases hc with rfl|hc
   ·exact qj
   ·rintro rfl;rcases he with z|z
    ·exact tS c b hc z
    ·rw[hc] at z;cases z;exact hb rfl
end
structure Un(fs ex:List Addr)(H H':Hp)(h h':Heap):Prop where
 keep:∀b o,h.get? b=some o->H b=none->b∉fs->b∉ex->h'.get? b=some o
 slot:∀b o,h.get? b=some o->H b=none->b∈fs->b∉ex->∃sl,h'.get? b=some { o with slots:=sl }
 free:∀b o,h.get? b=some o->H b=none->b∉ex->H' b=none
 there:∀b o,h.get? b=some o->b∉ex->∃o',h'.get? b=some o'
 gH:∀b xs,H b=some (.tup xs)->H' b=some (.tup xs)
 gw:∀b o u,H b=some (.jw o u)->H' b=some (.jw o u)
 gI:∀b ps,H b=some (.lI ps)->∃more,H' b=some (.lI (ps++more))
section
variable{fs qy ex ex':List Addr}{H H1 H2:Hp}{h h1 h2 h':Heap}{a x e:Addr}{o:HO}
theorem Un.any(u:Un fs ex H H1 h h1){b:Addr}{ob:Obj}(q:h.get? b=some ob)(n:H b=none)(hx:b∉ex):∃sl,h1.get? b=some { ob with slots:=sl }:=by
 by_cases hb:b∈fs
 ·exact u.slot b ob q n hb hx
 ·exact⟨ob.slots,u.keep b ob q n hb hx⟩
theorem Un.kept(k:∀b u,h.get? b=some u->h'.get? b=some u):Un fs ex H H h h' :=
 ⟨λb ob q _ _ _=>k b ob q,λb ob q _ _ _=>⟨ob.slots,k b ob q⟩,λ_ _ _ n _=>n,λb ob q _=>⟨ob,k b ob q⟩,λ_ _ q=>q,λ_ _ _ q=>q,λ_ ps q=>⟨#[],by rw[q];simp⟩⟩
theorem Un.refl:Un fs ex H H h h:=Un.kept λ_ _ q=>q
theorem Un.laid(k:∀b u,h.get? b=some u->h'.get? b=some u)(hp:h.objs.size<=a)(hn:H a=none):Un fs ex H (upd H a o) h h' where
 keep:=λb u q _ _ _=>k b u q
 slot:=λb u q _ _ _=>⟨u.slots,k b u q⟩
 free:=λb u q n _=>by rw[d6 (aN (ay (aB q) hp))];exact n
 there:=λb u q _=>⟨u,k b u q⟩
 gH:=λb xs q=>by rw[d6 (j9 q hn)];exact q
 gw:=λb u xs q=>by rw[d6 (j9 q hn)];exact q
 gI:=λb ps q=>⟨#[],by rw[d6 (j9 q hn),q];simp⟩
theorem Un.write(mu:vY (H x))(he:e=x\/H e=some (.own x))(k:∀b u,b≠e->h.get? b=some u->h'.get? b=some u)(oP:∃u,h'.get? e=some u):Un fs ex H (upd H x o) h h':=by
 have hx:∀b,H b=none->b≠x:=λb n z=>by subst z;rw[n] at mu;exact mu
 have hb:∀b,H b=none->b≠e:=λb n z=>by
  subst z;rcases he with r|r
  ·exact hx b n r
  ·rw[n] at r;cases r
 have hm:∀b u,H b=some u->¬vY (some u)->b≠x:=λb u q nm z=>by subst z;rw[q] at mu;exact nm mu
 refine ⟨λb u q n _ _=>k b u (hb b n) q,λb u q n _ _=>⟨u.slots,k b u (hb b n) q⟩,λb u q n _=>by rw [d6 (hx b n)];exact n,λb u q _=>?_,
  λb xs q=>by rw [d6 (hm b _ q λz=>z)];exact q,λb u xs q=>by rw [d6 (hm b _ q λz=>z)];exact q,λb ps q=>⟨#[],by rw [d6 (hm b _ q λz=>z),q];simp⟩⟩
 by_cases qj:b=e
 ·subst qj;exact oP
 ·exact⟨u,k b u qj q⟩
end
def nF(h:Heap)(H:Hp):List Addr:=(List.range h.objs.size).filter λa=>(H a).isSome
def oh(h:Heap)(H:Hp):Heap:=PySem.W.hideAll h (nF h H)
theorem Xb(h:Heap)(H:Hp):(oh h H).objs.size=h.objs.size:=PySem.W.hideAll_size _ _
theorem ZI{h:Heap}{H:Hp}{b:Addr}{o:Obj}(e:h.get? b=some o)(n:H b=none):(oh h H).get? b=some o :=
 Dp _ e λhm=>by
  have q:(H b).isSome=true:=(bj.mp hm).2;rw[n] at q;simp at q
theorem Ry{h:Heap}{H:Hp}{b:Addr}{o:Obj}(e:(oh h H).get? b=some o):h.get? b=some o/\H b=none:=by
 have e':h.get? b=some o:=JJ (nF h H) e;refine⟨e',?_⟩;cases q:H b with
 |none=>rfl
 |some x =>
  have hm:b∈nF h H:=bj.mpr ⟨aT.mpr (aB e'),by simp[q]⟩;have z:(oh h H).get? b=none:=PySem.W.hideAll_none (nF h H) hm;rw[z] at e;cases e
structure Mod(K:PySem.W.Frag)(mg:Str->Option Value)(base:Heap):Prop where
 nk:K.In base
 glob:base.Ns mainGlobals mg
 blt:∃mb,base.Ns builtinsNs mb/\∀x:Str,x≠"__name__"->mb x=bootBuiltins x
 nolimit:base.NoLimit
structure Cx where
 prog:Program
 w:World
 K:PySem.W.Frag
 mg:Str->Option Value
 base:Heap
 A:Around
 N:List Str
 cW:Shared
 iZ:Hp
 env:Env
 outer:List Env
 stack:List Env
 ex:List Addr
 fn:Str->Bool
 calm:Bool
 pn:List (Addr×Obj)
 xe:Value->Shared->Prop
def fA(l:List Env):List Addr:=l.filterMap (·.frame)
noncomputable abbrev Cx.fs(X:Cx):List Addr:=fA X.outer
def vU(sc:Scope)(x:Str):Prop:=sc.names.lookup x=some .local\/sc.names.lookup x=some .cell\/sc.names.lookup x=some .free
def Loc(sc:Scope)(x:Str):Prop:=sc.names.lookup x=some .local\/sc.names.lookup x=some .cell
def Look(env:Env)(h:Heap)(m:Str->Option Value)(x:Str)(u:Value):Prop :=
 (env.kindOf x=some .local/\m x=some u)\/((env.kindOf x=some .cell\/env.kindOf x=some .free)/\∃c,env.cells.lookup x=some c/\h.IsCell c (some u))
structure Cx.Ok(X:Cx):Prop where
 mod:Mod X.K X.mg X.base
 kind:X.env.scope.kind=.function
 glob:X.env.globals=mainGlobals
 blt:X.env.builtins=builtinsNs
 above:X.cW.heap.objs.size<=X.env.locals
 inj:∀x y c,X.env.cells.lookup x=some c->X.env.cells.lookup y=some c->x=y
 has:∀x,(X.env.kindOf x=some .cell\/X.env.kindOf x=some .free)->∃c,X.env.cells.lookup x=some c
 pe:∀x c,X.fn x=true->X.env.cells.lookup x=some c->X.cW.heap.objs.size<=c
 hd:X.calm=true->X.A.handled=none
 frames:X.A.frames=some X.stack
 pN:X.stack=X.outer\/(X.stack=X.env::X.outer/\X.env.frame=some X.env.locals)
 vd:∀b∈X.ex,b≠X.env.locals/\∀x c,X.env.cells.lookup x=some c->c≠b
 bs:∀b o,X.base.get? b=some o->X.cW.heap.get? b=some o/\X.iZ b=none
 mW:X.base.objs.size<=X.cW.heap.objs.size
 jP:∀b o,X.base.get? b=some o->b∉X.ex
 kB:∀b∈X.ex,b∉X.fs
 J8:X.cW.heap.FunFrames X.base X.outer
 ny:∀b∈X.fs,X.iZ b=none
structure Inv(X:Cx)(pins:List (Addr×Obj))(Z:List (Option V))(H:Hp)(s:Shared):Prop where
 ok:X.Ok
 os:s.os=X.cW.os
 bare:AllBare s.gens
 base:Un X.fs X.ex X.iZ H X.cW.heap s.heap
 loc:∃m,s.heap.Ns X.env.locals m/\∀(i:Nat) (x:Str) (v:V),X.N[i]?=some x->Z[i]?=some (some v)->vU X.env.scope x->∃u,RelV v u/\Look X.env s.heap m x u
 cell:∀x c,X.env.cells.lookup x=some c->∃v,s.heap.IsCell c v
 free:H X.env.locals=none
 dZ:∀x c,X.env.cells.lookup x=some c->H c=none
 pin:∀p∈X.pn++pins,s.heap.get? p.1=some p.2/\H p.1=none/\p.1≠X.env.locals/\p.1∉X.fs/\∀v,p.2.data≠.cell v
 bK:fO X.prog X.w H s.heap
 len:Z.length=X.N.length
section
variable{X:Cx}{pins:List (Addr×Obj)}{Z:List (Option V)}{H H':Hp}{s:Shared}{h':Heap}
theorem Cx.Ok.TQ(ok:X.Ok){b:Addr}{o:Obj}(e:X.base.get? b=some o):b∉X.fs:=λhb=>by
 have:=(ok.J8.mem hb).1;rw[e] at this;cases this
theorem Inv.bs(I:Inv X pins Z H s):∀b o,X.base.get? b=some o->s.heap.get? b=some o/\H b=none:=λb o e =>
 ⟨I.base.keep b o (I.ok.bs b o e).1 (I.ok.bs b o e).2 (I.ok.TQ e) (I.ok.jP b o e),I.base.free b o (I.ok.bs b o e).1 (I.ok.bs b o e).2 (I.ok.jP b o e)⟩
theorem Inv.bk(I:Inv X pins Z H s):∀b o,X.base.get? b=some o->s.heap.get? b=some o:=λb o e=>(I.bs b o e).1
theorem Inv.mod(I:Inv X pins Z H s):Mod X.K X.mg X.base:=I.ok.mod
theorem Inv.gs(I:Inv X pins Z H s):X.K.In s.heap:=I.ok.mod.nk.keeps I.bk
theorem Inv.lt(I:Inv X pins Z H s):X.env.locals<s.heap.objs.size:=let ⟨_,hn,_⟩:=I.loc;hn.lt
theorem Inv.sz(I:Inv X pins Z H s):X.cW.heap.objs.size<=s.heap.objs.size:=aD I.ok.above (dP I.lt)
theorem Inv.vT(I:Inv X pins Z H s){a:Addr}(h:s.heap.objs.size<=a):a∉X.fs:=λhb=>by
 obtain⟨_,o,ho,_⟩:=I.ok.J8.mem hb;exact absurd (ay (aB ho) (aD I.sz h)) (bw _)
theorem Inv.qI(I:Inv X pins Z H s):∀x c,X.env.cells.lookup x=some c->c≠X.env.locals:=λx c e z=>by
 obtain⟨v,o,ho,hd⟩:=I.cell x c e;obtain⟨m,⟨o',es,ep,jU,zK,_⟩,_⟩:=I.loc;rw[z,jU] at ho;cases ho;rw[zK] at hd;cases hd
theorem Inv.J8(I:Inv X pins Z H s):s.heap.FunFrames X.base X.outer:=by
 have all:∀(l:List Env),(∀b∈fA l,b∈X.fs)->X.cW.heap.FunFrames X.base l->s.heap.FunFrames X.base l:=by
  intro l
  induction l with
  |nil=>intro _ _;trivial
  |cons env r ih =>
   intro hs hl;obtain⟨hk,⟨L,o,hf,hn,ho,hd⟩,hr⟩:=hl;have hL:L∈X.fs:=hs L (by unfold fA;rw[dX,hf];exact fR);obtain⟨sl,e⟩:=I.base.slot L o ho (I.ok.ny L hL) hL λz=>I.ok.kB L z hL;exact⟨hk,⟨L,_,hf,hn,e,hd⟩,ih (λb hb=>hs b (by unfold fA;rw[dX,hf];exact bo _ hb)) hr⟩
 exact all X.outer (λ_ hb=>hb) I.ok.J8
theorem Inv.stack(I:Inv X pins Z H s):s.heap.FunFrames X.base X.stack:=by
 rcases I.ok.pN with e|⟨e,hf⟩
 ·rw[e];exact I.J8
 ·rw[e];obtain⟨m,hn,_⟩:=I.loc;refine .cons (by rw[I.ok.kind];decide) hf hn ?_ I.J8;exact Heap.get?_none_of_le (aD I.ok.mW I.ok.above)
theorem Inv.K7(I:Inv X pins Z H s):∀b∈fA X.stack,b∈X.env.locals::X.fs:=λb hb=>by
 rcases I.ok.pN with e|⟨e,hf⟩
 ·rw[e] at hb;exact bo _ hb
 ·rw[e] at hb;unfold fA at hb;rw[dX,hf] at hb;exact hb
theorem Inv.yc(I:Inv X pins Z H s):∀b∈fA X.stack,H b=none:=λb hb=>by
 rcases aE.mp (I.K7 b hb) with e|hb
 ·rw[e];exact I.free
 ·obtain⟨_,o,ho,_⟩:=I.ok.J8.mem hb;exact I.base.free b o ho (I.ok.ny b hb) λz=>I.ok.kB b z hb
theorem Inv.step{g':Array GenState}{t':Nat}{d':Drawn}{ch:List Addr}(I:Inv X pins Z H s)(kH:∀b∈ch,(b∈X.ex\/X.cW.heap.objs.size<=b)/\b≠X.env.locals/\(∀x c,X.env.cells.lookup x=some c->c≠b)/\∀p∈X.pn++pins,p.1≠b)(keep:∀b o,b≠X.env.locals->b∉X.fs->b∉ch->s.heap.get? b=some o->H b=none->h'.get? b=some o)(slot:∀b o,b≠X.env.locals->b∈X.fs->b∉ch->s.heap.get? b=some o->H b=none->∃sl,h'.get? b=some { o with slots:=sl })(free:∀b o,b∉ch->s.heap.get? b=some o->H b=none->H' b=none)(there:∀b o,b∉ch->s.heap.get? b=some o->∃o',h'.get? b=some o')(gH:∀b xs,H b=some (.tup xs)->H' b=some (.tup xs))(gw:∀b o u,H b=some (.jw o u)->H' b=some (.jw o u))(gI:∀b ps,H b=some (.lI ps)->∃more,H' b=some (.lI (ps++more)))(ns:∀m,s.heap.Ns X.env.locals m->h'.Ns X.env.locals m)(bK:fO X.prog X.w H' h')(hg:AllBare g') :
  Inv X pins Z H' { s with heap:=h',gens:=g',drawn:=d',toks:=t' }:=by
 have DP:∀b o,X.cW.heap.get? b=some o->b≠X.env.locals:=λb o e=>aN (ay (aB e) I.ok.above);have oz:∀b o,X.cW.heap.get? b=some o->b∉X.ex->b∉ch:=λb o e hx hb=>by
  rcases(kH b hb).1 with z|z
  ·exact hx z
  ·exact absurd (ay (aB e) z) (bw _)
 have cellK:∀x c,X.env.cells.lookup x=some c->∀v,s.heap.IsCell c v->h'.IsCell c v:=λx c e v bq=>by
  obtain⟨o,ho,hd⟩:=bq;have tW:c∉ch:=λz=>(kH c z).2.2.1 x c e rfl;by_cases hc:c∈X.fs
  ·obtain⟨sl,q⟩:=slot c o (I.qI x c e) hc tW ho (I.dZ x c e);exact⟨_,q,hd⟩
  ·exact⟨o,keep c o (I.qI x c e) hc tW ho (I.dZ x c e),hd⟩
 refine⟨I.ok,I.os,hg,⟨λb o e n hb hx=>?_,λb o e n hb hx=>?_,λb o e n hx=>?_,λb o e hx=>?_,λb xs e=>gH b xs (I.base.gH b xs e),λb o xs e=>gw b o xs (I.base.gw b o xs e),λb ps e=>?_⟩,?_,λx c e=>?_,?_,λx c e=>?_,λp hp=>?_,bK,I.len⟩
 ·exact keep b o (DP b o e) hb (oz b o e hx) (I.base.keep b o e n hb hx) (I.base.free b o e n hx)
 ·obtain⟨sl,e1⟩:=I.base.slot b o e n hb hx;obtain⟨Kl,e2⟩:=slot b _ (DP b o e) hb (oz b o e hx) e1 (I.base.free b o e n hx);exact⟨Kl,e2⟩
 ·obtain⟨o',e1⟩:=I.base.there b o e hx;exact free b o' (oz b o e hx) e1 (I.base.free b o e n hx)
 ·obtain⟨o',e1⟩:=I.base.there b o e hx;exact there b o' (oz b o e hx) e1
 ·obtain⟨m1,e1⟩:=I.base.gI b ps e;obtain⟨m2,e2⟩:=gI b _ e1;exact⟨m1++m2,by rw[e2,JR]⟩
 ·obtain⟨m,hn,hl⟩:=I.loc;refine⟨m,ns m hn,λi x v e1 e2 e3=>?_⟩;obtain⟨u,r,l⟩:=hl i x v e1 e2 e3;refine⟨u,r,?_⟩;rcases l with l|⟨k,c,e,z⟩
  ·exact .inl l
  ·exact .inr ⟨k,c,e,cellK x c e _ z⟩
 ·obtain⟨v,z⟩:=I.cell x c e;exact⟨v,cellK x c e v z⟩
 ·obtain⟨m,⟨o,_,_,ho,_⟩,_⟩:=I.loc;exact free _ o (λz=>(kH _ z).2.1 rfl) ho I.free
 ·obtain⟨v,o,ho,hd⟩:=I.cell x c e;exact free c o (λz=>(kH c z).2.2.1 x c e rfl) ho (I.dZ x c e)
 ·obtain⟨e,n,ne,nf,d⟩:=I.pin p hp;have tW:p.1∉ch:=λz=>(kH p.1 z).2.2.2 p hp rfl;exact⟨keep p.1 p.2 ne nf tW e n,free p.1 p.2 tW e n,ne,nf,d⟩
theorem Inv.un{t':Nat}(I:Inv X pins Z H s)(u:Un X.fs [] H H' s.heap h')(bK:fO X.prog X.w H' h'):Inv X pins Z H' { s with heap:=h',toks:=t' }:=by
 obtain⟨m,⟨o,es,ep,ho,r⟩,_⟩:=id I.loc;obtain⟨sl,hL⟩:=u.any ho I.free (by simp);exact I.step (g':=s.gens) (d':=s.drawn) (ch:=[]) (λ_ z=>nomatch z) (λb o _ hb _ e n=>u.keep b o e n hb (by simp)) (λb o _ hb _ e n=>u.slot b o e n hb (by simp)) (λb o _ e n=>u.free b o e n (by simp)) (λb o _ e=>u.there b o e (by simp)) u.gH u.gw u.gI (λm' hm=>by
  obtain⟨o',Ax,Ay,jU,r'⟩:=hm;rw[ho] at jU;cases jU;exact ⟨_,Ax,Ay,hL,r'⟩) bK I.bare
theorem Inv.call{g':Array GenState}{t':Nat}{d':Drawn}{ch:List Addr}(I:Inv X pins Z H s)(u:Un (fA X.stack) ch H H' s.heap h')(bK:fO X.prog X.w H' h')(hg:AllBare g')(kH:∀b∈ch,(b∈X.ex\/X.cW.heap.objs.size<=b)/\b≠X.env.locals/\(∀x c,X.env.cells.lookup x=some c->c≠b)/\∀p∈X.pn++pins,p.1≠b) :
  Inv X pins Z H' { s with heap:=h',gens:=g',drawn:=d',toks:=t' }:=by
 obtain⟨m,⟨o,es,ep,ho,r⟩,_⟩:=id I.loc;obtain⟨sl,hL⟩:=u.any ho I.free λz=>(kH _ z).2.1 rfl;exact I.step (ch:=ch) kH (λb o hL hb hc e n=>u.keep b o e n (λz=>(aE.mp (I.K7 b z)).elim hL hb) hc) (λb o _ _ hc e n=>u.any e n hc) (λb o hc e n=>u.free b o e n hc) (λb o hc e=>u.there b o e hc) u.gH u.gw u.gI (λm' hm=>by
  obtain⟨o',Ax,Ay,jU,r'⟩:=hm;rw[ho] at jU;cases jU;exact ⟨_,Ax,Ay,hL,r'⟩) bK hg
theorem Inv.turned{t':Nat}{it:Addr}(I:Inv X pins Z H s)(k:∀b o,b≠it->s.heap.get? b=some o->h'.get? b=some o)(hn:H it=none)(hL:it≠X.env.locals)(h1:it∈X.ex\/X.cW.heap.objs.size<=it)(h2:∀x c,X.env.cells.lookup x=some c->c≠it)(h3:∀p∈X.pn++pins,p.1≠it):Inv X pins Z H { s with heap:=h',toks:=t' }:=by
 have DO:∀b u,H b=some u->b≠it:=λb u e z=>by rw[z,hn] at e;cases e
 refine I.step (g':=s.gens) (d':=s.drawn) (ch:=[it]) (λb hb=>?_) (λb o _ _ hc e _=>k b o (λz=>hc (by simp[z])) e) (λb o _ _ hc e _=>⟨o.slots,k b o (λz=>hc (by simp[z])) e⟩) (λ_ _ _ _ n=>n)
  (λb o hc e=>⟨o,k b o (λz=>hc (by simp[z])) e⟩) (λ_ _ e=>e) (λ_ _ _ e=>e) (λb ps e=>⟨#[],by rw[e];simp⟩) (λm hm=>?_) (λb u e=>?_) I.bare
 ·have e:b=it:=by simpa using hb
  subst e;exact⟨h1,hL,h2,h3⟩
 ·obtain⟨o,es,ep,ho,r⟩:=hm;exact⟨o,es,ep,k _ o (bE hL) ho,r⟩
 ·refine(I.bK b u e).Q7 (λc v hc q=>k c v ?_ q) (λ_ q=>q) λ_ _ q=>q;rcases hc with z|z
  ·rw[z];exact DO b u e
  ·exact DO c _ z
theorem Inv.tok(I:Inv X pins Z H s)(t:Nat):Inv X pins Z H { s with toks:=t }:=I.un (h':=s.heap) (t':=t) Un.refl I.bK
theorem Inv.kept{t':Nat}(I:Inv X pins Z H s)(k:∀b u,s.heap.get? b=some u->h'.get? b=some u):Inv X pins Z H { s with heap:=h',toks:=t' }:=I.un (Un.kept k) (I.bK.kept k)
theorem Inv.laid{a:Addr}{o:HO}{t':Nat}(I:Inv X pins Z H s)(k:∀b u,s.heap.get? b=some u->h'.get? b=some u)(hp:s.heap.objs.size<=a)(new:l6 X.prog X.w (upd H a o) h' a o) :
  Inv X pins Z (upd H a o) { s with heap:=h',toks:=t' }:=I.un (Un.laid k hp (I.bK.fresh hp)) (I.bK.laid k hp new)
theorem Inv.write{x e:Addr}{o:HO}{t':Nat}(I:Inv X pins Z H s)(mu:vY (H x))(he:e=x\/H e=some (.own x))(k:∀b u,b≠e->s.heap.get? b=some u->h'.get? b=some u)(oP:∃u,h'.get? e=some u)(new:l6 X.prog X.w (upd H x o) h' x o):Inv X pins Z (upd H x o) { s with heap:=h',toks:=t' }:=I.un (Un.write mu he k oP) (I.bK.write mu he k oP new)
theorem Inv.weak{bN:List (Option V)}(I:Inv X pins Z H s)(hl:bN.length=Z.length)(w:∀(i:Nat) v,bN[i]?=some (some v)->Z[i]?=some (some v)):Inv X pins bN H s :=
 ⟨I.ok,I.os,I.bare,I.base,let ⟨m,hn,rJ⟩:=I.loc;⟨m,hn,λi x v e1 e2 e3=>rJ i x v e1 (w i v e2) e3⟩,I.cell,I.free,I.dZ,I.pin,I.bK,hl.trans I.len⟩
theorem Inv.K2{iz:List (Addr×Obj)}(I:Inv X pins Z H s)(h:∀p∈iz,s.heap.get? p.1=some p.2/\H p.1=none/\p.1≠X.env.locals/\p.1∉X.fs/\∀v,p.2.data≠.cell v):Inv X iz Z H s :=
 ⟨I.ok,I.os,I.bare,I.base,I.loc,I.cell,I.free,I.dZ,λp hp=>(aV.mp hp).elim (λz=>I.pin p (cR _ z)) (h p),I.bK,I.len⟩
theorem Jc{N:List Str}(hN:N.Nodup){i j:Nat}{x:Str}(a:N[i]?=some x)(b:N[j]?=some x):i=j:=by
 obtain⟨h1,e1⟩:=ao.mp a;obtain⟨h2,e2⟩:=ao.mp b;exact(kR hN).mp (e1.trans e2.symm)
theorem GH{M:Model}{A:Around}{E:Value->Shared->Prop}{i:Nat}{x:Str}{v:V}{u:Value}{Q:Unit->Shared->Prop}(I:Inv X pins Z H s)(hN:X.N.Nodup)(hi:X.N[i]?=some x)(hx:Loc X.env.scope x)(r:RelV v u)(h:∀s',Inv X pins (Z.set i (some v)) H s'->(∃a,Heap.SameBut a s.heap s'.heap/\(a=X.env.locals\/X.env.cells.lookup x=some a))->Q () s')(hf:X.fn x=true\/X.env.scope.names.lookup x=some .local:=by first|exact .inl rfl|exact .inr rfl|assumption):wpAny M A (storeName X.env x u) Q E s:=by
 obtain⟨m,hn,hl⟩:=id I.loc;have lp:(X.env.scope.kind==.class||(X.env.scope.kind==.module&&X.env.locals != X.env.globals))=false:=by rw[I.ok.kind];rfl
 have uD:i<Z.length:=by rw[I.len];exact(ao.mp hi).1
 have qI:=I.qI;have tracked:∀{a:Addr} {h':Heap},(∃o,s.heap.get? a=some o/\H a=none)->Heap.SameBut a s.heap h'->fO X.prog X.w H h':=λ{a h'} ha hs b ob e=>by
  obtain⟨_,_,mI⟩:=ha;refine(I.bK b ob e).Q7 (λc w' hc q=>(hs.2 c ?_).trans q) (λ_ q=>q) λ_ _ q=>q;rintro rfl;rcases hc with rfl|hc
  ·rw[mI] at e;cases e
  ·rw[mI] at hc;cases hc
 rcases hx with hk|hk
 ·refine wpAny_storeName_local hk hn (λh' Lu hs=>?_) lp;obtain⟨oL,_,_,ux,_⟩:=id hn;refine h _ ⟨I.ok,I.os,I.bare,⟨λb o e n hb hx=>?_,λb o e n hb hx=>?_,I.base.free,λb o e hx=>?_,I.base.gH,I.base.gw,I.base.gI⟩,⟨_,Lu,λj y v' e1 e2 e3=>?_⟩,λy c e=>?_,I.free,I.dZ,λp hp=>?_,tracked ⟨oL,ux,I.free⟩ hs,by simpa using I.len⟩ ⟨_,hs,.inl rfl⟩
  ·exact(hs.2 b (aN (ay (aB e) I.ok.above))).trans (I.base.keep b o e n hb hx)
  ·obtain⟨sl,e1⟩:=I.base.slot b o e n hb hx;exact⟨sl,(hs.2 b (aN (ay (aB e) I.ok.above))).trans e1⟩
  ·obtain⟨o',e1⟩:=I.base.there b o e hx;exact⟨o',(hs.2 b (aN (ay (aB e) I.ok.above))).trans e1⟩
  ·by_cases hj:j=i
   ·subst hj;rw[hi] at e1;cases e1;rw[aW uD] at e2;cases e2;exact⟨u,r,.inl ⟨hk,by simp⟩⟩
   ·rw[ax (bE hj)] at e2;obtain⟨u',r',q⟩:=hl j y v' e1 e2 e3;refine⟨u',r',?_⟩;rcases q with⟨k,e⟩|⟨k,c,e,z⟩
    ·refine .inl ⟨k,?_⟩;have:y≠x:=λe=>hj (Jc hN e1 (e▸hi));simp[this,e]
    ·exact .inr ⟨k,c,e,z.sameBut hs (qI y c e)⟩
  ·obtain⟨w',z⟩:=I.cell y c e;exact⟨w',z.sameBut hs (qI y c e)⟩
  ·obtain⟨e,n,ne,nf,d⟩:=I.pin p hp;exact⟨(hs.2 p.1 ne).trans e,n,ne,nf,d⟩
 ·have rL:X.fn x=true:=by
   rcases hf with z|z
   ·exact z
   ·rw[z] at hk;cases hk
  obtain⟨c,hc⟩:=I.ok.has x (.inl hk);obtain⟨w',z⟩:=I.cell x c hc;refine wpAny_storeName_cell I.ok.kind hk hc z (λh' iG hs=>?_);obtain⟨oc,zp,zo⟩:=id z;refine h { s with heap:=h' } ⟨I.ok,I.os,I.bare,⟨λb o e n hb hx=>?_,λb o e n hb hx=>?_,I.base.free,λb o e hx=>?_,I.base.gH,I.base.gw,I.base.gI⟩,⟨m,hn.sameBut hs (bE (qI x c hc)),λj y v' e1 e2 e3=>?_⟩,λy c' e=>?_,I.free,I.dZ,λp hp=>?_,tracked ⟨oc,zp,I.dZ x c hc⟩ hs,by simpa using I.len⟩ ⟨c,hs,.inr hc⟩
  ·exact(hs.2 b (aN (ay (aB e) (I.ok.pe x c rL hc)))).trans (I.base.keep b o e n hb hx)
  ·obtain⟨sl,e1⟩:=I.base.slot b o e n hb hx;exact⟨sl,(hs.2 b (aN (ay (aB e) (I.ok.pe x c rL hc)))).trans e1⟩
  ·obtain⟨o',e1⟩:=I.base.there b o e hx;exact⟨o',(hs.2 b (aN (ay (aB e) (I.ok.pe x c rL hc)))).trans e1⟩
  ·by_cases hj:j=i
   ·subst hj;rw[hi] at e1;cases e1;rw[aW uD] at e2;cases e2;exact⟨u,r,.inr ⟨.inl hk,c,hc,iG⟩⟩
   ·rw[ax (bE hj)] at e2;obtain⟨u',r',q⟩:=hl j y v' e1 e2 e3;refine⟨u',r',?_⟩;rcases q with q|⟨k,c',e,z'⟩
    ·exact .inl q
    ·refine .inr ⟨k,c',e,z'.sameBut hs ?_⟩;rintro rfl;exact hj (Jc hN e1 (I.ok.inj _ _ _ e hc▸hi))
  ·by_cases rP:c'=c
   ·subst rP;exact⟨_,iG⟩
   ·obtain⟨w2,z2⟩:=I.cell y c' e;exact⟨w2,z2.sameBut hs rP⟩
  ·obtain⟨e,n,ne,nf,d⟩:=I.pin p hp;refine⟨(hs.2 p.1 ?_).trans e,n,ne,nf,d⟩;intro q;rw[q,zp] at e;have q':oc=p.2:=aM e;exact d w' (by rw[<- q'];exact zo)
theorem Q6{M:Model}{A:Around}{E:Value->Shared->Prop}{i:Nat}{x:Str}{v:V}{u:Value}{Q:Unit->Shared->Prop}(I:Inv X pins Z H s)(hN:X.N.Nodup)(hi:X.N[i]?=some x)(hx:Loc X.env.scope x)(r:RelV v u)(h:∀s',Inv X pins (Z.set i (some v)) H s'->Q () s')(hf:X.fn x=true\/X.env.scope.names.lookup x=some .local:=by first|exact .inl rfl|exact .inr rfl|assumption):wpAny M A (storeName X.env x u) Q E s :=
 GH I hN hi hx r (λs' I' _=>h s' I') hf
theorem Inv.Cb{s':Shared}{ch:List Addr}(I:Inv X pins Z H s)(ho:s'.os=s.os)(u:Un (fA X.stack) ch H H' s.heap s'.heap)(bK:fO X.prog X.w H' s'.heap)(hg:AllBare s'.gens)(kH:∀b∈ch,(b∈X.ex\/X.cW.heap.objs.size<=b)/\b≠X.env.locals/\(∀x c,X.env.cells.lookup x=some c->c≠b)/\∀p∈X.pn++pins,p.1≠b):Inv X pins Z H' s':=by
 obtain⟨h',g',d',t',o'⟩:=s';have e:o'=s.os:=ho;subst e;exact I.call (g':=g') (t':=t') (d':=d') u bK hg kH
end
noncomputable abbrev XK:=Value->Option Addr->Hp->Prop
noncomputable abbrev St:=List (Option V)
noncomputable abbrev VK:=V->Hp->Prop
noncomputable abbrev TE:=St->Hp->VK->Prop
noncomputable abbrev TT:=St->Hp->(Bool->Hp->Prop)->Prop
noncomputable abbrev TA:=St->Hp->(List V->Hp->Prop)->Prop
structure Ends where
 nx:St->Hp->Prop
 rt:VK
 bk:St->Hp->Prop:=λ_ _=>False
 ct:St->Hp->Prop:=λ_ _=>False
noncomputable abbrev TS:=Ends->St->Hp->Prop
def EP(X:Cx)(pins:List (Addr×Obj))(Z:St)(Q:VK)(u:Value)(s':Shared):Prop:=∃v H',Inv X pins Z H' s'/\RelV v u/\Q v H'
def TP(X:Cx)(pins:List (Addr×Obj))(Z:St)(Q:Bool->Hp->Prop)(b:Bool)(s':Shared):Prop:=∃H',Inv X pins Z H' s'/\Q b H'
def AP(X:Cx)(pins:List (Addr×Obj))(Z:St)(Q:List V->Hp->Prop)(us:List Value)(s':Shared):Prop:=∃vs H',Inv X pins Z H' s'/\Vals vs us/\Q vs H'
def SP(X:Cx)(pins:List (Addr×Obj))(D:Ends)(f:Flow)(s':Shared):Prop :=
 match f with
 |.next=>∃bN H',Inv X pins bN H' s'/\D.nx bN H'
 |.brk=>∃bN H',Inv X pins bN H' s'/\D.bk bN H'
 |.cont=>∃bN H',Inv X pins bN H' s'/\D.ct bN H'
 |.ret u=>∃v bN H',Inv X pins bN H' s'/\RelV v u/\D.rt v H'
def PE(X:Cx)(e:Expr)(t:TE):Prop :=
 ∀(pins:List (Addr×Obj)) (s:Shared) (Z:St) (H:Hp) (Q:VK),Inv X pins Z H s->t Z H Q->wpAny (model X.prog X.w) X.A (eval e X.env) (EP X pins Z Q) X.xe s
def PT(X:Cx)(e:Expr)(t:TT):Prop :=
 ∀(pins:List (Addr×Obj)) (s:Shared) (Z:St) (H:Hp) (Q:Bool->Hp->Prop),Inv X pins Z H s->t Z H Q->wpAny (model X.prog X.w) X.A (isTrue e X.env (eval e X.env)) (TP X pins Z Q) X.xe s
def PW(X:Cx)(e:Expr)(t:TT):Prop :=
 ∀(whole:Sem Value) (pins:List (Addr×Obj)) (s:Shared) (Z:St) (H:Hp) (Q:Bool->Hp->Prop),Inv X pins Z H s->t Z H Q->wpAny (model X.prog X.w) X.A (isTrue e X.env whole) (TP X pins Z Q) X.xe s
theorem PW.pt{X:Cx}{e:Expr}{t:TT}(h:PW X e t):PT X e t:=h _
def PA(X:Cx)(es:List Expr)(t:TA):Prop :=
 ∀(pos:Pos) (pins:List (Addr×Obj)) (s:Shared) (Z:St) (H:Hp) (Q:List V->Hp->Prop),Inv X pins Z H s->t Z H Q->wpAny (model X.prog X.w) X.A (spliced (backTo pos (starEach es X.env))) (AP X pins Z Q) X.xe s
def PS(X:Cx)(st:Stmt)(t:TS):Prop :=
 ∀(pins:List (Addr×Obj)) (s:Shared) (Z:St) (H:Hp) (D:Ends),Inv X pins Z H s->t D Z H->wpAny (model X.prog X.w) X.A (exec st X.env) (SP X pins D) X.xe s
def iN(X:Cx)(st:List Stmt)(t:TS):Prop :=
 ∀(pins:List (Addr×Obj)) (s:Shared) (Z:St) (H:Hp) (D:Ends),Inv X pins Z H s->t D Z H->wpAny (model X.prog X.w) X.A (execs st X.env) (SP X pins D) X.xe s
theorem cF{α:Type}{t:Sem α}{Q Q':α->Shared->Prop}{M:Model}{A:Around}{E:Value->Shared->Prop}{s:Shared}(h:wpAny M A t Q E s)(hQ:∀a s,Q a s->Q' a s):wpAny M A t Q' E s:=bx h hQ λ_ _ x=>x
section
variable{X:Cx}
def UB(i:Nat):TE:=λZ H Q=>∃v,Z[i]?=some (some v)/\Q v H
def tC(v:V):TE:=λ_ H Q=>Q v H
theorem Pn{i:Nat}{x:Str}{pos:Pos}(hN:X.N[i]?=some x)(hv:vU X.env.scope x)(hd:(x==("__debug__":Str))=false:=by decide)(lq:(x==("__classdict__":Str))=false:=by decide):PE X (.Name x pos) (UB i):=by
 intro pins s Z H Q I h;obtain⟨v,e,h⟩:=h;obtain⟨m,hn,hl⟩:=I.loc;obtain⟨u,r,l⟩:=hl i x v hN e hv;have fin:EP X pins Z Q u s:=⟨v,H,I,r,h⟩
 rcases l with⟨hk,hm⟩|⟨hk,c,hc,kI⟩
 ·exact wpAny_Name (wpAny_loadName_local I.ok.kind hk hn hm fin) hd
 ·rcases hk with hk|hk
  ·exact wpAny_Name (wpAny_loadName_cell I.ok.kind hk hc kI fin) hd
  ·exact wpAny_Name (wpAny_loadName_free I.ok.kind hk hc kI fin lq) hd
theorem Pf{i j pos}:PE X (.Constant (.int i) j pos) (tC (.int i)):=λ_ _ _ H _ I h=>wpAny_Constant_int ⟨.int i,H,I.tok _,⟨_,rfl⟩,h⟩
theorem VJ{b j pos}:PE X (.Constant (.bool b) j pos) (tC (.bl b)):=λ_ _ _ H _ I h=>Constant_bool ⟨.bl b,H,I,rfl,h⟩
theorem Pj{j pos}:PE X (.Constant .none j pos) (tC .bC):=λ_ _ _ H _ I h=>Constant_none ⟨.bC,H,I,rfl,h⟩
theorem HP{x j pos}:PE X (.Constant (.str x) j pos) (tC (.str x)):=λ_ _ _ H _ I h=>Calls.Constant_str ⟨.str x,H,I.tok _,⟨_,rfl⟩,h⟩
def Gl(X:Cx)(x:Str):Prop:=X.env.kindOf x=some .globalImplicit
theorem P9{E:Value->Shared->Prop}{pins:List (Addr×Obj)}{s:Shared}{Z:St}{H:Hp}{x:Str}{u:Value}{pos:Pos}{Q:Value->Shared->Prop}(I:Inv X pins Z H s)(hg:Gl X x)(hm:X.mg x=some u)(h:Q u s)(hd:(x==("__debug__":Str))=false:=by decide):wpAny (model X.prog X.w) X.A (eval (.Name x pos) X.env) Q E s :=
 yw I.ok.kind hg (Calls.loadGlobal_global (by rw[I.ok.glob];exact I.mod.glob.keeps I.bk) hm h) hd
theorem L0{E:Value->Shared->Prop}{pins:List (Addr×Obj)}{s:Shared}{Z:St}{H:Hp}{x:Str}{u:Value}{pos:Pos}{Q:Value->Shared->Prop}(I:Inv X pins Z H s)(hg:Gl X x)(hm:X.mg x=none)(hv:bootBuiltins x=some u)(h:Q u s)(hn:x≠"__name__":=by decide)(hd:(x==("__debug__":Str))=false:=by decide):wpAny (model X.prog X.w) X.A (eval (.Name x pos) X.env) Q E s:=by
 obtain⟨mb,h1,h2⟩:=I.mod.blt;exact yw I.ok.kind hg (Calls.loadGlobal_builtin (by rw[I.ok.glob];exact I.mod.glob.keeps I.bk) hm (by rw[I.ok.blt];exact h1.keeps I.bk) ((h2 x hn).trans hv) h) hd
theorem ya{x:Str}{v:V}{u:Value}{pos:Pos}(hg:Gl X x)(hm:X.mg x=some u)(r:RelV v u)(hd:(x==("__debug__":Str))=false:=by decide):PE X (.Name x pos) (tC v) :=
 λ_ _ _ H _ I h=>P9 I hg hm ⟨v,H,I,r,h⟩ hd
theorem RI{x:Str}{v:V}{u:Value}{pos:Pos}(hg:Gl X x)(hm:X.mg x=none)(hv:bootBuiltins x=some u)(r:RelV v u)(hn:x≠"__name__":=by decide)(hd:(x==("__debug__":Str))=false:=by decide):PE X (.Name x pos) (tC v) :=
 λ_ _ _ H _ I h=>L0 I hg hm hv ⟨v,H,I,r,h⟩ hn hd
variable{a b:Expr}{ta tb:TE}{pos:Pos}
variable{tA wq:TT}{rest:List Expr}
def Uo(t u:TT):TT:=λZ H Q=>t Z H λc H1=>if c=true then u Z H1 Q else Q false H1
def Ke(t u:TT):TT:=λZ H Q=>t Z H λc H1=>if c=true then Q true H1 else u Z H1 Q
def Uv(t:TT):TT:=λZ H Q=>t Z H λc H1=>Q (!c) H1
theorem Sa(ha:PT X a tA):PW X (.BoolOp .And [a] pos) tA:=by
 intro wh pins s Z H Q I h;refine isTrue_and (cF (ha pins s Z H Q I h) λc s1 e=>?_);cases c with
 |true=>exact isTrue_and_nil e
 |false=>exact e
theorem PK(ha:PT X a tA):PW X (.BoolOp .Or [a] pos) tA:=by
 intro wh pins s Z H Q I h;refine isTrue_or (cF (ha pins s Z H Q I h) λc s1 e=>?_);cases c with
 |false=>exact isTrue_or_nil e
 |true=>exact e
theorem PJ(ha:PT X a tA)(hb:PW X (.BoolOp .And (b::rest) pos) wq):PW X (.BoolOp .And (a::b::rest) pos) (Uo tA wq):=by
 intro wh pins s Z H Q I h;refine isTrue_and (cF (ha pins s Z H _ I h) λc s1 ⟨H1,I1,q1⟩=>?_);cases c with
 |true=>exact hb wh pins s1 Z H1 Q I1 q1
 |false=>exact⟨H1,I1,q1⟩
theorem VS(ha:PT X a tA)(hb:PW X (.BoolOp .Or (b::rest) pos) wq):PW X (.BoolOp .Or (a::b::rest) pos) (Ke tA wq):=by
 intro wh pins s Z H Q I h;refine isTrue_or (cF (ha pins s Z H _ I h) λc s1 ⟨H1,I1,q1⟩=>?_);cases c with
 |true=>exact⟨H1,I1,q1⟩
 |false=>exact hb wh pins s1 Z H1 Q I1 q1
theorem PH(ha:PT X a tA):PT X (.UnaryOp .Not a pos) (Uv tA):=by
 intro pins s Z H Q I h;exact isTrue_not (ha pins s Z H (λc H1=>Q (!c) H1) I h)
def ND(ta tb:TE):TE:=λZ H Q=>ta Z H λx H1=>∃c,x=.bl c/\if c=true then tb Z H1 Q else Q (.bl false) H1
def Uw(ta tb:TE):TE:=λZ H Q=>ta Z H λx H1=>∃c,x=.bl c/\if c=true then Q (.bl true) H1 else tb Z H1 Q
def NK(ta:TE):TE:=λZ H Q=>ta Z H λx H1=>∃c,x=.bl c/\Q (.bl (!c)) H1
theorem Pl{op}{t:TE}(h:PE X a t):PE X (.BoolOp op [a] pos) t:=λpins s Z H Q I hw=>BoolOp_one (h pins s Z H Q I hw)
theorem Pc(ha:PE X a ta)(hb:PE X (.BoolOp .And (b::rest) pos) tb):PE X (.BoolOp .And (a::b::rest) pos) (ND ta tb):=by
 intro pins s Z H Q I h;refine BoolOp_and (cF (ha pins s Z H _ I h) λv s1 bq=>?_);obtain⟨x,H1,I1,r1,q1⟩:=bq;obtain⟨c,rfl,q1⟩:=q1;cases r1;refine cA ?_;cases c with
 |true=>exact hb pins s1 Z H1 Q I1 q1
 |false=>exact⟨.bl false,H1,I1,rfl,q1⟩
theorem VO(ha:PE X a ta)(hb:PE X (.BoolOp .Or (b::rest) pos) tb):PE X (.BoolOp .Or (a::b::rest) pos) (Uw ta tb):=by
 intro pins s Z H Q I h;refine BoolOp_or (cF (ha pins s Z H _ I h) λv s1 bq=>?_);obtain⟨x,H1,I1,r1,q1⟩:=bq;obtain⟨c,rfl,q1⟩:=q1;cases r1;refine cA ?_;cases c with
 |false=>exact hb pins s1 Z H1 Q I1 q1
 |true=>exact⟨.bl true,H1,I1,rfl,q1⟩
theorem Pk(ha:PE X a ta):PE X (.UnaryOp .Not a pos) (NK ta):=by
 intro pins s Z H Q I h;refine UnaryOp_ (cF (ha pins s Z H _ I h) λv s1 bq=>?_);obtain⟨x,H1,I1,r1,q1⟩:=bq;obtain⟨c,rfl,q1⟩:=q1;cases r1;exact not_of (cA ⟨.bl (!c),H1,I1,rfl,q1⟩)
def Kf(t:TT)(ta tb:TE):TE:=λZ H Q=>t Z H λc H1=>if c=true then ta Z H1 Q else tb Z H1 Q
theorem a34{c:Expr}(hc:PT X c tA)(ha:PE X a ta)(hb:PE X b tb):PE X (.IfExp c a b pos) (Kf tA ta tb):=by
 intro pins s Z H Q I h;refine wpAny_IfExp (cF (hc pins s Z H _ I h) λd s1 ⟨H1,I1,q1⟩=>?_);cases d with
 |true=>exact ha pins s1 Z H1 Q I1 q1
 |false=>exact hb pins s1 Z H1 Q I1 q1
end
def fB(K:PySem.W.Frag)(H:Hp)(a:Addr)(xs:List V):Prop :=
 Rd H a (.lst xs) \/
  ∃(o:Obj) (aX:Array Value) (n:Nat),K.lookup a=some o/\o.cls=.type "list"/\o.dict=none/\o.data=.seq aX n/\aX.size<=sizeLine/\Vals xs aX.toList
def hU(K:PySem.W.Frag)(H:Hp)(a:Addr)(xs:List V):Prop :=
 Rd H a (.tup xs) \/
  ∃(o:Obj) (aX:Array Value) (n:Nat),K.lookup a=some o/\o.cls=.type "tuple"/\o.data=.seq aX n/\aX.size<=sizeLine/\Vals xs aX.toList
def SV:Value->Option V
 |.none=>some .bC
 |.bool b=>some (.bl b)
 |.int i _=>some (.int i)
 |.str x _=>some (.str x)
 |.bytes b _=>some (.kK b)
 |.float b _=>some (.qD b)
 |.ref a=>some (.ref a)
 |.type n=>some (.ty n)
 |_=>none
theorem RelV.abs{x:V}{u:Value}(r:RelV x u):SV u=some x:=by
 cases x with
 |bC=>cases r;rfl
 |bl _=>cases r;rfl
 |int _=>obtain⟨t,rfl⟩:=r;rfl
 |str _=>obtain⟨t,rfl⟩:=r;rfl
 |kK _=>obtain⟨t,rfl⟩:=r;rfl
 |qD _=>obtain⟨t,rfl⟩:=r;rfl
 |ref _=>cases r;rfl
 |ty _=>cases r;rfl
theorem RelV.inj{x y:V}{u:Value}(r:RelV x u)(q:RelV y u):x=y:=aM (r.abs.symm.trans q.abs)
theorem Vals.inj{xs ys:List V}{us:List Value}(h:Vals xs us)(h':Vals ys us):xs=ys:=by
 induction h generalizing ys with
 |nil=>cases h';rfl
 |cons r t ih =>
  cases h' with
  |cons r' t'=>rw[r.inj r',ih t']
section
variable{X:Cx}{pins:List (Addr×Obj)}{Z:St}{H:Hp}{s:Shared}{a:Addr}{xs ys:List V}
theorem fB.of{K:PySem.W.Frag}(h:H a=some (.lst xs)):fB K H a xs:=.inl (.inl h)
theorem Inv.list(I:Inv X pins Z H s)(h:fB X.K H a xs):∃aX:List Value,Vals xs aX/\PlainL s.heap a aX.toArray/\xs.length<=sizeLine:=by
 rcases h with h|⟨o,aX,n,hk,hc,hd,hs,hz,r⟩
 ·obtain⟨z,aX,n,r,e⟩:=h.ok I.bK;exact⟨aX,r,⟨_,n,e,rfl,rfl,rfl⟩,z⟩
 ·refine⟨aX.toList,r,⟨o,n,I.gs a o hk,hc,hd,by simpa using hs⟩,?_⟩;have e:=r.length;simp only[Array.length_toList] at e;omega
theorem Inv.tuple(I:Inv X pins Z H s)(h:hU X.K H a xs):∃aX:List Value,Vals xs aX/\IsTup s.heap a aX.toArray/\xs.length<=sizeLine:=by
 rcases h with h|⟨o,aX,n,hk,hc,hs,hz,r⟩
 ·obtain⟨z,aX,r,p⟩:=h.ok I.bK;exact⟨aX,r,p.tup,z⟩
 ·refine⟨aX.toList,r,⟨o,I.gs a o hk,hc,n,by simpa using hs⟩,?_⟩;have e:=r.length;simp only[Array.length_toList] at e;omega
theorem Inv.Bt(I:Inv X pins Z H s)(h:fB X.K H a xs)(h':fB X.K H a ys):xs=ys:=by
 obtain⟨aX,r,⟨o,n,e,_,_,d⟩,_⟩:=I.list h;obtain⟨its',r',⟨o',n',e',_,_,d'⟩,_⟩:=I.list h';rw[e] at e';cases e';rw[d] at d';injection d' with d1 _;have:aX=its':=by simpa using fP Array.toList d1
 subst this;exact r.inj r'
theorem Inv.XR(I:Inv X pins Z H s)(h:hU X.K H a xs)(h':hU X.K H a ys):xs=ys:=by
 obtain⟨aX,r,⟨o,e,_,n,d⟩,_⟩:=I.tuple h;obtain⟨its',r',⟨o',e',_,n',d'⟩,_⟩:=I.tuple h';rw[e] at e';cases e';rw[d] at d';injection d' with d1 _;have:aX=its':=by simpa using fP Array.toList d1
 subst this;exact r.inj r'
end
noncomputable abbrev Cx.Y0(X:Cx)(E:Value->Shared->Prop):Cx:={ X with xe:=E }
theorem Cx.Ok.Y0{X:Cx}(ok:X.Ok)(E:Value->Shared->Prop):(X.Y0 E).Ok :=
 ⟨ok.mod,ok.kind,ok.glob,ok.blt,ok.above,ok.inj,ok.has,ok.pe,ok.hd,ok.frames,ok.pN,ok.vd,ok.bs,ok.mW,ok.jP,ok.kB,ok.J8,ok.ny⟩
theorem Cx.Ok.AO{X:Cx}{E:Value->Shared->Prop}(ok:(X.Y0 E).Ok):X.Ok :=
 ⟨ok.mod,ok.kind,ok.glob,ok.blt,ok.above,ok.inj,ok.has,ok.pe,ok.hd,ok.frames,ok.pN,ok.vd,ok.bs,ok.mW,ok.jP,ok.kB,ok.J8,ok.ny⟩
section
variable{X:Cx}{pins:List (Addr×Obj)}{Z:St}{H:Hp}{s:Shared}{E:Value->Shared->Prop}
theorem Inv.Y0(I:Inv X pins Z H s)(E:Value->Shared->Prop):Inv (X.Y0 E) pins Z H s:=⟨I.ok.Y0 E,I.os,I.bare,I.base,I.loc,I.cell,I.free,I.dZ,I.pin,I.bK,I.len⟩
theorem Inv.AO(I:Inv (X.Y0 E) pins Z H s):Inv X pins Z H s:=⟨I.ok.AO,I.os,I.bare,I.base,I.loc,I.cell,I.free,I.dZ,I.pin,I.bK,I.len⟩
end
section
variable{X:Cx}{st:Stmt}{rest:List Stmt}{t u:TS}{e:Expr}{te:TE}{pos:Pos}
def Jy:TS:=λD Z H=>D.nx Z H
def Uz(t u:TS):TS:=λD Z H=>t { D with nx:=u D } Z H
theorem RX:iN X [] Jy:=λ_ _ Z H _ I h=>jy ⟨Z,H,I,h⟩
theorem a24(h1:PS X st t)(h2:iN X rest u):iN X (st::rest) (Uz t u):=by
 intro pins s Z H D I h;refine wpAny_execs_cons (cF (h1 pins s Z H { D with nx:=u D } I h) λf s1 q=>?_);cases f with
 |next =>
  obtain⟨bN,H',I',q⟩:=q;exact h2 pins s1 bN H' D I' q
 |ret v=>exact q
 |brk=>exact q
 |cont=>exact q
theorem RU:PS X (.Pass pos) Jy:=λ_ _ Z H _ I h=>wpAny_Pass ⟨Z,H,I,h⟩
theorem Inv.quiet{pins:List (Addr×Obj)}{Z:St}{H:Hp}{s:Shared}(I:Inv X pins Z H s):interactive X.env=false:=by simp[interactive,I.ok.kind]
def NJ(te:TE):TS:=λD Z H=>te Z H λ_ H1=>D.nx Z H1
theorem RT(he:PE X e te)(hs:swapsWith e none pos.line X.env=pure false:=by rfl):PS X (.Expr e pos) (NJ te):=by
 intro pins s Z H D I h;exact wpAny_Expr_any (cF (he pins s Z H _ I h) λv s1 ⟨x,H1,I1,r1,q1⟩=>⟨Z,H1,I1,q1⟩) I.quiet hs
def Uy(te:TE):TS:=λD Z H=>te Z H D.rt
theorem Pz(he:PE X e te):PS X (.Return (some e) pos) (Uy te):=by
 intro pins s Z H D I h;exact wpAny_Return_some (cF (he pins s Z H _ I h) λv s1 ⟨x,H1,I1,r1,q1⟩=>⟨x,Z,H1,I1,r1,q1⟩)
def NM:TS:=λD _ H=>D.rt .bC H
theorem RV:PS X (.Return none pos) NM:=λ_ _ Z H _ I h=>wpAny_Return_none ⟨.bC,Z,H,I,rfl,h⟩
def Ut(c:TT)(t u:TS):TS:=λD Z H=>c Z H λb H1=>if b=true then t D Z H1 else u D Z H1
theorem VR{c:Expr}{a b:List Stmt}{tc:TT}(hc:PT X c tc)(ha:iN X a t)(hb:iN X b u):PS X (.If c a b pos) (Ut tc t u):=by
 intro pins s Z H D I h;refine wpAny_If (cF (hc pins s Z H _ I h) λd s1 ⟨H1,I1,q1⟩=>?_);cases d with
 |true=>exact ha pins s1 Z H1 D I1 q1
 |false=>exact hb pins s1 Z H1 D I1 q1
end
noncomputable abbrev TG:=V->St->Hp->(St->Hp->Prop)->Prop
noncomputable abbrev pA:=List V->St->Hp->(St->Hp->Prop)->Prop
def PG(X:Cx)(target:Expr)(t:TG):Prop :=
 ∀(pins:List (Addr×Obj)) (s:Shared) (Z:St) (H:Hp) (v:V) (u:Value) (Q:St->Hp->Prop),Inv X pins Z H s->RelV v u->t v Z H Q ->
  wpAny (model X.prog X.w) X.A (assign target X.env u) (λ_ s'=>∃bN H',Inv X pins bN H' s'/\Q bN H') X.xe s
def vX(X:Cx)(ts:List Expr)(t:pA):Prop :=
 ∀(pins:List (Addr×Obj)) (s:Shared) (Z:St) (H:Hp) (vs:List V) (us:List Value) (Q:St->Hp->Prop),Inv X pins Z H s->Vals vs us->t vs Z H Q ->
  wpAny (model X.prog X.w) X.A (assignInOrder ((assignEach ts X.env).map (·.2)) us) (λ_ s'=>∃bN H',Inv X pins bN H' s'/\Q bN H') X.xe s
noncomputable abbrev CO:=V->V->V->Hp->(Hp->Prop)->Prop
def CN(X:Cx)(t:CO):Prop :=
 ∀(pins:List (Addr×Obj)) (s:Shared) (Z:St) (H:Hp) (o i v:V) (ov iv u:Value) (Q:Hp->Prop),Inv X pins Z H s->RelV o ov->RelV i iv->RelV v u->t o i v H Q ->
  wpAny (model X.prog X.w) X.A (setItem ov iv u) (λ_ s'=>∃H',Inv X pins Z H' s'/\Q H') X.xe s
noncomputable abbrev Dd:=V->V->Hp->VK->Prop
def JA(X:Cx)(op:Operator)(t:Dd):Prop :=
 ∀(pins:List (Addr×Obj)) (s:Shared) (Z:St) (H:Hp) (x y:V) (v u:Value) (Q:VK),Inv X pins Z H s->RelV x v->RelV y u->t x y H Q ->
  wpAny (model X.prog X.w) X.A (inplaceOp op v u) (EP X pins Z Q) X.xe s
section
variable{X:Cx}{pos:Pos}
def sE(i:Nat):TG:=λv Z H Q=>Q (Z.set i (some v)) H
theorem IA{i:Nat}{x:Str}(hN:X.N.Nodup)(hi:X.N[i]?=some x)(hx:Loc X.env.scope x)(hf:X.fn x=true\/X.env.scope.names.lookup x=some .local:=by first|exact .inl rfl|exact .inr rfl|assumption):PG X (.Name x pos) (sE i):=by
 intro pins s Z H v u Q I r h;exact wpAny_assign_Name (Q6 I hN hi hx r (λs' I'=>⟨_,H,I',h⟩) hf)
def Ft:pA:=λvs Z H Q=>vs=[]/\Q Z H
def Ji(t:TG)(u:pA):pA:=λvs Z H Q=>∃v r,vs=v::r/\t v Z H λbN H'=>u r bN H' Q
theorem RP:vX X [] Ft:=by
 intro pins s Z H vs us Q I r h;obtain⟨e,h⟩:=h;subst e;cases r;exact assignInOrder_nil ⟨Z,H,I,h⟩
theorem a31{e:Expr}{es:List Expr}{t:TG}{u:pA}(h1:PG X e t)(h2:vX X es u)(hs:(assignEach (e::es) X.env).map (·.2)=assign e X.env::(assignEach es X.env).map (·.2):=by rfl):vX X (e::es) (Ji t u):=by
 intro pins s Z H vs us Q I r h;obtain⟨v,vr,e1,h⟩:=h;subst e1;cases r with
 |cons r rr =>
  rw[hs];refine we (cF (h1 pins s Z H _ _ _ I r h) λ_ s1 bq=>?_);obtain⟨hZ,H1,I1,q1⟩:=bq;exact h2 pins s1 hZ H1 _ _ Q I1 rr q1
def Tp(K:PySem.W.Frag)(n:Nat)(t:pA):TG:=λv Z H Q=>∃a xs,v=.ref a/\hU K H a xs/\xs.length=n/\t xs Z H Q
theorem Pp{es:List Expr}{k:Nat}{t:pA}{n:Nat}(hc:X.calm=true)(h:vX X es t)(hn:(assignEach es X.env).length=n:=by rfl)(dE:(assignEach es X.env).findIdx? (·.1)=none:=by rfl):PG X (.Tuple es k pos) (Tp X.K n t):=by
 intro pins s Z H v u Q I r hw;obtain⟨a,xs,e1,hq,hl,hw⟩:=hw;subst e1;cases r;obtain⟨aX,rv,ht,hz⟩:=I.tuple hq;refine assign_Tuple_tuple (I.ok.hd hc) ht (by simp[hn,<- hl,rv.length]) dE λh' hx=>?_;have I1:Inv X pins Z H { s with heap:=h' }:=I.kept (t':=s.toks) λb o e=>hx b o (aN (aB e)) e;exact h pins _ Z H xs _ Q I1 (by simpa using rv) hw
def To(to ti:TE)(t:CO):TG:=λv Z H Q=>to Z H λo H1=>ti Z H1 λi H2=>t o i v H2 λH3=>Q Z H3
theorem Po{o i:Expr}{to ti:TE}{t:CO}(ho:PE X o to)(hi:PE X i ti)(hs:CN X t)(ha:∀ v,assign (.Subscript o i pos) X.env v=(do
   let ov <- holding [v] (eval o X.env)
   let iv <- holding [v,ov] (eval i X.env)
   standAt pos
   holding [v,ov,iv] (setItem ov iv v)
   release [v,ov,iv] []):=by intro _;rfl):PG X (.Subscript o i pos) (To to ti t):=by
 intro pins s Z H v u Q I r h;rw[ha];refine ae (cz (cF (ho pins s Z H _ I h) λov s1 bq=>?_));obtain⟨x,H1,I1,r1,q1⟩:=bq;refine ae (cz (cF (hi pins s1 Z H1 _ I1 q1) λiv s2 bq=>?_));obtain⟨y,H2,I2,r2,q2⟩:=bq;refine ae (dM (ae (cz (cF (hs pins s2 Z H2 x y v ov iv u _ I2 r1 r2 r q2) λ_ s3 ⟨H3,I3,q3⟩=>?_))));exact wpAny_release ⟨Z,H3,I3,q3⟩
def vq(te:TE)(g:TG):TS:=λD Z H=>te Z H λx H1=>g x Z H1 D.nx
theorem HR{tg e:Expr}{te:TE}{g:TG}(he:PE X e te)(hg:PG X tg g)(hs:swapsWithSole [tg] e pos.line X.env=pure false:=by rfl)(hw:swappedStores [tg] e X.env=pure none:=by rfl)(h1:(assignEach [tg] X.env).map (·.2)=[assign tg X.env]:=by rfl):PS X (.Assign [tg] e pos) (vq te g):=by
 intro pins s Z H D I h;refine wpAny_Assign_stores (cF (he pins s Z H _ I h) λv s1 bq=>?_) hs hw;obtain⟨x,H1,I1,r1,q1⟩:=bq;rw[h1];exact cF (hg pins s1 Z H1 x v _ I1 r1 q1) λ_ s2 q=>q
theorem HS{i:Nat}{x:Str}{e:Expr}{te:TE}{pos':Pos}(hN:X.N.Nodup)(hi:X.N[i]?=some x)(hx:Loc X.env.scope x)(he:PE X e te)(hs:swapsWith e (some (.Name x pos')) pos.line X.env=pure false:=by rfl)(hf:X.fn x=true\/X.env.scope.names.lookup x=some .local:=by first|exact .inl rfl|exact .inr rfl|assumption) :
  PS X (.Assign [.Name x pos'] e pos) (vq te (sE i)):=by
 intro pins s Z H D I h;refine wpAny_Assign_Name (cF (he pins s Z H _ I h) λv s1 bq=>?_) hs;obtain⟨y,H1,I1,r1,q1⟩:=bq;exact Q6 I1 hN hi hx r1 (λs2 I2=>⟨_,H1,I2,q1⟩) hf
def Ux(i j:Nat)(ta:TA):TS:=λD Z H=>ta Z H λvs H1=>∃v w,vs=[v,w]/\D.nx ((Z.set i (some v)).set j (some w)) H1
theorem Py{i j:Nat}{x y:Str}{a b:Expr}{ta:TA}{px py pt:Pos}{kt k2 oy}(hc:X.calm=true)(hN:X.N.Nodup)(hi:X.N[i]?=some x)(hj:X.N[j]?=some y)(ji:i≠j)(hx:X.env.scope.names.lookup x=some .local)(hy:X.env.scope.names.lookup y=some .local)(ha:PA X [a,b] ta)(hw:swappedStores [.Tuple [.Name x px,.Name y py] kt pt] (.Tuple [a,b] k2 oy) X.env=pure (some [x,y]))(hs:swapsWithSole [.Tuple [.Name x px,.Name y py] kt pt] (.Tuple [a,b] k2 oy) pos.line X.env=pure false:=by rfl) :
  PS X (.Assign [.Tuple [.Name x px,.Name y py] kt pt] (.Tuple [a,b] k2 oy) pos) (Ux i j ta):=by
 intro pins s Z H D I h;rw[exec_Assign_arm];refine ae (dM ?_);rw[hs];refine ae (au ?_);rw[aC (by decide)];refine ae (Tuple_ (cF (ha _ pins s Z H _ I h) λus s1 bq=>?_));obtain⟨vs,H1,I1,r1,q1⟩:=bq;obtain⟨v,w,e1,q1⟩:=q1;subst e1;obtain⟨u1,u2,rfl,rv,fJ⟩:∃u1 u2,us=[u1,u2]/\RelV v u1/\RelV w u2:=by
  cases r1 with
  |cons p q =>
   cases q with
   |cons p' q' =>
    cases q';exact⟨_,_,rfl,p,p'⟩
 refine cg ?_ (by show 2<=sizeLine;decide);have I2:Inv X pins Z H1 { s1 with heap:=s1.heap.push { cls:=.type "tuple",data:=.seq [u1,u2].toArray } }:=I1.kept (t':=s1.toks) λb o e=>av _ e;rw[hw];refine ae (au ?_);show wpAny (model X.prog X.w) X.A (do rule "assign.swapped-stores";let items <- unpackItems (.ref s1.heap.objs.size) 2 none;assignInOrder [λv=>bindName X.env y v,λv=>bindName X.env x v] items.reverse;pure Flow.next) _ _ _;refine ae (fM (ae (unpackItems_tuple (items:=#[u1,u2]) (I.ok.hd hc) (IsTup.new s1.heap _) λh' oH=>?_)));have I3:=I2.kept (h':=h') (t':=s1.toks) λb o e=>oH b o (aN (aB e)) e;show wpAny _ _ (assignInOrder [λv=>bindName X.env y v,λv=>bindName X.env x v] [u2,u1] >>= λ_=>pure Flow.next) _ _ _;refine ae (we (wpAny_bindName (Q6 I3 hN hj (.inl hy) fJ (λs2 I4=>?_) (.inr hy))));refine we (wpAny_bindName (Q6 I4 hN hi (.inl hx) rv (λs3 I5=>assignInOrder_nil (au ?_)) (.inr hx)));rw[List.set_comm _ _ (bE ji)] at I5;exact⟨_,H1,I5,q1⟩
def Up(i:Nat)(te:TE)(ti:Dd):TS:=λD Z H=>∃x,Z[i]?=some (some x)/\te Z H λy H1=>ti x y H1 λz H2=>D.nx (Z.set i (some z)) H2
theorem Pu{i:Nat}{x:Str}{e:Expr}{te:TE}{op:Operator}{ti:Dd}{pos':Pos}(hN:X.N.Nodup)(hi:X.N[i]?=some x)(hx:Loc X.env.scope x)(he:PE X e te)(ho:JA X op ti)(hf:X.fn x=true\/X.env.scope.names.lookup x=some .local:=by first|exact .inl rfl|exact .inr rfl|assumption) :
  PS X (.AugAssign (.Name x pos') op e pos) (Up i te ti):=by
 intro pins s Z H D I h;obtain⟨v,e1,h⟩:=h;obtain⟨m,hn,hl⟩:=I.loc;have tD:vU X.env.scope x:=by rcases hx with k|k;exact .inl k;exact .inr (.inl k)
 obtain⟨u,r,l⟩:=hl i x v hi e1 tD;refine wpAny_AugAssign_Name ?_;have go:wpAny (model X.prog X.w) X.A (eval e X.env) (λw fT=>wpAny (model X.prog X.w) X.A (inplaceOp op u w) (λr eP=>wpAny (model X.prog X.w) X.A (storeName X.env x r) (λ_=>SP X pins D .next) X.xe eP) X.xe fT) X.xe s:=by
  refine cF (he pins s Z H _ I h) λw s1 bq=>?_;obtain⟨y,H1,I1,r1,q1⟩:=bq;refine cF (ho pins s1 Z H1 v y u w _ I1 r r1 q1) λz s2 bq=>?_;obtain⟨zv,H2,I2,r2,q2⟩:=bq;exact Q6 I2 hN hi hx r2 (λs3 I3=>⟨_,H2,I3,q2⟩) hf
 rcases l with⟨hk,hm⟩|⟨hk,c,hc,kI⟩
 ·exact wpAny_loadName_local I.ok.kind hk hn hm go
 ·rcases hk with hk|hk
  ·exact wpAny_loadName_cell I.ok.kind hk hc kI go
  ·rcases hx with k|k
   ·have:X.env.scope.names.lookup x=some .free:=hk;rw[k] at this;cases this
   ·have:X.env.scope.names.lookup x=some .free:=hk;rw[k] at this;cases this
end
section
variable{X:Cx}{pos:Pos}
def QE(c:TT)(tb:TS):TS:=λD Z H=>∃W:Nat->St->Hp->Prop,(∃m,W m Z H)/\∀m Z H,W m Z H ->
 c Z H λb H1=>if b=true then ∃N:St->Hp->Prop,(∀bN H',N bN H'->∃m',m'<m/\W m' bN H')/\tb { D with nx:=N,ct:=N,bk:=D.nx } Z H1 else D.nx Z H1
theorem a25{c:Expr}{body:List Stmt}{tc:TT}{tb:TS}(hp:PassesOwn (model X.prog X.w) X.A X.env X.xe)(hc:PT X c tc)(hb:iN X body tb):PS X (.While c body [] pos) (QE tc tb):=by
 intro pins s Z H D I h;obtain⟨W,⟨m0,w0⟩,turn⟩:=h;refine wpAny_While (codeAny_whileLoop (λn s'=>∃bN H',Inv X pins bN H' s'/\W n bN H') ?_ m0 ⟨Z,H,I,w0⟩);rintro n s1 ⟨hZ,H1,I1,w1⟩;refine dI hp (cF (hc pins s1 hZ H1 _ I1 (turn n hZ H1 w1)) λb s2 ⟨H2,I2,q2⟩=>?_);cases b with
 |true =>
  obtain⟨N,hN,q2⟩:=q2;rw[aK rfl];refine dI hp (cF (hb pins s2 hZ H2 _ I2 q2) λf s3 q3=>?_);cases f with
  |next =>
   obtain⟨gX,H3,I3,n3⟩:=q3;obtain⟨m',hm,w3⟩:=hN gX H3 n3;exact⟨m',hm,gX,H3,I3,w3⟩
  |cont =>
   obtain⟨gX,H3,I3,n3⟩:=q3;obtain⟨m',hm,w3⟩:=hN gX H3 n3;exact⟨m',hm,gX,H3,I3,w3⟩
  |brk=>exact q3
  |ret v=>exact q3
 |false =>
  rw[aC dt];exact jy ⟨hZ,H2,I2,q2⟩
end
structure It where
 go:Nat->Hp->Prop
 pL:Nat->Hp->V->Hp->Prop
 stop:Nat->Hp->Prop
def B9(X:Cx)(pins:List (Addr×Obj))(H:Hp)(b:Addr):Prop :=
 H b=none/\b≠X.env.locals/\b∉X.fs/\(b∈X.ex\/X.cW.heap.objs.size<=b)/\(∀x c,X.env.cells.lookup x=some c->c≠b)/\∀p∈X.pn++pins,p.1≠b
theorem Inv.pj{X:Cx}{pins:List (Addr×Obj)}{Z:St}{H H':Hp}{s:Shared}{b:Addr}(I:Inv X pins Z H s)(hb:s.heap.objs.size<=b)(hn:H' b=none):B9 X pins H' b:=by
 refine⟨hn,bS (ay I.lt hb),I.vT hb,.inr (aD I.sz hb),λx c e z=>?_,λp hp z=>?_⟩
 ·obtain⟨v,q⟩:=I.cell x c e;exact absurd (ay q.lt (by rw[z];exact hb)) (bw _)
 ·exact absurd (ay (aB (I.pin p hp).1) (by rw[z];exact hb)) (bw _)
structure Turn(P:Program)(w:World)(K:PySem.W.Frag)(tg:Expr)(J:It)(fp:List Addr)(it:Addr)(tn:Nat->Heap->Prop):Prop where
 mem:it∈fp
 obj:∀i h,tn i h->∀b∈fp,∃o,h.get? b=some o/\∀v,o.data≠.cell v
 keep:∀i h h',tn i h->(∀b∈fp,∀o,h.get? b=some o->h'.get? b=some o)->tn i h'
 item:∀(X:Cx),X.prog=P->X.w=w->X.K=K->X.calm=true->∀(i:Nat) (pins:List (Addr×Obj)) (s:Shared) (Z:St) (H:Hp) (E:Value->Shared->Prop),Inv X pins Z H s->(∀b∈fp,B9 X pins H b)->tn i s.heap->J.go i H ->
  wpAny (model P w) X.A (pyNext (.ref it)) (λr s1=>∃ u,r=some u /\
   wpAny (model P w) X.A (letOwnedTupleGo tg (.ref it) u) (λ_ s2=>∃ x H',Inv X pins Z H' s2/\RelV x u/\J.pL i H x H'/\tn (i + 1) s2.heap/\∀ b ∈ fp,H' b=none) E s1) E s
 done:∀(X:Cx),X.prog=P->X.w=w->X.K=K->X.calm=true->∀(i:Nat) (pins:List (Addr×Obj)) (s:Shared) (Z:St) (H:Hp) (E:Value->Shared->Prop),Inv X pins Z H s->(∀b∈fp,B9 X pins H b)->tn i s.heap->J.stop i H ->
  wpAny (model P w) X.A (pyNext (.ref it)) (λr s1=>r=none/\Inv X pins Z H s1) E s
 self:∀(A:Around) (i:Nat) (s:Shared) (Q:Value->Shared->Prop) (E:Value->Shared->Prop),tn i s.heap->Q (.ref it) s->wpAny (model P w) A (pyIter (.ref it)) Q E s
noncomputable abbrev TI:=St->Hp->(It->Hp->Prop)->Prop
def JB(X:Cx)(pins:List (Addr×Obj))(Z:St)(tg:Expr)(R:It->Hp->Prop)(ui:Value)(s2:Shared):Prop :=
 ∃(it:Addr) (fp:List Addr) (tn:Nat->Heap->Prop) (J:It) (H':Hp),ui=.ref it/\Inv X pins Z H' s2/\Turn X.prog X.w X.K tg J fp it tn/\tn 0 s2.heap/\(∀b∈fp,B9 X pins H' b)/\R J H'
def PI(X:Cx)(tg iter:Expr)(wi:TI):Prop :=
 ∀(pins:List (Addr×Obj)) (s:Shared) (Z:St) (H:Hp) (R:It->Hp->Prop),Inv X pins Z H s->wi Z H R ->
  wpAny (model X.prog X.w) X.A (eval iter X.env) (λv s1=>wpAny (model X.prog X.w) X.A (pyIter v) (JB X pins Z tg R) X.xe s1) X.xe s
theorem xr{M:Model}{A:Around}{E:Value->Shared->Prop}{s:Shared}{tg:Expr}{it:Addr}{u:Value}{o:Obj}{n:String}{vs:Array Value}{Q:Unit->Shared->Prop}(ho:s.heap.get? it=some o)(hc:o.cls=.type n)(hd:o.data=.fields vs)(hn:["enumerate","zip","dict_itemiterator","dict_reverseitemiterator","odict_iterator","itertools.zip_longest","itertools.pairwise"].contains n=false)(hQ:Q () s):wpAny M A (letOwnedTupleGo tg (.ref it) u) Q E s:=by
  unfold letOwnedTupleGo;cases tg<;>first
    |exact au hQ
    | (cases u <;> first
        |exact au hQ
        | (refine ae (wpAny_load ho ?_)
           rw[hc,hd];show wpAny M A (if(["enumerate","zip","dict_itemiterator","dict_reverseitemiterator","odict_iterator","itertools.zip_longest","itertools.pairwise"].contains n&&vs[0]?==some (rawInt _))=true then _ else _) Q E s;rw[aC (by intro h;rw[hn,Bool.false_and] at h;cases h)];exact au hQ))
def Dg(K:PySem.W.Frag)(a:Addr):It :=
 ⟨λi H=>∃xs x,fB K H a xs/\xs[i]?=some x,λi H x H'=>H'=H/\∀xs,fB K H a xs->xs[i]?=some x,λi H=>∃xs,fB K H a xs/\xs.length<=i⟩
def Df(K:PySem.W.Frag)(a:Addr):It :=
 ⟨λi H=>∃xs x,hU K H a xs/\xs[i]?=some x,λi H x H'=>H'=H/\∀xs,hU K H a xs->xs[i]?=some x,λi H=>∃xs,hU K H a xs/\xs.length<=i⟩
def vZ(lo:Int)(n:Nat):It:=⟨λi _=>i<n,λi H x H'=>H'=H/\x=.int (lo+i),λi _=>n<=i⟩
theorem XU{P:Program}{w:World}{K:PySem.W.Frag}{tg:Expr}(a it:Addr):Turn P w K tg (Dg K a) [it] it (λi h=>h.IsListIter it a i) where
 mem:=by simp
 obj:=λi h st b hb=>by
  have e:b=it:=by simpa using hb
  subst e;obtain⟨o,e,c,d⟩:=st;exact⟨o,e,λv z=>by rw[d] at z;cases z⟩
 keep:=λi h h' st k=>st.at λo e=>k it (by simp) o e
 item:=by
  intro X hP hw hK hc i pins s Z H E I hf st hg;subst hP hw hK;obtain⟨xs,x,hq,hx⟩:=hg;obtain⟨aX,rv,p,hz⟩:=I.list hq;obtain⟨u,hu,ru⟩:=rv.get hx;obtain⟨f0,f1,f2,f3,f4,f5⟩:=hf it (by simp);refine wpAny_pyNext_list_item st p.isList (x:=u) (by simpa using hu) λh' kX sb=>?_;have I1:Inv X pins Z H { s with heap:=h' }:=I.turned (t':=s.toks) (λb o hb e=>(sb.2 b hb).trans e) f0 f1 f3 f4 f5;obtain⟨o,e,c,d⟩:=id kX;exact⟨u,rfl,xr (s:={ s with heap:=h' }) e c d (by decide) ⟨x,H,I1,ru,⟨rfl,λys hy=>by rw[I.Bt hy hq];exact hx⟩,kX,λb hb=>(hf b hb).1⟩⟩
 done:=by
  intro X hP hw hK hc i pins s Z H E I hf st hg;subst hP hw hK;obtain⟨xs,hq,hx⟩:=hg;obtain⟨aX,rv,p,hz⟩:=I.list hq;obtain⟨f0,f1,f2,f3,f4,f5⟩:=hf it (by simp);have hl:=rv.length;exact wpAny_pyNext_list_end (I.ok.hd hc) st p.isList (by simp;omega) λh' eb=>⟨rfl,I.turned (t':=s.toks) (λb o hb e=>eb b o hb e) f0 f1 f3 f4 f5⟩
 self:=λ_ _ _ _ _ st h=>wpAny_pyIter_listiter st h
theorem YJ{P:Program}{w:World}{K:PySem.W.Frag}{tg:Expr}(a it:Addr):Turn P w K tg (Df K a) [it] it (λi h=>h.IsTupleIter it a i) where
 mem:=by simp
 obj:=λi h st b hb=>by
  have e:b=it:=by simpa using hb
  subst e;obtain⟨o,e,c,d⟩:=st;exact⟨o,e,λv z=>by rw[d] at z;cases z⟩
 keep:=λi h h' st k=>st.at λo e=>k it (by simp) o e
 item:=by
  intro X hP hw hK hc i pins s Z H E I hf st hg;subst hP hw hK;obtain⟨xs,x,hq,hx⟩:=hg;obtain⟨aX,rv,p,hz⟩:=I.tuple hq;obtain⟨u,hu,ru⟩:=rv.get hx;obtain⟨f0,f1,f2,f3,f4,f5⟩:=hf it (by simp);refine wpAny_pyNext_tuple_item st (show s.heap.IsTuple a aX.toArray from p) (x:=u) (by simpa using hu) λh' kX sb=>?_;have I1:Inv X pins Z H { s with heap:=h' }:=I.turned (t':=s.toks) (λb o hb e=>(sb.2 b hb).trans e) f0 f1 f3 f4 f5;obtain⟨o,e,c,d⟩:=id kX;exact⟨u,rfl,xr (s:={ s with heap:=h' }) e c d (by decide) ⟨x,H,I1,ru,⟨rfl,λys hy=>by rw[I.XR hy hq];exact hx⟩,kX,λb hb=>(hf b hb).1⟩⟩
 done:=by
  intro X hP hw hK hc i pins s Z H E I hf st hg;subst hP hw hK;obtain⟨xs,hq,hx⟩:=hg;obtain⟨aX,rv,p,hz⟩:=I.tuple hq;obtain⟨f0,f1,f2,f3,f4,f5⟩:=hf it (by simp);have hl:=rv.length;exact wpAny_pyNext_tuple_end (I.ok.hd hc) st (show s.heap.IsTuple a aX.toArray from p) (by simp;omega) λh' eb=>⟨rfl,I.turned (t':=s.toks) (λb o hb e=>eb b o hb e) f0 f1 f3 f4 f5⟩
 self:=λ_ _ _ _ _ st h=>wpAny_pyIter_tupleiter st h
theorem YH{P:Program}{w:World}{K:PySem.W.Frag}{tg:Expr}(it:Addr)(lo:Int)(n:Nat):Turn P w K tg (vZ lo n) [it] it (λi h=>IsRangeIter h it (lo+(i:Nat)*1) ((n:Int)-(i:Nat)) 1) where
 mem:=by simp
 obj:=λi h st b hb=>by
  have e:b=it:=by simpa using hb
  subst e;exact ⟨_,st,λv z=>by
   have z':Data.fields _=Data.cell v:=z;cases z'⟩
 keep:=λi h h' st k=>k it (by simp) _ st
 item:=by
  intro X hP hw hK hc i pins s Z H E I hf st hg;subst hP hw hK;obtain⟨f0,f1,f2,f3,f4,f5⟩:=hf it (by simp);have W:=Walks.range (prog:=X.prog) (w:=X.w) (I.ok.hd hc) it lo 1 n;refine W.item i s _ _ hg st λv h' tk hv kX kk=>?_;obtain⟨t,rfl⟩:=hv;have I1:Inv X pins Z H { s with heap:=h',toks:=tk }:=I.turned (λb o hb e=>kk b o (by simpa using hb) e) f0 f1 f3 f4 f5;refine⟨_,rfl,xr (s:={ s with heap:=h',toks:=tk }) (n:="range_iterator") kX rfl rfl (by decide) ⟨.int (lo+i),H,I1,⟨t,?_⟩,⟨rfl,rfl⟩,kX,λb hb=>(hf b hb).1⟩⟩;rw[Int.mul_one]
 done:=by
  intro X hP hw hK hc i pins s Z H E I hf st hg;subst hP hw hK;obtain⟨f0,f1,f2,f3,f4,f5⟩:=hf it (by simp);exact wpAny_pyNext_range_end (I.ok.hd hc) st (by have:n<=i:=hg;omega) λh' eb=>⟨rfl,I.turned (t':=s.toks) (λb o hb e=>eb b o hb e) f0 f1 f3 f4 f5⟩
 self:=λ_ _ _ _ _ st h=>wpAny_pyIter_rangeiter st h
section
variable{X:Cx}{tg:Expr}
theorem FR{pins:List (Addr×Obj)}{Z:St}{H:Hp}{s:Shared}{R:It->Hp->Prop}{E:Value->Shared->Prop}{lo hi:Int}{t u v:Tok}{tk:Nat}(I:Inv X pins Z H s)(h1:-(2 ^ 62)<=lo)(h2:lo<2 ^ 62)(h3:-(2 ^ 62)<=hi)(h4:hi<2 ^ 62)(q:R (vZ lo (hi-lo).toNat) H):wpAny (model X.prog X.w) X.A (pyIter (.ref s.heap.objs.size)) (JB X pins Z tg R) E { s with heap:=s.heap.push { cls:=.type "range",data:=.fields #[.int lo t,.int hi u,.int 1 v] },toks:=tk }:=by
 refine wpAny_pyIter_range (IsRange.new ..) (small_one h1 h2 h3 h4) ?_;have I1:Inv X pins Z H { s with heap:=s.heap.push { cls:=.type "range",data:=.fields #[.int lo t,.int hi u,.int 1 v] },toks:=tk }:=I.kept λb o e=>av _ e;refine ⟨(s.heap.push { cls:=.type "range",data:=.fields #[.int lo t,.int hi u,.int 1 v] }).objs.size,[(s.heap.push { cls:=.type "range",data:=.fields #[.int lo t,.int hi u,.int 1 v] }).objs.size],_,_,H,rfl,
  I1.kept (t':=tk) λb o e=>av _ e,YH _ lo (hi - lo).toNat,?_,λb hb=>?_,q⟩
 ·have e1:lo+((0:Nat):Int)*1=lo:=by simp
  have e2:(((hi-lo).toNat:Nat):Int)-((0:Nat):Int)=Builtin.Range.rangeSize lo hi 1:=by rw[rangeSize_one];split<;>omega
  show IsRangeIter _ _ (lo+((0:Nat):Int)*1) ((((hi-lo).toNat:Nat):Int)-((0:Nat):Int)) 1;rw[e1,e2];exact aG _ rfl
 ·have e:b=(s.heap.push { cls:=.type "range",data:=.fields #[.int lo t,.int hi u,.int 1 v] }).objs.size:=by simpa using hb
  subst e;exact I1.pj (aw _) (I1.bK.fresh (aw _))
def Vg(ta:TA):TI:=λZ H R=>ta Z H λvs H1=>∃j:Int,vs=[.int j]/\-(2 ^ 62)<=j/\j<2 ^ 62/\R (vZ 0 j.toNat) H1
def Vh(ta:TA):TI:=λZ H R=>ta Z H λvs H1=>∃i j:Int,vs=[.int i,.int j]/\(-(2 ^ 62)<=i/\i<2 ^ 62/\-(2 ^ 62)<=j/\j<2 ^ 62)/\R (vZ i (j-i).toNat) H1
theorem XA{a:Expr}{ta:TA}{p pos:Pos}(hg:Gl X "range")(hm:X.mg "range"=none)(ha:PA X [a] ta)(hs:starEach [a] X.env=[(false,eval a X.env)]:=by rfl):PI X tg (.Call (.Name "range" p) [a] [] pos) (Vg ta):=by
 intro pins s Z H R I h;refine Call_ (L0 I hg hm boot_range (bJ (cF (ha pos pins s Z H _ I h) λus s1 bq=>?_) hs rfl));obtain⟨vs,H1,I1,r1,q1⟩:=bq;obtain⟨j,e,q1,q2,q⟩:=q1;subst e;cases r1 with
 |cons r rr =>
  cases rr;obtain⟨t,rfl⟩:=r;exact call_range_1 (FR I1 (by omega) (by omega) q1 q2 (by simpa using q))
theorem XB{a b:Expr}{ta:TA}{p pos:Pos}(hg:Gl X "range")(hm:X.mg "range"=none)(ha:PA X [a,b] ta)(hs:starEach [a,b] X.env=[(false,eval a X.env),(false,eval b X.env)]:=by rfl)(iM:starEach [b] X.env=[(false,eval b X.env)]:=by rfl) :
  PI X tg (.Call (.Name "range" p) [a,b] [] pos) (Vh ta):=by
 intro pins s Z H R I h;refine Call_ (L0 I hg hm boot_range (bJ (cF (ha pos pins s Z H _ I h) λus s1 bq=>?_) (by rw[hs,iM]) (by rw[iM];rfl)));obtain⟨vs,H1,I1,r1,q1⟩:=bq;obtain⟨i,j,e,⟨q1,q2,q3,q4⟩,q⟩:=q1;subst e;cases r1 with
 |cons r rr =>
  cases rr with
  |cons r' rr =>
   cases rr;obtain⟨t,rfl⟩:=r;obtain⟨t',rfl⟩:=r';exact call_range_2 (FR I1 q1 q2 q3 q4 q)
def Us(wi:TI)(g:TG)(tb:TS):TS:=λD Z H=>wi Z H λJ H1=>∃W:Nat->Nat->St->Hp->Prop,(∃m,W 0 m Z H1)/\∀i m Z H,W i m Z H ->
 (J.stop i H/\D.nx Z H)\/(J.go i H/\∃N:St->Hp->Prop,(∀bN H',N bN H'->∃m',m'<m/\W (i+1) m' bN H')/\∀x H',J.pL i H x H'->g x Z H' λcy H2=>tb { D with nx:=N,ct:=N,bk:=D.nx } cy H2)
def W5(fp:List Addr)(h:Heap):List (Addr×Obj):=fp.filterMap λb=>(h.get? b).map λo=>(b,o)
theorem O5{fp:List Addr}{h:Heap}{b:Addr}{o:Obj}(hb:b∈fp)(e:h.get? b=some o):(b,o)∈W5 fp h:=jH.mpr ⟨b,hb,by rw[e];rfl⟩
theorem Xq{fp:List Addr}{h:Heap}{p:Addr×Obj}(hp:p∈W5 fp h):p.1∈fp/\h.get? p.1=some p.2:=by
 obtain⟨b,hb,e⟩:=jH.mp hp;cases q:h.get? b with
 |none=>rw[q] at e;cases e
 |some o =>
  rw[q] at e;have e':(b,o)=p:=aM e;subst e';exact⟨hb,q⟩
theorem Inv.pinned{pins:List (Addr×Obj)}{Z:St}{H:Hp}{s:Shared}{fp:List Addr}(I:Inv X pins Z H s)(hf:∀b∈fp,B9 X pins H b)(ho:∀b∈fp,∃o,s.heap.get? b=some o/\∀v,o.data≠.cell v):Inv X (pins++W5 fp s.heap) Z H s :=
 I.K2 λp hp=>(aV.mp hp).elim (λz=>I.pin p (br _ z)) λz=>by
  obtain⟨hb,e⟩:=Xq z;obtain⟨f0,f1,f2,_⟩:=hf p.1 hb;obtain⟨o,e',d⟩:=ho p.1 hb;rw[e] at e';cases e';exact⟨e,f0,f1,f2,d⟩
theorem Inv.Bz{pins pl:List (Addr×Obj)}{Z:St}{H:Hp}{s:Shared}(I:Inv X (pins++pl) Z H s):Inv X pins Z H s:=I.K2 λp hp=>I.pin p (br _ (cR _ hp))
theorem Px{iter:Expr}{body:List Stmt}{wi:TI}{g:TG}{tb:TS}{pos:Pos}(hp:PassesOwn (model X.prog X.w) X.A X.env X.xe)(hc:X.calm=true)(hi:PI X tg iter wi)(hg:PG X tg g)(hb:iN X body tb)(hs:∀x,foldedSetIterable iter X.env x=pure x:=by intro _;rfl):PS X (.For tg iter body [] pos) (Us wi g tb):=by
 intro pins s Z H D I h;refine wpAny_For (cF (hi pins s Z H _ I h) λv s1 h1=>cF h1 λui s2 h2=>?_) hs;obtain⟨it,fp,tn,J,H2,e,I2,T,kn,f2,W,⟨m0,w0⟩,turn⟩:=h2;subst e;have pO:∀{H':Hp},(∀b∈fp,H' b=none)->∀b∈fp,B9 X pins H' b:=λhn b hb=>⟨hn b hb,(f2 b hb).2⟩
 refine codeAny_forLoop_any (λn s'=>∃i bN H',Inv X pins bN H' s'/\tn i s'.heap/\(∀b∈fp,H' b=none)/\W i n bN H') ?_ m0 ⟨0,Z,H2,I2,kn,λb hb=>(f2 b hb).1,w0⟩;rintro n s3 ⟨i,gX,H3,I3,ow,oX,w3⟩;rcases turn i n gX H3 w3 with⟨stop,qn⟩|⟨go,N,hN,step⟩
 ·refine dI hp (cF (T.done X rfl rfl rfl hc i pins s3 gX H3 X.xe I3 (pO oX) ow stop) λr s4 ⟨hr,I4⟩=>?_);subst hr;exact jy ⟨gX,H3,I4,qn⟩
 ·refine dI hp (cF (T.item X rfl rfl rfl hc i pins s3 gX H3 X.xe I3 (pO oX) ow go) λr s4 ⟨u,hr,h4⟩=>?_);subst hr;refine dI hp (cF h4 λ_ s5 bq=>?_);obtain⟨x,H5,I5,r5,y5,mf,vb⟩:=bq;have wa:=I5.pinned (pO vb) (T.obj _ _ mf);refine dI hp (cF (hg _ s5 gX H5 x u _ wa r5 (step x H5 y5)) λ_ s6 bq=>?_);obtain⟨kS,H6,I6,q6⟩:=bq;refine dI hp (cF (hb _ s6 kS H6 _ I6 q6) λf s7 q7=>?_);have again:∀{lX:St} {H7:Hp},Inv X (pins++W5 fp s5.heap) lX H7 s7->N lX H7->∃m,m<n/\∃i bN H',Inv X pins bN H' s7/\tn i s7.heap/\(∀b∈fp,H' b=none)/\W i m bN H':=λ{lX H7} I7 n7=>by
   obtain⟨m',hm,w7⟩:=hN lX H7 n7;refine⟨m',hm,i+1,lX,H7,I7.Bz,T.keep _ _ _ mf λb hb o e=>(I7.pin (b,o) (br _ (br _ (O5 hb e)))).1,λb hb=>?_,w7⟩;obtain⟨o,e,d⟩:=T.obj _ _ mf b hb;exact(I7.pin (b,o) (br _ (br _ (O5 hb e)))).2.1
  cases f with
  |next=>obtain⟨lX,H7,I7,n7⟩:=q7;exact again I7 n7
  |cont=>obtain⟨lX,H7,I7,n7⟩:=q7;exact again I7 n7
  |brk=>obtain⟨lX,H7,I7,q7⟩:=q7;exact⟨lX,H7,I7.Bz,q7⟩
  |ret v=>obtain⟨x7,lX,H7,I7,r7,q7⟩:=q7;exact⟨x7,lX,H7,I7.Bz,r7,q7⟩
end
noncomputable abbrev R2:=V->V->Hp->VK->Prop
def fq(X:Cx)(f:Value->Value->Sem Value)(r:R2):Prop :=
 ∀(pins:List (Addr×Obj)) (s:Shared) (Z:St) (H:Hp) (x y:V) (v u:Value) (Q:VK),Inv X pins Z H s->RelV x v->RelV y u->r x y H Q ->
  wpAny (model X.prog X.w) X.A (f v u) (EP X pins Z Q) X.xe s
def yo(X:Cx)(f:Value->Sem Value)(r:V->Hp->VK->Prop):Prop :=
 ∀(pins:List (Addr×Obj)) (s:Shared) (Z:St) (H:Hp) (x:V) (v:Value) (Q:VK),Inv X pins Z H s->RelV x v->r x H Q ->
  wpAny (model X.prog X.w) X.A (f v) (EP X pins Z Q) X.xe s
def l9(X:Cx)(f:Value)(r:List V->Hp->VK->Prop):Prop :=
 ∀(pins:List (Addr×Obj)) (s:Shared) (Z:St) (H:Hp) (xs:List V) (us:List Value) (Q:VK),Inv X pins Z H s->Vals xs us->r xs H Q ->
  wpAny (model X.prog X.w) X.A (call f us) (EP X pins Z Q) X.xe s
def SS(X:Cx)(r:V->Hp->(Bool->Hp->Prop)->Prop):Prop :=
 ∀(pins:List (Addr×Obj)) (s:Shared) (Z:St) (H:Hp) (x:V) (v:Value) (Q:Bool->Hp->Prop),Inv X pins Z H s->RelV x v->r x H Q ->
  wpAny (model X.prog X.w) X.A (truthy v) (TP X pins Z Q) X.xe s
def rz(r:R2)(ta tb:TE):TE:=λZ H Q=>ta Z H λx H1=>tb Z H1 λy H2=>r x y H2 Q
def Kc(r:V->Hp->VK->Prop)(ta:TE):TE:=λZ H Q=>ta Z H λx H1=>r x H1 Q
def rI(C:Int->Int->Prop)(g:Int->Int->V):R2:=λx y H Q=>∃i j,x=.int i/\y=.int j/\C i j/\Q (g i j) H
def lK(g:Int->Int->V):R2:=λx y H Q=>∃i j,x=.int i/\y=.int j/\Q (g i j) H
def rU(g:Int->V):V->Hp->VK->Prop:=λx H Q=>∃i,x=.int i/\Q (g i) H
section
variable{X:Cx}{a b c:Expr}{ta tb tc:TE}{pos:Pos}
theorem CS(ha:PE X a ta)(hb:PE X b tb){pins:List (Addr×Obj)}{s:Shared}{Z:St}{H:Hp}{R:V->V->Hp->Prop}(I:Inv X pins Z H s)(h:ta Z H λx H1=>tb Z H1 λy H2=>R x y H2){Q:Value->Shared->Prop}{f:Value->Value->Sem Value}(hf:∀v u s2 x y H2,Inv X pins Z H2 s2->RelV x v->RelV y u->R x y H2->wpAny (model X.prog X.w) X.A (f v u) Q X.xe s2) :
  wpAny (model X.prog X.w) X.A (eval a X.env) (λv bV=>wpAny (model X.prog X.w) X.A (eval b X.env) (λu fT=>wpAny (model X.prog X.w) X.A (f v u) Q X.xe fT) X.xe bV) X.xe s:=by
 refine cF (ha pins s Z H _ I h) λv s1 bq=>?_;obtain⟨x,H1,I1,r1,q1⟩:=bq;refine cF (hb pins s1 Z H1 _ I1 q1) λu s2 bq=>?_;obtain⟨y,H2,I2,r2,q2⟩:=bq;exact hf v u s2 x y H2 I2 r1 r2 q2
theorem VN{op:Operator}{r:R2}(ho:fq X (binaryOp op) r)(ha:PE X a ta)(hb:PE X b tb):PE X (.BinOp a op b pos) (rz r ta tb):=by
 intro pins s Z H Q I h;exact wpAny_BinOp (CS ha hb I h λv u s2 x y H2 I2 rx ry q=>ho pins s2 Z H2 x y v u Q I2 rx ry q)
theorem VP{op:UnaryOp}{r:V->Hp->VK->Prop}(ho:yo X (unaryOp op) r)(ha:PE X a ta):PE X (.UnaryOp op a pos) (Kc r ta):=by
 intro pins s Z H Q I h;exact UnaryOp_ (cF (ha pins s Z H _ I h) λv s1 ⟨x,H1,I1,r1,q1⟩=>ho pins s1 Z H1 x v Q I1 r1 q1)
theorem tO{f:Value->Value->Sem Value}{C:Int->Int->Prop}{g:Int->Int->Int}(rule:∀(i j:Int) (t u:Tok) (s:Shared) (Q:Value->Shared->Prop) (E:Value->Shared->Prop),C i j->Q (.int (g i j) s.toks) { s with toks:=s.toks+1 }->wpAny (model X.prog X.w) X.A (f (.int i t) (.int j u)) Q E s) :
  fq X f (rI C λi j=>.int (g i j)):=by
 intro pins s Z H x y v u Q I rx ry h;obtain⟨i,j,rfl,rfl,hc,q⟩:=h;obtain⟨t,rfl⟩:=rx;obtain⟨t',rfl⟩:=ry;exact rule i j t t' s _ _ hc ⟨.int (g i j),H,I.tok _,⟨_,rfl⟩,q⟩
theorem sv{f:Value->Value->Sem Value}{g:Int->Int->Int}(rule:∀(i j:Int) (t u:Tok) (s:Shared) (Q:Value->Shared->Prop) (E:Value->Shared->Prop),Q (.int (g i j) s.toks) { s with toks:=s.toks+1 }->wpAny (model X.prog X.w) X.A (f (.int i t) (.int j u)) Q E s) :
  fq X f (lK λi j=>.int (g i j)):=by
 intro pins s Z H x y v u Q I rx ry h;obtain⟨i,j,rfl,rfl,q⟩:=h;obtain⟨t,rfl⟩:=rx;obtain⟨t',rfl⟩:=ry;exact rule i j t t' s _ _ ⟨.int (g i j),H,I.tok _,⟨_,rfl⟩,q⟩
theorem ym{f:Value->Value->Sem Value}{g:Int->Int->Bool}(rule:∀(i j:Int) (t u:Tok) (s:Shared) (Q:Value->Shared->Prop) (E:Value->Shared->Prop),Q (.bool (g i j)) s->wpAny (model X.prog X.w) X.A (f (.int i t) (.int j u)) Q E s) :
  fq X f (lK λi j=>.bl (g i j)):=by
 intro pins s Z H x y v u Q I rx ry h;obtain⟨i,j,rfl,rfl,q⟩:=h;obtain⟨t,rfl⟩:=rx;obtain⟨t',rfl⟩:=ry;exact rule i j t t' s _ _ ⟨.bl (g i j),H,I,rfl,q⟩
def CM(i j:Int):Prop:=0<j/\j<1073741824
def nW(i j:Int):Prop:=0<=j/\j<=1000000/\i.natAbs<2 ^ 64
def qL(i j:Int):Prop:=(-(2 ^ 64)<i/\i<2 ^ 64)\/(-(2 ^ 64)<j/\j<2 ^ 64)
theorem qL.ok{i j:Int}(h:qL i j):IntMulOk i j:=by
 rcases h with⟨h1,h2⟩|⟨h1,h2⟩
 ·exact .of_left (intBits_le_64 h1 h2)
 ·exact .of_right (intBits_le_64 h1 h2)
theorem OO:fq X (binaryOp .Add) (lK λi j=>.int (i+j)):=sv λ_ _ _ _ _ _ _ q=>add_int q
theorem OY:fq X (binaryOp .Sub) (lK λi j=>.int (i-j)):=sv λ_ _ _ _ _ _ _ q=>sub_int q
theorem OU:fq X (binaryOp .Mult) (rI qL λi j=>.int (i*j)):=tO λ_ _ _ _ _ _ _ hc q=>mul_int q hc.ok
theorem RB:fq X (binaryOp .FloorDiv) (rI CM λi j=>.int (i / j)):=tO λi j _ _ _ _ _ hc q=>by
 have h1:(0:Int)<j:=hc.1;have h2:j<1073741824:=hc.2;exact floordiv_int (by omega) (by rw[Int.fdiv_eq_ediv_of_nonneg i (by omega)];exact q) (.inl (PyProof.noPylong_small (by omega)))
theorem OT:fq X (binaryOp .Mod) (rI (λ_ j=>0<j) λi j=>.int (i % j)):=tO λi j _ _ _ _ _ hc q=>by
 have h1:(0:Int)<j:=hc;exact mod_int' (by omega) (by rw[Int.fmod_eq_emod_of_nonneg i (by omega)];exact q)
theorem OV:fq X (binaryOp .Pow) (rI nW λi j=>.int (i ^ j.toNat)):=tO λ_ _ _ _ _ _ _ hc q=>pow_int_small hc.1 hc.2.1 hc.2.2 q
theorem OX:fq X (binaryOp .LShift) (rI nW λi j=>.int (i*2 ^ j.toNat)):=tO λ_ _ _ _ _ _ _ hc q=>lshift_int_small hc.1 hc.2.1 hc.2.2 q
theorem OP:fq X (binaryOp .BitAnd) (lK λi j=>.int (Builtin.bitAnd i j)):=sv λ_ _ _ _ _ _ _ q=>and_int q
theorem VG:fq X (binaryOp .BitOr) (lK λi j=>.int (Builtin.bitOr i j)):=sv λ_ _ _ _ _ _ _ q=>or_int q
theorem Ri:fq X (inplaceOp .Add) (lK λi j=>.int (i+j)):=sv λ_ _ _ _ _ _ _ q=>iadd_int q
theorem Rj:fq X (inplaceOp .Sub) (lK λi j=>.int (i-j)):=sv λ_ _ _ _ _ _ _ q=>isub_int q
theorem Ka{f:Value->Sem Value}{g:Int->Int}(rule:∀(i:Int) (t:Tok) (s:Shared) (Q:Value->Shared->Prop) (E:Value->Shared->Prop),Q (.int (g i) s.toks) { s with toks:=s.toks+1 }->wpAny (model X.prog X.w) X.A (f (.int i t)) Q E s) :
  yo X f (rU λi=>.int (g i)):=by
 intro pins s Z H x v Q I rx h;obtain⟨i,rfl,q⟩:=h;obtain⟨t,rfl⟩:=rx;exact rule i t s _ _ ⟨.int (g i),H,I.tok _,⟨_,rfl⟩,q⟩
theorem QK:yo X (unaryOp .USub) (rU λi=>.int (-i)):=Ka λ_ _ _ _ _ q=>neg_int q
end
def FA:V->V->Bool
 |.bC,.bC=>true|.bC,.int _=>true|.int _,.bC=>true|.bC,.bl _=>true|.bl _,.bC=>true|.bC,.str _=>true|.str _,.bC=>true
 |.int _,.int _=>true|.bl _,.bl _=>true|.str _,.str _=>true|.kK _,.kK _=>true
 |.int _,.str _=>true|.str _,.int _=>true|.bl _,.str _=>true|.str _,.bl _=>true
 |_,_=>false
def Ks:R2:=λx y H Q=>FA x y=true/\Q (.bl (decide (x=y))) H
def Kr:R2:=λx y H Q=>FA x y=true/\Q (.bl (!decide (x=y))) H
theorem xS{i j:Int}:decide (V.int i=V.int j)=(i==j):=by
 rw[aU];simp
theorem xF{i j:Bool}:decide (V.bl i=V.bl j)=(i==j):=by
 rw[aU];simp
theorem xT{i j:Str}:decide (V.str i=V.str j)=(i==j):=by
 rw[aU];simp
theorem Ii{i j:Array UInt8}:decide (V.kK i=V.kK j)=(i.toList==j.toList):=by
 rw[aU];cases i;cases j;simp
section
variable{X:Cx}{a b c:Expr}{ta tb tc:TE}{pos:Pos}
theorem i9{pins:List (Addr×Obj)}{Z:St}{H:Hp}{s:Shared}{Q:VK}{k k':Bool}(I:Inv X pins Z H s)(q:Q (.bl k) H)(e:k=k'):EP X pins Z Q (.bool k') s:=by
 subst e;exact⟨.bl k,H,I,rfl,q⟩
theorem Cg:fq X (compareOp .Eq) Ks:=by
 intro pins s Z H x y v u Q I rx ry h;obtain⟨hs,q⟩:=h;cases x with
 |bC =>
  cases rx;cases y with
  |bC=>cases ry;exact PySem.EqNone.eq_none_none (i9 I q (by simp))
  |bl j=>cases ry;exact PySem.EqNone.eq_none_bool (i9 I q (by simp))
  |int j=>obtain⟨t',rfl⟩:=ry;exact PySem.EqNone.eq_none_int (i9 I q (by simp))
  |str j=>obtain⟨t',rfl⟩:=ry;exact PySem.EqNone.eq_none_str (i9 I q (by simp))
  |_=>exact absurd (show false=true from hs) Bool.false_ne_true
 |bl i =>
  cases rx;cases y with
  |bC=>cases ry;exact PySem.EqNone.eq_bool_none (i9 I q (by simp))
  |bl j=>cases ry;exact eq_bool (i9 I q xF)
  |str j=>obtain⟨t',rfl⟩:=ry;exact PySem.EqMixed.eq_bool_str (i9 I q (by simp))
  |_=>exact absurd (show false=true from hs) Bool.false_ne_true
 |int i =>
  obtain⟨t,rfl⟩:=rx;cases y with
  |bC=>cases ry;exact PySem.EqNone.eq_int_none (i9 I q (by simp))
  |int j=>obtain⟨t',rfl⟩:=ry;exact eq_int (i9 I q xS)
  |str j=>obtain⟨t',rfl⟩:=ry;exact PySem.EqMixed.eq_int_str (i9 I q (by simp))
  |_=>exact absurd (show false=true from hs) Bool.false_ne_true
 |str i =>
  obtain⟨t,rfl⟩:=rx;cases y with
  |bC=>cases ry;exact PySem.EqNone.eq_str_none (i9 I q (by simp))
  |bl j=>cases ry;exact PySem.EqMixed.eq_str_bool (i9 I q (by simp))
  |int j=>obtain⟨t',rfl⟩:=ry;exact PySem.EqMixed.eq_str_int (i9 I q (by simp))
  |str j=>obtain⟨t',rfl⟩:=ry;exact eq_str (i9 I q xT)
  |_=>exact absurd (show false=true from hs) Bool.false_ne_true
 |kK i =>
  obtain⟨t,rfl⟩:=rx;cases y with
  |kK j=>obtain⟨t',rfl⟩:=ry;exact PySem.W.eq_bytes (i9 I q Ii)
  |_=>exact absurd (show false=true from hs) Bool.false_ne_true
 |_=>cases y<;>exact absurd (show false=true from hs) dt
theorem Ci:fq X (compareOp .NotEq) Kr:=by
 intro pins s Z H x y v u Q I rx ry h;obtain⟨hs,q⟩:=h;cases x with
 |bC =>
  cases rx;cases y with
  |bC=>cases ry;exact PySem.EqNone.ne_none_none (i9 I q (by simp))
  |bl j=>cases ry;exact PySem.EqNone.ne_none_bool (i9 I q (by simp))
  |int j=>obtain⟨t',rfl⟩:=ry;exact PySem.EqNone.ne_none_int (i9 I q (by simp))
  |str j=>obtain⟨t',rfl⟩:=ry;exact PySem.EqNone.ne_none_str (i9 I q (by simp))
  |_=>exact absurd (show false=true from hs) Bool.false_ne_true
 |bl i =>
  cases rx;cases y with
  |bC=>cases ry;exact PySem.EqNone.ne_bool_none (i9 I q (by simp))
  |bl j=>cases ry;exact ne_bool (i9 I q (congrArg not xF))
  |str j=>obtain⟨t',rfl⟩:=ry;exact PySem.EqMixed.ne_bool_str (i9 I q (by simp))
  |_=>exact absurd (show false=true from hs) Bool.false_ne_true
 |int i =>
  obtain⟨t,rfl⟩:=rx;cases y with
  |bC=>cases ry;exact PySem.EqNone.ne_int_none (i9 I q (by simp))
  |int j=>obtain⟨t',rfl⟩:=ry;exact ne_int (i9 I q (congrArg not xS))
  |str j=>obtain⟨t',rfl⟩:=ry;exact PySem.EqMixed.ne_int_str (i9 I q (by simp))
  |_=>exact absurd (show false=true from hs) Bool.false_ne_true
 |str i =>
  obtain⟨t,rfl⟩:=rx;cases y with
  |bC=>cases ry;exact PySem.EqNone.ne_str_none (i9 I q (by simp))
  |bl j=>cases ry;exact PySem.EqMixed.ne_str_bool (i9 I q (by simp))
  |int j=>obtain⟨t',rfl⟩:=ry;exact PySem.EqMixed.ne_str_int (i9 I q (by simp))
  |str j=>obtain⟨t',rfl⟩:=ry;exact ne_str (i9 I q (congrArg not xT))
  |_=>exact absurd (show false=true from hs) Bool.false_ne_true
 |kK i =>
  obtain⟨t,rfl⟩:=rx;cases y with
  |kK j=>obtain⟨t',rfl⟩:=ry;exact PySem.W.ne_bytes (i9 I q (congrArg not Ii))
  |_=>exact absurd (show false=true from hs) Bool.false_ne_true
 |_=>cases y<;>exact absurd (show false=true from hs) dt
theorem VF:fq X (compareOp .Lt) (lK λi j=>.bl (decide (i<j))):=ym λ_ _ _ _ _ _ _ q=>lt_int q
theorem VE:fq X (compareOp .LtE) (lK λi j=>.bl (decide (i<=j))):=ym λ_ _ _ _ _ _ _ q=>le_int q
theorem VD:fq X (compareOp .Gt) (lK λi j=>.bl (decide (j<i))):=ym λ_ _ _ _ _ _ _ q=>gt_int q
theorem VC:fq X (compareOp .GtE) (lK λi j=>.bl (decide (j<=i))):=ym λ_ _ _ _ _ _ _ q=>ge_int q
theorem OS:fq X (compareOp .Is) (λx y H Q=>y=.bC/\Q (.bl (decide (x=.bC))) H):=by
 intro pins s Z H x y v u Q I rx ry h;obtain⟨rfl,q⟩:=h;cases ry;refine is_none_gen (i9 I q ?_);cases x<;>first
  |(cases rx;rfl)
  |(obtain⟨t,rfl⟩:=rx;rfl)
theorem RC:fq X (compareOp .IsNot) (λx y H Q=>y=.bC/\Q (.bl (!decide (x=.bC))) H):=by
 intro pins s Z H x y v u Q I rx ry h;obtain⟨rfl,q⟩:=h;cases ry;refine isnot_none_gen (i9 I q ?_);cases x<;>first
  |(cases rx;rfl)
  |(obtain⟨t,rfl⟩:=rx;rfl)
theorem Iy{op:CmpOp}{r:R2}(ho:fq X (compareOp op) r)(ha:PE X a ta)(hb:PE X b tb)(hm:behindInMarks op b=false):PE X (.Compare a [op] [b] pos) (rz r ta tb):=by
 intro pins s Z H Q I h;exact wpAny_Compare1 (CS ha hb I h λv u s2 x y H2 I2 rx ry q=>ho pins s2 Z H2 x y v u Q I2 rx ry q) hm
def Co(t:TE):TT:=λZ H Q=>t Z H λx H'=>∃k,x=.bl k/\Q k H'
theorem IC{op:CmpOp}{r:R2}(ho:fq X (compareOp op) r)(ha:PE X a ta)(hb:PE X b tb)(hm:behindInMarks op b=false):PT X (.Compare a [op] [b] pos) (Co (rz r ta tb)):=by
 intro pins s Z H Q I h;refine wpAny_isTrue_Compare1 (cF (ha pins s Z H _ I h) λv s1 ⟨x,H1,I1,r1,q1⟩=>cF (hb pins s1 Z H1 _ I1 q1) λu s2 ⟨y,H2,I2,r2,q2⟩ =>
  cF (ho pins s2 Z H2 x y v u _ I2 r1 r2 q2) λc s3 ⟨z,H3,I3,r3,k,e,q3⟩=>?_) hm
 subst e;cases r3;exact cA ⟨H3,I3,q3⟩
def AM(r r':R2)(ta tb tc:TE):TE:=λZ H Q=>ta Z H λx H1=>tb Z H1 λy H2=>r x y H2 λz H3=>∃k,z=.bl k /\
 (if k=true then tc Z H3 λw' H4=>r' y w' H4 Q else Q (.bl false) H3)
theorem Z'{op gR:CmpOp}{r r':R2}(ho:fq X (compareOp op) r)(jU:fq X (compareOp gR) r')(ha:PE X a ta)(hb:PE X b tb)(hc:PE X c tc)(hm:lastMarks [op,gR] [b,c]=false:=by with_unfolding_all rfl):PE X (.Compare a [op,gR] [b,c] pos) (AM r r' ta tb tc):=by
 intro pins s Z H Q I h;refine Compare_chain (cF (ha pins s Z H _ I h) λv s1 ⟨x,H1,I1,r1,q1⟩=>chain_link (cF (hb pins s1 Z H1 _ I1 q1) λu s2 ⟨y,H2,I2,r2,q2⟩ =>
  cF (ho pins s2 Z H2 x y v u _ I2 r1 r2 q2) λd s3 ⟨z,H3,I3,r3,k,e,q3⟩=>?_)) hm
 subst e;cases r3;refine cA ?_;cases k with
 |false=>exact ite_ff ⟨.bl false,H3,I3,rfl,q3⟩
 |true=>exact ite_tt (chain_last (cF (hc pins s3 Z H3 _ I3 q3) λw' s4 ⟨z',H4,I4,r4,q4⟩=>jU pins s4 Z H4 y z' u w' Q I4 r2 r4 q4))
theorem a23{op gR:CmpOp}{r r':R2}(ho:fq X (compareOp op) r)(jU:fq X (compareOp gR) r')(ha:PE X a ta)(hb:PE X b tb)(hc:PE X c tc)(hm:lastMarks [op,gR] [b,c]=false:=by with_unfolding_all rfl):PT X (.Compare a [op,gR] [b,c] pos) (Co (AM r r' ta tb tc)):=by
 intro pins s Z H Q I h;refine isTrue_chain (cF (ha pins s Z H _ I h) λv s1 ⟨x,H1,I1,r1,q1⟩=>test_link (cF (hb pins s1 Z H1 _ I1 q1) λu s2 ⟨y,H2,I2,r2,q2⟩ =>
  cF (ho pins s2 Z H2 x y v u _ I2 r1 r2 q2) λd s3 ⟨z,H3,I3,r3,k,e,q3⟩=>?_)) hm
 subst e;cases r3;refine cA ?_;cases k with
 |false =>
  obtain⟨k',e',q'⟩:=q3;cases e';exact ite_ff ⟨H3,I3,q'⟩
 |true =>
  refine ite_tt (test_last (cF (hc pins s3 Z H3 _ I3 q3) λw' s4 ⟨z',H4,I4,r4,q4⟩=>cF (jU pins s4 Z H4 y z' u w' _ I4 r2 r4 q4) λd' s5 bq=>?_));obtain⟨z2,H5,I5,r5,k2,e2,q5⟩:=bq;subst e2;cases r5;exact cA ⟨H5,I5,q5⟩
def CP(K:PySem.W.Frag)(x:V)(H:Hp)(k:Bool):Prop :=
 match x with
 |.bC=>k=false
 |.bl b=>k=b
 |.int i=>k=(i != 0)
 |.str y=>y.length<=sizeLine/\k=((y.length:Int) != 0)
 |.kK y=>y.size<=sizeLine/\k=((y.size:Int) != 0)
 |.ref p=>(∃xs,fB K H p xs/\k=!xs.isEmpty)\/(∃xs,hU K H p xs/\k=!xs.isEmpty)\/∃kvs,H p=some (.dK kvs)/\k=!kvs.isEmpty
 |_=>False
theorem Yj{κ:Type}{kvs:List (κ×V)}{vs:List (κ×Value)}(r:KV kvs vs):(!vs.isEmpty)=!kvs.isEmpty:=by
 cases r<;>rfl
theorem GX{xs:List V}{aX:List Value}(r:Vals xs aX):(!aX.toArray.isEmpty)=!xs.isEmpty:=by
 cases r<;>simp
theorem S1:(sizeLine:Nat)<2 ^ 63:=by rw[kh];decide
theorem QI:SS X (λx H Q=>∃k,CP X.K x H k/\Q k H):=by
 intro pins s Z H x v Q I rx h;obtain⟨k,e,q⟩:=h;have hl:=S1;have hs:sizeLine=16777216:=kh;cases x with
 |bC =>
  cases rx;have e':k=false:=e;subst e';exact truthy_none ⟨H,I,q⟩
 |bl b =>
  cases rx;have e':k=b:=e;subst e';exact cA ⟨H,I,q⟩
 |int i =>
  obtain⟨t,rfl⟩:=rx;have e':k=(i != 0):=e;subst e';exact PySem.P.truthy_int ⟨H,I,q⟩
 |str y =>
  obtain⟨t,rfl⟩:=rx;obtain⟨hy,e'⟩:y.length<=sizeLine/\k=((y.length:Int) != 0):=e;subst e';exact PySem.P.truthy_str (by omega) ⟨H,I.tok _,q⟩
 |kK y =>
  obtain⟨t,rfl⟩:=rx;obtain⟨hy,e'⟩:y.size<=sizeLine/\k=((y.size:Int) != 0):=e;subst e';exact PySem.W.truthy_bytes (by omega) ⟨H,I.tok _,q⟩
 |ref p =>
  cases rx;have e':(∃xs,fB X.K H p xs/\k=!xs.isEmpty)\/(∃xs,hU X.K H p xs/\k=!xs.isEmpty)\/∃kvs,H p=some (.dK kvs)/\k=!kvs.isEmpty:=e;rcases e' with⟨xs,hx,e'⟩|⟨xs,hx,e'⟩|⟨kvs,hx,e'⟩
  ·subst e';obtain⟨aX,r,pl,hz⟩:=I.list hx;have hlen:=r.length;exact wpAny_truthy_list pl.isList (by simp only[List.size_toArray];omega) ⟨H,I.tok _,by rw[GX r];exact q⟩
  ·subst e';obtain⟨aX,r,pl,hz⟩:=I.tuple hx;have hlen:=r.length;exact truthy_tuple pl (by simp only[List.size_toArray];omega) ⟨H,I.tok _,by rw[GX r];exact q⟩
  ·subst e';obtain⟨hz,hS,vs,r,m⟩:kvs.length<=sizeLine/\(p==sysModules)=false/\∃vs,KV kvs vs/\s.heap.DictOf (o8 X.prog X.w) p vs:=I.bK p _ hx;have hlen:kvs.length=vs.length:=lE r;exact wpAny_truthy_dict hS m (by omega) ⟨H,I.tok _,by rw[Yj r];exact q⟩
 |_=>exact(show False from e).elim
theorem a22(ha:PE X a ta)(he:∀whole,isTrue a X.env whole=(do let v <- whole;standAt a.pos;holding [v] (truthy v))) :
  PT X a (λZ H Q=>ta Z H λx H'=>∃k,CP X.K x H' k/\Q k H'):=by
 intro pins s Z H Q I h;exact isTrue_plain (cF (ha pins s Z H _ I h) λv s1 ⟨x,H1,I1,r1,q1⟩=>QI pins s1 Z H1 x v Q I1 r1 q1) (he _)
theorem Yv:fq X (binaryOp .Add) (λx y H Q=>∃i j,x=.str i/\y=.str j/\i.length+j.length<=sizeLine/\Q (.str (i++j)) H):=by
 intro pins s Z H x y v u Q I rx ry h;obtain⟨i,j,rfl,rfl,hz,q⟩:=h;obtain⟨t,rfl⟩:=rx;obtain⟨t',rfl⟩:=ry;exact add_str (λt' tk=>⟨.str (i++j),H,I.tok _,⟨_,rfl⟩,q⟩) hz
theorem vals1{x:V}{us:List Value}(r:Vals [x] us):∃u,us=[u]/\RelV x u:=by
 cases r with
 |cons r1 r2=>cases r2;exact⟨_,rfl,r1⟩
theorem vals2{x y:V}{us:List Value}(r:Vals [x,y] us):∃u w',us=[u,w']/\RelV x u/\RelV y w':=by
 cases r with
 |cons r1 r2 =>
  cases r2 with
  |cons r3 r4=>cases r4;exact⟨_,_,rfl,r1,r3⟩
theorem WO(hc:X.calm=true):l9 X (.builtin "max") (λxs H Q=>∃i j,xs=[.int i,.int j]/\Q (.int (if j>i then j else i)) H):=by
 intro pins s Z H xs us Q I r h;obtain⟨i,j,rfl,q⟩:=h;obtain⟨u,w',rfl,⟨t,rfl⟩,⟨t',rfl⟩⟩:=vals2 r;refine max_two_ints (I.ok.hd hc) λh' tk k=>⟨_,H,I.kept k,?_,q⟩
 by_cases hj:j>i
 ·rw[aK hj,aK hj];exact⟨_,rfl⟩
 ·rw[aC hj,aC hj];exact⟨_,rfl⟩
theorem WR(hc:X.calm=true):l9 X (.builtin "min") (λxs H Q=>∃i j,xs=[.int i,.int j]/\Q (.int (if j<i then j else i)) H):=by
 intro pins s Z H xs us Q I r h;obtain⟨i,j,rfl,q⟩:=h;obtain⟨u,w',rfl,⟨t,rfl⟩,⟨t',rfl⟩⟩:=vals2 r;refine min_two_ints (I.ok.hd hc) λh' tk k=>⟨_,H,I.kept k,?_,q⟩
 by_cases hj:j<i
 ·rw[aK hj,aK hj];exact⟨_,rfl⟩
 ·rw[aC hj,aC hj];exact⟨_,rfl⟩
theorem Gn:l9 X (.type "int") (λxs H Q=>(∃i,xs=[.int i]/\Q (.int i) H)\/∃k,xs=[.bl k]/\Q (.int (if k then 1 else 0)) H):=by
 intro pins s Z H xs us Q I r h;rcases h with⟨i,rfl,q⟩|⟨k,rfl,q⟩
 ·obtain⟨u,rfl,t,rfl⟩:=vals1 r;exact call_int_int ⟨.int i,H,I,⟨_,rfl⟩,q⟩
 ·obtain⟨u,rfl,r1⟩:=vals1 r;cases r1;exact call_int_bool ⟨.int (if k then 1 else 0),H,I.tok _,⟨_,rfl⟩,q⟩
end
structure si(h:Heap)(x dx C:Addr)(mA:Str->Option Value):Prop where
 obj:h.get? x=some (PySem.W.instObj C dx)
 ns:h.Ns1 dx mA
 ne:dx≠x
theorem Gy{h:Heap}{dx:Addr}{mA:Str->Option Value}(n:h.Ns1 dx mA):∃od,h.get? dx=some od/\∀name,PySem.W.lookIn name od=some (mA name):=by
 obtain⟨o,es,ep,ho,hd,hk,_,hm⟩:=n;refine⟨o,ho,λname=>?_⟩;have e:=hm name;unfold nsFind findBy at e;rw[<- Array.find?_toList] at e;unfold PySem.W.lookIn;rw[hd];dsimp only;split
 ·rename_i y q;rw[q] at e;exact fP some e
 ·rename_i q;rw[q] at e;have a:es.toList.any (·.refKey)=false:=by
   rw[List.any_eq_false];intro y hy;obtain⟨z,t,jV⟩:=hk y (Array.mem_toList_iff.mp hy);simp[DictEntry.refKey,jV]
  have a':¬es.toList.any (·.refKey)=true:=by rw[a];exact dt
  rw[aC a'];exact fP some e
theorem si.look{h:Heap}{x dx C:Addr}{mA:Str->Option Value}(I:si h x dx C mA):∃od,PySem.W.InstAt h x (PySem.W.instObj C dx) C (some od)/\∀name,PySem.W.lookIn name od=some (mA name) :=
 let ⟨od,ho,hl⟩:=Gy I.ns
 ⟨od,⟨I.obj,rfl,rfl,ho⟩,hl⟩
section
variable{prog:Program}{w:World}{A:Around}{E:Value->Shared->Prop}{s:Shared}{K:PySem.W.Frag}{x dx C f:Addr}{mA:Str->Option Value}{name:Str}{v:Value}
theorem get_map{expr:Bool}{Q:Value->Shared->Prop}(X:K.In s.heap)(I:si s.heap x dx C mA)(hg:PySem.W.plainGet K C name=true)(hh:PySem.W.hasDictIn K C=true)(ha:PySem.W.findIn K (.ref C) name=some none)(hv:mA name=some v)(zf:PySem.W.handedIn v=true)(h:Q v { s with toks:=s.toks+1 }) :
  wpAny (model prog w) A (getAttr (.ref x) name expr) Q E s:=by
 obtain⟨od,J,hl⟩:=I.look;exact PySem.W.get_value X J (PySem.W.plainGet_of hg).1 (PySem.W.findObj_own hh ha rfl (by rw[hl,hv])) zf h
theorem Sq{ns:List Str}{Q:Unit->Shared->Prop}(X:K.In s.heap)(I:si s.heap x dx C mA)(hs:PySem.W.findIn K (.ref C) "__setattr__"=some (some (.builtin "object.__setattr__")))(hp:PySem.W.plainOver K C=true)(ht:PySem.W.takerIn K C name=some none)(hh:PySem.W.hasDictIn K C=true)(hw:PySem.Within mA ns)(hsz:ns.length<=sizeLine)(h:∀h',si h' x dx C (λy=>if y=name then some v else mA y)->Heap.SameBut dx s.heap h'->Q () { s with heap:=h',toks:=s.toks+2 }) :
  wpAny (model prog w) A (setAttr (.ref x) name v) Q E s:=by
 obtain⟨od,J,hl⟩:=I.look;refine PySem.W.set_plain X J hs (PySem.W.osa_open (s:={ s with toks:=s.toks+1 }) (r:=none) X J hp ht λb=>?_);obtain⟨cd,hc,zK⟩:=PySem.W.any_some hh;have hx:s.heap.get? x=some ⟨.ref C,some dx,.plain,#[]⟩:=I.obj;refine ae (au (ae (ae (wpAny_loadPart hx (ae (PySem.W.Looks.here (s:={ s with toks:=s.toks+1 }) (PySem.W.looks_clsIn X hc) ?_))))));rw[zK];refine au (a:=some dx) (ae (au (ae ?_)));refine wpAny_nsSet1 (s:={ s with toks:=s.toks+1 }) I.ns λh' oN iM=>?_;obtain⟨oD,esD,epD,Ln,LU,LW⟩:=oN.count (PySem.Within.cons name v hw);refine ae (wpAny_lookBehind Ln (by rw[LU];exact pastItsLine_dict (aD LW (by rw[cN];omega))) ?_);exact au (h _ ⟨(iM.2 _ (bE I.ne)).trans I.obj,oN,I.ne⟩ iM)
theorem ZR{R:Result->Shared->Prop}{vs:List Value}{kw:List (Str×Value)}(X:K.In s.heap)(hm:PySem.W.makesIn K C=true)(hi:PySem.W.findIn K (.ref C) "__init__"=some (some (.ref f)))(hf:PySem.W.typeIn K (.ref f)=some (.type "function"))(h:codeAny (model prog w) (A.under (.builtin "type.__call__" ⟨.ref C :: vs,kw⟩)) (.call (.ref f) ⟨.ref (s.heap.objs.size + 1) :: vs,kw⟩) (PySem.W.InitBack (s.heap.objs.size + 1) R)
   { s with heap:=(s.heap.push PySem.W.emptyDict).push (PySem.W.instObj C s.heap.objs.size) }) :
  codeAny (model prog w) A (.call (.ref C) ⟨vs,kw⟩) R s:=by
 obtain⟨hh,g,d,t,os⟩:=s;exact PySem.W.make_core (PySem.W.makes_of X hm) (PySem.W.looks_findIn X hi) (λself=>PySem.W.bind_fn X self hf) (.inl rfl) h
end
def A1(f:Str)(v:V):List (Str×V)->List (Str×V)
 |[]=>[(f,v)]
 |(g,x)::r=>if g=f then(g,v)::r else(g,x)::A1 f v r
theorem Hl(f g:Str)(v:V):∀fs:List (Str×V),(A1 f v fs).lookup g=if g=f then some v else fs.lookup g
 |[]=>by
  show List.lookup g [(f,v)]=_;by_cases h:g=f
  ·have hb:(g==f)=true:=fj.mpr h;simp only[List.lookup,hb,if_pos h]
  ·have hb:(g==f)=false:=cX.mpr h;simp only[List.lookup,hb,if_neg h]
 |(k,x)::r=>by
  have ih:=Hl f g v r;rw[show A1 f v ((k,x)::r)=(if k=f then(k,v)::r else(k,x)::A1 f v r) from rfl];by_cases hk:k=f
  ·rw[aK hk];by_cases h:g=k
   ·have hb:(g==k)=true:=fj.mpr h;simp only[List.lookup,hb,if_pos (h.trans hk)]
   ·have hb:(g==k)=false:=cX.mpr h;simp only[List.lookup,hb,if_neg (λe:g=f=>h (e.trans hk.symm))]
  ·rw[aC hk];by_cases h:g=k
   ·have hb:(g==k)=true:=fj.mpr h;simp only[List.lookup,hb,if_neg (λe:g=f=>hk (h.symm.trans e))]
   ·have hb:(g==k)=false:=cX.mpr h;simp only[List.lookup,hb];exact ih
theorem BG(f:Str)(v:V):∀fs:List (Str×V),f∈(A1 f v fs).map (·.1)/\∀g,g∈fs.map (·.1)->g∈(A1 f v fs).map (·.1)
 |[]=>⟨by simp[A1],λg h=>by simp at h⟩
 |(k,x)::r=>by
  obtain⟨i1,i2⟩:=BG f v r;rw[show A1 f v ((k,x)::r)=(if k=f then(k,v)::r else(k,x)::A1 f v r) from rfl];by_cases hk:k=f
  ·rw[aK hk];subst hk;exact⟨by simp,λg h=>by simpa using h⟩
  ·rw[aC hk];refine⟨?_,λg h=>?_⟩
   ·rw[bg];exact bo _ i1
   ·rw[bg] at h ⊢;rcases aE.mp h with e|e
    ·exact aE.mpr (.inl e)
    ·exact bo _ (i2 g e)
theorem Hk(f:Str)(v:V):∀fs:List (Str×V),(A1 f v fs).length<=fs.length+1
 |[]=>by simp[A1]
 |(k,x)::r=>by
  have ih:=Hk f v r;rw[show A1 f v ((k,x)::r)=(if k=f then(k,v)::r else(k,x)::A1 f v r) from rfl];by_cases hk:k=f
  ·rw[aK hk,cN,cN];omega
  ·rw[aC hk,cN,cN];omega
theorem F0.some_of{v:V}{o:Option Value}(r:F0 (some v) o):∃u,o=some u/\RelV v u:=by
 cases o with
 |none=>exact(show False from r).elim
 |some u=>exact⟨u,rfl,r⟩
theorem Xa{v:V}{u:Value}(r:RelV v u):PySem.W.handedIn u=true:=by
 cases v with
 |bC=>cases (show u=Value.none from r);rfl
 |bl b=>cases (show u=Value.bool b from r);rfl
 |int i=>obtain⟨t,e⟩:=(show ∃t,u=Value.int i t from r);cases e;rfl
 |str x=>obtain⟨t,e⟩:=(show ∃t,u=Value.str x t from r);cases e;rfl
 |kK b=>obtain⟨t,e⟩:=(show ∃t,u=Value.bytes b t from r);cases e;rfl
 |qD b=>obtain⟨t,e⟩:=(show ∃t,u=Value.float b t from r);cases e;rfl
 |ref a=>cases (show u=Value.ref a from r);rfl
 |ty n=>cases (show u=Value.type n from r);rfl
section
variable{P:Program}{w:World}{H H':Hp}{h h':Heap}{a C dx:Addr}{fs qy:List (Str×V)}
theorem Bi(bK:fO P w H h)(e:H a=some (.ins C dx fs)):∃mA,si h a dx C mA/\(∀f,F0 (fs.lookup f) (mA f))/\PySem.Within mA (fs.map (·.1))/\fs.length<=1000/\H dx=some (.own a):=by
 obtain⟨d,z,ne,ob,mA,n,r,q⟩:=(show l6 P w H h a (.ins C dx fs) from bK a _ e)
 exact⟨mA,⟨ob,n,ne⟩,r,q,z,d⟩
end
structure jE(K:PySem.W.Frag)(C:Addr):Prop where
 pg:PySem.W.plainGet K C Str.empty=true
 hd:PySem.W.hasDictIn K C=true
 po:PySem.W.plainOver K C=true
 sa:PySem.W.findIn K (.ref C) "__setattr__"=some (some (.builtin "object.__setattr__"))
theorem jE.get{K:PySem.W.Frag}{C:Addr}(c:jE K C)(f:Str):PySem.W.plainGet K C f=true:=c.pg
def B1(K:PySem.W.Frag)(C:Addr)(f:Str):Prop:=PySem.W.findIn K (.ref C) f=some none
theorem B1.NO{K:PySem.W.Frag}{C:Addr}{f:Str}(n:B1 K C f):PySem.W.takerIn K C f=some none:=by
 unfold PySem.W.takerIn;rw[show PySem.W.findIn K (.ref C) f=some none from n]
 rfl
structure Meth(K:PySem.W.Frag)(C:Addr)(m:Str)(f:Addr):Prop where
 at_:PySem.W.findIn K (.ref C) m=some (some (.ref f))
 fn:PySem.W.isFn K (.ref f)=true
 kp:PySem.W.keepIn K (.ref f)=true
section
variable{X:Cx}{pins:List (Addr×Obj)}{Z:St}{H:Hp}{s:Shared}{a C dx:Addr}{fs:List (Str×V)}{f:Str}{v:V}{A:Around}{E:Value->Shared->Prop}
theorem Yi{b:Bool}{Q:Value->Shared->Prop}(I:Inv X pins Z H s)(e:H a=some (.ins C dx fs))(c:jE X.K C)(n:B1 X.K C f)(l:fs.lookup f=some v)(h:∀u s',Inv X pins Z H s'->RelV v u->Q u s'):wpAny (model X.prog X.w) A (getAttr (.ref a) f b) Q E s:=by
 obtain⟨mA,O,r,_,_,_⟩:=Bi I.bK e;obtain⟨u,hu,ru⟩:=F0.some_of (v:=v) (o:=mA f) (by rw[<- l];exact r f);exact get_map I.gs O (c.get f) c.hd n hu (Xa ru) (h u _ (I.tok _) ru)
theorem YA{y:V}{u:Value}{Q:Unit->Shared->Prop}(I:Inv X pins Z H s)(e:H a=some (.ins C dx fs))(c:jE X.K C)(n:B1 X.K C f)(hl:fs.length<1000)(ry:RelV y u)(h:∀s',Inv X pins Z (upd H a (.ins C dx (A1 f y fs))) s'->Q () s'):wpAny (model X.prog X.w) A (setAttr (.ref a) f u) Q E s:=by
 obtain⟨mA,O,r,wi,_,ho⟩:=Bi I.bK e;have hz:(fs.map (·.1)).length<=sizeLine:=by rw[ak,kh];omega
 refine Sq I.gs O c.sa c.po n.NO c.hd wi hz λh' O' sb=>h _ ?_;have hd:∃o,h'.get? dx=some o:=let ⟨o,_,_,e',_⟩:=O'.ns;⟨o,e'⟩
 refine I.write (x:=a) (e:=dx) (by rw[e];exact True.intro) (.inr ho) (λb q hb z=>(sb.2 b hb).trans z) hd ?_;refine⟨by rw[d6 O.ne];exact ho,?_,O.ne,O'.obj,_,O'.ns,λg=>?_,λg hg=>?_⟩
 ·have:=Hk f y fs;omega
 ·show F0 ((A1 f y fs).lookup g) (if g=f then some u else mA g);rw[Hl];by_cases q:g=f
  ·rw[aK q,aK q];exact ry
  ·rw[aC q,aC q];exact r g
 ·by_cases q:g=f
  ·rw[q];exact(BG f y fs).1
  ·refine(BG f y fs).2 g (wi g λz=>hg ?_);show(if g=f then some u else mA g)=none;rw[aC q];exact z
theorem Inv.made(I:Inv X pins Z H s):Inv X pins Z (upd (upd H s.heap.objs.size (.own (s.heap.objs.size+1))) (s.heap.objs.size+1) (.ins C s.heap.objs.size []))
  { s with heap:=(s.heap.push PySem.W.emptyDict).push (PySem.W.instObj C s.heap.objs.size) }:=by
 have e1:(s.heap.push PySem.W.emptyDict).get? s.heap.objs.size=some PySem.W.emptyDict:=aG s.heap rfl;have e2:((s.heap.push PySem.W.emptyDict).push (PySem.W.instObj C s.heap.objs.size)).get? (s.heap.objs.size+1)=some (PySem.W.instObj C s.heap.objs.size):=by
  have:=aG (s.heap.push PySem.W.emptyDict) (o:=PySem.W.instObj C s.heap.objs.size) rfl
  rwa [eA] at this
 have e3:(s.heap.push PySem.W.emptyDict).Ns s.heap.objs.size (λ_=>none):=⟨PySem.W.emptyDict,#[],_,e1,rfl,(λe he=>absurd he (by simp)),λ_=>rfl⟩
 have I1:=I.laid (a:=s.heap.objs.size) (o:=.own (s.heap.objs.size+1)) (h':=s.heap.push PySem.W.emptyDict) (t':=s.toks) (λb u q=>av _ q) (aw _) ⟨_,e1⟩;refine I1.laid (a:=s.heap.objs.size+1) (o:=.ins C s.heap.objs.size []) (t':=s.toks) (λb u q=>av _ q) (sV (eA _ _)) ?_;have ne:s.heap.objs.size≠s.heap.objs.size+1:=aN (fk _);refine⟨by rw[d6 ne,p8],cM _,ne,e2,λ_=>none,(Heap.Ns1.of_empty e3).at λo q=>av _ q,λ_=>True.intro,λy hy=>absurd rfl hy⟩
theorem QV{prog:Program}{w:World}{env:Env}{e:Expr}{f:Str}{pos:Pos}{s:Shared}{Q:Value->Shared->Prop}(hb:attributeBase e f env (eval e env)=eval e env)(h:wpAny (model prog w) A (eval e env) (λo bV=>wpAny (model prog w) A (getAttr o f true) Q E bV) E s):wpAny (model prog w) A (eval (.Attribute e f pos) env) Q E s :=
 Attribute_any_ h (by rw[arm_eval_Attribute,hb])
end
def Ur(K:PySem.W.Frag)(ta:TE)(f:Str):TE:=λZ H Q=>ta Z H λx H1=>∃a C dx fs v,x=.ref a/\H1 a=some (.ins C dx fs)/\jE K C/\B1 K C f/\fs.lookup f=some v/\Q v H1
def Ug(K:PySem.W.Frag)(ta tv:TE)(f:Str):TS:=λD Z H=>tv Z H λy H1=>ta Z H1 λx H2=>∃a C dx fs,x=.ref a/\H2 a=some (.ins C dx fs)/\jE K C/\B1 K C f/\fs.length<1000 /\
 D.nx Z (upd H2 a (.ins C dx (A1 f y fs)))
def Fo(X:Cx)(op:Operator)(rd:V->V->Hp->VK->Prop):Prop :=
 ∀(pins:List (Addr×Obj)) (s:Shared) (Z:St) (H:Hp) (x y:V) (u v:Value) (Q:VK),Inv X pins Z H s->RelV x u->RelV y v->rd x y H Q->wpAny (model X.prog X.w) X.A (inplaceOp op u v) (EP X pins Z Q) X.xe s
section
variable{X:Cx}{o e value:Expr}{f:Str}{pos pos' yG:Pos}{ta tv:TE}
theorem Pe(he:PE X e ta)(hb:attributeBase e f X.env (eval e X.env)=eval e X.env):PE X (.Attribute e f pos) (Ur X.K ta f):=by
 intro pins s Z H Q I h;refine QV hb (cF (he pins s Z H _ I h) λu s1 bq=>?_);obtain⟨x,H1,I1,rx,a,C,dx,fs,v,ex,ea,c,n,l,q⟩:=bq;subst ex;obtain rfl:u=Value.ref a:=rx;exact Yi I1 ea c n l λu' s2 I2 ru=>⟨v,H1,I2,ru,q⟩
theorem Pw(ha:PE X o ta)(hv:PE X value tv)(hs:swapsWith value (some (.Attribute o f pos')) pos.line X.env=pure false):PS X (.Assign [.Attribute o f pos'] value pos) (Ug X.K ta tv f):=by
 intro pins s Z H D I h;refine plainObj_wpAny_Assign_Attribute (cF (hv pins s Z H _ I h) λu s1 ⟨y,H1,I1,ry,q⟩=>cF (ha pins s1 Z H1 _ I1 q) λov s2 bq=>?_) hs;obtain⟨x,H2,I2,rx,a,C,dx,fs,ex,ea,c,n,l,q2⟩:=bq;subst ex;obtain rfl:ov=Value.ref a:=rx;exact YA I2 ea c n l ry λs3 I3=>⟨Z,_,I3,q2⟩
def TU:V->V->Hp->VK->Prop:=λx y H Q=>∃i j,x=.int i/\y=.int j/\Q (.int (i+j)) H
theorem Ol:Fo X .Add TU:=by
 rintro pins s Z H x y u v Q I rx ry ⟨i,j,rfl,rfl,q⟩;obtain⟨t,rfl⟩:=(show ∃t,u=Value.int i t from rx)
 obtain⟨t',rfl⟩:=(show ∃t',v=Value.int j t' from ry)
 exact PyProof.Rows.iadd_int ⟨.int (i+j),H,I.tok _,⟨_,rfl⟩,q⟩
end
section
variable{X:Cx}{pins:List (Addr×Obj)}{Z:St}{H:Hp}{s:Shared}{A:Around}{E:Value->Shared->Prop}{Q:Value->Shared->Prop}{c:Value}{b:Bool}
inductive gx(K:PySem.W.Frag)(H:Hp):V->Value->Prop where
 |bC:gx K H .bC (.type "NoneType")
 |bl (x:Bool):gx K H (.bl x) (.type "bool")
 |int (i:Int):gx K H (.int i) (.type "int")
 |str (x:Str):gx K H (.str x) (.type "str")
 |qD (x:UInt64):gx K H (.qD x) (.type "float")
 |lst {a:Addr} {xs:List V} (e:H a=some (.lst xs)):gx K H (.ref a) (.type "list")
 |jw {a:Addr} {o:Obj} {xs:List V} (e:H a=some (.jw o (.lst xs))):gx K H (.ref a) (.type "list")
 |tup {a:Addr} {xs:List V} (e:H a=some (.tup xs)):gx K H (.ref a) (.type "tuple")
 |dK {a:Addr} {kvs:List (Key×V)} (e:H a=some (.dK kvs)):gx K H (.ref a) (.type "dict")
 |dT {a:Addr} {kvs:List (List Key×V)} (e:H a=some (.dT kvs)):gx K H (.ref a) (.type "dict")
 |ins {a C dx:Addr} {fs:List (Str×V)} (e:H a=some (.ins C dx fs)) (cl:jE K C) (ha:PySem.W.findIn K (.ref C) "__class__"=some (some (.builtin "object.__class__")))
   (hn:PySem.W.specialIn K (.builtin "object.__class__") "__get__"=some (some (.builtin "getset_descriptor.__get__"))) (wJ:PySem.W.takesIn K (.builtin "object.__class__")=some true)
   (hm:PySem.W.mroIn K C (.type "object")=some true):gx K H (.ref a) (.ref C)
theorem Xd{x:V}{u t:Value}(I:Inv X pins Z H s)(rx:RelV x u)(ty:gx X.K H x t)(e:PySem.W.kitOne X.K t c=some b)(h:∀tk,Q (.bool b) { s with toks:=tk }) :
  wpAny (model X.prog X.w) A (call (.builtin "isinstance") [u,c]) Q E s:=by
 cases ty with
 |bC=>cases (show u=Value.none from rx);exact bR PySem.W.kitx_none I.gs True.intro e (λz=>nomatch z) h
 |bl y=>cases (show u=Value.bool y from rx);exact bR PySem.W.kitx_bool I.gs True.intro e (λz=>nomatch z) h
 |int i=>obtain⟨t,q⟩:=(show ∃t,u=Value.int i t from rx);cases q;exact bR PySem.W.kitx_int I.gs True.intro e (λz=>nomatch z) h
 |str y=>obtain⟨t,q⟩:=(show ∃t,u=Value.str y t from rx);cases q;exact bR PySem.W.kitx_str I.gs True.intro e (λz=>nomatch z) h
 |qD y=>obtain⟨t,q⟩:=(show ∃t,u=Value.float y t from rx);cases q;exact bR PySem.W.kitx_float I.gs True.intro e (λz=>nomatch z) h
 |@lst a xs ea =>
  cases (show u=Value.ref a from rx);obtain⟨_,_,n,_,h1⟩:=(show l6 X.prog X.w H s.heap a (.lst xs) from I.bK a _ ea)
  exact bR PySem.W.kitx_list I.gs ⟨_,h1,rfl⟩ e (λz=>nomatch z) h
 |@jw a ob xs ea =>
  cases (show u=Value.ref a from rx);obtain⟨_,_,_,n,_,h1⟩:=(show l6 X.prog X.w H s.heap a (.jw ob (.lst xs)) from I.bK a _ ea)
  exact bR PySem.W.kitx_list I.gs ⟨_,h1,rfl⟩ e (λz=>nomatch z) h
 |@tup a xs ea =>
  cases (show u=Value.ref a from rx);obtain⟨_,_,_,p⟩:=(show l6 X.prog X.w H s.heap a (.tup xs) from I.bK a _ ea)
  obtain⟨o,h1,h2,_⟩:=p;exact bR JK I.gs ⟨o,h1,h2⟩ e (λz=>nomatch z) h
 |@dK a kvs ea =>
  cases (show u=Value.ref a from rx);obtain⟨_,_,vs,_,p⟩:=(show l6 X.prog X.w H s.heap a (.dK kvs) from I.bK a _ ea)
  obtain⟨o,es,ep,h1,h2,_⟩:=p;exact bR PySem.W.kitx_dict I.gs ⟨o,h1,h2.1⟩ e (λz=>nomatch z) h
 |@dT a kvs ea =>
  cases (show u=Value.ref a from rx);obtain⟨_,_,xs,_,o,es,ep,h1,h2,_⟩:=(show l6 X.prog X.w H s.heap a (.dT kvs) from I.bK a _ ea)
  exact bR PySem.W.kitx_dict I.gs ⟨o,h1,h2.1⟩ e (λz=>nomatch z) h
 |@ins a C dx fs ea cl ha hn wJ hm =>
  cases (show u=Value.ref a from rx);obtain⟨mA,O,_⟩:=Bi I.bK ea;obtain⟨od,J,_⟩:=O.look;exact bR (PySem.W.kitx_own (cl.get _) cl.hd ha hn wJ hm) I.gs J e (λz=>nomatch z) h
end
structure u9(k:Nat)(A:Around):Prop where
 hd:A.handled=none
 dp:A.depth+3*k+5<recursionLimit
 un:A.units+16*k+200<cLine
theorem u9.mono{j k:Nat}{A:Around}(r:u9 k A)(h:j<=k):u9 j A:=⟨r.hd,by have:=r.dp;omega,by have:=r.un;omega⟩
theorem u9.deeper{k:Nat}{A:Around}(r:u9 (k+1) A)(env:Env):u9 k (A.deeper env) :=
 ⟨r.hd,by have:=r.dp;show A.depth+1+3*k+5<_;omega,by have:=r.un;show A.units+3+16*k+200<_;omega⟩
theorem Yo{A:Around}{C:Addr}{us:List Value}{kw:List (Str×Value)}:(A.under (.builtin "type.__call__" ⟨.ref C::us,kw⟩)).depth=A.depth+1:=by
 first|rfl|simp[Around.under,Code.weight,Code.isCreation,Code.isGuard,Code.isCaller,Code.frames,Code.isFrame,guardIds]
theorem Yp{A:Around}{C:Addr}{us:List Value}{kw:List (Str×Value)}:(A.under (.builtin "type.__call__" ⟨.ref C::us,kw⟩)).units=A.units+1:=by
 first|rfl|simp[Around.under,Code.cUnits,Code.frames,Code.isFrame]
theorem u9.make{k:Nat}{A:Around}(r:u9 (k+1) A)(C:Addr)(us:List Value)(kw:List (Str×Value)):u9 k (A.under (.builtin "type.__call__" ⟨.ref C::us,kw⟩)) :=
 ⟨r.hd,by have:=r.dp;rw[Yo];omega,by have:=r.un;rw[Yp];omega⟩
theorem u9.depth{k:Nat}{A:Around}(r:u9 k A):A.depth<recursionLimit:=by have:=r.dp;omega
def FF:TA:=λ_ H Q=>Q [] H
def NH(ta:TE)(tr:TA):TA:=λZ H Q=>ta Z H λx H1=>tr Z H1 λxs H2=>Q (x::xs) H2
section
variable{X:Cx}{e:Expr}{es:List Expr}{te:TE}{t:TA}{pos:Pos}
theorem W6:PA X [] FF:=λ_ _ _ _ H Q I h=>Calls.spliced_nil ⟨[],H,I,.nil,h⟩
theorem P6(ha:PE X e te)(hr:PA X es t)(hs:starEach (e::es) X.env=(false,eval e X.env)::starEach es X.env:=by rfl):PA X (e::es) (NH te t):=by
 intro pos pins s Z H Q I h;rw[hs];show wpAny _ _ (spliced ((false,eval e X.env)::backTo pos (starEach es X.env))) _ _ s;refine Calls.spliced_cons (cF (ha pins s Z H _ I h) λu s1 bq=>?_);obtain⟨x,H1,I1,r1,q1⟩:=bq;exact cF (hr pos pins s1 Z H1 _ I1 q1) λus s2 ⟨xs,H2,I2,r2,q2⟩=>⟨x::xs,H2,I2,.cons r1 r2,q2⟩
def UA(t:TA):TE:=λZ H Q=>t Z H λxs H1=>xs.length<=sizeLine/\∀p,H1 p=none->Q (.ref p) (upd H1 p (.tup xs))
def Uu(t:TA):TE:=λZ H Q=>t Z H λxs H1=>xs.length<=sizeLine/\∀p,H1 p=none->Q (.ref p) (upd H1 p (.lst xs))
theorem Pm{x1}(h:PA X es t):PE X (.Tuple es x1 pos) (UA t):=by
 intro pins s Z H Q I hq;refine wpAny_Tuple_spliced (cF (h pos pins s Z H _ I hq) λus s1 ⟨xs,H1,I1,r,z,q⟩=>⟨by rw[<- r.length];exact z,?_⟩);have hf:H1 s1.heap.objs.size=none:=I1.bK.fresh (aw _);refine⟨.ref s1.heap.objs.size,upd H1 s1.heap.objs.size (.tup xs),I1.laid (t':=s1.toks) (λb u e=>av _ e) (aw _) ?_,rfl,q _ hf⟩;exact⟨z,us,r,⟨_,aG _ rfl,rfl,⟨_,rfl⟩,rfl⟩⟩
theorem Ph(h:PA X es t):PE X (.List es pos) (Uu t):=by
 intro pins s Z H Q I hq;refine wpAny_List_spliced (cF (h pos pins s Z H _ I hq) λus s1 ⟨xs,H1,I1,r,z,q⟩=>⟨by rw[<- r.length];exact z,?_⟩);have hf:H1 s1.heap.objs.size=none:=I1.bK.fresh (aw _);refine⟨.ref s1.heap.objs.size,upd H1 s1.heap.objs.size (.lst xs),I1.laid (t':=s1.toks) (λb u e=>av _ e) (aw _) ?_,rfl,q _ hf⟩;exact⟨z,us,0,r,aG _ rfl⟩
end
noncomputable abbrev Sp:=List V->Hp->VK->XK->Prop
noncomputable abbrev nc:=List Env->Hp->Shared->XK->Value->Shared->Prop
structure qN(P:Program)(w:World)(K:PySem.W.Frag)(mg:Str->Option Value)(base:Heap)(A:Around)(outer:List Env)(s:Shared)(H:Hp):Prop where
 frames:A.frames=some outer
 mod:Mod K mg base
 bs:∀b o,base.get? b=some o->s.heap.get? b=some o/\H b=none
 mW:base.objs.size<=s.heap.objs.size
 J8:s.heap.FunFrames base outer
 ny:∀b∈fA outer,H b=none
 bK:fO P w H s.heap
 bare:AllBare s.gens
def CE(outer:List Env)(P:Program)(w:World)(H:Hp)(s:Shared)(Q:VK)(u:Value)(s':Shared):Prop :=
 ∃v H',s'.os=s.os/\AllBare s'.gens/\Un (fA outer) [] H H' s.heap s'.heap/\fO P w H' s'.heap/\RelV v u/\Q v H'
def CR(CX:nc)(outer:List Env)(P:Program)(w:World)(H:Hp)(s:Shared)(Q:VK)(E:XK)(r:Result)(s':Shared):Prop :=
 match r with
 |.ok (.ret u)=>CE outer P w H s Q u s'
 |.ok _=>False
 |.error e=>CX outer H s E e s'
structure hV(P:Program)(w:World)(K:PySem.W.Frag)(mg:Str->Option Value)(base:Heap)(CX:nc)(k:Nat)(f:Addr)(fd:FuncData)(ps:List Str)(sp:Sp):Prop where
 len:∀vs H Q E,sp vs H Q E->vs.length=ps.length
 run:∀(A:Around) (outer:List Env) (s:Shared) (H:Hp) (args:Args) (us:List Value) (vs:List V) (Q:VK) (E:XK),u9 k A->qN P w K mg base A outer s H->BindsTo s fd args (ps.zip us)->Vals vs us->sp vs H Q E ->
  codeAny (model P w) A (.call (.ref f) args) (CR CX outer P w H s Q E) s
theorem qN.make{P:Program}{w:World}{K:PySem.W.Frag}{mg:Str->Option Value}{base:Heap}{A:Around}{outer:List Env}{s:Shared}{H:Hp}(e:qN P w K mg base A outer s H)(C:Addr)(us:List Value)(kw:List (Str×Value)) :
  qN P w K mg base (A.under (.builtin "type.__call__" ⟨.ref C::us,kw⟩)) outer s H:=⟨by first|exact e.frames|(simpa[Around.under,Code.envs,Code.isFrame,pushEnvs] using e.frames),e.mod,e.bs,e.mW,e.J8,e.ny,e.bK,e.bare⟩
section
variable{X:Cx}{pins:List (Addr×Obj)}{Z:St}{H:Hp}{s s':Shared}
theorem Inv.Fs(I:Inv X pins Z H s):qN X.prog X.w X.K X.mg X.base X.A X.stack s H :=
 ⟨I.ok.frames,I.ok.mod,I.bs,aD I.ok.mW I.sz,I.stack,I.yc,I.bK,I.bare⟩
theorem Inv.after{Q:VK}{u:Value}(I:Inv X pins Z H s)(h:CE X.stack X.prog X.w H s Q u s'):EP X pins Z Q u s':=by
 obtain⟨v,H',os,bare,un,bK,r,q⟩:=h;obtain⟨hh,g,d,t,tN⟩:=s';obtain rfl:tN=s.os:=os;exact⟨v,H',I.call (h':=hh) (g':=g) (d':=d) (t':=t) (ch:=[]) un bK bare (λb z=>absurd z (by simp)),r,q⟩
end
def NG(sp:Sp)(jY:List V)(E:XK)(t:TA):TE:=λZ H Q=>t Z H λvs H1=>sp (vs++jY) H1 Q E
def Jx(C:Addr)(sp:Sp)(jY:List V)(E:XK)(t:TA):TE:=λZ H Q=>t Z H λvs H1=>∀x dx,H1 x=none->H1 dx=none->dx≠x ->
 sp (.ref x::(vs++jY)) (upd (upd H1 dx (.own x)) x (.ins C dx [])) (λv H2=>v=.bC/\Q (.ref x) H2) E
def Binds(K:PySem.W.Frag)(fd:FuncData)(ps:List Str)(ds:List Value):Prop :=
 ∀(s:Shared) (us:List Value),K.In s.heap->(us++ds).length=ps.length->BindsTo s fd ⟨us,[]⟩ (ps.zip (us++ds))
theorem Binds.all{K:PySem.W.Frag}{fd:FuncData}{ps:List Str}(h:∀us:List Value,us.length=ps.length->bindArgs fd ⟨us,[]⟩=pure (ps.zip us)):Binds K fd ps []:=λs us _ hl=>by
 rw[eG] at hl ⊢;exact .of_eq (h us hl)
def Passes(CX:nc)(X:Cx)(E:XK):Prop:=∀(pins:List (Addr×Obj)) (Z:St) (H:Hp) (s:Shared) (e:Value) (s':Shared),Inv X pins Z H s->CX X.stack H s E e s'->X.xe e s'
section
variable{X:Cx}{CX:nc}{k:Nat}{f C:Addr}{fd:FuncData}{ps:List Str}{sp:Sp}{jY:List V}{ds:List Value}{E:XK}{x m:Str}{p pos apos:Pos}{e o:Expr}{es:List Expr}{ta:TE}{t:TA}
theorem PQ{pins:List (Addr×Obj)}{Z:St}{H:Hp}{s:Shared}{Q:VK}{us:List Value}{vs:List V}(F:hV X.prog X.w X.K X.mg X.base CX k f fd ps sp)(hr:u9 k X.A)(hb:Binds X.K fd ps ds)(hd:Vals jY ds)(hx:Passes CX X E)(I:Inv X pins Z H s)(r:Vals vs us)(h:sp (vs++jY) H Q E):wpAny (model X.prog X.w) X.A (call (.ref f) us) (EP X pins Z Q) X.xe s:=by
 have r2:Vals (vs++jY) (us++ds):=r.append hd;have hl:(us++ds).length=ps.length:=by rw[<- r2.length];exact F.len _ _ _ _ h
 refine wpAny_call (gi (F.run X.A X.stack s H ⟨us,[]⟩ (us++ds) (vs++jY) Q E hr I.Fs (hb s us I.gs hl) r2 h) λr s' hq=>?_);cases r with
 |error e=>exact hx pins Z H s e s' I hq
 |ok fl =>
  cases fl with
  |ret u=>exact I.after hq
  |next=>exact False.elim hq
  |brk=>exact False.elim hq
  |cont=>exact False.elim hq
theorem RJ(F:hV X.prog X.w X.K X.mg X.base CX k f fd ps sp)(hr:u9 k X.A)(hg:Gl X x)(hm:X.mg x=some (.ref f))(hk:PySem.W.keepIn X.K (.ref f)=true)(hb:Binds X.K fd ps ds)(hd:Vals jY ds)(hx:Passes CX X E)(ha:PA X (e::es) t)(ig:(x==("__debug__":Str))=false:=by decide)(he:starEach (e::es) X.env=(false,eval e X.env)::starEach es X.env:=by rfl)(gA:(backTo pos (starEach es X.env)).any (·.1)=false:=by rfl) :
  PE X (.Call (.Name x p) (e::es) [] pos) (NG sp jY E t):=by
 intro pins s Z H Q I h;refine cP (P9 I hg hm ?_ ig);refine JL (h₀:=X.base) I.ok.mod.nk hk (cF (ha pos pins s Z H _ I h) λus s1 ⟨vs,H1,I1,r,q⟩=>⟨I1.gs,?_⟩) he gA;exact PQ F hr hb hd hx I1 r q
structure Mk(K:PySem.W.Frag)(C f:Addr):Prop where
 makes:PySem.W.makesIn K C=true
 init:PySem.W.findIn K (.ref C) "__init__"=some (some (.ref f))
 fn:PySem.W.isFn K (.ref f)=true
 kp:PySem.W.keepIn K (.ref C)=true
theorem FU{pins:List (Addr×Obj)}{Z:St}{H:Hp}{s:Shared}{Q:VK}{us:List Value}{vs:List V}(M:Mk X.K C f)(F:hV X.prog X.w X.K X.mg X.base CX k f fd ps sp)(hr:u9 (k+1) X.A)(hb:Binds X.K fd ps ds)(hd:Vals jY ds)(hx:Passes CX X E)(I:Inv X pins Z H s)(r:Vals vs us)(h:∀x dx,H x=none->H dx=none->dx≠x->sp (.ref x::(vs++jY)) (upd (upd H dx (.own x)) x (.ins C dx [])) (λv H2=>v=.bC/\Q (.ref x) H2) E) :
  wpAny (model X.prog X.w) X.A (call (.ref C) us) (EP X pins Z Q) X.xe s:=by
 have hq:=h (s.heap.objs.size+1) s.heap.objs.size (I.bK.fresh (gg _)) (I.bK.fresh (aw _)) (aN (fk _));have I2:=Inv.made (C:=C) I;have r2:Vals (V.ref (s.heap.objs.size+1)::(vs++jY)) (Value.ref (s.heap.objs.size+1)::(us++ds)):=.cons rfl (r.append hd);have hl:(Value.ref (s.heap.objs.size+1)::us++ds).length=ps.length:=by
  have e:=r2.length;rw[F.len _ _ _ _ hq] at e;exact e.symm
 refine wpAny_call (ZR (f:=f) I.gs M.makes M.init (fj.mp M.fn) (gi (F.run _ X.stack _ _ ⟨Value.ref (s.heap.objs.size + 1) :: us,[]⟩ (Value.ref (s.heap.objs.size + 1) :: (us ++ ds)) _ _ E (hr.make C us [])
  (I2.Fs.make C us []) (hb _ (Value.ref (s.heap.objs.size + 1) :: us) I2.gs hl) r2 hq) λr s' lh=>?_))
 cases r with
 |error e=>exact hx pins Z _ _ e s' I2 lh
 |ok fl =>
  cases fl with
  |ret u =>
   obtain⟨v,H',I3,rv,ev,q3⟩:=I2.after lh;subst ev;exact⟨rv,⟨V.ref (s.heap.objs.size+1),H',I3,rfl,q3⟩⟩
  |next=>exact False.elim lh
  |brk=>exact False.elim lh
  |cont=>exact False.elim lh
theorem RN(M:Mk X.K C f)(F:hV X.prog X.w X.K X.mg X.base CX k f fd ps sp)(hr:u9 (k+1) X.A)(hg:Gl X x)(hm:X.mg x=some (.ref C))(hb:Binds X.K fd ps ds)(hd:Vals jY ds)(hx:Passes CX X E)(ha:PA X (e::es) t)(ig:(x==("__debug__":Str))=false:=by decide)(he:starEach (e::es) X.env=(false,eval e X.env)::starEach es X.env:=by rfl)(gA:(backTo pos (starEach es X.env)).any (·.1)=false:=by rfl) :
  PE X (.Call (.Name x p) (e::es) [] pos) (Jx C sp jY E t):=by
 intro pins s Z H Q I h;refine cP (P9 I hg hm ?_ ig);refine JL (h₀:=X.base) I.ok.mod.nk M.kp (cF (ha pos pins s Z H _ I h) λus s1 ⟨vs,H1,I1,r,q⟩=>⟨I1.gs,?_⟩) he gA;exact FU M F hr hb hd hx I1 r q
theorem a33(M:Mk X.K C f)(F:hV X.prog X.w X.K X.mg X.base CX k f fd ps sp)(hr:u9 (k+1) X.A)(hg:Gl X x)(hm:X.mg x=some (.ref C))(hb:Binds X.K fd ps ds)(hd:Vals jY ds)(hx:Passes CX X E)(ig:(x==("__debug__":Str))=false:=by decide):PE X (.Call (.Name x p) [] [] pos) (Jx C sp jY E FF):=by
 intro pins s Z H Q I h;refine cP (P9 I hg hm ?_ ig);exact PySem.W.callWith_K0 I.gs M.kp (FU (us:=[]) M F hr hb hd hx I .nil h)
end
section
variable{X:Cx}{CX:nc}{k:Nat}{f C:Addr}{fd:FuncData}{ps ks:List Str}{sp:Sp}{E:XK}{x m:Str}{p pos apos KN:Pos}{e o:Expr}{es:List Expr}{iX:List Keyword}{te ta:TE}{t tk:TA}{nm:Option Str}
variable{g:List Value->List Value->List Value}{gV:List V->List V->List V}
end
structure ij(N P:List Str)(sc:Scope):Prop where
 kind:sc.kind=.function
 co:sc.isCoroutine=false
 gen:sc.isGenerator=false
 nd:N.Nodup
 pre:N.take P.length=P
 par:∀x∈P,sc.names.lookup x=some .local\/sc.names.lookup x=some .cell
 ml:∀y∈sc.names,y.2≠.free
theorem Gm{kindOf:Str->Option NameKind}{x:Str}:∀{binds:List (Str×Value)} {m:Str->Option Value},(∀v,(x,v)∉binds)->bindL kindOf binds m x=m x
 |[],_,_=>rfl
 |(n,v)::r,m,h=>by
  unfold bindL;rw[Gm λw hw=>h w (bo _ hw)];split
  ·have:x≠n:=by rintro rfl;exact h v fR
   simp[this]
  ·rfl
theorem Gj{kindOf:Str->Option NameKind}{x:Str}:∀{binds:List (Str×Value)} {m:Str->Option Value},(∀v,(x,v)∉binds)->bindC kindOf binds m x=m x
 |[],_,_=>rfl
 |(n,v)::r,m,h=>by
  unfold bindC;rw[Gj λw hw=>h w (bo _ hw)];split
  ·rfl
  ·have:x≠n:=by rintro rfl;exact h v fR
   simp[this]
theorem Gk{kindOf:Str->Option NameKind}{x:Str}{v:Value}:∀{P:List Str} {vs:List Value} {i:Nat} {m:Str->Option Value},P.Nodup->P[i]?=some x->vs[i]?=some v->kindOf x=some .local ->
  bindL kindOf (P.zip vs) m x=some v
 |[],_,_,_,_,h,_,_=>by simp at h
 |_::_,[],_,_,_,_,h,_=>by simp at h
 |p::P,w::vs,0,m,nd,h1,h2,hk=>by
  simp at h1 h2;subst h1;subst h2;show bindL kindOf ((p,w)::P.zip vs) m p=_;unfold bindL;rw[Gm λv hv=>(dA.mp nd).1 (lU hv).1,aK hk];simp
 |p::P,w::vs,i+1,m,nd,h1,h2,hk=>by
  show bindL kindOf ((p,w)::P.zip vs) m x=_;unfold bindL;exact Gk (i:=i) (dA.mp nd).2 (by simpa using h1) (by simpa using h2) hk
theorem Gi{kindOf:Str->Option NameKind}{x:Str}{v:Value}:∀{P:List Str} {vs:List Value} {i:Nat} {m:Str->Option Value},P.Nodup->P[i]?=some x->vs[i]?=some v->kindOf x≠some .local ->
  bindC kindOf (P.zip vs) m x=some v
 |[],_,_,_,_,h,_,_=>by simp at h
 |_::_,[],_,_,_,_,h,_=>by simp at h
 |p::P,w::vs,0,m,nd,h1,h2,hk=>by
  simp at h1 h2;subst h1;subst h2;show bindC kindOf ((p,w)::P.zip vs) m p=_;unfold bindC;rw[Gj λv hv=>(dA.mp nd).1 (lU hv).1,aC hk];simp
 |p::P,w::vs,i+1,m,nd,h1,h2,hk=>by
  show bindC kindOf ((p,w)::P.zip vs) m x=_;unfold bindC;exact Gi (i:=i) (dA.mp nd).2 (by simpa using h1) (by simpa using h2) hk
def start(N:List Str)(vs:List V):St:=vs.map some++List.replicate (N.length-vs.length) none
def nZ(CX:nc)(P:Program)(w:World)(K:PySem.W.Frag)(mg:Str->Option Value)(base:Heap)(N:List Str)(qual:Str)(scope:Scope)(f:Addr)(cd:Value)(A:Around)(outer:List Env)(s:Shared)(H:Hp)(E:XK):Cx where
 prog:=P
 w:=w
 K:=K
 mg:=mg
 base:=base
 A:=A.deeper (envOfC qual scope s.heap.objs.size f cd)
 N:=N
 cW:=s
 iZ:=H
 env:=envOfC qual scope s.heap.objs.size f cd
 outer:=outer
 stack:=envOfC qual scope s.heap.objs.size f cd::outer
 ex:=[]
 calm:=true
 fn:=λ_=>true
 pn:=[]
 xe:=λe s'=>wpAny (model P w) (A.deeper (envOfC qual scope s.heap.objs.size f cd)) (leaving (envOfC qual scope s.heap.objs.size f cd) e) (λ_ nG=>CX outer H s E e nG) (λe' nG=>CX outer H s E e' nG) s'
theorem Bq{sc:Scope}{n:Nat}{x:Str}(h:sc.names.lookup x=some .cell):∃c,(cellsFrom n sc.names []).lookup x=some c:=by
 have q:=dj sc.names n [] (.inl h);exact et.mp q
theorem Xc{CX:nc}{P:Program}{w:World}{K:PySem.W.Frag}{mg:Str->Option Value}{base:Heap}{N ps:List Str}{qual:Str}{scope:Scope}{f:Addr}{cd:Value}{A:Around}{outer:List Env}{s s1:Shared}{H:Hp}{E:XK}{us:List Value}{vs:List V}(S:ij N ps scope)(hd:A.handled=none)(e0:qN P w K mg base A outer s H)(hl:vs.length=ps.length)(r:Vals vs us)(x:InCallC s s.heap.objs.size (bindL (envOfC qual scope s.heap.objs.size f cd).kindOf (ps.zip us) λ_=>none) (cellsFrom (s.heap.objs.size+1) scope.names []) (bindC (envOfC qual scope s.heap.objs.size f cd).kindOf (ps.zip us) λ_=>none) s1) :
  Inv (nZ CX P w K mg base N qual scope f cd A outer s H E) [] (start N vs) H s1:=by
 have gA:ps.length<=N.length:=by have:=fP List.length S.pre;rw[cj] at this;omega
 obtain⟨h1,tk,rfl,hk⟩:=x.done;have tU:∀b:Addr,b∉(nZ CX P w K mg base N qual scope f cd A outer s H E).ex:=λb z=>absurd (show b∈([]:List Addr) from z) (by simp);refine ⟨⟨e0.mod,S.kind,rfl,rfl,aw _,λy z c h1 h2=>?_,λy hy=>?_,λy c _ h=>?_,λ_=>hd,Around.frames_deeper e0.frames,.inr ⟨rfl,rfl⟩,λb z=>absurd z (tU b),e0.bs,e0.mW,λb _ _=>tU b,λb z=>absurd z (tU b),e0.J8,e0.ny⟩,
  rfl,e0.bare,Un.kept hk,⟨_,x.toInCall.ns,λi y v h1 h2 h3=>?_⟩,λy c h=>⟨_,x.cell y c h⟩,e0.bK.fresh (aw _),λy c h=>?_,λp hp=>absurd (show p ∈ ([]:List (Addr × Obj)) from hp) (by simp),e0.bK.kept hk,?_⟩
 ·exact name_of_addr x.apart (aP h1) (aP h2)
 ·have hy:scope.names.lookup y=some .cell\/scope.names.lookup y=some .free:=hy;rcases hy with hy|hy
  ·exact Bq hy
  ·exact absurd rfl (S.ml _ (aP hy))
 ·exact dP (x.above y c (aP h))
 ·have hi:i<vs.length:=by
   unfold start at h2;by_cases hi:i<vs.length
   ·exact hi
   ·rw[cv (by simpa using hi)] at h2;rw[cY] at h2;split at h2<;>cases h2
  have ha:vs[i]?=some v:=by
   unfold start at h2;rw[aF (by simpa using hi),ag] at h2;cases e:vs[i]? with
   |none=>rw[e] at h2;cases h2
   |some a=>rw[e] at h2;cases h2;rfl
  obtain⟨u,hu,rv⟩:=r.get ha;have hp:ps[i]?=some y:=by
   rw[<- S.pre,gn (by omega)];exact h1
  have DS:ps.Nodup:=by rw[<- S.pre];exact S.nd.sublist (List.take_sublist _ _)
  refine⟨u,rv,?_⟩;rcases S.par y (aI hp) with k|k
  ·exact .inl ⟨k,Gk DS hp hu k⟩
  ·obtain⟨c,e⟩:=Bq (n:=s.heap.objs.size+1) k;refine .inr ⟨.inl k,c,e,?_⟩;have q:=x.cell y c e;rw[Gi DS hp hu (by show scope.names.lookup y≠_;rw[k];decide)] at q;exact q
 ·exact e0.bK.fresh (dP (x.above y c (aP h)))
 ·unfold start;show _=N.length;rw[aZ,ak,iu];omega
theorem Vc{CX:nc}{P:Program}{w:World}{K:PySem.W.Frag}{mg:Str->Option Value}{base:Heap}{k:Nat}{f:Addr}{name qual:Str}{params:Arguments}{body:List Stmt}{scope:Scope}{dV kV doc pm fu ct oc:Value}{an od:Option Addr}{lL:Array (Option Value)}{N ps:List Str}{sp:Sp}(lk:K.lookup f=some ⟨oc,od,.func (PySem.W.fnOf name qual params body scope dV kV doc pm an fu ct),lL⟩)(lq:PySem.W.codeIn K fu qual=true)(S:ij N ps scope)(len:∀vs H Q E,sp vs H Q E->vs.length=ps.length)(uK:∀ (A:Around) (outer:List Env) (s:Shared) (H:Hp) (vs:List V) (Q:VK) (E:XK),u9 k (A.deeper (envOfC qual scope s.heap.objs.size f fu))->sp vs H Q E ->
   ∃ t,iN (nZ CX P w K mg base N qual scope f fu A outer s H E) body t/\t { nx:=λ_ H'=>Q .bC H',rt:=Q } (start N vs) H) :
  hV P w K mg base CX (k+1) f (PySem.W.fnOf name qual params body scope dV kV doc pm an fu ct) ps sp:=by
 refine⟨len,λA outer s H args us vs Q E hr e0 hb r rF=>?_⟩;have hl:=len _ _ _ _ rF;have KX:K.In s.heap:=e0.mod.nk.keeps λb o e=>(e0.bs b o e).1;have lim:s.heap.NoLimit:=e0.mod.nolimit.keeps λb o e=>(e0.bs b o e).1;have uB:∀y∈ps.zip us,scope.names.lookup y.1=some .local\/(scope.names.lookup y.1=some .cell/\((cellsFrom (s.heap.objs.size+1) scope.names []).lookup y.1).isSome=true):=λ⟨n,v⟩ hy=>by
  rcases S.par n (lU hy).1 with q|q
  ·exact .inl q
  ·exact .inr ⟨q,dj _ _ _ (.inl q)⟩
 refine codeAny_call_function hr.depth (KX _ _ lk) rfl S.co S.gen rfl (PySem.W.codeRec_of KX lq) (hb _ _ _ _ ?_);refine wpAny_newFunctionEnv_cells S.kind uB λenv he s1 x=>?_;subst he;refine⟨lim.keeps x.toInCall.keep,codeAny_func ?_⟩;obtain⟨t,ht,hq⟩:=uK A outer s H vs Q E (hr.deeper _) rF;have I:Inv (nZ CX P w K mg base N qual scope f fu A outer s H E) [] (start N vs) H s1:=Xc S hr.hd e0 hl r x;refine bx (ht [] s1 (start N vs) H _ I hq) (λfl s' hs=>?_) λe s' hs=>hs;have fin:∀{bN:St} {H':Hp} {v:V} {u:Value},Inv (nZ CX P w K mg base N qual scope f fu A outer s H E) [] bN H' s'->RelV v u->Q v H'->CE outer P w H s Q u s' :=
  λ{bN H' v u} J rv q=>⟨v,H',J.os,J.bare,J.base,J.bK,rv,q⟩
 cases fl with
 |ret u =>
  obtain⟨v,bN,H',J,rv,q⟩:=hs;exact fin J rv q
 |next =>
  obtain⟨bN,H',J,q⟩:=hs;exact fin (v:=V.bC) (u:=Value.none) J rfl q
 |brk =>
  obtain⟨_,_,_,q⟩:=hs;exact False.elim q
 |cont =>
  obtain⟨_,_,_,q⟩:=hs;exact False.elim q
section
variable{X:Cx}{x:Str}{p pos:Pos}{e:Expr}{es:List Expr}{t:TA}{id T:String}{r:List V->Hp->VK->Prop}
def yJ(r:List V->Hp->VK->Prop)(t:TA):TE:=λZ H Q=>t Z H λvs H1=>r vs H1 Q
theorem Y6(hc:l9 X (.builtin id) r)(hg:Gl X x)(hm:X.mg x=none)(hv:bootBuiltins x=some (.builtin id))(ha:PA X (e::es) t)(hn:x≠"__name__":=by decide)(ig:(x==("__debug__":Str))=false:=by decide)(he:starEach (e::es) X.env=(false,eval e X.env)::starEach es X.env:=by rfl)(gA:(backTo pos (starEach es X.env)).any (·.1)=false:=by rfl):PE X (.Call (.Name x p) (e::es) [] pos) (yJ r t):=by
 intro pins s Z H Q I h;refine cP (L0 I hg hm hv ?_ hn ig);exact PyProof.Rows.callWith_builtin1 (cF (ha pos pins s Z H _ I h) λus s1 ⟨vs,H1,I1,r1,q1⟩=>hc pins s1 Z H1 vs us Q I1 r1 q1) he gA
theorem M9(hc:l9 X (.type T) r)(hg:Gl X x)(hm:X.mg x=none)(hv:bootBuiltins x=some (.type T))(ha:PA X (e::es) t)(hn:x≠"__name__":=by decide)(ig:(x==("__debug__":Str))=false:=by decide)(he:starEach (e::es) X.env=(false,eval e X.env)::starEach es X.env:=by rfl)(gA:(backTo pos (starEach es X.env)).any (·.1)=false:=by rfl):PE X (.Call (.Name x p) (e::es) [] pos) (yJ r t):=by
 intro pins s Z H Q I h;refine cP (L0 I hg hm hv ?_ hn ig);exact bJ (cF (ha pos pins s Z H _ I h) λus s1 ⟨vs,H1,I1,r1,q1⟩=>hc pins s1 Z H1 vs us Q I1 r1 q1) he gA
end
end L2

namespace HT
open PySem PyProof.Rows
section
open PySem.SeqAt
open PySem.AutoSeq1 (wpAny_loadPart')
open PySem.MeetsSeq PySem.MeetsSeq2 PySem.MeetsSeq3
end
section
variable{prog:Program}{w:World}{A:Around}{E:Value->Shared->Prop}{s:Shared}
theorem QW{t b:Addr}{vs ws:List Value}{Q:Value->Shared->Prop}(ht:IsTup s.heap t vs.toArray)(hb:IsTup s.heap b ws.toArray)(hv:vs≠[])(h1:ws=[]->Q (.ref t) s)(h2:ws≠[]->Q (.ref s.heap.objs.size) { s with heap:=s.heap.push { cls:=.type "tuple",data:=.seq (vs++ws).toArray } })(hsz:vs.length+ws.length<=sizeLine):wpAny (model prog w) A (binaryOp .Add (.ref t) (.ref b)) Q E s:=by
 obtain⟨⟨cls,dd,data,sl⟩,ho,hc,n,hd⟩:=id ht;obtain⟨⟨vn,oZ,data2,kE⟩,ky,mL,n2,hd2⟩:=id hb;simp only at hc hd mL hd2;subst hc hd mL hd2;have e:vs.toArray++ws.toArray=(vs++ws).toArray:=by simp
 by_cases hw:ws=[]
 ·exact concat_meets ⟨_,ho,rfl⟩ ⟨_,ky,rfl⟩ iQ lC gS gD (gk _ _)
   (tuple_addW1 t b vs.toArray ws.toArray n n2 dd oZ sl kE (by simpa using hv) (by simp[hw])) ⟨ho,ky,h1 hw⟩
 ·refine concat_meets ⟨_,ho,rfl⟩ ⟨_,ky,rfl⟩ iQ lC gS gD (gk _ _)
   (tuple_addW2 t b vs.toArray ws.toArray n n2 dd oZ sl kE (by simpa using hv) (by simpa using hw) (by rw[aH,aH];exact hsz)) ⟨ho,ky,?_⟩
  rw[e];exact h2 hw
def dg(n d:Nat):Option Int->Nat
 |none=>d
 |some v=>if v<0 then(v+(n:Int)).toNat else min v.toNat n
theorem PU(n d:Nat)(hd:d<=n)(o:Option Int):dg n d o<=n:=by
 cases o with
 |none=>exact hd
 |some v =>
  show(if v<0 then(v+(n:Int)).toNat else min v.toNat n)<=n;by_cases hv:v<0
  ·rw[aK hv];omega
  ·rw[aC hv];exact Nat.min_le_right _ _
theorem Ih(v:Int)(n d:Nat):(if v<0 then max (v+(n:Int)) 0 else min v (n:Int))=((dg n d (some v):Nat):Int):=by
 show(if v<0 then max (v+(n:Int)) 0 else min v (n:Int))=(((if v<0 then(v+(n:Int)).toNat else min v.toNat n):Nat):Int);by_cases hv:v<0
 ·simp only[if_pos hv];omega
 ·simp only[if_neg hv];omega
theorem XX(lo hi:Option Int)(n:Nat):Builtin.Slice.sliceAdjust lo hi 1 (n:Int)=(((dg n 0 lo:Nat):Int),((dg n n hi:Nat):Int)):=by
 have h1:¬((1:Int)<0):=by omega
 unfold Builtin.Slice.sliceAdjust;simp only[h1,if_false];refine Prod.ext ?_ ?_
 ·cases lo with
  |none=>rfl
  |some v=>exact Ih v n 0
 ·cases hi with
  |none=>rfl
  |some v=>exact Ih v n n
theorem Yx(i j:Nat):Builtin.Slice.slicePlaces (i:Int) (j:Int) 1=j-i:=by
 unfold Builtin.Slice.slicePlaces;have h1:(1:Int)>0:=by omega
 simp only[h1,if_true,Int.ediv_one];split<;>omega
theorem Hd{v:Value}{o:Option Int}{Q:Option Int->Shared->Prop}(p:IsPart v o)(h:Q o s):wpAny (model prog w) A (Builtin.Slice.slicePartIndex v) Q E s:=by
 cases p with
 |none=>exact slicePart_none h
 |int i t=>exact slicePart_int h
theorem Q8{sl:Addr}{vl vu:Value}{lo hi:Option Int}{n:Nat}{Q:Int×Int×Nat->Shared->Prop}(hs:s.heap.IsSliceOf sl vl vu .none)(pl:IsPart vl lo)(pu:IsPart vu hi)(h:Q (((dg n 0 lo:Nat):Int),1,dg n n hi-dg n 0 lo) s):wpAny (model prog w) A (Builtin.Slice.sliceApplied (.ref sl) (pure (n:Int))) Q E s:=by
 obtain⟨os,qc,wO,uH⟩:=id hs;unfold Builtin.Slice.sliceApplied Builtin.Slice.sliceFields;refine ae (ae (kf qc uH (x:=vl) rfl (ae (kf qc uH (x:=vu) rfl (ae (kf qc uH (x:=.none) rfl (au ?_)))))));refine ae (slicePart_none ?_);show wpAny _ _ (if((1:Int)==0)=true then _ else _) _ _ s;rw[aC (by decide)];refine ae (Hd pl (ae (Hd pu (ae (au ?_)))));show wpAny _ _ (match Builtin.Slice.sliceAdjust lo hi 1 (n:Int) with|(lo,hi)=>pure (lo,(1:Int),Builtin.Slice.slicePlaces lo hi 1)) _ _ s;rw[XX lo hi n];show wpAny _ _ (pure (((dg n 0 lo:Nat):Int),(1:Int),Builtin.Slice.slicePlaces ((dg n 0 lo:Nat):Int) ((dg n n hi:Nat):Int) 1)) _ _ s;rw[Yx];exact au h
theorem a30(xs:Array Value)(i k:Nat):((List.range k).filterMap λ(m:Nat)=>xs[((i:Int)+(m:Int)*1).toNat]?).toArray=((xs.toList.drop i).take k).toArray:=by
 have e:(λ(m:Nat)=>xs[((i:Int)+(m:Int)*1).toNat]?)=λm=>xs[i+m]?:=by
  funext m
  have:((i:Int)+(m:Int)*1).toNat=i+m:=by omega
  rw[this]
 rw[e];have:=pick_run xs i k;rw[List.filterMap_map] at this;have e2:((λx=>xs[x]?) ∘ λx=>i+x)=λm=>xs[i+m]?:=rfl;rw[e2] at this;rw[this]
theorem Wz{t sl:Addr}{items:Array Value}{vl vu:Value}{lo hi:Option Int}{Q:Value->Shared->Prop}(ht:IsTup s.heap t items)(hs:s.heap.IsSliceOf sl vl vu .none)(pl:IsPart vl lo)(pu:IsPart vu hi)(hw:¬(dg items.size 0 lo=0/\dg items.size items.size hi=items.size))(h:Q (.ref s.heap.objs.size) { s with heap:=s.heap.push { cls:=.type "tuple",data:=.seq ((items.toList.drop (dg items.size 0 lo)).take (dg items.size items.size hi-dg items.size 0 lo)).toArray } })(hsz:items.size<=sizeLine):wpAny (model prog w) A (getItem (.ref t) (.ref sl)) Q E s:=by
 have kG:sizeOk (.seq ((items.toList.drop (dg items.size 0 lo)).take (dg items.size items.size hi-dg items.size 0 lo)).toArray):=by
  show((items.toList.drop (dg items.size 0 lo)).take (dg items.size items.size hi-dg items.size 0 lo)).toArray.size<=sizeLine;rw[aH,cj,gG,bB];omega
 have hj:dg items.size items.size hi<=items.size:=PU _ _ (aw _) hi;obtain⟨os,qc,wO,uH⟩:=id hs;have zT:s.TypeIs (.ref sl) "slice":=⟨os,qc,wO⟩
 unfold getItem
 try with_reducible refine cz ?_
 first|refine ae (au ?_)|skip
 refine ae (wpAny_sequenceKey ht.typeIs (by decide) ?_);refine ae (fc (name:=Str.ofString "__getitem__") ht.typeIs bL
  (cH bL ht.typeIs entry_tuple_getitem ?_ (args_tuple_getitem _ _)))
 show wpAny _ _ (Builtin.Tuple.tupleItemsOf (.ref t) >>= _) _ _ s;refine ae (tupleItemsOf_ ht ?_);refine ae (eJ zT ?_);rw[aK (by decide)];refine ae (Q8 hs pl pu ?_);have jC:¬((((dg items.size 0 lo:Nat):Int)==0&&(1:Int)==1&&(dg items.size items.size hi-dg items.size 0 lo)==items.size)=true):=by
  intro q;rw[aS,aS] at q;have q1:((dg items.size 0 lo:Nat):Int)=0:=eq_of_beq q.1.1;have q2:dg items.size items.size hi-dg items.size 0 lo=items.size:=eq_of_beq q.2;exact hw ⟨by omega,by omega⟩
 show wpAny _ _ (if(((dg items.size 0 lo:Nat):Int)==0&&(1:Int)==1&&(dg items.size items.size hi-dg items.size 0 lo)==items.size)=true then _ else _) _ _ s;rw[aC jC,a30]
 first
  |exact wpAny_bind (m:=Builtin.Tuple.tupleExact _) (wpAny_newObj_type (wpAny_pure ⟨_,rfl,wpAny_pure h⟩) kG)
  |exact wpAny_bind (m:=Builtin.Tuple.tupleExact _) (wpAny_newObj_type (wpAny_bind (wpAny_pure (wpAny_pure ⟨_,rfl,wpAny_pure h⟩))) kG)
  |exact wpAny_bind (wpAny_bind (m:=Builtin.Tuple.tupleExact _) (wpAny_newObj_type (wpAny_pure (wpAny_pure ⟨_,rfl,wpAny_pure h⟩)) kG))
  |exact wpAny_bind (wpAny_bind (m:=Builtin.Tuple.tupleExact _) (wpAny_newObj_type (wpAny_pure ⟨_,rfl,wpAny_pure h⟩) kG))
end
end HT
namespace L2
open PySem PySem.Spec PyProof.Rows
noncomputable abbrev TO:=St->Hp->(Option Int->Hp->Prop)->Prop
def PO(X:Cx)(e:Option Expr)(t:TO):Prop :=
 ∀(pins:List (Addr×Obj)) (s:Shared) (Z:St) (H:Hp) (Q:Option Int->Hp->Prop),Inv X pins Z H s->t Z H Q ->
  wpAny (model X.prog X.w) X.A (evalPart e X.env) (λu s'=>∃o H',Inv X pins Z H' s'/\IsPart u o/\Q o H') X.xe s
def SF:TO:=λ_ H Q=>Q none H
def NL(t:TE):TO:=λZ H Q=>t Z H λx H1=>∃i,x=.int i/\Q (some i) H1
section
variable{X:Cx}{e:Expr}{te:TE}{lo hi:Option Expr}{tl th:TO}{pos p2:Pos}
theorem yb:PO X none SF:=by
 intro pins s Z H Q I h;rw[evalPart_none];exact au ⟨none,H,I,.none,h⟩
theorem IB(h:PE X e te):PO X (some e) (NL te):=by
 intro pins s Z H Q I hw;rw[evalPart_some];refine cF (h pins s Z H _ I hw) λu s1 bq=>?_;obtain⟨x,H1,I1,r1,q1⟩:=bq;obtain⟨i,rfl,q⟩:=q1;obtain⟨t,rfl⟩:=r1;exact⟨some i,H1,I1,.int i t,q⟩
def vV(X:Cx)(r:V->Option Int->Option Int->Hp->VK->Prop):Prop :=
 ∀(pins:List (Addr×Obj)) (s:Shared) (Z:St) (H:Hp) (x:V) (v vl vu:Value) (lo hi:Option Int) (sl:Addr) (Q:VK),Inv X pins Z H s->RelV x v->s.heap.IsSliceOf sl vl vu .none->IsPart vl lo->IsPart vu hi->r x lo hi H Q ->
  ∃T id,typeLookup (.type T) "__getitem__"=pure (some (.builtin id))/\s.TypeIs v T/\wpAny (model X.prog X.w) X.A (getItem v (.ref sl)) (EP X pins Z Q) X.xe s
def Kd(r:V->Option Int->Option Int->Hp->VK->Prop)(te:TE)(tl th:TO):TE:=λZ H Q=>te Z H λx H1=>tl Z H1 λl H2=>th Z H2 λu H3=>r x l u H3 Q
theorem Bv{r:V->Option Int->Option Int->Hp->VK->Prop}(hr:vV X r)(he:PE X e te)(hl:PO X lo tl)(hu:PO X hi th):PE X (.Subscript e (.Slice lo hi none p2) pos) (Kd r te tl th):=by
 intro pins s Z H Q I h;refine Subscript_ (cF (he pins s Z H _ I h) λv s1 bq=>?_);obtain⟨x,H1,I1,r1,q1⟩:=bq;refine wpAny_Slice (cF (hl pins s1 Z H1 _ I1 q1) λvl s2 ⟨l,H2,I2,pl,q2⟩=>cF (hu pins s2 Z H2 _ I2 q2) λvu s3 bq=>?_);obtain⟨u,H3,I3,pu,q3⟩:=bq;rw[evalPart_none];refine au ?_;have I4:Inv X pins Z H3 { s3 with heap:=s3.heap.push { cls:=.type "slice",data:=.fields #[vl,vu,.none] } }:=I3.kept (t':=s3.toks) λb ob q=>av _ q;obtain⟨T,id,hT,ht,hg⟩:=hr pins { s3 with heap:=s3.heap.push { cls:=.type "slice",data:=.fields #[vl,vu,.none] } } Z H3 x v vl vu l u s3.heap.objs.size Q I4 r1 (Heap.IsSliceOf.new ..) pl pu q3;show wpAny (model X.prog X.w) X.A (subscriptTail e (.Slice lo hi none p2) v (.ref s3.heap.objs.size)) (EP X pins Z Q) X.xe { s3 with heap:=s3.heap.push { cls:=.type "slice",data:=.fields #[vl,vu,.none] } };exact tail_any (ops:=[.ref s3.heap.objs.size,v]) ht hT hg (by with_unfolding_all rfl)
def T1(xs:List V)(lo hi:Option Int):List V:=(xs.drop (HT.dg xs.length 0 lo)).take (HT.dg xs.length xs.length hi-HT.dg xs.length 0 lo)
theorem Hf(xs:List V)(lo hi:Option Int):(T1 xs lo hi).length<=xs.length:=by
 unfold T1;rw[cj,gG];omega
def Ud(K:PySem.W.Frag):V->Option Int->Option Int->Hp->VK->Prop:=λx lo hi H Q=>∃a xs,x=.ref a/\hU K H a xs /\
 ¬(HT.dg xs.length 0 lo=0/\HT.dg xs.length xs.length hi=xs.length)/\∀p,H p=none->Q (.ref p) (upd H p (.tup (T1 xs lo hi)))
theorem Qm:vV X (Ud X.K):=by
 intro pins s Z H x v vl vu lo hi sl Q I rx hs pl pu h;obtain⟨a,xs,rfl,hx,hw,q⟩:=h;cases rx;obtain⟨aX,r,ht,hz⟩:=I.tuple hx;have hlen:aX.toArray.size=xs.length:=by rw[aH];exact r.length.symm
 refine⟨"tuple",_,bL.lookup,ht.typeIs,?_⟩;refine HT.Wz ht hs pl pu (by rw[hlen];exact hw) ?_ (by rw[hlen];exact hz);rw[hlen];refine⟨.ref s.heap.objs.size,_,I.laid (t':=s.toks) (o:=.tup (T1 xs lo hi)) (λb ob q=>av _ q) (aw _) ?_,rfl,q _ (I.bK.fresh (aw _))⟩;exact⟨aD (Hf xs lo hi) hz,_,(r.drop (HT.dg xs.length 0 lo)).take (HT.dg xs.length xs.length hi-HT.dg xs.length 0 lo),J6.new _ _⟩
def VU(K:PySem.W.Frag):R2:=λx y H Q=>∃a b xs ys,x=.ref a/\y=.ref b/\hU K H a xs/\hU K H b ys/\xs≠[]/\xs.length+ys.length<=sizeLine /\
 (ys=[]->Q (.ref a) H)/\(ys≠[]->∀p,H p=none->Q (.ref p) (upd H p (.tup (xs++ys))))
theorem Vals.P7{xs:List V}{us:List Value}(r:Vals xs us):us=[]↔xs=[]:=by
 cases r with
 |nil=>simp
 |cons _ _=>simp
theorem RA:fq X (binaryOp .Add) (VU X.K):=by
 intro pins s Z H x y v u Q I rx ry h;obtain⟨a,b,xs,ys,rfl,rfl,ha,hb,hx,hz,q1,q2⟩:=h;cases rx;cases ry;obtain⟨aX,r1,p1,_⟩:=I.tuple ha;obtain⟨mx,r2,p2,_⟩:=I.tuple hb;refine HT.QW p1 p2 (λz=>hx (r1.P7.mp z)) (λz=>⟨.ref a,H,I,rfl,q1 (r2.P7.mp z)⟩) (λz=>?_) (by rw[<- r1.length,<- r2.length];exact hz);refine⟨.ref s.heap.objs.size,_,I.laid (t':=s.toks) (o:=.tup (xs++ys)) (λb ob q=>av _ q) (aw _) ?_,rfl,q2 (λw=>z (r2.P7.mpr w)) _ (I.bK.fresh (aw _))⟩;exact⟨by rw[aZ];exact hz,_,r1.append r2,J6.new _ _⟩
end
def kr(n:Nat)(i:Int):Option Nat:=if 0<=i then(if i<n then some i.toNat else none) else if -(n:Int)<=i then some (i+n).toNat else none
def fL{α:Type}(xs:List α)(i:Int):Option α:=(kr xs.length i).bind λj=>xs[j]?
theorem Io{n:Nat}{i:Int}{j:Nat}(h:kr n i=some j):seqIndex? i n=some j/\j<n/\-(n:Int)<=i/\i<n:=by
 unfold kr at h;by_cases h0:0<=i
 ·rw[aK h0] at h;by_cases h1:i<n
  ·rw[aK h1] at h;have e:i.toNat=j:=aM h;exact⟨by rw[seqIndex_of h0 h1,e],by omega,by omega,h1⟩
  ·rw[aC h1] at h;cases h
 ·rw[aC h0] at h;by_cases h1:-(n:Int)<=i
  ·rw[aK h1] at h;have e:(i+n).toNat=j:=aM h;exact⟨by rw[seqIndex_neg (by omega) h1,e],by omega,h1,by omega⟩
  ·rw[aC h1] at h;cases h
theorem AZ{α:Type}{xs:List α}{i:Int}{v:α}(h:fL xs i=some v):∃j,seqIndex? i xs.length=some j/\xs[j]?=some v/\j<xs.length/\-(xs.length:Int)<=i/\i<xs.length:=by
 unfold fL at h;cases e:kr xs.length i with
 |none=>rw[e] at h;cases h
 |some j =>
  rw[e] at h;obtain⟨h1,h2,h3,h4⟩:=Io e;exact⟨j,h1,h,h2,h3,h4⟩
theorem B8{α:Type}{xs:List α}{j:Nat}{v:α}(h:xs[j]?=some v):fL xs (j:Int)=some v:=by
 have hj:j<xs.length:=(ao.mp h).1;have e:kr xs.length (j:Int)=some j:=by
  unfold kr;rw[aK (by omega),aK (by omega)];simp
 unfold fL;rw[e];exact h
def AV(b:Expr):Prop:=∀o i,subscripted b false o i=operate [o,i] (getItem o i)
def rf(X:Cx)(r:R2):Prop :=
 ∀(value slice:Expr) (pins:List (Addr×Obj)) (s:Shared) (Z:St) (H:Hp) (x y:V) (v u:Value) (Q:VK),Inv X pins Z H s->RelV x v->RelV y u->r x y H Q ->
  subscripted slice false v u=operate [v,u] (getItem v u)->wpAny (model X.prog X.w) X.A (subscriptTail value slice v u) (EP X pins Z Q) X.xe s
def mZ(X:Cx)(id:String)(r:V->List V->Hp->VK->Prop):Prop :=
 ∀(pins:List (Addr×Obj)) (s:Shared) (Z:St) (H:Hp) (x:V) (xs:List V) (v:Value) (us:List Value) (Q:VK),Inv X pins Z H s->RelV x v->Vals xs us->r x xs H Q ->
  wpAny (model X.prog X.w) X.A (call (.builtin id) (v::us)) (EP X pins Z Q) X.xe s
section
variable{X:Cx}{a b:Expr}{ta tb:TE}{pos:Pos}
theorem Jo{r:R2}(hr:rf X r)(ha:PE X a ta)(hb:PE X b tb)(hs:AV b):PE X (.Subscript a b pos) (rz r ta tb):=by
 intro pins s Z H Q I h;exact Subscript_ (CS ha hb I h λv u s2 x y H2 I2 rx ry q=>hr a b pins s2 Z H2 x y v u Q I2 rx ry q (hs _ _))
def TX(K:PySem.W.Frag):R2:=λx y H Q=>∃p xs i v,x=.ref p/\y=.int i/\fB K H p xs/\fL xs i=some v/\Q v H
def TZ(K:PySem.W.Frag):R2:=λx y H Q=>∃p xs i v,x=.ref p/\y=.int i/\hU K H p xs/\fL xs i=some v/\Q v H
def TY:R2:=λx y H Q=>∃z i c,x=.str z/\y=.int i/\z.length<=sizeLine/\fL z.cps.toList i=some c/\Q (.str ⟨#[c]⟩) H
theorem Rn:rf X (TX X.K):=by
 intro value slice pins s Z H x y v u Q I rx ry h hs;obtain⟨p,xs,i,z,rfl,rfl,hq,he,q⟩:=h;cases rx;obtain⟨t,rfl⟩:=ry;obtain⟨aX,r,pl,hz⟩:=I.list hq;obtain⟨j,h1,h2,h3,h4,h5⟩:=AZ he;obtain⟨w,ew,fJ⟩:=r.get h2;have hl:=r.length;have hn:=S1;have fin:EP X pins Z Q w s:=⟨z,H,I,fJ,q⟩
 by_cases h0:0<=i
 ·have hj:i.toNat=j:=by
   rw[seqIndex_of h0 h5] at h1;exact aM h1
  exact item_listR pl.isList h0 (by omega) (by rw[hj];simpa using ew) fin hs
 ·have hj:(i+(aX.toArray.size:Int)).toNat=j:=by
   rw[seqIndex_neg (by omega) h4] at h1;rw[aH,<- hl];exact aM h1
  exact subscriptTail_builtinR (x:=w) pl.isList.typeIs slot_list_getitem.lookup
   (wpAny_getItem_list_neg (Q:=λr s'=>r=w/\EP X pins Z Q r s') pl.isList (by omega) (by rw[aH]<;>omega) (by omega) (by rw[hj];simpa using ew) ⟨rfl,fin⟩) hs
theorem Ow:rf X (TZ X.K):=by
 intro value slice pins s Z H x y v u Q I rx ry h hs;obtain⟨p,xs,i,z,rfl,rfl,hq,he,q⟩:=h;cases rx;obtain⟨t,rfl⟩:=ry;obtain⟨aX,r,pl,hz⟩:=I.tuple hq;obtain⟨j,h1,h2,h3,h4,h5⟩:=AZ he;obtain⟨w,ew,fJ⟩:=r.get h2;have hl:=r.length;have hn:=S1;have fin:EP X pins Z Q w s:=⟨z,H,I,fJ,q⟩
 exact subscriptTail_builtinR (x:=w) pl.typeIs slot_tuple_getitem.lookup
  (getItem_tuple (j:=j) (Q:=λr s'=>r=w/\EP X pins Z Q r s') pl (by omega) (by omega) (by rw[aH,<- hl];exact h1) (by simpa using ew) ⟨rfl,fin⟩) hs
theorem Ov:rf X TY:=by
 intro value slice pins s Z H x y v u Q I rx ry h hs;obtain⟨z,i,c,rfl,rfl,hz,he,q⟩:=h;obtain⟨t,rfl⟩:=rx;obtain⟨t',rfl⟩:=ry;obtain⟨j,h1,h2,h3,h4,h5⟩:=AZ he;have hl:z.cps.toList.length=z.length:=by simp[Str.length]
 rw[hl] at h1 h4 h5;have hn:=S1;exact tail_any (typeIs_str s z t) slot_str_getitem.lookup (getItem_str (c:=c) (by
  have e1:decide (i < -(2 ^ 63:Int))=false:=az (by omega);have e2:decide (i>=2 ^ 63)=false:=az (by omega);rw [e1,e2,Bool.or_false]) (by rw [h1];simpa using h2) ⟨.str ⟨#[c]⟩,H,I.tok _,⟨_,rfl⟩,q⟩) hs
theorem Yq(aX:List Value)(n j:Nat)(u:Value):Obj.mapSeq (·.setIfInBounds j u) { cls:=.type "list",data:=.seq aX.toArray n }={ cls:=.type "list",data:=.seq (aX.set j u).toArray n }:=by
 simp[Obj.mapSeq]
theorem Inv.lst{pins:List (Addr×Obj)}{Z:St}{H:Hp}{s:Shared}{p:Addr}{xs:List V}(I:Inv X pins Z H s)(h:H p=some (.lst xs)) :
  ∃(aX:List Value) (n:Nat),Vals xs aX/\s.heap.get? p=some { cls:=.type "list",data:=.seq aX.toArray n }/\xs.length<=sizeLine:=by
 obtain⟨z,aX,n,r,e⟩:=I.bK p _ h;exact⟨aX,n,r,e,z⟩
theorem Inv.OG{pins:List (Addr×Obj)}{Z:St}{H:Hp}{s:Shared}{p:Addr}{xs ys:List V}{aX its':List Value}{n n':Nat}{f:Obj->Obj}(I:Inv X pins Z H s)(h:H p=some (.lst xs))(ho:s.heap.get? p=some { cls:=.type "list",data:=.seq aX.toArray n })(hf:f { cls:=.type "list",data:=.seq aX.toArray n }={ cls:=.type "list",data:=.seq its'.toArray n' })(r:Vals ys its')(hz:ys.length<=sizeLine)(t:Nat) :
  Inv X pins Z (upd H p (.lst ys)) { s with heap:=s.heap.update p f,toks:=t }:=by
 have e:(s.heap.update p f).get? p=some { cls:=.type "list",data:=.seq its'.toArray n' }:=by
  rw[bc f ho (by rw[hf]<;>rfl),hf]
 refine I.write (x:=p) (e:=p) (by rw[h];trivial) (.inl rfl) (λb u hb q=>(bZ _ _ (bE hb)).trans q) ⟨_,e⟩ ?_;exact⟨hz,its',n',r,e⟩
def VY:V->V->V->Hp->(Hp->Prop)->Prop:=λo i v H Q=>∃p xs k j,o=.ref p/\i=.int k/\H p=some (.lst xs)/\kr xs.length k=some j/\Q (upd H p (.lst (xs.set j v)))
theorem set_list:CN X VY:=by
 intro pins s Z H o i v ov iv u Q I ro ri rv h;obtain⟨p,xs,k,j,rfl,rfl,hp,hj,q⟩:=h;cases ro;obtain⟨t,rfl⟩:=ri;obtain⟨aX,n,r,ho,hz⟩:=I.lst hp;obtain⟨h1,h2,h3,h4⟩:=Io hj;have hl:=r.length;have hn:=S1;have I':Inv X pins Z (upd H p (.lst (xs.set j v))) { s with heap:=s.heap.update p (Obj.mapSeq (·.setIfInBounds j u)) } :=
  I.OG hp ho (Yq aX n j u) (r.set rv j) (by rw[List.length_set];exact hz) s.toks
 by_cases h0:0<=k
 ·have hk:k.toNat=j:=by
   rw[seqIndex_of h0 h4] at h1;exact aM h1
  exact PySem.W.ki_setAt ho h0 (by omega) (by rw[aH,<- hl];exact h4) (by rw[hk];exact⟨_,I',q⟩)
 ·have hk:(k+(aX.toArray.size:Int)).toNat=j:=by
   rw[seqIndex_neg (by omega) h3] at h1;rw[aH,<- hl];exact aM h1
  exact PySem.W.ki_setBack ho (by omega) (by rw[aH,<- hl];exact h3) (by omega) (by rw[hk];exact⟨_,I',q⟩)
theorem Wb(lo hi:Option Int)(n:Nat):(sliceBounds lo hi none n).1=((HT.dg n 0 lo:Nat):Int)/\(sliceBounds lo hi none n).2.1=((HT.dg n n hi:Nat):Int)/\(sliceBounds lo hi none n).2.2=1:=by
 refine⟨?_,?_,rfl⟩
 ·cases lo with
  |none=>simp[sliceBounds,HT.dg]
  |some i =>
   simp only[sliceBounds,HT.dg,Option.getD_none,show(1:Int)>0 by decide,if_true];by_cases h:i<0
   ·simp only[h,if_true]<;>omega
   ·simp only[h,if_false]<;>omega
 ·cases hi with
  |none=>simp[sliceBounds,HT.dg]
  |some i =>
   simp only[sliceBounds,HT.dg,Option.getD_none,show(1:Int)>0 by decide,if_true];by_cases h:i<0
   ·simp only[h,if_true]<;>omega
   ·simp only[h,if_false]<;>omega
theorem Wk(aX:List Value)(lo hi:Option Int):slicePick aX.toArray lo hi none=((aX.drop (HT.dg aX.length 0 lo)).take (HT.dg aX.length aX.length hi-HT.dg aX.length 0 lo)).toArray:=by
 obtain⟨h1,h2,h3⟩:=Wb lo hi aX.toArray.size;unfold slicePick;rw[h1,h2,h3];simp only[sliceRange_one,pick_run,List.size_toArray]<;>rfl
def Uc(K:PySem.W.Frag):V->Option Int->Option Int->Hp->VK->Prop:=λx lo hi H Q=>∃a xs,x=.ref a/\fB K H a xs/\∀p,H p=none->Q (.ref p) (upd H p (.lst (T1 xs lo hi)))
theorem Sw:vV X (Uc X.K):=by
 intro pins s Z H x v vl vu lo hi sl Q I rx hs pl pu h;obtain⟨a,xs,rfl,hx,q⟩:=h;cases rx;obtain⟨aX,r,ht,hz⟩:=I.list hx;have hlen:=r.length;refine⟨"list",_,slot_list_getitem.lookup,ht.isList.typeIs,?_⟩;refine wpAny_getItem_list_slice ht.isList hs pl pu .none (by simp) ?_ (by rw[aH]<;>omega);rw[Wk,<- hlen];refine⟨.ref s.heap.objs.size,_,I.laid (t':=s.toks) (o:=.lst (T1 xs lo hi)) (λb ob q=>av _ q) (aw _) ?_,rfl,q _ (I.bK.fresh (aw _))⟩;exact⟨aD (Hf xs lo hi) hz,_,0,(r.drop (HT.dg xs.length 0 lo)).take (HT.dg xs.length xs.length hi-HT.dg xs.length 0 lo),aG _ rfl⟩
def Fc:V->V->Bool
 |.bC,.bC=>true
 |.bl a,.bl b=>a==b
 |.bl a,.int b=>(if a then 1 else 0)==b
 |.int a,.bl b=>a==(if b then 1 else 0)
 |.int a,.int b=>a==b
 |.str a,.str b=>a==b
 |_,_=>false
theorem Zj:l9 X (.builtin "len") (λxs H Q=>∃p ys,xs=[.ref p]/\(fB X.K H p ys\/hU X.K H p ys)/\Q (.int ys.length) H):=by
 intro pins s Z H xs us Q I r h;obtain⟨p,ys,rfl,hq,q⟩:=h;obtain⟨u,rfl,rx⟩:=vals1 r;cases rx;have hn:=S1;rcases hq with hq|hq
 ·obtain⟨aX,r',pl,hz⟩:=I.list hq;have hlen:=r'.length;exact Calls.call_len_list pl.isList (by simp only[List.size_toArray]<;>omega) ⟨.int ys.length,H,I.tok _,⟨s.toks+1,by rw[aH,hlen]⟩,q⟩
 ·obtain⟨aX,r',pl,hz⟩:=I.tuple hq;have hlen:=r'.length;exact len_tuple pl (by simp only[List.size_toArray]<;>omega) ⟨.int ys.length,H,I.tok _,⟨s.toks+1,by rw[aH,hlen]⟩,q⟩
theorem Zk:l9 X (.builtin "len") (λxs H Q=>∃z,xs=[.str z]/\z.length<=sizeLine/\Q (.int z.length) H):=by
 intro pins s Z H xs us Q I r h;obtain⟨z,rfl,hz,q⟩:=h;obtain⟨u,rfl,t,rfl⟩:=vals1 r;have hn:=S1;exact len_str (by omega) ⟨.int z.length,H,I.tok _,⟨_,rfl⟩,q⟩
theorem Zl:l9 X (.type "list") (λxs H Q=>∃p ys,xs=[.ref p]/\(fB X.K H p ys\/hU X.K H p ys)/\∀l,H l=none->Q (.ref l) (upd H l (.lst ys))):=by
 intro pins s Z H xs us Q I r h;obtain⟨p,ys,rfl,hq,q⟩:=h;obtain⟨u,rfl,rx⟩:=vals1 r;cases rx;have fin:∀(aX:List Value),Vals ys aX->ys.length<=sizeLine->∀(h':Heap) (c':Nat),(∀b o',s.heap.get? b=some o'->h'.get? b=some o') ->
   h'.get? s.heap.objs.size=some { cls:=.type "list",dict:=none,data:=.seq aX.toArray c',slots:=#[] }->EP X pins Z Q (.ref s.heap.objs.size) { s with heap:=h' }:=λaX r' hz h' c' kp e =>
  ⟨.ref s.heap.objs.size,_,I.laid (t':=s.toks) kp (aw _) (show l6 X.prog X.w _ h' _ (.lst ys) from⟨hz,aX,c',r',e⟩),rfl,q _ (I.bK.fresh (aw _))⟩
 rcases hq with hq|hq
 ·obtain⟨aX,r',pl,hz⟩:=I.list hq;have hlen:=r'.length;obtain⟨o,ho,hc,n,hd⟩:=pl.isList;exact call_list_seq p (.inl rfl) ho hc hd (λh' c' kp e=>fin aX r' hz h' c' kp e) (by simp only[List.size_toArray]<;>omega)
 ·obtain⟨aX,r',pl,hz⟩:=I.tuple hq;have hlen:=r'.length;obtain⟨o,ho,hc,n,hd⟩:=pl;exact call_list_seq p (.inr rfl) ho hc hd (λh' c' kp e=>fin aX r' hz h' c' kp e) (by simp only[List.size_toArray]<;>omega)
theorem We:l9 X (.type "tuple") (λxs H Q=>∃p ys,xs=[.ref p]/\((fB X.K H p ys/\∀l,H l=none->Q (.ref l) (upd H l (.tup ys)))\/(hU X.K H p ys/\Q (.ref p) H))):=by
 intro pins s Z H xs us Q I r h;obtain⟨p,ys,rfl,h⟩:=h;obtain⟨u,rfl,rx⟩:=vals1 r;cases rx;rcases h with⟨hq,q⟩|⟨hq,q⟩
 ·obtain⟨aX,r',pl,hz⟩:=I.list hq;have hlen:=r'.length;refine call_tuple_list pl.isList (λh' kp=>?_) (by simp only[List.size_toArray]<;>omega);have I1:Inv X pins Z H { s with heap:=h' }:=I.kept (t':=s.toks) kp;have I2:Inv X pins Z (upd H h'.objs.size (.tup ys)) { s with heap:=h'.push { cls:=.type "tuple",data:=.seq aX.toArray } } :=
   I1.laid (t':=s.toks) (λb o e=>av _ e) (aw _) (show l6 X.prog X.w _ _ _ (.tup ys) from⟨hz,aX,r',J6.new _ _⟩)
  exact⟨.ref h'.objs.size,_,I2,rfl,q _ (I1.bK.fresh (aw _))⟩
 ·obtain⟨aX,r',pl,hz⟩:=I.tuple hq;exact call_tuple_same pl ⟨.ref p,H,I,rfl,q⟩
def nj(K:PySem.W.Frag)(T:String)(x:V)(H:Hp):Prop:=match x with
 |.str _=>T="str"
 |.int _=>T="int"
 |.ref p=>(T="list"/\∃xs,fB K H p xs)\/(T="tuple"/\∃o,K.lookup p=some o/\o.cls=.type "tuple"/\o.dict=none) \/
   (T="dict"/\((∃kvs,H p=some (.dK kvs))\/∃kvs,H p=some (.dT kvs)))\/(T="set"/\∃S n,H p=some (.set S n))
 |_=>False
theorem Ib{pins:List (Addr×Obj)}{Z:St}{H:Hp}{s:Shared}{T:String}{x:V}{v:Value}(I:Inv X pins Z H s)(r:RelV x v)(ty:nj X.K T x H) :
  s.TypeIs v T/\∀a,v=.ref a->∃ob,s.heap.get? a=some ob/\ob.dict=none:=by
 cases x with
 |str z =>
  obtain⟨t,rfl⟩:=r;cases (show T="str" from ty);exact⟨typeIs_str s z t,λ_ e=>nomatch e⟩
 |int i =>
  obtain⟨t,rfl⟩:=r;cases (show T="int" from ty);exact⟨lS s i t,λ_ e=>nomatch e⟩
 |ref p =>
  cases r;rcases ty with⟨rfl,xs,hq⟩|⟨rfl,o,hk,hc,hd⟩|⟨rfl,hk⟩|⟨rfl,S,n,hk⟩
  ·obtain⟨aX,_,pl,_⟩:=I.list hq;refine⟨pl.isList.typeIs,λa e=>?_⟩;cases e;obtain⟨o,n,e,c,hd,_⟩:=pl;exact⟨o,e,hd⟩
  ·refine⟨⟨o,I.gs p o hk,hc⟩,λa e=>?_⟩;cases e;exact⟨o,I.gs _ o hk,hd⟩
  ·have z:∃o,s.heap.get? p=some o/\o.ExactDict:=by
    rcases hk with⟨kvs,hk⟩|⟨kvs,hk⟩
    ·obtain⟨_,_,_,_,o,_,_,e,ex,_⟩:=I.bK p _ hk;exact⟨o,e,ex⟩
    ·obtain⟨_,_,_,_,o,_,_,e,ex,_⟩:=I.bK p _ hk;exact⟨o,e,ex⟩
   obtain⟨o,e,ex⟩:=z;refine⟨⟨o,e,ex.1⟩,λa e2=>?_⟩;cases e2;exact⟨o,e,ex.2.1⟩
  ·obtain⟨o,_,_,_,e,ex,_⟩:=I.bK p _ hk;refine⟨⟨o,e,ex.1⟩,λa e2=>?_⟩;cases e2;exact⟨o,e,ex.2.1⟩
 |_=>exact False.elim ty
def Uq(K:PySem.W.Frag)(T:String)(r:V->List V->Hp->VK->Prop)(to:TE):TE:=λZ H Q=>to Z H λx H1=>nj K T x H1/\r x [] H1 Q
def Kg(K:PySem.W.Frag)(T:String)(r:V->List V->Hp->VK->Prop)(to:TE)(t:TA):TE:=λZ H Q=>to Z H λx H1=>nj K T x H1/\t Z H1 λxs H2=>r x xs H2 Q
variable{o e:Expr}{es:List Expr}{to:TE}{t:TA}{name:Str}{apos fG:Pos}{T id:String}{r:V->List V->Hp->VK->Prop}
theorem Pd(pa:PlainAttrs T)(slot:Slot T name id)(jf:typeOf (.builtin id)=pure (.type "method_descriptor"))(hm:mZ X id r)(ho:PE X o to)(iH:attributeBase o name X.env (eval o X.env)=eval o X.env:=by rfl)(iF:(apos.endLine==fG.line)=true:=by rfl):PE X (.Call (.Attribute o name apos) [] [] fG) (Uq X.K T r to):=by
 intro pins s Z H Q I h;refine wpAny_Call_method0_late iH iF (cF (ho pins s Z H _ I h) λv s1 bq=>?_);obtain⟨x,H1,I1,r1,ty,q1⟩:=bq;obtain⟨h1,h2⟩:=Ib I1 r1 ty;exact⟨T,id,pa,slot,jf,h1,h2,Calls.callWith_builtin rfl (PySem.evalArgs_none (hm pins s1 Z H1 x [] v [] Q I1 r1 .nil q1))⟩
theorem VL(pa:PlainAttrs T)(slot:Slot T name id)(jf:typeOf (.builtin id)=pure (.type "method_descriptor"))(hm:mZ X id r)(ho:PE X o to)(ha:PA X (e::es) t)(iH:attributeBase o name X.env (eval o X.env)=eval o X.env:=by rfl)(qf:((backTo fG (starEach (e :: es) X.env)).all (λx=>!x.1) && (backToKw fG (keywordEach [] X.env)).all (λx=>x.1.isSome)
   && decide ((e :: es).length + ([]:List Keyword).length + (if ([]:List Keyword).isEmpty then 0 else 1) < 30))=true:=by rfl)(iF:(apos.endLine==fG.line)=true:=by rfl)(hs:starEach (e::es) X.env=(false,eval e X.env)::starEach es X.env:=by rfl)(fZ:(backTo fG (starEach es X.env)).any (·.1)=false:=by rfl) :
  PE X (.Call (.Attribute o name apos) (e::es) [] fG) (Kg X.K T r to t):=by
 intro pins s Z H Q I h;refine wpAny_Call_method_late iH qf iF rfl (cF (ho pins s Z H _ I h) λv s1 bq=>?_);obtain⟨x,H1,I1,r1,ty,q1⟩:=bq;obtain⟨h1,h2⟩:=Ib I1 r1 ty;refine⟨T,id,pa,slot,jf,h1,h2,?_⟩;have hA:=ha fG pins s1 Z H1 _ I1 q1;rw[hs] at hA ⊢;refine Calls.callWith_builtin (by show(false||(backTo fG (starEach es X.env)).any (·.1))=false;rw[fZ]<;>rfl) (Calls.evalArgs_plain ?_);exact cF hA λus s2 ⟨vs,H2,I2,r2,q2⟩=>hm pins s2 Z H2 x vs v us Q I2 r1 r2 q2
end
def JC(X:Cx)(id:String)(r:V->List V->Hp->VK->Prop):Prop :=
 ∀(pins:List (Addr×Obj)) (s:Shared) (Z:St) (H:Hp) (x:V) (xs:List V) (v:Value) (us:List Value) (Q:VK),Inv X pins Z H s->RelV x v->Vals xs us->r x xs H Q ->
  wpAny (model X.prog X.w) X.A (call (.builtin id) (v::us)) (EP X pins Z Q) X.xe s
theorem Vals.one{x:V}{us:List Value}(h:Vals [x] us):∃u,us=[u]/\RelV x u:=by
 cases h with
 |cons r h =>
  cases h;exact⟨_,rfl,r⟩
theorem Vals.zero:∀{us:List Value},Vals [] us->us=[]
 |_,.nil=>rfl
theorem Vals.eraseIdx:∀{xs:List V} {us:List Value} (i:Nat),Vals xs us->Vals (xs.eraseIdx i) (us.eraseIdx i)
 |_,_,_,.nil=>.nil
 |_,_,0,.cons _ t=>t
 |_,_,i+1,.cons r t=>.cons r (Vals.eraseIdx i t)
theorem Vals.reverse{xs:List V}{us:List Value}(h:Vals xs us):Vals xs.reverse us.reverse:=by
 induction h with
 |nil=>exact .nil
 |cons r t ih=>rw[gh,gh];exact Vals.append ih (.cons r .nil)
theorem Vals.rep{xs:List V}{us:List Value}(h:Vals xs us):∀k:Nat,Vals (List.replicate k xs).flatten (List.replicate k us).flatten
 |0=>.nil
 |k+1=>by
  rw[bX,bX,cS,cS];exact Vals.append h (Vals.rep h k)
theorem Gw{α:Type}:∀(l:List α) (i:Nat),(l.eraseIdx i).length<=l.length
 |[],_=>aw _
 |_::_,0=>gg _
 |_::r,i+1=>Nat.succ_le_succ (Gw r i)
theorem foldl_rep(aX:List Value):∀(k:Nat) (acc:List Value),
  List.foldl (λx1 x2=>x1++x2) acc.toArray (List.replicate k aX.toArray)=(acc++(List.replicate k aX).flatten).toArray
 |0,acc=>by simp
 |k+1,acc=>by
  have e:acc.toArray++aX.toArray=(acc++aX).toArray:=by simp
  have e2:(acc++aX)++(List.replicate k aX).flatten=acc++(List.replicate (k+1) aX).flatten:=by
   rw[bX,cS,eV]
  rw[<- e2,<- foldl_rep aX k (acc++aX),<- e,bX,lV]
section
variable{X:Cx}{pins:List (Addr×Obj)}{Z:St}{H:Hp}{s:Shared}{l b:Addr}{xs ys zs:List V}
theorem Inv.Z9{aX its':List Value}{n:Nat}{f:Array Value->Array Value}{t':Nat}(I:Inv X pins Z H s)(hH:H l=some (.lst xs))(e:s.heap.get? l=some { cls:=.type "list",data:=.seq aX.toArray n })(hf:f aX.toArray=its'.toArray)(hv:Vals ys its')(hz:ys.length<=sizeLine) :
  Inv X pins Z (upd H l (.lst ys)) { s with heap:=s.heap.update l (Obj.mapSeq f),toks:=t' }:=by
 have q:=PySem.IsL.update e f;rw[hf] at q;refine I.write (x:=l) (e:=l) (by rw[hH];exact trivial) (.inl rfl) (λb' u hb hu=>(bZ s.heap (Obj.mapSeq f) (bE hb)).trans hu) ⟨_,q⟩ ?_;exact⟨hz,its',_,hv,q⟩
theorem Inv.Fv{aX:List Value}{t':Nat}(I:Inv X pins Z H s)(hv:Vals ys aX)(hz:ys.length<=sizeLine) :
  Inv X pins Z (upd H s.heap.objs.size (.lst ys)) { s with heap:=s.heap.push { cls:=.type "list",data:=.seq aX.toArray },toks:=t' } :=
 I.laid (λ_ _ q=>av _ q) (aw _) ⟨hz,aX,0,hv,aG _ rfl⟩
theorem Inv.fresh(I:Inv X pins Z H s):H s.heap.objs.size=none:=I.bK.fresh (aw _)
theorem Inv.vQ(I:Inv X pins Z H s)(hH:H l=some (.lst xs)):xs.length<=sizeLine/\∃(aX:List Value) (n:Nat),Vals xs aX/\xs.length=aX.length/\s.heap.get? l=some { cls:=.type "list",data:=.seq aX.toArray n }:=by
 obtain⟨z,aX,n,r,e⟩:=I.bK l _ hH;exact⟨z,aX,n,r,r.length,e⟩
theorem ZV{n:Nat}(h:n<=sizeLine):Builtin.List.listTooLong n=false:=by
 unfold Builtin.List.listTooLong;exact az (by omega)
end
section
variable{X:Cx}
def Sb:V->List V->Hp->VK->Prop:=λx vs H Q=>∃l xs y,x=.ref l/\vs=[y]/\H l=some (.lst xs)/\xs.length<sizeLine/\Q .bC (upd H l (.lst (xs++[y])))
theorem Xm:JC X "list.append" Sb:=by
 intro pins s Z H x vs v us Q I rx rv h;obtain⟨l,xs,y,rfl,rfl,hH,hz,q⟩:=h;cases rx;obtain⟨u,rfl,ru⟩:=rv.one;obtain⟨z,aX,n,r,hl,e⟩:=I.vQ hH;refine eZ F.slot_list_append ⟨_,e,rfl⟩ F.entry_list_append (F.args_list_append_2 _ _) (PySem.list_append l aX.toArray n u (by rw[aH];omega)) ⟨e,?_⟩;refine⟨.bC,_,I.Z9 (its':=aX++[u]) hH e (by simp) (r.append (.cons ru .nil)) ?_,rfl,q⟩;rw[aZ,ir];omega
def PN:V->List V->Hp->VK->Prop:=λx vs H Q=>∃l xs i k y,x=.ref l/\vs=[.int i]/\H l=some (.lst xs)/\-(2 ^ 63)<=i/\i<2 ^ 63/\seqIndex? i xs.length=some k/\xs[k]?=some y/\Q y (upd H l (.lst (xs.eraseIdx k)))
theorem ZS:JC X "list.pop" PN:=by
 intro pins s Z H x vs v us Q I rx rv h;obtain⟨l,xs,i,k,y,rfl,rfl,hH,h1,h2,hk,hy,q⟩:=h;cases rx;obtain⟨u,rfl,ru⟩:=rv.one;obtain⟨t,rfl⟩:=ru;obtain⟨z,aX,n,r,hl,e⟩:=I.vQ hH;obtain⟨w,hw,fJ⟩:=r.get hy;refine eZ F.slot_list_pop ⟨_,e,rfl⟩ F.entry_list_pop (F.args_list_pop_2 _ _)
  (MeetsSeq.list_pop_at l aX.toArray n i t k w (fitsIndex_both h1 h2) (by rw[aH,<- hl];exact hk) (by rw[<- iy];exact hw) (by rw[aH];omega)) ⟨e,?_⟩
 refine⟨y,_,I.Z9 (its':=aX.eraseIdx k) hH e ?_ (r.eraseIdx k) ?_,fJ,q⟩
 ·show aX.toArray.eraseIdxIfInBounds k=(aX.eraseIdx k).toArray;rw[List.eraseIdxIfInBounds_toArray]
 ·have:=Gw xs k;omega
def TV:R2:=λx y H Q=>∃l b xs zs,x=.ref l/\y=.ref b/\H l=some (.lst xs)/\H b=some (.lst zs)/\xs.length+zs.length<=sizeLine/\∀p,H p=none->Q (.ref p) (upd H p (.lst (xs++zs)))
theorem OR:fq X (binaryOp .Add) TV:=by
 intro pins s Z H x y v u Q I rx ry h;obtain⟨l,b,xs,zs,rfl,rfl,hH,hB,hz,q⟩:=h;cases rx;cases ry;obtain⟨z,aX,n,r,hl,e⟩:=I.vQ hH;obtain⟨z2,mx,n2,r2,hl2,e2⟩:=I.vQ hB;refine PySem.P.add_list e e2 ?_ (by rw[aH,aH];omega);have ea:aX.toArray++mx.toArray=(aX++mx).toArray:=by simp
 rw[ea];exact⟨.ref _,_,I.Fv (t':=s.toks) (r.append r2) (by rw[aZ];omega),rfl,q _ I.fresh⟩
def Ua:R2:=λx y H Q=>∃l k xs,x=.ref l/\y=.int k/\H l=some (.lst xs)/\-(2 ^ 63)<=k/\k<2 ^ 63/\xs.length*k.toNat<=sizeLine /\
 ∀p,H p=none->Q (.ref p) (upd H p (.lst (List.replicate k.toNat xs).flatten))
theorem len_rep{α:Type}(xs:List α)(k:Nat):(List.replicate k xs).flatten.length=k*xs.length:=by
 induction k with
 |zero=>simp
 |succ k ih=>rw[bX,cS,aZ,ih,Nat.succ_mul,Nat.add_comm]
theorem OW:fq X (binaryOp .Mult) Ua:=by
 intro pins s Z H x y v u Q I rx ry h;obtain⟨l,k,xs,rfl,rfl,hH,h1,h2,hz,q⟩:=h;cases rx;obtain⟨t,rfl⟩:=ry;obtain⟨z,aX,n,r,hl,e⟩:=I.vQ hH;have hlen:aX.toArray.size*k.toNat<=sizeLine:=by rw[aH,<- hl];exact hz
 have zL:¬aX.toArray.size*k.toNat>(2 ^ 63-1) / 8:=by
  have:(sizeLine:Nat)<=(2 ^ 63-1) / 8:=by decide
  omega
 have zI:¬(!Builtin.List.listFitsIndex k)=true:=by
  rw[fitsIndex_both h1 h2];exact dt
 have uz:¬Builtin.List.listTooLong (aX.toArray.size*k.toNat)=true:=by
  rw[ZV hlen];exact dt
 have zr:List.foldl (λx1 x2=>x1++x2) #[] (List.replicate (if aX.toArray.isEmpty=true then 0 else k.toNat) aX.toArray)=(List.replicate k.toNat aX).flatten.toArray:=by
  have f0:∀m:Nat,List.foldl (λx1 x2=>x1++x2) #[] (List.replicate m aX.toArray)=(List.replicate m aX).flatten.toArray:=λm=>by
   have:=foldl_rep aX m [];rw[List.nil_append] at this;exact this
  rw[f0];cases aX with
  |nil=>simp
  |cons a r'=>rw[if_neg (by simp)]
 refine Dn (T:="list") (U:="int") (by decide) ⟨_,e,rfl⟩ (λs'=>lS s' k t) noFill_list_mul F.fills_int_mul jA repeat_list F.slot_int_index.lookup
  (eZ jA (lS s k t) F.entry_int_rmul (F.args_int_rmul_2 _ _) (int___rmul___int_list k t l aX.toArray n)
   ⟨e,rfl,⟨_,e,rfl⟩,eZ F.slot_list_mul ⟨_,e,rfl⟩ F.entry_list_mul (F.args_list_mul_2 _ _) (AutoListH.list___mul___list_int_3 l aX.toArray n k t zI zL uz) ⟨e,?_⟩⟩)
 rw[zr];exact⟨.ref _,_,I.Fv (t':=s.toks) (r.rep k.toNat) (by rw[len_rep,sU];exact hz),rfl,q _ I.fresh⟩
end
section
variable{prog:Program}{w:World}{A:Around}{E:Value->Shared->Prop}{s:Shared}
end
section
variable{X:Cx}
end
end L2

namespace L2
open PySem PySem.Spec PyProof.Rows
section
variable{κ:Type}[DecidableEq κ]
def K4(kvs:List (κ×V))(k:κ):Option V:=(kvs.find? λkv=>decide (kv.1=k)).map (·.2)
def putK(kvs:List (κ×V))(k:κ)(v:V):List (κ×V) :=
 if(kvs.any λkv=>decide (kv.1=k))=true then kvs.map (λkv=>if kv.1=k then(kv.1,v) else kv) else kvs++[(k,v)]
theorem BB{p:κ×V}{r:List (κ×V)}{k:κ}(e:p.1=k):K4 (p::r) k=some p.2:=by simp[K4,List.find?_cons,e]
theorem BA{p:κ×V}{r:List (κ×V)}{k:κ}(e:¬p.1=k):K4 (p::r) k=K4 r k:=by simp[K4,List.find?_cons,e]
theorem Gf(k:κ):∀kvs:List (κ×V),(kvs.any λkv=>decide (kv.1=k))=(K4 kvs k).isSome
 |[]=>rfl
 |p::r=>by
  rw[fo];by_cases e:p.1=k
  ·simp only[BB e,decide_eq_true e,Bool.true_or,Option.isSome_some]
  ·rw[BA e,az e,pJ];exact Gf k r
theorem V5(kvs:List (κ×V))(k:κ)(v:V):(putK kvs k v).length<=kvs.length+1:=by
 unfold putK;split
 ·rw[ak];omega
 ·rw[aZ,cN,List.length_nil];omega
theorem F0.N6{o:Option V}{u:Option Value}(r:F0 o u):o.isSome=u.isSome:=by
 cases o with
 |none=>cases u with
  |none=>rfl
  |some _=>exact(show False from r).elim
 |some _=>cases u with
  |none=>exact(show False from r).elim
  |some _=>rfl
theorem F0.getD{o:Option V}{u:Option Value}{d:V}{d':Value}(r:F0 o u)(rd:RelV d d'):RelV (o.getD d) (u.getD d'):=by
 cases o with
 |none=>cases u with
  |none=>exact rd
  |some _=>exact(show False from r).elim
 |some _=>cases u with
  |none=>exact(show False from r).elim
  |some _=>exact r
theorem KV.val{kvs:List (κ×V)}{vs:List (κ×Value)}(r:KV kvs vs)(k:κ):F0 (K4 kvs k) (valueAt vs k):=by
 unfold KV at r
 induction r with
 |nil=>exact True.intro
 |@cons p q ps qs h t ih =>
  obtain⟨h1,h2⟩:=h;by_cases e:p.1=k
  ·have e':q.1=k:=h1.symm.trans e;have b:valueAt (q::qs) k=some q.2:=by simp[valueAt,List.find?_cons,e']
   rw[BB e,b];exact h2
  ·have e':¬q.1=k:=λz=>e (h1.trans z);have b:valueAt (q::qs) k=valueAt qs k:=by simp[valueAt,List.find?_cons,e']
   rw[BA e,b];exact ih
theorem KV.any{kvs:List (κ×V)}{vs:List (κ×Value)}(r:KV kvs vs)(k:κ):(kvs.any λkv=>decide (kv.1=k))=vs.any λkv=>decide (kv.1=k):=by
 unfold KV at r
 induction r with
 |nil=>rfl
 |cons h t ih=>rw[fo,fo,ih,h.1]
theorem KV.Dc{kvs:List (κ×V)}{vs:List (κ×Value)}(r:KV kvs vs)(k:κ){y:V}{u:Value}(ry:RelV y u) :
  KV (kvs.map λkv=>if kv.1=k then(kv.1,y) else kv) (vs.map λkv=>if kv.1=k then(kv.1,u) else kv):=by
 unfold KV at r ⊢
 induction r with
 |nil=>exact .nil
 |@cons p q ps qs h t ih =>
  rw[bg,bg];refine .cons ?_ ih;obtain⟨h1,h2⟩:=h;by_cases e:p.1=k
  ·rw[aK e,aK (h1.symm.trans e)];exact⟨h1,ry⟩
  ·rw[aC e,aC (λz=>e (h1.trans z))];exact⟨h1,h2⟩
theorem KV.put{kvs:List (κ×V)}{vs:List (κ×Value)}(r:KV kvs vs)(k:κ){y:V}{u:Value}(ry:RelV y u):KV (putK kvs k y) (stored vs k u):=by
 unfold putK stored;rw[r.any k];by_cases e:(vs.any λkv=>decide (kv.1=k))=true
 ·rw[aK e,aK e];exact r.Dc k ry
 ·rw[aC e,aC e];exact Paired.snoc r ⟨rfl,ry⟩
theorem KV.keys{kvs:List (κ×V)}{vs:List (κ×Value)}(r:KV kvs vs):kvs.map (·.1)=vs.map (·.1):=by
 unfold KV at r
 induction r with
 |nil=>rfl
 |cons h t ih=>rw[bg,bg,ih,h.1]
theorem KV.length{kvs:List (κ×V)}{vs:List (κ×Value)}(r:KV kvs vs):kvs.length=vs.length:=lE r
end
theorem qY{P:Program}{w:World}{k:Key}{u:Value}(r:RelV (kV k) u):(o8 P w).is k u=true:=by
 cases k with
 |inl i=>obtain⟨t,e⟩:=(show ∃t,u=Value.int i t from r);subst e;exact Za P w i t
 |inr x=>obtain⟨t,e⟩:=(show ∃t,u=Value.str x t from r);subst e;exact Zb P w x t
theorem Gv{P:Program}{w:World}:∀{ks:List Key} {us:List Value},Vals (ks.map kV) us->ItemsAre (o8 P w) ks us
 |[],_,r=>by rw[sX] at r;cases r;exact .nil
 |k::ks,_,r=>by
  rw[bg] at r;cases r with
  |cons h t=>exact .cons (qY h) (Gv t)
noncomputable abbrev KT(H:Hp):List (List Key×V)->List (List Key×Addr×Value)->Prop:=Paired λp q=>p.1=q.1/\H q.2.1=some (.tup (p.1.map kV))/\RelV p.2 q.2.2
theorem KT.val{H:Hp}{kvs:List (List Key×V)}{xs:List (List Key×Addr×Value)}(r:KT H kvs xs)(k:List Key):F0 (K4 kvs k) ((atKey xs k).map (·.2)):=by
 induction r with
 |nil=>exact True.intro
 |@cons p q ps qs h t ih =>
  obtain⟨h1,_,h2⟩:=h;by_cases e:p.1=k
  ·have e':q.1=k:=h1.symm.trans e;have b:atKey (q::qs) k=some q.2:=by simp[atKey,List.find?_cons,e']
   rw[BB e,b];exact h2
  ·have e':¬q.1=k:=λz=>e (h1.trans z);have b:atKey (q::qs) k=atKey qs k:=by simp[atKey,List.find?_cons,e']
   rw[BA e,b];exact ih
theorem KT.Dc{H:Hp}{kvs:List (List Key×V)}{xs:List (List Key×Addr×Value)}(r:KT H kvs xs)(k:List Key){y:V}{u:Value}(ry:RelV y u) :
  KT H (kvs.map λkv=>if kv.1=k then(kv.1,y) else kv) (xs.map (putAt k u)):=by
 induction r with
 |nil=>exact .nil
 |@cons p q ps qs h t ih =>
  rw[bg,bg];refine .cons ?_ ih;obtain⟨h1,h2,h3⟩:=h;unfold putAt;by_cases e:p.1=k
  ·rw[aK e,aK (h1.symm.trans e)];exact⟨h1,h2,ry⟩
  ·rw[aC e,aC (λz=>e (h1.trans z))];exact⟨h1,h2,h3⟩
theorem KT.put{H:Hp}{kvs:List (List Key×V)}{xs:List (List Key×Addr×Value)}(r:KT H kvs xs)(k:List Key){b:Addr}{y:V}{u:Value}(hb:H b=some (.tup (k.map kV)))(ry:RelV y u) :
  KT H (putK kvs k y) (storedH xs k b u):=by
 have e:(kvs.any λkv=>decide (kv.1=k))=(atKey xs k).isSome:=by
  rw[Gf,(r.val k).N6,ki]
 unfold putK storedH;rw[e];by_cases q:(atKey xs k).isSome=true
 ·rw[aK q,aK q];exact r.Dc k ry
 ·rw[aC q,aC q];exact Paired.snoc r ⟨rfl,hb,ry⟩
theorem KT.keeps{H H':Hp}{kvs:List (List Key×V)}{xs:List (List Key×Addr×Value)}(r:KT H kvs xs)(ht:∀b ys,H b=some (.tup ys)->H' b=some (.tup ys)):KT H' kvs xs :=
 Paired.Fw r λ_ _ z=>⟨z.1,ht _ _ z.2.1,z.2.2⟩
section
variable{P:Program}{w:World}{H:Hp}{h:Heap}{a:Addr}
theorem Jq{u:HO}(ok:fO P w H h)(e:Rd H a u):l6 P w H h a u:=e.ok ok
theorem qW{kvs:List (Key×V)}(ok:fO P w H h)(e:Rd H a (.dK kvs)):kvs.length<=sizeLine/\(a==sysModules)=false/\∃vs,KV kvs vs/\h.DictOf (o8 P w) a vs :=
 show l6 P w H h a (.dK kvs) from Jq ok e
theorem Jf{kvs:List (Key×V)}(ok:fO P w H h)(e:H a=some (.dK kvs)):kvs.length<=sizeLine/\(a==sysModules)=false/\∃vs,KV kvs vs/\h.DictOf (o8 P w) a vs:=qW ok (.inl e)
theorem X3{ks:List Key}(ok:fO P w H h)(e:H a=some (.tup (ks.map kV))):(tupleKind (o8 P w)).is h ks a:=by
 obtain⟨_,aX,r,o,h1,h2,⟨n,h3⟩,_⟩:=(show l6 P w H h a (.tup (ks.map kV)) from ok a _ e)
 exact⟨o,aX.toArray,n,h1,h2,h3,by simpa using Gv r⟩
theorem sD{kvs:List (List Key×V)}(ok:fO P w H h)(e:Rd H a (.dT kvs)):kvs.length<=sizeLine/\(a==sysModules)=false /\
  ∃xs,KT H kvs xs/\h.DictOfH (tupleKind (o8 P w)) a xs:=by
 obtain⟨z,y,xs,r,o,es,ep,h1,h2,h3,h4,h5⟩:=(show l6 P w H h a (.dT kvs) from Jq ok e)
 refine⟨z,y,xs,r,o,es,ep,h1,h2,h3,h4,λx hx=>?_,h5⟩;have all:∀{l:List (List Key×V)} {m:List (List Key×Addr×Value)},KT H l m->∀x∈m,(tupleKind (o8 P w)).is h x.1 x.2.1:=by
  intro l m q
  induction q with
  |nil=>intro x hx;exact nomatch hx
  |@cons p q ps qs hq t ih =>
   intro x hx;rcases aE.mp hx with e|hx
   ·subst e;exact X3 ok (by rw[<- hq.1];exact hq.2.1)
   ·exact ih x hx
 exact all r x hx
theorem Vb{kvs:List (List Key×V)}(ok:fO P w H h)(e:H a=some (.dT kvs)):kvs.length<=sizeLine/\(a==sysModules)=false /\
  ∃xs,KT H kvs xs/\h.DictOfH (tupleKind (o8 P w)) a xs:=sD ok (.inl e)
end
def O1(H:Hp)(a:Addr)(y:V)(r:Option V):Prop :=
 (∃kvs k,Rd H a (.dK kvs)/\y=kV k/\r=K4 kvs k)\/∃kvs k b,Rd H a (.dT kvs)/\y=.ref b/\H b=some (.tup (k.map kV))/\r=K4 kvs k
def yg(H:Hp)(a:Addr)(y v:V)(H':Hp):Prop :=
 (∃kvs k,H a=some (.dK kvs)/\y=kV k/\kvs.length<sizeLine/\H'=upd H a (.dK (putK kvs k v))) \/
 ∃kvs k b,H a=some (.dT kvs)/\y=.ref b/\H b=some (.tup (k.map kV))/\kvs.length<sizeLine/\H'=upd H a (.dT (putK kvs k v))
theorem O1.k{H:Hp}{a:Addr}{kvs:List (Key×V)}{k:Key}(e:H a=some (.dK kvs)):O1 H a (kV k) (K4 kvs k):=.inl ⟨kvs,k,.inl e,rfl,rfl⟩
theorem yg.k{H:Hp}{a:Addr}{kvs:List (Key×V)}{k:Key}{v:V}(e:H a=some (.dK kvs))(hl:kvs.length<sizeLine):yg H a (kV k) v (upd H a (.dK (putK kvs k v))):=.inl ⟨kvs,k,e,rfl,hl,rfl⟩
section
variable{X:Cx}{pins:List (Addr×Obj)}{Z:St}{H:Hp}{s:Shared}{a:Addr}{y v:V}{u r:Value}{o:Option V}{A:Around}{E:Value->Shared->Prop}
theorem Inv.big(I:Inv X pins Z H s):sysModules<s.heap.objs.size:=by
 have h:mainGlobals<s.heap.objs.size:=(I.mod.glob.keeps I.bk).lt;exact cL (by decide) h
theorem WV{Q:Value->Shared->Prop}(hu:A.units+1<cLine)(I:Inv X pins Z H s)(g:O1 H a y (some v))(ry:RelV y u)(h:∀w' s',Inv X pins Z H s'->RelV v w'->Q w' s') :
  wpAny (model X.prog X.w) A (getItem (.ref a) u) Q E s:=by
 rcases g with⟨kvs,k,e,ey,l⟩|⟨kvs,k,b,e,ey,eb,l⟩
 ·subst ey;obtain⟨z,hd,vs,rel,dd⟩:=qW I.bK e;obtain⟨w',hw,fJ⟩:=F0.some_of (v:=v) (o:=valueAt vs k) (by rw[l];exact rel.val k);exact wpAny_getItem_of (qY ry) dd.mapOf hw (h w' _ (I.tok _) fJ)
 ·subst ey;cases (show u=Value.ref b from ry);obtain⟨z,hd,xs,rel,dd⟩:=sD I.bK e;obtain⟨w',hw,fJ⟩:=F0.some_of (v:=v) (o:=(atKey xs k).map (·.2)) (by rw[l];exact rel.val k);obtain⟨p,hp,uw⟩:=aa.mp hw;refine wpAny_getItem_heap (eY hu) (X3 I.bK eb) dd hp ?_;rw[uw];exact h w' _ (I.tok _) fJ
theorem Tg{Q:Value->Shared->Prop}(hu:A.units+1<cLine)(I:Inv X pins Z H s)(g:O1 H a y o)(ry:RelV y u)(h:∀s',Inv X pins Z H s'->Q (.bool o.isSome) s') :
  wpAny (model X.prog X.w) A (compareOp .In u (.ref a)) Q E s:=by
 rcases g with⟨kvs,k,e,ey,l⟩|⟨kvs,k,b,e,ey,eb,l⟩
 ·subst ey;obtain⟨z,hd,vs,rel,dd⟩:=qW I.bK e;refine wpAny_in_of (qY ry) hd dd.mapOf ?_;rw[<- (rel.val k).N6,<- l];exact h _ (I.tok _)
 ·subst ey;cases (show u=Value.ref b from ry);obtain⟨z,hd,xs,rel,dd⟩:=sD I.bK e;refine wpAny_in_heap (eY hu) (X3 I.bK eb) hd dd ?_;have q:=(rel.val k).N6;rw[ki] at q;rw[<- q,<- l];exact h _ (I.tok _)
theorem QZ{Q:Value->Shared->Prop}(hu:A.units+1<cLine)(I:Inv X pins Z H s)(g:O1 H a y o)(ry:RelV y u)(h:∀s',Inv X pins Z H s'->Q (.bool (!o.isSome)) s') :
  wpAny (model X.prog X.w) A (compareOp .NotIn u (.ref a)) Q E s:=by
 rcases g with⟨kvs,k,e,ey,l⟩|⟨kvs,k,b,e,ey,eb,l⟩
 ·subst ey;obtain⟨z,hd,vs,rel,dd⟩:=qW I.bK e;refine wpAny_notIn_of (qY ry) hd dd.mapOf ?_;rw[<- (rel.val k).N6,<- l];exact h _ (I.tok _)
 ·subst ey;cases (show u=Value.ref b from ry);obtain⟨z,hd,xs,rel,dd⟩:=sD I.bK e;refine wpAny_notIn_heap (eY hu) (X3 I.bK eb) hd dd ?_;have q:=(rel.val k).N6;rw[ki] at q;rw[<- q,<- l];exact h _ (I.tok _)
theorem Be{h':Heap}{t':Nat}{ob:HO}(I:Inv X pins Z H s)(mu:vY (H a))(hs:Heap.SameBut a s.heap h')(he:∃q,h'.get? a=some q)(new:l6 X.prog X.w (upd H a ob) h' a ob) :
  Inv X pins Z (upd H a ob) { s with heap:=h',toks:=t' } :=
 I.write (x:=a) (e:=a) mu (.inl rfl) (λb q hb z=>(hs.2 b hb).trans z) he new
theorem HH{P:Program}{w:World}{H':Hp}{h':Heap}{kvs:List (Key×V)}{vs:List (Key×Value)}(z:kvs.length<=sizeLine)(hd:(a==sysModules)=false)(rel:KV kvs vs)(dd:h'.DictOf (o8 P w) a vs) :
  l6 P w H' h' a (.dK kvs):=⟨z,hd,vs,rel,dd⟩
theorem WW{H':Hp}{Q:Unit->Shared->Prop}(hu:A.units+1<cLine)(I:Inv X pins Z H s)(g:yg H a y v H')(ry:RelV y u)(rv:RelV v r)(h:∀s',Inv X pins Z H' s'->Q () s') :
  wpAny (model X.prog X.w) A (setItem (.ref a) u r) Q E s:=by
 rcases g with⟨kvs,k,e,ey,l,eH⟩|⟨kvs,k,b,e,ey,eb,l,eH⟩
 ·subst ey eH;obtain⟨z,hd,vs,rel,dd⟩:=Jf I.bK e;have hz:vs.length<=sizeLine:=by rw[<- rel.length];exact z
  have hl:(putK kvs k v).length<=sizeLine:=by have:=V5 kvs k v;omega
  refine wpAny_setItem_pairs (hsz:=hz) (qY ry) dd λh' qH hs=>h _ ?_;have he:∃q,h'.get? a=some q:=let ⟨q,_,_,hq,_⟩:=qH;⟨q,hq⟩
  exact Be I (by rw[e];exact True.intro) hs he (HH hl hd (rel.put k rv) qH)
 ·subst ey eH;cases (show u=Value.ref b from ry);obtain⟨z,hd,xs,rel,dd⟩:=Vb I.bK e;have hz:xs.length<=sizeLine:=by rw[<- lE rel];exact z
  have hl:(putK kvs k v).length<=sizeLine:=by have:=V5 kvs k v;omega
  refine wpAny_setItem_heap (hsz:=hz) (eY hu) (X3 I.bK eb) dd λh' qH hs=>h _ ?_;obtain⟨q,es,ep,hq,h2,h3,h4,_,h5⟩:=qH;refine Be I (by rw[e];exact True.intro) hs ⟨q,hq⟩ ⟨hl,hd,_,(rel.put k eb rv).keeps λc ys ec=>?_,q,es,ep,hq,h2,h3,h4,h5⟩;rw[d6 (VA ec e (λz=>nomatch z))];exact ec
end
section
variable{X:Cx}{pins:List (Addr×Obj)}{Z:St}{H:Hp}{s:Shared}{a:Addr}{kvs:List (Key×V)}{k:Key}{u:Value}{A:Around}{E:Value->Shared->Prop}
theorem U'{Q:Value->Shared->Prop}(I:Inv X pins Z H s)(e:Rd H a (.dK kvs))(h:∀t s',Inv X pins Z H s'->Q (.int kvs.length t) s'):wpAny (model X.prog X.w) A (call (.builtin "len") [.ref a]) Q E s:=by
 obtain⟨z,hd,vs,rel,dd⟩:=qW I.bK e;refine call_len_dict hd dd (by rw[<- rel.length];rw[kh] at z;omega) ?_;rw[<- rel.length];exact h _ _ (I.tok _)
end
theorem YW{X:Cx}{pins:List (Addr×Obj)}{Z:St}{H:Hp}{s:Shared}{a:Addr}{y:V}{o:Option V}(I:Inv X pins Z H s)(g:O1 H a y o):s.TypeIs (.ref a) "dict":=by
 rcases g with⟨kvs,k,e,_,_⟩|⟨kvs,k,b,e,_,_,_⟩
 ·obtain⟨_,_,vs,_,dd⟩:=qW I.bK e;exact dd.typeIs
 ·obtain⟨_,_,xs,_,dd⟩:=sD I.bK e;exact dd.typeIs
section
variable{X:Cx}{o i e value:Expr}{pos pos' yG:Pos}{td ty tv:TE}
end
theorem IX{P:Program}{w:World}{H:Hp}(h:Heap)(hb:sysModules<h.objs.size):l6 P w H (h.push { cls:=.type "dict",data:=.dict #[] }) h.objs.size (.dK []) :=
 ⟨cM _,cX.mpr (bE (aN hb)),[],.nil,Heap.DictOf.new h⟩
def QB:TE:=λ_ H Q=>∀p,H p=none->Q (.ref p) (upd H p (.dK []))
section
variable{X:Cx}{pos:Pos}
theorem a35:PE X (.Dict [] [] pos) QB:=λpins s Z H Q I h =>
 wpAny_Dict_empty ⟨.ref s.heap.objs.size,_,I.laid (a:=s.heap.objs.size) (o:=.dK []) (t':=s.toks) (λ_ _ q=>av _ q) (aw _) (IX s.heap I.big),rfl,h _ (I.bK.fresh (aw _))⟩
end
def xM:List (TE×TE)->St->Hp->(List (V×V)->Hp->Prop)->Prop
 |[],_,H,Q=>Q [] H
 |(tk,tv)::r,Z,H,Q=>tk Z H λx H1=>tv Z H1 λy H2=>xM r Z H2 λps H3=>Q ((x,y)::ps) H3
noncomputable abbrev VV:List (V×V)->List (Value×Value)->Prop:=Paired λp q=>RelV p.1 q.1/\RelV p.2 q.2
def vW(X:Cx)(pos:Pos)(keys:List (Option Expr))(values:List Expr)(gP:List (TE×TE)):Prop :=
 ∀(pins:List (Addr×Obj)) (s:Shared) (Z:St) (H:Hp) (Q:List (V×V)->Hp->Prop),Inv X pins Z H s->xM gP Z H Q ->
  wpAny (model X.prog X.w) X.A (evalPairs (pairTrees keys values X.env pos)) (λvs s'=>∃ps H',Inv X pins Z H' s'/\VV ps vs/\Q ps H') X.xe s
theorem RS{X:Cx}{pos:Pos}:vW X pos [] [] []:=λpins s Z H Q I h=>pairTrees_nil_walk ⟨[],H,I,.nil,h⟩
theorem a27{X:Cx}{pos:Pos}{k v:Expr}{ks:List (Option Expr)}{vs:List Expr}{tk tv:TE}{gP:List (TE×TE)}(hk:PE X k tk)(hv:PE X v tv)(hr:vW X pos ks vs gP) :
  vW X pos (some k::ks) (v::vs) ((tk,tv)::gP):=λpins s Z H Q I h =>
 pairTrees_cons_walk (cF (hk pins s Z H _ I h) λu s1 ⟨x,H1,I1,rx,q1⟩=>cF (hv pins s1 Z H1 _ I1 q1) λw2 s2 ⟨y,H2,I2,ry,q2⟩ =>
  cF (hr pins s2 Z H2 _ I2 q2) λws s3 ⟨ps,H3,I3,rel,q3⟩=>⟨(x,y) :: ps,H3,I3,.cons ⟨rx,ry⟩ rel,q3⟩)
def R8(kvs more:List (Key×V)):List (Key×V):=more.foldl (λacc kv=>putK acc kv.1 kv.2) kvs
theorem KV.merge:∀{more:List (Key×V)} {rs:List (Key×Value)} {kvs:List (Key×V)} {vs:List (Key×Value)},KV more rs->KV kvs vs->KV (R8 kvs more) (merged vs rs):=by
 intro more rs kvs vs r;unfold KV at r
 induction r generalizing kvs vs with
 |nil=>intro q;exact q
 |@cons p q ps qs h t ih =>
  intro r0;have e:KV (putK kvs p.1 p.2) (stored vs q.1 q.2):=by
   have:=r0.put p.1 h.2;rw[<- h.1];exact this
  exact ih e
theorem HA:∀(more kvs:List (Key×V)),(R8 kvs more).length<=kvs.length+more.length
 |[],kvs=>by show kvs.length<=kvs.length+0;omega
 |p::r,kvs=>by
  have h1:=HA r (putK kvs p.1 p.2);have h2:=V5 kvs p.1 p.2;show(R8 (putK kvs p.1 p.2) r).length<=_;rw[cN];omega
theorem GO{P:Program}{w:World}:∀{kvs:List (Key×V)} {ws:List (Value×Value)},VV (kvs.map λkv=>(kV kv.1,kv.2)) ws->∃rs,Carries (o8 P w) ws rs/\KV kvs rs
 |[],_,r=>by rw[sX] at r;cases r;exact⟨[],True.intro,.nil⟩
 |p::kvs,_,r=>by
  rw[bg] at r;cases r with
  |@cons a b as bs h t =>
   obtain⟨rs,c,q⟩:=GO (P:=P) (w:=w) t;obtain⟨b1,b2⟩:=b;exact⟨(p.1,b2)::rs,⟨qY h.1,rfl,c⟩,.cons ⟨rfl,h.2⟩ q⟩
def NI(gP:List (TE×TE)):TE:=λZ H Q=>∀p,H p=none->xM gP Z (upd H p (.dK [])) λps H2=>H2 p=some (.dK [])/\∃kvs:List (Key×V),ps=kvs.map (λkv=>(kV kv.1,kv.2))/\kvs.length<=15/\Q (.ref p) (upd H2 p (.dK (R8 [] kvs)))
theorem RK{X:Cx}{pos:Pos}{keys:List (Option Expr)}{values:List Expr}{gP:List (TE×TE)}(h:vW X pos keys values gP)(ql:keys.all (·.isSome)=true)(hl:keys.length=values.length)(h0:keys≠[])(oR:keys.length<=15):PE X (.Dict keys values pos) (NI gP):=by
 intro pins s Z H Q I q;have hn:=I.bK.fresh (aw s.heap.objs.size);have I1:=I.laid (a:=s.heap.objs.size) (o:=.dK []) (h':=s.heap.push { cls:=.type "dict",data:=.dict #[] }) (t':=s.toks) (λ_ _ q=>av _ q) (aw _) (IX s.heap I.big);refine wpAny_Dict_walk (knd:=o8 X.prog X.w) ql hl h0 oR (cF (h pins _ Z _ _ I1 (q _ hn)) λws s2 bq=>?_);obtain⟨ps,H2,I2,rel,e,kvs,ep,lk,q2⟩:=bq;subst ep;obtain⟨rs,c,rk⟩:=GO (P:=X.prog) (w:=X.w) rel;obtain⟨z,hd,vs0,r0,dd⟩:=Jf I2.bK e;cases r0;refine⟨rs,c,dd,λh' qH hs=>⟨.ref s.heap.objs.size,_,?_,rfl,q2⟩⟩;have hz:(R8 [] kvs).length<=sizeLine:=by
  have h1:=HA kvs [];rw[List.length_nil] at h1;rw[kh];omega
 have he:∃q,h'.get? s.heap.objs.size=some q:=let ⟨q,_,_,hq,_⟩:=qH;⟨q,hq⟩
 exact Be I2 (by rw[e];exact True.intro) hs he (HH hz hd (rk.merge .nil) qH)
section
variable{X:Cx}{pins:List (Addr×Obj)}{Z:St}{H:Hp}{s:Shared}{a:Addr}{y d:V}{u r:Value}{o:Option V}{A:Around}{E:Value->Shared->Prop}
theorem Oe{Q:Value->Shared->Prop}(hu:A.units+1<cLine)(I:Inv X pins Z H s)(g:O1 H a y o)(ry:RelV y u)(rd:RelV d r)(h:∀w' s',Inv X pins Z H s'->RelV (o.getD d) w'->Q w' s') :
  wpAny (model X.prog X.w) A (call (.builtin "dict.get") [.ref a,u,r]) Q E s:=by
 rcases g with⟨kvs,k,e,ey,l⟩|⟨kvs,k,b,e,ey,eb,l⟩
 ·subst ey;obtain⟨z,hd,vs,rel,dd⟩:=qW I.bK e;refine call_meetsIn ip dd.typeIs sR (rj _ _ _) (meets_dict_get_default (o8 X.prog X.w) a (qY ry) hd r) ⟨_,dd.mapOf,h _ _ (I.tok _) ?_⟩;rw[l];exact(rel.val k).getD rd
 ·subst ey;cases (show u=Value.ref b from ry);obtain⟨z,hd,xs,rel,dd⟩:=sD I.bK e;refine call_meetsIn ip dd.typeIs sR (rj _ _ _) (meetsH_dict_get_default (tupleKind (o8 X.prog X.w)) a b hd r) ⟨eY hu,k,xs,X3 I.bK eb,dd,h _ _ (I.tok _) ?_⟩;rw[l];exact(rel.val k).getD rd
end
section
variable{X:Cx}{o e f:Expr}{apos fG:Pos}{td ty tx:TE}
end
section
variable{X:Cx}{pins:List (Addr×Obj)}{Z:St}{H:Hp}{s:Shared}{a:Addr}{kvs:List (Key×V)}{A:Around}{E:Value->Shared->Prop}
end
section
variable{X:Cx}{pins:List (Addr×Obj)}{Z:St}{H:Hp}{s:Shared}{a:Addr}{y:V}{u:Value}{A:Around}{E:Value->Shared->Prop}
end
end L2

namespace JI
open PySem PySem.W PySem.Calls PyProof.Rows
theorem Ww{P:Params}{h:Heap}:∀(ns:List Int) (vs:List Value),WellAll P h vs (ns.map WData.int)->IntsAre vs ns:=by
 intro ns
 induction ns with
 |nil =>
  intro vs w;rw[sX] at w;cases w;exact .nil
 |cons n ns ih =>
  intro vs w;rw[bg] at w;cases w with
  |cons a b =>
   cases a;exact .cons _ _ (ih _ b)
theorem XI{l:OpenLaw}{n:Nat}(hn:l.most=some n){P:Params}{h:Heap}{args:List WData}{vals:List Value}(nM:l.row.toRowW.claim.pre args=true)(ze:WellAll P h vals args) :
  ∃a vs ns,vals=[Value.ref a]/\args=[WData.list (ns.map WData.int)]/\h.get? a=some { cls:=.type "list",data:=.seq vs.toArray }/\IntsAre vs ns/\ns.length<=n:=by
 have ju:WShape.hasAll [] args [.list .int]=true:=(pre_splitW nM).1;have hc:l.pre.holds [] { args:=args }=true:=(pre_splitW nM).2;obtain⟨d,r,rfl,h1,h2⟩:=hasAllW_cons ju;obtain rfl:=hasAllW_nil h2;obtain⟨xs,rfl,h3⟩:=hasW_list h1;obtain⟨ns,rfl⟩:=items_int h3;have hlen:ns.length<=n:=by
  unfold OpenLaw.pre at hc;have h4:(WTm.not (.lt (.lit (.int (n:Int))) (.len (.arg 0)))).holds [] { args:=[.list (ns.map .int)] }=true:=by
   have h4:=(holds_andW hc).1;rw[hn] at h4;exact h4
  have h5:=condW_of h4 (w_not (w_lt w_lit (w_len_list (w_arg rfl))));rw[ak] at h5;refine kP λq=>?_;have q':(n:Int)<((ns.length:Nat):Int):=by omega
  first
   |(rw[aA q'] at h5;exact absurd h5 (by decide))
   |(simp at h5;omega)
 cases ze with
 |cons w1 w2 =>
  cases w2;cases w1 with
  |list ho ql=>exact⟨_,_,ns,rfl,rfl,ho,Ww ns _ ql,hlen⟩
theorem XD(l:OpenLaw)(args:List WData):l.row.toRowW.claim.post args (.bool true) args=true :=
 postW_of (r:=l.row.toRowW) (X:=(true==true))
  (show WShape.has [] (.bool true) .bool=true by first|rfl|decide|simp[WShape.has,WShape.arms,WShape.armsAll])
  (show(WTm.eq .res (.lit (.bool true))).value [] { args:=args,res:=some (.bool true),after:=args }=some (.bool (true==true)) from w_eq_bool (w_res rfl) w_lit) rfl
theorem YS{l:OpenLaw}{n:Nat}{q:Program}{loose:List Str}{XP:(Str->Option Value)->Heap->Prop}{YP:World->Heap->Prop}{d:DefRec}(hn:l.most=some n)(uI:d.params.defaults=[])(call:∀ (w:World) (cW bV:Shared) (mg mb:Str->Option Value) (fa:Addr) (o:Obj) (pm cd doc:Value) (a:Addr) (vs:List Value) (ns:List Int),
   Ground q loose [] XP w cW mg mb bV.heap->YP w bV.heap ->
   bV.heap.get? fa=some o->o.data=.func (docDef d.name d.params d.body d.scope pm cd doc)->bV.heap.CodeRec cd d.name->mg d.name=some (.ref fa) ->
   bV.heap.get? a=some { cls:=.type "list",data:=.seq vs.toArray }->IntsAre vs ns->ns.length<=n->bV.gens=#[] ->
   codeAny (model l.prog w) callerA (.call (.ref fa) ⟨[.ref a],[]⟩) (λr s'=>r=.ok (.ret (.bool true))/\OldK bV.heap s'.heap/\s'.os=bV.os/\AllBare s'.gens) bV) :
  WalkO q loose XP YP l.row.toRowW d [] (λf vs=>PySem.call f vs):=by
 intro w cW bV mg mb G Y fa o pm cd doc dV kV ho hd lq hD hmg hg args vals as nM Lx hrd ze Eo;obtain rfl:dV=.none:=Dflts.none hD uI;obtain rfl:kV=.none:=Dflts.noKw hD;obtain⟨a,vs,ns,rfl,rfl,iE,hints,hlen⟩:=XI hn nM ze;refine enter_call (gi (call w cW bV mg mb fa o pm cd doc a vs ns G Y ho (fd_plain hd) lq hmg iE hints hlen hg) λr s' hq=>?_);obtain⟨rfl,h2,h3,h4⟩:=hq;exact⟨.inl ⟨.bool true,.bool true,[],rfl,λ_=>rfl,.bool true,XD l _,λ_=>⟨List.Pairwise.nil,λ_ hm=>(nomatch hm)⟩⟩,h2,h3,h4⟩
section
variable{prog:Program}{w:World}{A:Around}{E:Value->Shared->Prop}{s:Shared}{K:Frag}
end
end JI
namespace L2
open PySem PySem.Spec PyProof.Rows
theorem GI:∀{vs:List Value} {ns:List Int},IntsAre vs ns->Vals (ns.map V.int) vs
 |_,_,.nil=>.nil
 |_,_,.cons n t h=>.cons ⟨t,rfl⟩ (GI h)
def yh(H:Hp):Prop:=∀b,H b=none\/∃o xs,H b=some (.jw o (.lst xs))
theorem ZP{P:Program}{w:World}{K:PySem.W.Frag}{mg mb:Str->Option Value}{CX:nc}{k:Nat}{fa a:Addr}{fd:FuncData}{x:Str}{sp:Sp}{bV:Shared}{vs:List Value}{ns:List Int}(KX:K.In bV.heap)(qd:bV.heap.Ns mainGlobals mg)(hb:bV.heap.Ns builtinsNs mb)(zN:∀x:Str,x≠"__name__"->mb x=bootBuiltins x)(zB:bV.heap.NoLimit)(hg:bV.gens=#[])(ha:bV.heap.get? a=some { cls:=.type "list",data:=.seq vs.toArray })(hi:IntsAre vs ns)(hl:ns.length<=sizeLine)(hr:u9 k callerA)(F:∀base:Heap,K.In base->base.Ns mainGlobals mg->hV P w K mg base CX k fa fd [x] sp)(uM:∀(s:Shared) (u:Value),BindsTo s fd ⟨[u],[]⟩ [(x,u)])(rF:∀H:Hp,yh H->fB K H a (ns.map V.int)->sp [.ref a] H (λv _=>v=.bl true) λ_ _ _=>False)(zZ:∀H e s',CX [] H bV (λ_ _ _=>False) e s'->False) :
  codeAny (model P w) callerA (.call (.ref fa) ⟨[.ref a],[]⟩) (λr s'=>r=.ok (.ret (.bool true))/\OldK bV.heap s'.heap/\s'.os=bV.os/\AllBare s'.gens) bV:=by
 have rv:=GI hi;have yW:=hi.length;have core:∀H:Hp,yh H->fB K H a (ns.map V.int)->fO P w H bV.heap->(∀b,H b≠none->b=a)->(H a≠none->K.lookup a=none) ->
   codeAny (model P w) callerA (.call (.ref fa) ⟨[.ref a],[]⟩) (λr s'=>r=.ok (.ret (.bool true))/\OldK bV.heap s'.heap/\s'.os=bV.os/\AllBare s'.gens) bV:=by
  intro H hO hS bK hA hK;have Q2:∀{b:Addr} {o:Obj},bV.heap.get? b=some o->H b=none->(oh bV.heap H).get? b=some o:=λe n=>ZI e n;have tU:∀{b:Addr} {o:Obj} {es:Array DictEntry} {ep:Nat},bV.heap.get? b=some o->o.data=.dict es ep->H b=none:=λ{b o es ep} e d=>by
   cases q:H b with
   |none=>rfl
   |some u =>
    have e':b=a:=hA b (by rw[q];simp);subst e';rw[ha] at e;cases e;have d':Data.seq vs.toArray _=Data.dict es ep:=d;cases d'
  have wD:∀{b:Addr} {m:Str->Option Value},bV.heap.Ns b m->(oh bV.heap H).Ns b m:=λ{b m} ⟨o,es,ep,e,d,r⟩=>⟨o,es,ep,Q2 e (tU e d),d,r⟩
  have EM:K.In (oh bV.heap H):=λb o e=>Q2 (KX b o e) (by
   cases q:H b with
   |none=>rfl
   |some u =>
    have e':b=a:=hA b (by rw[q];simp);subst e';rw [hK (by rw [q];simp)] at e;cases e)
  have hM:Mod K mg (oh bV.heap H):=⟨EM,wD qd,⟨mb,wD hb,zN⟩,let ⟨mc,h1,h2⟩:=zB;⟨mc,wD h1,h2⟩⟩
  have e0:qN P w K mg (oh bV.heap H) callerA [] bV H:=⟨rfl,hM,λb o e=>Ry e,sV (Xb _ _),trivial,λb hb=>absurd (show b∈([]:List Addr) from hb) (by simp),bK,.of_eq hg⟩
  refine gi ((F _ EM (wD qd)).run callerA [] bV H ⟨[.ref a],[]⟩ [.ref a] [.ref a] _ _ hr e0 (uM bV (.ref a)) (.cons rfl .nil) (rF H hO hS)) λr s' h=>?_;cases r with
  |error e=>exact(zZ H e s' h).elim
  |ok fl =>
   cases fl with
   |next=>exact False.elim h
   |brk=>exact False.elim h
   |cont=>exact False.elim h
   |ret u =>
    obtain⟨v,H',os,bare,un,zm,r',q⟩:=h;have q':v=.bl true:=q;subst q';obtain rfl:u=Value.bool true:=r';refine⟨rfl,OldK.of_keep λb o e=>?_,os,bare⟩;cases q:H b with
    |none=>exact un.keep b o e q (by intro z;exact absurd (show b∈([]:List Addr) from z) (by simp)) (by simp)
    |some u =>
     rcases hO b with z|⟨ob,xs,z⟩
     ·rw[q] at z;cases z
     ·have z2:=un.gw b ob _ z;obtain⟨e1,_⟩:=bK b _ z;obtain⟨e2,_⟩:=zm b _ z2;rw[e] at e1;cases e1;exact e2
 cases hk:K.lookup a with
 |some o =>
  have e:=KX a o hk;rw[ha] at e;cases e;refine core (λ_=>none) (λ_=>.inl rfl) (.inr ⟨_,vs.toArray,_,hk,rfl,rfl,rfl,by rw[aH,yW];exact hl,by simpa using rv⟩) (λb u z=>by have z':(none:Option HO)=some u:=z;cases z') (λb z=>absurd rfl z) λz=>absurd rfl z
 |none =>
  refine core (λb=>if b=a then some (.jw { cls:=.type "list",data:=.seq vs.toArray } (.lst (ns.map V.int))) else none) (λb=>?_) (.inl (.inr ⟨{ cls:=.type "list",data:=.seq vs.toArray },aK rfl⟩)) (λb u z=>?_) (λb z=>?_) λ_=>hk
  ·by_cases hb:b=a
   ·exact .inr ⟨_,_,aK hb⟩
   ·exact .inl (aC hb)
  ·by_cases hb:b=a
   ·have z':=(aK hb).symm.trans z;cases z';subst hb;exact⟨ha,by rw[ak];exact hl,vs,_,rv,ha⟩
   ·have z':=(aC hb).symm.trans z;cases z'
  ·by_cases hb:b=a
   ·exact hb
   ·exact absurd (aC hb) z
theorem SJ{l:PySem.W.OpenLaw}{n k:Nat}{q:Program}{loose:List Str}{XP:(Str->Option Value)->Heap->Prop}{YP:World->Heap->Prop}{d:DefRec}{K:Params->PySem.W.Frag}{CX:World->nc}{sp:World->Sp}{x:Str}(hn:l.most=some n)(oN:n<=sizeLine)(uI:d.params.defaults=[])(hr:u9 k callerA)(hY:∀(w:World) (h:Heap),YP w h->(K w.params).In h)(F:∀ (w:World) (mg:Str->Option Value) (fa:Addr) (h:Heap),(K w.params).In h->h.Ns mainGlobals mg->mg d.name=some (.ref fa) ->
   ∃fd:FuncData,(∀(s:Shared) (u:Value),BindsTo s fd ⟨[u],[]⟩ [(x,u)]) /\
    ∀ base:Heap,(K w.params).In base->base.Ns mainGlobals mg->hV l.prog w (K w.params) mg base (CX w) k fa fd [x] (sp w))(rF:∀(w:World) (H:Hp) (a:Addr) (ns:List Int),ns.length<=n->yh H->fB (K w.params) H a (ns.map V.int)->sp w [.ref a] H (λv _=>v=.bl true) λ_ _ _=>False)(zZ:∀(w:World) (H:Hp) (s:Shared) (e:Value) (s':Shared),CX w [] H s (λ_ _ _=>False) e s'->False) :
  PySem.W.WalkO q loose XP YP l.row.toRowW d [] (λf vs=>PySem.call f vs):=by
 refine JI.YS hn uI λw cW bV mg mb fa o pm cd doc a vs ns G Y ho hd lq hmg iE hints hlen hg=>?_;have KX:=hY w _ Y;obtain⟨fd,hb,hF⟩:=F w mg fa _ KX G.T.g hmg;exact ZP KX G.T.g G.T.b G.T.builtins G.T.nolimit hg iE hints (aD hlen oN) hr hF hb (λH hO hS=>rF w H a ns hlen hO hS) λH e s'=>zZ w H bV e s'
def A7(s:Stmt):Arguments:=match s with
 |.FunctionDef _ a _ _ _ _ _ _ _ _=>a
 |_=>{ posonlyargs:=[],args:=[],vararg:=none,kwonlyargs:=[],kw_defaults:=[],kwarg:=none,defaults:=[] }
def n6(s:Stmt):List Stmt:=match s with
 |.FunctionDef _ _ b _ _ _ _ _ _ _=>b
 |_=>[]
def n5(s:Stmt):Scope:=match s with
 |.FunctionDef _ _ _ _ _ _ sc _ _ _=>sc
 |_=>{ kind:=.function,names:=[],isGenerator:=false,isCoroutine:=false }
structure pC(K:PySem.W.Frag)(x qual:Str)(st:Stmt)(f:Addr)(fd:FuncData):Prop where
 ex:∃(oc:Value) (od:Option Addr) (kV doc pm:Value) (an:Option Addr) (fu ct:Value) (lL:Array (Option Value)),
  fd=PySem.W.fnOf x qual (A7 st) (n6 st) (n5 st) .none kV doc pm an fu ct/\K.lookup f=some ⟨oc,od,.func fd,lL⟩/\PySem.W.codeIn K fu qual=true
 kp:PySem.W.keepIn K (.ref f)=true
section
variable{P:Program}{w:World}{K:PySem.W.Frag}{mg:Str->Option Value}{base:Heap}
theorem pC.binds{x qual:Str}{st:Stmt}{f:Addr}{fd:FuncData}{ps:List Str}(F:pC K x qual st f fd)(h:∀(kV doc pm:Value) (an:Option Addr) (fu ct:Value) (us:List Value),us.length=ps.length->bindArgs (PySem.W.fnOf x qual (A7 st) (n6 st) (n5 st) .none kV doc pm an fu ct) ⟨us,[]⟩=pure (ps.zip us)):Binds K fd ps []:=by
 obtain⟨oc,od,kV,doc,pm,an,fu,ct,lL,rfl,lk,lq⟩:=F.ex;exact .all (h kV doc pm an fu ct)
theorem HJ{x qual:Str}{st:Stmt}{f:Addr}{oc:Value}{od an:Option Addr}{lL:Array (Option Value)}{kV doc pm fu ct:Value}(l:K.lookup f=some ⟨oc,od,.func (PySem.W.fnOf x qual (A7 st) (n6 st) (n5 st) .none kV doc pm an fu ct),lL⟩)(c:PySem.W.codeIn K fu qual=true)(k:PySem.W.keepIn K (.ref f)=true):pC K x qual st f (PySem.W.fnOf x qual (A7 st) (n6 st) (n5 st) .none kV doc pm an fu ct):=⟨⟨oc,od,kV,doc,pm,an,fu,ct,lL,rfl,l,c⟩,k⟩
end
section
variable{X:Cx}
theorem WN:l9 X (.builtin "len") (λxs H Q=>∃a kvs,xs=[V.ref a]/\H a=some (.dK kvs)/\Q (.int kvs.length) H):=by
 intro pins s Z H xs us Q I r h;obtain⟨a,kvs,rfl,ha,q⟩:=h;obtain⟨u,rfl,ru⟩:=vals1 r;cases ru;exact U' I (.inl ha) λt s' I'=>⟨.int kvs.length,H,I',⟨t,rfl⟩,q⟩
end
section
variable{κ:Type}[DecidableEq κ]
end
end L2

namespace L2
open PySem PySem.Spec PyProof.Rows
section
variable{prog:Program}{w:World}{A:Around}{R:Result->Shared->Prop}{s:Shared}
theorem Zm{elt target iter:Expr}{ifs:List Expr}{scope:Scope}{pos:Pos}{it acc:Value}{env:Env}(I:Nat->Shared->Prop)(turn:∀ n s,I n s->wpAny (model prog w) A (pyNext it) (λr bV=>match r with
   |none=>R (.ok .next) bV
   | some v=>wpAny (model prog w) A (letOwnedTupleGo target it v) (λ_ bV=>wpAny (model prog w) A (assign target env v) (λ_ fT =>
     wpAny (model prog w) A (forIn ifs true λc r=>if r=true then do let ok <- isTrue c env (eval c env);pure (ForInStep.yield ok) else pure (ForInStep.yield r)) (λok eP =>
      if ok=true then wpAny (model prog w) A (eval elt env) (λx jq =>
       wpAny (model prog w) A (call (.builtin "list.append") [acc,x]) (λ_ lZ=>∃ m,m < n/\I m lZ) (λ_ _=>False) jq) (notedBy (model prog w) A env λe s'=>R (.error e) s') eP
      else ∃ m,m < n/\I m eP) (λ_ _=>False) fT) (λ_ _=>False) bV) (λ_ _=>False) bV) (λ_ _=>False) s)(n:Nat)(h:I n s) :
  codeAny (model prog w) A (.compLoop (.ListComp elt [⟨target,iter,ifs,0⟩] scope pos) 0 it acc env) R s:=by
 refine codeAny_loop rfl I (λn s hI=>?_) n h;show wpAny _ A ((compTurn (.ListComp elt [⟨target,iter,ifs,0⟩] scope pos) 0 it acc env).onRaise (λx=>do noteFrame x env;theTreesLotGoes x)) _ _ s;refine wpAny_noted ?_;rw[compTurn_list];refine ae (dM (ae (bx (turn n s hI) (λr bV dw=>?_) λ_ _ h'=>h'.elim)));cases r with
 |none=>exact au dw
 |some v =>
  refine ae (bx dw (λ_ bV dw=>?_) λ_ _ h'=>h'.elim);refine ae (bx dw (λ_ fT iD=>ae (bx iD (λok eP mz=>?_) λ_ _ h'=>h'.elim)) λ_ _ h'=>h'.elim);cases ok with
  |false=>exact wpAny_pure ⟨rfl,mz⟩
  |true =>
   exact ae (ae (bx mz (λx jq qb=>ae (bx qb (λ_ lZ qa=>au (au ⟨rfl,qa⟩)) λ_ _ h'=>h'.elim)) λ_ _ h'=>h'))
end
def kO(X:Cx)(es:List Expr)(t:TT):Prop :=
 ∀(pins:List (Addr×Obj)) (s:Shared) (Z:St) (H:Hp) (Q:Bool->Hp->Prop),Inv X pins Z H s->t Z H Q ->
  wpAny (model X.prog X.w) X.A (forIn es true λc r=>if r=true then do let ok <- isTrue c X.env (eval c X.env);pure (ForInStep.yield ok) else pure (ForInStep.yield r)) (TP X pins Z Q) X.xe s
def UC:TT:=λ_ H Q=>Q true H
section
variable{X:Cx}
theorem RY:kO X [] UC:=λpins s Z H Q I h=>au ⟨H,I,h⟩
theorem RZ{c:Expr}{t:TT}(h:PT X c t):kO X [c] t:=by
 intro pins s Z H Q I q;simp only[List.forIn_cons,List.forIn_nil,if_true];exact ae (ae (bx (h pins s Z H Q I q) (λb s' hb=>au (au hb)) λ_ _ x=>x))
end
def J9(scope:Scope)(cl:List (Str×Addr))(C:Addr):List (Str×Addr):=cellsFrom (C+1) scope.names []++cl
theorem E1:∀(names:List (Str×NameKind)) (n:Nat) (acc:List (Str×Addr)),cellsFrom n names acc=cellsFrom n names []++acc
 |[],_,_=>rfl
 |(y,k)::r,n,acc=>by
  unfold cellsFrom;split
  ·rw[E1 r (n+1) ((y,n)::acc),E1 r (n+1) [(y,n)],eV]
   rfl
  ·exact E1 r n acc
theorem T2{x:Str}{c:Addr}:∀{names:List (Str×NameKind)} {n:Nat},(x,c)∈cellsFrom n names []->(x,NameKind.cell)∈names
 |[],_,h=>by simp[cellsFrom] at h
 |(y,k)::r,n,h=>by
  unfold cellsFrom at h;split at h
  ·rename_i hk;rw[E1] at h;rcases aV.mp h with z|z
   ·exact bo _ (T2 z)
   ·cases aY.mp z;rw[show k=NameKind.cell from by simpa using hk];exact fR
  ·exact bo _ (T2 h)
theorem F5{α:Type}{x:Str}:∀{a b:List (Str×α)},(a++b).lookup x=(a.lookup x).or (b.lookup x)
 |[],_=>rfl
 |(y,v)::r,b=>by
  rw[List.cons_append,cC,cC];cases x==y
  ·exact F5
  ·rfl
theorem Gp{scope:Scope}{cl:List (Str×Addr)}{C:Addr}{x:Str}(h:scope.names.lookup x=some .cell\/∃c,cl.lookup x=some c):∃c,(J9 scope cl C).lookup x=some c:=by
 unfold J9;rw[F5];cases e:(cellsFrom (C+1) scope.names []).lookup x with
 |some c=>exact⟨c,rfl⟩
 |none =>
  rcases h with h|h
  ·have q:=dj scope.names (C+1) [] (.inl h);rw[e] at q;cases q
  ·exact h
theorem L5{env:Env}:∀{names:List (Str×NameKind)} {x:Str},names.lookup x=some .cell ->
  (names.map λ(n,k)=>if(k==NameKind.free&&env.scope.kind==.function&&env.kindOf n==some .cell) then(n,NameKind.cell) else(n,k)).lookup x=some .cell
 |[],_,h=>by simp at h
 |(n,k)::r,x,h=>by
  have ih:=@L5 env r x;show List.lookup x ((if(k==NameKind.free&&env.scope.kind==.function&&env.kindOf n==some .cell)=true then(n,NameKind.cell) else(n,k))::_)=_;cases hx:x==n with
  |true =>
   simp only[List.lookup_cons,hx] at h;cases h;simp[List.lookup_cons,hx]
  |false =>
   simp only[List.lookup_cons,hx] at h;by_cases hc:(k==NameKind.free&&env.scope.kind==.function&&env.kindOf n==some .cell)=true
   ·rw[aK hc];simp only[List.lookup_cons,hx];exact ih h
   ·rw[aC hc];simp only[List.lookup_cons,hx];exact ih h
theorem ye{scope:Scope}{cl:List (Str×Addr)}{C:Addr}{h:Heap}(ck:CellsOk h (C+1) (cellsFrom (C+1) scope.names [])){x:Str}{c:Addr}(e:(J9 scope cl C).lookup x=some c):C<c\/cl.lookup x=some c:=by
 unfold J9 at e;rw[F5] at e;cases e2:(cellsFrom (C+1) scope.names []).lookup x with
 |some c' =>
  rw[e2] at e;cases e;exact .inl (ck.empty x c (aP e2)).2
 |none =>
  rw[e2] at e;exact .inr e
theorem HB{M:Model}{A:Around}{E:Value->Shared->Prop}{s:Shared}{scope:Scope}{globals:Addr}{cl:List (Str×Addr)}{qual:Str}{outer:Env}{Q:Env->Shared->Prop}(hQ:∀ dw:Heap,dw.Ns s.heap.objs.size (λ_=>none)->(∀ b o,s.heap.get? b=some o->dw.get? b=some o)->CellsOk dw (s.heap.objs.size + 1) (cellsFrom (s.heap.objs.size + 1) scope.names []) ->
   Q (newEnv scope s.heap.objs.size globals (J9 scope cl s.heap.objs.size) qual none .none (some outer) builtinsNs) { s with heap:=dw }) :
  wpAny M A (newFunctionEnv scope globals cl [] qual none .none (some outer)) Q E s:=by
 simp only[newFunctionEnv,Option.isSome_some,if_true];refine ae (wpAny_alloc ?_);refine ae (wpAny_layCells _ (λname kind cells=>by cases LC:kind==NameKind.cell<;>simp[LC]) _ _ _ _ ?_);have ok:=cellsFrom_ok scope.names (s.heap.push { cls:=.type "dict",data:=.dict #[] }) (s.heap.objs.size+1) [] ⟨λ_ _ hm=>(nomatch hm),List.Pairwise.nil⟩ (by rw[eA];exact aw _);rw[eA] at ok;rw[show({ s with heap:=s.heap.push { cls:=.type "dict",data:=.dict #[] } }:Shared).heap.objs.size=s.heap.objs.size+1 from eA ..];rw[List.forIn_nil];refine ae (au (au ?_));rw[E1];exact hQ _ ((Heap.Ns.new s.heap (.type "dict")).keeps (pushCells_keeps _ _)) (λb o e=>pushCells_keeps _ _ b o (av _ e)) ok
def d4(X:Cx)(pins:List (Addr×Obj))(scope:Scope)(N':List Str)(cl:List (Str×Addr))(C:Addr)(s:Shared)(H:Hp)(fp:List Addr):Cx where
 prog:=X.prog
 w:=X.w
 K:=X.K
 mg:=X.mg
 base:=X.base
 A:=X.A
 N:=N'
 cW:=s
 iZ:=H
 env:=compEnvC scope (J9 scope cl C) C X.env
 outer:=X.stack
 stack:=X.stack
 ex:=fp
 calm:=true
 fn:=λx=>decide (scope.names.lookup x=some .cell)
 pn:=X.pn++pins
 xe:=λ_ _=>False
structure da(X:Cx)(scope:Scope)(N':List Str)(c8:List Nat)(cl:List (Str×Addr)):Prop where
 kind:scope.kind=.function
 cells:∀y∈scope.names,y.2=.cell->scope.names.lookup y.1=some .cell
 names:∀y∈scope.names,y.2=.local->scope.names.lookup y.1=some .local
 qJ:closureFor scope X.env=pure cl
 cin:∀x c,cl.lookup x=some c->X.env.cells.lookup x=some c
 vo:∀x,scope.names.lookup x=some .free->∃c,cl.lookup x=some c
 nd:N'.Nodup
 Nu:∀(i j:Nat),c8[i]?=some j->∃x,N'[i]?=some x/\X.N[j]?=some x/\scope.names.lookup x=some .free/\(X.env.kindOf x=some .cell\/X.env.kindOf x=some .free)
 AH:c8.length<=N'.length
theorem E3{env:Env}:∀{names:List (Str×NameKind)} {x:Str},names.lookup x=some .free ->
  (names.map λ(n,k)=>if(k==NameKind.free&&env.scope.kind==.function&&env.kindOf n==some .cell) then(n,NameKind.cell) else(n,k)).lookup x=some .cell \/
  (names.map λ(n,k)=>if(k==NameKind.free&&env.scope.kind==.function&&env.kindOf n==some .cell) then(n,NameKind.cell) else(n,k)).lookup x=some .free
 |[],_,h=>by simp at h
 |(n,k)::r,x,h=>by
  have ih:=@E3 env r x;show List.lookup x ((if(k==NameKind.free&&env.scope.kind==.function&&env.kindOf n==some .cell)=true then(n,NameKind.cell) else(n,k))::_)=_\/List.lookup x ((if(k==NameKind.free&&env.scope.kind==.function&&env.kindOf n==some .cell)=true then(n,NameKind.cell) else(n,k))::_)=_;cases hx:x==n with
  |true =>
   simp only[List.lookup_cons,hx] at h;cases h;by_cases hc:(NameKind.free==NameKind.free&&env.scope.kind==.function&&env.kindOf n==some .cell)=true
   ·rw[aK hc];simp[List.lookup_cons,hx]
   ·rw[aC hc];simp[List.lookup_cons,hx]
  |false =>
   simp only[List.lookup_cons,hx] at h;by_cases hc:(k==NameKind.free&&env.scope.kind==.function&&env.kindOf n==some .cell)=true
   ·rw[aK hc];simp only[List.lookup_cons,hx];exact ih h
   ·rw[aC hc];simp only[List.lookup_cons,hx];exact ih h
theorem L6{env:Env}:∀{names:List (Str×NameKind)} {x:Str},((names.map λ(n,k)=>if(k==NameKind.free&&env.scope.kind==.function&&env.kindOf n==some .cell) then(n,NameKind.cell) else(n,k)).lookup x=some .cell \/
  (names.map λ(n,k)=>if (k == NameKind.free && env.scope.kind == .function && env.kindOf n == some .cell) then (n,NameKind.cell) else (n,k)).lookup x=some .free)->names.lookup x=some .free \/ names.lookup x=some .cell
 |[],_,h=>by simp at h
 |(n,k)::r,x,h=>by
  have ih:=@L6 env r x;rw[bg] at h;cases hx:x==n with
  |true =>
   simp only[List.lookup_cons,hx];by_cases hc:(k==NameKind.free&&env.scope.kind==.function&&env.kindOf n==some .cell)=true
   ·left;simp only[Bool.and_eq_true,beq_iff_eq] at hc;rw[hc.1.1]
   ·simp only[if_neg hc,List.lookup_cons,hx] at h;rcases h with h|h
    ·exact .inr h
    ·exact .inl h
  |false =>
   simp only[List.lookup_cons,hx];by_cases hc:(k==NameKind.free&&env.scope.kind==.function&&env.kindOf n==some .cell)=true
   ·simp only[if_pos hc,List.lookup_cons,hx] at h;exact ih h
   ·simp only[if_neg hc,List.lookup_cons,hx] at h;exact ih h
def B7(Z:St)(c8:List Nat)(n:Nat):St:=c8.map (λj=>(Z[j]?).join)++List.replicate (n-c8.length) none
section
variable{X:Cx}{pins:List (Addr×Obj)}{Z:St}{H:Hp}{s:Shared}
theorem Inv.GQ{scope:Scope}{N':List Str}{c8:List Nat}{cl:List (Str×Addr)}{C:Addr}{h1:Heap}{fp:List Addr}{tk:Nat}(I:Inv X pins Z H s)(S:da X scope N' c8 cl)(hc:X.calm=true)(hf:∀b∈fp,B9 X pins H b)(ho:∀b∈fp,∃o,s.heap.get? b=some o)(hC:s.heap.objs.size<=C)(hn:∃m,h1.Ns C m)(k:∀b o,s.heap.get? b=some o->h1.get? b=some o)(ck:CellsOk h1 (C+1) (cellsFrom (C+1) scope.names [])) :
  Inv (d4 X pins scope N' cl C s H fp) [] (B7 Z c8 N'.length) H { s with heap:=h1,toks:=tk }:=by
 obtain⟨m,hm⟩:=hn;have LB:(relabel scope X.env).kind=.function:=S.kind;have DN:∀b o,s.heap.get? b=some o->b≠C:=λb o e z=>absurd (aB e) (by rw[z];exact jF.mpr hC);have two:∀{x:Str} {c:Addr},(J9 scope cl C).lookup x=some c->(C<c/\h1.IsCell c none/\(x,c)∈cellsFrom (C+1) scope.names [])\/(cl.lookup x=some c/\(cellsFrom (C+1) scope.names []).lookup x=none):=λ{x c} h=>by
  unfold J9 at h;rw[F5] at h;cases e:(cellsFrom (C+1) scope.names []).lookup x with
  |some c' =>
   rw[e] at h;cases h;have hm:=aP e;exact .inl ⟨(ck.empty x c hm).2,(ck.empty x c hm).1,hm⟩
  |none =>
   rw[e] at h;exact .inr ⟨h,rfl⟩
 have tP:∀{x:Str} {c:Addr},cl.lookup x=some c->c<s.heap.objs.size:=λ{x c} h=>by
  obtain⟨v,o,e,_⟩:=I.cell x c (S.cin x c h);exact aB e
 have frees:∀{x:Str},scope.names.lookup x=some .free->(J9 scope cl C).lookup x=cl.lookup x:=λ{x} h=>by
  unfold J9;rw[F5];cases e:(cellsFrom (C+1) scope.names []).lookup x with
  |some c' =>
   have:=S.cells _ (T2 (aP e)) rfl;rw[h] at this;cases this
  |none=>rfl
 refine⟨⟨I.mod,LB,I.ok.glob,I.ok.blt,hC,?_,?_,?_,λ_=>I.ok.hd hc,I.ok.frames,.inl rfl,?_,I.bs,?_,?_,?_,I.stack,I.yc⟩,rfl,I.bare,Un.kept k,⟨m,hm,?_⟩,?_,?_,?_,?_,I.bK.kept k,?_⟩
 ·intro x y c h1 h2;rcases two h1 with⟨l1,_,q1⟩|⟨q1,_⟩<;>rcases two h2 with⟨l2,_,q2⟩|⟨q2,_⟩
  ·exact PySem.name_of_addr ck.apart q1 q2
  ·exact absurd (cL l1 (ay (tP q2) hC)) (bw _)
  ·exact absurd (cL l2 (ay (tP q1) hC)) (bw _)
  ·exact I.ok.inj x y c (S.cin x c q1) (S.cin y c q2)
 ·intro x hx;rcases L6 (env:=X.env) (names:=scope.names) hx with z|z
  ·obtain⟨c,hc⟩:=S.vo x z;exact⟨c,(frees z).trans hc⟩
  ·have q:=dj scope.names (C+1) [] (.inl z);obtain⟨c,hc⟩:=et.mp q;refine⟨c,?_⟩;show(J9 scope cl C).lookup x=some c;unfold J9;rw[F5,hc]
   rfl
 ·intro x c hf h;have z:scope.names.lookup x=some .cell:=bt hf;have q:=dj scope.names (C+1) [] (.inl z);rcases two h with⟨l,_⟩|⟨_,e⟩
  ·exact dP (dk hC l)
  ·rw[e] at q;cases q
 ·intro b hb;obtain⟨f0,f1,f2,f3,f4,f5⟩:=hf b hb;obtain⟨o,e⟩:=ho b hb;refine⟨DN b o e,λx c h=>?_⟩;rcases two h with⟨l,_⟩|⟨q,_⟩
  ·intro z;subst z;exact absurd (cL l (ay (aB e) hC)) (bw _)
  ·exact f4 x c (S.cin x c q)
 ·exact aD I.ok.mW I.sz
 ·intro b o e hb;obtain⟨f0,f1,f2,f3,f4,f5⟩:=hf b hb;rcases f3 with f3|f3
  ·exact I.ok.jP b o e f3
  ·exact absurd (aB (I.ok.bs b o e).1) (jF.mpr f3)
 ·intro b hb z;obtain⟨f0,f1,f2,f3,f4,f5⟩:=hf b hb;rcases aE.mp (I.K7 b z) with z|z
  ·exact f1 z
  ·exact f2 z
 ·intro i x v MF h2 h3;have hi:i<c8.length:=by
   unfold B7 at h2;by_cases hi:i<c8.length
   ·exact hi
   ·rw[cv (by simpa using hi),cY] at h2;split at h2<;>cases h2
  obtain⟨j,hj⟩:∃j,c8[i]?=some j:=⟨_,aj hi⟩
  have hs:Z[j]?=some (some v):=by
   unfold B7 at h2;rw[aF (by simpa using hi),ag,hj] at h2;simp only[Option.map_some] at h2;cases e:Z[j]? with
   |none=>rw[e] at h2;cases h2
   |some a=>rw[e] at h2;exact fP some (aM h2)
  obtain⟨y,KW,KU,zc,Ef⟩:=S.Nu i j hj;have ey:y=x:=by
   have uX:N'[i]?=some x:=MF;rw[KW] at uX;exact aM uX
  subst ey;obtain⟨m0,hm0,hl⟩:=I.loc;obtain ⟨u,ru,hu⟩:=hl j y v KU hs (by
   rcases Ef with z|z
   ·exact .inr (.inl z)
   ·exact .inr (.inr z))
  refine⟨u,ru,.inr ⟨E3 (env:=X.env) (names:=scope.names) zc,?_⟩⟩;rcases hu with⟨z,_⟩|⟨_,c,qi,mL⟩
  ·rcases Ef with z'|z'<;>(rw[z'] at z;cases z)
  ·obtain⟨c',iG⟩:=S.vo y zc;have e:=S.cin y c' iG;rw[qi] at e;cases e;obtain⟨o,e1,e2⟩:=mL;exact⟨c,(frees zc).trans iG,o,k _ _ e1,e2⟩
 ·intro x c h;rcases two h with⟨_,q,_⟩|⟨q,_⟩
  ·exact⟨none,q⟩
  ·obtain⟨v,o,e1,e2⟩:=I.cell x c (S.cin x c q);exact⟨v,o,k _ _ e1,e2⟩
 ·exact I.bK.fresh hC
 ·intro x c h;rcases two h with⟨l,_⟩|⟨q,_⟩
  ·exact I.bK.fresh (dP (dk hC l))
  ·exact I.dZ x c (S.cin x c q)
 ·intro p hp;have jv:p∈X.pn++pins:=by simpa[d4] using hp
  obtain⟨p1,p2,p3,p4,p5⟩:=I.pin p jv;refine⟨k _ _ p1,p2,DN _ _ p1,λz=>?_,p5⟩;rcases aE.mp (I.K7 _ z) with z|z
  ·exact p3 z
  ·exact p4 z
 ·unfold B7;show _=N'.length;rw[aZ,ak,iu];have:=S.AH;omega
theorem Inv.IV{scope:Scope}{N':List Str}{cl:List (Str×Addr)}{C:Addr}{fp:List Addr}{iz:List (Addr×Obj)}{bN:St}{H':Hp}{s':Shared}(I:Inv X pins Z H s)(hf:∀b∈fp,B9 X pins H b)(J:Inv (d4 X pins scope N' cl C s H fp) iz bN H' s'):Inv X pins Z H' s' :=
 I.Cb (ch:=fp) J.os J.base J.bK J.bare λb hb=>by
  obtain⟨f0,f1,f2,f3,f4,f5⟩:=hf b hb;exact⟨f3,f1,f4,f5⟩
theorem Inv.NQ{D:Addr}{ys:List V}{aX:List Value}{n:Nat}(I:Inv X pins Z H s)(f:B9 X pins H D)(hs:X.cW.heap.objs.size<=D)(hv:Vals ys aX)(hz:ys.length<=sizeLine)(ho:s.heap.get? D=some { cls:=.type "list",data:=.seq aX.toArray n }):Inv X pins Z (upd H D (.lst ys)) s:=by
 obtain⟨f0,f1,f2,f3,f4,f5⟩:=f;have dG:∀b o,X.cW.heap.get? b=some o->b≠D:=λb o e z=>absurd (aB e) (by rw[z];exact jF.mpr hs);have tup:∀b u,H b=some u->upd H D (.lst ys) b=some u:=λb u e=>by rw[d6 (j9 e f0)];exact e
 refine⟨I.ok,I.os,I.bare,⟨?_,?_,?_,I.base.there,?_,?_,?_⟩,I.loc,I.cell,?_,?_,?_,?_,I.len⟩
 ·exact λb o e n1 n2 n3=>I.base.keep b o e n1 n2 n3
 ·exact λb o e n1 n2 n3=>I.base.slot b o e n1 n2 n3
 ·exact λb o e n1 n2=>by rw[d6 (dG b o e)];exact I.base.free b o e n1 n2
 ·exact λb xs e=>tup _ _ (I.base.gH b xs e)
 ·exact λb o u e=>tup _ _ (I.base.gw b o u e)
 ·exact λb ps e=>by
   obtain⟨more,q⟩:=I.base.gI b ps e;exact⟨more,tup _ _ q⟩
 ·rw[d6 f1.symm];exact I.free
 ·exact λx c e=>by rw[d6 (f4 x c e)];exact I.dZ x c e
 ·intro p hp;obtain⟨p1,p2,p3⟩:=I.pin p hp;exact⟨p1,by rw[d6 (f5 p hp)];exact p2,p3⟩
 ·intro a o e;by_cases ha:a=D
  ·subst ha;rw[p8] at e;cases e;exact⟨hz,aX,n,hv,ho⟩
  ·rw[d6 ha] at e;have q:=I.bK a o e;refine q.Q7 (λb u _ h=>h) (λb hb=>tup _ _ hb) (λb xs hb=>tup _ _ hb)
end
end L2

namespace L2
open PySem PySem.Spec PyProof.Rows
def Cn(wi:TI)(c8:List Nat)(n:Nat)(g:TG)(tc:TT)(te:TE):TE:=λZ H Q=>wi Z H λJ H1=>∃W:Nat->Nat->List V->St->Hp->Prop,(∃m,W 0 m [] (B7 Z c8 n) H1)/\∀i m ys Z H,W i m ys Z H ->
 (J.stop i H/\∀p,H p=none->Q (.ref p) (upd H p (.lst ys))) \/
 (J.go i H/\ys.length < sizeLine/\∀ x H',J.pL i H x H'->g x Z H' λcy H2=>tc cy H2 λb H3 =>
  if b=true then te cy H3 λy H4=>∃ m',m' < m/\W (i + 1) m' (ys ++ [y]) cy H4 else ∃ m',m' < m/\W (i + 1) m' ys cy H3)
noncomputable abbrev L8(aX:List Value)(n:Nat):Obj:={ cls:=.type "list",data:=.seq aX.toArray n }
section
variable{X:Cx}{pins:List (Addr×Obj)}{Z:St}{H:Hp}{s:Shared}
theorem GP{elt tg iter:Expr}{ifs:List Expr}{scope:Scope}{N':List Str}{c8:List Nat}{cl:List (Str×Addr)}{pos:Pos}{it:Addr}{fp:List Addr}{tn:Nat->Heap->Prop}{J:It}{g:TG}{tc:TT}{te:TE}{xx:Addr->Shared->Hp->Value->Shared->Prop}{RR:Value->Addr->Result->Shared->Prop}{E:Value->Shared->Prop}{W:Nat->Nat->List V->St->Hp->Prop}{m0:Nat}{Q:VK}(S:da X scope N' c8 cl)(hc:X.calm=true)(hg:∀C s H,PG (d4 X pins scope N' cl C s H fp) tg g)(ht:∀C s H,kO (d4 X pins scope N' cl C s H fp) ifs tc)(he:∀C s H,PE ((d4 X pins scope N' cl C s H fp).Y0 (xx C s H)) elt te)(I:Inv X pins Z H s)(T:Turn X.prog X.w X.K tg J fp it tn)(st:tn 0 s.heap)(hf:∀b∈fp,B9 X pins H b)(w0:W 0 m0 [] (B7 Z c8 N'.length) H)(turn:∀ i m ys Z H,W i m ys Z H->(J.stop i H/\∀ p,H p=none->Q (.ref p) (upd H p (.lst ys))) \/
   (J.go i H/\ys.length < sizeLine/\∀ x H',J.pL i H x H'->g x Z H' λcy H2=>tc cy H2 λb H3 =>
    if b=true then te cy H3 λy H4=>∃ m',m' < m/\W (i + 1) m' (ys ++ [y]) cy H4 else ∃ m',m' < m/\W (i + 1) m' ys cy H3))(zV:∀D C s' H' m,Inv X pins Z H' s'->Q (.ref D) H'->s'.heap.Ns C m->H' C=none->s.heap.objs.size<=C->RR (.ref D) C (.ok .next) s')(Mi:∀D C e s',s.heap.objs.size<=C->xx C s H e s'->notedBy (model X.prog X.w) X.A (compEnvC scope (J9 scope cl C) C X.env) (λe s'=>RR (.ref D) C (.error e) s') e s') :
  wpAny (model X.prog X.w) X.A (newList []) (λacc eP=>wpAny (model X.prog X.w) X.A (newFunctionEnv scope X.env.globals cl [] X.env.qual none .none (some X.env)) (λlz jq =>
   lz.frame=X.env.frame/\codeAny (model X.prog X.w) X.A (.compStart (.ListComp elt [⟨tg,iter,ifs,0⟩] scope pos) 0 (.ref it) acc { lz with scope:=relabel scope X.env }) (RR acc lz.locals) jq) E eP) E s:=by
 refine cg (HB λdw gb ft mK=>?_);dsimp only at gb ft mK ⊢;generalize qo:s.heap.push { cls:=.type "list",dict:=none,data:=.seq ([]:List Value).toArray }=H2 at gb ft mK ⊢;generalize eD:s.heap.objs.size=D at *;have hC:H2.objs.size=D+1:=by rw[<- qo,eA,eD]
 generalize eC:H2.objs.size=C at *;have uU:D≠C:=by omega
 have lt:∀b o,s.heap.get? b=some o->b<D:=λb o e=>by rw[<- eD];exact aB e
 have pY:D<=C:=by omega
 have oz:∀b o,s.heap.get? b=some o->b≠C:=λb o e=>aN (ay (lt b o e) pY);have mn:∀b o,s.heap.get? b=some o->b≠D:=λb o e=>aN (lt b o e);have old:∀b o,s.heap.get? b=some o->dw.get? b=some o:=λb o e=>ft b o (qo▸av _ e);have kA:dw.get? D=some (L8 [] 0):=ft _ _ (by rw[<- qo,<- eD];exact aG _ rfl);have iE:∀b∈fp,∃o,s.heap.get? b=some o:=λb hb=>by
  obtain⟨o,e,_⟩:=T.obj _ _ st b hb;exact⟨o,e⟩
 have uT:D∉fp:=λhm=>by
  obtain⟨o,e⟩:=iE D hm;exact mn D o e rfl
 have X1:Inv (d4 X pins scope N' cl C s H fp) [] (B7 Z c8 N'.length) H { s with heap:=dw } :=
  I.GQ S hc hf iE (by rw[eD];omega) ⟨_,gb⟩ old mK
 have tF:tn 0 dw:=T.keep _ _ _ st λb _ o e=>old b o e;have Ap:∀{H':Hp},(∀b∈fp,H' b=none)->∀b∈fp,B9 (d4 X pins scope N' cl C s H fp) [] H' b:=λhn b hb=>by
  obtain⟨f0,f1,f2,f3,f4,f5⟩:=hf b hb;obtain⟨o,e⟩:=iE b hb;refine⟨hn b hb,?_,?_,.inl hb,λx c q=>(ye mK q).elim (λl z=>absurd (cL (z▸l) (ay (lt b o e) pY)) (bw _)) λq=>f4 x c (S.cin x c q),λp hp=>?_⟩
  ·exact oz b o e
  ·exact λz=>by
    rcases aE.mp (I.K7 b z) with z|z
    ·exact f1 z
    ·exact f2 z
  ·have jv:p∈X.pn++pins:=by simpa[d4] using hp
   exact f5 p jv
 have fD:∀{H':Hp},H' D=none->B9 (d4 X pins scope N' cl C s H fp) [] H' D:=λhn=>by
  refine⟨hn,uU,λz=>?_,.inr (by show s.heap.objs.size<=D;omega),λx c q=>?_,λp hp=>?_⟩
  ·exact absurd (I.vT (a:=D) (by omega)) λjC=>by
    rcases aE.mp (I.K7 D z) with z|z
    ·exact absurd I.lt (by rw[<- z,eD];exact bw _)
    ·exact jC z
  ·rcases ye mK q with l|q
   ·exact λz=>absurd (ay (z▸l) pY) (bw _)
   ·obtain⟨v,o,e,_⟩:=I.cell x c (S.cin x c q);exact mn c o e
  ·have jv:p∈X.pn++pins:=by simpa[d4] using hp
   exact mn _ _ (I.pin p jv).1
 have pV:∀{H':Hp} {s':Shared} {bN:St} {aX:List Value} {n:Nat},Inv (d4 X pins scope N' cl C s H fp) [] bN H' s'->H' D=none->s'.heap.get? D=some (L8 aX n) ->
   Inv (d4 X pins scope N' cl C s H fp) [(D,L8 aX n)] bN H' s':=λ{H' s' bN aX n} J0 hn e=>J0.K2 λp hp=>by
  have z:p=(D,L8 aX n):=by simpa using hp
  subst z;obtain⟨f0,f1,f2,_⟩:=fD hn;exact⟨e,f0,f1,f2,λv z=>nomatch z⟩
 have qz:∀{H':Hp} {aX:List Value} {n:Nat},(∀b∈fp,H' b=none)->∀b∈fp,B9 (d4 X pins scope N' cl C s H fp) [(D,L8 aX n)] H' b:=λ{H' aX n} hn b hb=>by
  obtain⟨f0,f1,f2,f3,f4,f5⟩:=Ap hn b hb;refine⟨f0,f1,f2,f3,f4,λp hp=>?_⟩;have jv:p∈(d4 X pins scope N' cl C s H fp).pn\/p=(D,L8 aX n):=by simpa using hp
  rcases jv with z|z
  ·exact f5 p (cR _ z)
  ·subst z;exact λz=>uT (by rw[show D=b from z];exact hb)
 have loop:∀eP:Shared,eP={ s with heap:=dw } ->
   codeAny (model X.prog X.w) X.A (.compLoop (.ListComp elt [⟨tg,iter,ifs,0⟩] scope pos) 0 (.ref it) (.ref D) (compEnvC scope (J9 scope cl C) C X.env)) (RR (.ref D) C) eP:=by
  rintro eP rfl;refine Zm (λn s'=>∃ i ys bN H' aX nn,Inv (d4 X pins scope N' cl C s H fp) [] bN H' s'/\tn i s'.heap/\(∀ b ∈ fp,H' b=none)/\H' D=none/\Vals ys aX/\ys.length <= sizeLine /\
   s'.heap.get? D=some (L8 aX nn)/\W i n ys bN H') ?_ m0 ⟨0,[],_,H,[],0,X1,tF,λb hb=>(hf b hb).1,I.bK.fresh (by omega),.nil,cM _,kA,w0⟩
  rintro n s3 ⟨i,ys,gX,H3,aX,nn,I3,ow,oX,d3,v3,z3,o3,w3⟩;have wb:=pV I3 d3 o3;rcases turn i n ys gX H3 w3 with⟨stop,q⟩|⟨go,hz,step⟩
  ·refine cF (T.done (d4 X pins scope N' cl C s H fp) rfl rfl rfl rfl i _ s3 _ H3 _ wb (qz oX) ow stop) λr s4 ⟨hr,I4⟩=>?_;subst hr;have o4:=(I4.pin (D,L8 aX nn) (by simp)).1;have J4:Inv X pins Z H3 s4:=I.IV hf I4;have Aq:B9 X pins H3 D:=by
    refine⟨d3,bS (by rw[<- eD];exact I.lt),I.vT (by omega),.inr (by have:=I.sz;omega),λx c q=>?_,λp hp=>?_⟩
    ·obtain⟨v,o,e,_⟩:=I.cell x c q;exact mn c o e
    ·exact mn _ _ (I.pin p hp).1
   obtain⟨mC,zx,_⟩:=I4.loc;exact zV D C s4 (upd H3 D (.lst ys)) mC (J4.NQ Aq (by have:=I.sz;omega) v3 z3 o4) (q D d3) zx (by rw[d6 uU.symm];exact I4.free) (by omega)
  ·refine cF (T.item (d4 X pins scope N' cl C s H fp) rfl rfl rfl rfl i _ s3 _ H3 _ wb (qz oX) ow go) λr s4 ⟨u,hr,h4⟩=>?_;subst hr;refine cF h4 λ_ s5 bq=>?_;obtain⟨x,H5,I5,r5,y5,mf,vb⟩:=bq;have o5:=I5.pin (D,L8 aX nn) (by simp);have wa:=I5.pinned (qz vb) (T.obj _ _ mf);refine cF (hg C s H _ s5 _ H5 x u _ wa r5 (step x H5 y5)) λ_ s6 bq=>?_;obtain⟨kS,H6,I6,q6⟩:=bq;refine cF (ht C s H _ s6 kS H6 _ I6 q6) λok s7 ⟨H7,I7,q7⟩=>?_;have back:∀{tj:St} {H8:Hp} {s8:Shared},Inv (d4 X pins scope N' cl C s H fp) ([(D,L8 aX nn)]++W5 fp s5.heap) tj H8 s8->(∀b∈fp,H8 b=none)/\tn (i+1) s8.heap/\H8 D=none/\s8.heap.get? D=some (L8 aX nn) :=
    λ{tj H8 s8} I8=>by
     have pf:∀b∈fp,∀o,s5.heap.get? b=some o->s8.heap.get? b=some o/\H8 b=none:=λb hb o e=>by
      have:=I8.pin (b,o) (br _ (br _ (O5 hb e)));exact⟨this.1,this.2.1⟩
     have pd:=I8.pin (D,L8 aX nn) (by simp);refine⟨λb hb=>?_,T.keep _ _ _ mf λb hb o e=>(pf b hb o e).1,pd.2.1,pd.1⟩;obtain⟨o,e,_⟩:=T.obj _ _ mf b hb;exact(pf b hb o e).2
   cases ok with
   |false =>
    obtain⟨m',hm,w7⟩:=q7;obtain⟨b1,b2,b3,b4⟩:=back I7;exact⟨m',hm,i+1,ys,kS,H7,aX,nn,I7.K2 λp hp=>absurd hp (by simp),b2,b1,b3,v3,z3,b4,w7⟩
   |true =>
    refine bx (he C s H _ s7 kS H7 _ (I7.Y0 _) q7) (λxv s8 bq=>?_) λe s' hx=>Mi D C e s' (by omega) hx;obtain⟨y,H8,I8,r8,m',hm,w8⟩:=bq;have I8:=I8.AO;obtain⟨b1,b2,b3,b4⟩:=back I8;refine eZ F.slot_list_append ⟨_,b4,rfl⟩ F.entry_list_append (F.args_list_append_2 _ _) (PySem.list_append D aX.toArray nn xv (by rw[aH];have:=v3.length;omega)) ⟨b4,?_⟩;have q:∃n',(s8.heap.update D (Obj.mapSeq (·.push xv))).get? D=some (L8 (aX++[xv]) n'):=by
     have q0:=PySem.IsL.update b4 (·.push xv);have e0:aX.toArray.push xv=(aX++[xv]).toArray:=by simp
     rw[e0] at q0;exact⟨_,q0⟩
    obtain⟨n',q⟩:=q;have Di:Inv (d4 X pins scope N' cl C s H fp) [] kS H8 s8:=I8.K2 λp hp=>absurd hp (by simp);obtain⟨f0,f1,f2,f3,f4,f5⟩:=fD (H':=H8) b3;have kp:∀b o,b≠D->s8.heap.get? b=some o->(s8.heap.update D (Obj.mapSeq (·.push xv))).get? b=some o:=λb' u hb hu=>(bZ s8.heap (Obj.mapSeq (·.push xv)) (bE hb)).trans hu;refine⟨m',hm,i+1,ys++[y],kS,H8,aX++[xv],n',Di.turned (it:=D) (t':=s8.toks) kp f0 f1 f3 f4 f5,T.keep _ _ _ b2 λb hb o e=>kp b o (λz=>uT (by rw[<- z];exact hb)) e,b1,b3,v3.append (.cons r8 .nil),?_,q,w8⟩;rw[aZ,ir];omega
 exact⟨rfl,codeAny_compStart_list (loop _ rfl) (T.self _ 0 _ _ _ tF (loop _ rfl))⟩
theorem Inv.Ce{C:Addr}{h':Heap}{s2:Shared}{H2:Hp}(I:Inv X pins Z H s)(hC:s2.heap.objs.size<=C)(I2:Inv X pins Z H2 s2)(hn:H C=none)(sb:Heap.SameBut C s.heap h'):Inv X pins Z H { s with heap:=h' }:=by
 have f:=I2.pj (b:=C) (H':=H) hC hn;obtain⟨f0,f1,f2,f3,f4,f5⟩:=f;exact I.turned (t':=s.toks) (λb o hb e=>sb.extBut b o hb e) f0 f1 f3 f4 f5
theorem GS{M:Model}{A:Around}{E:Value->Shared->Prop}{s:Shared}{a:Sem Value}{b:Sem Env}{P:Env->Prop}{Q:Value->Env->Shared->Prop}(h:wpAny M A a (λx s1=>wpAny M A b (λy s2=>P y/\Q x y s2) E s1) E s):wpAny M A a (λx s1=>wpAny M A b (λy s2=>Q x y s2) E s1) E s :=
 bx h (λ_ _ h=>bx h (λ_ _ h=>h.2) λ_ _ z=>z) λ_ _ z=>z
theorem Iz{elt tg iter:Expr}{ifs:List Expr}{scope:Scope}{N':List Str}{c8:List Nat}{cl:List (Str×Addr)}{pos:Pos}{wi:TI}{g:TG}{tc:TT}{te:TE}(S:da X scope N' c8 cl)(hc:X.calm=true)(hi:PI X tg iter wi)(hg:∀pins C s H fp,PG (d4 X pins scope N' cl C s H fp) tg g)(ht:∀pins C s H fp,kO (d4 X pins scope N' cl C s H fp) ifs tc)(he:∀pins C s H fp,PE (d4 X pins scope N' cl C s H fp) elt te)(hs:∀x,foldedSetIterable iter X.env x=pure x):PE X (.ListComp elt [⟨tg,iter,ifs,0⟩] scope pos) (Cn wi c8 N'.length g tc te):=by
 intro pins s Z H Q I h;rw[eval_ListComp];refine ik (use:=none) rfl hs S.qJ S.kind S.names (cF (hi pins s Z H _ I h) λxv bV dw=>cF dw λui fT iD=>?_);obtain⟨it,fp,tn,J,H2,e,I2,T,kn,f2,W,⟨m0,w0⟩,turn⟩:=iD;subst e;refine GS (GP (xx:=λ_ _ _ _ _=>False) (RR:=λacc C=>compPost (model X.prog X.w) X.A X.xe none (EP X pins Z Q) acc C) S hc (λC s H=>hg pins C s H fp) (λC s H=>ht pins C s H fp) (λC s H=>he pins C s H fp) I2 T kn f2 w0 turn ?_ λ_ _ _ _ _ z=>z.elim);intro D C s' H' m I' q hn hC hsz;exact⟨m,hn,λh' sb=>⟨.ref D,H',I'.Ce hsz I2 hC sb,rfl,q⟩⟩
theorem Zd{elt tg iter:Expr}{ifs:List Expr}{scope:Scope}{N':List Str}{c8:List Nat}{cl:List (Str×Addr)}{pos tG px:Pos}{wi:TI}{g:TG}{tc:TT}{te:TE}{i:Nat}{x:Str}(S:da X scope N' c8 cl)(hc:X.calm=true)(hi:PI X tg iter wi)(hg:∀pins C s H fp,PG (d4 X pins scope N' cl C s H fp) tg g)(ht:∀pins C s H fp,kO (d4 X pins scope N' cl C s H fp) ifs tc)(he:∀pins C s H fp,PE (d4 X pins scope N' cl C s H fp) elt te)(hs:∀x,foldedSetIterable iter X.env x=pure x)(hN:X.N.Nodup)(uE:X.N[i]?=some x)(hx:Loc X.env.scope x)(hf:X.fn x=true\/X.env.scope.names.lookup x=some .local) :
  PS X (.Assign [.Name x px] (.ListComp elt [⟨tg,iter,ifs,0⟩] scope pos) tG) (vq (Cn wi c8 N'.length g tc te) (sE i)):=by
 intro pins s Z H D I h;have wK:∃b,swapsWith (.ListComp elt [⟨tg,iter,ifs,0⟩] scope pos) (some (.Name x px)) tG.line X.env=pure b:=⟨_,rfl⟩
 obtain⟨b,wK⟩:=wK;cases b with
 |false=>exact HS hN uE hx (Iz S hc hi hg ht he hs) wK hf pins s Z H D I h
 |true =>
  rw[exec_Assign_Name_used _ _ _ _ wK];refine ae (dM (ae ?_));show wpAny _ X.A (do let _ <- comprehension (.ListComp elt [⟨tg,iter,ifs,0⟩] scope pos) scope X.env _ (newList []) false (eval iter X.env) (some (assign (.Name x px) X.env))) _ _ s;refine ae (bx (ik (use:=some (assign (.Name x px) X.env)) (Q:=λ_ s'=>SP X pins D .next s') rfl hs S.qJ S.kind S.names
   (cF (hi pins s Z H _ I h) λxv bV dw=>cF dw λui fT iD=>?_)) (λ_ s' hq=>au (au hq)) λ_ _ e=>e)
  obtain⟨it,fp,tn,J,H2,e,I2,T,kn,f2,W,⟨m0,w0⟩,turn⟩:=iD;subst e;refine GS (GP (xx:=λ_ _ _ _ _=>False) (Q:=λv H1=>sE i v Z H1 D.nx) (RR:=λacc C=>compPost (model X.prog X.w) X.A X.xe (some (assign (.Name x px) X.env)) (λ_ s'=>SP X pins D .next s') acc C) S hc (λC s H=>hg pins C s H fp) (λC s H=>ht pins C s H fp) (λC s H=>he pins C s H fp) I2 T kn f2 w0 turn ?_ λ_ _ _ _ _ z=>z.elim);intro Dl C s' H' m I' q hn hC hsz;show wpAny _ X.A (assign (.Name x px) X.env (.ref Dl)) _ _ _;refine wpAny_assign_Name (GH I' hN uE hx (v:=.ref Dl) rfl (λs3 I3 ⟨a,sb,ha⟩=>?_) hf);have Ml:C≠a:=by
   obtain⟨f0,f1,f2,f3,f4,f5⟩:=I2.pj (b:=C) (H':=H') hsz hC;rcases ha with z|z
   ·rw[z];exact f1
   ·exact λz'=>f4 _ _ z z'.symm
  obtain⟨f0,f1,f2,f3,f4,f5⟩:=I2.pj (b:=C) (H':=H') hsz hC;refine⟨m,hn.sameBut sb Ml,λh3 Km=>⟨_,H',I3.turned (t':=s3.toks) (λb o hb e=>Km.extBut b o hb e) f0 f1 f3 f4 f5,q⟩⟩
end
end L2

namespace HT
open PySem PyProof.Rows
section
variable{prog:Program}{w:World}{A:Around}{E:Value->Shared->Prop}{s:Shared}
theorem Zz{t b:Addr}{ws:List Value}{Q:Value->Shared->Prop}(ht:IsTup s.heap t #[])(hb:IsTup s.heap b ws.toArray)(h1:Q (.ref b) s):wpAny (model prog w) A (binaryOp .Add (.ref t) (.ref b)) Q E s:=by
 obtain⟨⟨cls,dd,data,sl⟩,ho,hc,n,hd⟩:=id ht;obtain⟨⟨vn,oZ,data2,kE⟩,ky,mL,n2,hd2⟩:=id hb;simp only at hc hd mL hd2;subst hc hd mL hd2;exact concat_meets ⟨_,ho,rfl⟩ ⟨_,ky,rfl⟩ iQ lC gS gD (gk _ _)
   (tuple_addW0 t b #[] ws.toArray n n2 dd oZ sl kE rfl) ⟨ho,ky,h1⟩
theorem WB{t sl:Addr}{items:Array Value}{vl vu:Value}{lo hi:Option Int}{Q:Value->Shared->Prop}(ht:IsTup s.heap t items)(hs:s.heap.IsSliceOf sl vl vu .none)(pl:IsPart vl lo)(pu:IsPart vu hi)(hw:dg items.size 0 lo=0/\dg items.size items.size hi=items.size)(h:Q (.ref t) s):wpAny (model prog w) A (getItem (.ref t) (.ref sl)) Q E s:=by
 obtain⟨os,qc,wO,uH⟩:=id hs;have zT:s.TypeIs (.ref sl) "slice":=⟨os,qc,wO⟩
 unfold getItem
 try with_reducible refine cz ?_
 first|refine ae (au ?_)|skip
 refine ae (wpAny_sequenceKey ht.typeIs (by decide) ?_);refine ae (fc (name:=Str.ofString "__getitem__") ht.typeIs bL
  (cH bL ht.typeIs entry_tuple_getitem ?_ (args_tuple_getitem _ _)))
 show wpAny _ _ (Builtin.Tuple.tupleItemsOf (.ref t) >>= _) _ _ s;refine ae (tupleItemsOf_ ht ?_);refine ae (eJ zT ?_);rw[aK (by decide)];refine ae (Q8 hs pl pu ?_);have zb:((((dg items.size 0 lo:Nat):Int)==0&&(1:Int)==1&&(dg items.size items.size hi-dg items.size 0 lo)==items.size)=true):=by
  rw[hw.1,hw.2];simp
 show wpAny _ _ (if(((dg items.size 0 lo:Nat):Int)==0&&(1:Int)==1&&(dg items.size items.size hi-dg items.size 0 lo)==items.size)=true then _ else _) _ _ s;rw[aK zb];obtain⟨o,ho,hc,_⟩:=id ht;unfold Builtin.Tuple.tupleIsExact;refine ae (ae (eJ ht.typeIs (au ?_)));rw[aK (by decide)]
 first
  |exact wpAny_bind (wpAny_rule (wpAny_bind (wpAny_pure ⟨_,rfl,wpAny_pure h⟩)))
  |exact wpAny_bind (wpAny_rule (wpAny_pure ⟨_,rfl,wpAny_pure h⟩))
  |exact wpAny_bind (wpAny_rule (wpAny_bind (wpAny_pure (wpAny_pure ⟨_,rfl,wpAny_pure h⟩))))
end
end HT
namespace L2
open PySem PySem.Spec PyProof.Rows
section
variable{X:Cx}
def PL(K:PySem.W.Frag):R2:=λx y H Q=>∃a b xs ys,x=.ref a/\y=.ref b/\hU K H a xs/\hU K H b ys/\xs.length+ys.length<=sizeLine /\
 (xs=[]->Q (.ref b) H)/\(ys=[]->Q (.ref a) H)/\(∀p,H p=none->Q (.ref p) (upd H p (.tup (xs++ys))))
theorem ZW:fq X (binaryOp .Add) (PL X.K):=by
 intro pins s Z H x y v u Q I rx ry h;obtain⟨a,b,xs,ys,rfl,rfl,ha,hb,hz,q0,q1,q2⟩:=h;by_cases hx:xs=[]
 ·subst hx;cases rx;cases ry;obtain⟨aX,r1,p1,_⟩:=I.tuple ha;obtain⟨mx,r2,p2,_⟩:=I.tuple hb;cases r1;exact HT.Zz p1 p2 ⟨.ref b,H,I,rfl,q0 rfl⟩
 ·exact RA pins s Z H _ _ v u Q I rx ry ⟨a,b,xs,ys,rfl,rfl,ha,hb,hx,hz,q1,λ_=>q2⟩
def VZ(K:PySem.W.Frag):V->Option Int->Option Int->Hp->VK->Prop:=λx lo hi H Q=>∃a xs,x=.ref a/\hU K H a xs /\
 (T1 xs lo hi=xs->Q (.ref a) H)/\∀p,H p=none->Q (.ref p) (upd H p (.tup (T1 xs lo hi)))
theorem Sx:vV X (VZ X.K):=by
 intro pins s Z H x v vl vu lo hi sl Q I rx hs pl pu h;obtain⟨a,xs,rfl,hx,q0,q⟩:=h;by_cases hw:HT.dg xs.length 0 lo=0/\HT.dg xs.length xs.length hi=xs.length
 ·cases rx;obtain⟨aX,r,ht,hz⟩:=I.tuple hx;have hlen:aX.toArray.size=xs.length:=by rw[aH];exact r.length.symm
  refine⟨"tuple",_,bL.lookup,ht.typeIs,?_⟩;exact HT.WB ht hs pl pu (by rw[hlen];exact hw) ⟨.ref a,H,I,rfl,q0 (by unfold T1;rw[hw.1,hw.2];simp)⟩
 ·exact Qm pins s Z H _ v vl vu lo hi sl Q I rx hs pl pu ⟨a,xs,rfl,hx,hw,q⟩
theorem YU:l9 X (.builtin "isinstance") (λxs H Q=>∃x t c b,xs=[x,.ty c]/\gx X.K H x t/\PySem.W.kitOne X.K t (.type c)=some b/\Q (.bl b) H):=by
 intro pins s Z H xs us Q I r h;obtain⟨x,t,c,b,rfl,hT,hk,q⟩:=h;obtain⟨u,w',rfl,ru,fJ⟩:=vals2 r;cases (show w'=Value.type c from fJ);exact Xd I ru hT hk λtk=>⟨.bl b,H,I.tok tk,rfl,q⟩
theorem WL(hc:X.calm=true):l9 X (.builtin "all") (λxs H Q=>∃(a:Addr) (bs:List Bool),xs=[.ref a]/\fB X.K H a (bs.map V.bl)/\Q (.bl (bs.all id)) H):=by
 intro pins s Z H xs us Q I r h;obtain⟨a,bs,rfl,ha,q⟩:=h;obtain⟨u,rfl,ru⟩:=vals1 r;cases ru;obtain⟨aX,rv,p,hz⟩:=I.list ha;refine call_all_walk ?_;refine hX p.isList ?_;have dG:a≠s.heap.objs.size:=by
  obtain⟨o,e,_⟩:=id p.isList;exact aN (aB e)
 have hl:=rv.length;rw[ak] at hl;refine⟨s.heap.objs.size,_,_,_,_,_,λi=>bs.getD i true,rfl,Walks.list (A:=X.A.in1) (I.ok.hd hc) _ a dG aX.toArray,⟨⟨_,aG _ rfl,rfl,rfl⟩,?_⟩,?_,λh' tk k=>?_⟩
 ·obtain⟨o,e,q1⟩:=id p.isList;exact⟨o,av _ e,q1⟩
 ·intro i v s' Q' E' hP hQ;have hv:aX[i]?=some v:=by simpa using hP
  have hi:i<bs.length:=by rw[hl];exact(ao.mp hv).1
  obtain⟨u',uk,yN⟩:=rv.get (i:=i) (x:=V.bl bs[i]) (by rw[ag,aj hi];rfl);rw[hv] at uk;cases uk;cases (show v=Value.bool bs[i] from yN);refine cA ?_;have:bs.getD i true=bs[i]:=by simp[List.getD,hi]
  dsimp only at hQ;rw[this] at hQ;exact hQ
 ·have e1:(List.range aX.toArray.size).all (λi=>bs.getD i true)=bs.all id:=by
   rw[aH,<- hl];rw[aU];simp only[List.all_eq_true,List.mem_range,id];constructor
   ·intro hh x hx;obtain⟨i,hi,rfl⟩:=bD.mp hx;have:=hh i hi;simpa[List.getD,hi] using this
   ·intro hh i hi;have:=hh bs[i] (bT hi);simpa[List.getD,hi] using this
  rw[e1];exact ⟨.bl (bs.all id),H,I.kept (t':=tk) λb o e=>k b o (by
   intro hb;have:b=s.heap.objs.size:=by simpa using hb
   exact absurd (aB e) (by rw [this];exact bw _)) (av _ e),rfl,q⟩
end
end L2

namespace HT
open PySem PyProof.Rows
section
variable{prog:Program}{w:World}{A:Around}{E:Value->Shared->Prop}{s:Shared}
end
end HT
namespace L2
open PySem PySem.Spec PyProof.Rows
section
variable{X:Cx}{e st:Expr}{te ts:TE}{pos p2:Pos}
end
end L2

namespace L2
open PySem PySem.Spec PyProof.Rows
theorem l6.get{P:Program}{w:World}{H:Hp}{h:Heap}{a:Addr}:∀{o:HO},l6 P w H h a o->∃ob,h.get? a=some ob
 |.lst _,x=>by obtain⟨_,_,_,_,e⟩:=x;exact⟨_,e⟩
 |.tup _,x=>by obtain⟨_,_,_,o,e,_⟩:=x;exact⟨o,e⟩
 |.dK _,x=>by obtain⟨_,_,_,_,o,es,ep,e,_⟩:=x;exact⟨o,e⟩
 |.dT _,x=>by obtain⟨_,_,_,_,o,es,ep,e,_⟩:=x;exact⟨o,e⟩
 |.set _ _,x=>by obtain⟨o,es,ep,t,e,_⟩:=x;exact⟨o,e⟩
 |.ins _ _ _,x=>by obtain⟨_,_,_,e,_⟩:=x;exact⟨_,e⟩
 |.own _,x=>x
 |.xd _,x=>by obtain⟨mA,n,_⟩:=x;obtain⟨od,e,_⟩:=Gy n;exact⟨od,e⟩
 |.lJ _ _,x=>by obtain⟨_,_,_,e⟩:=x;exact⟨_,e⟩
 |.jw _ _,x=>⟨_,x.1⟩
 |.lI _,x=>⟨_,x⟩
 |.met _ _,x=>⟨_,x⟩
 |.ext _,x=>x.2.1
def BU(H':Hp)(h0:Heap)(l:List Env)(e:Value)(C:Addr)(h:Heap):Prop :=
 ∃(ea:Addr) (a0:Value) (B:Heap),e=.ref ea/\Heap.FlyingW B l ea (.ref C) a0 h/\∀b o,h.get? b=some o->b∉fA l->(H' b≠none\/∃o0,h0.get? b=some o0)->B.get? b=some o
def iO(P:Program)(w:World):nc:=λouter H s E e s'=>∃(C:Addr) (H':Hp),s'.os=s.os/\AllBare s'.gens/\Un (fA outer) [] H H' s.heap s'.heap/\fO P w H' s'.heap/\BU H' s.heap outer e C s'.heap/\E (.ref C) none H'
section
variable{X:Cx}{pins:List (Addr×Obj)}{Z:St}{H:Hp}{s s':Shared}{E:XK}{e:Value}
theorem Inv.flew(I:Inv X pins Z H s)(h:iO X.prog X.w X.stack H s E e s'):∃C H',Inv X pins Z H' s'/\BU H' s.heap X.stack e C s'.heap/\E (.ref C) none H':=by
 obtain⟨C,H',ho,hb,hu,bK,fl,hE⟩:=h;exact⟨C,H',I.Cb (ch:=[]) ho hu bK hb (by simp),fl,hE⟩
theorem yf(I:Inv X pins Z H s){b:Addr}(hb:b∈fA X.stack):∃o,s.heap.get? b=some o/\∀vs,o.data≠.fields vs:=(I.stack.mem hb).2
theorem Cd{nv:Heap}{B:Heap}{ea C:Addr}{a0:Value}(I:Inv X pins Z H s)(dE:X.stack=X.env::X.outer)(hex:X.ex=[])(hf:X.env.frame=some X.env.locals)(oG:∀b o,s.heap.get? b=some o->b∉fA X.stack->(H b≠none\/∃o0,X.cW.heap.get? b=some o0)->B.get? b=some o)(sl:∀b∈fA X.stack,∀o,s.heap.get? b=some o->∃sl,nv.get? b=some { o with slots:=sl })(fw:Heap.FlyingW B X.outer ea (.ref C) a0 nv)(hE:E (.ref C) none H):iO X.prog X.w X.outer X.iZ X.cW E (.ref ea) { s with heap:=nv }:=by
 have zh:∀b,b∈fA X.outer->b∈fA X.stack:=λb hb=>by rw[dE];unfold fA at hb ⊢;rw[dX,hf];exact bo _ hb
 have tT:∀b o,X.cW.heap.get? b=some o->b∉fA X.outer->b∉fA X.stack:=λb o e hb z=>by
  rcases aE.mp (I.K7 b z) with z|z
  ·exact absurd (aB e) (by rw[z];exact jF.mpr I.ok.above)
  ·exact hb z
 have nF:∀b u,H b=some u->b∉fA X.stack:=λb u e z=>by rw[I.yc b z] at e;cases e
 have kept:∀b o,s.heap.get? b=some o->b∉fA X.stack->(H b≠none\/∃o0,X.cW.heap.get? b=some o0)->nv.get? b=some o:=λb o e n q=>fw.1 b o (oG b o e n q);have tV:∀b,b∉X.ex:=λb=>by rw[hex];simp
 refine⟨C,H,I.os,I.bare,⟨?_,?_,?_,?_,I.base.gH,I.base.gw,I.base.gI⟩,?_,⟨ea,a0,B,rfl,fw,?_⟩,hE⟩
 ·exact λb o e n1 n2 _=>kept b o (I.base.keep b o e n1 n2 (tV b)) (tT b o e n2) (.inr ⟨o,e⟩)
 ·intro b o e n1 n2 _;obtain⟨Kk,e1⟩:=I.base.slot b o e n1 n2 (tV b);obtain⟨kE,e2⟩:=sl b (zh b n2) _ e1;exact⟨kE,e2⟩
 ·exact λb o e n1 _=>I.base.free b o e n1 (tV b)
 ·intro b o e _;obtain⟨o1,e1⟩:=I.base.there b o e (tV b);by_cases hb:b∈fA X.stack
  ·obtain⟨kE,e2⟩:=sl b hb _ e1;exact⟨_,e2⟩
  ·exact⟨o1,kept b o1 e1 hb (.inr ⟨o,e⟩)⟩
 ·intro a o e;exact (I.bK a o e).Q7 (λb u hb q=>by
   have kd:∃v,H b=some v:=by
    rcases hb with rfl|hb
    ·exact⟨o,e⟩
    ·exact⟨_,hb⟩
   obtain⟨v,hv⟩:=kd;exact kept b u q (nF b v hv) (.inl (by rw [hv];simp))) (λb hb=>hb) (λb xs hb=>hb)
 ·intro b o e n q;rcases q with q|⟨o0,q⟩
  ·obtain⟨v,hv⟩:=nC.mp q;obtain⟨o1,e1⟩:=(I.bK b v hv).get;have z:=oG b o1 e1 (nF b v hv) (.inl (by rw[hv];simp));have z':=fw.1 b o1 z;have:o=o1:=by
    have e':nv.get? b=some o:=e;rw[z'] at e';exact(aM e').symm
   subst this;exact z
  ·obtain⟨o1,e1⟩:=I.base.there b o0 q (tV b);have z:=oG b o1 e1 (tT b o0 q n) (.inr ⟨o0,q⟩);have z':=fw.1 b o1 z;have:o=o1:=by
    have e':nv.get? b=some o:=e;rw[z'] at e';exact(aM e').symm
   subst this;exact z
theorem Zr{h0:Heap}{C:Addr}{Ex:Value->Shared->Prop}(I:Inv X pins Z H s)(fl:BU H h0 X.stack e C s.heap)(MH:∀b o,X.cW.heap.get? b=some o->∃o',h0.get? b=some o')(dE:X.stack=X.env::X.outer)(hex:X.ex=[])(hf:X.env.frame=some X.env.locals)(hE:E (.ref C) none H):wpAny (model X.prog X.w) X.A (leaving X.env e) (λ_ nG=>iO X.prog X.w X.outer X.iZ X.cW E e nG) Ex s:=by
 obtain⟨ea,a0,B,rfl,fw,hB⟩:=fl;have fw0:=fw;rw[dE] at fw;refine wpAny_leaves_onW (by rw[I.ok.frames,dE]) hf fw λnv xb us=>?_;refine Cd I dE hex hf (λb o e n q=>hB b o e n (q.imp id λ⟨o0,q⟩=>MH b o0 q)) (λb hb o e=>?_) xb hE;obtain⟨o1,e1,nf⟩:=yf I hb;rw[e] at e1;cases e1;exact us b o e nf
theorem Ym{h':Heap}{ea C:Addr}{vs:List Value}{Ex:Value->Shared->Prop}(I:Inv X pins Z H s)(hx:Heap.MadeExcOf s.heap h' ea (.ref C) vs)(dE:X.stack=X.env::X.outer)(hex:X.ex=[])(hf:X.env.frame=some X.env.locals)(hE:E (.ref C) none H):wpAny (model X.prog X.w) X.A (leaving X.env (.ref ea)) (λ_ nG=>iO X.prog X.w X.outer X.iZ X.cW E (.ref ea) nG) Ex { s with heap:=h' }:=by
 have rL:=I.stack;rw[dE] at rL;have jh:∀env∈(X.env::X.outer),∀b,env.frame=some b->b∈fA X.stack:=λenv he b hb=>by rw[dE];exact jH.mpr ⟨env,he,hb⟩
 refine wpAny_leaves_madeW (s:={ s with heap:=h' }) (base:=PySem.W.hideAll s.heap (fA X.stack)) (h:=s.heap) (by rw[I.ok.frames,dE]) hf (λb o q=>JJ _ q) (PySem.W.funFrames_hide rL jh) hx λnv t fw _ _ us=>?_;refine(show iO X.prog X.w X.outer X.iZ X.cW E (.ref ea) { s with heap:=nv } from Cd I dE hex hf (λb o e n _=>Dp _ e n) (λb hb o e=>?_) fw hE);obtain⟨o1,e1,nf⟩:=yf I hb;rw[e] at e1;cases e1;exact us b o (hx.keeps b o e) nf
theorem WE{l:List Env}{H H':Hp}{h0 h h1 B:Heap}{Pg:Program}{w:World}(u:Un (fA l) [] H H' h0 h)(ok:fO Pg w H' h)(hB:∀b o,h.get? b=some o->b∉fA l->(H' b≠none\/∃o0,h0.get? b=some o0)->B.get? b=some o)(st:B.StaysIn h1)(us:h.UpToSlots h1)(Ew:∀b∈fA l,H' b=none/\∃o,h.get? b=some o/\∀vs,o.data≠.fields vs):Un (fA l) [] H H' h0 h1/\fO Pg w H' h1/\∀b o,h1.get? b=some o->b∉fA l->(H' b≠none\/∃o0,h0.get? b=some o0)->B.get? b=some o:=by
 have nF:∀b u,H' b=some u->b∉fA l:=λb u e z=>by rw[(Ew b z).1] at e;cases e
 have kept:∀b o,h.get? b=some o->b∉fA l->(H' b≠none\/∃o0,h0.get? b=some o0)->h1.get? b=some o:=λb o e n q=>st b o (hB b o e n q);have EX:∀b∈fA l,∀o,h.get? b=some o->∃sl,h1.get? b=some { o with slots:=sl }:=λb hb o e=>by
  obtain⟨_,o1,e1,nf⟩:=Ew b hb;rw[e] at e1;cases e1;exact us b o e nf
 refine⟨⟨?_,?_,u.free,?_,u.gH,u.gw,u.gI⟩,?_,?_⟩
 ·exact λb o e n1 n2 n3=>kept b o (u.keep b o e n1 n2 n3) n2 (.inr ⟨o,e⟩)
 ·intro b o e n1 n2 n3;obtain⟨Kk,e1⟩:=u.slot b o e n1 n2 n3;obtain⟨kE,e2⟩:=EX b n2 _ e1;exact⟨kE,e2⟩
 ·intro b o e n;obtain⟨o1,e1⟩:=u.there b o e n;by_cases hb:b∈fA l
  ·obtain⟨kE,e2⟩:=EX b hb _ e1;exact⟨_,e2⟩
  ·exact⟨o1,kept b o1 e1 hb (.inr ⟨o,e⟩)⟩
 ·intro a o e;exact (ok a o e).Q7 (λb u hb q=>by
   have kd:∃v,H' b=some v:=by
    rcases hb with rfl|hb
    ·exact⟨o,e⟩
    ·exact⟨_,hb⟩
   obtain⟨v,hv⟩:=kd;exact kept b u q (nF b v hv) (.inl (by rw [hv];simp))) (λb hb=>hb) (λb xs hb=>hb)
 ·intro b o e n q;have:∃o1,h.get? b=some o1:=by
   rcases q with q|⟨o0,q⟩
   ·obtain⟨v,hv⟩:=nC.mp q;exact(ok b v hv).get
   ·exact u.there b o0 q (by simp)
  obtain⟨o1,e1⟩:=this;have z:=hB b o1 e1 n q;rw[st b o1 z] at e;cases e;exact z
section
variable{s':Shared}
structure Lies(X:Cx)(H H':Hp)(s:Shared)(B:Heap)(ea C:Addr)(a0:Value)(s':Shared):Prop where
 os:s'.os=s.os
 bare:AllBare s'.gens
 un:Un (fA X.stack) [] H H' s.heap s'.heap
 bK:fO X.prog X.w H' s'.heap
 oG:∀b o,s'.heap.get? b=some o->b∉fA X.stack->(H' b≠none\/∃o0,s.heap.get? b=some o0)->B.get? b=some o
theorem Lies.inv{H':Hp}{B:Heap}{ea C:Addr}{a0:Value}(I:Inv X pins Z H s)(l:Lies X H H' s B ea C a0 s'):Inv X pins Z H' s':=I.Cb (ch:=[]) l.os l.un l.bK l.bare (by simp)
theorem leave_held{H':Hp}{B:Heap}{ea C:Addr}{a0:Value}{Ex:Value->Shared->Prop}(I:Inv X pins Z H s)(l:Lies X H H' s B ea C a0 s')(hh:Heap.HeldW B X.stack ea (.ref C) a0 X.env.locals s'.heap)(dE:X.stack=X.env::X.outer)(hex:X.ex=[])(hf:X.env.frame=some X.env.locals)(hE:E (.ref C) none H'):wpAny (model X.prog X.w) X.A (leaving X.env (.ref ea)) (λ_ nG=>iO X.prog X.w X.outer X.iZ X.cW E (.ref ea) nG) Ex s':=by
 have J:=l.inv I;have zH:=hh;rw[dE] at zH;unfold leaving;refine ae (wpAny_noteFrame_againW hf zH.2.2.2 ?_);refine wpAny_landsW zH λnv fl us=>?_;obtain⟨k1,k2,⟨_,_,k3⟩,k4⟩:=fl;refine Cd J dE hex hf (λb o e n q=>l.oG b o e n (q.imp id λ⟨o0,q⟩=>I.base.there b o0 q (by rw[hex];simp))) (λb hb o e=>?_) ⟨k1,k2,k3,k4⟩ hE;obtain⟨o1,e1,nf⟩:=yf J hb;rw[e] at e1;cases e1;exact us b o e nf
end
def xP(X:Cx)(Ξ:XK):Prop:=∀(pins:List (Addr×Obj)) (Z:St) (H:Hp) (s:Shared) (h':Heap) (ea C:Addr) (vs:List Value),Inv X pins Z H s->Heap.MadeExcOf s.heap h' ea (.ref C) vs->Ξ (.ref C) none H->X.xe (.ref ea) { s with heap:=h' }
def vJ(X:Cx)(Ξ:XK):Prop:=∀(pins:List (Addr×Obj)) (Z:St) (H H':Hp) (s s':Shared) (B:Heap) (ea C:Addr) (a0:Value),Inv X pins Z H s->Lies X H H' s B ea C a0 s'->Heap.HeldW B X.stack ea (.ref C) a0 X.env.locals s'.heap->Ξ (.ref C) none H'->X.xe (.ref ea) s'
def QC(C:Addr)(Ξ:XK)(t:TA):TS:=λ_ Z H=>t Z H λvs H1=>vs.length<=sizeLine/\Ξ (.ref C) none H1
theorem a26{x:Str}{C:Addr}{B newId fY:String}{bm:List Value}{np fG pos:Pos}{jx:Expr}{rest:List Expr}{t:TA}{Ξ:XK}(hc:X.calm=true)(O:OwnCls x C bm newId X.mg X.base)(FB:ExcBaseFacts B newId fY bm)(hg:Gl X x)(ha:PA X (jx::rest) t)(hr:xP X Ξ)(he:starEach (jx::rest) X.env=(false,eval jx X.env)::starEach rest X.env)(fZ:(backTo fG (starEach rest X.env)).any (·.1)=false)(hd:(x==("__debug__":Str))=false) :
  PS X (.Raise (some (.Call (.Name x np) (jx::rest) [] fG)) none pos) (QC C Ξ t):=by
 intro pins s Z H D I h;obtain⟨tl,N,nm,q,bs,hdct,sn,sub,ab,col,dd,k0,k1,k2,k3,k5,mN,hC,hN,wM,T⟩:=O.obj;refine wpAny_Raise_call_subT (C:=C) (nm:=nm) (q:=q) (N:=N) (bs:=bs) (bm:=tl) (hdct:=hdct) (sn:=sn) (sub:=sub) (ab:=ab) (col:=col) (dd:=dd) (k0:=k0) (k1:=k1) (k2:=k2) (k3:=k3) (k5:=k5)
  FB (mN:=mN) (T.hasType FB.hasBase) (I.ok.hd hc) (by rw[he];show(false||(backTo fG (starEach rest X.env)).any (·.1))=false;rw[fZ];rfl) wM (P9 I hg O.bound ⟨rfl,?_⟩ hd)
 have h':=ha fG pins s Z H _ I h;rw[he] at h' ⊢;refine Calls.evalArgs_plain (bx h' (λvs fT iD=>?_) λ_ _ y=>y);obtain⟨ws,H1,I1,rv,hz,hE⟩:=iD;exact⟨rfl,by rw[<- rv.length];exact hz,I1.bk _ _ hC,hN.keeps I1.bk,T.keeps I1.bk,λh2 ea hm=>hr pins Z H1 fT h2 ea C vs I1 hm hE⟩
def T4(X:Cx)(pins:List (Addr×Obj))(xe:Value->Shared->Prop):Cx:={ X with pn:=X.pn++pins,xe:=xe }
def E0(X:Cx)(ea:Addr):Cx:={ X with A:=X.A.mark (some (.ref ea)),calm:=false,xe:=λ_ _=>False }
theorem Inv.NP{xe:Value->Shared->Prop}(I:Inv X pins Z H s):Inv (T4 X pins xe) [] Z H s :=
 ⟨⟨I.ok.mod,I.ok.kind,I.ok.glob,I.ok.blt,I.ok.above,I.ok.inj,I.ok.has,I.ok.pe,I.ok.hd,I.ok.frames,I.ok.pN,I.ok.vd,I.ok.bs,I.ok.mW,I.ok.jP,I.ok.kB,I.ok.J8,I.ok.ny⟩,I.os,I.bare,I.base,I.loc,I.cell,I.free,I.dZ,
  λp hp=>I.pin p (by simpa [T4] using hp),I.bK,I.len⟩
theorem Inv.Y8{xe:Value->Shared->Prop}{iz:List (Addr×Obj)}(I:Inv (T4 X pins xe) iz Z H s):Inv X pins Z H s :=
 ⟨⟨I.ok.mod,I.ok.kind,I.ok.glob,I.ok.blt,I.ok.above,I.ok.inj,I.ok.has,I.ok.pe,I.ok.hd,I.ok.frames,I.ok.pN,I.ok.vd,I.ok.bs,I.ok.mW,I.ok.jP,I.ok.kB,I.ok.J8,I.ok.ny⟩,I.os,I.bare,I.base,I.loc,I.cell,I.free,I.dZ,
  λp hp=>I.pin p (cR _ hp),I.bK,I.len⟩
theorem Inv.Ia{ea:Addr}(I:Inv X pins Z H s):Inv (E0 X ea) pins Z H s :=
 ⟨⟨I.ok.mod,I.ok.kind,I.ok.glob,I.ok.blt,I.ok.above,I.ok.inj,I.ok.has,I.ok.pe,λz=>(by cases z),I.ok.frames,I.ok.pN,I.ok.vd,I.ok.bs,I.ok.mW,I.ok.jP,I.ok.kB,I.ok.J8,I.ok.ny⟩,I.os,I.bare,I.base,I.loc,I.cell,I.free,I.dZ,I.pin,I.bK,I.len⟩
theorem Inv.W9{ea:Addr}(J:X.Ok)(I:Inv (E0 X ea) pins Z H s):Inv X pins Z H s :=
 ⟨J,I.os,I.bare,I.base,I.loc,I.cell,I.free,I.dZ,I.pin,I.bK,I.len⟩
theorem SP.Y8{xe:Value->Shared->Prop}{D:Ends}{f:Flow}(h:SP (T4 X pins xe) [] D f s):SP X pins D f s:=by
 cases f with
 |next=>obtain⟨a,b,I,q⟩:=h;exact⟨a,b,I.Y8,q⟩
 |brk=>obtain⟨a,b,I,q⟩:=h;exact⟨a,b,I.Y8,q⟩
 |cont=>obtain⟨a,b,I,q⟩:=h;exact⟨a,b,I.Y8,q⟩
 |ret u=>obtain⟨v,a,b,I,r,q⟩:=h;exact⟨v,a,b,I.Y8,r,q⟩
theorem SP.W9{ea:Addr}{D:Ends}{f:Flow}(J:X.Ok)(h:SP (E0 X ea) pins D f s):SP X pins D f s:=by
 cases f with
 |next=>obtain⟨a,b,I,q⟩:=h;exact⟨a,b,I.W9 J,q⟩
 |brk=>obtain⟨a,b,I,q⟩:=h;exact⟨a,b,I.W9 J,q⟩
 |cont=>obtain⟨a,b,I,q⟩:=h;exact⟨a,b,I.W9 J,q⟩
 |ret u=>obtain⟨v,a,b,I,r,q⟩:=h;exact⟨v,a,b,I.W9 J,r,q⟩
def qU(X:Cx)(D:Ends)(C:Addr)(H:Hp):List ExceptHandler->Prop
 |.ExceptHandler (some (.Name x _)) none (vp::ot) _::rest=>Gl X x/\(x==("__debug__":Str))=false/\∃C' b,X.mg x=some (.ref C')/\PySem.W.exmOne X.K (.ref C) (.ref C')=some b /\
   (if b=true then ∃t:TS,(∀ea,iN (E0 X ea) (vp::ot) t)/\t D (List.replicate X.N.length none) H else qU X D C H rest)
 |[]=>∃Ξ:XK,vJ X Ξ/\Ξ (.ref C) none H
 |_=>False
end
end L2

namespace L2
open PySem PySem.Spec PyProof.Rows
section
variable{X:Cx}{pins:List (Addr×Obj)}{Z:St}{H H':Hp}{s s':Shared}{e:Value}{D:Ends}
def sN(X:Cx)(pins:List (Addr×Obj))(D:Ends)(hs:List ExceptHandler):Value->Shared->Prop:=λe bV =>
 wpAny (model X.prog X.w) X.A (noteFrame e X.env) (λ_ fT=>wpAny (model X.prog X.w) X.A (setFlight e none) (λ_ eP=>wpAny (model X.prog X.w) X.A (handleBy e X.env hs) (SP X pins D) X.xe eP) X.xe fT) X.xe bV
theorem Lies.step{B h1:Heap}{ea C:Addr}{a0:Value}(I:Inv X pins Z H s)(l:Lies X H H' s B ea C a0 s')(st:B.StaysIn h1)(us:s'.heap.UpToSlots h1):Lies X H H' s B ea C a0 { s' with heap:=h1 }:=by
 have J:=l.inv I;obtain⟨u,ok,ib⟩:=WE l.un l.bK l.oG st us λb hb=>⟨J.yc b hb,yf J hb⟩
 exact⟨l.os,l.bare,u,ok,ib⟩
theorem YZ{s:Shared}{B:Heap}{l:List Env}{ea L:Addr}{cls a0:Value}{A:Around}{M:Model}{E:Value->Shared->Prop}{Q:Unit->Shared->Prop}(fw:Heap.FlyingW B l ea cls a0 s.heap)(h:∀h',Heap.HeldW B l ea cls a0 L h'->(∀b o,s.heap.get? b=some o->(∀vs,o.data≠.fields vs)->h'.get? b=some o)->Q () { s with heap:=h' }):wpAny M A (setFlight (.ref ea) (some L)) Q E s:=by
 obtain⟨f1,f2,f3,oe,vs,T,oT,ts,he,lp,hd,h1,rG,wX,hT,rO,h3⟩:=fw;have uq:3<ts.size:=(Array.getElem?_eq_some_iff.mp h3).1;have other:∀b,b≠T->(s.heap.update T (Obj.mapFields (·.setIfInBounds 3 ((some L).elim Value.none λf=>rawInt f)))).get? b=s.heap.get? b :=
  λb hb=>bZ _ _ (bE hb)
 have jQ:∀b o,s.heap.get? b=some o->(∀vs,o.data≠.fields vs)->b≠T:=λb o hb uy q=>by
  rw[q,hT] at hb;injection hb with hb;subst hb;exact uy ts rO
 unfold setFlight;refine ae (kf he hd h1 ?_);rw[aK (show(Value.ref T != Value.none)=true from by simp)];refine dz hT rO uq (h _ ⟨λb o zM=>(other b λq=>by rw [q,rG] at zM;cases zM).trans (f1 b o zM),f2,
  f3.of_keeps λb o hb uy=>⟨o,(other b (jQ b o hb uy)).trans hb,rfl⟩,?_⟩ λb o hb uy=>(other b (jQ b o hb uy)).trans hb)
 exact⟨oe,vs,T,_,_,(other ea (bE wX)).trans he,lp,hd,h1,rG,wX,bc _ hT (cV (bz rO _)),bz rO _,by simp[uq]⟩
theorem Gu{B:Heap}{ea C:Addr}{a0:Value}(hf:X.env.frame=some X.env.locals):∀(hs:List ExceptHandler) (s':Shared),Inv X pins Z H s->Lies X H H' s B ea C a0 s'->Heap.FlyingW B X.stack ea (.ref C) a0 s'.heap->qU X D C H' hs ->
  wpAny (model X.prog X.w) X.A (handleBy (.ref ea) X.env hs) (SP X pins D) X.xe s'
 |[],s',I,l,fw,t=>by
  obtain⟨Ξ,hh,hE⟩:=t;refine wpAny_handleBy_nil ?_;unfold PySem.passOn;obtain⟨f1,f2,f3,oe,vs,T,oT,ts,he,lp,hd,h1,_⟩:=id fw;refine ae (kf he hd h1 ?_);rw[aC (by simp),hf];refine ae (YZ fw λh2 held k=>wpAny_throw ?_);have l2:=l.step I held.1 (λb o hb hn=>⟨o.slots,k b o hb hn⟩);exact hh pins Z H H' s _ B ea C a0 I l2 held hE
 |.ExceptHandler none _ _ _::_,_,_,_,_,t=>t.elim
 |.ExceptHandler (some e) nm bd pos::rest,s',I,l,fw,t=>by
  cases e
  case Name x np =>
   cases nm with
   |some y=>exact t.elim
   |none =>
    cases bd with
    |nil=>exact t.elim
    |cons vp ot =>
     obtain⟨hg,ig,C',b,hm,hx,q⟩:=t;have J:=l.inv I;have JM:Inv (E0 X ea) pins Z H' s':=J.Ia;have LT:PySem.W.Looks (model X.prog X.w) s'.heap (typeOf (.ref ea)) (.ref C):=λA Q E s2 k q=>by
      obtain⟨ob,ho,hc⟩:=fw.there;exact wpAny_typeOf_ref (k _ _ ho) (by rw[hc];exact q)
     refine wpAny_handleBy_cons (codeAny_handlers_test ?_) (by intro z;cases z);refine P9 (X:=E0 X ea) JM hg hm ?_ ig;refine(PySem.W.exm_one (M:=model X.prog X.w) J.gs LT hx).here ?_;cases b with
     |false =>
      simp only[Bool.false_eq_true,if_false] at q;exact Gu hf rest s' I l fw q
     |true =>
      simp only[if_true] at q;obtain⟨t,ht,hq⟩:=q;refine codeAny_handlers_suite ?_;refine wpAny_setFlight_noneW fw.1 fw.2.2.1 fw.2.2.2.at λh2 k1 k2 k3 k4=>?_;have l2:=l.step I k1 (λb o hb hn=>⟨o.slots,k4 b o hb hn⟩);have J2:=l2.inv I;have J3:Inv (E0 X ea) pins (List.replicate X.N.length none) H' { s' with heap:=h2 }:=(J2.weak (by rw [iu,J2.len]) λi v z=>by
       rw [cY] at z;split at z <;> cases z).Ia
      refine bx (ht ea pins _ _ H' D J3 hq) (λf s2 hf=>hf.W9 I.ok) λ_ _ z=>z.elim
  all_goals exact t.elim
theorem ZZ{hs:List ExceptHandler}{Ξ:XK}(dE:X.stack=X.env::X.outer)(hf:X.env.frame=some X.env.locals)(hT:∀C H',Ξ (.ref C) none H'->qU X D C H' hs) :
  Passes (iO X.prog X.w) (T4 X pins (sN X pins D hs)) Ξ:=by
 intro iz Z H s e s' I0 h;have I:Inv X pins Z H s:=I0.Y8;obtain⟨C,H',ho,hb,hu,bK,⟨ea,a0,B,rfl,fw,hB⟩,hE⟩:=h;have l:Lies X H H' s B ea C a0 s':=⟨ho,hb,hu,bK,hB⟩
 have fw:Heap.FlyingW B X.stack ea (.ref C) a0 s'.heap:=fw;show sN X pins D hs (.ref ea) s';unfold sN;have xb:=fw;rw[dE] at xb;refine wpAny_looks_onW (by rw[I.ok.frames,dE]) hf xb λh1 held us=>?_;have l1:=l.step I held.1 us;refine wpAny_landsW held λh2 fl JZ=>?_;have l2:=l1.step I fl.1 JZ;rw[<- dE] at fl;exact Gu hf hs _ I l2 fl (hT C H' hE)
theorem PD{hs:List ExceptHandler}{h₀:ExceptHandler}{body:List Stmt}{pos:Pos}{t:Ends->TS}{Ξ:Ends->XK}(dE:X.stack=X.env::X.outer)(hf:X.env.frame=some X.env.locals)(hb:∀pins D,(∀C H',Ξ D (.ref C) none H'->qU X D C H' (h₀::hs))->iN (T4 X pins (sN X pins D (h₀::hs))) body (t D)) :
  PS X (.Try body (h₀::hs) [] [] pos) (λD Z H=>(∀C H',Ξ D (.ref C) none H'->qU X D C H' (h₀::hs))/\t D D Z H):=by
 intro pins s Z H D I ⟨hT,h⟩;refine wpAny_Try_except (bx (hb pins D hT [] s Z H D I.NP h) (λf s1 q=>?_) λe s1 q=>q);have q:=q.Y8;cases f with
 |next =>
  obtain⟨bN,H',I',q⟩:=q;exact cF (jy ⟨bN,H',I',q⟩) λ_ _ z=>z
 |brk=>exact q
 |cont=>exact q
 |ret u=>exact q
end
end L2

namespace L2
open PySem PySem.Spec PyProof.Rows
section
variable{M:Model}{A:Around}{E:Value->Shared->Prop}{env:Env}{s:Shared}
end
end L2

namespace L2
open PySem PySem.Spec PyProof.Rows
theorem Hx{B B' h h2:Heap}{C:Addr}(hB:∀b,b≠C->B'.get? b=B.get? b)(hh:∀b,b≠C->h2.get? b=h.get? b){oC:Obj}(hC:B.get? C=some oC):∀{l:List Env},h.FunFrames B l->h2.FunFrames B' l
 |[],x=>x
 |env::r,⟨x1,⟨L,o,x2,x3,x4,x5⟩,x6⟩=>by
  have hL:L≠C:=λz=>by rw[z,hC] at x3;cases x3
  exact⟨x1,⟨L,o,x2,(hB L hL).trans x3,(hh L hL).trans x4,x5⟩,Hx hB hh hC x6⟩
section
variable{X:Cx}{pins:List (Addr×Obj)}{Z:St}{H H':Hp}{s s':Shared}
theorem Lies.Ce{B h2:Heap}{ea Cc C L:Addr}{a0:Value}{o o2:Obj}(l:Lies X H H' s B ea Cc a0 s')(held:Heap.HeldW B X.stack ea (.ref Cc) a0 L s'.heap)(sb:Heap.SameBut C s'.heap h2)(wY:h2.get? C=some o2)(DM:o2.isFreed=false)(hn:H C=none)(hs:s.heap.get? C=some o)(nf:C∉fA X.stack) :
  ∃B',Lies X H H' { s with heap:=s.heap.update C λ_=>o2 } B' ea Cc a0 { s' with heap:=h2 }/\Heap.HeldW B' X.stack ea (.ref Cc) a0 L h2:=by
 obtain⟨oC,eC⟩:=l.un.there C o hs (by simp);have n':H' C=none:=l.un.free C o hs hn (by simp);have hB:B.get? C=some oC:=l.oG C oC eC nf (.inr ⟨o,hs⟩);have b1:(B.update C λ_=>o2).get? C=some o2:=bc _ hB DM;have b2:∀b,b≠C->(B.update C λ_=>o2).get? b=B.get? b:=λb hb=>bZ _ _ (bE hb);have s1:(s.heap.update C λ_=>o2).get? C=some o2:=bc _ hs DM;have s2:∀b,b≠C->(s.heap.update C λ_=>o2).get? b=s.heap.get? b:=λb hb=>bZ _ _ (bE hb);have nR:∀b,b≠C->h2.get? b=s'.heap.get? b:=sb.2;have ne:∀{b:Addr},B.get? b=none->b≠C:=λ{b} h z=>by rw[z,hB] at h;cases h
 obtain⟨f1,f2,f3,oe,vs,T,oT,ts,he,lp,hd,h1,rG,wX,hT,rO,h3⟩:=held;refine⟨B.update C λ_=>o2,⟨l.os,l.bare,⟨λb u e n1 n2 n3=>?_,λb u e n1 n2 n3=>?_,λb u e n1 n2=>?_,λb u e n1=>?_,l.un.gH,l.un.gw,l.un.gI⟩,?_,λb u e n1 q=>?_⟩,λb u e=>?_,(b2 ea (ne f2)).trans f2,Hx b2 nR hB f3,oe,vs,T,oT,ts,(nR ea (ne f2)).trans he,lp,hd,h1,(b2 T (ne rG)).trans rG,wX,(nR T (ne rG)).trans hT,rO,h3⟩
 ·by_cases z:b=C
  ·subst z;rw[show({ s with heap:=s.heap.update b λ_=>o2 }:Shared).heap.get? b=_ from s1] at e;cases e;exact wY
  ·exact(nR b z).trans (l.un.keep b u ((s2 b z).symm.trans e) n1 n2 n3)
 ·have z:b≠C:=λz=>nf (z▸n2);obtain⟨sl,q⟩:=l.un.slot b u ((s2 b z).symm.trans e) n1 n2 n3;exact⟨sl,(nR b z).trans q⟩
 ·by_cases z:b=C
  ·subst z;exact n'
  ·exact l.un.free b u ((s2 b z).symm.trans e) n1 n2
 ·by_cases z:b=C
  ·subst z;exact⟨_,wY⟩
  ·obtain⟨w,q⟩:=l.un.there b u ((s2 b z).symm.trans e) n1;exact⟨w,(nR b z).trans q⟩
 ·intro a u e;exact (l.bK a u e).Q7 (λb w hb q=>by
   have:b≠C:=λz=>by
    rcases hb with rfl|hb
    ·rw[z,n'] at e;cases e
    ·rw[z,n'] at hb;cases hb
   exact (nR b this).trans q) (λb hb=>hb) (λb xs hb=>hb)
 ·by_cases z:b=C
  ·subst z;rw[show({ s' with heap:=h2 }:Shared).heap.get? b=_ from wY] at e;cases e;exact b1
  ·refine(b2 b z).trans (l.oG b u ((nR b z).symm.trans e) n1 ?_);rcases q with q|⟨o0,q⟩
   ·exact .inl q
   ·exact .inr ⟨o0,(s2 b z).symm.trans q⟩
 ·by_cases z:b=C
  ·subst z;rw[b1] at e;cases e;exact wY
  ·exact(nR b z).trans (f1 b u ((b2 b z).symm.trans e))
end
end L2

namespace L2
open PySem PySem.Spec PyProof.Rows
def Dh(K:PySem.W.Frag)(a:Addr):It :=
 ⟨λi H=>∃xs x,fB K H a xs/\xs[i]?=some x,λi H v H'=>∃p x,H p=none/\v=.ref p/\(∀xs,fB K H a xs->xs[i]?=some x)/\H'=upd H p (.tup [.int i,x]),λi H=>∃xs,fB K H a xs/\xs.length<=i⟩
theorem XT{P:Program}{w:World}{K:PySem.W.Frag}{elts:List Expr}{x1:Nat}{tp:Pos}(a e it:Addr)(EC:e≠it):Turn P w K (.Tuple elts x1 tp) (Dh K a) [e,it] e (λi h=>(∃old,IsEnum h e it i old)/\h.IsListIter it a i) where
 mem:=by simp
 obj:=λi h st b hb=>by
  obtain⟨⟨old,h1⟩,o,h2,c,d⟩:=st;rcases aE.mp hb with z|z
  ·subst z;exact ⟨_,h1,λv z=>by
    have z':Data.fields _=Data.cell v:=z;cases z'⟩
  ·have z:b=it:=by simpa using z
   subst z;exact⟨o,h2,λv z=>by rw[d] at z;cases z⟩
 keep:=λi h h' st k=>by
  obtain⟨⟨old,h1⟩,h2⟩:=st;exact⟨⟨old,k e (by simp) _ h1⟩,h2.at λo x=>k it (by simp) o x⟩
 item:=by
  intro X hP hw hK hc i pins s Z H E I hf st hg;subst hP hw hK;obtain⟨⟨old,h1⟩,h2⟩:=st;obtain⟨xs,x,hq,hx⟩:=hg;obtain⟨aX,rv,p,hz⟩:=I.list hq;obtain⟨u,hu,ru⟩:=rv.get hx;obtain⟨e0,e1,e2,e3,e4,e5⟩:=hf e (by simp);obtain⟨f0,f1,f2,f3,f4,f5⟩:=hf it (by simp);refine wpAny_pyNext_enum_item h1 h2 p.isList (x:=u) (by simpa using hu) EC λh' oP zE uo KS nt=>?_;refine⟨_,rfl,wpAny_letOwnedTupleGo_enum oP λuV LR iM=>?_⟩;have iM:Heap.SameBut e h' uV:=iM;have elt:e<s.heap.objs.size:=aB h1;have kp:∀b o,b≠e->b≠it->s.heap.get? b=some o->uV.get? b=some o:=λb o b1 b2 q=>(iM.2 b b1).trans (nt b o b1 b2 q);have hn:H s.heap.objs.size=none:=I.bK.fresh (aw _);have yF:uV.get? s.heap.objs.size=some { cls:=.type "tuple",data:=.seq #[.int i s.toks,u] }:=(iM.2 _ (bS elt)).trans uo;have ne:∀b u',H b=some u'->b≠e/\b≠it:=λb u' q=>And.intro (λ(z:b=e)=>by rw[z,e0] at q;cases q) (λ(z:b=it)=>by rw[z,f0] at q;cases q);have bK:fO X.prog X.w (upd H s.heap.objs.size (.tup [.int i,x])) uV:=λb o q=>by
   by_cases hb:b=s.heap.objs.size
   ·subst hb;rw[p8] at q;cases q;exact⟨by show 2<=sizeLine;decide,[.int i s.toks,u],.cons ⟨_,rfl⟩ (.cons ru .nil),_,yF,rfl,⟨_,rfl⟩,rfl⟩
   ·rw[d6 hb] at q;refine(I.bK b o q).Q7 (λc v hc q'=>?_) (λc q'=>by rw[d6 (j9 q' hn)];exact q') λc ys q'=>by rw[d6 (j9 q' hn)];exact q'
    rcases hc with z|z
    ·subst z;exact kp _ _ (ne _ _ q).1 (ne _ _ q).2 q'
    ·exact kp _ _ (ne _ _ z).1 (ne _ _ z).2 q'
  have I2:Inv X pins Z (upd H s.heap.objs.size (.tup [.int i,x])) { s with heap:=uV,toks:=s.toks+1 }:=by
   refine I.step (g':=s.gens) (d':=s.drawn) (t':=s.toks+1) (ch:=[e,it]) (λb hb=>?_) (λb o _ _ hb q _=>kp b o (λz=>hb (by simp[z])) (λz=>hb (by simp[z])) q) (λb o _ _ hb q _=>⟨o.slots,kp b o (λz=>hb (by simp[z])) (λz=>hb (by simp[z])) q⟩)
    (λb o _ q n=>by rw[d6 (aN (aB q))];exact n) (λb o hb q=>⟨o,kp b o (λz=>hb (by simp[z])) (λz=>hb (by simp[z])) q⟩)
    (λb ys q=>by rw[d6 (j9 q hn)];exact q) (λb o' ys q=>by rw[d6 (j9 q hn)];exact q) (λb ps q=>⟨#[],by rw[d6 (j9 q hn),q];simp⟩) (λm hm=>?_) bK I.bare
   ·rcases aE.mp hb with z|z
    ·subst z;exact⟨e3,e1,e4,e5⟩
    ·have z:b=it:=by simpa using z
     subst z;exact⟨f3,f1,f4,f5⟩
   ·obtain⟨o,es,ep,ho,r⟩:=hm;exact⟨o,es,ep,kp _ o (bE e1) (bE f1) ho,r⟩
  refine⟨.ref s.heap.objs.size,_,I2,rfl,⟨s.heap.objs.size,x,hn,rfl,λys hy=>by rw[I.Bt hy hq];exact hx,rfl⟩,⟨⟨u,by simpa using LR⟩,zE.at λo y=>(iM.2 it EC.symm).trans y⟩,λb hb=>?_⟩;have kd:b<s.heap.objs.size:=by
   rcases aE.mp hb with z|z
   ·subst z;exact elt
   ·have z:b=it:=by simpa using z
    subst z;obtain⟨o,h2,_⟩:=h2;exact aB h2
  rw[d6 (aN kd)];exact(hf b hb).1
 done:=by
  intro X hP hw hK hc i pins s Z H E I hf st hg;subst hP hw hK;obtain⟨⟨old,h1⟩,h2⟩:=st;obtain⟨xs,hq,hx⟩:=hg;obtain⟨aX,rv,p,hz⟩:=I.list hq;obtain⟨f0,f1,f2,f3,f4,f5⟩:=hf it (by simp);have hl:=rv.length;exact wpAny_pyNext_enum_end (I.ok.hd hc) h1 h2 p.isList (by simp;omega) λh' eb=>⟨rfl,I.turned (t':=s.toks) (λb o hb e=>eb b o hb e) f0 f1 f3 f4 f5⟩
 self:=λ_ _ _ _ _ st h=>by
  obtain⟨⟨old,h1⟩,h2⟩:=st;exact wpAny_pyIter_enum h1 h
section
variable{X:Cx}
theorem RQ{l:Expr}{ta:TA}{p pos tp:Pos}{elts:List Expr}{x1:Nat}(hg:Gl X "enumerate")(hm:X.mg "enumerate"=none)(ha:PA X [l] ta)(hs:starEach [l] X.env=[(false,eval l X.env)]) :
  PI X (.Tuple elts x1 tp) (.Call (.Name "enumerate" p) [l] [] pos) (λZ H R=>ta Z H λvs H1=>∃a,vs=[.ref a]/\(∃xs,fB X.K H1 a xs)/\R (Dh X.K a) H1):=by
 intro pins s Z H R I h;refine Call_ (L0 I hg hm PyProof.Rows.boot_enumerate (bJ (cF (ha pos pins s Z H _ I h) λus s1 bq=>?_) hs rfl));obtain⟨vs,H1,I1,r1,q1⟩:=bq;obtain⟨a,e,⟨xs,hq⟩,q⟩:=q1;subst e;cases r1 with
 |cons r rr =>
  cases rr;cases r;obtain⟨aX,rv,p,hz⟩:=I1.list hq;refine call_enumerate_list p.isList λh' he hit hsz hk=>wpAny_pyIter_enum he ?_;refine⟨s1.heap.objs.size+1,[s1.heap.objs.size+1,s1.heap.objs.size],_,_,H1,rfl,I1.kept (t':=s1.toks) hk,XT a _ _ (by simp),⟨⟨_,he⟩,hit⟩,λb hb=>?_,q⟩;have kd:s1.heap.objs.size<=b:=by
   rcases aE.mp hb with z|z
   ·rw[z];exact gg _
   ·have z:b=s1.heap.objs.size:=by simpa using z
    rw[z];exact aw _
  exact I1.pj kd (I1.bK.fresh kd)
theorem VM{e:Expr}{t:TE}{pos:Pos}(he:PE X e t):PE X (.FormattedValue e (-1) none pos) (λZ H Q=>t Z H λx H1=>(∃i,x=.int i/\i.natAbs.log2<1920/\Q (.str (toString i)) H1)\/∃y,x=.str y/\y.length<=sizeLine/\Q (.str y) H1):=by
 intro pins s Z H Q I h;refine wpAny_FormattedValue_plain (cF (he pins s Z H _ I h) λv s1 bq=>?_);obtain⟨x,H1,I1,r1,q1⟩:=bq;rcases q1 with⟨i,rfl,hd,q⟩|⟨y,rfl,hy,q⟩
 ·obtain⟨t,rfl⟩:=r1;exact wpAny_formatField_int hd ⟨.str _,H1,I1.tok _,⟨_,rfl⟩,q⟩
 ·obtain⟨t,rfl⟩:=r1;exact wpAny_formatField_str ⟨.str _,H1,I1,⟨_,rfl⟩,q⟩ ⟨.str _,H1,I1.tok _,⟨_,rfl⟩,q⟩ hy
inductive sP(X:Cx):List Expr->List TE->Prop
 |nil:sP X [] []
 |cons {e:Expr} {t:TE} {es:List Expr} {ts:List TE} (h:PE X e t) (r:sP X es ts):sP X (e::es) (t::ts)
def xy:List TE->St->Hp->Str->(Str->Hp->Prop)->Prop
 |[],_,H,acc,Q=>Q acc H
 |t::ts,Z,H,acc,Q=>t Z H λx H1=>∃y,x=.str y/\(acc++y).length<=sizeLine/\xy ts Z H1 (acc++y) Q
theorem Ja{pins:List (Addr×Obj)}{Z:St}{Q:Str->Hp->Prop}:∀{es:List Expr} {ts:List TE},sP X es ts->∀{s:Shared} {H:Hp} {acc:Str},Inv X pins Z H s->xy ts Z H acc Q ->
  Joins (model X.prog X.w) X.A X.xe (evalEach es X.env) acc (λout s1=>∃H1,Inv X pins Z H1 s1/\Q out H1) s
 |_,_,.nil,s,H,acc,I,h=>⟨H,I,h⟩
 |_,_,.cons he r,s,H,acc,I,h=>by
  rw[arm_evalEach_cons];refine cF (he pins s Z H _ I h) λv s1 bq=>?_;obtain⟨x,H1,I1,r1,y,ey,hy,q1⟩:=bq;subst ey;obtain⟨t,rfl⟩:=r1;exact⟨y,t,rfl,hy,Ja r I1 q1⟩
theorem GK{M:Model}{A:Around}{E:Value->Shared->Prop}{Q Q':Str->Shared->Prop}(hq:∀x s,Q x s->Q' x s):∀{l:List (Sem Value)} {acc:Str} {s:Shared},Joins M A E l acc Q s->Joins M A E l acc Q' s
 |[],acc,s,h=>hq _ _ h
 |x::r,acc,s,h=>cF h λv s1 ⟨y,t,e,hz,h1⟩=>⟨y,t,e,hz,GK hq h1⟩
theorem RL{kU kT:Expr}{rest:List Expr}{ts:List TE}{pos:Pos}(h:sP X (kU::kT::rest) ts):PE X (.JoinedStr (kU::kT::rest) pos) (λZ H Q=>xy ts Z H Str.empty λout H1=>out.length<=sizeLine/\Q (.str out) H1):=by
 intro pins s Z H Q I hw;refine wpAny_JoinedStr (GK (λx s1 ⟨H1,I1,hl,q⟩=>⟨hl,.str x,H1,I1.tok _,⟨_,rfl⟩,q⟩) (Ja h I hw))
theorem Yk{lo:Int}{acc:Array Value}{n:Nat}(h:ItemsOf (λi v=>∃t,v=.int (lo+i*1) t) acc n):Vals ((List.range n).map λ(k:Nat)=>V.int (lo+k)) acc.toList:=by
 have hl:acc.toList.length=n:=by
  have:=h.1;simpa using this
 have go:∀(m:Nat) (l:List Value),l.length<=n->m+l.length=n->(∀i v,l[i]?=some v->∃t,v=Value.int (lo+((m+i:Nat):Int)) t)->Vals ((List.range' m l.length).map λ(k:Nat)=>V.int (lo+k)) l:=by
  intro m l
  induction l generalizing m with
  |nil=>intro _ _ _;exact .nil
  |cons x r ih =>
   intro h1 h2 h3;simp only[List.length_cons,List.range'_succ,List.map_cons];refine .cons ?_ (ih (m+1) (by simp at h1;omega) (by simp at h2;omega) λi v hv=>?_)
   ·obtain⟨t,e⟩:=h3 0 x rfl;exact⟨t,by rw[e];simp⟩
   ·obtain⟨t,e⟩:=h3 (i+1) v (by simpa using hv);exact⟨t,by rw[e,show m+(i+1)=m+1+i by omega]⟩
 have:=go 0 acc.toList (by omega) (by omega) λi v hv=>?_
 ·rw[hl,<- List.range_eq_range'] at this;exact this
 ·have hi:i<n:=by
   have:=(ao.mp hv).1;omega
  have:acc[i]?=some v:=by rw[<- iy];exact hv
  obtain⟨t,e⟩:=h.2 i v this;refine⟨t,?_⟩;rw[e];simp
theorem Hy(hc:X.calm=true):l9 X (.type "list") (λxs H Q=>∃a lo hi,xs=[.ref a]/\H a=some (.lJ lo hi)/\(-(2 ^ 62)<=lo/\lo<2 ^ 62/\-(2 ^ 62)<=hi/\hi<2 ^ 62/\hi-lo<=100000)/\∀p,H p=none->Q (.ref p) (upd H p (.lst ((List.range (hi-lo).toNat).map λ(k:Nat)=>V.int (lo+k))))):=by
 intro pins s Z H xs us Q I r h;obtain⟨a,lo,hi,rfl,ha,⟨h1,h2,h3,h4,h5⟩,q⟩:=h;obtain⟨t,u,v,ho⟩:=I.bK a _ ha;cases r with
 |cons r rr =>
 cases rr;cases r;have hn:Builtin.Range.rangeSize lo hi 1=((hi-lo).toNat:Nat):=by rw[rangeSize_one];split<;>omega
 refine call_list_range (n:=(hi-lo).toNat) (I.ok.hd hc) ho (small_one h1 h2 h3 h4) hn (by omega) λh' lY acc c hk hS ie=>?_;have hp:H s.heap.objs.size=none:=I.bK.fresh (aw _);refine⟨.ref _,_,I.laid (a:=s.heap.objs.size) (o:=.lst ((List.range (hi-lo).toNat).map λ(k:Nat)=>V.int (lo+k))) (t':=lY) hk (aw _) ⟨?_,acc.toList,c,Yk ie,by simpa using hS⟩,rfl,q _ hp⟩;rw[ak,List.length_range];have:(hi-lo).toNat<=100000:=by omega
 exact aD this (by decide)
theorem Xw{a:Expr}{ta:TA}{p pos:Pos}(hg:Gl X "range")(hm:X.mg "range"=none)(ha:PA X [a] ta)(hs:starEach [a] X.env=[(false,eval a X.env)]):PE X (.Call (.Name "range" p) [a] [] pos) (λZ H Q=>ta Z H λvs H1=>∃j:Int,vs=[.int j]/\∀q,H1 q=none->Q (.ref q) (upd H1 q (.lJ 0 j))):=by
 intro pins s Z H Q I h;refine cP (L0 I hg hm boot_range (bJ (cF (ha pos pins s Z H _ I h) λus s1 bq=>?_) hs rfl));obtain⟨vs,H1,I1,r1,q1⟩:=bq;obtain⟨j,e,q⟩:=q1;subst e;cases r1 with
 |cons r rr =>
  cases rr;obtain⟨t,rfl⟩:=r;exact call_range_1 ⟨.ref s1.heap.objs.size,_,I1.laid (a:=s1.heap.objs.size) (o:=.lJ 0 j) (λb o e=>av _ e) (aw _) ⟨_,_,_,aG _ rfl⟩,rfl,q _ (I1.bK.fresh (aw _))⟩
theorem Xx{a b:Expr}{ta:TA}{p pos:Pos}(hg:Gl X "range")(hm:X.mg "range"=none)(ha:PA X [a,b] ta)(hs:starEach [a,b] X.env=[(false,eval a X.env),(false,eval b X.env)])(iM:starEach [b] X.env=[(false,eval b X.env)]):PE X (.Call (.Name "range" p) [a,b] [] pos) (λZ H Q=>ta Z H λvs H1=>∃i j:Int,vs=[.int i,.int j]/\∀q,H1 q=none->Q (.ref q) (upd H1 q (.lJ i j))):=by
 intro pins s Z H Q I h;refine cP (L0 I hg hm boot_range (bJ (cF (ha pos pins s Z H _ I h) λus s1 bq=>?_) (by rw[hs,iM]) (by rw[iM];rfl)));obtain⟨vs,H1,I1,r1,q1⟩:=bq;obtain⟨i,j,e,q⟩:=q1;subst e;cases r1 with
 |cons r rr =>
  cases rr with
  |cons r' rr =>
   cases rr;obtain⟨t,rfl⟩:=r;obtain⟨t',rfl⟩:=r';exact call_range_2 ⟨.ref s1.heap.objs.size,_,I1.laid (a:=s1.heap.objs.size) (o:=.lJ i j) (λb o e=>av _ e) (aw _) ⟨_,_,_,aG _ rfl⟩,rfl,q _ (I1.bK.fresh (aw _))⟩
def vB(K:PySem.W.Frag)(P:Params)(a:Addr)(kvs:List (Str×V)):Prop :=
 ∃es n,K.lookup a=some ⟨.type "dict",none,.dict es n,#[]⟩/\PySem.W.KeysLit P es.toList/\(a==sysModules)=false/\∀x,F0 (kvs.lookup x) (findBy Value.isStrOf es x)
theorem HN{kvs:List (Str×V)}(neg:Bool):fq X (compareOp (if neg then .NotIn else .In)) (λx y H Q=>∃a z,y=.ref a/\vB X.K X.w.params a kvs/\x=.str z/\Q (.bl (xor neg (kvs.lookup z).isSome)) H):=by
 intro pins s Z H x y v u Q I rx ry h;obtain⟨a,z,rfl,⟨es,n,hl,hk,lo,hf⟩,rfl,q⟩:=h;obtain⟨t,rfl⟩:=rx;cases ry;have hm:=PySem.W.mapOf_K (prog:=X.prog) (w:=X.w) I.gs hl hk;have e:=hf z;have ee:(findBy Value.isStrOf es z).isSome=(kvs.lookup z).isSome:=by
  cases h1:kvs.lookup z<;>cases h2:findBy Value.isStrOf es z<;>rw[h1,h2] at e<;>first|rfl|exact e.elim
 cases neg
 ·exact wpAny_in_of (strKind_is X.prog X.w z t) lo hm ⟨.bl _,H,I.tok _,by rw[ee];rfl,by simpa using q⟩
 ·exact wpAny_notIn_of (strKind_is X.prog X.w z t) lo hm ⟨.bl _,H,I.tok _,by rw[ee];rfl,by simpa using q⟩
theorem Vm{kvs:List (Str×V)}:rf X (λx y H Q=>∃a z v,x=.ref a/\vB X.K X.w.params a kvs/\y=.str z/\kvs.lookup z=some v/\Q v H):=by
 intro value slice pins s Z H x y v u Q I rx ry h hs;obtain⟨a,z,d,rfl,⟨es,n,hl,hk,lo,hf⟩,rfl,hz,q⟩:=h;cases rx;obtain⟨t,rfl⟩:=ry;have hm:=PySem.W.mapOf_K (prog:=X.prog) (w:=X.w) I.gs hl hk;have e:=hf z;rw[hz] at e;cases h2:findBy Value.isStrOf es z with
 |none=>rw[h2] at e;exact e.elim
 |some r =>
  rw[h2] at e;exact tail_any hm.typeIs slot_dict_getitem.lookup (wpAny_getItem_of (strKind_is X.prog X.w z t) hm h2 ⟨d,H,I.tok _,e,q⟩) hs
theorem Rm(hu:X.A.units+1<cLine):rf X (λx y H Q=>∃a v,x=.ref a/\O1 H a y (some v)/\Q v H):=by
 intro value slice pins s Z H x y v u Q I rx ry h hs;obtain⟨a,d,rfl,g,q⟩:=h;cases rx;exact tail_any (YW I g) slot_dict_getitem.lookup (WV hu I g ry λw' s3 I3 fJ=>⟨d,H,I3,fJ,q⟩) hs
end
end L2

namespace ST
open PySem PyProof.Rows
noncomputable abbrev ke(xs:Array Nat):Prop:=xs.toList.Pairwise (· < ·)
theorem ke.lt{xs:Array Nat}(h:ke xs){i k:Nat}(uF:i<k)(hk:k<xs.size):xs.getD i 0<xs.getD k 0:=by
 have:=fX.mp h i k (by simpa using cL uF hk) (by simpa using hk) uF;simp only[Array.getElem_toList] at this;rw[<- dD (h:=cL uF hk),<- dD (h:=hk)];exact this
theorem ke.le{xs:Array Nat}(h:ke xs){i k:Nat}(uF:i<=k)(hk:k<xs.size):xs.getD i 0<=xs.getD k 0:=by
 rcases Nat.eq_or_lt_of_le uF with e|e
 ·rw[e];exact aw _
 ·exact dP (h.lt e hk)
theorem Bg{xs:Array Nat}{j:Nat}(h:ke xs):∀(fuel lo hi:Nat),hi-lo<=fuel->lo<=hi->hi<=xs.size->(∀i,i<lo->xs.getD i 0<j)->(∀i,hi<=i->i<xs.size->j<=xs.getD i 0) ->
  SetTable.below.go xs j fuel lo hi<=xs.size/\(∀i,i<SetTable.below.go xs j fuel lo hi->xs.getD i 0<j)/\∀i,SetTable.below.go xs j fuel lo hi<=i->i<xs.size->j<=xs.getD i 0
 |0,lo,hi,h1,h2,h3,h4,h5=>by
  unfold SetTable.below.go;have:lo=hi:=by omega
  subst this;exact⟨h3,h4,h5⟩
 |fuel+1,lo,hi,h1,h2,h3,h4,h5=>by
  unfold SetTable.below.go;split
  ·rename_i hl;have hm:(lo+hi) / 2<xs.size:=by omega
   have em:xs.getD ((lo+hi) / 2) j=xs.getD ((lo+hi) / 2) 0:=by simp[Array.getD,hm]
   dsimp only;rw[em];by_cases hc:xs.getD ((lo+hi) / 2) 0<j
   ·rw[aK hc];exact Bg h fuel _ hi (by omega) (by omega) h3 (λi ie=>dk (h.le (by omega) hm) hc) h5
   ·rw[aC hc];exact Bg h fuel lo _ (by omega) (by omega) (by omega) h4 λi ie hs=>aD (kP hc) (h.le ie hs)
  ·have:lo=hi:=by omega
   subst this;exact⟨h3,h4,h5⟩
theorem P1{xs:Array Nat}(j:Nat)(h:ke xs):SetTable.below xs j<=xs.size/\(∀i,i<SetTable.below xs j->xs.getD i 0<j)/\∀i,SetTable.below xs j<=i->i<xs.size->j<=xs.getD i 0 :=
 Bg h _ 0 _ (by omega) (by omega) (aw _) (λi hi=>absurd hi (Nat.not_lt_zero _)) λi h1 h2=>absurd h2 (by omega)
theorem below_at{xs:Array Nat}(h:ke xs){i:Nat}(hi:i<xs.size):SetTable.below xs (xs.getD i 0)=i:=by
 obtain⟨h1,h2,h3⟩:=P1 (xs.getD i 0) h;rcases dF (SetTable.below xs (xs.getD i 0)) i with z|z|z
 ·exact absurd (h3 _ (aw _) (by omega)) (Nat.not_le_of_lt (h.lt z hi))
 ·exact z
 ·exact absurd (h2 i z) (bw _)
theorem Yb{xs:Array Nat}(h:ke xs){i:Nat}(hi:i<xs.size):SetTable.below xs (xs.getD i 0+1)=i+1:=by
 obtain⟨h1,h2,h3⟩:=P1 (xs.getD i 0+1) h;rcases dF (SetTable.below xs (xs.getD i 0+1)) (i+1) with z|z|z
 ·have:=h3 i (by omega) hi;omega
 ·exact z
 ·have:=h2 (i+1) z;have:=h.lt (fk i) (k:=i+1) (by omega);omega
theorem Yc{xs:Array Nat}(h:ke xs):SetTable.below xs 0=0:=by
 obtain⟨_,h2,_⟩:=P1 0 h;rcases Nat.eq_zero_or_pos (SetTable.below xs 0) with z|z
 ·exact z
 ·exact absurd (h2 0 z) (Nat.not_lt_zero _)
theorem getD_mem{xs:Array Nat}{i:Nat}(hi:i<xs.size):xs[i]?=some (xs.getD i 0):=by simp[Array.getD,hi]
theorem YC{t:SetTable}{j:Nat}(h:ke t.place)(hs:t.slot j=.empty):j∉t.place.toList:=by
 intro hm;obtain⟨i,hi,e⟩:=bD.mp hm;have ie:i<t.place.size:=by simpa using hi
 have ej:t.place.getD i 0=j:=by rw[<- dD (h:=ie)];simpa using e
 have hb:=below_at h ie;rw[ej] at hb;unfold SetTable.slot at hs;dsimp only at hs;rw[hb,getD_mem ie,ej] at hs;simp at hs
theorem Yy{xs:Array Nat}{j:Nat}(h:ke xs)(hj:j∉xs.toList):ke (SetTable.insertAt xs (SetTable.below xs j) j):=by
 obtain⟨h1,h2,h3⟩:=P1 j h;show(SetTable.insertAt xs (SetTable.below xs j) j).toList.Pairwise (· < ·);rw[SetTable.toList_insertAt,yu];have tk:∀a∈xs.toList.take (SetTable.below xs j),a<j:=λa ha=>by
  obtain⟨i,hi,e⟩:=bD.mp ha;rw[cj] at hi;rw[List.getElem_take] at e;have hs:i<xs.size:=by simp at hi;omega
  have:=h2 i (by omega);rw[<- dD (h:=hs)] at this;simp at e;omega
 have dp:∀b∈xs.toList.drop (SetTable.below xs j),j<b:=λb hb=>by
  obtain⟨i,hi,e⟩:=bD.mp hb;rw[gG] at hi;rw[List.getElem_drop] at e;have hs:SetTable.below xs j+i<xs.size:=by simp at hi;omega
  have:=h3 (SetTable.below xs j+i) (by omega) hs;rw[<- dD (h:=hs)] at this;have dG:b≠j:=λz=>hj (by rw[<- z];exact iU hb);simp at e;omega
 refine⟨h.take,jG.mpr ⟨dp,h.drop⟩,λa ha b hb=>?_⟩;have lx:=tk a ha;rcases aE.mp hb with z|z
 ·omega
 ·have:=dp b z;omega
theorem XG(n:Nat):ke (Array.range n):=by
 show(Array.range n).toList.Pairwise (· < ·);rw[Array.toList_range];exact sW
structure Well(L:Bool)(t:SetTable):Prop where
 wA:ke t.place
 AA:t.dummies=#[]
 led:t.led=L
theorem ZU{t:SetTable}(hd:t.dummies=#[])(j:Nat):t.slot j≠.dummy:=by
 unfold SetTable.slot;dsimp only;split
 ·intro z;cases z
 ·rw[hd];split
  ·rename_i z;simp[SetTable.has] at z
  ·intro z;cases z
theorem Hq{t:SetTable}(hd:t.dummies=#[]){hashAt:Nat->Int}{h:Int}:∀(fuel:Nat) (p:SetTable.Probe) {j:Nat} {dm:Option Nat},p.dummy=none->SetTable.probe.go t hashAt h fuel p=some (.empty j dm)->t.slot j=.empty/\dm=none
 |0,p,j,dm,_,e=>by simp[SetTable.probe.go] at e
 |fuel+1,p,j,dm,hp,e=>by
  unfold SetTable.probe.go at e;have ad:∀q:SetTable.Probe,q.dummy=none->(t.advance q).dummy=none:=λq hq=>by
   unfold SetTable.advance;split
   ·exact hq
   ·exact hq
  split at e
  ·rename_i hs;cases e;exact⟨hs,hp⟩
  ·rename_i hs;exact absurd hs (ZU hd _)
  ·split at e
   ·cases e
   ·exact Hq hd fuel _ (ad p hp) e
theorem WY{t:SetTable}(hd:t.dummies=#[]){h:Int}{j:Nat}{wd:Bool}(e:t.freeSlot h=some (j,wd)):t.slot j=.empty/\wd=false:=by
 unfold SetTable.freeSlot at e;split at e
 ·rename_i j' dm hp;obtain⟨h1,h2⟩:=Hq hd _ _ rfl hp;subst h2;cases e;exact⟨h1,rfl⟩
 ·cases e
theorem K8{L:Bool}{t:SetTable}(h:Well L t)(n:Nat):Well L (t.standIn n):=⟨XG n,rfl,h.led⟩
theorem Y'{L:Bool}{t:SetTable}{es:Array (Int×Value)}{h:Int}{x:Value}(hw:Well L t):Well L (layNew t es h x).2.1/\(layNew t es h x).2.2.1=false:=by
 unfold layNew;split
 ·rename_i slot wd e;obtain⟨h1,h2⟩:=WY hw.AA e;refine⟨?_,h2⟩;have hd:SetTable.has t.dummies slot=false:=by rw[hw.AA];simp[SetTable.has]
  have w2:Well L (t.put slot).1:=⟨Yy hw.wA (YC hw.wA h1),by simp only[SetTable.put,hd];exact hw.AA,hw.led⟩
  dsimp only;unfold SetTable.orStandIn;split
  ·exact w2
  ·exact K8 w2 _
 ·exact⟨K8 hw _,rfl⟩
theorem Xh{L:Bool}{mask finger moves:Nat}{led plain:Bool}{hashes:Array Int}{t:SetTable}{o:Array Nat}(hl:led=L)(e:SetTable.laid mask finger moves led plain hashes=some (t,o)):Well L t:=by
 unfold SetTable.laid at e;cases ho:SetTable.layClean mask hashes with
 |none=>rw[ho] at e;cases e
 |some owner =>
  rw[ho] at e;simp only[Option.bind_eq_bind,Option.bind_some,Option.pure_def,Option.some.injEq,Prod.mk.injEq] at e;obtain⟨rfl,_⟩:=e;refine⟨?_,rfl,hl⟩;show(List.map _ _).toArray.toList.Pairwise (· < ·);rw[List.toList_toArray];have sub:((List.range (mask+1)).filterMap λj=>(owner.getD j none).map (j,·)).map (·.1) |>.Sublist (List.range (mask+1)):=by
   generalize List.range (mask+1)=l
   induction l with
   |nil=>simp
   |cons a r ih =>
    rw[dX];cases owner.getD a none with
    |none=>exact ih.cons a
    |some k=>exact ih.cons_cons a
  exact List.Pairwise.sublist sub sW
theorem Wi{L:Bool}{t:SetTable}{es:Array (Int×Value)}{n:Nat}(hw:Well L t):Well L (relayAll t es n).2.1:=by
 unfold relayAll;split
 ·rename_i t' order e;dsimp only;split
  ·exact Xh hw.led e
  ·exact K8 hw _
 ·exact K8 hw _
end ST

namespace ST
open PySem PyProof.Rows
def toI:Value->Int
 |.int k _=>k
 |_=>0
def Led(w:World):Bool:=!(w.params.followText "set-order")
section
variable{prog:Program}{w:World}
def q8(prog:Program)(w:World)(h:Heap)(a:Addr)(ks:List Int):Prop :=
 ∃o es ep t,h.get? a=some o/\o.ExactSet/\o.data=.set es ep t/\ElemsOf (intKind prog w) es.toList/\(es.toList.map λe=>toI e.2).Perm ks/\ks.Nodup/\es.size<scanBound/\t.fits es.size=true/\Well (Led w) t
theorem q8.at{h h':Heap}{a:Addr}{ks:List Int}(x:q8 prog w h a ks)(k:∀o,h.get? a=some o->h'.get? a=some o):q8 prog w h' a ks:=by
 obtain⟨o,es,ep,t,e,r⟩:=x;exact⟨o,es,ep,t,k o e,r⟩
theorem Ij{e:Int×Value}{es:List (Int×Value)}(h:ElemsOf (intKind prog w) es)(he:e∈es):∃tk,e.2=.int (toI e.2) tk/\e.1=(intKind prog w).hash (toI e.2):=by
 obtain⟨⟨k,h1,h2⟩,_⟩:=h e he;obtain⟨t,ht⟩:=nB (k:=k) (v:=e.2) h1;refine⟨t,by rw[ht];rfl,?_⟩;rw[h2,ht]
 rfl
theorem HI{e:Int×Value}{es:List (Int×Value)}(h:ElemsOf (intKind prog w) es)(he:e∈es)(k:Int):(intKind prog w).is k e.2=decide (toI e.2=k):=by
 obtain⟨t,ht,_⟩:=Ij h he;show Value.isInt k e.2=_;rw[ht];generalize toI e.2=m;show Value.isInt k (.int m t)=decide (m=k);by_cases z:m=k
 ·subst z;simp[Value.isInt]
 ·rw[az z];cases hv:Value.isInt k (.int m t) with
  |false=>rfl
  |true =>
   obtain⟨t',e'⟩:=nB hv;cases e';exact absurd rfl z
theorem q8.mem{a:Addr}{es:List (Int×Value)}{ks:List Int}(h:ElemsOf (intKind prog w) es)(hp:(es.map λe=>toI e.2).Perm ks)(k:Int):(es.findIdx? λe=>(intKind prog w).is k e.2).isSome=decide (k∈ks):=by
 rw[aU,dh,<- hp.mem_iff,aQ,et];constructor
 ·rintro⟨i,hi⟩;obtain⟨h1,h2,_⟩:=kc.mp hi;have hm:=bT h1;rw[HI h hm] at h2;exact⟨_,hm,bt h2⟩
 ·rintro⟨e,he,rfl⟩;cases hf:es.findIdx? λe'=>(intKind prog w).is (toI e.2) e'.2 with
  |some i=>exact⟨i,rfl⟩
  |none =>
   have:=List.findIdx?_eq_none_iff.mp hf e he;rw[HI h he] at this;simp at this
variable{A:Around}{E:Value->Shared->Prop}{s:Shared}
def C6(ks:List Int)(k:Int):List Int:=if k∈ks then ks else ks++[k]
theorem Zv(ks:List Int)(k:Int):(C6 ks k).length<=ks.length+1:=by unfold C6;split<;>simp
theorem FJ{a:Addr}{ks:List Int}{k:Int}{tk:Tok}{Q:Bool->Shared->Prop}(hS:q8 prog w s.heap a ks)(hr:ks.length+1<scanBound)(h:∀h' b,Heap.SameBut a s.heap h'->q8 prog w h' a (C6 ks k)->Q b { s with heap:=h' }):wpAny (model prog w) A (setAddHashed a (.int k tk) ((intKind prog w).hash k)) Q E s:=by
 obtain⟨o,es,ep,t,ho,hx,hd,qg,hp,hn,hb,hf,hw⟩:=hS;have hlen:es.size=ks.length:=by rw[<- hp.length_eq];simp
 have jV:(intKind prog w).is k (.int k tk)=true:=fN _ _ _ _;have gv:∀(b:Bool) (s1:Shared) (Q':Unit->Shared->Prop),Q' () s1->wpAny (model prog w) A (match b with|true=>rule "set.scan.the-table-gave-way"|false=>pure ()) Q' E s1:=λb s1 Q' q=>by
  cases b
  ·exact au q
  ·exact fM q
 unfold setAddHashed setAddHashedIn;refine cz (ae (cB ho hd hf ?_));dsimp only;rw[byScan_of rfl hb qg,aK rfl];unfold setAddByScan;refine ae (ae (fM (ae (wpAny_setScan_of jV ho hd hf qg ?_))));have hm:=q8.mem (a:=a) qg hp k;cases dH:es.toList.findIdx? (λe=>(intKind prog w).is k e.2) with
 |some j =>
  rw[dH] at hm;have hk:k∈ks:=by simpa using hm.symm
  refine au (au ?_);have e0:s={ s with heap:=s.heap }:=rfl;rw[e0];refine h s.heap _ (Heap.SameBut.refl a s.heap) ?_;unfold C6;rw[aK hk];exact⟨o,es,ep,t,ho,hx,hd,qg,hp,hn,hb,hf,hw⟩
 |none =>
  rw[dH] at hm;have hk:k∉ks:=by simpa using hm.symm
  dsimp only;have p1:=layNew_perm t es ((intKind prog w).hash k) (.int k tk);have f1:=layNew_fits t es ((intKind prog w).hash k) (.int k tk);obtain⟨w1,yD⟩:=Y' (es:=es) (h:=(intKind prog w).hash k) (x:=.int k tk) hw;generalize layNew t es ((intKind prog w).hash k) (.int k tk)=R1 at p1 f1 w1 yD ⊢;obtain⟨gf,t1,wd,MN⟩:=R1;dsimp only at p1 f1 w1 yD ⊢;subst yD;rw[Array.toList_push] at p1;have Fd:ElemsOf (intKind prog w) gf.toList:=(qg.push jV rfl).perm p1;have sz1:gf.size=es.size+1:=by rw[<- bB,p1.length_eq];simp
  have k1:(gf.toList.map λe=>toI e.2).Perm (C6 ks k):=by
   unfold C6;rw[aC hk];refine(p1.map _).trans ?_;rw[dB];exact hp.append_right _
  have n1:(C6 ks k).Nodup:=by
   unfold C6;rw[aC hk,cu];exact⟨hn,by simp,λx hx y hy=>by simp at hy;subst hy;exact λz=>hk (z▸hx)⟩
  refine ae (gv _ _ _ ?_);have fin:∀ (t2:SetTable),t2.fits gf.size=true->Well (Led w) t2->wpAny (model prog w) A (do
    storeSet a gf t2
    if(!false&&t2.tooFull)=true then do
      (match(relayAll t2 gf (SetTable.grown gf.size)).2.2 with|true=>rule "set.scan.the-table-gave-way"|false=>pure ())
      storeSet a (relayAll t2 gf (SetTable.grown gf.size)).1 (relayAll t2 gf (SetTable.grown gf.size)).2.1
      pure (some true)
     else pure (some true)) (λr s'=>wpAny (model prog w) A (match r with | some added=>pure added | none=>setAddHashedIn a (.int k tk) ((intKind prog w).hash k) 99999) Q E s') E s:=λt2 f2 w2=>by
   have g1:(s.heap.update a (Obj.putSet gf t2)).get? a=some { o with data:=.set gf (ep+1) t2 }:=by
    have:=bc (Obj.putSet gf t2) ho (by rw[putSet_of gf t2 hd];rfl);rw[putSet_of gf t2 hd] at this;exact this
   refine ae (wpAny_storeSet_of ho hd ?_ (fits_of_scanBound (by omega)));have DC:=cc s.heap a (Obj.putSet gf t2);split
   ·have p2:=relayAll_perm t2 gf (SetTable.grown gf.size);have f3:=relayAll_fits t2 gf (SetTable.grown gf.size);have w3:=Wi (es:=gf) (n:=SetTable.grown gf.size) w2;generalize relayAll t2 gf (SetTable.grown gf.size)=R2 at p2 f3 w3 ⊢;obtain⟨mT,t3,gv2⟩:=R2;dsimp only at p2 f3 w3 ⊢;have sz2:mT.size=gf.size:=by rw[<- bB,p2.length_eq,bB]
    refine ae (gv _ _ _ ?_);refine ae (wpAny_storeSet_of g1 rfl ?_ (fits_of_scanBound (by omega)));refine au (au (h _ _ (DC.trans (cc _ a _)) ?_));have g2:((s.heap.update a (Obj.putSet gf t2)).update a (Obj.putSet mT t3)).get? a=some { o with data:=.set mT (ep+1+1) t3 }:=by
     have:=bc (Obj.putSet mT t3) g1 (by rw[putSet_of mT t3 rfl];rfl);rw[putSet_of mT t3 rfl] at this;exact this
    exact⟨_,mT,_,t3,g2,hx,rfl,Fd.perm p2,(p2.map _).trans k1,n1,by omega,f3,w3⟩
   ·exact au (au (h _ _ DC ⟨_,gf,_,t2,g1,hx,rfl,Fd,k1,n1,by omega,f1 |> λ_=>f2,w2⟩))
  split
  ·refine ae (ei (hashByValue_scannable 8 rfl) ?_);exact fin _ f1 w1
  ·refine ae (au ?_);exact fin _ f1 w1
end
end ST

namespace ST
open PySem PyProof.Rows
theorem Zn:entryFor table "set.__iter__"=some Builtin.«frozenset.__iter__» :=
 entryFor_alias (id':="frozenset.__iter__") (by kernel_rfl) rfl (by decide +kernel) (by kernel_rfl)
theorem B4:Slot "set_iterator" "__next__" "set_iterator.__next__" :=
 .of (owner:="set_iterator") (n:="__next__") (by rw[jz,fH];kernel_rfl) (by decide +kernel) (by decide +kernel) (by decide +kernel)
  (by first|exact .inl (by decide +kernel)|exact .inr (by decide +kernel)) (by rw[gC];kernel_rfl)
theorem Hg:entryFor table "set_iterator.__next__"=some Builtin.«set_iterator.__next__»:=entryFor_of_tree (by kernel_rfl)
theorem Ht(a:Value):argsOk "set_iterator.__next__" ⟨[a],[]⟩:=by
 unfold argsOk
 kernel_rfl
theorem Hw:Slot "set_iterator" "__iter__" "set_iterator.__iter__" :=
 .of (owner:="set_iterator") (n:="__iter__") (by rw[jz,fH];kernel_rfl) (by decide +kernel) (by decide +kernel) (by decide +kernel)
  (by first|exact .inl (by decide +kernel)|exact .inr (by decide +kernel)) (by rw[gC];kernel_rfl)
theorem YX:entryFor table "set_iterator.__iter__"=some Builtin.«dict_keyiterator.__iter__» :=
 entryFor_alias (id':="dict_keyiterator.__iter__") (by kernel_rfl) rfl (by decide +kernel) (by kernel_rfl)
theorem Zi(a:Value):argsOk "set_iterator.__iter__" ⟨[a],[]⟩:=by
 unfold argsOk
 kernel_rfl
end ST

namespace ST
open PySem PyProof.Rows
inductive Rd|text|plain|drawn
structure Lies(h:Heap)(a:Addr)(es:Array (Int×Value))(ep:Nat)(t:SetTable):Prop where
 at_:∃o,h.get? a=some o/\o.cls=.type "set"/\o.data=.set es ep t
 fit:t.fits es.size=true
theorem Lies.at{h h':Heap}{a:Addr}{es:Array (Int×Value)}{ep:Nat}{t:SetTable}(x:Lies h a es ep t)(k:∀o,h.get? a=some o->h'.get? a=some o):Lies h' a es ep t :=
 ⟨let ⟨o,e,r⟩:=x.at_;⟨o,k o e,r⟩,x.fit⟩
def C7(h:Heap)(I a:Addr)(f:Value)(i n ep:Nat):Prop:=∃o,h.get? I=some o/\o.cls=.type "set_iterator"/\o.data=.fields #[f,rawInt i,.ref a,rawInt n,rawInt ep]
theorem C7.at{h h':Heap}{I a:Addr}{f:Value}{i n ep:Nat}(x:C7 h I a f i n ep)(k:∀o,h.get? I=some o->h'.get? I=some o):C7 h' I a f i n ep:=let ⟨o,e,r⟩:=x;⟨o,k o e,r⟩
theorem C7.ty{s:Shared}{I a:Addr}{f:Value}{i n ep:Nat}(x:C7 s.heap I a f i n ep):s.TypeIs (.ref I) "set_iterator":=let ⟨o,e,c,_⟩:=x;⟨o,e,c⟩
def vH(w:World)(a:Addr)(es:Array (Int×Value))(ep:Nat)(pl:List Nat):Rd->List Value
 |.text=>(pickOrder (w.params.setOrder a ep) es).toList.map (·.2)
 |.plain=>es.toList.map (·.2)
 |.drawn=>pl.map λj=>(es.getD j (0,.none)).2
def slotAt(t:SetTable):Nat->Nat
 |0=>0
 |i+1=>t.place.getD i 0+1
def M3(h:Heap)(t:SetTable)(b:Addr)(pl:List Nat)(i:Nat)(f:Value):Rd->Prop
 |.text=>∃k:Nat,f=rawInt k
 |.plain=>f=rawInt (slotAt t i)
 |.drawn=>f=.ref b/\∃o e,h.get? b=some o/\o.cls=.type "tuple"/\o.data=.seq (pl.map λj=>rawInt (j:Nat)).toArray e
def sj(w:World)(es:Array (Int×Value))(t:SetTable)(pl:List Nat):Rd->Prop
 |.text=>w.params.followText "set-order"=true
 |.plain=>w.params.followText "set-order"=false/\(t.plain=true\/es.size<=1)/\Well true t
 |.drawn=>w.params.followText "set-order"=false/\pl.Perm (List.range es.size)
section
variable{prog:Program}{w:World}{A:Around}{E:Value->Shared->Prop}{s:Shared}{a:Addr}{es:Array (Int×Value)}{ep:Nat}{t:SetTable}
theorem vK{Q:Bool->Shared->Prop}(h:Q (w.params.followText "set-order") s):wpAny (model prog w) A setsByText Q E s:=by
 unfold setsByText;exact ae (pE (au h))
theorem Gz(hL:Lies s.heap a es ep t)(ht:w.params.followText "set-order"=true){sl g:Nat}{Q:Option (Value×Nat)->Shared->Prop}(h:Q (((pickOrder (w.params.setOrder a ep) es)[g]?).map λe=>(e.2,sl)) s) :
  wpAny (model prog w) A (setNext a sl g ep) Q E s:=by
 obtain⟨o,ho,_,hd⟩:=hL.at_;unfold setNext;refine ae (cB ho hd hL.fit ?_);refine ae (vK ?_);rw[ht,aK rfl,aC (by simp)];unfold setWalk;refine ae (ae (cB ho hd hL.fit ?_));refine ae (vK ?_);rw[ht,aK rfl];exact ae (pE (au (au h)))
theorem GY(hL:Lies s.heap a es ep t)(ht:w.params.followText "set-order"=false)(hp:t.plain=true\/es.size<=1)(hl:t.led=true){sl g:Nat}{Q:Option (Value×Nat)->Shared->Prop}(h:Q (match es[SetTable.below t.place sl]?,t.place[SetTable.below t.place sl]? with|some (_,x),some j=>some (x,j+1)|_,_=>none) s):wpAny (model prog w) A (setNext a sl g ep) Q E s:=by
 obtain⟨o,ho,_,hd⟩:=hL.at_;unfold setNext;refine ae (cB ho hd hL.fit ?_);refine ae (vK ?_);rw[ht,aC (by decide)];show wpAny _ _ (if(!t.plain&&decide (es.size>1))=true then _ else _) _ _ _;rw[aC (by rcases hp with e|e<;>simp[e])];refine ae (ei (a:=()) ?_ (au h));show((if(!t.led&&!es.isEmpty)=true then unsupported "set:maker-not-led" else pure ()):Sem Unit)=pure ();rw[hl]
 rfl
theorem Yu(hL:Lies s.heap a es ep t){j:Nat}(hj:j<es.size){Q:Value->Shared->Prop}(h:Q (es.getD j (0,.none)).2 s):wpAny (model prog w) A (setNextDrawn a j ep) Q E s:=by
 obtain⟨o,ho,_,hd⟩:=hL.at_;unfold setNextDrawn;refine ae (cB ho hd hL.fit ?_);dsimp only;rw[aC (by simp)];have e:es[j]?=some (es.getD j (0,.none)):=by simp[Array.getD,hj]
 rw[e];exact au h
end
end ST

namespace ST
open PySem PyProof.Rows
section
variable{prog:Program}{w:World}{A:Around}{E:Value->Shared->Prop}{s:Shared}{a I b:Addr}{es:Array (Int×Value)}{ep:Nat}{t:SetTable}{pl:List Nat}
theorem Gb(hL:Lies s.heap a es ep t):t.place.size=es.size:=by
 have:=hL.fit;unfold SetTable.fits at this;simp at this;exact this.1
theorem GN(hw:ke t.place){i:Nat}(hi:i<=t.place.size):SetTable.below t.place (slotAt t i)=i:=by
 cases i with
 |zero=>exact Yc hw
 |succ i=>exact Yb hw (by omega)
theorem entries{Q:Array (Int×Value)->Shared->Prop}(hL:Lies s.heap a es ep t)(h:Q es s):wpAny (model prog w) A (setEntries a) Q E s:=by
 obtain⟨o,ho,_,hd⟩:=hL.at_;unfold setEntries;exact ae (cB ho hd hL.fit (au h))
theorem Tj{f f':Value}{i n:Nat}{h:Heap}(hi:C7 h I a f i n ep){x:Value}(hx:x=rawInt ((i:Int)+1)):C7 ((h.update I (Obj.mapFields (·.setIfInBounds 0 f'))).update I (Obj.mapFields (·.setIfInBounds 1 x))) I a f' (i+1) n ep:=by
 obtain⟨o,ho,hc,hd⟩:=hi;have h1:=bc (Obj.mapFields (·.setIfInBounds 0 f')) ho (cV (bz hd _));have d1:(Obj.mapFields (·.setIfInBounds 0 f') o).data=.fields #[f',rawInt i,.ref a,rawInt n,rawInt ep]:=by rw[bz hd];simp
 have h2:=bc (Obj.mapFields (·.setIfInBounds 1 x)) h1 (cV (bz d1 _));refine⟨_,h2,(nD ..).trans ((nD ..).trans hc),?_⟩;rw[bz d1];subst hx;simp[rawInt]
theorem Ti{f:Value}{i n:Nat}{h:Heap}(hi:C7 h I a f i n ep){x:Value}(hx:x=rawInt ((i:Int)+1)):C7 (h.update I (Obj.mapFields (·.setIfInBounds 1 x))) I a f (i+1) n ep:=by
 obtain⟨o,ho,hc,hd⟩:=hi;have h2:=bc (Obj.mapFields (·.setIfInBounds 1 x)) ho (cV (bz hd _));refine⟨_,h2,(nD ..).trans hc,?_⟩;rw[bz hd];subst hx;simp[rawInt]
theorem FC{α:Type}{f f' x:Value}{i n:Nat}{m:Sem α}{Q':α->Shared->Prop}(hi:C7 s.heap I a f i n ep)(hx:x=rawInt ((i:Int)+1))(h:∀h',C7 h' I a f' (i+1) n ep->Heap.SameBut I s.heap h'->wpAny (model prog w) A m Q' E { s with heap:=h' }) :
  wpAny (model prog w) A (do setField (.ref I) 0 f';setField (.ref I) 1 x;m) Q' E s:=by
 obtain⟨o,ho,hc,hd⟩:=id hi;refine ae (dz ho hd (by simp) ?_);have h1:=bc (Obj.mapFields (·.setIfInBounds 0 f')) ho (cV (bz hd _));have d1:(Obj.mapFields (·.setIfInBounds 0 f') o).data=.fields #[f',rawInt i,.ref a,rawInt n,rawInt ep]:=by rw[bz hd];simp
 refine ae (dz (s:={ s with heap:=_ }) h1 d1 (by simp) ?_);exact h _ (Tj hi hx) ((cc ..).trans (cc ..))
theorem Uh{α:Type}{f x:Value}{i n:Nat}{m:Sem α}{Q':α->Shared->Prop}(hi:C7 s.heap I a f i n ep)(hx:x=rawInt ((i:Int)+1))(h:∀h',C7 h' I a f (i+1) n ep->Heap.SameBut I s.heap h'->wpAny (model prog w) A m Q' E { s with heap:=h' }) :
  wpAny (model prog w) A (do setField (.ref I) 1 x;m) Q' E s:=by
 obtain⟨o,ho,hc,hd⟩:=id hi;refine ae (dz ho hd (by simp) ?_);exact h _ (Ti hi hx) (cc ..)
theorem Bw{α:Type}(next:Nat->Nat)(xs:Array α):(pickOrder next xs).toList.Perm xs.toList:=by
 have go:∀(fuel k:Nat) (left:List α) (out:Array α),fuel=left.length->(pickOrder.go next fuel k left out).toList.Perm (out.toList++left):=by
  intro fuel
  induction fuel with
  |zero =>
   intro k left out e;have:left=[]:=df e.symm;subst this;simp[pickOrder.go]
  |succ n ih =>
   intro k left out e;have dC:next k % left.length<left.length:=JN _ (by omega)
   unfold pickOrder.go;rw[aj dC];refine(ih _ _ _ (by rw[fS dC];omega)).trans ?_;rw[Array.toList_push,eV];refine List.Perm.append_left _ ?_;have:left.Perm (left[next k % left.length]::left.eraseIdx (next k % left.length)):=by
    rw[kC]
    conv=>lhs;rw[<- fe (next k % left.length) left,dU dC]
    exact List.perm_middle
   exact this.symm
 have:=go xs.size 0 xs.toList #[] (by simp);simpa[pickOrder] using this
theorem next_item{r:Rd}{i:Nat}{f:Value}{Q:Option Value->Shared->Prop}(hL:Lies s.heap a es ep t)(hr:sj w es t pl r)(hi:C7 s.heap I a f i es.size ep)(hf:M3 s.heap t b pl i f r)(dG:b≠I)(dC:i<es.size)(h:∀v h' f',(vH w a es ep pl r)[i]?=some v->C7 h' I a f' (i+1) es.size ep->M3 h' t b pl (i+1) f' r->Heap.SameBut I s.heap h'->Q (some v) { s with heap:=h' }):wpAny (model prog w) A (pyNext (.ref I)) Q E s:=by
 obtain⟨o,ho,hc,hd⟩:=id hi;unfold pyNext;refine ae (wpAny_attempt (fc (name:=Str.ofString "__next__") hi.ty B4 (cH B4 hi.ty Hg ?_ (Ht _))));unfold Builtin.«set_iterator.__next__»;refine ae (au ?_);refine ae (wpAny_fieldsOf ho hd ?_);dsimp only[rawInt];refine ae (entries hL ?_);rw[aC (by simp)];rw[cx,cx];cases r with
 |text =>
  obtain⟨k,rfl⟩:=hf;dsimp only[rawInt];refine ae (Gz hL hr ?_);have hl:i<(pickOrder (w.params.setOrder a ep) es).size:=by
   have:=(Bw (w.params.setOrder a ep) es).length_eq;simp at this;omega
  rw[oo hl];refine FC hi rfl λh' h1 h2=>au ⟨_,rfl,au (h _ _ _ ?_ h1 ⟨_,rfl⟩ h2)⟩;show((pickOrder (w.params.setOrder a ep) es).toList.map (·.2))[i]?=_;simp[hl]
 |plain =>
  obtain⟨r1,r2,r3⟩:=hr;have hs:=Gb hL;obtain rfl:=hf;dsimp only[rawInt];rw[cx];refine ae (GY hL r1 r2 r3.led ?_);rw[GN r3.wA (by omega),oo dC,getD_mem (by omega)];refine FC hi rfl λh' h1 h2=>au ⟨_,rfl,au (h _ _ _ ?_ h1 rfl h2)⟩;show(es.toList.map (·.2))[i]?=_;simp[dC]
 |drawn =>
  obtain⟨r1,r2⟩:=hr;obtain⟨rfl,ob,e,hb,EG,wU⟩:=hf;have gA:i<pl.length:=by rw[r2.length_eq];simpa using dC
  dsimp only;refine ae (wpAny_seqItems hb wU ?_);have hj:pl[i]<es.size:=by
   have:=r2.mem_iff.mp (bT gA);simpa using this
  have e1:(pl.map λj=>rawInt (j:Nat)).toArray[i]?=some (rawInt (pl[i]:Nat)):=by simp[gA]
  dsimp only;rw[e1];dsimp only[rawInt];rw[cx];refine ae (Yu hL hj ?_);refine Uh hi rfl λh' h1 h2=>au ⟨_,rfl,au (h _ _ _ ?_ h1 ⟨rfl,ob,e,by rw[h2.2 b dG];exact hb,EG,wU⟩ h2)⟩;show(pl.map λj=>(es.getD j (0,.none)).2)[i]?=_;simp[gA]
theorem By{Q:Option Value->Shared->Prop}{I:Addr}{h0:Heap}(hh:A.handled=none)(MG:Heap.ExtBut I h0 s.heap)(h:∀h',Heap.ExtBut I h0 h'->Q none { s with heap:=h' }) :
  wpAny (model prog w) A.in1 (newExc (.type "StopIteration") [] >>= λe=>(raiseNew e:Sem Fin)) (λfin s'=>∃v,fin=Fin.done (Flow.ret v)/\wpAny (model prog w) A (pure (some v)) Q E s')
   (λe s'=>wpAny (model prog w) A (do
     let x <- isInstance e (Value.type "StopIteration")
     if x=true then pure none else throw e) Q E s') s:=by
 refine ae ?_;simp only[newExc,newTuple];refine ae (cg ?_ (by size_fits));refine ae (m:=firstArgMember _ _) (ei (a:=Value.none) (by first|rfl|(simp only[firstArgMember];rfl)) ?_);refine cg ?_ (by size_fits);simp only[raiseNew];refine ae (wpAny_handled ?_);rw[show A.in1.handled=none from hh];refine ae (au (wpAny_throw ?_));refine ae (iP (T:="StopIteration") (b:=true) ⟨_,aG _ rfl,rfl⟩ isSubtype_stop ?_);exact au (h _ ((MG.push _).push _))
theorem next_end{r:Rd}{f:Value}{Q:Option Value->Shared->Prop}(hh:A.handled=none)(hL:Lies s.heap a es ep t)(hr:sj w es t pl r)(hi:C7 s.heap I a f es.size es.size ep)(hf:M3 s.heap t b pl es.size f r)(dG:b≠I)(h:∀h',Heap.ExtBut I s.heap h'->Q none { s with heap:=h' }):wpAny (model prog w) A (pyNext (.ref I)) Q E s:=by
 obtain⟨o,ho,hc,hd⟩:=id hi;unfold pyNext;refine ae (wpAny_attempt (fc (name:=Str.ofString "__next__") hi.ty B4 (cH B4 hi.ty Hg ?_ (Ht _))));unfold Builtin.«set_iterator.__next__»;refine ae (au ?_);refine ae (wpAny_fieldsOf ho hd ?_);dsimp only[rawInt];refine ae (entries hL ?_);rw[aC (by simp)];rw[cx,cx];cases r with
 |text =>
  obtain⟨k,rfl⟩:=hf;dsimp only[rawInt];refine ae (Gz hL hr ?_);have hl:(pickOrder (w.params.setOrder a ep) es).size<=es.size:=by
   have:=(Bw (w.params.setOrder a ep) es).length_eq;simp at this;omega
  rw[sZ hl];refine ae (dz ho hd (by simp) ?_);exact By (s:={ s with heap:=_ }) hh (cc ..).extBut h
 |plain =>
  obtain⟨r1,r2,r3⟩:=hr;have hs:=Gb hL;obtain rfl:=hf;dsimp only[rawInt];rw[cx];refine ae (GY hL r1 r2 r3.led ?_);rw[GN r3.wA (by omega),sZ (aw _)];refine ae (dz ho hd (by simp) ?_);exact By (s:={ s with heap:=_ }) hh (cc ..).extBut h
 |drawn =>
  obtain⟨r1,r2⟩:=hr;obtain⟨rfl,ob,e,hb,EG,wU⟩:=hf;have gA:pl.length=es.size:=by rw[r2.length_eq];simp
  dsimp only;refine ae (wpAny_seqItems hb wU ?_);have e1:(pl.map λj=>rawInt (j:Nat)).toArray[es.size]?=none:=by simp[gA]
  dsimp only;rw[e1];dsimp only[rawInt];refine ae (dz ho hd (by simp) ?_);have h1:=bc (Obj.mapFields (·.setIfInBounds 0 (Value.int 0 0))) ho (cV (bz hd _));refine ae (dz (s:={ s with heap:=_ }) h1 (bz hd _) (by simp) ?_);exact By (s:={ s with heap:=_ }) hh ((cc ..).trans (cc ..)).extBut h
end
end ST

namespace ST
open PySem PyProof.Rows
section
variable{prog:Program}{w:World}{A:Around}{E:Value->Shared->Prop}{s:Shared}{a I b:Addr}{es:Array (Int×Value)}{ep:Nat}{t:SetTable}{pl:List Nat}
theorem Xy{α:Type}{l:List α}{k:Nat}(dC:k<l.length):(l[k]::l.eraseIdx k).Perm l:=by
 rw[kC]
 conv=>rhs;rw[<- fe k l,dU dC]
 exact List.perm_middle.symm
theorem GR{α:Type}:∀(n:Nat) (xs:List α) (s:Shared) (Q:List α->Shared->Prop),n=xs.length->(∀ys d,ys.Perm xs->Q ys { s with drawn:=d })->wpAny (model prog w) A (drawOrder n xs) Q E s
 |0,xs,s,Q,e,h=>by
  have:xs=[]:=df e.symm;subst this;exact au (h [] s.drawn (List.Perm.refl _))
 |n+1,[],s,Q,e,h=>by simp at e
 |n+1,x::xs,s,Q,e,h=>by
  unfold drawOrder;refine ae ?_;intro Γ p hΓ;refine⟨by simp,?_⟩;generalize (model prog w).w.draws .order (s.drawn.get .order)=k;have dC:k % (x::xs).length<(x::xs).length:=JN _ (by simp);have go:wpAny (model prog w) A (match (x :: xs)[k % (x :: xs).length]? with
   |some y=>do
    let ys <- drawOrder n ((x::xs).eraseIdx (k % (x::xs).length))
    pure (y::ys)
   | none=>unsupported "internal:drawOrder") Q E { s with drawn:=s.drawn.bump .order }:=by
   rw[aj dC];refine ae (GR n _ _ _ (by rw[fS dC];simp at e ⊢;omega) λys d hp=>au ?_);exact h _ d ((List.Perm.cons _ hp).trans (Xy dC))
  exact go
theorem FQ{r:Rd}(hr:sj w es t pl r):(vH w a es ep pl r).Perm (es.toList.map (·.2)):=by
 cases r with
 |text=>exact(Bw _ es).map _
 |plain=>exact List.Perm.refl _
 |drawn =>
  refine(hr.2.map _).trans ?_;have:(List.range es.size).map (λj=>(es.getD j (0,.none)).2)=es.toList.map (·.2):=by
   apply List.ext_getElem
   ·simp
   ·intro i h1 h2;simp at h1;simp[Array.getD,h1]
  rw[this]
theorem Lies.ty(hL:Lies s.heap a es ep t):s.TypeIs (.ref a) "set":=let ⟨o,e,c,_⟩:=hL.at_;⟨o,e,c⟩
theorem a05(hL:Lies s.heap a es ep t)(hw:Well (Led w) t)(hz:es.size<=10000){Q:Value->Shared->Prop}(h:∀r pl b f I h' d',sj w es t pl r->C7 h' I a f 0 es.size ep->M3 h' t b pl 0 f r->b≠I->(b=a\/s.heap.objs.size<=b)->(∀c o,s.heap.get? c=some o->h'.get? c=some o)->s.heap.objs.size<=I->s.heap.objs.size<=h'.objs.size->Q (.ref I) { s with heap:=h',drawn:=d' }) :
  wpAny (model prog w) A (pyIter (.ref a)) Q E s:=by
 obtain⟨o,ho,zp,hd⟩:=hL.at_;refine wpAny_pyIter_slot hL.ty F.slot_set_iter (cH F.slot_set_iter hL.ty Zn ?_ (F.args_set_iter_1 _));unfold Builtin.«frozenset.__iter__»;refine ae (au ?_);unfold Builtin.Frozenset.sizeOf;refine ae (ae (entries hL (au ?_)));unfold setDrawn;refine ae (ae (cB ho hd hL.fit ?_));refine ae (vK (au ?_));have dC:=aB ho;have fin:∀(r:Rd) (f:Value) (b:Addr) (pl:List Nat) (h1:Heap) (d1:Drawn),sj w es t pl r->(∀h',(∀c o,h1.get? c=some o->h'.get? c=some o)->M3 h' t b pl 0 f r)->b<h1.objs.size->(b=a\/s.heap.objs.size<=b)->(∀c o,s.heap.get? c=some o->h1.get? c=some o)->s.heap.objs.size<=h1.objs.size ->
   wpAny (model prog w) A.in1 (do
    let e <- setEpoch a
    ret (<- newFields "set_iterator" [f,rawInt 0,.ref a,rawInt es.size,rawInt e])) (λfin s'=>∃ v,fin=Fin.done (Flow.ret v)/\∃ T' r,s'.TypeIs v T'/\typeLookup (.type T') "__next__"=pure (some r)/\Q v s') E { s with heap:=h1,drawn:=d1 }:=λr f b pl h1 d1 hr hf hb zO he hsz=>by
  have rS:Lies h1 a es ep t:=hL.at λo e=>he a o e;obtain⟨o1,Lo,_,EF⟩:=rS.at_;unfold setEpoch;refine ae (ae (cB (s:={ s with heap:=h1,drawn:=d1 }) Lo EF rS.fit (au ?_)));refine ae (cg (au ⟨_,rfl,"set_iterator",_,⟨_,aG _ rfl,rfl⟩,B4.lookup,?_⟩));refine h r pl b f h1.objs.size _ d1 hr ⟨_,aG _ rfl,rfl,rfl⟩ (hf _ λc o e=>av _ e) (aN hb) zO (λc o e=>av _ (he c o e)) hsz (by rw[wc];exact Nat.le_succ_of_le hsz)
 have e0:s={ s with heap:=s.heap,drawn:=s.drawn }:=rfl;cases hT:w.params.followText "set-order" with
 |true =>
  dsimp only[Bool.not_true,Bool.false_and];rw[aC (by simp)];refine ae (au ?_);rw[e0];exact fin .text (rawInt 0) a [] s.heap s.drawn hT (λh' _=>⟨0,rfl⟩) dC (.inl rfl) (λc o e=>e) (aw _)
 |false =>
  show wpAny _ _ (if(!false&&(!t.plain&&decide (es.size>1)))=true then _ else _ ) _ _ _;by_cases hp:t.plain=true\/es.size<=1
  ·rw[aC (by rcases hp with e|e<;>simp[e])];refine ae (au ?_);rw[e0];refine fin .plain (rawInt 0) a [] s.heap s.drawn ⟨hT,hp,?_⟩ (λh' _=>rfl) dC (.inl rfl) (λc o e=>e) (aw _);have:Led w=true:=by unfold Led;rw[hT];rfl
   rw[<- this];exact hw
  ·have h1:t.plain=false:=by cases hq:t.plain with|true=>exact absurd (.inl hq) hp|false=>rfl
   have h2:¬es.size<=1:=λz=>hp (.inr z);rw[aK (by simp[h1];omega)];refine ae (GR _ _ _ _ (List.length_range).symm λys d hy=>?_);have hl:ys.length=es.size:=by rw[hy.length_eq];simp
   refine ae (cg ?_ (by show(List.map _ ys).toArray.size<=sizeLine;rw[aH,ak,hl];exact aD hz (by decide)));refine fin .drawn (.ref s.heap.objs.size) s.heap.objs.size ys _ d ⟨hT,hy⟩ (λh' hk=>⟨rfl,_,_,hk _ _ (aG _ rfl),rfl,rfl⟩) (by rw[wc];exact fk _) (.inr (aw _)) (λc o e=>av _ e) (by rw[wc];exact gg _)
theorem XM(hh:A.handled=none){r:Rd}(hr:sj w es t pl r)(dG:b≠I)(Lq:a≠I) :
  Walks prog w A I [I,a,b] [I] es.size (λi v=>(vH w a es ep pl r)[i]?=some v) (λi h=>Lies h a es ep t/\∃f,C7 h I a f i es.size ep/\M3 h t b pl i f r) where
 sub:=λc hc=>by simp at hc;simp[hc]
 frame:=λi h h' st hk=>by
  obtain⟨hL,f,hi,hf⟩:=st;refine⟨hL.at λo e=>hk a (by simp) o e,f,hi.at λo e=>hk I (by simp) o e,?_⟩;cases r with
  |text=>exact hf
  |plain=>exact hf
  |drawn =>
   obtain⟨e1,o,e,h1,h2⟩:=hf;exact⟨e1,o,e,hk b (by simp) o h1,h2⟩
 item:=λi s Q E hi st hQ=>by
  obtain⟨hL,f,hI,hf⟩:=st;exact next_item hL hr hI hf dG hi λv h' f' hv h1 h2 h3=>hQ v h' s.toks hv ⟨hL.at λo e=>by rw[h3.2 a Lq];exact e,f',h1,h2⟩ λc o hc e=>h3.extBut c o (λz=>hc (by simp[z])) e
 done:=λs Q E st hQ=>by
  obtain⟨hL,f,hI,hf⟩:=st;exact next_end hh hL hr hI hf dG λh' he=>hQ h' s.toks λc o hc e=>he c o (λz=>hc (by simp[z])) e
 self:=λi s Q E st hQ=>by
  obtain⟨hL,f,hI,hf⟩:=st;refine wpAny_pyIter_slot hI.ty Hw (cH Hw hI.ty YX ?_ (Zi _));exact ae (au (au ⟨_,rfl,"set_iterator",_,hI.ty,B4.lookup,hQ⟩))
end
end ST

namespace ST
open PySem PyProof.Rows
theorem Zs:typeLookup (.type "set") "__len__"=pure (some (.builtin "set.__len__")):=by rw[jz,fH];kernel_rfl
section
variable{prog:Program}{w:World}{A:Around}{E:Value->Shared->Prop}{s:Shared}{a I b:Addr}{es:Array (Int×Value)}{ep:Nat}{t:SetTable}{pl:List Nat}
theorem Zf(hh:A.handled=none)(hL:Lies s.heap a es ep t)(hw:Well (Led w) t)(hz:es.size<=10000){Q:List Value->Shared->Prop}(h:∀(vs:List Value) h' d' lY,vs.Perm (es.toList.map (·.2))->(∀c o,s.heap.get? c=some o->h'.get? c=some o)->s.heap.objs.size<=h'.objs.size->s.toks<=lY->Q vs { s with heap:=h',drawn:=d',toks:=lY }) :
  wpAny (model prog w) A (collect (.ref a)) Q E s:=by
 have dC:a<s.heap.objs.size:=let ⟨o,ho,_⟩:=hL.at_;aB ho
 unfold collect;refine ae (wpAny_runValue (eW F.entry_proto_collect ?_));rw[eB F.plain_proto_collect _];show wpAny _ A.in1 (newList [] >>= λl=>again (.builtin "list.__iadd__" ⟨[l,.ref a],[]⟩)) _ _ s;refine ae (cg ?_);refine au ⟨lD F.plain_list_iadd _,eW F.entry_list_iadd ?_⟩;rw[eB F.plain_list_iadd _];have rS:Lies (s.heap.push { cls:=.type "list",data:=.seq ([]:List Value).toArray }) a es ep t:=hL.at λo e=>av _ e;have Mg:(s.heap.push { cls:=.type "list",data:=.seq ([]:List Value).toArray }).get? s.heap.objs.size=some { cls:=.type "list",data:=.seq ([]:List Value).toArray }:=aG _ rfl;have dG:s.heap.objs.size≠a:=bS dC;have h1:Builtin.List.listSameRef (.ref s.heap.objs.size) (.ref a)=false:=by simp[Builtin.List.listSameRef,dG]
 show wpAny _ A.in1 (Builtin.List.listExtendWith (.ref s.heap.objs.size) (.ref a) (.ref s.heap.objs.size)) _ _ _;unfold Builtin.List.listExtendWith;refine ae (eJ (Lies.ty (s:={ s with heap:=_ }) rS) ?_);rw[aC (by rw[h1];decide)];refine ae (a05 (s:={ s with heap:=_ }) rS hw hz λr pl b f I h2 d2 hr hI hf hb Ma he zX h2z=>?_);have qm:Lies h2 a es ep t:=rS.at λo e=>he a o e;have uP:=he _ _ Mg;refine ae (cz ?_);unfold Builtin.List.listLengthHint;refine ae (wpAny_specialOf (Lies.ty (s:={ s with heap:=h2,drawn:=d2 }) qm) Zs ?_);generalize Et:("set.__len__":String)=KP;dsimp only;rw[show splitId KP=some ("set","__len__") from by subst Et;decide +kernel];dsimp only;refine ae (iP (b:=true) (Lies.ty (s:={ s with heap:=h2,drawn:=d2 }) qm) (by rw[gC];kernel_rfl) ?_);rw[aC (by decide)];subst Et;rw[aK (by decide +kernel)];refine ae (eJ (Lies.ty (s:={ s with heap:=h2,drawn:=d2 }) qm) ?_);refine au ?_;rw[aK (by decide +kernel)];refine ae (fM ?_);refine ae ?_;show wpAny _ A.in1 (updateSeq s.heap.objs.size (·.push .none) >>= λ_=>updateSeq s.heap.objs.size (·.pop)) _ _ _;refine ae (wpAny_updateSeq (s:={ s with heap:=h2,drawn:=d2 }) uP rfl ?_);have EL:=bc (Obj.mapSeq (·.push Value.none)) uP rfl;refine wpAny_updateSeq (s:={ s with heap:=_,drawn:=d2 }) EL rfl ?_;have Mf:=bc (Obj.mapSeq (·.pop)) EL rfl;have DK:∀c o,c≠s.heap.objs.size->h2.get? c=some o->((h2.update s.heap.objs.size (Obj.mapSeq (·.push Value.none))).update s.heap.objs.size (Obj.mapSeq (·.pop))).get? c=some o :=
  λc o hc e=>(bZ _ _ (bE hc)).trans ((bZ _ _ (bE hc)).trans e)
 have rE:s.heap.objs.size<(s.heap.push { cls:=.type "list",data:=.seq ([]:List Value).toArray }).objs.size:=by rw[wc];exact fk _
 have hSI:I≠s.heap.objs.size:=bS (ay rE zX);have hSb:b≠s.heap.objs.size:=by
  rcases Ma with z|z
  ·rw[z];exact bE dG
  ·exact bS (ay rE z)
 have W:=(XM (prog:=prog) (w:=w) (A:=A.in1) (a:=a) (b:=b) (I:=I) (es:=es) (ep:=ep) (t:=t) (pl:=pl) hh hr hb (aN (ay (cL dC rE) zX))).toS;have st:Lies h2 a es ep t/\∃f,C7 h2 I a f 0 es.size ep/\M3 h2 t b pl 0 f r:=⟨qm,f,hI,hf⟩
 have kn:=W.frame 0 ({ s with heap:=h2,drawn:=d2 }:Shared) _ s.toks st (aw _) λc hc o e=>DK c o (λz=>by simp at hc;rcases hc with y|y|y<;>simp_all) e;refine au ⟨lD F.plain_extend_loop _,codeAny_extend_loopS W (aD hz (by decide)) _ (λz=>by simp at z;rcases z with y|y|y<;>simp_all) _ es.size 0 _ _ _ rfl (cM _) kn Mf (ItemsOf.nil _) λs' vM c' hm mM kA=>?_⟩;show wpAny _ A (load s.heap.objs.size >>= _) _ _ s';refine ae (wpAny_load mM ?_);refine au ?_;have eS:s'={ s with heap:=s'.heap,drawn:=d2,toks:=s'.toks }:=by
  obtain⟨jv,g',d',lY,tN⟩:=s';have m1:g'=s.gens:=hm.gens;have m2:d'=d2:=hm.drawn;have m3:tN=s.os:=hm.os;subst m1;subst m2;subst m3
  rfl
 have eo:vM.toList=vH w a es ep pl r:=by
  have l1:(vH w a es ep pl r).length=es.size:=by rw[(FQ hr).length_eq];simp
  apply List.ext_getElem
  ·rw[l1];simpa using kA.1
  ·intro i h1 h2;have:=kA.2 i vM.toList[i] (by simp at h1 ⊢);dsimp only at this;rw[aj h2] at this;exact(aM this).symm
 rw[eo,eS];refine h _ _ d2 s'.toks (FQ hr) (λc o e=>?_) (dP (aB mM)) hm.toks;have hc:c<s.heap.objs.size:=aB e;have n1:c≠s.heap.objs.size:=aN hc;have n2:c≠I:=aN (ay (cL hc rE) zX);exact hm.heap c o (by simp[n1,n2]) (DK c o n1 (he c o (av _ e)))
theorem YE{ks:List Int}(hh:A.handled=none)(hS:q8 prog w s.heap a ks)(h64:ks.length<64){Q:Value->Shared->Prop}(h:∀(S:Addr) (vs:List Value) (ns:List Int) e h' d' lY,IntsAre vs ns->ns.Perm ks->ns.Pairwise (·<=·)->h'.get? S=some (seqObj "list" vs.toArray e)->s.heap.objs.size<=S->(∀c o,s.heap.get? c=some o->h'.get? c=some o)->s.toks<=lY->Q (.ref S) { s with heap:=h',drawn:=d',toks:=lY }) :
  wpAny (model prog w) A (call (.builtin "sorted") [.ref a]) Q E s:=by
 obtain⟨o,es,ep,t,ho,hx,hd,qg,hp,hn,hb,hf,hw⟩:=hS;have hL:Lies s.heap a es ep t:=⟨⟨o,ho,hx.1,hd⟩,hf⟩
 have hz:es.size=ks.length:=by rw[<- hp.length_eq];simp
 refine Calls.call_function_entry kind_sorted plain_sorted entry_sorted (args_sorted1 _) ?_;unfold Builtin.«sorted»;refine ae (m:=checkCount "sorted" 1 1 _) (au ?_);refine ae (Zf (A:=A.in1) hh hL hw (by omega) λvs h1 d1 yH hv he rE wJ=>?_);have hI:IntsAre vs (vs.map toI):=by
  have all:∀v∈vs,∃tk,v=.int (toI v) tk:=λv zf=>by
   obtain⟨e,zJ,rfl⟩:=aQ.mp (hv.mem_iff.mp zf);obtain⟨tk,h1,_⟩:=Ij qg zJ;exact⟨tk,h1⟩
  clear hv
  induction vs with
  |nil=>exact .nil
  |cons v r ih =>
   obtain⟨tk,e⟩:=all v (by simp);have:=IntsAre.cons (toI v) tk (ih λu hu=>all u (by simp[hu]));rw[<- e] at this;exact this
 have hk:(vs.map toI).Perm ks:=by
  refine(hv.map toI).trans ?_;rw[cb];exact hp
 have hl:vs.length<64:=by rw[hv.length_eq];simp;omega
 refine ae (wpAny_newList (s:={ s with heap:=h1,drawn:=d1,toks:=yH }) ?_);have ux:(h1.push (seqObj "list" vs.toArray 0)).get? h1.objs.size=some (seqObj "list" vs.toArray 0):=aG _ rfl;refine ae (cz (cH (s:={ s with heap:=h1.push (seqObj "list" vs.toArray 0),drawn:=d1,toks:=yH }) slot_list_sort ⟨_,ux,rfl⟩ entry_list_sort (list_sort_tree ux hI hl λout yS a1 a2 a3=>⟨_,rfl,?_⟩) (args_list_sort _)));obtain⟨e,zJ⟩:=sortedHeap_at (vs:=vs) (out:=out) ux;refine au ⟨_,rfl,h h1.objs.size out.toList yS e _ d1 yH a1 (a2.trans hk) a3 zJ rE (λc o' e'=>?_) wJ⟩;have hc:=aB (he c o' e');rw[sortedHeap_old (aN hc) (by rw[wc];exact Nat.lt_succ_of_lt hc)];exact av _ (he c o' e')
end
end ST

namespace ST
open PySem PyProof.Rows
def i6(ks xs:List Int):List Int:=xs.foldl C6 ks
theorem L4:∀(xs ks:List Int),(i6 ks xs).length<=ks.length+xs.length
 |[],ks=>by simp[i6]
 |x::xs,ks=>by
  have:=L4 xs (C6 ks x);have h2:=Zv ks x;show(i6 (C6 ks x) xs).length<=_;simp only[List.length_cons];omega
theorem O6:∀(xs ks:List Int) (k:Int),k∈i6 ks xs↔k∈ks\/k∈xs
 |[],ks,k=>by simp[i6]
 |x::xs,ks,k=>by
  show k∈i6 (C6 ks x) xs↔_;rw[O6 xs];unfold C6;split
  ·rename_i h;constructor
   ·rintro(a|a)
    ·exact .inl a
    ·exact .inr (by simp[a])
   ·rintro(a|a)
    ·exact .inl a
    ·rcases aE.mp a with rfl|b
     ·exact .inl h
     ·exact .inr b
  ·simp[or_assoc]
theorem T9:∀(xs ks:List Int),ks.Nodup->(i6 ks xs).Nodup
 |[],ks,h=>h
 |x::xs,ks,h=>by
  show(i6 (C6 ks x) xs).Nodup;refine T9 xs _ ?_;unfold C6;split
  ·exact h
  ·rename_i hk;rw[cu];exact⟨h,by simp,λa ha b hb=>by simp at hb;subst hb;exact λz=>hk (z▸ha)⟩
section
variable{prog:Program}{w:World}{A:Around}{E:Value->Shared->Prop}{s:Shared}{a:Addr}
theorem Yh:Well (Led w) (SetTable.fresh 0 0 (Led w)):=⟨by simp[ke,SetTable.fresh],rfl,rfl⟩
theorem Gq{h:Heap}(e:h.get? a=some { cls:=.type "set",dict:=none,data:=.set #[] 0 (.fresh 0 0 (Led w)) }):q8 prog w h a [] :=
 ⟨_,#[],0,_,e,⟨rfl,rfl,rfl⟩,rfl,(by intro e he;simp at he),by simp,by simp,by decide,by rfl,Yh⟩
theorem WG{R:Result->Shared->Prop}{I:Addr}{fp wr:List Addr}{G:Array GenState->Array GenState->Prop}{n:Nat}{P:Nat->Value->Prop}{St:Nat->Shared->Prop}(W:WalksS prog w A.in1 I fp wr G n P St)(EK:a∉fp){ns:List Int}(hn:n=ns.length)(hv:∀i v,P i v->∃tk,v=.int (ns.getD i 0) tk)(hb:n+1<scanBound):∀(k i:Nat) (s:Shared),i+k=n->St i s->q8 prog w s.heap a (i6 [] (ns.take i)) ->
   (∀s',Moved (a::wr) G s s'->q8 prog w s'.heap a (i6 [] ns)->R (.ok (.ret .none)) s')->codeAny (model prog w) A (.builtin "set.update.loop" ⟨[.ref a,.ref I],[]⟩) R s:=by
 have hw:a∉wr:=λh=>EK (W.sub _ h);have tE:∀b∈wr,b∈a::wr:=λb hb=>by simp[hb]
 intro k
 induction k with
 |zero =>
  intro i s e st hS hR;obtain rfl:i=n:=by omega
  refine eW jn ?_;rw[eB dW _];unfold Builtin.«set.update.loop»;refine ae (W.done s _ _ st λs' m=>au (hR s' (m.mono tE) (q8.at ?_ λo e=>m.heap a o hw e)));rw[hn,bI] at hS;exact hS
 |succ k ih =>
  intro i s e st hS hR;have dC:i<ns.length:=by omega
  refine eW jn ?_;rw[eB dW _];unfold Builtin.«set.update.loop»;refine ae (W.item i s _ _ (by omega) st λv s' hP kX m=>?_);obtain⟨tk,rfl⟩:=hv i v hP;have mM:=q8.at hS λo e=>m.heap a o hw e;have hl:=L4 (ns.take i) [];rw[cj] at hl;simp only[List.length_nil] at hl;refine ae (cz ?_);unfold setAdd;refine cz (ae ((intKind prog w).pyHash (k:=ns.getD i 0) (fN _ _ _ _) ?_));refine FJ (s:={ s' with toks:=s'.toks+1 }) mM (by omega) λh' bb sb uP=>?_;have e2:C6 (i6 [] (ns.take i)) (ns.getD i 0)=i6 [] (ns.take (i+1)):=by
   unfold i6;rw[bu,List.foldl_append,aj dC];simp[List.getD,dC]
  rw[e2] at uP;refine au ⟨lD dW _,ih (i+1) _ (by omega) (W.frame _ s' _ _ kX (gg _) λb hb o e=>by rw[sb.2 b λz=>EK (z▸hb)];exact e) uP λs2 m2 h2=>?_⟩;exact hR s2 (Moved.trans W.gtrans ((m.mono tE).then_heap (gg _) λb o hb e=>by rw[sb.2 b λz=>hb (by rw[z];simp)];exact e) m2) h2
end
end ST

namespace ST
open PySem PyProof.Rows
section
variable{prog:Program}{w:World}{A:Around}{E:Value->Shared->Prop}{s:Shared}{a:Addr}
noncomputable abbrev v8(w:World):Obj:={ cls:=.type "set",dict:=none,data:=.set #[] 0 (.fresh 0 0 (Led w)) }
theorem Iv{Q:Value->Shared->Prop}(h:Q (.ref s.heap.objs.size) { s with heap:=s.heap.push (v8 w) }):wpAny (model prog w) A (newSet (.type "set")) Q E s:=by
 unfold newSet;refine ae (vK ?_);exact cg h (cM _)
theorem ZC(x:Value){Q:Value->Shared->Prop}(h:Q (.ref s.heap.objs.size) { s with heap:=s.heap.push (v8 w) }):codeAny (model prog w) A (.call (.builtin "set.__new__") ⟨[.type "set",x],[]⟩) (wants Q E) s:=by
 refine sQ (?_:wpAny _ A.in1 (do
  checkBuiltinCall "set.__new__" ⟨[.type "set",x],[]⟩
  again (.builtin "set.__new__" ⟨[.type "set",x],[]⟩)) _ _ s)
 refine ae (ei (F.newCall_set_1 x) (au ⟨lD F.plain_set_new _,?_⟩));refine eW F.entry_set_new ?_;rw[eB F.plain_set_new _];unfold Builtin.«set.__new__»;have sub:=sub_set_self;refine ae (m:=Builtin.Frozenset.newClass "set" _) ?_;unfold Builtin.Frozenset.newClass;dsimp only;refine ae (ei (a:=true) (by first|rfl|(simp[isType];rfl)) ?_);rw[aC (by decide)];refine ae (ei sub ?_);rw[aC (by decide)];refine au ?_;exact ae (Iv (au h))
theorem IZ{vs:List Value}{ns:List Int}(h:IntsAre vs ns):vs.length=ns.length:=by
 induction h with
 |nil=>rfl
 |cons n t r ih=>simp[ih]
def vO(h:Heap)(l:Addr)(items:Array Value):Prop:=h.IsList l items\/h.IsTuple l items
theorem vO.lt{h:Heap}{l:Addr}{items:Array Value}(x:vO h l items):l<h.objs.size:=by
 rcases x with⟨_,e,_⟩|⟨_,e,_⟩<;>exact aB e
theorem ZL{l:Addr}{items:Array Value}{ns:List Int}{Q:Fin->Shared->Prop}(hh:A.handled=none)(hS:s.heap.get? a=some (v8 w))(hl:vO s.heap l items)(hi:IntsAre items.toList ns)(hb:items.size+1<scanBound)(dG:a≠l)(h:∀h' tk,q8 prog w h' a (i6 [] ns)->(∀b o,b≠a->s.heap.get? b=some o->h'.get? b=some o)->s.toks<=tk->wpAny (model prog w) A (ret .none) Q E { s with heap:=h',toks:=tk }) :
  wpAny (model prog w) A (Builtin.«set.__init__» ⟨[.ref a,.ref l],[]⟩) Q E s:=by
 have hT:s.TypeIs (.ref a) "set":=⟨_,hS,rfl⟩
 have hLi:Lies s.heap a #[] 0 (SetTable.fresh 0 0 (Led w)):=⟨⟨_,hS,rfl,rfl⟩,rfl⟩
 have dC:=hl.lt;have En:l≠s.heap.objs.size:=aN dC;unfold Builtin.«set.__init__» noKeywords;dsimp only;refine ae (ei (a:=()) rfl ?_);have nm:∀{Q':String->Shared->Prop},(∀x,Q' x s)->wpAny (model prog w) A (typeNameOfCut 200 (.ref a)) Q' E s:=λ{Q'} q=>by
  unfold typeNameOfCut shownTypeOf;refine ae (ae (eJ hT ?_));rw[aC (by decide)];refine au (ei (a:="set") ?_ (q _));unfold typeNameCut;dsimp only
  first|(unfold typeName;rw[find?_eq_fast];kernel_rfl)|kernel_rfl
 refine ae (nm λx=>?_);refine ae (m:=checkCount _ 0 1 _) (au ?_);refine ae (m:=Builtin.Frozenset.addrOf _) (au ?_);unfold setUsed;refine ae (ae (cB hS rfl rfl (au ?_)));rw[aC (by show ¬((SetTable.fill (SetTable.fresh 0 0 (Led w)) != 0)=true);unfold SetTable.fill;simp[SetTable.fresh])];unfold Builtin.Frozenset.updateFrom Builtin.Frozenset.isAnySet;obtain⟨c,rP,zU,it,hit,Ep,St,W,dE⟩:∃c:String,(c="list"\/c="tuple")/\s.TypeIs (.ref l) c/\∃it:Obj,(∀Q':Value->Shared->Prop,Q' (.ref s.heap.objs.size) { s with heap:=s.heap.push it }->wpAny (model prog w) A (pyIter (.ref l)) Q' E s) /\
   (∀b o,s.heap.get? b=some o->(s.heap.push it).get? b=some o)/\∃St:Nat->Shared->Prop,WalksS prog w A.in1 s.heap.objs.size [s.heap.objs.size,l] [s.heap.objs.size] (λa b=>b=a) items.size (λi v=>items[i]?=some v) St/\St 0 { s with heap:=s.heap.push it }:=by
  rcases hl with hl|hl
  ·obtain⟨o,ho,hc,_⟩:=id hl;exact⟨"list",.inl rfl,⟨o,ho,hc⟩,_,λQ' q=>hX hl q,λb o e=>av _ e,_,(Walks.list (A:=A.in1) hh _ l En items).toS,⟨⟨_,aG _ rfl,rfl,rfl⟩,hl.push _⟩⟩
  ·obtain⟨o,ho,hc,_⟩:=id hl;exact⟨"tuple",.inr rfl,⟨o,ho,hc⟩,_,λQ' q=>wpAny_pyIter_tuple hl q,λb o e=>av _ e,_,(Walks.tuple (A:=A.in1) hh _ l En items).toS,⟨⟨_,aG _ rfl,rfl,rfl⟩,hl.push _⟩⟩
 refine ae (ae (ae (iP (b:=false) zU (by rcases rP with rfl|rfl<;>(rw[gC];kernel_rfl)) ?_)));show wpAny (model prog w) A (isInstance (Value.ref l) (Value.type "frozenset")) _ _ _;refine iP (b:=false) zU (by rcases rP with rfl|rfl<;>(rw[gC];kernel_rfl)) ?_;rw[aC (by decide)];refine ae (eJ zU ?_);rw[aC (by rcases rP with rfl|rfl<;>decide)];refine ae (hit _ ?_);refine ae (wpAny_runValue ?_);have Md:a<s.heap.objs.size:=aB hS;have hsz:items.size=ns.length:=by rw[<- bB];exact IZ hi
 refine WG (a:=a) (ns:=ns) W (by simp only[List.mem_cons,List.not_mem_nil,or_false,not_or];exact⟨aN Md,dG⟩) hsz (λi v hv=>IntsAre.int_at hi i v (by rw[iy];exact hv)) hb items.size 0 _ (by omega)
  dE (Gq (Ep _ _ hS)) λs' m mM=>?_
 have eS:s'={ s with heap:=s'.heap,toks:=s'.toks }:=by
  obtain⟨jv,g',d',lY,tN⟩:=s';have m1:g'=s.gens:=m.gens;have m2:d'=s.drawn:=m.drawn;have m3:tN=s.os:=m.os;subst m1;subst m2;subst m3
  rfl
 rw[eS];refine au (h _ _ mM (λb o hb e=>?_) m.toks);exact m.heap b o (by simp only[List.mem_cons,List.not_mem_nil,or_false,not_or];exact⟨hb,aN (aB e)⟩) (Ep _ _ e)
theorem Zy{l:Addr}{items:Array Value}{ns:List Int}{Q:Value->Shared->Prop}(hh:A.handled=none)(hl:vO s.heap l items)(hi:IntsAre items.toList ns)(hb:items.size+1<scanBound)(h:∀h' tk,q8 prog w h' s.heap.objs.size (i6 [] ns)->(∀b o,s.heap.get? b=some o->h'.get? b=some o)->s.toks<=tk->Q (.ref s.heap.objs.size) { s with heap:=h',toks:=tk }) :
  wpAny (model prog w) A (call (.type "set") [.ref l]) Q E s:=by
 have cs:=F.called_set;obtain⟨_,_,y1⟩:=cs.mro;have y2:=cs.made;have y3:=cs.sub;have y4:=cs.notType;have y5:=cs.canCreate;have y6:=F.typeCall_set_1 (.ref l);refine wpAny_call (sQ (?_:wpAny _ _ (callAny (.type "set") _) _ _ _));refine au ⟨Code.quiet_builtin _ (by decide +kernel),eW F.entry_type_call ?_⟩;rw[Around.under_plain (weight_type_call_type "set" [.ref l] []) rfl]
 repeat (any_goals (first|assumption|wp_step))
 refine gi (ZC (.ref l) (E:=E) (Q:=λv s1=>v=.ref s.heap.objs.size/\s1={ s with heap:=s.heap.push (v8 w) }) ⟨rfl,rfl⟩) ?_;rintro(e|fl) s1 hr
 ·exact hr
 cases fl with
 |next=>exact hr
 |brk=>exact hr
 |cont=>exact hr
 |ret v =>
 obtain⟨rfl,rfl⟩:=hr;have hS:(s.heap.push (v8 w)).get? s.heap.objs.size=some (v8 w):=aG _ rfl;have hT:Shared.TypeIs { s with heap:=s.heap.push (v8 w) } (.ref s.heap.objs.size) "set":=⟨_,hS,rfl⟩
 have y7:=cs.init.lookup;have y8:=cs.init.bind (.ref s.heap.objs.size)
 repeat (any_goals (first|assumption|wp_step))
 refine gi (codeAny_call_builtin (R:=wants (λv s2=>v=.none/\∃h' tk,s2={ s with heap:=h',toks:=tk }/\q8 prog w h' s.heap.objs.size (i6 [] ns)/\(∀b o,s.heap.get? b=some o->h'.get? b=some o)/\s.toks<=tk) E) cs.init.plain F.entry_set_init (check_set_init_1 hT ?_)) ?_
 ·have jg:vO (s.heap.push (v8 w)) l items:=hl.imp (·.push _) (·.push _);have Lw:=hl.lt;refine ZL (s:={ s with heap:=s.heap.push (v8 w) }) (by simp[hh]) hS jg hi hb (bS Lw) λh' tk h1 h2 h3=>au ⟨rfl,h',tk,rfl,h1,λb o e=>h2 b o (aN (aB e)) (av _ e),h3⟩
 ·rintro(e|fl) s2 hr
  ·exact hr
  cases fl with
  |next=>exact hr
  |brk=>exact hr
  |cont=>exact hr
  |ret v =>
  obtain⟨rfl,h',tk,rfl,h1,h2,h3⟩:=hr
  repeat (any_goals (first|assumption|wp_step))
  exact h _ _ h1 h2 h3
end
end ST

namespace L2
open PySem PySem.Spec PyProof.Rows
def qS(X:Cx)(a:Addr)(ks:List Int):HO:=.ext λh=>ST.q8 X.prog X.w h a ks
def m9(ns:List Int):List Int:=(ST.i6 [] ns).mergeSort (λa b=>decide (a<=b))
theorem GC:∀{a b:List Int},a.Perm b->a.Pairwise (·<=·)->b.Pairwise (·<=·)->a=b
 |[],b,h,_,_=>by rw[List.nil_perm.mp h]
 |x::a,[],h,_,_=>absurd h.length_eq (by simp)
 |x::a,y::b,h,h1,h2=>by
  rw[jG] at h1 h2;have e:x=y:=by
   have m1:=h.mem_iff (a:=y);have m2:=h.mem_iff (a:=x);simp only[List.mem_cons,true_or,true_iff,iff_true] at m1 m2;rcases m1 with z|z
   ·exact z.symm
   ·rcases m2 with z'|z'
    ·exact z'
    ·have:=h1.1 y z;have:=h2.1 x z';omega
  subst e;rw[GC (h.cons_inv) h1.2 h2.2]
theorem YD(ns:List Int):(m9 ns).Pairwise (·<=·):=by
 have:=List.pairwise_mergeSort (le:=λa b:Int=>decide (a<=b)) (λa b c h1 h2=>by simp at *;omega) (λa b=>by simp;omega) (ST.i6 [] ns);exact this.imp λh=>by simpa using h
theorem O3(ns:List Int):(m9 ns).Perm (ST.i6 [] ns):=List.mergeSort_perm _ _
theorem T5(ns:List Int):(m9 ns).length<=ns.length:=by
 rw[(O3 ns).length_eq];have:=ST.L4 ns [];simpa using this
section
variable{X:Cx}{pins:List (Addr×Obj)}{Z:St}{H:Hp}{s:Shared}
theorem Inv.draw(I:Inv X pins Z H s)(d:Drawn):Inv X pins Z H { s with drawn:=d } :=
 I.step (g':=s.gens) (t':=s.toks) (d':=d) (ch:=[]) (by simp) (λb o _ _ _ e _=>e) (λb o _ _ _ e _=>⟨o.slots,e⟩) (λb o _ _ e=>e) (λb o _ e=>⟨o,e⟩) (λ_ _ e=>e) (λ_ _ _ e=>e) (λb ps e=>⟨#[],by simp[e]⟩) (λm hm=>hm) I.bK I.bare
theorem IH{h:Heap}{H:Hp}{a:Addr}{ks:List Int}(x:ST.q8 X.prog X.w h a ks):l6 X.prog X.w H h a (qS X a ks) :=
 ⟨x,by obtain⟨o,_,_,_,e,_⟩:=x;exact⟨o,e⟩,λh1 h2 y k=>y.at k⟩
theorem YL{ns:List Int}{vs:List Value}(h:IntsAre vs ns):Vals (ns.map V.int) vs:=by
 induction h with
 |nil=>exact .nil
 |cons n t r ih=>exact .cons ⟨t,rfl⟩ ih
theorem L1:∀{ns:List Int} {vs:List Value},Vals (ns.map V.int) vs->IntsAre vs ns
 |[],_,h=>by cases h;exact .nil
 |n::ns,_,h=>by
  cases h with
  |cons r rr =>
   obtain⟨t,rfl⟩:=r;exact .cons n t (L1 rr)
theorem Hu(hc:X.calm=true):l9 X (.type "set") (λxs H Q=>∃a ns,xs=[.ref a]/\fB X.K H a (ns.map V.int)/\ns.length<60/\∀p,H p=none->Q (.ref p) (upd H p (qS X p (ST.i6 [] ns)))):=by
 intro pins s Z H xs us Q I r h;obtain⟨a,ns,rfl,hq,hl,q⟩:=h;cases r with
 |cons r rr =>
 cases rr;cases r;obtain⟨aX,rv,p,hz⟩:=I.list hq;have hI:=L1 rv;have hlen:=ST.IZ hI;refine ST.Zy (ns:=ns) (I.ok.hd hc) (.inl p.isList) (by simpa using hI) (by rw[aH,hlen];exact ay (Nat.succ_lt_succ hl) (by decide)) λh' tk hS hk _=>?_;exact⟨.ref _,_,I.laid (a:=s.heap.objs.size) (t':=tk) hk (aw _) (IH hS),rfl,q _ (I.bK.fresh (aw _))⟩
theorem U6(hc:X.calm=true):l9 X (.builtin "sorted") (λxs H Q=>∃a ns,xs=[.ref a]/\H a=some (qS X a (ST.i6 [] ns))/\ns.length<60/\∀p,H p=none->Q (.ref p) (upd H p (.lst ((m9 ns).map V.int)))):=by
 intro pins s Z H xs us Q I r h;obtain⟨a,ns,rfl,ha,hl,q⟩:=h;cases r with
 |cons r rr =>
 cases rr;cases r;have hS:ST.q8 X.prog X.w s.heap a (ST.i6 [] ns):=(I.bK a _ ha).1;have hn:=ST.L4 ns [];simp only[List.length_nil] at hn;refine ST.YE (I.ok.hd hc) hS (by omega) λS vs yS e h' d' lY h1 h2 h3 h4 h5 h6 _=>?_;have e1:yS=m9 ns:=GC (h2.trans (O3 ns).symm) h3 (YD ns);subst e1;have hz:=T5 ns;exact⟨.ref S,_,(I.laid (a:=S) (o:=.lst ((m9 ns).map V.int)) (t':=lY) h6 h5 ⟨by rw[ak];exact aD hz (aD (dP hl) (by decide)),vs,e,YL h1,h4⟩).draw d',rfl,q S (I.bK.fresh h5)⟩
end
end L2

namespace ST
open PySem PyProof.Rows
theorem Zx{prog:Program}{w:World}{A:Around}{E:Value->Shared->Prop}{s:Shared}{a:Addr}{ks:List Int}{k:Int}{tk:Tok}{Q:Value->Shared->Prop}(hS:q8 prog w s.heap a ks)(hr:ks.length+1<scanBound)(h:∀h',Heap.SameBut a s.heap h'->q8 prog w h' a (C6 ks k)->Q .none { s with heap:=h',toks:=s.toks+1 }):wpAny (model prog w) A (call (.builtin "set.add") [.ref a,.int k tk]) Q E s:=by
 have hT:s.TypeIs (.ref a) "set":=let ⟨o,_,_,_,e,x,_⟩:=hS;⟨o,e,x.1⟩
 refine cH F.slot_set_add hT F.entry_set_add ?_ (F.args_set_add_2 _ _);have go:∀(Q':Fin->Shared->Prop),(∀h',Heap.SameBut a s.heap h'->q8 prog w h' a (C6 ks k)->wpAny (model prog w) A.in1 (ret .none) Q' E { s with heap:=h',toks:=s.toks+1 })->wpAny (model prog w) A.in1 (do let _ <- setAdd a (.int k tk);ret .none) Q' E s:=λQ' q=>by
  unfold setAdd;refine ae (cz (ae ((intKind prog w).pyHash (k:=k) (fN _ _ _ _) ?_)));exact FJ (s:={ s with toks:=s.toks+1 }) hS hr λh' b sb S2=>q h' sb S2
 unfold Builtin.«set.add» Builtin.Frozenset.oneOther;simp only[List.isEmpty_nil,bind_assoc];unfold Builtin.Frozenset.addrOf;refine ae (au ?_)
 try dsimp only
 refine ae (au ?_)
 try dsimp only
 exact go _ λh' sb S2=>au ⟨_,rfl,h h' sb S2⟩
end ST
namespace L2
open PySem PySem.Spec PyProof.Rows
section
variable{prog:Program}{w:World}{A:Around}{R:Result->Shared->Prop}{s:Shared}
theorem YI(elt target iter:Expr)(ifs:List Expr)(scope:Scope)(pos:Pos)(it acc:Value)(env:Env):compTurn (.SetComp elt [⟨target,iter,ifs,0⟩] scope pos) 0 it acc env=(do
      standAt iter.pos
      match <- pyNext it with
      |none=>pure (.done .next)
      |some v =>
        letOwnedTupleGo target it v
        assign target env v
        let mut ok:=true
        for c in ifs do if ok then ok <- isTrue c env (eval c env)
        if ok then(do let x <- eval elt env;standAt elt.pos;let _ <- call (.builtin "set.add") [acc,x])
        again (.compLoop (.SetComp elt [⟨target,iter,ifs,0⟩] scope pos) 0 it acc env)):=by rfl
theorem Wj{elt target iter:Expr}{ifs:List Expr}{scope:Scope}{pos:Pos}{it acc:Value}{env:Env}(I:Nat->Shared->Prop)(turn:∀ n s,I n s->wpAny (model prog w) A (pyNext it) (λr bV=>match r with
   |none=>R (.ok .next) bV
   | some v=>wpAny (model prog w) A (letOwnedTupleGo target it v) (λ_ bV=>wpAny (model prog w) A (assign target env v) (λ_ fT =>
     wpAny (model prog w) A (forIn ifs true λc r=>if r=true then do let ok <- isTrue c env (eval c env);pure (ForInStep.yield ok) else pure (ForInStep.yield r)) (λok eP =>
      if ok=true then wpAny (model prog w) A (eval elt env) (λx jq =>
       wpAny (model prog w) A (call (.builtin "set.add") [acc,x]) (λ_ lZ=>∃ m,m < n/\I m lZ) (λ_ _=>False) jq) (λ_ _=>False) eP
      else ∃ m,m < n/\I m eP) (λ_ _=>False) fT) (λ_ _=>False) bV) (λ_ _=>False) bV) (λ_ _=>False) s)(n:Nat)(h:I n s) :
  codeAny (model prog w) A (.compLoop (.SetComp elt [⟨target,iter,ifs,0⟩] scope pos) 0 it acc env) R s:=by
 refine codeAny_loop rfl I (λn s hI=>?_) n h;show wpAny _ A ((compTurn (.SetComp elt [⟨target,iter,ifs,0⟩] scope pos) 0 it acc env).onRaise (λx=>do noteFrame x env;theTreesLotGoes x)) _ _ s;refine wpAny_noted ?_;rw[YI];refine ae (dM (ae (bx (turn n s hI) (λr bV dw=>?_) λ_ _ h'=>h'.elim)));cases r with
 |none=>exact au dw
 |some v =>
  refine ae (bx dw (λ_ bV dw=>?_) λ_ _ h'=>h'.elim);refine ae (bx dw (λ_ fT iD=>ae (bx iD (λok eP mz=>?_) λ_ _ h'=>h'.elim)) λ_ _ h'=>h'.elim);cases ok with
  |false=>exact wpAny_pure ⟨rfl,mz⟩
  |true =>
   exact ae (ae (bx mz (λx jq qb=>ae (dM (ae (bx qb (λ_ lZ qa=>au (au ⟨rfl,qa⟩)) λ_ _ h'=>h'.elim)))) λ_ _ h'=>h'.elim))
theorem Yz{elt target iter:Expr}{ifs:List Expr}{scope:Scope}{pos:Pos}{it acc:Value}{env:Env}(h0:codeAny (model prog w) A (.compLoop (.SetComp elt [⟨target,iter,ifs,0⟩] scope pos) 0 it acc env) R s)(h:wpAny (model prog w) A (pyIter it) (λEb s'=>codeAny (model prog w) A (.compLoop (.SetComp elt [⟨target,iter,ifs,0⟩] scope pos) 0 Eb acc env) R s') (notedBy (model prog w) A env λx s'=>R (.error x) s') s) :
  codeAny (model prog w) A (.compStart (.SetComp elt [⟨target,iter,ifs,0⟩] scope pos) 0 it acc env) R s:=by
 refine sQ (?_:wpAny _ _ ((compStart (.SetComp elt [⟨target,iter,ifs,0⟩] scope pos) 0 it acc env).onRaise (λx=>do noteFrame x env;standAt theWindowsPlace)) _ _ s);refine wpAny_notedAt ?_;unfold compStart;refine ae (pE (wpAny_ite ?_));split
 ·first
   |exact au ⟨rfl,h0⟩
   |exact ae (au (au ⟨rfl,h0⟩))
 ·refine ae (fM ?_);exact ae (dM (ae (bx h (λEb s' h'=>au ⟨rfl,h'⟩) λ_ _ x=>x)))
end
def Cw(o:Obj):Prop:=∀v,o.data≠.cell v
def QD(X:Cx)(wi:TI)(c8:List Nat)(n:Nat)(g:TG)(tc:TT)(te:TE):TE:=λZ H Q=>wi Z H λJ H1=>∃W:Nat->Nat->List Int->St->Hp->Prop,(∃m,W 0 m [] (B7 Z c8 n) H1)/\∀i m ys Z H,W i m ys Z H ->
 (J.stop i H/\∀p,H p=none->Q (.ref p) (upd H p (qS X p (ST.i6 [] ys)))) \/
 (J.go i H/\ys.length < 60/\∀ x H',J.pL i H x H'->g x Z H' λcy H2=>tc cy H2 λb H3 =>
  if b=true then te cy H3 λy H4=>∃ k,y=.int k/\∃ m',m' < m/\W (i + 1) m' (ys ++ [k]) cy H4 else ∃ m',m' < m/\W (i + 1) m' ys cy H3)
section
variable{X:Cx}{pins:List (Addr×Obj)}{Z:St}{H:Hp}{s:Shared}
theorem Inv.QG{D:Addr}{φ:Heap->Prop}(I:Inv X pins Z H s)(f:B9 X pins H D)(hs:X.cW.heap.objs.size<=D)(ho:l6 X.prog X.w (upd H D (.ext φ)) s.heap D (.ext φ)):Inv X pins Z (upd H D (.ext φ)) s:=by
 obtain⟨f0,f1,f2,f3,f4,f5⟩:=f;have dG:∀b o,X.cW.heap.get? b=some o->b≠D:=λb o e z=>absurd (aB e) (by rw[z];exact jF.mpr hs);have tup:∀b u,H b=some u->upd H D (.ext φ) b=some u:=λb u e=>by rw[d6 (j9 e f0)];exact e
 refine⟨I.ok,I.os,I.bare,⟨?_,?_,?_,I.base.there,?_,?_,?_⟩,I.loc,I.cell,?_,?_,?_,?_,I.len⟩
 ·exact λb o e n1 n2 n3=>I.base.keep b o e n1 n2 n3
 ·exact λb o e n1 n2 n3=>I.base.slot b o e n1 n2 n3
 ·exact λb o e n1 n2=>by rw[d6 (dG b o e)];exact I.base.free b o e n1 n2
 ·exact λb xs e=>tup _ _ (I.base.gH b xs e)
 ·exact λb o u e=>tup _ _ (I.base.gw b o u e)
 ·exact λb ps e=>by
   obtain⟨more,q⟩:=I.base.gI b ps e;exact⟨more,tup _ _ q⟩
 ·rw[d6 f1.symm];exact I.free
 ·exact λx c e=>by rw[d6 (f4 x c e)];exact I.dZ x c e
 ·intro p hp;obtain⟨p1,p2,p3⟩:=I.pin p hp;exact⟨p1,by rw[d6 (f5 p hp)];exact p2,p3⟩
 ·intro a o e;by_cases ha:a=D
  ·subst ha;rw[p8] at e;cases e;exact ho
  ·rw[d6 ha] at e;have q:=I.bK a o e;refine q.Q7 (λb u _ h=>h) (λb hb=>tup _ _ hb) (λb xs hb=>tup _ _ hb)
theorem Ze{elt tg iter:Expr}{ifs:List Expr}{scope:Scope}{N':List Str}{c8:List Nat}{cl:List (Str×Addr)}{pos:Pos}{it:Addr}{fp:List Addr}{tn:Nat->Heap->Prop}{J:It}{g:TG}{tc:TT}{te:TE}{RR:Value->Addr->Result->Shared->Prop}{E:Value->Shared->Prop}{W:Nat->Nat->List Int->St->Hp->Prop}{m0:Nat}{Q:VK}(S:da X scope N' c8 cl)(hc:X.calm=true)(hg:∀C s H,PG (d4 X pins scope N' cl C s H fp) tg g)(ht:∀C s H,kO (d4 X pins scope N' cl C s H fp) ifs tc)(he:∀C s H,PE (d4 X pins scope N' cl C s H fp) elt te)(I:Inv X pins Z H s)(T:Turn X.prog X.w X.K tg J fp it tn)(st:tn 0 s.heap)(hf:∀b∈fp,B9 X pins H b)(w0:W 0 m0 [] (B7 Z c8 N'.length) H)(turn:∀ i m ys Z H,W i m ys Z H->(J.stop i H/\∀ p,H p=none->Q (.ref p) (upd H p (qS X p (ST.i6 [] ys)))) \/
   (J.go i H/\ys.length < 60/\∀ x H',J.pL i H x H'->g x Z H' λcy H2=>tc cy H2 λb H3 =>
    if b=true then te cy H3 λy H4=>∃ k,y=.int k/\∃ m',m' < m/\W (i + 1) m' (ys ++ [k]) cy H4 else ∃ m',m' < m/\W (i + 1) m' ys cy H3))(zV:∀D C s' H' m,Inv X pins Z H' s'->Q (.ref D) H'->s'.heap.Ns C m->H' C=none->s.heap.objs.size<=C->RR (.ref D) C (.ok .next) s') :
  wpAny (model X.prog X.w) X.A (newSet (.type "set")) (λacc eP=>wpAny (model X.prog X.w) X.A (newFunctionEnv scope X.env.globals cl [] X.env.qual none .none (some X.env)) (λlz jq =>
   codeAny (model X.prog X.w) X.A (.compStart (.SetComp elt [⟨tg,iter,ifs,0⟩] scope pos) 0 (.ref it) acc { lz with scope:=relabel scope X.env }) (RR acc lz.locals) jq) E eP) E s:=by
 refine ST.Iv (HB λdw gb ft mK=>?_);dsimp only at gb ft mK ⊢;generalize qo:s.heap.push (ST.v8 X.w)=H2 at gb ft mK ⊢;generalize eD:s.heap.objs.size=D at *;have hC:H2.objs.size=D+1:=by rw[<- qo,eA,eD]
 generalize eC:H2.objs.size=C at *;have uU:D≠C:=by omega
 have lt:∀b o,s.heap.get? b=some o->b<D:=λb o e=>by rw[<- eD];exact aB e
 have pY:D<=C:=by omega
 have oz:∀b o,s.heap.get? b=some o->b≠C:=λb o e=>aN (ay (lt b o e) pY);have mn:∀b o,s.heap.get? b=some o->b≠D:=λb o e=>aN (lt b o e);have old:∀b o,s.heap.get? b=some o->dw.get? b=some o:=λb o e=>ft b o (qo▸av _ e);have kA:dw.get? D=some (ST.v8 X.w):=ft _ _ (by rw[<- qo,<- eD];exact aG _ rfl);have iE:∀b∈fp,∃o,s.heap.get? b=some o:=λb hb=>by
  obtain⟨o,e,_⟩:=T.obj _ _ st b hb;exact⟨o,e⟩
 have uT:D∉fp:=λhm=>by
  obtain⟨o,e⟩:=iE D hm;exact mn D o e rfl
 have X1:Inv (d4 X pins scope N' cl C s H fp) [] (B7 Z c8 N'.length) H { s with heap:=dw } :=
  I.GQ S hc hf iE (by rw[eD];omega) ⟨_,gb⟩ old mK
 have tF:tn 0 dw:=T.keep _ _ _ st λb _ o e=>old b o e;have Ap:∀{H':Hp},(∀b∈fp,H' b=none)->∀b∈fp,B9 (d4 X pins scope N' cl C s H fp) [] H' b:=λhn b hb=>by
  obtain⟨f0,f1,f2,f3,f4,f5⟩:=hf b hb;obtain⟨o,e⟩:=iE b hb;refine⟨hn b hb,?_,?_,.inl hb,λx c q=>(ye mK q).elim (λl z=>absurd (cL (z▸l) (ay (lt b o e) pY)) (bw _)) λq=>f4 x c (S.cin x c q),λp hp=>?_⟩
  ·exact oz b o e
  ·exact λz=>by
    rcases aE.mp (I.K7 b z) with z|z
    ·exact f1 z
    ·exact f2 z
  ·have jv:p∈X.pn++pins:=by simpa[d4] using hp
   exact f5 p jv
 have fD:∀{H':Hp},H' D=none->B9 (d4 X pins scope N' cl C s H fp) [] H' D:=λhn=>by
  refine⟨hn,uU,λz=>?_,.inr (by show s.heap.objs.size<=D;omega),λx c q=>?_,λp hp=>?_⟩
  ·exact absurd (I.vT (a:=D) (by omega)) λjC=>by
    rcases aE.mp (I.K7 D z) with z|z
    ·exact absurd I.lt (by rw[<- z,eD];exact bw _)
    ·exact jC z
  ·rcases ye mK q with l|q
   ·exact λz=>absurd (ay (z▸l) pY) (bw _)
   ·obtain⟨v,o,e,_⟩:=I.cell x c (S.cin x c q);exact mn c o e
  ·have jv:p∈X.pn++pins:=by simpa[d4] using hp
   exact mn _ _ (I.pin p jv).1
 have pV:∀{H':Hp} {s':Shared} {bN:St} {oD:Obj},Cw oD->Inv (d4 X pins scope N' cl C s H fp) [] bN H' s'->H' D=none->s'.heap.get? D=some oD ->
   Inv (d4 X pins scope N' cl C s H fp) [(D,oD)] bN H' s':=λ{H' s' bN oD} jD J0 hn e=>J0.K2 λp hp=>by
  have z:p=(D,oD):=by simpa using hp
  subst z;obtain⟨f0,f1,f2,_⟩:=fD hn;exact⟨e,f0,f1,f2,jD⟩
 have qz:∀{H':Hp} {oD:Obj},(∀b∈fp,H' b=none)->∀b∈fp,B9 (d4 X pins scope N' cl C s H fp) [(D,oD)] H' b:=λ{H' oD} hn b hb=>by
  obtain⟨f0,f1,f2,f3,f4,f5⟩:=Ap hn b hb;refine⟨f0,f1,f2,f3,f4,λp hp=>?_⟩;have jv:p∈(d4 X pins scope N' cl C s H fp).pn\/p=(D,oD):=by simpa using hp
  rcases jv with z|z
  ·exact f5 p (cR _ z)
  ·subst z;exact λz=>uT (by rw[show D=b from z];exact hb)
 have loop:∀eP:Shared,eP={ s with heap:=dw } ->
   codeAny (model X.prog X.w) X.A (.compLoop (.SetComp elt [⟨tg,iter,ifs,0⟩] scope pos) 0 (.ref it) (.ref D) (compEnvC scope (J9 scope cl C) C X.env)) (RR (.ref D) C) eP:=by
  rintro eP rfl;refine Wj (λn s'=>∃ (i:Nat) (ys:List Int) (bN:St) (H':Hp) (oD:Obj),Inv (d4 X pins scope N' cl C s H fp) [] bN H' s'/\tn i s'.heap/\(∀ b ∈ fp,H' b=none)/\H' D=none/\ys.length <= 60/\Cw oD /\
   s'.heap.get? D=some oD/\ST.q8 X.prog X.w s'.heap D (ST.i6 [] ys)/\W i n ys bN H') ?_ m0 ⟨0,[],_,H,ST.v8 X.w,X1,tF,λb hb=>(hf b hb).1,I.bK.fresh (by omega),cM _,(λv (z:Data.set _ _ _=_)=>by cases z),kA,ST.Gq kA,w0⟩
  rintro n s3 ⟨i,ys,gX,H3,oD,I3,ow,oX,d3,z3,c3,o3,S3,w3⟩;have wb:=pV c3 I3 d3 o3;rcases turn i n ys gX H3 w3 with⟨stop,q⟩|⟨go,hz,step⟩
  ·refine cF (T.done (d4 X pins scope N' cl C s H fp) rfl rfl rfl rfl i _ s3 _ H3 _ wb (qz oX) ow stop) λr s4 ⟨hr,I4⟩=>?_;subst hr;have o4:=(I4.pin (D,oD) (by simp)).1;have J4:Inv X pins Z H3 s4:=I.IV hf I4;have Aq:B9 X pins H3 D:=by
    refine⟨d3,bS (by rw[<- eD];exact I.lt),I.vT (by omega),.inr (by have:=I.sz;omega),λx c q=>?_,λp hp=>?_⟩
    ·obtain⟨v,o,e,_⟩:=I.cell x c q;exact mn c o e
    ·exact mn _ _ (I.pin p hp).1
   obtain⟨mC,zx,_⟩:=I4.loc;exact zV D C s4 (upd H3 D (qS X D (ST.i6 [] ys))) mC (J4.QG Aq (by have:=I.sz;omega) (IH (S3.at λo e=>by rw[o3] at e;cases e;exact o4))) (q D d3) zx (by rw[d6 uU.symm];exact I4.free) (by omega)
  ·refine cF (T.item (d4 X pins scope N' cl C s H fp) rfl rfl rfl rfl i _ s3 _ H3 _ wb (qz oX) ow go) λr s4 ⟨u,hr,h4⟩=>?_;subst hr;refine cF h4 λ_ s5 bq=>?_;obtain⟨x,H5,I5,r5,y5,mf,vb⟩:=bq;have o5:=I5.pin (D,oD) (by simp);have wa:=I5.pinned (qz vb) (T.obj _ _ mf);refine cF (hg C s H _ s5 _ H5 x u _ wa r5 (step x H5 y5)) λ_ s6 bq=>?_;obtain⟨kS,H6,I6,q6⟩:=bq;refine cF (ht C s H _ s6 kS H6 _ I6 q6) λok s7 ⟨H7,I7,q7⟩=>?_;have back:∀{tj:St} {H8:Hp} {s8:Shared},Inv (d4 X pins scope N' cl C s H fp) ([(D,oD)]++W5 fp s5.heap) tj H8 s8->(∀b∈fp,H8 b=none)/\tn (i+1) s8.heap/\H8 D=none/\s8.heap.get? D=some oD :=
    λ{tj H8 s8} I8=>by
     have pf:∀b∈fp,∀o,s5.heap.get? b=some o->s8.heap.get? b=some o/\H8 b=none:=λb hb o e=>by
      have:=I8.pin (b,o) (br _ (br _ (O5 hb e)));exact⟨this.1,this.2.1⟩
     have pd:=I8.pin (D,oD) (by simp);refine⟨λb hb=>?_,T.keep _ _ _ mf λb hb o e=>(pf b hb o e).1,pd.2.1,pd.1⟩;obtain⟨o,e,_⟩:=T.obj _ _ mf b hb;exact(pf b hb o e).2
   cases ok with
   |false =>
    obtain⟨m',hm,w7⟩:=q7;obtain⟨b1,b2,b3,b4⟩:=back I7;exact⟨m',hm,i+1,ys,kS,H7,oD,I7.K2 λp hp=>absurd hp (by simp),b2,b1,b3,z3,c3,b4,S3.at λo e=>by rw[o3] at e;cases e;exact b4,w7⟩
   |true =>
    refine cF (he C s H _ s7 kS H7 _ I7 q7) λxv s8 bq=>?_;obtain⟨y,H8,I8,r8,kk,ey,m',hm,w8⟩:=bq;subst ey;obtain⟨tk,rfl⟩:=r8;obtain⟨b1,b2,b3,b4⟩:=back I8;have S8:ST.q8 X.prog X.w s8.heap D (ST.i6 [] ys):=S3.at λo e=>by rw[o3] at e;cases e;exact b4
    have yX:=ST.L4 ys [];simp only[List.length_nil] at yX;refine ST.Zx S8 (ay (by omega:_<62) (by decide)) λh' sb S9=>?_;have e9:ST.C6 (ST.i6 [] ys) kk=ST.i6 [] (ys++[kk]):=by unfold ST.i6;rw[List.foldl_append];rfl
    rw[e9] at S9;obtain⟨o9,es9,ep9,t9,g9,x9,d9,r9⟩:=id S9;have c9:Cw o9:=λv z=>by rw[d9] at z;cases z
    have Di:Inv (d4 X pins scope N' cl C s H fp) [] kS H8 s8:=I8.K2 λp hp=>absurd hp (by simp);obtain⟨f0,f1,f2,f3,f4,f5⟩:=fD (H':=H8) b3;have kp:∀b o,b≠D->s8.heap.get? b=some o->h'.get? b=some o:=λb' u hb hu=>by rw[sb.2 b' hb];exact hu
    refine⟨m',hm,i+1,ys++[kk],kS,H8,o9,Di.turned (it:=D) (t':=s8.toks+1) kp f0 f1 f3 f4 f5,T.keep _ _ _ b2 λb hb o e=>kp b o (λz=>uT (by rw[<- z];exact hb)) e,b1,b3,?_,c9,g9,S9,w8⟩;rw[aZ,ir];omega
 exact Yz (loop _ rfl) (T.self _ 0 _ _ _ tF (loop _ rfl))
theorem a32{elt tg iter:Expr}{ifs:List Expr}{scope:Scope}{N':List Str}{c8:List Nat}{cl:List (Str×Addr)}{pos:Pos}{wi:TI}{g:TG}{tc:TT}{te:TE}(S:da X scope N' c8 cl)(hc:X.calm=true)(hi:PI X tg iter wi)(hg:∀pins C s H fp,PG (d4 X pins scope N' cl C s H fp) tg g)(ht:∀pins C s H fp,kO (d4 X pins scope N' cl C s H fp) ifs tc)(he:∀pins C s H fp,PE (d4 X pins scope N' cl C s H fp) elt te)(hs:∀x,foldedSetIterable iter X.env x=pure x):PE X (.SetComp elt [⟨tg,iter,ifs,0⟩] scope pos) (QD X wi c8 N'.length g tc te):=by
 intro pins s Z H Q I h;rw[arm_eval_SetComp];refine ik (use:=none) rfl hs S.qJ S.kind S.names (cF (hi pins s Z H _ I h) λxv bV dw=>cF dw λui fT iD=>?_);obtain⟨it,fp,tn,J,H2,e,I2,T,kn,f2,W,⟨m0,w0⟩,turn⟩:=iD;subst e;refine Ze (RR:=λacc C=>compPost (model X.prog X.w) X.A X.xe none (EP X pins Z Q) acc C) S hc (λC s H=>hg pins C s H fp) (λC s H=>ht pins C s H fp) (λC s H=>he pins C s H fp) I2 T kn f2 w0 turn ?_;intro D C s' H' m I' q hn hC hsz;exact⟨m,hn,λh' sb=>⟨.ref D,H',I'.Ce hsz I2 hC sb,rfl,q⟩⟩
end
end L2

namespace HT
open PySem PyProof.Rows Builtin
theorem Wx:fillsNumberSlot (.type "tuple") "mul"=pure false :=
 PySem.fillsNumberSlot_seq (id:="tuple.__mul__") (r:=some (.builtin "tuple.__rmul__")) pG.lookup (by decide +kernel) F.slot_tuple_rmul.lookup (by decide +kernel)
theorem V':seqRepeat? (.type "tuple")=pure (some (.builtin "tuple.__mul__")):=by
 unfold seqRepeat?;rw[PySem.seqSlot_of (T:="tuple") (name:="__mul__") (id:="tuple.__mul__") pG.lookup (by decide +kernel),PySem.seqSlot_of (T:="tuple") (name:="__rmul__") (id:="tuple.__rmul__") F.slot_tuple_rmul.lookup (by decide +kernel)]
 rfl
theorem Wt(a:Int)(t:Tok)(l:Addr)(items:Array Value)(n:Nat)(dd:Option Addr)(sl:Array (Option Value)) :
  Meets (Builtin.«int.__rmul__» ⟨[.int a t,.ref l],[]⟩) (λ_ R s=>s.heap.get? l=some { cls:=.type "tuple",dict:=dd,data:=.seq items n,slots:=sl }/\R (.ok (.ret Value.notImplemented)) s) :=
 .of_wp λprog w A R s h=>by obtain⟨hp,g,d,tk,os⟩:=s;obtain⟨hl,h⟩:=h;wp_walk;exact⟨_,rfl,h⟩
theorem Wv(t:Value)(c:Value):Builtin.«tuple.__mul__» ⟨[t,c],[]⟩=(do
 let n <- asIndex c
 if n < -(2 ^ 63)||n>=2 ^ 63 then
  rule "tuple.repeat.overflow";raiseError "OverflowError" s!"cannot fit '{<- typeNameOf c}' into an index-sized integer"
 let xs <- Builtin.Tuple.tupleItemsOf t
 if xs.isEmpty||n==1 then
  if <- Builtin.Tuple.tupleIsExact t then rule "tuple.repeat.same-object";return <- ret t
 if n<=0||xs.isEmpty then return <- ret (<- Builtin.Tuple.tupleExact #[])
 if xs.size*n>(2 ^ 63-1) / 8 then rule "tuple.repeat.no-memory";raiseNew (<- newExc (.type "MemoryError") [])
 if Builtin.Tuple.tupleTooMany (xs.size*n) then unsupported "tuple.__mul__:memory"
 ret (<- Builtin.Tuple.tupleExact ((List.replicate n.toNat xs).foldl (· ++ ·) #[]))):=rfl
section
variable{prog:Program}{w:World}{A:Around}{E:Value->Shared->Prop}{s:Shared}
theorem Yf(aX:List Value):∀(m:Nat) (acc:Array Value),List.foldl (λx1 x2=>x1++x2) acc (List.replicate m aX.toArray)=acc++(List.replicate m aX).flatten.toArray:=by
 intro m
 induction m with
 |zero=>intro acc;simp
 |succ m ih=>intro acc;rw[bX,lV,ih,bX,cS];simp
theorem XS{a:Addr}{aX:List Value}{n:Int}{t:Tok}{Q:Value->Shared->Prop}(ht:IsTup s.heap a aX.toArray)(dG:aX≠[])(h1:1<=n)(h2:n<2 ^ 62)(hz:aX.length*n.toNat<=sizeLine)(q1:n=1->Q (.ref a) s)(q2:Q (.ref s.heap.objs.size) { s with heap:=s.heap.push { cls:=.type "tuple",data:=.seq (List.replicate n.toNat aX).flatten.toArray } }):wpAny (model prog w) A (binaryOp .Mult (.ref a) (.int n t)) Q E s:=by
 obtain⟨o,ho,hc,k,hd⟩:=id ht;obtain⟨cls,dict,data,slots⟩:=o;dsimp only at hc hd;subst hc hd;have he:aX.toArray.isEmpty=false:=by cases aX<;>first|exact absurd rfl dG|rfl
 refine Dn (T:="tuple") (U:="int") (by decide) ht.typeIs (λs'=>lS s' n t) Wx F.fills_int_mul jA V' F.slot_int_index.lookup
  (eZ jA (lS s n t) F.entry_int_rmul (F.args_int_rmul_2 _ _) (Wt n t a aX.toArray k dict slots) ⟨ho,rfl,ht.typeIs,?_⟩)
 refine cH pG ht.typeIs F.entry_tuple_mul ?_ (F.args_tuple_mul_2 _ _);rw[Wv];refine ae (ei (show asIndex (.int n t)=pure n from rfl) ?_);dsimp only;rw[aC (by simp only[Bool.or_eq_true,decide_eq_true_eq];omega)];refine ae (tupleItemsOf_ ht ?_);have big:¬((aX.toArray.size:Int)*n>(2 ^ 63-1) / 8):=by
  rw[aH];have:((aX.length*n.toNat:Nat):Int)=(aX.length:Int)*n:=by rw[Int.natCast_mul];rw[show((n.toNat:Nat):Int)=n by omega]
  rw[<- this];have hs:sizeLine<2 ^ 59:=by decide
  omega
 have many:¬(Builtin.Tuple.tupleTooMany ((aX.toArray.size:Int)*n)=true):=by
  unfold Builtin.Tuple.tupleTooMany;rw[aH,dh];have:((aX.length*n.toNat:Nat):Int)=(aX.length:Int)*n:=by rw[Int.natCast_mul];rw[show((n.toNat:Nat):Int)=n by omega]
  rw[<- this];omega
 have hsz:sizeOk (.seq (List.replicate n.toNat aX).flatten.toArray):=by
  show(List.replicate n.toNat aX).flatten.toArray.size<=sizeLine;simp only[List.size_toArray,List.length_flatten,List.map_replicate,List.sum_replicate_nat];rw[sU];exact hz
 by_cases e1:n=1
 ·subst e1;rw[aK (by rw[he];rfl)];unfold Builtin.Tuple.tupleIsExact;refine ae (ae (eJ ht.typeIs (au ?_)));rw[aK (by decide)]
  first
   |exact ae (fM (ae (au ⟨_,rfl,au (q1 rfl)⟩)))
   |exact ae (fM (au ⟨_,rfl,(q1 rfl)⟩))
   |exact ae (fM (au ⟨_,rfl,au (q1 rfl)⟩))
 ·rw[aC (by rw[he];simpa using e1)];rw[aC (by rw[he];simp;omega),aC big,aC many];rw[show List.foldl (λx1 x2=>x1++x2) #[] (List.replicate n.toNat aX.toArray)=(List.replicate n.toNat aX).flatten.toArray by rw[Yf];simp]
  first
   |exact ae (m:=Builtin.Tuple.tupleExact _) (cg (au ⟨_,rfl,q2⟩) hsz)
   |exact ae (m:=Builtin.Tuple.tupleExact _) (cg (au ⟨_,rfl,au q2⟩) hsz)
end
end HT
namespace L2
open PySem PySem.Spec PyProof.Rows
section
variable{X:Cx}
def VX(K:PySem.W.Frag):R2:=λx y H Q=>∃(a:Addr) (n:Int) (xs:List V),x=.ref a/\y=.int n/\hU K H a xs/\xs≠[]/\1<=n/\n<2 ^ 62/\xs.length*n.toNat<=sizeLine /\
 (n=1->Q (.ref a) H)/\(∀p,H p=none->Q (.ref p) (upd H p (.tup (List.replicate n.toNat xs).flatten)))
theorem RD:fq X (binaryOp .Mult) (VX X.K):=by
 intro pins s Z H x y v u Q I rx ry h;obtain⟨a,n,xs,rfl,rfl,ha,dG,h1,h2,hz,q1,q2⟩:=h;cases rx;obtain⟨tk,rfl⟩:=ry;obtain⟨aX,r,p,_⟩:=I.tuple ha;refine HT.XS p (λz=>dG (r.P7.mp z)) h1 h2 (by rw[<- r.length];exact hz) (λe=>⟨.ref a,H,I,rfl,q1 e⟩) ?_;refine⟨.ref s.heap.objs.size,_,I.laid (t':=s.toks) (o:=.tup (List.replicate n.toNat xs).flatten) (λb ob q=>av _ q) (aw _) ?_,rfl,q2 _ (I.bK.fresh (aw _))⟩;exact⟨by rw[len_rep,sU];exact hz,_,r.rep _,J6.new _ _⟩
def Ro(sep:Str)(ys:List Str):Nat:=ys.foldl (λn y=>n+y.length+sep.length) 0
end
end L2

namespace HT
open PySem PyProof.Rows Builtin PySem.SeqAt
section
variable{prog:Program}{w:World}{A:Around}{E:Value->Shared->Prop}{s:Shared}
theorem Xp:typeLookup (.type "tuple") (dunderI "add")=pure none:=by
 show typeLookup (.type "tuple") "__iadd__"=pure none;rw[jz,fH];kernel_rfl
theorem ZJ{t b:Addr}{vs ws:List Value}{Q:Value->Shared->Prop}(ht:IsTup s.heap t vs.toArray)(hb:IsTup s.heap b ws.toArray)(h0:vs=[]->Q (.ref b) s)(h1:ws=[]->Q (.ref t) s)(h2:Q (.ref s.heap.objs.size) { s with heap:=s.heap.push { cls:=.type "tuple",data:=.seq (vs++ws).toArray } })(hsz:vs.length+ws.length<=sizeLine):wpAny (model prog w) A (inplaceOp .Add (.ref t) (.ref b)) Q E s:=by
 obtain⟨⟨cls,dd,data,sl⟩,ho,hc,n,hd⟩:=id ht;obtain⟨⟨vn,oZ,data2,kE⟩,ky,mL,n2,hd2⟩:=id hb;simp only at hc hd mL hd2;subst hc hd mL hd2;have e:vs.toArray++ws.toArray=(vs++ws).toArray:=by simp
 refine wpAny_inplaceOp_concat (T:="tuple") ⟨_,ho,rfl⟩ ⟨_,ky,rfl⟩ Xp iQ lC ?_;by_cases hv:vs=[]
 ·subst hv;exact eZ pH ⟨_,ho,rfl⟩ nE (lW _ _) (tuple_addW0 t b #[] ws.toArray n n2 dd oZ sl kE rfl) ⟨ho,ky,h0 rfl⟩
 by_cases hw:ws=[]
 ·exact eZ pH ⟨_,ho,rfl⟩ nE (lW _ _) (tuple_addW1 t b vs.toArray ws.toArray n n2 dd oZ sl kE (by simpa using hv) (by simp[hw])) ⟨ho,ky,h1 hw⟩
 ·refine eZ pH ⟨_,ho,rfl⟩ nE (lW _ _) (tuple_addW2 t b vs.toArray ws.toArray n n2 dd oZ sl kE (by simpa using hv) (by simpa using hw) (by rw[aH,aH];exact hsz)) ⟨ho,ky,?_⟩;rw[e];exact h2
end
end HT
namespace L2
open PySem PySem.Spec PyProof.Rows
section
variable{X:Cx}
def CQ(K:PySem.W.Frag)(H:Hp)(a:Addr)(xs:List V):Prop :=
 H a=some (.tup xs)\/∃(o:Obj) (aX:Array Value) (n:Nat),K.lookup a=some o/\o.cls=.type "tuple"/\o.dict=none/\o.data=.seq aX n/\aX.size<=sizeLine/\Vals xs aX.toList
theorem CQ.sq{K:PySem.W.Frag}{H:Hp}{a:Addr}{xs:List V}(h:CQ K H a xs):hU K H a xs:=by
 rcases h with h|⟨o,aX,n,h1,h2,_,h3,h4,h5⟩
 ·exact .inl (.inl h)
 ·exact .inr ⟨o,aX,n,h1,h2,h3,h4,h5⟩
def VW(K:PySem.W.Frag):V->V->Hp->VK->Prop:=λx y H Q=>(∃i j,x=.int i/\y=.int j/\Q (.int (i+j)) H) \/
 ∃a b xs ys,x=.ref a/\y=.ref b/\hU K H a xs/\hU K H b ys/\xs.length+ys.length<=sizeLine/\(xs=[]->Q (.ref b) H)/\(ys=[]->Q (.ref a) H)/\(∀p,H p=none->Q (.ref p) (upd H p (.tup (xs++ys))))
theorem Rh:Fo X .Add (VW X.K):=by
 rintro pins s Z H x y u v Q I rx ry h;rcases h with h|⟨a,b,xs,ys,rfl,rfl,ha,hb,hz,q0,q1,q2⟩
 ·exact Ol pins s Z H x y u v Q I rx ry h
 ·cases rx;cases ry;obtain⟨aX,r1,p1,_⟩:=I.tuple ha;obtain⟨mx,r2,p2,_⟩:=I.tuple hb;refine HT.ZJ p1 p2 (λz=>⟨.ref b,H,I,rfl,q0 (r1.P7.mp z)⟩) (λz=>⟨.ref a,H,I,rfl,q1 (r2.P7.mp z)⟩) ?_ (by rw[<- r1.length,<- r2.length];exact hz);refine⟨.ref s.heap.objs.size,_,I.laid (t':=s.toks) (o:=.tup (xs++ys)) (λb ob q=>av _ q) (aw _) ?_,rfl,q2 _ (I.bK.fresh (aw _))⟩;exact⟨by rw[aZ];exact hz,_,r1.append r2,J6.new _ _⟩
end
end L2

namespace ST
open PySem PyProof.Rows
def Spot(k:Int):Prop:=0<=k/\k<8
structure Own(mask:Nat)(owner:Array (Option Nat))(pre:List Int):Prop where
 sz:owner.size=mask+1
 fwd:∀(i:Nat) (k:Int),pre[i]?=some k->owner[k.toNat]?=some (some i)
 bwd:∀(j i:Nat),owner[j]?=some (some i)->pre[i]?=some (j:Int)
end ST

namespace ST
open PySem PyProof.Rows
section
variable{prog:Program}{w:World}{A:Around}{E:Value->Shared->Prop}{s:Shared}{a:Addr}
def SR(prog:Program)(w:World)(h:Heap)(a:Addr)(ks:List Int):Prop :=
 ∃o es ep t,h.get? a=some o/\o.ExactSet/\o.data=.set es ep t/\ElemsOf (intKind prog w) es.toList/\(es.toList.map λe=>toI e.2).Perm ks/\ks.Nodup/\es.size<scanBound/\t.fits es.size=true/\Well (Led w) t/\(ks=[]->7<=t.mask)
theorem q8.toV{h:Heap}{ks:List Int}(x:q8 prog w h a ks)(hn:ks≠[]):SR prog w h a ks:=by
 obtain⟨o,es,ep,t,h1,h2,h3,h4,h5,h6,h7,h8,h9⟩:=x;exact⟨o,es,ep,t,h1,h2,h3,h4,h5,h6,h7,h8,h9,λz=>absurd z hn⟩
theorem q8.same{h:Heap}{ks us:List Int}(x:q8 prog w h a ks)(hp:ks.Perm us):q8 prog w h a us:=by
 obtain⟨o,es,ep,t,h1,h2,h3,h4,h5,h6,h7⟩:=x;exact⟨o,es,ep,t,h1,h2,h3,h4,h5.trans hp,hp.nodup_iff.mp h6,h7⟩
theorem above:∀n,n<300->7<SetTable.sizeAbove n/\n<SetTable.sizeAbove n/\SetTable.sizeAbove n<=sizeLine:=by decide +kernel
end
end ST
namespace L2
open PySem PySem.Spec PyProof.Rows
variable{X:Cx}
end L2

namespace ST
open PySem PyProof.Rows
section
variable{prog:Program}{w:World}{A:Around}{E:Value->Shared->Prop}{s:Shared}{a:Addr}{ep:Nat}{K:Type}[DecidableEq K]{knd:PySem.KeyKind prog w K}{kvs:List (K×Value)}
end
end ST
namespace L2
open PySem PySem.Spec PyProof.Rows
section
variable{X:Cx}
end
end L2

namespace L2
open PySem PySem.Spec PyProof.Rows
section
variable{X:Cx}
theorem V7{aX:List Value}{ns:List Int}(hi:IntsAre aX ns):∃xs,aX.toArray=intItems xs/\ns=xs.toList.map (·.1):=by
 obtain⟨xs,e⟩:=hi.allInts.items;exact⟨xs,e,by rw[<- hi.numsOf,<- nums_intItems,<- e]⟩
theorem WT(hc:X.calm=true):l9 X (.builtin "sum") (λxs H Q=>∃a,∃ns:List Int,xs=[.ref a]/\fB X.K H a (ns.map V.int)/\Q (.int ns.sum) H):=by
 intro pins s Z H xs us Q I r h;obtain⟨a,ns,rfl,ha,q⟩:=h;obtain⟨u,rfl,ru⟩:=vals1 r;cases ru;obtain⟨aX,rv,p,hz⟩:=I.list ha;obtain⟨xs,e,en⟩:=V7 (L1 rv);refine sum_intListG (xs:=xs) (I.ok.hd hc) (by rw[<- e];exact p.isList) λh' tk t' k=>⟨.int ns.sum,H,I.kept k,⟨t',?_⟩,q⟩
 rw[preSum_eq,gT (by simp),en]
theorem WQ(hc:X.calm=true):l9 X (.builtin "max") (λxs H Q=>∃a,∃(ns:List Int) (M:Int),xs=[.ref a]/\fB X.K H a (ns.map V.int)/\M∈ns/\(∀x∈ns,x<=M)/\Q (.int M) H):=by
 intro pins s Z H xs us Q I r h;obtain⟨a,ns,M,rfl,ha,hm,hM,q⟩:=h;obtain⟨u,rfl,ru⟩:=vals1 r;cases ru;obtain⟨aX,rv,p,hz⟩:=I.list ha;obtain⟨xs,e,en⟩:=V7 (L1 rv);have hsz:0<xs.size:=by
  have:=eT hm;rw[en,ak,bB] at this;exact this
 refine max_intList (xs:=xs) (I.ok.hd hc) (by rw[<- e];exact p.isList) hsz λv h' tk hv k=>?_;obtain⟨t,rfl⟩:=intItems_at hv;obtain⟨h1,h2⟩:=argBest_gt (numAt xs) (xs.size-1);generalize argBest (λi j=>decide (numAt xs i>numAt xs j)) (xs.size-1)=j0 at *;have m1:numAt xs j0∈ns:=by rw[en,numAt_eq];exact getD_mem (by rw[ak,bB];omega)
 have m2:M<=numAt xs j0:=by
  rw[en] at hm;obtain⟨j,hj,rfl⟩:=mem_getD hm;rw[ak,bB] at hj;rw[<- numAt_eq];exact h2 j (by omega)
 have e2:numAt xs j0=M:=Int.le_antisymm (hM _ m1) m2;exact⟨.int M,H,I.kept k,⟨t,by rw[e2]⟩,q⟩
theorem WS(hc:X.calm=true):l9 X (.builtin "min") (λxs H Q=>∃a,∃(ns:List Int) (M:Int),xs=[.ref a]/\fB X.K H a (ns.map V.int)/\M∈ns/\(∀x∈ns,M<=x)/\Q (.int M) H):=by
 intro pins s Z H xs us Q I r h;obtain⟨a,ns,M,rfl,ha,hm,hM,q⟩:=h;obtain⟨u,rfl,ru⟩:=vals1 r;cases ru;obtain⟨aX,rv,p,hz⟩:=I.list ha;obtain⟨xs,e,en⟩:=V7 (L1 rv);have hsz:0<xs.size:=by
  have:=eT hm;rw[en,ak,bB] at this;exact this
 refine min_intList (xs:=xs) (I.ok.hd hc) (by rw[<- e];exact p.isList) hsz λv h' tk hv k=>?_;obtain⟨t,rfl⟩:=intItems_at hv;obtain⟨h1,h2⟩:=argBest_lt (numAt xs) (xs.size-1);generalize argBest (λi j=>decide (numAt xs i<numAt xs j)) (xs.size-1)=j0 at *;have m1:numAt xs j0∈ns:=by rw[en,numAt_eq];exact getD_mem (by rw[ak,bB];omega)
 have m2:numAt xs j0<=M:=by
  rw[en] at hm;obtain⟨j,hj,rfl⟩:=mem_getD hm;rw[ak,bB] at hj;rw[<- numAt_eq];exact h2 j (by omega)
 have e2:numAt xs j0=M:=Int.le_antisymm m2 (hM _ m1);exact⟨.int M,H,I.kept k,⟨t,by rw[e2]⟩,q⟩
theorem WM(hc:X.calm=true):l9 X (.builtin "all") (λxs H Q=>∃(a:Addr) (ns:List Int),xs=[.ref a]/\fB X.K H a (ns.map V.int)/\Q (.bl (ns.all λn=>n != 0)) H):=by
 intro pins s Z H xs us Q I r h;obtain⟨a,ns,rfl,ha,q⟩:=h;obtain⟨u,rfl,ru⟩:=vals1 r;cases ru;obtain⟨aX,rv,p,hz⟩:=I.list ha;refine call_all_walk ?_;refine hX p.isList ?_;have dG:a≠s.heap.objs.size:=by
  obtain⟨o,e,_⟩:=id p.isList;exact aN (aB e)
 have hl:=rv.length;rw[ak] at hl;refine⟨s.heap.objs.size,_,_,_,_,_,λi=>ns.getD i 1 != 0,rfl,Walks.list (A:=X.A.in1) (I.ok.hd hc) _ a dG aX.toArray,⟨⟨_,aG _ rfl,rfl,rfl⟩,?_⟩,?_,λh' tk k=>?_⟩
 ·obtain⟨o,e,q1⟩:=id p.isList;exact⟨o,av _ e,q1⟩
 ·intro i v s' Q' E' hP hQ;have hv:aX[i]?=some v:=by simpa using hP
  have hi:i<ns.length:=by rw[hl];exact(ao.mp hv).1
  obtain⟨u',uk,yN⟩:=rv.get (i:=i) (x:=V.int ns[i]) (by rw[ag,aj hi];rfl);rw[hv] at uk;cases uk;obtain⟨t,rfl⟩:=yN;refine truthy_int ?_;have:ns.getD i 1=ns[i]:=by simp[List.getD,hi]
  dsimp only at hQ;rw[this] at hQ;exact hQ
 ·have e1:(List.range aX.toArray.size).all (λi=>ns.getD i 1 != 0)=ns.all λn=>n != 0:=by
   rw[aH,<- hl];rw[aU];simp only[List.all_eq_true,List.mem_range];constructor
   ·intro hh x hx;obtain⟨i,hi,rfl⟩:=bD.mp hx;have:=hh i hi;simpa[List.getD,hi] using this
   ·intro hh i hi;have:=hh ns[i] (bT hi);simpa[List.getD,hi] using this
  rw[e1];exact ⟨.bl _,H,I.kept (t':=tk) λb o e=>k b o (by
   intro hb;have:b=s.heap.objs.size:=by simpa using hb
   exact absurd (aB e) (by rw [this];exact bw _)) (av _ e),rfl,q⟩
theorem Wd:l9 X (.builtin "len") (λxs H Q=>∃a,∃ks:List Int,xs=[.ref a]/\H a=some (qS X a ks)/\Q (.int ks.length) H):=by
 intro pins s Z H xs us Q I r h;obtain⟨a,ks,rfl,ha,q⟩:=h;obtain⟨u,rfl,ru⟩:=vals1 r;cases ru;have hS:ST.q8 X.prog X.w s.heap a ks:=(I.bK a _ ha).1;obtain⟨o,es,ep,t,e,ex,ed,_,hp,nd,hz,hf,_⟩:=hS;have hl:es.size=ks.length:=by have:=hp.length_eq;simpa using this
 refine call_len_set e ex ed hf (by have:scanBound<2 ^ 62:=(by decide);omega) ⟨.int ks.length,H,I.tok _,⟨_,by rw[hl]⟩,q⟩
end
end L2

namespace L2
open PySem PySem.Spec PyProof.Rows
section
variable{X:Cx}
theorem RO{i:Int}{j:Nat}{p pos:Pos}(mJ:PySem.W.kdsCode X.K X.env.code=true):PE X (.Set [.Constant (.int i) j p] 0 pos) (λZ H Q=>∀q,H q=none->Q (.ref q) (upd H q (.set (λk=>decide (k=i)) 1))):=by
 intro pins s Z H Q I h;rw[arm_eval_Set];refine ae (dM ?_);refine ae (PySem.W.kds_main I.gs mJ λb=>?_);rw[PySem.W.kds_star _ (by rfl),cb];refine PySem.W.kds_core (ts:=(evalEach [Expr.Constant (.int i) j p] X.env).map λt=>do let v <- t;standAt pos;pure v) (by rfl) (by rfl) (by show 1<=30;decide) (by rw[cb];rfl) λled=>?_;refine PySem.W.kds_all pos _ _ _ ?_;show wpAny _ _ (eval (.Constant (.int i) j p) X.env) _ _ _;refine wpAny_Constant_int ?_;refine PySem.W.kds_fill_cons ?_;have Mh:(s.heap.push { cls:=.type "set",dict:=none,data:=.set #[] 0 (.fresh 0 0 led) }).SetOf (intKind X.prog X.w) s.heap.objs.size (λ_=>false) 0:=(setObjOf_fresh led).setOf (aG _ rfl) (by decide);unfold setAdd;refine cz (ae ((intKind X.prog X.w).pyHash (k:=i) (fN _ _ _ _) ?_));refine wpAny_setAddHashed_of (knd:=intKind X.prog X.w) (fN _ _ _ _) rfl Mh (by decide) λh' zj mM=>?_;refine PySem.W.kds_fill_nil (by rfl) ?_;have kp:∀b u,s.heap.get? b=some u->h'.get? b=some u:=λb u e=>(zj.2 b (aN (aB e))).trans (av _ e);exact⟨.ref s.heap.objs.size,_,I.laid (a:=s.heap.objs.size) (o:=.set (λk=>decide (k=i)) 1) kp (aw _) (by show Heap.SetOf _ _ _ _ _;simpa using mM),rfl,h _ (I.bK.fresh (aw _))⟩
theorem Xr:fq X (compareOp .In) (λx y H Q=>∃i a S n,x=.int i/\y=.ref a/\H a=some (.set S n)/\Q (.bl (S i)) H):=by
 intro pins s Z H x y v u Q I rx ry h;obtain⟨i,a,S,n,rfl,rfl,ha,q⟩:=h;obtain⟨t,rfl⟩:=rx;cases ry;exact wpAny_inSet_of (knd:=intKind X.prog X.w) (k:=i) (fN _ _ _ _) rfl (I.bK a _ ha) ⟨.bl (S i),H,I.tok _,rfl,q⟩
theorem Zu:fq X (compareOp .NotIn) (λx y H Q=>∃i a S n,x=.int i/\y=.ref a/\H a=some (.set S n)/\Q (.bl (!S i)) H):=by
 intro pins s Z H x y v u Q I rx ry h;obtain⟨i,a,S,n,rfl,rfl,ha,q⟩:=h;obtain⟨t,rfl⟩:=rx;cases ry;exact wpAny_notInSet_of (knd:=intKind X.prog X.w) (k:=i) (fN _ _ _ _) rfl (I.bK a _ ha) ⟨.bl (!S i),H,I.tok _,rfl,q⟩
theorem Yt:mZ X "set.add" (λx xs H Q=>∃a i S n,x=.ref a/\xs=[.int i]/\H a=some (.set S n)/\n+1<4096/\Q .bC (upd H a (.set (λk=>S k||decide (k=i)) (if S i then n else n+1)))):=by
 intro pins s Z H x vs v us Q I rx rv h;obtain⟨a,i,S,n,rfl,rfl,ha,hn,q⟩:=h;cases rx;obtain⟨u,rfl,t,rfl⟩:=rv.one;refine call_set_add (knd:=intKind X.prog X.w) (k:=i) (fN _ _ _ _) rfl (I.bK a _ ha) (show n+1<scanBound from hn) λh' zj mM=>?_;obtain⟨o,es,ep,tb,ho,_⟩:=id mM;exact⟨.bC,_,I.write (x:=a) (e:=a) (o:=.set (λk=>S k||decide (k=i)) (if S i then n else n+1)) (by rw[ha];trivial) (.inl rfl) (λb u hb e=>(zj.2 b hb).trans e) ⟨o,ho⟩ mM,rfl,q⟩
def De(K:PySem.W.Frag)(a:Addr)(n:Nat):It :=
 ⟨λi H=>∃xs x,fB K H a xs/\xs.length=n/\i<n/\xs[n-1-i]?=some x,λi H x H'=>H'=H/\∀xs,fB K H a xs->xs[n-1-i]?=some x,λi H=>n<=i⟩
theorem WC{P:Program}{w:World}{K:PySem.W.Frag}{tg:Expr}(a it:Addr)(n:Nat):Turn P w K tg (De K a n) [it] it (λi h=>i<=n/\h.IsRevIter it a ((n:Int)-1-(i:Nat))) where
 mem:=by simp
 obj:=λi h st b hb=>by
  have e:b=it:=by simpa using hb
  subst e;obtain⟨o,e,c,d⟩:=st.2;exact⟨o,e,λv z=>by rw[d] at z;cases z⟩
 keep:=λi h h' st k=>⟨st.1,st.2.at λo e=>k it (by simp) o e⟩
 item:=by
  intro X hP hw hK hc i pins s Z H E I hf st hg;subst hP hw hK;obtain⟨xs,x,hq,hn,hi,hx⟩:=hg;obtain⟨aX,rv,p,hz⟩:=I.list hq;obtain⟨u,hu,ru⟩:=rv.get hx;obtain⟨f0,f1,f2,f3,f4,f5⟩:=hf it (by simp);have kn:=st.2;rw[show(n:Int)-1-(i:Nat)=((n-1-i:Nat):Int) by omega] at kn;refine wpAny_pyNext_rev_item kn p.isList (x:=u) (by simpa using hu) λh' kX sb=>?_;have I1:Inv X pins Z H { s with heap:=h' }:=I.turned (t':=s.toks) (λb o hb e=>(sb.2 b hb).trans e) f0 f1 f3 f4 f5;obtain⟨o,e,c,d⟩:=id kX;refine⟨u,rfl,xr (s:={ s with heap:=h' }) e c d (by decide) ⟨x,H,I1,ru,⟨rfl,λys hy=>by rw[I.Bt hy hq];exact hx⟩,⟨by omega,?_⟩,λb hb=>(hf b hb).1⟩⟩;rw[show(n:Int)-1-((i+1:Nat):Int)=((n-1-i:Nat):Int)-1 by omega];exact kX
 done:=by
  intro X hP hw hK hc i pins s Z H E I hf st hg;subst hP hw hK;obtain⟨f0,f1,f2,f3,f4,f5⟩:=hf it (by simp);have kn:=st.2;have:n<=i:=hg;rw[show(n:Int)-1-(i:Nat)=-1 by have:=st.1;omega] at kn;exact wpAny_pyNext_rev_end (I.ok.hd hc) kn λh' eb=>⟨rfl,I.turned (t':=s.toks) (λb o hb e=>eb b o hb e) f0 f1 f3 f4 f5⟩
 self:=λ_ _ _ _ _ st h=>wpAny_pyIter_revIter st.2 h
theorem boot_reversed:bootBuiltins "reversed"=some (.type "reversed"):=by decide +kernel
theorem Pq{tg l:Expr}{ta:TA}{p pos:Pos}(hg:Gl X "reversed")(hm:X.mg "reversed"=none)(ha:PA X [l] ta)(hs:starEach [l] X.env=[(false,eval l X.env)]) :
  PI X tg (.Call (.Name "reversed" p) [l] [] pos) (λZ H R=>ta Z H λvs H1=>∃a xs,vs=[.ref a]/\fB X.K H1 a xs/\R (De X.K a xs.length) H1):=by
 intro pins s Z H R I h;refine Call_ (L0 I hg hm boot_reversed (bJ (cF (ha pos pins s Z H _ I h) λus s1 bq=>?_) hs rfl));obtain⟨vs,H1,I1,r1,q1⟩:=bq;obtain⟨a,xs,e,hq,q⟩:=q1;subst e;cases r1 with
 |cons r rr =>
  cases rr;cases r;obtain⟨aX,rv,p,hz⟩:=I1.list hq;refine call_reversed_list p.isList ?_;have hl:=rv.length;have hit:(s1.heap.push (revObj a ((aX.toArray.size:Int)-1))).IsRevIter s1.heap.objs.size a ((xs.length:Int)-1-((0:Nat):Int)):=⟨_,aG _ rfl,rfl,by simp[revObj,hl]⟩
  refine wpAny_pyIter_revIter hit ?_;refine⟨s1.heap.objs.size,[s1.heap.objs.size],_,_,H1,rfl,I1.kept (t':=s1.toks) λb o e=>av _ e,WC a _ xs.length,⟨cM _,hit⟩,λb hb=>?_,q⟩;have e:b=s1.heap.objs.size:=by simpa using hb
  subst e;exact I1.pj (aw _) (I1.bK.fresh (aw _))
end
end L2

namespace ST
open PySem PyProof.Rows
section
variable{prog:Program}{w:World}{A:Around}{E:Value->Shared->Prop}{s:Shared}{a:Addr}
end
end ST
namespace L2
open PySem PyProof.Rows
def Nz(ns:List Int):List Int:=ns.mergeSort (λa b=>decide (a<=b))
section
variable{X:Cx}
end
end L2

namespace M
open PySem L2
inductive D where
 |bC|bl (b:Bool)|int (i:Int)|str (x:Str)|ty (n:String)|ref (i:Nat)|tup (l:List D)
inductive O where
 |lst (l:List D)|nT (l:List D)
 |dN (kvs:List (Key×D))
 |ins (c:Str) (fs:List (Str×D))
 |set (S:Int->Bool) (n:Nat)
def O.mut:O->Bool
 |.nT _=>false
 |_=>true
def V6:D->Option Key
 |.int i=>some (.inl i)
 |.str x=>some (.inr x)
 |_=>none
def p6(kvs:List (Key×D))(k:Key):Option D:=(kvs.find? λkv=>decide (kv.1=k)).map (·.2)
def putD(kvs:List (Key×D))(k:Key)(v:D):List (Key×D) :=
 if(kvs.any λkv=>decide (kv.1=k))=true then kvs.map (λkv=>if kv.1=k then(kv.1,v) else kv) else kvs++[(k,v)]
def j6(f:Str)(v:D):List (Str×D)->List (Str×D)
 |[]=>[(f,v)]
 |(g,x)::r=>if g=f then(g,v)::r else(g,x)::j6 f v r
def M6:List D->Str->Option D
 |.tup [.str y,v]::r,x=>if x=y then some v else M6 r x
 |_::_,_=>none
 |[],_=>none
def U5:List D->Option Str
 |[]=>some Str.empty
 |.str x::r=>(U5 r).map λy=>x++y
 |_=>none
structure Xn where
 cls:Str
noncomputable abbrev G:=List O
noncomputable abbrev S:=List (Option D)
noncomputable abbrev KD:=D->G->Prop
noncomputable abbrev KX:=Xn->G->Prop
noncomputable abbrev iL:KX:=λ_ _=>False
def CG:Option O->Option (List D)
 |some (.lst l)=>some l
 |some (.nT l)=>some l
 |_=>none
noncomputable abbrev c7(g:G)(a:Nat):Option (List D):=CG g[a]?
def rd(g:G):Nat->D->Option PyData
 |_,.bC=>some .none
 |_,.bl b=>some (.bool b)
 |_,.int i=>some (.int i)
 |_,.str x=>some (.str x)
 |_,.ty _=>none
 |0,.ref _=>none
 |0,.tup _=>none
 |n+1,.ref a=>match c7 g a with
  |some l=>(l.mapM (rd g n)).map .list
  |none=>none
 |n+1,.tup l=>(l.mapM (rd g n)).map .tuple
def Ko(g:G)(l:List D):Option (List PyData):=l.mapM (rd g 6)
def J1(g:G):D->Option (List D)
 |.tup l=>some l
 |.ref a=>c7 g a
 |_=>none
def M7:D->Bool
 |.bC=>true
 |_=>false
def cut{α:Type}(xs:List α)(lo hi:Option Int):List α:=(xs.drop (HT.dg xs.length 0 lo)).take (HT.dg xs.length xs.length hi-HT.dg xs.length 0 lo)
def qQ(g:G)(x:D)(c:String):Option Bool:=match x with
 |.bC=>some (c=="NoneType")
 |.bl _=>some (c=="bool"||c=="int")
 |.int _=>some (c=="int")
 |.str _=>some (c=="str")
 |.tup _=>some (c=="tuple")
 |.ref a=>match g[a]? with
  |some (.lst _)=>some (c=="list")
  |_=>none
 |.ty _=>none
def i0(lo:Int)(n:Nat):List D:=(List.range n).map λ(k:Nat)=>.int (lo+k)
def U7:List D->Option Bool
 |[]=>some true
 |.bl b::r=>(U7 r).map λc=>b&&c
 |_=>none
inductive Pr where
 |bin (op:Operator)|un (op:UnaryOp)|cmp (op:CmpOp)
 |ix|kY (lo hi:Bool)|rev|tup|lst|og
 |len|list|tuple|isin|all|max|min|int|str|jd|jT|sset|Ki|vg
 |EU|uZ|mS|fv|ly|fld (f:Str)
 |append|pop|get|index|join|iadd|clear|yO|extend|any|tH|sum|Z9|my|jN|jM (i:Int)
noncomputable abbrev DR:=List D->G->D->G->Prop
def Wn:Operator->Int->Int->Int->Prop
 |.Add,i,j,r=>r=i+j
 |.Sub,i,j,r=>r=i-j
 |.Mult,i,j,r=>qL i j/\r=i*j
 |.FloorDiv,i,j,r=>CM i j/\r=i / j
 |.Mod,i,j,r=>0<j/\r=i % j
 |.Pow,i,j,r=>nW i j/\r=i ^ j.toNat
 |.LShift,i,j,r=>nW i j/\r=i*2 ^ j.toNat
 |.BitAnd,i,j,r=>r=Builtin.bitAnd i j
 |.BitOr,i,j,r=>r=Builtin.bitOr i j
 |_,_,_,_=>False
def Ta(op:Operator):DR:=λxs g d g' =>
 (∃i j r,xs=[.int i,.int j]/\Wn op i j r/\d=.int r/\g'=g) \/
 (op=.Add/\((∃ l m,xs=[.tup l,.tup m]/\l.length + m.length <= 100000/\d=.tup (l ++ m)/\g'=g) \/
  (∃a b l m,xs=[.ref a,.ref b]/\g[a]?=some (.lst l)/\g[b]?=some (.lst m)/\l.length+m.length<=100000/\d=.ref g.length/\g'=g++[.lst (l++m)]) \/
  (∃ x y,xs=[.str x,.str y]/\x.length + y.length <= 100000/\d=.str (x ++ y)/\g'=g))) \/
 (op=.Mult/\((∃ a l n,xs=[.ref a,.int n]/\g[a]?=some (.lst l)/\-(2 ^ 62) <= n/\n < 2 ^ 62/\l.length * n.toNat <= 100000/\d=.ref g.length/\g'=g ++ [.lst (List.replicate n.toNat l).flatten]) \/
  (∃ l n,xs=[.tup l,.int n]/\l ≠ []/\1 <= n/\n < 2 ^ 62/\l.length * n.toNat <= 100000/\d=.tup (List.replicate n.toNat l).flatten/\g'=g)))
def J'(op:UnaryOp):DR:=λxs g d g'=>op=.USub/\∃i,xs=[.int i]/\d=.int (-i)/\g'=g
def ve(g:G)(x y:D)(b:Bool):Prop :=
 (∃i j,x=.int i/\y=.int j/\b=decide (i=j))\/(∃i j,x=.bl i/\y=.bl j/\b=(i==j))\/(∃i j,x=.str i/\y=.str j/\b=decide (i=j)) \/
 ∃p q,rd g 6 x=some p/\rd g 6 y=some q/\p.canLay0=true/\q.canLay0=true/\b=PyData.eqv p q
def inR(g:G)(x y:D)(b:Bool):Prop :=
 (∃a kvs c,y=.ref a/\g[a]?=some (.dN kvs)/\V6 x=some c/\b=(p6 kvs c).isSome) \/
 ∃l ps p,J1 g y=some l/\Ko g l=some ps/\rd g 6 x=some p/\PyData.canLayAll0 ps=true/\p.canLay0=true/\b=(ps.any λq=>PyData.eqv q p)
def FE(g:G)(x y:D)(b:Bool):Prop:=∃a S n i,y=.ref a/\g[a]?=some (.set S n)/\x=.int i/\b=S i
def Fq(g:G)(x y:D)(b:Bool):CmpOp->Prop
 |.Eq=>ve g x y b
 |.NotEq=>ve g x y (!b)
 |.In=>inR g x y b\/FE g x y b
 |.NotIn=>inR g x y (!b)\/FE g x y (!b)
 |.Lt=>∃i j,x=.int i/\y=.int j/\b=decide (i<j)
 |.LtE=>∃i j,x=.int i/\y=.int j/\b=decide (i<=j)
 |.Gt=>∃i j,x=.int i/\y=.int j/\b=decide (j<i)
 |.GtE=>∃i j,x=.int i/\y=.int j/\b=decide (j<=i)
 |.Is=>y=.bC/\b=M7 x
 |.IsNot=>y=.bC/\b=!M7 x
def Tf(op:CmpOp):DR:=λxs g d g'=>∃x y b,xs=[x,y]/\Fq g x y b op/\d=.bl b/\g'=g
def FI(g:G)(x:D)(b:Bool):Prop :=
 (x=.bC/\b=false)\/x=.bl b\/(∃i,x=.int i/\b=(i != 0))\/(∃l,x=.tup l/\b=!l.isEmpty)\/∃a l,x=.ref a/\c7 g a=some l/\b=!l.isEmpty
def KO:DR:=λxs g d g'=>g'=g/\((∃x l i,xs=[x,.int i]/\J1 g x=some l/\fL l i=some d)\/(∃a kvs y c,xs=[.ref a,y]/\g[a]?=some (.dN kvs)/\V6 y=some c/\p6 kvs c=some d) \/
 ∃ x i c,xs=[.str x,.int i]/\x.length <= 100000/\fL x.cps.toList i=some c/\d=.str ⟨#[c]⟩)
def tK(x:D)(lo hi:Option Int)(g:G)(d:D)(g':G):Prop:=(∃l,x=.tup l/\d=.tup (cut l lo hi)/\g'=g)\/∃a l,x=.ref a/\c7 g a=some l/\d=.ref g.length/\g'=g++[.lst (cut l lo hi)]
def Uj:Bool->Bool->DR
 |false,false,xs,g,d,g'=>∃x,xs=[x]/\tK x none none g d g'
 |true,false,xs,g,d,g'=>∃x i,xs=[x,.int i]/\tK x (some i) none g d g'
 |false,true,xs,g,d,g'=>∃x j,xs=[x,.int j]/\tK x none (some j) g d g'
 |true,true,xs,g,d,g'=>∃x i j,xs=[x,.int i,.int j]/\tK x (some i) (some j) g d g'
def Ue:DR:=λxs g d g'=>(∃l,xs=[.tup l]/\d=.tup l.reverse/\g'=g)\/∃a l,xs=[.ref a]/\c7 g a=some l/\d=.ref g.length/\g'=g++[.lst l.reverse]
def UG:DR:=λxs g d g'=>xs.length<=1000/\d=.tup xs/\g'=g
def Tx:DR:=λxs g d g'=>xs.length<=1000/\d=.ref g.length/\g'=g++[.lst xs]
def vP:List D->List (Key×D)->Option (List (Key×D))
 |[],kvs=>some kvs
 |k::v::r,kvs=>(V6 k).bind λc=>vP r (putD kvs c v)
 |_,_=>none
def Va:DR:=λxs g d g'=>xs=[]/\d=.ref g.length/\g'=g++[.dN []]
def Tw:DR:=λxs g d g'=>g'=g/\((∃x l,xs=[x]/\J1 g x=some l/\d=.int l.length)\/(∃a kvs,xs=[.ref a]/\g[a]?=some (.dN kvs)/\d=.int kvs.length)\/∃x,xs=[.str x]/\x.length<=100000/\d=.int x.length)
def Vt:DR:=λxs g d g'=>∃x l,xs=[x]/\J1 g x=some l/\d=.ref g.length/\g'=g++[.lst l]
def QJ:DR:=λxs g d g'=>∃x l,xs=[x]/\J1 g x=some l/\d=.tup l/\g'=g
def Vk:DR:=λxs g d g'=>∃x c b,xs=[x,.ty c]/\c∈["int","bool","str","tuple","list"]/\qQ g x c=some b/\d=.bl b/\g'=g
def allR:DR:=λxs g d g'=>∃a l b,xs=[.ref a]/\c7 g a=some l/\(U7 l=some b\/∃ns:List Int,l=ns.map .int/\b=ns.all λn=>n != 0)/\d=.bl b/\g'=g
def FK:List D->Option Bool
 |[]=>some false
 |.bl b::r=>(FK r).map λc=>b||c
 |_=>none
def anyR:DR:=λxs g d g'=>∃a l b,xs=[.ref a]/\c7 g a=some l/\FK l=some b/\d=.bl b/\g'=g
def Qn:DR:=λxs g d g'=>False\/∃ns:List Int,xs=[.tup (ns.map .int)]/\ns.length<60/\d=.ref g.length/\g'=g++[.lst ((Nz ns).map .int)]
def Tz:DR:=λxs g d g'=>g'=g/\((∃i j,xs=[.int i,.int j]/\d=.int (if j>i then j else i))\/∃a,∃(ns:List Int) (M:Int),xs=[.ref a]/\c7 g a=some (ns.map .int)/\M∈ns/\(∀x∈ns,x<=M)/\d=.int M)
def TB:DR:=λxs g d g'=>g'=g/\((∃i j,xs=[.int i,.int j]/\d=.int (if j<i then j else i))\/∃a,∃(ns:List Int) (M:Int),xs=[.ref a]/\c7 g a=some (ns.map .int)/\M∈ns/\(∀x∈ns,M<=x)/\d=.int M)
def Nv:DR:=λxs g d g'=>∃a i S n,xs=[.ref a,.int i]/\g[a]?=some (.set S n)/\n+1<4096/\d=.bC/\g'=g.set a (.set (λk=>S k||decide (k=i)) (if S i then n else n+1))
def PV(i:Int):DR:=λxs g d g'=>xs=[]/\d=.ref g.length/\g'=g++[.set (λk=>decide (k=i)) 1]
def Ul:DR:=λxs g d g'=>∃a,∃ns:List Int,xs=[.ref a]/\c7 g a=some (ns.map .int)/\d=.int ns.sum/\g'=g
def Vu:DR:=λxs g d g'=>∃a,∃ns:List Int,xs=[.ref a]/\c7 g a=some (ns.map .int)/\ns.length<60/\d=.int (ST.i6 [] ns).length/\g'=g
def Vl:DR:=λxs g d g'=>∃i j,xs=[.int i,.int j]/\d=.int (i-j)/\g'=g
def Tu:DR:=λxs g d g'=>g'=g/\((∃i,xs=[.int i]/\d=.int i)\/∃b,xs=[.bl b]/\d=.int (if b then 1 else 0))
def Uk:DR:=λxs g d g'=>(∃i,xs=[.int i]/\i.natAbs.log2<1920/\d=.str (toString i)/\g'=g)\/∃x,xs=[.str x]/\d=.str x/\g'=g
def OE:DR:=λxs g d g'=>∃j,xs=[.int j]/\-(2 ^ 62)<=j/\j<=100000/\d=.ref g.length/\g'=g++[.lst (i0 0 j.toNat)]
def OF:DR:=λxs g d g'=>∃i j,xs=[.int i,.int j]/\(-(2 ^ 62)<=i/\i<2 ^ 62/\-(2 ^ 62)<=j/\j<2 ^ 62/\j-i<=100000)/\d=.ref g.length/\g'=g++[.lst (i0 i (j-i).toNat)]
def NA:DR:=λxs g d g'=>∃a ns,xs=[.ref a]/\c7 g a=some (ns.map .int)/\ns.length<60/\d=.ref g.length/\g'=g++[.lst ((m9 ns).map .int)]
def Um:DR:=λxs g d g'=>∃ns ms:List Int,xs=[.tup (ns.map .int),.tup (ms.map .int)]/\(∀k∈ns,ST.Spot k)/\(∀k∈ms,ST.Spot k)/\ns.length+ms.length<50/\d=.ref g.length/\g'=g++[.lst ((m9 (ns++ms)).map .int)]
def CV(neg:Bool):DR:=λxs g d g'=>∃kvs x,xs=[.tup kvs,.str x]/\d=.bl (xor neg (M6 kvs x).isSome)/\g'=g
def Ve:DR:=λxs g d g'=>∃kvs x,xs=[.tup kvs,.str x]/\M6 kvs x=some d/\g'=g
def MR:DR:=λxs g d g'=>g'=g/\((∃i,xs=[.int i]/\i.natAbs.log2<1920/\d=.str (toString i))\/∃x,xs=[.str x]/\x.length<=2000/\d=.str x)
def Vd:DR:=λxs g d g'=>∃x,U5 xs=some x/\d=.str x/\g'=g
def Tn(f:Str):DR:=λxs g d g'=>∃a c fs,xs=[.ref a]/\g[a]?=some (.ins c fs)/\fs.lookup f=some d/\g'=g
def appendR:DR:=λxs g d g'=>∃a y l,xs=[.ref a,y]/\g[a]?=some (.lst l)/\l.length<100000/\d=.bC/\g'=g.set a (.lst (l++[y]))
def TR:DR:=λxs g d g'=>∃a i l k,xs=[.ref a,.int i]/\g[a]?=some (.lst l)/\-(2 ^ 63)<=i/\i<2 ^ 63/\seqIndex? i l.length=some k/\l[k]?=some d/\g'=g.set a (.lst (l.eraseIdx k))
def Tq:DR:=λxs g d g'=>∃a y z kvs c,xs=[.ref a,y,z]/\g[a]?=some (.dN kvs)/\V6 y=some c/\d=(p6 kvs c).getD z/\g'=g
def Jh:D->Bool
 |.bC=>true
 |.bl _=>true
 |.int _=>true
 |.str _=>true
 |_=>false
def toV:D->V
 |.bl b=>.bl b
 |.int i=>.int i
 |.str x=>.str x
 |_=>.bC
def NY(l:List D)(y:D)(n:Nat):Prop:=l.all Jh=true/\Jh y=true/\(∃z,l[n]?=some z/\Fc (toV z) (toV y)=true)/\∀(m:Nat) z,m<n->l[m]?=some z->Fc (toV z) (toV y)=false
def Om:DR:=λxs g d g'=>∃x y l n,xs=[x,y]/\J1 g x=some l/\NY l y n/\l.length<=100000/\d=.int n/\g'=g
def joinR:DR:=λxs g d g'=>∃sep a ys,xs=[.str sep,.ref a]/\c7 g a=some (ys.map .str)/\Ro sep ys<=100000/\d=.str (Builtin.Str.glued sep ys)/\g'=g
def Vi:DR:=λxs g d g'=>(∃i j,xs=[.int i,.int j]/\d=.int (i+j)/\g'=g)\/∃l m,xs=[.tup l,.tup m]/\l.length+m.length<=100000/\d=.tup (l++m)/\g'=g
def Od:DR:=λxs g d g'=>∃a l,xs=[.ref a]/\g[a]?=some (.lst l)/\d=.bC/\g'=g.set a (.lst [])
def VQ:DR:=λxs g d g'=>∃a l,xs=[.ref a]/\g[a]?=some (.lst (l++[d]))/\g'=g.set a (.lst l)
def Ra:DR:=λxs g d g'=>∃a b l m,xs=[.ref a,.ref b]/\g[a]?=some (.lst l)/\g[b]?=some (.lst m)/\l.length+m.length<=100000/\d=.bC/\g'=g.set a (.lst (l++m))
def Of:DR:=λxs g d g'=>∃a kvs,xs=[.ref a]/\g[a]?=some (.dN kvs)/\d=.ref g.length/\g'=g++[.dN kvs]
def PR:Pr->DR
 |.clear=>Od
 |.any=>anyR
 |.sum=>Ul
 |.jN=>Nv
 |.jM i=>PV i
 |.Z9=>Vu
 |.my=>Vl
 |.tH=>Qn
 |.extend=>Ra
 |.yO=>VQ
 |.vg=>Of
 |.bin op=>Ta op
 |.un op=>J' op
 |.cmp op=>Tf op
 |.ix=>KO
 |.kY a b=>Uj a b
 |.rev=>Ue
 |.tup=>UG
 |.lst=>Tx
 |.og=>Va
 |.len=>Tw
 |.list=>Vt
 |.tuple=>QJ
 |.isin=>Vk
 |.all=>allR
 |.max=>Tz
 |.min=>TB
 |.int=>Tu
 |.str=>Uk
 |.jd=>OE
 |.jT=>OF
 |.sset=>NA
 |.Ki=>Um
 |.EU=>CV false
 |.uZ=>CV true
 |.mS=>Ve
 |.fv=>MR
 |.ly=>Vd
 |.fld f=>Tn f
 |.append=>appendR
 |.pop=>TR
 |.get=>Tq
 |.index=>Om
 |.join=>joinR
 |.iadd=>Vi
def cG(p:Pr)(xs:List D)(g:G)(Q:KD):Prop:=∃d g',PR p xs g d g'/\Q d g'
def rX(g:G)(x y:D)(k:Bool->Prop):Prop:=∃b,ve g x y b/\k b
def pZ(g:G)(x y:D)(k:Bool->Prop):Prop:=∃b,inR g x y b/\k b
def pz(g:G)(x:D)(k:Bool->Prop):Prop:=∃b,FI g x b/\k b
def Ui(x y v:D)(g g':G):Prop:=(∃a i l j,x=.ref a/\y=.int i/\g[a]?=some (.lst l)/\kr l.length i=some j/\g'=g.set a (.lst (l.set j v))) \/
 ∃a kvs c,x=.ref a/\g[a]?=some (.dN kvs)/\V6 y=some c/\kvs.length<100000/\g'=g.set a (.dN (putD kvs c v))
def U9(x y v:D)(g:G)(k:G->Prop):Prop:=∃g',Ui x y v g g'/\k g'
def Js(f:Str)(cs:List Str)(x v:D)(g g':G):Prop:=∃a c fs,x=.ref a/\g[a]?=some (.ins c fs)/\c∈cs/\fs.length<100/\g'=g.set a (.ins c (j6 f v fs))
def vI(f:Str)(cs:List Str)(x v:D)(g:G)(k:G->Prop):Prop:=∃g',Js f cs x v g g'/\k g'
def lN:Pr->D->G->Prop
 |.get,x,g=>∃a kvs,x=.ref a/\g[a]?=some (.dN kvs)
 |.join,x,g=>∃y,x=.str y
 |.jN,x,g=>∃a S n,x=.ref a/\g[a]?=some (.set S n)
 |.index,x,g=>(∃l,x=.tup l)\/∃a l,x=.ref a/\c7 g a=some l
 |_,x,g=>∃a l,x=.ref a/\c7 g a=some l
inductive IK where
 |fix (l:List D)|lst (a:Nat)|nU (a:Nat)|rC (a n:Nat)
def IK.at:IK->Nat->G->Option (Option D)
 |.fix l,i,_=>some l[i]?
 |.lst a,i,g=>match c7 g a with
  |some l=>some l[i]?
  |none=>none
 |.nU a,i,g=>match c7 g a with
  |some l=>some (l[i]?.map λd=>.tup [.int i,d])
  |none=>none
 |.rC a n,i,g=>match c7 g a with
  |some l=>if l.length=n then some (if i<n then l[n-1-i]? else none) else none
  |none=>none
inductive MT where
 |one (i:Nat)|many (is:List Nat)
def C9:List Nat->List D->S->Option S
 |[],[],Z=>some Z
 |i::is,d::ds,Z=>C9 is ds (Z.set i (some d))
 |_,_,_=>none
def jb(t:MT)(x:D)(Z:S)(k:S->Prop):Prop:=match t with
 |.one i=>k (Z.set i (some x))
 |.many is=>∃l bN,x=.tup l/\C9 is l Z=some bN/\k bN
set_option genInjectivity false in
set_option genSizeOf false in
inductive ME where
 |var (i:Nat)|lit (d:D)
 |nil|cons (a b:ME)|prim (p:Pr) (es:ME)|eE (p:Pr) (o es:ME)|pb (es:ME)
 |chain (o1 o2:CmpOp) (a b c:ME)
 |dy (a b:ME)|jt (a b:ME)|eL (a:ME)|ite (c a b:ME)
 |call (f:Nat) (es:ME)|make (c:Str) (f:Nat) (es:ME)|jR (m:Str) (cs:List (Str×Nat)) (o es:ME)
 |comp (c8:List Nat) (n:Nat) (tg:MT) (it cond elt:ME)|gp (c8:List Nat) (n:Nat) (tg:MT) (it cond elt:ME)|jO (c8:List Nat) (n:Nat) (tg:MT) (it cond elt:ME)
 |eO (e:ME)|dS (a:ME)|iY (a b:ME)|ku (e:ME)|nr (e:ME)|fy (e:ME)|no
noncomputable abbrev fh:=Nat->List D->G->KD->KX->Prop
def C5(Z:S)(c8:List Nat)(n:Nat):S:=c8.map (λj=>(Z[j]?).join)++List.replicate (n-c8.length) none
def turns(k:IK)(Z:S)(g:G)(fin:S->G->Prop)(turn:D->(S->G->Prop)->S->G->Prop):Prop :=
 ∃W:Nat->Nat->S->G->Prop,(∃m,W 0 m Z g)/\∀i m Z g,W i m Z g->(k.at i g=some none/\fin Z g)\/∃x,k.at i g=some (some x)/\∃N2:S->G->Prop,(∀bN g',N2 bN g'->∃m',m'<m/\W (i+1) m' bN g')/\turn x N2 Z g
def xN(k:IK)(Z:S)(g:G)(fin:List D->G->Prop)(turn:D->(Option D->S->G->Prop)->S->G->Prop):Prop :=
 ∃W:Nat->Nat->List D->S->G->Prop,(∃m,W 0 m [] Z g)/\∀i m ys Z g,W i m ys Z g->(k.at i g=some none/\fin ys g) \/
  ∃x,k.at i g=some (some x)/\ys.length<100000/\turn x (λy bN g'=>∃m',m'<m/\W (i+1) m' (ys++y.toList) bN g') Z g
def AN(k:IK)(Z:S)(g:G)(fin:List Int->G->Prop)(turn:D->(Option Int->S->G->Prop)->S->G->Prop):Prop :=
 ∃W:Nat->Nat->List Int->S->G->Prop,(∃m,W 0 m [] Z g)/\∀i m ys Z g,W i m ys Z g->(k.at i g=some none/\ys.length<60/\fin ys g) \/
  ∃x,k.at i g=some (some x)/\ys.length<60/\turn x (λy bN g'=>∃m',m'<m/\W (i+1) m' (ys++y.toList) bN g') Z g
mutual
noncomputable def aO(P:fh):ME->S->G->KD->KX->Prop
 |.var i,Z,g,Q,_=>∃d,Z[i]?=some (some d)/\Q d g
 |.lit d,_,g,Q,_=>Q d g
 |.prim p es,Z,g,Q,E=>cZ P es Z g (λxs g1=>cG p xs g1 Q) E
 |.eE p o es,Z,g,Q,E=>aO P o Z g (λx g1=>lN p x g1/\cZ P es Z g1 (λxs g2=>cG p (x::xs) g2 Q) E) E
 |.pb es,Z,g,Q,E=>cZ P es Z (g++[.dN []]) (λxs g1=>∃kvs,vP xs []=some kvs/\xs.length<=30/\g1[g.length]?=some (.dN [])/\Q (.ref g.length) (g1.set g.length (.dN kvs))) E
 |.chain o1 o2 a b c,Z,g,Q,E=>aO P a Z g (λx g1=>aO P b Z g1 (λy g2=>cG (.cmp o1) [x,y] g2 λz g3=>∃t,z=.bl t/\if t=true then aO P c Z g3 (λw g4=>cG (.cmp o2) [y,w] g4 Q) E else Q (.bl false) g3) E) E
 |.dy a b,Z,g,Q,E=>aO P a Z g (λx g1=>∃t,x=.bl t/\if t=true then aO P b Z g1 Q E else Q (.bl false) g1) E
 |.jt a b,Z,g,Q,E=>aO P a Z g (λx g1=>∃t,x=.bl t/\if t=true then Q (.bl true) g1 else aO P b Z g1 Q E) E
 |.eL a,Z,g,Q,E=>aO P a Z g (λx g1=>∃t,x=.bl t/\Q (.bl (!t)) g1) E
 |.ite c a b,Z,g,Q,E=>cI P c Z g (λt g1=>if t=true then aO P a Z g1 Q E else aO P b Z g1 Q E) E
 |.call f es,Z,g,Q,E=>cZ P es Z g (λxs g1=>P f xs g1 Q E) E
 |.make c f es,Z,g,Q,E=>cZ P es Z g (λxs g1=>P f (.ref g1.length::xs) (g1++[.ins c []]) (λd g2=>d=.bC/\Q (.ref g1.length) g2) E) E
 |.jR m cs o es,Z,g,Q,E=>aO P o Z g (λx g1=>∃a c fs f,x=.ref a/\g1[a]?=some (.ins c fs)/\fs.lookup m=none/\cs.lookup c=some f/\cZ P es Z g1 (λxs g2=>P f (x::xs) g2 Q E) E) E
 |.comp c8 n tg it cond elt,Z,g,Q,E=>eQ P it Z g (λk g1=>xN k (C5 Z c8 n) g1 (λys g=>Q (.ref g.length) (g++[.lst ys])) λx N Z g=>jb tg x Z λcy=>cI P cond cy g (λb g3=>if b=true then aO P elt cy g3 (λy g4=>N (some y) cy g4) iL else N none cy g3) iL) E
 |.jO c8 n tg it cond elt,Z,g,Q,E=>eQ P it Z g (λk g1=>xN k (C5 Z c8 n) g1 (λys g=>Q (.ref g.length) (g++[.lst ys])) λx N Z g=>jb tg x Z λcy=>cI P cond cy g (λb g3=>if b=true then aO P elt cy g3 (λy g4=>N (some y) cy g4) E else N none cy g3) iL) E
 |.gp c8 n tg it cond elt,Z,g,Q,E=>eQ P it Z g (λk g1=>AN k (C5 Z c8 n) g1 (λys g=>Q (.ref g.length) (g++[.lst ((m9 ys).map .int)])) λx N Z g=>jb tg x Z λcy=>cI P cond cy g (λb g3=>if b=true then aO P elt cy g3 (λy g4=>∃j,y=.int j/\N (some j) cy g4) iL else N none cy g3) iL) E
 |.nil,_,_,_,_=>False
 |.cons _ _,_,_,_,_=>False
 |.eO _,_,_,_,_=>False
 |.dS _,_,_,_,_=>False
 |.iY _ _,_,_,_,_=>False
 |.ku _,_,_,_,_=>False
 |.nr _,_,_,_,_=>False
 |.fy _,_,_,_,_=>False
 |.no,_,_,_,_=>False
noncomputable def cZ(P:fh):ME->S->G->(List D->G->Prop)->KX->Prop
 |.nil,_,g,Q,_=>Q [] g
 |.cons a b,Z,g,Q,E=>aO P a Z g (λx g1=>cZ P b Z g1 (λxs g2=>Q (x::xs) g2) E) E
 |_,_,_,_,_=>False
noncomputable def cI(P:fh):ME->S->G->(Bool->G->Prop)->KX->Prop
 |.dy a b,Z,g,Q,E=>cI P a Z g (λt g1=>if t=true then cI P b Z g1 Q E else Q false g1) E
 |.jt a b,Z,g,Q,E=>cI P a Z g (λt g1=>if t=true then Q true g1 else cI P b Z g1 Q E) E
 |.eL a,Z,g,Q,E=>cI P a Z g (λt g1=>Q (!t) g1) E
 |.no,_,g,Q,_=>Q true g
 |.fy e,Z,g,Q,E=>aO P e Z g (λx g1=>pz g1 x λb=>Q b g1) E
 |_,_,_,_,_=>False
noncomputable def eQ(P:fh):ME->S->G->(IK->G->Prop)->KX->Prop
 |.eO e,Z,g,R,E=>aO P e Z g (λx g1=>(∃l,x=.tup l/\R (.fix l) g1)\/∃a l,x=.ref a/\c7 g1 a=some l/\R (.lst a) g1) E
 |.dS a,Z,g,R,E=>aO P a Z g (λx g1=>∃j:Int,x=.int j/\-(2 ^ 62)<=j/\j<2 ^ 62/\R (.fix (i0 0 j.toNat)) g1) E
 |.iY a b,Z,g,R,E=>aO P a Z g (λx g1=>aO P b Z g1 (λy g2=>∃i j:Int,x=.int i/\y=.int j/\(-(2 ^ 62)<=i/\i<2 ^ 62/\-(2 ^ 62)<=j/\j<2 ^ 62)/\R (.fix (i0 i (j-i).toNat)) g2) E) E
 |.ku e,Z,g,R,E=>aO P e Z g (λx g1=>∃a l,x=.ref a/\c7 g1 a=some l/\R (.nU a) g1) E
 |.nr e,Z,g,R,E=>aO P e Z g (λx g1=>∃a l,x=.ref a/\c7 g1 a=some l/\R (.rC a l.length) g1) E
 |_,_,_,_,_=>False
end
set_option genInjectivity false in
set_option genSizeOf false in
inductive MS where
 |pass|seq (a b:MS)|expr (e:ME)|set (i:Nat) (e:ME)|kD (t:MT) (e:ME)|dY (o i v:ME)|gJ (f:Str) (cs:List Str) (o v:ME)
 |vy (f:Str) (cs:List Str) (o v:ME)|jZ (i:Nat) (p:Pr) (v:ME)|wt (o1 i1 o2 i2 e:ME)
 |ifs (c:ME) (a b:MS)|de (t:MT) (it:ME) (b:MS)|jK (c:ME) (b:MS)|ret (e:ME)|pQ|brk|cont
 |raise (x:Str) (es:ME)|Y2 (b:MS) (hs:List (Str×ME))
structure Ends where
 nx:S->G->Prop
 rt:KD
 bk:S->G->Prop:=λ_ _=>False
 ct:S->G->Prop:=λ_ _=>False
def ni(P:fh)(N:Ends)(Z:S)(E:KX):List (Str×ME)->KX
 |[],x,g=>E x g
 |(y,e)::r,x,g=>if x.cls=y\/y="MintError" then aO P e Z g N.rt iL else ni P N Z E r x g
def wpS(P:fh):MS->Ends->S->G->KX->Prop
 |.pass,N,Z,g,_=>N.nx Z g
 |.seq a b,N,Z,g,E=>wpS P a { N with nx:=λhZ g1=>wpS P b N hZ g1 E } Z g E
 |.expr e,N,Z,g,E=>aO P e Z g (λ_ g1=>N.nx Z g1) E
 |.set i e,N,Z,g,E=>aO P e Z g (λx g1=>N.nx (Z.set i (some x)) g1) E
 |.kD t e,N,Z,g,E=>aO P e Z g (λx g1=>jb t x Z λhZ=>N.nx hZ g1) E
 |.dY o i v,N,Z,g,E=>aO P v Z g (λx g1=>aO P o Z g1 (λy g2=>aO P i Z g2 (λz g3=>U9 y z x g3 λg4=>N.nx Z g4) E) E) E
 |.gJ f cs o v,N,Z,g,E=>aO P v Z g (λx g1=>aO P o Z g1 (λy g2=>vI f cs y x g2 λg3=>N.nx Z g3) E) E
 |.vy f cs o v,N,Z,g,E=>aO P o Z g (λy g1=>∃a c fs x,y=.ref a/\g1[a]?=some (.ins c fs)/\c∈cs/\fs.lookup f=some x/\aO P v Z g1 (λz g3=>cG .iadd [x,z] g3 λw g4=>∃qy,g4[a]?=some (.ins c qy)/\qy.length<100/\N.nx Z (g4.set a (.ins c (j6 f w qy)))) E) E
 |.wt o1 i1 o2 i2 e,N,Z,g,E=>aO P e Z g (λx g1=>∃u v,x=.tup [u,v]/\aO P o1 Z g1 (λy1 g2=>aO P i1 Z g2 (λz1 g3=>U9 y1 z1 u g3 λg4=>aO P o2 Z g4 (λy2 g5=>aO P i2 Z g5 (λz2 g6=>U9 y2 z2 v g6 λg7=>N.nx Z g7) E) E) E) E) E
 |.jZ i p v,N,Z,g,E=>∃x,Z[i]?=some (some x)/\aO P v Z g (λz g1=>cG p [x,z] g1 λw g2=>N.nx (Z.set i (some w)) g2) E
 |.ifs c a b,N,Z,g,E=>cI P c Z g (λt g1=>if t=true then wpS P a N Z g1 E else wpS P b N Z g1 E) E
 |.de t it b,N,Z,g,E=>eQ P it Z g (λk g1=>turns k Z g1 N.nx λx N2 Z g=>jb t x Z λcy=>wpS P b { N with nx:=N2,ct:=N2,bk:=N.nx } cy g E) E
 |.jK c b,N,Z,g,E=>∃W:Nat->S->G->Prop,(∃m,W m Z g)/\∀m Z g,W m Z g->cI P c Z g (λt g1=>if t=true then ∃N2:S->G->Prop,(∀bN g',N2 bN g'->∃m',m'<m/\W m' bN g')/\wpS P b { N with nx:=N2,ct:=N2,bk:=N.nx } Z g1 E else N.nx Z g1) E
 |.ret e,N,Z,g,E=>aO P e Z g N.rt E
 |.pQ,N,_,g,_=>N.rt .bC g
 |.brk,N,Z,g,_=>N.bk Z g
 |.cont,N,Z,g,_=>N.ct Z g
 |.raise x es,_,Z,g,E=>cZ P es Z g (λvs g1=>vs.length<=1000/\E ⟨x⟩ g1) E
 |.Y2 b hs,N,Z,g,E=>wpS P b N Z g (ni P N (Z.map λ_=>none) E hs)
structure ba where
 ar:Nat
 n:Nat
 body:MS
def c6(m:ba)(ds:List D):S:=ds.map some++List.replicate (m.n-ds.length) none
def c5(T:Nat->Option ba):Nat->fh
 |0,_,_,_,_,_=>False
 |k+1,f,ds,g,Q,E=>∃m,T f=some m/\ds.length=m.ar/\wpS (c5 T k) m.body ⟨λ_ g'=>Q .bC g',Q,λ_ _=>False,λ_ _=>False⟩ (c6 m ds) g E
end M

namespace M
open PySem L2
theorem p9{p xs}{g:G}{Q Q':KD}(h:∀d g,Q d g->Q' d g)(q:cG p xs g Q):cG p xs g Q':=by
 obtain⟨d,g',a,b⟩:=q;exact⟨d,g',a,h _ _ b⟩
theorem XQ{x}{g:G}{k k':Bool->Prop}(h:∀b,k b->k' b)(q:pz g x k):pz g x k':=by
 obtain⟨b,a,z⟩:=q;exact⟨b,a,h _ z⟩
theorem T7{x y v}{g:G}{k k':G->Prop}(h:∀g,k g->k' g)(q:U9 x y v g k):U9 x y v g k':=by
 obtain⟨b,a,z⟩:=q;exact⟨b,a,h _ z⟩
theorem YB{f cs x v}{g:G}{k k':G->Prop}(h:∀g,k g->k' g)(q:vI f cs x v g k):vI f cs x v g k':=by
 obtain⟨b,a,z⟩:=q;exact⟨b,a,h _ z⟩
theorem v7{t x Z}{k k':S->Prop}(h:∀Z,k Z->k' Z)(q:jb t x Z k):jb t x Z k':=by
 cases t with
 |one i=>exact h _ q
 |many is=>obtain⟨l,bN,a,b,c⟩:=q;exact⟨l,bN,a,b,h _ c⟩
theorem YK{k Z g}{fin jX:S->G->Prop}{turn gO:D->(S->G->Prop)->S->G->Prop}(h:∀Z g,fin Z g->jX Z g)(h2:∀x N Z g,turn x N Z g->gO x N Z g)(q:turns k Z g fin turn):turns k Z g jX gO:=by
 obtain⟨W,w0,q⟩:=q;refine⟨W,w0,λi m Z g w=>?_⟩;rcases q i m Z g w with⟨a,b⟩|⟨x,a,N2,b,c⟩
 ·exact .inl ⟨a,h _ _ b⟩
 ·exact .inr ⟨x,a,N2,b,h2 _ _ _ _ c⟩
theorem Hs{k Z g}{fin jX:List D->G->Prop}{turn gO:D->(Option D->S->G->Prop)->S->G->Prop}(h:∀ys g,fin ys g->jX ys g)(h2:∀x N Z g,turn x N Z g->gO x N Z g)(q:xN k Z g fin turn):xN k Z g jX gO:=by
 obtain⟨W,w0,q⟩:=q;refine⟨W,w0,λi m ys Z g w=>?_⟩;rcases q i m ys Z g w with⟨a,b⟩|⟨x,a,b,c⟩
 ·exact .inl ⟨a,h _ _ b⟩
 ·exact .inr ⟨x,a,b,h2 _ _ _ _ c⟩
theorem Zh{k Z g}{fin jX:List Int->G->Prop}{turn gO:D->(Option Int->S->G->Prop)->S->G->Prop}(h:∀ys g,fin ys g->jX ys g)(h2:∀x N Z g,turn x N Z g->gO x N Z g)(q:AN k Z g fin turn):AN k Z g jX gO:=by
 obtain⟨W,w0,q⟩:=q;refine⟨W,w0,λi m ys Z g w=>?_⟩;rcases q i m ys Z g w with⟨a,b,c⟩|⟨x,a,b,c⟩
 ·exact .inl ⟨a,b,h _ _ c⟩
 ·exact .inr ⟨x,a,b,h2 _ _ _ _ c⟩
theorem E8{t:Bool}{A B A' B':Prop}(h1:A->A')(h2:B->B')(q:if t=true then A else B):if t=true then A' else B':=by
 cases t
 ·exact h2 q
 ·exact h1 q
def f6(P:fh):Prop:=∀f xs g Q Q' E E',(∀d g,Q d g->Q' d g)->(∀x g,E x g->E' x g)->P f xs g Q E->P f xs g Q' E'
mutual
theorem b8{P:fh}(hP:f6 P):∀(e:ME) (Z:S) (g:G) (Q Q':KD) (E E':KX),(∀d g,Q d g->Q' d g)->(∀x g,E x g->E' x g)->aO P e Z g Q E->aO P e Z g Q' E'
 |.var i,Z,g,Q,Q',E,E',h,hx,q=>by
  simp only[aO] at q ⊢;obtain⟨d,a,b⟩:=q;exact⟨d,a,h _ _ b⟩
 |.lit d,Z,g,Q,Q',E,E',h,hx,q=>by simp only[aO] at q ⊢;exact h _ _ q
 |.prim p es,Z,g,Q,Q',E,E',h,hx,q=>by
  simp only[aO] at q ⊢;exact v5 hP es _ _ _ _ _ _ (λxs g1 q=>p9 h q) hx q
 |.eE p o es,Z,g,Q,Q',E,E',h,hx,q=>by
  simp only[aO] at q ⊢;exact b8 hP o _ _ _ _ _ _ (λx g1 q=>⟨q.1,v5 hP es _ _ _ _ _ _ (λxs g2 q=>p9 h q) hx q.2⟩) hx q
 |.pb es,Z,g,Q,Q',E,E',h,hx,q=>by
  simp only[aO] at q ⊢;exact v5 hP es _ _ _ _ _ _ (λxs g1 ⟨kvs,a,b,c,d⟩=>⟨kvs,a,b,c,h _ _ d⟩) hx q
 |.chain o1 o2 a b c,Z,g,Q,Q',E,E',h,hx,q=>by
  simp only[aO] at q ⊢;refine b8 hP a _ _ _ _ _ _ (λx g1 q=>b8 hP b _ _ _ _ _ _ (λy g2 q=>p9 (λz g3 q=>?_) q) hx q) hx q;obtain⟨t,e,q⟩:=q;exact⟨t,e,E8 (λq=>b8 hP c _ _ _ _ _ _ (λw g4 q=>p9 h q) hx q) (h _ _) q⟩
 |.dy a b,Z,g,Q,Q',E,E',h,hx,q=>by
  simp only[aO] at q ⊢;refine b8 hP a _ _ _ _ _ _ (λx g1 q=>?_) hx q;obtain⟨t,e,q⟩:=q;exact⟨t,e,E8 (λq=>b8 hP b _ _ _ _ _ _ h hx q) (h _ _) q⟩
 |.jt a b,Z,g,Q,Q',E,E',h,hx,q=>by
  simp only[aO] at q ⊢;refine b8 hP a _ _ _ _ _ _ (λx g1 q=>?_) hx q;obtain⟨t,e,q⟩:=q;exact⟨t,e,E8 (h _ _) (λq=>b8 hP b _ _ _ _ _ _ h hx q) q⟩
 |.eL a,Z,g,Q,Q',E,E',h,hx,q=>by
  simp only[aO] at q ⊢;refine b8 hP a _ _ _ _ _ _ (λx g1 q=>?_) hx q;obtain⟨t,e,q⟩:=q;exact⟨t,e,h _ _ q⟩
 |.ite c a b,Z,g,Q,Q',E,E',h,hx,q=>by
  simp only[aO] at q ⊢;exact n9 hP c _ _ _ _ _ _ (λt g1 q=>E8 (λq=>b8 hP a _ _ _ _ _ _ h hx q) (λq=>b8 hP b _ _ _ _ _ _ h hx q) q) hx q
 |.call f es,Z,g,Q,Q',E,E',h,hx,q=>by
  simp only[aO] at q ⊢;exact v5 hP es _ _ _ _ _ _ (λxs g1 q=>hP _ _ _ _ _ _ _ h hx q) hx q
 |.make c f es,Z,g,Q,Q',E,E',h,hx,q=>by
  simp only[aO] at q ⊢;exact v5 hP es _ _ _ _ _ _ (λxs g1 q=>hP _ _ _ _ _ _ _ (λd g2 q=>⟨q.1,h _ _ q.2⟩) hx q) hx q
 |.jR m cs o es,Z,g,Q,Q',E,E',h,hx,q=>by
  simp only[aO] at q ⊢;refine b8 hP o _ _ _ _ _ _ (λx g1 q=>?_) hx q;obtain⟨a,c,fs,f,q1,q2,q3,q4,q⟩:=q;exact⟨a,c,fs,f,q1,q2,q3,q4,v5 hP es _ _ _ _ _ _ (λxs g2 q=>hP _ _ _ _ _ _ _ h hx q) hx q⟩
 |.comp c8 n tg it cond elt,Z,g,Q,Q',E,E',h,hx,q=>by
  simp only[aO] at q ⊢;exact y9 hP it _ _ _ _ _ _ (λk g1 q=>Hs (λys g q=>h _ _ q) (λ_ _ _ _ q=>q) q) hx q
 |.jO c8 n tg it cond elt,Z,g,Q,Q',E,E',h,hx,q=>by
  simp only[aO] at q ⊢;exact y9 hP it _ _ _ _ _ _ (λk g1 q=>Hs (λys g q=>h _ _ q) (λx N Z g q=>v7 (λcy q=>n9 hP cond _ _ _ _ _ _ (λb g3 q=>by
   cases b
   ·exact q
   ·exact b8 hP elt _ _ _ _ _ _ (λ_ _ z=>z) hx q) (λ_ _ z=>z) q) q) q) hx q
 |.gp c8 n tg it cond elt,Z,g,Q,Q',E,E',h,hx,q=>by
  simp only[aO] at q ⊢;exact y9 hP it _ _ _ _ _ _ (λk g1 q=>Zh (λys g q=>h _ _ q) (λ_ _ _ _ q=>q) q) hx q
 |.nil,Z,g,Q,Q',E,E',h,hx,q=>(show False from q).elim
 |.cons _ _,Z,g,Q,Q',E,E',h,hx,q=>(show False from q).elim
 |.eO _,Z,g,Q,Q',E,E',h,hx,q=>(show False from q).elim
 |.dS _,Z,g,Q,Q',E,E',h,hx,q=>(show False from q).elim
 |.iY _ _,Z,g,Q,Q',E,E',h,hx,q=>(show False from q).elim
 |.ku _,Z,g,Q,Q',E,E',h,hx,q|.nr _,Z,g,Q,Q',E,E',h,hx,q=>(show False from q).elim
 |.fy _,Z,g,Q,Q',E,E',h,hx,q=>(show False from q).elim
 |.no,Z,g,Q,Q',E,E',h,hx,q=>(show False from q).elim
theorem v5{P:fh}(hP:f6 P):∀(e:ME) (Z:S) (g:G) (Q Q':List D->G->Prop) (E E':KX),(∀d g,Q d g->Q' d g)->(∀x g,E x g->E' x g)->cZ P e Z g Q E->cZ P e Z g Q' E'
 |.nil,Z,g,Q,Q',E,E',h,hx,q=>by simp only[cZ] at q ⊢;exact h _ _ q
 |.cons a b,Z,g,Q,Q',E,E',h,hx,q=>by
  simp only[cZ] at q ⊢;exact b8 hP a _ _ _ _ _ _ (λx g1 q=>v5 hP b _ _ _ _ _ _ (λxs g2 q=>h _ _ q) hx q) hx q
 |.var _,Z,g,Q,Q',E,E',h,hx,q|.lit _,Z,g,Q,Q',E,E',h,hx,q|.prim _ _,Z,g,Q,Q',E,E',h,hx,q|.eE _ _ _,Z,g,Q,Q',E,E',h,hx,q|.pb _,Z,g,Q,Q',E,E',h,hx,q|.chain _ _ _ _ _,Z,g,Q,Q',E,E',h,hx,q|.dy _ _,Z,g,Q,Q',E,E',h,hx,q|.jt _ _,Z,g,Q,Q',E,E',h,hx,q|.eL _,Z,g,Q,Q',E,E',h,hx,q|.ite _ _ _,Z,g,Q,Q',E,E',h,hx,q|.call _ _,Z,g,Q,Q',E,E',h,hx,q
 |.make _ _ _,Z,g,Q,Q',E,E',h,hx,q|.jR _ _ _ _,Z,g,Q,Q',E,E',h,hx,q|.comp _ _ _ _ _ _,Z,g,Q,Q',E,E',h,hx,q|.gp _ _ _ _ _ _,Z,g,Q,Q',E,E',h,hx,q|.jO _ _ _ _ _ _,Z,g,Q,Q',E,E',h,hx,q|.eO _,Z,g,Q,Q',E,E',h,hx,q|.dS _,Z,g,Q,Q',E,E',h,hx,q|.iY _ _,Z,g,Q,Q',E,E',h,hx,q|.ku _,Z,g,Q,Q',E,E',h,hx,q|.nr _,Z,g,Q,Q',E,E',h,hx,q|.fy _,Z,g,Q,Q',E,E',h,hx,q|.no,Z,g,Q,Q',E,E',h,hx,q=>(show False from q).elim
theorem n9{P:fh}(hP:f6 P):∀(e:ME) (Z:S) (g:G) (Q Q':Bool->G->Prop) (E E':KX),(∀d g,Q d g->Q' d g)->(∀x g,E x g->E' x g)->cI P e Z g Q E->cI P e Z g Q' E'
 |.dy a b,Z,g,Q,Q',E,E',h,hx,q=>by
  simp only[cI] at q ⊢;exact n9 hP a _ _ _ _ _ _ (λt g1 q=>E8 (λq=>n9 hP b _ _ _ _ _ _ h hx q) (h _ _) q) hx q
 |.jt a b,Z,g,Q,Q',E,E',h,hx,q=>by
  simp only[cI] at q ⊢;exact n9 hP a _ _ _ _ _ _ (λt g1 q=>E8 (h _ _) (λq=>n9 hP b _ _ _ _ _ _ h hx q) q) hx q
 |.eL a,Z,g,Q,Q',E,E',h,hx,q=>by simp only[cI] at q ⊢;exact n9 hP a _ _ _ _ _ _ (λt g1 q=>h _ _ q) hx q
 |.no,Z,g,Q,Q',E,E',h,hx,q=>by simp only[cI] at q ⊢;exact h _ _ q
 |.fy e,Z,g,Q,Q',E,E',h,hx,q=>by simp only[cI] at q ⊢;exact b8 hP e _ _ _ _ _ _ (λx g1 q=>XQ (λb q=>h _ _ q) q) hx q
 |.var _,Z,g,Q,Q',E,E',h,hx,q|.lit _,Z,g,Q,Q',E,E',h,hx,q|.prim _ _,Z,g,Q,Q',E,E',h,hx,q|.eE _ _ _,Z,g,Q,Q',E,E',h,hx,q|.pb _,Z,g,Q,Q',E,E',h,hx,q|.chain _ _ _ _ _,Z,g,Q,Q',E,E',h,hx,q|.ite _ _ _,Z,g,Q,Q',E,E',h,hx,q|.call _ _,Z,g,Q,Q',E,E',h,hx,q|.nil,Z,g,Q,Q',E,E',h,hx,q|.cons _ _,Z,g,Q,Q',E,E',h,hx,q
 |.make _ _ _,Z,g,Q,Q',E,E',h,hx,q|.jR _ _ _ _,Z,g,Q,Q',E,E',h,hx,q|.comp _ _ _ _ _ _,Z,g,Q,Q',E,E',h,hx,q|.gp _ _ _ _ _ _,Z,g,Q,Q',E,E',h,hx,q|.jO _ _ _ _ _ _,Z,g,Q,Q',E,E',h,hx,q|.eO _,Z,g,Q,Q',E,E',h,hx,q|.dS _,Z,g,Q,Q',E,E',h,hx,q|.iY _ _,Z,g,Q,Q',E,E',h,hx,q|.ku _,Z,g,Q,Q',E,E',h,hx,q|.nr _,Z,g,Q,Q',E,E',h,hx,q=>(show False from q).elim
theorem y9{P:fh}(hP:f6 P):∀(e:ME) (Z:S) (g:G) (Q Q':IK->G->Prop) (E E':KX),(∀d g,Q d g->Q' d g)->(∀x g,E x g->E' x g)->eQ P e Z g Q E->eQ P e Z g Q' E'
 |.eO e,Z,g,Q,Q',E,E',h,hx,q=>by
  simp only[eQ] at q ⊢;exact b8 hP e _ _ _ _ _ _ (λx g1 q=>q.imp (λ⟨l,a,b⟩=>⟨l,a,h _ _ b⟩) λ⟨i,l,a,b,c⟩=>⟨i,l,a,b,h _ _ c⟩) hx q
 |.dS a,Z,g,Q,Q',E,E',h,hx,q=>by
  simp only[eQ] at q ⊢;exact b8 hP a _ _ _ _ _ _ (λx g1 ⟨j,a,b,c,d⟩=>⟨j,a,b,c,h _ _ d⟩) hx q
 |.iY a b,Z,g,Q,Q',E,E',h,hx,q=>by
  simp only[eQ] at q ⊢;exact b8 hP a _ _ _ _ _ _ (λx g1 q=>b8 hP b _ _ _ _ _ _ (λy g2 ⟨i,j,a,b,c,d⟩=>⟨i,j,a,b,c,h _ _ d⟩) hx q) hx q
 |.ku e,Z,g,Q,Q',E,E',h,hx,q=>by
  simp only[eQ] at q ⊢;exact b8 hP e _ _ _ _ _ _ (λx g1 ⟨i,l,a,b,c⟩=>⟨i,l,a,b,h _ _ c⟩) hx q
 |.nr e,Z,g,Q,Q',E,E',h,hx,q=>by
  simp only[eQ] at q ⊢;exact b8 hP e _ _ _ _ _ _ (λx g1 ⟨i,l,a,b,c⟩=>⟨i,l,a,b,h _ _ c⟩) hx q
 |.var _,Z,g,Q,Q',E,E',h,hx,q|.lit _,Z,g,Q,Q',E,E',h,hx,q|.prim _ _,Z,g,Q,Q',E,E',h,hx,q|.eE _ _ _,Z,g,Q,Q',E,E',h,hx,q|.pb _,Z,g,Q,Q',E,E',h,hx,q|.chain _ _ _ _ _,Z,g,Q,Q',E,E',h,hx,q|.ite _ _ _,Z,g,Q,Q',E,E',h,hx,q|.call _ _,Z,g,Q,Q',E,E',h,hx,q|.nil,Z,g,Q,Q',E,E',h,hx,q|.cons _ _,Z,g,Q,Q',E,E',h,hx,q
 |.dy _ _,Z,g,Q,Q',E,E',h,hx,q|.jt _ _,Z,g,Q,Q',E,E',h,hx,q|.eL _,Z,g,Q,Q',E,E',h,hx,q|.fy _,Z,g,Q,Q',E,E',h,hx,q|.no,Z,g,Q,Q',E,E',h,hx,q
 |.make _ _ _,Z,g,Q,Q',E,E',h,hx,q|.jR _ _ _ _,Z,g,Q,Q',E,E',h,hx,q|.comp _ _ _ _ _ _,Z,g,Q,Q',E,E',h,hx,q|.gp _ _ _ _ _ _,Z,g,Q,Q',E,E',h,hx,q|.jO _ _ _ _ _ _,Z,g,Q,Q',E,E',h,hx,q=>(show False from q).elim
end
structure Ends.le(N N':Ends):Prop where
 nx:∀Z g,N.nx Z g->N'.nx Z g
 rt:∀d g,N.rt d g->N'.rt d g
 bk:∀Z g,N.bk Z g->N'.bk Z g
 ct:∀Z g,N.ct Z g->N'.ct Z g
theorem Gh{P:fh}(hP:f6 P){N N':Ends}{E E':KX}(h:N.le N')(hx:∀x g,E x g->E' x g){Z:S}:∀(hs:List (Str×ME)) x g,ni P N Z E hs x g->ni P N' Z E' hs x g
 |[],x,g,q=>hx x g q
 |(y,e)::r,x,g,q=>by
  unfold ni at q ⊢;split
  ·rename_i hh;rw[aK hh] at q;exact b8 hP e _ _ _ _ _ _ h.rt (λ_ _ z=>z) q
  ·rename_i hh;rw[aC hh] at q;exact Gh hP h hx r x g q
theorem wpS_mono{P:fh}(hP:f6 P):∀(s:MS) (N N':Ends) (Z:S) (g:G) (E E':KX),N.le N'->(∀x g,E x g->E' x g)->wpS P s N Z g E->wpS P s N' Z g E'
 |.pass,N,N',Z,g,E,E',h,hx,q=>h.nx _ _ q
 |.seq a b,N,N',Z,g,E,E',h,hx,q=>wpS_mono hP a { N with nx:=λhZ g1=>wpS P b N hZ g1 E } { N' with nx:=λhZ g1=>wpS P b N' hZ g1 E' } _ _ _ _ ⟨λhZ g1 q=>wpS_mono hP b _ _ _ _ _ _ h hx q,h.rt,h.bk,h.ct⟩ hx q
 |.expr e,N,N',Z,g,E,E',h,hx,q=>b8 hP e _ _ _ _ _ _ (λx g1 q=>h.nx _ _ q) hx q
 |.set i e,N,N',Z,g,E,E',h,hx,q=>b8 hP e _ _ _ _ _ _ (λx g1 q=>h.nx _ _ q) hx q
 |.kD t e,N,N',Z,g,E,E',h,hx,q=>b8 hP e _ _ _ _ _ _ (λx g1 q=>v7 (λZ q=>h.nx _ _ q) q) hx q
 |.dY o i v,N,N',Z,g,E,E',h,hx,q=>b8 hP v _ _ _ _ _ _ (λx g1 q=>b8 hP o _ _ _ _ _ _ (λy g2 q=>b8 hP i _ _ _ _ _ _ (λz g3 q=>T7 (λg q=>h.nx _ _ q) q) hx q) hx q) hx q
 |.gJ f cs o v,N,N',Z,g,E,E',h,hx,q=>b8 hP v _ _ _ _ _ _ (λx g1 q=>b8 hP o _ _ _ _ _ _ (λy g2 q=>YB (λg q=>h.nx _ _ q) q) hx q) hx q
 | .vy f cs o v,N,N',Z,g,E,E',h,hx,q=>b8 hP o _ _ _ _ _ _ (λy g1 q=>by
   obtain⟨a,c,fs,x,q1,q2,q3,q4,q⟩:=q;exact ⟨a,c,fs,x,q1,q2,q3,q4,b8 hP v _ _ _ _ _ _ (λz g3 q=>p9 (λw g4 q=>by
    obtain⟨qy,k1,k2,k3⟩:=q;exact ⟨qy,k1,k2,h.nx _ _ k3⟩) q) hx q⟩) hx q
 |.wt o1 i1 o2 i2 e,N,N',Z,g,E,E',h,hx,q=>b8 hP e _ _ _ _ _ _ (λx g1 q=>let ⟨u,v,q1,q⟩:=q;⟨u,v,q1,b8 hP o1 _ _ _ _ _ _ (λy g2 q=>b8 hP i1 _ _ _ _ _ _ (λz g3 q=>T7 (λg4 q=>b8 hP o2 _ _ _ _ _ _ (λy g5 q=>b8 hP i2 _ _ _ _ _ _ (λz g6 q=>T7 (λg q=>h.nx _ _ q) q) hx q) hx q) q) hx q) hx q⟩) hx q
 |.jZ i p v,N,N',Z,g,E,E',h,hx,q=>let ⟨x,q1,q⟩:=q;⟨x,q1,b8 hP v _ _ _ _ _ _ (λz g1 q=>p9 (λw g2 q=>h.nx _ _ q) q) hx q⟩
 |.ifs c a b,N,N',Z,g,E,E',h,hx,q=>n9 hP c _ _ _ _ _ _ (λt g1 q=>E8 (λq=>wpS_mono hP a _ _ _ _ _ _ h hx q) (λq=>wpS_mono hP b _ _ _ _ _ _ h hx q) q) hx q
 |.de t it b,N,N',Z,g,E,E',h,hx,q=>y9 hP it _ _ _ _ _ _ (λk g1 q=>YK h.nx (λx N2 Z g q=>v7 (λcy q=>wpS_mono hP b { N with nx:=N2,ct:=N2,bk:=N.nx } { N' with nx:=N2,ct:=N2,bk:=N'.nx } _ _ _ _ ⟨λ_ _ z=>z,h.rt,h.nx,λ_ _ z=>z⟩ hx q) q) q) hx q
 |.jK c b,N,N',Z,g,E,E',h,hx,q=>by
  obtain⟨W,w0,q⟩:=q;refine⟨W,w0,λm Z g w=>n9 hP c _ _ _ _ _ _ (λt g1 q=>E8 (λq=>?_) (h.nx _ _) q) hx (q m Z g w)⟩;obtain⟨N2,a,q⟩:=q;exact⟨N2,a,wpS_mono hP b { N with nx:=N2,ct:=N2,bk:=N.nx } { N' with nx:=N2,ct:=N2,bk:=N'.nx } _ _ _ _ ⟨λ_ _ z=>z,h.rt,h.nx,λ_ _ z=>z⟩ hx q⟩
 |.ret e,N,N',Z,g,E,E',h,hx,q=>b8 hP e _ _ _ _ _ _ h.rt hx q
 |.pQ,N,N',Z,g,E,E',h,hx,q=>h.rt _ _ q
 |.brk,N,N',Z,g,E,E',h,hx,q=>h.bk _ _ q
 |.cont,N,N',Z,g,E,E',h,hx,q=>h.ct _ _ q
 |.raise x es,N,N',Z,g,E,E',h,hx,q=>v5 hP es _ _ _ _ _ _ (λvs g1 q=>⟨q.1,hx _ _ q.2⟩) hx q
 |.Y2 b hs,N,N',Z,g,E,E',h,hx,q=>wpS_mono hP b _ _ _ _ _ _ h (λx g q=>Gh hP h hx hs x g q) q
theorem a8(T:Nat->Option ba):∀k,f6 (c5 T k)
 |0=>λf xs g Q Q' E E' h hx q=>q.elim
 |k+1=>λf xs g Q Q' E E' h hx q=>by
  obtain⟨m,a,b,q⟩:=q;exact⟨m,a,b,wpS_mono (a8 T k) m.body ⟨λ_ g'=>Q .bC g',Q,λ_ _=>False,λ_ _=>False⟩ _ _ _ _ _ ⟨λ_ _ z=>h _ _ z,h,λ_ _ z=>z,λ_ _ z=>z⟩ hx q⟩
end M

namespace M
open PySem L2
def TupAt(K:PySem.W.Frag)(H:Hp)(a:Addr)(vs:List V):Prop :=
 H a=some (.tup vs)\/∃(o:Obj) (aX:Array Value) (n:Nat),K.lookup a=some o/\o.cls=.type "tuple"/\o.dict=none/\o.data=.seq aX n/\aX.size<=sizeLine/\Vals vs aX.toList
theorem TupAt.d{K:PySem.W.Frag}{H:Hp}{a:Addr}{vs:List V}(h:TupAt K H a vs):CQ K H a vs:=h
theorem TupAt.sq{K:PySem.W.Frag}{H:Hp}{a:Addr}{vs:List V}(h:TupAt K H a vs):hU K H a vs:=h.d.sq
mutual
inductive d5(K:PySem.W.Frag)(ρ:List Addr)(H:Hp):D->V->Prop
 |bC:d5 K ρ H .bC .bC
 |bl (b:Bool):d5 K ρ H (.bl b) (.bl b)
 |int (i:Int):d5 K ρ H (.int i) (.int i)
 |str (x:Str):d5 K ρ H (.str x) (.str x)
 |ty (n:String):d5 K ρ H (.ty n) (.ty n)
 |ref {i:Nat} {a:Addr} (h:ρ[i]?=some a):d5 K ρ H (.ref i) (.ref a)
 |tup {l:List D} {a:Addr} {vs:List V} (h:TupAt K H a vs) (r:b9 K ρ H l vs):d5 K ρ H (.tup l) (.ref a)
inductive b9(K:PySem.W.Frag)(ρ:List Addr)(H:Hp):List D->List V->Prop
 |nil:b9 K ρ H [] []
 |cons {d:D} {v:V} {ds:List D} {vs:List V} (h:d5 K ρ H d v) (r:b9 K ρ H ds vs):b9 K ρ H (d::ds) (v::vs)
end
structure Ext(ρ:List Addr)(H:Hp)(bG:List Addr)(H':Hp):Prop where
 pre:∃more,bG=ρ++more
 tup:∀a xs,H a=some (.tup xs)->H' a=some (.tup xs)
theorem Ext.refl(ρ:List Addr)(H:Hp):Ext ρ H ρ H:=⟨⟨[],by simp⟩,λ_ _ h=>h⟩
theorem Ext.trans{ρ H bO H1 eK H2}(a:Ext ρ H bO H1)(b:Ext bO H1 eK H2):Ext ρ H eK H2:=by
 obtain⟨⟨m,rfl⟩,t⟩:=a;obtain⟨⟨m',rfl⟩,t'⟩:=b;exact⟨⟨m++m',by simp⟩,λx xs h=>t' _ _ (t _ _ h)⟩
theorem Ext.get{ρ H bG H'}(e:Ext ρ H bG H'){i:Nat}{a:Addr}(h:ρ[i]?=some a):bG[i]?=some a:=by
 obtain⟨⟨m,rfl⟩,_⟩:=e;rw[aF (ao.mp h).1];exact h
theorem TupAt.ext{K ρ H bG H'}(e:Ext ρ H bG H'){a:Addr}{vs:List V}(h:TupAt K H a vs):TupAt K H' a vs:=h.elim (λz=>.inl (e.tup _ _ z)) .inr
mutual
theorem d5.ext{K ρ H bG H'}(e:Ext ρ H bG H'):∀{d v},d5 K ρ H d v->d5 K bG H' d v
 |_,_,.bC=>.bC
 |_,_,.bl b=>.bl b
 |_,_,.int i=>.int i
 |_,_,.str x=>.str x
 |_,_,.ty n=>.ty n
 |_,_,.ref h=>.ref (e.get h)
 |_,_,.tup h r=>.tup (h.ext e) (b9.ext e r)
theorem b9.ext{K ρ H bG H'}(e:Ext ρ H bG H'):∀{ds vs},b9 K ρ H ds vs->b9 K bG H' ds vs
 |_,_,.nil=>.nil
 |_,_,.cons h r=>.cons (d5.ext e h) (b9.ext e r)
end
theorem b9.length{K ρ H}{ds:List D}{vs:List V}(h:b9 K ρ H ds vs):ds.length=vs.length:=by
 induction ds generalizing vs with
 |nil=>cases h;rfl
 |cons d ds ih =>
  cases h with
  |cons q r=>simp[ih r]
theorem b9.get{K ρ H}:∀{ds vs} {i:Nat} {d:D},b9 K ρ H ds vs->ds[i]?=some d->∃v,vs[i]?=some v/\d5 K ρ H d v
 |_,_,_,_,.nil,h=>by simp at h
 |_,_,0,_,.cons h _,e=>by simp at e;subst e;exact⟨_,rfl,h⟩
 |_,_,i+1,d,.cons _ r,e=>by
  obtain⟨v,h1,h2⟩:=b9.get (i:=i) (d:=d) r (by simpa using e);exact⟨v,by simpa using h1,h2⟩
theorem b9.set{K ρ H}{d:D}{v:V}(h:d5 K ρ H d v):∀{ds vs} (i:Nat),b9 K ρ H ds vs->b9 K ρ H (ds.set i d) (vs.set i v)
 |_,_,_,.nil=>.nil
 |_,_,0,.cons _ r=>.cons h r
 |_,_,i+1,.cons q r=>.cons q (b9.set h i r)
theorem b9.append{K ρ H}{ds es:List D}{vs ws:List V}(h:b9 K ρ H ds vs)(s:b9 K ρ H es ws):b9 K ρ H (ds++es) (vs++ws):=by
 induction ds generalizing vs with
 |nil=>cases h;exact s
 |cons d ds ih =>
  cases h with
  |cons q r=>exact .cons q (ih r)
theorem b9.rep{K ρ H}{ds:List D}{vs:List V}(r:b9 K ρ H ds vs):∀n,b9 K ρ H (List.replicate n ds).flatten (List.replicate n vs).flatten
 |0=>.nil
 |n+1=>by
  rw[bX,bX,cS,cS];exact b9.append r (b9.rep r n)
theorem b9.erase{K ρ H}:∀{ds:List D} {vs:List V} (i:Nat),b9 K ρ H ds vs->b9 K ρ H (ds.eraseIdx i) (vs.eraseIdx i)
 |_,_,_,.nil=>.nil
 |_,_,0,.cons _ r=>r
 |_,_,i+1,.cons q r=>.cons q (b9.erase i r)
theorem b9.take{K ρ H}:∀{ds:List D} {vs:List V} (n:Nat),b9 K ρ H ds vs->b9 K ρ H (ds.take n) (vs.take n)
 |_,_,0,_=>.nil
 |_,_,_+1,.nil=>.nil
 |_,_,n+1,.cons h r=>.cons h (b9.take n r)
theorem b9.drop{K ρ H}:∀{ds:List D} {vs:List V} (n:Nat),b9 K ρ H ds vs->b9 K ρ H (ds.drop n) (vs.drop n)
 |_,_,0,r=>r
 |_,_,_+1,.nil=>.nil
 |_,_,n+1,.cons _ r=>b9.drop n r
theorem b9.reverse{K ρ H}:∀{ds:List D} {vs:List V},b9 K ρ H ds vs->b9 K ρ H ds.reverse vs.reverse
 |_,_,.nil=>.nil
 |_,_,.cons h r=>by
  rw[gh,gh];exact b9.append (b9.reverse r) (.cons h .nil)
theorem b9.cut{K ρ H}{ds:List D}{vs:List V}(r:b9 K ρ H ds vs)(lo hi:Option Int):b9 K ρ H (M.cut ds lo hi) (T1 vs lo hi):=by
 unfold M.cut T1;rw[r.length];exact(r.drop _).take _
theorem b9.ints{K ρ H}:∀{ns:List Int} {vs:List V},b9 K ρ H (ns.map D.int) vs->vs=ns.map V.int
 |[],_,.nil=>rfl
 |_::_,_,.cons h r=>by cases h;rw[b9.ints r];rfl
theorem b9.ofInts{K ρ H}:∀(ns:List Int),b9 K ρ H (ns.map D.int) (ns.map V.int)
 |[]=>.nil
 |n::r=>.cons (.int n) (b9.ofInts r)
def sy(K:PySem.W.Frag)(H:Hp)(a:Addr)(vs:List V):Prop :=
 (∃o,H a=some (.jw o (.lst vs)))\/∃(o:Obj) (aX:Array Value) (n:Nat),K.lookup a=some o/\o.cls=.type "list"/\o.dict=none/\o.data=.seq aX n/\aX.size<=sizeLine/\Vals vs aX.toList
theorem sy.sq{K:PySem.W.Frag}{H:Hp}{a:Addr}{vs:List V}(h:sy K H a vs):fB K H a vs:=h.elim (λ⟨o,z⟩=>.inl (.inr ⟨o,z⟩)) .inr
inductive i3{α:Type}(K:PySem.W.Frag)(ρ:List Addr)(H:Hp):List (α×D)->List (α×V)->Prop
 |nil:i3 K ρ H [] []
 |cons {k:α} {d:D} {v:V} {ds:List (α×D)} {vs:List (α×V)} (h:d5 K ρ H d v) (r:i3 K ρ H ds vs):i3 K ρ H ((k,d)::ds) ((k,v)::vs)
theorem i3.ext{α:Type}{K ρ H bG H'}(e:Ext ρ H bG H'){ds:List (α×D)}{vs:List (α×V)}(h:i3 K ρ H ds vs):i3 K bG H' ds vs:=by
 induction h with
 |nil=>exact .nil
 |cons h r ih=>exact .cons (h.ext e) ih
theorem i3.length{α:Type}{K ρ H}{ds:List (α×D)}{vs:List (α×V)}(h:i3 K ρ H ds vs):ds.length=vs.length:=by
 induction h with
 |nil=>rfl
 |cons h r ih=>simp[ih]
def qT(K:PySem.W.Frag)(ρ:List Addr)(H:Hp):Option D->Option V->Prop
 |some d,some v=>d5 K ρ H d v
 |none,none=>True
 |_,_=>False
theorem i3.val{K ρ H}:∀{ds vs} (k:Key),i3 K ρ H ds vs->qT K ρ H (p6 ds k) (K4 vs k)
 |_,_,k,.nil=>trivial
 |_,_,k,.cons (k:=k') h r=>by
  unfold p6 K4;rw[eF,eF];by_cases e:k'=k
  ·simp only[e,decide_true];exact h
  ·simp only[e,decide_false];exact i3.val k r
theorem i3.FL{K ρ H}:∀{ds vs} (k:Key),i3 K ρ H ds vs->(ds.any λkv=>decide (kv.1=k))=(vs.any λkv=>decide (kv.1=k))
 |_,_,k,.nil=>rfl
 |_,_,k,.cons h r=>by simp only[List.any_cons,i3.FL k r]
theorem i3.snoc{K ρ H}{k:Key}{d:D}{v:V}(h:d5 K ρ H d v){ds vs}(t:i3 K ρ H ds vs):i3 K ρ H (ds++[(k,d)]) (vs++[(k,v)]):=by
 induction ds generalizing vs with
 |nil=>cases t;exact .cons h .nil
 |cons d ds ih =>
  cases t with
  |cons q r=>exact .cons q (ih r)
theorem i3.CK{K ρ H}{k:Key}{d:D}{v:V}(h:d5 K ρ H d v):∀{ds vs},i3 K ρ H ds vs->i3 K ρ H (ds.map λkv=>if kv.1=k then(kv.1,d) else kv) (vs.map λkv=>if kv.1=k then(kv.1,v) else kv)
 |_,_,.nil=>.nil
 |_,_,.cons (k:=k') q r=>by
  simp only[List.map_cons];by_cases e:k'=k
  ·rw[aK e,aK e];exact .cons h (i3.CK h r)
  ·rw[aC e,aC e];exact .cons q (i3.CK h r)
theorem i3.put{K ρ H}{k:Key}{d:D}{v:V}(h:d5 K ρ H d v){ds vs}(r:i3 K ρ H ds vs):i3 K ρ H (putD ds k d) (putK vs k v):=by
 unfold putD putK;rw[r.FL k];split
 ·exact r.CK h
 ·exact r.snoc h
noncomputable abbrev p0(K:PySem.W.Frag)(x:Str)(C:Addr):Prop:=PySem.W.nsIn K mainGlobals x=some (some (.ref C))
theorem i3.look{K ρ H}{ds:List (Str×D)}{vs:List (Str×V)}(f:Str)(h:i3 K ρ H ds vs):qT K ρ H (ds.lookup f) (vs.lookup f):=by
 induction h with
 |nil=>trivial
 |cons h r ih =>
  rename_i k d v ds vs;rw[cC,cC];cases f==k
  ·exact ih
  ·exact h
theorem i3.A1{K ρ H}{f:Str}{d:D}{v:V}(h:d5 K ρ H d v){ds:List (Str×D)}{vs:List (Str×V)}(r:i3 K ρ H ds vs):i3 K ρ H (j6 f d ds) (L2.A1 f v vs):=by
 induction r with
 |nil=>exact .cons h .nil
 |cons q r ih =>
  unfold j6 L2.A1;split
  ·exact .cons h r
  ·exact .cons q ih
theorem Hb{f:Str}{d:D}{p:Str->Prop}(hf:p f):∀{ds:List (Str×D)},(∀x∈ds,p x.1)->∀x∈j6 f d ds,p x.1
 |[],_,x,hx=>by
  have:x=(f,d):=by simpa[j6] using hx
  rw[this];exact hf
 |(k,e)::r,h,x,hx=>by
  unfold j6 at hx;split at hx
  ·rcases aE.mp hx with z|z
   ·rw[z];exact h (k,e) (by simp)
   ·exact h x (by simp[z])
  ·rcases aE.mp hx with z|z
   ·rw[z];exact h (k,e) (by simp)
   ·exact Hb hf (λy hy=>h y (by simp[hy])) x z
def OH(K:PySem.W.Frag)(ρ:List Addr)(H:Hp):O->HO->Prop
 |.lst l,.lst vs=>b9 K ρ H l vs
 |.dN kvs,.dK vs=>i3 K ρ H kvs vs
 |.set S n,.set S' n'=>S=S'/\n=n'
 |.ins c fs,.ins C _ vs=>p0 K c C/\jE K C/\i3 K ρ H fs vs/\∀x∈fs,B1 K C x.1
 |_,_=>False
theorem OH.ext{K ρ H bG H'}(e:Ext ρ H bG H'){o:O}{u:HO}(h:OH K ρ H o u):OH K bG H' o u:=by
 cases o<;>cases u<;>first|exact h.elim|exact b9.ext e h|exact i3.ext e h|exact⟨h.1,h.2.1,h.2.2.1.ext e,h.2.2.2⟩|exact h
theorem OH.sJ{K ρ H}{o:O}{xs:List V}(h:OH K ρ H o (.tup xs)):False:=by cases o<;>exact h
theorem OH.VB{K ρ H}{o:O}{ob:Obj}{u:HO}(h:OH K ρ H o (.jw ob u)):False:=by cases o<;>exact h
def F9(K:PySem.W.Frag)(ρ:List Addr)(H:Hp)(o:O)(a:Addr):Prop:=match o with
 |.nT l=>∃vs,sy K H a vs/\b9 K ρ H l vs
 |o=>∃u,H a=some u/\OH K ρ H o u
theorem F9.of{K ρ H}{o:O}{a:Addr}{u:HO}(hu:H a=some u)(h:OH K ρ H o u):F9 K ρ H o a:=by
 cases o<;>first|exact⟨u,hu,h⟩|(cases u<;>exact h.elim)
theorem F9.inv{K ρ H}{o:O}{a:Addr}(m:o.mut=true)(h:F9 K ρ H o a):∃u,H a=some u/\OH K ρ H o u:=by
 cases o<;>first|exact h|cases m
theorem F9.lst{K ρ H}{l:List D}{a:Addr}(h:F9 K ρ H (.lst l) a):∃vs,H a=some (.lst vs)/\b9 K ρ H l vs:=by
 obtain⟨u,h1,h2⟩:=h;cases u<;>first|exact⟨_,h1,h2⟩|exact h2.elim
theorem F9.dN{K ρ H}{l:List (Key×D)}{a:Addr}(h:F9 K ρ H (.dN l) a):∃vs,H a=some (.dK vs)/\i3 K ρ H l vs:=by
 obtain⟨u,h1,h2⟩:=h;cases u<;>first|exact⟨_,h1,h2⟩|exact h2.elim
theorem F9.set{K ρ H}{S:Int->Bool}{n:Nat}{a:Addr}(h:F9 K ρ H (.set S n) a):H a=some (.set S n):=by
 obtain⟨u,h1,h2⟩:=h;cases u<;>first|(obtain⟨rfl,rfl⟩:=(show _/\_ from h2);exact h1)|exact h2.elim
theorem F9.ins{K ρ H}{c:Str}{fs:List (Str×D)}{a:Addr}(h:F9 K ρ H (.ins c fs) a):∃C dx vs,H a=some (.ins C dx vs)/\p0 K c C/\jE K C/\i3 K ρ H fs vs/\∀x∈fs,B1 K C x.1:=by
 obtain⟨u,h1,h2⟩:=h;cases u<;>first|exact⟨_,_,_,h1,h2⟩|exact h2.elim
structure Rl(K:PySem.W.Frag)(ρ:List Addr)(g:G)(H:Hp):Prop where
 len:ρ.length=g.length
 obj:∀(i:Nat) o a,g[i]?=some o->ρ[i]?=some a->F9 K ρ H o a
 nd:∀(i j:Nat) o o' a,g[i]?=some o->g[j]?=some o'->o.mut=true->o'.mut=true->ρ[i]?=some a->ρ[j]?=some a->i=j
section
variable{K:PySem.W.Frag}{ρ:List Addr}{g:G}{H:Hp}
theorem Rl.lst(R:Rl K ρ g H){i:Nat}{l:List D}{a:Addr}(h:g[i]?=some (.lst l))(ha:ρ[i]?=some a):∃vs,H a=some (.lst vs)/\b9 K ρ H l vs:=(R.obj _ _ _ h ha).lst
theorem Rl.dN(R:Rl K ρ g H){i:Nat}{l:List (Key×D)}{a:Addr}(h:g[i]?=some (.dN l))(ha:ρ[i]?=some a):∃vs,H a=some (.dK vs)/\i3 K ρ H l vs:=(R.obj _ _ _ h ha).dN
theorem Rl.set(R:Rl K ρ g H){i:Nat}{S:Int->Bool}{n:Nat}{a:Addr}(h:g[i]?=some (.set S n))(ha:ρ[i]?=some a):H a=some (.set S n):=(R.obj _ _ _ h ha).set
theorem Rl.ins(R:Rl K ρ g H){i:Nat}{c:Str}{fs:List (Str×D)}{a:Addr}(h:g[i]?=some (.ins c fs))(ha:ρ[i]?=some a):∃C dx vs,H a=some (.ins C dx vs)/\p0 K c C/\jE K C/\i3 K ρ H fs vs/\∀x∈fs,B1 K C x.1:=(R.obj _ _ _ h ha).ins
theorem Rl.items(R:Rl K ρ g H){i:Nat}{l:List D}{a:Addr}(h:c7 g i=some l)(ha:ρ[i]?=some a):∃vs,fB K H a vs/\b9 K ρ H l vs:=by
 cases e:g[i]? with
 |none=>rw[c7,e] at h;cases h
 |some o =>
  rw[c7,e] at h;have q:=R.obj _ _ _ e ha;cases o with
  |lst m=>cases h;obtain⟨vs,z,r⟩:=q.lst;exact⟨vs,fB.of z,r⟩
  |nT m=>cases h;obtain⟨vs,z,r⟩:=q;exact⟨vs,z.sq,r⟩
  |_=>cases h
theorem A4{p:Addr}{o:HO}(hp:H p=none):Ext ρ H ρ (upd H p o):=⟨⟨[],by simp⟩,λa xs h=>by rw[d6 (j9 h hp)];exact h⟩
theorem sy.upd{p a:Addr}{o:HO}{vs:List V}(h:sy K H a vs)(hp:∀ob u,H p≠some (.jw ob u)):sy K (upd H p o) a vs:=by
 rcases h with⟨ob,z⟩|z
 ·refine .inl ⟨ob,?_⟩;rw[d6 ?_]
  ·exact z
  ·intro e;subst e;exact hp _ _ z
 ·exact .inr z
theorem F9.upd{p a:Addr}{o:O}{u:HO}{bG:List Addr}(h:F9 K ρ H o a)(dG:o.mut=true->a≠p)(hp:∀ob u,H p≠some (.jw ob u))(e:Ext ρ H bG (L2.upd H p u)):F9 K bG (L2.upd H p u) o a:=by
 cases hm:o.mut with
 |true =>
  obtain⟨u',h1,h2⟩:=h.inv hm;exact .of (by rw[d6 (dG hm)];exact h1) (h2.ext e)
 |false =>
  cases o<;>first|cases hm|skip
  obtain⟨vs,z,r⟩:=h;exact⟨vs,z.upd hp,r.ext e⟩
theorem Rl.grow{p:Addr}{o:HO}(R:Rl K ρ g H)(hp:H p=none):Rl K ρ g (upd H p o):=by
 have e:Ext ρ H ρ (upd H p o):=A4 hp;refine⟨R.len,λi ob a h1 h2=>?_,R.nd⟩;have q:=R.obj _ _ _ h1 h2;refine q.upd (λhm=>?_) (λob u z=>by rw[hp] at z;cases z) e;obtain⟨u,h1,_⟩:=q.inv hm;exact j9 h1 hp
theorem Rl.C2(R:Rl K ρ g H)(p:Addr):(ρ++[p])[g.length]?=some p:=by rw[<- R.len];simp
theorem M0{p:Addr}{o:HO}(hp:H p=none):Ext ρ H (ρ++[p]) (upd H p o):=⟨⟨[p],rfl⟩,(A4 (ρ:=ρ) hp).tup⟩
theorem Rl.new{p:Addr}{o:O}{u:HO}(R:Rl K ρ g H)(hp:H p=none)(r:OH K ρ H o u):Rl K (ρ++[p]) (g++[o]) (upd H p u):=by
 have e:Ext ρ H (ρ++[p]) (upd H p u):=M0 hp;have old:∀{i:Nat} {ob:O} {a:Addr},g[i]?=some ob->(ρ++[p])[i]?=some a->ρ[i]?=some a:=λ{i ob a} h1 h2=>by
  rw[aF (by rw[R.len];exact(ao.mp h1).1)] at h2;exact h2
 have split:∀{i:Nat} {ob:O},(g++[o])[i]?=some ob->g[i]?=some ob\/(i=g.length/\ob=o):=λ{i ob} h=>by
  rcases dF i g.length with q|q|q
  ·rw[aF q] at h;exact .inl h
  ·subst q;simp at h;exact .inr ⟨rfl,h.symm⟩
  ·rw[aJ (by simp;omega)] at h;cases h
 refine⟨by simp[R.len],λi ob a h1 h2=>?_,λi j o1 o2 a h1 h2 m1 m2 h3 h4=>?_⟩
 ·rcases split h1 with q|⟨rfl,rfl⟩
  ·have z:=R.obj _ _ _ q (old q h2);refine z.upd (λhm=>?_) (λob u z=>by rw[hp] at z;cases z) e;obtain⟨u,h1,_⟩:=z.inv hm;exact j9 h1 hp
  ·rw[R.C2] at h2;cases h2;exact .of p8 (r.ext e)
 ·have nq:∀{i:Nat} {o:O} {a:Addr},g[i]?=some o->o.mut=true->ρ[i]?=some a->a≠p:=λ{i o a} h1 hm h2=>by
   obtain⟨u,z,_⟩:=(R.obj _ _ _ h1 h2).inv hm;exact j9 z hp
  rcases split h1 with q|⟨rfl,_⟩
  ·rcases split h2 with q'|⟨rfl,_⟩
   ·exact R.nd _ _ _ _ _ q q' m1 m2 (old q h3) (old q' h4)
   ·rw[R.C2] at h4;cases h4;exact absurd rfl (nq q m1 (old q h3))
  ·rcases split h2 with q'|⟨rfl,_⟩
   ·rw[R.C2] at h3;cases h3;exact absurd rfl (nq q' m2 (old q' h4))
   ·rfl
theorem Rl.alloc{p:Addr}{l:List D}{vs:List V}(R:Rl K ρ g H)(hp:H p=none)(r:b9 K ρ H l vs):Rl K (ρ++[p]) (g++[.lst l]) (upd H p (.lst vs)):=R.new hp r
theorem Rl.put{i:Nat}{a:Addr}{o o':O}{u:HO}(R:Rl K ρ g H)(h:g[i]?=some o)(hm:o.mut=true)(ha:ρ[i]?=some a)(r:OH K ρ H o' u) :
  Rl K ρ (g.set i o') (upd H a u)/\Ext ρ H ρ (upd H a u):=by
 obtain⟨u0,z0,DL⟩:=(R.obj _ _ _ h ha).inv hm;have e:Ext ρ H ρ (upd H a u):=⟨⟨[],by simp⟩,λb xs q=>by rw[d6];exact q;intro z;subst z;rw[z0] at q;cases q;exact DL.sJ⟩
 refine⟨⟨by simp[R.len],λj ob b h1 h2=>?_,λj k o1 o2 b h1 h2 m1 m2 h3 h4=>?_⟩,e⟩
 ·by_cases ji:i=j
  ·subst ji;rw[ha] at h2;cases h2;have hi:i<g.length:=(ao.mp h).1;rw[aW hi] at h1;cases h1;exact .of p8 (r.ext e)
  ·rw[ax ji] at h1;refine(R.obj _ _ _ h1 h2).upd (λrH ez=>?_) (λob u z=>by rw[z0] at z;cases z;exact DL.VB) e;subst ez;exact ji (R.nd _ _ _ _ _ h h1 hm rH ha h2)
 ·have back:∀{j:Nat} {m:O},(g.set i o')[j]?=some m->m.mut=true->∃m',g[j]?=some m'/\m'.mut=true:=λ{j m} q rH=>by
   by_cases ji:i=j
   ·subst ji;exact⟨o,h,hm⟩
   ·rw[ax ji] at q;exact⟨m,q,rH⟩
  obtain⟨_,q1,n1⟩:=back h1 m1;obtain⟨_,q2,n2⟩:=back h2 m2;exact R.nd _ _ _ _ _ q1 q2 n1 n2 h3 h4
theorem Rl.write{i:Nat}{a:Addr}{l l':List D}{vs:List V}(R:Rl K ρ g H)(h:g[i]?=some (.lst l))(ha:ρ[i]?=some a)(r:b9 K ρ H l' vs) :
  Rl K ρ (g.set i (.lst l')) (upd H a (.lst vs))/\Ext ρ H ρ (upd H a (.lst vs)):=R.put h rfl ha r
end
structure m8(K:PySem.W.Frag)(ρ:List Addr)(H:Hp)(Z:S)(bU:St):Prop where
 len:Z.length=bU.length
 val:∀(i:Nat) d,Z[i]?=some (some d)->∃v,bU[i]?=some (some v)/\d5 K ρ H d v
section
variable{K:PySem.W.Frag}{ρ bG:List Addr}{H H':Hp}
theorem m8.ext{Z bU}(e:Ext ρ H bG H')(r:m8 K ρ H Z bU):m8 K bG H' Z bU:=⟨r.len,λi d h=>let ⟨v,a,b⟩:=r.val i d h;⟨v,a,b.ext e⟩⟩
theorem m8.set{Z bU d v}(r:m8 K ρ H Z bU)(i:Nat)(h:d5 K ρ H d v):m8 K ρ H (Z.set i (some d)) (bU.set i (some v)):=by
 refine⟨by simp[r.len],λj e q=>?_⟩;by_cases ji:i=j
 ·subst ji;have hi:i<Z.length:=by
   have:=(ao.mp q).1;simpa using this
  rw[aW hi] at q;cases q;exact⟨v,by rw[aW (by rw[<- r.len];exact hi)],h⟩
 ·rw[ax ji] at q ⊢;exact r.val j e q
theorem m8.start{ds vs}{n:Nat}(r:b9 K ρ H ds vs):m8 K ρ H (ds.map some++List.replicate (n-ds.length) none) (vs.map some++List.replicate (n-vs.length) none):=by
 refine⟨by simp[r.length],λi d h=>?_⟩;by_cases hi:i<ds.length
 ·rw[aF (by simpa using hi),ag] at h;cases e:ds[i]? with
  |none=>rw[e] at h;cases h
  |some x =>
   rw[e] at h;cases h;obtain⟨v,h1,h2⟩:=r.get e;refine⟨v,?_,h2⟩;rw[aF (by rw[ak,<- r.length];exact hi),ag,h1]
   rfl
 ·rw[cv (by simpa using hi),cY] at h;split at h<;>cases h
theorem m8.c8{Z bU}(r:m8 K ρ H Z bU)(c8:List Nat)(n:Nat):m8 K ρ H (C5 Z c8 n) (B7 bU c8 n):=by
 refine⟨by simp[C5,B7],λi d h=>?_⟩;unfold C5 at h;unfold B7;by_cases hi:i<c8.length
 ·rw[aF (by simpa using hi),ag,aj hi] at h;rw[aF (by simpa using hi),ag,aj hi];simp only[Option.map_some] at h ⊢;cases e:Z[c8[i]]? with
  |none=>rw[e] at h;cases h
  |some x =>
   rw[e] at h;have hx:x=some d:=aM h;subst hx;obtain⟨v,h1,h2⟩:=r.val _ _ e;exact⟨v,by rw[h1];rfl,h2⟩
 ·rw[cv (by simpa using hi),cY] at h;split at h<;>cases h
end
end M

namespace M
open PySem L2 PySem.Spec PyProof.Rows
def LQ(K:PySem.W.Frag)(ρ:List Addr)(H:Hp)(Q:VK):KD:=λd g'=>∀bG H' v,Ext ρ H bG H'->Rl K bG g' H'->d5 K bG H' d v->Q v H'
theorem LQ.ext{K ρ H bO H1 Q d g}(e:Ext ρ H bO H1)(h:LQ K ρ H Q d g):LQ K bO H1 Q d g:=λbG H' v e' R r=>h bG H' v (e.trans e') R r
theorem LQ.now{K ρ H Q d g v}(h:LQ K ρ H Q d g)(R:Rl K ρ g H)(r:d5 K ρ H d v):Q v H:=h ρ H v (.refl _ _) R r
theorem LQ.new{K ρ H Q}{g:G}{l:List D}{vs:List V}{p:Addr}(h:LQ K ρ H Q (.ref g.length) (g++[.lst l]))(R:Rl K ρ g H)(hp:H p=none)(r:b9 K ρ H l vs):Q (.ref p) (upd H p (.lst vs)) :=
 h (ρ++[p]) _ _ (M0 hp) (R.alloc hp r) (.ref (R.C2 p))
theorem LQ.tup{K ρ H Q}{g:G}{l:List D}{vs:List V}{p:Addr}(h:LQ K ρ H Q (.tup l) g)(R:Rl K ρ g H)(hp:H p=none)(r:b9 K ρ H l vs):Q (.ref p) (upd H p (.tup vs)) :=
 h ρ _ _ (A4 hp) (R.grow hp) (.tup (.inl p8) (r.ext (A4 hp)))
def r2(K:PySem.W.Frag)(p:Pr):R2:=λx y H Q=>∃d e g ρ,Rl K ρ g H/\d5 K ρ H d x/\d5 K ρ H e y/\cG p [d,e] g (LQ K ρ H Q)
def r1(K:PySem.W.Frag)(p:Pr):V->Hp->VK->Prop:=λx H Q=>∃d g ρ,Rl K ρ g H/\d5 K ρ H d x/\cG p [d] g (LQ K ρ H Q)
def rN(K:PySem.W.Frag)(p:Pr):List V->Hp->VK->Prop:=λxs H Q=>∃ds g ρ,Rl K ρ g H/\b9 K ρ H ds xs/\cG p ds g (LQ K ρ H Q)
theorem k9{n:Nat}(h:n<=100000):n<=sizeLine:=aD h (by decide)
theorem Bj{n:Nat}(h:n<100000):n<sizeLine:=ay h (by decide)
theorem d5.f9{K ρ H i v}(h:d5 K ρ H (.int i) v):v=.int i:=by cases h;rfl
theorem d5.C8{K ρ H i v}(h:d5 K ρ H (.str i) v):v=.str i:=by cases h;rfl
theorem d5.L3{K ρ H i v}(h:d5 K ρ H (.bl i) v):v=.bl i:=by cases h;rfl
theorem d5.xI{K ρ H v}(h:d5 K ρ H .bC v):v=.bC:=by cases h;rfl
theorem d5.NS{K ρ H n v}(h:d5 K ρ H (.ty n) v):v=.ty n:=by cases h;rfl
theorem d5.j5{K ρ H i v}(h:d5 K ρ H (.ref i) v):∃a,v=.ref a/\ρ[i]?=some a:=by cases h;exact⟨_,rfl,by assumption⟩
theorem d5.K5{K ρ H l v}(h:d5 K ρ H (.tup l) v):∃a vs,v=.ref a/\TupAt K H a vs/\b9 K ρ H l vs:=by cases h;exact⟨_,_,rfl,by assumption,by assumption⟩
theorem b9.one{K ρ H d vs}(h:b9 K ρ H [d] vs):∃v,vs=[v]/\d5 K ρ H d v:=by
 cases h with
 |cons r rr=>cases rr;exact⟨_,rfl,r⟩
theorem b9.two{K ρ H d e vs}(h:b9 K ρ H [d,e] vs):∃v w,vs=[v,w]/\d5 K ρ H d v/\d5 K ρ H e w:=by
 cases h with
 |cons r rr=>obtain⟨w,rfl,q⟩:=rr.one;exact⟨_,_,rfl,r,q⟩
theorem x8{a b c d:D}(h:[a,b]=[c,d]):a=c/\b=d:=by cases h;exact⟨rfl,rfl⟩
section
variable{X:Cx}
theorem OQ(op:Operator):fq X (binaryOp op) (r2 X.K (.bin op)):=by
 intro pins s Z H x y v u Q I rx ry h;obtain⟨d,e,g,ρ,R,rd,re,d',g',h,q⟩:=h;rcases h with⟨i,j,r,ex,ha,rfl,rfl⟩|⟨rfl,h⟩|⟨rfl,h⟩
 ·obtain⟨rfl,rfl⟩:=x8 ex;obtain rfl:=rd.f9;obtain rfl:=re.f9;have fin:=q.now R (.int r);cases op<;>first|exact(show False from ha).elim|skip
  ·cases ha;exact OO pins s Z H _ _ v u Q I rx ry ⟨i,j,rfl,rfl,fin⟩
  ·cases ha;exact OY pins s Z H _ _ v u Q I rx ry ⟨i,j,rfl,rfl,fin⟩
  ·obtain⟨hc,rfl⟩:=ha;exact OU pins s Z H _ _ v u Q I rx ry ⟨i,j,rfl,rfl,hc,fin⟩
  ·obtain⟨hc,rfl⟩:=ha;exact OT pins s Z H _ _ v u Q I rx ry ⟨i,j,rfl,rfl,hc,fin⟩
  ·obtain⟨hc,rfl⟩:=ha;exact OV pins s Z H _ _ v u Q I rx ry ⟨i,j,rfl,rfl,hc,fin⟩
  ·obtain⟨hc,rfl⟩:=ha;exact OX pins s Z H _ _ v u Q I rx ry ⟨i,j,rfl,rfl,hc,fin⟩
  ·cases ha;exact VG pins s Z H _ _ v u Q I rx ry ⟨i,j,rfl,rfl,fin⟩
  ·cases ha;exact OP pins s Z H _ _ v u Q I rx ry ⟨i,j,rfl,rfl,fin⟩
  ·obtain⟨hc,rfl⟩:=ha;exact RB pins s Z H _ _ v u Q I rx ry ⟨i,j,rfl,rfl,hc,fin⟩
 ·rcases h with⟨l,m,ex,hz,rfl,rfl⟩|⟨a,b,l,m,ex,ha,hb,hz,rfl,rfl⟩|⟨x',y',ex,hz,rfl,rfl⟩
  ·obtain⟨rfl,rfl⟩:=x8 ex;obtain⟨a,vs,rfl,ta,rs⟩:=rd.K5;obtain⟨b,ws,rfl,tb,rt⟩:=re.K5;refine ZW pins s Z H _ _ v u Q I rx ry ⟨a,b,vs,ws,rfl,rfl,ta.sq,tb.sq,?_,λz=>?_,λz=>?_,λp hp=>q.tup R hp (rs.append rt)⟩
   ·rw[<- rs.length,<- rt.length];exact k9 hz
   ·subst z;cases rs;exact q.now R (.tup tb rt)
   ·subst z;cases rt;rw[eG] at q;exact q.now R (.tup ta rs)
  ·obtain⟨rfl,rfl⟩:=x8 ex;obtain⟨a',rfl,ra⟩:=rd.j5;obtain⟨b',rfl,rb⟩:=re.j5;obtain⟨vs,z1,rs⟩:=R.lst ha ra;obtain⟨ws,z2,rt⟩:=R.lst hb rb;exact OR pins s Z H _ _ v u Q I rx ry ⟨_,_,vs,ws,rfl,rfl,z1,z2,by rw[<- rs.length,<- rt.length];exact k9 hz,λp hp=>q.new R hp (rs.append rt)⟩
  ·obtain⟨rfl,rfl⟩:=x8 ex;obtain rfl:=rd.C8;obtain rfl:=re.C8;exact Yv pins s Z H _ _ v u Q I rx ry ⟨_,_,rfl,rfl,k9 hz,q.now R (.str _)⟩
 ·rcases h with⟨a,l,n,ex,ha,h1,h2,hz,rfl,rfl⟩|⟨l,n,ex,dG,h1,h2,hz,rfl,rfl⟩
  rotate_left
  ·obtain⟨rfl,rfl⟩:=x8 ex;obtain⟨a',vs,rfl,ta,rs⟩:=rd.K5;obtain rfl:=re.f9;refine RD pins s Z H _ _ v u Q I rx ry ⟨_,_,vs,rfl,rfl,ta.sq,λz=>?_,h1,h2,by rw[<- rs.length];exact k9 hz,λz=>?_,λp hp=>q.tup R hp (rs.rep _)⟩
   ·subst z;cases rs;exact dG rfl
   ·subst z;have:(List.replicate (Int.toNat 1) l).flatten=l:=by simp
    rw[this] at q;exact q.now R (.tup ta rs)
  obtain⟨rfl,rfl⟩:=x8 ex;obtain⟨a',rfl,ra⟩:=rd.j5;obtain rfl:=re.f9;obtain⟨vs,z1,rs⟩:=R.lst ha ra;exact OW pins s Z H _ _ v u Q I rx ry ⟨_,_,vs,rfl,rfl,z1,by omega,by omega,by rw[<- rs.length];exact k9 hz,λp hp=>q.new R hp (rs.rep _)⟩
theorem VH(op:UnaryOp):yo X (unaryOp op) (r1 X.K (.un op)):=by
 intro pins s Z H x v Q I rx h;obtain⟨d,g,ρ,R,rd,d',g',⟨rfl,i,ex,rfl,rfl⟩,q⟩:=h;cases ex;obtain rfl:=rd.f9;exact QK pins s Z H _ v Q I rx ⟨_,rfl,q.now R (.int _)⟩
section
variable{ρ:List Addr}{g:G}{H:Hp}{pins:List (Addr×Obj)}{Z:L2.St}{s:Shared}
theorem Hr(I:Inv X pins Z H s)(R:Rl X.K ρ g H)(n:Nat)(ih:∀{d:D} {v:V} {u:Value} {p:PyData},rd g n d=some p->d5 X.K ρ H d v->RelV v u->∃as,Reads s.heap u p as/\p.depth<=n){l:List D}:∀{vs:List V} {us:List Value} {ps:List PyData},l.mapM (rd g n)=some ps->b9 X.K ρ H l vs->Vals vs us->∃as,ReadsAll s.heap us ps as/\PyData.depthAll ps<=n:=by
 induction l with
 |nil =>
  intro vs us ps h rs rv;cases rs;cases rv;simp at h;subst h;exact⟨_,.nil,cM _⟩
 |cons d l il =>
  intro vs us ps h rs rv;cases rs with
  |cons gQ rs =>
   cases rv with
   |cons ru rv =>
    rw[List.mapM_cons] at h;cases e:rd g n d with
    |none=>rw[e] at h;cases h
    |some p =>
     rw[e] at h;cases e2:l.mapM (rd g n) with
     |none=>rw[e2] at h;cases h
     |some qs =>
      rw[e2] at h;cases h;obtain⟨as,q1,d1⟩:=ih e gQ ru;obtain⟨bs,q2,d2⟩:=il e2 rs rv;refine⟨_,.cons q1 q2,?_⟩;simp only[PyData.depthAll];omega
theorem R7(I:Inv X pins Z H s)(R:Rl X.K ρ g H)(n:Nat):∀{d:D} {v:V} {u:Value} {p:PyData},rd g n d=some p->d5 X.K ρ H d v->RelV v u->∃as,Reads s.heap u p as/\p.depth<=n:=by
 induction n with
 |zero =>
  intro d v u p h r ru;cases r with
  |bC=>simp only[rd] at h;cases h;cases ru;exact⟨_,.none,Nat.zero_le _⟩
  |bl b=>simp only[rd] at h;cases h;cases ru;exact⟨_,.bool b,Nat.zero_le _⟩
  |int i=>simp only[rd] at h;cases h;obtain⟨t,rfl⟩:=ru;exact⟨_,.int i t,Nat.zero_le _⟩
  |str x=>simp only[rd] at h;cases h;obtain⟨t,rfl⟩:=ru;exact⟨_,.str x t,Nat.zero_le _⟩
  |_=>simp only[rd] at h;cases h
 |succ n ih =>
  intro d v u p h r ru;cases r with
  |bC=>simp only[rd] at h;cases h;cases ru;exact⟨_,.none,Nat.zero_le _⟩
  |bl b=>simp only[rd] at h;cases h;cases ru;exact⟨_,.bool b,Nat.zero_le _⟩
  |int i=>simp only[rd] at h;cases h;obtain⟨t,rfl⟩:=ru;exact⟨_,.int i t,Nat.zero_le _⟩
  |str x=>simp only[rd] at h;cases h;obtain⟨t,rfl⟩:=ru;exact⟨_,.str x t,Nat.zero_le _⟩
  |ty x=>simp only[rd] at h;cases h
  |ref ha =>
   rename_i i a;simp only[rd] at h;cases e:c7 g i with
   |none=>rw[e] at h;cases h
   |some l =>
    rw[e] at h;dsimp only at h;cases e2:l.mapM (rd g n) with
    |none=>rw[e2] at h;cases h
    |some ps =>
     rw[e2] at h;cases h;cases ru;obtain⟨vs,hq,rs⟩:=R.items e ha;obtain⟨aX,rv,p,hz⟩:=I.list hq;obtain⟨as,q,hd⟩:=Hr I R n ih e2 rs rv;obtain⟨o,ho,hc,k,qh⟩:=p.isList;refine⟨_,.list ho hc qh (by simpa using q),?_⟩;simp only[PyData.depth];omega
  |tup ht rs =>
   rename_i l a vs;simp only[rd] at h;cases e2:l.mapM (rd g n) with
   |none=>rw[e2] at h;cases h
   |some ps =>
    rw[e2] at h;cases h;cases ru;obtain⟨aX,rv,pt,hz⟩:=I.tuple ht.sq;obtain⟨as,q,hd⟩:=Hr I R n ih e2 rs rv;obtain⟨o,ho,hc,k,qh⟩:=id pt;refine⟨_,.tuple ho hc qh (by simpa using q),?_⟩;simp only[PyData.depth];omega
end
end
section
variable{X:Cx}
theorem xR{α:Type}[BEq α][LawfulBEq α][DecidableEq α](a b:α):decide (a=b)=(a==b):=by
 by_cases e:a=b
 ·subst e;simp
 ·rw[az e];exact(cX.mpr e).symm
theorem X2{K ρ H}{d:D}{v:V}{c:Key}(h:V6 d=some c)(r:d5 K ρ H d v):v=kV c:=by
 cases r<;>first|(cases h;rfl)|cases h
theorem qT.some{K ρ H}{o:Option V}{d:D}(h:qT K ρ H (some d) o):∃v,o=some v/\d5 K ρ H d v:=by
 cases o with
 |none=>exact h.elim
 |some v=>exact⟨v,rfl,h⟩
theorem qT.isSome{K ρ H}{o:Option V}{d:Option D}(h:qT K ρ H d o):d.isSome=o.isSome:=by
 cases o<;>cases d<;>first|rfl|exact h.elim
theorem Jg{pins:List (Addr×Obj)}{s:Shared}{Z:L2.St}{H:Hp}{ρ:List Addr}{g:G}{d e:D}{x y:V}{v u:Value}{b:Bool}{Q:VK}(hu:X.A.units+100<cLine)(I:Inv X pins Z H s)(rx:RelV x v)(ry:RelV y u)(R:Rl X.K ρ g H)(gQ:d5 X.K ρ H d x)(re:d5 X.K ρ H e y)(h:ve g d e b)(neg:Bool)(q:Q (.bl (xor neg b)) H):wpAny (model X.prog X.w) X.A (compareOp (if neg then .NotEq else .Eq) v u) (EP X pins Z Q) X.xe s:=by
 rcases h with⟨i,j,rfl,rfl,rfl⟩|⟨i,j,rfl,rfl,rfl⟩|⟨i,j,rfl,rfl,rfl⟩|⟨p,p',h1,h2,c1,c2,rfl⟩
 ·obtain rfl:=gQ.f9;obtain rfl:=re.f9;cases neg
  ·exact Cg pins s Z H _ _ v u Q I rx ry ⟨rfl,by rw[xS];simpa[xR] using q⟩
  ·exact Ci pins s Z H _ _ v u Q I rx ry ⟨rfl,by rw[xS];simpa[xR] using q⟩
 ·obtain rfl:=gQ.L3;obtain rfl:=re.L3;cases neg
  ·exact Cg pins s Z H _ _ v u Q I rx ry ⟨rfl,by rw[xF];simpa using q⟩
  ·exact Ci pins s Z H _ _ v u Q I rx ry ⟨rfl,by rw[xF];simpa using q⟩
 ·obtain rfl:=gQ.C8;obtain rfl:=re.C8;cases neg
  ·exact Cg pins s Z H _ _ v u Q I rx ry ⟨rfl,by rw[xT];simpa[xR] using q⟩
  ·exact Ci pins s Z H _ _ v u Q I rx ry ⟨rfl,by rw[xT];simpa[xR] using q⟩
 ·obtain⟨as,q1,d1⟩:=R7 I R 6 h1 gQ rx;obtain⟨bs,q2,d2⟩:=R7 I R 6 h2 re ry;have hr:X.A.units+min p.depth p'.depth<cLine:=by omega
  cases neg
  ·exact SeqAt.compareEq_reads q1 q2 c1 c2 hr ⟨.bl _,H,I,rfl,by simpa using q⟩
  ·exact SeqAt.compareNe_reads q1 q2 c1 c2 hr ⟨.bl _,H,I,rfl,by simpa using q⟩
theorem in_of{pins:List (Addr×Obj)}{s:Shared}{Z:L2.St}{H:Hp}{ρ:List Addr}{g:G}{d e:D}{x y:V}{v u:Value}{b:Bool}{Q:VK}(hu:X.A.units+100<cLine)(I:Inv X pins Z H s)(rx:RelV x v)(ry:RelV y u)(R:Rl X.K ρ g H)(gQ:d5 X.K ρ H d x)(re:d5 X.K ρ H e y)(h:inR g d e b)(neg:Bool)(q:Q (.bl (xor neg b)) H):wpAny (model X.prog X.w) X.A (compareOp (if neg then .NotIn else .In) v u) (EP X pins Z Q) X.xe s:=by
 rcases h with⟨a,kvs,c,rfl,ha,hc,rfl⟩|⟨l,ps,p,h0,h1,h2,c1,c2,rfl⟩
 ·obtain⟨a',rfl,ra⟩:=re.j5;obtain⟨vs,z,rs⟩:=R.dN ha ra;have:=X2 hc gQ;subst this;cases ry;rw[(rs.val c).isSome] at q;cases neg
  ·exact Tg (by omega) I (O1.k z) rx λs' I'=>⟨.bl _,H,I',rfl,by simpa using q⟩
  ·exact QZ (by omega) I (O1.k z) rx λs' I'=>⟨.bl _,H,I',rfl,by simpa using q⟩
 ·obtain⟨as,q1,d1⟩:=R7 I R 6 h2 gQ rx;cases e with
  |tup m =>
   cases h0;have h3:rd g 7 (.tup l)=some (.tuple ps):=by simp only[rd];rw[show l.mapM (rd g 6)=some ps from h1];rfl
   obtain⟨bs,q2,d2⟩:=R7 I R 7 h3 re ry;have hr:X.A.units+1+min (PyData.depthAll ps) p.depth<cLine:=by omega
   cases neg
   ·exact SeqAt.in_tuple_reads q2 q1 c1 c2 hr ⟨.bl _,H,I,rfl,by simpa using q⟩
   ·exact SeqAt.notIn_tuple_reads q2 q1 c1 c2 hr ⟨.bl _,H,I,rfl,by simpa using q⟩
  |ref a =>
   have h3:rd g 7 (.ref a)=some (.list ps):=by
    simp only[rd];rw[show c7 g a=some l from h0];dsimp only;rw[show l.mapM (rd g 6)=some ps from h1]
    rfl
   obtain⟨bs,q2,d2⟩:=R7 I R 7 h3 re ry;have hr:X.A.units+1+min (PyData.depthAll ps) p.depth<cLine:=by omega
   cases neg
   ·exact SeqAt.in_list_reads q2 q1 c1 c2 hr ⟨.bl _,H,I,rfl,by simpa using q⟩
   ·exact SeqAt.notIn_list_reads q2 q1 c1 c2 hr ⟨.bl _,H,I,rfl,by simpa using q⟩
  |_=>cases h0
theorem W8(hu:X.A.units+100<cLine)(op:CmpOp):fq X (compareOp op) (r2 X.K (.cmp op)):=by
 intro pins s Z H x y v u Q I rx ry h;obtain⟨d,e,g,ρ,R,gQ,re,d',g',⟨x',y',b,ex,h,rfl,rfl⟩,q⟩:=h;obtain⟨rfl,rfl⟩:=x8 ex;have fin:=q.now R (.bl b);have nK:∀{P:Int->Int->Bool},(∃i j,d=.int i/\e=.int j/\b=P i j)->∃i j,x=.int i/\y=.int j/\b=P i j:=λhh=>by
  obtain⟨i,j,z1,z2,z3⟩:=hh;exact⟨i,j,(z1▸gQ).f9,(z2▸re).f9,z3⟩
 cases op
 ·exact Jg hu I rx ry R gQ re h false (by simpa using fin)
 ·exact Jg hu I rx ry R gQ re h true (by simpa using fin)
 ·obtain⟨i,j,e1,e2,e3⟩:=nK (P:=λi j=>decide (i<j)) h;exact VF pins s Z H _ _ v u Q I rx ry ⟨i,j,e1,e2,by subst e3;exact fin⟩
 ·obtain⟨i,j,e1,e2,e3⟩:=nK (P:=λi j=>decide (i<=j)) h;exact VE pins s Z H _ _ v u Q I rx ry ⟨i,j,e1,e2,by subst e3;exact fin⟩
 ·obtain⟨i,j,e1,e2,e3⟩:=nK (P:=λi j=>decide (j<i)) h;exact VD pins s Z H _ _ v u Q I rx ry ⟨i,j,e1,e2,by subst e3;exact fin⟩
 ·obtain⟨i,j,e1,e2,e3⟩:=nK (P:=λi j=>decide (j<=i)) h;exact VC pins s Z H _ _ v u Q I rx ry ⟨i,j,e1,e2,by subst e3;exact fin⟩
 ·obtain⟨rfl,rfl⟩:=(show _/\_ from h)
  obtain rfl:=re.xI;refine OS pins s Z H _ _ v u Q I rx ry ⟨rfl,?_⟩;have e:M7 d=decide (x=V.bC):=by cases gQ<;>simp[M7]
  rw[<- e];exact fin
 ·obtain⟨rfl,rfl⟩:=(show _/\_ from h)
  obtain rfl:=re.xI;refine RC pins s Z H _ _ v u Q I rx ry ⟨rfl,?_⟩;have e:M7 d=decide (x=V.bC):=by cases gQ<;>simp[M7]
  rw[<- e];exact fin
 ·rcases h with h|⟨a,S,n,i,rfl,ha,rfl,rfl⟩
  ·exact in_of hu I rx ry R gQ re h false (by simpa using fin)
  ·obtain⟨a',rfl,ra⟩:=re.j5;obtain rfl:=gQ.f9;exact Xr pins s Z H _ _ v u Q I rx ry ⟨i,a',S,n,rfl,rfl,R.set ha ra,fin⟩
 ·rcases h with h|⟨a,S,n,i,rfl,ha,rfl,hb⟩
  ·exact in_of hu I rx ry R gQ re h true (by simpa using fin)
  ·obtain⟨a',rfl,ra⟩:=re.j5;obtain rfl:=gQ.f9;exact Zu pins s Z H _ _ v u Q I rx ry ⟨i,a',S,n,rfl,rfl,R.set ha ra,by rw[<- hb,sY];exact fin⟩
theorem empty_eq{K ρ H}{l:List D}{vs:List V}(r:b9 K ρ H l vs):l.isEmpty=vs.isEmpty:=by cases r<;>rfl
theorem QH{K:PySem.W.Frag}{ρ:List Addr}{g:G}{H:Hp}{d:D}{x:V}{b:Bool}(R:Rl K ρ g H)(r:d5 K ρ H d x)(h:FI g d b):CP K x H b:=by
 rcases h with⟨rfl,rfl⟩|rfl|⟨i,rfl,rfl⟩|⟨l,rfl,rfl⟩|⟨a,l,rfl,hl,rfl⟩
 ·obtain rfl:=r.xI;rfl
 ·obtain rfl:=r.L3;rfl
 ·obtain rfl:=r.f9;rfl
 ·obtain⟨a,vs,rfl,ht,rs⟩:=r.K5;exact .inr (.inl ⟨_,ht.sq,by rw[empty_eq rs]⟩)
 ·obtain⟨a',rfl,ha⟩:=r.j5;obtain⟨vs,hq,rs⟩:=R.items hl ha;exact .inl ⟨_,hq,by rw[empty_eq rs]⟩
theorem QT{K ρ H}{l:List D}{vs:List V}{i:Int}{d:D}(r:b9 K ρ H l vs)(h:fL l i=some d):∃v,fL vs i=some v/\d5 K ρ H d v:=by
 unfold fL at h ⊢;rw[<- r.length];cases e:kr l.length i with
 |none=>rw[e] at h;cases h
 |some j =>
  rw[e] at h;exact r.get h
theorem xK{K ρ H}{g:G}{x:D}{v:V}{l:List D}(R:Rl K ρ g H)(r:d5 K ρ H x v)(h:J1 g x=some l):∃a vs,v=.ref a/\b9 K ρ H l vs/\((∃i,x=.ref i/\ρ[i]?=some a)/\fB K H a vs\/x=.tup l/\TupAt K H a vs):=by
 cases r with
 |tup ht rs=>cases h;exact⟨_,_,rfl,rs,.inr ⟨rfl,ht⟩⟩
 |ref ha=>obtain⟨vs,hq,rs⟩:=R.items h ha;exact⟨_,_,rfl,rs,.inl ⟨⟨_,rfl,ha⟩,hq⟩⟩
 |_=>cases h
theorem Vn(hu:X.A.units+100<cLine):rf X (r2 X.K .ix):=by
 intro value slice pins s Z H x y v u Q I rx ry h hs;obtain⟨d,e,g,ρ,R,gQ,re,d',g',⟨rfl,h⟩,q⟩:=h;rcases h with⟨x',l,i,ex,hl,ha⟩|⟨a,kvs,y',c,ex,ha,hc,hv⟩|⟨x',i,c,ex,h0,h1,rfl⟩
 ·obtain⟨rfl,rfl⟩:=x8 ex;obtain rfl:=re.f9;obtain⟨a,vs,rfl,rs,h⟩:=xK R gQ hl;obtain⟨w,hw,fJ⟩:=QT rs ha;rcases h with⟨_,hq⟩|⟨_,ht⟩
  ·exact Rn value slice pins s Z H _ _ v u Q I rx ry ⟨_,_,i,w,rfl,rfl,hq,hw,q.now R fJ⟩ hs
  ·exact Ow value slice pins s Z H _ _ v u Q I rx ry ⟨_,_,i,w,rfl,rfl,ht.sq,hw,q.now R fJ⟩ hs
 ·obtain⟨rfl,rfl⟩:=x8 ex;obtain⟨a',rfl,ra⟩:=gQ.j5;obtain⟨vs,z,rs⟩:=R.dN ha ra;have:=X2 hc re;subst this;have q2:=rs.val c;rw[hv] at q2;obtain⟨w,hw,fJ⟩:=q2.some;exact Rm (by omega) value slice pins s Z H _ _ v u Q I rx ry ⟨_,w,rfl,by have:=O1.k (k:=c) z;rw[hw] at this;exact this,q.now R fJ⟩ hs
 ·obtain⟨rfl,rfl⟩:=x8 ex;obtain rfl:=gQ.C8;obtain rfl:=re.f9;exact Ov value slice pins s Z H _ _ v u Q I rx ry ⟨x',i,c,rfl,rfl,k9 h0,h1,q.now R (.str _)⟩ hs
end
end M

namespace M
open PySem L2 PySem.Spec PyProof.Rows
section
variable{X:Cx}
def Kq(K:PySem.W.Frag):V->Option Int->Option Int->Hp->VK->Prop:=λx lo hi H Q=>∃d g ρ d' g',Rl K ρ g H/\d5 K ρ H d x/\tK d lo hi g d' g'/\LQ K ρ H Q d' g'
theorem Cm:vV X (Kq X.K):=by
 intro pins s Z H x v vl vu lo hi sl Q I rx hs pl pu h;obtain⟨d,g,ρ,d',g',R,gQ,h,q⟩:=h;rcases h with⟨l,rfl,rfl,rfl⟩|⟨a,l,rfl,hl,rfl,rfl⟩
 ·obtain⟨a,vs,rfl,ht,rs⟩:=gQ.K5;refine Sx pins s Z H _ v vl vu lo hi sl Q I rx hs pl pu ⟨_,_,rfl,ht.sq,λz=>?_,λp hp=>q.tup R hp (rs.cut lo hi)⟩;refine q.now R (.tup ht ?_);have:=rs.cut lo hi;rw[z] at this;exact this
 ·obtain⟨a',rfl,ha⟩:=gQ.j5;obtain⟨vs,hq,rs⟩:=R.items hl ha;exact Sw pins s Z H _ v vl vu lo hi sl Q I rx hs pl pu ⟨_,_,rfl,hq,λp hp=>q.new R hp (rs.cut lo hi)⟩
def Ub(K:PySem.W.Frag):V->V->V->Hp->(Hp->Prop)->Prop:=λo i v H Q=>∃AB di dv g ρ,Rl K ρ g H/\d5 K ρ H AB o/\d5 K ρ H di i/\d5 K ρ H dv v/\U9 AB di dv g (λg'=>∀bG H',Ext ρ H bG H'->Rl K bG g' H'->Q H')
theorem Qh(hu:X.A.units+100<cLine):CN X (Ub X.K):=by
 intro pins s Z H o i v ov iv u Q I ro ri rv h;obtain⟨AB,di,dv,g,ρ,R,r1,r2,r3,g',h,q⟩:=h;rcases h with⟨a,i',l,j,rfl,rfl,hl,hj,rfl⟩|⟨a,kvs,c,rfl,ha,hc,hz,rfl⟩
 ·obtain⟨a',rfl,ha⟩:=r1.j5;obtain rfl:=r2.f9;obtain⟨vs,z,rs⟩:=R.lst hl ha;obtain⟨R',e'⟩:=R.write hl ha (rs.set r3 j);exact set_list pins s Z H _ _ _ ov iv u Q I ro ri rv ⟨_,vs,_,j,rfl,rfl,z,by rw[<- rs.length];exact hj,q ρ _ e' R'⟩
 ·obtain⟨a',rfl,ra⟩:=r1.j5;obtain⟨vs,z,rs⟩:=R.dN ha ra;have:=X2 hc r2;subst this;obtain⟨R',e'⟩:=R.put (o':=.dN (putD kvs c dv)) (u:=.dK (putK vs c v)) ha rfl ra (rs.put r3);cases ro;exact WW (by omega) I (yg.k z (by rw[<- rs.length];exact Bj hz)) ri rv λs' I'=>⟨_,I',q ρ _ e' R'⟩
theorem OD:l9 X (.builtin "len") (rN X.K .len):=by
 intro pins s Z H xs us Q I r h;obtain⟨ds,g,ρ,R,rs,d',g',⟨rfl,h⟩,q⟩:=h;rcases h with⟨x,l,rfl,hl,rfl⟩|⟨a,kvs,rfl,ha,rfl⟩|⟨x,rfl,hz,rfl⟩
 ·obtain⟨v,rfl,rv⟩:=rs.one;obtain⟨a,vs,rfl,rl,h⟩:=xK R rv hl;refine Zj pins s Z H _ us Q I r ⟨_,_,rfl,?_,by rw[<- rl.length];exact q.now R (.int _)⟩;exact h.imp (λz=>z.2) (λz=>z.2.sq)
 ·obtain⟨v,rfl,rv⟩:=rs.one;obtain⟨a',rfl,ra⟩:=rv.j5;obtain⟨vs,z,rk⟩:=R.dN ha ra;exact WN pins s Z H _ us Q I r ⟨_,_,rfl,z,by rw[<- rk.length];exact q.now R (.int _)⟩
 ·obtain⟨v,rfl,rv⟩:=rs.one;obtain rfl:=rv.C8;exact Zk pins s Z H _ us Q I r ⟨_,rfl,k9 hz,q.now R (.int _)⟩
theorem Rp:l9 X (.type "list") (rN X.K .list):=by
 intro pins s Z H xs us Q I r h;obtain⟨ds,g,ρ,R,rs,d',g',⟨x,l,rfl,hl,rfl,rfl⟩,q⟩:=h;obtain⟨v,rfl,rv⟩:=rs.one;obtain⟨a,vs,rfl,rl,h⟩:=xK R rv hl;exact Zl pins s Z H _ us Q I r ⟨_,_,rfl,h.imp (λz=>z.2) (λz=>z.2.sq),λp hp=>q.new R hp rl⟩
theorem a00:l9 X (.type "tuple") (rN X.K .tuple):=by
 intro pins s Z H xs us Q I r h;obtain⟨ds,g,ρ,R,rs,d',g',⟨x,l,rfl,hl,rfl,rfl⟩,q⟩:=h;obtain⟨v,rfl,rv⟩:=rs.one;obtain⟨a,vs,rfl,rl,h⟩:=xK R rv hl;refine We pins s Z H _ us Q I r ⟨a,vs,rfl,?_⟩;exact h.imp (λz=>⟨z.2,λp hp=>q.tup R hp rl⟩) (λz=>⟨z.2.sq,q.now R (.tup z.2 rl)⟩)
theorem Rk:l9 X (.builtin "isinstance") (rN X.K .isin):=by
 intro pins s Z H xs us Q I r h;obtain⟨ds,g,ρ,R,rs,d',g',⟨x,c,b,rfl,hc,hb,rfl,rfl⟩,q⟩:=h;obtain⟨v,w,rfl,r1,r2⟩:=rs.two;obtain rfl:=r2.NS;have fin:=q.now R (.bl b);have go:∀(t:Value) (v:V),gx X.K H v t->PySem.W.kitOne X.K t (.type c)=some b->Vals [v,V.ty c] us->wpAny (model X.prog X.w) X.A (call (.builtin "isinstance") us) (EP X pins Z Q) X.xe s :=
  λt v ht hk r=>YU pins s Z H _ us Q I r ⟨v,t,c,b,rfl,ht,hk,fin⟩
 simp only[List.mem_cons,List.mem_nil_iff,or_false] at hc;cases r1 with
 |bC=>refine go _ _ .bC ?_ r;cases hb;rcases hc with rfl|rfl|rfl|rfl|rfl<;>rfl
 |bl y=>refine go _ _ (.bl y) ?_ r;cases hb;rcases hc with rfl|rfl|rfl|rfl|rfl<;>rfl
 |int y=>refine go _ _ (.int y) ?_ r;cases hb;rcases hc with rfl|rfl|rfl|rfl|rfl<;>rfl
 |str y=>refine go _ _ (.str y) ?_ r;cases hb;rcases hc with rfl|rfl|rfl|rfl|rfl<;>rfl
 |ty _=>cases hb
 |tup ht rs =>
  cases hb;rcases ht with ht|ht
  ·refine go _ _ (.tup ht) ?_ r;rcases hc with rfl|rfl|rfl|rfl|rfl<;>rfl
  ·obtain⟨o,aX,n,lk,jD,_⟩:=ht;obtain⟨u,w',rfl,ru,fJ⟩:=vals2 r;cases (show w'=Value.type c from fJ);cases ru;have hk:PySem.W.kitOne X.K (.type "tuple") (.type c)=some (c=="tuple"):=by rcases hc with rfl|rfl|rfl|rfl|rfl<;>rfl
   exact bR JK I.gs ⟨o,I.gs _ _ lk,jD⟩ hk (λz=>nomatch z) λtk=>⟨.bl _,H,I.tok tk,rfl,fin⟩
 |@ref i a ha =>
  have uN:∃m,g'[i]?=some (.lst m)/\b=(c=="list"):=by
   simp only[qQ] at hb;split at hb
   ·exact⟨_,by assumption,(aM hb).symm⟩
   ·cases hb
  obtain⟨m,e,rfl⟩:=uN;obtain⟨vs,z,_⟩:=R.lst e ha;refine go _ _ (.lst z) ?_ r;rcases hc with rfl|rfl|rfl|rfl|rfl<;>rfl
theorem XY:∀{l:List D} {b:Bool},U7 l=some b->∃bs:List Bool,l=bs.map D.bl/\b=bs.all id:=by
 intro l
 induction l with
 |nil=>intro b h;cases h;exact⟨[],rfl,rfl⟩
 |cons d r ih =>
  intro b h;cases d<;>first|(cases h;done)|skip
  rename_i c;simp only[U7] at h;cases e:U7 r with
  |none=>rw[e] at h;cases h
  |some b' =>
   rw[e] at h;cases h;obtain⟨bs,rfl,rfl⟩:=ih e;exact⟨c::bs,rfl,by simp⟩
theorem b9.Qs{K ρ H}:∀{bs:List Bool} {vs:List V},b9 K ρ H (bs.map D.bl) vs->vs=bs.map V.bl:=by
 intro bs
 induction bs with
 |nil=>intro vs h;cases h;rfl
 |cons b r ih =>
  intro vs h;cases h with
  |cons h rr=>rw[ih rr,h.L3];rfl
theorem Ob(hc:X.calm=true):l9 X (.builtin "all") (rN X.K .all):=by
 intro pins s Z H xs us Q I r h;obtain⟨ds,g,ρ,R,rs,d',g',⟨a,l,b,rfl,hl,hb,rfl,rfl⟩,q⟩:=h;obtain⟨v,rfl,rv⟩:=rs.one;obtain⟨a',rfl,ra⟩:=rv.j5;obtain⟨vs,hq,rs⟩:=R.items hl ra;rcases hb with hb|⟨ns,rfl,rfl⟩
 rotate_left
 ·have:=rs.ints;subst this;exact WM hc pins s Z H _ us Q I r ⟨_,ns,rfl,hq,q.now R (.bl _)⟩
 obtain⟨bs,rfl,rfl⟩:=XY hb;have:=rs.Qs;subst this;exact WL hc pins s Z H _ us Q I r ⟨_,bs,rfl,hq,q.now R (.bl _)⟩
theorem i3.keys{α:Type}{K ρ H}{ds:List (α×D)}{vs:List (α×V)}(h:i3 K ρ H ds vs):ds.map (·.1)=vs.map (·.1):=by
 induction h with
 |nil=>rfl
 |cons _ _ ih=>rw[bg,bg,ih]
theorem OJ(hc:X.calm=true):l9 X (.builtin "max") (rN X.K .max):=by
 intro pins s Z H xs us Q I r h;obtain⟨ds,g,ρ,R,rs,d',g',⟨rfl,⟨i,j,rfl,rfl⟩|⟨a,ns,M,rfl,hl,h1,h2,rfl⟩⟩,q⟩:=h
 rotate_left
 ·obtain⟨v,rfl,rv⟩:=rs.one;obtain⟨a',rfl,ra⟩:=rv.j5;obtain⟨vs,hq,rs⟩:=R.items hl ra;have:=rs.ints;subst this;exact WQ hc pins s Z H _ us Q I r ⟨_,ns,M,rfl,hq,h1,h2,q.now R (.int _)⟩
 obtain⟨v,w,rfl,r1,r2⟩:=rs.two;obtain rfl:=r1.f9;obtain rfl:=r2.f9;exact WO hc pins s Z H _ us Q I r ⟨i,j,rfl,q.now R (.int _)⟩
theorem OK(hc:X.calm=true):l9 X (.builtin "min") (rN X.K .min):=by
 intro pins s Z H xs us Q I r h;obtain⟨ds,g,ρ,R,rs,d',g',⟨rfl,⟨i,j,rfl,rfl⟩|⟨a,ns,M,rfl,hl,h1,h2,rfl⟩⟩,q⟩:=h
 rotate_left
 ·obtain⟨v,rfl,rv⟩:=rs.one;obtain⟨a',rfl,ra⟩:=rv.j5;obtain⟨vs,hq,rs⟩:=R.items hl ra;have:=rs.ints;subst this;exact WS hc pins s Z H _ us Q I r ⟨_,ns,M,rfl,hq,h1,h2,q.now R (.int _)⟩
 obtain⟨v,w,rfl,r1,r2⟩:=rs.two;obtain rfl:=r1.f9;obtain rfl:=r2.f9;exact WR hc pins s Z H _ us Q I r ⟨i,j,rfl,q.now R (.int _)⟩
theorem Qv(hc:X.calm=true):l9 X (.builtin "sum") (rN X.K .sum):=by
 intro pins s Z H xs us Q I r h;obtain⟨ds,g,ρ,R,rs,d',g',⟨a,ns,rfl,hl,rfl,rfl⟩,q⟩:=h;obtain⟨v,rfl,rv⟩:=rs.one;obtain⟨a',rfl,ra⟩:=rv.j5;obtain⟨vs,hq,rs⟩:=R.items hl ra;have:=rs.ints;subst this;exact WT hc pins s Z H _ us Q I r ⟨_,ns,rfl,hq,q.now R (.int _)⟩
theorem Oq:l9 X (.type "int") (rN X.K .int):=by
 intro pins s Z H xs us Q I r h;obtain⟨ds,g,ρ,R,rs,d',g',⟨rfl,h⟩,q⟩:=h;rcases h with⟨i,rfl,rfl⟩|⟨b,rfl,rfl⟩
 ·obtain⟨v,rfl,rv⟩:=rs.one;obtain rfl:=rv.f9;exact Gn pins s Z H _ us Q I r (.inl ⟨i,rfl,q.now R (.int _)⟩)
 ·obtain⟨v,rfl,rv⟩:=rs.one;obtain rfl:=rv.L3;exact Gn pins s Z H _ us Q I r (.inr ⟨b,rfl,q.now R (.int _)⟩)
def rM(K:PySem.W.Frag)(p:Pr):V->List V->Hp->VK->Prop:=λx xs H Q=>∃d ds g ρ,Rl K ρ g H/\d5 K ρ H d x/\b9 K ρ H ds xs/\cG p (d::ds) g (LQ K ρ H Q)
theorem yd{a b:D}{l m:List D}(h:a::l=b::m):a=b/\l=m:=by cases h;exact⟨rfl,rfl⟩
theorem WI:mZ X "list.append" (rM X.K .append):=by
 intro pins s Z H x xs v us Q I rx r h;obtain⟨d,ds,g,ρ,R,rd,rs,d',g',⟨a,y,l,ex,ha,hz,rfl,rfl⟩,q⟩:=h;obtain⟨rfl,rfl⟩:=yd ex;obtain⟨a',rfl,ra⟩:=rd.j5;obtain⟨w,rfl,fJ⟩:=rs.one;obtain⟨vs,z1,rv⟩:=R.lst ha ra;obtain⟨R2,e2⟩:=R.write ha ra (rv.append (.cons fJ .nil));exact Xm pins s Z H _ _ v us Q I rx r ⟨_,vs,_,rfl,rfl,z1,by rw[<- rv.length];exact Bj hz,q ρ _ _ e2 R2 .bC⟩
theorem Oi(hu:X.A.units+100<cLine):mZ X "dict.get" (rM X.K .get):=by
 intro pins s Z H x xs v us Q I rx r h;obtain⟨d,ds,g,ρ,R,rd,rs,d',g',⟨a,y,z,kvs,c,ex,ha,hc,rfl,rfl⟩,q⟩:=h;obtain⟨rfl,rfl⟩:=yd ex;obtain⟨a',rfl,ra⟩:=rd.j5;obtain⟨w1,w2,rfl,r1,r2⟩:=rs.two;obtain⟨vs,z1,rv⟩:=R.dN ha ra;have:=X2 hc r1;subst this;obtain⟨u1,u2,rfl,p1,p2⟩:=vals2 r;cases rx;refine Oe (by omega) I (O1.k z1) p1 p2 λw' s4 I4 fJ=>⟨_,H,I4,fJ,q.now R ?_⟩
 have q:=rv.val c;cases e1:p6 kvs c with
 |none =>
  rw[e1] at q;cases e2:K4 vs c with
  |none=>exact r2
  |some w=>rw[e2] at q;exact q.elim
 |some d' =>
  rw[e1] at q;obtain⟨w,hw,q⟩:=q.some;rw[hw];exact q
theorem a29:mZ X "list.pop" (rM X.K .pop):=by
 intro pins s Z H x xs v us Q I rx r h;obtain⟨d,ds,g,ρ,R,rd,rs,y,g',⟨a,i,l,k,ex,ha,h1,h2,hk,hy,rfl⟩,q⟩:=h;obtain⟨rfl,rfl⟩:=yd ex;obtain⟨a',rfl,ra⟩:=rd.j5;obtain⟨w,rfl,fJ⟩:=rs.one;obtain rfl:=fJ.f9;obtain⟨vs,z1,rv⟩:=R.lst ha ra;obtain⟨w,hw,fJ⟩:=rv.get hy;obtain⟨R2,e2⟩:=R.write ha ra (rv.erase k);exact ZS pins s Z H _ _ v us Q I rx r ⟨_,vs,i,k,w,rfl,rfl,z1,h1,h2,by rw[<- rv.length];exact hk,hw,q ρ _ _ e2 R2 (fJ.ext e2)⟩
theorem b9.strs{K ρ H}{ys:List Str}{vs:List V}(h:b9 K ρ H (ys.map D.str) vs):vs=ys.map V.str:=by
 induction ys generalizing vs with
 |nil=>cases h;rfl
 |cons y ys ih =>
  cases h with
  |cons q r=>cases q;rw[ih r];rfl
theorem ty_list{d:D}{v:V}{g:G}{ρ:List Addr}{H:Hp}(R:Rl X.K ρ g H)(r:d5 X.K ρ H d v)(h:∃a l,d=.ref a/\c7 g a=some l):nj X.K "list" v H:=by
 obtain⟨a,l,rfl,hl⟩:=h;obtain⟨a',rfl,ra⟩:=r.j5;obtain⟨vs,hq,_⟩:=R.items hl ra;exact .inl ⟨rfl,vs,hq⟩
theorem Se:mZ X "set.add" (rM X.K .jN):=by
 intro pins s Z H x xs v us Q I rx r h;obtain⟨d,ds,g,ρ,R,rd,rs,d',g',⟨a,i,S,n,ex,ha,hn,rfl,rfl⟩,q⟩:=h;obtain⟨rfl,rfl⟩:=yd ex;obtain⟨a',rfl,ra⟩:=rd.j5;obtain⟨w,rfl,fJ⟩:=rs.one;obtain rfl:=fJ.f9;obtain⟨R2,e2⟩:=R.put (o':=.set (λk=>S k||decide (k=i)) (if S i then n else n+1)) (u:=.set (λk=>S k||decide (k=i)) (if S i then n else n+1)) ha rfl ra ⟨rfl,rfl⟩;exact Yt pins s Z H _ _ v us Q I rx r ⟨_,i,S,n,rfl,rfl,R.set ha ra,hn,q ρ _ _ e2 R2 .bC⟩
theorem ty_set{d:D}{v:V}{g:G}{ρ:List Addr}{H:Hp}(R:Rl X.K ρ g H)(r:d5 X.K ρ H d v)(h:lN .jN d g):nj X.K "set" v H:=by
 obtain⟨a,S,n,rfl,hl⟩:=h;obtain⟨a',rfl,ra⟩:=r.j5;exact .inr (.inr (.inr ⟨rfl,S,n,R.set hl ra⟩))
theorem ty_dict{d:D}{v:V}{g:G}{ρ:List Addr}{H:Hp}(R:Rl X.K ρ g H)(r:d5 X.K ρ H d v)(h:lN .get d g):nj X.K "dict" v H:=by
 obtain⟨a,l,rfl,hl⟩:=h;obtain⟨a',rfl,ra⟩:=r.j5;obtain⟨vs,hq,_⟩:=R.dN hl ra;exact .inr (.inr (.inl ⟨rfl,.inl ⟨vs,hq⟩⟩))
end
end M

namespace M
open PySem L2 PySem.Spec PyProof.Rows
noncomputable abbrev gB:=List Str×XK
def LX(K:PySem.W.Frag)(ρ:List Addr)(H:Hp)(Ξ:gB):KX:=λx g'=>∀bG H' C,Ext ρ H bG H'->Rl K bG g' H'->x.cls∈Ξ.1->p0 K x.cls C->Ξ.2 (.ref C) none H'
theorem LX.ext{K:PySem.W.Frag}{ρ bO:List Addr}{H H1:Hp}{Ξ:gB}(e:Ext ρ H bO H1){x:Xn}{g:G}(h:LX K ρ H Ξ x g):LX K bO H1 Ξ x g:=λbG H' C e' R hm c=>h bG H' C (e.trans e') R hm c
noncomputable abbrev nA(ex:List Str):gB:=(ex,λ_ _ _=>False)
def LE(K:PySem.W.Frag)(Ξ:gB)(t:S->G->KD->KX->Prop):TE:=λbU H Q=>∃Z g ρ,m8 K ρ H Z bU/\Rl K ρ g H/\t Z g (LQ K ρ H Q) (LX K ρ H Ξ)
def LT(K:PySem.W.Frag)(Ξ:gB)(t:S->G->(Bool->G->Prop)->KX->Prop):TT:=λbU H Q=>∃Z g ρ,m8 K ρ H Z bU/\Rl K ρ g H/\t Z g (λb g'=>∀bG H',Ext ρ H bG H'->Rl K bG g' H'->Q b H') (LX K ρ H Ξ)
def LA(K:PySem.W.Frag)(Ξ:gB)(t:S->G->(List D->G->Prop)->KX->Prop):TA:=λbU H Q=>∃Z g ρ,m8 K ρ H Z bU/\Rl K ρ g H/\t Z g (λds g'=>∀bG H' vs,Ext ρ H bG H'->Rl K bG g' H'->b9 K bG H' ds vs->Q vs H') (LX K ρ H Ξ)
def V9(K:PySem.W.Frag)(fI:List Addr)(H0:Hp)(k:IK)(J:It):Prop:=∀ρ g H,Ext fI H0 ρ H->Rl K ρ g H->∀i,(k.at i g=some none->J.stop i H) /\
 ∀d,k.at i g=some (some d)->J.go i H/\∀v H',J.pL i H v H'->Ext ρ H ρ H'/\Rl K ρ g H'/\d5 K ρ H' d v
def LI(K:PySem.W.Frag)(Ξ:gB)(t:S->G->(IK->G->Prop)->KX->Prop):TI:=λbU H R=>∃Z g ρ,m8 K ρ H Z bU/\Rl K ρ g H/\t Z g (λk g'=>∀bG H' J,Ext ρ H bG H'->Rl K bG g' H'->V9 K bG H' k J->R J H') (LX K ρ H Ξ)
def LG(K:PySem.W.Frag)(t:MT):TG:=λv bU H Q=>∃d Z g ρ,m8 K ρ H Z bU/\Rl K ρ g H/\d5 K ρ H d v/\jb t d Z (λbN=>∀cT,m8 K ρ H bN cT->Q cT H)
def LN(K:PySem.W.Frag)(ρ:List Addr)(H:Hp)(N:L2.Ends):Ends where
 nx:=λbN g'=>∀bG H' cT,Ext ρ H bG H'->Rl K bG g' H'->m8 K bG H' bN cT->N.nx cT H'
 rt:=LQ K ρ H N.rt
 bk:=λbN g'=>∀bG H' cT,Ext ρ H bG H'->Rl K bG g' H'->m8 K bG H' bN cT->N.bk cT H'
 ct:=λbN g'=>∀bG H' cT,Ext ρ H bG H'->Rl K bG g' H'->m8 K bG H' bN cT->N.ct cT H'
def LS(K:PySem.W.Frag)(Ξ:gB)(t:Ends->S->G->KX->Prop):TS:=λN bU H=>∃Z g ρ,m8 K ρ H Z bU/\Rl K ρ g H/\t (LN K ρ H N) Z g (LX K ρ H Ξ)
end M
namespace L2
open PySem PySem.Spec PyProof.Rows
section
variable{X:Cx}{e:Expr}
theorem PE.imp{t t':TE}(h:PE X e t)(i:∀Z H Q,t' Z H Q->t Z H Q):PE X e t':=λpins s Z H Q I q=>h pins s Z H Q I (i Z H Q q)
theorem PT.imp{t t':TT}(h:PT X e t)(i:∀Z H Q,t' Z H Q->t Z H Q):PT X e t':=λpins s Z H Q I q=>h pins s Z H Q I (i Z H Q q)
theorem PW.imp{t t':TT}(h:PW X e t)(i:∀Z H Q,t' Z H Q->t Z H Q):PW X e t':=λw pins s Z H Q I q=>h w pins s Z H Q I (i Z H Q q)
theorem PA.imp{es:List Expr}{t t':TA}(h:PA X es t)(i:∀Z H Q,t' Z H Q->t Z H Q):PA X es t':=λp pins s Z H Q I q=>h p pins s Z H Q I (i Z H Q q)
theorem kO.imp{es:List Expr}{t t':TT}(h:kO X es t)(i:∀Z H Q,t' Z H Q->t Z H Q):kO X es t':=λpins s Z H Q I q=>h pins s Z H Q I (i Z H Q q)
theorem PI.imp{tg:Expr}{t t':TI}(h:PI X tg e t)(i:∀Z H Q,t' Z H Q->t Z H Q):PI X tg e t':=λpins s Z H Q I q=>h pins s Z H Q I (i Z H Q q)
theorem PG.imp{t t':TG}(h:PG X e t)(i:∀v Z H Q,t' v Z H Q->t v Z H Q):PG X e t':=λpins s Z H v u Q I r q=>h pins s Z H v u Q I r (i v Z H Q q)
theorem PS.imp{st:Stmt}{t t':TS}(h:PS X st t)(i:∀N Z H,t' N Z H->t N Z H):PS X st t':=λpins s Z H N I q=>h pins s Z H N I (i N Z H q)
theorem iN.imp{st:List Stmt}{t t':TS}(h:iN X st t)(i:∀N Z H,t' N Z H->t N Z H):iN X st t':=λpins s Z H N I q=>h pins s Z H N I (i N Z H q)
end
end L2
namespace M
open PySem L2 PySem.Spec PyProof.Rows
section
variable{K:PySem.W.Frag}{Ξ:gB}{P:fh}(hP:f6 P){ρ fI:List Addr}{H H0:Hp}{Z:S}{bU:L2.St}{g:G}{m:ME}
include hP
theorem fg{Q0:KD}{Q:VK}(s:m8 K ρ H Z bU)(R:Rl K ρ g H)(e0:Ext fI H0 ρ H)(h:aO P m Z g Q0 (LX K fI H0 Ξ))(k:∀x g1 bO H1 v1,Ext ρ H bO H1->Rl K bO g1 H1->d5 K bO H1 x v1->Q0 x g1->Q v1 H1):LE K Ξ (aO P m) bU H Q :=
 ⟨Z,g,ρ,s,R,b8 hP m _ _ _ _ _ _ (λx g1 h bO H1 v1 e1 R1 r1=>k x g1 bO H1 v1 e1 R1 r1 h) (λ_ _ z=>LX.ext e0 z) h⟩
theorem jL{Q0:List D->G->Prop}{Q:List V->Hp->Prop}(s:m8 K ρ H Z bU)(R:Rl K ρ g H)(e0:Ext fI H0 ρ H)(h:cZ P m Z g Q0 (LX K fI H0 Ξ))(k:∀x g1 bO H1 v1,Ext ρ H bO H1->Rl K bO g1 H1->b9 K bO H1 x v1->Q0 x g1->Q v1 H1):LA K Ξ (cZ P m) bU H Q :=
 ⟨Z,g,ρ,s,R,v5 hP m _ _ _ _ _ _ (λx g1 h bO H1 v1 e1 R1 r1=>k x g1 bO H1 v1 e1 R1 r1 h) (λ_ _ z=>LX.ext e0 z) h⟩
theorem oq{Q0:Bool->G->Prop}{Q:Bool->Hp->Prop}(s:m8 K ρ H Z bU)(R:Rl K ρ g H)(e0:Ext fI H0 ρ H)(h:cI P m Z g Q0 (LX K fI H0 Ξ))(k:∀t g1 bO H1,Ext ρ H bO H1->Rl K bO g1 H1->Q0 t g1->Q t H1):LT K Ξ (cI P m) bU H Q :=
 ⟨Z,g,ρ,s,R,n9 hP m _ _ _ _ _ _ (λt g1 h bO H1 e1 R1=>k t g1 bO H1 e1 R1 h) (λ_ _ z=>LX.ext e0 z) h⟩
theorem rq{ms:MS}{N:L2.Ends}{N0:Ends}(s:m8 K ρ H Z bU)(R:Rl K ρ g H)(e0:Ext fI H0 ρ H)(h:wpS P ms N0 Z g (LX K fI H0 Ξ))(k:N0.le (LN K ρ H N)):LS K Ξ (wpS P ms) N bU H :=
 ⟨Z,g,ρ,s,R,wpS_mono hP ms _ _ _ _ _ _ k (λ_ _ z=>LX.ext e0 z) h⟩
end
theorem b9.lJ{K ρ H}(lo:Int)(n:Nat):b9 K ρ H (i0 lo n) ((List.range n).map λ(k:Nat)=>V.int (lo+k)):=by
 unfold i0;have:∀l:List Nat,b9 K ρ H (l.map λ(k:Nat)=>D.int (lo+k)) (l.map λ(k:Nat)=>V.int (lo+k)):=by
  intro l
  induction l with
  |nil=>exact .nil
  |cons x r ih=>exact .cons (.int _) ih
 exact this _
section
variable{X:Cx}{Ξ:gB}{P:fh}(hP:f6 P){a b c e:Expr}{ma mb mc:ME}{pos:Pos}{p:Pr}
include hP
theorem AK(h:PE X e (rz (r2 X.K p) (LE X.K Ξ (aO P ma)) (LE X.K Ξ (aO P mb)))):PE X e (LE X.K Ξ (aO P (.prim p (.cons ma (.cons mb .nil))))) :=
 h.imp λbU H Q bq=>by
  obtain⟨Z,g,ρ,s,R,h⟩:=bq;simp only[aO,cZ] at h;exact fg hP s R (.refl _ _) h λx g1 bO H1 v1 e1 R1 r1 h=>fg hP (s.ext e1) R1 e1 h λy g2 eK H2 v2 e2 R2 r2 h =>
   ⟨x,y,g2,eK,R2,r1.ext e2,r2,p9 (λd g' h=>h.ext (e1.trans e2)) h⟩
theorem Qt{op:CmpOp}(h:PT X e (Co (rz (r2 X.K (.cmp op)) (LE X.K Ξ (aO P ma)) (LE X.K Ξ (aO P mb))))):PT X e (LT X.K Ξ (cI P (.fy (.prim (.cmp op) (.cons ma (.cons mb .nil)))))) :=
 h.imp λbU H Q bq=>by
  obtain⟨Z,g,ρ,s,R,h⟩:=bq;simp only[cI,aO,cZ] at h;refine fg hP s R (.refl _ _) h λx g1 bO H1 v1 e1 R1 r1 h=>fg hP (s.ext e1) R1 e1 h λy g2 eK H2 v2 e2 R2 r2 h=>?_;obtain⟨d',g',h,q⟩:=h;obtain⟨x',y',t,ex,hc,rfl,rfl⟩:=id h;refine⟨x,y,g',eK,R2,r1.ext e2,r2,_,_,h,λbG H' v e' R' r'=>?_⟩;obtain⟨t',ht,q⟩:=q;rcases ht with⟨z,_⟩|z|⟨i,z,_⟩|⟨l,z,_⟩|⟨a,l,z,_⟩<;>cases z
  exact⟨_,r'.L3,q bG H' (e1.trans (e2.trans e')) R'⟩
theorem Ny{op:UnaryOp}(ha:PE X a (LE X.K Ξ (aO P ma))):PE X (.UnaryOp op a pos) (LE X.K Ξ (aO P (.prim (.un op) (.cons ma .nil)))) :=
 (VP (VH op) ha).imp λbU H Q bq=>by
  obtain⟨Z,g,ρ,s,R,h⟩:=bq;simp only[aO,cZ] at h;exact fg hP s R (.refl _ _) h λx g1 bO H1 v1 e1 R1 r1 h=>⟨x,g1,bO,R1,r1,p9 (λd g' h=>h.ext e1) h⟩
theorem IT{op gR:CmpOp}:∀bU H Q,LE X.K Ξ (aO P (.chain op gR ma mb mc)) bU H Q->AM (r2 X.K (.cmp op)) (r2 X.K (.cmp gR)) (LE X.K Ξ (aO P ma)) (LE X.K Ξ (aO P mb)) (LE X.K Ξ (aO P mc)) bU H Q:=λbU H Q bq=>by
 obtain⟨Z,g,ρ,s,R,h⟩:=bq;simp only[aO] at h;refine fg hP s R (.refl _ _) h λx g1 bO H1 v1 e1 R1 r1 h=>fg hP (s.ext e1) R1 e1 h λy g2 eK H2 v2 e2 R2 r2 h=>?_;refine⟨x,y,g2,eK,R2,r1.ext e2,r2,p9 (λd g3 h iV H3 v3 e3 R3 r3=>?_) h⟩;obtain⟨t,rfl,h⟩:=h;obtain rfl:=r3.L3;refine⟨t,rfl,?_⟩;cases t
 ·exact h iV H3 _ (e1.trans (e2.trans e3)) R3 (.bl _)
 ·exact fg hP (s.ext (e1.trans (e2.trans e3))) R3 (e1.trans (e2.trans e3)) h λz g4 pK H4 v4 e4 R4 r4 h =>
   ⟨y,z,g4,pK,R4,r2.ext (e3.trans e4),r4,p9 (λd g' h=>h.ext (e1.trans (e2.trans (e3.trans e4)))) h⟩
theorem a14{op gR:CmpOp}(hu:X.A.units+100<cLine)(ha:PE X a (LE X.K Ξ (aO P ma)))(hb:PE X b (LE X.K Ξ (aO P mb)))(hc:PE X c (LE X.K Ξ (aO P mc)))(hm:lastMarks [op,gR] [b,c]=false) :
  PE X (.Compare a [op,gR] [b,c] pos) (LE X.K Ξ (aO P (.chain op gR ma mb mc))):=(Z' (W8 hu op) (W8 hu gR) ha hb hc hm).imp (IT hP)
theorem ZA{op gR:CmpOp}{Z:S}{g:G}{Q:Bool->G->Prop}{E:KX}(h:cI P (.fy (.chain op gR ma mb mc)) Z g Q E):aO P (.chain op gR ma mb mc) Z g (λd g'=>∃t,d=.bl t/\Q t g') E:=by
 have one:∀{o:CmpOp} {xs:List D} {g:G},cG (.cmp o) xs g (λd g1=>pz g1 d λb=>Q b g1)->cG (.cmp o) xs g λd g'=>∃t,d=.bl t/\Q t g':=by
  intro o xs g h;obtain⟨d',g',h,t',ht,q⟩:=h;obtain⟨x',y',t,ex,hc,rfl,rfl⟩:=id h;refine⟨_,_,h,t',?_,q⟩;rcases ht with⟨z,_⟩|z|⟨i,z,_⟩|⟨l,z,_⟩|⟨a,l,z,_⟩<;>first|exact z|cases z
 simp only[cI,aO] at h ⊢;refine b8 hP ma _ _ _ _ _ _ (λx g1 h=>b8 hP mb _ _ _ _ _ _ (λy g2 h=>p9 (λz g3 h=>?_) h) (λ_ _ z=>z) h) (λ_ _ z=>z) h;obtain⟨t,rfl,h⟩:=h;refine⟨t,rfl,?_⟩;cases t
 ·obtain⟨b,hb,q⟩:=(show pz g3 (.bl false) λb=>Q b g3 from h)
  rcases hb with⟨z,_⟩|z|⟨i,z,_⟩|⟨l,z,_⟩|⟨a,l,z,_⟩<;>first|(cases z;exact⟨_,rfl,q⟩)|cases z
 ·exact b8 hP mc _ _ _ _ _ _ (λw g4 h=>one h) (λ_ _ z=>z) h
theorem a04{op gR:CmpOp}(hu:X.A.units+100<cLine)(ha:PE X a (LE X.K Ξ (aO P ma)))(hb:PE X b (LE X.K Ξ (aO P mb)))(hc:PE X c (LE X.K Ξ (aO P mc)))(hm:lastMarks [op,gR] [b,c]=false) :
  PT X (.Compare a [op,gR] [b,c] pos) (LT X.K Ξ (cI P (.fy (.chain op gR ma mb mc)))) :=
 (a23 (W8 hu op) (W8 hu gR) ha hb hc hm).imp λbU H Q ⟨Z,g,ρ,s,R,h⟩ =>
  IT hP bU H _ (fg hP s R (.refl _ _) (ZA hP h) λx g1 bO H1 v1 e1 R1 r1 h=>by
   obtain⟨t,rfl,h⟩:=h;exact ⟨t,r1.L3,h bO H1 e1 R1⟩)
theorem PY{rest:List Expr}(ha:PE X a (LE X.K Ξ (aO P ma)))(hb:PE X (.BoolOp .And (b::rest) pos) (LE X.K Ξ (aO P mb))):PE X (.BoolOp .And (a::b::rest) pos) (LE X.K Ξ (aO P (.dy ma mb))) :=
 (Pc ha hb).imp λbU H Q bq=>by
  obtain⟨Z,g,ρ,s,R,h⟩:=bq;simp only[aO] at h;refine fg hP s R (.refl _ _) h λx g1 bO H1 v1 e1 R1 r1 h=>?_;obtain⟨t,rfl,h⟩:=h;refine⟨t,r1.L3,?_⟩;cases t
  ·exact h bO H1 _ e1 R1 (.bl _)
  ·exact fg hP (s.ext e1) R1 e1 h λy g2 eK H2 v2 e2 R2 r2 h=>h eK H2 v2 (e1.trans e2) R2 r2
theorem Nx{rest:List Expr}(ha:PE X a (LE X.K Ξ (aO P ma)))(hb:PE X (.BoolOp .Or (b::rest) pos) (LE X.K Ξ (aO P mb))):PE X (.BoolOp .Or (a::b::rest) pos) (LE X.K Ξ (aO P (.jt ma mb))) :=
 (VO ha hb).imp λbU H Q bq=>by
  obtain⟨Z,g,ρ,s,R,h⟩:=bq;simp only[aO] at h;refine fg hP s R (.refl _ _) h λx g1 bO H1 v1 e1 R1 r1 h=>?_;obtain⟨t,rfl,h⟩:=h;refine⟨t,r1.L3,?_⟩;cases t
  ·exact fg hP (s.ext e1) R1 e1 h λy g2 eK H2 v2 e2 R2 r2 h=>h eK H2 v2 (e1.trans e2) R2 r2
  ·exact h bO H1 _ e1 R1 (.bl _)
theorem Qe(ha:PE X a (LE X.K Ξ (aO P ma))):PE X (.UnaryOp .Not a pos) (LE X.K Ξ (aO P (.eL ma))) :=
 (Pk ha).imp λbU H Q bq=>by
  obtain⟨Z,g,ρ,s,R,h⟩:=bq;simp only[aO] at h;refine fg hP s R (.refl _ _) h λx g1 bO H1 v1 e1 R1 r1 h=>?_;obtain⟨t,rfl,h⟩:=h;exact⟨t,r1.L3,h bO H1 _ e1 R1 (.bl _)⟩
theorem Qc(hc:PT X c (LT X.K Ξ (cI P mc)))(ha:PE X a (LE X.K Ξ (aO P ma)))(hb:PE X b (LE X.K Ξ (aO P mb))):PE X (.IfExp c a b pos) (LE X.K Ξ (aO P (.ite mc ma mb))) :=
 (a34 hc ha hb).imp λbU H Q bq=>by
  obtain⟨Z,g,ρ,s,R,h⟩:=bq;simp only[aO] at h;refine oq hP s R (.refl _ _) h λt g1 bO H1 e1 R1 h=>?_;cases t
  ·exact fg hP (s.ext e1) R1 e1 h λy g2 eK H2 v2 e2 R2 r2 h=>h eK H2 v2 (e1.trans e2) R2 r2
  ·exact fg hP (s.ext e1) R1 e1 h λy g2 eK H2 v2 e2 R2 r2 h=>h eK H2 v2 (e1.trans e2) R2 r2
theorem Qf{es:List Expr}{gz:ME}{k:Nat}(h:PA X es (LA X.K Ξ (cZ P gz))):PE X (.Tuple es k pos) (LE X.K Ξ (aO P (.prim .tup gz))) :=
 (Pm h).imp λbU H Q bq=>by
  obtain⟨Z,g,ρ,s,R,h⟩:=bq;simp only[aO] at h;refine jL hP s R (.refl _ _) h λds g1 bO H1 vs e1 R1 r1 h=>?_;obtain⟨d',g',⟨hz,rfl,rfl⟩,q⟩:=h;exact⟨by rw[<- r1.length];exact k9 (aD hz (by decide)),λp hp=>(q.ext e1).tup R1 hp r1⟩
theorem HV{es:List Expr}{gz:ME}(h:PA X es (LA X.K Ξ (cZ P gz))):PE X (.List es pos) (LE X.K Ξ (aO P (.prim .lst gz))) :=
 (Ph h).imp λbU H Q bq=>by
  obtain⟨Z,g,ρ,s,R,h⟩:=bq;simp only[aO] at h;refine jL hP s R (.refl _ _) h λds g1 bO H1 vs e1 R1 r1 h=>?_;obtain⟨d',g',⟨hz,rfl,rfl⟩,q⟩:=h;exact⟨by rw[<- r1.length];exact k9 (aD hz (by decide)),λp hp=>(q.ext e1).new R1 hp r1⟩
theorem G0:PA X [] (LA X.K Ξ (cZ P .nil)) :=
 (W6 (X:=X)).imp λbU H Q bq=>by
  obtain⟨Z,g,ρ,s,R,h⟩:=bq;simp only[cZ] at h;exact h ρ H [] (.refl _ _) R .nil
theorem A6{es:List Expr}{gz:ME}(ha:PE X a (LE X.K Ξ (aO P ma)))(h:PA X es (LA X.K Ξ (cZ P gz)))(hs:starEach (a::es) X.env=(false,eval a X.env)::starEach es X.env):PA X (a::es) (LA X.K Ξ (cZ P (.cons ma gz))) :=
 (P6 ha h hs).imp λbU H Q bq=>by
  obtain⟨Z,g,ρ,s,R,h⟩:=bq;simp only[cZ] at h;exact fg hP s R (.refl _ _) h λx g1 bO H1 v1 e1 R1 r1 h=>jL hP (s.ext e1) R1 e1 h λxs g2 eK H2 vs e2 R2 r2 h=>h eK H2 _ (e1.trans e2) R2 (.cons (r1.ext e2) r2)
theorem a08{p2:Pos}(ha:PE X a (LE X.K Ξ (aO P ma))):PE X (.Subscript a (.Slice none none none p2) pos) (LE X.K Ξ (aO P (.prim (.kY false false) (.cons ma .nil)))) :=
 (Bv Cm ha yb yb).imp λbU H Q bq=>by
  obtain⟨Z,g,ρ,s,R,h⟩:=bq;simp only[aO,cZ] at h;refine fg hP s R (.refl _ _) h λx g1 bO H1 v1 e1 R1 r1 h=>?_;obtain⟨d',g',⟨x',ex,h⟩,q⟩:=h;cases ex;exact⟨x,g1,bO,d',g',R1,r1,h,q.ext e1⟩
theorem a06{p2:Pos}(ha:PE X a (LE X.K Ξ (aO P ma)))(hb:PE X b (LE X.K Ξ (aO P mb))):PE X (.Subscript a (.Slice (some b) none none p2) pos) (LE X.K Ξ (aO P (.prim (.kY true false) (.cons ma (.cons mb .nil))))) :=
 (Bv Cm ha (IB hb) yb).imp λbU H Q bq=>by
  obtain⟨Z,g,ρ,s,R,h⟩:=bq;simp only[aO,cZ] at h;refine fg hP s R (.refl _ _) h λx g1 bO H1 v1 e1 R1 r1 h=>fg hP (s.ext e1) R1 e1 h λy g2 eK H2 v2 e2 R2 r2 h=>?_;obtain⟨d',g',⟨x',i,ex,h⟩,q⟩:=h;cases ex;exact⟨i,r2.f9,x,g2,eK,d',g',R2,r1.ext e2,h,q.ext (e1.trans e2)⟩
theorem a07{p2:Pos}(ha:PE X a (LE X.K Ξ (aO P ma)))(hb:PE X b (LE X.K Ξ (aO P mb))):PE X (.Subscript a (.Slice none (some b) none p2) pos) (LE X.K Ξ (aO P (.prim (.kY false true) (.cons ma (.cons mb .nil))))) :=
 (Bv Cm ha yb (IB hb)).imp λbU H Q bq=>by
  obtain⟨Z,g,ρ,s,R,h⟩:=bq;simp only[aO,cZ] at h;refine fg hP s R (.refl _ _) h λx g1 bO H1 v1 e1 R1 r1 h=>fg hP (s.ext e1) R1 e1 h λy g2 eK H2 v2 e2 R2 r2 h=>?_;obtain⟨d',g',⟨x',i,ex,h⟩,q⟩:=h;cases ex;exact⟨i,r2.f9,x,g2,eK,d',g',R2,r1.ext e2,h,q.ext (e1.trans e2)⟩
theorem Qu(ha:PE X a (LE X.K Ξ (aO P ma)))(he:∀whole,isTrue a X.env whole=(do let v <- whole;standAt a.pos;holding [v] (truthy v))):PT X a (LT X.K Ξ (cI P (.fy ma))) :=
 (a22 ha he).imp λbU H Q bq=>by
  obtain⟨Z,g,ρ,s,R,h⟩:=bq;simp only[cI] at h;refine fg hP s R (.refl _ _) h λx g1 bO H1 v1 e1 R1 r1 h=>?_;obtain⟨b,h1,h2⟩:=h;exact⟨b,QH R1 r1 h1,h2 bO H1 e1 R1⟩
theorem Qr(ha:PT X a (LT X.K Ξ (cI P ma))):PT X (.UnaryOp .Not a pos) (LT X.K Ξ (cI P (.eL ma))) :=
 (PH ha).imp λbU H Q bq=>by
  obtain⟨Z,g,ρ,s,R,h⟩:=bq;simp only[cI] at h;exact oq hP s R (.refl _ _) h λt g1 bO H1 e1 R1 h=>h bO H1 e1 R1
theorem Qw{rest:List Expr}(ha:PT X a (LT X.K Ξ (cI P ma)))(hb:PW X (.BoolOp .And (b::rest) pos) (LT X.K Ξ (cI P mb))):PW X (.BoolOp .And (a::b::rest) pos) (LT X.K Ξ (cI P (.dy ma mb))) :=
 (PJ ha hb).imp λbU H Q bq=>by
  obtain⟨Z,g,ρ,s,R,h⟩:=bq;simp only[cI] at h;refine oq hP s R (.refl _ _) h λt g1 bO H1 e1 R1 h=>?_;cases t
  ·exact h bO H1 e1 R1
  ·exact oq hP (s.ext e1) R1 e1 h λt g2 eK H2 e2 R2 h=>h eK H2 (e1.trans e2) R2
theorem NB{rest:List Expr}(ha:PT X a (LT X.K Ξ (cI P ma)))(hb:PW X (.BoolOp .Or (b::rest) pos) (LT X.K Ξ (cI P mb))):PW X (.BoolOp .Or (a::b::rest) pos) (LT X.K Ξ (cI P (.jt ma mb))) :=
 (VS ha hb).imp λbU H Q bq=>by
  obtain⟨Z,g,ρ,s,R,h⟩:=bq;simp only[cI] at h;refine oq hP s R (.refl _ _) h λt g1 bO H1 e1 R1 h=>?_;cases t
  ·exact oq hP (s.ext e1) R1 e1 h λt g2 eK H2 e2 R2 h=>h eK H2 (e1.trans e2) R2
  ·exact h bO H1 e1 R1
theorem Sz:kO X [] (LT X.K Ξ (cI P .no)) :=
 (RY (X:=X)).imp λbU H Q bq=>by
  obtain⟨Z,g,ρ,s,R,h⟩:=bq;simp only[cI] at h;exact h ρ H (.refl _ _) R
theorem PZ{x:Str}{v:Value}{es:List Expr}{gz:ME}{q:Pos}(hv:(∃id,v=.builtin id)\/∃T,v=.type T)(hc:l9 X v (rN X.K p))(hg:Gl X x)(hm:X.mg x=none)(hb:bootBuiltins x=some v)(ha:PA X (e::es) (LA X.K Ξ (cZ P gz)))(hn:x≠"__name__")(hd:(x==("__debug__":Str))=false)(dE:starEach (e::es) X.env=(false,eval e X.env)::starEach es X.env)(gA:(backTo pos (starEach es X.env)).any (·.1)=false):PE X (.Call (.Name x q) (e::es) [] pos) (LE X.K Ξ (aO P (.prim p gz))):=by
 have base:PE X (.Call (.Name x q) (e::es) [] pos) (yJ (rN X.K p) (LA X.K Ξ (cZ P gz))):=by
  rcases hv with⟨id,rfl⟩|⟨T,rfl⟩
  ·exact Y6 hc hg hm hb ha hn hd dE gA
  ·exact M9 hc hg hm hb ha hn hd dE gA
 refine base.imp λbU H Q bq=>?_;obtain⟨Z,g,ρ,s,R,h⟩:=bq;simp only[aO] at h;exact jL hP s R (.refl _ _) h λxs g1 bO H1 vs e1 R1 r1 h=>⟨xs,g1,bO,R1,r1,p9 (λd g' h=>h.ext e1) h⟩
theorem Sm{o:Expr}{es:List Expr}{mo gz:ME}{T:String}{name:Str}{id:String}{apos:Pos}(pa:PlainAttrs T)(slot:Slot T name id)(jf:typeOf (.builtin id)=pure (.type "method_descriptor"))(hm:mZ X id (rM X.K p))(hk:∀{d:D} {v:V} {g:G} {ρ:List Addr} {H:Hp},Rl X.K ρ g H->d5 X.K ρ H d v->lN p d g->nj X.K T v H)(ho:PE X o (LE X.K Ξ (aO P mo)))(ha:PA X (e::es) (LA X.K Ξ (cZ P gz)))(iH:attributeBase o name X.env (eval o X.env)=eval o X.env)(qf:((backTo pos (starEach (e::es) X.env)).all (λx=>!x.1)&&(backToKw pos (keywordEach [] X.env)).all (λx=>x.1.isSome)&&decide ((e::es).length+([]:List Keyword).length+(if([]:List Keyword).isEmpty then 0 else 1)<30))=true)(iF:(apos.endLine==pos.line)=true)(hs:starEach (e::es) X.env=(false,eval e X.env)::starEach es X.env)(fZ:(backTo pos (starEach es X.env)).any (·.1)=false) :
  PE X (.Call (.Attribute o name apos) (e::es) [] pos) (LE X.K Ξ (aO P (.eE p mo gz))) :=
 (VL pa slot jf hm ho ha iH qf iF hs fZ).imp λbU H Q bq=>by
  obtain⟨Z,g,ρ,s,R,h⟩:=bq;simp only[aO] at h;exact fg hP s R (.refl _ _) h λx g1 bO H1 v1 e1 R1 r1 h=>⟨hk R1 r1 h.1,jL hP (s.ext e1) R1 e1 h.2 λxs g2 eK H2 ws e2 R2 r2 h =>
   ⟨x,xs,g2,eK,R2,r1.ext e2,r2,p9 (λd g' h=>h.ext (e1.trans e2)) h⟩⟩
theorem a10{o:Expr}{mo:ME}{T:String}{name:Str}{id:String}{apos:Pos}(pa:PlainAttrs T)(slot:Slot T name id)(jf:typeOf (.builtin id)=pure (.type "method_descriptor"))(hm:mZ X id (rM X.K p))(hk:∀{d:D} {v:V} {g:G} {ρ:List Addr} {H:Hp},Rl X.K ρ g H->d5 X.K ρ H d v->lN p d g->nj X.K T v H)(ho:PE X o (LE X.K Ξ (aO P mo)))(iH:attributeBase o name X.env (eval o X.env)=eval o X.env)(iF:(apos.endLine==pos.line)=true) :
  PE X (.Call (.Attribute o name apos) [] [] pos) (LE X.K Ξ (aO P (.eE p mo .nil))) :=
 (Pd pa slot jf hm ho iH iF).imp λbU H Q bq=>by
  obtain⟨Z,g,ρ,s,R,h⟩:=bq;simp only[aO,cZ] at h;exact fg hP s R (.refl _ _) h λx g1 bO H1 v1 e1 R1 r1 h=>⟨hk R1 r1 h.1,x,[],g1,bO,R1,r1,.nil,p9 (λd g' h=>h.ext e1) h.2⟩
theorem a13{q p2 js:Pos}(hc:X.calm=true)(ha:PE X a (LE X.K Ξ (aO P ma)))(mH:Gl X "list")(mD:X.mg "list"=none)(hg:Gl X "range")(hm:X.mg "range"=none)(hs:starEach [a] X.env=[(false,eval a X.env)]) :
  PE X (.Call (.Name "list" p2) [.Call (.Name "range" q) [a] [] pos] [] js) (LE X.K Ξ (aO P (.prim .jd (.cons ma .nil)))) :=
 (M9 (Hy hc) mH mD (by first|exact eR|decide +kernel) (P6 (Xw hg hm (A6 hP ha (G0 hP) (by rw[hs];rfl)) hs) W6)).imp λbU H Q bq=>by
  obtain⟨Z,g,ρ,s,R,h⟩:=bq;simp only[aO] at h;refine jL hP s R (.refl _ _) h λxs g1 bO H1 vs e1 R1 r1 h=>?_;obtain⟨d',g',⟨j,rfl,h1,h2,rfl,rfl⟩,q⟩:=h;obtain⟨v,rfl,rv⟩:=r1.one;obtain rfl:=rv.f9;refine⟨j,rfl,λq' hq=>⟨q',0,j,rfl,p8,⟨by omega,by omega,h1,by omega,by omega⟩,λp hp=>?_⟩⟩;rw[show(j-0).toNat=j.toNat by omega];exact(q.ext (e1.trans (A4 hq))).new (R1.grow hq) hp (b9.lJ 0 _)
theorem a12{q p2 js:Pos}(hc:X.calm=true)(ha:PE X a (LE X.K Ξ (aO P ma)))(hb:PE X b (LE X.K Ξ (aO P mb)))(mH:Gl X "list")(mD:X.mg "list"=none)(hg:Gl X "range")(hm:X.mg "range"=none)(hs:starEach [a,b] X.env=[(false,eval a X.env),(false,eval b X.env)])(iM:starEach [b] X.env=[(false,eval b X.env)]) :
  PE X (.Call (.Name "list" p2) [.Call (.Name "range" q) [a,b] [] pos] [] js) (LE X.K Ξ (aO P (.prim .jT (.cons ma (.cons mb .nil))))) :=
 (M9 (Hy hc) mH mD (by first|exact eR|decide +kernel) (P6 (Xx hg hm (A6 hP ha (A6 hP hb (G0 hP) (by rw[iM];rfl)) (by rw[hs,iM])) hs iM) W6)).imp λbU H Q bq=>by
  obtain⟨Z,g,ρ,s,R,h⟩:=bq;simp only[aO] at h;refine jL hP s R (.refl _ _) h λxs g1 bO H1 vs e1 R1 r1 h=>?_;obtain⟨d',g',⟨i,j,rfl,hb,rfl,rfl⟩,q⟩:=h;obtain⟨v,w,rfl,rv,fJ⟩:=r1.two;obtain rfl:=rv.f9;obtain rfl:=fJ.f9;exact⟨i,j,rfl,λq' hq=>⟨q',i,j,rfl,p8,hb,λp hp=>(q.ext (e1.trans (A4 hq))).new (R1.grow hq) hp (b9.lJ i _)⟩⟩
theorem So{q p2 js:Pos}(hc:X.calm=true)(ha:PE X a (LE X.K Ξ (aO P ma)))(mH:Gl X "sorted")(mD:X.mg "sorted"=none)(hg:Gl X "set")(hm:X.mg "set"=none)(hs:starEach [a] X.env=[(false,eval a X.env)]) :
  PE X (.Call (.Name "sorted" p2) [.Call (.Name "set" q) [a] [] pos] [] js) (LE X.K Ξ (aO P (.prim .sset (.cons ma .nil)))) :=
 (Y6 (U6 hc) mH mD (by first|exact pF|decide +kernel) (P6 (M9 (Hu hc) hg hm (by first|exact wg|decide +kernel) (A6 hP ha (G0 hP) (by rw[hs];rfl)) (by decide) (by decide) (by rw[hs];rfl) rfl) W6)).imp λbU H Q bq=>by
  obtain⟨Z,g,ρ,s,R,h⟩:=bq;simp only[aO] at h;refine jL hP s R (.refl _ _) h λxs g1 bO H1 vs e1 R1 r1 h=>?_;obtain⟨d',g',⟨i,ns,rfl,hl,hz,rfl,rfl⟩,q⟩:=h;obtain⟨v,rfl,rv⟩:=r1.one;obtain⟨a',rfl,ra⟩:=rv.j5;obtain⟨ws,hq,rs⟩:=R1.items hl ra;obtain rfl:=rs.ints;refine⟨_,ns,rfl,hq,hz,λq' lh=>⟨q',ns,rfl,p8,hz,λp hp=>?_⟩⟩;exact(q.ext (e1.trans (A4 lh))).new (R1.grow lh) hp (b9.ofInts _)
theorem Sk{q p2 js:Pos}(hc:X.calm=true)(ha:PE X a (LE X.K Ξ (aO P ma)))(mH:Gl X "len")(mD:X.mg "len"=none)(hg:Gl X "set")(hm:X.mg "set"=none)(hs:starEach [a] X.env=[(false,eval a X.env)]) :
  PE X (.Call (.Name "len" p2) [.Call (.Name "set" q) [a] [] pos] [] js) (LE X.K Ξ (aO P (.prim .Z9 (.cons ma .nil)))) :=
 (Y6 Wd mH mD PySem.boot_len (P6 (M9 (Hu hc) hg hm (by first|exact wg|decide +kernel) (A6 hP ha (G0 hP) (by rw[hs];rfl)) (by decide) (by decide) (by rw[hs];rfl) rfl) W6)).imp λbU H Q bq=>by
  obtain⟨Z,g,ρ,s,R,h⟩:=bq;simp only[aO] at h;refine jL hP s R (.refl _ _) h λxs g1 bO H1 vs e1 R1 r1 h=>?_;obtain⟨d',g',⟨i,ns,rfl,hl,hz,rfl,rfl⟩,q⟩:=h;obtain⟨v,rfl,rv⟩:=r1.one;obtain⟨a',rfl,ra⟩:=rv.j5;obtain⟨ws,hq,rs⟩:=R1.items hl ra;obtain rfl:=rs.ints;refine⟨_,ns,rfl,hq,hz,λq' lh=>⟨q',_,rfl,p8,?_⟩⟩;exact(q.ext (e1.trans (A4 lh))).now (R1.grow lh) (.int _)
theorem Sn{i:Int}{j:Nat}{q:Pos}(mJ:PySem.W.kdsCode X.K X.env.code=true):PE X (.Set [.Constant (.int i) j q] 0 pos) (LE X.K Ξ (aO P (.prim (.jM i) .nil))) :=
 (RO mJ).imp λbU H Q bq=>by
  obtain⟨Z,g,ρ,s,R,h⟩:=bq;simp only[aO,cZ] at h;obtain⟨d',g',⟨_,rfl,rfl⟩,q⟩:=h;exact λp hp=>q (ρ++[p]) _ _ (M0 hp) (R.new hp (o:=.set (λk=>decide (k=i)) 1) (u:=.set (λk=>decide (k=i)) 1) ⟨rfl,rfl⟩) (.ref (R.C2 p))
theorem Qa{f:Str}(ha:PE X a (LE X.K Ξ (aO P ma)))(hb:attributeBase a f X.env (eval a X.env)=eval a X.env):PE X (.Attribute a f pos) (LE X.K Ξ (aO P (.prim (.fld f) (.cons ma .nil)))) :=
 (Pe ha hb).imp λbU H Q bq=>by
  obtain⟨Z,g,ρ,s,R,h⟩:=bq;simp only[aO,cZ] at h;refine fg hP s R (.refl _ _) h λx g1 bO H1 v1 e1 R1 r1 h=>?_;obtain⟨d',g',⟨i,c,fs,ex,hi,hf,rfl⟩,q⟩:=h;cases ex;obtain⟨a',rfl,ra⟩:=r1.j5;obtain⟨C,dx,vs,hH,_,hC,rk,na⟩:=R1.ins hi ra;have lk:=rk.look f;rw[hf] at lk;obtain⟨v,hv,rv⟩:=lk.some;exact⟨a',C,dx,vs,v,rfl,hH,hC,na _ (aP hf),hv,q bO H1 v e1 R1 rv⟩
end
section
variable{X:Cx}{Ξ:gB}{P:fh}{a b c:Expr}{ma mb mc:ME}{pos:Pos}
theorem Qg{i:Nat}{x:Str}(hN:X.N[i]?=some x)(hv:vU X.env.scope x)(hd:(x==("__debug__":Str))=false)(lq:(x==("__classdict__":Str))=false):PE X (.Name x pos) (LE X.K Ξ (aO P (.var i))) :=
 (Pn hN hv hd lq).imp λbU H Q bq=>by
  obtain⟨Z,g,ρ,s,R,h⟩:=bq;simp only[aO] at h;obtain⟨d,e,h⟩:=h;obtain⟨v,h1,h2⟩:=s.val _ _ e;exact⟨v,h1,h.now R h2⟩
theorem Q9{e:Expr}{d:D}{v:V}(h:PE X e (tC v))(r:∀ρ H,d5 X.K ρ H d v):PE X e (LE X.K Ξ (aO P (.lit d))) :=
 h.imp λbU H Q bq=>by
  obtain⟨Z,g,ρ,s,R,h⟩:=bq;simp only[aO] at h;exact LQ.now h R (r ρ H)
theorem Sg:PE X (.Dict [] [] pos) (LE X.K Ξ (aO P (.prim .og .nil))) :=
 (a35 (X:=X)).imp λbU H Q ⟨Z,g,ρ,s,R,h⟩ p hp=>by
  simp only[aO,cZ] at h;obtain⟨d',g',⟨_,rfl,rfl⟩,q⟩:=h;exact q (ρ++[p]) _ _ (M0 hp) (R.new hp (o:=.dN []) (u:=.dK []) i3.nil) (.ref (R.C2 p))
end
end M

namespace L2
open PySem PySem.Spec PyProof.Rows
section
variable{X:Cx}{m:Str}{pos apos:Pos}{e o:Expr}{es:List Expr}{ta:TE}{t:TA}
end
end L2
namespace M
open PySem L2 PySem.Spec PyProof.Rows
inductive ph(K:PySem.W.Frag):List D->List (Str×V)->Prop
 |nil:ph K [] []
 |cons {x:Str} {d:D} {v:V} {ds:List D} {vs:List (Str×V)} (h:∀ρ H,d5 K ρ H d v) (r:ph K ds vs):ph K (.tup [.str x,d]::ds) ((x,v)::vs)
theorem ph.look{K:PySem.W.Frag}{ρ:List Addr}{H:Hp}{ds vs}(x:Str)(h:ph K ds vs):qT K ρ H (M6 ds x) (vs.lookup x):=by
 induction h with
 |nil=>trivial
 |cons h r ih =>
  rename_i y d v ds vs;unfold M6;rw[cC];by_cases e:x=y
  ·rw[aK e,show(x==y)=true from by simp[e]];exact h ρ H
  ·rw[aC e,show(x==y)=false from by simpa using e];exact ih
def xj(X:Cx)(x:Str)(kvs:List D):Prop:=∃A vs,X.mg x=some (.ref A)/\vB X.K X.w.params A vs/\ph X.K kvs vs
def xq(neg:Bool):Pr:=if neg then .uZ else .EU
theorem Il{neg:Bool}:PR (xq neg)=CV neg:=by cases neg<;>rfl
theorem XN(a b c:Str):a++b++c=a++(b++c):=by
 cases a;cases b;cases c;show Str.mk _=Str.mk _;exact fP Str.mk (JR ..)
theorem Sy(x:Str):x++Str.empty=x:=by cases x;show Str.mk _=_;simp[Str.empty]
theorem Rx(x:Str):Str.empty++x=x:=by cases x;show Str.mk _=_;simp[Str.empty]
section
variable{X:Cx}{Ξ:gB}{P:fh}(hP:f6 P){a b c:Expr}{ma mb mc:ME}{pos:Pos}
include hP
theorem Qb{x:Str}{p:Pos}{kvs:List D}{neg:Bool}(hg:Gl X x)(hd:(x==("__debug__":Str))=false)(hG:xj X x kvs)(ha:PE X a (LE X.K Ξ (aO P ma)))(hm:behindInMarks (if neg then .NotIn else .In) (.Name x p)=false) :
  PE X (.Compare a [if neg then .NotIn else .In] [.Name x p] pos) (LE X.K Ξ (aO P (.prim (xq neg) (.cons (.lit (.tup kvs)) (.cons ma .nil))))):=by
 obtain⟨A,vs,hmg,hk,gr⟩:=hG;refine(Iy (HN (kvs:=vs) neg) ha (ya (v:=.ref A) hg hmg rfl hd) hm).imp λbU H Q bq=>?_;obtain⟨Z,g,ρ,s,R,h⟩:=bq;simp only[aO,cZ] at h;refine fg hP s R (.refl _ _) h λd g1 bO H1 v1 e1 R1 r1 h=>?_;obtain⟨d',g',h,q⟩:=h;rw[Il] at h;obtain⟨iC,z,ex,rfl,rfl⟩:=h;cases ex;obtain rfl:=r1.C8;refine⟨A,z,rfl,hk,rfl,?_⟩;rw[<- (gr.look (ρ:=bO) (H:=H1) z).isSome];exact q bO H1 _ e1 R1 (.bl _)
theorem Qq{x:Str}{p:Pos}{kvs:List D}{neg:Bool}(hg:Gl X x)(hd:(x==("__debug__":Str))=false)(hG:xj X x kvs)(ha:PE X a (LE X.K Ξ (aO P ma)))(hm:behindInMarks (if neg then .NotIn else .In) (.Name x p)=false) :
  PT X (.Compare a [if neg then .NotIn else .In] [.Name x p] pos) (LT X.K Ξ (cI P (.fy (.prim (xq neg) (.cons (.lit (.tup kvs)) (.cons ma .nil)))))):=by
 obtain⟨A,vs,hmg,hk,gr⟩:=hG;refine(IC (HN (kvs:=vs) neg) ha (ya (v:=.ref A) hg hmg rfl hd) hm).imp λbU H Q bq=>?_;obtain⟨Z,g,ρ,s,R,h⟩:=bq;simp only[cI,aO,cZ] at h;refine fg hP s R (.refl _ _) h λd g1 bO H1 v1 e1 R1 r1 h=>?_;obtain⟨d',g',h,t,ht,q⟩:=h;rw[Il] at h;obtain⟨iC,z,ex,rfl,rfl⟩:=h;cases ex;obtain rfl:=r1.C8;refine⟨A,z,rfl,hk,rfl,t,?_,q bO H1 e1 R1⟩;rw[<- (gr.look (ρ:=bO) (H:=H1) z).isSome];rcases ht with⟨z,_⟩|z|⟨i,z,_⟩|⟨l,z,_⟩|⟨a,l,z,_⟩<;>cases z
 rfl
theorem Sj{x:Str}{p:Pos}{kvs:List D}(hg:Gl X x)(hd:(x==("__debug__":Str))=false)(hG:xj X x kvs)(ha:PE X a (LE X.K Ξ (aO P ma)))(hs:AV a):PE X (.Subscript (.Name x p) a pos) (LE X.K Ξ (aO P (.prim .mS (.cons (.lit (.tup kvs)) (.cons ma .nil))))):=by
 obtain⟨A,vs,hmg,hk,gr⟩:=hG;refine(Jo (Vm (kvs:=vs)) (ya (v:=.ref A) hg hmg rfl hd) ha hs).imp λbU H Q bq=>?_;obtain⟨Z,g,ρ,s,R,h⟩:=bq;simp only[aO,cZ] at h;refine fg hP s R (.refl _ _) h λd g1 bO H1 v1 e1 R1 r1 h=>?_;obtain⟨d',g',⟨iC,z,ex,hz,rfl⟩,q⟩:=h;cases ex;obtain rfl:=r1.C8;have lk:=gr.look (ρ:=bO) (H:=H1) z;rw[hz] at lk;obtain⟨w,hw,lk⟩:=lk.some;exact⟨A,z,w,rfl,hk,rfl,hw,q bO H1 _ e1 R1 lk⟩
theorem Nw(ha:PE X a (LE X.K Ξ (aO P ma))):PE X (.FormattedValue a (-1) none pos) (LE X.K Ξ (aO P (.prim .fv (.cons ma .nil)))) :=
 (VM ha).imp λbU H Q bq=>by
  obtain⟨Z,g,ρ,s,R,h⟩:=bq;simp only[aO,cZ] at h;refine fg hP s R (.refl _ _) h λd g1 bO H1 v1 e1 R1 r1 h=>?_;obtain⟨d',g',⟨rfl,h⟩,q⟩:=h;rcases h with⟨i,ex,h1,rfl⟩|⟨z,ex,h1,rfl⟩
  ·cases ex;exact .inl ⟨i,r1.f9,h1,q bO H1 _ e1 R1 (.str _)⟩
  ·cases ex;exact .inr ⟨z,r1.C8,k9 (by omega),q bO H1 _ e1 R1 (.str _)⟩
omit hP in
inductive lQ(X:Cx)(Ξ:gB)(P:fh):List Expr->ME->List TE->Prop
 |nil:lQ X Ξ P [] .nil []
 |lit {x:Str} {j:Nat} {p:Pos} {es:List Expr} {ms:ME} {ts:List TE} (hx:x.length<=2000) (r:lQ X Ξ P es ms ts):lQ X Ξ P (.Constant (.str x) j p::es) (.cons (.lit (.str x)) ms) (LE X.K Ξ (aO P (.lit (.str x)))::ts)
 |val {e:Expr} {m:ME} {p:Pos} {es:List Expr} {ms:ME} {ts:List TE} (he:PE X e (LE X.K Ξ (aO P m))) (r:lQ X Ξ P es ms ts):lQ X Ξ P (.FormattedValue e (-1) none p::es) (.cons (.prim .fv (.cons m .nil)) ms) (LE X.K Ξ (aO P (.prim .fv (.cons m .nil)))::ts)
theorem lQ.Kv{es ms ts}(h:lQ X Ξ P es ms ts):sP X es ts:=by
 induction h with
 |nil=>exact .nil
 |lit hx r ih=>exact .cons (Q9 HP λ_ _=>.str _) ih
 |val he r ih=>exact .cons (Nw hP he) ih
theorem lQ.join{bU:L2.St}{Q:Str->Hp->Prop}{es ms ts}(hf:lQ X Ξ P es ms ts):∀{Z:S} {g:G} {ρ:List Addr} {H:Hp} {acc:Str},acc.length+2000*es.length<=100000->m8 X.K ρ H Z bU->Rl X.K ρ g H ->
  cZ P ms Z g (λds g1=>∃x,U5 ds=some x/\∀bG H',Ext ρ H bG H'->Rl X.K bG g1 H'->Q (acc++x) H') (LX X.K ρ H Ξ)->xy ts bU H acc (λout H1=>out.length<=sizeLine/\Q out H1):=by
 have tl:∀{acc y:Str} {ρ:List Addr} {H:Hp} {bO:List Addr} {H1:Hp} {ds:List D} {g1:G},Ext ρ H bO H1->(∃x,U5 (.str y::ds)=some x/\∀bG H',Ext ρ H bG H'->Rl X.K bG g1 H'->Q (acc++x) H')->∃x,U5 ds=some x/\∀bG H',Ext bO H1 bG H'->Rl X.K bG g1 H'->Q (acc++y++x) H':=by
  intro acc y ρ H bO H1 ds g1 e1 h;obtain⟨x,hx,h⟩:=h;simp only[U5] at hx;cases hj:U5 ds with
  |none=>rw[hj] at hx;cases hx
  |some x' =>
   rw[hj] at hx;cases hx;refine⟨x',rfl,λbG H' e' R'=>?_⟩;rw[XN];exact h bG H' (e1.trans e') R'
 induction hf with
 |nil =>
  intro Z g ρ H acc ha s R h;simp only[cZ] at h;obtain⟨x,hx,h⟩:=h;cases hx;rw[Sy] at h;exact⟨k9 (by simpa using ha),h ρ H (.refl _ _) R⟩
 |lit hx r ih =>
  rename_i y j p es ms ts;intro Z g ρ H acc ha s R h;simp only[cZ,aO] at h;refine⟨Z,g,ρ,s,R,?_⟩;simp only[aO];intro bO H1 v1 e1 R1 r1;obtain rfl:=r1.C8;have hl:(acc++y).length<=acc.length+2000:=by rw[strLen_append];omega
  simp only[List.length_cons] at ha;exact⟨y,rfl,k9 (by omega),ih (by omega) (s.ext e1) R1 (v5 hP _ _ _ _ _ _ _ (λds g1 h=>tl e1 h) (λ_ _ z=>LX.ext e1 z) h)⟩
 |val he r ih =>
  rename_i e m p es ms ts;intro Z g ρ H acc ha s R h;simp only[cZ,aO] at h;refine⟨Z,g,ρ,s,R,?_⟩;simp only[aO,cZ];simp only[List.length_cons] at ha;refine b8 hP m _ _ _ _ _ _ (λd g1 h=>?_) (λ_ _ z=>z) h;obtain⟨d',g',⟨rfl,h⟩,q⟩:=h;have hy:∃y,d'=.str y/\y.length<=2000:=by
   rcases h with⟨i,ex,h1,rfl⟩|⟨z,ex,h1,rfl⟩
   ·exact⟨_,rfl,by rw[PySem.ofString_length];have:=int_text_length_le (k:=1920) (by decide) h1;omega⟩
   ·exact⟨z,rfl,h1⟩
  obtain⟨y,rfl,hy⟩:=hy;refine⟨_,_,⟨rfl,h⟩,λbO H1 v1 e1 R1 r1=>?_⟩;obtain rfl:=r1.C8;have hl:(acc++y).length<=acc.length+2000:=by rw[strLen_append];omega
  exact⟨y,rfl,k9 (by omega),ih (by omega) (s.ext e1) R1 (v5 hP _ _ _ _ _ _ _ (λds g1 h=>tl e1 h) (λ_ _ z=>LX.ext e1 z) q)⟩
theorem Si{kU kT:Expr}{rest:List Expr}{ms:ME}{ts:List TE}(h:lQ X Ξ P (kU::kT::rest) ms ts)(hl:(kU::kT::rest).length<=40):PE X (.JoinedStr (kU::kT::rest) pos) (LE X.K Ξ (aO P (.prim .ly ms))) :=
 (RL (h.Kv hP)).imp λbU H Q bq=>by
  obtain⟨Z,g,ρ,s,R,hw⟩:=bq;simp only[aO] at hw;refine lQ.join hP h (Q:=λout H1=>Q (.str out) H1) (acc:=Str.empty) ?_ s R (v5 hP ms _ _ _ _ _ _ (λds g1 hw=>?_) (λ_ _ z=>z) hw)
  ·have:Str.empty.length=0:=rfl;omega
  ·obtain⟨d',g',⟨x,hx,rfl,rfl⟩,q⟩:=hw;refine⟨x,hx,λbG H' e' R'=>?_⟩;rw[Rx];exact q bG H' _ e' R' (.str _)
omit hP in
def ox(ex:List Str)(K:PySem.W.Frag)(n:Nat)(t:List D->G->KD->KX->Prop):Sp:=λvs H Q E=>vs.length=n/\∃ds g ρ,b9 K ρ H ds vs/\Rl K ρ g H/\t ds g (LQ K ρ H Q) (LX K ρ H (ex,E))
omit hP in
def pD(X:Cx)(P:fh)(ex:List Str)(k f:Nat)(fa:Addr)(fd:FuncData)(ps:List Str):Prop :=
 hV X.prog X.w X.K X.mg X.base (iO X.prog X.w) k fa fd ps (ox ex X.K ps.length (P f))/\Binds X.K fd ps []/\∀ds g Q E,P f ds g Q E->ds.length=ps.length
theorem Jt{k f:Nat}{fa:Addr}{fd:FuncData}{ps:List Str}(F:pD X P Ξ.1 k f fa fd ps){ρ fI:List Addr}{H H0:Hp}{g:G}{xs:List D}{vs:List V}{Q0:KD}{Q:VK}(e0:Ext fI H0 ρ H)(R:Rl X.K ρ g H)(r:b9 X.K ρ H xs vs)(h:P f xs g Q0 (LX X.K fI H0 Ξ))(k:∀d g',Q0 d g'->LQ X.K ρ H Q d g'):ox Ξ.1 X.K ps.length (P f) (vs++[]) H Q Ξ.2:=by
 rw[eG];exact⟨by rw[<- r.length];exact F.2.2 _ _ _ _ h,xs,g,ρ,r,R,hP _ _ _ _ _ _ _ k (λ_ _ z=>LX.ext e0 z) h⟩
theorem Sf{k f:Nat}{x:Str}{fa:Addr}{fd:FuncData}{ps:List Str}{es:List Expr}{e:Expr}{gz:ME}{p:Pos}(hx:Passes (iO X.prog X.w) X Ξ.2)(F:pD X P Ξ.1 k f fa fd ps)(hr:u9 k X.A)(hg:Gl X x)(hm:X.mg x=some (.ref fa))(hk:PySem.W.keepIn X.K (.ref fa)=true)(ha:PA X (e::es) (LA X.K Ξ (cZ P gz)))(hd:(x==("__debug__":Str))=false)(dE:starEach (e::es) X.env=(false,eval e X.env)::starEach es X.env)(gA:(backTo pos (starEach es X.env)).any (·.1)=false):PE X (.Call (.Name x p) (e::es) [] pos) (LE X.K Ξ (aO P (.call f gz))) :=
 (RJ F.1 hr hg hm hk F.2.1 .nil hx ha hd dE gA).imp λbU H Q bq=>by
  obtain⟨Z,g,ρ,s,R,h⟩:=bq;simp only[aO] at h;exact jL hP s R (.refl _ _) h λxs g1 bO H1 vs e1 R1 r1 h=>Jt hP F e1 R1 r1 h λd g' h=>h.ext e1
theorem Ir{c:Str}{f k:Nat}{C fa:Addr}{fd:FuncData}{ps:List Str}(F:pD X P Ξ.1 k f fa fd ps)(hC:p0 X.K c C)(hc:jE X.K C){ρ fI:List Addr}{H H0:Hp}{g1:G}{xs:List D}{vs:List V}{Q:VK}(e0:Ext fI H0 ρ H)(R:Rl X.K ρ g1 H)(r:b9 X.K ρ H xs vs)(h:P f (.ref g1.length::xs) (g1++[.ins c []]) (λd g2=>d=.bC/\LQ X.K fI H0 Q (.ref g1.length) g2) (LX X.K fI H0 Ξ)):∀x dx,H x=none->H dx=none->dx≠x->ox Ξ.1 X.K ps.length (P f) (.ref x::(vs++[])) (upd (upd H dx (.own x)) x (.ins C dx [])) (λv H2=>v=.bC/\Q (.ref x) H2) Ξ.2:=by
 intro x dx hx ED dG;have wI:upd H dx (.own x) x=none:=by rw[d6 (bE dG)];exact hx
 have R2:=R.grow (o:=.own x) ED;have e2:Ext ρ H ρ (upd H dx (.own x)):=A4 ED;have R3:=R2.new (o:=.ins c []) (u:=.ins C dx []) wI ⟨hC,hc,.nil,λx hx=>absurd hx (by simp)⟩;have e3:Ext ρ (upd H dx (.own x)) (ρ++[x]) (upd (upd H dx (.own x)) x (.ins C dx [])):=M0 wI;have:=Jt hP F (e0.trans (e2.trans e3)) R3 (.cons (.ref (R.C2 x)) (r.ext (e2.trans e3))) h (Q:=λv H2=>v=.bC/\Q (.ref x) H2) λd g' q bG H' v e' R' r'=>by
  obtain⟨rfl,q⟩:=q;exact⟨r'.xI,q bG H' _ (e0.trans (e2.trans (e3.trans e'))) R' (.ref (e'.get (R.C2 x)))⟩
 exact this
theorem Sl{k f:Nat}{x:Str}{C fa:Addr}{fd:FuncData}{ps:List Str}{es:List Expr}{e:Expr}{gz:ME}{p:Pos}(hx:Passes (iO X.prog X.w) X Ξ.2)(F:pD X P Ξ.1 k f fa fd ps)(M:Mk X.K C fa)(hC:p0 X.K x C)(hc:jE X.K C)(hr:u9 (k+1) X.A)(hg:Gl X x)(hm:X.mg x=some (.ref C))(ha:PA X (e::es) (LA X.K Ξ (cZ P gz)))(hd:(x==("__debug__":Str))=false)(dE:starEach (e::es) X.env=(false,eval e X.env)::starEach es X.env)(gA:(backTo pos (starEach es X.env)).any (·.1)=false):PE X (.Call (.Name x p) (e::es) [] pos) (LE X.K Ξ (aO P (.make x f gz))) :=
 (RN M F.1 hr hg hm F.2.1 .nil hx ha hd dE gA).imp λbU H Q bq=>by
  obtain⟨Z,g,ρ,s,R,h⟩:=bq;simp only[aO] at h;exact jL hP s R (.refl _ _) h λxs g1 bO H1 vs e1 R1 r1 h=>Ir hP F hC hc e1 R1 r1 h
theorem a11{k f:Nat}{x:Str}{C fa:Addr}{fd:FuncData}{ps:List Str}{p:Pos}(hx:Passes (iO X.prog X.w) X Ξ.2)(F:pD X P Ξ.1 k f fa fd ps)(M:Mk X.K C fa)(hC:p0 X.K x C)(hc:jE X.K C)(hr:u9 (k+1) X.A)(hg:Gl X x)(hm:X.mg x=some (.ref C))(hd:(x==("__debug__":Str))=false):PE X (.Call (.Name x p) [] [] pos) (LE X.K Ξ (aO P (.make x f .nil))) :=
 (a33 M F.1 hr hg hm F.2.1 .nil hx hd).imp λbU H Q bq=>by
  obtain⟨Z,g,ρ,s,R,h⟩:=bq;simp only[aO,cZ] at h;exact Ir hP F hC hc (.refl _ _) R .nil h
end
end M

namespace M
open PySem L2 PySem.Spec PyProof.Rows
inductive ka(K:PySem.W.Frag)(ρ:List Addr)(H:Hp):List D->List (V×V)->Prop
 |nil:ka K ρ H [] []
 |cons {k d:D} {x y:V} {ds:List D} {ps:List (V×V)} (h1:d5 K ρ H k x) (h2:d5 K ρ H d y) (r:ka K ρ H ds ps):ka K ρ H (k::d::ds) ((x,y)::ps)
theorem Og{K ρ H}{xs:List D}{ps:List (V×V)}(r:ka K ρ H xs ps):∀{acc kvs:List (Key×D)} {accV:List (Key×V)},vP xs acc=some kvs->i3 K ρ H acc accV->∃more:List (Key×V),ps=more.map (λkv=>(kV kv.1,kv.2))/\2*more.length=xs.length/\i3 K ρ H kvs (R8 accV more):=by
 induction r with
 |nil =>
  intro acc kvs accV h ra;cases h;exact⟨[],rfl,rfl,ra⟩
 |cons h1 h2 r ih =>
  rename_i k d x y ds ps;intro acc kvs accV h ra;simp only[vP] at h;cases hk:V6 k with
  |none=>rw[hk] at h;cases h
  |some c =>
   rw[hk] at h;obtain⟨more,e1,e2,r2⟩:=ih (show vP ds (putD acc c d)=some kvs from h) (ra.put h2);have ex:=X2 hk h1;subst ex;refine⟨(c,y)::more,by rw[bg,<- e1],by simp only[List.length_cons];omega,r2⟩
section
variable{X:Cx}{Ξ:gB}{P:fh}(hP:f6 P){pos:Pos}
inductive lR(X:Cx)(Ξ:gB)(P:fh):List (Option Expr)->List Expr->ME->List (TE×TE)->Prop
 |nil:lR X Ξ P [] [] .nil []
 |cons {k v:Expr} {ks:List (Option Expr)} {vs:List Expr} {mk mv ms:ME} {gP:List (TE×TE)} (hk:PE X k (LE X.K Ξ (aO P mk))) (hv:PE X v (LE X.K Ξ (aO P mv))) (r:lR X Ξ P ks vs ms gP) :
   lR X Ξ P (some k::ks) (v::vs) (.cons mk (.cons mv ms)) ((LE X.K Ξ (aO P mk),LE X.K Ξ (aO P mv))::gP)
theorem lR.Ku{ks vs ms gP}(h:lR X Ξ P ks vs ms gP):vW X pos ks vs gP:=by
 induction h with
 |nil=>exact RS
 |cons hk hv r ih=>exact a27 hk hv ih
theorem lR.len{ks vs ms gP}(h:lR X Ξ P ks vs ms gP):ks.all (·.isSome)=true/\ks.length=vs.length:=by
 induction h with
 |nil=>exact⟨rfl,rfl⟩
 |cons hk hv r ih=>exact⟨by simpa using ih.1,by simp[ih.2]⟩
include hP
theorem lR.pairs{ks vs ms gP}(hd:lR X Ξ P ks vs ms gP):∀{bU:L2.St} {Z:S} {g:G} {ρ fI:List Addr} {H H0:Hp} {Qd:List D->G->Prop} {Q:List (V×V)->Hp->Prop},m8 X.K ρ H Z bU->Rl X.K ρ g H->Ext fI H0 ρ H->cZ P ms Z g Qd (LX X.K fI H0 Ξ) ->
  (∀ds g' bG H' ps,Ext ρ H bG H'->Rl X.K bG g' H'->ka X.K bG H' ds ps->Qd ds g'->Q ps H')->xM gP bU H Q:=by
 induction hd with
 |nil =>
  intro bU Z g ρ fI H H0 Qd Q s R e0 h k;simp only[cZ] at h;exact k [] g ρ H [] (.refl _ _) R .nil h
 |cons hk hv r ih =>
  intro bU Z g ρ fI H H0 Qd Q s R e0 h k;simp only[cZ] at h;refine fg hP s R e0 h λx g1 bO H1 v1 e1 R1 r1 h=>fg hP (s.ext e1) R1 (e0.trans e1) h λy g2 eK H2 v2 e2 R2 r2 h=>?_;refine ih (s.ext (e1.trans e2)) R2 (e0.trans (e1.trans e2)) h λds g' bG H' ps e' R' rp hq=>?_;exact k _ g' bG H' _ (e1.trans (e2.trans e')) R' (.cons (r1.ext (e2.trans e')) (r2.ext e') rp) hq
theorem P'{ks:List (Option Expr)}{vs:List Expr}{ms:ME}{gP:List (TE×TE)}(hd:lR X Ξ P ks vs ms gP)(h0:ks≠[])(oR:ks.length<=15):PE X (.Dict ks vs pos) (LE X.K Ξ (aO P (.pb ms))) :=
 (RK hd.Ku hd.len.1 hd.len.2 h0 oR).imp λbU H Q ⟨Z,g,ρ,s,R,h⟩ p hp=>by
  simp only[aO] at h;have e1:Ext ρ H (ρ++[p]) (upd H p (.dK [])):=M0 hp;refine lR.pairs hP hd (s.ext e1) (R.new hp (o:=.dN []) (u:=.dK []) i3.nil) e1 h λds g2 eK H2 ps e2 R2 rp hq=>?_;obtain⟨kvs,hk,hz,hg,q⟩:=hq;have uw:eK[g.length]?=some p:=e2.get (R.C2 p);obtain⟨vs',hv,rv⟩:=R2.dN hg uw;cases rv;obtain⟨more,em,hl,rk⟩:=Og rp hk (accV:=[]) .nil;refine⟨hv,more,em,by omega,?_⟩;obtain⟨R3,e3⟩:=R2.put (o':=.dN kvs) (u:=.dK (R8 [] more)) hg rfl uw rk;exact q eK _ _ (e1.trans (e2.trans e3)) R3 (.ref uw)
end
end M

namespace M
open PySem L2 PySem.Spec PyProof.Rows
theorem Vr{K:PySem.W.Frag}{fI:List Addr}{H0:Hp}{a:Addr}{l:List D}{vs:List V}(ht:TupAt K H0 a vs)(rs:b9 K fI H0 l vs):V9 K fI H0 (.fix l) (Df K a):=by
 intro ρ g H e R i;have uo:=ht.ext e;have DE:=rs.ext e;refine⟨λh=>⟨vs,uo.sq,?_⟩,λd h=>?_⟩
 ·simp only[IK.at] at h;have:=cO.mp (aM h);rw[<- DE.length];exact this
 ·simp only[IK.at] at h;obtain⟨v,hv,rv⟩:=DE.get (aM h);refine⟨⟨vs,v,uo.sq,hv⟩,λw H' y=>?_⟩;obtain⟨rfl,y⟩:=y;have:=y vs uo.sq;rw[hv] at this;cases this;exact⟨.refl _ _,R,rv⟩
theorem Vp{K:PySem.W.Frag}{fI:List Addr}{H0:Hp}{a:Addr}{j:Nat}(ha:fI[j]?=some a):V9 K fI H0 (.lst j) (Dg K a):=by
 intro ρ g H e R i;have lx:=e.get ha;refine⟨λh=>?_,λd h=>?_⟩
 ·simp only[IK.at] at h;cases el:c7 g j with
  |none=>rw[el] at h;cases h
  |some l =>
   rw[el] at h;obtain⟨vs,hq,rs⟩:=R.items el lx;refine⟨vs,hq,?_⟩;have:=cO.mp (aM h);rw[<- rs.length];exact this
 ·simp only[IK.at] at h;cases el:c7 g j with
  |none=>rw[el] at h;cases h
  |some l =>
   rw[el] at h;obtain⟨vs,hq,rs⟩:=R.items el lx;obtain⟨v,hv,rv⟩:=rs.get (aM h);refine⟨⟨vs,v,hq,hv⟩,λw H' y=>?_⟩;obtain⟨rfl,y⟩:=y;have:=y vs hq;rw[hv] at this;cases this;exact⟨.refl _ _,R,rv⟩
theorem Jl{K:PySem.W.Frag}{fI:List Addr}{H0:Hp}{lo:Int}{n:Nat}:V9 K fI H0 (.fix (i0 lo n)) (vZ lo n):=by
 unfold i0;intro ρ g H e R i;refine⟨λh=>?_,λd h=>?_⟩
 ·simp only[IK.at] at h;have:=cO.mp (aM h);show n<=i;simpa using this
 ·simp only[IK.at] at h;have h:=aM h;have hi:i<n:=by
   have:=(ao.mp h).1;simpa using this
  rw[ag,bA hi] at h;cases h;refine⟨hi,λw H' y=>?_⟩;obtain⟨rfl,rfl⟩:=y;exact⟨.refl _ _,R,.int _⟩
theorem Vq{K:PySem.W.Frag}{fI:List Addr}{H0:Hp}{a:Addr}{j n:Nat}(ha:fI[j]?=some a):V9 K fI H0 (.rC j n) (De K a n):=by
 intro ρ g H e R i;have lx:=e.get ha;refine⟨λh=>?_,λd h=>?_⟩
 ·simp only[IK.at] at h;cases el:c7 g j with
  |none=>rw[el] at h;cases h
  |some l =>
   rw[el] at h;dsimp only at h;by_cases hl:l.length=n
   ·rw[aK hl] at h;have h:=aM h;by_cases hi:i<n
    ·rw[aK hi] at h;have:=cO.mp h;omega
    ·exact kP hi
   ·rw[aC hl] at h;cases h
 ·simp only[IK.at] at h;cases el:c7 g j with
  |none=>rw[el] at h;cases h
  |some l =>
   rw[el] at h;dsimp only at h;by_cases hl:l.length=n
   ·rw[aK hl] at h;have h:=aM h;by_cases hi:i<n
    ·rw[aK hi] at h;obtain⟨vs,hq,rs⟩:=R.items el lx;obtain⟨v,hv,rv⟩:=rs.get h;refine⟨⟨vs,v,hq,by rw[<- rs.length];exact hl,hi,hv⟩,λw H' y=>?_⟩;obtain⟨rfl,y⟩:=y;have:=y vs hq;rw[hv] at this;cases this;exact⟨.refl _ _,R,rv⟩
    ·rw[aC hi] at h;cases h
   ·rw[aC hl] at h;cases h
theorem Vo{K:PySem.W.Frag}{fI:List Addr}{H0:Hp}{a:Addr}{j:Nat}(ha:fI[j]?=some a):V9 K fI H0 (.nU j) (Dh K a):=by
 intro ρ g H e R i;have lx:=e.get ha;refine⟨λh=>?_,λd h=>?_⟩
 ·simp only[IK.at] at h;cases el:c7 g j with
  |none=>rw[el] at h;cases h
  |some l =>
   rw[el] at h;obtain⟨vs,hq,rs⟩:=R.items el lx;refine⟨vs,hq,?_⟩;have h:=aM h;rw[Option.map_eq_none_iff] at h;have:=cO.mp h;rw[<- rs.length];exact this
 ·simp only[IK.at] at h;cases el:c7 g j with
  |none=>rw[el] at h;cases h
  |some l =>
   rw[el] at h;obtain⟨vs,hq,rs⟩:=R.items el lx;have h:=aM h;rw[aa] at h;obtain⟨d',hd,rfl⟩:=h;obtain⟨v,hv,rv⟩:=rs.get hd;refine⟨⟨vs,v,hq,hv⟩,λw H' y=>?_⟩;obtain⟨p,x,hp,rfl,y,rfl⟩:=y;have:=y vs hq;rw[hv] at this;cases this;exact⟨A4 hp,R.grow hp,.tup (.inl p8) (.cons (.int _) (.cons (rv.ext (A4 hp)) .nil))⟩
end M
namespace L2
open PySem PySem.Spec PyProof.Rows
theorem Pt{X:Cx}{tg l:Expr}{tl:TE}(hl:PE X l tl):PI X tg l (λZ H R=>tl Z H λx H1=>(∃a,x=.ref a/\(∃xs,fB X.K H1 a xs)/\R (Dg X.K a) H1)\/(∃a,x=.ref a/\(∃xs,hU X.K H1 a xs)/\R (Df X.K a) H1)):=by
 intro pins s Z H R I h;refine cF (hl pins s Z H _ I h) λv s1 bq=>?_;obtain⟨x,H1,I1,r1,q1⟩:=bq;rcases q1 with⟨a,e,⟨xs,hq⟩,q⟩|⟨a,e,⟨xs,hq⟩,q⟩
 ·subst e;cases r1;obtain⟨aX,rv,p,hz⟩:=I1.list hq;refine hX p.isList ?_;refine⟨s1.heap.objs.size,[s1.heap.objs.size],_,_,H1,rfl,I1.kept (t':=s1.toks) λb o e=>av _ e,XU a _,⟨_,aG _ rfl,rfl,rfl⟩,λb hb=>?_,q⟩;have e:b=s1.heap.objs.size:=by simpa using hb
  subst e;exact I1.pj (aw _) (I1.bK.fresh (aw _))
 ·subst e;cases r1;obtain⟨aX,rv,p,hz⟩:=I1.tuple hq;refine wpAny_pyIter_tuple (show s1.heap.IsTuple a aX.toArray from p) ?_;refine⟨s1.heap.objs.size,[s1.heap.objs.size],_,_,H1,rfl,I1.kept (t':=s1.toks) λb o e=>av _ e,YJ a _,⟨_,aG _ rfl,rfl,rfl⟩,λb hb=>?_,q⟩;have e:b=s1.heap.objs.size:=by simpa using hb
  subst e;exact I1.pj (aw _) (I1.bK.fresh (aw _))
end L2
namespace M
open PySem L2 PySem.Spec PyProof.Rows
section
variable{X:Cx}{Ξ:gB}{P:fh}(hP:f6 P){a b c tg:Expr}{ma mb mc:ME}{pos p:Pos}
include hP
theorem Qk(ha:PE X a (LE X.K Ξ (aO P ma))):PI X tg a (LI X.K Ξ (eQ P (.eO ma))) :=
 (Pt ha).imp λbU H R bq=>by
  obtain⟨Z,g,ρ,s,Rr,h⟩:=bq;simp only[eQ] at h;refine fg hP s Rr (.refl _ _) h λx g1 bO H1 v1 e1 R1 r1 h=>?_;rcases h with⟨l,rfl,h⟩|⟨i,l,rfl,hl,h⟩
  ·obtain⟨a',vs,rfl,ht,rs⟩:=r1.K5;exact .inr ⟨_,rfl,⟨_,ht.sq⟩,h bO H1 _ e1 R1 (Vr ht rs)⟩
  ·obtain⟨a',rfl,lx⟩:=r1.j5;obtain⟨vs,hq,rs⟩:=R1.items hl lx;exact .inl ⟨_,rfl,⟨_,hq⟩,h bO H1 _ e1 R1 (Vp lx)⟩
theorem Ss{elts:List Expr}{x1:Nat}{tp:Pos}(ha:PE X a (LE X.K Ξ (aO P ma)))(hg:Gl X "enumerate")(hm:X.mg "enumerate"=none)(hs:starEach [a] X.env=[(false,eval a X.env)]):PI X (.Tuple elts x1 tp) (.Call (.Name "enumerate" p) [a] [] pos) (LI X.K Ξ (eQ P (.ku ma))) :=
 (RQ hg hm (A6 hP ha (G0 hP) (by rw[hs];rfl)) hs).imp λbU H R bq=>by
  obtain⟨Z,g,ρ,s,Rr,h⟩:=bq;simp only[eQ] at h;refine jL hP (m:=.cons ma .nil) s Rr (.refl _ _) (Q0:=λxs g1=>∃a l,xs=[.ref a]/\c7 g1 a=some l/\∀bG H' J,Ext ρ H bG H'->Rl X.K bG g1 H'->V9 X.K bG H' (.nU a) J->R J H') ?_ λxs g1 bO H1 vs e1 R1 r1 h=>?_
  ·simp only[cZ];exact b8 hP ma _ _ _ _ _ _ (λx g1 ⟨i,l,e,hl,h⟩=>⟨i,l,by rw[e],hl,h⟩) (λ_ _ z=>z) h
  ·obtain⟨j,l,rfl,hl,h⟩:=h;obtain⟨v,rfl,rv⟩:=r1.one;obtain⟨a',rfl,ra⟩:=rv.j5;obtain⟨vs,hq,rs⟩:=R1.items hl ra;exact⟨_,rfl,⟨_,hq⟩,h bO H1 _ e1 R1 (Vo ra)⟩
theorem Qj(ha:PE X a (LE X.K Ξ (aO P ma)))(hg:Gl X "reversed")(hm:X.mg "reversed"=none)(hs:starEach [a] X.env=[(false,eval a X.env)]):PI X tg (.Call (.Name "reversed" p) [a] [] pos) (LI X.K Ξ (eQ P (.nr ma))) :=
 (Pq hg hm (A6 hP ha (G0 hP) (by rw[hs];rfl)) hs).imp λbU H R bq=>by
  obtain⟨Z,g,ρ,s,Rr,h⟩:=bq;simp only[eQ] at h;refine jL hP (m:=.cons ma .nil) s Rr (.refl _ _) (Q0:=λxs g1=>∃a l,xs=[.ref a]/\c7 g1 a=some l/\∀bG H' J,Ext ρ H bG H'->Rl X.K bG g1 H'->V9 X.K bG H' (.rC a l.length) J->R J H') ?_ λxs g1 bO H1 vs e1 R1 r1 h=>?_
  ·simp only[cZ];exact b8 hP ma _ _ _ _ _ _ (λx g1 ⟨i,l,e,hl,h⟩=>⟨i,l,by rw[e],hl,h⟩) (λ_ _ z=>z) h
  ·obtain⟨j,l,rfl,hl,h⟩:=h;obtain⟨v,rfl,rv⟩:=r1.one;obtain⟨a',rfl,ra⟩:=rv.j5;obtain⟨vs,hq,rs⟩:=R1.items hl ra;exact⟨_,vs,rfl,hq,h bO H1 _ e1 R1 (by rw[rs.length];exact Vq ra)⟩
theorem Su(ha:PE X a (LE X.K Ξ (aO P ma)))(hg:Gl X "range")(hm:X.mg "range"=none)(hs:starEach [a] X.env=[(false,eval a X.env)]):PI X tg (.Call (.Name "range" p) [a] [] pos) (LI X.K Ξ (eQ P (.dS ma))) :=
 (XA hg hm (A6 hP ha (G0 hP) (by rw[hs];rfl)) hs).imp λbU H R bq=>by
  obtain⟨Z,g,ρ,s,Rr,h⟩:=bq;simp only[eQ] at h;refine jL hP (m:=.cons ma .nil) s Rr (.refl _ _) (Q0:=λxs g1=>∃j:Int,xs=[.int j]/\-(2 ^ 62)<=j/\j<2 ^ 62/\∀bG H' J,Ext ρ H bG H'->Rl X.K bG g1 H'->V9 X.K bG H' (.fix (i0 0 j.toNat)) J->R J H') ?_ λxs g1 bO H1 vs e1 R1 r1 h=>?_
  ·simp only[cZ];exact b8 hP ma _ _ _ _ _ _ (λx g1 ⟨j,e,h1,h2,h⟩=>⟨j,by rw[e],h1,h2,h⟩) (λ_ _ z=>z) h
  ·obtain⟨j,rfl,h1,h2,h⟩:=h;obtain⟨v,rfl,rv⟩:=r1.one;obtain rfl:=rv.f9;exact⟨_,rfl,h1,h2,h bO H1 _ e1 R1 Jl⟩
theorem Sv(ha:PE X a (LE X.K Ξ (aO P ma)))(hb:PE X b (LE X.K Ξ (aO P mb)))(hg:Gl X "range")(hm:X.mg "range"=none)(hs:starEach [a,b] X.env=[(false,eval a X.env),(false,eval b X.env)])(iM:starEach [b] X.env=[(false,eval b X.env)]) :
  PI X tg (.Call (.Name "range" p) [a,b] [] pos) (LI X.K Ξ (eQ P (.iY ma mb))) :=
 (XB hg hm (A6 hP ha (A6 hP hb (G0 hP) (by rw[iM];rfl)) (by rw[hs,iM])) hs iM).imp λbU H R bq=>by
  obtain⟨Z,g,ρ,s,Rr,h⟩:=bq;simp only[eQ] at h;refine jL hP (m:=.cons ma (.cons mb .nil)) s Rr (.refl _ _) (Q0:=λxs g1=>∃i j:Int,xs=[.int i,.int j]/\(-(2 ^ 62)<=i/\i<2 ^ 62/\-(2 ^ 62)<=j/\j<2 ^ 62)/\∀bG H' J,Ext ρ H bG H'->Rl X.K bG g1 H'->V9 X.K bG H' (.fix (i0 i (j-i).toNat)) J->R J H') ?_ λxs g1 bO H1 vs e1 R1 r1 h=>?_
  ·simp only[cZ];exact b8 hP ma _ _ _ _ _ _ (λx g1 h=>b8 hP mb _ _ _ _ _ _ (λy g2 ⟨i,j,e,e',h1,h⟩=>⟨i,j,by rw[e,e'],h1,h⟩) (λ_ _ z=>z) h) (λ_ _ z=>z) h
  ·obtain⟨i,j,rfl,h1,h⟩:=h;obtain⟨v,w,rfl,rv,fJ⟩:=r1.two;obtain rfl:=rv.f9;obtain rfl:=fJ.f9;exact⟨_,_,rfl,h1,h bO H1 _ e1 R1 Jl⟩
end
section
variable{X:Cx}{pos:Pos}
theorem Qi{i:Nat}{x:Str}(hN:X.N.Nodup)(hi:X.N[i]?=some x)(hx:Loc X.env.scope x)(hf:X.fn x=true\/X.env.scope.names.lookup x=some .local):PG X (.Name x pos) (LG X.K (.one i)) :=
 (IA hN hi hx hf).imp λv bU H Q hq=>by
  obtain⟨d,Z,g,ρ,s,R,r,h⟩:=hq;exact h _ (s.set i r)
inductive fx(X:Cx):List Expr->List Nat->Prop
 |nil:fx X [] []
 |cons {x:Str} {p:Pos} {i:Nat} {es:List Expr} {is:List Nat} (hi:X.N[i]?=some x) (hx:Loc X.env.scope x) (hf:X.fn x=true\/X.env.scope.names.lookup x=some .local) (r:fx X es is):fx X (.Name x p::es) (i::is)
def CD:List Nat->pA
 |[]=>Ft
 |i::is=>Ji (sE i) (CD is)
theorem Xz(hN:X.N.Nodup){es:List Expr}{is:List Nat}(h:fx X es is):vX X es (CD is):=by
 induction h with
 |nil=>exact RP
 |cons hi hx hf r ih=>exact a31 (IA hN hi hx hf) ih rfl
theorem BQ:∀{es:List Expr} {is:List Nat},fx X es is->(assignEach es X.env).length=is.length/\(assignEach es X.env).findIdx? (·.1)=none
 |_,_,.nil=>⟨rfl,rfl⟩
 |_,_,.cons (x:=x) (p:=p) (es:=es) hi hx hf r=>by
  obtain⟨h1,h2⟩:=BQ r;have e:assignEach (.Name x p::es) X.env=(false,assign (.Name x p) X.env)::assignEach es X.env:=rfl;rw[e];refine⟨by simp[h1],?_⟩;rw[List.findIdx?_cons,h2]
  rfl
theorem Gs{K:PySem.W.Frag}{ρ:List Addr}{H:Hp}{k:S->Prop}{Q:L2.St->Hp->Prop}:∀{is:List Nat} {l:List D} {vs:List V} {Z bN:S} {bU:L2.St},C9 is l Z=some bN->b9 K ρ H l vs->m8 K ρ H Z bU->(∀cT,m8 K ρ H bN cT->Q cT H)->CD is vs bU H Q
 |[],_,_,_,_,_,h,.nil,s,q=>by
  simp only[C9] at h;cases h;exact⟨rfl,q _ s⟩
 |[],_,_,_,_,_,h,.cons _ _,s,q=>by simp only[C9] at h;cases h
 |i::is,_,_,_,_,_,h,.nil,s,q=>by simp only[C9] at h;cases h
 |i::is,_,_,_,_,_,h,.cons r rr,s,q=>by
  simp only[C9] at h;exact⟨_,_,rfl,Gs (k:=k) h rr (s.set i r) q⟩
theorem Y5:∀{is:List Nat} {l:List D} {Z bN:S},C9 is l Z=some bN->l.length=is.length
 |[],[],_,_,_=>rfl
 |[],_::_,_,_,h=>by simp only[C9] at h;cases h
 |_::_,[],_,_,h=>by simp only[C9] at h;cases h
 |_::is,_::l,_,_,h=>by simp only[C9] at h;simp[Y5 h]
theorem II{es:List Expr}{is:List Nat}{k:Nat}(hc:X.calm=true)(hN:X.N.Nodup)(hs:fx X es is):PG X (.Tuple es k pos) (LG X.K (.many is)) :=
 (Pp hc (Xz hN hs) (BQ hs).1 (BQ hs).2).imp λv bU H Q bq=>by
  obtain⟨d,Z,g,ρ,s,R,r,h⟩:=bq;obtain⟨l,bN,rfl,e,h⟩:=h;obtain⟨a',vs,rfl,ht,rs⟩:=r.K5;exact⟨_,_,rfl,ht.sq,by rw[<- rs.length];exact Y5 e,Gs (k:=λ_=>True) e rs s h⟩
end
theorem LN.ext{K ρ H N bO H1}(e:Ext ρ H bO H1):(LN K ρ H N).le (LN K bO H1 N) :=
 ⟨λZ g h bG H' cT e' R s=>h bG H' cT (e.trans e') R s,λd g h=>h.ext e,λZ g h bG H' cT e' R s=>h bG H' cT (e.trans e') R s,λZ g h bG H' cT e' R s=>h bG H' cT (e.trans e') R s⟩
section
variable{X:Cx}{Ξ:gB}{P:fh}(hP:f6 P){a b c tg:Expr}{ma mb mc:ME}{st:Stmt}{rest:List Stmt}{yV mq:MS}{pos p:Pos}
include hP
theorem HW:iN X [] (LS X.K Ξ (wpS P .pass)) :=
 (RX (X:=X)).imp λN bU H ⟨Z,g,ρ,s,R,h⟩=>h ρ H bU (.refl _ _) R s
theorem IJ(h1:PS X st (LS X.K Ξ (wpS P yV)))(h2:iN X rest (LS X.K Ξ (wpS P mq))):iN X (st::rest) (LS X.K Ξ (wpS P (.seq yV mq))) :=
 (a24 h1 h2).imp λN bU H ⟨Z,g,ρ,s,R,h⟩ =>
  rq hP s R (.refl _ _) (show wpS P yV { LN X.K ρ H N with nx:=λhZ g1=>wpS P mq (LN X.K ρ H N) hZ g1 (LX X.K ρ H Ξ) } Z g (LX X.K ρ H Ξ) from h) ⟨λhZ g1 h bO H1 JS e1 R1 s1=>rq hP s1 R1 e1 h (LN.ext e1),λ_ _ z=>z,λ_ _ z=>z,λ_ _ z=>z⟩
theorem SD(ha:PE X a (LE X.K Ξ (aO P ma)))(hs:swapsWith a none pos.line X.env=pure false):PS X (.Expr a pos) (LS X.K Ξ (wpS P (.expr ma))) :=
 (RT ha hs).imp λN bU H ⟨Z,g,ρ,s,R,h⟩=>fg hP s R (.refl _ _) h λx g1 bO H1 v1 e1 R1 r1 h=>h bO H1 bU e1 R1 (s.ext e1)
theorem HZ{i:Nat}{x:Str}{p:Pos}(h0:PS X (.Assign [.Name x p] a pos) (vq (LE X.K Ξ (aO P ma)) (sE i))):PS X (.Assign [.Name x p] a pos) (LS X.K Ξ (wpS P (.set i ma))) :=
 h0.imp λN bU H ⟨Z,g,ρ,s,R,h⟩=>fg hP s R (.refl _ _) h λx g1 bO H1 v1 e1 R1 r1 h=>h bO H1 _ e1 R1 ((s.ext e1).set i r1)
theorem QA{t:MT}(h0:PS X (.Assign [tg] a pos) (vq (LE X.K Ξ (aO P ma)) (LG X.K t))):PS X (.Assign [tg] a pos) (LS X.K Ξ (wpS P (.kD t ma))) :=
 h0.imp λN bU H ⟨Z,g,ρ,s,R,h⟩=>fg hP s R (.refl _ _) h λx g1 bO H1 v1 e1 R1 r1 h=>⟨x,Z,g1,bO,s.ext e1,R1,r1,v7 (λbN h cT s'=>h bO H1 cT e1 R1 s') h⟩
theorem a02(hu:X.A.units+100<cLine){o i:Expr}{mo mi:ME}{tp:Pos}(ha:PE X a (LE X.K Ξ (aO P ma)))(ho:PE X o (LE X.K Ξ (aO P mo)))(hi:PE X i (LE X.K Ξ (aO P mi)))(hs:swapsWithSole [.Subscript o i tp] a pos.line X.env=pure false)(lx:∀ v,assign (.Subscript o i tp) X.env v=(do
   let ov <- holding [v] (eval o X.env)
   let iv <- holding [v,ov] (eval i X.env)
   standAt tp
   holding [v,ov,iv] (setItem ov iv v)
   release [v,ov,iv] [])):PS X (.Assign [.Subscript o i tp] a pos) (LS X.K Ξ (wpS P (.dY mo mi ma))) :=
 (HR ha (Po ho hi (Qh hu) lx) hs).imp λN bU H ⟨Z,g,ρ,s,R,h⟩ =>
  fg hP s R (.refl _ _) h λx g1 bO H1 v1 e1 R1 r1 h=>fg hP (s.ext e1) R1 e1 h λy g2 eK H2 v2 e2 R2 r2 h=>fg hP (s.ext (e1.trans e2)) R2 (e1.trans e2) h λz g3 iV H3 v3 e3 R3 r3 h =>
   ⟨y,z,x,g3,iV,R3,r2.ext e3,r3,r1.ext (e2.trans e3),T7 (λg4 h pK H4 e4 R4=>h pK H4 bU (e1.trans (e2.trans (e3.trans e4))) R4 (s.ext (e1.trans (e2.trans (e3.trans e4))))) h⟩
omit hP in
def Cv(K:PySem.W.Frag)(f:Str)(cs:List Str):Prop:=∀c C,c∈cs->p0 K c C->B1 K C f
omit hP in
theorem Sr{f:Str}{cs:List Str}(hF:Cv X.K f cs){ρ:List Addr}{H:Hp}{g g':G}{x v:D}{xv vv:V}(R:Rl X.K ρ g H)(rx:d5 X.K ρ H x xv)(rv:d5 X.K ρ H v vv)(h:Js f cs x v g g') :
  ∃a C dx fs,xv=.ref a/\H a=some (.ins C dx fs)/\jE X.K C/\B1 X.K C f/\fs.length<1000/\Rl X.K ρ g' (upd H a (.ins C dx (A1 f vv fs)))/\Ext ρ H ρ (upd H a (.ins C dx (A1 f vv fs))):=by
 obtain⟨i,c,fs,rfl,hi,hc,hz,rfl⟩:=h;obtain⟨a',rfl,ra⟩:=rx.j5;obtain⟨C,dx,vs,hH,hC,jD,rk,na⟩:=R.ins hi ra;obtain⟨R',e'⟩:=R.put (o':=.ins c (j6 f v fs)) (u:=.ins C dx (A1 f vv vs)) hi rfl ra ⟨hC,jD,rk.A1 rv,Hb (p:=λy=>B1 X.K C y) (hF c C hc hC) na⟩;exact⟨a',C,dx,vs,rfl,hH,jD,hF c C hc hC,by rw[<- rk.length];omega,R',e'⟩
theorem SE{f:Str}{cs:List Str}{o:Expr}{mo:ME}{tp:Pos}(hF:Cv X.K f cs)(ho:PE X o (LE X.K Ξ (aO P mo)))(ha:PE X a (LE X.K Ξ (aO P ma)))(hs:swapsWith a (some (.Attribute o f tp)) pos.line X.env=pure false):PS X (.Assign [.Attribute o f tp] a pos) (LS X.K Ξ (wpS P (.gJ f cs mo ma))) :=
 (Pw ho ha hs).imp λN bU H ⟨Z,g,ρ,s,R,h⟩=>fg hP s R (.refl _ _) h λx g1 bO H1 v1 e1 R1 r1 h=>fg hP (s.ext e1) R1 e1 h λy g2 eK H2 v2 e2 R2 r2 h=>by
  obtain⟨g3,h,q⟩:=h;obtain⟨a',C,dx,fs,hx,hH,jD,na,hz,R3,e3⟩:=Sr hF R2 r2 (r1.ext e2) h;exact⟨a',C,dx,fs,hx,hH,jD,na,hz,q eK _ bU (e1.trans (e2.trans e3)) R3 (s.ext (e1.trans (e2.trans e3)))⟩
theorem SA{i:Nat}{x:Str}{tp:Pos}{op:Operator}{p:Pr}(Ll:(op=.Add/\p=.iadd)\/(op=.Sub/\p=.my))(hN:X.N.Nodup)(hi:X.N[i]?=some x)(hx:Loc X.env.scope x)(hf:X.fn x=true\/X.env.scope.names.lookup x=some .local)(ha:PE X a (LE X.K Ξ (aO P ma))):PS X (.AugAssign (.Name x tp) op a pos) (LS X.K Ξ (wpS P (.jZ i p ma))):=by
 have ho:JA X op (r2 X.K p):=by
  intro pins s Z H x y v u Q I rx ry h;obtain⟨d,e,g,ρ,R,rd,re,d',g',hr,q⟩:=h;rcases Ll with⟨rfl,rfl⟩|⟨rfl,rfl⟩
  ·rcases hr with⟨i,j,ex,rfl,rfl⟩|⟨l,m,ex,hz,rfl,rfl⟩
   ·obtain⟨rfl,rfl⟩:=x8 ex;obtain rfl:=rd.f9;obtain rfl:=re.f9;exact Ri pins s Z H _ _ v u Q I rx ry ⟨i,j,rfl,rfl,q.now R (.int _)⟩
   ·obtain⟨rfl,rfl⟩:=x8 ex;obtain⟨p1,JY,rfl,t1,wz⟩:=rd.K5;obtain⟨p2,JX,rfl,t2,wy⟩:=re.K5;refine Rh pins s Z H _ _ v u Q I rx ry (.inr ⟨p1,p2,JY,JX,rfl,rfl,t1.sq,t2.sq,by rw[<- wz.length,<- wy.length];exact k9 hz,λz=>?_,λz=>?_,λp hp=>q.tup R hp (wz.append wy)⟩)
    ·subst z;cases wz;exact q.now R (.tup t2 wy)
    ·subst z;cases wy;rw[eG] at q;exact q.now R (.tup t1 wz)
  ·obtain⟨i,j,ex,rfl,rfl⟩:=hr;obtain⟨rfl,rfl⟩:=x8 ex;obtain rfl:=rd.f9;obtain rfl:=re.f9;exact Rj pins s Z H _ _ v u Q I rx ry ⟨i,j,rfl,rfl,q.now R (.int _)⟩
 refine(Pu hN hi hx ha ho hf).imp λN bU H bq=>?_;obtain⟨Z,g,ρ,s,R,h⟩:=bq;obtain⟨xd,KZ,h⟩:=h;obtain⟨xv,hv,rx⟩:=s.val _ _ KZ;refine⟨xv,hv,fg hP s R (.refl _ _) h λz g1 bO H1 v1 e1 R1 r1 h=>?_⟩;refine⟨xd,z,g1,bO,R1,rx.ext e1,r1,p9 (λw g2 q=>?_) h⟩;exact λeK H2 v2 e2 R2 r2=>q eK H2 _ (e1.trans e2) R2 ((s.ext (e1.trans e2)).set i r2)
theorem NC{sa sb:List Stmt}{DU msb:MS}(hc:PT X c (LT X.K Ξ (cI P mc)))(ha:iN X sa (LS X.K Ξ (wpS P DU)))(hb:iN X sb (LS X.K Ξ (wpS P msb))):PS X (.If c sa sb pos) (LS X.K Ξ (wpS P (.ifs mc DU msb))) :=
 (VR hc ha hb).imp λN bU H ⟨Z,g,ρ,s,R,h⟩=>oq hP s R (.refl _ _) h λt g1 bO H1 e1 R1 h=>by
  cases t
  ·exact rq hP (s.ext e1) R1 e1 h (LN.ext e1)
  ·exact rq hP (s.ext e1) R1 e1 h (LN.ext e1)
theorem HY(ha:PE X a (LE X.K Ξ (aO P ma))):PS X (.Return (some a) pos) (LS X.K Ξ (wpS P (.ret ma))) :=
 (Pz ha).imp λN bU H ⟨Z,g,ρ,s,R,h⟩=>⟨Z,g,ρ,s,R,h⟩
theorem a01{body:List Stmt}{mb:MS}(hp:PassesOwn (model X.prog X.w) X.A X.env X.xe)(hc:PT X c (LT X.K Ξ (cI P mc)))(hb:iN X body (LS X.K Ξ (wpS P mb))):PS X (.While c body [] pos) (LS X.K Ξ (wpS P (.jK mc mb))) :=
 (a25 hp hc hb).imp λN bU H bq=>by
  obtain⟨Z,g,ρ,s,R,h⟩:=bq;obtain⟨W,⟨m0,w0⟩,h⟩:=h;refine⟨λm cT H'=>∃bN g' bG,Ext ρ H bG H'/\m8 X.K bG H' bN cT/\Rl X.K bG g' H'/\W m bN g',⟨m0,Z,g,ρ,.refl _ _,s,R,w0⟩,?_⟩;rintro m cT H' ⟨bN,g',bG,e1,s',R',w'⟩;refine oq hP s' R' e1 (h m bN g' w') λt g1 bO H1 e2 R1 q=>?_;cases t
  ·exact q bO H1 cT (e1.trans e2) R1 (s'.ext e2)
  ·obtain⟨N2,zW,q⟩:=q;refine⟨λjJ H2=>∃cy g2 eK,Ext ρ H eK H2/\m8 X.K eK H2 cy jJ/\Rl X.K eK g2 H2/\N2 cy g2,?_,?_⟩
   ·rintro jJ H2 ⟨cy,g2,eK,e3,s2,R2,n2⟩;obtain⟨m',hm,w2⟩:=zW cy g2 n2;exact⟨m',hm,cy,g2,eK,e3,s2,R2,w2⟩
   ·refine rq hP (s'.ext e2) R1 (e1.trans e2) q ⟨?_,?_,?_,?_⟩
    ·exact λgX g3 n3 iV H3 km e3 R3 s3=>⟨gX,g3,iV,(e1.trans e2).trans e3,s3,R3,n3⟩
    ·exact λd g3 h=>h.ext (e1.trans e2)
    ·exact λgX g3 h iV H3 km e3 R3 s3=>h iV H3 km ((e1.trans e2).trans e3) R3 s3
    ·exact λgX g3 n3 iV H3 km e3 R3 s3=>⟨gX,g3,iV,(e1.trans e2).trans e3,s3,R3,n3⟩
theorem Qx{iter:Expr}{mi:ME}{body:List Stmt}{mb:MS}{t:MT}(hp:PassesOwn (model X.prog X.w) X.A X.env X.xe)(hc:X.calm=true)(hi:PI X tg iter (LI X.K Ξ (eQ P mi)))(hg:PG X tg (LG X.K t))(hb:iN X body (LS X.K Ξ (wpS P mb)))(hs:∀x,foldedSetIterable iter X.env x=pure x):PS X (.For tg iter body [] pos) (LS X.K Ξ (wpS P (.de t mi mb))) :=
 (Px hp hc hi hg hb hs).imp λN bU H bq=>by
  obtain⟨Z,g,ρ,s,R,h⟩:=bq;refine⟨Z,g,ρ,s,R,y9 hP mi _ _ _ _ _ _ (λk g1 h bO H1 J e1 R1 j1=>?_) (λ_ _ z=>z) h⟩;obtain⟨W,⟨m0,w0⟩,h⟩:=h;refine⟨λi m cT H'=>∃bN g' bG,Ext bO H1 bG H'/\m8 X.K bG H' bN cT/\Rl X.K bG g' H'/\W i m bN g',⟨m0,Z,g1,bO,.refl _ _,s.ext e1,R1,w0⟩,?_⟩;rintro i m cT H' ⟨bN,g',bG,e',s',R',w'⟩;obtain⟨uh,ug⟩:=j1 bG g' H' e' R' i;rcases h i m bN g' w' with⟨ek,q⟩|⟨x,ek,N2,zW,q⟩
  ·exact .inl ⟨uh ek,q bG H' cT (e1.trans e') R' s'⟩
  ·obtain⟨go,yl⟩:=ug x ek;refine .inr ⟨go,λjJ H2=>∃cy g2 eK,Ext bO H1 eK H2/\m8 X.K eK H2 cy jJ/\Rl X.K eK g2 H2/\N2 cy g2,?_,?_⟩
   ·rintro jJ H2 ⟨cy,g2,eK,e2,s2,R2,n2⟩;obtain⟨m',hm,w2⟩:=zW cy g2 n2;exact⟨m',hm,cy,g2,eK,e2,s2,R2,w2⟩
   ·intro v H2 y;obtain⟨e2,R2,r2⟩:=yl v H2 y;refine⟨x,bN,g',bG,s'.ext e2,R2,r2,v7 (λcy q jJ s2=>?_) q⟩;refine rq hP s2 R2 (e1.trans (e'.trans e2)) q ⟨?_,?_,?_,?_⟩
    ·exact λgX g3 n3 iV H3 km e3 R3 s3=>⟨gX,g3,iV,(e'.trans e2).trans e3,s3,R3,n3⟩
    ·exact λd g3 h=>h.ext (e1.trans (e'.trans e2))
    ·exact λgX g3 h iV H3 km e3 R3 s3=>h iV H3 km (e1.trans ((e'.trans e2).trans e3)) R3 s3
    ·exact λgX g3 n3 iV H3 km e3 R3 s3=>⟨gX,g3,iV,(e'.trans e2).trans e3,s3,R3,n3⟩
theorem IW{c8:List Nat}{n:Nat}{t:MT}{mi iA me:ME}:∀bU H Q,LE X.K Ξ (aO P (.comp c8 n t mi iA me)) bU H Q->Cn (LI X.K Ξ (eQ P mi)) c8 n (LG X.K t) (LT X.K (nA Ξ.1) (cI P iA)) (LE X.K (nA Ξ.1) (aO P me)) bU H Q:=λbU H Q bq=>by
 obtain⟨Z,g,ρ,s,R,h⟩:=bq;simp only[aO] at h;refine⟨Z,g,ρ,s,R,y9 hP mi _ _ _ _ _ _ (λk g1 h bO H1 J e1 R1 j1=>?_) (λ_ _ z=>z) h⟩;obtain⟨W,⟨m0,w0⟩,h⟩:=h;refine⟨λi m Dr cT H'=>∃ys bN g' bG,Ext bO H1 bG H'/\m8 X.K bG H' bN cT/\Rl X.K bG g' H'/\b9 X.K bG H' ys Dr/\W i m ys bN g',⟨m0,[],_,g1,bO,.refl _ _,(s.ext e1).c8 c8 n,R1,.nil,w0⟩,?_⟩;rintro i m Dr cT H' ⟨ys,bN,g',bG,e',s',R',ry,w'⟩;obtain⟨uh,ug⟩:=j1 bG g' H' e' R' i;rcases h i m ys bN g' w' with⟨ek,q⟩|⟨x,ek,hz,q⟩
 ·exact .inl ⟨uh ek,λp hp=>(q.ext (e1.trans e')).new R' hp ry⟩
 ·obtain⟨go,yl⟩:=ug x ek;refine .inr ⟨go,by rw[<- ry.length];exact Bj hz,λv H2 y=>?_⟩;obtain⟨e2,R2,r2⟩:=yl v H2 y;refine⟨x,bN,g',bG,s'.ext e2,R2,r2,v7 (λcy q jJ s2=>?_) q⟩;refine⟨cy,g',bG,s2,R2,n9 hP iA _ _ _ _ _ _ (λb g3 q iV H3 e3 R3=>?_) (λ_ _ z=>z.elim) q⟩;cases b
  ·obtain⟨m',hm,w3⟩:=q;exact⟨m',hm,ys,cy,g3,iV,(e'.trans e2).trans e3,s2.ext e3,R3,(ry.ext e2).ext e3,by simpa using w3⟩
  ·refine⟨cy,g3,iV,s2.ext e3,R3,b8 hP me _ _ _ _ _ _ (λz g4 q pK H4 v4 e4 R4 r4=>?_) (λ_ _ z=>z.elim) q⟩;obtain⟨m',hm,w4⟩:=q;exact⟨m',hm,ys++[z],cy,g4,pK,(e'.trans e2).trans (e3.trans e4),(s2.ext e3).ext e4,R4,(((ry.ext e2).ext e3).ext e4).append (.cons r4 .nil),by simpa using w4⟩
theorem a09{elt tg iter:Expr}{ifs:List Expr}{scope:Scope}{N':List Str}{c8:List Nat}{cl:List (Str×Addr)}{pos p2 js:Pos}{t:MT}{mi iA me:ME}(S:da X scope N' c8 cl)(hc:X.calm=true)(hi:PI X tg iter (LI X.K Ξ (eQ P mi)))(hg:∀pins C s H fp,PG (d4 X pins scope N' cl C s H fp) tg (LG X.K t))(ht:∀pins C s H fp,kO (d4 X pins scope N' cl C s H fp) ifs (LT X.K (nA Ξ.1) (cI P iA)))(he:∀pins C s H fp,PE (d4 X pins scope N' cl C s H fp) elt (LE X.K (nA Ξ.1) (aO P me)))(hs:∀x,foldedSetIterable iter X.env x=pure x)(mH:Gl X "sorted")(mD:X.mg "sorted"=none):PE X (.Call (.Name "sorted" p2) [.SetComp elt [⟨tg,iter,ifs,0⟩] scope pos] [] js) (LE X.K Ξ (aO P (.gp c8 N'.length t mi iA me))) :=
 (Y6 (U6 hc) mH mD (by first|exact pF|decide +kernel) (P6 (a32 S hc hi hg ht he hs) W6)).imp λbU H Q bq=>by
  obtain⟨Z,g,ρ,s,R,h⟩:=bq;simp only[aO] at h;refine⟨Z,g,ρ,s,R,y9 hP mi _ _ _ _ _ _ (λk g1 h bO H1 J e1 R1 j1=>?_) (λ_ _ z=>z) h⟩;obtain⟨W,⟨m0,w0⟩,h⟩:=h;refine⟨λi m ys cT H'=>∃bN g' bG,Ext bO H1 bG H'/\m8 X.K bG H' bN cT/\Rl X.K bG g' H'/\W i m ys bN g',⟨m0,_,g1,bO,.refl _ _,(s.ext e1).c8 c8 _,R1,w0⟩,?_⟩;rintro i m ys cT H' ⟨bN,g',bG,e',s',R',w'⟩;obtain⟨uh,ug⟩:=j1 bG g' H' e' R' i;rcases h i m ys bN g' w' with⟨ek,hz,q⟩|⟨x,ek,hz,q⟩
  ·exact .inl ⟨uh ek,λp hp=>⟨p,ys,rfl,p8,hz,λp' jv=>(q.ext ((e1.trans e').trans (A4 hp))).new (R'.grow hp) jv (b9.ofInts _)⟩⟩
  ·obtain⟨go,yl⟩:=ug x ek;refine .inr ⟨go,hz,λv H2 y=>?_⟩;obtain⟨e2,R2,r2⟩:=yl v H2 y;refine⟨x,bN,g',bG,s'.ext e2,R2,r2,v7 (λcy q jJ s2=>?_) q⟩;refine⟨cy,g',bG,s2,R2,n9 hP iA _ _ _ _ _ _ (λb g3 q iV H3 e3 R3=>?_) (λ_ _ z=>z.elim) q⟩;cases b
   ·obtain⟨m',hm,w3⟩:=q;exact⟨m',hm,cy,g3,iV,(e'.trans e2).trans e3,s2.ext e3,R3,by simpa using w3⟩
   ·refine⟨cy,g3,iV,s2.ext e3,R3,b8 hP me _ _ _ _ _ _ (λz g4 q pK H4 v4 e4 R4 r4=>?_) (λ_ _ z=>z.elim) q⟩;obtain⟨j,rfl,m',hm,w4⟩:=q;obtain rfl:=r4.f9;exact⟨j,rfl,m',hm,cy,g4,pK,(e'.trans e2).trans (e3.trans e4),(s2.ext e3).ext e4,R4,by simpa using w4⟩
end
end M

namespace M
open PySem L2 PySem.Spec PyProof.Rows
section
variable{X:Cx}{Ξ:gB}{P:fh}(hP:f6 P)
include hP
theorem a03{x:Str}{C:Addr}{B newId fY:String}{bm:List Value}{np fG pos:Pos}{jx:Expr}{rest:List Expr}{gz:ME}(hc:X.calm=true)(O:OwnCls x C bm newId X.mg X.base)(FB:ExcBaseFacts B newId fY bm)(hg:Gl X x)(ha:PA X (jx::rest) (LA X.K Ξ (cZ P gz)))(hr:xP X Ξ.2)(hx:x∈Ξ.1)(hC:p0 X.K x C)(he:starEach (jx::rest) X.env=(false,eval jx X.env)::starEach rest X.env)(fZ:(backTo fG (starEach rest X.env)).any (·.1)=false)(hd:(x==("__debug__":Str))=false):PS X (.Raise (some (.Call (.Name x np) (jx::rest) [] fG)) none pos) (LS X.K Ξ (wpS P (.raise x gz))) :=
 (a26 hc O FB hg ha hr he fZ hd).imp λN bU H bq=>by
  obtain⟨Z,g,ρ,s,R,h⟩:=bq;refine jL hP s R (.refl _ _) h λds g1 bO H1 vs e1 R1 r1 h=>?_;exact⟨by rw[<- r1.length];exact k9 (aD h.1 (by decide)),h.2 bO H1 C e1 R1 hx hC⟩
def yn(X:Cx)(ex:List Str)(D:L2.Ends)(hs:List ExceptHandler):gB:=(ex,λv _ H=>∃C,v=.ref C/\qU X D C H hs)
inductive lB(X:Cx)(Ξ:gB)(P:fh):List ExceptHandler->List (Str×ME)->Prop
 |nil (hh:vJ X Ξ.2):lB X Ξ P [] []
 |cons {y:Str} {C':Addr} {p p1 p2:Pos} {e:Expr} {me:ME} {hs:List ExceptHandler} {ms:List (Str×ME)} (hg:Gl X y) (hd:(y==("__debug__":Str))=false) (hm:X.mg y=some (.ref C'))
   (hx:∀x C,x∈Ξ.1->p0 X.K x C->PySem.W.exmOne X.K (.ref C) (.ref C')=some (decide (x=y\/y="MintError"))) (he:∀ea,PE (E0 X ea) e (LE X.K (nA Ξ.1) (aO P me))) (r:lB X Ξ P hs ms) :
   lB X Ξ P (.ExceptHandler (some (.Name y p)) none [.Return (some e) p1] p2::hs) ((y,me)::ms)
theorem Gd{N:L2.Ends}{ρ bG:List Addr}{H H':Hp}{Z:S}{g:G}{x:Xn}{C:Addr}(hl:Z.length=X.N.length)(e:Ext ρ H bG H')(R:Rl X.K bG g H')(hx:x.cls∈Ξ.1)(hC:p0 X.K x.cls C) :
  ∀{hs:List ExceptHandler} {ms:List (Str×ME)},lB X Ξ P hs ms->ni P (LN X.K ρ H N) (Z.map λ_=>none) (LX X.K ρ H Ξ) ms x g->qU X N C H' hs
 |_,_,.nil hh,q=>⟨Ξ.2,hh,q bG H' C e R hx hC⟩
 |_,_,.cons (me:=me) hg hd hm KY he r,q=>by
  refine⟨hg,hd,_,_,hm,KY _ _ hx hC,?_⟩;unfold ni at q;split at q
  ·rename_i ex;rw[aK (by simpa using ex)];refine⟨LS X.K (nA Ξ.1) (wpS P (.seq (.ret me) .pass)),λea=>IJ (X:=E0 X ea) (Ξ:=nA Ξ.1) hP (HY (X:=E0 X ea) hP (he ea)) (HW (X:=E0 X ea) hP),?_⟩;refine⟨Z.map λ_=>none,g,bG,⟨by simp[hl],λi d z=>?_⟩,R,?_⟩
   ·rw[ag] at z;cases e:Z[i]? with
    |none=>rw[e] at z;cases z
    |some y=>rw[e] at z;cases z
   ·simp only[wpS];refine b8 hP me _ _ _ _ _ _ (λd g1 h=>?_) (λ_ _ z=>z.elim) q;exact h.ext e
  ·rename_i ex;rw[aC (by simpa using ex)];exact Gd hl e R hx hC r q
theorem Qz{h₀:ExceptHandler}{hs:List ExceptHandler}{ms:List (Str×ME)}{body:List Stmt}{mb:MS}{pos:Pos}(dE:X.stack=X.env::X.outer)(hf:X.env.frame=some X.env.locals)(hb:∀pins D,iN (T4 X pins (sN X pins D (h₀::hs))) body (LS X.K (yn X Ξ.1 D (h₀::hs)) (wpS P mb)))(hh:lB X Ξ P (h₀::hs) ms):PS X (.Try body (h₀::hs) [] [] pos) (LS X.K Ξ (wpS P (.Y2 mb ms))):=by
 intro pins s bU H N I ⟨Z,g,ρ,sr,R,h⟩;refine PD (t:=λD=>LS X.K (yn X Ξ.1 D (h₀::hs)) (wpS P mb)) (Ξ:=λD=>(yn X Ξ.1 D (h₀::hs)).2) dE hf (λpins D _=>hb pins D) pins s bU H N I ⟨λC H' ⟨C',e,z⟩=>by cases e;exact z,?_⟩;simp only[wpS] at h;refine⟨Z,g,ρ,sr,R,wpS_mono hP mb _ _ _ _ _ _ ⟨λ_ _ z=>z,λ_ _ z=>z,λ_ _ z=>z,λ_ _ z=>z⟩ (λx g1 q bG H' C e' R' hm hc=>⟨C,rfl,?_⟩) h⟩;exact Gd (Ξ:=Ξ) hP (sr.len.trans I.len) e' R' hm hc hh q
end
end M

namespace M
open PySem L2 PySem.Spec PyProof.Rows
structure d7 where
 N:List Str
 nm:List (Str×NameKind)
 lO:Bool
 fns:List (Str×Nat)
 con:List (Str×D)
 blt:List Str
 exc:List Str
 gd:List (Str×List D)
 cls:List (Str×Nat)
 oA:List (Str×Str×Nat)
 nz:List (Str×Str)
 jr:Bool
 iW:Bool
def fE:Expr->Bool
 |.Set ..=>false
 |.Starred ..=>false
 |.Slice ..=>false
 |_=>true
def u7:Expr->Bool
 |.ListComp ..=>false
 |.SetComp ..=>false
 |.DictComp ..=>false
 |_=>true
def sJ:Expr->Bool
 |.Tuple ..=>false
 |_=>true
def BO:Expr->Bool
 |.Name ..=>true
 |.Call ..=>true
 |.Subscript ..=>true
 |.Constant ..=>true
 |.Attribute ..=>true
 |.BinOp ..=>true
 |_=>false
def xJ:Expr->Bool
 |.Call (.Name ..) ..=>false
 |_=>true
def d7.idx(c:d7)(x:Str):Option Nat:=c.N.findIdx? λy=>decide (y=x)
def d7.tD(c:d7)(x:Str):Bool:=match c.nm.lookup x with
 |some .local=>true
 |some .cell=>true
 |some .free=>true
 |_=>false
def d7.gl(c:d7)(x:Str):Bool:=decide (c.nm.lookup x=some .globalImplicit)
def d7.v9(c:d7)(x:Str):Bool:=decide (c.nm.lookup x=some .local)||decide (c.nm.lookup x=some .cell)
def Y9(x:Str):Bool:=(x==("__debug__":Str))==false&&(x==("__classdict__":Str))==false&&decide (x≠"__name__")
def Cp:List (Str×String):=[("int","int"),("bool","bool"),("str","str"),("tuple","tuple"),("list","list")]
def CA:List (Str×Pr):=[("len",.len),("list",.list),("tuple",.tuple),("isinstance",.isin),("all",.all),("max",.max),("min",.min),("int",.int),("sum",.sum)]
def xZ:List (Str×Pr):=[]
def CL:List (Str×Pr):=[("append",.append),("pop",.pop),("get",.get),("add",.jN)]
def AX:Expr->Option (Str×List Expr)
 |.Call (.Name x _) args [] _=>some (x,args)
 |_=>none
def FN:Expr->Bool
 |.Tuple ..=>true
 |_=>false
def asName:Expr->Option Str
 |.Name x _=>some x
 |_=>none
def frees(sc:Scope):List Str:=(sc.names.filter λy=>decide (y.2=.free)).map (·.1)
def locals(sc:Scope):List Str:=(sc.names.filter λy=>decide (y.2=.local)||decide (y.2=.cell)).map (·.1)
def d7.inner(c:d7)(sc:Scope):d7:={ c with N:=frees sc++locals sc,nm:=sc.names,lO:=false,jr:=false,iW:=false }
def d7.c8(c:d7)(sc:Scope):List Nat:=(frees sc).map λx=>(c.idx x).getD 0
def d7.Bo(c:d7)(sc:Scope):Bool :=
 decide (sc.kind=.function)&&sc.names.all (λy=>!decide (y.2=.cell)||decide (sc.names.lookup y.1=some .cell))&&sc.names.all (λy=>!decide (y.2=.local)||decide (sc.names.lookup y.1=some .local)) &&
 decide (frees sc++locals sc).Nodup&&(frees sc).all (λx=>(c.idx x).isSome&&decide (sc.names.lookup x=some .free)&&(decide (c.nm.lookup x=some .cell)||decide (c.nm.lookup x=some .free)))
def d7.slot(c:d7)(e:Expr):Option Nat:=(asName e).bind λx=>if c.v9 x then c.idx x else none
def d7.slots(c:d7):List Expr->Option (List Nat)
 |[]=>some []
 |e::r=>(c.slot e).bind λi=>(c.slots r).map λis=>i::is
def d7.tg(c:d7)(e:Expr):Option MT:=((c.slot e).map .one).orElse λ_=>match e with
 |.Tuple es _ _=>(c.slots es).map .many
 |_=>none
def qV:Const->Option D
 |.int i=>some (.int i)
 |.bool b=>some (.bl b)
 |.none=>some .bC
 |.str x=>some (.str x)
 |_=>none
structure CF where
 e:d7->Expr->Option ME
 t:d7->Expr->Option ME
 s:d7->Stmt->Option MS
section
variable(r:CF)(c:d7)
def c1(p:Pr)(a:Expr):Option ME:=(r.e c a).map λm=>.prim p (.cons m .nil)
def c2(p:Pr)(a b:Expr):Option ME:=(r.e c a).bind λma=>(r.e c b).map λmb=>.prim p (.cons ma (.cons mb .nil))
def F7:List Expr->Option ME
 |[]=>some .nil
 |e::es=>if fE e then(r.e c e).bind λm=>(F7 es).map λms=>.cons m ms else none
def HD:Expr->Option Str
 |.Constant (.str x) _ _=>some x
 |_=>none
def Fp:Expr->Option Expr
 |.FormattedValue e k none _=>if k=-1 then some e else none
 |_=>none
def sC:List Expr->Option ME
 |[]=>some .nil
 |e::es=>((HD e).bind λx=>if x.length<=2000 then(sC es).map λms=>.cons (.lit (.str x)) ms else none).orElse λ_ =>
   (Fp e).bind λa=>(r.e c a).bind λm=>(sC es).map λms=>.cons (.prim .fv (.cons m .nil)) ms
def vD:List (Option Expr)->List Expr->Option ME
 |[],[]=>some .nil
 |some k::ks,v::vs=>(r.e c k).bind λmk=>(r.e c v).bind λmv=>(vD ks vs).map λms=>.cons mk (.cons mv ms)
 |_,_=>none
def xn(op:BoolOp):List Expr->Option ME
 |[]=>none
 |[a]=>r.e c a
 |a::b::rs=>(r.e c a).bind λma=>(xn op (b::rs)).map λmb=>match op with
  |.And=>.dy ma mb
  |.Or=>.jt ma mb
def xo(op:BoolOp):List Expr->Option ME
 |[]=>none
 |[a]=>r.t c a
 |a::b::rs=>(r.t c a).bind λma=>(xo op (b::rs)).map λmb=>match op with
  |.And=>.dy ma mb
  |.Or=>.jt ma mb
def HF:List Expr->Option ME
 |[]=>some .no
 |[e]=>r.t c e
 |_=>none
def s9:List Stmt->Option MS
 |[]=>some .pass
 |s::rs=>(r.s c s).bind λm=>(s9 rs).map λms=>.seq m ms
def Cu(x:Str):Option ME :=
 if Y9 x then(if c.tD x then(c.idx x).map .var else if c.gl x then((c.con.lookup x).map .lit).orElse λ_=>if c.blt.contains x then(Cp.lookup x).map λt=>.lit (.ty t) else none else none) else none
def yy(op:UnaryOp)(a:Expr):Option ME:=if op=.Not then(r.e c a).map .eL else c1 r c (.un op) a
def d7.yj(b:Expr):Option (List D):=(asName b).bind λx=>if c.gl x&&Y9 x then c.gd.lookup x else none
def Tt:CmpOp->Option Bool
 |.In=>some false
 |.NotIn=>some true
 |_=>none
def vx(a:Expr)(ops:List CmpOp)(bs:List Expr):Option ME:=match ops,bs with
 |[op],[b]=>if behindInMarks op b then none else((Tt op).bind λneg=>(c.yj b).bind λkvs=>(r.e c a).map λma=>.prim (xq neg) (.cons (.lit (.tup kvs)) (.cons ma .nil))).orElse λ_=>c2 r c (.cmp op) a b
 |[op,gR],[b,d]=>if lastMarks [op,gR] [b,d] then none else(r.e c a).bind λma=>(r.e c b).bind λmb=>(r.e c d).map λmd=>.chain op gR ma mb md
 |_,_=>none
def SY:Expr->Option (Option Expr×Option Expr×Option Expr)
 |.Slice lo hi st _=>some (lo,hi,st)
 |_=>none
def Ds(a:Expr):Option Expr->Option Expr->Option Expr->Option ME
 |none,none,none=>c1 r c (.kY false false) a
 |some b,none,none=>c2 r c (.kY true false) a b
 |none,some b,none=>c2 r c (.kY false true) a b
 |_,_,_=>none
def BS(a b:Expr):Option ME:=((SY b).bind λq=>Ds r c a q.1 q.2.1 q.2.2).orElse λ_=>if fE b then((c.yj a).bind λkvs=>(r.e c b).map λmb=>.prim .mS (.cons (.lit (.tup kvs)) (.cons mb .nil))).orElse λ_=>c2 r c .ix a b else none
def yz(x:Str)(e:Expr):Option ME:=(AX e).bind λq =>
 if x="list" && q.1="range" && c.blt.contains "list" && c.blt.contains "range" && c.gl "range" then (match q.2 with
  |[a]=>if fE a then c1 r c .jd a else none
  |[a,b]=>if fE a&&fE b then c2 r c .jT a b else none
  | _=>none)
 else if x="sorted" && q.1="set" && c.blt.contains "sorted" && c.blt.contains "set" && c.gl "set" then (match q.2 with
  |[a]=>if fE a then c1 r c .sset a else none
  | _=>none)
 else if x="len" && q.1="set" && c.blt.contains "len" && c.blt.contains "set" && c.gl "set" then (match q.2 with
  |[a]=>if fE a then c1 r c .Z9 a else none
  | _=>none)
 else none
def UI(x:Str)(e:Expr):List Expr->Option ME
 |[]=>yz r c x e
 |_=>none
def AQ(x:Str):Option ME:=if Y9 x&&c.gl x then(c.cls.lookup x).map λf=>.make x f .nil else none
def AR(x:Str)(e:Expr)(es:List Expr):Option ME:=if Y9 x&&c.gl x then(UI r c x e es).orElse λ_=>(F7 r c (e::es)).bind λms=>((c.fns.lookup x).map λf=>.call f ms).orElse λ_=>((c.cls.lookup x).map λf=>.make x f ms).orElse λ_=>if c.blt.contains x then(CA.lookup x).map λp=>.prim p ms else none else none
def Ig(x:Str):List Expr->Option ME
 |[]=>AQ c x
 |e::es=>AR r c x e es
def AS(o:Expr)(m:Str)(apos pos:Pos)(args:List Expr):Option ME :=
 if xJ o && (apos.endLine == pos.line) && decide (args.length < 20) then (r.e c o).bind λmo=>(F7 r c args).bind λms=>if m="index" then none else if args.isEmpty && (xZ.lookup m).isSome then (xZ.lookup m).map λp=>.eE p mo ms else (match CL.lookup m with
  |some p=>if args.isEmpty then none else some (.eE p mo ms)
  | none=>none) else none
def Ct(f:Expr)(args:List Expr)(iX:List Keyword)(pos:Pos):Option ME:=if iX.isEmpty then(match f with
 |.Name x _=>Ig r c x args
 |.Attribute o m apos=>AS r c o m apos pos args
 | _=>none) else none
def vF(tg e:Expr):Option ME:=(((AX e).bind λq =>
  if q.1="enumerate" then (match q.2 with
   |[a]=>if c.gl "enumerate"&&c.blt.contains "enumerate"&&fE a&&FN tg then(r.e c a).map .ku else none
   | _=>none)
  else if q.1="reversed" then (match q.2 with
   |[a]=>if c.gl "reversed"&&c.blt.contains "reversed"&&fE a then(r.e c a).map .nr else none
   | _=>none)
  else if q.1="range" then (match q.2 with
   |[a]=>if c.gl "range"&&c.blt.contains "range"&&fE a then(r.e c a).map .dS else none
   |[a,b]=>if c.gl "range"&&c.blt.contains "range"&&fE a&&fE b then(r.e c a).bind λma=>(r.e c b).map λmb=>.iY ma mb else none
   | _=>none)
  else none):Option ME).orElse λ_=>if fE e then (r.e c e).map .eO else none
def X9(elt:Expr)(gens:List Comprehension)(sc:Scope):Option ME:=match gens with
 |[⟨tg,it,ifs,Ec⟩]=>if c.Bo sc&&decide (Ec=0)&&fE it then((c.inner sc).tg tg).bind λt=>(vF r c tg it).bind λmi=>(HF r (c.inner sc) ifs).bind λmc=>(r.e (c.inner sc) elt).map λme=>.comp (c.c8 sc) (frees sc++locals sc).length t mi mc me else none
 |_=>none
def SW:Expr->Option Str
 |.Name x _=>some x
 |_=>none
def SX:Expr->Option (Expr×List Comprehension×Scope)
 |.SetComp elt gens sc _=>some (elt,gens,sc)
 |_=>none
def UE:ME->Option ME
 |.comp a n t i k e=>some (.gp a n t i k e)
 |_=>none
def yA(f:Expr)(args:List Expr)(iX:List Keyword):Option ME:=match args with
 |[a]=>if iX.isEmpty&&decide (SW f=some "sorted")&&c.gl "sorted"&&c.blt.contains "sorted" then(SX a).bind λq=>(X9 r c q.1 q.2.1 q.2.2).bind UE else none
 |_=>none
def wk(f:Expr)(args:List Expr)(iX:List Keyword):Option ME:=(λ(_:d7)=>none) c
def BR(es:List Expr)(k:Nat):Option ME:=if c.lO&&decide (k=0) then(match es with
 |[.Constant (.int i) _ _]=>some (.prim (.jM i) .nil)
 | _=>none) else none
def Ju:Expr->Option ME
 |.Name x _=>Cu c x
 |.Constant k _ _=>(qV k).map .lit
 |.BinOp a op b _=>c2 r c (.bin op) a b
 |.UnaryOp op a _=>yy r c op a
 |.Compare a ops bs _=>vx r c a ops bs
 |.BoolOp op vs _=>xn r c op vs
 |.IfExp t a b _=>(r.t c t).bind λmt=>(r.e c a).bind λma=>(r.e c b).map λmb=>.ite mt ma mb
 |.Tuple es _ _=>(F7 r c es).map (.prim .tup)
 |.List es _=>(F7 r c es).map (.prim .lst)
 |.Subscript a b _=>BS r c a b
 |.Dict ks vs _=>if ks.isEmpty&&vs.isEmpty then some (.prim .og .nil) else if decide (ks.length<=15) then(vD r c ks vs).map .pb else none
 |.JoinedStr vs _=>if decide (2<=vs.length)&&decide (vs.length<=40) then(sC r c vs).map (.prim .ly) else none
 |.Attribute o f _=>if xJ o then c1 r c (.fld f) o else none
 |.Call f args iX pos=>(yA r c f args iX).orElse λ_=>(wk c f args iX).orElse λ_=>Ct r c f args iX pos
 |.ListComp elt gens sc _=>X9 r c elt gens sc
 |.Set es k _=>BR c es k
 |_=>none
def stepT:Expr->Option ME
 |.UnaryOp op a _=>if op=.Not then(r.t c a).map .eL else none
 |.BoolOp op vs _=>xo r c op vs
 |.Compare a ops bs _=>(vx r c a ops bs).map .fy
 |e=>if BO e then(r.e c e).map .fy else none
def d7.xw:List Expr->Expr->Bool
 |[.Name x px,.Name y py],.Tuple [a,b] _ _=>decide (c.nm.lookup x=some .local)&&decide (c.nm.lookup y=some .local)&&decide (x≠y)&&decide (py.line=px.line)&&fE a&&fE b&&!([a,b].all (foldedForSure 8))&&!([a,b].all (constantsAlone 8))
 |_,_=>false
def Je:Expr->Option ME
 |.Constant k _ _=>(qV k).map .lit
 |_=>none
def xE:List Expr->Option ME
 |[]=>some .nil
 |e::es=>(Je e).bind λm=>(xE es).map λms=>.cons m ms
def Jd:Expr->Option ME
 |.List es _=>(xE es).map (.prim .lst)
 |.Constant k _ _=>(qV k).map .lit
 |_=>none
def Cy:ExceptHandler->Option (Str×Expr)
 |.ExceptHandler (some (.Name y _)) none [.Return (some e) _] _=>some (y,e)
 |_=>none
def vE:List ExceptHandler->Option (List (Str×ME))
 |[]=>some []
 |h::hs=>(Cy h).bind λq=>if c.exc.contains q.1&&c.gl q.1&&Y9 q.1 then(Jd q.2).bind λm=>(vE hs).map λms=>(q.1,m)::ms else none
def AY:Option Expr->Option Expr->Option (Str×Expr×List Expr)
 |some (.Call (.Name x _) (e::es) [] _),none=>some (x,e,es)
 |_,_=>none
def d7.yi(f:Str):List Str:=(c.nz.filter λy=>decide (y.1=f)).map (·.2)
def Cz:List Expr->Option (Expr×Expr×Expr×Expr)
 |_=>none
def Fz(tg e:Expr):Option MS:=match tg with
 |.Name x _=>if c.v9 x then(c.idx x).bind λi=>(r.e c e).map λm=>.set i m else none
 |.Tuple es _ _=>(Cz es).elim (if(sJ e&&u7 e)||c.xw es e then(c.slots es).bind λis=>(r.e c e).map λm=>.kD (.many is) m else none) λq=>if u7 e&&fE q.2.1&&fE q.2.2.2 then(r.e c q.1).bind λm1=>(r.e c q.2.1).bind λn1=>(r.e c q.2.2.1).bind λm2=>(r.e c q.2.2.2).bind λn2=>(r.e c e).map λm=>.wt m1 n1 m2 n2 m else none
 |.Subscript o i _=>if fE i&&u7 e then(r.e c o).bind λmo=>(r.e c i).bind λmi=>(r.e c e).map λm=>.dY mo mi m else none
 |.Attribute o f _=>if u7 e then(r.e c o).bind λmo=>(r.e c e).map λm=>.gJ f (c.yi f) mo m else none
 |_=>none
def FO:Operator->Option Pr
 |.Add=>some .iadd
 |.Sub=>some .my
 |_=>none
def toR(e:Expr)(m:ME):ME:=(λ(_:d7)=>m) c
def Jv:Stmt->Option MS
 |.Expr e _=>if u7 e then(r.e c e).map .expr else none
 | .Assign yI e _=>(match yI with
  |[tg]=>Fz r c tg e
  | _=>none)
 | .AugAssign tg op e _=>(match tg with
  |.Name x _=>if c.v9 x then(FO op).bind λp=>(c.idx x).bind λi=>(r.e c e).map λm=>.jZ i p m else none
  | _=>none)
 |.If t a b _=>(r.t c t).bind λmt=>(s9 r c a).bind λma=>(s9 r c b).map λmb=>.ifs mt ma mb
 |.For tg it body nV _=>if c.lO&&(nV.isEmpty&&fE it) then(c.tg tg).bind λt=>(vF r c tg it).bind λmi=>(s9 r c body).map λmb=>.de t mi mb else none
 |.While t body nV _=>if c.lO&&nV.isEmpty then(r.t c t).bind λmt=>(s9 r c body).map λmb=>.jK mt mb else none
 | .Return e _=>(match e with
  |some e=>(r.e c e).map λm=>.ret (toR c e m)
  | none=>some .pQ)
 |.Pass _=>some .pass
 |.Raise e f _=>(AY e f).bind λq=>if c.jr&&c.exc.contains q.1&&c.gl q.1&&Y9 q.1 then(F7 r c (q.2.1::q.2.2)).map (.raise q.1) else none
 |.Try body hs el fi _=>if c.iW&&!hs.isEmpty&&el.isEmpty&&fi.isEmpty then(s9 r { c with jr:=false,iW:=false } body).bind λmb=>(vE c hs).map λms=>.Y2 mb ms else none
 |_=>none
end
def comp:Nat->CF
 |0=>⟨λ_ _=>none,λ_ _=>none,λ_ _=>none⟩
 |n+1=>⟨Ju (comp n),stepT (comp n),Jv (comp n)⟩
end M

namespace M
open PySem L2 PySem.Spec PyProof.Rows
structure gy(X:Cx)(c:d7)(P:fh)(Ξ:gB):Prop where
 N:X.N=c.N
 nd:c.N.Nodup
 loc:∀x,c.nm.lookup x=some .local->X.env.scope.names.lookup x=some .local
 xi:∀x,c.nm.lookup x=some .cell->X.env.scope.names.lookup x=some .cell
 Ao:∀x,c.nm.lookup x=some .free->X.env.scope.names.lookup x=some .cell\/X.env.scope.names.lookup x=some .free
 ET:∀x,c.nm.lookup x=some .globalImplicit->X.env.scope.names.lookup x=some .globalImplicit
 cells:∀x,(c.nm.lookup x=some .cell\/c.nm.lookup x=some .free)->∃a,X.env.cells.lookup x=some a
 lO:∀x,c.nm.lookup x=some .cell->X.fn x=true
 calm:X.calm=true
 units:X.A.units+100<cLine
 own:c.lO=true->PassesOwn (model X.prog X.w) X.A X.env X.xe
 mono:f6 P
 con:∀x d,c.con.lookup x=some d->∃v u,X.mg x=some u/\RelV v u/\∀ρ H,d5 X.K ρ H d v
 blt:∀x,c.blt.contains x=true->X.mg x=none
 fns:∀x f,c.fns.lookup x=some f->∃k fa fd ps,pD X P Ξ.1 k f fa fd ps/\u9 k X.A/\X.mg x=some (.ref fa)/\PySem.W.keepIn X.K (.ref fa)=true
 cls:∀x f,c.cls.lookup x=some f->∃k C fa fd ps,pD X P Ξ.1 k f fa fd ps/\u9 (k+1) X.A/\X.mg x=some (.ref C)/\p0 X.K x C/\jE X.K C/\Mk X.K C fa
 oA:∀m y f C,(m,y,f)∈c.oA->p0 X.K y C->∃k fa fd ps,Meth X.K C m fa/\pD X P Ξ.1 k f fa fd ps/\u9 k X.A
 nz:∀f y C,(f,y)∈c.nz->p0 X.K y C->B1 X.K C f
 xc:Ξ.1=c.exc
 pass:Passes (iO X.prog X.w) X Ξ.2
 jr:c.jr=true->xP X Ξ.2
 iW:c.iW=true->X.stack=X.env::X.outer/\X.env.frame=some X.env.locals/\vJ X Ξ.2
 exc:∀x,c.exc.contains x=true->∃C,X.mg x=some (.ref C)/\p0 X.K x C/\∃B newId fY bm,OwnCls x C bm newId X.mg X.base/\ExcBaseFacts B newId fY bm
 As:∀x y C C',c.exc.contains x=true->c.exc.contains y=true->p0 X.K x C->p0 X.K y C'->PySem.W.exmOne X.K (.ref C) (.ref C')=some (decide (x=y\/y="MintError"))
 va:∀x kvs,c.gd.lookup x=some kvs->xj X x kvs
 code:c.lO=true->PySem.W.kdsCode X.K X.env.code=true
section
variable{X:Cx}{c:d7}{P:fh}{Ξ:gB}
theorem Rg{c:d7}{x:Str}{i:Nat}(h:c.idx x=some i):c.N[i]?=some x:=by
 unfold d7.idx at h;rw[kc] at h;obtain⟨h1,h2,_⟩:=h;rw[aj h1,bt h2]
theorem gy.NU(C:gy X c P Ξ){x:Str}(h:c.tD x=true):vU X.env.scope x:=by
 unfold d7.tD at h;split at h
 ·rename_i e;exact .inl (C.loc x e)
 ·rename_i e;exact .inr (.inl (C.xi x e))
 ·rename_i e;rcases C.Ao x e with z|z
  ·exact .inr (.inl z)
  ·exact .inr (.inr z)
 ·cases h
theorem gy.w5(C:gy X c P Ξ){x:Str}(h:c.gl x=true):Gl X x:=C.ET x (bt h)
theorem gy.v9(C:gy X c P Ξ){x:Str}(h:c.v9 x=true):Loc X.env.scope x/\(X.fn x=true\/X.env.scope.names.lookup x=some .local):=by
 unfold d7.v9 at h;rw[cK] at h;rcases h with h|h
 ·have:=C.loc x (bt h);exact⟨.inl this,.inr this⟩
 ·exact⟨.inr (C.xi x (bt h)),.inl (C.lO x (bt h))⟩
theorem gy.qP(C:gy X c P Ξ){x:Str}{i:Nat}(h:c.idx x=some i):X.N[i]?=some x:=by rw[C.N];exact Rg h
theorem gy.pX(C:gy X c P Ξ):X.N.Nodup:=by rw[C.N];exact C.nd
theorem GL{e:Expr}{x:Str}(h:asName e=some x):∃p,e=.Name x p:=by
 cases e<;>first|(cases h;exact⟨_,rfl⟩)|cases h
theorem FW{e:Expr}{i:Nat}(h:c.slot e=some i):∃x p,e=.Name x p/\c.v9 x=true/\c.idx x=some i:=by
 unfold d7.slot at h;obtain⟨x,hx,h2⟩:=ai.mp h;obtain⟨p,rfl⟩:=GL hx;split at h2
 ·exact⟨x,p,rfl,by assumption,h2⟩
 ·cases h2
theorem gy.slots(C:gy X c P Ξ):∀{es:List Expr} {is:List Nat},c.slots es=some is->fx X es is:=by
 intro es
 induction es with
 |nil=>intro is h;cases h;exact .nil
 |cons e r ih =>
  intro is h;unfold d7.slots at h;obtain⟨i,hi,h⟩:=ai.mp h;obtain⟨is',hs,rfl⟩:=aa.mp h;obtain⟨x,p,rfl,hl,hx⟩:=FW hi;exact .cons (C.qP hx) (C.v9 hl).1 (C.v9 hl).2 (ih hs)
theorem orElse_some{α:Type}{a:Option α}{b:Unit->Option α}{m:α}(h:a.orElse b=some m):a=some m\/b ()=some m:=by
 cases a with
 |none=>exact .inr h
 |some x=>exact .inl h
theorem gy.FH(C:gy X c P Ξ){tg:Expr}{t:MT}(h:c.tg tg=some t):PG X tg (LG X.K t):=by
 unfold d7.tg at h;rcases orElse_some h with h|h
 ·obtain⟨i,hi,rfl⟩:=aa.mp h;obtain⟨x,p,rfl,hl,hx⟩:=FW hi;exact Qi C.pX (C.qP hx) (C.v9 hl).1 (C.v9 hl).2
 ·cases tg<;>first|(cases h;done)|skip
  obtain⟨is,hs,rfl⟩:=aa.mp (show(c.slots _).map MT.many=some t from h);exact II C.calm C.pX (C.slots hs)
theorem k8{e:Expr}{es:List Expr}{env:Env}(h:fE e=true):starEach (e::es) env=(false,eval e env)::starEach es env:=by
 cases e<;>first|rfl|cases h
theorem Y7{e:Expr}{env:Env}(h:fE e=true):∀x,foldedSetIterable e env x=pure x:=by
 intro x;cases e<;>first|rfl|cases h
theorem HM{e:Expr}(h:fE e=true):AV e:=by
 intro o i;cases e<;>first|rfl|cases h
theorem Rz{o i:Expr}{tp:Pos}{env:Env}(h:fE i=true):∀v,assign (.Subscript o i tp) env v=(do
      let ov <- holding [v] (eval o env)
      let iv <- holding [v,ov] (eval i env)
      standAt tp
      holding [v,ov,iv] (setItem ov iv v)
      release [v,ov,iv] []):=by
  intro v;cases i<;>first|rfl|cases h
theorem T8{e:Expr}{t:Option Expr}{n:Nat}{env:Env}(h:u7 e=true):swapsWith e t n env=pure false:=by
 cases e<;>first|rfl|cases h
theorem ZT{e:Expr}{es:List Expr}{k:Nat}{p:Pos}{env:Env}(h:sJ e=true):swappedStores [.Tuple es k p] e env=pure none:=by
 cases e<;>first|rfl|cases h
theorem XC{e:Expr}{env:Env}(h:BO e=true):∀whole,isTrue e env whole=(do let v <- whole;standAt e.pos;holding [v] (truthy v)):=by
 intro w;cases e<;>first|rfl|cases h
theorem He{e:Expr}{q:Str×List Expr}(h:AX e=some q):∃p pos,e=.Call (.Name q.1 p) q.2 [] pos:=by
 cases e<;>first|(cases h;done)|skip
 rename_i f as iX pos;cases f<;>first|(cases h;done)|skip
 cases iX<;>first|(cases h;done)|skip
 cases h;exact⟨_,_,rfl⟩
theorem WJ{e:Expr}(h:FN e=true):∃es k p,e=.Tuple es k p:=by
 cases e<;>first|exact⟨_,_,_,rfl⟩|cases h
theorem IY{b:Expr}{kvs:List D}(h:c.yj b=some kvs):∃x p,b=.Name x p/\c.gl x=true/\Y9 x=true/\c.gd.lookup x=some kvs:=by
 unfold d7.yj at h;obtain⟨x,hx,h2⟩:=ai.mp h;obtain⟨p,rfl⟩:=GL hx;split at h2
 ·rename_i hc;rw[aS] at hc;exact⟨x,p,rfl,hc.1,hc.2,h2⟩
 ·cases h2
theorem Q2{o:Expr}{f:Str}{env:Env}(h:xJ o=true):attributeBase o f env (eval o env)=eval o env:=by
 cases o<;>first|rfl|skip
 rename_i f as iX pos;cases f<;>first|rfl|cases h
theorem Bc{env:Env}:∀(names:List (Str×NameKind)) (acc:List (Str×Addr)),(∀y∈names,y.2=.free->∃a,env.cells.lookup y.1=some a)->(∀x a,acc.lookup x=some a->env.cells.lookup x=some a) ->
  ∃ cl,(forIn names acc λ(y:Str × NameKind) (cs:List (Str × Addr))=>(match y with
   |(name,kind)=>if(kind==NameKind.free)=true then do
     let __do_lift <- cellOf env name
     pure (ForInStep.yield ((name,__do_lift)::cs))
    else pure (ForInStep.yield cs):Sem (ForInStep (List (Str × Addr)))))=pure cl/\(∀ x a,cl.lookup x=some a->env.cells.lookup x=some a)/\(∀ y ∈ names,y.2=.free->∃ a,cl.lookup y.1=some a)/\∀ x a,acc.lookup x=some a->∃ a',cl.lookup x=some a'
 |[],acc,_,h2=>⟨acc,rfl,h2,λy hy=>absurd hy (by simp),λx a h=>⟨a,h⟩⟩
 |(n,k)::r,acc,h1,h2=>by
  rw[List.forIn_cons];by_cases hk:k=.free
  ·subst hk;obtain⟨a,ha⟩:=h1 (n,.free) (by simp) rfl;have hc:cellOf env n=pure a:=by unfold cellOf;rw[ha]
   obtain ⟨cl,e,q1,q2,q3⟩:=Bc r ((n,a) :: acc) (λy hy=>h1 y (by simp [hy])) (λx b hb=>by
    rw[cC] at hb;cases hx:x==n with
    |true=>rw[hx] at hb;cases hb;rw[eq_of_beq hx];exact ha
    | false=>rw [hx] at hb;exact h2 x b hb)
   refine⟨cl,?_,q1,λy hy hf=>?_,λx b hb=>?_⟩
   ·simp only[beq_self_eq_true,if_true,hc];exact e
   ·rcases aE.mp hy with z|z
    ·subst z;exact q3 n a (by simp[List.lookup_cons])
    ·exact q2 y z hf
   ·cases hx:x==n with
    |true=>exact q3 x a (by rw[cC,hx])
    |false=>exact q3 x b (by rw[cC,hx];exact hb)
  ·have hb:(k==NameKind.free)=false:=by simpa using hk
   obtain⟨cl,e,q1,q2,q3⟩:=Bc r acc (λy hy=>h1 y (by simp[hy])) h2;refine⟨cl,?_,q1,λy hy hf=>?_,q3⟩
   ·simp only[hb,Bool.false_eq_true,if_false];exact e
   ·rcases aE.mp hy with z|z
    ·subst z;exact absurd hf hk
    ·exact q2 y z hf
end
end M

namespace M
open PySem L2 PySem.Spec PyProof.Rows
theorem Xv{P:Program}{w:World}{X:Cx}:Passes (iO P w) X (λ_ _ _=>False):=λ_ _ _ _ _ _ _ h=>by
 obtain⟨_,_,_,_,_,_,_,z⟩:=h;exact z.elim
theorem O2{env:Env}:∀{names:List (Str×NameKind)} {x:Str},names.lookup x=some .globalImplicit ->
  (names.map λ(n,k)=>if(k==NameKind.free&&env.scope.kind==.function&&env.kindOf n==some .cell) then(n,NameKind.cell) else(n,k)).lookup x=some .globalImplicit
 |[],_,h=>by simp at h
 |(n,k)::r,x,h=>by
  have ih:=@O2 env r x;show List.lookup x ((if(k==NameKind.free&&env.scope.kind==.function&&env.kindOf n==some .cell)=true then(n,NameKind.cell) else(n,k))::_)=_;cases hx:x==n with
  |true =>
   simp only[List.lookup_cons,hx] at h;cases h;simp[List.lookup_cons,hx]
  |false =>
   simp only[List.lookup_cons,hx] at h;by_cases hc:(k==NameKind.free&&env.scope.kind==.function&&env.kindOf n==some .cell)=true
   ·rw[aK hc];simp only[List.lookup_cons,hx];exact ih h
   ·rw[aC hc];simp only[List.lookup_cons,hx];exact ih h
section
variable{X:Cx}{c:d7}{P:fh}{Ξ:gB}
theorem gy.comp(C:gy X c P Ξ){sc:Scope}(h:c.Bo sc=true):∃cl,da X sc (frees sc++locals sc) (c.c8 sc) cl/\∀pins A s H fp,gy (d4 X pins sc (frees sc++locals sc) cl A s H fp) (c.inner sc) P (nA Ξ.1):=by
 unfold d7.Bo at h;simp only[Bool.and_eq_true,decide_eq_true_eq,List.all_eq_true] at h;obtain⟨⟨⟨⟨h1,h2⟩,h3⟩,h4⟩,h5⟩:=h;have mI:∀x,sc.names.lookup x=some .free->x∈frees sc:=λx hx=>by
  unfold frees;exact aQ.mpr ⟨(x,.free),bj.mpr ⟨aP hx,by simp⟩,rfl⟩
 have fr:∀x∈frees sc,(∃i,c.idx x=some i)/\sc.names.lookup x=some .free/\(c.nm.lookup x=some .cell\/c.nm.lookup x=some .free):=λx hx=>by
  have:=h5 x hx;rw[et,cK] at this;simp only[decide_eq_true_eq] at this;exact⟨this.1.1,this.1.2,this.2⟩
 have qK:∀y∈sc.names,y.2=.free->∃a,X.env.cells.lookup y.1=some a:=λy hy hf=>by
  have hm:y.1∈frees sc:=aQ.mpr ⟨y,bj.mpr ⟨hy,by simp[hf]⟩,rfl⟩;exact C.cells y.1 (fr y.1 hm).2.2
 obtain⟨cl,e,q1,q2,_⟩:=Bc sc.names [] qK (λx a h=>by simp at h);have h2:∀y∈sc.names,y.2=.cell->sc.names.lookup y.1=some .cell:=λy hy hl=>by
  have:=h2 y hy;rw[cK] at this;simp only[Bool.not_eq_true',decide_eq_false_iff_not,decide_eq_true_eq] at this;exact this.resolve_left λz=>z hl
 refine⟨cl,⟨h1,h2,λy hy hl=>?_,?_,q1,λx hx=>q2 (x,.free) (aP hx) rfl,h4,λi j ji=>?_,?_⟩,λpins A s H fp=>?_⟩
 ·have:=h3 y hy;rw[cK] at this;simp only[Bool.not_eq_true',decide_eq_false_iff_not,decide_eq_true_eq] at this;exact this.resolve_left λz=>z hl
 ·simp only[closureFor];rw[e]
  rfl
 ·unfold d7.c8 at ji;rw[ag] at ji;cases ex:(frees sc)[i]? with
  |none=>rw[ex] at ji;cases ji
  |some x =>
   rw[ex] at ji;have hx:x∈frees sc:=aI ex;obtain⟨⟨k,hk⟩,hl,hc⟩:=fr x hx;have hj:k=j:=by
    have:=aM ji;dsimp only at this;rw[hk] at this;exact this
   subst hj;refine⟨x,?_,C.qP hk,hl,?_⟩
   ·rw[aF (ao.mp ex).1];exact ex
   ·rcases hc with z|z
    ·exact .inl (C.xi x z)
    ·exact C.Ao x z
 ·unfold d7.c8;rw[ak,aZ];omega
 ·refine⟨rfl,h4,λx hx=>lookup_relabel_local hx,λx hx=>?_,λx hx=>E3 hx,λx hx=>O2 hx,λx hx=>?_,λx _=>?_,rfl,C.units,(λ_=>PassesOwn.never),C.mono,C.con,C.blt,C.fns,C.cls,C.oA,C.nz,C.xc,Xv,(λz=>by cases z),(λz=>by cases z),C.exc,C.As,C.va,(λz=>by cases z)⟩
  ·exact L5 hx
  ·rcases hx with hx|hx
   ·exact Gp (.inl hx)
   ·exact Gp (.inr (q2 (x,.free) (aP hx) rfl))
  ·exact aA ‹_›
theorem K3{x:Str}(h:Y9 x=true):(x==("__debug__":Str))=false/\(x==("__classdict__":Str))=false/\x≠"__name__":=by
 unfold Y9 at h;simp only[Bool.and_eq_true,decide_eq_true_eq,beq_iff_eq] at h;exact⟨h.1.1,h.1.2,h.2⟩
theorem WD{x:Str}{t:String}(h:Cp.lookup x=some t):bootBuiltins x=some (.type t):=by
 have hm:=aP h;simp only[Cp,List.mem_cons,List.mem_nil_iff,or_false] at hm;rcases hm with z|z|z|z|z<;>(cases z;first|exact wj|exact PyProof.Rows.boot_bool|exact PyProof.Rows.boot_str|exact rm|exact eR|decide +kernel|rfl)
theorem WK{x:Str}{p:Pr}(hc:X.calm=true)(h:CA.lookup x=some p):∃v,((∃id,v=.builtin id)\/∃T,v=.type T)/\bootBuiltins x=some v/\l9 X v (rN X.K p):=by
 have hm:=aP h;simp only[CA,List.mem_cons,List.mem_nil_iff,or_false] at hm;rcases hm with z|z|z|z|z|z|z|z|z
 ·cases z;exact⟨.builtin "len",.inl ⟨_,rfl⟩,PySem.boot_len,OD⟩
 ·cases z;exact⟨.type "list",.inr ⟨_,rfl⟩,by first|exact eR|decide +kernel,Rp⟩
 ·cases z;exact⟨.type "tuple",.inr ⟨_,rfl⟩,by first|exact rm|decide +kernel,a00⟩
 ·cases z;exact⟨.builtin "isinstance",.inl ⟨_,rfl⟩,by first|exact PyProof.Rows.boot_isinstance|decide +kernel,Rk⟩
 ·cases z;exact⟨.builtin "all",.inl ⟨_,rfl⟩,by first|exact PyProof.Rows.boot_all|decide +kernel,Ob hc⟩
 ·cases z;exact⟨.builtin "max",.inl ⟨_,rfl⟩,by first|exact PyProof.Rows.boot_max|decide +kernel,OJ hc⟩
 ·cases z;exact⟨.builtin "min",.inl ⟨_,rfl⟩,by first|exact PyProof.Rows.boot_min|decide +kernel,OK hc⟩
 ·cases z;exact⟨.type "int",.inr ⟨_,rfl⟩,by first|exact wj|decide +kernel,Oq⟩
 ·cases z;exact⟨.builtin "sum",.inl ⟨_,rfl⟩,by first|exact PyProof.Rows.boot_sum|decide +kernel,Qv hc⟩
theorem Ys{x:Str}{p:Pr}(h:xZ.lookup x=some p):∃T id,PlainAttrs T/\Slot T x id/\typeOf (.builtin id)=pure (.type "method_descriptor")/\mZ X id (rM X.K p) /\
  ∀{d:D} {v:V} {g:G} {ρ:List Addr} {H:Hp},Rl X.K ρ g H->d5 X.K ρ H d v->lN p d g->nj X.K T v H:=by
 cases h
theorem Xl{x:Str}{p:Pr}(hu:X.A.units+100<cLine)(h:CL.lookup x=some p):∃T id,PlainAttrs T/\Slot T x id/\typeOf (.builtin id)=pure (.type "method_descriptor")/\mZ X id (rM X.K p) /\
  ∀{d:D} {v:V} {g:G} {ρ:List Addr} {H:Hp},Rl X.K ρ g H->d5 X.K ρ H d v->lN p d g->nj X.K T v H:=by
 have hm:=aP h;simp only[CL,List.mem_cons,List.mem_nil_iff,or_false] at hm;rcases hm with z|z|z|z
 ·cases z;exact⟨_,_,rh,PySem.F.slot_list_append,PySem.F.type_list_append,WI,λR r h=>ty_list R r h⟩
 ·cases z;exact⟨_,_,rh,PySem.F.slot_list_pop,PySem.F.type_list_pop,a29,λR r h=>ty_list R r h⟩
 ·cases z;exact⟨_,_,PySem.F.plainAttrs_dict,ip,PySem.F.type_dict_get,Oi hu,λR r h=>ty_dict R r h⟩
 ·cases z;exact⟨_,_,PySem.F.plainAttrs_set,PySem.F.slot_set_add,PySem.F.type_set_add,Se,λR r h=>ty_set R r h⟩
theorem Ga{pos:Pos}{env:Env}:∀{es:List Expr},(∀e∈es,fE e=true)->(backTo pos (starEach es env)).all (λx=>!x.1)=true
 |[],_=>rfl
 |e::es,h=>by
  rw[k8 (h e (by simp))];have ih:=Ga (pos:=pos) (env:=env) (es:=es) λx hx=>h x (by simp[hx]);unfold backTo at ih ⊢;rw[bg,List.all_cons,ih]
  rfl
theorem Y3{pos:Pos}{env:Env}:∀{es:List Expr},(∀e∈es,fE e=true)->(backTo pos (starEach es env)).any (·.1)=false
 |[],_=>rfl
 |e::es,h=>by
  rw[k8 (h e (by simp))];have ih:=Y3 (pos:=pos) (env:=env) (es:=es) λx hx=>h x (by simp[hx]);unfold backTo at ih ⊢;rw[bg,fo,ih]
  rfl
theorem Br{r:CF}:∀{es:List Expr} {m:ME},F7 r c es=some m->∀e∈es,fE e=true:=by
 intro es
 induction es with
 |nil=>intro m _ e he;exact absurd he (by simp)
 |cons a es ih =>
  intro m h e he;unfold F7 at h;split at h
  ·obtain⟨m1,h1,h⟩:=ai.mp h;obtain⟨m2,h2,_⟩:=aa.mp h;rcases aE.mp he with z|z
   ·rw[z];assumption
   ·exact ih h2 e z
  ·cases h
end
theorem X'{a:Expr}{x:Str}(h:HD a=some x):∃j p,a=.Constant (.str x) j p:=by
 cases a with
 |Constant k j p=>cases k with
  |str y=>cases h;exact⟨_,_,rfl⟩
  |_=>cases h
 |_=>cases h
theorem Zw{a e:Expr}(h:Fp a=some e):∃p,a=.FormattedValue e (-1) none p:=by
 cases a with
 |FormattedValue v k f p=>cases f with
  |none =>
   have h2:(if k=-1 then some v else none)=some e:=h;split at h2
   ·rename_i hk;cases h2;rw[hk];exact⟨_,rfl⟩
   ·cases h2
  |some _=>cases h
 |_=>cases h
structure pB(P:fh)(r:CF):Prop where
 e:∀X c Ξ,gy X c P Ξ->∀e m,r.e c e=some m->PE X e (LE X.K Ξ (aO P m))
 t:∀X c Ξ,gy X c P Ξ->∀e m,r.t c e=some m->PT X e (LT X.K Ξ (cI P m))
 s:∀X c Ξ,gy X c P Ξ->∀st m,r.s c st=some m->PS X st (LS X.K Ξ (wpS P m))
section
variable{X:Cx}{c:d7}{P:fh}{Ξ:gB}{r:CF}(S:pB P r)(C:gy X c P Ξ){a b d e:Expr}{m:ME}{pos:Pos}
include S C
theorem X8{p:Pr}(h:c1 r c p a=some m):∃ma,PE X a (LE X.K Ξ (aO P ma))/\m=.prim p (.cons ma .nil):=by
 obtain⟨ma,ha,rfl⟩:=aa.mp h;exact⟨ma,S.e X c Ξ C _ _ ha,rfl⟩
theorem X7{p:Pr}(h:c2 r c p a b=some m):∃ma mb,PE X a (LE X.K Ξ (aO P ma))/\PE X b (LE X.K Ξ (aO P mb))/\m=.prim p (.cons ma (.cons mb .nil)):=by
 obtain⟨ma,ha,h⟩:=ai.mp h;obtain⟨mb,hb,rfl⟩:=aa.mp h;exact⟨ma,mb,S.e X c Ξ C _ _ ha,S.e X c Ξ C _ _ hb,rfl⟩
theorem rD:∀{es:List Expr} {m:ME},F7 r c es=some m->PA X es (LA X.K Ξ (cZ P m)):=by
 intro es
 induction es with
 |nil=>intro m h;cases h;exact G0 C.mono
 |cons a es ih =>
  intro m h;unfold F7 at h;split at h
  ·rename_i bK;obtain⟨m1,h1,h⟩:=ai.mp h;obtain⟨m2,h2,rfl⟩:=aa.mp h;exact A6 C.mono (S.e X c Ξ C _ _ h1) (ih h2) (k8 bK)
  ·cases h
theorem KC:∀{es:List Expr} {m:ME},sC r c es=some m->∃ts,lQ X Ξ P es m ts:=by
 intro es
 induction es with
 |nil=>intro m h;cases h;exact⟨_,.nil⟩
 |cons a es ih =>
  intro m h;unfold sC at h;rcases orElse_some h with h1|h1
  ·obtain⟨x,hx,h2⟩:=ai.mp h1;obtain⟨j,p,rfl⟩:=X' hx;split at h2
   ·obtain⟨m2,h3,rfl⟩:=aa.mp h2;obtain⟨ts,F⟩:=ih h3;exact⟨_,.lit (by assumption) F⟩
   ·cases h2
  ·obtain⟨x,hx,h2⟩:=ai.mp h1;obtain⟨m1,h3,h4⟩:=ai.mp h2;obtain⟨m2,h5,rfl⟩:=aa.mp h4;obtain⟨p,rfl⟩:=Zw hx;obtain⟨ts,F⟩:=ih h5;exact⟨_,.val (S.e X c Ξ C _ _ h3) F⟩
theorem KH:∀{ks:List (Option Expr)} {vs:List Expr} {m:ME},vD r c ks vs=some m->∃gP,lR X Ξ P ks vs m gP:=by
 intro ks
 induction ks with
 |nil=>intro vs m h;cases vs<;>first|(cases h;exact⟨_,.nil⟩)|cases h
 |cons k ks ih =>
  intro vs m h;cases k<;>first|(cases h;done)|skip
  cases vs<;>first|(cases h;done)|skip
  unfold vD at h;obtain⟨m1,h1,h⟩:=ai.mp h;obtain⟨m2,h2,h⟩:=ai.mp h;obtain⟨m3,h3,rfl⟩:=aa.mp h;obtain⟨gP,D⟩:=ih h3;exact⟨_,.cons (S.e X c Ξ C _ _ h1) (S.e X c Ξ C _ _ h2) D⟩
theorem KI{op:BoolOp}:∀{vs:List Expr} {m:ME},xn r c op vs=some m->PE X (.BoolOp op vs pos) (LE X.K Ξ (aO P m)):=by
 intro vs
 induction vs with
 |nil=>intro m h;cases h
 |cons a vs ih =>
  intro m h;cases vs with
  |nil=>exact Pl (S.e X c Ξ C _ _ h)
  |cons b vs =>
   unfold xn at h;obtain⟨m1,h1,h⟩:=ai.mp h;obtain⟨m2,h2,rfl⟩:=aa.mp h;cases op
   ·exact PY C.mono (S.e X c Ξ C _ _ h1) (ih h2)
   ·exact Nx C.mono (S.e X c Ξ C _ _ h1) (ih h2)
theorem Ky{op:BoolOp}:∀{vs:List Expr} {m:ME},xo r c op vs=some m->PW X (.BoolOp op vs pos) (LT X.K Ξ (cI P m)):=by
 intro vs
 induction vs with
 |nil=>intro m h;cases h
 |cons a vs ih =>
  intro m h;cases vs with
  |nil =>
   cases op
   ·exact Sa (S.t X c Ξ C _ _ h)
   ·exact PK (S.t X c Ξ C _ _ h)
  |cons b vs =>
   unfold xo at h;obtain⟨m1,h1,h⟩:=ai.mp h;obtain⟨m2,h2,rfl⟩:=aa.mp h;cases op
   ·exact Qw C.mono (S.t X c Ξ C _ _ h1) (ih h2)
   ·exact NB C.mono (S.t X c Ξ C _ _ h1) (ih h2)
theorem TL{es:List Expr}(h:HF r c es=some m):kO X es (LT X.K Ξ (cI P m)):=by
 rcases es with _|⟨e,_|⟨_,_⟩⟩
 ·cases h;exact Sz C.mono
 ·exact RZ (S.t X c Ξ C _ _ h)
 ·cases h
theorem su:∀{Dy:List Stmt} {m:MS},s9 r c Dy=some m->iN X Dy (LS X.K Ξ (wpS P m)):=by
 intro es
 induction es with
 |nil=>intro m h;cases h;exact HW C.mono
 |cons a es ih =>
  intro m h;unfold s9 at h;obtain⟨m1,h1,h⟩:=ai.mp h;obtain⟨m2,h2,rfl⟩:=aa.mp h;exact IJ C.mono (S.s X c Ξ C _ _ h1) (ih h2)
end
theorem Hm{e t:Expr}{n:Nat}{env:Env}(h:u7 e=true):swapsWithSole [t] e n env=pure false:=by
 show swapsWith e (some t) n env=pure false;exact T8 h
theorem Yw{x y:Str}{px py pt oy:Pos}{kt k2:Nat}{a b:Expr}{env:Env}(hk:env.scope.kind=.function)(hx:env.kindOf x=some .local)(hy:env.kindOf y=some .local)(dG:x≠y)(hl:py.line=px.line)(ha:fE a=true)(hb:fE b=true)(h1:[a,b].all (foldedForSure 8)=false)(h2:[a,b].all (constantsAlone 8)=false):swappedStores [.Tuple [.Name x px,.Name y py] kt pt] (.Tuple [a,b] k2 oy) env=pure (some [x,y]):=by
 have Mb:env.blockKind=.function:=by simp[Env.blockKind,hk,ScopeKind.isAnnotationScope]
 have hd:[x,y].eraseDups.length=2:=by
  have:(y==x)=false:=by simpa using bE dG
  simp[List.eraseDups_cons,this]
 have oH:(env.kindOf x==some NameKind.local&&px.line==px.line)=true:=by simp[hx]
 have zd:(env.kindOf y==some NameKind.local&&py.line==px.line)=true:=by simp[hy,hl]
 have hp:Expr.pos (.Name x px)=px:=rfl;unfold swappedStores;simp only[List.length_cons,List.length_nil,Mb,List.head?_cons,Option.map_some,Option.getD_some,hp,List.filterMap_cons,List.filterMap_nil,oH,zd,if_true,hd,h1,h2];rw[aC (by decide),aC ?_]
 ·rfl
 ·simp only[List.any_cons,List.any_nil,Bool.or_false,Bool.or_eq_true,not_or];constructor
  ·cases a<;>first|(intro h;cases h;done)|cases ha
  ·cases b<;>first|(intro h;cases h;done)|cases hb
theorem Qy{X:Cx}{Ξ:gB}{P:fh}(hP:f6 P){i j:Nat}{x y:Str}{a b:Expr}{px py pt oy pos:Pos}{kt k2:Nat}{gz:ME}(hc:X.calm=true)(hN:X.N.Nodup)(hi:X.N[i]?=some x)(hj:X.N[j]?=some y)(dG:x≠y)(hl:py.line=px.line)(hx:X.env.scope.names.lookup x=some .local)(hy:X.env.scope.names.lookup y=some .local)(oa:fE a=true)(ob:fE b=true)(h1:[a,b].all (foldedForSure 8)=false)(h2:[a,b].all (constantsAlone 8)=false)(ha:PA X [a,b] (LA X.K Ξ (cZ P gz))):PS X (.Assign [.Tuple [.Name x px,.Name y py] kt pt] (.Tuple [a,b] k2 oy) pos) (LS X.K Ξ (wpS P (.kD (.many [i,j]) (.prim .tup gz)))):=by
 intro pins s bU H D I h;have ji:i≠j:=by
  rintro rfl;rw[hi] at hj;cases hj;exact dG rfl
 refine Py hc hN hi hj ji hx hy ha (Yw I.ok.kind hx hy dG hl oa ob h1 h2) rfl pins s bU H D I ?_;obtain⟨Z,g,ρ,sr,R,h⟩:=h;refine jL hP sr R (.refl _ _) (show cZ P gz Z g (λxs g1=>cG .tup xs g1 _) _ from h) λds g1 bO H1 vs e1 R1 r1 h=>?_;obtain⟨d',g',⟨_,rfl,rfl⟩,l,bN,ex,hs,h⟩:=h;cases ex;have hl:=Y5 hs;have e2:∃d1 d2,ds=[d1,d2]:=by
  rcases ds with _|⟨d1,_|⟨d2,_|⟨d3,r⟩⟩⟩<;>first|exact⟨_,_,rfl⟩|(simp at hl;done)|(simp at hl;omega)
 obtain⟨d1,d2,rfl⟩:=e2;obtain⟨v,w,rfl,q1,q2⟩:=r1.two;cases hs;exact⟨_,_,rfl,h bO H1 _ e1 R1 (((sr.ext e1).set i q1).set j q2)⟩
theorem gy.Y2{X:Cx}{c:d7}{Ξ:gB}{P:fh}(C:gy X c P Ξ)(dE:X.stack=X.env::X.outer)(hf:X.env.frame=some X.env.locals)(pins:List (Addr×Obj))(D:L2.Ends)(hs:List ExceptHandler) :
  gy (T4 X pins (sN X pins D hs)) { c with jr:=false,iW:=false } P (yn X Ξ.1 D hs) :=
 ⟨C.N,C.nd,C.loc,C.xi,C.Ao,C.ET,C.cells,C.lO,C.calm,C.units,(λ_=>PassesOwn.looking),C.mono,C.con,C.blt,C.fns,C.cls,C.oA,C.nz,C.xc,ZZ dE hf λC H' ⟨C',e,z⟩=>(by cases e;exact z),(λz=>by cases z),(λz=>by cases z),C.exc,C.As,C.va,C.code⟩
end M

namespace M
open PySem L2 PySem.Spec PyProof.Rows
section
variable{X:Cx}{c:d7}{P:fh}{Ξ:gB}{r:CF}(S:pB P r)(C:gy X c P Ξ){a b d e:Expr}{m:ME}{pos:Pos}
include C
theorem ON{x:Str}(h:Cu c x=some m):PE X (.Name x pos) (LE X.K Ξ (aO P m)):=by
 unfold Cu at h;split at h
 ·rename_i ig;obtain⟨d1,d2,d3⟩:=K3 ig;split at h
  ·rename_i hv;obtain⟨i,hi,rfl⟩:=aa.mp h;exact Qg (C.qP hi) (C.NU hv) d1 d2
  ·split at h
   ·rename_i hg;rcases orElse_some h with h|h
    ·obtain⟨d,hd,rfl⟩:=aa.mp h;obtain⟨v,u,hm,r,rr⟩:=C.con x d hd;exact Q9 (ya (C.w5 hg) hm r d1) rr
    ·split at h
     ·rename_i hb;obtain⟨t,ht,rfl⟩:=aa.mp h;exact Q9 (v:=.ty t) (RI (C.w5 hg) (C.blt x hb) (WD ht) rfl d3 d1) λ_ _=>.ty t
     ·cases h
   ·cases h
 ·cases h
omit C in
theorem yT{k:Const}{j:Nat}{d:D}(h:qV k=some d):PE X (.Constant k j pos) (LE X.K Ξ (aO P (.lit d))):=by
 cases k<;>first|(cases h;done)|skip
 ·cases h;exact Q9 Pj λ_ _=>.bC
 ·cases h;exact Q9 VJ λ_ _=>.bl _
 ·cases h;exact Q9 Pf λ_ _=>.int _
 ·cases h;exact Q9 HP λ_ _=>.str _
include S
theorem TM{op:UnaryOp}(h:yy r c op a=some m):PE X (.UnaryOp op a pos) (LE X.K Ξ (aO P m)):=by
 unfold yy at h;split at h
 ·rename_i ho;subst ho;obtain⟨ma,ha,rfl⟩:=aa.mp h;exact Qe C.mono (S.e X c Ξ C _ _ ha)
 ·obtain⟨ma,ha,rfl⟩:=X8 S C h;exact Ny C.mono ha
theorem Jn{ops:List CmpOp}{bs:List Expr}(h:vx r c a ops bs=some m):PE X (.Compare a ops bs pos) (LE X.K Ξ (aO P m))/\PT X (.Compare a ops bs pos) (LT X.K Ξ (cI P (.fy m))):=by
 unfold vx at h;split at h
 ·rename_i op b;split at h
  ·cases h
  ·rename_i hm;have hm:behindInMarks op b=false:=by simpa using hm
   rcases orElse_some h with h|h
   ·obtain⟨neg,hn,h⟩:=ai.mp h;obtain⟨kvs,hk,h⟩:=ai.mp h;obtain⟨ma,ha,rfl⟩:=aa.mp h;obtain⟨x,p,rfl,hg,hd,hk⟩:=IY hk;have ho:op=if neg then .NotIn else .In:=by cases op<;>cases hn<;>rfl
    subst ho;exact⟨Qb C.mono (C.w5 hg) (K3 hd).1 (C.va x kvs hk) (S.e X c Ξ C _ _ ha) hm,Qq C.mono (C.w5 hg) (K3 hd).1 (C.va x kvs hk) (S.e X c Ξ C _ _ ha) hm⟩
   ·obtain⟨ma,mb,ha,hb,rfl⟩:=X7 S C h;exact⟨AK C.mono (Iy (W8 C.units op) ha hb hm),Qt C.mono (IC (W8 C.units op) ha hb hm)⟩
 ·split at h
  ·cases h
  ·rename_i hm;obtain⟨ma,ha,h⟩:=ai.mp h;obtain⟨mb,hb,h⟩:=ai.mp h;obtain⟨md,hd,rfl⟩:=aa.mp h;exact⟨a14 C.mono C.units (S.e X c Ξ C _ _ ha) (S.e X c Ξ C _ _ hb) (S.e X c Ξ C _ _ hd) (by simpa using hm),a04 C.mono C.units (S.e X c Ξ C _ _ ha) (S.e X c Ξ C _ _ hb) (S.e X c Ξ C _ _ hd) (by simpa using hm)⟩
 ·cases h
theorem TJ{lo hi st:Option Expr}{p2:Pos}(h:Ds r c a lo hi st=some m):PE X (.Subscript a (.Slice lo hi st p2) pos) (LE X.K Ξ (aO P m)):=by
 cases lo<;>cases hi<;>cases st<;>first|(cases h;done)|skip
 ·obtain⟨ma,ha,rfl⟩:=X8 S C h;exact a08 C.mono ha
 ·obtain⟨ma,mb,ha,hb,rfl⟩:=X7 S C h;exact a07 C.mono ha hb
 ·obtain⟨ma,mb,ha,hb,rfl⟩:=X7 S C h;exact a06 C.mono ha hb
theorem Vz(h:BS r c a b=some m):PE X (.Subscript a b pos) (LE X.K Ξ (aO P m)):=by
 unfold BS at h;rcases orElse_some h with h|h
 ·obtain⟨q,hq,h⟩:=ai.mp h;have eb:∃p,b=.Slice q.1 q.2.1 q.2.2 p:=by cases b<;>first|(cases hq;exact⟨_,rfl⟩)|cases hq
  obtain⟨p,rfl⟩:=eb;exact TJ S C h
 ·split at h
  ·rename_i hb;rcases orElse_some h with h|h
   ·obtain⟨kvs,hk,h⟩:=ai.mp h;obtain⟨mb,kd,rfl⟩:=aa.mp h;obtain⟨x,p,rfl,hg,hd,hk⟩:=IY hk;exact Sj C.mono (C.w5 hg) (K3 hd).1 (C.va x kvs hk) (S.e X c Ξ C _ _ kd) (HM hb)
   ·obtain⟨ma,mb,ha,kd,rfl⟩:=X7 S C h;exact AK C.mono (Jo (Vn C.units) ha kd (HM hb))
  ·cases h
theorem TK{x:Str}{px:Pos}(hg:c.gl x=true)(h:yz r c x e=some m):PE X (.Call (.Name x px) [e] [] pos) (LE X.K Ξ (aO P m)):=by
 unfold yz at h;obtain⟨q,hq,h'⟩:=ai.mp h;clear h;have h:=h';clear h';obtain⟨p,pos',rfl⟩:=He hq;obtain⟨y,as⟩:=q;dsimp only at h ⊢;split at h
 ·rename_i hc;simp only[Bool.and_eq_true,decide_eq_true_eq] at hc;obtain⟨⟨⟨⟨rfl,rfl⟩,hl⟩,hr⟩,rK⟩:=hc;rcases as with _|⟨a,_|⟨b,_|⟨_,_⟩⟩⟩
  ·cases h
  ·dsimp only at h;split at h
   ·rename_i ho;obtain⟨ma,ha,rfl⟩:=X8 S C h;exact a13 C.mono C.calm ha (C.w5 hg) (C.blt _ hl) (C.w5 rK) (C.blt _ hr) (k8 ho)
   ·cases h
  ·dsimp only at h;split at h
   ·rename_i ho;rw[aS] at ho;obtain⟨ma,mb,ha,hb,rfl⟩:=X7 S C h;exact a12 C.mono C.calm ha hb (C.w5 hg) (C.blt _ hl) (C.w5 rK) (C.blt _ hr) (by rw[k8 ho.1,k8 ho.2];rfl) (k8 ho.2)
   ·cases h
  ·cases h
 ·split at h
  ·rename_i hc;simp only[Bool.and_eq_true,decide_eq_true_eq] at hc;obtain⟨⟨⟨⟨rfl,rfl⟩,hl⟩,hr⟩,rK⟩:=hc;rcases as with _|⟨a,_|⟨_,_⟩⟩
   ·cases h
   ·dsimp only at h;split at h
    ·rename_i ho;obtain⟨ma,ha,rfl⟩:=X8 S C h;exact So C.mono C.calm ha (C.w5 hg) (C.blt _ hl) (C.w5 rK) (C.blt _ hr) (k8 ho)
    ·cases h
   ·cases h
  ·split at h
   ·rename_i hc;simp only[Bool.and_eq_true,decide_eq_true_eq] at hc;obtain⟨⟨⟨⟨rfl,rfl⟩,hl⟩,hr⟩,rK⟩:=hc;rcases as with _|⟨a,_|⟨_,_⟩⟩
    ·cases h
    ·dsimp only at h;split at h
     ·rename_i ho;obtain⟨ma,ha,rfl⟩:=X8 S C h;exact Sk C.mono C.calm ha (C.w5 hg) (C.blt _ hl) (C.w5 rK) (C.blt _ hr) (k8 ho)
     ·cases h
    ·cases h
   ·cases h
theorem Rw{x:Str}{px:Pos}{args:List Expr}(h:Ig r c x args=some m):PE X (.Call (.Name x px) args [] pos) (LE X.K Ξ (aO P m)):=by
 cases args with
 |nil =>
  have h2:AQ c x=some m:=h;unfold AQ at h2;split at h2
  ·rename_i ig;rw[aS] at ig;obtain⟨f,hf,rfl⟩:=aa.mp h2;obtain⟨k,C',fa,fd,ps,F,hr,hm,hC,jD,M⟩:=C.cls x f hf;exact a11 C.mono C.pass F M hC jD hr (C.w5 ig.2) hm (K3 ig.1).1
  ·cases h2
 |cons e es =>
  have h0:AR r c x e es=some m:=h;clear h;have h:=h0;clear h0;unfold AR at h;split at h
  ·rename_i ig;rw[aS] at ig;obtain⟨d1,d2,d3⟩:=K3 ig.1;rcases orElse_some h with h|h
   ·cases es with
    |nil=>exact TK S C ig.2 h
    |cons _ _=>cases h
   ·obtain⟨ms,oO,h⟩:=ai.mp h;have ok:=Br oO;have pa:=rD S C oO;have dE:=k8 (env:=X.env) (es:=es) (ok e (by simp));have gA:=Y3 (pos:=pos) (env:=X.env) (es:=es) λz hz=>ok z (by simp[hz]);rcases orElse_some h with h|h
    ·obtain⟨f,hf,rfl⟩:=aa.mp h;obtain⟨k,fa,fd,ps,F,hr,hm,hk⟩:=C.fns x f hf;exact Sf C.mono C.pass F hr (C.w5 ig.2) hm hk pa d1 dE gA
    ·rcases orElse_some h with h|h
     ·obtain⟨f,hf,rfl⟩:=aa.mp h;obtain⟨k,C',fa,fd,ps,F,hr,hm,hC,jD,M⟩:=C.cls x f hf;exact Sl C.mono C.pass F M hC jD hr (C.w5 ig.2) hm pa d1 dE gA
     ·split at h
      ·rename_i hb;obtain⟨p,hp,rfl⟩:=aa.mp h;obtain⟨v,hv,zN,hc⟩:=WK (X:=X) C.calm hp;exact PZ C.mono hv hc (C.w5 ig.2) (C.blt x hb) zN pa d3 d1 dE gA
      ·cases h
  ·cases h
theorem Rv{o:Expr}{mt:Str}{apos:Pos}{args:List Expr}(h:AS r c o mt apos pos args=some m):PE X (.Call (.Attribute o mt apos) args [] pos) (LE X.K Ξ (aO P m)):=by
 unfold AS at h;split at h
 ·rename_i hc;simp only[Bool.and_eq_true,decide_eq_true_eq] at hc;obtain⟨⟨hb,hl⟩,hn⟩:=hc;obtain⟨mo,ho,h⟩:=ai.mp h;obtain⟨ms,oO,h⟩:=ai.mp h;have ok:=Br oO;have pa:=rD S C oO;have po:=S.e X c Ξ C _ _ ho;have hf:methodCallForm args.length (backTo pos (starEach args X.env)) (backToKw pos (keywordEach [] X.env))=true:=by
   unfold methodCallForm;rw[Ga ok];have:args.length+0<30:=by omega
   show(true&&true&&decide (args.length+0<30))=true;rw[aA this]
   rfl
  by_cases uE:mt="index"
  ·subst uE;rw[aK rfl] at h;cases h
  rw[aC uE] at h;cases args with
  |nil =>
   cases oO;by_cases h0:(xZ.lookup mt).isSome=true
   ·rw[aK (by rw[h0];rfl)] at h;obtain⟨p,hp,rfl⟩:=aa.mp h;obtain⟨T,id,yP,sl,ty,yU,hk⟩:=Ys (X:=X) hp;exact a10 C.mono yP sl ty yU hk po (Q2 hb) hl
   rw[aC (by rw[aS];exact λz=>h0 z.2)] at h;split at h
   ·cases h
   ·cases h
  |cons e es =>
   have dE:=k8 (env:=X.env) (es:=es) (ok e (by simp));have gA:=Y3 (pos:=pos) (env:=X.env) (es:=es) λz hz=>ok z (by simp[hz]);rw[aC (by simp)] at h;split at h
   ·rename_i p hp;cases h;obtain⟨T,id,yP,sl,ty,yU,hk⟩:=Xl (X:=X) C.units hp;exact Sm C.mono yP sl ty yU hk po pa (Q2 hb) hf hl dE gA
   ·cases h
 ·cases h
theorem DT{tg:Expr}(h:vF r c tg e=some m):PI X tg e (LI X.K Ξ (eQ P m)):=by
 unfold vF at h;rcases orElse_some h with h|h
 ·obtain⟨q,hq,h'⟩:=ai.mp h;rename_i h0;clear h h0;have h:=h';clear h';obtain⟨p,pos',rfl⟩:=He hq;obtain⟨y,as⟩:=q;dsimp only at h ⊢;split at h
  ·rename_i hy;subst hy;rcases as with _|⟨a,_|⟨_,_⟩⟩
   ·cases h
   ·dsimp only at h;split at h
    ·rename_i hc;simp only[Bool.and_eq_true] at hc;obtain⟨⟨⟨hg,hb⟩,ho⟩,ht⟩:=hc;obtain⟨ma,ha,rfl⟩:=aa.mp h;obtain⟨es,k,tp,rfl⟩:=WJ ht;exact Ss C.mono (S.e X c Ξ C _ _ ha) (C.w5 hg) (C.blt _ hb) (k8 ho)
    ·cases h
   ·cases h
  ·split at h
   ·rename_i hy;subst hy;rcases as with _|⟨a,_|⟨_,_⟩⟩
    ·cases h
    ·dsimp only at h;split at h
     ·rename_i hc;simp only[Bool.and_eq_true] at hc;obtain⟨⟨hg,hb⟩,ho⟩:=hc;obtain⟨ma,ha,rfl⟩:=aa.mp h;exact Qj C.mono (S.e X c Ξ C _ _ ha) (C.w5 hg) (C.blt _ hb) (k8 ho)
     ·cases h
    ·cases h
   split at h
   ·rename_i hy;subst hy;rcases as with _|⟨a,_|⟨b,_|⟨_,_⟩⟩⟩
    ·cases h
    ·dsimp only at h;split at h
     ·rename_i hc;simp only[Bool.and_eq_true] at hc;obtain⟨⟨hg,hb⟩,ho⟩:=hc;obtain⟨ma,ha,rfl⟩:=aa.mp h;exact Su C.mono (S.e X c Ξ C _ _ ha) (C.w5 hg) (C.blt _ hb) (k8 ho)
     ·cases h
    ·dsimp only at h;split at h
     ·rename_i hc;simp only[Bool.and_eq_true] at hc;obtain⟨⟨⟨hg,hb⟩,ho⟩,ky⟩:=hc;obtain⟨ma,ha,h⟩:=ai.mp h;obtain⟨mb,kd,rfl⟩:=aa.mp h;exact Sv C.mono (S.e X c Ξ C _ _ ha) (S.e X c Ξ C _ _ kd) (C.w5 hg) (C.blt _ hb) (by rw[k8 ho,k8 ky];rfl) (k8 ky)
     ·cases h
    ·cases h
   ·cases h
 ·split at h
  ·obtain⟨ma,ha,rfl⟩:=aa.mp h;exact Qk C.mono (S.e X c Ξ C _ _ ha)
  ·cases h
theorem Bn{elt:Expr}{gens:List Comprehension}{sc:Scope}(h:X9 r c elt gens sc=some m):∃tg it ifs t mi mc me cl,gens=[⟨tg,it,ifs,0⟩]/\m=.comp (c.c8 sc) (frees sc++locals sc).length t mi mc me/\fE it=true /\
  da X sc (frees sc++locals sc) (c.c8 sc) cl/\PI X tg it (LI X.K Ξ (eQ P mi))/\(∀pins A s H fp,PG (d4 X pins sc (frees sc++locals sc) cl A s H fp) tg (LG X.K t)) /\
   (∀pins A s H fp,kO (d4 X pins sc (frees sc++locals sc) cl A s H fp) ifs (LT X.K (nA Ξ.1) (cI P mc)))/\(∀pins A s H fp,PE (d4 X pins sc (frees sc++locals sc) cl A s H fp) elt (LE X.K (nA Ξ.1) (aO P me))):=by
 unfold X9 at h;rcases gens with _|⟨⟨tg,it,ifs,Ec⟩,_|⟨_,_⟩⟩
 ·cases h
 ·dsimp only at h;split at h
  ·rename_i hs;simp only[Bool.and_eq_true,decide_eq_true_eq] at hs;obtain⟨⟨hs,rfl⟩,hit⟩:=hs;obtain⟨t,h1,h⟩:=ai.mp h;obtain⟨mi,h2,h⟩:=ai.mp h;obtain⟨mc,h3,h⟩:=ai.mp h;obtain⟨me,h4,rfl⟩:=aa.mp h;obtain⟨cl,Sc,I⟩:=C.comp hs;exact⟨tg,it,ifs,t,mi,mc,me,cl,rfl,rfl,hit,Sc,DT S C h2,λpins A s H fp=>(I pins A s H fp).FH h1,λpins A s H fp=>TL S (I pins A s H fp) h3,λpins A s H fp=>S.e _ _ _ (I pins A s H fp) elt me h4⟩
  ·cases h
 ·cases h
omit S in
theorem TH{f:Expr}{args:List Expr}{iX:List Keyword}(h:wk c f args iX=some m):PE X (.Call f args iX pos) (LE X.K Ξ (aO P m)):=by
 unfold wk at h;cases h
theorem KG:∀e m,Ju r c e=some m->PE X e (LE X.K Ξ (aO P m)):=by
 intro e m h;cases e with
 |Name x p=>exact ON C h
 |Constant k j p =>
  obtain⟨d,hd,rfl⟩:=aa.mp (show(qV k).map ME.lit=some m from h);exact yT hd
 |BinOp a op b p =>
  obtain⟨ma,mb,ha,hb,rfl⟩:=X7 S C h;exact AK C.mono (VN (OQ op) ha hb)
 |UnaryOp op a p=>exact TM S C h
 |Compare a ops bs p=>exact(Jn S C h).1
 |BoolOp op vs p=>exact KI S C h
 |IfExp t a b p =>
  obtain⟨mt,ht,h⟩:=ai.mp h;obtain⟨ma,ha,h⟩:=ai.mp h;obtain⟨mb,hb,rfl⟩:=aa.mp h;exact Qc C.mono (S.t X c Ξ C _ _ ht) (S.e X c Ξ C _ _ ha) (S.e X c Ξ C _ _ hb)
 |Tuple es k p =>
  obtain⟨ma,ha,rfl⟩:=aa.mp h;exact Qf C.mono (rD S C ha)
 |List es p =>
  obtain⟨ma,ha,rfl⟩:=aa.mp h;exact HV C.mono (rD S C ha)
 |Subscript a b p=>exact Vz S C h
 |Dict ks vs p =>
  have h2:(if ks.isEmpty&&vs.isEmpty then some (ME.prim .og .nil) else if decide (ks.length<=15) then(vD r c ks vs).map .pb else none)=some m:=h;split at h2
  ·rename_i hc;cases ks<;>cases vs<;>first|(cases hc;done)|skip
   cases h2;exact Sg
  ·rename_i hc;split at h2
   ·rename_i hl;obtain⟨ms,hm,rfl⟩:=aa.mp h2;obtain⟨gP,D⟩:=KH S C hm;refine P' C.mono D (λz=>hc ?_) (bt hl);have:=D.len.2;subst z;cases vs<;>first|rfl|cases this
   ·cases h2
 |JoinedStr vs p =>
  have h2:(if decide (2<=vs.length)&&decide (vs.length<=40) then(sC r c vs).map (ME.prim .ly) else none)=some m:=h;split at h2
  ·rename_i hc;simp only[Bool.and_eq_true,decide_eq_true_eq] at hc;obtain⟨ms,hm,rfl⟩:=aa.mp h2;obtain⟨ts,F⟩:=KC S C hm;rcases vs with _|⟨v1,_|⟨v2,vs⟩⟩
   ·simp at hc
   ·simp at hc
   ·exact Si C.mono F hc.2
  ·cases h2
 |Attribute o f p =>
  have h2:(if xJ o then c1 r c (.fld f) o else none)=some m:=h;split at h2
  ·rename_i hb;obtain⟨ma,ha,rfl⟩:=X8 S C h2;exact Qa C.mono ha (Q2 hb)
  ·cases h2
 |Call f args iX pos =>
  have h1:((yA r c f args iX).orElse λ_=>(wk c f args iX).orElse λ_=>Ct r c f args iX pos)=some m:=h;rcases orElse_some h1 with h2|h2
  ·unfold yA at h2;rcases args with _|⟨a,_|⟨_,_⟩⟩
   ·cases h2
   ·dsimp only at h2;split at h2
    ·rename_i hk;simp only[Bool.and_eq_true,decide_eq_true_eq] at hk;obtain⟨⟨⟨hk,hf⟩,mH⟩,hb⟩:=hk;cases iX<;>first|(cases hk;done)|skip
     obtain⟨q,hq,h3⟩:=ai.mp h2;obtain⟨m1,h4,h5⟩:=ai.mp h3;cases f<;>first|(cases hf;done)|skip
     cases a<;>first|(cases hq;done)|skip
     cases hf;cases hq;obtain⟨tg,it,ifs,t,mi,mc,me,cl,eg,rfl,hit,Sc,q1,q2,q3,q4⟩:=Bn S C h4;dsimp only at eg;subst eg;cases h5;exact a09 C.mono Sc C.calm q1 q2 q3 q4 (Y7 hit) (C.w5 mH) (C.blt _ hb)
    ·cases h2
   ·cases h2
  clear h h1;rcases orElse_some h2 with h3|h3
  ·exact TH C h3
  clear h2;unfold Ct at h3;split at h3
  ·rename_i hk;cases iX<;>first|(cases hk;done)|skip
   cases f with
   |Name x p=>exact Rw S C h3
   |Attribute o a p=>exact Rv S C h3
   |_=>cases h3
  ·cases h3
 |Set es k p =>
  have h2:BR c es k=some m:=h;unfold BR at h2;split at h2
  ·rename_i hc;rw[aS] at hc;obtain rfl:=bt hc.2;split at h2
   ·cases h2;exact Sn C.mono (C.code hc.1)
   ·cases h2
  ·cases h2
 |ListComp elt gens sc p =>
  obtain⟨tg,it,ifs,t,mi,mc,me,cl,rfl,rfl,hit,Sc,q1,q2,q3,q4⟩:=Bn S C h;exact(Iz Sc C.calm q1 q2 q3 q4 (Y7 hit)).imp λZ H Q h=>IW C.mono Z H Q h
 |_=>cases h
theorem Kz:∀e m,stepT r c e=some m->PT X e (LT X.K Ξ (cI P m)):=by
 intro e m h;have plain:∀{e:Expr} {m:ME},(if BO e then(r.e c e).map ME.fy else none)=some m->PT X e (LT X.K Ξ (cI P m)):=λ{e m} h=>by
  split at h
  ·rename_i hp;obtain⟨ma,ha,rfl⟩:=aa.mp h;exact Qu C.mono (S.e X c Ξ C _ _ ha) (XC hp)
  ·cases h
 cases e with
 |UnaryOp op a p =>
  have h2:(if op=.Not then(r.t c a).map ME.eL else none)=some m:=h;split at h2
  ·rename_i ho;subst ho;obtain⟨ma,ha,rfl⟩:=aa.mp h2;exact Qr C.mono (S.t X c Ξ C _ _ ha)
  ·cases h2
 |BoolOp op vs p=>exact(Ky S C h).pt
 |Compare a ops bs p =>
  obtain⟨ma,ha,rfl⟩:=aa.mp (show(vx r c a ops bs).map ME.fy=some m from h);exact(Jn S C ha).2
 |_=>exact plain h
end
end M

namespace M
open PySem L2 PySem.Spec PyProof.Rows
section
variable{X:Cx}{c:d7}{P:fh}{Ξ:gB}
theorem IU{e:Expr}{m:ME}(h:Je e=some m):PE X e (LE X.K Ξ (aO P m))/\fE e=true:=by
 cases e<;>first|(cases h;done)|skip
 obtain⟨d,hd,rfl⟩:=aa.mp (show(qV _).map ME.lit=some m from h);exact⟨yT hd,rfl⟩
theorem WU(hP:f6 P):∀{es:List Expr} {m:ME},xE es=some m->PA X es (LA X.K Ξ (cZ P m)):=by
 intro es
 induction es with
 |nil=>intro m h;cases h;exact G0 hP
 |cons e es ih =>
  intro m h;unfold xE at h;obtain⟨m1,h1,h⟩:=ai.mp h;obtain⟨m2,h2,rfl⟩:=aa.mp h;exact A6 hP (IU h1).1 (ih h2) (k8 (IU (X:=X) (Ξ:=Ξ) (P:=P) h1).2)
theorem ZE(hP:f6 P){e:Expr}{m:ME}(h:Jd e=some m):PE X e (LE X.K Ξ (aO P m)):=by
 cases e<;>first|(cases h;done)|skip
 ·obtain⟨d,hd,rfl⟩:=aa.mp (show(qV _).map ME.lit=some m from h);exact yT hd
 ·obtain⟨ms,hm,rfl⟩:=aa.mp h;exact HV hP (WU hP hm)
theorem XZ{h:ExceptHandler}{q:Str×Expr}(hq:Cy h=some q):∃p p1 p2,h=.ExceptHandler (some (.Name q.1 p)) none [.Return (some q.2) p1] p2:=by
 unfold Cy at hq;split at hq
 ·cases hq;exact⟨_,_,_,rfl⟩
 ·cases hq
theorem ZD(C:gy X c P Ξ)(zG:vJ X Ξ.2):∀{hs:List ExceptHandler} {ms:List (Str×ME)},vE c hs=some ms->lB X Ξ P hs ms:=by
 intro hs
 induction hs with
 |nil=>intro ms h;cases h;exact .nil zG
 |cons hd hs ih =>
  intro ms h;unfold vE at h;obtain⟨q,hq,h'⟩:=ai.mp h;clear h;have h:=h';clear h';obtain⟨p,p1,p2,rfl⟩:=XZ hq;obtain⟨y,e⟩:=q;dsimp only at h ⊢;split at h
  ·rename_i hc;simp only[Bool.and_eq_true] at hc;obtain⟨m,h1,h⟩:=ai.mp h;obtain⟨DV,h2,rfl⟩:=aa.mp h;obtain⟨C',hm,hi,_⟩:=C.exc y hc.1.1;refine .cons (C.w5 hc.1.2) (K3 hc.2).1 hm (λx C1 hx h1=>C.As x y C1 C' ?_ hc.1.1 h1 hi) (λea=>ZE (X:=E0 X ea) C.mono h1) (ih h2);rw[C.xc] at hx;simpa using hx
  ·cases h
theorem YR{e f:Option Expr}{q:Str×Expr×List Expr}(h:AY e f=some q):f=none/\∃p p',e=some (.Call (.Name q.1 p) (q.2.1::q.2.2) [] p'):=by
 unfold AY at h;split at h
 ·cases h;exact⟨rfl,_,_,rfl⟩
 ·cases h
theorem Rc(C:gy X c P Ξ){f:Str}:Cv X.K f (c.yi f):=λy C' h hC=>by
 unfold d7.yi at h;obtain⟨⟨f',y'⟩,h1,h2⟩:=aQ.mp h;obtain⟨h3,h4⟩:=bj.mp h1;cases h2;have:f'=f:=by simpa using h4
 subst this;exact C.nz f' y' C' h3 hC
variable{r:CF}(S:pB P r)(C:gy X c P Ξ){pos:Pos}
include S C
theorem Vy{tg e:Expr}{m:MS}(hS:∀e m,r.e c e=some m->u7 e=false->∃elt gens sc p,e=.ListComp elt gens sc p/\∃r',pB P r'/\X9 r' c elt gens sc=some m)(hT:∀a b k p m,r.e c (.Tuple [a,b] k p)=some m->∃r' ms,pB P r'/\F7 r' c [a,b]=some ms/\m=.prim .tup ms)(h:Fz r c tg e=some m):PS X (.Assign [tg] e pos) (LS X.K Ξ (wpS P m)):=by
 cases tg with
 |Name x px =>
  have h2:(if c.v9 x then(c.idx x).bind λi=>(r.e c e).map λm=>MS.set i m else none)=some m:=h;split at h2
  ·rename_i hl;obtain⟨i,hi,h2⟩:=ai.mp h2;obtain⟨me,he,rfl⟩:=aa.mp h2;cases hn:u7 e with
   |true=>exact HZ C.mono (HS C.pX (C.qP hi) (C.v9 hl).1 (S.e X c Ξ C _ _ he) (T8 hn) (C.v9 hl).2)
   |false =>
    obtain⟨elt,gens,sc,p,rfl,r',S',hx⟩:=hS e me he hn;obtain⟨tg,it,ifs,t,mi,mc,me,cl,rfl,rfl,hit,Sc,q1,q2,q3,q4⟩:=Bn S' C hx;refine HZ C.mono ?_;exact(Zd Sc C.calm q1 q2 q3 q4 (Y7 hit) C.pX (C.qP hi) (C.v9 hl).1 (C.v9 hl).2).imp λN Z H h=>IW C.mono Z H _ h
  ·cases h2
 |Tuple es k pt =>
  have h0:((Cz es).elim (if(sJ e&&u7 e)||c.xw es e then(c.slots es).bind λis=>(r.e c e).map λm=>MS.kD (.many is) m else none) λq=>if u7 e&&fE q.2.1&&fE q.2.2.2 then(r.e c q.1).bind λm1=>(r.e c q.2.1).bind λn1=>(r.e c q.2.2.1).bind λm2=>(r.e c q.2.2.2).bind λn2=>(r.e c e).map λm=>MS.wt m1 n1 m2 n2 m else none)=some m:=h;cases hq:Cz es with
  |some q =>
   rw[hq] at h0;dsimp only[Option.elim] at h0;split at h0
   ·cases hq
   ·cases h0
  |none =>
  rw[hq] at h0;have h2:(if(sJ e&&u7 e)||c.xw es e then(c.slots es).bind λis=>(r.e c e).map λm=>MS.kD (.many is) m else none)=some m:=h0;split at h2
  ·rename_i hn;rw[cK,aS] at hn;obtain⟨is,hs,h2⟩:=ai.mp h2;obtain⟨me,he,rfl⟩:=aa.mp h2;rcases hn with hn|hn
   ·exact QA C.mono (HR (S.e X c Ξ C _ _ he) (II C.calm C.pX (C.slots hs)) (Hm hn.2) (ZT hn.1))
   ·unfold d7.xw at hn;split at hn
    ·rename_i x px y py a b k2 oy _;simp only[Bool.and_eq_true,decide_eq_true_eq,Bool.not_eq_true'] at hn;obtain⟨⟨⟨⟨⟨⟨⟨l1,l2⟩,dG⟩,hl⟩,oa⟩,ob⟩,f1⟩,f2⟩:=hn;obtain⟨r',ms,S',oO,rfl⟩:=hT _ _ _ _ _ he;have so:=C.slots hs;cases so with
     |cons hi _ _ so =>
     cases so with
     |cons hj _ _ so =>
     cases so;exact Qy C.mono C.calm C.pX hi hj dG hl (C.loc x l1) (C.loc y l2) oa ob f1 f2 (rD S' C oO)
    ·cases hn
  ·cases h2
 |Subscript o i pt =>
  have h2:(if fE i&&u7 e then(r.e c o).bind λmo=>(r.e c i).bind λmi=>(r.e c e).map λm=>MS.dY mo mi m else none)=some m:=h;split at h2
  ·rename_i hn;rw[aS] at hn;obtain⟨mo,ho,h2⟩:=ai.mp h2;obtain⟨mi,hi,h2⟩:=ai.mp h2;obtain⟨me,he,rfl⟩:=aa.mp h2;exact a02 C.mono C.units (S.e X c Ξ C _ _ he) (S.e X c Ξ C _ _ ho) (S.e X c Ξ C _ _ hi) (Hm hn.2) (Rz hn.1)
  ·cases h2
 |Attribute o f pt =>
  have h2:(if u7 e then(r.e c o).bind λmo=>(r.e c e).map λm=>MS.gJ f (c.yi f) mo m else none)=some m:=h;split at h2
  ·rename_i hn;obtain⟨mo,ho,h2⟩:=ai.mp h2;obtain⟨me,he,rfl⟩:=aa.mp h2;exact SE C.mono (Rc C) (S.e X c Ξ C _ _ ho) (S.e X c Ξ C _ _ he) (T8 hn)
  ·cases h2
 |_=>cases h
theorem KA(hS:∀e m,r.e c e=some m->u7 e=false->∃elt gens sc p,e=.ListComp elt gens sc p/\∃r',pB P r'/\X9 r' c elt gens sc=some m)(hT:∀a b k p m,r.e c (.Tuple [a,b] k p)=some m->∃r' ms,pB P r'/\F7 r' c [a,b]=some ms/\m=.prim .tup ms) :
  ∀st m,Jv r c st=some m->PS X st (LS X.K Ξ (wpS P m)):=by
 intro st m h;have hP:=C.mono;cases st with
 |AugAssign tg op e p =>
  cases tg with
  |Name x tp =>
   have h2:(if c.v9 x then(FO op).bind λp=>(c.idx x).bind λi=>(r.e c e).map λm=>MS.jZ i p m else none)=some m:=h;split at h2
   ·rename_i hl;obtain⟨p,hp,h2⟩:=ai.mp h2;obtain⟨i,hi,h2⟩:=ai.mp h2;obtain⟨me,he,rfl⟩:=aa.mp h2;refine SA C.mono ?_ C.pX (C.qP hi) (C.v9 hl).1 (C.v9 hl).2 (S.e X c Ξ C _ _ he);cases op<;>first|(cases hp;done)|skip
    ·cases hp;exact .inl ⟨rfl,rfl⟩
    ·cases hp;exact .inr ⟨rfl,rfl⟩
   ·cases h2
  |_=>cases h
 |Expr e p =>
  have h2:(if u7 e then(r.e c e).map MS.expr else none)=some m:=h;split at h2
  ·rename_i hn;obtain⟨me,he,rfl⟩:=aa.mp h2;exact SD hP (S.e X c Ξ C _ _ he) (T8 hn)
  ·cases h2
 |Assign yI e p =>
  rcases yI with _|⟨tg,_|⟨_,_⟩⟩
  ·cases h
  ·exact Vy S C hS hT h
  ·cases h
 |If t a b p =>
  obtain⟨mt,ht,h⟩:=ai.mp h;obtain⟨ma,ha,h⟩:=ai.mp h;obtain⟨mb,hb,rfl⟩:=aa.mp h;exact NC hP (S.t X c Ξ C _ _ ht) (su S C ha) (su S C hb)
 |For tg it body nV p =>
  have h2:(if c.lO&&(nV.isEmpty&&fE it) then(c.tg tg).bind λt=>(vF r c tg it).bind λmi=>(s9 r c body).map λmb=>MS.de t mi mb else none)=some m:=h;split at h2
  ·rename_i hc;rw[aS,aS] at hc;cases nV<;>first|(cases hc.2.1;done)|skip
   obtain⟨t,h1,h2⟩:=ai.mp h2;obtain⟨mi,h3,h2⟩:=ai.mp h2;obtain⟨mb,h4,rfl⟩:=aa.mp h2;exact Qx hP (C.own hc.1) C.calm (DT S C h3) (C.FH h1) (su S C h4) (Y7 hc.2.2)
  ·cases h2
 |While t body nV p =>
  have h2:(if c.lO&&nV.isEmpty then(r.t c t).bind λmt=>(s9 r c body).map λmb=>MS.jK mt mb else none)=some m:=h;split at h2
  ·rename_i hc;rw[aS] at hc;cases nV<;>first|(cases hc.2;done)|skip
   obtain⟨mt,h1,h2⟩:=ai.mp h2;obtain⟨mb,h4,rfl⟩:=aa.mp h2;exact a01 hP (C.own hc.1) (S.t X c Ξ C _ _ h1) (su S C h4)
  ·cases h2
 |Return e p =>
  cases e with
  |none=>cases h;exact(RV (X:=X)).imp λN bU H ⟨Z,g,ρ,s,R,h⟩=>LQ.now h R .bC
  |some e =>
   obtain⟨me,he,rfl⟩:=aa.mp (show(r.e c e).map (λm=>MS.ret (toR c e m))=some m from h);refine HY hP ?_;exact S.e X c Ξ C _ _ he
 |Raise e f p =>
  obtain⟨q,hq,h2⟩:=ai.mp h;clear h;obtain⟨rfl,px,p2,rfl⟩:=YR hq;obtain⟨x,e,es⟩:=q;dsimp only at h2 ⊢;split at h2
  ·rename_i hc;simp only[Bool.and_eq_true] at hc;obtain⟨ma,ha,rfl⟩:=aa.mp h2;have ok:=Br ha;obtain⟨C',hm,hi,B,nI,iI,bm,O,FB⟩:=C.exc x hc.1.1.2;exact a03 hP C.calm O FB (C.w5 hc.1.2) (rD S C ha) (C.jr hc.1.1.1) (by rw[C.xc];simpa using hc.1.1.2) hi (k8 (ok e (by simp))) (Y3 λz hz=>ok z (by simp[hz])) (K3 hc.2).1
  ·cases h2
 |Try body hs el fi p =>
  have h2:(if c.iW&&!hs.isEmpty&&el.isEmpty&&fi.isEmpty then(s9 r { c with jr:=false,iW:=false } body).bind λmb=>(vE c hs).map λms=>MS.Y2 mb ms else none)=some m:=h;split at h2
  ·rename_i hc;simp only[Bool.and_eq_true] at hc;obtain⟨⟨⟨ht,hh⟩,he⟩,hf⟩:=hc;cases el<;>first|(cases he;done)|skip
   cases fi<;>first|(cases hf;done)|skip
   cases hs<;>first|(cases hh;done)|skip
   obtain⟨mb,h1,h2⟩:=ai.mp h2;obtain⟨ms,h3,rfl⟩:=aa.mp h2;obtain⟨dE,hf,zG⟩:=C.iW ht;exact Qz hP dE hf (λpins D=>su S (C.Y2 dE hf pins D _) h1) (ZD C zG h3)
  ·cases h2
 |Pass p=>cases h;exact(RU (X:=X)).imp λN bU H ⟨Z,g,ρ,s,R,h⟩=>h ρ H bU (.refl _ _) R s
 |_=>cases h
end
theorem YV{n:Nat}{c:d7}{e:Expr}{m:ME}(h:(comp (n+1)).e c e=some m)(hn:u7 e=false):∃elt gens sc p,e=.ListComp elt gens sc p/\X9 (comp n) c elt gens sc=some m:=by
 cases e<;>first|(cases hn;done)|(cases h;done)|exact⟨_,_,_,_,rfl,h⟩
theorem snd{P:fh}:∀n,(∀k,k<=n->pB P (comp k)):=by
 intro n
 induction n with
 |zero =>
  intro k hk;obtain rfl:=Nat.le_zero.mp hk;exact⟨λ_ _ _ _ _ _ h=>(by cases h),λ_ _ _ _ _ _ h=>(by cases h),λ_ _ _ _ _ _ h=>(by cases h)⟩
 |succ n ih =>
  intro k hk;rcases cQ k (n+1) with dC|hge
  ·exact ih k (by omega)
  obtain rfl:k=n+1:=by omega
  have I:=ih n (aw n);refine⟨λX c Ξ C e m h=>KG I C e m h,λX c Ξ C e m h=>Kz I C e m h,λX c Ξ C st m h=>KA I C (λe m he hn=>?_) (λa b k p m he=>?_) st m h⟩
  ·cases n with
   |zero=>cases he
   |succ n =>
    obtain⟨elt,gens,sc,p,rfl,hx⟩:=YV he hn;exact⟨_,_,_,_,rfl,comp n,ih n (by omega),hx⟩
  ·cases n with
   |zero=>cases he
   |succ n =>
    obtain⟨ms,hm,rfl⟩:=aa.mp (show(F7 (comp n) c [a,b]).map (ME.prim .tup)=some m from he);exact⟨comp n,ms,ih n (by omega),hm,rfl⟩
end M

namespace M
open PySem L2 PySem.Spec PyProof.Rows
structure oi where
 nm:Str
 qn:Str
 N:List Str
 ps:List Str
 st:Stmt
def d7.at(c:d7)(d:oi):d7:={ c with N:=d.N,nm:=(n5 d.st).names,lO:=true,jr:=true,iW:=true }
structure jm(K:PySem.W.Frag)(c:d7)(d:oi)(m:ba)(f:Addr)(fd:FuncData):Prop where
 fn:pC K d.nm d.qn d.st f fd
 bi:Binds K fd d.ps []
 sc:ij d.N d.ps (n5 d.st)
 co:s9 (comp 60) (c.at d) (n6 d.st)=some m.body
 ar:m.ar=d.ps.length
 nn:m.n=d.N.length
structure mX(w:World)(K:PySem.W.Frag)(mg:Str->Option Value)(c:d7)(T:Nat->Option ba):Prop where
 fns:∀x i,c.fns.lookup x=some i->∃d m f fd,T i=some m/\jm K c d m f fd/\mg x=some (.ref f)
 cls:∀x i,c.cls.lookup x=some i->∃C d m f fd,T i=some m/\jm K c d m f fd/\mg x=some (.ref C)/\p0 K x C/\jE K C/\Mk K C f
 oA:∀x y i C,(x,y,i)∈c.oA->p0 K y C->∃d m f fd,T i=some m/\jm K c d m f fd/\Meth K C x f
 nz:∀f y C,(f,y)∈c.nz->p0 K y C->B1 K C f
 con:∀x d,c.con.lookup x=some d->∃v u,mg x=some u/\RelV v u/\∀ρ H,d5 K ρ H d v
 blt:∀x,c.blt.contains x=true->mg x=none
 Au:∀x,c.exc.contains x=true->∃C,mg x=some (.ref C)/\p0 K x C/\∀base:Heap,K.In base->base.Ns mainGlobals mg->∃B newId fY bm,OwnCls x C bm newId mg base/\ExcBaseFacts B newId fY bm
 Ar:∀x y C C',c.exc.contains x=true->c.exc.contains y=true->p0 K x C->p0 K y C'->PySem.W.exmOne K (.ref C) (.ref C')=some (decide (x=y\/y="MintError"))
 qx:∀x kvs,c.gd.lookup x=some kvs->∃A vs,mg x=some (.ref A)/\vB K w.params A vs/\ph K kvs vs
section
variable{Pg:Program}{w:World}{K:PySem.W.Frag}{mg:Str->Option Value}{base:Heap}{c:d7}{T:Nat->Option ba}
theorem Ox{K:PySem.W.Frag}{cd:Value}{q:Str}(h:PySem.W.codeIn K cd q=true):PySem.W.kdsCode K cd=true:=by
 unfold PySem.W.codeIn at h;unfold PySem.W.kdsCode;split at h
 ·dsimp only;split at h
  ·rename_i e;rw[e]
  ·cases h
 ·cases h
theorem RH{N:List Str}{qual:Str}{scope:Scope}{f:Addr}{cd:Value}{A:Around}{outer:List Env}{s:Shared}{H:Hp}{E:XK}:Passes (iO Pg w) (nZ (iO Pg w) Pg w K mg base N qual scope f cd A outer s H E) E:=λpins Z H1 s1 e s' I h=>by
 obtain⟨C,H',J,fl,hE⟩:=I.flew h;exact Zr J fl (λb o q=>I.base.there b o q (by intro z;cases z)) rfl rfl rfl hE
theorem a18{N:List Str}{qual:Str}{scope:Scope}{f:Addr}{cd:Value}{A:Around}{outer:List Env}{s:Shared}{H:Hp}{E:XK}:xP (nZ (iO Pg w) Pg w K mg base N qual scope f cd A outer s H E) E:=λpins Z H1 s1 h' ea C vs I hm hE =>
 Ym I hm rfl rfl rfl hE
theorem Rf{N:List Str}{qual:Str}{scope:Scope}{f:Addr}{cd:Value}{A:Around}{outer:List Env}{s:Shared}{H:Hp}{E:XK}:vJ (nZ (iO Pg w) Pg w K mg base N qual scope f cd A outer s H E) E:=λpins Z H1 H2 s1 s2 B ea C a0 I l hh hE =>
 leave_held I l hh rfl rfl rfl hE
theorem Bb{k i:Nat}{m:ba}(hT:T i=some m){ds:List D}{g:G}{Q:KD}{E:KX}(h:c5 T k i ds g Q E):ds.length=m.ar:=by
 cases k with
 |zero=>exact h.elim
 |succ k =>
  obtain⟨m',e,h,_⟩:=h;rw[hT] at e;cases e;exact h
theorem Oa(nk:K.In base)(uY:base.Ns mainGlobals mg)(A:mX w K mg c T):∀(k i:Nat) d m f fd,T i=some m->jm K c d m f fd->hV Pg w K mg base (iO Pg w) (2*k) f fd d.ps (ox c.exc K d.ps.length (c5 T k i)):=by
 intro k
 induction k with
 |zero =>
  intro i d m f fd hm O;refine⟨λvs H Q E h=>h.1,λA outer s H args us vs Q E _ _ _ _ h=>?_⟩;obtain⟨_,_,_,_,_,_,q⟩:=h;exact q.elim
 |succ k ih =>
  intro i d m f fd hm O;obtain⟨oc,od,kV,doc,pm,an,fu,ct,lL,rfl,lk,lq⟩:=O.fn.ex;refine Vc (k:=2*k+1) lk lq O.sc (λvs H Q E h=>h.1) (λA0 outer s H vs Q E hr h=>?_);obtain⟨hl,xs,g,ρ,rs,R,q⟩:=h;have C:gy (nZ (iO Pg w) Pg w K mg base d.N d.qn (n5 d.st) f fu A0 outer s H E) (c.at d) (c5 T k) (c.exc,E):=by
   refine⟨rfl,O.sc.nd,λx h=>h,λx h=>h,λx h=>.inr h,λx h=>h,λx h=>?_,λ_ _=>rfl,rfl,?_,(λ_=>PassesOwn.leaving),a8 T k,A.con,A.blt,λx j hj=>?_,λx j hj=>?_,λx y j C' hj hC=>?_,A.nz,rfl,RH,λ_=>a18,λ_=>⟨rfl,rfl,Rf⟩,λx hx=>?_,A.Ar,A.qx,λ_=>Ox lq⟩
   ·rcases h with h|h
    ·exact Bq h
    ·exact absurd rfl (O.sc.ml _ (aP h))
   ·have:=hr.un;show(A0.deeper _).units+100<cLine;omega
   ·obtain⟨d',m',f',oY,hT,O',hmg⟩:=A.fns x j hj;exact⟨2*k,f',oY,d'.ps,⟨ih j d' m' f' oY hT O',O'.bi,λFj g' Q' E' h'=>(Bb hT h').trans O'.ar⟩,hr.mono (by omega),hmg,O'.fn.kp⟩
   ·obtain⟨C',d',m',f',oY,hT,O',hmg,hC,jD,M⟩:=A.cls x j hj;exact⟨2*k,C',f',oY,d'.ps,⟨ih j d' m' f' oY hT O',O'.bi,λFj g' Q' E' h'=>(Bb hT h').trans O'.ar⟩,hr,hmg,hC,jD,M⟩
   ·obtain⟨d',m',f',oY,hT,O',M⟩:=A.oA x y j C' hj hC;exact⟨2*k,f',oY,d'.ps,M,⟨ih j d' m' f' oY hT O',O'.bi,λFj g' Q' E' h'=>(Bb hT h').trans O'.ar⟩,hr.mono (by omega)⟩
   ·obtain⟨C,h1,h2,h3⟩:=A.Au x hx;exact⟨C,h1,h2,h3 base nk uY⟩
  refine⟨_,su (snd (P:=c5 T k) 60 60 (aw _)) C O.co,?_⟩;obtain⟨m',e,q1,q⟩:=q;rw[hm] at e;cases e;refine⟨c6 m xs,g,ρ,?_,R,wpS_mono (a8 T k) m.body ⟨λ_ g'=>LQ K ρ H Q .bC g',LQ K ρ H Q,λ_ _=>False,λ_ _=>False⟩ _ _ _ _ _ ⟨λZ g' h bG H' cT e R' s'=>h bG H' _ e R' .bC,λd g' h=>h,λ_ _ h=>h.elim,λ_ _ h=>h.elim⟩ (λ_ _ z=>z) q⟩;have:=m8.start (n:=d.N.length) rs;unfold c6 L2.start;rw[O.nn];exact this
theorem OC{L k0:Nat}{H:Hp}{a:Addr}{ns:List Int}(hO:yh H)(hS:fB K H a (ns.map V.int))(h:c5 T k0 L [.ref 0] [.nT (ns.map .int)] (λd _=>d=.bl true) iL) :
  ox exc K 1 (c5 T k0 L) [.ref a] H (λv _=>v=.bl true) λ_ _ _=>False:=by
 refine⟨rfl,[.ref 0],[.nT (ns.map .int)],[a],.cons (.ref rfl) .nil,⟨rfl,λi o b h1 h2=>?_,λi j l m b h1 h2 m1=>?_⟩,a8 T k0 _ _ _ _ _ _ _ (λd g' e bG H' v _ _ r=>?_) (λ_ _ z=>z.elim) h⟩
 ·cases i with
  |zero =>
   cases h1;cases h2;refine⟨_,?_,b9.ofInts ns⟩;rcases hS with(z|⟨o,z⟩)|z
   ·rcases hO a with q|⟨o,xs,q⟩
    ·rw[z] at q;cases q
    ·rw[z] at q;cases q
   ·exact .inl ⟨o,z⟩
   ·exact .inr z
  |succ i=>simp at h1
 ·cases i with
  |zero=>cases h1;cases m1
  |succ i=>simp at h1
 ·subst e;cases r
  rfl
end
end M

namespace M
open PySem L2
section
variable{P:fh}{Z:S}{g:G}{Q:KD}{E:KX}{N:Ends}{a b c o:ME}{x y:MS}{p:Pr}
theorem E6(h:N.nx Z g):wpS P .pass N Z g E:=h
theorem Y1(h:wpS P x ⟨λhZ g1=>wpS P y N hZ g1 E,N.rt,N.bk,N.ct⟩ Z g E):wpS P (.seq x y) N Z g E:=h
theorem Q4(h:wpS P x N Z g E):wpS P (.seq x .pass) N Z g E:=h
theorem QL(h:aO P a Z g (λ_ g1=>N.nx Z g1) E):wpS P (.expr a) N Z g E:=h
theorem sO{i:Nat}(h:aO P a Z g (λx g1=>N.nx (Z.set i (some x)) g1) E):wpS P (.set i a) N Z g E:=h
theorem NX{t:MT}(h:aO P a Z g (λx g1=>jb t x Z λhZ=>N.nx hZ g1) E):wpS P (.kD t a) N Z g E:=h
theorem IM{o i:ME}(h:aO P a Z g (λx g1=>aO P o Z g1 (λy g2=>aO P i Z g2 (λz g3=>U9 y z x g3 λg4=>N.nx Z g4) E) E) E):wpS P (.dY o i a) N Z g E:=h
theorem QP{f:Str}{cs:List Str}(h:aO P a Z g (λx g1=>aO P o Z g1 (λy g2=>vI f cs y x g2 λg3=>N.nx Z g3) E) E):wpS P (.gJ f cs o a) N Z g E:=h
theorem Cq(h:cI P c Z g (λt g1=>if t=true then wpS P x N Z g1 E else wpS P y N Z g1 E) E):wpS P (.ifs c x y) N Z g E:=h
theorem Cr(h:aO P a Z g N.rt E):wpS P (.ret a) N Z g E:=h
theorem SH{x:Str}(h:cZ P a Z g (λvs g1=>vs.length<=1000/\E ⟨x⟩ g1) E):wpS P (.raise x a) N Z g E:=h
theorem NW{hs:List (Str×ME)}(h:wpS P x N Z g (ni P N (Z.map λ_=>none) E hs)):wpS P (.Y2 x hs) N Z g E:=h
theorem Vf{x:Xn}{y:Str}{e:ME}{r:List (Str×ME)}(hx:x.cls=y)(h:aO P e Z g N.rt iL):ni P N Z E ((y,e)::r) x g:=by unfold ni;rw[aK (.inl hx)];exact h
theorem w_var{i:Nat}{d:D}(e:Z[i]?=some (some d))(h:Q d g):aO P (.var i) Z g Q E:=by simp only[aO];exact⟨d,e,h⟩
theorem w_lit{d:D}(h:Q d g):aO P (.lit d) Z g Q E:=h
theorem QO(h:cZ P a Z g (λxs g1=>cG p xs g1 Q) E):aO P (.prim p a) Z g Q E:=h
theorem UH(h:cG p [] g Q):aO P (.prim p .nil) Z g Q E:=by rw[aO,cZ];exact h
theorem vt(h:aO P a Z g (λx g1=>cG p [x] g1 Q) E):aO P (.prim p (.cons a .nil)) Z g Q E:=by simp only[aO,cZ];exact h
theorem vw(h:aO P a Z g (λx g1=>aO P b Z g1 (λy g2=>cG p [x,y] g2 Q) E) E):aO P (.prim p (.cons a (.cons b .nil))) Z g Q E:=by simp only[aO,cZ];exact h
theorem SG{o1 o2:CmpOp}(h:aO P a Z g (λx g1=>aO P b Z g1 (λy g2=>cG (.cmp o1) [x,y] g2 λz g3=>∃t,z=.bl t/\if t=true then aO P c Z g3 (λw g4=>cG (.cmp o2) [y,w] g4 Q) E else Q (.bl false) g3) E) E):aO P (.chain o1 o2 a b c) Z g Q E:=h
theorem w_and(h:aO P a Z g (λx g1=>∃t,x=.bl t/\if t=true then aO P b Z g1 Q E else Q (.bl false) g1) E):aO P (.dy a b) Z g Q E:=h
theorem w_or(h:aO P a Z g (λx g1=>∃t,x=.bl t/\if t=true then Q (.bl true) g1 else aO P b Z g1 Q E) E):aO P (.jt a b) Z g Q E:=h
theorem w_not(h:aO P a Z g (λx g1=>∃t,x=.bl t/\Q (.bl (!t)) g1) E):aO P (.eL a) Z g Q E:=h
theorem w_ite(h:cI P c Z g (λt g1=>if t=true then aO P a Z g1 Q E else aO P b Z g1 Q E) E):aO P (.ite c a b) Z g Q E:=h
theorem xO{f:Nat}(h:cZ P a Z g (λxs g1=>P f xs g1 Q E) E):aO P (.call f a) Z g Q E:=h
theorem QM{f:Nat}{c:Str}(h:cZ P a Z g (λxs g1=>P f (.ref g1.length::xs) (g1++[.ins c []]) (λd g2=>d=.bC/\Q (.ref g1.length) g2) E) E):aO P (.make c f a) Z g Q E:=h
theorem QN(h:aO P o Z g (λx g1=>lN p x g1/\cZ P a Z g1 (λxs g2=>cG p (x::xs) g2 Q) E) E):aO P (.eE p o a) Z g Q E:=h
theorem xA{Q:List D->G->Prop}(h:Q [] g):cZ P .nil Z g Q E:=h
theorem Q5{Q:List D->G->Prop}(h:aO P a Z g (λx g1=>cZ P b Z g1 (λxs g2=>Q (x::xs) g2) E) E):cZ P (.cons a b) Z g Q E:=h
theorem QQ{Q:Bool->G->Prop}(h:cI P a Z g (λt g1=>if t=true then cI P b Z g1 Q E else Q false g1) E):cI P (.dy a b) Z g Q E:=h
theorem NV{Q:Bool->G->Prop}(h:cI P a Z g (λt g1=>if t=true then Q true g1 else cI P b Z g1 Q E) E):cI P (.jt a b) Z g Q E:=h
theorem QR{Q:Bool->G->Prop}(h:cI P a Z g (λt g1=>Q (!t) g1) E):cI P (.eL a) Z g Q E:=h
theorem xB{Q:Bool->G->Prop}(h:Q true g):cI P .no Z g Q E:=h
theorem Cs{Q:Bool->G->Prop}(h:aO P a Z g (λx g1=>pz g1 x λb=>Q b g1) E):cI P (.fy a) Z g Q E:=h
end
section
variable{g:G}{Q:KD}{i j:Int}{kb:Bool->Prop}{t s:Bool}{l m:List D}
theorem UJ(h:Q (.int (i+j)) g):cG (.bin .Add) [.int i,.int j] g Q:=⟨_,_,.inl ⟨i,j,_,rfl,rfl,rfl,rfl⟩,h⟩
theorem UK(h:Q (.int (i-j)) g):cG (.bin .Sub) [.int i,.int j] g Q:=⟨_,_,.inl ⟨i,j,_,rfl,rfl,rfl,rfl⟩,h⟩
theorem P2(c:qL i j)(h:Q (.int (i*j)) g):cG (.bin .Mult) [.int i,.int j] g Q:=⟨_,_,.inl ⟨i,j,_,rfl,⟨c,rfl⟩,rfl,rfl⟩,h⟩
theorem P4(c:0<j)(h:Q (.int (i % j)) g):cG (.bin .Mod) [.int i,.int j] g Q:=⟨_,_,.inl ⟨i,j,_,rfl,⟨c,rfl⟩,rfl,rfl⟩,h⟩
theorem xk(c:CM i j)(h:Q (.int (i / j)) g):cG (.bin .FloorDiv) [.int i,.int j] g Q:=⟨_,_,.inl ⟨i,j,_,rfl,⟨c,rfl⟩,rfl,rfl⟩,h⟩
theorem NZ(h1:0<j)(h2:j<1073741824)(h:Q (.int (i / j)) g):cG (.bin .FloorDiv) [.int i,.int j] g Q:=xk ⟨h1,h2⟩ h
theorem BW(c:nW i j)(h:Q (.int (i ^ j.toNat)) g):cG (.bin .Pow) [.int i,.int j] g Q:=⟨_,_,.inl ⟨i,j,_,rfl,⟨c,rfl⟩,rfl,rfl⟩,h⟩
theorem xl{i j:Nat}(hi:g[i]?=some (.lst l))(hj:g[j]?=some (.lst m))(hl:l.length+m.length<=100000)(h:Q (.ref g.length) (g++[.lst (l++m)])):cG (.bin .Add) [.ref i,.ref j] g Q:=⟨_,_,.inr (.inl ⟨rfl,.inr (.inl ⟨i,j,l,m,rfl,hi,hj,hl,rfl,rfl⟩)⟩),h⟩
theorem NT(h:Q (.int (-i)) g):cG (.un .USub) [.int i] g Q:=⟨_,_,⟨rfl,i,rfl,rfl,rfl⟩,h⟩
theorem T3{op:CmpOp}{x y:D}{b:Bool}(hb:Fq g x y b op)(h:Q (.bl b) g):cG (.cmp op) [x,y] g Q:=⟨_,_,⟨x,y,b,rfl,hb,rfl,rfl⟩,h⟩
theorem Te(h:Q (.bl (decide (i<j))) g):cG (.cmp .Lt) [.int i,.int j] g Q:=T3 ⟨i,j,rfl,rfl,rfl⟩ h
theorem Td(h:Q (.bl (decide (i<=j))) g):cG (.cmp .LtE) [.int i,.int j] g Q:=T3 ⟨i,j,rfl,rfl,rfl⟩ h
theorem Tc(h:Q (.bl (decide (j<i))) g):cG (.cmp .Gt) [.int i,.int j] g Q:=T3 ⟨i,j,rfl,rfl,rfl⟩ h
theorem Tb(h:Q (.bl (decide (j<=i))) g):cG (.cmp .GtE) [.int i,.int j] g Q:=T3 ⟨i,j,rfl,rfl,rfl⟩ h
theorem CT{x y:D}(h:rX g x y λb=>Q (.bl b) g):cG (.cmp .Eq) [x,y] g Q:=let ⟨_,hb,h⟩:=h;T3 hb h
theorem CU{x y:D}(h:rX g x y λb=>Q (.bl (!b)) g):cG (.cmp .NotEq) [x,y] g Q:=let ⟨b,hb,h⟩:=h;T3 (b:=!b) (show ve g x y (!(!b)) from by rw[sY];exact hb) h
theorem sk{x y:D}(h:pZ g x y λb=>Q (.bl b) g):cG (.cmp .In) [x,y] g Q:=let ⟨_,hb,h⟩:=h;T3 (.inl hb) h
theorem UR{a n:Nat}{S:Int->Bool}(hg:g[a]?=some (.set S n))(h:Q (.bl (S i)) g):cG (.cmp .In) [.int i,.ref a] g Q:=T3 (.inr ⟨a,S,n,i,rfl,hg,rfl,rfl⟩) h
theorem sA{x y:D}(h:pZ g x y λb=>Q (.bl (!b)) g):cG (.cmp .NotIn) [x,y] g Q:=let ⟨b,hb,h⟩:=h;T3 (b:=!b) (.inl (show inR g x y (!(!b)) from by rw[sY];exact hb)) h
theorem Jp(h:kb (decide (i=j))):rX g (.int i) (.int j) kb:=⟨_,.inl ⟨i,j,rfl,rfl,rfl⟩,h⟩
theorem Fy(h:kb (t==s)):rX g (.bl t) (.bl s) kb:=⟨_,.inr (.inl ⟨t,s,rfl,rfl,rfl⟩),h⟩
theorem VT{x y:Str}(h:kb (decide (x=y))):rX g (.str x) (.str y) kb:=⟨_,.inr (.inr (.inl ⟨x,y,rfl,rfl,rfl⟩)),h⟩
theorem UN(h:Q (.bl (decide (i=j))) g):cG (.cmp .Eq) [.int i,.int j] g Q:=CT (Jp h)
theorem FP(h:Q (.bl (!decide (i=j))) g):cG (.cmp .NotEq) [.int i,.int j] g Q:=CU (Jp h)
theorem UM(h:Q (.bl (t==s)) g):cG (.cmp .Eq) [.bl t,.bl s] g Q:=CT (Fy h)
theorem UZ(h:Q (.bl (!(t==s))) g):cG (.cmp .NotEq) [.bl t,.bl s] g Q:=CU (Fy h)
theorem UO{p q:Str}(h:Q (.bl (decide (p=q))) g):cG (.cmp .Eq) [.str p,.str q] g Q:=CT (VT h)
theorem qO{d:D}(h:Q (.bl (M7 d)) g):cG (.cmp .Is) [d,.bC] g Q:=T3 ⟨rfl,rfl⟩ h
theorem Ca{d:D}(h:Q (.bl (!M7 d)) g):cG (.cmp .IsNot) [d,.bC] g Q:=T3 ⟨rfl,rfl⟩ h
theorem US(h:Q (.bl true) g):cG (.cmp .Is) [.bC,.bC] g Q:=qO h
theorem UU(h:Q (.bl false) g):cG (.cmp .Is) [.int i,.bC] g Q:=qO h
theorem UT(h:Q (.bl false) g):cG (.cmp .Is) [.bl t,.bC] g Q:=qO h
theorem UX{x:Str}(h:Q (.bl false) g):cG (.cmp .Is) [.str x,.bC] g Q:=qO h
theorem UY(h:Q (.bl false) g):cG (.cmp .Is) [.tup l,.bC] g Q:=qO h
theorem UW{n:Nat}(h:Q (.bl false) g):cG (.cmp .Is) [.ref n,.bC] g Q:=qO h
theorem UP(h:Q (.bl false) g):cG (.cmp .IsNot) [.bC,.bC] g Q:=Ca h
theorem UQ{n:Nat}(h:Q (.bl true) g):cG (.cmp .IsNot) [.ref n,.bC] g Q:=Ca h
theorem UD(h:kb t):pz g (.bl t) kb:=⟨t,.inr (.inl rfl),h⟩
theorem NN(h:kb (i != 0)):pz g (.int i) kb:=⟨_,.inr (.inr (.inl ⟨i,rfl,rfl⟩)),h⟩
theorem Ba{t:Bool}{p:Bool->Prop}(h:p t):∃s,D.bl t=D.bl s/\p s:=⟨t,rfl,h⟩
theorem Oo{p:Int->Prop}(h:p i):∃s,D.int i=D.int s/\p s:=⟨i,rfl,h⟩
theorem if2{c:Prop}[Decidable c]{A B:Prop}(h1:c->A)(h2:¬c->B):if decide c=true then A else B:=by
 by_cases h:c
 ·rw[aK (aA h)];exact h1 h
 ·rw[aC (by rw[az h];decide)];exact h2 h
theorem kZ{A B:Prop}(h:A):if true=true then A else B:=by rw[aK rfl];exact h
theorem pq{A B:Prop}(h:B):if false=true then A else B:=by rw[aC (by decide)];exact h
theorem Fu{A B:Prop}(h:A):if(!false)=true then A else B:=by rw[aK (show(!false)=true from rfl)];exact h
theorem Ts{A B:Prop}(h:B):if(!true)=true then A else B:=by rw[aC (by decide)];exact h
theorem fK{b:Bool}{A B:Prop}(hb:b=false)(h:B):if b=true then A else B:=by rw[hb];exact pq h
theorem hJ{b:Bool}{A B:Prop}(hb:b=true)(h:A):if b=true then A else B:=by rw[hb];exact kZ h
theorem m7{a:Nat}{d:D}(hl:c7 g a=some l)(h2:fL l i=some d)(h:Q d g):cG .ix [.ref a,.int i] g Q:=⟨_,_,⟨rfl,.inl ⟨_,l,i,rfl,hl,h2⟩⟩,h⟩
theorem q9{d:D}(h2:fL l i=some d)(h:Q d g):cG .ix [.tup l,.int i] g Q:=⟨_,_,⟨rfl,.inl ⟨_,l,i,rfl,rfl,h2⟩⟩,h⟩
theorem yk{i:Nat}{kvs:List (Key×D)}{y v:D}{k:Key}(hg:g[i]?=some (.dN kvs))(hk:V6 y=some k)(hv:p6 kvs k=some v)(h:Q v g):cG .ix [.ref i,y] g Q:=⟨_,_,⟨rfl,.inr (.inl ⟨i,kvs,y,k,rfl,hg,hk,hv⟩)⟩,h⟩
theorem T6{a n:Nat}{v:D}{kg:G->Prop}(hl:g[a]?=some (.lst l))(hn:kr l.length i=some n)(h:kg (g.set a (.lst (l.set n v)))):U9 (.ref a) (.int i) v g kg:=⟨_,.inl ⟨a,i,l,n,rfl,rfl,hl,hn,rfl⟩,h⟩
theorem Jr{i:Nat}{kvs:List (Key×D)}{y v:D}{k:Key}{kg:G->Prop}(hg:g[i]?=some (.dN kvs))(hk:V6 y=some k)(hl:kvs.length<100000)(h:kg (g.set i (.dN (putD kvs k v)))):U9 (.ref i) y v g kg:=⟨_,.inr ⟨i,kvs,k,rfl,hg,hk,hl,rfl⟩,h⟩
theorem Y4{f c:Str}{cs:List Str}{a:Nat}{fs:List (Str×D)}{v:D}{kg:G->Prop}(hg:g[a]?=some (.ins c fs))(hc:c∈cs)(hl:fs.length<100)(h:kg (g.set a (.ins c (j6 f v fs)))):vI f cs (.ref a) v g kg:=⟨_,⟨a,c,fs,rfl,hg,hc,hl,rfl⟩,h⟩
theorem S7{f c:Str}{a:Nat}{fs:List (Str×D)}{d:D}(hg:g[a]?=some (.ins c fs))(hf:fs.lookup f=some d)(h:Q d g):cG (.fld f) [.ref a] g Q:=⟨_,_,⟨a,c,fs,rfl,hg,hf,rfl⟩,h⟩
theorem a7{a:Nat}(h:g[a]?=some (.lst l)):c7 g a=some l:=by simp only[c7,h,CG]
theorem Xe{a:Nat}(h:g[a]?=some (.nT l)):c7 g a=some l:=by simp only[c7,h,CG]
theorem F6{a:Nat}(hl:c7 g a=some l)(h:Q (.int l.length) g):cG .len [.ref a] g Q:=⟨_,_,⟨rfl,.inl ⟨_,l,rfl,hl,rfl⟩⟩,h⟩
theorem Ql{a:Nat}(hl:c7 g a=some l)(h:Q (.ref g.length) (g++[.lst (cut l (some i) none)])):cG (.kY true false) [.ref a,.int i] g Q:=⟨_,_,⟨_,i,rfl,.inr ⟨a,l,rfl,hl,rfl,rfl⟩⟩,h⟩
theorem AL{a:Nat}(hl:c7 g a=some l)(h:Q (.ref g.length) (g++[.lst (cut l none (some i))])):cG (.kY false true) [.ref a,.int i] g Q:=⟨_,_,⟨_,i,rfl,.inr ⟨a,l,rfl,hl,rfl,rfl⟩⟩,h⟩
theorem Ck(hl:l.length<=1000)(h:Q (.tup l) g):cG .tup l g Q:=⟨_,_,⟨hl,rfl,rfl⟩,h⟩
theorem Cj(hl:l.length<=1000)(h:Q (.ref g.length) (g++[.lst l])):cG .lst l g Q:=⟨_,_,⟨hl,rfl,rfl⟩,h⟩
theorem Jm{a:Nat}(hl:c7 g a=some l)(h:Q (.ref g.length) (g++[.lst l])):cG .list [.ref a] g Q:=⟨_,_,⟨_,l,rfl,hl,rfl,rfl⟩,h⟩
theorem NR{a:Nat}(hl:c7 g a=some l)(h:Q (.tup l) g):cG .tuple [.ref a] g Q:=⟨_,_,⟨_,l,rfl,hl,rfl,rfl⟩,h⟩
theorem fW{d:D}{c:String}{b:Bool}(hc:c∈["int","bool","str","tuple","list"])(hb:qQ g d c=some b)(h:Q (.bl b) g):cG .isin [d,.ty c] g Q:=⟨_,_,⟨d,c,b,rfl,hc,hb,rfl,rfl⟩,h⟩
theorem O7{i:Nat}{y:D}(hg:g[i]?=some (.lst l))(hl:l.length<100000)(h:Q .bC (g.set i (.lst (l++[y])))):cG .append [.ref i,y] g Q:=⟨_,_,⟨i,y,l,rfl,hg,hl,rfl,rfl⟩,h⟩
theorem Vv{i j:Nat}{y:D}{n:Int}(hg:g[i]?=some (.lst l))(hn:n=j)(hj:l[j]?=some y)(hl:l.length<100000)(h:Q y (g.set i (.lst (l.eraseIdx j)))):cG .pop [.ref i,.int n] g Q:=by
 have dC:=(ao.mp hj).1;refine⟨_,_,⟨i,n,l,j,rfl,hg,by omega,by omega,?_,hj,rfl⟩,h⟩;rw[hn];exact PySem.StrLaws.seqIndex_nonneg (by omega) (by omega) |>.trans (by simp)
theorem Cf{i:Nat}{kvs:List (Key×D)}{y z:D}{k:Key}(hg:g[i]?=some (.dN kvs))(hk:V6 y=some k)(h:Q ((p6 kvs k).getD z) g):cG .get [.ref i,y,z] g Q:=⟨_,_,⟨i,y,z,kvs,k,rfl,hg,hk,rfl,rfl⟩,h⟩
theorem Oj{i j:Int}(h:Q (.int (i+j)) g):cG .iadd [.int i,.int j] g Q:=⟨_,_,.inl ⟨i,j,rfl,rfl,rfl⟩,h⟩
theorem X0{i:Nat}(hg:g[i]?=some (.lst l)):lN .append (.ref i) g:=⟨i,l,rfl,a7 hg⟩
theorem OL{i:Nat}(hg:g[i]?=some (.lst l)):lN .pop (.ref i) g:=⟨i,l,rfl,a7 hg⟩
theorem TC{i:Nat}{l:List (Key×D)}(hg:g[i]?=some (.dN l)):lN .get (.ref i) g:=⟨i,l,rfl,hg⟩
theorem DX{j:Int}(h1:-(2 ^ 62)<=j)(h2:j<=100000)(h:Q (.ref g.length) (g++[.lst (i0 0 j.toNat)])):cG .jd [.int j] g Q:=⟨_,_,⟨j,rfl,h1,h2,rfl,rfl⟩,h⟩
theorem KL{i j:Int}(h1:-(2 ^ 62)<=i/\i<2 ^ 62/\-(2 ^ 62)<=j/\j<2 ^ 62/\j-i<=100000)(h:Q (.ref g.length) (g++[.lst (i0 i (j-i).toNat)])):cG .jT [.int i,.int j] g Q:=⟨_,_,⟨i,j,rfl,h1,rfl,rfl⟩,h⟩
theorem Pb{a:Nat}{ns:List Int}(hl:c7 g a=some (ns.map .int))(hz:ns.length<60)(h:Q (.ref g.length) (g++[.lst ((m9 ns).map .int)])):cG .sset [.ref a] g Q:=⟨_,_,⟨a,ns,rfl,hl,hz,rfl,rfl⟩,h⟩
theorem og(h:Q (.ref g.length) (g++[.dN []])):cG .og [] g Q:=⟨_,_,⟨rfl,rfl,rfl⟩,h⟩
theorem max2{i j:Int}(h:Q (.int (if j>i then j else i)) g):cG .max [.int i,.int j] g Q:=⟨_,_,⟨rfl,.inl ⟨i,j,rfl,rfl⟩⟩,h⟩
theorem Vw{a:Nat}{ns:List Int}{M:Int}(hl:c7 g a=some (ns.map .int))(h1:M∈ns)(h2:∀x∈ns,x<=M)(h:Q (.int M) g):cG .max [.ref a] g Q:=⟨_,_,⟨rfl,.inr ⟨a,ns,M,rfl,hl,h1,h2,rfl⟩⟩,h⟩
theorem Vx{a:Nat}{ns:List Int}{M:Int}(hl:c7 g a=some (ns.map .int))(h1:M∈ns)(h2:∀x∈ns,M<=x)(h:Q (.int M) g):cG .min [.ref a] g Q:=⟨_,_,⟨rfl,.inr ⟨a,ns,M,rfl,hl,h1,h2,rfl⟩⟩,h⟩
theorem OI{a n:Nat}{i:Int}{S:Int->Bool}(hg:g[a]?=some (.set S n))(hn:n+1<4096)(h:Q .bC (g.set a (.set (λk=>S k||decide (k=i)) (if S i then n else n+1)))):cG .jN [.ref a,.int i] g Q:=⟨_,_,⟨a,i,S,n,rfl,hg,hn,rfl,rfl⟩,h⟩
theorem Rt{a n:Nat}{S:Int->Bool}(hg:g[a]?=some (.set S n)):lN .jN (.ref a) g:=⟨a,S,n,rfl,hg⟩
theorem RG{i:Int}(h:Q (.ref g.length) (g++[.set (λk=>decide (k=i)) 1])):cG (.jM i) [] g Q:=⟨_,_,⟨rfl,rfl,rfl⟩,h⟩
theorem Jw{a:Nat}{ns:List Int}(hl:c7 g a=some (ns.map .int))(h:Q (.int ns.sum) g):cG .sum [.ref a] g Q:=⟨_,_,⟨a,ns,rfl,hl,rfl,rfl⟩,h⟩
theorem HK{a:Nat}{ns:List Int}(hl:c7 g a=some (ns.map .int))(hz:ns.length<60)(h:Q (.int (ST.i6 [] ns).length) g):cG .Z9 [.ref a] g Q:=⟨_,_,⟨a,ns,rfl,hl,hz,rfl,rfl⟩,h⟩
theorem UL{a:Nat}{ns:List Int}(hl:c7 g a=some (ns.map .int))(h:Q (.bl (ns.all λn=>n != 0)) g):cG .all [.ref a] g Q:=⟨_,_,⟨a,_,_,rfl,hl,.inr ⟨ns,rfl,rfl⟩,rfl,rfl⟩,h⟩
theorem BX{i j:Int}(c:nW i j)(h:Q (.int (i*2 ^ j.toNat)) g):cG (.bin .LShift) [.int i,.int j] g Q:=⟨_,_,.inl ⟨i,j,_,rfl,⟨c,rfl⟩,rfl,rfl⟩,h⟩
theorem vC{i j:Int}(h:Q (.int (Builtin.bitAnd i j)) g):cG (.bin .BitAnd) [.int i,.int j] g Q:=⟨_,_,.inl ⟨i,j,_,rfl,rfl,rfl,rfl⟩,h⟩
theorem SU{i j:Int}(h:Q (.int (Builtin.bitOr i j)) g):cG (.bin .BitOr) [.int i,.int j] g Q:=⟨_,_,.inl ⟨i,j,_,rfl,rfl,rfl,rfl⟩,h⟩
theorem Ic{P:fh}{Z:S}{E:KX}{N:Ends}{i:Nat}{p:Pr}{v:ME}{x:D}(e:Z[i]?=some (some x))(h:aO P v Z g (λz g1=>cG p [x,z] g1 λw g2=>N.nx (Z.set i (some w)) g2) E):wpS P (.jZ i p v) N Z g E:=⟨x,e,h⟩
theorem Ot{i j:Int}(h:Q (.int (i-j)) g):cG .my [.int i,.int j] g Q:=⟨_,_,⟨i,j,rfl,rfl,rfl⟩,h⟩
theorem min2{i j:Int}(h:Q (.int (if j<i then j else i)) g):cG .min [.int i,.int j] g Q:=⟨_,_,⟨rfl,.inl ⟨i,j,rfl,rfl⟩⟩,h⟩
theorem Vj{v:Bool}(h:Q (.int (if v then 1 else 0)) g):cG .int [.bl v] g Q:=⟨_,_,⟨rfl,.inr ⟨v,rfl,rfl⟩⟩,h⟩
theorem Jj{kvs:List D}{x:Str}{v:D}(hv:M6 kvs x=some v)(h:Q v g):cG .mS [.tup kvs,.str x] g Q:=⟨_,_,⟨kvs,x,rfl,hv,rfl⟩,h⟩
theorem Th{i:Int}(hi:i.natAbs.log2<1920)(h:Q (.str (toString i)) g):cG .fv [.int i] g Q:=⟨_,_,⟨rfl,.inl ⟨i,rfl,hi,rfl⟩⟩,h⟩
theorem Pa{x:Str}(hx:U5 l=some x)(h:Q (.str x) g):cG .ly l g Q:=⟨_,_,⟨x,hx,rfl,rfl⟩,h⟩
theorem BY{i:Nat}{v:Bool}(hl:c7 g i=some l)(hv:U7 l=some v)(h:Q (.bl v) g):cG .all [.ref i] g Q:=⟨_,_,⟨i,l,v,rfl,hl,.inl hv,rfl,rfl⟩,h⟩
theorem f7{i:Nat}{x:D}{Z:S}{k:S->Prop}(h:k (Z.set i (some x))):jb (.one i) x Z k:=h
theorem A5{is:List Nat}{Z bN:S}{k:S->Prop}(e:C9 is l Z=some bN)(h:k bN):jb (.many is) (.tup l) Z k:=⟨l,bN,rfl,e,h⟩
end
theorem BC:∀(bs:List Bool),U7 (bs.map D.bl)=some (bs.all id):=by
 intro bs
 induction bs with
 |nil=>rfl
 |cons b r ih=>simp[U7,ih]
theorem call_of{T:Nat->Option ba}{k f:Nat}{m:ba}{ds:List D}{g:G}{Q:KD}{E:KX}(hT:T f=some m)(hl:ds.length=m.ar)(h:wpS (c5 T k) m.body ⟨λ_ g'=>Q .bC g',Q,λ_ _=>False,λ_ _=>False⟩ (c6 m ds) g E):c5 T (k+1) f ds g Q E:=⟨m,hT,hl,h⟩
def IK.Is(k:IK)(l:List D)(g:G):Prop:=∀i,k.at i g=some l[i]?
theorem n8{l:List D}{g:G}:(IK.fix l).Is l g:=λ_=>rfl
theorem k6{a:Nat}{l:List D}{g:G}(h:c7 g a=some l):(IK.lst a).Is l g:=λi=>by simp only[IK.at,h]
def lP(l:List D):List D:=l.mapIdx λi d=>.tup [.int i,d]
theorem xG{a:Nat}{l:List D}{g:G}(h:c7 g a=some l):(IK.nU a).Is (lP l) g:=λi=>by
 simp only[IK.at,h,lP,List.getElem?_mapIdx]
theorem Ou{a:Nat}{l:List D}{g:G}(h:c7 g a=some l):(IK.rC a l.length).Is l.reverse g:=λi=>by
 simp only[IK.at,h,if_true];by_cases hi:i<l.length
 ·rw[aK hi,List.getElem?_reverse hi]
 ·rw[aC hi,aJ (by simpa using hi)]
theorem M1(l:List D):(lP l).length=l.length:=by simp[lP]
theorem xU{l:List D}{i:Nat}{x:D}(h:(lP l)[i]?=some x):∃d,l[i]?=some d/\x=.tup [.int i,d]:=by
 rw[lP,List.getElem?_mapIdx,aa] at h;obtain⟨d,h1,h2⟩:=h;exact⟨d,h1,h2.symm⟩
theorem t8{lo:Int}{n i:Nat}{x:D}(h:(i0 lo n)[i]?=some x):i<n/\x=.int (lo+i):=by
 unfold i0 at h;have hi:i<n:=by
  have:=(ao.mp h).1;simpa using this
 rw[ag,bA hi] at h;cases h;exact⟨hi,rfl⟩
theorem j4(lo:Int)(n:Nat):(i0 lo n).length=n:=by simp[i0]
section
variable{P:fh}{Z:S}{g:G}{E:KX}{N:Ends}{it a b c o:ME}{s:MS}{t:MT}{Q:KD}
theorem Ge{k:IK}{l:List D}{fin:S->G->Prop}{turn:D->(S->G->Prop)->S->G->Prop}(I:Nat->S->G->Prop)(hk:∀i Z g,I i Z g->k.Is l g)(h0:I 0 Z g)(hs:∀i x Z g,l[i]?=some x->I i Z g->turn x (I (i+1)) Z g)(hd:∀Z g,I l.length Z g->fin Z g):turns k Z g fin turn:=by
 refine⟨λi m Z g=>m=l.length-i/\i<=l.length/\I i Z g,⟨l.length,by simp,cM _,h0⟩,?_⟩;rintro i m Z g ⟨rfl,hi,p⟩;rw[hk i Z g p i];by_cases dC:i<l.length
 ·rw[aj dC];exact .inr ⟨_,rfl,I (i+1),λbN g' p'=>⟨l.length-(i+1),by omega,rfl,dC,p'⟩,hs i l[i] Z g (aj dC) p⟩
 ·have e:i=l.length:=by omega
  subst e;rw[aJ (aw _)];exact .inl ⟨rfl,hd Z g p⟩
theorem u3(hP:f6 P)(h:eQ P it Z g (λk g1=>∃(l:List D) (I:Nat->S->G->Prop),(∀i Z g,I i Z g->k.Is l g)/\I 0 Z g1 /\
      (∀ i x Z g,l[i]?=some x->I i Z g->jb t x Z λcy=>wpS P s ⟨I (i + 1),N.rt,N.nx,I (i + 1)⟩ cy g E)/\∀ Z g,I l.length Z g->N.nx Z g) E):wpS P (.de t it s) N Z g E :=
  y9 hP it _ _ _ _ _ _ (λk g1 hq=>by obtain⟨l,I,hk,h0,hs,hd⟩:=hq;exact Ge I hk h0 hs hd) (λ_ _ z=>z) h
theorem XW{n:Nat}(hn:(n:Int)<2 ^ 62)(I:Nat->S->G->Prop)(h0:I 0 Z g)(hs:∀(i:Nat) Z g,i<n->I i Z g->jb t (.int i) Z λcy=>wpS P s ⟨I (i+1),N.rt,N.nx,I (i+1)⟩ cy g E)(hd:∀Z g,I n Z g->N.nx Z g):wpS P (.de t (.dS (.lit (.int n))) s) N Z g E:=by
 simp only[wpS,eQ,aO];refine⟨n,rfl,by omega,hn,Ge (l:=i0 0 n) I (λ_ _ _ _=>n8) h0 (λi x Z g hx p=>?_) (λZ g p=>hd Z g (by rw[j4] at p;exact p))⟩;obtain⟨hi,rfl⟩:=t8 hx;have:=hs i Z g hi p;rw[show(0:Int)+(i:Int)=i by omega];exact this
theorem E7{c8:List Nat}{n:Nat}{cond elt:ME}(hP:f6 P)(h:eQ P it Z g (λk g1=>∃(l:List D) (I:Nat->List D->S->G->Prop),l.length<=1000/\(∀i ys Z g,I i ys Z g->k.Is l g/\ys.length<=i)/\I 0 [] (C5 Z c8 n) g1 /\
      (∀i x ys Z g,l[i]?=some x->I i ys Z g->jb t x Z λcy=>cI P cond cy g (λc g3=>if c=true then aO P elt cy g3 (λy g4=>I (i+1) (ys++[y]) cy g4) iL else I (i+1) ys cy g3) iL) /\
      ∀ ys Z g,I l.length ys Z g->Q (.ref g.length) (g ++ [.lst ys])) E):aO P (.comp c8 n t it cond elt) Z g Q E:=by
  simp only[aO];refine y9 hP it _ _ _ _ _ _ (λk g1 h=>?_) (λ_ _ z=>z) h;obtain⟨l,I,hl,hk,h0,hs,hd⟩:=h;refine⟨λi m ys Z g=>m=l.length-i/\i<=l.length/\I i ys Z g,⟨l.length,by simp,cM _,h0⟩,?_⟩;rintro i m ys Z g ⟨rfl,hi,p⟩;obtain⟨nt,hy⟩:=hk i ys Z g p;rw[nt i];by_cases dC:i<l.length
  · rw[aj dC];refine .inr ⟨_,rfl,by omega,v7 (λcy q=>n9 hP cond _ _ _ _ _ _ (λc g3 q=>?_) (λ_ _ z=>z) q) (hs i l[i] ys Z g (aj dC) p)⟩;cases c
    · exact⟨l.length-(i+1),by omega,rfl,dC,by simpa using(show I (i+1) ys cy g3 from q)⟩
    · exact b8 hP elt _ _ _ _ _ _ (λy g4 q=>⟨l.length-(i+1),by omega,rfl,dC,by simpa using q⟩) (λ_ _ z=>z) q
  · have e:i=l.length:=by omega
    subst e;rw[aJ (aw _)];exact .inl ⟨rfl,hd ys Z g p⟩
theorem SI{c8:List Nat}{n:Nat}{cond elt:ME}(hP:f6 P)(h:eQ P it Z g (λk g1=>∃(l:List D) (I:Nat->List Int->S->G->Prop),l.length<60/\(∀i ys Z g,I i ys Z g->k.Is l g/\ys.length<=i)/\I 0 [] (C5 Z c8 n) g1 /\
      (∀i x ys Z g,l[i]?=some x->I i ys Z g->jb t x Z λcy=>cI P cond cy g (λc g3=>if c=true then aO P elt cy g3 (λy g4=>∃j,y=.int j/\I (i+1) (ys++[j]) cy g4) iL else I (i+1) ys cy g3) iL) /\
      ∀ ys Z g,I l.length ys Z g->Q (.ref g.length) (g ++ [.lst ((m9 ys).map .int)])) E):aO P (.gp c8 n t it cond elt) Z g Q E:=by
  simp only[aO];refine y9 hP it _ _ _ _ _ _ (λk g1 h=>?_) (λ_ _ z=>z) h;obtain⟨l,I,hl,hk,h0,hs,hd⟩:=h;refine⟨λi m ys Z g=>m=l.length-i/\i<=l.length/\I i ys Z g,⟨l.length,by simp,cM _,h0⟩,?_⟩;rintro i m ys Z g ⟨rfl,hi,p⟩;obtain⟨nt,hy⟩:=hk i ys Z g p;rw[nt i];by_cases dC:i<l.length
  · rw[aj dC];refine .inr ⟨_,rfl,by omega,v7 (λcy q=>n9 hP cond _ _ _ _ _ _ (λc g3 q=>?_) (λ_ _ z=>z) q) (hs i l[i] ys Z g (aj dC) p)⟩;cases c
    · exact⟨l.length-(i+1),by omega,rfl,dC,by simpa using(show I (i+1) ys cy g3 from q)⟩
    · refine b8 hP elt _ _ _ _ _ _ (λy g4 q=>?_) (λ_ _ z=>z) q;obtain⟨j,e,q⟩:=q;exact⟨j,e,l.length-(i+1),by omega,rfl,dC,by simpa using q⟩
  · have e:i=l.length:=by omega
    subst e;rw[aJ (aw _)];exact .inl ⟨rfl,by omega,hd ys Z g p⟩
theorem YN{c8:List Nat}{n:Nat}{cond elt:ME}(hP:f6 P)(h:aO P a Z g (λx g1=>∃j:Nat,x=.int j/\j<=1000/\∃I:Nat->List D->S->G->Prop,I 0 [] (C5 Z c8 n) g1/\(∀i ys Z g,I i ys Z g->ys.length<=i) /\
      (∀(i:Nat) ys Z g,i<j->I i ys Z g->jb t (.int i) Z λcy=>cI P cond cy g (λc g3=>if c=true then aO P elt cy g3 (λy g4=>I (i+1) (ys++[y]) cy g4) iL else I (i+1) ys cy g3) iL) /\
      ∀ ys Z g,I j ys Z g->Q (.ref g.length) (g ++ [.lst ys])) E):aO P (.comp c8 n t (.dS a) cond elt) Z g Q E:=by
  refine E7 hP ?_;simp only[eQ];refine b8 hP a _ _ _ _ _ _ (λx g1 h=>?_) (λ_ _ z=>z) h;obtain⟨j,rfl,hj,I,h0,hz,hs,hd⟩:=h;refine⟨j,rfl,by omega,by omega,_,I,by rw[j4];simpa using hj,λi ys Z g p=>⟨n8,hz i ys Z g p⟩,h0,λi x ys Z g hx p=>?_,λys Z g p=>hd ys Z g (by rw[j4] at p;simpa using p)⟩;obtain⟨hi,rfl⟩:=t8 hx;rw[show(0:Int)+(i:Int)=i by omega];exact hs i ys Z g (by simpa using hi) p
theorem YO{c8:List Nat}{n:Nat}{cond elt:ME}(hP:f6 P)(h:aO P a Z g (λx g1=>∃l,x=.tup l/\l.length<=1000/\∃I:Nat->List D->S->G->Prop,I 0 [] (C5 Z c8 n) g1/\(∀i ys Z g,I i ys Z g->ys.length<=i) /\
      (∀(i:Nat) x ys Z g,l[i]?=some x->I i ys Z g->jb t x Z λcy=>cI P cond cy g (λc g3=>if c=true then aO P elt cy g3 (λy g4=>I (i+1) (ys++[y]) cy g4) iL else I (i+1) ys cy g3) iL) /\
      ∀ ys Z g,I l.length ys Z g->Q (.ref g.length) (g ++ [.lst ys])) E):aO P (.comp c8 n t (.eO a) cond elt) Z g Q E:=by
  refine E7 hP ?_;simp only[eQ];refine b8 hP a _ _ _ _ _ _ (λx g1 h=>?_) (λ_ _ z=>z) h;obtain⟨l,rfl,hj,I,h0,hz,hs,hd⟩:=h;exact .inl ⟨l,rfl,_,I,hj,λi ys Z g p=>⟨n8,hz i ys Z g p⟩,h0,hs,hd⟩
theorem IP(I:Nat->S->G->Prop)(m0:Nat)(h0:I m0 Z g)(hs:∀m Z g,I m Z g->cI P c Z g (λt g1=>if t=true then wpS P s ⟨λbN g'=>∃m',m'<m/\I m' bN g',N.rt,N.nx,λbN g'=>∃m',m'<m/\I m' bN g'⟩ Z g1 E else N.nx Z g1) E)(hP:f6 P):wpS P (.jK c s) N Z g E:=by
 refine⟨I,⟨m0,h0⟩,λm Z g p=>n9 hP c _ _ _ _ _ _ (λt g1 q=>?_) (λ_ _ z=>z) (hs m Z g p)⟩;cases t
 ·exact q
 ·exact⟨_,λ_ _ z=>z,q⟩
theorem S4(hP:f6 P){R:IK->G->Prop}(h:aO P a Z g (λx g1=>∃j:Int,x=.int j/\-(2 ^ 62)<=j/\j<2 ^ 62/\R (.fix (i0 0 j.toNat)) g1) E):eQ P (.dS a) Z g R E:=h
theorem Tr(hP:f6 P){R:IK->G->Prop}(h:aO P a Z g (λx g1=>aO P b Z g1 (λy g2=>∃i j:Int,x=.int i/\y=.int j/\(-(2 ^ 62)<=i/\i<2 ^ 62/\-(2 ^ 62)<=j/\j<2 ^ 62)/\R (.fix (i0 i (j-i).toNat)) g2) E) E):eQ P (.iY a b) Z g R E:=h
theorem uj(hP:f6 P){R:IK->G->Prop}(h:aO P a Z g (λx g1=>∃l,x=.tup l/\R (.fix l) g1) E):eQ P (.eO a) Z g R E:=by
 simp only[eQ];exact b8 hP a _ _ _ _ _ _ (λx g1 h=>.inl h) (λ_ _ z=>z) h
theorem kx(hP:f6 P){R:IK->G->Prop}(h:aO P a Z g (λx g1=>∃i l,x=.ref i/\c7 g1 i=some l/\R (.lst i) g1) E):eQ P (.eO a) Z g R E:=by
 simp only[eQ];exact b8 hP a _ _ _ _ _ _ (λx g1 h=>.inr h) (λ_ _ z=>z) h
theorem KQ{R:IK->G->Prop}(h:aO P a Z g (λx g1=>∃i l,x=.ref i/\c7 g1 i=some l/\R (.rC i l.length) g1) E):eQ P (.nr a) Z g R E:=h
theorem za{R:IK->G->Prop}(h:aO P a Z g (λx g1=>∃i l,x=.ref i/\c7 g1 i=some l/\R (.nU i) g1) E):eQ P (.ku a) Z g R E:=h
end
end M

namespace M
open PySem L2 PySem.Spec PyProof.Rows
structure RF where
 id:Nat
 nm:Str
 N:List Str
 k:Nat
 i:Nat
 m:ba
structure RM where
 id:Nat
 cl:Str
 nm:Str
 qn:Str
 N:List Str
 k:Nat
 i:Nat
 j:Nat
 m:ba
def RF.d(tp:Nat->Stmt)(r:RF):oi:=⟨r.nm,r.nm,r.N,r.N.take r.k,tp r.i⟩
def RM.d(mt:Nat->Nat->Stmt)(r:RM):oi:=⟨r.nm,r.qn,r.N,r.N.take r.k,mt r.i r.j⟩
def sx(F:List RF)(M:List RM)(i:Nat):Option ba:=match F.find? λr=>Nat.beq r.id i with
 |some r=>some r.m
 |none=>(M.find? λr=>Nat.beq r.id i).map (·.m)
section
variable(tp:Nat->Stmt)(mt:Nat->Nat->Stmt)(K:PySem.W.Frag)
def PF:List RF->Prop
 |[]=>True
 |r::l=>(∃f fd,PySem.W.nsIn K mainGlobals r.nm=some (some (.ref f))/\pC K r.nm r.nm (tp r.i) f fd)/\PF l
def PM:List RM->Prop
 |[]=>True
 |r::l=>(∃C f fd,PySem.W.nsIn K mainGlobals r.cl=some (some (.ref C))/\Meth K C r.nm f/\pC K r.nm r.qn (mt r.i r.j) f fd)/\PM l
def PC:List (Str×Nat)->Prop
 |[]=>True
 |r::l=>(∃C,PySem.W.nsIn K mainGlobals r.1=some (some (.ref C))/\jE K C/\PySem.W.makesIn K C=true/\PySem.W.keepIn K (.ref C)=true)/\PC l
def PA:List (Str×Str)->Prop
 |[]=>True
 |r::l=>(∃C,PySem.W.nsIn K mainGlobals r.2=some (some (.ref C))/\PySem.W.findIn K (.ref C) r.1=some none)/\PA l
def PB:List Str->Prop
 |[]=>True
 |r::l=>PySem.W.nsIn K mainGlobals r=some none/\PB l
def PX:List Str->Prop
 |[]=>True
 |r::l=>(∃C,PySem.W.nsIn K mainGlobals r=some (some (.ref C))/\PySem.W.excIn K C [.type "ValueError",.type "Exception",.type "BaseException",.type "object"] "ValueError.__new__"=true)/\PX l
def BF:List RF->Prop
 |[]=>True
 |r::l=>(∀(kV doc pm:Value) (an:Option Addr) (fu ct:Value) (us:List Value),us.length=(r.N.take r.k).length->bindArgs (PySem.W.fnOf r.nm r.nm (A7 (tp r.i)) (n6 (tp r.i)) (n5 (tp r.i)) .none kV doc pm an fu ct) ⟨us,[]⟩=pure ((r.N.take r.k).zip us))/\BF l
def BM:List RM->Prop
 |[]=>True
 |r::l=>(∀(kV doc pm:Value) (an:Option Addr) (fu ct:Value) (us:List Value),us.length=(r.N.take r.k).length->bindArgs (PySem.W.fnOf r.nm r.qn (A7 (mt r.i r.j)) (n6 (mt r.i r.j)) (n5 (mt r.i r.j)) .none kV doc pm an fu ct) ⟨us,[]⟩=pure ((r.N.take r.k).zip us))/\BM l
def YF(c:d7):List RF->Prop
 |[]=>True
 |r::l=>s9 (comp 60) (c.at (r.d tp)) (n6 (tp r.i))=some r.m.body/\YF c l
def YM(c:d7):List RM->Prop
 |[]=>True
 |r::l=>s9 (comp 60) (c.at (r.d mt)) (n6 (mt r.i r.j))=some r.m.body/\YM c l
end
section
variable{tp:Nat->Stmt}{mt:Nat->Nat->Stmt}{K:PySem.W.Frag}{c:d7}{id k i j:Nat}{cl nm qn x:Str}{N:List Str}{m:ba}{f C:Addr}{oc kV doc pm fu ct:Value}{od an:Option Addr}{lL:Array (Option Value)}
theorem PF.nil:PF tp K []:=trivial
theorem PF.cons{l:List RF}(a:PySem.W.nsIn K mainGlobals nm=some (some (.ref f)))(lk:K.lookup f=some ⟨oc,od,.func (PySem.W.fnOf nm nm (A7 (tp i)) (n6 (tp i)) (n5 (tp i)) .none kV doc pm an fu ct),lL⟩)(cd:PySem.W.codeIn K fu nm=true)(kp:PySem.W.keepIn K (.ref f)=true)(h:PF tp K l):PF tp K (⟨id,nm,N,k,i,m⟩::l):=⟨⟨f,_,a,HJ lk cd kp⟩,h⟩
theorem PM.nil:PM mt K []:=trivial
theorem PM.cons{l:List RM}(c0:PySem.W.nsIn K mainGlobals cl=some (some (.ref C)))(a:PySem.W.findIn K (.ref C) nm=some (some (.ref f)))(af:PySem.W.isFn K (.ref f)=true)(lk:K.lookup f=some ⟨oc,od,.func (PySem.W.fnOf nm qn (A7 (mt i j)) (n6 (mt i j)) (n5 (mt i j)) .none kV doc pm an fu ct),lL⟩)(cd:PySem.W.codeIn K fu qn=true)(kp:PySem.W.keepIn K (.ref f)=true)(h:PM mt K l):PM mt K (⟨id,cl,nm,qn,N,k,i,j,m⟩::l):=⟨⟨C,f,_,c0,⟨a,af,kp⟩,HJ lk cd kp⟩,h⟩
theorem PC.nil:PC K []:=trivial
theorem PC.cons{l:List (Str×Nat)}(cn:PySem.W.nsIn K mainGlobals x=some (some (.ref C)))(cp:PySem.W.plainGet K C Str.empty=true)(Nq:PySem.W.hasDictIn K C=true)(Nm:PySem.W.plainOver K C=true)(Nl:PySem.W.findIn K (.ref C) "__setattr__"=some (some (.builtin "object.__setattr__")))(Nn:PySem.W.makesIn K C=true)(Np:PySem.W.keepIn K (.ref C)=true)(h:PC K l):PC K ((x,i)::l):=⟨⟨C,cn,⟨cp,Nq,Nm,Nl⟩,Nn,Np⟩,h⟩
theorem PA.nil:PA K []:=trivial
theorem PA.cons{l:List (Str×Str)}(cn:PySem.W.nsIn K mainGlobals x=some (some (.ref C)))(fl:PySem.W.findIn K (.ref C) nm=some none)(h:PA K l):PA K ((nm,x)::l):=⟨⟨C,cn,fl⟩,h⟩
theorem PB.nil:PB K []:=trivial
theorem PB.cons{l:List Str}(cn:PySem.W.nsIn K mainGlobals x=some none)(h:PB K l):PB K (x::l):=⟨cn,h⟩
theorem PX.nil:PX K []:=trivial
theorem PX.cons{l:List Str}(cn:PySem.W.nsIn K mainGlobals x=some (some (.ref C)))(q:PySem.W.excIn K C [.type "ValueError",.type "Exception",.type "BaseException",.type "object"] "ValueError.__new__"=true)(h:PX K l):PX K (x::l):=⟨⟨C,cn,q⟩,h⟩
theorem Du{P:List Value->Prop}{n:Nat}(h:∀a vs,vs.length=n->P (a::vs))(us:List Value)(hl:us.length=n+1):P us:=by
 cases us with
 |nil=>cases hl
 |cons a vs=>exact h a vs (Nat.succ.inj hl)
theorem Dt{P:List Value->Prop}(h:P [])(us:List Value)(hl:us.length=0):P us:=by
 cases gF.mp hl;exact h
theorem BF.nil:BF tp []:=trivial
theorem BF.cons{l:List RF}(h:∀(kV doc pm:Value) (an:Option Addr) (fu ct:Value) (us:List Value),us.length=(N.take k).length->bindArgs (PySem.W.fnOf nm nm (A7 (tp i)) (n6 (tp i)) (n5 (tp i)) .none kV doc pm an fu ct) ⟨us,[]⟩=pure ((N.take k).zip us))(h2:BF tp l):BF tp (⟨id,nm,N,k,i,m⟩::l):=⟨h,h2⟩
theorem BM.nil:BM mt []:=trivial
theorem BM.cons{l:List RM}(h:∀(kV doc pm:Value) (an:Option Addr) (fu ct:Value) (us:List Value),us.length=(N.take k).length->bindArgs (PySem.W.fnOf nm qn (A7 (mt i j)) (n6 (mt i j)) (n5 (mt i j)) .none kV doc pm an fu ct) ⟨us,[]⟩=pure ((N.take k).zip us))(h2:BM mt l):BM mt (⟨id,cl,nm,qn,N,k,i,j,m⟩::l):=⟨h,h2⟩
theorem YF.nil:YF tp c []:=trivial
theorem YF.cons{l:List RF}(h:s9 (comp 60) (c.at ⟨nm,nm,N,N.take k,tp i⟩) (n6 (tp i))=some m.body)(h2:YF tp c l):YF tp c (⟨id,nm,N,k,i,m⟩::l):=⟨h,h2⟩
theorem YM.nil:YM mt c []:=trivial
theorem YM.cons{l:List RM}(h:s9 (comp 60) (c.at ⟨nm,qn,N,N.take k,mt i j⟩) (n6 (mt i j))=some m.body)(h2:YM mt c l):YM mt c (⟨id,cl,nm,qn,N,k,i,j,m⟩::l):=⟨h,h2⟩
theorem YF.get:∀{l:List RF},YF tp c l->∀r∈l,s9 (comp 60) (c.at (r.d tp)) (n6 (tp r.i))=some r.m.body
 |_::_,h,r,hr=>(aE.mp hr).elim (λz=>z▸h.1) (YF.get h.2 r)
theorem YM.get:∀{l:List RM},YM mt c l->∀r∈l,s9 (comp 60) (c.at (r.d mt)) (n6 (mt r.i r.j))=some r.m.body
 |_::_,h,r,hr=>(aE.mp hr).elim (λz=>z▸h.1) (YM.get h.2 r)
theorem PF.get:∀{l:List RF},PF tp K l->∀r∈l,∃f fd,PySem.W.nsIn K mainGlobals r.nm=some (some (.ref f))/\pC K r.nm r.nm (tp r.i) f fd
 |_::_,h,r,hr=>(aE.mp hr).elim (λz=>z▸h.1) (PF.get h.2 r)
theorem PM.get:∀{l:List RM},PM mt K l->∀r∈l,∃C f fd,PySem.W.nsIn K mainGlobals r.cl=some (some (.ref C))/\Meth K C r.nm f/\pC K r.nm r.qn (mt r.i r.j) f fd
 |_::_,h,r,hr=>(aE.mp hr).elim (λz=>z▸h.1) (PM.get h.2 r)
theorem PC.get:∀{l:List (Str×Nat)},PC K l->∀r∈l,∃C,PySem.W.nsIn K mainGlobals r.1=some (some (.ref C))/\jE K C/\PySem.W.makesIn K C=true/\PySem.W.keepIn K (.ref C)=true
 |_::_,h,r,hr=>(aE.mp hr).elim (λz=>z▸h.1) (PC.get h.2 r)
theorem PA.get:∀{l:List (Str×Str)},PA K l->∀r∈l,∃C,PySem.W.nsIn K mainGlobals r.2=some (some (.ref C))/\PySem.W.findIn K (.ref C) r.1=some none
 |_::_,h,r,hr=>(aE.mp hr).elim (λz=>z▸h.1) (PA.get h.2 r)
theorem PB.get:∀{l:List Str},PB K l->∀r∈l,PySem.W.nsIn K mainGlobals r=some none
 |_::_,h,r,hr=>(aE.mp hr).elim (λz=>z▸h.1) (PB.get h.2 r)
theorem PX.get:∀{l:List Str},PX K l->∀r∈l,∃C,PySem.W.nsIn K mainGlobals r=some (some (.ref C))/\PySem.W.excIn K C [.type "ValueError",.type "Exception",.type "BaseException",.type "object"] "ValueError.__new__"=true
 |_::_,h,r,hr=>(aE.mp hr).elim (λz=>z▸h.1) (PX.get h.2 r)
theorem BF.get:∀{l:List RF},BF tp l->∀r∈l,∀(kV doc pm:Value) (an:Option Addr) (fu ct:Value) (us:List Value),us.length=(r.N.take r.k).length->bindArgs (PySem.W.fnOf r.nm r.nm (A7 (tp r.i)) (n6 (tp r.i)) (n5 (tp r.i)) .none kV doc pm an fu ct) ⟨us,[]⟩=pure ((r.N.take r.k).zip us)
 |_::_,h,r,hr=>(aE.mp hr).elim (λz=>z▸h.1) (BF.get h.2 r)
theorem BM.get:∀{l:List RM},BM mt l->∀r∈l,∀(kV doc pm:Value) (an:Option Addr) (fu ct:Value) (us:List Value),us.length=(r.N.take r.k).length->bindArgs (PySem.W.fnOf r.nm r.qn (A7 (mt r.i r.j)) (n6 (mt r.i r.j)) (n5 (mt r.i r.j)) .none kV doc pm an fu ct) ⟨us,[]⟩=pure ((r.N.take r.k).zip us)
 |_::_,h,r,hr=>(aE.mp hr).elim (λz=>z▸h.1) (BM.get h.2 r)
end
def wx(N P:List Str)(sc:Scope):Bool:=decide (sc.kind=.function)&&!sc.isCoroutine&&!sc.isGenerator&&decide N.Nodup&&decide (N.take P.length=P)&&P.all (λx=>decide (sc.names.lookup x=some .local)||decide (sc.names.lookup x=some .cell))&&sc.names.all λy=>decide (y.2≠.free)
theorem HU{N P:List Str}{sc:Scope}(h:wx N P sc=true):ij N P sc:=by
 unfold wx at h;simp only[Bool.and_eq_true,decide_eq_true_eq,Bool.not_eq_true',List.all_eq_true,Bool.or_eq_true] at h;obtain⟨⟨⟨⟨⟨⟨h1,h2⟩,h3⟩,h4⟩,h5⟩,h6⟩,h7⟩:=h;exact⟨h1,h2,h3,h4,h5,h6,h7⟩
theorem Xu{K:PySem.W.Frag}{h₀:Heap}{mg:Str->Option Value}{x:Str}{C:Addr}{FD:List Value}{newId:String}(X:K.In h₀)(G:h₀.Ns mainGlobals mg)(e:PySem.W.nsIn K mainGlobals x=some (some (.ref C)))(q:PySem.W.excIn K C FD newId=true):PyProof.Rows.OwnCls x C FD newId mg h₀:=by
 refine⟨bQ X G e,?_⟩;unfold PySem.W.excIn at q;split at q
 ·rename_i dd cd sl ho;split at q
  ·rename_i C' bm k0 k1 k2 k3 n k5 hm hs;simp only[Bool.and_eq_true,beq_iff_eq,Bool.not_eq_true'] at q;obtain⟨⟨⟨⟨⟨z1,z2⟩,uJ⟩,ht⟩,bK⟩,wM⟩:=q;subst z1;subst z2;obtain⟨nm,bs,mro,ns,qn,hd,sn,sub,ab,col,del⟩:=cd;dsimp only at hm uJ bK wM;subst hm uJ;have oI:sl=#[k0,k1,k2,k3,some (.builtin n),k5]:=by
    obtain⟨l⟩:=sl;simp only at hs;rw[hs]
   subst oI;exact⟨bm,ns,nm,qn,bs,hd,sn,sub,ab,col,dd,k0,k1,k2,k3,k5,_,X _ _ ho,.of_isNs (PySem.W.isNs_of_in X bK),PySem.W.nsMap_none_of_in X bK wM,PySem.W.tail_of_in X ht⟩
  ·cases q
 ·cases q
def Q1(K:PySem.W.Frag)(x:Str):Addr:=match PySem.W.nsIn K mainGlobals x with
 |some (some (.ref C))=>C
 |_=>0
def Ik(K:PySem.W.Frag)(exc:List Str):Bool:=exc.all λx=>exc.all λy=>decide (PySem.W.exmOne K (.ref (Q1 K x)) (.ref (Q1 K y))=some (decide (x=y\/y="MintError")))
theorem Oh{K:PySem.W.Frag}{exc:List Str}(h:Ik K exc=true){x y:Str}{C C':Addr}(hx:exc.contains x=true)(hy:exc.contains y=true)(hC:p0 K x C)(Aa:p0 K y C'):PySem.W.exmOne K (.ref C) (.ref C')=some (decide (x=y\/y="MintError")):=by
 have h1:=cE.mp h x (by simpa using hx);have h2:=bt (cE.mp h1 y (by simpa using hy));have e1:Q1 K x=C:=by unfold Q1;rw[show PySem.W.nsIn K mainGlobals x=_ from hC]
 have e2:Q1 K y=C':=by unfold Q1;rw[show PySem.W.nsIn K mainGlobals y=_ from Aa]
 rw[e1,e2] at h2;exact h2
theorem Bf{α:Type}{f:α->Nat}:∀{l:List α},(l.map f).Nodup->∀r∈l,l.find? (λx=>Nat.beq (f x) (f r))=some r
 |y::l,nd,r,hr=>by
  rw[bg,dA] at nd;rcases aE.mp hr with rfl|hr
  ·rw[List.find?_cons_of_pos];exact Nat.beq_refl _
  ·rw[List.find?_cons_of_neg]
   ·exact Bf nd.2 r hr
   ·intro z;exact nd.1 (aQ.mpr ⟨r,hr,(iq z).symm⟩)
theorem Rb{α β:Type}{f:α->Nat}{g:β->Nat}{l:List α}{r:β}(h:g r∉l.map f):l.find? (λx=>Nat.beq (f x) (g r))=none:=by
 rw[jI];intro x hx z;exact h (aQ.mpr ⟨x,hx,iq z⟩)
section
variable{w:World}{K:PySem.W.Frag}{h₀:Heap}{mg:Str->Option Value}{c:d7}{F:List RF}{M:List RM}{tp:Nat->Stmt}{mt:Nat->Nat->Stmt}
structure kM(K:PySem.W.Frag)(c:d7)(F:List RF)(M:List RM)(tp:Nat->Stmt)(mt:Nat->Nat->Stmt):Prop where
 qF:PF tp K F
 qM:PM mt K M
 qC:PC K c.cls
 qA:PA K c.nz
 qB:PB K c.blt
 qX:PX K c.exc
 xm:Ik K c.exc=true
structure kL(c:d7)(F:List RF)(M:List RM)(tp:Nat->Stmt)(mt:Nat->Nat->Stmt):Prop where
 cf:c.fns=F.map λr=>(r.nm,r.id)
 cm:c.oA=M.map λr=>(r.nm,r.cl,r.id)
 ci:c.cls.all (λy=>M.any λr=>decide (r.cl=y.1)&&decide (r.nm="__init__")&&Nat.beq r.id y.2)=true
 nd:(F.map (·.id)++M.map (·.id)).Nodup
 sF:F.all (λr=>wx r.N (r.N.take r.k) (n5 (tp r.i))&&decide (r.m.ar=(r.N.take r.k).length)&&decide (r.m.n=r.N.length))=true
 sM:M.all (λr=>wx r.N (r.N.take r.k) (n5 (mt r.i r.j))&&decide (r.m.ar=(r.N.take r.k).length)&&decide (r.m.n=r.N.length))=true
 oF:YF tp c F
 oM:YM mt c M
 bF:BF tp F
 bM:BM mt M
theorem IF(I:kM K c F M tp mt)(X:kL c F M tp mt)(r:RF)(hr:r∈F):∃f fd,jm K c (r.d tp) r.m f fd/\PySem.W.nsIn K mainGlobals r.nm=some (some (.ref f))/\sx F M r.id=some r.m:=by
 obtain⟨f,fd,a,q⟩:=I.qF.get r hr;have s:=cE.mp X.sF r hr;simp only[Bool.and_eq_true,decide_eq_true_eq] at s;have o:=X.oF.get r hr;refine⟨f,fd,⟨q,q.binds (X.bF.get r hr),HU s.1.1,o,s.1.2,s.2⟩,a,?_⟩;unfold sx;rw[Bf (f:=(·.id)) (cu.mp X.nd).1 r hr]
theorem IG(I:kM K c F M tp mt)(X:kL c F M tp mt)(r:RM)(hr:r∈M):∃C f fd,jm K c (r.d mt) r.m f fd/\PySem.W.nsIn K mainGlobals r.cl=some (some (.ref C))/\Meth K C r.nm f/\sx F M r.id=some r.m:=by
 obtain⟨C,f,fd,a,q1,q⟩:=I.qM.get r hr;have s:=cE.mp X.sM r hr;simp only[Bool.and_eq_true,decide_eq_true_eq] at s;have o:=X.oM.get r hr;refine⟨C,f,fd,⟨q,q.binds (X.bM.get r hr),HU s.1.1,o,s.1.2,s.2⟩,a,q1,?_⟩;have nd:=cu.mp X.nd;unfold sx;rw[Rb (f:=λr:RF=>r.id) (g:=λr:RM=>r.id) (r:=r) (λz=>nd.2.2 _ z _ (aQ.mpr ⟨r,hr,rfl⟩) rfl),Bf (f:=λr:RM=>r.id) nd.2.1 r hr]
 rfl
theorem QF(I:kM K c F M tp mt)(Y:kL c F M tp mt)(X:K.In h₀)(G:h₀.Ns mainGlobals mg)(con:∀x d,c.con.lookup x=some d->∃v u,mg x=some u/\RelV v u/\∀ρ H,d5 K ρ H d v)(qx:∀x kvs,c.gd.lookup x=some kvs->∃A vs,mg x=some (.ref A)/\vB K w.params A vs/\ph K kvs vs):mX w K mg c (sx F M):=by
 refine⟨λx i hx=>?_,λx i hx=>?_,λx y i C hx hC=>?_,λf y C hx hC=>?_,con,λx hx=>?_,λx hx=>?_,λx y C C' hx hy hC Aa=>Oh I.xm hx hy hC Aa,qx⟩
 ·have hm:=aP hx;rw[Y.cf] at hm;obtain⟨r,hr,e⟩:=aQ.mp hm;cases e;obtain⟨f,fd,O,a,t⟩:=IF I Y r hr;exact⟨_,_,f,fd,t,O,bQ X G a⟩
 ·have hm:=aP hx;have h1:=cE.mp Y.ci _ hm;obtain⟨r,hr,e⟩:=aR.mp h1;simp only[Bool.and_eq_true,decide_eq_true_eq] at e;obtain⟨⟨e1,e2⟩,e3⟩:=e;have e3:=iq e3;obtain⟨C,f,fd,O,a,q,t⟩:=IG I Y r hr;obtain⟨C',a',hc,mk,kp⟩:=I.qC.get _ hm;rw[e1] at a;cases a.symm.trans a';rw[e2] at q;rw[e3] at t;exact⟨C,_,_,f,fd,t,O,bQ X G a,a,hc,⟨mk,q.at_,q.fn,kp⟩⟩
 ·rw[Y.cm] at hx;obtain⟨r,hr,e⟩:=aQ.mp hx;cases e;obtain⟨C',f,fd,O,a,q,t⟩:=IG I Y r hr;cases a.symm.trans hC;exact⟨_,_,f,fd,t,O,q⟩
 ·obtain⟨C',a,q⟩:=I.qA.get _ hx;cases a.symm.trans hC;exact q
 ·exact PySem.W.mg_none_of X G (I.qB.get x (by simpa using hx))
 ·obtain⟨C,a,q⟩:=I.qX.get x (by simpa using hx);exact⟨_,bQ X G a,a,λbase nk uY=>⟨_,_,_,_,Xu nk uY a q,PySem.F.excBase_ValueError⟩⟩
end
end M

namespace M
open PySem L2
set_option hygiene false
local macro_rules|`(tactic|walk_at"w1")=>`(tactic|with_reducible first|refine Q4 ?_|refine Y1 ?_|refine sO ?_|refine Cr ?_|refine QL ?_|refine NX ?_|refine IM ?_|refine QP ?_|refine Cq ?_|refine E6 ?_|refine yE ?_|(refine w_var (d:=?_) ?_ ?_;rotate_left;·with_unfolding_all rfl)|refine w_lit ?_|refine vw ?_|refine vt ?_|refine UH ?_|refine QO ?_|refine SG ?_|refine w_and ?_|refine w_or ?_|refine w_not ?_|refine w_ite ?_|refine xO ?_|refine QM ?_|refine wo ?_|refine xA ?_|refine Q5 ?_|refine QQ ?_|refine NV ?_|refine QR ?_|refine xB ?_|refine Cs ?_|refine UJ ?_|refine UK ?_|refine NT ?_|refine Te ?_|refine Td ?_|refine Tc ?_|refine Tb ?_|refine UN ?_|refine FP ?_|refine UM ?_|refine UZ ?_|refine UO ?_|refine US ?_|refine UU ?_|refine UT ?_|refine UX ?_|refine UY ?_|refine UW ?_|refine qO ?_|refine UP ?_|refine Fn ?_|refine Fm ?_|refine UQ ?_|refine Ca ?_|refine UD ?_|refine Ba ?_|refine Oo ?_|refine kZ ?_|refine pq ?_|refine Fu ?_|refine Ts ?_|refine DZ ?_|refine yM ?_|refine yK ?_|refine yL ?_|refine DF ?_|refine DW ?_|refine Dv ?_)
local macro_rules|`(tactic|walk_at"w2")=>`(tactic|repeat(with_reducible first|walk_at "w1"|refine Ck (by simp) ?_|refine Cj (by simp) ?_|refine m7 (a7 (by assumption)) (by with_unfolding_all rfl) ?_|refine F6 (a7 (by assumption)) ?_|refine BW (by unfold nW;decide) ?_))
local macro_rules|`(tactic|walk_at"w3")=>`(tactic|repeat(with_reducible first|walk_at "w1"|refine Ck (by simp) ?_|refine Cj (by simp) ?_|refine m7 (a7 (by assumption)) (by with_unfolding_all rfl) ?_|refine F6 (a7 (by assumption)) ?_|refine BW (by unfold nW;decide) ?_|refine And.intro (show List.length _ <= 1000 from by simp) ?_|refine A5 (by with_unfolding_all rfl) ?_|refine f7 ?_|refine q9 (by with_unfolding_all rfl) ?_))
local macro_rules|`(tactic|walk_at"")=>`(tactic|repeat(with_reducible first|walk_at "w1"|refine SH ?_|refine NW ?_|refine QN ?_|refine Fl ?_|refine NN ?_|refine Dw ?_|refine max2 ?_|refine min2 ?_|refine Vj ?_|refine og ?_|refine MO ?_|refine EV ?_|refine Ck (by simp) ?_|refine Cj (by simp) ?_|refine m7 (a7 (by assumption)) (by with_unfolding_all rfl) ?_|refine F6 (a7 (by assumption)) ?_|refine BW (by unfold nW;decide) ?_|refine And.intro (show List.length _ <= 1000 from by simp) ?_|refine A5 (by with_unfolding_all rfl) ?_|refine f7 ?_|refine q9 (by with_unfolding_all rfl) ?_|refine And.intro (X0 (by assumption)) ?_|refine And.intro (OL (by assumption)) ?_|refine And.intro (TC (by assumption)) ?_|refine P4 (by decide) ?_|refine NZ (by decide) (by decide) ?_|refine za ?_))
set_option hygiene true
abbrev fb(a:ME):ME:=.cons a .nil
abbrev dc(a b:ME):ME:=.cons a (.cons b .nil)
abbrev ia(a b c:ME):ME:=.cons a (.cons b (.cons c .nil))
abbrev rn(a b c d:ME):ME:=.cons a (.cons b (.cons c (.cons d .nil)))
abbrev tB(a b c d e:ME):ME:=.cons a (.cons b (.cons c (.cons d (.cons e .nil))))
abbrev ER(a b c d e f:ME):ME:=.cons a (.cons b (.cons c (.cons d (.cons e (.cons f .nil)))))
abbrev MI(a b c d e f g:ME):ME:=.cons a (.cons b (.cons c (.cons d (.cons e (.cons f (.cons g .nil))))))
abbrev dJ(o:PySem.CmpOp)(a b:ME):ME:=.fy (.prim (.cmp o) (.cons a (.cons b .nil)))
abbrev cJ(a b:ME):ME:=.prim .ix (.cons a (.cons b .nil))
abbrev bf(a:Int):ME:=.lit (.int a)
abbrev gN(a:PySem.Str):ME:=.lit (.str a)
abbrev du(p:Pr)(a:ME):ME:=.prim p (.cons a .nil)
abbrev bW(p:Pr)(a b:ME):ME:=.prim p (.cons a (.cons b .nil))
abbrev aL:ME:=.var 0
abbrev bh:ME:=.var 1
abbrev oE:ME:=.var 10
abbrev kF:ME:=.var 12
abbrev ue:ME:=.var 13
abbrev oB:ME:=.var 15
abbrev ud:ME:=.var 16
abbrev bp:ME:=.var 2
abbrev bP:ME:=.var 3
abbrev cU:ME:=.var 4
abbrev dR:ME:=.var 5
abbrev eM:ME:=.var 6
abbrev fV:ME:=.var 7
abbrev mr:ME:=.var 8
def E4:ba:=⟨2,5,(.seq (.ifs (.dy (dJ .Lt (cJ aL (bf 2)) bh) (dJ .Lt (cJ aL (bf 1)) (du .len (cJ aL (bf 0))))) (.seq (.set 2 (cJ (cJ aL (bf 0)) (cJ aL (bf 1)))) (.seq (.dY aL (bf 1) (bW (.bin .Add) (cJ aL (bf 1)) (bf 1))) (.seq (.dY aL (bf 2) (bf 0)) (.seq (.ifs (dJ .GtE bp (bW (.bin .Pow) (bf 10) (bf 18))) (.seq (.dY aL (bf 2) bp) .pass) (.seq (.dY aL (bf 3) (bW (.bin .Mod) (bW (.bin .Add) (bW (.bin .Add) (bW (.bin .Mult) (cJ aL (bf 3)) (bf 48271)) (bW (.bin .Mult) (bW (.bin .Mod) bp (bf 2147483629)) (bf 69621))) (bf 12345)) (bf 2147483647))) .pass)) .pass)))) .pass) (.seq (.ifs (dJ .GtE (cJ aL (bf 2)) bh) (.seq (.set 3 (bW (.bin .Mod) (cJ aL (bf 2)) bh)) (.seq (.dY aL (bf 2) (bW (.bin .FloorDiv) (cJ aL (bf 2)) bh)) (.seq (.ret bP) .pass))) .pass) (.seq (.set 4 (cJ aL (bf 3))) (.seq (.dY aL (bf 3) (bW (.bin .Mod) (bW (.bin .Add) (bW (.bin .Add) (bW (.bin .Mult) (bW (.bin .Mod) (bW (.bin .Mult) cU cU) (bf 2147483629)) (bf 5)) (bW (.bin .Mult) cU (bf 16811))) (bf 2531011)) (bf 2147483647))) (.seq (.ret (bW (.bin .Mod) (bW (.bin .Add) (bW (.bin .FloorDiv) (cJ aL (bf 3)) (bf 59)) (bW (.bin .Mult) (bW (.bin .Mod) (cJ aL (bf 3)) (bf 8191)) (bf 31))) bh)) .pass)))))⟩
structure i4(g:G)(d:Nat):Prop where
 ex:∃(s:Nat) (p b r:Int) (xs:List Int),g[d]?=some (.lst [.ref s,.int p,.int b,.int r])/\g[s]?=some (.lst (xs.map .int))/\s<d/\0<=p/\0<=b/\0<=r/\r<2147483647
structure Gr(d:Nat)(g g':G):Prop where
 len:g.length<=g'.length
 old:∀i,i≠d->i<g.length->g'[i]?=g[i]?
theorem Gr.refl(d:Nat)(g:G):Gr d g g:=⟨aw _,λ_ _ _=>rfl⟩
theorem Gr.trans{d:Nat}{g g1 g2:G}(a:Gr d g g1)(b:Gr d g1 g2):Gr d g g2:=⟨aD a.len b.len,λi h1 h2=>(b.old i h1 (ay h2 a.len)).trans (a.old i h1 h2)⟩
theorem Gr.set(d:Nat)(g:G)(o:O):Gr d g (g.set d o):=⟨by simp,λi h1 h2=>ax (bE h1)⟩
theorem Gr.snoc(d:Nat)(g:G)(o:O):Gr d g (g++[o]):=⟨by simp,λi h1 h2=>aF h2⟩
theorem Gr.at{d:Nat}{g g':G}(h:Gr d g g'){i:Nat}{o:O}(hi:i≠d)(e:g[i]?=some o):g'[i]?=some o:=(h.old i hi (ao.mp e).1).trans e
theorem j7{g:G}{i:Nat}{o:O}(h:g[i]?=some o):i<g.length:=(ao.mp h).1
theorem i4.lt{g:G}{d:Nat}(h:i4 g d):d<g.length:=by
 obtain⟨_,_,_,_,_,e,_⟩:=h.ex;exact j7 e
theorem i4.snoc{g:G}{d:Nat}(h:i4 g d)(o:O):i4 (g++[o]) d:=by
 obtain⟨s,p,b,r,xs,e1,e2,q⟩:=h.ex;exact⟨s,p,b,r,xs,by rw[aF (j7 e1)];exact e1,by rw[aF (j7 e2)];exact e2,q⟩
def i7:MS->MS
 |.seq _ b=>b
 |x=>x
theorem CC{i j:Int}(h1:-(2 ^ 64)<i)(h2:i<2 ^ 64):qL i j:=.inl ⟨h1,h2⟩
theorem X5{i j:Int}(h1:-(2 ^ 64)<j)(h2:j<2 ^ 64):qL i j:=.inr ⟨h1,h2⟩
theorem XE{P:fh}{d:Nat}{n:Int}{g:G}{Q:KD}{E:KX}{N:Ends}{c2:Option D}(hN:N.rt=Q)(D0:i4 g d)(hn:0<n)(oN:n<1073741824)(h:∀r g',0<=r->r<n->i4 g' d->Gr d g g'->Q (.int r) g'):wpS P (i7 E4.body) N [some (.ref d),some (.int n),c2,none,none] g E:=by
 obtain⟨s,p,b,r,xs,e1,e2,nL,hp,hb,hr,oJ⟩:=D0.ex;have dC:=j7 e1;subst hN;dsimp[E4,i7];walk_at "w2";refine if2 (λc=>?_) (λc=>?_)
 ·walk_at "w2";refine P4 hn ?_;walk_at "w2";refine xk ⟨hn,oN⟩ ?_;walk_at "w2";refine T6 e1 (by with_unfolding_all rfl) ?_;walk_at "w2";refine h _ _ (eI _ (by omega)) (dq _ hn) ⟨s,p,b / n,r,xs,?_,?_,nL,hp,Int.ediv_nonneg hb (by omega),hr,oJ⟩ (Gr.set d g _)
  ·rw[aW dC];rfl
  ·rw[ax (bS nL)];exact e2
 ·walk_at "w2";have DG:-(2 ^ 64)<r/\r<2 ^ 64:=⟨by omega,by omega⟩
  refine P2 (CC DG.1 DG.2) ?_;walk_at "w2";refine P4 (by decide) ?_;walk_at "w2";refine P2 (X5 (by decide) (by decide)) ?_;walk_at "w2";refine P2 (X5 (by decide) (by decide)) ?_;walk_at "w2";refine P4 (by decide) ?_;walk_at "w2";refine T6 e1 (by with_unfolding_all rfl) ?_;generalize dH:(r*r % 2147483629*5+r*16811+2531011) % 2147483647=r';have q0:0<=r':=by rw[<- dH];exact eI _ (by decide)
  have q1:r'<2147483647:=by rw[<- dH];exact dq _ (by decide)
  have Ni:(g.set d (.lst [.ref s,.int p,.int b,.int r']))[d]?=some (.lst [.ref s,.int p,.int b,.int r']):=aW dC;show wpS P _ _ _ (g.set d (.lst [.ref s,.int p,.int b,.int r'])) E;walk_at "w2";refine xk ⟨by decide,by decide⟩ ?_;walk_at "w2";refine P4 (by decide) ?_;walk_at "w2";refine P2 (X5 (by decide) (by decide)) ?_;walk_at "w2";refine P4 hn ?_;walk_at "w2";refine h _ _ (eI _ (by omega)) (dq _ hn) ⟨s,p,b,r',xs,Ni,?_,nL,hp,hb,q0,q1⟩ (Gr.set d g _);rw[ax (bS nL)];exact e2
theorem d8{T:Nat->Option ba}(hT:T 4=some E4){k d:Nat}{n:Int}{g:G}{Q:KD}{E:KX}(D0:i4 g d)(hn:0<n)(oN:n<1073741824)(h:∀r g',0<=r->r<n->i4 g' d->Gr d g g'->Q (.int r) g'):c5 T (k+1) 4 [.ref d,.int n] g Q E:=by
 obtain⟨s,p,b,r,xs,e1,e2,nL,hp,hb,hr,oJ⟩:=D0.ex;have dC:=j7 e1;refine call_of hT rfl ?_;have tail:∀(g':G) (c2:Option D),i4 g' d->Gr d g g'->wpS (c5 T k) (i7 E4.body) ⟨λ_ g'=>Q .bC g',Q,λ_ _=>False,λ_ _=>False⟩ [some (.ref d),some (.int n),c2,none,none] g' E :=
  λg' c2 D1 gr=>XE rfl D1 hn oN λr g2 a b c e=>h r g2 a b c (gr.trans e)
 dsimp[E4,c6,List.replicate];walk_at "w2";refine if2 (λc=>?_) (λc=>?_)
 ·walk_at "w2";refine if2 (λc'=>?_) (λc'=>?_)
  ·walk_at "w2";have jv:p.toNat<xs.length:=by
    rw[ak] at c';omega
   have ea:fL (xs.map D.int) p=some (.int xs[p.toNat]):=by
    have:=B8 (xs:=xs.map D.int) (j:=p.toNat) (v:=.int xs[p.toNat]) (by rw[ag,aj jv];rfl)
    rwa [show((p.toNat:Nat):Int)=p by omega] at this
   refine m7 (a7 e2) ea ?_;generalize xs[p.toNat]=cell;walk_at "w2";refine T6 e1 (by with_unfolding_all rfl) ?_;have f1:(g.set d (.lst [.ref s,.int (p+1),.int b,.int r]))[d]?=some (.lst [.ref s,.int (p+1),.int b,.int r]):=aW dC;show wpS (c5 T k) _ _ _ (g.set d (.lst [.ref s,.int (p+1),.int b,.int r])) E;walk_at "w2";refine T6 f1 (by with_unfolding_all rfl) ?_;rw[gU];have f2:(g.set d (.lst [.ref s,.int (p+1),.int 0,.int r]))[d]?=some (.lst [.ref s,.int (p+1),.int 0,.int r]):=aW dC;show wpS (c5 T k) _ _ _ (g.set d (.lst [.ref s,.int (p+1),.int 0,.int r])) E;walk_at "w2";refine if2 (λc2=>?_) (λc2=>?_)
   ·walk_at "w2";refine T6 f2 (by with_unfolding_all rfl) ?_;rw[gU];refine tail _ _ ⟨s,p+1,cell,r,xs,aW dC,by rw[ax (bS nL)];exact e2,nL,by omega,?_,hr,oJ⟩ (Gr.set d g _);have:(10:Int) ^ (18:Int).toNat<=cell:=c2;have EO:(0:Int)<=10 ^ (18:Int).toNat:=by decide
    omega
   ·walk_at "w2";refine P2 (X5 (by decide) (by decide)) ?_;walk_at "w2";refine P4 (by decide) ?_;walk_at "w2";refine P2 (X5 (by decide) (by decide)) ?_;walk_at "w2";refine P4 (by decide) ?_;walk_at "w2";refine T6 f2 (by with_unfolding_all rfl) ?_;rw[gU];exact tail _ _ ⟨s,p+1,0,_,xs,aW dC,by rw[ax (bS nL)];exact e2,nL,by omega,by decide,eI _ (by decide),dq _ (by decide)⟩ (Gr.set d g _)
  ·walk_at "w1";exact tail _ _ D0 (Gr.refl _ _)
 ·walk_at "w1";walk_at "w1";exact tail _ _ D0 (Gr.refl _ _)
def BJ:ba:=⟨1,1,(.seq (.ret (.dy (bW .isin aL (.lit (.ty "int"))) (.eL (bW .isin aL (.lit (.ty "bool")))))) .pass)⟩
def V1:ba:=⟨3,3,(.seq (.ret (.dy (.call 38 (fb aL)) (.chain .LtE .LtE bh aL bp))) .pass)⟩
structure NF(T:Nat->Option ba):Prop where
 nf:T 1=some V1
 is:T 38=some BJ
def F4:ba:=⟨1,3,(.seq (.set 1 (bf 0)) (.seq (.de (.one 2) (.eO aL) (.seq (.ifs (.eL (.fy (.call 1 (ia bp bh (bf 7))))) (.seq (.ret (.lit (.bl false))) .pass) .pass) (.seq (.set 1 (bW (.bin .Add) bp (bf 1))) .pass))) (.seq (.ret (.lit (.bl true))) .pass)))⟩
def xt:ba:=⟨1,1,(.seq (.ret (.prim .lst (rn (du .list (bW (.kY false true) aL (bf 63))) (bf 0) (bf 0) (bf 29)))) .pass)⟩
def vS:ba:=⟨1,1,(.seq (.ret (.dy (bW .isin aL (.lit (.ty "int"))) (.eL (bW .isin aL (.lit (.ty "bool")))))) .pass)⟩
def C3:ba:=⟨2,2,(.seq (.ifs (dJ .Is bh (.lit .bC)) (.seq (.ret (bW (.cmp .Is) aL (.lit .bC))) .pass) .pass) (.seq (.ifs (.fy (bW .isin bh (.lit (.ty "bool")))) (.seq (.ret (.dy (bW .isin aL (.lit (.ty "bool"))) (bW (.cmp .Eq) aL bh))) .pass) .pass) (.seq (.ifs (.fy (bW .isin bh (.lit (.ty "int")))) (.seq (.ret (.dy (.call 6 (fb aL)) (bW (.cmp .Eq) aL bh))) .pass) .pass) (.seq (.ifs (.fy (bW .isin bh (.lit (.ty "str")))) (.seq (.ret (.dy (bW .isin aL (.lit (.ty "str"))) (bW (.cmp .Eq) aL bh))) .pass) .pass) (.seq (.ifs (.jt (dJ .NotEq (bW .isin bh (.lit (.ty "tuple"))) (bW .isin aL (.lit (.ty "tuple")))) (dJ .NotEq (bW .isin bh (.lit (.ty "list"))) (bW .isin aL (.lit (.ty "list"))))) (.seq (.ret (.lit (.bl false))) .pass) .pass) (.seq (.ifs (dJ .NotEq (du .len aL) (du .len bh)) (.seq (.ret (.lit (.bl false))) .pass) .pass) (.seq (.ret (du .all (.comp [1,0] 4 (.one 3) (.dS (du .len bh)) .no (.call 7 (dc (cJ bh bP) (cJ aL bP)))))) .pass)))))))⟩
theorem N4{g:G}{n:Nat}:∀ms:List Int,(ms.map D.int).mapM (rd g n)=some (ms.map PyData.int)
 |[]=>rfl
 |m::r=>by
  rw[bg,List.mapM_cons,N4 r];cases n<;>rfl
theorem lay_ints:∀ms:List Int,PyData.canLayAll0 (ms.map PyData.int)=true
 |[]=>by simp[PyData.canLayAll0]
 |m::r=>by simp[PyData.canLayAll0,PyData.canLay0,lay_ints r]
theorem Hh:∀ms ns:List Int,PyData.eqvAll (ms.map PyData.int) (ns.map PyData.int)=decide (ms=ns)
 |[],[]=>by simp[PyData.eqvAll]
 |[],_::_=>by simp[PyData.eqvAll]
 |_::_,[]=>by simp[PyData.eqvAll]
 |m::r,n::q=>by
  simp only[List.map_cons,PyData.eqvAll,PyData.eqv,Hh r q];by_cases h:m=n
  ·subst h;simp
  ·simp[h]
theorem BE{g:G}{ms:List Int}{i:Int}{k:Bool->Prop}(h:k (ms.any λm=>m==i)):pZ g (.int i) (.tup (ms.map .int)) k:=by
 refine⟨_,.inr ⟨_,_,_,rfl,N4 ms,rfl,lay_ints ms,by simp[PyData.canLay0],rfl⟩,?_⟩;rw[kl];exact h
theorem WX{g:G}{a b:Nat}{ms ns:List Int}{k:Bool->Prop}(ha:c7 g a=some (ms.map .int))(hb:c7 g b=some (ns.map .int))(h:k (decide (ms=ns))):rX g (.ref a) (.ref b) k:=by
 refine⟨_,.inr (.inr (.inr ⟨.list (ms.map .int),.list (ns.map .int),?_,?_,?_,?_,rfl⟩)),?_⟩
 ·simp only[rd];rw[ha];dsimp only;rw[N4];rfl
 ·simp only[rd];rw[hb];dsimp only;rw[N4];rfl
 ·simp[PyData.canLay0,lay_ints]
 ·simp[PyData.canLay0,lay_ints]
 ·simp only[PyData.eqv,Hh];exact h
section
variable{T:Nat->Option ba}{k d:Nat}{g:G}{Q:KD}{E:KX}
theorem Hv(h1:NF T){i:Int}(h:Q (.bl true) g):c5 T (k+1) 38 [.int i] g Q E:=by
 refine call_of h1.is rfl ?_;dsimp[BJ,c6,List.replicate];walk_at "w2";refine fW (c:="int") (b:=true) (by decide) rfl ?_;walk_at "w2";refine fW (c:="bool") (b:=false) (by decide) rfl ?_;walk_at "w2";exact h
theorem F1(h1:NF T){i l m:Int}(h:Q (.bl (decide (l<=i)&&decide (i<=m))) g):c5 T (k+2) 1 [.int i,.int l,.int m] g Q E:=by
 refine call_of h1.nf rfl ?_;dsimp[V1,c6,List.replicate];walk_at "w2";refine Hv h1 ?_;walk_at "w2";refine if2 (λc=>?_) (λc=>?_)
 ·rw[aA c] at h;walk_at "w2";exact h
 ·rw[az c] at h;exact h
def gm:Int->List Int->Bool
 |_,[]=>true
 |l,x::r=>(decide (l<=x)&&decide (x<=7))&&gm (x+1) r
theorem Hz(h1:NF T)(h2:T 2=some F4){ms:List Int}(h:Q (.bl (gm 0 ms)) g):c5 T (k+3) 2 [.tup (ms.map .int)] g Q E:=by
 refine call_of h2 rfl ?_;dsimp[F4,c6,List.replicate];walk_at "w2";refine u3 (a8 T _) (uj (a8 T _) ?_);walk_at "w2";refine⟨_,rfl,_,λi Z g'=>g'=g/\∃(l:Int) (z:Option D),Z=[some (.tup (ms.map .int)),some (.int l),z]/\gm 0 ms=gm l (ms.drop i),λ_ _ _ _=>n8,⟨rfl,0,none,rfl,rfl⟩,λi x Z g' hx p=>?_,λZ g' p=>?_⟩
 ·obtain⟨rfl,l,z,rfl,e⟩:=p;rw[ag] at hx;cases em:ms[i]? with
  |none=>rw[em] at hx;cases hx
  |some m =>
   rw[em] at hx;cases hx;have hi:=(ao.mp em).1;have ed:ms.drop i=m::ms.drop (i+1):=by
    rw[dU hi]
    congr 1
    exact(ao.mp em).2
   rw[ed] at e;simp only[gm] at e;show wpS _ _ _ _ _ _;walk_at "w2";refine F1 h1 ?_;walk_at "w2";cases hc:(decide (l<=m)&&decide (m<=7)) with
   |true =>
    rw[hc,pI] at e;show wpS _ _ _ _ _ _;walk_at "w2";exact⟨rfl,m+1,some (.int m),rfl,e⟩
   |false =>
    rw[hc,Bool.false_and] at e;rw[e] at h;show wpS _ _ _ _ _ _;walk_at "w2";exact h
 ·obtain⟨rfl,l,z,rfl,e⟩:=p;rw[eU (by simp)] at e;simp only[gm] at e;rw[e] at h;show wpS _ _ _ _ _ _;walk_at "w2";exact h
theorem RE(h3:T 3=some xt){a:Nat}{ns:List Int}(hg:g[a]?=some (.nT (ns.map .int)))(h:∀d g',i4 g' d->g.length<=d->(∀i,i<g.length->g'[i]?=g[i]?)->Q (.ref d) g'):c5 T (k+1) 3 [.ref a] g Q E:=by
 refine call_of h3 rfl ?_;dsimp[xt,c6,List.replicate];walk_at "w2";refine AL (Xe hg) ?_;walk_at "w2";refine Jm (l:=cut (ns.map D.int) none (some 63)) (a7 (by simp)) ?_;walk_at "w2";have ec:cut (ns.map D.int) none (some 63)=(cut ns none (some 63)).map D.int:=by
  unfold cut;simp[List.map_take,List.map_drop]
 refine h _ _ ⟨g.length+1,0,0,29,cut ns none (some 63),?_,?_,?_,by decide,by decide,by decide,by decide⟩ (by simp) (λi hi=>?_)
 ·simp
 ·rw[<- ec];simp
 ·simp
 ·simp[List.getElem?_append,hi,Nat.lt_of_lt_of_le hi (by omega:g.length<=g.length+1),Nat.lt_of_lt_of_le hi (by omega:g.length<=g.length+1+1)]
end
theorem Jk:∀{ms:List Int} {l:Int},ms.Pairwise (· < ·)->(∀m∈ms,l<=m/\m<=7)->gm l ms=true
 |[],_,_,_=>rfl
 |m::r,l,hp,h=>by
  obtain⟨h1,h2⟩:=jG.mp hp;have hm:=h m (by simp);simp only[gm];rw[aA hm.1,aA hm.2,Jk h2 λx hx=>⟨by have:=h1 x hx;omega,(h x (by simp[hx])).2⟩]
  rfl
theorem K0{α:Type}{l:List α}{r:Int}(h0:0<=r)(h1:r<l.length):∃v,fL l r=some v/\v∈l:=by
 have hi:r.toNat<l.length:=by omega
 refine⟨l[r.toNat],?_,bT hi⟩;have:=B8 (xs:=l) (j:=r.toNat) (v:=l[r.toNat]) (aj hi)
 rwa [show((r.toNat:Nat):Int)=r by omega] at this
section
variable{T:Nat->Option ba}{k d:Nat}{g:G}{Q:KD}{E:KX}
theorem Iq(h7:T 7=some C3){a b:Bool}(h:Q (.bl (a==b)) g):c5 T (k+1) 7 [.bl a,.bl b] g Q E:=by
 refine call_of h7 rfl ?_;dsimp[C3,c6,List.replicate];walk_at "w2";walk_at "w2";refine fW (c:="bool") (b:=true) (by decide) rfl ?_;walk_at "w2";refine fW (c:="bool") (b:=true) (by decide) rfl ?_;walk_at "w2";exact h
end
def A8:ba:=⟨1,8,(.seq (.kD (.many [1,2,3,4,5]) aL) (.seq (.set 6 (.dy (.call 1 (ia bh (bf 1) (bf 99))) (.call 2 (fb bp)))) (.seq (.set 7 (.dy (.call 1 (ia bP (bf 1) (bf 99))) (.call 2 (fb cU)))) (.seq (.ret (.dy eM (.dy fV (.call 1 (ia dR (bf 0) (bf 9999)))))) .pass))))⟩
structure a9 where
 lo:Int
 lm:List Int
 up:Int
 um:List Int
 yr:Int
def a9.d(c:a9):D:=.tup [.int c.lo,.tup (c.lm.map .int),.int c.up,.tup (c.um.map .int),.int c.yr]
def A9(c:a9):Bool:=((decide (1<=c.lo)&&decide (c.lo<=99))&&gm 0 c.lm)&&(((decide (1<=c.up)&&decide (c.up<=99))&&gm 0 c.um)&&(decide (0<=c.yr)&&decide (c.yr<=9999)))
section
variable{T:Nat->Option ba}{k d:Nat}{g:G}{Q:KD}{E:KX}
theorem Zp(h1:NF T)(h2:T 2=some F4)(rW:T 12=some A8){c:a9}(h:Q (.bl (A9 c)) g):c5 T (k+4) 12 [c.d] g Q E:=by
 refine call_of rW rfl ?_;dsimp[A8,c6,List.replicate,a9.d];walk_at "w3";refine F1 h1 ?_;have s1:∀b:Bool,b=((decide (1<=c.lo)&&decide (c.lo<=99))&&gm 0 c.lm)->wpS (c5 T (k+3)) (i7 (i7 A8.body)) ⟨λ_ g'=>Q .bC g',Q,λ_ _=>False,λ_ _=>False⟩ [some c.d,some (.int c.lo),some (.tup (c.lm.map .int)),some (.int c.up),some (.tup (c.um.map .int)),some (.int c.yr),some (.bl b),none] g E:=by
  intro b hb;dsimp[A8,i7];walk_at "w3";refine F1 h1 ?_;have s2:∀b':Bool,b'=((decide (1<=c.up)&&decide (c.up<=99))&&gm 0 c.um)->wpS (c5 T (k+3)) (i7 (i7 (i7 A8.body))) ⟨λ_ g'=>Q .bC g',Q,λ_ _=>False,λ_ _=>False⟩ [some c.d,some (.int c.lo),some (.tup (c.lm.map .int)),some (.int c.up),some (.tup (c.um.map .int)),some (.int c.yr),some (.bl b),some (.bl b')] g E:=by
   intro b' kd;dsimp[A8,i7];have e:A9 c=(b&&(b'&&(decide (0<=c.yr)&&decide (c.yr<=9999)))):=by unfold A9;rw[hb,kd]
   rw[e] at h;walk_at "w3";cases b
   ·exact pq h
   ·refine kZ ?_;walk_at "w3";cases b'
    ·exact pq h
    ·refine kZ ?_;walk_at "w3";exact F1 h1 h
  refine Ba ?_;cases hc:(decide (1<=c.up)&&decide (c.up<=99)) with
  |false=>exact pq (s2 false (by rw[hc];rfl))
  |true =>
   refine kZ ?_;walk_at "w1";walk_at "w1";walk_at "w1";walk_at "w1";exact Hz h1 h2 (s2 _ (by rw[hc];rfl))
 refine Ba ?_;cases hc:(decide (1<=c.lo)&&decide (c.lo<=99)) with
 |false=>exact pq (s1 false (by rw[hc];rfl))
 |true =>
  refine kZ ?_;walk_at "w1";walk_at "w1";walk_at "w1";walk_at "w1";exact Hz h1 h2 (s1 _ (by rw[hc];rfl))
end
def R9:ba:=⟨2,5,(.seq (.set 2 (du .list bh)) (.seq (.set 3 (.prim .lst .nil)) (.seq (.de (.one 4) (.dS (du .len bh)) (.seq (.expr (.eE .append bP (fb (.eE .pop bp (fb (.call 4 (dc aL (du .len bp)))))))) .pass)) (.seq (.ret bP) .pass))))⟩
theorem Ha{α:Type}:∀{l:List α} {j:Nat} (h:j<l.length),(l[j]::l.eraseIdx j).Perm l
 |a::r,0,_=>by simp
 |a::r,j+1,h=>by
  simp only[List.getElem_cons_succ,List.eraseIdx_cons_succ];exact(List.Perm.swap _ _ _).trans ((Ha (l:=r) (j:=j) (by simpa using h)).cons a)
theorem Gr.J7{d x:Nat}{g g':G}{o:O}(h:Gr d g g')(hx:g.length<=x):Gr d g (g'.set x o):=⟨by simp[h.len],λi h1 h2=>by rw[ax (by omega)];exact h.old i h1 h2⟩
theorem i4.J7{g:G}{d x:Nat}{o:O}(h:i4 g d)(hx:d<x):i4 (g.set x o) d:=by
 obtain⟨s,p,b,r,xs,e1,e2,hs,q⟩:=h.ex;exact⟨s,p,b,r,xs,by rw[ax (by omega)];exact e1,by rw[ax (by omega)];exact e2,hs,q⟩
theorem b0{g:G}{o:O}:(g++[o])[g.length]?=some o:=by simp
theorem m5{g:G}{i:Nat}{o o':O}(h:g[i]?=some o):(g++[o'])[i]?=some o:=by rw[aF (j7 h)];exact h
theorem get_set{g:G}{i:Nat}{o o':O}(h:g[i]?=some o):(g.set i o')[i]?=some o':=aW (j7 h)
theorem d0{g:G}{i j:Nat}{o o':O}(h:g[i]?=some o)(hn:j≠i):(g.set j o')[i]?=some o:=by rw[ax hn];exact h
section
variable{T:Nat->Option ba}{k d:Nat}{g:G}{Q:KD}{E:KX}
theorem Hn(h4:T 4=some E4)(Ab:T 21=some R9){a:Nat}{l:List D}(ha:g[a]?=some (.lst l))(hl:l.length<=1000)(hd:a≠d)(D0:i4 g d)(h:∀(l':List D) b g',l'.Perm l->g'[b]?=some (.lst l')->g.length<=b->i4 g' d->Gr d g g'->Q (.ref b) g'):c5 T (k+2) 21 [.ref d,.ref a] g Q E:=by
 refine call_of Ab rfl ?_;dsimp[R9,c6,List.replicate];walk_at"";refine Jm (a7 ha) ?_;walk_at"";have dl:=D0.lt;refine u3 (a8 T _) (S4 (a8 T _) ?_);walk_at"";have wW:(g++[O.lst l]++[O.lst []])[a]?=some (.lst l):=m5 (m5 ha);refine F6 (a7 wW) ?_;refine ⟨_,rfl,by omega,by omega,i0 0 l.length,λi Z g'=>∃ left found w,Z=[some (.ref d),some (.ref a),some (.ref g.length),some (.ref (g.length + 1)),w]/\(left ++ found).Perm l/\left.length + i=l.length/\g'[g.length]?=some (.lst left)/\g'[g.length + 1]?=some (.lst found)/\i4 g' d/\Gr d g g',
  λi Z g p=>n8,?_,λi x Z g' hx p=>?_,λZ g' p=>?_⟩
 ·refine⟨l,[],none,?_,by simp,by simp,?_,?_,(D0.snoc _).snoc _,(Gr.snoc _ _ _).trans (Gr.snoc _ _ _)⟩
  ·simp
  ·exact m5 b0
  ·have:=b0 (g:=g++[O.lst l]) (o:=O.lst []);simpa using this
 ·obtain⟨left,found,w,rfl,hp,hn,e1,e2,D1,G1⟩:=p;obtain⟨hi,rfl⟩:=t8 hx;show wpS _ _ _ _ _ _;walk_at"";refine d8 (n:=(left.length:Int)) h4 D1 (by omega) (by omega) λr g2 r0 r1 D2 G2=>?_;have f1:=G2.at (by omega) e1;have f2:=G2.at (by omega) e2;have hr:r.toNat<left.length:=by omega
  walk_at"";refine Vv (j:=r.toNat) f1 (by omega) (aj hr) (by omega) ?_;walk_at"";refine O7 (d0 f2 (by omega)) ?_ ?_
  ·have:=hp.length_eq;simp at this;omega
  walk_at"";refine⟨_,_,_,rfl,?_,?_,d0 (get_set f1) (by omega),get_set (d0 f2 (by omega)),(D2.J7 (by omega)).J7 (by omega),((G1.trans G2).J7 (by omega)).J7 (by omega)⟩
  ·refine List.Perm.trans ?_ hp;have:=Ha hr;refine List.Perm.trans ?_ (List.Perm.append_right found this);simp only[List.cons_append];rw[<- eV];exact(List.perm_append_singleton _ _)
  ·rw[fS hr];omega
 ·obtain⟨left,found,w,rfl,hp,hn,e1,e2,D1,G1⟩:=p;show wpS _ _ _ _ _ _;walk_at"";rw[j4] at hn;have:left=[]:=df (by omega);subst this;exact h _ _ _ (by simpa using hp) e2 (by omega) D1 G1
end
def Z8:ba:=⟨1,5,(.seq (.set 1 (.prim .lst (MI (.prim .tup .nil) (du .tup (bf 0)) (bW .tup (bf 0) (bf 1)) (du .tup (bf 1)) (.prim .tup (ia (bf 0) (bf 1) (bf 2))) (.prim .tup (rn (bf 0) (bf 1) (bf 2) (bf 7))) (du .tup (bf 2))))) (.seq (.set 2 (cJ bh (.call 4 (dc aL (cJ (bW .tup (bf 4) (bf 7)) (du .int (bW (.cmp .Eq) (.call 4 (dc aL (bf 4))) (bf 0)))))))) (.seq (.set 3 (cJ bh (.call 4 (dc aL (bf 5))))) (.seq (.set 4 (cJ (.prim .lst (ER (bf 0) (bf 0) (bf 1400) (bf 1400) (bf 1401) (bf 1))) (.call 4 (dc aL (bf 6))))) (.seq (.ret (.prim .tup (tB (bW (.bin .Add) (bf 1) (.call 4 (dc aL (bf 3)))) bp (bW (.bin .Add) (bf 1) (.call 4 (dc aL (bf 4)))) bP cU))) .pass)))))⟩
def F3:ba:=⟨4,4,(.seq (.ifs (.jt (dJ .Eq (du .len bh) (bf 0)) (.dy (dJ .Lt (du .len bh) bP) (dJ .Eq (.call 4 (dc aL (bf 3))) (bf 0)))) (.seq (.expr (.eE .append bh (fb bp))) (.seq (.ret (bW (.bin .Add) bp (bf 1))) .pass)) .pass) (.seq (.ifs (dJ .Eq (.call 4 (dc aL (bf 5))) (bf 0)) (.seq (.dY bh (.call 4 (dc aL (du .len bh))) bp) (.seq (.ret (bW (.bin .Add) bp (bf 1))) .pass)) .pass) (.seq (.ret bp) .pass)))⟩
structure jl(c:a9):Prop where
 good:A9 c=true
 l8:c.lm.length<=8
 u8:c.um.length<=8
theorem jl.mk'{lo up yr:Int}{lm um:List Int}(h1:1<=lo)(h2:lo<=99)(h3:1<=up)(h4:up<=99)(h5:0<=yr)(h6:yr<=9999)(h7:gm 0 lm=true)(h8:gm 0 um=true)(h9:lm.length<=8)(EO:um.length<=8):jl ⟨lo,lm,up,um,yr⟩:=by
 refine⟨?_,h9,EO⟩;simp only[A9,h7,h8,decide_eq_true h1,decide_eq_true h2,decide_eq_true h3,decide_eq_true h4,decide_eq_true h5,decide_eq_true h6]
 rfl
theorem jl.inv{c:a9}(h:jl c):(1<=c.lo/\c.lo<=99)/\gm 0 c.lm=true/\(1<=c.up/\c.up<=99)/\gm 0 c.um=true/\0<=c.yr/\c.yr<=9999:=by
 have:=h.good;unfold A9 at this;simp only[Bool.and_eq_true,decide_eq_true_eq] at this;obtain⟨⟨⟨a,b⟩,e⟩,⟨⟨c',d⟩,f⟩,p,q⟩:=this;exact⟨⟨a,b⟩,e,⟨c',d⟩,f,p,q⟩
def M5:List (List Int):=[[],[0],[0,1],[1],[0,1,2],[0,1,2,7],[2]]
theorem Rq:∀ms∈M5,gm 0 ms=true/\ms.length<=8:=by decide
theorem Iu{r:Int}(h0:0<=r)(h7:r<7):∃ms,fL (M5.map λms=>D.tup (ms.map .int)) r=some (.tup (ms.map .int))/\gm 0 ms=true/\ms.length<=8:=by
 obtain⟨v,hv,hm⟩:=K0 (l:=M5.map λms=>D.tup (ms.map .int)) h0 (by simpa[M5] using h7);obtain⟨ms,h1,rfl⟩:=aQ.mp hm;exact⟨ms,hv,Rq ms h1⟩
section
variable{T:Nat->Option ba}{k d:Nat}{g:G}{Q:KD}{E:KX}
theorem YQ(h4:T 4=some E4)(MA:T 22=some Z8)(D0:i4 g d)(h:∀c g',jl c->i4 g' d->Gr d g g'->Q c.d g'):c5 T (k+2) 22 [.ref d] g Q E:=by
 refine call_of MA rfl ?_;dsimp[Z8,c6,List.replicate];have dl:=D0.lt;walk_at"";have D1:=D0.snoc (.lst (M5.map λms=>D.tup (ms.map .int)));have G1:=Gr.snoc d g (.lst (M5.map λms=>D.tup (ms.map .int)));have e1:(g++[O.lst (M5.map λms=>D.tup (ms.map .int))])[g.length]?=some (.lst (M5.map λms=>D.tup (ms.map .int))):=b0;show c5 _ _ _ _ (g++[O.lst (M5.map λms=>D.tup (ms.map .int))]) _ _;generalize g++[O.lst (M5.map λms=>D.tup (ms.map .int))]=g1 at *;refine d8 h4 D1 (by decide) (by decide) λr g2 r0 r1 D2 G2=>?_;walk_at"";have e2:=G2.at (by omega) e1;have hn:∃n:Int,fL [D.int 4,D.int 7] (if decide (r=0)=true then 1 else 0)=some (.int n)/\0<n/\n<=7:=by
  by_cases hr:r=0
  ·exact⟨7,by rw[aA hr];rfl,by decide,by decide⟩
  ·exact⟨4,by rw[az hr];rfl,by decide,by decide⟩
 obtain⟨n,en,n0,n7⟩:=hn;refine q9 en ?_;walk_at"";refine d8 h4 D2 n0 (by omega) λr3 g3 gZ ic D3 G3=>?_;have e3:=G3.at (by omega) e2;obtain⟨lm,el,gl,ll⟩:=Iu gZ (by omega);refine m7 (a7 e3) el ?_;walk_at"";refine d8 h4 D3 (by decide) (by decide) λr4 g4 tM wB D4 G4=>?_;have e4:=G4.at (by omega) e3;obtain⟨um,eu,gu,lu⟩:=Iu tM (by omega);refine m7 (a7 e4) eu ?_;walk_at"";have e5:(g4++[O.lst [.int 0,.int 0,.int 1400,.int 1400,.int 1401,.int 1]])[g4.length]?=some (.lst [.int 0,.int 0,.int 1400,.int 1400,.int 1401,.int 1]):=b0;refine d8 h4 (D4.snoc _) (by decide) (by decide) λr5 g5 kq ko D5 G5=>?_;have e6:=G5.at (by have:=D4.lt;omega) e5;obtain⟨v,hv,hm⟩:=K0 (l:=[D.int 0,.int 0,.int 1400,.int 1400,.int 1401,.int 1]) kq (by simpa using ko);have hy:∃y:Int,v=.int y/\0<=y/\y<=9999:=by
  simp only[List.mem_cons,List.mem_nil_iff,or_false] at hm;rcases hm with rfl|rfl|rfl|rfl|rfl|rfl<;>exact⟨_,rfl,by decide,by decide⟩
 obtain⟨y,rfl,y0,y1⟩:=hy;refine m7 (a7 e6) hv ?_;walk_at"";refine d8 h4 D5 (by decide) (by decide) λr6 g6 DI DH D6 G6=>?_;walk_at"";refine d8 h4 D6 (by decide) (by decide) λr7 g7 r70 r71 D7 G7=>?_;walk_at"";exact h ⟨1+r6,lm,1+r7,um,y⟩ _ (jl.mk' (by omega) (by omega) (by omega) (by omega) y0 y1 gl gu ll lu) D7 (G1.trans (G2.trans (G3.trans (G4.trans ((Gr.snoc _ _ _).trans (G5.trans (G6.trans G7)))))))
def BV(l:List D)(f:Int):Prop:=∃ns:List Int,l=ns.map .int/\∀n∈ns,1<=n/\n<f
theorem XJ(h4:T 4=some E4)(oQ:T 23=some F3){a:Nat}{l:List D}{f v:Int}(ha:g[a]?=some (.lst l))(hl:l.length<1000)(hs:BV l f)(f1:1<=f)(hd:d<a)(D0:i4 g d)(h:∀(l':List D) (f':Int) g',l'≠[]->l'.length<=l.length+1->BV l' f'->f<=f'->f'<=f+1->g'[a]?=some (.lst l')->i4 g' d->(∀i,i≠d->i≠a->i<g.length->g'[i]?=g[i]?)->g.length<=g'.length->Q (.int f') g'):c5 T (k+2) 23 [.ref d,.ref a,.int f,.int v] g Q E:=by
 refine call_of oQ rfl ?_;have dl:=D0.lt;obtain⟨ns,rfl,qd⟩:=id hs;have app:∀g':G,g'[a]?=some (.lst (ns.map D.int))->i4 g' d->Gr d g g'->wpS (c5 T (k+1)) (.seq (.expr (.eE .append (.var 1) (.cons (.var 2) .nil))) (.seq (.ret (.prim (.bin .Add) (.cons (.var 2) (.cons (.lit (.int 1)) .nil)))) .pass)) ⟨λhZ g1=>wpS (c5 T (k+1)) (i7 F3.body) ⟨λ_ g'=>Q .bC g',Q,λ_ _=>False,λ_ _=>False⟩ hZ g1 E,Q,λ_ _=>False,λ_ _=>False⟩ [some (.ref d),some (.ref a),some (.int f),some (.int v)] g' E:=by
  intro g' e D1 G1;walk_at"";refine O7 e (by simp at hl ⊢;omega) ?_;walk_at"";refine h _ _ _ (by simp) (by simp) ⟨ns++[f],by simp,λn hn=>?_⟩ (by omega) (by omega) (get_set e) (D1.J7 hd) (λi h1 h2 h3=>?_) (by simp[G1.len])
  ·rcases aV.mp hn with z|z
   ·have:=qd n z;omega
   ·simp at z;omega
  ·rw[ax (bE h2)];exact G1.old i h1 h3
 have rest:∀g':G,g'[a]?=some (.lst (ns.map D.int))->ns≠[]->i4 g' d->Gr d g g'->wpS (c5 T (k+1)) (i7 F3.body) ⟨λ_ g'=>Q .bC g',Q,λ_ _=>False,λ_ _=>False⟩ [some (.ref d),some (.ref a),some (.int f),some (.int v)] g' E:=by
  intro g' e dG D1 G1;dsimp[F3,i7];walk_at"";refine d8 h4 D1 (by decide) (by decide) λr g2 r0 r1 D2 G2=>?_;have e2:=G2.at (by omega) e;have hlen:0<ns.length:=Dq.mpr dG;walk_at"";refine if2 (λc=>?_) (λc=>?_)
  ·walk_at"";rw[ak];refine d8 h4 D2 (by omega) (by simp at hl;omega) λr3 g3 gZ ic D3 G3=>?_;have e3:=G3.at (by omega) e2;have hj:kr (ns.map D.int).length r3=some r3.toNat:=by
    unfold kr;rw[aK gZ,aK (by rw[ak];exact ic)]
   refine T6 e3 hj ?_;walk_at"";refine h _ _ _ (by simp[dG]) (by simp) ⟨ns.set r3.toNat f,by simp,λn hn=>?_⟩ (by omega) (by omega) (get_set e3) (D3.J7 hd) (λi h1 h2 h3=>?_) (by simp[((G1.trans G2).trans G3).len])
   ·rcases oj hn with z|z
    ·have:=qd n z;omega
    ·omega
   ·rw[ax (bE h2)];exact((G1.trans G2).trans G3).old i h1 h3
  ·walk_at"";exact h _ _ _ (by simp[dG]) (by simp) hs (by omega) (by omega) e2 D2 (λi h1 h2 h3=>(G1.trans G2).old i h1 h3) (G1.trans G2).len
 dsimp[F3,c6,List.replicate];walk_at"";refine if2 (λc=>?_) (λc=>?_)
 ·refine kZ ?_;exact app g ha D0 (Gr.refl _ _)
 ·have dG:ns≠[]:=λz=>c (by rw[z];rfl);walk_at"";refine if2 (λc2=>?_) (λc2=>?_)
  ·walk_at"";refine d8 h4 D0 (by decide) (by decide) λr g2 r0 r1 D2 G2=>?_;walk_at"";refine if2 (λc3=>?_) (λc3=>?_)
   ·exact app g2 (G2.at (by omega) ha) D2 G2
   ·walk_at "w1";exact rest g2 (G2.at (by omega) ha) dG D2 G2
  ·walk_at "w1";walk_at "w1";exact rest g ha dG D0 (Gr.refl _ _)
end
def F2:ba:=⟨3,17,(.seq (.set 3 (.prim .lst .nil)) (.seq (.set 4 (bf 1)) (.seq (.set 5 (.prim .og .nil)) (.seq (.set 6 (cJ (.prim .lst (ia (bf 0) (bf 1) (bf 1350))) (.call 4 (dc aL (bf 3))))) (.seq (.set 7 (bW (.bin .Add) (bf 1) (.call 4 (dc aL (bf 96))))) (.seq (.set 8 (bW (.bin .Add) (bf 2) (.call 4 (dc aL (bf 4))))) (.seq (.set 9 (bW .max (bf 0) (bW (.bin .Sub) (.call 4 (dc aL (bf 9))) (bf 6)))) (.seq (.set 10 (.prim .lst .nil)) (.seq (.de (.one 11) (.dS bh) (.seq (.set 4 (.call 23 (rn aL bP cU bp))) (.seq (.set 12 (bW .tup (cJ bP (.call 4 (dc aL (du .len bP)))) (bW (.bin .Add) (bf 50) (.call 4 (dc aL (bW (.bin .Add) (bf 2) bp)))))) (.seq (.de (.one 13) (.eO kF) (.seq (.ifs (dJ .Eq (.call 4 (dc aL mr)) (bf 0)) (.seq (.set 14 (.call 4 (dc aL (bf 8)))) (.seq (.dY dR ue (du .tuple (.comp [13,14,5] 5 (.one 4) (.dS (bf 8)) (.jt (dJ .Eq cU bh) (dJ .In cU (.eE .get bp (dc aL (.prim .tup .nil))))) cU))) .pass)) .pass) .pass)) (.seq (.ifs (dJ .Eq (.call 4 (dc aL (bf 5))) (bf 0)) (.seq (.set 6 (bW .min (bf 9999) (bW (.bin .Add) (bW (.bin .Add) eM (bf 1)) (.call 4 (dc aL (bf 9)))))) .pass) .pass) (.seq (.set 15 (.comp [9,7] 4 (.one 3) (.eO kF) .no (bW (.bin .Add) (bW (.bin .Add) (bf 1) aL) (bW (.bin .Mod) (bW (.bin .Mult) bP bh) (bf 97))))) (.seq (.set 16 (bW (.bin .Mult) eM (du .int (bW (.cmp .Gt) (.call 4 (dc aL (bf 4))) (bf 0))))) (.seq (.expr (.eE .append oE (fb (.prim .tup (tB (cJ oB (bf 0)) (.eE .get dR (dc (cJ kF (bf 0)) (.prim .tup .nil))) (cJ oB (bf 1)) (.eE .get dR (dc (cJ kF (bf 1)) (.prim .tup .nil))) ud))))) .pass)))))))) (.seq (.ret oE) .pass))))))))))⟩
def nY(kvs:List (Key×D)):Prop:=∀k v,p6 kvs k=some v->∃ms:List Int,v=.tup (ms.map .int)/\gm 0 ms=true/\ms.length<=8
theorem WH(kvs:List (Key×D))(k k':Key)(v:D):p6 (putD kvs k v) k'=if k'=k then some v else p6 kvs k':=by
 unfold putD;split
 ·rename_i qk;have go:∀l:List (Key×D),p6 (l.map λkv=>if kv.1=k then(kv.1,v) else kv) k'=if k'=k then(if(l.any λkv=>decide (kv.1=k))=true then some v else none) else p6 l k':=by
   intro l
   induction l with
   |nil=>simp[p6]
   |cons p r ih =>
    obtain⟨pk,pv⟩:=p;by_cases e:pk=k
    ·subst e;by_cases e2:k'=pk
     ·subst e2;simp[p6]
     ·have:¬pk=k':=λz=>e2 z.symm;unfold p6 at ih ⊢;simp[this,e2] at ih ⊢;exact ih
    ·by_cases e2:k'=k
     ·subst e2;unfold p6 at ih ⊢;rw[fo,show decide (pk=k')=false from az e,pJ];simp[e] at ih ⊢;exact ih
     ·unfold p6 at ih ⊢;simp only[List.map_cons,e,if_false,List.find?_cons];by_cases e3:pk=k'
      ·simp[e3,e2]
      ·simp[e3];simp[e2] at ih;simp[e2];exact ih
  rw[go,qk]
  rfl
 ·rename_i qk;unfold p6;rw[kj];by_cases e:k'=k
  ·subst e;have:kvs.find? (λkv=>decide (kv.1=k'))=none:=by
    rw[jI];intro x hx hd;exact qk (aR.mpr ⟨x,hx,hd⟩)
   rw[this];simp
  ·have:¬k=k':=λz=>e z.symm;simp[this,e]
theorem a21(kvs:List (Key×D))(k:Key)(v:D):(putD kvs k v).length<=kvs.length+1:=by
 unfold putD;split<;>simp
theorem nY.put{kvs:List (Key×D)}{k:Key}{ms:List Int}(h:nY kvs)(h1:gm 0 ms=true)(h2:ms.length<=8):nY (putD kvs k (.tup (ms.map .int))):=λk' v hv=>by
 rw[WH] at hv;split at hv
 ·cases hv;exact⟨ms,rfl,h1,h2⟩
 ·exact h k' v hv
theorem nY.get{kvs:List (Key×D)}(h:nY kvs)(k:Key):∃ms:List Int,(p6 kvs k).getD (.tup [])=.tup (ms.map .int)/\gm 0 ms=true/\ms.length<=8:=by
 cases e:p6 kvs k with
 |none=>exact⟨[],rfl,rfl,by simp⟩
 |some v=>obtain⟨ms,rfl,h1,h2⟩:=h k v e;exact⟨ms,rfl,h1,h2⟩
theorem WZ(p:Int->Bool):gm 0 (((List.range 8).map λ(n:Nat)=>(n:Int)).filter p)=true/\(((List.range 8).map λ(n:Nat)=>(n:Int)).filter p).length<=8:=by
 refine⟨Jk (List.Pairwise.filter _ (by decide)) λm hm=>?_,aD (iw _ _) (by decide)⟩;have:=(bj.mp hm).1;revert this;revert m;intro m _ hm;simp at hm;obtain⟨a,ha,rfl⟩:=hm;omega
theorem List.WA{α:Type}{l:List α}{i:Nat}{x:α}(h:l[i]?=some x):l.set i x=l:=by
 apply cw;intro j;by_cases e:i=j
 ·subst e;rw[aW (ao.mp h).1];exact h.symm
 ·rw[ax e]
section
variable{T:Nat->Option ba}{k d:Nat}{g:G}{Q:KD}{E:KX}
def Gg:MS:=match F2.body with
 |.seq _ (.seq _ (.seq _ (.seq _ (.seq _ (.seq _ (.seq _ (.seq _ (.seq (.de _ _ (.seq _ (.seq _ (.seq (.de _ _ b) _)))) _))))))))=>b
 |x=>x
theorem SN(h4:T 4=some E4){w0:Nat}{key wr:Int}{kvs:List (Key×D)}{Z:S}{N:Ends}(hw:g[w0]?=some (.dN kvs))(W:nY kvs)(hk:kvs.length<1000)(hr:0<wr)(oJ:wr<1000)(hd:d<w0)(D0:i4 g d)(s0:Z[0]?=some (some (.ref d)))(s5:Z[5]?=some (some (.ref w0)))(s8:Z[8]?=some (some (.int wr)))(Kn:Z[13]?=some (some (.int key)))(sl:Z.length=17)(h:∀z iC g',g'[w0]?=some (.dN iC)->nY iC->iC.length<=kvs.length+1->i4 g' d->(∀i,i≠d->i≠w0->i<g.length->g'[i]?=g[i]?)->g.length<=g'.length->N.nx (Z.set 14 z) g'):wpS (c5 T (k+1)) Gg N Z g E:=by
 obtain⟨lF,xh⟩:∃z,Z[14]?=some z:=⟨_,aj (by omega)⟩
 dsimp[Gg,F2];refine Q4 (Cq (Cs (vw (xO (Q5 (w_var s0 (Q5 (w_var s8 (xA ?_)))))))));refine d8 h4 D0 hr (by omega) λr g2 r0 r1 D2 G2=>?_;have dl:=D0.lt;walk_at"";refine if2 (λc=>?_) (λc=>?_)
 ·refine Y1 (sO (xO (Q5 (w_var s0 (Q5 (w_lit (xA ?_)))))));refine d8 h4 D2 (by decide) (by decide) λr3 g3 gZ ic D3 G3=>?_;have e3:=(G2.trans G3).at (by omega) hw;have t0:(Z.set 14 (some (.int r3)))[0]?=some (some (.ref d)):=by rw[ax (by decide)];exact s0
  have t5:(Z.set 14 (some (.int r3)))[5]?=some (some (.ref w0)):=by rw[ax (by decide)];exact s5
  have Dx:(Z.set 14 (some (.int r3)))[13]?=some (some (.int key)):=by rw[ax (by decide)];exact Kn
  have Kh:(Z.set 14 (some (.int r3)))[14]?=some (some (.int r3)):=aW (by omega);obtain⟨ms,em,_,_⟩:=W.get (.inl key);refine Q4 (IM (vt ?_));refine YN (a8 T _) (w_lit ⟨8,rfl,by decide,λi ys bN g'=>g'=g3/\ys.length<=i/\(∃z w,bN=[some (.int key),some (.int r3),some (.ref w0),z,w])/\ys=((((List.range i).map λ(n:Nat)=>(n:Int)).filter λs=>decide (s=r3)||ms.any λm=>m==s).map D.int),⟨rfl,by simp,⟨none,none,?_⟩,rfl⟩,λi ys Z g' p=>p.2.1,λi ys bN g' hi p=>?_,λys bN g' p=>?_⟩)
  ·simp[C5,Dx,Kh,t5,List.replicate]
  ·obtain⟨rfl,hl,⟨z,w,rfl⟩,e⟩:=p;have er:(List.range (i+1)).map (λ(n:Nat)=>(n:Int))=(List.range i).map (λ(n:Nat)=>(n:Int))++[(i:Int)]:=by rw[fC];simp
   have yes:(decide ((i:Int)=r3)||ms.any λm=>m==(i:Int))=true->aO (c5 T (k+1)) (.var 4) [some (.int key),some (.int r3),some (.ref w0),z,some (.int i)] g' (λy g4=>g4=g'/\(ys++[y]).length<=i+1/\(∃z' w',[some (.int key),some (.int r3),some (.ref w0),z,some (D.int i)]=[some (.int key),some (.int r3),some (.ref w0),z',w'])/\(ys++[y])=((((List.range (i+1)).map λ(n:Nat)=>(n:Int)).filter λs=>decide (s=r3)||ms.any λm=>m==s).map D.int)) iL:=λhc=>by
    walk_at"";refine⟨rfl,by simp;omega,⟨_,_,rfl⟩,?_⟩;rw[er,dn,dB,<- e];simp[hc]
   show cI _ _ _ _ _ _;walk_at"";refine if2 (λc1=>?_) (λc1=>?_)
   ·refine kZ ?_;exact yes (by rw[aA c1];rfl)
   ·walk_at"";refine Cf e3 (k:=.inl key) rfl ?_;rw[em];walk_at"";refine sk (BE ?_);walk_at"";cases hc:(ms.any λm=>m==(i:Int)) with
    |true =>
     refine kZ ?_;exact yes (by rw[hc];simp)
    |false =>
     refine pq ?_;refine⟨rfl,by omega,⟨_,_,rfl⟩,?_⟩;rw[er,dn,dB,<- e];simp[hc,c1]
  ·obtain⟨rfl,hl,_,e⟩:=p;subst e;refine NR (a7 b0) ?_;obtain⟨f1,f2⟩:=WZ λs=>decide (s=r3)||ms.any λm=>m==s
   refine w_var t5 (w_var Dx ?_);refine Jr (m5 e3) (k:=.inl key) rfl (by omega) ?_;refine h _ _ _ (get_set (m5 e3)) (W.put f1 f2) (a21 _ _ _) ((D3.snoc _).J7 hd) (λi h1 h2 h3=>?_) ?_
   ·rw[ax (bE h2),aF (ay h3 (G2.trans G3).len)];exact(G2.trans G3).old i h1 h3
   ·have:=(G2.trans G3).len;simp;omega
 ·refine E6 ?_;have e2:=G2.at (by omega) hw;have:=h lF kvs g2 e2 W (by omega) D2 (λi h1 h2 h3=>G2.old i h1 h3) G2.len
  rwa [List.WA xh] at this
end
section
variable{T:Nat->Option ba}{k d:Nat}{g:G}{Q:KD}{E:KX}
def K6:MS:=match F2.body with
 |.seq _ (.seq _ (.seq _ (.seq _ (.seq _ (.seq _ (.seq _ (.seq _ (.seq (.de _ _ b) _))))))))=>b
 |x=>x
structure iK(d s0 w0 f0 i:Nat)(g:G)(f y:Int):Prop where
 DB:∃l,g[s0]?=some (.lst l)/\BV l f/\l.length<=i
 fr:1<=f/\f<=1+i
 JW:∃kvs,g[w0]?=some (.dN kvs)/\nY kvs/\kvs.length<=2*i
 found:∃cs:List a9,g[f0]?=some (.lst (cs.map a9.d))/\cs.length=i/\∀c∈cs,jl c
 year:0<=y/\y<=9999
 dr:i4 g d
theorem Zg{s0 w0 f0 i n0:Nat}{n v f y st wr sh:Int}{wm JV JU JT yC yB:Option D}(h4:T 4=some E4)(oQ:T 23=some F3)(S:iK d s0 w0 f0 i g f y)(hi:i<=100)(hv:1<=v/\v<=100)(dE:1<=st/\st<=96)(je:0<wr/\wr<1000)(ju:0<=sh/\sh<=2)(o1:d<n0)(o2:n0<=s0)(o3:s0<w0)(o4:w0<f0){N:Ends}(h:∀f' y' tu nh lF tq tm g',iK d s0 w0 f0 (i+1) g' f' y'->(∀j,j≠d->j<n0->g'[j]?=g[j]?)->g.length<=g'.length->N.nx [some (.ref d),some (.int n),some (.int v),some (.ref s0),some (.int f'),some (.ref w0),some (.int y'),some (.int st),some (.int wr),some (.int sh),some (.ref f0),wm,tu,nh,lF,tq,tm] g') :
  wpS (c5 T (k+2)) K6 N [some (.ref d),some (.int n),some (.int v),some (.ref s0),some (.int f),some (.ref w0),some (.int y),some (.int st),some (.int wr),some (.int sh),some (.ref f0),wm,JV,JU,JT,yC,yB] g E:=by
 obtain⟨⟨l,es,hs,hl⟩,⟨f1,f2⟩,⟨kvs,ew,W,hk⟩,⟨cs,ef,hc,hg⟩,⟨y0,y1⟩,D0⟩:=S;have lf:=j7 ef;dsimp[K6,F2];walk_at"";refine XJ h4 oQ es (by omega) hs f1 (by omega) D0 λl1 f' g1 dG jg Eh f3 f5 gf D1 nJ fU=>?_;have Fb:g1[w0]?=some (.dN kvs):=(nJ w0 (by omega) (by omega) (j7 ew)).trans ew;have Fg:g1[f0]?=some (.lst (cs.map a9.d)):=(nJ f0 (by omega) (by omega) lf).trans ef;walk_at"";have fF:0<l1.length:=Dq.mpr dG;refine d8 (n:=(l1.length:Int)) h4 D1 (by omega) (by omega) λr2 g2 gL gK D2 G2=>?_;have mT:=G2.at (by omega) gf;have EZ:=G2.at (by omega) Fb;have Ff:=G2.at (by omega) Fg;obtain⟨x,hx,hm⟩:=K0 (l:=l1) gL gK;obtain⟨ns,rfl,qd⟩:=id Eh;obtain⟨k1,LH,rfl⟩:=aQ.mp hm;refine m7 (a7 mT) hx ?_;walk_at"";refine d8 (n:=2+v) h4 D2 (by omega) (by omega) λr3 g3 gZ ic D3 G3=>?_;have Aw:=G3.at (by omega) mT;have EY:=G3.at (by omega) EZ;have Az:=G3.at (by omega) Ff;walk_at"";have kb1:=qd k1 LH;have tR:∀j,j≠d->j<n0->g3[j]?=g[j]?:=λj a b=>by
  have lj:j<g.length:=by omega
  rw[G3.old j a (by have:=G2.len;(clear hi hv dE je ju o1 hl f1 f2 hk hc y0 y1 f3 f5 gL jg fF gK gZ ic kb1 a lj;omega)),G2.old j a (by omega),nJ j a (by omega) lj]
 have gM:g.length<=g3.length:=by have:=G2.len;have:=G3.len;(clear hi hv dE je ju o1 o2 o3 o4 hl f1 f2 hk hc y0 y1 lf f3 f5 gL jg fF gK gZ ic kb1;omega)
 refine u3 (a8 T _) (uj (a8 T _) ?_);walk_at"";refine ⟨_,rfl,_,λj Z g'=>∃ iC nh lF,Z=[some (.ref d),some (.int n),some (.int v),some (.ref s0),some (.int f'),some (.ref w0),some (.int y),some (.int st),some (.int wr),some (.int sh),some (.ref f0),wm,some (.tup [.int k1,.int (50 + r3)]),nh,lF,yC,yB]/\g'[w0]?=some (.dN iC)/\nY iC/\iC.length <= 2 * i + j/\i4 g' d/\(∀ j,j ≠ d->j ≠ w0->j < g3.length->g'[j]?=g3[j]?)/\g3.length <= g'.length,
  λ_ _ _ _=>n8,⟨kvs,_,_,rfl,EY,W,by omega,D3,λ_ _ _ _=>rfl,aw _⟩,λj x Z g' hx p=>?_,λZ g' p=>?_⟩
 ·obtain⟨iC,nh,lF,rfl,MW,W',nt,D',yQ,ub⟩:=p;have jV:∃key:Int,x=.int key/\j<2:=by
   match j,hx with
   |0,hx=>cases hx;exact⟨_,rfl,by decide⟩
   |1,hx=>cases hx;exact⟨_,rfl,by decide⟩
   |j+2,hx=>simp at hx
  obtain⟨key,rfl,hj⟩:=jV;show wpS _ _ _ _ _ _;refine SN (k:=k+1) h4 MW W' (by(clear hv dE je ju o1 o2 o3 o4 hl f1 f2 hk y0 y1 lf f3 f5 fU gL jg fF gK gZ ic kb1 gM ub;omega)) je.1 je.2 (by omega) D' rfl rfl rfl rfl rfl λz yY MQ e2 W2 LD D2' pW ua=>?_;exact⟨yY,_,_,rfl,e2,W2,by(clear hi hv dE je ju o1 o2 o3 o4 hl f1 f2 hk y0 y1 lf f3 f5 fU gL jg fF gK gZ ic kb1 gM ub hj ua;omega),D2',λj a b c=>(pW j a b (by omega)).trans (yQ j a b c),by(clear hi hv dE je ju o1 o2 o3 o4 hl f1 f2 hk hc y0 y1 lf f3 f5 fU gL jg fF gK gZ ic kb1 gM nt hj LD;omega)⟩
 obtain⟨uf,nh,lF,rfl,MV,W4,kz,D4,nH,iB⟩:=p;have MZ:g'[s0]?=some (.lst (ns.map D.int)):=(nH s0 (by omega) (by omega) (j7 Aw)).trans Aw;have Nb:g'[f0]?=some (.lst (cs.map a9.d)):=(nH f0 (by omega) (by omega) (j7 Az)).trans Az;have tQ:∀j,j≠d->j<n0->g'[j]?=g[j]?:=λj a b=>(nH j a (by omega) (by(clear hi hv dE je ju o1 hl f1 f2 hk hc y0 y1 f3 f5 fU gL jg fF gK gZ ic kb1 kz iB a;omega))).trans (tR j a b);clear nH tR G2 G3 gf Fb Fg mT EZ Ff Aw EY Az nJ;have kz:uf.length<=2*(i+1):=by simp at kz;(clear hi hv dE je ju o1 o2 o3 o4 hl f1 f2 hk y0 y1 lf f3 f5 fU gL jg fF gK gZ ic kb1 gM iB;omega)
 show wpS _ _ _ _ _ _;walk_at"";refine d8 h4 D4 (by decide) (by decide) λr5 g5 kq ko D5 G5=>?_;walk_at"";have tail:∀(y':Int) (g6:G),0<=y'->y'<=9999->i4 g6 d->Gr d g' g6->wpS (c5 T (k+2)) (i7 (i7 (i7 (i7 K6)))) N [some (.ref d),some (.int n),some (.int v),some (.ref s0),some (.int f'),some (.ref w0),some (.int y'),some (.int st),some (.int wr),some (.int sh),some (.ref f0),wm,some (.tup [.int k1,.int (50+r3)]),nh,lF,yC,yB] g6 E:=by
  intro y' g6 lH lG D6 G6;have MY:=G6.at (by omega) MZ;have MU:=G6.at (by omega) MV;have xf:=G6.at (by omega) Nb;dsimp[K6,F2,i7];walk_at"";refine YO (a8 T _) ?_;walk_at"";refine⟨_,rfl,by simp,λj ys Z g7=>g7=g6/\(∃z w,Z=[some (.int sh),some (.int st),z,w])/\ys=([k1,50+r3].take j).map (λkey=>D.int (1+sh+key*st % 97)),⟨rfl,⟨none,none,rfl⟩,rfl⟩,λj ys Z g7 p=>?_,λj x ys Z g7 hx p=>?_,λys Z g7 p=>?_⟩
  ·obtain⟨rfl,_,rfl⟩:=p;simp;omega
  ·obtain⟨rfl,⟨z,w,rfl⟩,rfl⟩:=p;have jV:∃key:Int,x=.int key/\([k1,50+r3].take j).map (λkey=>D.int (1+sh+key*st % 97))++[D.int (1+sh+key*st % 97)]=([k1,50+r3].take (j+1)).map (λkey=>D.int (1+sh+key*st % 97)):=by
    match j,hx with
    |0,hx=>cases hx;exact⟨_,rfl,rfl⟩
    |1,hx=>cases hx;exact⟨_,rfl,rfl⟩
    |j+2,hx=>simp at hx
   obtain⟨key,rfl,he⟩:=jV;show cI _ _ _ _ _ _;walk_at"";refine P2 (X5 (by omega) (by omega)) ?_;walk_at"";exact⟨rfl,⟨_,_,rfl⟩,he⟩
  obtain⟨rfl,_,rfl⟩:=p;have eN:(g7++[O.lst [D.int (1+sh+k1*st % 97),D.int (1+sh+(50+r3)*st % 97)]])[g7.length]?=some (.lst [D.int (1+sh+k1*st % 97),D.int (1+sh+(50+r3)*st % 97)]):=b0;show wpS _ _ _ _ (g7++[O.lst [D.int (1+sh+k1*st % 97),D.int (1+sh+(50+r3)*st % 97)]]) _;walk_at"";refine d8 h4 (D6.snoc _) (by decide) (by decide) λr8 g8 mj mh D8 G8=>?_;have l7:=D6.lt;have eN8:=G8.at (by omega) eN;have MX:=G8.at (by omega) (m5 MY);have Av:=G8.at (by omega) (m5 MU);have Fe:=G8.at (by omega) (m5 xf);walk_at"";refine P2 (CC (by omega) (by omega)) ?_;walk_at"";obtain⟨lm,el,gl,ll⟩:=W4.get (.inl k1);obtain⟨um,eu,gu,lu⟩:=W4.get (.inl (50+r3));refine Cf Av (k:=.inl k1) rfl ?_;rw[el];walk_at"";refine Cf Av (k:=.inl (50+r3)) rfl ?_;rw[eu];walk_at"";refine O7 Fe (by simp;omega) ?_;generalize jf:y'*(if decide (0<r8)=true then 1 else 0)=ty;have kW:0<=ty/\ty<=9999:=by
   rw[<- jf];split<;>simp<;>omega
  walk_at"";refine h f' y' _ _ _ _ _ _ ⟨⟨_,d0 MX (by omega),Eh,by(clear hi hv dE je ju o1 o2 o3 o4 f1 f2 hk y0 y1 lf f3 f5 fU gL fF gK gZ ic kb1 gM iB kz kq ko lH lG mj mh l7 ll lu jf kW;omega)⟩,⟨by omega,by(clear hi hv dE je ju o1 o2 o3 o4 hl f1 hk y0 y1 lf fU gL jg fF gK gZ ic kb1 gM iB kz kq ko lH lG mj mh l7 ll lu jf kW;omega)⟩,⟨uf,d0 Av (by omega),W4,kz⟩,⟨cs++[⟨1+sh+k1*st % 97,lm,1+sh+(50+r3)*st % 97,um,ty⟩],?_,by simp[hc],?_⟩,⟨lH,lG⟩,D8.J7 (by omega)⟩ (λj a b=>?_) ?_
  ·rw[get_set Fe];simp[a9.d]
  ·intro c iG;rcases aV.mp iG with z|z
   ·exact hg c z
   ·simp at z;subst z;have m1:=eI (k1*st) (show(97:Int)≠0 by decide);have m2:=dq (k1*st) (show(0:Int)<97 by decide);have m3:=eI ((50+r3)*st) (show(97:Int)≠0 by decide);have m4:=dq ((50+r3)*st) (show(0:Int)<97 by decide);exact jl.mk' (by(clear hi hv dE je o1 o2 o3 o4 hl f1 f2 hk hc y0 y1 lf f3 f5 fU gL jg fF gK gZ ic kb1 gM iB kz kq ko lH lG mj mh l7 ll lu jf kW m2 m3 m4;omega)) (by(clear hi hv dE je o1 o2 o3 o4 hl f1 f2 hk hc y0 y1 lf f3 f5 fU gL jg fF gK gZ ic kb1 gM iB kz kq ko lH lG mj mh l7 ll lu jf kW m2 m3 m4;omega)) (by(clear hi hv dE je o1 o2 o3 o4 hl f1 f2 hk hc y0 y1 lf f3 f5 fU gL jg fF gK gZ ic kb1 gM iB kz kq ko lH lG mj mh l7 ll lu jf kW m1 m2 m4;omega)) (by(clear hi hv dE je o1 o2 o3 o4 hl f1 f2 hk hc y0 y1 lf f3 f5 fU gL jg fF gK gZ ic kb1 gM iB kz kq ko lH lG mj mh l7 ll lu jf kW m1 m2 m4;omega)) kW.1 kW.2 gl gu ll lu
  ·have lj:j<g'.length:=by(clear hi hv dE je ju o1 hl f1 f2 hk hc y0 y1 f3 f5 fU gL jg fF gK gZ ic kb1 kz kq ko lH lG mj mh l7 ll lu jf kW a;omega)
   rw[ax (by(clear hi hv dE je ju o1 hl f1 f2 hk hc y0 y1 lf f3 f5 fU gL jg fF gK gZ ic kb1 gM iB kz kq ko lH lG mj mh l7 ll lu jf kW a lj;omega)),G8.old j a (by have:=G6.len;simp;(clear hi hv dE je ju o1 o2 o3 o4 hl f1 f2 hk hc y0 y1 lf f3 f5 fU gL jg fF gK gZ ic kb1 gM iB kz kq ko lH lG mj mh l7 ll lu jf kW a b;omega)),aF (by have:=G6.len;(clear hi hv dE je ju o1 o2 o3 o4 hl f1 f2 hk hc y0 y1 lf f3 f5 fU gL jg fF gK gZ ic kb1 gM iB kz kq ko lH lG mj mh l7 ll lu jf kW a b;omega)),G6.old j a lj];exact tQ j a b
  ·have:=G6.len;have:=G8.len;simp at this ⊢
   (clear hi hv dE je ju o1 o2 o3 o4 hl f1 f2 hk hc y0 y1 lf f3 f5 fU gL jg fF gK gZ ic kb1 kz kq ko lH lG mj mh l7 ll lu jf kW;omega)
 refine if2 (λc=>?_) (λc=>?_)
 ·walk_at"";refine d8 h4 D5 (by decide) (by decide) λr6 g6 DI DH D6 G6=>?_;walk_at"";generalize zd:(if y+1+r6<9999 then y+1+r6 else 9999)=y';have:0<=y'/\y'<=9999:=by rw[<- zd];split<;>omega
  exact tail y' g6 this.1 this.2 D6 (G5.trans G6)
 ·refine E6 ?_;exact tail y g5 y0 y1 D5 G5
theorem XO(h4:T 4=some E4)(oQ:T 23=some F3)(Mz:T 24=some F2){n v:Int}(hn:0<=n/\n<=100)(hv:1<=v/\v<=100)(D0:i4 g d)(h:∀(cs:List a9) a g',(cs.length:Int)=n->(∀c∈cs,jl c)->g'[a]?=some (.lst (cs.map a9.d))->g.length<=a->i4 g' d->Gr d g g'->Q (.ref a) g'):c5 T (k+3) 24 [.ref d,.int n,.int v] g Q E:=by
 refine call_of Mz rfl ?_;dsimp[F2,c6,List.replicate];have dl:=D0.lt;walk_at"";have D1:i4 (g++[O.lst []]++[O.dN []]++[O.lst [.int 0,.int 1,.int 1350]]) d:=((D0.snoc _).snoc _).snoc _;have G1:Gr d g (g++[O.lst []]++[O.dN []]++[O.lst [.int 0,.int 1,.int 1350]]):=((Gr.snoc _ _ _).trans (Gr.snoc _ _ _)).trans (Gr.snoc _ _ _);have e0:(g++[O.lst []]++[O.dN []]++[O.lst [.int 0,.int 1,.int 1350]])[g.length]?=some (.lst []):=m5 (m5 b0);have e1:(g++[O.lst []]++[O.dN []]++[O.lst [.int 0,.int 1,.int 1350]])[(g++[O.lst []]).length]?=some (.dN []):=m5 b0;have e2:(g++[O.lst []]++[O.dN []]++[O.lst [.int 0,.int 1,.int 1350]])[(g++[O.lst []]++[O.dN []]).length]?=some (.lst [.int 0,.int 1,.int 1350]):=b0;have n1:(g++[O.lst []]).length=g.length+1:=by simp
 have n2:(g++[O.lst []]++[O.dN []]).length=g.length+2:=by simp
 rw[n1] at e1 ⊢;rw[n2] at e2 ⊢;generalize g++[O.lst []]++[O.dN []]++[O.lst [.int 0,.int 1,.int 1350]]=g1 at *;refine d8 h4 D1 (by decide) (by decide) λr2 g2 gL gK D2 G2=>?_;have Nk:=G2.at (by omega) e0;have mU:=G2.at (by omega) e1;have Nf:=G2.at (by omega) e2;obtain⟨x,hx,hm⟩:=K0 (l:=[D.int 0,.int 1,.int 1350]) gL (by simpa using gK);have hy:∃y:Int,x=.int y/\0<=y/\y<=9999:=by
  simp only[List.mem_cons,List.mem_nil_iff,or_false] at hm;rcases hm with rfl|rfl|rfl<;>exact⟨_,rfl,by decide,by decide⟩
 obtain⟨y,rfl,y0,y1⟩:=hy;refine m7 (a7 Nf) hx ?_;walk_at"";refine d8 h4 D2 (by decide) (by decide) λr3 g3 gZ ic D3 G3=>?_;walk_at"";refine d8 h4 D3 (by decide) (by decide) λr4 g4 tM wB D4 G4=>?_;walk_at"";refine d8 h4 D4 (by decide) (by decide) λr5 g5 kq ko D5 G5=>?_;have yp:=G3.trans (G4.trans G5);have Nj:=yp.at (by omega) Nk;have Fi:=yp.at (by omega) mU;have l5:=(G1.trans (G2.trans yp)).len;have lw:=j7 Fi;walk_at"";generalize ju:(if r5-6>0 then r5-6 else 0)=sh;have DA:0<=sh/\sh<=2:=by rw[<- ju];split<;>omega
 have xg:(g5++[O.lst []])[g5.length]?=some (.lst []):=b0;refine u3 (a8 T _) (S4 (a8 T _) ?_);walk_at"";refine ⟨by omega,by omega,i0 0 n.toNat,λi Z g'=>∃ f' y' yx tu nh lF tq tm,Z=[some (.ref d),some (.int n),some (.int v),some (.ref g.length),some (.int f'),some (.ref (g.length + 1)),some (.int y'),some (.int (1 + r3)),some (.int (2 + r4)),some (.int sh),some (.ref g5.length),yx,tu,nh,lF,tq,tm]/\iK d g.length (g.length + 1) g5.length i g' f' y'/\Gr d g g',
  λ_ _ _ _=>n8,⟨1,y,none,none,none,none,none,none,rfl,⟨⟨[],m5 Nj,⟨[],rfl,by simp⟩,by simp⟩,⟨by omega,by omega⟩,⟨[],m5 Fi,(λk v hv=>by cases hv),by simp⟩,⟨[],xg,rfl,by simp⟩,⟨y0,y1⟩,D5.snoc _⟩,(G1.trans (G2.trans yp)).trans (Gr.snoc _ _ _)⟩,λi x Z g' hx p=>?_,λZ g' p=>?_⟩
 ·obtain⟨f',y',yx,tu,nh,lF,tq,tm,rfl,S,G'⟩:=p;obtain⟨hi,rfl⟩:=t8 hx;show wpS _ K6 _ _ _ _;refine Zg (n0:=g.length) h4 oQ S (by omega) hv ⟨by omega,by omega⟩ ⟨by omega,by omega⟩ DA dl (aw _) (by omega) (by omega) λf2 y2 a b c e f g2 S2 pW ua=>?_;exact⟨f2,y2,_,_,_,_,_,_,rfl,S2,⟨by have:=G'.len;(clear hn hv dl gL gK y0 y1 gZ ic tM wB kq ko l5 lw ju DA hi;omega),λj h1 h2=>(pW j h1 h2).trans (G'.old j h1 h2)⟩⟩
 ·obtain⟨f',y',yx,tu,nh,lF,tq,tm,rfl,S,G'⟩:=p;show wpS _ _ _ _ _ _;walk_at"";obtain⟨cs,ef,hc,hg⟩:=S.found;rw[j4] at hc;exact h cs _ _ (by omega) hg ef (by omega) S.dr G'
end
def xW:ba:=⟨2,8,(.seq (.set 2 (bW .jT (bf 1) (bW (.bin .Add) (bW (.bin .Add) (bW (.bin .FloorDiv) bh (bf 2)) (bW (.bin .Mod) bh (bf 2))) (bf 1)))) (.seq (.set 3 (bW (.bin .Add) bp (bW (.kY false true) (.call 21 (dc aL bp)) (bW (.bin .FloorDiv) bh (bf 2))))) (.seq (.set 4 (.call 4 (dc aL (bf 3)))) (.seq (.set 5 (.prim .lst .nil)) (.seq (.de (.one 6) (.dS bh) (.seq (.set 7 (cJ (.prim .lst (ia (bW (.bin .Add) (bf 1000) eM) (bf 0) (bW (.bin .Add) (bf 1) (bW (.bin .FloorDiv) (bW (.bin .Mult) (bf 2) eM) (bW .max (bf 1) bh))))) cU)) (.seq (.expr (.eE .append dR (fb (.prim .tup (tB (cJ bP eM) (.prim .tup .nil) (bW (.bin .Add) (bf 1) (.call 4 (dc aL (bf 9)))) (.prim .tup .nil) fV))))) .pass))) (.seq (.ret dR) .pass))))))⟩
def O8:ba:=⟨2,9,(.seq (.set 2 (.call 4 (dc aL (bW (.bin .Add) bh (bf 1))))) (.seq (.set 3 (bW (.bin .Add) (bf 1) (.call 4 (dc aL (bf 3))))) (.seq (.set 4 (.call 4 (dc aL (bf 5)))) (.seq (.ifs (dJ .Eq cU (bf 0)) (.seq (.ret (bW .tup (.comp [0] 3 (.one 2) (.dS bp) .no (.call 22 (fb aL))) bP)) .pass) .pass) (.seq (.ifs (dJ .Eq cU (bf 4)) (.seq (.set 3 (bW (.bin .Add) (bf 1) (.call 4 (dc aL (bf 6))))) .pass) .pass) (.seq (.set 5 (.ite (dJ .Eq cU (bf 4)) (.call 25 (dc aL bp)) (.call 24 (ia aL bp bP)))) (.seq (.set 5 (.comp [5] 3 (.one 2) (.eO (.call 21 (dc aL (du .jd bp)))) .no (cJ aL bp))) (.seq (.ifs (.dy (dJ .Eq cU (bf 1)) (dJ .Gt bp (bf 0))) (.seq (.set 6 (.call 4 (dc aL bp))) (.seq (.set 7 (cJ dR eM)) (.seq (.set 8 (cJ dR (.call 4 (dc aL bp)))) (.seq (.dY dR eM (.prim .tup (tB (cJ fV (bf 0)) (cJ mr (bf 1)) (cJ mr (bf 2)) (cJ fV (bf 3)) (cJ (.prim .lst (ia (cJ fV (bf 4)) (cJ mr (bf 4)) (bf 9999))) (.call 4 (dc aL (bf 3))))))) .pass)))) .pass) (.seq (.ifs (dJ .Eq cU (bf 2)) (.seq (.set 3 (bf 1)) .pass) .pass) (.seq (.ret (bW .tup dR bP)) .pass))))))))))⟩
theorem Im{p:Int->Prop}:∀{l:List D},(∀x∈l,∃i:Int,x=.int i/\p i)->∃ns:List Int,l=ns.map .int/\∀i∈ns,p i
 |[],_=>⟨[],rfl,by simp⟩
 |x::r,h=>by
  obtain⟨i,rfl,hi⟩:=h x (by simp);obtain⟨ns,rfl,hn⟩:=Im (l:=r) λy hy=>h y (by simp[hy]);exact⟨i::ns,rfl,λj hj=>(aE.mp hj).elim (λz=>z▸hi) (hn j)⟩
theorem IE{lo:Int}{n:Nat}{x:D}(h:x∈i0 lo n):∃i:Int,x=.int i/\lo<=i/\i<lo+n:=by
 unfold i0 at h;obtain⟨k,hk,rfl⟩:=aQ.mp h;exact⟨_,rfl,by omega,by have:=aT.mp hk;omega⟩
theorem HG{α:Type}{l:List α}{n:Nat}(h:n<=l.length):cut l none (some (n:Int))=l.take n:=by
 have:¬((n:Int)<0):=by omega
 unfold cut HT.dg;simp[this]
theorem QU{ns:List Int}{r:Int}(h0:0<=r)(h1:r<ns.length):∃i∈ns,fL (ns.map D.int) r=some (.int i):=by
 obtain⟨v,hv,hm⟩:=K0 (l:=ns.map D.int) h0 (by simpa using h1);obtain⟨i,hi,rfl⟩:=aQ.mp hm;exact⟨i,hi,hv⟩
theorem Bp{cs:List a9}{r:Int}(h0:0<=r)(h1:r<cs.length):∃c∈cs,fL (cs.map a9.d) r=some c.d:=by
 obtain⟨v,hv,hm⟩:=K0 (l:=cs.map a9.d) h0 (by simpa using h1);obtain⟨i,hi,rfl⟩:=aQ.mp hm;exact⟨i,hi,hv⟩
section
variable{T:Nat->Option ba}{k d:Nat}{g:G}{Q:KD}{E:KX}
theorem Xs(h4:T 4=some E4)(Ab:T 21=some R9)(My:T 25=some xW){n:Int}(hn:0<=n/\n<=100)(D0:i4 g d)(h:∀(cs:List a9) a g',(cs.length:Int)=n->(∀c∈cs,jl c)->g'[a]?=some (.lst (cs.map a9.d))->g.length<=a->i4 g' d->Gr d g g'->Q (.ref a) g'):c5 T (k+3) 25 [.ref d,.int n] g Q E:=by
 refine call_of My rfl ?_;dsimp[xW,c6,List.replicate];have dl:=D0.lt;walk_at"";refine KL (i:=1) (j:=n / 2+n % 2+1) (by omega) ?_;walk_at"";have hh:∃hf:Nat,(n / 2+n % 2+1-1).toNat=hf/\(hf:Int)=n / 2+n % 2/\hf<=50:=⟨_,rfl,by omega,by omega⟩
 obtain⟨hf,LM,hh2,hh3⟩:=hh;rw[LM];have e1:(g++[O.lst (i0 1 hf)])[g.length]?=some (.lst (i0 1 hf)):=b0;refine Hn h4 Ab e1 (by rw[j4];omega) (by omega) (D0.snoc _) λl' b g2 hp e2 hb D2 G2=>?_;have mU:=G2.at (by omega) e1;walk_at"";refine AL (a7 e2) ?_;have hle:l'.length=hf:=by rw[hp.length_eq,j4]
 have hc:cut l' none (some (n / 2))=l'.take (n / 2).toNat:=by
  have:=HG (l:=l') (n:=(n / 2).toNat) (by omega)
  rwa [show(((n / 2).toNat:Nat):Int)=n / 2 by omega] at this
 rw[hc];refine xl (m5 mU) b0 (by rw[j4,cj];omega) ?_;obtain⟨rl,er,hr⟩:=Im (p:=λi=>1<=i/\i<=50) (l:=i0 1 hf++l'.take (n / 2).toNat) λx hx=>by
  have oH:x∈i0 1 hf:=by
   rcases aV.mp hx with z|z
   ·exact z
   ·exact hp.mem_iff.mp (iT z)
  obtain⟨i,rfl,h1,h2⟩:=IE oH;exact⟨i,rfl,h1,by omega⟩
 have Ld:(rl.length:Int)=n:=by
  have:=fP List.length er;rw[aZ,j4,cj,ak] at this;omega
 rw[er];have D3:=(D2.snoc (.lst (l'.take (n / 2).toNat))).snoc (.lst (rl.map D.int));have G3:=(Gr.snoc d g (.lst (i0 1 hf))).trans (G2.trans ((Gr.snoc d g2 (.lst (l'.take (n / 2).toNat))).trans (Gr.snoc d _ (.lst (rl.map D.int)))));have e3:(g2++[O.lst (l'.take (n / 2).toNat)]++[O.lst (rl.map D.int)])[(g2++[O.lst (l'.take (n / 2).toNat)]).length]?=some (.lst (rl.map D.int)):=b0;have l3:g.length+1<=(g2++[O.lst (l'.take (n / 2).toNat)]).length:=by have:=G2.len;simp at this ⊢;omega
 generalize (g2++[O.lst (l'.take (n / 2).toNat)]).length=DD at *;generalize g2++[O.lst (l'.take (n / 2).toNat)]++[O.lst (rl.map D.int)]=g3 at *;walk_at"";refine d8 h4 D3 (by decide) (by decide) λr4 g4 tM wB D4 G4=>?_;have e4:=G4.at (by omega) e3;walk_at"";have JF:=G3.trans G4;have l4:=JF.len;have e5:(g4++[O.lst []])[g4.length]?=some (.lst ([].map a9.d)):=b0;have lr4:=j7 e4;refine u3 (a8 T _) (S4 (a8 T _) ?_);walk_at"";refine ⟨by omega,by omega,i0 0 n.toNat,λi Z g'=>∃ cs z6 z7,Z=[some (.ref d),some (.int n),some (.ref g.length),some (.ref DD),some (.int r4),some (.ref g4.length),z6,z7]/\cs.length=i/\(∀ c ∈ cs,jl c)/\g'[g4.length]?=some (.lst (cs.map a9.d))/\g'[DD]?=some (.lst (rl.map D.int))/\i4 g' d/\Gr d g g',
  λ_ _ _ _=>n8,⟨[],none,none,rfl,rfl,by simp,e5,m5 e4,D4.snoc _,JF.trans (Gr.snoc _ _ _)⟩,λi x Z g' hx p=>?_,λZ g' p=>?_⟩
 ·obtain⟨cs,z6,z7,rfl,hc,hg,ef,erw,D',G'⟩:=p;obtain⟨hi,rfl⟩:=t8 hx;show wpS _ _ _ _ _ _;walk_at"";refine P2 (CC (by decide) (by decide)) ?_;walk_at"";refine xk ⟨by split<;>omega,by split<;>omega⟩ ?_;walk_at"";obtain⟨yv,hy,Ee⟩:∃yv:Int,fL [D.int (1000+(0+(i:Int))),D.int 0,D.int (1+2*(0+(i:Int)) / (if n>1 then n else 1))] r4=some (.int yv)/\0<=yv/\yv<=9999:=by
   have dv0:0<=2*(0+(i:Int)) / (if n>1 then n else 1):=Int.ediv_nonneg (by omega) (by split<;>omega);have dv1:2*(0+(i:Int)) / (if n>1 then n else 1)<=2*(0+(i:Int)):=Int.ediv_le_self _ (by omega);have:r4=0\/r4=1\/r4=2:=by omega
   rcases this with rfl|rfl|rfl
   ·exact⟨_,rfl,by omega,by omega⟩
   ·exact⟨_,rfl,by omega,by omega⟩
   ·exact⟨_,rfl,by omega,by omega⟩
  refine m7 (a7 b0) hy ?_;walk_at"";obtain⟨lo,Eo,zz⟩:=QU (ns:=rl) (r:=0+(i:Int)) (by omega) (by omega);have lf:=j7 ef;refine And.intro (X0 (m5 ef)) ?_;walk_at"";refine m7 (a7 (m5 erw)) zz ?_;walk_at"";refine d8 h4 (D'.snoc _) (by decide) (by decide) λr6 g6 DI DH D6 G6=>?_;have xf:=G6.at (by omega) (m5 ef);have M':=G6.at (by omega) (m5 erw);walk_at"";refine O7 xf (by simp;omega) ?_;walk_at"";have hlb:=hr lo Eo;refine⟨cs++[⟨lo,[],1+r6,[],yv⟩],_,_,rfl,by simp[hc],?_,?_,d0 M' (by omega),D6.J7 (by omega),(G'.trans ((Gr.snoc _ _ _).trans G6)).J7 (by omega)⟩
  ·intro c iG;rcases aV.mp iG with z|z
   ·exact hg c z
   ·simp at z;subst z;exact jl.mk' (by omega) (by omega) (by omega) (by omega) Ee.1 Ee.2 rfl rfl (by simp) (by simp)
  ·rw[get_set xf];simp[a9.d]
 ·obtain⟨cs,z6,z7,rfl,hc,hg,ef,erw,D',G'⟩:=p;show wpS _ _ _ _ _ _;walk_at"";rw[j4] at hc;exact h cs _ _ (by omega) hg ef (by omega) D' G'
end
section
variable{T:Nat->Option ba}{k d:Nat}{g:G}{Q:KD}{E:KX}
structure LF(T:Nat->Option ba):Prop where
 pull:T 4=some E4
 order:T 21=some R9
 any:T 22=some Z8
 pP:T 23=some F3
 pM:T 24=some F2
 opened:T 25=some xW
 list:T 26=some O8
theorem Yl(hT:LF T){n:Int}(hn:0<=n/\n<=99)(D0:i4 g d)(h:∀(cs:List a9) a (v:Int) g',(cs.length:Int)<=n->(∀c∈cs,jl c)->g'[a]?=some (.lst (cs.map a9.d))->g.length<=a->1<=v->v<=6->i4 g' d->Gr d g g'->Q (.tup [.ref a,.int v]) g'):c5 T (k+4) 26 [.ref d,.int n] g Q E:=by
 refine call_of hT.list rfl ?_;dsimp[O8,c6,List.replicate];have dl:=D0.lt;walk_at"";refine d8 (n:=n+1) hT.pull D0 (by omega) (by omega) λm g1 m0 m1 D1 G1=>?_;walk_at"";refine d8 hT.pull D1 (by decide) (by decide) λr2 g2 gL gK D2 G2=>?_;walk_at"";refine d8 hT.pull D2 (by decide) (by decide) λway g3 w0 w1 D3 G3=>?_;have yq:=G1.trans (G2.trans G3);have l3:=yq.len;walk_at"";refine if2 (λc=>?_) (λc=>?_)
 ·walk_at"";refine E7 (a8 T _) (S4 (a8 T _) ?_);walk_at"";refine⟨by omega,by omega,i0 0 m.toNat,λi ys Z g'=>∃cs z1 z2,ys=cs.map a9.d/\cs.length=i/\(∀c∈cs,jl c)/\Z=[some (.ref d),z1,z2]/\i4 g' d/\Gr d g g',by rw[j4];omega,λi ys Z g' p=>⟨n8,?_⟩,⟨[],none,none,rfl,rfl,by simp,rfl,D3,yq⟩,λi x ys Z g' hx p=>?_,λys Z g' p=>?_⟩
  ·obtain⟨cs,z1,z2,rfl,hc,_⟩:=p;simp[hc]
  ·obtain⟨cs,z1,z2,rfl,hc,hg,rfl,D',G'⟩:=p;show cI _ _ _ _ _ _;walk_at"";refine YQ hT.pull hT.any D' λc0 g4 gc D4 G4=>?_;refine⟨cs++[c0],_,_,by simp,by simp[hc],λc1 qi=>?_,rfl,D4,G'.trans G4⟩;rcases aV.mp qi with z|z
   ·exact hg c1 z
   ·simp at z;subst z;exact gc
  ·obtain⟨cs,z1,z2,rfl,hc,hg,rfl,D',G'⟩:=p;rw[j4] at hc;walk_at"";exact h cs _ _ _ (by omega) hg b0 G'.len (by omega) (by omega) (D'.snoc _) (G'.trans (Gr.snoc _ _ _))
 have tail:∀(v:Int) (g4:G),1<=v->v<=6->i4 g4 d->Gr d g g4->wpS (c5 T (k+3)) (i7 (i7 (i7 (i7 (i7 O8.body))))) ⟨λ_ g'=>Q .bC g',Q,λ_ _=>False,λ_ _=>False⟩ [some (.ref d),some (.int n),some (.int m),some (.int v),some (.int way),none,none,none,none] g4 E:=by
  intro v g4 v0 v1 D4 G4;dsimp[O8,i7];have after:∀(cs:List a9) a g5,(cs.length:Int)=m->(∀c∈cs,jl c)->g5[a]?=some (.lst (cs.map a9.d))->g4.length<=a->i4 g5 d->Gr d g4 g5->wpS (c5 T (k+3)) (i7 (i7 (i7 (i7 (i7 (i7 O8.body)))))) ⟨λ_ g'=>Q .bC g',Q,λ_ _=>False,λ_ _=>False⟩ [some (.ref d),some (.int n),some (.int m),some (.int v),some (.int way),some (.ref a),none,none,none] g5 E:=by
   intro cs a g5 hc hg ea la D5 G5;have JE:=G4.trans G5;have l4:=G4.len;dsimp[O8,i7];walk_at"";refine E7 (a8 T _) (kx (a8 T _) ?_);walk_at"";refine DX (by omega) (by omega) ?_;walk_at"";have e6:(g5++[O.lst (i0 0 m.toNat)])[g5.length]?=some (.lst (i0 0 m.toNat)):=b0;have l5:=D5.lt;refine Hn hT.pull hT.order e6 (by rw[j4];omega) (by omega) (D5.snoc _) λl' b g7 hp eb lb D7 G7=>?_;have Nc:=G7.at (by omega) (m5 ea);have rJ:l'.length=m.toNat:=by rw[hp.length_eq,j4]
   refine⟨b,l',rfl,a7 eb,l',λi ys Z g'=>∃jj z1 z2,ys=jj.map a9.d/\jj.length=i/\(∀c∈jj,jl c)/\Z=[some (.ref a),z1,z2]/\g'=g7,by omega,λi ys Z g' p=>?_,⟨[],none,none,rfl,rfl,by simp,rfl,rfl⟩,λi x ys Z g' hx p=>?_,λys Z g' p=>?_⟩
   ·obtain⟨jj,z1,z2,rfl,iG,_,_,rfl⟩:=p;exact⟨k6 (a7 eb),by simp[iG]⟩
   ·obtain⟨jj,z1,z2,rfl,iG,nP,rfl,rfl⟩:=p;obtain⟨j,rfl,j0,j1⟩:=IE (hp.mem_iff.mp (aI hx));show cI _ _ _ _ _ _;walk_at"";obtain⟨c0,wR,e0⟩:=Bp (cs:=cs) j0 (by omega);refine m7 (a7 Nc) e0 ?_;refine⟨jj++[c0],_,_,by simp,by simp[iG],λc1 qi=>?_,rfl,rfl⟩;rcases aV.mp qi with z|z
    ·exact nP c1 z
    ·simp at z;subst z;exact hg c1 wR
   ·obtain⟨jj,z1,z2,rfl,iG,nP,rfl,rfl⟩:=p;have e8:(g'++[O.lst (jj.map a9.d)])[g'.length]?=some (.lst (jj.map a9.d)):=b0;have D8:=D7.snoc (.lst (jj.map a9.d));have G8:=(JE.trans ((Gr.snoc d g5 (.lst (i0 0 m.toNat))).trans G7)).trans (Gr.snoc d g' (.lst (jj.map a9.d)));have l8:g.length<=g'.length:=(JE.trans ((Gr.snoc d g5 (.lst (i0 0 m.toNat))).trans G7)).len;have fin:∀(se:List a9) z6 z7 z8 g9,(se.length:Int)=m->(∀c∈se,jl c)->g9[g'.length]?=some (.lst (se.map a9.d))->i4 g9 d->Gr d g g9->wpS (c5 T (k+3)) (i7 (i7 (i7 (i7 (i7 (i7 (i7 (i7 O8.body)))))))) ⟨λ_ g'=>Q .bC g',Q,λ_ _=>False,λ_ _=>False⟩ [some (.ref d),some (.int n),some (.int m),some (.int v),some (.int way),some (.ref g'.length),z6,z7,z8] g9 E:=by
     intro se z6 z7 z8 g9 mL Eu e9 D9 G9;dsimp[O8,i7];walk_at"";refine if2 (λc=>?_) (λc=>?_)
     ·walk_at"";exact h se _ _ _ (by omega) Eu e9 l8 (by omega) (by omega) D9 G9
     ·walk_at"";exact h se _ _ _ (by omega) Eu e9 l8 v0 v1 D9 G9
    show wpS _ _ _ _ (g'++[O.lst (jj.map a9.d)]) _;have rH:(jj.length:Int)=m:=by omega
    have wH:=D7.lt;generalize hg8:g'++[O.lst (jj.map a9.d)]=g8 at *;walk_at"";refine if2 (λc1=>?_) (λc1=>?_)
    ·walk_at"";refine if2 (λc2=>?_) (λc2=>?_)
     ·walk_at"";refine d8 (n:=m) hT.pull D8 c2 (by omega) λr g9 r0 r1 D9 G9=>?_;have e9:=G9.at (by omega) e8;obtain⟨c0,wR,e0⟩:=Bp (cs:=jj) r0 (by(clear hn dl m0 m1 gL gK w0 w1 l3 c v0 v1 la l4 l5 lb rJ iG l8 wH c1 c2 r0;omega));walk_at"";refine m7 (a7 e9) e0 ?_;walk_at"";refine d8 (n:=m) hT.pull D9 c2 (by omega) λr' EW wC DJ JG JD=>?_;have qG:=JD.at (by omega) e9;obtain⟨c3,wQ,e3⟩:=Bp (cs:=jj) wC (by(clear hn dl m0 m1 gL gK w0 w1 l3 c v0 v1 la l4 l5 lb rJ iG l8 wH c1 c2 r0 r1 wC;omega));refine m7 (a7 qG) e3 ?_;dsimp only[a9.d];walk_at"";refine d8 hT.pull (JG.snoc _) (by decide) (by decide) λr'' g11 pS pR D11 Dj=>?_;have Ea:=JG.lt;have Nh:=Dj.at (by omega) (b0 (g:=EW) (o:=.lst [.int c0.yr,.int c3.yr,.int 9999]));have vf:=Dj.at (by omega) (m5 (o':=.lst [.int c0.yr,.int c3.yr,.int 9999]) qG);obtain⟨x,hx,hm⟩:=K0 (l:=[D.int c0.yr,.int c3.yr,.int 9999]) pS (by simpa using pR);obtain⟨a1,a2,a3,a4,a5,a6⟩:=(nP c0 wR).inv;obtain⟨b1,b2,b3,b4,b5,b6⟩:=(nP c3 wQ).inv;have hy:∃y:Int,x=.int y/\0<=y/\y<=9999:=by
       simp only[List.mem_cons,List.mem_nil_iff,or_false] at hm;rcases hm with rfl|rfl|rfl
       ·exact⟨_,rfl,a5,a6⟩
       ·exact⟨_,rfl,b5,b6⟩
       ·exact⟨_,rfl,by decide,by decide⟩
      obtain⟨y,rfl,y0,y1⟩:=hy;refine m7 (a7 Nh) hx ?_;walk_at"";have hj:kr (jj.map a9.d).length r=some r.toNat:=by
       unfold kr;rw[aK r0,aK (by rw[ak];(clear hn dl m0 m1 gL gK w0 w1 l3 c v0 v1 la l4 l5 lb rJ iG l8 wH c1 c2 r0 wC DJ pS pR Ea a1 a3 a5 a6 b1 b3 b5 b6 y0 y1;omega))]
      refine T6 vf hj ?_;have gr:jl ⟨c0.lo,c3.lm,c3.up,c0.um,y⟩:=jl.mk' a1.1 a1.2 b3.1 b3.2 y0 y1 b2 a4 (nP c3 wQ).l8 (nP c0 wR).u8;refine fin (jj.set r.toNat ⟨c0.lo,c3.lm,c3.up,c0.um,y⟩) _ _ _ _ (by simp;(clear hn dl m0 m1 gL gK w0 w1 l3 c v0 v1 la l4 l5 lb rJ iG l8 wH c1 c2 r0 r1 wC DJ pS pR Ea a1 a3 a5 a6 b1 b3 b5 b6 y0 y1;omega)) (λc4 L'=>?_) ?_ (D11.J7 (by omega)) ((G8.trans (G9.trans (JD.trans ((Gr.snoc _ _ _).trans Dj)))).J7 l8)
      ·rcases oj L' with z|z
       ·exact nP c4 z
       ·rw[z];exact gr
      ·rw[get_set vf,List.map_set]
       rfl
     ·refine E6 ?_;exact fin jj _ _ _ _ rH nP e8 D8 G8
    ·exact fin jj _ _ _ _ rH nP e8 D8 G8
  walk_at"";refine if2 (λc=>?_) (λc=>?_)
  ·walk_at"";refine Xs hT.pull hT.order hT.opened ⟨m0,by omega⟩ D4 λcs a g5 hc hg ea la D5 G5=>?_;exact after cs a g5 hc hg ea la D5 G5
  ·walk_at"";refine XO hT.pull hT.pP hT.pM ⟨m0,by omega⟩ ⟨v0,by omega⟩ D4 λcs a g5 hc hg ea la D5 G5=>?_;exact after cs a g5 hc hg ea la D5 G5
 walk_at"";refine if2 (λc=>?_) (λc=>?_)
 ·walk_at"";refine d8 hT.pull D3 (by decide) (by decide) λr4 g4 tM wB D4 G4=>?_;walk_at "w1";walk_at "w1";exact tail _ _ (by omega) (by omega) D4 (yq.trans G4)
 ·refine E6 ?_;exact tail _ _ (by omega) (by omega) D3 yq
end
def xY:ba:=⟨2,2,(.seq (.ret (du .all (.comp [1] 3 (.one 2) (.eO aL) .no (bW (.cmp .In) bp aL)))) .pass)⟩
def Z7:ba:=⟨1,1,(.seq (.ifs (.eL (.fy (.call 12 (fb aL)))) (.seq (.raise "BadCoin" (fb (gN "it is no coin"))) .pass) .pass) .pass)⟩
def V3:ba:=⟨1,2,(.seq (.ifs (dJ .Gt (du .len aL) (bf 9)) (.seq (.raise "TooMany" (fb (gN "at most nine coins are asked about at once"))) .pass) .pass) (.seq (.de (.one 1) (.eO aL) (.seq (.expr (.call 39 (fb bh))) .pass)) .pass))⟩
def O9:ba:=⟨1,1,(.seq (.ifs (dJ .NotIn aL (.lit (.tup [(.str "lower"),(.str "upper")]))) (.seq (.raise "BadSide" (fb (gN "a side is lower or upper"))) .pass) .pass) .pass)⟩
def BH:ba:=⟨1,1,(.seq (.expr (.call 40 (fb aL))) (.seq (.ret (bW .mS (.lit (.tup [(.tup [(.str "lower"),(.int 0)]),(.tup [(.str "upper"),(.int 2)])])) aL)) .pass))⟩
noncomputable abbrev JH(T:Nat->Option ba):Prop:=T 18=some V3/\T 39=some Z7
noncomputable abbrev Dm(T:Nat->Option ba):Prop:=T 19=some BH/\T 40=some O9
def Z2:ba:=⟨2,2,(.seq (.ret (bW (.cmp .Eq) (du .len (.comp [1] 3 (.one 2) (.eO aL) (dJ .NotIn bp aL) bp)) (bf 0))) .pass)⟩
structure Ex(g g':G):Prop where
 len:g.length<=g'.length
 old:∀i,i<g.length->g'[i]?=g[i]?
theorem Ex.refl(g:G):Ex g g:=⟨aw _,λ_ _=>rfl⟩
theorem Ex.trans{g g1 g2:G}(a:Ex g g1)(b:Ex g1 g2):Ex g g2:=⟨aD a.len b.len,λi h=>(b.old i (ay h a.len)).trans (a.old i h)⟩
theorem Ex.snoc(g:G)(o:O):Ex g (g++[o]):=⟨by simp,λi h=>aF h⟩
theorem Ex.at{g g':G}(h:Ex g g'){i:Nat}{o:O}(e:g[i]?=some o):g'[i]?=some o:=(h.old i (j7 e)).trans e
theorem Ex.gr{g g':G}(h:Ex g g')(d:Nat):Gr d g g':=⟨h.len,λi _ h2=>h.old i h2⟩
theorem Ex.draw{g g':G}{d:Nat}(h:Ex g g')(D0:i4 g d):i4 g' d:=by
 obtain⟨s,p,b,r,xs,e1,e2,q⟩:=D0.ex;exact⟨s,p,b,r,xs,h.at e1,h.at e2,q⟩
inductive E5(g:G):Nat->D->D->Prop
 |bC {n:Nat}:E5 g n .bC .bC
 |bl {n:Nat} (b:Bool):E5 g n (.bl b) (.bl b)
 |int {n:Nat} (i:Int):E5 g n (.int i) (.int i)
 |str {n:Nat} (x:Str):E5 g n (.str x) (.str x)
 |tup {n:Nat} {l m:List D} (hl:l.length=m.length) (h:∀(i:Nat) x y,l[i]?=some x->m[i]?=some y->E5 g n x y) (hz:m.length<=1000):E5 g (n+1) (.tup l) (.tup m)
 |lst {n a b:Nat} {l m:List D} (ha:g[a]?=some (.lst l)) (hb:g[b]?=some (.lst m)) (hl:l.length=m.length) (h:∀(i:Nat) x y,l[i]?=some x->m[i]?=some y->E5 g n x y) (hz:m.length<=1000):E5 g (n+1) (.ref a) (.ref b)
theorem E5.ex{g g':G}(e:Ex g g'){n:Nat}{x y:D}(h:E5 g n x y):E5 g' n x y:=by
 induction h with
 |bC=>exact .bC
 |bl b=>exact .bl b
 |int i=>exact .int i
 |str x=>exact .str x
 |tup hl h hz ih=>exact .tup hl ih hz
 |lst ha hb hl h hz ih=>exact .lst (e.at ha) (e.at hb) hl ih hz
section
variable{T:Nat->Option ba}{k d:Nat}{g:G}{Q:KD}{E:KX}
theorem HL(h6:T 6=some vS){i:Int}(h:Q (.bl true) g):c5 T (k+1) 6 [.int i] g Q E:=by
 refine call_of h6 rfl ?_;dsimp[vS,c6,List.replicate];walk_at"";refine fW (c:="int") (b:=true) (by decide) rfl ?_;walk_at"";refine fW (c:="bool") (b:=false) (by decide) rfl ?_;walk_at"";exact h
def Ip:MS:=match C3.body with
 |.seq _ (.seq _ (.seq _ (.seq _ (.seq _ b))))=>b
 |x=>x
theorem Gx(h6:T 6=some vS)(h7:T 7=some C3):∀(n:Nat) {k:Nat} {g:G} {x y:D} {Q:KD} {E:KX},E5 g n x y->(∀g',Ex g g'->Q (.bl true) g')->c5 T (k+n+2) 7 [x,y] g Q E:=by
 have tL:∀(n:Nat),(∀{k:Nat} {g:G} {x y:D} {Q:KD} {E:KX},E5 g n x y->(∀g',Ex g g'->Q (.bl true) g')->c5 T (k+n+2) 7 [x,y] g Q E) ->
   ∀{k:Nat} {g:G} {x y:D} {l m:List D} {Q:KD} {E:KX},(∀g',Ex g g'->J1 g' x=some l)->(∀g',Ex g g'->J1 g' y=some m)->l.length=m.length->m.length<=1000->(∀(i:Nat) x y,l[i]?=some x->m[i]?=some y->E5 g n x y)->(∀g',Ex g g'->Q (.bl true) g') ->
   wpS (c5 T (k+n+2)) Ip ⟨λ_ g'=>Q .bC g',Q,λ_ _=>False,λ_ _=>False⟩ [some x,some y] g E:=by
  intro n ih k g x y l m Q E hx hy hl hz hs hQ;have len:∀(z:D) (l:List D) (g':G) (Q':KD),J1 g' z=some l->Q' (.int l.length) g'->cG .len [z] g' Q':=λz l g' Q' e q=>⟨_,_,⟨rfl,.inl ⟨z,l,rfl,e,rfl⟩⟩,q⟩
  dsimp[Ip,C3];refine Y1 (Cq (Cs (vw (vt (w_var rfl (len _ _ _ _ (hx g (Ex.refl g)) ?_))))));refine vt (w_var rfl (len _ _ _ _ (hy g (Ex.refl g)) ?_));refine FP ?_;rw[hl,aA rfl];walk_at"";refine E7 (a8 T _) (S4 (a8 T _) ?_);refine vt (w_var rfl (len _ _ _ _ (hy g (Ex.refl g)) ?_));refine⟨_,rfl,by omega,by omega,i0 0 m.length,λi ys Z g'=>∃z w,ys=List.replicate i (.bl true)/\Z=[some y,some x,z,w]/\Ex g g',by rw[j4];exact hz,λi ys Z g' p=>⟨n8,?_⟩,⟨none,none,rfl,rfl,Ex.refl g⟩,λi z ys Z g' hz p=>?_,λys Z g' p=>?_⟩
  ·obtain⟨z,w,rfl,_⟩:=p;simp
  ·obtain⟨z,w,rfl,rfl,e⟩:=p;obtain⟨hi,rfl⟩:=t8 hz;have h1:l[i]?=some l[i]:=aj (by omega);have h2:m[i]?=some m[i]:=aj hi;have a1:fL l (0+(i:Int))=some l[i]:=by rw[dQ];exact B8 h1
   have a2:fL m (0+(i:Int))=some m[i]:=by rw[dQ];exact B8 h2
   show cI _ _ _ _ _ _;refine xB (kZ (xO (Q5 (vw (w_var rfl (w_var rfl ⟨_,_,⟨rfl,.inl ⟨_,l,_,rfl,hx g' e,a1⟩⟩,?_⟩))))));refine Q5 (vw (w_var rfl (w_var rfl ⟨_,_,⟨rfl,.inl ⟨_,m,_,rfl,hy g' e,a2⟩⟩,?_⟩)));refine xA (ih ((hs i _ _ h1 h2).ex e) λg2 e2=>?_);exact⟨_,_,by rw[List.replicate_succ'],rfl,e.trans e2⟩
  ·obtain⟨z,w,rfl,rfl,e⟩:=p;refine BY (a7 b0) (v:=true) ?_ (hQ _ (e.trans (Ex.snoc _ _)));have:List.replicate (i0 0 m.length).length (D.bl true)=(List.replicate (i0 0 m.length).length true).map D.bl:=by simp
   rw[this,BC];simp
 intro n
 induction n with
 |zero =>
  intro k g x y Q E h hQ;have h0:=hQ g (Ex.refl g);cases h with
  |bC =>
   refine call_of h7 rfl ?_;dsimp[C3,c6,List.replicate];walk_at"";exact h0
  |bl b=>exact Iq h7 (by simpa using h0)
  |int i =>
   refine call_of h7 rfl ?_;dsimp[C3,c6,List.replicate];walk_at""
   try show wpS _ _ _ _ _ _
   walk_at"";refine fW (c:="bool") (b:=false) (by decide) rfl ?_;walk_at"";refine fW (c:="int") (b:=true) (by decide) rfl ?_;walk_at"";refine HL h6 ?_;walk_at"";simpa using h0
  |str x =>
   refine call_of h7 rfl ?_;dsimp[C3,c6,List.replicate];walk_at""
   try show wpS _ _ _ _ _ _
   walk_at"";refine fW (c:="bool") (b:=false) (by decide) rfl ?_;walk_at"";refine fW (c:="int") (b:=false) (by decide) rfl ?_;walk_at"";refine fW (c:="str") (b:=true) (by decide) rfl ?_;walk_at"";refine fW (c:="str") (b:=true) (by decide) rfl ?_;walk_at"";simpa using h0
 |succ n ih =>
  intro k g x y Q E h hQ;have h0:=hQ g (Ex.refl g);cases h with
  |bC =>
   refine call_of h7 rfl ?_;dsimp[C3,c6,List.replicate];walk_at"";exact h0
  |bl b=>exact Iq h7 (by simpa using h0)
  |int i =>
   refine call_of h7 rfl ?_;dsimp[C3,c6,List.replicate];walk_at""
   try show wpS _ _ _ _ _ _
   walk_at"";refine fW (c:="bool") (b:=false) (by decide) rfl ?_;walk_at"";refine fW (c:="int") (b:=true) (by decide) rfl ?_;walk_at"";refine HL h6 ?_;walk_at"";simpa using h0
  |str x =>
   refine call_of h7 rfl ?_;dsimp[C3,c6,List.replicate];walk_at""
   try show wpS _ _ _ _ _ _
   walk_at"";refine fW (c:="bool") (b:=false) (by decide) rfl ?_;walk_at"";refine fW (c:="int") (b:=false) (by decide) rfl ?_;walk_at"";refine fW (c:="str") (b:=true) (by decide) rfl ?_;walk_at"";refine fW (c:="str") (b:=true) (by decide) rfl ?_;walk_at"";simpa using h0
  |@tup _ l m hl hs hz =>
   refine call_of h7 rfl ?_;have body:=tL n ih (k:=k) (x:=.tup l) (y:=.tup m) (E:=E) (λ_ _=>rfl) (λ_ _=>rfl) hl hz hs hQ;dsimp[C3,c6,List.replicate];walk_at""
   try show wpS _ _ _ _ _ _
   walk_at"";refine fW (c:="bool") (b:=false) (by decide) rfl ?_;walk_at"";refine fW (c:="int") (b:=false) (by decide) rfl ?_;walk_at"";refine fW (c:="str") (b:=false) (by decide) rfl ?_;walk_at"";refine fW (c:="tuple") (b:=true) (by decide) rfl ?_;walk_at"";refine fW (c:="tuple") (b:=true) (by decide) rfl ?_;walk_at"";refine fK rfl ?_;walk_at"";refine fW (c:="list") (b:=false) (by decide) rfl ?_;walk_at"";refine fW (c:="list") (b:=false) (by decide) rfl ?_;walk_at"";refine fK rfl (E6 ?_);exact body
  |@lst _ a b l m ha hb hl hs hz =>
   refine call_of h7 rfl ?_;have body:=tL n ih (k:=k) (x:=.ref a) (y:=.ref b) (E:=E) (λg' e=>a7 (e.at ha)) (λg' e=>a7 (e.at hb)) hl hz hs hQ;have ta:∀c,qQ g (.ref a) c=some (c=="list"):=λc=>by simp only[qQ,ha]
   have tb:∀c,qQ g (.ref b) c=some (c=="list"):=λc=>by simp only[qQ,hb]
   dsimp[C3,c6,List.replicate];walk_at""
   try show wpS _ _ _ _ _ _
   walk_at"";refine fW (c:="bool") (b:=false) (by decide) (tb _) ?_;walk_at"";refine fW (c:="int") (b:=false) (by decide) (tb _) ?_;walk_at"";refine fW (c:="str") (b:=false) (by decide) (tb _) ?_;walk_at"";refine fW (c:="tuple") (b:=false) (by decide) (tb _) ?_;walk_at"";refine fW (c:="tuple") (b:=false) (by decide) (ta _) ?_;walk_at"";refine fK rfl ?_;walk_at"";refine fW (c:="list") (b:=true) (by decide) (tb _) ?_;walk_at"";refine fW (c:="list") (b:=true) (by decide) (ta _) ?_;walk_at"";refine fK rfl (E6 ?_);exact body
end
def ja(a b:List Int):Bool:=a.all λs=>b.any λm=>m==s
section
variable{T:Nat->Option ba}{k d:Nat}{g:G}{Q:KD}{E:KX}
theorem GJ(oR:T 15=some xY){a b:List Int}(ha:a.length<=1000)(h:∀g',Ex g g'->Q (.bl (ja a b)) g'):c5 T (k+1) 15 [.tup (a.map .int),.tup (b.map .int)] g Q E:=by
 refine call_of oR rfl ?_;dsimp[xY,c6,List.replicate];walk_at"";refine E7 (a8 T _) (uj (a8 T _) ?_);walk_at"";refine⟨_,rfl,_,λi ys Z g'=>∃z w,ys=((a.take i).map λs=>b.any λm=>m==s).map D.bl/\Z=[some (.tup (b.map .int)),z,w]/\g'=g,by simpa using ha,λi ys Z g' p=>⟨n8,?_⟩,⟨none,none,rfl,rfl,rfl⟩,λi x ys Z g' hx p=>?_,λys Z g' p=>?_⟩
 ·obtain⟨z,w,rfl,_⟩:=p;simp;omega
 ·obtain⟨z,w,rfl,rfl,rfl⟩:=p;rw[ag,aa] at hx;obtain⟨s,hs,rfl⟩:=hx;show cI _ _ _ _ _ _;walk_at"";refine sk (BE ?_);refine⟨_,_,?_,rfl,rfl⟩;have hi:=(ao.mp hs)
  rw[bu,hs];simp
 ·obtain⟨z,w,rfl,rfl,rfl⟩:=p;refine BY (a7 b0) (BC _) ?_;have e:((a.take (a.map D.int).length).map λs=>b.any λm=>m==s).all id=ja a b:=by
   rw[ak,bI];simp[ja,List.all_map]
  rw[e];exact h _ (Ex.snoc _ _)
theorem Yn(Ac:T 17=some Z2){a b:List Int}(ha:a.length<=1000)(h:∀g',Ex g g'->Q (.bl (ja a b)) g'):c5 T (k+1) 17 [.tup (a.map .int),.tup (b.map .int)] g Q E:=by
 refine call_of Ac rfl ?_;dsimp[Z2,c6,List.replicate];walk_at"";refine E7 (a8 T _) (uj (a8 T _) ?_);walk_at"";refine⟨_,rfl,_,λi ys Z g'=>∃z w,ys=((a.take i).filter λs=>!(b.any λm=>m==s)).map D.int/\ys.length<=i/\Z=[some (.tup (b.map .int)),z,w]/\g'=g,by simpa using ha,λi ys Z g' p=>⟨n8,?_⟩,⟨none,none,rfl,by simp,rfl,rfl⟩,λi x ys Z g' hx p=>?_,λys Z g' p=>?_⟩
 ·obtain⟨z,w,_,h1,_⟩:=p;exact h1
 ·obtain⟨z,w,e,hl,rfl,rfl⟩:=p;rw[ag,aa] at hx;obtain⟨s,hs,rfl⟩:=hx;show cI _ _ _ _ _ _;walk_at"";refine sA (BE ?_);walk_at"";cases hc:(b.any λm=>m==s) with
  |true =>
   refine pq ⟨_,_,?_,by omega,rfl,rfl⟩;rw[bu,hs,e];simp[hc]
  |false =>
   refine kZ (w_var rfl ⟨_,_,?_,by simp;omega,rfl,rfl⟩);rw[bu,hs,e];simp[hc]
 ·obtain⟨z,w,e,hl,rfl,rfl⟩:=p;rw[ak,bI] at e;refine F6 (a7 b0) ?_;walk_at"";have e2:decide ((ys.length:Int)=0)=ja a b:=by
   rw[e,ak,aU,dh];unfold ja;rw[cE];constructor
   ·intro h0 s hs;have h1:(a.filter λs=>!(b.any λm=>m==s))=[]:=df (by omega);rw[gW] at h1;have:=h1 s hs;simpa using this
   ·intro h0;have h1:(a.filter λs=>!(b.any λm=>m==s))=[]:=by
     rw[gW];intro s hs;simpa using h0 s hs
    rw[h1]
    rfl
  rw[e2];exact h _ (Ex.snoc _ _)
theorem ZK{g:G}{x:Str}{kb:Bool->Prop}(hx:PyData.strOk x=true)(h:kb (decide (x="lower")||decide (x="upper"))):pZ g (.str x) (.tup [.str "lower",.str "upper"]) kb:=by
 refine⟨_,.inr ⟨_,[.str "lower",.str "upper"],.str x,rfl,rfl,rfl,by simp only[PyData.canLayAll0,PyData.canLay0,Bool.and_true];decide +kernel,by simp only[PyData.canLay0];exact hx,rfl⟩,?_⟩;have e:∀y:Str,PyData.eqv (.str y) (.str x)=decide (x=y):=λy=>by
  simp only[PyData.eqv];rw[aU,fj,dh];exact eq_comm
 simp only[List.any_cons,List.any_nil,Bool.or_false,e];exact h
theorem Wf(Mw:T 40=some O9){x:Str}(ho:PyData.strOk x=true)(h1:x="lower"\/x="upper"->Q .bC g)(h3:x≠"lower"->x≠"upper"->E ⟨"BadSide"⟩ g):c5 T (k+1) 40 [.str x] g Q E:=by
 refine call_of Mw rfl ?_;dsimp[O9,c6,List.replicate];walk_at"";refine sA (ZK ho ?_);walk_at"";by_cases e:x="lower"\/x="upper"
 ·refine fK (by rw[Bool.not_eq_false',cK,dh,dh];exact e) ?_;walk_at"";exact h1 e
 ·refine hJ (by rw[Bool.not_eq_true',Bool.or_eq_false_iff,rg,rg];exact not_or.mp e) ?_;walk_at"";exact h3 (λz=>e (.inl z)) (λz=>e (.inr z))
theorem E9(kJ:Dm T){x:Str}(ho:PyData.strOk x=true)(h1:x="lower"->Q (.int 0) g)(h2:x="upper"->Q (.int 2) g)(h3:x≠"lower"->x≠"upper"->E ⟨"BadSide"⟩ g):c5 T (k+2) 19 [.str x] g Q E:=by
 refine call_of kJ.1 rfl ?_;dsimp[BH,c6,List.replicate];walk_at"";refine Wf kJ.2 ho (λhx=>?_) h3;walk_at"";by_cases e1:x="lower"
 ·have el:M6 [.tup [.str "lower",.int 0],.tup [.str "upper",.int 2]] x=some (.int 0):=by simp[M6,e1]
  refine Jj el ?_;exact h1 e1
 ·have e2:x="upper":=hx.resolve_left e1;have el:M6 [.tup [.str "lower",.int 0],.tup [.str "upper",.int 2]] x=some (.int 2):=by simp[M6,e1];simp[e2]
  refine Jj el ?_;exact h2 e2
def CB(c:a9):Prop:=c.lm.length<=8/\c.um.length<=8
theorem X6(h1:NF T)(h2:T 2=some F4)(rW:T 12=some A8)(uW:JH T){a:Nat}{cs:List a9}(ha:g[a]?=some (.lst (cs.map a9.d)))(hz:cs.length<=1000)(hm:9<cs.length->E ⟨"TooMany"⟩ g)(hb:cs.length<=9->cs.all A9=false->E ⟨"BadCoin"⟩ g)(h:cs.length<=9->cs.all A9=true->Q .bC g):c5 T (k+6) 18 [.ref a] g Q E:=by
 refine call_of uW.1 rfl ?_;dsimp[V3,c6,List.replicate];walk_at"";rw[ak];refine if2 (λc=>?_) (λc=>?_)
 ·walk_at"";exact hm (by omega)
 have h9:cs.length<=9:=by omega
 walk_at"";refine u3 (a8 T _) (kx (a8 T _) ?_);walk_at"";refine⟨a,_,rfl,a7 ha,cs.map a9.d,λi Z g'=>∃z,Z=[some (.ref a),z]/\g'=g/\(cs.take i).all A9=true,λi Z g' p=>?_,⟨none,rfl,rfl,by simp⟩,λi x Z g' hx p=>?_,λZ g' p=>?_⟩
 ·obtain⟨z,rfl,rfl,_⟩:=p;exact k6 (a7 ha)
 ·obtain⟨z,rfl,rfl,hg⟩:=p;rw[ag,aa] at hx;obtain⟨c,hc,rfl⟩:=hx;refine f7 ?_
  try show wpS _ _ _ _ _ _
  walk_at"";refine call_of uW.2 rfl ?_;dsimp[Z7,c6,List.replicate];walk_at"";refine Zp h1 h2 rW ?_;walk_at"";cases e:A9 c with
  |true =>
   walk_at"";refine⟨_,rfl,rfl,?_⟩;rw[bu,hc];simp[hg,e]
  |false =>
   refine Fu ?_;walk_at"";refine hb h9 ?_;rw[List.all_eq_false];exact⟨c,aI hc,by rw[e];decide⟩
 ·obtain⟨z,rfl,rfl,hg⟩:=p;rw[ak,bI] at hg;exact h h9 hg
end
def w6(f:Int)(c:a9):Int:=if f=0 then c.lo else c.up
def qR(f:Int)(c:a9):List Int:=if f=0 then c.lm else c.um
theorem CB.KJ{c:a9}(h:CB c)(f:Int):(qR f c).length<=1000:=by
 unfold qR;split
 ·have:=h.1;omega
 ·have:=h.2;omega
theorem J5{f:Int}(hf:f=0\/f=2)(c:a9):fL [D.int c.lo,D.tup (c.lm.map .int),D.int c.up,D.tup (c.um.map .int),D.int c.yr] f=some (.int (w6 f c)):=by
 rcases hf with rfl|rfl<;>rfl
theorem HE{f:Int}(hf:f=0\/f=2)(c:a9):fL [D.int c.lo,D.tup (c.lm.map .int),D.int c.up,D.tup (c.um.map .int),D.int c.yr] (f+1)=some (.tup ((qR f c).map .int)):=by
 rcases hf with rfl|rfl<;>rfl
section
variable{T:Nat->Option ba}{k d:Nat}{g:G}{Q:KD}{E:KX}
end
section
variable{T:Nat->Option ba}{k d:Nat}{g:G}{Q:KD}{E:KX}
end
def cD:a9:=⟨0,[],0,[],0⟩
noncomputable abbrev bH(cs:List a9)(i:Nat):a9:=cs.getD i cD
theorem B0{cs:List a9}{i:Nat}{c:a9}(h:cs[i]?=some c):bH cs i=c:=by simp[bH,List.getD,h]
inductive RW where
 |fm|lower|upper
def RW.s:RW->Str
 |.fm=>"coin"
 |.lower=>"lower"
 |.upper=>"upper"
structure eX where
 w:RW
 x:Int
 y:Int
def eX.d(r:eX):D:=.tup [.str r.w.s,.int r.x,.int r.y]
def meant(cs:List a9)(w:RW)(x:Int)(i:Nat):Bool:=match w with
 |.fm=>decide ((i:Int)=x)
 |.lower=>decide ((bH cs i).lo=x)
 |.upper=>decide ((bH cs i).up=x)
def jc(cs:List a9)(w:RW)(x:Int):List Nat:=(List.range cs.length).filter (meant cs w x)
def b7(l:List Nat):List D:=l.map λ(i:Nat)=>D.int i
def ou(l:List Nat):Nat:=(l.map (2 ^ ·)).sum
def gY(n:Nat)(p:Nat->Bool):Nat:=ou ((List.range n).filter p)
theorem FZ(n:Nat)(p:Nat->Bool):gY (n+1) p=gY n p+if p n=true then 2 ^ n else 0:=by
 unfold gY ou;rw[fC,dn,dB,List.sum_append]
 congr 1
 cases h:p n<;>simp[List.filter_cons,h]
theorem Qp(n:Nat)(p:Nat->Bool):gY n p<2 ^ n:=by
 induction n with
 |zero=>simp[gY,ou]
 |succ n ih =>
  rw[FZ,sT];split<;>omega
theorem IL(n:Nat)(p:Nat->Bool)(i:Nat):(gY n p).testBit i=(decide (i<n)&&p i):=by
 induction n with
 |zero=>simp[gY,ou]
 |succ n ih =>
  have hl:=Qp n p;rw[FZ];by_cases hp:p n=true
  ·rw[aK hp,Nat.add_comm];rcases dF i n with h|h|h
   ·rw[Nat.testBit_two_pow_add_gt h,ih,aA h,aA (by omega)]
   ·subst h;rw[Nat.testBit_two_pow_add_eq,ih];simp[hp]
   ·rw[Nat.testBit_lt_two_pow (ay (show 2 ^ n+gY n p<2 ^ (n+1) by rw[sT];omega) (iR (by omega) h)),az (by omega)]
    rfl
  ·rw[aC hp,Nat.add_zero,ih];by_cases h:i=n
   ·subst h;simp[hp]
   ·rw[show decide (i<n)=decide (i<n+1) from dO.mpr (by omega)]
theorem AW(a b:Nat):Builtin.bitAnd (a:Int) (b:Int)=((a &&& b:Nat):Int):=by
 unfold Builtin.bitAnd;rw[aA (JP a),aA (JP b)];simp
theorem OZ(a b:Nat):Builtin.bitOr (a:Int) (b:Int)=((a |||b:Nat):Int):=by
 unfold Builtin.bitOr Builtin.bitAnd;have h1:∀x:Nat,decide (0<=Builtin.bitNot (x:Int))=false:=λx=>by unfold Builtin.bitNot;exact az (by omega)
 have h2:∀x:Nat,Builtin.bitNot (Builtin.bitNot (x:Int))=x:=λx=>by unfold Builtin.bitNot;omega
 rw[h1,h1];simp only[h2];simp
theorem Oc(a b:Nat):((a &&& b:Nat)≠0)↔∃i,a.testBit i=true/\b.testBit i=true:=by
 constructor
 ·intro h;obtain⟨i,hi⟩:=Nat.exists_testBit_of_ne_zero h;rw[Nat.testBit_and,aS] at hi;exact⟨i,hi⟩
 ·rintro⟨i,h1,h2⟩ e;have:(a &&& b).testBit i=true:=by rw[Nat.testBit_and,h1,h2];rfl
  rw[e,Nat.zero_testBit] at this;cases this
theorem xQ(s n:Nat)(p:Nat->Bool):((((s &&& gY n p:Nat):Int) != 0)=(List.range n).any λi=>s.testBit i&&p i):=by
 rw[aU,bne_iff_ne,aR];have:(((s &&& gY n p:Nat):Int)≠0)↔((s &&& gY n p:Nat)≠0):=by omega
 rw[this,Oc];constructor
 ·rintro⟨i,h1,h2⟩;rw[IL,aS,cq] at h2;exact⟨i,aT.mpr h2.1,by rw[h1,h2.2];rfl⟩
 ·rintro⟨i,h1,h2⟩;rw[aS] at h2;exact⟨i,h2.1,by rw[IL,aA (aT.mp h1),h2.2];rfl⟩
def mw(a b:a9):Bool:=(decide (a.lo=b.lo)&&!ja a.lm b.lm)||(decide (a.up=b.up)&&!ja a.um b.um)
def jS(a b:a9):Bool:=decide (0<b.yr)&&decide (b.yr<a.yr)
def C0(cs:List a9)(S:Nat->Bool)(p:Nat):Bool:=(List.range cs.length).any λi=>S i&&mw (bH cs i) (bH cs p)
def B3(cs:List a9)(S:Nat->Bool)(p:Nat):Bool:=(List.range cs.length).any λi=>S i&&jS (bH cs i) (bH cs p)
def U8(cs:List a9)(S:Nat->Bool)(p:Nat)(d:Int):Bool :=
 ((List.range cs.length).any λi=>(S i||decide (i=p))&&decide ((bH cs i).lo=d))&&((List.range cs.length).any λi=>!S i&&decide ((bH cs i).lo=d))
def u5(cs:List a9)(S:Nat->Bool)(p:Nat):Nat:=((m9 (cs.map a9.lo)).filter (U8 cs S p)).length
def K9(cs:List a9)(rs:List eX)(S:Nat->Bool)(p:Nat):Bool:=rs.all λr=>!meant cs r.w r.y p||(List.range cs.length).any λi=>S i&&meant cs r.w r.x i
def fault(cs:List a9)(v:Int)(rs:List eX)(S:Nat->Bool)(p:Nat):Str :=
 if C0 cs S p=true then "wear" else if B3 cs S p=true then "year" else if v<u5 cs S p then "anvil" else if K9 cs rs S p=true then "" else "rule"
def xa(x:Str):D:=if x="" then .bC else .str x
theorem YY{cs:List a9}{v:Int}{rs:List eX}{S S':Nat->Bool}{p:Nat}(h:∀i,i<cs.length->S i=S' i):fault cs v rs S p=fault cs v rs S' p:=by
 have a:∀f:Nat->Bool->Bool,((List.range cs.length).any λi=>f i (S i))=(List.range cs.length).any λi=>f i (S' i):=λf=>by
  rw[aU,aR,aR];constructor
  ·rintro⟨i,h1,h2⟩;exact⟨i,h1,by rw[<- h i (aT.mp h1)];exact h2⟩
  ·rintro⟨i,h1,h2⟩;exact⟨i,h1,by rw[h i (aT.mp h1)];exact h2⟩
 have b1:C0 cs S p=C0 cs S' p:=a λi t=>t&&mw (bH cs i) (bH cs p);have b2:B3 cs S p=B3 cs S' p:=a λi t=>t&&jS (bH cs i) (bH cs p);have b3:U8 cs S p=U8 cs S' p:=by
  funext d
  unfold U8;rw[a λi t=>(t||decide (i=p))&&decide ((bH cs i).lo=d),a λi t=>!t&&decide ((bH cs i).lo=d)]
 have b4:K9 cs rs S p=K9 cs rs S' p:=by
  unfold K9
  congr 1
  funext r
  rw[a λi t=>t&&meant cs r.w r.x i]
 unfold fault u5;rw[b1,b2,b3,b4]
def U2:ba:=⟨3,4,(.seq (.ifs (.eL (.fy (.call 38 (fb bp)))) (.seq (.ret (.prim .lst .nil)) .pass) .pass) (.seq (.ifs (dJ .Eq bh (gN "coin")) (.seq (.ret (.comp [2] 3 (.one 2) (.dS (du .len aL)) (dJ .Eq bp aL) bp)) .pass) .pass) (.seq (.set 3 (.call 19 (fb bh))) (.seq (.ret (.comp [3,2] 5 (.many [3,4]) (.ku aL) (dJ .Eq (cJ cU aL) bh) bP)) .pass))))⟩
def Bk:ba:=⟨2,3,(.seq (.expr (.call 18 (fb aL))) (.seq (.set 2 (.call 19 (fb bh))) (.seq (.ret (.gp [2] 3 (.one 2) (.eO aL) .no (cJ bp aL))) .pass)))⟩
def BI:ba:=⟨2,5,(.seq (.kD (.many [2,3,4]) bh) (.seq (.ifs (.jt (dJ .NotIn bp (.lit (.tup [(.str "coin"),(.str "lower"),(.str "upper")]))) (dJ .Eq bP cU)) (.seq (.ret (.lit (.bl false))) .pass) .pass) (.seq (.ret (.dy (bW (.cmp .NotEq) (.call 74 (ia aL bp bP)) (.prim .lst .nil)) (bW (.cmp .NotEq) (.call 74 (ia aL bp cU)) (.prim .lst .nil)))) .pass)))⟩
def V2:ba:=⟨2,4,(.seq (.de (.many [2,3]) (.ku bh) (.seq (.ifs (.eL (.fy (.call 88 (dc aL bP)))) (.seq (.raise "BadRule" (fb (.prim .ly (ia (gN "rule ") (du .fv bp) (gN " is none for these coins"))))) .pass) .pass) .pass)) .pass)⟩
def Z0:ba:=⟨1,1,(.seq (.ret (du .sum (.comp [] 2 (.one 1) (.eO aL) .no (bW (.bin .LShift) (bf 1) bh)))) .pass)⟩
def U1:ba:=⟨2,2,(.seq (.ret (bW (.bin .BitOr) aL (bW (.bin .LShift) (bf 1) bh))) .pass)⟩
def BK:ba:=⟨2,4,(.seq (.de (.one 2) (.eO (.lit (.tup [(.str "lower"),(.str "upper")]))) (.seq (.set 3 (.call 19 (fb bp))) (.seq (.ifs (.dy (dJ .Eq (cJ aL bP) (cJ bh bP)) (.eL (.fy (.call 15 (dc (cJ aL (bW (.bin .Add) bP (bf 1))) (cJ bh (bW (.bin .Add) bP (bf 1)))))))) (.seq (.ret (.lit (.bl true))) .pass) .pass) .pass))) (.seq (.ret (.lit (.bl false))) .pass))⟩
def CI:ba:=⟨2,2,(.seq (.ret (.chain .Lt .Lt (bf 0) (cJ bh (bf 4)) (cJ aL (bf 4)))) .pass)⟩
def V0:ba:=⟨1,1,(.seq (.ret (.comp [0] 3 (.one 2) (.eO aL) .no (.call 90 (fb (.comp [2] 4 (.many [2,3]) (.ku aL) (.fy (.call 92 (dc bP aL))) bp))))) .pass)⟩
def S0:ba:=⟨1,1,(.seq (.ret (.comp [0] 3 (.one 2) (.eO aL) .no (.call 90 (fb (.comp [2] 4 (.many [2,3]) (.ku aL) (.fy (.call 93 (dc bP aL))) bp))))) .pass)⟩
def Z6:ba:=⟨1,1,(.seq (.ret (.comp [0] 3 (.one 2) (.eO (.call 20 (dc aL (gN "lower")))) .no (.call 90 (fb (.call 74 (ia aL (gN "lower") bp)))))) .pass)⟩
def N9:ba:=⟨2,8,(.seq (.set 2 (.comp [] 2 (.one 1) (.eO aL) .no (.prim .lst .nil))) (.seq (.de (.many [3,4,5]) (.eO bh) (.seq (.set 6 (.call 90 (fb (.call 74 (ia aL bP cU))))) (.seq (.de (.one 7) (.eO (.call 74 (ia aL bP dR))) (.seq (.ifs (dJ .NotIn eM (cJ bp fV)) (.seq (.expr (.eE .append (cJ bp fV) (fb eM))) .pass) .pass) .pass)) .pass))) (.seq (.ret bp) .pass)))⟩
def Z5:ba:=⟨3,5,(.seq (.set 3 (.call 91 (dc bh bp))) (.seq (.set 4 (bW (.bin .Sub) (du (.fld "full") aL) bh)) (.seq (.ret (du .len (.comp [4,3] 4 (.one 3) (.eO (du (.fld "lower_dies") aL)) (.dy (.fy (bW (.bin .BitAnd) bP bh)) (.fy (bW (.bin .BitAnd) bP aL))) bP))) .pass)))⟩
def Z1:ba:=⟨3,3,(.seq (.ifs (.fy (bW (.bin .BitAnd) bh (cJ (du (.fld "worn_by_place") aL) bp))) (.seq (.ret (gN "wear")) .pass) .pass) (.seq (.ifs (.fy (bW (.bin .BitAnd) bh (cJ (du (.fld "later_by_place") aL) bp))) (.seq (.ret (gN "year")) .pass) .pass) (.seq (.ifs (dJ .Gt (.call 100 (ia aL bh bp)) (du (.fld "room") aL)) (.seq (.ret (gN "anvil")) .pass) .pass) (.seq (.ifs (.eL (.fy (du .all (.comp [1] 3 (.one 2) (.eO (cJ (du (.fld "needed_by_place") aL) bp)) .no (bW (.bin .BitAnd) aL bp))))) (.seq (.ret (gN "rule")) .pass) .pass) (.seq (.ret (.lit .bC)) .pass)))))⟩
def V4:ba:=⟨4,4,(.seq (.gJ "size" ["Bounds"] aL (du .len bh)) (.seq (.gJ "full" ["Bounds"] aL (bW (.bin .Sub) (bW (.bin .LShift) (bf 1) (du .len bh)) (bf 1))) (.seq (.gJ "room" ["Bounds"] aL bp) (.seq (.gJ "worn_by_place" ["Bounds"] aL (.call 94 (fb bh))) (.seq (.gJ "later_by_place" ["Bounds"] aL (.call 95 (fb bh))) (.seq (.gJ "lower_dies" ["Bounds"] aL (.call 96 (fb bh))) (.seq (.gJ "needed_by_place" ["Bounds"] aL (.call 97 (dc bh bP))) .pass)))))))⟩
section
variable{P:fh}{Z:S}{g:G}{Q:KD}{E:KX}{t:MT}{it c elt:ME}{c8:List Nat}{n:Nat}
theorem w9(hP:f6 P)(Sh:S->Prop)(p:Nat->Bool)(w:Nat->D){l:List D}{k:IK}(hk:∀g',Ex g g'->k.Is l g')(hl:l.length<=1000)(h0:Sh (C5 Z c8 n))(hs:∀i d Z g',l[i]?=some d->Ex g g'->Sh Z->jb t d Z λcy=>cI P c cy g' (λb g3=>b=p i/\Ex g g3/\if b=true then aO P elt cy g3 (λy g4=>y=w i/\Ex g g4/\Sh cy) iL else Sh cy) iL)(hd:∀g',Ex g g'->Q (.ref g'.length) (g'++[.lst (((List.range l.length).filter p).map w)]))(hi:∀R:IK->G->Prop,R k g->eQ P it Z g R E):aO P (.comp c8 n t it c elt) Z g Q E:=by
 refine E7 hP (hi _ ?_);refine⟨l,λi ys Z g'=>Ex g g'/\ys=((List.range i).filter p).map w/\Sh Z,hl,λi ys Z g' q=>⟨hk _ q.1,?_⟩,⟨Ex.refl _,rfl,h0⟩,λi x ys Z g' hx q=>?_,λys Z g' q=>?_⟩
 ·obtain⟨_,rfl,_⟩:=q;rw[ak];exact aD (iw _ _) (by simp)
 ·obtain⟨e1,rfl,sh⟩:=q;refine v7 (λcy q=>n9 hP c _ _ _ _ _ _ (λb g3 q=>?_) (λ_ _ z=>z) q) (hs i x Z g' hx e1 sh);obtain⟨rfl,e3,q⟩:=q;have ef:((List.range (i+1)).filter p).map w=((List.range i).filter p).map w++if p i=true then[w i] else[]:=by
   rw[fC,dn,dB]
   congr 1
   cases z:p i<;>simp only[List.filter_cons,z,List.filter_nil]<;>rfl
  cases hp:p i with
  |true =>
   rw[hp] at q ef;rw[aK rfl] at q ⊢;refine b8 hP elt _ _ _ _ _ _ (λy g4 q=>?_) (λ_ _ z=>z) q;obtain⟨rfl,e4,sh⟩:=q;exact⟨e4,by rw[ef];rfl,sh⟩
  |false =>
   rw[hp] at q ef;rw[aC (by decide)] at q ⊢;exact⟨e3,by rw[ef];simp,q⟩
 ·obtain⟨e1,rfl,sh⟩:=q;exact hd g' e1
theorem comp_map(hP:f6 P)(Sh:S->Prop)(w:Nat->D){l:List D}{k:IK}(hk:∀g',Ex g g'->k.Is l g')(hl:l.length<=1000)(h0:Sh (C5 Z c8 n))(hs:∀i d Z g',l[i]?=some d->Ex g g'->Sh Z->jb t d Z λcy=>aO P elt cy g' (λy g4=>y=w i/\Ex g g4/\Sh cy) iL)(hd:∀g',Ex g g'->Q (.ref g'.length) (g'++[.lst ((List.range l.length).map w)]))(hi:∀R:IK->G->Prop,R k g->eQ P it Z g R E):aO P (.comp c8 n t it .no elt) Z g Q E:=by
 refine w9 hP Sh (λ_=>true) w hk hl h0 (λi d Z g' hx e sh=>v7 (λcy q=>xB ⟨rfl,e,?_⟩) (hs i d Z g' hx e sh)) (λg' e=>?_) hi
 ·exact kZ q
 ·have:=hd g' e
  rwa [show(List.range l.length).filter (λ_=>true)=List.range l.length from List.filter_eq_self.mpr λ_ _=>rfl]
theorem O0(hP:f6 P){a:Nat}{l:List D}{o:ME}(hl:c7 g a=some l)(h:∀Q:KD,Q (.ref a) g->aO P o Z g Q E):∀R:IK->G->Prop,R (.lst a) g->eQ P (.eO o) Z g R E:=λR r=>kx hP (h _ ⟨a,l,rfl,hl,r⟩)
theorem CW{a:Nat}{l:List D}{o:ME}(hl:c7 g a=some l)(h:∀Q:KD,Q (.ref a) g->aO P o Z g Q E):∀R:IK->G->Prop,R (.nU a) g->eQ P (.ku o) Z g R E:=λR r=>za (h _ ⟨a,l,rfl,hl,r⟩)
theorem CY(hP:f6 P){j:Nat}{o:ME}(hj:j<=1000)(h:∀Q:KD,Q (.int (j:Nat)) g->aO P o Z g Q E):∀R:IK->G->Prop,R (.fix (i0 0 j)) g->eQ P (.dS o) Z g R E:=λR r=>S4 hP (h _ ⟨j,rfl,by omega,by omega,by simpa using r⟩)
end
theorem Bs(l:List Nat):b7 l=(l.map λ(i:Nat)=>(i:Int)).map D.int:=by simp[b7]
structure iJ(T:Nat->Option ba):Prop where
 nf:NF T
 h2:T 2=some F4
 rW:T 12=some A8
 uW:JH T
 kJ:Dm T
 oR:T 15=some xY
 MB:T 20=some Bk
 qp:T 74=some U2
 Mv:T 88=some BI
 Mu:T 89=some V2
 rV:T 90=some Z0
 nQ:T 91=some U1
 Mt:T 92=some BK
 Mr:T 93=some CI
 Mq:T 94=some V0
 Mp:T 95=some S0
 Mo:T 96=some Z6
 Mn:T 97=some N9
 An:T 100=some Z5
 Am:T 101=some Z1
 Ah:T 113=some V4
section
variable{T:Nat->Option ba}{k d:Nat}{g g':G}{Q:KD}{E:KX}{a p:Nat}{cs:List a9}
theorem M8(h1:NF T)(kJ:Dm T)(qp:T 74=some U2){w:RW}{x:Int}(ha:g[a]?=some (.lst (cs.map a9.d)))(hz:cs.length<=1000)(h:∀g' b,Ex g g'->g.length<=b->g'[b]?=some (.lst (b7 (jc cs w x)))->Q (.ref b) g'):c5 T (k+3) 74 [.ref a,.str w.s,.int x] g Q E:=by
 refine call_of qp rfl ?_;dsimp[U2,c6,List.replicate];walk_at"";refine Hv (k:=k+1) h1 ?_;walk_at"";have fld:∀f:Int,(f=0\/f=2)->(∀i c,cs[i]?=some c->meant cs w x i=decide (w6 f c=x))->aO (c5 T (k+2)) (.comp [3,2] 5 (.many [3,4]) (.ku (.var 0)) (.fy (.prim (.cmp .Eq) (.cons (.prim .ix (.cons (.var 4) (.cons (.var 0) .nil))) (.cons (.var 1) .nil)))) (.var 3)) [some (.ref a),some (.str w.s),some (.int x),some (.int f)] g Q E:=λf hf hm=>by
  refine w9 (a8 T _) (λZ=>∃z2 z3 z4,Z=[some (.int f),some (.int x),z2,z3,z4]) (meant cs w x) (λi=>.int (i:Nat)) (l:=lP (cs.map a9.d)) (λg' e=>xG (a7 (e.at ha))) (by rw[M1];simpa using hz) ⟨none,none,none,rfl⟩ (λi d Z g' hx e sh=>?_) (λg' e=>?_) (CW (a7 ha) λQ q=>w_var (d:=.ref a) rfl q)
  ·obtain⟨z2,z3,z4,rfl⟩:=sh;obtain⟨dd,hd,rfl⟩:=xU hx;rw[ag,aa] at hd;obtain⟨c,hc,rfl⟩:=hd;refine A5 rfl ?_
   try show cI _ _ _ _ _ _
   walk_at"";refine q9 (J5 hf c) ?_;walk_at"";rw[hm i c hc];refine⟨rfl,e,?_⟩;refine if2 (λ_=>?_) (λ_=>?_)
   ·walk_at"";exact⟨rfl,e,_,_,_,rfl⟩
   ·exact⟨_,_,_,rfl⟩
  ·rw[M1,ak];exact h _ _ (e.trans (Ex.snoc _ _)) e.len b0
 cases w with
 |fm =>
  refine hJ (by decide +kernel) ?_;walk_at"";refine w9 (a8 T _) (λZ=>∃z1 z2,Z=[some (.int x),z1,z2]) (meant cs .fm x) (λi=>.int (i:Nat)) (l:=i0 0 cs.length) (λg' e=>n8) (by rw[j4];exact hz) ⟨none,none,rfl⟩ (λi d Z g' hx e sh=>?_) (λg' e=>?_) (CY (a8 T _) hz λQ q=>?_)
  ·obtain⟨z2,z3,rfl⟩:=sh;obtain⟨hi,rfl⟩:=t8 hx;rw[dQ];refine f7 ?_
   try show cI _ _ _ _ _ _
   walk_at"";refine⟨rfl,e,?_⟩;refine if2 (λ_=>?_) (λ_=>?_)
   ·walk_at"";exact⟨rfl,e,_,_,rfl⟩
   ·exact⟨_,_,rfl⟩
  ·rw[j4];exact h _ _ (e.trans (Ex.snoc _ _)) e.len b0
  ·walk_at"";rw[ak];exact q
 |lower =>
  refine fK (by decide +kernel) ?_;walk_at"";refine E9 (k:=k) kJ (by decide +kernel) (λ_=>?_) (λz=>absurd z (by decide +kernel)) (λz=>absurd rfl z);walk_at"";exact fld 0 (.inl rfl) λi c hc=>by simp only[meant,B0 hc];rfl
 |upper =>
  refine fK (by decide +kernel) ?_;walk_at"";refine E9 (k:=k) kJ (by decide +kernel) (λz=>absurd z (by decide +kernel)) (λ_=>?_) (λ_ z=>absurd rfl z);walk_at"";exact fld 2 (.inr rfl) λi c hc=>by simp only[meant,B0 hc];rfl
theorem M4(rV:T 90=some Z0){l:List Nat}(ha:g[a]?=some (.lst (b7 l)))(hz:l.length<=1000)(hl:∀i∈l,i<=1000)(h:∀g',Ex g g'->Q (.int (ou l:Nat)) g'):c5 T (k+1) 90 [.ref a] g Q E:=by
 refine call_of rV rfl ?_;dsimp[Z0,c6,List.replicate];walk_at"";refine comp_map (a8 T _) (λZ=>∃z0 z1,Z=[z0,z1]) (λi=>.int ((2 ^ (l.getD i 0):Nat):Int)) (l:=b7 l) (k:=.lst a) (λg' e=>k6 (a7 (e.at ha))) (by simpa[b7] using hz) ⟨none,none,rfl⟩ (λi d Z g' hx e sh=>?_) (λg' e=>?_) (O0 (a8 T _) (a7 ha) λQ q=>w_var (d:=.ref a) rfl q)
 ·obtain⟨z0,z1,rfl⟩:=sh;rw[b7,ag,aa] at hx;obtain⟨j,hj,rfl⟩:=hx;refine f7 ?_
  try show aO _ _ _ _ _ _
  walk_at"";have:=hl j (aI hj);refine BX ⟨by omega,by omega,by decide⟩ ?_;refine⟨?_,e,_,_,rfl⟩;simp[List.getD,hj]
 ·refine Jw (ns:=(List.range l.length).map λi=>((2 ^ (l.getD i 0):Nat):Int)) (a7 (by rw[cb];simpa[b7] using b0)) ?_;have:((List.range l.length).map λi=>((2 ^ (l.getD i 0):Nat):Int)).sum=(ou l:Nat):=by
   have e2:(List.range l.length).map (λi=>((2 ^ (l.getD i 0):Nat):Int))=(l.map (2 ^ ·)).map λ(n:Nat)=>(n:Int):=by
    refine cw λi=>?_;rw[ag,ag,ag];by_cases hi:i<l.length
    ·rw[bA hi,aj hi];simp[List.getD,hi]
    ·rw[aJ (by simpa using hi),aJ (by omega)]
     rfl
   rw[e2];unfold ou;generalize l.map (2 ^ ·)=m
   induction m with
   |nil=>rfl
   |cons x r ih=>simp[ih]
  rw[this];exact h _ (e.trans (Ex.snoc _ _))
theorem z9(nQ:T 91=some U1){s p:Nat}(hp:p<=1000)(h:Q (.int ((s |||2 ^ p:Nat):Int)) g):c5 T (k+1) 91 [.int (s:Nat),.int (p:Nat)] g Q E:=by
 refine call_of nQ rfl ?_;dsimp[U1,c6,List.replicate];walk_at"";refine BX ⟨by omega,by omega,by decide⟩ ?_;walk_at"";refine SU ?_;have e:(1:Int)*2 ^ ((p:Nat):Int).toNat=((2 ^ p:Nat):Int):=by simp
 rw[e,OZ];exact h
end
section
variable{T:Nat->Option ba}{k d:Nat}{g g':G}{Q:KD}{E:KX}{a p:Nat}{cs:List a9}
theorem Ie{c:a9}(h:CB c):c.lm.length<=1000/\c.um.length<=1000:=⟨aD h.1 (by decide),aD h.2 (by decide)⟩
theorem Zt(hT:iJ T){c e:a9}(hc:CB c)(h:∀g',Ex g g'->Q (.bl (mw c e)) g'):c5 T (k+3) 92 [c.d,e.d] g Q E:=by
 refine call_of hT.Mt rfl ?_;dsimp[BK,c6,List.replicate];walk_at"";refine u3 (a8 T _) (uj (a8 T _) ?_);walk_at"";refine⟨_,rfl,_,λi Z g'=>Ex g g'/\(∃z2 z3,Z=[some c.d,some e.d,z2,z3])/\(1<=i->(decide (c.lo=e.lo)&&!ja c.lm e.lm)=false)/\(2<=i->(decide (c.up=e.up)&&!ja c.um e.um)=false),λ_ _ _ _=>n8,⟨Ex.refl _,⟨none,none,rfl⟩,λz=>absurd z (by omega),λz=>absurd z (by omega)⟩,λi x Z g' hx q=>?_,λZ g' q=>?_⟩
 ·obtain⟨e1,⟨z2,z3,rfl⟩,q1,q2⟩:=q;refine f7 ?_
  try show wpS _ _ _ _ _ _
  match i,hx with
  |0,hx =>
   cases hx;walk_at"";refine E9 (k:=k) hT.kJ (by decide +kernel) (λ_=>?_) (λz=>absurd z (by decide +kernel)) (λz=>absurd rfl z);walk_at"";refine q9 (l:=[.int c.lo,.tup (c.lm.map .int),.int c.up,.tup (c.um.map .int),.int c.yr]) rfl ?_;walk_at"";refine q9 (l:=[.int e.lo,.tup (e.lm.map .int),.int e.up,.tup (e.um.map .int),.int e.yr]) rfl ?_;walk_at"";refine if2 (λh1=>?_) (λh1=>?_)
   ·walk_at"";refine q9 (l:=[.int c.lo,.tup (c.lm.map .int),.int c.up,.tup (c.um.map .int),.int c.yr]) rfl ?_;walk_at"";refine q9 (l:=[.int e.lo,.tup (e.lm.map .int),.int e.up,.tup (e.um.map .int),.int e.yr]) rfl ?_;walk_at"";refine GJ (k:=k+1) hT.oR (Ie hc).1 λg2 e2=>?_;walk_at"";cases hw:ja c.lm e.lm with
    |false =>
     walk_at"";have:mw c e=true:=by unfold mw;rw[aA h1,hw];rfl
     rw[<- this];exact h _ (e1.trans e2)
    |true =>
     walk_at"";exact⟨e1.trans e2,⟨_,_,rfl⟩,λ_=>by rw[aA h1];rfl,λz=>absurd z (by omega)⟩
   ·walk_at"";exact⟨e1,⟨_,_,rfl⟩,λ_=>by rw[az h1];rfl,λz=>absurd z (by omega)⟩
  |1,hx =>
   cases hx;walk_at"";refine E9 (k:=k) hT.kJ (by decide +kernel) (λz=>absurd z (by decide +kernel)) (λ_=>?_) (λ_ z=>absurd rfl z);walk_at"";refine q9 (l:=[.int c.lo,.tup (c.lm.map .int),.int c.up,.tup (c.um.map .int),.int c.yr]) rfl ?_;walk_at"";refine q9 (l:=[.int e.lo,.tup (e.lm.map .int),.int e.up,.tup (e.um.map .int),.int e.yr]) rfl ?_;walk_at"";refine if2 (λh1=>?_) (λh1=>?_)
   ·walk_at"";refine q9 (l:=[.int c.lo,.tup (c.lm.map .int),.int c.up,.tup (c.um.map .int),.int c.yr]) rfl ?_;walk_at"";refine q9 (l:=[.int e.lo,.tup (e.lm.map .int),.int e.up,.tup (e.um.map .int),.int e.yr]) rfl ?_;walk_at"";refine GJ (k:=k+1) hT.oR (Ie hc).2 λg2 e2=>?_;walk_at"";cases hw:ja c.um e.um with
    |false =>
     walk_at"";have:mw c e=true:=by unfold mw;rw[aA h1,hw];simp
     rw[<- this];exact h _ (e1.trans e2)
    |true =>
     walk_at"";exact⟨e1.trans e2,⟨_,_,rfl⟩,λ_=>q1 (by omega),λ_=>by rw[aA h1];rfl⟩
   ·walk_at"";exact⟨e1,⟨_,_,rfl⟩,λ_=>q1 (by omega),λ_=>by rw[az h1];rfl⟩
  |i+2,hx=>simp at hx
 ·obtain⟨e1,⟨z2,z3,rfl⟩,q1,q2⟩:=q
  try show wpS _ _ _ _ _ _
  walk_at"";have:mw c e=false:=by unfold mw;rw[q1 (by decide),q2 (by decide)];rfl
  rw[<- this];exact h _ e1
theorem ZN(hT:iJ T){c e:a9}(h:Q (.bl (jS c e)) g):c5 T (k+1) 93 [c.d,e.d] g Q E:=by
 refine call_of hT.Mr rfl ?_;dsimp[CI,c6,List.replicate];walk_at"";refine q9 (l:=[.int e.lo,.tup (e.lm.map .int),.int e.up,.tup (e.um.map .int),.int e.yr]) rfl ?_;walk_at"";refine if2 (λh1=>?_) (λh1=>?_)
 ·walk_at"";refine q9 (l:=[.int c.lo,.tup (c.lm.map .int),.int c.up,.tup (c.um.map .int),.int c.yr]) rfl ?_;walk_at"";have:jS c e=decide (e.yr<c.yr):=by unfold jS;rw[aA h1];rfl
  rw[<- this];exact h
 ·have:jS c e=false:=by unfold jS;rw[az h1];rfl
  rw[<- this];exact h
def rA(cs:List a9)(q:a9->a9->Bool):List D:=(List.range cs.length).map λi=>.int ((gY cs.length λj=>q (bH cs j) (bH cs i):Nat):Int)
theorem vN{cs:List a9}{q:Nat->Bool}:∀i∈(List.range cs.length).filter q,i<cs.length:=λi hi=>aT.mp (bj.mp hi).1
theorem C4{n:Nat}{q:Nat->Bool}:((List.range n).filter q).length<=n:=aD (iw _ _) (by simp)
theorem SQ(hT:iJ T)(ha:g[a]?=some (.lst (cs.map a9.d)))(hz:cs.length<=9)(hB:∀c∈cs,CB c)(h:∀g' b,Ex g g'->g.length<=b->g'[b]?=some (.lst (rA cs mw))->Q (.ref b) g'):c5 T (k+4) 94 [.ref a] g Q E:=by
 refine call_of hT.Mq rfl ?_;dsimp[V0,c6,List.replicate];walk_at"";refine comp_map (a8 T _) (λZ=>∃z1 z2,Z=[some (.ref a),z1,z2]) (λi=>.int ((gY cs.length λj=>mw (bH cs j) (bH cs i):Nat):Int)) (l:=cs.map a9.d) (k:=.lst a) (λg' e=>k6 (a7 (e.at ha))) (by simp;omega) ⟨none,none,rfl⟩ (λi d Z g' hx e sh=>?_) (λg' e=>?_) (O0 (a8 T _) (a7 ha) λQ q=>w_var (d:=.ref a) rfl q)
 ·obtain⟨z1,z2,rfl⟩:=sh;rw[ag,aa] at hx;obtain⟨c,hc,rfl⟩:=hx;refine f7 ?_
  try show aO _ _ _ _ _ _
  walk_at"";refine w9 (a8 T _) (λZ=>∃z1 z2 z3,Z=[some c.d,z1,z2,z3]) (λj=>mw (bH cs j) (bH cs i)) (λi=>.int (i:Nat)) (l:=lP (cs.map a9.d)) (k:=.nU a) (λg2 e2=>xG (a7 ((e.trans e2).at ha))) (by rw[M1];simp;omega) ⟨none,none,none,rfl⟩ (λj d Z g2 hx e2 sh=>?_) (λg2 e2=>?_) (CW (a7 (e.at ha)) λQ q=>w_var (d:=.ref a) rfl q)
  ·obtain⟨z1,z2,z3,rfl⟩:=sh;obtain⟨dd,hd,rfl⟩:=xU hx;rw[ag,aa] at hd;obtain⟨c',iG,rfl⟩:=hd;refine A5 rfl ?_
   try show cI _ _ _ _ _ _
   walk_at"";refine Zt (k:=k) hT (hB c' (aI iG)) λg3 e3=>?_;walk_at"";refine⟨by simp only[B0 iG,B0 hc],e2.trans e3,?_⟩;cases mw c' c with
   |true =>
    refine hJ rfl ?_;walk_at"";exact⟨rfl,e2.trans e3,_,_,_,rfl⟩
   |false=>exact fK rfl ⟨_,_,_,rfl⟩
  ·walk_at"";refine M4 (k:=k+2) hT.rV (l:=(List.range cs.length).filter λj=>mw (bH cs j) (bH cs i)) (by have:=b0 (g:=g2) (o:=.lst (((List.range (lP (cs.map a9.d)).length).filter λj=>mw (bH cs j) (bH cs i)).map λi=>D.int (i:Nat)));rw[M1,ak] at this ⊢;exact this) (aD C4 (by omega)) (λj hj=>by have:=vN j hj;omega) λg3 e3=>?_;exact⟨rfl,(e.trans (e2.trans (Ex.snoc _ _))).trans e3,_,_,rfl⟩
 ·refine h _ _ (e.trans (Ex.snoc _ _)) e.len ?_;rw[b0,ak]
  rfl
theorem Xi(hT:iJ T)(ha:g[a]?=some (.lst (cs.map a9.d)))(hz:cs.length<=9)(h:∀g' b,Ex g g'->g.length<=b->g'[b]?=some (.lst (rA cs jS))->Q (.ref b) g'):c5 T (k+4) 95 [.ref a] g Q E:=by
 refine call_of hT.Mp rfl ?_;dsimp[S0,c6,List.replicate];walk_at"";refine comp_map (a8 T _) (λZ=>∃z1 z2,Z=[some (.ref a),z1,z2]) (λi=>.int ((gY cs.length λj=>jS (bH cs j) (bH cs i):Nat):Int)) (l:=cs.map a9.d) (k:=.lst a) (λg' e=>k6 (a7 (e.at ha))) (by simp;omega) ⟨none,none,rfl⟩ (λi d Z g' hx e sh=>?_) (λg' e=>?_) (O0 (a8 T _) (a7 ha) λQ q=>w_var (d:=.ref a) rfl q)
 ·obtain⟨z1,z2,rfl⟩:=sh;rw[ag,aa] at hx;obtain⟨c,hc,rfl⟩:=hx;refine f7 ?_
  try show aO _ _ _ _ _ _
  walk_at"";refine w9 (a8 T _) (λZ=>∃z1 z2 z3,Z=[some c.d,z1,z2,z3]) (λj=>jS (bH cs j) (bH cs i)) (λi=>.int (i:Nat)) (l:=lP (cs.map a9.d)) (k:=.nU a) (λg2 e2=>xG (a7 ((e.trans e2).at ha))) (by rw[M1];simp;omega) ⟨none,none,none,rfl⟩ (λj d Z g2 hx e2 sh=>?_) (λg2 e2=>?_) (CW (a7 (e.at ha)) λQ q=>w_var (d:=.ref a) rfl q)
  ·obtain⟨z1,z2,z3,rfl⟩:=sh;obtain⟨dd,hd,rfl⟩:=xU hx;rw[ag,aa] at hd;obtain⟨c',iG,rfl⟩:=hd;refine A5 rfl ?_
   try show cI _ _ _ _ _ _
   walk_at"";refine ZN (k:=k+2) hT ?_;walk_at"";refine⟨by simp only[B0 iG,B0 hc],e2,?_⟩;cases jS c' c with
   |true =>
    refine hJ rfl ?_;walk_at"";exact⟨rfl,e2,_,_,_,rfl⟩
   |false=>exact fK rfl ⟨_,_,_,rfl⟩
  ·walk_at"";refine M4 (k:=k+2) hT.rV (l:=(List.range cs.length).filter λj=>jS (bH cs j) (bH cs i)) (by have:=b0 (g:=g2) (o:=.lst (((List.range (lP (cs.map a9.d)).length).filter λj=>jS (bH cs j) (bH cs i)).map λi=>D.int (i:Nat)));rw[M1,ak] at this ⊢;exact this) (aD C4 (by omega)) (λj hj=>by have:=vN j hj;omega) λg3 e3=>?_;exact⟨rfl,(e.trans (e2.trans (Ex.snoc _ _))).trans e3,_,_,rfl⟩
 ·refine h _ _ (e.trans (Ex.snoc _ _)) e.len ?_;rw[b0,ak]
  rfl
theorem ZF(hT:iJ T)(ha:g[a]?=some (.lst (cs.map a9.d)))(hz:cs.length<=9)(hg:cs.all A9=true)(h:Q (.ref g.length) (g++[.lst ((m9 (cs.map a9.lo)).map .int)])):c5 T (k+7) 20 [.ref a,.str "lower"] g Q E:=by
 refine call_of hT.MB rfl ?_;dsimp[Bk,c6,List.replicate];walk_at"";refine X6 (k:=k) hT.nf hT.h2 hT.rW hT.uW ha (by omega) (λz=>by omega) (λ_ z=>by rw[hg] at z;cases z) λ_ _=>?_;walk_at"";refine E9 (k:=k+4) hT.kJ (by decide +kernel) (λ_=>?_) (λz=>absurd z (by decide +kernel)) (λz=>absurd rfl z);walk_at"";refine SI (a8 T _) (kx (a8 T _) ?_);walk_at"";refine⟨a,_,rfl,a7 ha,cs.map a9.d,λi ys Z g'=>∃z w,ys=(cs.take i).map a9.lo/\Z=[some (.int 0),z,w]/\g'=g,by simp;omega,λi ys Z g' p=>?_,⟨none,none,rfl,rfl,rfl⟩,λi c ys Z g' hx p=>?_,λys Z g' p=>?_⟩
 ·obtain⟨z,w,rfl,rfl,rfl⟩:=p;exact⟨k6 (a7 ha),by simp;omega⟩
 ·obtain⟨z,w,rfl,rfl,rfl⟩:=p;rw[ag,aa] at hx;obtain⟨c,hc,rfl⟩:=hx;show cI _ _ _ _ _ _;walk_at"";refine q9 (l:=[.int c.lo,.tup (c.lm.map .int),.int c.up,.tup (c.um.map .int),.int c.yr]) rfl ?_;refine⟨_,rfl,_,_,?_,rfl,rfl⟩;rw[bu,hc];simp
 ·obtain⟨z,w,rfl,rfl,rfl⟩:=p;rw[ak,bI];exact h
def V8(cs:List a9):List D:=(m9 (cs.map a9.lo)).map λd=>.int ((gY cs.length (meant cs .lower d):Nat):Int)
theorem Wg(hT:iJ T)(ha:g[a]?=some (.lst (cs.map a9.d)))(hz:cs.length<=9)(hg:cs.all A9=true)(h:∀g' b,Ex g g'->g.length<=b->g'[b]?=some (.lst (V8 cs))->Q (.ref b) g'):c5 T (k+8) 96 [.ref a] g Q E:=by
 refine call_of hT.Mo rfl ?_;dsimp[Z6,c6,List.replicate];walk_at"";have zA:(m9 (cs.map a9.lo)).length<=9:=aD (T5 _) (by simpa using hz);unfold V8 at h;refine E7 (a8 T _) (kx (a8 T _) ?_);walk_at"";refine ZF (k:=k) hT ha hz hg ?_;have e0:=Ex.snoc g (O.lst ((m9 (cs.map a9.lo)).map .int));have hb:=b0 (g:=g) (o:=O.lst ((m9 (cs.map a9.lo)).map .int));generalize m9 (cs.map a9.lo)=ds at *;generalize g++[O.lst (ds.map .int)]=g1 at *;refine⟨_,_,rfl,a7 hb,ds.map .int,λi ys Z g'=>Ex g1 g'/\ys=(ds.take i).map (λd=>.int ((gY cs.length (meant cs .lower d):Nat):Int))/\∃z1 z2,Z=[some (.ref a),z1,z2],by simp;omega,λi ys Z g' q=>⟨k6 (a7 (q.1.at hb)),?_⟩,⟨Ex.refl _,rfl,none,none,rfl⟩,λi x ys Z g' hx q=>?_,λys Z g' q=>?_⟩
 ·obtain⟨_,rfl,_⟩:=q;simp;omega
 ·obtain⟨e1,rfl,z1,z2,rfl⟩:=q;rw[ag,aa] at hx;obtain⟨dd,hd,rfl⟩:=hx;refine f7 ?_
  try show cI _ _ _ _ _ _
  walk_at"";refine M8 (k:=k+4) hT.nf hT.kJ hT.qp (w:=.lower) ((e0.trans e1).at ha) (by omega) λg2 b2 e2 _ uN=>?_;walk_at"";refine M4 (k:=k+6) hT.rV uN (aD C4 (by omega)) (λj hj=>by have:=vN j hj;omega) λg3 e3=>?_;refine⟨e1.trans (e2.trans e3),?_,_,_,rfl⟩;rw[bu,hd];simp[gY,jc]
 ·obtain⟨e1,rfl,z1,z2,rfl⟩:=q;rw[ak,bI];exact h _ _ (e0.trans (e1.trans (Ex.snoc _ _))) (aD e0.len e1.len) b0
end
theorem N8{g:G}{a:Nat}{ms:List Int}{i:Int}{k:Bool->Prop}(ha:c7 g a=some (ms.map .int))(h:k (ms.any λm=>m==i)):pZ g (.int i) (.ref a) k:=by
 refine⟨_,.inr ⟨_,_,_,ha,N4 ms,rfl,lay_ints ms,by simp[PyData.canLay0],rfl⟩,?_⟩;rw[kl];exact h
theorem Bh{g:G}{a:Nat}{l:List Nat}{i:Nat}{k:Bool->Prop}(ha:g[a]?=some (.lst (b7 l)))(h:k (decide (i∈l))):pZ g (.int (i:Nat)) (.ref a) k:=by
 refine N8 (ms:=l.map λ(i:Nat)=>(i:Int)) (by rw[<- Bs];exact a7 ha) ?_;have:((l.map λ(i:Nat)=>(i:Int)).any λm=>m==(i:Int))=decide (i∈l):=by
  rw[aU,aR,cq];constructor
  ·rintro⟨x,hx,e⟩;obtain⟨j,hj,rfl⟩:=aQ.mp hx;rw[fj] at e;rw[show i=j by omega];exact hj
  ·exact λhi=>⟨_,aQ.mpr ⟨i,hi,rfl⟩,by simp⟩
 rw[this];exact h
structure mY(g:G)(nb lo n:Nat)(B:Nat->Nat)(F:Nat->Nat->Prop):Prop where
 ex:∃as:List Nat,g[nb]?=some (.lst (as.map .ref))/\as.length=n/\as.Nodup/\(∀a∈as,lo<=a/\a≠nb)/\∀i a,as[i]?=some a->∃ms:List Nat,g[a]?=some (.lst (b7 ms))/\ms.length<=B i/\∀m,m∈ms↔F i m
theorem mY.at{g g':G}{nb lo n:Nat}{B:Nat->Nat}{F:Nat->Nat->Prop}(h:mY g nb lo n B F)(e:Ex g g'):mY g' nb lo n B F:=by
 obtain⟨as,h1,h2,h3,h4,h5⟩:=h.ex;refine⟨⟨as,e.at h1,h2,h3,h4,λi a hi=>?_⟩⟩;obtain⟨ms,m1,m2⟩:=h5 i a hi;exact⟨ms,e.at m1,m2⟩
theorem mY.imp{g:G}{nb lo n:Nat}{B B':Nat->Nat}{F F':Nat->Nat->Prop}(h:mY g nb lo n B F)(hB:∀i,i<n->B i<=B' i)(hF:∀i m,i<n->(F i m↔F' i m)):mY g nb lo n B' F' :=
 let ⟨as,h1,h2,h3,h4,h5⟩:=h.ex
 ⟨⟨as,h1,h2,h3,h4,λi a hi=>let ⟨ms,m1,m2,m3⟩:=h5 i a hi
  have ie:i<n:=by rw[<- h2];exact(ao.mp hi).1
  ⟨ms,m1,aD m2 (hB i ie),λm=>(m3 m).trans (hF i m ie)⟩⟩⟩
def sI(cs:List a9)(rs:List eX)(i m:Nat):Prop:=∃r∈rs,meant cs r.w r.y i=true/\m=gY cs.length (meant cs r.w r.x)
def u6(rs:List eX):List D:=rs.map eX.d
theorem GA{α:Type}{l:List α}(h:l.Nodup){i j:Nat}{a:α}(hi:l[i]?=some a)(hj:l[j]?=some a):i=j:=by
 obtain⟨h1,e1⟩:=ao.mp hi;obtain⟨h2,e2⟩:=ao.mp hj;exact(kR h).mp (e1.trans e2.symm)
section
variable{T:Nat->Option ba}{k d:Nat}{g g':G}{Q:KD}{E:KX}{a c p:Nat}{cs:List a9}{rs:List eX}
theorem Xo(hT:iJ T)(ha:g[a]?=some (.lst (cs.map a9.d)))(hz:cs.length<=9)(hc:g[c]?=some (.lst (u6 rs)))(hr:rs.length<=900)(h:∀g' b,Ex g g'->g.length<=b->mY g' b g.length cs.length (λ_=>rs.length) (sI cs rs)->Q (.ref b) g'):c5 T (k+4) 97 [.ref a,.ref c] g Q E:=by
 refine call_of hT.Mn rfl ?_;dsimp[N9,c6,List.replicate];walk_at"";refine E7 (a8 T _) (kx (a8 T _) ?_);walk_at"";refine⟨a,_,rfl,a7 ha,cs.map a9.d,λi ys Z g'=>Ex g g'/\(∃as:List Nat,ys=as.map .ref/\as.length=i/\as.Nodup/\∀b∈as,g.length<=b/\g'[b]?=some (.lst []))/\∃z0 z1,Z=[z0,z1],by simp;omega,λi ys Z g' q=>⟨k6 (a7 (q.1.at ha)),?_⟩,⟨Ex.refl _,⟨[],rfl,rfl,by simp,by simp⟩,none,none,rfl⟩,λi x ys Z g' hx q=>?_,λys Z g' q=>?_⟩
 ·obtain⟨_,⟨as,rfl,rfl,_⟩,_⟩:=q;simp
 ·obtain⟨e1,⟨as,rfl,hl,nd,hA⟩,z0,z1,rfl⟩:=q;refine f7 ?_
  try show cI _ _ _ _ _ _
  walk_at"";refine⟨e1.trans (Ex.snoc _ _),⟨as++[g'.length],by simp,by simp[hl],?_,λb hb=>?_⟩,_,_,rfl⟩
  ·rw[cu];exact⟨nd,by simp,λx hx y hy=>by cases aY.mp hy;exact aN (j7 (hA x hx).2)⟩
  ·rcases aV.mp hb with hb|hb
   ·exact⟨(hA b hb).1,(Ex.snoc _ _).at (hA b hb).2⟩
   ·cases aY.mp hb;exact⟨e1.len,b0⟩
 ·obtain⟨e1,⟨as,rfl,hl,nd,hA⟩,z0,z1,rfl⟩:=q;rw[ak] at hl;walk_at"";have e2:=e1.trans (Ex.snoc g' (O.lst (as.map D.ref)));have lo:=e1.len;have N0:mY (g'++[O.lst (as.map D.ref)]) g'.length g.length cs.length (λ_=>0) (sI cs []):=⟨⟨as,b0,hl,nd,λb hb=>⟨(hA b hb).1,aN (j7 (hA b hb).2)⟩,λi b hb=>⟨[],(Ex.snoc _ _).at (hA b (aI hb)).2,by simp,λm=>⟨λz=>absurd z (by simp),λ⟨r,hr,_⟩=>absurd hr (by simp)⟩⟩⟩⟩
  generalize g'++[O.lst (as.map D.ref)]=g1 at *;generalize g'.length=nb at *;refine u3 (a8 T _) (kx (a8 T _) ?_);walk_at"";refine⟨c,_,rfl,a7 (e2.at hc),u6 rs,λi Z g'=>Ex g g'/\mY g' nb g.length cs.length (λ_=>i) (sI cs (rs.take i))/\∃z3 z4 z5 z6 z7,Z=[some (.ref a),some (.ref c),some (.ref nb),z3,z4,z5,z6,z7],λi Z g' q=>k6 (a7 (q.1.at hc)),⟨e2,N0,none,none,none,none,none,rfl⟩,λi x Z g' hx q=>?_,λZ g' q=>?_⟩
  ·obtain⟨e3,N3,z3,z4,z5,z6,z7,rfl⟩:=q;rw[u6,ag,aa] at hx;obtain⟨r,dH,rfl⟩:=hx;have hi:i<rs.length:=(ao.mp dH).1;refine A5 (l:=[.str r.w.s,.int r.x,.int r.y]) rfl ?_
   try show wpS _ _ _ _ _ _
   walk_at"";refine M8 (k:=k) hT.nf hT.kJ hT.qp (e3.at ha) (by omega) λg4 b4 e4 _ Mc=>?_;walk_at"";refine M4 (k:=k+2) hT.rV Mc (aD C4 (by omega)) (λj hj=>by have:=vN j hj;omega) λg5 e5=>?_;walk_at"";have xg:=e3.trans (e4.trans e5);have N5:=N3.at (e4.trans e5);have ef:ou (jc cs r.w r.x)=gY cs.length (meant cs r.w r.x):=rfl;rw[ef];generalize gY cs.length (meant cs r.w r.x)=first at *
   refine u3 (a8 T _) (kx (a8 T _) ?_);walk_at"";refine M8 (k:=k) hT.nf hT.kJ hT.qp (xg.at ha) (by omega) λg6 b6 e6 hb6 Em=>?_;refine⟨b6,_,rfl,a7 Em,b7 (jc cs r.w r.y),λj Z g'=>Ex g g'/\g'[b6]?=some (.lst (b7 (jc cs r.w r.y)))/\mY g' nb g.length cs.length (λq=>i+if q∈(jc cs r.w r.y).take j then 1 else 0) (λq m=>sI cs (rs.take i) q m\/(q∈(jc cs r.w r.y).take j/\m=first))/\(∀as:List Nat,g'[nb]?=some (.lst (as.map .ref))->b6∉as)/\∃z7,Z=[some (.ref a),some (.ref c),some (.ref nb),some (.str r.w.s),some (.int r.x),some (.int r.y),some (.int (first:Nat)),z7],λj Z g' q=>k6 (a7 q.2.1),⟨xg.trans e6,Em,(N5.at e6).imp (λq _=>by simp) (λq m _=>by simp),?_,z7,rfl⟩,λj x Z g' hx q=>?_,λZ g' q=>?_⟩
   ·intro xC h' hm;obtain⟨vA,h1,h2,h3,h4,h5⟩:=N5.ex;have:=(e6.at h1).symm.trans h';have e':vA=xC:=by
     have h0:vA.map D.ref=xC.map D.ref:=by injection this with w;injection w
     exact(List.map_inj_right (λx y z=>by injection z)).mp h0
    subst e';obtain⟨i',ie⟩:=ff.mp hm;obtain⟨ms,m1,_⟩:=h5 i' b6 ie;have:=j7 m1;omega
   ·obtain⟨e7,p7,N7,wG,z7,rfl⟩:=q;rw[b7,ag,aa] at hx;obtain⟨q,hq,rfl⟩:=hx;have El:q<cs.length:=vN q (aI hq);have Lp:q∉(jc cs r.w r.y).take j:=λz=>by
     obtain⟨j',zD⟩:=ff.mp z;have hl:j'<j:=by
      have:=(ao.mp zD).1;simp at this;omega
     rw[gn hl] at zD;have Kx:(jc cs r.w r.y).Nodup:=gE.filter _;have:=GA Kx zD hq;omega
    have tk:(jc cs r.w r.y).take (j+1)=(jc cs r.w r.y).take j++[q]:=by rw[bu,hq];rfl
    obtain⟨vz,h1,h2,h3,h4,h5⟩:=N7.ex;have Lf:q<vz.length:=by omega
    have rQ:=aj Lf;generalize vz[q]=aq at rQ;obtain⟨ms,m1,m2,m3⟩:=h5 q aq rQ;have gq:fL (vz.map D.ref) (q:Int)=some (.ref aq):=B8 (by rw[ag,rQ];rfl);refine f7 ?_
    try show wpS _ _ _ _ _ _
    walk_at"";refine m7 (a7 h1) gq ?_;refine sA (Bh m1 ?_);walk_at"";by_cases jh:first∈ms
    ·refine fK (by simp[jh]) ?_;walk_at"";refine⟨e7,p7,N7.imp (λq' _=>?_) (λq' m _=>?_),wG,_,rfl⟩
     ·rw[tk];simp only[List.mem_append,List.mem_singleton];by_cases z:q'∈(jc cs r.w r.y).take j
      ·simp[z]
      ·simp[z]
     ·rw[tk];simp only[List.mem_append,List.mem_singleton];constructor
      ·rintro(z|⟨z1,z2⟩)
       ·exact .inl z
       ·exact .inr ⟨.inl z1,z2⟩
      ·rintro(z|⟨z1|z1,z2⟩)
       ·exact .inl z
       ·exact .inr ⟨z1,z2⟩
       ·subst z1 z2;exact(m3 m).mp jh
    ·refine hJ (by simp[jh]) ?_;walk_at"";refine m7 (a7 h1) gq ?_
     try refine⟨X0 m1,?_⟩
     walk_at"";rw[aC Lp] at m2;refine O7 m1 (by simp[b7];omega) ?_;walk_at"";have mF:=aI rQ;have dG:=(h4 aq mF).2;have Ls:aq≠b6:=λz=>wG vz h1 (z▸mF);have ES:=d0 (o':=O.lst (b7 ms++[D.int (first:Nat)])) h1 dG;refine⟨⟨by simp;exact e7.len,λi' ie=>by rw[ax (by have:=(h4 aq mF).1;omega)];exact e7.old i' ie⟩,d0 p7 Ls,⟨⟨vz,ES,h2,h3,h4,λi' b hb=>?_⟩⟩,λxC h'=>?_,_,rfl⟩
     ·by_cases wN:i'=q
      ·subst wN;have:b=aq:=by rw[rQ] at hb;injection hb with z;exact z.symm
       subst this;refine⟨ms++[first],by rw[get_set m1];simp[b7],?_,λm=>?_⟩
       ·rw[tk];simp;omega
       ·rw[aV,aY,m3 m,tk];simp only[List.mem_append,List.mem_singleton];constructor
        ·rintro((z|⟨z1,z2⟩)|z)
         ·exact .inl z
         ·exact .inr ⟨.inl z1,z2⟩
         ·exact .inr ⟨.inr trivial,z⟩
        ·rintro(z|⟨z1|z1,z2⟩)
         ·exact .inl (.inl z)
         ·exact .inl (.inr ⟨z1,z2⟩)
         ·exact .inr z2
      ·have zO:aq≠b:=λz=>wN (GA h3 hb (z▸rQ));obtain⟨DV,k1,k2,k3⟩:=h5 i' b hb;refine⟨DV,d0 k1 zO,?_,λm=>(k3 m).trans ?_⟩
       ·rw[tk];simpa[wN] using k2
       ·rw[tk];simp[wN]
     ·rw[ES] at h';exact wG xC (h1.trans h')
   ·obtain⟨e7,p7,N7,wG,z7,rfl⟩:=q;rw[b7,ak,bI] at N7
    try show wpS _ _ _ _ _ _
    walk_at"";refine⟨e7,N7.imp (λq _=>by split<;>omega) (λq m hq=>?_),_,_,_,_,_,rfl⟩;have tk:rs.take (i+1)=rs.take i++[r]:=by rw[bu,dH];rfl
    unfold sI;rw[tk];simp only[List.mem_append,List.mem_singleton];constructor
    ·rintro(⟨r',h1,h2⟩|⟨h1,h2⟩)
     ·exact⟨r',.inl h1,h2⟩
     ·exact⟨r,.inr rfl,(bj.mp h1).2,by rw[h2];exact ef.symm⟩
    ·rintro⟨r',h1|h1,h2,h3⟩
     ·exact .inl ⟨r',h1,h2,h3⟩
     ·subst h1;exact .inr ⟨bj.mpr ⟨aT.mpr hq,h2⟩,by rw[h3];exact ef⟩
  ·obtain⟨e3,N3,z3,z4,z5,z6,z7,rfl⟩:=q;rw[u6,ak,bI] at N3
   try show wpS _ _ _ _ _ _
   walk_at"";exact h _ _ e3 lo N3
end
def A2(cs:List a9)(r:eX):Bool:=!decide (r.x=r.y)&&(!(jc cs r.w r.x).isEmpty&&!(jc cs r.w r.y).isEmpty)
theorem in_words{g:G}{w:RW}{kb:Bool->Prop}(h:kb true):pZ g (.str w.s) (.tup [.str "coin",.str "lower",.str "upper"]) kb:=by
 refine⟨_,.inr ⟨_,[.str "coin",.str "lower",.str "upper"],.str w.s,rfl,rfl,rfl,by simp only[PyData.canLayAll0,PyData.canLay0,Bool.and_true];decide +kernel,by simp only[PyData.canLay0];cases w<;>decide +kernel,rfl⟩,?_⟩;have:([PyData.str "coin",PyData.str "lower",PyData.str "upper"].any λq=>PyData.eqv q (.str w.s))=true:=by
  simp only[List.any_cons,List.any_nil,PyData.eqv];cases w<;>decide +kernel
 rw[this];exact h
theorem ne_nil{g:G}{a b:Nat}{l:List Nat}{Q:KD}(ha:g[a]?=some (.lst (b7 l)))(hb:g[b]?=some (.lst []))(h:Q (.bl (!l.isEmpty)) g):cG (.cmp .NotEq) [.ref a,.ref b] g Q:=by
 refine CU (WX (ms:=l.map λ(i:Nat)=>(i:Int)) (ns:=[]) (by rw[<- Bs];exact a7 ha) (a7 hb) ?_);have:decide ((l.map λ(i:Nat)=>(i:Int))=[])=l.isEmpty:=by cases l<;>simp
 rw[this];exact h
structure Bd(g:G)(b:Nat)(cs:List a9)(v:Int)(rs:List eX):Prop where
 ex:∃w l d nb,g[b]?=some (.ins "Bounds" [("size",.int cs.length),("full",.int ((2 ^ cs.length-1:Nat):Int)),("room",.int v),("worn_by_place",.ref w),("later_by_place",.ref l),("lower_dies",.ref d),("needed_by_place",.ref nb)]) /\
  g[w]?=some (.lst (rA cs mw))/\g[l]?=some (.lst (rA cs jS))/\g[d]?=some (.lst (V8 cs))/\mY g nb 0 cs.length (λ_=>rs.length) (sI cs rs)
theorem Bd.at{g g':G}{b:Nat}{cs:List a9}{v:Int}{rs:List eX}(h:Bd g b cs v rs)(e:Ex g g'):Bd g' b cs v rs:=by
 obtain⟨w,l,d,nb,h1,h2,h3,h4,h5⟩:=h.ex;exact⟨⟨w,l,d,nb,e.at h1,e.at h2,e.at h3,e.at h4,h5.at e⟩⟩
theorem Yd{α:Type}(l:List α)(z:α)(q:α->Bool):((List.range l.length).filter λi=>q (l.getD i z)).length=(l.filter q).length:=by
 have e:l=(List.range l.length).map λi=>l.getD i z:=by
  refine cw λi=>?_;rw[ag];by_cases hi:i<l.length
  ·rw[bA hi,aj hi];simp[List.getD,hi]
  ·rw[aJ (by omega),aJ (by simpa using hi)]
   rfl
 conv=>rhs;rw[e,List.filter_map,ak]
 rfl
theorem IQ{n:Nat}{q:Nat->Bool}{s:Nat}{S:Nat->Bool}(h:∀i,i<n->s.testBit i=S i):((Builtin.bitAnd ((gY n q:Nat):Int) (s:Nat)) != 0)=(List.range n).any λi=>S i&&q i:=by
 rw[AW,Nat.and_comm,xQ,aU,aR,aR];constructor
 ·rintro⟨i,h1,h2⟩;exact⟨i,h1,by rw[<- h i (aT.mp h1)];exact h2⟩
 ·rintro⟨i,h1,h2⟩;exact⟨i,h1,by rw[h i (aT.mp h1)];exact h2⟩
theorem ZQ{n s i:Nat}(h:s<2 ^ n)(hi:i<n):(2 ^ n-1-s).testBit i=!s.testBit i:=by
 rw[show 2 ^ n-1-s=2 ^ n-(s+1) by omega,Nat.testBit_two_pow_sub_succ h,aA hi]
 rfl
theorem Q3(s p i:Nat):(s |||2 ^ p).testBit i=(s.testBit i||decide (i=p)):=by
 rw[Nat.testBit_or,Nat.testBit_two_pow]
 congr 1
 exact dO.mpr eq_comm
theorem P5{s p n:Nat}(h:s<2 ^ n)(hp:p<n):s |||2 ^ p<2 ^ n:=Nat.or_lt_two_pow h (Nat.pow_lt_pow_right (by omega) hp)
section
variable{T:Nat->Option ba}{k d:Nat}{g g':G}{Q:KD}{E:KX}{a b c:Nat}{cs:List a9}{rs:List eX}{v:Int}
theorem Zq(hT:iJ T){r:eX}(ha:g[a]?=some (.lst (cs.map a9.d)))(hz:cs.length<=1000)(h:∀g',Ex g g'->Q (.bl (A2 cs r)) g'):c5 T (k+4) 88 [.ref a,r.d] g Q E:=by
 refine call_of hT.Mv rfl ?_;dsimp[BI,c6,List.replicate];walk_at"";refine A5 (l:=[.str r.w.s,.int r.x,.int r.y]) rfl ?_;walk_at"";refine sA (in_words ?_);walk_at"";refine if2 (λh1=>?_) (λh1=>?_)
 ·walk_at"";have:A2 cs r=false:=by unfold A2;rw[aA h1];rfl
  rw[<- this];exact h _ (Ex.refl _)
 ·walk_at"";refine M8 (k:=k) hT.nf hT.kJ hT.qp ha hz λg1 b1 e1 _ uO=>?_;walk_at"";refine ne_nil ((Ex.snoc _ _).at uO) b0 ?_;walk_at"";cases h2:(jc cs r.w r.x).isEmpty with
  |true =>
   refine fK rfl ?_;have:A2 cs r=false:=by unfold A2;rw[az h1,h2];rfl
   rw[<- this];exact h _ (e1.trans (Ex.snoc _ _))
  |false =>
   refine hJ rfl ?_;walk_at"";refine M8 (k:=k) hT.nf hT.kJ hT.qp ((e1.trans (Ex.snoc _ _)).at ha) hz λg2 b2 e2 _ uN=>?_;walk_at"";refine ne_nil ((Ex.snoc _ _).at uN) b0 ?_;have:A2 cs r=!(jc cs r.w r.y).isEmpty:=by unfold A2;rw[az h1,h2];rfl
   rw[<- this];exact h _ ((e1.trans (Ex.snoc _ _)).trans (e2.trans (Ex.snoc _ _)))
theorem Wq(hT:iJ T)(ha:g[a]?=some (.lst (cs.map a9.d)))(hz:cs.length<=1000)(hc:g[c]?=some (.lst (u6 rs)))(hr:rs.length<=900)(h:rs.all (A2 cs)=true->∀g',Ex g g'->Q .bC g')(hn:rs.all (A2 cs)=false->∀g',Ex g g'->E ⟨"BadRule"⟩ g'):c5 T (k+5) 89 [.ref a,.ref c] g Q E:=by
 refine call_of hT.Mu rfl ?_;dsimp[V2,c6,List.replicate];walk_at"";refine u3 (a8 T _) (za ?_);walk_at"";refine⟨c,_,rfl,a7 hc,lP (u6 rs),λi Z g'=>Ex g g'/\(∃z2 z3,Z=[some (.ref a),some (.ref c),z2,z3])/\(rs.take i).all (A2 cs)=true,λi Z g' q=>xG (a7 (q.1.at hc)),⟨Ex.refl _,⟨none,none,rfl⟩,rfl⟩,λi x Z g' hx q=>?_,λZ g' q=>?_⟩
 ·obtain⟨e1,⟨z2,z3,rfl⟩,q⟩:=q;obtain⟨dd,hd,rfl⟩:=xU hx;rw[u6,ag,aa] at hd;obtain⟨r,dH,rfl⟩:=hd;have tk:rs.take (i+1)=rs.take i++[r]:=by rw[bu,dH];rfl
  refine A5 rfl ?_
  try show wpS _ _ _ _ _ _
  walk_at"";refine Zq (k:=k) hT (e1.at ha) hz λg2 e2=>?_;walk_at"";cases hg:A2 cs r with
  |true =>
   walk_at"";exact⟨e1.trans e2,⟨_,_,rfl⟩,by rw[tk,List.all_append,q];simp[hg]⟩
  |false =>
   walk_at"";have hi:i<rs.length:=(ao.mp dH).1;refine Th ?_ ?_
   ·have:(i:Int).natAbs<2 ^ 10:=by rw[JQ];omega
    rw[JQ] at this ⊢;by_cases h0:i=0
    ·subst h0;decide
    ·exact cL ((Nat.log2_lt h0).mpr this) (by decide)
   walk_at"";refine Pa rfl ?_;walk_at"";refine hn ?_ _ (e1.trans e2);rw[List.all_eq_false];exact⟨r,aI dH,by rw[hg];decide⟩
 ·obtain⟨e1,⟨z2,z3,rfl⟩,q⟩:=q;rw[M1,u6,ak,bI] at q;exact h q _ e1
theorem ID{f:Str}{x:D}(fs:List (Str×D)):(j6 f x fs).length<=fs.length+1:=by
 induction fs with
 |nil=>simp[j6]
 |cons y r ih =>
  unfold j6;split<;>simp
  exact ih
theorem W3{f:Str}{x:D}{fs:List (Str×D)}{n:Nat}(h:fs.length+1<n):(j6 f x fs).length<n:=dk (ID fs) h
theorem W0{f:Str}{x:D}{fs:List (Str×D)}{m n:Nat}(h:fs.length+(m+1)<n):(j6 f x fs).length+m<n:=by
 have:=ID (f:=f) (x:=x) fs;omega
def f3(n:Nat)(v:Int):List (Str×D):=[("size",.int n),("full",.int ((2 ^ n-1:Nat):Int)),("room",.int v)]
theorem X4(n:Nat)(v:Int):(f3 n v).length=3:=rfl
theorem Wo(hT:iJ T)(ha:g[a]?=some (.lst (cs.map a9.d)))(hz:cs.length<=9)(hg:cs.all A9=true)(hB:∀c∈cs,CB c)(hc:g[c]?=some (.lst (u6 rs)))(hr:rs.length<=900)(hb:g[b]?=some (.ins "Bounds" []))(h:∀g',g.length<=g'.length->(∀i,i<g.length->i≠b->g'[i]?=g[i]?)->Bd g' b cs v rs->Q .bC g'):c5 T (k+9) 113 [.ref b,.ref a,.int v,.ref c] g Q E:=by
 refine call_of hT.Ah rfl ?_;dsimp[V4,c6,List.replicate];have tX:b≠a:=λz=>by subst z;rw[ha] at hb;cases hb
 have wF:b≠c:=λz=>by subst z;rw[hc] at hb;cases hb
 have lb:=j7 hb;walk_at"";refine Y4 hb (by simp) (by simp) ?_;walk_at"";have rR:=d0 (o':=O.ins "Bounds" (j6 "size" (.int (cs.map a9.d).length) [])) ha tX;refine F6 (a7 rR) ?_;walk_at"";refine BX ⟨by omega,by simp;omega,by decide⟩ ?_;walk_at"";refine Y4 (get_set hb) (by simp) (by first|(simp;done)|(refine W3 ?_;repeat (first|(rw[X4];omega)|(simp;done)|refine W0 ?_))) ?_;rw[gU];walk_at"";refine Y4 (get_set hb) (by simp) (by first|(simp;done)|(refine W3 ?_;repeat (first|(rw[X4];omega)|(simp;done)|refine W0 ?_))) ?_;rw[gU];have e0:j6 "room" (.int v) (j6 "full" (.int (1*2 ^ Int.toNat ((cs.map a9.d).length:Int)-1)) (j6 "size" (.int (cs.map a9.d).length) []))=(f3 cs.length v):=by
  have:(1*2 ^ Int.toNat ((cs.map a9.d).length:Int)-1:Int)=((2 ^ cs.length-1:Nat):Int):=by
   rw[ak,cx,Int.one_mul];have:=fQ (n:=cs.length);rw[Int.natCast_sub this];simp
  rw[this,ak]
  rfl
 simp only[e0];have kp:∀(g1:G) (o:O),Ex (g.set b o) g1->(∀i,i<g.length->i≠b->g1[i]?=g[i]?)/\g.length<=g1.length:=λg1 o e=>⟨λi hi hn=>by rw[e.old i (by simpa using hi),ax (bE hn)],by have:=e.len;simpa using this⟩
 generalize ho:O.ins "Bounds" (f3 cs.length v)=o1;have uO:=get_set (o':=o1) hb;have rR:=d0 (o':=o1) ha tX;have qi:=d0 (o':=o1) hc wF;have k1:=kp _ o1 (Ex.refl _);generalize g.set b o1=g1 at *;subst ho;walk_at"";refine SQ (k:=k+4) hT rR hz hB λg2 w e2 hw1 hw=>?_;walk_at"";refine Y4 (e2.at uO) (by simp) (by rw[X4];omega) ?_;have lw:w≠b:=λz=>by have:=j7 uO;omega
 have zR:=get_set (o':=O.ins "Bounds" (j6 "worn_by_place" (.ref w) (f3 cs.length v))) (e2.at uO);have Lc:=d0 (o':=O.ins "Bounds" (j6 "worn_by_place" (.ref w) (f3 cs.length v))) hw lw.symm;have wV:=d0 (o':=O.ins "Bounds" (j6 "worn_by_place" (.ref w) (f3 cs.length v))) (e2.at rR) tX;have wQ:=d0 (o':=O.ins "Bounds" (j6 "worn_by_place" (.ref w) (f3 cs.length v))) (e2.at qi) wF;have k3:(∀i,i<g.length->i≠b->(g2.set b (O.ins "Bounds" (j6 "worn_by_place" (.ref w) (f3 cs.length v))))[i]?=g[i]?)/\g.length<=(g2.set b (O.ins "Bounds" (j6 "worn_by_place" (.ref w) (f3 cs.length v)))).length:=⟨λi hi hn=>by rw[ax (bE hn),e2.old i (by have:=k1.2;omega)];exact k1.1 i hi hn,by simp;have:=e2.len;have:=k1.2;omega⟩
 generalize g2.set b (O.ins "Bounds" (j6 "worn_by_place" (.ref w) (f3 cs.length v)))=g3 at *;walk_at"";refine Xi (k:=k+4) hT wV hz λg4 l e4 jg hl=>?_;walk_at"";refine Y4 (e4.at zR) (by simp) (by first|(simp;done)|(refine W3 ?_;repeat (first|(rw[X4];omega)|(simp;done)|refine W0 ?_))) ?_;have ll:l≠b:=λz=>by have:=j7 zR;omega
 generalize ho:O.ins "Bounds" (j6 "later_by_place" (.ref l) (j6 "worn_by_place" (.ref w) (f3 cs.length v)))=o5;have zQ:=get_set (o':=o5) (e4.at zR);have Lb:=d0 (o':=o5) (e4.at Lc) lw.symm;have Lz:=d0 (o':=o5) hl ll.symm;have EI:=d0 (o':=o5) (e4.at wV) tX;have LZ:=d0 (o':=o5) (e4.at wQ) wF;have k5:(∀i,i<g.length->i≠b->(g4.set b o5)[i]?=g[i]?)/\g.length<=(g4.set b o5).length:=⟨λi hi hn=>by rw[ax (bE hn),e4.old i (by have:=k3.2;omega)];exact k3.1 i hi hn,by simp;have:=e4.len;have:=k3.2;omega⟩
 generalize g4.set b o5=g5 at *;subst ho;walk_at"";refine Wg (k:=k) hT EI hz hg λg6 dd e6 EF hd=>?_;walk_at"";refine Y4 (e6.at zQ) (by simp) (by first|(simp;done)|(refine W3 ?_;repeat (first|(rw[X4];omega)|(simp;done)|refine W0 ?_))) ?_;have ld:dd≠b:=λz=>by have:=j7 zQ;omega
 generalize ho:O.ins "Bounds" (j6 "lower_dies" (.ref dd) (j6 "later_by_place" (.ref l) (j6 "worn_by_place" (.ref w) (f3 cs.length v))))=o7;have zP:=get_set (o':=o7) (e6.at zQ);have La:=d0 (o':=o7) (e6.at Lb) lw.symm;have Ly:=d0 (o':=o7) (e6.at Lz) ll.symm;have LV:=d0 (o':=o7) hd ld.symm;have Me:=d0 (o':=o7) (e6.at EI) tX;have LY:=d0 (o':=o7) (e6.at LZ) wF;have k7:(∀i,i<g.length->i≠b->(g6.set b o7)[i]?=g[i]?)/\g.length<=(g6.set b o7).length:=⟨λi hi hn=>by rw[ax (bE hn),e6.old i (by have:=k5.2;omega)];exact k5.1 i hi hn,by simp;have:=e6.len;have:=k5.2;omega⟩
 generalize g6.set b o7=g7 at *;subst ho;walk_at"";refine Xo (k:=k+4) hT Me hz LY hr λg8 nb e8 hn1 hn=>?_;walk_at"";refine Y4 (e8.at zP) (by simp) (by first|(simp;done)|(refine W3 ?_;repeat (first|(rw[X4];omega)|(simp;done)|refine W0 ?_))) ?_;have lb7:=j7 zP;have ln:nb≠b:=λz=>by omega
 generalize ho:O.ins "Bounds" (j6 "needed_by_place" (.ref nb) (j6 "lower_dies" (.ref dd) (j6 "later_by_place" (.ref l) (j6 "worn_by_place" (.ref w) (f3 cs.length v)))))=o9;refine h _ (by simp;have:=e8.len;have:=k7.2;omega) (λi hi hn=>by rw[ax (bE hn),e8.old i (by have:=k7.2;omega)];exact k7.1 i hi hn) ⟨⟨w,l,dd,nb,?_,d0 (e8.at La) lw.symm,d0 (e8.at Ly) ll.symm,d0 (e8.at LV) ld.symm,?_⟩⟩
 ·rw[get_set (e8.at zP),<- ho]
  rfl
 ·obtain⟨as,q1,q2,q3,q4,q5⟩:=hn.ex;exact⟨⟨as,d0 q1 ln.symm,q2,q3,λx hx=>⟨by omega,(q4 x hx).2⟩,λi x hx=>let ⟨ms,m1,m2⟩:=q5 i x hx;⟨ms,d0 m1 (λz=>by have:=(q4 x (aI hx)).1;omega),m2⟩⟩⟩
end
section
variable{T:Nat->Option ba}{k d:Nat}{g g':G}{Q:KD}{E:KX}{a b c:Nat}{cs:List a9}{rs:List eX}{v:Int}
theorem Wr(hT:iJ T)(B:Bd g b cs v rs)(hz:cs.length<=9){s p:Nat}(hs:s<2 ^ cs.length)(hp:p<cs.length)(h:∀g',Ex g g'->Q (.int (u5 cs s.testBit p:Nat)) g'):c5 T (k+2) 100 [.ref b,.int (s:Nat),.int (p:Nat)] g Q E:=by
 refine call_of hT.An rfl ?_;dsimp[Z5,c6,List.replicate];obtain⟨w,l,dd,nb,h1,h2,h3,h4,h5⟩:=B.ex;walk_at"";refine z9 (k:=k) hT.nQ (by omega) ?_;walk_at"";refine S7 h1 rfl ?_;walk_at"";have e1:((2 ^ cs.length-1:Nat):Int)-(s:Nat)=((2 ^ cs.length-1-s:Nat):Int):=by omega
 rw[e1];have zA:(m9 (cs.map a9.lo)).length<=9:=aD (T5 _) (by simpa using hz);have EE:(V8 cs).length=(m9 (cs.map a9.lo)).length:=by simp[V8]
 refine w9 (a8 T _) (λZ=>∃z2 z3,Z=[some (.int ((2 ^ cs.length-1-s:Nat):Int)),some (.int ((s |||2 ^ p:Nat):Int)),z2,z3]) (λi=>U8 cs s.testBit p ((m9 (cs.map a9.lo)).getD i 0)) (λi=>(V8 cs).getD i .bC) (l:=V8 cs) (k:=.lst dd) (λg' e=>k6 (a7 (e.at h4))) (by rw[EE];omega) ⟨none,none,rfl⟩ (λi x Z g' hx e sh=>?_) (λg' e=>?_) (O0 (a8 T _) (a7 h4) λQ q=>?_)
 ·obtain⟨z2,z3,rfl⟩:=sh;have oH:=hx;rw[V8,ag,aa] at oH;obtain⟨mV,hd,rfl⟩:=oH;have eg:(m9 (cs.map a9.lo)).getD i 0=mV:=by simp[List.getD,hd]
  refine f7 ?_
  try show cI _ _ _ _ _ _
  walk_at"";refine vC ?_;walk_at"";have b1:=IQ (n:=cs.length) (q:=meant cs .lower mV) (s:=s |||2 ^ p) (S:=λi=>s.testBit i||decide (i=p)) (λi _=>Q3 s p i);have b2:=IQ (n:=cs.length) (q:=meant cs .lower mV) (s:=2 ^ cs.length-1-s) (S:=λi=>!s.testBit i) (λi hi=>ZQ hs hi);rw[b1,eg];have hu:U8 cs s.testBit p mV=(((List.range cs.length).any λi=>(s.testBit i||decide (i=p))&&meant cs .lower mV i)&&(List.range cs.length).any λi=>!s.testBit i&&meant cs .lower mV i):=rfl;rw[hu];cases (List.range cs.length).any λi=>(s.testBit i||decide (i=p))&&meant cs .lower mV i with
  |false =>
   refine fK rfl ?_;exact⟨rfl,e,fK rfl ⟨_,_,rfl⟩⟩
  |true =>
   refine hJ rfl ?_;walk_at"";refine vC ?_;walk_at"";rw[b2,pI];refine⟨rfl,e,?_⟩;cases (List.range cs.length).any λi=>!s.testBit i&&meant cs .lower mV i with
   |false=>exact fK rfl ⟨_,_,rfl⟩
   |true =>
    refine hJ rfl ?_;walk_at"";refine⟨?_,e,_,_,rfl⟩;simp[List.getD,hx]
 ·refine F6 (a7 b0) ?_;have:(((List.range (V8 cs).length).filter λi=>U8 cs s.testBit p ((m9 (cs.map a9.lo)).getD i 0)).map λi=>(V8 cs).getD i .bC).length=u5 cs s.testBit p:=by
   rw[ak,EE,Yd (m9 (cs.map a9.lo)) 0 (U8 cs s.testBit p)]
   rfl
  rw[this];exact h _ (e.trans (Ex.snoc _ _))
 ·walk_at"";exact S7 h1 rfl q
theorem HX{q:a9->a9->Bool}{p:Nat}(hp:p<cs.length):fL (rA cs q) (p:Int)=some (.int ((gY cs.length λj=>q (bH cs j) (bH cs p):Nat):Int)):=B8 (by rw[rA,ag,bA hp];rfl)
theorem IS{s n:Nat}{q:Nat->Bool}:((Builtin.bitAnd (s:Nat) ((gY n q:Nat):Int)) != 0)=(List.range n).any λi=>s.testBit i&&q i:=by rw[AW,xQ]
theorem Wh(hT:iJ T)(B:Bd g b cs v rs)(hz:cs.length<=9)(hr:rs.length<=900){s p:Nat}(hs:s<2 ^ cs.length)(hp:p<cs.length)(h:∀g',Ex g g'->Q (xa (fault cs v rs s.testBit p)) g'):c5 T (k+3) 101 [.ref b,.int (s:Nat),.int (p:Nat)] g Q E:=by
 refine call_of hT.Am rfl ?_;dsimp[Z1,c6,List.replicate];obtain⟨w,l,dd,nb,h1,h2,h3,h4,h5⟩:=B.ex;walk_at"";refine S7 h1 rfl ?_;walk_at"";refine m7 (a7 h2) (HX hp) ?_;refine vC ?_;walk_at"";rw[IS];cases c1:(List.range cs.length).any λi=>s.testBit i&&mw (bH cs i) (bH cs p) with
 |true =>
  refine hJ rfl ?_;walk_at"";have:fault cs v rs s.testBit p="wear":=by unfold fault C0;rw[aK c1]
  rw[this] at h;exact h _ (Ex.refl _)
 |false =>
 refine fK rfl ?_;walk_at"";refine S7 h1 rfl ?_;walk_at"";refine m7 (a7 h3) (HX hp) ?_;refine vC ?_;walk_at"";rw[IS];cases c2:(List.range cs.length).any λi=>s.testBit i&&jS (bH cs i) (bH cs p) with
 |true =>
  refine hJ rfl ?_;walk_at"";have:fault cs v rs s.testBit p="year":=by unfold fault C0 B3;rw[aC (by rw[c1];decide),aK c2]
  rw[this] at h;exact h _ (Ex.refl _)
 |false =>
 refine fK rfl ?_;walk_at"";refine Wr (k:=k) hT B hz hs hp λg2 e2=>?_;walk_at"";refine S7 (e2.at h1) rfl ?_;walk_at"";refine if2 (λc3=>?_) (λc3=>?_)
 ·walk_at"";have:fault cs v rs s.testBit p="anvil":=by unfold fault C0 B3;rw[aC (by rw[c1];decide),aC (by rw[c2];decide),aK c3]
  rw[this] at h;exact h _ e2
 walk_at"";obtain⟨as,q1,q2,q3,q4,q5⟩:=h5.ex;have Lj:p<as.length:=by omega
 have zS:=aj Lj;generalize as[p]=ap at zS;obtain⟨ms,m1,m2,m3⟩:=q5 p ap zS;refine comp_map (a8 T _) (λZ=>∃z1 z2,Z=[some (.int (s:Nat)),z1,z2]) (λi=>.int ((s &&& ms.getD i 0:Nat):Int)) (l:=b7 ms) (k:=.lst ap) (λg' e=>k6 (a7 ((e2.trans e).at m1))) (by simp[b7];omega) ⟨none,none,rfl⟩ (λi x Z g' hx e sh=>?_) (λg' e=>?_) (O0 (a8 T _) (a7 (e2.at m1)) λQ q=>?_)
 ·obtain⟨z1,z2,rfl⟩:=sh;rw[b7,ag,aa] at hx;obtain⟨m,hm,rfl⟩:=hx;refine f7 ?_
  try show aO _ _ _ _ _ _
  walk_at"";refine vC ?_;refine⟨?_,e,_,_,rfl⟩;rw[AW];simp[List.getD,hm]
 ·refine UL (ns:=(List.range (b7 ms).length).map λi=>((s &&& ms.getD i 0:Nat):Int)) (a7 (by rw[cb];exact b0)) ?_;have en:(((List.range (b7 ms).length).map λi=>((s &&& ms.getD i 0:Nat):Int)).all λn=>n != 0)=K9 cs rs s.testBit p:=by
   rw[aU,cE];unfold K9;rw[cE];constructor
   ·intro hA r hr;cases zt:meant cs r.w r.y p with
    |false=>rfl
    |true =>
     have hm:=(m3 (gY cs.length (meant cs r.w r.x))).mpr ⟨r,hr,zt,rfl⟩;obtain⟨i,hi⟩:=ff.mp hm;have Es:=(ao.mp hi).1;have:=hA ((s &&& gY cs.length (meant cs r.w r.x):Nat):Int) (aQ.mpr ⟨i,aT.mpr (by simpa[b7] using Es),by simp[List.getD,hi]⟩);rw[xQ] at this;exact this
   ·intro hA x hx;obtain⟨i,hi,rfl⟩:=aQ.mp hx;have hi:i<ms.length:=by simpa[b7] using hi
    have hm:ms.getD i 0∈ms:=by simp[List.getD,hi]
    obtain⟨r,hr,zt,em⟩:=(m3 _).mp hm;have:=hA r hr;rw[zt,Bool.not_true,pJ] at this;rw[em,xQ];exact this
  rw[en];walk_at"";cases c4:K9 cs rs s.testBit p with
  |true =>
   walk_at"";have:fault cs v rs s.testBit p="":=by unfold fault C0 B3;rw[aC (by rw[c1];decide),aC (by rw[c2];decide),aC c3,aK c4]
   rw[this] at h;exact h _ (e2.trans (e.trans (Ex.snoc _ _)))
  |false =>
   walk_at"";have:fault cs v rs s.testBit p="rule":=by unfold fault C0 B3;rw[aC (by rw[c1];decide),aC (by rw[c2];decide),aC c3,aC (by rw[c4];decide)]
   rw[this] at h;exact h _ (e2.trans (e.trans (Ex.snoc _ _)))
 ·walk_at"";refine S7 (e2.at h1) rfl ?_;walk_at"";exact m7 (a7 (e2.at q1)) (B8 (by rw[ag,zS];rfl)) q
end
def sH:ba:=⟨2,5,(.seq (.set 2 (cJ (.prim .lst (rn (gN "coin") (gN "coin") (gN "lower") (gN "upper"))) (.call 4 (dc aL (bf 4))))) (.seq (.set 3 (du .jd (du .len bh))) (.seq (.ifs (dJ .Eq bp (gN "lower")) (.seq (.set 3 (du .sset (.comp [] 2 (.one 1) (.eO bh) .no (cJ bh (bf 0))))) .pass) .pass) (.seq (.ifs (dJ .Eq bp (gN "upper")) (.seq (.set 3 (du .sset (.comp [] 2 (.one 1) (.eO bh) .no (cJ bh (bf 2))))) .pass) .pass) (.seq (.ifs (dJ .Lt (du .len bP) (bf 2)) (.seq (.ret (.lit .bC)) .pass) .pass) (.seq (.set 4 (.call 4 (dc aL (du .len bP)))) (.seq (.ret (.prim .tup (ia bp (cJ bP cU) (cJ bP (bW (.bin .Mod) (bW (.bin .Add) (bW (.bin .Add) cU (bf 1)) (.call 4 (dc aL (bW (.bin .Sub) (du .len bP) (bf 1))))) (du .len bP)))))) .pass)))))))⟩
def CJ:ba:=⟨2,5,(.seq (.set 2 (.prim .lst .nil)) (.seq (.de (.one 3) (.dS (cJ (.prim .lst (ER (bf 0) (bf 0) (bf 1) (bf 1) (bf 2) (bf 4))) (.call 4 (dc aL (bf 6))))) (.seq (.set 4 (.call 105 (dc aL bh))) (.seq (.ifs (dJ .IsNot cU (.lit .bC)) (.seq (.expr (.eE .append bp (fb cU))) .pass) .pass) .pass))) (.seq (.ret bp) .pass)))⟩
def BL:ba:=⟨4,8,(.seq (.kD (.many [4,5,6]) bP) (.seq (.ifs (dJ .Eq cU (gN "coin")) (.seq (.ret (.jt (bW (.cmp .NotEq) bp eM) (bW (.cmp .In) dR bh))) .pass) .pass) (.seq (.set 7 (.ite (dJ .Eq cU (gN "lower")) (bf 0) (bf 2))) (.seq (.ret (.jt (bW (.cmp .NotEq) (cJ (cJ aL bp) fV) eM) (bW (.cmp .In) dR (.comp [7,0] 4 (.one 3) (.eO bh) .no (cJ (cJ bh bP) aL))))) .pass))))⟩
def vL:ba:=⟨5,10,(.seq (.set 5 (cJ aL cU)) (.seq (.de (.one 6) (.eO bP) (.seq (.de (.one 7) (.eO (bW .lst (bf 0) (bf 2))) (.seq (.ifs (.dy (dJ .Eq (cJ (cJ aL eM) fV) (cJ dR fV)) (.eL (.fy (.call 17 (dc (cJ (cJ aL eM) (bW (.bin .Add) fV (bf 1))) (cJ dR (bW (.bin .Add) fV (bf 1)))))))) (.seq (.ret (gN "wear")) .pass) .pass) .pass)) .pass)) (.seq (.ifs (.dy (dJ .Gt (cJ dR (bf 4)) (bf 0)) (dJ .Gt (du .max (bW (.bin .Add) (du .lst (bf 0)) (.comp [0] 3 (.one 2) (.eO bP) .no (cJ (cJ aL bp) (bf 4))))) (cJ dR (bf 4)))) (.seq (.ret (gN "year")) .pass) .pass) (.seq (.set 8 (bW (.bin .Add) (.comp [0] 3 (.one 2) (.eO bP) .no (cJ (cJ aL bp) (bf 0))) (du .lst (cJ dR (bf 0))))) (.seq (.set 9 (.comp [3,0] 4 (.one 3) (.dS (du .len aL)) (dJ .NotIn bP aL) (cJ (cJ bh bP) (bf 0)))) (.seq (.ifs (dJ .Gt (du .Z9 (.comp [9] 3 (.one 2) (.eO mr) (dJ .In bp aL) bp)) bh) (.seq (.ret (gN "anvil")) .pass) .pass) (.seq (.ifs (.eL (.fy (du .all (.comp [3,0,4] 5 (.one 4) (.eO bp) .no (.call 107 (rn bh aL bp cU)))))) (.seq (.ret (gN "rule")) .pass) .pass) (.seq (.ret (gN "")) .pass))))))))⟩
def xH:ba:=⟨2,4,(.seq (.kD (.many [2,3]) (.call 26 (dc aL bh))) (.seq (.ret (.prim .tup (ia bp bP (.call 106 (dc aL bp))))) .pass))⟩
structure TBR(T:Nat->Option ba):Prop where
 lf:LF T
 Al:T 105=some sH
 Ak:T 106=some CJ
structure qZ(T:Nat->Option ba):Prop extends TBR T where
 Ac:T 17=some Z2
 Aj:T 107=some BL
 Ai:T 108=some vL
 qw:T 110=some xH
instance{T:Nat->Option ba}:CoeOut (qZ T) (TBR T):=⟨qZ.toTBR⟩
theorem HQ{cs:List a9}{w:RW}{x:Int}{i:Nat}(hi:i<cs.length)(h:meant cs w x i=true):(jc cs w x).isEmpty=false:=by
 cases e:jc cs w x with
 |nil =>
  have:i∈jc cs w x:=bj.mpr ⟨aT.mpr hi,h⟩;rw[e] at this;cases this
 |cons _ _=>rfl
section
variable{T:Nat->Option ba}{k d:Nat}{g g':G}{Q:KD}{E:KX}{a b c:Nat}{cs:List a9}{rs:List eX}{v:Int}
theorem BN{ns:List Int}{x:Int}:x∈m9 ns↔x∈ns:=by
 rw[(O3 ns).mem_iff,ST.O6];simp
theorem Bu(ns:List Int):(m9 ns).Nodup:=(O3 ns).nodup_iff.mpr (ST.T9 _ _ (by simp))
theorem GF(hT:TBR T)(D0:i4 g d){w:RW}{L:List Int}{sL:Nat}{N:Ends}(hN:N.rt=Q)(hL:g[sL]?=some (.lst (L.map .int)))(hd:sL≠d)(nd:L.Nodup)(hl:L.length<=9)(hm:∀x∈L,(jc cs w x).isEmpty=false)(h:∀g',i4 g' d->Gr d g g'->Q .bC g'/\∀r,A2 cs r=true->Q r.d g'):wpS (c5 T (k+1)) (match sH.body with|.seq _ (.seq _ (.seq _ (.seq _ b)))=>b|x=>x) N [some (.ref d),some (.ref a),some (.str w.s),some (.ref sL),none] g E:=by
 subst hN;dsimp[sH];walk_at"";refine if2 (λh2=>?_) (λh2=>?_)
 ·walk_at"";exact(h g D0 (Gr.refl _ _)).1
 rw[ak] at h2;walk_at"";refine d8 (k:=k) hT.lf.pull D0 (by rw[ak];omega) (by rw[ak];omega) λr1 g1 h0 h1 D1 G1=>?_;rw[ak] at h1;walk_at"";obtain⟨j,rfl⟩:∃j:Nat,r1=j:=⟨r1.toNat,by omega⟩
 have hj:j<L.length:=by omega
 have gj:fL (L.map D.int) (j:Int)=some (.int L[j]):=B8 (by rw[ag,aj hj];rfl);refine m7 (a7 (G1.at hd hL)) gj ?_;walk_at"";refine F6 (a7 (G1.at hd hL)) ?_;walk_at"";refine d8 (k:=k) hT.lf.pull D1 (by rw[ak];omega) (by rw[ak];omega) λr2 g2 k0 k1 D2 G2=>?_;rw[ak] at k1;walk_at"";have qm:=(G1.trans G2).at hd hL;refine F6 (a7 qm) ?_;walk_at"";refine P4 (by rw[ak];omega) ?_;obtain⟨j2,rfl⟩:∃j:Nat,r2=j:=⟨r2.toNat,by omega⟩
 have em:((j:Int)+1+(j2:Nat)) % ((L.map D.int).length:Nat)=(((j+1+j2) % L.length:Nat):Int):=by rw[ak,Int.natCast_emod,show((j+1+j2:Nat):Int)=(j:Int)+1+(j2:Nat) by omega]
 rw[em];have nN:(j+1+j2) % L.length<L.length:=JN _ (by omega);have dG:(j+1+j2) % L.length≠j:=by
  by_cases hc:j+1+j2<L.length
  ·rw[Nat.mod_eq_of_lt hc];omega
  ·rw[Nat.mod_eq_sub_mod (by omega),Nat.mod_eq_of_lt (by omega)];omega
 generalize (j+1+j2) % L.length=j3 at *;have ML:fL (L.map D.int) (j3:Int)=some (.int L[j3]):=B8 (by rw[ag,aj nN];rfl);refine m7 (a7 qm) ML ?_;walk_at"";refine(h g2 D2 (G1.trans G2)).2 ⟨w,L[j],L[j3]⟩ ?_;unfold A2;rw[hm _ (bT hj),hm _ (bT nN),az (λz=>dG ((kR nd).mp z).symm)]
 rfl
theorem Sd(hT:TBR T)(ha:g[a]?=some (.lst (cs.map a9.d)))(hz:cs.length<=9)(hd:d<a)(D0:i4 g d)(h:∀g',i4 g' d->Gr d g g'->Q .bC g'/\∀r,A2 cs r=true->Q r.d g'):c5 T (k+2) 105 [.ref d,.ref a] g Q E:=by
 refine call_of hT.Al rfl ?_;dsimp[sH,c6,List.replicate];walk_at"";refine d8 (k:=k) hT.lf.pull (D0.snoc _) (by decide) (by decide) λr0 g1 h0 h1 D1 G1=>?_;have Dk:=(Gr.snoc d g _).trans G1;have rR:=Dk.at (bS hd) ha;have l1:=Dk.len;have dl:=D0.lt;have hw:∃w:RW,fL [D.str "coin",D.str "coin",D.str "lower",D.str "upper"] r0=some (.str w.s):=by
  obtain⟨j,rfl⟩:∃j:Nat,r0=j:=⟨r0.toNat,by omega⟩
  have:j=0\/j=1\/j=2\/j=3:=by omega
  rcases this with rfl|rfl|rfl|rfl
  ·exact⟨.fm,rfl⟩
  ·exact⟨.fm,rfl⟩
  ·exact⟨.lower,rfl⟩
  ·exact⟨.upper,rfl⟩
 obtain⟨w,hw⟩:=hw;walk_at"";refine m7 (a7 (G1.at (bS dl) b0)) hw ?_;walk_at"";refine DX (by omega) (by simp;omega) ?_;walk_at"";have e2:=Ex.snoc g1 (O.lst (i0 0 (Int.toNat ((cs.map a9.d).length:Nat))));have oJ:=b0 (g:=g1) (o:=O.lst (i0 0 (Int.toNat ((cs.map a9.d).length:Nat))));generalize g1++[O.lst (i0 0 (Int.toNat ((cs.map a9.d).length:Nat)))]=g2 at *;have wW:=e2.at rR;have D2:=e2.draw D1;have G2:=Dk.trans (e2.gr d);have fld:∀(f:Int) (w:RW) (N:Ends),(f=0\/f=2)->(∀i c,cs[i]?=some c->∀x,meant cs w x i=decide (w6 f c=x))->N.rt=Q->aO (c5 T (k+1)) (.prim .sset (.cons (.comp [] 2 (.one 1) (.eO (.var 1)) .no (.prim .ix (.cons (.var 1) (.cons (.lit (.int f)) .nil)))) .nil)) [some (.ref d),some (.ref a),some (.str w.s),some (.ref g1.length),none] g2 (λx g3=>wpS (c5 T (k+1)) (match sH.body with|.seq _ (.seq _ (.seq _ (.seq _ b)))=>b|x=>x) N [some (.ref d),some (.ref a),some (.str w.s),some x,none] g3 E) E:=λf w N hf hm hN=>by
  walk_at"";refine comp_map (a8 T _) (λZ=>∃z0 z1,Z=[z0,z1]) (λi=>.int (w6 f (bH cs i))) (l:=cs.map a9.d) (k:=.lst a) (λg' e=>k6 (a7 (e.at wW))) (by simp;omega) ⟨none,none,rfl⟩ (λi x Z g' hx e sh=>?_) (λg' e=>?_) (O0 (a8 T _) (a7 wW) λQ q=>w_var (d:=.ref a) rfl q)
  ·obtain⟨z0,z1,rfl⟩:=sh;rw[ag,aa] at hx;obtain⟨c,hc,rfl⟩:=hx;refine f7 ?_
   try show aO _ _ _ _ _ _
   walk_at"";refine q9 (J5 hf c) ?_;exact⟨by rw[B0 hc],e,_,_,rfl⟩
  ·refine Pb (ns:=(List.range cs.length).map λi=>w6 f (bH cs i)) (a7 (by rw[cb];rw[b0,ak];rfl)) (by simp;omega) ?_;have e3:=(e.trans (Ex.snoc g' (O.lst ((List.range (cs.map a9.d).length).map λi=>D.int (w6 f (bH cs i)))))).trans (Ex.snoc _ (O.lst ((m9 ((List.range cs.length).map λi=>w6 f (bH cs i))).map .int)));have zA:(m9 ((List.range cs.length).map λi=>w6 f (bH cs i))).length<=9:=aD (T5 _) (by simpa using hz);refine GF (k:=k) hT (e3.draw D2) hN b0 (by have:=D2.lt;have:=e.len;simp;omega) (Bu _) zA (λx hx=>?_) λg4 D4 G4=>h g4 D4 (G2.trans ((e3.gr d).trans G4));rw[BN] at hx;obtain⟨i,hi,rfl⟩:=aQ.mp hx;have hi:=aT.mp hi;have hc:=aj hi;refine HQ hi ?_;rw[hm i _ hc,B0 hc];exact aA rfl
 cases w with
 |fm =>
  refine fK (by decide +kernel) ?_;walk_at"";refine fK (by decide +kernel) ?_
  try refine E6 ?_
  have er:i0 0 (Int.toNat ((cs.map a9.d).length:Nat))=((List.range cs.length).map λ(i:Nat)=>(i:Int)).map D.int:=by
   simp[i0]
  refine GF (k:=k) hT (w:=.fm) (L:=(List.range cs.length).map λ(i:Nat)=>(i:Int)) D2 rfl (by rw[<- er];exact oJ) (by omega) ?_ (by simpa using hz) (λx hx=>?_) λg4 D4 G4=>h g4 D4 (G2.trans G4)
  ·exact List.pairwise_map.mpr (gE.imp λh e=>h (by omega))
  ·obtain⟨i,hi,rfl⟩:=aQ.mp hx;exact HQ (aT.mp hi) (aA rfl)
 |lower =>
  refine hJ (by decide +kernel) ?_;refine Q4 ?_;refine sO ?_;refine b8 (a8 T _) _ _ _ _ _ _ _ (λx g3 q=>?_) (λ_ _ z=>z) (fld 0 .lower ⟨λ_ g'=>Q .bC g',Q,λ_ _=>False,λ_ _=>False⟩ (.inl rfl) (λi c hc x=>by simp only[meant,B0 hc];rfl) rfl);refine Y1 ?_;walk_at"";refine fK (by decide +kernel) ?_
  try refine E6 ?_
  exact q
 |upper =>
  refine fK (by decide +kernel) ?_;walk_at"";refine hJ (by decide +kernel) ?_;refine Q4 ?_;refine sO ?_;exact fld 2 .upper _ (.inr rfl) (λi c hc x=>by simp only[meant,B0 hc];rfl) rfl
end
section
variable{T:Nat->Option ba}{k d:Nat}{g g':G}{Q:KD}{E:KX}{a b c:Nat}{cs:List a9}{rs:List eX}{v:Int}
theorem a15(hT:TBR T)(ha:g[a]?=some (.lst (cs.map a9.d)))(hz:cs.length<=9)(hd:d<a)(D0:i4 g d)(h:∀(rs:List eX) b g',rs.length<=4->rs.all (A2 cs)=true->g'[b]?=some (.lst (u6 rs))->g.length<=b->i4 g' d->Gr d g g'->Q (.ref b) g'):c5 T (k+3) 106 [.ref d,.ref a] g Q E:=by
 refine call_of hT.Ak rfl ?_;dsimp[CJ,c6,List.replicate];walk_at"";have dl:=D0.lt;have e1:=Ex.snoc g (O.lst []);have EB:=b0 (g:=g) (o:=O.lst []);have D1:=D0.snoc (O.lst []);generalize g++[O.lst []]=g1 at *;refine u3 (a8 T _) (S4 (a8 T _) ?_);walk_at"";refine d8 (k:=k+1) hT.lf.pull (D1.snoc _) (by decide) (by decide) λr0 g2 h0 h1 D2 G2=>?_;have l1:=j7 EB;have hw:∃j:Nat,j<=4/\fL [D.int 0,D.int 0,D.int 1,D.int 1,D.int 2,D.int 4] r0=some (.int (j:Nat)):=by
  obtain⟨j,rfl⟩:∃j:Nat,r0=j:=⟨r0.toNat,by omega⟩
  have:j=0\/j=1\/j=2\/j=3\/j=4\/j=5:=by omega
  rcases this with rfl|rfl|rfl|rfl|rfl|rfl
  ·exact⟨0,by decide,rfl⟩
  ·exact⟨0,by decide,rfl⟩
  ·exact⟨1,by decide,rfl⟩
  ·exact⟨1,by decide,rfl⟩
  ·exact⟨2,by decide,rfl⟩
  ·exact⟨4,by decide,rfl⟩
 obtain⟨j,hj,hw⟩:=hw;refine m7 (a7 (G2.at (by omega) b0)) hw ?_;refine⟨j,rfl,by omega,by omega,_,λi Z g'=>i4 g' d/\Gr d g g'/\(∃rs:List eX,rs.length<=i/\rs.all (A2 cs)=true/\g'[g.length]?=some (.lst (u6 rs)))/\∃z3 z4,Z=[some (.ref d),some (.ref a),some (.ref g.length),z3,z4],λ_ _ _ _=>n8,⟨D2,(e1.gr d).trans ((Gr.snoc d g1 _).trans G2),⟨[],by simp,rfl,((Gr.snoc d g1 _).trans G2).at (by omega) EB⟩,none,none,rfl⟩,λi x Z g' hx q=>?_,λZ g' q=>?_⟩
 ·obtain⟨D3,G3,⟨rs,hl,hA,hF⟩,z3,z4,rfl⟩:=q;obtain⟨hi,rfl⟩:=t8 hx;have hi:i<j:=by simpa using hi
  refine f7 ?_
  try show wpS _ _ _ _ _ _
  walk_at"";have wV:=G3.at (bS hd) ha;refine Sd (k:=k) hT wV hz hd D3 λg4 D4 G4=>⟨?_,λr hr=>?_⟩
  ·walk_at"";exact⟨D4,G3.trans G4,⟨rs,by omega,hA,G4.at (by omega) hF⟩,_,_,rfl⟩
  ·walk_at"";refine hJ rfl ?_;walk_at"";have zY:=G4.at (by omega) hF
   try refine⟨X0 zY,?_⟩
   walk_at"";refine O7 zY (by simp[u6];omega) ?_;walk_at"";refine⟨D4.J7 (by omega),(G3.trans G4).J7 (aw _),⟨rs++[r],by simp;omega,by rw[List.all_append,hA];simp[hr],?_⟩,_,_,rfl⟩;rw[get_set zY];simp[u6]
 ·obtain⟨D3,G3,⟨rs,hl,hA,hF⟩,z3,z4,rfl⟩:=q;rw[j4] at hl
  try show wpS _ _ _ _ _ _
  walk_at"";exact h rs _ _ (by simp at hl;omega) hA hF (aw _) D3 G3
theorem a17(hT:TBR T)(qw:T 110=some xH){n:Int}(hn:0<=n/\n<=9)(D0:i4 g d)(h:∀(cs:List a9) (rs:List eX) a c (v:Int) g',(cs.length:Int)<=n->(∀c∈cs,jl c)->g'[a]?=some (.lst (cs.map a9.d))->g.length<=a->rs.length<=4->rs.all (A2 cs)=true->g'[c]?=some (.lst (u6 rs))->g.length<=c->a≠c->1<=v->v<=6->i4 g' d->Gr d g g'->Q (.tup [.ref a,.int v,.ref c]) g'):c5 T (k+5) 110 [.ref d,.int n] g Q E:=by
 refine call_of qw rfl ?_;dsimp[xH,c6,List.replicate];walk_at"";refine Yl (k:=k) hT.lf ⟨hn.1,by omega⟩ D0 λcs a v g1 hl hg ha EH v1 v2 D1 G1=>?_;refine A5 rfl ?_
 try show wpS _ _ _ _ _ _
 walk_at"";have dl:=D0.lt;refine a15 (k:=k+1) hT ha (by omega) (by omega) D1 λrs c g2 hr hR hc jD D2 G2=>?_;walk_at"";exact h cs rs a c v g2 hl hg (G2.at (by omega) ha) EH hr hR hc (aD G1.len jD) (aN (ay (j7 ha) jD)) v1 v2 D2 (G1.trans G2)
theorem QS{H:List Nat}{x:Int}:((H.map λ(i:Nat)=>(i:Int)).any λm=>m==x)=H.any λi=>decide ((i:Int)=x):=by
 rw[kl]
 rfl
theorem xD{n:Nat}{H:List Nat}(hH:∀i∈H,i<n)(q:Nat->Bool):((List.range n).any λi=>decide (i∈H)&&q i)=H.any q:=by
 rw[aU,aR,aR];constructor
 ·rintro⟨i,_,h⟩;rw[aS,cq] at h;exact⟨i,h.1,h.2⟩
 ·rintro⟨i,h1,h2⟩;exact⟨i,aT.mpr (hH i h1),by rw[aA h1,h2];rfl⟩
theorem F8{cs:List a9}{i:Nat}(hi:i<cs.length):fL (cs.map a9.d) (i:Int)=some (bH cs i).d:=B8 (by rw[ag,aj hi,B0 (aj hi)];rfl)
theorem Wa(hT:qZ T){hl p:Nat}{H:List Nat}{r:eX}(ha:g[a]?=some (.lst (cs.map a9.d)))(hh:g[hl]?=some (.lst (b7 H)))(hH:∀i∈H,i<cs.length)(uS:H.length<=50)(hp:p<cs.length)(h:∀g',Ex g g'->Q (.bl (!meant cs r.w r.y p||(List.range cs.length).any λi=>decide (i∈H)&&meant cs r.w r.x i)) g'):c5 T (k+1) 107 [.ref a,.ref hl,.int (p:Nat),r.d] g Q E:=by
 refine call_of hT.Aj rfl ?_;dsimp[BL,c6,List.replicate];simp only[xD hH] at h;walk_at"";refine A5 (l:=[.str r.w.s,.int r.x,.int r.y]) rfl ?_;walk_at"";have mV:∀(w:RW) (f:Int),(f=0\/f=2)->(∀i x,meant cs w x i=decide (w6 f (bH cs i)=x))->(∀g',Ex g g'->Q (.bl (!meant cs w r.y p||H.any λi=>meant cs w r.x i)) g')->aO (c5 T k) (.jt (.prim (.cmp .NotEq) (.cons (.prim .ix (.cons (.prim .ix (.cons (.var 0) (.cons (.var 2) .nil))) (.cons (.var 7) .nil))) (.cons (.var 6) .nil))) (.prim (.cmp .In) (.cons (.var 5) (.cons (.comp [7,0] 4 (.one 3) (.eO (.var 1)) .no (.prim .ix (.cons (.prim .ix (.cons (.var 1) (.cons (.var 3) .nil))) (.cons (.var 0) .nil)))) .nil)))) [some (.ref a),some (.ref hl),some (.int (p:Nat)),some r.d,some (.str w.s),some (.int r.x),some (.int r.y),some (.int f)] g Q E:=λw f hf hm h=>by
  walk_at"";refine m7 (a7 ha) (F8 hp) ?_;walk_at"";refine q9 (J5 hf _) ?_;walk_at"";rw[hm] at h;by_cases c1:w6 f (bH cs p)=r.y
  ·refine fK (by rw[aA c1];rfl) ?_;walk_at"";refine comp_map (a8 T _) (λZ=>∃z2 z3,Z=[some (.int f),some (.ref a),z2,z3]) (λi=>.int (w6 f (bH cs (H.getD i 0)))) (l:=b7 H) (k:=.lst hl) (λg' e=>k6 (a7 (e.at hh))) (by simp[b7];omega) ⟨none,none,rfl⟩ (λi x Z g' hx e sh=>?_) (λg' e=>?_) (O0 (a8 T _) (a7 hh) λQ q=>w_var (d:=.ref hl) rfl q)
   ·obtain⟨z2,z3,rfl⟩:=sh;rw[b7,ag,aa] at hx;obtain⟨j,hj,rfl⟩:=hx;refine f7 ?_
    try show aO _ _ _ _ _ _
    walk_at"";refine m7 (a7 (e.at ha)) (F8 (hH j (aI hj))) ?_;walk_at"";refine q9 (J5 hf _) ?_;exact⟨by simp[List.getD,hj],e,_,_,rfl⟩
   ·refine sk (N8 (ms:=(List.range (b7 H).length).map λi=>w6 f (bH cs (H.getD i 0))) (a7 (by rw[cb];exact b0)) ?_);have e2:(((List.range (b7 H).length).map λi=>w6 f (bH cs (H.getD i 0))).any λm=>m==r.x)=(H.any λi=>meant cs w r.x i):=by
     rw[kl,aU,aR,aR];constructor
     ·rintro⟨i,hi,h1⟩;have hi:i<H.length:=by simpa[b7] using hi
      refine⟨H[i],bT hi,?_⟩;rw[hm];simpa[List.getD,hi] using h1
     ·rintro⟨j,hj,h1⟩;obtain⟨i,hi,rfl⟩:=bD.mp hj;refine⟨i,by simpa[b7] using hi,?_⟩;rw[hm] at h1;simpa[List.getD,hi] using h1
    rw[e2];simp only[decide_eq_true c1,Bool.not_true,Bool.false_or] at h;exact h _ (e.trans (Ex.snoc _ _))
  ·refine hJ (by rw[az c1];rfl) ?_;have:=h _ (Ex.refl _);rw[az c1] at this;exact this
 obtain⟨w,x,y⟩:=r;cases w with
 |fm =>
  refine hJ (show decide (RW.fm.s="coin")=true from by decide +kernel) ?_;walk_at"";by_cases c1:((p:Nat):Int)=y
  ·refine fK (by rw[aA c1];rfl) ?_;walk_at"";refine sk (N8 (ms:=H.map λ(i:Nat)=>(i:Int)) (by rw[<- Bs];exact a7 hh) ?_);rw[QS];have:=h _ (Ex.refl _);rw[show meant cs .fm y p=true from aA c1] at this;exact this
  ·refine hJ (by rw[az c1];rfl) ?_;have:=h _ (Ex.refl _);rw[show meant cs .fm y p=false from az c1] at this;exact this
 |lower =>
  refine fK (show decide (RW.lower.s="coin")=false from by decide +kernel) ?_;walk_at"";refine hJ (show decide (RW.lower.s="lower")=true from by decide +kernel) ?_;refine w_lit (Q4 (Cr ?_));exact mV .lower 0 (.inl rfl) (λi x=>rfl) h
 |upper =>
  refine fK (show decide (RW.upper.s="coin")=false from by decide +kernel) ?_;walk_at"";refine fK (show decide (RW.upper.s="lower")=false from by decide +kernel) ?_;refine w_lit (Q4 (Cr ?_));exact mV .upper 2 (.inr rfl) (λi x=>rfl) h
end
theorem GU:∀{ns:List Int},ns≠[]->∃M∈ns,∀x∈ns,x<=M
 |[],h=>absurd rfl h
 |[x],_=>⟨x,by simp,by simp⟩
 |x::y::r,_=>by
  obtain⟨M,h1,h2⟩:=GU (ns:=y::r) (by simp);by_cases h:x<=M
  ·refine⟨M,bo _ h1,λz hz=>?_⟩;rcases aE.mp hz with rfl|hz
   ·exact h
   ·exact h2 z hz
  ·refine⟨x,by simp,λz hz=>?_⟩;rcases aE.mp hz with rfl|hz
   ·exact Int.le_refl _
   ·have:=h2 z hz;omega
theorem FV{l m:List Int}(hl:l.Nodup)(hm:m.Nodup)(h:∀x,x∈l↔x∈m):l.length=m.length:=((List.perm_ext_iff_of_nodup hl hm).mpr h).length_eq
noncomputable abbrev jB(H:List Nat):Nat->Bool:=λi=>decide (i∈H)
def fTail(n:Nat):MS->MS
 |.seq a b=>match n with
  |0=>.seq a b
  |n+1=>fTail n b
 |x=>x
section
variable{T:Nat->Option ba}{k d:Nat}{g g':G}{Q:KD}{E:KX}{a b c hl p:Nat}{cs:List a9}{rs:List eX}{v:Int}{H:List Nat}
theorem GV(hT:qZ T){N:Ends}(hN:N.rt=Q){z6 z7:Option D}(ha:g[a]?=some (.lst (cs.map a9.d)))(hz:cs.length<=9)(hc:g[c]?=some (.lst (u6 rs)))(hr:rs.length<=900)(hh:g[hl]?=some (.lst (b7 H)))(hH:∀i∈H,i<cs.length)(uS:H.length<=50)(hp:p<cs.length)(w1:C0 cs (jB H) p=false)(w2:B3 cs (jB H) p=false)(h:∀g',Ex g g'->Q (.str (fault cs v rs (jB H) p)) g') :
  wpS (c5 T (k+1)) (fTail 3 vL.body) N [some (.ref a),some (.int v),some (.ref c),some (.ref hl),some (.int (p:Nat)),some (bH cs p).d,z6,z7,none,none] g E:=by
 subst hN;dsimp[vL,fTail];walk_at"";refine comp_map (a8 T _) (λZ=>∃z1 z2,Z=[some (.ref a),z1,z2]) (λi=>.int (bH cs (H.getD i 0)).lo) (l:=b7 H) (k:=.lst hl) (λg' e=>k6 (a7 (e.at hh))) (by simp[b7];omega) ⟨none,none,rfl⟩ (λi x Z g' hx e sh=>?_) (λg1 e1=>?_) (O0 (a8 T _) (a7 hh) λQ q=>w_var (d:=.ref hl) rfl q)
 ·obtain⟨z1,z2,rfl⟩:=sh;rw[b7,ag,aa] at hx;obtain⟨j,hj,rfl⟩:=hx;refine f7 ?_
  try show aO _ _ _ _ _ _
  walk_at"";refine m7 (a7 (e.at ha)) (F8 (hH j (aI hj))) ?_;walk_at"";refine q9 (J5 (.inl rfl) _) ?_;exact⟨by simp[List.getD,hj,w6],e,_,_,rfl⟩
 have e2:=e1.trans (Ex.snoc g1 (O.lst ((List.range (b7 H).length).map λi=>D.int (bH cs (H.getD i 0)).lo)));have eh:(List.range (b7 H).length).map (λi=>D.int (bH cs (H.getD i 0)).lo)=(H.map λi=>(bH cs i).lo).map D.int:=by
  rw[cb];refine cw λi=>?_;rw[ag,ag];by_cases hi:i<H.length
  ·rw[bA (by simpa[b7] using hi),aj hi];simp[List.getD,hi]
  ·rw[aJ (by simpa[b7] using hi),aJ (by omega)]
   rfl
 rw[eh] at e2 ⊢;have h2:=b0 (g:=g1) (o:=O.lst ((H.map λi=>(bH cs i).lo).map D.int));generalize g1++[O.lst ((H.map λi=>(bH cs i).lo).map D.int)]=g2 at *;walk_at"";refine q9 (J5 (.inl rfl) _) ?_;walk_at"";have e3:=Ex.snoc g2 (O.lst [D.int (w6 0 (bH cs p))]);refine xl (e3.at h2) b0 (by simp;omega) ?_;have e4:=(e2.trans e3).trans (Ex.snoc _ (O.lst ((H.map λi=>(bH cs i).lo).map D.int++[D.int (w6 0 (bH cs p))])));have h4:=b0 (g:=g2++[O.lst [D.int (w6 0 (bH cs p))]]) (o:=O.lst ((H.map λi=>(bH cs i).lo).map D.int++[D.int (w6 0 (bH cs p))]));have Na:(H.map λi=>(bH cs i).lo).map D.int++[D.int (w6 0 (bH cs p))]=((H.map λi=>(bH cs i).lo)++[(bH cs p).lo]).map D.int:=by simp[w6]
 rw[Na] at e4 h4 ⊢;generalize zF:(H.map λi=>(bH cs i).lo)++[(bH cs p).lo]=dH at *;have lhr:dH.length<=51:=by rw[<- zF];simp;omega
 generalize g2++[O.lst [D.int (w6 0 (bH cs p))]]=g3 at *;generalize g3++[O.lst (dH.map D.int)]=g4 at *;generalize g3.length=ah at *;walk_at"";refine w9 (a8 T _) (λZ=>∃z2 z3,Z=[some (.ref hl),some (.ref a),z2,z3]) (λi=>!decide (i∈H)) (λi=>.int (bH cs i).lo) (l:=i0 0 cs.length) (λg' e=>n8) (by rw[j4];omega) ⟨none,none,rfl⟩ (λi d Z g' hx e sh=>?_) (λg5 e5=>?_) (CY (a8 T _) (by omega:cs.length<=1000) λQ q=>?_)
 ·obtain⟨z2,z3,rfl⟩:=sh;obtain⟨hi,rfl⟩:=t8 hx;rw[dQ];refine f7 ?_
  try show cI _ _ _ _ _ _
  walk_at"";refine sA (Bh ((e4.trans e).at hh) ?_);walk_at"";refine⟨rfl,e,?_⟩;by_cases uG:i∈H
  ·rw[aA uG];exact fK rfl ⟨_,_,rfl⟩
  ·rw[az uG];refine hJ rfl ?_;walk_at"";refine m7 (a7 ((e4.trans e).at ha)) (F8 hi) ?_;walk_at"";refine q9 (J5 (.inl rfl) _) ?_;exact⟨rfl,e,_,_,rfl⟩
 rotate_left
 ·walk_at"";refine F6 (a7 (e4.at ha)) ?_;rw[ak];exact q
 have e6:=e5.trans (Ex.snoc g5 (O.lst (((List.range (i0 0 cs.length).length).filter λi=>!decide (i∈H)).map λi=>D.int (bH cs i).lo)));have h6:=b0 (g:=g5) (o:=O.lst (((List.range (i0 0 cs.length).length).filter λi=>!decide (i∈H)).map λi=>D.int (bH cs i).lo));have el:(((List.range (i0 0 cs.length).length).filter λi=>!decide (i∈H)).map λi=>D.int (bH cs i).lo)=(((List.range cs.length).filter λi=>!decide (i∈H)).map λi=>(bH cs i).lo).map D.int:=by
  rw[j4,cb]
  rfl
 rw[el] at e6 h6 ⊢;generalize dC:(((List.range cs.length).filter λi=>!decide (i∈H)).map λi=>(bH cs i).lo)=lt' at *;generalize g5++[O.lst (lt'.map D.int)]=g6 at *;generalize g5.length=al at *;walk_at"";refine w9 (a8 T _) (λZ=>∃z1 z2,Z=[some (.ref al),z1,z2]) (λi=>decide (dH.getD i 0∈lt')) (λi=>.int (dH.getD i 0)) (l:=dH.map D.int) (k:=.lst ah) (λg' e=>k6 (a7 ((e6.trans e).at h4))) (by simp;omega) ⟨none,none,rfl⟩ (λi d Z g' hx e sh=>?_) (λg7 e7=>?_) (O0 (a8 T _) (a7 (e6.at h4)) λQ q=>w_var (d:=.ref ah) rfl q)
 ·obtain⟨z1,z2,rfl⟩:=sh;rw[ag,aa] at hx;obtain⟨x,hx,rfl⟩:=hx;have ex:dH.getD i 0=x:=by simp[List.getD,hx]
  refine f7 ?_
  try show cI _ _ _ _ _ _
  walk_at"";refine sk (N8 (a7 (e.at h6)) ?_);walk_at"";have ed:(lt'.any λm=>m==x)=decide (x∈lt'):=by
   rw[aU,aR,cq];exact⟨λ⟨y,hy,e⟩=>(fj.mp e)▸hy,λhy=>⟨x,hy,by simp⟩⟩
  rw[ed,ex];refine⟨rfl,e,?_⟩;refine if2 (λ_=>?_) (λ_=>?_)
  ·walk_at"";exact⟨rfl,e,_,_,rfl⟩
  ·exact⟨_,_,rfl⟩
 have es:((List.range (dH.map D.int).length).filter λi=>decide (dH.getD i 0∈lt')).map (λi=>D.int (dH.getD i 0))=(((List.range dH.length).filter λi=>decide (dH.getD i 0∈lt')).map λi=>dH.getD i 0).map D.int:=by
  rw[cb,ak]
  rfl
 have e8:=e7.trans (Ex.snoc g7 (O.lst (((List.range (dH.map D.int).length).filter λi=>decide (dH.getD i 0∈lt')).map λi=>D.int (dH.getD i 0))));refine HK (ns:=((List.range dH.length).filter λi=>decide (dH.getD i 0∈lt')).map λi=>dH.getD i 0) (a7 (by rw[es];exact b0)) (by rw[ak];exact dk C4 (by omega)) ?_;generalize g7++[O.lst (((List.range (dH.map D.int).length).filter λi=>decide (dH.getD i 0∈lt')).map λi=>D.int (dH.getD i 0))]=g8 at *;have en:(ST.i6 [] (((List.range dH.length).filter λi=>decide (dH.getD i 0∈lt')).map λi=>dH.getD i 0)).length=u5 cs (jB H) p:=by
  unfold u5;refine FV (ST.T9 _ _ (by simp)) ((Bu _).filter _) λx=>?_;rw[ST.O6,bj,BN];unfold U8;rw[aS,aR,aR];simp only[List.not_mem_nil,false_or,List.mem_map,List.mem_filter,List.mem_range,Bool.and_eq_true,decide_eq_true_eq,Bool.or_eq_true,Bool.not_eq_true',decide_eq_false_iff_not];constructor
  ·rintro⟨i,⟨hi,hx⟩,rfl⟩;have hm:dH.getD i 0∈dH:=by simp[List.getD,hi]
   generalize dH.getD i 0=x at *;rw[<- dC] at hx;simp only[List.mem_map,List.mem_filter,List.mem_range,Bool.not_eq_true',decide_eq_false_iff_not] at hx;rw[<- zF] at hm;obtain⟨j,⟨nO,uC⟩,nN⟩:=hx;have wI:∃q,q<cs.length/\(q∈H\/q=p)/\(bH cs q).lo=x:=by
    rcases aV.mp hm with hm|hm
    ·obtain⟨q,hq,e⟩:=aQ.mp hm;exact⟨q,hH q hq,.inl hq,e⟩
    ·exact⟨p,hp,.inr rfl,(aY.mp hm).symm⟩
   obtain⟨q,q1,q2,q3⟩:=wI;refine⟨⟨bH cs j,?_,nN⟩,⟨q,q1,q2,q3⟩,j,nO,uC,nN⟩;rw[B0 (aj nO)];exact bT nO
  ·rintro⟨_,⟨q,q1,q2,q3⟩,j,nO,uC,nN⟩;have hm:x∈dH:=by
    rw[<- zF];rcases q2 with q2|q2
    ·exact cR _ (aQ.mpr ⟨q,q2,q3⟩)
    ·subst q2;exact br _ (by rw[q3];simp)
   obtain⟨i,hi,e⟩:=bD.mp hm;refine⟨i,⟨hi,?_⟩,by simp[List.getD,hi,e]⟩;rw[show dH.getD i 0=x by simp[List.getD,hi,e],<- dC];simp only[List.mem_map,List.mem_filter,List.mem_range,Bool.not_eq_true',decide_eq_false_iff_not];exact⟨j,⟨nO,uC⟩,nN⟩
 rw[en];walk_at"";have rY:=(e4.trans e6).trans e8;refine if2 (λc3=>?_) (λc3=>?_)
 ·walk_at"";have:fault cs v rs (jB H) p="anvil":=by unfold fault;rw[aC (by rw[w1];decide),aC (by rw[w2];decide),aK c3]
  rw[this] at h;exact h _ rY
 walk_at"";refine comp_map (a8 T _) (λZ=>∃z3 z4,Z=[some (.ref hl),some (.ref a),some (.int (p:Nat)),z3,z4]) (λi=>.bl (!meant cs (rs.getD i ⟨.fm,0,0⟩).w (rs.getD i ⟨.fm,0,0⟩).y p||(List.range cs.length).any λj=>decide (j∈H)&&meant cs (rs.getD i ⟨.fm,0,0⟩).w (rs.getD i ⟨.fm,0,0⟩).x j)) (l:=u6 rs) (k:=.lst c) (λg' e=>k6 (a7 ((rY.trans e).at hc))) (by simp[u6];omega) ⟨none,none,rfl⟩ (λi x Z g' hx e sh=>?_) (λg9 e9=>?_) (O0 (a8 T _) (a7 (rY.at hc)) λQ q=>w_var (d:=.ref c) rfl q)
 ·obtain⟨z3,z4,rfl⟩:=sh;rw[u6,ag,aa] at hx;obtain⟨r,oJ,rfl⟩:=hx;refine f7 ?_
  try show aO _ _ _ _ _ _
  walk_at"";refine Wa (k:=k) hT ((rY.trans e).at ha) ((rY.trans e).at hh) hH uS hp λEW qG=>?_;exact⟨by simp[List.getD,oJ],e.trans qG,_,_,rfl⟩
 have eb:((List.range (u6 rs).length).map λi=>D.bl (!meant cs (rs.getD i ⟨.fm,0,0⟩).w (rs.getD i ⟨.fm,0,0⟩).y p||(List.range cs.length).any λj=>decide (j∈H)&&meant cs (rs.getD i ⟨.fm,0,0⟩).w (rs.getD i ⟨.fm,0,0⟩).x j))=(rs.map λr=>!meant cs r.w r.y p||(List.range cs.length).any λj=>decide (j∈H)&&meant cs r.w r.x j).map D.bl:=by
  rw[cb];refine cw λi=>?_;rw[ag,ag];by_cases hi:i<rs.length
  ·rw[bA (by simpa[u6] using hi),aj hi];simp[List.getD,hi]
  ·rw[aJ (by simpa[u6] using hi),aJ (by omega)]
   rfl
 rw[eb];refine BY (a7 b0) (BC _) ?_;have eN:(rs.map λr=>!meant cs r.w r.y p||(List.range cs.length).any λj=>decide (j∈H)&&meant cs r.w r.x j).all id=K9 cs rs (jB H) p:=by
  rw[List.all_map]
  rfl
 rw[eN];walk_at"";have qG:=rY.trans (e9.trans (Ex.snoc g9 (O.lst ((rs.map λr=>!meant cs r.w r.y p||(List.range cs.length).any λj=>decide (j∈H)&&meant cs r.w r.x j).map D.bl))));cases c4:K9 cs rs (jB H) p with
 |true =>
  walk_at"";have:fault cs v rs (jB H) p="":=by unfold fault;rw[aC (by rw[w1];decide),aC (by rw[w2];decide),aC c3,aK c4]
  rw[this] at h;exact h _ qG
 |false =>
  walk_at"";have:fault cs v rs (jB H) p="rule":=by unfold fault;rw[aC (by rw[w1];decide),aC (by rw[w2];decide),aC c3,aC (by rw[c4];decide)]
  rw[this] at h;exact h _ qG
end
section
variable{T:Nat->Option ba}{k d:Nat}{g g':G}{Q:KD}{E:KX}{a b c hl p:Nat}{cs:List a9}{rs:List eX}{v:Int}{H:List Nat}
theorem BZ(c:a9):fL [D.int c.lo,D.tup (c.lm.map .int),D.int c.up,D.tup (c.um.map .int),D.int c.yr] 4=some (.int c.yr):=rfl
theorem SO{i:Nat}(hi:i∈H)(hH:∀i∈H,i<cs.length)(h:mw (bH cs i) (bH cs p)=true):fault cs v rs (jB H) p="wear":=by
 unfold fault;rw[aK];unfold C0;rw[xD hH,aR];exact⟨i,hi,h⟩
theorem Xj(hT:qZ T)(hB:∀c∈cs,CB c)(ha:g[a]?=some (.lst (cs.map a9.d)))(hz:cs.length<=9)(hc:g[c]?=some (.lst (u6 rs)))(hr:rs.length<=900)(hh:g[hl]?=some (.lst (b7 H)))(hH:∀i∈H,i<cs.length)(uS:H.length<=50)(hp:p<cs.length)(h:∀g',Ex g g'->Q (.str (fault cs v rs (jB H) p)) g'):c5 T (k+2) 108 [.ref a,.int v,.ref c,.ref hl,.int (p:Nat)] g Q E:=by
 refine call_of hT.Ai rfl ?_;have Mm:∀i,i<cs.length->CB (bH cs i):=λi hi=>by rw[B0 (aj hi)];exact hB _ (bT hi)
 dsimp[vL,c6,List.replicate];walk_at"";refine m7 (a7 ha) (F8 hp) ?_;walk_at"";refine u3 (a8 T _) (kx (a8 T _) ?_);walk_at"";refine⟨hl,_,rfl,a7 hh,b7 H,λt Z g'=>Ex g g'/\(∀i∈H.take t,mw (bH cs i) (bH cs p)=false)/\∃z6 z7,Z=[some (.ref a),some (.int v),some (.ref c),some (.ref hl),some (.int (p:Nat)),some (bH cs p).d,z6,z7,none,none],λi Z g' q=>k6 (a7 (q.1.at hh)),⟨Ex.refl _,by simp,none,none,rfl⟩,λt x Z g' hx q=>?_,λZ g' q=>?_⟩
 ·obtain⟨e1,q,z6,z7,rfl⟩:=q;rw[b7,ag,aa] at hx;obtain⟨i,hi,rfl⟩:=hx;have uG:=aI hi;have jh:=hH i uG;refine f7 ?_
  try show wpS _ _ _ _ _ _
  walk_at"";refine u3 (a8 T _) (kx (a8 T _) ?_);walk_at"";have e2:=e1.trans (Ex.snoc g' (O.lst [D.int 0,D.int 2]));have h2:=b0 (g:=g') (o:=O.lst [D.int 0,D.int 2]);generalize g'++[O.lst [D.int 0,D.int 2]]=g2 at *;refine⟨_,_,rfl,a7 h2,[D.int 0,D.int 2],λj Z g3=>Ex g2 g3/\(1<=j->(decide ((bH cs i).lo=(bH cs p).lo)&&!ja (bH cs i).lm (bH cs p).lm)=false)/\(2<=j->(decide ((bH cs i).up=(bH cs p).up)&&!ja (bH cs i).um (bH cs p).um)=false)/\∃z7,Z=[some (.ref a),some (.int v),some (.ref c),some (.ref hl),some (.int (p:Nat)),some (bH cs p).d,some (.int (i:Nat)),z7,none,none],λj Z g3 q=>k6 (a7 (q.1.at h2)),⟨Ex.refl _,λz=>absurd z (by omega),λz=>absurd z (by omega),z7,rfl⟩,λj x Z g3 hx q=>?_,λZ g3 q=>?_⟩
  ·obtain⟨e3,q1,q2,z7,rfl⟩:=q;have hf:∃f:Int,(f=0\/f=2)/\x=.int f/\(f=0↔j=0)/\j<2:=by
    match j,hx with
    |0,hx=>cases hx;exact⟨0,.inl rfl,rfl,by simp,by omega⟩
    |1,hx=>cases hx;exact⟨2,.inr rfl,rfl,by simp,by omega⟩
    |j+2,hx=>simp at hx
   obtain⟨f,hf,rfl,Ey,hj⟩:=hf;have rZ:=e2.trans e3;refine f7 ?_
   try show wpS _ _ _ _ _ _
   walk_at"";refine m7 (a7 (rZ.at ha)) (F8 jh) ?_;walk_at"";refine q9 (J5 hf _) ?_;walk_at"";refine q9 (J5 hf _) ?_;walk_at"";have fin:∀g4,Ex g3 g4->(decide (w6 f (bH cs i)=w6 f (bH cs p))&&!ja (qR f (bH cs i)) (qR f (bH cs p)))=false->(Ex g2 g4/\(1<=j+1->(decide ((bH cs i).lo=(bH cs p).lo)&&!ja (bH cs i).lm (bH cs p).lm)=false)/\(2<=j+1->(decide ((bH cs i).up=(bH cs p).up)&&!ja (bH cs i).um (bH cs p).um)=false)/\∃z7,([some (.ref a),some (.int v),some (.ref c),some (.ref hl),some (.int (p:Nat)),some (bH cs p).d,some (.int (i:Nat)),some (.int f),none,none]:S)=[some (.ref a),some (.int v),some (.ref c),some (.ref hl),some (.int (p:Nat)),some (bH cs p).d,some (.int (i:Nat)),z7,none,none]):=λg4 e4 hw=>by
    refine⟨e3.trans e4,λ_=>?_,λz=>?_,_,rfl⟩
    ·by_cases h0:j=0
     ·rw[Ey.mpr h0] at hw;exact hw
     ·exact q1 (by omega)
    ·have:¬f=0:=λw=>by have:=Ey.mp w;omega
     have f2:f=2:=hf.resolve_left this;rw[f2] at hw;exact hw
   refine if2 (λh1=>?_) (λh1=>?_)
   ·walk_at"";refine m7 (a7 (rZ.at ha)) (F8 jh) ?_;walk_at"";refine q9 (HE hf _) ?_;walk_at"";refine q9 (HE hf _) ?_;walk_at"";refine Yn (k:=k) hT.Ac ((Mm i jh).KJ f) λg4 e4=>?_;walk_at"";cases hw:ja (qR f (bH cs i)) (qR f (bH cs p)) with
    |false =>
     walk_at"";have:mw (bH cs i) (bH cs p)=true:=by
      unfold mw;rcases hf with rfl|rfl
      ·rw[aA (show(bH cs i).lo=(bH cs p).lo from h1),show ja (bH cs i).lm (bH cs p).lm=false from hw];rfl
      ·rw[aA (show(bH cs i).up=(bH cs p).up from h1),show ja (bH cs i).um (bH cs p).um=false from hw];simp
     rw[SO uG hH this] at h;exact h _ (rZ.trans e4)
    |true =>
     walk_at"";exact fin g4 e4 (by rw[hw];simp)
   ·walk_at"";exact fin g3 (Ex.refl _) (by rw[az h1];rfl)
  ·obtain⟨e3,q1,q2,z7,rfl⟩:=q
   try show wpS _ _ _ _ _ _
   try walk_at""
   refine⟨e2.trans e3,λi' ie=>?_,_,_,rfl⟩;rw[bu,hi] at ie;rcases aV.mp ie with ie|ie
   ·exact q i' ie
   ·have:i'=i:=by simpa using ie
    subst this;unfold mw;rw[q1 (by decide),q2 (by decide)]
    rfl
 ·obtain⟨e1,q,z6,z7,rfl⟩:=q;rw[b7,ak,bI] at q;have w1:C0 cs (jB H) p=false:=by
   unfold C0;rw[xD hH,List.any_eq_false];exact λi hi=>by rw[q i hi];decide
  try show wpS _ _ _ _ _ _
  refine Y1 ?_;walk_at"";refine q9 (BZ _) ?_;walk_at"";have uc:B3 cs (jB H) p=(decide (0<(bH cs p).yr)&&H.any λi=>decide ((bH cs p).yr<(bH cs i).yr)):=by
   unfold B3;rw[xD hH,aU,aR,aS,aR];constructor
   ·rintro⟨i,h1,h2⟩;unfold jS at h2;rw[aS] at h2;exact⟨h2.1,i,h1,h2.2⟩
   ·rintro⟨h1,i,h2,h3⟩;exact⟨i,h2,by unfold jS;rw[h1,h3];rfl⟩
  refine if2 (λc1=>?_) (λc1=>?_)
  ·walk_at"";have e2:=e1.trans (Ex.snoc g' (O.lst [D.int 0]));have h2:=b0 (g:=g') (o:=O.lst [D.int 0]);generalize g'++[O.lst [D.int 0]]=g2 at *;generalize g'.length=z0 at *;refine comp_map (a8 T _) (λZ=>∃z1 z2,Z=[some (.ref a),z1,z2]) (λi=>.int (bH cs (H.getD i 0)).yr) (l:=b7 H) (k:=.lst hl) (λg' e=>k6 (a7 ((e2.trans e).at hh))) (by simp[b7];omega) ⟨none,none,rfl⟩ (λi x Z g' hx e sh=>?_) (λg3 e3=>?_) (O0 (a8 T _) (a7 (e2.at hh)) λQ q=>w_var (d:=.ref hl) rfl q)
   ·obtain⟨z1,z2,rfl⟩:=sh;rw[b7,ag,aa] at hx;obtain⟨j,hj,rfl⟩:=hx;refine f7 ?_
    try show aO _ _ _ _ _ _
    walk_at"";refine m7 (a7 ((e2.trans e).at ha)) (F8 (hH j (aI hj))) ?_;walk_at"";refine q9 (BZ _) ?_;exact⟨by simp[List.getD,hj],e,_,_,rfl⟩
   have ey:(List.range (b7 H).length).map (λi=>D.int (bH cs (H.getD i 0)).yr)=(H.map λi=>(bH cs i).yr).map D.int:=by
    rw[cb];refine cw λi=>?_;rw[ag,ag];by_cases hi:i<H.length
    ·rw[bA (by simpa[b7] using hi),aj hi];simp[List.getD,hi]
    ·rw[aJ (by simpa[b7] using hi),aJ (by omega)]
     rfl
   rw[ey];have e4:=e3.trans (Ex.snoc g3 (O.lst ((H.map λi=>(bH cs i).yr).map D.int)));refine xl (e4.at h2) b0 (by simp;omega) ?_;have e5:=e4.trans (Ex.snoc _ (O.lst ([D.int 0]++(H.map λi=>(bH cs i).yr).map D.int)));obtain⟨M,m1,m2⟩:=GU (ns:=0::H.map λi=>(bH cs i).yr) (by simp);refine Vw (ns:=0::H.map λi=>(bH cs i).yr) (a7 b0) m1 m2 ?_;walk_at"";refine q9 (BZ _) ?_;walk_at"";have em:decide ((bH cs p).yr<M)=B3 cs (jB H) p:=by
    rw[uc,aA c1,pI,aU,cq,aR];constructor
    ·intro hM;rcases aE.mp m1 with rfl|hm
     ·omega
     ·obtain⟨i,hi,rfl⟩:=aQ.mp hm;exact⟨i,hi,aA hM⟩
    ·rintro⟨i,hi,h1⟩;have:=m2 _ (bo _ (aQ.mpr ⟨i,hi,rfl⟩));have:=bt h1;omega
   rw[em];cases w2:B3 cs (jB H) p with
   |true =>
    walk_at"";have:fault cs v rs (jB H) p="year":=by unfold fault;rw[aC (by rw[w1];decide),aK w2]
    rw[this] at h;exact h _ (e2.trans e5)
   |false =>
    refine fK rfl ?_;refine E6 ?_;have qE:=e2.trans e5;exact GV (k:=k) hT rfl (qE.at ha) hz (qE.at hc) hr (qE.at hh) hH uS hp w1 w2 λg6 e6=>h g6 (qE.trans e6)
  ·refine fK rfl ?_;refine E6 ?_;have w2:B3 cs (jB H) p=false:=by rw[uc,az c1];rfl
   exact GV (k:=k) hT rfl (e1.at ha) hz (e1.at hc) hr (e1.at hh) hH uS hp w1 w2 λg6 e6=>h g6 (e1.trans e6)
end
def Z3:ba:=⟨3,3,(.seq (.ret (.dy (bW (.cmp .NotEq) (.call 91 (dc bh bp)) bh) (bW (.cmp .Is) (.call 101 (ia aL bh bp)) (.lit .bC)))) .pass)⟩
def Z4:ba:=⟨2,2,(.seq (.ret (.comp [0,1] 4 (.one 3) (.dS (du (.fld "size") aL)) (.fy (.call 115 (ia aL bh bP))) bP)) .pass)⟩
def A3(cs:List a9)(v:Int)(rs:List eX)(s p:Nat):Bool:=!s.testBit p&&decide (fault cs v rs s.testBit p="")
def j8(cs:List a9)(v:Int)(rs:List eX)(s:Nat):List Nat:=(List.range cs.length).filter (A3 cs v rs s)
theorem ZM(x:Str):M7 (xa x)=decide (x=""):=by
 unfold xa;by_cases h:x=""
 ·rw[aK h,aA h];rfl
 ·rw[aC h,az h];rfl
theorem VI{s p:Nat}:decide (((s |||2 ^ p:Nat):Int)=(s:Nat))=s.testBit p:=by
 rw[aU,cq];constructor
 ·intro h;have h:s |||2 ^ p=s:=by omega
  have:=Q3 s p p;rw[h] at this;rw[this];simp
 ·intro h;have:s |||2 ^ p=s:=yt λi=>by
   rw[Q3];by_cases hi:i=p
   ·subst hi;rw[h];rfl
   ·rw[az hi,Bool.or_false]
  rw[this]
structure TF(T:Nat->Option ba):Prop where
 qv:T 115=some Z3
 Ag:T 116=some Z4
section
variable{T:Nat->Option ba}{k d:Nat}{g g':G}{Q:KD}{E:KX}{a b c hl p:Nat}{cs:List a9}{rs:List eX}{v:Int}{H:List Nat}
theorem Yg(hT:iJ T)(qv:T 115=some Z3)(B:Bd g b cs v rs)(hz:cs.length<=9)(hr:rs.length<=900){s p:Nat}(hs:s<2 ^ cs.length)(hp:p<cs.length)(h:∀g',Ex g g'->Q (.bl (A3 cs v rs s p)) g'):c5 T (k+4) 115 [.ref b,.int (s:Nat),.int (p:Nat)] g Q E:=by
 refine call_of qv rfl ?_;dsimp[Z3,c6,List.replicate];walk_at"";refine z9 (k:=k+2) hT.nQ (by omega) ?_;walk_at"";rw[VI];cases hb:s.testBit p with
 |true =>
  refine fK rfl ?_;have:A3 cs v rs s p=false:=by unfold A3;rw[hb];rfl
  rw[this] at h;exact h _ (Ex.refl _)
 |false =>
  refine hJ rfl ?_;walk_at"";refine Wh (k:=k) hT B hz hr hs hp λg1 e1=>?_;walk_at"";have:A3 cs v rs s p=M7 (xa (fault cs v rs s.testBit p)):=by unfold A3;rw[hb,ZM];rfl
  rw[this] at h;exact h _ e1
theorem S5(hT:iJ T)(hF:TF T)(B:Bd g b cs v rs)(hz:cs.length<=9)(hr:rs.length<=900){s:Nat}(hs:s<2 ^ cs.length)(h:∀g' l,Ex g g'->g.length<=l->g'[l]?=some (.lst (b7 (j8 cs v rs s)))->Q (.ref l) g'):c5 T (k+5) 116 [.ref b,.int (s:Nat)] g Q E:=by
 refine call_of hF.Ag rfl ?_;dsimp[Z4,c6,List.replicate];obtain⟨w,l,dd,nb,h1,h2,h3,h4,h5⟩:=B.ex;walk_at"";refine w9 (a8 T _) (λZ=>∃z2 z3,Z=[some (.ref b),some (.int (s:Nat)),z2,z3]) (A3 cs v rs s) (λi=>.int (i:Nat)) (l:=i0 0 cs.length) (λg' e=>n8) (by rw[j4];omega) ⟨none,none,rfl⟩ (λi d Z g' hx e sh=>?_) (λg' e=>?_) (CY (a8 T _) (by omega:cs.length<=1000) λQ q=>?_)
 ·obtain⟨z2,z3,rfl⟩:=sh;obtain⟨hi,rfl⟩:=t8 hx;rw[dQ];refine f7 ?_
  try show cI _ _ _ _ _ _
  walk_at"";refine Yg (k:=k) hT hF.qv (B.at e) hz hr hs hi λg2 e2=>?_;walk_at"";refine⟨rfl,e.trans e2,?_⟩;cases A3 cs v rs s i with
  |true =>
   refine hJ rfl ?_;walk_at"";exact⟨rfl,e.trans e2,_,_,rfl⟩
  |false=>exact fK rfl ⟨_,_,rfl⟩
 ·rw[j4];exact h _ _ (e.trans (Ex.snoc _ _)) e.len b0
 ·walk_at"";exact S7 h1 rfl q
end
def FG(n:Nat)(F:Nat->List Nat):Prop:=∀s p,p∈F s->p<n/\s.testBit p=false
def O4(n:Nat)(F:Nat->List Nat):Nat->Nat->List (List Nat)
 |0,s=>if s=2 ^ n-1 then[[]] else[]
 |f+1,s=>if s=2 ^ n-1 then[[]] else(F s).flatMap λp=>(O4 n F f (s |||2 ^ p)).map (p::·)
def i8(n:Nat)(F:Nat->List Nat)(s:Nat):List (List Nat):=O4 n F (2 ^ n) s
theorem vG{s p:Nat}(h:s.testBit p=false):s<s |||2 ^ p:=by
 have h1:s<=s |||2 ^ p:=Nat.left_le_or
 have h2:s |||2 ^ p≠s:=λe=>by
  have:=Q3 s p p;rw[e,h] at this;simp at this
 omega
theorem B6{α β:Type}{l:List α}{f g:α->List β}(h:∀x∈l,f x=g x):l.flatMap f=l.flatMap g:=by
 induction l with
 |nil=>rfl
 |cons a r ih=>rw[bY,bY,h a (by simp),ih λx hx=>h x (by simp[hx])]
theorem GZ{n:Nat}{F:Nat->List Nat}(hF:FG n F):∀(f s:Nat),s<2 ^ n->2 ^ n-1-s<=f->O4 n F f s=O4 n F (f+1) s
 |0,s,hs,hf=>by
  have e:s=2 ^ n-1:=by omega
  simp only[O4];rw[aK e,aK e]
 |f+1,s,hs,hf=>by
  rw[O4,O4];by_cases e:s=2 ^ n-1
  ·rw[aK e,aK e]
  ·rw[aC e,aC e];refine B6 λp hp=>?_;have:=hF s p hp;rw[GZ hF f (s |||2 ^ p) (P5 hs this.1) (by have:=vG this.2;omega)]
theorem N1{n:Nat}{F:Nat->List Nat}{s:Nat}(h:s=2 ^ n-1):i8 n F s=[[]]:=by
 unfold i8;obtain⟨m,hm⟩:∃m,2 ^ n=m+1:=⟨2 ^ n-1,by have:=fQ (n:=n);omega⟩
 rw[hm,O4,aK h]
theorem W7{n:Nat}{F:Nat->List Nat}(hF:FG n F){s:Nat}(hs:s<2 ^ n)(h:s≠2 ^ n-1):i8 n F s=(F s).flatMap λp=>(i8 n F (s |||2 ^ p)).map (p::·):=by
 unfold i8;obtain⟨m,hm⟩:∃m,2 ^ n=m+1:=⟨2 ^ n-1,by have:=fQ (n:=n);omega⟩
 conv=>lhs;rw[hm,O4,aC h]
 refine B6 λp hp=>?_;have:=hF s p hp;rw[hm,<- GZ hF m (s |||2 ^ p) (P5 hs this.1) (by omega)]
theorem SK{n:Nat}{F:Nat->List Nat}(hF:FG n F){s:Nat}(hs:s<2 ^ n)(h:s≠2 ^ n-1):(i8 n F s).length=((F s).map λp=>(i8 n F (s |||2 ^ p)).length).sum:=by
 rw[W7 hF hs h,List.length_flatMap];simp[Function.comp_def]
inductive jk(F:Nat->List Nat):Nat->Prop
 |zero:jk F 0
 |step {s p:Nat} (h:jk F s) (hp:p∈F s):jk F (s |||2 ^ p)
theorem jk.lt{n:Nat}{F:Nat->List Nat}(hF:FG n F){s:Nat}(h:jk F s):s<2 ^ n:=by
 induction h with
 |zero=>exact lT _
 |step h hp ih=>exact P5 ih (hF _ _ hp).1
theorem E2(cs:List a9)(v:Int)(rs:List eX):FG cs.length (j8 cs v rs):=λs p hp=>by
 obtain⟨h1,h2⟩:=bj.mp hp;unfold A3 at h2;rw[aS,Bool.not_eq_true'] at h2;exact⟨aT.mp h1,h2.1⟩
theorem Ye{α β:Type}{f:α->List β}{l:List α}{j:Nat}{x:α}(hx:l[j]?=some x)(m:Nat):(l.flatMap f)[((l.take j).flatMap f).length+m]?=((l.drop j).flatMap f)[m]?/\(l.drop j).flatMap f=f x++(l.drop (j+1)).flatMap f:=by
 have e:l.flatMap f=(l.take j).flatMap f++(l.drop j).flatMap f:=by rw[<- jo,fe]
 have hj:j<l.length:=(ao.mp hx).1;have ed:l.drop j=x::l.drop (j+1):=by
  rw[dU hj]
  congr 1
  exact(ao.mp hx).2
 constructor
 ·rw[e,cv (by omega)]
  congr 1
  omega
 ·rw[ed,bY]
noncomputable abbrev kN(j:Nat):Key:=.inl (j:Int)
theorem a20{kvs:List (Key×D)}{c:Key}{x:D}:p6 (putD kvs c x) c=some x:=by
 unfold p6 putD;by_cases h:(kvs.any λkv=>decide (kv.1=c))=true
 ·rw[aK h]
  induction kvs with
  |nil=>cases h
  |cons kv r ih =>
   rw[bg,eF];by_cases hk:kv.1=c
   ·rw[aK hk];simp[hk]
   ·rw[aC hk];simp only[hk,decide_false];refine ih ?_;rw[fo,cK] at h;exact h.resolve_left (by simp[hk])
 ·rw[aC h,kj];have:kvs.find? (λkv=>decide (kv.1=c))=none:=by
   rw[jI];exact λkv hk hc=>h (aR.mpr ⟨kv,hk,hc⟩)
  rw[this];simp
theorem XF{kvs:List (Key×D)}{c c':Key}{x:D}(hn:c≠c'):p6 (putD kvs c x) c'=p6 kvs c':=by
 unfold p6 putD;by_cases h:(kvs.any λkv=>decide (kv.1=c))=true
 ·rw[aK h];clear h
  induction kvs with
  |nil=>rfl
  |cons kv r ih =>
   rw[bg,eF,eF];by_cases hk:kv.1=c
   ·rw[aK hk];have:kv.1≠c':=λz=>hn (hk.symm.trans z);simp only[this,decide_false];exact ih
   ·rw[aC hk];by_cases nt:kv.1=c'
    ·simp only[nt,decide_true]
    ·simp only[nt,decide_false];exact ih
 ·rw[aC h,kj];have:[(c,x)].find? (λkv=>decide (kv.1=c'))=none:=by simp[hn]
  rw[this];simp
theorem a19{kvs:List (Key×D)}{c:Key}{x:D}:(putD kvs c x).length<=kvs.length+1:=by
 unfold putD;split<;>simp
theorem Vs{i j:Nat}(h:i≠j):kN i≠kN j:=λz=>h (by have:(i:Int)=j:=Sum.inl.inj z;omega)
def B5:ba:=⟨1,5,(.seq (.set 1 (.prim (.jM 0) .nil)) (.seq (.set 2 (.prim .lst .nil)) (.seq (.de (.one 3) (.dS (bW (.bin .Add) (du (.fld "full") aL) (bf 1))) (.seq (.ifs (dJ .In bP bh) (.seq (.expr (.eE .append bp (fb bP))) (.seq (.de (.one 4) (.eO (.call 116 (dc aL bP))) (.seq (.expr (.eE .jN bh (fb (.call 91 (dc bP cU))))) .pass)) .pass)) .pass) .pass)) (.seq (.ret bp) .pass))))⟩
def Bm:ba:=⟨1,3,(.seq (.set 1 (.prim .og .nil)) (.seq (.de (.one 2) (.nr (.call 117 (fb aL))) (.seq (.ifs (dJ .Eq bp (du (.fld "full") aL)) (.seq (.dY bh bp (bf 1)) .pass) (.seq (.dY bh bp (du .sum (.comp [2,1] 4 (.one 3) (.eO (.call 116 (dc aL bp))) .no (cJ bh (.call 91 (dc aL bP)))))) .pass)) .pass)) (.seq (.ret bh) .pass)))⟩
def xX:ba:=⟨4,7,(.seq (.set 4 (.call 116 (dc aL bp))) (.seq (.set 5 bP) (.seq (.set 6 (bf 0)) (.seq (.jK (dJ .GtE dR (cJ bh (.call 91 (dc bp (cJ cU eM))))) (.seq (.jZ 5 .my (cJ bh (.call 91 (dc bp (cJ cU eM))))) (.seq (.jZ 6 .iadd (bf 1)) .pass))) (.seq (.ret (bW .tup (cJ cU eM) dR)) .pass)))))⟩
def L9:ba:=⟨3,7,(.seq (.set 3 (.prim .lst .nil)) (.seq (.set 4 (bf 0)) (.seq (.set 5 bp) (.seq (.jK (dJ .NotEq cU (du (.fld "full") aL)) (.seq (.kD (.many [6,5]) (.call 122 (rn aL bh cU dR))) (.seq (.expr (.eE .append bP (fb eM))) (.seq (.set 4 (.call 91 (dc cU eM))) .pass)))) (.seq (.ret bP) .pass)))))⟩
def I9:ba:=⟨1,2,(.seq (.set 1 (.call 121 (fb aL))) (.seq (.ifs (dJ .Eq (cJ bh (bf 0)) (bf 0)) (.seq (.ret (.lit .bC)) .pass) .pass) (.seq (.ret (.call 123 (ia aL bh (bf 0)))) .pass)))⟩
theorem P8:∀{l m:List Nat},l.Nodup->(∀x∈l,x∈m)->l.length<=m.length
 |[],m,_,_=>cM _
 |x::r,m,nd,h=>by
  rw[dA] at nd;have:=P8 (l:=r) (m:=m.erase x) nd.2 λy hy=>(List.mem_erase_of_ne λz=>nd.1 (by rw[<- z];exact hy)).mpr (h y (by simp[hy]));have hx:=h x (by simp);rw[List.length_erase_of_mem hx] at this;have:=eT hx;simp;omega
section
variable{P:fh}{Z:S}{g:G}{Q:KD}{E:KX}{t:MT}{it elt:ME}{c8:List Nat}{n:Nat}
theorem BD(hP:f6 P)(h:eQ P it Z g (λk g1=>∃(l:List D) (Sh:S->Prop) (w:Nat->D),(∀g',Ex g1 g'->k.Is l g')/\l.length<=1000/\Sh (C5 Z c8 n) /\
      (∀ i d Z g',l[i]?=some d->Ex g1 g'->Sh Z->jb t d Z λcy=>aO P elt cy g' (λy g4=>y=w i/\Ex g1 g4/\Sh cy) iL)/\∀ g',Ex g1 g'->Q (.ref g'.length) (g' ++ [.lst ((List.range l.length).map w)])) E):aO P (.comp c8 n t it .no elt) Z g Q E:=by
  refine E7 hP (y9 hP it _ _ _ _ _ _ (λk g1 h=>?_) (λ_ _ z=>z) h);obtain⟨l,Sh,w,hk,hl,h0,hs,hd⟩:=h;refine⟨l,λi ys Z g'=>Ex g1 g'/\ys=(List.range i).map w/\Sh Z,hl,λi ys Z g' q=>⟨hk _ q.1,by rw[q.2.1];simp⟩,⟨Ex.refl _,rfl,h0⟩,λi x ys Z g' hx q=>?_,λys Z g' q=>?_⟩
  · obtain⟨e1,rfl,sh⟩:=q;refine v7 (λcy q=>xB (kZ (b8 hP elt _ _ _ _ _ _ (λy g4 q=>?_) (λ_ _ z=>z) q))) (hs i x Z g' hx e1 sh);obtain⟨rfl,e4,sh⟩:=q;exact⟨e4,by rw[fC,dB];rfl,sh⟩
  · obtain⟨e1,rfl,sh⟩:=q;exact hd g' e1
end
def nX(g:G)(sd n:Nat)(K:List Nat):Prop:=∃S m,g[sd]?=some (.set S m)/\m=K.length/\K.Nodup/\(∀j∈K,j<2 ^ n)/\∀k:Int,S k=true↔∃j∈K,k=(j:Nat)
theorem nX.at{g g':G}{sd n:Nat}{K:List Nat}(h:nX g sd n K)(e:Ex g g'):nX g' sd n K:=let ⟨S,m,h1,h2⟩:=h;⟨S,m,e.at h1,h2⟩
theorem nX.size{g:G}{sd n:Nat}{K:List Nat}(h:nX g sd n K):K.length<=2 ^ n:=by
 obtain⟨S,m,_,_,nd,lt,_⟩:=h;have:=P8 (m:=List.range (2 ^ n)) nd λx hx=>aT.mpr (lt x hx);simpa using this
structure TW(T:Nat->Option ba):Prop where
 nS:T 117=some B5
 Af:T 121=some Bm
structure Wy(g:G)(w:Nat)(cs:List a9)(v:Int)(rs:List eX):Prop where
 ex:∃kvs,g[w]?=some (.dN kvs)/\∀s,jk (j8 cs v rs) s->p6 kvs (kN s)=some (.int ((i8 cs.length (j8 cs v rs) s).length:Nat))
theorem Wy.at{g g':G}{w:Nat}{cs:List a9}{v:Int}{rs:List eX}(h:Wy g w cs v rs)(e:Ex g g'):Wy g' w cs v rs:=let ⟨kvs,h1,h2⟩:=h.ex;⟨⟨kvs,e.at h1,h2⟩⟩
theorem Yr{l:List Nat}(hl:l.Pairwise (· > ·)){i s x:Nat}(hi:l[i]?=some s)(hx:x∈l)(h:s<x):x∈l.take i:=by
 obtain⟨j,hj,rfl⟩:=bD.mp hx;obtain⟨ie,rfl⟩:=ao.mp hi;have LL:j<i:=by
  rcases dF j i with z|z|z
  ·exact z
  ·subst z;omega
  ·have:=fX.mp hl i j ie hj z;omega
 exact ff.mpr ⟨j,by rw[gn LL,aj hj]⟩
theorem CZ{n:Nat}(h:n<=9):1<=2 ^ n/\2 ^ n<=512:=⟨fQ,iR (by omega) h⟩
section
variable{T:Nat->Option ba}{k d:Nat}{g g':G}{Q:KD}{E:KX}{a b c r:Nat}{cs:List a9}{rs:List eX}{v:Int}
theorem Hc(hT:iJ T)(hF:TF T)(nS:T 117=some B5)(B:Bd g b cs v rs)(hz:cs.length<=9)(hr:rs.length<=900)(h:∀(L:List Nat) l g',Ex g g'->g.length<=l->g'[l]?=some (.lst (b7 L))->L.Pairwise (· < ·)->(∀s,s∈L↔jk (j8 cs v rs) s)->L.length<=512->Q (.ref l) g'):c5 T (k+6) 117 [.ref b] g Q E:=by
 refine call_of nS rfl ?_;dsimp[B5,c6,List.replicate];have jW:=E2 cs v rs;generalize nu:j8 cs v rs=F at *;obtain⟨w0,l0,dd,nb,f1,f2,f3,f4,f5⟩:=B.ex;have p2:=CZ hz;walk_at"";refine RG ?_;have s1:nX (g++[O.set (λk=>decide (k=0)) 1]) g.length cs.length [0]:=⟨_,_,b0,rfl,by simp,by simp;omega,λk=>by simp⟩
 have e1:=Ex.snoc g (O.set (λk=>decide (k=0)) 1);generalize g++[O.set (λk=>decide (k=0)) 1]=g1 at *;walk_at"";have e2:=e1.trans (Ex.snoc g1 (O.lst []));have s2:=s1.at (Ex.snoc g1 (O.lst []));have t2:=b0 (g:=g1) (o:=O.lst []);have l1:g.length<g1.length:=by obtain⟨_,_,z,_⟩:=s1;exact j7 z
 generalize g1++[O.lst []]=g2 at *;generalize g1.length=tl at *;refine u3 (a8 T _) (S4 (a8 T _) ?_);walk_at"";refine S7 (e2.at f1) rfl ?_;walk_at"";have en:((2 ^ cs.length-1:Nat):Int)+1=((2 ^ cs.length:Nat):Int):=by omega
 rw[en];refine⟨by omega,by omega,i0 0 (2 ^ cs.length),λt Z g'=>Ex g g'/\(∃K,nX g' g.length cs.length K/\∀j,j∈K↔j=0\/∃s p,s<t/\jk F s/\p∈F s/\j=s |||2 ^ p)/\(∃L,g'[tl]?=some (.lst (b7 L))/\L.Pairwise (· < ·)/\(∀s,s∈L↔s<t/\jk F s)/\L.length<=t)/\∃z3 z4,Z=[some (.ref b),some (.ref g.length),some (.ref tl),z3,z4],λ_ _ _ _=>by rw[cx];exact n8,⟨e2,⟨[0],s2,λj=>by simp⟩,⟨[],t2,by simp,by simp,by simp⟩,none,none,rfl⟩,λt x Z g' hx q=>?_,λZ g' q=>?_⟩
 ·obtain⟨e3,⟨K,s3,hK⟩,⟨L,t3,pw,hL,uR⟩,z3,z4,rfl⟩:=q;obtain⟨ht,rfl⟩:=t8 hx;rw[dQ];have mF:t∈K↔jk F t:=by
   rw[hK];constructor
   ·rintro(rfl|⟨s,p,_,h2,h3,rfl⟩)
    ·exact .zero
    ·exact .step h2 h3
   ·intro h;cases h with
    |zero=>exact .inl rfl
    |step h hp=>exact .inr ⟨_,_,vG (jW _ _ hp).2,h,hp,rfl⟩
  refine f7 ?_
  try show wpS _ _ _ _ _ _
  walk_at"";obtain⟨S,m,sg,sm,snd,slt,sS⟩:=id s3;refine UR sg ?_;walk_at"";have EJ:S (t:Nat)=true↔jk F t:=by
   rw[sS,<- mF];exact⟨λ⟨j,hj,e⟩=>by rw[show t=j by omega];exact hj,λz=>⟨t,z,rfl⟩⟩
  cases hb:S (t:Nat) with
  |false =>
   have jC:¬jk F t:=λz=>by rw[EJ.mpr z] at hb;cases hb
   refine fK rfl ?_;walk_at"";refine⟨e3,⟨K,s3,λj=>(hK j).trans ⟨?_,?_⟩⟩,⟨L,t3,pw,λs=>(hL s).trans ⟨λz=>⟨by omega,z.2⟩,λz=>⟨?_,z.2⟩⟩,by omega⟩,_,_,rfl⟩
   ·rintro(z|⟨s,p,h1,h2⟩)
    ·exact .inl z
    ·exact .inr ⟨s,p,by omega,h2⟩
   ·rintro(z|⟨s,p,h1,h2,h3⟩)
    ·exact .inl z
    ·refine .inr ⟨s,p,?_,h2,h3⟩;rcases cQ s t with y|y
     ·exact y
     ·exact absurd (show jk F t by rw[show t=s by omega];exact h2) jC
   ·rcases cQ s t with y|y
    ·exact y
    ·exact absurd (show jk F t by rw[show t=s by omega];exact z.2) jC
  |true =>
   have hR:=EJ.mp hb;refine hJ rfl ?_;walk_at"";refine O7 t3 (by simp[b7];omega) ?_;have Kj:tl≠g.length:=by omega
   have s4:nX (g'.set tl (.lst (b7 L++[D.int (t:Nat)]))) g.length cs.length K:=⟨S,m,d0 sg Kj,sm,snd,slt,sS⟩
   have t4:(g'.set tl (.lst (b7 L++[D.int (t:Nat)])))[tl]?=some (.lst (b7 (L++[t]))):=by rw[get_set t3];simp[b7]
   have e4:Ex g (g'.set tl (.lst (b7 L++[D.int (t:Nat)]))):=⟨by simp;exact e3.len,λi hi=>by rw[ax (by omega)];exact e3.old i hi⟩
   generalize g'.set tl (.lst (b7 L++[D.int (t:Nat)]))=g4 at *;walk_at"";refine u3 (a8 T _) (kx (a8 T _) ?_);walk_at"";refine S5 (k:=k) hT hF (B.at e4) hz hr ht λg5 fl e5 LO h5=>?_;rw[nu] at h5;have l4:tl<g4.length:=j7 t4;refine⟨fl,_,rfl,a7 h5,b7 (F t),λj Z g'=>Ex g g'/\g'[fl]?=some (.lst (b7 (F t)))/\g'[tl]?=some (.lst (b7 (L++[t])))/\(∃K',nX g' g.length cs.length K'/\∀x,x∈K'↔x∈K\/∃p∈(F t).take j,x=t |||2 ^ p)/\∃z4,Z=[some (.ref b),some (.ref g.length),some (.ref tl),some (.int (t:Nat)),z4],λj Z g' q=>k6 (a7 q.2.1),⟨e4.trans e5,h5,e5.at t4,⟨K,s4.at e5,λx=>by simp⟩,z4,rfl⟩,λj x Z g' hx q=>?_,λZ g' q=>?_⟩
   ·obtain⟨e6,h6,t6,⟨K',s6,rT⟩,z4,rfl⟩:=q;rw[b7,ag,aa] at hx;obtain⟨p,hp,rfl⟩:=hx;have oK:=aI hp;have mB:=(jW _ _ oK)
    have tk:(F t).take (j+1)=(F t).take j++[p]:=by rw[bu,hp];rfl
    obtain⟨S6,m6,wu,Dz,tI,tJ,rB⟩:=id s6;refine f7 ?_
    try show wpS _ _ _ _ _ _
    walk_at"";refine⟨Rt wu,?_⟩;walk_at"";refine z9 (k:=k+4) hT.nQ (by omega) ?_;walk_at"";have hsz:=s6.size;refine OI wu (by omega) ?_;walk_at"";have dC:=P5 ht mB.1;refine⟨⟨by simp;exact e6.len,λi hi=>by rw[ax (by omega)];exact e6.old i hi⟩,d0 h6 (by have:=e4.len;omega),d0 t6 (by omega),?_,_,rfl⟩;by_cases jh:S6 ((t |||2 ^ p:Nat):Int)=true
    ·refine⟨K',⟨_,_,get_set wu,by rw[aK jh];exact Dz,tI,tJ,λk=>?_⟩,λx=>?_⟩
     ·rw[cK,cq];constructor
      ·rintro(z|z)
       ·exact(rB k).mp z
       ·subst z;exact(rB _).mp jh
      ·exact λz=>.inl ((rB k).mpr z)
     ·rw[rT x,tk];simp only[List.mem_append,List.mem_singleton];constructor
      ·rintro(z|⟨q,z1,z2⟩)
       ·exact .inl z
       ·exact .inr ⟨q,.inl z1,z2⟩
      ·rintro(z|⟨q,z1|z1,z2⟩)
       ·exact .inl z
       ·exact .inr ⟨q,z1,z2⟩
       ·subst z1 z2;obtain⟨y,y1,y2⟩:=(rB _).mp jh;rw[<- rT,show(t |||2 ^ q)=y by omega];exact y1
    ·have zq:(t |||2 ^ p)∉K':=λz=>jh ((rB _).mpr ⟨_,z,rfl⟩);refine⟨K'++[t |||2 ^ p],⟨_,_,get_set wu,by rw[aC jh];simp[Dz],?_,λy hy=>?_,λk=>?_⟩,λx=>?_⟩
     ·rw[cu];exact⟨tI,by simp,λx hx y hy=>by cases aY.mp hy;exact λz=>zq (z▸hx)⟩
     ·rcases aV.mp hy with z|z
      ·exact tJ y z
      ·cases aY.mp z;exact dC
     ·rw[cK,cq,rB];simp only[List.mem_append,List.mem_singleton];constructor
      ·rintro(⟨y,y1,y2⟩|z)
       ·exact⟨y,.inl y1,y2⟩
       ·exact⟨_,.inr rfl,z⟩
      ·rintro⟨y,y1|y1,y2⟩
       ·exact .inl ⟨y,y1,y2⟩
       ·subst y1;exact .inr y2
     ·rw[aV,aY,rT x,tk];simp only[List.mem_append,List.mem_singleton];constructor
      ·rintro((z|⟨q,z1,z2⟩)|z)
       ·exact .inl z
       ·exact .inr ⟨q,.inl z1,z2⟩
       ·exact .inr ⟨p,.inr rfl,z⟩
      ·rintro(z|⟨q,z1|z1,z2⟩)
       ·exact .inl (.inl z)
       ·exact .inl (.inr ⟨q,z1,z2⟩)
       ·subst z1;exact .inr z2
   ·obtain⟨e6,h6,t6,⟨K',s6,rT⟩,z4,rfl⟩:=q;rw[b7,ak,bI] at rT
    try show wpS _ _ _ _ _ _
    walk_at"";refine⟨e6,⟨K',s6,λj=>(rT j).trans ?_⟩,⟨L++[t],t6,?_,λs=>?_,by simp;omega⟩,_,_,rfl⟩
    ·rw[hK j];constructor
     ·rintro((z|⟨s,p,h1,h2⟩)|⟨p,h1,h2⟩)
      ·exact .inl z
      ·exact .inr ⟨s,p,by omega,h2⟩
      ·exact .inr ⟨t,p,by omega,hR,h1,h2⟩
     ·rintro(z|⟨s,p,h1,h2,h3,h4⟩)
      ·exact .inl (.inl z)
      ·rcases cQ s t with y|y
       ·exact .inl (.inr ⟨s,p,y,h2,h3,h4⟩)
       ·have:s=t:=by omega
        subst this;exact .inr ⟨p,h3,h4⟩
    ·rw[yu];exact⟨pw,by simp,λx hx y hy=>by cases aY.mp hy;exact((hL x).mp hx).1⟩
    ·rw[aV,aY,hL s];constructor
     ·rintro(z|z)
      ·exact⟨by omega,z.2⟩
      ·subst z;exact⟨by omega,hR⟩
     ·rintro⟨z1,z2⟩;rcases cQ s t with y|y
      ·exact .inl ⟨y,z2⟩
      ·exact .inr (by omega)
 ·obtain⟨e3,⟨K,s3,hK⟩,⟨L,t3,pw,hL,uR⟩,z3,z4,rfl⟩:=q;rw[j4] at hL uR
  try show wpS _ _ _ _ _ _
  walk_at"";exact h L tl g' e3 (by omega) t3 pw (λs=>(hL s).trans ⟨λz=>z.2,λz=>⟨z.lt jW,z⟩⟩) (by omega)
theorem SM(hT:iJ T)(hF:TF T)(hW:TW T)(B:Bd g b cs v rs)(hz:cs.length<=9)(hr:rs.length<=900)(h:∀w g',Ex g g'->g.length<=w->Wy g' w cs v rs->Q (.ref w) g'):c5 T (k+7) 121 [.ref b] g Q E:=by
 refine call_of hW.Af rfl ?_;dsimp[Bm,c6,List.replicate];have jW:=E2 cs v rs;generalize nu:j8 cs v rs=F at *;obtain⟨w0,l0,dd,nb,f1,f2,f3,f4,f5⟩:=B.ex;have p2:=CZ hz;walk_at"";have e1:=Ex.snoc g (O.dN []);have w1:=b0 (g:=g) (o:=O.dN []);generalize g++[O.dN []]=g1 at *;refine u3 (a8 T _) (KQ ?_);walk_at"";refine Hc (k:=k) hT hF hW.nS (B.at e1) hz hr λL l g2 e2 hl h2 pw hL uR=>?_;rw[nu] at hL;have lw:=j7 w1;have Kt:L.reverse.Pairwise (· > ·):=List.pairwise_reverse.mpr pw;have yZ:(b7 L).length=L.length:=by simp[b7]
 refine⟨l,_,rfl,a7 h2,(b7 L).reverse,λi Z g'=>Ex g g'/\g'[l]?=some (.lst (b7 L))/\(∃kvs,g'[g.length]?=some (.dN kvs)/\kvs.length<=i/\∀s∈L.reverse.take i,p6 kvs (kN s)=some (.int ((i8 cs.length F s).length:Nat)))/\∃z2,Z=[some (.ref b),some (.ref g.length),z2],λi Z g' q=>Ou (a7 q.2.1),⟨e1.trans e2,h2,⟨[],e2.at w1,by simp,by simp⟩,none,rfl⟩,λi x Z g' hx q=>?_,λZ g' q=>?_⟩
 ·obtain⟨e3,h3,⟨kvs,w3,hk,uA⟩,z2,rfl⟩:=q;rw[b7,<- List.map_reverse,ag,aa] at hx;obtain⟨s,hs,rfl⟩:=hx;have Es:i<L.length:=by have:=(ao.mp hs).1;simpa using this
  have Eg:jk F s:=(hL s).mp (kQ.mp (aI hs));have oI:=Eg.lt jW;have tk:L.reverse.take (i+1)=L.reverse.take i++[s]:=by rw[bu,hs];rfl
  have fin:∀(N:Ends) g4 z2,Ex g' g4->(∀g5,(Ex g g5/\g5[l]?=some (.lst (b7 L))/\(∃kvs,g5[g.length]?=some (.dN kvs)/\kvs.length<=i+1/\∀s∈L.reverse.take (i+1),p6 kvs (kN s)=some (.int ((i8 cs.length F s).length:Nat)))/\∃z2,([some (.ref b),some (.ref g.length),z2]:S)=[some (.ref b),some (.ref g.length),z2])->N.nx [some (.ref b),some (.ref g.length),z2] g5)->U9 (.ref g.length) (.int (s:Nat)) (.int ((i8 cs.length F s).length:Nat)) g4 λg5=>N.nx [some (.ref b),some (.ref g.length),z2] g5:=λN g4 z2 e4 hN=>by
   refine Jr (e4.at w3) rfl (by omega) ?_;refine hN _ ⟨⟨by simp;exact(e3.trans e4).len,λj hj=>by rw[ax (by omega)];exact(e3.trans e4).old j hj⟩,d0 (e4.at h3) (by omega),⟨_,get_set (e4.at w3),aD a19 (by omega),λs' Ei=>?_⟩,z2,rfl⟩;rw[tk] at Ei;by_cases zi:s'=s
   ·subst zi;exact a20
   ·refine(XF (Vs (bE zi))).trans (uA s' ?_);rcases aV.mp Ei with z|z
    ·exact z
    ·exact absurd (aY.mp z) zi
  refine f7 ?_
  try show wpS _ _ _ _ _ _
  walk_at"";refine S7 (e3.at f1) rfl ?_;walk_at"";have ed:decide (((s:Nat):Int)=((2 ^ cs.length-1:Nat):Int))=decide (s=2 ^ cs.length-1):=dO.mpr (by omega);rw[ed];refine if2 (λc1=>?_) (λc1=>?_)
  ·walk_at"";have e1:(1:Int)=((i8 cs.length F s).length:Nat):=by rw[N1 c1];rfl
   rw[e1];exact fin _ _ _ (Ex.refl _) λg5 z=>⟨z.1,z.2.1,z.2.2.1,_,rfl⟩
  ·walk_at"";refine BD (a8 T _) (kx (a8 T _) ?_);walk_at"";refine S5 (k:=k+1) hT hF (B.at e3) hz hr oI λg4 fl e4 LO h4=>?_;rw[nu] at h4;refine⟨fl,_,rfl,a7 h4,b7 (F s),λZ=>∃z2 z3,Z=[some (.int (s:Nat)),some (.ref g.length),z2,z3],λi=>.int ((i8 cs.length F (s |||2 ^ ((F s).getD i 0))).length:Nat),λg' e=>k6 (a7 (e.at h4)),?_,⟨none,none,rfl⟩,λj d Z g5 hx e5 sh=>?_,λg5 e5=>?_⟩
   ·have:(F s).length<=cs.length:=by rw[<- nu];exact C4
    simp[b7];omega
   ·obtain⟨z2,z3,rfl⟩:=sh;rw[b7,ag,aa] at hx;obtain⟨p,hp,rfl⟩:=hx;have oK:=aI hp;have mB:=jW _ _ oK;refine f7 ?_
    try show aO _ _ _ _ _ _
    walk_at"";refine z9 (k:=k+5) hT.nQ (by omega) ?_;have hv:p6 kvs (kN (s |||2 ^ p))=some (.int ((i8 cs.length F (s |||2 ^ p)).length:Nat)):=by
     refine uA _ (Yr Kt hs (kQ.mpr ((hL _).mpr (.step Eg oK))) (vG mB.2))
    refine yk ((e4.trans e5).at w3) rfl hv ?_;exact⟨by simp[List.getD,hp],e5,_,_,rfl⟩
   ·have el:(List.range (b7 (F s)).length).map (λi=>D.int ((i8 cs.length F (s |||2 ^ ((F s).getD i 0))).length:Nat))=(((F s).map λp=>(i8 cs.length F (s |||2 ^ p)).length).map λ(n:Nat)=>(n:Int)).map D.int:=by
     refine cw λi=>?_;rw[ag,ag,ag,ag];by_cases hi:i<(F s).length
     ·rw[bA (by simpa[b7] using hi),aj hi];simp[List.getD,hi]
     ·rw[aJ (by simpa[b7] using hi),aJ (by omega)]
      rfl
    rw[el];refine Jw (a7 b0) ?_;have es:(((F s).map λp=>(i8 cs.length F (s |||2 ^ p)).length).map λ(n:Nat)=>(n:Int)).sum=((i8 cs.length F s).length:Nat):=by
     rw[SK jW oI c1];generalize (F s).map (λp=>(i8 cs.length F (s |||2 ^ p)).length)=m
     induction m with
     |nil=>rfl
     |cons x r ih=>simp[ih]
    rw[es];walk_at"";exact fin _ _ _ (e4.trans (e5.trans (Ex.snoc _ _))) λg6 z=>⟨z.1,z.2.1,z.2.2.1,_,rfl⟩
 ·obtain⟨e3,h3,⟨kvs,w3,hk,uA⟩,z2,rfl⟩:=q;rw[List.length_reverse,yZ,gT (by simp)] at uA
  try show wpS _ _ _ _ _ _
  walk_at"";refine h _ _ e3 (aw _) ⟨⟨kvs,w3,λs hs=>?_⟩⟩;rw[nu] at hs ⊢;exact uA s (kQ.mpr ((hL s).mpr hs))
end
structure TN(T:Nat->Option ba):Prop where
 qu:T 122=some xX
 Ae:T 123=some L9
section
variable{T:Nat->Option ba}{k d:Nat}{g g':G}{Q:KD}{E:KX}{a b c r w:Nat}{cs:List a9}{rs:List eX}{v:Int}
theorem YG(hT:iJ T)(hF:TF T)(qu:T 122=some xX)(B:Bd g b cs v rs)(W:Wy g w cs v rs)(hz:cs.length<=9)(hr:rs.length<=900){s m:Nat}(hs:jk (j8 cs v rs) s)(dG:s≠2 ^ cs.length-1)(hm:m<(i8 cs.length (j8 cs v rs) s).length)(h:∀(p l:Nat) g',Ex g g'->p∈j8 cs v rs s->l<(i8 cs.length (j8 cs v rs) (s |||2 ^ p)).length->(i8 cs.length (j8 cs v rs) s)[m]?=((i8 cs.length (j8 cs v rs) (s |||2 ^ p))[l]?).map (p::·)->Q (.tup [.int (p:Nat),.int (l:Nat)]) g'):c5 T (k+6) 122 [.ref b,.ref w,.int (s:Nat),.int (m:Nat)] g Q E:=by
 refine call_of qu rfl ?_;dsimp[xX,c6,List.replicate];have jW:=E2 cs v rs;have oI:=hs.lt jW;have eo:=W7 jW oI dG;walk_at"";refine S5 (k:=k) hT hF B hz hr oI λg1 ch e1 _ kH=>?_;generalize nu:j8 cs v rs=F at *;obtain⟨kvs,w1,w2⟩:=W.ex;rw[nu] at w2;walk_at"";generalize Ez:(λp=>(i8 cs.length F (s |||2 ^ p)).map (p::·))=f at *;have vc:∀p,(f p).length=(i8 cs.length F (s |||2 ^ p)).length:=λp=>by rw[<- Ez];simp
 rw[eo] at hm;have Kw:0<(F s).length:=by
  cases hl:F s with
  |nil=>rw[hl] at hm;simp at hm
  |cons _ _=>simp
 refine IP (λmm Z g'=>Ex g1 g'/\∃j lf:Nat,Z=[some (.ref b),some (.ref w),some (.int (s:Nat)),some (.int (m:Nat)),some (.ref ch),some (.int (lf:Nat)),some (.int (j:Nat))]/\j<(F s).length/\mm=(F s).length-j/\m=(((F s).take j).flatMap f).length+lf/\lf<(((F s).drop j).flatMap f).length) _ ⟨Ex.refl _,0,m,rfl,Kw,rfl,by simp,by simpa using hm⟩ (λmm Z g' q=>?_) (a8 T _);obtain⟨e2,j,lf,rfl,hj,rfl,mD,qe⟩:=q;have hx:=aj hj;generalize (F s)[j]=p at hx;have oK:=aI hx;have mB:=jW _ _ oK;have hv:p6 kvs (kN (s |||2 ^ p))=some (.int ((f p).length:Nat)):=by rw[vc];exact w2 _ (.step hs oK)
 have AU:fL (b7 (F s)) (j:Int)=some (.int (p:Nat)):=B8 (by rw[b7,ag,hx];rfl);have sp:=Ye (f:=f) hx lf;have mU:=e1.trans e2;walk_at"";refine m7 (a7 (e2.at kH)) AU ?_;walk_at"";refine z9 (k:=k+4) hT.nQ (by omega) ?_;refine yk (mU.at w1) rfl hv ?_;walk_at"";by_cases hc:(f p).length<=lf
 ·refine hJ (aA (by omega)) ?_;walk_at"";refine Ic rfl ?_;walk_at"";refine m7 (a7 (e2.at kH)) AU ?_;walk_at"";refine z9 (k:=k+4) hT.nQ (by omega) ?_;refine yk (mU.at w1) rfl hv ?_;refine Ot ?_;walk_at"";refine Ic rfl ?_;walk_at"";refine Oj ?_;have tk:(F s).take (j+1)=(F s).take j++[p]:=by rw[bu,hx];rfl
  rw[sp.2,aZ] at qe;have nO:j+1<(F s).length:=by
   rcases cQ (j+1) (F s).length with z|z
   ·exact z
   ·rw[eU z] at qe;simp at qe;omega
  refine⟨_,?_,e2,j+1,lf-(f p).length,?_,nO,rfl,?_,by omega⟩
  ·omega
  ·have e1:((lf:Nat):Int)-((f p).length:Nat)=((lf-(f p).length:Nat):Int):=by omega
   have e2:((j:Nat):Int)+1=((j+1:Nat):Int):=by omega
   rw[e1,e2]
   rfl
  ·rw[tk,jo,aZ,bY,List.flatMap_nil,eG];omega
 ·refine fK (az (by omega)) ?_;walk_at"";refine m7 (a7 (e2.at kH)) AU ?_;walk_at"";refine h p lf g' mU oK (by rw[vc] at hc;omega) ?_;rw[eo,mD,sp.1,sp.2,aF (by omega),<- Ez];simp
theorem Zc(hT:iJ T)(hF:TF T)(hN:TN T)(B:Bd g b cs v rs)(W:Wy g w cs v rs)(hz:cs.length<=9)(hr:rs.length<=900){m:Nat}{o:List Nat}(hm:(i8 cs.length (j8 cs v rs) 0)[m]?=some o)(h:∀l g',Ex g g'->g.length<=l->g'[l]?=some (.lst (b7 o))->Q (.ref l) g'):c5 T (k+7) 123 [.ref b,.ref w,.int (m:Nat)] g Q E:=by
 refine call_of hN.Ae rfl ?_;dsimp[L9,c6,List.replicate];have jW:=E2 cs v rs;obtain⟨w0,l0,dd,nb,f1,f2,f3,f4,f5⟩:=B.ex;have p2:=CZ hz;walk_at"";have e1:=Ex.snoc g (O.lst []);have h1:=b0 (g:=g) (o:=O.lst []);generalize g++[O.lst []]=g1 at *;refine IP (λmm Z g'=>Ex g g'/\∃(s lf:Nat) (p:List Nat) (z6:Option D),Z=[some (.ref b),some (.ref w),some (.int (m:Nat)),some (.ref g.length),some (.int (s:Nat)),some (.int (lf:Nat)),z6]/\mm=2 ^ cs.length-s/\jk (j8 cs v rs) s/\lf<(i8 cs.length (j8 cs v rs) s).length/\some o=((i8 cs.length (j8 cs v rs) s)[lf]?).map (p++·)/\g'[g.length]?=some (.lst (b7 p))/\p.length<=s) _ ⟨e1,0,m,[],none,rfl,rfl,.zero,(ao.mp hm).1,by rw[hm];rfl,h1,by simp⟩ (λmm Z g' q=>?_) (a8 T _);obtain⟨e2,s,lf,p,z6,rfl,rfl,hs,qe,ho,hp,gA⟩:=q;have oI:=hs.lt jW;walk_at"";refine S7 (e2.at f1) rfl ?_;walk_at"";have ed:decide (((s:Nat):Int)=((2 ^ cs.length-1:Nat):Int))=decide (s=2 ^ cs.length-1):=dO.mpr (by omega);rw[ed];by_cases dG:s=2 ^ cs.length-1
 ·refine fK (by rw[aA dG];rfl) ?_;walk_at"";rw[N1 dG] at qe ho;have:lf=0:=by simp at qe;omega
  subst this;have:o=p:=by simpa using ho
  subst this;exact h _ _ e2 (aw _) hp
 ·refine hJ (by rw[az dG];rfl) ?_;walk_at"";refine YG (k:=k) hT hF hN.qu (B.at e2) (W.at e2) hz hr hs dG qe λq l g3 e3 hq hl Lm=>?_;refine A5 rfl ?_
  try show wpS _ _ _ _ _ _
  have El:=jW _ _ hq;have zk:=e3.at hp;walk_at""
  try refine⟨X0 zk,?_⟩
  walk_at"";refine O7 zk (by simp[b7];omega) ?_;walk_at"";refine z9 (k:=k+5) hT.nQ (by omega) ?_;walk_at"";have hgt:=vG El.2;have rZ:=e2.trans e3;refine⟨_,?_,⟨by simp;exact rZ.len,λi hi=>by rw[ax (by omega)];exact rZ.old i hi⟩,s |||2 ^ q,l,p++[q],_,rfl,rfl,.step hs hq,hl,?_,?_,by simp;omega⟩
  ·omega
  ·rw[ho,Lm];simp[Option.map_map,Function.comp_def]
  ·rw[get_set zk];simp[b7]
theorem Ws(hT:iJ T)(hF:TF T)(hW:TW T)(hN:TN T)(mP:T 124=some I9)(B:Bd g b cs v rs)(hz:cs.length<=9)(hr:rs.length<=900)(h1:i8 cs.length (j8 cs v rs) 0=[]->∀g',Ex g g'->Q .bC g')(h2:∀o l g',(i8 cs.length (j8 cs v rs) 0)[0]?=some o->Ex g g'->g.length<=l->g'[l]?=some (.lst (b7 o))->Q (.ref l) g'):c5 T (k+8) 124 [.ref b] g Q E:=by
 refine call_of mP rfl ?_;dsimp[I9,c6,List.replicate];walk_at"";refine SM (k:=k) hT hF hW B hz hr λw g1 e1 hw W=>?_;walk_at"";obtain⟨kvs,w1,w2⟩:=W.ex;refine yk w1 rfl (w2 0 .zero) ?_;walk_at"";cases ho:i8 cs.length (j8 cs v rs) 0 with
 |nil =>
  refine hJ (by simp) ?_;walk_at"";exact h1 ho _ e1
 |cons o r =>
  refine fK (by simp;omega) ?_;walk_at"";exact Zc (k:=k) hT hF hN (m:=0) (B.at e1) W hz hr (by rw[ho];rfl) λl g2 e2 hl h=>h2 o l g2 (by rw[ho];rfl) (e1.trans e2) (aD e1.len hl) h
end
def P0:ba:=⟨3,8,(.seq (.set 3 (du .lst (.prim .lst .nil))) (.seq (.de (.one 4) (.dS (du .len aL)) (.seq (.set 5 (.prim .lst .nil)) (.seq (.de (.one 6) (.eO bP) (.seq (.de (.one 7) (.dS (du .len aL)) (.seq (.ifs (.dy (dJ .NotIn fV eM) (dJ .Eq (.call 108 (tB aL bh bp eM fV)) (gN ""))) (.seq (.expr (.eE .append dR (fb (bW (.bin .Add) eM (du .lst fV))))) .pass) .pass) .pass)) .pass)) (.seq (.set 3 dR) .pass)))) (.seq (.ret bP) .pass)))⟩
def fz(r:List Nat):Nat:=r.foldl (λs p=>s |||2 ^ p) 0
theorem FY(r:List Nat)(p:Nat):fz (r++[p])=fz r |||2 ^ p:=by simp[fz,List.foldl_append]
theorem L7(r:List Nat)(i:Nat):(fz r).testBit i=decide (i∈r):=by
 have:∀(r:List Nat) (s:Nat),(r.foldl (λs p=>s |||2 ^ p) s).testBit i=(s.testBit i||decide (i∈r)):=by
  intro r
  induction r with
  |nil=>intro s;simp
  |cons p r ih =>
   intro s;rw[lV,ih,Q3,Bool.or_assoc,aU];simp
 rw[fz,this];simp
theorem Qo{n:Nat}:∀{r:List Nat},(∀i∈r,i<n)->fz r<2 ^ n:=λ{r} h=>by
 have:∀(r:List Nat) (s:Nat),(∀i∈r,i<n)->s<2 ^ n->r.foldl (λs p=>s |||2 ^ p) s<2 ^ n:=by
  intro r
  induction r with
  |nil=>intro s _ hs;exact hs
  |cons p r ih=>intro s h hs;exact ih _ (λi hi=>h i (by simp[hi])) (P5 hs (h p (by simp)))
 exact this r 0 h (lT _)
def o6(F:Nat->List Nat):Nat->List (List Nat)
 |0=>[[]]
 |t+1=>(o6 F t).flatMap λr=>(F (fz r)).map λp=>r++[p]
theorem K1{n:Nat}{F:Nat->List Nat}(hF:FG n F):∀{t:Nat} {r:List Nat},r∈o6 F t->r.length=t/\r.Nodup/\∀i∈r,i<n
 |0,r,h=>by
  cases aY.mp h;simp
 |t+1,r,h=>by
  obtain⟨r0,h0,h1⟩:=List.mem_flatMap.mp h;obtain⟨p,hp,rfl⟩:=aQ.mp h1;obtain⟨g1,g2,g3⟩:=K1 hF h0;have mB:=hF _ _ hp;rw[L7] at mB;refine⟨by simp[g1],?_,λi hi=>?_⟩
  ·rw[cu];exact⟨g2,by simp,λx hx y hy=>by cases aY.mp hy;exact λz=>(by simpa using mB.2:p∉r0) (z▸hx)⟩
  ·rcases aV.mp hi with z|z
   ·exact g3 i z
   ·cases aY.mp z;exact mB.1
theorem HC{n:Nat}{r:List Nat}(h:r.Nodup)(hl:r.length=n)(hr:∀i∈r,i<n){i:Nat}(hi:i<n):i∈r:=by
 refine om λhn=>?_;have:=P8 (l:=i::r) (m:=List.range n) (dA.mpr ⟨hn,h⟩) λx hx=>by
  rcases aE.mp hx with rfl|hx
  ·exact aT.mpr hi
  ·exact aT.mpr (hr x hx)
 simp at this;omega
theorem FX{n:Nat}{r:List Nat}(h:r.Nodup)(hr:∀i∈r,i<n):fz r=2 ^ n-1↔r.length=n:=by
 constructor
 ·intro e;have:∀i,i<n->i∈r:=λi hi=>by
   have:=L7 r i;rw[e,ng,aA hi] at this;exact bt this.symm
  have h1:=P8 (l:=List.range n) (m:=r) gE λi hi=>this i (aT.mp hi);have h2:=P8 (l:=r) (m:=List.range n) h λi hi=>aT.mpr (hr i hi);simp at h1 h2;omega
 ·intro hl;refine yt λi=>?_;rw[L7,ng];refine dO.mpr ⟨hr i,λhi=>HC h hl hr hi⟩
theorem GD{n:Nat}{F:Nat->List Nat}(hF:FG n F):∀{t:Nat},t<=n->(o6 F t).flatMap (λr=>(i8 n F (fz r)).map (r++·))=i8 n F 0
 |0,_=>by simp[o6,fz]
 |t+1,ht=>by
  rw[<- GD hF (show t<=n by omega),o6,List.flatMap_assoc];refine B6 λr hr=>?_;obtain⟨g1,g2,g3⟩:=K1 hF hr;have dG:fz r≠2 ^ n-1:=λz=>by have:=(FX g2 g3).mp z;omega
  rw[W7 hF (Qo g3) dG,List.map_flatMap,List.flatMap_map];refine B6 λp hp=>?_;rw[FY,cb];refine List.map_congr_left λo _=>?_;simp
theorem Bx{n:Nat}{F:Nat->List Nat}(hF:FG n F):o6 F n=i8 n F 0:=by
 rw[<- GD hF (aw n)];have:∀(l:List (List Nat)),(∀r∈l,r∈o6 F n)->l.flatMap (λr=>(i8 n F (fz r)).map (r++·))=l:=by
  intro l
  induction l with
  |nil=>intro _;rfl
  |cons r l ih =>
   intro h;obtain⟨g1,g2,g3⟩:=K1 hF (h r (by simp));rw[bY,ih λx hx=>h x (by simp[hx]),N1 ((FX g2 g3).mpr g1)];simp
 exact(this _ λ_ h=>h).symm
theorem xV{α β:Type}{f:α->List β}{m:Nat}:∀{l:List α},(∀x∈l,(f x).length<=m)->(l.flatMap f).length<=l.length*m
 |[],_=>by simp
 |x::r,h=>by
  rw[bY,aZ,cN,Nat.succ_mul];have h1:=h x (by simp);have h2:=xV (l:=r) λy hy=>h y (by simp[hy]);omega
theorem FT{n:Nat}{F:Nat->List Nat}(hF:∀s,(F s).length<=n):∀t,(o6 F t).length<=n ^ t
 |0=>by simp[o6]
 |t+1=>by
  rw[o6,sT];refine aD (xV (m:=n) λr _=>by rw[ak];exact hF _) ?_;exact iS _ (FT hF t)
structure lA(g:G)(l:Nat)(X:List (List Nat)):Prop where
 ex:∃bs:List Nat,g[l]?=some (.lst (bs.map .ref))/\bs.length=X.length/\(∀b∈bs,b≠l)/\∀(i:Nat) (o:List Nat),X[i]?=some o->∃b:Nat,bs[i]?=some b/\g[b]?=some (.lst (b7 o))
theorem lA.at{g g':G}{l:Nat}{X:List (List Nat)}(h:lA g l X)(e:Ex g g'):lA g' l X :=
 let ⟨bs,h1,h2,h3,h4⟩:=h.ex
 ⟨⟨bs,e.at h1,h2,h3,λi o hi=>let ⟨b,b1,b2⟩:=h4 i o hi;⟨b,b1,e.at b2⟩⟩⟩
theorem lA.add{g:G}{l b:Nat}{X:List (List Nat)}{o:List Nat}{m:List D}(h:lA g l X)(hm:g[l]?=some (.lst m))(hb:g[b]?=some (.lst (b7 o)))(hn:b≠l):lA (g.set l (.lst (m++[.ref b]))) l (X++[o]):=by
 obtain⟨bs,h1,h2,h3,h4⟩:=h.ex;have e:m=bs.map .ref:=by rw[h1] at hm;injection hm with z;injection z with z;exact z.symm
 refine⟨⟨bs++[b],by rw[get_set hm,e];simp,by simp[h2],λx hx=>?_,λi o' hi=>?_⟩⟩
 ·rcases aV.mp hx with z|z
  ·exact h3 x z
  ·cases aY.mp z;exact hn
 ·rcases dF i X.length with z|z|z
  ·rw[aF z] at hi;obtain⟨b',b1,b2⟩:=h4 i o' hi;exact⟨b',by rw[aF (by omega)];exact b1,d0 b2 (bE (h3 b' (aI b1)))⟩
  ·subst z;have:o'=o:=by simpa using hi.symm
   subst this;exact⟨b,by rw[cv (by omega)];simp[h2],d0 hb (bE hn)⟩
  ·rw[aJ (by simp;omega)] at hi;cases hi
section
variable{T:Nat->Option ba}{k d:Nat}{g g':G}{Q:KD}{E:KX}{a b c r w:Nat}{cs:List a9}{rs:List eX}{v:Int}
theorem Wc(hT:qZ T)(qr:T 150=some P0)(hB:∀c∈cs,CB c)(ha:g[a]?=some (.lst (cs.map a9.d)))(hz:cs.length<=5)(hc:g[c]?=some (.lst (u6 rs)))(hr:rs.length<=900)(h:∀l g',Ex g g'->g.length<=l->lA g' l (i8 cs.length (j8 cs v rs) 0)->Q (.ref l) g'):c5 T (k+3) 150 [.ref a,.int v,.ref c] g Q E:=by
 refine call_of qr rfl ?_;dsimp[P0,c6,List.replicate];have jW:=E2 cs v rs;rw[<- Bx jW] at h;have EN:∀s,(j8 cs v rs s).length<=cs.length:=λs=>C4;generalize nu:j8 cs v rs=F at *;have rl:∀t,t<=cs.length->(o6 F t).length<=3125:=λt ht=>by
  refine aD (FT EN t) (aD (Nat.pow_le_pow_left hz t) ?_);exact aD (iR (by omega) (show t<=5 by omega)) (by decide)
 walk_at"";have e1:=(Ex.snoc g (O.lst [])).trans (Ex.snoc _ (O.lst [D.ref g.length]));have R1:lA ((g ++ [O.lst []]) ++ [O.lst [D.ref g.length]]) (g ++ [O.lst []]).length (o6 F 0):=⟨⟨[g.length],b0,rfl,by simp,λi o hi=>by
  match i,hi with
  |0,hi=>cases hi;exact⟨g.length,rfl,(Ex.snoc _ _).at b0⟩
  | i + 1,hi=>simp [o6] at hi⟩⟩
 have l1:g.length<=(g++[O.lst []]).length:=by simp
 generalize (g++[O.lst []])++[O.lst [D.ref g.length]]=g1 at *;generalize (g++[O.lst []]).length=r0 at *;refine u3 (a8 T _) (S4 (a8 T _) ?_);walk_at"";refine F6 (a7 (e1.at ha)) ?_;refine⟨_,rfl,by omega,by simp;omega,i0 0 cs.length,λt Z g'=>Ex g g'/\∃(l:Nat) (z4 z5 z6 z7:Option D),g.length<=l/\lA g' l (o6 F t)/\Z=[some (.ref a),some (.int v),some (.ref c),some (.ref l),z4,z5,z6,z7],λ_ _ _ _=>by simp only[List.length_map,Int.toNat_natCast];exact n8,⟨e1,r0,none,none,none,none,l1,R1,rfl⟩,λt x Z g' hx q=>?_,λZ g' q=>?_⟩
 ·obtain⟨e2,l,z4,z5,z6,z7,hl,R2,rfl⟩:=q;obtain⟨ht,rfl⟩:=t8 hx;refine f7 ?_
  try show wpS _ _ _ _ _ _
  walk_at"";obtain⟨as,GG,vA,as3,Wm⟩:=R2.ex;have e3:=Ex.snoc g' (O.lst []);have h3:=b0 (g:=g') (o:=O.lst []);have N3:lA (g'++[O.lst []]) g'.length []:=⟨⟨[],b0,rfl,by simp,λi o hi=>by simp at hi⟩⟩
  generalize g'++[O.lst []]=g3 at *;have ll:g.length<=g'.length:=e2.len;refine u3 (a8 T _) (kx (a8 T _) ?_);walk_at"";refine⟨l,_,rfl,a7 (e3.at GG),as.map .ref,λi Z g4=>Ex g' g4/\lA g4 g'.length (((o6 F t).take i).flatMap λr=>(F (fz r)).map λp=>r++[p])/\∃z6 z7,Z=[some (.ref a),some (.int v),some (.ref c),some (.ref l),some (.int (0+(t:Nat))),some (.ref g'.length),z6,z7],λi Z g4 q=>k6 (a7 (q.1.at GG)),⟨e3,N3,z6,z7,rfl⟩,λi x Z g4 hx q=>?_,λZ g4 q=>?_⟩
  ·obtain⟨e4,R4,z6,z7,rfl⟩:=q;rw[ag,aa] at hx;obtain⟨ra,Ej,rfl⟩:=hx;have hi:i<(o6 F t).length:=by rw[<- vA];exact(ao.mp Ej).1
   have wL:=aj hi;generalize (o6 F t)[i]=ro at wL;obtain⟨rb,uv,lg⟩:=Wm i ro wL;have:rb=ra:=by rw[Ej] at uv;injection uv with z;exact z.symm
   subst this;obtain⟨g1',MQ,MP⟩:=K1 jW (aI wL);have hS:∀j,j<cs.length->jB ro j=(fz ro).testBit j:=λj _=>(L7 ro j).symm;have Ld:rb<g'.length:=j7 lg;have Kb:(o6 F t).take (i+1)=(o6 F t).take i++[ro]:=by rw[bu,wL];rfl
   have size:(((o6 F t).take i).flatMap λr=>(F (fz r)).map λp=>r++[p]).length<=3125*5:=by
    refine aD (xV (m:=5) λr _=>by rw[ak];exact aD (EN _) hz) ?_;refine iS _ ?_;rw[cj];have:=rl t (by omega);omega
   refine f7 ?_
   try show wpS _ _ _ _ _ _
   walk_at"";refine u3 (a8 T _) (S4 (a8 T _) ?_);walk_at"";have Nd:=e2.trans e4;refine F6 (a7 (Nd.at ha)) ?_;refine⟨_,rfl,by omega,by simp;omega,i0 0 cs.length,λj Z g5=>Ex g' g5/\lA g5 g'.length ((((o6 F t).take i).flatMap λr=>(F (fz r)).map λp=>r++[p])++((List.range j).filter (A3 cs v rs (fz ro))).map λp=>ro++[p])/\∃z7,Z=[some (.ref a),some (.int v),some (.ref c),some (.ref l),some (.int (0+(t:Nat))),some (.ref g'.length),some (.ref rb),z7],λ_ _ _ _=>by simp only[List.length_map,Int.toNat_natCast];exact n8,⟨e4,by simpa using R4,z7,rfl⟩,λj x Z g5 hx q=>?_,λZ g5 q=>?_⟩
   ·obtain⟨e5,R5,z7,rfl⟩:=q;obtain⟨hj,rfl⟩:=t8 hx;rw[dQ];have qE:=e2.trans e5;have es:(List.range (j+1)).filter (A3 cs v rs (fz ro))=(List.range j).filter (A3 cs v rs (fz ro))++if A3 cs v rs (fz ro) j=true then[j] else[]:=by
     rw[fC,dn]
     congr 1
     cases z:A3 cs v rs (fz ro) j<;>simp only[List.filter_cons,z,List.filter_nil]<;>rfl
    have skip:A3 cs v rs (fz ro) j=false->∀g6,Ex g5 g6->lA g6 g'.length ((((o6 F t).take i).flatMap λr=>(F (fz r)).map λp=>r++[p])++((List.range (j+1)).filter (A3 cs v rs (fz ro))).map λp=>ro++[p]):=λhz g6 e6=>by
     rw[es,hz,aC (by decide),eG];exact R5.at e6
    refine f7 ?_
    try show wpS _ _ _ _ _ _
    walk_at"";refine sA (Bh (e5.at lg) ?_);walk_at"";have uL:=L7 ro j;by_cases jh:j∈ro
    ·rw[aA jh];refine fK rfl ?_;walk_at"";refine⟨e5,skip ?_ _ (Ex.refl _),_,rfl⟩;unfold A3;rw[uL,aA jh]
     rfl
    ·rw[az jh];refine hJ rfl ?_;walk_at"";refine Xj (k:=k) hT hB (qE.at ha) (by omega) (qE.at hc) hr (e5.at lg) MP (by omega) hj λg6 e6=>?_;rw[YY hS];walk_at"";have EA:A3 cs v rs (fz ro) j=decide (fault cs v rs (fz ro).testBit j=""):=by unfold A3;rw[uL,az jh];rfl
     refine if2 (λc1=>?_) (λc1=>?_)
     ·walk_at"";have R6:=R5.at e6;obtain⟨bs,b1,b2,b3,b4⟩:=R6.ex;refine⟨X0 b1,?_⟩;walk_at"";have ur:=(e5.trans e6).at lg;have s7:=b0 (g:=g6) (o:=O.lst [D.int (j:Nat)]);refine xl ((Ex.snoc _ _).at ur) s7 (by simp[b7];omega) ?_;have e8:=(Ex.snoc g6 (O.lst [D.int (j:Nat)])).trans (Ex.snoc _ (O.lst (b7 ro++[D.int (j:Nat)])));have s8:=b0 (g:=g6++[O.lst [D.int (j:Nat)]]) (o:=O.lst (b7 ro++[D.int (j:Nat)]));have l8:g'.length<(g6++[O.lst [D.int (j:Nat)]]).length:=by have:=e5.len;have:=e6.len;simp;omega
      generalize (g6++[O.lst [D.int (j:Nat)]])++[O.lst (b7 ro++[D.int (j:Nat)])]=g8 at *;generalize (g6++[O.lst [D.int (j:Nat)]]).length=nb at *;walk_at"";have bl:bs.length<=20000:=by
       rw[b2,aZ,ak];have:=@C4 j (A3 cs v rs (fz ro));omega
      refine O7 (e8.at b1) (by simp;omega) ?_;walk_at"";have Fh:=e5.trans (e6.trans e8);refine⟨⟨by simp;exact Fh.len,λq hq=>by rw[ax (by omega)];exact Fh.old q hq⟩,?_,_,rfl⟩;have:=(R6.at e8).add (e8.at b1) (b:=nb) (o:=ro++[j]) (by rw[s8];simp[b7]) (by omega);rw[es,aK (by rw[EA];exact aA c1),dB,<- eV];exact this
     ·walk_at"";exact⟨e5.trans e6,skip (by rw[EA];exact az c1) _ e6,_,rfl⟩
   ·obtain⟨e5,R5,z7,rfl⟩:=q;rw[j4] at R5
    try show wpS _ _ _ _ _ _
    try walk_at""
    refine⟨e5,?_,_,_,rfl⟩;rw[Kb,jo];have:(List.range cs.length).filter (A3 cs v rs (fz ro))=F (fz ro):=by rw[<- nu];rfl
    rw[this] at R5;simpa using R5
  ·obtain⟨e4,R4,z6,z7,rfl⟩:=q;rw[ak,vA,bI] at R4
   try show wpS _ _ _ _ _ _
   walk_at"";exact⟨e2.trans e4,g'.length,_,_,_,_,ll,R4,rfl⟩
 ·obtain⟨e2,l,z4,z5,z6,z7,hl,R2,rfl⟩:=q;rw[j4] at R2
  try show wpS _ _ _ _ _ _
  walk_at"";exact h l g' e2 hl R2
end
def unset(n s:Nat):List Nat:=(List.range n).filter λp=>!s.testBit p
def lM(q:Nat->Nat->Bool):Nat->List Nat->Bool
 |_,[]=>true
 |s,p::r=>q s p&&lM q (s |||2 ^ p) r
theorem Hi{α β:Type}{f:α->List β}{q:α->Bool}:∀l:List α,(l.filter q).flatMap f=l.flatMap λx=>if q x=true then f x else[]
 |[]=>rfl
 |x::r=>by
  rw[bY,<- Hi r];cases h:q x
  ·rw[List.filter_cons_of_neg (by rw[h];decide),aC (by decide)]
   rfl
  ·rw[List.filter_cons_of_pos h,aK rfl,bY]
theorem Hj{α β:Type}{f:α->List β}{q:β->Bool}:∀l:List α,(l.flatMap f).filter q=l.flatMap λx=>(f x).filter q
 |[]=>rfl
 |x::r=>by rw[bY,dn,Hj r,bY]
theorem Ho{n:Nat}{F F':Nat->List Nat}{q:Nat->Nat->Bool}(hF:FG n F)(hq:∀s,F' s=(F s).filter (q s)):∀(m s:Nat),2 ^ n-s<=m->s<2 ^ n->i8 n F' s=(i8 n F s).filter (lM q s)
 |0,s,hm,hs=>by omega
 |m+1,s,hm,hs=>by
  have Mj:FG n F':=λs p hp=>hF s p (bj.mp (hq s▸hp)).1;by_cases e:s=2 ^ n-1
  ·rw[N1 e,N1 e]
   rfl
  ·rw[W7 Mj hs e,W7 hF hs e,hq,Hi,Hj];refine B6 λp hp=>?_;have mB:=hF s p hp;have ih:=Ho hF hq m (s |||2 ^ p) (by have:=vG mB.2;omega) (P5 hs mB.1);rw[List.filter_map];cases Ek:q s p
   ·rw[aC (by decide)];have:(lM q s ∘ λx=>p::x)=λ_=>false:=by funext x;simp[lM,Ek]
    rw[this];simp
   ·rw[aK rfl,ih];have:(lM q s ∘ λx=>p::x)=lM q (s |||2 ^ p):=by funext x;simp[lM,Ek]
    rw[this]
theorem Iw{q:Nat->Nat->Bool}:∀(o pre:List Nat),lM q (fz pre) o=true↔∀(i p:Nat),o[i]?=some p->q (fz (pre++o.take i)) p=true
 |[],pre=>by simp[lM]
 |x::r,pre=>by
  rw[lM,<- FY,aS,Iw r (pre++[x])];constructor
  ·rintro⟨h1,h2⟩ i p hp;cases i with
   |zero =>
    cases hp;simpa using h1
   |succ i =>
    have:=h2 i p (by simpa using hp);simpa using this
  ·intro h;refine⟨by simpa using h 0 x rfl,λi p hp=>?_⟩;have:=h (i+1) p (by simpa using hp);simpa using this
def xu(cs:List a9)(r:eX)(s p:Nat):Bool:=!meant cs r.w r.y p||(List.range cs.length).any λi=>s.testBit i&&meant cs r.w r.x i
def xp(cs:List a9)(v:Int)(s p:Nat):Bool:=!C0 cs s.testBit p&&(!B3 cs s.testBit p&&!decide (v<u5 cs s.testBit p))
theorem ZG(cs:List a9)(v:Int)(rs:List eX)(s p:Nat):decide (fault cs v rs s.testBit p="")=(xp cs v s p&&rs.all λr=>xu cs r s p):=by
 have en:(rs.all λr=>xu cs r s p)=K9 cs rs s.testBit p:=rfl;rw[en];unfold fault xp;cases C0 cs s.testBit p
 ·cases B3 cs s.testBit p
  ·by_cases h:v<u5 cs s.testBit p
   ·rw[aC (by decide),aC (by decide),aK h,aA h];simp only[Bool.not_true,Bool.and_false,Bool.false_and]
    decide +kernel
   ·rw[aC (by decide),aC (by decide),aC h,az h];cases K9 cs rs s.testBit p<;>decide +kernel
  ·rw[aC (by decide),aK rfl];simp only[Bool.not_true,Bool.false_and,Bool.and_false]
   decide +kernel
 ·rw[aK rfl];simp only[Bool.not_true,Bool.false_and]
  decide +kernel
theorem GW(cs:List a9)(v:Int)(rs:List eX)(s:Nat):j8 cs v rs s=(unset cs.length s).filter (λp=>xp cs v s p&&rs.all λr=>xu cs r s p):=by
 unfold j8 unset;rw[JO];refine List.filter_congr λp _=>?_;unfold A3;rw[ZG,Bool.and_comm]
theorem Xt{n:Nat}{F:Nat->List Nat}(hF:FG n F){o:List Nat}(h:o∈i8 n F 0):o.length=n/\o.Nodup/\∀i∈o,i<n:=by
 rw[<- Bx hF] at h;exact K1 hF h
def many(cs:List a9)(v:Int)(rs:List eX):Nat:=(i8 cs.length (j8 cs v rs) 0).length
def H9:ba:=⟨1,2,(.seq (.set 1 (.call 117 (fb aL))) (.seq (.ifs (dJ .Eq (cJ bh (du (.un .USub) (bf 1))) (du (.fld "full") aL)) (.seq (.ret (.lit .bC)) .pass) .pass) (.seq (.ret bh) .pass)))⟩
section
variable{T:Nat->Option ba}{k d:Nat}{g g':G}{Q:KD}{E:KX}{a b c r:Nat}{cs:List a9}{rs:List eX}{v:Int}
theorem YT{K:G->Prop}(hT:iJ T)(ha:g[a]?=some (.lst (cs.map a9.d)))(hz:cs.length<=9)(hg:cs.all A9=true)(hB:∀c∈cs,CB c)(hc:g[c]?=some (.lst (u6 rs)))(hr:rs.length<=900)(h:∀g',Ex g g'->Bd g' g.length cs v rs->K g'):c5 T (k+9) 113 [.ref g.length,.ref a,.int v,.ref c] (g++[.ins "Bounds" []]) (λd g2=>d=.bC/\K g2) E:=by
 have x1:=Ex.snoc g (O.ins "Bounds" []);refine Wo (k:=k) hT (x1.at ha) hz hg hB (x1.at hc) hr b0 λg2 l2 o2 B2=>?_;refine⟨rfl,h g2 ⟨by simp at l2;omega,λi hi=>?_⟩ B2⟩;rw[o2 i (by simp;omega) (by omega),x1.old i hi]
theorem Wu(hT:iJ T)(hF:TF T)(hW:T 117=some B5)(mO:T 129=some H9)(B:Bd g b cs v rs)(hz:cs.length<=9)(hr:rs.length<=900)(h:∀(L:List Nat) l g',Ex g g'->g.length<=l->g'[l]?=some (.lst (b7 L))->L.Pairwise (· < ·)->(∀s,s∈L↔jk (j8 cs v rs) s)->L.length<=512->(jk (j8 cs v rs) (2 ^ cs.length-1)->Q .bC g')/\(¬jk (j8 cs v rs) (2 ^ cs.length-1)->Q (.ref l) g')):c5 T (k+7) 129 [.ref b] g Q E:=by
 refine call_of mO rfl ?_;dsimp[H9,c6,List.replicate];obtain⟨w0,l0,dd,nb,f1,f2,f3,f4,f5⟩:=B.ex;walk_at"";refine Hc (k:=k) hT hF hW B hz hr λL l g1 e1 hl h1 pw hL uR=>?_;obtain⟨Lh,Lg⟩:=h L l g1 e1 hl h1 pw hL uR;have h0:0∈L:=(hL 0).mpr .zero;have Li:=eT h0;have mG:=aj (show L.length-1<L.length by omega);generalize KS:L[L.length-1]=z at mG;have Wl:fL (b7 L) (-1)=some (.int (z:Nat)):=by
  unfold fL kr;have il:(b7 L).length=L.length:=by simp[b7]
  rw[aC (by decide),il,aK (by omega)];show(b7 L)[(-1+(L.length:Int)).toNat]?=_;rw[show(-1+(L.length:Int)).toNat=L.length-1 by omega,b7,ag,mG]
  rfl
 have Ed:z∈L:=aI mG;have zw:∀x∈L,x<=z:=λx hx=>by
  obtain⟨i,hi,rfl⟩:=bD.mp hx;rcases cQ i (L.length-1) with y|y
  ·have:=fX.mp pw i (L.length-1) hi (by omega) y;omega
  ·have:i=L.length-1:=by omega
   subst this;omega
 have hzl:=((hL z).mp Ed).lt (E2 cs v rs);walk_at"";refine m7 (a7 h1) Wl ?_;walk_at"";refine S7 (e1.at f1) rfl ?_;walk_at"";have ed:decide (((z:Nat):Int)=((2 ^ cs.length-1:Nat):Int))=decide (z=2 ^ cs.length-1):=dO.mpr (by omega);rw[ed];refine if2 (λc1=>?_) (λc1=>?_)
 ·walk_at"";exact Lh (c1▸(hL z).mp Ed)
 ·walk_at"";refine Lg λhR=>c1 ?_;have:=zw _ ((hL _).mpr hR);omega
end
section
variable{cs:List a9}{w:RW}{x:Int}{o:List Nat}
end
theorem XH{n:Nat}{F:Nat->List Nat}(hF:FG n F)(nd:∀s,(F s).Nodup):∀t,t<=n->(o6 F (t+1)).length<=(o6 F t).length*(n-t):=λt ht=>by
 rw[o6];refine xV λr hr=>?_;rw[ak];obtain⟨g1,g2,g3⟩:=K1 hF hr;have:=P8 (l:=F (fz r)++r) (m:=List.range n) (cu.mpr ⟨nd _,g2,λx hx y hy z=>?_⟩) λx hx=>?_
 ·simp at this;omega
 ·have:=(hF _ _ hx).2;rw[L7] at this;exact(by simpa using this:x∉r) (z▸hy)
 ·rcases aV.mp hx with z|z
  ·exact aT.mpr (hF _ _ z).1
  ·exact aT.mpr (g3 x z)
theorem ZY{cs:List a9}{v:Int}{rs:List eX}(hz:cs.length<=5):(i8 cs.length (j8 cs v rs) 0).length<=120:=by
 rw[<- Bx (E2 cs v rs)];have nd:∀s,(j8 cs v rs s).Nodup:=λs=>gE.sublist List.filter_sublist;have R:=XH (E2 cs v rs) nd;have h0:(o6 (j8 cs v rs) 0).length=1:=rfl;generalize cs.length=n at *;generalize j8 cs v rs=F at *;have R0:=R 0;have R1:=R 1;have R2:=R 2;have R3:=R 3;have R4:=R 4;simp only[Nat.reduceAdd,Nat.zero_add] at R0 R1 R2 R3 R4;clear R;have mul:∀{a b c d:Nat},a<=b*c->b<=d->a<=d*c:=λh1 h2=>aD h1 (iS _ h2);by_cases n0:n=0
 ·subst n0;omega
 have h1:=mul (R0 (by omega)) (sV h0);by_cases n1:n=1
 ·subst n1;omega
 have h2:=mul (R1 (by omega)) h1;by_cases n2:n=2
 ·subst n2;omega
 have h3:=mul (R2 (by omega)) h2;by_cases n3:n=3
 ·subst n3;omega
 have h4:=mul (R3 (by omega)) h3;by_cases n4:n=4
 ·subst n4;omega
 have h5:=mul (R4 (by omega)) h4;obtain rfl:n=5:=by omega
 omega
section
variable{T:Nat->Option ba}{k d:Nat}{g g':G}{Q:KD}{E:KX}{a b c:Nat}{cs:List a9}{rs:List eX}{v:Int}
end
def U4:ba:=⟨2,6,(.seq (.set 2 (.lit .bC)) (.seq (.de (.one 3) (.iY (bf 1) (bW (.bin .Add) (bf 9) (bf 1))) (.seq (.set 4 (.make "Bounds" 113 (ia aL bP bh))) (.seq (.set 5 (.call 124 (fb cU))) (.seq (.ifs (dJ .IsNot dR (.lit .bC)) (.seq (.ret (.prim .tup (ia bP dR bp))) .pass) .pass) (.seq (.set 2 (.call 129 (fb cU))) .pass))))) (.seq (.ret (.lit .bC)) .pass)))⟩
def Bl:ba:=⟨2,3,(.seq (.expr (.call 18 (fb aL))) (.seq (.expr (.call 89 (dc aL bh))) (.seq (.set 2 (.call 134 (dc aL bh))) (.seq (.ifs (dJ .Is bp (.lit .bC)) (.seq (.raise "NoOrder" (fb (gN "there is no order with any count of anvils"))) .pass) .pass) (.seq (.ret bp) .pass)))))⟩
def U3:ba:=⟨2,6,(.seq (.set 2 (bf 1)) (.seq (.de (.one 3) (.dS (du .len bh)) (.seq (.set 4 (.comp [0] 3 (.one 2) (.eO (bW (.kY false true) bh (bW (.bin .Add) bP (bf 1)))) .no (cJ (cJ aL bp) (bf 0)))) (.seq (.set 5 (.comp [0] 3 (.one 2) (.eO (bW (.kY true false) bh bP)) .no (cJ (cJ aL bp) (bf 0)))) (.seq (.set 2 (bW .max bp (du .Z9 (.comp [5] 3 (.one 2) (.eO cU) (dJ .In bp aL) bp)))) .pass)))) (.seq (.ret bp) .pass)))⟩
theorem QY{α:Type}{l:List α}{n:Nat}:cut l (some (n:Int)) none=l.drop n:=by
 have:¬((n:Int)<0):=by omega
 unfold cut HT.dg;simp[this];by_cases h:n<=l.length
 ·rw[Nat.min_eq_left h,gT (by simp)]
 ·rw[Nat.min_eq_right (by omega),eU (aw _),eU (by omega)];simp
def i5(cs:List a9)(o:List Nat):Nat->Nat
 |0=>1
 |t+1=>max (i5 cs o t) (u5 cs (fz (o.take t)).testBit (o.getD t 0))
theorem U0{cs:List a9}{o:List Nat}{v:Nat}:∀t,i5 cs o t<=v↔1<=v/\∀i,i<t->u5 cs (fz (o.take i)).testBit (o.getD i 0)<=v
 |0=>by simp[i5]
 |t+1=>by
  rw[i5,Nat.max_le,U0 t];constructor
  ·rintro⟨⟨h1,h2⟩,h3⟩;refine⟨h1,λi hi=>?_⟩;rcases cQ i t with z|z
   ·exact h2 i z
   ·have:i=t:=by omega
    exact this▸h3
  ·rintro⟨h1,h2⟩;exact⟨⟨h1,λi hi=>h2 i (by omega)⟩,h2 t (by omega)⟩
theorem GB(cs:List a9){v:Nat}(hv:v<=9)(rs:List eX):i8 cs.length (j8 cs v rs) 0=(i8 cs.length (j8 cs 9 rs) 0).filter (lM (λs p=>decide (u5 cs s.testBit p<=v)) 0):=by
 refine Ho (E2 cs 9 rs) (λs=>?_) _ 0 (aw _) (lT _);rw[GW,GW,JO];refine List.filter_congr λp _=>?_;unfold xp;have:(!decide ((v:Int)<u5 cs s.testBit p))=(decide (u5 cs s.testBit p<=v)&&!decide ((9:Int)<u5 cs s.testBit p)):=by
  by_cases h:u5 cs s.testBit p<=v
  ·rw[aA h,az (show ¬(v:Int)<u5 cs s.testBit p by omega),az (show ¬(9:Int)<u5 cs s.testBit p by omega)]
   rfl
  ·rw[az h,aA (show(v:Int)<u5 cs s.testBit p by omega)]
   rfl
 rw[this];generalize decide (u5 cs s.testBit p<=v)=q1;generalize (!decide ((9:Int)<u5 cs s.testBit p))=q2;generalize C0 cs s.testBit p=q3;generalize B3 cs s.testBit p=q4;generalize (rs.all λr=>xu cs r s p)=q5;cases q1<;>cases q2<;>cases q3<;>cases q4<;>cases q5<;>rfl
theorem BP{cs:List a9}{o:List Nat}{v:Nat}(h1:1<=v):lM (λs p=>decide (u5 cs s.testBit p<=v)) 0 o=true↔i5 cs o o.length<=v:=by
 have:=Iw (q:=λs p=>decide (u5 cs s.testBit p<=v)) o [];rw[show fz []=0 from rfl] at this;rw[this,U0];constructor
 ·intro h;refine⟨h1,λi hi=>?_⟩;have:=h i _ (aj hi);simpa[List.getD,hi] using this
 ·rintro⟨_,h⟩ i p hp;have hi:=(ao.mp hp).1;have:=h i hi;rw[show o.getD i 0=p by simp[List.getD,hp]] at this;simpa using this
theorem Xk{cs:List a9}{v:Nat}{rs:List eX}(h1:1<=v)(h9:v<=9):many cs v rs≠0↔∃o∈i8 cs.length (j8 cs 9 rs) 0,i5 cs o o.length<=v:=by
 unfold many;rw[GB cs h9,Ne,gF,gW];constructor
 ·intro h;refine om λz=>h λo ho hk=>z ⟨o,ho,(BP h1).mp hk⟩
 ·rintro⟨o,ho,hm⟩ h;exact h o ho ((BP h1).mpr hm)
theorem OM{cs:List a9}{rs:List eX}{o:List Nat}(h:o∈i8 cs.length (j8 cs 9 rs) 0):i5 cs o o.length<=9:=by
 have:=GB cs (v:=9) (aw _) rs;rw[show((9:Nat):Int)=9 from rfl] at this;rw[this] at h;exact(BP (by omega)).mp (bj.mp h).2
theorem Jb:∀{l:List Nat},l≠[]->∃m∈l,∀x∈l,m<=x
 |[],h=>absurd rfl h
 |[a],_=>⟨a,by simp,λx hx=>by cases aY.mp hx;exact aw _⟩
 |a::b::r,_=>by
  obtain⟨m,hm,hl⟩:=Jb (l:=b::r) (by simp);rcases Nat.le_total a m with z|z
  ·refine⟨a,by simp,λx hx=>?_⟩;rcases aE.mp hx with rfl|hx
   ·exact aw _
   ·exact aD z (hl x hx)
  ·refine⟨m,bo _ hm,λx hx=>?_⟩;rcases aE.mp hx with rfl|hx
   ·exact z
   ·exact hl x hx
theorem ZH{hr lt:List Int}{x:Int}:x∈((List.range hr.length).filter λi=>decide (hr.getD i 0∈lt)).map (λi=>hr.getD i 0)↔x∈hr/\x∈lt:=by
 constructor
 ·intro h;obtain⟨i,hi,rfl⟩:=aQ.mp h;obtain⟨h1,h2⟩:=bj.mp hi;exact⟨by simp[List.getD,List.mem_range.mp h1],bt h2⟩
 ·rintro⟨h1,h2⟩;obtain⟨i,hi,rfl⟩:=bD.mp h1;have e:hr.getD i 0=hr[i]:=by simp[List.getD,hi]
  exact aQ.mpr ⟨i,bj.mpr ⟨aT.mpr hi,by rw[e];exact aA h2⟩,e⟩
theorem ZX{cs:List a9}{o:List Nat}{t p:Nat}(nd:o.Nodup)(hl:o.length=cs.length)(dC:∀i∈o,i<cs.length)(hp:o[t]?=some p):(ST.i6 [] (((List.range ((o.take (t+1)).map λp=>(bH cs p).lo).length).filter λi=>decide (((o.take (t+1)).map λp=>(bH cs p).lo).getD i 0∈(o.drop t).map λp=>(bH cs p).lo)).map λi=>((o.take (t+1)).map λp=>(bH cs p).lo).getD i 0)).length=u5 cs (fz (o.take t)).testBit p:=by
 have tk:o.take (t+1)=o.take t++[p]:=by rw[bu,hp];rfl
 have split:=fe t o;have DQ:=nd;rw[<- split,cu] at DQ;unfold u5;refine FV (ST.T9 _ _ (by simp)) ((Bu _).filter _) λx=>?_;rw[ST.O6,ZH,bj,BN];unfold U8;rw[aS,aR,aR];simp only[List.not_mem_nil,false_or,List.mem_map,List.mem_range,Bool.and_eq_true,decide_eq_true_eq,Bool.or_eq_true,Bool.not_eq_true',decide_eq_false_iff_not,L7];constructor
 ·rintro⟨⟨q,hq,rfl⟩,j,hj,Er⟩;have LJ:=iU hj;have Le:=iT hq;have LK:j∉o.take t:=λz=>DQ.2.2 j z j hj rfl;rw[tk] at hq;have lh:q∈o.take t\/q=p:=by simpa using hq
  have zC:=dC j LJ;refine⟨⟨bH cs j,?_,Er⟩,⟨q,dC q Le,lh,rfl⟩,j,zC,LK,Er⟩;rw[B0 (aj zC)];exact bT zC
 ·rintro⟨_,⟨q,_,q2,q3⟩,j,nO,uC,nN⟩;refine⟨⟨q,by rw[tk];simpa using q2,q3⟩,j,?_,nN⟩;have:=HC nd hl dC nO;rw[<- split] at this;rcases aV.mp this with z|z
  ·exact absurd z uC
  ·exact z
section
variable{T:Nat->Option ba}{k d:Nat}{g g':G}{Q:KD}{E:KX}{a b c:Nat}{cs:List a9}{rs:List eX}{v:Int}
theorem Ru(qq:T 162=some U3){o:List Nat}(ha:g[a]?=some (.lst (cs.map a9.d)))(hz:cs.length<=9)(hb:g[b]?=some (.lst (b7 o)))(nd:o.Nodup)(hl:o.length=cs.length)(dC:∀i∈o,i<cs.length)(h:∀g',Ex g g'->Q (.int (i5 cs o o.length:Nat)) g'):c5 T (k+1) 162 [.ref a,.ref b] g Q E:=by
 refine call_of qq rfl ?_;dsimp[U3,c6,List.replicate];walk_at"";have il:∀q:List Nat,(b7 q).length=q.length:=λq=>by simp[b7]
 have DY:∀{Z:S} {g:G} {Q:KD} {E:KX} {it:ME} {q:List Nat},Z[0]?=some (some (.ref a))->g[a]?=some (.lst (cs.map a9.d))->q.length<=9->(∀i∈q,i<cs.length)->(∀Q:KD,(∀g1 r,Ex g g1->g1[r]?=some (.lst (b7 q))->Q (.ref r) g1)->aO (c5 T k) it Z g Q E)->(∀g' r,Ex g g'->g'[r]?=some (.lst ((q.map λp=>(bH cs p).lo).map .int))->Q (.ref r) g')->aO (c5 T k) (.comp [0] 3 (.one 2) (.eO it) .no (.prim .ix (.cons (.prim .ix (.cons (.var 0) (.cons (.var 2) .nil))) (.cons (.lit (.int 0)) .nil)))) Z g Q E:=by
  intro Z g Q E it q KR ha hq dC hit h;refine BD (a8 T _) (kx (a8 T _) (hit _ λg1 r e1 h1=>?_));refine⟨r,_,rfl,a7 h1,b7 q,λZ=>∃z1 z2,Z=[some (.ref a),z1,z2],λi=>.int (bH cs (q.getD i 0)).lo,λg' e=>k6 (a7 (e.at h1)),by rw[il];omega,⟨none,none,?_⟩,λj d Z g5 hx e5 sh=>?_,λg5 e5=>?_⟩
  ·simp[C5,KR]
  ·obtain⟨z1,z2,rfl⟩:=sh;rw[b7,ag,aa] at hx;obtain⟨p,hp,rfl⟩:=hx;refine f7 ?_
   try show aO _ _ _ _ _ _
   walk_at"";refine m7 (a7 ((e1.trans e5).at ha)) (F8 (dC p (aI hp))) ?_;walk_at"";refine q9 (J5 (.inl rfl) _) ?_;exact⟨by simp[List.getD,hp,w6],e5,_,_,rfl⟩
  ·have el:(List.range (b7 q).length).map (λi=>D.int (bH cs (q.getD i 0)).lo)=(q.map λp=>(bH cs p).lo).map D.int:=by
    refine cw λi=>?_;rw[ag,ag,ag,il];by_cases hi:i<q.length
    ·rw[bA hi,aj hi];simp[List.getD,hi]
    ·rw[aJ (by simpa using hi),aJ (by omega)]
     rfl
   rw[el];exact h _ _ (e1.trans (e5.trans (Ex.snoc _ _))) b0
 refine u3 (a8 T _) (S4 (a8 T _) ?_);walk_at"";rw[il];refine⟨by omega,by omega,i0 0 o.length,λt Z g'=>Ex g g'/\∃z3 z4 z5,Z=[some (.ref a),some (.ref b),some (.int (i5 cs o t:Nat)),z3,z4,z5],λ_ _ _ _=>by simp only[Int.toNat_natCast];exact n8,⟨Ex.refl _,none,none,none,rfl⟩,λt x Z g1 hx q=>?_,λZ g1 q=>?_⟩
 ·obtain⟨e1,z3,z4,z5,rfl⟩:=q;obtain⟨ht,rfl⟩:=t8 hx;rw[dQ];have hp:=aj ht;generalize o[t]=p at hp;refine f7 ?_
  try show wpS _ _ _ _ _ _
  refine Y1 (sO (DY (q:=o.take (t+1)) rfl (e1.at ha) (by rw[cj];omega) (λi hi=>dC i (iT hi)) (λQ hQ=>?_) λg2 hr e2 h2=>?_))
  ·walk_at"";refine AL (a7 (e1.at hb)) ?_;rw[show((t:Nat):Int)+1=((t+1:Nat):Int) by omega,HG (by rw[il];omega),b7,<- List.map_take];exact hQ _ _ (Ex.snoc _ _) b0
  try show wpS _ _ _ _ _ _
  have mU:=e1.trans e2;refine Y1 (sO (DY (q:=o.drop t) rfl (mU.at ha) (by rw[gG];omega) (λi hi=>dC i (iU hi)) (λQ hQ=>?_) λg3 lr e3 h3=>?_))
  ·walk_at"";refine Ql (a7 (mU.at hb)) ?_;rw[QY,b7,<- List.map_drop];exact hQ _ _ (Ex.snoc _ _) b0
  try show wpS _ _ _ _ _ _
  have Ng:=mU.trans e3;have oQ:=e3.at h2;have hlen:((o.take (t+1)).map λp=>(bH cs p).lo).length<=9:=by rw[ak,cj];omega
  have zg:=ZX (cs:=cs) nd hl dC hp;generalize ((o.take (t+1)).map λp=>(bH cs p).lo)=dH at *;generalize ((o.drop t).map λp=>(bH cs p).lo)=lt' at *;walk_at"";refine w9 (a8 T _) (λZ=>∃z1 z2,Z=[some (.ref lr),z1,z2]) (λi=>decide (dH.getD i 0∈lt')) (λi=>.int (dH.getD i 0)) (l:=dH.map D.int) (k:=.lst hr) (λg' e=>k6 (a7 (e.at oQ))) (by simp;omega) ⟨none,none,rfl⟩ (λi d Z g' hx e sh=>?_) (λg7 e7=>?_) (O0 (a8 T _) (a7 oQ) λQ q=>w_var (d:=.ref hr) rfl q)
  ·obtain⟨z1,z2,rfl⟩:=sh;rw[ag,aa] at hx;obtain⟨x,hx,rfl⟩:=hx;have ex:dH.getD i 0=x:=by simp[List.getD,hx]
   refine f7 ?_
   try show cI _ _ _ _ _ _
   walk_at"";refine sk (N8 (a7 (e.at h3)) ?_);walk_at"";have ed:(lt'.any λm=>m==x)=decide (x∈lt'):=by
    rw[aU,aR,cq];exact⟨λ⟨y,hy,e⟩=>(fj.mp e)▸hy,λhy=>⟨x,hy,by simp⟩⟩
   rw[ed,ex];refine⟨rfl,e,?_⟩;refine if2 (λ_=>?_) (λ_=>⟨_,_,rfl⟩);walk_at"";exact⟨rfl,e,_,_,rfl⟩
  have es:((List.range (dH.map D.int).length).filter λi=>decide (dH.getD i 0∈lt')).map (λi=>D.int (dH.getD i 0))=(((List.range dH.length).filter λi=>decide (dH.getD i 0∈lt')).map λi=>dH.getD i 0).map D.int:=by
   rw[cb,ak]
   rfl
  have e8:=e7.trans (Ex.snoc g7 (O.lst (((List.range (dH.map D.int).length).filter λi=>decide (dH.getD i 0∈lt')).map λi=>D.int (dH.getD i 0))));refine HK (ns:=((List.range dH.length).filter λi=>decide (dH.getD i 0∈lt')).map λi=>dH.getD i 0) (a7 (by rw[es];exact b0)) (by rw[ak];exact dk C4 (by omega)) ?_;rw[zg];walk_at"";refine⟨Ng.trans e8,some (.int (t:Nat)),some (.ref hr),some (.ref lr),?_⟩;have em:(if((u5 cs (fz (o.take t)).testBit p:Nat):Int)>(i5 cs o t:Nat) then((u5 cs (fz (o.take t)).testBit p:Nat):Int) else(i5 cs o t:Nat))=((i5 cs o (t+1):Nat):Int):=by
   rw[i5,show o.getD t 0=p by simp[List.getD,hp],Nat.max_def];split<;>split<;>omega
  rw[em]
  rfl
 ·obtain⟨e1,z3,z4,z5,rfl⟩:=q;rw[j4]
  try show wpS _ _ _ _ _ _
  walk_at"";exact h _ e1
theorem Zo(hT:iJ T)(hF:TF T)(hW:TW T)(hN:TN T)(mP:T 124=some I9)(mO:T 129=some H9)(qt:T 134=some U4)(ha:g[a]?=some (.lst (cs.map a9.d)))(hz:cs.length<=9)(hg:cs.all A9=true)(hB:∀c∈cs,CB c)(hc:g[c]?=some (.lst (u6 rs)))(hr:rs.length<=900)(h1:∀(n:Nat) x y g',Ex g g'->1<=n->n<=9->many cs n rs≠0->(∀j:Nat,1<=j->j<n->many cs j rs=0)->Q (.tup [.int n,x,y]) g')(h2:(∀j:Nat,1<=j->j<=9->many cs j rs=0)->∀g',Ex g g'->Q .bC g'):c5 T (k+10) 134 [.ref a,.ref c] g Q E:=by
 refine call_of qt rfl ?_;dsimp[U4,c6,List.replicate];walk_at"";refine u3 (a8 T _) (Tr (a8 T _) ?_);walk_at"";refine⟨_,_,rfl,rfl,⟨by decide,by decide,by decide,by decide⟩,i0 1 9,λt Z g'=>Ex g g'/\(∀j:Nat,1<=j->j<=t->many cs j rs=0)/\∃y z3 z4 z5,Z=[some (.ref a),some (.ref c),some y,z3,z4,z5],λ_ _ _ _=>n8,⟨Ex.refl _,λj _ _=>by omega,.bC,none,none,none,rfl⟩,λt x Z g1 hx q=>?_,λZ g1 q=>?_⟩
 ·obtain⟨e1,jC,y,z3,z4,z5,rfl⟩:=q;obtain⟨ht,rfl⟩:=t8 hx;rw[show(1:Int)+((t:Nat):Int)=((t+1:Nat):Int) by omega];refine f7 ?_
  try show wpS _ _ _ _ _ _
  walk_at"";refine YT (k:=k) hT (e1.at ha) hz hg hB (e1.at hc) hr λg2 e2 B2=>?_;walk_at"";refine Ws (k:=k+1) hT hF hW hN mP B2 hz hr (λho g3 e3=>?_) (λo l g3 ho e3 _ h3=>?_)
  ·walk_at"";refine Wu (k:=k+2) hT hF hW.nS mO (B2.at e3) hz hr λL l g4 e4 _ _ _ _ _=>?_;have xh:=e1.trans (e2.trans (e3.trans e4));have m0:∀j:Nat,1<=j->j<=t+1->many cs j rs=0:=λj j1 j2=>by
    rcases cQ j (t+1) with z|z
    ·exact jC j j1 (by omega)
    ·have:j=t+1:=by omega
     subst this;unfold many;rw[ho]
     rfl
   constructor
   ·intro _;walk_at"";exact⟨xh,m0,_,_,_,_,rfl⟩
   ·intro _;walk_at"";exact⟨xh,m0,_,_,_,_,rfl⟩
  ·walk_at"";refine h1 (t+1) _ _ _ (e1.trans (e2.trans e3)) (by omega) (by omega) (λz=>?_) λj j1 j2=>jC j j1 (by omega);unfold many at z;rw[gF] at z;rw[z] at ho;cases ho
 ·obtain⟨e1,jC,y,z3,z4,z5,rfl⟩:=q;rw[j4] at jC
  try show wpS _ _ _ _ _ _
  walk_at"";exact h2 jC _ e1
end
def CH:ba:=⟨2,2,(.seq (.Y2 (.seq (.ret (cJ (.call 135 (dc aL bh)) (bf 0))) .pass) [("NoOrder",(.lit .bC))]) .pass)⟩
def vR:ba:=⟨1,8,(.seq (.set 1 (.call 3 (fb aL))) (.seq (.de (.one 2) (.dS (bf 3)) (.seq (.kD (.many [3,4,5]) (.call 110 (dc bh (bf 5)))) (.seq (.set 6 (.comp [3] 3 (.one 2) (.eO (.call 150 (ia bP (bf 9) dR))) .no (.call 162 (dc aL bp)))) (.seq (.set 7 (.ite (dJ .Gt (du .len eM) (bf 0)) (du .min eM) (.lit .bC))) (.seq (.ifs (.eL (.fy (.call 7 (dc (.call 30 (dc bP dR)) fV)))) (.seq (.ret (.lit (.bl false))) .pass) .pass) .pass))))) (.seq (.ret (.lit (.bl true))) .pass)))⟩
structure Jz(T:Nat->Option ba):Prop where
 tb:iJ T
 lI:qZ T
 tf:TF T
 tw:TW T
 tn:TN T
 h3:T 3=some xt
 h6:T 6=some vS
 h7:T 7=some C3
 MD:T 11=some vR
 Mx:T 30=some CH
 mP:T 124=some I9
 mO:T 129=some H9
 qt:T 134=some U4
 Ad:T 135=some Bl
 qr:T 150=some P0
 qq:T 162=some U3
section
variable{T:Nat->Option ba}{k d:Nat}{g g':G}{Q:KD}{E:KX}{a b c:Nat}{cs:List a9}{rs:List eX}{v:Int}
theorem Ya(hT:Jz T)(ha:g[a]?=some (.lst (cs.map a9.d)))(hz:cs.length<=9)(hg:cs.all A9=true)(hB:∀c∈cs,CB c)(hc:g[c]?=some (.lst (u6 rs)))(hr:rs.length<=900)(hR:rs.all (A2 cs)=true)(h1:∀(n:Nat) g',Ex g g'->1<=n->n<=9->many cs n rs≠0->(∀j:Nat,1<=j->j<n->many cs j rs=0)->Q (.int n) g')(h2:(∀j:Nat,1<=j->j<=9->many cs j rs=0)->∀g',Ex g g'->Q .bC g'):c5 T (k+12) 30 [.ref a,.ref c] g Q E:=by
 refine call_of hT.Mx rfl ?_;dsimp[CH,c6,List.replicate];walk_at"";refine call_of hT.Ad rfl ?_;dsimp[Bl,c6,List.replicate];walk_at"";refine X6 (k:=k+4) hT.tb.nf hT.tb.h2 hT.tb.rW hT.tb.uW ha (by omega) (λz=>by omega) (λ_ z=>by rw[hg] at z;cases z) λ_ _=>?_;walk_at"";refine Wq (k:=k+5) hT.tb ha (by omega) hc hr (λ_ g1 e1=>?_) (λz=>by rw[hR] at z;cases z);walk_at"";refine Zo (k:=k) hT.tb hT.tf hT.tw hT.tn hT.mP hT.mO hT.qt (e1.at ha) hz hg hB (e1.at hc) hr (λn x y g2 e2 n1 n2 n3 n4=>?_) (λjC g2 e2=>?_)
 ·walk_at""
  try refine fK rfl ?_
  walk_at"";exact h1 n _ (e1.trans e2) n1 n2 n3 n4
 ·walk_at""
  try refine Vf rfl ?_
  walk_at"";exact h2 jC _ (e1.trans e2)
theorem ZO(hT:Jz T){ns:List Int}:c5 T (k+13) 11 [.ref 0] [.nT (ns.map .int)] (λd _=>d=.bl true) iL:=by
 refine call_of hT.MD rfl ?_;dsimp[vR,c6,List.replicate];walk_at"";refine RE (k:=k+11) hT.h3 (a:=0) (ns:=ns) rfl λd g D0 _ _=>?_;walk_at"";refine XW (n:=3) (by decide) (λi Z g=>i4 g d/\∃z2 z3 z4 z5 z6 z7,Z=[some (.ref 0),some (.ref d),z2,z3,z4,z5,z6,z7]) ⟨D0,none,none,none,none,none,none,rfl⟩ (λi Z g hi p=>?_) (λZ g p=>?_)
 ·obtain⟨D1,z2,z3,z4,z5,z6,z7,rfl⟩:=p;have dl:=D1.lt
  try show wpS _ _ _ _ _ _
  walk_at"";refine a17 (k:=k+7) hT.lI.toTBR hT.lI.qw ⟨by decide,by decide⟩ D1 λcs rs a c v g2 hl hG ha EH hr hR hc jD hac v1 v2 D2 G2=>?_;refine A5 rfl ?_
  try show wpS _ _ _ _ _ _
  have hz:cs.length<=5:=by omega
  have hB:∀c∈cs,CB c:=λc hc=>⟨(hG c hc).l8,(hG c hc).u8⟩
  have hg:cs.all A9=true:=cE.mpr λc hc=>(hG c hc).good;walk_at"";refine BD (a8 T _) (kx (a8 T _) ?_);walk_at"";refine Wc (k:=k+9) (v:=9) hT.lI hT.qr hB ha hz hc (by omega) λl g3 e3 hl3 R3=>?_;have MC:(i8 cs.length (j8 cs 9 rs) 0).length<=120:=ZY hz;have zl:∀o∈i8 cs.length (j8 cs 9 rs) 0,o.length=cs.length/\o.Nodup/\∀i∈o,i<cs.length:=λo ho=>Xt (E2 cs 9 rs) ho;have zu:∀{v:Nat},1<=v->v<=9->(many cs v rs≠0↔∃o∈i8 cs.length (j8 cs 9 rs) 0,i5 cs o o.length<=v):=λh1 h9=>Xk h1 h9;have zy:∀o∈i8 cs.length (j8 cs 9 rs) 0,i5 cs o o.length<=9:=λo ho=>OM ho;generalize i8 cs.length (j8 cs 9 rs) 0=X at *;obtain⟨bs,b1,b2,b3,b4⟩:=R3.ex;refine⟨l,_,rfl,a7 b1,bs.map .ref,λZ=>∃y1 y2,Z=[some (.ref a),y1,y2],λj=>.int (i5 cs (X.getD j []) (X.getD j []).length:Nat),λg' e=>k6 (a7 (e.at b1)),by simp;omega,⟨none,none,rfl⟩,λj x Z g4 hx e4 sh=>?_,λg4 e4=>?_⟩
  ·obtain⟨y1,y2,rfl⟩:=sh;rw[ag,aa] at hx;obtain⟨rb,uv,rfl⟩:=hx;have hj:j<X.length:=by rw[<- b2];exact(ao.mp uv).1
   have ho:=aj hj;generalize X[j]=o at ho;obtain⟨Kp,uu,lg⟩:=b4 j o ho;have:Kp=rb:=by rw[uv] at uu;injection uu with z;exact z.symm
   subst this;obtain⟨o1,o2,o3⟩:=zl o (aI ho);refine f7 ?_
   try show aO _ _ _ _ _ _
   walk_at"";refine Ru (k:=k+11) hT.qq ((e3.trans e4).at ha) (by omega) (e4.at lg) o2 o1 o3 λg5 e5=>?_;refine⟨?_,e4.trans e5,_,_,rfl⟩;show _=D.int (i5 cs (X.getD j []) (X.getD j []).length:Nat);rw[show X.getD j []=o by simp[List.getD,ho]]
  ·have em:(List.range (bs.map D.ref).length).map (λj=>D.int (i5 cs (X.getD j []) (X.getD j []).length:Nat))=((X.map λo=>i5 cs o o.length).map λ(n:Nat)=>(n:Int)).map D.int:=by
    rw[ak,b2];refine cw λj=>?_;rw[ag,ag,ag,ag];by_cases hj:j<X.length
    ·rw[bA hj,aj hj];simp[List.getD,hj]
    ·rw[aJ (by simpa using hj),aJ (by omega)]
     rfl
   rw[em];walk_at"";have e5:=e3.trans (e4.trans (Ex.snoc g4 (O.lst (((X.map λo=>i5 cs o o.length).map λ(n:Nat)=>(n:Int)).map D.int))));have h5:=b0 (g:=g4) (o:=O.lst (((X.map λo=>i5 cs o o.length).map λ(n:Nat)=>(n:Int)).map D.int));generalize g4++[O.lst (((X.map λo=>i5 cs o o.length).map λ(n:Nat)=>(n:Int)).map D.int)]=g5 at *;generalize g4.length=nb at *;refine F6 (a7 h5) ?_;rw[ak,ak,ak];walk_at"";have fin:∀(x:D),(X=[]/\x=.bC)\/(∃o∈X,x=.int (i5 cs o o.length:Nat)/\∀o'∈X,i5 cs o o.length<=i5 cs o' o'.length)->wpS (c5 T (k+12)) (match vR.body with|.seq _ (.seq (.de _ _ (.seq _ (.seq _ (.seq _ b)))) _)=>b|x=>x) ⟨λZ g=>i4 g d/\∃z2 z3 z4 z5 z6 z7,Z=[some (.ref 0),some (.ref d),z2,z3,z4,z5,z6,z7],λd _=>d=.bl true,λ_ _=>True,λ_ _=>True⟩ [some (.ref 0),some (.ref d),some (.int i),some (.ref a),some (.int v),some (.ref c),some (.ref nb),some x] g5 iL:=λx hx=>by
    dsimp[vR];walk_at"";refine Ya (k:=k) hT (e5.at ha) (by omega) hg hB (e5.at hc) (by omega) hR (λn g6 e6 n1 n2 n3 n4=>?_) (λjC g6 e6=>?_)
    ·obtain⟨o',jU,Lv⟩:=(zu n1 n2).mp n3;rcases hx with⟨z,_⟩|⟨o,ho,rfl,mE⟩
     ·rw[z] at jU;cases jU
     ·have uQ:1<=i5 cs o o.length:=((U0 (v:=i5 cs o o.length) o.length).mp (aw _)).1;have Lr:n=i5 cs o o.length:=by
       have h1:=mE o' jU;rcases cQ (i5 cs o o.length) n with z|z
       ·exact absurd (n4 _ uQ z) ((zu uQ (zy o ho)).mpr ⟨o,ho,aw _⟩)
       ·omega
      rw[<- Lr];walk_at"";refine Gx hT.h6 hT.h7 0 (k:=k+10) (.int _) λg7 e7=>?_;walk_at"";exact⟨(e5.trans (e6.trans e7)).draw D2,_,_,_,_,_,_,rfl⟩
    ·rcases hx with⟨_,rfl⟩|⟨o,ho,rfl,mE⟩
     ·walk_at"";refine Gx hT.h6 hT.h7 0 (k:=k+10) .bC λg7 e7=>?_;walk_at"";exact⟨(e5.trans (e6.trans e7)).draw D2,_,_,_,_,_,_,rfl⟩
     ·have uQ:1<=i5 cs o o.length:=((U0 (v:=i5 cs o o.length) o.length).mp (aw _)).1;exact absurd (jC _ uQ (zy o ho)) ((zu uQ (zy o ho)).mpr ⟨o,ho,aw _⟩)
   refine if2 (λc0=>?_) (λc0=>?_)
   ·walk_at"";have dG:X.map (λo=>i5 cs o o.length)≠[]:=λz=>by
     have:=fP List.length z;simp at this;subst this;simp at c0
    obtain⟨m,hm,mE⟩:=Jb dG;obtain⟨o,ho,rfl⟩:=aQ.mp hm;refine Vx (ns:=(X.map λo=>i5 cs o o.length).map λ(n:Nat)=>(n:Int)) (M:=(i5 cs o o.length:Nat)) (a7 h5) (aQ.mpr ⟨_,hm,rfl⟩) (λy hy=>?_) ?_
    ·obtain⟨n,hn,rfl⟩:=aQ.mp hy;have:=mE n hn;omega
    ·exact fin _ (.inr ⟨o,ho,rfl,λo' jU=>mE _ (aQ.mpr ⟨o',jU,rfl⟩)⟩)
   ·refine w_lit ?_;refine fin _ (.inl ⟨?_,rfl⟩);cases X with
    |nil=>rfl
    |cons _ _=>simp at c0
 ·obtain⟨_,z2,z3,z4,z5,z6,z7,rfl⟩:=p
  try show wpS _ _ _ _ _ _
  walk_at""
  rfl
end
end M

namespace Lk
open PySem L2 M
def top(i:Nat):Stmt:=PySem.Challenge.pw_trussel_k25_whole_fewest_by_all_orders.main.body.getD i (.Pass ⟨0,0,0,0⟩)
def QX:Stmt->List Stmt
 |.ClassDef (body:=b) ..=>b
 |_=>[]
def Fx(i j:Nat):Stmt:=(QX (top i)).getD j (.Pass ⟨0,0,0,0⟩)
def F:List RF:=[⟨38,"is_number",["thing"],1,9,BJ⟩,⟨1,"number_from",["number","least","most"],3,10,V1⟩,⟨2,"good_marks",["marks","least","spot"],1,11,F4⟩,⟨15,"within",["one","other"],2,12,xY⟩,⟨12,"good_coin",["coin","lower","lower_marks","upper","upper_marks","year","good_lower","good_upper"],1,19,A8⟩,⟨39,"check_coin",["coin"],1,20,Z7⟩,⟨18,"check_coins",["coins","coin"],1,21,V3⟩,⟨40,"check_side",["side"],1,22,O9⟩,⟨19,"die_field",["side"],1,23,BH⟩,⟨74,"places_of",["coins","word","thing","field"],3,24,U2⟩,⟨20,"dies_of",["coins","side","field"],2,25,Bk⟩,⟨88,"good_rule",["coins","rule","word","one","other"],2,30,BI⟩,⟨89,"check_rules",["coins","rules","at","rule"],2,31,V2⟩,⟨90,"stand_of",["places"],1,32,Z0⟩,⟨91,"with_coin",["stand","place"],2,33,U1⟩,⟨92,"more_worn",["one","other","side","field"],2,34,BK⟩,⟨93,"later",["one","other"],2,35,CI⟩,⟨94,"worn_stands",["coins"],1,36,V0⟩,⟨95,"later_stands",["coins"],1,37,S0⟩,⟨96,"die_stands",["coins"],1,38,Z6⟩,⟨97,"needed_stands",["coins","rules","needed","word","one","other","first","place"],2,39,N9⟩,⟨100,"dies_in_use",["bounds","stand","place","struck","left"],3,41,Z5⟩,⟨101,"next_fault",["bounds","stand","place"],3,42,Z1⟩,⟨115,"follows",["bounds","stand","place"],3,44,Z3⟩,⟨116,"followers",["bounds","stand"],2,45,Z4⟩,⟨117,"reached_stands",["bounds","led_to","told","stand","place"],1,46,B5⟩,⟨121,"ways_on",["bounds","ways","stand"],1,48,Bm⟩,⟨122,"step_on",["bounds","ways","stand","number","choices","left","at"],4,49,xX⟩,⟨123,"numbered_order",["bounds","ways","number","order","stand","left","place"],3,50,L9⟩,⟨124,"first_order",["bounds","ways"],1,51,I9⟩,⟨129,"shown_paper",["bounds","stands"],1,53,H9⟩,⟨134,"fewest_of",["coins","rules","paper","count","bounds","order"],2,55,U4⟩,⟨135,"fewest",["coins","rules","told"],2,56,Bl⟩,⟨3,"_law_open",["_law_script"],1,58,xt⟩,⟨4,"_law_pull",["_law_draw","_law_total_of","_law_cell","_law_got","_law_seed"],2,59,E4⟩,⟨6,"_law_num",["_law_found"],1,60,vS⟩,⟨7,"_law_like",["_law_found","_law_due"],2,61,C3⟩,⟨21,"_law_order_of",["_law_draw","_law_numbers","_law_left","_law_found","_law_step"],2,62,R9⟩,⟨17,"_law_within",["_law_one","_law_other"],2,63,Z2⟩,⟨22,"_law_any_coin",["_law_draw","_law_menu","_law_lower","_law_upper","_law_year"],1,64,Z8⟩,⟨23,"_law_seated",["_law_draw","_law_seats","_law_fresh","_law_anvils"],4,65,F3⟩,⟨24,"_law_struck",["_law_draw","_law_size","_law_anvils","_law_seats","_law_fresh","_law_worn","_law_year","_law_step","_law_wear","_law_shift","_law_found","_law_k","_law_keys","_law_key","_law_spot","_law_named","_law_told_year"],3,66,F2⟩,⟨25,"_law_opened",["_law_draw","_law_size","_law_dies","_law_row","_law_held","_law_found","_law_k","_law_year"],2,67,xW⟩,⟨26,"_law_list",["_law_draw","_law_most","_law_size","_law_anvils","_law_way","_law_found","_law_at","_law_coin","_law_other"],2,68,O8⟩,⟨105,"_law_rule",["_law_draw","_law_coins","_law_word","_law_some","_law_at"],2,69,sH⟩,⟨106,"_law_rules",["_law_draw","_law_coins","_law_found","_law_k","_law_rule_here"],2,70,CJ⟩,⟨107,"_law_rule_kept",["_law_coins","_law_ahead","_law_place","_law_rule_here","_law_word","_law_one","_law_other","_law_at"],4,71,BL⟩,⟨108,"_law_fault",["_law_coins","_law_anvils","_law_rules_here","_law_ahead","_law_place","_law_coin","_law_there","_law_at","_law_here","_law_later"],5,72,vL⟩,⟨150,"_law_all_orders",["_law_coins","_law_anvils","_law_rules_here","_law_rows","_law_step","_law_longer","_law_row","_law_place"],3,73,P0⟩,⟨110,"_law_ready",["_law_draw","_law_most","_law_coins","_law_anvils"],2,74,xH⟩,⟨30,"_law_asked",["_law_coins","_law_rules_here"],2,75,CH⟩,⟨162,"_law_most_open",["_law_coins","_law_row","_law_found","_law_k","_law_here","_law_later"],2,76,U3⟩,⟨11,"law",["_law_script","_law_draw","_law_turn","_law_coins","_law_anvils","_law_rules_here","_law_needs","_law_due"],1,77,vR⟩]
def Ms:List RM:=[⟨113,"Bounds","__init__","Bounds.__init__",["self","coins","anvils","rules"],4,40,0,V4⟩]
def con:List (Str×D):=[("LAST_SPOT",.int 7),("MOST_COINS",.int 9),("LAST_DIE",.int 99),("LAST_YEAR",.int 9999),("SIDES",.tup [(.str "lower"),(.str "upper")]),("MOST_ANVILS",.int 9),("RULE_WORDS",.tup [(.str "coin"),(.str "lower"),(.str "upper")]),("YEAR_FIELD",.int 4)]
def gd:List (Str×List D):=[("DIE_FIELDS",[.tup [.str "lower",.int 0],.tup [.str "upper",.int 2]])]
def exc:List Str:=["BadCoin","BadRule","BadSide","NoOrder","TooMany"]
def c0:d7:=⟨[],[],true,F.map λr=>(r.nm,r.id),con,["len","enumerate","list","tuple","isinstance","all","range","int","bool","str","max","min","sorted","set","any","sum","reversed"],exc,gd,[("Bounds",113)],Ms.map λr=>(r.nm,r.cl,r.id),[("size","Bounds"),("full","Bounds"),("room","Bounds"),("worn_by_place","Bounds"),("later_by_place","Bounds"),("lower_dies","Bounds"),("needed_by_place","Bounds")],true,true⟩
noncomputable abbrev T:Nat->Option ba:=sx F Ms
theorem tx:kL c0 F Ms top Fx:=by
 refine⟨rfl,rfl,by decide +kernel,by decide +kernel,by decide +kernel,by decide +kernel,?_,?_,?_,?_⟩
 all_goals
  repeat first
   |exact BF.nil
   |exact BM.nil
   |exact YF.nil
   |exact YM.nil
   |refine YF.cons (by kernel_rfl) ?_
   |refine YM.cons (by kernel_rfl) ?_
   |refine BF.cons (λ_ _ _ _ _ _=>(by(repeat refine Du λ_=>?_);exact Dt rfl)) ?_
   |refine BM.cons (λ_ _ _ _ _ _=>(by(repeat refine Du λ_=>?_);exact Dt rfl)) ?_
inductive sf:List DictEntry->List (Str×V)->Prop
 |nil:sf [] []
 |cons {h:Int} {x:Str} {t:Tok} {u:Value} {v:V} {es:List DictEntry} {vs:List (Str×V)} (r:RelV v u) (q:sf es vs):sf (⟨h,.str x t,u⟩::es) ((x,v)::vs)
theorem sf.find{es vs}(x:Str)(h:sf es vs):F0 (vs.lookup x) (findBy Value.isStrOf es.toArray x):=by
 induction h with
 |nil=>trivial
 |cons r q ih =>
  rename_i h y t u v es vs;unfold findBy at ih ⊢;rw[List.find?_toArray] at ih ⊢;rw[eF,cC];by_cases e:x=y
  ·rw[show(x==y)=true from by simp[e],show Value.isStrOf x (.str y t)=true from by simp[Value.isStrOf,e]];exact r
  ·rw[show(x==y)=false from by simpa using e,show Value.isStrOf x (.str y t)=false from by simp[Value.isStrOf];exact λz=>e (z.symm)];exact ih
theorem all_mk{l:PySem.W.OpenLaw}{w:World}{K:PySem.W.Frag}{h:Heap}{mg:Str->Option Value}{fa:Addr}{AJ AI wZ:Addr}{t0 t1 t2 t3 vm vk t5 vj vi vh t7 oW oV oU oS:Tok}{AE:Array (Option Value)}{AG:Nat}{AD:Array (Option Value)}{AF:Nat}{MK:Nat}{mR mQ:Int}(X:K.In h)(G:h.Ns mainGlobals mg)(LP:mg "law"=some (.ref fa))(I:kM K c0 F Ms top Fx)(e0:PySem.W.nsIn K mainGlobals "LAST_SPOT"=some (some (Value.int 7 t0)))(e1:PySem.W.nsIn K mainGlobals "MOST_COINS"=some (some (Value.int 9 t1)))(e2:PySem.W.nsIn K mainGlobals "LAST_DIE"=some (some (Value.int 99 t2)))(e3:PySem.W.nsIn K mainGlobals "LAST_YEAR"=some (some (Value.int 9999 t3)))(e4:PySem.W.nsIn K mainGlobals "SIDES"=some (some (.ref AJ)))(Nt:K.lookup AJ=some ⟨.type "tuple",none,.seq #[Value.str "lower" vm,Value.str "upper" vk] AG,AE⟩)(e5:PySem.W.nsIn K mainGlobals "MOST_ANVILS"=some (some (Value.int 9 t5)))(e6:PySem.W.nsIn K mainGlobals "RULE_WORDS"=some (some (.ref AI)))(Nr:K.lookup AI=some ⟨.type "tuple",none,.seq #[Value.str "coin" vj,Value.str "lower" vi,Value.str "upper" vh] AF,AD⟩)(e7:PySem.W.nsIn K mainGlobals "YEAR_FIELD"=some (some (Value.int 4 t7)))(g0:PySem.W.nsIn K mainGlobals "DIE_FIELDS"=some (some (.ref wZ)))(MM:K.lookup wZ=some ⟨.type "dict",none,.dict #[⟨mR,Value.str "lower" oW,Value.int 0 oV⟩,⟨mQ,Value.str "upper" oU,Value.int 2 oS⟩] MK,#[]⟩)(pU:mR=PyData.keyHash w.params "lower")(pT:mQ=PyData.keyHash w.params "upper")(MJ:(wZ==sysModules)=false)
  : ∃fd:FuncData,(∀(s:Shared) (v:Value),BindsTo s fd ⟨[v],[]⟩ [("_law_script",v)])/\∀base:Heap,K.In base->base.Ns mainGlobals mg->hV l.prog w K mg base (iO l.prog w) 80 fa fd ["_law_script"] (ox exc K 1 (c5 T 40 11)):=by
 have A:mX w K mg c0 T:=by
  refine QF I tx X G (λx d hx=>?_) (λx kvs hx=>?_)
  ·have hm:=aP hx;simp only[c0,con,List.mem_cons,List.mem_nil_iff,or_false] at hm;rcases hm with z|z|z|z|z|z|z|z
   ·cases z;exact⟨(.int 7),_,bQ X G e0,⟨_,rfl⟩,λ_ _=>.int _⟩
   ·cases z;exact⟨(.int 9),_,bQ X G e1,⟨_,rfl⟩,λ_ _=>.int _⟩
   ·cases z;exact⟨(.int 99),_,bQ X G e2,⟨_,rfl⟩,λ_ _=>.int _⟩
   ·cases z;exact⟨(.int 9999),_,bQ X G e3,⟨_,rfl⟩,λ_ _=>.int _⟩
   ·cases z;exact⟨.ref AJ,_,bQ X G e4,rfl,λ_ _=>.tup (vs:=[.str "lower",.str "upper"]) (.inr ⟨_,_,_,Nt,rfl,rfl,rfl,(by show 2<=sizeLine;decide),.cons ⟨_,rfl⟩ (.cons ⟨_,rfl⟩ (.nil))⟩) (.cons (.str _) (.cons (.str _) (.nil)))⟩
   ·cases z;exact⟨(.int 9),_,bQ X G e5,⟨_,rfl⟩,λ_ _=>.int _⟩
   ·cases z;exact⟨.ref AI,_,bQ X G e6,rfl,λ_ _=>.tup (vs:=[.str "coin",.str "lower",.str "upper"]) (.inr ⟨_,_,_,Nr,rfl,rfl,rfl,(by show 3<=sizeLine;decide),.cons ⟨_,rfl⟩ (.cons ⟨_,rfl⟩ (.cons ⟨_,rfl⟩ (.nil)))⟩) (.cons (.str _) (.cons (.str _) (.cons (.str _) (.nil))))⟩
   ·cases z;exact⟨(.int 4),_,bQ X G e7,⟨_,rfl⟩,λ_ _=>.int _⟩
  ·have hm:=aP hx;simp only[c0,gd,List.mem_cons,List.mem_nil_iff,or_false] at hm;have z:=hm
   ·cases z;have er:sf [⟨mR,Value.str "lower" oW,Value.int 0 oV⟩,⟨mQ,Value.str "upper" oU,Value.int 2 oS⟩] [("lower",.int 0),("upper",.int 2)]:=.cons (v:=.int 0) ⟨_,rfl⟩ (.cons (v:=.int 2) ⟨_,rfl⟩ (.nil));exact⟨wZ,_,bQ X G g0,⟨_,_,MM,⟨⟨_,_,rfl,pU⟩,⟨⟨_,_,rfl,pT⟩,True.intro⟩⟩,MJ,λx=>er.find x⟩,.cons (λ_ _=>.int _) (.cons (λ_ _=>.int _) (.nil))⟩
 obtain⟨f,fd,O,a,t⟩:=IF I tx _ (aI (i:=52) rfl);cases LP.symm.trans (bQ X G a);obtain⟨oc,od,kV,doc,pm,an,fu,ct,lL,rfl,lk,lq⟩:=O.fn.ex;exact⟨_,λs v=>.of_eq rfl,λbase nk uY=>Oa nk uY A 40 11 _ _ fa _ rfl O⟩
theorem walk{l:PySem.W.OpenLaw}{q:Program}{loose:List Str}{XP:(Str->Option Value)->Heap->Prop}{YP:World->Heap->Prop}{d:DefRec}{K:Params->PySem.W.Frag}(hn:l.most=some 63)(uI:d.params.defaults=[])(hY:∀(w:World) (h:Heap),YP w h->(K w.params).In h)(F:∀ (w:World) (mg:Str->Option Value) (fa:Addr) (h:Heap),(K w.params).In h->h.Ns mainGlobals mg->mg d.name=some (.ref fa) ->
   ∃ fd:FuncData,(∀ (s:Shared) (u:Value),BindsTo s fd ⟨[u],[]⟩ [("_law_script",u)])/\∀ base:Heap,(K w.params).In base->base.Ns mainGlobals mg->hV l.prog w (K w.params) mg base (iO l.prog w) 80 fa fd ["_law_script"] (ox exc (K w.params) 1 (c5 T 40 11))) :
  PySem.W.WalkO q loose XP YP l.row.toRowW d [] (λf vs=>PySem.call f vs) :=
 L2.SJ (n:=63) (k:=80) (x:="_law_script") (CX:=λw=>iO l.prog w) (sp:=λw=>ox exc (K w.params) 1 (c5 T 40 11)) hn (by decide) uI ⟨rfl,by decide,by decide⟩ hY F (λw H a ns hl hO hS=>OC hO hS (ZO (k:=27) ⟨⟨⟨rfl,rfl⟩,rfl,rfl,⟨rfl,rfl⟩,⟨rfl,rfl⟩,rfl,rfl,rfl,rfl,rfl,rfl,rfl,rfl,rfl,rfl,rfl,rfl,rfl,rfl,rfl,rfl⟩,⟨⟨⟨rfl,rfl,rfl,rfl,rfl,rfl,rfl⟩,rfl,rfl⟩,rfl,rfl,rfl,rfl⟩,⟨rfl,rfl⟩,⟨rfl,rfl⟩,⟨rfl,rfl⟩,rfl,rfl,rfl,rfl,rfl,rfl,rfl,rfl,rfl,rfl,rfl⟩)) λ_ _ _ _ _ ⟨_,_,_,_,_,_,_,z⟩=>z
end Lk
open PySem PySem.W PyProof.Rows
set_option maxRecDepth 100000 in
set_option maxHeartbeats 0 in
theorem PySem.Challenge.cw_trussel_k25_whole_fewest_by_all_orders_holds : PySem.Challenge.rw_trussel_k25_whole_fewest_by_all_orders.Holds := by
 w_on;o_law;k_head;(case hw=>w_witness2)
 k_fill
 refine Lk.walk (l:=PySem.Challenge.rw_trussel_k25_whole_fewest_by_all_orders) rfl rfl (fun w h Y=>PySem.W.kIn_of Y) ?F
 case F =>
  intro w mg fa h KX G hmg
  refine' Lk.all_mk KX G hmg ⟨?zz1,?zz2,?zz3,?zz4,?zz5,?zz6,?zz7⟩ ?_ ?_ ?_ ?_ ?_ ?_ ?_ ?_ ?_ ?_ ?_ ?_ ?_ ?_ ?_
  (case zz1=>repeat' first | (with_reducible show _=_;k_is) | exact M.PF.nil | apply M.PF.cons)
  (case zz2=>repeat' first | (with_reducible show _=_;k_is) | exact M.PM.nil | apply M.PM.cons)
  (case zz3=>repeat' first | (with_reducible show _=_;k_is) | exact M.PC.nil | apply M.PC.cons)
  (case zz4=>repeat' first | (with_reducible show _=_;k_is) | exact M.PA.nil | apply M.PA.cons)
  (case zz5=>repeat' first | (with_reducible show _=_;k_is) | exact M.PB.nil | apply M.PB.cons)
  (case zz6=>repeat' first | (with_reducible show _=_;first | (with_reducible show PySem.W.excIn _ _ _ _=true;k_exc) | k_is) | exact M.PX.nil | apply M.PX.cons)
  (case zz7=>kernel_rfl)
  all_goals try (with_reducible show _=_;k_is)
  all_goals try ((with_reducible show _=_);rfl)
#print axioms PySem.Challenge.cw_trussel_k25_whole_fewest_by_all_orders_holds
