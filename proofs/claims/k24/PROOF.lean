import PyProof.Rows.All
import Wide.All
import OpenK.AllK
import Wide.FinOn
import Lean
import PyProof.EqAt
import PyProof.EqKinds
import PyProof.TupleCall
import PySem.Challenge.RW_trussel_k24_fewest_anvils
set_option Elab.async false
set_option linter.all false
set_option maxRecDepth 100000
set_option maxHeartbeats 4000000
set_option genInjectivity false
set_option bootstrap.genMatcherCode false
set_option genSizeOf false
local macro_rules|`(def $i:declId $s:optDeclSig $v:declVal)=>`(noncomputable def $i:declId $s:optDeclSig $v:declVal)
structure PySem.W.Fast:Prop where(tw270486521990924931 tw17868328863631694529 tw1806502667439418379 tw3094310483553407950 tw9445323241097463752 tw3168804698789243489 tw2746193462794755612 tw15322687776632354338 tw472801274472830883 tw11344340973391598450 tw10127578126431824283 tw6182171061842155555 tw5497396161413963781 tw15384663779657506034 tw18204156492158253582 tw1226297524800376016 tw3800639230982869060 tw10651773087337138174 tw1300579440748131520 tw2259409677465552577 tw14887059579800441467 tw4749156631266062745 tw408748542889766046 tw5843121445523173990 tw13979720099024477013 tw7033512750142321515 tw13669988091239802819 tw338453089555920171 tw16896857655946264884 tw6288370179191527361 tw15974470041517743450 tw6964668591707775461 tw854189520397704163 tw4878696974025224130 tw11158547695369761802 tw1044985764084397766 tw6857468461886358882 tw4345762905160060548 tw7663188566360954567 tw10578812908836336116 tw5352876620927937860 tw18225185163742800352 tw17338321954869153756 tw8120073718351661658 tw16313332870493263178 tw3584410216616097670 tw233011139685868580 tw17176415762467789775 tw15876836211860873841 tw16121132450941373135 tw4176359141754740118 tw10016080580452342634 tw2421992229568700008 tw5424934524349633253 tw3885276143144347191 tw9499726957234748626 tw6718877629559738445 tw4680857926984852283 tw2755544465088112948 tw6611057398572712768 tw15931381965938853991 tw14999198479224835520 tw15348270751455113754 tw16399312885069760563 tw14312316188021893257 tw4296325762321146563 tw7561347666078809494 tw4754044239104343849 tw380726194749109877 tw16617329396833506472 tw10377668213283132174 tw11771351835973395268 tw5898558648492914343 tw6864414324014923948 tw9235848808998808963 tw17371396162398854862 tw1081995619315940041 tw7847715744427703555 tw3111873668273162022 tw14412001237979819569 tw4985258120860364439 tw9352395354247720072 tw11087892962825407144 tw407841197337875781 tw5751639451150262221 tw9946478836716942914 tw12373519088583432670 tw14917923908333122004 tw16405141719164062236 tw1091334462651465145 tw1935741241907944677 tw9234398776697426416 tw1785093454702863621 tw4603794268423483967 tw6441611909759221587 tw9747357887459895895 tw7892446077447266095 tw9522482380359280211 tw1953883912702243145 tw16466328860694752195 tw11982616950538898989 tw1155684109861142097 tw9553646371687174346 tw550850413923826526 tw11287774052351460022 tw12271694970298014680 tw11623534943876294772 tw942190223101501560 tw15933610805933458360 tw7007378379879543314 tw16270648184734001723 tw3585010920071244789 tw15369019525203108835 tw1254502934652360022 tw12371543544329169709 tw12101304576667395920 tw1368944032116171948 tw6246411162774251560 tw4913963264819674234 tw16081023034433049585 tw12027857457088217936 tw688144290530823977 tw11910955982932409170 tw14064851702067525860 tw12124767523184371162 tw14232915104002904845 tw7867760349213536928 tw8539567654336487863 tw8066786822277842323 tw6743734590677024789 tw6077116363550170824 tw15370125505542838747 tw8873809551211294633 tw9992107982312526357 tw11441514329181329098 tw9026065667326280155 tw16299220095326957251 tw369155292893806992 tw13536811042392691269 tw11961339795422357681 tw6460756772122337364 tw1616988627569074132 tw13008921553712919483 tw4051741614236708005 tw15951080198987051960 tw9834223171691863453 tw15462184096378250014 tw14555545348041174609 tw10020366902813737371 tw1405453406585198233 tw13777968356404258417 tw4685113706576354097 tw13152677129641030249 tw15702945653051121192 tw13172299368278101918 tw18112058616408376208 tw12537253287278447884 tw11544621376765095728 tw18101476061074313995 tw9599310761060139885 tw7832766197338096880 tw15473747368567110095 tw8915507053075835807 tw13409114443015927183 tw834832999793650739 tw14087203780298178492 tw8284713238158988056 tw14352717180796817652 tw6538797846314345408 tw11892071981367769612 tw13206013511061605246 tw17419201091967119412 tw7263183464752388219 tw15883252976105409346 tw6867165081955393304 tw8637698434398911705 tw8051926503327258321 tw4451626151849797002 tw12474836756292562810 tw15824534888308700985 tw7340520187186367964 tw3540369740288725091 tw12081220721274376503 tw8061204791268197358 tw1700335249847665155 tw15943569357612795013 tw4492174389641324151 tw15676942939023491542 tw17699060439408960148 tw5168797259269906962 tw1441161208270335229 tw8432817987780268003 tw13594422734402909286 tw13971989135326872462 tw18183389587872052070 tw9836559205037576789 tw2630323579060506430 tw14413553899650857008 tw2913822154011723861 tw9165954320245111535 tw4517390589553498935 tw4027872707291489025 tw10292155095208232019 tw8014999131750385103 tw1224540192044785416 tw15587930490037738294 tw8876000014497421392 tw14647155537808216358 tw8188955875064643037 tw5394600440413820202 tw2717770407252303805 tw13128068369554437404 tw3573711340079536024 tw11787958593341398650 tw17926359541652917205 tw17624041541093554875 tw3899992650111384161 tw9073384768244777405 tw316645116052690906 tw7882800850262345320 tw2596037213052740322 tw10131180488772672365 tw10800616372378622161 tw7849260411900414529 tw4921614592765267124 tw10374687607469434926 tw1429685335292392875 tw6646926751483061998 tw12861928669819460530 tw12733700908847385570 tw5678369374306771541 tw6983884124105572785 tw12871499980487491901 tw1709850238453277230 tw4757887343313284683 tw2368320274534254274 tw11943634514039498594 tw9576873214080803060 tw5891784693343100970 tw16285832331358202417 tw5151790498166685503 tw2017885086077260739 tw2554618297740151743 tw11295575566131937283 tw3393328268297356061 tw139968964538551969 tw1548980150750892718 tw16263902056765516851 tw10731965032805793124 tw13846533104339107269 tw3310975630987480915 tw17483213074136045865 tw7060326244398674592 tw7370136270843107313 tw12585981667703347216 tw14370663212798143006 tw39054736473753865 tw12127389722660687581 tw13098844736887823157 tw9368982127827409058 tw3328799944638460559 tw3564345710360322626 tw16080826022454343828 tw1316341148283988043 tw13236260318019338327 tw8991914215019900443 tw13282021663468149729 tw8733388147280021916 tw15498107711609177395 tw1518481264443922752 tw10113598266118507522 tw16969850185177958223 tw3403039379580943048 tw10348950322665470629 tw1193910914220203507 tw13758003362227507508 tw18118035037871383152 tw4433062771131006278 tw2260589481322716160 tw5784318786654033269 tw10017894983640384419 tw11170622602531460391 tw3521025375861729595 tw616782021845251075 tw10546231344236367587 tw1430497188995737703 tw2314442053774631344 tw2538874859525220163 tw13464615953099991782 tw11348113992020114645 tw2395806668444870881 tw3513590562341467503 tw6860289113991785091 tw16442349375400958846 tw4806817377575868526 tw9108296042378650343 tw12692495480359014161 tw5341415273447561044 tw16033233609346544604 tw5641831552031753714 tw14461610408675961487 tw12890666102744717307 tw13574781532172769418 tw1117053000677745125 tw3891851408679445913 tw9180417818257899890 tw16961618821420316750 tw9912090419177051877 tw15136476392517393871 tw6741862718634537784 tw2222855527733181450 tw8742447517365879410 tw17236849841230510577 tw4984791056811269101 tw9591691300834895658 tw16680964085072165084 tw13779547506678978965 tw3295833374625123621 tw7560241687066687067 tw9413593502712195449 tw7252643213579202167 tw6305791711943555635 tw3191814695040547791 tw3126420516159479031 tw16086758451128825458 tw3516894542851119251 tw4655055241447529607 tw9634914367157359716 tw2784516672742562046 tw4816449037200339534 tw9010197323189661661:True)
namespace _X
local macro_rules|`(tactic|left)=>`(tactic|walk_at"")
local macro_rules|`(())=>`(by omega)
local macro_rules|`(∅)=>`(by decide)
local macro_rules|`(tactic|omega)=>`(tactic|lia)
def AA:=@Nat.pow_lt_pow_right
def AB:=@Nat.pow_le_pow_right
def AD:=@Nat.eq_of_testBit_eq
def AE:=@List.mem_of_mem_drop
def AF:=@List.getElem?_append
def AG:=@PySem.Calls.Name_function_global
def Az:=@PySem.Walks.list
def FY:=@PySem.W.hideAll_get
def FZ:=@PySem.W.callWith_K0
def Ga:=@List.reverse_append
def Gb:=@List.mergeSort_perm
def Gd:=@List.mem_map_of_mem
def Ge:=@List.length_pos_iff
def Gf:=@List.flatMap_append
def Gg:=@PySem.Calls.call_function_entry
def NP:=@PySem.wpAny_newList
def NQ:=@PySem.W.of_hideAll
def NR:=@PySem.W.kitx_tuple
def NS:=@PySem.W.callWith_K
def NT:=@Nat.not_lt
def NU:=@Nat.mod_lt
def NV:=@List.ne_nil_of_mem
def NW:=@List.map_replicate
def NX:=@List.getElem?_take
def NY:=@List.filter_filter
def aA:=@PyProof.Rows.wpS_bind
def aB:=@Nat.lt_of_lt_of_le
def aC:=@Nat.le_trans
def aD:=@if_neg
def aE:=@PySem.Heap.get?_push_size
def aF:=@List.mem_of_getElem?
def aG:=@if_pos
def aH:=@PyProof.Rows.wpS_pure
def aI:=@decide_eq_false
def aJ:=@List.mem_cons
def aK:=@List.getElem?_append_left
def aM:=@Nat.ne_of_lt
def aN:=@List.mem_map
def aO:=@List.getElem?_eq_none
def aP:=@Option.some.inj
def aQ:=@List.mem_singleton
def aR:=@List.mem_append
def aS:=@List.mem_range
def aT:=@PySem.mem_of_lookup
def aU:=@List.any_eq_true
def aV:=@List.pairwise_append
def aW:=@List.mem_append_right
def aX:=@List.size_toArray
def aY:=@Bool.eq_iff_iff
def aZ:=@Bool.and_eq_true
def aa:=@Option.map_eq_some_iff
def ae:=@PySem.wpAny_bind
def ag:=@List.getElem?_eq_getElem
def ai:=@List.getElem?_map
def aj:=@Option.bind_eq_some_iff
def ak:=@List.length_map
def ao:=@PySem.Heap.get?_push_of_some
def au:=@PySem.wpAny_pure
def av:=@List.getElem?_eq_some_iff
def aw:=@Nat.le_refl
def ax:=@List.getElem?_set_ne
def ay:=@decide_eq_true
def az:=@PySem.Heap.lt_size
def bA:=@List.take_succ
def bC:=@Array.toList_append
def bE:=@List.mem_cons_of_mem
def bH:=@PySem.wpAny_mono
def bI:=@List.length_append
def bJ:=@List.take_append_drop
def bK:=@PySem.Obj.data_mapFields
def bL:=@List.mem_filter
def bN:=@List.ext_getElem?
def bQ:=@decide_eq_true_eq
def bR:=@PyProof.Rows.callWith_type1
def bS:=@List.append_assoc
def bU:=@PySem.wpAny_holding
def bV:=@PySem.Heap.SameBut.update
def bW:=@Nat.zero_le
def bX:=@Array.perm_iff_toList_perm
def bZ:=@PySem.W.mg_of
def bg:=@List.getElem?_set_self
def bj:=@of_decide_eq_true
def bo:=@List.mem_iff_getElem
def br:=@PySem.Heap.get?_update_self
def bt:=@List.map_map
def bx:=@beq_iff_eq
def bz:=@List.mem_append_left
def cA:=@List.take_length
def cB:=@List.mem_of_mem_take
def cC:=@List.getElem_mem
def cG:=@List.getElem?_append_right
def cH:=@List.flatMap_cons
def cI:=@List.getElem?_range
def cJ:=@Array.length_toList
def cL:=@Nat.le_succ
def cM:=@List.pairwise_iff_getElem
def cO:=@PySem.wpAny_truthy_bool
def cP:=@PySem.wpAny_setState_of
def cR:=@List.all_eq_true
def cS:=@List.map_cons
def cU:=@PySem.wpAny_Call_Name_kw
def cW:=@Nat.lt_trans
def cX:=@List.mem_reverse
def cY:=@Nat.lt_of_le_of_lt
def cZ:=@List.mem_cons_self
def cb:=@PySem.W.kia_one
def cc:=@Nat.lt_irrefl
def cq:=@Ne.symm
def cu:=@Nat.ne_of_gt
def cv:=@List.take_of_length_le
def cx:=@List.nodup_append
def cy:=@getElem?_pos
def cz:=@Int.le_of_lt
def dB:=@Nat.lt_or_ge
def dC:=@Int.zero_add
def dD:=@Int.toNat_natCast
def dE:=@Array.toList_push
def dH:=@PySem.Obj.isFreed_of_fields
def dI:=@PyProof.Rows.wpS_forRange
def dN:=@PySem.codeAny_builtin
def dO:=@beq_eq_false_iff_ne
def dP:=@PySem.wpAny_newObj_type
def dQ:=@decide_eq_decide
def dR:=@List.lookup_cons
def dS:=@List.length_take
def dU:=@List.getElem?_replicate
def dZ:=@List.eq_nil_of_length_eq_zero
def df:=@PySem.Heap.get?_update_other
def dh:=@List.getElem?_eq_none_iff
def dj:=@List.drop_eq_getElem_cons
def dw:=@List.nodup_cons
def dy:=@List.map_append
def dz:=@List.append_nil
def eA:=@List.filter_append
def eB:=@Int.emod_lt_of_pos
def eF:=@PySem.wpAny_setField
def eG:=@PySem.wpAny_call_entry
def eI:=@List.Perm.append_left
def eJ:=@Array.getElem?_toList
def eM:=@Nat.lt_trichotomy
def eO:=@PySem.wpAny_rule
def eR:=@PySem.wpAny_passesOwn
def eV:=@Nat.le_of_lt
def eX:=@Decidable.byContradiction
def eY:=@List.map_congr_left
def eZ:=@List.filterMap_cons
def ei:=@decide_eq_true_iff
def et:=@PySem.W.cellsFrom_some
def fA:=@Nat.one_le_two_pow
def fB:=@List.pairwise_cons
def fC:=@decide_eq_false_iff_not
def fE:=@PySem.F.plainAttrs_list
def fF:=@List.length_eq_zero_iff
def fH:=@PySem.wpAny_standAt
def fI:=@Option.isSome_map
def fJ:=@Nat.le_of_eq
def fK:=@List.pairwise_map
def fM:=@List.length_range
def fN:=@List.Perm.append_right
def fO:=@Int.le_trans
def fP:=@PySem.F.slot_list_getattribute
def fT:=@PySem.tupleKind_room_in1
def fZ:=@List.pairwise_reverse
def fe:=@PySem.wpAny_of_eq
def ff:=@PySem.intKind_is
def fg:=@Option.isSome_iff_exists
def fh:=@List.getElem?_take_of_lt
def fj:=@PySem.Heap.size_push
def fm:=@Nat.two_pow_pos
def fo:=@List.range_succ
def fq:=@List.find?_cons
def ft:=@Int.emod_nonneg
def fu:=@Bool.or_eq_true
def fz:=@PySem.wpAny_isInstance
def gL:=@PySem.plainId_quiet
def gR:=@congrArg
def gS:=@List.length_eraseIdx_of_lt
def gT:=@List.findSome?_eq_none_iff
def gU:=@List.drop_drop
def gW:=@Int.not_lt
def gX:=@Array.getElem?_eq_some_iff
def gb:=@List.mem_iff_getElem?
def gf:=@List.length_filter_le
def gg:=@Array.getElem_eq_getD
def gp:=@PySem.wpAny_pyIter_list
def gs:=@PySem.isSubtype_type
def gw:=@Int.le_refl
def iB:=@PySem.wpAny_typeOf
def iC:=@PySem.codeAny_mono
def iL:=@List.mem_flatMap
def iW:=@List.set_set
def iX:=@List.filter_eq_nil_iff
def iY:=@List.drop_eq_nil_of_le
def iu:=@Nat.lt_succ_of_lt
def iy:=@Array.size_append
def jM:=@Array.toList_reverse
def jN:=@Array.toList_extract
def jV:=@PyProof.Rows.K_mirror_equal
def jh:=@Array.size_push
def jr:=@PySem.wpAny_comprehension_free
def js:=@PySem.F.slot_dict_get
def jt:=@Nat.eq_of_beq_eq_true
def ju:=@List.perm_append_comm
def kA:=@List.any_cons
def kH:=@List.mem_filterMap
def kI:=@List.find?_eq_none
def kJ:=@Bool.false_ne_true
def kh:=@PyProof.Rows.F.entry_set_update_loop
def ky:=@PySem.wpAny_execs_nil
def kz:=@List.map_take
def lG:=@List.reverse_perm
def lH:=@List.find?_append
def lI:=@List.any_map
def lJ:=@Bool.not_eq_true'
def lU:=@List.eraseIdx_eq_take_drop_succ
def lh:=@List.findIdx?_eq_some_iff_getElem
def mB:=@List.cons_ne_nil
def mR:=@PyProof.Rows.wpS_modify
def mS:=@PyProof.Rows.wpS_get
def mT:=@PySem.wpAny_attempt
def mU:=@Sum.inl.inj
def mV:=@PySem.Paired.length
def mr:=@Nat.lt_succ_self
def mx:=@List.not_mem_nil
def my:=@List.nodup_range
def mz:=@List.getElem_inj
def nA:=@Array.Perm.refl
def nv:=@PySem.call_meets
def ny:=@Nat.min_eq_left
def nz:=@List.of_mem_zip
def oO:=@Option.ne_none_iff_exists'
def oP:=@PySem.Obj.cls_mapFields
def oQ:=@List.nodup_nil
def oR:=@List.Perm.refl
def ot:=@Nat.testBit_two_pow_sub_one
def qS:=@PySem.wpAny_askSetting
def qT:=@Bool.true_and
def qU:=@Bool.false_or
def qb:=@PyProof.Rows.wpS_lift
def qc:=@List.mem_or_eq_of_mem_set
def qd:=@List.exists_mem_of_ne_nil
def qe:=@Array.getElem?_eq_getElem
def tB:=@List.pairwise_mergeSort
def tm:=@PySem.sizeLine_eq
def tq:=@PySem.F.args_dict_get_3
def tu:=@PyProof.Rows.boot_tuple
def uQ:=@PySem.codeAny_of_tree
def uR:=@PySem.F.entry_dict_get
def uS:=@PyProof.Rows.boot_list
def uT:=@List.pairwise_lt_range
def uU:=@List.length_pos_of_mem
def uV:=@Array.getElem?_eq_none
def xU:=@PySem.F.type_list_pop
def xV:=@PySem.F.slot_list_pop
def xW:=@PyProof.Rows.boot_int
def xX:=@Nat.or_mod_two_eq_one
def xY:=@List.length_singleton
def xZ:=@List.length_replicate
def ya:=@List.findSome?_append
namespace L2
open PySem PySem.Spec PyProof.Rows
variable{xs vs:List V}{us:List Value}{H H':Hp}{a b f C dx:Addr}{o:HO}{u:Value}{P:Program}{w:World}{h h' base:Heap}{α:Type}{x:Str}{e c tg:Expr}{X:Cx}{pins:List (Addr×Obj)}{U:St}{s:Shared}{t' i k:Nat}{ch fp:List Addr}{N ps:List Str}{M:Model}{A:Around}{E Q:Value->Shared->Prop}{v:V}{t:TA}{ta tb te:TE}{pos pos' p:Pos}{K:PySem.W.Frag}{es:List Expr}{op:CmpOp}{body:List Stmt}{r:R2}{fd:FuncData}{CX:oq}{sp:Sp}
noncomputable abbrev Key:=Sum Int Str
def X7:Key->Value->Bool
 |.inl k,v=>Value.isInt k v
 |.inr x,v=>Value.isStrOf x v
def WT(w:World):Key->Int
 |.inl k=>hashInt k
 |.inr x=>hashStr w x
theorem x8:∀{k:Key} {v:Value},X7 k v=true->(∃i t,k=Sum.inl i/\v=Value.int i t)\/(∃x t,k=Sum.inr x/\v=Value.str x t)
 |.inl i,v,h=>by
  obtain⟨t,e⟩:=Value.isInt_shape (k:=i) (v:=v) h;exact .inl ⟨i,t,rfl,e⟩
 |.inr x,v,h=>by
  obtain⟨t,e⟩:=Value.isStrOf_shape (x:=x) (v:=v) h;exact .inr ⟨x,t,rfl,e⟩
theorem a29(i:Int)(t:Tok):X7 (.inl i) (.int i t)=true:=by simp[X7,Value.isInt]
theorem a28(x:Str)(t:Tok):X7 (.inr x) (.str x t)=true:=by simp[X7,Value.isStrOf]
theorem bC5(a b:Int):decide ((Sum.inl a:Key)=Sum.inl b)=(a==b):=by
 by_cases e:a=b
 ·subst e;simp
 ·have h:¬(Sum.inl a:Key)=Sum.inl b:=λq=>e (mU q);rw[aI h];exact(dO.mpr e).symm
theorem bC2(a b:Str):decide ((Sum.inr a:Key)=Sum.inr b)=decide (a=b):=by
 simp
theorem bC4(a:Int)(b:Str):decide ((Sum.inl a:Key)=Sum.inr b)=false:=aI (λq=>nomatch q)
theorem bC3(a:Str)(b:Int):decide ((Sum.inr a:Key)=Sum.inl b)=false:=aI (λq=>nomatch q)
def s9(prog:Program)(w:World):PySem.KeyKind prog w Key where
 is:=X7
 hash:=WT w
 inj:=λv a b ha hb=>by
  rcases x8 ha with⟨i,t,rfl,rfl⟩|⟨x,t,rfl,rfl⟩
  ·rcases x8 hb with⟨j,u,rfl,e⟩|⟨y,u,rfl,e⟩
   ·injection e with e1 _;rw[e1]
   ·exact nomatch e
  ·rcases x8 hb with⟨j,u,rfl,e⟩|⟨y,u,rfl,e⟩
   ·exact nomatch e
   ·injection e with e1 _;rw[e1]
 byValue:=λk v h=>by
  rcases x8 h with⟨i,t,rfl,rfl⟩|⟨x,t,rfl,rfl⟩<;>rfl
 pyHash:=λhv h=>by
  rcases x8 hv with⟨i,t,rfl,rfl⟩|⟨x,t,rfl,rfl⟩
  ·exact wpAny_pyHash_int h
  ·exact wpAny_pyHash_str h
 eqBool:=λhu hv h=>by
  rcases x8 hu with⟨i,t,rfl,rfl⟩|⟨x,t,rfl,rfl⟩
  ·rcases x8 hv with⟨j,u,rfl,rfl⟩|⟨y,u,rfl,rfl⟩
   ·rw[bC5] at h;exact wpAny_eqBool_int h
   ·rw[bC4] at h;exact SeqAt.EqAt.int_str i t y u _ _ _ _ h
  ·rcases x8 hv with⟨j,u,rfl,rfl⟩|⟨y,u,rfl,rfl⟩
   ·rw[bC3] at h;exact SeqAt.EqAt.str_int x t j u _ _ _ _ h
   ·rw[bC2] at h;exact wpAny_eqBool_str h
 «strs»:=λk x t v h=>by
  rcases x8 h with⟨i,u,rfl,e⟩|⟨y,u,rfl,e⟩
  ·exact nomatch e
  ·injection e with e1 _;subst e1;cases v<;>rfl
theorem Y3(prog:Program)(w:World)(i:Int)(t:Tok):(s9 prog w).is (.inl i) (.int i t)=true:=a29 i t
theorem aK9(prog:Program)(w:World)(x:Str)(t:Tok):(s9 prog w).is (.inr x) (.str x t)=true:=a28 x t
set_option genInjectivity true in
inductive V where
 |bD|bl (b:Bool)|int (i:Int)|str (x:Str)|ml (b:Array UInt8)|sk (b:UInt64)|ref (a:Addr)|ty (n:String)
 deriving DecidableEq
def RelV:V->Value->Prop
 |.bD,u=>u=Value.none
 |.bl b,u=>u=Value.bool b
 |.int i,u=>∃t,u=Value.int i t
 |.str x,u=>∃t,u=Value.str x t
 |.ml b,u=>∃t,u=Value.bytes b t
 |.sk b,u=>∃t,u=Value.float b t
 |.ref a,u=>u=Value.ref a
 |.ty n,u=>u=Value.type n
noncomputable abbrev Vals:List V->List Value->Prop:=Paired RelV
theorem Vals.length{xs:List V}{us:List Value}(r:Vals xs us):xs.length=us.length:=mV r
theorem Vals.get:∀{xs:List V} {us:List Value} {i:Nat} {x:V},Vals xs us->xs[i]?=some x->∃u,us[i]?=some u/\RelV x u
 |_,_,_,_,.nil,e=>by simp at e
 |_,_,0,_,.cons r _,e=>by simp at e;subst e;exact⟨_,rfl,r⟩
 |_,_,i+1,x,.cons _ t,e=>by
  obtain⟨u,h1,h2⟩:=Vals.get (i:=i) (x:=x) t (by simpa using e);exact⟨u,by simpa using h1,h2⟩
theorem Vals.set{x:V}{u:Value}(r:RelV x u):∀{xs:List V} {us:List Value} (i:Nat),Vals xs us->Vals (xs.set i x) (us.set i u)
 |_,_,_,.nil=>.nil
 |_,_,0,.cons _ t=>.cons r t
 |_,_,i+1,.cons q t=>.cons q (Vals.set r i t)
theorem Vals.append{ys:List V}{ws:List Value}(h:Vals xs us)(s:Vals ys ws):Vals (xs++ys) (us++ws):=by
 induction h with
 |nil=>exact s
 |cons r t ih=>exact .cons r ih
theorem Vals.take:∀{xs:List V} {us:List Value} (n:Nat),Vals xs us->Vals (xs.take n) (us.take n)
 |_,_,0,_=>.nil
 |_,_,_+1,.nil=>.nil
 |_,_,n+1,.cons r t=>.cons r (Vals.take n t)
theorem Vals.drop:∀{xs:List V} {us:List Value} (n:Nat),Vals xs us->Vals (xs.drop n) (us.drop n)
 |_,_,0,r=>r
 |_,_,_+1,.nil=>.nil
 |_,_,n+1,.cons _ t=>Vals.drop n t
def K4:Option V->Option Value->Prop
 |some v,some u=>RelV v u
 |none,none=>True
 |_,_=>False
def KV{κ:Type}:List (κ×V)->List (κ×Value)->Prop:=Paired λ(p:κ×V) (q:κ×Value)=>p.1=q.1/\RelV p.2 q.2
def kV:Key->V
 |.inl i=>.int i
 |.inr x=>.str x
inductive HO where
 |lst (xs:List V)
 |tup (xs:List V)
 |dK (kvs:List (Key×V))|dT (kvs:List (List Key×V))
 |set (S:Int->Bool) (n:Nat)
 |ins (C dx:Addr) (fs:List (Str×V))
 |own (x:Addr)
 |xd (fs:List (Str×V))
 |met (f x:Addr)
 |ng (lo hi:Int)
 |kq (o:Obj) (u:HO)
 |lV (ps:Array Value)
 |ext (φ:Heap->Prop)
noncomputable abbrev Hp:=Addr->Option HO
def upd(H:Hp)(a:Addr)(o:HO):Hp:=λb=>if b=a then some o else H b
theorem A1:upd H a o a=some o:=by unfold upd;rw[aG rfl]
theorem i6(h:b≠a):upd H a o b=H b:=by unfold upd;rw[aD h]
theorem YU{u:HO}(h:H a=some o)(h':H b=some u)(d:o≠u):a≠b:=by
 intro e;subst e;rw[h] at h';exact d (aP h')
theorem t8(h:H a=some o)(h':H b=none):a≠b:=by
 intro e;simp_all
def uI(h:Heap)(a:Addr)(items:Array Value):Prop:=∃o,h.get? a=some o/\o.cls=.type "tuple"/\(∃n,o.data=.seq items n)/\o.dict=none
theorem uI.tup{h:Heap}{a:Addr}{items:Array Value}(x:uI h a items):IsTup h a items:=let ⟨o,e,c,d,_⟩:=x;⟨o,e,c,d⟩
theorem uI.new(h:Heap)(items:Array Value):uI (h.push { cls:=.type "tuple",data:=.seq items }) h.objs.size items:=⟨_,aE _ rfl,rfl,⟨_,rfl⟩,rfl⟩
section
variable(P:Program)(w:World)
def u6(H:Hp)(h:Heap)(a:Addr):HO->Prop
 |.lst xs=>xs.length<=sizeLine/\∃(bw:List Value) (n:Nat),Vals xs bw/\h.get? a=some { cls:=.type "list",data:=.seq bw.toArray n }
 |.tup xs=>xs.length<=sizeLine/\∃bw:List Value,Vals xs bw/\uI h a bw.toArray
 |.dK kvs=>kvs.length<=sizeLine/\(a==sysModules)=false/\∃vs,KV kvs vs/\h.DictOf (s9 P w) a vs
 |.dT kvs=>kvs.length<=sizeLine/\(a==sysModules)=false/\∃xs:List (List Key×Addr×Value),
   Paired (λ(p:List Key×V) (q:List Key×Addr×Value)=>p.1=q.1/\H q.2.1=some (.tup (p.1.map kV))/\RelV p.2 q.2.2) kvs xs /\
   ∃o es ep,h.get? a=some o/\o.ExactDict/\o.data=.dict es ep/\es.toList=xs.map (entryOfKey (tupleKind (s9 P w)))/\(xs.map (·.1)).Nodup
 |.set S n=>h.SetOf (intKind P w) a S n
 |.ins C dx fs=>H dx=some (.own a)/\fs.length<=1000/\dx≠a/\h.get? a=some (PySem.W.instObj C dx) /\
   ∃mA,h.Ns1 dx mA/\(∀f,K4 (fs.lookup f) (mA f))/\PySem.Within mA (fs.map (·.1))
 |.own _=>∃o,h.get? a=some o
 |.xd fs=>∃mA,h.Ns1 a mA/\∀f,K4 (fs.lookup f) (mA f)
 |.ng lo hi=>∃t u v,h.get? a=some { cls:=.type "range",data:=.fields #[.int lo t,.int hi u,.int 1 v] }
 |.kq o u=>h.get? a=some o/\u6 H h a u
 |.lV ps=>h.get? a=some { cls:=.none,data:=.fields ps }
 |.met f x=>h.get? a=some (PySem.W.methodObj (.ref f) (.ref x))
 |.ext φ=>φ h/\(∃o,h.get? a=some o)/\∀h1 h2:Heap,φ h1->(∀o,h1.get? a=some o->h2.get? a=some o)->φ h2
def gK(H:Hp)(h:Heap):Prop:=∀a o,H a=some o->u6 P w H h a o
end
theorem u6.lt(x:u6 P w H h a o):a<h.objs.size:=by
 cases o with
 |lst xs=>obtain⟨_,_,_,_,e⟩:=x;exact az e
 |tup xs=>obtain⟨_,_,_,p⟩:=x;exact p.tup.lt
 |dK kvs=>obtain⟨_,_,_,_,o,_,_,e,_⟩:=x;exact az e
 |dT kvs=>obtain⟨_,_,_,_,o,_,_,e,_⟩:=x;exact az e
 |set S n=>obtain⟨o,_,_,_,e,_⟩:=x;exact az e
 |ins C dx fs=>obtain⟨_,_,_,e,_⟩:=x;exact az e
 |own y=>obtain⟨_,e⟩:=x;exact az e
 |xd fs=>obtain⟨_,⟨_,_,_,e,_⟩,_⟩:=x;exact az e
 |ng lo hi=>obtain⟨_,_,_,e⟩:=x;exact az e
 |kq ob u=>obtain⟨e,_⟩:=x;exact az e
 |lV ps=>exact az (show h.get? a=some _ from x)
 |met f y=>exact az (show h.get? a=some _ from x)
 |ext φ=>obtain⟨_,⟨_,e⟩,_⟩:=x;exact az e
theorem Paired.JI{β:Type}{F G:α->β->Prop}{vC:List α}{vB:List β}(h:Paired F vC vB)(f:∀a b,F a b->G a b):Paired G vC vB:=by
 induction h with
 |nil=>exact .nil
 |cons r t ih=>exact .cons (f _ _ r) ih
theorem u6.J8(x:u6 P w H h a o)(k:∀b u,(b=a\/H b=some (.own a))->h.get? b=some u->h'.get? b=some u)(ho:∀b,H b=some (.own a)->H' b=some (.own a))(ht:∀b xs,H b=some (.tup xs)->H' b=some (.tup xs)):u6 P w H' h' a o:=by
 induction o with
 |lst xs=>obtain⟨z,bw,n,r,e⟩:=x;exact⟨z,bw,n,r,k _ _ (.inl rfl) e⟩
 |tup xs=>obtain⟨z,bw,r,ob,e,c⟩:=x;exact⟨z,bw,r,ob,k _ _ (.inl rfl) e,c⟩
 |dK kvs=>obtain⟨z,y,vs,r,ob,es,ep,e,c⟩:=x;exact⟨z,y,vs,r,ob,es,ep,k _ _ (.inl rfl) e,c⟩
 |dT kvs =>
  obtain⟨z,y,xs,r,ob,es,ep,e,c⟩:=x;exact⟨z,y,xs,Paired.JI r λp q z=>⟨z.1,ht _ _ z.2.1,z.2.2⟩,ob,es,ep,k _ _ (.inl rfl) e,c⟩
 |set S n=>obtain⟨ob,es,ep,t,e,c⟩:=x;exact⟨ob,es,ep,t,k _ _ (.inl rfl) e,c⟩
 |ins C dx fs =>
  obtain⟨d,z,ne,e,mA,⟨od,es,ep,e2,c⟩,r⟩:=x;exact⟨ho _ d,z,ne,k _ _ (.inl rfl) e,mA,⟨od,es,ep,k _ _ (.inr d) e2,c⟩,r⟩
 |own y=>obtain⟨ob,e⟩:=x;exact⟨ob,k _ _ (.inl rfl) e⟩
 |xd fs=>obtain⟨mA,⟨od,es,ep,e,c⟩,r⟩:=x;exact⟨mA,⟨od,es,ep,k _ _ (.inl rfl) e,c⟩,r⟩
 |ng lo hi=>obtain⟨t,u,v,e⟩:=x;exact⟨t,u,v,k _ _ (.inl rfl) e⟩
 |kq ob u ih=>obtain⟨e,q⟩:=x;exact⟨k _ _ (.inl rfl) e,ih q⟩
 |lV ps =>
  have e:h.get? a=some { cls:=.none,data:=.fields ps }:=x;exact k a _ (.inl rfl) e
 |met f y =>
  have e:h.get? a=some (PySem.W.methodObj (.ref f) (.ref y)):=x;exact k a _ (.inl rfl) e
 |ext φ=>obtain⟨p,⟨o,e⟩,st⟩:=x;exact⟨st _ _ p λo q=>k _ _ (.inl rfl) q,⟨o,k _ _ (.inl rfl) e⟩,st⟩
theorem gK.lt(x:gK P w H h)(e:H a=some o):a<h.objs.size:=(x a o e).lt
theorem gK.fresh(x:gK P w H h)(e:h.objs.size<=a):H a=none:=by
 cases q:H a with
 |none=>rfl
 |some u=>exact absurd (aB (x.lt q) e) (cc _)
theorem gK.kept(x:gK P w H h)(k:∀b u,h.get? b=some u->h'.get? b=some u):gK P w H h':=λa o e =>
 (x a o e).J8 (λb u _ q=>k b u q) (λ_ q=>q) λ_ _ q=>q
theorem gK.laid(x:gK P w H h)(k:∀b u,h.get? b=some u->h'.get? b=some u)(hp:h.objs.size<=a)(new:u6 P w (upd H a o) h' a o):gK P w (upd H a o) h':=λb u e=>by
 have hn:=x.fresh hp;by_cases hb:b=a
 ·subst hb;rw[A1] at e;simp_all
 ·rw[i6 hb] at e;exact(x b u e).J8 (λc v _ q=>k c v q) (λc q=>by rw[i6 (t8 q hn)];exact q) λc xs q=>by rw[i6 (t8 q hn)];exact q
def Rd(H:Hp)(a:Addr)(u:HO):Prop:=H a=some u\/∃o,H a=some (.kq o u)
theorem Rd.ok{u:HO}(r:Rd H a u)(x:gK P w H h):u6 P w H h a u:=by
 rcases r with r|⟨o,r⟩
 ·exact x a u r
 ·obtain⟨_,q⟩:=x a _ r;exact q
def xP:Option HO->Prop
 |some (.lst _)=>True
 |some (.dK _)=>True
 |some (.dT _)=>True
 |some (.set _ _)=>True
 |some (.ins _ _ _)=>True
 |some (.ext _)=>True
 |_=>False
section
variable{x e:Addr}{o':HO}
theorem gK.write(ok:gK P w H h)(mu:xP (H x))(he:e=x\/H e=some (.own x))(k:∀b u,b≠e->h.get? b=some u->h'.get? b=some u)(rO:∃u,h'.get? e=some u)(new:u6 P w (upd H x o') h' x o'):gK P w (upd H x o') h':=λb u q=>by
 have vp:∀c y,H c=some (.own y)->c≠x:=λc y r z=>by subst z;rw[r] at mu;exact mu
 have Be:∀c xs,H c=some (.tup xs)->c≠x:=λc xs r z=>by subst z;rw[r] at mu;exact mu
 by_cases hb:b=x
 ·subst hb;rw[A1] at q;cases q;exact new
 ·rw[i6 hb] at q;by_cases tX:b=e
  ·have q':H b=some (.own x):=by
    rcases he with z|z
    ·exact absurd (tX.trans z) hb
    ·rw[tX];exact z
   rw[q] at q';cases q';obtain⟨v,hv⟩:=rO;exact⟨v,by rw[tX];exact hv⟩
  ·refine(ok b u q).J8 (λc v hc r=>k c v ?_ r) (λc r=>by rw[i6 (vp c b r)];exact r) λc xs r=>by rw[i6 (Be c xs r)];exact r
   rcases hc with rfl|hc
   ·exact tX
   ·rintro rfl;rcases he with z|z
    ·exact vp c b hc z
    ·rw[hc] at z;cases z;exact hb rfl
end
structure Un(fs ex:List Addr)(H H':Hp)(h h':Heap):Prop where
 keep:∀b o,h.get? b=some o->H b=none->b∉fs->b∉ex->h'.get? b=some o
 slot:∀b o,h.get? b=some o->H b=none->b∈fs->b∉ex->∃sl,h'.get? b=some { o with slots:=sl }
 free:∀b o,h.get? b=some o->H b=none->b∉ex->H' b=none
 there:∀b o,h.get? b=some o->b∉ex->∃o',h'.get? b=some o'
 iZ:∀b xs,H b=some (.tup xs)->H' b=some (.tup xs)
 iP:∀b o u,H b=some (.kq o u)->H' b=some (.kq o u)
 ja:∀b ps,H b=some (.lV ps)->∃more,H' b=some (.lV (ps++more))
section
variable{fs ex:List Addr}{H1:Hp}{h1:Heap}{x e:Addr}
theorem Un.any(u:Un fs ex H H1 h h1){ob:Obj}(q:h.get? b=some ob)(n:H b=none)(hx:b∉ex):∃sl,h1.get? b=some { ob with slots:=sl }:=by
 by_cases hb:b∈fs
 ·exact u.slot b ob q n hb hx
 ·exact⟨ob.slots,u.keep b ob q n hb hx⟩
theorem Un.kept(k:∀b u,h.get? b=some u->h'.get? b=some u):Un fs ex H H h h' :=
 ⟨λb ob q _ _ _=>k b ob q,λb ob q _ _ _=>⟨ob.slots,k b ob q⟩,λ_ _ _ n _=>n,λb ob q _=>⟨ob,k b ob q⟩,λ_ _ q=>q,λ_ _ _ q=>q,λ_ ps q=>⟨#[],by rw[q];simp⟩⟩
theorem Un.refl:Un fs ex H H h h:=Un.kept λ_ _ q=>q
theorem Un.laid(k:∀b u,h.get? b=some u->h'.get? b=some u)(hp:h.objs.size<=a)(hn:H a=none):Un fs ex H (upd H a o) h h' where
 keep:=λb u q _ _ _=>k b u q
 slot:=λb u q _ _ _=>⟨u.slots,k b u q⟩
 free:=λb u q n _=>by rw[i6 (aM (aB (az q) hp))];exact n
 there:=λb u q _=>⟨u,k b u q⟩
 iZ:=λb xs q=>by rw[i6 (t8 q hn)];exact q
 iP:=λb u xs q=>by rw[i6 (t8 q hn)];exact q
 ja:=λb ps q=>⟨#[],by rw[i6 (t8 q hn),q];simp⟩
theorem Un.write(mu:xP (H x))(he:e=x\/H e=some (.own x))(k:∀b u,b≠e->h.get? b=some u->h'.get? b=some u)(rO:∃u,h'.get? e=some u):Un fs ex H (upd H x o) h h':=by
 have hx:∀b,H b=none->b≠x:=λb n z=>by subst z;rw[n] at mu;exact mu
 have hb:∀b,H b=none->b≠e:=λb n z=>by
  simp_all
 have hm:∀b u,H b=some u->¬xP (some u)->b≠x:=λb u q nm z=>by simp_all
 refine ⟨λb u q n _ _=>k b u (hb b n) q,λb u q n _ _=>⟨u.slots,k b u (hb b n) q⟩,λb u q n _=>by rw [i6 (hx b n)];exact n,λb u q _=>?_,
  λb xs q=>by rw [i6 (hm b _ q λz=>z)];exact q,λb u xs q=>by rw [i6 (hm b _ q λz=>z)];exact q,λb ps q=>⟨#[],by rw [i6 (hm b _ q λz=>z),q];simp⟩⟩
 by_cases tX:b=e
 ·simp_all
 ·exact⟨u,k b u tX q⟩
end
def oS(h:Heap)(H:Hp):List Addr:=(List.range h.objs.size).filter λa=>(H a).isSome
def pR(h:Heap)(H:Hp):Heap:=PySem.W.hideAll h (oS h H)
theorem a33(h:Heap)(H:Hp):(pR h H).objs.size=h.objs.size:=PySem.W.hideAll_size _ _
theorem VV{o:Obj}(e:h.get? b=some o)(n:H b=none):(pR h H).get? b=some o :=
 FY _ e λhm=>by
  have q:(H b).isSome=true:=(bL.mp hm).2;rw[n] at q;simp at q
theorem Up{o:Obj}(e:(pR h H).get? b=some o):h.get? b=some o/\H b=none:=by
 have e':h.get? b=some o:=NQ (oS h H) e;refine⟨e',?_⟩;cases q:H b with
 |none=>rfl
 |some x =>
  have hm:b∈oS h H:=bL.mpr ⟨aS.mpr (az e'),by simp[q]⟩;have z:(pR h H).get? b=none:=PySem.W.hideAll_none (oS h H) hm
  simp_all
structure Mod(K:PySem.W.Frag)(mg:Str->Option Value)(base:Heap):Prop where
 ox:K.In base
 glob:base.Ns mainGlobals mg
 blt:∃mb,base.Ns builtinsNs mb/\∀x:Str,x≠"__name__"->mb x=bootBuiltins x
 nolimit:base.NoLimit
structure Cx where
 prog:Program
 w:World
 K:PySem.W.Frag
 mg:Str->Option Value
 base:Heap
 A:Around
 N:List Str
 dG:Shared
 jU:Hp
 env:Env
 outer:List Env
 stack:List Env
 ex:List Addr
 fn:Str->Bool
 calm:Bool
 pn:List (Addr×Obj)
 xe:Value->Shared->Prop
 sg:Option (List (Option V)):=none
def Cx.Nd(X:Cx):Prop:=X.N.Nodup/\X.sg=none
def gE(l:List Env):List Addr:=l.filterMap (·.frame)
noncomputable abbrev Cx.fs(X:Cx):List Addr:=gE X.outer
def xK(sc:Scope)(x:Str):Prop:=sc.names.lookup x=some .local\/sc.names.lookup x=some .cell\/sc.names.lookup x=some .free
def Loc(sc:Scope)(x:Str):Prop:=sc.names.lookup x=some .local\/sc.names.lookup x=some .cell
def Look(env:Env)(h:Heap)(m:Str->Option Value)(x:Str)(u:Value):Prop :=
 (env.kindOf x=some .local/\m x=some u)\/((env.kindOf x=some .cell\/env.kindOf x=some .free)/\∃c,env.cells.lookup x=some c/\h.IsCell c (some u))
structure Cx.Ok(X:Cx):Prop where
 mod:Mod X.K X.mg X.base
 kind:X.env.scope.kind=.function
 glob:X.env.globals=mainGlobals
 blt:X.env.builtins=builtinsNs
 above:X.dG.heap.objs.size<=X.env.locals
 inj:∀x y c,X.env.cells.lookup x=some c->X.env.cells.lookup y=some c->x=y
 has:∀x,(X.env.kindOf x=some .cell\/X.env.kindOf x=some .free)->∃c,X.env.cells.lookup x=some c
 qJ:∀x c,X.fn x=true->X.env.cells.lookup x=some c->X.dG.heap.objs.size<=c
 hd:X.calm=true->X.A.handled=none
 frames:X.A.frames=some X.stack
 qZ:X.stack=X.outer\/(X.stack=X.env::X.outer/\X.env.frame=some X.env.locals)
 wL:∀b∈X.ex,b≠X.env.locals/\∀x c,X.env.cells.lookup x=some c->c≠b
 bs:∀b o,X.base.get? b=some o->X.dG.heap.get? b=some o/\X.jU b=none
 oi:X.base.objs.size<=X.dG.heap.objs.size
 kS:∀b o,X.base.get? b=some o->b∉X.ex
 lS:∀b∈X.ex,b∉X.fs
 M6:X.dG.heap.FunFrames X.base X.outer
 oJ:∀b∈X.fs,X.jU b=none
structure Inv(X:Cx)(pins:List (Addr×Obj))(U:List (Option V))(H:Hp)(s:Shared):Prop where
 ok:X.Ok
 os:s.os=X.dG.os
 bare:AllBare s.gens
 base:Un X.fs X.ex X.jU H X.dG.heap s.heap
 loc:∃m,s.heap.Ns X.env.locals m/\∀(i:Nat) (x:Str) (v:V),X.N[i]?=some x->U[i]?=some (some v)->xK X.env.scope x->∃u,RelV v u/\Look X.env s.heap m x u
 cell:∀x c,X.env.cells.lookup x=some c->∃v,s.heap.IsCell c v
 free:H X.env.locals=none
 fc:∀x c,X.env.cells.lookup x=some c->H c=none
 pin:∀p∈X.pn++pins,s.heap.get? p.1=some p.2/\H p.1=none/\p.1≠X.env.locals/\p.1∉X.fs/\∀v,p.2.data≠.cell v
 bY:gK X.prog X.w H s.heap
 len:U.length=X.N.length
 sg:∀de,X.sg=some de->U=de
section
variable{U:List (Option V)}
theorem Cx.Ok.Xf(ok:X.Ok){o:Obj}(e:X.base.get? b=some o):b∉X.fs:=λhb=>by
 have:=(ok.M6.mem hb).1
 simp_all
theorem Inv.bs(I:Inv X pins U H s):∀b o,X.base.get? b=some o->s.heap.get? b=some o/\H b=none:=λb o e =>
 ⟨I.base.keep b o (I.ok.bs b o e).1 (I.ok.bs b o e).2 (I.ok.Xf e) (I.ok.kS b o e),I.base.free b o (I.ok.bs b o e).1 (I.ok.bs b o e).2 (I.ok.kS b o e)⟩
theorem Inv.bk(I:Inv X pins U H s):∀b o,X.base.get? b=some o->s.heap.get? b=some o:=λb o e=>(I.bs b o e).1
theorem Inv.mod(I:Inv X pins U H s):Mod X.K X.mg X.base:=I.ok.mod
theorem Inv.iG(I:Inv X pins U H s):X.K.In s.heap:=I.ok.mod.ox.keeps I.bk
theorem Inv.lt(I:Inv X pins U H s):X.env.locals<s.heap.objs.size:=let ⟨_,hn,_⟩:=I.loc;hn.lt
theorem Inv.sz(I:Inv X pins U H s):X.dG.heap.objs.size<=s.heap.objs.size:=aC I.ok.above (eV I.lt)
theorem Inv.Dn(I:Inv X pins U H s)(h:s.heap.objs.size<=a):a∉X.fs:=λhb=>by
 obtain⟨_,o,ho,_⟩:=I.ok.M6.mem hb;exact absurd (aB (az ho) (aC I.sz h)) (cc _)
theorem Inv.sC(I:Inv X pins U H s):∀x c,X.env.cells.lookup x=some c->c≠X.env.locals:=λx c e z=>by
 obtain⟨v,o,ho,hd⟩:=I.cell x c e;obtain⟨m,⟨o',es,ep,oA,HK,_⟩,_⟩:=I.loc
 simp_all
theorem Inv.M6(I:Inv X pins U H s):s.heap.FunFrames X.base X.outer:=by
 have all:∀(l:List Env),(∀b∈gE l,b∈X.fs)->X.dG.heap.FunFrames X.base l->s.heap.FunFrames X.base l:=by
  intro l
  induction l with
  |nil=>intro _ _;trivial
  |cons env r ih =>
   intro hs hl;obtain⟨hk,⟨L,o,hf,hn,ho,hd⟩,hr⟩:=hl;have hL:L∈X.fs:=hs L (by unfold gE;rw[eZ,hf];exact cZ);obtain⟨sl,e⟩:=I.base.slot L o ho (I.ok.oJ L hL) hL λz=>I.ok.lS L z hL;exact⟨hk,⟨L,_,hf,hn,e,hd⟩,ih (λb hb=>hs b (by unfold gE;rw[eZ,hf];exact bE _ hb)) hr⟩
 exact all X.outer (λ_ hb=>hb) I.ok.M6
theorem Inv.stack(I:Inv X pins U H s):s.heap.FunFrames X.base X.stack:=by
 rcases I.ok.qZ with e|⟨e,hf⟩
 ·rw[e];exact I.M6
 ·rw[e];obtain⟨m,hn,_⟩:=I.loc;refine .cons (by rw[I.ok.kind];decide) hf hn ?_ I.M6;exact Heap.get?_none_of_le (aC I.ok.oi I.ok.above)
theorem Inv.V0(I:Inv X pins U H s):∀b∈gE X.stack,b∈X.env.locals::X.fs:=λb hb=>by
 rcases I.ok.qZ with e|⟨e,hf⟩
 ·rw[e] at hb;exact bE _ hb
 ·rw[e] at hb;unfold gE at hb;rw[eZ,hf] at hb;exact hb
theorem Inv.zH(I:Inv X pins U H s):∀b∈gE X.stack,H b=none:=λb hb=>by
 rcases aJ.mp (I.V0 b hb) with e|hb
 ·rw[e];exact I.free
 ·obtain⟨_,o,ho,_⟩:=I.ok.M6.mem hb;exact I.base.free b o ho (I.ok.oJ b hb) λz=>I.ok.lS b z hb
theorem Inv.step{g':Array GenState}{t':Nat}{d':Drawn}{ch:List Addr}(I:Inv X pins U H s)(lZ:∀b∈ch,(b∈X.ex\/X.dG.heap.objs.size<=b)/\b≠X.env.locals/\(∀x c,X.env.cells.lookup x=some c->c≠b)/\∀p∈X.pn++pins,p.1≠b)(keep:∀b o,b≠X.env.locals->b∉X.fs->b∉ch->s.heap.get? b=some o->H b=none->h'.get? b=some o)(slot:∀b o,b≠X.env.locals->b∈X.fs->b∉ch->s.heap.get? b=some o->H b=none->∃sl,h'.get? b=some { o with slots:=sl })(free:∀b o,b∉ch->s.heap.get? b=some o->H b=none->H' b=none)(there:∀b o,b∉ch->s.heap.get? b=some o->∃o',h'.get? b=some o')(iZ:∀b xs,H b=some (.tup xs)->H' b=some (.tup xs))(iP:∀b o u,H b=some (.kq o u)->H' b=some (.kq o u))(ja:∀b ps,H b=some (.lV ps)->∃more,H' b=some (.lV (ps++more)))(ns:∀m,s.heap.Ns X.env.locals m->h'.Ns X.env.locals m)(bY:gK X.prog X.w H' h')(hg:AllBare g') :
  Inv X pins U H' { s with heap:=h',gens:=g',drawn:=d',toks:=t' }:=by
 have GJ:∀b o,X.dG.heap.get? b=some o->b≠X.env.locals:=λb o e=>aM (aB (az e) I.ok.above);have tL:∀b o,X.dG.heap.get? b=some o->b∉X.ex->b∉ch:=λb o e hx hb=>by
  rcases(lZ b hb).1 with z|z
  ·exact hx z
  ·exact absurd (aB (az e) z) (cc _)
 have cellK:∀x c,X.env.cells.lookup x=some c->∀v,s.heap.IsCell c v->h'.IsCell c v:=λx c e v bG=>by
  obtain⟨o,ho,hd⟩:=bG;have vy:c∉ch:=λz=>(lZ c z).2.2.1 x c e rfl;by_cases hc:c∈X.fs
  ·obtain⟨sl,q⟩:=slot c o (I.sC x c e) hc vy ho (I.fc x c e);exact⟨_,q,hd⟩
  ·exact⟨o,keep c o (I.sC x c e) hc vy ho (I.fc x c e),hd⟩
 refine⟨I.ok,I.os,hg,⟨λb o e n hb hx=>?_,λb o e n hb hx=>?_,λb o e n hx=>?_,λb o e hx=>?_,λb xs e=>iZ b xs (I.base.iZ b xs e),λb o xs e=>iP b o xs (I.base.iP b o xs e),λb ps e=>?_⟩,?_,λx c e=>?_,?_,λx c e=>?_,λp hp=>?_,bY,I.len,I.sg⟩
 ·exact keep b o (GJ b o e) hb (tL b o e hx) (I.base.keep b o e n hb hx) (I.base.free b o e n hx)
 ·obtain⟨sl,e1⟩:=I.base.slot b o e n hb hx;obtain⟨Ov,e2⟩:=slot b _ (GJ b o e) hb (tL b o e hx) e1 (I.base.free b o e n hx);exact⟨Ov,e2⟩
 ·obtain⟨o',e1⟩:=I.base.there b o e hx;exact free b o' (tL b o e hx) e1 (I.base.free b o e n hx)
 ·obtain⟨o',e1⟩:=I.base.there b o e hx;exact there b o' (tL b o e hx) e1
 ·obtain⟨m1,e1⟩:=I.base.ja b ps e;obtain⟨m2,e2⟩:=ja b _ e1;exact⟨m1++m2,by rw[e2,Array.append_assoc]⟩
 ·obtain⟨m,hn,hl⟩:=I.loc;refine⟨m,ns m hn,λi x v e1 e2 e3=>?_⟩;obtain⟨u,r,l⟩:=hl i x v e1 e2 e3;refine⟨u,r,?_⟩;rcases l with l|⟨k,c,e,z⟩
  ·exact .inl l
  ·exact .inr ⟨k,c,e,cellK x c e _ z⟩
 ·obtain⟨v,z⟩:=I.cell x c e;exact⟨v,cellK x c e v z⟩
 ·obtain⟨m,⟨o,_,_,ho,_⟩,_⟩:=I.loc;exact free _ o (λz=>(lZ _ z).2.1 rfl) ho I.free
 ·obtain⟨v,o,ho,hd⟩:=I.cell x c e;exact free c o (λz=>(lZ c z).2.2.1 x c e rfl) ho (I.fc x c e)
 ·obtain⟨e,n,ne,nf,d⟩:=I.pin p hp;have vy:p.1∉ch:=λz=>(lZ p.1 z).2.2.2 p hp rfl;exact⟨keep p.1 p.2 ne nf vy e n,free p.1 p.2 vy e n,ne,nf,d⟩
theorem Inv.un{t':Nat}(I:Inv X pins U H s)(u:Un X.fs [] H H' s.heap h')(bY:gK X.prog X.w H' h'):Inv X pins U H' { s with heap:=h',toks:=t' }:=by
 obtain⟨m,⟨o,es,ep,ho,r⟩,_⟩:=id I.loc;obtain⟨sl,hL⟩:=u.any ho I.free (by simp);exact I.step (g':=s.gens) (d':=s.drawn) (ch:=[]) (λ_ z=>nomatch z) (λb o _ hb _ e n=>u.keep b o e n hb (by simp)) (λb o _ hb _ e n=>u.slot b o e n hb (by simp)) (λb o _ e n=>u.free b o e n (by simp)) (λb o _ e=>u.there b o e (by simp)) u.iZ u.iP u.ja (λm' hm=>by
  obtain⟨o',pJ,CK,oA,r'⟩:=hm;rw[ho] at oA;cases oA;exact ⟨_,pJ,CK,hL,r'⟩) bY I.bare
theorem Inv.call{g':Array GenState}{t':Nat}{d':Drawn}(I:Inv X pins U H s)(u:Un (gE X.stack) ch H H' s.heap h')(bY:gK X.prog X.w H' h')(hg:AllBare g')(lZ:∀b∈ch,(b∈X.ex\/X.dG.heap.objs.size<=b)/\b≠X.env.locals/\(∀x c,X.env.cells.lookup x=some c->c≠b)/\∀p∈X.pn++pins,p.1≠b) :
  Inv X pins U H' { s with heap:=h',gens:=g',drawn:=d',toks:=t' }:=by
 obtain⟨m,⟨o,es,ep,ho,r⟩,_⟩:=id I.loc;obtain⟨sl,hL⟩:=u.any ho I.free λz=>(lZ _ z).2.1 rfl;exact I.step (ch:=ch) lZ (λb o hL hb hc e n=>u.keep b o e n (λz=>(aJ.mp (I.V0 b z)).elim hL hb) hc) (λb o _ _ hc e n=>u.any e n hc) (λb o hc e n=>u.free b o e n hc) (λb o hc e=>u.there b o e hc) u.iZ u.iP u.ja (λm' hm=>by
  obtain⟨o',pJ,CK,oA,r'⟩:=hm;rw[ho] at oA;cases oA;exact ⟨_,pJ,CK,hL,r'⟩) bY hg
theorem Inv.turned{t':Nat}{it:Addr}(I:Inv X pins U H s)(k:∀b o,b≠it->s.heap.get? b=some o->h'.get? b=some o)(hn:H it=none)(hL:it≠X.env.locals)(h1:it∈X.ex\/X.dG.heap.objs.size<=it)(h2:∀x c,X.env.cells.lookup x=some c->c≠it)(h3:∀p∈X.pn++pins,p.1≠it):Inv X pins U H { s with heap:=h',toks:=t' }:=by
 have GI:∀b u,H b=some u->b≠it:=λb u e z=>by simp_all
 refine I.step (g':=s.gens) (d':=s.drawn) (ch:=[it]) (λb hb=>?_) (λb o _ _ hc e _=>k b o (λz=>hc (by simp[z])) e) (λb o _ _ hc e _=>⟨o.slots,k b o (λz=>hc (by simp[z])) e⟩) (λ_ _ _ _ n=>n)
  (λb o hc e=>⟨o,k b o (λz=>hc (by simp[z])) e⟩) (λ_ _ e=>e) (λ_ _ _ e=>e) (λb ps e=>⟨#[],by rw[e];simp⟩) (λm hm=>?_) (λb u e=>?_) I.bare
 ·have e:b=it:=by simpa using hb
  subst e;exact⟨h1,hL,h2,h3⟩
 ·obtain⟨o,es,ep,ho,r⟩:=hm;exact⟨o,es,ep,k _ o (cq hL) ho,r⟩
 ·refine(I.bY b u e).J8 (λc v hc q=>k c v ?_ q) (λ_ q=>q) λ_ _ q=>q;rcases hc with z|z
  ·rw[z];exact GI b u e
  ·exact GI c _ z
theorem Inv.tok(I:Inv X pins U H s)(t:Nat):Inv X pins U H { s with toks:=t }:=I.un (h':=s.heap) (t':=t) Un.refl I.bY
theorem Inv.kept{t':Nat}(I:Inv X pins U H s)(k:∀b u,s.heap.get? b=some u->h'.get? b=some u):Inv X pins U H { s with heap:=h',toks:=t' }:=I.un (Un.kept k) (I.bY.kept k)
theorem Inv.laid{a:Addr}{o:HO}{t':Nat}(I:Inv X pins U H s)(k:∀b u,s.heap.get? b=some u->h'.get? b=some u)(hp:s.heap.objs.size<=a)(new:u6 X.prog X.w (upd H a o) h' a o) :
  Inv X pins U (upd H a o) { s with heap:=h',toks:=t' }:=I.un (Un.laid k hp (I.bY.fresh hp)) (I.bY.laid k hp new)
theorem Inv.write{x e:Addr}{o:HO}{t':Nat}(I:Inv X pins U H s)(mu:xP (H x))(he:e=x\/H e=some (.own x))(k:∀b u,b≠e->s.heap.get? b=some u->h'.get? b=some u)(rO:∃u,h'.get? e=some u)(new:u6 X.prog X.w (upd H x o) h' x o):Inv X pins U (upd H x o) { s with heap:=h',toks:=t' }:=I.un (Un.write mu he k rO) (I.bY.write mu he k rO new)
theorem Inv.weak{cw:List (Option V)}(hs:X.sg=none)(I:Inv X pins U H s)(hl:cw.length=U.length)(w:∀(i:Nat) v,cw[i]?=some (some v)->U[i]?=some (some v)):Inv X pins cw H s :=
 ⟨I.ok,I.os,I.bare,I.base,let ⟨m,hn,vZ⟩:=I.loc;⟨m,hn,λi x v e1 e2 e3=>vZ i x v e1 (w i v e2) e3⟩,I.cell,I.free,I.fc,I.pin,I.bY,hl.trans I.len,λ_ z=>by simp_all⟩
theorem Inv.Z8{gi:List (Addr×Obj)}(I:Inv X pins U H s)(h:∀p∈gi,s.heap.get? p.1=some p.2/\H p.1=none/\p.1≠X.env.locals/\p.1∉X.fs/\∀v,p.2.data≠.cell v):Inv X gi U H s :=
 ⟨I.ok,I.os,I.bare,I.base,I.loc,I.cell,I.free,I.fc,λp hp=>(aR.mp hp).elim (λz=>I.pin p (bz _ z)) (h p),I.bY,I.len,I.sg⟩
theorem MQ(hN:N.Nodup){j:Nat}(a:N[i]?=some x)(b:N[j]?=some x):i=j:=by
 obtain⟨h1,e1⟩:=av.mp a;obtain⟨h2,e2⟩:=av.mp b;exact(mz hN).mp (e1.trans e2.symm)
theorem Kj{Q:Unit->Shared->Prop}(I:Inv X pins U H s)(hN:X.Nd)(hi:X.N[i]?=some x)(hx:Loc X.env.scope x)(r:RelV v u)(h:∀s',Inv X pins (U.set i (some v)) H s'->(∃a,Heap.SameBut a s.heap s'.heap/\(a=X.env.locals\/X.env.cells.lookup x=some a))->Q Unit.unit s')(hf:X.fn x=true\/X.env.scope.names.lookup x=some .local:=by first|exact .inl rfl|exact .inr rfl|assumption):wpAny M A (storeName X.env x u) Q E s:=by
 obtain⟨m,hn,hl⟩:=id I.loc;have pA:(X.env.scope.kind==.class||(X.env.scope.kind==.module&&X.env.locals != X.env.globals))=false:=by rw[I.ok.kind];rfl
 have we:i<U.length:=by rw[I.len];exact(av.mp hi).1
 have sC:=I.sC;have tracked:∀{a:Addr} {h':Heap},(∃o,s.heap.get? a=some o/\H a=none)->Heap.SameBut a s.heap h'->gK X.prog X.w H h':=λ{a h'} ha hs b ob e=>by
  obtain⟨_,_,qv⟩:=ha;refine(I.bY b ob e).J8 (λc w' hc q=>(hs.2 c ?_).trans q) (λ_ q=>q) λ_ _ q=>q;rintro rfl;rcases hc with rfl|hc
  ·rw[qv] at e;cases e
  ·rw[qv] at hc;cases hc
 rcases hx with hk|hk
 ·refine wpAny_storeName_local hk hn (λh' PH hs=>?_) pA;obtain⟨oL,_,_,pe,_⟩:=id hn;refine h _ ⟨I.ok,I.os,I.bare,⟨λb o e n hb hx=>?_,λb o e n hb hx=>?_,I.base.free,λb o e hx=>?_,I.base.iZ,I.base.iP,I.base.ja⟩,⟨_,PH,λj y v' e1 e2 e3=>?_⟩,λy c e=>?_,I.free,I.fc,λp hp=>?_,tracked ⟨oL,pe,I.free⟩ hs,by simpa using I.len,λ_ z=>by rw[hN.2] at z;cases z⟩ ⟨_,hs,.inl rfl⟩
  ·exact(hs.2 b (aM (aB (az e) I.ok.above))).trans (I.base.keep b o e n hb hx)
  ·obtain⟨sl,e1⟩:=I.base.slot b o e n hb hx;exact⟨sl,(hs.2 b (aM (aB (az e) I.ok.above))).trans e1⟩
  ·obtain⟨o',e1⟩:=I.base.there b o e hx;exact⟨o',(hs.2 b (aM (aB (az e) I.ok.above))).trans e1⟩
  ·by_cases hj:j=i
   ·subst hj;rw[hi] at e1;cases e1;rw[bg we] at e2;cases e2;exact⟨u,r,.inl ⟨hk,by simp⟩⟩
   ·rw[ax (cq hj)] at e2;obtain⟨u',r',q⟩:=hl j y v' e1 e2 e3;refine⟨u',r',?_⟩;rcases q with⟨k,e⟩|⟨k,c,e,z⟩
    ·refine .inl ⟨k,?_⟩;have:y≠x:=λe=>hj (MQ hN.1 e1 (e▸hi));simp[this,e]
    ·exact .inr ⟨k,c,e,z.sameBut hs (sC y c e)⟩
  ·obtain⟨w',z⟩:=I.cell y c e;exact⟨w',z.sameBut hs (sC y c e)⟩
  ·obtain⟨e,n,ne,nf,d⟩:=I.pin p hp;exact⟨(hs.2 p.1 ne).trans e,n,ne,nf,d⟩
 ·have tV:X.fn x=true:=by
   simp_all
  obtain⟨c,hc⟩:=I.ok.has x (.inl hk);obtain⟨w',z⟩:=I.cell x c hc;refine wpAny_storeName_cell I.ok.kind hk hc z (λh' jK hs=>?_);obtain⟨oc,BA,Bz⟩:=id z;refine h { s with heap:=h' } ⟨I.ok,I.os,I.bare,⟨λb o e n hb hx=>?_,λb o e n hb hx=>?_,I.base.free,λb o e hx=>?_,I.base.iZ,I.base.iP,I.base.ja⟩,⟨m,hn.sameBut hs (cq (sC x c hc)),λj y v' e1 e2 e3=>?_⟩,λy c' e=>?_,I.free,I.fc,λp hp=>?_,tracked ⟨oc,BA,I.fc x c hc⟩ hs,by simpa using I.len,λ_ z=>by rw[hN.2] at z;cases z⟩ ⟨c,hs,.inr hc⟩
  ·exact(hs.2 b (aM (aB (az e) (I.ok.qJ x c tV hc)))).trans (I.base.keep b o e n hb hx)
  ·obtain⟨sl,e1⟩:=I.base.slot b o e n hb hx;exact⟨sl,(hs.2 b (aM (aB (az e) (I.ok.qJ x c tV hc)))).trans e1⟩
  ·obtain⟨o',e1⟩:=I.base.there b o e hx;exact⟨o',(hs.2 b (aM (aB (az e) (I.ok.qJ x c tV hc)))).trans e1⟩
  ·by_cases hj:j=i
   ·subst hj;rw[hi] at e1;cases e1;rw[bg we] at e2;cases e2;exact⟨u,r,.inr ⟨.inl hk,c,hc,jK⟩⟩
   ·rw[ax (cq hj)] at e2;obtain⟨u',r',q⟩:=hl j y v' e1 e2 e3;refine⟨u',r',?_⟩;rcases q with q|⟨k,c',e,z'⟩
    ·exact .inl q
    ·refine .inr ⟨k,c',e,z'.sameBut hs ?_⟩;rintro rfl;exact hj (MQ hN.1 e1 (I.ok.inj _ _ _ e hc▸hi))
  ·by_cases tW:c'=c
   ·subst tW;exact⟨_,jK⟩
   ·obtain⟨w2,z2⟩:=I.cell y c' e;exact⟨w2,z2.sameBut hs tW⟩
  ·obtain⟨e,n,ne,nf,d⟩:=I.pin p hp;refine⟨(hs.2 p.1 ?_).trans e,n,ne,nf,d⟩;intro q;rw[q,BA] at e;have q':oc=p.2:=aP e;exact d w' (by rw[<- q'];exact Bz)
theorem DQ{Q:Unit->Shared->Prop}(I:Inv X pins U H s)(hN:X.Nd)(hi:X.N[i]?=some x)(hx:Loc X.env.scope x)(r:RelV v u)(h:∀s',Inv X pins (U.set i (some v)) H s'->Q Unit.unit s')(hf:X.fn x=true\/X.env.scope.names.lookup x=some .local:=by first|exact .inl rfl|exact .inr rfl|assumption):wpAny M A (storeName X.env x u) Q E s :=
 Kj I hN hi hx r (λs' I' _=>h s' I') hf
theorem Inv.EA{s':Shared}(I:Inv X pins U H s)(ho:s'.os=s.os)(u:Un (gE X.stack) ch H H' s.heap s'.heap)(bY:gK X.prog X.w H' s'.heap)(hg:AllBare s'.gens)(lZ:∀b∈ch,(b∈X.ex\/X.dG.heap.objs.size<=b)/\b≠X.env.locals/\(∀x c,X.env.cells.lookup x=some c->c≠b)/\∀p∈X.pn++pins,p.1≠b):Inv X pins U H' s':=by
 obtain⟨h',g',d',t',o'⟩:=s';have e:o'=s.os:=ho;subst e;exact I.call (g':=g') (t':=t') (d':=d') u bY hg lZ
end
noncomputable abbrev XK:=Value->Option Addr->Hp->Prop
noncomputable abbrev St:=List (Option V)
noncomputable abbrev VK:=V->Hp->Prop
noncomputable abbrev TE:=St->Hp->VK->Prop
noncomputable abbrev TT:=St->Hp->(Bool->Hp->Prop)->Prop
noncomputable abbrev TA:=St->Hp->(List V->Hp->Prop)->Prop
structure Ends where
 nx:St->Hp->Prop
 rt:VK
 bk:St->Hp->Prop:=λ_ _=>False
 ct:St->Hp->Prop:=λ_ _=>False
noncomputable abbrev TS:=Ends->St->Hp->Prop
def EP(X:Cx)(pins:List (Addr×Obj))(U:St)(Q:VK)(u:Value)(s':Shared):Prop:=∃v H',Inv X pins U H' s'/\RelV v u/\Q v H'
def TP(X:Cx)(pins:List (Addr×Obj))(U:St)(Q:Bool->Hp->Prop)(b:Bool)(s':Shared):Prop:=∃H',Inv X pins U H' s'/\Q b H'
def AP(X:Cx)(pins:List (Addr×Obj))(U:St)(Q:List V->Hp->Prop)(us:List Value)(s':Shared):Prop:=∃vs H',Inv X pins U H' s'/\Vals vs us/\Q vs H'
def SP(X:Cx)(pins:List (Addr×Obj))(D:Ends)(f:Flow)(s':Shared):Prop :=
 match f with
 |.next=>∃cw H',Inv X pins cw H' s'/\D.nx cw H'
 |.brk=>∃cw H',Inv X pins cw H' s'/\D.bk cw H'
 |.cont=>∃cw H',Inv X pins cw H' s'/\D.ct cw H'
 |.ret u=>∃v cw H',Inv X pins cw H' s'/\RelV v u/\D.rt v H'
def PE(X:Cx)(e:Expr)(t:TE):Prop :=
 ∀(pins:List (Addr×Obj)) (s:Shared) (U:St) (H:Hp) (Q:VK),Inv X pins U H s->t U H Q->wpAny (model X.prog X.w) X.A (eval e X.env) (EP X pins U Q) X.xe s
def PT(X:Cx)(e:Expr)(t:TT):Prop :=
 ∀(pins:List (Addr×Obj)) (s:Shared) (U:St) (H:Hp) (Q:Bool->Hp->Prop),Inv X pins U H s->t U H Q->wpAny (model X.prog X.w) X.A (isTrue e X.env (eval e X.env)) (TP X pins U Q) X.xe s
def PW(X:Cx)(e:Expr)(t:TT):Prop :=
 ∀(whole:Sem Value) (pins:List (Addr×Obj)) (s:Shared) (U:St) (H:Hp) (Q:Bool->Hp->Prop),Inv X pins U H s->t U H Q->wpAny (model X.prog X.w) X.A (isTrue e X.env whole) (TP X pins U Q) X.xe s
theorem PW.pt{t:TT}(h:PW X e t):PT X e t:=h _
def PA(X:Cx)(es:List Expr)(t:TA):Prop :=
 ∀(pos:Pos) (pins:List (Addr×Obj)) (s:Shared) (U:St) (H:Hp) (Q:List V->Hp->Prop),Inv X pins U H s->t U H Q->wpAny (model X.prog X.w) X.A (spliced (backTo pos (starEach es X.env))) (AP X pins U Q) X.xe s
def PS(X:Cx)(st:Stmt)(t:TS):Prop :=
 ∀(pins:List (Addr×Obj)) (s:Shared) (U:St) (H:Hp) (D:Ends),Inv X pins U H s->t D U H->wpAny (model X.prog X.w) X.A (exec st X.env) (SP X pins D) X.xe s
def jL(X:Cx)(st:List Stmt)(t:TS):Prop :=
 ∀(pins:List (Addr×Obj)) (s:Shared) (U:St) (H:Hp) (D:Ends),Inv X pins U H s->t D U H->wpAny (model X.prog X.w) X.A (execs st X.env) (SP X pins D) X.xe s
theorem cV{t:Sem α}{Q Q':α->Shared->Prop}(h:wpAny M A t Q E s)(hQ:∀a s,Q a s->Q' a s):wpAny M A t Q' E s:=bH h hQ λ_ _ x=>x
section
def XM(i:Nat):TE:=λU H Q=>∃v,U[i]?=some (some v)/\Q v H
def tC(v:V):TE:=λ_ H Q=>Q v H
theorem Sf(hN:X.N[i]?=some x)(hv:xK X.env.scope x)(hd:(x==("__debug__":Str))=false:=by decide)(mJ:(x==("__classdict__":Str))=false:=by decide):PE X (.Name x pos) (XM i):=by
 intro pins s U H Q I h;obtain⟨v,e,h⟩:=h;obtain⟨m,hn,hl⟩:=I.loc;obtain⟨u,r,l⟩:=hl i x v hN e hv;have fin:EP X pins U Q u s:=⟨v,H,I,r,h⟩
 rcases l with⟨hk,hm⟩|⟨hk,c,hc,mf⟩
 ·exact wpAny_Name (wpAny_loadName_local I.ok.kind hk hn hm fin) hd
 ·rcases hk with hk|hk
  ·exact wpAny_Name (wpAny_loadName_cell I.ok.kind hk hc mf fin) hd
  ·exact wpAny_Name (wpAny_loadName_free I.ok.kind hk hc mf fin mJ) hd
theorem RX{i j pos}:PE X (.Constant (.int i) j pos) (tC (.int i)):=λ_ _ _ H _ I h=>wpAny_Constant_int ⟨.int i,H,I.tok _,⟨_,rfl⟩,h⟩
theorem Zc{b j pos}:PE X (.Constant (.bool b) j pos) (tC (.bl b)):=λ_ _ _ H _ I h=>Constant_bool ⟨.bl b,H,I,rfl,h⟩
theorem RZ{j pos}:PE X (.Constant .none j pos) (tC .bD):=λ_ _ _ H _ I h=>Constant_none ⟨.bD,H,I,rfl,h⟩
theorem Sd{x j pos}:PE X (.Constant (.str x) j pos) (tC (.str x)):=λ_ _ _ H _ I h=>Calls.Constant_str ⟨.str x,H,I.tok _,⟨_,rfl⟩,h⟩
def Gl(X:Cx)(x:Str):Prop:=X.env.kindOf x=some .globalImplicit
theorem P7(I:Inv X pins U H s)(hg:Gl X x)(hm:X.mg x=some u)(h:Q u s)(hd:(x==("__debug__":Str))=false:=by decide):wpAny (model X.prog X.w) X.A (eval (.Name x pos) X.env) Q E s :=
 AG I.ok.kind hg (Calls.loadGlobal_global (by rw[I.ok.glob];exact I.mod.glob.keeps I.bk) hm h) hd
theorem O2(I:Inv X pins U H s)(hg:Gl X x)(hm:X.mg x=none)(hv:bootBuiltins x=some u)(h:Q u s)(hn:x≠"__name__":=by decide)(hd:(x==("__debug__":Str))=false:=by decide):wpAny (model X.prog X.w) X.A (eval (.Name x pos) X.env) Q E s:=by
 obtain⟨mb,h1,h2⟩:=I.mod.blt;exact AG I.ok.kind hg (Calls.loadGlobal_builtin (by rw[I.ok.glob];exact I.mod.glob.keeps I.bk) hm (by rw[I.ok.blt];exact h1.keeps I.bk) ((h2 x hn).trans hv) h) hd
theorem Mo(hg:Gl X x)(hm:X.mg x=some u)(r:RelV v u)(hd:(x==("__debug__":Str))=false:=by decide):PE X (.Name x pos) (tC v) :=
 λ_ _ _ H _ I h=>P7 I hg hm ⟨v,H,I,r,h⟩ hd
theorem Uy(hg:Gl X x)(hm:X.mg x=none)(hv:bootBuiltins x=some u)(r:RelV v u)(hn:x≠"__name__":=by decide)(hd:(x==("__debug__":Str))=false:=by decide):PE X (.Name x pos) (tC v) :=
 λ_ _ _ H _ I h=>O2 I hg hm hv ⟨v,H,I,r,h⟩ hn hd
variable{a b:Expr}
variable{tA yg:TT}{rest:List Expr}
def Xy(t u:TT):TT:=λU H Q=>t U H λc H1=>if c=true then u U H1 Q else Q false H1
def Oj(t u:TT):TT:=λU H Q=>t U H λc H1=>if c=true then Q true H1 else u U H1 Q
def XF(t:TT):TT:=λU H Q=>t U H λc H1=>Q (!c) H1
theorem US(ha:PT X a tA):PW X (.BoolOp .And [a] pos) tA:=by
 intro wh pins s U H Q I h;refine isTrue_and (cV (ha pins s U H Q I h) λc s1 e=>?_);cases c with
 |true=>exact isTrue_and_nil e
 |false=>exact e
theorem Sw(ha:PT X a tA):PW X (.BoolOp .Or [a] pos) tA:=by
 intro wh pins s U H Q I h;refine isTrue_or (cV (ha pins s U H Q I h) λc s1 e=>?_);cases c with
 |false=>exact isTrue_or_nil e
 |true=>exact e
theorem Sv(ha:PT X a tA)(hb:PW X (.BoolOp .And (b::rest) pos) yg):PW X (.BoolOp .And (a::b::rest) pos) (Xy tA yg):=by
 intro wh pins s U H Q I h;refine isTrue_and (cV (ha pins s U H _ I h) λc s1 ⟨H1,I1,q1⟩=>?_);cases c with
 |true=>exact hb wh pins s1 U H1 Q I1 q1
 |false=>exact⟨H1,I1,q1⟩
theorem Zj(ha:PT X a tA)(hb:PW X (.BoolOp .Or (b::rest) pos) yg):PW X (.BoolOp .Or (a::b::rest) pos) (Oj tA yg):=by
 intro wh pins s U H Q I h;refine isTrue_or (cV (ha pins s U H _ I h) λc s1 ⟨H1,I1,q1⟩=>?_);cases c with
 |true=>exact⟨H1,I1,q1⟩
 |false=>exact hb wh pins s1 U H1 Q I1 q1
theorem Su(ha:PT X a tA):PT X (.UnaryOp .Not a pos) (XF tA):=by
 intro pins s U H Q I h;exact isTrue_not (ha pins s U H (λc H1=>Q (!c) H1) I h)
def Zu(ta tb:TE):TE:=λU H Q=>ta U H λx H1=>∃c,x=.bl c/\if c=true then tb U H1 Q else Q (.bl false) H1
def XG(ta tb:TE):TE:=λU H Q=>ta U H λx H1=>∃c,x=.bl c/\if c=true then Q (.bl true) H1 else tb U H1 Q
def Zx(ta:TE):TE:=λU H Q=>ta U H λx H1=>∃c,x=.bl c/\Q (.bl (!c)) H1
theorem Sb{op}{t:TE}(h:PE X a t):PE X (.BoolOp op [a] pos) t:=λpins s U H Q I hw=>BoolOp_one (h pins s U H Q I hw)
theorem RT(ha:PE X a ta)(hb:PE X (.BoolOp .And (b::rest) pos) tb):PE X (.BoolOp .And (a::b::rest) pos) (Zu ta tb):=by
 intro pins s U H Q I h;refine BoolOp_and (cV (ha pins s U H _ I h) λv s1 bG=>?_);obtain⟨x,H1,I1,r1,q1⟩:=bG;obtain⟨c,rfl,q1⟩:=q1;cases r1;refine cO ?_;cases c with
 |true=>exact hb pins s1 U H1 Q I1 q1
 |false=>exact⟨.bl false,H1,I1,rfl,q1⟩
theorem Zf(ha:PE X a ta)(hb:PE X (.BoolOp .Or (b::rest) pos) tb):PE X (.BoolOp .Or (a::b::rest) pos) (XG ta tb):=by
 intro pins s U H Q I h;refine BoolOp_or (cV (ha pins s U H _ I h) λv s1 bG=>?_);obtain⟨x,H1,I1,r1,q1⟩:=bG;obtain⟨c,rfl,q1⟩:=q1;cases r1;refine cO ?_;cases c with
 |false=>exact hb pins s1 U H1 Q I1 q1
 |true=>exact⟨.bl true,H1,I1,rfl,q1⟩
theorem Sa(ha:PE X a ta):PE X (.UnaryOp .Not a pos) (Zx ta):=by
 intro pins s U H Q I h;refine UnaryOp_ (cV (ha pins s U H _ I h) λv s1 bG=>?_);obtain⟨x,H1,I1,r1,q1⟩:=bG;obtain⟨c,rfl,q1⟩:=q1;cases r1;exact not_of (cO ⟨.bl (!c),H1,I1,rfl,q1⟩)
def Ol(t:TT)(ta tb:TE):TE:=λU H Q=>t U H λc H1=>if c=true then ta U H1 Q else tb U H1 Q
theorem Wq(hc:PT X c tA)(ha:PE X a ta)(hb:PE X b tb):PE X (.IfExp c a b pos) (Ol tA ta tb):=by
 intro pins s U H Q I h;refine wpAny_IfExp (cV (hc pins s U H _ I h) λd s1 ⟨H1,I1,q1⟩=>?_);cases d with
 |true=>exact ha pins s1 U H1 Q I1 q1
 |false=>exact hb pins s1 U H1 Q I1 q1
end
def gn(K:PySem.W.Frag)(H:Hp)(a:Addr)(xs:List V):Prop :=
 Rd H a (.lst xs) \/
  ∃(o:Obj) (bw:Array Value) (n:Nat),K.lookup a=some o/\o.cls=.type "list"/\o.dict=none/\o.data=.seq bw n/\bw.size<=sizeLine/\Vals xs bw.toList
def kx(K:PySem.W.Frag)(H:Hp)(a:Addr)(xs:List V):Prop :=
 Rd H a (.tup xs) \/
  ∃(o:Obj) (bw:Array Value) (n:Nat),K.lookup a=some o/\o.cls=.type "tuple"/\o.data=.seq bw n/\bw.size<=sizeLine/\Vals xs bw.toList
def Wx:Value->Option V
 |.none=>some .bD
 |.bool b=>some (.bl b)
 |.int i _=>some (.int i)
 |.str x _=>some (.str x)
 |.bytes b _=>some (.ml b)
 |.float b _=>some (.sk b)
 |.ref a=>some (.ref a)
 |.type n=>some (.ty n)
 |_=>none
theorem RelV.abs{x:V}(r:RelV x u):Wx u=some x:=by
 cases x with
 |bD=>cases r;rfl
 |bl _=>cases r;rfl
 |int _=>obtain⟨t,rfl⟩:=r;rfl
 |str _=>obtain⟨t,rfl⟩:=r;rfl
 |ml _=>obtain⟨t,rfl⟩:=r;rfl
 |sk _=>obtain⟨t,rfl⟩:=r;rfl
 |ref _=>cases r;rfl
 |ty _=>cases r;rfl
theorem RelV.inj{x y:V}{u:Value}(r:RelV x u)(q:RelV y u):x=y:=aP (r.abs.symm.trans q.abs)
theorem Vals.inj{xs ys:List V}{us:List Value}(h:Vals xs us)(h':Vals ys us):xs=ys:=by
 induction h generalizing ys with
 |nil=>cases h';rfl
 |cons r t ih =>
  cases h' with
  |cons r' t'=>rw[r.inj r',ih t']
section
variable{ys:List V}
theorem gn.of(h:H a=some (.lst xs)):gn K H a xs:=.inl (.inl h)
theorem Inv.list(I:Inv X pins U H s)(h:gn X.K H a xs):∃bw:List Value,Vals xs bw/\PlainL s.heap a bw.toArray/\xs.length<=sizeLine:=by
 rcases h with h|⟨o,bw,n,hk,hc,hd,hs,hz,r⟩
 ·obtain⟨z,bw,n,r,e⟩:=h.ok I.bY;exact⟨bw,r,⟨_,n,e,rfl,rfl,rfl⟩,z⟩
 ·refine⟨bw.toList,r,⟨o,n,I.iG a o hk,hc,hd,by simpa using hs⟩,?_⟩;have e:=r.length
  grind
theorem Inv.tuple(I:Inv X pins U H s)(h:kx X.K H a xs):∃bw:List Value,Vals xs bw/\IsTup s.heap a bw.toArray/\xs.length<=sizeLine:=by
 rcases h with h|⟨o,bw,n,hk,hc,hs,hz,r⟩
 ·obtain⟨z,bw,r,p⟩:=h.ok I.bY;exact⟨bw,r,p.tup,z⟩
 ·refine⟨bw.toList,r,⟨o,I.iG a o hk,hc,n,by simpa using hs⟩,?_⟩;have e:=r.length;simp only[Array.length_toList] at e;omega
theorem Inv.DK(I:Inv X pins U H s)(h:gn X.K H a xs)(h':gn X.K H a ys):xs=ys:=by
 obtain⟨bw,r,⟨o,n,e,_,_,d⟩,_⟩:=I.list h;obtain⟨its',r',⟨o',n',e',_,_,d'⟩,_⟩:=I.list h';rw[e] at e';cases e';rw[d] at d';injection d' with d1 _;have:bw=its':=by simpa using gR Array.toList d1
 subst this;exact r.inj r'
theorem Inv.aY1(I:Inv X pins U H s)(h:kx X.K H a xs)(h':kx X.K H a ys):xs=ys:=by
 obtain⟨bw,r,⟨o,e,_,n,d⟩,_⟩:=I.tuple h;obtain⟨its',r',⟨o',e',_,n',d'⟩,_⟩:=I.tuple h';rw[e] at e';cases e';rw[d] at d';injection d' with d1 _;have:bw=its':=by simpa using gR Array.toList d1
 subst this;exact r.inj r'
end
noncomputable abbrev Cx.pX(X:Cx)(E:Value->Shared->Prop):Cx:={ X with xe:=E }
theorem Cx.Ok.pX{X:Cx}(ok:X.Ok)(E:Value->Shared->Prop):(X.pX E).Ok :=
 ⟨ok.mod,ok.kind,ok.glob,ok.blt,ok.above,ok.inj,ok.has,ok.qJ,ok.hd,ok.frames,ok.qZ,ok.wL,ok.bs,ok.oi,ok.kS,ok.lS,ok.M6,ok.oJ⟩
theorem Cx.Ok.FC(ok:(X.pX E).Ok):X.Ok :=
 ⟨ok.mod,ok.kind,ok.glob,ok.blt,ok.above,ok.inj,ok.has,ok.qJ,ok.hd,ok.frames,ok.qZ,ok.wL,ok.bs,ok.oi,ok.kS,ok.lS,ok.M6,ok.oJ⟩
theorem Inv.pX(I:Inv X pins U H s)(E:Value->Shared->Prop):Inv (X.pX E) pins U H s:=⟨I.ok.pX E,I.os,I.bare,I.base,I.loc,I.cell,I.free,I.fc,I.pin,I.bY,I.len,I.sg⟩
theorem Inv.FC(I:Inv (X.pX E) pins U H s):Inv X pins U H s:=⟨I.ok.FC,I.os,I.bare,I.base,I.loc,I.cell,I.free,I.fc,I.pin,I.bY,I.len,I.sg⟩
section
variable{st:Stmt}{rest:List Stmt}{t u:TS}
def Jx:TS:=λD U H=>D.nx U H
def XI(t u:TS):TS:=λD U H=>t { D with nx:=u D } U H
theorem UN:jL X [] Jx:=λ_ _ U H _ I h=>ky ⟨U,H,I,h⟩
theorem a95(h1:PS X st t)(h2:jL X rest u):jL X (st::rest) (XI t u):=by
 intro pins s U H D I h;refine wpAny_execs_cons (cV (h1 pins s U H { D with nx:=u D } I h) λf s1 q=>?_);cases f with
 |next =>
  obtain⟨cw,H',I',q⟩:=q;exact h2 pins s1 cw H' D I' q
 |ret v=>exact q
 |brk=>exact q
 |cont=>exact q
theorem UL:PS X (.Pass pos) Jx:=λ_ _ U H _ I h=>wpAny_Pass ⟨U,H,I,h⟩
theorem Inv.quiet(I:Inv X pins U H s):interactive X.env=false:=by simp[interactive,I.ok.kind]
def Zw(te:TE):TS:=λD U H=>te U H λ_ H1=>D.nx U H1
theorem UK(he:PE X e te)(hs:swapsWith e none pos.line X.env=pure false:=by rfl):PS X (.Expr e pos) (Zw te):=by
 intro pins s U H D I h;exact wpAny_Expr_any (cV (he pins s U H _ I h) λv s1 ⟨x,H1,I1,r1,q1⟩=>⟨U,H1,I1,q1⟩) I.quiet hs
def XH(te:TE):TS:=λD U H=>te U H D.rt
theorem Sr(he:PE X e te):PS X (.Return (some e) pos) (XH te):=by
 intro pins s U H D I h;exact wpAny_Return_some (cV (he pins s U H _ I h) λv s1 ⟨x,H1,I1,r1,q1⟩=>⟨x,U,H1,I1,r1,q1⟩)
def Zz:TS:=λD _ H=>D.rt .bD H
theorem UM:PS X (.Return none pos) Zz:=λ_ _ U H _ I h=>wpAny_Return_none ⟨.bD,U,H,I,rfl,h⟩
def XD(c:TT)(t u:TS):TS:=λD U H=>c U H λb H1=>if b=true then t D U H1 else u D U H1
theorem Zi{a b:List Stmt}{tc:TT}(hc:PT X c tc)(ha:jL X a t)(hb:jL X b u):PS X (.If c a b pos) (XD tc t u):=by
 intro pins s U H D I h;refine wpAny_If (cV (hc pins s U H _ I h) λd s1 ⟨H1,I1,q1⟩=>?_);cases d with
 |true=>exact ha pins s1 U H1 D I1 q1
 |false=>exact hb pins s1 U H1 D I1 q1
end
noncomputable abbrev TG:=V->St->Hp->(St->Hp->Prop)->Prop
noncomputable abbrev qP:=List V->St->Hp->(St->Hp->Prop)->Prop
def PG(X:Cx)(target:Expr)(t:TG):Prop :=
 ∀(pins:List (Addr×Obj)) (s:Shared) (U:St) (H:Hp) (v:V) (u:Value) (Q:St->Hp->Prop),Inv X pins U H s->RelV v u->t v U H Q ->
  wpAny (model X.prog X.w) X.A (assign target X.env u) (λ_ s'=>∃cw H',Inv X pins cw H' s'/\Q cw H') X.xe s
def xN(X:Cx)(ts:List Expr)(t:qP):Prop :=
 ∀(pins:List (Addr×Obj)) (s:Shared) (U:St) (H:Hp) (vs:List V) (us:List Value) (Q:St->Hp->Prop),Inv X pins U H s->Vals vs us->t vs U H Q ->
  wpAny (model X.prog X.w) X.A (assignInOrder ((assignEach ts X.env).map (·.2)) us) (λ_ s'=>∃cw H',Inv X pins cw H' s'/\Q cw H') X.xe s
noncomputable abbrev De:=V->V->V->Hp->(Hp->Prop)->Prop
def Dd(X:Cx)(t:De):Prop :=
 ∀(pins:List (Addr×Obj)) (s:Shared) (U:St) (H:Hp) (o i v:V) (ov iv u:Value) (Q:Hp->Prop),Inv X pins U H s->RelV o ov->RelV i iv->RelV v u->t o i v H Q ->
  wpAny (model X.prog X.w) X.A (setItem ov iv u) (λ_ s'=>∃H',Inv X pins U H' s'/\Q H') X.xe s
noncomputable abbrev FK:=V->V->Hp->VK->Prop
def NB(X:Cx)(op:Operator)(t:FK):Prop :=
 ∀(pins:List (Addr×Obj)) (s:Shared) (U:St) (H:Hp) (x y:V) (v u:Value) (Q:VK),Inv X pins U H s->RelV x v->RelV y u->t x y H Q ->
  wpAny (model X.prog X.w) X.A (inplaceOp op v u) (EP X pins U Q) X.xe s
def uC(i:Nat):TG:=λv U H Q=>Q (U.set i (some v)) H
theorem Mp(hN:X.Nd)(hi:X.N[i]?=some x)(hx:Loc X.env.scope x)(hf:X.fn x=true\/X.env.scope.names.lookup x=some .local:=by first|exact .inl rfl|exact .inr rfl|assumption):PG X (.Name x pos) (uC i):=by
 intro pins s U H v u Q I r h;exact wpAny_assign_Name (DQ I hN hi hx r (λs' I'=>⟨_,H,I',h⟩) hf)
def JD:qP:=λvs U H Q=>vs=[]/\Q U H
def Jg(t:TG)(u:qP):qP:=λvs U H Q=>∃v r,vs=v::r/\t v U H λcw H'=>u r cw H' Q
theorem UD:xN X [] JD:=by
 intro pins s U H vs us Q I r h;obtain⟨e,h⟩:=h;exact assignInOrder_nil ⟨U,H,I,h⟩
theorem a99{t:TG}{u:qP}(h1:PG X e t)(h2:xN X es u)(hs:(assignEach (e::es) X.env).map (·.2)=assign e X.env::(assignEach es X.env).map (·.2):=by rfl):xN X (e::es) (Jg t u):=by
 intro pins s U H vs us Q I r h;obtain⟨v,vr,e1,h⟩:=h;subst e1;cases r with
 |cons r rr =>
  rw[hs];refine assignInOrder_cons (cV (h1 pins s U H _ _ _ I r h) λ_ s1 bG=>?_);obtain⟨jj,H1,I1,q1⟩:=bG;exact h2 pins s1 jj H1 _ _ Q I1 rr q1
def WO(K:PySem.W.Frag)(n:Nat)(t:qP):TG:=λv U H Q=>∃a xs,v=.ref a/\kx K H a xs/\xs.length=n/\t xs U H Q
theorem Si{t:qP}{n:Nat}(hc:X.calm=true)(h:xN X es t)(hn:(assignEach es X.env).length=n:=by rfl)(eT:(assignEach es X.env).findIdx? (·.1)=none:=by rfl):PG X (.Tuple es k pos) (WO X.K n t):=by
 intro pins s U H v u Q I r hw;obtain⟨a,xs,e1,hq,hl,hw⟩:=hw;subst e1;cases r;obtain⟨bw,rv,ht,hz⟩:=I.tuple hq;refine assign_Tuple_tuple (I.ok.hd hc) ht (by simp[hn,<- hl,rv.length]) eT λh' hx=>?_;have I1:Inv X pins U H { s with heap:=h' }:=I.kept (t':=s.toks) λb o e=>hx b o (aM (az e)) e;exact h pins _ U H xs _ Q I1 (by simpa using rv) hw
def WN(to ti:TE)(t:De):TG:=λv U H Q=>to U H λo H1=>ti U H1 λi H2=>t o i v H2 λH3=>Q U H3
theorem Sg{o i:Expr}{to ti:TE}{t:De}(ho:PE X o to)(hi:PE X i ti)(hs:Dd X t)(ha:∀ v,assign (.Subscript o i pos) X.env v=(do
   let ov <- holding [v] (eval o X.env)
   let iv <- holding [v,ov] (eval i X.env)
   standAt pos
   holding [v,ov,iv] (setItem ov iv v)
   release [v,ov,iv] []):=by intro _;rfl):PG X (.Subscript o i pos) (WN to ti t):=by
 intro pins s U H v u Q I r h;rw[ha];refine ae (bU (cV (ho pins s U H _ I h) λov s1 bG=>?_));obtain⟨x,H1,I1,r1,q1⟩:=bG;refine ae (bU (cV (hi pins s1 U H1 _ I1 q1) λiv s2 bG=>?_));obtain⟨y,H2,I2,r2,q2⟩:=bG;refine ae (fH (ae (bU (cV (hs pins s2 U H2 x y v ov iv u _ I2 r1 r2 r q2) λ_ s3 ⟨H3,I3,q3⟩=>?_))));exact wpAny_release ⟨U,H3,I3,q3⟩
def xG(te:TE)(g:TG):TS:=λD U H=>te U H λx H1=>g x U H1 D.nx
theorem Lu{g:TG}(he:PE X e te)(hg:PG X tg g)(hs:swapsWithSole [tg] e pos.line X.env=pure false:=by rfl)(hw:swappedStores [tg] e X.env=pure none:=by rfl)(h1:(assignEach [tg] X.env).map (·.2)=[assign tg X.env]:=by rfl):PS X (.Assign [tg] e pos) (xG te g):=by
 intro pins s U H D I h;refine wpAny_Assign_stores (cV (he pins s U H _ I h) λv s1 bG=>?_) hs hw;obtain⟨x,H1,I1,r1,q1⟩:=bG;rw[h1];exact cV (hg pins s1 U H1 x v _ I1 r1 q1) λ_ s2 q=>q
theorem Lv(hN:X.Nd)(hi:X.N[i]?=some x)(hx:Loc X.env.scope x)(he:PE X e te)(hs:swapsWith e (some (.Name x pos')) pos.line X.env=pure false:=by rfl)(hf:X.fn x=true\/X.env.scope.names.lookup x=some .local:=by first|exact .inl rfl|exact .inr rfl|assumption) :
  PS X (.Assign [.Name x pos'] e pos) (xG te (uC i)):=by
 intro pins s U H D I h;refine wpAny_Assign_Name (cV (he pins s U H _ I h) λv s1 bG=>?_) hs;obtain⟨y,H1,I1,r1,q1⟩:=bG;exact DQ I1 hN hi hx r1 (λs2 I2=>⟨_,H1,I2,q1⟩) hf
def Xz(i:Nat)(te:TE)(ti:FK):TS:=λD U H=>∃x,U[i]?=some (some x)/\te U H λy H1=>ti x y H1 λz H2=>D.nx (U.set i (some z)) H2
theorem Sn{op:Operator}{ti:FK}(hN:X.Nd)(hi:X.N[i]?=some x)(hx:Loc X.env.scope x)(he:PE X e te)(ho:NB X op ti)(hf:X.fn x=true\/X.env.scope.names.lookup x=some .local:=by first|exact .inl rfl|exact .inr rfl|assumption) :
  PS X (.AugAssign (.Name x pos') op e pos) (Xz i te ti):=by
 intro pins s U H D I h;obtain⟨v,e1,h⟩:=h;obtain⟨m,hn,hl⟩:=I.loc;have uZ:xK X.env.scope x:=by rcases hx with k|k;exact .inl k;exact .inr (.inl k)
 obtain⟨u,r,l⟩:=hl i x v hi e1 uZ;refine wpAny_AugAssign_Name ?_;have go:wpAny (model X.prog X.w) X.A (eval e X.env) (λw gh=>wpAny (model X.prog X.w) X.A (inplaceOp op u w) (λr fQ=>wpAny (model X.prog X.w) X.A (storeName X.env x r) (λ_=>SP X pins D .next) X.xe fQ) X.xe gh) X.xe s:=by
  refine cV (he pins s U H _ I h) λw s1 bG=>?_;obtain⟨y,H1,I1,r1,q1⟩:=bG;refine cV (ho pins s1 U H1 v y u w _ I1 r r1 q1) λz s2 bG=>?_;obtain⟨zv,H2,I2,r2,q2⟩:=bG;exact DQ I2 hN hi hx r2 (λs3 I3=>⟨_,H2,I3,q2⟩) hf
 rcases l with⟨hk,hm⟩|⟨hk,c,hc,mf⟩
 ·exact wpAny_loadName_local I.ok.kind hk hn hm go
 ·rcases hk with hk|hk
  ·exact wpAny_loadName_cell I.ok.kind hk hc mf go
  ·rcases hx with k|k
   ·have:X.env.scope.names.lookup x=some .free:=hk;rw[k] at this;cases this
   ·have:X.env.scope.names.lookup x=some .free:=hk;rw[k] at this;cases this
def Ti(c:TT)(tb:TS):TS:=λD U H=>∃W:Nat->St->Hp->Prop,(∃m,W m U H)/\∀m U H,W m U H ->
 c U H λb H1=>if b=true then ∃N:St->Hp->Prop,(∀cw H',N cw H'->∃m',m'<m/\W m' cw H')/\tb { D with nx:=N,ct:=N,bk:=D.nx } U H1 else D.nx U H1
theorem a96{tc:TT}{tb:TS}(hp:PassesOwn (model X.prog X.w) X.A X.env X.xe)(hc:PT X c tc)(hb:jL X body tb):PS X (.While c body [] pos) (Ti tc tb):=by
 intro pins s U H D I h;obtain⟨W,⟨m0,w0⟩,turn⟩:=h;refine wpAny_While (codeAny_whileLoop (λn s'=>∃cw H',Inv X pins cw H' s'/\W n cw H') ?_ m0 ⟨U,H,I,w0⟩);rintro n s1 ⟨jj,H1,I1,w1⟩;refine eR hp (cV (hc pins s1 jj H1 _ I1 (turn n jj H1 w1)) λb s2 ⟨H2,I2,q2⟩=>?_);cases b with
 |true =>
  obtain⟨N,hN,q2⟩:=q2;refine eR hp (cV (hb pins s2 jj H2 _ I2 q2) λf s3 q3=>?_);cases f with
  |next =>
   obtain⟨ji,H3,I3,n3⟩:=q3;obtain⟨m',hm,w3⟩:=hN ji H3 n3;exact⟨m',hm,ji,H3,I3,w3⟩
  |cont =>
   obtain⟨ji,H3,I3,n3⟩:=q3;obtain⟨m',hm,w3⟩:=hN ji H3 n3;exact⟨m',hm,ji,H3,I3,w3⟩
  |brk=>exact q3
  |ret v=>exact q3
 |false =>
  exact ky ⟨jj,H2,I2,q2⟩
structure It where
 go:Nat->Hp->Prop
 qf:Nat->Hp->V->Hp->Prop
 stop:Nat->Hp->Prop
def I9(X:Cx)(pins:List (Addr×Obj))(H:Hp)(b:Addr):Prop :=
 H b=none/\b≠X.env.locals/\b∉X.fs/\(b∈X.ex\/X.dG.heap.objs.size<=b)/\(∀x c,X.env.cells.lookup x=some c->c≠b)/\∀p∈X.pn++pins,p.1≠b
theorem Inv.qL(I:Inv X pins U H s)(hb:s.heap.objs.size<=b)(hn:H' b=none):I9 X pins H' b:=by
 refine⟨hn,cu (aB I.lt hb),I.Dn hb,.inr (aC I.sz hb),λx c e z=>?_,λp hp z=>?_⟩
 ·obtain⟨v,q⟩:=I.cell x c e;exact absurd (aB q.lt (by simp_all)) (cc _)
 ·exact absurd (aB (az (I.pin p hp).1) (by simp_all)) (cc _)
structure Turn(P:Program)(w:World)(K:PySem.W.Frag)(tg:Expr)(J:It)(fp:List Addr)(it:Addr)(tn:Nat->Heap->Prop):Prop where
 mem:it∈fp
 obj:∀i h,tn i h->∀b∈fp,∃o,h.get? b=some o/\∀v,o.data≠.cell v
 keep:∀i h h',tn i h->(∀b∈fp,∀o,h.get? b=some o->h'.get? b=some o)->tn i h'
 item:∀(X:Cx),X.prog=P->X.w=w->X.K=K->X.calm=true->∀(i:Nat) (pins:List (Addr×Obj)) (s:Shared) (U:St) (H:Hp) (E:Value->Shared->Prop),Inv X pins U H s->(∀b∈fp,I9 X pins H b)->tn i s.heap->J.go i H ->
  wpAny (model P w) X.A (pyNext (.ref it)) (λr s1=>∃ u,r=some u /\
   wpAny (model P w) X.A (letOwnedTupleGo tg (.ref it) u) (λ_ s2=>∃ x H',Inv X pins U H' s2/\RelV x u/\J.qf i H x H'/\tn (i + 1) s2.heap/\∀ b ∈ fp,H' b=none) E s1) E s
 done:∀(X:Cx),X.prog=P->X.w=w->X.K=K->X.calm=true->∀(i:Nat) (pins:List (Addr×Obj)) (s:Shared) (U:St) (H:Hp) (E:Value->Shared->Prop),Inv X pins U H s->(∀b∈fp,I9 X pins H b)->tn i s.heap->J.stop i H ->
  wpAny (model P w) X.A (pyNext (.ref it)) (λr s1=>r=none/\Inv X pins U H s1) E s
 self:∀(A:Around) (i:Nat) (s:Shared) (Q:Value->Shared->Prop) (E:Value->Shared->Prop),tn i s.heap->Q (.ref it) s->wpAny (model P w) A (pyIter (.ref it)) Q E s
noncomputable abbrev TI:=St->Hp->(It->Hp->Prop)->Prop
def NC(X:Cx)(pins:List (Addr×Obj))(U:St)(tg:Expr)(R:It->Hp->Prop)(vO:Value)(s2:Shared):Prop :=
 ∃(it:Addr) (fp:List Addr) (tn:Nat->Heap->Prop) (J:It) (H':Hp),vO=.ref it/\Inv X pins U H' s2/\Turn X.prog X.w X.K tg J fp it tn/\tn 0 s2.heap/\(∀b∈fp,I9 X pins H' b)/\R J H'
def PI(X:Cx)(tg iter:Expr)(wi:TI):Prop :=
 ∀(pins:List (Addr×Obj)) (s:Shared) (U:St) (H:Hp) (R:It->Hp->Prop),Inv X pins U H s->wi U H R ->
  wpAny (model X.prog X.w) X.A (eval iter X.env) (λv s1=>wpAny (model X.prog X.w) X.A (pyIter v) (NC X pins U tg R) X.xe s1) X.xe s
theorem Al{it:Addr}{o:Obj}{n:String}{vs:Array Value}{Q:Unit->Shared->Prop}(ho:s.heap.get? it=some o)(hc:o.cls=.type n)(hd:o.data=.fields vs)(hn:["enumerate","zip","dict_itemiterator","dict_reverseitemiterator","odict_iterator","itertools.zip_longest","itertools.pairwise"].contains n=false)(hQ:Q Unit.unit s):wpAny M A (letOwnedTupleGo tg (.ref it) u) Q E s:=by
  cases tg<;>first
    |exact au hQ
    | (cases u <;> first
        |exact au hQ
        | (refine ae (wpAny_load ho ?_)
           rw[hc,hd];show wpAny M A (if(["enumerate","zip","dict_itemiterator","dict_reverseitemiterator","odict_iterator","itertools.zip_longest","itertools.pairwise"].contains n&&vs[0]?==some (rawInt _))=true then _ else _) Q E s;rw[aD (by intro h;rw[hn,Bool.false_and] at h;cases h)];exact au hQ))
def FQ(K:PySem.W.Frag)(a:Addr):It :=
 ⟨λi H=>∃xs x,gn K H a xs/\xs[i]?=some x,λi H x H'=>H'=H/\∀xs,gn K H a xs->xs[i]?=some x,λi H=>∃xs,gn K H a xs/\xs.length<=i⟩
def FP(K:PySem.W.Frag)(a:Addr):It :=
 ⟨λi H=>∃xs x,kx K H a xs/\xs[i]?=some x,λi H x H'=>H'=H/\∀xs,kx K H a xs->xs[i]?=some x,λi H=>∃xs,kx K H a xs/\xs.length<=i⟩
def xR(lo:Int)(n:Nat):It:=⟨λi _=>i<n,λi H x H'=>H'=H/\x=.int (lo+i),λi _=>n<=i⟩
theorem aX9(a it:Addr):Turn P w K tg (FQ K a) [it] it (λi h=>h.IsListIter it a i) where
 mem:=by simp
 obj:=λi h st b hb=>by
  have e:b=it:=by simpa using hb
  subst e;obtain⟨o,e,c,d⟩:=st;exact⟨o,e,λv z=>by simp_all⟩
 keep:=λi h h' st k=>st.at λo e=>k it (by simp) o e
 item:=by
  intro X hP hw hK hc i pins s U H E I hf st hg;subst hP hw hK;obtain⟨xs,x,hq,hx⟩:=hg;obtain⟨bw,rv,p,hz⟩:=I.list hq;obtain⟨u,hu,ru⟩:=rv.get hx;obtain⟨f0,f1,f2,f3,f4,f5⟩:=hf it (by simp);refine wpAny_pyNext_list_item st p.isList (x:=u) (by simpa using hu) λh' ba sb=>?_;have I1:Inv X pins U H { s with heap:=h' }:=I.turned (t':=s.toks) (λb o hb e=>(sb.2 b hb).trans e) f0 f1 f3 f4 f5;obtain⟨o,e,c,d⟩:=id ba;exact⟨u,rfl,Al (s:={ s with heap:=h' }) e c d ∅ ⟨x,H,I1,ru,⟨rfl,λys hy=>by rw[I.DK hy hq];exact hx⟩,ba,λb hb=>(hf b hb).1⟩⟩
 done:=by
  intro X hP hw hK hc i pins s U H E I hf st hg;subst hP hw hK;obtain⟨xs,hq,hx⟩:=hg;obtain⟨bw,rv,p,hz⟩:=I.list hq;obtain⟨f0,f1,f2,f3,f4,f5⟩:=hf it (by simp);have hl:=rv.length;exact wpAny_pyNext_list_end (I.ok.hd hc) st p.isList (by simp;omega) λh' eb=>⟨rfl,I.turned (t':=s.toks) (λb o hb e=>eb b o hb e) f0 f1 f3 f4 f5⟩
 self:=λ_ _ _ _ _ st h=>wpAny_pyIter_listiter st h
theorem aQ5(a it:Addr):Turn P w K tg (FP K a) [it] it (λi h=>h.IsTupleIter it a i) where
 mem:=by simp
 obj:=λi h st b hb=>by
  have e:b=it:=by simpa using hb
  subst e;obtain⟨o,e,c,d⟩:=st;exact⟨o,e,λv z=>by simp_all⟩
 keep:=λi h h' st k=>st.at λo e=>k it (by simp) o e
 item:=by
  intro X hP hw hK hc i pins s U H E I hf st hg;subst hP hw hK;obtain⟨xs,x,hq,hx⟩:=hg;obtain⟨bw,rv,p,hz⟩:=I.tuple hq;obtain⟨u,hu,ru⟩:=rv.get hx;obtain⟨f0,f1,f2,f3,f4,f5⟩:=hf it (by simp);refine wpAny_pyNext_tuple_item st (show s.heap.IsTuple a bw.toArray from p) (x:=u) (by simpa using hu) λh' ba sb=>?_;have I1:Inv X pins U H { s with heap:=h' }:=I.turned (t':=s.toks) (λb o hb e=>(sb.2 b hb).trans e) f0 f1 f3 f4 f5;obtain⟨o,e,c,d⟩:=id ba;exact⟨u,rfl,Al (s:={ s with heap:=h' }) e c d ∅ ⟨x,H,I1,ru,⟨rfl,λys hy=>by rw[I.aY1 hy hq];exact hx⟩,ba,λb hb=>(hf b hb).1⟩⟩
 done:=by
  intro X hP hw hK hc i pins s U H E I hf st hg;subst hP hw hK;obtain⟨xs,hq,hx⟩:=hg;obtain⟨bw,rv,p,hz⟩:=I.tuple hq;obtain⟨f0,f1,f2,f3,f4,f5⟩:=hf it (by simp);have hl:=rv.length;exact wpAny_pyNext_tuple_end (I.ok.hd hc) st (show s.heap.IsTuple a bw.toArray from p) (by simp;omega) λh' eb=>⟨rfl,I.turned (t':=s.toks) (λb o hb e=>eb b o hb e) f0 f1 f3 f4 f5⟩
 self:=λ_ _ _ _ _ st h=>wpAny_pyIter_tupleiter st h
theorem aQ7(it:Addr)(lo:Int)(n:Nat):Turn P w K tg (xR lo n) [it] it (λi h=>IsRangeIter h it (lo+(i:Nat)*1) ((n:Int)-(i:Nat)) 1) where
 mem:=by simp
 obj:=λi h st b hb=>by
  have e:b=it:=by simpa using hb
  subst e;exact ⟨_,st,λv z=>by
   have z':Data.fields _=Data.cell v:=z;cases z'⟩
 keep:=λi h h' st k=>k it (by simp) _ st
 item:=by
  intro X hP hw hK hc i pins s U H E I hf st hg;subst hP hw hK;obtain⟨f0,f1,f2,f3,f4,f5⟩:=hf it (by simp);have W:=Walks.range (prog:=X.prog) (w:=X.w) (I.ok.hd hc) it lo 1 n;refine W.item i s _ _ hg st λv h' tk hv ba kk=>?_;obtain⟨t,rfl⟩:=hv;have I1:Inv X pins U H { s with heap:=h',toks:=tk }:=I.turned (λb o hb e=>kk b o (by simpa using hb) e) f0 f1 f3 f4 f5;refine⟨_,rfl,Al (s:={ s with heap:=h',toks:=tk }) (n:="range_iterator") ba rfl rfl ∅ ⟨.int (lo+i),H,I1,⟨t,?_⟩,⟨rfl,rfl⟩,ba,λb hb=>(hf b hb).1⟩⟩;rw[Int.mul_one]
 done:=by
  intro X hP hw hK hc i pins s U H E I hf st hg;subst hP hw hK;obtain⟨f0,f1,f2,f3,f4,f5⟩:=hf it (by simp);exact wpAny_pyNext_range_end (I.ok.hd hc) st (by have:n<=i:=hg;omega) λh' eb=>⟨rfl,I.turned (t':=s.toks) (λb o hb e=>eb b o hb e) f0 f1 f3 f4 f5⟩
 self:=λ_ _ _ _ _ st h=>wpAny_pyIter_rangeiter st h
theorem MX{R:It->Hp->Prop}{lo hi:Int}{t u v:Tok}{tk:Nat}(I:Inv X pins U H s)(h1:-(2 ^ 62)<=lo)(h2:lo<2 ^ 62)(h3:-(2 ^ 62)<=hi)(h4:hi<2 ^ 62)(q:R (xR lo (hi-lo).toNat) H):wpAny (model X.prog X.w) X.A (pyIter (.ref s.heap.objs.size)) (NC X pins U tg R) E { s with heap:=s.heap.push { cls:=.type "range",data:=.fields #[.int lo t,.int hi u,.int 1 v] },toks:=tk }:=by
 refine wpAny_pyIter_range (IsRange.new ..) (small_one h1 h2 h3 h4) ?_;have I1:Inv X pins U H { s with heap:=s.heap.push { cls:=.type "range",data:=.fields #[.int lo t,.int hi u,.int 1 v] },toks:=tk }:=I.kept λb o e=>ao _ e;refine ⟨(s.heap.push { cls:=.type "range",data:=.fields #[.int lo t,.int hi u,.int 1 v] }).objs.size,[(s.heap.push { cls:=.type "range",data:=.fields #[.int lo t,.int hi u,.int 1 v] }).objs.size],_,_,H,rfl,
  I1.kept (t':=tk) λb o e=>ao _ e,aQ7 _ lo (hi - lo).toNat,?_,λb hb=>?_,q⟩
 ·have e1:lo+((0:Nat):Int)*1=lo:=by simp
  have e2:(((hi-lo).toNat:Nat):Int)-((0:Nat):Int)=Builtin.Range.rangeSize lo hi 1:=by rw[rangeSize_one];split<;>omega
  rw[e1,e2];exact aE _ rfl
 ·have e:b=(s.heap.push { cls:=.type "range",data:=.fields #[.int lo t,.int hi u,.int 1 v] }).objs.size:=by simpa using hb
  subst e;exact I1.qL (aw _) (I1.bY.fresh (aw _))
def Yv(ta:TA):TI:=λU H R=>ta U H λvs H1=>∃j:Int,vs=[.int j]/\-(2 ^ 62)<=j/\j<2 ^ 62/\R (xR 0 j.toNat) H1
def Yw(ta:TA):TI:=λU H R=>ta U H λvs H1=>∃i j:Int,vs=[.int i,.int j]/\(-(2 ^ 62)<=i/\i<2 ^ 62/\-(2 ^ 62)<=j/\j<2 ^ 62)/\R (xR i (j-i).toNat) H1
theorem a05{a:Expr}{ta:TA}(hg:Gl X "range")(hm:X.mg "range"=none)(ha:PA X [a] ta)(hs:starEach [a] X.env=[(false,eval a X.env)]:=by rfl):PI X tg (.Call (.Name "range" p) [a] [] pos) (Yv ta):=by
 intro pins s U H R I h;refine Call_ (O2 I hg hm boot_range (bR (cV (ha pos pins s U H _ I h) λus s1 bG=>?_) hs rfl));obtain⟨vs,H1,I1,r1,q1⟩:=bG;obtain⟨j,e,q1,q2,q⟩:=q1;subst e;cases r1 with
 |cons r rr =>
  cases rr;obtain⟨t,rfl⟩:=r;exact call_range_1 (MX I1 () () q1 q2 (by simpa using q))
theorem a04{a b:Expr}{ta:TA}(hg:Gl X "range")(hm:X.mg "range"=none)(ha:PA X [a,b] ta)(hs:starEach [a,b] X.env=[(false,eval a X.env),(false,eval b X.env)]:=by rfl)(gO:starEach [b] X.env=[(false,eval b X.env)]:=by rfl) :
  PI X tg (.Call (.Name "range" p) [a,b] [] pos) (Yw ta):=by
 intro pins s U H R I h;refine Call_ (O2 I hg hm boot_range (bR (cV (ha pos pins s U H _ I h) λus s1 bG=>?_) (by rw[hs,gO]) (by rw[gO];rfl)));obtain⟨vs,H1,I1,r1,q1⟩:=bG;obtain⟨i,j,e,⟨q1,q2,q3,q4⟩,q⟩:=q1;subst e;cases r1 with
 |cons r rr =>
  cases rr with
  |cons r' rr =>
   cases rr;obtain⟨t,rfl⟩:=r;obtain⟨t',rfl⟩:=r';exact call_range_2 (MX I1 q1 q2 q3 q4 q)
def XC(wi:TI)(g:TG)(tb:TS):TS:=λD U H=>wi U H λJ H1=>∃W:Nat->Nat->St->Hp->Prop,(∃m,W 0 m U H1)/\∀i m U H,W i m U H ->
 (J.stop i H/\D.nx U H)\/(J.go i H/\∃N:St->Hp->Prop,(∀cw H',N cw H'->∃m',m'<m/\W (i+1) m' cw H')/\∀x H',J.qf i H x H'->g x U H' λcK H2=>tb { D with nx:=N,ct:=N,bk:=D.nx } cK H2)
def xr(fp:List Addr)(h:Heap):List (Addr×Obj):=fp.filterMap λb=>(h.get? b).map λo=>(b,o)
theorem Eo{o:Obj}(hb:b∈fp)(e:h.get? b=some o):(b,o)∈xr fp h:=kH.mpr ⟨b,hb,by rw[e];rfl⟩
theorem a18{p:Addr×Obj}(hp:p∈xr fp h):p.1∈fp/\h.get? p.1=some p.2:=by
 obtain⟨b,hb,e⟩:=kH.mp hp;cases q:h.get? b with
 |none=>simp_all
 |some o =>
  rw[q] at e;have e':(b,o)=p:=aP e;subst e';exact⟨hb,q⟩
theorem Inv.pinned(I:Inv X pins U H s)(hf:∀b∈fp,I9 X pins H b)(ho:∀b∈fp,∃o,s.heap.get? b=some o/\∀v,o.data≠.cell v):Inv X (pins++xr fp s.heap) U H s :=
 I.Z8 λp hp=>(aR.mp hp).elim (λz=>I.pin p (aW _ z)) λz=>by
  obtain⟨hb,e⟩:=a18 z;obtain⟨f0,f1,f2,_⟩:=hf p.1 hb;obtain⟨o,e',d⟩:=ho p.1 hb;rw[e] at e';cases e';exact⟨e,f0,f1,f2,d⟩
theorem Inv.DS{pl:List (Addr×Obj)}(I:Inv X (pins++pl) U H s):Inv X pins U H s:=I.Z8 λp hp=>I.pin p (aW _ (bz _ hp))
theorem Sq{iter:Expr}{wi:TI}{g:TG}{tb:TS}(hp:PassesOwn (model X.prog X.w) X.A X.env X.xe)(hc:X.calm=true)(hi:PI X tg iter wi)(hg:PG X tg g)(hb:jL X body tb)(hs:∀x,foldedSetIterable iter X.env x=pure x:=by intro _;rfl):PS X (.For tg iter body [] pos) (XC wi g tb):=by
 intro pins s U H D I h;refine wpAny_For (cV (hi pins s U H _ I h) λv s1 h1=>cV h1 λvO s2 h2=>?_) hs;obtain⟨it,fp,tn,J,H2,e,I2,T,gB,f2,W,⟨m0,w0⟩,turn⟩:=h2;subst e;have rf:∀{H':Hp},(∀b∈fp,H' b=none)->∀b∈fp,I9 X pins H' b:=λhn b hb=>⟨hn b hb,(f2 b hb).2⟩
 refine codeAny_forLoop_any (λn s'=>∃i cw H',Inv X pins cw H' s'/\tn i s'.heap/\(∀b∈fp,H' b=none)/\W i n cw H') ?_ m0 ⟨0,U,H2,I2,gB,λb hb=>(f2 b hb).1,w0⟩;rintro n s3 ⟨i,ji,H3,I3,kj,wJ,w3⟩;rcases turn i n ji H3 w3 with⟨stop,qn⟩|⟨go,N,hN,step⟩
 ·refine eR hp (cV (T.done X rfl rfl rfl hc i pins s3 ji H3 X.xe I3 (rf wJ) kj stop) λr s4 ⟨hr,I4⟩=>?_);subst hr;exact ky ⟨ji,H3,I4,qn⟩
 ·refine eR hp (cV (T.item X rfl rfl rfl hc i pins s3 ji H3 X.xe I3 (rf wJ) kj go) λr s4 ⟨u,hr,h4⟩=>?_);subst hr;refine eR hp (cV h4 λ_ s5 bG=>?_);obtain⟨x,H5,I5,r5,y5,oU,CC⟩:=bG;have FT:=I5.pinned (rf CC) (T.obj _ _ oU);refine eR hp (cV (hg _ s5 ji H5 x u _ FT r5 (step x H5 y5)) λ_ s6 bG=>?_);obtain⟨qV,H6,I6,q6⟩:=bG;refine eR hp (cV (hb _ s6 qV H6 _ I6 q6) λf s7 q7=>?_);have again:∀{nB:St} {H7:Hp},Inv X (pins++xr fp s5.heap) nB H7 s7->N nB H7->∃m,m<n/\∃i cw H',Inv X pins cw H' s7/\tn i s7.heap/\(∀b∈fp,H' b=none)/\W i m cw H':=λ{nB H7} I7 n7=>by
   obtain⟨m',hm,w7⟩:=hN nB H7 n7;refine⟨m',hm,i+1,nB,H7,I7.DS,T.keep _ _ _ oU λb hb o e=>(I7.pin (b,o) (aW _ (aW _ (Eo hb e)))).1,λb hb=>?_,w7⟩;obtain⟨o,e,d⟩:=T.obj _ _ oU b hb;exact(I7.pin (b,o) (aW _ (aW _ (Eo hb e)))).2.1
  cases f with
  |next=>obtain⟨nB,H7,I7,n7⟩:=q7;exact again I7 n7
  |cont=>obtain⟨nB,H7,I7,n7⟩:=q7;exact again I7 n7
  |brk=>obtain⟨nB,H7,I7,q7⟩:=q7;exact⟨nB,H7,I7.DS,q7⟩
  |ret v=>obtain⟨x7,nB,H7,I7,r7,q7⟩:=q7;exact⟨x7,nB,H7,I7.DS,r7,q7⟩
noncomputable abbrev R2:=V->V->Hp->VK->Prop
def gQ(X:Cx)(f:Value->Value->Sem Value)(r:R2):Prop :=
 ∀(pins:List (Addr×Obj)) (s:Shared) (U:St) (H:Hp) (x y:V) (v u:Value) (Q:VK),Inv X pins U H s->RelV x v->RelV y u->r x y H Q ->
  wpAny (model X.prog X.w) X.A (f v u) (EP X pins U Q) X.xe s
def Av(X:Cx)(f:Value->Sem Value)(r:V->Hp->VK->Prop):Prop :=
 ∀(pins:List (Addr×Obj)) (s:Shared) (U:St) (H:Hp) (x:V) (v:Value) (Q:VK),Inv X pins U H s->RelV x v->r x H Q ->
  wpAny (model X.prog X.w) X.A (f v) (EP X pins U Q) X.xe s
def p9(X:Cx)(f:Value)(r:List V->Hp->VK->Prop):Prop :=
 ∀(pins:List (Addr×Obj)) (s:Shared) (U:St) (H:Hp) (xs:List V) (us:List Value) (Q:VK),Inv X pins U H s->Vals xs us->r xs H Q ->
  wpAny (model X.prog X.w) X.A (call f us) (EP X pins U Q) X.xe s
def Wv(X:Cx)(r:V->Hp->(Bool->Hp->Prop)->Prop):Prop :=
 ∀(pins:List (Addr×Obj)) (s:Shared) (U:St) (H:Hp) (x:V) (v:Value) (Q:Bool->Hp->Prop),Inv X pins U H s->RelV x v->r x H Q ->
  wpAny (model X.prog X.w) X.A (truthy v) (TP X pins U Q) X.xe s
def tF(r:R2)(ta tb:TE):TE:=λU H Q=>ta U H λx H1=>tb U H1 λy H2=>r x y H2 Q
def Oh(r:V->Hp->VK->Prop)(ta:TE):TE:=λU H Q=>ta U H λx H1=>r x H1 Q
def rI(C:Int->Int->Prop)(g:Int->Int->V):R2:=λx y H Q=>∃i j,x=.int i/\y=.int j/\C i j/\Q (g i j) H
def nh(g:Int->Int->V):R2:=λx y H Q=>∃i j,x=.int i/\y=.int j/\Q (g i j) H
def rU(g:Int->V):V->Hp->VK->Prop:=λx H Q=>∃i,x=.int i/\Q (g i) H
section
variable{a b:Expr}
theorem Di(ha:PE X a ta)(hb:PE X b tb){R:V->V->Hp->Prop}(I:Inv X pins U H s)(h:ta U H λx H1=>tb U H1 λy H2=>R x y H2){f:Value->Value->Sem Value}(hf:∀v u s2 x y H2,Inv X pins U H2 s2->RelV x v->RelV y u->R x y H2->wpAny (model X.prog X.w) X.A (f v u) Q X.xe s2) :
  wpAny (model X.prog X.w) X.A (eval a X.env) (λv bO=>wpAny (model X.prog X.w) X.A (eval b X.env) (λu gh=>wpAny (model X.prog X.w) X.A (f v u) Q X.xe gh) X.xe bO) X.xe s:=by
 refine cV (ha pins s U H _ I h) λv s1 bG=>?_;obtain⟨x,H1,I1,r1,q1⟩:=bG;refine cV (hb pins s1 U H1 _ I1 q1) λu s2 bG=>?_;obtain⟨y,H2,I2,r2,q2⟩:=bG;exact hf v u s2 x y H2 I2 r1 r2 q2
theorem Ze{op:Operator}(ho:gQ X (binaryOp op) r)(ha:PE X a ta)(hb:PE X b tb):PE X (.BinOp a op b pos) (tF r ta tb):=by
 intro pins s U H Q I h;exact wpAny_BinOp (Di ha hb I h λv u s2 x y H2 I2 rx ry q=>ho pins s2 U H2 x y v u Q I2 rx ry q)
theorem Zg{op:UnaryOp}{r:V->Hp->VK->Prop}(ho:Av X (unaryOp op) r)(ha:PE X a ta):PE X (.UnaryOp op a pos) (Oh r ta):=by
 intro pins s U H Q I h;exact UnaryOp_ (cV (ha pins s U H _ I h) λv s1 ⟨x,H1,I1,r1,q1⟩=>ho pins s1 U H1 x v Q I1 r1 q1)
theorem vk{f:Value->Value->Sem Value}{C:Int->Int->Prop}{g:Int->Int->Int}(rule:∀(i j:Int) (t u:Tok) (s:Shared) (Q:Value->Shared->Prop) (E:Value->Shared->Prop),C i j->Q (.int (g i j) s.toks) { s with toks:=s.toks+1 }->wpAny (model X.prog X.w) X.A (f (.int i t) (.int j u)) Q E s) :
  gQ X f (rI C λi j=>.int (g i j)):=by
 intro pins s U H x y v u Q I rx ry h;obtain⟨i,j,rfl,rfl,hc,q⟩:=h;obtain⟨t,rfl⟩:=rx;obtain⟨t',rfl⟩:=ry;exact rule i j t t' s _ _ hc ⟨.int (g i j),H,I.tok _,⟨_,rfl⟩,q⟩
theorem ux{f:Value->Value->Sem Value}{g:Int->Int->Int}(rule:∀(i j:Int) (t u:Tok) (s:Shared) (Q:Value->Shared->Prop) (E:Value->Shared->Prop),Q (.int (g i j) s.toks) { s with toks:=s.toks+1 }->wpAny (model X.prog X.w) X.A (f (.int i t) (.int j u)) Q E s) :
  gQ X f (nh λi j=>.int (g i j)):=by
 intro pins s U H x y v u Q I rx ry h;obtain⟨i,j,rfl,rfl,q⟩:=h;obtain⟨t,rfl⟩:=rx;obtain⟨t',rfl⟩:=ry;exact rule i j t t' s _ _ ⟨.int (g i j),H,I.tok _,⟨_,rfl⟩,q⟩
theorem zX{f:Value->Value->Sem Value}{g:Int->Int->Bool}(rule:∀(i j:Int) (t u:Tok) (s:Shared) (Q:Value->Shared->Prop) (E:Value->Shared->Prop),Q (.bool (g i j)) s->wpAny (model X.prog X.w) X.A (f (.int i t) (.int j u)) Q E s) :
  gQ X f (nh λi j=>.bl (g i j)):=by
 intro pins s U H x y v u Q I rx ry h;obtain⟨i,j,rfl,rfl,q⟩:=h;obtain⟨t,rfl⟩:=rx;obtain⟨t',rfl⟩:=ry;exact rule i j t t' s _ _ ⟨.bl (g i j),H,I,rfl,q⟩
def Dc(i j:Int):Prop:=0<j/\j<1073741824
def pN(i j:Int):Prop:=0<=j/\j<=1000000/\i.natAbs<2 ^ 64
def sG(i j:Int):Prop:=(-(2 ^ 64)<i/\i<2 ^ 64)\/(-(2 ^ 64)<j/\j<2 ^ 64)
theorem sG.ok{i j:Int}(h:sG i j):IntMulOk i j:=by
 rcases h with⟨h1,h2⟩|⟨h1,h2⟩
 ·exact .of_left (intBits_le_64 h1 h2)
 ·exact .of_right (intBits_le_64 h1 h2)
theorem bA4:gQ X (binaryOp .Add) (nh λi j=>.int (i+j)):=ux λ_ _ _ _ _ _ _ q=>add_int q
theorem RQ:gQ X (binaryOp .Sub) (nh λi j=>.int (i-j)):=ux λ_ _ _ _ _ _ _ q=>sub_int q
theorem RN:gQ X (binaryOp .Mult) (rI sG λi j=>.int (i*j)):=vk λ_ _ _ _ _ _ _ hc q=>mul_int q hc.ok
theorem Ur:gQ X (binaryOp .FloorDiv) (rI Dc λi j=>.int (i / j)):=vk λi j _ _ _ _ _ hc q=>by
 have h1:(0:Int)<j:=hc.1;have h2:j<1073741824:=hc.2;exact floordiv_int () (by rw[Int.fdiv_eq_ediv_of_nonneg i ()];exact q) (.inl (PyProof.noPylong_small ()))
theorem RL:gQ X (binaryOp .Mod) (rI (λ_ j=>0<j) λi j=>.int (i % j)):=vk λi j _ _ _ _ _ hc q=>by
 exact mod_int' () (by rw[Int.fmod_eq_emod_of_nonneg i ()];exact q)
theorem RO:gQ X (binaryOp .Pow) (rI pN λi j=>.int (i ^ j.toNat)):=vk λ_ _ _ _ _ _ _ hc q=>pow_int_small hc.1 hc.2.1 hc.2.2 q
theorem RP:gQ X (binaryOp .LShift) (rI pN λi j=>.int (i*2 ^ j.toNat)):=vk λ_ _ _ _ _ _ _ hc q=>lshift_int_small hc.1 hc.2.1 hc.2.2 q
theorem bA3:gQ X (binaryOp .BitAnd) (nh λi j=>.int (Builtin.bitAnd i j)):=ux λ_ _ _ _ _ _ _ q=>and_int q
theorem Y':gQ X (binaryOp .BitOr) (nh λi j=>.int (Builtin.bitOr i j)):=ux λ_ _ _ _ _ _ _ q=>or_int q
theorem TX:gQ X (inplaceOp .Add) (nh λi j=>.int (i+j)):=ux λ_ _ _ _ _ _ _ q=>iadd_int q
theorem TY:gQ X (inplaceOp .Sub) (nh λi j=>.int (i-j)):=ux λ_ _ _ _ _ _ _ q=>isub_int q
theorem Og{f:Value->Sem Value}{g:Int->Int}(rule:∀(i:Int) (t:Tok) (s:Shared) (Q:Value->Shared->Prop) (E:Value->Shared->Prop),Q (.int (g i) s.toks) { s with toks:=s.toks+1 }->wpAny (model X.prog X.w) X.A (f (.int i t)) Q E s) :
  Av X f (rU λi=>.int (g i)):=by
 intro pins s U H x v Q I rx h;obtain⟨i,rfl,q⟩:=h;obtain⟨t,rfl⟩:=rx;exact rule i t s _ _ ⟨.int (g i),H,I.tok _,⟨_,rfl⟩,q⟩
theorem Tr:Av X (unaryOp .USub) (rU λi=>.int (-i)):=Og λ_ _ _ _ _ q=>neg_int q
end
def IH:V->V->Bool
 |.bD,.bD=>true|.bD,.int _=>true|.int _,.bD=>true|.bD,.bl _=>true|.bl _,.bD=>true|.bD,.str _=>true|.str _,.bD=>true
 |.int _,.int _=>true|.bl _,.bl _=>true|.str _,.str _=>true|.ml _,.ml _=>true
 |.int _,.str _=>true|.str _,.int _=>true|.bl _,.str _=>true|.str _,.bl _=>true
 |_,_=>false
def OC:R2:=λx y H Q=>IH x y=true/\Q (.bl (decide (x=y))) H
def OB:R2:=λx y H Q=>IH x y=true/\Q (.bl (!decide (x=y))) H
theorem LZ{i j:Int}:decide (V.int i=V.int j)=(i==j):=by
 rw[aY];simp
theorem zk{i j:Bool}:decide (V.bl i=V.bl j)=(i==j):=by
 rw[aY];simp
theorem Ma{i j:Str}:decide (V.str i=V.str j)=(i==j):=by
 rw[aY];simp
theorem LY{i j:Array UInt8}:decide (V.ml i=V.ml j)=(i.toList==j.toList):=by
 rw[aY];simp
section
variable{a b:Expr}{tc:TE}
theorem n9{Q:VK}{k k':Bool}(I:Inv X pins U H s)(q:Q (.bl k) H)(e:k=k'):EP X pins U Q (.bool k') s:=by
 subst e;exact⟨.bl k,H,I,rfl,q⟩
theorem EH:gQ X (compareOp .Eq) OC:=by
 intro pins s U H x y v u Q I rx ry h;obtain⟨hs,q⟩:=h;cases x with
 |bD =>
  cases rx;cases y with
  |bD=>cases ry;exact PySem.EqNone.eq_none_none (n9 I q (by simp))
  |bl j=>cases ry;exact PySem.EqNone.eq_none_bool (n9 I q (by simp))
  |int j=>obtain⟨t',rfl⟩:=ry;exact PySem.EqNone.eq_none_int (n9 I q (by simp))
  |str j=>obtain⟨t',rfl⟩:=ry;exact PySem.EqNone.eq_none_str (n9 I q (by simp))
  |_=>exact absurd (show false=true from hs) Bool.false_ne_true
 |bl i =>
  cases rx;cases y with
  |bD=>cases ry;exact PySem.EqNone.eq_bool_none (n9 I q (by simp))
  |bl j=>cases ry;exact eq_bool (n9 I q zk)
  |str j=>obtain⟨t',rfl⟩:=ry;exact PySem.EqMixed.eq_bool_str (n9 I q (by simp))
  |_=>exact absurd (show false=true from hs) Bool.false_ne_true
 |int i =>
  obtain⟨t,rfl⟩:=rx;cases y with
  |bD=>cases ry;exact PySem.EqNone.eq_int_none (n9 I q (by simp))
  |int j=>obtain⟨t',rfl⟩:=ry;exact eq_int (n9 I q LZ)
  |str j=>obtain⟨t',rfl⟩:=ry;exact PySem.EqMixed.eq_int_str (n9 I q (by simp))
  |_=>exact absurd (show false=true from hs) Bool.false_ne_true
 |str i =>
  obtain⟨t,rfl⟩:=rx;cases y with
  |bD=>cases ry;exact PySem.EqNone.eq_str_none (n9 I q (by simp))
  |bl j=>cases ry;exact PySem.EqMixed.eq_str_bool (n9 I q (by simp))
  |int j=>obtain⟨t',rfl⟩:=ry;exact PySem.EqMixed.eq_str_int (n9 I q (by simp))
  |str j=>obtain⟨t',rfl⟩:=ry;exact eq_str (n9 I q Ma)
  |_=>exact absurd (show false=true from hs) Bool.false_ne_true
 |ml i =>
  obtain⟨t,rfl⟩:=rx;cases y with
  |ml j=>obtain⟨t',rfl⟩:=ry;exact PySem.W.eq_bytes (n9 I q LY)
  |_=>exact absurd (show false=true from hs) Bool.false_ne_true
 |_=>cases y<;>exact absurd (show false=true from hs) kJ
theorem EI:gQ X (compareOp .NotEq) OB:=by
 intro pins s U H x y v u Q I rx ry h;obtain⟨hs,q⟩:=h;cases x with
 |bD =>
  cases rx;cases y with
  |bD=>cases ry;exact PySem.EqNone.ne_none_none (n9 I q (by simp))
  |bl j=>cases ry;exact PySem.EqNone.ne_none_bool (n9 I q (by simp))
  |int j=>obtain⟨t',rfl⟩:=ry;exact PySem.EqNone.ne_none_int (n9 I q (by simp))
  |str j=>obtain⟨t',rfl⟩:=ry;exact PySem.EqNone.ne_none_str (n9 I q (by simp))
  |_=>exact absurd (show false=true from hs) Bool.false_ne_true
 |bl i =>
  cases rx;cases y with
  |bD=>cases ry;exact PySem.EqNone.ne_bool_none (n9 I q (by simp))
  |bl j=>cases ry;exact ne_bool (n9 I q (congrArg not zk))
  |str j=>obtain⟨t',rfl⟩:=ry;exact PySem.EqMixed.ne_bool_str (n9 I q (by simp))
  |_=>exact absurd (show false=true from hs) Bool.false_ne_true
 |int i =>
  obtain⟨t,rfl⟩:=rx;cases y with
  |bD=>cases ry;exact PySem.EqNone.ne_int_none (n9 I q (by simp))
  |int j=>obtain⟨t',rfl⟩:=ry;exact ne_int (n9 I q (congrArg not LZ))
  |str j=>obtain⟨t',rfl⟩:=ry;exact PySem.EqMixed.ne_int_str (n9 I q (by simp))
  |_=>exact absurd (show false=true from hs) Bool.false_ne_true
 |str i =>
  obtain⟨t,rfl⟩:=rx;cases y with
  |bD=>cases ry;exact PySem.EqNone.ne_str_none (n9 I q (by simp))
  |bl j=>cases ry;exact PySem.EqMixed.ne_str_bool (n9 I q (by simp))
  |int j=>obtain⟨t',rfl⟩:=ry;exact PySem.EqMixed.ne_str_int (n9 I q (by simp))
  |str j=>obtain⟨t',rfl⟩:=ry;exact ne_str (n9 I q (congrArg not Ma))
  |_=>exact absurd (show false=true from hs) Bool.false_ne_true
 |ml i =>
  obtain⟨t,rfl⟩:=rx;cases y with
  |ml j=>obtain⟨t',rfl⟩:=ry;exact PySem.W.ne_bytes (n9 I q (congrArg not LY))
  |_=>exact absurd (show false=true from hs) Bool.false_ne_true
 |_=>cases y<;>exact absurd (show false=true from hs) kJ
theorem YZ:gQ X (compareOp .Lt) (nh λi j=>.bl (decide (i<j))):=zX λ_ _ _ _ _ _ _ q=>lt_int q
theorem YY:gQ X (compareOp .LtE) (nh λi j=>.bl (decide (i<=j))):=zX λ_ _ _ _ _ _ _ q=>le_int q
theorem YX:gQ X (compareOp .Gt) (nh λi j=>.bl (decide (j<i))):=zX λ_ _ _ _ _ _ _ q=>gt_int q
theorem YW:gQ X (compareOp .GtE) (nh λi j=>.bl (decide (j<=i))):=zX λ_ _ _ _ _ _ _ q=>ge_int q
theorem bA0:gQ X (compareOp .Is) (λx y H Q=>y=.bD/\Q (.bl (decide (x=.bD))) H):=by
 intro pins s U H x y v u Q I rx ry h;obtain⟨rfl,q⟩:=h;cases ry;refine is_none_gen (n9 I q ?_);cases x<;>first
  |(cases rx;rfl)
  |(obtain⟨t,rfl⟩:=rx;rfl)
theorem Us:gQ X (compareOp .IsNot) (λx y H Q=>y=.bD/\Q (.bl (!decide (x=.bD))) H):=by
 intro pins s U H x y v u Q I rx ry h;obtain⟨rfl,q⟩:=h;cases ry;refine isnot_none_gen (n9 I q ?_);cases x<;>first
  |(cases rx;rfl)
  |(obtain⟨t,rfl⟩:=rx;rfl)
theorem UA(ho:gQ X (compareOp op) r)(ha:PE X a ta)(hb:PE X b tb)(hm:behindInMarks op b=false):PE X (.Compare a [op] [b] pos) (tF r ta tb):=by
 intro pins s U H Q I h;exact wpAny_Compare1 (Di ha hb I h λv u s2 x y H2 I2 rx ry q=>ho pins s2 U H2 x y v u Q I2 rx ry q) hm
def ES(t:TE):TT:=λU H Q=>t U H λx H'=>∃k,x=.bl k/\Q k H'
theorem UO(ho:gQ X (compareOp op) r)(ha:PE X a ta)(hb:PE X b tb)(hm:behindInMarks op b=false):PT X (.Compare a [op] [b] pos) (ES (tF r ta tb)):=by
 intro pins s U H Q I h;refine wpAny_isTrue_Compare1 (cV (ha pins s U H _ I h) λv s1 ⟨x,H1,I1,r1,q1⟩=>cV (hb pins s1 U H1 _ I1 q1) λu s2 ⟨y,H2,I2,r2,q2⟩ =>
  cV (ho pins s2 U H2 x y v u _ I2 r1 r2 q2) λc s3 ⟨z,H3,I3,r3,k,e,q3⟩=>?_) hm
 subst e;cases r3;exact cO ⟨H3,I3,q3⟩
def Fx(r r':R2)(ta tb tc:TE):TE:=λU H Q=>ta U H λx H1=>tb U H1 λy H2=>r x y H2 λz H3=>∃k,z=.bl k /\
 (if k=true then tc U H3 λw' H4=>r' y w' H4 Q else Q (.bl false) H3)
theorem Wn{iT:CmpOp}{r':R2}(ho:gQ X (compareOp op) r)(oA:gQ X (compareOp iT) r')(ha:PE X a ta)(hb:PE X b tb)(hc:PE X c tc)(hm:lastMarks [op,iT] [b,c]=false:=by with_unfolding_all rfl):PE X (.Compare a [op,iT] [b,c] pos) (Fx r r' ta tb tc):=by
 intro pins s U H Q I h;refine Compare_chain (cV (ha pins s U H _ I h) λv s1 ⟨x,H1,I1,r1,q1⟩=>chain_link (cV (hb pins s1 U H1 _ I1 q1) λu s2 ⟨y,H2,I2,r2,q2⟩ =>
  cV (ho pins s2 U H2 x y v u _ I2 r1 r2 q2) λd s3 ⟨z,H3,I3,r3,k,e,q3⟩=>?_)) hm
 subst e;cases r3;refine cO ?_;cases k with
 |false=>exact ite_ff ⟨.bl false,H3,I3,rfl,q3⟩
 |true=>exact ite_tt (chain_last (cV (hc pins s3 U H3 _ I3 q3) λw' s4 ⟨z',H4,I4,r4,q4⟩=>oA pins s4 U H4 y z' u w' Q I4 r2 r4 q4))
theorem a94{iT:CmpOp}{r':R2}(ho:gQ X (compareOp op) r)(oA:gQ X (compareOp iT) r')(ha:PE X a ta)(hb:PE X b tb)(hc:PE X c tc)(hm:lastMarks [op,iT] [b,c]=false:=by with_unfolding_all rfl):PT X (.Compare a [op,iT] [b,c] pos) (ES (Fx r r' ta tb tc)):=by
 intro pins s U H Q I h;refine isTrue_chain (cV (ha pins s U H _ I h) λv s1 ⟨x,H1,I1,r1,q1⟩=>test_link (cV (hb pins s1 U H1 _ I1 q1) λu s2 ⟨y,H2,I2,r2,q2⟩ =>
  cV (ho pins s2 U H2 x y v u _ I2 r1 r2 q2) λd s3 ⟨z,H3,I3,r3,k,e,q3⟩=>?_)) hm
 subst e;cases r3;refine cO ?_;cases k with
 |false =>
  obtain⟨k',e',q'⟩:=q3;cases e';exact ite_ff ⟨H3,I3,q'⟩
 |true =>
  refine ite_tt (test_last (cV (hc pins s3 U H3 _ I3 q3) λw' s4 ⟨z',H4,I4,r4,q4⟩=>cV (oA pins s4 U H4 y z' u w' _ I4 r2 r4 q4) λd' s5 bG=>?_));obtain⟨z2,H5,I5,r5,k2,e2,q5⟩:=bG;subst e2;cases r5;exact cO ⟨H5,I5,q5⟩
def Df(K:PySem.W.Frag)(x:V)(H:Hp)(k:Bool):Prop :=
 match x with
 |.bD=>k=false
 |.bl b=>k=b
 |.int i=>k=(i != 0)
 |.str y=>y.length<=sizeLine/\k=((y.length:Int) != 0)
 |.ml y=>y.size<=sizeLine/\k=((y.size:Int) != 0)
 |.ref p=>(∃xs,gn K H p xs/\k=!xs.isEmpty)\/(∃xs,kx K H p xs/\k=!xs.isEmpty)\/∃kvs,H p=some (.dK kvs)/\k=!kvs.isEmpty
 |_=>False
theorem aU8{κ:Type}{kvs:List (κ×V)}{vs:List (κ×Value)}(r:KV kvs vs):(!vs.isEmpty)=!kvs.isEmpty:=by
 cases r<;>rfl
theorem Kw{bw:List Value}(r:Vals xs bw):(!bw.toArray.isEmpty)=!xs.isEmpty:=by
 cases r<;>simp
theorem zm:(sizeLine:Nat)<2 ^ 63:=by rw[tm];decide
theorem Tp:Wv X (λx H Q=>∃k,Df X.K x H k/\Q k H):=by
 intro pins s U H x v Q I rx h;obtain⟨k,e,q⟩:=h;have hs:sizeLine=16777216:=tm;cases x with
 |bD =>
  cases rx;have e':k=false:=e;subst e';exact truthy_none ⟨H,I,q⟩
 |bl b =>
  cases rx;have e':k=b:=e;subst e';exact cO ⟨H,I,q⟩
 |int i =>
  obtain⟨t,rfl⟩:=rx;have e':k=(i != 0):=e;subst e';exact PySem.P.truthy_int ⟨H,I,q⟩
 |str y =>
  obtain⟨t,rfl⟩:=rx;obtain⟨hy,e'⟩:y.length<=sizeLine/\k=((y.length:Int) != 0):=e;subst e';exact PySem.P.truthy_str () ⟨H,I.tok _,q⟩
 |ml y =>
  obtain⟨t,rfl⟩:=rx;obtain⟨hy,e'⟩:y.size<=sizeLine/\k=((y.size:Int) != 0):=e;subst e';exact PySem.W.truthy_bytes () ⟨H,I.tok _,q⟩
 |ref p =>
  cases rx;have e':(∃xs,gn X.K H p xs/\k=!xs.isEmpty)\/(∃xs,kx X.K H p xs/\k=!xs.isEmpty)\/∃kvs,H p=some (.dK kvs)/\k=!kvs.isEmpty:=e;rcases e' with⟨xs,hx,e'⟩|⟨xs,hx,e'⟩|⟨kvs,hx,e'⟩
  ·subst e';obtain⟨bw,r,pl,hz⟩:=I.list hx;have hlen:=r.length;exact wpAny_truthy_list pl.isList (by simp only[List.size_toArray];omega) ⟨H,I.tok _,by rw[Kw r];exact q⟩
  ·subst e';obtain⟨bw,r,pl,hz⟩:=I.tuple hx;have hlen:=r.length;exact truthy_tuple pl (by simp only[List.size_toArray];omega) ⟨H,I.tok _,by rw[Kw r];exact q⟩
  ·subst e';obtain⟨hz,hS,vs,r,m⟩:kvs.length<=sizeLine/\(p==sysModules)=false/\∃vs,KV kvs vs/\s.heap.DictOf (s9 X.prog X.w) p vs:=I.bY p _ hx;have hlen:kvs.length=vs.length:=mV r;exact wpAny_truthy_dict hS m () ⟨H,I.tok _,by rw[aU8 r];exact q⟩
 |_=>exact(show False from e).elim
theorem a93(ha:PE X a ta)(he:∀whole,isTrue a X.env whole=(do let v <- whole;standAt a.pos;holding [v] (truthy v))) :
  PT X a (λU H Q=>ta U H λx H'=>∃k,Df X.K x H' k/\Q k H'):=by
 intro pins s U H Q I h;exact isTrue_plain (cV (ha pins s U H _ I h) λv s1 ⟨x,H1,I1,r1,q1⟩=>Tp pins s1 U H1 x v Q I1 r1 q1) (he _)
theorem vals1{x:V}(r:Vals [x] us):∃u,us=[u]/\RelV x u:=by
 cases r with
 |cons r1 r2=>cases r2;exact⟨_,rfl,r1⟩
theorem vals2{x y:V}(r:Vals [x,y] us):∃u w',us=[u,w']/\RelV x u/\RelV y w':=by
 cases r with
 |cons r1 r2 =>
  cases r2 with
  |cons r3 r4=>cases r4;exact⟨_,_,rfl,r1,r3⟩
theorem a49(hc:X.calm=true):p9 X (.builtin "max") (λxs H Q=>∃i j,xs=[.int i,.int j]/\Q (.int (if j>i then j else i)) H):=by
 intro pins s U H xs us Q I r h;obtain⟨i,j,rfl,q⟩:=h;obtain⟨u,w',rfl,⟨t,rfl⟩,⟨t',rfl⟩⟩:=vals2 r;refine max_two_ints (I.ok.hd hc) λh' tk k=>⟨_,H,I.kept k,?_,q⟩
 by_cases hj:j>i
 ·rw[aG hj,aG hj];exact⟨_,rfl⟩
 ·rw[aD hj,aD hj];exact⟨_,rfl⟩
theorem a47(hc:X.calm=true):p9 X (.builtin "min") (λxs H Q=>∃i j,xs=[.int i,.int j]/\Q (.int (if j<i then j else i)) H):=by
 intro pins s U H xs us Q I r h;obtain⟨i,j,rfl,q⟩:=h;obtain⟨u,w',rfl,⟨t,rfl⟩,⟨t',rfl⟩⟩:=vals2 r;refine min_two_ints (I.ok.hd hc) λh' tk k=>⟨_,H,I.kept k,?_,q⟩
 by_cases hj:j<i
 ·rw[aG hj,aG hj];exact⟨_,rfl⟩
 ·rw[aD hj,aD hj];exact⟨_,rfl⟩
theorem JQ:p9 X (.type "int") (λxs H Q=>(∃i,xs=[.int i]/\Q (.int i) H)\/∃k,xs=[.bl k]/\Q (.int (if k then 1 else 0)) H):=by
 intro pins s U H xs us Q I r h;rcases h with⟨i,rfl,q⟩|⟨k,rfl,q⟩
 ·obtain⟨u,rfl,t,rfl⟩:=vals1 r;exact call_int_int ⟨.int i,H,I,⟨_,rfl⟩,q⟩
 ·obtain⟨u,rfl,r1⟩:=vals1 r;cases r1;exact call_int_bool ⟨.int (if k then 1 else 0),H,I.tok _,⟨_,rfl⟩,q⟩
end
structure uo(h:Heap)(x dx C:Addr)(mA:Str->Option Value):Prop where
 obj:h.get? x=some (PySem.W.instObj C dx)
 ns:h.Ns1 dx mA
 ne:dx≠x
theorem JY{mA:Str->Option Value}(n:h.Ns1 dx mA):∃od,h.get? dx=some od/\∀name,PySem.W.lookIn name od=some (mA name):=by
 obtain⟨o,es,ep,ho,hd,hk,_,hm⟩:=n;refine⟨o,ho,λname=>?_⟩;have e:=hm name;unfold nsFind findBy at e;rw[<- Array.find?_toList] at e;unfold PySem.W.lookIn;rw[hd];dsimp only;split
 ·rename_i y q;rw[q] at e;exact gR some e
 ·rename_i q;rw[q] at e;have a:es.toList.any (·.refKey)=false:=by
   rw[List.any_eq_false];intro y hy;obtain⟨z,t,gC⟩:=hk y (Array.mem_toList_iff.mp hy);simp[DictEntry.refKey,gC]
  have a':¬es.toList.any (·.refKey)=true:=by rw[a];exact kJ
  rw[aD a'];exact gR some e
theorem uo.look{x:Addr}{mA:Str->Option Value}(I:uo h x dx C mA):∃od,PySem.W.InstAt h x (PySem.W.instObj C dx) C (some od)/\∀name,PySem.W.lookIn name od=some (mA name) :=
 let ⟨od,ho,hl⟩:=JY I.ns
 ⟨od,⟨I.obj,rfl,rfl,ho⟩,hl⟩
section
variable{prog:Program}{x:Addr}{mA:Str->Option Value}{name:Str}{v:Value}
theorem get_map{expr:Bool}(X:K.In s.heap)(I:uo s.heap x dx C mA)(hg:PySem.W.plainGet K C name=true)(hh:PySem.W.hasDictIn K C=true)(ha:PySem.W.findIn K (.ref C) name=some none)(hv:mA name=some v)(Bt:PySem.W.handedIn v=true)(h:Q v { s with toks:=s.toks+1 }) :
  wpAny (model prog w) A (getAttr (.ref x) name expr) Q E s:=by
 obtain⟨od,J,hl⟩:=I.look;exact PySem.W.get_value X J (PySem.W.plainGet_of hg).1 (PySem.W.findObj_own hh ha rfl (by rw[hl,hv])) Bt h
theorem Vi{ns:List Str}{Q:Unit->Shared->Prop}(X:K.In s.heap)(I:uo s.heap x dx C mA)(hs:PySem.W.findIn K (.ref C) "__setattr__"=some (some (.builtin "object.__setattr__")))(hp:PySem.W.plainOver K C=true)(ht:PySem.W.takerIn K C name=some none)(hh:PySem.W.hasDictIn K C=true)(hw:PySem.Within mA ns)(hsz:ns.length<=sizeLine)(h:∀h',uo h' x dx C (λy=>if y=name then some v else mA y)->Heap.SameBut dx s.heap h'->Q Unit.unit { s with heap:=h',toks:=s.toks+2 }) :
  wpAny (model prog w) A (setAttr (.ref x) name v) Q E s:=by
 obtain⟨od,J,hl⟩:=I.look;refine PySem.W.set_plain X J hs (PySem.W.osa_open (s:={ s with toks:=s.toks+1 }) (r:=none) X J hp ht λb=>?_);obtain⟨cd,hc,HK⟩:=PySem.W.any_some hh;have hx:s.heap.get? x=some ⟨.ref C,some dx,.plain,#[]⟩:=I.obj;refine ae (au (ae (ae (wpAny_loadPart hx (ae (PySem.W.Looks.here (s:={ s with toks:=s.toks+1 }) (PySem.W.looks_clsIn X hc) ?_))))));rw[HK];refine au (a:=some dx) (ae (au (ae ?_)));refine wpAny_nsSet1 (s:={ s with toks:=s.toks+1 }) I.ns λh' nk gO=>?_;obtain⟨oD,esD,epD,Pw,Qd,Qg⟩:=nk.count (PySem.Within.cons name v hw);refine ae (wpAny_lookBehind Pw (by rw[Qd];exact pastItsLine_dict (aC Qg (by grind))) ?_);exact au (h _ ⟨(gO.2 _ (cq I.ne)).trans I.obj,nk,I.ne⟩ gO)
theorem We{R:Result->Shared->Prop}{vs:List Value}{kw:List (Str×Value)}(X:K.In s.heap)(hm:PySem.W.makesIn K C=true)(hi:PySem.W.findIn K (.ref C) "__init__"=some (some (.ref f)))(hf:PySem.W.typeIn K (.ref f)=some (.type "function"))(h:codeAny (model prog w) (A.under (.builtin "type.__call__" ⟨.ref C :: vs,kw⟩)) (.call (.ref f) ⟨.ref (s.heap.objs.size + 1) :: vs,kw⟩) (PySem.W.InitBack (s.heap.objs.size + 1) R)
   { s with heap:=(s.heap.push PySem.W.emptyDict).push (PySem.W.instObj C s.heap.objs.size) }) :
  codeAny (model prog w) A (.call (.ref C) ⟨vs,kw⟩) R s:=by
 exact PySem.W.make_core (PySem.W.makes_of X hm) (PySem.W.looks_findIn X hi) (λself=>PySem.W.bind_fn X self hf) (.inl rfl) h
end
def B5(f:Str)(v:V):List (Str×V)->List (Str×V)
 |[]=>[(f,v)]
 |(g,x)::r=>if g=f then(g,v)::r else(g,x)::B5 f v r
theorem La(f g:Str)(v:V):∀fs:List (Str×V),(B5 f v fs).lookup g=if g=f then some v else fs.lookup g
 |[]=>by
  show List.lookup g [(f,v)]=_;by_cases h:g=f
  ·have hb:(g==f)=true:=bx.mpr h;simp only[List.lookup,hb,if_pos h]
  ·have hb:(g==f)=false:=dO.mpr h;simp only[List.lookup,hb,if_neg h]
 |(k,x)::r=>by
  have ih:=La f g v r;rw[show B5 f v ((k,x)::r)=(if k=f then(k,v)::r else(k,x)::B5 f v r) from rfl];by_cases hk:k=f
  ·rw[aG hk];by_cases h:g=k
   ·have hb:(g==k)=true:=bx.mpr h;simp only[List.lookup,hb,if_pos (h.trans hk)]
   ·have hb:(g==k)=false:=dO.mpr h;simp only[List.lookup,hb,if_neg (λe:g=f=>h (e.trans hk.symm))]
  ·rw[aD hk];by_cases h:g=k
   ·have hb:(g==k)=true:=bx.mpr h;simp only[List.lookup,hb,if_neg (λe:g=f=>hk (h.symm.trans e))]
   ·have hb:(g==k)=false:=dO.mpr h;simp only[List.lookup,hb];exact ih
theorem DW(f:Str)(v:V):∀fs:List (Str×V),f∈(B5 f v fs).map (·.1)/\∀g,g∈fs.map (·.1)->g∈(B5 f v fs).map (·.1)
 |[]=>⟨by simp[B5],λg h=>by simp at h⟩
 |(k,x)::r=>by
  obtain⟨i1,i2⟩:=DW f v r;rw[show B5 f v ((k,x)::r)=(if k=f then(k,v)::r else(k,x)::B5 f v r) from rfl];by_cases hk:k=f
  ·rw[aG hk]
   grind
  ·rw[aD hk];refine⟨?_,λg h=>?_⟩
   ·exact bE _ i1
   ·rcases aJ.mp h with e|e
    ·exact aJ.mpr (.inl e)
    ·exact bE _ (i2 g e)
theorem KY(f:Str)(v:V):∀fs:List (Str×V),(B5 f v fs).length<=fs.length+1
 |[]=>by simp[B5]
 |(k,x)::r=>by
  have ih:=KY f v r;rw[show B5 f v ((k,x)::r)=(if k=f then(k,v)::r else(k,x)::B5 f v r) from rfl]
  grind
theorem K4.some_of{o:Option Value}(r:K4 (some v) o):∃u,o=some u/\RelV v u:=by
 cases o with
 |none=>exact(show False from r).elim
 |some u=>exact⟨u,rfl,r⟩
theorem a34(r:RelV v u):PySem.W.handedIn u=true:=by
 cases v with
 |bD=>cases (show u=Value.none from r);rfl
 |bl b=>cases (show u=Value.bool b from r);rfl
 |int i=>obtain⟨t,e⟩:=(show ∃t,u=Value.int i t from r);cases e;rfl
 |str x=>obtain⟨t,e⟩:=(show ∃t,u=Value.str x t from r);cases e;rfl
 |ml b=>obtain⟨t,e⟩:=(show ∃t,u=Value.bytes b t from r);cases e;rfl
 |sk b=>obtain⟨t,e⟩:=(show ∃t,u=Value.float b t from r);cases e;rfl
 |ref a=>cases (show u=Value.ref a from r);rfl
 |ty n=>cases (show u=Value.type n from r);rfl
section
variable{fs:List (Str×V)}
theorem Dy(bY:gK P w H h)(e:H a=some (.ins C dx fs)):∃mA,uo h a dx C mA/\(∀f,K4 (fs.lookup f) (mA f))/\PySem.Within mA (fs.map (·.1))/\fs.length<=1000/\H dx=some (.own a):=by
 obtain⟨d,z,ne,ob,mA,n,r,q⟩:=(show u6 P w H h a (.ins C dx fs) from bY a _ e)
 exact⟨mA,⟨ob,n,ne⟩,r,q,z,d⟩
end
structure kG(K:PySem.W.Frag)(C:Addr):Prop where
 pg:PySem.W.plainGet K C Str.empty=true
 hd:PySem.W.hasDictIn K C=true
 po:PySem.W.plainOver K C=true
 sa:PySem.W.findIn K (.ref C) "__setattr__"=some (some (.builtin "object.__setattr__"))
theorem kG.get(c:kG K C)(f:Str):PySem.W.plainGet K C f=true:=c.pg
def E1(K:PySem.W.Frag)(C:Addr)(f:Str):Prop:=PySem.W.findIn K (.ref C) f=some none
theorem E1.ZC{f:Str}(n:E1 K C f):PySem.W.takerIn K C f=some none:=by
 unfold PySem.W.takerIn;rw[show PySem.W.findIn K (.ref C) f=some none from n]
 rfl
structure Meth(K:PySem.W.Frag)(C:Addr)(m:Str)(f:Addr):Prop where
 at_:PySem.W.findIn K (.ref C) m=some (some (.ref f))
 fn:PySem.W.isFn K (.ref f)=true
 kp:PySem.W.keepIn K (.ref f)=true
section
variable{fs:List (Str×V)}{f:Str}
theorem aU9{b:Bool}(I:Inv X pins U H s)(e:H a=some (.ins C dx fs))(c:kG X.K C)(n:E1 X.K C f)(l:fs.lookup f=some v)(h:∀u s',Inv X pins U H s'->RelV v u->Q u s'):wpAny (model X.prog X.w) A (getAttr (.ref a) f b) Q E s:=by
 obtain⟨mA,O,r,_,_,_⟩:=Dy I.bY e;obtain⟨u,hu,ru⟩:=K4.some_of (v:=v) (o:=mA f) (by rw[<- l];exact r f);exact get_map I.iG O (c.get f) c.hd n hu (a34 ru) (h u _ (I.tok _) ru)
theorem aR6{y:V}{Q:Unit->Shared->Prop}(I:Inv X pins U H s)(e:H a=some (.ins C dx fs))(c:kG X.K C)(n:E1 X.K C f)(hl:fs.length<1000)(ry:RelV y u)(h:∀s',Inv X pins U (upd H a (.ins C dx (B5 f y fs))) s'->Q Unit.unit s'):wpAny (model X.prog X.w) A (setAttr (.ref a) f u) Q E s:=by
 obtain⟨mA,O,r,wi,_,ho⟩:=Dy I.bY e;have hz:(fs.map (·.1)).length<=sizeLine:=by rw[ak,tm];omega
 refine Vi I.iG O c.sa c.po n.ZC c.hd wi hz λh' O' sb=>h _ ?_;have hd:∃o,h'.get? dx=some o:=let ⟨o,_,_,e',_⟩:=O'.ns;⟨o,e'⟩
 refine I.write (x:=a) (e:=dx) (by rw[e];exact True.intro) (.inr ho) (λb q hb z=>(sb.2 b hb).trans z) hd ?_;refine⟨by rw[i6 O.ne];exact ho,?_,O.ne,O'.obj,_,O'.ns,λg=>?_,λg hg=>?_⟩
 ·have:=KY f y fs;omega
 ·show K4 ((B5 f y fs).lookup g) (if g=f then some u else mA g);rw[La];by_cases q:g=f
  ·rw[aG q,aG q];exact ry
  ·rw[aD q,aD q];exact r g
 ·by_cases q:g=f
  ·rw[q];exact(DW f y fs).1
  ·refine(DW f y fs).2 g (wi g λz=>hg ?_);show(if g=f then some u else mA g)=none;rw[aD q];exact z
theorem Inv.made(I:Inv X pins U H s):Inv X pins U (upd (upd H s.heap.objs.size (.own (s.heap.objs.size+1))) (s.heap.objs.size+1) (.ins C s.heap.objs.size []))
  { s with heap:=(s.heap.push PySem.W.emptyDict).push (PySem.W.instObj C s.heap.objs.size) }:=by
 have e1:(s.heap.push PySem.W.emptyDict).get? s.heap.objs.size=some PySem.W.emptyDict:=aE s.heap rfl;have e2:((s.heap.push PySem.W.emptyDict).push (PySem.W.instObj C s.heap.objs.size)).get? (s.heap.objs.size+1)=some (PySem.W.instObj C s.heap.objs.size):=by
  have:=aE (s.heap.push PySem.W.emptyDict) (o:=PySem.W.instObj C s.heap.objs.size) rfl
  rwa [fj] at this
 have e3:(s.heap.push PySem.W.emptyDict).Ns s.heap.objs.size (λ_=>none):=⟨PySem.W.emptyDict,#[],_,e1,rfl,(λe he=>absurd he (by simp)),λ_=>rfl⟩
 have I1:=I.laid (a:=s.heap.objs.size) (o:=.own (s.heap.objs.size+1)) (h':=s.heap.push PySem.W.emptyDict) (t':=s.toks) (λb u q=>ao _ q) (aw _) ⟨_,e1⟩;refine I1.laid (a:=s.heap.objs.size+1) (o:=.ins C s.heap.objs.size []) (t':=s.toks) (λb u q=>ao _ q) (fJ (fj _ _)) ?_;have ne:s.heap.objs.size≠s.heap.objs.size+1:=aM (mr _);refine⟨by rw[i6 ne,A1],bW _,ne,e2,λ_=>none,(Heap.Ns1.of_empty e3).at λo q=>ao _ q,λ_=>True.intro,λy hy=>absurd rfl hy⟩
theorem TJ{prog:Program}{env:Env}(hb:attributeBase e f env (eval e env)=eval e env)(h:wpAny (model prog w) A (eval e env) (λo bO=>wpAny (model prog w) A (getAttr o f true) Q E bO) E s):wpAny (model prog w) A (eval (.Attribute e f pos) env) Q E s :=
 Attribute_any_ h (by rw[arm_eval_Attribute,hb])
end
def XB(K:PySem.W.Frag)(ta:TE)(f:Str):TE:=λU H Q=>ta U H λx H1=>∃a C dx fs v,x=.ref a/\H1 a=some (.ins C dx fs)/\kG K C/\E1 K C f/\fs.lookup f=some v/\Q v H1
def Xq(K:PySem.W.Frag)(ta tv:TE)(f:Str):TS:=λD U H=>tv U H λy H1=>ta U H1 λx H2=>∃a C dx fs,x=.ref a/\H2 a=some (.ins C dx fs)/\kG K C/\E1 K C f/\fs.length<1000 /\
 D.nx U (upd H2 a (.ins C dx (B5 f y fs)))
section
variable{o value:Expr}{f:Str}{tv:TE}
theorem RV(he:PE X e ta)(hb:attributeBase e f X.env (eval e X.env)=eval e X.env):PE X (.Attribute e f pos) (XB X.K ta f):=by
 intro pins s U H Q I h;refine TJ hb (cV (he pins s U H _ I h) λu s1 bG=>?_);obtain⟨x,H1,I1,rx,a,C,dx,fs,v,ex,ea,c,n,l,q⟩:=bG;subst ex;obtain rfl:u=Value.ref a:=rx;exact aU9 I1 ea c n l λu' s2 I2 ru=>⟨v,H1,I2,ru,q⟩
theorem So(ha:PE X o ta)(hv:PE X value tv)(hs:swapsWith value (some (.Attribute o f pos')) pos.line X.env=pure false):PS X (.Assign [.Attribute o f pos'] value pos) (Xq X.K ta tv f):=by
 intro pins s U H D I h;refine plainObj_wpAny_Assign_Attribute (cV (hv pins s U H _ I h) λu s1 ⟨y,H1,I1,ry,q⟩=>cV (ha pins s1 U H1 _ I1 q) λov s2 bG=>?_) hs;obtain⟨x,H2,I2,rx,a,C,dx,fs,ex,ea,c,n,l,q2⟩:=bG;subst ex;obtain rfl:ov=Value.ref a:=rx;exact aR6 I2 ea c n l ry λs3 I3=>⟨U,_,I3,q2⟩
end
section
variable{c:Value}{b:Bool}
inductive iH(K:PySem.W.Frag)(H:Hp):V->Value->Prop where
 |bD:iH K H .bD (.type "NoneType")
 |bl (x:Bool):iH K H (.bl x) (.type "bool")
 |int (i:Int):iH K H (.int i) (.type "int")
 |str (x:Str):iH K H (.str x) (.type "str")
 |sk (x:UInt64):iH K H (.sk x) (.type "float")
 |lst {a:Addr} {xs:List V} (e:H a=some (.lst xs)):iH K H (.ref a) (.type "list")
 |kq {a:Addr} {o:Obj} {xs:List V} (e:H a=some (.kq o (.lst xs))):iH K H (.ref a) (.type "list")
 |tup {a:Addr} {xs:List V} (e:H a=some (.tup xs)):iH K H (.ref a) (.type "tuple")
 |dK {a:Addr} {kvs:List (Key×V)} (e:H a=some (.dK kvs)):iH K H (.ref a) (.type "dict")
 |dT {a:Addr} {kvs:List (List Key×V)} (e:H a=some (.dT kvs)):iH K H (.ref a) (.type "dict")
 |ins {a C dx:Addr} {fs:List (Str×V)} (e:H a=some (.ins C dx fs)) (cl:kG K C) (ha:PySem.W.findIn K (.ref C) "__class__"=some (some (.builtin "object.__class__")))
   (hn:PySem.W.specialIn K (.builtin "object.__class__") "__get__"=some (some (.builtin "getset_descriptor.__get__"))) (vS:PySem.W.takesIn K (.builtin "object.__class__")=some true)
   (hm:PySem.W.mroIn K C (.type "object")=some true):iH K H (.ref a) (.ref C)
theorem a31{x:V}{t:Value}(I:Inv X pins U H s)(rx:RelV x u)(ty:iH X.K H x t)(e:PySem.W.kitOne X.K t c=some b)(h:∀tk,Q (.bool b) { s with toks:=tk }) :
  wpAny (model X.prog X.w) A (call (.builtin "isinstance") [u,c]) Q E s:=by
 cases ty with
 |bD=>cases (show u=Value.none from rx);exact cb PySem.W.kitx_none I.iG True.intro e (λz=>nomatch z) h
 |bl y=>cases (show u=Value.bool y from rx);exact cb PySem.W.kitx_bool I.iG True.intro e (λz=>nomatch z) h
 |int i=>obtain⟨t,q⟩:=(show ∃t,u=Value.int i t from rx);cases q;exact cb PySem.W.kitx_int I.iG True.intro e (λz=>nomatch z) h
 |str y=>obtain⟨t,q⟩:=(show ∃t,u=Value.str y t from rx);cases q;exact cb PySem.W.kitx_str I.iG True.intro e (λz=>nomatch z) h
 |sk y=>obtain⟨t,q⟩:=(show ∃t,u=Value.float y t from rx);cases q;exact cb PySem.W.kitx_float I.iG True.intro e (λz=>nomatch z) h
 |@lst a xs ea =>
  cases (show u=Value.ref a from rx);obtain⟨_,_,n,_,h1⟩:=(show u6 X.prog X.w H s.heap a (.lst xs) from I.bY a _ ea)
  exact cb PySem.W.kitx_list I.iG ⟨_,h1,rfl⟩ e (λz=>nomatch z) h
 |@kq a ob xs ea =>
  cases (show u=Value.ref a from rx);obtain⟨_,_,_,n,_,h1⟩:=(show u6 X.prog X.w H s.heap a (.kq ob (.lst xs)) from I.bY a _ ea)
  exact cb PySem.W.kitx_list I.iG ⟨_,h1,rfl⟩ e (λz=>nomatch z) h
 |@tup a xs ea =>
  cases (show u=Value.ref a from rx);obtain⟨_,_,_,p⟩:=(show u6 X.prog X.w H s.heap a (.tup xs) from I.bY a _ ea)
  obtain⟨o,h1,h2,_⟩:=p;exact cb NR I.iG ⟨o,h1,h2⟩ e (λz=>nomatch z) h
 |@dK a kvs ea =>
  cases (show u=Value.ref a from rx);obtain⟨_,_,vs,_,p⟩:=(show u6 X.prog X.w H s.heap a (.dK kvs) from I.bY a _ ea)
  obtain⟨o,es,ep,h1,h2,_⟩:=p;exact cb PySem.W.kitx_dict I.iG ⟨o,h1,h2.1⟩ e (λz=>nomatch z) h
 |@dT a kvs ea =>
  cases (show u=Value.ref a from rx);obtain⟨_,_,xs,_,o,es,ep,h1,h2,_⟩:=(show u6 X.prog X.w H s.heap a (.dT kvs) from I.bY a _ ea)
  exact cb PySem.W.kitx_dict I.iG ⟨o,h1,h2.1⟩ e (λz=>nomatch z) h
 |@ins a C dx fs ea cl ha hn vS hm =>
  cases (show u=Value.ref a from rx);obtain⟨mA,O,_⟩:=Dy I.bY ea;obtain⟨od,J,_⟩:=O.look;exact cb (PySem.W.kitx_own (cl.get _) cl.hd ha hn vS hm) I.iG J e (λz=>nomatch z) h
end
structure A5(k:Nat)(A:Around):Prop where
 hd:A.handled=none
 dp:A.depth+3*k+5<recursionLimit
 un:A.units+16*k+200<cLine
theorem A5.mono{j:Nat}(r:A5 k A)(h:j<=k):A5 j A:=⟨r.hd,by have:=r.dp;omega,by have:=r.un;omega⟩
theorem A5.deeper{k:Nat}{A:Around}(r:A5 (k+1) A)(env:Env):A5 k (A.deeper env) :=
 ⟨r.hd,by have:=r.dp;show A.depth+1+3*k+5<_;omega,by have:=r.un;show A.units+3+16*k+200<_;omega⟩
theorem aT9{kw:List (Str×Value)}:(A.under (.builtin "type.__call__" ⟨.ref C::us,kw⟩)).depth=A.depth+1:=by
 rfl
theorem aT8{kw:List (Str×Value)}:(A.under (.builtin "type.__call__" ⟨.ref C::us,kw⟩)).units=A.units+1:=by
 rfl
theorem A5.make(r:A5 (k+1) A)(C:Addr)(us:List Value)(kw:List (Str×Value)):A5 k (A.under (.builtin "type.__call__" ⟨.ref C::us,kw⟩)) :=
 ⟨r.hd,by have:=r.dp;rw[aT9];omega,by have:=r.un;rw[aT8];omega⟩
theorem A5.depth{k:Nat}{A:Around}(r:A5 k A):A.depth<recursionLimit:=by have:=r.dp;omega
def FI:TA:=λ_ H Q=>Q [] H
def Zv(ta:TE)(tr:TA):TA:=λU H Q=>ta U H λx H1=>tr U H1 λxs H2=>Q (x::xs) H2
theorem Z9:PA X [] FI:=λ_ _ _ _ H Q I h=>Calls.spliced_nil ⟨[],H,I,.nil,h⟩
theorem U5(ha:PE X e te)(hr:PA X es t)(hs:starEach (e::es) X.env=(false,eval e X.env)::starEach es X.env:=by rfl):PA X (e::es) (Zv te t):=by
 intro pos pins s U H Q I h;rw[hs];show wpAny _ _ (spliced ((false,eval e X.env)::backTo pos (starEach es X.env))) _ _ s;refine Calls.spliced_cons (cV (ha pins s U H _ I h) λu s1 bG=>?_);obtain⟨x,H1,I1,r1,q1⟩:=bG;exact cV (hr pos pins s1 U H1 _ I1 q1) λus s2 ⟨xs,H2,I2,r2,q2⟩=>⟨x::xs,H2,I2,.cons r1 r2,q2⟩
def XJ(t:TA):TE:=λU H Q=>t U H λxs H1=>xs.length<=sizeLine/\∀p,H1 p=none->Q (.ref p) (upd H1 p (.tup xs))
def XE(t:TA):TE:=λU H Q=>t U H λxs H1=>xs.length<=sizeLine/\∀p,H1 p=none->Q (.ref p) (upd H1 p (.lst xs))
theorem Se{x1}(h:PA X es t):PE X (.Tuple es x1 pos) (XJ t):=by
 intro pins s U H Q I hq;refine wpAny_Tuple_spliced (cV (h pos pins s U H _ I hq) λus s1 ⟨xs,H1,I1,r,z,q⟩=>⟨by rw[<- r.length];exact z,?_⟩);have hf:H1 s1.heap.objs.size=none:=I1.bY.fresh (aw _);refine⟨.ref s1.heap.objs.size,upd H1 s1.heap.objs.size (.tup xs),I1.laid (t':=s1.toks) (λb u e=>ao _ e) (aw _) ?_,rfl,q _ hf⟩;exact⟨z,us,r,⟨_,aE _ rfl,rfl,⟨_,rfl⟩,rfl⟩⟩
theorem RY(h:PA X es t):PE X (.List es pos) (XE t):=by
 intro pins s U H Q I hq;refine wpAny_List_spliced (cV (h pos pins s U H _ I hq) λus s1 ⟨xs,H1,I1,r,z,q⟩=>⟨by rw[<- r.length];exact z,?_⟩);have hf:H1 s1.heap.objs.size=none:=I1.bY.fresh (aw _);refine⟨.ref s1.heap.objs.size,upd H1 s1.heap.objs.size (.lst xs),I1.laid (t':=s1.toks) (λb u e=>ao _ e) (aw _) ?_,rfl,q _ hf⟩;exact⟨z,us,0,r,aE _ rfl⟩
noncomputable abbrev Sp:=List V->Hp->VK->XK->Prop
noncomputable abbrev oq:=List Env->Hp->Shared->XK->Value->Shared->Prop
structure sH(P:Program)(w:World)(K:PySem.W.Frag)(mg:Str->Option Value)(base:Heap)(A:Around)(outer:List Env)(s:Shared)(H:Hp):Prop where
 frames:A.frames=some outer
 mod:Mod K mg base
 bs:∀b o,base.get? b=some o->s.heap.get? b=some o/\H b=none
 oi:base.objs.size<=s.heap.objs.size
 M6:s.heap.FunFrames base outer
 oJ:∀b∈gE outer,H b=none
 bY:gK P w H s.heap
 bare:AllBare s.gens
def CE(outer:List Env)(P:Program)(w:World)(H:Hp)(s:Shared)(Q:VK)(u:Value)(s':Shared):Prop :=
 ∃v H',s'.os=s.os/\AllBare s'.gens/\Un (gE outer) [] H H' s.heap s'.heap/\gK P w H' s'.heap/\RelV v u/\Q v H'
def CR(CX:oq)(outer:List Env)(P:Program)(w:World)(H:Hp)(s:Shared)(Q:VK)(E:XK)(r:Result)(s':Shared):Prop :=
 match r with
 |.ok (.ret u)=>CE outer P w H s Q u s'
 |.ok _=>False
 |.error e=>CX outer H s E e s'
structure iR(P:Program)(w:World)(K:PySem.W.Frag)(mg:Str->Option Value)(base:Heap)(CX:oq)(k:Nat)(f:Addr)(fd:FuncData)(ps:List Str)(sp:Sp):Prop where
 len:∀vs H Q E,sp vs H Q E->vs.length=ps.length
 run:∀(A:Around) (outer:List Env) (s:Shared) (H:Hp) (args:Args) (us:List Value) (vs:List V) (Q:VK) (E:XK),A5 k A->sH P w K mg base A outer s H->BindsTo s fd args (ps.zip us)->Vals vs us->sp vs H Q E ->
  codeAny (model P w) A (.call (.ref f) args) (CR CX outer P w H s Q E) s
theorem sH.make{mg:Str->Option Value}{outer:List Env}(e:sH P w K mg base A outer s H)(C:Addr)(us:List Value)(kw:List (Str×Value)) :
  sH P w K mg base (A.under (.builtin "type.__call__" ⟨.ref C::us,kw⟩)) outer s H:=⟨by first|exact e.frames|(simpa[Around.under,Code.envs,Code.isFrame,pushEnvs] using e.frames),e.mod,e.bs,e.oi,e.M6,e.oJ,e.bY,e.bare⟩
section
variable{s':Shared}
theorem Inv.JB(I:Inv X pins U H s):sH X.prog X.w X.K X.mg X.base X.A X.stack s H :=
 ⟨I.ok.frames,I.ok.mod,I.bs,aC I.ok.oi I.sz,I.stack,I.zH,I.bY,I.bare⟩
theorem Inv.after{Q:VK}(I:Inv X pins U H s)(h:CE X.stack X.prog X.w H s Q u s'):EP X pins U Q u s':=by
 obtain⟨v,H',os,bare,un,bY,r,q⟩:=h;obtain⟨hh,g,d,t,rz⟩:=s';obtain rfl:rz=s.os:=os;exact⟨v,H',I.call (h':=hh) (g':=g) (d':=d) (t':=t) (ch:=[]) un bY bare (λb z=>absurd z (by simp)),r,q⟩
end
def Jv(sp:Sp)(ku:List V)(E:XK)(t:TA):TE:=λU H Q=>t U H λvs H1=>sp (vs++ku) H1 Q E
def Jw(C:Addr)(sp:Sp)(ku:List V)(E:XK)(t:TA):TE:=λU H Q=>t U H λvs H1=>∀x dx,H1 x=none->H1 dx=none->dx≠x ->
 sp (.ref x::(vs++ku)) (upd (upd H1 dx (.own x)) x (.ins C dx [])) (λv H2=>v=.bD/\Q (.ref x) H2) E
def Binds(K:PySem.W.Frag)(fd:FuncData)(ps:List Str)(ds:List Value):Prop :=
 ∀(s:Shared) (us:List Value),K.In s.heap->(us++ds).length=ps.length->BindsTo s fd ⟨us,[]⟩ (ps.zip (us++ds))
theorem Binds.all(h:∀us:List Value,us.length=ps.length->bindArgs fd ⟨us,[]⟩=pure (ps.zip us)):Binds K fd ps []:=λs us _ hl=>by
 rw[dz] at hl ⊢;exact .of_eq (h us hl)
def Passes(CX:oq)(X:Cx)(E:XK):Prop:=∀(pins:List (Addr×Obj)) (U:St) (H:Hp) (s:Shared) (e:Value) (s':Shared),Inv X pins U H s->CX X.stack H s E e s'->X.xe e s'
section
variable{ku:List V}{ds:List Value}{E:XK}
theorem Lx{Q:VK}(F:iR X.prog X.w X.K X.mg X.base CX k f fd ps sp)(hr:A5 k X.A)(hb:Binds X.K fd ps ds)(hd:Vals ku ds)(hx:Passes CX X E)(I:Inv X pins U H s)(r:Vals vs us)(h:sp (vs++ku) H Q E):wpAny (model X.prog X.w) X.A (call (.ref f) us) (EP X pins U Q) X.xe s:=by
 have r2:Vals (vs++ku) (us++ds):=r.append hd;have hl:(us++ds).length=ps.length:=by rw[<- r2.length];exact F.len _ _ _ _ h
 refine wpAny_call (iC (F.run X.A X.stack s H ⟨us,[]⟩ (us++ds) (vs++ku) Q E hr I.JB (hb s us I.iG hl) r2 h) λr s' hq=>?_);cases r with
 |error e=>exact hx pins U H s e s' I hq
 |ok fl =>
  cases fl with
  |ret u=>exact I.after hq
  |next=>exact False.elim hq
  |brk=>exact False.elim hq
  |cont=>exact False.elim hq
theorem Uz(F:iR X.prog X.w X.K X.mg X.base CX k f fd ps sp)(hr:A5 k X.A)(hg:Gl X x)(hm:X.mg x=some (.ref f))(hk:PySem.W.keepIn X.K (.ref f)=true)(hb:Binds X.K fd ps ds)(hd:Vals ku ds)(hx:Passes CX X E)(ha:PA X (e::es) t)(iA:(x==("__debug__":Str))=false:=by decide)(he:starEach (e::es) X.env=(false,eval e X.env)::starEach es X.env:=by rfl)(gZ:(backTo pos (starEach es X.env)).any (·.1)=false:=by rfl) :
  PE X (.Call (.Name x p) (e::es) [] pos) (Jv sp ku E t):=by
 intro pins s U H Q I h;refine cU (P7 I hg hm ?_ iA);refine NS (h₀:=X.base) I.ok.mod.ox hk (cV (ha pos pins s U H _ I h) λus s1 ⟨vs,H1,I1,r,q⟩=>⟨I1.iG,?_⟩) he gZ;exact Lx F hr hb hd hx I1 r q
theorem Wm(F:iR X.prog X.w X.K X.mg X.base CX k f fd ps sp)(hr:A5 k X.A)(hg:Gl X x)(hm:X.mg x=some (.ref f))(hk:PySem.W.keepIn X.K (.ref f)=true)(hb:Binds X.K fd ps ds)(hd:Vals ku ds)(hx:Passes CX X E)(iA:(x==("__debug__":Str))=false:=by decide):PE X (.Call (.Name x p) [] [] pos) (Jv sp ku E FI):=by
 intro pins s U H Q I h;refine cU (P7 I hg hm ?_ iA);exact FZ I.iG hk (Lx (us:=[]) F hr hb hd hx I .nil h)
structure Mk(K:PySem.W.Frag)(C f:Addr):Prop where
 makes:PySem.W.makesIn K C=true
 init:PySem.W.findIn K (.ref C) "__init__"=some (some (.ref f))
 fn:PySem.W.isFn K (.ref f)=true
 kp:PySem.W.keepIn K (.ref C)=true
theorem MZ{Q:VK}(M:Mk X.K C f)(F:iR X.prog X.w X.K X.mg X.base CX k f fd ps sp)(hr:A5 (k+1) X.A)(hb:Binds X.K fd ps ds)(hd:Vals ku ds)(hx:Passes CX X E)(I:Inv X pins U H s)(r:Vals vs us)(h:∀x dx,H x=none->H dx=none->dx≠x->sp (.ref x::(vs++ku)) (upd (upd H dx (.own x)) x (.ins C dx [])) (λv H2=>v=.bD/\Q (.ref x) H2) E) :
  wpAny (model X.prog X.w) X.A (call (.ref C) us) (EP X pins U Q) X.xe s:=by
 have hq:=h (s.heap.objs.size+1) s.heap.objs.size (I.bY.fresh (cL _)) (I.bY.fresh (aw _)) (aM (mr _));have I2:=Inv.made (C:=C) I;have r2:Vals (V.ref (s.heap.objs.size+1)::(vs++ku)) (Value.ref (s.heap.objs.size+1)::(us++ds)):=.cons rfl (r.append hd);have hl:(Value.ref (s.heap.objs.size+1)::us++ds).length=ps.length:=by
  have e:=r2.length;rw[F.len _ _ _ _ hq] at e;exact e.symm
 refine wpAny_call (We (f:=f) I.iG M.makes M.init (bx.mp M.fn) (iC (F.run _ X.stack _ _ ⟨Value.ref (s.heap.objs.size + 1) :: us,[]⟩ (Value.ref (s.heap.objs.size + 1) :: (us ++ ds)) _ _ E (hr.make C us [])
  (I2.JB.make C us []) (hb _ (Value.ref (s.heap.objs.size + 1) :: us) I2.iG hl) r2 hq) λr s' nL=>?_))
 cases r with
 |error e=>exact hx pins U _ _ e s' I2 nL
 |ok fl =>
  cases fl with
  |ret u =>
   obtain⟨v,H',I3,rv,ev,q3⟩:=I2.after nL;subst ev;exact⟨rv,⟨V.ref (s.heap.objs.size+1),H',I3,rfl,q3⟩⟩
  |next=>exact False.elim nL
  |brk=>exact False.elim nL
  |cont=>exact False.elim nL
theorem UB(M:Mk X.K C f)(F:iR X.prog X.w X.K X.mg X.base CX k f fd ps sp)(hr:A5 (k+1) X.A)(hg:Gl X x)(hm:X.mg x=some (.ref C))(hb:Binds X.K fd ps ds)(hd:Vals ku ds)(hx:Passes CX X E)(ha:PA X (e::es) t)(iA:(x==("__debug__":Str))=false:=by decide)(he:starEach (e::es) X.env=(false,eval e X.env)::starEach es X.env:=by rfl)(gZ:(backTo pos (starEach es X.env)).any (·.1)=false:=by rfl) :
  PE X (.Call (.Name x p) (e::es) [] pos) (Jw C sp ku E t):=by
 intro pins s U H Q I h;refine cU (P7 I hg hm ?_ iA);refine NS (h₀:=X.base) I.ok.mod.ox M.kp (cV (ha pos pins s U H _ I h) λus s1 ⟨vs,H1,I1,r,q⟩=>⟨I1.iG,?_⟩) he gZ;exact MZ M F hr hb hd hx I1 r q
theorem Wr(M:Mk X.K C f)(F:iR X.prog X.w X.K X.mg X.base CX k f fd ps sp)(hr:A5 (k+1) X.A)(hg:Gl X x)(hm:X.mg x=some (.ref C))(hb:Binds X.K fd ps ds)(hd:Vals ku ds)(hx:Passes CX X E)(iA:(x==("__debug__":Str))=false:=by decide):PE X (.Call (.Name x p) [] [] pos) (Jw C sp ku E FI):=by
 intro pins s U H Q I h;refine cU (P7 I hg hm ?_ iA);exact FZ I.iG M.kp (MZ (us:=[]) M F hr hb hd hx I .nil h)
end
structure jq(N P:List Str)(sc:Scope):Prop where
 kind:sc.kind=.function
 co:sc.isCoroutine=false
 gen:sc.isGenerator=false
 nd:N.Nodup
 pre:N.take P.length=P
 par:∀x∈P,sc.names.lookup x=some .local\/sc.names.lookup x=some .cell
 nG:∀y∈sc.names,y.2≠.free
theorem JP{kindOf:Str->Option NameKind}{x:Str}:∀{binds:List (Str×Value)} {m:Str->Option Value},(∀v,(x,v)∉binds)->bindL kindOf binds m x=m x
 |[],_,_=>rfl
 |(n,v)::r,m,h=>by
  unfold bindL;rw[JP λw hw=>h w (bE _ hw)];split
  ·have:x≠n:=by rintro rfl;exact h v cZ
   simp[this]
  ·rfl
theorem JN{kindOf:Str->Option NameKind}{x:Str}:∀{binds:List (Str×Value)} {m:Str->Option Value},(∀v,(x,v)∉binds)->bindC kindOf binds m x=m x
 |[],_,_=>rfl
 |(n,v)::r,m,h=>by
  unfold bindC;rw[JN λw hw=>h w (bE _ hw)];split
  ·rfl
  ·have:x≠n:=by rintro rfl;exact h v cZ
   simp[this]
theorem JO{kindOf:Str->Option NameKind}{x:Str}{v:Value}:∀{P:List Str} {vs:List Value} {i:Nat} {m:Str->Option Value},P.Nodup->P[i]?=some x->vs[i]?=some v->kindOf x=some .local ->
  bindL kindOf (P.zip vs) m x=some v
 |[],_,_,_,_,h,_,_=>by simp at h
 |_::_,[],_,_,_,_,h,_=>by simp at h
 |p::P,w::vs,0,m,nd,h1,h2,hk=>by
  simp at h1 h2;subst h1;subst h2;show bindL kindOf ((p,w)::P.zip vs) m p=_;unfold bindL;rw[JP λv hv=>(dw.mp nd).1 (nz hv).1,aG hk];simp
 |p::P,w::vs,i+1,m,nd,h1,h2,hk=>by
  unfold bindL;exact JO (i:=i) (dw.mp nd).2 (by simpa using h1) (by simpa using h2) hk
theorem JL{kindOf:Str->Option NameKind}{x:Str}{v:Value}:∀{P:List Str} {vs:List Value} {i:Nat} {m:Str->Option Value},P.Nodup->P[i]?=some x->vs[i]?=some v->kindOf x≠some .local ->
  bindC kindOf (P.zip vs) m x=some v
 |[],_,_,_,_,h,_,_=>by simp at h
 |_::_,[],_,_,_,_,h,_=>by simp at h
 |p::P,w::vs,0,m,nd,h1,h2,hk=>by
  simp at h1 h2;subst h1;subst h2;show bindC kindOf ((p,w)::P.zip vs) m p=_;unfold bindC;rw[JN λv hv=>(dw.mp nd).1 (nz hv).1,aD hk];simp
 |p::P,w::vs,i+1,m,nd,h1,h2,hk=>by
  unfold bindC;exact JL (i:=i) (dw.mp nd).2 (by simpa using h1) (by simpa using h2) hk
def start(N:List Str)(vs:List V):St:=vs.map some++List.replicate (N.length-vs.length) none
def pQ(CX:oq)(P:Program)(w:World)(K:PySem.W.Frag)(mg:Str->Option Value)(base:Heap)(N:List Str)(qual:Str)(scope:Scope)(f:Addr)(cd:Value)(A:Around)(outer:List Env)(s:Shared)(H:Hp)(E:XK):Cx where
 prog:=P
 w:=w
 K:=K
 mg:=mg
 base:=base
 A:=A.deeper (envOfC qual scope s.heap.objs.size f cd)
 N:=N
 dG:=s
 jU:=H
 env:=envOfC qual scope s.heap.objs.size f cd
 outer:=outer
 stack:=envOfC qual scope s.heap.objs.size f cd::outer
 ex:=[]
 calm:=true
 fn:=λ_=>true
 pn:=[]
 xe:=λe s'=>wpAny (model P w) (A.deeper (envOfC qual scope s.heap.objs.size f cd)) (leaving (envOfC qual scope s.heap.objs.size f cd) e) (λ_ oV=>CX outer H s E e oV) (λe' oV=>CX outer H s E e' oV) s'
theorem DH{sc:Scope}{n:Nat}(h:sc.names.lookup x=some .cell):∃c,(cellsFrom n sc.names []).lookup x=some c:=by
 have q:=et sc.names n [] (.inl h);exact fg.mp q
theorem a32{mg:Str->Option Value}{qual:Str}{scope:Scope}{cd:Value}{outer:List Env}{s1:Shared}{E:XK}(S:jq N ps scope)(hd:A.handled=none)(e0:sH P w K mg base A outer s H)(hl:vs.length=ps.length)(r:Vals vs us)(x:InCallC s s.heap.objs.size (bindL (envOfC qual scope s.heap.objs.size f cd).kindOf (ps.zip us) λ_=>none) (cellsFrom (s.heap.objs.size+1) scope.names []) (bindC (envOfC qual scope s.heap.objs.size f cd).kindOf (ps.zip us) λ_=>none) s1) :
  Inv (pQ CX P w K mg base N qual scope f cd A outer s H E) [] (start N vs) H s1:=by
 have gZ:ps.length<=N.length:=by have:=gR List.length S.pre;grind
 obtain⟨h1,tk,rfl,hk⟩:=x.done;have vt:∀b:Addr,b∉(pQ CX P w K mg base N qual scope f cd A outer s H E).ex:=λb z=>absurd (show b∈([]:List Addr) from z) (by simp);refine ⟨⟨e0.mod,S.kind,rfl,rfl,aw _,λy z c h1 h2=>?_,λy hy=>?_,λy c _ h=>?_,λ_=>hd,Around.frames_deeper e0.frames,.inr ⟨rfl,rfl⟩,λb z=>absurd z (vt b),e0.bs,e0.oi,λb _ _=>vt b,λb z=>absurd z (vt b),e0.M6,e0.oJ⟩,
  rfl,e0.bare,Un.kept hk,⟨_,x.toInCall.ns,λi y v h1 h2 h3=>?_⟩,λy c h=>⟨_,x.cell y c h⟩,e0.bY.fresh (aw _),λy c h=>?_,λp hp=>absurd (show p ∈ ([]:List (Addr × Obj)) from hp) (by simp),e0.bY.kept hk,?_,λde z=>absurd (show (none:Option (List (Option V)))=some de from z) (by simp)⟩
 ·exact name_of_addr x.apart (aT h1) (aT h2)
 ·rcases hy with hy|hy
  ·exact DH hy
  ·exact absurd rfl (S.nG _ (aT hy))
 ·exact eV (x.above y c (aT h))
 ·have hi:i<vs.length:=by
   unfold start at h2;by_cases hi:i<vs.length
   ·exact hi
   ·rw[cG (by simpa using hi)] at h2;rw[dU] at h2
    simp_all
  have ha:vs[i]?=some v:=by
   unfold start at h2;rw[aK (by simpa using hi),ai] at h2;cases e:vs[i]? with
   |none=>rw[e] at h2;cases h2
   |some a=>rw[e] at h2;cases h2;rfl
  obtain⟨u,hu,rv⟩:=r.get ha;have hp:ps[i]?=some y:=by
   rw[<- S.pre,fh ()];exact h1
  have GK:ps.Nodup:=by rw[<- S.pre];exact S.nd.sublist (List.take_sublist _ _)
  refine⟨u,rv,?_⟩;rcases S.par y (aF hp) with k|k
  ·exact .inl ⟨k,JO GK hp hu k⟩
  ·obtain⟨c,e⟩:=DH (n:=s.heap.objs.size+1) k;refine .inr ⟨.inl k,c,e,?_⟩;have q:=x.cell y c e;rw[JL GK hp hu (by show scope.names.lookup y≠_;rw[k];decide)] at q;exact q
 ·exact e0.bY.fresh (eV (x.above y c (aT h)))
 ·unfold start;show _=N.length
  simp_all
theorem Ys{mg:Str->Option Value}{name qual:Str}{params:Arguments}{scope:Scope}{dV kV doc pm gz ct oc:Value}{an od:Option Addr}{ni:Array (Option Value)}(lk:K.lookup f=some ⟨oc,od,.func (PySem.W.fnOf name qual params body scope dV kV doc pm an gz ct),ni⟩)(mJ:PySem.W.codeIn K gz qual=true)(S:jq N ps scope)(len:∀vs H Q E,sp vs H Q E->vs.length=ps.length)(wq:∀ (A:Around) (outer:List Env) (s:Shared) (H:Hp) (vs:List V) (Q:VK) (E:XK),A5 k (A.deeper (envOfC qual scope s.heap.objs.size f gz))->sp vs H Q E ->
   ∃ t,jL (pQ CX P w K mg base N qual scope f gz A outer s H E) body t/\t { nx:=λ_ H'=>Q .bD H',rt:=Q } (start N vs) H) :
  iR P w K mg base CX (k+1) f (PySem.W.fnOf name qual params body scope dV kV doc pm an gz ct) ps sp:=by
 refine⟨len,λA outer s H args us vs Q E hr e0 hb r tP=>?_⟩;have hl:=len _ _ _ _ tP;have KX:K.In s.heap:=e0.mod.ox.keeps λb o e=>(e0.bs b o e).1;have lim:s.heap.NoLimit:=e0.mod.nolimit.keeps λb o e=>(e0.bs b o e).1;have wc:∀y∈ps.zip us,scope.names.lookup y.1=some .local\/(scope.names.lookup y.1=some .cell/\((cellsFrom (s.heap.objs.size+1) scope.names []).lookup y.1).isSome=true):=λ⟨n,v⟩ hy=>by
  rcases S.par n (nz hy).1 with q|q
  ·exact .inl q
  ·exact .inr ⟨q,et _ _ _ (.inl q)⟩
 refine codeAny_call_function hr.depth (KX _ _ lk) rfl S.co S.gen rfl (PySem.W.codeRec_of KX mJ) (hb _ _ _ _ ?_);refine wpAny_newFunctionEnv_cells S.kind wc λenv he s1 x=>?_;subst he;refine⟨lim.keeps x.toInCall.keep,codeAny_func ?_⟩;obtain⟨t,ht,hq⟩:=wq A outer s H vs Q E (hr.deeper _) tP;have I:Inv (pQ CX P w K mg base N qual scope f gz A outer s H E) [] (start N vs) H s1:=a32 S hr.hd e0 hl r x;refine bH (ht [] s1 (start N vs) H _ I hq) (λfl s' hs=>?_) λe s' hs=>hs;have fin:∀{cw:St} {H':Hp} {v:V} {u:Value},Inv (pQ CX P w K mg base N qual scope f gz A outer s H E) [] cw H' s'->RelV v u->Q v H'->CE outer P w H s Q u s' :=
  λ{cw H' v u} J rv q=>⟨v,H',J.os,J.bare,J.base,J.bY,rv,q⟩
 cases fl with
 |ret u =>
  obtain⟨v,cw,H',J,rv,q⟩:=hs;exact fin J rv q
 |next =>
  obtain⟨cw,H',J,q⟩:=hs;exact fin (v:=V.bD) (u:=Value.none) J rfl q
 |brk =>
  obtain⟨_,_,_,q⟩:=hs
  simp_all
 |cont =>
  obtain⟨_,_,_,q⟩:=hs
  simp_all
section
variable{id T:String}{r:List V->Hp->VK->Prop}
def AR(r:List V->Hp->VK->Prop)(t:TA):TE:=λU H Q=>t U H λvs H1=>r vs H1 Q
theorem zP(hc:p9 X (.builtin id) r)(hg:Gl X x)(hm:X.mg x=none)(hv:bootBuiltins x=some (.builtin id))(ha:PA X (e::es) t)(hn:x≠"__name__":=by decide)(iA:(x==("__debug__":Str))=false:=by decide)(he:starEach (e::es) X.env=(false,eval e X.env)::starEach es X.env:=by rfl)(gZ:(backTo pos (starEach es X.env)).any (·.1)=false:=by rfl):PE X (.Call (.Name x p) (e::es) [] pos) (AR r t):=by
 intro pins s U H Q I h;refine cU (O2 I hg hm hv ?_ hn iA);exact PyProof.Rows.callWith_builtin1 (cV (ha pos pins s U H _ I h) λus s1 ⟨vs,H1,I1,r1,q1⟩=>hc pins s1 U H1 vs us Q I1 r1 q1) he gZ
theorem R6(hc:p9 X (.type T) r)(hg:Gl X x)(hm:X.mg x=none)(hv:bootBuiltins x=some (.type T))(ha:PA X (e::es) t)(hn:x≠"__name__":=by decide)(iA:(x==("__debug__":Str))=false:=by decide)(he:starEach (e::es) X.env=(false,eval e X.env)::starEach es X.env:=by rfl)(gZ:(backTo pos (starEach es X.env)).any (·.1)=false:=by rfl):PE X (.Call (.Name x p) (e::es) [] pos) (AR r t):=by
 intro pins s U H Q I h;refine cU (O2 I hg hm hv ?_ hn iA);exact bR (cV (ha pos pins s U H _ I h) λus s1 ⟨vs,H1,I1,r1,q1⟩=>hc pins s1 U H1 vs us Q I1 r1 q1) he gZ
end
end L2
namespace HT
open PySem PyProof.Rows
def kQ(n d:Nat):Option Int->Nat
 |none=>d
 |some v=>if v<0 then(v+(n:Int)).toNat else min v.toNat n
end HT
namespace L2
open PySem PySem.Spec PyProof.Rows
variable{X:Cx}{e:Expr}{pos:Pos}{n t':Nat}{a:Addr}{pins:List (Addr×Obj)}{U:St}{H H':Hp}{s:Shared}{bw:List Value}{o:Option V}{w:World}{A:Around}{E:Value->Shared->Prop}{u:Value}{kvs:List (List Key×V)}{y:V}{P:Program}
noncomputable abbrev TO:=St->Hp->(Option Int->Hp->Prop)->Prop
def PO(X:Cx)(e:Option Expr)(t:TO):Prop :=
 ∀(pins:List (Addr×Obj)) (s:Shared) (U:St) (H:Hp) (Q:Option Int->Hp->Prop),Inv X pins U H s->t U H Q ->
  wpAny (model X.prog X.w) X.A (evalPart e X.env) (λu s'=>∃o H',Inv X pins U H' s'/\IsPart u o/\Q o H') X.xe s
def Vs:TO:=λ_ H Q=>Q none H
def Zy(t:TE):TO:=λU H Q=>t U H λx H1=>∃i,x=.int i/\Q (some i) H1
section
variable{te:TE}{lo hi:Option Expr}{tl th:TO}{p2:Pos}
theorem UG:PO X none Vs:=by
 intro pins s U H Q I h;exact au ⟨none,H,I,.none,h⟩
theorem UH(h:PE X e te):PO X (some e) (Zy te):=by
 intro pins s U H Q I hw;refine cV (h pins s U H _ I hw) λu s1 bG=>?_;obtain⟨x,H1,I1,r1,q1⟩:=bG;obtain⟨i,rfl,q⟩:=q1;obtain⟨t,rfl⟩:=r1;exact⟨some i,H1,I1,.int i t,q⟩
def FN(X:Cx)(r:V->Option Int->Option Int->Hp->VK->Prop):Prop :=
 ∀(pins:List (Addr×Obj)) (s:Shared) (U:St) (H:Hp) (x:V) (v vl vu:Value) (lo hi:Option Int) (sl:Addr) (Q:VK),Inv X pins U H s->RelV x v->s.heap.IsSliceOf sl vl vu .none->IsPart vl lo->IsPart vu hi->r x lo hi H Q ->
  ∃T id,typeLookup (.type T) "__getitem__"=pure (some (.builtin id))/\s.TypeIs v T/\wpAny (model X.prog X.w) X.A (getItem v (.ref sl)) (EP X pins U Q) X.xe s
def Oi(r:V->Option Int->Option Int->Hp->VK->Prop)(te:TE)(tl th:TO):TE:=λU H Q=>te U H λx H1=>tl U H1 λl H2=>th U H2 λu H3=>r x l u H3 Q
theorem Wt{r:V->Option Int->Option Int->Hp->VK->Prop}(hr:FN X r)(he:PE X e te)(hl:PO X lo tl)(hu:PO X hi th):PE X (.Subscript e (.Slice lo hi none p2) pos) (Oi r te tl th):=by
 intro pins s U H Q I h;refine Subscript_ (cV (he pins s U H _ I h) λv s1 bG=>?_);obtain⟨x,H1,I1,r1,q1⟩:=bG;refine wpAny_Slice (cV (hl pins s1 U H1 _ I1 q1) λvl s2 ⟨l,H2,I2,pl,q2⟩=>cV (hu pins s2 U H2 _ I2 q2) λvu s3 bG=>?_);obtain⟨u,H3,I3,pu,q3⟩:=bG;refine au ?_;have I4:Inv X pins U H3 { s3 with heap:=s3.heap.push { cls:=.type "slice",data:=.fields #[vl,vu,.none] } }:=I3.kept (t':=s3.toks) λb ob q=>ao _ q;obtain⟨T,id,hT,ht,hg⟩:=hr pins { s3 with heap:=s3.heap.push { cls:=.type "slice",data:=.fields #[vl,vu,.none] } } U H3 x v vl vu l u s3.heap.objs.size Q I4 r1 (Heap.IsSliceOf.new ..) pl pu q3;exact tail_any (ops:=[.ref s3.heap.objs.size,v]) ht hT hg (by rfl)
def ur(xs:List V)(lo hi:Option Int):List V:=(xs.drop (HT.kQ xs.length 0 lo)).take (HT.kQ xs.length xs.length hi-HT.kQ xs.length 0 lo)
theorem aL7(xs:List V)(lo hi:Option Int):(ur xs lo hi).length<=xs.length:=by
 unfold ur;rw[dS,List.length_drop];omega
end
def lN(n:Nat)(i:Int):Option Nat:=if 0<=i then(if i<n then some i.toNat else none) else if -(n:Int)<=i then some (i+n).toNat else none
def gG{α:Type}(xs:List α)(i:Int):Option α:=(lN xs.length i).bind λj=>xs[j]?
theorem Mf{i:Int}{j:Nat}(h:lN n i=some j):seqIndex? i n=some j/\j<n/\-(n:Int)<=i/\i<n:=by
 unfold lN at h;by_cases h0:0<=i
 ·rw[aG h0] at h;by_cases h1:i<n
  ·rw[aG h1] at h;have e:i.toNat=j:=aP h;exact⟨by rw[seqIndex_of h0 h1,e],by omega,by omega,h1⟩
  simp_all
 ·rw[aD h0] at h;by_cases h1:-(n:Int)<=i
  ·rw[aG h1] at h;have e:(i+n).toNat=j:=aP h;exact⟨by rw[seqIndex_neg () h1,e],by omega,h1,by omega⟩
  simp_all
theorem LV{α:Type}{xs:List α}{i:Int}{v:α}(h:gG xs i=some v):∃j,seqIndex? i xs.length=some j/\xs[j]?=some v/\j<xs.length/\-(xs.length:Int)<=i/\i<xs.length:=by
 unfold gG at h;cases e:lN xs.length i with
 |none=>simp_all
 |some j =>
  rw[e] at h;obtain⟨h1,h2,h3,h4⟩:=Mf e;exact⟨j,h1,h,h2,h3,h4⟩
theorem C7{α:Type}{xs:List α}{j:Nat}{v:α}(h:xs[j]?=some v):gG xs (j:Int)=some v:=by
 have hj:j<xs.length:=(av.mp h).1;have e:lN xs.length (j:Int)=some j:=by
  unfold lN
  simp_all
 unfold gG;rw[e];exact h
def Dp(b:Expr):Prop:=∀o i,subscripted b false o i=operate [o,i] (getItem o i)
def uP(X:Cx)(r:R2):Prop :=
 ∀(value slice:Expr) (pins:List (Addr×Obj)) (s:Shared) (U:St) (H:Hp) (x y:V) (v u:Value) (Q:VK),Inv X pins U H s->RelV x v->RelV y u->r x y H Q ->
  subscripted slice false v u=operate [v,u] (getItem v u)->wpAny (model X.prog X.w) X.A (subscriptTail value slice v u) (EP X pins U Q) X.xe s
def mP(X:Cx)(id:String)(r:V->List V->Hp->VK->Prop):Prop :=
 ∀(pins:List (Addr×Obj)) (s:Shared) (U:St) (H:Hp) (x:V) (xs:List V) (v:Value) (us:List Value) (Q:VK),Inv X pins U H s->RelV x v->Vals xs us->r x xs H Q ->
  wpAny (model X.prog X.w) X.A (call (.builtin id) (v::us)) (EP X pins U Q) X.xe s
section
variable{a b:Expr}{ta tb:TE}
theorem Jn{r:R2}(hr:uP X r)(ha:PE X a ta)(hb:PE X b tb)(hs:Dp b):PE X (.Subscript a b pos) (tF r ta tb):=by
 intro pins s U H Q I h;exact Subscript_ (Di ha hb I h λv u s2 x y H2 I2 rx ry q=>hr a b pins s2 U H2 x y v u Q I2 rx ry q (hs _ _))
def Xj(K:PySem.W.Frag):R2:=λx y H Q=>∃p xs i v,x=.ref p/\y=.int i/\gn K H p xs/\gG xs i=some v/\Q v H
def Xk(K:PySem.W.Frag):R2:=λx y H Q=>∃p xs i v,x=.ref p/\y=.int i/\kx K H p xs/\gG xs i=some v/\Q v H
theorem Ub:uP X (Xj X.K):=by
 intro value slice pins s U H x y v u Q I rx ry h hs;obtain⟨p,xs,i,z,rfl,rfl,hq,he,q⟩:=h;cases rx;obtain⟨t,rfl⟩:=ry;obtain⟨bw,r,pl,hz⟩:=I.list hq;obtain⟨j,h1,h2,h3,h4,h5⟩:=LV he;obtain⟨w,ew,gH⟩:=r.get h2;have hl:=r.length;have hn:=zm;have fin:EP X pins U Q w s:=⟨z,H,I,gH,q⟩
 by_cases h0:0<=i
 ·have hj:i.toNat=j:=by
   rw[seqIndex_of h0 h5] at h1;exact aP h1
  exact item_listR pl.isList h0 () (by rw[hj];simpa using ew) fin hs
 ·have hj:(i+(bw.toArray.size:Int)).toNat=j:=by
   rw[seqIndex_neg () h4] at h1;rw[aX,<- hl];exact aP h1
  exact subscriptTail_builtinR (x:=w) pl.isList.typeIs slot_list_getitem.lookup
   (wpAny_getItem_list_neg (Q:=λr s'=>r=w/\EP X pins U Q r s') pl.isList () (by rw[aX]<;>omega) () (by rw[hj];simpa using ew) ⟨rfl,fin⟩) hs
theorem bC7:uP X (Xk X.K):=by
 intro value slice pins s U H x y v u Q I rx ry h hs;obtain⟨p,xs,i,z,rfl,rfl,hq,he,q⟩:=h;cases rx;obtain⟨t,rfl⟩:=ry;obtain⟨bw,r,pl,hz⟩:=I.tuple hq;obtain⟨j,h1,h2,h3,h4,h5⟩:=LV he;obtain⟨w,ew,gH⟩:=r.get h2;have hl:=r.length;have hn:=zm;have fin:EP X pins U Q w s:=⟨z,H,I,gH,q⟩
 exact subscriptTail_builtinR (x:=w) pl.typeIs slot_tuple_getitem.lookup
  (getItem_tuple (j:=j) (Q:=λr s'=>r=w/\EP X pins U Q r s') pl () () (by rw[aX,<- hl];exact h1) (by simpa using ew) ⟨rfl,fin⟩) hs
theorem aT7(bw:List Value)(n j:Nat)(u:Value):Obj.mapSeq (·.setIfInBounds j u) { cls:=.type "list",data:=.seq bw.toArray n }={ cls:=.type "list",data:=.seq (bw.set j u).toArray n }:=by
 simp[Obj.mapSeq]
theorem Inv.lst{pins:List (Addr×Obj)}{U:St}{H:Hp}{s:Shared}{p:Addr}{xs:List V}(I:Inv X pins U H s)(h:H p=some (.lst xs)) :
  ∃(bw:List Value) (n:Nat),Vals xs bw/\s.heap.get? p=some { cls:=.type "list",data:=.seq bw.toArray n }/\xs.length<=sizeLine:=by
 obtain⟨z,bw,n,r,e⟩:=I.bY p _ h;exact⟨bw,n,r,e,z⟩
theorem Inv.bB7{p:Addr}{xs ys:List V}{its':List Value}{n':Nat}{f:Obj->Obj}(I:Inv X pins U H s)(h:H p=some (.lst xs))(ho:s.heap.get? p=some { cls:=.type "list",data:=.seq bw.toArray n })(hf:f { cls:=.type "list",data:=.seq bw.toArray n }={ cls:=.type "list",data:=.seq its'.toArray n' })(r:Vals ys its')(hz:ys.length<=sizeLine)(t:Nat) :
  Inv X pins U (upd H p (.lst ys)) { s with heap:=s.heap.update p f,toks:=t }:=by
 have e:(s.heap.update p f).get? p=some { cls:=.type "list",data:=.seq its'.toArray n' }:=by
  rw[br f ho (by rw[hf]<;>rfl),hf]
 refine I.write (x:=p) (e:=p) (by rw[h];trivial) (.inl rfl) (λb u hb q=>(df _ _ (cq hb)).trans q) ⟨_,e⟩ ?_;exact⟨hz,its',n',r,e⟩
def Zk:V->V->V->Hp->(Hp->Prop)->Prop:=λo i v H Q=>∃p xs k j,o=.ref p/\i=.int k/\H p=some (.lst xs)/\lN xs.length k=some j/\Q (upd H p (.lst (xs.set j v)))
theorem set_list:Dd X Zk:=by
 intro pins s U H o i v ov iv u Q I ro ri rv h;obtain⟨p,xs,k,j,rfl,rfl,hp,hj,q⟩:=h;cases ro;obtain⟨t,rfl⟩:=ri;obtain⟨bw,n,r,ho,hz⟩:=I.lst hp;obtain⟨h1,h2,h3,h4⟩:=Mf hj;have hl:=r.length;have hn:=zm;have I':Inv X pins U (upd H p (.lst (xs.set j v))) { s with heap:=s.heap.update p (Obj.mapSeq (·.setIfInBounds j u)) } :=
  I.bB7 hp ho (aT7 bw n j u) (r.set rv j) (by rw[List.length_set];exact hz) s.toks
 by_cases h0:0<=k
 ·have hk:k.toNat=j:=by
   rw[seqIndex_of h0 h4] at h1;exact aP h1
  exact PySem.W.ki_setAt ho h0 () (by rw[aX,<- hl];exact h4) (by rw[hk];exact⟨_,I',q⟩)
 ·have hk:(k+(bw.toArray.size:Int)).toNat=j:=by
   rw[seqIndex_neg () h3] at h1;rw[aX,<- hl];exact aP h1
  exact PySem.W.ki_setBack ho () (by rw[aX,<- hl];exact h3) () (by rw[hk];exact⟨_,I',q⟩)
theorem aE2(lo hi:Option Int)(n:Nat):(sliceBounds lo hi none n).1=((HT.kQ n 0 lo:Nat):Int)/\(sliceBounds lo hi none n).2.1=((HT.kQ n n hi:Nat):Int)/\(sliceBounds lo hi none n).2.2=1:=by
 refine⟨?_,?_,rfl⟩
 ·cases lo with
  |none=>rfl
  |some i =>
   simp only[sliceBounds,HT.kQ,Option.getD_none,show(1:Int)>0 by decide,if_true]
   grind
 ·cases hi with
  |none=>rfl
  |some i =>
   simp only[sliceBounds,HT.kQ,Option.getD_none,show(1:Int)>0 by decide,if_true]
   grind
theorem ay8(bw:List Value)(lo hi:Option Int):slicePick bw.toArray lo hi none=((bw.drop (HT.kQ bw.length 0 lo)).take (HT.kQ bw.length bw.length hi-HT.kQ bw.length 0 lo)).toArray:=by
 obtain⟨h1,h2,h3⟩:=aE2 lo hi bw.toArray.size;unfold slicePick;rw[h1,h2,h3];simp only[sliceRange_one,pick_run,List.size_toArray]<;>rfl
def Xo(K:PySem.W.Frag):V->Option Int->Option Int->Hp->VK->Prop:=λx lo hi H Q=>∃a xs,x=.ref a/\gn K H a xs/\∀p,H p=none->Q (.ref p) (upd H p (.lst (ur xs lo hi)))
theorem Vn:FN X (Xo X.K):=by
 intro pins s U H x v vl vu lo hi sl Q I rx hs pl pu h;obtain⟨a,xs,rfl,hx,q⟩:=h;cases rx;obtain⟨bw,r,ht,hz⟩:=I.list hx;have hlen:=r.length;refine⟨"list",_,slot_list_getitem.lookup,ht.isList.typeIs,?_⟩;refine wpAny_getItem_list_slice ht.isList hs pl pu .none (by simp) ?_ (by grind);rw[ay8,<- hlen];refine⟨.ref s.heap.objs.size,_,I.laid (t':=s.toks) (o:=.lst (ur xs lo hi)) (λb ob q=>ao _ q) (aw _) ?_,rfl,q _ (I.bY.fresh (aw _))⟩;exact⟨aC (aL7 xs lo hi) hz,_,0,(r.drop (HT.kQ xs.length 0 lo)).take (HT.kQ xs.length xs.length hi-HT.kQ xs.length 0 lo),aE _ rfl⟩
def Iq:V->V->Bool
 |.bD,.bD=>true
 |.bl a,.bl b=>a==b
 |.bl a,.int b=>(if a then 1 else 0)==b
 |.int a,.bl b=>a==(if b then 1 else 0)
 |.int a,.int b=>a==b
 |.str a,.str b=>a==b
 |_,_=>false
theorem aJ1:p9 X (.builtin "len") (λxs H Q=>∃p ys,xs=[.ref p]/\(gn X.K H p ys\/kx X.K H p ys)/\Q (.int ys.length) H):=by
 intro pins s U H xs us Q I r h;obtain⟨p,ys,rfl,hq,q⟩:=h;obtain⟨u,rfl,rx⟩:=vals1 r;cases rx;have hn:=zm;rcases hq with hq|hq
 ·obtain⟨bw,r',pl,hz⟩:=I.list hq;have hlen:=r'.length;exact Calls.call_len_list pl.isList (by simp only[List.size_toArray]<;>omega) ⟨.int ys.length,H,I.tok _,⟨s.toks+1,by rw[aX,hlen]⟩,q⟩
 ·obtain⟨bw,r',pl,hz⟩:=I.tuple hq;have hlen:=r'.length;exact len_tuple pl (by simp only[List.size_toArray]<;>omega) ⟨.int ys.length,H,I.tok _,⟨s.toks+1,by rw[aX,hlen]⟩,q⟩
theorem aJ0:p9 X (.type "list") (λxs H Q=>∃p ys,xs=[.ref p]/\(gn X.K H p ys\/kx X.K H p ys)/\∀l,H l=none->Q (.ref l) (upd H l (.lst ys))):=by
 intro pins s U H xs us Q I r h;obtain⟨p,ys,rfl,hq,q⟩:=h;obtain⟨u,rfl,rx⟩:=vals1 r;cases rx;have fin:∀(bw:List Value),Vals ys bw->ys.length<=sizeLine->∀(h':Heap) (c':Nat),(∀b o',s.heap.get? b=some o'->h'.get? b=some o') ->
   h'.get? s.heap.objs.size=some { cls:=.type "list",dict:=none,data:=.seq bw.toArray c',slots:=#[] }->EP X pins U Q (.ref s.heap.objs.size) { s with heap:=h' }:=λbw r' hz h' c' kp e =>
  ⟨.ref s.heap.objs.size,_,I.laid (t':=s.toks) kp (aw _) (show u6 X.prog X.w _ h' _ (.lst ys) from⟨hz,bw,c',r',e⟩),rfl,q _ (I.bY.fresh (aw _))⟩
 rcases hq with hq|hq
 ·obtain⟨bw,r',pl,hz⟩:=I.list hq;have hlen:=r'.length;obtain⟨o,ho,hc,n,hd⟩:=pl.isList;exact call_list_seq p (.inl rfl) ho hc hd (λh' c' kp e=>fin bw r' hz h' c' kp e) (by simp_all)
 ·obtain⟨bw,r',pl,hz⟩:=I.tuple hq;have hlen:=r'.length;obtain⟨o,ho,hc,n,hd⟩:=pl;exact call_list_seq p (.inr rfl) ho hc hd (λh' c' kp e=>fin bw r' hz h' c' kp e) (by simp_all)
theorem az4:p9 X (.type "tuple") (λxs H Q=>∃p ys,xs=[.ref p]/\((gn X.K H p ys/\∀l,H l=none->Q (.ref l) (upd H l (.tup ys)))\/(kx X.K H p ys/\Q (.ref p) H))):=by
 intro pins s U H xs us Q I r h;obtain⟨p,ys,rfl,h⟩:=h;obtain⟨u,rfl,rx⟩:=vals1 r;cases rx;rcases h with⟨hq,q⟩|⟨hq,q⟩
 ·obtain⟨bw,r',pl,hz⟩:=I.list hq;have hlen:=r'.length;refine call_tuple_list pl.isList (λh' kp=>?_) (by simp_all);have I1:Inv X pins U H { s with heap:=h' }:=I.kept (t':=s.toks) kp;have I2:Inv X pins U (upd H h'.objs.size (.tup ys)) { s with heap:=h'.push { cls:=.type "tuple",data:=.seq bw.toArray } } :=
   I1.laid (t':=s.toks) (λb o e=>ao _ e) (aw _) (show u6 X.prog X.w _ _ _ (.tup ys) from⟨hz,bw,r',uI.new _ _⟩)
  exact⟨.ref h'.objs.size,_,I2,rfl,q _ (I1.bY.fresh (aw _))⟩
 ·obtain⟨bw,r',pl,hz⟩:=I.tuple hq;exact call_tuple_same pl ⟨.ref p,H,I,rfl,q⟩
def ow(K:PySem.W.Frag)(T:String)(x:V)(H:Hp):Prop:=match x with
 |.str _=>T="str"
 |.int _=>T="int"
 |.ref p=>(T="list"/\∃xs,gn K H p xs)\/(T="tuple"/\∃o,K.lookup p=some o/\o.cls=.type "tuple"/\o.dict=none) \/
   (T="dict"/\((∃kvs,H p=some (.dK kvs))\/∃kvs,H p=some (.dT kvs)))\/(T="set"/\∃S n,H p=some (.set S n))
 |_=>False
theorem LK{T:String}{x:V}{v:Value}(I:Inv X pins U H s)(r:RelV x v)(ty:ow X.K T x H) :
  s.TypeIs v T/\∀a,v=.ref a->∃ob,s.heap.get? a=some ob/\ob.dict=none:=by
 cases x with
 |str z =>
  obtain⟨t,rfl⟩:=r;cases (show T="str" from ty);exact⟨typeIs_str s z t,λ_ e=>nomatch e⟩
 |int i =>
  obtain⟨t,rfl⟩:=r;cases (show T="int" from ty);exact⟨typeIs_int s i t,λ_ e=>nomatch e⟩
 |ref p =>
  cases r;rcases ty with⟨rfl,xs,hq⟩|⟨rfl,o,hk,hc,hd⟩|⟨rfl,hk⟩|⟨rfl,S,n,hk⟩
  ·obtain⟨bw,_,pl,_⟩:=I.list hq;refine⟨pl.isList.typeIs,λa e=>?_⟩;cases e;obtain⟨o,n,e,c,hd,_⟩:=pl;exact⟨o,e,hd⟩
  ·refine⟨⟨o,I.iG p o hk,hc⟩,λa e=>?_⟩;cases e;exact⟨o,I.iG _ o hk,hd⟩
  ·have z:∃o,s.heap.get? p=some o/\o.ExactDict:=by
    rcases hk with⟨kvs,hk⟩|⟨kvs,hk⟩
    ·obtain⟨_,_,_,_,o,_,_,e,ex,_⟩:=I.bY p _ hk;exact⟨o,e,ex⟩
    ·obtain⟨_,_,_,_,o,_,_,e,ex,_⟩:=I.bY p _ hk;exact⟨o,e,ex⟩
   obtain⟨o,e,ex⟩:=z;refine⟨⟨o,e,ex.1⟩,λa e2=>?_⟩;cases e2;exact⟨o,e,ex.2.1⟩
  ·obtain⟨o,_,_,_,e,ex,_⟩:=I.bY p _ hk;refine⟨⟨o,e,ex.1⟩,λa e2=>?_⟩;cases e2;exact⟨o,e,ex.2.1⟩
 |_=>exact False.elim ty
def XA(K:PySem.W.Frag)(T:String)(r:V->List V->Hp->VK->Prop)(to:TE):TE:=λU H Q=>to U H λx H1=>ow K T x H1/\r x [] H1 Q
def Om(K:PySem.W.Frag)(T:String)(r:V->List V->Hp->VK->Prop)(to:TE)(t:TA):TE:=λU H Q=>to U H λx H1=>ow K T x H1/\t U H1 λxs H2=>r x xs H2 Q
variable{o:Expr}{es:List Expr}{to:TE}{t:TA}{name:Str}{apos gF:Pos}{T id:String}{r:V->List V->Hp->VK->Prop}
theorem RU(pa:PlainAttrs T)(slot:Slot T name id)(jZ:typeOf (.builtin id)=pure (.type "method_descriptor"))(hm:mP X id r)(ho:PE X o to)(jG:attributeBase o name X.env (eval o X.env)=eval o X.env:=by rfl)(jD:(apos.endLine==gF.line)=true:=by rfl):PE X (.Call (.Attribute o name apos) [] [] gF) (XA X.K T r to):=by
 intro pins s U H Q I h;refine wpAny_Call_method0_late jG jD (cV (ho pins s U H _ I h) λv s1 bG=>?_);obtain⟨x,H1,I1,r1,ty,q1⟩:=bG;obtain⟨h1,h2⟩:=LK I1 r1 ty;exact⟨T,id,pa,slot,jZ,h1,h2,Calls.callWith_builtin rfl (PySem.evalArgs_none (hm pins s1 U H1 x [] v [] Q I1 r1 .nil q1))⟩
theorem Zd(pa:PlainAttrs T)(slot:Slot T name id)(jZ:typeOf (.builtin id)=pure (.type "method_descriptor"))(hm:mP X id r)(ho:PE X o to)(ha:PA X (e::es) t)(jG:attributeBase o name X.env (eval o X.env)=eval o X.env:=by rfl)(rL:((backTo gF (starEach (e :: es) X.env)).all (λx=>!x.1) && (backToKw gF (keywordEach [] X.env)).all (λx=>x.1.isSome)
   && decide ((e :: es).length + ([]:List Keyword).length + (if ([]:List Keyword).isEmpty then 0 else 1) < 30))=true:=by rfl)(jD:(apos.endLine==gF.line)=true:=by rfl)(hs:starEach (e::es) X.env=(false,eval e X.env)::starEach es X.env:=by rfl)(ik:(backTo gF (starEach es X.env)).any (·.1)=false:=by rfl) :
  PE X (.Call (.Attribute o name apos) (e::es) [] gF) (Om X.K T r to t):=by
 intro pins s U H Q I h;refine wpAny_Call_method_late jG rL jD rfl (cV (ho pins s U H _ I h) λv s1 bG=>?_);obtain⟨x,H1,I1,r1,ty,q1⟩:=bG;obtain⟨h1,h2⟩:=LK I1 r1 ty;refine⟨T,id,pa,slot,jZ,h1,h2,?_⟩;have hA:=ha gF pins s1 U H1 _ I1 q1;rw[hs] at hA ⊢;refine Calls.callWith_builtin (by show(false||(backTo gF (starEach es X.env)).any (·.1))=false;rw[ik]<;>rfl) (Calls.evalArgs_plain ?_);exact cV hA λus s2 ⟨vs,H2,I2,r2,q2⟩=>hm pins s2 U H2 x vs v us Q I2 r1 r2 q2
end
def Aw(X:Cx)(id:String)(r:V->List V->Hp->VK->Prop):Prop :=
 ∀(pins:List (Addr×Obj)) (s:Shared) (U:St) (H:Hp) (x:V) (xs:List V) (v:Value) (us:List Value) (Q:VK),Inv X pins U H s->RelV x v->Vals xs us->r x xs H Q ->
  wpAny (model X.prog X.w) X.A (call (.builtin id) (v::us)) (EP X pins U Q) X.xe s
theorem Vals.one{x:V}{us:List Value}(h:Vals [x] us):∃u,us=[u]/\RelV x u:=by
 cases h with
 |cons r h =>
  cases h;exact⟨_,rfl,r⟩
theorem Vals.zero:∀{us:List Value},Vals [] us->us=[]
 |_,.nil=>rfl
theorem Vals.dropLast{xs:List V}{us:List Value}(h:Vals xs us):Vals xs.dropLast us.dropLast:=by
 induction h with
 |nil=>exact .nil
 |cons r t ih =>
  cases t with
  |nil=>exact .nil
  |cons q t'=>exact .cons r ih
theorem Vals.eraseIdx:∀{xs:List V} {us:List Value} (i:Nat),Vals xs us->Vals (xs.eraseIdx i) (us.eraseIdx i)
 |_,_,_,.nil=>.nil
 |_,_,0,.cons _ t=>t
 |_,_,i+1,.cons r t=>.cons r (Vals.eraseIdx i t)
theorem JW{α:Type}:∀(l:List α) (i:Nat),(l.eraseIdx i).length<=l.length
 |[],_=>aw _
 |_::_,0=>cL _
 |_::r,i+1=>Nat.succ_le_succ (JW r i)
section
variable{l:Addr}{xs ys:List V}
theorem Inv.V3{its':List Value}{f:Array Value->Array Value}{t':Nat}(I:Inv X pins U H s)(hH:H l=some (.lst xs))(e:s.heap.get? l=some { cls:=.type "list",data:=.seq bw.toArray n })(hf:f bw.toArray=its'.toArray)(hv:Vals ys its')(hz:ys.length<=sizeLine) :
  Inv X pins U (upd H l (.lst ys)) { s with heap:=s.heap.update l (Obj.mapSeq f),toks:=t' }:=by
 have q:=PySem.IsL.update e f;rw[hf] at q;refine I.write (x:=l) (e:=l) (by rw[hH];exact trivial) (.inl rfl) (λb' u hb hu=>(df s.heap (Obj.mapSeq f) (cq hb)).trans hu) ⟨_,q⟩ ?_;exact⟨hz,its',_,hv,q⟩
theorem Inv.WV{t':Nat}(I:Inv X pins U H s)(hv:Vals ys bw)(hz:ys.length<=sizeLine) :
  Inv X pins U (upd H s.heap.objs.size (.lst ys)) { s with heap:=s.heap.push { cls:=.type "list",data:=.seq bw.toArray },toks:=t' } :=
 I.laid (λ_ _ q=>ao _ q) (aw _) ⟨hz,bw,0,hv,aE _ rfl⟩
theorem Inv.fresh(I:Inv X pins U H s):H s.heap.objs.size=none:=I.bY.fresh (aw _)
theorem Inv.uv(I:Inv X pins U H s)(hH:H l=some (.lst xs)):xs.length<=sizeLine/\∃(bw:List Value) (n:Nat),Vals xs bw/\xs.length=bw.length/\s.heap.get? l=some { cls:=.type "list",data:=.seq bw.toArray n }:=by
 obtain⟨z,bw,n,r,e⟩:=I.bY l _ hH;exact⟨z,bw,n,r,r.length,e⟩
end
def UU:V->List V->Hp->VK->Prop:=λx vs H Q=>∃l xs y,x=.ref l/\vs=[y]/\H l=some (.lst xs)/\xs.length<sizeLine/\Q .bD (upd H l (.lst (xs++[y])))
theorem a20:Aw X "list.append" UU:=by
 intro pins s U H x vs v us Q I rx rv h;obtain⟨l,xs,y,rfl,rfl,hH,hz,q⟩:=h;cases rx;obtain⟨u,rfl,ru⟩:=rv.one;obtain⟨z,bw,n,r,hl,e⟩:=I.uv hH;refine nv F.slot_list_append ⟨_,e,rfl⟩ F.entry_list_append (F.args_list_append_2 _ _) (PySem.list_append l bw.toArray n u (by grind)) ⟨e,?_⟩;refine⟨.bD,_,I.V3 (its':=bw++[u]) hH e (by simp) (r.append (.cons ru .nil)) ?_,rfl,q⟩
 grind
def Xl:V->List V->Hp->VK->Prop:=λx vs H Q=>∃l xs y,x=.ref l/\vs=[]/\H l=some (.lst xs)/\xs[xs.length-1]?=some y/\Q y (upd H l (.lst xs.dropLast))
theorem bA7:Aw X "list.pop" Xl:=by
 intro pins s U H x vs v us Q I rx rv h;obtain⟨l,xs,y,rfl,rfl,hH,hy,q⟩:=h;cases rx;have Bu:=rv.zero;subst Bu;obtain⟨z,bw,n,r,hl,e⟩:=I.uv hH;obtain⟨u,hu,ru⟩:=r.get hy;have Br:bw.toArray[bw.toArray.size-1]?=some u:=by
  show bw.toArray[bw.length-1]?=some u;rw[<- eJ,<- hl];exact hu
 refine nv F.slot_list_pop ⟨_,e,rfl⟩ F.entry_list_pop (F.args_list_pop_1 _) (MeetsSeq.list_pop_last l bw.toArray n u Br (by rw[aX];omega)) ⟨e,?_⟩;refine⟨y,_,I.V3 (its':=bw.dropLast) hH e ?_ r.dropLast ?_,ru,q⟩
 ·simp
 ·rw[List.length_dropLast];omega
def Sy:V->List V->Hp->VK->Prop:=λx vs H Q=>∃l xs i k y,x=.ref l/\vs=[.int i]/\H l=some (.lst xs)/\-(2 ^ 63)<=i/\i<2 ^ 63/\seqIndex? i xs.length=some k/\xs[k]?=some y/\Q y (upd H l (.lst (xs.eraseIdx k)))
theorem Wi:Aw X "list.pop" Sy:=by
 intro pins s U H x vs v us Q I rx rv h;obtain⟨l,xs,i,k,y,rfl,rfl,hH,h1,h2,hk,hy,q⟩:=h;cases rx;obtain⟨u,rfl,ru⟩:=rv.one;obtain⟨t,rfl⟩:=ru;obtain⟨z,bw,n,r,hl,e⟩:=I.uv hH;obtain⟨w,hw,gH⟩:=r.get hy;refine nv F.slot_list_pop ⟨_,e,rfl⟩ F.entry_list_pop (F.args_list_pop_2 _ _)
  (MeetsSeq.list_pop_at l bw.toArray n i t k w (fitsIndex_both h1 h2) (by rw[aX,<- hl];exact hk) (by simp_all) (by rw[aX];omega)) ⟨e,?_⟩
 refine⟨y,_,I.V3 (its':=bw.eraseIdx k) hH e ?_ (r.eraseIdx k) ?_,gH,q⟩
 ·simp
 ·have:=JW xs k;omega
def Sx:V->List V->Hp->VK->Prop:=λx vs H Q=>∃l xs,x=.ref l/\vs=[]/\H l=some (.lst xs)/\Q .bD (upd H l (.lst []))
theorem Wh:Aw X "list.clear" Sx:=by
 intro pins s U H x vs v us Q I rx rv h;obtain⟨l,xs,rfl,rfl,hH,q⟩:=h;cases rx;have Bu:=rv.zero;subst Bu;obtain⟨z,bw,n,r,hl,e⟩:=I.uv hH;refine nv F.slot_list_clear ⟨_,e,rfl⟩ F.entry_list_clear (F.args_list_clear_1 _) (AutoSeq1.list_clear_list_0 l bw.toArray n (by rw[aX];omega)) ⟨e,?_⟩;exact⟨.bD,_,I.V3 (its':=[]) (ys:=[]) hH e rfl .nil (bW _),rfl,q⟩
def Xi:R2:=λx y H Q=>∃l b xs zs,x=.ref l/\y=.ref b/\H l=some (.lst xs)/\H b=some (.lst zs)/\xs.length+zs.length<=sizeLine/\∀p,H p=none->Q (.ref p) (upd H p (.lst (xs++zs)))
theorem bA1:gQ X (binaryOp .Add) Xi:=by
 intro pins s U H x y v u Q I rx ry h;obtain⟨l,b,xs,zs,rfl,rfl,hH,hB,hz,q⟩:=h;cases rx;cases ry;obtain⟨z,bw,n,r,hl,e⟩:=I.uv hH;obtain⟨z2,rC,n2,r2,nR,e2⟩:=I.uv hB;refine PySem.P.add_list e e2 ?_ (by rw[aX,aX];omega);have ea:bw.toArray++rC.toArray=(bw++rC).toArray:=by simp
 rw[ea];exact⟨.ref _,_,I.WV (t':=s.toks) (r.append r2) (by rw[bI];omega),rfl,q _ I.fresh⟩
section
variable{κ:Type}[DecidableEq κ]
def N6(kvs:List (κ×V))(k:κ):Option V:=(kvs.find? λkv=>decide (kv.1=k)).map (·.2)
def putK(kvs:List (κ×V))(k:κ)(v:V):List (κ×V) :=
 if(kvs.any λkv=>decide (kv.1=k))=true then kvs.map (λkv=>if kv.1=k then(kv.1,v) else kv) else kvs++[(k,v)]
theorem DU{p:κ×V}{r:List (κ×V)}{k:κ}(e:p.1=k):N6 (p::r) k=some p.2:=by simp[N6,List.find?_cons,e]
theorem DT{p:κ×V}{r:List (κ×V)}{k:κ}(e:¬p.1=k):N6 (p::r) k=N6 r k:=by simp[N6,List.find?_cons,e]
theorem Nk(k:κ):∀kvs:List (κ×V),(kvs.any λkv=>decide (kv.1=k))=(N6 kvs k).isSome
 |[]=>rfl
 |p::r=>by
  rw[kA];by_cases e:p.1=k
  ·simp only[DU e,decide_eq_true e,Bool.true_or,Option.isSome_some]
  ·rw[DT e,aI e,qU];exact Nk k r
theorem KZ(kvs:List (κ×V))(k:κ)(v:V):(putK kvs k v).length<=kvs.length+1:=by
 unfold putK;split
 ·simp
 simp
theorem K4.R7{u:Option Value}(r:K4 o u):o.isSome=u.isSome:=by
 cases o with
 |none=>cases u with
  |none=>rfl
  |some _=>exact(show False from r).elim
 |some _=>cases u with
  |none=>exact(show False from r).elim
  |some _=>rfl
theorem K4.getD{o:Option V}{u:Option Value}{d:V}{d':Value}(r:K4 o u)(rd:RelV d d'):RelV (o.getD d) (u.getD d'):=by
 cases o with
 |none=>cases u with
  |none=>exact rd
  |some _=>exact(show False from r).elim
 |some _=>cases u with
  |none=>exact(show False from r).elim
  |some _=>exact r
theorem KV.val{kvs:List (κ×V)}{vs:List (κ×Value)}(r:KV kvs vs)(k:κ):K4 (N6 kvs k) (valueAt vs k):=by
 induction r with
 |nil=>exact True.intro
 |@cons p q ps qs h t ih =>
  obtain⟨h1,h2⟩:=h;by_cases e:p.1=k
  ·have e':q.1=k:=h1.symm.trans e;have b:valueAt (q::qs) k=some q.2:=by simp[valueAt,List.find?_cons,e']
   rw[DU e,b];exact h2
  ·have e':¬q.1=k:=λz=>e (h1.trans z);have b:valueAt (q::qs) k=valueAt qs k:=by simp[valueAt,List.find?_cons,e']
   rw[DT e,b];exact ih
theorem KV.any{kvs:List (κ×V)}{vs:List (κ×Value)}(r:KV kvs vs)(k:κ):(kvs.any λkv=>decide (kv.1=k))=vs.any λkv=>decide (kv.1=k):=by
 induction r with
 |nil=>rfl
 |cons h t ih=>simp_all
theorem KV.FH{kvs:List (κ×V)}{vs:List (κ×Value)}(r:KV kvs vs)(k:κ)(ry:RelV y u) :
  KV (kvs.map λkv=>if kv.1=k then(kv.1,y) else kv) (vs.map λkv=>if kv.1=k then(kv.1,u) else kv):=by
 induction r with
 |nil=>exact .nil
 |@cons p q ps qs h t ih =>
  rw[cS,cS];refine .cons ?_ ih;obtain⟨h1,h2⟩:=h;by_cases e:p.1=k
  ·rw[aG e,aG (h1.symm.trans e)];exact⟨h1,ry⟩
  ·rw[aD e,aD (λz=>e (h1.trans z))];exact⟨h1,h2⟩
theorem KV.put{kvs:List (κ×V)}{vs:List (κ×Value)}(r:KV kvs vs)(k:κ)(ry:RelV y u):KV (putK kvs k y) (stored vs k u):=by
 unfold putK stored;rw[r.any k];by_cases e:(vs.any λkv=>decide (kv.1=k))=true
 ·rw[aG e,aG e];exact r.FH k ry
 ·rw[aD e,aD e];exact Paired.snoc r ⟨rfl,ry⟩
theorem KV.keys{kvs:List (κ×V)}{vs:List (κ×Value)}(r:KV kvs vs):kvs.map (·.1)=vs.map (·.1):=by
 induction r with
 |nil=>rfl
 |cons h t ih=>simp_all
theorem KV.length{kvs:List (κ×V)}{vs:List (κ×Value)}(r:KV kvs vs):kvs.length=vs.length:=mV r
end
theorem uD{k:Key}(r:RelV (kV k) u):(s9 P w).is k u=true:=by
 cases k with
 |inl i=>obtain⟨t,e⟩:=(show ∃t,u=Value.int i t from r);subst e;exact Y3 P w i t
 |inr x=>obtain⟨t,e⟩:=(show ∃t,u=Value.str x t from r);subst e;exact aK9 P w x t
theorem JV{P:Program}{w:World}:∀{ks:List Key} {us:List Value},Vals (ks.map kV) us->ItemsAre (s9 P w) ks us
 |[],_,r=>by cases r;exact .nil
 |k::ks,_,r=>by
  cases r with
  |cons h t=>exact .cons (uD h) (JV t)
noncomputable abbrev KT(H:Hp):List (List Key×V)->List (List Key×Addr×Value)->Prop:=Paired λp q=>p.1=q.1/\H q.2.1=some (.tup (p.1.map kV))/\RelV p.2 q.2.2
theorem KT.val{xs:List (List Key×Addr×Value)}(r:KT H kvs xs)(k:List Key):K4 (N6 kvs k) ((atKey xs k).map (·.2)):=by
 induction r with
 |nil=>exact True.intro
 |@cons p q ps qs h t ih =>
  obtain⟨h1,_,h2⟩:=h;by_cases e:p.1=k
  ·have e':q.1=k:=h1.symm.trans e;have b:atKey (q::qs) k=some q.2:=by simp[atKey,List.find?_cons,e']
   rw[DU e,b];exact h2
  ·have e':¬q.1=k:=λz=>e (h1.trans z);have b:atKey (q::qs) k=atKey qs k:=by simp[atKey,List.find?_cons,e']
   rw[DT e,b];exact ih
theorem KT.FH{xs:List (List Key×Addr×Value)}(r:KT H kvs xs)(k:List Key)(ry:RelV y u) :
  KT H (kvs.map λkv=>if kv.1=k then(kv.1,y) else kv) (xs.map (putAt k u)):=by
 induction r with
 |nil=>exact .nil
 |@cons p q ps qs h t ih =>
  rw[cS,cS];refine .cons ?_ ih;obtain⟨h1,h2,h3⟩:=h;unfold putAt;by_cases e:p.1=k
  ·rw[aG e,aG (h1.symm.trans e)];exact⟨h1,h2,ry⟩
  ·rw[aD e,aD (λz=>e (h1.trans z))];exact⟨h1,h2,h3⟩
theorem KT.put{xs:List (List Key×Addr×Value)}(r:KT H kvs xs)(k:List Key){b:Addr}(hb:H b=some (.tup (k.map kV)))(ry:RelV y u) :
  KT H (putK kvs k y) (storedH xs k b u):=by
 have e:(kvs.any λkv=>decide (kv.1=k))=(atKey xs k).isSome:=by
  rw[Nk,(r.val k).R7,fI]
 unfold putK storedH;rw[e];by_cases q:(atKey xs k).isSome=true
 ·rw[aG q,aG q];exact r.FH k ry
 ·rw[aD q,aD q];exact Paired.snoc r ⟨rfl,hb,ry⟩
theorem KT.keeps{xs:List (List Key×Addr×Value)}(r:KT H kvs xs)(ht:∀b ys,H b=some (.tup ys)->H' b=some (.tup ys)):KT H' kvs xs :=
 Paired.JI r λ_ _ z=>⟨z.1,ht _ _ z.2.1,z.2.2⟩
section
variable{h:Heap}
theorem Jq{u:HO}(ok:gK P w H h)(e:Rd H a u):u6 P w H h a u:=e.ok ok
theorem uA{kvs:List (Key×V)}(ok:gK P w H h)(e:Rd H a (.dK kvs)):kvs.length<=sizeLine/\(a==sysModules)=false/\∃vs,KV kvs vs/\h.DictOf (s9 P w) a vs :=
 show u6 P w H h a (.dK kvs) from Jq ok e
theorem Jc{kvs:List (Key×V)}(ok:gK P w H h)(e:H a=some (.dK kvs)):kvs.length<=sizeLine/\(a==sysModules)=false/\∃vs,KV kvs vs/\h.DictOf (s9 P w) a vs:=uA ok (.inl e)
theorem uL{ks:List Key}(ok:gK P w H h)(e:H a=some (.tup (ks.map kV))):(tupleKind (s9 P w)).is h ks a:=by
 obtain⟨_,bw,r,o,h1,h2,⟨n,h3⟩,_⟩:=(show u6 P w H h a (.tup (ks.map kV)) from ok a _ e)
 exact⟨o,bw.toArray,n,h1,h2,h3,by simpa using JV r⟩
theorem uB(ok:gK P w H h)(e:Rd H a (.dT kvs)):kvs.length<=sizeLine/\(a==sysModules)=false /\
  ∃xs,KT H kvs xs/\h.DictOfH (tupleKind (s9 P w)) a xs:=by
 obtain⟨z,y,xs,r,o,es,ep,h1,h2,h3,h4,h5⟩:=(show u6 P w H h a (.dT kvs) from Jq ok e)
 refine⟨z,y,xs,r,o,es,ep,h1,h2,h3,h4,λx hx=>?_,h5⟩;have all:∀{l:List (List Key×V)} {m:List (List Key×Addr×Value)},KT H l m->∀x∈m,(tupleKind (s9 P w)).is h x.1 x.2.1:=by
  intro l m q
  induction q with
  |nil=>simp
  |@cons p q ps qs hq t ih =>
   intro x hx;rcases aJ.mp hx with e|hx
   ·exact uL ok (by simp_all)
   ·exact ih x hx
 exact all r x hx
theorem Yr(ok:gK P w H h)(e:H a=some (.dT kvs)):kvs.length<=sizeLine/\(a==sysModules)=false /\
  ∃xs,KT H kvs xs/\h.DictOfH (tupleKind (s9 P w)) a xs:=uB ok (.inl e)
end
def S3(H:Hp)(a:Addr)(y:V)(r:Option V):Prop :=
 (∃kvs k,Rd H a (.dK kvs)/\y=kV k/\r=N6 kvs k)\/∃kvs k b,Rd H a (.dT kvs)/\y=.ref b/\H b=some (.tup (k.map kV))/\r=N6 kvs k
def zT(H:Hp)(a:Addr)(y v:V)(H':Hp):Prop :=
 (∃kvs k,H a=some (.dK kvs)/\y=kV k/\kvs.length<sizeLine/\H'=upd H a (.dK (putK kvs k v))) \/
 ∃kvs k b,H a=some (.dT kvs)/\y=.ref b/\H b=some (.tup (k.map kV))/\kvs.length<sizeLine/\H'=upd H a (.dT (putK kvs k v))
theorem S3.k{H:Hp}{a:Addr}{kvs:List (Key×V)}{k:Key}(e:H a=some (.dK kvs)):S3 H a (kV k) (N6 kvs k):=.inl ⟨kvs,k,.inl e,rfl,rfl⟩
theorem zT.k{H:Hp}{a:Addr}{kvs:List (Key×V)}{k:Key}{v:V}(e:H a=some (.dK kvs))(hl:kvs.length<sizeLine):zT H a (kV k) v (upd H a (.dK (putK kvs k v))):=.inl ⟨kvs,k,e,rfl,hl,rfl⟩
section
variable{v:V}{r:Value}
theorem Inv.big(I:Inv X pins U H s):sysModules<s.heap.objs.size:=by
 have h:mainGlobals<s.heap.objs.size:=(I.mod.glob.keeps I.bk).lt;exact cW ∅ h
theorem a42{Q:Value->Shared->Prop}(hu:A.units+1<cLine)(I:Inv X pins U H s)(g:S3 H a y (some v))(ry:RelV y u)(h:∀w' s',Inv X pins U H s'->RelV v w'->Q w' s') :
  wpAny (model X.prog X.w) A (getItem (.ref a) u) Q E s:=by
 rcases g with⟨kvs,k,e,ey,l⟩|⟨kvs,k,b,e,ey,eb,l⟩
 ·subst ey;obtain⟨z,hd,vs,rel,dd⟩:=uA I.bY e;obtain⟨w',hw,gH⟩:=K4.some_of (v:=v) (o:=valueAt vs k) (by rw[l];exact rel.val k);exact wpAny_getItem_of (uD ry) dd.mapOf hw (h w' _ (I.tok _) gH)
 ·subst ey;cases (show u=Value.ref b from ry);obtain⟨z,hd,xs,rel,dd⟩:=uB I.bY e;obtain⟨w',hw,gH⟩:=K4.some_of (v:=v) (o:=(atKey xs k).map (·.2)) (by rw[l];exact rel.val k);obtain⟨p,hp,Bx⟩:=aa.mp hw;refine wpAny_getItem_heap (fT hu) (uL I.bY eb) dd hp ?_;rw[Bx];exact h w' _ (I.tok _) gH
theorem WJ{Q:Value->Shared->Prop}(hu:A.units+1<cLine)(I:Inv X pins U H s)(g:S3 H a y o)(ry:RelV y u)(h:∀s',Inv X pins U H s'->Q (.bool o.isSome) s') :
  wpAny (model X.prog X.w) A (compareOp .In u (.ref a)) Q E s:=by
 rcases g with⟨kvs,k,e,ey,l⟩|⟨kvs,k,b,e,ey,eb,l⟩
 ·subst ey;obtain⟨z,hd,vs,rel,dd⟩:=uA I.bY e;refine wpAny_in_of (uD ry) hd dd.mapOf ?_;rw[<- (rel.val k).R7,<- l];exact h _ (I.tok _)
 ·subst ey;cases (show u=Value.ref b from ry);obtain⟨z,hd,xs,rel,dd⟩:=uB I.bY e;refine wpAny_in_heap (fT hu) (uL I.bY eb) hd dd ?_;have q:=(rel.val k).R7;rw[fI] at q;rw[<- q,<- l];exact h _ (I.tok _)
theorem TL{Q:Value->Shared->Prop}(hu:A.units+1<cLine)(I:Inv X pins U H s)(g:S3 H a y o)(ry:RelV y u)(h:∀s',Inv X pins U H s'->Q (.bool (!o.isSome)) s') :
  wpAny (model X.prog X.w) A (compareOp .NotIn u (.ref a)) Q E s:=by
 rcases g with⟨kvs,k,e,ey,l⟩|⟨kvs,k,b,e,ey,eb,l⟩
 ·subst ey;obtain⟨z,hd,vs,rel,dd⟩:=uA I.bY e;refine wpAny_notIn_of (uD ry) hd dd.mapOf ?_;rw[<- (rel.val k).R7,<- l];exact h _ (I.tok _)
 ·subst ey;cases (show u=Value.ref b from ry);obtain⟨z,hd,xs,rel,dd⟩:=uB I.bY e;refine wpAny_notIn_heap (fT hu) (uL I.bY eb) hd dd ?_;have q:=(rel.val k).R7;rw[fI] at q;rw[<- q,<- l];exact h _ (I.tok _)
theorem LW{h':Heap}{t':Nat}{ob:HO}(I:Inv X pins U H s)(mu:xP (H a))(hs:Heap.SameBut a s.heap h')(he:∃q,h'.get? a=some q)(new:u6 X.prog X.w (upd H a ob) h' a ob) :
  Inv X pins U (upd H a ob) { s with heap:=h',toks:=t' } :=
 I.write (x:=a) (e:=a) mu (.inl rfl) (λb q hb z=>(hs.2 b hb).trans z) he new
theorem Nt{h':Heap}{kvs:List (Key×V)}{vs:List (Key×Value)}(z:kvs.length<=sizeLine)(hd:(a==sysModules)=false)(rel:KV kvs vs)(dd:h'.DictOf (s9 P w) a vs) :
  u6 P w H' h' a (.dK kvs):=⟨z,hd,vs,rel,dd⟩
theorem a41{Q:Unit->Shared->Prop}(hu:A.units+1<cLine)(I:Inv X pins U H s)(g:zT H a y v H')(ry:RelV y u)(rv:RelV v r)(h:∀s',Inv X pins U H' s'->Q Unit.unit s') :
  wpAny (model X.prog X.w) A (setItem (.ref a) u r) Q E s:=by
 rcases g with⟨kvs,k,e,ey,l,eH⟩|⟨kvs,k,b,e,ey,eb,l,eH⟩
 ·subst ey eH;obtain⟨z,hd,vs,rel,dd⟩:=Jc I.bY e;have hz:vs.length<=sizeLine:=by rw[<- rel.length];exact z
  have hl:(putK kvs k v).length<=sizeLine:=by have:=KZ kvs k v;omega
  refine wpAny_setItem_pairs (hsz:=hz) (uD ry) dd λh' zc hs=>h _ ?_;have he:∃q,h'.get? a=some q:=let ⟨q,_,_,hq,_⟩:=zc;⟨q,hq⟩
  exact LW I (by rw[e];exact True.intro) hs he (Nt hl hd (rel.put k rv) zc)
 ·subst ey eH;cases (show u=Value.ref b from ry);obtain⟨z,hd,xs,rel,dd⟩:=Yr I.bY e;have hz:xs.length<=sizeLine:=by rw[<- mV rel];exact z
  have hl:(putK kvs k v).length<=sizeLine:=by have:=KZ kvs k v;omega
  refine wpAny_setItem_heap (hsz:=hz) (fT hu) (uL I.bY eb) dd λh' zc hs=>h _ ?_;obtain⟨q,es,ep,hq,h2,h3,h4,_,h5⟩:=zc;refine LW I (by rw[e];exact True.intro) hs ⟨q,hq⟩ ⟨hl,hd,_,(rel.put k eb rv).keeps λc ys ec=>?_,q,es,ep,hq,h2,h3,h4,h5⟩;rw[i6 (YU ec e (λz=>nomatch z))];exact ec
end
theorem aL6(I:Inv X pins U H s)(g:S3 H a y o):s.TypeIs (.ref a) "dict":=by
 rcases g with⟨kvs,k,e,_,_⟩|⟨kvs,k,b,e,_,_,_⟩
 ·obtain⟨_,_,vs,_,dd⟩:=uA I.bY e;exact dd.typeIs
 ·obtain⟨_,_,xs,_,dd⟩:=uB I.bY e;exact dd.typeIs
theorem VP(h:Heap)(hb:sysModules<h.objs.size):u6 P w H (h.push { cls:=.type "dict",data:=.dict #[] }) h.objs.size (.dK []) :=
 ⟨bW _,dO.mpr (cq (aM hb)),[],.nil,Heap.DictOf.new h⟩
def Tf:TE:=λ_ H Q=>∀p,H p=none->Q (.ref p) (upd H p (.dK []))
theorem Wo:PE X (.Dict [] [] pos) Tf:=λpins s U H Q I h =>
 wpAny_Dict_empty ⟨.ref s.heap.objs.size,_,I.laid (a:=s.heap.objs.size) (o:=.dK []) (t':=s.toks) (λ_ _ q=>ao _ q) (aw _) (VP s.heap I.big),rfl,h _ (I.bY.fresh (aw _))⟩
section
variable{d:V}{r:Value}
theorem ZU{Q:Value->Shared->Prop}(hu:A.units+1<cLine)(I:Inv X pins U H s)(g:S3 H a y o)(ry:RelV y u)(rd:RelV d r)(h:∀w' s',Inv X pins U H s'->RelV (o.getD d) w'->Q w' s') :
  wpAny (model X.prog X.w) A (call (.builtin "dict.get") [.ref a,u,r]) Q E s:=by
 rcases g with⟨kvs,k,e,ey,l⟩|⟨kvs,k,b,e,ey,eb,l⟩
 ·subst ey;obtain⟨z,hd,vs,rel,dd⟩:=uA I.bY e;refine call_meetsIn js dd.typeIs uR (tq _ _ _) (meets_dict_get_default (s9 X.prog X.w) a (uD ry) hd r) ⟨_,dd.mapOf,h _ _ (I.tok _) ?_⟩;rw[l];exact(rel.val k).getD rd
 ·subst ey;cases (show u=Value.ref b from ry);obtain⟨z,hd,xs,rel,dd⟩:=uB I.bY e;refine call_meetsIn js dd.typeIs uR (tq _ _ _) (meetsH_dict_get_default (tupleKind (s9 X.prog X.w)) a b hd r) ⟨fT hu,k,xs,uL I.bY eb,dd,h _ _ (I.tok _) ?_⟩;rw[l];exact(rel.val k).getD rd
end
end L2
namespace NO
open PySem PySem.W PySem.Calls PyProof.Rows
theorem aq8{P:Params}{h:Heap}:∀(ns:List Int) (vs:List Value),WellAll P h vs (ns.map WData.int)->IntsAre vs ns:=by
 intro ns
 induction ns with
 |nil =>
  intro vs w;cases w;exact .nil
 |cons n ns ih =>
  intro vs w;cases w with
  |cons a b =>
   cases a;exact .cons _ _ (ih _ b)
theorem aZ2{l:OpenLaw}{n:Nat}(hn:l.most=some n){P:Params}{h:Heap}{args:List WData}{vals:List Value}(pb:l.row.toRowW.claim.pre args=true)(Bs:WellAll P h vals args) :
  ∃a vs ns,vals=[Value.ref a]/\args=[WData.list (ns.map WData.int)]/\h.get? a=some { cls:=.type "list",data:=.seq vs.toArray }/\IntsAre vs ns/\ns.length<=n:=by
 have kC:WShape.hasAll [] args [.list .int]=true:=(pre_splitW pb).1;have hc:l.pre.holds [] { args:=args }=true:=(pre_splitW pb).2;obtain⟨d,r,rfl,h1,h2⟩:=hasAllW_cons kC;obtain rfl:=hasAllW_nil h2;obtain⟨xs,rfl,h3⟩:=hasW_list h1;obtain⟨ns,rfl⟩:=items_int h3;have hlen:ns.length<=n:=by
  have h4:(WTm.not (.lt (.lit (.int (n:Int))) (.len (.arg 0)))).holds [] { args:=[.list (ns.map .int)] }=true:=by
   have h4:=(holds_andW hc).1;rw[hn] at h4;exact h4
  have h5:=condW_of h4 (w_not (w_lt w_lit (w_len_list (w_arg rfl))))
  simp_all
 cases Bs with
 |cons w1 w2 =>
  cases w2;cases w1 with
  |list ho lQ=>exact⟨_,_,ns,rfl,rfl,ho,aq8 ns _ lQ,hlen⟩
theorem a01(l:OpenLaw)(args:List WData):l.row.toRowW.claim.post args (.bool true) args=true :=
 postW_of (r:=l.row.toRowW) (X:=(true==true))
  (show WShape.has [] (.bool true) .bool=true by rfl)
  (show(WTm.eq .res (.lit (.bool true))).value [] { args:=args,res:=some (.bool true),after:=args }=some (.bool (true==true)) from w_eq_bool (w_res rfl) w_lit) rfl
theorem aM1{l:OpenLaw}{n:Nat}{q:Program}{loose:List Str}{XP:(Str->Option Value)->Heap->Prop}{YP:World->Heap->Prop}{d:DefRec}(hn:l.most=some n)(wm:d.params.defaults=[])(call:∀ (w:World) (dG bO:Shared) (mg mb:Str->Option Value) (fa:Addr) (o:Obj) (pm cd doc:Value) (a:Addr) (vs:List Value) (ns:List Int),
   Ground q loose [] XP w dG mg mb bO.heap->YP w bO.heap ->
   bO.heap.get? fa=some o->o.data=.func (docDef d.name d.params d.body d.scope pm cd doc)->bO.heap.CodeRec cd d.name->mg d.name=some (.ref fa) ->
   bO.heap.get? a=some { cls:=.type "list",data:=.seq vs.toArray }->IntsAre vs ns->ns.length<=n->bO.gens=#[] ->
   codeAny (model l.prog w) callerA (.call (.ref fa) ⟨[.ref a],[]⟩) (λr s'=>r=.ok (.ret (.bool true))/\OldK bO.heap s'.heap/\s'.os=bO.os/\AllBare s'.gens) bO) :
  WalkO q loose XP YP l.row.toRowW d [] (λf vs=>PySem.call f vs):=by
 intro w dG bO mg mb G Y fa o pm cd doc dV kV ho hd mJ hD hmg hg args vals as pb PQ hrd Bs vY;obtain rfl:dV=.none:=Dflts.none hD wm;obtain rfl:kV=.none:=Dflts.noKw hD;obtain⟨a,vs,ns,rfl,rfl,lP,hints,hlen⟩:=aZ2 hn pb Bs;refine enter_call (iC (call w dG bO mg mb fa o pm cd doc a vs ns G Y ho (fd_plain hd) mJ hmg lP hints hlen hg) λr s' hq=>?_);obtain⟨rfl,h2,h3,h4⟩:=hq;exact⟨.inl ⟨.bool true,.bool true,[],rfl,λ_=>rfl,.bool true,a01 l _,λ_=>⟨List.Pairwise.nil,λ_ hm=>(nomatch hm)⟩⟩,h2,h3,h4⟩
end NO
namespace L2
open PySem PySem.Spec PyProof.Rows
variable{x:Str}
theorem Kk:∀{vs:List Value} {ns:List Int},IntsAre vs ns->Vals (ns.map V.int) vs
 |_,_,.nil=>.nil
 |_,_,.cons n t h=>.cons ⟨t,rfl⟩ (Kk h)
def zU(H:Hp):Prop:=∀b,H b=none\/∃o xs,H b=some (.kq o (.lst xs))
theorem Wc{P:Program}{w:World}{K:PySem.W.Frag}{mg mb:Str->Option Value}{CX:oq}{k:Nat}{fa a:Addr}{fd:FuncData}{sp:Sp}{bO:Shared}{vs:List Value}{ns:List Int}(KX:K.In bO.heap)(ph:bO.heap.Ns mainGlobals mg)(hb:bO.heap.Ns builtinsNs mb)(BS:∀x:Str,x≠"__name__"->mb x=bootBuiltins x)(BJ:bO.heap.NoLimit)(hg:bO.gens=#[])(ha:bO.heap.get? a=some { cls:=.type "list",data:=.seq vs.toArray })(hi:IntsAre vs ns)(hl:ns.length<=sizeLine)(hr:A5 k callerA)(F:∀base:Heap,K.In base->base.Ns mainGlobals mg->iR P w K mg base CX k fa fd [x] sp)(wt:∀(s:Shared) (u:Value),BindsTo s fd ⟨[u],[]⟩ [(x,u)])(tP:∀H:Hp,zU H->gn K H a (ns.map V.int)->sp [.ref a] H (λv _=>v=.bl true) λ_ _ _=>False)(Ca:∀H e s',CX [] H bO (λ_ _ _=>False) e s'->False) :
  codeAny (model P w) callerA (.call (.ref fa) ⟨[.ref a],[]⟩) (λr s'=>r=.ok (.ret (.bool true))/\OldK bO.heap s'.heap/\s'.os=bO.os/\AllBare s'.gens) bO:=by
 have rv:=Kk hi;have OS:=hi.length;have core:∀H:Hp,zU H->gn K H a (ns.map V.int)->gK P w H bO.heap->(∀b,H b≠none->b=a)->(H a≠none->K.lookup a=none) ->
   codeAny (model P w) callerA (.call (.ref fa) ⟨[.ref a],[]⟩) (λr s'=>r=.ok (.ret (.bool true))/\OldK bO.heap s'.heap/\s'.os=bO.os/\AllBare s'.gens) bO:=by
  intro H hO hS bY hA hK;have U7:∀{b:Addr} {o:Obj},bO.heap.get? b=some o->H b=none->(pR bO.heap H).get? b=some o:=λe n=>VV e n;have vt:∀{b:Addr} {o:Obj} {es:Array DictEntry} {ep:Nat},bO.heap.get? b=some o->o.data=.dict es ep->H b=none:=λ{b o es ep} e d=>by
   grind
  have yo:∀{b:Addr} {m:Str->Option Value},bO.heap.Ns b m->(pR bO.heap H).Ns b m:=λ{b m} ⟨o,es,ep,e,d,r⟩=>⟨o,es,ep,U7 e (vt e d),d,r⟩
  have HW:K.In (pR bO.heap H):=λb o e=>U7 (KX b o e) (by
   grind)
  have hM:Mod K mg (pR bO.heap H):=⟨HW,yo ph,⟨mb,yo hb,BS⟩,let ⟨mc,h1,h2⟩:=BJ;⟨mc,yo h1,h2⟩⟩
  have e0:sH P w K mg (pR bO.heap H) callerA [] bO H:=⟨rfl,hM,λb o e=>Up e,fJ (a33 _ _),trivial,λb hb=>absurd (show b∈([]:List Addr) from hb) (by simp),bY,.of_eq hg⟩
  refine iC ((F _ HW (yo ph)).run callerA [] bO H ⟨[.ref a],[]⟩ [.ref a] [.ref a] _ _ hr e0 (wt bO (.ref a)) (.cons rfl .nil) (tP H hO hS)) λr s' h=>?_;cases r with
  |error e=>exact(Ca H e s' h).elim
  |ok fl =>
   cases fl with
   |next=>exact False.elim h
   |brk=>exact False.elim h
   |cont=>exact False.elim h
   |ret u =>
    obtain⟨v,H',os,bare,un,By,r',q⟩:=h;have q':v=.bl true:=q;subst q';obtain rfl:u=Value.bool true:=r';refine⟨rfl,OldK.of_keep λb o e=>?_,os,bare⟩;cases q:H b with
    |none=>exact un.keep b o e q (by intro z;exact absurd (show b∈([]:List Addr) from z) (by simp)) (by simp)
    |some u =>
     rcases hO b with z|⟨ob,xs,z⟩
     ·simp_all
     ·have z2:=un.iP b ob _ z;obtain⟨e1,_⟩:=bY b _ z;obtain⟨e2,_⟩:=By b _ z2
      simp_all
 cases hk:K.lookup a with
 |some o =>
  have e:=KX a o hk;rw[ha] at e;cases e;refine core (λ_=>none) (λ_=>.inl rfl) (.inr ⟨_,vs.toArray,_,hk,rfl,rfl,rfl,by simp_all,by simpa using rv⟩) (λb u z=>by simp_all) (λb z=>absurd rfl z) λz=>absurd rfl z
 |none =>
  refine core (λb=>if b=a then some (.kq { cls:=.type "list",data:=.seq vs.toArray } (.lst (ns.map V.int))) else none) (λb=>?_) (.inl (.inr ⟨{ cls:=.type "list",data:=.seq vs.toArray },aG rfl⟩)) (λb u z=>?_) (λb z=>?_) λ_=>hk
  ·by_cases hb:b=a
   ·exact .inr ⟨_,_,aG hb⟩
   ·exact .inl (aD hb)
  ·by_cases hb:b=a
   ·have z':=(aG hb).symm.trans z;cases z';subst hb;exact⟨ha,by rw[ak];exact hl,vs,_,rv,ha⟩
   simp_all
  ·by_cases hb:b=a
   ·exact hb
   ·exact absurd (aD hb) z
theorem Vw{l:PySem.W.OpenLaw}{n k:Nat}{q:Program}{loose:List Str}{XP:(Str->Option Value)->Heap->Prop}{YP:World->Heap->Prop}{d:DefRec}{K:Params->PySem.W.Frag}{CX:World->oq}{sp:World->Sp}(hn:l.most=some n)(nk:n<=sizeLine)(wm:d.params.defaults=[])(hr:A5 k callerA)(hY:∀(w:World) (h:Heap),YP w h->(K w.params).In h)(F:∀ (w:World) (mg:Str->Option Value) (fa:Addr) (h:Heap),(K w.params).In h->h.Ns mainGlobals mg->mg d.name=some (.ref fa) ->
   ∃fd:FuncData,(∀(s:Shared) (u:Value),BindsTo s fd ⟨[u],[]⟩ [(x,u)]) /\
    ∀ base:Heap,(K w.params).In base->base.Ns mainGlobals mg->iR l.prog w (K w.params) mg base (CX w) k fa fd [x] (sp w))(tP:∀(w:World) (H:Hp) (a:Addr) (ns:List Int),ns.length<=n->zU H->gn (K w.params) H a (ns.map V.int)->sp w [.ref a] H (λv _=>v=.bl true) λ_ _ _=>False)(Ca:∀(w:World) (H:Hp) (s:Shared) (e:Value) (s':Shared),CX w [] H s (λ_ _ _=>False) e s'->False) :
  PySem.W.WalkO q loose XP YP l.row.toRowW d [] (λf vs=>PySem.call f vs):=by
 refine NO.aM1 hn wm λw dG bO mg mb fa o pm cd doc a vs ns G Y ho hd mJ hmg lP hints hlen hg=>?_;have KX:=hY w _ Y;obtain⟨fd,hb,hF⟩:=F w mg fa _ KX G.T.g hmg;exact Wc KX G.T.g G.T.b G.T.builtins G.T.nolimit hg lP hints (aC hlen nk) hr hF hb (λH hO hS=>tP w H a ns hlen hO hS) λH e s'=>Ca w H bO e s'
def C6(s:Stmt):Arguments:=match s with
 |.FunctionDef _ a _ _ _ _ _ _ _ _=>a
 |_=>{ posonlyargs:=[],args:=[],vararg:=none,kwonlyargs:=[],kw_defaults:=[],kwarg:=none,defaults:=[] }
def w6(s:Stmt):List Stmt:=match s with
 |.FunctionDef _ _ b _ _ _ _ _ _ _=>b
 |_=>[]
def v9(s:Stmt):Scope:=match s with
 |.FunctionDef _ _ _ _ _ _ sc _ _ _=>sc
 |_=>{ kind:=.function,names:=[],isGenerator:=false,isCoroutine:=false }
structure qR(K:PySem.W.Frag)(x qual:Str)(st:Stmt)(f:Addr)(fd:FuncData):Prop where
 ex:∃(oc:Value) (od:Option Addr) (kV doc pm:Value) (an:Option Addr) (gz ct:Value) (ni:Array (Option Value)),
  fd=PySem.W.fnOf x qual (C6 st) (w6 st) (v9 st) .none kV doc pm an gz ct/\K.lookup f=some ⟨oc,od,.func fd,ni⟩/\PySem.W.codeIn K gz qual=true
 kp:PySem.W.keepIn K (.ref f)=true
section
variable{K:PySem.W.Frag}
theorem qR.binds{qual:Str}{st:Stmt}{f:Addr}{fd:FuncData}{ps:List Str}(F:qR K x qual st f fd)(h:∀(kV doc pm:Value) (an:Option Addr) (gz ct:Value) (us:List Value),us.length=ps.length->bindArgs (PySem.W.fnOf x qual (C6 st) (w6 st) (v9 st) .none kV doc pm an gz ct) ⟨us,[]⟩=pure (ps.zip us)):Binds K fd ps []:=by
 obtain⟨oc,od,kV,doc,pm,an,gz,ct,ni,rfl,lk,mJ⟩:=F.ex;exact .all (h kV doc pm an gz ct)
theorem Nv{qual:Str}{st:Stmt}{f:Addr}{oc:Value}{od an:Option Addr}{ni:Array (Option Value)}{kV doc pm gz ct:Value}(l:K.lookup f=some ⟨oc,od,.func (PySem.W.fnOf x qual (C6 st) (w6 st) (v9 st) .none kV doc pm an gz ct),ni⟩)(c:PySem.W.codeIn K gz qual=true)(k:PySem.W.keepIn K (.ref f)=true):qR K x qual st f (PySem.W.fnOf x qual (C6 st) (w6 st) (v9 st) .none kV doc pm an gz ct):=⟨⟨oc,od,kV,doc,pm,an,gz,ct,ni,rfl,l,c⟩,k⟩
end
end L2
namespace TS
open PySem PyProof.Rows
def Ii:Bool->Keyed->Array Keyed->Nat->Nat->Nat->StateT SortSt Sem (Option Nat):=sortPriv% PySem.Builtin.gallop
def OP:Array Keyed->Array Keyed->StateT SortSt Sem (Array Keyed):=sortPriv% PySem.Builtin.mergeLo
def OQ:Array Keyed->Array Keyed->StateT SortSt Sem (Array Keyed):=sortPriv% PySem.Builtin.mergeHi
noncomputable abbrev kn(p:Keyed):Int:=numOf p.1
def IK(p:Keyed):Prop:=∃n t,p.1=.int n t
section
variable{prog:Program}{w:World}{A:Around}{E:Value->Shared->Prop}{s:Shared}
theorem Ao{st:SortSt}{x y:Keyed}{Q:Option Bool->SortSt->Prop}(hk:kindOf st=oneType')(hx:IK x)(hy:IK y)(h:Q (some (decide (kn x<kn y))) st) :
  wpS (model prog w) A E s (lt' x y) Q st:=by
 obtain⟨a,t,ha⟩:=hx;obtain⟨b,u,hb⟩:=hy;rw[lt'_eq];refine aA (mS ?_);rw[hk,keyLt'_oneType,ha,hb];refine aA (qb (mT (oneLt_int ⟨rfl,?_⟩)));have:kn x=a/\kn y=b:=by unfold kn;rw[ha,hb];exact⟨rfl,rfl⟩
 rw[this.1,this.2] at h;exact aH h
theorem A6{st:SortSt}{xs:Array Keyed}{i:Nat}{p:Keyed}{Q:Keyed->SortSt->Prop}(h1:xs[i]?=some p)(h:Q p st):wpS (model prog w) A E s (elem' xs i) Q st:=by
 rw[elem'_eq,h1];exact aH h
theorem f7{M:Model}{U α:Type}{c:Prop}[Decidable c]{x y:StateT U Sem α}{Q:α->U->Prop}{st:U}(h1:c->wpS M A E s x Q st)(h2:¬c->wpS M A E s y Q st):wpS M A E s (if c then x else y) Q st:=by
 by_cases h:c
 ·rw[aG h];exact h1 h
 ·rw[aD h];exact h2 h
def fY(left:Bool)(key p:Keyed):Bool:=if left then decide (kn p<kn key) else !decide (kn key<kn p)
theorem zj{st:SortSt}{left:Bool}{key p:Keyed}{arr:Array Keyed}{i:Nat}{Q:Option Bool->SortSt->Prop}(hk:kindOf st=oneType')(gC:IK key)(hp:arr[i]?=some p)(hi:IK p)(h:Q (some (fY left key p)) st) :
  wpS (model prog w) A E s (elem' arr i >>= λx=>if left=true then lt' x key else lt' key x >>= λr=>pure (r.map λb=>!b)) Q st:=by
 refine aA (A6 hp ?_);cases left
 ·exact aA (Ao hk gC hi (aH h))
 ·exact Ao hk hi gC h
theorem ZX{st:SortSt}{left:Bool}{key:Keyed}{arr:Array Keyed}{base n hint:Nat}{f:Nat->Keyed}{Q:Option Nat->SortSt->Prop}(hk:kindOf st=oneType')(gC:IK key)(hf:∀i,i<n->arr[base+i]?=some (f i)/\IK (f i))(hm:∀i j,i<=j->j<n->fY left key (f j)=true->fY left key (f i)=true)(hh:hint<n)(h:∀k,k<=n->(∀i,i<k->fY left key (f i)=true)->(∀i,k<=i->i<n->fY left key (f i)=false)->Q (some k) st):wpS (model prog w) A E s (Ii left key arr base n hint) Q st:=by
 have oC:∀i j,i<=j->j<n->fY left key (f i)=false->fY left key (f j)=false:=λi j a b c=>by
  cases e:fY left key (f j) with
  |false=>rfl
  |true=>rw[hm i j a b e] at c;omega
 refine aA ?_;refine zj hk gC (hf hint hh).1 (hf hint hh).2 ?_;have last:∀lo hi:Nat,lo<=hi->hi<=n->(∀i,i<lo->fY left key (f i)=true)->(∀i,hi<=i->i<n->fY left key (f i)=false)->∀(F:Nat->Option (Option Nat)×Nat×Nat->StateT SortSt Sem (ForInStep (Option (Option Nat)×Nat×Nat))),
   (F=λ_ c=>if c.2.1 >= c.2.2 then pure (.done (none,c.2.1,c.2.2)) else (elem' arr (base + (c.2.1 + (c.2.2 - c.2.1) / 2)) >>= λx=>if left=true then lt' x key else lt' key x >>= λr=>pure (r.map λb=>!b)) >>= λr=>match r with
    |some more=>if more=true then pure (.yield (none,c.2.1+(c.2.2-c.2.1) / 2+1,c.2.2)) else pure (.yield (none,c.2.1,c.2.1+(c.2.2-c.2.1) / 2))
    | x=>pure (.done (some none,c.2.1,c.2.2))) ->
   wpS (model prog w) A E s (forIn [0:n] (none,lo,hi) F) (λc ba=>ba=st/\c.1=none/\Q (some c.2.2) st) st:=by
  intro lo hi h1 h2 h3 h4 F e;subst e;refine dI (I:=λx c ba=>ba=st/\c.1=none/\c.2.1<=c.2.2/\c.2.2<=n/\c.2.2-c.2.1<=n-x/\(∀i,i<c.2.1->fY left key (f i)=true)/\(∀i,c.2.2<=i->i<n->fY left key (f i)=false)) ?_ ?_ ⟨rfl,rfl,h1,h2,by grind,h3,h4⟩
  ·rintro x ⟨c1,l,r⟩ ba _ hx ⟨rfl,rfl,q1,q2,q3,q4,q5⟩;dsimp only at q1 q2 q3 q4 q5 ⊢;by_cases ly:l>=r
   ·rw[aG ly];have:l=r:=by omega
    subst this;exact aH ⟨rfl,rfl,h l q2 q4 q5⟩
   ·rw[aD ly];have oB:l+(r-l) / 2<n:=by omega
    refine aA (zj hk gC (hf _ oB).1 (hf _ oB).2 ?_);cases e:fY left key (f (l+(r-l) / 2)) with
    |true=>exact aH ⟨rfl,rfl,by dsimp only;omega,q2,by grind,λi hi=>hm i _ (Nat.le_of_lt_succ hi) oB e,q5⟩
    |false=>exact aH ⟨rfl,rfl,by simp,by grind,by dsimp only;omega,q4,λi hi hn=>oC _ i hi hn e⟩
  ·rintro⟨c1,l,r⟩ ba ⟨rfl,rfl,q1,q2,q3,q4,q5⟩;dsimp only at q1 q2 q3 q4 q5;have:l=r:=by omega
   subst this;exact⟨rfl,rfl,h l q2 q4 q5⟩
 cases e0:fY left key (f hint) with
 |true =>
  refine aA (wpS_mono (dI (I:=λx (c:Option (Option Nat) × Nat × Nat) ba=>ba=st/\c.1=none/\c.2.1 < c.2.2/\hint + c.2.1 < n/\x < c.2.2/\fY left key (f (hint + c.2.1))=true)
   (Q:=λc ba=>ba=st/\c.1=none/\c.2.1 < c.2.2/\hint + c.2.1 < n/\fY left key (f (hint + c.2.1))=true/\(c.2.2 >= n - hint \/ fY left key (f (hint + c.2.2))=false)) ?_ ?_ ⟨rfl,rfl,by decide,hh,by decide,e0⟩) ?_)
  ·rintro x ⟨c1,l,r⟩ ba _ hx ⟨rfl,rfl,q1,q2,q3,q4⟩;by_cases ly:r>=n-hint
   ·rw[aG ly];exact aH ⟨rfl,rfl,q1,q2,q4,.inl ly⟩
   ·rw[aD ly];have oB:hint+r<n:=by omega
    refine aA (zj hk gC (hf _ oB).1 (hf _ oB).2 ?_);cases e:fY left key (f (hint+r)) with
    |true=>exact aH ⟨rfl,rfl,by grind,oB,by grind,e⟩
    |false=>exact aH ⟨rfl,rfl,q1,q2,q4,.inr e⟩
  ·grind
  ·rintro⟨c1,l,r⟩ ba ⟨rfl,rfl,q1,q2,q3,q4⟩;dsimp only at q1 q2 q3 q4 ⊢;refine aA (wpS_mono (last (hint+l+1) (hint+min r (n-hint)) () () (λi hi=>hm i _ (Nat.le_of_lt_succ hi) q2 q3) ?_ _ rfl) ?_)
   ·intro i h1 h2;rcases q4 with q4|q4
    ·omega
    ·exact oC (hint+r) i () h2 q4
   ·rintro⟨c1,l,r⟩ ba ⟨rfl,rfl,q⟩;exact aH q
 |false =>
  refine aA (wpS_mono (dI (I:=λx (c:Option (Option Nat) × Nat × Nat) ba=>ba=st/\c.1=none/\c.2.1 < c.2.2/\c.2.1 <= hint/\x < c.2.2/\fY left key (f (hint - c.2.1))=false)
   (Q:=λc ba=>ba=st/\c.1=none/\c.2.1 < c.2.2/\c.2.1 <= hint/\fY left key (f (hint - c.2.1))=false/\(c.2.2 >= hint + 1 \/ fY left key (f (hint - c.2.2))=true)) ?_ ?_ ⟨rfl,rfl,by decide,bW _,by decide,e0⟩) ?_)
  ·rintro x ⟨c1,l,r⟩ ba _ hx ⟨rfl,rfl,q1,q2,q3,q4⟩;by_cases ly:r>=hint+1
   ·rw[aG ly];exact aH ⟨rfl,rfl,q1,q2,q4,.inl ly⟩
   ·rw[aD ly];have oB:hint-r<n:=by omega
    refine aA (zj hk gC (hf _ oB).1 (hf _ oB).2 ?_);cases e:fY left key (f (hint-r)) with
    |true=>exact aH ⟨rfl,rfl,q1,q2,q4,.inr e⟩
    |false=>exact aH ⟨rfl,rfl,by grind,by grind,by grind,e⟩
  ·rintro⟨c1,l,r⟩ ba ⟨rfl,rfl,q1,q2,q3,q4⟩;exact⟨rfl,rfl,q1,q2,q4,.inl (by grind)⟩
  ·rintro⟨c1,l,r⟩ ba ⟨rfl,rfl,q1,q2,q3,q4⟩;dsimp only at q1 q2 q3 q4 ⊢;refine aA (wpS_mono (last (hint+1-min r (hint+1)) (hint-l) () () ?_ (λi hi hn=>oC _ i hi hn q3) _ rfl) ?_)
   ·intro i h1;rcases q4 with q4|q4
    ·omega
    ·exact hm i (hint-r) () () q4
   ·rintro⟨c1,l,r⟩ ba ⟨rfl,rfl,q⟩;exact aH q
theorem VE{left:Bool}{key p q:Keyed}(h:kn p<=kn q)(hq:fY left key q=true):fY left key p=true:=by
 unfold fY at hq ⊢
 grind
theorem uu{st:SortSt}{left:Bool}{key:Keyed}{xs:Array Keyed}{base n hint:Nat}{Q:Option Nat->SortSt->Prop}(hk:kindOf st=oneType')(gC:IK key)(hJ:∀p∈xs.toList,IK p)(hs:∀i j (hj:j<xs.size) (jF:i<=j),base<=i->j<base+n->kn xs[i]<=kn xs[j])(hn:base+n<=xs.size)(hh:hint<n)(h:∀k,k<=n->(∀p∈(xs.toList.drop base).take k,fY left key p=true)->(∀p∈(xs.toList.drop (base+k)).take (n-k),fY left key p=false)->Q (some k) st):wpS (model prog w) A E s (Ii left key xs base n hint) Q st:=by
 refine ZX (f:=λt=>(xs[base+t]?).getD key) hk gC (λt ht=>?_) (λu v mH hv hq=>VE ?_ hq) hh λk hk kX lX=>h k hk ?_ ?_
 ·rw[cy xs (base+t) ()];exact⟨rfl,hJ _ (by simp)⟩
 ·rw[cy xs (base+u) (),cy xs (base+v) ()]
  simp_all
 ·intro p hp;obtain⟨t,ht,rfl⟩:=bo.mp hp;simp only[List.length_take,List.length_drop,Array.length_toList] at ht;have:=kX t ();rw[cy xs (base+t) ()] at this;simpa using this
 ·intro p hp;obtain⟨t,ht,rfl⟩:=bo.mp hp;simp only[List.length_take,List.length_drop,Array.length_toList] at ht;have:=lX (k+t) () ();rw[cy xs (base+(k+t)) ()] at this;simpa[Nat.add_assoc] using this
end
section
variable{r:Keyed->Keyed->Prop}{all o x y u v:List Keyed}
structure MI(r:Keyed->Keyed->Prop)(all o x y:List Keyed):Prop where
 pm:(o++(x++y)).Perm all
 so:o.Pairwise r
 sx:x.Pairwise r
 sy:y.Pairwise r
 cr:∀p∈o,∀q,q∈x\/q∈y->r p q
 hl:∀q∈y,∀z,x.getLast?=some z->r q z
theorem MI.x1(h:MI r all o (u++v) y)(c:∀p∈u,∀q∈y,r p q)(ne:v≠[]):MI r all (o++u) v y:=by
 obtain⟨a1,a2,a3⟩:=aV.mp h.sx;refine⟨by have:=h.pm;simp_all,aV.mpr ⟨h.so,a1,λp hp q hq=>h.cr p hp q (.inl (bz _ hq))⟩,a2,h.sy,λp hp q hq=>?_,λq hq z hz=>h.hl q hq z ?_⟩
 ·rcases aR.mp hp with hp|hp
  ·exact h.cr p hp q (hq.imp (aW _) id)
  ·rcases hq with hq|hq
   ·exact a3 p hp q hq
   ·exact c p hp q hq
 simp_all
theorem MI.y1(h:MI r all o y (u++v))(c:∀p∈u,∀q∈y,r p q):MI r all (o++u) y v:=by
 obtain⟨a1,a2,a3⟩:=aV.mp h.sy;refine⟨?_,aV.mpr ⟨h.so,a1,λp hp q hq=>h.cr p hp q (.inr (bz _ hq))⟩,h.sx,a2,λp hp q hq=>?_,λq hq z hz=>h.hl q (aW _ hq) z hz⟩
 ·refine List.Perm.trans ?_ h.pm;rw[bS];refine eI _ ?_;rw[<- bS,<- bS];exact fN _ ju
 ·rcases aR.mp hp with hp|hp
  ·exact h.cr p hp q (hq.imp id (aW _))
  ·rcases hq with hq|hq
   ·exact c p hp q hq
   ·exact a3 p hp q hq
def Fn(r:Keyed->Keyed->Prop)(all z:List Keyed):Prop:=z.Perm all/\z.Pairwise r
theorem MI.e1(h:MI r all o x []):Fn r all (o++x):=by
 refine⟨by have:=h.pm;simpa using this,aV.mpr ⟨h.so,h.sx,λp hp q hq=>h.cr p hp q (.inl hq)⟩⟩
theorem MI.e0(h:MI r all o x y)(c:∀p∈x,∀q∈y,r p q):Fn r all (o++(x++y)) :=
 ⟨h.pm,aV.mpr ⟨h.so,aV.mpr ⟨h.sx,h.sy,c⟩,λp hp q hq=>h.cr p hp q (aR.mp hq)⟩⟩
theorem MI.e2{z:Keyed}(h:MI r all o [z] y):Fn r all (o++(y++[z])):=by
 refine⟨List.Perm.trans (eI _ ju) h.pm,aV.mpr ⟨h.so,aV.mpr ⟨h.sy,h.sx,λp hp q hq=>?_⟩,λp hp q hq=>?_⟩⟩
 ·rw[aQ] at hq;subst hq;exact h.hl p hp q rfl
 ·exact h.cr p hp q ((aR.mp hq).symm)
theorem MI.len(h:MI r all o x y):o.length+x.length+y.length=all.length:=by
 have:=h.pm.length_eq;grind
theorem MI.hx{p q:Keyed}(h:MI r all o (p::x) y)(tr:∀a b c,r a b->r b c->r a c)(c:r q p):∀z∈p::x,r q z:=by
 intro z hz;rcases aJ.mp hz with rfl|hz
 ·exact c
 ·exact tr _ _ _ c ((fB.mp h.sx).1 z hz)
theorem MI.hy{p q:Keyed}(h:MI r all o y (p::x))(tr:∀a b c,r a b->r b c->r a c)(c:r q p):∀z∈p::x,r q z:=by
 intro z hz;rcases aJ.mp hz with rfl|hz
 ·exact c
 ·exact tr _ _ _ c ((fB.mp h.sy).1 z hz)
def Sm(st ba:SortSt):Prop:=kindOf ba=kindOf st/\arrOf ba=arrOf st/\pendingOf ba=pendingOf st/\failedOf ba=failedOf st
theorem dc{xs:Array Keyed}{i:Nat}(h:i<xs.size):xs.toList.drop i=xs[i]::xs.toList.drop (i+1):=by
 rw[dj (by simpa using h)];simp
theorem ex(o':Array Keyed)(xs:Array Keyed)(i k:Nat):(o'++xs.extract i (i+k)).toList=o'.toList++(xs.toList.drop i).take k:=by
 simp
theorem dk(l:List Keyed)(i k:Nat):l.drop i=(l.drop i).take k++l.drop (i+k):=by
 rw[<- gU,bJ]
theorem Dh{k p:Keyed}(h:fY false k p=true):kn p<=kn k:=by
 unfold fY at h;grind
theorem Ae{k p:Keyed}(h:fY false k p=false):kn k<kn p:=by
 unfold fY at h;simpa using h
theorem zV{k p:Keyed}(h:fY true k p=true):kn p<kn k:=by
 unfold fY at h;simpa using h
theorem Ez{k p:Keyed}(h:fY true k p=false):kn k<=kn p:=by
 unfold fY at h;grind
theorem dt{xs:Array Keyed}{i n:Nat}(h:xs.size-i<=n):(xs.toList.drop i).take n=xs.toList.drop i:=cv (by simp;omega)
end
section
variable{prog:Program}{w:World}{A:Around}{E:Value->Shared->Prop}{s:Shared}
def Xt:Nat->StateT SortSt Sem Unit:=sortPriv% PySem.Builtin.setMinGallop
theorem Sm.trans{a b c:SortSt}(h:Sm a b)(q:Sm b c):Sm a c:=⟨q.1.trans h.1,q.2.1.trans h.2.1,q.2.2.1.trans h.2.2.1,q.2.2.2.trans h.2.2.2⟩
theorem As{st:SortSt}{g:Nat}{Q:Unit->SortSt->Prop}(h:∀ba,Sm st ba->Q Unit.unit ba):wpS (model prog w) A E s (Xt g) Q st:=mR (h _ ⟨rfl,rfl,rfl,rfl⟩)
def fs{β U:Type}(Q I:β->U->Prop):ForInStep β->U->Prop
 |.done c,st=>Q c st
 |.yield c,st=>I c st
theorem forR{M:Model}{U β:Type}{a b:Nat}{f:Nat->β->StateT U Sem (ForInStep β)}(I:Nat->β->U->Prop){Q:β->U->Prop}(hs:∀i c st,a<=i->i<b->I i c st->wpS M A E s (f i c) (fs Q (I (i+1))) st)(hd:∀c st,I (max a b) c st->Q c st){c:β}{st:U}(h:I a c st):wpS M A E s (forIn [a:b] c f) Q st :=
 dI I (λi c st h1 h2 h3=>wpS_mono (hs i c st h1 h2 h3) λr ba hq=>by cases r<;>exact hq) hd h
noncomputable abbrev le(p q:Keyed):Prop:=kn p<=kn q
theorem Am:∀a b c,le a b->le b c->le a c:=λ_ _ _=>fO
theorem xw{xs:Array Keyed}(h:xs.toList.Pairwise le){u v:Nat}(hv:v<xs.size)(mH:u<=v):kn xs[u]<=kn xs[v]:=by
 by_cases e:u=v
 ·subst e;exact gw _
 ·have:=cM.mp h u v (by simp;omega) (by simpa using hv) ();simpa using this
section
variable{st ba:SortSt}{a b o:Array Keyed}{i j n k:Nat}{p q:Keyed}
structure LI(st:SortSt)(a b:Array Keyed)(n:Nat)(o:Array Keyed)(i j:Nat)(ba:SortSt):Prop where
 sm:Sm st ba
 mi:MI le (a.toList++b.toList) o.toList (a.toList.drop i) (b.toList.drop j)
 hi:i+1<a.size
 hj:j<b.size
 ho:n<o.size
theorem dq{xs:Array Keyed}{i:Nat}{p:Keyed}(h:xs[i]?=some p):xs.toList.drop i=p::xs.toList.drop (i+1):=by
 obtain⟨hi,rfl⟩:=gX.mp h;exact dc hi
theorem dn{xs:Array Keyed}{i:Nat}(h:xs.size<=i):xs.toList.drop i=[]:=iY (by simpa using h)
theorem uh(xs:Array Keyed)(i:Nat):(xs.extract i xs.size).toList=xs.toList.drop i:=by
 rw[jN,List.extract_eq_drop_take,dt (aw _)]
theorem Mj{xs:Array Keyed}{i:Nat}(h:i<xs.size):xs.toList.drop i≠[]:=by simp_all
theorem fD(hm:MI le (a.toList++b.toList) o.toList (a.toList.drop i) (b.toList.drop j))(h:b.size<=j):Fn le (a.toList++b.toList) (o++a.extract i a.size++b.extract j b.size).toList:=by
 rw[bC,bC,uh,uh,dn h,dz];rw[dn h] at hm;exact hm.e1
theorem fL(hm:MI le (a.toList++b.toList) o.toList (a.toList.drop i) (b.toList.drop j))(h:i+1=a.size):Fn le (a.toList++b.toList) (o++b.extract j b.size++a.extract i a.size).toList:=by
 have e:a.toList.drop i=[a[i]]:=by rw[dc (),dn ()]
 rw[bC,bC,uh,uh,bS,e];rw[e] at hm;exact hm.e2
theorem LI.y(h:LI st a b n o i j ba)(hp:a[i]?=some p)(hq:b[j]?=some q)(hc:kn q<=kn p) :
  (j+1=b.size->Fn le (a.toList++b.toList) (o.push q++a.extract i a.size++b.extract (j+1) b.size).toList)/\(¬j+1=b.size->LI st a b (n+1) (o.push q) i (j+1) ba):=by
 have hm:MI le (a.toList++b.toList) (o.push q).toList (a.toList.drop i) (b.toList.drop (j+1)):=by
  have hm:=h.mi;rw[dq hp] at hm ⊢;rw[dq hq] at hm;rw[dE];exact hm.y1 (u:=[q]) λu hu z hz=>by rw[aQ] at hu;subst hu;exact hm.hx Am hc z hz
 have hj:=h.hj;exact⟨λe=>fD hm (fJ e.symm),λe=>⟨h.sm,hm,h.hi,by omega,by rw[jh];have:=h.ho;omega⟩⟩
theorem LI.x(h:LI st a b n o i j ba)(hp:a[i]?=some p)(hq:b[j]?=some q)(hc:kn p<=kn q) :
  (i+1+1=a.size->Fn le (a.toList++b.toList) (o.push p++b.extract j b.size++a.extract (i+1) a.size).toList)/\(¬i+1+1=a.size->LI st a b (n+1) (o.push p) (i+1) j ba):=by
 have hm:MI le (a.toList++b.toList) (o.push p).toList (a.toList.drop (i+1)) (b.toList.drop j):=by
  have hm:=h.mi;rw[dq hq] at hm ⊢;rw[dq hp] at hm;rw[dE];exact hm.x1 (u:=[p]) (λu hu z hz=>by rw[aQ] at hu;subst hu;exact hm.hy Am hc z hz) (Mj h.hi)
 have hi:=h.hi;exact⟨λe=>fL hm e,λe=>⟨h.sm,hm,by omega,h.hj,by rw[jh];have:=h.ho;omega⟩⟩
theorem LI.gx(h:LI st a b n o i j ba)(hq:b[j]?=some q)(h1:k<=a.size-i)(h2:∀p∈(a.toList.drop i).take k,fY false q p=true)(h3:∀p∈(a.toList.drop (i+k)).take (a.size-i-k),fY false q p=false) :
  (i+k+1=a.size->Fn le (a.toList++b.toList) (o++a.extract i (i+k)++b.extract j b.size++a.extract (i+k) a.size).toList) /\
  (i+k=a.size->Fn le (a.toList++b.toList) (o++a.extract i (i+k)++a.extract (i+k) a.size++b.extract j b.size).toList) /\
  (¬i+k+1=a.size->¬i+k=a.size->LI st a b n (o++a.extract i (i+k)) (i+k) j ba)/\∀p,a[i+k]?=some p->kn q<=kn p:=by
 have hi:=h.hi;have XY:∀p∈(a.toList.drop i).take k,∀q∈b.toList.drop j,le p q:=λp hp q yB=>by
  have hm:=h.mi;rw[dq hq] at yB hm;exact hm.hy Am (Dh (h2 p hp)) q yB
 have M2:i+k<a.size->MI le (a.toList++b.toList) (o++a.extract i (i+k)).toList (a.toList.drop (i+k)) (b.toList.drop j):=λdY=>by
  have hm:=h.mi;rw[dk a.toList i k] at hm;rw[ex];exact hm.x1 XY (Mj dY)
 refine⟨λe=>fL (M2 ()) e,λe=>?_,λe1 e2=>⟨h.sm,M2 (),by omega,h.hj,by rw[iy];have:=h.ho;omega⟩,λp hp=>cz (Ae (h3 p ?_))⟩
 ·rw[bC,bC,ex,uh,uh,dn (fJ e.symm),dt (),dz,bS];rw[dt ()] at XY;exact h.mi.e0 XY
 ·rw[dt (),dq hp];exact cZ ..
theorem LI.gy(h:LI st a b n o i j ba)(hp:a[i]?=some p)(h1:k<=b.size-j)(h2:∀q∈(b.toList.drop j).take k,fY true p q=true)(h3:∀q∈(b.toList.drop (j+k)).take (b.size-j-k),fY true p q=false) :
  (j+k=b.size->Fn le (a.toList++b.toList) (o++b.extract j (j+k)++a.extract i a.size++b.extract (j+k) b.size).toList) /\
  (¬j+k=b.size->LI st a b n (o++b.extract j (j+k)) i (j+k) ba)/\∀q,b[j+k]?=some q->kn p<=kn q:=by
 have hj:=h.hj;have hm:MI le (a.toList++b.toList) (o++b.extract j (j+k)).toList (a.toList.drop i) (b.toList.drop (j+k)):=by
  have hm:=h.mi;rw[dk b.toList j k] at hm;rw[ex];refine hm.y1 λq hq z hz=>?_;rw[dq hp] at hz hm;exact hm.hx Am (cz (zV (h2 q hq))) z hz
 refine⟨λe=>fD hm (fJ e.symm),λe=>⟨h.sm,hm,h.hi,by omega,by rw[iy];have:=h.ho;omega⟩,λq hq=>Ez (h3 q ?_)⟩;rw[dt (),dq hq];exact cZ ..
theorem LI.ex(h:LI st a b n o i j ba)(hJ:∀p∈a.toList++b.toList,IK p):∃p q,a[i]?=some p/\b[j]?=some q/\IK p/\IK q:=by
 have hi:=h.hi;have hj:=h.hj;exact⟨a[i],b[j],by simp,by simp,hJ _ (bz _ (by simp)),hJ _ (aW _ (by simp))⟩
theorem LI.ve(h:LI st a b n o i j ba){gB:SortSt}(q:Sm ba gB):LI st a b n o i j gB:=⟨h.sm.trans q,h.mi,h.hi,h.hj,h.ho⟩
theorem LI.wk(h:LI st a b n o i j ba){m:Nat}(hm:m<=n):LI st a b m o i j ba:=⟨h.sm,h.mi,h.hi,h.hj,cY hm h.ho⟩
theorem LI.full(h:LI st a b (a.size+b.size) o i j ba):False:=by
 have h1:=h.mi.len;have h2:=h.ho
 grind
def LR(st:SortSt)(a b:Array Keyed)(n:Nat)(Q:Array Keyed->SortSt->Prop)(r:Option (Array Keyed))(o:Array Keyed)(i j:Nat)(ba:SortSt):Prop:=match r with
 |some z=>Q z ba
 |none=>LI st a b n o i j ba
end
noncomputable abbrev nQ:Array Keyed->SortSt->Prop:=λ_ _=>False
theorem bB4{st:SortSt}{a b:Array Keyed}{Q:Array Keyed->SortSt->Prop}(hk:kindOf st=oneType')(hJ:∀p∈a.toList++b.toList,IK p)(ha:0<a.size)(hb:0<b.size)(h0:MI le (a.toList++b.toList) [] a.toList b.toList)(hf:∀p∈a.toList,kn b[0]<=kn p)(h:∀z ba,Sm st ba->Fn le (a.toList++b.toList) z.toList->Q z ba):wpS (model prog w) A E s (OP a b) Q st:=by
  have IA:∀p∈a.toList,IK p:=λp hp=>hJ p (bz _ hp);have IB:∀p∈b.toList,IK p:=λp hp=>hJ p (aW _ hp);have SA:∀x n u v (hv:v<a.size) (mH:u<=v),x<=u->v<x+n->kn a[u]<=kn a[v]:=λ_ _ u v hv mH _ _=>xw h0.sx hv mH;have SB:∀x n u v (hv:v<b.size) (mH:u<=v),x<=u->v<x+n->kn b[u]<=kn b[v]:=λ_ _ u v hv mH _ _=>xw h0.sy hv mH;have h1:MI le (a.toList++b.toList) (#[b[0]]:Array Keyed).toList (a.toList.drop 0) (b.toList.drop 1):=by
    have:b.toList=[b[0]]++b.toList.drop 1:=by have:=dc hb;simpa using this
    refine MI.y1 (o:=[]) (by rw[<- this];exact h0) ?_;intro p hp q hq;rw[aQ] at hp;subst hp;exact hf q hq
  have s0:Sm st st:=⟨rfl,rfl,rfl,rfl⟩
  refine aA (qb (eO ⟨rfl,?_⟩));refine aA (A6 (p:=b[0]) (by simp[hb]) ?_);refine f7 (λe=>aH (h _ st s0 (fD h1 (fJ (eq_of_beq e).symm)))) λe=>?_;refine f7 (λe2=>aH (h _ st s0 (fL h1 (eq_of_beq e2)))) λe2=>?_;have e:¬1=b.size:=λz=>e (bx.mpr z);have e2:¬0+1=a.size:=λz=>e2 (bx.mpr z);refine aA (mS ?_);refine aA (wpS_mono (forR (I:=λn (c:Option (Array Keyed)×Array Keyed×Nat×Nat×Nat)=>LR st a b n nQ c.1 c.2.1 c.2.2.1 c.2.2.2.1) (Q:=λc=>LR st a b (a.size+b.size) Q c.1 c.2.1 c.2.2.1 c.2.2.2.1) ?_ ?_ (show LI st a b 0 #[b[0]] 0 1 st from⟨s0,h1,by omega,by omega,by simp⟩)) ?_)
  · rintro n ⟨c1,o,i,j,mg⟩ fW _ hn hL;cases c1 with
    |some z=>exact hL.elim
    |none =>
    refine aA (wpS_mono (forR (I:=λx (c:Option (Array Keyed)×Array Keyed×Nat×Nat×Nat×Nat)=>LR st a b (n+x) nQ c.1 c.2.1 c.2.2.1 c.2.2.2.1) (Q:=λc=>LR st a b (n+1) Q c.1 c.2.1 c.2.2.1 c.2.2.2.1) ?_ ?_ hL) ?_)
    · rintro x ⟨c1,o,i,j,ac,bc⟩ fW _ _ hL;cases c1 with
      |some z=>exact hL.elim
      |none =>
      obtain⟨p,q,hp,hq,ip,iq⟩:=hL.ex hJ;refine aA (A6 hq (aA (A6 hp (aA (Ao (hL.sm.1.trans hk) iq ip ?_)))));refine f7 (λhc=>aA (A6 hq ?_)) (λhc=>aA (A6 hp ?_))
      · have Y:=hL.y hp hq (cz (bj hc));refine f7 (λe=>aH (h _ _ hL.sm (Y.1 (eq_of_beq e)))) λe=>?_;have Z:=Y.2 λz=>e (bx.mpr z);exact f7 (λ_=>aH (Z.wk ())) (λ_=>aH Z)
      · have Y:=hL.x hp hq (gW.mp λz=>hc (ay z));refine f7 (λe=>aH (h _ _ hL.sm (Y.1 (eq_of_beq e)))) λe=>?_;have Z:=Y.2 λz=>e (bx.mpr z);exact f7 (λ_=>aH (Z.wk ())) (λ_=>aH Z)
    · rintro⟨c1,o,i,j,ac,bc⟩ fW hL;cases c1 with
      |some z=>exact hL.elim
      |none=>exact LI.wk hL ()
    · rintro⟨c1,o,i,j,ac,bc⟩ fW hL;cases c1 with
      |some z=>exact aH hL
      |none =>
      refine aA (qb (eO ⟨rfl,?_⟩));refine aA (wpS_mono (forR (I:=λx (c:Option (Array Keyed)×Array Keyed×Nat×Nat×Nat×Nat×Nat)=>LR st a b (n+1) nQ c.1 c.2.1 c.2.2.1 c.2.2.2.1) (Q:=λc=>LR st a b (n+1) Q c.1 c.2.1 c.2.2.1 c.2.2.2.1) ?_ ?_ hL) ?_)
      · rintro x ⟨c1,o,i,j,mg,ac,bc⟩ fW _ _ hL;cases c1 with
        |some z=>exact hL.elim
        |none =>
        replace hL:LI st a b (n+1) o i j fW:=hL
        lift_lets
        intro s1 out s2 ia s3 ib s4 OO s5 ac1 V' Hb jp;have e1:o=out:=rfl;have e2:i=ia:=rfl;have e3:j=ib:=rfl;have e4:j+1=Hb:=rfl
        clear_value out ia ib Hb
        subst e1 e2 e3 e4;have J:∀u m,wpS (model prog w) A E s (jp u m) (fs (λc=>LR st a b (n+1) Q c.1 c.2.1 c.2.2.1 c.2.2.2.1) (λc=>LR st a b (n+1) nQ c.1 c.2.1 c.2.2.1 c.2.2.2.1)) fW:=by
          intro u m;refine aA (As (g:=m) λgB gO=>?_)
          replace hL:=hL.ve gO
          obtain⟨p,q,hp,hq,ip,iq⟩:=hL.ex hJ;refine aA (A6 hq ?_);refine aA (uu (hL.sm.1.trans hk) iq IA (SA _ _) (by grind) (by have:=hL.hi;omega) λk lY kX lX=>?_);have G:=hL.gx hq lY kX lX;clear lY kX lX hp ip;dsimp -zeta -zetaHave only
          lift_lets
          intro ac2 vL Bb ia2;have J2:∀u o i,LI st a b (n+1) o i j gB->(∀p,a[i]?=some p->kn q<=kn p)->wpS (model prog w) A E s (vL u o i) (fs (λc=>LR st a b (n+1) Q c.1 c.2.1 c.2.2.1 c.2.2.2.1) (λc=>LR st a b (n+1) nQ c.1 c.2.1 c.2.2.1 c.2.2.2.1)) gB:=by
            intro u o i hL hc;obtain⟨p,q2,hp,_,ip,_⟩:=hL.ex hJ;have Y:=hL.y hp hq (hc p hp);refine aA (A6 hq ?_);refine f7 (λe=>aH (h _ _ hL.sm (Y.1 (eq_of_beq e)))) λe=>?_;have Z:=Y.2 λz=>e (bx.mpr z);refine aA (A6 hp ?_);refine aA (uu (hL.sm.1.trans hk) ip IB (SB _ _) (by have:=Z.hj;omega) (by have:=Z.hj;omega) λk lY kX lX=>?_);have G:=Z.gy hp lY kX lX;dsimp -zeta -zetaHave only
            lift_lets
            intro VZ vK Ba ib3;have J3:∀u o j,LI st a b (n+1) o i j gB->(∀q,b[j]?=some q->kn p<=kn q)->wpS (model prog w) A E s (vK u o j) (fs (λc=>LR st a b (n+1) Q c.1 c.2.1 c.2.2.1 c.2.2.2.1) (λc=>LR st a b (n+1) nQ c.1 c.2.1 c.2.2.1 c.2.2.2.1)) gB:=by
              intro u o j hL hc;obtain⟨p2,q,_,hq,_,_⟩:=hL.ex hJ;have Y:=hL.x hp hq (hc q hq);refine aA (A6 hp ?_);refine f7 (λe=>aH (h _ _ hL.sm (Y.1 (eq_of_beq e)))) λe=>?_;have Z:=Y.2 λz=>e (bx.mpr z);exact f7 (λ_=>aH (Z.wk (cL _))) (λ_=>aH (Z.wk (cL _)))
            clear_value vK
            refine f7 (λ_=>f7 (λe=>aH (h _ _ hL.sm (G.1 (eq_of_beq e)))) λe=>J3 _ _ _ ((G.2.1 λz=>e (bx.mpr z)).wk (cL _)) G.2.2) (λe=>J3 _ _ _ (Z.wk (cL _)) ?_)
            simp_all
          clear_value vL
          refine f7 (λ_=>f7 (λe=>aH (h _ _ hL.sm (G.1 (eq_of_beq e)))) λe=>f7 (λe2=>aH (h _ _ hL.sm (G.2.1 (eq_of_beq e2)))) λe2=>J2 _ _ _ (G.2.2.1 (λz=>e (bx.mpr z)) (λz=>e2 (bx.mpr z))) G.2.2.2) (λe=>J2 _ _ _ hL ?_)
          simp_all
        clear_value jp
        exact f7 (λ_=>J _ _) (λ_=>J _ _)
      · rintro⟨c1,o,i,j,mg,ac,bc⟩ fW hL;cases c1 with
        |some z=>exact hL.elim
        |none=>exact hL
      · rintro⟨c1,o,i,j,mg,ac,bc⟩ fW hL;cases c1 with
        |some z=>exact aH hL
        |none=>exact aA (As λgB gO=>aH (LI.ve hL gO))
  · rintro⟨c1,o,i,j,mg⟩ fW hL;cases c1 with
    |some z=>exact hL.elim
    |none=>exact LI.wk hL ()
  · rintro⟨c1,o,i,j,mg⟩ fW hL;cases c1 with
    |some z=>exact aH hL
    |none=>exact(LI.full hL).elim
end
section
variable{prog:Program}{w:World}{A:Around}{E:Value->Shared->Prop}{s:Shared}
noncomputable abbrev ge(p q:Keyed):Prop:=kn q<=kn p
theorem Ak:∀a b c,ge a b->ge b c->ge a c:=λ_ _ _ h1 h2=>fO h2 h1
def rt(xs:Array Keyed)(n:Nat):List Keyed:=(xs.toList.take n).reverse
theorem EM{xs:Array Keyed}{n:Nat}(h:n<xs.size):rt xs (n+1)=xs[n]::rt xs n:=by
 unfold rt;rw[List.take_succ_eq_append_getElem (by simpa using h),Ga];simp
theorem Lw{xs:Array Keyed}{n:Nat}{p:Keyed}(h:p∈rt xs n):p∈xs.toList:=cB (cX.mp h)
theorem Fu(xs:Array Keyed){k n:Nat}(h:k<=n):rt xs n=((xs.toList.drop k).take (n-k)).reverse++rt xs k:=by
 unfold rt;rw[<- Ga]
 congr 1
 have:=bJ k (xs.toList.take n);rw[List.take_take,List.drop_take,ny h] at this;exact this.symm
theorem EN(o xs:Array Keyed)(k n:Nat):(o++(xs.extract k n).reverse).toList=o.toList++((xs.toList.drop k).take (n-k)).reverse:=by
 simp
theorem uH(xs:Array Keyed)(n:Nat):(xs.extract 0 n).toList=(rt xs n).reverse:=by
 simp[rt]
theorem Fn.rev{all l:List Keyed}(h:Fn ge all l):Fn le all l.reverse:=⟨(lG l).trans h.1,fZ.mpr h.2⟩
theorem Zl{xs:Array Keyed}{i:Nat}(h:0<i)(hi:i<xs.size):rt xs i≠[]:=by
 obtain⟨i,rfl⟩:∃m,i=m+1:=⟨i-1,by omega⟩
 rw[EM ()];exact mB _ _
theorem xt(xs:Array Keyed):rt xs xs.size=xs.toList.reverse:=by unfold rt;rw[cv (by simp)]
section
variable{st ba:SortSt}{a b o:Array Keyed}{na nb n t:Nat}{p q:Keyed}
theorem pU{xs:Array Keyed}{n:Nat}{p:Keyed}(h0:0<n)(h:xs[n-1]?=some p):rt xs n=p::rt xs (n-1):=by
 obtain⟨n,rfl⟩:∃m,n=m+1:=⟨n-1,by omega⟩
 obtain⟨hi,rfl⟩:=gX.mp h;exact EM hi
theorem Aa(xs:Array Keyed):rt xs 0=[]:=by simp[rt]
structure HI(st:SortSt)(a b:Array Keyed)(n:Nat)(na nb:Nat)(o:Array Keyed)(ba:SortSt):Prop where
 sm:Sm st ba
 mi:MI ge (a.toList++b.toList) o.toList (rt b nb) (rt a na)
 b1:1<nb
 b2:nb<=b.size
 a1:0<na
 a2:na<=a.size
 ho:n<o.size
theorem hD(hm:MI ge (a.toList++b.toList) o.toList (rt b nb) (rt a na))(h:na=0):Fn le (a.toList++b.toList) (a.extract 0 na++b.extract 0 nb++o.reverse).toList:=by
 subst h;rw[bC,bC,jM,uH,uH,Aa];simpa using hm.e1.rev
theorem hL(hm:MI ge (a.toList++b.toList) o.toList (rt b nb) (rt a na))(h:nb=1)(hb:0<b.size):Fn le (a.toList++b.toList) (b.extract 0 nb++a.extract 0 na++o.reverse).toList:=by
 subst h;have e:rt b 1=[b[0]]:=by rw[EM hb,Aa]
 rw[e] at hm;rw[bC,bC,jM,uH,uH,e];simpa using hm.e2.rev
theorem HI.y(h:HI st a b n na nb o ba)(hp:a[na-1]?=some p)(hq:b[nb-1]?=some q)(hc:kn q<=kn p) :
  (na-1=0->Fn le (a.toList++b.toList) (a.extract 0 (na-1)++b.extract 0 nb++(o.push p).reverse).toList)/\(¬na-1=0->HI st a b (n+1) (na-1) nb (o.push p) ba):=by
 have h1:=h.b1;have h2:=h.a2;have hm:MI ge (a.toList++b.toList) (o.push p).toList (rt b nb) (rt a (na-1)):=by
  have hm:=h.mi;rw[pU () hq] at hm ⊢;rw[pU h.a1 hp] at hm;rw[dE];exact hm.y1 (u:=[p]) λu hu z hz=>by rw[aQ] at hu;subst hu;exact hm.hx Ak hc z hz
 exact⟨λe=>hD hm e,λe=>⟨h.sm,hm,h1,h.b2,by omega,by omega,by rw[jh];have:=h.ho;omega⟩⟩
theorem HI.x(h:HI st a b n na nb o ba)(hp:a[na-1]?=some p)(hq:b[nb-1]?=some q)(hc:kn p<=kn q) :
  (nb-1=1->Fn le (a.toList++b.toList) (b.extract 0 (nb-1)++a.extract 0 na++(o.push q).reverse).toList)/\(¬nb-1=1->HI st a b (n+1) na (nb-1) (o.push q) ba):=by
 have h1:=h.b1;have h2:=h.b2;have hm:MI ge (a.toList++b.toList) (o.push q).toList (rt b (nb-1)) (rt a na):=by
  have hm:=h.mi;rw[pU h.a1 hp] at hm ⊢;rw[pU () hq] at hm;rw[dE];exact hm.x1 (u:=[q]) (λu hu z hz=>by rw[aQ] at hu;subst hu;exact hm.hy Ak hc z hz) (Zl () ())
 exact⟨λe=>hL hm e (),λe=>⟨h.sm,hm,by omega,by omega,h.a1,h.a2,by rw[jh];have:=h.ho;omega⟩⟩
theorem HI.gy(h:HI st a b n na nb o ba)(hq:b[nb-1]?=some q)(h1:t<=na)(h2:∀p∈(a.toList.drop 0).take t,fY false q p=true)(h3:∀p∈(a.toList.drop (0+t)).take (na-t),fY false q p=false) :
  (t=0->Fn le (a.toList++b.toList) (a.extract 0 t++b.extract 0 nb++(o++(a.extract t na).reverse).reverse).toList)/\(¬t=0->HI st a b n t nb (o++(a.extract t na).reverse) ba)/\∀p,0<t->a[t-1]?=some p->kn p<=kn q:=by
 have h4:=h.b1;have h5:=h.a2;rw[Nat.zero_add] at h3;have hm:MI ge (a.toList++b.toList) (o++(a.extract t na).reverse).toList (rt b nb) (rt a t):=by
  have hm:=h.mi;rw[Fu a h1] at hm;rw[EN];refine hm.y1 λp hp z hz=>?_;rw[pU () hq] at hz hm;exact hm.hx Ak (cz (Ae (h3 p (cX.mp hp)))) z hz
 refine⟨λe=>hD hm e,λe=>⟨h.sm,hm,h4,h.b2,by omega,by omega,by rw[iy];have:=h.ho;omega⟩,λp h0 hp=>Dh (h2 p ?_)⟩;have:=pU h0 hp;exact cX.mp (show p∈rt a t by rw[this];exact cZ ..)
theorem HI.gx(h:HI st a b n na nb o ba)(hp:a[na-1]?=some p)(h1:t<=nb)(h2:∀q∈(b.toList.drop 0).take t,fY true p q=true)(h3:∀q∈(b.toList.drop (0+t)).take (nb-t),fY true p q=false) :
  (t=1->Fn le (a.toList++b.toList) (b.extract 0 t++a.extract 0 na++(o++(b.extract t nb).reverse).reverse).toList)/\(t=0->Fn le (a.toList++b.toList) (a.extract 0 na++b.extract 0 t++(o++(b.extract t nb).reverse).reverse).toList) /\
  (¬t=1->¬t=0->HI st a b n na t (o++(b.extract t nb).reverse) ba)/\∀q,0<t->b[t-1]?=some q->kn q<=kn p:=by
 have h4:=h.b1;have h5:=h.b2;rw[Nat.zero_add] at h3;have Y2:∀p∈((b.toList.drop t).take (nb-t)).reverse,∀q∈rt a na,ge p q:=λq hq z hz=>by
  have hm:=h.mi;rw[pU h.a1 hp] at hz hm;exact hm.hy Ak (Ez (h3 q (cX.mp hq))) z hz
 have hm:0<t->MI ge (a.toList++b.toList) (o++(b.extract t nb).reverse).toList (rt b t) (rt a na):=λh0=>by
  have hm:=h.mi;rw[Fu b h1] at hm;rw[EN];refine hm.x1 Y2 λe=>?_;have:=gR List.length e;simp only[rt,List.length_reverse,List.length_take,Array.length_toList,List.length_nil] at this;omega
 refine⟨λe=>hL (hm ()) e (),λe=>?_,λe1 e2=>⟨h.sm,hm (),by omega,by omega,h.a1,h.a2,by rw[iy];have:=h.ho;omega⟩,λq h0 hq=>cz (zV (h2 q ?_))⟩
 ·subst e;have hm:=h.mi;rw[Fu b h1,Aa,dz] at hm;have:=(hm.e0 Y2).rev;rw[bC,bC,jM,EN,uH,uH,Aa]
  simp_all
 ·have:=pU h0 hq;exact cX.mp (show q∈rt b t by rw[this];exact cZ ..)
theorem HI.ex(h:HI st a b n na nb o ba)(hJ:∀p∈a.toList++b.toList,IK p):∃p q,a[na-1]?=some p/\b[nb-1]?=some q/\IK p/\IK q:=by
 have h1:=h.b1;have h2:=h.b2;have h3:=h.a1;have h4:=h.a2;have h5:na-1<a.size:=by omega
 have h6:nb-1<b.size:=by omega
 exact⟨a[na-1],b[nb-1],cy a (na-1) h5,cy b (nb-1) h6,hJ _ (bz _ (by simp)),hJ _ (aW _ (by simp))⟩
theorem HI.ve(h:HI st a b n na nb o ba){gB:SortSt}(q:Sm ba gB):HI st a b n na nb o gB:=⟨h.sm.trans q,h.mi,h.b1,h.b2,h.a1,h.a2,h.ho⟩
theorem HI.wk(h:HI st a b n na nb o ba){m:Nat}(hm:m<=n):HI st a b m na nb o ba:=⟨h.sm,h.mi,h.b1,h.b2,h.a1,h.a2,cY hm h.ho⟩
theorem HI.full(h:HI st a b (a.size+b.size) na nb o ba):False:=by
 have h1:=h.mi.len;have h2:=h.ho;simp only[List.length_append,Array.length_toList] at h1;omega
def HR(st:SortSt)(a b:Array Keyed)(n:Nat)(Q:Array Keyed->SortSt->Prop)(r:Option (Array Keyed))(na nb:Nat)(o:Array Keyed)(ba:SortSt):Prop:=match r with
 |some z=>Q z ba
 |none=>HI st a b n na nb o ba
end
theorem bB5{st:SortSt}{a b:Array Keyed}{Q:Array Keyed->SortSt->Prop}(hk:kindOf st=oneType')(hJ:∀p∈a.toList++b.toList,IK p)(ha:0<a.size)(hb:0<b.size)(sa:a.toList.Pairwise le)(sb:b.toList.Pairwise le)(h0:MI ge (a.toList++b.toList) [] (rt b b.size) (rt a a.size))(hf:∀p∈b.toList,kn p<=kn a[a.size-1])(h:∀z ba,Sm st ba->Fn le (a.toList++b.toList) z.toList->Q z ba):wpS (model prog w) A E s (OQ a b) Q st:=by
  have IA:∀p∈a.toList,IK p:=λp hp=>hJ p (bz _ hp);have IB:∀p∈b.toList,IK p:=λp hp=>hJ p (aW _ hp);have SA:∀x n u v (hv:v<a.size) (mH:u<=v),x<=u->v<x+n->kn a[u]<=kn a[v]:=λ_ _ u v hv mH _ _=>xw sa hv mH;have SB:∀x n u v (hv:v<b.size) (mH:u<=v),x<=u->v<x+n->kn b[u]<=kn b[v]:=λ_ _ u v hv mH _ _=>xw sb hv mH;have tS:a[a.size-1]?=some a[a.size-1]:=cy _ _ _;have h1:MI ge (a.toList++b.toList) (#[a[a.size-1]]:Array Keyed).toList (rt b b.size) (rt a (a.size-1)):=by
    rw[pU ha tS] at h0;refine MI.y1 (o:=[]) (u:=[a[a.size-1]]) h0 ?_;intro p hp q hq;rw[aQ] at hp;subst hp;exact hf q (Lw hq)
  have s0:Sm st st:=⟨rfl,rfl,rfl,rfl⟩
  refine aA (qb (eO ⟨rfl,?_⟩));refine aA (A6 tS ?_);refine f7 (λe=>aH (h _ st s0 (hD h1 (eq_of_beq e)))) λe=>?_;refine f7 (λe2=>aH (h _ st s0 (hL h1 (eq_of_beq e2) hb))) λe2=>?_;have e:¬a.size-1=0:=λz=>e (bx.mpr z);have e2:¬b.size=1:=λz=>e2 (bx.mpr z);refine aA (mS ?_);refine aA (wpS_mono (forR (I:=λn (c:Option (Array Keyed)×Nat×Nat×Array Keyed×Nat)=>HR st a b n nQ c.1 c.2.1 c.2.2.1 c.2.2.2.1) (Q:=λc=>HR st a b (a.size+b.size) Q c.1 c.2.1 c.2.2.1 c.2.2.2.1) ?_ ?_ (show HI st a b 0 (a.size-1) b.size #[a[a.size-1]] st from⟨s0,h1,by omega,by omega,by omega,by omega,by simp⟩)) ?_)
  · rintro n ⟨c1,na,nb,o,mg⟩ fW _ hn hL;cases c1 with
    |some z=>exact hL.elim
    |none =>
    refine aA (wpS_mono (forR (I:=λx (c:Option (Array Keyed)×Nat×Nat×Array Keyed×Nat×Nat)=>HR st a b (n+x) nQ c.1 c.2.1 c.2.2.1 c.2.2.2.1) (Q:=λc=>HR st a b (n+1) Q c.1 c.2.1 c.2.2.1 c.2.2.2.1) ?_ ?_ hL) ?_)
    · rintro x ⟨c1,na,nb,o,ac,bc⟩ fW _ _ hL;cases c1 with
      |some z=>exact hL.elim
      |none =>
      obtain⟨p,q,hp,hq,ip,iq⟩:=hL.ex hJ;refine aA (A6 hq (aA (A6 hp (aA (Ao (hL.sm.1.trans hk) iq ip ?_)))));refine f7 (λhc=>aA (A6 hp ?_)) (λhc=>aA (A6 hq ?_))
      · have Y:=hL.y hp hq (cz (bj hc));refine f7 (λe=>aH (h _ _ hL.sm (Y.1 (eq_of_beq e)))) λe=>?_;have Z:=Y.2 λz=>e (bx.mpr z);exact f7 (λ_=>aH (Z.wk ())) (λ_=>aH Z)
      · have Y:=hL.x hp hq (gW.mp λz=>hc (ay z));refine f7 (λe=>aH (h _ _ hL.sm (Y.1 (eq_of_beq e)))) λe=>?_;have Z:=Y.2 λz=>e (bx.mpr z);exact f7 (λ_=>aH (Z.wk ())) (λ_=>aH Z)
    · rintro⟨c1,na,nb,o,ac,bc⟩ fW hL;cases c1 with
      |some z=>exact hL.elim
      |none=>exact HI.wk hL ()
    · rintro⟨c1,na,nb,o,ac,bc⟩ fW hL;cases c1 with
      |some z=>exact aH hL
      |none =>
      refine aA (qb (eO ⟨rfl,?_⟩));refine aA (wpS_mono (forR (I:=λx (c:Option (Array Keyed)×Nat×Nat×Array Keyed×Nat×Nat×Nat)=>HR st a b (n+1) nQ c.1 c.2.1 c.2.2.1 c.2.2.2.1) (Q:=λc=>HR st a b (n+1) Q c.1 c.2.1 c.2.2.1 c.2.2.2.1) ?_ ?_ hL) ?_)
      · rintro x ⟨c1,na,nb,o,mg,ac,bc⟩ fW _ _ hL;cases c1 with
        |some z=>exact hL.elim
        |none =>
        replace hL:HI st a b (n+1) na nb o fW:=hL
        lift_lets
        intro s1 GO s2 GN s3 out s4 OO s5 ac1 V' GL jp;have e1:na=GO:=rfl;have e2:nb=GN:=rfl;have e3:o=out:=rfl;have e4:nb-1=GL:=rfl
        clear_value GO GN out GL
        subst e1 e2 e3 e4;have J:∀u m,wpS (model prog w) A E s (jp u m) (fs (λc=>HR st a b (n+1) Q c.1 c.2.1 c.2.2.1 c.2.2.2.1) (λc=>HR st a b (n+1) nQ c.1 c.2.1 c.2.2.1 c.2.2.2.1)) fW:=by
          intro u m;refine aA (As (g:=m) λgB gO=>?_)
          replace hL:=hL.ve gO
          obtain⟨p,q,hp,hq,ip,iq⟩:=hL.ex hJ;refine aA (A6 hq ?_);refine aA (uu (hL.sm.1.trans hk) iq IA (SA _ _) (by have:=hL.a2;omega) (by have:=hL.a1;omega) λk lY kX lX=>?_);have G:=hL.gy hq lY kX lX;clear kX lX hp ip;dsimp -zeta -zetaHave only
          lift_lets
          intro k2 ac2 vL Bb na2;have J2:∀u na o,HI st a b (n+1) na nb o gB->(∀p,0<na->a[na-1]?=some p->kn p<=kn q)->wpS (model prog w) A E s (vL u na o) (fs (λc=>HR st a b (n+1) Q c.1 c.2.1 c.2.2.1 c.2.2.2.1) (λc=>HR st a b (n+1) nQ c.1 c.2.1 c.2.2.1 c.2.2.2.1)) gB:=by
            intro u na o hL hc;obtain⟨p,q2,hp,_,ip,_⟩:=hL.ex hJ;have Y:=hL.x hp hq (hc p hL.a1 hp);refine aA (A6 hq ?_);refine f7 (λe=>aH (h _ _ hL.sm (Y.1 (eq_of_beq e)))) λe=>?_;have Z:=Y.2 λz=>e (bx.mpr z);refine aA (A6 hp ?_);refine aA (uu (hL.sm.1.trans hk) ip IB (SB _ _) (by have:=Z.b2;omega) (by have:=Z.b1;omega) λk lY kX lX=>?_);have G:=Z.gx hp lY kX lX;dsimp -zeta -zetaHave only
            lift_lets
            intro k3 VZ vK Ba nb3;have J3:∀u nb o,HI st a b (n+1) na nb o gB->(∀q,0<nb->b[nb-1]?=some q->kn q<=kn p)->wpS (model prog w) A E s (vK u nb o) (fs (λc=>HR st a b (n+1) Q c.1 c.2.1 c.2.2.1 c.2.2.2.1) (λc=>HR st a b (n+1) nQ c.1 c.2.1 c.2.2.1 c.2.2.2.1)) gB:=by
              intro u nb o hL hc;obtain⟨p2,q,_,hq,_,_⟩:=hL.ex hJ;have Y:=hL.y hp hq (hc q (by have:=hL.b1;omega) hq);refine aA (A6 hp ?_);refine f7 (λe=>aH (h _ _ hL.sm (Y.1 (eq_of_beq e)))) λe=>?_;have Z:=Y.2 λz=>e (bx.mpr z);exact f7 (λ_=>aH (Z.wk (cL _))) (λ_=>aH (Z.wk (cL _)))
            clear_value vK
            refine f7 (λ_=>f7 (λe=>aH (h _ _ hL.sm (G.1 (eq_of_beq e)))) λe=>f7 (λe2=>aH (h _ _ hL.sm (G.2.1 (eq_of_beq e2)))) λe2=>J3 _ _ _ ((G.2.2.1 (λz=>e (bx.mpr z)) (λz=>e2 (bx.mpr z))).wk (cL _)) G.2.2.2) (λe=>J3 _ _ _ (Z.wk (cL _)) ?_);have e:k=nb-1:=by omega
            subst e;exact G.2.2.2
          clear_value vL
          refine f7 (λ_=>f7 (λe=>aH (h _ _ hL.sm (G.1 (eq_of_beq e)))) λe=>J2 _ _ _ (G.2.1 (λz=>e (bx.mpr z))) G.2.2) (λe=>J2 _ _ _ hL ?_);have e:k=na:=by omega
          subst e;exact G.2.2
        clear_value jp
        exact f7 (λ_=>J _ _) (λ_=>J _ _)
      · rintro⟨c1,na,nb,o,mg,ac,bc⟩ fW hL;cases c1 with
        |some z=>exact hL.elim
        |none=>exact hL
      · rintro⟨c1,na,nb,o,mg,ac,bc⟩ fW hL;cases c1 with
        |some z=>exact aH hL
        |none=>exact aA (As λgB gO=>aH (HI.ve hL gO))
  · rintro⟨c1,na,nb,o,mg⟩ fW hL;cases c1 with
    |some z=>exact hL.elim
    |none=>exact HI.wk hL ()
  · rintro⟨c1,na,nb,o,mg⟩ fW hL;cases c1 with
    |some z=>exact aH hL
    |none=>exact(HI.full hL).elim
end
def seg(l:List Keyed)(s n:Nat):List Keyed:=(l.drop s).take n
theorem C3{l:List Keyed}{s n:Nat}(h:s+n<=l.length):(seg l s n).length=n:=by simp[seg];omega
theorem Z3(l:List Keyed)(s n k:Nat):(seg l s n)[k]?=if k<n then l[s+k]? else none:=by
 unfold seg;rw[NX];split<;>simp
theorem DF(l:List Keyed)(s n m:Nat):seg l s (n+m)=seg l s n++seg l (s+n) m:=by
 unfold seg;rw[List.take_add,gU]
theorem Eg{l l':List Keyed}{s n:Nat}(h:∀k,s<=k->k<s+n->l'[k]?=l[k]?):seg l' s n=seg l s n:=by
 apply bN;intro k;rw[Z3,Z3]
 grind
def put(l:List Keyed)(s:Nat)(m:List Keyed):List Keyed:=l.take s++(m++l.drop (s+m.length))
theorem P1{l:List Keyed}{s:Nat}{m:List Keyed}(h:s+m.length<=l.length)(k:Nat):(put l s m)[k]?=if s<=k/\k<s+m.length then m[k-s]? else l[k]?:=by
 unfold put;rw[AF,dS,ny ()];by_cases h1:k<s
 ·rw[aG h1,aD (),NX,aG h1]
 ·rw[aD h1,AF];by_cases h2:k-s<m.length
  ·rw[aG h2,aG ()]
  ·rw[aD h2,aD (),List.getElem?_drop];congr 1;omega
theorem UR{l:List Keyed}{s:Nat}{m:List Keyed}(h:s+m.length<=l.length):seg (put l s m) s m.length=m:=by
 apply bN;intro k;rw[Z3,P1 h];by_cases hk:k<m.length
 ·grind
 simp_all
theorem a91{l:List Keyed}{s:Nat}{m:List Keyed}(h:m.Perm (seg l s m.length)):(put l s m).Perm l:=by
 have e:l=l.take s++(seg l s m.length++l.drop (s+m.length)):=by
  unfold seg;rw[<- gU,bJ,bJ]
 conv=>rhs;rw[e]
 exact eI _ (fN _ h)
theorem MW:∀(m:List Keyed) (s j:Nat) (a:Array Keyed),s+j+m.length<=a.size->((m.zipIdx j).foldl (λa (p:Keyed×Nat)=>a.setIfInBounds (s+p.2) p.1) a).toList=put a.toList (s+j) m
 |[],s,j,a,h=>by simp[put]
 |p::m,s,j,a,h=>by
  rw[List.zipIdx_cons,List.foldl_cons,MW m s (j+1) _ (by grind)];have h1:s+j+(p::m).length<=a.toList.length:=by simpa using h
  have h2:s+(j+1)+m.length<=(a.setIfInBounds (s+j) p).toList.length:=by grind
  apply bN;intro k;rw[P1 h1,P1 h2];simp only[Array.toList_setIfInBounds,List.getElem?_set,List.length_cons,Array.length_toList] at h ⊢;by_cases h3:s+(j+1)<=k/\k<s+(j+1)+m.length
  ·rw[aG h3,aG (),show k-(s+j)=(k-(s+(j+1)))+1 by omega,List.getElem?_cons_succ]
  ·rw[aD h3];by_cases e:s+j=k
   ·subst e;rw[aG rfl,aG (),aG (),Nat.sub_self];rfl
   ·rw[aD e,aD ()]
theorem a89{l z:List Keyed}{s k r:Nat}(h:s+k+z.length+r<=l.length):put l (s+k) z=put l s (seg l s k++(z++seg l (s+k+z.length) r)):=by
 have e:(seg l s k++(z++seg l (s+k+z.length) r)).length=k+z.length+r:=by
  rw[bI,bI,C3 (),C3 ()];omega
 have e2:l.drop (s+k+z.length)=seg l (s+k+z.length) r++l.drop (s+(k+z.length+r)):=by
  unfold seg;rw[show s+(k+z.length+r)=s+k+z.length+r by omega,<- gU (i:=r),bJ]
 unfold put;rw[e,List.take_add,e2];simp only[seg,List.append_assoc]
theorem Uk{a1 a2 b1 b2 m:List Keyed}(sa:(a1++a2).Pairwise le)(sb:(b1++b2).Pairwise le)(hm:Fn le (a2++b1) m)(h1:∀p∈a1,∀q∈b1++b2,le p q)(h2:∀p∈a2,∀q∈b2,le p q):(a1++(m++b2)).Pairwise le:=by
 obtain⟨x1,x2,x3⟩:=aV.mp sa;obtain⟨y1,y2,y3⟩:=aV.mp sb;have mm:∀p∈m,p∈a2\/p∈b1:=λp hp=>aR.mp (hm.1.mem_iff.mp hp);refine aV.mpr ⟨x1,aV.mpr ⟨hm.2,y2,λp hp q hq=>?_⟩,λp hp q hq=>?_⟩
 ·rcases mm p hp with hp|hp
  ·exact h2 p hp q hq
  ·exact y3 p hp q hq
 ·rcases aR.mp hq with hq|hq
  ·rcases mm q hq with hq|hq
   ·exact x3 p hp q hq
   ·exact h1 p hp q (bz _ hq)
  ·exact h1 p hp q (aW _ hq)
def GS:Nat->StateT SortSt Sem Bool:=sortPriv% PySem.Builtin.mergeAt
section
variable{prog:Program}{w:World}{A:Around}{E:Value->Shared->Prop}{s:Shared}
theorem VC{U:Type}{M:Model}{x st:U}{Q:PUnit->U->Prop}(h:Q ⟨⟩ x):wpS M A E s (set x:StateT U Sem PUnit) Q st:=by
 exact au ⟨rfl,h⟩
theorem bB6{st:SortSt}{i sa na pw sb nb tK:Nat}{Q:Bool->SortSt->Prop}(hk:kindOf st=oneType')(BR:failedOf st=none)(hJ:∀p∈(arrOf st).toList,IK p)(e1:(pendingOf st)[i]?=some (sa,na,pw))(e2:(pendingOf st)[i+1]?=some (sb,nb,tK))(Ro:sb=sa+na)(hn:sb+nb<=(arrOf st).size)(QV:0<na)(h0b:0<nb)(ha:(seg (arrOf st).toList sa na).Pairwise le)(hb:(seg (arrOf st).toList sb nb).Pairwise le)(h:∀ ba m,m.length=na + nb->m.Pairwise le->m.Perm (seg (arrOf st).toList sa (na + nb))->kindOf ba=oneType'->failedOf ba=none->(arrOf ba).toList=put (arrOf st).toList sa m ->
   pendingOf ba=((pendingOf st).setIfInBounds i (sa,na + nb,pw)).eraseIdxIfInBounds (i + 1)->Q true ba):wpS (model prog w) A E s (GS i) Q st:=by
 obtain⟨kd,X,pd,mg,fl⟩:=st;dsimp only[arrOf,kindOf,pendingOf,failedOf] at *;subst hk BR;refine aA (mS ?_);rw[e1,e2];refine aA (m:=set _) (VC ?_);have hsz:X.toList.length=X.size:=by simp
 have tY:sb<X.size:=by omega
 refine aA (A6 (p:=X[sb]) (cy _ sb tY) ?_);have IX:∀t (ht:t<X.size),IK X[t]:=λt ht=>hJ _ (by simp);have yi:∀u n,u+n<=X.size->(seg X.toList u n).Pairwise le->∀i j (hj:j<X.size) (jF:i<=j),u<=i->j<u+n->kn X[i]<=kn X[j]:=by
  intro u n hun hp i j hj jF h1 h2;by_cases e:i=j
  ·subst e;exact gw _
  ·have l1:=C3 (l:=X.toList) (s:=u) (n:=n) ();have:=cM.mp hp (i-u) (j-u) () () ();simp only[seg,List.getElem_take,List.getElem_drop,show u+(i-u)=i by omega,show u+(j-u)=j by omega,Array.getElem_toList] at this;exact this
 refine aA (uu (xs:=X) rfl (IX sb tY) hJ (yi sa na () ha) () QV λk lY kX lX=>?_);have ea:seg X.toList sa na=seg X.toList sa k++seg X.toList (sa+k) (na-k):=by rw[<- DF];congr 1;omega
 have wN:seg X.toList sa (na+nb)=seg X.toList sa na++seg X.toList sb nb:=by rw[DF,Ro]
 have iA:∀q∈seg X.toList sb nb,kn X[sb]<=kn q:=by
  intro q hq;obtain⟨t,ht,rfl⟩:=bo.mp hq;rw[C3 ()] at ht;simp only[seg,List.getElem_take,List.getElem_drop,Array.getElem_toList];exact yi sb nb hn hb sb (sb+t) () () () ()
 have X1:∀p∈seg X.toList sa k,∀q∈seg X.toList sb nb,le p q:=λp hp q hq=>fO (Dh (kX p hp)) (iA q hq);have keep:(∀p∈seg X.toList (sa+k) (na-k),∀q∈seg X.toList sb nb,le p q)->∀ba,kindOf ba=oneType'->failedOf ba=none->arrOf ba=X->pendingOf ba=(pd.setIfInBounds i (sa,na+nb,pw)).eraseIdxIfInBounds (i+1)->Q true ba:=by
  intro hc ba g1 g2 g3 g4;have l2:(seg X.toList sa (na+nb)).length=na+nb:=C3 ();refine h ba (seg X.toList sa (na+nb)) l2 ?_ (oR _) g1 g2 ?_ g4
  ·rw[wN];refine aV.mpr ⟨ha,hb,λp hp q hq=>?_⟩;rw[ea] at hp;rcases aR.mp hp with hp|hp
   ·exact X1 p hp q hq
   ·exact hc p hp q hq
  ·show(arrOf ba).toList=_;rw[g3];unfold put;rw[l2];unfold seg;rw[<- gU,bJ,bJ]
 refine f7 (λhe=>?_) (λhe=>?_)
 ·have he:na-k=0:=by simpa using he
  refine aH (keep (λp hp=>?_) _ rfl rfl rfl rfl);rw[he] at hp;simp[seg] at hp
 have Hq:0<na-k:=by simp at he;omega
 rw[show sa+k+(na-k)-1=sb-1 by omega];have tS:sb-1<X.size:=by omega
 refine aA (A6 (p:=X[sb-1]) (cy X (sb-1) tS) ?_);refine aA (uu (xs:=X) rfl (IX _ tS) hJ (yi sb nb hn hb) hn () λt ht1 Hf Pj=>?_);have yO:∀p∈seg X.toList (sa+k) (na-k),kn p<=kn X[sb-1]:=by
  intro q hq;obtain⟨u,hu,rfl⟩:=bo.mp hq;rw[C3 ()] at hu;simp only[seg,List.getElem_take,List.getElem_drop,Array.getElem_toList];exact yi sa na () ha (sa+k+u) (sb-1) tS () () ()
 have eb:seg X.toList sb nb=seg X.toList sb t++seg X.toList (sb+t) (nb-t):=by rw[<- DF];congr 1;omega
 have X2:∀p∈seg X.toList (sa+k) (na-k),∀q∈seg X.toList (sb+t) (nb-t),le p q:=λp hp q hq=>fO (yO p hp) (Ez (Pj q hq));dsimp only;refine f7 (λhe=>?_) (λhe=>?_)
 ·have he:t=0:=by simpa using he
  subst he;refine aH (keep (λp hp q hq=>?_) _ rfl rfl rfl rfl);exact X2 p hp q hq
 have ht:0<t:=by grind
 have pH:(X.extract (sa+k) sb).toList=seg X.toList (sa+k) (na-k):=by
  rw[jN,List.extract_eq_drop_take];congr 1;omega
 have pG:(X.extract sb (sb+t)).toList=seg X.toList sb t:=by
  rw[jN,List.extract_eq_drop_take];congr 1;omega
 rw[ea] at ha;rw[eb] at hb;have s1:=(aV.mp ha).2.1;have s2:=(aV.mp hb).1;have z1:(X.extract (sa+k) sb).size=na-k:=by simp;omega
 have z2:(X.extract sb (sb+t)).size=t:=by simp;omega
 have sub:∀u n p,p∈seg X.toList u n->IK p:=λu n p hp=>hJ p (AE (cB hp));have Ha:∀p∈(X.extract (sa+k) sb).toList++(X.extract sb (sb+t)).toList,IK p:=by
  rw[pH,pG];intro p hp;rcases aR.mp hp with hp|hp
  ·exact sub _ _ p hp
  ·exact sub _ _ p hp
 have y0:∀h,kn ((X.extract sb (sb+t))[0]'h)=kn X[sb]:=λh=>by simp
 have xl:∀h,kn ((X.extract (sa+k) sb)[(X.extract (sa+k) sb).size-1]'h)=kn X[sb-1]:=λh=>by
  simp only[Array.getElem_extract];congr 2;omega
 have lst:∀z,(seg X.toList (sa+k) (na-k)).getLast?=some z->kn z=kn X[sb-1]:=by
  intro z hz;rw[List.getLast?_eq_getElem?,C3 (),Z3,aG (),show sa+k+(na-k-1)=sb-1 by omega,ag ()] at hz;cases hz;simp
 refine f7 (λhc=>?_) (λhc=>?_);refine aA (bB4 rfl Ha () () ⟨oR _,List.Pairwise.nil,by rw[pH];exact s1,by rw[pG];exact s2,λp hp=>absurd hp mx,λq hq z hz=>?_⟩ (λp hp=>?_) λz ba hs hz=>?_)
 ·rw[pH] at hz;rw[pG] at hq;show kn q<=kn z;rw[lst z hz];exact cz (zV (Hf q hq))
 ·rw[pH] at hp;rw[y0];exact cz (Ae (lX p hp))
 rotate_left
 refine aA (bB5 rfl Ha () () (by rw[pH];exact s1) (by rw[pG];exact s2) ⟨?_,List.Pairwise.nil,?_,?_,λp hp=>absurd hp mx,λq hq z hz=>?_⟩ (λp hp=>?_) λz ba hs hz=>?_)
 ·rw[xt,xt,List.nil_append];exact(List.Perm.append (lG _) (lG _)).trans ju
 ·rw[xt,pG];exact fZ.mpr s2
 ·rw[xt,pH];exact fZ.mpr s1
 ·have hq:=Lw hq;rw[pH] at hq;rw[xt,List.getLast?_reverse,pG,List.head?_eq_getElem?,Z3,aG ht,ag ()] at hz;cases hz;exact cz (by simpa using Ae (lX q hq))
 ·rw[pG] at hp;rw[xl];exact cz (zV (Hf p hp))
 all_goals
  refine aA (mR (aA (mS (aH ?_))));show Q (failedOf ba).isNone _;rw[hs.2.2.2];have OY:z.toList.length=na-k+t:=by rw[hz.1.length_eq,bI,pH,pG,C3 (),C3 ()]
  rw[pH,pG] at hz;have hA:(seg X.toList sa k).length=k:=C3 ();have hB:(seg X.toList (sb+t) (nb-t)).length=nb-t:=C3 ();refine h _ (seg X.toList sa k++(z.toList++seg X.toList (sb+t) (nb-t))) (by rw[bI,bI,hA,hB];omega) (Uk ha hb hz (by rw[<- eb];exact X1) X2) ?_ hs.1 hs.2.2.2 ?_ hs.2.2.1
  ·rw[wN,ea,eb,bS];refine eI _ ?_;rw[<- bS];exact fN _ hz.1
  ·have:=MW z.toList (sa+k) 0 (arrOf ba) (by rw[hs.2.1];show sa+k+0+_<=X.size;omega);refine Eq.trans this ?_;rw[hs.2.1];have:=a89 (l:=X.toList) (z:=z.toList) (s:=sa) (k:=k) (r:=nb-t) ();rw[show sa+k+z.toList.length=sb+t by omega] at this;exact this
end
structure Nr(st ba:SortSt)(lo hi:Nat):Prop where
 kd:kindOf ba=oneType'
 fl:failedOf ba=none
 pd:pendingOf ba=pendingOf st
 pm:(arrOf ba).Perm (arrOf st)
 out:∀k,k<lo\/hi<=k->(arrOf ba)[k]?=(arrOf st)[k]?
theorem Nr.arr{st ba:SortSt}{lo hi:Nat}(h:Nr st ba lo hi){xs:Array Keyed}(hp:xs.Perm (arrOf ba))(ho:∀k,k<lo\/hi<=k->xs[k]?=(arrOf ba)[k]?):Nr st (setArr ba xs) lo hi :=
 ⟨h.kd,h.fl,h.pd,hp.trans h.pm,λk hk=>(ho k hk).trans (h.out k hk)⟩
def SB(xs:Array Keyed)(lo m:Nat):Prop:=∀i j,lo<=i->i<=j->j<lo+m->K xs i<=K xs j
def ND(xs:Array Keyed)(lo m:Nat):Prop:=∀i j,lo<=i->i<=j->j<lo+m->K xs j<=K xs i
theorem SB.one(xs:Array Keyed)(lo:Nat):SB xs lo 1:=λi j a b c=>by
 grind
theorem SB.more{xs:Array Keyed}{lo x:Nat}(h:SB xs lo x)(h0:0<x)(hc:¬K xs (lo+x)<K xs (lo+x-1)):SB xs lo (x+1):=by
 intro i j h1 h2 h3;by_cases hj:j<lo+x
 ·exact h i j h1 h2 hj
 ·have:j=lo+x:=by omega
  subst this;by_cases hi:i=lo+x
  ·subst hi;exact gw _
  ·exact fO (h i (lo+x-1) h1 () ()) (gW.mp hc)
theorem ND.more{xs:Array Keyed}{lo x:Nat}(h:ND xs lo x)(h0:0<x)(hc:K xs (lo+x)<=K xs (lo+x-1)):ND xs lo (x+1):=by
 intro i j h1 h2 h3;by_cases hj:j<lo+x
 ·exact h i j h1 h2 hj
 ·have:j=lo+x:=by omega
  subst this;by_cases hi:i=lo+x
  ·subst hi;exact gw _
  ·exact fO hc (h i (lo+x-1) h1 () ())
theorem ND.same{xs ys:Array Keyed}{lo m:Nat}(h:ND xs lo m)(hk:∀k,K ys k=K xs k):ND ys lo m:=λi j a b c=>by rw[hk,hk];exact h i j a b c
section
variable{prog:Program}{w:World}{A:Around}{E:Value->Shared->Prop}{s:Shared}
theorem Jz{xs:Array Keyed}{i:Nat}(hi:i<xs.size)(hk:IK xs[i]):∃t q,xs[i]?=some (.int (K xs i) t,q):=by
 obtain⟨n,t,e⟩:=hk;refine⟨t,xs[i].2,?_⟩;have e2:xs[i]?=some xs[i]:=cy _ i hi;have e3:xs[i]=(.int n t,xs[i].2):=Prod.ext e rfl;unfold K;rw[e2,e3]
 rfl
theorem vD{st:SortSt}{i j:Nat}{Q:Option Bool->SortSt->Prop}(hk:kindOf st=oneType')(h0:∀p∈(arrOf st).toList,IK p)(hi:i<(arrOf st).size)(hj:j<(arrOf st).size)(h:Q (some (decide (K (arrOf st) i<K (arrOf st) j))) st) :
  wpS (model prog w) A E s (ltAt' i j) Q st:=by
 obtain⟨t,p,e1⟩:=Jz hi (h0 _ (by simp));obtain⟨u,q,e2⟩:=Jz hj (h0 _ (by simp));exact wpS_ltAt hk e1 e2 h
theorem ZS{st:SortSt}{lo n ok:Nat}{Q:Bool->SortSt->Prop}(hk:kindOf st=oneType')(hf:failedOf st=none)(h0:∀p∈(arrOf st).toList,IK p)(hn:lo+n<=(arrOf st).size)(bY:ok<=n)(hs:SB (arrOf st) lo ok)(h:∀ba,Nr st ba lo (lo+n)->SB (arrOf ba) lo n->Q true ba):wpS (model prog w) A E s (binarySort' lo n ok) Q st:=by
 refine aA (wpS_mono (dI (I:=λk (c:Option Bool × Unit) ba=>c=(none,Unit.unit)/\Nr st ba lo (lo + n)/\SB (arrOf ba) lo (min k n))
  (Q:=λc ba=>c=(none,Unit.unit)/\Nr st ba lo (lo + n)/\SB (arrOf ba) lo n) ?_ ?_ ⟨rfl,⟨hk,hf,rfl,nA _,λ_ _=>rfl⟩,?_⟩) ?_)
 ·rintro k c ba hak hkn ⟨rfl,hN,iO⟩;rw[show min k n=k by omega] at iO;have hsz:(arrOf ba).size=(arrOf st).size:=hN.pm.size_eq;have uf:∀p∈(arrOf ba).toList,IK p:=λp hp=>h0 p ((bX.mp hN.pm).mem_iff.mp hp);refine aA (wpS_mono (dI (I:=λx (c:Option Bool × Nat × Nat) iD=>iD=ba/\c.1=none/\c.2.1 <= c.2.2/\c.2.2 <= k/\c.2.2 - c.2.1 <= k - x /\
    (∀ i,lo <= i->i < lo + c.2.1->K (arrOf ba) i <= K (arrOf ba) (lo + k))/\(∀ i,lo + c.2.2 <= i->i < lo + k->K (arrOf ba) (lo + k) < K (arrOf ba) i))
   (Q:=λc iD=>iD=ba/\c.1=none/\c.2.1<=k/\(∀i,lo<=i->i<lo+c.2.1->K (arrOf ba) i<=K (arrOf ba) (lo+k))/\(∀i,lo+c.2.1<=i->i<lo+k->K (arrOf ba) (lo+k)<K (arrOf ba) i)) ?_ ?_
   ⟨rfl,rfl,bW _,aw _,aw _,λi h1 h2=>absurd h2 (by grind),λi h1 h2=>absurd h2 (by grind)⟩) ?_)
  ·rintro x ⟨c1,l,r⟩ iD _ hx ⟨rfl,rfl,q1,q2,q3,q4,q5⟩;dsimp only at q1 q2 q3 q4 q5;refine f7 (λly=>?_) (λly=>?_)
   ·have:l=r:=by grind
    subst this;exact aH ⟨rfl,rfl,q2,q4,q5⟩
   ·have ly:l<r:=by simp_all
    refine aA (vD hN.kd uf () (by grind) ?_);refine f7 (λhc=>?_) (λhc=>?_)
    ·have hc:=bj hc;exact aH ⟨rfl,rfl,by grind,by dsimp only;omega,by dsimp only;omega,q4,λi h1 h2=>Int.lt_of_lt_of_le hc (iO _ _ () h1 h2)⟩
    ·have hc:=gW.mp λz=>hc (ay z);exact aH ⟨rfl,rfl,by grind,q2,by dsimp only;omega,λi h1 h2=>fO (iO i (lo+(l+r) / 2) h1 (by grind) ()) hc,q5⟩
  ·grind
  ·rintro⟨c1,l,r⟩ iD ⟨rfl,rfl,q1,q2,q3⟩;dsimp only at q1 q2 q3 ⊢;have wb:lo+k<(arrOf iD).size:=by omega
   refine aA (mR (aH ⟨rfl,hN.arr (bubble_perm _ (lo+k) (lo+k-(lo+l))) (λt ht=>?_),?_⟩))
   ·show(bubble (arrOf iD) (lo+k) (lo+k-(lo+l)))[t]?=_;rw[getElem?_bubble wb _ (),aD (),aD ()]
   ·intro i j h1 jF hj;show K (bubble (arrOf iD) (lo+k) (lo+k-(lo+l))) i<=K (bubble (arrOf iD) (lo+k) (lo+k-(lo+l))) j;rw[K_bubble wb (),K_bubble wb (),show lo+k-(lo+k-(lo+l))=lo+l by omega]
    repeat' split
    all_goals first
     |(exfalso;omega)
     |exact gw _
     |exact q2 _ () ()
     |exact cz (q3 _ () ())
     |exact iO _ _ () () ()
 ·rintro c ba ⟨rfl,hN,iO⟩;refine⟨rfl,hN,?_⟩
  grind
 ·intro i j h1 jF hj;by_cases e:ok=0
  ·grind
  ·exact hs i j h1 jF ()
 ·rintro c ba ⟨rfl,hN,iO⟩;exact aH (h ba hN iO)
theorem Nr.yt{st ba:SortSt}{lo hi i j:Nat}(h:Nr st ba lo hi)(h1:lo<=i)(h2:j<=hi)(h3:j<=(arrOf ba).size):Nr st (setArr ba (mirror (arrOf ba) i j ((j-i) / 2))) lo hi :=
 h.arr (mirror_perm _ _ _ _) λk hk=>by rw[getElem?_mirror_all h3,aD ()]
theorem Sz{st:SortSt}{lo gY:Nat}{Q:Option Nat->SortSt->Prop}(hk:kindOf st=oneType')(hf:failedOf st=none)(h0:∀p∈(arrOf st).toList,IK p)(hn:lo+gY<=(arrOf st).size)(h1:1<=gY)(h:∀m ba,Nr st ba lo (lo+gY)->1<=m->m<=gY->SB (arrOf ba) lo m->Q (some m) ba):wpS (model prog w) A E s (countRun' lo gY) Q st:=by
 have asc:∀ba n,Nr st ba lo (lo+gY)->1<=n->n<=gY->SB (arrOf ba) lo n->∀(F:Nat->Option (Option Nat)×Nat->StateT SortSt Sem (ForInStep (Option (Option Nat)×Nat))),
   (F=λ_ c=>ltAt' (lo + c.2) (lo + c.2 - 1) >>= λr=>match r with
    |some b=>if b=true then pure (.done (none,c.2)) else pure (.yield (none,c.2+1))
    | x=>pure (.done (some none,c.2))) ->
   wpS (model prog w) A E s (forIn [n:gY] (none,n) F) (λc iD=>iD=ba/\c.1=none/\1<=c.2/\c.2<=gY/\SB (arrOf ba) lo c.2/\(c.2=gY\/K (arrOf ba) (lo+c.2)<K (arrOf ba) (lo+c.2-1))) ba:=by
  intro ba n hN h2 h3 hs F e;subst e;have hsz:(arrOf ba).size=(arrOf st).size:=hN.pm.size_eq;have uf:∀p∈(arrOf ba).toList,IK p:=λp hp=>h0 p ((bX.mp hN.pm).mem_iff.mp hp);refine dI (I:=λx c iD=>iD=ba/\c=(none,x)/\1<=x/\SB (arrOf ba) lo x) ?_ ?_ ⟨rfl,rfl,h2,hs⟩
  ·rintro x c iD HN Hd ⟨rfl,rfl,q1,q2⟩;refine aA (vD hN.kd uf () () ?_);refine f7 (λhc=>?_) (λhc=>?_)
   ·exact aH ⟨rfl,rfl,q1,by grind,q2,.inr (bj hc)⟩
   ·exact aH ⟨rfl,rfl,by omega,q2.more () λz=>hc (ay z)⟩
  grind
 have N0:Nr st st lo (lo+gY):=⟨hk,hf,rfl,nA _,λ_ _=>rfl⟩
 refine aA (wpS_mono (asc st 1 N0 (aw _) h1 (SB.one _ _) _ rfl) ?_);rintro⟨c1,n⟩ fW ⟨rfl,rfl,yE,nk,hs,Hn⟩;dsimp only at yE nk hs Hn ⊢;refine f7 (λhe=>aH (h n fW N0 yE nk hs)) (λhe=>?_);have hnn:n<gY:=by grind
 have dY:K (arrOf fW) (lo+n)<K (arrOf fW) (lo+n-1):=Hn.resolve_left ();refine f7 (λhg=>?_) (λhg=>?_);refine aA (vD hk h0 () () ?_);refine f7 (λhc=>aH (h n fW N0 yE nk hs)) (λhc=>?_);have hc:=gW.mp λz=>hc (ay z);have lQ:∀k,lo<=k->k<lo+n->K (arrOf fW) k=K (arrOf fW) (lo+n-1):=by
  intro k lY kX;have a1:=hs lo k (aw _) lY kX;have a2:=hs k (lo+n-1) lY () ();omega
 refine aA (wpS_reverse ?_);have hN:=N0.yt (i:=lo) (j:=lo+n) (aw _) () ();have hD:ND (arrOf (setArr fW (mirror (arrOf fW) lo (lo+n) ((lo+n-lo) / 2)))) lo (n+1):=by
  refine ND.more (x:=n) (ND.same (xs:=arrOf fW) (λi j a b c=>?_) λk=>jV () lQ k) () ?_
  ·rw[lQ i a (),lQ j () c];exact gw _
  ·rw[jV () lQ,jV () lQ];exact cz dY
 rotate_left
 have BC:n=1:=by omega
 subst BC;have hN:=N0;have hD:ND (arrOf fW) lo (1+1):=ND.more (x:=1) (λi j a b c=>by grind) ∅ (cz dY)
 all_goals
  refine aA (qb (eO ⟨rfl,?_⟩));refine aA (wpS_mono (dI (I:=λx (c:Option (Option Nat) × Nat × Nat) ba=>c.1=none/\c.2.1=x/\Nr fW ba lo (lo + gY)/\ND (arrOf ba) lo x/\c.2.2 + 1 <= x/\∀ i,lo + x - (c.2.2 + 1) <= i->i < lo + x->K (arrOf ba) i=K (arrOf ba) (lo + x - 1))
   (Q:=λc ba=>c.1=none/\1<=c.2.1/\c.2.1<=gY/\Nr fW ba lo (lo+gY)/\ND (arrOf ba) lo c.2.1/\c.2.2+1<=c.2.1/\∀i,lo+c.2.1-(c.2.2+1)<=i->i<lo+c.2.1->K (arrOf ba) i=K (arrOf ba) (lo+c.2.1-1)) ?_ ?_
   ⟨rfl,rfl,hN,hD,by dsimp only;omega,λi a b=>by dsimp only at a;congr 1;omega⟩) ?_)
  ·rintro x ⟨c1,c2,q⟩ ba HN Hd ⟨rfl,rfl,mh,iO,hq,lz⟩;dsimp only at HN Hd iO hq lz ⊢;have hsz:(arrOf ba).size=(arrOf fW).size:=mh.pm.size_eq;have uf:∀p∈(arrOf ba).toList,IK p:=λp hp=>h0 p ((bX.mp mh.pm).mem_iff.mp hp);refine aA (vD mh.kd uf (by rw[hsz];omega) (by rw[hsz];omega) ?_);refine f7 (λhc=>?_) (λhc=>?_)
   ·have hm:=iO.more () (cz (bj hc));refine f7 (λhg=>?_) (λhg=>?_)
    ·exact aA (wpS_reverse (aH ⟨rfl,rfl,mh.yt () () (by rw[hsz];omega),hm.same λk=>jV (by rw[hsz];omega) lz k,by dsimp only;omega,λi a b=>by dsimp only at a;congr 1;omega⟩))
    ·exact aH ⟨rfl,rfl,mh,hm,by dsimp only;omega,λi a b=>by dsimp only at a;congr 1;omega⟩
   ·have hc:=gW.mp λz=>hc (ay z);refine aA (vD mh.kd uf (by rw[hsz];omega) (by rw[hsz];omega) ?_);refine f7 (λhd=>aH ⟨rfl,by dsimp only;omega,by dsimp only;omega,mh,iO,hq,lz⟩) (λhd=>?_);have hd:=gW.mp λz=>hd (ay z);refine aH ⟨rfl,rfl,mh,iO.more () hd,by dsimp only;omega,λi a b=>?_⟩;rw[show lo+(c2+1)-1=lo+c2 by omega];by_cases e:i=lo+c2
    ·rw[e]
    ·rw[lz i (by dsimp only at a;omega) ()];omega
  ·rintro⟨c1,c2,q⟩ ba ⟨rfl,e2,mh,iO,hq,lz⟩;dsimp only at e2;have e3:c2=gY:=by omega
   rw[<- e2] at iO hq lz;exact⟨rfl,by dsimp only;omega,by dsimp only;omega,mh,iO,hq,lz⟩
  ·rintro⟨c1,n,q⟩ ba ⟨rfl,rG,Hr,mh,iO,hq,lz⟩;dsimp only at rG Hr iO hq lz ⊢;have hsz:(arrOf ba).size=(arrOf fW).size:=mh.pm.size_eq;refine f7 (λhg=>aA (wpS_reverse ?_)) (λhg=>?_);have qx:=mh.yt (i:=lo+n-(q+1)) (j:=lo+n) () () (by rw[hsz];omega);have gO:ND (arrOf (setArr ba (mirror (arrOf ba) (lo+n-(q+1)) (lo+n) ((lo+n-(lo+n-(q+1))) / 2)))) lo n:=iO.same λk=>jV (by rw[hsz];omega) lz k;generalize setArr ba (mirror (arrOf ba) (lo+n-(q+1)) (lo+n) ((lo+n-(lo+n-(q+1))) / 2))=kj at qx gO ⊢
   rotate_left
   have qx:=mh;have gO:=iO
   all_goals
    have hsz2:=qx.pm.size_eq;refine aA (wpS_reverse ?_);have ua:=qx.yt (i:=lo) (j:=lo+n) (aw _) () ();refine aA (wpS_mono (asc _ n ua rG Hr (λi j a b c=>?_) _ rfl) ?_)
    ·show K (mirror _ lo (lo+n) _) i<=K (mirror _ lo (lo+n) _) j;rw[K_mirror (),K_mirror (),aG (),aG ()];exact gO _ _ () () ()
    ·rintro⟨c1,m⟩ st4 ⟨rfl,rfl,q1,q2,q3,_⟩;exact aH (h m _ ua q1 q2 q3)
end
def Ch(l:List Keyed):List (Nat×Nat×Nat)->Nat->Nat->Prop
 |[],a,b=>a=b
 |(s,n,_)::r,a,b=>s=a/\0<n/\(seg l a n).Pairwise le/\Ch l r (a+n) b
theorem Ch.le{l:List Keyed}:∀{p:List (Nat×Nat×Nat)} {a b:Nat},Ch l p a b->a+p.length<=b
 |[],a,b,h=>fJ h
 |(s,n,w)::r,a,b,⟨_,h1,_,h2⟩=>by have:=Ch.le h2;simp only[List.length_cons];omega
theorem Ch.congr{l l':List Keyed}:∀{p:List (Nat×Nat×Nat)} {a b:Nat},Ch l p a b->(∀k,a<=k->k<b->l'[k]?=l[k]?)->Ch l' p a b
 |[],a,b,h,_=>h
 |(s,n,w)::r,a,b,⟨h0,h1,h2,h3⟩,hc=>by
  have:=Ch.le h3;exact⟨h0,h1,by rw[Eg λk a b=>hc k a ()];exact h2,Ch.congr h3 λk a b=>hc k () b⟩
theorem Ch.push{l:List Keyed}{n w:Nat}:∀{p:List (Nat×Nat×Nat)} {a b:Nat},Ch l p a b->0<n->(seg l b n).Pairwise TS.le->Ch l (p++[(b,n,w)]) a (b+n)
 |[],a,b,h,h1,h2=>by cases h;exact⟨rfl,h1,h2,rfl⟩
 |(s,m,v)::r,a,b,⟨g0,g1,g2,g3⟩,h1,h2=>⟨g0,g1,g2,Ch.push g3 h1 h2⟩
theorem Ch.pow{l:List Keyed}{f:Nat×Nat×Nat->Nat×Nat×Nat}(hf:∀x,(f x).1=x.1/\(f x).2.1=x.2.1):∀{p:List (Nat×Nat×Nat)} {a b i:Nat},Ch l p a b->Ch l (p.modify i f) a b
 |[],a,b,i,h=>by simpa using h
 |(s,m,v)::r,a,b,0,⟨g0,g1,g2,g3⟩=>by
  obtain⟨x,y⟩:∃z,f (s,m,v)=(s,m,z):=⟨(f (s,m,v)).2.2,Prod.ext (hf _).1 (Prod.ext (hf _).2 rfl)⟩
  rw[List.modify_zero_cons,y];exact⟨g0,g1,g2,g3⟩
 |(s,m,v)::r,a,b,i+1,⟨g0,g1,g2,g3⟩=>by exact⟨g0,g1,g2,Ch.pow hf g3⟩
theorem Ch.merge{l:List Keyed}{b sa na pw sb nb tK:Nat}:∀{i:Nat} {p:List (Nat×Nat×Nat)} {a:Nat},Ch l p a b->p[i]?=some (sa,na,pw)->p[i+1]?=some (sb,nb,tK)->a<=sa/\sb=sa+na/\0<na/\0<nb/\sb+nb<=b/\(seg l sa na).Pairwise TS.le/\(seg l sb nb).Pairwise TS.le /\
  ∀m,m.length=na+nb->m.Pairwise TS.le->b<=l.length->Ch (put l sa m) ((p.set i (sa,na+nb,pw)).eraseIdx (i+1)) a b
 |0,(s,n,w)::(s',n',w')::r,a,⟨g0,g1,g2,g3,g4,g5,g6⟩,e1,e2=>by
  simp only[List.getElem?_cons_zero,List.getElem?_cons_succ,Nat.zero_add,Option.some.injEq,Prod.mk.injEq] at e1 e2;obtain⟨rfl,rfl,rfl⟩:=e1;obtain⟨rfl,rfl,rfl⟩:=e2;subst g0;have:=Ch.le g6;subst g3;refine⟨aw _,rfl,g1,g4,by omega,g2,g5,λm hm hs hb=>?_⟩;have hl:s+m.length<=l.length:=by omega
  refine⟨rfl,by omega,by rw[<- hm,UR hl];exact hs,?_⟩;rw[<- Nat.add_assoc];exact Ch.congr g6 λk h1 h2=>by rw[P1 hl,aD ()]
 |i+1,(s,n,w)::r,a,⟨g0,g1,g2,g3⟩,e1,e2=>by
  obtain⟨h1,h2,h3,h4,h5,h6,h7,h8⟩:=Ch.merge g3 e1 e2;refine⟨by omega,h2,h3,h4,h5,h6,h7,λm hm hs hb=>?_⟩;refine⟨g0,g1,?_,h8 m hm hs hb⟩;rw[Eg (l:=l) (l':=put l sa m) λk h1 h2=>by rw[P1 (),aD ()]];exact g2
theorem SB.seg{xs:Array Keyed}{lo n:Nat}(hn:lo+n<=xs.size)(h:SB xs lo n):(seg xs.toList lo n).Pairwise le:=by
 rw[cM];intro i j hi hj jF;rw[C3 (by simpa using hn)] at hi hj;have:=h (lo+i) (lo+j) () () ();rw[K_eq (),K_eq ()] at this;simpa[TS.seg] using this
section
variable{prog:Program}{w:World}{A:Around}{E:Value->Shared->Prop}{s:Shared}
structure Go(a₀:Array Keyed)(st:SortSt)(lo:Nat):Prop where
 kd:kindOf st=oneType'
 fl:failedOf st=none
 pm:(arrOf st).Perm a₀
 ch:Ch (arrOf st).toList (pendingOf st).toList 0 lo
theorem Mz{a₀:Array Keyed}{st:SortSt}{lo i:Nat}{Q:Bool->SortSt->Prop}(h0:∀p∈a₀.toList,IK p)(hG:Go a₀ st lo)(vY:lo<=a₀.size)(hi:i+1<(pendingOf st).size)(h:∀ba,Go a₀ ba lo->(pendingOf ba).size+1=(pendingOf st).size->(∀k,lo<=k->(arrOf ba).toList[k]?=(arrOf st).toList[k]?)->Q true ba):wpS (model prog w) A E s (GS i) Q st:=by
 obtain⟨sa,na,pw,e1⟩:∃sa na pw,(pendingOf st)[i]?=some (sa,na,pw):=⟨_,_,_,cy _ i ()⟩
 obtain⟨sb,nb,tK,e2⟩:∃sb nb tK,(pendingOf st)[i+1]?=some (sb,nb,tK):=⟨_,_,_,cy _ (i+1) hi⟩
 obtain⟨g1,g2,g3,g4,g5,g6,g7,g8⟩:=hG.ch.merge (i:=i) (by simpa using e1) (by simpa using e2);have hsz:=hG.pm.size_eq;have hl:(arrOf st).toList.length=a₀.size:=by simpa using hsz
 refine bB6 hG.kd hG.fl (λp hp=>h0 p ((bX.mp hG.pm).mem_iff.mp hp)) e1 e2 g2 () g3 g4 g6 g7 λba m m1 m2 m3 m4 m5 m6 m7=>h ba ⟨m4,m5,?_,?_⟩ ?_ ?_
 ·refine Array.Perm.trans (bX.mpr ?_) hG.pm;rw[m6];exact a91 (by rw[m1];exact m3)
 ·simp_all
 ·rw[m7,<- cJ,Array.toList_eraseIdxIfInBounds,List.length_eraseIdx,Array.toList_setIfInBounds,List.length_set,cJ,aG hi];omega
 ·intro k hk;rw[m6,P1 (),aD ()]
theorem OV{c:Prop}[Decidable c]{n:Nat}(h:1<n):(if c then n-2-1 else n-2)+1<n:=by split<;>omega
theorem Go.near{a₀:Array Keyed}{st ba:SortSt}{lo hi:Nat}(h:Go a₀ st lo)(hN:Nr st ba lo hi):Go a₀ ba lo :=
 ⟨hN.kd,hN.fl,hN.pm.trans h.pm,by rw[hN.pd];exact h.ch.congr λk _ hk=>by rw[eJ,eJ];exact hN.out k (.inl hk)⟩
theorem UY{a₀:Array Keyed}{st:SortSt}{Q:Unit->SortSt->Prop}(h0:∀p∈a₀.toList,IK p)(hG:Go a₀ st 0)(h2:0<a₀.size)(h:∀ba,(arrOf ba).Perm a₀->failedOf ba=none->(arrOf ba).toList.Pairwise le->Q Unit.unit ba):wpS (model prog w) A E s sortRuns' Q st:=by
 refine aA (mS ?_);have hsz:∀ba lo,Go a₀ ba lo->(arrOf ba).size=a₀.size:=λba lo h=>h.pm.size_eq;have e0:=hsz st 0 hG;refine aA (wpS_mono (dI (I:=λx (c:Option Unit × Nat) ba=>c.1=none/\Go a₀ ba c.2/\c.2 <= a₀.size/\x <= c.2)
  (Q:=λc ba=>c.1=none/\Go a₀ ba a₀.size) ?_ ?_ ⟨rfl,hG,bW _,bW _⟩) ?_)
 ·rintro x ⟨c1,lo⟩ fW _ hx ⟨rfl,pC,vY,hxl⟩;rw[e0];refine f7 (λly=>aH ⟨rfl,?_⟩) (λly=>?_)
  ·grind
  have z1:=hsz fW lo pC;have i1:∀p∈(arrOf fW).toList,IK p:=λp hp=>h0 p ((bX.mp pC.pm).mem_iff.mp hp);refine aA (Sz pC.kd pC.fl i1 () (by grind) λm gB hN PL PK hs=>?_);dsimp only at hN PK hs ⊢;have z2:(arrOf gB).size=a₀.size:=hN.pm.size_eq.trans z1;have i2:∀p∈(arrOf gB).toList,IK p:=λp hp=>i1 p ((bX.mp hN.pm).mem_iff.mp hp);have fin:∀kj n,Go a₀ kj lo->0<n->lo+n<=a₀.size->(seg (arrOf kj).toList lo n).Pairwise le->(λc ba=>c.1=none/\Go a₀ ba c.2/\c.2<=a₀.size/\x+1<=c.2:Option Unit×Nat->SortSt->Prop) (none,lo+n) (setPending kj ((pendingOf kj).push (lo,n,0))):=by
   intro kj n hG h1 h2 h3;refine⟨rfl,⟨hG.kd,hG.fl,hG.pm,?_⟩,h2,by grind⟩;rw[dE];exact hG.ch.push h1 h3
  refine f7 (λhc=>?_) (λhc=>?_);refine aA (qb (eO ⟨rfl,?_⟩));refine aA (ZS hN.kd hN.fl i2 () () hs λkj ua Hh=>?_);have hc:m<minRun' a₀.size a₀.size 0:=hc;have rG:lo+min (a₀.size-lo) (minRun' a₀.size a₀.size 0)<=a₀.size:=by omega
  have hq:=Hh.seg (by rw[ua.pm.size_eq,z2];exact rG);have BD:0<min (a₀.size-lo) (minRun' a₀.size a₀.size 0):=by omega
  have yT:=(pC.near hN).near ua;clear ua Hh hN hs i2 z2;change Go a₀ kj lo at yT
  rotate_left
  have BD:0<m:=PL;have yT:=pC.near hN;have rG:lo+m<=a₀.size:=by omega
  have hq:=hs.seg ();clear hN hs i2 z2;generalize gB=kj at *
  all_goals
   refine aA (mS ?_);cases hb:(pendingOf kj).back? with
   |none=>exact aA (mR (aH (fin kj _ yT BD rG hq)))
   |some q =>
    obtain⟨s1,n1,p1⟩:=q;refine aA (wpS_mono (dI (I:=λ_ (c:Option Unit × Unit) ba=>c=(none,Unit.unit)/\Go a₀ ba lo/\∀ k,lo <= k->(arrOf ba).toList[k]?=(arrOf kj).toList[k]?)
     (Q:=λc ba=>c=(none,Unit.unit)/\Go a₀ ba lo/\∀ k,lo <= k->(arrOf ba).toList[k]?=(arrOf kj).toList[k]?) ?_ (λ_ _ z=>z) ⟨rfl,yT,λ_ _=>rfl⟩) ?_)
    ·rintro y c ba _ _ ⟨rfl,lB,jE⟩;refine aA (mS ?_);by_cases hp:(pendingOf ba).size>1
     ·rw[aG hp,cy (pendingOf ba) ((pendingOf ba).size-2) ()];exact f7 (λ_=>aH ⟨rfl,lB,jE⟩) λ_=>aA (Mz h0 lB vY (show(pendingOf ba).size-2+1<(pendingOf ba).size by omega) λoU g1 g2 g3=>aH ⟨rfl,g1,λk hk=>(g3 k hk).trans (jE k hk)⟩)
     ·rw[aD hp];exact aH ⟨rfl,lB,jE⟩
    ·rintro c ba ⟨rfl,lB,jE⟩;refine aA (mR (aA (mR (aH (fin (setPending ba ((pendingOf ba).modify ((pendingOf ba).size-1) _)) _ ⟨lB.kd,lB.fl,lB.pm,?_⟩ BD rG ?_)))))
     ·show Ch _ ((pendingOf ba).modify _ _).toList 0 lo;rw[Array.toList_modify];refine Ch.pow ?_ lB.ch;exact λx=>⟨rfl,rfl⟩
     ·show(seg (arrOf ba).toList lo _).Pairwise le;rw[Eg λk h1 _=>jE k h1];exact hq
 ·grind
 ·rintro⟨c1,lo⟩ fW ⟨rfl,pC⟩;rw[e0];refine aA (wpS_mono (dI (I:=λx (c:Option Unit × Unit) ba=>c=(none,Unit.unit)/\Go a₀ ba a₀.size/\(pendingOf ba).size <= max 1 (a₀.size - x))
   (Q:=λc ba=>c=(none,Unit.unit)/\Go a₀ ba a₀.size/\(pendingOf ba).size <= 1) ?_ ?_ ⟨rfl,pC,?_⟩) ?_)
  ·rintro y c ba _ hy ⟨rfl,lB,jE⟩;refine aA (mS ?_);refine f7 (λhp=>aH ⟨rfl,lB,hp⟩) λhp=>?_;have hp:1<(pendingOf ba).size:=Nat.lt_of_not_le hp;refine aA (Mz h0 lB (aw _) ?_ λoU g1 g2 g3=>aH ⟨rfl,g1,by omega⟩);exact OV hp
  ·simp
  ·have:=pC.ch.le
   grind
  ·rintro c ba ⟨rfl,lB,jE⟩;refine aH (h ba lB.pm lB.fl ?_);have hc:=lB.ch
   match hp:(pendingOf ba).toList with
   |[]=>rw[hp] at hc;exact absurd (show 0=a₀.size from hc) ()
   |[(s1,n1,w1)] =>
    rw[hp] at hc;obtain⟨q1,q2,q3,q4⟩:=hc;have q4:0+n1=a₀.size:=q4;have e:seg (arrOf ba).toList 0 n1=(arrOf ba).toList:=by
     have:=lB.pm.size_eq;unfold seg;rw[List.drop_zero,cv (by simp;omega)]
    simp_all
   |_::_::_ =>
    have:(pendingOf ba).toList.length<=1:=by simpa using jE
    rw[hp] at this;simp at this
theorem Na{a:Addr}{vs:List Value}{ns:List Int}{n:Nat}{P:Fin->Shared->Prop}(ho:s.heap.get? a=some (seqObj "list" vs.toArray n))(hI:IntsAre vs ns)(hl:vs.length<=100000)(h:∀(out:Array Value) (kR:List Int),IntsAre out.toList kR->kR.Perm ns->kR.Pairwise (·<=·)->P (.done (.ret .none)) { s with heap:=sortedHeap s.heap a vs out }):wpAny (model prog w) A (Builtin.«list.sort» ⟨[.ref a],[]⟩) P E s:=by
 by_cases yU:vs.length<64
 ·exact list_sort_tree ho hI yU h
 rw[list_sort_plain];have ha:=az ho;refine ae (listItems_at ho rfl (ae (listUpdate_at ho rfl ?_)));have qu:=get?_update_seq ho (λ_=>#[]);refine ae (seqEpoch_at qu rfl (ae (wpAny_newTuple (ae (NP (bU ?_))))));have Ho:(((s.heap.update a (Obj.mapSeq λ_=>#[])).push (seqObj "tuple" vs.toArray 0)).push (seqObj "list" #[] 0)).get? a=some (seqObj "list" #[] (if((λ_=>#[]) vs.toArray:Array Value).size==vs.toArray.size then n else n+1)):=by
  rw[Heap.get?_push_ne _ _ _ (by rw[size_push',Heap.size_update];exact aM (iu ha)),Heap.get?_push_ne _ _ _ (by rw[Heap.size_update];exact aM ha)];exact qu
 obtain⟨v1,v2,r,rfl⟩:∃v1 v2 r,vs=v1::v2::r:=by
  match vs,yU with
  |[],h=>simp at h
  |[_],h=>simp at h
  |x::y::r,_=>exact⟨x,y,r,rfl⟩
 rw[keyKind_ints hI];refine ae (au (ae (bH (UY (a₀:=pairsOf (v1::v2::r)) (Q:=λ_ ba=>(arrOf ba).Perm (pairsOf (v1::v2::r))/\failedOf ba=none/\(arrOf ba).toList.Pairwise le) hI.intKeys ⟨rfl,rfl,nA _,rfl⟩ (by rw[pairsOf_size];simp) λba a1 a2 a3=>⟨a1,a2,a3⟩) ?_ λ_ _ e=>e)));rintro⟨⟨⟩,ba⟩ s' ⟨rfl,hp,hf,hs⟩;refine ae (seqEpoch_at Ho rfl (ae (listUpdate_at Ho rfl ?_ (hsz2:=?_))))
 ·rw[hf];simp only[bne_self_eq_false,Bool.false_eq_true,if_false];obtain⟨kR,q1,q2,q3⟩:=sorted_out hI hp λi j jF hj=>by
   have e:=hp.size_eq;rw[K_eq (),K_eq ()];exact xw hs () jF
  exact au (h _ kR q1 q2 q3)
 ·rw[Array.size_map,hp.size_eq,pairsOf_size,tm];omega
end
end TS
namespace L2
open PySem PySem.Spec PyProof.Rows
variable{A:Around}{s:Shared}{elt iter tg:Expr}{ifs:List Expr}{scope:Scope}{pos:Pos}{X:Cx}{x:Str}{cl:List (Str×Addr)}{C:Addr}{N':List Str}{d6:List Nat}{fp:List Addr}{g:TG}{tc:TT}{te:TE}
section
variable{prog:Program}{w:World}{R:Result->Shared->Prop}
theorem aI6{target:Expr}{it acc:Value}{env:Env}(I:Nat->Shared->Prop)(turn:∀ n s,I n s->wpAny (model prog w) A (pyNext it) (λr bO=>match r with
   |none=>R (.ok .next) bO
   | some v=>wpAny (model prog w) A (letOwnedTupleGo target it v) (λ_ bO=>wpAny (model prog w) A (assign target env v) (λ_ gh =>
     wpAny (model prog w) A (forIn ifs true λc r=>if r=true then do let ok <- isTrue c env (eval c env);pure (ForInStep.yield ok) else pure (ForInStep.yield r)) (λok fQ =>
      if ok=true then wpAny (model prog w) A (eval elt env) (λx iN =>
       wpAny (model prog w) A (call (.builtin "list.append") [acc,x]) (λ_ jw=>∃ m,m < n/\I m jw) (λ_ _=>False) iN) (notedBy (model prog w) A env λe s'=>R (.error e) s') fQ
      else ∃ m,m < n/\I m fQ) (λ_ _=>False) gh) (λ_ _=>False) bO) (λ_ _=>False) bO) (λ_ _=>False) s)(n:Nat)(h:I n s) :
  codeAny (model prog w) A (.compLoop (.ListComp elt [⟨target,iter,ifs,0⟩] scope pos) 0 it acc env) R s:=by
 refine codeAny_loop rfl I (λn s hI=>?_) n h;show wpAny _ A ((compTurn (.ListComp elt [⟨target,iter,ifs,0⟩] scope pos) 0 it acc env).onRaise (λx=>do noteFrame x env;theTreesLotGoes x)) _ _ s;refine wpAny_noted ?_;rw[compTurn_list];refine ae (fH (ae (bH (turn n s hI) (λr bO dJ=>?_) λ_ _ h'=>h'.elim)));cases r with
 |none=>exact au dJ
 |some v =>
  refine ae (bH dJ (λ_ bO dJ=>?_) λ_ _ h'=>h'.elim);refine ae (bH dJ (λ_ gh jB=>ae (bH jB (λok fQ nK=>?_) λ_ _ h'=>h'.elim)) λ_ _ h'=>h'.elim);cases ok with
  |false=>exact wpAny_pure ⟨rfl,nK⟩
  |true =>
   exact ae (ae (bH nK (λx iN rF=>ae (bH rF (λ_ jw rE=>au (au ⟨rfl,rE⟩)) λ_ _ h'=>h'.elim)) λ_ _ h'=>h'))
end
def lT(X:Cx)(es:List Expr)(t:TT):Prop :=
 ∀(pins:List (Addr×Obj)) (s:Shared) (U:St) (H:Hp) (Q:Bool->Hp->Prop),Inv X pins U H s->t U H Q ->
  wpAny (model X.prog X.w) X.A (forIn es true λc r=>if r=true then do let ok <- isTrue c X.env (eval c X.env);pure (ForInStep.yield ok) else pure (ForInStep.yield r)) (TP X pins U Q) X.xe s
def XN:TT:=λ_ H Q=>Q true H
theorem UP:lT X [] XN:=λpins s U H Q I h=>au ⟨H,I,h⟩
theorem UQ{c:Expr}{t:TT}(h:PT X c t):lT X [c] t:=by
 intro pins s U H Q I q;exact ae (ae (bH (h pins s U H Q I q) (λb s' hb=>au (au hb)) λ_ _ x=>x))
def E9(scope:Scope)(cl:List (Str×Addr))(C:Addr):List (Str×Addr):=cellsFrom (C+1) scope.names []++cl
theorem G0:∀(names:List (Str×NameKind)) (n:Nat) (acc:List (Str×Addr)),cellsFrom n names acc=cellsFrom n names []++acc
 |[],_,_=>rfl
 |(y,k)::r,n,acc=>by
  unfold cellsFrom;split
  ·rw[G0 r (n+1) ((y,n)::acc),G0 r (n+1) [(y,n)],bS]
   rfl
  ·exact G0 r n acc
theorem V7{x:Str}{c:Addr}:∀{names:List (Str×NameKind)} {n:Nat},(x,c)∈cellsFrom n names []->(x,NameKind.cell)∈names
 |[],_,h=>by simp[cellsFrom] at h
 |(y,k)::r,n,h=>by
  unfold cellsFrom at h;split at h
  ·rw[G0] at h;rcases aR.mp h with z|z
   ·exact bE _ (V7 z)
   grind
  ·exact bE _ (V7 h)
theorem O1{α:Type}:∀{a b:List (Str×α)},(a++b).lookup x=(a.lookup x).or (b.lookup x)
 |[],_=>rfl
 |(y,v)::r,b=>by
  grind
theorem JR(h:scope.names.lookup x=some .cell\/∃c,cl.lookup x=some c):∃c,(E9 scope cl C).lookup x=some c:=by
 unfold E9;rw[O1];cases e:(cellsFrom (C+1) scope.names []).lookup x with
 |some c=>exact⟨c,rfl⟩
 |none =>
  rcases h with h|h
  ·have q:=et scope.names (C+1) [] (.inl h);rw[e] at q;cases q
  ·exact h
theorem O6{env:Env}:∀{names:List (Str×NameKind)} {x:Str},names.lookup x=some .cell ->
  (names.map λ(n,k)=>if(k==NameKind.free&&env.scope.kind==.function&&env.kindOf n==some .cell) then(n,NameKind.cell) else(n,k)).lookup x=some .cell
 |[],_,h=>by simp at h
 |(n,k)::r,x,h=>by
  have ih:=@O6 env r x;show List.lookup x ((if(k==NameKind.free&&env.scope.kind==.function&&env.kindOf n==some .cell)=true then(n,NameKind.cell) else(n,k))::_)=_;cases hx:x==n with
  |true =>
   simp only[List.lookup_cons,hx] at h
   simp_all
  |false =>
   simp only[List.lookup_cons,hx] at h;by_cases hc:(k==NameKind.free&&env.scope.kind==.function&&env.kindOf n==some .cell)=true
   ·rw[aG hc];simp only[List.lookup_cons,hx];exact ih h
   ·rw[aD hc];simp only[List.lookup_cons,hx];exact ih h
theorem ML{h:Heap}(ck:CellsOk h (C+1) (cellsFrom (C+1) scope.names [])){c:Addr}(e:(E9 scope cl C).lookup x=some c):C<c\/cl.lookup x=some c:=by
 unfold E9 at e;rw[O1] at e;cases e2:(cellsFrom (C+1) scope.names []).lookup x with
 |some c' =>
  rw[e2] at e;cases e;exact .inl (ck.empty x c (aT e2)).2
 |none =>
  rw[e2] at e;exact .inr e
theorem Lr{M:Model}{E:Value->Shared->Prop}{globals:Addr}{qual:Str}{outer:Env}{Q:Env->Shared->Prop}(hQ:∀ dJ:Heap,dJ.Ns s.heap.objs.size (λ_=>none)->(∀ b o,s.heap.get? b=some o->dJ.get? b=some o)->CellsOk dJ (s.heap.objs.size + 1) (cellsFrom (s.heap.objs.size + 1) scope.names []) ->
   Q (newEnv scope s.heap.objs.size globals (E9 scope cl s.heap.objs.size) qual none .none (some outer) builtinsNs) { s with heap:=dJ }) :
  wpAny M A (newFunctionEnv scope globals cl [] qual none .none (some outer)) Q E s:=by
 simp only[newFunctionEnv,Option.isSome_some,if_true];refine ae (wpAny_alloc ?_);refine ae (wpAny_layCells _ (λname kind cells=>by rfl) _ _ _ _ ?_);have ok:=cellsFrom_ok scope.names (s.heap.push { cls:=.type "dict",data:=.dict #[] }) (s.heap.objs.size+1) [] ⟨λ_ _ hm=>(nomatch hm),List.Pairwise.nil⟩ (by simp);rw[fj] at ok;rw[show({ s with heap:=s.heap.push { cls:=.type "dict",data:=.dict #[] } }:Shared).heap.objs.size=s.heap.objs.size+1 from fj ..];refine ae (au (au ?_));rw[G0];exact hQ _ ((Heap.Ns.new s.heap (.type "dict")).keeps (pushCells_keeps _ _)) (λb o e=>pushCells_keeps _ _ b o (ao _ e)) ok
def f9(X:Cx)(pins:List (Addr×Obj))(scope:Scope)(N':List Str)(cl:List (Str×Addr))(C:Addr)(s:Shared)(H:Hp)(fp:List Addr):Cx where
 prog:=X.prog
 w:=X.w
 K:=X.K
 mg:=X.mg
 base:=X.base
 A:=X.A
 N:=N'
 dG:=s
 jU:=H
 env:=compEnvC scope (E9 scope cl C) C X.env
 outer:=X.stack
 stack:=X.stack
 ex:=fp
 calm:=true
 fn:=λx=>decide (scope.names.lookup x=some .cell)
 pn:=X.pn++pins
 xe:=λ_ _=>False
structure dA(X:Cx)(scope:Scope)(N':List Str)(d6:List Nat)(cl:List (Str×Addr)):Prop where
 kind:scope.kind=.function
 cells:∀y∈scope.names,y.2=.cell->scope.names.lookup y.1=some .cell
 names:∀y∈scope.names,y.2=.local->scope.names.lookup y.1=some .local
 sD:closureFor scope X.env=pure cl
 cin:∀x c,cl.lookup x=some c->X.env.cells.lookup x=some c
 wZ:∀x,scope.names.lookup x=some .free->∃c,cl.lookup x=some c
 nd:N'.Nodup
 RK:∀(i j:Nat),d6[i]?=some j->∃x,N'[i]?=some x/\X.N[j]?=some x/\scope.names.lookup x=some .free/\(X.env.kindOf x=some .cell\/X.env.kindOf x=some .free)
 CW:d6.length<=N'.length
theorem H9{env:Env}:∀{names:List (Str×NameKind)} {x:Str},names.lookup x=some .free ->
  (names.map λ(n,k)=>if(k==NameKind.free&&env.scope.kind==.function&&env.kindOf n==some .cell) then(n,NameKind.cell) else(n,k)).lookup x=some .cell \/
  (names.map λ(n,k)=>if(k==NameKind.free&&env.scope.kind==.function&&env.kindOf n==some .cell) then(n,NameKind.cell) else(n,k)).lookup x=some .free
 |[],_,h=>by simp at h
 |(n,k)::r,x,h=>by
  have ih:=@H9 env r x;show List.lookup x ((if(k==NameKind.free&&env.scope.kind==.function&&env.kindOf n==some .cell)=true then(n,NameKind.cell) else(n,k))::_)=_\/List.lookup x ((if(k==NameKind.free&&env.scope.kind==.function&&env.kindOf n==some .cell)=true then(n,NameKind.cell) else(n,k))::_)=_;cases hx:x==n with
  |true =>
   simp only[List.lookup_cons,hx] at h;cases h;by_cases hc:(NameKind.free==NameKind.free&&env.scope.kind==.function&&env.kindOf n==some .cell)=true
   ·rw[aG hc];simp[List.lookup_cons,hx]
   ·rw[aD hc];simp[List.lookup_cons,hx]
  |false =>
   simp only[List.lookup_cons,hx] at h;by_cases hc:(k==NameKind.free&&env.scope.kind==.function&&env.kindOf n==some .cell)=true
   ·rw[aG hc];simp only[List.lookup_cons,hx];exact ih h
   ·rw[aD hc];simp only[List.lookup_cons,hx];exact ih h
theorem O7{env:Env}:∀{names:List (Str×NameKind)} {x:Str},((names.map λ(n,k)=>if(k==NameKind.free&&env.scope.kind==.function&&env.kindOf n==some .cell) then(n,NameKind.cell) else(n,k)).lookup x=some .cell \/
  (names.map λ(n,k)=>if (k == NameKind.free && env.scope.kind == .function && env.kindOf n == some .cell) then (n,NameKind.cell) else (n,k)).lookup x=some .free)->names.lookup x=some .free \/ names.lookup x=some .cell
 |[],_,h=>by simp at h
 |(n,k)::r,x,h=>by
  have ih:=@O7 env r x;rw[cS] at h;cases hx:x==n with
  |true =>
   simp only[List.lookup_cons,hx];by_cases hc:(k==NameKind.free&&env.scope.kind==.function&&env.kindOf n==some .cell)=true
   ·refine .inl ?_;simp only[Bool.and_eq_true,beq_iff_eq] at hc;rw[hc.1.1]
   ·simp only[if_neg hc,List.lookup_cons,hx] at h;rcases h with h|h
    ·exact .inr h
    ·exact .inl h
  |false =>
   simp only[List.lookup_cons,hx];by_cases hc:(k==NameKind.free&&env.scope.kind==.function&&env.kindOf n==some .cell)=true
   ·simp only[if_pos hc,List.lookup_cons,hx] at h;exact ih h
   ·simp only[if_neg hc,List.lookup_cons,hx] at h;exact ih h
def F0(U:St)(d6:List Nat)(n:Nat):St:=d6.map (λj=>(U[j]?).join)++List.replicate (n-d6.length) none
section
variable{pins:List (Addr×Obj)}{U:St}{H:Hp}
theorem Inv.aV5{h1:Heap}{tk:Nat}(I:Inv X pins U H s)(S:dA X scope N' d6 cl)(hc:X.calm=true)(hf:∀b∈fp,I9 X pins H b)(ho:∀b∈fp,∃o,s.heap.get? b=some o)(hC:s.heap.objs.size<=C)(hn:∃m,h1.Ns C m)(k:∀b o,s.heap.get? b=some o->h1.get? b=some o)(ck:CellsOk h1 (C+1) (cellsFrom (C+1) scope.names [])) :
  Inv (f9 X pins scope N' cl C s H fp) [] (F0 U d6 N'.length) H { s with heap:=h1,toks:=tk }:=by
 obtain⟨m,hm⟩:=hn;have PU:(relabel scope X.env).kind=.function:=S.kind;have GH:∀b o,s.heap.get? b=some o->b≠C:=λb o e z=>absurd (az e) (by simp_all);have two:∀{x:Str} {c:Addr},(E9 scope cl C).lookup x=some c->(C<c/\h1.IsCell c none/\(x,c)∈cellsFrom (C+1) scope.names [])\/(cl.lookup x=some c/\(cellsFrom (C+1) scope.names []).lookup x=none):=λ{x c} h=>by
  unfold E9 at h;rw[O1] at h;cases e:(cellsFrom (C+1) scope.names []).lookup x with
  |some c' =>
   rw[e] at h;cases h;have hm:=aT e;exact .inl ⟨(ck.empty x c hm).2,(ck.empty x c hm).1,hm⟩
  |none =>
   rw[e] at h;exact .inr ⟨h,rfl⟩
 have vm:∀{x:Str} {c:Addr},cl.lookup x=some c->c<s.heap.objs.size:=λ{x c} h=>by
  obtain⟨v,o,e,_⟩:=I.cell x c (S.cin x c h);exact az e
 have frees:∀{x:Str},scope.names.lookup x=some .free->(E9 scope cl C).lookup x=cl.lookup x:=λ{x} h=>by
  unfold E9;rw[O1];cases e:(cellsFrom (C+1) scope.names []).lookup x with
  |some c' =>
   have:=S.cells _ (V7 (aT e)) rfl
   simp_all
  |none=>rfl
 refine⟨⟨I.mod,PU,I.ok.glob,I.ok.blt,hC,?_,?_,?_,λ_=>I.ok.hd hc,I.ok.frames,.inl rfl,?_,I.bs,?_,?_,?_,I.stack,I.zH⟩,rfl,I.bare,Un.kept k,⟨m,hm,?_⟩,?_,?_,?_,?_,I.bY.kept k,?_,λde z=>absurd (show(none:Option (List (Option V)))=some de from z) (by simp)⟩
 ·intro x y c h1 h2;rcases two h1 with⟨l1,_,q1⟩|⟨q1,_⟩<;>rcases two h2 with⟨l2,_,q2⟩|⟨q2,_⟩
  ·exact PySem.name_of_addr ck.apart q1 q2
  ·exact absurd (cW l1 (aB (vm q2) hC)) (cc _)
  ·exact absurd (cW l2 (aB (vm q1) hC)) (cc _)
  ·exact I.ok.inj x y c (S.cin x c q1) (S.cin y c q2)
 ·intro x hx;rcases O7 (env:=X.env) (names:=scope.names) hx with z|z
  ·obtain⟨c,hc⟩:=S.wZ x z;exact⟨c,(frees z).trans hc⟩
  ·have q:=et scope.names (C+1) [] (.inl z);obtain⟨c,hc⟩:=fg.mp q;refine⟨c,?_⟩;show(E9 scope cl C).lookup x=some c;unfold E9;rw[O1,hc]
   rfl
 ·intro x c hf h;have z:scope.names.lookup x=some .cell:=bj hf;have q:=et scope.names (C+1) [] (.inl z);rcases two h with⟨l,_⟩|⟨_,e⟩
  ·exact eV (cY hC l)
  simp_all
 ·intro b hb;obtain⟨f0,f1,f2,f3,f4,f5⟩:=hf b hb;obtain⟨o,e⟩:=ho b hb;refine⟨GH b o e,λx c h=>?_⟩;rcases two h with⟨l,_⟩|⟨q,_⟩
  ·intro z;subst z;exact absurd (cW l (aB (az e) hC)) (cc _)
  ·exact f4 x c (S.cin x c q)
 ·exact aC I.ok.oi I.sz
 ·intro b o e hb;obtain⟨f0,f1,f2,f3,f4,f5⟩:=hf b hb;rcases f3 with f3|f3
  ·exact I.ok.kS b o e f3
  ·exact absurd (az (I.ok.bs b o e).1) (NT.mpr f3)
 ·intro b hb z;obtain⟨f0,f1,f2,f3,f4,f5⟩:=hf b hb;rcases aJ.mp (I.V0 b z) with z|z
  ·exact f1 z
  ·exact f2 z
 ·intro i x v Cu h2 h3;have hi:i<d6.length:=by
   unfold F0 at h2;by_cases hi:i<d6.length
   ·exact hi
   ·rw[cG (by simpa using hi),dU] at h2
    simp_all
  obtain⟨j,hj⟩:∃j,d6[i]?=some j:=⟨_,ag hi⟩
  have hs:U[j]?=some (some v):=by
   unfold F0 at h2;rw[aK (by simpa using hi),ai,hj] at h2;simp only[Option.map_some] at h2;cases e:U[j]? with
   |none=>rw[e] at h2;cases h2
   |some a=>rw[e] at h2;exact gR some (aP h2)
  obtain⟨y,Pb,Pa,Bq,OZ⟩:=S.RK i j hj;have ey:y=x:=by
   have wH:N'[i]?=some x:=Cu;rw[Pb] at wH;exact aP wH
  subst ey;obtain⟨m0,hm0,hl⟩:=I.loc;obtain ⟨u,ru,hu⟩:=hl j y v Pa hs (by
   rcases OZ with z|z
   ·exact .inr (.inl z)
   ·exact .inr (.inr z))
  refine⟨u,ru,.inr ⟨H9 (env:=X.env) (names:=scope.names) Bq,?_⟩⟩;rcases hu with⟨z,_⟩|⟨_,c,rQ,HL⟩
  ·simp_all
  ·obtain⟨c',jK⟩:=S.wZ y Bq;have e:=S.cin y c' jK;rw[rQ] at e;cases e;obtain⟨o,e1,e2⟩:=HL;exact⟨c,(frees Bq).trans jK,o,k _ _ e1,e2⟩
 ·intro x c h;rcases two h with⟨_,q,_⟩|⟨q,_⟩
  ·exact⟨none,q⟩
  ·obtain⟨v,o,e1,e2⟩:=I.cell x c (S.cin x c q);exact⟨v,o,k _ _ e1,e2⟩
 ·exact I.bY.fresh hC
 ·intro x c h;rcases two h with⟨l,_⟩|⟨q,_⟩
  ·exact I.bY.fresh (eV (cY hC l))
  ·exact I.fc x c (S.cin x c q)
 ·intro p hp;have iK:p∈X.pn++pins:=by simpa[f9] using hp
  obtain⟨p1,p2,p3,p4,p5⟩:=I.pin p iK;refine⟨k _ _ p1,p2,GH _ _ p1,λz=>?_,p5⟩;rcases aJ.mp (I.V0 _ z) with z|z
  ·exact p3 z
  ·exact p4 z
 ·unfold F0;show _=N'.length;rw[bI,ak,xZ];have:=S.CW;omega
theorem Inv.VM{gi:List (Addr×Obj)}{cw:St}{H':Hp}{s':Shared}(I:Inv X pins U H s)(hf:∀b∈fp,I9 X pins H b)(J:Inv (f9 X pins scope N' cl C s H fp) gi cw H' s'):Inv X pins U H' s' :=
 I.EA (ch:=fp) J.os J.base J.bY J.bare λb hb=>by
  obtain⟨f0,f1,f2,f3,f4,f5⟩:=hf b hb;exact⟨f3,f1,f4,f5⟩
theorem Inv.ZE{D:Addr}{ys:List V}{bw:List Value}{n:Nat}(I:Inv X pins U H s)(f:I9 X pins H D)(hs:X.dG.heap.objs.size<=D)(hv:Vals ys bw)(hz:ys.length<=sizeLine)(ho:s.heap.get? D=some { cls:=.type "list",data:=.seq bw.toArray n }):Inv X pins U (upd H D (.lst ys)) s:=by
 obtain⟨f0,f1,f2,f3,f4,f5⟩:=f;have fR:∀b o,X.dG.heap.get? b=some o->b≠D:=λb o e z=>absurd (az e) (by rw[z];exact NT.mpr hs);have tup:∀b u,H b=some u->upd H D (.lst ys) b=some u:=λb u e=>by rw[i6 (t8 e f0)];exact e
 refine⟨I.ok,I.os,I.bare,⟨?_,?_,?_,I.base.there,?_,?_,?_⟩,I.loc,I.cell,?_,?_,?_,?_,I.len,I.sg⟩
 ·exact λb o e n1 n2 n3=>I.base.keep b o e n1 n2 n3
 ·exact λb o e n1 n2 n3=>I.base.slot b o e n1 n2 n3
 ·exact λb o e n1 n2=>by rw[i6 (fR b o e)];exact I.base.free b o e n1 n2
 ·exact λb xs e=>tup _ _ (I.base.iZ b xs e)
 ·exact λb o u e=>tup _ _ (I.base.iP b o u e)
 ·exact λb ps e=>by
   obtain⟨more,q⟩:=I.base.ja b ps e;exact⟨more,tup _ _ q⟩
 ·rw[i6 f1.symm];exact I.free
 ·exact λx c e=>by rw[i6 (f4 x c e)];exact I.fc x c e
 ·intro p hp;obtain⟨p1,p2,p3⟩:=I.pin p hp;exact⟨p1,by rw[i6 (f5 p hp)];exact p2,p3⟩
 ·intro a o e;by_cases ha:a=D
  ·subst ha;rw[A1] at e;cases e;exact⟨hz,bw,n,hv,ho⟩
  ·rw[i6 ha] at e;have q:=I.bY a o e;refine q.J8 (λb u _ h=>h) (λb hb=>tup _ _ hb) (λb xs hb=>tup _ _ hb)
end
def ER(wi:TI)(d6:List Nat)(n:Nat)(g:TG)(tc:TT)(te:TE):TE:=λU H Q=>wi U H λJ H1=>∃W:Nat->Nat->List V->St->Hp->Prop,(∃m,W 0 m [] (F0 U d6 n) H1)/\∀i m ys U H,W i m ys U H ->
 (J.stop i H/\∀p,H p=none->Q (.ref p) (upd H p (.lst ys))) \/
 (J.go i H/\ys.length < sizeLine/\∀ x H',J.qf i H x H'->g x U H' λcK H2=>tc cK H2 λb H3 =>
  if b=true then te cK H3 λy H4=>∃ m',m' < m/\W (i + 1) m' (ys ++ [y]) cK H4 else ∃ m',m' < m/\W (i + 1) m' ys cK H3)
noncomputable abbrev Xg(bw:List Value)(n:Nat):Obj:={ cls:=.type "list",data:=.seq bw.toArray n }
section
variable{pins:List (Addr×Obj)}{U:St}{H:Hp}
structure FU(X:Cx)(n0:Nat){α:Type}(K:Addr->α->Heap->Obj->Prop)(fin:Addr->α->HO):Prop where
 nc:∀{a y h o},K a y h o->∀v,o.data≠.cell v
 get:∀{a y h o},K a y h o->h.get? a=some o
 J8:∀{a y h h' o},K a y h o->h'.get? a=some o->K a y h' o
 done:∀{pins U H s a y o},n0<=a->Inv X pins U H s->I9 X pins H a->X.dG.heap.objs.size<=a->K a y s.heap o->Inv X pins U (upd H a (fin a y)) s
theorem JK{α:Type}{K:Addr->α->Heap->Obj->Prop}{fin:Addr->α->HO}{y0:α}{o0:Obj}{Bd:α->Prop}{tb:α->St->Hp->(α->Hp->Prop)->Prop}{body:(Shared->Prop)->Shared->Prop}{LP:Shared->Prop}{it:Addr}{tn:Nat->Heap->Prop}{J:It}{R:Result->Shared->Prop}{W:Nat->Nat->α->St->Hp->Prop}{m0:Nat}{Q:VK}{dJ:Heap}{env:Env}(G:FU X s.heap.objs.size K fin)(S:dA X scope N' d6 cl)(hc:X.calm=true)(hg:PG (f9 X pins scope N' cl C s H fp) tg g)(ht:lT (f9 X pins scope N' cl C s H fp) ifs tc)(I:Inv X pins U H s)(T:Turn X.prog X.w X.K tg J fp it tn)(st:tn 0 s.heap)(hf:∀b∈fp,I9 X pins H b)(w0:W 0 m0 y0 (F0 U d6 N'.length) H)(turn:∀ i m y U H,W i m y U H->(J.stop i H/\∀ p,H p=none->Q (.ref p) (upd H p (fin p y))) \/
   (J.go i H/\Bd y/\∀ x H',J.qf i H x H'->g x U H' λcK H2=>tc cK H2 λb H3 =>
    if b=true then tb y cK H3 λy' H4=>∃ m',m' < m/\W (i + 1) m' y' cK H4 else ∃ m',m' < m/\W (i + 1) m' y cK H3))(wA:∀s' H' m,Inv X pins U H' s'->Q (.ref s.heap.objs.size) H'->s'.heap.Ns C m->H' C=none->s.heap.objs.size<=C->R (.ok .next) s')(ph:∃m,dJ.Ns C m)(tQ:∀b o,(s.heap.push o0).get? b=some o->dJ.get? b=some o)(pB:CellsOk dJ (C+1) (cellsFrom (C+1) scope.names []))(eC:s.heap.objs.size+1=C)(k0:K s.heap.objs.size y0 dJ o0)(ev:(f9 X pins scope N' cl C s H fp).env=env)(BY:∀ y o gi cw H' s' (P:α->Hp->Prop) (R':Shared->Prop),Bd y->K s.heap.objs.size y s'.heap o->(∀ {yb H8 s8},Inv (f9 X pins scope N' cl C s H fp) gi yb H8 s8->s8.heap.get? s.heap.objs.size=some o)->Inv (f9 X pins scope N' cl C s H fp) gi cw H' s'->tb y cw H' P ->
   (∀ s8 H8 y' h' t' o',Inv (f9 X pins scope N' cl C s H fp) gi cw H8 s8->P y' H8->(∀ b u,b ≠ s.heap.objs.size->s8.heap.get? b=some u->h'.get? b=some u)->K s.heap.objs.size y' h' o'->R' { s8 with heap:=h',toks:=t' })->body R' s')(lp:∀ (I:Nat->Shared->Prop),(∀ n s,I n s->wpAny (model X.prog X.w) X.A (pyNext (.ref it)) (λr bO=>match r with
   |none=>R (.ok .next) bO
   | some v=>wpAny (model X.prog X.w) X.A (letOwnedTupleGo tg (.ref it) v) (λ_ bO=>wpAny (model X.prog X.w) X.A (assign tg env v) (λ_ gh =>
     wpAny (model X.prog X.w) X.A (forIn ifs true λc r=>if r=true then do let ok <- isTrue c env (eval c env);pure (ForInStep.yield ok) else pure (ForInStep.yield r)) (λok fQ =>
      if ok=true then body (λjw=>∃ m,m < n/\I m jw) fQ else ∃ m,m < n/\I m fQ) (λ_ _=>False) gh) (λ_ _=>False) bO) (λ_ _=>False) bO) (λ_ _=>False) s)->∀ n,I n { s with heap:=dJ }->LP { s with heap:=dJ }) :
  tn 0 dJ/\LP { s with heap:=dJ }:=by
 subst ev;generalize Qy:s.heap.push o0=H2 at tQ;generalize eD:s.heap.objs.size=D at *;have HZ:D≠C:=by omega
 have lt:∀b o,s.heap.get? b=some o->b<D:=λb o e=>by rw[<- eD];exact az e
 have yu:D<=C:=by omega
 have tL:∀b o,s.heap.get? b=some o->b≠C:=λb o e=>aM (aB (lt b o e) yu);have vx:∀b o,s.heap.get? b=some o->b≠D:=λb o e=>aM (lt b o e);have old:∀b o,s.heap.get? b=some o->dJ.get? b=some o:=λb o e=>tQ b o (Qy▸ao _ e);have lP:∀b∈fp,∃o,s.heap.get? b=some o:=λb hb=>by
  obtain⟨o,e,_⟩:=T.obj _ _ st b hb;exact⟨o,e⟩
 have HY:D∉fp:=λhm=>by
  obtain⟨o,e⟩:=lP D hm;exact vx D o e rfl
 have X1:Inv (f9 X pins scope N' cl C s H fp) [] (F0 U d6 N'.length) H { s with heap:=dJ } :=
  I.aV5 S hc hf lP (by rw[eD];omega) ph old pB
 have fW:tn 0 dJ:=T.keep _ _ _ st λb _ o e=>old b o e;have Ri:∀{H':Hp},(∀b∈fp,H' b=none)->∀b∈fp,I9 (f9 X pins scope N' cl C s H fp) [] H' b:=λhn b hb=>by
  obtain⟨f0,f1,f2,f3,f4,f5⟩:=hf b hb;obtain⟨o,e⟩:=lP b hb;refine⟨hn b hb,?_,?_,.inl hb,λx c q=>(ML pB q).elim (λl z=>absurd (cW (z▸l) (aB (lt b o e) yu)) (cc _)) λq=>f4 x c (S.cin x c q),λp hp=>?_⟩
  ·exact tL b o e
  ·exact λz=>by
    rcases aJ.mp (I.V0 b z) with z|z
    ·exact f1 z
    ·exact f2 z
  ·have iK:p∈X.pn++pins:=by simpa[f9] using hp
   exact f5 p iK
 have fD:∀{H':Hp},H' D=none->I9 (f9 X pins scope N' cl C s H fp) [] H' D:=λhn=>by
  refine⟨hn,HZ,λz=>?_,.inr (by show s.heap.objs.size<=D;omega),λx c q=>?_,λp hp=>?_⟩
  ·exact absurd (I.Dn (a:=D) ()) λiV=>by
    rcases aJ.mp (I.V0 D z) with z|z
    ·exact absurd I.lt (by rw[<- z,eD];exact cc _)
    ·exact iV z
  ·rcases ML pB q with l|q
   ·exact λz=>absurd (aB (z▸l) yu) (cc _)
   ·obtain⟨v,o,e,_⟩:=I.cell x c (S.cin x c q);exact vx c o e
  ·have iK:p∈X.pn++pins:=by simpa[f9] using hp
   exact vx _ _ (I.pin p iK).1
 refine⟨fW,lp (λn s'=>∃(i:Nat) (y:α) (cw:St) (H':Hp) (o:Obj),Inv (f9 X pins scope N' cl C s H fp) [] cw H' s'/\tn i s'.heap/\(∀b∈fp,H' b=none)/\H' D=none/\K D y s'.heap o/\W i n y cw H') ?_ m0 ⟨0,y0,_,H,o0,X1,fW,λb hb=>(hf b hb).1,I.bY.fresh (),k0,w0⟩⟩;rintro n s3 ⟨i,y,ji,H3,o,I3,kj,wJ,d3,k3,w3⟩;have NI:Inv (f9 X pins scope N' cl C s H fp) [(D,o)] ji H3 s3:=I3.Z8 λp hp=>by
  have z:p=(D,o):=by simpa using hp
  subst z;obtain⟨f0,f1,f2,_⟩:=fD d3;exact⟨G.get k3,f0,f1,f2,G.nc k3⟩
 have ug:∀{H':Hp},(∀b∈fp,H' b=none)->∀b∈fp,I9 (f9 X pins scope N' cl C s H fp) [(D,o)] H' b:=λ{H'} hn b hb=>by
  obtain⟨f0,f1,f2,f3,f4,f5⟩:=Ri hn b hb;refine⟨f0,f1,f2,f3,f4,λp hp=>?_⟩;have iK:p∈(f9 X pins scope N' cl C s H fp).pn\/p=(D,o):=by simpa using hp
  rcases iK with z|z
  ·exact f5 p (bz _ z)
  ·subst z;exact λz=>HY (by rw[show D=b from z];exact hb)
 rcases turn i n y ji H3 w3 with⟨stop,q⟩|⟨go,hz,step⟩
 ·refine cV (T.done (f9 X pins scope N' cl C s H fp) rfl rfl rfl rfl i _ s3 _ H3 _ NI (ug wJ) kj stop) λr s4 ⟨hr,I4⟩=>?_;subst hr;have J4:Inv X pins U H3 s4:=I.VM hf I4;have Rj:I9 X pins H3 D:=by
   refine⟨d3,cu (by rw[<- eD];exact I.lt),I.Dn (),.inr (by have:=I.sz;omega),λx c q=>?_,λp hp=>?_⟩
   ·obtain⟨v,o,e,_⟩:=I.cell x c q;exact vx c o e
   ·exact vx _ _ (I.pin p hp).1
  obtain⟨mC,PJ,_⟩:=I4.loc;exact wA s4 _ mC (G.done (aw _) J4 Rj (by have:=I.sz;omega) (G.J8 k3 (I4.pin (D,o) (by simp)).1)) (q D d3) PJ (by rw[i6 HZ.symm];exact I4.free) yu
 ·refine cV (T.item (f9 X pins scope N' cl C s H fp) rfl rfl rfl rfl i _ s3 _ H3 _ NI (ug wJ) kj go) λr s4 ⟨u,hr,h4⟩=>?_;subst hr;refine cV h4 λ_ s5 bG=>?_;obtain⟨x,H5,I5,r5,y5,oU,CC⟩:=bG;have FT:=I5.pinned (ug CC) (T.obj _ _ oU);refine cV (hg _ s5 _ H5 x u _ FT r5 (step x H5 y5)) λ_ s6 bG=>?_;obtain⟨qV,H6,I6,q6⟩:=bG;refine cV (ht _ s6 qV H6 _ I6 q6) λok s7 ⟨H7,I7,q7⟩=>?_;have back:∀{yb:St} {H8:Hp} {s8:Shared},Inv (f9 X pins scope N' cl C s H fp) ([(D,o)]++xr fp s5.heap) yb H8 s8->(∀b∈fp,H8 b=none)/\tn (i+1) s8.heap/\H8 D=none/\s8.heap.get? D=some o :=
   λ{yb H8 s8} I8=>by
    have pf:∀b∈fp,∀o,s5.heap.get? b=some o->s8.heap.get? b=some o/\H8 b=none:=λb hb o e=>by
     have:=I8.pin (b,o) (aW _ (aW _ (Eo hb e)));exact⟨this.1,this.2.1⟩
    have pd:=I8.pin (D,o) (by simp);refine⟨λb hb=>?_,T.keep _ _ _ oU λb hb o e=>(pf b hb o e).1,pd.2.1,pd.1⟩;obtain⟨o,e,_⟩:=T.obj _ _ oU b hb;exact(pf b hb o e).2
  cases ok with
  |false =>
   obtain⟨m',hm,w7⟩:=q7;obtain⟨b1,b2,b3,b4⟩:=back I7;exact⟨m',hm,i+1,y,qV,H7,o,I7.Z8 λp hp=>absurd hp (by simp),b2,b1,b3,G.J8 k3 b4,w7⟩
  |true =>
   refine BY y o _ qV H7 s7 _ _ hz (G.J8 k3 (back I7).2.2.2) (λI8=>(back I8).2.2.2) I7 q7 λs8 H8 y' h' t' o' I8 ⟨m',hm,w8⟩ kp k8=>?_;obtain⟨b1,b2,b3,b4⟩:=back I8;have I8':Inv (f9 X pins scope N' cl C s H fp) [] qV H8 s8:=I8.Z8 λp hp=>absurd hp (by simp);obtain⟨f0,f1,f2,f3,f4,f5⟩:=fD (H':=H8) b3;exact⟨m',hm,i+1,y',qV,H8,o',I8'.turned (it:=D) (t':=t') (λb o hb e=>kp b o hb e) f0 f1 f3 f4 f5,T.keep _ _ _ b2 λb hb o e=>kp b o (λz=>HY (by rw[<- z];exact hb)) e,b1,b3,k8,w8⟩
def KL(a:Addr)(ys:List V)(h:Heap)(o:Obj):Prop:=∃bw n,Vals ys bw/\ys.length<=sizeLine/\o=Xg bw n/\h.get? a=some o
theorem VT{n0:Nat}:FU X n0 KL λ_ ys=>.lst ys where
 nc:=λ⟨_,_,_,_,e,_⟩ v z=>by subst e;cases z
 get:=λ⟨_,_,_,_,_,e⟩=>e
 J8:=λ⟨bw,n,h1,h2,h3,_⟩ e=>⟨bw,n,h1,h2,h3,e⟩
 done:=λ_ I f hs ⟨bw,n,h1,h2,h3,e⟩=>I.ZE f hs h1 h2 (h3▸e)
theorem Kq{it:Addr}{tn:Nat->Heap->Prop}{J:It}{xx:Addr->Shared->Hp->Value->Shared->Prop}{RR:Value->Addr->Result->Shared->Prop}{E:Value->Shared->Prop}{W:Nat->Nat->List V->St->Hp->Prop}{m0:Nat}{Q:VK}(S:dA X scope N' d6 cl)(hc:X.calm=true)(hg:∀C s H,PG (f9 X pins scope N' cl C s H fp) tg g)(ht:∀C s H,lT (f9 X pins scope N' cl C s H fp) ifs tc)(he:∀C s H,PE ((f9 X pins scope N' cl C s H fp).pX (xx C s H)) elt te)(I:Inv X pins U H s)(T:Turn X.prog X.w X.K tg J fp it tn)(st:tn 0 s.heap)(hf:∀b∈fp,I9 X pins H b)(w0:W 0 m0 [] (F0 U d6 N'.length) H)(turn:∀ i m ys U H,W i m ys U H->(J.stop i H/\∀ p,H p=none->Q (.ref p) (upd H p (.lst ys))) \/
   (J.go i H/\ys.length < sizeLine/\∀ x H',J.qf i H x H'->g x U H' λcK H2=>tc cK H2 λb H3 =>
    if b=true then te cK H3 λy H4=>∃ m',m' < m/\W (i + 1) m' (ys ++ [y]) cK H4 else ∃ m',m' < m/\W (i + 1) m' ys cK H3))(wA:∀D C s' H' m,Inv X pins U H' s'->Q (.ref D) H'->s'.heap.Ns C m->H' C=none->s.heap.objs.size<=C->RR (.ref D) C (.ok .next) s')(Qu:∀D C e s',s.heap.objs.size<=C->xx C s H e s'->notedBy (model X.prog X.w) X.A (compEnvC scope (E9 scope cl C) C X.env) (λe s'=>RR (.ref D) C (.error e) s') e s') :
  wpAny (model X.prog X.w) X.A (newList []) (λacc fQ=>wpAny (model X.prog X.w) X.A (newFunctionEnv scope X.env.globals cl [] X.env.qual none .none (some X.env)) (λmO iN =>
   mO.frame=X.env.frame/\codeAny (model X.prog X.w) X.A (.compStart (.ListComp elt [⟨tg,iter,ifs,0⟩] scope pos) 0 (.ref it) acc { mO with scope:=relabel scope X.env }) (RR acc mO.locals) iN) E fQ) E s:=by
 refine dP (Lr λdJ jC ij pB=>?_);dsimp only at jC ij pB ⊢;have eC:(s.heap.push { cls:=.type "list",dict:=none,data:=.seq ([]:List Value).toArray }).objs.size=s.heap.objs.size+1:=fj ..
 replace eC:=eC.symm
 generalize (s.heap.push { cls:=.type "list",dict:=none,data:=.seq ([]:List Value).toArray }).objs.size=C at *;refine (λL=>⟨rfl,codeAny_compStart_list L.2 (T.self _ 0 _ _ _ L.1 L.2)⟩) (JK (R:=RR (.ref s.heap.objs.size) C) (LP:=codeAny (model X.prog X.w) X.A (.compLoop (.ListComp elt [⟨tg,iter,ifs,0⟩] scope pos) 0 (.ref it) (.ref s.heap.objs.size) (compEnvC scope (E9 scope cl C) C X.env)) (RR (.ref s.heap.objs.size) C)) (tb:=λys U H P=>te U H λy H'=>P (ys ++ [y]) H') (env:=compEnvC scope (E9 scope cl C) C X.env)
  (body:=λP fQ=>wpAny (model X.prog X.w) X.A (eval elt (compEnvC scope (E9 scope cl C) C X.env)) (λx iN=>wpAny (model X.prog X.w) X.A (call (.builtin "list.append") [.ref s.heap.objs.size,x]) (λ_ jw=>P jw) (λ_ _=>False) iN) (notedBy (model X.prog X.w) X.A (compEnvC scope (E9 scope cl C) C X.env) λe s'=>RR (.ref s.heap.objs.size) C (.error e) s') fQ)
  VT S hc (hg C s H) (ht C s H) I T st hf w0 turn (λs' H' m=>wA _ C s' H' m) ⟨_,jC⟩ ij pB eC ⟨[],0,.nil,bW _,rfl,ij _ _ (aE _ rfl)⟩ rfl (λys o gi cw H' s' P R' hz k hb I' q hR=>?_) (λI turn n h=>aI6 I turn n h))
 ·refine bH (he C s H _ s' cw H' _ (I'.pX _) q) (λxv s8 bG=>?_) λe s' hx=>Qu _ C e s' () hx;obtain⟨y,H8,I8,r8,q8⟩:=bG;have I8:=I8.FC;obtain⟨bw,nn,v3,z3,rfl,_⟩:=k;have b4:=hb I8;refine nv F.slot_list_append ⟨_,b4,rfl⟩ F.entry_list_append (F.args_list_append_2 _ _) (PySem.list_append _ bw.toArray nn xv (by rw[aX];have:=v3.length;omega)) ⟨b4,?_⟩;have q0:=PySem.IsL.update b4 (·.push xv);rw[show bw.toArray.push xv=(bw++[xv]).toArray by simp] at q0;exact hR s8 H8 _ _ s8.toks _ I8 q8 (λb' u hb hu=>(df s8.heap (Obj.mapSeq (·.push xv)) (cq hb)).trans hu) ⟨_,_,v3.append (.cons r8 .nil),by rw[bI,xY];omega,rfl,q0⟩
theorem Inv.Jl{h':Heap}{s2:Shared}{H2:Hp}(I:Inv X pins U H s)(hC:s2.heap.objs.size<=C)(I2:Inv X pins U H2 s2)(hn:H C=none)(sb:Heap.SameBut C s.heap h'):Inv X pins U H { s with heap:=h' }:=by
 have f:=I2.qL (b:=C) (H':=H) hC hn;obtain⟨f0,f1,f2,f3,f4,f5⟩:=f;exact I.turned (t':=s.toks) (λb o hb e=>sb.extBut b o hb e) f0 f1 f3 f4 f5
theorem Ks{M:Model}{E:Value->Shared->Prop}{a:Sem Value}{b:Sem Env}{P:Env->Prop}{Q:Value->Env->Shared->Prop}(h:wpAny M A a (λx s1=>wpAny M A b (λy s2=>P y/\Q x y s2) E s1) E s):wpAny M A a (λx s1=>wpAny M A b (λy s2=>Q x y s2) E s1) E s :=
 bH h (λ_ _ h=>bH h (λ_ _ h=>h.2) λ_ _ z=>z) λ_ _ z=>z
theorem Mn{wi:TI}(S:dA X scope N' d6 cl)(hc:X.calm=true)(hi:PI X tg iter wi)(hg:∀pins C s H fp,PG (f9 X pins scope N' cl C s H fp) tg g)(ht:∀pins C s H fp,lT (f9 X pins scope N' cl C s H fp) ifs tc)(he:∀pins C s H fp,PE (f9 X pins scope N' cl C s H fp) elt te)(hs:∀x,foldedSetIterable iter X.env x=pure x):PE X (.ListComp elt [⟨tg,iter,ifs,0⟩] scope pos) (ER wi d6 N'.length g tc te):=by
 intro pins s U H Q I h;refine jr (use:=none) rfl hs S.sD S.kind S.names (cV (hi pins s U H _ I h) λxv bO dJ=>cV dJ λvO gh jB=>?_);obtain⟨it,fp,tn,J,H2,e,I2,T,gB,f2,W,⟨m0,w0⟩,turn⟩:=jB;subst e;refine Ks (Kq (xx:=λ_ _ _ _ _=>False) (RR:=λacc C=>compPost (model X.prog X.w) X.A X.xe none (EP X pins U Q) acc C) S hc (λC s H=>hg pins C s H fp) (λC s H=>ht pins C s H fp) (λC s H=>he pins C s H fp) I2 T gB f2 w0 turn ?_ λ_ _ _ _ _ z=>z.elim);intro D C s' H' m I' q hn hC hsz;exact⟨m,hn,λh' sb=>⟨.ref D,H',I'.Jl hsz I2 hC sb,rfl,q⟩⟩
theorem aK7{vc px:Pos}{wi:TI}{i:Nat}(S:dA X scope N' d6 cl)(hc:X.calm=true)(hi:PI X tg iter wi)(hg:∀pins C s H fp,PG (f9 X pins scope N' cl C s H fp) tg g)(ht:∀pins C s H fp,lT (f9 X pins scope N' cl C s H fp) ifs tc)(he:∀pins C s H fp,PE (f9 X pins scope N' cl C s H fp) elt te)(hs:∀x,foldedSetIterable iter X.env x=pure x)(hN:X.Nd)(wg:X.N[i]?=some x)(hx:Loc X.env.scope x)(hf:X.fn x=true\/X.env.scope.names.lookup x=some .local) :
  PS X (.Assign [.Name x px] (.ListComp elt [⟨tg,iter,ifs,0⟩] scope pos) vc) (xG (ER wi d6 N'.length g tc te) (uC i)):=by
 intro pins s U H D I h;have yA:∃b,swapsWith (.ListComp elt [⟨tg,iter,ifs,0⟩] scope pos) (some (.Name x px)) vc.line X.env=pure b:=⟨_,rfl⟩
 obtain⟨b,yA⟩:=yA;cases b with
 |false=>exact Lv hN wg hx (Mn S hc hi hg ht he hs) yA hf pins s U H D I h
 |true =>
  rw[exec_Assign_Name_used _ _ _ _ yA];refine ae (fH (ae ?_));refine ae (bH (jr (use:=some (assign (.Name x px) X.env)) (Q:=λ_ s'=>SP X pins D .next s') rfl hs S.sD S.kind S.names
   (cV (hi pins s U H _ I h) λxv bO dJ=>cV dJ λvO gh jB=>?_)) (λ_ s' hq=>au (au hq)) λ_ _ e=>e)
  obtain⟨it,fp,tn,J,H2,e,I2,T,gB,f2,W,⟨m0,w0⟩,turn⟩:=jB;subst e;refine Ks (Kq (xx:=λ_ _ _ _ _=>False) (Q:=λv H1=>uC i v U H1 D.nx) (RR:=λacc C=>compPost (model X.prog X.w) X.A X.xe (some (assign (.Name x px) X.env)) (λ_ s'=>SP X pins D .next s') acc C) S hc (λC s H=>hg pins C s H fp) (λC s H=>ht pins C s H fp) (λC s H=>he pins C s H fp) I2 T gB f2 w0 turn ?_ λ_ _ _ _ _ z=>z.elim);intro Dl C s' H' m I' q hn hC hsz;refine wpAny_assign_Name (Kj I' hN wg hx (v:=.ref Dl) rfl (λs3 I3 ⟨a,sb,ha⟩=>?_) hf);have QA:C≠a:=by
   obtain⟨f0,f1,f2,f3,f4,f5⟩:=I2.qL (b:=C) (H':=H') hsz hC;rcases ha with z|z
   ·rw[z];exact f1
   ·exact λz'=>f4 _ _ z z'.symm
  obtain⟨f0,f1,f2,f3,f4,f5⟩:=I2.qL (b:=C) (H':=H') hsz hC;refine⟨m,hn.sameBut sb QA,λh3 Ow=>⟨_,H',I3.turned (t':=s3.toks) (λb o hb e=>Ow.extBut b o hb e) f0 f1 f3 f4 f5,q⟩⟩
end
end L2
namespace HT
open PySem PyProof.Rows
end HT
namespace L2
open PySem PySem.Spec PyProof.Rows
section
variable{X:Cx}
theorem aL9:p9 X (.builtin "isinstance") (λxs H Q=>∃x t c b,xs=[x,.ty c]/\iH X.K H x t/\PySem.W.kitOne X.K t (.type c)=some b/\Q (.bl b) H):=by
 intro pins s U H xs us Q I r h;obtain⟨x,t,c,b,rfl,hT,hk,q⟩:=h;obtain⟨u,w',rfl,ru,gH⟩:=vals2 r;cases (show w'=Value.type c from gH);exact a31 I ru hT hk λtk=>⟨.bl b,H,I.tok tk,rfl,q⟩
theorem a51(hc:X.calm=true):p9 X (.builtin "all") (λxs H Q=>∃(a:Addr) (bs:List Bool),xs=[.ref a]/\gn X.K H a (bs.map V.bl)/\Q (.bl (bs.all id)) H):=by
 intro pins s U H xs us Q I r h;obtain⟨a,bs,rfl,ha,q⟩:=h;obtain⟨u,rfl,ru⟩:=vals1 r;cases ru;obtain⟨bw,rv,p,hz⟩:=I.list ha;refine call_all_walk ?_;refine gp p.isList ?_;have fR:a≠s.heap.objs.size:=by
  obtain⟨o,e,_⟩:=id p.isList;exact aM (az e)
 have hl:=rv.length;rw[ak] at hl;refine⟨s.heap.objs.size,_,_,_,_,_,λi=>bs.getD i true,rfl,Az (A:=X.A.in1) (I.ok.hd hc) _ a fR bw.toArray,⟨⟨_,aE _ rfl,rfl,rfl⟩,?_⟩,?_,λh' tk k=>?_⟩
 ·obtain⟨o,e,q1⟩:=id p.isList;exact⟨o,ao _ e,q1⟩
 ·intro i v s' Q' E' hP hQ;have hv:bw[i]?=some v:=by simpa using hP
  have hi:i<bs.length:=by rw[hl];exact(av.mp hv).1
  obtain⟨u',vR,AW⟩:=rv.get (i:=i) (x:=V.bl bs[i]) (by rw[ai,ag hi];rfl);rw[hv] at vR;cases vR;cases (show v=Value.bool bs[i] from AW);refine cO ?_;have:bs.getD i true=bs[i]:=by simp[List.getD,hi]
  dsimp only at hQ;rw[this] at hQ;exact hQ
 ·have e1:(List.range bw.toArray.size).all (λi=>bs.getD i true)=bs.all id:=by
   rw[aX,<- hl];rw[aY];simp only[List.all_eq_true,List.mem_range,id];constructor
   ·intro hh x hx;obtain⟨i,hi,rfl⟩:=bo.mp hx;have:=hh i hi;simpa[List.getD,hi] using this
   ·intro hh i hi;have:=hh bs[i] (cC hi);simpa[List.getD,hi] using this
  rw[e1];exact ⟨.bl (bs.all id),H,I.kept (t':=tk) λb o e=>k b o (by
   intro hb;have:b=s.heap.objs.size:=by simpa using hb
   exact absurd (az e) (by rw [this];exact cc _)) (ao _ e),rfl,q⟩
end
end L2
namespace HT
open PySem PyProof.Rows
end HT
namespace L2
open PySem PySem.Spec PyProof.Rows
variable{X:Cx}{pos p:Pos}{w:World}{H H':Hp}{U:St}{s s':Shared}{B:Heap}{ea C:Addr}{a0:Value}{ta:TA}
theorem u6.get{P:Program}{h:Heap}{a:Addr}:∀{o:HO},u6 P w H h a o->∃ob,h.get? a=some ob
 |.lst _,x=>by obtain⟨_,_,_,_,e⟩:=x;exact⟨_,e⟩
 |.tup _,x=>by obtain⟨_,_,_,o,e,_⟩:=x;exact⟨o,e⟩
 |.dK _,x=>by obtain⟨_,_,_,_,o,es,ep,e,_⟩:=x;exact⟨o,e⟩
 |.dT _,x=>by obtain⟨_,_,_,_,o,es,ep,e,_⟩:=x;exact⟨o,e⟩
 |.set _ _,x=>by obtain⟨o,es,ep,t,e,_⟩:=x;exact⟨o,e⟩
 |.ins _ _ _,x=>by obtain⟨_,_,_,e,_⟩:=x;exact⟨_,e⟩
 |.own _,x=>x
 |.xd _,x=>by obtain⟨mA,n,_⟩:=x;obtain⟨od,e,_⟩:=JY n;exact⟨od,e⟩
 |.ng _ _,x=>by obtain⟨_,_,_,e⟩:=x;exact⟨_,e⟩
 |.kq _ _,x=>⟨_,x.1⟩
 |.lV _,x=>⟨_,x⟩
 |.met _ _,x=>⟨_,x⟩
 |.ext _,x=>x.2.1
def Er(H':Hp)(h0:Heap)(l:List Env)(e:Value)(C:Addr)(h:Heap):Prop :=
 ∃(ea:Addr) (a0:Value) (B:Heap),e=.ref ea/\Heap.FlyingW B l ea (.ref C) a0 h/\∀b o,h.get? b=some o->b∉gE l->(H' b≠none\/∃o0,h0.get? b=some o0)->B.get? b=some o
def jJ(P:Program)(w:World):oq:=λouter H s E e s'=>∃(C:Addr) (H':Hp),s'.os=s.os/\AllBare s'.gens/\Un (gE outer) [] H H' s.heap s'.heap/\gK P w H' s'.heap/\Er H' s.heap outer e C s'.heap/\E (.ref C) none H'
section
variable{pins:List (Addr×Obj)}{E:XK}{e:Value}
theorem Inv.flew(I:Inv X pins U H s)(h:jJ X.prog X.w X.stack H s E e s'):∃C H',Inv X pins U H' s'/\Er H' s.heap X.stack e C s'.heap/\E (.ref C) none H':=by
 obtain⟨C,H',ho,hb,hu,bY,fl,hE⟩:=h;exact⟨C,H',I.EA (ch:=[]) ho hu bY hb (by simp),fl,hE⟩
theorem zI(I:Inv X pins U H s){b:Addr}(hb:b∈gE X.stack):∃o,s.heap.get? b=some o/\∀vs,o.data≠.fields vs:=(I.stack.mem hb).2
theorem ED{oI:Heap}(I:Inv X pins U H s)(eT:X.stack=X.env::X.outer)(hex:X.ex=[])(hf:X.env.frame=some X.env.locals)(tN:∀b o,s.heap.get? b=some o->b∉gE X.stack->(H b≠none\/∃o0,X.dG.heap.get? b=some o0)->B.get? b=some o)(sl:∀b∈gE X.stack,∀o,s.heap.get? b=some o->∃sl,oI.get? b=some { o with slots:=sl })(fw:Heap.FlyingW B X.outer ea (.ref C) a0 oI)(hE:E (.ref C) none H):jJ X.prog X.w X.outer X.jU X.dG E (.ref ea) { s with heap:=oI }:=by
 have Bv:∀b,b∈gE X.outer->b∈gE X.stack:=λb hb=>by rw[eT];unfold gE at hb ⊢;rw[eZ,hf];exact bE _ hb
 have vq:∀b o,X.dG.heap.get? b=some o->b∉gE X.outer->b∉gE X.stack:=λb o e hb z=>by
  rcases aJ.mp (I.V0 b z) with z|z
  ·exact absurd (az e) (by rw[z];exact NT.mpr I.ok.above)
  ·exact hb z
 have oS:∀b u,H b=some u->b∉gE X.stack:=λb u e z=>by rw[I.zH b z] at e;cases e
 have kept:∀b o,s.heap.get? b=some o->b∉gE X.stack->(H b≠none\/∃o0,X.dG.heap.get? b=some o0)->oI.get? b=some o:=λb o e n q=>fw.1 b o (tN b o e n q);have vw:∀b,b∉X.ex:=λb=>by rw[hex];simp
 refine⟨C,H,I.os,I.bare,⟨?_,?_,?_,?_,I.base.iZ,I.base.iP,I.base.ja⟩,?_,⟨ea,a0,B,rfl,fw,?_⟩,hE⟩
 ·exact λb o e n1 n2 _=>kept b o (I.base.keep b o e n1 n2 (vw b)) (vq b o e n2) (.inr ⟨o,e⟩)
 ·intro b o e n1 n2 _;obtain⟨Ou,e1⟩:=I.base.slot b o e n1 n2 (vw b);obtain⟨vh,e2⟩:=sl b (Bv b n2) _ e1;exact⟨vh,e2⟩
 ·exact λb o e n1 _=>I.base.free b o e n1 (vw b)
 ·intro b o e _;obtain⟨o1,e1⟩:=I.base.there b o e (vw b);by_cases hb:b∈gE X.stack
  ·obtain⟨vh,e2⟩:=sl b hb _ e1;exact⟨_,e2⟩
  ·exact⟨o1,kept b o1 e1 hb (.inr ⟨o,e⟩)⟩
 ·intro a o e;exact (I.bY a o e).J8 (λb u hb q=>by
   have lA:∃v,H b=some v:=by
    rcases hb with rfl|hb
    ·exact⟨o,e⟩
    ·exact⟨_,hb⟩
   obtain⟨v,hv⟩:=lA;exact kept b u q (oS b v hv) (.inl (by rw [hv];simp))) (λb hb=>hb) (λb xs hb=>hb)
 ·intro b o e n q;rcases q with q|⟨o0,q⟩
  ·obtain⟨v,hv⟩:=oO.mp q;obtain⟨o1,e1⟩:=(I.bY b v hv).get;have z:=tN b o1 e1 (oS b v hv) (.inl (by rw[hv];simp));have z':=fw.1 b o1 z;have:o=o1:=by
    have e':oI.get? b=some o:=e;rw[z'] at e';exact(aP e').symm
   subst this;exact z
  ·obtain⟨o1,e1⟩:=I.base.there b o0 q (vw b);have z:=tN b o1 e1 (vq b o0 q n) (.inr ⟨o0,q⟩);have z':=fw.1 b o1 z;have:o=o1:=by
    have e':oI.get? b=some o:=e;rw[z'] at e';exact(aP e').symm
   subst this;exact z
theorem aH0{h0:Heap}{Ex:Value->Shared->Prop}(I:Inv X pins U H s)(fl:Er H h0 X.stack e C s.heap)(QU:∀b o,X.dG.heap.get? b=some o->∃o',h0.get? b=some o')(eT:X.stack=X.env::X.outer)(hex:X.ex=[])(hf:X.env.frame=some X.env.locals)(hE:E (.ref C) none H):wpAny (model X.prog X.w) X.A (leaving X.env e) (λ_ oV=>jJ X.prog X.w X.outer X.jU X.dG E e oV) Ex s:=by
 obtain⟨ea,a0,B,rfl,fw,hB⟩:=fl;rw[eT] at fw;refine wpAny_leaves_onW (by rw[I.ok.frames,eT]) hf fw λoI yY us=>?_;refine ED I eT hex hf (λb o e n q=>hB b o e n (q.imp id λ⟨o0,q⟩=>QU b o0 q)) (λb hb o e=>?_) yY hE;obtain⟨o1,e1,nf⟩:=zI I hb;rw[e] at e1;cases e1;exact us b o e nf
theorem aU3{h':Heap}{vs:List Value}{Ex:Value->Shared->Prop}(I:Inv X pins U H s)(hx:Heap.MadeExcOf s.heap h' ea (.ref C) vs)(eT:X.stack=X.env::X.outer)(hex:X.ex=[])(hf:X.env.frame=some X.env.locals)(hE:E (.ref C) none H):wpAny (model X.prog X.w) X.A (leaving X.env (.ref ea)) (λ_ oV=>jJ X.prog X.w X.outer X.jU X.dG E (.ref ea) oV) Ex { s with heap:=h' }:=by
 have tV:=I.stack;rw[eT] at tV;have lx:∀env∈(X.env::X.outer),∀b,env.frame=some b->b∈gE X.stack:=λenv he b hb=>by rw[eT];exact kH.mpr ⟨env,he,hb⟩
 refine wpAny_leaves_madeW (s:={ s with heap:=h' }) (base:=PySem.W.hideAll s.heap (gE X.stack)) (h:=s.heap) (by rw[I.ok.frames,eT]) hf (λb o q=>NQ _ q) (PySem.W.funFrames_hide tV lx) hx λoI t fw _ _ us=>?_;refine(show jJ X.prog X.w X.outer X.jU X.dG E (.ref ea) { s with heap:=oI } from ED I eT hex hf (λb o e n _=>FY _ e n) (λb hb o e=>?_) fw hE);obtain⟨o1,e1,nf⟩:=zI I hb;rw[e] at e1;cases e1;exact us b o (hx.keeps b o e) nf
theorem a62{l:List Env}{h0 h h1:Heap}{Pg:Program}(u:Un (gE l) [] H H' h0 h)(ok:gK Pg w H' h)(hB:∀b o,h.get? b=some o->b∉gE l->(H' b≠none\/∃o0,h0.get? b=some o0)->B.get? b=some o)(st:B.StaysIn h1)(us:h.UpToSlots h1)(HB:∀b∈gE l,H' b=none/\∃o,h.get? b=some o/\∀vs,o.data≠.fields vs):Un (gE l) [] H H' h0 h1/\gK Pg w H' h1/\∀b o,h1.get? b=some o->b∉gE l->(H' b≠none\/∃o0,h0.get? b=some o0)->B.get? b=some o:=by
 have oS:∀b u,H' b=some u->b∉gE l:=λb u e z=>by rw[(HB b z).1] at e;cases e
 have kept:∀b o,h.get? b=some o->b∉gE l->(H' b≠none\/∃o0,h0.get? b=some o0)->h1.get? b=some o:=λb o e n q=>st b o (hB b o e n q);have Ik:∀b∈gE l,∀o,h.get? b=some o->∃sl,h1.get? b=some { o with slots:=sl }:=λb hb o e=>by
  obtain⟨_,o1,e1,nf⟩:=HB b hb;rw[e] at e1;cases e1;exact us b o e nf
 refine⟨⟨?_,?_,u.free,?_,u.iZ,u.iP,u.ja⟩,?_,?_⟩
 ·exact λb o e n1 n2 n3=>kept b o (u.keep b o e n1 n2 n3) n2 (.inr ⟨o,e⟩)
 ·intro b o e n1 n2 n3;obtain⟨Ou,e1⟩:=u.slot b o e n1 n2 n3;obtain⟨vh,e2⟩:=Ik b n2 _ e1;exact⟨vh,e2⟩
 ·intro b o e n;obtain⟨o1,e1⟩:=u.there b o e n;by_cases hb:b∈gE l
  ·obtain⟨vh,e2⟩:=Ik b hb _ e1;exact⟨_,e2⟩
  ·exact⟨o1,kept b o1 e1 hb (.inr ⟨o,e⟩)⟩
 ·intro a o e;exact (ok a o e).J8 (λb u hb q=>by
   have lA:∃v,H' b=some v:=by
    rcases hb with rfl|hb
    ·exact⟨o,e⟩
    ·exact⟨_,hb⟩
   obtain⟨v,hv⟩:=lA;exact kept b u q (oS b v hv) (.inl (by rw [hv];simp))) (λb hb=>hb) (λb xs hb=>hb)
 ·intro b o e n q;have:∃o1,h.get? b=some o1:=by
   rcases q with q|⟨o0,q⟩
   ·obtain⟨v,hv⟩:=oO.mp q;exact(ok b v hv).get
   ·exact u.there b o0 q (by simp)
  obtain⟨o1,e1⟩:=this;have z:=hB b o1 e1 n q;rw[st b o1 z] at e;cases e;exact z
structure Lies(X:Cx)(H H':Hp)(s:Shared)(B:Heap)(ea C:Addr)(a0:Value)(s':Shared):Prop where
 os:s'.os=s.os
 bare:AllBare s'.gens
 un:Un (gE X.stack) [] H H' s.heap s'.heap
 bY:gK X.prog X.w H' s'.heap
 tN:∀b o,s'.heap.get? b=some o->b∉gE X.stack->(H' b≠none\/∃o0,s.heap.get? b=some o0)->B.get? b=some o
theorem Lies.inv(I:Inv X pins U H s)(l:Lies X H H' s B ea C a0 s'):Inv X pins U H' s':=I.EA (ch:=[]) l.os l.un l.bY l.bare (by simp)
theorem leave_held{Ex:Value->Shared->Prop}(I:Inv X pins U H s)(l:Lies X H H' s B ea C a0 s')(hh:Heap.HeldW B X.stack ea (.ref C) a0 X.env.locals s'.heap)(eT:X.stack=X.env::X.outer)(hex:X.ex=[])(hf:X.env.frame=some X.env.locals)(hE:E (.ref C) none H'):wpAny (model X.prog X.w) X.A (leaving X.env (.ref ea)) (λ_ oV=>jJ X.prog X.w X.outer X.jU X.dG E (.ref ea) oV) Ex s':=by
 have J:=l.inv I;have BQ:=hh;rw[eT] at BQ;refine ae (wpAny_noteFrame_againW hf BQ.2.2.2 ?_);refine wpAny_landsW BQ λoI fl us=>?_;obtain⟨k1,k2,⟨_,_,k3⟩,k4⟩:=fl;refine ED J eT hex hf (λb o e n q=>l.tN b o e n (q.imp id λ⟨o0,q⟩=>I.base.there b o0 q (by rw[hex];simp))) (λb hb o e=>?_) ⟨k1,k2,k3,k4⟩ hE;obtain⟨o1,e1,nf⟩:=zI J hb;rw[e] at e1;cases e1;exact us b o e nf
def zx(X:Cx)(Ξ:XK):Prop:=∀(pins:List (Addr×Obj)) (U:St) (H:Hp) (s:Shared) (h':Heap) (ea C:Addr) (vs:List Value),Inv X pins U H s->Heap.MadeExcOf s.heap h' ea (.ref C) vs->Ξ (.ref C) none H->X.xe (.ref ea) { s with heap:=h' }
def xk(X:Cx)(Ξ:XK):Prop:=∀(pins:List (Addr×Obj)) (U:St) (H H':Hp) (s s':Shared) (B:Heap) (ea C:Addr) (a0:Value),Inv X pins U H s->Lies X H H' s B ea C a0 s'->Heap.HeldW B X.stack ea (.ref C) a0 X.env.locals s'.heap->Ξ (.ref C) none H'->X.xe (.ref ea) s'
def Tg(C:Addr)(Ξ:XK)(t:TA):TS:=λ_ U H=>t U H λvs H1=>vs.length<=sizeLine/\Ξ (.ref C) none H1
theorem a97{x:Str}{B newId ie:String}{bm:List Value}{np gF:Pos}{kr:Expr}{rest:List Expr}{t:TA}{Ξ:XK}(hc:X.calm=true)(O:OwnCls x C bm newId X.mg X.base)(FB:ExcBaseFacts B newId ie bm)(hg:Gl X x)(ha:PA X (kr::rest) t)(hr:zx X Ξ)(he:starEach (kr::rest) X.env=(false,eval kr X.env)::starEach rest X.env)(ik:(backTo gF (starEach rest X.env)).any (·.1)=false)(hd:(x==("__debug__":Str))=false) :
  PS X (.Raise (some (.Call (.Name x np) (kr::rest) [] gF)) none pos) (Tg C Ξ t):=by
 intro pins s U H D I h;obtain⟨tl,N,nm,q,bs,hdct,sn,sub,ab,col,dd,k0,k1,k2,k3,k5,mN,hC,hN,yC,T⟩:=O.obj;refine wpAny_Raise_call_subT (C:=C) (nm:=nm) (q:=q) (N:=N) (bs:=bs) (bm:=tl) (hdct:=hdct) (sn:=sn) (sub:=sub) (ab:=ab) (col:=col) (dd:=dd) (k0:=k0) (k1:=k1) (k2:=k2) (k3:=k3) (k5:=k5)
  FB (mN:=mN) (T.hasType FB.hasBase) (I.ok.hd hc) (by rw[he];show(false||(backTo gF (starEach rest X.env)).any (·.1))=false;rw[ik];rfl) yC (P7 I hg O.bound ⟨rfl,?_⟩ hd)
 have h':=ha gF pins s U H _ I h;rw[he] at h' ⊢;refine Calls.evalArgs_plain (bH h' (λvs gh jB=>?_) λ_ _ y=>y);obtain⟨ws,H1,I1,rv,hz,hE⟩:=jB;exact⟨rfl,by rw[<- rv.length];exact hz,I1.bk _ _ hC,hN.keeps I1.bk,T.keeps I1.bk,λh2 ea hm=>hr pins U H1 gh h2 ea C vs I1 hm hE⟩
def V9(X:Cx)(pins:List (Addr×Obj))(xe:Value->Shared->Prop)(o:Option St:=none):Cx:={ X with pn:=X.pn++pins,xe:=xe,sg:=o }
def F9(X:Cx)(ea:Addr):Cx:={ X with A:=X.A.mark (some (.ref ea)),calm:=false,xe:=λ_ _=>False,sg:=none }
theorem Inv.ZD{xe:Value->Shared->Prop}{o:Option St}(ho:∀τ,o=some τ->U=τ)(I:Inv X pins U H s):Inv (V9 X pins xe o) [] U H s :=
 ⟨⟨I.ok.mod,I.ok.kind,I.ok.glob,I.ok.blt,I.ok.above,I.ok.inj,I.ok.has,I.ok.qJ,I.ok.hd,I.ok.frames,I.ok.qZ,I.ok.wL,I.ok.bs,I.ok.oi,I.ok.kS,I.ok.lS,I.ok.M6,I.ok.oJ⟩,I.os,I.bare,I.base,I.loc,I.cell,I.free,I.fc,
  λp hp=>I.pin p (by simpa [V9] using hp),I.bY,I.len,ho⟩
theorem Inv.sW{xe:Value->Shared->Prop}{o:Option St}{gi:List (Addr×Obj)}(hs:X.sg=none)(I:Inv (V9 X pins xe o) gi U H s):Inv X pins U H s :=
 ⟨⟨I.ok.mod,I.ok.kind,I.ok.glob,I.ok.blt,I.ok.above,I.ok.inj,I.ok.has,I.ok.qJ,I.ok.hd,I.ok.frames,I.ok.qZ,I.ok.wL,I.ok.bs,I.ok.oi,I.ok.kS,I.ok.lS,I.ok.M6,I.ok.oJ⟩,I.os,I.bare,I.base,I.loc,I.cell,I.free,I.fc,
  λp hp=>I.pin p (bz _ hp),I.bY,I.len,λ_ z=>by simp_all⟩
theorem Inv.LJ(I:Inv X pins U H s):Inv (F9 X ea) pins U H s :=
 ⟨⟨I.ok.mod,I.ok.kind,I.ok.glob,I.ok.blt,I.ok.above,I.ok.inj,I.ok.has,I.ok.qJ,λz=>(by cases z),I.ok.frames,I.ok.qZ,I.ok.wL,I.ok.bs,I.ok.oi,I.ok.kS,I.ok.lS,I.ok.M6,I.ok.oJ⟩,I.os,I.bare,I.base,I.loc,I.cell,I.free,I.fc,I.pin,I.bY,I.len,λde z=>absurd (show(none:Option St)=some de from z) (by simp)⟩
theorem Inv.uN(hs:X.sg=none)(J:X.Ok)(I:Inv (F9 X ea) pins U H s):Inv X pins U H s :=
 ⟨J,I.os,I.bare,I.base,I.loc,I.cell,I.free,I.fc,I.pin,I.bY,I.len,λ_ z=>by simp_all⟩
theorem SP.sW{xe:Value->Shared->Prop}{o:Option St}{D:Ends}{f:Flow}(hs:X.sg=none)(h:SP (V9 X pins xe o) [] D f s):SP X pins D f s:=by
 cases f with
 |next=>obtain⟨a,b,I,q⟩:=h;exact⟨a,b,I.sW hs,q⟩
 |brk=>obtain⟨a,b,I,q⟩:=h;exact⟨a,b,I.sW hs,q⟩
 |cont=>obtain⟨a,b,I,q⟩:=h;exact⟨a,b,I.sW hs,q⟩
 |ret u=>obtain⟨v,a,b,I,r,q⟩:=h;exact⟨v,a,b,I.sW hs,r,q⟩
theorem SP.uN{ea:Addr}{D:Ends}{f:Flow}(hs:X.sg=none)(J:X.Ok)(h:SP (F9 X ea) pins D f s):SP X pins D f s:=by
 cases f with
 |next=>obtain⟨a,b,I,q⟩:=h;exact⟨a,b,I.uN hs J,q⟩
 |brk=>obtain⟨a,b,I,q⟩:=h;exact⟨a,b,I.uN hs J,q⟩
 |cont=>obtain⟨a,b,I,q⟩:=h;exact⟨a,b,I.uN hs J,q⟩
 |ret u=>obtain⟨v,a,b,I,r,q⟩:=h;exact⟨v,a,b,I.uN hs J,r,q⟩
def sT(X:Cx)(D:Ends)(de:St)(C:Addr)(H:Hp):List ExceptHandler->Prop
 |.ExceptHandler (some (.Name x _)) none (xa::qi) _::rest=>Gl X x/\(x==("__debug__":Str))=false/\∃C' b,X.mg x=some (.ref C')/\PySem.W.exmOne X.K (.ref C) (.ref C')=some b /\
   (if b=true then ∃t:TS,(∀ea,jL (F9 X ea) (xa::qi) t)/\t D de H else sT X D de C H rest)
 |[]=>∃Ξ:XK,xk X Ξ/\Ξ (.ref C) none H
 |_=>False
end
section
variable{pins:List (Addr×Obj)}{e:Value}{D:Ends}
def Au(X:Cx)(pins:List (Addr×Obj))(D:Ends)(hs:List ExceptHandler):Value->Shared->Prop:=λe bO =>
 wpAny (model X.prog X.w) X.A (noteFrame e X.env) (λ_ gh=>wpAny (model X.prog X.w) X.A (setFlight e none) (λ_ fQ=>wpAny (model X.prog X.w) X.A (handleBy e X.env hs) (SP X pins D) X.xe fQ) X.xe gh) X.xe bO
theorem Lies.step{h1:Heap}(I:Inv X pins U H s)(l:Lies X H H' s B ea C a0 s')(st:B.StaysIn h1)(us:s'.heap.UpToSlots h1):Lies X H H' s B ea C a0 { s' with heap:=h1 }:=by
 have J:=l.inv I;obtain⟨u,ok,ib⟩:=a62 l.un l.bY l.tN st us λb hb=>⟨J.zH b hb,zI J hb⟩
 exact⟨l.os,l.bare,u,ok,ib⟩
theorem aL1{l:List Env}{L:Addr}{cls:Value}{A:Around}{M:Model}{E:Value->Shared->Prop}{Q:Unit->Shared->Prop}(fw:Heap.FlyingW B l ea cls a0 s.heap)(h:∀h',Heap.HeldW B l ea cls a0 L h'->(∀b o,s.heap.get? b=some o->(∀vs,o.data≠.fields vs)->h'.get? b=some o)->Q Unit.unit { s with heap:=h' }):wpAny M A (setFlight (.ref ea) (some L)) Q E s:=by
 obtain⟨f1,f2,f3,oe,vs,T,oT,ts,he,pA,hd,h1,Py,yS,hT,yJ,h3⟩:=fw;have vU:3<ts.size:=(gX.mp h3).1;have other:∀b,b≠T->(s.heap.update T (Obj.mapFields (·.setIfInBounds 3 ((some L).elim Value.none λf=>rawInt f)))).get? b=s.heap.get? b :=
  λb hb=>df _ _ (cq hb)
 have kT:∀b o,s.heap.get? b=some o->(∀vs,o.data≠.fields vs)->b≠T:=λb o hb vX q=>by
  rw[q,hT] at hb;injection hb with hb;subst hb;exact vX ts yJ
 refine ae (wpAny_field he hd h1 ?_);refine eF hT yJ vU (h _ ⟨λb o Ql=>(other b λq=>by simp_all).trans (f1 b o Ql),f2,
  f3.of_keeps λb o hb vX=>⟨o,(other b (kT b o hb vX)).trans hb,rfl⟩,?_⟩ λb o hb vX=>(other b (kT b o hb vX)).trans hb)
 exact⟨oe,vs,T,_,_,(other ea (cq yS)).trans he,pA,hd,h1,Py,yS,br _ hT (dH (bK yJ _)),bK yJ _,by simp[vU]⟩
theorem JU{B:Heap}{ea C:Addr}{a0:Value}{de:St}(oz:X.sg=none)(hf:X.env.frame=some X.env.locals)(yH:de.length=U.length)(yz:∀(i:Nat) v,de[i]?=some (some v)->U[i]?=some (some v)):∀(hs:List ExceptHandler) (s':Shared),Inv X pins U H s->Lies X H H' s B ea C a0 s'->Heap.FlyingW B X.stack ea (.ref C) a0 s'.heap->sT X D de C H' hs ->
  wpAny (model X.prog X.w) X.A (handleBy (.ref ea) X.env hs) (SP X pins D) X.xe s'
 |[],s',I,l,fw,t=>by
  obtain⟨Ξ,hh,hE⟩:=t;refine wpAny_handleBy_nil ?_;obtain⟨f1,f2,f3,oe,vs,T,oT,ts,he,pA,hd,h1,_⟩:=id fw;refine ae (wpAny_field he hd h1 ?_);rw[aD (by simp),hf];refine ae (aL1 fw λh2 held k=>wpAny_throw ?_);have l2:=l.step I held.1 (λb o hb hn=>⟨o.slots,k b o hb hn⟩);exact hh pins U H H' s _ B ea C a0 I l2 held hE
 |.ExceptHandler none _ _ _::_,_,_,_,_,t=>t.elim
 |.ExceptHandler (some e) nm bd pos::rest,s',I,l,fw,t=>by
  cases e
  case Name x np =>
   cases nm with
   |some y=>exact t.elim
   |none =>
    cases bd with
    |nil=>exact t.elim
    |cons xa qi =>
     obtain⟨hg,iA,C',b,hm,hx,q⟩:=t;have J:=l.inv I;have JM:Inv (F9 X ea) pins U H' s':=J.LJ;have LT:PySem.W.Looks (model X.prog X.w) s'.heap (typeOf (.ref ea)) (.ref C):=λA Q E s2 k q=>by
      obtain⟨ob,ho,hc⟩:=fw.there;exact wpAny_typeOf_ref (k _ _ ho) (by rw[hc];exact q)
     refine wpAny_handleBy_cons (codeAny_handlers_test ?_) (by intro z;cases z);refine P7 (X:=F9 X ea) JM hg hm ?_ iA;refine(PySem.W.exm_one (M:=model X.prog X.w) J.iG LT hx).here ?_;cases b with
     |false =>
      exact JU oz hf yH yz rest s' I l fw q
     |true =>
      obtain⟨t,ht,hq⟩:=q;refine codeAny_handlers_suite ?_;refine wpAny_setFlight_noneW fw.1 fw.2.2.1 fw.2.2.2.at λh2 k1 k2 k3 k4=>?_;have l2:=l.step I k1 (λb o hb hn=>⟨o.slots,k4 b o hb hn⟩);have J2:=l2.inv I;have J3:Inv (F9 X ea) pins de H' { s' with heap:=h2 }:=(Inv.weak oz J2 yH yz).LJ;refine bH (ht ea pins _ _ H' D J3 hq) (λf s2 hf=>hf.uN oz I.ok) λ_ _ z=>z.elim
  all_goals exact t.elim
theorem Wl{hs:List ExceptHandler}{Ξ:XK}{o:Option St}{de:St}(oz:X.sg=none)(eT:X.stack=X.env::X.outer)(hf:X.env.frame=some X.env.locals)(Bo:∀U:St,U.length=X.N.length->(∀τ,o=some τ->U=τ)->de.length=U.length/\∀(i:Nat) v,de[i]?=some (some v)->U[i]?=some (some v))(hT:∀C H',Ξ (.ref C) none H'->sT X D de C H' hs) :
  Passes (jJ X.prog X.w) (V9 X pins (Au X pins D hs) o) Ξ:=by
 intro gi U H s e s' I0 h;have I:Inv X pins U H s:=I0.sW oz;obtain⟨yH,yz⟩:=Bo U I.len I0.sg;obtain⟨C,H',ho,hb,hu,bY,⟨ea,a0,B,rfl,fw,hB⟩,hE⟩:=h;have l:Lies X H H' s B ea C a0 s':=⟨ho,hb,hu,bY,hB⟩
 have fw:Heap.FlyingW B X.stack ea (.ref C) a0 s'.heap:=fw;have yY:=fw;rw[eT] at yY;refine wpAny_looks_onW (by rw[I.ok.frames,eT]) hf yY λh1 held us=>?_;have l1:=l.step I held.1 us;refine wpAny_landsW held λh2 fl Oe=>?_;have l2:=l1.step I fl.1 Oe;rw[<- eT] at fl;exact JU oz hf yH yz hs _ I l2 fl (hT C H' hE)
theorem Ss{hs:List ExceptHandler}{h₀:ExceptHandler}{body:List Stmt}{t:Ends->St->TS}{Ξ:Ends->St->XK}(f:St->Option St)(z:St->St)(hz:∀U τ,f U=some τ->U=τ)(oz:X.sg=none)(hb:∀pins D U,(∀C H',Ξ D U (.ref C) none H'->sT X D (z U) C H' (h₀::hs))->jL (V9 X pins (Au X pins D (h₀::hs)) (f U)) body (t D U)) :
  PS X (.Try body (h₀::hs) [] [] pos) (λD U H=>(∀C H',Ξ D U (.ref C) none H'->sT X D (z U) C H' (h₀::hs))/\t D U D U H):=by
 intro pins s U H D I ⟨hT,h⟩;refine wpAny_Try_except (bH (hb pins D U hT [] s U H D (I.ZD (hz U)) h) (λf s1 q=>?_) λe s1 q=>q);have q:=q.sW oz;cases f with
 |next =>
  obtain⟨cw,H',I',q⟩:=q;exact cV (ky ⟨cw,H',I',q⟩) λ_ _ z=>z
 |brk=>exact q
 |cont=>exact q
 |ret u=>exact q
end
def FR(K:PySem.W.Frag)(a:Addr):It :=
 ⟨λi H=>∃xs x,gn K H a xs/\xs[i]?=some x,λi H v H'=>∃p x,H p=none/\v=.ref p/\(∀xs,gn K H a xs->xs[i]?=some x)/\H'=upd H p (.tup [.int i,x]),λi H=>∃xs,gn K H a xs/\xs.length<=i⟩
theorem aY0{P:Program}{K:PySem.W.Frag}{elts:List Expr}{x1:Nat}{tp:Pos}(a e it:Addr)(HG:e≠it):Turn P w K (.Tuple elts x1 tp) (FR K a) [e,it] e (λi h=>(∃old,IsEnum h e it i old)/\h.IsListIter it a i) where
 mem:=by simp
 obj:=λi h st b hb=>by
  obtain⟨⟨old,h1⟩,o,h2,c,d⟩:=st;rcases aJ.mp hb with z|z
  ·subst z;exact ⟨_,h1,λv z=>by
    have z':Data.fields _=Data.cell v:=z;cases z'⟩
  ·have z:b=it:=by simpa using z
   subst z;exact⟨o,h2,λv z=>by rw[d] at z;cases z⟩
 keep:=λi h h' st k=>by
  obtain⟨⟨old,h1⟩,h2⟩:=st;exact⟨⟨old,k e (by simp) _ h1⟩,h2.at λo x=>k it (by simp) o x⟩
 item:=by
  intro X hP hw hK hc i pins s U H E I hf st hg;subst hP hw hK;obtain⟨⟨old,h1⟩,h2⟩:=st;obtain⟨xs,x,hq,hx⟩:=hg;obtain⟨bw,rv,p,hz⟩:=I.list hq;obtain⟨u,hu,ru⟩:=rv.get hx;obtain⟨e0,e1,e2,e3,e4,e5⟩:=hf e (by simp);obtain⟨f0,f1,f2,f3,f4,f5⟩:=hf it (by simp);refine wpAny_pyNext_enum_item h1 h2 p.isList (x:=u) (by simpa using hu) HG λh' rO BL qq vQ oE=>?_;refine⟨_,rfl,wpAny_letOwnedTupleGo_enum rO λwD Qa gO=>?_⟩;have gO:Heap.SameBut e h' wD:=gO;have elt:e<s.heap.objs.size:=az h1;have kp:∀b o,b≠e->b≠it->s.heap.get? b=some o->wD.get? b=some o:=λb o b1 b2 q=>(gO.2 b b1).trans (oE b o b1 b2 q);have hn:H s.heap.objs.size=none:=I.bY.fresh (aw _);have AN:wD.get? s.heap.objs.size=some { cls:=.type "tuple",data:=.seq #[.int i s.toks,u] }:=(gO.2 _ (cu elt)).trans qq;have ne:∀b u',H b=some u'->b≠e/\b≠it:=λb u' q=>And.intro (λ(z:b=e)=>by simp_all) (λ(z:b=it)=>by simp_all);have bY:gK X.prog X.w (upd H s.heap.objs.size (.tup [.int i,x])) wD:=λb o q=>by
   by_cases hb:b=s.heap.objs.size
   ·subst hb;rw[A1] at q;cases q;exact⟨by show 2<=sizeLine;decide,[.int i s.toks,u],.cons ⟨_,rfl⟩ (.cons ru .nil),_,AN,rfl,⟨_,rfl⟩,rfl⟩
   ·rw[i6 hb] at q;refine(I.bY b o q).J8 (λc v hc q'=>?_) (λc q'=>by rw[i6 (t8 q' hn)];exact q') λc ys q'=>by rw[i6 (t8 q' hn)];exact q'
    rcases hc with z|z
    ·subst z;exact kp _ _ (ne _ _ q).1 (ne _ _ q).2 q'
    ·exact kp _ _ (ne _ _ z).1 (ne _ _ z).2 q'
  have I2:Inv X pins U (upd H s.heap.objs.size (.tup [.int i,x])) { s with heap:=wD,toks:=s.toks+1 }:=by
   refine I.step (g':=s.gens) (d':=s.drawn) (t':=s.toks+1) (ch:=[e,it]) (λb hb=>?_) (λb o _ _ hb q _=>kp b o (λz=>hb (by simp[z])) (λz=>hb (by simp[z])) q) (λb o _ _ hb q _=>⟨o.slots,kp b o (λz=>hb (by simp[z])) (λz=>hb (by simp[z])) q⟩)
    (λb o _ q n=>by rw[i6 (aM (az q))];exact n) (λb o hb q=>⟨o,kp b o (λz=>hb (by simp[z])) (λz=>hb (by simp[z])) q⟩)
    (λb ys q=>by rw[i6 (t8 q hn)];exact q) (λb o' ys q=>by rw[i6 (t8 q hn)];exact q) (λb ps q=>⟨#[],by rw[i6 (t8 q hn),q];simp⟩) (λm hm=>?_) bY I.bare
   ·rcases aJ.mp hb with z|z
    ·subst z;exact⟨e3,e1,e4,e5⟩
    ·have z:b=it:=by simpa using z
     subst z;exact⟨f3,f1,f4,f5⟩
   ·obtain⟨o,es,ep,ho,r⟩:=hm;exact⟨o,es,ep,kp _ o (cq e1) (cq f1) ho,r⟩
  refine⟨.ref s.heap.objs.size,_,I2,rfl,⟨s.heap.objs.size,x,hn,rfl,λys hy=>by rw[I.DK hy hq];exact hx,rfl⟩,⟨⟨u,by simpa using Qa⟩,BL.at λo y=>(gO.2 it HG.symm).trans y⟩,λb hb=>?_⟩;have lA:b<s.heap.objs.size:=by
   rcases aJ.mp hb with z|z
   ·subst z;exact elt
   ·have z:b=it:=by simpa using z
    subst z;obtain⟨o,h2,_⟩:=h2;exact az h2
  rw[i6 (aM lA)];exact(hf b hb).1
 done:=by
  intro X hP hw hK hc i pins s U H E I hf st hg;subst hP hw hK;obtain⟨⟨old,h1⟩,h2⟩:=st;obtain⟨xs,hq,hx⟩:=hg;obtain⟨bw,rv,p,hz⟩:=I.list hq;obtain⟨f0,f1,f2,f3,f4,f5⟩:=hf it (by simp);have hl:=rv.length;exact wpAny_pyNext_enum_end (I.ok.hd hc) h1 h2 p.isList (by simp;omega) λh' eb=>⟨rfl,I.turned (t':=s.toks) (λb o hb e=>eb b o hb e) f0 f1 f3 f4 f5⟩
 self:=λ_ _ _ _ _ st h=>by
  obtain⟨⟨old,h1⟩,h2⟩:=st;exact wpAny_pyIter_enum h1 h
theorem UE{l:Expr}{tp:Pos}{elts:List Expr}{x1:Nat}(hg:Gl X "enumerate")(hm:X.mg "enumerate"=none)(ha:PA X [l] ta)(hs:starEach [l] X.env=[(false,eval l X.env)]) :
  PI X (.Tuple elts x1 tp) (.Call (.Name "enumerate" p) [l] [] pos) (λU H R=>ta U H λvs H1=>∃a,vs=[.ref a]/\(∃xs,gn X.K H1 a xs)/\R (FR X.K a) H1):=by
 intro pins s U H R I h;refine Call_ (O2 I hg hm PyProof.Rows.boot_enumerate (bR (cV (ha pos pins s U H _ I h) λus s1 bG=>?_) hs rfl));obtain⟨vs,H1,I1,r1,q1⟩:=bG;obtain⟨a,e,⟨xs,hq⟩,q⟩:=q1;subst e;cases r1 with
 |cons r rr =>
  cases rr;cases r;obtain⟨bw,rv,p,hz⟩:=I1.list hq;refine call_enumerate_list p.isList λh' he hit hsz hk=>wpAny_pyIter_enum he ?_;refine⟨s1.heap.objs.size+1,[s1.heap.objs.size+1,s1.heap.objs.size],_,_,H1,rfl,I1.kept (t':=s1.toks) hk,aY0 a _ _ (by simp),⟨⟨_,he⟩,hit⟩,λb hb=>?_,q⟩;have lA:s1.heap.objs.size<=b:=by
   rcases aJ.mp hb with z|z
   ·simp_all
   simp_all
  exact I1.qL lA (I1.bY.fresh lA)
theorem aU6{lo:Int}{acc:Array Value}{n:Nat}(h:ItemsOf (λi v=>∃t,v=.int (lo+i*1) t) acc n):Vals ((List.range n).map λ(k:Nat)=>V.int (lo+k)) acc.toList:=by
 have hl:acc.toList.length=n:=by
  have:=h.1;omega
 have go:∀(m:Nat) (l:List Value),l.length<=n->m+l.length=n->(∀i v,l[i]?=some v->∃t,v=Value.int (lo+((m+i:Nat):Int)) t)->Vals ((List.range' m l.length).map λ(k:Nat)=>V.int (lo+k)) l:=by
  intro m l
  induction l generalizing m with
  |nil=>intro _ _ _;exact .nil
  |cons x r ih =>
   intro h1 h2 h3;refine .cons ?_ (ih (m+1) (by simp at h1;omega) (by simp at h2;omega) λi v hv=>?_)
   ·obtain⟨t,e⟩:=h3 0 x rfl;exact⟨t,by rw[e];simp⟩
   ·obtain⟨t,e⟩:=h3 (i+1) v (by simpa using hv)
    grind
 have:=go 0 acc.toList () () λi v hv=>?_
 ·rw[hl,<- List.range_eq_range'] at this;exact this
 ·have:acc[i]?=some v:=by rw[<- eJ];exact hv
  obtain⟨t,e⟩:=h.2 i v this;refine⟨t,?_⟩;rw[e];simp
theorem Lo(hc:X.calm=true):p9 X (.type "list") (λxs H Q=>∃a lo hi,xs=[.ref a]/\H a=some (.ng lo hi)/\(-(2 ^ 62)<=lo/\lo<2 ^ 62/\-(2 ^ 62)<=hi/\hi<2 ^ 62/\hi-lo<=100000)/\∀p,H p=none->Q (.ref p) (upd H p (.lst ((List.range (hi-lo).toNat).map λ(k:Nat)=>V.int (lo+k))))):=by
 intro pins s U H xs us Q I r h;obtain⟨a,lo,hi,rfl,ha,⟨h1,h2,h3,h4,h5⟩,q⟩:=h;obtain⟨t,u,v,ho⟩:=I.bY a _ ha;cases r with
 |cons r rr =>
 cases rr;cases r;have hn:Builtin.Range.rangeSize lo hi 1=((hi-lo).toNat:Nat):=by rw[rangeSize_one];split<;>omega
 refine call_list_range (n:=(hi-lo).toNat) (I.ok.hd hc) ho (small_one h1 h2 h3 h4) hn () λh' kB acc c hk hS jo=>?_;have hp:H s.heap.objs.size=none:=I.bY.fresh (aw _);refine⟨.ref _,_,I.laid (a:=s.heap.objs.size) (o:=.lst ((List.range (hi-lo).toNat).map λ(k:Nat)=>V.int (lo+k))) (t':=kB) hk (aw _) ⟨?_,acc.toList,c,aU6 jo,by simpa using hS⟩,rfl,q _ hp⟩;rw[ak,fM];have:(hi-lo).toNat<=100000:=by omega
 exact aC this ∅
theorem a09{a:Expr}(hg:Gl X "range")(hm:X.mg "range"=none)(ha:PA X [a] ta)(hs:starEach [a] X.env=[(false,eval a X.env)]):PE X (.Call (.Name "range" p) [a] [] pos) (λU H Q=>ta U H λvs H1=>∃j:Int,vs=[.int j]/\∀q,H1 q=none->Q (.ref q) (upd H1 q (.ng 0 j))):=by
 intro pins s U H Q I h;refine cU (O2 I hg hm boot_range (bR (cV (ha pos pins s U H _ I h) λus s1 bG=>?_) hs rfl));obtain⟨vs,H1,I1,r1,q1⟩:=bG;obtain⟨j,e,q⟩:=q1;subst e;cases r1 with
 |cons r rr =>
  cases rr;obtain⟨t,rfl⟩:=r;exact call_range_1 ⟨.ref s1.heap.objs.size,_,I1.laid (a:=s1.heap.objs.size) (o:=.ng 0 j) (λb o e=>ao _ e) (aw _) ⟨_,_,_,aE _ rfl⟩,rfl,q _ (I1.bY.fresh (aw _))⟩
theorem a08{a b:Expr}(hg:Gl X "range")(hm:X.mg "range"=none)(ha:PA X [a,b] ta)(hs:starEach [a,b] X.env=[(false,eval a X.env),(false,eval b X.env)])(gO:starEach [b] X.env=[(false,eval b X.env)]):PE X (.Call (.Name "range" p) [a,b] [] pos) (λU H Q=>ta U H λvs H1=>∃i j:Int,vs=[.int i,.int j]/\∀q,H1 q=none->Q (.ref q) (upd H1 q (.ng i j))):=by
 intro pins s U H Q I h;refine cU (O2 I hg hm boot_range (bR (cV (ha pos pins s U H _ I h) λus s1 bG=>?_) (by rw[hs,gO]) (by rw[gO];rfl)));obtain⟨vs,H1,I1,r1,q1⟩:=bG;obtain⟨i,j,e,q⟩:=q1;subst e;cases r1 with
 |cons r rr =>
  cases rr with
  |cons r' rr =>
   cases rr;obtain⟨t,rfl⟩:=r;obtain⟨t',rfl⟩:=r';exact call_range_2 ⟨.ref s1.heap.objs.size,_,I1.laid (a:=s1.heap.objs.size) (o:=.ng i j) (λb o e=>ao _ e) (aw _) ⟨_,_,_,aE _ rfl⟩,rfl,q _ (I1.bY.fresh (aw _))⟩
def Ac(K:PySem.W.Frag)(P:Params)(a:Addr)(kvs:List (Str×V)):Prop :=
 ∃es n,K.lookup a=some ⟨.type "dict",none,.dict es n,#[]⟩/\PySem.W.KeysLit P es.toList/\(a==sysModules)=false/\∀x,K4 (kvs.lookup x) (findBy Value.isStrOf es x)
theorem YB{kvs:List (Str×V)}:uP X (λx y H Q=>∃a z v,x=.ref a/\Ac X.K X.w.params a kvs/\y=.str z/\kvs.lookup z=some v/\Q v H):=by
 intro value slice pins s U H x y v u Q I rx ry h hs;obtain⟨a,z,d,rfl,⟨es,n,hl,hk,lo,hf⟩,rfl,hz,q⟩:=h;cases rx;obtain⟨t,rfl⟩:=ry;have hm:=PySem.W.mapOf_K (prog:=X.prog) (w:=X.w) I.iG hl hk;have e:=hf z;rw[hz] at e;cases h2:findBy Value.isStrOf es z with
 |none=>rw[h2] at e;exact e.elim
 |some r =>
  rw[h2] at e;exact tail_any hm.typeIs slot_dict_getitem.lookup (wpAny_getItem_of (strKind_is X.prog X.w z t) hm h2 ⟨d,H,I.tok _,e,q⟩) hs
theorem Ua(hu:X.A.units+1<cLine):uP X (λx y H Q=>∃a v,x=.ref a/\S3 H a y (some v)/\Q v H):=by
 intro value slice pins s U H x y v u Q I rx ry h hs;obtain⟨a,d,rfl,g,q⟩:=h;cases rx;exact tail_any (aL6 I g) slot_dict_getitem.lookup (a42 hu I g ry λw' s3 I3 gH=>⟨d,H,I3,gH,q⟩) hs
end L2
namespace ST
open PySem PyProof.Rows
variable{xs:Array Nat}{i k j n ep:Nat}{t:SetTable}{h h':Heap}{L:Bool}{es:Array (Int×Value)}{x f:Value}{prog:Program}{w:World}{a I b l:Addr}{ks ns:List Int}{A:Around}{E Q:Value->Shared->Prop}{s:Shared}{pl:List Nat}{α:Type}{r:Rd}{items:Array Value}
noncomputable abbrev lF(xs:Array Nat):Prop:=xs.toList.Pairwise (· < ·)
theorem lF.lt(h:lF xs)(hJ:i<k)(hk:k<xs.size):xs.getD i 0<xs.getD k 0:=by
 have:=cM.mp h i k (by simpa using cW hJ hk) (by simpa using hk) hJ;rw[<- gg (h:=cW hJ hk),<- gg (h:=hk)];exact this
theorem lF.le(h:lF xs)(hJ:i<=k)(hk:k<xs.size):xs.getD i 0<=xs.getD k 0:=by
 rcases Nat.eq_or_lt_of_le hJ with e|e
 ·rw[e];exact aw _
 ·exact eV (h.lt e hk)
theorem Dv{xs:Array Nat}{j:Nat}(h:lF xs):∀(fuel lo hi:Nat),hi-lo<=fuel->lo<=hi->hi<=xs.size->(∀i,i<lo->xs.getD i 0<j)->(∀i,hi<=i->i<xs.size->j<=xs.getD i 0) ->
  SetTable.below.go xs j fuel lo hi<=xs.size/\(∀i,i<SetTable.below.go xs j fuel lo hi->xs.getD i 0<j)/\∀i,SetTable.below.go xs j fuel lo hi<=i->i<xs.size->j<=xs.getD i 0
 |0,lo,hi,h1,h2,h3,h4,h5=>by
  have:lo=hi:=by omega
  subst this;exact⟨h3,h4,h5⟩
 |fuel+1,lo,hi,h1,h2,h3,h4,h5=>by
  unfold SetTable.below.go;split
  ·have hm:(lo+hi) / 2<xs.size:=by omega
   have em:xs.getD ((lo+hi) / 2) j=xs.getD ((lo+hi) / 2) 0:=by simp[Array.getD,hm]
   dsimp only;rw[em];by_cases hc:xs.getD ((lo+hi) / 2) 0<j
   ·rw[aG hc];exact Dv h fuel _ hi () () h3 (λi jo=>cY (h.le () hm) hc) h5
   ·rw[aD hc];exact Dv h fuel lo _ () () () h4 λi jo hs=>aC (Nat.le_of_not_lt hc) (h.le jo hs)
  ·have:lo=hi:=by omega
   subst this;exact⟨h3,h4,h5⟩
theorem U2(j:Nat)(h:lF xs):SetTable.below xs j<=xs.size/\(∀i,i<SetTable.below xs j->xs.getD i 0<j)/\∀i,SetTable.below xs j<=i->i<xs.size->j<=xs.getD i 0 :=
 Dv h _ 0 _ () () (aw _) (λi hi=>absurd hi (Nat.not_lt_zero _)) λi h1 h2=>absurd h2 ()
theorem below_at(h:lF xs)(hi:i<xs.size):SetTable.below xs (xs.getD i 0)=i:=by
 obtain⟨h1,h2,h3⟩:=U2 (xs.getD i 0) h;rcases eM (SetTable.below xs (xs.getD i 0)) i with z|z|z
 ·exact absurd (h3 _ (aw _) ()) (Nat.not_le_of_lt (h.lt z hi))
 ·exact z
 ·exact absurd (h2 i z) (cc _)
theorem aW3(h:lF xs)(hi:i<xs.size):SetTable.below xs (xs.getD i 0+1)=i+1:=by
 obtain⟨h1,h2,h3⟩:=U2 (xs.getD i 0+1) h;rcases eM (SetTable.below xs (xs.getD i 0+1)) (i+1) with z|z|z
 ·have:=h3 i () hi;omega
 ·exact z
 ·have:=h2 (i+1) z;have:=h.lt (mr i) (k:=i+1) ();omega
theorem aW2(h:lF xs):SetTable.below xs 0=0:=by
 obtain⟨_,h2,_⟩:=U2 0 h;rcases Nat.eq_zero_or_pos (SetTable.below xs 0) with z|z
 ·exact z
 ·exact absurd (h2 0 z) (Nat.not_lt_zero _)
theorem getD_mem(hi:i<xs.size):xs[i]?=some (xs.getD i 0):=by simp[Array.getD,hi]
theorem aR4(h:lF t.place)(hs:t.slot j=.empty):j∉t.place.toList:=by
 intro hm;obtain⟨i,hi,e⟩:=bo.mp hm;have jo:i<t.place.size:=by simpa using hi
 have ej:t.place.getD i 0=j:=by rw[<- gg (h:=jo)];simpa using e
 have hb:=below_at h jo;rw[ej] at hb;unfold SetTable.slot at hs;dsimp only at hs;rw[hb,getD_mem jo,ej] at hs;simp at hs
theorem aS1(h:lF xs)(hj:j∉xs.toList):lF (SetTable.insertAt xs (SetTable.below xs j) j):=by
 obtain⟨h1,h2,h3⟩:=U2 j h;show(SetTable.insertAt xs (SetTable.below xs j) j).toList.Pairwise (· < ·);rw[SetTable.toList_insertAt,aV];have tk:∀a∈xs.toList.take (SetTable.below xs j),a<j:=λa ha=>by
  obtain⟨i,hi,e⟩:=bo.mp ha;rw[dS] at hi;have hs:i<xs.size:=by omega
  have:=h2 i ()
  simp_all
 have dp:∀b∈xs.toList.drop (SetTable.below xs j),j<b:=λb hb=>by
  obtain⟨i,hi,e⟩:=bo.mp hb;have hs:SetTable.below xs j+i<xs.size:=by grind
  have:=h3 (SetTable.below xs j+i) () hs;rw[<- gg (h:=hs)] at this;have fR:b≠j:=λz=>hj (by rw[<- z];exact AE hb);simp at e;omega
 refine⟨h.take,fB.mpr ⟨dp,h.drop⟩,λa ha b hb=>?_⟩;have mL:=tk a ha
 grind
theorem aZ6(n:Nat):lF (Array.range n):=by
 show(Array.range n).toList.Pairwise (· < ·);rw[Array.toList_range];exact uT
structure Well(L:Bool)(t:SetTable):Prop where
 ym:lF t.place
 CO:t.dummies=#[]
 led:t.led=L
theorem Wk(hd:t.dummies=#[])(j:Nat):t.slot j≠.dummy:=by
 unfold SetTable.slot;dsimp only;split
 ·simp
 ·rw[hd];split
  ·rename_i z;simp[SetTable.has] at z
  simp
theorem Lf{t:SetTable}(hd:t.dummies=#[]){hashAt:Nat->Int}{h:Int}:∀(fuel:Nat) (p:SetTable.Probe) {j:Nat} {dm:Option Nat},p.dummy=none->SetTable.probe.go t hashAt h fuel p=some (.empty j dm)->t.slot j=.empty/\dm=none
 |0,p,j,dm,_,e=>by simp[SetTable.probe.go] at e
 |fuel+1,p,j,dm,hp,e=>by
  unfold SetTable.probe.go at e;have ad:∀q:SetTable.Probe,q.dummy=none->(t.advance q).dummy=none:=λq hq=>by
   unfold SetTable.advance;split
   ·exact hq
   ·exact hq
  split at e
  ·simp_all
  ·rename_i hs;exact absurd hs (Wk hd _)
  ·split at e
   ·cases e
   ·exact Lf hd fuel _ (ad p hp) e
theorem a37(hd:t.dummies=#[]){h:Int}{wd:Bool}(e:t.freeSlot h=some (j,wd)):t.slot j=.empty/\wd=false:=by
 unfold SetTable.freeSlot at e;split at e
 ·rename_i j' dm hp;obtain⟨h1,h2⟩:=Lf hd _ _ rfl hp;subst h2;cases e;exact⟨h1,rfl⟩
 ·cases e
theorem N8(h:Well L t)(n:Nat):Well L (t.standIn n):=⟨aZ6 n,rfl,h.led⟩
theorem aL0{h:Int}(hw:Well L t):Well L (layNew t es h x).2.1/\(layNew t es h x).2.2.1=false:=by
 unfold layNew;split
 ·rename_i slot wd e;obtain⟨h1,h2⟩:=a37 hw.CO e;refine⟨?_,h2⟩;have hd:SetTable.has t.dummies slot=false:=by rw[hw.CO];rfl
  have w2:Well L (t.put slot).1:=⟨aS1 hw.ym (aR4 hw.ym h1),by simp only[SetTable.put,hd];exact hw.CO,hw.led⟩
  dsimp only;unfold SetTable.orStandIn;split
  ·exact w2
  ·exact N8 w2 _
 ·exact⟨N8 hw _,rfl⟩
theorem a27{mask finger moves:Nat}{led plain:Bool}{hashes:Array Int}{o:Array Nat}(hl:led=L)(e:SetTable.laid mask finger moves led plain hashes=some (t,o)):Well L t:=by
 unfold SetTable.laid at e;cases ho:SetTable.layClean mask hashes with
 |none=>rw[ho] at e;cases e
 |some owner =>
  rw[ho] at e;simp only[Option.bind_eq_bind,Option.bind_some,Option.pure_def,Option.some.injEq,Prod.mk.injEq] at e;obtain⟨rfl,_⟩:=e;refine⟨?_,rfl,hl⟩;show(List.map _ _).toArray.toList.Pairwise (· < ·);rw[List.toList_toArray];have sub:((List.range (mask+1)).filterMap λj=>(owner.getD j none).map (j,·)).map (·.1) |>.Sublist (List.range (mask+1)):=by
   generalize List.range (mask+1)=l
   induction l with
   |nil=>simp
   |cons a r ih =>
    rw[eZ];cases owner.getD a none with
    |none=>exact ih.cons a
    |some k=>exact ih.cons_cons a
  exact List.Pairwise.sublist sub uT
theorem az0(hw:Well L t):Well L (relayAll t es n).2.1:=by
 unfold relayAll;split
 ·rename_i t' order e;dsimp only;split
  ·exact a27 hw.led e
  ·exact N8 hw _
 ·exact N8 hw _
def toI:Value->Int
 |.int k _=>k
 |_=>0
def Led(w:World):Bool:=!(w.params.followText "set-order")
def A3(prog:Program)(w:World)(h:Heap)(a:Addr)(ks:List Int):Prop :=
 ∃o es ep t,h.get? a=some o/\o.ExactSet/\o.data=.set es ep t/\ElemsOf (intKind prog w) es.toList/\(es.toList.map λe=>toI e.2).Perm ks/\ks.Nodup/\es.size<scanBound/\t.fits es.size=true/\Well (Led w) t
theorem A3.at(x:A3 prog w h a ks)(k:∀o,h.get? a=some o->h'.get? a=some o):A3 prog w h' a ks:=by
 obtain⟨o,es,ep,t,e,r⟩:=x;exact⟨o,es,ep,t,k o e,r⟩
theorem zB{e:Int×Value}{es:List (Int×Value)}(h:ElemsOf (intKind prog w) es)(he:e∈es):∃tk,e.2=.int (toI e.2) tk/\e.1=(intKind prog w).hash (toI e.2):=by
 obtain⟨⟨k,h1,h2⟩,_⟩:=h e he;obtain⟨t,ht⟩:=Value.isInt_shape (k:=k) (v:=e.2) h1;refine⟨t,by rw[ht];rfl,?_⟩;rw[h2,ht]
 rfl
theorem Nu{e:Int×Value}{es:List (Int×Value)}(h:ElemsOf (intKind prog w) es)(he:e∈es)(k:Int):(intKind prog w).is k e.2=decide (toI e.2=k):=by
 obtain⟨t,ht,_⟩:=zB h he;rw[ht]
 rfl
theorem A3.mem{a:Addr}{es:List (Int×Value)}(h:ElemsOf (intKind prog w) es)(hp:(es.map λe=>toI e.2).Perm ks)(k:Int):(es.findIdx? λe=>(intKind prog w).is k e.2).isSome=decide (k∈ks):=by
 rw[aY,ei,<- hp.mem_iff,aN,fg];constructor
 ·rintro⟨i,hi⟩;obtain⟨h1,h2,_⟩:=lh.mp hi;have hm:=cC h1;rw[Nu h hm] at h2;exact⟨_,hm,bj h2⟩
 ·rintro⟨e,he,rfl⟩;cases hf:es.findIdx? λe'=>(intKind prog w).is (toI e.2) e'.2 with
  |some i=>exact⟨i,rfl⟩
  |none =>
   have:=List.findIdx?_eq_none_iff.mp hf e he;rw[Nu h he] at this;simp at this
def E4(ks:List Int)(k:Int):List Int:=if k∈ks then ks else ks++[k]
theorem VD(ks:List Int)(k:Int):(E4 ks k).length<=ks.length+1:=by unfold E4;split<;>simp
theorem IT{k:Int}{tk:Tok}{Q:Bool->Shared->Prop}(hS:A3 prog w s.heap a ks)(hr:ks.length+1<scanBound)(h:∀h' b,Heap.SameBut a s.heap h'->A3 prog w h' a (E4 ks k)->Q b { s with heap:=h' }):wpAny (model prog w) A (setAddHashed a (.int k tk) ((intKind prog w).hash k)) Q E s:=by
 obtain⟨o,es,ep,t,ho,hx,hd,nT,hp,hn,hb,hf,hw⟩:=hS;have hlen:es.size=ks.length:=by rw[<- hp.length_eq];simp
 have gC:(intKind prog w).is k (.int k tk)=true:=ff _ _ _ _;have gv:∀(b:Bool) (s1:Shared) (Q':Unit->Shared->Prop),Q' Unit.unit s1->wpAny (model prog w) A (match b with|true=>rule "set.scan.the-table-gave-way"|false=>pure Unit.unit) Q' E s1:=λb s1 Q' q=>by
  cases b
  ·exact au q
  ·exact eO q
 refine bU (ae (cP ho hd hf ?_));dsimp only;rw[byScan_of rfl hb nT,aG rfl];refine ae (ae (eO (ae (wpAny_setScan_of gC ho hd hf nT ?_))));have hm:=A3.mem (a:=a) nT hp k;cases fG:es.toList.findIdx? (λe=>(intKind prog w).is k e.2) with
 |some j =>
  have hk:k∈ks:=by simp_all
  refine au (au ?_);refine h s.heap _ (Heap.SameBut.refl a s.heap) ?_;unfold E4;rw[aG hk];exact⟨o,es,ep,t,ho,hx,hd,nT,hp,hn,hb,hf,hw⟩
 |none =>
  rw[fG] at hm;have hk:k∉ks:=by simpa using hm.symm
  have p1:=layNew_perm t es ((intKind prog w).hash k) (.int k tk);have f1:=layNew_fits t es ((intKind prog w).hash k) (.int k tk);obtain⟨w1,Gk⟩:=aL0 (es:=es) (h:=(intKind prog w).hash k) (x:=.int k tk) hw;generalize layNew t es ((intKind prog w).hash k) (.int k tk)=R1 at p1 f1 w1 Gk ⊢;obtain⟨ir,t1,wd,Rb⟩:=R1;subst Gk;rw[dE] at p1;have Ir:ElemsOf (intKind prog w) ir.toList:=(nT.push gC rfl).perm p1;have sz1:ir.size=es.size+1:=by rw[<- cJ,p1.length_eq];simp
  have k1:(ir.toList.map λe=>toI e.2).Perm (E4 ks k):=by
   unfold E4;rw[aD hk];refine(p1.map _).trans ?_;rw[dy];exact hp.append_right _
  have n1:(E4 ks k).Nodup:=by
   unfold E4;rw[aD hk,cx];exact⟨hn,by simp,λx hx y hy=>by grind⟩
  refine ae (gv _ _ _ ?_);have fin:∀ (t2:SetTable),t2.fits ir.size=true->Well (Led w) t2->wpAny (model prog w) A (do
    storeSet a ir t2
    if(!false&&t2.tooFull)=true then do
      (match(relayAll t2 ir (SetTable.grown ir.size)).2.2 with|true=>rule "set.scan.the-table-gave-way"|false=>pure Unit.unit)
      storeSet a (relayAll t2 ir (SetTable.grown ir.size)).1 (relayAll t2 ir (SetTable.grown ir.size)).2.1
      pure (some true)
     else pure (some true)) (λr s'=>wpAny (model prog w) A (match r with | some added=>pure added | none=>setAddHashedIn a (.int k tk) ((intKind prog w).hash k) 99999) Q E s') E s:=λt2 f2 w2=>by
   have g1:(s.heap.update a (Obj.putSet ir t2)).get? a=some { o with data:=.set ir (ep+1) t2 }:=by
    have:=br (Obj.putSet ir t2) ho (by rw[putSet_of ir t2 hd];rfl);rw[putSet_of ir t2 hd] at this;exact this
   refine ae (wpAny_storeSet_of ho hd ?_ (fits_of_scanBound ()));have Gy:=bV s.heap a (Obj.putSet ir t2);split
   ·have p2:=relayAll_perm t2 ir (SetTable.grown ir.size);have f3:=relayAll_fits t2 ir (SetTable.grown ir.size);have w3:=az0 (es:=ir) (n:=SetTable.grown ir.size) w2;generalize relayAll t2 ir (SetTable.grown ir.size)=R2 at p2 f3 w3 ⊢;obtain⟨pI,t3,gv2⟩:=R2;dsimp only at p2 f3 w3 ⊢;have sz2:pI.size=ir.size:=by rw[<- cJ,p2.length_eq,cJ]
    refine ae (gv _ _ _ ?_);refine ae (wpAny_storeSet_of g1 rfl ?_ (fits_of_scanBound ()));refine au (au (h _ _ (Gy.trans (bV _ a _)) ?_));have g2:((s.heap.update a (Obj.putSet ir t2)).update a (Obj.putSet pI t3)).get? a=some { o with data:=.set pI (ep+1+1) t3 }:=by
     have:=br (Obj.putSet pI t3) g1 (by rfl);exact this
    exact⟨_,pI,_,t3,g2,hx,rfl,Ir.perm p2,(p2.map _).trans k1,n1,by omega,f3,w3⟩
   ·exact au (au (h _ _ Gy ⟨_,ir,_,t2,g1,hx,rfl,Ir,k1,n1,by omega,f1 |> λ_=>f2,w2⟩))
  split
  ·refine ae (fe (hashByValue_scannable 8 rfl) ?_);exact fin _ f1 w1
  ·refine ae (au ?_);exact fin _ f1 w1
theorem aH9:entryFor table "set.__iter__"=some Builtin.«frozenset.__iter__» :=
 entryFor_alias (id':="frozenset.__iter__") (by kernel_rfl) rfl (by decide +kernel) (by kernel_rfl)
theorem E6:Slot "set_iterator" "__next__" "set_iterator.__next__" :=
 .of (owner:="set_iterator") (n:="__next__") (by rw[typeLookup_type,builtinLookup_eq_fast];kernel_rfl) (by decide +kernel) (by decide +kernel) (by decide +kernel)
  (by first|exact .inl (by decide +kernel)|exact .inr (by decide +kernel)) (by rw[gs];kernel_rfl)
theorem KP:entryFor table "set_iterator.__next__"=some Builtin.«set_iterator.__next__»:=entryFor_of_tree (by kernel_rfl)
theorem Li(a:Value):argsOk "set_iterator.__next__" ⟨[a],[]⟩:=by
 unfold argsOk
 kernel_rfl
theorem Ln:Slot "set_iterator" "__iter__" "set_iterator.__iter__" :=
 .of (owner:="set_iterator") (n:="__iter__") (by rw[typeLookup_type,builtinLookup_eq_fast];kernel_rfl) (by decide +kernel) (by decide +kernel) (by decide +kernel)
  (by first|exact .inl (by decide +kernel)|exact .inr (by decide +kernel)) (by rw[gs];kernel_rfl)
theorem aL5:entryFor table "set_iterator.__iter__"=some Builtin.«dict_keyiterator.__iter__» :=
 entryFor_alias (id':="dict_keyiterator.__iter__") (by kernel_rfl) rfl (by decide +kernel) (by kernel_rfl)
theorem aJ6(a:Value):argsOk "set_iterator.__iter__" ⟨[a],[]⟩:=by
 unfold argsOk
 kernel_rfl
inductive Rd|text|plain|drawn
structure Lies(h:Heap)(a:Addr)(es:Array (Int×Value))(ep:Nat)(t:SetTable):Prop where
 at_:∃o,h.get? a=some o/\o.cls=.type "set"/\o.data=.set es ep t
 fit:t.fits es.size=true
theorem Lies.at(x:Lies h a es ep t)(k:∀o,h.get? a=some o->h'.get? a=some o):Lies h' a es ep t :=
 ⟨let ⟨o,e,r⟩:=x.at_;⟨o,k o e,r⟩,x.fit⟩
def F6(h:Heap)(I a:Addr)(f:Value)(i n ep:Nat):Prop:=∃o,h.get? I=some o/\o.cls=.type "set_iterator"/\o.data=.fields #[f,rawInt i,.ref a,rawInt n,rawInt ep]
theorem F6.at(x:F6 h I a f i n ep)(k:∀o,h.get? I=some o->h'.get? I=some o):F6 h' I a f i n ep:=let ⟨o,e,r⟩:=x;⟨o,k o e,r⟩
theorem F6.ty(x:F6 s.heap I a f i n ep):s.TypeIs (.ref I) "set_iterator":=let ⟨o,e,c,_⟩:=x;⟨o,e,c⟩
def xh(w:World)(a:Addr)(es:Array (Int×Value))(ep:Nat)(pl:List Nat):Rd->List Value
 |.text=>(pickOrder (w.params.setOrder a ep) es).toList.map (·.2)
 |.plain=>es.toList.map (·.2)
 |.drawn=>pl.map λj=>(es.getD j (0,.none)).2
def slotAt(t:SetTable):Nat->Nat
 |0=>0
 |i+1=>t.place.getD i 0+1
def Q3(h:Heap)(t:SetTable)(b:Addr)(pl:List Nat)(i:Nat)(f:Value):Rd->Prop
 |.text=>∃k:Nat,f=rawInt k
 |.plain=>f=rawInt (slotAt t i)
 |.drawn=>f=.ref b/\∃o e,h.get? b=some o/\o.cls=.type "tuple"/\o.data=.seq (pl.map λj=>rawInt (j:Nat)).toArray e
def uq(w:World)(es:Array (Int×Value))(t:SetTable)(pl:List Nat):Rd->Prop
 |.text=>w.params.followText "set-order"=true
 |.plain=>w.params.followText "set-order"=false/\(t.plain=true\/es.size<=1)/\Well true t
 |.drawn=>w.params.followText "set-order"=false/\pl.Perm (List.range es.size)
theorem xn{Q:Bool->Shared->Prop}(h:Q (w.params.followText "set-order") s):wpAny (model prog w) A setsByText Q E s:=by
 exact ae (qS (au h))
theorem Kc(hL:Lies s.heap a es ep t)(ht:w.params.followText "set-order"=true){sl g:Nat}{Q:Option (Value×Nat)->Shared->Prop}(h:Q (((pickOrder (w.params.setOrder a ep) es)[g]?).map λe=>(e.2,sl)) s) :
  wpAny (model prog w) A (setNext a sl g ep) Q E s:=by
 obtain⟨o,ho,_,hd⟩:=hL.at_;refine ae (cP ho hd hL.fit ?_);refine ae (xn ?_);rw[ht,aG rfl,aD (by simp)];refine ae (ae (cP ho hd hL.fit ?_));refine ae (xn ?_);rw[ht,aG rfl];exact ae (qS (au (au h)))
theorem Kz(hL:Lies s.heap a es ep t)(ht:w.params.followText "set-order"=false)(hp:t.plain=true\/es.size<=1)(hl:t.led=true){sl g:Nat}{Q:Option (Value×Nat)->Shared->Prop}(h:Q (match es[SetTable.below t.place sl]?,t.place[SetTable.below t.place sl]? with|some (_,x),some j=>some (x,j+1)|_,_=>none) s):wpAny (model prog w) A (setNext a sl g ep) Q E s:=by
 obtain⟨o,ho,_,hd⟩:=hL.at_;refine ae (cP ho hd hL.fit ?_);refine ae (xn ?_);rw[ht,aD ∅];show wpAny _ _ (if(!t.plain&&decide (es.size>1))=true then _ else _) _ _ _;rw[aD (by rcases hp with e|e<;>simp[e])];refine ae (fe (a:=Unit.unit) ?_ (au h));show((if(!t.led&&!es.isEmpty)=true then unsupported "set:maker-not-led" else pure Unit.unit):Sem Unit)=pure Unit.unit;rw[hl]
 rfl
theorem aT2(hL:Lies s.heap a es ep t)(hj:j<es.size)(h:Q (es.getD j (0,.none)).2 s):wpAny (model prog w) A (setNextDrawn a j ep) Q E s:=by
 obtain⟨o,ho,_,hd⟩:=hL.at_;refine ae (cP ho hd hL.fit ?_);dsimp only;rw[aD (by simp)];have e:es[j]?=some (es.getD j (0,.none)):=by simp_all
 rw[e];exact au h
theorem Nh(hL:Lies s.heap a es ep t):t.place.size=es.size:=by
 have:=hL.fit;unfold SetTable.fits at this;simp at this;exact this.1
theorem Kp(hw:lF t.place)(hi:i<=t.place.size):SetTable.below t.place (slotAt t i)=i:=by
 cases i with
 |zero=>exact aW2 hw
 |succ i=>exact aW3 hw ()
theorem entries{Q:Array (Int×Value)->Shared->Prop}(hL:Lies s.heap a es ep t)(h:Q es s):wpAny (model prog w) A (setEntries a) Q E s:=by
 obtain⟨o,ho,_,hd⟩:=hL.at_;exact ae (cP ho hd hL.fit (au h))
theorem WL{f':Value}(hi:F6 h I a f i n ep)(hx:x=rawInt ((i:Int)+1)):F6 ((h.update I (Obj.mapFields (·.setIfInBounds 0 f'))).update I (Obj.mapFields (·.setIfInBounds 1 x))) I a f' (i+1) n ep:=by
 obtain⟨o,ho,hc,hd⟩:=hi;have h1:=br (Obj.mapFields (·.setIfInBounds 0 f')) ho (dH (bK hd _));have d1:(Obj.mapFields (·.setIfInBounds 0 f') o).data=.fields #[f',rawInt i,.ref a,rawInt n,rawInt ep]:=by rw[bK hd];simp
 have h2:=br (Obj.mapFields (·.setIfInBounds 1 x)) h1 (dH (bK d1 _));refine⟨_,h2,(oP ..).trans ((oP ..).trans hc),?_⟩;rw[bK d1]
 simp_all
theorem WK(hi:F6 h I a f i n ep)(hx:x=rawInt ((i:Int)+1)):F6 (h.update I (Obj.mapFields (·.setIfInBounds 1 x))) I a f (i+1) n ep:=by
 obtain⟨o,ho,hc,hd⟩:=hi;have h2:=br (Obj.mapFields (·.setIfInBounds 1 x)) ho (dH (bK hd _));refine⟨_,h2,(oP ..).trans hc,?_⟩;rw[bK hd];subst hx;simp[rawInt]
theorem II{f':Value}{m:Sem α}{Q':α->Shared->Prop}(hi:F6 s.heap I a f i n ep)(hx:x=rawInt ((i:Int)+1))(h:∀h',F6 h' I a f' (i+1) n ep->Heap.SameBut I s.heap h'->wpAny (model prog w) A m Q' E { s with heap:=h' }) :
  wpAny (model prog w) A (do setField (.ref I) 0 f';setField (.ref I) 1 x;m) Q' E s:=by
 obtain⟨o,ho,hc,hd⟩:=id hi;refine ae (eF ho hd (by simp) ?_);have h1:=br (Obj.mapFields (·.setIfInBounds 0 f')) ho (dH (bK hd _));have d1:(Obj.mapFields (·.setIfInBounds 0 f') o).data=.fields #[f',rawInt i,.ref a,rawInt n,rawInt ep]:=by rw[bK hd];simp
 refine ae (eF (s:={ s with heap:=_ }) h1 d1 (by simp) ?_);exact h _ (WL hi hx) ((bV ..).trans (bV ..))
theorem Xr{m:Sem α}{Q':α->Shared->Prop}(hi:F6 s.heap I a f i n ep)(hx:x=rawInt ((i:Int)+1))(h:∀h',F6 h' I a f (i+1) n ep->Heap.SameBut I s.heap h'->wpAny (model prog w) A m Q' E { s with heap:=h' }) :
  wpAny (model prog w) A (do setField (.ref I) 1 x;m) Q' E s:=by
 obtain⟨o,ho,hc,hd⟩:=id hi;refine ae (eF ho hd (by simp) ?_);exact h _ (WK hi hx) (bV ..)
theorem DN(next:Nat->Nat)(xs:Array α):(pickOrder next xs).toList.Perm xs.toList:=by
 have go:∀(fuel k:Nat) (left:List α) (out:Array α),fuel=left.length->(pickOrder.go next fuel k left out).toList.Perm (out.toList++left):=by
  intro fuel
  induction fuel with
  |zero =>
   intro k left out e;have:left=[]:=dZ e.symm;subst this;simp[pickOrder.go]
  |succ n ih =>
   intro k left out e;have dY:next k % left.length<left.length:=NU _ ()
   unfold pickOrder.go;rw[ag dY];refine(ih _ _ _ (by rw[gS dY];omega)).trans ?_;rw[dE,bS];refine eI _ ?_;have:left.Perm (left[next k % left.length]::left.eraseIdx (next k % left.length)):=by
    rw[lU]
    conv=>lhs;rw[<- bJ (next k % left.length) left,dj dY]
    exact List.perm_middle
   exact this.symm
 have:=go xs.size 0 xs.toList #[] (by simp);simpa[pickOrder] using this
theorem next_item{Q:Option Value->Shared->Prop}(hL:Lies s.heap a es ep t)(hr:uq w es t pl r)(hi:F6 s.heap I a f i es.size ep)(hf:Q3 s.heap t b pl i f r)(fR:b≠I)(dY:i<es.size)(h:∀v h' f',(xh w a es ep pl r)[i]?=some v->F6 h' I a f' (i+1) es.size ep->Q3 h' t b pl (i+1) f' r->Heap.SameBut I s.heap h'->Q (some v) { s with heap:=h' }):wpAny (model prog w) A (pyNext (.ref I)) Q E s:=by
 obtain⟨o,ho,hc,hd⟩:=id hi;refine ae (mT (wpAny_callSpecial?_slot (name:=Str.ofString "__next__") hi.ty E6 (eG E6 hi.ty KP ?_ (Li _))));refine ae (au ?_);refine ae (wpAny_fieldsOf ho hd ?_);refine ae (entries hL ?_);rw[aD (by simp)];rw[dD,dD];cases r with
 |text =>
  obtain⟨k,rfl⟩:=hf;refine ae (Kc hL hr ?_);have hl:i<(pickOrder (w.params.setOrder a ep) es).size:=by
   have:=(DN (w.params.setOrder a ep) es).length_eq
   simp_all
  rw[qe hl];refine II hi rfl λh' h1 h2=>au ⟨_,rfl,au (h _ _ _ ?_ h1 ⟨_,rfl⟩ h2)⟩;show((pickOrder (w.params.setOrder a ep) es).toList.map (·.2))[i]?=_;simp[hl]
 |plain =>
  obtain⟨r1,r2,r3⟩:=hr;have hs:=Nh hL;obtain rfl:=hf;dsimp only[rawInt];rw[dD];refine ae (Kz hL r1 r2 r3.led ?_);rw[Kp r3.ym (),qe dY,getD_mem ()];refine II hi rfl λh' h1 h2=>au ⟨_,rfl,au (h _ _ _ ?_ h1 rfl h2)⟩;show(es.toList.map (·.2))[i]?=_;simp[dY]
 |drawn =>
  obtain⟨r1,r2⟩:=hr;obtain⟨rfl,ob,e,hb,HM,yN⟩:=hf;have gZ:i<pl.length:=by rw[r2.length_eq];simpa using dY
  refine ae (wpAny_seqItems hb yN ?_);have hj:pl[i]<es.size:=by
   have:=r2.mem_iff.mp (cC gZ)
   simp_all
  have e1:(pl.map λj=>rawInt (j:Nat)).toArray[i]?=some (rawInt (pl[i]:Nat)):=by simp[gZ]
  dsimp only;rw[e1];refine ae (aT2 hL hj ?_);refine Xr hi rfl λh' h1 h2=>au ⟨_,rfl,au (h _ _ _ ?_ h1 ⟨rfl,ob,e,by rw[h2.2 b fR];exact hb,HM,yN⟩ h2)⟩;show(pl.map λj=>(es.getD j (0,.none)).2)[i]?=_;simp[gZ]
theorem DP{Q:Option Value->Shared->Prop}{h0:Heap}(hh:A.handled=none)(QT:Heap.ExtBut I h0 s.heap)(h:∀h',Heap.ExtBut I h0 h'->Q none { s with heap:=h' }) :
  wpAny (model prog w) A.in1 (newExc (.type "StopIteration") [] >>= λe=>(raiseNew e:Sem Fin)) (λfin s'=>∃v,fin=Fin.done (Flow.ret v)/\wpAny (model prog w) A (pure (some v)) Q E s')
   (λe s'=>wpAny (model prog w) A (do
     let x <- isInstance e (Value.type "StopIteration")
     if x=true then pure none else throw e) Q E s') s:=by
 refine ae ?_;refine ae (dP ?_ (by size_fits));refine ae (m:=firstArgMember _ _) (fe (a:=Value.none) (by rfl) ?_);refine dP ?_ (by size_fits);refine ae (wpAny_handled ?_);rw[show A.in1.handled=none from hh];refine ae (au (wpAny_throw ?_));refine ae (fz (T:="StopIteration") (b:=true) ⟨_,aE _ rfl,rfl⟩ isSubtype_stop ?_);exact au (h _ ((QT.push _).push _))
theorem next_end{Q:Option Value->Shared->Prop}(hh:A.handled=none)(hL:Lies s.heap a es ep t)(hr:uq w es t pl r)(hi:F6 s.heap I a f es.size es.size ep)(hf:Q3 s.heap t b pl es.size f r)(fR:b≠I)(h:∀h',Heap.ExtBut I s.heap h'->Q none { s with heap:=h' }):wpAny (model prog w) A (pyNext (.ref I)) Q E s:=by
 obtain⟨o,ho,hc,hd⟩:=id hi;refine ae (mT (wpAny_callSpecial?_slot (name:=Str.ofString "__next__") hi.ty E6 (eG E6 hi.ty KP ?_ (Li _))));refine ae (au ?_);refine ae (wpAny_fieldsOf ho hd ?_);refine ae (entries hL ?_);rw[aD (by simp)];rw[dD,dD];cases r with
 |text =>
  obtain⟨k,rfl⟩:=hf;refine ae (Kc hL hr ?_);have hl:(pickOrder (w.params.setOrder a ep) es).size<=es.size:=by
   have:=(DN (w.params.setOrder a ep) es).length_eq
   grind
  rw[uV hl];refine ae (eF ho hd (by simp) ?_);exact DP (s:={ s with heap:=_ }) hh (bV ..).extBut h
 |plain =>
  obtain⟨r1,r2,r3⟩:=hr;have hs:=Nh hL;obtain rfl:=hf;dsimp only[rawInt];rw[dD];refine ae (Kz hL r1 r2 r3.led ?_);rw[Kp r3.ym (),uV (aw _)];refine ae (eF ho hd (by simp) ?_);exact DP (s:={ s with heap:=_ }) hh (bV ..).extBut h
 |drawn =>
  obtain⟨r1,r2⟩:=hr;obtain⟨rfl,ob,e,hb,HM,yN⟩:=hf;have gZ:pl.length=es.size:=by rw[r2.length_eq];simp
  refine ae (wpAny_seqItems hb yN ?_);have e1:(pl.map λj=>rawInt (j:Nat)).toArray[es.size]?=none:=by simp[gZ]
  dsimp only;rw[e1];refine ae (eF ho hd (by simp) ?_);have h1:=br (Obj.mapFields (·.setIfInBounds 0 (Value.int 0 0))) ho (dH (bK hd _));refine ae (eF (s:={ s with heap:=_ }) h1 (bK hd _) (by simp) ?_);exact DP (s:={ s with heap:=_ }) hh ((bV ..).trans (bV ..)).extBut h
theorem a07{l:List α}(dY:k<l.length):(l[k]::l.eraseIdx k).Perm l:=by
 rw[lU]
 conv=>rhs;rw[<- bJ k l,dj dY]
 exact List.perm_middle.symm
theorem Kr{α:Type}:∀(n:Nat) (xs:List α) (s:Shared) (Q:List α->Shared->Prop),n=xs.length->(∀ys d,ys.Perm xs->Q ys { s with drawn:=d })->wpAny (model prog w) A (drawOrder n xs) Q E s
 |0,xs,s,Q,e,h=>by
  have:xs=[]:=dZ e.symm;subst this;exact au (h [] s.drawn (oR _))
 |n+1,[],s,Q,e,h=>by simp at e
 |n+1,x::xs,s,Q,e,h=>by
  refine ae ?_;intro Γ p hΓ;refine⟨by simp,?_⟩;generalize (model prog w).w.draws .order (s.drawn.get .order)=k;have dY:k % (x::xs).length<(x::xs).length:=NU _ (by simp);have go:wpAny (model prog w) A (match (x :: xs)[k % (x :: xs).length]? with
   |some y=>do
    let ys <- drawOrder n ((x::xs).eraseIdx (k % (x::xs).length))
    pure (y::ys)
   | none=>unsupported "internal:drawOrder") Q E { s with drawn:=s.drawn.bump .order }:=by
   rw[ag dY];refine ae (Kr n _ _ _ (by rw[gS dY];omega) λys d hp=>au ?_);exact h _ d ((List.Perm.cons _ hp).trans (a07 dY))
  exact go
theorem MU(hr:uq w es t pl r):(xh w a es ep pl r).Perm (es.toList.map (·.2)):=by
 cases r with
 |text=>exact(DN _ es).map _
 |plain=>rfl
 |drawn =>
  refine(hr.2.map _).trans ?_;have:(List.range es.size).map (λj=>(es.getD j (0,.none)).2)=es.toList.map (·.2):=by
   apply List.ext_getElem
   ·simp
   simp_all
  rw[this]
theorem Lies.ty(hL:Lies s.heap a es ep t):s.TypeIs (.ref a) "set":=let ⟨o,e,c,_⟩:=hL.at_;⟨o,e,c⟩
theorem a74(hL:Lies s.heap a es ep t)(hw:Well (Led w) t)(hz:es.size<=10000)(h:∀r pl b f I h' d',uq w es t pl r->F6 h' I a f 0 es.size ep->Q3 h' t b pl 0 f r->b≠I->(b=a\/s.heap.objs.size<=b)->(∀c o,s.heap.get? c=some o->h'.get? c=some o)->s.heap.objs.size<=I->s.heap.objs.size<=h'.objs.size->Q (.ref I) { s with heap:=h',drawn:=d' }) :
  wpAny (model prog w) A (pyIter (.ref a)) Q E s:=by
 obtain⟨o,ho,BA,hd⟩:=hL.at_;refine wpAny_pyIter_slot hL.ty F.slot_set_iter (eG F.slot_set_iter hL.ty aH9 ?_ (F.args_set_iter_1 _));refine ae (au ?_);refine ae (ae (entries hL (au ?_)));refine ae (ae (cP ho hd hL.fit ?_));refine ae (xn (au ?_));have dY:=az ho;have fin:∀(r:Rd) (f:Value) (b:Addr) (pl:List Nat) (h1:Heap) (d1:Drawn),uq w es t pl r->(∀h',(∀c o,h1.get? c=some o->h'.get? c=some o)->Q3 h' t b pl 0 f r)->b<h1.objs.size->(b=a\/s.heap.objs.size<=b)->(∀c o,s.heap.get? c=some o->h1.get? c=some o)->s.heap.objs.size<=h1.objs.size ->
   wpAny (model prog w) A.in1 (do
    let e <- setEpoch a
    ret (<- newFields "set_iterator" [f,rawInt 0,.ref a,rawInt es.size,rawInt e])) (λfin s'=>∃ v,fin=Fin.done (Flow.ret v)/\∃ T' r,s'.TypeIs v T'/\typeLookup (.type T') "__next__"=pure (some r)/\Q v s') E { s with heap:=h1,drawn:=d1 }:=λr f b pl h1 d1 hr hf hb tY he hsz=>by
  have ub:Lies h1 a es ep t:=hL.at λo e=>he a o e;obtain⟨o1,qu,_,HJ⟩:=ub.at_;refine ae (ae (cP (s:={ s with heap:=h1,drawn:=d1 }) qu HJ ub.fit (au ?_)));refine ae (dP (au ⟨_,rfl,"set_iterator",_,⟨_,aE _ rfl,rfl⟩,E6.lookup,?_⟩));refine h r pl b f h1.objs.size _ d1 hr ⟨_,aE _ rfl,rfl,rfl⟩ (hf _ λc o e=>ao _ e) (aM hb) tY (λc o e=>ao _ (he c o e)) hsz (by rw[size_push'];exact Nat.le_succ_of_le hsz)
 cases hT:w.params.followText "set-order" with
 |true =>
  refine ae (au ?_);exact fin .text (rawInt 0) a [] s.heap s.drawn hT (λh' _=>⟨0,rfl⟩) dY (.inl rfl) (λc o e=>e) (aw _)
 |false =>
  show wpAny _ _ (if(!false&&(!t.plain&&decide (es.size>1)))=true then _ else _ ) _ _ _;by_cases hp:t.plain=true\/es.size<=1
  ·rw[aD (by rcases hp with e|e<;>simp[e])];refine ae (au ?_);refine fin .plain (rawInt 0) a [] s.heap s.drawn ⟨hT,hp,?_⟩ (λh' _=>rfl) dY (.inl rfl) (λc o e=>e) (aw _);have:Led w=true:=by unfold Led;rw[hT];rfl
   simp_all
  ·rw[aG (by grind)];refine ae (Kr _ _ _ _ (fM).symm λys d hy=>?_);have hl:ys.length=es.size:=by rw[hy.length_eq];simp
   refine ae (dP ?_ (by show(List.map _ ys).toArray.size<=sizeLine;rw[aX,ak,hl];exact aC hz ∅));refine fin .drawn (.ref s.heap.objs.size) s.heap.objs.size ys _ d ⟨hT,hy⟩ (λh' hk=>⟨rfl,_,_,hk _ _ (aE _ rfl),rfl,rfl⟩) (by simp) (.inr (aw _)) (λc o e=>ao _ e) (by simp)
theorem aY9(hh:A.handled=none)(hr:uq w es t pl r)(fR:b≠I)(Hq:a≠I) :
  Walks prog w A I [I,a,b] [I] es.size (λi v=>(xh w a es ep pl r)[i]?=some v) (λi h=>Lies h a es ep t/\∃f,F6 h I a f i es.size ep/\Q3 h t b pl i f r) where
 sub:=λc hc=>by simp_all
 frame:=λi h h' st hk=>by
  obtain⟨hL,f,hi,hf⟩:=st;refine⟨hL.at λo e=>hk a (by simp) o e,f,hi.at λo e=>hk I (by simp) o e,?_⟩;cases r with
  |text=>exact hf
  |plain=>exact hf
  |drawn =>
   obtain⟨e1,o,e,h1,h2⟩:=hf;exact⟨e1,o,e,hk b (by simp) o h1,h2⟩
 item:=λi s Q E hi st hQ=>by
  obtain⟨hL,f,hI,hf⟩:=st;exact next_item hL hr hI hf fR hi λv h' f' hv h1 h2 h3=>hQ v h' s.toks hv ⟨hL.at λo e=>by rw[h3.2 a Hq];exact e,f',h1,h2⟩ λc o hc e=>h3.extBut c o (λz=>hc (by simp[z])) e
 done:=λs Q E st hQ=>by
  obtain⟨hL,f,hI,hf⟩:=st;exact next_end hh hL hr hI hf fR λh' he=>hQ h' s.toks λc o hc e=>he c o (λz=>hc (by simp[z])) e
 self:=λi s Q E st hQ=>by
  obtain⟨hL,f,hI,hf⟩:=st;refine wpAny_pyIter_slot hI.ty Ln (eG Ln hI.ty aL5 ?_ (aJ6 _));exact ae (au (au ⟨_,rfl,"set_iterator",_,hI.ty,E6.lookup,hQ⟩))
theorem aG8:typeLookup (.type "set") "__len__"=pure (some (.builtin "set.__len__")):=by rfl
theorem aK5(hh:A.handled=none)(hL:Lies s.heap a es ep t)(hw:Well (Led w) t)(hz:es.size<=10000){Q:List Value->Shared->Prop}(h:∀(vs:List Value) h' d' kB,vs.Perm (es.toList.map (·.2))->(∀c o,s.heap.get? c=some o->h'.get? c=some o)->s.heap.objs.size<=h'.objs.size->s.toks<=kB->Q vs { s with heap:=h',drawn:=d',toks:=kB }) :
  wpAny (model prog w) A (collect (.ref a)) Q E s:=by
 have dY:a<s.heap.objs.size:=let ⟨o,ho,_⟩:=hL.at_;az ho
 refine ae (wpAny_runValue (dN F.entry_proto_collect ?_));refine ae (dP ?_);refine au ⟨gL F.plain_list_iadd _,dN F.entry_list_iadd ?_⟩;have ub:Lies (s.heap.push { cls:=.type "list",data:=.seq ([]:List Value).toArray }) a es ep t:=hL.at λo e=>ao _ e;have Qs:(s.heap.push { cls:=.type "list",data:=.seq ([]:List Value).toArray }).get? s.heap.objs.size=some { cls:=.type "list",data:=.seq ([]:List Value).toArray }:=aE _ rfl;have fR:s.heap.objs.size≠a:=cu dY;have h1:Builtin.List.listSameRef (.ref s.heap.objs.size) (.ref a)=false:=by simp[Builtin.List.listSameRef,fR]
 show wpAny _ A.in1 (Builtin.List.listExtendWith (.ref s.heap.objs.size) (.ref a) (.ref s.heap.objs.size)) _ _ _;refine ae (iB (Lies.ty (s:={ s with heap:=_ }) ub) ?_);rw[aD (by rw[h1];decide)];refine ae (a74 (s:={ s with heap:=_ }) ub hw hz λr pl b f I h2 d2 hr hI hf hb Qk he BZ h2z=>?_);have rR:Lies h2 a es ep t:=ub.at λo e=>he a o e;have qw:=he _ _ Qs;refine ae (bU ?_);refine ae (wpAny_specialOf (Lies.ty (s:={ s with heap:=h2,drawn:=d2 }) rR) aG8 ?_);generalize Hw:("set.__len__":String)=OW;dsimp only;rw[show splitId OW=some ("set","__len__") from by subst Hw;decide +kernel];dsimp only;refine ae (fz (b:=true) (Lies.ty (s:={ s with heap:=h2,drawn:=d2 }) rR) (by rfl) ?_);rw[aD ∅];subst Hw;rw[aG (by decide +kernel)];refine ae (iB (Lies.ty (s:={ s with heap:=h2,drawn:=d2 }) rR) ?_);refine au ?_;rw[aG (by decide +kernel)];refine ae (eO ?_);refine ae ?_;show wpAny _ A.in1 (updateSeq s.heap.objs.size (·.push .none) >>= λ_=>updateSeq s.heap.objs.size (·.pop)) _ _ _;refine ae (wpAny_updateSeq (s:={ s with heap:=h2,drawn:=d2 }) qw rfl ?_);have HV:=br (Obj.mapSeq (·.push Value.none)) qw rfl;refine wpAny_updateSeq (s:={ s with heap:=_,drawn:=d2 }) HV rfl ?_;have Qr:=br (Obj.mapSeq (·.pop)) HV rfl;have yn:∀c o,c≠s.heap.objs.size->h2.get? c=some o->((h2.update s.heap.objs.size (Obj.mapSeq (·.push Value.none))).update s.heap.objs.size (Obj.mapSeq (·.pop))).get? c=some o :=
  λc o hc e=>(df _ _ (cq hc)).trans ((df _ _ (cq hc)).trans e)
 have tO:s.heap.objs.size<(s.heap.push { cls:=.type "list",data:=.seq ([]:List Value).toArray }).objs.size:=by simp
 have hSI:I≠s.heap.objs.size:=cu (aB tO BZ);have hSb:b≠s.heap.objs.size:=by
  rcases Qk with z|z
  ·rw[z];exact cq fR
  ·exact cu (aB tO z)
 have W:=(aY9 (prog:=prog) (w:=w) (A:=A.in1) (a:=a) (b:=b) (I:=I) (es:=es) (ep:=ep) (t:=t) (pl:=pl) hh hr hb (aM (aB (cW dY tO) BZ))).toS;have st:Lies h2 a es ep t/\∃f,F6 h2 I a f 0 es.size ep/\Q3 h2 t b pl 0 f r:=⟨rR,f,hI,hf⟩
 have gB:=W.frame 0 ({ s with heap:=h2,drawn:=d2 }:Shared) _ s.toks st (aw _) λc hc o e=>yn c o (λz=>by simp at hc;rcases hc with y|y|y<;>simp_all) e;refine au ⟨gL F.plain_extend_loop _,codeAny_extend_loopS W (aC hz ∅) _ (λz=>by simp at z;rcases z with y|y|y<;>simp_all) _ es.size 0 _ _ _ rfl (bW _) gB Qr (ItemsOf.nil _) λs' xy c' hm lR nV=>?_⟩;show wpAny _ A (load s.heap.objs.size >>= _) _ _ s';refine ae (wpAny_load lR ?_);refine au ?_;have eS:s'={ s with heap:=s'.heap,drawn:=d2,toks:=s'.toks }:=by
  obtain⟨iK,g',d',kB,rz⟩:=s';have m1:g'=s.gens:=hm.gens;have m2:d'=d2:=hm.drawn;have m3:rz=s.os:=hm.os
  grind
 have eo:xy.toList=xh w a es ep pl r:=by
  have l1:(xh w a es ep pl r).length=es.size:=by rw[(MU hr).length_eq];simp
  apply List.ext_getElem
  ·rw[l1];simpa using nV.1
  ·intro i h1 h2;have:=nV.2 i xy.toList[i] (by simp at h1 ⊢);dsimp only at this;rw[ag h2] at this;exact(aP this).symm
 rw[eo,eS];refine h _ _ d2 s'.toks (MU hr) (λc o e=>?_) (eV (az lR)) hm.toks;have hc:c<s.heap.objs.size:=az e;have n1:c≠s.heap.objs.size:=aM hc;have n2:c≠I:=aM (aB (cW hc tO) BZ);exact hm.heap c o (by simp[n1,n2]) (yn c o n1 (he c o (ao _ e)))
theorem aR2(hh:A.handled=none)(hS:A3 prog w s.heap a ks)(yU:ks.length<=600)(h:∀(S:Addr) (vs:List Value) (ns:List Int) e h' d' kB,IntsAre vs ns->ns.Perm ks->ns.Pairwise (·<=·)->h'.get? S=some (seqObj "list" vs.toArray e)->s.heap.objs.size<=S->(∀c o,s.heap.get? c=some o->h'.get? c=some o)->s.toks<=kB->Q (.ref S) { s with heap:=h',drawn:=d',toks:=kB }) :
  wpAny (model prog w) A (call (.builtin "sorted") [.ref a]) Q E s:=by
 obtain⟨o,es,ep,t,ho,hx,hd,nT,hp,hn,hb,hf,hw⟩:=hS;have hL:Lies s.heap a es ep t:=⟨⟨o,ho,hx.1,hd⟩,hf⟩
 have hz:es.size=ks.length:=by rw[<- hp.length_eq];simp
 refine Gg kind_sorted plain_sorted entry_sorted (args_sorted1 _) ?_;unfold Builtin.«sorted»;refine ae (m:=checkCount "sorted" 1 1 _) (au ?_);refine ae (aK5 (A:=A.in1) hh hL hw () λvs h1 d1 va hv he tO vS=>?_);have hI:IntsAre vs (vs.map toI):=by
  have all:∀v∈vs,∃tk,v=.int (toI v) tk:=λv Bt=>by
   obtain⟨e,lz,rfl⟩:=aN.mp (hv.mem_iff.mp Bt);obtain⟨tk,h1,_⟩:=zB nT lz;exact⟨tk,h1⟩
  clear hv
  induction vs with
  |nil=>exact .nil
  |cons v r ih =>
   obtain⟨tk,e⟩:=all v (by simp);have:=IntsAre.cons (toI v) tk (ih λu hu=>all u (by simp[hu]));rw[<- e] at this;exact this
 have hk:(vs.map toI).Perm ks:=by
  refine(hv.map toI).trans ?_;rw[bt];exact hp
 have hl:vs.length<=100000:=by rw[hv.length_eq];simp;omega
 refine ae (NP (s:={ s with heap:=h1,drawn:=d1,toks:=va }) ?_);have pe:(h1.push (seqObj "list" vs.toArray 0)).get? h1.objs.size=some (seqObj "list" vs.toArray 0):=aE _ rfl;refine ae (bU (eG (s:={ s with heap:=h1.push (seqObj "list" vs.toArray 0),drawn:=d1,toks:=va }) slot_list_sort ⟨_,pe,rfl⟩ entry_list_sort (TS.Na pe hI hl λout kR a1 a2 a3=>⟨_,rfl,?_⟩) (args_list_sort _)));obtain⟨e,lz⟩:=sortedHeap_at (vs:=vs) (out:=out) pe;refine au ⟨_,rfl,h h1.objs.size out.toList kR e _ d1 va a1 (a2.trans hk) a3 lz tO (λc o' e'=>?_) vS⟩;have hc:=az (he c o' e');rw[sortedHeap_old (aM hc) (by rw[size_push'];exact iu hc)];exact ao _ (he c o' e')
def i0(ks xs:List Int):List Int:=xs.foldl E4 ks
theorem O5:∀(xs ks:List Int),(i0 ks xs).length<=ks.length+xs.length
 |[],ks=>by simp[i0]
 |x::xs,ks=>by
  have:=O5 xs (E4 ks x);have h2:=VD ks x;show(i0 (E4 ks x) xs).length<=_
  grind
theorem T2:∀(xs ks:List Int) (k:Int),k∈i0 ks xs↔k∈ks\/k∈xs
 |[],ks,k=>by simp[i0]
 |x::xs,ks,k=>by
  show k∈i0 (E4 ks x) xs↔_;rw[T2 xs];unfold E4;split
  ·rename_i h;constructor
   ·rintro(a|a)
    ·exact .inl a
    ·exact .inr (by simp[a])
   ·rintro(a|a)
    ·exact .inl a
    ·rcases aJ.mp a with rfl|b
     ·exact .inl h
     ·exact .inr b
  ·simp[or_assoc]
theorem Ed:∀(xs ks:List Int),ks.Nodup->(i0 ks xs).Nodup
 |[],ks,h=>h
 |x::xs,ks,h=>by
  refine Ed xs _ ?_;unfold E4;split
  ·exact h
  ·rename_i hk;rw[cx];exact⟨h,by simp,λa ha b hb=>by simp at hb;subst hb;exact λz=>hk (z▸ha)⟩
theorem aV0:Well (Led w) (SetTable.fresh 0 0 (Led w)):=⟨by simp[lF,SetTable.fresh],rfl,rfl⟩
theorem JS(e:h.get? a=some { cls:=.type "set",dict:=none,data:=.set #[] 0 (.fresh 0 0 (Led w)) }):A3 prog w h a [] :=
 ⟨_,#[],0,_,e,⟨rfl,rfl,rfl⟩,rfl,(by intro e he;simp at he),by simp,by simp,by decide,by rfl,aV0⟩
theorem a61{R:Result->Shared->Prop}{fp wr:List Addr}{G:Array GenState->Array GenState->Prop}{P:Nat->Value->Prop}{St:Nat->Shared->Prop}(W:WalksS prog w A.in1 I fp wr G n P St)(HU:a∉fp)(hn:n=ns.length)(hv:∀i v,P i v->∃tk,v=.int (ns.getD i 0) tk)(hb:n+1<scanBound):∀(k i:Nat) (s:Shared),i+k=n->St i s->A3 prog w s.heap a (i0 [] (ns.take i)) ->
   (∀s',Moved (a::wr) G s s'->A3 prog w s'.heap a (i0 [] ns)->R (.ok (.ret .none)) s')->codeAny (model prog w) A (.builtin "set.update.loop" ⟨[.ref a,.ref I],[]⟩) R s:=by
 have hw:a∉wr:=λh=>HU (W.sub _ h);have nC:∀b∈wr,b∈a::wr:=λb hb=>by simp[hb]
 intro k
 induction k with
 |zero =>
  intro i s e st hS hR;obtain rfl:i=n:=by omega
  refine dN kh ?_;refine ae (W.done s _ _ st λs' m=>au (hR s' (m.mono nC) (A3.at ?_ λo e=>m.heap a o hw e)))
  simp_all
 |succ k ih =>
  intro i s e st hS hR;have dY:i<ns.length:=by omega
  refine dN kh ?_;refine ae (W.item i s _ _ () st λv s' hP ba m=>?_);obtain⟨tk,rfl⟩:=hv i v hP;have lR:=A3.at hS λo e=>m.heap a o hw e;have hl:=O5 (ns.take i) [];rw[dS] at hl;simp only[List.length_nil] at hl;refine ae (bU ?_);refine bU (ae ((intKind prog w).pyHash (k:=ns.getD i 0) (ff _ _ _ _) ?_));refine IT (s:={ s' with toks:=s'.toks+1 }) lR () λh' bb sb qw=>?_;have e2:E4 (i0 [] (ns.take i)) (ns.getD i 0)=i0 [] (ns.take (i+1)):=by
   unfold i0;rw[bA,List.foldl_append,ag dY];simp[List.getD,dY]
  rw[e2] at qw;refine au ⟨gL PyProof.Rows.F.plain_set_update_loop _,ih (i+1) _ () (W.frame _ s' _ _ ba (cL _) λb hb o e=>by rw[sb.2 b λz=>HU (z▸hb)];exact e) qw λs2 m2 h2=>?_⟩;exact hR s2 (Moved.trans W.gtrans ((m.mono nC).then_heap (cL _) λb o hb e=>by rw[sb.2 b λz=>hb (by rw[z];simp)];exact e) m2) h2
noncomputable abbrev A9(w:World):Obj:={ cls:=.type "set",dict:=none,data:=.set #[] 0 (.fresh 0 0 (Led w)) }
theorem Ml(h:Q (.ref s.heap.objs.size) { s with heap:=s.heap.push (A9 w) }):wpAny (model prog w) A (newSet (.type "set")) Q E s:=by
 refine ae (xn ?_);exact dP h (bW _)
theorem VI(x:Value)(h:Q (.ref s.heap.objs.size) { s with heap:=s.heap.push (A9 w) }):codeAny (model prog w) A (.call (.builtin "set.__new__") ⟨[.type "set",x],[]⟩) (wants Q E) s:=by
 refine uQ (?_:wpAny _ A.in1 (do
  checkBuiltinCall "set.__new__" ⟨[.type "set",x],[]⟩
  again (.builtin "set.__new__" ⟨[.type "set",x],[]⟩)) _ _ s)
 refine ae (fe (F.newCall_set_1 x) (au ⟨gL F.plain_set_new _,?_⟩));refine dN F.entry_set_new ?_;have sub:=sub_set_self;refine ae (m:=Builtin.Frozenset.newClass "set" _) ?_;refine ae (fe (a:=true) (by rfl) ?_);refine ae (fe sub ?_);refine au ?_;exact ae (Ml (au h))
theorem zJ{vs:List Value}(h:IntsAre vs ns):vs.length=ns.length:=by
 induction h with
 |nil=>rfl
 |cons n t r ih=>simp[ih]
def xC(h:Heap)(l:Addr)(items:Array Value):Prop:=h.IsList l items\/h.IsTuple l items
theorem xC.lt(x:xC h l items):l<h.objs.size:=by
 rcases x with⟨_,e,_⟩|⟨_,e,_⟩<;>exact az e
theorem VX{Q:Fin->Shared->Prop}(hh:A.handled=none)(hS:s.heap.get? a=some (A9 w))(hl:xC s.heap l items)(hi:IntsAre items.toList ns)(hb:items.size+1<scanBound)(fR:a≠l)(h:∀h' tk,A3 prog w h' a (i0 [] ns)->(∀b o,b≠a->s.heap.get? b=some o->h'.get? b=some o)->s.toks<=tk->wpAny (model prog w) A (ret .none) Q E { s with heap:=h',toks:=tk }) :
  wpAny (model prog w) A (Builtin.«set.__init__» ⟨[.ref a,.ref l],[]⟩) Q E s:=by
 have hT:s.TypeIs (.ref a) "set":=⟨_,hS,rfl⟩
 have dY:=hl.lt;have yD:l≠s.heap.objs.size:=aM dY;refine ae (fe (a:=Unit.unit) rfl ?_);have nm:∀{Q':String->Shared->Prop},(∀x,Q' x s)->wpAny (model prog w) A (typeNameOfCut 200 (.ref a)) Q' E s:=λ{Q'} q=>by
  refine ae (ae (iB hT ?_));refine au (fe (a:="set") ?_ (q _))
  rfl
 refine ae (nm λx=>?_);refine ae (m:=checkCount _ 0 1 _) (au ?_);refine ae (m:=Builtin.Frozenset.addrOf _) (au ?_);refine ae (ae (cP hS rfl rfl (au ?_)));rw[aD (by unfold SetTable.fill;simp[SetTable.fresh])];unfold Builtin.Frozenset.updateFrom Builtin.Frozenset.isAnySet;obtain⟨c,tW,wy,it,hit,Hu,St,W,eT⟩:∃c:String,(c="list"\/c="tuple")/\s.TypeIs (.ref l) c/\∃it:Obj,(∀Q':Value->Shared->Prop,Q' (.ref s.heap.objs.size) { s with heap:=s.heap.push it }->wpAny (model prog w) A (pyIter (.ref l)) Q' E s) /\
   (∀b o,s.heap.get? b=some o->(s.heap.push it).get? b=some o)/\∃St:Nat->Shared->Prop,WalksS prog w A.in1 s.heap.objs.size [s.heap.objs.size,l] [s.heap.objs.size] (λa b=>b=a) items.size (λi v=>items[i]?=some v) St/\St 0 { s with heap:=s.heap.push it }:=by
  rcases hl with hl|hl
  ·obtain⟨o,ho,hc,_⟩:=id hl;exact⟨"list",.inl rfl,⟨o,ho,hc⟩,_,λQ' q=>gp hl q,λb o e=>ao _ e,_,(Az (A:=A.in1) hh _ l yD items).toS,⟨⟨_,aE _ rfl,rfl,rfl⟩,hl.push _⟩⟩
  ·obtain⟨o,ho,hc,_⟩:=id hl;exact⟨"tuple",.inr rfl,⟨o,ho,hc⟩,_,λQ' q=>wpAny_pyIter_tuple hl q,λb o e=>ao _ e,_,(Walks.tuple (A:=A.in1) hh _ l yD items).toS,⟨⟨_,aE _ rfl,rfl,rfl⟩,hl.push _⟩⟩
 refine ae (ae (ae (fz (b:=false) wy (by rcases tW with rfl|rfl<;>(rw[gs];kernel_rfl)) ?_)));show wpAny (model prog w) A (isInstance (Value.ref l) (Value.type "frozenset")) _ _ _;refine fz (b:=false) wy (by rcases tW with rfl|rfl<;>(rw[gs];kernel_rfl)) ?_;rw[aD ∅];refine ae (iB wy ?_);rw[aD (by rcases tW with rfl|rfl<;>decide)];refine ae (hit _ ?_);refine ae (wpAny_runValue ?_);have Qn:a<s.heap.objs.size:=az hS;have hsz:items.size=ns.length:=by exact zJ hi
 refine a61 (a:=a) (ns:=ns) W (by simp only[List.mem_cons,List.not_mem_nil,or_false,not_or];exact⟨aM Qn,fR⟩) hsz (λi v hv=>IntsAre.int_at hi i v (by rw[eJ];exact hv)) hb items.size 0 _ ()
  eT (JS (Hu _ _ hS)) λs' m lR=>?_
 have eS:s'={ s with heap:=s'.heap,toks:=s'.toks }:=by
  obtain⟨iK,g',d',kB,rz⟩:=s';have m1:g'=s.gens:=m.gens;have m2:d'=s.drawn:=m.drawn;have m3:rz=s.os:=m.os
  simp_all
 rw[eS];refine au (h _ _ lR (λb o hb e=>?_) m.toks);exact m.heap b o (by simp only[List.mem_cons,List.not_mem_nil,or_false,not_or];exact⟨hb,aM (az e)⟩) (Hu _ _ e)
theorem MG(hh:A.handled=none)(hl:xC s.heap l items)(hi:IntsAre items.toList ns)(hb:items.size+1<scanBound)(h:∀h' tk,A3 prog w h' s.heap.objs.size (i0 [] ns)->(∀b o,s.heap.get? b=some o->h'.get? b=some o)->s.toks<=tk->Q (.ref s.heap.objs.size) { s with heap:=h',toks:=tk }) :
  wpAny (model prog w) A (call (.type "set") [.ref l]) Q E s:=by
 have cs:=F.called_set;obtain⟨_,_,y1⟩:=cs.mro;have y2:=cs.made;have y3:=cs.sub;have y4:=cs.notType;have y5:=cs.canCreate;have y6:=F.typeCall_set_1 (.ref l);refine wpAny_call (uQ (?_:wpAny _ _ (callAny (.type "set") _) _ _ _));refine au ⟨Code.quiet_builtin _ (by decide +kernel),dN F.entry_type_call ?_⟩;rw[Around.under_plain (weight_type_call_type "set" [.ref l] []) rfl]
 repeat (any_goals (first|assumption|wp_step))
 refine iC (VI (.ref l) (E:=E) (Q:=λv s1=>v=.ref s.heap.objs.size/\s1={ s with heap:=s.heap.push (A9 w) }) ⟨rfl,rfl⟩) ?_;rintro(e|fl) s1 hr
 ·exact hr
 cases fl with
 |next=>exact hr
 |brk=>exact hr
 |cont=>exact hr
 |ret v =>
 obtain⟨rfl,rfl⟩:=hr;have hS:(s.heap.push (A9 w)).get? s.heap.objs.size=some (A9 w):=aE _ rfl;have hT:Shared.TypeIs { s with heap:=s.heap.push (A9 w) } (.ref s.heap.objs.size) "set":=⟨_,hS,rfl⟩
 have y7:=cs.init.lookup;have y8:=cs.init.bind (.ref s.heap.objs.size)
 repeat (any_goals (first|assumption|wp_step))
 refine iC (codeAny_call_builtin (R:=wants (λv s2=>v=.none/\∃h' tk,s2={ s with heap:=h',toks:=tk }/\A3 prog w h' s.heap.objs.size (i0 [] ns)/\(∀b o,s.heap.get? b=some o->h'.get? b=some o)/\s.toks<=tk) E) cs.init.plain F.entry_set_init (check_set_init_1 hT ?_)) ?_
 ·have ka:xC (s.heap.push (A9 w)) l items:=hl.imp (·.push _) (·.push _);have PN:=hl.lt;refine VX (s:={ s with heap:=s.heap.push (A9 w) }) (by simp[hh]) hS ka hi hb (cu PN) λh' tk h1 h2 h3=>au ⟨rfl,h',tk,rfl,h1,λb o e=>h2 b o (aM (az e)) (ao _ e),h3⟩
 ·rintro(e|fl) s2 hr
  ·exact hr
  cases fl with
  |next=>exact hr
  |brk=>exact hr
  |cont=>exact hr
  |ret v =>
  obtain⟨rfl,h',tk,rfl,h1,h2,h3⟩:=hr
  repeat (any_goals (first|assumption|wp_step))
  exact h _ _ h1 h2 h3
end ST
namespace L2
open PySem PySem.Spec PyProof.Rows
def sQ(X:Cx)(a:Addr)(ks:List Int):HO:=.ext λh=>ST.A3 X.prog X.w h a ks
def u4(ns:List Int):List Int:=(ST.i0 [] ns).mergeSort (λa b=>decide (a<=b))
theorem W6:∀{a b:List Int},a.Perm b->a.Pairwise (·<=·)->b.Pairwise (·<=·)->a=b
 |[],b,h,_,_=>by simp_all
 |x::a,[],h,_,_=>absurd h.length_eq (by simp)
 |x::a,y::b,h,h1,h2=>by
  rw[fB] at h1 h2;have e:x=y:=by
   have m1:=h.mem_iff (a:=y);have m2:=h.mem_iff (a:=x);simp only[List.mem_cons,true_or,true_iff,iff_true] at m1 m2;rcases m1 with z|z
   ·exact z.symm
   ·grind
  subst e;rw[W6 (h.cons_inv) h1.2 h2.2]
theorem KN(ns:List Int):(u4 ns).Pairwise (·<=·):=by
 have:=tB (le:=λa b:Int=>decide (a<=b)) (λa b c h1 h2=>by simp at *;omega) (λa b=>by simp;omega) (ST.i0 [] ns);exact this.imp λh=>by simpa using h
theorem K5(ns:List Int):(u4 ns).Perm (ST.i0 [] ns):=Gb _ _
theorem Q9(ns:List Int):(u4 ns).length<=ns.length:=by
 rw[(K5 ns).length_eq];have:=ST.O5 ns []
 simp_all
section
variable{X:Cx}{pins:List (Addr×Obj)}{U:St}{H:Hp}{s:Shared}
theorem Inv.draw(I:Inv X pins U H s)(d:Drawn):Inv X pins U H { s with drawn:=d } :=
 I.step (g':=s.gens) (t':=s.toks) (d':=d) (ch:=[]) (by simp) (λb o _ _ _ e _=>e) (λb o _ _ _ e _=>⟨o.slots,e⟩) (λb o _ _ e=>e) (λb o _ e=>⟨o,e⟩) (λ_ _ e=>e) (λ_ _ _ e=>e) (λb ps e=>⟨#[],by simp[e]⟩) (λm hm=>hm) I.bY I.bare
theorem Mv{h:Heap}{a:Addr}{ks:List Int}(x:ST.A3 X.prog X.w h a ks):u6 X.prog X.w H h a (sQ X a ks) :=
 ⟨x,by obtain⟨o,_,_,_,e,_⟩:=x;exact⟨o,e⟩,λh1 h2 y k=>y.at k⟩
theorem KO{ns:List Int}{vs:List Value}(h:IntsAre vs ns):Vals (ns.map V.int) vs:=by
 induction h with
 |nil=>exact .nil
 |cons n t r ih=>exact .cons ⟨t,rfl⟩ ih
theorem K9:∀{ns:List Int} {vs:List Value},Vals (ns.map V.int) vs->IntsAre vs ns
 |[],_,h=>by cases h;exact .nil
 |n::ns,_,h=>by
  cases h with
  |cons r rr =>
   obtain⟨t,rfl⟩:=r;exact .cons n t (K9 rr)
theorem Lj(hc:X.calm=true):p9 X (.type "set") (λxs H Q=>∃a ns,xs=[.ref a]/\gn X.K H a (ns.map V.int)/\ns.length<600/\∀p,H p=none->Q (.ref p) (upd H p (sQ X p (ST.i0 [] ns)))):=by
 intro pins s U H xs us Q I r h;obtain⟨a,ns,rfl,hq,hl,q⟩:=h;cases r with
 |cons r rr =>
 cases rr;cases r;obtain⟨bw,rv,p,hz⟩:=I.list hq;have hI:=K9 rv;have hlen:=ST.zJ hI;refine ST.MG (ns:=ns) (I.ok.hd hc) (.inl p.isList) (by simpa using hI) (by rw[aX,hlen];exact aB (Nat.succ_lt_succ hl) ∅) λh' tk hS hk _=>?_;exact⟨.ref _,_,I.laid (a:=s.heap.objs.size) (t':=tk) hk (aw _) (Mv hS),rfl,q _ (I.bY.fresh (aw _))⟩
theorem X8(hc:X.calm=true):p9 X (.builtin "sorted") (λxs H Q=>∃a ns,xs=[.ref a]/\H a=some (sQ X a (ST.i0 [] ns))/\ns.length<600/\∀p,H p=none->Q (.ref p) (upd H p (.lst ((u4 ns).map V.int)))):=by
 intro pins s U H xs us Q I r h;obtain⟨a,ns,rfl,ha,hl,q⟩:=h;cases r with
 |cons r rr =>
 cases rr;cases r;have hS:ST.A3 X.prog X.w s.heap a (ST.i0 [] ns):=(I.bY a _ ha).1;have hn:=ST.O5 ns [];simp only[List.length_nil] at hn;refine ST.aR2 (I.ok.hd hc) hS () λS vs kR e h' d' kB h1 h2 h3 h4 h5 h6 _=>?_;have e1:kR=u4 ns:=W6 (h2.trans (K5 ns).symm) h3 (KN ns);subst e1;have hz:=Q9 ns;exact⟨.ref S,_,(I.laid (a:=S) (o:=.lst ((u4 ns).map V.int)) (t':=kB) h6 h5 ⟨by rw[ak];exact aC hz (aC (eV hl) ∅),vs,e,KO h1,h4⟩).draw d',rfl,q S (I.bY.fresh h5)⟩
end
end L2
namespace ST
open PySem PyProof.Rows
theorem VF{prog:Program}{w:World}{A:Around}{E:Value->Shared->Prop}{s:Shared}{a:Addr}{ks:List Int}{k:Int}{tk:Tok}{Q:Value->Shared->Prop}(hS:A3 prog w s.heap a ks)(hr:ks.length+1<scanBound)(h:∀h',Heap.SameBut a s.heap h'->A3 prog w h' a (E4 ks k)->Q .none { s with heap:=h',toks:=s.toks+1 }):wpAny (model prog w) A (call (.builtin "set.add") [.ref a,.int k tk]) Q E s:=by
 have hT:s.TypeIs (.ref a) "set":=let ⟨o,_,_,_,e,x,_⟩:=hS;⟨o,e,x.1⟩
 refine eG F.slot_set_add hT F.entry_set_add ?_ (F.args_set_add_2 _ _);have go:∀(Q':Fin->Shared->Prop),(∀h',Heap.SameBut a s.heap h'->A3 prog w h' a (E4 ks k)->wpAny (model prog w) A.in1 (ret .none) Q' E { s with heap:=h',toks:=s.toks+1 })->wpAny (model prog w) A.in1 (do let _ <- setAdd a (.int k tk);ret .none) Q' E s:=λQ' q=>by
  refine ae (bU (ae ((intKind prog w).pyHash (k:=k) (ff _ _ _ _) ?_)));exact IT (s:={ s with toks:=s.toks+1 }) hS hr λh' b sb S2=>q h' sb S2
 unfold Builtin.«set.add» Builtin.Frozenset.oneOther;simp only[List.isEmpty_nil,bind_assoc];refine ae (au ?_);refine ae (au ?_);exact go _ λh' sb S2=>au ⟨_,rfl,h h' sb S2⟩
end ST
namespace L2
open PySem PySem.Spec PyProof.Rows
variable{elt iter:Expr}{ifs:List Expr}{scope:Scope}{pos:Pos}
section
variable{prog:Program}{w:World}{A:Around}{R:Result->Shared->Prop}{s:Shared}
theorem aQ6(elt target iter:Expr)(ifs:List Expr)(scope:Scope)(pos:Pos)(it acc:Value)(env:Env):compTurn (.SetComp elt [⟨target,iter,ifs,0⟩] scope pos) 0 it acc env=(do
      standAt iter.pos
      match <- pyNext it with
      |none=>pure (.done .next)
      |some v =>
        letOwnedTupleGo target it v
        assign target env v
        let mut ok:=true
        for c in ifs do if ok then ok <- isTrue c env (eval c env)
        if ok then(do let x <- eval elt env;standAt elt.pos;let _ <- call (.builtin "set.add") [acc,x])
        again (.compLoop (.SetComp elt [⟨target,iter,ifs,0⟩] scope pos) 0 it acc env)):=by rfl
theorem ay9{target:Expr}{it acc:Value}{env:Env}(I:Nat->Shared->Prop)(turn:∀ n s,I n s->wpAny (model prog w) A (pyNext it) (λr bO=>match r with
   |none=>R (.ok .next) bO
   | some v=>wpAny (model prog w) A (letOwnedTupleGo target it v) (λ_ bO=>wpAny (model prog w) A (assign target env v) (λ_ gh =>
     wpAny (model prog w) A (forIn ifs true λc r=>if r=true then do let ok <- isTrue c env (eval c env);pure (ForInStep.yield ok) else pure (ForInStep.yield r)) (λok fQ =>
      if ok=true then wpAny (model prog w) A (eval elt env) (λx iN =>
       wpAny (model prog w) A (call (.builtin "set.add") [acc,x]) (λ_ jw=>∃ m,m < n/\I m jw) (λ_ _=>False) iN) (λ_ _=>False) fQ
      else ∃ m,m < n/\I m fQ) (λ_ _=>False) gh) (λ_ _=>False) bO) (λ_ _=>False) bO) (λ_ _=>False) s)(n:Nat)(h:I n s) :
  codeAny (model prog w) A (.compLoop (.SetComp elt [⟨target,iter,ifs,0⟩] scope pos) 0 it acc env) R s:=by
 refine codeAny_loop rfl I (λn s hI=>?_) n h;show wpAny _ A ((compTurn (.SetComp elt [⟨target,iter,ifs,0⟩] scope pos) 0 it acc env).onRaise (λx=>do noteFrame x env;theTreesLotGoes x)) _ _ s;refine wpAny_noted ?_;rw[aQ6];refine ae (fH (ae (bH (turn n s hI) (λr bO dJ=>?_) λ_ _ h'=>h'.elim)));cases r with
 |none=>exact au dJ
 |some v =>
  refine ae (bH dJ (λ_ bO dJ=>?_) λ_ _ h'=>h'.elim);refine ae (bH dJ (λ_ gh jB=>ae (bH jB (λok fQ nK=>?_) λ_ _ h'=>h'.elim)) λ_ _ h'=>h'.elim);cases ok with
  |false=>exact wpAny_pure ⟨rfl,nK⟩
  |true =>
   exact ae (ae (bH nK (λx iN rF=>ae (fH (ae (bH rF (λ_ jw rE=>au (au ⟨rfl,rE⟩)) λ_ _ h'=>h'.elim)))) λ_ _ h'=>h'.elim))
theorem aR7{target:Expr}{it acc:Value}{env:Env}(h0:codeAny (model prog w) A (.compLoop (.SetComp elt [⟨target,iter,ifs,0⟩] scope pos) 0 it acc env) R s)(h:wpAny (model prog w) A (pyIter it) (λGY s'=>codeAny (model prog w) A (.compLoop (.SetComp elt [⟨target,iter,ifs,0⟩] scope pos) 0 GY acc env) R s') (notedBy (model prog w) A env λx s'=>R (.error x) s') s) :
  codeAny (model prog w) A (.compStart (.SetComp elt [⟨target,iter,ifs,0⟩] scope pos) 0 it acc env) R s:=by
 refine uQ (?_:wpAny _ _ ((compStart (.SetComp elt [⟨target,iter,ifs,0⟩] scope pos) 0 it acc env).onRaise (λx=>do noteFrame x env;standAt theWindowsPlace)) _ _ s);refine wpAny_notedAt ?_;refine ae (qS (wpAny_ite ?_));split
 ·first
   |exact au ⟨rfl,h0⟩
   |exact ae (au (au ⟨rfl,h0⟩))
 ·refine ae (eO ?_);exact ae (fH (ae (bH h (λGY s' h'=>au ⟨rfl,h'⟩) λ_ _ x=>x)))
end
def ZN(o:Obj):Prop:=∀v,o.data≠.cell v
def Th(X:Cx)(wi:TI)(d6:List Nat)(n:Nat)(g:TG)(tc:TT)(te:TE):TE:=λU H Q=>wi U H λJ H1=>∃W:Nat->Nat->List Int->St->Hp->Prop,(∃m,W 0 m [] (F0 U d6 n) H1)/\∀i m ys U H,W i m ys U H ->
 (J.stop i H/\∀p,H p=none->Q (.ref p) (upd H p (sQ X p (ST.i0 [] ys)))) \/
 (J.go i H/\ys.length < 60/\∀ x H',J.qf i H x H'->g x U H' λcK H2=>tc cK H2 λb H3 =>
  if b=true then te cK H3 λy H4=>∃ k,y=.int k/\∃ m',m' < m/\W (i + 1) m' (ys ++ [k]) cK H4 else ∃ m',m' < m/\W (i + 1) m' ys cK H3)
section
variable{X:Cx}{pins:List (Addr×Obj)}{U:St}{H:Hp}{s:Shared}
theorem Inv.Tn{D:Addr}{φ:Heap->Prop}(I:Inv X pins U H s)(f:I9 X pins H D)(hs:X.dG.heap.objs.size<=D)(ho:u6 X.prog X.w (upd H D (.ext φ)) s.heap D (.ext φ)):Inv X pins U (upd H D (.ext φ)) s:=by
 obtain⟨f0,f1,f2,f3,f4,f5⟩:=f;have fR:∀b o,X.dG.heap.get? b=some o->b≠D:=λb o e z=>absurd (az e) (by simp_all);have tup:∀b u,H b=some u->upd H D (.ext φ) b=some u:=λb u e=>by rw[i6 (t8 e f0)];exact e
 refine⟨I.ok,I.os,I.bare,⟨?_,?_,?_,I.base.there,?_,?_,?_⟩,I.loc,I.cell,?_,?_,?_,?_,I.len,I.sg⟩
 ·exact λb o e n1 n2 n3=>I.base.keep b o e n1 n2 n3
 ·exact λb o e n1 n2 n3=>I.base.slot b o e n1 n2 n3
 ·exact λb o e n1 n2=>by rw[i6 (fR b o e)];exact I.base.free b o e n1 n2
 ·exact λb xs e=>tup _ _ (I.base.iZ b xs e)
 ·exact λb o u e=>tup _ _ (I.base.iP b o u e)
 ·exact λb ps e=>by
   obtain⟨more,q⟩:=I.base.ja b ps e;exact⟨more,tup _ _ q⟩
 ·rw[i6 f1.symm];exact I.free
 ·exact λx c e=>by rw[i6 (f4 x c e)];exact I.fc x c e
 ·intro p hp;obtain⟨p1,p2,p3⟩:=I.pin p hp;exact⟨p1,by rw[i6 (f5 p hp)];exact p2,p3⟩
 ·intro a o e;by_cases ha:a=D
  ·subst ha;rw[A1] at e
   simp_all
  ·rw[i6 ha] at e;have q:=I.bY a o e;refine q.J8 (λb u _ h=>h) (λb hb=>tup _ _ hb) (λb xs hb=>tup _ _ hb)
def KS(X:Cx)(a:Addr)(ys:List Int)(h:Heap)(o:Obj):Prop:=ys.length<=60/\ZN o/\h.get? a=some o/\ST.A3 X.prog X.w h a (ST.i0 [] ys)
theorem Md{n0:Nat}:FU X n0 (KS X) λa ys=>sQ X a (ST.i0 [] ys) where
 nc:=λh=>h.2.1
 get:=λh=>h.2.2.1
 J8:=λ⟨h1,h2,h3,h4⟩ e=>⟨h1,h2,e,h4.at λo e'=>by rw[h3] at e';cases e';exact e⟩
 done:=λ_ I f hs ⟨_,_,h3,h4⟩=>I.Tn f hs (Mv h4)
theorem aK6{tg:Expr}{N':List Str}{d6:List Nat}{cl:List (Str×Addr)}{it:Addr}{fp:List Addr}{tn:Nat->Heap->Prop}{J:It}{g:TG}{tc:TT}{te:TE}{RR:Value->Addr->Result->Shared->Prop}{E:Value->Shared->Prop}{W:Nat->Nat->List Int->St->Hp->Prop}{m0:Nat}{Q:VK}(S:dA X scope N' d6 cl)(hc:X.calm=true)(hg:∀C s H,PG (f9 X pins scope N' cl C s H fp) tg g)(ht:∀C s H,lT (f9 X pins scope N' cl C s H fp) ifs tc)(he:∀C s H,PE (f9 X pins scope N' cl C s H fp) elt te)(I:Inv X pins U H s)(T:Turn X.prog X.w X.K tg J fp it tn)(st:tn 0 s.heap)(hf:∀b∈fp,I9 X pins H b)(w0:W 0 m0 [] (F0 U d6 N'.length) H)(turn:∀ i m ys U H,W i m ys U H->(J.stop i H/\∀ p,H p=none->Q (.ref p) (upd H p (sQ X p (ST.i0 [] ys)))) \/
   (J.go i H/\ys.length < 60/\∀ x H',J.qf i H x H'->g x U H' λcK H2=>tc cK H2 λb H3 =>
    if b=true then te cK H3 λy H4=>∃ k,y=.int k/\∃ m',m' < m/\W (i + 1) m' (ys ++ [k]) cK H4 else ∃ m',m' < m/\W (i + 1) m' ys cK H3))(wA:∀D C s' H' m,Inv X pins U H' s'->Q (.ref D) H'->s'.heap.Ns C m->H' C=none->s.heap.objs.size<=C->RR (.ref D) C (.ok .next) s') :
  wpAny (model X.prog X.w) X.A (newSet (.type "set")) (λacc fQ=>wpAny (model X.prog X.w) X.A (newFunctionEnv scope X.env.globals cl [] X.env.qual none .none (some X.env)) (λmO iN =>
   codeAny (model X.prog X.w) X.A (.compStart (.SetComp elt [⟨tg,iter,ifs,0⟩] scope pos) 0 (.ref it) acc { mO with scope:=relabel scope X.env }) (RR acc mO.locals) iN) E fQ) E s:=by
 refine ST.Ml (Lr λdJ jC ij pB=>?_);dsimp only at jC ij pB ⊢;have eC:(s.heap.push (ST.A9 X.w)).objs.size=s.heap.objs.size+1:=fj ..
 replace eC:=eC.symm
 have nV:dJ.get? s.heap.objs.size=some (ST.A9 X.w):=ij _ _ (aE _ rfl);generalize (s.heap.push (ST.A9 X.w)).objs.size=C at *;refine (λL=>aR7 L.2 (T.self _ 0 _ _ _ L.1 L.2)) (JK (R:=RR (.ref s.heap.objs.size) C) (LP:=codeAny (model X.prog X.w) X.A (.compLoop (.SetComp elt [⟨tg,iter,ifs,0⟩] scope pos) 0 (.ref it) (.ref s.heap.objs.size) (compEnvC scope (E9 scope cl C) C X.env)) (RR (.ref s.heap.objs.size) C)) (tb:=λys U H P=>te U H λy H'=>∃ k,y=.int k/\P (ys ++ [k]) H') (env:=compEnvC scope (E9 scope cl C) C X.env)
  (body:=λP fQ=>wpAny (model X.prog X.w) X.A (eval elt (compEnvC scope (E9 scope cl C) C X.env)) (λx iN=>wpAny (model X.prog X.w) X.A (call (.builtin "set.add") [.ref s.heap.objs.size,x]) (λ_ jw=>P jw) (λ_ _=>False) iN) (λ_ _=>False) fQ)
  Md S hc (hg C s H) (ht C s H) I T st hf w0 turn (λs' H' m=>wA _ C s' H' m) ⟨_,jC⟩ ij pB eC ⟨bW _,(λv (z:Data.set _ _ _=_)=>by cases z),nV,ST.JS nV⟩ rfl (λys o gi cw H' s' P R' hz k hb I' q hR=>?_) (λI turn n h=>ay9 I turn n h))
 refine cV (he C s H _ s' cw H' _ I' q) λxv s8 bG=>?_;obtain⟨y,H8,I8,r8,kk,ey,q8⟩:=bG;subst ey;obtain⟨tk,rfl⟩:=r8;obtain⟨_,_,_,S8⟩:=(Md (X:=X) (n0:=0)).J8 k (hb I8);have Bi:=ST.O5 ys [];simp only[List.length_nil] at Bi;refine ST.VF S8 (aB (by omega:_<62) ∅) λh' sb S9=>?_;have e9:ST.E4 (ST.i0 [] ys) kk=ST.i0 [] (ys++[kk]):=by unfold ST.i0;rw[List.foldl_append];rfl
 rw[e9] at S9;obtain⟨o9,es9,ep9,t9,g9,x9,d9,r9⟩:=id S9;exact hR s8 H8 _ h' (s8.toks+1) o9 I8 q8 (λb' u hb hu=>by rw[sb.2 b' hb];exact hu) ⟨by rw[bI,xY];omega,(λv z=>by rw[d9] at z;cases z),g9,S9⟩
theorem Ws{tg:Expr}{N':List Str}{d6:List Nat}{cl:List (Str×Addr)}{wi:TI}{g:TG}{tc:TT}{te:TE}(S:dA X scope N' d6 cl)(hc:X.calm=true)(hi:PI X tg iter wi)(hg:∀pins C s H fp,PG (f9 X pins scope N' cl C s H fp) tg g)(ht:∀pins C s H fp,lT (f9 X pins scope N' cl C s H fp) ifs tc)(he:∀pins C s H fp,PE (f9 X pins scope N' cl C s H fp) elt te)(hs:∀x,foldedSetIterable iter X.env x=pure x):PE X (.SetComp elt [⟨tg,iter,ifs,0⟩] scope pos) (Th X wi d6 N'.length g tc te):=by
 intro pins s U H Q I h;refine jr (use:=none) rfl hs S.sD S.kind S.names (cV (hi pins s U H _ I h) λxv bO dJ=>cV dJ λvO gh jB=>?_);obtain⟨it,fp,tn,J,H2,e,I2,T,gB,f2,W,⟨m0,w0⟩,turn⟩:=jB;subst e;refine aK6 (RR:=λacc C=>compPost (model X.prog X.w) X.A X.xe none (EP X pins U Q) acc C) S hc (λC s H=>hg pins C s H fp) (λC s H=>ht pins C s H fp) (λC s H=>he pins C s H fp) I2 T gB f2 w0 turn ?_;intro D C s' H' m I' q hn hC hsz;exact⟨m,hn,λh' sb=>⟨.ref D,H',I'.Jl hsz I2 hC sb,rfl,q⟩⟩
end
end L2
namespace HT
open PySem PyProof.Rows Builtin
end HT
namespace L2
open PySem PySem.Spec PyProof.Rows
def Uc(sep:Str)(ys:List Str):Nat:=ys.foldl (λn y=>n+y.length+sep.length) 0
end L2
namespace HT
open PySem PyProof.Rows Builtin PySem.SeqAt
end HT
namespace L2
open PySem PySem.Spec PyProof.Rows
def Dg(K:PySem.W.Frag)(H:Hp)(a:Addr)(xs:List V):Prop :=
 H a=some (.tup xs)\/∃(o:Obj) (bw:Array Value) (n:Nat),K.lookup a=some o/\o.cls=.type "tuple"/\o.dict=none/\o.data=.seq bw n/\bw.size<=sizeLine/\Vals xs bw.toList
theorem Dg.sq{K:PySem.W.Frag}{H:Hp}{a:Addr}{xs:List V}(h:Dg K H a xs):kx K H a xs:=by
 rcases h with h|⟨o,bw,n,h1,h2,_,h3,h4,h5⟩
 ·exact .inl (.inl h)
 ·exact .inr ⟨o,bw,n,h1,h2,h3,h4,h5⟩
end L2
namespace ST
open PySem PyProof.Rows
variable{h:Heap}
def Spot(k:Int):Prop:=0<=k/\k<8
section
variable{prog:Program}{w:World}{a:Addr}
end
end ST
namespace L2
open PySem PySem.Spec PyProof.Rows
variable{X:Cx}
end L2
namespace ST
open PySem PyProof.Rows
end ST
namespace L2
open PySem PySem.Spec PyProof.Rows
variable{X:Cx}
theorem Lh:∀{ns ks:List Int},(ks++ns).Nodup->ST.i0 ks ns=ks++ns
 |[],ks,_=>by simp[ST.i0]
 |n::r,ks,h=>by
  have hn:n∉ks:=λz=>by
   have:=(cx.mp h).2.2 n z n (by simp);exact this rfl
  have e:ST.E4 ks n=ks++[n]:=by
   unfold ST.E4;rw[aD (by simpa using hn)]
  show ST.i0 (ST.E4 ks n) r=_;rw[e,Lh (by simp_all),bS]
  rfl
theorem KW{bw:List Value}{ns:List Int}(hi:IntsAre bw ns):∃xs,bw.toArray=intItems xs/\ns=xs.toList.map (·.1):=by
 obtain⟨xs,e⟩:=hi.allInts.items;exact⟨xs,e,by rw[<- hi.numsOf,<- nums_intItems,<- e]⟩
theorem a46(hc:X.calm=true):p9 X (.builtin "sum") (λxs H Q=>∃a,∃ns:List Int,xs=[.ref a]/\gn X.K H a (ns.map V.int)/\Q (.int ns.sum) H):=by
 intro pins s U H xs us Q I r h;obtain⟨a,ns,rfl,ha,q⟩:=h;obtain⟨u,rfl,ru⟩:=vals1 r;cases ru;obtain⟨bw,rv,p,hz⟩:=I.list ha;obtain⟨xs,e,en⟩:=KW (K9 rv);refine sum_intListG (xs:=xs) (I.ok.hd hc) (by rw[<- e];exact p.isList) λh' tk t' k=>⟨.int ns.sum,H,I.kept k,⟨t',?_⟩,q⟩
 rw[preSum_eq,cv (by simp),en]
theorem a48(hc:X.calm=true):p9 X (.builtin "max") (λxs H Q=>∃a,∃(ns:List Int) (M:Int),xs=[.ref a]/\gn X.K H a (ns.map V.int)/\M∈ns/\(∀x∈ns,x<=M)/\Q (.int M) H):=by
 intro pins s U H xs us Q I r h;obtain⟨a,ns,M,rfl,ha,hm,hM,q⟩:=h;obtain⟨u,rfl,ru⟩:=vals1 r;cases ru;obtain⟨bw,rv,p,hz⟩:=I.list ha;obtain⟨xs,e,en⟩:=KW (K9 rv);have hsz:0<xs.size:=by
  have:=uU hm
  simp_all
 refine max_intList (xs:=xs) (I.ok.hd hc) (by rw[<- e];exact p.isList) hsz λv h' tk hv k=>?_;obtain⟨t,rfl⟩:=intItems_at hv;obtain⟨h1,h2⟩:=argBest_gt (numAt xs) (xs.size-1);generalize argBest (λi j=>decide (numAt xs i>numAt xs j)) (xs.size-1)=j0 at *;have m1:numAt xs j0∈ns:=by rw[en,numAt_eq];exact getD_mem (by rw[ak,cJ];omega)
 have m2:M<=numAt xs j0:=by
  rw[en] at hm;obtain⟨j,hj,rfl⟩:=mem_getD hm;rw[ak,cJ] at hj;rw[<- numAt_eq];exact h2 j ()
 have e2:numAt xs j0=M:=Int.le_antisymm (hM _ m1) m2;exact⟨.int M,H,I.kept k,⟨t,by rw[e2]⟩,q⟩
theorem a50(hc:X.calm=true):p9 X (.builtin "all") (λxs H Q=>∃(a:Addr) (ns:List Int),xs=[.ref a]/\gn X.K H a (ns.map V.int)/\Q (.bl (ns.all λn=>n != 0)) H):=by
 intro pins s U H xs us Q I r h;obtain⟨a,ns,rfl,ha,q⟩:=h;obtain⟨u,rfl,ru⟩:=vals1 r;cases ru;obtain⟨bw,rv,p,hz⟩:=I.list ha;refine call_all_walk ?_;refine gp p.isList ?_;have fR:a≠s.heap.objs.size:=by
  obtain⟨o,e,_⟩:=id p.isList;exact aM (az e)
 have hl:=rv.length;rw[ak] at hl;refine⟨s.heap.objs.size,_,_,_,_,_,λi=>ns.getD i 1 != 0,rfl,Az (A:=X.A.in1) (I.ok.hd hc) _ a fR bw.toArray,⟨⟨_,aE _ rfl,rfl,rfl⟩,?_⟩,?_,λh' tk k=>?_⟩
 ·obtain⟨o,e,q1⟩:=id p.isList;exact⟨o,ao _ e,q1⟩
 ·intro i v s' Q' E' hP hQ;have hv:bw[i]?=some v:=by simpa using hP
  have hi:i<ns.length:=by rw[hl];exact(av.mp hv).1
  obtain⟨u',vR,AW⟩:=rv.get (i:=i) (x:=V.int ns[i]) (by rw[ai,ag hi];rfl);rw[hv] at vR;cases vR;obtain⟨t,rfl⟩:=AW;refine truthy_int ?_;have:ns.getD i 1=ns[i]:=by simp[List.getD,hi]
  dsimp only at hQ;rw[this] at hQ;exact hQ
 ·have e1:(List.range bw.toArray.size).all (λi=>ns.getD i 1 != 0)=ns.all λn=>n != 0:=by
   rw[aX,<- hl];rw[aY];simp only[List.all_eq_true,List.mem_range];constructor
   ·intro hh x hx;obtain⟨i,hi,rfl⟩:=bo.mp hx;have:=hh i hi;simpa[List.getD,hi] using this
   ·intro hh i hi;have:=hh ns[i] (cC hi);simpa[List.getD,hi] using this
  rw[e1];exact ⟨.bl _,H,I.kept (t':=tk) λb o e=>k b o (by
   intro hb;have:b=s.heap.objs.size:=by simpa using hb
   exact absurd (az e) (by rw [this];exact cc _)) (ao _ e),rfl,q⟩
theorem az6:p9 X (.builtin "len") (λxs H Q=>∃a,∃ks:List Int,xs=[.ref a]/\H a=some (sQ X a ks)/\Q (.int ks.length) H):=by
 intro pins s U H xs us Q I r h;obtain⟨a,ks,rfl,ha,q⟩:=h;obtain⟨u,rfl,ru⟩:=vals1 r;cases ru;have hS:ST.A3 X.prog X.w s.heap a ks:=(I.bY a _ ha).1;obtain⟨o,es,ep,t,e,ex,ed,_,hp,nd,hz,hf,_⟩:=hS;have hl:es.size=ks.length:=by have:=hp.length_eq;simpa using this
 refine call_len_set e ex ed hf (by have:scanBound<2 ^ 62:=∅;omega) ⟨.int ks.length,H,I.tok _,⟨_,by rw[hl]⟩,q⟩
theorem UC{i:Int}{j:Nat}{p pos:Pos}(nU:PySem.W.kdsCode X.K X.env.code=true):PE X (.Set [.Constant (.int i) j p] 0 pos) (λU H Q=>∀q,H q=none->Q (.ref q) (upd H q (.set (λk=>decide (k=i)) 1))):=by
 intro pins s U H Q I h;refine ae (fH ?_);refine ae (PySem.W.kds_main I.iG nU λb=>?_);refine PySem.W.kds_core (ts:=(evalEach [Expr.Constant (.int i) j p] X.env).map λt=>do let v <- t;standAt pos;pure v) (by rfl) (by rfl) (by show 1<=30;decide) (by rfl) λled=>?_;refine PySem.W.kds_all pos _ _ _ ?_;refine wpAny_Constant_int ?_;refine PySem.W.kds_fill_cons ?_;have Qt:(s.heap.push { cls:=.type "set",dict:=none,data:=.set #[] 0 (.fresh 0 0 led) }).SetOf (intKind X.prog X.w) s.heap.objs.size (λ_=>false) 0:=(setObjOf_fresh led).setOf (aE _ rfl) ∅;refine bU (ae ((intKind X.prog X.w).pyHash (k:=i) (ff _ _ _ _) ?_));refine wpAny_setAddHashed_of (knd:=intKind X.prog X.w) (ff _ _ _ _) rfl Qt ∅ λh' tQ lR=>?_;refine PySem.W.kds_fill_nil (by rfl) ?_;have kp:∀b u,s.heap.get? b=some u->h'.get? b=some u:=λb u e=>(tQ.2 b (aM (az e))).trans (ao _ e);exact⟨.ref s.heap.objs.size,_,I.laid (a:=s.heap.objs.size) (o:=.set (λk=>decide (k=i)) 1) kp (aw _) (by show Heap.SetOf _ _ _ _ _;simpa using lR),rfl,h _ (I.bY.fresh (aw _))⟩
theorem a16:gQ X (compareOp .In) (λx y H Q=>∃i a S n,x=.int i/\y=.ref a/\H a=some (.set S n)/\Q (.bl (S i)) H):=by
 intro pins s U H x y v u Q I rx ry h;obtain⟨i,a,S,n,rfl,rfl,ha,q⟩:=h;obtain⟨t,rfl⟩:=rx;cases ry;exact wpAny_inSet_of (knd:=intKind X.prog X.w) (k:=i) (ff _ _ _ _) rfl (I.bY a _ ha) ⟨.bl (S i),H,I.tok _,rfl,q⟩
theorem aF4:gQ X (compareOp .NotIn) (λx y H Q=>∃i a S n,x=.int i/\y=.ref a/\H a=some (.set S n)/\Q (.bl (!S i)) H):=by
 intro pins s U H x y v u Q I rx ry h;obtain⟨i,a,S,n,rfl,rfl,ha,q⟩:=h;obtain⟨t,rfl⟩:=rx;cases ry;exact wpAny_notInSet_of (knd:=intKind X.prog X.w) (k:=i) (ff _ _ _ _) rfl (I.bY a _ ha) ⟨.bl (!S i),H,I.tok _,rfl,q⟩
theorem aT3:mP X "set.add" (λx xs H Q=>∃a i S n,x=.ref a/\xs=[.int i]/\H a=some (.set S n)/\n+1<4096/\Q .bD (upd H a (.set (λk=>S k||decide (k=i)) (if S i then n else n+1)))):=by
 intro pins s U H x vs v us Q I rx rv h;obtain⟨a,i,S,n,rfl,rfl,ha,hn,q⟩:=h;cases rx;obtain⟨u,rfl,t,rfl⟩:=rv.one;refine call_set_add (knd:=intKind X.prog X.w) (k:=i) (ff _ _ _ _) rfl (I.bY a _ ha) (show n+1<scanBound from hn) λh' tQ lR=>?_;obtain⟨o,es,ep,tb,ho,_⟩:=id lR;exact⟨.bD,_,I.write (x:=a) (e:=a) (o:=.set (λk=>S k||decide (k=i)) (if S i then n else n+1)) (by rw[ha];trivial) (.inl rfl) (λb u hb e=>(tQ.2 b hb).trans e) ⟨o,ho⟩ lR,rfl,q⟩
def FO(K:PySem.W.Frag)(a:Addr)(n:Nat):It :=
 ⟨λi H=>∃xs x,gn K H a xs/\xs.length=n/\i<n/\xs[n-1-i]?=some x,λi H x H'=>H'=H/\∀xs,gn K H a xs->xs[n-1-i]?=some x,λi H=>n<=i⟩
theorem a64{P:Program}{w:World}{K:PySem.W.Frag}{tg:Expr}(a it:Addr)(n:Nat):Turn P w K tg (FO K a n) [it] it (λi h=>i<=n/\h.IsRevIter it a ((n:Int)-1-(i:Nat))) where
 mem:=by simp
 obj:=λi h st b hb=>by
  have e:b=it:=by simpa using hb
  subst e;obtain⟨o,e,c,d⟩:=st.2;exact⟨o,e,λv z=>by simp_all⟩
 keep:=λi h h' st k=>⟨st.1,st.2.at λo e=>k it (by simp) o e⟩
 item:=by
  intro X hP hw hK hc i pins s U H E I hf st hg;subst hP hw hK;obtain⟨xs,x,hq,hn,hi,hx⟩:=hg;obtain⟨bw,rv,p,hz⟩:=I.list hq;obtain⟨u,hu,ru⟩:=rv.get hx;obtain⟨f0,f1,f2,f3,f4,f5⟩:=hf it (by simp);have gB:=st.2;rw[show(n:Int)-1-(i:Nat)=((n-1-i:Nat):Int) by omega] at gB;refine wpAny_pyNext_rev_item gB p.isList (x:=u) (by simpa using hu) λh' ba sb=>?_;have I1:Inv X pins U H { s with heap:=h' }:=I.turned (t':=s.toks) (λb o hb e=>(sb.2 b hb).trans e) f0 f1 f3 f4 f5;obtain⟨o,e,c,d⟩:=id ba;refine⟨u,rfl,Al (s:={ s with heap:=h' }) e c d ∅ ⟨x,H,I1,ru,⟨rfl,λys hy=>by rw[I.DK hy hq];exact hx⟩,⟨by omega,?_⟩,λb hb=>(hf b hb).1⟩⟩
  grind
 done:=by
  intro X hP hw hK hc i pins s U H E I hf st hg;obtain⟨f0,f1,f2,f3,f4,f5⟩:=hf it (by simp);have gB:=st.2;have:n<=i:=hg;rw[show(n:Int)-1-(i:Nat)=-1 by omega] at gB;exact wpAny_pyNext_rev_end (I.ok.hd hc) gB λh' eb=>⟨rfl,I.turned (t':=s.toks) (λb o hb e=>eb b o hb e) f0 f1 f3 f4 f5⟩
 self:=λ_ _ _ _ _ st h=>wpAny_pyIter_revIter st.2 h
theorem boot_reversed:bootBuiltins "reversed"=some (.type "reversed"):=by decide +kernel
theorem Sj{tg l:Expr}{ta:TA}{p pos:Pos}(hg:Gl X "reversed")(hm:X.mg "reversed"=none)(ha:PA X [l] ta)(hs:starEach [l] X.env=[(false,eval l X.env)]) :
  PI X tg (.Call (.Name "reversed" p) [l] [] pos) (λU H R=>ta U H λvs H1=>∃a xs,vs=[.ref a]/\gn X.K H1 a xs/\R (FO X.K a xs.length) H1):=by
 intro pins s U H R I h;refine Call_ (O2 I hg hm boot_reversed (bR (cV (ha pos pins s U H _ I h) λus s1 bG=>?_) hs rfl));obtain⟨vs,H1,I1,r1,q1⟩:=bG;obtain⟨a,xs,e,hq,q⟩:=q1;subst e;cases r1 with
 |cons r rr =>
  cases rr;cases r;obtain⟨bw,rv,p,hz⟩:=I1.list hq;refine call_reversed_list p.isList ?_;have hl:=rv.length;have hit:(s1.heap.push (revObj a ((bw.toArray.size:Int)-1))).IsRevIter s1.heap.objs.size a ((xs.length:Int)-1-((0:Nat):Int)):=⟨_,aE _ rfl,rfl,by simp[revObj,hl]⟩
  refine wpAny_pyIter_revIter hit ?_;refine⟨s1.heap.objs.size,[s1.heap.objs.size],_,_,H1,rfl,I1.kept (t':=s1.toks) λb o e=>ao _ e,a64 a _ xs.length,⟨bW _,hit⟩,λb hb=>?_,q⟩;have e:b=s1.heap.objs.size:=by simpa using hb
  subst e;exact I1.qL (aw _) (I1.bY.fresh (aw _))
end L2
namespace ST
open PySem PyProof.Rows
section
variable{prog:Program}{w:World}{A:Around}{E:Value->Shared->Prop}{s:Shared}{a:Addr}
theorem aR3{T:String}{o:Obj}{items:Array Value}{n:Nat}{ns:List Int}(hT:T="list"\/T="tuple")(ho:s.heap.get? a=some o)(hc:o.cls=.type T)(hd:o.data=.seq items n)(hI:IntsAre items.toList ns)(yU:ns.length<=10000){Q:Value->Shared->Prop}(h:∀(h1:Heap) (vs:List Value) (kR:List Int) e h',(∀b o',s.heap.get? b=some o'->h1.get? b=some o')->IntsAre vs kR->kR.Perm ns->kR.Pairwise (·<=·)->h'.get? h1.objs.size=some (seqObj "list" vs.toArray e)->(∀c o,h1.get? c=some o->h'.get? c=some o)->Q (.ref h1.objs.size) { s with heap:=h' }) :
  wpAny (model prog w) A (call (.builtin "sorted") [.ref a]) Q E s:=by
 have hl:items.toList.length=ns.length:=zJ hI;refine Gg kind_sorted plain_sorted entry_sorted (args_sorted1 _) ?_;refine ae (m:=checkCount "sorted" 1 1 _) (au ?_);refine ae (wpAny_collect_seq (A:=A.in1) a hT ho hc hd (λh1 kp=>?_) (by simp at hl;unfold sizeLine;omega));have nR:items.toList.length<=100000:=by omega
 generalize items.toList=vs at *;refine ae (NP (s:={ s with heap:=h1 }) ?_);have pe:(h1.push (seqObj "list" vs.toArray 0)).get? h1.objs.size=some (seqObj "list" vs.toArray 0):=aE _ rfl;refine ae (bU (eG (s:={ s with heap:=h1.push (seqObj "list" vs.toArray 0) }) slot_list_sort ⟨_,pe,rfl⟩ entry_list_sort (TS.Na pe hI nR λout kR a1 a2 a3=>⟨_,rfl,?_⟩) (args_list_sort _)));obtain⟨e,lz⟩:=sortedHeap_at (vs:=vs) (out:=out) pe;refine au ⟨_,rfl,h h1 out.toList kR e _ kp a1 a2 a3 lz (λc o' e'=>?_)⟩;have hc:=az e';rw[sortedHeap_old (aM hc) (by rw[size_push'];exact iu hc)];exact ao _ e'
end
end ST
namespace L2
open PySem PyProof.Rows
def L9(ns:List Int):List Int:=ns.mergeSort (λa b=>decide (a<=b))
theorem KJ(ns:List Int):(L9 ns).Pairwise (·<=·):=by
 have:=tB (le:=λa b:Int=>decide (a<=b)) (λa b c h1 h2=>by simp at *;omega) (λa b=>by simp;omega) ns;exact this.imp λh=>by simpa using h
theorem Ep(ns:List Int):(L9 ns).Perm ns:=Gb _ _
section
variable{X:Cx}
theorem au8:p9 X (.builtin "sorted") (λxs H Q=>∃p,∃ns:List Int,xs=[.ref p]/\(gn X.K H p (ns.map V.int)\/kx X.K H p (ns.map V.int))/\ns.length<=10000/\∀l,H l=none->Q (.ref l) (upd H l (.lst ((L9 ns).map V.int)))):=by
 intro pins s U H xs us Q I r h;obtain⟨p,ns,rfl,hq,hl,q⟩:=h;obtain⟨u,rfl,rx⟩:=vals1 r;cases rx;obtain⟨T,bw,o,n,hT,r',ho,hc,hd⟩:∃T,∃(bw:List Value) (o:Obj) (n:Nat),(T="list"\/T="tuple")/\Vals (ns.map V.int) bw/\s.heap.get? p=some o/\o.cls=.type T/\o.data=.seq bw.toArray n:=by
  rcases hq with hq|hq
  ·obtain⟨bw,r',pl,_⟩:=I.list hq;obtain⟨o,ho,hc,n,hd⟩:=pl.isList;exact⟨_,bw,o,n,.inl rfl,r',ho,hc,hd⟩
  ·obtain⟨bw,r',⟨o,ho,hc,n,hd⟩,_⟩:=I.tuple hq;exact⟨_,bw,o,n,.inr rfl,r',ho,hc,hd⟩
 refine ST.aR3 hT ho hc hd (K9 r') hl λh1 vs kR e h' kp i1 i2 i3 i4 i5=>?_;have e1:kR=L9 ns:=W6 (i2.trans (Ep ns).symm) i3 (KJ ns);subst e1;have I1:Inv X pins U H { s with heap:=h1 }:=I.kept (t':=s.toks) kp;have hz:(L9 ns).length<=10000:=by rw[(Ep ns).length_eq];exact hl
 exact⟨.ref h1.objs.size,_,(I1.laid (a:=h1.objs.size) (o:=.lst ((L9 ns).map V.int)) (t':=s.toks) i5 (aw _) ⟨by rw[ak];exact aC hz ∅,vs,e,KO i1,i4⟩),rfl,q _ (I1.bY.fresh (aw _))⟩
theorem Kl:∀{ks:List Key} {l:List Value},l.length=ks.length->(∀(i:Nat) v,l[i]?=some v->∃k,ks[i]?=some k/\X7 k v=true)->Vals (ks.map kV) l
 |[],[],_,_=>.nil
 |k::ks,v::l,hl,h=>by
  obtain⟨k',e,hk⟩:=h 0 v rfl;cases e;refine .cons ?_ (Kl (by simpa using hl) λi v e=>h (i+1) v e);rcases x8 hk with⟨i,t,rfl,rfl⟩|⟨x,t,rfl,rfl⟩<;>exact⟨t,rfl⟩
theorem au9(hc:X.calm=true):p9 X (.type "list") (λxs H Q=>∃a kvs,xs=[.ref a]/\H a=some (.dK kvs)/\kvs.length<=10000/\∀p,H p=none->Q (.ref p) (upd H p (.lst ((kvs.map (·.1)).map kV)))):=by
 intro pins s U H xs us Q I r h;obtain⟨a,kvs,rfl,ha,hl,q⟩:=h;obtain⟨u,rfl,rx⟩:=vals1 r;cases rx;obtain⟨_,hd,vs,kv,hD⟩:=Jc I.bY ha;obtain⟨ep,hA⟩:=hD.dictAt;have nR:vs.length<=10000:=by rw[<- kv.length];exact hl
 refine PySem.W.kdl_call (PySem.W.kdl_dict (kvs:=vs) (ep:=ep) hd) (I.ok.hd hc) hA (aC nR ∅) λh' tk acc c k1 k2 k3=>?_;have hv:Vals ((kvs.map (·.1)).map kV) acc.toList:=by
  refine Kl (by rw[cJ,k3.1,ak,kv.length]) λi v e=>?_;obtain⟨k,x,e1,e2⟩:=k3.2 i v (by simpa using e);exact⟨k,by rw[kv.keys,ai,e1];rfl,e2⟩
 exact⟨.ref s.heap.objs.size,_,(I.laid (a:=s.heap.objs.size) (o:=.lst ((kvs.map (·.1)).map kV)) (t':=tk) k1 (aw _) ⟨by rw[ak,ak];exact aC hl ∅,acc.toList,c,hv,by simpa using k2⟩),rfl,q _ (I.bY.fresh (aw _))⟩
end
end L2
namespace ST
open PySem PyProof.Rows
variable{tk:Tok}{items:Array Value}{n:Nat}{ks:List Int}
theorem aG9:typeLookup (.type "list") "keys"=pure none:=by rfl
theorem aq3:typeLookup (.type "list") "__getattr__"=pure none:=by rfl
section
variable{prog:Program}{w:World}{A:Around}{E:Value->Shared->Prop}{h:Heap}{g:Array GenState}{d:Drawn}{t:Nat}{os:OsState}{a:Addr}{o:Obj}
theorem aq5{Q:Fin->Shared->Prop}(hh:A.handled=none)(hx:h.get? a=some o)(hc:o.cls=.type "list")(hn:o.dict=none)(hd:o.data=.seq items n)(hq:∀e h' tk,(∀b o,h.get? b=some o->h'.get? b=some o)->t<=tk->(∃oe,h'.get? e=some oe/\oe.cls=.type "AttributeError")->E (.ref e) ⟨h',g,d,tk,os⟩) :
  wpAny (model prog w) A (Builtin.«object.__getattribute__» ⟨[.ref a,.str "keys" tk],[]⟩) Q E ⟨h,g,d,t,os⟩:=by
 have hT:(⟨h,g,d,t,os⟩:Shared).TypeIs (.ref a) "list":=⟨_,hx,hc⟩
 have f4:=aG9
 repeat (any_goals (first|assumption|wp_step))
 rw[hd];dsimp only;unfold instanceDict
 repeat (any_goals (first|assumption|wp_step))
 rw[hc];dsimp only;rw[hn];dsimp only;rw[aG (by rfl)];refine au ?_;unfold Builtin.ObjectAttr.inDict;refine au ?_;dsimp only
 repeat (any_goals (first|assumption|wp_step))
 have hm:(Str.ofString (toString "'"++toString ((Manifest.find? "list").elim "list" λx=>x.tpName)++toString "' object has no attribute '")++Str.ofString "keys"++Str.ofString "'").length<=sizeLine:=by decide +kernel
 generalize (Str.ofString (toString "'"++toString ((Manifest.find? "list").elim "list" λx=>x.tpName)++toString "' object has no attribute '")++Str.ofString "keys"++Str.ofString "'")=msg at *;unfold raiseAttrError
 repeat (any_goals (first|assumption|wp_step))
 have f5:isSubtype (.type "AttributeError") (.type "AttributeError")=pure true:=by rfl
 refine fe f5 ?_
 repeat (any_goals (first|assumption|wp_step))
 refine wpAny_raiseNew_none hh (hq _ _ _ (λb ob e=>?_) () ?_)
 ·have hb:b≠(h.push { cls:=Value.type "tuple",data:=Data.seq #[Value.str msg t] }).objs.size:=by
   have:=az e;rw[fj];exact aM (iu this)
  exact((bV _ _ _).2 b hb).trans (ao _ (ao _ e))
 ·exact⟨_,br _ (aE _ rfl) rfl,rfl⟩
theorem at7{R:Result->Shared->Prop}(hh:A.handled=none)(hx:h.get? a=some o)(hc:o.cls=.type "list")(hn:o.dict=none)(hd:o.data=.seq items n)(hq:∀e h' tk,(∀b o,h.get? b=some o->h'.get? b=some o)->t<=tk->(∃oe,h'.get? e=some oe/\oe.cls=.type "AttributeError")->R (.error (.ref e)) ⟨h',g,d,tk,os⟩) :
  codeAny (model prog w) A (.call (.builtin "list.__getattribute__") ⟨[.ref a,.str "keys" tk],[]⟩) R ⟨h,g,d,t,os⟩ :=
 codeAny_call_builtin fP.plain F.entry_list_ga (fP.check _ _ _ _ _ _ _ _ (show(⟨h,g,d,t,os⟩:Shared).TypeIs (.ref a) "list" from⟨_,hx,hc⟩) (F.args_list_getattribute_2 _ _) (aq5 (by simp[hh]) hx hc hn hd hq))
theorem aH1{Q:Value->Shared->Prop}(hh:A.handled=none)(hx:h.get? a=some o)(hc:o.cls=.type "list")(hn:o.dict=none)(hd:o.data=.seq items n)(hq:∀e h' tk,(∀b o,h.get? b=some o->h'.get? b=some o)->t<=tk->(∃oe,h'.get? e=some oe/\oe.cls=.type "AttributeError")->E (.ref e) ⟨h',g,d,tk,os⟩):wpAny (model prog w) A (getAttrBy (.ref a) (.str "keys" tk) false) Q E ⟨h,g,d,t,os⟩:=by
 have hT:(⟨h,g,d,t,os⟩:Shared).TypeIs (.ref a) "list":=⟨_,hx,hc⟩
 have f2:=fP.lookup;have f3:=fP.bind (.ref a)
 repeat (any_goals (first|assumption|wp_step))
 refine at7 hh hx hc hn hd λe h' kB k1 k2 ⟨oe,he,yK⟩=>?_;have yS:(⟨h',g,d,kB,os⟩:Shared).TypeIs (.ref e) "AttributeError":=⟨_,he,yK⟩
 have f5:isSubtype (.type "AttributeError") (.type "AttributeError")=pure true:=by rw[gs];kernel_rfl
 have f6:=aq3;dsimp only;unfold getattributeRaised;refine ae (fz yS f5 ?_);rw[aG rfl];unfold hookBehind
 repeat (any_goals (first|assumption|wp_step))
 exact hq e h' kB k1 k2 ⟨oe,he,yK⟩
theorem at8{Q:Option Value->Shared->Prop}(hh:A.handled=none)(hx:h.get? a=some o)(hc:o.cls=.type "list")(hn:o.dict=none)(hd:o.data=.seq items n)(hq:∀h' tk,(∀b o,h.get? b=some o->h'.get? b=some o)->t<=tk->Q none ⟨h',g,d,tk,os⟩):wpAny (model prog w) A (getAttr? (.ref a) "keys") Q E ⟨h,g,d,t,os⟩:=by
 unfold getAttr? getAttrBy?;have f5:isSubtype (.type "AttributeError") (.type "AttributeError")=pure true:=by rw[gs];kernel_rfl
 refine ae (wpAny_mkText ?_);refine ae (mT (aH1 hh hx hc hn hd λe h' kB k1 k2 ⟨oe,he,yK⟩=>?_));dsimp only;refine ae (fz (show(⟨h',g,d,kB,os⟩:Shared).TypeIs (.ref e) "AttributeError" from⟨_,he,yK⟩) f5 ?_);rw[aG rfl];exact au (hq h' kB k1 (Nat.le_of_succ_le k2))
theorem Q5:plainId "dict.update.loop"=true:=by decide +kernel
theorem KQ:entryFor table "dict.update.loop"=some Builtin.«dict.update.loop»:=entryFor_of_tree (by kernel_rfl)
def L5(ks:List Int):List (L2.Key×Value):=ks.map λk=>(.inl k,.bool true)
theorem stored_new{k:Int}(h:k∉ks):stored (L5 ks) (.inl k:L2.Key) (.bool true)=L5 (ks++[k]):=by
 unfold stored;rw[aD]
 ·simp[L5]
 ·intro z;rw[aU] at z;obtain⟨x,hx,e⟩:=z;obtain⟨j,hj,rfl⟩:=aN.mp hx;have:j=k:=mU (bj e);exact h (this▸hj)
theorem aS5{R:Result->Shared->Prop}{I:Addr}{fp wr:List Addr}{G:Array GenState->Array GenState->Prop}{P:Nat->Value->Prop}{St:Nat->Shared->Prop}(W:WalksS prog w A.in1 I fp wr G n P St)(HP:a∉fp)(hn:n=ks.length){tp:Nat->Addr}(hv:∀i v,P i v->v=.ref (tp i))(He:∀i,i<n->tp i∉a::wr)(hb:n<=10000)(nd:ks.Nodup):∀(k i:Nat) (s:Shared),i+k=n->St i s->(∀j,j<n->∃tk,s.heap.IsTuple (tp j) #[.int (ks.getD j 0) tk,.bool true])->s.heap.DictOf (L2.s9 prog w) a (L5 (ks.take i)) ->
   (∀s',Moved (a::wr) G s s'->s'.heap.DictOf (L2.s9 prog w) a (L5 ks)->R (.ok (.ret .none)) s')->codeAny (model prog w) A (.builtin "dict.update.loop" ⟨[.ref a,.ref I,rawInt i,.none],[]⟩) R s:=by
 have hw:a∉wr:=λh=>HP (W.sub _ h);have nC:∀b∈wr,b∈a::wr:=λb hb=>by simp[hb]
 intro k
 induction k with
 |zero =>
  intro i s e st ht hS hR;obtain rfl:i=n:=by omega
  refine dN KQ ?_;rw[Around.under_plainId Q5 _];unfold Builtin.«dict.update.loop»;dsimp only;refine ae (W.done s _ _ st λs' m=>?_);refine ae (m:=Builtin.Dict.addKeywords _ _) (au ?_);refine au (hR s' (m.mono nC) ?_);rw[hn,cA] at hS;obtain⟨o,es,ep,ho,r⟩:=hS;exact⟨o,es,ep,m.heap a o hw ho,r⟩
 |succ k ih =>
  intro i s e st ht hS hR;have dY:i<ks.length:=by omega
  refine dN KQ ?_;rw[Around.under_plainId Q5 _];unfold Builtin.«dict.update.loop»;dsimp only;refine ae (W.item i s _ _ () st λv s' hP ba m=>?_);cases hv i v hP;have lR:s'.heap.DictOf (L2.s9 prog w) a (L5 (ks.take i)):=by
   obtain⟨o,es,ep,ho,r⟩:=hS;exact⟨o,es,ep,m.heap a o hw ho,r⟩
  have qq:∀j,j<n->∃tk,s'.heap.IsTuple (tp j) #[.int (ks.getD j 0) tk,.bool true]:=λj hj=>by
   obtain⟨tk,o,ho,r⟩:=ht j hj;exact⟨tk,o,m.heap _ o (λz=>He j hj (by simp[z])) ho,r⟩
  obtain⟨tk,o,ho,hc,nn,hd⟩:=qq i ();refine ae (bU ?_);refine ae (wpAny_tryCatch ?_);unfold Builtin.Dict.pairItems;refine ae (iB (show s'.TypeIs (.ref (tp i)) "tuple" from⟨o,ho,hc⟩) ?_);rw[aG ∅];unfold seqItems?;dsimp only;refine ae (ae (wpAny_load ho ?_));rw[hd];refine au (au ?_);show wpAny (model prog w) A.in1 (holding [.int (ks.getD i 0) tk,.bool true] (dictSet a (.int (ks.getD i 0) tk) (.bool true))) _ _ _;refine bU ?_;unfold dictSet;refine bU (ae ((L2.s9 prog w).pyHash (k:=.inl (ks.getD i 0)) (L2.Y3 _ _ _ _) ?_));have hl:(L5 (ks.take i)).length<=10000:=by
   unfold L5;rw[ak,dS];omega
  refine wpAny_dictSetHashed_pairs (s:={ s' with toks:=s'.toks+1 }) (k:=(.inl (ks.getD i 0):L2.Key)) (L2.Y3 _ _ _ _) lR (λh' qw sb=>?_) (aC hl ∅);have ek:ks.take (i+1)=ks.take i++[ks.getD i 0]:=by
   rw[bA,ag dY];simp[List.getD,dY]
  have iV:ks.getD i 0∉ks.take i:=by
   have:(ks.take (i+1)).Nodup:=nd.sublist (List.take_sublist _ _);rw[ek,cx] at this;exact λz=>this.2.2 _ z _ (by simp) rfl
  rw[stored_new iV,<- ek] at qw;refine au ⟨gL Q5 _,?_⟩;rw[show((i:Nat):Int)+1=((i+1:Nat):Int) by omega];refine ih (i+1) _ () (W.frame _ s' _ _ ba (cL _) λb hb o e=>by rw[sb.2 b λz=>HP (z▸hb)];exact e) (λj hj=>?_) qw λs2 m2 h2=>?_
  ·obtain⟨tk,o,ho,r⟩:=qq j hj;exact⟨tk,o,(sb.2 _ λz=>He j hj (by simp[z])).trans ho,r⟩
  ·exact hR s2 (Moved.trans W.gtrans ((m.mono nC).then_heap (cL _) λb o hb e=>by rw[sb.2 b λz=>hb (by rw[z];simp)];exact e) m2) h2
theorem aV8{l:Addr}{tp:Nat->Addr}{nn:Nat}{s:Shared}{Q:Value->Shared->Prop}(hh:A.handled=none)(ho:s.heap.get? l=some o)(hc:o.cls=.type "list")(hn:o.dict=none)(hd:o.data=.seq items nn)(hsz:items.size=ks.length)(hit:∀(i:Nat) (v:Value),items[i]?=some v->v=.ref (tp i))(ht:∀j,j<ks.length->∃tk,s.heap.IsTuple (tp j) #[.int (ks.getD j 0) tk,.bool true])(hb:ks.length<=10000)(nd:ks.Nodup)(h:∀h' tk,h'.DictOf (L2.s9 prog w) s.heap.objs.size (L5 ks)->(∀b o,s.heap.get? b=some o->h'.get? b=some o)->s.toks<=tk->Q (.ref s.heap.objs.size) { s with heap:=h',toks:=tk }) :
  wpAny (model prog w) A (call (.type "dict") [.ref l]) Q E s:=by
 refine callType_codes (Q₁:=λobj bO=>obj=.ref s.heap.objs.size/\bO={ s with heap:=s.heap.push { cls:=.type "dict",data:=.dict #[] } }) F.kt_called_dict (F.kt_typeCall_dict_1 _) F.entry_dict_init (kt_code_dict_new _ ⟨rfl,rfl⟩) ?_;rintro obj bO ⟨rfl,rfl⟩;have pj:(s.heap.push { cls:=.type "dict",data:=.dict #[] }).DictOf (L2.s9 prog w) s.heap.objs.size []:=Heap.DictOf.new s.heap;refine⟨pj.typeIs,F.args_dict_init_2 _ _,?_⟩;have qu:(s.heap.push { cls:=.type "dict",data:=.dict #[] }).get? l=some o:=ao _ ho;have wy:Shared.TypeIs { s with heap:=s.heap.push { cls:=.type "dict",data:=.dict #[] } } (.ref l) "list":=⟨o,qu,hc⟩
 unfold Builtin.«dict.__init__»;refine ae ?_;unfold Builtin.Dict.selfAndRest;refine ae (wpAny_notOrdered_dict pj.typeIs ?_);show wpAny _ _ (pure (s.heap.objs.size,[Value.ref l])) _ _ _;refine au ?_;show wpAny _ _ (Builtin.Dict.updateFrom "dict.__init__" s.heap.objs.size (.ref l) [] .none) _ _ _;unfold Builtin.Dict.updateFrom;refine ae (iB wy ?_);rw[aG ∅];refine ae (at8 (by simp[hh]) qu hc hn hd λh1 va k1 k2=>?_);rw[aG (by rfl)];refine ae (eO ?_);have vW:h1.get? l=some o:=k1 _ _ qu;have nR:h1.IsList l items:=⟨o,vW,hc,nn,hd⟩
 have dY:l<h1.objs.size:=az vW;have yD:l≠h1.objs.size:=aM dY;refine ae (gp (s:={ s with heap:=h1,toks:=va }) nR ?_);refine au ⟨gL Q5 _,?_⟩;have la:l<s.heap.objs.size:=az ho;obtain⟨oa,_,_,Pu,_⟩:=id pj;have oG:s.heap.objs.size<h1.objs.size:=az (k1 _ _ Pu);have tl:∀j,j<ks.length->tp j<s.heap.objs.size:=λj hj=>by
  obtain⟨_,o',e,_⟩:=ht j hj;exact az e
 refine aS5 (A:=A.in1) (a:=s.heap.objs.size) (ks:=ks) (tp:=tp) (Az (A:=A.in1.in1) (by simp[hh]) h1.objs.size l yD items).toS (λz=>?_) hsz hit (λj hj z=>?_) () nd items.size 0 _ () ⟨⟨_,aE _ rfl,rfl,rfl⟩,nR.push _⟩ (λj hj=>?_) ?_ λs' m lR=>?_
 ·simp only[List.mem_cons,List.not_mem_nil,or_false] at z;rcases z with z|z
  ·exact aM oG z
  ·exact cu la z
 ·have:=tl j ();simp only[List.mem_cons,List.not_mem_nil,or_false] at z;rcases z with z|z
  ·exact aM this z
  ·exact aM (cW this oG) z
 ·obtain⟨tk,o',e,r⟩:=ht j ();exact⟨tk,o',ao _ (k1 _ _ (ao _ e)),r⟩
 ·obtain⟨o',es,ep,e,r⟩:=pj;exact⟨o',es,ep,ao _ (k1 _ _ e),r⟩
 ·have eS:s'={ s with heap:=s'.heap,toks:=s'.toks }:=by
   obtain⟨iK,g',d',kB,rz⟩:=s';have m1:g'=s.gens:=m.gens;have m2:d'=s.drawn:=m.drawn;have m3:rz=s.os:=m.os;subst m1;subst m2;subst m3
   rfl
  rw[eS];refine⟨rfl,h _ _ lR (λb o' e=>?_) (aC k2 m.toks)⟩;have lb:=az e;refine m.heap b o' (λz=>?_) (ao _ (k1 _ _ (ao _ e)));simp only[List.mem_cons,List.not_mem_nil,or_false] at z;rcases z with z|z
  ·exact aM lb z
  ·exact aM (cW lb oG) z
end
end ST
namespace L2
open PySem PyProof.Rows
section
variable{X:Cx}
theorem MC:∀ks:List Int,KV (ks.map λk=>((.inl k:Key),V.bl true)) (ST.L5 ks)
 |[]=>.nil
 |_::ks=>.cons ⟨rfl,rfl⟩ (MC ks)
theorem ar6(hc:X.calm=true):p9 X (.type "dict") (λxs H Q=>∃a,∃(ts:List Addr) (ks:List Int),xs=[.ref a]/\gn X.K H a (ts.map V.ref)/\ts.length=ks.length/\(∀(i:Nat) t k,ts[i]?=some t->ks[i]?=some k->kx X.K H t [.int k,.bl true])/\ks.length<=10000/\ks.Nodup/\∀p,H p=none->Q (.ref p) (upd H p (.dK (ks.map λk=>(.inl k,.bl true))))):=by
 intro pins s U H xs us Q I r h;obtain⟨a,ts,ks,rfl,hq,hl,ht,hz,nd,q⟩:=h;obtain⟨u,rfl,ru⟩:=vals1 r;cases ru;obtain⟨bw,rv,⟨o,n,ho,kE,Qb,hd⟩,_⟩:=I.list hq;have hlen:bw.length=ts.length:=by rw[<- rv.length];simp
 refine ST.aV8 (tp:=λi=>ts.getD i 0) (ks:=ks) (I.ok.hd hc) ho kE Qb hd (by rw[aX];omega) (λi v hv=>?_) (λj hj=>?_) hz nd λh' tk hS hk vS=>?_
 ·rw[List.getElem?_toArray] at hv;have hi:i<ts.length:=by rw[<- hlen];exact(av.mp hv).1
  obtain⟨u,hu,ru⟩:=rv.get (i:=i) (x:=V.ref ts[i]) (by rw[ai,ag hi];rfl);rw[hv] at hu;cases hu;rw[show ts.getD i 0=ts[i] by simp[List.getD,hi]];exact ru
 ·have tT:j<ts.length:=by omega
  obtain⟨rC,Oy,p2,_⟩:=I.tuple (ht j ts[j] ks[j] (ag tT) (ag hj));cases Oy with
  |cons r1 r2 =>
  cases r2 with
  |cons r2 r3 =>
  cases r3;obtain⟨tk,rfl⟩:=r1;cases r2;rw[show ts.getD j 0=ts[j] by simp[List.getD,tT],show ks.getD j 0=ks[j] by simp[List.getD,hj]];exact⟨tk,p2⟩
 ·exact⟨.ref _,_,I.laid (a:=s.heap.objs.size) (t':=tk) hk (aw _) (Nt (by rw[ak];exact aC hz ∅) (dO.mpr (cq (aM I.big))) (MC ks) hS),rfl,q _ (I.bY.fresh (aw _))⟩
theorem Vh{h:Heap}{a:Addr}{ns:List Int}(x:ST.A3 X.prog X.w h a (ST.i0 [] ns)):h.SetOf (intKind X.prog X.w) a (λk=>decide (k∈ns)) (ST.i0 [] ns).length:=by
 obtain⟨o,es,ep,t,ho,hx,hd,nT,hp,hn,hb,hf,hw⟩:=x;refine⟨o,es,ep,t,ho,hx,hd,nT,λk=>?_,hb,hf,by rw[<- hp.length_eq];simp⟩;have mem:k∈ns↔k∈es.toList.map λe=>ST.toI e.2:=by rw[hp.mem_iff,ST.T2];simp
 rw[ei,mem];constructor
 ·intro z;obtain⟨e,he,rfl⟩:=aN.mp z;obtain⟨tk,h1,_⟩:=ST.zB nT he;refine⟨e,he,?_⟩;rw[h1];exact ff _ _ _ _
 ·rintro⟨e,he,z⟩;obtain⟨tk,h1,_⟩:=ST.zB nT he;refine aN.mpr ⟨e,he,?_⟩;have h2:(intKind X.prog X.w).is (ST.toI e.2) e.2=true:=by rw[h1];exact ff _ _ _ _
  exact(intKind X.prog X.w).inj _ _ _ h2 z
theorem az5(hc:X.calm=true):p9 X (.type "set") (λxs H Q=>∃a ns,xs=[.ref a]/\gn X.K H a (ns.map V.int)/\ns.length<600/\∀p,H p=none->Q (.ref p) (upd H p (.set (λk=>decide (k∈ns)) (ST.i0 [] ns).length))):=by
 intro pins s U H xs us Q I r h;obtain⟨a,ns,rfl,hq,hl,q⟩:=h;cases r with
 |cons r rr =>
 cases rr;cases r;obtain⟨bw,rv,p,hz⟩:=I.list hq;have hI:=K9 rv;have hlen:=ST.zJ hI;refine ST.MG (ns:=ns) (I.ok.hd hc) (.inl p.isList) (by simpa using hI) (by rw[aX,hlen];exact aB (Nat.succ_lt_succ hl) ∅) λh' tk hS hk _=>?_;exact⟨.ref _,_,I.laid (a:=s.heap.objs.size) (o:=.set (λk=>decide (k∈ns)) (ST.i0 [] ns).length) (t':=tk) hk (aw _) (Vh hS),rfl,q _ (I.bY.fresh (aw _))⟩
end
end L2
namespace L2
open PySem PySem.Spec PyProof.Rows
variable{prog:Program}{w:World}{A:Around}{s:Shared}{X:Cx}
end L2
namespace M
open PySem L2
set_option genInjectivity true in
inductive D where
 |bD|bl (b:Bool)|int (i:Int)|str (x:Str)|ty (n:String)|ref (i:Nat)|tup (l:List D)
set_option genInjectivity true in
inductive O where
 |lst (l:List D)|pF (l:List D)
 |da (kvs:List (Key×D))
 |ins (c:Str) (fs:List (Str×D))
 |set (S:Int->Bool) (n:Nat)
def O.mut:O->Bool
 |.pF _=>false
 |_=>true
def pS:D->Option Key
 |.int i=>some (.inl i)
 |.str x=>some (.inr x)
 |_=>none
def u7(kvs:List (Key×D))(k:Key):Option D:=(kvs.find? λkv=>decide (kv.1=k)).map (·.2)
def putD(kvs:List (Key×D))(k:Key)(v:D):List (Key×D) :=
 if(kvs.any λkv=>decide (kv.1=k))=true then kvs.map (λkv=>if kv.1=k then(kv.1,v) else kv) else kvs++[(k,v)]
def q9(f:Str)(v:D):List (Str×D)->List (Str×D)
 |[]=>[(f,v)]
 |(g,x)::r=>if g=f then(g,v)::r else(g,x)::q9 f v r
def Q7:List D->Str->Option D
 |.tup [.str y,v]::r,x=>if x=y then some v else Q7 r x
 |_::_,_=>none
 |[],_=>none
def Jk:List D->Option Str
 |[]=>some Str.empty
 |.str x::r=>(Jk r).map λy=>x++y
 |_=>none
structure Xn where
 cls:Str
noncomputable abbrev G:=List O
noncomputable abbrev S:=List (Option D)
noncomputable abbrev KD:=D->G->Prop
noncomputable abbrev KX:=Xn->G->Prop
noncomputable abbrev kc:KX:=λ_ _=>False
def Fi:Option O->Option (List D)
 |some (.lst l)=>some l
 |some (.pF l)=>some l
 |_=>none
noncomputable abbrev d5(g:G)(a:Nat):Option (List D):=Fi g[a]?
def rd(g:G):Nat->D->Option PyData
 |_,.bD=>some .none
 |_,.bl b=>some (.bool b)
 |_,.int i=>some (.int i)
 |_,.str x=>some (.str x)
 |_,.ty _=>none
 |0,.ref _=>none
 |0,.tup _=>none
 |n+1,.ref a=>match d5 g a with
  |some l=>(l.mapM (rd g n)).map .list
  |none=>none
 |n+1,.tup l=>(l.mapM (rd g n)).map .tuple
def Oz(g:G)(l:List D):Option (List PyData):=l.mapM (rd g 6)
def K0(g:G):D->Option (List D)
 |.tup l=>some l
 |.ref a=>d5 g a
 |_=>none
def Q8:D->Bool
 |.bD=>true
 |_=>false
def cut{α:Type}(xs:List α)(lo hi:Option Int):List α:=(xs.drop (HT.kQ xs.length 0 lo)).take (HT.kQ xs.length xs.length hi-HT.kQ xs.length 0 lo)
def sO(g:G)(x:D)(c:String):Option Bool:=match x with
 |.bD=>some (c=="NoneType")
 |.bl _=>some (c=="bool"||c=="int")
 |.int _=>some (c=="int")
 |.str _=>some (c=="str")
 |.tup _=>some (c=="tuple")
 |.ref a=>match g[a]? with
  |some (.lst _)=>some (c=="list")
  |_=>none
 |.ty _=>none
def j6(lo:Int)(n:Nat):List D:=(List.range n).map λ(k:Nat)=>.int (lo+k)
def Y0:List D->Option Bool
 |[]=>some true
 |.bl b::r=>(Y0 r).map λc=>b&&c
 |_=>none
inductive Pr where
 |bin (op:Operator)|un (op:UnaryOp)|cmp (op:CmpOp)
 |ix|ql (lo hi:Bool)|rev|tup|lst|V6
 |len|list|tuple|isin|all|max|min|int|str|jY|kW|sset|Oq|kZ
 |QZ|Cw|og|fv|Cz|fld (f:Str)
 |append|pop|get|index|join|iadd|clear|rq|extend|any|kM|sum|V3|nJ|kP|rB|CQ|wR|kO (i:Int)
noncomputable abbrev DR:=List D->G->D->G->Prop
def arR:Operator->Int->Int->Int->Prop
 |.Add,i,j,r=>r=i+j
 |.Sub,i,j,r=>r=i-j
 |.Mult,i,j,r=>sG i j/\r=i*j
 |.FloorDiv,i,j,r=>Dc i j/\r=i / j
 |.Mod,i,j,r=>0<j/\r=i % j
 |.Pow,i,j,r=>pN i j/\r=i ^ j.toNat
 |.LShift,i,j,r=>pN i j/\r=i*2 ^ j.toNat
 |.BitAnd,i,j,r=>r=Builtin.bitAnd i j
 |.BitOr,i,j,r=>r=Builtin.bitOr i j
 |_,_,_,_=>False
def WC(op:Operator):DR:=λxs g d g' =>
 (∃i j r,xs=[.int i,.int j]/\arR op i j r/\d=.int r/\g'=g) \/
 (op=.Add/\((∃ a b l m,xs=[.ref a,.ref b]/\g[a]?=some (.lst l)/\g[b]?=some (.lst m)/\l.length + m.length <= 100000/\d=.ref g.length/\g'=g ++ [.lst (l ++ m)]) \/
  False))
def Of(op:UnaryOp):DR:=λxs g d g'=>op=.USub/\∃i,xs=[.int i]/\d=.int (-i)/\g'=g
def wM(g:G)(x y:D)(b:Bool):Prop :=
 (∃i j,x=.int i/\y=.int j/\b=decide (i=j))\/(∃i j,x=.bl i/\y=.bl j/\b=(i==j))\/(∃i j,x=.str i/\y=.str j/\b=decide (i=j)) \/
 ∃p q,rd g 6 x=some p/\rd g 6 y=some q/\p.canLay0=true/\q.canLay0=true/\b=PyData.eqv p q
def inR(g:G)(x y:D)(b:Bool):Prop :=
 (∃a kvs c,y=.ref a/\g[a]?=some (.da kvs)/\pS x=some c/\b=(u7 kvs c).isSome) \/
 ∃l ps p,K0 g y=some l/\Oz g l=some ps/\rd g 6 x=some p/\PyData.canLayAll0 ps=true/\p.canLay0=true/\b=(ps.any λq=>PyData.eqv q p)
def IJ(g:G)(x y:D)(b:Bool):Prop:=∃a S n i,y=.ref a/\g[a]?=some (.set S n)/\x=.int i/\b=S i
def JA(g:G)(x y:D)(b:Bool):CmpOp->Prop
 |.Eq=>wM g x y b
 |.NotEq=>wM g x y (!b)
 |.In=>inR g x y b\/IJ g x y b
 |.NotIn=>inR g x y (!b)\/IJ g x y (!b)
 |.Lt=>∃i j,x=.int i/\y=.int j/\b=decide (i<j)
 |.LtE=>∃i j,x=.int i/\y=.int j/\b=decide (i<=j)
 |.Gt=>∃i j,x=.int i/\y=.int j/\b=decide (j<i)
 |.GtE=>∃i j,x=.int i/\y=.int j/\b=decide (j<=i)
 |.Is=>y=.bD/\b=Q8 x
 |.IsNot=>y=.bD/\b=!Q8 x
def WI(op:CmpOp):DR:=λxs g d g'=>∃x y b,xs=[x,y]/\JA g x y b op/\d=.bl b/\g'=g
def IM(g:G)(x:D)(b:Bool):Prop :=
 False\/x=.bl b\/(∃i,x=.int i/\b=(i != 0))\/False
def OU:DR:=λxs g d g'=>g'=g/\((∃x l i,xs=[x,.int i]/\K0 g x=some l/\gG l i=some d)\/(∃a kvs y c,xs=[.ref a,y]/\g[a]?=some (.da kvs)/\pS y=some c/\u7 kvs c=some d) \/
 False)
def vg(x:D)(lo hi:Option Int)(g:G)(d:D)(g':G):Prop:=False\/∃a l,x=.ref a/\d5 g a=some l/\d=.ref g.length/\g'=g++[.lst (cut l lo hi)]
def Xu:Bool->Bool->DR
 |false,false,xs,g,d,g'=>∃x,xs=[x]/\vg x none none g d g'
 |true,false,xs,g,d,g'=>∃x i,xs=[x,.int i]/\vg x (some i) none g d g'
 |false,true,xs,g,d,g'=>∃x j,xs=[x,.int j]/\vg x none (some j) g d g'
 |true,true,xs,g,d,g'=>∃x i j,xs=[x,.int i,.int j]/\vg x (some i) (some j) g d g'
def Xp:DR:=λxs g d g'=>(∃l,xs=[.tup l]/\d=.tup l.reverse/\g'=g)\/∃a l,xs=[.ref a]/\d5 g a=some l/\d=.ref g.length/\g'=g++[.lst l.reverse]
def XR:DR:=λxs g d g'=>xs.length<=1000/\d=.tup xs/\g'=g
def WW:DR:=λxs g d g'=>xs.length<=1000/\d=.ref g.length/\g'=g++[.lst xs]
def Yp:DR:=λxs g d g'=>xs=[]/\d=.ref g.length/\g'=g++[.da []]
def WU:DR:=λxs g d g'=>g'=g/\((∃x l,xs=[x]/\K0 g x=some l/\d=.int l.length)\/False\/False)
def kD:Key->D
 |.inl i=>.int i
 |.inr x=>.str x
def YL:DR:=λxs g d g'=>(∃x l,xs=[x]/\K0 g x=some l/\d=.ref g.length/\g'=g++[.lst l])\/∃a kvs,xs=[.ref a]/\g[a]?=some (.da kvs)/\kvs.length<=10000/\d=.ref g.length/\g'=g++[.lst ((kvs.map (·.1)).map kD)]
def Tq:DR:=λxs g d g'=>∃x l,xs=[x]/\K0 g x=some l/\d=.tup l/\g'=g
def Yz:DR:=λxs g d g'=>∃x c b,xs=[x,.ty c]/\c∈["int","bool","str","tuple","list"]/\sO g x c=some b/\d=.bl b/\g'=g
def allR:DR:=λxs g d g'=>∃a l b,xs=[.ref a]/\d5 g a=some l/\(Y0 l=some b\/∃ns:List Int,l=ns.map .int/\b=ns.all λn=>n != 0)/\d=.bl b/\g'=g
def IU:List D->Option Bool
 |[]=>some false
 |.bl b::r=>(IU r).map λc=>b||c
 |_=>none
def anyR:DR:=λxs g d g'=>∃a l b,xs=[.ref a]/\d5 g a=some l/\IU l=some b/\d=.bl b/\g'=g
def SR:DR:=λxs g d g'=>False\/∃x,∃ns:List Int,xs=[x]/\K0 g x=some (ns.map .int)/\ns.length<=10000/\d=.ref g.length/\g'=g++[.lst ((L9 ns).map .int)]
def WX:DR:=λxs g d g'=>g'=g/\((∃i j,xs=[.int i,.int j]/\d=.int (if j>i then j else i))\/∃a,∃(ns:List Int) (M:Int),xs=[.ref a]/\d5 g a=some (ns.map .int)/\M∈ns/\(∀x∈ns,x<=M)/\d=.int M)
def WY:DR:=λxs g d g'=>g'=g/\((∃i j,xs=[.int i,.int j]/\d=.int (if j<i then j else i))\/False)
def Zm:DR:=λxs g d g'=>∃a i S n,xs=[.ref a,.int i]/\g[a]?=some (.set S n)/\n+1<4096/\d=.bD/\g'=g.set a (.set (λk=>S k||decide (k=i)) (if S i then n else n+1))
def YJ:DR:=λxs g d g'=>∃a,∃ns:List Int,xs=[.ref a]/\d5 g a=some (ns.map .int)/\ns.length<600/\d=.ref g.length/\g'=g++[.set (λk=>decide (k∈ns)) (ST.i0 [] ns).length]
def SD(i:Int):DR:=λxs g d g'=>xs=[]/\d=.ref g.length/\g'=g++[.set (λk=>decide (k=i)) 1]
def Xw:DR:=λxs g d g'=>∃a,∃ns:List Int,xs=[.ref a]/\d5 g a=some (ns.map .int)/\d=.int ns.sum/\g'=g
def YN:DR:=λxs g d g'=>∃a,∃ns:List Int,xs=[.ref a]/\d5 g a=some (ns.map .int)/\ns.length<60/\d=.int (ST.i0 [] ns).length/\g'=g
def YA:DR:=λxs g d g'=>∃i j,xs=[.int i,.int j]/\d=.int (i-j)/\g'=g
def WS:DR:=λxs g d g'=>g'=g/\((∃i,xs=[.int i]/\d=.int i)\/∃b,xs=[.bl b]/\d=.int (if b then 1 else 0))
def Xv:DR:=λxs g d g'=>(∃i,xs=[.int i]/\i.natAbs.log2<1920/\d=.str (toString i)/\g'=g)\/∃x,xs=[.str x]/\d=.str x/\g'=g
def bB9:DR:=λxs g d g'=>∃j,xs=[.int j]/\-(2 ^ 62)<=j/\j<=100000/\d=.ref g.length/\g'=g++[.lst (j6 0 j.toNat)]
def bB8:DR:=λxs g d g'=>∃i j,xs=[.int i,.int j]/\(-(2 ^ 62)<=i/\i<2 ^ 62/\-(2 ^ 62)<=j/\j<2 ^ 62/\j-i<=100000)/\d=.ref g.length/\g'=g++[.lst (j6 i (j-i).toNat)]
def Zr:DR:=λxs g d g'=>∃a ns,xs=[.ref a]/\d5 g a=some (ns.map .int)/\ns.length<600/\d=.ref g.length/\g'=g++[.lst ((u4 ns).map .int)]
def Xx:DR:=λxs g d g'=>∃ns ms:List Int,xs=[.tup (ns.map .int),.tup (ms.map .int)]/\(∀k∈ns,ST.Spot k)/\(∀k∈ms,ST.Spot k)/\ns.length+ms.length<50/\d=.ref g.length/\g'=g++[.lst ((u4 (ns++ms)).map .int)]
def JF(neg:Bool):DR:=λxs g d g'=>∃kvs x,xs=[.tup kvs,.str x]/\d=.bl (xor neg (Q7 kvs x).isSome)/\g'=g
def Yu:DR:=λxs g d g'=>∃kvs x,xs=[.tup kvs,.str x]/\Q7 kvs x=some d/\g'=g
def Rg:DR:=λxs g d g'=>g'=g/\((∃i,xs=[.int i]/\i.natAbs.log2<1920/\d=.str (toString i))\/∃x,xs=[.str x]/\x.length<=2000/\d=.str x)
def Yt:DR:=λxs g d g'=>∃x,Jk xs=some x/\d=.str x/\g'=g
def WM(f:Str):DR:=λxs g d g'=>∃a c fs,xs=[.ref a]/\g[a]?=some (.ins c fs)/\fs.lookup f=some d/\g'=g
def appendR:DR:=λxs g d g'=>∃a y l,xs=[.ref a,y]/\g[a]?=some (.lst l)/\l.length<100000/\d=.bD/\g'=g.set a (.lst (l++[y]))
def Xh:DR:=λxs g d g'=>∃a i l k,xs=[.ref a,.int i]/\g[a]?=some (.lst l)/\-(2 ^ 63)<=i/\i<2 ^ 63/\seqIndex? i l.length=some k/\l[k]?=some d/\g'=g.set a (.lst (l.eraseIdx k))
def WQ:DR:=λxs g d g'=>∃a y z kvs c,xs=[.ref a,y,z]/\g[a]?=some (.da kvs)/\pS y=some c/\d=(u7 kvs c).getD z/\g'=g
def Jf:D->Bool
 |.bD=>true
 |.bl _=>true
 |.int _=>true
 |.str _=>true
 |_=>false
def toV:D->V
 |.bl b=>.bl b
 |.int i=>.int i
 |.str x=>.str x
 |_=>.bD
def ZM(l:List D)(y:D)(n:Nat):Prop:=l.all Jf=true/\Jf y=true/\(∃z,l[n]?=some z/\Iq (toV z) (toV y)=true)/\∀(m:Nat) z,m<n->l[m]?=some z->Iq (toV z) (toV y)=false
def bD2:DR:=λxs g d g'=>∃x y l n,xs=[x,y]/\K0 g x=some l/\ZM l y n/\l.length<=100000/\d=.int n/\g'=g
def joinR:DR:=λxs g d g'=>∃sep a ys,xs=[.str sep,.ref a]/\d5 g a=some (ys.map .str)/\Uc sep ys<=100000/\d=.str (Builtin.Str.glued sep ys)/\g'=g
def Yx:DR:=λxs g d g'=>(∃i j,xs=[.int i,.int j]/\d=.int (i+j)/\g'=g)\/False
def ZT:DR:=λxs g d g'=>∃a l,xs=[.ref a]/\g[a]?=some (.lst l)/\d=.bD/\g'=g.set a (.lst [])
def Zh:DR:=λxs g d g'=>∃a l,xs=[.ref a]/\g[a]?=some (.lst (l++[d]))/\g'=g.set a (.lst l)
def TM:DR:=λxs g d g'=>∃a b l m,xs=[.ref a,.ref b]/\g[a]?=some (.lst l)/\g[b]?=some (.lst m)/\l.length+m.length<=100000/\d=.bD/\g'=g.set a (.lst (l++m))
def ZV:DR:=λxs g d g'=>False\/∃a,∃ks:List Int,xs=[.ref a]/\d5 g a=some (ks.map λk=>.tup [.int k,.bl true])/\ks.length<=1000/\ks.Nodup/\d=.ref g.length/\g'=g++[.da (ks.map λk=>(.inl k,.bl true))]
def ug(p:Key×Int×Int):Key×D:=(p.1,.tup [.int p.2.1,.int p.2.2])
def YI(n:Int)(p:Key×Int×Int):Bool:=!(decide (p.2.1=n)||decide (p.2.2=n))
def Yo:DR:=λxs g d g'=>∃a n,∃fs:List (Key×Int×Int),xs=[.ref a,.int n]/\g[a]?=some (.da (fs.map ug))/\fs.length<1000/\(fs.map (·.1)).Nodup/\d=.ref g.length/\g'=g++[.da ((fs.filter (YI n)).map ug)]
def delD(kvs:List (Key×D))(k:Key):List (Key×D):=kvs.filter λkv=>decide (kv.1≠k)
def Yq:DR:=λxs g d g'=>∃a y kvs c,xs=[.ref a,y]/\g[a]?=some (.da kvs)/\pS y=some c/\u7 kvs c=some d/\g'=g.set a (.da (delD kvs c))
def PR:Pr->DR
 |.CQ=>Yo
 |.wR=>Yq
 |.clear=>ZT
 |.any=>anyR
 |.sum=>Xw
 |.kP=>Zm
 |.rB=>YJ
 |.kO i=>SD i
 |.V3=>YN
 |.nJ=>YA
 |.kM=>SR
 |.extend=>TM
 |.rq=>Zh
 |.kZ=>ZV
 |.bin op=>WC op
 |.un op=>Of op
 |.cmp op=>WI op
 |.ix=>OU
 |.ql a b=>Xu a b
 |.rev=>Xp
 |.tup=>XR
 |.lst=>WW
 |.V6=>Yp
 |.len=>WU
 |.list=>YL
 |.tuple=>Tq
 |.isin=>Yz
 |.all=>allR
 |.max=>WX
 |.min=>WY
 |.int=>WS
 |.str=>Xv
 |.jY=>bB9
 |.kW=>bB8
 |.sset=>Zr
 |.Oq=>Xx
 |.QZ=>JF false
 |.Cw=>JF true
 |.og=>Yu
 |.fv=>Rg
 |.Cz=>Yt
 |.fld f=>WM f
 |.append=>appendR
 |.pop=>Xh
 |.get=>WQ
 |.index=>bD2
 |.join=>joinR
 |.iadd=>Yx
def cQ(p:Pr)(xs:List D)(g:G)(Q:KD):Prop:=∃d g',PR p xs g d g'/\Q d g'
def su(g:G)(x y:D)(k:Bool->Prop):Prop:=∃b,wM g x y b/\k b
def rD(g:G)(x y:D)(k:Bool->Prop):Prop:=∃b,inR g x y b/\k b
def qO(g:G)(x:D)(k:Bool->Prop):Prop:=∃b,IM g x b/\k b
def Xs(x y v:D)(g g':G):Prop:=(∃a i l j,x=.ref a/\y=.int i/\g[a]?=some (.lst l)/\lN l.length i=some j/\g'=g.set a (.lst (l.set j v))) \/
 ∃a kvs c,x=.ref a/\g[a]?=some (.da kvs)/\pS y=some c/\kvs.length<100000/\g'=g.set a (.da (putD kvs c v))
def Y1(x y v:D)(g:G)(k:G->Prop):Prop:=∃g',Xs x y v g g'/\k g'
def Jr(f:Str)(cs:List Str)(x v:D)(g g':G):Prop:=∃a c fs,x=.ref a/\g[a]?=some (.ins c fs)/\c∈cs/\fs.length<100/\g'=g.set a (.ins c (q9 f v fs))
def xi(f:Str)(cs:List Str)(x v:D)(g:G)(k:G->Prop):Prop:=∃g',Jr f cs x v g g'/\k g'
def mF:Pr->D->G->Prop
 |.get,x,g=>∃a kvs,x=.ref a/\g[a]?=some (.da kvs)
 |.wR,x,g=>∃a kvs,x=.ref a/\g[a]?=some (.da kvs)
 |.join,x,g=>∃y,x=.str y
 |.kP,x,g=>∃a S n,x=.ref a/\g[a]?=some (.set S n)
 |.index,x,g=>∃a l,x=.ref a/\d5 g a=some l
 |_,x,g=>∃a l,x=.ref a/\d5 g a=some l
inductive IK where
 |fix (l:List D)|lst (a:Nat)|pK (a:Nat)|tI (a n:Nat)
def IK.at:IK->Nat->G->Option (Option D)
 |.fix l,i,_=>some l[i]?
 |.lst a,i,g=>match d5 g a with
  |some l=>some l[i]?
  |none=>none
 |.pK a,i,g=>match d5 g a with
  |some l=>some (l[i]?.map λd=>.tup [.int i,d])
  |none=>none
 |.tI a n,i,g=>match d5 g a with
  |some l=>if l.length=n then some (if i<n then l[n-1-i]? else none) else none
  |none=>none
inductive MT where
 |one (i:Nat)|many (is:List Nat)
def R0:List Nat->List D->S->Option S
 |[],[],U=>some U
 |i::is,d::ds,U=>R0 is ds (U.set i (some d))
 |_,_,_=>none
def ki(t:MT)(x:D)(U:S)(k:S->Prop):Prop:=match t with
 |.one i=>k (U.set i (some x))
 |.many is=>∃l cw,x=.tup l/\R0 is l U=some cw/\k cw
set_option genInjectivity false in
set_option genSizeOf false in
inductive ME where
 |var (i:Nat)|lit (d:D)
 |nil|cons (a b:ME)|prim (p:Pr) (es:ME)|eW (p:Pr) (o es:ME)
 |chain (o1 o2:CmpOp) (a b c:ME)
 |dM (a b:ME)|jm (a b:ME)|eK (a:ME)|ite (c a b:ME)
 |call (f:Nat) (es:ME)|make (c:Str) (f:Nat) (es:ME)
 |comp (d6:List Nat) (n:Nat) (tg:MT) (it cond elt:ME)|iE (d6:List Nat) (n:Nat) (tg:MT) (it cond elt:ME)
 |fk (e:ME)|eL (a:ME)|jA (a b:ME)|lO (e:ME)|oy (e:ME)|fV (e:ME)|no
noncomputable abbrev fS:=Nat->List D->G->KD->KX->Prop
def L1(U:S)(d6:List Nat)(n:Nat):S:=d6.map (λj=>(U[j]?).join)++List.replicate (n-d6.length) none
def turns(k:IK)(U:S)(g:G)(fin:S->G->Prop)(turn:D->(S->G->Prop)->S->G->Prop):Prop :=
 ∃W:Nat->Nat->S->G->Prop,(∃m,W 0 m U g)/\∀i m U g,W i m U g->(k.at i g=some none/\fin U g)\/∃x,k.at i g=some (some x)/\∃N2:S->G->Prop,(∀cw g',N2 cw g'->∃m',m'<m/\W (i+1) m' cw g')/\turn x N2 U g
def Fz(k:IK)(U:S)(g:G)(fin:List D->G->Prop)(turn:D->(Option D->S->G->Prop)->S->G->Prop):Prop :=
 ∃W:Nat->Nat->List D->S->G->Prop,(∃m,W 0 m [] U g)/\∀i m ys U g,W i m ys U g->(k.at i g=some none/\fin ys g) \/
  ∃x,k.at i g=some (some x)/\ys.length<100000/\turn x (λy cw g'=>∃m',m'<m/\W (i+1) m' (ys++y.toList) cw g') U g
def FA(k:IK)(U:S)(g:G)(fin:List Int->G->Prop)(turn:D->(Option Int->S->G->Prop)->S->G->Prop):Prop :=
 ∃W:Nat->Nat->List Int->S->G->Prop,(∃m,W 0 m [] U g)/\∀i m ys U g,W i m ys U g->(k.at i g=some none/\ys.length<60/\fin ys g) \/
  ∃x,k.at i g=some (some x)/\ys.length<60/\turn x (λy cw g'=>∃m',m'<m/\W (i+1) m' (ys++y.toList) cw g') U g
mutual
noncomputable def bq(P:fS):ME->S->G->KD->KX->Prop
 |.var i,U,g,Q,_=>∃d,U[i]?=some (some d)/\Q d g
 |.lit d,_,g,Q,_=>Q d g
 |.prim p es,U,g,Q,E=>hV P es U g (λxs g1=>cQ p xs g1 Q) E
 |.eW p o es,U,g,Q,E=>bq P o U g (λx g1=>mF p x g1/\hV P es U g1 (λxs g2=>cQ p (x::xs) g2 Q) E) E
 |.chain o1 o2 a b c,U,g,Q,E=>bq P a U g (λx g1=>bq P b U g1 (λy g2=>cQ (.cmp o1) [x,y] g2 λz g3=>∃t,z=.bl t/\if t=true then bq P c U g3 (λw g4=>cQ (.cmp o2) [y,w] g4 Q) E else Q (.bl false) g3) E) E
 |.dM a b,U,g,Q,E=>bq P a U g (λx g1=>∃t,x=.bl t/\if t=true then bq P b U g1 Q E else Q (.bl false) g1) E
 |.jm a b,U,g,Q,E=>bq P a U g (λx g1=>∃t,x=.bl t/\if t=true then Q (.bl true) g1 else bq P b U g1 Q E) E
 |.eK a,U,g,Q,E=>bq P a U g (λx g1=>∃t,x=.bl t/\Q (.bl (!t)) g1) E
 |.ite c a b,U,g,Q,E=>eP P c U g (λt g1=>if t=true then bq P a U g1 Q E else bq P b U g1 Q E) E
 |.call f es,U,g,Q,E=>hV P es U g (λxs g1=>P f xs g1 Q E) E
 |.make c f es,U,g,Q,E=>hV P es U g (λxs g1=>P f (.ref g1.length::xs) (g1++[.ins c []]) (λd g2=>d=.bD/\Q (.ref g1.length) g2) E) E
 |.comp d6 n tg it cond elt,U,g,Q,E=>iz P it U g (λk g1=>Fz k (L1 U d6 n) g1 (λys g=>Q (.ref g.length) (g++[.lst ys])) λx N U g=>ki tg x U λcK=>eP P cond cK g (λb g3=>if b=true then bq P elt cK g3 (λy g4=>N (some y) cK g4) kc else N none cK g3) kc) E
 |.iE d6 n tg it cond elt,U,g,Q,E=>iz P it U g (λk g1=>FA k (L1 U d6 n) g1 (λys g=>Q (.ref g.length) (g++[.lst ((u4 ys).map .int)])) λx N U g=>ki tg x U λcK=>eP P cond cK g (λb g3=>if b=true then bq P elt cK g3 (λy g4=>∃j,y=.int j/\N (some j) cK g4) kc else N none cK g3) kc) E
 |.nil,_,_,_,_=>False
 |.cons _ _,_,_,_,_=>False
 |.fk _,_,_,_,_=>False
 |.eL _,_,_,_,_=>False
 |.jA _ _,_,_,_,_=>False
 |.lO _,_,_,_,_=>False
 |.oy _,_,_,_,_=>False
 |.fV _,_,_,_,_=>False
 |.no,_,_,_,_=>False
noncomputable def hV(P:fS):ME->S->G->(List D->G->Prop)->KX->Prop
 |.nil,_,g,Q,_=>Q [] g
 |.cons a b,U,g,Q,E=>bq P a U g (λx g1=>hV P b U g1 (λxs g2=>Q (x::xs) g2) E) E
 |_,_,_,_,_=>False
noncomputable def eP(P:fS):ME->S->G->(Bool->G->Prop)->KX->Prop
 |.dM a b,U,g,Q,E=>eP P a U g (λt g1=>if t=true then eP P b U g1 Q E else Q false g1) E
 |.jm a b,U,g,Q,E=>eP P a U g (λt g1=>if t=true then Q true g1 else eP P b U g1 Q E) E
 |.eK a,U,g,Q,E=>eP P a U g (λt g1=>Q (!t) g1) E
 |.no,_,g,Q,_=>Q true g
 |.fV e,U,g,Q,E=>bq P e U g (λx g1=>qO g1 x λb=>Q b g1) E
 |_,_,_,_,_=>False
noncomputable def iz(P:fS):ME->S->G->(IK->G->Prop)->KX->Prop
 |.fk e,U,g,R,E=>bq P e U g (λx g1=>(∃l,x=.tup l/\R (.fix l) g1)\/∃a l,x=.ref a/\d5 g1 a=some l/\R (.lst a) g1) E
 |.eL a,U,g,R,E=>bq P a U g (λx g1=>∃j:Int,x=.int j/\-(2 ^ 62)<=j/\j<2 ^ 62/\R (.fix (j6 0 j.toNat)) g1) E
 |.jA a b,U,g,R,E=>bq P a U g (λx g1=>bq P b U g1 (λy g2=>∃i j:Int,x=.int i/\y=.int j/\(-(2 ^ 62)<=i/\i<2 ^ 62/\-(2 ^ 62)<=j/\j<2 ^ 62)/\R (.fix (j6 i (j-i).toNat)) g2) E) E
 |.lO e,U,g,R,E=>bq P e U g (λx g1=>∃a l,x=.ref a/\d5 g1 a=some l/\R (.pK a) g1) E
 |.oy e,U,g,R,E=>bq P e U g (λx g1=>∃a l,x=.ref a/\d5 g1 a=some l/\R (.tI a l.length) g1) E
 |_,_,_,_,_=>False
end
set_option genInjectivity false in
set_option genSizeOf false in
inductive MS where
 |pass|seq (a b:MS)|expr (e:ME)|set (i:Nat) (e:ME)|mD (t:MT) (e:ME)|eQ (o i v:ME)|jc (f:Str) (cs:List Str) (o v:ME)
 |lg (i:Nat) (p:Pr) (v:ME)|yh (o1 i1 o2 i2 e:ME)
 |ifs (c:ME) (a b:MS)|du (t:MT) (it:ME) (b:MS)|kL (c:ME) (b:MS)|ret (e:ME)|rh|brk|cont
 |raise (x:Str) (es:ME)|pV (b:MS) (hs:List (Str×ME))
structure Ends where
 nx:S->G->Prop
 rt:KD
 bk:S->G->Prop:=λ_ _=>False
 ct:S->G->Prop:=λ_ _=>False
def qg(P:fS)(N:Ends)(U:S)(E:KX):List (Str×ME)->KX
 |[],x,g=>E x g
 |(y,e)::r,x,g=>if x.cls=y\/y="MintError" then bq P e U g N.rt kc else qg P N U E r x g
def wpS(P:fS):MS->Ends->S->G->KX->Prop
 |.pass,N,U,g,_=>N.nx U g
 |.seq a b,N,U,g,E=>wpS P a { N with nx:=λjj g1=>wpS P b N jj g1 E } U g E
 |.expr e,N,U,g,E=>bq P e U g (λ_ g1=>N.nx U g1) E
 |.set i e,N,U,g,E=>bq P e U g (λx g1=>N.nx (U.set i (some x)) g1) E
 |.mD t e,N,U,g,E=>bq P e U g (λx g1=>ki t x U λjj=>N.nx jj g1) E
 |.eQ o i v,N,U,g,E=>bq P v U g (λx g1=>bq P o U g1 (λy g2=>bq P i U g2 (λz g3=>Y1 y z x g3 λg4=>N.nx U g4) E) E) E
 |.jc f cs o v,N,U,g,E=>bq P v U g (λx g1=>bq P o U g1 (λy g2=>xi f cs y x g2 λg3=>N.nx U g3) E) E
 |.yh o1 i1 o2 i2 e,N,U,g,E=>bq P e U g (λx g1=>∃u v,x=.tup [u,v]/\bq P o1 U g1 (λy1 g2=>bq P i1 U g2 (λz1 g3=>Y1 y1 z1 u g3 λg4=>bq P o2 U g4 (λy2 g5=>bq P i2 U g5 (λz2 g6=>Y1 y2 z2 v g6 λg7=>N.nx U g7) E) E) E) E) E
 |.lg i p v,N,U,g,E=>∃x,U[i]?=some (some x)/\bq P v U g (λz g1=>cQ p [x,z] g1 λw g2=>N.nx (U.set i (some w)) g2) E
 |.ifs c a b,N,U,g,E=>eP P c U g (λt g1=>if t=true then wpS P a N U g1 E else wpS P b N U g1 E) E
 |.du t it b,N,U,g,E=>iz P it U g (λk g1=>turns k U g1 N.nx λx N2 U g=>ki t x U λcK=>wpS P b { N with nx:=N2,ct:=N2,bk:=N.nx } cK g E) E
 |.kL c b,N,U,g,E=>∃W:Nat->S->G->Prop,(∃m,W m U g)/\∀m U g,W m U g->eP P c U g (λt g1=>if t=true then ∃N2:S->G->Prop,(∀cw g',N2 cw g'->∃m',m'<m/\W m' cw g')/\wpS P b { N with nx:=N2,ct:=N2,bk:=N.nx } U g1 E else N.nx U g1) E
 |.ret e,N,U,g,E=>bq P e U g N.rt E
 |.rh,N,_,g,_=>N.rt .bD g
 |.brk,N,U,g,_=>N.bk U g
 |.cont,N,U,g,_=>N.ct U g
 |.raise x es,_,U,g,E=>hV P es U g (λvs g1=>vs.length<=1000/\E ⟨x⟩ g1) E
 |.pV b hs,N,U,g,E=>wpS P b N U g (qg P N (U.map λ_=>none) E hs)
structure bf where
 ar:Nat
 n:Nat
 body:MS
def d0(m:bf)(ds:List D):S:=ds.map some++List.replicate (m.n-ds.length) none
def c5(T:Nat->Option bf):Nat->fS
 |0,_,_,_,_,_=>False
 |k+1,f,ds,g,Q,E=>∃m,T f=some m/\ds.length=m.ar/\wpS (c5 T k) m.body ⟨λ_ g'=>Q .bD g',Q,λ_ _=>False,λ_ _=>False⟩ (d0 m ds) g E
end M
namespace M
open PySem L2
variable{g:G}{K:PySem.W.Frag}{H:Hp}{a p:Addr}{vs:List V}{i:Nat}{o:O}{u:HO}{l:List D}
theorem A4{p xs}{Q Q':KD}(h:∀d g,Q d g->Q' d g)(q:cQ p xs g Q):cQ p xs g Q':=by
 obtain⟨d,g',a,b⟩:=q;exact⟨d,g',a,h _ _ b⟩
theorem aY2{x}{k k':Bool->Prop}(h:∀b,k b->k' b)(q:qO g x k):qO g x k':=by
 obtain⟨b,a,z⟩:=q;exact⟨b,a,h _ z⟩
theorem W3{x y v}{k k':G->Prop}(h:∀g,k g->k' g)(q:Y1 x y v g k):Y1 x y v g k':=by
 obtain⟨b,a,z⟩:=q;exact⟨b,a,h _ z⟩
theorem aR5{f cs x v}{k k':G->Prop}(h:∀g,k g->k' g)(q:xi f cs x v g k):xi f cs x v g k':=by
 obtain⟨b,a,z⟩:=q;exact⟨b,a,h _ z⟩
theorem B4{t x U}{k k':S->Prop}(h:∀U,k U->k' U)(q:ki t x U k):ki t x U k':=by
 cases t with
 |one i=>exact h _ q
 |many is=>obtain⟨l,cw,a,b,c⟩:=q;exact⟨l,cw,a,b,h _ c⟩
theorem aQ4{k U g}{fin kY:S->G->Prop}{turn iS:D->(S->G->Prop)->S->G->Prop}(h:∀U g,fin U g->kY U g)(h2:∀x N U g,turn x N U g->iS x N U g)(q:turns k U g fin turn):turns k U g kY iS:=by
 obtain⟨W,w0,q⟩:=q;refine⟨W,w0,λi m U g w=>?_⟩;rcases q i m U g w with⟨a,b⟩|⟨x,a,N2,b,c⟩
 ·exact .inl ⟨a,h _ _ b⟩
 ·exact .inr ⟨x,a,N2,b,h2 _ _ _ _ c⟩
theorem aK2{k U g}{fin kY:List D->G->Prop}{turn iS:D->(Option D->S->G->Prop)->S->G->Prop}(h:∀ys g,fin ys g->kY ys g)(h2:∀x N U g,turn x N U g->iS x N U g)(q:Fz k U g fin turn):Fz k U g kY iS:=by
 obtain⟨W,w0,q⟩:=q;refine⟨W,w0,λi m ys U g w=>?_⟩;rcases q i m ys U g w with⟨a,b⟩|⟨x,a,b,c⟩
 ·exact .inl ⟨a,h _ _ b⟩
 ·exact .inr ⟨x,a,b,h2 _ _ _ _ c⟩
theorem aK1{k U g}{fin kY:List Int->G->Prop}{turn iS:D->(Option Int->S->G->Prop)->S->G->Prop}(h:∀ys g,fin ys g->kY ys g)(h2:∀x N U g,turn x N U g->iS x N U g)(q:FA k U g fin turn):FA k U g kY iS:=by
 obtain⟨W,w0,q⟩:=q;refine⟨W,w0,λi m ys U g w=>?_⟩;rcases q i m ys U g w with⟨a,b,c⟩|⟨x,a,b,c⟩
 ·exact .inl ⟨a,b,h _ _ c⟩
 ·exact .inr ⟨x,a,b,h2 _ _ _ _ c⟩
theorem K1{t:Bool}{A B A' B':Prop}(h1:A->A')(h2:B->B')(q:if t=true then A else B):if t=true then A' else B':=by
 cases t
 ·exact h2 q
 ·exact h1 q
def j4(P:fS):Prop:=∀f xs g Q Q' E E',(∀d g,Q d g->Q' d g)->(∀x g,E x g->E' x g)->P f xs g Q E->P f xs g Q' E'
mutual
theorem c9{P:fS}(hP:j4 P):∀(e:ME) (U:S) (g:G) (Q Q':KD) (E E':KX),(∀d g,Q d g->Q' d g)->(∀x g,E x g->E' x g)->bq P e U g Q E->bq P e U g Q' E'
 |.var i,U,g,Q,Q',E,E',h,hx,q=>by
  obtain⟨d,a,b⟩:=q;exact⟨d,a,h _ _ b⟩
 |.lit d,U,g,Q,Q',E,E',h,hx,q=>by exact h _ _ q
 |.prim p es,U,g,Q,Q',E,E',h,hx,q=>by
  exact M1 hP es _ _ _ _ _ _ (λxs g1 q=>A4 h q) hx q
 |.eW p o es,U,g,Q,Q',E,E',h,hx,q=>by
  exact c9 hP o _ _ _ _ _ _ (λx g1 q=>⟨q.1,M1 hP es _ _ _ _ _ _ (λxs g2 q=>A4 h q) hx q.2⟩) hx q
 |.chain o1 o2 a b c,U,g,Q,Q',E,E',h,hx,q=>by
  refine c9 hP a _ _ _ _ _ _ (λx g1 q=>c9 hP b _ _ _ _ _ _ (λy g2 q=>A4 (λz g3 q=>?_) q) hx q) hx q;obtain⟨t,e,q⟩:=q;exact⟨t,e,K1 (λq=>c9 hP c _ _ _ _ _ _ (λw g4 q=>A4 h q) hx q) (h _ _) q⟩
 |.dM a b,U,g,Q,Q',E,E',h,hx,q=>by
  refine c9 hP a _ _ _ _ _ _ (λx g1 q=>?_) hx q;obtain⟨t,e,q⟩:=q;exact⟨t,e,K1 (λq=>c9 hP b _ _ _ _ _ _ h hx q) (h _ _) q⟩
 |.jm a b,U,g,Q,Q',E,E',h,hx,q=>by
  refine c9 hP a _ _ _ _ _ _ (λx g1 q=>?_) hx q;obtain⟨t,e,q⟩:=q;exact⟨t,e,K1 (h _ _) (λq=>c9 hP b _ _ _ _ _ _ h hx q) q⟩
 |.eK a,U,g,Q,Q',E,E',h,hx,q=>by
  refine c9 hP a _ _ _ _ _ _ (λx g1 q=>?_) hx q;obtain⟨t,e,q⟩:=q;exact⟨t,e,h _ _ q⟩
 |.ite c a b,U,g,Q,Q',E,E',h,hx,q=>by
  exact z9 hP c _ _ _ _ _ _ (λt g1 q=>K1 (λq=>c9 hP a _ _ _ _ _ _ h hx q) (λq=>c9 hP b _ _ _ _ _ _ h hx q) q) hx q
 |.call f es,U,g,Q,Q',E,E',h,hx,q=>by
  exact M1 hP es _ _ _ _ _ _ (λxs g1 q=>hP _ _ _ _ _ _ _ h hx q) hx q
 |.make c f es,U,g,Q,Q',E,E',h,hx,q=>by
  exact M1 hP es _ _ _ _ _ _ (λxs g1 q=>hP _ _ _ _ _ _ _ (λd g2 q=>⟨q.1,h _ _ q.2⟩) hx q) hx q
 |.comp d6 n tg it cond elt,U,g,Q,Q',E,E',h,hx,q=>by
  exact E2 hP it _ _ _ _ _ _ (λk g1 q=>aK2 (λys g q=>h _ _ q) (λ_ _ _ _ q=>q) q) hx q
 |.iE d6 n tg it cond elt,U,g,Q,Q',E,E',h,hx,q=>by
  exact E2 hP it _ _ _ _ _ _ (λk g1 q=>aK1 (λys g q=>h _ _ q) (λ_ _ _ _ q=>q) q) hx q
 |.nil,U,g,Q,Q',E,E',h,hx,q=>(show False from q).elim
 |.cons _ _,U,g,Q,Q',E,E',h,hx,q=>(show False from q).elim
 |.fk _,U,g,Q,Q',E,E',h,hx,q=>(show False from q).elim
 |.eL _,U,g,Q,Q',E,E',h,hx,q=>(show False from q).elim
 |.jA _ _,U,g,Q,Q',E,E',h,hx,q=>(show False from q).elim
 |.lO _,U,g,Q,Q',E,E',h,hx,q|.oy _,U,g,Q,Q',E,E',h,hx,q=>(show False from q).elim
 |.fV _,U,g,Q,Q',E,E',h,hx,q=>(show False from q).elim
 |.no,U,g,Q,Q',E,E',h,hx,q=>(show False from q).elim
theorem M1{P:fS}(hP:j4 P):∀(e:ME) (U:S) (g:G) (Q Q':List D->G->Prop) (E E':KX),(∀d g,Q d g->Q' d g)->(∀x g,E x g->E' x g)->hV P e U g Q E->hV P e U g Q' E'
 |.nil,U,g,Q,Q',E,E',h,hx,q=>by exact h _ _ q
 |.cons a b,U,g,Q,Q',E,E',h,hx,q=>by
  exact c9 hP a _ _ _ _ _ _ (λx g1 q=>M1 hP b _ _ _ _ _ _ (λxs g2 q=>h _ _ q) hx q) hx q
 |.var _,U,g,Q,Q',E,E',h,hx,q|.lit _,U,g,Q,Q',E,E',h,hx,q|.prim _ _,U,g,Q,Q',E,E',h,hx,q|.eW _ _ _,U,g,Q,Q',E,E',h,hx,q|.chain _ _ _ _ _,U,g,Q,Q',E,E',h,hx,q|.dM _ _,U,g,Q,Q',E,E',h,hx,q|.jm _ _,U,g,Q,Q',E,E',h,hx,q|.eK _,U,g,Q,Q',E,E',h,hx,q|.ite _ _ _,U,g,Q,Q',E,E',h,hx,q|.call _ _,U,g,Q,Q',E,E',h,hx,q
 |.make _ _ _,U,g,Q,Q',E,E',h,hx,q|.comp _ _ _ _ _ _,U,g,Q,Q',E,E',h,hx,q|.iE _ _ _ _ _ _,U,g,Q,Q',E,E',h,hx,q|.fk _,U,g,Q,Q',E,E',h,hx,q|.eL _,U,g,Q,Q',E,E',h,hx,q|.jA _ _,U,g,Q,Q',E,E',h,hx,q|.lO _,U,g,Q,Q',E,E',h,hx,q|.oy _,U,g,Q,Q',E,E',h,hx,q|.fV _,U,g,Q,Q',E,E',h,hx,q|.no,U,g,Q,Q',E,E',h,hx,q=>(show False from q).elim
theorem z9{P:fS}(hP:j4 P):∀(e:ME) (U:S) (g:G) (Q Q':Bool->G->Prop) (E E':KX),(∀d g,Q d g->Q' d g)->(∀x g,E x g->E' x g)->eP P e U g Q E->eP P e U g Q' E'
 |.dM a b,U,g,Q,Q',E,E',h,hx,q=>by
  exact z9 hP a _ _ _ _ _ _ (λt g1 q=>K1 (λq=>z9 hP b _ _ _ _ _ _ h hx q) (h _ _) q) hx q
 |.jm a b,U,g,Q,Q',E,E',h,hx,q=>by
  exact z9 hP a _ _ _ _ _ _ (λt g1 q=>K1 (h _ _) (λq=>z9 hP b _ _ _ _ _ _ h hx q) q) hx q
 |.eK a,U,g,Q,Q',E,E',h,hx,q=>by exact z9 hP a _ _ _ _ _ _ (λt g1 q=>h _ _ q) hx q
 |.no,U,g,Q,Q',E,E',h,hx,q=>by exact h _ _ q
 |.fV e,U,g,Q,Q',E,E',h,hx,q=>by exact c9 hP e _ _ _ _ _ _ (λx g1 q=>aY2 (λb q=>h _ _ q) q) hx q
 |.var _,U,g,Q,Q',E,E',h,hx,q|.lit _,U,g,Q,Q',E,E',h,hx,q|.prim _ _,U,g,Q,Q',E,E',h,hx,q|.eW _ _ _,U,g,Q,Q',E,E',h,hx,q|.chain _ _ _ _ _,U,g,Q,Q',E,E',h,hx,q|.ite _ _ _,U,g,Q,Q',E,E',h,hx,q|.call _ _,U,g,Q,Q',E,E',h,hx,q|.nil,U,g,Q,Q',E,E',h,hx,q|.cons _ _,U,g,Q,Q',E,E',h,hx,q
 |.make _ _ _,U,g,Q,Q',E,E',h,hx,q|.comp _ _ _ _ _ _,U,g,Q,Q',E,E',h,hx,q|.iE _ _ _ _ _ _,U,g,Q,Q',E,E',h,hx,q|.fk _,U,g,Q,Q',E,E',h,hx,q|.eL _,U,g,Q,Q',E,E',h,hx,q|.jA _ _,U,g,Q,Q',E,E',h,hx,q|.lO _,U,g,Q,Q',E,E',h,hx,q|.oy _,U,g,Q,Q',E,E',h,hx,q=>(show False from q).elim
theorem E2{P:fS}(hP:j4 P):∀(e:ME) (U:S) (g:G) (Q Q':IK->G->Prop) (E E':KX),(∀d g,Q d g->Q' d g)->(∀x g,E x g->E' x g)->iz P e U g Q E->iz P e U g Q' E'
 |.fk e,U,g,Q,Q',E,E',h,hx,q=>by
  exact c9 hP e _ _ _ _ _ _ (λx g1 q=>q.imp (λ⟨l,a,b⟩=>⟨l,a,h _ _ b⟩) λ⟨i,l,a,b,c⟩=>⟨i,l,a,b,h _ _ c⟩) hx q
 |.eL a,U,g,Q,Q',E,E',h,hx,q=>by
  exact c9 hP a _ _ _ _ _ _ (λx g1 ⟨j,a,b,c,d⟩=>⟨j,a,b,c,h _ _ d⟩) hx q
 |.jA a b,U,g,Q,Q',E,E',h,hx,q=>by
  exact c9 hP a _ _ _ _ _ _ (λx g1 q=>c9 hP b _ _ _ _ _ _ (λy g2 ⟨i,j,a,b,c,d⟩=>⟨i,j,a,b,c,h _ _ d⟩) hx q) hx q
 |.lO e,U,g,Q,Q',E,E',h,hx,q=>by
  exact c9 hP e _ _ _ _ _ _ (λx g1 ⟨i,l,a,b,c⟩=>⟨i,l,a,b,h _ _ c⟩) hx q
 |.oy e,U,g,Q,Q',E,E',h,hx,q=>by
  exact c9 hP e _ _ _ _ _ _ (λx g1 ⟨i,l,a,b,c⟩=>⟨i,l,a,b,h _ _ c⟩) hx q
 |.var _,U,g,Q,Q',E,E',h,hx,q|.lit _,U,g,Q,Q',E,E',h,hx,q|.prim _ _,U,g,Q,Q',E,E',h,hx,q|.eW _ _ _,U,g,Q,Q',E,E',h,hx,q|.chain _ _ _ _ _,U,g,Q,Q',E,E',h,hx,q|.ite _ _ _,U,g,Q,Q',E,E',h,hx,q|.call _ _,U,g,Q,Q',E,E',h,hx,q|.nil,U,g,Q,Q',E,E',h,hx,q|.cons _ _,U,g,Q,Q',E,E',h,hx,q
 |.dM _ _,U,g,Q,Q',E,E',h,hx,q|.jm _ _,U,g,Q,Q',E,E',h,hx,q|.eK _,U,g,Q,Q',E,E',h,hx,q|.fV _,U,g,Q,Q',E,E',h,hx,q|.no,U,g,Q,Q',E,E',h,hx,q
 |.make _ _ _,U,g,Q,Q',E,E',h,hx,q|.comp _ _ _ _ _ _,U,g,Q,Q',E,E',h,hx,q|.iE _ _ _ _ _ _,U,g,Q,Q',E,E',h,hx,q=>(show False from q).elim
end
structure Ends.le(N N':Ends):Prop where
 nx:∀U g,N.nx U g->N'.nx U g
 rt:∀d g,N.rt d g->N'.rt d g
 bk:∀U g,N.bk U g->N'.bk U g
 ct:∀U g,N.ct U g->N'.ct U g
theorem Nl{P:fS}(hP:j4 P){N N':Ends}{E E':KX}(h:N.le N')(hx:∀x g,E x g->E' x g){U:S}:∀(hs:List (Str×ME)) x g,qg P N U E hs x g->qg P N' U E' hs x g
 |[],x,g,q=>hx x g q
 |(y,e)::r,x,g,q=>by
  unfold qg at q ⊢;split
  ·rename_i hh;rw[aG hh] at q;exact c9 hP e _ _ _ _ _ _ h.rt (λ_ _ z=>z) q
  ·rename_i hh;rw[aD hh] at q;exact Nl hP h hx r x g q
theorem wpS_mono{P:fS}(hP:j4 P):∀(s:MS) (N N':Ends) (U:S) (g:G) (E E':KX),N.le N'->(∀x g,E x g->E' x g)->wpS P s N U g E->wpS P s N' U g E'
 |.pass,N,N',U,g,E,E',h,hx,q=>h.nx _ _ q
 |.seq a b,N,N',U,g,E,E',h,hx,q=>wpS_mono hP a { N with nx:=λjj g1=>wpS P b N jj g1 E } { N' with nx:=λjj g1=>wpS P b N' jj g1 E' } _ _ _ _ ⟨λjj g1 q=>wpS_mono hP b _ _ _ _ _ _ h hx q,h.rt,h.bk,h.ct⟩ hx q
 |.expr e,N,N',U,g,E,E',h,hx,q=>c9 hP e _ _ _ _ _ _ (λx g1 q=>h.nx _ _ q) hx q
 |.set i e,N,N',U,g,E,E',h,hx,q=>c9 hP e _ _ _ _ _ _ (λx g1 q=>h.nx _ _ q) hx q
 |.mD t e,N,N',U,g,E,E',h,hx,q=>c9 hP e _ _ _ _ _ _ (λx g1 q=>B4 (λU q=>h.nx _ _ q) q) hx q
 |.eQ o i v,N,N',U,g,E,E',h,hx,q=>c9 hP v _ _ _ _ _ _ (λx g1 q=>c9 hP o _ _ _ _ _ _ (λy g2 q=>c9 hP i _ _ _ _ _ _ (λz g3 q=>W3 (λg q=>h.nx _ _ q) q) hx q) hx q) hx q
 |.jc f cs o v,N,N',U,g,E,E',h,hx,q=>c9 hP v _ _ _ _ _ _ (λx g1 q=>c9 hP o _ _ _ _ _ _ (λy g2 q=>aR5 (λg q=>h.nx _ _ q) q) hx q) hx q
 |.yh o1 i1 o2 i2 e,N,N',U,g,E,E',h,hx,q=>c9 hP e _ _ _ _ _ _ (λx g1 q=>let ⟨u,v,q1,q⟩:=q;⟨u,v,q1,c9 hP o1 _ _ _ _ _ _ (λy g2 q=>c9 hP i1 _ _ _ _ _ _ (λz g3 q=>W3 (λg4 q=>c9 hP o2 _ _ _ _ _ _ (λy g5 q=>c9 hP i2 _ _ _ _ _ _ (λz g6 q=>W3 (λg q=>h.nx _ _ q) q) hx q) hx q) q) hx q) hx q⟩) hx q
 |.lg i p v,N,N',U,g,E,E',h,hx,q=>let ⟨x,q1,q⟩:=q;⟨x,q1,c9 hP v _ _ _ _ _ _ (λz g1 q=>A4 (λw g2 q=>h.nx _ _ q) q) hx q⟩
 |.ifs c a b,N,N',U,g,E,E',h,hx,q=>z9 hP c _ _ _ _ _ _ (λt g1 q=>K1 (λq=>wpS_mono hP a _ _ _ _ _ _ h hx q) (λq=>wpS_mono hP b _ _ _ _ _ _ h hx q) q) hx q
 |.du t it b,N,N',U,g,E,E',h,hx,q=>E2 hP it _ _ _ _ _ _ (λk g1 q=>aQ4 h.nx (λx N2 U g q=>B4 (λcK q=>wpS_mono hP b { N with nx:=N2,ct:=N2,bk:=N.nx } { N' with nx:=N2,ct:=N2,bk:=N'.nx } _ _ _ _ ⟨λ_ _ z=>z,h.rt,h.nx,λ_ _ z=>z⟩ hx q) q) q) hx q
 |.kL c b,N,N',U,g,E,E',h,hx,q=>by
  obtain⟨W,w0,q⟩:=q;refine⟨W,w0,λm U g w=>z9 hP c _ _ _ _ _ _ (λt g1 q=>K1 (λq=>?_) (h.nx _ _) q) hx (q m U g w)⟩;obtain⟨N2,a,q⟩:=q;exact⟨N2,a,wpS_mono hP b { N with nx:=N2,ct:=N2,bk:=N.nx } { N' with nx:=N2,ct:=N2,bk:=N'.nx } _ _ _ _ ⟨λ_ _ z=>z,h.rt,h.nx,λ_ _ z=>z⟩ hx q⟩
 |.ret e,N,N',U,g,E,E',h,hx,q=>c9 hP e _ _ _ _ _ _ h.rt hx q
 |.rh,N,N',U,g,E,E',h,hx,q=>h.rt _ _ q
 |.brk,N,N',U,g,E,E',h,hx,q=>h.bk _ _ q
 |.cont,N,N',U,g,E,E',h,hx,q=>h.ct _ _ q
 |.raise x es,N,N',U,g,E,E',h,hx,q=>M1 hP es _ _ _ _ _ _ (λvs g1 q=>⟨q.1,hx _ _ q.2⟩) hx q
 |.pV b hs,N,N',U,g,E,E',h,hx,q=>wpS_mono hP b _ _ _ _ _ _ h (λx g q=>Nl hP h hx hs x g q) q
theorem b0(T:Nat->Option bf):∀k,j4 (c5 T k)
 |0=>λf xs g Q Q' E E' h hx q=>q.elim
 |k+1=>λf xs g Q Q' E E' h hx q=>by
  obtain⟨m,a,b,q⟩:=q;exact⟨m,a,b,wpS_mono (b0 T k) m.body ⟨λ_ g'=>Q .bD g',Q,λ_ _=>False,λ_ _=>False⟩ _ _ _ _ _ ⟨λ_ _ z=>h _ _ z,h,λ_ _ z=>z,λ_ _ z=>z⟩ hx q⟩
def TupAt(K:PySem.W.Frag)(H:Hp)(a:Addr)(vs:List V):Prop :=
 H a=some (.tup vs)\/∃(o:Obj) (bw:Array Value) (n:Nat),K.lookup a=some o/\o.cls=.type "tuple"/\o.dict=none/\o.data=.seq bw n/\bw.size<=sizeLine/\Vals vs bw.toList
theorem TupAt.d(h:TupAt K H a vs):Dg K H a vs:=h
theorem TupAt.sq{K:PySem.W.Frag}{H:Hp}{a:Addr}{vs:List V}(h:TupAt K H a vs):kx K H a vs:=h.d.sq
mutual
inductive d8(K:PySem.W.Frag)(ρ:List Addr)(H:Hp):D->V->Prop
 |bD:d8 K ρ H .bD .bD
 |bl (b:Bool):d8 K ρ H (.bl b) (.bl b)
 |int (i:Int):d8 K ρ H (.int i) (.int i)
 |str (x:Str):d8 K ρ H (.str x) (.str x)
 |ty (n:String):d8 K ρ H (.ty n) (.ty n)
 |ref {i:Nat} {a:Addr} (h:ρ[i]?=some a):d8 K ρ H (.ref i) (.ref a)
 |tup {l:List D} {a:Addr} {vs:List V} (h:TupAt K H a vs) (r:c7 K ρ H l vs):d8 K ρ H (.tup l) (.ref a)
inductive c7(K:PySem.W.Frag)(ρ:List Addr)(H:Hp):List D->List V->Prop
 |nil:c7 K ρ H [] []
 |cons {d:D} {v:V} {ds:List D} {vs:List V} (h:d8 K ρ H d v) (r:c7 K ρ H ds vs):c7 K ρ H (d::ds) (v::vs)
end
structure Ext(ρ:List Addr)(H:Hp)(cj:List Addr)(H':Hp):Prop where
 pre:∃more,cj=ρ++more
 tup:∀a xs,H a=some (.tup xs)->H' a=some (.tup xs)
theorem Ext.refl(ρ:List Addr)(H:Hp):Ext ρ H ρ H:=⟨⟨[],by simp⟩,λ_ _ h=>h⟩
theorem Ext.trans{ρ H cF H1 fU H2}(a:Ext ρ H cF H1)(b:Ext cF H1 fU H2):Ext ρ H fU H2:=by
 obtain⟨⟨m,rfl⟩,t⟩:=a;obtain⟨⟨m',rfl⟩,t'⟩:=b;exact⟨⟨m++m',by simp⟩,λx xs h=>t' _ _ (t _ _ h)⟩
theorem Ext.get{ρ H cj H'}(e:Ext ρ H cj H')(h:ρ[i]?=some a):cj[i]?=some a:=by
 obtain⟨⟨m,rfl⟩,_⟩:=e;rw[aK (av.mp h).1];exact h
theorem TupAt.ext{K ρ H cj H'}(e:Ext ρ H cj H')(h:TupAt K H a vs):TupAt K H' a vs:=h.elim (λz=>.inl (e.tup _ _ z)) .inr
mutual
theorem d8.ext{K ρ H cj H'}(e:Ext ρ H cj H'):∀{d v},d8 K ρ H d v->d8 K cj H' d v
 |_,_,.bD=>.bD
 |_,_,.bl b=>.bl b
 |_,_,.int i=>.int i
 |_,_,.str x=>.str x
 |_,_,.ty n=>.ty n
 |_,_,.ref h=>.ref (e.get h)
 |_,_,.tup h r=>.tup (h.ext e) (c7.ext e r)
theorem c7.ext{K ρ H cj H'}(e:Ext ρ H cj H'):∀{ds vs},c7 K ρ H ds vs->c7 K cj H' ds vs
 |_,_,.nil=>.nil
 |_,_,.cons h r=>.cons (d8.ext e h) (c7.ext e r)
end
theorem c7.length{K ρ H}{ds:List D}{vs:List V}(h:c7 K ρ H ds vs):ds.length=vs.length:=by
 induction ds generalizing vs with
 |nil=>cases h;rfl
 |cons d ds ih =>
  cases h with
  |cons q r=>simp[ih r]
theorem c7.get{K ρ H}:∀{ds vs} {i:Nat} {d:D},c7 K ρ H ds vs->ds[i]?=some d->∃v,vs[i]?=some v/\d8 K ρ H d v
 |_,_,_,_,.nil,h=>by simp at h
 |_,_,0,_,.cons h _,e=>by simp at e;subst e;exact⟨_,rfl,h⟩
 |_,_,i+1,d,.cons _ r,e=>by
  obtain⟨v,h1,h2⟩:=c7.get (i:=i) (d:=d) r (by simpa using e);exact⟨v,by simpa using h1,h2⟩
theorem c7.set{K ρ H}{d:D}{v:V}(h:d8 K ρ H d v):∀{ds vs} (i:Nat),c7 K ρ H ds vs->c7 K ρ H (ds.set i d) (vs.set i v)
 |_,_,_,.nil=>.nil
 |_,_,0,.cons _ r=>.cons h r
 |_,_,i+1,.cons q r=>.cons q (c7.set h i r)
theorem c7.append{K ρ H}{ds es:List D}{ws:List V}(h:c7 K ρ H ds vs)(s:c7 K ρ H es ws):c7 K ρ H (ds++es) (vs++ws):=by
 induction ds generalizing vs with
 |nil=>cases h;exact s
 |cons d ds ih =>
  cases h with
  |cons q r=>exact .cons q (ih r)
theorem c7.erase{K ρ H}:∀{ds:List D} {vs:List V} (i:Nat),c7 K ρ H ds vs->c7 K ρ H (ds.eraseIdx i) (vs.eraseIdx i)
 |_,_,_,.nil=>.nil
 |_,_,0,.cons _ r=>r
 |_,_,i+1,.cons q r=>.cons q (c7.erase i r)
theorem c7.take{K ρ H}:∀{ds:List D} {vs:List V} (n:Nat),c7 K ρ H ds vs->c7 K ρ H (ds.take n) (vs.take n)
 |_,_,0,_=>.nil
 |_,_,_+1,.nil=>.nil
 |_,_,n+1,.cons h r=>.cons h (c7.take n r)
theorem c7.drop{K ρ H}:∀{ds:List D} {vs:List V} (n:Nat),c7 K ρ H ds vs->c7 K ρ H (ds.drop n) (vs.drop n)
 |_,_,0,r=>r
 |_,_,_+1,.nil=>.nil
 |_,_,n+1,.cons _ r=>c7.drop n r
theorem c7.cut{K ρ H}{ds:List D}{vs:List V}(r:c7 K ρ H ds vs)(lo hi:Option Int):c7 K ρ H (M.cut ds lo hi) (ur vs lo hi):=by
 unfold M.cut ur;rw[r.length];exact(r.drop _).take _
theorem c7.ints{K ρ H}:∀{ns:List Int} {vs:List V},c7 K ρ H (ns.map D.int) vs->vs=ns.map V.int
 |[],_,.nil=>rfl
 |_::_,_,.cons h r=>by cases h;rw[c7.ints r];rfl
theorem c7.ofInts{K ρ H}:∀(ns:List Int),c7 K ρ H (ns.map D.int) (ns.map V.int)
 |[]=>.nil
 |n::r=>.cons (.int n) (c7.ofInts r)
def uz(K:PySem.W.Frag)(H:Hp)(a:Addr)(vs:List V):Prop :=
 (∃o,H a=some (.kq o (.lst vs)))\/∃(o:Obj) (bw:Array Value) (n:Nat),K.lookup a=some o/\o.cls=.type "list"/\o.dict=none/\o.data=.seq bw n/\bw.size<=sizeLine/\Vals vs bw.toList
theorem uz.sq(h:uz K H a vs):gn K H a vs:=h.elim (λ⟨o,z⟩=>.inl (.inr ⟨o,z⟩)) .inr
inductive i8{α:Type}(K:PySem.W.Frag)(ρ:List Addr)(H:Hp):List (α×D)->List (α×V)->Prop
 |nil:i8 K ρ H [] []
 |cons {k:α} {d:D} {v:V} {ds:List (α×D)} {vs:List (α×V)} (h:d8 K ρ H d v) (r:i8 K ρ H ds vs):i8 K ρ H ((k,d)::ds) ((k,v)::vs)
theorem i8.ext{α:Type}{K ρ H cj H'}(e:Ext ρ H cj H'){ds:List (α×D)}{vs:List (α×V)}(h:i8 K ρ H ds vs):i8 K cj H' ds vs:=by
 induction h with
 |nil=>exact .nil
 |cons h r ih=>exact .cons (h.ext e) ih
theorem i8.length{α:Type}{K ρ H}{ds:List (α×D)}{vs:List (α×V)}(h:i8 K ρ H ds vs):ds.length=vs.length:=by
 induction h with
 |nil=>rfl
 |cons h r ih=>simp[ih]
def sR(K:PySem.W.Frag)(ρ:List Addr)(H:Hp):Option D->Option V->Prop
 |some d,some v=>d8 K ρ H d v
 |none,none=>True
 |_,_=>False
theorem i8.val{K ρ H}:∀{ds vs} (k:Key),i8 K ρ H ds vs->sR K ρ H (u7 ds k) (N6 vs k)
 |_,_,k,.nil=>trivial
 |_,_,k,.cons (k:=k') h r=>by
  unfold u7 N6;rw[fq,fq];by_cases e:k'=k
  ·simp only[e,decide_true];exact h
  ·simp only[e,decide_false];exact i8.val k r
theorem i8.IV{K ρ H}:∀{ds vs} (k:Key),i8 K ρ H ds vs->(ds.any λkv=>decide (kv.1=k))=(vs.any λkv=>decide (kv.1=k))
 |_,_,k,.nil=>rfl
 |_,_,k,.cons h r=>by simp only[List.any_cons,i8.IV k r]
theorem i8.snoc{K ρ H}{k:Key}{d:D}{v:V}(h:d8 K ρ H d v){ds vs}(t:i8 K ρ H ds vs):i8 K ρ H (ds++[(k,d)]) (vs++[(k,v)]):=by
 induction ds generalizing vs with
 |nil=>cases t;exact .cons h .nil
 |cons d ds ih =>
  cases t with
  |cons q r=>exact .cons q (ih r)
theorem i8.Fo{K ρ H}{k:Key}{d:D}{v:V}(h:d8 K ρ H d v):∀{ds vs},i8 K ρ H ds vs->i8 K ρ H (ds.map λkv=>if kv.1=k then(kv.1,d) else kv) (vs.map λkv=>if kv.1=k then(kv.1,v) else kv)
 |_,_,.nil=>.nil
 |_,_,.cons (k:=k') q r=>by
  simp only[List.map_cons];by_cases e:k'=k
  ·rw[aG e,aG e];exact .cons h (i8.Fo h r)
  ·rw[aD e,aD e];exact .cons q (i8.Fo h r)
theorem i8.put{K ρ H}{k:Key}{d:D}{v:V}(h:d8 K ρ H d v){ds vs}(r:i8 K ρ H ds vs):i8 K ρ H (putD ds k d) (putK vs k v):=by
 unfold putD putK;rw[r.IV k];split
 ·exact r.Fo h
 ·exact r.snoc h
noncomputable abbrev y9(K:PySem.W.Frag)(x:Str)(C:Addr):Prop:=PySem.W.nsIn K mainGlobals x=some (some (.ref C))
theorem i8.look{K ρ H}{ds:List (Str×D)}{vs:List (Str×V)}(f:Str)(h:i8 K ρ H ds vs):sR K ρ H (ds.lookup f) (vs.lookup f):=by
 induction h with
 |nil=>trivial
 |cons h r ih =>
  rename_i k d v ds vs;rw[dR,dR];cases f==k
  ·exact ih
  ·exact h
theorem i8.B5{K ρ H}{f:Str}{d:D}{v:V}(h:d8 K ρ H d v){ds:List (Str×D)}{vs:List (Str×V)}(r:i8 K ρ H ds vs):i8 K ρ H (q9 f d ds) (L2.B5 f v vs):=by
 induction r with
 |nil=>exact .cons h .nil
 |cons q r ih =>
  unfold q9 L2.B5;split
  ·exact .cons h r
  ·exact .cons q ih
theorem KG{f:Str}{d:D}{p:Str->Prop}(hf:p f):∀{ds:List (Str×D)},(∀x∈ds,p x.1)->∀x∈q9 f d ds,p x.1
 |[],_,x,hx=>by
  have:x=(f,d):=by simpa[q9] using hx
  simp_all
 |(k,e)::r,h,x,hx=>by
  unfold q9 at hx;split at hx
  ·rcases aJ.mp hx with z|z
   ·rw[z];exact h (k,e) (by simp)
   ·exact h x (by simp[z])
  ·rcases aJ.mp hx with z|z
   ·rw[z];exact h (k,e) (by simp)
   ·exact KG hf (λy hy=>h y (by simp[hy])) x z
def OH(K:PySem.W.Frag)(ρ:List Addr)(H:Hp):O->HO->Prop
 |.lst l,.lst vs=>c7 K ρ H l vs
 |.da kvs,.dK vs=>i8 K ρ H kvs vs
 |.set S n,.set S' n'=>S=S'/\n=n'
 |.ins c fs,.ins C _ vs=>y9 K c C/\kG K C/\i8 K ρ H fs vs/\∀x∈fs,E1 K C x.1
 |_,_=>False
theorem OH.ext{K ρ H cj H'}(e:Ext ρ H cj H'){o:O}{u:HO}(h:OH K ρ H o u):OH K cj H' o u:=by
 cases o<;>cases u<;>first|exact h.elim|exact c7.ext e h|exact i8.ext e h|exact⟨h.1,h.2.1,h.2.2.1.ext e,h.2.2.2⟩|exact h
theorem OH.uG{K ρ H}{xs:List V}(h:OH K ρ H o (.tup xs)):False:=by cases o<;>exact h
theorem OH.YV{K ρ H}{ob:Obj}(h:OH K ρ H o (.kq ob u)):False:=by cases o<;>exact h
def L3(K:PySem.W.Frag)(ρ:List Addr)(H:Hp)(o:O)(a:Addr):Prop:=match o with
 |.pF l=>∃vs,uz K H a vs/\c7 K ρ H l vs
 |o=>∃u,H a=some u/\OH K ρ H o u
theorem L3.of{K ρ H}(hu:H a=some u)(h:OH K ρ H o u):L3 K ρ H o a:=by
 cases o<;>first|exact⟨u,hu,h⟩|(cases u<;>exact h.elim)
theorem L3.inv{K ρ H}(m:o.mut=true)(h:L3 K ρ H o a):∃u,H a=some u/\OH K ρ H o u:=by
 cases o<;>first|exact h|cases m
theorem L3.lst{K ρ H}{l:List D}{a:Addr}(h:L3 K ρ H (.lst l) a):∃vs,H a=some (.lst vs)/\c7 K ρ H l vs:=by
 obtain⟨u,h1,h2⟩:=h;cases u<;>first|exact⟨_,h1,h2⟩|exact h2.elim
theorem L3.da{K ρ H}{l:List (Key×D)}{a:Addr}(h:L3 K ρ H (.da l) a):∃vs,H a=some (.dK vs)/\i8 K ρ H l vs:=by
 obtain⟨u,h1,h2⟩:=h;cases u<;>first|exact⟨_,h1,h2⟩|exact h2.elim
theorem L3.set{K ρ H}{S:Int->Bool}{n:Nat}{a:Addr}(h:L3 K ρ H (.set S n) a):H a=some (.set S n):=by
 obtain⟨u,h1,h2⟩:=h;cases u<;>first|(obtain⟨rfl,rfl⟩:=(show _/\_ from h2);exact h1)|exact h2.elim
theorem L3.ins{K ρ H}{c:Str}{fs:List (Str×D)}{a:Addr}(h:L3 K ρ H (.ins c fs) a):∃C dx vs,H a=some (.ins C dx vs)/\y9 K c C/\kG K C/\i8 K ρ H fs vs/\∀x∈fs,E1 K C x.1:=by
 obtain⟨u,h1,h2⟩:=h;cases u<;>first|exact⟨_,_,_,h1,h2⟩|exact h2.elim
structure Rl(K:PySem.W.Frag)(ρ:List Addr)(g:G)(H:Hp):Prop where
 len:ρ.length=g.length
 obj:∀(i:Nat) o a,g[i]?=some o->ρ[i]?=some a->L3 K ρ H o a
 nd:∀(i j:Nat) o o' a,g[i]?=some o->g[j]?=some o'->o.mut=true->o'.mut=true->ρ[i]?=some a->ρ[j]?=some a->i=j
section
variable{ρ:List Addr}
theorem Rl.lst(R:Rl K ρ g H){i:Nat}{l:List D}{a:Addr}(h:g[i]?=some (.lst l))(ha:ρ[i]?=some a):∃vs,H a=some (.lst vs)/\c7 K ρ H l vs:=(R.obj _ _ _ h ha).lst
theorem Rl.da(R:Rl K ρ g H){i:Nat}{l:List (Key×D)}{a:Addr}(h:g[i]?=some (.da l))(ha:ρ[i]?=some a):∃vs,H a=some (.dK vs)/\i8 K ρ H l vs:=(R.obj _ _ _ h ha).da
theorem Rl.set(R:Rl K ρ g H){i:Nat}{S:Int->Bool}{n:Nat}{a:Addr}(h:g[i]?=some (.set S n))(ha:ρ[i]?=some a):H a=some (.set S n):=(R.obj _ _ _ h ha).set
theorem Rl.ins(R:Rl K ρ g H){i:Nat}{c:Str}{fs:List (Str×D)}{a:Addr}(h:g[i]?=some (.ins c fs))(ha:ρ[i]?=some a):∃C dx vs,H a=some (.ins C dx vs)/\y9 K c C/\kG K C/\i8 K ρ H fs vs/\∀x∈fs,E1 K C x.1:=(R.obj _ _ _ h ha).ins
theorem Rl.items(R:Rl K ρ g H)(h:d5 g i=some l)(ha:ρ[i]?=some a):∃vs,gn K H a vs/\c7 K ρ H l vs:=by
 cases e:g[i]? with
 |none=>rw[d5,e] at h;cases h
 |some o =>
  rw[d5,e] at h;have q:=R.obj _ _ _ e ha;cases o with
  |lst m=>cases h;obtain⟨vs,z,r⟩:=q.lst;exact⟨vs,gn.of z,r⟩
  |pF m=>cases h;obtain⟨vs,z,r⟩:=q;exact⟨vs,z.sq,r⟩
  |_=>cases h
theorem C0{o:HO}(hp:H p=none):Ext ρ H ρ (upd H p o):=⟨⟨[],by simp⟩,λa xs h=>by rw[i6 (t8 h hp)];exact h⟩
theorem uz.upd{p a:Addr}{o:HO}{vs:List V}(h:uz K H a vs)(hp:∀ob u,H p≠some (.kq ob u)):uz K (upd H p o) a vs:=by
 rcases h with⟨ob,z⟩|z
 ·refine .inl ⟨ob,?_⟩;rw[i6 ?_]
  ·exact z
  ·intro e;subst e;exact hp _ _ z
 ·exact .inr z
theorem L3.upd{p a:Addr}{o:O}{u:HO}{cj:List Addr}(h:L3 K ρ H o a)(fR:o.mut=true->a≠p)(hp:∀ob u,H p≠some (.kq ob u))(e:Ext ρ H cj (L2.upd H p u)):L3 K cj (L2.upd H p u) o a:=by
 cases hm:o.mut with
 |true =>
  obtain⟨u',h1,h2⟩:=h.inv hm;exact .of (by rw[i6 (fR hm)];exact h1) (h2.ext e)
 |false =>
  cases o<;>first|cases hm|skip
  obtain⟨vs,z,r⟩:=h;exact⟨vs,z.upd hp,r.ext e⟩
theorem Rl.grow{o:HO}(R:Rl K ρ g H)(hp:H p=none):Rl K ρ g (upd H p o):=by
 have e:Ext ρ H ρ (upd H p o):=C0 hp;refine⟨R.len,λi ob a h1 h2=>?_,R.nd⟩;have q:=R.obj _ _ _ h1 h2;refine q.upd (λhm=>?_) (λob u z=>by simp_all) e;obtain⟨u,h1,_⟩:=q.inv hm;exact t8 h1 hp
theorem Rl.A8(R:Rl K ρ g H)(p:Addr):(ρ++[p])[g.length]?=some p:=by rw[<- R.len];simp
theorem F2{o:HO}(hp:H p=none):Ext ρ H (ρ++[p]) (upd H p o):=⟨⟨[p],rfl⟩,(C0 (ρ:=ρ) hp).tup⟩
theorem Rl.new(R:Rl K ρ g H)(hp:H p=none)(r:OH K ρ H o u):Rl K (ρ++[p]) (g++[o]) (upd H p u):=by
 have e:Ext ρ H (ρ++[p]) (upd H p u):=F2 hp;have old:∀{i:Nat} {ob:O} {a:Addr},g[i]?=some ob->(ρ++[p])[i]?=some a->ρ[i]?=some a:=λ{i ob a} h1 h2=>by
  rw[aK (by rw[R.len];exact(av.mp h1).1)] at h2;exact h2
 have split:∀{i:Nat} {ob:O},(g++[o])[i]?=some ob->g[i]?=some ob\/(i=g.length/\ob=o):=λ{i ob} h=>by
  rcases eM i g.length with q|q|q
  ·rw[aK q] at h;exact .inl h
  ·subst q;simp at h;exact .inr ⟨rfl,h.symm⟩
  ·rw[aO (by simp;omega)] at h;cases h
 refine⟨by simp[R.len],λi ob a h1 h2=>?_,λi j o1 o2 a h1 h2 m1 m2 h3 h4=>?_⟩
 ·rcases split h1 with q|⟨rfl,rfl⟩
  ·have z:=R.obj _ _ _ q (old q h2);refine z.upd (λhm=>?_) (λob u z=>by simp_all) e;obtain⟨u,h1,_⟩:=z.inv hm;exact t8 h1 hp
  ·rw[R.A8] at h2;cases h2;exact .of A1 (r.ext e)
 ·have nq:∀{i:Nat} {o:O} {a:Addr},g[i]?=some o->o.mut=true->ρ[i]?=some a->a≠p:=λ{i o a} h1 hm h2=>by
   obtain⟨u,z,_⟩:=(R.obj _ _ _ h1 h2).inv hm;exact t8 z hp
  rcases split h1 with q|⟨rfl,_⟩
  ·rcases split h2 with q'|⟨rfl,_⟩
   ·exact R.nd _ _ _ _ _ q q' m1 m2 (old q h3) (old q' h4)
   ·rw[R.A8] at h4;cases h4;exact absurd rfl (nq q m1 (old q h3))
  ·rcases split h2 with q'|⟨rfl,_⟩
   ·rw[R.A8] at h3;cases h3;exact absurd rfl (nq q' m2 (old q' h4))
   ·rfl
theorem Rl.alloc(R:Rl K ρ g H)(hp:H p=none)(r:c7 K ρ H l vs):Rl K (ρ++[p]) (g++[.lst l]) (upd H p (.lst vs)):=R.new hp r
theorem Rl.put{o':O}(R:Rl K ρ g H)(h:g[i]?=some o)(hm:o.mut=true)(ha:ρ[i]?=some a)(r:OH K ρ H o' u) :
  Rl K ρ (g.set i o') (upd H a u)/\Ext ρ H ρ (upd H a u):=by
 obtain⟨u0,z0,GG⟩:=(R.obj _ _ _ h ha).inv hm;have e:Ext ρ H ρ (upd H a u):=⟨⟨[],by simp⟩,λb xs q=>by rw[i6];exact q;intro z;subst z;rw[z0] at q;cases q;exact GG.uG⟩
 refine⟨⟨by simp[R.len],λj ob b h1 h2=>?_,λj k o1 o2 b h1 h2 m1 m2 h3 h4=>?_⟩,e⟩
 ·by_cases jF:i=j
  ·subst jF;rw[ha] at h2;cases h2;have hi:i<g.length:=(av.mp h).1;rw[bg hi] at h1;cases h1;exact .of A1 (r.ext e)
  ·rw[ax jF] at h1;refine(R.obj _ _ _ h1 h2).upd (λoC ez=>?_) (λob u z=>by rw[z0] at z;cases z;exact GG.YV) e;subst ez;exact jF (R.nd _ _ _ _ _ h h1 hm oC ha h2)
 ·have back:∀{j:Nat} {m:O},(g.set i o')[j]?=some m->m.mut=true->∃m',g[j]?=some m'/\m'.mut=true:=λ{j m} q oC=>by
   by_cases jF:i=j
   ·subst jF;exact⟨o,h,hm⟩
   ·rw[ax jF] at q;exact⟨m,q,oC⟩
  obtain⟨_,q1,n1⟩:=back h1 m1;obtain⟨_,q2,n2⟩:=back h2 m2;exact R.nd _ _ _ _ _ q1 q2 n1 n2 h3 h4
theorem Rl.write{l':List D}(R:Rl K ρ g H)(h:g[i]?=some (.lst l))(ha:ρ[i]?=some a)(r:c7 K ρ H l' vs) :
  Rl K ρ (g.set i (.lst l')) (upd H a (.lst vs))/\Ext ρ H ρ (upd H a (.lst vs)):=R.put h rfl ha r
end
structure w9(K:PySem.W.Frag)(ρ:List Addr)(H:Hp)(U:S)(cE:St):Prop where
 len:U.length=cE.length
 val:∀(i:Nat) d,U[i]?=some (some d)->∃v,cE[i]?=some (some v)/\d8 K ρ H d v
section
variable{ρ cj:List Addr}{H':Hp}
theorem w9.ext{U cE}(e:Ext ρ H cj H')(r:w9 K ρ H U cE):w9 K cj H' U cE:=⟨r.len,λi d h=>let ⟨v,a,b⟩:=r.val i d h;⟨v,a,b.ext e⟩⟩
theorem w9.set{U cE d v}(r:w9 K ρ H U cE)(i:Nat)(h:d8 K ρ H d v):w9 K ρ H (U.set i (some d)) (cE.set i (some v)):=by
 refine⟨by simp[r.len],λj e q=>?_⟩;by_cases jF:i=j
 ·subst jF;have hi:i<U.length:=by
   have:=(av.mp q).1
   simp_all
  rw[bg hi] at q;cases q;exact⟨v,by rw[bg (by rw[<- r.len];exact hi)],h⟩
 ·rw[ax jF] at q ⊢;exact r.val j e q
theorem w9.start{ds vs}{n:Nat}(r:c7 K ρ H ds vs):w9 K ρ H (ds.map some++List.replicate (n-ds.length) none) (vs.map some++List.replicate (n-vs.length) none):=by
 refine⟨by simp[r.length],λi d h=>?_⟩;by_cases hi:i<ds.length
 ·rw[aK (by simpa using hi),ai] at h;cases e:ds[i]? with
  |none=>rw[e] at h;cases h
  |some x =>
   rw[e] at h;cases h;obtain⟨v,h1,h2⟩:=r.get e;refine⟨v,?_,h2⟩;rw[aK (by rw[ak,<- r.length];exact hi),ai,h1]
   rfl
 ·rw[cG (by simpa using hi),dU] at h;split at h<;>cases h
theorem w9.d6{U cE}(r:w9 K ρ H U cE)(d6:List Nat)(n:Nat):w9 K ρ H (L1 U d6 n) (F0 cE d6 n):=by
 refine⟨by simp[L1,F0],λi d h=>?_⟩;unfold L1 at h;unfold F0;by_cases hi:i<d6.length
 ·rw[aK (by simpa using hi),ai,ag hi] at h;rw[aK (by simpa using hi),ai,ag hi];simp only[Option.map_some] at h ⊢;cases e:U[d6[i]]? with
  |none=>simp_all
  |some x =>
   rw[e] at h;have hx:x=some d:=aP h;subst hx;obtain⟨v,h1,h2⟩:=r.val _ _ e;exact⟨v,by rw[h1];rfl,h2⟩
 ·rw[cG (by simpa using hi),dU] at h;split at h<;>cases h
end
end M
namespace M
open PySem L2 PySem.Spec PyProof.Rows
variable{g:G}{l:List D}{vs:List V}{b:Bool}{d:D}{X:Cx}{ρ:List Addr}{H:Hp}{U:L2.St}{s:Shared}{v x:V}
def LQ(K:PySem.W.Frag)(ρ:List Addr)(H:Hp)(Q:VK):KD:=λd g'=>∀cj H' v,Ext ρ H cj H'->Rl K cj g' H'->d8 K cj H' d v->Q v H'
theorem LQ.ext{K ρ H cF H1 Q d g}(e:Ext ρ H cF H1)(h:LQ K ρ H Q d g):LQ K cF H1 Q d g:=λcj H' v e' R r=>h cj H' v (e.trans e') R r
theorem LQ.now{K ρ H Q d g v}(h:LQ K ρ H Q d g)(R:Rl K ρ g H)(r:d8 K ρ H d v):Q v H:=h ρ H v (.refl _ _) R r
theorem LQ.new{K ρ H Q}{p:Addr}(h:LQ K ρ H Q (.ref g.length) (g++[.lst l]))(R:Rl K ρ g H)(hp:H p=none)(r:c7 K ρ H l vs):Q (.ref p) (upd H p (.lst vs)) :=
 h (ρ++[p]) _ _ (F2 hp) (R.alloc hp r) (.ref (R.A8 p))
theorem LQ.tup{K ρ H Q}{g:G}{l:List D}{vs:List V}{p:Addr}(h:LQ K ρ H Q (.tup l) g)(R:Rl K ρ g H)(hp:H p=none)(r:c7 K ρ H l vs):Q (.ref p) (upd H p (.tup vs)) :=
 h ρ _ _ (C0 hp) (R.grow hp) (.tup (.inl A1) (r.ext (C0 hp)))
def r2(K:PySem.W.Frag)(p:Pr):R2:=λx y H Q=>∃d e g ρ,Rl K ρ g H/\d8 K ρ H d x/\d8 K ρ H e y/\cQ p [d,e] g (LQ K ρ H Q)
def r1(K:PySem.W.Frag)(p:Pr):V->Hp->VK->Prop:=λx H Q=>∃d g ρ,Rl K ρ g H/\d8 K ρ H d x/\cQ p [d] g (LQ K ρ H Q)
def rN(K:PySem.W.Frag)(p:Pr):List V->Hp->VK->Prop:=λxs H Q=>∃ds g ρ,Rl K ρ g H/\c7 K ρ H ds xs/\cQ p ds g (LQ K ρ H Q)
theorem U1{n:Nat}(h:n<=100000):n<=sizeLine:=aC h ∅
theorem Dz{n:Nat}(h:n<100000):n<sizeLine:=aB h ∅
theorem d8.o8{K ρ H i v}(h:d8 K ρ H (.int i) v):v=.int i:=by cases h;rfl
theorem d8.Fw{K ρ H i v}(h:d8 K ρ H (.str i) v):v=.str i:=by cases h;rfl
theorem d8.O3{K ρ H i v}(h:d8 K ρ H (.bl i) v):v=.bl i:=by cases h;rfl
theorem d8.Fq{K ρ H v}(h:d8 K ρ H .bD v):v=.bD:=by cases h;rfl
theorem d8.ZG{K ρ H n v}(h:d8 K ρ H (.ty n) v):v=.ty n:=by cases h;rfl
theorem d8.o6{K ρ H i v}(h:d8 K ρ H (.ref i) v):∃a,v=.ref a/\ρ[i]?=some a:=by cases h;exact⟨_,rfl,by assumption⟩
theorem d8.Fy{K ρ H l v}(h:d8 K ρ H (.tup l) v):∃a vs,v=.ref a/\TupAt K H a vs/\c7 K ρ H l vs:=by cases h;exact⟨_,_,rfl,by assumption,by assumption⟩
theorem c7.one{K ρ H d vs}(h:c7 K ρ H [d] vs):∃v,vs=[v]/\d8 K ρ H d v:=by
 cases h with
 |cons r rr=>cases rr;exact⟨_,rfl,r⟩
theorem c7.two{K ρ H d e vs}(h:c7 K ρ H [d,e] vs):∃v w,vs=[v,w]/\d8 K ρ H d v/\d8 K ρ H e w:=by
 cases h with
 |cons r rr=>obtain⟨w,rfl,q⟩:=rr.one;exact⟨_,_,rfl,r,q⟩
theorem P0{a b c:D}(h:[a,b]=[c,d]):a=c/\b=d:=by cases h;exact⟨rfl,rfl⟩
section
theorem bA2(op:Operator):gQ X (binaryOp op) (r2 X.K (.bin op)):=by
 intro pins s U H x y v u Q I rx ry h;obtain⟨d,e,g,ρ,R,rd,re,d',g',h,q⟩:=h;rcases h with⟨i,j,r,ex,ha,rfl,rfl⟩|⟨rfl,h⟩
 ·obtain⟨rfl,rfl⟩:=P0 ex;obtain rfl:=rd.o8;obtain rfl:=re.o8;have fin:=q.now R (.int r);cases op<;>first|exact(show False from ha).elim|skip
  ·cases ha;exact bA4 pins s U H _ _ v u Q I rx ry ⟨i,j,rfl,rfl,fin⟩
  ·cases ha;exact RQ pins s U H _ _ v u Q I rx ry ⟨i,j,rfl,rfl,fin⟩
  ·obtain⟨hc,rfl⟩:=ha;exact RN pins s U H _ _ v u Q I rx ry ⟨i,j,rfl,rfl,hc,fin⟩
  ·obtain⟨hc,rfl⟩:=ha;exact RL pins s U H _ _ v u Q I rx ry ⟨i,j,rfl,rfl,hc,fin⟩
  ·obtain⟨hc,rfl⟩:=ha;exact RO pins s U H _ _ v u Q I rx ry ⟨i,j,rfl,rfl,hc,fin⟩
  ·obtain⟨hc,rfl⟩:=ha;exact RP pins s U H _ _ v u Q I rx ry ⟨i,j,rfl,rfl,hc,fin⟩
  ·cases ha;exact Y' pins s U H _ _ v u Q I rx ry ⟨i,j,rfl,rfl,fin⟩
  ·cases ha;exact bA3 pins s U H _ _ v u Q I rx ry ⟨i,j,rfl,rfl,fin⟩
  ·obtain⟨hc,rfl⟩:=ha;exact Ur pins s U H _ _ v u Q I rx ry ⟨i,j,rfl,rfl,hc,fin⟩
 ·rcases h with⟨a,b,l,m,ex,ha,hb,hz,rfl,rfl⟩|z
  ·obtain⟨rfl,rfl⟩:=P0 ex;obtain⟨a',rfl,ra⟩:=rd.o6;obtain⟨b',rfl,rb⟩:=re.o6;obtain⟨vs,z1,rs⟩:=R.lst ha ra;obtain⟨ws,z2,rt⟩:=R.lst hb rb;exact bA1 pins s U H _ _ v u Q I rx ry ⟨_,_,vs,ws,rfl,rfl,z1,z2,by rw[<- rs.length,<- rt.length];exact U1 hz,λp hp=>q.new R hp (rs.append rt)⟩
  ·exact z.elim
theorem Za(op:UnaryOp):Av X (unaryOp op) (r1 X.K (.un op)):=by
 intro pins s U H x v Q I rx h;obtain⟨d,g,ρ,R,rd,d',g',⟨rfl,i,ex,rfl,rfl⟩,q⟩:=h;cases ex;obtain rfl:=rd.o8;exact Tr pins s U H _ v Q I rx ⟨_,rfl,q.now R (.int _)⟩
section
variable{pins:List (Addr×Obj)}
theorem Lg(I:Inv X pins U H s)(R:Rl X.K ρ g H)(n:Nat)(ih:∀{d:D} {v:V} {u:Value} {p:PyData},rd g n d=some p->d8 X.K ρ H d v->RelV v u->∃as,Reads s.heap u p as/\p.depth<=n):∀{vs:List V} {us:List Value} {ps:List PyData},l.mapM (rd g n)=some ps->c7 X.K ρ H l vs->Vals vs us->∃as,ReadsAll s.heap us ps as/\PyData.depthAll ps<=n:=by
 induction l with
 |nil =>
  intro vs us ps h rs rv;cases rs;cases rv;simp at h;subst h;exact⟨_,.nil,bW _⟩
 |cons d l il =>
  intro vs us ps h rs rv;cases rs with
  |cons jk rs =>
   cases rv with
   |cons ru rv =>
    rw[List.mapM_cons] at h;cases e:rd g n d with
    |none=>simp_all
    |some p =>
     rw[e] at h;cases e2:l.mapM (rd g n) with
     |none=>rw[e2] at h;cases h
     |some qs =>
      rw[e2] at h;cases h;obtain⟨as,q1,d1⟩:=ih e jk ru;obtain⟨bs,q2,d2⟩:=il e2 rs rv;refine⟨_,.cons q1 q2,?_⟩;simp only[PyData.depthAll];omega
theorem V1(I:Inv X pins U H s)(R:Rl X.K ρ g H)(n:Nat):∀{d:D} {v:V} {u:Value} {p:PyData},rd g n d=some p->d8 X.K ρ H d v->RelV v u->∃as,Reads s.heap u p as/\p.depth<=n:=by
 induction n with
 |zero =>
  intro d v u p h r ru;cases r with
  |bD=>simp only[rd] at h;cases h;cases ru;exact⟨_,.none,Nat.zero_le _⟩
  |bl b=>simp only[rd] at h;cases h;cases ru;exact⟨_,.bool b,Nat.zero_le _⟩
  |int i=>simp only[rd] at h;cases h;obtain⟨t,rfl⟩:=ru;exact⟨_,.int i t,Nat.zero_le _⟩
  |str x=>simp only[rd] at h;cases h;obtain⟨t,rfl⟩:=ru;exact⟨_,.str x t,Nat.zero_le _⟩
  |_=>simp only[rd] at h;cases h
 |succ n ih =>
  intro d v u p h r ru;cases r with
  |bD=>simp only[rd] at h;cases h;cases ru;exact⟨_,.none,Nat.zero_le _⟩
  |bl b=>simp only[rd] at h;cases h;cases ru;exact⟨_,.bool b,Nat.zero_le _⟩
  |int i=>simp only[rd] at h;cases h;obtain⟨t,rfl⟩:=ru;exact⟨_,.int i t,Nat.zero_le _⟩
  |str x=>simp only[rd] at h;cases h;obtain⟨t,rfl⟩:=ru;exact⟨_,.str x t,Nat.zero_le _⟩
  |ty x=>simp only[rd] at h;cases h
  |ref ha =>
   rename_i i a;simp only[rd] at h;cases e:d5 g i with
   |none=>simp_all
   |some l =>
    rw[e] at h;dsimp only at h;cases e2:l.mapM (rd g n) with
    |none=>simp_all
    |some ps =>
     rw[e2] at h;cases h;cases ru;obtain⟨vs,hq,rs⟩:=R.items e ha;obtain⟨bw,rv,p,hz⟩:=I.list hq;obtain⟨as,q,hd⟩:=Lg I R n ih e2 rs rv;obtain⟨o,ho,hc,k,rP⟩:=p.isList;refine⟨_,.list ho hc rP (by simpa using q),?_⟩;simp only[PyData.depth];omega
  |tup ht rs =>
   rename_i l a vs;simp only[rd] at h;cases e2:l.mapM (rd g n) with
   |none=>simp_all
   |some ps =>
    rw[e2] at h;cases h;cases ru;obtain⟨bw,rv,pt,hz⟩:=I.tuple ht.sq;obtain⟨as,q,hd⟩:=Lg I R n ih e2 rs rv;obtain⟨o,ho,hc,k,rP⟩:=id pt;refine⟨_,.tuple ho hc rP (by simpa using q),?_⟩;simp only[PyData.depth];omega
end
end
theorem xA{K ρ H}{c:Key}(h:pS d=some c)(r:d8 K ρ H d v):v=kV c:=by
 cases r<;>first|(cases h;rfl)|cases h
theorem sR.some{K ρ H}{o:Option V}{d:D}(h:sR K ρ H (some d) o):∃v,o=some v/\d8 K ρ H d v:=by
 cases o with
 |none=>exact h.elim
 |some v=>exact⟨v,rfl,h⟩
theorem sR.isSome{K ρ H}{o:Option V}{d:Option D}(h:sR K ρ H d o):d.isSome=o.isSome:=by
 cases o<;>cases d<;>first|rfl|exact h.elim
theorem Jd{pins:List (Addr×Obj)}{e:D}{y:V}{v u:Value}{Q:VK}(hu:X.A.units+100<cLine)(I:Inv X pins U H s)(rx:RelV x v)(ry:RelV y u)(R:Rl X.K ρ g H)(jk:d8 X.K ρ H d x)(re:d8 X.K ρ H e y)(h:wM g d e b)(neg:Bool)(q:Q (.bl (xor neg b)) H):wpAny (model X.prog X.w) X.A (compareOp (if neg then .NotEq else .Eq) v u) (EP X pins U Q) X.xe s:=by
 rcases h with⟨i,j,rfl,rfl,rfl⟩|⟨i,j,rfl,rfl,rfl⟩|⟨i,j,rfl,rfl,rfl⟩|⟨p,p',h1,h2,c1,c2,rfl⟩
 ·obtain rfl:=jk.o8;obtain rfl:=re.o8;cases neg
  ·exact EH pins s U H _ _ v u Q I rx ry ⟨rfl,by simp_all⟩
  ·exact EI pins s U H _ _ v u Q I rx ry ⟨rfl,by simp_all⟩
 ·obtain rfl:=jk.O3;obtain rfl:=re.O3;cases neg
  ·exact EH pins s U H _ _ v u Q I rx ry ⟨rfl,by rw[zk];simpa using q⟩
  ·exact EI pins s U H _ _ v u Q I rx ry ⟨rfl,by rw[zk];simpa using q⟩
 ·obtain rfl:=jk.Fw;obtain rfl:=re.Fw;cases neg
  ·exact EH pins s U H _ _ v u Q I rx ry ⟨rfl,by simp_all⟩
  ·exact EI pins s U H _ _ v u Q I rx ry ⟨rfl,by simp_all⟩
 ·obtain⟨as,q1,d1⟩:=V1 I R 6 h1 jk rx;obtain⟨bs,q2,d2⟩:=V1 I R 6 h2 re ry;have hr:X.A.units+min p.depth p'.depth<cLine:=by omega
  cases neg
  ·exact SeqAt.compareEq_reads q1 q2 c1 c2 hr ⟨.bl _,H,I,rfl,by simpa using q⟩
  ·exact SeqAt.compareNe_reads q1 q2 c1 c2 hr ⟨.bl _,H,I,rfl,by simpa using q⟩
theorem in_of{pins:List (Addr×Obj)}{e:D}{y:V}{v u:Value}{Q:VK}(hu:X.A.units+100<cLine)(I:Inv X pins U H s)(rx:RelV x v)(ry:RelV y u)(R:Rl X.K ρ g H)(jk:d8 X.K ρ H d x)(re:d8 X.K ρ H e y)(h:inR g d e b)(neg:Bool)(q:Q (.bl (xor neg b)) H):wpAny (model X.prog X.w) X.A (compareOp (if neg then .NotIn else .In) v u) (EP X pins U Q) X.xe s:=by
 rcases h with⟨a,kvs,c,rfl,ha,hc,rfl⟩|⟨l,ps,p,h0,h1,h2,c1,c2,rfl⟩
 ·obtain⟨a',rfl,ra⟩:=re.o6;obtain⟨vs,z,rs⟩:=R.da ha ra;have:=xA hc jk;subst this;cases ry;rw[(rs.val c).isSome] at q;cases neg
  ·exact WJ () I (S3.k z) rx λs' I'=>⟨.bl _,H,I',rfl,by simpa using q⟩
  ·exact TL () I (S3.k z) rx λs' I'=>⟨.bl _,H,I',rfl,by simpa using q⟩
 ·obtain⟨as,q1,d1⟩:=V1 I R 6 h2 jk rx;cases e with
  |tup m =>
   cases h0;have h3:rd g 7 (.tup l)=some (.tuple ps):=by simp only[rd];rw[show l.mapM (rd g 6)=some ps from h1];rfl
   obtain⟨bs,q2,d2⟩:=V1 I R 7 h3 re ry;have hr:X.A.units+1+min (PyData.depthAll ps) p.depth<cLine:=by omega
   cases neg
   ·exact SeqAt.in_tuple_reads q2 q1 c1 c2 hr ⟨.bl _,H,I,rfl,by simpa using q⟩
   ·exact SeqAt.notIn_tuple_reads q2 q1 c1 c2 hr ⟨.bl _,H,I,rfl,by simpa using q⟩
  |ref a =>
   have h3:rd g 7 (.ref a)=some (.list ps):=by
    simp only[rd];rw[show d5 g a=some l from h0];dsimp only;rw[show l.mapM (rd g 6)=some ps from h1]
    rfl
   obtain⟨bs,q2,d2⟩:=V1 I R 7 h3 re ry;have hr:X.A.units+1+min (PyData.depthAll ps) p.depth<cLine:=by omega
   cases neg
   ·exact SeqAt.in_list_reads q2 q1 c1 c2 hr ⟨.bl _,H,I,rfl,by simpa using q⟩
   ·exact SeqAt.notIn_list_reads q2 q1 c1 c2 hr ⟨.bl _,H,I,rfl,by simpa using q⟩
  |_=>cases h0
theorem uO(hu:X.A.units+100<cLine)(op:CmpOp):gQ X (compareOp op) (r2 X.K (.cmp op)):=by
 intro pins s U H x y v u Q I rx ry h;obtain⟨d,e,g,ρ,R,jk,re,d',g',⟨x',y',b,ex,h,rfl,rfl⟩,q⟩:=h;obtain⟨rfl,rfl⟩:=P0 ex;have fin:=q.now R (.bl b);have oY:∀{P:Int->Int->Bool},(∃i j,d=.int i/\e=.int j/\b=P i j)->∃i j,x=.int i/\y=.int j/\b=P i j:=λhh=>by
  obtain⟨i,j,z1,z2,z3⟩:=hh;exact⟨i,j,(z1▸jk).o8,(z2▸re).o8,z3⟩
 cases op
 ·exact Jd hu I rx ry R jk re h false (by simpa using fin)
 ·exact Jd hu I rx ry R jk re h true (by simpa using fin)
 ·obtain⟨i,j,e1,e2,e3⟩:=oY (P:=λi j=>decide (i<j)) h;exact YZ pins s U H _ _ v u Q I rx ry ⟨i,j,e1,e2,by subst e3;exact fin⟩
 ·obtain⟨i,j,e1,e2,e3⟩:=oY (P:=λi j=>decide (i<=j)) h;exact YY pins s U H _ _ v u Q I rx ry ⟨i,j,e1,e2,by subst e3;exact fin⟩
 ·obtain⟨i,j,e1,e2,e3⟩:=oY (P:=λi j=>decide (j<i)) h;exact YX pins s U H _ _ v u Q I rx ry ⟨i,j,e1,e2,by subst e3;exact fin⟩
 ·obtain⟨i,j,e1,e2,e3⟩:=oY (P:=λi j=>decide (j<=i)) h;exact YW pins s U H _ _ v u Q I rx ry ⟨i,j,e1,e2,by subst e3;exact fin⟩
 ·obtain⟨rfl,rfl⟩:=(show _/\_ from h)
  obtain rfl:=re.Fq;refine bA0 pins s U H _ _ v u Q I rx ry ⟨rfl,?_⟩;have e:Q8 d=decide (x=V.bD):=by cases jk<;>simp[Q8]
  rw[<- e];exact fin
 ·obtain⟨rfl,rfl⟩:=(show _/\_ from h)
  obtain rfl:=re.Fq;refine Us pins s U H _ _ v u Q I rx ry ⟨rfl,?_⟩;have e:Q8 d=decide (x=V.bD):=by cases jk<;>simp[Q8]
  rw[<- e];exact fin
 ·rcases h with h|⟨a,S,n,i,rfl,ha,rfl,rfl⟩
  ·exact in_of hu I rx ry R jk re h false (by simpa using fin)
  ·obtain⟨a',rfl,ra⟩:=re.o6;obtain rfl:=jk.o8;exact a16 pins s U H _ _ v u Q I rx ry ⟨i,a',S,n,rfl,rfl,R.set ha ra,fin⟩
 ·rcases h with h|⟨a,S,n,i,rfl,ha,rfl,hb⟩
  ·exact in_of hu I rx ry R jk re h true (by simpa using fin)
  ·obtain⟨a',rfl,ra⟩:=re.o6;obtain rfl:=jk.o8;exact aF4 pins s U H _ _ v u Q I rx ry ⟨i,a',S,n,rfl,rfl,R.set ha ra,by rw[<- hb,Bool.not_not];exact fin⟩
theorem To{K:PySem.W.Frag}(R:Rl K ρ g H)(r:d8 K ρ H d x)(h:IM g d b):Df K x H b:=by
 rcases h with z|rfl|⟨i,rfl,rfl⟩|z
 ·exact z.elim
 ·obtain rfl:=r.O3;rfl
 ·obtain rfl:=r.o8;rfl
 ·exact z.elim
theorem TC{K ρ H}{i:Int}(r:c7 K ρ H l vs)(h:gG l i=some d):∃v,gG vs i=some v/\d8 K ρ H d v:=by
 unfold gG at h ⊢;rw[<- r.length];cases e:lN l.length i with
 |none=>simp_all
 |some j =>
  rw[e] at h;exact r.get h
theorem xu{K ρ H}{x:D}(R:Rl K ρ g H)(r:d8 K ρ H x v)(h:K0 g x=some l):∃a vs,v=.ref a/\c7 K ρ H l vs/\((∃i,x=.ref i/\ρ[i]?=some a)/\gn K H a vs\/x=.tup l/\TupAt K H a vs):=by
 cases r with
 |tup ht rs=>cases h;exact⟨_,_,rfl,rs,.inr ⟨rfl,ht⟩⟩
 |ref ha=>obtain⟨vs,hq,rs⟩:=R.items h ha;exact⟨_,_,rfl,rs,.inl ⟨⟨_,rfl,ha⟩,hq⟩⟩
 |_=>cases h
theorem YC(hu:X.A.units+100<cLine):uP X (r2 X.K .ix):=by
 intro value slice pins s U H x y v u Q I rx ry h hs;obtain⟨d,e,g,ρ,R,jk,re,d',g',⟨rfl,h⟩,q⟩:=h;rcases h with⟨x',l,i,ex,hl,ha⟩|⟨a,kvs,y',c,ex,ha,hc,hv⟩|z
 ·obtain⟨rfl,rfl⟩:=P0 ex;obtain rfl:=re.o8;obtain⟨a,vs,rfl,rs,h⟩:=xu R jk hl;obtain⟨w,hw,gH⟩:=TC rs ha;rcases h with⟨_,hq⟩|⟨_,ht⟩
  ·exact Ub value slice pins s U H _ _ v u Q I rx ry ⟨_,_,i,w,rfl,rfl,hq,hw,q.now R gH⟩ hs
  ·exact bC7 value slice pins s U H _ _ v u Q I rx ry ⟨_,_,i,w,rfl,rfl,ht.sq,hw,q.now R gH⟩ hs
 ·obtain⟨rfl,rfl⟩:=P0 ex;obtain⟨a',rfl,ra⟩:=jk.o6;obtain⟨vs,z,rs⟩:=R.da ha ra;have:=xA hc re;subst this;have q2:=rs.val c;rw[hv] at q2;obtain⟨w,hw,gH⟩:=q2.some;exact Ua () value slice pins s U H _ _ v u Q I rx ry ⟨_,w,rfl,by have:=S3.k (k:=c) z;rw[hw] at this;exact this,q.now R gH⟩ hs
 ·exact z.elim
def OA(K:PySem.W.Frag):V->Option Int->Option Int->Hp->VK->Prop:=λx lo hi H Q=>∃d g ρ d' g',Rl K ρ g H/\d8 K ρ H d x/\vg d lo hi g d' g'/\LQ K ρ H Q d' g'
theorem Zp:FN X (OA X.K):=by
 intro pins s U H x v vl vu lo hi sl Q I rx hs pl pu h;obtain⟨d,g,ρ,d',g',R,jk,h,q⟩:=h;rcases h with z|⟨a,l,rfl,hl,rfl,rfl⟩
 ·exact z.elim
 ·obtain⟨a',rfl,ha⟩:=jk.o6;obtain⟨vs,hq,rs⟩:=R.items hl ha;exact Vn pins s U H _ v vl vu lo hi sl Q I rx hs pl pu ⟨_,_,rfl,hq,λp hp=>q.new R hp (rs.cut lo hi)⟩
def Xm(K:PySem.W.Frag):V->V->V->Hp->(Hp->Prop)->Prop:=λo i v H Q=>∃CP di dv g ρ,Rl K ρ g H/\d8 K ρ H CP o/\d8 K ρ H di i/\d8 K ρ H dv v/\Y1 CP di dv g (λg'=>∀cj H',Ext ρ H cj H'->Rl K cj g' H'->Q H')
theorem SM(hu:X.A.units+100<cLine):Dd X (Xm X.K):=by
 intro pins s U H o i v ov iv u Q I ro ri rv h;obtain⟨CP,di,dv,g,ρ,R,r1,r2,r3,g',h,q⟩:=h;rcases h with⟨a,i',l,j,rfl,rfl,hl,hj,rfl⟩|⟨a,kvs,c,rfl,ha,hc,hz,rfl⟩
 ·obtain⟨a',rfl,ha⟩:=r1.o6;obtain rfl:=r2.o8;obtain⟨vs,z,rs⟩:=R.lst hl ha;obtain⟨R',e'⟩:=R.write hl ha (rs.set r3 j);exact set_list pins s U H _ _ _ ov iv u Q I ro ri rv ⟨_,vs,_,j,rfl,rfl,z,by rw[<- rs.length];exact hj,q ρ _ e' R'⟩
 ·obtain⟨a',rfl,ra⟩:=r1.o6;obtain⟨vs,z,rs⟩:=R.da ha ra;have:=xA hc r2;subst this;obtain⟨R',e'⟩:=R.put (o':=.da (putD kvs c dv)) (u:=.dK (putK vs c v)) ha rfl ra (rs.put r3);cases ro;exact a41 () I (zT.k z (by rw[<- rs.length];exact Dz hz)) ri rv λs' I'=>⟨_,I',q ρ _ e' R'⟩
theorem bC0:p9 X (.builtin "len") (rN X.K .len):=by
 intro pins s U H xs us Q I r h;obtain⟨ds,g,ρ,R,rs,d',g',⟨rfl,h⟩,q⟩:=h;rcases h with⟨x,l,rfl,hl,rfl⟩|z|z
 ·obtain⟨v,rfl,rv⟩:=rs.one;obtain⟨a,vs,rfl,rl,h⟩:=xu R rv hl;refine aJ1 pins s U H _ us Q I r ⟨_,_,rfl,?_,by rw[<- rl.length];exact q.now R (.int _)⟩;exact h.imp (λz=>z.2) (λz=>z.2.sq)
 ·exact z.elim
 ·exact z.elim
theorem DJ{K ρ H}:∀(ks:List Key),c7 K ρ H (ks.map kD) (ks.map kV)
 |[]=>.nil
 |.inl _::r=>.cons (.int _) (DJ r)
 |.inr _::r=>.cons (.str _) (DJ r)
theorem i8.keys{α:Type}{K ρ H}{ds:List (α×D)}{vs:List (α×V)}(h:i8 K ρ H ds vs):ds.map (·.1)=vs.map (·.1):=by
 induction h with
 |nil=>rfl
 |cons _ _ ih=>simp_all
theorem Ug(hc:X.calm=true):p9 X (.type "list") (rN X.K .list):=by
 intro pins s U H xs us Q I r h;obtain⟨ds,g,ρ,R,rs,d',g',⟨x,l,rfl,hl,rfl,rfl⟩|⟨a,kvs,rfl,ha,hn,rfl,rfl⟩,q⟩:=h
 rotate_left
 ·obtain⟨v,rfl,rv⟩:=rs.one;obtain⟨a',rfl,ra⟩:=rv.o6;obtain⟨vs,z,rk⟩:=R.da ha ra;exact au9 hc pins s U H _ us Q I r ⟨_,vs,rfl,z,by rw[<- rk.length];exact hn,λp hp=>q (ρ++[p]) _ _ (F2 hp) (R.new hp (o:=.lst ((kvs.map (·.1)).map kD)) (u:=.lst ((vs.map (·.1)).map kV)) (by rw[rk.keys];exact DJ _)) (.ref (R.A8 p))⟩
 obtain⟨v,rfl,rv⟩:=rs.one;obtain⟨a,vs,rfl,rl,h⟩:=xu R rv hl;exact aJ0 pins s U H _ us Q I r ⟨_,_,rfl,h.imp (λz=>z.2) (λz=>z.2.sq),λp hp=>q.new R hp rl⟩
theorem a65:p9 X (.type "tuple") (rN X.K .tuple):=by
 intro pins s U H xs us Q I r h;obtain⟨ds,g,ρ,R,rs,d',g',⟨x,l,rfl,hl,rfl,rfl⟩,q⟩:=h;obtain⟨v,rfl,rv⟩:=rs.one;obtain⟨a,vs,rfl,rl,h⟩:=xu R rv hl;refine az4 pins s U H _ us Q I r ⟨a,vs,rfl,?_⟩;exact h.imp (λz=>⟨z.2,λp hp=>q.tup R hp rl⟩) (λz=>⟨z.2.sq,q.now R (.tup z.2 rl)⟩)
theorem TZ:p9 X (.builtin "isinstance") (rN X.K .isin):=by
 intro pins s U H xs us Q I r h;obtain⟨ds,g,ρ,R,rs,d',g',⟨x,c,b,rfl,hc,hb,rfl,rfl⟩,q⟩:=h;obtain⟨v,w,rfl,r1,r2⟩:=rs.two;obtain rfl:=r2.ZG;have fin:=q.now R (.bl b);have go:∀(t:Value) (v:V),iH X.K H v t->PySem.W.kitOne X.K t (.type c)=some b->Vals [v,V.ty c] us->wpAny (model X.prog X.w) X.A (call (.builtin "isinstance") us) (EP X pins U Q) X.xe s :=
  λt v ht hk r=>aL9 pins s U H _ us Q I r ⟨v,t,c,b,rfl,ht,hk,fin⟩
 simp only[List.mem_cons,List.mem_nil_iff,or_false] at hc;cases r1 with
 |bD=>refine go _ _ .bD ?_ r;cases hb;rcases hc with rfl|rfl|rfl|rfl|rfl<;>rfl
 |bl y=>refine go _ _ (.bl y) ?_ r;cases hb;rcases hc with rfl|rfl|rfl|rfl|rfl<;>rfl
 |int y=>refine go _ _ (.int y) ?_ r;cases hb;rcases hc with rfl|rfl|rfl|rfl|rfl<;>rfl
 |str y=>refine go _ _ (.str y) ?_ r;cases hb;rcases hc with rfl|rfl|rfl|rfl|rfl<;>rfl
 |ty _=>cases hb
 |tup ht rs =>
  cases hb;rcases ht with ht|ht
  ·refine go _ _ (.tup ht) ?_ r;rcases hc with rfl|rfl|rfl|rfl|rfl<;>rfl
  ·obtain⟨o,bw,n,lk,kE,_⟩:=ht;obtain⟨u,w',rfl,ru,gH⟩:=vals2 r;cases (show w'=Value.type c from gH);cases ru;have hk:PySem.W.kitOne X.K (.type "tuple") (.type c)=some (c=="tuple"):=by rcases hc with rfl|rfl|rfl|rfl|rfl<;>rfl
   exact cb NR I.iG ⟨o,I.iG _ _ lk,kE⟩ hk (λz=>nomatch z) λtk=>⟨.bl _,H,I.tok tk,rfl,fin⟩
 |@ref i a ha =>
  have wu:∃m,g'[i]?=some (.lst m)/\b=(c=="list"):=by
   simp only[sO] at hb;split at hb
   ·exact⟨_,by assumption,(aP hb).symm⟩
   ·cases hb
  obtain⟨m,e,rfl⟩:=wu;obtain⟨vs,z,_⟩:=R.lst e ha;refine go _ _ (.lst z) ?_ r;rcases hc with rfl|rfl|rfl|rfl|rfl<;>rfl
theorem aW8:∀{l:List D} {b:Bool},Y0 l=some b->∃bs:List Bool,l=bs.map D.bl/\b=bs.all id:=by
 intro l
 induction l with
 |nil=>intro b h;cases h;exact⟨[],rfl,rfl⟩
 |cons d r ih =>
  intro b h;cases d<;>first|(cases h;done)|skip
  rename_i c;simp only[Y0] at h;cases e:Y0 r with
  |none=>simp_all
  |some b' =>
   rw[e] at h;cases h;obtain⟨bs,rfl,rfl⟩:=ih e;exact⟨c::bs,rfl,by simp⟩
theorem c7.UT{K ρ H}:∀{bs:List Bool} {vs:List V},c7 K ρ H (bs.map D.bl) vs->vs=bs.map V.bl:=by
 intro bs
 induction bs with
 |nil=>intro vs h;cases h;rfl
 |cons b r ih =>
  intro vs h;cases h with
  |cons h rr=>rw[ih rr,h.O3];rfl
theorem ZQ(hc:X.calm=true):p9 X (.builtin "all") (rN X.K .all):=by
 intro pins s U H xs us Q I r h;obtain⟨ds,g,ρ,R,rs,d',g',⟨a,l,b,rfl,hl,hb,rfl,rfl⟩,q⟩:=h;obtain⟨v,rfl,rv⟩:=rs.one;obtain⟨a',rfl,ra⟩:=rv.o6;obtain⟨vs,hq,rs⟩:=R.items hl ra;rcases hb with hb|⟨ns,rfl,rfl⟩
 rotate_left
 ·have:=rs.ints;subst this;exact a50 hc pins s U H _ us Q I r ⟨_,ns,rfl,hq,q.now R (.bl _)⟩
 obtain⟨bs,rfl,rfl⟩:=aW8 hb;have:=rs.UT;subst this;exact a51 hc pins s U H _ us Q I r ⟨_,bs,rfl,hq,q.now R (.bl _)⟩
theorem MN{K ρ H}:∀(ns:List Int),c7 K ρ H (ns.map D.int) (ns.map V.int)
 |[]=>.nil
 |_::r=>.cons (.int _) (MN r)
theorem a73(hc:X.calm=true):p9 X (.builtin "sorted") (rN X.K .kM):=by
 intro pins s U H xs us Q I r h;obtain⟨ds,g,ρ,R,rs,d',g',z|⟨x,ns,rfl,hx,hn,rfl,rfl⟩,q⟩:=h
 rotate_left
 ·obtain⟨v,rfl,rv⟩:=rs.one;obtain⟨a,vs,rfl,rl,h⟩:=xu R rv hx;have:=rl.ints;subst this;exact au8 pins s U H _ us Q I r ⟨_,ns,rfl,h.imp (λz=>z.2) (λz=>z.2.sq),hn,λp hp=>q (ρ++[p]) _ _ (F2 hp) (R.new hp (o:=.lst ((L9 ns).map .int)) (u:=.lst ((L9 ns).map V.int)) (MN _)) (.ref (R.A8 p))⟩
 exact z.elim
theorem bB1(hc:X.calm=true):p9 X (.builtin "max") (rN X.K .max):=by
 intro pins s U H xs us Q I r h;obtain⟨ds,g,ρ,R,rs,d',g',⟨rfl,⟨i,j,rfl,rfl⟩|⟨a,ns,M,rfl,hl,h1,h2,rfl⟩⟩,q⟩:=h
 rotate_left
 ·obtain⟨v,rfl,rv⟩:=rs.one;obtain⟨a',rfl,ra⟩:=rv.o6;obtain⟨vs,hq,rs⟩:=R.items hl ra;have:=rs.ints;subst this;exact a48 hc pins s U H _ us Q I r ⟨_,ns,M,rfl,hq,h1,h2,q.now R (.int _)⟩
 obtain⟨v,w,rfl,r1,r2⟩:=rs.two;obtain rfl:=r1.o8;obtain rfl:=r2.o8;exact a49 hc pins s U H _ us Q I r ⟨i,j,rfl,q.now R (.int _)⟩
theorem bA9(hc:X.calm=true)(hu:X.A.units+100<cLine):p9 X (.builtin "min") (rN X.K .min):=by
 intro pins s U H xs us Q I r h;obtain⟨ds,g,ρ,R,rs,d',g',⟨rfl,⟨i,j,rfl,rfl⟩|z⟩,q⟩:=h
 rotate_left
 ·exact z.elim
 obtain⟨v,w,rfl,r1,r2⟩:=rs.two;obtain rfl:=r1.o8;obtain rfl:=r2.o8;exact a47 hc pins s U H _ us Q I r ⟨i,j,rfl,q.now R (.int _)⟩
theorem Ta(hc:X.calm=true):p9 X (.builtin "sum") (rN X.K .sum):=by
 intro pins s U H xs us Q I r h;obtain⟨ds,g,ρ,R,rs,d',g',h,q⟩:=h;obtain⟨a,ns,rfl,hl,rfl,rfl⟩:=h;obtain⟨v,rfl,rv⟩:=rs.one;obtain⟨a',rfl,ra⟩:=rv.o6;obtain⟨vs,hq,rs⟩:=R.items hl ra;have:=rs.ints;subst this;exact a46 hc pins s U H _ us Q I r ⟨_,ns,rfl,hq,q.now R (.int _)⟩
theorem bD0:p9 X (.type "int") (rN X.K .int):=by
 intro pins s U H xs us Q I r h;obtain⟨ds,g,ρ,R,rs,d',g',⟨rfl,h⟩,q⟩:=h;rcases h with⟨i,rfl,rfl⟩|⟨b,rfl,rfl⟩
 ·obtain⟨v,rfl,rv⟩:=rs.one;obtain rfl:=rv.o8;exact JQ pins s U H _ us Q I r (.inl ⟨i,rfl,q.now R (.int _)⟩)
 ·obtain⟨v,rfl,rv⟩:=rs.one;obtain rfl:=rv.O3;exact JQ pins s U H _ us Q I r (.inr ⟨b,rfl,q.now R (.int _)⟩)
def rM(K:PySem.W.Frag)(p:Pr):V->List V->Hp->VK->Prop:=λx xs H Q=>∃d ds g ρ,Rl K ρ g H/\d8 K ρ H d x/\c7 K ρ H ds xs/\cQ p (d::ds) g (LQ K ρ H Q)
theorem Q2{a b:D}{m:List D}(h:a::l=b::m):a=b/\l=m:=by cases h;exact⟨rfl,rfl⟩
theorem a56:mP X "list.append" (rM X.K .append):=by
 intro pins s U H x xs v us Q I rx r h;obtain⟨d,ds,g,ρ,R,rd,rs,d',g',⟨a,y,l,ex,ha,hz,rfl,rfl⟩,q⟩:=h;obtain⟨rfl,rfl⟩:=Q2 ex;obtain⟨a',rfl,ra⟩:=rd.o6;obtain⟨w,rfl,gH⟩:=rs.one;obtain⟨vs,z1,rv⟩:=R.lst ha ra;obtain⟨R2,e2⟩:=R.write ha ra (rv.append (.cons gH .nil));exact a20 pins s U H _ _ v us Q I rx r ⟨_,vs,_,rfl,rfl,z1,by rw[<- rv.length];exact Dz hz,q ρ _ _ e2 R2 .bD⟩
theorem VH:mP X "list.clear" (rM X.K .clear):=by
 intro pins s U H x xs v us Q I rx r h;obtain⟨d,ds,g,ρ,R,rd,rs,d',g',⟨a,l,ex,ha,rfl,rfl⟩,q⟩:=h;obtain⟨rfl,rfl⟩:=Q2 ex;obtain⟨a',rfl,ra⟩:=rd.o6;cases rs;obtain⟨vs,z1,rv⟩:=R.lst ha ra;obtain⟨R2,e2⟩:=R.write ha ra (c7.nil);exact Wh pins s U H _ _ v us Q I rx r ⟨_,vs,rfl,rfl,z1,q ρ _ _ e2 R2 .bD⟩
theorem UI:mP X "list.pop" (rM X.K .rq):=by
 intro pins s U H x xs v us Q I rx r h;obtain⟨d,ds,g,ρ,R,rd,rs,y,g',⟨a,l,ex,ha,rfl⟩,q⟩:=h;obtain⟨rfl,rfl⟩:=Q2 ex;obtain⟨a',rfl,ra⟩:=rd.o6;cases rs;obtain⟨vs,z1,rv⟩:=R.lst ha ra;obtain⟨w,hw,gH⟩:=rv.get (i:=l.length) (d:=y) (by simp);have hl:vs.length=l.length+1:=by rw[<- rv.length];simp
 have rl:c7 X.K ρ H l vs.dropLast:=by
  have:=rv.erase l.length;rw[List.eraseIdx_append_of_length_le (aw _)] at this;rw[show vs.eraseIdx l.length=vs.dropLast by rw[List.eraseIdx_eq_dropLast];omega] at this;simpa using this
 obtain⟨R2,e2⟩:=R.write ha ra rl;exact bA7 pins s U H _ _ v us Q I rx r ⟨_,vs,w,rfl,rfl,z1,by rw[hl];exact hw,q ρ _ _ e2 R2 (gH.ext e2)⟩
theorem Ud(hc:X.calm=true):p9 X (.type "set") (rN X.K .rB):=by
 intro pins s U H xs us Q I r h;obtain⟨ds,g,ρ,R,rs,d',g',⟨a,ns,rfl,ha,hz,rfl,rfl⟩,q⟩:=h;obtain⟨v,rfl,rv⟩:=rs.one;obtain⟨a',rfl,ra⟩:=rv.o6;obtain⟨vs,z1,rk⟩:=R.items ha ra;obtain rfl:=rk.ints;refine az5 hc pins s U H _ us Q I r ⟨a',ns,rfl,z1,hz,λp hp=>?_⟩;exact q (ρ++[p]) _ _ (F2 hp) (R.new hp (o:=.set (λk=>decide (k∈ns)) (ST.i0 [] ns).length) (u:=.set (λk=>decide (k∈ns)) (ST.i0 [] ns).length) ⟨rfl,rfl⟩) (.ref (R.A8 p))
theorem i8.Jy{K ρ H}:∀ks:List Int,i8 K ρ H (ks.map λk=>((.inl k:Key),D.bl true)) (ks.map λk=>((.inl k:Key),V.bl true))
 |[]=>.nil
 |_::ks=>.cons (.bl true) (i8.Jy ks)
theorem Ke{K ρ H}:∀{ks:List Int} {vs:List V},c7 K ρ H (ks.map λk=>.tup [.int k,.bl true]) vs->∃ts:List Addr,vs=ts.map V.ref/\ts.length=ks.length/\∀(i:Nat) t k,ts[i]?=some t->ks[i]?=some k->kx K H t [.int k,.bl true]
 |[],_,h=>by cases h;simp
 |k::ks,_,h=>by
  cases h with
  |cons r rs =>
  obtain⟨ts,rfl,hl,ht⟩:=Ke rs;obtain⟨a,vs,rfl,h1,h2⟩:=r.Fy;refine⟨a::ts,rfl,by simp[hl],λi t k' e1 e2=>?_⟩;cases i with
  |zero =>
   cases e1;cases e2;cases h2 with
   |cons r1 r2 =>
   cases r2 with
   |cons r2 r3 =>
   cases r3;cases r1;cases r2;exact h1.sq
  |succ i=>exact ht i t k' e1 e2
theorem VN(hc:X.calm=true):p9 X (.type "dict") (rN X.K .kZ):=by
 intro pins s U H xs us Q I r h;obtain⟨ds,g,ρ,R,rs,d',g',z|⟨a,ks,rfl,ha,hz,nd,rfl,rfl⟩,q⟩:=h
 ·exact z.elim
 ·obtain⟨v,rfl,rv⟩:=rs.one;obtain⟨a',rfl,ra⟩:=rv.o6;obtain⟨vs,z1,rk⟩:=R.items ha ra;obtain⟨ts,rfl,hl,ht⟩:=Ke rk;refine ar6 hc pins s U H _ us Q I r ⟨a',ts,ks,rfl,z1,hl,ht,by omega,nd,λp hp=>?_⟩;exact q (ρ++[p]) _ _ (F2 hp) (R.new hp (o:=.da (ks.map λk=>(.inl k,.bl true))) (u:=.dK (ks.map λk=>(.inl k,.bl true))) (i8.Jy ks)) (.ref (R.A8 p))
theorem ZY(hu:X.A.units+100<cLine):mP X "dict.get" (rM X.K .get):=by
 intro pins s U H x xs v us Q I rx r h;obtain⟨d,ds,g,ρ,R,rd,rs,d',g',⟨a,y,z,kvs,c,ex,ha,hc,rfl,rfl⟩,q⟩:=h;obtain⟨rfl,rfl⟩:=Q2 ex;obtain⟨a',rfl,ra⟩:=rd.o6;obtain⟨w1,w2,rfl,r1,r2⟩:=rs.two;obtain⟨vs,z1,rv⟩:=R.da ha ra;have:=xA hc r1;subst this;obtain⟨u1,u2,rfl,p1,p2⟩:=vals2 r;cases rx;refine ZU () I (S3.k z1) p1 p2 λw' s4 I4 gH=>⟨_,H,I4,gH,q.now R ?_⟩
 have q:=rv.val c;cases e1:u7 kvs c with
 |none =>
  rw[e1] at q;cases e2:N6 vs c with
  |none=>exact r2
  |some w=>rw[e2] at q;exact q.elim
 |some d' =>
  rw[e1] at q;obtain⟨w,hw,q⟩:=q.some
  simp_all
theorem a98:mP X "list.pop" (rM X.K .pop):=by
 intro pins s U H x xs v us Q I rx r h;obtain⟨d,ds,g,ρ,R,rd,rs,y,g',⟨a,i,l,k,ex,ha,h1,h2,hk,hy,rfl⟩,q⟩:=h;obtain⟨rfl,rfl⟩:=Q2 ex;obtain⟨a',rfl,ra⟩:=rd.o6;obtain⟨w,rfl,gH⟩:=rs.one;obtain rfl:=gH.o8;obtain⟨vs,z1,rv⟩:=R.lst ha ra;obtain⟨w,hw,gH⟩:=rv.get hy;obtain⟨R2,e2⟩:=R.write ha ra (rv.erase k);exact Wi pins s U H _ _ v us Q I rx r ⟨_,vs,i,k,w,rfl,rfl,z1,h1,h2,by rw[<- rv.length];exact hk,hw,q ρ _ _ e2 R2 (gH.ext e2)⟩
theorem ty_list(R:Rl X.K ρ g H)(r:d8 X.K ρ H d v)(h:∃a l,d=.ref a/\d5 g a=some l):ow X.K "list" v H:=by
 obtain⟨a,l,rfl,hl⟩:=h;obtain⟨a',rfl,ra⟩:=r.o6;obtain⟨vs,hq,_⟩:=R.items hl ra;exact .inl ⟨rfl,vs,hq⟩
theorem UZ:mP X "set.add" (rM X.K .kP):=by
 intro pins s U H x xs v us Q I rx r h;obtain⟨d,ds,g,ρ,R,rd,rs,d',g',⟨a,i,S,n,ex,ha,hn,rfl,rfl⟩,q⟩:=h;obtain⟨rfl,rfl⟩:=Q2 ex;obtain⟨a',rfl,ra⟩:=rd.o6;obtain⟨w,rfl,gH⟩:=rs.one;obtain rfl:=gH.o8;obtain⟨R2,e2⟩:=R.put (o':=.set (λk=>S k||decide (k=i)) (if S i then n else n+1)) (u:=.set (λk=>S k||decide (k=i)) (if S i then n else n+1)) ha rfl ra ⟨rfl,rfl⟩;exact aT3 pins s U H _ _ v us Q I rx r ⟨_,i,S,n,rfl,rfl,R.set ha ra,hn,q ρ _ _ e2 R2 .bD⟩
theorem ty_set(R:Rl X.K ρ g H)(r:d8 X.K ρ H d v)(h:mF .kP d g):ow X.K "set" v H:=by
 obtain⟨a,S,n,rfl,hl⟩:=h;obtain⟨a',rfl,ra⟩:=r.o6;exact .inr (.inr (.inr ⟨rfl,S,n,R.set hl ra⟩))
theorem ty_dict(R:Rl X.K ρ g H)(r:d8 X.K ρ H d v)(h:mF .get d g):ow X.K "dict" v H:=by
 obtain⟨a,l,rfl,hl⟩:=h;obtain⟨a',rfl,ra⟩:=r.o6;obtain⟨vs,hq,_⟩:=R.da hl ra;exact .inr (.inr (.inl ⟨rfl,.inl ⟨vs,hq⟩⟩))
noncomputable abbrev iQ:=List Str×XK
def LX(K:PySem.W.Frag)(ρ:List Addr)(H:Hp)(Ξ:iQ):KX:=λx g'=>∀cj H' C,Ext ρ H cj H'->Rl K cj g' H'->x.cls∈Ξ.1->y9 K x.cls C->Ξ.2 (.ref C) none H'
theorem LX.ext{K:PySem.W.Frag}{cF:List Addr}{H1:Hp}{Ξ:iQ}(e:Ext ρ H cF H1){x:Xn}(h:LX K ρ H Ξ x g):LX K cF H1 Ξ x g:=λcj H' C e' R hm c=>h cj H' C (e.trans e') R hm c
noncomputable abbrev oN(ex:List Str):iQ:=(ex,λ_ _ _=>False)
def LE(K:PySem.W.Frag)(Ξ:iQ)(t:S->G->KD->KX->Prop):TE:=λcE H Q=>∃U g ρ,w9 K ρ H U cE/\Rl K ρ g H/\t U g (LQ K ρ H Q) (LX K ρ H Ξ)
def LT(K:PySem.W.Frag)(Ξ:iQ)(t:S->G->(Bool->G->Prop)->KX->Prop):TT:=λcE H Q=>∃U g ρ,w9 K ρ H U cE/\Rl K ρ g H/\t U g (λb g'=>∀cj H',Ext ρ H cj H'->Rl K cj g' H'->Q b H') (LX K ρ H Ξ)
def LA(K:PySem.W.Frag)(Ξ:iQ)(t:S->G->(List D->G->Prop)->KX->Prop):TA:=λcE H Q=>∃U g ρ,w9 K ρ H U cE/\Rl K ρ g H/\t U g (λds g'=>∀cj H' vs,Ext ρ H cj H'->Rl K cj g' H'->c7 K cj H' ds vs->Q vs H') (LX K ρ H Ξ)
def Z2(K:PySem.W.Frag)(hU:List Addr)(H0:Hp)(k:IK)(J:It):Prop:=∀ρ g H,Ext hU H0 ρ H->Rl K ρ g H->∀i,(k.at i g=some none->J.stop i H) /\
 ∀d,k.at i g=some (some d)->J.go i H/\∀v H',J.qf i H v H'->Ext ρ H ρ H'/\Rl K ρ g H'/\d8 K ρ H' d v
def LI(K:PySem.W.Frag)(Ξ:iQ)(t:S->G->(IK->G->Prop)->KX->Prop):TI:=λcE H R=>∃U g ρ,w9 K ρ H U cE/\Rl K ρ g H/\t U g (λk g'=>∀cj H' J,Ext ρ H cj H'->Rl K cj g' H'->Z2 K cj H' k J->R J H') (LX K ρ H Ξ)
def LG(K:PySem.W.Frag)(t:MT):TG:=λv cE H Q=>∃d U g ρ,w9 K ρ H U cE/\Rl K ρ g H/\d8 K ρ H d v/\ki t d U (λcw=>∀dF,w9 K ρ H cw dF->Q dF H)
def LN(K:PySem.W.Frag)(ρ:List Addr)(H:Hp)(N:L2.Ends):Ends where
 nx:=λcw g'=>∀cj H' dF,Ext ρ H cj H'->Rl K cj g' H'->w9 K cj H' cw dF->N.nx dF H'
 rt:=LQ K ρ H N.rt
 bk:=λcw g'=>∀cj H' dF,Ext ρ H cj H'->Rl K cj g' H'->w9 K cj H' cw dF->N.bk dF H'
 ct:=λcw g'=>∀cj H' dF,Ext ρ H cj H'->Rl K cj g' H'->w9 K cj H' cw dF->N.ct dF H'
def LS(K:PySem.W.Frag)(Ξ:iQ)(t:Ends->S->G->KX->Prop):TS:=λN cE H=>∃U g ρ,w9 K ρ H U cE/\Rl K ρ g H/\t (LN K ρ H N) U g (LX K ρ H Ξ)
end M
namespace L2
open PySem PySem.Spec PyProof.Rows
variable{t t':TT}
section
variable{X:Cx}{e:Expr}
theorem PE.imp{t t':TE}(h:PE X e t)(i:∀U H Q,t' U H Q->t U H Q):PE X e t':=λpins s U H Q I q=>h pins s U H Q I (i U H Q q)
theorem PT.imp(h:PT X e t)(i:∀U H Q,t' U H Q->t U H Q):PT X e t':=λpins s U H Q I q=>h pins s U H Q I (i U H Q q)
theorem PW.imp(h:PW X e t)(i:∀U H Q,t' U H Q->t U H Q):PW X e t':=λw pins s U H Q I q=>h w pins s U H Q I (i U H Q q)
theorem PA.imp{es:List Expr}{t t':TA}(h:PA X es t)(i:∀U H Q,t' U H Q->t U H Q):PA X es t':=λp pins s U H Q I q=>h p pins s U H Q I (i U H Q q)
theorem lT.imp{es:List Expr}(h:lT X es t)(i:∀U H Q,t' U H Q->t U H Q):lT X es t':=λpins s U H Q I q=>h pins s U H Q I (i U H Q q)
theorem PI.imp{tg:Expr}{t t':TI}(h:PI X tg e t)(i:∀U H Q,t' U H Q->t U H Q):PI X tg e t':=λpins s U H Q I q=>h pins s U H Q I (i U H Q q)
theorem PG.imp{t t':TG}(h:PG X e t)(i:∀v U H Q,t' v U H Q->t v U H Q):PG X e t':=λpins s U H v u Q I r q=>h pins s U H v u Q I r (i v U H Q q)
theorem PS.imp{st:Stmt}{t t':TS}(h:PS X st t)(i:∀N U H,t' N U H->t N U H):PS X st t':=λpins s U H N I q=>h pins s U H N I (i N U H q)
theorem jL.imp{st:List Stmt}{t t':TS}(h:jL X st t)(i:∀N U H,t' N U H->t N U H):jL X st t':=λpins s U H N I q=>h pins s U H N I (i N U H q)
end
end L2
namespace M
open PySem L2 PySem.Spec PyProof.Rows
variable{Ξ:iQ}{P:fS}{op iT:CmpOp}{rest es:List Expr}{jn:ME}{p2 q km:Pos}
section
variable{K:PySem.W.Frag}(hP:j4 P){ρ hU:List Addr}{H H0:Hp}{U:S}{cE:L2.St}{g:G}{m:ME}
include hP
theorem gM{Q0:KD}{Q:VK}(s:w9 K ρ H U cE)(R:Rl K ρ g H)(e0:Ext hU H0 ρ H)(h:bq P m U g Q0 (LX K hU H0 Ξ))(k:∀x g1 cF H1 v1,Ext ρ H cF H1->Rl K cF g1 H1->d8 K cF H1 x v1->Q0 x g1->Q v1 H1):LE K Ξ (bq P m) cE H Q :=
 ⟨U,g,ρ,s,R,c9 hP m _ _ _ _ _ _ (λx g1 h cF H1 v1 e1 R1 r1=>k x g1 cF H1 v1 e1 R1 r1 h) (λ_ _ z=>LX.ext e0 z) h⟩
theorem lq{Q0:List D->G->Prop}{Q:List V->Hp->Prop}(s:w9 K ρ H U cE)(R:Rl K ρ g H)(e0:Ext hU H0 ρ H)(h:hV P m U g Q0 (LX K hU H0 Ξ))(k:∀x g1 cF H1 v1,Ext ρ H cF H1->Rl K cF g1 H1->c7 K cF H1 x v1->Q0 x g1->Q v1 H1):LA K Ξ (hV P m) cE H Q :=
 ⟨U,g,ρ,s,R,M1 hP m _ _ _ _ _ _ (λx g1 h cF H1 v1 e1 R1 r1=>k x g1 cF H1 v1 e1 R1 r1 h) (λ_ _ z=>LX.ext e0 z) h⟩
theorem qh{Q0:Bool->G->Prop}{Q:Bool->Hp->Prop}(s:w9 K ρ H U cE)(R:Rl K ρ g H)(e0:Ext hU H0 ρ H)(h:eP P m U g Q0 (LX K hU H0 Ξ))(k:∀t g1 cF H1,Ext ρ H cF H1->Rl K cF g1 H1->Q0 t g1->Q t H1):LT K Ξ (eP P m) cE H Q :=
 ⟨U,g,ρ,s,R,z9 hP m _ _ _ _ _ _ (λt g1 h cF H1 e1 R1=>k t g1 cF H1 e1 R1 h) (λ_ _ z=>LX.ext e0 z) h⟩
theorem tE{ms:MS}{N:L2.Ends}{N0:Ends}(s:w9 K ρ H U cE)(R:Rl K ρ g H)(e0:Ext hU H0 ρ H)(h:wpS P ms N0 U g (LX K hU H0 Ξ))(k:N0.le (LN K ρ H N)):LS K Ξ (wpS P ms) N cE H :=
 ⟨U,g,ρ,s,R,wpS_mono hP ms _ _ _ _ _ _ k (λ_ _ z=>LX.ext e0 z) h⟩
end
theorem c7.ng{K ρ H}(lo:Int)(n:Nat):c7 K ρ H (j6 lo n) ((List.range n).map λ(k:Nat)=>V.int (lo+k)):=by
 have:∀l:List Nat,c7 K ρ H (l.map λ(k:Nat)=>D.int (lo+k)) (l.map λ(k:Nat)=>V.int (lo+k)):=by
  intro l
  induction l with
  |nil=>exact .nil
  |cons x r ih=>exact .cons (.int _) ih
 exact this _
section
variable{X:Cx}(hP:j4 P){a b c e:Expr}{ma mb mc:ME}{pos:Pos}{p:Pr}
include hP
theorem Fv(h:PE X e (tF (r2 X.K p) (LE X.K Ξ (bq P ma)) (LE X.K Ξ (bq P mb)))):PE X e (LE X.K Ξ (bq P (.prim p (.cons ma (.cons mb .nil))))) :=
 h.imp λcE H Q bG=>by
  obtain⟨U,g,ρ,s,R,h⟩:=bG;exact gM hP s R (.refl _ _) h λx g1 cF H1 v1 e1 R1 r1 h=>gM hP (s.ext e1) R1 e1 h λy g2 fU H2 v2 e2 R2 r2 h =>
   ⟨x,y,g2,fU,R2,r1.ext e2,r2,A4 (λd g' h=>h.ext (e1.trans e2)) h⟩
theorem SX(h:PT X e (ES (tF (r2 X.K (.cmp op)) (LE X.K Ξ (bq P ma)) (LE X.K Ξ (bq P mb))))):PT X e (LT X.K Ξ (eP P (.fV (.prim (.cmp op) (.cons ma (.cons mb .nil)))))) :=
 h.imp λcE H Q bG=>by
  obtain⟨U,g,ρ,s,R,h⟩:=bG;refine gM hP s R (.refl _ _) h λx g1 cF H1 v1 e1 R1 r1 h=>gM hP (s.ext e1) R1 e1 h λy g2 fU H2 v2 e2 R2 r2 h=>?_;obtain⟨d',g',h,q⟩:=h;obtain⟨x',y',t,ex,hc,rfl,rfl⟩:=id h;refine⟨x,y,g',fU,R2,r1.ext e2,r2,_,_,h,λcj H' v e' R' r'=>?_⟩;obtain⟨t',ht,q⟩:=q;rcases ht with⟨z,_⟩|z|⟨i,z,_⟩|⟨l,z,_⟩|⟨a,l,z,_⟩<;>cases z
  exact⟨_,r'.O3,q cj H' (e1.trans (e2.trans e')) R'⟩
theorem Zo{op:UnaryOp}(ha:PE X a (LE X.K Ξ (bq P ma))):PE X (.UnaryOp op a pos) (LE X.K Ξ (bq P (.prim (.un op) (.cons ma .nil)))) :=
 (Zg (Za op) ha).imp λcE H Q bG=>by
  obtain⟨U,g,ρ,s,R,h⟩:=bG;exact gM hP s R (.refl _ _) h λx g1 cF H1 v1 e1 R1 r1 h=>⟨x,g1,cF,R1,r1,A4 (λd g' h=>h.ext e1) h⟩
theorem MH:∀cE H Q,LE X.K Ξ (bq P (.chain op iT ma mb mc)) cE H Q->Fx (r2 X.K (.cmp op)) (r2 X.K (.cmp iT)) (LE X.K Ξ (bq P ma)) (LE X.K Ξ (bq P mb)) (LE X.K Ξ (bq P mc)) cE H Q:=λcE H Q bG=>by
 obtain⟨U,g,ρ,s,R,h⟩:=bG;refine gM hP s R (.refl _ _) h λx g1 cF H1 v1 e1 R1 r1 h=>gM hP (s.ext e1) R1 e1 h λy g2 fU H2 v2 e2 R2 r2 h=>?_;refine⟨x,y,g2,fU,R2,r1.ext e2,r2,A4 (λd g3 h jO H3 v3 e3 R3 r3=>?_) h⟩;obtain⟨t,rfl,h⟩:=h;obtain rfl:=r3.O3;refine⟨t,rfl,?_⟩;cases t
 ·exact h jO H3 _ (e1.trans (e2.trans e3)) R3 (.bl _)
 ·exact gM hP (s.ext (e1.trans (e2.trans e3))) R3 (e1.trans (e2.trans e3)) h λz g4 qW H4 v4 e4 R4 r4 h =>
   ⟨y,z,g4,qW,R4,r2.ext (e3.trans e4),r4,A4 (λd g' h=>h.ext (e1.trans (e2.trans (e3.trans e4)))) h⟩
theorem a81(hu:X.A.units+100<cLine)(ha:PE X a (LE X.K Ξ (bq P ma)))(hb:PE X b (LE X.K Ξ (bq P mb)))(hc:PE X c (LE X.K Ξ (bq P mc)))(hm:lastMarks [op,iT] [b,c]=false) :
  PE X (.Compare a [op,iT] [b,c] pos) (LE X.K Ξ (bq P (.chain op iT ma mb mc))):=(Wn (uO hu op) (uO hu iT) ha hb hc hm).imp (MH hP)
theorem VG{U:S}{g:G}{Q:Bool->G->Prop}{E:KX}(h:eP P (.fV (.chain op iT ma mb mc)) U g Q E):bq P (.chain op iT ma mb mc) U g (λd g'=>∃t,d=.bl t/\Q t g') E:=by
 have one:∀{o:CmpOp} {xs:List D} {g:G},cQ (.cmp o) xs g (λd g1=>qO g1 d λb=>Q b g1)->cQ (.cmp o) xs g λd g'=>∃t,d=.bl t/\Q t g':=by
  intro o xs g h;obtain⟨d',g',h,t',ht,q⟩:=h;obtain⟨x',y',t,ex,hc,rfl,rfl⟩:=id h;refine⟨_,_,h,t',?_,q⟩;rcases ht with⟨z,_⟩|z|⟨i,z,_⟩|⟨l,z,_⟩|⟨a,l,z,_⟩<;>first|exact z|cases z
 refine c9 hP ma _ _ _ _ _ _ (λx g1 h=>c9 hP mb _ _ _ _ _ _ (λy g2 h=>A4 (λz g3 h=>?_) h) (λ_ _ z=>z) h) (λ_ _ z=>z) h;obtain⟨t,rfl,h⟩:=h;refine⟨t,rfl,?_⟩;cases t
 ·obtain⟨b,hb,q⟩:=(show qO g3 (.bl false) λb=>Q b g3 from h)
  rcases hb with⟨z,_⟩|z|⟨i,z,_⟩|⟨l,z,_⟩|⟨a,l,z,_⟩<;>first|(cases z;exact⟨_,rfl,q⟩)|cases z
 ·exact c9 hP mc _ _ _ _ _ _ (λw g4 h=>one h) (λ_ _ z=>z) h
theorem a72(hu:X.A.units+100<cLine)(ha:PE X a (LE X.K Ξ (bq P ma)))(hb:PE X b (LE X.K Ξ (bq P mb)))(hc:PE X c (LE X.K Ξ (bq P mc)))(hm:lastMarks [op,iT] [b,c]=false) :
  PT X (.Compare a [op,iT] [b,c] pos) (LT X.K Ξ (eP P (.fV (.chain op iT ma mb mc)))) :=
 (a94 (uO hu op) (uO hu iT) ha hb hc hm).imp λcE H Q ⟨U,g,ρ,s,R,h⟩ =>
  MH hP cE H _ (gM hP s R (.refl _ _) (VG hP h) λx g1 cF H1 v1 e1 R1 r1 h=>by
   obtain⟨t,rfl,h⟩:=h;exact ⟨t,r1.O3,h cF H1 e1 R1⟩)
theorem SE(ha:PE X a (LE X.K Ξ (bq P ma)))(hb:PE X (.BoolOp .And (b::rest) pos) (LE X.K Ξ (bq P mb))):PE X (.BoolOp .And (a::b::rest) pos) (LE X.K Ξ (bq P (.dM ma mb))) :=
 (RT ha hb).imp λcE H Q bG=>by
  obtain⟨U,g,ρ,s,R,h⟩:=bG;refine gM hP s R (.refl _ _) h λx g1 cF H1 v1 e1 R1 r1 h=>?_;obtain⟨t,rfl,h⟩:=h;refine⟨t,r1.O3,?_⟩;cases t
  ·exact h cF H1 _ e1 R1 (.bl _)
  ·exact gM hP (s.ext e1) R1 e1 h λy g2 fU H2 v2 e2 R2 r2 h=>h fU H2 v2 (e1.trans e2) R2 r2
theorem Zn(ha:PE X a (LE X.K Ξ (bq P ma)))(hb:PE X (.BoolOp .Or (b::rest) pos) (LE X.K Ξ (bq P mb))):PE X (.BoolOp .Or (a::b::rest) pos) (LE X.K Ξ (bq P (.jm ma mb))) :=
 (Zf ha hb).imp λcE H Q bG=>by
  obtain⟨U,g,ρ,s,R,h⟩:=bG;refine gM hP s R (.refl _ _) h λx g1 cF H1 v1 e1 R1 r1 h=>?_;obtain⟨t,rfl,h⟩:=h;refine⟨t,r1.O3,?_⟩;cases t
  ·exact gM hP (s.ext e1) R1 e1 h λy g2 fU H2 v2 e2 R2 r2 h=>h fU H2 v2 (e1.trans e2) R2 r2
  ·exact h cF H1 _ e1 R1 (.bl _)
theorem SI(ha:PE X a (LE X.K Ξ (bq P ma))):PE X (.UnaryOp .Not a pos) (LE X.K Ξ (bq P (.eK ma))) :=
 (Sa ha).imp λcE H Q bG=>by
  obtain⟨U,g,ρ,s,R,h⟩:=bG;refine gM hP s R (.refl _ _) h λx g1 cF H1 v1 e1 R1 r1 h=>?_;obtain⟨t,rfl,h⟩:=h;exact⟨t,r1.O3,h cF H1 _ e1 R1 (.bl _)⟩
theorem SH(hc:PT X c (LT X.K Ξ (eP P mc)))(ha:PE X a (LE X.K Ξ (bq P ma)))(hb:PE X b (LE X.K Ξ (bq P mb))):PE X (.IfExp c a b pos) (LE X.K Ξ (bq P (.ite mc ma mb))) :=
 (Wq hc ha hb).imp λcE H Q bG=>by
  obtain⟨U,g,ρ,s,R,h⟩:=bG;refine qh hP s R (.refl _ _) h λt g1 cF H1 e1 R1 h=>?_;cases t
  ·exact gM hP (s.ext e1) R1 e1 h λy g2 fU H2 v2 e2 R2 r2 h=>h fU H2 v2 (e1.trans e2) R2 r2
  ·exact gM hP (s.ext e1) R1 e1 h λy g2 fU H2 v2 e2 R2 r2 h=>h fU H2 v2 (e1.trans e2) R2 r2
theorem SJ{k:Nat}(h:PA X es (LA X.K Ξ (hV P jn))):PE X (.Tuple es k pos) (LE X.K Ξ (bq P (.prim .tup jn))) :=
 (Se h).imp λcE H Q bG=>by
  obtain⟨U,g,ρ,s,R,h⟩:=bG;refine lq hP s R (.refl _ _) h λds g1 cF H1 vs e1 R1 r1 h=>?_;obtain⟨d',g',⟨hz,rfl,rfl⟩,q⟩:=h;exact⟨by rw[<- r1.length];exact U1 (aC hz ∅),λp hp=>(q.ext e1).tup R1 hp r1⟩
theorem Lz(h:PA X es (LA X.K Ξ (hV P jn))):PE X (.List es pos) (LE X.K Ξ (bq P (.prim .lst jn))) :=
 (RY h).imp λcE H Q bG=>by
  obtain⟨U,g,ρ,s,R,h⟩:=bG;refine lq hP s R (.refl _ _) h λds g1 cF H1 vs e1 R1 r1 h=>?_;obtain⟨d',g',⟨hz,rfl,rfl⟩,q⟩:=h;exact⟨by rw[<- r1.length];exact U1 (aC hz ∅),λp hp=>(q.ext e1).new R1 hp r1⟩
theorem L4:PA X [] (LA X.K Ξ (hV P .nil)) :=
 (Z9 (X:=X)).imp λcE H Q bG=>by
  obtain⟨U,g,ρ,s,R,h⟩:=bG;exact h ρ H [] (.refl _ _) R .nil
theorem C4(ha:PE X a (LE X.K Ξ (bq P ma)))(h:PA X es (LA X.K Ξ (hV P jn)))(hs:starEach (a::es) X.env=(false,eval a X.env)::starEach es X.env):PA X (a::es) (LA X.K Ξ (hV P (.cons ma jn))) :=
 (U5 ha h hs).imp λcE H Q bG=>by
  obtain⟨U,g,ρ,s,R,h⟩:=bG;exact gM hP s R (.refl _ _) h λx g1 cF H1 v1 e1 R1 r1 h=>lq hP (s.ext e1) R1 e1 h λxs g2 fU H2 vs e2 R2 r2 h=>h fU H2 _ (e1.trans e2) R2 (.cons (r1.ext e2) r2)
theorem a75(ha:PE X a (LE X.K Ξ (bq P ma)))(hb:PE X b (LE X.K Ξ (bq P mb))):PE X (.Subscript a (.Slice none (some b) none p2) pos) (LE X.K Ξ (bq P (.prim (.ql false true) (.cons ma (.cons mb .nil))))) :=
 (Wt Zp ha UG (UH hb)).imp λcE H Q bG=>by
  obtain⟨U,g,ρ,s,R,h⟩:=bG;refine gM hP s R (.refl _ _) h λx g1 cF H1 v1 e1 R1 r1 h=>gM hP (s.ext e1) R1 e1 h λy g2 fU H2 v2 e2 R2 r2 h=>?_;obtain⟨d',g',⟨x',i,ex,h⟩,q⟩:=h;cases ex;exact⟨i,r2.o8,x,g2,fU,d',g',R2,r1.ext e2,h,q.ext (e1.trans e2)⟩
theorem SY(ha:PE X a (LE X.K Ξ (bq P ma)))(he:∀whole,isTrue a X.env whole=(do let v <- whole;standAt a.pos;holding [v] (truthy v))):PT X a (LT X.K Ξ (eP P (.fV ma))) :=
 (a93 ha he).imp λcE H Q bG=>by
  obtain⟨U,g,ρ,s,R,h⟩:=bG;refine gM hP s R (.refl _ _) h λx g1 cF H1 v1 e1 R1 r1 h=>?_;obtain⟨b,h1,h2⟩:=h;exact⟨b,To R1 r1 h1,h2 cF H1 e1 R1⟩
theorem SW(ha:PT X a (LT X.K Ξ (eP P ma))):PT X (.UnaryOp .Not a pos) (LT X.K Ξ (eP P (.eK ma))) :=
 (Su ha).imp λcE H Q bG=>by
  obtain⟨U,g,ρ,s,R,h⟩:=bG;exact qh hP s R (.refl _ _) h λt g1 cF H1 e1 R1 h=>h cF H1 e1 R1
theorem Tb(ha:PT X a (LT X.K Ξ (eP P ma)))(hb:PW X (.BoolOp .And (b::rest) pos) (LT X.K Ξ (eP P mb))):PW X (.BoolOp .And (a::b::rest) pos) (LT X.K Ξ (eP P (.dM ma mb))) :=
 (Sv ha hb).imp λcE H Q bG=>by
  obtain⟨U,g,ρ,s,R,h⟩:=bG;refine qh hP s R (.refl _ _) h λt g1 cF H1 e1 R1 h=>?_;cases t
  ·exact h cF H1 e1 R1
  ·exact qh hP (s.ext e1) R1 e1 h λt g2 fU H2 e2 R2 h=>h fU H2 (e1.trans e2) R2
theorem Zs(ha:PT X a (LT X.K Ξ (eP P ma)))(hb:PW X (.BoolOp .Or (b::rest) pos) (LT X.K Ξ (eP P mb))):PW X (.BoolOp .Or (a::b::rest) pos) (LT X.K Ξ (eP P (.jm ma mb))) :=
 (Zj ha hb).imp λcE H Q bG=>by
  obtain⟨U,g,ρ,s,R,h⟩:=bG;refine qh hP s R (.refl _ _) h λt g1 cF H1 e1 R1 h=>?_;cases t
  ·exact qh hP (s.ext e1) R1 e1 h λt g2 fU H2 e2 R2 h=>h fU H2 (e1.trans e2) R2
  ·exact h cF H1 e1 R1
theorem Vo:lT X [] (LT X.K Ξ (eP P .no)) :=
 (UP (X:=X)).imp λcE H Q bG=>by
  obtain⟨U,g,ρ,s,R,h⟩:=bG;exact h ρ H (.refl _ _) R
theorem SF{x:Str}{v:Value}(hv:(∃id,v=.builtin id)\/∃T,v=.type T)(hc:p9 X v (rN X.K p))(hg:Gl X x)(hm:X.mg x=none)(hb:bootBuiltins x=some v)(ha:PA X (e::es) (LA X.K Ξ (hV P jn)))(hn:x≠"__name__")(hd:(x==("__debug__":Str))=false)(eT:starEach (e::es) X.env=(false,eval e X.env)::starEach es X.env)(gZ:(backTo pos (starEach es X.env)).any (·.1)=false):PE X (.Call (.Name x q) (e::es) [] pos) (LE X.K Ξ (bq P (.prim p jn))):=by
 have base:PE X (.Call (.Name x q) (e::es) [] pos) (AR (rN X.K p) (LA X.K Ξ (hV P jn))):=by
  rcases hv with⟨id,rfl⟩|⟨T,rfl⟩
  ·exact zP hc hg hm hb ha hn hd eT gZ
  ·exact R6 hc hg hm hb ha hn hd eT gZ
 refine base.imp λcE H Q bG=>?_;obtain⟨U,g,ρ,s,R,h⟩:=bG;exact lq hP s R (.refl _ _) h λxs g1 cF H1 vs e1 R1 r1 h=>⟨xs,g1,cF,R1,r1,A4 (λd g' h=>h.ext e1) h⟩
theorem Ve{o:Expr}{mo:ME}{T:String}{name:Str}{id:String}{apos:Pos}(pa:PlainAttrs T)(slot:Slot T name id)(jZ:typeOf (.builtin id)=pure (.type "method_descriptor"))(hm:mP X id (rM X.K p))(hk:∀{d:D} {v:V} {g:G} {ρ:List Addr} {H:Hp},Rl X.K ρ g H->d8 X.K ρ H d v->mF p d g->ow X.K T v H)(ho:PE X o (LE X.K Ξ (bq P mo)))(ha:PA X (e::es) (LA X.K Ξ (hV P jn)))(jG:attributeBase o name X.env (eval o X.env)=eval o X.env)(rL:((backTo pos (starEach (e::es) X.env)).all (λx=>!x.1)&&(backToKw pos (keywordEach [] X.env)).all (λx=>x.1.isSome)&&decide ((e::es).length+([]:List Keyword).length+(if([]:List Keyword).isEmpty then 0 else 1)<30))=true)(jD:(apos.endLine==pos.line)=true)(hs:starEach (e::es) X.env=(false,eval e X.env)::starEach es X.env)(ik:(backTo pos (starEach es X.env)).any (·.1)=false) :
  PE X (.Call (.Attribute o name apos) (e::es) [] pos) (LE X.K Ξ (bq P (.eW p mo jn))) :=
 (Zd pa slot jZ hm ho ha jG rL jD hs ik).imp λcE H Q bG=>by
  obtain⟨U,g,ρ,s,R,h⟩:=bG;exact gM hP s R (.refl _ _) h λx g1 cF H1 v1 e1 R1 r1 h=>⟨hk R1 r1 h.1,lq hP (s.ext e1) R1 e1 h.2 λxs g2 fU H2 ws e2 R2 r2 h =>
   ⟨x,xs,g2,fU,R2,r1.ext e2,r2,A4 (λd g' h=>h.ext (e1.trans e2)) h⟩⟩
theorem a77{o:Expr}{mo:ME}{T:String}{name:Str}{id:String}{apos:Pos}(pa:PlainAttrs T)(slot:Slot T name id)(jZ:typeOf (.builtin id)=pure (.type "method_descriptor"))(hm:mP X id (rM X.K p))(hk:∀{d:D} {v:V} {g:G} {ρ:List Addr} {H:Hp},Rl X.K ρ g H->d8 X.K ρ H d v->mF p d g->ow X.K T v H)(ho:PE X o (LE X.K Ξ (bq P mo)))(jG:attributeBase o name X.env (eval o X.env)=eval o X.env)(jD:(apos.endLine==pos.line)=true) :
  PE X (.Call (.Attribute o name apos) [] [] pos) (LE X.K Ξ (bq P (.eW p mo .nil))) :=
 (RU pa slot jZ hm ho jG jD).imp λcE H Q bG=>by
  obtain⟨U,g,ρ,s,R,h⟩:=bG;exact gM hP s R (.refl _ _) h λx g1 cF H1 v1 e1 R1 r1 h=>⟨hk R1 r1 h.1,x,[],g1,cF,R1,r1,.nil,A4 (λd g' h=>h.ext e1) h.2⟩
theorem a80(hc:X.calm=true)(ha:PE X a (LE X.K Ξ (bq P ma)))(nS:Gl X "list")(nN:X.mg "list"=none)(hg:Gl X "range")(hm:X.mg "range"=none)(hs:starEach [a] X.env=[(false,eval a X.env)]) :
  PE X (.Call (.Name "list" p2) [.Call (.Name "range" q) [a] [] pos] [] km) (LE X.K Ξ (bq P (.prim .jY (.cons ma .nil)))) :=
 (R6 (Lo hc) nS nN (by rfl) (U5 (a09 hg hm (C4 hP ha (L4 hP) (by rw[hs];rfl)) hs) Z9)).imp λcE H Q bG=>by
  obtain⟨U,g,ρ,s,R,h⟩:=bG;refine lq hP s R (.refl _ _) h λxs g1 cF H1 vs e1 R1 r1 h=>?_;obtain⟨d',g',⟨j,rfl,h1,h2,rfl,rfl⟩,q⟩:=h;obtain⟨v,rfl,rv⟩:=r1.one;obtain rfl:=rv.o8;refine⟨j,rfl,λq' hq=>⟨q',0,j,rfl,A1,⟨by omega,by omega,h1,by omega,by omega⟩,λp hp=>?_⟩⟩;rw[show(j-0).toNat=j.toNat by omega];exact(q.ext (e1.trans (C0 hq))).new (R1.grow hq) hp (c7.ng 0 _)
theorem a79(hc:X.calm=true)(ha:PE X a (LE X.K Ξ (bq P ma)))(hb:PE X b (LE X.K Ξ (bq P mb)))(nS:Gl X "list")(nN:X.mg "list"=none)(hg:Gl X "range")(hm:X.mg "range"=none)(hs:starEach [a,b] X.env=[(false,eval a X.env),(false,eval b X.env)])(gO:starEach [b] X.env=[(false,eval b X.env)]) :
  PE X (.Call (.Name "list" p2) [.Call (.Name "range" q) [a,b] [] pos] [] km) (LE X.K Ξ (bq P (.prim .kW (.cons ma (.cons mb .nil))))) :=
 (R6 (Lo hc) nS nN (by rfl) (U5 (a08 hg hm (C4 hP ha (C4 hP hb (L4 hP) (by rw[gO];rfl)) (by rw[hs,gO])) hs gO) Z9)).imp λcE H Q bG=>by
  obtain⟨U,g,ρ,s,R,h⟩:=bG;refine lq hP s R (.refl _ _) h λxs g1 cF H1 vs e1 R1 r1 h=>?_;obtain⟨d',g',⟨i,j,rfl,hb,rfl,rfl⟩,q⟩:=h;obtain⟨v,w,rfl,rv,gH⟩:=r1.two;obtain rfl:=rv.o8;obtain rfl:=gH.o8;exact⟨i,j,rfl,λq' hq=>⟨q',i,j,rfl,A1,hb,λp hp=>(q.ext (e1.trans (C0 hq))).new (R1.grow hq) hp (c7.ng i _)⟩⟩
theorem Vg(hc:X.calm=true)(ha:PE X a (LE X.K Ξ (bq P ma)))(nS:Gl X "sorted")(nN:X.mg "sorted"=none)(hg:Gl X "set")(hm:X.mg "set"=none)(hs:starEach [a] X.env=[(false,eval a X.env)]) :
  PE X (.Call (.Name "sorted" p2) [.Call (.Name "set" q) [a] [] pos] [] km) (LE X.K Ξ (bq P (.prim .sset (.cons ma .nil)))) :=
 (zP (X8 hc) nS nN (by rfl) (U5 (R6 (Lj hc) hg hm (by rfl) (C4 hP ha (L4 hP) (by rw[hs];rfl)) ∅ ∅ (by rw[hs];rfl) rfl) Z9)).imp λcE H Q bG=>by
  obtain⟨U,g,ρ,s,R,h⟩:=bG;refine lq hP s R (.refl _ _) h λxs g1 cF H1 vs e1 R1 r1 h=>?_;obtain⟨d',g',⟨i,ns,rfl,hl,hz,rfl,rfl⟩,q⟩:=h;obtain⟨v,rfl,rv⟩:=r1.one;obtain⟨a',rfl,ra⟩:=rv.o6;obtain⟨ws,hq,rs⟩:=R1.items hl ra;obtain rfl:=rs.ints;refine⟨_,ns,rfl,hq,hz,λq' nL=>⟨q',ns,rfl,A1,hz,λp hp=>?_⟩⟩;exact(q.ext (e1.trans (C0 nL))).new (R1.grow nL) hp (c7.ofInts _)
theorem Vc(hc:X.calm=true)(ha:PE X a (LE X.K Ξ (bq P ma)))(nS:Gl X "len")(nN:X.mg "len"=none)(hg:Gl X "set")(hm:X.mg "set"=none)(hs:starEach [a] X.env=[(false,eval a X.env)]) :
  PE X (.Call (.Name "len" p2) [.Call (.Name "set" q) [a] [] pos] [] km) (LE X.K Ξ (bq P (.prim .V3 (.cons ma .nil)))) :=
 (zP az6 nS nN PySem.boot_len (U5 (R6 (Lj hc) hg hm (by rfl) (C4 hP ha (L4 hP) (by rw[hs];rfl)) ∅ ∅ (by rw[hs];rfl) rfl) Z9)).imp λcE H Q bG=>by
  obtain⟨U,g,ρ,s,R,h⟩:=bG;refine lq hP s R (.refl _ _) h λxs g1 cF H1 vs e1 R1 r1 h=>?_;obtain⟨d',g',⟨i,ns,rfl,hl,hz,rfl,rfl⟩,q⟩:=h;obtain⟨v,rfl,rv⟩:=r1.one;obtain⟨a',rfl,ra⟩:=rv.o6;obtain⟨ws,hq,rs⟩:=R1.items hl ra;obtain rfl:=rs.ints;refine⟨_,ns,rfl,hq,by omega,λq' nL=>⟨q',_,rfl,A1,?_⟩⟩;exact(q.ext (e1.trans (C0 nL))).now (R1.grow nL) (.int _)
theorem Vf{i:Int}{j:Nat}(nU:PySem.W.kdsCode X.K X.env.code=true):PE X (.Set [.Constant (.int i) j q] 0 pos) (LE X.K Ξ (bq P (.prim (.kO i) .nil))) :=
 (UC nU).imp λcE H Q bG=>by
  obtain⟨U,g,ρ,s,R,h⟩:=bG;obtain⟨d',g',⟨_,rfl,rfl⟩,q⟩:=h;exact λp hp=>q (ρ++[p]) _ _ (F2 hp) (R.new hp (o:=.set (λk=>decide (k=i)) 1) (u:=.set (λk=>decide (k=i)) 1) ⟨rfl,rfl⟩) (.ref (R.A8 p))
theorem SG{f:Str}(ha:PE X a (LE X.K Ξ (bq P ma)))(hb:attributeBase a f X.env (eval a X.env)=eval a X.env):PE X (.Attribute a f pos) (LE X.K Ξ (bq P (.prim (.fld f) (.cons ma .nil)))) :=
 (RV ha hb).imp λcE H Q bG=>by
  obtain⟨U,g,ρ,s,R,h⟩:=bG;refine gM hP s R (.refl _ _) h λx g1 cF H1 v1 e1 R1 r1 h=>?_;obtain⟨d',g',⟨i,c,fs,ex,hi,hf,rfl⟩,q⟩:=h;cases ex;obtain⟨a',rfl,ra⟩:=r1.o6;obtain⟨C,dx,vs,hH,_,hC,rk,na⟩:=R1.ins hi ra;have lk:=rk.look f;rw[hf] at lk;obtain⟨v,hv,rv⟩:=lk.some;exact⟨a',C,dx,vs,v,rfl,hH,hC,na _ (aT hf),hv,q cF H1 v e1 R1 rv⟩
end
section
variable{X:Cx}{pos:Pos}
theorem SK{i:Nat}{x:Str}(hN:X.N[i]?=some x)(hv:xK X.env.scope x)(hd:(x==("__debug__":Str))=false)(mJ:(x==("__classdict__":Str))=false):PE X (.Name x pos) (LE X.K Ξ (bq P (.var i))) :=
 (Sf hN hv hd mJ).imp λcE H Q bG=>by
  obtain⟨U,g,ρ,s,R,h⟩:=bG;obtain⟨d,e,h⟩:=h;obtain⟨v,h1,h2⟩:=s.val _ _ e;exact⟨v,h1,h.now R h2⟩
theorem Z4{e:Expr}{d:D}{v:V}(h:PE X e (tC v))(r:∀ρ H,d8 X.K ρ H d v):PE X e (LE X.K Ξ (bq P (.lit d))) :=
 h.imp λcE H Q bG=>by
  obtain⟨U,g,ρ,s,R,h⟩:=bG;exact LQ.now h R (r ρ H)
theorem Va:PE X (.Dict [] [] pos) (LE X.K Ξ (bq P (.prim .V6 .nil))) :=
 (Wo (X:=X)).imp λcE H Q ⟨U,g,ρ,s,R,h⟩ p hp=>by
  obtain⟨d',g',⟨_,rfl,rfl⟩,q⟩:=h;exact q (ρ++[p]) _ _ (F2 hp) (R.new hp (o:=.da []) (u:=.dK []) i8.nil) (.ref (R.A8 p))
end
end M
namespace L2
open PySem PySem.Spec PyProof.Rows
end L2
namespace M
open PySem L2 PySem.Spec PyProof.Rows
variable{K:PySem.W.Frag}{H H0:Hp}{a fa C:Addr}{x:Str}{p:Pos}{k f j:Nat}{fd:FuncData}{ps:List Str}{hU:List Addr}{vs:List V}
inductive qK(K:PySem.W.Frag):List D->List (Str×V)->Prop
 |nil:qK K [] []
 |cons {x:Str} {d:D} {v:V} {ds:List D} {vs:List (Str×V)} (h:∀ρ H,d8 K ρ H d v) (r:qK K ds vs):qK K (.tup [.str x,d]::ds) ((x,v)::vs)
theorem qK.look{ρ:List Addr}{ds vs}(x:Str)(h:qK K ds vs):sR K ρ H (Q7 ds x) (vs.lookup x):=by
 induction h with
 |nil=>trivial
 |cons h r ih =>
  rename_i y d v ds vs;unfold Q7;rw[dR];by_cases e:x=y
  ·rw[aG e,show(x==y)=true from by simp[e]];exact h ρ H
  ·rw[aD e,show(x==y)=false from by simpa using e];exact ih
def IS(X:Cx)(x:Str)(kvs:List D):Prop:=∃A vs,X.mg x=some (.ref A)/\Ac X.K X.w.params A vs/\qK X.K kvs vs
section
variable{X:Cx}{Ξ:iQ}{P:fS}(hP:j4 P){a c:Expr}{ma:ME}{pos:Pos}
include hP
theorem Vb{kvs:List D}(hg:Gl X x)(hd:(x==("__debug__":Str))=false)(hG:IS X x kvs)(ha:PE X a (LE X.K Ξ (bq P ma)))(hs:Dp a):PE X (.Subscript (.Name x p) a pos) (LE X.K Ξ (bq P (.prim .og (.cons (.lit (.tup kvs)) (.cons ma .nil))))):=by
 obtain⟨A,vs,hmg,hk,gr⟩:=hG;refine(Jn (YB (kvs:=vs)) (Mo (v:=.ref A) hg hmg rfl hd) ha hs).imp λcE H Q bG=>?_;obtain⟨U,g,ρ,s,R,h⟩:=bG;refine gM hP s R (.refl _ _) h λd g1 cF H1 v1 e1 R1 r1 h=>?_;obtain⟨d',g',⟨jT,z,ex,hz,rfl⟩,q⟩:=h;cases ex;obtain rfl:=r1.Fw;have lk:=gr.look (ρ:=cF) (H:=H1) z;rw[hz] at lk;obtain⟨w,hw,lk⟩:=lk.some;exact⟨A,z,w,rfl,hk,rfl,hw,q cF H1 _ e1 R1 lk⟩
omit hP in
def qk(ex:List Str)(K:PySem.W.Frag)(n:Nat)(t:List D->G->KD->KX->Prop):Sp:=λvs H Q E=>vs.length=n/\∃ds g ρ,c7 K ρ H ds vs/\Rl K ρ g H/\t ds g (LQ K ρ H Q) (LX K ρ H (ex,E))
omit hP in
def pZ(X:Cx)(P:fS)(ex:List Str)(k f:Nat)(fa:Addr)(fd:FuncData)(ps:List Str):Prop :=
 iR X.prog X.w X.K X.mg X.base (jJ X.prog X.w) k fa fd ps (qk ex X.K ps.length (P f))/\Binds X.K fd ps []/\∀ds g Q E,P f ds g Q E->ds.length=ps.length
theorem EO{k:Nat}(F:pZ X P Ξ.1 k f fa fd ps){ρ:List Addr}{g:G}{xs:List D}{Q0:KD}{Q:VK}(e0:Ext hU H0 ρ H)(R:Rl X.K ρ g H)(r:c7 X.K ρ H xs vs)(h:P f xs g Q0 (LX X.K hU H0 Ξ))(k:∀d g',Q0 d g'->LQ X.K ρ H Q d g'):qk Ξ.1 X.K ps.length (P f) (vs++[]) H Q Ξ.2:=by
 rw[dz];exact⟨by rw[<- r.length];exact F.2.2 _ _ _ _ h,xs,g,ρ,r,R,hP _ _ _ _ _ _ _ k (λ_ _ z=>LX.ext e0 z) h⟩
theorem U'{es:List Expr}{e:Expr}{jn:ME}(hx:Passes (jJ X.prog X.w) X Ξ.2)(F:pZ X P Ξ.1 k f fa fd ps)(hr:A5 k X.A)(hg:Gl X x)(hm:X.mg x=some (.ref fa))(hk:PySem.W.keepIn X.K (.ref fa)=true)(ha:PA X (e::es) (LA X.K Ξ (hV P jn)))(hd:(x==("__debug__":Str))=false)(eT:starEach (e::es) X.env=(false,eval e X.env)::starEach es X.env)(gZ:(backTo pos (starEach es X.env)).any (·.1)=false):PE X (.Call (.Name x p) (e::es) [] pos) (LE X.K Ξ (bq P (.call f jn))) :=
 (Uz F.1 hr hg hm hk F.2.1 .nil hx ha hd eT gZ).imp λcE H Q bG=>by
  obtain⟨U,g,ρ,s,R,h⟩:=bG;exact lq hP s R (.refl _ _) h λxs g1 cF H1 vs e1 R1 r1 h=>EO hP F e1 R1 r1 h λd g' h=>h.ext e1
theorem a82(hx:Passes (jJ X.prog X.w) X Ξ.2)(F:pZ X P Ξ.1 k f fa fd ps)(hr:A5 k X.A)(hg:Gl X x)(hm:X.mg x=some (.ref fa))(hk:PySem.W.keepIn X.K (.ref fa)=true)(hd:(x==("__debug__":Str))=false):PE X (.Call (.Name x p) [] [] pos) (LE X.K Ξ (bq P (.call f .nil))) :=
 (Wm F.1 hr hg hm hk F.2.1 .nil hx hd).imp λcE H Q bG=>by
  obtain⟨U,g,ρ,s,R,h⟩:=bG;exact EO hP F (.refl _ _) R .nil h λd g' h=>h
theorem Mh{c:Str}(F:pZ X P Ξ.1 k f fa fd ps)(hC:y9 X.K c C)(hc:kG X.K C){ρ:List Addr}{g1:G}{xs:List D}{Q:VK}(e0:Ext hU H0 ρ H)(R:Rl X.K ρ g1 H)(r:c7 X.K ρ H xs vs)(h:P f (.ref g1.length::xs) (g1++[.ins c []]) (λd g2=>d=.bD/\LQ X.K hU H0 Q (.ref g1.length) g2) (LX X.K hU H0 Ξ)):∀x dx,H x=none->H dx=none->dx≠x->qk Ξ.1 X.K ps.length (P f) (.ref x::(vs++[])) (upd (upd H dx (.own x)) x (.ins C dx [])) (λv H2=>v=.bD/\Q (.ref x) H2) Ξ.2:=by
 intro x dx hx HH fR;have yw:upd H dx (.own x) x=none:=by rw[i6 (cq fR)];exact hx
 have R2:=R.grow (o:=.own x) HH;have e2:Ext ρ H ρ (upd H dx (.own x)):=C0 HH;have R3:=R2.new (o:=.ins c []) (u:=.ins C dx []) yw ⟨hC,hc,.nil,λx hx=>absurd hx (by simp)⟩;have e3:Ext ρ (upd H dx (.own x)) (ρ++[x]) (upd (upd H dx (.own x)) x (.ins C dx [])):=F2 yw;have:=EO hP F (e0.trans (e2.trans e3)) R3 (.cons (.ref (R.A8 x)) (r.ext (e2.trans e3))) h (Q:=λv H2=>v=.bD/\Q (.ref x) H2) λd g' q cj H' v e' R' r'=>by
  obtain⟨rfl,q⟩:=q;exact⟨r'.Fq,q cj H' _ (e0.trans (e2.trans (e3.trans e'))) R' (.ref (e'.get (R.A8 x)))⟩
 exact this
theorem Vd{es:List Expr}{e:Expr}{jn:ME}(hx:Passes (jJ X.prog X.w) X Ξ.2)(F:pZ X P Ξ.1 k f fa fd ps)(M:Mk X.K C fa)(hC:y9 X.K x C)(hc:kG X.K C)(hr:A5 (k+1) X.A)(hg:Gl X x)(hm:X.mg x=some (.ref C))(ha:PA X (e::es) (LA X.K Ξ (hV P jn)))(hd:(x==("__debug__":Str))=false)(eT:starEach (e::es) X.env=(false,eval e X.env)::starEach es X.env)(gZ:(backTo pos (starEach es X.env)).any (·.1)=false):PE X (.Call (.Name x p) (e::es) [] pos) (LE X.K Ξ (bq P (.make x f jn))) :=
 (UB M F.1 hr hg hm F.2.1 .nil hx ha hd eT gZ).imp λcE H Q bG=>by
  obtain⟨U,g,ρ,s,R,h⟩:=bG;exact lq hP s R (.refl _ _) h λxs g1 cF H1 vs e1 R1 r1 h=>Mh hP F hC hc e1 R1 r1 h
theorem a78(hx:Passes (jJ X.prog X.w) X Ξ.2)(F:pZ X P Ξ.1 k f fa fd ps)(M:Mk X.K C fa)(hC:y9 X.K x C)(hc:kG X.K C)(hr:A5 (k+1) X.A)(hg:Gl X x)(hm:X.mg x=some (.ref C))(hd:(x==("__debug__":Str))=false):PE X (.Call (.Name x p) [] [] pos) (LE X.K Ξ (bq P (.make x f .nil))) :=
 (Wr M F.1 hr hg hm F.2.1 .nil hx hd).imp λcE H Q bG=>by
  obtain⟨U,g,ρ,s,R,h⟩:=bG;exact Mh hP F hC hc (.refl _ _) R .nil h
end
section
variable{X:Cx}{Ξ:iQ}{P:fS}(hP:j4 P)
include hP
end
theorem YH{l:List D}(ht:TupAt K H0 a vs)(rs:c7 K hU H0 l vs):Z2 K hU H0 (.fix l) (FP K a):=by
 intro ρ g H e R i;have qq:=ht.ext e;have GA:=rs.ext e;refine⟨λh=>⟨vs,qq.sq,?_⟩,λd h=>?_⟩
 ·have:=dh.mp (aP h);rw[<- GA.length];exact this
 ·obtain⟨v,hv,rv⟩:=GA.get (aP h);refine⟨⟨vs,v,qq.sq,hv⟩,λw H' y=>?_⟩;obtain⟨rfl,y⟩:=y;have:=y vs qq.sq;rw[hv] at this;cases this;exact⟨.refl _ _,R,rv⟩
theorem YE(ha:hU[j]?=some a):Z2 K hU H0 (.lst j) (FQ K a):=by
 intro ρ g H e R i;have mL:=e.get ha;refine⟨λh=>?_,λd h=>?_⟩
 ·simp only[IK.at] at h;cases el:d5 g j with
  |none=>simp_all
  |some l =>
   rw[el] at h;obtain⟨vs,hq,rs⟩:=R.items el mL;refine⟨vs,hq,?_⟩;have:=dh.mp (aP h);rw[<- rs.length];exact this
 ·simp only[IK.at] at h;cases el:d5 g j with
  |none=>simp_all
  |some l =>
   rw[el] at h;obtain⟨vs,hq,rs⟩:=R.items el mL;obtain⟨v,hv,rv⟩:=rs.get (aP h);refine⟨⟨vs,v,hq,hv⟩,λw H' y=>?_⟩;obtain⟨rfl,y⟩:=y;have:=y vs hq;rw[hv] at this;cases this;exact⟨.refl _ _,R,rv⟩
theorem Jj{lo:Int}{n:Nat}:Z2 K hU H0 (.fix (j6 lo n)) (xR lo n):=by
 unfold j6;intro ρ g H e R i;refine⟨λh=>?_,λd h=>?_⟩
 ·have:=dh.mp (aP h);show n<=i;simpa using this
 ·have h:=aP h;have hi:i<n:=by
   have:=(av.mp h).1
   simp_all
  rw[ai,cI hi] at h;cases h;refine⟨hi,λw H' y=>?_⟩;obtain⟨rfl,rfl⟩:=y;exact⟨.refl _ _,R,.int _⟩
theorem YG{n:Nat}(ha:hU[j]?=some a):Z2 K hU H0 (.tI j n) (FO K a n):=by
 intro ρ g H e R i;have mL:=e.get ha;refine⟨λh=>?_,λd h=>?_⟩
 ·simp only[IK.at] at h;cases el:d5 g j with
  |none=>simp_all
  |some l =>
   rw[el] at h;dsimp only at h;by_cases hl:l.length=n
   ·rw[aG hl] at h;have h:=aP h;by_cases hi:i<n
    ·rw[aG hi] at h;have:=dh.mp h;omega
    ·exact Nat.le_of_not_lt hi
   simp_all
 ·simp only[IK.at] at h;cases el:d5 g j with
  |none=>simp_all
  |some l =>
   rw[el] at h;dsimp only at h;by_cases hl:l.length=n
   ·rw[aG hl] at h;have h:=aP h;by_cases hi:i<n
    ·rw[aG hi] at h;obtain⟨vs,hq,rs⟩:=R.items el mL;obtain⟨v,hv,rv⟩:=rs.get h;refine⟨⟨vs,v,hq,by rw[<- rs.length];exact hl,hi,hv⟩,λw H' y=>?_⟩;obtain⟨rfl,y⟩:=y;have:=y vs hq;rw[hv] at this;cases this;exact⟨.refl _ _,R,rv⟩
    ·rw[aD hi] at h;cases h
   simp_all
theorem YD(ha:hU[j]?=some a):Z2 K hU H0 (.pK j) (FR K a):=by
 intro ρ g H e R i;have mL:=e.get ha;refine⟨λh=>?_,λd h=>?_⟩
 ·simp only[IK.at] at h;cases el:d5 g j with
  |none=>rw[el] at h;cases h
  |some l =>
   rw[el] at h;obtain⟨vs,hq,rs⟩:=R.items el mL;refine⟨vs,hq,?_⟩;have h:=aP h;rw[Option.map_eq_none_iff] at h;have:=dh.mp h;rw[<- rs.length];exact this
 ·simp only[IK.at] at h;cases el:d5 g j with
  |none=>simp_all
  |some l =>
   rw[el] at h;obtain⟨vs,hq,rs⟩:=R.items el mL;have h:=aP h;rw[aa] at h;obtain⟨d',hd,rfl⟩:=h;obtain⟨v,hv,rv⟩:=rs.get hd;refine⟨⟨vs,v,hq,hv⟩,λw H' y=>?_⟩;obtain⟨p,x,hp,rfl,y,rfl⟩:=y;have:=y vs hq;rw[hv] at this;cases this;exact⟨C0 hp,R.grow hp,.tup (.inl A1) (.cons (.int _) (.cons (rv.ext (C0 hp)) .nil))⟩
end M
namespace L2
open PySem PySem.Spec PyProof.Rows
theorem Sk{X:Cx}{tg l:Expr}{tl:TE}(hl:PE X l tl):PI X tg l (λU H R=>tl U H λx H1=>(∃a,x=.ref a/\(∃xs,gn X.K H1 a xs)/\R (FQ X.K a) H1)\/(∃a,x=.ref a/\(∃xs,kx X.K H1 a xs)/\R (FP X.K a) H1)):=by
 intro pins s U H R I h;refine cV (hl pins s U H _ I h) λv s1 bG=>?_;obtain⟨x,H1,I1,r1,q1⟩:=bG;rcases q1 with⟨a,e,⟨xs,hq⟩,q⟩|⟨a,e,⟨xs,hq⟩,q⟩
 ·subst e;cases r1;obtain⟨bw,rv,p,hz⟩:=I1.list hq;refine gp p.isList ?_;refine⟨s1.heap.objs.size,[s1.heap.objs.size],_,_,H1,rfl,I1.kept (t':=s1.toks) λb o e=>ao _ e,aX9 a _,⟨_,aE _ rfl,rfl,rfl⟩,λb hb=>?_,q⟩;have e:b=s1.heap.objs.size:=by simpa using hb
  subst e;exact I1.qL (aw _) (I1.bY.fresh (aw _))
 ·subst e;cases r1;obtain⟨bw,rv,p,hz⟩:=I1.tuple hq;refine wpAny_pyIter_tuple (show s1.heap.IsTuple a bw.toArray from p) ?_;refine⟨s1.heap.objs.size,[s1.heap.objs.size],_,_,H1,rfl,I1.kept (t':=s1.toks) λb o e=>ao _ e,aQ5 a _,⟨_,aE _ rfl,rfl,rfl⟩,λb hb=>?_,q⟩;have e:b=s1.heap.objs.size:=by simpa using hb
  subst e;exact I1.qL (aw _) (I1.bY.fresh (aw _))
end L2
namespace M
open PySem L2 PySem.Spec PyProof.Rows
variable{X:Cx}{tg:Expr}{pos p tp:Pos}{i:Nat}{x:Str}{t:MT}{mi:ME}
section
variable{Ξ:iQ}{P:fS}(hP:j4 P){a b:Expr}{ma mb:ME}
include hP
theorem SQ(ha:PE X a (LE X.K Ξ (bq P ma))):PI X tg a (LI X.K Ξ (iz P (.fk ma))) :=
 (Sk ha).imp λcE H R bG=>by
  obtain⟨U,g,ρ,s,Rr,h⟩:=bG;refine gM hP s Rr (.refl _ _) h λx g1 cF H1 v1 e1 R1 r1 h=>?_;rcases h with⟨l,rfl,h⟩|⟨i,l,rfl,hl,h⟩
  ·obtain⟨a',vs,rfl,ht,rs⟩:=r1.Fy;exact .inr ⟨_,rfl,⟨_,ht.sq⟩,h cF H1 _ e1 R1 (YH ht rs)⟩
  ·obtain⟨a',rfl,mL⟩:=r1.o6;obtain⟨vs,hq,rs⟩:=R1.items hl mL;exact .inl ⟨_,rfl,⟨_,hq⟩,h cF H1 _ e1 R1 (YE mL)⟩
theorem Vk{elts:List Expr}{x1:Nat}(ha:PE X a (LE X.K Ξ (bq P ma)))(hg:Gl X "enumerate")(hm:X.mg "enumerate"=none)(hs:starEach [a] X.env=[(false,eval a X.env)]):PI X (.Tuple elts x1 tp) (.Call (.Name "enumerate" p) [a] [] pos) (LI X.K Ξ (iz P (.lO ma))) :=
 (UE hg hm (C4 hP ha (L4 hP) (by rw[hs];rfl)) hs).imp λcE H R bG=>by
  obtain⟨U,g,ρ,s,Rr,h⟩:=bG;refine lq hP (m:=.cons ma .nil) s Rr (.refl _ _) (Q0:=λxs g1=>∃a l,xs=[.ref a]/\d5 g1 a=some l/\∀cj H' J,Ext ρ H cj H'->Rl X.K cj g1 H'->Z2 X.K cj H' (.pK a) J->R J H') ?_ λxs g1 cF H1 vs e1 R1 r1 h=>?_
  ·exact c9 hP ma _ _ _ _ _ _ (λx g1 ⟨i,l,e,hl,h⟩=>⟨i,l,by rw[e],hl,h⟩) (λ_ _ z=>z) h
  ·obtain⟨j,l,rfl,hl,h⟩:=h;obtain⟨v,rfl,rv⟩:=r1.one;obtain⟨a',rfl,ra⟩:=rv.o6;obtain⟨vs,hq,rs⟩:=R1.items hl ra;exact⟨_,rfl,⟨_,hq⟩,h cF H1 _ e1 R1 (YD ra)⟩
theorem SO(ha:PE X a (LE X.K Ξ (bq P ma)))(hg:Gl X "reversed")(hm:X.mg "reversed"=none)(hs:starEach [a] X.env=[(false,eval a X.env)]):PI X tg (.Call (.Name "reversed" p) [a] [] pos) (LI X.K Ξ (iz P (.oy ma))) :=
 (Sj hg hm (C4 hP ha (L4 hP) (by rw[hs];rfl)) hs).imp λcE H R bG=>by
  obtain⟨U,g,ρ,s,Rr,h⟩:=bG;refine lq hP (m:=.cons ma .nil) s Rr (.refl _ _) (Q0:=λxs g1=>∃a l,xs=[.ref a]/\d5 g1 a=some l/\∀cj H' J,Ext ρ H cj H'->Rl X.K cj g1 H'->Z2 X.K cj H' (.tI a l.length) J->R J H') ?_ λxs g1 cF H1 vs e1 R1 r1 h=>?_
  ·exact c9 hP ma _ _ _ _ _ _ (λx g1 ⟨i,l,e,hl,h⟩=>⟨i,l,by rw[e],hl,h⟩) (λ_ _ z=>z) h
  ·obtain⟨j,l,rfl,hl,h⟩:=h;obtain⟨v,rfl,rv⟩:=r1.one;obtain⟨a',rfl,ra⟩:=rv.o6;obtain⟨vs,hq,rs⟩:=R1.items hl ra;exact⟨_,vs,rfl,hq,h cF H1 _ e1 R1 (by rw[rs.length];exact YG ra)⟩
theorem Vl(ha:PE X a (LE X.K Ξ (bq P ma)))(hg:Gl X "range")(hm:X.mg "range"=none)(hs:starEach [a] X.env=[(false,eval a X.env)]):PI X tg (.Call (.Name "range" p) [a] [] pos) (LI X.K Ξ (iz P (.eL ma))) :=
 (a05 hg hm (C4 hP ha (L4 hP) (by rw[hs];rfl)) hs).imp λcE H R bG=>by
  obtain⟨U,g,ρ,s,Rr,h⟩:=bG;refine lq hP (m:=.cons ma .nil) s Rr (.refl _ _) (Q0:=λxs g1=>∃j:Int,xs=[.int j]/\-(2 ^ 62)<=j/\j<2 ^ 62/\∀cj H' J,Ext ρ H cj H'->Rl X.K cj g1 H'->Z2 X.K cj H' (.fix (j6 0 j.toNat)) J->R J H') ?_ λxs g1 cF H1 vs e1 R1 r1 h=>?_
  ·exact c9 hP ma _ _ _ _ _ _ (λx g1 ⟨j,e,h1,h2,h⟩=>⟨j,by rw[e],h1,h2,h⟩) (λ_ _ z=>z) h
  ·obtain⟨j,rfl,h1,h2,h⟩:=h;obtain⟨v,rfl,rv⟩:=r1.one;obtain rfl:=rv.o8;exact⟨_,rfl,h1,h2,h cF H1 _ e1 R1 Jj⟩
theorem Vm(ha:PE X a (LE X.K Ξ (bq P ma)))(hb:PE X b (LE X.K Ξ (bq P mb)))(hg:Gl X "range")(hm:X.mg "range"=none)(hs:starEach [a,b] X.env=[(false,eval a X.env),(false,eval b X.env)])(gO:starEach [b] X.env=[(false,eval b X.env)]) :
  PI X tg (.Call (.Name "range" p) [a,b] [] pos) (LI X.K Ξ (iz P (.jA ma mb))) :=
 (a04 hg hm (C4 hP ha (C4 hP hb (L4 hP) (by rw[gO];rfl)) (by rw[hs,gO])) hs gO).imp λcE H R bG=>by
  obtain⟨U,g,ρ,s,Rr,h⟩:=bG;refine lq hP (m:=.cons ma (.cons mb .nil)) s Rr (.refl _ _) (Q0:=λxs g1=>∃i j:Int,xs=[.int i,.int j]/\(-(2 ^ 62)<=i/\i<2 ^ 62/\-(2 ^ 62)<=j/\j<2 ^ 62)/\∀cj H' J,Ext ρ H cj H'->Rl X.K cj g1 H'->Z2 X.K cj H' (.fix (j6 i (j-i).toNat)) J->R J H') ?_ λxs g1 cF H1 vs e1 R1 r1 h=>?_
  ·exact c9 hP ma _ _ _ _ _ _ (λx g1 h=>c9 hP mb _ _ _ _ _ _ (λy g2 ⟨i,j,e,e',h1,h⟩=>⟨i,j,by rw[e,e'],h1,h⟩) (λ_ _ z=>z) h) (λ_ _ z=>z) h
  ·obtain⟨i,j,rfl,h1,h⟩:=h;obtain⟨v,w,rfl,rv,gH⟩:=r1.two;obtain rfl:=rv.o8;obtain rfl:=gH.o8;exact⟨_,_,rfl,h1,h cF H1 _ e1 R1 Jj⟩
end
theorem SN(hN:X.Nd)(hi:X.N[i]?=some x)(hx:Loc X.env.scope x)(hf:X.fn x=true\/X.env.scope.names.lookup x=some .local):PG X (.Name x pos) (LG X.K (.one i)) :=
 (Mp hN hi hx hf).imp λv cE H Q hq=>by
  obtain⟨d,U,g,ρ,s,R,r,h⟩:=hq;exact h _ (s.set i r)
inductive gA(X:Cx):List Expr->List Nat->Prop
 |nil:gA X [] []
 |cons {x:Str} {p:Pos} {i:Nat} {es:List Expr} {is:List Nat} (hi:X.N[i]?=some x) (hx:Loc X.env.scope x) (hf:X.fn x=true\/X.env.scope.names.lookup x=some .local) (r:gA X es is):gA X (.Name x p::es) (i::is)
def Fh:List Nat->qP
 |[]=>JD
 |i::is=>Jg (uC i) (Fh is)
theorem a06(hN:X.Nd){es:List Expr}{is:List Nat}(h:gA X es is):xN X es (Fh is):=by
 induction h with
 |nil=>exact UD
 |cons hi hx hf r ih=>exact a99 (Mp hN hi hx hf) ih rfl
theorem Eh:∀{es:List Expr} {is:List Nat},gA X es is->(assignEach es X.env).length=is.length/\(assignEach es X.env).findIdx? (·.1)=none
 |_,_,.nil=>⟨rfl,rfl⟩
 |_,_,.cons (x:=x) (p:=p) (es:=es) hi hx hf r=>by
  obtain⟨h1,h2⟩:=Eh r;have e:assignEach (.Name x p::es) X.env=(false,assign (.Name x p) X.env)::assignEach es X.env:=rfl;rw[e];refine⟨by simp[h1],?_⟩;rw[List.findIdx?_cons,h2]
  rfl
theorem JT{K:PySem.W.Frag}{ρ:List Addr}{H:Hp}{k:S->Prop}{Q:L2.St->Hp->Prop}:∀{is:List Nat} {l:List D} {vs:List V} {U cw:S} {cE:L2.St},R0 is l U=some cw->c7 K ρ H l vs->w9 K ρ H U cE->(∀dF,w9 K ρ H cw dF->Q dF H)->Fh is vs cE H Q
 |[],_,_,_,_,_,h,.nil,s,q=>by
  cases h;exact⟨rfl,q _ s⟩
 |[],_,_,_,_,_,h,.cons _ _,s,q=>by cases h
 |i::is,_,_,_,_,_,h,.nil,s,q=>by cases h
 |i::is,_,_,_,_,_,h,.cons r rr,s,q=>by
  exact⟨_,_,rfl,JT (k:=k) h rr (s.set i r) q⟩
theorem KI:∀{is:List Nat} {l:List D} {U cw:S},R0 is l U=some cw->l.length=is.length
 |[],[],_,_,_=>rfl
 |[],_::_,_,_,h=>by simp only[R0] at h;cases h
 |_::_,[],_,_,h=>by simp only[R0] at h;cases h
 |_::is,_::l,_,_,h=>by simp only[R0] at h;simp[KI h]
theorem Mw{es:List Expr}{is:List Nat}{k:Nat}(hc:X.calm=true)(hN:X.Nd)(hs:gA X es is):PG X (.Tuple es k pos) (LG X.K (.many is)) :=
 (Si hc (a06 hN hs) (Eh hs).1 (Eh hs).2).imp λv cE H Q bG=>by
  obtain⟨d,U,g,ρ,s,R,r,h⟩:=bG;obtain⟨l,cw,rfl,e,h⟩:=h;obtain⟨a',vs,rfl,ht,rs⟩:=r.Fy;exact⟨_,_,rfl,ht.sq,by rw[<- rs.length];exact KI e,JT (k:=λ_=>True) e rs s h⟩
theorem LN.ext{K ρ H N cF H1}(e:Ext ρ H cF H1):(LN K ρ H N).le (LN K cF H1 N) :=
 ⟨λU g h cj H' dF e' R s=>h cj H' dF (e.trans e') R s,λd g h=>h.ext e,λU g h cj H' dF e' R s=>h cj H' dF (e.trans e') R s,λU g h cj H' dF e' R s=>h cj H' dF (e.trans e') R s⟩
section
variable{Ξ:iQ}{P:fS}(hP:j4 P){a b c:Expr}{ma mb mc:ME}{st:Stmt}{rest:List Stmt}{Bh nH:MS}
include hP
theorem LB:jL X [] (LS X.K Ξ (wpS P .pass)) :=
 (UN (X:=X)).imp λN cE H ⟨U,g,ρ,s,R,h⟩=>h ρ H cE (.refl _ _) R s
theorem Mx(h1:PS X st (LS X.K Ξ (wpS P Bh)))(h2:jL X rest (LS X.K Ξ (wpS P nH))):jL X (st::rest) (LS X.K Ξ (wpS P (.seq Bh nH))) :=
 (a95 h1 h2).imp λN cE H ⟨U,g,ρ,s,R,h⟩ =>
  tE hP s R (.refl _ _) (show wpS P Bh { LN X.K ρ H N with nx:=λjj g1=>wpS P nH (LN X.K ρ H N) jj g1 (LX X.K ρ H Ξ) } U g (LX X.K ρ H Ξ) from h) ⟨λjj g1 h cF H1 NZ e1 R1 s1=>tE hP s1 R1 e1 h (LN.ext e1),λ_ _ z=>z,λ_ _ z=>z,λ_ _ z=>z⟩
theorem Vq(ha:PE X a (LE X.K Ξ (bq P ma)))(hs:swapsWith a none pos.line X.env=pure false):PS X (.Expr a pos) (LS X.K Ξ (wpS P (.expr ma))) :=
 (UK ha hs).imp λN cE H ⟨U,g,ρ,s,R,h⟩=>gM hP s R (.refl _ _) h λx g1 cF H1 v1 e1 R1 r1 h=>h cF H1 cE e1 R1 (s.ext e1)
theorem LH(h0:PS X (.Assign [.Name x p] a pos) (xG (LE X.K Ξ (bq P ma)) (uC i))):PS X (.Assign [.Name x p] a pos) (LS X.K Ξ (wpS P (.set i ma))) :=
 h0.imp λN cE H ⟨U,g,ρ,s,R,h⟩=>gM hP s R (.refl _ _) h λx g1 cF H1 v1 e1 R1 r1 h=>h cF H1 _ e1 R1 ((s.ext e1).set i r1)
theorem Te(h0:PS X (.Assign [tg] a pos) (xG (LE X.K Ξ (bq P ma)) (LG X.K t))):PS X (.Assign [tg] a pos) (LS X.K Ξ (wpS P (.mD t ma))) :=
 h0.imp λN cE H ⟨U,g,ρ,s,R,h⟩=>gM hP s R (.refl _ _) h λx g1 cF H1 v1 e1 R1 r1 h=>⟨x,U,g1,cF,s.ext e1,R1,r1,B4 (λcw h dF s'=>h cF H1 dF e1 R1 s') h⟩
theorem a70(hu:X.A.units+100<cLine){o i:Expr}{mo:ME}(ha:PE X a (LE X.K Ξ (bq P ma)))(ho:PE X o (LE X.K Ξ (bq P mo)))(hi:PE X i (LE X.K Ξ (bq P mi)))(hs:swapsWithSole [.Subscript o i tp] a pos.line X.env=pure false)(mL:∀ v,assign (.Subscript o i tp) X.env v=(do
   let ov <- holding [v] (eval o X.env)
   let iv <- holding [v,ov] (eval i X.env)
   standAt tp
   holding [v,ov,iv] (setItem ov iv v)
   release [v,ov,iv] [])):PS X (.Assign [.Subscript o i tp] a pos) (LS X.K Ξ (wpS P (.eQ mo mi ma))) :=
 (Lu ha (Sg ho hi (SM hu) mL) hs).imp λN cE H ⟨U,g,ρ,s,R,h⟩ =>
  gM hP s R (.refl _ _) h λx g1 cF H1 v1 e1 R1 r1 h=>gM hP (s.ext e1) R1 e1 h λy g2 fU H2 v2 e2 R2 r2 h=>gM hP (s.ext (e1.trans e2)) R2 (e1.trans e2) h λz g3 jO H3 v3 e3 R3 r3 h =>
   ⟨y,z,x,g3,jO,R3,r2.ext e3,r3,r1.ext (e2.trans e3),W3 (λg4 h qW H4 e4 R4=>h qW H4 cE (e1.trans (e2.trans (e3.trans e4))) R4 (s.ext (e1.trans (e2.trans (e3.trans e4))))) h⟩
omit hP in
def EZ(K:PySem.W.Frag)(f:Str)(cs:List Str):Prop:=∀c C,c∈cs->y9 K c C->E1 K C f
omit hP in
theorem Vj{f:Str}{cs:List Str}(hF:EZ X.K f cs){ρ:List Addr}{H:Hp}{g g':G}{x v:D}{xv vv:V}(R:Rl X.K ρ g H)(rx:d8 X.K ρ H x xv)(rv:d8 X.K ρ H v vv)(h:Jr f cs x v g g') :
  ∃a C dx fs,xv=.ref a/\H a=some (.ins C dx fs)/\kG X.K C/\E1 X.K C f/\fs.length<1000/\Rl X.K ρ g' (upd H a (.ins C dx (B5 f vv fs)))/\Ext ρ H ρ (upd H a (.ins C dx (B5 f vv fs))):=by
 obtain⟨i,c,fs,rfl,hi,hc,hz,rfl⟩:=h;obtain⟨a',rfl,ra⟩:=rx.o6;obtain⟨C,dx,vs,hH,hC,kE,rk,na⟩:=R.ins hi ra;obtain⟨R',e'⟩:=R.put (o':=.ins c (q9 f v fs)) (u:=.ins C dx (B5 f vv vs)) hi rfl ra ⟨hC,kE,rk.B5 rv,KG (p:=λy=>E1 X.K C y) (hF c C hc hC) na⟩;exact⟨a',C,dx,vs,rfl,hH,kE,hF c C hc hC,by rw[<- rk.length];omega,R',e'⟩
theorem Vr{f:Str}{cs:List Str}{o:Expr}{mo:ME}(hF:EZ X.K f cs)(ho:PE X o (LE X.K Ξ (bq P mo)))(ha:PE X a (LE X.K Ξ (bq P ma)))(hs:swapsWith a (some (.Attribute o f tp)) pos.line X.env=pure false):PS X (.Assign [.Attribute o f tp] a pos) (LS X.K Ξ (wpS P (.jc f cs mo ma))) :=
 (So ho ha hs).imp λN cE H ⟨U,g,ρ,s,R,h⟩=>gM hP s R (.refl _ _) h λx g1 cF H1 v1 e1 R1 r1 h=>gM hP (s.ext e1) R1 e1 h λy g2 fU H2 v2 e2 R2 r2 h=>by
  obtain⟨g3,h,q⟩:=h;obtain⟨a',C,dx,fs,hx,hH,kE,na,hz,R3,e3⟩:=Vj hF R2 r2 (r1.ext e2) h;exact⟨a',C,dx,fs,hx,hH,kE,na,hz,q fU _ cE (e1.trans (e2.trans e3)) R3 (s.ext (e1.trans (e2.trans e3)))⟩
theorem Vp{op:Operator}{p:Pr}(Pq:(op=.Add/\p=.iadd)\/(op=.Sub/\p=.nJ))(hN:X.Nd)(hi:X.N[i]?=some x)(hx:Loc X.env.scope x)(hf:X.fn x=true\/X.env.scope.names.lookup x=some .local)(ha:PE X a (LE X.K Ξ (bq P ma))):PS X (.AugAssign (.Name x tp) op a pos) (LS X.K Ξ (wpS P (.lg i p ma))):=by
 have ho:NB X op (r2 X.K p):=by
  intro pins s U H x y v u Q I rx ry h;obtain⟨d,e,g,ρ,R,rd,re,d',g',hr,q⟩:=h;rcases Pq with⟨rfl,rfl⟩|⟨rfl,rfl⟩
  ·rcases hr with⟨i,j,ex,rfl,rfl⟩|z
   ·obtain⟨rfl,rfl⟩:=P0 ex;obtain rfl:=rd.o8;obtain rfl:=re.o8;exact TX pins s U H _ _ v u Q I rx ry ⟨i,j,rfl,rfl,q.now R (.int _)⟩
   ·exact z.elim
  ·obtain⟨i,j,ex,rfl,rfl⟩:=hr;obtain⟨rfl,rfl⟩:=P0 ex;obtain rfl:=rd.o8;obtain rfl:=re.o8;exact TY pins s U H _ _ v u Q I rx ry ⟨i,j,rfl,rfl,q.now R (.int _)⟩
 refine(Sn hN hi hx ha ho hf).imp λN cE H bG=>?_;obtain⟨U,g,ρ,s,R,h⟩:=bG;obtain⟨xd,Pd,h⟩:=h;obtain⟨xv,hv,rx⟩:=s.val _ _ Pd;refine⟨xv,hv,gM hP s R (.refl _ _) h λz g1 cF H1 v1 e1 R1 r1 h=>?_⟩;refine⟨xd,z,g1,cF,R1,rx.ext e1,r1,A4 (λw g2 q=>?_) h⟩;exact λfU H2 v2 e2 R2 r2=>q fU H2 _ (e1.trans e2) R2 ((s.ext (e1.trans e2)).set i r2)
theorem Zt{sa sb:List Stmt}{GQ msb:MS}(hc:PT X c (LT X.K Ξ (eP P mc)))(ha:jL X sa (LS X.K Ξ (wpS P GQ)))(hb:jL X sb (LS X.K Ξ (wpS P msb))):PS X (.If c sa sb pos) (LS X.K Ξ (wpS P (.ifs mc GQ msb))) :=
 (Zi hc ha hb).imp λN cE H ⟨U,g,ρ,s,R,h⟩=>qh hP s R (.refl _ _) h λt g1 cF H1 e1 R1 h=>by
  cases t
  ·exact tE hP (s.ext e1) R1 e1 h (LN.ext e1)
  ·exact tE hP (s.ext e1) R1 e1 h (LN.ext e1)
theorem LD(ha:PE X a (LE X.K Ξ (bq P ma))):PS X (.Return (some a) pos) (LS X.K Ξ (wpS P (.ret ma))) :=
 (Sr ha).imp λN cE H ⟨U,g,ρ,s,R,h⟩=>⟨U,g,ρ,s,R,h⟩
theorem a69{body:List Stmt}{mb:MS}(hp:PassesOwn (model X.prog X.w) X.A X.env X.xe)(hc:PT X c (LT X.K Ξ (eP P mc)))(hb:jL X body (LS X.K Ξ (wpS P mb))):PS X (.While c body [] pos) (LS X.K Ξ (wpS P (.kL mc mb))) :=
 (a96 hp hc hb).imp λN cE H bG=>by
  obtain⟨U,g,ρ,s,R,h⟩:=bG;obtain⟨W,⟨m0,w0⟩,h⟩:=h;refine⟨λm dF H'=>∃cw g' cj,Ext ρ H cj H'/\w9 X.K cj H' cw dF/\Rl X.K cj g' H'/\W m cw g',⟨m0,U,g,ρ,.refl _ _,s,R,w0⟩,?_⟩;rintro m dF H' ⟨cw,g',cj,e1,s',R',w'⟩;refine qh hP s' R' e1 (h m cw g' w') λt g1 cF H1 e2 R1 q=>?_;cases t
  ·exact q cF H1 dF (e1.trans e2) R1 (s'.ext e2)
  ·obtain⟨N2,qx,q⟩:=q;refine⟨λkK H2=>∃cK g2 fU,Ext ρ H fU H2/\w9 X.K fU H2 cK kK/\Rl X.K fU g2 H2/\N2 cK g2,?_,?_⟩
   ·rintro kK H2 ⟨cK,g2,fU,e3,s2,R2,n2⟩;obtain⟨m',hm,w2⟩:=qx cK g2 n2;exact⟨m',hm,cK,g2,fU,e3,s2,R2,w2⟩
   ·refine tE hP (s'.ext e2) R1 (e1.trans e2) q ⟨?_,?_,?_,?_⟩
    ·exact λji g3 n3 jO H3 lK e3 R3 s3=>⟨ji,g3,jO,(e1.trans e2).trans e3,s3,R3,n3⟩
    ·exact λd g3 h=>h.ext (e1.trans e2)
    ·exact λji g3 h jO H3 lK e3 R3 s3=>h jO H3 lK ((e1.trans e2).trans e3) R3 s3
    ·exact λji g3 n3 jO H3 lK e3 R3 s3=>⟨ji,g3,jO,(e1.trans e2).trans e3,s3,R3,n3⟩
theorem Tc{iter:Expr}{body:List Stmt}{mb:MS}(hp:PassesOwn (model X.prog X.w) X.A X.env X.xe)(hc:X.calm=true)(hi:PI X tg iter (LI X.K Ξ (iz P mi)))(hg:PG X tg (LG X.K t))(hb:jL X body (LS X.K Ξ (wpS P mb)))(hs:∀x,foldedSetIterable iter X.env x=pure x):PS X (.For tg iter body [] pos) (LS X.K Ξ (wpS P (.du t mi mb))) :=
 (Sq hp hc hi hg hb hs).imp λN cE H bG=>by
  obtain⟨U,g,ρ,s,R,h⟩:=bG;refine⟨U,g,ρ,s,R,E2 hP mi _ _ _ _ _ _ (λk g1 h cF H1 J e1 R1 j1=>?_) (λ_ _ z=>z) h⟩;obtain⟨W,⟨m0,w0⟩,h⟩:=h;refine⟨λi m dF H'=>∃cw g' cj,Ext cF H1 cj H'/\w9 X.K cj H' cw dF/\Rl X.K cj g' H'/\W i m cw g',⟨m0,U,g1,cF,.refl _ _,s.ext e1,R1,w0⟩,?_⟩;rintro i m dF H' ⟨cw,g',cj,e',s',R',w'⟩;obtain⟨vN,vM⟩:=j1 cj g' H' e' R' i;rcases h i m cw g' w' with⟨ek,q⟩|⟨x,ek,N2,qx,q⟩
  ·exact .inl ⟨vN ek,q cj H' dF (e1.trans e') R' s'⟩
  ·obtain⟨go,yl⟩:=vM x ek;refine .inr ⟨go,λkK H2=>∃cK g2 fU,Ext cF H1 fU H2/\w9 X.K fU H2 cK kK/\Rl X.K fU g2 H2/\N2 cK g2,?_,?_⟩
   ·rintro kK H2 ⟨cK,g2,fU,e2,s2,R2,n2⟩;obtain⟨m',hm,w2⟩:=qx cK g2 n2;exact⟨m',hm,cK,g2,fU,e2,s2,R2,w2⟩
   ·intro v H2 y;obtain⟨e2,R2,r2⟩:=yl v H2 y;refine⟨x,cw,g',cj,s'.ext e2,R2,r2,B4 (λcK q kK s2=>?_) q⟩;refine tE hP s2 R2 (e1.trans (e'.trans e2)) q ⟨?_,?_,?_,?_⟩
    ·exact λji g3 n3 jO H3 lK e3 R3 s3=>⟨ji,g3,jO,(e'.trans e2).trans e3,s3,R3,n3⟩
    ·exact λd g3 h=>h.ext (e1.trans (e'.trans e2))
    ·exact λji g3 h jO H3 lK e3 R3 s3=>h jO H3 lK (e1.trans ((e'.trans e2).trans e3)) R3 s3
    ·exact λji g3 n3 jO H3 lK e3 R3 s3=>⟨ji,g3,jO,(e'.trans e2).trans e3,s3,R3,n3⟩
theorem MK{d6:List Nat}{n:Nat}{jy me:ME}:∀cE H Q,LE X.K Ξ (bq P (.comp d6 n t mi jy me)) cE H Q->ER (LI X.K Ξ (iz P mi)) d6 n (LG X.K t) (LT X.K (oN Ξ.1) (eP P jy)) (LE X.K (oN Ξ.1) (bq P me)) cE H Q:=λcE H Q bG=>by
 obtain⟨U,g,ρ,s,R,h⟩:=bG;refine⟨U,g,ρ,s,R,E2 hP mi _ _ _ _ _ _ (λk g1 h cF H1 J e1 R1 j1=>?_) (λ_ _ z=>z) h⟩;obtain⟨W,⟨m0,w0⟩,h⟩:=h;refine⟨λi m Gh dF H'=>∃ys cw g' cj,Ext cF H1 cj H'/\w9 X.K cj H' cw dF/\Rl X.K cj g' H'/\c7 X.K cj H' ys Gh/\W i m ys cw g',⟨m0,[],_,g1,cF,.refl _ _,(s.ext e1).d6 d6 n,R1,.nil,w0⟩,?_⟩;rintro i m Gh dF H' ⟨ys,cw,g',cj,e',s',R',ry,w'⟩;obtain⟨vN,vM⟩:=j1 cj g' H' e' R' i;rcases h i m ys cw g' w' with⟨ek,q⟩|⟨x,ek,hz,q⟩
 ·exact .inl ⟨vN ek,λp hp=>(q.ext (e1.trans e')).new R' hp ry⟩
 ·obtain⟨go,yl⟩:=vM x ek;refine .inr ⟨go,by rw[<- ry.length];exact Dz hz,λv H2 y=>?_⟩;obtain⟨e2,R2,r2⟩:=yl v H2 y;refine⟨x,cw,g',cj,s'.ext e2,R2,r2,B4 (λcK q kK s2=>?_) q⟩;refine⟨cK,g',cj,s2,R2,z9 hP jy _ _ _ _ _ _ (λb g3 q jO H3 e3 R3=>?_) (λ_ _ z=>z.elim) q⟩;cases b
  ·obtain⟨m',hm,w3⟩:=q;exact⟨m',hm,ys,cK,g3,jO,(e'.trans e2).trans e3,s2.ext e3,R3,(ry.ext e2).ext e3,by simpa using w3⟩
  ·refine⟨cK,g3,jO,s2.ext e3,R3,c9 hP me _ _ _ _ _ _ (λz g4 q qW H4 v4 e4 R4 r4=>?_) (λ_ _ z=>z.elim) q⟩;obtain⟨m',hm,w4⟩:=q;exact⟨m',hm,ys++[z],cK,g4,qW,(e'.trans e2).trans (e3.trans e4),(s2.ext e3).ext e4,R4,(((ry.ext e2).ext e3).ext e4).append (.cons r4 .nil),by simpa using w4⟩
theorem a76{elt iter:Expr}{ifs:List Expr}{scope:Scope}{N':List Str}{d6:List Nat}{cl:List (Str×Addr)}{p2 km:Pos}{jy me:ME}(S:dA X scope N' d6 cl)(hc:X.calm=true)(hi:PI X tg iter (LI X.K Ξ (iz P mi)))(hg:∀pins C s H fp,PG (f9 X pins scope N' cl C s H fp) tg (LG X.K t))(ht:∀pins C s H fp,lT (f9 X pins scope N' cl C s H fp) ifs (LT X.K (oN Ξ.1) (eP P jy)))(he:∀pins C s H fp,PE (f9 X pins scope N' cl C s H fp) elt (LE X.K (oN Ξ.1) (bq P me)))(hs:∀x,foldedSetIterable iter X.env x=pure x)(nS:Gl X "sorted")(nN:X.mg "sorted"=none):PE X (.Call (.Name "sorted" p2) [.SetComp elt [⟨tg,iter,ifs,0⟩] scope pos] [] km) (LE X.K Ξ (bq P (.iE d6 N'.length t mi jy me))) :=
 (zP (X8 hc) nS nN (by rfl) (U5 (Ws S hc hi hg ht he hs) Z9)).imp λcE H Q bG=>by
  obtain⟨U,g,ρ,s,R,h⟩:=bG;refine⟨U,g,ρ,s,R,E2 hP mi _ _ _ _ _ _ (λk g1 h cF H1 J e1 R1 j1=>?_) (λ_ _ z=>z) h⟩;obtain⟨W,⟨m0,w0⟩,h⟩:=h;refine⟨λi m ys dF H'=>∃cw g' cj,Ext cF H1 cj H'/\w9 X.K cj H' cw dF/\Rl X.K cj g' H'/\W i m ys cw g',⟨m0,_,g1,cF,.refl _ _,(s.ext e1).d6 d6 _,R1,w0⟩,?_⟩;rintro i m ys dF H' ⟨cw,g',cj,e',s',R',w'⟩;obtain⟨vN,vM⟩:=j1 cj g' H' e' R' i;rcases h i m ys cw g' w' with⟨ek,hz,q⟩|⟨x,ek,hz,q⟩
  ·exact .inl ⟨vN ek,λp hp=>⟨p,ys,rfl,A1,by omega,λp' iK=>(q.ext ((e1.trans e').trans (C0 hp))).new (R'.grow hp) iK (c7.ofInts _)⟩⟩
  ·obtain⟨go,yl⟩:=vM x ek;refine .inr ⟨go,hz,λv H2 y=>?_⟩;obtain⟨e2,R2,r2⟩:=yl v H2 y;refine⟨x,cw,g',cj,s'.ext e2,R2,r2,B4 (λcK q kK s2=>?_) q⟩;refine⟨cK,g',cj,s2,R2,z9 hP jy _ _ _ _ _ _ (λb g3 q jO H3 e3 R3=>?_) (λ_ _ z=>z.elim) q⟩;cases b
   ·obtain⟨m',hm,w3⟩:=q;exact⟨m',hm,cK,g3,jO,(e'.trans e2).trans e3,s2.ext e3,R3,by simpa using w3⟩
   ·refine⟨cK,g3,jO,s2.ext e3,R3,c9 hP me _ _ _ _ _ _ (λz g4 q qW H4 v4 e4 R4 r4=>?_) (λ_ _ z=>z.elim) q⟩;obtain⟨j,rfl,m',hm,w4⟩:=q;obtain rfl:=r4.o8;exact⟨j,rfl,m',hm,cK,g4,qW,(e'.trans e2).trans (e3.trans e4),(s2.ext e3).ext e4,R4,by simpa using w4⟩
end
end M
namespace M
open PySem L2
section
variable{P:fS}(hP:j4 P)
include hP
end
end M
namespace M
open PySem L2 PySem.Spec PyProof.Rows
variable{X:Cx}{Ξ:iQ}{P:fS}{x qual:Str}{pos:Pos}{c:j5}{i n:Nat}{e o b:Expr}{es args:List Expr}{env:Env}{p:Pr}{f:Addr}{r:CF}{m:ME}{cd:Value}{N:List Str}{scope:Scope}{A:Around}{outer:List Env}{s:Shared}{H:Hp}{E:XK}
section
variable(hP:j4 P)
include hP
theorem a71{C:Addr}{B newId ie:String}{bm:List Value}{np gF:Pos}{kr:Expr}{rest:List Expr}{jn:ME}(hc:X.calm=true)(O:OwnCls x C bm newId X.mg X.base)(FB:ExcBaseFacts B newId ie bm)(hg:Gl X x)(ha:PA X (kr::rest) (LA X.K Ξ (hV P jn)))(hr:zx X Ξ.2)(hx:x∈Ξ.1)(hC:y9 X.K x C)(he:starEach (kr::rest) X.env=(false,eval kr X.env)::starEach rest X.env)(ik:(backTo gF (starEach rest X.env)).any (·.1)=false)(hd:(x==("__debug__":Str))=false):PS X (.Raise (some (.Call (.Name x np) (kr::rest) [] gF)) none pos) (LS X.K Ξ (wpS P (.raise x jn))) :=
 (a97 hc O FB hg ha hr he ik hd).imp λN cE H bG=>by
  obtain⟨U,g,ρ,s,R,h⟩:=bG;refine lq hP s R (.refl _ _) h λds g1 cF H1 vs e1 R1 r1 h=>?_;exact⟨by rw[<- r1.length];exact U1 (aC h.1 ∅),h.2 cF H1 C e1 R1 hx hC⟩
def Ab(X:Cx)(ex:List Str)(D:L2.Ends)(de:L2.St)(hs:List ExceptHandler):iQ:=(ex,λv _ H=>∃C,v=.ref C/\sT X D de C H hs)
inductive mQ(X:Cx)(Ξ:iQ)(P:fS):List ExceptHandler->List (Str×ME)->Prop
 |nil (hh:xk X Ξ.2):mQ X Ξ P [] []
 |cons {y:Str} {C':Addr} {p p1 p2:Pos} {e:Expr} {me:ME} {hs:List ExceptHandler} {ms:List (Str×ME)} (hg:Gl X y) (hd:(y==("__debug__":Str))=false) (hm:X.mg y=some (.ref C'))
   (hx:∀x C,x∈Ξ.1->y9 X.K x C->PySem.W.exmOne X.K (.ref C) (.ref C')=some (decide (x=y\/y="MintError"))) (he:∀ea,PE (F9 X ea) e (LE X.K (oN Ξ.1) (bq P me))) (r:mQ X Ξ P hs ms) :
   mQ X Ξ P (.ExceptHandler (some (.Name y p)) none [.Return (some e) p1] p2::hs) ((y,me)::ms)
theorem Ni{N:L2.Ends}{ρ cj:List Addr}{H H':Hp}{U:S}{g:G}{x:Xn}{C:Addr}(hl:U.length=X.N.length)(e:Ext ρ H cj H')(R:Rl X.K cj g H')(hx:x.cls∈Ξ.1)(hC:y9 X.K x.cls C) :
  ∀{hs:List ExceptHandler} {ms:List (Str×ME)},mQ X Ξ P hs ms->qg P (LN X.K ρ H N) (U.map λ_=>none) (LX X.K ρ H Ξ) ms x g->sT X N (List.replicate X.N.length none) C H' hs
 |_,_,.nil hh,q=>⟨Ξ.2,hh,q cj H' C e R hx hC⟩
 |_,_,.cons (me:=me) hg hd hm Pc he r,q=>by
  refine⟨hg,hd,_,_,hm,Pc _ _ hx hC,?_⟩;unfold qg at q;split at q
  ·rename_i ex;rw[aG (by simpa using ex)];refine⟨LS X.K (oN Ξ.1) (wpS P (.seq (.ret me) .pass)),λea=>Mx (X:=F9 X ea) (Ξ:=oN Ξ.1) hP (LD (X:=F9 X ea) hP (he ea)) (LB (X:=F9 X ea) hP),?_⟩;refine⟨U.map λ_=>none,g,cj,⟨by simp[hl],λi d z=>?_⟩,R,?_⟩
   ·simp_all
   ·refine c9 hP me _ _ _ _ _ _ (λd g1 h=>?_) (λ_ _ z=>z.elim) q;exact h.ext e
  ·rename_i ex;rw[aD (by simpa using ex)];exact Ni hl e R hx hC r q
theorem Td{h₀:ExceptHandler}{hs:List ExceptHandler}{ms:List (Str×ME)}{body:List Stmt}{mb:MS}(oz:X.sg=none)(hb:∀pins D,jL (V9 X pins (Au X pins D (h₀::hs))) body (LS X.K (Ab X Ξ.1 D (List.replicate X.N.length none) (h₀::hs)) (wpS P mb)))(hh:mQ X Ξ P (h₀::hs) ms):PS X (.Try body (h₀::hs) [] [] pos) (LS X.K Ξ (wpS P (.pV mb ms))):=by
 intro pins s cE H N I ⟨U,g,ρ,sr,R,h⟩;refine Ss (t:=λD _=>LS X.K (Ab X Ξ.1 D (List.replicate X.N.length none) (h₀::hs)) (wpS P mb)) (Ξ:=λD _=>(Ab X Ξ.1 D (List.replicate X.N.length none) (h₀::hs)).2) (λ_=>none) (λ_=>List.replicate X.N.length none) (λ_ _ z=>by cases z) oz (λpins D _ _=>hb pins D) pins s cE H N I ⟨λC H' ⟨C',e,z⟩=>by simp_all,?_⟩;refine⟨U,g,ρ,sr,R,wpS_mono hP mb _ _ _ _ _ _ ⟨λ_ _ z=>z,λ_ _ z=>z,λ_ _ z=>z,λ_ _ z=>z⟩ (λx g1 q cj H' C e' R' hm hc=>⟨C,rfl,?_⟩) h⟩;exact Ni (Ξ:=Ξ) hP (sr.len.trans I.len) e' R' hm hc hh q
end
structure j5 where
 N:List Str
 nm:List (Str×NameKind)
 nr:Bool
 fns:List (Str×Nat)
 con:List (Str×D)
 blt:List Str
 exc:List Str
 gd:List (Str×List D)
 cls:List (Str×Nat)
 qm:List (Str×Str×Nat)
 oK:List (Str×Str)
 kl:Bool
 jP:Bool
 wr:Bool:=true
def hX:Expr->Bool
 |.Set ..=>false
 |.Starred ..=>false
 |.Slice ..=>false
 |_=>true
def B6:Expr->Bool
 |.ListComp ..=>false
 |.SetComp ..=>false
 |.DictComp ..=>false
 |_=>true
def uG:Expr->Bool
 |.Tuple ..=>false
 |_=>true
def Ef:Expr->Bool
 |.Name ..=>true
 |.Call ..=>true
 |.Subscript ..=>true
 |.Constant ..=>true
 |.Attribute ..=>true
 |.BinOp ..=>true
 |_=>false
def zt:Expr->Bool
 |.Call (.Name ..) [] ..=>false
 |_=>true
def j5.idx(c:j5)(x:Str):Option Nat:=c.N.findIdx? λy=>decide (y=x)
def j5.uZ(c:j5)(x:Str):Bool:=match c.nm.lookup x with
 |some .local=>true
 |some .cell=>true
 |some .free=>true
 |_=>false
def j5.gl(c:j5)(x:Str):Bool:=decide (c.nm.lookup x=some .globalImplicit)
def j5.B0(c:j5)(x:Str):Bool:=decide (c.nm.lookup x=some .local)||decide (c.nm.lookup x=some .cell)
def pT(x:Str):Bool:=(x==("__debug__":Str))==false&&(x==("__classdict__":Str))==false&&decide (x≠"__name__")
def ET:List (Str×String):=[("int","int"),("bool","bool"),("str","str"),("tuple","tuple"),("list","list")]
def Fc:List (Str×Pr):=[("len",.len),("list",.list),("tuple",.tuple),("isinstance",.isin),("all",.all),("max",.max),("min",.min),("int",.int),("dict",.kZ),("sorted",.kM),("sum",.sum),("set",.rB)]
def xB:List (Str×Pr):=[("clear",.clear),("pop",.rq)]
def Fp:List (Str×Pr):=[("append",.append),("pop",.pop),("get",.get),("add",.kP)]
def zz:Expr->Option (Str×List Expr)
 |.Call (.Name x _) args [] _=>some (x,args)
 |_=>none
def IW:Expr->Bool
 |.Tuple ..=>true
 |_=>false
def asName:Expr->Option Str
 |.Name x _=>some x
 |_=>none
def frees(sc:Scope):List Str:=(sc.names.filter λy=>decide (y.2=.free)).map (·.1)
def locals(sc:Scope):List Str:=(sc.names.filter λy=>decide (y.2=.local)||decide (y.2=.cell)).map (·.1)
def j5.inner(c:j5)(sc:Scope):j5:={ c with N:=frees sc++locals sc,nm:=sc.names,nr:=false,kl:=false,jP:=false,wr:=true }
def j5.d6(c:j5)(sc:Scope):List Nat:=(frees sc).map λx=>(c.idx x).getD 0
def j5.DE(c:j5)(sc:Scope):Bool :=
 decide (sc.kind=.function)&&sc.names.all (λy=>!decide (y.2=.cell)||decide (sc.names.lookup y.1=some .cell))&&sc.names.all (λy=>!decide (y.2=.local)||decide (sc.names.lookup y.1=some .local)) &&
 decide (frees sc++locals sc).Nodup&&(frees sc).all (λx=>(c.idx x).isSome&&decide (sc.names.lookup x=some .free)&&(decide (c.nm.lookup x=some .cell)||decide (c.nm.lookup x=some .free)))
def j5.slot(c:j5)(e:Expr):Option Nat:=(asName e).bind λx=>if c.B0 x then c.idx x else none
def j5.slots(c:j5):List Expr->Option (List Nat)
 |[]=>some []
 |e::r=>(c.slot e).bind λi=>(c.slots r).map λis=>i::is
def j5.tg(c:j5)(e:Expr):Option MT:=((c.slot e).map .one).orElse λ_=>match e with
 |.Tuple es _ _=>(c.slots es).map .many
 |_=>none
def sU:Const->Option D
 |.int i=>some (.int i)
 |.bool b=>some (.bl b)
 |.none=>some .bD
 |.str x=>some (.str x)
 |_=>none
structure CF where
 e:j5->Expr->Option ME
 t:j5->Expr->Option ME
 s:j5->Stmt->Option MS
section
variable(r:CF)(c:j5)
def c1(p:Pr)(a:Expr):Option ME:=(r.e c a).map λm=>.prim p (.cons m .nil)
def c2(p:Pr)(a b:Expr):Option ME:=(r.e c a).bind λma=>(r.e c b).map λmb=>.prim p (.cons ma (.cons mb .nil))
def L0:List Expr->Option ME
 |[]=>some .nil
 |e::es=>if hX e then(r.e c e).bind λm=>(L0 es).map λms=>.cons m ms else none
def EB(op:BoolOp):List Expr->Option ME
 |[]=>none
 |[a]=>r.e c a
 |a::b::rs=>(r.e c a).bind λma=>(EB op (b::rs)).map λmb=>match op with
  |.And=>.dM ma mb
  |.Or=>.jm ma mb
def EC(op:BoolOp):List Expr->Option ME
 |[]=>none
 |[a]=>r.t c a
 |a::b::rs=>(r.t c a).bind λma=>(EC op (b::rs)).map λmb=>match op with
  |.And=>.dM ma mb
  |.Or=>.jm ma mb
def Nq:List Expr->Option ME
 |[]=>some .no
 |[e]=>r.t c e
 |_=>none
def A7:List Stmt->Option MS
 |[]=>some .pass
 |s::rs=>(r.s c s).bind λm=>(A7 rs).map λms=>.seq m ms
def EY(x:Str):Option ME :=
 if pT x then(if c.uZ x then(c.idx x).map .var else if c.gl x then((c.con.lookup x).map .lit).orElse λ_=>if c.blt.contains x then(ET.lookup x).map λt=>.lit (.ty t) else none else none) else none
def AI(op:UnaryOp)(a:Expr):Option ME:=if op=.Not then(r.e c a).map .eK else c1 r c (.un op) a
def j5.JE(b:Expr):Option (List D):=(asName b).bind λx=>if c.gl x&&pT x then c.gd.lookup x else none
def xJ(a:Expr)(ops:List CmpOp)(bs:List Expr):Option ME:=match ops,bs with
 |[op],[b]=>if behindInMarks op b then none else c2 r c (.cmp op) a b
 |[op,iT],[b,d]=>if lastMarks [op,iT] [b,d] then none else(r.e c a).bind λma=>(r.e c b).bind λmb=>(r.e c d).map λmd=>.chain op iT ma mb md
 |_,_=>none
def WB:Expr->Option (Option Expr×Option Expr×Option Expr)
 |.Slice lo hi st _=>some (lo,hi,st)
 |_=>none
def Gj(a:Expr):Option Expr->Option Expr->Option Expr->Option ME
 |none,some b,none=>c2 r c (.ql false true) a b
 |_,_,_=>none
def IP(a b:Expr):Option ME:=((WB b).bind λq=>Gj r c a q.1 q.2.1 q.2.2).orElse λ_=>if hX b then((c.JE a).bind λkvs=>(r.e c b).map λmb=>.prim .og (.cons (.lit (.tup kvs)) (.cons mb .nil))).orElse λ_=>c2 r c .ix a b else none
def Gi(x:Str)(e:Expr):Option ME:=(zz e).bind λq =>
 if x="list" && q.1="range" && c.blt.contains "list" && c.blt.contains "range" && c.gl "range" then (match q.2 with
  |[a]=>if hX a then c1 r c .jY a else none
  |[a,b]=>if hX a&&hX b then c2 r c .kW a b else none
  | _=>none)
 else if x="sorted" && q.1="set" && c.blt.contains "sorted" && c.blt.contains "set" && c.gl "set" then (match q.2 with
  |[a]=>if hX a then c1 r c .sset a else none
  | _=>none)
 else if x="len" && q.1="set" && c.blt.contains "len" && c.blt.contains "set" && c.gl "set" then (match q.2 with
  |[a]=>if hX a then c1 r c .V3 a else none
  | _=>none)
 else none
def XT(x:Str)(e:Expr):List Expr->Option ME
 |[]=>Gi r c x e
 |_=>none
def FD(x:Str):Option ME:=if pT x&&c.gl x then((c.fns.lookup x).map λf=>.call f .nil).orElse λ_=>(c.cls.lookup x).map λf=>.make x f .nil else none
def FE(x:Str)(e:Expr)(es:List Expr):Option ME:=if pT x&&c.gl x then(XT r c x e es).orElse λ_=>(L0 r c (e::es)).bind λms=>((c.fns.lookup x).map λf=>.call f ms).orElse λ_=>((c.cls.lookup x).map λf=>.make x f ms).orElse λ_=>if c.blt.contains x then(Fc.lookup x).map λp=>.prim p ms else none else none
def LO(x:Str):List Expr->Option ME
 |[]=>FD c x
 |e::es=>FE r c x e es
def FF(o:Expr)(m:Str)(apos pos:Pos)(args:List Expr):Option ME :=
 if zt o && (apos.endLine == pos.line) && decide (args.length < 20) then (r.e c o).bind λmo=>(L0 r c args).bind λms=>if m="index" then none else if args.isEmpty && (xB.lookup m).isSome then (xB.lookup m).map λp=>.eW p mo ms else (match Fp.lookup m with
  |some p=>if args.isEmpty then none else some (.eW p mo ms)
  | none=>none) else none
def EX(f:Expr)(args:List Expr)(jS:List Keyword)(pos:Pos):Option ME:=if jS.isEmpty then(match f with
 |.Name x _=>LO r c x args
 |.Attribute o m apos=>FF r c o m apos pos args
 | _=>none) else none
def Ah(tg e:Expr):Option ME:=(((zz e).bind λq =>
  if q.1="enumerate" then (match q.2 with
   |[a]=>if c.gl "enumerate"&&c.blt.contains "enumerate"&&hX a&&IW tg then(r.e c a).map .lO else none
   | _=>none)
  else if q.1="reversed" then (match q.2 with
   |[a]=>if c.gl "reversed"&&c.blt.contains "reversed"&&hX a then(r.e c a).map .oy else none
   | _=>none)
  else if q.1="range" then (match q.2 with
   |[a]=>if c.gl "range"&&c.blt.contains "range"&&hX a then(r.e c a).map .eL else none
   |[a,b]=>if c.gl "range"&&c.blt.contains "range"&&hX a&&hX b then(r.e c a).bind λma=>(r.e c b).map λmb=>.jA ma mb else none
   | _=>none)
  else none):Option ME).orElse λ_=>if hX e then (r.e c e).map .fk else none
def sY(elt:Expr)(gens:List Comprehension)(sc:Scope):Option ME:=match gens with
 |[⟨tg,it,ifs,GZ⟩]=>if c.DE sc&&decide (GZ=0)&&hX it then((c.inner sc).tg tg).bind λt=>(Ah r c tg it).bind λmi=>(Nq r (c.inner sc) ifs).bind λmc=>(r.e (c.inner sc) elt).map λme=>.comp (c.d6 sc) (frees sc++locals sc).length t mi mc me else none
 |_=>none
def Wz:Expr->Option Str
 |.Name x _=>some x
 |_=>none
def WA:Expr->Option (Expr×List Comprehension×Scope)
 |.SetComp elt gens sc _=>some (elt,gens,sc)
 |_=>none
def XQ:ME->Option ME
 |.comp a n t i k e=>some (.iE a n t i k e)
 |_=>none
def AJ(f:Expr)(args:List Expr)(jS:List Keyword):Option ME:=match args with
 |[a]=>if jS.isEmpty&&decide (Wz f=some "sorted")&&c.gl "sorted"&&c.blt.contains "sorted" then(WA a).bind λq=>(sY r c q.1 q.2.1 q.2.2).bind XQ else none
 |_=>none
def yc(f:Expr)(args:List Expr)(jS:List Keyword):Option ME:=(λ(_:j5)=>none) c
def FJ(es:List Expr)(k:Nat):Option ME:=if c.nr&&decide (k=0) then(match es with
 |[.Constant (.int i) _ _]=>some (.prim (.kO i) .nil)
 | _=>none) else none
def Js:Expr->Option ME
 |.Name x _=>EY c x
 |.Constant k _ _=>(sU k).map .lit
 |.BinOp a op b _=>c2 r c (.bin op) a b
 |.UnaryOp op a _=>AI r c op a
 |.Compare a ops bs _=>xJ r c a ops bs
 |.BoolOp op vs _=>EB r c op vs
 |.IfExp t a b _=>(r.t c t).bind λmt=>(r.e c a).bind λma=>(r.e c b).map λmb=>.ite mt ma mb
 |.Tuple es _ _=>(L0 r c es).map (.prim .tup)
 |.List es _=>(L0 r c es).map (.prim .lst)
 |.Subscript a b _=>IP r c a b
 |.Dict ks vs _=>if ks.isEmpty&&vs.isEmpty then some (.prim .V6 .nil) else none
 |.Attribute o f _=>if zt o then c1 r c (.fld f) o else none
 |.Call f args jS pos=>(AJ r c f args jS).orElse λ_=>(yc c f args jS).orElse λ_=>EX r c f args jS pos
 |.ListComp elt gens sc _=>sY r c elt gens sc
 |.Set es k _=>FJ c es k
 |_=>none
def stepT:Expr->Option ME
 |.UnaryOp op a _=>if op=.Not then(r.t c a).map .eK else none
 |.BoolOp op vs _=>EC r c op vs
 |.Compare a ops bs _=>(xJ r c a ops bs).map .fV
 |e=>if Ef e then(r.e c e).map .fV else none
def Jb:Expr->Option ME
 |.Constant k _ _=>(sU k).map .lit
 |_=>none
def Fe:List Expr->Option ME
 |[]=>some .nil
 |e::es=>(Jb e).bind λm=>(Fe es).map λms=>.cons m ms
def Ja:Expr->Option ME
 |.List es _=>(Fe es).map (.prim .lst)
 |.Constant k _ _=>(sU k).map .lit
 |_=>none
def XZ:List Stmt->Option Expr
 | [s]=>(match s with
  |.Return e _=>e
  | _=>none)
 |_=>none
def Nn:ExceptHandler->Option (Str×Expr)
 |.ExceptHandler t n b _=>if n.isNone then t.bind λt=>(asName t).bind λy=>(XZ b).map λe=>(y,e) else none
def Ag:List ExceptHandler->Option (List (Str×ME))
 |[]=>some []
 |h::hs=>(Nn h).bind λq=>if c.exc.contains q.1&&c.gl q.1&&pT q.1 then(Ja q.2).bind λm=>(Ag hs).map λms=>(q.1,m)::ms else none
def LU(e f:Option Expr):Option (Str×Expr×List Expr):=if f.isNone then e.bind λe=>(zz e).bind λq=>q.2.head?.map λa=>(q.1,a,q.2.tail) else none
def j5.JC(f:Str):List Str:=(c.oK.filter λy=>decide (y.1=f)).map (·.2)
def Fb:List Expr->Option (Expr×Expr×Expr×Expr)
 |_=>none
def IG(tg e:Expr):Option MS:=match tg with
 |.Name x _=>if c.B0 x then(c.idx x).bind λi=>(r.e c e).map λm=>.set i m else none
 |.Tuple es _ _=>(Fb es).elim (if uG e&&B6 e then(c.slots es).bind λis=>(r.e c e).map λm=>.mD (.many is) m else none) λq=>if B6 e&&hX q.2.1&&hX q.2.2.2 then(r.e c q.1).bind λm1=>(r.e c q.2.1).bind λn1=>(r.e c q.2.2.1).bind λm2=>(r.e c q.2.2.2).bind λn2=>(r.e c e).map λm=>.yh m1 n1 m2 n2 m else none
 |.Subscript o i _=>if hX i&&B6 e then(r.e c o).bind λmo=>(r.e c i).bind λmi=>(r.e c e).map λm=>.eQ mo mi m else none
 |.Attribute o f _=>(r.e c o).bind λmo=>(r.e c e).map λm=>.jc f (c.JC f) mo m
 |_=>none
def IY:Operator->Option Pr
 |.Add=>some .iadd
 |.Sub=>some .nJ
 |_=>none
def toR(e:Expr)(m:ME):ME:=(λ(_:j5)=>m) c
def Jt:Stmt->Option MS
 |.Expr e _=>if B6 e then(r.e c e).map .expr else none
 | .Assign AQ e _=>(match AQ with
  |[tg]=>IG r c tg e
  | _=>none)
 | .AugAssign tg op e _=>(match tg with
  |.Name x _=>if c.B0 x then(IY op).bind λp=>(c.idx x).bind λi=>(r.e c e).map λm=>.lg i p m else none
  | _=>none)
 |.If t a b _=>(r.t c t).bind λmt=>(A7 r c a).bind λma=>(A7 r c b).map λmb=>.ifs mt ma mb
 |.For tg it body pL _=>if c.nr&&(pL.isEmpty&&hX it) then(c.tg tg).bind λt=>(Ah r c tg it).bind λmi=>(A7 r c body).map λmb=>.du t mi mb else none
 |.While t body pL _=>if c.nr&&pL.isEmpty then(r.t c t).bind λmt=>(A7 r c body).map λmb=>.kL mt mb else none
 | .Return e _=>(match e with
  |some e=>(r.e c e).map λm=>.ret (toR c e m)
  | none=>some .rh)
 |.Pass _=>some .pass
 |.Raise e f _=>(LU e f).bind λq=>if c.kl&&c.exc.contains q.1&&c.gl q.1&&pT q.1 then(L0 r c (q.2.1::q.2.2)).map (.raise q.1) else none
 |.Try body hs el fi _=>if c.jP&&!hs.isEmpty&&el.isEmpty&&fi.isEmpty then(A7 r { c with kl:=false,jP:=false,wr:=true } body).bind λmb=>(Ag c hs).map λms=>.pV mb ms else none
 |_=>none
end
def comp:Nat->CF
 |0=>⟨λ_ _=>none,λ_ _=>none,λ_ _=>none⟩
 |n+1=>⟨Js (comp n),stepT (comp n),λc s=>(Jt (comp n) c s).orElse λ_=>some (.expr .no)⟩
structure iJ(X:Cx)(c:j5)(P:fS)(Ξ:iQ):Prop where
 N:X.N=c.N
 nd:c.N.Nodup
 loc:∀x,c.nm.lookup x=some .local->X.env.scope.names.lookup x=some .local
 zd:∀x,c.nm.lookup x=some .cell->X.env.scope.names.lookup x=some .cell
 CA:∀x,c.nm.lookup x=some .free->X.env.scope.names.lookup x=some .cell\/X.env.scope.names.lookup x=some .free
 Ih:∀x,c.nm.lookup x=some .globalImplicit->X.env.scope.names.lookup x=some .globalImplicit
 cells:∀x,(c.nm.lookup x=some .cell\/c.nm.lookup x=some .free)->∃a,X.env.cells.lookup x=some a
 nr:∀x,c.nm.lookup x=some .cell->X.fn x=true
 calm:X.calm=true
 units:X.A.units+100<cLine
 own:c.nr=true->PassesOwn (model X.prog X.w) X.A X.env X.xe
 mono:j4 P
 con:∀x d,c.con.lookup x=some d->∃v u,X.mg x=some u/\RelV v u/\∀ρ H,d8 X.K ρ H d v
 blt:∀x,c.blt.contains x=true->X.mg x=none
 fns:∀x f,c.fns.lookup x=some f->∃k fa fd ps,pZ X P Ξ.1 k f fa fd ps/\A5 k X.A/\X.mg x=some (.ref fa)/\PySem.W.keepIn X.K (.ref fa)=true
 cls:∀x f,c.cls.lookup x=some f->∃k C fa fd ps,pZ X P Ξ.1 k f fa fd ps/\A5 (k+1) X.A/\X.mg x=some (.ref C)/\y9 X.K x C/\kG X.K C/\Mk X.K C fa
 qm:∀m y f C,(m,y,f)∈c.qm->y9 X.K y C->∃k fa fd ps,Meth X.K C m fa/\pZ X P Ξ.1 k f fa fd ps/\A5 k X.A
 oK:∀f y C,(f,y)∈c.oK->y9 X.K y C->E1 X.K C f
 yZ:Ξ.1=c.exc
 pass:Passes (jJ X.prog X.w) X Ξ.2
 kl:c.kl=true->zx X Ξ.2
 jP:c.jP=true->X.stack=X.env::X.outer/\X.env.frame=some X.env.locals/\xk X Ξ.2
 exc:∀x,c.exc.contains x=true->∃C,X.mg x=some (.ref C)/\y9 X.K x C/\∃B newId ie bm,OwnCls x C bm newId X.mg X.base/\ExcBaseFacts B newId ie bm
 CG:∀x y C C',c.exc.contains x=true->c.exc.contains y=true->y9 X.K x C->y9 X.K y C'->PySem.W.exmOne X.K (.ref C) (.ref C')=some (decide (x=y\/y="MintError"))
 Cy:∀x kvs,c.gd.lookup x=some kvs->IS X x kvs
 code:c.nr=true->PySem.W.kdsCode X.K X.env.code=true
 sgn:c.wr=true->X.sg=none
theorem TV(h:c.idx x=some i):c.N[i]?=some x:=by
 unfold j5.idx at h;rw[lh] at h;obtain⟨h1,h2,_⟩:=h;rw[ag h1,bj h2]
theorem iJ.ZI(C:iJ X c P Ξ)(h:c.uZ x=true):xK X.env.scope x:=by
 unfold j5.uZ at h;split at h
 ·rename_i e;exact .inl (C.loc x e)
 ·rename_i e;exact .inr (.inl (C.zd x e))
 ·rename_i e;rcases C.CA x e with z|z
  ·exact .inr (.inl z)
  ·exact .inr (.inr z)
 ·cases h
theorem iJ.B7(C:iJ X c P Ξ)(h:c.gl x=true):Gl X x:=C.Ih x (bj h)
theorem iJ.B0(C:iJ X c P Ξ){x:Str}(h:c.B0 x=true):Loc X.env.scope x/\(X.fn x=true\/X.env.scope.names.lookup x=some .local):=by
 unfold j5.B0 at h;rw[fu] at h;rcases h with h|h
 ·have:=C.loc x (bj h);exact⟨.inl this,.inr this⟩
 ·exact⟨.inr (C.zd x (bj h)),.inl (C.nr x (bj h))⟩
theorem iJ.sN(C:iJ X c P Ξ)(h:c.idx x=some i):X.N[i]?=some x:=by rw[C.N];exact TV h
theorem iJ.tM(C:iJ X c P Ξ)(hw:c.wr=true):X.Nd:=⟨by rw[C.N];exact C.nd,C.sgn hw⟩
theorem Ei(h:asName e=some x):∃p,e=.Name x p:=by
 cases e<;>first|(cases h;exact⟨_,rfl⟩)|cases h
theorem M'(h:c.slot e=some i):∃x p,e=.Name x p/\c.B0 x=true/\c.idx x=some i:=by
 obtain⟨x,hx,h2⟩:=aj.mp h;obtain⟨p,rfl⟩:=Ei hx;split at h2
 ·exact⟨x,p,rfl,by assumption,h2⟩
 ·cases h2
theorem iJ.slots(C:iJ X c P Ξ):∀{es:List Expr} {is:List Nat},c.slots es=some is->gA X es is:=by
 intro es
 induction es with
 |nil=>intro is h;cases h;exact .nil
 |cons e r ih =>
  intro is h;obtain⟨i,hi,h⟩:=aj.mp h;obtain⟨is',hs,rfl⟩:=aa.mp h;obtain⟨x,p,rfl,hl,hx⟩:=M' hi;exact .cons (C.sN hx) (C.B0 hl).1 (C.B0 hl).2 (ih hs)
theorem orElse_some{α:Type}{a:Option α}{b:Unit->Option α}{m:α}(h:a.orElse b=some m):a=some m\/b Unit.unit=some m:=by
 cases a with
 |none=>exact .inr h
 |some x=>exact .inl h
theorem iJ.IL(C:iJ X c P Ξ)(hw:c.wr=true){tg:Expr}{t:MT}(h:c.tg tg=some t):PG X tg (LG X.K t):=by
 rcases orElse_some h with h|h
 ·obtain⟨i,hi,rfl⟩:=aa.mp h;obtain⟨x,p,rfl,hl,hx⟩:=M' hi;exact SN (C.tM hw) (C.sN hx) (C.B0 hl).1 (C.B0 hl).2
 ·cases tg<;>first|(cases h;done)|skip
  obtain⟨is,hs,rfl⟩:=aa.mp (show(c.slots _).map MT.many=some t from h);exact Mw C.calm (C.tM hw) (C.slots hs)
theorem u5(h:hX e=true):starEach (e::es) env=(false,eval e env)::starEach es env:=by
 cases e<;>first|rfl|cases h
theorem zO(h:hX e=true):∀x,foldedSetIterable e env x=pure x:=by
 intro x;cases e<;>first|rfl|cases h
theorem Ny(h:hX e=true):Dp e:=by
 intro o i;cases e<;>first|rfl|cases h
theorem Uq{i:Expr}{tp:Pos}(h:hX i=true):∀v,assign (.Subscript o i tp) env v=(do
      let ov <- holding [v] (eval o env)
      let iv <- holding [v,ov] (eval i env)
      standAt tp
      holding [v,ov,iv] (setItem ov iv v)
      release [v,ov,iv] []):=by
  intro v;cases i<;>first|rfl|cases h
theorem Ee{t:Option Expr}(h:B6 e=true):swapsWith e t n env=pure false:=by
 cases e<;>first|rfl|cases h
theorem Wj{k:Nat}{p:Pos}(h:uG e=true):swappedStores [.Tuple es k p] e env=pure none:=by
 cases e<;>first|rfl|cases h
theorem a03(h:Ef e=true):∀whole,isTrue e env whole=(do let v <- whole;standAt e.pos;holding [v] (truthy v)):=by
 intro w;cases e<;>first|rfl|cases h
theorem Z1{q:Str×List Expr}(h:zz e=some q):∃p pos,e=.Call (.Name q.1 p) q.2 [] pos:=by
 cases e<;>first|(cases h;done)|skip
 rename_i f as jS pos;cases f<;>first|(cases h;done)|skip
 cases jS<;>first|(cases h;done)|skip
 cases h;exact⟨_,_,rfl⟩
theorem a54(h:IW e=true):∃es k p,e=.Tuple es k p:=by
 cases e<;>first|exact⟨_,_,_,rfl⟩|cases h
theorem VU{kvs:List D}(h:c.JE b=some kvs):∃x p,b=.Name x p/\c.gl x=true/\pT x=true/\c.gd.lookup x=some kvs:=by
 obtain⟨x,hx,h2⟩:=aj.mp h;obtain⟨p,rfl⟩:=Ei hx;split at h2
 ·rename_i hc;rw[aZ] at hc;exact⟨x,p,rfl,hc.1,hc.2,h2⟩
 ·cases h2
theorem U7{f:Str}(h:zt o=true):attributeBase o f env (eval o env)=eval o env:=by
 cases o<;>first|rfl|skip
 rename_i f as jS pos;cases f<;>first|rfl|skip
 cases as with
 |nil=>cases h
 |cons=>rfl
theorem Dt{env:Env}:∀(names:List (Str×NameKind)) (acc:List (Str×Addr)),(∀y∈names,y.2=.free->∃a,env.cells.lookup y.1=some a)->(∀x a,acc.lookup x=some a->env.cells.lookup x=some a) ->
  ∃ cl,(forIn names acc λ(y:Str × NameKind) (cs:List (Str × Addr))=>(match y with
   |(name,kind)=>if(kind==NameKind.free)=true then do
     let __do_lift <- cellOf env name
     pure (ForInStep.yield ((name,__do_lift)::cs))
    else pure (ForInStep.yield cs):Sem (ForInStep (List (Str × Addr)))))=pure cl/\(∀ x a,cl.lookup x=some a->env.cells.lookup x=some a)/\(∀ y ∈ names,y.2=.free->∃ a,cl.lookup y.1=some a)/\∀ x a,acc.lookup x=some a->∃ a',cl.lookup x=some a'
 |[],acc,_,h2=>⟨acc,rfl,h2,λy hy=>absurd hy (by simp),λx a h=>⟨a,h⟩⟩
 |(n,k)::r,acc,h1,h2=>by
  rw[List.forIn_cons];by_cases hk:k=.free
  ·subst hk;obtain⟨a,ha⟩:=h1 (n,.free) (by simp) rfl;have hc:cellOf env n=pure a:=by unfold cellOf;rw[ha]
   obtain ⟨cl,e,q1,q2,q3⟩:=Dt r ((n,a) :: acc) (λy hy=>h1 y (by simp [hy])) (λx b hb=>by
    rw[dR] at hb;cases hx:x==n with
    |true=>simp_all
    | false=>rw [hx] at hb;exact h2 x b hb)
   refine⟨cl,?_,q1,λy hy hf=>?_,λx b hb=>?_⟩
   ·simp only[beq_self_eq_true,if_true,hc];exact e
   ·rcases aJ.mp hy with z|z
    ·subst z;exact q3 n a (by simp)
    ·exact q2 y z hf
   ·cases hx:x==n with
    |true=>exact q3 x a (by rw[dR,hx])
    |false=>exact q3 x b (by rw[dR,hx];exact hb)
  ·have hb:(k==NameKind.free)=false:=by simpa using hk
   obtain⟨cl,e,q1,q2,q3⟩:=Dt r acc (λy hy=>h1 y (by simp[hy])) h2;refine⟨cl,?_,q1,λy hy hf=>?_,q3⟩
   ·simp only[hb,Bool.false_eq_true,if_false];exact e
   ·rcases aJ.mp hy with z|z
    ·simp_all
    ·exact q2 y z hf
theorem a10{P:Program}{w:World}:Passes (jJ P w) X (λ_ _ _=>False):=λ_ _ _ _ _ _ _ h=>by
 obtain⟨_,_,_,_,_,_,_,z⟩:=h;exact z.elim
theorem S4{env:Env}:∀{names:List (Str×NameKind)} {x:Str},names.lookup x=some .globalImplicit ->
  (names.map λ(n,k)=>if(k==NameKind.free&&env.scope.kind==.function&&env.kindOf n==some .cell) then(n,NameKind.cell) else(n,k)).lookup x=some .globalImplicit
 |[],_,h=>by simp at h
 |(n,k)::r,x,h=>by
  have ih:=@S4 env r x;show List.lookup x ((if(k==NameKind.free&&env.scope.kind==.function&&env.kindOf n==some .cell)=true then(n,NameKind.cell) else(n,k))::_)=_;cases hx:x==n with
  |true =>
   simp only[List.lookup_cons,hx] at h;cases h;simp[List.lookup_cons,hx]
  |false =>
   simp only[List.lookup_cons,hx] at h;by_cases hc:(k==NameKind.free&&env.scope.kind==.function&&env.kindOf n==some .cell)=true
   ·rw[aG hc];simp only[List.lookup_cons,hx];exact ih h
   ·rw[aD hc];simp only[List.lookup_cons,hx];exact ih h
theorem iJ.comp(C:iJ X c P Ξ){sc:Scope}(h:c.DE sc=true):∃cl,dA X sc (frees sc++locals sc) (c.d6 sc) cl/\∀pins A s H fp,iJ (f9 X pins sc (frees sc++locals sc) cl A s H fp) (c.inner sc) P (oN Ξ.1):=by
 unfold j5.DE at h;simp only[Bool.and_eq_true,decide_eq_true_eq,List.all_eq_true] at h;obtain⟨⟨⟨⟨h1,h2⟩,h3⟩,h4⟩,h5⟩:=h;have fr:∀x∈frees sc,(∃i,c.idx x=some i)/\sc.names.lookup x=some .free/\(c.nm.lookup x=some .cell\/c.nm.lookup x=some .free):=λx hx=>by
  have:=h5 x hx;rw[fg,fu] at this;simp only[decide_eq_true_eq] at this;exact⟨this.1.1,this.1.2,this.2⟩
 have sE:∀y∈sc.names,y.2=.free->∃a,X.env.cells.lookup y.1=some a:=λy hy hf=>by
  have hm:y.1∈frees sc:=aN.mpr ⟨y,bL.mpr ⟨hy,by simp[hf]⟩,rfl⟩;exact C.cells y.1 (fr y.1 hm).2.2
 obtain⟨cl,e,q1,q2,_⟩:=Dt sc.names [] sE (λx a h=>by simp at h);have h2:∀y∈sc.names,y.2=.cell->sc.names.lookup y.1=some .cell:=λy hy hl=>by
  have:=h2 y hy
  simp_all
 refine⟨cl,⟨h1,h2,λy hy hl=>?_,?_,q1,λx hx=>q2 (x,.free) (aT hx) rfl,h4,λi j jF=>?_,?_⟩,λpins A s H fp=>?_⟩
 ·grind
 ·simp only[closureFor];rw[e]
  rfl
 ·unfold j5.d6 at jF;rw[ai] at jF;cases ex:(frees sc)[i]? with
  |none=>simp_all
  |some x =>
   rw[ex] at jF;have hx:x∈frees sc:=aF ex;obtain⟨⟨k,hk⟩,hl,hc⟩:=fr x hx;have hj:k=j:=by
    have:=aP jF;dsimp only at this;rw[hk] at this;exact this
   subst hj;refine⟨x,?_,C.sN hk,hl,?_⟩
   ·rw[aK (av.mp ex).1];exact ex
   ·rcases hc with z|z
    ·exact .inl (C.zd x z)
    ·exact C.CA x z
 ·unfold j5.d6;simp
 ·refine⟨rfl,h4,λx hx=>lookup_relabel_local hx,λx hx=>?_,λx hx=>H9 hx,λx hx=>S4 hx,λx hx=>?_,λx _=>?_,rfl,C.units,(λ_=>PassesOwn.never),C.mono,C.con,C.blt,C.fns,C.cls,C.qm,C.oK,C.yZ,a10,(λz=>by cases z),(λz=>by cases z),C.exc,C.CG,C.Cy,(λz=>by cases z),λ_=>rfl⟩
  ·exact O6 hx
  ·rcases hx with hx|hx
   ·exact JR (.inl hx)
   ·exact JR (.inr (q2 (x,.free) (aT hx) rfl))
  ·exact ay ‹_›
theorem P4(h:pT x=true):(x==("__debug__":Str))=false/\(x==("__classdict__":Str))=false/\x≠"__name__":=by
 unfold pT at h;simp only[Bool.and_eq_true,decide_eq_true_eq,beq_iff_eq] at h;exact⟨h.1.1,h.1.2,h.2⟩
theorem a63{t:String}(h:ET.lookup x=some t):bootBuiltins x=some (.type t):=by
 have hm:=aT h;simp only[ET,List.mem_cons,List.mem_nil_iff,or_false] at hm;rcases hm with z|z|z|z|z<;>(cases z;first|exact xW|exact PyProof.Rows.boot_bool|exact PyProof.Rows.boot_str|exact tu|exact uS|decide +kernel|rfl)
theorem a52(hc:X.calm=true)(hu:X.A.units+100<cLine)(h:Fc.lookup x=some p):∃v,((∃id,v=.builtin id)\/∃T,v=.type T)/\bootBuiltins x=some v/\p9 X v (rN X.K p):=by
 have hm:=aT h;simp only[Fc,List.mem_cons,List.mem_nil_iff,or_false] at hm;rcases hm with z|z|z|z|z|z|z|z|z|z|z|z
 ·cases z;exact⟨.builtin "len",.inl ⟨_,rfl⟩,PySem.boot_len,bC0⟩
 ·cases z;exact⟨.type "list",.inr ⟨_,rfl⟩,by first|exact uS|decide +kernel,Ug hc⟩
 ·cases z;exact⟨.type "tuple",.inr ⟨_,rfl⟩,by first|exact tu|decide +kernel,a65⟩
 ·cases z;exact⟨.builtin "isinstance",.inl ⟨_,rfl⟩,by first|exact PyProof.Rows.boot_isinstance|decide +kernel,TZ⟩
 ·cases z;exact⟨.builtin "all",.inl ⟨_,rfl⟩,by first|exact PyProof.Rows.boot_all|decide +kernel,ZQ hc⟩
 ·cases z;exact⟨.builtin "max",.inl ⟨_,rfl⟩,by first|exact PyProof.Rows.boot_max|decide +kernel,bB1 hc⟩
 ·cases z;exact⟨.builtin "min",.inl ⟨_,rfl⟩,by first|exact PyProof.Rows.boot_min|decide +kernel,bA9 hc hu⟩
 ·cases z;exact⟨.type "int",.inr ⟨_,rfl⟩,by first|exact xW|decide +kernel,bD0⟩
 ·cases z;exact⟨.type "dict",.inr ⟨_,rfl⟩,by first|exact PyProof.Rows.boot_dict|decide +kernel,VN hc⟩
 ·cases z;exact⟨.builtin "sorted",.inl ⟨_,rfl⟩,by first|exact PyProof.Rows.boot_sorted|decide +kernel,a73 hc⟩
 ·cases z;exact⟨.builtin "sum",.inl ⟨_,rfl⟩,by first|exact PyProof.Rows.boot_sum|decide +kernel,Ta hc⟩
 ·cases z;exact⟨.type "set",.inr ⟨_,rfl⟩,by first|exact PyProof.Rows.boot_set|decide +kernel,Ud hc⟩
theorem aT5(h:xB.lookup x=some p):∃T id,PlainAttrs T/\Slot T x id/\typeOf (.builtin id)=pure (.type "method_descriptor")/\mP X id (rM X.K p) /\
  ∀{d:D} {v:V} {g:G} {ρ:List Addr} {H:Hp},Rl X.K ρ g H->d8 X.K ρ H d v->mF p d g->ow X.K T v H:=by
 have hm:=aT h;simp only[xB,List.mem_cons,List.mem_nil_iff,or_false] at hm;rcases hm with z|z
 ·cases z;exact⟨_,_,fE,PySem.F.slot_list_clear,PySem.F.type_list_clear,VH,λR r h=>ty_list R r h⟩
 ·cases z;exact⟨_,_,fE,xV,xU,UI,λR r h=>ty_list R r h⟩
theorem a22(hu:X.A.units+100<cLine)(h:Fp.lookup x=some p):∃T id,PlainAttrs T/\Slot T x id/\typeOf (.builtin id)=pure (.type "method_descriptor")/\mP X id (rM X.K p) /\
  ∀{d:D} {v:V} {g:G} {ρ:List Addr} {H:Hp},Rl X.K ρ g H->d8 X.K ρ H d v->mF p d g->ow X.K T v H:=by
 have hm:=aT h;simp only[Fp,List.mem_cons,List.mem_nil_iff,or_false] at hm;rcases hm with z|z|z|z
 ·cases z;exact⟨_,_,fE,PySem.F.slot_list_append,PySem.F.type_list_append,a56,λR r h=>ty_list R r h⟩
 ·cases z;exact⟨_,_,fE,xV,xU,a98,λR r h=>ty_list R r h⟩
 ·cases z;exact⟨_,_,PySem.F.plainAttrs_dict,js,PySem.F.type_dict_get,ZY hu,λR r h=>ty_dict R r h⟩
 ·cases z;exact⟨_,_,PySem.F.plainAttrs_set,PySem.F.slot_set_add,PySem.F.type_set_add,UZ,λR r h=>ty_set R r h⟩
theorem Ng{pos:Pos}{env:Env}:∀{es:List Expr},(∀e∈es,hX e=true)->(backTo pos (starEach es env)).all (λx=>!x.1)=true
 |[],_=>rfl
 |e::es,h=>by
  rw[u5 (h e (by simp))];have ih:=Ng (pos:=pos) (env:=env) (es:=es) λx hx=>h x (by simp[hx]);unfold backTo at ih ⊢;rw[cS,List.all_cons,ih]
  rfl
theorem zS{pos:Pos}{env:Env}:∀{es:List Expr},(∀e∈es,hX e=true)->(backTo pos (starEach es env)).any (·.1)=false
 |[],_=>rfl
 |e::es,h=>by
  rw[u5 (h e (by simp))];have ih:=zS (pos:=pos) (env:=env) (es:=es) λx hx=>h x (by simp[hx]);unfold backTo at ih ⊢;rw[cS,kA,ih]
  rfl
theorem DI:∀{es:List Expr} {m:ME},L0 r c es=some m->∀e∈es,hX e=true:=by
 intro es
 induction es with
 |nil=>intro m _ e he;simp_all
 |cons a es ih =>
  intro m h e he;unfold L0 at h;split at h
  ·obtain⟨m1,h1,h⟩:=aj.mp h;obtain⟨m2,h2,_⟩:=aa.mp h;rcases aJ.mp he with z|z
   ·rw[z];assumption
   ·exact ih h2 e z
  ·cases h
structure qQ(P:fS)(r:CF):Prop where
 e:∀X c Ξ,iJ X c P Ξ->∀e m,r.e c e=some m->PE X e (LE X.K Ξ (bq P m))
 t:∀X c Ξ,iJ X c P Ξ->∀e m,r.t c e=some m->PT X e (LT X.K Ξ (eP P m))
 s:∀X c Ξ,iJ X c P Ξ->c.wr=true->∀st m,r.s c st=some m->PS X st (LS X.K Ξ (wpS P m))
section
variable(S:qQ P r)(C:iJ X c P Ξ){a:Expr}
include S C
theorem xo(h:c1 r c p a=some m):∃ma,PE X a (LE X.K Ξ (bq P ma))/\m=.prim p (.cons ma .nil):=by
 obtain⟨ma,ha,rfl⟩:=aa.mp h;exact⟨ma,S.e X c Ξ C _ _ ha,rfl⟩
theorem xp(h:c2 r c p a b=some m):∃ma mb,PE X a (LE X.K Ξ (bq P ma))/\PE X b (LE X.K Ξ (bq P mb))/\m=.prim p (.cons ma (.cons mb .nil)):=by
 obtain⟨ma,ha,h⟩:=aj.mp h;obtain⟨mb,hb,rfl⟩:=aa.mp h;exact⟨ma,mb,S.e X c Ξ C _ _ ha,S.e X c Ξ C _ _ hb,rfl⟩
theorem vA:∀{es:List Expr} {m:ME},L0 r c es=some m->PA X es (LA X.K Ξ (hV P m)):=by
 intro es
 induction es with
 |nil=>intro m h;cases h;exact L4 C.mono
 |cons a es ih =>
  intro m h;unfold L0 at h;split at h
  ·rename_i bY;obtain⟨m1,h1,h⟩:=aj.mp h;obtain⟨m2,h2,rfl⟩:=aa.mp h;exact C4 C.mono (S.e X c Ξ C _ _ h1) (ih h2) (u5 bY)
  ·cases h
theorem OM{op:BoolOp}:∀{vs:List Expr} {m:ME},EB r c op vs=some m->PE X (.BoolOp op vs pos) (LE X.K Ξ (bq P m)):=by
 intro vs
 induction vs with
 |nil=>intro m h;cases h
 |cons a vs ih =>
  intro m h;cases vs with
  |nil=>exact Sb (S.e X c Ξ C _ _ h)
  |cons b vs =>
   obtain⟨m1,h1,h⟩:=aj.mp h;obtain⟨m2,h2,rfl⟩:=aa.mp h;cases op
   ·exact SE C.mono (S.e X c Ξ C _ _ h1) (ih h2)
   ·exact Zn C.mono (S.e X c Ξ C _ _ h1) (ih h2)
theorem OI{op:BoolOp}:∀{vs:List Expr} {m:ME},EC r c op vs=some m->PW X (.BoolOp op vs pos) (LT X.K Ξ (eP P m)):=by
 intro vs
 induction vs with
 |nil=>intro m h;cases h
 |cons a vs ih =>
  intro m h;cases vs with
  |nil =>
   cases op
   ·exact US (S.t X c Ξ C _ _ h)
   ·exact Sw (S.t X c Ξ C _ _ h)
  |cons b vs =>
   obtain⟨m1,h1,h⟩:=aj.mp h;obtain⟨m2,h2,rfl⟩:=aa.mp h;cases op
   ·exact Tb C.mono (S.t X c Ξ C _ _ h1) (ih h2)
   ·exact Zs C.mono (S.t X c Ξ C _ _ h1) (ih h2)
theorem Xd(h:Nq r c es=some m):lT X es (LT X.K Ξ (eP P m)):=by
 rcases es with _|⟨e,_|⟨_,_⟩⟩
 ·cases h;exact Vo C.mono
 ·exact UQ (S.t X c Ξ C _ _ h)
 ·cases h
theorem uw(hw:c.wr=true):∀{Gu:List Stmt} {m:MS},A7 r c Gu=some m->jL X Gu (LS X.K Ξ (wpS P m)):=by
 intro es
 induction es with
 |nil=>intro m h;cases h;exact LB C.mono
 |cons a es ih =>
  intro m h;obtain⟨m1,h1,h⟩:=aj.mp h;obtain⟨m2,h2,rfl⟩:=aa.mp h;exact Mx C.mono (S.s X c Ξ C hw _ _ h1) (ih h2)
end
theorem Lc{t:Expr}(h:B6 e=true):swapsWithSole [t] e n env=pure false:=by
 exact Ee h
theorem iJ.pV(C:iJ X c P Ξ)(hw:c.wr=true)(eT:X.stack=X.env::X.outer)(hf:X.env.frame=some X.env.locals)(pins:List (Addr×Obj))(D:L2.Ends)(hs:List ExceptHandler){o:Option L2.St}{de:L2.St}{w:Bool}(Bo:∀U:L2.St,U.length=X.N.length->(∀τ,o=some τ->U=τ)->de.length=U.length/\∀(i:Nat) v,de[i]?=some (some v)->U[i]?=some (some v))(ho:w=true->o=none) :
  iJ (V9 X pins (Au X pins D hs) o) { c with kl:=false,jP:=false,wr:=w } P (Ab X Ξ.1 D de hs) :=
 ⟨C.N,C.nd,C.loc,C.zd,C.CA,C.Ih,C.cells,C.nr,C.calm,C.units,(λ_=>PassesOwn.looking),C.mono,C.con,C.blt,C.fns,C.cls,C.qm,C.oK,C.yZ,Wl (C.sgn hw) eT hf Bo λC H' ⟨C',e,z⟩=>(by simp_all),(λz=>by cases z),(λz=>by cases z),C.exc,C.CG,C.Cy,C.code,ho⟩
section
variable(S:qQ P r)(C:iJ X c P Ξ){a d:Expr}
include C
theorem bA5(h:EY c x=some m):PE X (.Name x pos) (LE X.K Ξ (bq P m)):=by
 unfold EY at h;split at h
 ·rename_i iA;obtain⟨d1,d2,d3⟩:=P4 iA;split at h
  ·rename_i hv;obtain⟨i,hi,rfl⟩:=aa.mp h;exact SK (C.sN hi) (C.ZI hv) d1 d2
  ·split at h
   ·rename_i hg;rcases orElse_some h with h|h
    ·obtain⟨d,hd,rfl⟩:=aa.mp h;obtain⟨v,u,hm,r,rr⟩:=C.con x d hd;exact Z4 (Mo (C.B7 hg) hm r d1) rr
    ·split at h
     ·rename_i hb;obtain⟨t,ht,rfl⟩:=aa.mp h;exact Z4 (v:=.ty t) (Uy (C.B7 hg) (C.blt x hb) (a63 ht) rfl d3 d1) λ_ _=>.ty t
     ·cases h
   ·cases h
 ·cases h
omit C in
theorem Bf{k:Const}{j:Nat}{d:D}(h:sU k=some d):PE X (.Constant k j pos) (LE X.K Ξ (bq P (.lit d))):=by
 cases k<;>first|(cases h;done)|skip
 ·cases h;exact Z4 RZ λ_ _=>.bD
 ·cases h;exact Z4 Zc λ_ _=>.bl _
 ·cases h;exact Z4 RX λ_ _=>.int _
 ·cases h;exact Z4 Sd λ_ _=>.str _
include S
theorem Xe{op:UnaryOp}(h:AI r c op a=some m):PE X (.UnaryOp op a pos) (LE X.K Ξ (bq P m)):=by
 unfold AI at h;split at h
 ·rename_i ho;subst ho;obtain⟨ma,ha,rfl⟩:=aa.mp h;exact SI C.mono (S.e X c Ξ C _ _ ha)
 ·obtain⟨ma,ha,rfl⟩:=xo S C h;exact Zo C.mono ha
theorem Jm{ops:List CmpOp}{bs:List Expr}(h:xJ r c a ops bs=some m):PE X (.Compare a ops bs pos) (LE X.K Ξ (bq P m))/\PT X (.Compare a ops bs pos) (LT X.K Ξ (eP P (.fV m))):=by
 unfold xJ at h;split at h
 ·rename_i op b;split at h
  ·cases h
  ·rename_i hm;have hm:behindInMarks op b=false:=by simpa using hm
   obtain⟨ma,mb,ha,hb,rfl⟩:=xp S C h;exact⟨Fv C.mono (UA (uO C.units op) ha hb hm),SX C.mono (UO (uO C.units op) ha hb hm)⟩
 ·split at h
  ·cases h
  ·rename_i hm;obtain⟨ma,ha,h⟩:=aj.mp h;obtain⟨mb,hb,h⟩:=aj.mp h;obtain⟨md,hd,rfl⟩:=aa.mp h;exact⟨a81 C.mono C.units (S.e X c Ξ C _ _ ha) (S.e X c Ξ C _ _ hb) (S.e X c Ξ C _ _ hd) (by simpa using hm),a72 C.mono C.units (S.e X c Ξ C _ _ ha) (S.e X c Ξ C _ _ hb) (S.e X c Ξ C _ _ hd) (by simpa using hm)⟩
 ·cases h
theorem Xb{lo hi st:Option Expr}{p2:Pos}(h:Gj r c a lo hi st=some m):PE X (.Subscript a (.Slice lo hi st p2) pos) (LE X.K Ξ (bq P m)):=by
 cases lo<;>cases hi<;>cases st<;>first|(cases h;done)|skip
 ·obtain⟨ma,mb,ha,hb,rfl⟩:=xp S C h;exact a75 C.mono ha hb
theorem YT(h:IP r c a b=some m):PE X (.Subscript a b pos) (LE X.K Ξ (bq P m)):=by
 rcases orElse_some h with h|h
 ·obtain⟨q,hq,h⟩:=aj.mp h;have eb:∃p,b=.Slice q.1 q.2.1 q.2.2 p:=by cases b<;>first|(cases hq;exact⟨_,rfl⟩)|cases hq
  obtain⟨p,rfl⟩:=eb;exact Xb S C h
 ·split at h
  ·rename_i hb;rcases orElse_some h with h|h
   ·obtain⟨kvs,hk,h⟩:=aj.mp h;obtain⟨mb,lA,rfl⟩:=aa.mp h;obtain⟨x,p,rfl,hg,hd,hk⟩:=VU hk;exact Vb C.mono (C.B7 hg) (P4 hd).1 (C.Cy x kvs hk) (S.e X c Ξ C _ _ lA) (Ny hb)
   ·obtain⟨ma,mb,ha,lA,rfl⟩:=xp S C h;exact Fv C.mono (Jn (YC C.units) ha lA (Ny hb))
  ·cases h
theorem Xc{px:Pos}(hg:c.gl x=true)(h:Gi r c x e=some m):PE X (.Call (.Name x px) [e] [] pos) (LE X.K Ξ (bq P m)):=by
 obtain⟨q,hq,h'⟩:=aj.mp h;clear h;have h:=h';clear h';obtain⟨p,pos',rfl⟩:=Z1 hq;obtain⟨y,as⟩:=q;dsimp only at h ⊢;split at h
 ·rename_i hc;simp only[Bool.and_eq_true,decide_eq_true_eq] at hc;obtain⟨⟨⟨⟨rfl,rfl⟩,hl⟩,hr⟩,tU⟩:=hc;rcases as with _|⟨a,_|⟨b,_|⟨_,_⟩⟩⟩
  ·cases h
  ·dsimp only at h;split at h
   ·rename_i ho;obtain⟨ma,ha,rfl⟩:=xo S C h;exact a80 C.mono C.calm ha (C.B7 hg) (C.blt _ hl) (C.B7 tU) (C.blt _ hr) (u5 ho)
   ·cases h
  ·dsimp only at h;split at h
   ·rename_i ho;rw[aZ] at ho;obtain⟨ma,mb,ha,hb,rfl⟩:=xp S C h;exact a79 C.mono C.calm ha hb (C.B7 hg) (C.blt _ hl) (C.B7 tU) (C.blt _ hr) (by rw[u5 ho.1,u5 ho.2];rfl) (u5 ho.2)
   ·cases h
  ·cases h
 ·split at h
  ·rename_i hc;simp only[Bool.and_eq_true,decide_eq_true_eq] at hc;obtain⟨⟨⟨⟨rfl,rfl⟩,hl⟩,hr⟩,tU⟩:=hc;rcases as with _|⟨a,_|⟨_,_⟩⟩
   ·cases h
   ·dsimp only at h;split at h
    ·rename_i ho;obtain⟨ma,ha,rfl⟩:=xo S C h;exact Vg C.mono C.calm ha (C.B7 hg) (C.blt _ hl) (C.B7 tU) (C.blt _ hr) (u5 ho)
    ·cases h
   ·cases h
  ·split at h
   ·rename_i hc;simp only[Bool.and_eq_true,decide_eq_true_eq] at hc;obtain⟨⟨⟨⟨rfl,rfl⟩,hl⟩,hr⟩,tU⟩:=hc;rcases as with _|⟨a,_|⟨_,_⟩⟩
    ·cases h
    ·dsimp only at h;split at h
     ·rename_i ho;obtain⟨ma,ha,rfl⟩:=xo S C h;exact Vc C.mono C.calm ha (C.B7 hg) (C.blt _ hl) (C.B7 tU) (C.blt _ hr) (u5 ho)
     ·cases h
    ·cases h
   ·cases h
theorem Uo{px:Pos}(h:LO r c x args=some m):PE X (.Call (.Name x px) args [] pos) (LE X.K Ξ (bq P m)):=by
 cases args with
 |nil =>
  have h2:FD c x=some m:=h;unfold FD at h2;split at h2
  ·rename_i iA;rw[aZ] at iA;rcases orElse_some h2 with h2|h2
   ·obtain⟨f,hf,rfl⟩:=aa.mp h2;obtain⟨k,fa,fd,ps,F,hr,hm,hk⟩:=C.fns x f hf;exact a82 C.mono C.pass F hr (C.B7 iA.2) hm hk (P4 iA.1).1
   obtain⟨f,hf,rfl⟩:=aa.mp h2;obtain⟨k,C',fa,fd,ps,F,hr,hm,hC,kE,M⟩:=C.cls x f hf;exact a78 C.mono C.pass F M hC kE hr (C.B7 iA.2) hm (P4 iA.1).1
  ·cases h2
 |cons e es =>
  have h0:FE r c x e es=some m:=h;clear h;have h:=h0;clear h0;unfold FE at h;split at h
  ·rename_i iA;rw[aZ] at iA;obtain⟨d1,d2,d3⟩:=P4 iA.1;rcases orElse_some h with h|h
   ·cases es with
    |nil=>exact Xc S C iA.2 h
    |cons _ _=>cases h
   ·obtain⟨ms,tR,h⟩:=aj.mp h;have ok:=DI tR;have pa:=vA S C tR;have eT:=u5 (env:=X.env) (es:=es) (ok e (by simp));have gZ:=zS (pos:=pos) (env:=X.env) (es:=es) λz hz=>ok z (by simp[hz]);rcases orElse_some h with h|h
    ·obtain⟨f,hf,rfl⟩:=aa.mp h;obtain⟨k,fa,fd,ps,F,hr,hm,hk⟩:=C.fns x f hf;exact U' C.mono C.pass F hr (C.B7 iA.2) hm hk pa d1 eT gZ
    ·rcases orElse_some h with h|h
     ·obtain⟨f,hf,rfl⟩:=aa.mp h;obtain⟨k,C',fa,fd,ps,F,hr,hm,hC,kE,M⟩:=C.cls x f hf;exact Vd C.mono C.pass F M hC kE hr (C.B7 iA.2) hm pa d1 eT gZ
     ·split at h
      ·rename_i hb;obtain⟨p,hp,rfl⟩:=aa.mp h;obtain⟨v,hv,BS,hc⟩:=a52 (X:=X) C.calm C.units hp;exact SF C.mono hv hc (C.B7 iA.2) (C.blt x hb) BS pa d3 d1 eT gZ
      ·cases h
  ·cases h
theorem Um{mt:Str}{apos:Pos}(h:FF r c o mt apos pos args=some m):PE X (.Call (.Attribute o mt apos) args [] pos) (LE X.K Ξ (bq P m)):=by
 unfold FF at h;split at h
 ·rename_i hc;simp only[Bool.and_eq_true,decide_eq_true_eq] at hc;obtain⟨⟨hb,hl⟩,hn⟩:=hc;obtain⟨mo,ho,h⟩:=aj.mp h;obtain⟨ms,tR,h⟩:=aj.mp h;have ok:=DI tR;have pa:=vA S C tR;have po:=S.e X c Ξ C _ _ ho;have hf:methodCallForm args.length (backTo pos (starEach args X.env)) (backToKw pos (keywordEach [] X.env))=true:=by
   unfold methodCallForm;rw[Ng ok];have:args.length+0<30:=by omega
   show(true&&true&&decide (args.length+0<30))=true;rw[ay this]
   rfl
  by_cases wg:mt="index"
  ·subst wg;rw[aG rfl] at h;cases h
  rw[aD wg] at h;cases args with
  |nil =>
   cases tR;by_cases h0:(xB.lookup mt).isSome=true
   ·rw[aG (by rw[h0];rfl)] at h;obtain⟨p,hp,rfl⟩:=aa.mp h;obtain⟨T,id,AZ,sl,ty,Bg,hk⟩:=aT5 (X:=X) hp;exact a77 C.mono AZ sl ty Bg hk po (U7 hb) hl
   rw[aD (by rw[aZ];exact λz=>h0 z.2)] at h;split at h
   ·cases h
   ·cases h
  |cons e es =>
   have eT:=u5 (env:=X.env) (es:=es) (ok e (by simp));have gZ:=zS (pos:=pos) (env:=X.env) (es:=es) λz hz=>ok z (by simp[hz]);rw[aD (by simp)] at h;split at h
   ·rename_i p hp;cases h;obtain⟨T,id,AZ,sl,ty,Bg,hk⟩:=a22 (X:=X) C.units hp;exact Ve C.mono AZ sl ty Bg hk po pa (U7 hb) hf hl eT gZ
   ·cases h
 ·cases h
theorem GP{tg:Expr}(h:Ah r c tg e=some m):PI X tg e (LI X.K Ξ (iz P m)):=by
 rcases orElse_some h with h|h
 ·obtain⟨q,hq,h'⟩:=aj.mp h;rename_i h0;clear h h0;have h:=h';clear h';obtain⟨p,pos',rfl⟩:=Z1 hq;obtain⟨y,as⟩:=q;dsimp only at h ⊢;split at h
  ·rename_i hy;subst hy;rcases as with _|⟨a,_|⟨_,_⟩⟩
   ·cases h
   ·dsimp only at h;split at h
    ·rename_i hc;simp only[Bool.and_eq_true] at hc;obtain⟨⟨⟨hg,hb⟩,ho⟩,ht⟩:=hc;obtain⟨ma,ha,rfl⟩:=aa.mp h;obtain⟨es,k,tp,rfl⟩:=a54 ht;exact Vk C.mono (S.e X c Ξ C _ _ ha) (C.B7 hg) (C.blt _ hb) (u5 ho)
    ·cases h
   ·cases h
  ·split at h
   ·rename_i hy;subst hy;rcases as with _|⟨a,_|⟨_,_⟩⟩
    ·cases h
    ·dsimp only at h;split at h
     ·rename_i hc;simp only[Bool.and_eq_true] at hc;obtain⟨⟨hg,hb⟩,ho⟩:=hc;obtain⟨ma,ha,rfl⟩:=aa.mp h;exact SO C.mono (S.e X c Ξ C _ _ ha) (C.B7 hg) (C.blt _ hb) (u5 ho)
     ·cases h
    ·cases h
   split at h
   ·rename_i hy;subst hy;rcases as with _|⟨a,_|⟨b,_|⟨_,_⟩⟩⟩
    ·cases h
    ·dsimp only at h;split at h
     ·rename_i hc;simp only[Bool.and_eq_true] at hc;obtain⟨⟨hg,hb⟩,ho⟩:=hc;obtain⟨ma,ha,rfl⟩:=aa.mp h;exact Vl C.mono (S.e X c Ξ C _ _ ha) (C.B7 hg) (C.blt _ hb) (u5 ho)
     ·cases h
    ·dsimp only at h;split at h
     ·rename_i hc;simp only[Bool.and_eq_true] at hc;obtain⟨⟨⟨hg,hb⟩,ho⟩,vW⟩:=hc;obtain⟨ma,ha,h⟩:=aj.mp h;obtain⟨mb,lA,rfl⟩:=aa.mp h;exact Vm C.mono (S.e X c Ξ C _ _ ha) (S.e X c Ξ C _ _ lA) (C.B7 hg) (C.blt _ hb) (by rw[u5 ho,u5 vW];rfl) (u5 vW)
     ·cases h
    ·cases h
   ·cases h
 ·split at h
  ·obtain⟨ma,ha,rfl⟩:=aa.mp h;exact SQ C.mono (S.e X c Ξ C _ _ ha)
  ·cases h
theorem DD{elt:Expr}{gens:List Comprehension}{sc:Scope}(h:sY r c elt gens sc=some m):∃tg it ifs t mi mc me cl,gens=[⟨tg,it,ifs,0⟩]/\m=.comp (c.d6 sc) (frees sc++locals sc).length t mi mc me/\hX it=true /\
  dA X sc (frees sc++locals sc) (c.d6 sc) cl/\PI X tg it (LI X.K Ξ (iz P mi))/\(∀pins A s H fp,PG (f9 X pins sc (frees sc++locals sc) cl A s H fp) tg (LG X.K t)) /\
   (∀pins A s H fp,lT (f9 X pins sc (frees sc++locals sc) cl A s H fp) ifs (LT X.K (oN Ξ.1) (eP P mc)))/\(∀pins A s H fp,PE (f9 X pins sc (frees sc++locals sc) cl A s H fp) elt (LE X.K (oN Ξ.1) (bq P me))):=by
 unfold sY at h;rcases gens with _|⟨⟨tg,it,ifs,GZ⟩,_|⟨_,_⟩⟩
 ·cases h
 ·dsimp only at h;split at h
  ·rename_i hs;simp only[Bool.and_eq_true,decide_eq_true_eq] at hs;obtain⟨⟨hs,rfl⟩,hit⟩:=hs;obtain⟨t,h1,h⟩:=aj.mp h;obtain⟨mi,h2,h⟩:=aj.mp h;obtain⟨mc,h3,h⟩:=aj.mp h;obtain⟨me,h4,rfl⟩:=aa.mp h;obtain⟨cl,Sc,I⟩:=C.comp hs;exact⟨tg,it,ifs,t,mi,mc,me,cl,rfl,rfl,hit,Sc,GP S C h2,λpins A s H fp=>(I pins A s H fp).IL rfl h1,λpins A s H fp=>Xd S (I pins A s H fp) h3,λpins A s H fp=>S.e _ _ _ (I pins A s H fp) elt me h4⟩
  ·cases h
 ·cases h
omit S in
theorem Xa{f:Expr}{jS:List Keyword}(h:yc c f args jS=some m):PE X (.Call f args jS pos) (LE X.K Ξ (bq P m)):=by
 unfold yc at h;cases h
theorem OL:∀e m,Js r c e=some m->PE X e (LE X.K Ξ (bq P m)):=by
 intro e m h;cases e with
 |Name x p=>exact bA5 C h
 |Constant k j p =>
  obtain⟨d,hd,rfl⟩:=aa.mp (show(sU k).map ME.lit=some m from h);exact Bf hd
 |BinOp a op b p =>
  obtain⟨ma,mb,ha,hb,rfl⟩:=xp S C h;exact Fv C.mono (Ze (bA2 op) ha hb)
 |UnaryOp op a p=>exact Xe S C h
 |Compare a ops bs p=>exact(Jm S C h).1
 |BoolOp op vs p=>exact OM S C h
 |IfExp t a b p =>
  obtain⟨mt,ht,h⟩:=aj.mp h;obtain⟨ma,ha,h⟩:=aj.mp h;obtain⟨mb,hb,rfl⟩:=aa.mp h;exact SH C.mono (S.t X c Ξ C _ _ ht) (S.e X c Ξ C _ _ ha) (S.e X c Ξ C _ _ hb)
 |Tuple es k p =>
  obtain⟨ma,ha,rfl⟩:=aa.mp h;exact SJ C.mono (vA S C ha)
 |List es p =>
  obtain⟨ma,ha,rfl⟩:=aa.mp h;exact Lz C.mono (vA S C ha)
 |Subscript a b p=>exact YT S C h
 |Dict ks vs p =>
  have h2:(if ks.isEmpty&&vs.isEmpty then some (ME.prim .V6 .nil) else none)=some m:=h;split at h2
  ·rename_i hc;cases ks<;>cases vs<;>first|(cases hc;done)|skip
   cases h2;exact Va
  ·cases h2
 |Attribute o f p =>
  have h2:(if zt o then c1 r c (.fld f) o else none)=some m:=h;split at h2
  ·rename_i hb;obtain⟨ma,ha,rfl⟩:=xo S C h2;exact SG C.mono ha (U7 hb)
  ·cases h2
 |Call f args jS pos =>
  have h1:((AJ r c f args jS).orElse λ_=>(yc c f args jS).orElse λ_=>EX r c f args jS pos)=some m:=h;rcases orElse_some h1 with h2|h2
  ·unfold AJ at h2;rcases args with _|⟨a,_|⟨_,_⟩⟩
   ·cases h2
   ·dsimp only at h2;split at h2
    ·rename_i hk;simp only[Bool.and_eq_true,decide_eq_true_eq] at hk;obtain⟨⟨⟨hk,hf⟩,nS⟩,hb⟩:=hk;cases jS<;>first|(cases hk;done)|skip
     obtain⟨q,hq,h3⟩:=aj.mp h2;obtain⟨m1,h4,h5⟩:=aj.mp h3;cases f<;>first|(cases hf;done)|skip
     cases a<;>first|(cases hq;done)|skip
     cases hf;cases hq;obtain⟨tg,it,ifs,t,mi,mc,me,cl,eg,rfl,hit,Sc,q1,q2,q3,q4⟩:=DD S C h4;dsimp only at eg;subst eg;cases h5;exact a76 C.mono Sc C.calm q1 q2 q3 q4 (zO hit) (C.B7 nS) (C.blt _ hb)
    ·cases h2
   ·cases h2
  clear h h1;rcases orElse_some h2 with h3|h3
  ·exact Xa C h3
  clear h2;unfold EX at h3;split at h3
  ·rename_i hk;cases jS<;>first|(cases hk;done)|skip
   cases f with
   |Name x p=>exact Uo S C h3
   |Attribute o a p=>exact Um S C h3
   |_=>cases h3
  ·cases h3
 |Set es k p =>
  have h2:FJ c es k=some m:=h;unfold FJ at h2;split at h2
  ·rename_i hc;rw[aZ] at hc;obtain rfl:=bj hc.2;split at h2
   ·cases h2;exact Vf C.mono (C.code hc.1)
   ·cases h2
  ·cases h2
 |ListComp elt gens sc p =>
  obtain⟨tg,it,ifs,t,mi,mc,me,cl,rfl,rfl,hit,Sc,q1,q2,q3,q4⟩:=DD S C h;exact(Mn Sc C.calm q1 q2 q3 q4 (zO hit)).imp λU H Q h=>MK C.mono U H Q h
 |_=>cases h
theorem OJ:∀e m,stepT r c e=some m->PT X e (LT X.K Ξ (eP P m)):=by
 intro e m h;have plain:∀{e:Expr} {m:ME},(if Ef e then(r.e c e).map ME.fV else none)=some m->PT X e (LT X.K Ξ (eP P m)):=λ{e m} h=>by
  split at h
  ·rename_i hp;obtain⟨ma,ha,rfl⟩:=aa.mp h;exact SY C.mono (S.e X c Ξ C _ _ ha) (a03 hp)
  ·cases h
 cases e with
 |UnaryOp op a p =>
  have h2:(if op=.Not then(r.t c a).map ME.eK else none)=some m:=h;split at h2
  ·rename_i ho;subst ho;obtain⟨ma,ha,rfl⟩:=aa.mp h2;exact SW C.mono (S.t X c Ξ C _ _ ha)
  ·cases h2
 |BoolOp op vs p=>exact(OI S C h).pt
 |Compare a ops bs p =>
  obtain⟨ma,ha,rfl⟩:=aa.mp (show(xJ r c a ops bs).map ME.fV=some m from h);exact(Jm S C ha).2
 |_=>exact plain h
end
section
theorem MJ(h:Jb e=some m):PE X e (LE X.K Ξ (bq P m))/\hX e=true:=by
 cases e<;>first|(cases h;done)|skip
 obtain⟨d,hd,rfl⟩:=aa.mp (show(sU _).map ME.lit=some m from h);exact⟨Bf hd,rfl⟩
theorem a44(hP:j4 P):∀{es:List Expr} {m:ME},Fe es=some m->PA X es (LA X.K Ξ (hV P m)):=by
 intro es
 induction es with
 |nil=>intro m h;cases h;exact L4 hP
 |cons e es ih =>
  intro m h;obtain⟨m1,h1,h⟩:=aj.mp h;obtain⟨m2,h2,rfl⟩:=aa.mp h;exact C4 hP (MJ h1).1 (ih h2) (u5 (MJ (X:=X) (Ξ:=Ξ) (P:=P) h1).2)
theorem VL(hP:j4 P)(h:Ja e=some m):PE X e (LE X.K Ξ (bq P m)):=by
 cases e<;>first|(cases h;done)|skip
 ·obtain⟨d,hd,rfl⟩:=aa.mp (show(sU _).map ME.lit=some m from h);exact Bf hd
 ·obtain⟨ms,hm,rfl⟩:=aa.mp h;exact Lz hP (a44 hP hm)
theorem aW7{h:ExceptHandler}{q:Str×Expr}(hq:Nn h=some q):∃p p1 p2,h=.ExceptHandler (some (.Name q.1 p)) none [.Return (some q.2) p1] p2:=by
 obtain⟨t,n,b,p0⟩:=h;cases n with
 |some _=>cases hq
 |none =>
  obtain⟨t,rfl,hq⟩:=aj.mp (show t.bind _=some q from hq);obtain⟨y,hy,hq⟩:=aj.mp hq;obtain⟨e,he,rfl⟩:=aa.mp hq;obtain⟨p,rfl⟩:=Ei hy;rcases b with _|⟨s,_|⟨_,_⟩⟩
  ·cases he
  ·cases s<;>first|(cases he;done)|(cases he;exact⟨_,_,_,rfl⟩)
  ·cases he
theorem VJ(C:iJ X c P Ξ)(BO:xk X Ξ.2):∀{hs:List ExceptHandler} {ms:List (Str×ME)},Ag c hs=some ms->mQ X Ξ P hs ms:=by
 intro hs
 induction hs with
 |nil=>intro ms h;cases h;exact .nil BO
 |cons hd hs ih =>
  intro ms h;obtain⟨q,hq,h'⟩:=aj.mp h;clear h;have h:=h';clear h';obtain⟨p,p1,p2,rfl⟩:=aW7 hq;obtain⟨y,e⟩:=q;dsimp only at h ⊢;split at h
  ·rename_i hc;simp only[Bool.and_eq_true] at hc;obtain⟨m,h1,h⟩:=aj.mp h;obtain⟨GR,h2,rfl⟩:=aa.mp h;obtain⟨C',hm,hi,_⟩:=C.exc y hc.1.1;refine .cons (C.B7 hc.1.2) (P4 hc.2).1 hm (λx C1 hx h1=>C.CG x y C1 C' ?_ hc.1.1 h1 hi) (λea=>VL (X:=F9 X ea) C.mono h1) (ih h2);rw[C.yZ] at hx;simpa using hx
  ·cases h
theorem aM2{e f:Option Expr}{q:Str×Expr×List Expr}(h:LU e f=some q):f=none/\∃p p',e=some (.Call (.Name q.1 p) (q.2.1::q.2.2) [] p'):=by
 cases f with
 |some _=>cases h
 |none =>
  obtain⟨t,rfl,h⟩:=aj.mp (show e.bind _=some q from h);obtain⟨z,hz,h⟩:=aj.mp h;obtain⟨p,p',rfl⟩:=Z1 hz;obtain⟨x,as⟩:=z;cases as with
  |nil=>cases h
  |cons a as=>cases h;exact⟨rfl,_,_,rfl⟩
theorem TR(C:iJ X c P Ξ){f:Str}:EZ X.K f (c.JC f):=λy C' h hC=>by
 obtain⟨⟨f',y'⟩,h1,h2⟩:=aN.mp h;obtain⟨h3,h4⟩:=bL.mp h1;cases h2;have:f'=f:=by simpa using h4
 subst this;exact C.oK f' y' C' h3 hC
variable(S:qQ P r)(C:iJ X c P Ξ)
include S C
theorem YS{tg:Expr}{m:MS}(hw:c.wr=true)(hS:∀e m,r.e c e=some m->B6 e=false->∃elt gens sc p,e=.ListComp elt gens sc p/\∃r',qQ P r'/\sY r' c elt gens sc=some m)(hT:∀a b k p m,r.e c (.Tuple [a,b] k p)=some m->∃r' ms,qQ P r'/\L0 r' c [a,b]=some ms/\m=.prim .tup ms)(h:IG r c tg e=some m):PS X (.Assign [tg] e pos) (LS X.K Ξ (wpS P m)):=by
 cases tg with
 |Name x px =>
  have h2:(if c.B0 x then(c.idx x).bind λi=>(r.e c e).map λm=>MS.set i m else none)=some m:=h;split at h2
  ·rename_i hl;obtain⟨i,hi,h2⟩:=aj.mp h2;obtain⟨me,he,rfl⟩:=aa.mp h2;cases hn:B6 e with
   |true=>exact LH C.mono (Lv (C.tM hw) (C.sN hi) (C.B0 hl).1 (S.e X c Ξ C _ _ he) (Ee hn) (C.B0 hl).2)
   |false =>
    obtain⟨elt,gens,sc,p,rfl,r',S',hx⟩:=hS e me he hn;obtain⟨tg,it,ifs,t,mi,mc,me,cl,rfl,rfl,hit,Sc,q1,q2,q3,q4⟩:=DD S' C hx;refine LH C.mono ?_;exact(aK7 Sc C.calm q1 q2 q3 q4 (zO hit) (C.tM hw) (C.sN hi) (C.B0 hl).1 (C.B0 hl).2).imp λN U H h=>MK C.mono U H _ h
  ·cases h2
 |Tuple es k pt =>
  have h0:((Fb es).elim (if uG e&&B6 e then(c.slots es).bind λis=>(r.e c e).map λm=>MS.mD (.many is) m else none) λq=>if B6 e&&hX q.2.1&&hX q.2.2.2 then(r.e c q.1).bind λm1=>(r.e c q.2.1).bind λn1=>(r.e c q.2.2.1).bind λm2=>(r.e c q.2.2.2).bind λn2=>(r.e c e).map λm=>MS.yh m1 n1 m2 n2 m else none)=some m:=h;cases hq:Fb es with
  |some q =>
   rw[hq] at h0;dsimp only[Option.elim] at h0;split at h0
   ·cases hq
   ·cases h0
  |none =>
  rw[hq] at h0;have h2:(if uG e&&B6 e then(c.slots es).bind λis=>(r.e c e).map λm=>MS.mD (.many is) m else none)=some m:=h0;split at h2
  ·rename_i hn;rw[aZ] at hn;obtain⟨is,hs,h2⟩:=aj.mp h2;obtain⟨me,he,rfl⟩:=aa.mp h2;exact Te C.mono (Lu (S.e X c Ξ C _ _ he) (Mw C.calm (C.tM hw) (C.slots hs)) (Lc hn.2) (Wj hn.1))
  ·cases h2
 |Subscript o i pt =>
  have h2:(if hX i&&B6 e then(r.e c o).bind λmo=>(r.e c i).bind λmi=>(r.e c e).map λm=>MS.eQ mo mi m else none)=some m:=h;split at h2
  ·rename_i hn;rw[aZ] at hn;obtain⟨mo,ho,h2⟩:=aj.mp h2;obtain⟨mi,hi,h2⟩:=aj.mp h2;obtain⟨me,he,rfl⟩:=aa.mp h2;exact a70 C.mono C.units (S.e X c Ξ C _ _ he) (S.e X c Ξ C _ _ ho) (S.e X c Ξ C _ _ hi) (Lc hn.2) (Uq hn.1)
  ·cases h2
 |Attribute o f pt =>
  obtain⟨mo,ho,h⟩:=aj.mp h;obtain⟨me,he,rfl⟩:=aa.mp h;exact Vr C.mono (TR C) (S.e X c Ξ C _ _ ho) (S.e X c Ξ C _ _ he) (by cases e<;>rfl)
 |_=>cases h
theorem OK(hw:c.wr=true)(hS:∀e m,r.e c e=some m->B6 e=false->∃elt gens sc p,e=.ListComp elt gens sc p/\∃r',qQ P r'/\sY r' c elt gens sc=some m)(hT:∀a b k p m,r.e c (.Tuple [a,b] k p)=some m->∃r' ms,qQ P r'/\L0 r' c [a,b]=some ms/\m=.prim .tup ms) :
  ∀st m,Jt r c st=some m->PS X st (LS X.K Ξ (wpS P m)):=by
 intro st m h;have hP:=C.mono;cases st with
 |AugAssign tg op e p =>
  cases tg with
  |Name x tp =>
   have h2:(if c.B0 x then(IY op).bind λp=>(c.idx x).bind λi=>(r.e c e).map λm=>MS.lg i p m else none)=some m:=h;split at h2
   ·rename_i hl;obtain⟨p,hp,h2⟩:=aj.mp h2;obtain⟨i,hi,h2⟩:=aj.mp h2;obtain⟨me,he,rfl⟩:=aa.mp h2;refine Vp C.mono ?_ (C.tM hw) (C.sN hi) (C.B0 hl).1 (C.B0 hl).2 (S.e X c Ξ C _ _ he);cases op<;>first|(cases hp;done)|skip
    ·cases hp;exact .inl ⟨rfl,rfl⟩
    ·cases hp;exact .inr ⟨rfl,rfl⟩
   ·cases h2
  |_=>cases h
 |Expr e p =>
  have h2:(if B6 e then(r.e c e).map MS.expr else none)=some m:=h;split at h2
  ·rename_i hn;obtain⟨me,he,rfl⟩:=aa.mp h2;exact Vq hP (S.e X c Ξ C _ _ he) (Ee hn)
  ·cases h2
 |Assign AQ e p =>
  rcases AQ with _|⟨tg,_|⟨_,_⟩⟩
  ·cases h
  ·exact YS S C hw hS hT h
  ·cases h
 |If t a b p =>
  obtain⟨mt,ht,h⟩:=aj.mp h;obtain⟨ma,ha,h⟩:=aj.mp h;obtain⟨mb,hb,rfl⟩:=aa.mp h;exact Zt hP (S.t X c Ξ C _ _ ht) (uw S C hw ha) (uw S C hw hb)
 |For tg it body pL p =>
  have h2:(if c.nr&&(pL.isEmpty&&hX it) then(c.tg tg).bind λt=>(Ah r c tg it).bind λmi=>(A7 r c body).map λmb=>MS.du t mi mb else none)=some m:=h;split at h2
  ·rename_i hc;rw[aZ,aZ] at hc;cases pL<;>first|(cases hc.2.1;done)|skip
   obtain⟨t,h1,h2⟩:=aj.mp h2;obtain⟨mi,h3,h2⟩:=aj.mp h2;obtain⟨mb,h4,rfl⟩:=aa.mp h2;exact Tc hP (C.own hc.1) C.calm (GP S C h3) (C.IL hw h1) (uw S C hw h4) (zO hc.2.2)
  ·cases h2
 |While t body pL p =>
  have h2:(if c.nr&&pL.isEmpty then(r.t c t).bind λmt=>(A7 r c body).map λmb=>MS.kL mt mb else none)=some m:=h;split at h2
  ·rename_i hc;rw[aZ] at hc;cases pL<;>first|(cases hc.2;done)|skip
   obtain⟨mt,h1,h2⟩:=aj.mp h2;obtain⟨mb,h4,rfl⟩:=aa.mp h2;exact a69 hP (C.own hc.1) (S.t X c Ξ C _ _ h1) (uw S C hw h4)
  ·cases h2
 |Return e p =>
  cases e with
  |none=>cases h;exact(UM (X:=X)).imp λN cE H ⟨U,g,ρ,s,R,h⟩=>LQ.now h R .bD
  |some e =>
   obtain⟨me,he,rfl⟩:=aa.mp (show(r.e c e).map (λm=>MS.ret (toR c e m))=some m from h);refine LD hP ?_;exact S.e X c Ξ C _ _ he
 |Raise e f p =>
  obtain⟨q,hq,h2⟩:=aj.mp h;clear h;obtain⟨rfl,px,p2,rfl⟩:=aM2 hq;obtain⟨x,e,es⟩:=q;dsimp only at h2 ⊢;split at h2
  ·rename_i hc;simp only[Bool.and_eq_true] at hc;obtain⟨ma,ha,rfl⟩:=aa.mp h2;have ok:=DI ha;obtain⟨C',hm,hi,B,nI,iI,bm,O,FB⟩:=C.exc x hc.1.1.2;exact a71 hP C.calm O FB (C.B7 hc.1.2) (vA S C ha) (C.kl hc.1.1.1) (by rw[C.yZ];simpa using hc.1.1.2) hi (u5 (ok e (by simp))) (zS λz hz=>ok z (by simp[hz])) (P4 hc.2).1
  ·cases h2
 |Try body hs el fi p =>
  have h2:(if c.jP&&!hs.isEmpty&&el.isEmpty&&fi.isEmpty then(A7 r { c with kl:=false,jP:=false,wr:=true } body).bind λmb=>(Ag c hs).map λms=>MS.pV mb ms else none)=some m:=h;split at h2
  ·rename_i hc;simp only[Bool.and_eq_true] at hc;obtain⟨⟨⟨ht,hh⟩,he⟩,hf⟩:=hc;cases el<;>first|(cases he;done)|skip
   cases fi<;>first|(cases hf;done)|skip
   cases hs<;>first|(cases hh;done)|skip
   obtain⟨eT,hf,BO⟩:=C.jP ht
   ·obtain⟨mb,h1,h2⟩:=aj.mp h2;obtain⟨ms,h3,rfl⟩:=aa.mp h2;refine Td hP (C.sgn hw) (λpins D=>uw S (C.pV hw eT hf pins D _ (λU hl _=>⟨by rw[xZ,hl],λi v z=>?_⟩) λ_=>rfl) rfl h1) (VJ C BO h3);rw[dU] at z;split at z<;>cases z
  ·cases h2
 |Pass p=>cases h;exact(UL (X:=X)).imp λN cE H ⟨U,g,ρ,s,R,h⟩=>h ρ H cE (.refl _ _) R s
 |_=>cases h
end
theorem aL8(h:(comp (n+1)).e c e=some m)(hn:B6 e=false):∃elt gens sc p,e=.ListComp elt gens sc p/\sY (comp n) c elt gens sc=some m:=by
 cases e<;>first|(cases hn;done)|(cases h;done)|exact⟨_,_,_,_,rfl,h⟩
theorem snd:∀n,(∀k,k<=n->qQ P (comp k)):=by
 intro n
 induction n with
 |zero =>
  intro k hk;obtain rfl:=Nat.le_zero.mp hk;exact⟨λ_ _ _ _ _ _ h=>(by cases h),λ_ _ _ _ _ _ h=>(by cases h),λ_ _ _ _ _ _ _ h=>(by cases h)⟩
 |succ n ih =>
  intro k hk;rcases dB k (n+1) with dY|ly
  ·grind
  obtain rfl:k=n+1:=by omega
  have I:=ih n (aw n);refine⟨λX c Ξ C e m h=>OL I C e m h,λX c Ξ C e m h=>OJ I C e m h,λX c Ξ C hw st m h=>?_⟩;rcases orElse_some h with h|h
  rotate_left
  ·cases h;exact λpins s U H D I q=>by obtain⟨_,_,_,_,_,z⟩:=q;exact(show False from z).elim
  refine OK I C hw (λe m he hn=>?_) (λa b k p m he=>?_) st m h
  ·cases n with
   |zero=>cases he
   |succ n =>
    obtain⟨elt,gens,sc,p,rfl,hx⟩:=aL8 he hn;exact⟨_,_,_,_,rfl,comp n,ih n (),hx⟩
  ·cases n with
   |zero=>cases he
   |succ n =>
    obtain⟨ms,hm,rfl⟩:=aa.mp (show(L0 (comp n) c [a,b]).map (ME.prim .tup)=some m from he);exact⟨comp n,ms,ih n (),hm,rfl⟩
structure qa where
 nm:Str
 qn:Str
 N:List Str
 ps:List Str
 st:Stmt
def j5.at(c:j5)(d:qa):j5:={ c with N:=d.N,nm:=(v9 d.st).names,nr:=true,kl:=true,jP:=true,wr:=true }
structure kf(K:PySem.W.Frag)(c:j5)(d:qa)(m:bf)(f:Addr)(fd:FuncData):Prop where
 fn:qR K d.nm d.qn d.st f fd
 bi:Binds K fd d.ps []
 sc:jq d.N d.ps (v9 d.st)
 co:A7 (comp 60) (c.at d) (w6 d.st)=some m.body
 ar:m.ar=d.ps.length
 nn:m.n=d.N.length
structure oj(w:World)(K:PySem.W.Frag)(mg:Str->Option Value)(c:j5)(T:Nat->Option bf):Prop where
 fns:∀x i,c.fns.lookup x=some i->∃d m f fd,T i=some m/\kf K c d m f fd/\mg x=some (.ref f)
 cls:∀x i,c.cls.lookup x=some i->∃C d m f fd,T i=some m/\kf K c d m f fd/\mg x=some (.ref C)/\y9 K x C/\kG K C/\Mk K C f
 qm:∀x y i C,(x,y,i)∈c.qm->y9 K y C->∃d m f fd,T i=some m/\kf K c d m f fd/\Meth K C x f
 oK:∀f y C,(f,y)∈c.oK->y9 K y C->E1 K C f
 con:∀x d,c.con.lookup x=some d->∃v u,mg x=some u/\RelV v u/\∀ρ H,d8 K ρ H d v
 blt:∀x,c.blt.contains x=true->mg x=none
 CH:∀x,c.exc.contains x=true->∃C,mg x=some (.ref C)/\y9 K x C/\∀base:Heap,K.In base->base.Ns mainGlobals mg->∃B newId ie bm,OwnCls x C bm newId mg base/\ExcBaseFacts B newId ie bm
 CD:∀x y C C',c.exc.contains x=true->c.exc.contains y=true->y9 K x C->y9 K y C'->PySem.W.exmOne K (.ref C) (.ref C')=some (decide (x=y\/y="MintError"))
 si:∀x kvs,c.gd.lookup x=some kvs->∃A vs,mg x=some (.ref A)/\Ac K w.params A vs/\qK K kvs vs
section
variable{Pg:Program}{w:World}{K:PySem.W.Frag}{mg:Str->Option Value}{base:Heap}{T:Nat->Option bf}
theorem bC6{q:Str}(h:PySem.W.codeIn K cd q=true):PySem.W.kdsCode K cd=true:=by
 unfold PySem.W.codeIn at h;unfold PySem.W.kdsCode;split at h
 ·dsimp only;split at h
  ·rename_i e;rw[e]
  ·cases h
 ·cases h
theorem Ux:Passes (jJ Pg w) (pQ (jJ Pg w) Pg w K mg base N qual scope f cd A outer s H E) E:=λpins U H1 s1 e s' I h=>by
 obtain⟨C,H',J,fl,hE⟩:=I.flew h;exact aH0 J fl (λb o q=>I.base.there b o q (by intro z;cases z)) rfl rfl rfl hE
theorem a88:zx (pQ (jJ Pg w) Pg w K mg base N qual scope f cd A outer s H E) E:=λpins U H1 s1 h' ea C vs I hm hE =>
 aU3 I hm rfl rfl rfl hE
theorem TU:xk (pQ (jJ Pg w) Pg w K mg base N qual scope f cd A outer s H E) E:=λpins U H1 H2 s1 s2 B ea C a0 I l hh hE =>
 leave_held I l hh rfl rfl rfl hE
theorem Ds{k:Nat}{m:bf}(hT:T i=some m){ds:List D}{g:G}{Q:KD}{E:KX}(h:c5 T k i ds g Q E):ds.length=m.ar:=by
 cases k with
 |zero=>exact h.elim
 |succ k =>
  obtain⟨m',e,h,_⟩:=h
  simp_all
theorem ZO(ox:K.In base)(wI:base.Ns mainGlobals mg)(A:oj w K mg c T):∀(k i:Nat) d m f fd,T i=some m->kf K c d m f fd->iR Pg w K mg base (jJ Pg w) (2*k) f fd d.ps (qk c.exc K d.ps.length (c5 T k i)):=by
 intro k
 induction k with
 |zero =>
  intro i d m f fd hm O;refine⟨λvs H Q E h=>h.1,λA outer s H args us vs Q E _ _ _ _ h=>?_⟩;obtain⟨_,_,_,_,_,_,q⟩:=h;exact q.elim
 |succ k ih =>
  intro i d m f fd hm O;obtain⟨oc,od,kV,doc,pm,an,gz,ct,ni,rfl,lk,mJ⟩:=O.fn.ex;refine Ys (k:=2*k+1) lk mJ O.sc (λvs H Q E h=>h.1) (λA0 outer s H vs Q E hr h=>?_);obtain⟨hl,xs,g,ρ,rs,R,q⟩:=h;have C:iJ (pQ (jJ Pg w) Pg w K mg base d.N d.qn (v9 d.st) f gz A0 outer s H E) (c.at d) (c5 T k) (c.exc,E):=by
   refine⟨rfl,O.sc.nd,λx h=>h,λx h=>h,λx h=>.inr h,λx h=>h,λx h=>?_,λ_ _=>rfl,rfl,?_,(λ_=>PassesOwn.leaving),b0 T k,A.con,A.blt,λx j hj=>?_,λx j hj=>?_,λx y j C' hj hC=>?_,A.oK,rfl,Ux,λ_=>a88,λ_=>⟨rfl,rfl,TU⟩,λx hx=>?_,A.CD,A.si,λ_=>bC6 mJ,λ_=>rfl⟩
   ·rcases h with h|h
    ·exact DH h
    ·exact absurd rfl (O.sc.nG _ (aT h))
   ·have:=hr.un;show(A0.deeper _).units+100<cLine;omega
   ·obtain⟨d',m',f',qI,hT,O',hmg⟩:=A.fns x j hj;exact⟨2*k,f',qI,d'.ps,⟨ih j d' m' f' qI hT O',O'.bi,λIC g' Q' E' h'=>(Ds hT h').trans O'.ar⟩,hr.mono (),hmg,O'.fn.kp⟩
   ·obtain⟨C',d',m',f',qI,hT,O',hmg,hC,kE,M⟩:=A.cls x j hj;exact⟨2*k,C',f',qI,d'.ps,⟨ih j d' m' f' qI hT O',O'.bi,λIC g' Q' E' h'=>(Ds hT h').trans O'.ar⟩,hr,hmg,hC,kE,M⟩
   ·obtain⟨d',m',f',qI,hT,O',M⟩:=A.qm x y j C' hj hC;exact⟨2*k,f',qI,d'.ps,M,⟨ih j d' m' f' qI hT O',O'.bi,λIC g' Q' E' h'=>(Ds hT h').trans O'.ar⟩,hr.mono ()⟩
   ·obtain⟨C,h1,h2,h3⟩:=A.CH x hx;exact⟨C,h1,h2,h3 base ox wI⟩
  refine⟨_,uw (snd (P:=c5 T k) 60 60 (aw _)) C rfl O.co,?_⟩;obtain⟨m',e,q1,q⟩:=q;rw[hm] at e;cases e;refine⟨d0 m xs,g,ρ,?_,R,wpS_mono (b0 T k) m.body ⟨λ_ g'=>LQ K ρ H Q .bD g',LQ K ρ H Q,λ_ _=>False,λ_ _=>False⟩ _ _ _ _ _ ⟨λU g' h cj H' dF e R' s'=>h cj H' _ e R' .bD,λd g' h=>h,λ_ _ h=>h.elim,λ_ _ h=>h.elim⟩ (λ_ _ z=>z) q⟩;have:=w9.start (n:=d.N.length) rs;unfold d0 L2.start;rw[O.nn];exact this
theorem bC1{L k0:Nat}{a:Addr}{ns:List Int}(hO:zU H)(hS:gn K H a (ns.map V.int))(h:c5 T k0 L [.ref 0] [.pF (ns.map .int)] (λd _=>d=.bl true) kc) :
  qk exc K 1 (c5 T k0 L) [.ref a] H (λv _=>v=.bl true) λ_ _ _=>False:=by
 refine⟨rfl,[.ref 0],[.pF (ns.map .int)],[a],.cons (.ref rfl) .nil,⟨rfl,λi o b h1 h2=>?_,λi j l m b h1 h2 m1=>?_⟩,b0 T k0 _ _ _ _ _ _ _ (λd g' e cj H' v _ _ r=>?_) (λ_ _ z=>z.elim) h⟩
 ·cases i with
  |zero =>
   cases h1;cases h2;refine⟨_,?_,c7.ofInts ns⟩;rcases hS with(z|⟨o,z⟩)|z
   ·rcases hO a with q|⟨o,xs,q⟩
    ·simp_all
    simp_all
   ·exact .inl ⟨o,z⟩
   ·exact .inr z
  |succ i=>simp at h1
 ·cases i with
  |zero=>cases h1;cases m1
  |succ i=>simp at h1
 ·subst e;cases r
  rfl
end
end M
namespace M
open PySem L2
variable{P:fS}{g:G}{Q:Bool->G->Prop}{E:KX}{N:Ends}{a i n:Nat}{b:Bool}{c f:Str}{o cond elt:ME}{x y d v:D}{j:Int}{l:List D}{A B:Prop}{kvs:List (Key×D)}{k:Key}{kg:G->Prop}{ns:List Int}{d6:List Nat}{R:IK->G->Prop}
section
variable{U:S}{Q:KD}{a b c:ME}{x y:MS}{p:Pr}
theorem N4(h:N.nx U g):wpS P .pass N U g E:=h
theorem xj(h:wpS P x ⟨λjj g1=>wpS P y N jj g1 E,N.rt,N.bk,N.ct⟩ U g E):wpS P (.seq x y) N U g E:=h
theorem U8(h:wpS P x N U g E):wpS P (.seq x .pass) N U g E:=h
theorem Ts(h:bq P a U g (λ_ g1=>N.nx U g1) E):wpS P (.expr a) N U g E:=h
theorem zf(h:bq P a U g (λx g1=>N.nx (U.set i (some x)) g1) E):wpS P (.set i a) N U g E:=h
theorem ZL{t:MT}(h:bq P a U g (λx g1=>ki t x U λjj=>N.nx jj g1) E):wpS P (.mD t a) N U g E:=h
theorem MA{i:ME}(h:bq P a U g (λx g1=>bq P o U g1 (λy g2=>bq P i U g2 (λz g3=>Y1 y z x g3 λg4=>N.nx U g4) E) E) E):wpS P (.eQ o i a) N U g E:=h
theorem Tw{cs:List Str}(h:bq P a U g (λx g1=>bq P o U g1 (λy g2=>xi f cs y x g2 λg3=>N.nx U g3) E) E):wpS P (.jc f cs o a) N U g E:=h
theorem EU(h:eP P c U g (λt g1=>if t=true then wpS P x N U g1 E else wpS P y N U g1 E) E):wpS P (.ifs c x y) N U g E:=h
theorem EV(h:bq P a U g N.rt E):wpS P (.ret a) N U g E:=h
theorem Vu{x:Str}(h:hV P a U g (λvs g1=>vs.length<=1000/\E ⟨x⟩ g1) E):wpS P (.raise x a) N U g E:=h
theorem ZK{hs:List (Str×ME)}(h:wpS P x N U g (qg P N (U.map λ_=>none) E hs)):wpS P (.pV x hs) N U g E:=h
theorem w_var(e:U[i]?=some (some d))(h:Q d g):bq P (.var i) U g Q E:=by exact⟨d,e,h⟩
theorem w_lit(h:Q d g):bq P (.lit d) U g Q E:=h
theorem Tv(h:hV P a U g (λxs g1=>cQ p xs g1 Q) E):bq P (.prim p a) U g Q E:=h
theorem XS(h:cQ p [] g Q):bq P (.prim p .nil) U g Q E:=by exact h
theorem xH(h:bq P a U g (λx g1=>cQ p [x] g1 Q) E):bq P (.prim p (.cons a .nil)) U g Q E:=by exact h
theorem xI(h:bq P a U g (λx g1=>bq P b U g1 (λy g2=>cQ p [x,y] g2 Q) E) E):bq P (.prim p (.cons a (.cons b .nil))) U g Q E:=by exact h
theorem Vt{o1 o2:CmpOp}(h:bq P a U g (λx g1=>bq P b U g1 (λy g2=>cQ (.cmp o1) [x,y] g2 λz g3=>∃t,z=.bl t/\if t=true then bq P c U g3 (λw g4=>cQ (.cmp o2) [y,w] g4 Q) E else Q (.bl false) g3) E) E):bq P (.chain o1 o2 a b c) U g Q E:=h
theorem w_and(h:bq P a U g (λx g1=>∃t,x=.bl t/\if t=true then bq P b U g1 Q E else Q (.bl false) g1) E):bq P (.dM a b) U g Q E:=h
theorem w_or(h:bq P a U g (λx g1=>∃t,x=.bl t/\if t=true then Q (.bl true) g1 else bq P b U g1 Q E) E):bq P (.jm a b) U g Q E:=h
theorem w_not(h:bq P a U g (λx g1=>∃t,x=.bl t/\Q (.bl (!t)) g1) E):bq P (.eK a) U g Q E:=h
theorem w_ite(h:eP P c U g (λt g1=>if t=true then bq P a U g1 Q E else bq P b U g1 Q E) E):bq P (.ite c a b) U g Q E:=h
theorem zw{f:Nat}(h:hV P a U g (λxs g1=>P f xs g1 Q E) E):bq P (.call f a) U g Q E:=h
theorem Tt{f:Nat}{c:Str}(h:hV P a U g (λxs g1=>P f (.ref g1.length::xs) (g1++[.ins c []]) (λd g2=>d=.bD/\Q (.ref g1.length) g2) E) E):bq P (.make c f a) U g Q E:=h
theorem Tu(h:bq P o U g (λx g1=>mF p x g1/\hV P a U g1 (λxs g2=>cQ p (x::xs) g2 Q) E) E):bq P (.eW p o a) U g Q E:=h
theorem ze{Q:List D->G->Prop}(h:Q [] g):hV P .nil U g Q E:=h
theorem U9{Q:List D->G->Prop}(h:bq P a U g (λx g1=>hV P b U g1 (λxs g2=>Q (x::xs) g2) E) E):hV P (.cons a b) U g Q E:=h
theorem Tx{Q:Bool->G->Prop}(h:eP P a U g (λt g1=>if t=true then eP P b U g1 Q E else Q false g1) E):eP P (.dM a b) U g Q E:=h
theorem ZJ{Q:Bool->G->Prop}(h:eP P a U g (λt g1=>if t=true then Q true g1 else eP P b U g1 Q E) E):eP P (.jm a b) U g Q E:=h
theorem Tz{Q:Bool->G->Prop}(h:eP P a U g (λt g1=>Q (!t) g1) E):eP P (.eK a) U g Q E:=h
theorem zg{Q:Bool->G->Prop}(h:Q true g):eP P .no U g Q E:=h
theorem EW{Q:Bool->G->Prop}(h:bq P a U g (λx g1=>qO g1 x λb=>Q b g1) E):eP P (.fV a) U g Q E:=h
end
section
variable{Q:KD}{i:Int}{kb:Bool->Prop}{t s:Bool}{m:List D}
theorem XU(h:Q (.int (i+j)) g):cQ (.bin .Add) [.int i,.int j] g Q:=⟨_,_,.inl ⟨i,j,_,rfl,rfl,rfl,rfl⟩,h⟩
theorem XW(h:Q (.int (i-j)) g):cQ (.bin .Sub) [.int i,.int j] g Q:=⟨_,_,.inl ⟨i,j,_,rfl,rfl,rfl,rfl⟩,h⟩
theorem U3(c:sG i j)(h:Q (.int (i*j)) g):cQ (.bin .Mult) [.int i,.int j] g Q:=⟨_,_,.inl ⟨i,j,_,rfl,⟨c,rfl⟩,rfl,rfl⟩,h⟩
theorem U4(c:0<j)(h:Q (.int (i % j)) g):cQ (.bin .Mod) [.int i,.int j] g Q:=⟨_,_,.inl ⟨i,j,_,rfl,⟨c,rfl⟩,rfl,rfl⟩,h⟩
theorem Ad(c:Dc i j)(h:Q (.int (i / j)) g):cQ (.bin .FloorDiv) [.int i,.int j] g Q:=⟨_,_,.inl ⟨i,j,_,rfl,⟨c,rfl⟩,rfl,rfl⟩,h⟩
theorem Nm(h1:0<j)(h2:j<1073741824)(h:Q (.int (i / j)) g):cQ (.bin .FloorDiv) [.int i,.int j] g Q:=Ad ⟨h1,h2⟩ h
theorem Et(c:pN i j)(h:Q (.int (i ^ j.toNat)) g):cQ (.bin .Pow) [.int i,.int j] g Q:=⟨_,_,.inl ⟨i,j,_,rfl,⟨c,rfl⟩,rfl,rfl⟩,h⟩
theorem Ey{i j:Nat}(hi:g[i]?=some (.lst l))(hj:g[j]?=some (.lst m))(hl:l.length+m.length<=100000)(h:Q (.ref g.length) (g++[.lst (l++m)])):cQ (.bin .Add) [.ref i,.ref j] g Q:=⟨_,_,.inr ⟨rfl,.inl ⟨i,j,l,m,rfl,hi,hj,hl,rfl,rfl⟩⟩,h⟩
theorem ZH(h:Q (.int (-i)) g):cQ (.un .USub) [.int i] g Q:=⟨_,_,⟨rfl,i,rfl,rfl,rfl⟩,h⟩
theorem V8{op:CmpOp}(hb:JA g x y b op)(h:Q (.bl b) g):cQ (.cmp op) [x,y] g Q:=⟨_,_,⟨x,y,b,rfl,hb,rfl,rfl⟩,h⟩
theorem WH(h:Q (.bl (decide (i<j))) g):cQ (.cmp .Lt) [.int i,.int j] g Q:=V8 ⟨i,j,rfl,rfl,rfl⟩ h
theorem WG(h:Q (.bl (decide (i<=j))) g):cQ (.cmp .LtE) [.int i,.int j] g Q:=V8 ⟨i,j,rfl,rfl,rfl⟩ h
theorem WE(h:Q (.bl (decide (j<i))) g):cQ (.cmp .Gt) [.int i,.int j] g Q:=V8 ⟨i,j,rfl,rfl,rfl⟩ h
theorem WD(h:Q (.bl (decide (j<=i))) g):cQ (.cmp .GtE) [.int i,.int j] g Q:=V8 ⟨i,j,rfl,rfl,rfl⟩ h
theorem Dj(h:su g x y λb=>Q (.bl b) g):cQ (.cmp .Eq) [x,y] g Q:=let ⟨_,hb,h⟩:=h;V8 hb h
theorem xD(h:su g x y λb=>Q (.bl (!b)) g):cQ (.cmp .NotEq) [x,y] g Q:=let ⟨b,hb,h⟩:=h;V8 (b:=!b) (show wM g x y (!(!b)) from by simp_all) h
theorem sI(h:rD g x y λb=>Q (.bl b) g):cQ (.cmp .In) [x,y] g Q:=let ⟨_,hb,h⟩:=h;V8 (.inl hb) h
theorem Ye{S:Int->Bool}(hg:g[a]?=some (.set S n))(h:Q (.bl (S i)) g):cQ (.cmp .In) [.int i,.ref a] g Q:=V8 (.inr ⟨a,S,n,i,rfl,hg,rfl,rfl⟩) h
theorem X9(h:rD g x y λb=>Q (.bl (!b)) g):cQ (.cmp .NotIn) [x,y] g Q:=let ⟨b,hb,h⟩:=h;V8 (b:=!b) (.inl (show inR g x y (!(!b)) from by simp_all)) h
theorem Jo(h:kb (decide (i=j))):su g (.int i) (.int j) kb:=⟨_,.inl ⟨i,j,rfl,rfl,rfl⟩,h⟩
theorem IF(h:kb (t==s)):su g (.bl t) (.bl s) kb:=⟨_,.inr (.inl ⟨t,s,rfl,rfl,rfl⟩),h⟩
theorem Jp{x y:Str}(h:kb (decide (x=y))):su g (.str x) (.str y) kb:=⟨_,.inr (.inr (.inl ⟨x,y,rfl,rfl,rfl⟩)),h⟩
theorem Ya(h:Q (.bl (decide (i=j))) g):cQ (.cmp .Eq) [.int i,.int j] g Q:=Dj (Jo h)
theorem IZ(h:Q (.bl (!decide (i=j))) g):cQ (.cmp .NotEq) [.int i,.int j] g Q:=xD (Jo h)
theorem X'(h:Q (.bl (t==s)) g):cQ (.cmp .Eq) [.bl t,.bl s] g Q:=Dj (IF h)
theorem Ym(h:Q (.bl (!(t==s))) g):cQ (.cmp .NotEq) [.bl t,.bl s] g Q:=xD (IF h)
theorem Yb{p q:Str}(h:Q (.bl (decide (p=q))) g):cQ (.cmp .Eq) [.str p,.str q] g Q:=Dj (Jp h)
theorem Yn{p q:Str}(h:Q (.bl (!decide (p=q))) g):cQ (.cmp .NotEq) [.str p,.str q] g Q:=xD (Jp h)
theorem sJ(h:Q (.bl (Q8 d)) g):cQ (.cmp .Is) [d,.bD] g Q:=V8 ⟨rfl,rfl⟩ h
theorem Af(h:Q (.bl (!Q8 d)) g):cQ (.cmp .IsNot) [d,.bD] g Q:=V8 ⟨rfl,rfl⟩ h
theorem Yg(h:Q (.bl true) g):cQ (.cmp .Is) [.bD,.bD] g Q:=sJ h
theorem Yi(h:Q (.bl false) g):cQ (.cmp .Is) [.int i,.bD] g Q:=sJ h
theorem Yh(h:Q (.bl false) g):cQ (.cmp .Is) [.bl t,.bD] g Q:=sJ h
theorem Yk{x:Str}(h:Q (.bl false) g):cQ (.cmp .Is) [.str x,.bD] g Q:=sJ h
theorem Yl(h:Q (.bl false) g):cQ (.cmp .Is) [.tup l,.bD] g Q:=sJ h
theorem Yj(h:Q (.bl false) g):cQ (.cmp .Is) [.ref n,.bD] g Q:=sJ h
theorem Yc(h:Q (.bl false) g):cQ (.cmp .IsNot) [.bD,.bD] g Q:=Af h
theorem Yf(h:Q (.bl true) g):cQ (.cmp .IsNot) [.tup l,.bD] g Q:=Af h
theorem Yd(h:Q (.bl true) g):cQ (.cmp .IsNot) [.ref n,.bD] g Q:=Af h
theorem XO(h:kb t):qO g (.bl t) kb:=⟨t,.inr (.inl rfl),h⟩
theorem ZA(h:kb (i != 0)):qO g (.int i) kb:=⟨_,.inr (.inr (.inl ⟨i,rfl,rfl⟩)),h⟩
theorem Dr{p:Bool->Prop}(h:p t):∃s,D.bl t=D.bl s/\p s:=⟨t,rfl,h⟩
theorem bD1{p:Int->Prop}(h:p i):∃s,D.int i=D.int s/\p s:=⟨i,rfl,h⟩
theorem if2{c:Prop}[Decidable c](h1:c->A)(h2:¬c->B):if decide c=true then A else B:=by
 simp_all
theorem mG(h:A):if true=true then A else B:=by rw[aG rfl];exact h
theorem qN(h:B):if false=true then A else B:=by rw[aD ∅];exact h
theorem JH(h:A):if(!false)=true then A else B:=by exact h
theorem WR(h:B):if(!true)=true then A else B:=by rw[aD ∅];exact h
theorem fX(hb:b=false)(h:B):if b=true then A else B:=by rw[hb];exact qN h
theorem ig(hb:b=true)(h:A):if b=true then A else B:=by rw[hb];exact mG h
theorem u3(hl:d5 g a=some l)(h2:gG l i=some d)(h:Q d g):cQ .ix [.ref a,.int i] g Q:=⟨_,_,⟨rfl,.inl ⟨_,l,i,rfl,hl,h2⟩⟩,h⟩
theorem A2(h2:gG l i=some d)(h:Q d g):cQ .ix [.tup l,.int i] g Q:=⟨_,_,⟨rfl,.inl ⟨_,l,i,rfl,rfl,h2⟩⟩,h⟩
theorem xE{i:Nat}(hg:g[i]?=some (.da kvs))(hk:pS y=some k)(hv:u7 kvs k=some v)(h:Q v g):cQ .ix [.ref i,y] g Q:=⟨_,_,⟨rfl,.inr (.inl ⟨i,kvs,y,k,rfl,hg,hk,hv⟩)⟩,h⟩
theorem W0(hl:g[a]?=some (.lst l))(hn:lN l.length i=some n)(h:kg (g.set a (.lst (l.set n v)))):Y1 (.ref a) (.int i) v g kg:=⟨_,.inl ⟨a,i,l,n,rfl,rfl,hl,hn,rfl⟩,h⟩
theorem Ar{i:Nat}(hg:g[i]?=some (.da kvs))(hk:pS y=some k)(hl:kvs.length<100000)(h:kg (g.set i (.da (putD kvs k v)))):Y1 (.ref i) y v g kg:=⟨_,.inr ⟨i,kvs,k,rfl,hg,hk,hl,rfl⟩,h⟩
theorem sX{cs:List Str}{fs:List (Str×D)}(hg:g[a]?=some (.ins c fs))(hc:c∈cs)(hl:fs.length<100)(h:kg (g.set a (.ins c (q9 f v fs)))):xi f cs (.ref a) v g kg:=⟨_,⟨a,c,fs,rfl,hg,hc,hl,rfl⟩,h⟩
theorem V5{fs:List (Str×D)}(hg:g[a]?=some (.ins c fs))(hf:fs.lookup f=some d)(h:Q d g):cQ (.fld f) [.ref a] g Q:=⟨_,_,⟨a,c,fs,rfl,hg,hf,rfl⟩,h⟩
theorem a9(h:g[a]?=some (.lst l)):d5 g a=some l:=by simp only[d5,h,Fi]
theorem a30(h:g[a]?=some (.pF l)):d5 g a=some l:=by simp only[d5,h,Fi]
theorem J5(hl:d5 g a=some l)(h:Q (.int l.length) g):cQ .len [.ref a] g Q:=⟨_,_,⟨rfl,.inl ⟨_,l,rfl,hl,rfl⟩⟩,h⟩
theorem YK(h:Q (.int l.length) g):cQ .len [.tup l] g Q:=⟨_,_,⟨rfl,.inl ⟨_,l,rfl,rfl,rfl⟩⟩,h⟩
theorem zu(hl:d5 g a=some l)(h:Q (.ref g.length) (g++[.lst (cut l none (some i))])):cQ (.ql false true) [.ref a,.int i] g Q:=⟨_,_,⟨_,i,rfl,.inr ⟨a,l,rfl,hl,rfl,rfl⟩⟩,h⟩
theorem EK(hl:l.length<=1000)(h:Q (.tup l) g):cQ .tup l g Q:=⟨_,_,⟨hl,rfl,rfl⟩,h⟩
theorem EJ(hl:l.length<=1000)(h:Q (.ref g.length) (g++[.lst l])):cQ .lst l g Q:=⟨_,_,⟨hl,rfl,rfl⟩,h⟩
theorem An(hl:d5 g a=some l)(h:Q (.ref g.length) (g++[.lst l])):cQ .list [.ref a] g Q:=⟨_,_,.inl ⟨_,l,rfl,hl,rfl,rfl⟩,h⟩
theorem YO(hg:g[a]?=some (.da kvs))(hz:kvs.length<=10000)(h:Q (.ref g.length) (g++[.lst ((kvs.map (·.1)).map kD)])):cQ .list [.ref a] g Q:=⟨_,_,.inr ⟨a,kvs,rfl,hg,hz,rfl,rfl⟩,h⟩
theorem ZF(hl:d5 g a=some l)(h:Q (.tup l) g):cQ .tuple [.ref a] g Q:=⟨_,_,⟨_,l,rfl,hl,rfl,rfl⟩,h⟩
theorem gN{c:String}(hc:c∈["int","bool","str","tuple","list"])(hb:sO g d c=some b)(h:Q (.bl b) g):cQ .isin [d,.ty c] g Q:=⟨_,_,⟨d,c,b,rfl,hc,hb,rfl,rfl⟩,h⟩
theorem Q6{i:Nat}(hg:g[i]?=some (.lst l))(hl:l.length<100000)(h:Q .bD (g.set i (.lst (l++[y])))):cQ .append [.ref i,y] g Q:=⟨_,_,⟨i,y,l,rfl,hg,hl,rfl,rfl⟩,h⟩
theorem YQ{i j:Nat}{n:Int}(hg:g[i]?=some (.lst l))(hn:n=j)(hj:l[j]?=some y)(hl:l.length<100000)(h:Q y (g.set i (.lst (l.eraseIdx j)))):cQ .pop [.ref i,.int n] g Q:=by
 have dY:=(av.mp hj).1;refine⟨_,_,⟨i,n,l,j,rfl,hg,by omega,by omega,?_,hj,rfl⟩,h⟩;rw[hn];exact PySem.StrLaws.seqIndex_nonneg () () |>.trans (by simp)
theorem EG{i:Nat}{z:D}(hg:g[i]?=some (.da kvs))(hk:pS y=some k)(h:Q ((u7 kvs k).getD z) g):cQ .get [.ref i,y,z] g Q:=⟨_,_,⟨i,y,z,kvs,k,rfl,hg,hk,rfl,rfl⟩,h⟩
theorem Z'(h:Q (.int (i+j)) g):cQ .iadd [.int i,.int j] g Q:=⟨_,_,.inl ⟨i,j,rfl,rfl,rfl⟩,h⟩
theorem Uw{i:Nat}(hl:d5 g i=some (ns.map .int))(hz:ns.length<=10000)(h:Q (.ref g.length) (g++[.lst ((L9 ns).map .int)])):cQ .kM [.ref i] g Q:=⟨_,_,.inr ⟨_,ns,rfl,hl,hz,rfl,rfl⟩,h⟩
theorem Nx{i:Nat}(hg:g[i]?=some (.lst l)):mF .append (.ref i) g:=⟨i,l,rfl,a9 hg⟩
theorem bA8{i:Nat}(hg:g[i]?=some (.lst l)):mF .pop (.ref i) g:=⟨i,l,rfl,a9 hg⟩
theorem WZ{i:Nat}{l:List (Key×D)}(hg:g[i]?=some (.da l)):mF .get (.ref i) g:=⟨i,l,rfl,hg⟩
theorem GW(h1:-(2 ^ 62)<=j)(h2:j<=100000)(h:Q (.ref g.length) (g++[.lst (j6 0 j.toNat)])):cQ .jY [.int j] g Q:=⟨_,_,⟨j,rfl,h1,h2,rfl,rfl⟩,h⟩
theorem OR(h1:-(2 ^ 62)<=i/\i<2 ^ 62/\-(2 ^ 62)<=j/\j<2 ^ 62/\j-i<=100000)(h:Q (.ref g.length) (g++[.lst (j6 i (j-i).toNat)])):cQ .kW [.int i,.int j] g Q:=⟨_,_,⟨i,j,rfl,h1,rfl,rfl⟩,h⟩
theorem Uh{i:Nat}(hg:g[i]?=some (.lst l))(h:Q .bD (g.set i (.lst []))):cQ .clear [.ref i] g Q:=⟨_,_,⟨i,l,rfl,hg,rfl,rfl⟩,h⟩
theorem Wg{i:Nat}(hg:g[i]?=some (.lst l)):mF .clear (.ref i) g:=⟨i,l,rfl,a9 hg⟩
theorem Uu{i:Nat}{ks:List Int}(hl:d5 g i=some (ks.map λk=>.tup [.int k,.bl true]))(hz:ks.length<=1000)(nd:ks.Nodup)(h:Q (.ref g.length) (g++[.da (ks.map λk=>(.inl k,.bl true))])):cQ .kZ [.ref i] g Q:=⟨_,_,.inr ⟨i,ks,rfl,hl,hz,nd,rfl,rfl⟩,h⟩
theorem Nz(hl:d5 g a=some (ns.map .int))(hz:ns.length<600)(h:Q (.ref g.length) (g++[.lst ((u4 ns).map .int)])):cQ .sset [.ref a] g Q:=⟨_,_,⟨a,ns,rfl,hl,hz,rfl,rfl⟩,h⟩
theorem V6(h:Q (.ref g.length) (g++[.da []])):cQ .V6 [] g Q:=⟨_,_,⟨rfl,rfl,rfl⟩,h⟩
theorem max2(h:Q (.int (if j>i then j else i)) g):cQ .max [.int i,.int j] g Q:=⟨_,_,⟨rfl,.inl ⟨i,j,rfl,rfl⟩⟩,h⟩
theorem YR{M:Int}(hl:d5 g a=some (ns.map .int))(h1:M∈ns)(h2:∀x∈ns,x<=M)(h:Q (.int M) g):cQ .max [.ref a] g Q:=⟨_,_,⟨rfl,.inr ⟨a,ns,M,rfl,hl,h1,h2,rfl⟩⟩,h⟩
theorem bB3{S:Int->Bool}(hg:g[a]?=some (.set S n))(hn:n+1<4096)(h:Q .bD (g.set a (.set (λk=>S k||decide (k=i)) (if S i then n else n+1)))):cQ .kP [.ref a,.int i] g Q:=⟨_,_,⟨a,i,S,n,rfl,hg,hn,rfl,rfl⟩,h⟩
theorem Ul{S:Int->Bool}(hg:g[a]?=some (.set S n)):mF .kP (.ref a) g:=⟨a,S,n,rfl,hg⟩
theorem Uv(h:Q (.ref g.length) (g++[.set (λk=>decide (k=i)) 1])):cQ (.kO i) [] g Q:=⟨_,_,⟨rfl,rfl,rfl⟩,h⟩
theorem Ju(hl:d5 g a=some (ns.map .int))(h:Q (.int ns.sum) g):cQ .sum [.ref a] g Q:=⟨_,_,⟨a,ns,rfl,hl,rfl,rfl⟩,h⟩
theorem Nw(hl:d5 g a=some (ns.map .int))(hz:ns.length<60)(h:Q (.int (ST.i0 [] ns).length) g):cQ .V3 [.ref a] g Q:=⟨_,_,⟨a,ns,rfl,hl,hz,rfl,rfl⟩,h⟩
theorem XX(hl:d5 g a=some (ns.map .int))(h:Q (.bl (ns.all λn=>n != 0)) g):cQ .all [.ref a] g Q:=⟨_,_,⟨a,_,_,rfl,hl,.inr ⟨ns,rfl,rfl⟩,rfl,rfl⟩,h⟩
theorem Eu(c:pN i j)(h:Q (.int (i*2 ^ j.toNat)) g):cQ (.bin .LShift) [.int i,.int j] g Q:=⟨_,_,.inl ⟨i,j,_,rfl,⟨c,rfl⟩,rfl,rfl⟩,h⟩
theorem xc(h:Q (.int (Builtin.bitAnd i j)) g):cQ (.bin .BitAnd) [.int i,.int j] g Q:=⟨_,_,.inl ⟨i,j,_,rfl,rfl,rfl,rfl⟩,h⟩
theorem Ww(h:Q (.int (Builtin.bitOr i j)) g):cQ (.bin .BitOr) [.int i,.int j] g Q:=⟨_,_,.inl ⟨i,j,_,rfl,rfl,rfl,rfl⟩,h⟩
theorem LL{U:S}{i:Nat}{p:Pr}{v:ME}(e:U[i]?=some (some x))(h:bq P v U g (λz g1=>cQ p [x,z] g1 λw g2=>N.nx (U.set i (some w)) g2) E):wpS P (.lg i p v) N U g E:=⟨x,e,h⟩
theorem bC9(h:Q (.int (i-j)) g):cQ .nJ [.int i,.int j] g Q:=⟨_,_,⟨i,j,rfl,rfl,rfl⟩,h⟩
theorem min2(h:Q (.int (if j<i then j else i)) g):cQ .min [.int i,.int j] g Q:=⟨_,_,⟨rfl,.inl ⟨i,j,rfl,rfl⟩⟩,h⟩
theorem Yy{v:Bool}(h:Q (.int (if v then 1 else 0)) g):cQ .int [.bl v] g Q:=⟨_,_,⟨rfl,.inr ⟨v,rfl,rfl⟩⟩,h⟩
theorem Jh{kvs:List D}{x:Str}(hv:Q7 kvs x=some v)(h:Q v g):cQ .og [.tup kvs,.str x] g Q:=⟨_,_,⟨kvs,x,rfl,hv,rfl⟩,h⟩
theorem xf{i:Nat}{v:Bool}(hl:d5 g i=some l)(hv:Y0 l=some v)(h:Q (.bl v) g):cQ .all [.ref i] g Q:=⟨_,_,⟨i,l,v,rfl,hl,.inl hv,rfl,rfl⟩,h⟩
theorem i7{i:Nat}{U:S}{k:S->Prop}(h:k (U.set i (some x))):ki (.one i) x U k:=h
theorem C2{is:List Nat}{U cw:S}{k:S->Prop}(e:R0 is l U=some cw)(h:k cw):ki (.many is) (.tup l) U k:=⟨l,cw,rfl,e,h⟩
end
theorem R9:∀(bs:List Bool),Y0 (bs.map D.bl)=some (bs.all id):=by
 intro bs
 induction bs with
 |nil=>rfl
 |cons b r ih=>simp[Y0,ih]
theorem call_of{T:Nat->Option bf}{k f:Nat}{m:bf}{ds:List D}{Q:KD}(hT:T f=some m)(hl:ds.length=m.ar)(h:wpS (c5 T k) m.body ⟨λ_ g'=>Q .bD g',Q,λ_ _=>False,λ_ _=>False⟩ (d0 m ds) g E):c5 T (k+1) f ds g Q E:=⟨m,hT,hl,h⟩
def IK.Is(k:IK)(l:List D)(g:G):Prop:=∀i,k.at i g=some l[i]?
theorem u9:(IK.fix l).Is l g:=λ_=>rfl
theorem p8(h:d5 g a=some l):(IK.lst a).Is l g:=λi=>by simp only[IK.at,h]
def nu(l:List D):List D:=l.mapIdx λi d=>.tup [.int i,d]
theorem zl(h:d5 g a=some l):(IK.pK a).Is (nu l) g:=λi=>by
 simp only[IK.at,h,nu,List.getElem?_mapIdx]
theorem bC8(h:d5 g a=some l):(IK.tI a l.length).Is l.reverse g:=λi=>by
 simp only[IK.at,h,if_true];by_cases hi:i<l.length
 ·rw[aG hi,List.getElem?_reverse hi]
 ·rw[aD hi,aO (by simpa using hi)]
theorem Q1(l:List D):(nu l).length=l.length:=by simp[nu]
theorem zA(h:(nu l)[i]?=some x):∃d,l[i]?=some d/\x=.tup [.int i,d]:=by
 rw[nu,List.getElem?_mapIdx,aa] at h;obtain⟨d,h1,h2⟩:=h;exact⟨d,h1,h2.symm⟩
theorem x6{lo:Int}(h:(j6 lo n)[i]?=some x):i<n/\x=.int (lo+i):=by
 unfold j6 at h;have hi:i<n:=by
  have:=(av.mp h).1;simpa using this
 rw[ai,cI hi] at h;cases h;exact⟨hi,rfl⟩
theorem j7(lo:Int)(n:Nat):(j6 lo n).length=n:=by simp[j6]
section
variable{U:S}{it a b c:ME}{s:MS}{t:MT}{Q:KD}
theorem Nj{k:IK}{fin:S->G->Prop}{turn:D->(S->G->Prop)->S->G->Prop}(I:Nat->S->G->Prop)(hk:∀i U g,I i U g->k.Is l g)(h0:I 0 U g)(hs:∀i x U g,l[i]?=some x->I i U g->turn x (I (i+1)) U g)(hd:∀U g,I l.length U g->fin U g):turns k U g fin turn:=by
 refine⟨λi m U g=>m=l.length-i/\i<=l.length/\I i U g,⟨l.length,by simp,bW _,h0⟩,?_⟩;rintro i m U g ⟨rfl,hi,p⟩;rw[hk i U g p i];by_cases dY:i<l.length
 ·rw[ag dY];exact .inr ⟨_,rfl,I (i+1),λcw g' p'=>⟨l.length-(i+1),by omega,rfl,dY,p'⟩,hs i l[i] U g (ag dY) p⟩
 ·have e:i=l.length:=by omega
  subst e;rw[aO (aw _)];exact .inl ⟨rfl,hd U g p⟩
inductive xS(P:fS)(t:MT)(s:MS)(N:Ends)(E:KX)(U:S)(k:IK)(g1:G):Prop
 |mk (l:List D) (I:Nat->S->G->Prop) (hk:∀i U g,I i U g->k.Is l g) (h0:I 0 U g1)
   (hs:∀i x U g,l[i]?=some x->I i U g->ki t x U λcK=>wpS P s ⟨I (i+1),N.rt,N.nx,I (i+1)⟩ cK g E) (hd:∀U g,I l.length U g->N.nx U g):xS P t s N E U k g1
theorem x5(hP:j4 P)(h:iz P it U g (xS P t s N E U) E):wpS P (.du t it s) N U g E :=
 E2 hP it _ _ _ _ _ _ (λk g1 hq=>by obtain⟨l,I,hk,h0,hs,hd⟩:=hq;exact Nj I hk h0 hs hd) (λ_ _ z=>z) h
theorem Km(hn:(n:Int)<2 ^ 62)(I:Nat->S->G->Prop)(h0:I 0 U g)(hs:∀(i:Nat) U g,i<n->I i U g->ki t (.int i) U λcK=>wpS P s ⟨I (i+1),N.rt,N.nx,I (i+1)⟩ cK g E)(hd:∀U g,I n U g->N.nx U g):wpS P (.du t (.eL (.lit (.int n))) s) N U g E:=by
 refine⟨n,rfl,by omega,hn,Nj (l:=j6 0 n) I (λ_ _ _ _=>u9) h0 (λi x U g hx p=>?_) (λU g p=>hd U g (by rw[j7] at p;exact p))⟩;obtain⟨hi,rfl⟩:=x6 hx;have:=hs i U g hi p;rw[show(0:Int)+(i:Int)=i by omega];exact this
inductive CompI(P:fS)(t:MT)(cond elt:ME)(E:KX)(Q:KD)(U:S)(k:IK)(g1:G):Prop
 |mk (l:List D) (I:Nat->List D->S->G->Prop) (hl:l.length<=1000) (hk:∀i ys U g,I i ys U g->k.Is l g/\ys.length<=i) (h0:I 0 [] U g1)
   (hs:∀i x ys U g,l[i]?=some x->I i ys U g->ki t x U λcK=>eP P cond cK g (λc g3=>if c=true then bq P elt cK g3 (λy g4=>I (i+1) (ys++[y]) cK g4) E else I (i+1) ys cK g3) kc)
   (hd:∀ys U g,I l.length ys U g->Q (.ref g.length) (g++[.lst ys])):CompI P t cond elt E Q U k g1
theorem J7(hP:j4 P)(h:iz P it U g (CompI P t cond elt kc Q (L1 U d6 n)) E):bq P (.comp d6 n t it cond elt) U g Q E:=by
 refine E2 hP it _ _ _ _ _ _ (λk g1 h=>?_) (λ_ _ z=>z) h;obtain⟨l,I,hl,hk,h0,hs,hd⟩:=h;refine⟨λi m ys U g=>m=l.length-i/\i<=l.length/\I i ys U g,⟨l.length,by simp,bW _,h0⟩,?_⟩;rintro i m ys U g ⟨rfl,hi,p⟩;obtain⟨oE,hy⟩:=hk i ys U g p;rw[oE i];by_cases dY:i<l.length
 ·rw[ag dY];refine .inr ⟨_,rfl,by omega,B4 (λcK q=>z9 hP cond _ _ _ _ _ _ (λc g3 q=>?_) (λ_ _ z=>z) q) (hs i l[i] ys U g (ag dY) p)⟩;cases c
  ·exact⟨l.length-(i+1),by omega,rfl,dY,by simpa using(show I (i+1) ys cK g3 from q)⟩
  ·exact c9 hP elt _ _ _ _ _ _ (λy g4 q=>⟨l.length-(i+1),by omega,rfl,dY,by simpa using q⟩) (λ_ _ z=>z) q
 ·have e:i=l.length:=by omega
  subst e;rw[aO (aw _)];exact .inl ⟨rfl,hd ys U g p⟩
inductive xM(P:fS)(t:MT)(cond elt:ME)(Q:KD)(U:S)(k:IK)(g1:G):Prop
 |mk (l:List D) (I:Nat->List Int->S->G->Prop) (hl:l.length<60) (hk:∀i ys U g,I i ys U g->k.Is l g/\ys.length<=i) (h0:I 0 [] U g1)
   (hs:∀i x ys U g,l[i]?=some x->I i ys U g->ki t x U λcK=>eP P cond cK g (λc g3=>if c=true then bq P elt cK g3 (λy g4=>∃j,y=.int j/\I (i+1) (ys++[j]) cK g4) kc else I (i+1) ys cK g3) kc)
   (hd:∀ys U g,I l.length ys U g->Q (.ref g.length) (g++[.lst ((u4 ys).map .int)])):xM P t cond elt Q U k g1
theorem Vv(hP:j4 P)(h:iz P it U g (xM P t cond elt Q (L1 U d6 n)) E):bq P (.iE d6 n t it cond elt) U g Q E:=by
 refine E2 hP it _ _ _ _ _ _ (λk g1 h=>?_) (λ_ _ z=>z) h;obtain⟨l,I,hl,hk,h0,hs,hd⟩:=h;refine⟨λi m ys U g=>m=l.length-i/\i<=l.length/\I i ys U g,⟨l.length,by simp,bW _,h0⟩,?_⟩;rintro i m ys U g ⟨rfl,hi,p⟩;obtain⟨oE,hy⟩:=hk i ys U g p;rw[oE i];by_cases dY:i<l.length
 ·rw[ag dY];refine .inr ⟨_,rfl,by omega,B4 (λcK q=>z9 hP cond _ _ _ _ _ _ (λc g3 q=>?_) (λ_ _ z=>z) q) (hs i l[i] ys U g (ag dY) p)⟩;cases c
  ·exact⟨l.length-(i+1),by omega,rfl,dY,by simpa using(show I (i+1) ys cK g3 from q)⟩
  ·refine c9 hP elt _ _ _ _ _ _ (λy g4 q=>?_) (λ_ _ z=>z) q;obtain⟨j,e,q⟩:=q;exact⟨j,e,l.length-(i+1),by omega,rfl,dY,by simpa using q⟩
 ·have e:i=l.length:=by omega
  subst e;rw[aO (aw _)];exact .inl ⟨rfl,by omega,hd ys U g p⟩
theorem aQ2(hP:j4 P)(h:bq P a U g (λx g1=>∃j:Nat,x=.int j/\j<=1000/\∃I:Nat->List D->S->G->Prop,I 0 [] (L1 U d6 n) g1/\(∀i ys U g,I i ys U g->ys.length<=i) /\
      (∀(i:Nat) ys U g,i<j->I i ys U g->ki t (.int i) U λcK=>eP P cond cK g (λc g3=>if c=true then bq P elt cK g3 (λy g4=>I (i+1) (ys++[y]) cK g4) kc else I (i+1) ys cK g3) kc) /\
      ∀ ys U g,I j ys U g->Q (.ref g.length) (g ++ [.lst ys])) E):bq P (.comp d6 n t (.eL a) cond elt) U g Q E:=by
  refine J7 hP ?_;refine c9 hP a _ _ _ _ _ _ (λx g1 h=>?_) (λ_ _ z=>z) h;obtain⟨j,rfl,hj,I,h0,hz,hs,hd⟩:=h;refine⟨j,rfl,by omega,by omega,_,I,by rw[j7];simpa using hj,λi ys U g p=>⟨u9,hz i ys U g p⟩,h0,λi x ys U g hx p=>?_,λys U g p=>hd ys U g (by rw[j7] at p;simpa using p)⟩;obtain⟨hi,rfl⟩:=x6 hx;rw[show(0:Int)+(i:Int)=i by omega];exact hs i ys U g (by simpa using hi) p
theorem aQ1(hP:j4 P)(h:bq P a U g (λx g1=>∃l,x=.tup l/\l.length<=1000/\∃I:Nat->List D->S->G->Prop,I 0 [] (L1 U d6 n) g1/\(∀i ys U g,I i ys U g->ys.length<=i) /\
      (∀(i:Nat) x ys U g,l[i]?=some x->I i ys U g->ki t x U λcK=>eP P cond cK g (λc g3=>if c=true then bq P elt cK g3 (λy g4=>I (i+1) (ys++[y]) cK g4) kc else I (i+1) ys cK g3) kc) /\
      ∀ ys U g,I l.length ys U g->Q (.ref g.length) (g ++ [.lst ys])) E):bq P (.comp d6 n t (.fk a) cond elt) U g Q E:=by
  refine J7 hP ?_;refine c9 hP a _ _ _ _ _ _ (λx g1 h=>?_) (λ_ _ z=>z) h;obtain⟨l,rfl,hj,I,h0,hz,hs,hd⟩:=h;exact .inl ⟨l,rfl,_,I,hj,λi ys U g p=>⟨u9,hz i ys U g p⟩,h0,hs,hd⟩
theorem MB(I:Nat->S->G->Prop)(m0:Nat)(h0:I m0 U g)(hs:∀m U g,I m U g->eP P c U g (λt g1=>if t=true then wpS P s ⟨λcw g'=>∃m',m'<m/\I m' cw g',N.rt,N.nx,λcw g'=>∃m',m'<m/\I m' cw g'⟩ U g1 E else N.nx U g1) E)(hP:j4 P):wpS P (.kL c s) N U g E:=by
 refine⟨I,⟨m0,h0⟩,λm U g p=>z9 hP c _ _ _ _ _ _ (λt g1 q=>?_) (λ_ _ z=>z) (hs m U g p)⟩;cases t
 ·exact q
 ·exact⟨_,λ_ _ z=>z,q⟩
theorem S1(hP:j4 P)(h:bq P a U g (λx g1=>∃j:Int,x=.int j/\-(2 ^ 62)<=j/\j<2 ^ 62/\R (.fix (j6 0 j.toNat)) g1) E):iz P (.eL a) U g R E:=h
theorem JG(hP:j4 P)(h:bq P a U g (λx g1=>bq P b U g1 (λy g2=>∃i j:Int,x=.int i/\y=.int j/\(-(2 ^ 62)<=i/\i<2 ^ 62/\-(2 ^ 62)<=j/\j<2 ^ 62)/\R (.fix (j6 i (j-i).toNat)) g2) E) E):iz P (.jA a b) U g R E:=h
theorem vP(hP:j4 P)(h:bq P a U g (λx g1=>∃l,x=.tup l/\R (.fix l) g1) E):iz P (.fk a) U g R E:=by
 exact c9 hP a _ _ _ _ _ _ (λx g1 h=>.inl h) (λ_ _ z=>z) h
theorem lr(hP:j4 P)(h:bq P a U g (λx g1=>∃i l,x=.ref i/\d5 g1 i=some l/\R (.lst i) g1) E):iz P (.fk a) U g R E:=by
 exact c9 hP a _ _ _ _ _ _ (λx g1 h=>.inr h) (λ_ _ z=>z) h
theorem OX(h:bq P a U g (λx g1=>∃i l,x=.ref i/\d5 g1 i=some l/\R (.tI i l.length) g1) E):iz P (.oy a) U g R E:=h
theorem Bn(h:bq P a U g (λx g1=>∃i l,x=.ref i/\d5 g1 i=some l/\R (.pK i) g1) E):iz P (.lO a) U g R E:=h
end
end M
namespace M
open PySem L2 PySem.Spec PyProof.Rows
variable{K:PySem.W.Frag}{x:Str}{C:Addr}
structure RF where
 id:Nat
 nm:Str
 N:List Str
 k:Nat
 i:Nat
 m:bf
structure RM where
 id:Nat
 cl:Str
 nm:Str
 qn:Str
 N:List Str
 k:Nat
 i:Nat
 j:Nat
 m:bf
def RF.d(tp:Nat->Stmt)(r:RF):qa:=⟨r.nm,r.nm,r.N,r.N.take r.k,tp r.i⟩
def RM.d(mt:Nat->Nat->Stmt)(r:RM):qa:=⟨r.nm,r.qn,r.N,r.N.take r.k,mt r.i r.j⟩
def uy(F:List RF)(M:List RM)(i:Nat):Option bf:=match F.find? λr=>Nat.beq r.id i with
 |some r=>some r.m
 |none=>(M.find? λr=>Nat.beq r.id i).map (·.m)
section
variable(tp:Nat->Stmt)(mt:Nat->Nat->Stmt)(K:PySem.W.Frag)
def PF:List RF->Prop
 |[]=>True
 |r::l=>(∃f fd,PySem.W.nsIn K mainGlobals r.nm=some (some (.ref f))/\qR K r.nm r.nm (tp r.i) f fd)/\PF l
def PM:List RM->Prop
 |[]=>True
 |r::l=>(∃C f fd,PySem.W.nsIn K mainGlobals r.cl=some (some (.ref C))/\Meth K C r.nm f/\qR K r.nm r.qn (mt r.i r.j) f fd)/\PM l
def PC:List (Str×Nat)->Prop
 |[]=>True
 |r::l=>(∃C,PySem.W.nsIn K mainGlobals r.1=some (some (.ref C))/\kG K C/\PySem.W.makesIn K C=true/\PySem.W.keepIn K (.ref C)=true)/\PC l
def PA:List (Str×Str)->Prop
 |[]=>True
 |r::l=>(∃C,PySem.W.nsIn K mainGlobals r.2=some (some (.ref C))/\PySem.W.findIn K (.ref C) r.1=some none)/\PA l
def PB:List Str->Prop
 |[]=>True
 |r::l=>PySem.W.nsIn K mainGlobals r=some none/\PB l
def PX:List Str->Prop
 |[]=>True
 |r::l=>(∃C,PySem.W.nsIn K mainGlobals r=some (some (.ref C))/\PySem.W.excIn K C [.type "ValueError",.type "Exception",.type "BaseException",.type "object"] "ValueError.__new__"=true)/\PX l
def BF:List RF->Prop
 |[]=>True
 |r::l=>(∀(kV doc pm:Value) (an:Option Addr) (gz ct:Value) (us:List Value),us.length=(r.N.take r.k).length->bindArgs (PySem.W.fnOf r.nm r.nm (C6 (tp r.i)) (w6 (tp r.i)) (v9 (tp r.i)) .none kV doc pm an gz ct) ⟨us,[]⟩=pure ((r.N.take r.k).zip us))/\BF l
def BM:List RM->Prop
 |[]=>True
 |r::l=>(∀(kV doc pm:Value) (an:Option Addr) (gz ct:Value) (us:List Value),us.length=(r.N.take r.k).length->bindArgs (PySem.W.fnOf r.nm r.qn (C6 (mt r.i r.j)) (w6 (mt r.i r.j)) (v9 (mt r.i r.j)) .none kV doc pm an gz ct) ⟨us,[]⟩=pure ((r.N.take r.k).zip us))/\BM l
def YF(c:j5):List RF->Prop
 |[]=>True
 |r::l=>A7 (comp 60) (c.at (r.d tp)) (w6 (tp r.i))=some r.m.body/\YF c l
def YM(c:j5):List RM->Prop
 |[]=>True
 |r::l=>A7 (comp 60) (c.at (r.d mt)) (w6 (mt r.i r.j))=some r.m.body/\YM c l
end
section
variable{tp:Nat->Stmt}{mt:Nat->Nat->Stmt}{c:j5}{id k i j:Nat}{cl nm qn:Str}{N:List Str}{m:bf}{f:Addr}{oc kV doc pm gz ct:Value}{od an:Option Addr}{ni:Array (Option Value)}
theorem PF.nil:PF tp K []:=trivial
theorem PF.cons{l:List RF}(a:PySem.W.nsIn K mainGlobals nm=some (some (.ref f)))(lk:K.lookup f=some ⟨oc,od,.func (PySem.W.fnOf nm nm (C6 (tp i)) (w6 (tp i)) (v9 (tp i)) .none kV doc pm an gz ct),ni⟩)(cd:PySem.W.codeIn K gz nm=true)(kp:PySem.W.keepIn K (.ref f)=true)(h:PF tp K l):PF tp K (⟨id,nm,N,k,i,m⟩::l):=⟨⟨f,_,a,Nv lk cd kp⟩,h⟩
theorem PM.nil:PM mt K []:=trivial
theorem PM.cons{l:List RM}(c0:PySem.W.nsIn K mainGlobals cl=some (some (.ref C)))(a:PySem.W.findIn K (.ref C) nm=some (some (.ref f)))(af:PySem.W.isFn K (.ref f)=true)(lk:K.lookup f=some ⟨oc,od,.func (PySem.W.fnOf nm qn (C6 (mt i j)) (w6 (mt i j)) (v9 (mt i j)) .none kV doc pm an gz ct),ni⟩)(cd:PySem.W.codeIn K gz qn=true)(kp:PySem.W.keepIn K (.ref f)=true)(h:PM mt K l):PM mt K (⟨id,cl,nm,qn,N,k,i,j,m⟩::l):=⟨⟨C,f,_,c0,⟨a,af,kp⟩,Nv lk cd kp⟩,h⟩
theorem PC.nil:PC K []:=trivial
theorem PC.cons{l:List (Str×Nat)}(cn:PySem.W.nsIn K mainGlobals x=some (some (.ref C)))(cp:PySem.W.plainGet K C Str.empty=true)(RH:PySem.W.hasDictIn K C=true)(RD:PySem.W.plainOver K C=true)(RC:PySem.W.findIn K (.ref C) "__setattr__"=some (some (.builtin "object.__setattr__")))(RE:PySem.W.makesIn K C=true)(RG:PySem.W.keepIn K (.ref C)=true)(h:PC K l):PC K ((x,i)::l):=⟨⟨C,cn,⟨cp,RH,RD,RC⟩,RE,RG⟩,h⟩
theorem PA.nil:PA K []:=trivial
theorem PA.cons{l:List (Str×Str)}(cn:PySem.W.nsIn K mainGlobals x=some (some (.ref C)))(fl:PySem.W.findIn K (.ref C) nm=some none)(h:PA K l):PA K ((nm,x)::l):=⟨⟨C,cn,fl⟩,h⟩
theorem PB.nil:PB K []:=trivial
theorem PB.cons{l:List Str}(cn:PySem.W.nsIn K mainGlobals x=some none)(h:PB K l):PB K (x::l):=⟨cn,h⟩
theorem PX.nil:PX K []:=trivial
theorem PX.cons{l:List Str}(cn:PySem.W.nsIn K mainGlobals x=some (some (.ref C)))(q:PySem.W.excIn K C [.type "ValueError",.type "Exception",.type "BaseException",.type "object"] "ValueError.__new__"=true)(h:PX K l):PX K (x::l):=⟨⟨C,cn,q⟩,h⟩
theorem Gn{P:List Value->Prop}{n:Nat}(h:∀a vs,vs.length=n->P (a::vs))(us:List Value)(hl:us.length=n+1):P us:=by
 cases us with
 |nil=>cases hl
 |cons a vs=>exact h a vs (Nat.succ.inj hl)
theorem Gm{P:List Value->Prop}(h:P [])(us:List Value)(hl:us.length=0):P us:=by
 simp_all
theorem BF.nil:BF tp []:=trivial
theorem BF.cons{l:List RF}(h:∀(kV doc pm:Value) (an:Option Addr) (gz ct:Value) (us:List Value),us.length=(N.take k).length->bindArgs (PySem.W.fnOf nm nm (C6 (tp i)) (w6 (tp i)) (v9 (tp i)) .none kV doc pm an gz ct) ⟨us,[]⟩=pure ((N.take k).zip us))(h2:BF tp l):BF tp (⟨id,nm,N,k,i,m⟩::l):=⟨h,h2⟩
theorem BM.nil:BM mt []:=trivial
theorem BM.cons{l:List RM}(h:∀(kV doc pm:Value) (an:Option Addr) (gz ct:Value) (us:List Value),us.length=(N.take k).length->bindArgs (PySem.W.fnOf nm qn (C6 (mt i j)) (w6 (mt i j)) (v9 (mt i j)) .none kV doc pm an gz ct) ⟨us,[]⟩=pure ((N.take k).zip us))(h2:BM mt l):BM mt (⟨id,cl,nm,qn,N,k,i,j,m⟩::l):=⟨h,h2⟩
theorem YF.nil:YF tp c []:=trivial
theorem YF.cons{l:List RF}(h:A7 (comp 60) (c.at ⟨nm,nm,N,N.take k,tp i⟩) (w6 (tp i))=some m.body)(h2:YF tp c l):YF tp c (⟨id,nm,N,k,i,m⟩::l):=⟨h,h2⟩
theorem YM.nil:YM mt c []:=trivial
theorem YM.cons{l:List RM}(h:A7 (comp 60) (c.at ⟨nm,qn,N,N.take k,mt i j⟩) (w6 (mt i j))=some m.body)(h2:YM mt c l):YM mt c (⟨id,cl,nm,qn,N,k,i,j,m⟩::l):=⟨h,h2⟩
theorem YF.get:∀{l:List RF},YF tp c l->∀r∈l,A7 (comp 60) (c.at (r.d tp)) (w6 (tp r.i))=some r.m.body
 |_::_,h,r,hr=>(aJ.mp hr).elim (λz=>z▸h.1) (YF.get h.2 r)
theorem YM.get:∀{l:List RM},YM mt c l->∀r∈l,A7 (comp 60) (c.at (r.d mt)) (w6 (mt r.i r.j))=some r.m.body
 |_::_,h,r,hr=>(aJ.mp hr).elim (λz=>z▸h.1) (YM.get h.2 r)
theorem PF.get:∀{l:List RF},PF tp K l->∀r∈l,∃f fd,PySem.W.nsIn K mainGlobals r.nm=some (some (.ref f))/\qR K r.nm r.nm (tp r.i) f fd
 |_::_,h,r,hr=>(aJ.mp hr).elim (λz=>z▸h.1) (PF.get h.2 r)
theorem PM.get:∀{l:List RM},PM mt K l->∀r∈l,∃C f fd,PySem.W.nsIn K mainGlobals r.cl=some (some (.ref C))/\Meth K C r.nm f/\qR K r.nm r.qn (mt r.i r.j) f fd
 |_::_,h,r,hr=>(aJ.mp hr).elim (λz=>z▸h.1) (PM.get h.2 r)
theorem PC.get:∀{l:List (Str×Nat)},PC K l->∀r∈l,∃C,PySem.W.nsIn K mainGlobals r.1=some (some (.ref C))/\kG K C/\PySem.W.makesIn K C=true/\PySem.W.keepIn K (.ref C)=true
 |_::_,h,r,hr=>(aJ.mp hr).elim (λz=>z▸h.1) (PC.get h.2 r)
theorem PA.get:∀{l:List (Str×Str)},PA K l->∀r∈l,∃C,PySem.W.nsIn K mainGlobals r.2=some (some (.ref C))/\PySem.W.findIn K (.ref C) r.1=some none
 |_::_,h,r,hr=>(aJ.mp hr).elim (λz=>z▸h.1) (PA.get h.2 r)
theorem PB.get:∀{l:List Str},PB K l->∀r∈l,PySem.W.nsIn K mainGlobals r=some none
 |_::_,h,r,hr=>(aJ.mp hr).elim (λz=>z▸h.1) (PB.get h.2 r)
theorem PX.get:∀{l:List Str},PX K l->∀r∈l,∃C,PySem.W.nsIn K mainGlobals r=some (some (.ref C))/\PySem.W.excIn K C [.type "ValueError",.type "Exception",.type "BaseException",.type "object"] "ValueError.__new__"=true
 |_::_,h,r,hr=>(aJ.mp hr).elim (λz=>z▸h.1) (PX.get h.2 r)
theorem BF.get:∀{l:List RF},BF tp l->∀r∈l,∀(kV doc pm:Value) (an:Option Addr) (gz ct:Value) (us:List Value),us.length=(r.N.take r.k).length->bindArgs (PySem.W.fnOf r.nm r.nm (C6 (tp r.i)) (w6 (tp r.i)) (v9 (tp r.i)) .none kV doc pm an gz ct) ⟨us,[]⟩=pure ((r.N.take r.k).zip us)
 |_::_,h,r,hr=>(aJ.mp hr).elim (λz=>z▸h.1) (BF.get h.2 r)
theorem BM.get:∀{l:List RM},BM mt l->∀r∈l,∀(kV doc pm:Value) (an:Option Addr) (gz ct:Value) (us:List Value),us.length=(r.N.take r.k).length->bindArgs (PySem.W.fnOf r.nm r.qn (C6 (mt r.i r.j)) (w6 (mt r.i r.j)) (v9 (mt r.i r.j)) .none kV doc pm an gz ct) ⟨us,[]⟩=pure ((r.N.take r.k).zip us)
 |_::_,h,r,hr=>(aJ.mp hr).elim (λz=>z▸h.1) (BM.get h.2 r)
end
def yk(N P:List Str)(sc:Scope):Bool:=decide (sc.kind=.function)&&!sc.isCoroutine&&!sc.isGenerator&&decide N.Nodup&&decide (N.take P.length=P)&&P.all (λx=>decide (sc.names.lookup x=some .local)||decide (sc.names.lookup x=some .cell))&&sc.names.all λy=>decide (y.2≠.free)
theorem Ly{N P:List Str}{sc:Scope}(h:yk N P sc=true):jq N P sc:=by
 unfold yk at h;simp only[Bool.and_eq_true,decide_eq_true_eq,Bool.not_eq_true',List.all_eq_true,Bool.or_eq_true] at h;obtain⟨⟨⟨⟨⟨⟨h1,h2⟩,h3⟩,h4⟩,h5⟩,h6⟩,h7⟩:=h;exact⟨h1,h2,h3,h4,h5,h6,h7⟩
theorem a12{h₀:Heap}{mg:Str->Option Value}{IQ:List Value}{newId:String}(X:K.In h₀)(G:h₀.Ns mainGlobals mg)(e:PySem.W.nsIn K mainGlobals x=some (some (.ref C)))(q:PySem.W.excIn K C IQ newId=true):PyProof.Rows.OwnCls x C IQ newId mg h₀:=by
 refine⟨bZ X G e,?_⟩;unfold PySem.W.excIn at q;split at q
 ·rename_i dd cd sl ho;split at q
  ·rename_i C' bm k0 k1 k2 k3 n k5 hm hs;simp only[Bool.and_eq_true,beq_iff_eq,Bool.not_eq_true'] at q;obtain⟨⟨⟨⟨⟨z1,z2⟩,wo⟩,ht⟩,bY⟩,yC⟩:=q;subst z1;subst z2;obtain⟨nm,bs,mro,ns,qn,hd,sn,sub,ab,col,del⟩:=cd;dsimp only at hm wo bY yC;subst hm wo;have qr:sl=#[k0,k1,k2,k3,some (.builtin n),k5]:=by
    obtain⟨l⟩:=sl;simp only at hs;rw[hs]
   subst qr;exact⟨bm,ns,nm,qn,bs,hd,sn,sub,ab,col,dd,k0,k1,k2,k3,k5,_,X _ _ ho,.of_isNs (PySem.W.isNs_of_in X bY),PySem.W.nsMap_none_of_in X bY yC,PySem.W.tail_of_in X ht⟩
  ·cases q
 ·cases q
def U6(K:PySem.W.Frag)(x:Str):Addr:=match PySem.W.nsIn K mainGlobals x with
 |some (some (.ref C))=>C
 |_=>0
def Mb(K:PySem.W.Frag)(exc:List Str):Bool:=exc.all λx=>exc.all λy=>decide (PySem.W.exmOne K (.ref (U6 K x)) (.ref (U6 K y))=some (decide (x=y\/y="MintError")))
theorem ZW{exc:List Str}(h:Mb K exc=true){y:Str}{C':Addr}(hx:exc.contains x=true)(hy:exc.contains y=true)(hC:y9 K x C)(Ia:y9 K y C'):PySem.W.exmOne K (.ref C) (.ref C')=some (decide (x=y\/y="MintError")):=by
 have h1:=cR.mp h x (by simpa using hx);have h2:=bj (cR.mp h1 y (by simpa using hy));have e1:U6 K x=C:=by unfold U6;simp_all
 have e2:U6 K y=C':=by unfold U6;simp_all
 rw[e1,e2] at h2;exact h2
theorem Du{α:Type}{f:α->Nat}:∀{l:List α},(l.map f).Nodup->∀r∈l,l.find? (λx=>Nat.beq (f x) (f r))=some r
 |y::l,nd,r,hr=>by
  rw[cS,dw] at nd;rcases aJ.mp hr with rfl|hr
  ·rw[List.find?_cons_of_pos];exact Nat.beq_refl _
  ·rw[List.find?_cons_of_neg]
   ·exact Du nd.2 r hr
   ·intro z;exact nd.1 (aN.mpr ⟨r,hr,(jt z).symm⟩)
theorem TQ{α β:Type}{f:α->Nat}{g:β->Nat}{l:List α}{r:β}(h:g r∉l.map f):l.find? (λx=>Nat.beq (f x) (g r))=none:=by
 rw[kI];intro x hx z;exact h (aN.mpr ⟨x,hx,jt z⟩)
section
variable{w:World}{h₀:Heap}{mg:Str->Option Value}{c:j5}{F:List RF}{M:List RM}{tp:Nat->Stmt}{mt:Nat->Nat->Stmt}
structure mq(K:PySem.W.Frag)(c:j5)(F:List RF)(M:List RM)(tp:Nat->Stmt)(mt:Nat->Nat->Stmt):Prop where
 qF:PF tp K F
 qM:PM mt K M
 qC:PC K c.cls
 qA:PA K c.oK
 qB:PB K c.blt
 qX:PX K c.exc
 xm:Mb K c.exc=true
structure mn(c:j5)(F:List RF)(M:List RM)(tp:Nat->Stmt)(mt:Nat->Nat->Stmt):Prop where
 cf:c.fns=F.map λr=>(r.nm,r.id)
 cm:c.qm=M.map λr=>(r.nm,r.cl,r.id)
 ci:c.cls.all (λy=>M.any λr=>decide (r.cl=y.1)&&decide (r.nm="__init__")&&Nat.beq r.id y.2)=true
 nd:(F.map (·.id)++M.map (·.id)).Nodup
 sF:F.all (λr=>yk r.N (r.N.take r.k) (v9 (tp r.i))&&decide (r.m.ar=(r.N.take r.k).length)&&decide (r.m.n=r.N.length))=true
 sM:M.all (λr=>yk r.N (r.N.take r.k) (v9 (mt r.i r.j))&&decide (r.m.ar=(r.N.take r.k).length)&&decide (r.m.n=r.N.length))=true
 oF:YF tp c F
 oM:YM mt c M
 bF:BF tp F
 bM:BM mt M
theorem Mt(I:mq K c F M tp mt)(X:mn c F M tp mt)(r:RF)(hr:r∈F):∃f fd,kf K c (r.d tp) r.m f fd/\PySem.W.nsIn K mainGlobals r.nm=some (some (.ref f))/\uy F M r.id=some r.m:=by
 obtain⟨f,fd,a,q⟩:=I.qF.get r hr;have s:=cR.mp X.sF r hr;simp only[Bool.and_eq_true,decide_eq_true_eq] at s;have o:=X.oF.get r hr;refine⟨f,fd,⟨q,q.binds (X.bF.get r hr),Ly s.1.1,o,s.1.2,s.2⟩,a,?_⟩;unfold uy;rw[Du (f:=(·.id)) (cx.mp X.nd).1 r hr]
theorem Mu(I:mq K c F M tp mt)(X:mn c F M tp mt)(r:RM)(hr:r∈M):∃C f fd,kf K c (r.d mt) r.m f fd/\PySem.W.nsIn K mainGlobals r.cl=some (some (.ref C))/\Meth K C r.nm f/\uy F M r.id=some r.m:=by
 obtain⟨C,f,fd,a,q1,q⟩:=I.qM.get r hr;have s:=cR.mp X.sM r hr;simp only[Bool.and_eq_true,decide_eq_true_eq] at s;have o:=X.oM.get r hr;refine⟨C,f,fd,⟨q,q.binds (X.bM.get r hr),Ly s.1.1,o,s.1.2,s.2⟩,a,q1,?_⟩;have nd:=cx.mp X.nd;unfold uy;rw[TQ (f:=λr:RF=>r.id) (g:=λr:RM=>r.id) (r:=r) (λz=>nd.2.2 _ z _ (aN.mpr ⟨r,hr,rfl⟩) rfl),Du (f:=λr:RM=>r.id) nd.2.1 r hr]
 rfl
theorem Tj(I:mq K c F M tp mt)(Y:mn c F M tp mt)(X:K.In h₀)(G:h₀.Ns mainGlobals mg)(con:∀x d,c.con.lookup x=some d->∃v u,mg x=some u/\RelV v u/\∀ρ H,d8 K ρ H d v)(si:∀x kvs,c.gd.lookup x=some kvs->∃A vs,mg x=some (.ref A)/\Ac K w.params A vs/\qK K kvs vs):oj w K mg c (uy F M):=by
 refine⟨λx i hx=>?_,λx i hx=>?_,λx y i C hx hC=>?_,λf y C hx hC=>?_,con,λx hx=>?_,λx hx=>?_,λx y C C' hx hy hC Ia=>ZW I.xm hx hy hC Ia,si⟩
 ·have hm:=aT hx;rw[Y.cf] at hm;obtain⟨r,hr,e⟩:=aN.mp hm;cases e;obtain⟨f,fd,O,a,t⟩:=Mt I Y r hr;exact⟨_,_,f,fd,t,O,bZ X G a⟩
 ·have hm:=aT hx;have h1:=cR.mp Y.ci _ hm;obtain⟨r,hr,e⟩:=aU.mp h1;simp only[Bool.and_eq_true,decide_eq_true_eq] at e;obtain⟨⟨e1,e2⟩,e3⟩:=e;have e3:=jt e3;obtain⟨C,f,fd,O,a,q,t⟩:=Mu I Y r hr;obtain⟨C',a',hc,mk,kp⟩:=I.qC.get _ hm;rw[e1] at a;cases a.symm.trans a';rw[e2] at q;rw[e3] at t;exact⟨C,_,_,f,fd,t,O,bZ X G a,a,hc,⟨mk,q.at_,q.fn,kp⟩⟩
 ·rw[Y.cm] at hx;obtain⟨r,hr,e⟩:=aN.mp hx;cases e;obtain⟨C',f,fd,O,a,q,t⟩:=Mu I Y r hr;cases a.symm.trans hC;exact⟨_,_,f,fd,t,O,q⟩
 ·obtain⟨C',a,q⟩:=I.qA.get _ hx;cases a.symm.trans hC;exact q
 ·exact PySem.W.mg_none_of X G (I.qB.get x (by simpa using hx))
 ·obtain⟨C,a,q⟩:=I.qX.get x (by simpa using hx);exact⟨_,bZ X G a,a,λbase ox wI=>⟨_,_,_,_,a12 ox wI a q,PySem.F.excBase_ValueError⟩⟩
end
end M
namespace M
open PySem L2
variable{g g':G}{i j n k a b m r c p hl:Nat}{o o':O}{P:fS}{Q:KD}{E:KX}{N:Ends}{ms ns:List Int}{l:List D}{α:Type}{x:D}{f v:Int}{kvs:List (Key×D)}{cs:List b7}{kb:Bool->Prop}{rs:List eU}{w:RW}{L H:List Nat}
set_option hygiene false
local macro_rules|`(tactic|walk_at"w1")=>`(tactic|with_reducible first|refine U8 ?_|refine xj ?_|refine zf ?_|refine EV ?_|refine Ts ?_|refine ZL ?_|refine MA ?_|refine Tw ?_|refine EU ?_|refine N4 ?_|refine AM ?_|(refine w_var (d:=?_) ?_ ?_;rotate_left;·with_unfolding_all rfl)|refine w_lit ?_|refine xI ?_|refine xH ?_|refine XS ?_|refine Tv ?_|refine Vt ?_|refine w_and ?_|refine w_or ?_|refine w_not ?_|refine w_ite ?_|refine zw ?_|refine Tt ?_|refine ye ?_|refine ze ?_|refine U9 ?_|refine Tx ?_|refine ZJ ?_|refine Tz ?_|refine zg ?_|refine EW ?_|refine XU ?_|refine XW ?_|refine ZH ?_|refine WH ?_|refine WG ?_|refine WE ?_|refine WD ?_|refine Ya ?_|refine IZ ?_|refine X' ?_|refine Ym ?_|refine Yb ?_|refine Yg ?_|refine Yi ?_|refine Yh ?_|refine Yk ?_|refine Yl ?_|refine Yj ?_|refine sJ ?_|refine Yc ?_|refine ID ?_|refine Yf ?_|refine Yd ?_|refine Af ?_|refine XO ?_|refine Dr ?_|refine bD1 ?_|refine mG ?_|refine qN ?_|refine JH ?_|refine WR ?_|refine YK ?_|refine AV ?_|refine AS ?_|refine AU ?_|refine GB ?_|refine GU ?_|refine Gp ?_)
local macro_rules|`(tactic|walk_at"w2")=>`(tactic|repeat(with_reducible first|walk_at "w1"|refine EK (by simp) ?_|refine EJ (by simp) ?_|refine u3 (a9 (by assumption)) (by with_unfolding_all rfl) ?_|refine J5 (a9 (by assumption)) ?_|refine Et (by unfold pN;decide) ?_))
local macro_rules|`(tactic|walk_at"w3")=>`(tactic|repeat(with_reducible first|walk_at "w1"|refine EK (by simp) ?_|refine EJ (by simp) ?_|refine u3 (a9 (by assumption)) (by with_unfolding_all rfl) ?_|refine J5 (a9 (by assumption)) ?_|refine Et (by unfold pN;decide) ?_|refine And.intro (show List.length _ <= 1000 from by simp) ?_|refine C2 (by with_unfolding_all rfl) ?_|refine i7 ?_|refine A2 (by with_unfolding_all rfl) ?_))
local macro_rules|`(tactic|walk_at"")=>`(tactic|repeat(with_reducible first|walk_at "w1"|refine Vu ?_|refine ZK ?_|refine Tu ?_|refine Yn ?_|refine ZA ?_|refine Gq ?_|refine max2 ?_|refine min2 ?_|refine Yy ?_|refine V6 ?_|refine Rc ?_|refine Ij ?_|refine EK (by simp) ?_|refine EJ (by simp) ?_|refine u3 (a9 (by assumption)) (by with_unfolding_all rfl) ?_|refine J5 (a9 (by assumption)) ?_|refine Et (by unfold pN;decide) ?_|refine And.intro (show List.length _ <= 1000 from by simp) ?_|refine C2 (by with_unfolding_all rfl) ?_|refine i7 ?_|refine A2 (by with_unfolding_all rfl) ?_|refine And.intro (Nx (by assumption)) ?_|refine And.intro (bA8 (by assumption)) ?_|refine And.intro (WZ (by assumption)) ?_|refine U4 (by decide) ?_|refine Nm (by decide) (by decide) ?_|refine Bn ?_))
set_option hygiene true
abbrev fy(a:ME):ME:=.cons a .nil
abbrev dX(a b:ME):ME:=.cons a (.cons b .nil)
abbrev jv(a b c:ME):ME:=.cons a (.cons b (.cons c .nil))
abbrev mX(a b c d:ME):ME:=.cons a (.cons b (.cons c (.cons d .nil)))
abbrev tD(a b c d e:ME):ME:=.cons a (.cons b (.cons c (.cons d (.cons e .nil))))
abbrev Ie(a b c d e f:ME):ME:=.cons a (.cons b (.cons c (.cons d (.cons e (.cons f .nil)))))
abbrev Cv(a b c d e f g:ME):ME:=.cons a (.cons b (.cons c (.cons d (.cons e (.cons f (.cons g .nil))))))
abbrev dW(o:PySem.CmpOp)(a b:ME):ME:=.fV (.prim (.cmp o) (.cons a (.cons b .nil)))
abbrev cN(a b:ME):ME:=.prim .ix (.cons a (.cons b .nil))
abbrev bh(a:Int):ME:=.lit (.int a)
abbrev iF(a:PySem.Str):ME:=.lit (.str a)
abbrev dg(p:Pr)(a:ME):ME:=.prim p (.cons a .nil)
abbrev bP(p:Pr)(a b:ME):ME:=.prim p (.cons a (.cons b .nil))
abbrev aL:ME:=.var 0
abbrev bp:ME:=.var 1
abbrev qp:ME:=.var 10
abbrev lW:ME:=.var 12
abbrev vI:ME:=.var 13
abbrev qo:ME:=.var 15
abbrev vH:ME:=.var 16
abbrev bu:ME:=.var 2
abbrev bB:ME:=.var 3
abbrev cT:ME:=.var 4
abbrev eE:ME:=.var 5
abbrev fb:ME:=.var 6
abbrev gI:ME:=.var 7
abbrev jz:ME:=.var 8
def J0:bf:=⟨2,5,(.seq (.ifs (.dM (dW .Lt (cN aL (bh 2)) bp) (dW .Lt (cN aL (bh 1)) (dg .len (cN aL (bh 0))))) (.seq (.set 2 (cN (cN aL (bh 0)) (cN aL (bh 1)))) (.seq (.eQ aL (bh 1) (bP (.bin .Add) (cN aL (bh 1)) (bh 1))) (.seq (.eQ aL (bh 2) (bh 0)) (.seq (.ifs (dW .GtE bu (bP (.bin .Pow) (bh 10) (bh 18))) (.seq (.eQ aL (bh 2) bu) .pass) (.seq (.eQ aL (bh 3) (bP (.bin .Mod) (bP (.bin .Add) (bP (.bin .Add) (bP (.bin .Mult) (cN aL (bh 3)) (bh 48271)) (bP (.bin .Mult) (bP (.bin .Mod) bu (bh 2147483629)) (bh 69621))) (bh 12345)) (bh 2147483647))) .pass)) .pass)))) .pass) (.seq (.ifs (dW .GtE (cN aL (bh 2)) bp) (.seq (.set 3 (bP (.bin .Mod) (cN aL (bh 2)) bp)) (.seq (.eQ aL (bh 2) (bP (.bin .FloorDiv) (cN aL (bh 2)) bp)) (.seq (.ret bB) .pass))) .pass) (.seq (.set 4 (cN aL (bh 3))) (.seq (.eQ aL (bh 3) (bP (.bin .Mod) (bP (.bin .Add) (bP (.bin .Add) (bP (.bin .Mult) (bP (.bin .Mod) (bP (.bin .Mult) cT cT) (bh 2147483629)) (bh 5)) (bP (.bin .Mult) cT (bh 16811))) (bh 2531011)) (bh 2147483647))) (.seq (.ret (bP (.bin .Mod) (bP (.bin .Add) (bP (.bin .FloorDiv) (cN aL (bh 3)) (bh 59)) (bP (.bin .Mult) (bP (.bin .Mod) (cN aL (bh 3)) (bh 8191)) (bh 31))) bp)) .pass)))))⟩
structure j8(g:G)(d:Nat):Prop where
 ex:∃(s:Nat) (p b r:Int) (xs:List Int),g[d]?=some (.lst [.ref s,.int p,.int b,.int r])/\g[s]?=some (.lst (xs.map .int))/\s<d/\0<=p/\0<=b/\0<=r/\r<2147483647
structure Gr(d:Nat)(g g':G):Prop where
 len:g.length<=g'.length
 old:∀i,i≠d->i<g.length->g'[i]?=g[i]?
theorem Gr.refl(d:Nat)(g:G):Gr d g g:=⟨aw _,λ_ _ _=>rfl⟩
theorem Gr.trans{d:Nat}{g g1 g2:G}(a:Gr d g g1)(b:Gr d g1 g2):Gr d g g2:=⟨aC a.len b.len,λi h1 h2=>(b.old i h1 (aB h2 a.len)).trans (a.old i h1 h2)⟩
theorem Gr.set(d:Nat)(g:G)(o:O):Gr d g (g.set d o):=⟨by simp,λi h1 h2=>ax (cq h1)⟩
theorem Gr.snoc(d:Nat)(g:G)(o:O):Gr d g (g++[o]):=⟨by simp,λi h1 h2=>aK h2⟩
theorem Gr.at{d:Nat}(h:Gr d g g')(hi:i≠d)(e:g[i]?=some o):g'[i]?=some o:=(h.old i hi (av.mp e).1).trans e
theorem l9(h:g[i]?=some o):i<g.length:=(av.mp h).1
theorem j8.lt{d:Nat}(h:j8 g d):d<g.length:=by
 obtain⟨_,_,_,_,_,e,_⟩:=h.ex;exact l9 e
theorem j8.snoc{d:Nat}(h:j8 g d)(o:O):j8 (g++[o]) d:=by
 obtain⟨s,p,b,r,xs,e1,e2,q⟩:=h.ex;exact⟨s,p,b,r,xs,by rw[aK (l9 e1)];exact e1,by rw[aK (l9 e2)];exact e2,q⟩
def m8:MS->MS
 |.seq _ b=>b
 |x=>x
theorem Fd{i j:Int}(h1:-(2 ^ 64)<i)(h2:i<2 ^ 64):sG i j:=.inl ⟨h1,h2⟩
theorem uJ{i j:Int}(h1:-(2 ^ 64)<j)(h2:j<2 ^ 64):sG i j:=.inr ⟨h1,h2⟩
theorem aZ7{d:Nat}{n:Int}{c2:Option D}(hN:N.rt=Q)(D0:j8 g d)(hn:0<n)(nk:n<1073741824)(h:∀r g',0<=r->r<n->j8 g' d->Gr d g g'->Q (.int r) g'):wpS P (m8 J0.body) N [some (.ref d),some (.int n),c2,none,none] g E:=by
 obtain⟨s,p,b,r,xs,e1,e2,oZ,hp,hb,hr,qt⟩:=D0.ex;have dY:=l9 e1;subst hN;dsimp[J0,m8];walk_at "w2";refine if2 (λc=>?_) (λc=>?_)
 ·walk_at "w2";refine U4 hn ?_;walk_at "w2";refine Ad ⟨hn,nk⟩ ?_;walk_at "w2";refine W0 e1 (by rfl) ?_;walk_at "w2";refine h _ _ (ft _ ()) (eB _ hn) ⟨s,p,b / n,r,xs,?_,?_,oZ,hp,Int.ediv_nonneg hb (),hr,qt⟩ (Gr.set d g _)
  ·rw[bg dY];rfl
  ·rw[ax (cu oZ)];exact e2
 ·walk_at "w2";have GC:-(2 ^ 64)<r/\r<2 ^ 64:=⟨by omega,by omega⟩
  refine U3 (Fd GC.1 GC.2) ?_;refine U4 ∅ ?_;refine U3 (uJ ∅ ∅) ?_;walk_at "w2";refine U3 (uJ ∅ ∅) ?_;walk_at "w2";refine U4 ∅ ?_;walk_at "w2";refine W0 e1 (by rfl) ?_;generalize fG:(r*r % 2147483629*5+r*16811+2531011) % 2147483647=r';have q0:0<=r':=by rw[<- fG];exact ft _ ∅
  have q1:r'<2147483647:=by rw[<- fG];exact eB _ ∅
  have Rz:(g.set d (.lst [.ref s,.int p,.int b,.int r']))[d]?=some (.lst [.ref s,.int p,.int b,.int r']):=bg dY;show wpS P _ _ _ (g.set d (.lst [.ref s,.int p,.int b,.int r'])) E;walk_at "w2";refine Ad ⟨by decide,by decide⟩ ?_;walk_at "w2";refine U4 ∅ ?_;refine U3 (uJ ∅ ∅) ?_;walk_at "w2";refine U4 hn ?_;refine h _ _ (ft _ ()) (eB _ hn) ⟨s,p,b,r',xs,Rz,?_,oZ,hp,hb,q0,q1⟩ (Gr.set d g _);rw[ax (cu oZ)];exact e2
theorem i9{T:Nat->Option bf}(hT:T 4=some J0){d:Nat}{n:Int}(D0:j8 g d)(hn:0<n)(nk:n<1073741824)(h:∀r g',0<=r->r<n->j8 g' d->Gr d g g'->Q (.int r) g'):c5 T (k+1) 4 [.ref d,.int n] g Q E:=by
 obtain⟨s,p,b,r,xs,e1,e2,oZ,hp,hb,hr,qt⟩:=D0.ex;have dY:=l9 e1;refine call_of hT rfl ?_;have tail:∀(g':G) (c2:Option D),j8 g' d->Gr d g g'->wpS (c5 T k) (m8 J0.body) ⟨λ_ g'=>Q .bD g',Q,λ_ _=>False,λ_ _=>False⟩ [some (.ref d),some (.int n),c2,none,none] g' E :=
  λg' c2 D1 gr=>aZ7 rfl D1 hn nk λr g2 a b c e=>h r g2 a b c (gr.trans e)
 dsimp[J0,d0,List.replicate];walk_at "w2";refine if2 (λc=>?_) (λc=>?_)
 ·walk_at "w2";refine if2 (λc'=>?_) (λc'=>?_)
  ·walk_at "w2";have iK:p.toNat<xs.length:=by
    rw[ak] at c';omega
   have ea:gG (xs.map D.int) p=some (.int xs[p.toNat]):=by
    have:=C7 (xs:=xs.map D.int) (j:=p.toNat) (v:=.int xs[p.toNat]) (by rw[ai,ag iK];rfl)
    rwa [show((p.toNat:Nat):Int)=p by omega] at this
   refine u3 (a9 e2) ea ?_;generalize xs[p.toNat]=cell;walk_at "w2";refine W0 e1 (by rfl) ?_;have f1:(g.set d (.lst [.ref s,.int (p+1),.int b,.int r]))[d]?=some (.lst [.ref s,.int (p+1),.int b,.int r]):=bg dY;walk_at "w2";refine W0 f1 (by rfl) ?_;rw[iW];have f2:(g.set d (.lst [.ref s,.int (p+1),.int 0,.int r]))[d]?=some (.lst [.ref s,.int (p+1),.int 0,.int r]):=bg dY;show wpS (c5 T k) _ _ _ (g.set d (.lst [.ref s,.int (p+1),.int 0,.int r])) E;walk_at "w2";refine if2 (λc2=>?_) (λc2=>?_)
   ·walk_at "w2";refine W0 f2 (by rfl) ?_;rw[iW];refine tail _ _ ⟨s,p+1,cell,r,xs,bg dY,by rw[ax (cu oZ)];exact e2,oZ,by omega,?_,hr,qt⟩ (Gr.set d g _);have Ic:(0:Int)<=10 ^ (18:Int).toNat:=by decide
    omega
   ·walk_at "w2";refine U3 (uJ ∅ ∅) ?_;walk_at "w2";refine U4 ∅ ?_;refine U3 (uJ ∅ ∅) ?_;walk_at "w2";refine U4 ∅ ?_;walk_at "w2";refine W0 f2 (by rfl) ?_;rw[iW];exact tail _ _ ⟨s,p+1,0,_,xs,bg dY,by rw[ax (cu oZ)];exact e2,oZ,by omega,by decide,ft _ ∅,eB _ ∅⟩ (Gr.set d g _)
  ·exact tail _ _ D0 (Gr.refl _ _)
 ·exact tail _ _ D0 (Gr.refl _ _)
def Ea:bf:=⟨1,1,(.seq (.ret (.dM (bP .isin aL (.lit (.ty "int"))) (.eK (bP .isin aL (.lit (.ty "bool")))))) .pass)⟩
def Y4:bf:=⟨3,3,(.seq (.ret (.dM (.call 38 (fy aL)) (.chain .LtE .LtE bp aL bu))) .pass)⟩
structure NF(T:Nat->Option bf):Prop where
 nf:T 1=some Y4
 is:T 38=some Ea
def O0:bf:=⟨1,3,(.seq (.set 1 (bh 0)) (.seq (.du (.one 2) (.fk aL) (.seq (.ifs (.eK (.fV (.call 1 (jv bu bp (bh 7))))) (.seq (.ret (.lit (.bl false))) .pass) .pass) (.seq (.set 1 (bP (.bin .Add) bu (bh 1))) .pass))) (.seq (.ret (.lit (.bl true))) .pass)))⟩
def Ap:bf:=⟨1,1,(.seq (.ret (.prim .lst (mX (dg .list (bP (.ql false true) aL (bh 63))) (bh 0) (bh 0) (bh 29)))) .pass)⟩
def xF:bf:=⟨1,1,(.seq (.ret (.dM (bP .isin aL (.lit (.ty "int"))) (.eK (bP .isin aL (.lit (.ty "bool")))))) .pass)⟩
def J1:bf:=⟨2,2,(.seq (.ifs (dW .Is bp (.lit .bD)) (.seq (.ret (bP (.cmp .Is) aL (.lit .bD))) .pass) .pass) (.seq (.ifs (.fV (bP .isin bp (.lit (.ty "bool")))) (.seq (.ret (.dM (bP .isin aL (.lit (.ty "bool"))) (bP (.cmp .Eq) aL bp))) .pass) .pass) (.seq (.ifs (.fV (bP .isin bp (.lit (.ty "int")))) (.seq (.ret (.dM (.call 6 (fy aL)) (bP (.cmp .Eq) aL bp))) .pass) .pass) (.seq (.ifs (.fV (bP .isin bp (.lit (.ty "str")))) (.seq (.ret (.dM (bP .isin aL (.lit (.ty "str"))) (bP (.cmp .Eq) aL bp))) .pass) .pass) (.seq (.ifs (.jm (dW .NotEq (bP .isin bp (.lit (.ty "tuple"))) (bP .isin aL (.lit (.ty "tuple")))) (dW .NotEq (bP .isin bp (.lit (.ty "list"))) (bP .isin aL (.lit (.ty "list"))))) (.seq (.ret (.lit (.bl false))) .pass) .pass) (.seq (.ifs (dW .NotEq (dg .len aL) (dg .len bp)) (.seq (.ret (.lit (.bl false))) .pass) .pass) (.seq (.ret (dg .all (.comp [1,0] 4 (.one 3) (.eL (dg .len bp)) .no (.call 7 (dX (cN bp bB) (cN aL bB)))))) .pass)))))))⟩
theorem M8{g:G}{n:Nat}:∀ms:List Int,(ms.map D.int).mapM (rd g n)=some (ms.map PyData.int)
 |[]=>rfl
 |m::r=>by
  rw[cS,List.mapM_cons,M8 r];cases n<;>rfl
theorem lay_ints:∀ms:List Int,PyData.canLayAll0 (ms.map PyData.int)=true
 |[]=>by rfl
 |m::r=>by simp[PyData.canLayAll0,PyData.canLay0,lay_ints r]
theorem Y9:∀ms ns:List Int,PyData.eqvAll (ms.map PyData.int) (ns.map PyData.int)=decide (ms=ns)
 |[],[]=>by rfl
 |[],_::_=>by rfl
 |_::_,[]=>by rfl
 |m::r,n::q=>by
  simp only[List.map_cons,PyData.eqvAll,PyData.eqv,Y9 r q];by_cases h:m=n
  ·subst h;simp
  ·simp[h]
theorem DV{i:Int}{k:Bool->Prop}(h:k (ms.any λm=>m==i)):rD g (.int i) (.tup (ms.map .int)) k:=by
 refine⟨_,.inr ⟨_,_,_,rfl,M8 ms,rfl,lay_ints ms,by rfl,rfl⟩,?_⟩;rw[lI];exact h
theorem a38{k:Bool->Prop}(ha:d5 g a=some (ms.map .int))(hb:d5 g b=some (ns.map .int))(h:k (decide (ms=ns))):su g (.ref a) (.ref b) k:=by
 refine⟨_,.inr (.inr (.inr ⟨.list (ms.map .int),.list (ns.map .int),?_,?_,?_,?_,rfl⟩)),?_⟩
 ·simp only[rd];rw[ha];dsimp only;rw[M8];rfl
 ·simp only[rd];rw[hb];dsimp only;rw[M8];rfl
 ·simp[PyData.canLay0,lay_ints]
 ·simp[PyData.canLay0,lay_ints]
 ·simp only[PyData.eqv,Y9];exact h
section
variable{T:Nat->Option bf}{d:Nat}
theorem Ll(h1:NF T){i:Int}(h:Q (.bl true) g):c5 T (k+1) 38 [.int i] g Q E:=by
 refine call_of h1.is rfl ?_;dsimp[Ea,d0,List.replicate];walk_at "w2";refine gN (c:="int") (b:=true) ∅ rfl ?_;walk_at "w2";refine gN (c:="bool") (b:=false) ∅ rfl ?_;walk_at "w2";exact h
theorem K6(h1:NF T){i l m:Int}(h:Q (.bl (decide (l<=i)&&decide (i<=m))) g):c5 T (k+2) 1 [.int i,.int l,.int m] g Q E:=by
 refine call_of h1.nf rfl ?_;dsimp[Y4,d0,List.replicate];walk_at "w2";refine Ll h1 ?_;walk_at "w2";refine if2 (λc=>?_) (λc=>?_)
 ·rw[ay c] at h;walk_at "w2";exact h
 ·rw[aI c] at h;exact h
def gm:Int->List Int->Bool
 |_,[]=>true
 |l,x::r=>(decide (l<=x)&&decide (x<=7))&&gm (x+1) r
theorem Lp(h1:NF T)(h2:T 2=some O0)(h:Q (.bl (gm 0 ms)) g):c5 T (k+3) 2 [.tup (ms.map .int)] g Q E:=by
 refine call_of h2 rfl ?_;refine x5 (b0 T _) (vP (b0 T _) ?_);walk_at "w2";refine⟨_,rfl,_,λi U g'=>g'=g/\∃(l:Int) (z:Option D),U=[some (.tup (ms.map .int)),some (.int l),z]/\gm 0 ms=gm l (ms.drop i),λ_ _ _ _=>u9,⟨rfl,0,none,rfl,rfl⟩,λi x U g' hx p=>?_,λU g' p=>?_⟩
 ·obtain⟨rfl,l,z,rfl,e⟩:=p;rw[ai] at hx;cases em:ms[i]? with
  |none=>rw[em] at hx;cases hx
  |some m =>
   rw[em] at hx;cases hx;have hi:=(av.mp em).1;have ed:ms.drop i=m::ms.drop (i+1):=by
    rw[dj hi]
    congr 1
    exact(av.mp em).2
   rw[ed] at e;simp only[gm] at e;show wpS _ _ _ _ _ _;walk_at "w2";refine K6 h1 ?_;walk_at "w2";cases hc:(decide (l<=m)&&decide (m<=7)) with
   |true =>
    rw[hc,qT] at e;walk_at "w2";exact⟨rfl,m+1,some (.int m),rfl,e⟩
   |false =>
    rw[hc,Bool.false_and] at e;rw[e] at h;exact h
 ·obtain⟨rfl,l,z,rfl,e⟩:=p;rw[iY (by simp)] at e;rw[e] at h;exact h
theorem Ut(h3:T 3=some Ap)(hg:g[a]?=some (.pF (ns.map .int)))(h:∀d g',j8 g' d->g.length<=d->(∀i,i<g.length->g'[i]?=g[i]?)->Q (.ref d) g'):c5 T (k+1) 3 [.ref a] g Q E:=by
 refine call_of h3 rfl ?_;dsimp[Ap,d0,List.replicate];walk_at "w2";refine zu (a30 hg) ?_;refine An (l:=cut (ns.map D.int) none (some 63)) (a9 (by simp)) ?_;walk_at "w2";have ec:cut (ns.map D.int) none (some 63)=(cut ns none (some 63)).map D.int:=by
  unfold cut;simp[List.map_take,List.map_drop]
 refine h _ _ ⟨g.length+1,0,0,29,cut ns none (some 63),?_,?_,?_,by decide,by decide,by decide,by decide⟩ (by simp) (λi hi=>?_)
 ·simp
 ·rw[<- ec];simp
 ·simp
 ·simp[List.getElem?_append,hi,Nat.lt_of_lt_of_le hi (by omega:g.length<=g.length+1),Nat.lt_of_lt_of_le hi (by omega:g.length<=g.length+1+1)]
end
theorem Ji:∀{ms:List Int} {l:Int},ms.Pairwise (· < ·)->(∀m∈ms,l<=m/\m<=7)->gm l ms=true
 |[],_,_,_=>rfl
 |m::r,l,hp,h=>by
  obtain⟨h1,h2⟩:=fB.mp hp;have hm:=h m (by simp);simp only[gm];rw[ay hm.1,ay hm.2,Ji h2 λx hx=>⟨by have:=h1 x hx;omega,(h x (by simp[hx])).2⟩]
  rfl
theorem M7{l:List α}{r:Int}(h0:0<=r)(h1:r<l.length):∃v,gG l r=some v/\v∈l:=by
 have hi:r.toNat<l.length:=by omega
 refine⟨l[r.toNat],?_,cC hi⟩;have:=C7 (xs:=l) (j:=r.toNat) (v:=l[r.toNat]) (ag hi)
 rwa [show((r.toNat:Nat):Int)=r by omega] at this
section
variable{T:Nat->Option bf}
theorem Mg(h7:T 7=some J1){a b:Bool}(h:Q (.bl (a==b)) g):c5 T (k+1) 7 [.bl a,.bl b] g Q E:=by
 refine call_of h7 rfl ?_;dsimp[J1,d0,List.replicate];walk_at "w2";walk_at "w2";refine gN (c:="bool") (b:=true) ∅ rfl ?_;walk_at "w2";refine gN (c:="bool") (b:=true) ∅ rfl ?_;walk_at "w2";exact h
end
def C8:bf:=⟨1,8,(.seq (.mD (.many [1,2,3,4,5]) aL) (.seq (.set 6 (.dM (.call 1 (jv bp (bh 1) (bh 99))) (.call 2 (fy bu)))) (.seq (.set 7 (.dM (.call 1 (jv bB (bh 1) (bh 99))) (.call 2 (fy cT)))) (.seq (.ret (.dM fb (.dM gI (.call 1 (jv eE (bh 0) (bh 9999)))))) .pass))))⟩
structure b7 where
 lo:Int
 lm:List Int
 up:Int
 um:List Int
 yr:Int
def b7.d(c:b7):D:=.tup [.int c.lo,.tup (c.lm.map .int),.int c.up,.tup (c.um.map .int),.int c.yr]
def C9(c:b7):Bool:=((decide (1<=c.lo)&&decide (c.lo<=99))&&gm 0 c.lm)&&(((decide (1<=c.up)&&decide (c.up<=99))&&gm 0 c.um)&&(decide (0<=c.yr)&&decide (c.yr<=9999)))
section
variable{T:Nat->Option bf}{d:Nat}
theorem aH6(h1:NF T)(h2:T 2=some O0)(ue:T 12=some C8){c:b7}(h:Q (.bl (C9 c)) g):c5 T (k+4) 12 [c.d] g Q E:=by
 refine call_of ue rfl ?_;dsimp[C8,d0,List.replicate,b7.d];walk_at "w3";refine K6 h1 ?_;have s1:∀b:Bool,b=((decide (1<=c.lo)&&decide (c.lo<=99))&&gm 0 c.lm)->wpS (c5 T (k+3)) (m8 (m8 C8.body)) ⟨λ_ g'=>Q .bD g',Q,λ_ _=>False,λ_ _=>False⟩ [some c.d,some (.int c.lo),some (.tup (c.lm.map .int)),some (.int c.up),some (.tup (c.um.map .int)),some (.int c.yr),some (.bl b),none] g E:=by
  intro b hb;dsimp[C8,m8];walk_at "w3";refine K6 h1 ?_;have s2:∀b':Bool,b'=((decide (1<=c.up)&&decide (c.up<=99))&&gm 0 c.um)->wpS (c5 T (k+3)) (m8 (m8 (m8 C8.body))) ⟨λ_ g'=>Q .bD g',Q,λ_ _=>False,λ_ _=>False⟩ [some c.d,some (.int c.lo),some (.tup (c.lm.map .int)),some (.int c.up),some (.tup (c.um.map .int)),some (.int c.yr),some (.bl b),some (.bl b')] g E:=by
   intro b' lA;dsimp[C8,m8];have e:C9 c=(b&&(b'&&(decide (0<=c.yr)&&decide (c.yr<=9999)))):=by unfold C9;rw[hb,lA]
   rw[e] at h;walk_at "w3";cases b
   ·exact qN h
   ·refine mG ?_;walk_at "w3";cases b'
    ·exact qN h
    ·refine mG ?_;walk_at "w3";exact K6 h1 h
  refine Dr ?_;cases hc:(decide (1<=c.up)&&decide (c.up<=99)) with
  |false=>exact qN (s2 false (by rw[hc];rfl))
  |true =>
   refine mG ?_;walk_at "w1";walk_at "w1";walk_at "w1";walk_at "w1";exact Lp h1 h2 (s2 _ (by rw[hc];rfl))
 refine Dr ?_;cases hc:(decide (1<=c.lo)&&decide (c.lo<=99)) with
 |false=>exact qN (s1 false (by rw[hc];rfl))
 |true =>
  refine mG ?_;walk_at "w1";walk_at "w1";walk_at "w1";walk_at "w1";exact Lp h1 h2 (s1 _ (by rw[hc];rfl))
end
def V2:bf:=⟨2,5,(.seq (.set 2 (dg .list bp)) (.seq (.set 3 (.prim .lst .nil)) (.seq (.du (.one 4) (.eL (dg .len bp)) (.seq (.expr (.eW .append bB (fy (.eW .pop bu (fy (.call 4 (dX aL (dg .len bu)))))))) .pass)) (.seq (.ret bB) .pass))))⟩
theorem KC{α:Type}:∀{l:List α} {j:Nat} (h:j<l.length),(l[j]::l.eraseIdx j).Perm l
 |a::r,0,_=>by simp
 |a::r,j+1,h=>by
  simp only[List.getElem_cons_succ,List.eraseIdx_cons_succ];exact(List.Perm.swap _ _ _).trans ((KC (l:=r) (j:=j) (by simpa using h)).cons a)
theorem Gr.M3{d x:Nat}(h:Gr d g g')(hx:g.length<=x):Gr d g (g'.set x o):=⟨by simp[h.len],λi h1 h2=>by rw[ax ()];exact h.old i h1 h2⟩
theorem j8.M3{d x:Nat}(h:j8 g d)(hx:d<x):j8 (g.set x o) d:=by
 obtain⟨s,p,b,r,xs,e1,e2,hs,q⟩:=h.ex;exact⟨s,p,b,r,xs,by rw[ax ()];exact e1,by rw[ax ()];exact e2,hs,q⟩
theorem b9:(g++[o])[g.length]?=some o:=by simp
theorem v5(h:g[i]?=some o):(g++[o'])[i]?=some o:=by rw[aK (l9 h)];exact h
theorem get_set(h:g[i]?=some o):(g.set i o')[i]?=some o':=bg (l9 h)
theorem d4(h:g[i]?=some o)(hn:j≠i):(g.set j o')[i]?=some o:=by rw[ax hn];exact h
section
variable{T:Nat->Option bf}{d:Nat}
theorem Ld(h4:T 4=some J0)(Cb:T 21=some V2)(ha:g[a]?=some (.lst l))(hl:l.length<=1000)(hd:a≠d)(D0:j8 g d)(h:∀(l':List D) b g',l'.Perm l->g'[b]?=some (.lst l')->g.length<=b->j8 g' d->Gr d g g'->Q (.ref b) g'):c5 T (k+2) 21 [.ref d,.ref a] g Q E:=by
 refine call_of Cb rfl ?_;dsimp[V2,d0,List.replicate];left;refine An (a9 ha) ?_;left;have dl:=D0.lt;refine x5 (b0 T _) (S1 (b0 T _) ?_);left;have yQ:(g++[O.lst l]++[O.lst []])[a]?=some (.lst l):=v5 (v5 ha);refine J5 (a9 yQ) ?_;refine ⟨_,rfl,by omega,by omega,j6 0 l.length,λi U g'=>∃ left found w,U=[some (.ref d),some (.ref a),some (.ref g.length),some (.ref (g.length + 1)),w]/\(left ++ found).Perm l/\left.length + i=l.length/\g'[g.length]?=some (.lst left)/\g'[g.length + 1]?=some (.lst found)/\j8 g' d/\Gr d g g',
  λi U g p=>u9,?_,λi x U g' hx p=>?_,λU g' p=>?_⟩
 ·refine⟨l,[],none,?_,by simp,by simp,?_,?_,(D0.snoc _).snoc _,(Gr.snoc _ _ _).trans (Gr.snoc _ _ _)⟩
  ·simp
  ·exact v5 b9
  ·have:=b9 (g:=g++[O.lst l]) (o:=O.lst []);simpa using this
 ·obtain⟨left,found,w,rfl,hp,hn,e1,e2,D1,G1⟩:=p;obtain⟨hi,rfl⟩:=x6 hx;show wpS _ _ _ _ _ _;left;refine i9 (n:=(left.length:Int)) h4 D1 () () λr g2 r0 r1 D2 G2=>?_;have f1:=G2.at () e1;have f2:=G2.at () e2;have hr:r.toNat<left.length:=by omega
  left;refine YQ (j:=r.toNat) f1 () (ag hr) () ?_;left;refine Q6 (d4 f2 ()) ?_ ?_
  ·have:=hp.length_eq;simp at this;omega
  left;refine⟨_,_,_,rfl,?_,?_,d4 (get_set f1) (),get_set (d4 f2 ()),(D2.M3 ()).M3 (),((G1.trans G2).M3 ()).M3 ()⟩
  ·refine List.Perm.trans ?_ hp;have:=KC hr;refine List.Perm.trans ?_ (fN found this);simp only[List.cons_append];rw[<- bS];exact(List.perm_append_singleton _ _)
  ·rw[gS hr];omega
 ·obtain⟨left,found,w,rfl,hp,hn,e1,e2,D1,G1⟩:=p;show wpS _ _ _ _ _ _;left;rw[j7] at hn;have:left=[]:=dZ ();subst this;exact h _ _ _ (by simpa using hp) e2 () D1 G1
end
def zK:bf:=⟨1,5,(.seq (.set 1 (.prim .lst (Cv (.prim .tup .nil) (dg .tup (bh 0)) (bP .tup (bh 0) (bh 1)) (dg .tup (bh 1)) (.prim .tup (jv (bh 0) (bh 1) (bh 2))) (.prim .tup (mX (bh 0) (bh 1) (bh 2) (bh 7))) (dg .tup (bh 2))))) (.seq (.set 2 (cN bp (.call 4 (dX aL (cN (bP .tup (bh 4) (bh 7)) (dg .int (bP (.cmp .Eq) (.call 4 (dX aL (bh 4))) (bh 0)))))))) (.seq (.set 3 (cN bp (.call 4 (dX aL (bh 5))))) (.seq (.set 4 (cN (.prim .lst (Ie (bh 0) (bh 0) (bh 1400) (bh 1400) (bh 1401) (bh 1))) (.call 4 (dX aL (bh 6))))) (.seq (.ret (.prim .tup (tD (bP (.bin .Add) (bh 1) (.call 4 (dX aL (bh 3)))) bu (bP (.bin .Add) (bh 1) (.call 4 (dX aL (bh 4)))) bB cT))) .pass)))))⟩
def K7:bf:=⟨4,4,(.seq (.ifs (.jm (dW .Eq (dg .len bp) (bh 0)) (.dM (dW .Lt (dg .len bp) bB) (dW .Eq (.call 4 (dX aL (bh 3))) (bh 0)))) (.seq (.expr (.eW .append bp (fy bu))) (.seq (.ret (bP (.bin .Add) bu (bh 1))) .pass)) .pass) (.seq (.ifs (dW .Eq (.call 4 (dX aL (bh 5))) (bh 0)) (.seq (.eQ bp (.call 4 (dX aL (dg .len bp))) bu) (.seq (.ret (bP (.bin .Add) bu (bh 1))) .pass)) .pass) (.seq (.ret bu) .pass)))⟩
structure ke(c:b7):Prop where
 good:C9 c=true
 l8:c.lm.length<=8
 u8:c.um.length<=8
theorem ke.mk'{lo up yr:Int}{lm um:List Int}(h1:1<=lo)(h2:lo<=99)(h3:1<=up)(h4:up<=99)(h5:0<=yr)(h6:yr<=9999)(h7:gm 0 lm=true)(h8:gm 0 um=true)(h9:lm.length<=8)(Ic:um.length<=8):ke ⟨lo,lm,up,um,yr⟩:=by
 refine⟨?_,h9,Ic⟩;simp only[C9,h7,h8,decide_eq_true h1,decide_eq_true h2,decide_eq_true h3,decide_eq_true h4,decide_eq_true h5,decide_eq_true h6]
 rfl
theorem ke.inv{c:b7}(h:ke c):(1<=c.lo/\c.lo<=99)/\gm 0 c.lm=true/\(1<=c.up/\c.up<=99)/\gm 0 c.um=true/\0<=c.yr/\c.yr<=9999:=by
 have:=h.good;unfold C9 at this;simp only[Bool.and_eq_true,decide_eq_true_eq] at this;obtain⟨⟨⟨a,b⟩,e⟩,⟨⟨c',d⟩,f⟩,p,q⟩:=this;exact⟨⟨a,b⟩,e,⟨c',d⟩,f,p,q⟩
def W7:List (List Int):=[[],[0],[0,1],[1],[0,1,2],[0,1,2,7],[2]]
theorem Uj:∀ms∈W7,gm 0 ms=true/\ms.length<=8:=by decide
theorem Mi{r:Int}(h0:0<=r)(h7:r<7):∃ms,gG (W7.map λms=>D.tup (ms.map .int)) r=some (.tup (ms.map .int))/\gm 0 ms=true/\ms.length<=8:=by
 obtain⟨v,hv,hm⟩:=M7 (l:=W7.map λms=>D.tup (ms.map .int)) h0 (by simpa[W7] using h7);obtain⟨ms,h1,rfl⟩:=aN.mp hm;exact⟨ms,hv,Uj ms h1⟩
section
variable{T:Nat->Option bf}{d:Nat}
theorem aM3(h4:T 4=some J0)(QQ:T 22=some zK)(D0:j8 g d)(h:∀c g',ke c->j8 g' d->Gr d g g'->Q c.d g'):c5 T (k+2) 22 [.ref d] g Q E:=by
 refine call_of QQ rfl ?_;dsimp[zK,d0,List.replicate];have dl:=D0.lt;left;have D1:=D0.snoc (.lst (W7.map λms=>D.tup (ms.map .int)));have G1:=Gr.snoc d g (.lst (W7.map λms=>D.tup (ms.map .int)));have e1:(g++[O.lst (W7.map λms=>D.tup (ms.map .int))])[g.length]?=some (.lst (W7.map λms=>D.tup (ms.map .int))):=b9;refine i9 h4 D1 ∅ ∅ λr g2 r0 r1 D2 G2=>?_;left;have e2:=G2.at () e1;have hn:∃n:Int,gG [D.int 4,D.int 7] (if decide (r=0)=true then 1 else 0)=some (.int n)/\0<n/\n<=7:=by
  by_cases hr:r=0
  ·exact⟨7,by rw[ay hr];rfl,by decide,by decide⟩
  ·exact⟨4,by rw[aI hr];rfl,by decide,by decide⟩
 obtain⟨n,en,n0,n7⟩:=hn;refine A2 en ?_;left;refine i9 h4 D2 n0 () λr3 g3 jl jx D3 G3=>?_;have e3:=G3.at () e2;obtain⟨lm,el,gl,ll⟩:=Mi jl ();refine u3 (a9 e3) el ?_;left;refine i9 h4 D3 ∅ ∅ λr4 g4 rm tJ D4 G4=>?_;have e4:=G4.at () e3;obtain⟨um,eu,gu,lu⟩:=Mi rm ();refine u3 (a9 e4) eu ?_;left;have e5:(g4++[O.lst [.int 0,.int 0,.int 1400,.int 1400,.int 1401,.int 1]])[g4.length]?=some (.lst [.int 0,.int 0,.int 1400,.int 1400,.int 1401,.int 1]):=b9;refine i9 h4 (D4.snoc _) ∅ ∅ λr5 g5 lM lL D5 G5=>?_;have e6:=G5.at (by have:=D4.lt;omega) e5;obtain⟨v,hv,hm⟩:=M7 (l:=[D.int 0,.int 0,.int 1400,.int 1400,.int 1401,.int 1]) lM (by simpa using lL);have hy:∃y:Int,v=.int y/\0<=y/\y<=9999:=by
  simp only[List.mem_cons,List.mem_nil_iff,or_false] at hm;rcases hm with rfl|rfl|rfl|rfl|rfl|rfl<;>exact⟨_,rfl,by decide,by decide⟩
 obtain⟨y,rfl,y0,y1⟩:=hy;refine u3 (a9 e6) hv ?_;left;refine i9 h4 D5 ∅ ∅ λr6 g6 GF GD D6 G6=>?_;left;refine i9 h4 D6 ∅ ∅ λr7 g7 r70 r71 D7 G7=>?_;left;exact h ⟨1+r6,lm,1+r7,um,y⟩ _ (ke.mk' () () () () y0 y1 gl gu ll lu) D7 (G1.trans (G2.trans (G3.trans (G4.trans ((Gr.snoc _ _ _).trans (G5.trans (G6.trans G7)))))))
def Es(l:List D)(f:Int):Prop:=∃ns:List Int,l=ns.map .int/\∀n∈ns,1<=n/\n<f
theorem aZ0(h4:T 4=some J0)(wC:T 23=some K7)(ha:g[a]?=some (.lst l))(hl:l.length<1000)(hs:Es l f)(f1:1<=f)(hd:d<a)(D0:j8 g d)(h:∀(l':List D) (f':Int) g',l'≠[]->l'.length<=l.length+1->Es l' f'->f<=f'->f'<=f+1->g'[a]?=some (.lst l')->j8 g' d->(∀i,i≠d->i≠a->i<g.length->g'[i]?=g[i]?)->g.length<=g'.length->Q (.int f') g'):c5 T (k+2) 23 [.ref d,.ref a,.int f,.int v] g Q E:=by
 refine call_of wC rfl ?_;obtain⟨ns,rfl,ph⟩:=id hs;have app:∀g':G,g'[a]?=some (.lst (ns.map D.int))->j8 g' d->Gr d g g'->wpS (c5 T (k+1)) (.seq (.expr (.eW .append (.var 1) (.cons (.var 2) .nil))) (.seq (.ret (.prim (.bin .Add) (.cons (.var 2) (.cons (.lit (.int 1)) .nil)))) .pass)) ⟨λjj g1=>wpS (c5 T (k+1)) (m8 K7.body) ⟨λ_ g'=>Q .bD g',Q,λ_ _=>False,λ_ _=>False⟩ jj g1 E,Q,λ_ _=>False,λ_ _=>False⟩ [some (.ref d),some (.ref a),some (.int f),some (.int v)] g' E:=by
  intro g' e D1 G1;left;refine Q6 e () ?_;left;refine h _ _ _ (by simp) (by simp) ⟨ns++[f],by simp,λn hn=>?_⟩ () () (get_set e) (D1.M3 hd) (λi h1 h2 h3=>?_) (by simp[G1.len])
  ·rcases aR.mp hn with z|z
   ·have:=ph n z;omega
   ·simp at z;omega
  ·rw[ax (cq h2)];exact G1.old i h1 h3
 have rest:∀g':G,g'[a]?=some (.lst (ns.map D.int))->ns≠[]->j8 g' d->Gr d g g'->wpS (c5 T (k+1)) (m8 K7.body) ⟨λ_ g'=>Q .bD g',Q,λ_ _=>False,λ_ _=>False⟩ [some (.ref d),some (.ref a),some (.int f),some (.int v)] g' E:=by
  intro g' e fR D1 G1;dsimp[K7,m8];left;refine i9 h4 D1 ∅ ∅ λr g2 r0 r1 D2 G2=>?_;have e2:=G2.at () e;have hlen:0<ns.length:=Ge.mpr fR;left;refine if2 (λc=>?_) (λc=>?_)
  ·left;rw[ak];refine i9 h4 D2 () (by simp at hl;omega) λr3 g3 jl jx D3 G3=>?_;have e3:=G3.at () e2;have hj:lN (ns.map D.int).length r3=some r3.toNat:=by
    unfold lN;rw[aG jl,aG (by rw[ak];exact jx)]
   refine W0 e3 hj ?_;left;refine h _ _ _ (by simp[fR]) (by simp) ⟨ns.set r3.toNat f,by simp,λn hn=>?_⟩ () () (get_set e3) (D3.M3 hd) (λi h1 h2 h3=>?_) (by simp[((G1.trans G2).trans G3).len])
   ·rcases qc hn with z|z
    ·have:=ph n z;omega
    ·omega
   ·rw[ax (cq h2)];exact((G1.trans G2).trans G3).old i h1 h3
  ·left;exact h _ _ _ (by simp[fR]) (by simp) hs () () e2 D2 (λi h1 h2 h3=>(G1.trans G2).old i h1 h3) (G1.trans G2).len
 dsimp[K7,d0,List.replicate];left;refine if2 (λc=>?_) (λc=>?_)
 ·refine mG ?_;exact app g ha D0 (Gr.refl _ _)
 ·have fR:ns≠[]:=λz=>c (by rw[z];rfl);left;refine if2 (λc2=>?_) (λc2=>?_)
  ·left;refine i9 h4 D0 ∅ ∅ λr g2 r0 r1 D2 G2=>?_;left;refine if2 (λc3=>?_) (λc3=>?_)
   ·exact app g2 (G2.at () ha) D2 G2
   ·exact rest g2 (G2.at () ha) fR D2 G2
  ·exact rest g ha fR D0 (Gr.refl _ _)
end
def M9:bf:=⟨3,17,(.seq (.set 3 (.prim .lst .nil)) (.seq (.set 4 (bh 1)) (.seq (.set 5 (.prim .V6 .nil)) (.seq (.set 6 (cN (.prim .lst (jv (bh 0) (bh 1) (bh 1350))) (.call 4 (dX aL (bh 3))))) (.seq (.set 7 (bP (.bin .Add) (bh 1) (.call 4 (dX aL (bh 96))))) (.seq (.set 8 (bP (.bin .Add) (bh 2) (.call 4 (dX aL (bh 4))))) (.seq (.set 9 (bP .max (bh 0) (bP (.bin .Sub) (.call 4 (dX aL (bh 9))) (bh 6)))) (.seq (.set 10 (.prim .lst .nil)) (.seq (.du (.one 11) (.eL bp) (.seq (.set 4 (.call 23 (mX aL bB cT bu))) (.seq (.set 12 (bP .tup (cN bB (.call 4 (dX aL (dg .len bB)))) (bP (.bin .Add) (bh 50) (.call 4 (dX aL (bP (.bin .Add) (bh 2) bu)))))) (.seq (.du (.one 13) (.fk lW) (.seq (.ifs (dW .Eq (.call 4 (dX aL jz)) (bh 0)) (.seq (.set 14 (.call 4 (dX aL (bh 8)))) (.seq (.eQ eE vI (dg .tuple (.comp [13,14,5] 5 (.one 4) (.eL (bh 8)) (.jm (dW .Eq cT bp) (dW .In cT (.eW .get bu (dX aL (.prim .tup .nil))))) cT))) .pass)) .pass) .pass)) (.seq (.ifs (dW .Eq (.call 4 (dX aL (bh 5))) (bh 0)) (.seq (.set 6 (bP .min (bh 9999) (bP (.bin .Add) (bP (.bin .Add) fb (bh 1)) (.call 4 (dX aL (bh 9)))))) .pass) .pass) (.seq (.set 15 (.comp [9,7] 4 (.one 3) (.fk lW) .no (bP (.bin .Add) (bP (.bin .Add) (bh 1) aL) (bP (.bin .Mod) (bP (.bin .Mult) bB bp) (bh 97))))) (.seq (.set 16 (bP (.bin .Mult) fb (dg .int (bP (.cmp .Gt) (.call 4 (dX aL (bh 4))) (bh 0))))) (.seq (.expr (.eW .append qp (fy (.prim .tup (tD (cN qo (bh 0)) (.eW .get eE (dX (cN lW (bh 0)) (.prim .tup .nil))) (cN qo (bh 1)) (.eW .get eE (dX (cN lW (bh 1)) (.prim .tup .nil))) vH))))) .pass)))))))) (.seq (.ret qp) .pass))))))))))⟩
def pP(kvs:List (Key×D)):Prop:=∀k v,u7 kvs k=some v->∃ms:List Int,v=.tup (ms.map .int)/\gm 0 ms=true/\ms.length<=8
theorem a60(kvs:List (Key×D))(k k':Key)(v:D):u7 (putD kvs k v) k'=if k'=k then some v else u7 kvs k':=by
 unfold putD;split
 ·rename_i mK;have go:∀l:List (Key×D),u7 (l.map λkv=>if kv.1=k then(kv.1,v) else kv) k'=if k'=k then(if(l.any λkv=>decide (kv.1=k))=true then some v else none) else u7 l k':=by
   intro l
   induction l with
   |nil=>simp[u7]
   |cons p r ih =>
    obtain⟨pk,pv⟩:=p;by_cases e:pk=k
    ·subst e;by_cases e2:k'=pk
     ·subst e2;simp[u7]
     ·have:¬pk=k':=λz=>e2 z.symm;unfold u7 at ih ⊢;simp[this,e2] at ih ⊢;exact ih
    ·by_cases e2:k'=k
     ·subst e2;unfold u7 at ih ⊢;rw[kA,show decide (pk=k')=false from aI e,qU];simp[e] at ih ⊢;exact ih
     ·unfold u7 at ih ⊢;simp only[List.map_cons,e,if_false,List.find?_cons];by_cases e3:pk=k'
      ·simp[e3,e2]
      ·simp[e3];simp[e2] at ih;simp[e2];exact ih
  rw[go,mK]
  rfl
 ·rename_i mK;unfold u7;rw[lH];by_cases e:k'=k
  ·subst e;have:kvs.find? (λkv=>decide (kv.1=k'))=none:=by
    rw[kI];intro x hx hd;exact mK (aU.mpr ⟨x,hx,hd⟩)
   rw[this];simp
  ·have:¬k=k':=λz=>e z.symm;simp[this,e]
theorem a92(kvs:List (Key×D))(k:Key)(v:D):(putD kvs k v).length<=kvs.length+1:=by
 unfold putD;split<;>simp
theorem pP.put{k:Key}(h:pP kvs)(h1:gm 0 ms=true)(h2:ms.length<=8):pP (putD kvs k (.tup (ms.map .int))):=λk' v hv=>by
 rw[a60] at hv;split at hv
 ·cases hv;exact⟨ms,rfl,h1,h2⟩
 ·exact h k' v hv
theorem pP.get(h:pP kvs)(k:Key):∃ms:List Int,(u7 kvs k).getD (.tup [])=.tup (ms.map .int)/\gm 0 ms=true/\ms.length<=8:=by
 cases e:u7 kvs k with
 |none=>exact⟨[],rfl,rfl,by simp⟩
 |some v=>obtain⟨ms,rfl,h1,h2⟩:=h k v e;exact⟨ms,rfl,h1,h2⟩
theorem a35(p:Int->Bool):gm 0 (((List.range 8).map λ(n:Nat)=>(n:Int)).filter p)=true/\(((List.range 8).map λ(n:Nat)=>(n:Int)).filter p).length<=8:=by
 refine⟨Ji (List.Pairwise.filter _ ∅) λm hm=>?_,aC (gf _ _) ∅⟩;have:=(bL.mp hm).1;revert this;revert m;intro m _ hm;simp at hm;obtain⟨a,ha,rfl⟩:=hm;omega
theorem List.af7{l:List α}{x:α}(h:l[i]?=some x):l.set i x=l:=by
 apply bN;intro j;by_cases e:i=j
 ·subst e;rw[bg (av.mp h).1];exact h.symm
 ·rw[ax e]
section
variable{T:Nat->Option bf}{d:Nat}
def a59:MS:=match M9.body with
 |.seq _ (.seq _ (.seq _ (.seq _ (.seq _ (.seq _ (.seq _ (.seq _ (.seq (.du _ _ (.seq _ (.seq _ (.seq (.du _ _ b) _)))) _))))))))=>b
 |x=>x
theorem Vz(h4:T 4=some J0){w0:Nat}{key wr:Int}{U:S}(hw:g[w0]?=some (.da kvs))(W:pP kvs)(hk:kvs.length<1000)(hr:0<wr)(qt:wr<1000)(hd:d<w0)(D0:j8 g d)(s0:U[0]?=some (some (.ref d)))(s5:U[5]?=some (some (.ref w0)))(s8:U[8]?=some (some (.int wr)))(Ox:U[13]?=some (some (.int key)))(sl:U.length=17)(h:∀z jT g',g'[w0]?=some (.da jT)->pP jT->jT.length<=kvs.length+1->j8 g' d->(∀i,i≠d->i≠w0->i<g.length->g'[i]?=g[i]?)->g.length<=g'.length->N.nx (U.set 14 z) g'):wpS (c5 T (k+1)) a59 N U g E:=by
 obtain⟨mW,CN⟩:∃z,U[14]?=some z:=⟨_,ag ()⟩
 refine U8 (EU (EW (xI (zw (U9 (w_var s0 (U9 (w_var s8 (ze ?_)))))))));refine i9 h4 D0 hr () λr g2 r0 r1 D2 G2=>?_;left;refine if2 (λc=>?_) (λc=>?_)
 ·refine xj (zf (zw (U9 (w_var s0 (U9 (w_lit (ze ?_)))))));refine i9 h4 D2 ∅ ∅ λr3 g3 jl jx D3 G3=>?_;have e3:=(G2.trans G3).at () hw;have t5:(U.set 14 (some (.int r3)))[5]?=some (some (.ref w0)):=by rw[ax ∅];exact s5
  have Gs:(U.set 14 (some (.int r3)))[13]?=some (some (.int key)):=by rw[ax ∅];exact Ox
  have Oo:(U.set 14 (some (.int r3)))[14]?=some (some (.int r3)):=bg ();obtain⟨ms,em,_,_⟩:=W.get (.inl key);refine U8 (MA (xH ?_));refine aQ2 (b0 T _) (w_lit ⟨8,rfl,by decide,λi ys cw g'=>g'=g3/\ys.length<=i/\(∃z w,cw=[some (.int key),some (.int r3),some (.ref w0),z,w])/\ys=((((List.range i).map λ(n:Nat)=>(n:Int)).filter λs=>decide (s=r3)||ms.any λm=>m==s).map D.int),⟨rfl,by simp,⟨none,none,?_⟩,rfl⟩,λi ys U g' p=>p.2.1,λi ys cw g' hi p=>?_,λys cw g' p=>?_⟩)
  ·simp[L1,Gs,Oo,t5,List.replicate]
  ·obtain⟨rfl,hl,⟨z,w,rfl⟩,e⟩:=p;have er:(List.range (i+1)).map (λ(n:Nat)=>(n:Int))=(List.range i).map (λ(n:Nat)=>(n:Int))++[(i:Int)]:=by rw[fo];simp
   have yes:(decide ((i:Int)=r3)||ms.any λm=>m==(i:Int))=true->bq (c5 T (k+1)) (.var 4) [some (.int key),some (.int r3),some (.ref w0),z,some (.int i)] g' (λy g4=>g4=g'/\(ys++[y]).length<=i+1/\(∃z' w',[some (.int key),some (.int r3),some (.ref w0),z,some (D.int i)]=[some (.int key),some (.int r3),some (.ref w0),z',w'])/\(ys++[y])=((((List.range (i+1)).map λ(n:Nat)=>(n:Int)).filter λs=>decide (s=r3)||ms.any λm=>m==s).map D.int)) kc:=λhc=>by
    left;refine⟨rfl,by simp;omega,⟨_,_,rfl⟩,?_⟩;rw[er,eA,dy,<- e];simp[hc]
   left;refine if2 (λc1=>?_) (λc1=>?_)
   ·refine mG ?_;exact yes (by rw[ay c1];rfl)
   ·left;refine EG e3 (k:=.inl key) rfl ?_;rw[em];refine sI (DV ?_);left;cases hc:(ms.any λm=>m==(i:Int)) with
    |true =>
     refine mG ?_;exact yes (by rw[hc];simp)
    |false =>
     refine qN ?_;refine⟨rfl,by omega,⟨_,_,rfl⟩,?_⟩;rw[er,eA,dy,<- e];simp[hc,c1]
  ·obtain⟨rfl,hl,_,e⟩:=p;subst e;refine ZF (a9 b9) ?_;obtain⟨f1,f2⟩:=a35 λs=>decide (s=r3)||ms.any λm=>m==s
   refine w_var t5 (w_var Gs ?_);refine Ar (v5 e3) (k:=.inl key) rfl () ?_;refine h _ _ _ (get_set (v5 e3)) (W.put f1 f2) (a92 _ _ _) ((D3.snoc _).M3 hd) (λi h1 h2 h3=>?_) ?_
   ·rw[ax (cq h2),aK (aB h3 (G2.trans G3).len)];exact(G2.trans G3).old i h1 h3
   ·have:=(G2.trans G3).len;simp;omega
 ·refine N4 ?_;have e2:=G2.at () hw;have:=h mW kvs g2 e2 W () D2 (λi h1 h2 h3=>G2.old i h1 h3) G2.len
  rwa [List.af7 CN] at this
end
section
variable{T:Nat->Option bf}{d:Nat}
def S5:MS:=match M9.body with
 |.seq _ (.seq _ (.seq _ (.seq _ (.seq _ (.seq _ (.seq _ (.seq _ (.seq (.du _ _ b) _))))))))=>b
 |x=>x
structure jI(d s0 w0 f0 i:Nat)(g:G)(f y:Int):Prop where
 Gx:∃l,g[s0]?=some (.lst l)/\Es l f/\l.length<=i
 fr:1<=f/\f<=1+i
 Od:∃kvs,g[w0]?=some (.da kvs)/\pP kvs/\kvs.length<=2*i
 found:∃cs:List b7,g[f0]?=some (.lst (cs.map b7.d))/\cs.length=i/\∀c∈cs,ke c
 year:0<=y/\y<=9999
 dr:j8 g d
theorem aK3{s0 w0 f0 n0:Nat}{n y st wr sh:Int}{yd Oc Ob Oa AL AK:Option D}(h4:T 4=some J0)(wC:T 23=some K7)(S:jI d s0 w0 f0 i g f y)(hi:i<=100)(hv:1<=v/\v<=100)(eT:1<=st/\st<=96)(ko:0<wr/\wr<1000)(kC:0<=sh/\sh<=2)(o1:d<n0)(o2:n0<=s0)(o3:s0<w0)(o4:w0<f0)(h:∀f' y' uY ou mW uX uW g',jI d s0 w0 f0 (i+1) g' f' y'->(∀j,j≠d->j<n0->g'[j]?=g[j]?)->g.length<=g'.length->N.nx [some (.ref d),some (.int n),some (.int v),some (.ref s0),some (.int f'),some (.ref w0),some (.int y'),some (.int st),some (.int wr),some (.int sh),some (.ref f0),yd,uY,ou,mW,uX,uW] g') :
  wpS (c5 T (k+2)) S5 N [some (.ref d),some (.int n),some (.int v),some (.ref s0),some (.int f),some (.ref w0),some (.int y),some (.int st),some (.int wr),some (.int sh),some (.ref f0),yd,Oc,Ob,Oa,AL,AK] g E:=by
 obtain⟨⟨l,es,hs,hl⟩,⟨f1,f2⟩,⟨kvs,ew,W,hk⟩,⟨cs,ef,hc,hg⟩,⟨y0,y1⟩,D0⟩:=S;have lf:=l9 ef;dsimp[S5,M9];left;refine aZ0 h4 wC es () hs f1 () D0 λl1 f' g1 fR ka Hi f3 f5 ir D1 oX ic=>?_;have Ip:g1[w0]?=some (.da kvs):=(oX w0 () () (l9 ew)).trans ew;have Iw:g1[f0]?=some (.lst (cs.map b7.d)):=(oX f0 () () lf).trans ef;left;have gJ:0<l1.length:=Ge.mpr fR;refine i9 (n:=(l1.length:Int)) h4 D1 () () λr2 g2 je jd D2 G2=>?_;have pI:=G2.at () ir;have Io:=G2.at () Ip;have Iv:=G2.at () Iw;obtain⟨x,hx,hm⟩:=M7 (l:=l1) je jd;obtain⟨ns,rfl,ph⟩:=id Hi;obtain⟨k1,lY,rfl⟩:=aN.mp hm;refine u3 (a9 pI) hx ?_;left;refine i9 (n:=2+v) h4 D2 () () λr3 g3 jl jx D3 G3=>?_;have CJ:=G3.at () pI;have Im:=G3.at () Io;have CL:=G3.at () Iv;left;have kb1:=ph k1 lY;have vo:∀j,j≠d->j<n0->g3[j]?=g[j]?:=λj a b=>by
  have lj:j<g.length:=by omega
  rw[G3.old j a (by have:=G2.len;(clear hi hv eT ko kC o1 hl f1 f2 hk hc y0 y1 f3 f5 je ka gJ jd jl jx kb1 a lj;omega)),G2.old j a (),oX j a () lj]
 have jf:g.length<=g3.length:=by have:=G2.len;have:=G3.len;(clear hi hv eT ko kC o1 o2 o3 o4 hl f1 f2 hk hc y0 y1 lf f3 f5 je ka gJ jd jl jx kb1;omega)
 refine x5 (b0 T _) (vP (b0 T _) ?_);left;refine ⟨_,rfl,_,λj U g'=>∃ jT ou mW,U=[some (.ref d),some (.int n),some (.int v),some (.ref s0),some (.int f'),some (.ref w0),some (.int y),some (.int st),some (.int wr),some (.int sh),some (.ref f0),yd,some (.tup [.int k1,.int (50 + r3)]),ou,mW,AL,AK]/\g'[w0]?=some (.da jT)/\pP jT/\jT.length <= 2 * i + j/\j8 g' d/\(∀ j,j ≠ d->j ≠ w0->j < g3.length->g'[j]?=g3[j]?)/\g3.length <= g'.length,
  λ_ _ _ _=>u9,⟨kvs,_,_,rfl,Im,W,by omega,D3,λ_ _ _ _=>rfl,aw _⟩,λj x U g' hx p=>?_,λU g' p=>?_⟩
 ·obtain⟨jT,ou,mW,rfl,Rn,W',oE,D',Bc,vF⟩:=p;have gC:∃key:Int,x=.int key/\j<2:=by
   match j,hx with
   |0,hx=>cases hx;exact⟨_,rfl,by decide⟩
   |1,hx=>cases hx;exact⟨_,rfl,by decide⟩
   |j+2,hx=>simp at hx
  obtain⟨key,rfl,hj⟩:=gC;show wpS _ _ _ _ _ _;refine Vz (k:=k+1) h4 Rn W' (by(clear hv eT ko kC o1 o2 o3 o4 hl f1 f2 hk y0 y1 lf f3 f5 ic je ka gJ jd jl jx kb1 jf vF;omega)) ko.1 ko.2 () D' rfl rfl rfl rfl rfl λz Bl g2' e2 W2 kX D2' rA vE=>?_;exact⟨Bl,_,_,rfl,e2,W2,by(clear hi hv eT ko kC o1 o2 o3 o4 hl f1 f2 hk y0 y1 lf f3 f5 ic je ka gJ jd jl jx kb1 jf vF hj vE;omega),D2',λj a b c=>(rA j a b ()).trans (Bc j a b c),by(clear hi hv eT ko kC o1 o2 o3 o4 hl f1 f2 hk hc y0 y1 lf f3 f5 ic je ka gJ jd jl jx kb1 jf oE hj kX;omega)⟩
 obtain⟨vJ,ou,mW,rfl,Rm,W4,jE,D4,oW,jR⟩:=p;have Rt:g'[s0]?=some (.lst (ns.map D.int)):=(oW s0 () () (l9 CJ)).trans CJ;have Rw:g'[f0]?=some (.lst (cs.map b7.d)):=(oW f0 () () (l9 CL)).trans CL;have vn:∀j,j≠d->j<n0->g'[j]?=g[j]?:=λj a b=>(oW j a () (by(clear hi hv eT ko kC o1 hl f1 f2 hk hc y0 y1 f3 f5 ic je ka gJ jd jl jx kb1 jE jR a;omega))).trans (vo j a b);clear oW vo G2 G3 ir Ip Iw pI Io Iv CJ Im CL oX;have jE:vJ.length<=2*(i+1):=by omega
 show wpS _ _ _ _ _ _;left;refine i9 h4 D4 ∅ ∅ λr5 g5 lM lL D5 G5=>?_;left;have tail:∀(y':Int) (g6:G),0<=y'->y'<=9999->j8 g6 d->Gr d g' g6->wpS (c5 T (k+2)) (m8 (m8 (m8 (m8 S5)))) N [some (.ref d),some (.int n),some (.int v),some (.ref s0),some (.int f'),some (.ref w0),some (.int y'),some (.int st),some (.int wr),some (.int sh),some (.ref f0),yd,some (.tup [.int k1,.int (50+r3)]),ou,mW,AL,AK] g6 E:=by
  intro y' g6 mZ mY D6 G6;have Rq:=G6.at () Rt;have Rk:=G6.at () Rm;have za:=G6.at () Rw;dsimp[S5,M9,m8];left;refine aQ1 (b0 T _) ?_;left;refine⟨_,rfl,by simp,λj ys U g7=>g7=g6/\(∃z w,U=[some (.int sh),some (.int st),z,w])/\ys=([k1,50+r3].take j).map (λkey=>D.int (1+sh+key*st % 97)),⟨rfl,⟨none,none,rfl⟩,rfl⟩,λj ys U g7 p=>?_,λj x ys U g7 hx p=>?_,λys U g7 p=>?_⟩
  ·obtain⟨rfl,_,rfl⟩:=p;simp;omega
  ·obtain⟨rfl,⟨z,w,rfl⟩,rfl⟩:=p;have gC:∃key:Int,x=.int key/\([k1,50+r3].take j).map (λkey=>D.int (1+sh+key*st % 97))++[D.int (1+sh+key*st % 97)]=([k1,50+r3].take (j+1)).map (λkey=>D.int (1+sh+key*st % 97)):=by
    match j,hx with
    |0,hx=>cases hx;exact⟨_,rfl,rfl⟩
    |1,hx=>cases hx;exact⟨_,rfl,rfl⟩
    |j+2,hx=>simp at hx
   obtain⟨key,rfl,he⟩:=gC;show eP _ _ _ _ _ _;left;refine U3 (uJ () ()) ?_;left;exact⟨rfl,⟨_,_,rfl⟩,he⟩
  obtain⟨rfl,_,rfl⟩:=p;have eN:(g7++[O.lst [D.int (1+sh+k1*st % 97),D.int (1+sh+(50+r3)*st % 97)]])[g7.length]?=some (.lst [D.int (1+sh+k1*st % 97),D.int (1+sh+(50+r3)*st % 97)]):=b9;show wpS _ _ _ _ (g7++[O.lst [D.int (1+sh+k1*st % 97),D.int (1+sh+(50+r3)*st % 97)]]) _;left;refine i9 h4 (D6.snoc _) ∅ ∅ λr8 g8 nE nD D8 G8=>?_;have l7:=D6.lt;have eN8:=G8.at () eN;have Rp:=G8.at () (v5 Rq);have CI:=G8.at () (v5 Rk);have Iu:=G8.at () (v5 za);left;refine U3 (Fd () ()) ?_;left;obtain⟨lm,el,gl,ll⟩:=W4.get (.inl k1);obtain⟨um,eu,gu,lu⟩:=W4.get (.inl (50+r3));refine EG CI (k:=.inl k1) rfl ?_;rw[el];left;refine EG CI (k:=.inl (50+r3)) rfl ?_;rw[eu];left;refine Q6 Iu (by simp;omega) ?_;generalize jZ:y'*(if decide (0<r8)=true then 1 else 0)=ty;have mE:0<=ty/\ty<=9999:=by
   rw[<- jZ];split<;>simp<;>omega
  left;refine h f' y' _ _ _ _ _ _ ⟨⟨_,d4 Rp (),Hi,by(clear hi hv eT ko kC o1 o2 o3 o4 f1 f2 hk y0 y1 lf f3 f5 ic je gJ jd jl jx kb1 jf jR jE lM lL mZ mY nE nD l7 ll lu jZ mE;omega)⟩,⟨by omega,by(clear hi hv eT ko kC o1 o2 o3 o4 hl f1 hk y0 y1 lf ic je ka gJ jd jl jx kb1 jf jR jE lM lL mZ mY nE nD l7 ll lu jZ mE;omega)⟩,⟨vJ,d4 CI (),W4,jE⟩,⟨cs++[⟨1+sh+k1*st % 97,lm,1+sh+(50+r3)*st % 97,um,ty⟩],?_,by simp[hc],?_⟩,⟨mZ,mY⟩,D8.M3 ()⟩ (λj a b=>?_) ?_
  ·rw[get_set Iu];simp[b7.d]
  ·intro c jK;rcases aR.mp jK with z|z
   ·exact hg c z
   ·simp at z;subst z;have m1:=ft (k1*st) (show(97:Int)≠0 by decide);have m2:=eB (k1*st) (show(0:Int)<97 by decide);have m3:=ft ((50+r3)*st) (show(97:Int)≠0 by decide);have m4:=eB ((50+r3)*st) (show(0:Int)<97 by decide);exact ke.mk' (by(clear hi hv eT ko o1 o2 o3 o4 hl f1 f2 hk hc y0 y1 lf f3 f5 ic je ka gJ jd jl jx kb1 jf jR jE lM lL mZ mY nE nD l7 ll lu jZ mE m2 m3 m4;omega)) (by(clear hi hv eT ko o1 o2 o3 o4 hl f1 f2 hk hc y0 y1 lf f3 f5 ic je ka gJ jd jl jx kb1 jf jR jE lM lL mZ mY nE nD l7 ll lu jZ mE m2 m3 m4;omega)) (by(clear hi hv eT ko o1 o2 o3 o4 hl f1 f2 hk hc y0 y1 lf f3 f5 ic je ka gJ jd jl jx kb1 jf jR jE lM lL mZ mY nE nD l7 ll lu jZ mE m1 m2 m4;omega)) (by(clear hi hv eT ko o1 o2 o3 o4 hl f1 f2 hk hc y0 y1 lf f3 f5 ic je ka gJ jd jl jx kb1 jf jR jE lM lL mZ mY nE nD l7 ll lu jZ mE m1 m2 m4;omega)) mE.1 mE.2 gl gu ll lu
  ·have lj:j<g'.length:=by(clear hi hv eT ko kC o1 hl f1 f2 hk hc y0 y1 f3 f5 ic je ka gJ jd jl jx kb1 jE lM lL mZ mY nE nD l7 ll lu jZ mE a;omega)
   rw[ax (by(clear hi hv eT ko kC o1 hl f1 f2 hk hc y0 y1 lf f3 f5 ic je ka gJ jd jl jx kb1 jf jR jE lM lL mZ mY nE nD l7 ll lu jZ mE a lj;omega)),G8.old j a (by have:=G6.len;simp;(clear hi hv eT ko kC o1 o2 o3 o4 hl f1 f2 hk hc y0 y1 lf f3 f5 ic je ka gJ jd jl jx kb1 jf jR jE lM lL mZ mY nE nD l7 ll lu jZ mE a b;omega)),aK (by have:=G6.len;(clear hi hv eT ko kC o1 o2 o3 o4 hl f1 f2 hk hc y0 y1 lf f3 f5 ic je ka gJ jd jl jx kb1 jf jR jE lM lL mZ mY nE nD l7 ll lu jZ mE a b;omega)),G6.old j a lj];exact vn j a b
  ·have:=G6.len;have:=G8.len;simp at this ⊢
   (clear hi hv eT ko kC o1 o2 o3 o4 hl f1 f2 hk hc y0 y1 lf f3 f5 ic je ka gJ jd jl jx kb1 jE lM lL mZ mY nE nD l7 ll lu jZ mE;omega)
 refine if2 (λc=>?_) (λc=>?_)
 ·left;refine i9 h4 D5 ∅ ∅ λr6 g6 GF GD D6 G6=>?_;left;generalize Br:(if y+1+r6<9999 then y+1+r6 else 9999)=y';have:0<=y'/\y'<=9999:=by rw[<- Br];split<;>omega
  exact tail y' g6 this.1 this.2 D6 (G5.trans G6)
 ·refine N4 ?_;exact tail y g5 y0 y1 D5 G5
theorem aY6(h4:T 4=some J0)(wC:T 23=some K7)(QP:T 24=some M9){n:Int}(hn:0<=n/\n<=100)(hv:1<=v/\v<=100)(D0:j8 g d)(h:∀(cs:List b7) a g',(cs.length:Int)=n->(∀c∈cs,ke c)->g'[a]?=some (.lst (cs.map b7.d))->g.length<=a->j8 g' d->Gr d g g'->Q (.ref a) g'):c5 T (k+3) 24 [.ref d,.int n,.int v] g Q E:=by
 refine call_of QP rfl ?_;dsimp[M9,d0,List.replicate];have dl:=D0.lt;left;have D1:j8 (g++[O.lst []]++[O.da []]++[O.lst [.int 0,.int 1,.int 1350]]) d:=((D0.snoc _).snoc _).snoc _;have G1:Gr d g (g++[O.lst []]++[O.da []]++[O.lst [.int 0,.int 1,.int 1350]]):=((Gr.snoc _ _ _).trans (Gr.snoc _ _ _)).trans (Gr.snoc _ _ _);have e0:(g++[O.lst []]++[O.da []]++[O.lst [.int 0,.int 1,.int 1350]])[g.length]?=some (.lst []):=v5 (v5 b9);have e1:(g++[O.lst []]++[O.da []]++[O.lst [.int 0,.int 1,.int 1350]])[(g++[O.lst []]).length]?=some (.da []):=v5 b9;have e2:(g++[O.lst []]++[O.da []]++[O.lst [.int 0,.int 1,.int 1350]])[(g++[O.lst []]++[O.da []]).length]?=some (.lst [.int 0,.int 1,.int 1350]):=b9;have n1:(g++[O.lst []]).length=g.length+1:=by simp
 have n2:(g++[O.lst []]++[O.da []]).length=g.length+2:=by simp
 rw[n1] at e1 ⊢;refine i9 h4 D1 ∅ ∅ λr2 g2 je jd D2 G2=>?_;have RB:=G2.at () e0;have lC:=G2.at () e1;have Ry:=G2.at () e2;obtain⟨x,hx,hm⟩:=M7 (l:=[D.int 0,.int 1,.int 1350]) je (by simpa using jd);have hy:∃y:Int,x=.int y/\0<=y/\y<=9999:=by
  simp only[List.mem_cons,List.mem_nil_iff,or_false] at hm;rcases hm with rfl|rfl|rfl<;>exact⟨_,rfl,by decide,by decide⟩
 obtain⟨y,rfl,y0,y1⟩:=hy;refine u3 (a9 Ry) hx ?_;left;refine i9 h4 D2 ∅ ∅ λr3 g3 jl jx D3 G3=>?_;left;refine i9 h4 D3 ∅ ∅ λr4 g4 rm tJ D4 G4=>?_;left;refine i9 h4 D4 ∅ ∅ λr5 g5 lM lL D5 G5=>?_;have Ax:=G3.trans (G4.trans G5);have RA:=Ax.at () RB;have Iz:=Ax.at () lC;have l5:=(G1.trans (G2.trans Ax)).len;have lw:=l9 Iz;left;generalize kC:(if r5-6>0 then r5-6 else 0)=sh;have Gw:0<=sh/\sh<=2:=by rw[<- kC];split<;>omega
 have sv:(g5++[O.lst []])[g5.length]?=some (.lst []):=b9;refine x5 (b0 T _) (S1 (b0 T _) ?_);left;refine ⟨by omega,by omega,j6 0 n.toNat,λi U g'=>∃ f' y' AH uY ou mW uX uW,U=[some (.ref d),some (.int n),some (.int v),some (.ref g.length),some (.int f'),some (.ref (g.length + 1)),some (.int y'),some (.int (1 + r3)),some (.int (2 + r4)),some (.int sh),some (.ref g5.length),AH,uY,ou,mW,uX,uW]/\jI d g.length (g.length + 1) g5.length i g' f' y'/\Gr d g g',
  λ_ _ _ _=>u9,⟨1,y,none,none,none,none,none,none,rfl,⟨⟨[],v5 RA,⟨[],rfl,by simp⟩,by simp⟩,⟨by omega,by omega⟩,⟨[],v5 Iz,(λk v hv=>by cases hv),by simp⟩,⟨[],sv,rfl,by simp⟩,⟨y0,y1⟩,D5.snoc _⟩,(G1.trans (G2.trans Ax)).trans (Gr.snoc _ _ _)⟩,λi x U g' hx p=>?_,λU g' p=>?_⟩
 ·obtain⟨f',y',AH,uY,ou,mW,uX,uW,rfl,S,G'⟩:=p;obtain⟨hi,rfl⟩:=x6 hx;refine aK3 (n0:=g.length) h4 wC S () hv ⟨by omega,by omega⟩ ⟨by omega,by omega⟩ Gw dl (aw _) () () λf2 y2 a b c e f g2 S2 rA vE=>?_;exact⟨f2,y2,_,_,_,_,_,_,rfl,S2,⟨by have:=G'.len;(clear hn hv dl je jd y0 y1 jl jx rm tJ lM lL l5 lw kC Gw hi;omega),λj h1 h2=>(rA j h1 h2).trans (G'.old j h1 h2)⟩⟩
 ·obtain⟨f',y',AH,uY,ou,mW,uX,uW,rfl,S,G'⟩:=p;left;obtain⟨cs,ef,hc,hg⟩:=S.found;rw[j7] at hc;exact h cs _ _ () hg ef () S.dr G'
end
def zD:bf:=⟨2,8,(.seq (.set 2 (bP .kW (bh 1) (bP (.bin .Add) (bP (.bin .Add) (bP (.bin .FloorDiv) bp (bh 2)) (bP (.bin .Mod) bp (bh 2))) (bh 1)))) (.seq (.set 3 (bP (.bin .Add) bu (bP (.ql false true) (.call 21 (dX aL bu)) (bP (.bin .FloorDiv) bp (bh 2))))) (.seq (.set 4 (.call 4 (dX aL (bh 3)))) (.seq (.set 5 (.prim .lst .nil)) (.seq (.du (.one 6) (.eL bp) (.seq (.set 7 (cN (.prim .lst (jv (bP (.bin .Add) (bh 1000) fb) (bh 0) (bP (.bin .Add) (bh 1) (bP (.bin .FloorDiv) (bP (.bin .Mult) (bh 2) fb) (bP .max (bh 1) bp))))) cT)) (.seq (.expr (.eW .append eE (fy (.prim .tup (tD (cN bB fb) (.prim .tup .nil) (bP (.bin .Add) (bh 1) (.call 4 (dX aL (bh 9)))) (.prim .tup .nil) gI))))) .pass))) (.seq (.ret eE) .pass))))))⟩
def T9:bf:=⟨2,9,(.seq (.set 2 (.call 4 (dX aL (bP (.bin .Add) bp (bh 1))))) (.seq (.set 3 (bP (.bin .Add) (bh 1) (.call 4 (dX aL (bh 3))))) (.seq (.set 4 (.call 4 (dX aL (bh 5)))) (.seq (.ifs (dW .Eq cT (bh 0)) (.seq (.ret (bP .tup (.comp [0] 3 (.one 2) (.eL bu) .no (.call 22 (fy aL))) bB)) .pass) .pass) (.seq (.ifs (dW .Eq cT (bh 4)) (.seq (.set 3 (bP (.bin .Add) (bh 1) (.call 4 (dX aL (bh 6))))) .pass) .pass) (.seq (.set 5 (.ite (dW .Eq cT (bh 4)) (.call 25 (dX aL bu)) (.call 24 (jv aL bu bB)))) (.seq (.set 5 (.comp [5] 3 (.one 2) (.fk (.call 21 (dX aL (dg .jY bu)))) .no (cN aL bu))) (.seq (.ifs (.dM (dW .Eq cT (bh 1)) (dW .Gt bu (bh 0))) (.seq (.set 6 (.call 4 (dX aL bu))) (.seq (.set 7 (cN eE fb)) (.seq (.set 8 (cN eE (.call 4 (dX aL bu)))) (.seq (.eQ eE fb (.prim .tup (tD (cN gI (bh 0)) (cN jz (bh 1)) (cN jz (bh 2)) (cN gI (bh 3)) (cN (.prim .lst (jv (cN gI (bh 4)) (cN jz (bh 4)) (bh 9999))) (.call 4 (dX aL (bh 3))))))) .pass)))) .pass) (.seq (.ifs (dW .Eq cT (bh 2)) (.seq (.set 3 (bh 1)) .pass) .pass) (.seq (.ret (bP .tup eE bB)) .pass))))))))))⟩
theorem Me{p:Int->Prop}:∀{l:List D},(∀x∈l,∃i:Int,x=.int i/\p i)->∃ns:List Int,l=ns.map .int/\∀i∈ns,p i
 |[],_=>⟨[],rfl,by simp⟩
 |x::r,h=>by
  obtain⟨i,rfl,hi⟩:=h x (by simp);obtain⟨ns,rfl,hn⟩:=Me (l:=r) λy hy=>h y (by simp[hy]);exact⟨i::ns,rfl,λj hj=>(aJ.mp hj).elim (λz=>z▸hi) (hn j)⟩
theorem Mr{lo:Int}(h:x∈j6 lo n):∃i:Int,x=.int i/\lo<=i/\i<lo+n:=by
 obtain⟨k,hk,rfl⟩:=aN.mp h;exact⟨_,rfl,by omega,by have:=aS.mp hk;omega⟩
theorem Ff{l:List α}(h:n<=l.length):cut l none (some (n:Int))=l.take n:=by
 have:¬((n:Int)<0):=by omega
 unfold cut HT.kQ;simp[this]
theorem TH{r:Int}(h0:0<=r)(h1:r<ns.length):∃i∈ns,gG (ns.map D.int) r=some (.int i):=by
 obtain⟨v,hv,hm⟩:=M7 (l:=ns.map D.int) h0 (by simpa using h1);obtain⟨i,hi,rfl⟩:=aN.mp hm;exact⟨i,hi,hv⟩
theorem DG{r:Int}(h0:0<=r)(h1:r<cs.length):∃c∈cs,gG (cs.map b7.d) r=some c.d:=by
 obtain⟨v,hv,hm⟩:=M7 (l:=cs.map b7.d) h0 (by simpa using h1);obtain⟨i,hi,rfl⟩:=aN.mp hm;exact⟨i,hi,hv⟩
section
variable{T:Nat->Option bf}{d:Nat}
theorem a15(h4:T 4=some J0)(Cb:T 21=some V2)(QO:T 25=some zD){n:Int}(hn:0<=n/\n<=100)(D0:j8 g d)(h:∀(cs:List b7) a g',(cs.length:Int)=n->(∀c∈cs,ke c)->g'[a]?=some (.lst (cs.map b7.d))->g.length<=a->j8 g' d->Gr d g g'->Q (.ref a) g'):c5 T (k+3) 25 [.ref d,.int n] g Q E:=by
 refine call_of QO rfl ?_;dsimp[zD,d0,List.replicate];have dl:=D0.lt;left;refine OR (i:=1) (j:=n / 2+n % 2+1) () ?_;left;have hh:∃hf:Nat,(n / 2+n % 2+1-1).toNat=hf/\(hf:Int)=n / 2+n % 2/\hf<=50:=⟨_,rfl,by omega,by omega⟩
 obtain⟨hf,BP,Hx,pq⟩:=hh;rw[BP];have e1:(g++[O.lst (j6 1 hf)])[g.length]?=some (.lst (j6 1 hf)):=b9;refine Ld h4 Cb e1 (by rw[j7];omega) () (D0.snoc _) λl' b g2 hp e2 hb D2 G2=>?_;have lC:=G2.at () e1;left;refine zu (a9 e2) ?_;have hle:l'.length=hf:=by rw[hp.length_eq,j7]
 have hc:cut l' none (some (n / 2))=l'.take (n / 2).toNat:=by
  have:=Ff (l:=l') (n:=(n / 2).toNat) ()
  rwa [show(((n / 2).toNat:Nat):Int)=n / 2 by omega] at this
 rw[hc];refine Ey (v5 lC) b9 (by rw[j7,dS];omega) ?_;obtain⟨rl,er,hr⟩:=Me (p:=λi=>1<=i/\i<=50) (l:=j6 1 hf++l'.take (n / 2).toNat) λx hx=>by
  have yy:x∈j6 1 hf:=by
   rcases aR.mp hx with z|z
   ·exact z
   ·exact hp.mem_iff.mp (cB z)
  obtain⟨i,rfl,h1,h2⟩:=Mr yy;exact⟨i,rfl,h1,by omega⟩
 have hrl:(rl.length:Int)=n:=by
  have:=gR List.length er;rw[bI,j7,dS,ak] at this;omega
 rw[er];have D3:=(D2.snoc (.lst (l'.take (n / 2).toNat))).snoc (.lst (rl.map D.int));have G3:=(Gr.snoc d g (.lst (j6 1 hf))).trans (G2.trans ((Gr.snoc d g2 (.lst (l'.take (n / 2).toNat))).trans (Gr.snoc d _ (.lst (rl.map D.int)))));have e3:(g2++[O.lst (l'.take (n / 2).toNat)]++[O.lst (rl.map D.int)])[(g2++[O.lst (l'.take (n / 2).toNat)]).length]?=some (.lst (rl.map D.int)):=b9;have l3:g.length+1<=(g2++[O.lst (l'.take (n / 2).toNat)]).length:=by have:=G2.len;simp at this ⊢;omega
 generalize (g2++[O.lst (l'.take (n / 2).toNat)]).length=Gz at *;left;refine i9 h4 D3 ∅ ∅ λr4 g4 rm tJ D4 G4=>?_;have e4:=G4.at () e3;left;have NL:=G3.trans G4;have l4:=NL.len;have e5:(g4++[O.lst []])[g4.length]?=some (.lst ([].map b7.d)):=b9;have GV:=l9 e4;refine x5 (b0 T _) (S1 (b0 T _) ?_);left;refine ⟨by omega,by omega,j6 0 n.toNat,λi U g'=>∃ cs z6 z7,U=[some (.ref d),some (.int n),some (.ref g.length),some (.ref Gz),some (.int r4),some (.ref g4.length),z6,z7]/\cs.length=i/\(∀ c ∈ cs,ke c)/\g'[g4.length]?=some (.lst (cs.map b7.d))/\g'[Gz]?=some (.lst (rl.map D.int))/\j8 g' d/\Gr d g g',
  λ_ _ _ _=>u9,⟨[],none,none,rfl,rfl,by simp,e5,v5 e4,D4.snoc _,NL.trans (Gr.snoc _ _ _)⟩,λi x U g' hx p=>?_,λU g' p=>?_⟩
 ·obtain⟨cs,z6,z7,rfl,hc,hg,ef,erw,D',G'⟩:=p;obtain⟨hi,rfl⟩:=x6 hx;left;refine U3 (Fd ∅ ∅) ?_;left;refine Ad ⟨by split<;>omega,by split<;>omega⟩ ?_;left;obtain⟨yv,hy,Bp⟩:∃yv:Int,gG [D.int (1000+(0+(i:Int))),D.int 0,D.int (1+2*(0+(i:Int)) / (if n>1 then n else 1))] r4=some (.int yv)/\0<=yv/\yv<=9999:=by
   have dv0:0<=2*(0+(i:Int)) / (if n>1 then n else 1):=Int.ediv_nonneg () (by split<;>omega);have dv1:2*(0+(i:Int)) / (if n>1 then n else 1)<=2*(0+(i:Int)):=Int.ediv_le_self _ ();have:r4=0\/r4=1\/r4=2:=by omega
   rcases this with rfl|rfl|rfl
   ·exact⟨_,rfl,by omega,by(clear dl BP pq hb l3 l4 GV hc rm tJ;omega)⟩
   ·exact⟨_,rfl,by omega,by omega⟩
   ·exact⟨_,rfl,by omega,by omega⟩
  refine u3 (a9 b9) hy ?_;left;obtain⟨lo,vY,BH⟩:=TH (ns:=rl) (r:=0+(i:Int)) () (by(clear hn dl BP pq hb l3 rm tJ l4 GV Bp;omega));refine And.intro (Nx (v5 ef)) ?_;left;refine u3 (a9 (v5 erw)) BH ?_;left;refine i9 h4 (D'.snoc _) ∅ ∅ λr6 g6 GF GD D6 G6=>?_;have za:=G6.at () (v5 ef);have Ru:=G6.at () (v5 erw);left;refine Q6 za (by simp;omega) ?_;have hlb:=hr lo vY;refine⟨cs++[⟨lo,[],1+r6,[],yv⟩],_,_,rfl,by simp[hc],?_,?_,d4 Ru (),D6.M3 (),(G'.trans ((Gr.snoc _ _ _).trans G6)).M3 ()⟩
  ·intro c jK;rcases aR.mp jK with z|z
   ·exact hg c z
   ·simp at z;subst z;exact ke.mk' () () () () Bp.1 Bp.2 rfl rfl (by simp) (by simp)
  ·rw[get_set za];simp[b7.d]
 ·obtain⟨cs,z6,z7,rfl,hc,hg,ef,erw,D',G'⟩:=p;left;rw[j7] at hc;exact h cs _ _ () hg ef () D' G'
end
section
variable{T:Nat->Option bf}{d:Nat}
structure LF(T:Nat->Option bf):Prop where
 pull:T 4=some J0
 order:T 21=some V2
 any:T 22=some zK
 rg:T 23=some K7
 qY:T 24=some M9
 opened:T 25=some zD
 list:T 26=some T9
theorem aU4(hT:LF T){n:Int}(hn:0<=n/\n<=99)(D0:j8 g d)(h:∀(cs:List b7) a (v:Int) g',(cs.length:Int)<=n->(∀c∈cs,ke c)->g'[a]?=some (.lst (cs.map b7.d))->g.length<=a->1<=v->v<=6->j8 g' d->Gr d g g'->Q (.tup [.ref a,.int v]) g'):c5 T (k+4) 26 [.ref d,.int n] g Q E:=by
 refine call_of hT.list rfl ?_;dsimp[T9,d0,List.replicate];have dl:=D0.lt;left;refine i9 (n:=n+1) hT.pull D0 () () λm g1 m0 m1 D1 G1=>?_;left;refine i9 hT.pull D1 ∅ ∅ λr2 g2 je jd D2 G2=>?_;left;refine i9 hT.pull D2 ∅ ∅ λway g3 w0 w1 D3 G3=>?_;have Ay:=G1.trans (G2.trans G3);have l3:=Ay.len;left;refine if2 (λc=>?_) (λc=>?_)
 ·left;refine J7 (b0 T _) (S1 (b0 T _) ?_);left;refine⟨by omega,by omega,j6 0 m.toNat,λi ys U g'=>∃cs z1 z2,ys=cs.map b7.d/\cs.length=i/\(∀c∈cs,ke c)/\U=[some (.ref d),z1,z2]/\j8 g' d/\Gr d g g',by rw[j7];omega,λi ys U g' p=>⟨u9,?_⟩,⟨[],none,none,rfl,rfl,by simp,rfl,D3,Ay⟩,λi x ys U g' hx p=>?_,λys U g' p=>?_⟩
  ·obtain⟨cs,z1,z2,rfl,hc,_⟩:=p;simp[hc]
  ·obtain⟨cs,z1,z2,rfl,hc,hg,rfl,D',G'⟩:=p;left;refine aM3 hT.pull hT.any D' λc0 g4 gc D4 G4=>?_;refine⟨cs++[c0],_,_,by simp,by simp[hc],λc1 rQ=>?_,rfl,D4,G'.trans G4⟩;rcases aR.mp rQ with z|z
   ·exact hg c1 z
   ·simp at z;subst z;exact gc
  ·obtain⟨cs,z1,z2,rfl,hc,hg,rfl,D',G'⟩:=p;rw[j7] at hc;left;exact h cs _ _ _ () hg b9 G'.len () () (D'.snoc _) (G'.trans (Gr.snoc _ _ _))
 have tail:∀(v:Int) (g4:G),1<=v->v<=6->j8 g4 d->Gr d g g4->wpS (c5 T (k+3)) (m8 (m8 (m8 (m8 (m8 T9.body))))) ⟨λ_ g'=>Q .bD g',Q,λ_ _=>False,λ_ _=>False⟩ [some (.ref d),some (.int n),some (.int m),some (.int v),some (.int way),none,none,none,none] g4 E:=by
  intro v g4 v0 v1 D4 G4;dsimp[T9,m8];have after:∀(cs:List b7) a g5,(cs.length:Int)=m->(∀c∈cs,ke c)->g5[a]?=some (.lst (cs.map b7.d))->g4.length<=a->j8 g5 d->Gr d g4 g5->wpS (c5 T (k+3)) (m8 (m8 (m8 (m8 (m8 (m8 T9.body)))))) ⟨λ_ g'=>Q .bD g',Q,λ_ _=>False,λ_ _=>False⟩ [some (.ref d),some (.int n),some (.int m),some (.int v),some (.int way),some (.ref a),none,none,none] g5 E:=by
   intro cs a g5 hc hg ea la D5 G5;have NK:=G4.trans G5;have l4:=G4.len;dsimp[T9,m8];left;refine J7 (b0 T _) (lr (b0 T _) ?_);left;refine GW () () ?_;left;have e6:(g5++[O.lst (j6 0 m.toNat)])[g5.length]?=some (.lst (j6 0 m.toNat)):=b9;have l5:=D5.lt;refine Ld hT.pull hT.order e6 (by rw[j7];omega) () (D5.snoc _) λl' b g7 hp eb lb D7 G7=>?_;have Rx:=G7.at () (v5 ea);have vZ:l'.length=m.toNat:=by rw[hp.length_eq,j7]
   refine⟨b,l',rfl,a9 eb,l',λi ys U g'=>∃kF z1 z2,ys=kF.map b7.d/\kF.length=i/\(∀c∈kF,ke c)/\U=[some (.ref a),z1,z2]/\g'=g7,by omega,λi ys U g' p=>?_,⟨[],none,none,rfl,rfl,by simp,rfl,rfl⟩,λi x ys U g' hx p=>?_,λys U g' p=>?_⟩
   ·obtain⟨kF,z1,z2,rfl,jK,_,_,rfl⟩:=p;exact⟨p8 (a9 eb),by simp[jK]⟩
   ·obtain⟨kF,z1,z2,rfl,jK,pz,rfl,rfl⟩:=p;obtain⟨j,rfl,j0,j1⟩:=Mr (hp.mem_iff.mp (aF hx));left;obtain⟨c0,yM,e0⟩:=DG (cs:=cs) j0 ();refine u3 (a9 Rx) e0 ?_;refine⟨kF++[c0],_,_,by simp,by simp[jK],λc1 rQ=>?_,rfl,rfl⟩;rcases aR.mp rQ with z|z
    ·exact pz c1 z
    ·simp at z;subst z;exact hg c1 yM
   ·obtain⟨kF,z1,z2,rfl,jK,pz,rfl,rfl⟩:=p;have e8:(g'++[O.lst (kF.map b7.d)])[g'.length]?=some (.lst (kF.map b7.d)):=b9;have D8:=D7.snoc (.lst (kF.map b7.d));have G8:=(NK.trans ((Gr.snoc d g5 (.lst (j6 0 m.toNat))).trans G7)).trans (Gr.snoc d g' (.lst (kF.map b7.d)));have l8:g.length<=g'.length:=(NK.trans ((Gr.snoc d g5 (.lst (j6 0 m.toNat))).trans G7)).len;have fin:∀(uj:List b7) z6 z7 z8 g9,(uj.length:Int)=m->(∀c∈uj,ke c)->g9[g'.length]?=some (.lst (uj.map b7.d))->j8 g9 d->Gr d g g9->wpS (c5 T (k+3)) (m8 (m8 (m8 (m8 (m8 (m8 (m8 (m8 T9.body)))))))) ⟨λ_ g'=>Q .bD g',Q,λ_ _=>False,λ_ _=>False⟩ [some (.ref d),some (.int n),some (.int m),some (.int v),some (.int way),some (.ref g'.length),z6,z7,z8] g9 E:=by
     intro uj z6 z7 z8 g9 HL Hz e9 D9 G9;dsimp[T9,m8];left;refine if2 (λc=>?_) (λc=>?_)
     ·left;exact h uj _ _ _ () Hz e9 l8 () () D9 G9
     ·left;exact h uj _ _ _ () Hz e9 l8 v0 v1 D9 G9
    have oC:(kF.length:Int)=m:=by omega
    have Bj:=D7.lt;left;refine if2 (λc1=>?_) (λc1=>?_)
    ·left;refine if2 (λc2=>?_) (λc2=>?_)
     ·left;refine i9 (n:=m) hT.pull D8 c2 () λr g9 r0 r1 D9 G9=>?_;have e9:=G9.at () e8;obtain⟨c0,yM,e0⟩:=DG (cs:=kF) r0 (by(clear hn dl m0 m1 je jd w0 w1 l3 c v0 v1 la l4 l5 lb vZ jK l8 Bj c1 c2 r0;omega));left;refine u3 (a9 e9) e0 ?_;left;refine i9 (n:=m) hT.pull D9 c2 () λr' sj AY OD NM NJ=>?_;have lD:=NJ.at () e9;obtain⟨c3,yL,e3⟩:=DG (cs:=kF) AY (by(clear hn dl m0 m1 je jd w0 w1 l3 c v0 v1 la l4 l5 lb vZ jK l8 Bj c1 c2 r0 r1 AY;omega));refine u3 (a9 lD) e3 ?_;dsimp only[b7.d];left;refine i9 hT.pull (NM.snoc _) ∅ ∅ λr'' Rf vj AX D11 FV=>?_;have Bk:=NM.lt;have sA:=FV.at () (b9 (g:=sj) (o:=.lst [.int c0.yr,.int c3.yr,.int 9999]));have wQ:=FV.at () (v5 (o':=.lst [.int c0.yr,.int c3.yr,.int 9999]) lD);obtain⟨x,hx,hm⟩:=M7 (l:=[D.int c0.yr,.int c3.yr,.int 9999]) vj ();obtain⟨a1,a2,a3,a4,a5,a6⟩:=(pz c0 yM).inv;obtain⟨b1,b2,b3,b4,b5,b6⟩:=(pz c3 yL).inv;have hy:∃y:Int,x=.int y/\0<=y/\y<=9999:=by
       simp only[List.mem_cons,List.mem_nil_iff,or_false] at hm;rcases hm with rfl|rfl|rfl
       ·exact⟨_,rfl,a5,a6⟩
       ·exact⟨_,rfl,b5,b6⟩
       ·exact⟨_,rfl,by decide,by decide⟩
      obtain⟨y,rfl,y0,y1⟩:=hy;refine u3 (a9 sA) hx ?_;left;have hj:lN (kF.map b7.d).length r=some r.toNat:=by
       unfold lN;rw[aG r0,aG (by rw[ak];(clear hn dl m0 m1 je jd w0 w1 l3 c v0 v1 la l4 l5 lb vZ jK l8 Bj c1 c2 r0 AY OD vj AX Bk a1 a3 a5 a6 b1 b3 b5 b6 y0 y1;omega))]
      refine W0 wQ hj ?_;have gr:ke ⟨c0.lo,c3.lm,c3.up,c0.um,y⟩:=ke.mk' a1.1 a1.2 b3.1 b3.2 y0 y1 b2 a4 (pz c3 yL).l8 (pz c0 yM).u8;refine fin (kF.set r.toNat ⟨c0.lo,c3.lm,c3.up,c0.um,y⟩) _ _ _ _ (by simp;omega) (λc4 Qj=>?_) ?_ (D11.M3 ()) ((G8.trans (G9.trans (NJ.trans ((Gr.snoc _ _ _).trans FV)))).M3 l8)
      ·rcases qc Qj with z|z
       ·exact pz c4 z
       ·rw[z];exact gr
      ·rw[get_set wQ,List.map_set]
       rfl
     ·refine N4 ?_;exact fin kF _ _ _ _ oC pz e8 D8 G8
    ·exact fin kF _ _ _ _ oC pz e8 D8 G8
  left;refine if2 (λc=>?_) (λc=>?_)
  ·left;refine a15 hT.pull hT.order hT.opened ⟨m0,by omega⟩ D4 λcs a g5 hc hg ea la D5 G5=>?_;exact after cs a g5 hc hg ea la D5 G5
  ·left;refine aY6 hT.pull hT.rg hT.qY ⟨m0,by omega⟩ ⟨v0,by omega⟩ D4 λcs a g5 hc hg ea la D5 G5=>?_;exact after cs a g5 hc hg ea la D5 G5
 left;refine if2 (λc=>?_) (λc=>?_)
 ·left;refine i9 hT.pull D3 ∅ ∅ λr4 g4 rm tJ D4 G4=>?_;walk_at "w1";exact tail _ _ () () D4 (Ay.trans G4)
 ·refine N4 ?_;exact tail _ _ () () D3 Ay
end
def zF:bf:=⟨2,2,(.seq (.ret (dg .all (.comp [1] 3 (.one 2) (.fk aL) .no (bP (.cmp .In) bu aL)))) .pass)⟩
def Ej:bf:=⟨1,1,(.seq (.ifs (.eK (.fV (.call 12 (fy aL)))) (.seq (.raise "BadCoin" (fy (iF "it is no coin"))) .pass) .pass) .pass)⟩
def Y7:bf:=⟨1,2,(.seq (.ifs (dW .Gt (dg .len aL) (bh 9)) (.seq (.raise "TooMany" (fy (iF "at most nine coins are asked about at once"))) .pass) .pass) (.seq (.du (.one 1) (.fk aL) (.seq (.expr (.call 39 (fy bp))) .pass)) .pass))⟩
def U0:bf:=⟨1,1,(.seq (.ifs (dW .NotIn aL (.lit (.tup [(.str "lower"),(.str "upper")]))) (.seq (.raise "BadSide" (fy (iF "a side is lower or upper"))) .pass) .pass) .pass)⟩
def DX:bf:=⟨1,1,(.seq (.expr (.call 40 (fy aL))) (.seq (.ret (bP .og (.lit (.tup [(.tup [(.str "lower"),(.int 0)]),(.tup [(.str "upper"),(.int 2)])])) aL)) .pass))⟩
noncomputable abbrev NN(T:Nat->Option bf):Prop:=T 18=some Y7/\T 39=some Ej
noncomputable abbrev FX(T:Nat->Option bf):Prop:=T 19=some DX/\T 40=some U0
def zM:bf:=⟨2,2,(.seq (.ret (bP (.cmp .Eq) (dg .len (.comp [1] 3 (.one 2) (.fk aL) (dW .NotIn bu aL) bu)) (bh 0))) .pass)⟩
structure Ex(g g':G):Prop where
 len:g.length<=g'.length
 old:∀i,i<g.length->g'[i]?=g[i]?
theorem Ex.refl(g:G):Ex g g:=⟨aw _,λ_ _=>rfl⟩
theorem Ex.trans{g g1 g2:G}(a:Ex g g1)(b:Ex g1 g2):Ex g g2:=⟨aC a.len b.len,λi h=>(b.old i (aB h a.len)).trans (a.old i h)⟩
theorem Ex.snoc(g:G)(o:O):Ex g (g++[o]):=⟨by simp,λi h=>aK h⟩
theorem Ex.at(h:Ex g g')(e:g[i]?=some o):g'[i]?=some o:=(h.old i (l9 e)).trans e
theorem Ex.gr(h:Ex g g')(d:Nat):Gr d g g':=⟨h.len,λi _ h2=>h.old i h2⟩
theorem Ex.draw{d:Nat}(h:Ex g g')(D0:j8 g d):j8 g' d:=by
 obtain⟨s,p,b,r,xs,e1,e2,q⟩:=D0.ex;exact⟨s,p,b,r,xs,h.at e1,h.at e2,q⟩
inductive J6(g:G):Nat->D->D->Prop
 |bD {n:Nat}:J6 g n .bD .bD
 |bl {n:Nat} (b:Bool):J6 g n (.bl b) (.bl b)
 |int {n:Nat} (i:Int):J6 g n (.int i) (.int i)
 |str {n:Nat} (x:Str):J6 g n (.str x) (.str x)
 |tup {n:Nat} {l m:List D} (hl:l.length=m.length) (h:∀(i:Nat) x y,l[i]?=some x->m[i]?=some y->J6 g n x y) (hz:m.length<=1000):J6 g (n+1) (.tup l) (.tup m)
 |lst {n a b:Nat} {l m:List D} (ha:g[a]?=some (.lst l)) (hb:g[b]?=some (.lst m)) (hl:l.length=m.length) (h:∀(i:Nat) x y,l[i]?=some x->m[i]?=some y->J6 g n x y) (hz:m.length<=1000):J6 g (n+1) (.ref a) (.ref b)
theorem J6.ex(e:Ex g g'){y:D}(h:J6 g n x y):J6 g' n x y:=by
 induction h with
 |bD=>exact .bD
 |bl b=>exact .bl b
 |int i=>exact .int i
 |str x=>exact .str x
 |tup hl h hz ih=>exact .tup hl ih hz
 |lst ha hb hl h hz ih=>exact .lst (e.at ha) (e.at hb) hl ih hz
section
variable{T:Nat->Option bf}
theorem Fs(h6:T 6=some xF){i:Int}(h:Q (.bl true) g):c5 T (k+1) 6 [.int i] g Q E:=by
 refine call_of h6 rfl ?_;dsimp[xF,d0,List.replicate];left;refine gN (c:="int") (b:=true) ∅ rfl ?_;left;refine gN (c:="bool") (b:=false) ∅ rfl ?_;left;exact h
def Ue:MS:=match J1.body with
 |.seq _ (.seq _ (.seq _ (.seq _ (.seq _ b))))=>b
 |x=>x
theorem a25(h6:T 6=some xF)(h7:T 7=some J1):∀(n:Nat) {k:Nat} {g:G} {x y:D} {Q:KD} {E:KX},J6 g n x y->(∀g',Ex g g'->Q (.bl true) g')->c5 T (k+n+2) 7 [x,y] g Q E:=by
 have vi:∀(n:Nat),(∀{k:Nat} {g:G} {x y:D} {Q:KD} {E:KX},J6 g n x y->(∀g',Ex g g'->Q (.bl true) g')->c5 T (k+n+2) 7 [x,y] g Q E) ->
   ∀{k:Nat} {g:G} {x y:D} {l m:List D} {Q:KD} {E:KX},(∀g',Ex g g'->K0 g' x=some l)->(∀g',Ex g g'->K0 g' y=some m)->l.length=m.length->m.length<=1000->(∀(i:Nat) x y,l[i]?=some x->m[i]?=some y->J6 g n x y)->(∀g',Ex g g'->Q (.bl true) g') ->
   wpS (c5 T (k+n+2)) Ue ⟨λ_ g'=>Q .bD g',Q,λ_ _=>False,λ_ _=>False⟩ [some x,some y] g E:=by
  intro n ih k g x y l m Q E hx hy hl hz hs hQ;have len:∀(z:D) (l:List D) (g':G) (Q':KD),K0 g' z=some l->Q' (.int l.length) g'->cQ .len [z] g' Q':=λz l g' Q' e q=>⟨_,_,⟨rfl,.inl ⟨z,l,rfl,e,rfl⟩⟩,q⟩
  refine xj (EU (EW (xI (xH (w_var rfl (len _ _ _ _ (hx g (Ex.refl g)) ?_))))));refine xH (w_var rfl (len _ _ _ _ (hy g (Ex.refl g)) ?_));refine IZ ?_;rw[hl,ay rfl];left;refine J7 (b0 T _) (S1 (b0 T _) ?_);refine xH (w_var rfl (len _ _ _ _ (hy g (Ex.refl g)) ?_));refine⟨_,rfl,by omega,by omega,j6 0 m.length,λi ys U g'=>∃z w,ys=List.replicate i (.bl true)/\U=[some y,some x,z,w]/\Ex g g',by rw[j7];exact hz,λi ys U g' p=>⟨u9,?_⟩,⟨none,none,rfl,rfl,Ex.refl g⟩,λi z ys U g' hz p=>?_,λys U g' p=>?_⟩
  ·obtain⟨z,w,rfl,_⟩:=p;simp
  ·obtain⟨z,w,rfl,rfl,e⟩:=p;obtain⟨hi,rfl⟩:=x6 hz;have h1:l[i]?=some l[i]:=ag ();have h2:m[i]?=some m[i]:=ag hi;have a1:gG l (0+(i:Int))=some l[i]:=by rw[dC];exact C7 h1
   have a2:gG m (0+(i:Int))=some m[i]:=by rw[dC];exact C7 h2
   show eP _ _ _ _ _ _;refine zg (mG (zw (U9 (xI (w_var rfl (w_var rfl ⟨_,_,⟨rfl,.inl ⟨_,l,_,rfl,hx g' e,a1⟩⟩,?_⟩))))));refine U9 (xI (w_var rfl (w_var rfl ⟨_,_,⟨rfl,.inl ⟨_,m,_,rfl,hy g' e,a2⟩⟩,?_⟩)));refine ze (ih ((hs i _ _ h1 h2).ex e) λg2 e2=>?_);exact⟨_,_,by rw[List.replicate_succ'],rfl,e.trans e2⟩
  ·obtain⟨z,w,rfl,rfl,e⟩:=p;refine xf (a9 b9) (v:=true) ?_ (hQ _ (e.trans (Ex.snoc _ _)));have:List.replicate (j6 0 m.length).length (D.bl true)=(List.replicate (j6 0 m.length).length true).map D.bl:=by simp
   rw[this,R9];simp
 intro n
 induction n with
 |zero =>
  intro k g x y Q E h hQ;have h0:=hQ g (Ex.refl g);cases h with
  |bD =>
   refine call_of h7 rfl ?_;dsimp[J1,d0,List.replicate];left;exact h0
  |bl b=>exact Mg h7 (by simpa using h0)
  |int i =>
   refine call_of h7 rfl ?_;dsimp[J1,d0,List.replicate];left;refine gN (c:="bool") (b:=false) ∅ rfl ?_;left;refine gN (c:="int") (b:=true) ∅ rfl ?_;left;refine Fs h6 ?_;left;simpa using h0
  |str x =>
   refine call_of h7 rfl ?_;dsimp[J1,d0,List.replicate];left;refine gN (c:="bool") (b:=false) ∅ rfl ?_;left;refine gN (c:="int") (b:=false) ∅ rfl ?_;left;refine gN (c:="str") (b:=true) ∅ rfl ?_;left;refine gN (c:="str") (b:=true) ∅ rfl ?_;left;simpa using h0
 |succ n ih =>
  intro k g x y Q E h hQ;have h0:=hQ g (Ex.refl g);cases h with
  |bD =>
   refine call_of h7 rfl ?_;dsimp[J1,d0,List.replicate];left;exact h0
  |bl b=>exact Mg h7 (by simpa using h0)
  |int i =>
   refine call_of h7 rfl ?_;dsimp[J1,d0,List.replicate];left;refine gN (c:="bool") (b:=false) ∅ rfl ?_;left;refine gN (c:="int") (b:=true) ∅ rfl ?_;left;refine Fs h6 ?_;left;simpa using h0
  |str x =>
   refine call_of h7 rfl ?_;dsimp[J1,d0,List.replicate];left;refine gN (c:="bool") (b:=false) ∅ rfl ?_;left;refine gN (c:="int") (b:=false) ∅ rfl ?_;left;refine gN (c:="str") (b:=true) ∅ rfl ?_;left;refine gN (c:="str") (b:=true) ∅ rfl ?_;left;simpa using h0
  |@tup _ l m hl hs hz =>
   refine call_of h7 rfl ?_;have body:=vi n ih (k:=k) (x:=.tup l) (y:=.tup m) (E:=E) (λ_ _=>rfl) (λ_ _=>rfl) hl hz hs hQ;dsimp[J1,d0,List.replicate];left;refine gN (c:="bool") (b:=false) ∅ rfl ?_;left;refine gN (c:="int") (b:=false) ∅ rfl ?_;left;refine gN (c:="str") (b:=false) ∅ rfl ?_;left;refine gN (c:="tuple") (b:=true) ∅ rfl ?_;left;refine gN (c:="tuple") (b:=true) ∅ rfl ?_;left;refine fX rfl ?_;left;refine gN (c:="list") (b:=false) ∅ rfl ?_;left;refine gN (c:="list") (b:=false) ∅ rfl ?_;left;refine fX rfl (N4 ?_);exact body
  |@lst _ a b l m ha hb hl hs hz =>
   refine call_of h7 rfl ?_;have body:=vi n ih (k:=k) (x:=.ref a) (y:=.ref b) (E:=E) (λg' e=>a9 (e.at ha)) (λg' e=>a9 (e.at hb)) hl hz hs hQ;have ta:∀c,sO g (.ref a) c=some (c=="list"):=λc=>by simp only[sO,ha]
   have tb:∀c,sO g (.ref b) c=some (c=="list"):=λc=>by simp only[sO,hb]
   dsimp[J1,d0,List.replicate];left;refine gN (c:="bool") (b:=false) ∅ (tb _) ?_;left;refine gN (c:="int") (b:=false) ∅ (tb _) ?_;left;refine gN (c:="str") (b:=false) ∅ (tb _) ?_;left;refine gN (c:="tuple") (b:=false) ∅ (tb _) ?_;left;refine gN (c:="tuple") (b:=false) ∅ (ta _) ?_;left;refine fX rfl ?_;left;refine gN (c:="list") (b:=true) ∅ (tb _) ?_;left;refine gN (c:="list") (b:=true) ∅ (ta _) ?_;left;refine fX rfl (N4 ?_);exact body
end
def jW(a b:List Int):Bool:=a.all λs=>b.any λm=>m==s
section
variable{T:Nat->Option bf}{d:Nat}
theorem Kn(yV:T 15=some zF){a b:List Int}(ha:a.length<=1000)(h:∀g',Ex g g'->Q (.bl (jW a b)) g'):c5 T (k+1) 15 [.tup (a.map .int),.tup (b.map .int)] g Q E:=by
 refine call_of yV rfl ?_;dsimp[zF,d0,List.replicate];left;refine J7 (b0 T _) (vP (b0 T _) ?_);left;refine⟨_,rfl,_,λi ys U g'=>∃z w,ys=((a.take i).map λs=>b.any λm=>m==s).map D.bl/\U=[some (.tup (b.map .int)),z,w]/\g'=g,by simpa using ha,λi ys U g' p=>⟨u9,?_⟩,⟨none,none,rfl,rfl,rfl⟩,λi x ys U g' hx p=>?_,λys U g' p=>?_⟩
 ·obtain⟨z,w,rfl,_⟩:=p;simp;omega
 ·obtain⟨z,w,rfl,rfl,rfl⟩:=p;rw[ai,aa] at hx;obtain⟨s,hs,rfl⟩:=hx;left;refine sI (DV ?_);refine⟨_,_,?_,rfl,rfl⟩;rw[bA,hs];simp
 ·obtain⟨z,w,rfl,rfl,rfl⟩:=p;refine xf (a9 b9) (R9 _) ?_;have e:((a.take (a.map D.int).length).map λs=>b.any λm=>m==s).all id=jW a b:=by
   simp[jW,List.all_map]
  rw[e];exact h _ (Ex.snoc _ _)
theorem aU2(Cc:T 17=some zM){a b:List Int}(ha:a.length<=1000)(h:∀g',Ex g g'->Q (.bl (jW a b)) g'):c5 T (k+1) 17 [.tup (a.map .int),.tup (b.map .int)] g Q E:=by
 refine call_of Cc rfl ?_;dsimp[zM,d0,List.replicate];left;refine J7 (b0 T _) (vP (b0 T _) ?_);left;refine⟨_,rfl,_,λi ys U g'=>∃z w,ys=((a.take i).filter λs=>!(b.any λm=>m==s)).map D.int/\ys.length<=i/\U=[some (.tup (b.map .int)),z,w]/\g'=g,by simpa using ha,λi ys U g' p=>⟨u9,?_⟩,⟨none,none,rfl,by simp,rfl,rfl⟩,λi x ys U g' hx p=>?_,λys U g' p=>?_⟩
 ·obtain⟨z,w,_,h1,_⟩:=p;exact h1
 ·obtain⟨z,w,e,hl,rfl,rfl⟩:=p;rw[ai,aa] at hx;obtain⟨s,hs,rfl⟩:=hx;left;refine X9 (DV ?_);left;cases hc:(b.any λm=>m==s) with
  |true =>
   refine qN ⟨_,_,?_,by omega,rfl,rfl⟩;rw[bA,hs,e];simp[hc]
  |false =>
   refine mG (w_var rfl ⟨_,_,?_,by simp;omega,rfl,rfl⟩);rw[bA,hs,e];simp[hc]
 ·obtain⟨z,w,e,hl,rfl,rfl⟩:=p;rw[ak,cA] at e;refine J5 (a9 b9) ?_;left;have e2:decide ((ys.length:Int)=0)=jW a b:=by
   rw[e,ak,aY,ei];unfold jW;rw[cR];constructor
   ·intro h0 s hs;have h1:(a.filter λs=>!(b.any λm=>m==s))=[]:=dZ ();rw[iX] at h1;have:=h1 s hs;simpa using this
   ·intro h0;have h1:(a.filter λs=>!(b.any λm=>m==s))=[]:=by
     rw[iX];intro s hs;simpa using h0 s hs
    rw[h1]
    rfl
  rw[e2];exact h _ (Ex.snoc _ _)
theorem VW{x:Str}(hx:PyData.strOk x=true)(h:kb (decide (x="lower")||decide (x="upper"))):rD g (.str x) (.tup [.str "lower",.str "upper"]) kb:=by
 refine⟨_,.inr ⟨_,[.str "lower",.str "upper"],.str x,rfl,rfl,rfl,by decide +kernel,by exact hx,rfl⟩,?_⟩;have e:∀y:Str,PyData.eqv (.str y) (.str x)=decide (x=y):=λy=>by
  simp only[PyData.eqv];rw[aY,bx,ei];exact eq_comm
 simp only[List.any_cons,List.any_nil,Bool.or_false,e];exact h
theorem az3(QM:T 40=some U0){x:Str}(ho:PyData.strOk x=true)(h1:x="lower"\/x="upper"->Q .bD g)(h3:x≠"lower"->x≠"upper"->E ⟨"BadSide"⟩ g):c5 T (k+1) 40 [.str x] g Q E:=by
 refine call_of QM rfl ?_;dsimp[U0,d0,List.replicate];left;refine X9 (VW ho ?_);left;by_cases e:x="lower"\/x="upper"
 ·refine fX (by rw[Bool.not_eq_false',fu,ei,ei];exact e) ?_;exact h1 e
 ·refine ig (by rw[lJ,Bool.or_eq_false_iff,fC,fC];exact not_or.mp e) ?_;left;exact h3 (λz=>e (.inl z)) (λz=>e (.inr z))
theorem K3(mj:FX T){x:Str}(ho:PyData.strOk x=true)(h1:x="lower"->Q (.int 0) g)(h2:x="upper"->Q (.int 2) g)(h3:x≠"lower"->x≠"upper"->E ⟨"BadSide"⟩ g):c5 T (k+2) 19 [.str x] g Q E:=by
 refine call_of mj.1 rfl ?_;dsimp[DX,d0,List.replicate];left;refine az3 mj.2 ho (λhx=>?_) h3;left;by_cases e1:x="lower"
 ·have el:Q7 [.tup [.str "lower",.int 0],.tup [.str "upper",.int 2]] x=some (.int 0):=by simp[Q7,e1]
  refine Jh el ?_;exact h1 e1
 ·have e2:x="upper":=hx.resolve_left e1;have el:Q7 [.tup [.str "lower",.int 0],.tup [.str "upper",.int 2]] x=some (.int 2):=by simp[Q7,e1];simp[e2]
  refine Jh el ?_;exact h2 e2
def CB(c:b7):Prop:=c.lm.length<=8/\c.um.length<=8
theorem Ls(h1:NF T)(h2:T 2=some O0)(ue:T 12=some C8)(wF:NN T)(ha:g[a]?=some (.lst (cs.map b7.d)))(hz:cs.length<=1000)(hm:9<cs.length->E ⟨"TooMany"⟩ g)(hb:cs.length<=9->cs.all C9=false->E ⟨"BadCoin"⟩ g)(h:cs.length<=9->cs.all C9=true->Q .bD g):c5 T (k+6) 18 [.ref a] g Q E:=by
 refine call_of wF.1 rfl ?_;dsimp[Y7,d0,List.replicate];left;rw[ak];refine if2 (λc=>?_) (λc=>?_)
 ·left;exact hm ()
 have h9:cs.length<=9:=by omega
 left;refine x5 (b0 T _) (lr (b0 T _) ?_);left;refine⟨a,_,rfl,a9 ha,cs.map b7.d,λi U g'=>∃z,U=[some (.ref a),z]/\g'=g/\(cs.take i).all C9=true,λi U g' p=>?_,⟨none,rfl,rfl,by simp⟩,λi x U g' hx p=>?_,λU g' p=>?_⟩
 ·obtain⟨z,rfl,rfl,_⟩:=p;exact p8 (a9 ha)
 ·obtain⟨z,rfl,rfl,hg⟩:=p;rw[ai,aa] at hx;obtain⟨c,hc,rfl⟩:=hx;refine i7 ?_;left;refine call_of wF.2 rfl ?_;dsimp[Ej,d0,List.replicate];left;refine aH6 h1 h2 ue ?_;left;cases e:C9 c with
  |true =>
   refine⟨_,rfl,rfl,?_⟩;rw[bA,hc];simp[hg,e]
  |false =>
   refine JH ?_;left;refine hb h9 ?_;rw[List.all_eq_false];exact⟨c,aF hc,by rw[e];decide⟩
 ·obtain⟨z,rfl,rfl,hg⟩:=p;rw[ak,cA] at hg;exact h h9 hg
end
def B8(f:Int)(c:b7):Int:=if f=0 then c.lo else c.up
def sP(f:Int)(c:b7):List Int:=if f=0 then c.lm else c.um
theorem CB.ON{c:b7}(h:CB c)(f:Int):(sP f c).length<=1000:=by
 unfold sP;split
 ·have:=h.1;omega
 ·have:=h.2;omega
theorem O4(hf:f=0\/f=2)(c:b7):gG [D.int c.lo,D.tup (c.lm.map .int),D.int c.up,D.tup (c.um.map .int),D.int c.yr] f=some (.int (B8 f c)):=by
 rcases hf with rfl|rfl<;>rfl
theorem Np(hf:f=0\/f=2)(c:b7):gG [D.int c.lo,D.tup (c.lm.map .int),D.int c.up,D.tup (c.um.map .int),D.int c.yr] (f+1)=some (.tup ((sP f c).map .int)):=by
 rcases hf with rfl|rfl<;>rfl
theorem VR(ms:List Int):PyData.eqvAll (ms.map PyData.int) (ms.map PyData.int)=true:=by rw[Y9];simp
def cD:b7:=⟨0,[],0,[],0⟩
noncomputable abbrev bT(cs:List b7)(i:Nat):b7:=cs.getD i cD
theorem E0{c:b7}(h:cs[i]?=some c):bT cs i=c:=by simp[bT,List.getD,h]
inductive RW where
 |gk|lower|upper
def RW.s:RW->Str
 |.gk=>"coin"
 |.lower=>"lower"
 |.upper=>"upper"
structure eU where
 w:RW
 x:Int
 y:Int
def eU.d(r:eU):D:=.tup [.str r.w.s,.int r.x,.int r.y]
def meant(cs:List b7)(w:RW)(x:Int)(i:Nat):Bool:=match w with
 |.gk=>decide ((i:Int)=x)
 |.lower=>decide ((bT cs i).lo=x)
 |.upper=>decide ((bT cs i).up=x)
def jX(cs:List b7)(w:RW)(x:Int):List Nat:=(List.range cs.length).filter (meant cs w x)
def b8(l:List Nat):List D:=l.map λ(i:Nat)=>D.int i
def qj(l:List Nat):Nat:=(l.map (2 ^ ·)).sum
def jb(n:Nat)(p:Nat->Bool):Nat:=qj ((List.range n).filter p)
theorem Nf(n:Nat)(p:Nat->Bool):jb (n+1) p=jb n p+if p n=true then 2 ^ n else 0:=by
 unfold jb qj;rw[fo,eA,dy,List.sum_append];cases h:p n<;>simp[List.filter_cons,h]
theorem SU(n:Nat)(p:Nat->Bool):jb n p<2 ^ n:=by
 induction n with
 |zero=>simp[jb,qj]
 |succ n ih =>
  rw[Nf,Nat.pow_succ];split<;>omega
theorem My(n:Nat)(p:Nat->Bool)(i:Nat):(jb n p).testBit i=(decide (i<n)&&p i):=by
 induction n with
 |zero=>simp[jb,qj]
 |succ n ih =>
  have hl:=SU n p;rw[Nf];by_cases hp:p n=true
  ·rw[aG hp,Nat.add_comm];rcases eM i n with h|h|h
   ·rw[Nat.testBit_two_pow_add_gt h,ih,ay h,ay ()]
   ·subst h;rw[Nat.testBit_two_pow_add_eq,ih];simp[hp]
   ·rw[Nat.testBit_lt_two_pow (aB (show 2 ^ n+jb n p<2 ^ (n+1) by omega) (AB () h)),aI ()]
    rfl
  ·rw[aD hp,Nat.add_zero,ih];by_cases h:i=n
   ·subst h;simp[hp]
   ·rw[show decide (i<n)=decide (i<n+1) from dQ.mpr ()]
theorem Dq(a b:Nat):Builtin.bitAnd (a:Int) (b:Int)=((a &&& b:Nat):Int):=by
 rfl
theorem RS(a b:Nat):Builtin.bitOr (a:Int) (b:Int)=((a |||b:Nat):Int):=by
 unfold Builtin.bitOr Builtin.bitAnd;have h1:∀x:Nat,decide (0<=Builtin.bitNot (x:Int))=false:=λx=>by unfold Builtin.bitNot;exact aI ()
 have h2:∀x:Nat,Builtin.bitNot (Builtin.bitNot (x:Int))=x:=λx=>by unfold Builtin.bitNot;omega
 rw[h1,h1];simp only[h2];simp
theorem ZR(a b:Nat):((a &&& b:Nat)≠0)↔∃i,a.testBit i=true/\b.testBit i=true:=by
 constructor
 ·intro h;obtain⟨i,hi⟩:=Nat.exists_testBit_of_ne_zero h;rw[Nat.testBit_and,aZ] at hi;exact⟨i,hi⟩
 ·rintro⟨i,h1,h2⟩ e;have:(a &&& b).testBit i=true:=by rw[Nat.testBit_and,h1,h2];rfl
  rw[e,Nat.zero_testBit] at this;cases this
theorem zy(s n:Nat)(p:Nat->Bool):((((s &&& jb n p:Nat):Int) != 0)=(List.range n).any λi=>s.testBit i&&p i):=by
 rw[aY,bne_iff_ne,aU];have:(((s &&& jb n p:Nat):Int)≠0)↔((s &&& jb n p:Nat)≠0):=by omega
 rw[this,ZR];constructor
 ·rintro⟨i,h1,h2⟩;rw[My,aZ,bQ] at h2;exact⟨i,aS.mpr h2.1,by rw[h1,h2.2];rfl⟩
 ·rintro⟨i,h1,h2⟩;rw[aZ] at h2;exact⟨i,h2.1,by rw[My,ay (aS.mp h1),h2.2];rfl⟩
def mw(a b:b7):Bool:=(decide (a.lo=b.lo)&&!jW a.lm b.lm)||(decide (a.up=b.up)&&!jW a.um b.um)
def kU(a b:b7):Bool:=decide (0<b.yr)&&decide (b.yr<a.yr)
def F1(cs:List b7)(S:Nat->Bool)(p:Nat):Bool:=(List.range cs.length).any λi=>S i&&mw (bT cs i) (bT cs p)
def E5(cs:List b7)(S:Nat->Bool)(p:Nat):Bool:=(List.range cs.length).any λi=>S i&&kU (bT cs i) (bT cs p)
def pW(cs:List b7)(S:Nat->Bool)(p:Nat)(d:Int):Bool :=
 ((List.range cs.length).any λi=>(S i||decide (i=p))&&decide ((bT cs i).lo=d))&&((List.range cs.length).any λi=>!S i&&decide ((bT cs i).lo=d))
def E3(cs:List b7)(S:Nat->Bool)(p:Nat):Nat:=((u4 (cs.map b7.lo)).filter (pW cs S p)).length
def N9(cs:List b7)(rs:List eU)(S:Nat->Bool)(p:Nat):Bool:=rs.all λr=>!meant cs r.w r.y p||(List.range cs.length).any λi=>S i&&meant cs r.w r.x i
def fault(cs:List b7)(v:Int)(rs:List eU)(S:Nat->Bool)(p:Nat):Str :=
 if F1 cs S p=true then "wear" else if E5 cs S p=true then "year" else if v<E3 cs S p then "anvil" else if N9 cs rs S p=true then "" else "rule"
def yX(x:Str):D:=if x="" then .bD else .str x
theorem aL4{S S':Nat->Bool}(h:∀i,i<cs.length->S i=S' i):fault cs v rs S p=fault cs v rs S' p:=by
 have a:∀f:Nat->Bool->Bool,((List.range cs.length).any λi=>f i (S i))=(List.range cs.length).any λi=>f i (S' i):=λf=>by
  rw[aY,aU,aU];constructor
  ·rintro⟨i,h1,h2⟩;exact⟨i,h1,by rw[<- h i (aS.mp h1)];exact h2⟩
  ·rintro⟨i,h1,h2⟩;exact⟨i,h1,by rw[h i (aS.mp h1)];exact h2⟩
 have b1:F1 cs S p=F1 cs S' p:=a λi t=>t&&mw (bT cs i) (bT cs p);have b2:E5 cs S p=E5 cs S' p:=a λi t=>t&&kU (bT cs i) (bT cs p);have b3:pW cs S p=pW cs S' p:=by
  funext d
  unfold pW;rw[a λi t=>(t||decide (i=p))&&decide ((bT cs i).lo=d),a λi t=>!t&&decide ((bT cs i).lo=d)]
 have b4:N9 cs rs S p=N9 cs rs S' p:=by
  unfold N9
  congr 1
  funext r
  rw[a λi t=>t&&meant cs r.w r.x i]
 unfold fault E3;rw[b1,b2,b3,b4]
def X3:bf:=⟨3,4,(.seq (.ifs (.eK (.fV (.call 38 (fy bu)))) (.seq (.ret (.prim .lst .nil)) .pass) .pass) (.seq (.ifs (dW .Eq bp (iF "coin")) (.seq (.ret (.comp [2] 3 (.one 2) (.eL (dg .len aL)) (dW .Eq bu aL) bu)) .pass) .pass) (.seq (.set 3 (.call 19 (fy bp))) (.seq (.ret (.comp [3,2] 5 (.many [3,4]) (.lO aL) (dW .Eq (cN cT aL) bp) bB)) .pass))))⟩
def DA:bf:=⟨2,3,(.seq (.expr (.call 18 (fy aL))) (.seq (.set 2 (.call 19 (fy bp))) (.seq (.ret (.iE [2] 3 (.one 2) (.fk aL) .no (cN bu aL))) .pass)))⟩
def DZ:bf:=⟨2,5,(.seq (.mD (.many [2,3,4]) bp) (.seq (.ifs (.jm (dW .NotIn bu (.lit (.tup [(.str "coin"),(.str "lower"),(.str "upper")]))) (dW .Eq bB cT)) (.seq (.ret (.lit (.bl false))) .pass) .pass) (.seq (.ret (.dM (bP (.cmp .NotEq) (.call 74 (jv aL bu bB)) (.prim .lst .nil)) (bP (.cmp .NotEq) (.call 74 (jv aL bu cT)) (.prim .lst .nil)))) .pass)))⟩
def Y6:bf:=⟨2,4,(.seq (.du (.many [2,3]) (.lO bp) (.seq (.ifs (.eK (.fV (.call 88 (dX aL bB)))) (.seq (.expr .no) .pass) .pass) .pass)) .pass)⟩
def zN:bf:=⟨1,1,(.seq (.ret (dg .sum (.comp [] 2 (.one 1) (.fk aL) .no (bP (.bin .LShift) (bh 1) bp)))) .pass)⟩
def X0:bf:=⟨2,2,(.seq (.ret (bP (.bin .BitOr) aL (bP (.bin .LShift) (bh 1) bp))) .pass)⟩
def J':bf:=⟨2,4,(.seq (.du (.one 2) (.fk (.lit (.tup [(.str "lower"),(.str "upper")]))) (.seq (.set 3 (.call 19 (fy bu))) (.seq (.ifs (.dM (dW .Eq (cN aL bB) (cN bp bB)) (.eK (.fV (.call 15 (dX (cN aL (bP (.bin .Add) bB (bh 1))) (cN bp (bP (.bin .Add) bB (bh 1)))))))) (.seq (.ret (.lit (.bl true))) .pass) .pass) .pass))) (.seq (.ret (.lit (.bl false))) .pass))⟩
def Fl:bf:=⟨2,2,(.seq (.ret (.chain .Lt .Lt (bh 0) (cN bp (bh 4)) (cN aL (bh 4)))) .pass)⟩
def Lb:bf:=⟨1,1,(.seq (.ret (.comp [0] 3 (.one 2) (.fk aL) .no (.call 90 (fy (.comp [2] 4 (.many [2,3]) (.lO aL) (.fV (.call 92 (dX bB aL))) bu))))) .pass)⟩
def Lm:bf:=⟨1,1,(.seq (.ret (.comp [0] 3 (.one 2) (.fk aL) .no (.call 90 (fy (.comp [2] 4 (.many [2,3]) (.lO aL) (.fV (.call 93 (dX bB aL))) bu))))) .pass)⟩
def Ek:bf:=⟨1,1,(.seq (.ret (.comp [0] 3 (.one 2) (.fk (.call 20 (dX aL (iF "lower")))) .no (.call 90 (fy (.call 74 (jv aL (iF "lower") bu)))))) .pass)⟩
def S0:bf:=⟨2,8,(.seq (.set 2 (.comp [] 2 (.one 1) (.fk aL) .no (.prim .lst .nil))) (.seq (.du (.many [3,4,5]) (.fk bp) (.seq (.set 6 (.call 90 (fy (.call 74 (jv aL bB cT))))) (.seq (.du (.one 7) (.fk (.call 74 (jv aL bB eE))) (.seq (.ifs (dW .NotIn fb (cN bu gI)) (.seq (.expr (.eW .append (cN bu gI) (fy fb))) .pass) .pass) .pass)) .pass))) (.seq (.ret bu) .pass)))⟩
def El:bf:=⟨3,5,(.seq (.set 3 (.call 91 (dX bp bu))) (.seq (.set 4 (bP (.bin .Sub) (dg (.fld "full") aL) bp)) (.seq (.ret (dg .len (.comp [4,3] 4 (.one 3) (.fk (dg (.fld "lower_dies") aL)) (.dM (.fV (bP (.bin .BitAnd) bB bp)) (.fV (bP (.bin .BitAnd) bB aL))) bB))) .pass)))⟩
def En:bf:=⟨3,3,(.seq (.ifs (.fV (bP (.bin .BitAnd) bp (cN (dg (.fld "worn_by_place") aL) bu))) (.seq (.ret (iF "wear")) .pass) .pass) (.seq (.ifs (.fV (bP (.bin .BitAnd) bp (cN (dg (.fld "later_by_place") aL) bu))) (.seq (.ret (iF "year")) .pass) .pass) (.seq (.ifs (dW .Gt (.call 100 (jv aL bp bu)) (dg (.fld "room") aL)) (.seq (.ret (iF "anvil")) .pass) .pass) (.seq (.ifs (.eK (.fV (dg .all (.comp [1] 3 (.one 2) (.fk (cN (dg (.fld "needed_by_place") aL) bu)) .no (bP (.bin .BitAnd) aL bu))))) (.seq (.ret (iF "rule")) .pass) .pass) (.seq (.ret (.lit .bD)) .pass)))))⟩
def Y8:bf:=⟨4,4,(.seq (.jc "size" ["Bounds"] aL (dg .len bp)) (.seq (.jc "full" ["Bounds"] aL (bP (.bin .Sub) (bP (.bin .LShift) (bh 1) (dg .len bp)) (bh 1))) (.seq (.jc "room" ["Bounds"] aL bu) (.seq (.jc "worn_by_place" ["Bounds"] aL (.call 94 (fy bp))) (.seq (.jc "later_by_place" ["Bounds"] aL (.call 95 (fy bp))) (.seq (.jc "lower_dies" ["Bounds"] aL (.call 96 (fy bp))) (.seq (.jc "needed_by_place" ["Bounds"] aL (.call 97 (dX bp bB))) .pass)))))))⟩
section
variable{U:S}{t:MT}{it c elt:ME}{d6:List Nat}
theorem B1(hP:j4 P)(Sh:S->Prop)(p:Nat->Bool)(w:Nat->D){k:IK}(hk:∀g',Ex g g'->k.Is l g')(hl:l.length<=1000)(h0:Sh (L1 U d6 n))(hs:∀i d U g',l[i]?=some d->Ex g g'->Sh U->ki t d U λcK=>eP P c cK g' (λb g3=>b=p i/\Ex g g3/\if b=true then bq P elt cK g3 (λy g4=>y=w i/\Ex g g4/\Sh cK) kc else Sh cK) kc)(hd:∀g',Ex g g'->Q (.ref g'.length) (g'++[.lst (((List.range l.length).filter p).map w)]))(hi:∀R:IK->G->Prop,R k g->iz P it U g R E):bq P (.comp d6 n t it c elt) U g Q E:=by
 refine J7 hP (hi _ ?_);refine⟨l,λi ys U g'=>Ex g g'/\ys=((List.range i).filter p).map w/\Sh U,hl,λi ys U g' q=>⟨hk _ q.1,?_⟩,⟨Ex.refl _,rfl,h0⟩,λi x ys U g' hx q=>?_,λys U g' q=>?_⟩
 ·obtain⟨_,rfl,_⟩:=q;rw[ak];exact aC (gf _ _) (by simp)
 ·obtain⟨e1,rfl,sh⟩:=q;refine B4 (λcK q=>z9 hP c _ _ _ _ _ _ (λb g3 q=>?_) (λ_ _ z=>z) q) (hs i x U g' hx e1 sh);obtain⟨rfl,e3,q⟩:=q;have ef:((List.range (i+1)).filter p).map w=((List.range i).filter p).map w++if p i=true then[w i] else[]:=by
   rw[fo,eA,dy];cases z:p i<;>simp only[List.filter_cons,z,List.filter_nil]<;>rfl
  cases hp:p i with
  |true =>
   rw[hp] at q ef;refine c9 hP elt _ _ _ _ _ _ (λy g4 q=>?_) (λ_ _ z=>z) q;obtain⟨rfl,e4,sh⟩:=q;exact⟨e4,by rw[ef];rfl,sh⟩
  |false =>
   simp_all
 ·obtain⟨e1,rfl,sh⟩:=q;exact hd g' e1
theorem comp_map(hP:j4 P)(Sh:S->Prop)(w:Nat->D){k:IK}(hk:∀g',Ex g g'->k.Is l g')(hl:l.length<=1000)(h0:Sh (L1 U d6 n))(hs:∀i d U g',l[i]?=some d->Ex g g'->Sh U->ki t d U λcK=>bq P elt cK g' (λy g4=>y=w i/\Ex g g4/\Sh cK) kc)(hd:∀g',Ex g g'->Q (.ref g'.length) (g'++[.lst ((List.range l.length).map w)]))(hi:∀R:IK->G->Prop,R k g->iz P it U g R E):bq P (.comp d6 n t it .no elt) U g Q E:=by
 refine B1 hP Sh (λ_=>true) w hk hl h0 (λi d U g' hx e sh=>B4 (λcK q=>zg ⟨rfl,e,?_⟩) (hs i d U g' hx e sh)) (λg' e=>?_) hi
 ·exact mG q
 ·have:=hd g' e
  rwa [show(List.range l.length).filter (λ_=>true)=List.range l.length from List.filter_eq_self.mpr λ_ _=>rfl]
theorem M4(hP:j4 P){o:ME}(hl:d5 g a=some l)(h:∀Q:KD,Q (.ref a) g->bq P o U g Q E):∀R:IK->G->Prop,R (.lst a) g->iz P (.fk o) U g R E:=λR r=>lr hP (h _ ⟨a,l,rfl,hl,r⟩)
theorem Dk{o:ME}(hl:d5 g a=some l)(h:∀Q:KD,Q (.ref a) g->bq P o U g Q E):∀R:IK->G->Prop,R (.pK a) g->iz P (.lO o) U g R E:=λR r=>Bn (h _ ⟨a,l,rfl,hl,r⟩)
theorem zW(hP:j4 P){o:ME}(hj:j<=1000)(h:∀Q:KD,Q (.int (j:Nat)) g->bq P o U g Q E):∀R:IK->G->Prop,R (.fix (j6 0 j)) g->iz P (.eL o) U g R E:=λR r=>S1 hP (h _ ⟨j,rfl,by omega,by omega,by simpa using r⟩)
end
theorem P8(l:List Nat):b8 l=(l.map λ(i:Nat)=>(i:Int)).map D.int:=by simp[b8]
structure jH(T:Nat->Option bf):Prop where
 nf:NF T
 h2:T 2=some O0
 ue:T 12=some C8
 wF:NN T
 mj:FX T
 yV:T 15=some zF
 QR:T 20=some DA
 rT:T 74=some X3
 QK:T 88=some DZ
 QJ:T 89=some Y6
 ud:T 90=some zN
 pD:T 91=some X0
 QI:T 92=some J'
 QH:T 93=some Fl
 QG:T 94=some Lb
 QF:T 95=some Lm
 QE:T 96=some Ek
 QD:T 97=some S0
 Ct:T 100=some El
 Cs:T 101=some En
 Cn:T 113=some Y8
section
variable{T:Nat->Option bf}{d:Nat}
theorem R5(h1:NF T)(mj:FX T)(rT:T 74=some X3){x:Int}(ha:g[a]?=some (.lst (cs.map b7.d)))(hz:cs.length<=1000)(h:∀g' b,Ex g g'->g.length<=b->g'[b]?=some (.lst (b8 (jX cs w x)))->Q (.ref b) g'):c5 T (k+3) 74 [.ref a,.str w.s,.int x] g Q E:=by
 refine call_of rT rfl ?_;dsimp[X3,d0,List.replicate];left;refine Ll (k:=k+1) h1 ?_;left;have fld:∀f:Int,(f=0\/f=2)->(∀i c,cs[i]?=some c->meant cs w x i=decide (B8 f c=x))->bq (c5 T (k+2)) (.comp [3,2] 5 (.many [3,4]) (.lO (.var 0)) (.fV (.prim (.cmp .Eq) (.cons (.prim .ix (.cons (.var 4) (.cons (.var 0) .nil))) (.cons (.var 1) .nil)))) (.var 3)) [some (.ref a),some (.str w.s),some (.int x),some (.int f)] g Q E:=λf hf hm=>by
  refine B1 (b0 T _) (λU=>∃z2 z3 z4,U=[some (.int f),some (.int x),z2,z3,z4]) (meant cs w x) (λi=>.int (i:Nat)) (l:=nu (cs.map b7.d)) (λg' e=>zl (a9 (e.at ha))) (by rw[Q1];simpa using hz) ⟨none,none,none,rfl⟩ (λi d U g' hx e sh=>?_) (λg' e=>?_) (Dk (a9 ha) λQ q=>w_var (d:=.ref a) rfl q)
  ·obtain⟨z2,z3,z4,rfl⟩:=sh;obtain⟨dd,hd,rfl⟩:=zA hx;rw[ai,aa] at hd;obtain⟨c,hc,rfl⟩:=hd;refine C2 rfl ?_;left;refine A2 (O4 hf c) ?_;left;rw[hm i c hc];refine⟨rfl,e,?_⟩;refine if2 (λ_=>?_) (λ_=>?_)
   ·left;exact⟨rfl,e,_,_,_,rfl⟩
   ·exact⟨_,_,_,rfl⟩
  ·rw[Q1,ak];exact h _ _ (e.trans (Ex.snoc _ _)) e.len b9
 cases w with
 |gk =>
  refine ig (by decide +kernel) ?_;left;refine B1 (b0 T _) (λU=>∃z1 z2,U=[some (.int x),z1,z2]) (meant cs .gk x) (λi=>.int (i:Nat)) (l:=j6 0 cs.length) (λg' e=>u9) (by rw[j7];exact hz) ⟨none,none,rfl⟩ (λi d U g' hx e sh=>?_) (λg' e=>?_) (zW (b0 T _) hz λQ q=>?_)
  ·obtain⟨z2,z3,rfl⟩:=sh;obtain⟨hi,rfl⟩:=x6 hx;rw[dC];refine i7 ?_;left;refine⟨rfl,e,?_⟩;refine if2 (λ_=>?_) (λ_=>?_)
   ·left;exact⟨rfl,e,_,_,rfl⟩
   ·exact⟨_,_,rfl⟩
  ·rw[j7];exact h _ _ (e.trans (Ex.snoc _ _)) e.len b9
  ·left;rw[ak];exact q
 |lower =>
  refine fX (by decide +kernel) ?_;left;refine K3 (k:=k) mj (by decide +kernel) (λ_=>?_) (λz=>absurd z (by decide +kernel)) (λz=>absurd rfl z);exact fld 0 (.inl rfl) λi c hc=>by simp only[meant,E0 hc];rfl
 |upper =>
  refine fX (by decide +kernel) ?_;left;refine K3 (k:=k) mj (by decide +kernel) (λz=>absurd z (by decide +kernel)) (λ_=>?_) (λ_ z=>absurd rfl z);exact fld 2 (.inr rfl) λi c hc=>by simp only[meant,E0 hc];rfl
theorem Q4(ud:T 90=some zN){l:List Nat}(ha:g[a]?=some (.lst (b8 l)))(hz:l.length<=1000)(hl:∀i∈l,i<=1000)(h:∀g',Ex g g'->Q (.int (qj l:Nat)) g'):c5 T (k+1) 90 [.ref a] g Q E:=by
 refine call_of ud rfl ?_;dsimp[zN,d0,List.replicate];left;refine comp_map (b0 T _) (λU=>∃z0 z1,U=[z0,z1]) (λi=>.int ((2 ^ (l.getD i 0):Nat):Int)) (l:=b8 l) (k:=.lst a) (λg' e=>p8 (a9 (e.at ha))) (by simpa[b8] using hz) ⟨none,none,rfl⟩ (λi d U g' hx e sh=>?_) (λg' e=>?_) (M4 (b0 T _) (a9 ha) λQ q=>w_var (d:=.ref a) rfl q)
 ·obtain⟨z0,z1,rfl⟩:=sh;rw[b8,ai,aa] at hx;obtain⟨j,hj,rfl⟩:=hx;refine i7 ?_;left;have:=hl j (aF hj);refine Eu ⟨by omega,by omega,by decide⟩ ?_;refine⟨?_,e,_,_,rfl⟩;simp[List.getD,hj]
 ·refine Ju (ns:=(List.range l.length).map λi=>((2 ^ (l.getD i 0):Nat):Int)) (a9 (by simpa[b8] using b9)) ?_;have:((List.range l.length).map λi=>((2 ^ (l.getD i 0):Nat):Int)).sum=(qj l:Nat):=by
   have e2:(List.range l.length).map (λi=>((2 ^ (l.getD i 0):Nat):Int))=(l.map (2 ^ ·)).map λ(n:Nat)=>(n:Int):=by
    refine bN λi=>?_;rw[ai,ai,ai];by_cases hi:i<l.length
    ·simp[List.getD,hi]
    ·rw[aO (by simpa using hi),aO ()]
     rfl
   rw[e2];unfold qj;generalize l.map (2 ^ ·)=m
   induction m with
   |nil=>rfl
   |cons x r ih=>simp[ih]
  rw[this];exact h _ (e.trans (Ex.snoc _ _))
theorem B3(pD:T 91=some X0){s:Nat}(hp:p<=1000)(h:Q (.int ((s |||2 ^ p:Nat):Int)) g):c5 T (k+1) 91 [.int (s:Nat),.int (p:Nat)] g Q E:=by
 refine call_of pD rfl ?_;dsimp[X0,d0,List.replicate];left;refine Eu ⟨by omega,by omega,by decide⟩ ?_;refine Ww ?_;have e:(1:Int)*2 ^ ((p:Nat):Int).toNat=((2 ^ p:Nat):Int):=by simp
 rw[e,RS];exact h
end
section
variable{T:Nat->Option bf}{d:Nat}
theorem LM{c:b7}(h:CB c):c.lm.length<=1000/\c.um.length<=1000:=⟨aC h.1 ∅,aC h.2 ∅⟩
theorem aG0(hT:jH T){c e:b7}(hc:CB c)(h:∀g',Ex g g'->Q (.bl (mw c e)) g'):c5 T (k+3) 92 [c.d,e.d] g Q E:=by
 refine call_of hT.QI rfl ?_;refine x5 (b0 T _) (vP (b0 T _) ?_);refine⟨_,rfl,_,λi U g'=>Ex g g'/\(∃z2 z3,U=[some c.d,some e.d,z2,z3])/\(1<=i->(decide (c.lo=e.lo)&&!jW c.lm e.lm)=false)/\(2<=i->(decide (c.up=e.up)&&!jW c.um e.um)=false),λ_ _ _ _=>u9,⟨Ex.refl _,⟨none,none,rfl⟩,λz=>absurd z (),λz=>absurd z ()⟩,λi x U g' hx q=>?_,λU g' q=>?_⟩
 ·obtain⟨e1,⟨z2,z3,rfl⟩,q1,q2⟩:=q;refine i7 ?_
  match i,hx with
  |0,hx =>
   cases hx;left;refine K3 (k:=k) hT.mj (by decide +kernel) (λ_=>?_) (λz=>absurd z (by decide +kernel)) (λz=>absurd rfl z);left;refine A2 (l:=[.int c.lo,.tup (c.lm.map .int),.int c.up,.tup (c.um.map .int),.int c.yr]) rfl ?_;left;refine A2 (l:=[.int e.lo,.tup (e.lm.map .int),.int e.up,.tup (e.um.map .int),.int e.yr]) rfl ?_;left;refine if2 (λh1=>?_) (λh1=>?_)
   ·left;refine A2 (l:=[.int c.lo,.tup (c.lm.map .int),.int c.up,.tup (c.um.map .int),.int c.yr]) rfl ?_;left;refine A2 (l:=[.int e.lo,.tup (e.lm.map .int),.int e.up,.tup (e.um.map .int),.int e.yr]) rfl ?_;left;refine Kn (k:=k+1) hT.yV (LM hc).1 λg2 e2=>?_;left;cases hw:jW c.lm e.lm with
    |false =>
     left;have:mw c e=true:=by unfold mw;rw[ay h1,hw];rfl
     rw[<- this];exact h _ (e1.trans e2)
    |true =>
     exact⟨e1.trans e2,⟨_,_,rfl⟩,λ_=>by rw[ay h1];rfl,λz=>absurd z ()⟩
   ·exact⟨e1,⟨_,_,rfl⟩,λ_=>by rw[aI h1];rfl,λz=>absurd z ()⟩
  |1,hx =>
   cases hx;left;refine K3 (k:=k) hT.mj (by decide +kernel) (λz=>absurd z (by decide +kernel)) (λ_=>?_) (λ_ z=>absurd rfl z);left;refine A2 (l:=[.int c.lo,.tup (c.lm.map .int),.int c.up,.tup (c.um.map .int),.int c.yr]) rfl ?_;left;refine A2 (l:=[.int e.lo,.tup (e.lm.map .int),.int e.up,.tup (e.um.map .int),.int e.yr]) rfl ?_;left;refine if2 (λh1=>?_) (λh1=>?_)
   ·left;refine A2 (l:=[.int c.lo,.tup (c.lm.map .int),.int c.up,.tup (c.um.map .int),.int c.yr]) rfl ?_;left;refine A2 (l:=[.int e.lo,.tup (e.lm.map .int),.int e.up,.tup (e.um.map .int),.int e.yr]) rfl ?_;left;refine Kn (k:=k+1) hT.yV (LM hc).2 λg2 e2=>?_;left;cases hw:jW c.um e.um with
    |false =>
     left;have:mw c e=true:=by unfold mw;rw[ay h1,hw];simp
     rw[<- this];exact h _ (e1.trans e2)
    |true =>
     exact⟨e1.trans e2,⟨_,_,rfl⟩,λ_=>q1 (),λ_=>by rw[ay h1];rfl⟩
   ·exact⟨e1,⟨_,_,rfl⟩,λ_=>q1 (),λ_=>by rw[aI h1];rfl⟩
  |i+2,hx=>simp at hx
 ·obtain⟨e1,⟨z2,z3,rfl⟩,q1,q2⟩:=q;have:mw c e=false:=by unfold mw;rw[q1 ∅,q2 ∅];rfl
  rw[<- this];exact h _ e1
theorem Wa(hT:jH T){c e:b7}(h:Q (.bl (kU c e)) g):c5 T (k+1) 93 [c.d,e.d] g Q E:=by
 refine call_of hT.QH rfl ?_;dsimp[Fl,d0,List.replicate];left;refine A2 (l:=[.int e.lo,.tup (e.lm.map .int),.int e.up,.tup (e.um.map .int),.int e.yr]) rfl ?_;left;refine if2 (λh1=>?_) (λh1=>?_)
 ·left;refine A2 (l:=[.int c.lo,.tup (c.lm.map .int),.int c.up,.tup (c.um.map .int),.int c.yr]) rfl ?_;left;have:kU c e=decide (e.yr<c.yr):=by unfold kU;rw[ay h1];rfl
  rw[<- this];exact h
 ·have:kU c e=false:=by unfold kU;rw[aI h1];rfl
  rw[<- this];exact h
def tG(cs:List b7)(q:b7->b7->Bool):List D:=(List.range cs.length).map λi=>.int ((jb cs.length λj=>q (bT cs j) (bT cs i):Nat):Int)
theorem Z7{q:Nat->Bool}:∀i∈(List.range cs.length).filter q,i<cs.length:=λi hi=>aS.mp (bL.mp hi).1
theorem K2{n:Nat}{q:Nat->Bool}:((List.range n).filter q).length<=n:=aC (gf _ _) (by simp)
theorem VB(hT:jH T)(ha:g[a]?=some (.lst (cs.map b7.d)))(hz:cs.length<=9)(hB:∀c∈cs,CB c)(h:∀g' b,Ex g g'->g.length<=b->g'[b]?=some (.lst (tG cs mw))->Q (.ref b) g'):c5 T (k+4) 94 [.ref a] g Q E:=by
 refine call_of hT.QG rfl ?_;refine comp_map (b0 T _) (λU=>∃z1 z2,U=[some (.ref a),z1,z2]) (λi=>.int ((jb cs.length λj=>mw (bT cs j) (bT cs i):Nat):Int)) (l:=cs.map b7.d) (k:=.lst a) (λg' e=>p8 (a9 (e.at ha))) (by simp;omega) ⟨none,none,rfl⟩ (λi d U g' hx e sh=>?_) (λg' e=>?_) (M4 (b0 T _) (a9 ha) λQ q=>w_var (d:=.ref a) rfl q)
 ·obtain⟨z1,z2,rfl⟩:=sh;rw[ai,aa] at hx;obtain⟨c,hc,rfl⟩:=hx;refine i7 ?_;left;refine B1 (b0 T _) (λU=>∃z1 z2 z3,U=[some c.d,z1,z2,z3]) (λj=>mw (bT cs j) (bT cs i)) (λi=>.int (i:Nat)) (l:=nu (cs.map b7.d)) (k:=.pK a) (λg2 e2=>zl (a9 ((e.trans e2).at ha))) (by rw[Q1];simp;omega) ⟨none,none,none,rfl⟩ (λj d U g2 hx e2 sh=>?_) (λg2 e2=>?_) (Dk (a9 (e.at ha)) λQ q=>w_var (d:=.ref a) rfl q)
  ·obtain⟨z1,z2,z3,rfl⟩:=sh;obtain⟨dd,hd,rfl⟩:=zA hx;rw[ai,aa] at hd;obtain⟨c',jK,rfl⟩:=hd;refine C2 rfl ?_;left;refine aG0 (k:=k) hT (hB c' (aF jK)) λg3 e3=>?_;left;refine⟨by simp only[E0 jK,E0 hc],e2.trans e3,?_⟩;cases mw c' c with
   |true =>
    refine ig rfl ?_;left;exact⟨rfl,e2.trans e3,_,_,_,rfl⟩
   |false=>exact fX rfl ⟨_,_,_,rfl⟩
  ·left;refine Q4 (k:=k+2) hT.ud (l:=(List.range cs.length).filter λj=>mw (bT cs j) (bT cs i)) (by have:=b9 (g:=g2) (o:=.lst (((List.range (nu (cs.map b7.d)).length).filter λj=>mw (bT cs j) (bT cs i)).map λi=>D.int (i:Nat)));rw[Q1,ak] at this ⊢;exact this) (aC K2 ()) (λj hj=>by have:=Z7 j hj;omega) λg3 e3=>?_;exact⟨rfl,(e.trans (e2.trans (Ex.snoc _ _))).trans e3,_,_,rfl⟩
 ·refine h _ _ (e.trans (Ex.snoc _ _)) e.len ?_;rw[b9,ak]
  rfl
theorem a26(hT:jH T)(ha:g[a]?=some (.lst (cs.map b7.d)))(hz:cs.length<=9)(h:∀g' b,Ex g g'->g.length<=b->g'[b]?=some (.lst (tG cs kU))->Q (.ref b) g'):c5 T (k+4) 95 [.ref a] g Q E:=by
 refine call_of hT.QF rfl ?_;refine comp_map (b0 T _) (λU=>∃z1 z2,U=[some (.ref a),z1,z2]) (λi=>.int ((jb cs.length λj=>kU (bT cs j) (bT cs i):Nat):Int)) (l:=cs.map b7.d) (k:=.lst a) (λg' e=>p8 (a9 (e.at ha))) (by simp;omega) ⟨none,none,rfl⟩ (λi d U g' hx e sh=>?_) (λg' e=>?_) (M4 (b0 T _) (a9 ha) λQ q=>w_var (d:=.ref a) rfl q)
 ·obtain⟨z1,z2,rfl⟩:=sh;rw[ai,aa] at hx;obtain⟨c,hc,rfl⟩:=hx;refine i7 ?_;left;refine B1 (b0 T _) (λU=>∃z1 z2 z3,U=[some c.d,z1,z2,z3]) (λj=>kU (bT cs j) (bT cs i)) (λi=>.int (i:Nat)) (l:=nu (cs.map b7.d)) (k:=.pK a) (λg2 e2=>zl (a9 ((e.trans e2).at ha))) (by rw[Q1];simp;omega) ⟨none,none,none,rfl⟩ (λj d U g2 hx e2 sh=>?_) (λg2 e2=>?_) (Dk (a9 (e.at ha)) λQ q=>w_var (d:=.ref a) rfl q)
  ·obtain⟨z1,z2,z3,rfl⟩:=sh;obtain⟨dd,hd,rfl⟩:=zA hx;rw[ai,aa] at hd;obtain⟨c',jK,rfl⟩:=hd;refine C2 rfl ?_;left;refine Wa (k:=k+2) hT ?_;left;refine⟨by simp only[E0 jK,E0 hc],e2,?_⟩;cases kU c' c with
   |true =>
    refine ig rfl ?_;left;exact⟨rfl,e2,_,_,_,rfl⟩
   |false=>exact fX rfl ⟨_,_,_,rfl⟩
  ·left;refine Q4 (k:=k+2) hT.ud (l:=(List.range cs.length).filter λj=>kU (bT cs j) (bT cs i)) (by have:=b9 (g:=g2) (o:=.lst (((List.range (nu (cs.map b7.d)).length).filter λj=>kU (bT cs j) (bT cs i)).map λi=>D.int (i:Nat)));rw[Q1,ak] at this ⊢;exact this) (aC K2 ()) (λj hj=>by have:=Z7 j hj;omega) λg3 e3=>?_;exact⟨rfl,(e.trans (e2.trans (Ex.snoc _ _))).trans e3,_,_,rfl⟩
 ·refine h _ _ (e.trans (Ex.snoc _ _)) e.len ?_;rw[b9,ak]
  rfl
theorem VO(hT:jH T)(ha:g[a]?=some (.lst (cs.map b7.d)))(hz:cs.length<=9)(hg:cs.all C9=true)(h:Q (.ref g.length) (g++[.lst ((u4 (cs.map b7.lo)).map .int)])):c5 T (k+7) 20 [.ref a,.str "lower"] g Q E:=by
 refine call_of hT.QR rfl ?_;dsimp[DA,d0,List.replicate];left;refine Ls (k:=k) hT.nf hT.h2 hT.ue hT.wF ha () (λz=>by omega) (λ_ z=>by rw[hg] at z;cases z) λ_ _=>?_;left;refine K3 (k:=k+4) hT.mj (by decide +kernel) (λ_=>?_) (λz=>absurd z (by decide +kernel)) (λz=>absurd rfl z);left;refine Vv (b0 T _) (lr (b0 T _) ?_);left;refine⟨a,_,rfl,a9 ha,cs.map b7.d,λi ys U g'=>∃z w,ys=(cs.take i).map b7.lo/\U=[some (.int 0),z,w]/\g'=g,by simp;omega,λi ys U g' p=>?_,⟨none,none,rfl,rfl,rfl⟩,λi c ys U g' hx p=>?_,λys U g' p=>?_⟩
 ·obtain⟨z,w,rfl,rfl,rfl⟩:=p;exact⟨p8 (a9 ha),by simp;omega⟩
 ·obtain⟨z,w,rfl,rfl,rfl⟩:=p;rw[ai,aa] at hx;obtain⟨c,hc,rfl⟩:=hx;left;refine A2 (l:=[.int c.lo,.tup (c.lm.map .int),.int c.up,.tup (c.um.map .int),.int c.yr]) rfl ?_;refine⟨_,rfl,_,_,?_,rfl,rfl⟩;rw[bA,hc];simp
 ·obtain⟨z,w,rfl,rfl,rfl⟩:=p;rw[ak,cA];exact h
def Z0(cs:List b7):List D:=(u4 (cs.map b7.lo)).map λd=>.int ((jb cs.length (meant cs .lower d):Nat):Int)
theorem az2(hT:jH T)(ha:g[a]?=some (.lst (cs.map b7.d)))(hz:cs.length<=9)(hg:cs.all C9=true)(h:∀g' b,Ex g g'->g.length<=b->g'[b]?=some (.lst (Z0 cs))->Q (.ref b) g'):c5 T (k+8) 96 [.ref a] g Q E:=by
 refine call_of hT.QE rfl ?_;dsimp[Ek,d0,List.replicate];left;have BI:(u4 (cs.map b7.lo)).length<=9:=aC (Q9 _) (by simpa using hz);unfold Z0 at h;refine J7 (b0 T _) (lr (b0 T _) ?_);left;refine VO (k:=k) hT ha hz hg ?_;have e0:=Ex.snoc g (O.lst ((u4 (cs.map b7.lo)).map .int));have hb:=b9 (g:=g) (o:=O.lst ((u4 (cs.map b7.lo)).map .int));generalize u4 (cs.map b7.lo)=ds at *;generalize g++[O.lst (ds.map .int)]=g1 at *;refine⟨_,_,rfl,a9 hb,ds.map .int,λi ys U g'=>Ex g1 g'/\ys=(ds.take i).map (λd=>.int ((jb cs.length (meant cs .lower d):Nat):Int))/\∃z1 z2,U=[some (.ref a),z1,z2],by simp;omega,λi ys U g' q=>⟨p8 (a9 (q.1.at hb)),?_⟩,⟨Ex.refl _,rfl,none,none,rfl⟩,λi x ys U g' hx q=>?_,λys U g' q=>?_⟩
 ·obtain⟨_,rfl,_⟩:=q;simp;omega
 ·obtain⟨e1,rfl,z1,z2,rfl⟩:=q;rw[ai,aa] at hx;obtain⟨dd,hd,rfl⟩:=hx;refine i7 ?_;left;refine R5 (k:=k+4) hT.nf hT.mj hT.rT (w:=.lower) ((e0.trans e1).at ha) () λg2 b2 e2 _ wu=>?_;left;refine Q4 (k:=k+6) hT.ud wu (aC K2 ()) (λj hj=>by have:=Z7 j hj;omega) λg3 e3=>?_;refine⟨e1.trans (e2.trans e3),?_,_,_,rfl⟩;rw[bA,hd];simp[jb,jX]
 ·obtain⟨e1,rfl,z1,z2,rfl⟩:=q;rw[ak,cA];exact h _ _ (e0.trans (e1.trans (Ex.snoc _ _))) (aC e0.len e1.len) b9
end
theorem R8{i:Int}{k:Bool->Prop}(ha:d5 g a=some (ms.map .int))(h:k (ms.any λm=>m==i)):rD g (.int i) (.ref a) k:=by
 refine⟨_,.inr ⟨_,_,_,ha,M8 ms,rfl,lay_ints ms,by rfl,rfl⟩,?_⟩;rw[lI];exact h
theorem zC{l:List Nat}{k:Bool->Prop}(ha:g[a]?=some (.lst (b8 l)))(h:k (decide (i∈l))):rD g (.int (i:Nat)) (.ref a) k:=by
 refine R8 (ms:=l.map λ(i:Nat)=>(i:Int)) (by rw[<- P8];exact a9 ha) ?_;have:((l.map λ(i:Nat)=>(i:Int)).any λm=>m==(i:Int))=decide (i∈l):=by
  rw[aY,aU,bQ];constructor
  ·rintro⟨x,hx,e⟩;obtain⟨j,hj,rfl⟩:=aN.mp hx;rw[bx] at e;rw[show i=j by omega];exact hj
  ·exact λhi=>⟨_,aN.mpr ⟨i,hi,rfl⟩,by simp⟩
 rw[this];exact h
structure oo(g:G)(nb lo n:Nat)(B:Nat->Nat)(F:Nat->Nat->Prop):Prop where
 ex:∃as:List Nat,g[nb]?=some (.lst (as.map .ref))/\as.length=n/\as.Nodup/\(∀a∈as,lo<=a/\a≠nb)/\∀i a,as[i]?=some a->∃ms:List Nat,g[a]?=some (.lst (b8 ms))/\ms.length<=B i/\∀m,m∈ms↔F i m
theorem oo.at{g g':G}{nb lo n:Nat}{B:Nat->Nat}{F:Nat->Nat->Prop}(h:oo g nb lo n B F)(e:Ex g g'):oo g' nb lo n B F:=by
 obtain⟨as,h1,h2,h3,h4,h5⟩:=h.ex;refine⟨⟨as,e.at h1,h2,h3,h4,λi a hi=>?_⟩⟩;obtain⟨ms,m1,m2⟩:=h5 i a hi;exact⟨ms,e.at m1,m2⟩
theorem oo.imp{nb lo:Nat}{B B':Nat->Nat}{F F':Nat->Nat->Prop}(h:oo g nb lo n B F)(hB:∀i,i<n->B i<=B' i)(hF:∀i m,i<n->(F i m↔F' i m)):oo g nb lo n B' F' :=
 let ⟨as,h1,h2,h3,h4,h5⟩:=h.ex
 ⟨⟨as,h1,h2,h3,h4,λi a hi=>let ⟨ms,m1,m2,m3⟩:=h5 i a hi
  have jo:i<n:=by rw[<- h2];exact(av.mp hi).1
  ⟨ms,m1,aC m2 (hB i jo),λm=>(m3 m).trans (hF i m jo)⟩⟩⟩
def uF(cs:List b7)(rs:List eU)(i m:Nat):Prop:=∃r∈rs,meant cs r.w r.y i=true/\m=jb cs.length (meant cs r.w r.x)
def v8(rs:List eU):List D:=rs.map eU.d
theorem Kd{l:List α}(h:l.Nodup){a:α}(hi:l[i]?=some a)(hj:l[j]?=some a):i=j:=by
 obtain⟨h1,e1⟩:=av.mp hi;obtain⟨h2,e2⟩:=av.mp hj;exact(mz h).mp (e1.trans e2.symm)
section
variable{T:Nat->Option bf}{d:Nat}
theorem a19(hT:jH T)(ha:g[a]?=some (.lst (cs.map b7.d)))(hz:cs.length<=9)(hc:g[c]?=some (.lst (v8 rs)))(hr:rs.length<=900)(h:∀g' b,Ex g g'->g.length<=b->oo g' b g.length cs.length (λ_=>rs.length) (uF cs rs)->Q (.ref b) g'):c5 T (k+4) 97 [.ref a,.ref c] g Q E:=by
 refine call_of hT.QD rfl ?_;dsimp[S0,d0,List.replicate];left;refine J7 (b0 T _) (lr (b0 T _) ?_);left;refine⟨a,_,rfl,a9 ha,cs.map b7.d,λi ys U g'=>Ex g g'/\(∃as:List Nat,ys=as.map .ref/\as.length=i/\as.Nodup/\∀b∈as,g.length<=b/\g'[b]?=some (.lst []))/\∃z0 z1,U=[z0,z1],by simp;omega,λi ys U g' q=>⟨p8 (a9 (q.1.at ha)),?_⟩,⟨Ex.refl _,⟨[],rfl,rfl,by simp,by simp⟩,none,none,rfl⟩,λi x ys U g' hx q=>?_,λys U g' q=>?_⟩
 ·obtain⟨_,⟨as,rfl,rfl,_⟩,_⟩:=q;simp
 ·obtain⟨e1,⟨as,rfl,hl,nd,hA⟩,z0,z1,rfl⟩:=q;refine i7 ?_;left;refine⟨e1.trans (Ex.snoc _ _),⟨as++[g'.length],by simp,by simp[hl],?_,λb hb=>?_⟩,_,_,rfl⟩
  ·rw[cx];exact⟨nd,by simp,λx hx y hy=>by cases aQ.mp hy;exact aM (l9 (hA x hx).2)⟩
  ·rcases aR.mp hb with hb|hb
   ·exact⟨(hA b hb).1,(Ex.snoc _ _).at (hA b hb).2⟩
   ·cases aQ.mp hb;exact⟨e1.len,b9⟩
 ·obtain⟨e1,⟨as,rfl,hl,nd,hA⟩,z0,z1,rfl⟩:=q;rw[ak] at hl;have e2:=e1.trans (Ex.snoc g' (O.lst (as.map D.ref)));have lo:=e1.len;have N0:oo (g'++[O.lst (as.map D.ref)]) g'.length g.length cs.length (λ_=>0) (uF cs []):=⟨⟨as,b9,hl,nd,λb hb=>⟨(hA b hb).1,aM (l9 (hA b hb).2)⟩,λi b hb=>⟨[],(Ex.snoc _ _).at (hA b (aF hb)).2,by simp,λm=>⟨λz=>absurd z (by simp),λ⟨r,hr,_⟩=>absurd hr (by simp)⟩⟩⟩⟩
  generalize g'.length=nb at *;refine x5 (b0 T _) (lr (b0 T _) ?_);left;refine⟨c,_,rfl,a9 (e2.at hc),v8 rs,λi U g'=>Ex g g'/\oo g' nb g.length cs.length (λ_=>i) (uF cs (rs.take i))/\∃z3 z4 z5 z6 z7,U=[some (.ref a),some (.ref c),some (.ref nb),z3,z4,z5,z6,z7],λi U g' q=>p8 (a9 (q.1.at hc)),⟨e2,N0,none,none,none,none,none,rfl⟩,λi x U g' hx q=>?_,λU g' q=>?_⟩
  ·obtain⟨e3,N3,z3,z4,z5,z6,z7,rfl⟩:=q;rw[v8,ai,aa] at hx;obtain⟨r,fG,rfl⟩:=hx;have hi:i<rs.length:=(av.mp fG).1;refine C2 (l:=[.str r.w.s,.int r.x,.int r.y]) rfl ?_;left;refine R5 (k:=k) hT.nf hT.mj hT.rT (e3.at ha) () λg4 b4 e4 _ Qm=>?_;left;refine Q4 (k:=k+2) hT.ud Qm (aC K2 ()) (λj hj=>by have:=Z7 j hj;omega) λg5 e5=>?_;left;have sv:=e3.trans (e4.trans e5);have N5:=N3.at (e4.trans e5);have ef:qj (jX cs r.w r.x)=jb cs.length (meant cs r.w r.x):=rfl;rw[ef];generalize jb cs.length (meant cs r.w r.x)=first at *
   refine x5 (b0 T _) (lr (b0 T _) ?_);left;refine R5 (k:=k) hT.nf hT.mj hT.rT (sv.at ha) () λg6 b6 e6 hb6 Hl=>?_;refine⟨b6,_,rfl,a9 Hl,b8 (jX cs r.w r.y),λj U g'=>Ex g g'/\g'[b6]?=some (.lst (b8 (jX cs r.w r.y)))/\oo g' nb g.length cs.length (λq=>i+if q∈(jX cs r.w r.y).take j then 1 else 0) (λq m=>uF cs (rs.take i) q m\/(q∈(jX cs r.w r.y).take j/\m=first))/\(∀as:List Nat,g'[nb]?=some (.lst (as.map .ref))->b6∉as)/\∃z7,U=[some (.ref a),some (.ref c),some (.ref nb),some (.str r.w.s),some (.int r.x),some (.int r.y),some (.int (first:Nat)),z7],λj U g' q=>p8 (a9 q.2.1),⟨sv.trans e6,Hl,(N5.at e6).imp (λq _=>by simp) (λq m _=>by simp),?_,z7,rfl⟩,λj x U g' hx q=>?_,λU g' q=>?_⟩
   ·intro zh h' hm;obtain⟨Ko,h1,h2,h3,h4,h5⟩:=N5.ex;have:=(e6.at h1).symm.trans h';have e':Ko=zh:=by
     have h0:Ko.map D.ref=zh.map D.ref:=by injection this with w;injection w
     exact(List.map_inj_right (λx y z=>by injection z)).mp h0
    subst e';obtain⟨i',jo⟩:=gb.mp hm;obtain⟨ms,m1,_⟩:=h5 i' b6 jo;have:=l9 m1;omega
   ·obtain⟨e7,p7,N7,yq,z7,rfl⟩:=q;rw[b8,ai,aa] at hx;obtain⟨q,hq,rfl⟩:=hx;have Hk:q<cs.length:=Z7 q (aF hq);have Px:q∉(jX cs r.w r.y).take j:=λz=>by
     obtain⟨j',tT⟩:=gb.mp z;have hl:j'<j:=by
      have:=(av.mp tT).1;simp at this;omega
     rw[fh hl] at tT;have OG:(jX cs r.w r.y).Nodup:=my.filter _;have:=Kd OG tT hq;omega
    have tk:(jX cs r.w r.y).take (j+1)=(jX cs r.w r.y).take j++[q]:=by rw[bA,hq];rfl
    obtain⟨xb,h1,h2,h3,h4,h5⟩:=N7.ex;have Pm:q<xb.length:=by omega
    have tZ:=ag Pm;generalize xb[q]=aq at tZ;obtain⟨ms,m1,m2,m3⟩:=h5 q aq tZ;have gq:gG (xb.map D.ref) (q:Int)=some (.ref aq):=C7 (by rw[ai,tZ];rfl);refine i7 ?_;left;refine u3 (a9 h1) gq ?_;refine X9 (zC m1 ?_);left;by_cases lx:first∈ms
    ·refine fX (by simp[lx]) ?_;refine⟨e7,p7,N7.imp (λq' _=>?_) (λq' m _=>?_),yq,_,rfl⟩
     ·rw[tk];by_cases z:q'∈(jX cs r.w r.y).take j
      ·simp[z]
      ·simp[z]
     ·rw[tk];simp only[List.mem_append,List.mem_singleton];constructor
      ·rintro(z|⟨z1,z2⟩)
       ·exact .inl z
       ·exact .inr ⟨.inl z1,z2⟩
      ·rintro(z|⟨z1|z1,z2⟩)
       ·exact .inl z
       ·exact .inr ⟨z1,z2⟩
       ·subst z1 z2;exact(m3 m).mp lx
    ·refine ig (by simp[lx]) ?_;left;refine u3 (a9 h1) gq ?_;left;rw[aD Px] at m2;refine Q6 m1 (by simp[b8];omega) ?_;have nO:=aF tZ;have fR:=(h4 aq nO).2;have PD:aq≠b6:=λz=>yq xb h1 (z▸nO);have Ig:=d4 (o':=O.lst (b8 ms++[D.int (first:Nat)])) h1 fR;refine⟨⟨by simp;exact e7.len,λi' jo=>by rw[ax (by have:=(h4 aq nO).1;omega)];exact e7.old i' jo⟩,d4 p7 PD,⟨⟨xb,Ig,h2,h3,h4,λi' b hb=>?_⟩⟩,λzh h'=>?_,_,rfl⟩
     ·by_cases yI:i'=q
      ·subst yI;have:b=aq:=by rw[tZ] at hb;injection hb with z;exact z.symm
       subst this;refine⟨ms++[first],by rw[get_set m1];simp[b8],?_,λm=>?_⟩
       ·rw[tk];simp;omega
       ·rw[aR,aQ,m3 m,tk];simp only[List.mem_append,List.mem_singleton];constructor
        ·rintro((z|⟨z1,z2⟩)|z)
         ·exact .inl z
         ·exact .inr ⟨.inl z1,z2⟩
         ·exact .inr ⟨.inr trivial,z⟩
        ·rintro(z|⟨z1|z1,z2⟩)
         ·exact .inl (.inl z)
         ·exact .inl (.inr ⟨z1,z2⟩)
         ·exact .inr z2
      ·have tY:aq≠b:=λz=>yI (Kd h3 hb (z▸tZ));obtain⟨GR,k1,k2,k3⟩:=h5 i' b hb;refine⟨GR,d4 k1 tY,?_,λm=>(k3 m).trans ?_⟩
       ·rw[tk];simpa[yI] using k2
       ·rw[tk];simp[yI]
     ·rw[Ig] at h';exact yq zh (h1.trans h')
   ·obtain⟨e7,p7,N7,yq,z7,rfl⟩:=q;rw[b8,ak,cA] at N7;refine⟨e7,N7.imp (λq _=>by split<;>omega) (λq m hq=>?_),_,_,_,_,_,rfl⟩;have tk:rs.take (i+1)=rs.take i++[r]:=by rw[bA,fG];rfl
    unfold uF;rw[tk];simp only[List.mem_append,List.mem_singleton];constructor
    ·rintro(⟨r',h1,h2⟩|⟨h1,h2⟩)
     ·exact⟨r',.inl h1,h2⟩
     ·exact⟨r,.inr rfl,(bL.mp h1).2,by rw[h2];exact ef.symm⟩
    ·rintro⟨r',h1|h1,h2,h3⟩
     ·exact .inl ⟨r',h1,h2,h3⟩
     ·subst h1;exact .inr ⟨bL.mpr ⟨aS.mpr hq,h2⟩,by rw[h3];exact ef⟩
  ·obtain⟨e3,N3,z3,z4,z5,z6,z7,rfl⟩:=q;rw[v8,ak,cA] at N3;left;exact h _ _ e3 lo N3
end
def B9(cs:List b7)(r:eU):Bool:=!decide (r.x=r.y)&&(!(jX cs r.w r.x).isEmpty&&!(jX cs r.w r.y).isEmpty)
theorem in_words(h:kb true):rD g (.str w.s) (.tup [.str "coin",.str "lower",.str "upper"]) kb:=by
 refine⟨_,.inr ⟨_,[.str "coin",.str "lower",.str "upper"],.str w.s,rfl,rfl,rfl,by decide +kernel,by cases w<;>decide +kernel,rfl⟩,?_⟩;have:([PyData.str "coin",PyData.str "lower",PyData.str "upper"].any λq=>PyData.eqv q (.str w.s))=true:=by
  cases w<;>decide +kernel
 rw[this];exact h
theorem ne_nil{l:List Nat}(ha:g[a]?=some (.lst (b8 l)))(hb:g[b]?=some (.lst []))(h:Q (.bl (!l.isEmpty)) g):cQ (.cmp .NotEq) [.ref a,.ref b] g Q:=by
 refine xD (a38 (ms:=l.map λ(i:Nat)=>(i:Int)) (ns:=[]) (by rw[<- P8];exact a9 ha) (a9 hb) ?_);have:decide ((l.map λ(i:Nat)=>(i:Int))=[])=l.isEmpty:=by cases l<;>simp
 rw[this];exact h
structure Bd(g:G)(b:Nat)(cs:List b7)(v:Int)(rs:List eU):Prop where
 ex:∃w l d nb,g[b]?=some (.ins "Bounds" [("size",.int cs.length),("full",.int ((2 ^ cs.length-1:Nat):Int)),("room",.int v),("worn_by_place",.ref w),("later_by_place",.ref l),("lower_dies",.ref d),("needed_by_place",.ref nb)]) /\
  g[w]?=some (.lst (tG cs mw))/\g[l]?=some (.lst (tG cs kU))/\g[d]?=some (.lst (Z0 cs))/\oo g nb 0 cs.length (λ_=>rs.length) (uF cs rs)
theorem Bd.at{g g':G}{b:Nat}{cs:List b7}{v:Int}{rs:List eU}(h:Bd g b cs v rs)(e:Ex g g'):Bd g' b cs v rs:=by
 obtain⟨w,l,d,nb,h1,h2,h3,h4,h5⟩:=h.ex;exact⟨⟨w,l,d,nb,e.at h1,e.at h2,e.at h3,e.at h4,h5.at e⟩⟩
theorem aV3(l:List α)(z:α)(q:α->Bool):((List.range l.length).filter λi=>q (l.getD i z)).length=(l.filter q).length:=by
 have e:l=(List.range l.length).map λi=>l.getD i z:=by
  refine bN λi=>?_;rw[ai];by_cases hi:i<l.length
  ·rw[cI hi,ag hi];simp[List.getD,hi]
  ·rw[aO (),aO (by simpa using hi)]
   rfl
 conv=>rhs;rw[e,List.filter_map,ak]
 rfl
theorem MD{q:Nat->Bool}{s:Nat}{S:Nat->Bool}(h:∀i,i<n->s.testBit i=S i):((Builtin.bitAnd ((jb n q:Nat):Int) (s:Nat)) != 0)=(List.range n).any λi=>S i&&q i:=by
 rw[Dq,Nat.and_comm,zy,aY,aU,aU];constructor
 ·rintro⟨i,h1,h2⟩;exact⟨i,h1,by rw[<- h i (aS.mp h1)];exact h2⟩
 ·rintro⟨i,h1,h2⟩;exact⟨i,h1,by rw[h i (aS.mp h1)];exact h2⟩
theorem Wd{s:Nat}(h:s<2 ^ n)(hi:i<n):(2 ^ n-1-s).testBit i=!s.testBit i:=by
 grind
theorem O9(s p i:Nat):(s |||2 ^ p).testBit i=(s.testBit i||decide (i=p)):=by
 rw[Nat.testBit_or,Nat.testBit_two_pow]
 congr 1
 exact dQ.mpr eq_comm
theorem O8{s:Nat}(h:s<2 ^ n)(hp:p<n):s |||2 ^ p<2 ^ n:=Nat.or_lt_two_pow h (AA () hp)
section
variable{T:Nat->Option bf}{d:Nat}
theorem aH5(hT:jH T){r:eU}(ha:g[a]?=some (.lst (cs.map b7.d)))(hz:cs.length<=1000)(h:∀g',Ex g g'->Q (.bl (B9 cs r)) g'):c5 T (k+4) 88 [.ref a,r.d] g Q E:=by
 refine call_of hT.QK rfl ?_;dsimp[DZ,d0,List.replicate];left;refine C2 (l:=[.str r.w.s,.int r.x,.int r.y]) rfl ?_;left;refine X9 (in_words ?_);left;refine if2 (λh1=>?_) (λh1=>?_)
 ·have:B9 cs r=false:=by unfold B9;rw[ay h1];rfl
  rw[<- this];exact h _ (Ex.refl _)
 ·left;refine R5 (k:=k) hT.nf hT.mj hT.rT ha hz λg1 b1 e1 _ wx=>?_;left;refine ne_nil ((Ex.snoc _ _).at wx) b9 ?_;left;cases h2:(jX cs r.w r.x).isEmpty with
  |true =>
   refine fX rfl ?_;have:B9 cs r=false:=by unfold B9;rw[aI h1,h2];rfl
   rw[<- this];exact h _ (e1.trans (Ex.snoc _ _))
  |false =>
   refine ig rfl ?_;left;refine R5 (k:=k) hT.nf hT.mj hT.rT ((e1.trans (Ex.snoc _ _)).at ha) hz λg2 b2 e2 _ wu=>?_;left;refine ne_nil ((Ex.snoc _ _).at wu) b9 ?_;have:B9 cs r=!(jX cs r.w r.y).isEmpty:=by unfold B9;rw[aI h1,h2];rfl
   rw[<- this];exact h _ ((e1.trans (Ex.snoc _ _)).trans (e2.trans (Ex.snoc _ _)))
theorem au7(hT:jH T)(ha:g[a]?=some (.lst (cs.map b7.d)))(hz:cs.length<=1000)(hc:g[c]?=some (.lst (v8 rs)))(hr:rs.length<=900)(h:rs.all (B9 cs)=true->∀g',Ex g g'->Q .bD g')(hn:rs.all (B9 cs)=false->∀g',Ex g g'->False):c5 T (k+5) 89 [.ref a,.ref c] g Q E:=by
 refine call_of hT.QJ rfl ?_;dsimp[Y6,d0,List.replicate];left;refine x5 (b0 T _) (Bn ?_);left;refine⟨c,_,rfl,a9 hc,nu (v8 rs),λi U g'=>Ex g g'/\(∃z2 z3,U=[some (.ref a),some (.ref c),z2,z3])/\(rs.take i).all (B9 cs)=true,λi U g' q=>zl (a9 (q.1.at hc)),⟨Ex.refl _,⟨none,none,rfl⟩,rfl⟩,λi x U g' hx q=>?_,λU g' q=>?_⟩
 ·obtain⟨e1,⟨z2,z3,rfl⟩,q⟩:=q;obtain⟨dd,hd,rfl⟩:=zA hx;rw[v8,ai,aa] at hd;obtain⟨r,fG,rfl⟩:=hd;have tk:rs.take (i+1)=rs.take i++[r]:=by rw[bA,fG];rfl
  refine C2 rfl ?_
  try show wpS _ _ _ _ _ _
  left;refine aH5 (k:=k) hT (e1.at ha) hz λg2 e2=>?_;left;cases hg:B9 cs r with
  |true =>
   left;exact⟨e1.trans e2,⟨_,_,rfl⟩,by rw[tk,List.all_append,q];simp[hg]⟩
  |false =>
   left;refine hn ?_ _ (e1.trans e2);rw[List.all_eq_false];exact⟨r,aF fG,by rw[hg];decide⟩
 ·obtain⟨e1,⟨z2,z3,rfl⟩,q⟩:=q;rw[Q1,v8,ak,cA] at q;exact h q _ e1
theorem Mq{f:Str}(fs:List (Str×D)):(q9 f x fs).length<=fs.length+1:=by
 induction fs with
 |nil=>simp[q9]
 |cons y r ih =>
  unfold q9;split<;>simp
  exact ih
theorem Z6{f:Str}{fs:List (Str×D)}(h:fs.length+1<n):(q9 f x fs).length<n:=cY (Mq fs) h
theorem Z5{f:Str}{fs:List (Str×D)}(h:fs.length+(m+1)<n):(q9 f x fs).length+m<n:=by
 have:=Mq (f:=f) (x:=x) fs;omega
def f3(n:Nat)(v:Int):List (Str×D):=[("size",.int n),("full",.int ((2 ^ n-1:Nat):Int)),("room",.int v)]
theorem uK(n:Nat)(v:Int):(f3 n v).length=3:=rfl
theorem av1(hT:jH T)(ha:g[a]?=some (.lst (cs.map b7.d)))(hz:cs.length<=9)(hg:cs.all C9=true)(hB:∀c∈cs,CB c)(hc:g[c]?=some (.lst (v8 rs)))(hr:rs.length<=900)(hb:g[b]?=some (.ins "Bounds" []))(h:∀g',g.length<=g'.length->(∀i,i<g.length->i≠b->g'[i]?=g[i]?)->Bd g' b cs v rs->Q .bD g'):c5 T (k+9) 113 [.ref b,.ref a,.int v,.ref c] g Q E:=by
 refine call_of hT.Cn rfl ?_;dsimp[Y8,d0,List.replicate];have vz:b≠a:=λz=>by subst z;rw[ha] at hb;cases hb
 have yp:b≠c:=λz=>by subst z;rw[hc] at hb;cases hb
 left;refine sX hb (by simp) (by simp) ?_;left;have oG:=d4 (o':=O.ins "Bounds" (q9 "size" (.int (cs.map b7.d).length) [])) ha vz;refine J5 (a9 oG) ?_;refine Eu ⟨by omega,by simp;omega,by decide⟩ ?_;left;refine sX (get_set hb) (by simp) (by first|(simp;done)|(refine Z6 ?_;repeat (first|(rw[uK];omega)|(simp;done)|refine Z5 ?_))) ?_;rw[iW];left;refine sX (get_set hb) (by simp) (by first|(simp;done)|(refine Z6 ?_;repeat (first|(rw[uK];omega)|(simp;done)|refine Z5 ?_))) ?_;rw[iW];have e0:q9 "room" (.int v) (q9 "full" (.int (1*2 ^ Int.toNat ((cs.map b7.d).length:Int)-1)) (q9 "size" (.int (cs.map b7.d).length) []))=(f3 cs.length v):=by
  have:(1*2 ^ Int.toNat ((cs.map b7.d).length:Int)-1:Int)=((2 ^ cs.length-1:Nat):Int):=by
   have:=fA (n:=cs.length);rw[Int.natCast_sub this];simp
  rw[this,ak]
  rfl
 simp only[e0];have kp:∀(g1:G) (o:O),Ex (g.set b o) g1->(∀i,i<g.length->i≠b->g1[i]?=g[i]?)/\g.length<=g1.length:=λg1 o e=>⟨λi hi hn=>by rw[e.old i (by simpa using hi),ax (cq hn)],by have:=e.len;simpa using this⟩
 generalize ho:O.ins "Bounds" (f3 cs.length v)=o1;have wx:=get_set (o':=o1) hb;have oG:=d4 (o':=o1) ha vz;have rQ:=d4 (o':=o1) hc yp;have k1:=kp _ o1 (Ex.refl _);generalize g.set b o1=g1 at *;subst ho;left;refine VB (k:=k+4) hT oG hz hB λg2 w e2 hw1 hw=>?_;left;refine sX (e2.at wx) (by simp) (by rw[uK];omega) ?_;have lw:w≠b:=λz=>by have:=l9 wx;omega
 have BW:=get_set (o':=O.ins "Bounds" (q9 "worn_by_place" (.ref w) (f3 cs.length v))) (e2.at wx);have Ph:=d4 (o':=O.ins "Bounds" (q9 "worn_by_place" (.ref w) (f3 cs.length v))) hw lw.symm;have yP:=d4 (o':=O.ins "Bounds" (q9 "worn_by_place" (.ref w) (f3 cs.length v))) (e2.at oG) vz;have yL:=d4 (o':=O.ins "Bounds" (q9 "worn_by_place" (.ref w) (f3 cs.length v))) (e2.at rQ) yp;have k3:(∀i,i<g.length->i≠b->(g2.set b (O.ins "Bounds" (q9 "worn_by_place" (.ref w) (f3 cs.length v))))[i]?=g[i]?)/\g.length<=(g2.set b (O.ins "Bounds" (q9 "worn_by_place" (.ref w) (f3 cs.length v)))).length:=⟨λi hi hn=>by rw[ax (cq hn),e2.old i ()];exact k1.1 i hi hn,by simp;have:=e2.len;omega⟩
 generalize g2.set b (O.ins "Bounds" (q9 "worn_by_place" (.ref w) (f3 cs.length v)))=g3 at *;left;refine a26 (k:=k+4) hT yP hz λg4 l e4 ka hl=>?_;left;refine sX (e4.at BW) (by simp) (by first|(simp;done)|(refine Z6 ?_;repeat (first|(rw[uK];omega)|(simp;done)|refine Z5 ?_))) ?_;have ll:l≠b:=λz=>by have:=l9 BW;omega
 generalize ho:O.ins "Bounds" (q9 "later_by_place" (.ref l) (q9 "worn_by_place" (.ref w) (f3 cs.length v)))=o5;have BV:=get_set (o':=o5) (e4.at BW);have Pf:=d4 (o':=o5) (e4.at Ph) lw.symm;have yG:=d4 (o':=o5) hl ll.symm;have HQ:=d4 (o':=o5) (e4.at yP) vz;have Qi:=d4 (o':=o5) (e4.at yL) yp;have k5:(∀i,i<g.length->i≠b->(g4.set b o5)[i]?=g[i]?)/\g.length<=(g4.set b o5).length:=⟨λi hi hn=>by rw[ax (cq hn),e4.old i ()];exact k3.1 i hi hn,by simp;have:=e4.len;omega⟩
 generalize g4.set b o5=g5 at *;subst ho;left;refine az2 (k:=k) hT HQ hz hg λg6 dd e6 HJ hd=>?_;left;refine sX (e6.at BV) (by simp) (by first|(simp;done)|(refine Z6 ?_;repeat (first|(rw[uK];omega)|(simp;done)|refine Z5 ?_))) ?_;have ld:dd≠b:=λz=>by have:=l9 BV;omega
 generalize ho:O.ins "Bounds" (q9 "lower_dies" (.ref dd) (q9 "later_by_place" (.ref l) (q9 "worn_by_place" (.ref w) (f3 cs.length v))))=o7;have BU:=get_set (o':=o7) (e6.at BV);have Pe:=d4 (o':=o7) (e6.at Pf) lw.symm;have yF:=d4 (o':=o7) (e6.at yG) ll.symm;have Qe:=d4 (o':=o7) hd ld.symm;have Qo:=d4 (o':=o7) (e6.at HQ) vz;have Qh:=d4 (o':=o7) (e6.at Qi) yp;have k7:(∀i,i<g.length->i≠b->(g6.set b o7)[i]?=g[i]?)/\g.length<=(g6.set b o7).length:=⟨λi hi hn=>by rw[ax (cq hn),e6.old i ()];exact k5.1 i hi hn,by simp;have:=e6.len;omega⟩
 generalize g6.set b o7=g7 at *;subst ho;left;refine a19 (k:=k+4) hT Qo hz Qh hr λg8 nb e8 yE hn=>?_;left;refine sX (e8.at BU) (by simp) (by first|(simp;done)|(refine Z6 ?_;repeat (first|(rw[uK];omega)|(simp;done)|refine Z5 ?_))) ?_;have lb7:=l9 BU;have ln:nb≠b:=λz=>by omega
 generalize ho:O.ins "Bounds" (q9 "needed_by_place" (.ref nb) (q9 "lower_dies" (.ref dd) (q9 "later_by_place" (.ref l) (q9 "worn_by_place" (.ref w) (f3 cs.length v)))))=o9;refine h _ (by simp;have:=e8.len;omega) (λi hi hn=>by rw[ax (cq hn),e8.old i ()];exact k7.1 i hi hn) ⟨⟨w,l,dd,nb,?_,d4 (e8.at Pe) lw.symm,d4 (e8.at yF) ll.symm,d4 (e8.at Qe) ld.symm,?_⟩⟩
 ·rw[get_set (e8.at BU),<- ho]
  rfl
 ·obtain⟨as,q1,q2,q3,q4,q5⟩:=hn.ex;exact⟨⟨as,d4 q1 ln.symm,q2,q3,λx hx=>⟨by omega,(q4 x hx).2⟩,λi x hx=>let ⟨ms,m1,m2⟩:=q5 i x hx;⟨ms,d4 m1 (λz=>by have:=(q4 x (aF hx)).1;omega),m2⟩⟩⟩
end
section
variable{T:Nat->Option bf}
theorem au4(hT:jH T)(B:Bd g b cs v rs)(hz:cs.length<=9){s:Nat}(hs:s<2 ^ cs.length)(hp:p<cs.length)(h:∀g',Ex g g'->Q (.int (E3 cs s.testBit p:Nat)) g'):c5 T (k+2) 100 [.ref b,.int (s:Nat),.int (p:Nat)] g Q E:=by
 refine call_of hT.Ct rfl ?_;dsimp[El,d0,List.replicate];obtain⟨w,l,dd,nb,h1,h2,h3,h4,h5⟩:=B.ex;left;refine B3 (k:=k) hT.pD () ?_;left;refine V5 h1 rfl ?_;left;have e1:((2 ^ cs.length-1:Nat):Int)-(s:Nat)=((2 ^ cs.length-1-s:Nat):Int):=by omega
 rw[e1];have BI:(u4 (cs.map b7.lo)).length<=9:=aC (Q9 _) (by simpa using hz);have Qc:(Z0 cs).length=(u4 (cs.map b7.lo)).length:=by simp[Z0]
 refine B1 (b0 T _) (λU=>∃z2 z3,U=[some (.int ((2 ^ cs.length-1-s:Nat):Int)),some (.int ((s |||2 ^ p:Nat):Int)),z2,z3]) (λi=>pW cs s.testBit p ((u4 (cs.map b7.lo)).getD i 0)) (λi=>(Z0 cs).getD i .bD) (l:=Z0 cs) (k:=.lst dd) (λg' e=>p8 (a9 (e.at h4))) () ⟨none,none,rfl⟩ (λi x U g' hx e sh=>?_) (λg' e=>?_) (M4 (b0 T _) (a9 h4) λQ q=>?_)
 ·obtain⟨z2,z3,rfl⟩:=sh;have yy:=hx;rw[Z0,ai,aa] at yy;obtain⟨oh,hd,rfl⟩:=yy;have eg:(u4 (cs.map b7.lo)).getD i 0=oh:=by simp[List.getD,hd]
  refine i7 ?_;left;refine xc ?_;left;have b1:=MD (n:=cs.length) (q:=meant cs .lower oh) (s:=s |||2 ^ p) (S:=λi=>s.testBit i||decide (i=p)) (λi _=>O9 s p i);have b2:=MD (n:=cs.length) (q:=meant cs .lower oh) (s:=2 ^ cs.length-1-s) (S:=λi=>!s.testBit i) (λi hi=>Wd hs hi);rw[b1,eg];have hu:pW cs s.testBit p oh=(((List.range cs.length).any λi=>(s.testBit i||decide (i=p))&&meant cs .lower oh i)&&(List.range cs.length).any λi=>!s.testBit i&&meant cs .lower oh i):=rfl;rw[hu];cases (List.range cs.length).any λi=>(s.testBit i||decide (i=p))&&meant cs .lower oh i with
  |false =>
   refine fX rfl ?_;exact⟨rfl,e,fX rfl ⟨_,_,rfl⟩⟩
  |true =>
   refine ig rfl ?_;left;refine xc ?_;left;rw[b2,qT];refine⟨rfl,e,?_⟩;cases (List.range cs.length).any λi=>!s.testBit i&&meant cs .lower oh i with
   |false=>exact fX rfl ⟨_,_,rfl⟩
   |true =>
    refine ig rfl ?_;left;refine⟨?_,e,_,_,rfl⟩;simp[List.getD,hx]
 ·refine J5 (a9 b9) ?_;have:(((List.range (Z0 cs).length).filter λi=>pW cs s.testBit p ((u4 (cs.map b7.lo)).getD i 0)).map λi=>(Z0 cs).getD i .bD).length=E3 cs s.testBit p:=by
   rw[ak,Qc,aV3 (u4 (cs.map b7.lo)) 0 (pW cs s.testBit p)]
   rfl
  rw[this];exact h _ (e.trans (Ex.snoc _ _))
 ·left;exact V5 h1 rfl q
theorem LC{q:b7->b7->Bool}(hp:p<cs.length):gG (tG cs q) (p:Int)=some (.int ((jb cs.length λj=>q (bT cs j) (bT cs p):Nat):Int)):=C7 (by rw[tG,ai,cI hp];rfl)
theorem MF{s:Nat}{q:Nat->Bool}:((Builtin.bitAnd (s:Nat) ((jb n q:Nat):Int)) != 0)=(List.range n).any λi=>s.testBit i&&q i:=by rw[Dq,zy]
theorem az1(hT:jH T)(B:Bd g b cs v rs)(hz:cs.length<=9)(hr:rs.length<=900){s:Nat}(hs:s<2 ^ cs.length)(hp:p<cs.length)(h:∀g',Ex g g'->Q (yX (fault cs v rs s.testBit p)) g'):c5 T (k+3) 101 [.ref b,.int (s:Nat),.int (p:Nat)] g Q E:=by
 refine call_of hT.Cs rfl ?_;dsimp[En,d0,List.replicate];obtain⟨w,l,dd,nb,h1,h2,h3,h4,h5⟩:=B.ex;left;refine V5 h1 rfl ?_;left;refine u3 (a9 h2) (LC hp) ?_;refine xc ?_;left;rw[MF];cases c1:(List.range cs.length).any λi=>s.testBit i&&mw (bT cs i) (bT cs p) with
 |true =>
  refine ig rfl ?_;have:fault cs v rs s.testBit p="wear":=by unfold fault F1;rw[aG c1]
  rw[this] at h;exact h _ (Ex.refl _)
 |false =>
 refine fX rfl ?_;left;refine V5 h1 rfl ?_;left;refine u3 (a9 h3) (LC hp) ?_;refine xc ?_;left;rw[MF];cases c2:(List.range cs.length).any λi=>s.testBit i&&kU (bT cs i) (bT cs p) with
 |true =>
  refine ig rfl ?_;have:fault cs v rs s.testBit p="year":=by unfold fault F1 E5;rw[aD (by rw[c1];decide),aG c2]
  rw[this] at h;exact h _ (Ex.refl _)
 |false =>
 refine fX rfl ?_;left;refine au4 (k:=k) hT B hz hs hp λg2 e2=>?_;left;refine V5 (e2.at h1) rfl ?_;left;refine if2 (λc3=>?_) (λc3=>?_)
 ·have:fault cs v rs s.testBit p="anvil":=by unfold fault F1 E5;rw[aD (by rw[c1];decide),aD (by rw[c2];decide),aG c3]
  rw[this] at h;exact h _ e2
 left;obtain⟨as,q1,q2,q3,q4,q5⟩:=h5.ex;have Pp:p<as.length:=by omega
 have BX:=ag Pp;generalize as[p]=ap at BX;obtain⟨ms,m1,m2,m3⟩:=q5 p ap BX;refine comp_map (b0 T _) (λU=>∃z1 z2,U=[some (.int (s:Nat)),z1,z2]) (λi=>.int ((s &&& ms.getD i 0:Nat):Int)) (l:=b8 ms) (k:=.lst ap) (λg' e=>p8 (a9 ((e2.trans e).at m1))) (by simp[b8];omega) ⟨none,none,rfl⟩ (λi x U g' hx e sh=>?_) (λg' e=>?_) (M4 (b0 T _) (a9 (e2.at m1)) λQ q=>?_)
 ·obtain⟨z1,z2,rfl⟩:=sh;rw[b8,ai,aa] at hx;obtain⟨m,hm,rfl⟩:=hx;refine i7 ?_;left;refine xc ?_;refine⟨?_,e,_,_,rfl⟩;rw[Dq];simp[List.getD,hm]
 ·refine XX (ns:=(List.range (b8 ms).length).map λi=>((s &&& ms.getD i 0:Nat):Int)) (a9 (by rw[bt];exact b9)) ?_;have en:(((List.range (b8 ms).length).map λi=>((s &&& ms.getD i 0:Nat):Int)).all λn=>n != 0)=N9 cs rs s.testBit p:=by
   rw[aY,cR];unfold N9;rw[cR];constructor
   ·intro hA r hr;cases BE:meant cs r.w r.y p with
    |false=>rfl
    |true =>
     have hm:=(m3 (jb cs.length (meant cs r.w r.x))).mpr ⟨r,hr,BE,rfl⟩;obtain⟨i,hi⟩:=gb.mp hm;have Hv:=(av.mp hi).1;have:=hA ((s &&& jb cs.length (meant cs r.w r.x):Nat):Int) (aN.mpr ⟨i,aS.mpr (by simpa[b8] using Hv),by simp[List.getD,hi]⟩);rw[zy] at this;exact this
   ·intro hA x hx;obtain⟨i,hi,rfl⟩:=aN.mp hx;have hi:i<ms.length:=by simpa[b8] using hi
    have hm:ms.getD i 0∈ms:=by simp[List.getD,hi]
    obtain⟨r,hr,BE,em⟩:=(m3 _).mp hm;have:=hA r hr;rw[BE,Bool.not_true,qU] at this;rw[em,zy];exact this
  rw[en];left;cases c4:N9 cs rs s.testBit p with
  |true =>
   have:fault cs v rs s.testBit p="":=by unfold fault F1 E5;rw[aD (by rw[c1];decide),aD (by rw[c2];decide),aD c3,aG c4]
   rw[this] at h;exact h _ (e2.trans (e.trans (Ex.snoc _ _)))
  |false =>
   have:fault cs v rs s.testBit p="rule":=by unfold fault F1 E5;rw[aD (by rw[c1];decide),aD (by rw[c2];decide),aD c3,aD (by rw[c4];decide)]
   rw[this] at h;exact h _ (e2.trans (e.trans (Ex.snoc _ _)))
 ·left;refine V5 (e2.at h1) rfl ?_;left;exact u3 (a9 (e2.at q1)) (C7 (by rw[ai,BX];rfl)) q
end
def uE:bf:=⟨2,5,(.seq (.set 2 (cN (.prim .lst (mX (iF "coin") (iF "coin") (iF "lower") (iF "upper"))) (.call 4 (dX aL (bh 4))))) (.seq (.set 3 (dg .jY (dg .len bp))) (.seq (.ifs (dW .Eq bu (iF "lower")) (.seq (.set 3 (dg .sset (.comp [] 2 (.one 1) (.fk bp) .no (cN bp (bh 0))))) .pass) .pass) (.seq (.ifs (dW .Eq bu (iF "upper")) (.seq (.set 3 (dg .sset (.comp [] 2 (.one 1) (.fk bp) .no (cN bp (bh 2))))) .pass) .pass) (.seq (.ifs (dW .Lt (dg .len bB) (bh 2)) (.seq (.ret (.lit .bD)) .pass) .pass) (.seq (.set 4 (.call 4 (dX aL (dg .len bB)))) (.seq (.ret (.prim .tup (jv bu (cN bB cT) (cN bB (bP (.bin .Mod) (bP (.bin .Add) (bP (.bin .Add) cT (bh 1)) (.call 4 (dX aL (bP (.bin .Sub) (dg .len bB) (bh 1))))) (dg .len bB)))))) .pass)))))))⟩
def Fm:bf:=⟨2,5,(.seq (.set 2 (.prim .lst .nil)) (.seq (.du (.one 3) (.eL (cN (.prim .lst (Ie (bh 0) (bh 0) (bh 1) (bh 1) (bh 2) (bh 4))) (.call 4 (dX aL (bh 6))))) (.seq (.set 4 (.call 105 (dX aL bp))) (.seq (.ifs (dW .IsNot cT (.lit .bD)) (.seq (.expr (.eW .append bu (fy cT))) .pass) .pass) .pass))) (.seq (.ret bu) .pass)))⟩
def Eb:bf:=⟨4,8,(.seq (.mD (.many [4,5,6]) bB) (.seq (.ifs (dW .Eq cT (iF "coin")) (.seq (.ret (.jm (bP (.cmp .NotEq) bu fb) (bP (.cmp .In) eE bp))) .pass) .pass) (.seq (.set 7 (.ite (dW .Eq cT (iF "lower")) (bh 0) (bh 2))) (.seq (.ret (.jm (bP (.cmp .NotEq) (cN (cN aL bu) gI) fb) (bP (.cmp .In) eE (.comp [7,0] 4 (.one 3) (.fk bp) .no (cN (cN bp bB) aL))))) .pass))))⟩
def xq:bf:=⟨5,10,(.seq (.set 5 (cN aL cT)) (.seq (.du (.one 6) (.fk bB) (.seq (.du (.one 7) (.fk (bP .lst (bh 0) (bh 2))) (.seq (.ifs (.dM (dW .Eq (cN (cN aL fb) gI) (cN eE gI)) (.eK (.fV (.call 17 (dX (cN (cN aL fb) (bP (.bin .Add) gI (bh 1))) (cN eE (bP (.bin .Add) gI (bh 1)))))))) (.seq (.ret (iF "wear")) .pass) .pass) .pass)) .pass)) (.seq (.ifs (.dM (dW .Gt (cN eE (bh 4)) (bh 0)) (dW .Gt (dg .max (bP (.bin .Add) (dg .lst (bh 0)) (.comp [0] 3 (.one 2) (.fk bB) .no (cN (cN aL bu) (bh 4))))) (cN eE (bh 4)))) (.seq (.ret (iF "year")) .pass) .pass) (.seq (.set 8 (bP (.bin .Add) (.comp [0] 3 (.one 2) (.fk bB) .no (cN (cN aL bu) (bh 0))) (dg .lst (cN eE (bh 0))))) (.seq (.set 9 (.comp [3,0] 4 (.one 3) (.eL (dg .len aL)) (dW .NotIn bB aL) (cN (cN bp bB) (bh 0)))) (.seq (.ifs (dW .Gt (dg .V3 (.comp [9] 3 (.one 2) (.fk jz) (dW .In bu aL) bu)) bp) (.seq (.ret (iF "anvil")) .pass) .pass) (.seq (.ifs (.eK (.fV (dg .all (.comp [3,0,4] 5 (.one 4) (.fk bu) .no (.call 107 (mX bp aL bu cT)))))) (.seq (.ret (iF "rule")) .pass) .pass) (.seq (.ret (iF "")) .pass))))))))⟩
def zp:bf:=⟨2,4,(.seq (.mD (.many [2,3]) (.call 26 (dX aL bp))) (.seq (.ret (.prim .tup (jv bu bB (.call 106 (dX aL bu))))) .pass))⟩
structure TBR(T:Nat->Option bf):Prop where
 lf:LF T
 Cr:T 105=some uE
 Cq:T 106=some Fm
structure pY(T:Nat->Option bf):Prop extends TBR T where
 Cc:T 17=some zM
 Cp:T 107=some Eb
 Co:T 108=some xq
 se:T 110=some zp
instance{T:Nat->Option bf}:CoeOut (pY T) (TBR T):=⟨pY.toTBR⟩
theorem NA{x:Int}(hi:i<cs.length)(h:meant cs w x i=true):(jX cs w x).isEmpty=false:=by
 cases e:jX cs w x with
 |nil =>
  have:i∈jX cs w x:=bL.mpr ⟨aS.mpr hi,h⟩
  simp_all
 |cons _ _=>rfl
section
variable{T:Nat->Option bf}{d:Nat}
theorem Kb{ns:List Int}{x:Int}:x∈u4 ns↔x∈ns:=by
 rw[(K5 ns).mem_iff,ST.T2];simp
theorem MP(ns:List Int):(u4 ns).Nodup:=(K5 ns).nodup_iff.mpr (ST.Ed _ _ (by simp))
theorem Ki(hT:TBR T)(D0:j8 g d){L:List Int}{sL:Nat}(hN:N.rt=Q)(hL:g[sL]?=some (.lst (L.map .int)))(hd:sL≠d)(nd:L.Nodup)(hl:L.length<=9)(hm:∀x∈L,(jX cs w x).isEmpty=false)(h:∀g',j8 g' d->Gr d g g'->Q .bD g'/\∀r,B9 cs r=true->Q r.d g'):wpS (c5 T (k+1)) (match uE.body with|.seq _ (.seq _ (.seq _ (.seq _ b)))=>b|x=>x) N [some (.ref d),some (.ref a),some (.str w.s),some (.ref sL),none] g E:=by
 subst hN;dsimp[uE];left;refine if2 (λh2=>?_) (λh2=>?_)
 ·exact(h g D0 (Gr.refl _ _)).1
 rw[ak] at h2;left;refine i9 (k:=k) hT.lf.pull D0 (by rw[ak];omega) (by rw[ak];omega) λr1 g1 h0 h1 D1 G1=>?_;rw[ak] at h1;left;obtain⟨j,rfl⟩:∃j:Nat,r1=j:=⟨r1.toNat,by omega⟩
 have hj:j<L.length:=by omega
 have gj:gG (L.map D.int) (j:Int)=some (.int L[j]):=C7 (by rw[ai,ag hj];rfl);refine u3 (a9 (G1.at hd hL)) gj ?_;left;refine J5 (a9 (G1.at hd hL)) ?_;left;refine i9 (k:=k) hT.lf.pull D1 (by grind) (by grind) λr2 g2 k0 k1 D2 G2=>?_;rw[ak] at k1;left;have rR:=(G1.trans G2).at hd hL;refine J5 (a9 rR) ?_;refine U4 (by rw[ak];omega) ?_;obtain⟨j2,rfl⟩:∃j:Nat,r2=j:=⟨r2.toNat,by omega⟩
 have em:((j:Int)+1+(j2:Nat)) % ((L.map D.int).length:Nat)=(((j+1+j2) % L.length:Nat):Int):=by simp
 rw[em];have rJ:(j+1+j2) % L.length<L.length:=NU _ ();have fR:(j+1+j2) % L.length≠j:=by
  by_cases hc:j+1+j2<L.length
  ·rw[Nat.mod_eq_of_lt hc];omega
  ·rw[Nat.mod_eq_sub_mod (),Nat.mod_eq_of_lt ()];omega
 generalize (j+1+j2) % L.length=j3 at *;have QY:gG (L.map D.int) (j3:Int)=some (.int L[j3]):=C7 (by rw[ai,ag rJ];rfl);refine u3 (a9 rR) QY ?_;left;refine(h g2 D2 (G1.trans G2)).2 ⟨w,L[j],L[j3]⟩ ?_;unfold B9;rw[hm _ (cC hj),hm _ (cC rJ),aI (λz=>fR ((mz nd).mp z).symm)]
 rfl
theorem UX(hT:TBR T)(ha:g[a]?=some (.lst (cs.map b7.d)))(hz:cs.length<=9)(hd:d<a)(D0:j8 g d)(h:∀g',j8 g' d->Gr d g g'->Q .bD g'/\∀r,B9 cs r=true->Q r.d g'):c5 T (k+2) 105 [.ref d,.ref a] g Q E:=by
 refine call_of hT.Cr rfl ?_;dsimp[uE,d0,List.replicate];left;refine i9 (k:=k) hT.lf.pull (D0.snoc _) ∅ ∅ λr0 g1 h0 h1 D1 G1=>?_;have FW:=(Gr.snoc d g _).trans G1;have oG:=FW.at (cu hd) ha;have l1:=FW.len;have dl:=D0.lt;have hw:∃w:RW,gG [D.str "coin",D.str "coin",D.str "lower",D.str "upper"] r0=some (.str w.s):=by
  obtain⟨j,rfl⟩:∃j:Nat,r0=j:=⟨r0.toNat,by omega⟩
  have:j=0\/j=1\/j=2\/j=3:=by omega
  rcases this with rfl|rfl|rfl|rfl
  ·exact⟨.gk,rfl⟩
  ·exact⟨.gk,rfl⟩
  ·exact⟨.lower,rfl⟩
  ·exact⟨.upper,rfl⟩
 obtain⟨w,hw⟩:=hw;refine u3 (a9 (G1.at (cu dl) b9)) hw ?_;left;refine GW () (by simp;omega) ?_;left;have e2:=Ex.snoc g1 (O.lst (j6 0 (Int.toNat ((cs.map b7.d).length:Nat))));have qt:=b9 (g:=g1) (o:=O.lst (j6 0 (Int.toNat ((cs.map b7.d).length:Nat))));generalize g1++[O.lst (j6 0 (Int.toNat ((cs.map b7.d).length:Nat)))]=g2 at *;have yQ:=e2.at oG;have D2:=e2.draw D1;have G2:=FW.trans (e2.gr d);have fld:∀(f:Int) (w:RW) (N:Ends),(f=0\/f=2)->(∀i c,cs[i]?=some c->∀x,meant cs w x i=decide (B8 f c=x))->N.rt=Q->bq (c5 T (k+1)) (.prim .sset (.cons (.comp [] 2 (.one 1) (.fk (.var 1)) .no (.prim .ix (.cons (.var 1) (.cons (.lit (.int f)) .nil)))) .nil)) [some (.ref d),some (.ref a),some (.str w.s),some (.ref g1.length),none] g2 (λx g3=>wpS (c5 T (k+1)) (match uE.body with|.seq _ (.seq _ (.seq _ (.seq _ b)))=>b|x=>x) N [some (.ref d),some (.ref a),some (.str w.s),some x,none] g3 E) E:=λf w N hf hm hN=>by
  left;refine comp_map (b0 T _) (λU=>∃z0 z1,U=[z0,z1]) (λi=>.int (B8 f (bT cs i))) (l:=cs.map b7.d) (k:=.lst a) (λg' e=>p8 (a9 (e.at yQ))) (by simp;omega) ⟨none,none,rfl⟩ (λi x U g' hx e sh=>?_) (λg' e=>?_) (M4 (b0 T _) (a9 yQ) λQ q=>w_var (d:=.ref a) rfl q)
  ·obtain⟨z0,z1,rfl⟩:=sh;rw[ai,aa] at hx;obtain⟨c,hc,rfl⟩:=hx;refine i7 ?_;left;refine A2 (O4 hf c) ?_;exact⟨by rw[E0 hc],e,_,_,rfl⟩
  ·refine Nz (ns:=(List.range cs.length).map λi=>B8 f (bT cs i)) (a9 (by rw[bt];rw[b9,ak];rfl)) (by simp;omega) ?_;have e3:=(e.trans (Ex.snoc g' (O.lst ((List.range (cs.map b7.d).length).map λi=>D.int (B8 f (bT cs i)))))).trans (Ex.snoc _ (O.lst ((u4 ((List.range cs.length).map λi=>B8 f (bT cs i))).map .int)));have BI:(u4 ((List.range cs.length).map λi=>B8 f (bT cs i))).length<=9:=aC (Q9 _) (by simpa using hz);refine Ki (k:=k) hT (e3.draw D2) hN b9 (by have:=D2.lt;have:=e.len;simp;omega) (MP _) BI (λx hx=>?_) λg4 D4 G4=>h g4 D4 (G2.trans ((e3.gr d).trans G4));rw[Kb] at hx;obtain⟨i,hi,rfl⟩:=aN.mp hx;have hi:=aS.mp hi;have hc:=ag hi;refine NA hi ?_;rw[hm i _ hc,E0 hc];exact ay rfl
 cases w with
 |gk =>
  refine fX (by decide +kernel) ?_;left;refine fX (by decide +kernel) ?_;have er:j6 0 (Int.toNat ((cs.map b7.d).length:Nat))=((List.range cs.length).map λ(i:Nat)=>(i:Int)).map D.int:=by
   simp[j6]
  refine Ki (k:=k) hT (w:=.gk) (L:=(List.range cs.length).map λ(i:Nat)=>(i:Int)) D2 rfl (by rw[<- er];exact qt) () ?_ (by simpa using hz) (λx hx=>?_) λg4 D4 G4=>h g4 D4 (G2.trans G4)
  ·exact fK.mpr (my.imp λh e=>h ())
  ·obtain⟨i,hi,rfl⟩:=aN.mp hx;exact NA (aS.mp hi) (ay rfl)
 |lower =>
  refine ig (by decide +kernel) ?_;refine U8 ?_;refine zf ?_;refine c9 (b0 T _) _ _ _ _ _ _ _ (λx g3 q=>?_) (λ_ _ z=>z) (fld 0 .lower ⟨λ_ g'=>Q .bD g',Q,λ_ _=>False,λ_ _=>False⟩ (.inl rfl) (λi c hc x=>by simp only[meant,E0 hc];rfl) rfl);refine xj ?_;left;refine fX (by decide +kernel) ?_;exact q
 |upper =>
  refine fX (by decide +kernel) ?_;left;refine ig (by decide +kernel) ?_;refine U8 ?_;refine zf ?_;exact fld 2 .upper _ (.inr rfl) (λi c hc x=>by simp only[meant,E0 hc];rfl) rfl
end
section
variable{T:Nat->Option bf}{d:Nat}
theorem a84(hT:TBR T)(ha:g[a]?=some (.lst (cs.map b7.d)))(hz:cs.length<=9)(hd:d<a)(D0:j8 g d)(h:∀(rs:List eU) b g',rs.length<=4->rs.all (B9 cs)=true->g'[b]?=some (.lst (v8 rs))->g.length<=b->j8 g' d->Gr d g g'->Q (.ref b) g'):c5 T (k+3) 106 [.ref d,.ref a] g Q E:=by
 refine call_of hT.Cq rfl ?_;dsimp[Fm,d0,List.replicate];left;have dl:=D0.lt;have e1:=Ex.snoc g (O.lst []);have HF:=b9 (g:=g) (o:=O.lst []);have D1:=D0.snoc (O.lst []);generalize g++[O.lst []]=g1 at *;refine x5 (b0 T _) (S1 (b0 T _) ?_);left;refine i9 (k:=k+1) hT.lf.pull (D1.snoc _) ∅ ∅ λr0 g2 h0 h1 D2 G2=>?_;have l1:=l9 HF;have hw:∃j:Nat,j<=4/\gG [D.int 0,D.int 0,D.int 1,D.int 1,D.int 2,D.int 4] r0=some (.int (j:Nat)):=by
  obtain⟨j,rfl⟩:∃j:Nat,r0=j:=⟨r0.toNat,by omega⟩
  have:j=0\/j=1\/j=2\/j=3\/j=4\/j=5:=by omega
  rcases this with rfl|rfl|rfl|rfl|rfl|rfl
  ·exact⟨0,by decide,rfl⟩
  ·exact⟨0,by decide,rfl⟩
  ·exact⟨1,by decide,rfl⟩
  ·exact⟨1,by decide,rfl⟩
  ·exact⟨2,by decide,rfl⟩
  ·exact⟨4,by decide,rfl⟩
 obtain⟨j,hj,hw⟩:=hw;refine u3 (a9 (G2.at () b9)) hw ?_;refine⟨j,rfl,by omega,by omega,_,λi U g'=>j8 g' d/\Gr d g g'/\(∃rs:List eU,rs.length<=i/\rs.all (B9 cs)=true/\g'[g.length]?=some (.lst (v8 rs)))/\∃z3 z4,U=[some (.ref d),some (.ref a),some (.ref g.length),z3,z4],λ_ _ _ _=>u9,⟨D2,(e1.gr d).trans ((Gr.snoc d g1 _).trans G2),⟨[],by simp,rfl,((Gr.snoc d g1 _).trans G2).at () HF⟩,none,none,rfl⟩,λi x U g' hx q=>?_,λU g' q=>?_⟩
 ·obtain⟨D3,G3,⟨rs,hl,hA,hF⟩,z3,z4,rfl⟩:=q;obtain⟨hi,rfl⟩:=x6 hx;have hi:i<j:=by simpa using hi
  refine i7 ?_
  try show wpS _ _ _ _ _ _
  left;have yP:=G3.at (cu hd) ha;refine UX (k:=k) hT yP hz hd D3 λg4 D4 G4=>⟨?_,λr hr=>?_⟩
  ·left;exact⟨D4,G3.trans G4,⟨rs,by omega,hA,G4.at () hF⟩,_,_,rfl⟩
  ·left;refine ig rfl ?_;have HX:=G4.at () hF;left;refine Q6 HX (by simp[v8];omega) ?_;refine⟨D4.M3 (),(G3.trans G4).M3 (aw _),⟨rs++[r],by simp;omega,by rw[List.all_append,hA];simp[hr],?_⟩,_,_,rfl⟩;rw[get_set HX];simp[v8]
 ·obtain⟨D3,G3,⟨rs,hl,hA,hF⟩,z3,z4,rfl⟩:=q;rw[j7] at hl;left;exact h rs _ _ (by simp at hl;omega) hA hF (aw _) D3 G3
theorem a86(hT:TBR T)(se:T 110=some zp){n:Int}(hn:0<=n/\n<=9)(D0:j8 g d)(h:∀(cs:List b7) (rs:List eU) a c (v:Int) g',(cs.length:Int)<=n->(∀c∈cs,ke c)->g'[a]?=some (.lst (cs.map b7.d))->g.length<=a->rs.length<=4->rs.all (B9 cs)=true->g'[c]?=some (.lst (v8 rs))->g.length<=c->a≠c->1<=v->v<=6->j8 g' d->Gr d g g'->Q (.tup [.ref a,.int v,.ref c]) g'):c5 T (k+5) 110 [.ref d,.int n] g Q E:=by
 refine call_of se rfl ?_;dsimp[zp,d0,List.replicate];left;refine aU4 (k:=k) hT.lf ⟨hn.1,by omega⟩ D0 λcs a v g1 hl hg ha yO v1 v2 D1 G1=>?_;refine C2 rfl ?_;left;have dl:=D0.lt;refine a84 (k:=k+1) hT ha () () D1 λrs c g2 hr hR hc kE D2 G2=>?_;left;exact h cs rs a c v g2 hl hg (G2.at () ha) yO hr hR hc (aC G1.len kE) (aM (aB (l9 ha) kE)) v1 v2 D2 (G1.trans G2)
theorem TB{x:Int}:((H.map λ(i:Nat)=>(i:Int)).any λm=>m==x)=H.any λi=>decide ((i:Int)=x):=by
 rw[lI]
 rfl
theorem zi(hH:∀i∈H,i<n)(q:Nat->Bool):((List.range n).any λi=>decide (i∈H)&&q i)=H.any q:=by
 rw[aY,aU,aU];constructor
 ·rintro⟨i,_,h⟩;rw[aZ,bQ] at h;exact⟨i,h.1,h.2⟩
 ·rintro⟨i,h1,h2⟩;exact⟨i,aS.mpr (hH i h1),by rw[ay h1,h2];rfl⟩
theorem N1(hi:i<cs.length):gG (cs.map b7.d) (i:Int)=some (bT cs i).d:=C7 (by rw[ai,ag hi,E0 (ag hi)];rfl)
theorem aE5(hT:pY T){r:eU}(ha:g[a]?=some (.lst (cs.map b7.d)))(hh:g[hl]?=some (.lst (b8 H)))(hH:∀i∈H,i<cs.length)(rS:H.length<=50)(hp:p<cs.length)(h:∀g',Ex g g'->Q (.bl (!meant cs r.w r.y p||(List.range cs.length).any λi=>decide (i∈H)&&meant cs r.w r.x i)) g'):c5 T (k+1) 107 [.ref a,.ref hl,.int (p:Nat),r.d] g Q E:=by
 refine call_of hT.Cp rfl ?_;dsimp[Eb,d0,List.replicate];simp only[zi hH] at h;left;refine C2 (l:=[.str r.w.s,.int r.x,.int r.y]) rfl ?_;left;have oh:∀(w:RW) (f:Int),(f=0\/f=2)->(∀i x,meant cs w x i=decide (B8 f (bT cs i)=x))->(∀g',Ex g g'->Q (.bl (!meant cs w r.y p||H.any λi=>meant cs w r.x i)) g')->bq (c5 T k) (.jm (.prim (.cmp .NotEq) (.cons (.prim .ix (.cons (.prim .ix (.cons (.var 0) (.cons (.var 2) .nil))) (.cons (.var 7) .nil))) (.cons (.var 6) .nil))) (.prim (.cmp .In) (.cons (.var 5) (.cons (.comp [7,0] 4 (.one 3) (.fk (.var 1)) .no (.prim .ix (.cons (.prim .ix (.cons (.var 1) (.cons (.var 3) .nil))) (.cons (.var 0) .nil)))) .nil)))) [some (.ref a),some (.ref hl),some (.int (p:Nat)),some r.d,some (.str w.s),some (.int r.x),some (.int r.y),some (.int f)] g Q E:=λw f hf hm h=>by
  left;refine u3 (a9 ha) (N1 hp) ?_;left;refine A2 (O4 hf _) ?_;left;rw[hm] at h;by_cases c1:B8 f (bT cs p)=r.y
  ·refine fX (by rw[ay c1];rfl) ?_;left;refine comp_map (b0 T _) (λU=>∃z2 z3,U=[some (.int f),some (.ref a),z2,z3]) (λi=>.int (B8 f (bT cs (H.getD i 0)))) (l:=b8 H) (k:=.lst hl) (λg' e=>p8 (a9 (e.at hh))) (by simp[b8];omega) ⟨none,none,rfl⟩ (λi x U g' hx e sh=>?_) (λg' e=>?_) (M4 (b0 T _) (a9 hh) λQ q=>w_var (d:=.ref hl) rfl q)
   ·obtain⟨z2,z3,rfl⟩:=sh;rw[b8,ai,aa] at hx;obtain⟨j,hj,rfl⟩:=hx;refine i7 ?_;left;refine u3 (a9 (e.at ha)) (N1 (hH j (aF hj))) ?_;left;refine A2 (O4 hf _) ?_;exact⟨by simp[List.getD,hj],e,_,_,rfl⟩
   ·refine sI (R8 (ms:=(List.range (b8 H).length).map λi=>B8 f (bT cs (H.getD i 0))) (a9 (by rw[bt];exact b9)) ?_);have e2:(((List.range (b8 H).length).map λi=>B8 f (bT cs (H.getD i 0))).any λm=>m==r.x)=(H.any λi=>meant cs w r.x i):=by
     rw[lI,aY,aU,aU];constructor
     ·rintro⟨i,hi,h1⟩;have hi:i<H.length:=by simpa[b8] using hi
      refine⟨H[i],cC hi,?_⟩;rw[hm];simpa[List.getD,hi] using h1
     ·rintro⟨j,hj,h1⟩;obtain⟨i,hi,rfl⟩:=bo.mp hj;refine⟨i,by simpa[b8] using hi,?_⟩;rw[hm] at h1;simpa[List.getD,hi] using h1
    rw[e2];simp only[decide_eq_true c1,Bool.not_true,Bool.false_or] at h;exact h _ (e.trans (Ex.snoc _ _))
  ·refine ig (by rw[aI c1];rfl) ?_;have:=h _ (Ex.refl _);rw[aI c1] at this;exact this
 obtain⟨w,x,y⟩:=r;cases w with
 |gk =>
  refine ig (show decide (RW.gk.s="coin")=true from by decide +kernel) ?_;left;by_cases c1:((p:Nat):Int)=y
  ·refine fX (by rw[ay c1];rfl) ?_;left;refine sI (R8 (ms:=H.map λ(i:Nat)=>(i:Int)) (by rw[<- P8];exact a9 hh) ?_);rw[TB];have:=h _ (Ex.refl _);rw[show meant cs .gk y p=true from ay c1] at this;exact this
  ·refine ig (by rw[aI c1];rfl) ?_;have:=h _ (Ex.refl _);rw[show meant cs .gk y p=false from aI c1] at this;exact this
 |lower =>
  refine fX (show decide (RW.lower.s="coin")=false from by decide +kernel) ?_;left;refine ig (show decide (RW.lower.s="lower")=true from by decide +kernel) ?_;refine w_lit (U8 (EV ?_));exact oh .lower 0 (.inl rfl) (λi x=>rfl) h
 |upper =>
  refine fX (show decide (RW.upper.s="coin")=false from by decide +kernel) ?_;left;refine fX (show decide (RW.upper.s="lower")=false from by decide +kernel) ?_;refine w_lit (U8 (EV ?_));exact oh .upper 2 (.inr rfl) (λi x=>rfl) h
end
theorem Kt:∀{ns:List Int},ns≠[]->∃M∈ns,∀x∈ns,x<=M
 |[],h=>absurd rfl h
 |[x],_=>⟨x,by simp,by simp⟩
 |x::y::r,_=>by
  obtain⟨M,h1,h2⟩:=Kt (ns:=y::r) (by simp);by_cases h:x<=M
  ·refine⟨M,bE _ h1,λz hz=>?_⟩;rcases aJ.mp hz with rfl|hz
   ·exact h
   ·exact h2 z hz
  ·refine⟨x,by simp,λz hz=>?_⟩;rcases aJ.mp hz with rfl|hz
   ·exact gw _
   ·have:=h2 z hz;omega
theorem a83{l m:List Int}(hl:l.Nodup)(hm:m.Nodup)(h:∀x,x∈l↔x∈m):l.length=m.length:=((List.perm_ext_iff_of_nodup hl hm).mpr h).length_eq
noncomputable abbrev iU(H:List Nat):Nat->Bool:=λi=>decide (i∈H)
def fTail(n:Nat):MS->MS
 |.seq a b=>match n with
  |0=>.seq a b
  |n+1=>fTail n b
 |x=>x
section
variable{T:Nat->Option bf}{d:Nat}
theorem Ku(hT:pY T)(hN:N.rt=Q){z6 z7:Option D}(ha:g[a]?=some (.lst (cs.map b7.d)))(hz:cs.length<=9)(hc:g[c]?=some (.lst (v8 rs)))(hr:rs.length<=900)(hh:g[hl]?=some (.lst (b8 H)))(hH:∀i∈H,i<cs.length)(rS:H.length<=50)(hp:p<cs.length)(w1:F1 cs (iU H) p=false)(w2:E5 cs (iU H) p=false)(h:∀g',Ex g g'->Q (.str (fault cs v rs (iU H) p)) g') :
  wpS (c5 T (k+1)) (fTail 3 xq.body) N [some (.ref a),some (.int v),some (.ref c),some (.ref hl),some (.int (p:Nat)),some (bT cs p).d,z6,z7,none,none] g E:=by
 subst hN;dsimp[xq,fTail];left;refine comp_map (b0 T _) (λU=>∃z1 z2,U=[some (.ref a),z1,z2]) (λi=>.int (bT cs (H.getD i 0)).lo) (l:=b8 H) (k:=.lst hl) (λg' e=>p8 (a9 (e.at hh))) (by simp[b8];omega) ⟨none,none,rfl⟩ (λi x U g' hx e sh=>?_) (λg1 e1=>?_) (M4 (b0 T _) (a9 hh) λQ q=>w_var (d:=.ref hl) rfl q)
 ·obtain⟨z1,z2,rfl⟩:=sh;rw[b8,ai,aa] at hx;obtain⟨j,hj,rfl⟩:=hx;refine i7 ?_;left;refine u3 (a9 (e.at ha)) (N1 (hH j (aF hj))) ?_;refine A2 (O4 (.inl rfl) _) ?_;exact⟨by simp[List.getD,hj,B8],e,_,_,rfl⟩
 have e2:=e1.trans (Ex.snoc g1 (O.lst ((List.range (b8 H).length).map λi=>D.int (bT cs (H.getD i 0)).lo)));have eh:(List.range (b8 H).length).map (λi=>D.int (bT cs (H.getD i 0)).lo)=(H.map λi=>(bT cs i).lo).map D.int:=by
  rw[bt];refine bN λi=>?_;rw[ai,ai];by_cases hi:i<H.length
  ·rw[cI (by simpa[b8] using hi),ag hi];simp[List.getD,hi]
  ·rw[aO (by simpa[b8] using hi),aO ()]
   rfl
 rw[eh] at e2 ⊢;have h2:=b9 (g:=g1) (o:=O.lst ((H.map λi=>(bT cs i).lo).map D.int));generalize g1++[O.lst ((H.map λi=>(bT cs i).lo).map D.int)]=g2 at *;left;refine A2 (O4 (.inl rfl) _) ?_;left;have e3:=Ex.snoc g2 (O.lst [D.int (B8 0 (bT cs p))]);refine Ey (e3.at h2) b9 (by simp;omega) ?_;have e4:=(e2.trans e3).trans (Ex.snoc _ (O.lst ((H.map λi=>(bT cs i).lo).map D.int++[D.int (B8 0 (bT cs p))])));have h4:=b9 (g:=g2++[O.lst [D.int (B8 0 (bT cs p))]]) (o:=O.lst ((H.map λi=>(bT cs i).lo).map D.int++[D.int (B8 0 (bT cs p))]));have Rv:(H.map λi=>(bT cs i).lo).map D.int++[D.int (B8 0 (bT cs p))]=((H.map λi=>(bT cs i).lo)++[(bT cs p).lo]).map D.int:=by simp[B8]
 rw[Rv] at e4 h4 ⊢;generalize BN:(H.map λi=>(bT cs i).lo)++[(bT cs p).lo]=fG at *;have lhr:fG.length<=51:=by rw[<- BN];simp;omega
 generalize g2++[O.lst [D.int (B8 0 (bT cs p))]]=g3 at *;generalize g3.length=ah at *;left;refine B1 (b0 T _) (λU=>∃z2 z3,U=[some (.ref hl),some (.ref a),z2,z3]) (λi=>!decide (i∈H)) (λi=>.int (bT cs i).lo) (l:=j6 0 cs.length) (λg' e=>u9) (by rw[j7];omega) ⟨none,none,rfl⟩ (λi d U g' hx e sh=>?_) (λg5 e5=>?_) (zW (b0 T _) (by omega:cs.length<=1000) λQ q=>?_)
 ·obtain⟨z2,z3,rfl⟩:=sh;obtain⟨hi,rfl⟩:=x6 hx;rw[dC];refine i7 ?_;left;refine X9 (zC ((e4.trans e).at hh) ?_);left;refine⟨rfl,e,?_⟩;by_cases wj:i∈H
  ·rw[ay wj];exact fX rfl ⟨_,_,rfl⟩
  ·rw[aI wj];refine ig rfl ?_;left;refine u3 (a9 ((e4.trans e).at ha)) (N1 hi) ?_;refine A2 (O4 (.inl rfl) _) ?_;exact⟨rfl,e,_,_,rfl⟩
 rotate_left
 ·left;refine J5 (a9 (e4.at ha)) ?_;rw[ak];exact q
 have e6:=e5.trans (Ex.snoc g5 (O.lst (((List.range (j6 0 cs.length).length).filter λi=>!decide (i∈H)).map λi=>D.int (bT cs i).lo)));have h6:=b9 (g:=g5) (o:=O.lst (((List.range (j6 0 cs.length).length).filter λi=>!decide (i∈H)).map λi=>D.int (bT cs i).lo));have el:(((List.range (j6 0 cs.length).length).filter λi=>!decide (i∈H)).map λi=>D.int (bT cs i).lo)=(((List.range cs.length).filter λi=>!decide (i∈H)).map λi=>(bT cs i).lo).map D.int:=by
  rw[j7,bt]
  rfl
 rw[el] at e6 h6 ⊢;generalize dY:(((List.range cs.length).filter λi=>!decide (i∈H)).map λi=>(bT cs i).lo)=lt' at *;generalize g5.length=al at *;left;refine B1 (b0 T _) (λU=>∃z1 z2,U=[some (.ref al),z1,z2]) (λi=>decide (fG.getD i 0∈lt')) (λi=>.int (fG.getD i 0)) (l:=fG.map D.int) (k:=.lst ah) (λg' e=>p8 (a9 ((e6.trans e).at h4))) (by simp;omega) ⟨none,none,rfl⟩ (λi d U g' hx e sh=>?_) (λg7 e7=>?_) (M4 (b0 T _) (a9 (e6.at h4)) λQ q=>w_var (d:=.ref ah) rfl q)
 ·obtain⟨z1,z2,rfl⟩:=sh;rw[ai,aa] at hx;obtain⟨x,hx,rfl⟩:=hx;have ex:fG.getD i 0=x:=by simp[List.getD,hx]
  refine i7 ?_;left;refine sI (R8 (a9 (e.at h6)) ?_);left;have ed:(lt'.any λm=>m==x)=decide (x∈lt'):=by
   rw[aY,aU,bQ];exact⟨λ⟨y,hy,e⟩=>(bx.mp e)▸hy,λhy=>⟨x,hy,by simp⟩⟩
  rw[ed,ex];refine⟨rfl,e,?_⟩;refine if2 (λ_=>?_) (λ_=>?_)
  ·left;exact⟨rfl,e,_,_,rfl⟩
  ·exact⟨_,_,rfl⟩
 have es:((List.range (fG.map D.int).length).filter λi=>decide (fG.getD i 0∈lt')).map (λi=>D.int (fG.getD i 0))=(((List.range fG.length).filter λi=>decide (fG.getD i 0∈lt')).map λi=>fG.getD i 0).map D.int:=by
  rw[bt,ak]
  rfl
 have e8:=e7.trans (Ex.snoc g7 (O.lst (((List.range (fG.map D.int).length).filter λi=>decide (fG.getD i 0∈lt')).map λi=>D.int (fG.getD i 0))));refine Nw (ns:=((List.range fG.length).filter λi=>decide (fG.getD i 0∈lt')).map λi=>fG.getD i 0) (a9 (by rw[es];exact b9)) (by rw[ak];exact cY K2 ()) ?_;have en:(ST.i0 [] (((List.range fG.length).filter λi=>decide (fG.getD i 0∈lt')).map λi=>fG.getD i 0)).length=E3 cs (iU H) p:=by
  refine a83 (ST.Ed _ _ (by simp)) ((MP _).filter _) λx=>?_;rw[ST.T2,bL,Kb];unfold pW;rw[aZ,aU,aU];simp only[List.not_mem_nil,false_or,List.mem_map,List.mem_filter,List.mem_range,Bool.and_eq_true,decide_eq_true_eq,Bool.or_eq_true,Bool.not_eq_true',decide_eq_false_iff_not];constructor
  ·rintro⟨i,⟨hi,hx⟩,rfl⟩;have hm:fG.getD i 0∈fG:=by simp[List.getD,hi]
   generalize fG.getD i 0=x at *;rw[<- dY] at hx;simp only[List.mem_map,List.mem_filter,List.mem_range,Bool.not_eq_true',decide_eq_false_iff_not] at hx;rw[<- BN] at hm;obtain⟨j,⟨rK,BK⟩,rJ⟩:=hx;have yw:∃q,q<cs.length/\(q∈H\/q=p)/\(bT cs q).lo=x:=by
    rcases aR.mp hm with hm|hm
    ·obtain⟨q,hq,e⟩:=aN.mp hm;exact⟨q,hH q hq,.inl hq,e⟩
    ·exact⟨p,hp,.inr rfl,(aQ.mp hm).symm⟩
   obtain⟨q,q1,q2,q3⟩:=yw;refine⟨⟨bT cs j,?_,rJ⟩,⟨q,q1,q2,q3⟩,j,rK,BK,rJ⟩;rw[E0 (ag rK)];exact cC rK
  ·rintro⟨_,⟨q,q1,q2,q3⟩,j,rK,BK,rJ⟩;have hm:x∈fG:=by
    rw[<- BN];rcases q2 with q2|q2
    ·exact bz _ (aN.mpr ⟨q,q2,q3⟩)
    ·subst q2;exact aW _ (by rw[q3];simp)
   obtain⟨i,hi,e⟩:=bo.mp hm;refine⟨i,⟨hi,?_⟩,by simp[List.getD,hi,e]⟩;rw[show fG.getD i 0=x by simp[List.getD,hi,e],<- dY];simp only[List.mem_map,List.mem_filter,List.mem_range,Bool.not_eq_true',decide_eq_false_iff_not];exact⟨j,⟨rK,BK⟩,rJ⟩
 rw[en];left;have ui:=(e4.trans e6).trans e8;refine if2 (λc3=>?_) (λc3=>?_)
 ·have:fault cs v rs (iU H) p="anvil":=by unfold fault;rw[aD (by rw[w1];decide),aD (by rw[w2];decide),aG c3]
  rw[this] at h;exact h _ ui
 left;refine comp_map (b0 T _) (λU=>∃z3 z4,U=[some (.ref hl),some (.ref a),some (.int (p:Nat)),z3,z4]) (λi=>.bl (!meant cs (rs.getD i ⟨.gk,0,0⟩).w (rs.getD i ⟨.gk,0,0⟩).y p||(List.range cs.length).any λj=>decide (j∈H)&&meant cs (rs.getD i ⟨.gk,0,0⟩).w (rs.getD i ⟨.gk,0,0⟩).x j)) (l:=v8 rs) (k:=.lst c) (λg' e=>p8 (a9 ((ui.trans e).at hc))) (by simp[v8];omega) ⟨none,none,rfl⟩ (λi x U g' hx e sh=>?_) (λg9 e9=>?_) (M4 (b0 T _) (a9 (ui.at hc)) λQ q=>w_var (d:=.ref c) rfl q)
 ·obtain⟨z3,z4,rfl⟩:=sh;rw[v8,ai,aa] at hx;obtain⟨r,qt,rfl⟩:=hx;refine i7 ?_;left;refine aE5 (k:=k) hT ((ui.trans e).at ha) ((ui.trans e).at hh) hH rS hp λsj lD=>?_;exact⟨by simp[List.getD,qt],e.trans lD,_,_,rfl⟩
 have eb:((List.range (v8 rs).length).map λi=>D.bl (!meant cs (rs.getD i ⟨.gk,0,0⟩).w (rs.getD i ⟨.gk,0,0⟩).y p||(List.range cs.length).any λj=>decide (j∈H)&&meant cs (rs.getD i ⟨.gk,0,0⟩).w (rs.getD i ⟨.gk,0,0⟩).x j))=(rs.map λr=>!meant cs r.w r.y p||(List.range cs.length).any λj=>decide (j∈H)&&meant cs r.w r.x j).map D.bl:=by
  rw[bt];refine bN λi=>?_;rw[ai,ai];by_cases hi:i<rs.length
  ·rw[cI (by simpa[v8] using hi),ag hi];simp[List.getD,hi]
  ·rw[aO (by simpa[v8] using hi),aO ()]
   rfl
 rw[eb];refine xf (a9 b9) (R9 _) ?_;have eN:(rs.map λr=>!meant cs r.w r.y p||(List.range cs.length).any λj=>decide (j∈H)&&meant cs r.w r.x j).all id=N9 cs rs (iU H) p:=by
  rw[List.all_map]
  rfl
 rw[eN];left;have lD:=ui.trans (e9.trans (Ex.snoc g9 (O.lst ((rs.map λr=>!meant cs r.w r.y p||(List.range cs.length).any λj=>decide (j∈H)&&meant cs r.w r.x j).map D.bl))));cases c4:N9 cs rs (iU H) p with
 |true =>
  have:fault cs v rs (iU H) p="":=by unfold fault;rw[aD (by rw[w1];decide),aD (by rw[w2];decide),aD c3,aG c4]
  rw[this] at h;exact h _ lD
 |false =>
  have:fault cs v rs (iU H) p="rule":=by unfold fault;rw[aD (by rw[w1];decide),aD (by rw[w2];decide),aD c3,aD (by rw[c4];decide)]
  rw[this] at h;exact h _ lD
end
section
variable{T:Nat->Option bf}{d:Nat}
theorem Ew(c:b7):gG [D.int c.lo,D.tup (c.lm.map .int),D.int c.up,D.tup (c.um.map .int),D.int c.yr] 4=some (.int c.yr):=rfl
theorem VA(hi:i∈H)(hH:∀i∈H,i<cs.length)(h:mw (bT cs i) (bT cs p)=true):fault cs v rs (iU H) p="wear":=by
 unfold fault;rw[aG];unfold F1;rw[zi hH,aU];exact⟨i,hi,h⟩
theorem JX(hT:pY T)(hB:∀c∈cs,CB c)(ha:g[a]?=some (.lst (cs.map b7.d)))(hz:cs.length<=9)(hc:g[c]?=some (.lst (v8 rs)))(hr:rs.length<=900)(hh:g[hl]?=some (.lst (b8 H)))(hH:∀i∈H,i<cs.length)(rS:H.length<=50)(hp:p<cs.length)(h:∀g',Ex g g'->Q (.str (fault cs v rs (iU H) p)) g'):c5 T (k+2) 108 [.ref a,.int v,.ref c,.ref hl,.int (p:Nat)] g Q E:=by
 refine call_of hT.Co rfl ?_;have QC:∀i,i<cs.length->CB (bT cs i):=λi hi=>by rw[E0 (ag hi)];exact hB _ (cC hi)
 dsimp[xq,d0,List.replicate];left;refine u3 (a9 ha) (N1 hp) ?_;refine x5 (b0 T _) (lr (b0 T _) ?_);left;refine⟨hl,_,rfl,a9 hh,b8 H,λt U g'=>Ex g g'/\(∀i∈H.take t,mw (bT cs i) (bT cs p)=false)/\∃z6 z7,U=[some (.ref a),some (.int v),some (.ref c),some (.ref hl),some (.int (p:Nat)),some (bT cs p).d,z6,z7,none,none],λi U g' q=>p8 (a9 (q.1.at hh)),⟨Ex.refl _,by simp,none,none,rfl⟩,λt x U g' hx q=>?_,λU g' q=>?_⟩
 ·obtain⟨e1,q,z6,z7,rfl⟩:=q;rw[b8,ai,aa] at hx;obtain⟨i,hi,rfl⟩:=hx;have wj:=aF hi;have lx:=hH i wj;refine i7 ?_;left;refine x5 (b0 T _) (lr (b0 T _) ?_);left;have e2:=e1.trans (Ex.snoc g' (O.lst [D.int 0,D.int 2]));have h2:=b9 (g:=g') (o:=O.lst [D.int 0,D.int 2]);generalize g'++[O.lst [D.int 0,D.int 2]]=g2 at *;refine⟨_,_,rfl,a9 h2,[D.int 0,D.int 2],λj U g3=>Ex g2 g3/\(1<=j->(decide ((bT cs i).lo=(bT cs p).lo)&&!jW (bT cs i).lm (bT cs p).lm)=false)/\(2<=j->(decide ((bT cs i).up=(bT cs p).up)&&!jW (bT cs i).um (bT cs p).um)=false)/\∃z7,U=[some (.ref a),some (.int v),some (.ref c),some (.ref hl),some (.int (p:Nat)),some (bT cs p).d,some (.int (i:Nat)),z7,none,none],λj U g3 q=>p8 (a9 (q.1.at h2)),⟨Ex.refl _,λz=>absurd z (),λz=>absurd z (),z7,rfl⟩,λj x U g3 hx q=>?_,λU g3 q=>?_⟩
  ·obtain⟨e3,q1,q2,z7,rfl⟩:=q;have hf:∃f:Int,(f=0\/f=2)/\x=.int f/\(f=0↔j=0)/\j<2:=by
    match j,hx with
    |0,hx=>cases hx;exact⟨0,.inl rfl,rfl,by simp,by omega⟩
    |1,hx=>cases hx;exact⟨2,.inr rfl,rfl,by simp,by omega⟩
    |j+2,hx=>simp at hx
   obtain⟨f,hf,rfl,HC,hj⟩:=hf;have pM:=e2.trans e3;refine i7 ?_;left;refine u3 (a9 (pM.at ha)) (N1 lx) ?_;left;refine A2 (O4 hf _) ?_;left;refine A2 (O4 hf _) ?_;left;have fin:∀g4,Ex g3 g4->(decide (B8 f (bT cs i)=B8 f (bT cs p))&&!jW (sP f (bT cs i)) (sP f (bT cs p)))=false->(Ex g2 g4/\(1<=j+1->(decide ((bT cs i).lo=(bT cs p).lo)&&!jW (bT cs i).lm (bT cs p).lm)=false)/\(2<=j+1->(decide ((bT cs i).up=(bT cs p).up)&&!jW (bT cs i).um (bT cs p).um)=false)/\∃z7,([some (.ref a),some (.int v),some (.ref c),some (.ref hl),some (.int (p:Nat)),some (bT cs p).d,some (.int (i:Nat)),some (.int f),none,none]:S)=[some (.ref a),some (.int v),some (.ref c),some (.ref hl),some (.int (p:Nat)),some (bT cs p).d,some (.int (i:Nat)),z7,none,none]):=λg4 e4 hw=>by
    refine⟨e3.trans e4,λ_=>?_,λz=>?_,_,rfl⟩
    ·by_cases h0:j=0
     ·rw[HC.mpr h0] at hw;exact hw
     ·exact q1 ()
    ·have:¬f=0:=λw=>by have:=HC.mp w;omega
     have f2:f=2:=hf.resolve_left this;rw[f2] at hw;exact hw
   refine if2 (λh1=>?_) (λh1=>?_)
   ·left;refine u3 (a9 (pM.at ha)) (N1 lx) ?_;left;refine A2 (Np hf _) ?_;left;refine A2 (Np hf _) ?_;left;refine aU2 (k:=k) hT.Cc ((QC i lx).ON f) λg4 e4=>?_;left;cases hw:jW (sP f (bT cs i)) (sP f (bT cs p)) with
    |false =>
     have:mw (bT cs i) (bT cs p)=true:=by
      unfold mw;rcases hf with rfl|rfl
      ·rw[ay (show(bT cs i).lo=(bT cs p).lo from h1),show jW (bT cs i).lm (bT cs p).lm=false from hw];rfl
      ·rw[ay (show(bT cs i).up=(bT cs p).up from h1),show jW (bT cs i).um (bT cs p).um=false from hw];simp
     rw[VA wj hH this] at h;exact h _ (pM.trans e4)
    |true =>
     exact fin g4 e4 (by rw[hw];simp)
   ·exact fin g3 (Ex.refl _) (by rw[aI h1];rfl)
  ·obtain⟨e3,q1,q2,z7,rfl⟩:=q;refine⟨e2.trans e3,λi' jo=>?_,_,_,rfl⟩;rw[bA,hi] at jo;rcases aR.mp jo with jo|jo
   ·exact q i' jo
   ·have:i'=i:=by simpa using jo
    subst this;unfold mw;rw[q1 ∅,q2 ∅]
    rfl
 ·obtain⟨e1,q,z6,z7,rfl⟩:=q;rw[b8,ak,cA] at q;have w1:F1 cs (iU H) p=false:=by
   unfold F1;rw[zi hH,List.any_eq_false];exact λi hi=>by rw[q i hi];decide
  refine xj ?_;left;refine A2 (Ew _) ?_;left;have vG:E5 cs (iU H) p=(decide (0<(bT cs p).yr)&&H.any λi=>decide ((bT cs p).yr<(bT cs i).yr)):=by
   unfold E5;rw[zi hH,aY,aU,aZ,aU];constructor
   ·rintro⟨i,h1,h2⟩;unfold kU at h2;rw[aZ] at h2;exact⟨h2.1,i,h1,h2.2⟩
   ·rintro⟨h1,i,h2,h3⟩;exact⟨i,h2,by unfold kU;rw[h1,h3];rfl⟩
  refine if2 (λc1=>?_) (λc1=>?_)
  ·left;have e2:=e1.trans (Ex.snoc g' (O.lst [D.int 0]));have h2:=b9 (g:=g') (o:=O.lst [D.int 0]);refine comp_map (b0 T _) (λU=>∃z1 z2,U=[some (.ref a),z1,z2]) (λi=>.int (bT cs (H.getD i 0)).yr) (l:=b8 H) (k:=.lst hl) (λg' e=>p8 (a9 ((e2.trans e).at hh))) (by simp[b8];omega) ⟨none,none,rfl⟩ (λi x U g' hx e sh=>?_) (λg3 e3=>?_) (M4 (b0 T _) (a9 (e2.at hh)) λQ q=>w_var (d:=.ref hl) rfl q)
   ·obtain⟨z1,z2,rfl⟩:=sh;rw[b8,ai,aa] at hx;obtain⟨j,hj,rfl⟩:=hx;refine i7 ?_;left;refine u3 (a9 ((e2.trans e).at ha)) (N1 (hH j (aF hj))) ?_;refine A2 (Ew _) ?_;exact⟨by simp[List.getD,hj],e,_,_,rfl⟩
   have ey:(List.range (b8 H).length).map (λi=>D.int (bT cs (H.getD i 0)).yr)=(H.map λi=>(bT cs i).yr).map D.int:=by
    rw[bt];refine bN λi=>?_;rw[ai,ai];by_cases hi:i<H.length
    ·rw[cI (by simpa[b8] using hi),ag hi];simp[List.getD,hi]
    ·rw[aO (by simpa[b8] using hi),aO ()]
     rfl
   rw[ey];have e4:=e3.trans (Ex.snoc g3 (O.lst ((H.map λi=>(bT cs i).yr).map D.int)));refine Ey (e4.at h2) b9 (by simp;omega) ?_;have e5:=e4.trans (Ex.snoc _ (O.lst ([D.int 0]++(H.map λi=>(bT cs i).yr).map D.int)));obtain⟨M,m1,m2⟩:=Kt (ns:=0::H.map λi=>(bT cs i).yr) (by simp);refine YR (ns:=0::H.map λi=>(bT cs i).yr) (a9 b9) m1 m2 ?_;left;refine A2 (Ew _) ?_;left;have em:decide ((bT cs p).yr<M)=E5 cs (iU H) p:=by
    rw[vG,ay c1,qT,aY,bQ,aU];constructor
    ·intro hM;rcases aJ.mp m1 with rfl|hm
     ·omega
     ·obtain⟨i,hi,rfl⟩:=aN.mp hm;exact⟨i,hi,ay hM⟩
    ·rintro⟨i,hi,h1⟩;have:=m2 _ (bE _ (aN.mpr ⟨i,hi,rfl⟩));have:=bj h1;omega
   rw[em];cases w2:E5 cs (iU H) p with
   |true =>
    have:fault cs v rs (iU H) p="year":=by unfold fault;rw[aD (by rw[w1];decide),aG w2]
    rw[this] at h;exact h _ (e2.trans e5)
   |false =>
    refine fX rfl ?_;refine N4 ?_;have zb:=e2.trans e5;exact Ku (k:=k) hT rfl (zb.at ha) hz (zb.at hc) hr (zb.at hh) hH rS hp w1 w2 λg6 e6=>h g6 (zb.trans e6)
  ·refine fX rfl ?_;refine N4 ?_;have w2:E5 cs (iU H) p=false:=by rw[vG,aI c1];rfl
   exact Ku (k:=k) hT rfl (e1.at ha) hz (e1.at hc) hr (e1.at hh) hH rS hp w1 w2 λg6 e6=>h g6 (e1.trans e6)
end
def zL:bf:=⟨3,3,(.seq (.ret (.dM (bP (.cmp .NotEq) (.call 91 (dX bp bu)) bp) (bP (.cmp .Is) (.call 101 (jv aL bp bu)) (.lit .bD)))) .pass)⟩
def Kx:bf:=⟨2,2,(.seq (.ret (.comp [0,1] 4 (.one 3) (.eL (dg (.fld "size") aL)) (.fV (.call 115 (jv aL bp bB))) bB)) .pass)⟩
def zr:bf:=⟨2,2,(.seq (.ret (.comp [0] 3 (.one 2) (.eL bp) (dW .Eq (bP (.bin .Mod) (bP (.bin .FloorDiv) aL (cN (.prim .lst (.cons (bh 1) (.cons (bh 2) (Cv (bh 4) (bh 8) (bh 16) (bh 32) (bh 64) (bh 128) (bh 256))))) bu)) (bh 2)) (bh 1)) bu)) .pass)⟩
def zo:bf:=⟨1,1,(.seq (.ret (cN (.prim .lst (.cons (bh 1) (.cons (bh 2) (.cons (bh 4) (Cv (bh 8) (bh 16) (bh 32) (bh 64) (bh 128) (bh 256) (bh 512)))))) aL)) .pass)⟩
def Y5:bf:=⟨4,7,(.seq (.set 4 (.call 146 (dX bB (dg .len aL)))) (.seq (.set 5 (.prim .lst .nil)) (.seq (.du (.one 6) (.eL (dg .len aL)) (.seq (.ifs (.dM (dW .NotIn fb cT) (dW .Eq (.call 108 (tD aL bp bu cT fb)) (iF ""))) (.seq (.expr (.eW .append eE (fy fb))) .pass) .pass) .pass)) (.seq (.ret eE) .pass))))⟩
def E7(cs:List b7)(v:Int)(rs:List eU)(s p:Nat):Bool:=!s.testBit p&&decide (fault cs v rs s.testBit p="")
def p6(cs:List b7)(v:Int)(rs:List eU)(s:Nat):List Nat:=(List.range cs.length).filter (E7 cs v rs s)
theorem VY(x:Str):Q8 (yX x)=decide (x=""):=by
 unfold yX;by_cases h:x=""
 ·rw[aG h,ay h];rfl
 ·rw[aD h,aI h];rfl
theorem Zb{s:Nat}:decide (((s |||2 ^ p:Nat):Int)=(s:Nat))=s.testBit p:=by
 rw[aY,bQ];constructor
 ·intro h;have h:s |||2 ^ p=s:=by omega
  have:=O9 s p p;rw[h] at this;rw[this];simp
 ·intro h;have:s |||2 ^ p=s:=AD λi=>by
   rw[O9];by_cases hi:i=p
   ·subst hi;rw[h];rfl
   ·rw[aI hi,Bool.or_false]
  rw[this]
structure TF(T:Nat->Option bf):Prop where
 rZ:T 115=some zL
 Cm:T 116=some Kx
section
variable{T:Nat->Option bf}{d:Nat}
theorem aV1(hT:jH T)(rZ:T 115=some zL)(B:Bd g b cs v rs)(hz:cs.length<=9)(hr:rs.length<=900){s:Nat}(hs:s<2 ^ cs.length)(hp:p<cs.length)(h:∀g',Ex g g'->Q (.bl (E7 cs v rs s p)) g'):c5 T (k+4) 115 [.ref b,.int (s:Nat),.int (p:Nat)] g Q E:=by
 refine call_of rZ rfl ?_;dsimp[zL,d0,List.replicate];left;refine B3 (k:=k+2) hT.pD () ?_;left;rw[Zb];cases hb:s.testBit p with
 |true =>
  refine fX rfl ?_;have:E7 cs v rs s p=false:=by unfold E7;rw[hb];rfl
  rw[this] at h;exact h _ (Ex.refl _)
 |false =>
  refine ig rfl ?_;left;refine az1 (k:=k) hT B hz hr hs hp λg1 e1=>?_;left;have:E7 cs v rs s p=Q8 (yX (fault cs v rs s.testBit p)):=by unfold E7;rw[hb,VY];rfl
  rw[this] at h;exact h _ e1
theorem V4(hT:jH T)(hF:TF T)(B:Bd g b cs v rs)(hz:cs.length<=9)(hr:rs.length<=900){s:Nat}(hs:s<2 ^ cs.length)(h:∀g' l,Ex g g'->g.length<=l->g'[l]?=some (.lst (b8 (p6 cs v rs s)))->Q (.ref l) g'):c5 T (k+5) 116 [.ref b,.int (s:Nat)] g Q E:=by
 refine call_of hF.Cm rfl ?_;obtain⟨w,l,dd,nb,h1,h2,h3,h4,h5⟩:=B.ex;refine B1 (b0 T _) (λU=>∃z2 z3,U=[some (.ref b),some (.int (s:Nat)),z2,z3]) (E7 cs v rs s) (λi=>.int (i:Nat)) (l:=j6 0 cs.length) (λg' e=>u9) (by rw[j7];omega) ⟨none,none,rfl⟩ (λi d U g' hx e sh=>?_) (λg' e=>?_) (zW (b0 T _) (by omega:cs.length<=1000) λQ q=>?_)
 ·obtain⟨z2,z3,rfl⟩:=sh;obtain⟨hi,rfl⟩:=x6 hx;rw[dC];refine i7 ?_;left;refine aV1 (k:=k) hT hF.rZ (B.at e) hz hr hs hi λg2 e2=>?_;left;refine⟨rfl,e.trans e2,?_⟩;cases E7 cs v rs s i with
  |true =>
   refine ig rfl ?_;left;exact⟨rfl,e.trans e2,_,_,rfl⟩
  |false=>exact fX rfl ⟨_,_,rfl⟩
 ·rw[j7];exact h _ _ (e.trans (Ex.snoc _ _)) e.len b9
 ·left;exact V5 h1 rfl q
def IE:List D:=[.int 1,.int 2,.int 4,.int 8,.int 16,.int 32,.int 64,.int 128,.int 256]
theorem Sl(hi:i<9):gG IE (i:Int)=some (.int ((2 ^ i:Nat):Int)):=by
 have:i=0\/i=1\/i=2\/i=3\/i=4\/i=5\/i=6\/i=7\/i=8:=by omega
 rcases this with rfl|rfl|rfl|rfl|rfl|rfl|rfl|rfl|rfl<;>rfl
theorem zQ(mM:T 147=some zo)(hn:n<=9)(h:∀g',Ex g g'->Q (.int ((2 ^ n:Nat):Int)) g'):c5 T (k+1) 147 [.int (n:Nat)] g Q E:=by
 refine call_of mM rfl ?_;dsimp[zo,d0,List.replicate];left;refine u3 (a9 b9) (d:=.int ((2 ^ n:Nat):Int)) ?_ (h _ (Ex.snoc _ _));have:n=0\/n=1\/n=2\/n=3\/n=4\/n=5\/n=6\/n=7\/n=8\/n=9:=by omega
 rcases this with rfl|rfl|rfl|rfl|rfl|rfl|rfl|rfl|rfl|rfl<;>rfl
theorem a66(rW:T 146=some zr){s:Nat}(hn:n<=9)(h:∀g' l,Ex g g'->g.length<=l->g'[l]?=some (.lst (b8 ((List.range n).filter s.testBit)))->Q (.ref l) g'):c5 T (k+1) 146 [.int (s:Nat),.int (n:Nat)] g Q E:=by
 refine call_of rW rfl ?_;dsimp[zr,d0,List.replicate];left;refine B1 (b0 T _) (λU=>∃z1 z2,U=[some (.int (s:Nat)),z1,z2]) s.testBit (λi=>.int (i:Nat)) (l:=j6 0 n) (λg' e=>u9) (by rw[j7];omega) ⟨none,none,rfl⟩ (λi d U g' hx e sh=>?_) (λg' e=>?_) (zW (b0 T _) (by omega:n<=1000) λQ q=>w_var (d:=.int (n:Nat)) rfl q)
 ·obtain⟨z1,z2,rfl⟩:=sh;obtain⟨hi,rfl⟩:=x6 hx;rw[dC];refine i7 ?_;left;refine u3 (a9 b9) (Sl (i:=i) ()) ?_;have hp:(0:Int)<((2 ^ i:Nat):Int):=by have:=fA (n:=i);omega
  have Bx:((2 ^ i:Nat):Int)<1073741824:=by
   have:=AA (a:=2) () (show i<30 by omega);omega
  refine Nm hp Bx ?_;left;have eb:decide ((s:Int) / ((2 ^ i:Nat):Int) % 2=1)=s.testBit i:=by
   rw[Nat.testBit_eq_decide_div_mod_eq];refine dQ.mpr ?_;rw[<- Int.natCast_ediv];omega
  have e2:=e.trans (Ex.snoc g' (O.lst IE));rw[eb];refine⟨rfl,e2,?_⟩;cases s.testBit i with
  |true =>
   refine ig rfl ?_;left;exact⟨rfl,e2,_,_,rfl⟩
  |false=>exact fX rfl ⟨_,_,rfl⟩
 ·rw[j7];exact h _ _ (e.trans (Ex.snoc _ _)) e.len b9
structure FL(T:Nat->Option bf):Prop where
 rW:T 146=some zr
 mM:T 147=some zo
 Cg:T 148=some Y5
theorem Lq(hT:pY T)(wz:FL T)(hB:∀c∈cs,CB c)(ha:g[a]?=some (.lst (cs.map b7.d)))(hz:cs.length<=9)(hc:g[c]?=some (.lst (v8 rs)))(hr:rs.length<=900){s:Nat}(h:∀g' l,Ex g g'->g.length<=l->g'[l]?=some (.lst (b8 (p6 cs v rs s)))->Q (.ref l) g'):c5 T (k+3) 148 [.ref a,.int v,.ref c,.int (s:Nat)] g Q E:=by
 refine call_of wz.Cg rfl ?_;dsimp[Y5,d0,List.replicate];left;rw[ak];refine a66 (k:=k+1) wz.rW hz λg1 hl e1 ka hh=>?_;left;have e2:=e1.trans (Ex.snoc g1 (O.lst []));have Hx:=(Ex.snoc g1 (O.lst [])).at hh;have h2:=b9 (g:=g1) (o:=O.lst []);have l1:=l9 hh;have ge:g.length<=g1.length:=e1.len;generalize g1.length=fl at *;have hH:∀i∈(List.range cs.length).filter s.testBit,i<cs.length:=Z7;have rS:((List.range cs.length).filter s.testBit).length<=50:=aC K2 ();have hS:∀i,i<cs.length->iU ((List.range cs.length).filter s.testBit) i=s.testBit i:=λi hi=>by
  rw[aY,bQ,bL,aS];exact⟨λz=>z.2,λz=>⟨hi,z⟩⟩
 refine x5 (b0 T _) (S1 (b0 T _) ?_);left;refine J5 (a9 (e2.at ha)) ?_;refine⟨_,rfl,by omega,by simp;omega,j6 0 cs.length,λi U g'=>Ex g g'/\g'[hl]?=some (.lst (b8 ((List.range cs.length).filter s.testBit)))/\g'[fl]?=some (.lst (b8 ((List.range i).filter (E7 cs v rs s))))/\∃z6,U=[some (.ref a),some (.int v),some (.ref c),some (.int (s:Nat)),some (.ref hl),some (.ref fl),z6],λ_ _ _ _=>by simp only[List.length_map,Int.toNat_natCast];exact u9,⟨e2,Hx,h2,none,rfl⟩,λi x U g' hx q=>?_,λU g' q=>?_⟩
 ·obtain⟨e3,pq,h3,z6,rfl⟩:=q;obtain⟨hi,rfl⟩:=x6 hx;rw[dC];refine i7 ?_;left;refine X9 (zC pq ?_);left;have es:(List.range (i+1)).filter (E7 cs v rs s)=(List.range i).filter (E7 cs v rs s)++if E7 cs v rs s i=true then[i] else[]:=by
   rw[fo,eA];cases z:E7 cs v rs s i<;>simp only[List.filter_cons,z,List.filter_nil]<;>rfl
  have Qq:decide (i∈(List.range cs.length).filter s.testBit)=s.testBit i:=hS i hi;rw[Qq];cases hb:s.testBit i with
  |true =>
   refine fX rfl ?_;refine⟨e3,pq,?_,_,rfl⟩;rw[es,aD (by unfold E7;rw[hb];simp),dz];exact h3
  |false =>
   refine ig rfl ?_;left;refine JX (k:=k) hT hB (e3.at ha) hz (e3.at hc) hr pq hH rS hi λg4 e4=>?_;rw[aL4 hS];left;have HE:E7 cs v rs s i=decide (fault cs v rs s.testBit i=""):=by unfold E7;rw[hb];rfl
   refine if2 (λc1=>?_) (λc1=>?_)
   ·have h4:=e4.at h3;left;refine Q6 h4 (by have:=@K2 i (E7 cs v rs s);simp[b8];omega) ?_;refine⟨⟨by simp;exact(e3.trans e4).len,λj hj=>by rw[ax ()];exact(e3.trans e4).old j hj⟩,d4 (e4.at pq) (),?_,_,rfl⟩;rw[get_set h4,es,aG (by rw[HE];exact ay c1)];simp[b8]
   ·refine⟨e3.trans e4,e4.at pq,?_,_,rfl⟩;rw[es,aD (by rw[HE,aI c1];decide),dz];exact e4.at h3
 ·obtain⟨e3,pq,h3,z6,rfl⟩:=q;rw[j7] at h3;left;exact h _ _ e3 ge h3
end
def X5:bf:=⟨4,6,(.seq (.ifs (dW .NotEq (dg .len bB) (dg .len aL)) (.seq (.ret (bP .tup (iF "many") (dg .len bB))) .pass) .pass) (.seq (.du (.one 4) (.eL (dg .len bB)) (.seq (.ifs (.eK (.fV (.chain .LtE .Lt (bh 0) (cN bB cT) (dg .len aL)))) (.seq (.ret (bP .tup (iF "stranger") cT)) .pass) .pass) (.seq (.ifs (dW .In (cN bB cT) (bP (.ql false true) bB cT)) (.seq (.ret (bP .tup (iF "twice") cT)) .pass) .pass) .pass))) (.seq (.du (.one 4) (.eL (dg .len bB)) (.seq (.set 5 (.call 108 (tD aL bp bu (bP (.ql false true) bB cT) (cN bB cT)))) (.seq (.ifs (dW .NotEq eE (iF "")) (.seq (.ret (bP .tup eE cT)) .pass) .pass) .pass))) (.seq (.ret (.lit .bD)) .pass))))⟩
theorem Mc{f:Nat->Option α}:(List.range (i+1)).findSome? f=none↔(List.range i).findSome? f=none/\f i=none:=by
 rw[fo,ya];cases (List.range i).findSome? f<;>simp
theorem Fg{f:Nat->Option α}{r:α}(h:(List.range i).findSome? f=none)(hi:i<n)(hr:f i=some r):(List.range n).findSome? f=some r:=by
 have e:List.range n=List.range i++(List.range (n-i)).map (i+·):=by
  rw[<- List.range_add]
  congr 1
  omega
 obtain⟨m,hm⟩:∃m,n-i=m+1:=⟨n-i-1,by omega⟩
 rw[e,ya,h,hm,List.range_succ_eq_map];simp[hr]
def nF(n:Nat)(ns:List Int)(i:Nat):Option (Str×Nat):=if 0<=ns.getD i 0/\ns.getD i 0<n then(if ns.getD i 0∈ns.take i then some ("twice",i) else none) else some ("stranger",i)
def M0(ns:List Int)(i:Nat):List Nat:=(ns.take i).map Int.toNat
def qH(cs:List b7)(v:Int)(rs:List eU)(ns:List Int)(i:Nat):Option (Str×Nat):=if fault cs v rs (iU (M0 ns i)) (ns.getD i 0).toNat="" then none else some (fault cs v rs (iU (M0 ns i)) (ns.getD i 0).toNat,i)
def pairF:Option (Str×Nat)->D
 |some (w,i)=>.tup [.str w,.int i]
 |none=>.bD
def zY(cs:List b7)(v:Int)(rs:List eU)(ns:List Int):Option (Str×Nat) :=
 if ns.length=cs.length then((List.range ns.length).findSome? (nF cs.length ns)).orElse λ_=>(List.range ns.length).findSome? (qH cs v rs ns) else some ("many",ns.length)
theorem getD_at{x:Int}(h:ns[i]?=some x):ns.getD i 0=x:=by simp[List.getD,h]
theorem EL(h:(List.range ns.length).findSome? (nF n ns)=none)(hi:i<ns.length):(0<=ns.getD i 0/\ns.getD i 0<n)/\ns.getD i 0∉ns.take i:=by
 have:=gT.mp h i (aS.mpr hi);unfold nF at this;split at this
 ·rename_i h1;split at this
  ·cases this
  ·rename_i h2;exact⟨h1,h2⟩
 ·cases this
theorem UJ(h:(List.range ns.length).findSome? (nF n ns)=none):∀j∈M0 ns i,j<n:=by
 intro j hj;obtain⟨x,hx,rfl⟩:=aN.mp hj;obtain⟨k,hk,rfl⟩:=bo.mp (cB hx);have:=(EL h hk).1;rw[getD_at (ag hk)] at this;omega
theorem a00(h:(List.range ns.length).findSome? (nF n ns)=none):(ns.take i).map D.int=b8 (M0 ns i):=by
 unfold b8 M0;rw[bt];refine eY λx hx=>?_;obtain⟨k,hk,rfl⟩:=bo.mp (cB hx);have:=(EL h hk).1;rw[getD_at (ag hk)] at this;show D.int ns[k]=D.int ((ns[k].toNat:Nat):Int);rw[Int.toNat_of_nonneg this.1]
theorem Ui{l:List Int}{x:Int}:(l.any λm=>m==x)=decide (x∈l):=by
 rw[aY,aU,bQ];exact⟨λ⟨y,hy,e⟩=>(bx.mp e)▸hy,λhy=>⟨x,hy,by simp⟩⟩
section
variable{T:Nat->Option bf}{d:Nat}
theorem aF1(hT:pY T)(sf:T 109=some X5)(hB:∀c∈cs,CB c)(ha:g[a]?=some (.lst (cs.map b7.d)))(hz:cs.length<=9)(hc:g[c]?=some (.lst (v8 rs)))(hR:rs.length<=900)(hr:g[r]?=some (.lst (ns.map .int)))(h:∀g',Ex g g'->Q (pairF (zY cs v rs ns)) g'):c5 T (k+3) 109 [.ref a,.int v,.ref c,.ref r] g Q E:=by
 refine call_of sf rfl ?_;dsimp[X5,d0,List.replicate];left;rw[ak,ak];unfold zY at h;by_cases hn:ns.length=cs.length
 ·rw[aG hn] at h;have Dw:∀{i:Nat},i<ns.length->gG (ns.map D.int) (i:Int)=some (.int (ns.getD i 0)):=λ{i} hi=>C7 (by rw[ai,ag hi,getD_at (ag hi)];rfl);refine fX (by rw[ay ()];rfl) ?_;refine x5 (b0 T _) (S1 (b0 T _) ?_);left;refine⟨by omega,by simp;omega,j6 0 ns.length,λi U g'=>Ex g g'/\(List.range i).findSome? (nF cs.length ns)=none/\∃z4,U=[some (.ref a),some (.int v),some (.ref c),some (.ref r),z4,none],λ_ _ _ _=>by simp only[List.length_map,Int.toNat_natCast];exact u9,⟨Ex.refl _,rfl,none,rfl⟩,λi x U g' hx q=>?_,λU g' q=>?_⟩
  ·obtain⟨e1,q,z4,rfl⟩:=q;obtain⟨hi,rfl⟩:=x6 hx;rw[dC];refine i7 ?_;left;refine u3 (a9 (e1.at hr)) (Dw hi) ?_;left;have gZ:nF cs.length ns i=if 0<=ns.getD i 0/\ns.getD i 0<cs.length then(if ns.getD i 0∈ns.take i then some (("twice":Str),i) else none) else some (("stranger":Str),i):=rfl
   have str:¬(0<=ns.getD i 0/\ns.getD i 0<cs.length)->Q (.tup [.str "stranger",.int (i:Nat)]) g':=λhs=>by
    rw[Fg q hi (show nF cs.length ns i=some (("stranger":Str),i) by rw[gZ,aD hs])] at h;exact h _ e1
   refine if2 (λs1=>?_) (λs1=>?_)
   ·left;refine J5 (a9 (e1.at ha)) ?_;rw[ak];left;by_cases s2:ns.getD i 0<(cs.length:Nat)
    rotate_left
    ·refine ig (by rw[aI s2];rfl) ?_;left;exact str λz=>s2 z.2
    refine fX (by rw[ay s2];rfl) ?_;left;refine u3 (a9 (e1.at hr)) (Dw hi) ?_;left;refine zu (a9 (e1.at hr)) ?_;rw[Ff (by rw[ak];omega),<- kz];refine sI (R8 (a9 b9) ?_);rw[Ui];left;refine if2 (λht=>?_) (λht=>?_)
    ·left;rw[Fg q hi (show nF cs.length ns i=some (("twice":Str),i) by rw[gZ,aG ⟨s1,s2⟩,aG ht])] at h;exact h _ (e1.trans (Ex.snoc _ _))
    ·exact⟨e1.trans (Ex.snoc _ _),Mc.mpr ⟨q,by rw[gZ,aG ⟨s1,s2⟩,aD ht]⟩,_,rfl⟩
   ·left;exact str λz=>s1 z.1
  ·obtain⟨e1,hp,z4,rfl⟩:=q;rw[j7] at hp;rw[hp] at h;refine x5 (b0 T _) (S1 (b0 T _) ?_);left;refine J5 (a9 (e1.at hr)) ?_;refine⟨_,rfl,by omega,by simp;omega,j6 0 ns.length,λi U g'=>Ex g g'/\(List.range i).findSome? (qH cs v rs ns)=none/\∃z4 z5,U=[some (.ref a),some (.int v),some (.ref c),some (.ref r),z4,z5],λ_ _ _ _=>by simp only[List.length_map,Int.toNat_natCast];exact u9,⟨e1,rfl,_,_,rfl⟩,λi x U g' hx q=>?_,λU g' q=>?_⟩
   ·obtain⟨e2,q,z4,z5,rfl⟩:=q;obtain⟨hi,rfl⟩:=x6 hx;rw[dC];have lx:=EL hp hi;have Hy:(ns.getD i 0)=(((ns.getD i 0).toNat:Nat):Int):=by omega
    refine i7 ?_;left;refine zu (a9 (e2.at hr)) ?_;rw[Ff (by rw[ak];omega),<- kz,a00 hp];left;have e3:=e2.trans (Ex.snoc g' (O.lst (b8 (M0 ns i))));refine u3 (a9 (e3.at hr)) (Dw hi) ?_;left;rw[Hy];refine JX (k:=k) hT hB (e3.at ha) hz (e3.at hc) hR b9 (UJ hp) (by unfold M0;simp;omega) () λg4 e4=>?_;left;have HA:qH cs v rs ns i=if fault cs v rs (iU (M0 ns i)) (ns.getD i 0).toNat="" then none else some (fault cs v rs (iU (M0 ns i)) (ns.getD i 0).toNat,i):=rfl
    generalize fault cs v rs (iU (M0 ns i)) (ns.getD i 0).toNat=fx at *;by_cases yx:fx=""
    ·refine fX (by rw[ay yx];rfl) ?_;exact⟨e3.trans e4,Mc.mpr ⟨q,by rw[HA,aG yx]⟩,_,_,rfl⟩
    ·refine ig (by rw[aI yx];rfl) ?_;left;have h2:=Fg q hi (show qH cs v rs ns i=some (fx,i) by rw[HA,aD yx]);rw[show(Option.none.orElse λ_:Unit=>(List.range ns.length).findSome? (qH cs v rs ns))=some (fx,i) from h2] at h;exact h _ (e3.trans e4)
   ·obtain⟨e2,q,z4,z5,rfl⟩:=q;rw[j7] at q;rw[show(Option.none.orElse λ_:Unit=>(List.range ns.length).findSome? (qH cs v rs ns))=none from q] at h;exact h _ e2
 ·rw[aD hn] at h;refine ig (by rw[aI ()];rfl) ?_;left;rw[ak];exact h _ (Ex.refl _)
end
def FG(n:Nat)(F:Nat->List Nat):Prop:=∀s p,p∈F s->p<n/\s.testBit p=false
def T1(n:Nat)(F:Nat->List Nat):Nat->Nat->List (List Nat)
 |0,s=>if s=2 ^ n-1 then[[]] else[]
 |f+1,s=>if s=2 ^ n-1 then[[]] else(F s).flatMap λp=>(T1 n F f (s |||2 ^ p)).map (p::·)
def n8(n:Nat)(F:Nat->List Nat)(s:Nat):List (List Nat):=T1 n F (2 ^ n) s
theorem xg{s:Nat}(h:s.testBit p=false):s<s |||2 ^ p:=by
 have h1:s<=s |||2 ^ p:=Nat.left_le_or
 have h2:s |||2 ^ p≠s:=λe=>by
  have:=O9 s p p;rw[e,h] at this;simp at this
 omega
theorem E8{β:Type}{l:List α}{f g:α->List β}(h:∀x∈l,f x=g x):l.flatMap f=l.flatMap g:=by
 induction l with
 |nil=>rfl
 |cons a r ih=>rw[cH,cH,h a (by simp),ih λx hx=>h x (by simp[hx])]
theorem KA{n:Nat}{F:Nat->List Nat}(hF:FG n F):∀(f s:Nat),s<2 ^ n->2 ^ n-1-s<=f->T1 n F f s=T1 n F (f+1) s
 |0,s,hs,hf=>by
  have e:s=2 ^ n-1:=by omega
  simp only[T1];rw[aG e,aG e]
 |f+1,s,hs,hf=>by
  rw[T1,T1];by_cases e:s=2 ^ n-1
  ·rw[aG e,aG e]
  ·rw[aD e,aD e];refine E8 λp hp=>?_;have:=hF s p hp;rw[KA hF f (s |||2 ^ p) (O8 hs this.1) (by have:=xg this.2;omega)]
theorem J9{F:Nat->List Nat}{s:Nat}(h:s=2 ^ n-1):n8 n F s=[[]]:=by
 unfold n8;obtain⟨m,hm⟩:∃m,2 ^ n=m+1:=⟨2 ^ n-1,by have:=fA (n:=n);omega⟩
 rw[hm,T1,aG h]
theorem P2{F:Nat->List Nat}(hF:FG n F){s:Nat}(hs:s<2 ^ n)(h:s≠2 ^ n-1):n8 n F s=(F s).flatMap λp=>(n8 n F (s |||2 ^ p)).map (p::·):=by
 unfold n8;obtain⟨m,hm⟩:∃m,2 ^ n=m+1:=⟨2 ^ n-1,by have:=fA (n:=n);omega⟩
 conv=>lhs;rw[hm,T1,aD h]
 refine E8 λp hp=>?_;have:=hF s p hp;rw[hm,<- KA hF m (s |||2 ^ p) (O8 hs this.1) ()]
theorem Vx{F:Nat->List Nat}(hF:FG n F){s:Nat}(hs:s<2 ^ n)(h:s≠2 ^ n-1):(n8 n F s).length=((F s).map λp=>(n8 n F (s |||2 ^ p)).length).sum:=by
 rw[P2 hF hs h,List.length_flatMap];simp[Function.comp_def]
inductive gP(F:Nat->List Nat):Nat->Prop
 |zero:gP F 0
 |step {s p:Nat} (h:gP F s) (hp:p∈F s):gP F (s |||2 ^ p)
theorem gP.lt{F:Nat->List Nat}(hF:FG n F){s:Nat}(h:gP F s):s<2 ^ n:=by
 induction h with
 |zero=>exact fm _
 |step h hp ih=>exact O8 ih (hF _ _ hp).1
theorem C5(cs:List b7)(v:Int)(rs:List eU):FG cs.length (p6 cs v rs):=λs p hp=>by
 obtain⟨h1,h2⟩:=bL.mp hp;unfold E7 at h2;rw[aZ,lJ] at h2;exact⟨aS.mp h1,h2.1⟩
theorem aV2{β:Type}{f:α->List β}{l:List α}{x:α}(hx:l[j]?=some x)(m:Nat):(l.flatMap f)[((l.take j).flatMap f).length+m]?=((l.drop j).flatMap f)[m]?/\(l.drop j).flatMap f=f x++(l.drop (j+1)).flatMap f:=by
 have e:l.flatMap f=(l.take j).flatMap f++(l.drop j).flatMap f:=by rw[<- Gf,bJ]
 have hj:j<l.length:=(av.mp hx).1;have ed:l.drop j=x::l.drop (j+1):=by
  rw[dj hj]
  congr 1
  exact(av.mp hx).2
 constructor
 ·rw[e,cG ()]
  congr 1
  omega
 ·rw[ed,cH]
noncomputable abbrev kN(j:Nat):Key:=.inl (j:Int)
theorem DO{c:Key}:u7 (putD kvs c x) c=some x:=by
 unfold u7 putD;by_cases h:(kvs.any λkv=>decide (kv.1=c))=true
 ·rw[aG h]
  induction kvs with
  |nil=>cases h
  |cons kv r ih =>
   rw[cS,fq];by_cases hk:kv.1=c
   ·rw[aG hk];simp[hk]
   ·rw[aD hk];simp only[hk,decide_false];refine ih ?_;rw[kA,fu] at h;exact h.resolve_left (by simp[hk])
 ·rw[aD h,lH];have:kvs.find? (λkv=>decide (kv.1=c))=none:=by
   rw[kI];exact λkv hk hc=>h (aU.mpr ⟨kv,hk,hc⟩)
  rw[this];simp
theorem Kf{c c':Key}(hn:c≠c'):u7 (putD kvs c x) c'=u7 kvs c':=by
 unfold u7 putD;by_cases h:(kvs.any λkv=>decide (kv.1=c))=true
 ·rw[aG h];clear h
  induction kvs with
  |nil=>rfl
  |cons kv r ih =>
   rw[cS,fq,fq];by_cases hk:kv.1=c
   ·rw[aG hk];have:kv.1≠c':=λz=>hn (hk.symm.trans z);simp only[this,decide_false];exact ih
   ·rw[aD hk];by_cases oE:kv.1=c'
    ·simp only[oE,decide_true]
    ·simp only[oE,decide_false];exact ih
 ·rw[aD h,lH];have:[(c,x)].find? (λkv=>decide (kv.1=c'))=none:=by simp[hn]
  rw[this];simp
theorem a90{c:Key}:(putD kvs c x).length<=kvs.length+1:=by
 unfold putD;split<;>simp
theorem EE{i:Nat}(h:i≠j):kN i≠kN j:=λz=>h (by have:(i:Int)=j:=mU z;omega)
def K8:bf:=⟨1,5,(.seq (.set 1 (.prim (.kO 0) .nil)) (.seq (.set 2 (.prim .lst .nil)) (.seq (.du (.one 3) (.eL (bP (.bin .Add) (dg (.fld "full") aL) (bh 1))) (.seq (.ifs (dW .In bB bp) (.seq (.expr (.eW .append bu (fy bB))) (.seq (.du (.one 4) (.fk (.call 116 (dX aL bB))) (.seq (.expr (.eW .kP bp (fy (.call 91 (dX bB cT))))) .pass)) .pass)) .pass) .pass)) (.seq (.ret bu) .pass))))⟩
def DC:bf:=⟨1,3,(.seq (.set 1 (.prim .V6 .nil)) (.seq (.du (.one 2) (.oy (.call 117 (fy aL))) (.seq (.ifs (dW .Eq bu (dg (.fld "full") aL)) (.seq (.eQ bp bu (bh 1)) .pass) (.seq (.eQ bp bu (dg .sum (.comp [2,1] 4 (.one 3) (.fk (.call 116 (dX aL bu))) .no (cN bp (.call 91 (dX aL bB)))))) .pass)) .pass)) (.seq (.ret bp) .pass)))⟩
def zE:bf:=⟨4,7,(.seq (.set 4 (.call 116 (dX aL bu))) (.seq (.set 5 bB) (.seq (.set 6 (bh 0)) (.seq (.kL (dW .GtE eE (cN bp (.call 91 (dX bu (cN cT fb))))) (.seq (.lg 5 .nJ (cN bp (.call 91 (dX bu (cN cT fb))))) (.seq (.lg 6 .iadd (bh 1)) .pass))) (.seq (.ret (bP .tup (cN cT fb) eE)) .pass)))))⟩
def P6:bf:=⟨3,7,(.seq (.set 3 (.prim .lst .nil)) (.seq (.set 4 (bh 0)) (.seq (.set 5 bu) (.seq (.kL (dW .NotEq cT (dg (.fld "full") aL)) (.seq (.mD (.many [6,5]) (.call 122 (mX aL bp cT eE))) (.seq (.expr (.eW .append bB (fy fb))) (.seq (.set 4 (.call 91 (dX cT fb))) .pass)))) (.seq (.ret bB) .pass)))))⟩
def L8:bf:=⟨1,2,(.seq (.set 1 (.call 121 (fy aL))) (.seq (.ifs (dW .Eq (cN bp (bh 0)) (bh 0)) (.seq (.ret (.lit .bD)) .pass) .pass) (.seq (.ret (.call 123 (jv aL bp (bh 0)))) .pass)))⟩
theorem P5:∀{l m:List Nat},l.Nodup->(∀x∈l,x∈m)->l.length<=m.length
 |[],m,_,_=>bW _
 |x::r,m,nd,h=>by
  rw[dw] at nd;have:=P5 (l:=r) (m:=m.erase x) nd.2 λy hy=>(List.mem_erase_of_ne λz=>nd.1 (by simp_all)).mpr (h y (by simp[hy]))
  grind
section
variable{U:S}{t:MT}{it elt:ME}{d6:List Nat}
inductive xQ(P:fS)(t:MT)(elt:ME)(Q:KD)(U:S)(k:IK)(g1:G):Prop
 |mk (l:List D) (Sh:S->Prop) (w:Nat->D) (hk:∀g',Ex g1 g'->k.Is l g') (hl:l.length<=1000) (h0:Sh U)
   (hs:∀i d U g',l[i]?=some d->Ex g1 g'->Sh U->ki t d U λcK=>bq P elt cK g' (λy g4=>y=w i/\Ex g1 g4/\Sh cK) kc) (hd:∀g',Ex g1 g'->Q (.ref g'.length) (g'++[.lst ((List.range l.length).map w)])):xQ P t elt Q U k g1
theorem a43(hP:j4 P)(h:iz P it U g (xQ P t elt Q (L1 U d6 n)) E):bq P (.comp d6 n t it .no elt) U g Q E:=by
 refine J7 hP (E2 hP it _ _ _ _ _ _ (λk g1 h=>?_) (λ_ _ z=>z) h);obtain⟨l,Sh,w,hk,hl,h0,hs,hd⟩:=h;refine⟨l,λi ys U g'=>Ex g1 g'/\ys=(List.range i).map w/\Sh U,hl,λi ys U g' q=>⟨hk _ q.1,by simp_all⟩,⟨Ex.refl _,rfl,h0⟩,λi x ys U g' hx q=>?_,λys U g' q=>?_⟩
 ·obtain⟨e1,rfl,sh⟩:=q;refine B4 (λcK q=>zg (mG (c9 hP elt _ _ _ _ _ _ (λy g4 q=>?_) (λ_ _ z=>z) q))) (hs i x U g' hx e1 sh);obtain⟨rfl,e4,sh⟩:=q;exact⟨e4,by rw[fo,dy];rfl,sh⟩
 ·obtain⟨e1,rfl,sh⟩:=q;exact hd g' e1
end
def pO(g:G)(sd n:Nat)(K:List Nat):Prop:=∃S m,g[sd]?=some (.set S m)/\m=K.length/\K.Nodup/\(∀j∈K,j<2 ^ n)/\∀k:Int,S k=true↔∃j∈K,k=(j:Nat)
theorem pO.at{g g':G}{sd n:Nat}{K:List Nat}(h:pO g sd n K)(e:Ex g g'):pO g' sd n K:=let ⟨S,m,h1,h2⟩:=h;⟨S,m,e.at h1,h2⟩
theorem pO.size{sd:Nat}{K:List Nat}(h:pO g sd n K):K.length<=2 ^ n:=by
 obtain⟨S,m,_,_,nd,lt,_⟩:=h;have:=P5 (m:=List.range (2 ^ n)) nd λx hx=>aS.mpr (lt x hx)
 simp_all
structure TW(T:Nat->Option bf):Prop where
 pE:T 117=some K8
 Ck:T 121=some DC
structure Wy(g:G)(w:Nat)(cs:List b7)(v:Int)(rs:List eU):Prop where
 ex:∃kvs,g[w]?=some (.da kvs)/\∀s,gP (p6 cs v rs) s->u7 kvs (kN s)=some (.int ((n8 cs.length (p6 cs v rs) s).length:Nat))
theorem Wy.at{g g':G}{w:Nat}{cs:List b7}{v:Int}{rs:List eU}(h:Wy g w cs v rs)(e:Ex g g'):Wy g' w cs v rs:=let ⟨kvs,h1,h2⟩:=h.ex;⟨⟨kvs,e.at h1,h2⟩⟩
theorem aT6{l:List Nat}(hl:l.Pairwise (· > ·)){s x:Nat}(hi:l[i]?=some s)(hx:x∈l)(h:s<x):x∈l.take i:=by
 obtain⟨j,hj,rfl⟩:=bo.mp hx;obtain⟨jo,rfl⟩:=av.mp hi;have PV:j<i:=by
  rcases eM j i with z|z|z
  ·exact z
  ·subst z;omega
  ·have:=cM.mp hl i j jo hj z;omega
 exact gb.mpr ⟨j,by rw[fh PV,ag hj]⟩
theorem zZ(h:n<=9):1<=2 ^ n/\2 ^ n<=512:=⟨fA,AB () h⟩
section
variable{T:Nat->Option bf}{d:Nat}
theorem KH(hT:jH T)(hF:TF T)(pE:T 117=some K8)(B:Bd g b cs v rs)(hz:cs.length<=9)(hr:rs.length<=900)(h:∀(L:List Nat) l g',Ex g g'->g.length<=l->g'[l]?=some (.lst (b8 L))->L.Pairwise (· < ·)->(∀s,s∈L↔gP (p6 cs v rs) s)->L.length<=512->Q (.ref l) g'):c5 T (k+6) 117 [.ref b] g Q E:=by
 refine call_of pE rfl ?_;have jg:=C5 cs v rs;generalize oH:p6 cs v rs=F at *;obtain⟨w0,l0,dd,nb,f1,f2,f3,f4,f5⟩:=B.ex;have p2:=zZ hz;refine Uv ?_;have s1:pO (g++[O.set (λk=>decide (k=0)) 1]) g.length cs.length [0]:=⟨_,_,b9,rfl,by simp,by simp;omega,λk=>by simp⟩
 have e1:=Ex.snoc g (O.set (λk=>decide (k=0)) 1);generalize g++[O.set (λk=>decide (k=0)) 1]=g1 at *;left;have e2:=e1.trans (Ex.snoc g1 (O.lst []));have s2:=s1.at (Ex.snoc g1 (O.lst []));have t2:=b9 (g:=g1) (o:=O.lst []);have l1:g.length<g1.length:=by obtain⟨_,_,z,_⟩:=s1;exact l9 z
 generalize g1.length=tl at *;refine x5 (b0 T _) (S1 (b0 T _) ?_);left;refine V5 (e2.at f1) rfl ?_;left;have en:((2 ^ cs.length-1:Nat):Int)+1=((2 ^ cs.length:Nat):Int):=by omega
 rw[en];refine⟨by omega,by omega,j6 0 (2 ^ cs.length),λt U g'=>Ex g g'/\(∃K,pO g' g.length cs.length K/\∀j,j∈K↔j=0\/∃s p,s<t/\gP F s/\p∈F s/\j=s |||2 ^ p)/\(∃L,g'[tl]?=some (.lst (b8 L))/\L.Pairwise (· < ·)/\(∀s,s∈L↔s<t/\gP F s)/\L.length<=t)/\∃z3 z4,U=[some (.ref b),some (.ref g.length),some (.ref tl),z3,z4],λ_ _ _ _=>by exact u9,⟨e2,⟨[0],s2,λj=>by simp⟩,⟨[],t2,by simp,by simp,by simp⟩,none,none,rfl⟩,λt x U g' hx q=>?_,λU g' q=>?_⟩
 ·obtain⟨e3,⟨K,s3,hK⟩,⟨L,t3,pw,hL,wB⟩,z3,z4,rfl⟩:=q;obtain⟨ht,rfl⟩:=x6 hx;rw[dC];have nO:t∈K↔gP F t:=by
   rw[hK];constructor
   ·rintro(rfl|⟨s,p,_,h2,h3,rfl⟩)
    ·exact .zero
    ·exact .step h2 h3
   ·intro h;cases h with
    |zero=>exact .inl rfl
    |step h hp=>exact .inr ⟨_,_,xg (jg _ _ hp).2,h,hp,rfl⟩
  refine i7 ?_;left;obtain⟨S,m,sg,sm,snd,slt,sS⟩:=id s3;refine Ye sg ?_;left;have HS:S (t:Nat)=true↔gP F t:=by
   rw[sS,<- nO];exact⟨λ⟨j,hj,e⟩=>by rw[show t=j by omega];exact hj,λz=>⟨t,z,rfl⟩⟩
  cases hb:S (t:Nat) with
  |false =>
   have iV:¬gP F t:=λz=>by rw[HS.mpr z] at hb;cases hb
   refine fX rfl ?_;refine⟨e3,⟨K,s3,λj=>(hK j).trans ⟨?_,?_⟩⟩,⟨L,t3,pw,λs=>(hL s).trans ⟨λz=>⟨by omega,z.2⟩,λz=>⟨?_,z.2⟩⟩,by omega⟩,_,_,rfl⟩
   ·rintro(z|⟨s,p,h1,h2⟩)
    ·exact .inl z
    ·exact .inr ⟨s,p,by omega,h2⟩
   ·rintro(z|⟨s,p,h1,h2,h3⟩)
    ·exact .inl z
    ·refine .inr ⟨s,p,?_,h2,h3⟩;rcases dB s t with y|y
     ·exact y
     ·exact absurd (show gP F t by rw[show t=s by omega];exact h2) iV
   ·rcases dB s t with y|y
    ·exact y
    ·exact absurd (show gP F t by rw[show t=s by omega];exact z.2) iV
  |true =>
   have hR:=HS.mp hb;refine ig rfl ?_;left;refine Q6 t3 (by simp[b8];omega) ?_;have Ot:tl≠g.length:=by omega
   have s4:pO (g'.set tl (.lst (b8 L++[D.int (t:Nat)]))) g.length cs.length K:=⟨S,m,d4 sg Ot,sm,snd,slt,sS⟩
   have t4:(g'.set tl (.lst (b8 L++[D.int (t:Nat)])))[tl]?=some (.lst (b8 (L++[t]))):=by rw[get_set t3];simp[b8]
   have e4:Ex g (g'.set tl (.lst (b8 L++[D.int (t:Nat)]))):=⟨by simp;exact e3.len,λi hi=>by rw[ax ()];exact e3.old i hi⟩
   generalize g'.set tl (.lst (b8 L++[D.int (t:Nat)]))=g4 at *;left;refine x5 (b0 T _) (lr (b0 T _) ?_);left;refine V4 (k:=k) hT hF (B.at e4) hz hr ht λg5 fl e5 BR h5=>?_;rw[oH] at h5;have l4:tl<g4.length:=l9 t4;refine⟨fl,_,rfl,a9 h5,b8 (F t),λj U g'=>Ex g g'/\g'[fl]?=some (.lst (b8 (F t)))/\g'[tl]?=some (.lst (b8 (L++[t])))/\(∃K',pO g' g.length cs.length K'/\∀x,x∈K'↔x∈K\/∃p∈(F t).take j,x=t |||2 ^ p)/\∃z4,U=[some (.ref b),some (.ref g.length),some (.ref tl),some (.int (t:Nat)),z4],λj U g' q=>p8 (a9 q.2.1),⟨e4.trans e5,h5,e5.at t4,⟨K,s4.at e5,λx=>by simp⟩,z4,rfl⟩,λj x U g' hx q=>?_,λU g' q=>?_⟩
   ·obtain⟨e6,h6,t6,⟨K',s6,uc⟩,z4,rfl⟩:=q;rw[b8,ai,aa] at hx;obtain⟨p,hp,rfl⟩:=hx;have mI:=aF hp;have nM:=(jg _ _ mI)
    have tk:(F t).take (j+1)=(F t).take j++[p]:=by rw[bA,hp];rfl
    obtain⟨S6,m6,yj,Gv,vd,vf,tH⟩:=id s6;refine i7 ?_;left;refine⟨Ul yj,?_⟩;left;refine B3 (k:=k+4) hT.pD () ?_;have hsz:=s6.size;refine bB3 yj () ?_;have dY:=O8 ht nM.1;refine⟨⟨by simp;exact e6.len,λi hi=>by rw[ax ()];exact e6.old i hi⟩,d4 h6 (),d4 t6 (),?_,_,rfl⟩;by_cases lx:S6 ((t |||2 ^ p:Nat):Int)=true
    ·refine⟨K',⟨_,_,get_set yj,by rw[aG lx];exact Gv,vd,vf,λk=>?_⟩,λx=>?_⟩
     ·rw[fu,bQ];constructor
      ·rintro(z|z)
       ·exact(tH k).mp z
       ·subst z;exact(tH _).mp lx
      ·exact λz=>.inl ((tH k).mpr z)
     ·rw[uc x,tk];simp only[List.mem_append,List.mem_singleton];constructor
      ·rintro(z|⟨q,z1,z2⟩)
       ·exact .inl z
       ·exact .inr ⟨q,.inl z1,z2⟩
      ·rintro(z|⟨q,z1|z1,z2⟩)
       ·exact .inl z
       ·exact .inr ⟨q,z1,z2⟩
       ·subst z1 z2;obtain⟨y,y1,y2⟩:=(tH _).mp lx;rw[<- uc,show(t |||2 ^ q)=y by omega];exact y1
    ·have BB:(t |||2 ^ p)∉K':=λz=>lx ((tH _).mpr ⟨_,z,rfl⟩);refine⟨K'++[t |||2 ^ p],⟨_,_,get_set yj,by rw[aD lx];simp[Gv],?_,λy hy=>?_,λk=>?_⟩,λx=>?_⟩
     ·rw[cx];exact⟨vd,by simp,λx hx y hy=>by cases aQ.mp hy;exact λz=>BB (z▸hx)⟩
     ·rcases aR.mp hy with z|z
      ·exact vf y z
      ·cases aQ.mp z;exact dY
     ·rw[fu,bQ,tH];simp only[List.mem_append,List.mem_singleton];constructor
      ·rintro(⟨y,y1,y2⟩|z)
       ·exact⟨y,.inl y1,y2⟩
       ·exact⟨_,.inr rfl,z⟩
      ·rintro⟨y,y1|y1,y2⟩
       ·exact .inl ⟨y,y1,y2⟩
       ·subst y1;exact .inr y2
     ·rw[aR,aQ,uc x,tk];simp only[List.mem_append,List.mem_singleton];constructor
      ·rintro((z|⟨q,z1,z2⟩)|z)
       ·exact .inl z
       ·exact .inr ⟨q,.inl z1,z2⟩
       ·exact .inr ⟨p,.inr rfl,z⟩
      ·rintro(z|⟨q,z1|z1,z2⟩)
       ·exact .inl (.inl z)
       ·exact .inl (.inr ⟨q,z1,z2⟩)
       ·subst z1;exact .inr z2
   ·obtain⟨e6,h6,t6,⟨K',s6,uc⟩,z4,rfl⟩:=q;rw[b8,ak,cA] at uc;refine⟨e6,⟨K',s6,λj=>(uc j).trans ?_⟩,⟨L++[t],t6,?_,λs=>?_,by simp;omega⟩,_,_,rfl⟩
    ·rw[hK j];constructor
     ·rintro((z|⟨s,p,h1,h2⟩)|⟨p,h1,h2⟩)
      ·exact .inl z
      ·exact .inr ⟨s,p,by omega,h2⟩
      ·exact .inr ⟨t,p,by omega,hR,h1,h2⟩
     ·rintro(z|⟨s,p,h1,h2,h3,h4⟩)
      ·exact .inl (.inl z)
      ·rcases dB s t with y|y
       ·exact .inl (.inr ⟨s,p,y,h2,h3,h4⟩)
       ·have:s=t:=by omega
        subst this;exact .inr ⟨p,h3,h4⟩
    ·rw[aV];exact⟨pw,by simp,λx hx y hy=>by cases aQ.mp hy;exact((hL x).mp hx).1⟩
    ·rw[aR,aQ,hL s];constructor
     ·rintro(z|z)
      ·exact⟨by omega,z.2⟩
      ·subst z;exact⟨by omega,hR⟩
     ·rintro⟨z1,z2⟩;rcases dB s t with y|y
      ·exact .inl ⟨y,z2⟩
      ·exact .inr ()
 ·obtain⟨e3,⟨K,s3,hK⟩,⟨L,t3,pw,hL,wB⟩,z3,z4,rfl⟩:=q;rw[j7] at hL wB;left;exact h L tl g' e3 () t3 pw (λs=>(hL s).trans ⟨λz=>z.2,λz=>⟨z.lt jg,z⟩⟩) ()
theorem Vy(hT:jH T)(hF:TF T)(hW:TW T)(B:Bd g b cs v rs)(hz:cs.length<=9)(hr:rs.length<=900)(h:∀w g',Ex g g'->g.length<=w->Wy g' w cs v rs->Q (.ref w) g'):c5 T (k+7) 121 [.ref b] g Q E:=by
 refine call_of hW.Ck rfl ?_;dsimp[DC,d0,List.replicate];have jg:=C5 cs v rs;generalize oH:p6 cs v rs=F at *;obtain⟨w0,l0,dd,nb,f1,f2,f3,f4,f5⟩:=B.ex;have p2:=zZ hz;left;have e1:=Ex.snoc g (O.da []);have w1:=b9 (g:=g) (o:=O.da []);generalize g++[O.da []]=g1 at *;refine x5 (b0 T _) (OX ?_);left;refine KH (k:=k) hT hF hW.pE (B.at e1) hz hr λL l g2 e2 hl h2 pw hL wB=>?_;rw[oH] at hL;have lw:=l9 w1;have OE:L.reverse.Pairwise (· > ·):=fZ.mpr pw;have Bm:(b8 L).length=L.length:=by simp[b8]
 refine⟨l,_,rfl,a9 h2,(b8 L).reverse,λi U g'=>Ex g g'/\g'[l]?=some (.lst (b8 L))/\(∃kvs,g'[g.length]?=some (.da kvs)/\kvs.length<=i/\∀s∈L.reverse.take i,u7 kvs (kN s)=some (.int ((n8 cs.length F s).length:Nat)))/\∃z2,U=[some (.ref b),some (.ref g.length),z2],λi U g' q=>bC8 (a9 q.2.1),⟨e1.trans e2,h2,⟨[],e2.at w1,by simp,by simp⟩,none,rfl⟩,λi x U g' hx q=>?_,λU g' q=>?_⟩
 ·obtain⟨e3,h3,⟨kvs,w3,hk,wa⟩,z2,rfl⟩:=q;rw[b8,<- List.map_reverse,ai,aa] at hx;obtain⟨s,hs,rfl⟩:=hx;have Hv:i<L.length:=by have:=(av.mp hs).1;simpa using this
  have Hg:gP F s:=(hL s).mp (cX.mp (aF hs));have qr:=Hg.lt jg;have tk:L.reverse.take (i+1)=L.reverse.take i++[s]:=by rw[bA,hs];rfl
  have fin:∀(N:Ends) g4 z2,Ex g' g4->(∀g5,(Ex g g5/\g5[l]?=some (.lst (b8 L))/\(∃kvs,g5[g.length]?=some (.da kvs)/\kvs.length<=i+1/\∀s∈L.reverse.take (i+1),u7 kvs (kN s)=some (.int ((n8 cs.length F s).length:Nat)))/\∃z2,([some (.ref b),some (.ref g.length),z2]:S)=[some (.ref b),some (.ref g.length),z2])->N.nx [some (.ref b),some (.ref g.length),z2] g5)->Y1 (.ref g.length) (.int (s:Nat)) (.int ((n8 cs.length F s).length:Nat)) g4 λg5=>N.nx [some (.ref b),some (.ref g.length),z2] g5:=λN g4 z2 e4 hN=>by
   refine Ar (e4.at w3) rfl () ?_;refine hN _ ⟨⟨by simp;exact(e3.trans e4).len,λj hj=>by rw[ax ()];exact(e3.trans e4).old j hj⟩,d4 (e4.at h3) (),⟨_,get_set (e4.at w3),aC a90 (),λs' iO=>?_⟩,z2,rfl⟩;rw[tk] at iO;by_cases Bw:s'=s
   ·subst Bw;exact DO
   ·refine(Kf (EE (cq Bw))).trans (wa s' ?_);rcases aR.mp iO with z|z
    ·exact z
    ·exact absurd (aQ.mp z) Bw
  refine i7 ?_;left;refine V5 (e3.at f1) rfl ?_;left;have ed:decide (((s:Nat):Int)=((2 ^ cs.length-1:Nat):Int))=decide (s=2 ^ cs.length-1):=dQ.mpr ();rw[ed];refine if2 (λc1=>?_) (λc1=>?_)
  ·left;have e1:(1:Int)=((n8 cs.length F s).length:Nat):=by rw[J9 c1];rfl
   rw[e1];exact fin _ _ _ (Ex.refl _) λg5 z=>⟨z.1,z.2.1,z.2.2.1,_,rfl⟩
  ·left;refine a43 (b0 T _) (lr (b0 T _) ?_);left;refine V4 (k:=k+1) hT hF (B.at e3) hz hr qr λg4 fl e4 BR h4=>?_;rw[oH] at h4;refine⟨fl,_,rfl,a9 h4,b8 (F s),λU=>∃z2 z3,U=[some (.int (s:Nat)),some (.ref g.length),z2,z3],λi=>.int ((n8 cs.length F (s |||2 ^ ((F s).getD i 0))).length:Nat),λg' e=>p8 (a9 (e.at h4)),?_,⟨none,none,rfl⟩,λj d U g5 hx e5 sh=>?_,λg5 e5=>?_⟩
   ·have:(F s).length<=cs.length:=by rw[<- oH];exact K2
    simp[b8];omega
   ·obtain⟨z2,z3,rfl⟩:=sh;rw[b8,ai,aa] at hx;obtain⟨p,hp,rfl⟩:=hx;have mI:=aF hp;have nM:=jg _ _ mI;refine i7 ?_;left;refine B3 (k:=k+5) hT.pD () ?_;have hv:u7 kvs (kN (s |||2 ^ p))=some (.int ((n8 cs.length F (s |||2 ^ p)).length:Nat)):=by
     refine wa _ (aT6 OE hs (cX.mpr ((hL _).mpr (.step Hg mI))) (xg nM.2))
    refine xE ((e4.trans e5).at w3) rfl hv ?_;exact⟨by simp[List.getD,hp],e5,_,_,rfl⟩
   ·have el:(List.range (b8 (F s)).length).map (λi=>D.int ((n8 cs.length F (s |||2 ^ ((F s).getD i 0))).length:Nat))=(((F s).map λp=>(n8 cs.length F (s |||2 ^ p)).length).map λ(n:Nat)=>(n:Int)).map D.int:=by
     refine bN λi=>?_;rw[ai,ai,ai,ai];by_cases hi:i<(F s).length
     ·rw[cI (by simpa[b8] using hi),ag hi];simp[List.getD,hi]
     ·rw[aO (by simpa[b8] using hi),aO ()]
      rfl
    rw[el];refine Ju (a9 b9) ?_;have es:(((F s).map λp=>(n8 cs.length F (s |||2 ^ p)).length).map λ(n:Nat)=>(n:Int)).sum=((n8 cs.length F s).length:Nat):=by
     rw[Vx jg qr c1];generalize (F s).map (λp=>(n8 cs.length F (s |||2 ^ p)).length)=m
     induction m with
     |nil=>rfl
     |cons x r ih=>simp[ih]
    rw[es];left;exact fin _ _ _ (e4.trans (e5.trans (Ex.snoc _ _))) λg6 z=>⟨z.1,z.2.1,z.2.2.1,_,rfl⟩
 ·obtain⟨e3,h3,⟨kvs,w3,hk,wa⟩,z2,rfl⟩:=q;rw[List.length_reverse,Bm,cv (by simp)] at wa;left;refine h _ _ e3 (aw _) ⟨⟨kvs,w3,λs hs=>?_⟩⟩;rw[oH] at hs ⊢;exact wa s (cX.mpr ((hL s).mpr hs))
end
structure TN(T:Nat->Option bf):Prop where
 rY:T 122=some zE
 Cj:T 123=some P6
section
variable{T:Nat->Option bf}{w:Nat}
theorem aR0(hT:jH T)(hF:TF T)(rY:T 122=some zE)(B:Bd g b cs v rs)(W:Wy g w cs v rs)(hz:cs.length<=9)(hr:rs.length<=900){s:Nat}(hs:gP (p6 cs v rs) s)(fR:s≠2 ^ cs.length-1)(hm:m<(n8 cs.length (p6 cs v rs) s).length)(h:∀(p l:Nat) g',Ex g g'->p∈p6 cs v rs s->l<(n8 cs.length (p6 cs v rs) (s |||2 ^ p)).length->(n8 cs.length (p6 cs v rs) s)[m]?=((n8 cs.length (p6 cs v rs) (s |||2 ^ p))[l]?).map (p::·)->Q (.tup [.int (p:Nat),.int (l:Nat)]) g'):c5 T (k+6) 122 [.ref b,.ref w,.int (s:Nat),.int (m:Nat)] g Q E:=by
 refine call_of rY rfl ?_;dsimp[zE,d0,List.replicate];have jg:=C5 cs v rs;have qr:=hs.lt jg;have eo:=P2 jg qr fR;left;refine V4 (k:=k) hT hF B hz hr qr λg1 ch e1 _ lZ=>?_;generalize oH:p6 cs v rs=F at *;obtain⟨kvs,w1,w2⟩:=W.ex;rw[oH] at w2;left;generalize HD:(λp=>(n8 cs.length F (s |||2 ^ p)).map (p::·))=f at *;have wK:∀p,(f p).length=(n8 cs.length F (s |||2 ^ p)).length:=λp=>by rw[<- HD];simp
 rw[eo] at hm;have OF:0<(F s).length:=by
  cases hl:F s with
  |nil=>rw[hl] at hm;simp at hm
  |cons _ _=>simp
 refine MB (λmm U g'=>Ex g1 g'/\∃j lf:Nat,U=[some (.ref b),some (.ref w),some (.int (s:Nat)),some (.int (m:Nat)),some (.ref ch),some (.int (lf:Nat)),some (.int (j:Nat))]/\j<(F s).length/\mm=(F s).length-j/\m=(((F s).take j).flatMap f).length+lf/\lf<(((F s).drop j).flatMap f).length) _ ⟨Ex.refl _,0,m,rfl,OF,rfl,by simp,by simpa using hm⟩ (λmm U g' q=>?_) (b0 T _);obtain⟨e2,j,lf,rfl,hj,rfl,nN,rH⟩:=q;have hx:=ag hj;generalize (F s)[j]=p at hx;have mI:=aF hx;have nM:=jg _ _ mI;have hv:u7 kvs (kN (s |||2 ^ p))=some (.int ((f p).length:Nat)):=by rw[wK];exact w2 _ (.step hs mI)
 have Dx:gG (b8 (F s)) (j:Int)=some (.int (p:Nat)):=C7 (by rw[b8,ai,hx];rfl);have sp:=aV2 (f:=f) hx lf;have lC:=e1.trans e2;left;refine u3 (a9 (e2.at lZ)) Dx ?_;left;refine B3 (k:=k+4) hT.pD () ?_;refine xE (lC.at w1) rfl hv ?_;left;by_cases hc:(f p).length<=lf
 ·refine ig (ay ()) ?_;refine LL rfl ?_;left;refine u3 (a9 (e2.at lZ)) Dx ?_;left;refine B3 (k:=k+4) hT.pD () ?_;refine xE (lC.at w1) rfl hv ?_;refine bC9 ?_;left;refine LL rfl ?_;left;refine Z' ?_;have tk:(F s).take (j+1)=(F s).take j++[p]:=by rw[bA,hx];rfl
  rw[sp.2,bI] at rH;have rK:j+1<(F s).length:=by
   rcases dB (j+1) (F s).length with z|z
   ·exact z
   ·rw[iY z] at rH;simp at rH;omega
  refine⟨_,?_,e2,j+1,lf-(f p).length,?_,rK,rfl,?_,by omega⟩
  ·omega
  ·have e1:((lf:Nat):Int)-((f p).length:Nat)=((lf-(f p).length:Nat):Int):=by omega
   have e2:((j:Nat):Int)+1=((j+1:Nat):Int):=by omega
   rw[e1,e2]
   rfl
  ·rw[tk,Gf,bI,cH,List.flatMap_nil,dz];omega
 ·refine fX (aI ()) ?_;left;refine u3 (a9 (e2.at lZ)) Dx ?_;left;refine h p lf g' lC mI (by rw[wK] at hc;omega) ?_;rw[eo,nN,sp.1,sp.2,aK (),<- HD];simp
theorem aK8(hT:jH T)(hF:TF T)(hN:TN T)(B:Bd g b cs v rs)(W:Wy g w cs v rs)(hz:cs.length<=9)(hr:rs.length<=900){o:List Nat}(hm:(n8 cs.length (p6 cs v rs) 0)[m]?=some o)(h:∀l g',Ex g g'->g.length<=l->g'[l]?=some (.lst (b8 o))->Q (.ref l) g'):c5 T (k+7) 123 [.ref b,.ref w,.int (m:Nat)] g Q E:=by
 refine call_of hN.Cj rfl ?_;dsimp[P6,d0,List.replicate];have jg:=C5 cs v rs;obtain⟨w0,l0,dd,nb,f1,f2,f3,f4,f5⟩:=B.ex;have p2:=zZ hz;left;have e1:=Ex.snoc g (O.lst []);have h1:=b9 (g:=g) (o:=O.lst []);refine MB (λmm U g'=>Ex g g'/\∃(s lf:Nat) (p:List Nat) (z6:Option D),U=[some (.ref b),some (.ref w),some (.int (m:Nat)),some (.ref g.length),some (.int (s:Nat)),some (.int (lf:Nat)),z6]/\mm=2 ^ cs.length-s/\gP (p6 cs v rs) s/\lf<(n8 cs.length (p6 cs v rs) s).length/\some o=((n8 cs.length (p6 cs v rs) s)[lf]?).map (p++·)/\g'[g.length]?=some (.lst (b8 p))/\p.length<=s) _ ⟨e1,0,m,[],none,rfl,rfl,.zero,(av.mp hm).1,by rw[hm];rfl,h1,by simp⟩ (λmm U g' q=>?_) (b0 T _);obtain⟨e2,s,lf,p,z6,rfl,rfl,hs,rH,ho,hp,gZ⟩:=q;have qr:=hs.lt jg;left;refine V5 (e2.at f1) rfl ?_;left;have ed:decide (((s:Nat):Int)=((2 ^ cs.length-1:Nat):Int))=decide (s=2 ^ cs.length-1):=dQ.mpr ();rw[ed];by_cases fR:s=2 ^ cs.length-1
 ·refine fX (by rw[ay fR];rfl) ?_;left;rw[J9 fR] at rH ho;have:lf=0:=by simp at rH;omega
  subst this;have:o=p:=by simpa using ho
  subst this;exact h _ _ e2 (aw _) hp
 ·refine ig (by rw[aI fR];rfl) ?_;left;refine aR0 (k:=k) hT hF hN.rY (B.at e2) (W.at e2) hz hr hs fR rH λq l g3 e3 hq hl Pt=>?_;refine C2 rfl ?_;have Hk:=jg _ _ hq;have Hm:=e3.at hp;left;refine Q6 Hm (by simp[b8];omega) ?_;left;refine B3 (k:=k+5) hT.pD () ?_;have Hy:=xg Hk.2;have pM:=e2.trans e3;refine⟨_,?_,⟨by simp;exact pM.len,λi hi=>by rw[ax ()];exact pM.old i hi⟩,s |||2 ^ q,l,p++[q],_,rfl,rfl,.step hs hq,hl,?_,?_,by simp;omega⟩
  ·omega
  ·rw[ho,Pt];simp[Option.map_map,Function.comp_def]
  ·rw[get_set Hm];simp[b8]
theorem au2(hT:jH T)(hF:TF T)(hW:TW T)(hN:TN T)(nX:T 124=some L8)(B:Bd g b cs v rs)(hz:cs.length<=9)(hr:rs.length<=900)(h1:n8 cs.length (p6 cs v rs) 0=[]->∀g',Ex g g'->Q .bD g')(h2:∀o l g',(n8 cs.length (p6 cs v rs) 0)[0]?=some o->Ex g g'->g.length<=l->g'[l]?=some (.lst (b8 o))->Q (.ref l) g'):c5 T (k+8) 124 [.ref b] g Q E:=by
 refine call_of nX rfl ?_;dsimp[L8,d0,List.replicate];left;refine Vy (k:=k) hT hF hW B hz hr λw g1 e1 hw W=>?_;left;obtain⟨kvs,w1,w2⟩:=W.ex;refine xE w1 rfl (w2 0 .zero) ?_;left;cases ho:n8 cs.length (p6 cs v rs) 0 with
 |nil =>
  refine ig (by simp) ?_;exact h1 ho _ e1
 |cons o r =>
  refine fX (by simp;omega) ?_;left;exact aK8 (k:=k) hT hF hN (m:=0) (B.at e1) W hz hr (by rw[ho];rfl) λl g2 e2 hl h=>h2 o l g2 (by rw[ho];rfl) (e1.trans e2) (aC e1.len hl) h
end
def jQ(r:List Nat):Nat:=r.foldl (λs p=>s |||2 ^ p) 0
theorem Nc(r:List Nat)(p:Nat):jQ (r++[p])=jQ r |||2 ^ p:=by simp[jQ,List.foldl_append]
theorem zG(r:List Nat)(i:Nat):(jQ r).testBit i=decide (i∈r):=by
 have:∀(r:List Nat) (s:Nat),(r.foldl (λs p=>s |||2 ^ p) s).testBit i=(s.testBit i||decide (i∈r)):=by
  intro r
  induction r with
  |nil=>intro s;simp
  |cons p r ih =>
   intro s;rw[List.foldl_cons,ih,O9,Bool.or_assoc,aY];simp
 rw[jQ,this];simp
theorem SS:∀{r:List Nat},(∀i∈r,i<n)->jQ r<2 ^ n:=λ{r} h=>by
 have:∀(r:List Nat) (s:Nat),(∀i∈r,i<n)->s<2 ^ n->r.foldl (λs p=>s |||2 ^ p) s<2 ^ n:=by
  intro r
  induction r with
  |nil=>intro s _ hs;exact hs
  |cons p r ih=>intro s h hs;exact ih _ (λi hi=>h i (by simp[hi])) (O8 hs (h p (by simp)))
 exact this r 0 h (fm _)
def S7(F:Nat->List Nat):Nat->List (List Nat)
 |0=>[[]]
 |t+1=>(S7 F t).flatMap λr=>(F (jQ r)).map λp=>r++[p]
theorem W5{n:Nat}{F:Nat->List Nat}(hF:FG n F):∀{t:Nat} {r:List Nat},r∈S7 F t->r.length=t/\r.Nodup/\∀i∈r,i<n
 |0,r,h=>by
  cases aQ.mp h;simp
 |t+1,r,h=>by
  obtain⟨r0,h0,h1⟩:=iL.mp h;obtain⟨p,hp,rfl⟩:=aN.mp h1;obtain⟨g1,g2,g3⟩:=W5 hF h0;have nM:=hF _ _ hp;rw[zG] at nM;refine⟨by simp[g1],?_,λi hi=>?_⟩
  ·rw[cx];exact⟨g2,by simp,λx hx y hy=>by cases aQ.mp hy;exact λz=>(by simpa using nM.2:p∉r0) (z▸hx)⟩
  ·rcases aR.mp hi with z|z
   ·exact g3 i z
   ·cases aQ.mp z;exact nM.1
theorem ZP{r:List Nat}(h:r.Nodup)(hl:r.length=n)(hr:∀i∈r,i<n)(hi:i<n):i∈r:=by
 refine eX λhn=>?_;have:=P5 (l:=i::r) (m:=List.range n) (dw.mpr ⟨hn,h⟩) λx hx=>by
  rcases aJ.mp hx with rfl|hx
  ·exact aS.mpr hi
  ·exact aS.mpr (hr x hx)
 simp at this;omega
theorem Nb{r:List Nat}(h:r.Nodup)(hr:∀i∈r,i<n):jQ r=2 ^ n-1↔r.length=n:=by
 constructor
 ·intro e;have:∀i,i<n->i∈r:=λi hi=>by
   have:=zG r i;rw[e,ot,ay hi] at this;exact bj this.symm
  have h1:=P5 (l:=List.range n) (m:=r) my λi hi=>this i (aS.mp hi);have h2:=P5 (l:=r) (m:=List.range n) h λi hi=>aS.mpr (hr i hi);simp at h1 h2;omega
 ·intro hl;refine AD λi=>?_;rw[zG,ot];refine dQ.mpr ⟨hr i,λhi=>ZP h hl hr hi⟩
theorem Kh{n:Nat}{F:Nat->List Nat}(hF:FG n F):∀{t:Nat},t<=n->(S7 F t).flatMap (λr=>(n8 n F (jQ r)).map (r++·))=n8 n F 0
 |0,_=>by simp[S7,jQ]
 |t+1,ht=>by
  rw[<- Kh hF (show t<=n by omega),S7,List.flatMap_assoc];refine E8 λr hr=>?_;obtain⟨g1,g2,g3⟩:=W5 hF hr;have fR:jQ r≠2 ^ n-1:=λz=>by have:=(Nb g2 g3).mp z;omega
  rw[P2 hF (SS g3) fR,List.map_flatMap,List.flatMap_map];refine E8 λp hp=>?_;rw[Nc,bt];refine eY λo _=>?_;simp
theorem MY{F:Nat->List Nat}(hF:FG n F):S7 F n=n8 n F 0:=by
 rw[<- Kh hF (aw n)];have:∀(l:List (List Nat)),(∀r∈l,r∈S7 F n)->l.flatMap (λr=>(n8 n F (jQ r)).map (r++·))=l:=by
  intro l
  induction l with
  |nil=>intro _;rfl
  |cons r l ih =>
   intro h;obtain⟨g1,g2,g3⟩:=W5 hF (h r (by simp));rw[cH,ih λx hx=>h x (by simp[hx]),J9 ((Nb g2 g3).mpr g1)];simp
 exact(this _ λ_ h=>h).symm
def unset(n s:Nat):List Nat:=(List.range n).filter λp=>!s.testBit p
def nj(q:Nat->Nat->Bool):Nat->List Nat->Bool
 |_,[]=>true
 |s,p::r=>q s p&&nj q (s |||2 ^ p) r
theorem KR{α β:Type}{f:α->List β}{q:α->Bool}:∀l:List α,(l.filter q).flatMap f=l.flatMap λx=>if q x=true then f x else[]
 |[]=>rfl
 |x::r=>by
  rw[cH,<- KR r];cases h:q x
  ·rw[List.filter_cons_of_neg (by rw[h];decide),aD ∅]
   rfl
  ·rw[List.filter_cons_of_pos h,aG rfl,cH]
theorem KU{α β:Type}{f:α->List β}{q:β->Bool}:∀l:List α,(l.flatMap f).filter q=l.flatMap λx=>(f x).filter q
 |[]=>rfl
 |x::r=>by rw[cH,eA,KU r,cH]
theorem Le{n:Nat}{F F':Nat->List Nat}{q:Nat->Nat->Bool}(hF:FG n F)(hq:∀s,F' s=(F s).filter (q s)):∀(m s:Nat),2 ^ n-s<=m->s<2 ^ n->n8 n F' s=(n8 n F s).filter (nj q s)
 |0,s,hm,hs=>by omega
 |m+1,s,hm,hs=>by
  have Qz:FG n F':=λs p hp=>hF s p (bL.mp (hq s▸hp)).1;by_cases e:s=2 ^ n-1
  ·rw[J9 e,J9 e]
   rfl
  ·rw[P2 Qz hs e,P2 hF hs e,hq,KR,KU];refine E8 λp hp=>?_;have nM:=hF s p hp;have ih:=Le hF hq m (s |||2 ^ p) (by have:=xg nM.2;omega) (O8 hs nM.1);rw[List.filter_map];cases Hj:q s p
   ·have:(nj q s ∘ λx=>p::x)=λ_=>false:=by funext x;simp[nj,Hj]
    rw[this];simp
   ·rw[aG rfl,ih];have:(nj q s ∘ λx=>p::x)=nj q (s |||2 ^ p):=by funext x;simp[nj,Hj]
    rw[this]
theorem Mm{q:Nat->Nat->Bool}:∀(o pre:List Nat),nj q (jQ pre) o=true↔∀(i p:Nat),o[i]?=some p->q (jQ (pre++o.take i)) p=true
 |[],pre=>by simp[nj]
 |x::r,pre=>by
  rw[nj,<- Nc,aZ,Mm r (pre++[x])];constructor
  ·rintro⟨h1,h2⟩ i p hp;cases i with
   |zero =>
    cases hp;simpa using h1
   |succ i =>
    have:=h2 i p (by simpa using hp);simpa using this
  ·intro h;refine⟨by simpa using h 0 x rfl,λi p hp=>?_⟩;have:=h (i+1) p (by simpa using hp);simpa using this
def Aq(cs:List b7)(r:eU)(s p:Nat):Bool:=!meant cs r.w r.y p||(List.range cs.length).any λi=>s.testBit i&&meant cs r.w r.x i
def Aj(cs:List b7)(v:Int)(s p:Nat):Bool:=!F1 cs s.testBit p&&(!E5 cs s.testBit p&&!decide (v<E3 cs s.testBit p))
theorem VS(cs:List b7)(v:Int)(rs:List eU)(s p:Nat):decide (fault cs v rs s.testBit p="")=(Aj cs v s p&&rs.all λr=>Aq cs r s p):=by
 have en:(rs.all λr=>Aq cs r s p)=N9 cs rs s.testBit p:=rfl;rw[en];unfold fault Aj;cases F1 cs s.testBit p
 ·cases E5 cs s.testBit p
  ·by_cases h:v<E3 cs s.testBit p
   ·rw[aD ∅,aD ∅,aG h,ay h]
    rfl
   ·rw[aD ∅,aD ∅,aD h,aI h];cases N9 cs rs s.testBit p<;>decide +kernel
  rfl
 rfl
theorem Kv(cs:List b7)(v:Int)(rs:List eU)(s:Nat):p6 cs v rs s=(unset cs.length s).filter (λp=>Aj cs v s p&&rs.all λr=>Aq cs r s p):=by
 unfold p6 unset;rw[NY];refine List.filter_congr λp _=>?_;unfold E7;rw[VS,Bool.and_comm]
theorem a14{F:Nat->List Nat}(hF:FG n F){o:List Nat}(h:o∈n8 n F 0):o.length=n/\o.Nodup/\∀i∈o,i<n:=by
 rw[<- MY hF] at h;exact W5 hF h
def many(cs:List b7)(v:Int)(rs:List eU):Nat:=(n8 cs.length (p6 cs v rs) 0).length
def L7:bf:=⟨1,2,(.seq (.set 1 (.call 117 (fy aL))) (.seq (.ifs (dW .Eq (cN bp (dg (.un .USub) (bh 1))) (dg (.fld "full") aL)) (.seq (.ret (.lit .bD)) .pass) .pass) (.seq (.ret bp) .pass)))⟩
section
variable{T:Nat->Option bf}{d:Nat}
theorem aM0{K:G->Prop}(hT:jH T)(ha:g[a]?=some (.lst (cs.map b7.d)))(hz:cs.length<=9)(hg:cs.all C9=true)(hB:∀c∈cs,CB c)(hc:g[c]?=some (.lst (v8 rs)))(hr:rs.length<=900)(h:∀g',Ex g g'->Bd g' g.length cs v rs->K g'):c5 T (k+9) 113 [.ref g.length,.ref a,.int v,.ref c] (g++[.ins "Bounds" []]) (λd g2=>d=.bD/\K g2) E:=by
 have x1:=Ex.snoc g (O.ins "Bounds" []);refine av1 (k:=k) hT (x1.at ha) hz hg hB (x1.at hc) hr b9 λg2 l2 o2 B2=>?_;refine⟨rfl,h g2 ⟨by simp at l2;omega,λi hi=>?_⟩ B2⟩;rw[o2 i (by simp;omega) (),x1.old i hi]
theorem as4(hT:jH T)(hF:TF T)(hW:T 117=some K8)(nW:T 129=some L7)(B:Bd g b cs v rs)(hz:cs.length<=9)(hr:rs.length<=900)(h:∀(L:List Nat) l g',Ex g g'->g.length<=l->g'[l]?=some (.lst (b8 L))->L.Pairwise (· < ·)->(∀s,s∈L↔gP (p6 cs v rs) s)->L.length<=512->(gP (p6 cs v rs) (2 ^ cs.length-1)->Q .bD g')/\(¬gP (p6 cs v rs) (2 ^ cs.length-1)->Q (.ref l) g')):c5 T (k+7) 129 [.ref b] g Q E:=by
 refine call_of nW rfl ?_;dsimp[L7,d0,List.replicate];obtain⟨w0,l0,dd,nb,f1,f2,f3,f4,f5⟩:=B.ex;left;refine KH (k:=k) hT hF hW B hz hr λL l g1 e1 hl h1 pw hL wB=>?_;obtain⟨Pn,yB⟩:=h L l g1 e1 hl h1 pw hL wB;have h0:0∈L:=(hL 0).mpr .zero;have Po:=uU h0;have nP:=ag (show L.length-1<L.length by omega);generalize vQ:L[L.length-1]=z at nP;have atl:gG (b8 L) (-1)=some (.int (z:Nat)):=by
  unfold gG lN;have il:(b8 L).length=L.length:=by simp[b8]
  rw[aD ∅,il,aG (by(clear hz hr hl vQ;omega))];show(b8 L)[(-1+(L.length:Int)).toNat]?=_;rw[show(-1+(L.length:Int)).toNat=L.length-1 by(clear hz hr hl vQ;omega),b8,ai,nP]
  rfl
 have Hc:z∈L:=aF nP;have BG:∀x∈L,x<=z:=λx hx=>by
  obtain⟨i,hi,rfl⟩:=bo.mp hx;rcases dB i (L.length-1) with y|y
  ·have:=cM.mp pw i (L.length-1) hi () y;omega
  ·have:i=L.length-1:=by(clear hz hr hl vQ;omega)
   subst this;omega
 have OY:=((hL z).mp Hc).lt (C5 cs v rs);left;refine u3 (a9 h1) atl ?_;left;refine V5 (e1.at f1) rfl ?_;left;have ed:decide (((z:Nat):Int)=((2 ^ cs.length-1:Nat):Int))=decide (z=2 ^ cs.length-1):=dQ.mpr (by(clear hz hr hl vQ;omega));rw[ed];refine if2 (λc1=>?_) (λc1=>?_)
 ·exact Pn (c1▸(hL z).mp Hc)
 ·left;refine yB λhR=>c1 ?_;have:=BG _ ((hL _).mpr hR);omega
end
def DY:bf:=⟨2,6,(.seq (.set 2 (.lit .bD)) (.seq (.du (.one 3) (.jA (bh 1) (bP (.bin .Add) (bh 9) (bh 1))) (.seq (.set 4 (.make "Bounds" 113 (jv aL bB bp))) (.seq (.set 5 (.call 124 (fy cT))) (.seq (.ifs (dW .IsNot eE (.lit .bD)) (.seq (.ret (.prim .tup (jv bB eE bu))) .pass) .pass) (.seq (.set 2 (.call 129 (fy cT))) .pass))))) (.seq (.ret (.lit .bD)) .pass)))⟩
def DB:bf:=⟨2,3,(.seq (.expr (.call 18 (fy aL))) (.seq (.expr (.call 89 (dX aL bp))) (.seq (.set 2 (.call 134 (dX aL bp))) (.seq (.ifs (dW .Is bu (.lit .bD)) (.seq (.raise "NoOrder" (fy (iF "there is no order with any count of anvils"))) .pass) .pass) (.seq (.ret bu) .pass)))))⟩
def uM(cs:List b7)(o:List Nat):Nat->Nat
 |0=>1
 |t+1=>max (uM cs o t) (E3 cs (jQ (o.take t)).testBit (o.getD t 0))
theorem Ec{cs:List b7}{o:List Nat}{v:Nat}:∀t,uM cs o t<=v↔1<=v/\∀i,i<t->E3 cs (jQ (o.take i)).testBit (o.getD i 0)<=v
 |0=>by simp[uM]
 |t+1=>by
  rw[uM,Nat.max_le,Ec t];constructor
  ·rintro⟨⟨h1,h2⟩,h3⟩;refine⟨h1,λi hi=>?_⟩;rcases dB i t with z|z
   ·exact h2 i z
   ·have:i=t:=by omega
    exact this▸h3
  ·rintro⟨h1,h2⟩;exact⟨⟨h1,λi hi=>h2 i ()⟩,h2 t ()⟩
theorem a13(cs:List b7){v:Nat}(hv:v<=9)(rs:List eU):n8 cs.length (p6 cs v rs) 0=(n8 cs.length (p6 cs 9 rs) 0).filter (nj (λs p=>decide (E3 cs s.testBit p<=v)) 0):=by
 refine Le (C5 cs 9 rs) (λs=>?_) _ 0 (aw _) (fm _);rw[Kv,Kv,NY];refine List.filter_congr λp _=>?_;unfold Aj;have:(!decide ((v:Int)<E3 cs s.testBit p))=(decide (E3 cs s.testBit p<=v)&&!decide ((9:Int)<E3 cs s.testBit p)):=by
  by_cases h:E3 cs s.testBit p<=v
  ·rw[ay h,aI (show ¬(v:Int)<E3 cs s.testBit p by omega),aI (show ¬(9:Int)<E3 cs s.testBit p by omega)]
   rfl
  ·rw[aI h,ay (show(v:Int)<E3 cs s.testBit p by omega)]
   rfl
 rw[this];generalize decide (E3 cs s.testBit p<=v)=q1;generalize (!decide ((9:Int)<E3 cs s.testBit p))=q2;generalize F1 cs s.testBit p=q3;generalize E5 cs s.testBit p=q4;generalize (rs.all λr=>Aq cs r s p)=q5;cases q1<;>cases q2<;>cases q3<;>cases q4<;>cases q5<;>rfl
theorem Kg{o:List Nat}{v:Nat}(h1:1<=v):nj (λs p=>decide (E3 cs s.testBit p<=v)) 0 o=true↔uM cs o o.length<=v:=by
 have:=Mm (q:=λs p=>decide (E3 cs s.testBit p<=v)) o [];rw[show jQ []=0 from rfl] at this;rw[this,Ec];constructor
 ·intro h;refine⟨h1,λi hi=>?_⟩;have:=h i _ (ag hi);simpa[List.getD,hi] using this
 ·rintro⟨_,h⟩ i p hp;have hi:=(av.mp hp).1;have:=h i hi;rw[show o.getD i 0=p by simp[List.getD,hp]] at this;simpa using this
theorem Ka{v:Nat}(h1:1<=v)(h9:v<=9):many cs v rs≠0↔∃o∈n8 cs.length (p6 cs 9 rs) 0,uM cs o o.length<=v:=by
 unfold many;rw[a13 cs h9,Ne,fF,iX];constructor
 ·intro h;refine eX λz=>h λo ho hk=>z ⟨o,ho,(Kg h1).mp hk⟩
 ·rintro⟨o,ho,hm⟩ h;exact h o ho ((Kg h1).mpr hm)
theorem SV(l:List Nat):(jQ l).testBit=iU l:=funext λi=>zG l i
theorem DM{F:Nat->List Nat}:∀{t:Nat} {r:List Nat},r∈S7 F t↔r.length=t/\∀i p,r[i]?=some p->p∈F (jQ (r.take i))
 |0,r=>by
  constructor
  ·intro h;cases aQ.mp h;exact⟨rfl,λi p e=>by simp at e⟩
  ·rintro⟨h,_⟩;cases fF.mp h;exact aQ.mpr rfl
 |t+1,r=>by
  show r∈(S7 F t).flatMap (λr=>(F (jQ r)).map λp=>r++[p])↔_;rw[iL];constructor
  ·rintro⟨r0,h0,h1⟩;obtain⟨p,hp,rfl⟩:=aN.mp h1;obtain⟨hl,hs⟩:=DM.mp h0;refine⟨by simp[hl],λi q e=>?_⟩;by_cases hi:i<r0.length
   ·rw[aK hi] at e;rw[List.take_append_of_le_length ()];exact hs i q e
   ·have PY:i=r0.length:=by
     have:=(av.mp e).1;simp at this;omega
    subst PY;rw[cG (aw _),Nat.sub_self] at e;cases e;rw[List.take_left' rfl];exact hp
  ·rintro⟨hl,hs⟩;have ht:t<r.length:=by omega
   refine⟨r.take t,DM.mpr ⟨by simp;omega,λi p e=>?_⟩,?_⟩
   ·have hi:i<t:=by
     have:=(av.mp e).1;simp at this;omega
    rw[fh hi] at e;rw[List.take_take,ny ()];exact hs i p e
   ·refine aN.mpr ⟨r[t],hs t _ (ag ht),?_⟩;have e:=bA (l:=r) (i:=t);rw[ag ht,cv ()] at e;exact e.symm
structure xO(cs:List b7)(v:Int)(rs:List eU)(o:List Nat):Prop where
 len:o.length=cs.length
 st:∀i p,o[i]?=some p->p<cs.length/\p∉o.take i/\fault cs v rs (iU (o.take i)) p=""
theorem MO{l:List Nat}:p∈p6 cs v rs (jQ l)↔p<cs.length/\p∉l/\fault cs v rs (iU l) p="":=by
 unfold p6 E7;rw[bL,aS,SV,aZ,bQ,lJ,fC]
theorem Wf{o:List Nat}:o∈n8 cs.length (p6 cs v rs) 0↔xO cs v rs o:=by
 rw[<- MY (C5 cs v rs),DM];exact⟨λh=>⟨h.1,λi p e=>MO.mp (h.2 i p e)⟩,λh=>⟨h.len,λi p e=>MO.mpr (h.st i p e)⟩⟩
section
variable{o:List Nat}
theorem xO.none(h:xO cs v rs o):zY cs v rs (o.map λ(i:Nat)=>(i:Int))=none:=by
 have gD:∀i,i<o.length->∃p,o[i]?=some p/\(o.map λ(i:Nat)=>(i:Int)).getD i 0=(p:Nat):=λi hi=>⟨o[i],ag hi,getD_at (by rw[ai,ag hi];rfl)⟩
 unfold zY;rw[aG (by rw[ak,h.len])];have p1:(List.range (o.map λ(i:Nat)=>(i:Int)).length).findSome? (nF cs.length (o.map λ(i:Nat)=>(i:Int)))=Option.none:=by
  rw[gT];intro i hi;rw[aS,ak] at hi;obtain⟨p,e1,e2⟩:=gD i hi;obtain⟨h1,h2,_⟩:=h.st i p e1;unfold nF;rw[e2,aG ⟨by omega,by omega⟩,aD];rw[<- kz];intro z;obtain⟨q,hq,e⟩:=aN.mp z;exact h2 ((by omega:q=p)▸hq)
 have p2:(List.range (o.map λ(i:Nat)=>(i:Int)).length).findSome? (qH cs v rs (o.map λ(i:Nat)=>(i:Int)))=Option.none:=by
  rw[gT];intro i hi;rw[aS,ak] at hi;obtain⟨p,e1,e2⟩:=gD i hi;obtain⟨_,_,h3⟩:=h.st i p e1;unfold qH;have:M0 (o.map λ(i:Nat)=>(i:Int)) i=o.take i:=by
   unfold M0;rw[<- kz,bt];exact(eY λ_ _=>rfl).trans (List.map_id _)
  rw[e2,this,dD,aG h3]
 rw[p1,p2]
 rfl
end
def zq:bf:=⟨3,9,(.seq (.set 3 (.prim .V6 .nil)) (.seq (.set 4 (dg .lst (bh 0))) (.seq (.du (.one 5) (.eL (bP (.bin .Add) (dg .len aL) (bh 1))) (.seq (.set 6 (.prim .V6 .nil)) (.seq (.du (.one 7) (.fk cT) (.seq (.eQ bB gI (.call 148 (mX aL bp bu gI))) (.seq (.du (.one 8) (.fk (cN bB gI)) (.seq (.eQ fb (bP (.bin .Add) gI (.call 147 (fy jz))) (.lit (.bl true))) .pass)) .pass))) (.seq (.set 4 (dg .kM (dg .list fb))) .pass)))) (.seq (.ret bB) .pass))))⟩
theorem Ft{s:Nat}(h:s.testBit p=false):s |||2 ^ p=s+2 ^ p:=by
 induction p generalizing s with
 |zero =>
  rw[Nat.testBit_zero,fC] at h;have h1:=Nat.or_div_two (a:=s) (b:=1);have h2:(s |||1) % 2=1:=xX.mpr (.inr rfl);rw[show(1:Nat) / 2=0 from rfl,Nat.or_zero] at h1;show s |||1=s+1
  omega
 |succ p ih =>
  have h0:(s / 2).testBit p=false:=by rw[Nat.testBit_succ] at h;exact h
  have h1:=Nat.or_div_two (a:=s) (b:=2 ^ (p+1));have h2:=xX (a:=s) (b:=2 ^ (p+1));have e:2 ^ (p+1)=2*2 ^ p:=by rw[Nat.pow_succ,Nat.mul_comm]
  rw[e,Nat.mul_div_cancel_left _ ∅,ih h0] at h1;rw[e] at h2 ⊢;omega
def Lay(F:Nat->List Nat):Nat->Nat->Prop
 |0,s=>s=0
 |i+1,s=>∃r p,Lay F i r/\p∈F r/\s=r |||2 ^ p
theorem Lay.rj{F:Nat->List Nat}:∀{i s:Nat},Lay F i s->gP F s
 |0,_,h=>by cases h;exact .zero
 |i+1,_,⟨r,p,h1,h2,h3⟩=>by rw[h3];exact .step h1.rj h2
theorem UW{F:Nat->List Nat}{s:Nat}(h:gP F s):∃i,Lay F i s:=by
 induction h with
 |zero=>exact⟨0,rfl⟩
 |step _ hp ih=>obtain⟨i,hi⟩:=ih;exact⟨i+1,_,_,hi,hp,rfl⟩
theorem Lay.bits{n:Nat}{F:Nat->List Nat}(hF:FG n F):∀{i s:Nat},Lay F i s->∃l:List Nat,l.Nodup/\l.length=i/\∀q∈l,s.testBit q=true/\q<n
 |0,s,_=>⟨[],oQ,rfl,λq hq=>absurd hq mx⟩
 |i+1,s,⟨r,p,h1,h2,h3⟩=>by
  obtain⟨l,n1,n2,n3⟩:=h1.bits hF;obtain⟨p1,p2⟩:=hF r p h2;refine⟨p::l,dw.mpr ⟨λz=>?_,n1⟩,by simp[n2],λq hq=>?_⟩
  ·rw[(n3 p z).1] at p2;cases p2
  ·rw[h3,O9];rcases aJ.mp hq with rfl|hq
   ·exact⟨by simp,p1⟩
   ·exact⟨by rw[(n3 q hq).1];rfl,(n3 q hq).2⟩
theorem Lay.le{F:Nat->List Nat}(hF:FG n F){s:Nat}(h:Lay F i s):i<=n:=by
 obtain⟨l,n1,n2,n3⟩:=h.bits hF;have:=P5 (m:=List.range n) n1 λq hq=>aS.mpr (n3 q hq).2;rw[fM] at this;omega
def Ky(kvs:List (Key×D))(L:List Nat):Prop:=kvs.map (·.1)=L.map kN/\L.Nodup
theorem Ky.put(h:Ky kvs L)(j:Nat)(x:D):∃L',Ky (putD kvs (kN j) x) L'/\∀s,s∈L'↔s∈L\/s=j:=by
 obtain⟨h1,h2⟩:=h;have mK:(kvs.any λkv=>decide (kv.1=kN j))=true↔j∈L:=by
  rw[aU];constructor
  ·rintro⟨kv,m,e⟩;have e:=bj e;have:kv.1∈L.map kN:=by rw[<- h1];exact Gd m
   obtain⟨i,hi,e2⟩:=aN.mp this;have:i=j:=Classical.byContradiction λz=>EE z (e2.trans e);rw[<- this];exact hi
  ·intro hj;have:kN j∈kvs.map (·.1):=by rw[h1];exact Gd hj
   obtain⟨kv,m,e⟩:=aN.mp this;exact⟨kv,m,ay e⟩
 unfold putD;by_cases hj:j∈L
 ·rw[aG (mK.mpr hj)];refine⟨L,⟨?_,h2⟩,λs=>⟨.inl,λz=>z.elim id λe=>e▸hj⟩⟩;rw[bt,<- h1];refine eY λkv _=>?_;show(if kv.1=kN j then(kv.1,x) else kv).1=kv.1;split<;>rfl
 ·rw[aD λz=>hj (mK.mp z)];refine⟨L++[j],⟨by rw[dy,dy,h1];rfl,cx.mpr ⟨h2,by simp,λa ha b hb=>by simp at hb;subst hb;exact λe=>hj (e▸ha)⟩⟩,λs=>by simp⟩
theorem Ky.len(h:Ky kvs L):kvs.length=L.length:=by simpa using gR List.length h.1
theorem Ky.small(h:Ky kvs L)(hn:n<=9)(hL:∀s∈L,s<2 ^ n):kvs.length<=512:=by
 have h1:=P5 (m:=List.range (2 ^ n)) h.2 λq hq=>aS.mpr (hL q hq);have:=zZ hn;rw[h.len];simp at h1;omega
theorem Ky.keys(h:Ky kvs L):(kvs.map (·.1)).map kD=(L.map λj:Nat=>(j:Int)).map .int:=by
 rw[h.1,bt,bt];rfl
theorem Zq(hn:L.Nodup):∃S:List Nat,(L9 (L.map λj:Nat=>(j:Int))).map D.int=b8 S/\S.Pairwise (· < ·)/\(∀s,s∈S↔s∈L)/\S.length=L.length:=by
 have hp:=Ep (L.map λj:Nat=>(j:Int));have hr:=KJ (L.map λj:Nat=>(j:Int));generalize L9 (L.map λj:Nat=>(j:Int))=Z at *;have hZ:(Z.map Int.toNat).Perm L:=by
  have:=hp.map Int.toNat;rw[bt] at this;have e:(Int.toNat ∘ λj:Nat=>(j:Int))=id:=by funext j;simp
  rw[e,List.map_id] at this;exact this
 have hE:(Z.map Int.toNat).map (λj:Nat=>(j:Int))=Z:=by
  rw[bt];have:∀x∈Z,((λj:Nat=>(j:Int)) ∘ Int.toNat) x=x:=λx hx=>by
   obtain⟨j,_,rfl⟩:=aN.mp (hp.mem_iff.mp hx);simp
  rw[eY this,List.map_id']
 refine⟨Z.map Int.toNat,?_,?_,λs=>hZ.mem_iff,hZ.length_eq⟩
 ·rw[b8,<- hE,bt,bt,bt,hE]
  rfl
 ·have nd:(Z.map Int.toNat).Nodup:=hZ.nodup_iff.mpr hn;have h2:(Z.map Int.toNat).Pairwise (·<=·):=by
   rw[fK];exact hr.imp λh=>Int.toNat_le_toNat h
  exact(h2.and nd).imp λh=>Nat.lt_of_le_of_ne h.1 h.2
def lE(g:G)(t:Nat)(F:Nat->List Nat)(P:Nat->Prop):Prop:=∃kvs L,g[t]?=some (.da kvs)/\Ky kvs L/\(∀s,s∈L↔P s)/\∀s,P s->∃l,u7 kvs (kN s)=some (.ref l)/\g[l]?=some (.lst (b8 (F s)))
theorem lE.at{g g':G}{t:Nat}{F:Nat->List Nat}{P:Nat->Prop}(h:lE g t F P)(e:Ex g g'):lE g' t F P:=by
 obtain⟨kvs,L,h1,h2,h3,h4⟩:=h;exact⟨kvs,L,e.at h1,h2,h3,λs hs=>by obtain⟨l,q1,q4⟩:=h4 s hs;exact⟨l,q1,e.at q4⟩⟩
theorem lE.cg{t:Nat}{F:Nat->List Nat}{P P':Nat->Prop}(h:lE g t F P)(e:∀s,P' s↔P s):lE g t F P':=by
 obtain⟨kvs,L,h1,h2,h3,h4⟩:=h;exact⟨kvs,L,h1,h2,λs=>(h3 s).trans (e s).symm,λs hs=>h4 s ((e s).mp hs)⟩
theorem sV(h1:g[i]?=some (.lst l))(h2:g[j]?=some (.da kvs)):j≠i:=λe=>by rw[e,h1] at h2;cases h2
theorem lE.yn{t w:Nat}{F:Nat->List Nat}{P:Nat->Prop}{kw:List (Key×D)}(h:lE g t F P)(hw:g[w]?=some (.da kw))(ne:w≠t):lE (g.set w o) t F P:=by
 obtain⟨kvs,L,h1,h2,h3,h4⟩:=h;exact⟨kvs,L,d4 h1 ne,h2,h3,λs hs=>by obtain⟨l,q1,q4⟩:=h4 s hs;exact⟨l,q1,d4 q4 (sV q4 hw)⟩⟩
theorem lE.put{g:G}{t l r:Nat}{F:Nat->List Nat}{P:Nat->Prop}{kvs:List (Key×D)}(h:lE g t F P)(hk:g[t]?=some (.da kvs))(hl:g[l]?=some (.lst (b8 (F r)))):lE (g.set t (.da (putD kvs (kN r) (.ref l)))) t F (λs=>P s\/s=r):=by
 obtain⟨jT,L,h1,h2,h3,h4⟩:=h;rw[hk] at h1;cases h1;obtain⟨L',k1,k2⟩:=h2.put r (.ref l);refine⟨_,L',get_set hk,k1,λs=>by rw[k2,h3],λs hs=>?_⟩;by_cases e:s=r
 ·subst e;exact⟨l,DO,d4 hl (sV hl hk)⟩
 ·obtain⟨l',q1,q2⟩:=h4 s (hs.resolve_right e);exact⟨l',by rw[Kf (EE λz=>e z.symm)];exact q1,d4 q2 (sV q2 hk)⟩
theorem take1{l:List α}{x:α}(h:l[i]?=some x)(y:α):y∈l.take (i+1)↔y∈l.take i\/y=x:=by
 rw[bA,h];simp
theorem Je{x:Nat}(h:Ex g g')(hx:g.length<=x):Ex g (g'.set x o):=⟨by simp[h.len],λi hi=>by rw[ax ()];exact h.old i hi⟩
theorem M5(h:(b8 L)[i]?=some x):∃j,L[i]?=some j/\x=.int (j:Nat):=by
 rw[b8,ai,aa] at h;obtain⟨j,h1,h2⟩:=h;exact⟨j,h1,h2.symm⟩
section
variable{T:Nat->Option bf}{d:Nat}
theorem a67(hT:pY T)(wz:FL T)(rV:T 149=some zq)(hB:∀c∈cs,CB c)(ha:g[a]?=some (.lst (cs.map b7.d)))(hz:cs.length<=9)(hc:g[c]?=some (.lst (v8 rs)))(hr:rs.length<=900)(h:∀g' t,Ex g g'->g.length<=t->lE g' t (p6 cs v rs) (gP (p6 cs v rs))->Q (.ref t) g'):c5 T (k+4) 149 [.ref a,.int v,.ref c] g Q E:=by
 refine call_of rV rfl ?_;dsimp[zq,d0,List.replicate];have jg:=C5 cs v rs;left;have e1:=Ex.snoc g (O.da []);have t1:=b9 (g:=g) (o:=O.da []);generalize g++[O.da []]=g1 at *;have l1:=l9 t1;have e2:=e1.trans (Ex.snoc g1 (O.lst [.int 0]));have t2:=(Ex.snoc g1 (O.lst [.int 0])).at t1;have f2:=b9 (g:=g1) (o:=O.lst [.int 0]);generalize g1.length=f at *;refine x5 (b0 T _) (S1 (b0 T _) ?_);left;refine J5 (a9 (e2.at ha)) ?_;left;rw[ak];generalize oH:p6 cs v rs=F at *;refine⟨by omega,by omega,j6 0 (cs.length+1),λi U g'=>Ex g g'/\lE g' g.length F (λs=>∃j,j<i/\Lay F j s)/\∃fr Fr z5 z6 z7 z8,g'[fr]?=some (.lst (b8 Fr))/\g.length<=fr/\(∀s,s∈Fr↔Lay F i s)/\U=[some (.ref a),some (.int v),some (.ref c),some (.ref g.length),some (.ref fr),z5,z6,z7,z8],λ_ _ _ _=>u9,⟨e2,⟨[],[],t2,⟨rfl,oQ⟩,λs=>by simp,λs hs=>by omega⟩,f,[0],none,none,none,none,f2,by omega,λs=>by simp[Lay],rfl⟩,λi x U g' hx q=>?_,λU g' q=>?_⟩
 ·obtain⟨e3,T3,fr,Fr,z5,z6,z7,z8,F3,lf,qy,rfl⟩:=q;obtain⟨hi,rfl⟩:=x6 hx;refine i7 ?_;left;have e4:=e3.trans (Ex.snoc g' (O.da []));have T4:=T3.at (Ex.snoc g' (O.da []));have F4:=(Ex.snoc g' (O.da [])).at F3;have w4:=b9 (g:=g') (o:=O.da []);have lw:=e3.len;have nt:g'.length≠g.length:=λe=>by obtain⟨_,_,q,_⟩:=T3;have:=l9 q;omega
  generalize g'.length=wd at *;refine x5 (b0 T _) (lr (b0 T _) ?_);left;refine⟨_,_,rfl,a9 F4,b8 Fr,λm U g'=>Ex g g'/\g'[fr]?=some (.lst (b8 Fr))/\lE g' g.length F (λs=>(∃j,j<i/\Lay F j s)\/s∈Fr.take m)/\(∃kvs W,g'[wd]?=some (.da kvs)/\Ky kvs W/\∀s,s∈W↔∃r∈Fr.take m,∃p∈F r,s=r |||2 ^ p)/\∃z7 z8,U=[some (.ref a),some (.int v),some (.ref c),some (.ref g.length),some (.ref fr),some (.int ((0:Int)+(i:Nat))),some (.ref wd),z7,z8],λ_ _ _ q=>p8 (a9 q.2.1),⟨e4,F4,T4.cg λs=>by simp,⟨[],[],w4,⟨rfl,oQ⟩,λs=>by simp⟩,z7,z8,rfl⟩,λm x U g' hx q=>?_,λU g' q=>?_⟩
  ·obtain⟨e5,F5,T5,⟨kvs,W,w5,k5,hW⟩,z7,z8,rfl⟩:=q;obtain⟨r,vV,rfl⟩:=M5 hx;refine i7 ?_;left;refine Lq (k:=k) hT wz hB (e5.at ha) hz (e5.at hc) hr λg6 l e6 ll h6=>?_;rw[oH] at h6;have T6:=T5.at e6;obtain⟨kt,L6,vT,k6,Qx,_⟩:=id T6;have dY:∀s,((∃j,j<i/\Lay F j s)\/s∈Fr.take m)->s<2 ^ cs.length:=λs hs=>by
    rcases hs with⟨j,_,hj⟩|hs
    ·exact hj.rj.lt jg
    ·exact((qy s).mp (cB hs)).rj.lt jg
   have hk6:=k6.small hz λs hs=>dY s ((Qx s).mp hs);have Pl:gP F r:=((qy r).mp (aF vV)).rj;left;refine Ar vT rfl () ?_;left;have T7:=T6.put vT h6;have h7:(g6.set g.length (.da (putD kt (kN r) (.ref l))))[l]?=some (.lst (b8 (F r))):=d4 h6 (sV h6 vT);have v7:(g6.set g.length (.da (putD kt (kN r) (.ref l))))[g.length]?=some (.da (putD kt (kN r) (.ref l))):=get_set vT;have e7:Ex g (g6.set g.length (.da (putD kt (kN r) (.ref l)))):=Je (e5.trans e6) (aw _);have F7:(g6.set g.length (.da (putD kt (kN r) (.ref l))))[fr]?=some (.lst (b8 Fr)):=d4 (e6.at F5) (sV (e6.at F5) vT);have w7:(g6.set g.length (.da (putD kt (kN r) (.ref l))))[wd]?=some (.da kvs):=d4 (e6.at w5) (cq nt);generalize g6.set g.length (.da (putD kt (kN r) (.ref l)))=g7 at *;refine x5 (b0 T _) (lr (b0 T _) ?_);left;refine xE v7 rfl DO ?_;refine⟨_,_,rfl,a9 h7,b8 (F r),λq U g'=>Ex g g'/\g'[fr]?=some (.lst (b8 Fr))/\g'[l]?=some (.lst (b8 (F r)))/\lE g' g.length F (λs=>((∃j,j<i/\Lay F j s)\/s∈Fr.take m)\/s=r)/\(∃kvs W,g'[wd]?=some (.da kvs)/\Ky kvs W/\∀s,s∈W↔(∃r∈Fr.take m,∃p∈F r,s=r |||2 ^ p)\/∃p∈(F r).take q,s=r |||2 ^ p)/\∃z8,U=[some (.ref a),some (.int v),some (.ref c),some (.ref g.length),some (.ref fr),some (.int ((0:Int)+(i:Nat))),some (.ref wd),some (.int (r:Nat)),z8],λ_ _ _ q=>p8 (a9 q.2.2.1),⟨e7,F7,h7,T7,⟨kvs,W,w7,k5,λs=>by simp[hW]⟩,z8,rfl⟩,λq x U g' hx q=>?_,λU g' q=>?_⟩
   ·obtain⟨e8,F8,h8,T8,⟨GX,W8,w8,k8,yR⟩,z8,rfl⟩:=q;obtain⟨p,hp,rfl⟩:=M5 hx;have mI:=jg r p (aF hp);refine i7 ?_;left;refine zQ (k:=k+2) wz.mM () λg9 e9=>?_;left;have wb:=k8.small hz λs hs=>by
     rcases(yR s).mp hs with⟨r',fG,p',iK,e⟩|⟨p',iK,e⟩
     ·rw[e];exact(gP.step ((qy r').mp (cB fG)).rj iK).lt jg
     ·rw[e];exact(gP.step Pl (cB iK)).lt jg
    have es:((r:Nat):Int)+((2 ^ p:Nat):Int)=((r |||2 ^ p:Nat):Int):=by rw[Ft mI.2];omega
    rw[es];refine Ar (e9.at w8) rfl () ?_;obtain⟨W9,k9,Qp⟩:=k8.put (r |||2 ^ p) (.bl true);refine⟨Je (e8.trans e9) lw,d4 (e9.at F8) (sV (e9.at F8) (e9.at w8)),d4 (e9.at h8) (sV (e9.at h8) (e9.at w8)),(T8.at e9).yn (e9.at w8) nt,⟨_,W9,get_set (e9.at w8),k9,λs=>?_⟩,_,rfl⟩;rw[Qp,yR];constructor
    ·rintro((z|⟨p',iK,e⟩)|e)
     ·exact .inl z
     ·exact .inr ⟨p',(take1 hp p').mpr (.inl iK),e⟩
     ·exact .inr ⟨p,(take1 hp p).mpr (.inr rfl),e⟩
    ·rintro(z|⟨p',iK,e⟩)
     ·exact .inl (.inl z)
     ·rcases(take1 hp p').mp iK with z|rfl
      ·exact .inl (.inr ⟨p',z,e⟩)
      ·exact .inr e
   ·obtain⟨e8,F8,h8,T8,⟨GX,W8,w8,k8,yR⟩,z8,rfl⟩:=q;refine⟨e8,F8,T8.cg λs=>?_,⟨GX,W8,w8,k8,λs=>?_⟩,_,_,rfl⟩
    ·rw[take1 vV];exact or_assoc.symm
    ·rw[yR,show(F r).take (b8 (F r)).length=F r from cv (by simp[b8])];constructor
     ·rintro(⟨r',fG,z⟩|z)
      ·exact⟨r',(take1 vV r').mpr (.inl fG),z⟩
      ·exact⟨r,(take1 vV r).mpr (.inr rfl),z⟩
     ·rintro⟨r',fG,z⟩;rcases(take1 vV r').mp fG with y|rfl
      ·exact .inl ⟨r',y,z⟩
      ·exact .inr z
  ·obtain⟨e5,F5,T5,⟨kvs,W,w5,k5,hW⟩,z7,z8,rfl⟩:=q;rw[show Fr.take (b8 Fr).length=Fr from cv (by simp[b8])] at T5 hW;have wb:=k5.small hz λs hs=>by
    obtain⟨r',fG,p',iK,e⟩:=(hW s).mp hs;rw[e];exact(gP.step ((qy r').mp fG).rj iK).lt jg
   left;refine YO w5 () ?_;rw[k5.keys];have e6:=Ex.snoc g' (O.lst ((W.map λj:Nat=>(j:Int)).map .int));have h6:=b9 (g:=g') (o:=O.lst ((W.map λj:Nat=>(j:Int)).map .int));refine Uw (a9 h6) (by rw[ak,<- k5.len];omega) ?_;obtain⟨S,s1,s2,s3,s4⟩:=Zq k5.2;rw[s1];refine⟨(e5.trans e6).trans (Ex.snoc _ _),((T5.at e6).at (Ex.snoc _ _)).cg λs=>?_,_,S,_,_,_,_,b9,(e5.trans e6).len,λs=>?_,rfl⟩
   ·rw[qy];constructor
    ·rintro⟨j,hj,z⟩;by_cases e:j=i
     ·subst e;exact .inr z
     ·exact .inl ⟨j,by omega,z⟩
    ·rintro(⟨j,hj,z⟩|z)
     ·exact⟨j,by omega,z⟩
     ·exact⟨i,by omega,z⟩
   ·rw[s3,hW];constructor
    ·rintro⟨r',fG,p',iK,e⟩;exact⟨r',p',(qy r').mp fG,iK,e⟩
    ·rintro⟨r',p',fG,iK,e⟩;exact⟨r',(qy r').mpr fG,p',iK,e⟩
 ·obtain⟨e3,T3,fr,Fr,z5,z6,z7,z8,F3,lf,qy,rfl⟩:=q;left;refine h _ _ e3 (aw _) (T3.cg λs=>⟨λz=>?_,λz=>?_⟩)
  ·obtain⟨i,hi⟩:=UW z;exact⟨i,by rw[j7];have:=hi.le jg;omega,hi⟩
  ·obtain⟨j,_,hj⟩:=z;exact hj.rj
end
theorem MV{n:Nat}{F:Nat->List Nat}(hF:FG n F):∀(m s:Nat),2 ^ n-s<=m->s<2 ^ n->gP F s->n8 n F s≠[]->gP F (2 ^ n-1)
 |0,s,hm,hs,_,_=>by omega
 |m+1,s,hm,hs,hr,ho=>by
  by_cases e:s=2 ^ n-1
  ·exact e▸hr
  ·rw[P2 hF hs e] at ho;obtain⟨o,ho⟩:=qd _ ho;obtain⟨p,hp,hq⟩:=iL.mp ho;obtain⟨q,hq,_⟩:=aN.mp hq;have hb:=hF s p hp;have lt:=O8 hs hb.1;have:s<s |||2 ^ p:=by rw[Ft hb.2];have:=fm p;omega
   exact MV hF m _ () lt (.step hr hp) (NV hq)
theorem a87{F:Nat->List Nat}(hF:FG n F){s:Nat}(h:gP F s):n8 n F s≠[]->n8 n F 0≠[]:=by
 induction h with
 |zero=>exact id
 |step h hp ih =>
  rename_i s p;intro z;refine ih ?_;have hs:=h.lt hF;by_cases e:s=2 ^ n-1
  ·rw[J9 e];exact mB _ _
  ·rw[P2 hF hs e];obtain⟨o,ho⟩:=qd _ z;exact NV (iL.mpr ⟨p,hp,aN.mpr ⟨o,ho,rfl⟩⟩)
theorem zR:gP (p6 cs v rs) (2 ^ cs.length-1)↔many cs v rs≠0:=by
 have hF:=C5 cs v rs;unfold many;rw[Ne,fF];constructor
 ·intro h;refine a87 hF h ?_;rw[J9 rfl];exact mB _ _
 ·exact MV hF _ 0 (aw _) (fm _) .zero
theorem a23{rs:List eU}{v:Nat}(h1:1<=v)(h9:v<=9)(m1:1<=m)(m9:m<=9)(hm:(u4 (cs.map b7.lo)).length<=m)(h:many cs v rs≠0):many cs m rs≠0:=by
 obtain⟨o,ho,_⟩:=(Ka h1 h9).mp h;exact(Ka m1 m9).mpr ⟨o,ho,(Ec _).mpr ⟨m1,λi _=>aC (gf _ _) hm⟩⟩
structure tj(g:G)(lo:Nat)(cs:List b7)(rs:List eU)(n:Int)(y:D):Prop where
 ex:∃(f:Nat) (L:List Nat),y=.ref f/\lo<=f/\g[f]?=some (.lst (b8 L))/\L.Pairwise (· < ·)/\(∀s,s∈L↔gP (p6 cs n rs) s)/\L.length<=512
theorem tj.at{g g':G}{lo:Nat}{cs:List b7}{rs:List eU}{n:Int}{y:D}(h:tj g lo cs rs n y)(e:Ex g g'):tj g' lo cs rs n y :=
 let ⟨f,L,h1,h2,h3,h4⟩:=h.ex
 ⟨⟨f,L,h1,h2,e.at h3,h4⟩⟩
section
variable{T:Nat->Option bf}{d:Nat}{l:Nat}
theorem aL3(hT:jH T)(hF:TF T)(hW:TW T)(hN:TN T)(nX:T 124=some L8)(nW:T 129=some L7)(rX:T 134=some DY)(ha:g[a]?=some (.lst (cs.map b7.d)))(hz:cs.length<=9)(hg:cs.all C9=true)(hB:∀c∈cs,CB c)(hc:g[c]?=some (.lst (v8 rs)))(hr:rs.length<=900)(h1:∀(n:Nat) l y o g',Ex g g'->1<=n->n<=9->(∀j:Nat,1<=j->j<n->many cs j rs=0)->(n8 cs.length (p6 cs n rs) 0)[0]?=some o->g.length<=l->g'[l]?=some (.lst (b8 o))->(n=1/\y=.bD\/1<n/\tj g' g.length cs rs ((n:Int)-1) y/\y≠.ref l)->Q (.tup [.int n,.ref l,y]) g')(h2:(∀j:Nat,1<=j->j<=9->many cs j rs=0)->∀g',Ex g g'->Q .bD g'):c5 T (k+10) 134 [.ref a,.ref c] g Q E:=by
 refine call_of rX rfl ?_;refine x5 (b0 T _) (JG (b0 T _) ?_);left;refine⟨_,_,rfl,rfl,⟨by decide,by decide,by decide,by decide⟩,j6 1 9,λt U g'=>Ex g g'/\(∀j:Nat,1<=j->j<=t->many cs j rs=0)/\∃y z3 z4 z5,U=[some (.ref a),some (.ref c),some y,z3,z4,z5]/\(t=0/\y=.bD\/0<t/\tj g' g.length cs rs (t:Nat) y),λ_ _ _ _=>u9,⟨Ex.refl _,λj _ _=>by omega,.bD,none,none,none,rfl,.inl ⟨rfl,rfl⟩⟩,λt x U g1 hx q=>?_,λU g1 q=>?_⟩
 ·obtain⟨e1,iV,y,z3,z4,z5,rfl,hy⟩:=q;obtain⟨ht,rfl⟩:=x6 hx;rw[show(1:Int)+((t:Nat):Int)=((t+1:Nat):Int) by omega];refine i7 ?_;left;refine aM0 (k:=k) hT (e1.at ha) hz hg hB (e1.at hc) hr λg2 e2 B2=>?_;left;refine au2 (k:=k+1) hT hF hW hN nX B2 hz hr (λho g3 e3=>?_) (λo l g3 ho e3 hl h3=>?_)
  ·left;refine as4 (k:=k+2) hT hF hW.pE nW (B2.at e3) hz hr λL l g4 e4 hl q1 q2 q3 q4=>?_;have wO:=e1.trans (e2.trans e3);have CN:=wO.trans e4;have mt:many cs ((t+1:Nat):Int) rs=0:=by unfold many;rw[ho];rfl
   have m0:∀j:Nat,1<=j->j<=t+1->many cs j rs=0:=λj j1 j2=>by
    rcases dB j (t+1) with z|z
    ·exact iV j j1 ()
    ·have:j=t+1:=by omega
     subst this;exact mt
   refine⟨λhR=>absurd mt (zR.mp hR),λ_=>?_⟩;exact⟨CN,m0,_,_,_,_,rfl,.inr ⟨by omega,⟨l,L,rfl,aC wO.len hl,q1,q2,q3,q4⟩⟩⟩
  ·left;have pM:=e2.trans e3;refine h1 (t+1) l y o _ (e1.trans pM) () () (λj j1 j2=>iV j j1 ()) ho (aC (e1.trans e2).len hl) h3 ?_;rcases hy with⟨rfl,rfl⟩|⟨t0,hy⟩
   ·exact .inl ⟨rfl,rfl⟩
   ·obtain⟨f,L,rfl,p1,p2,p3⟩:=hy.ex;refine .inr ⟨by omega,?_,λz=>?_⟩
    ·rw[show((t+1:Nat):Int)-1=(t:Nat) by omega];exact hy.at pM
    ·cases z;have:=l9 p2;have:=e2.len;omega
 ·obtain⟨e1,iV,y,z3,z4,z5,rfl,_⟩:=q;exact h2 iV _ e1
end
def EF:bf:=⟨1,1,(.seq (.ret (.dM (bP .isin aL (.lit (.ty "list"))) (dg .all (.comp [] 2 (.one 1) (.fk aL) .no (.call 6 (fy bp)))))) .pass)⟩
def DL:bf:=⟨4,8,(.seq (.set 4 (bP (.bin .Sub) (.call 147 (fy (dg .len aL))) (bh 1))) (.seq (.ifs (.jm (.eK (.fV (.call 86 (fy bB)))) (.jm (dW .NotEq bB (dg .sset bB)) (dW .NotIn (bh 0) bB))) (.seq (.ret (.lit (.bl false))) .pass) .pass) (.seq (.ifs (.eK (.fV (dg .all (.comp [4] 3 (.one 2) (.fk bB) .no (.chain .LtE .Lt (bh 0) bu aL))))) (.seq (.ret (.lit (.bl false))) .pass) .pass) (.seq (.set 6 (dg .kZ (.comp [] 2 (.one 1) (.fk bB) .no (bP .tup bp (.lit (.bl true)))))) (.seq (.du (.one 5) (.fk bB) (.seq (.du (.one 7) (.fk (.call 148 (mX aL bp bu eE))) (.seq (.ifs (dW .NotIn (bP (.bin .Add) eE (.call 147 (fy gI))) fb) (.seq (.ret (.lit (.bl false))) .pass) .pass) .pass)) .pass)) (.seq (.ret (.lit (.bl true))) .pass))))))⟩
def Em:bf:=⟨4,4,(.seq (.ret (.dM (.call 86 (fy aL)) (bP (.cmp .Is) (.call 109 (mX bp bu bB aL)) (.lit .bD)))) .pass)⟩
def Fj:bf:=⟨2,2,(.seq (.pV (.seq (.ret (.call 135 (dX aL bp))) .pass) [("NoOrder",(.lit .bD))]) .pass)⟩
def JZ:bf:=⟨2,3,(.seq (.du (.one 2) (.jA (bh 1) (bP (.bin .Add) (bh 1) (bP .max (bh 1) (dg .V3 (.comp [] 2 (.one 1) (.fk aL) .no (cN bp (bh 0))))))) (.seq (.ifs (dW .In (bP (.bin .Sub) (.call 147 (fy (dg .len aL))) (bh 1)) (.call 149 (jv aL bu bp))) (.seq (.ret bu) .pass) .pass) .pass)) (.seq (.ret (.lit .bD)) .pass))⟩
def X6:bf:=⟨4,4,(.seq (.ifs (.jm (dW .Is bB (.lit .bD)) (dW .Is aL (.lit .bD))) (.seq (.ret (.dM (bP (.cmp .Is) aL (.lit .bD)) (bP (.cmp .Is) bB (.lit .bD)))) .pass) .pass) (.seq (.ifs (.jm (.eK (.fV (bP .isin aL (.lit (.ty "tuple"))))) (.jm (dW .NotEq (dg .len aL) (bh 3)) (.eK (.fV (.call 7 (dX (cN aL (bh 0)) bB)))))) (.seq (.ret (.lit (.bl false))) .pass) .pass) (.seq (.ifs (.eK (.fV (.call 151 (mX (cN aL (bh 1)) bp bB bu)))) (.seq (.ret (.lit (.bl false))) .pass) .pass) (.seq (.ifs (dW .Eq bB (bh 1)) (.seq (.ret (bP (.cmp .Is) (cN aL (bh 2)) (.lit .bD))) .pass) .pass) (.seq (.ret (.call 158 (mX bp (bP (.bin .Sub) bB (bh 1)) bu (cN aL (bh 2))))) .pass)))))⟩
def Dm:bf:=⟨1,9,(.seq (.set 1 (.call 3 (fy aL))) (.seq (.du (.one 2) (.eL (bh 2)) (.seq (.mD (.many [3,4,5]) (.call 110 (dX bp (cN (bP .tup (bh 8) (bh 6)) bu)))) (.seq (.set 6 (.call 160 (dX bB eE))) (.seq (.du (.one 7) (.eL (bh 2)) (.seq (.set 8 (.call 30 (dX (dg .list bB) (dg .list eE)))) (.seq (.ifs (.eK (.fV (.call 161 (mX jz bB eE fb)))) (.seq (.ret (.lit (.bl false))) .pass) .pass) (.seq (.ifs (dW .IsNot jz (.lit .bD)) (.seq (.expr (.eW .append (cN jz (bh 1)) (fy (bh 0)))) (.seq (.ifs (dW .IsNot (cN jz (bh 2)) (.lit .bD)) (.seq (.expr (.eW .clear (cN jz (bh 2)) .nil)) .pass) .pass) .pass)) .pass) .pass)))) .pass)))) (.seq (.ret (.lit (.bl true))) .pass)))⟩
structure sZ(T:Nat->Option bf):Prop where
 tb:jH T
 lV:pY T
 tf:TF T
 vb:FL T
 tw:TW T
 tn:TN T
 h3:T 3=some Ap
 h6:T 6=some xF
 h7:T 7=some J1
 QS:T 11=some Dm
 QN:T 30=some Fj
 QL:T 86=some EF
 sf:T 109=some X5
 nX:T 124=some L8
 nW:T 129=some L7
 rX:T 134=some DY
 Ci:T 135=some DB
 rV:T 149=some zq
 Cf:T 151=some Em
 Ce:T 158=some DL
 Cd:T 160=some JZ
 wG:T 161=some X6
inductive Due(cs:List b7)(rs:List eU):D->Prop
 |some {n:Nat} (h1:1<=n) (h9:n<=9) (hm:many cs n rs≠0) (hl:∀j:Nat,1<=j->j<n->many cs j rs=0):Due cs rs (.int n)
 |none (h:∀j:Nat,1<=j->j<=9->many cs j rs=0):Due cs rs .bD
theorem aK4(h:L.Pairwise (· < ·)):u4 (L.map λj:Nat=>(j:Int))=L.map λj:Nat=>(j:Int):=by
 refine W6 ((K5 _).trans ?_) (KN _) (fK.mpr (h.imp λz=>by omega));rw[Lh (ks:=[]) (by exact fK.mpr (h.imp λz e=>by omega))]
 rfl
section
variable{T:Nat->Option bf}{d:Nat}{l w:Nat}
theorem VQ(ha:g[a]?=some (.lst (ns.map .int)))(hb:g[b]?=some (.lst (ns.map .int)))(h:kb true):su g (.ref a) (.ref b) kb:=by
 have rr:∀{x},g[x]?=some (.lst (ns.map .int))->rd g 6 (.ref x)=some (.list (ns.map PyData.int)):=λhx=>by
  simp only[rd];rw[a9 hx];dsimp only;rw[M8]
  rfl
 refine⟨_,.inr (.inr (.inr ⟨_,_,rr ha,rr hb,?_,?_,rfl⟩)),?_⟩
 ·exact lay_ints ns
 ·exact lay_ints ns
 ·simp only[PyData.eqv];rw[VR];exact h
theorem MR(hT:sZ T)(hl:g[l]?=some (.lst (b8 L)))(hz:L.length<=1000)(h:∀g',Ex g g'->Q (.bl true) g'):c5 T (k+2) 86 [.ref l] g Q E:=by
 refine call_of hT.QL rfl ?_;dsimp[EF,d0,List.replicate];left;refine gN (c:="list") (b:=true) ∅ (show(match g[l]? with|some (.lst _)=>some ("list"=="list")|_=>none)=some true by rw[hl];rfl) ?_;left;refine comp_map (b0 T _) (λU=>∃z0 z1,U=[z0,z1]) (λ_=>.bl true) (l:=b8 L) (k:=.lst l) (λg' e=>p8 (a9 (e.at hl))) (by simpa[b8] using hz) ⟨none,none,rfl⟩ (λi x U g' hx e sh=>?_) (λg' e=>?_) (M4 (b0 T _) (a9 hl) λQ q=>w_var (d:=.ref l) rfl q)
 ·obtain⟨z0,z1,rfl⟩:=sh;obtain⟨j,_,rfl⟩:=M5 hx;refine i7 ?_;left;exact Fs hT.h6 ⟨rfl,e,_,_,rfl⟩
 ·refine xf (v:=true) (a9 b9) ?_ (h _ (e.trans (Ex.snoc _ _)));rw[show(List.range (b8 L).length).map (λ_=>D.bl true)=(List.replicate (b8 L).length true).map D.bl by rw[List.map_const',fM,NW],R9];simp
theorem aS4(hT:sZ T)(hB:∀c∈cs,CB c)(ha:g[a]?=some (.lst (cs.map b7.d)))(hz:cs.length<=9)(hc:g[c]?=some (.lst (v8 rs)))(hr:rs.length<=900)(hl:g[l]?=some (.lst (b8 L)))(hL:L.length<=512)(pw:L.Pairwise (· < ·))(h0:0∈L)(dY:∀s∈L,s<2 ^ cs.length-1)(cl:∀s∈L,∀p∈p6 cs v rs s,s+2 ^ p∈L)(h:∀g',Ex g g'->Q (.bl true) g'):c5 T (k+5) 158 [.ref a,.int v,.ref c,.ref l] g Q E:=by
 have li:(b8 L).length=L.length:=by simp[b8]
 refine call_of hT.Ce rfl ?_;dsimp[DL,d0,List.replicate];left;rw[ak];refine zQ (k:=k+3) hT.vb.mM hz λg1 e1=>?_;left;refine MR (k:=k+2) hT (e1.at hl) () λg2 e2=>?_;have lC:=e1.trans e2;left;have nR:=lC.at hl;rw[P8] at nR;refine Nz (a9 nR) (by simp;omega) ?_;rw[aK4 pw];have x3:=Ex.snoc g2 (O.lst ((L.map λj:Nat=>(j:Int)).map .int));have s3:=b9 (g:=g2) (o:=O.lst ((L.map λj:Nat=>(j:Int)).map .int));have Ht:=x3.at nR;have wO:=lC.trans x3;generalize g2++[O.lst ((L.map λj:Nat=>(j:Int)).map .int)]=g3 at *;refine xD (VQ Ht s3 ?_);left;refine X9 (zC (i:=0) (by rw[P8];exact Ht) ?_);rw[ay h0];left;have Hs:g3[l]?=some (.lst (b8 L)):=wO.at hl;refine comp_map (b0 T _) (λU=>∃z1 z2,U=[some (.int (((2 ^ cs.length:Nat):Int)-1)),z1,z2]) (λ_=>.bl true) (l:=b8 L) (k:=.lst l) (λg' e=>p8 (a9 (e.at Hs))) () ⟨none,none,rfl⟩ (λi x U g' hx e sh=>?_) (λg4 e4=>?_) (M4 (b0 T _) (a9 Hs) λQ q=>w_var (d:=.ref l) rfl q)
 ·obtain⟨z1,z2,rfl⟩:=sh;obtain⟨j,hj,rfl⟩:=M5 hx;have:=dY j (aF hj);refine i7 ?_;left;refine ig (ay ()) ?_;left;exact⟨by rw[ay ()],e,_,_,rfl⟩
 refine xf (v:=true) (a9 b9) (by rw[show(List.range (b8 L).length).map (λ_=>D.bl true)=(List.replicate (b8 L).length true).map D.bl by rw[List.map_const',fM,NW],R9];simp) ?_;have e5:=wO.trans (e4.trans (Ex.snoc g4 (O.lst ((List.range (b8 L).length).map λ_=>D.bl true))));left;have yG:=e5.at hl;refine comp_map (b0 T _) (λU=>∃z0 z1,U=[z0,z1]) (λi=>.tup [.int ((L.getD i 0:Nat):Int),.bl true]) (l:=b8 L) (k:=.lst l) (λg' e=>p8 (a9 (e.at yG))) () ⟨none,none,rfl⟩ (λi x U g' hx e sh=>?_) (λg6 e6=>?_) (M4 (b0 T _) (a9 yG) λQ q=>w_var (d:=.ref l) rfl q)
 ·obtain⟨z0,z1,rfl⟩:=sh;obtain⟨j,hj,rfl⟩:=M5 hx;refine i7 ?_;left;exact⟨by simp[List.getD,hj],e,_,_,rfl⟩
 have el:(List.range (b8 L).length).map (λi=>D.tup [.int ((L.getD i 0:Nat):Int),.bl true])=(L.map λj:Nat=>(j:Int)).map λk=>.tup [.int k,.bl true]:=by
  rw[bt,li];refine bN λi=>?_;rw[ai,ai];by_cases hi:i<L.length
  ·simp[List.getD,hi]
  ·rw[aO (by simpa using hi),aO ()]
   rfl
 rw[el];refine Uu (a9 b9) (by simp;omega) (fK.mpr (pw.imp λz e=>by omega)) ?_;have e7:=e5.trans (e6.trans ((Ex.snoc g6 (O.lst ((L.map λj:Nat=>(j:Int)).map λk=>.tup [.int k,.bl true]))).trans (Ex.snoc _ (O.da ((L.map λj:Nat=>(j:Int)).map λk=>(.inl k,.bl true))))));have d7:=b9 (g:=g6++[O.lst ((L.map λj:Nat=>(j:Int)).map λk=>.tup [.int k,.bl true])]) (o:=O.da ((L.map λj:Nat=>(j:Int)).map λk=>(.inl k,.bl true)));generalize (g6++[O.lst ((L.map λj:Nat=>(j:Int)).map λk=>.tup [.int k,.bl true])]).length=dd at *;generalize (g6++[O.lst ((L.map λj:Nat=>(j:Int)).map λk=>.tup [.int k,.bl true])])++[O.da ((L.map λj:Nat=>(j:Int)).map λk=>(.inl k,.bl true))]=g7 at *;have inD:∀s,s∈L->(u7 ((L.map λj:Nat=>(j:Int)).map λk=>((.inl k:Key),D.bl true)) (.inl (s:Nat))).isSome=true:=λs hs=>by
  unfold u7;rw[fI,List.find?_isSome];exact⟨(.inl ((s:Nat):Int),.bl true),aN.mpr ⟨_,aN.mpr ⟨s,hs,rfl⟩,rfl⟩,ay rfl⟩
 have yF:=e7.at hl;refine x5 (b0 T _) (lr (b0 T _) ?_);left;refine⟨l,_,rfl,a9 yF,b8 L,λi U g'=>Ex g7 g'/\∃z5 z7,U=[some (.ref a),some (.int v),some (.ref c),some (.ref l),some (.int (((2 ^ cs.length:Nat):Int)-1)),z5,some (.ref dd),z7],λi U g' q=>p8 (a9 (q.1.at yF)),⟨Ex.refl _,_,_,rfl⟩,λi x U g8 hx q=>?_,λU g8 q=>?_⟩
 ·obtain⟨e8,z5,z7,rfl⟩:=q;obtain⟨s,hs,rfl⟩:=M5 hx;have Pk:=aF hs;refine i7 ?_;left;refine x5 (b0 T _) (lr (b0 T _) ?_);left;have Iy:=e7.trans e8;refine Lq (k:=k+1) hT.lV hT.vb hB (Iy.at ha) hz (Iy.at hc) hr λg9 f e9 hf9 h9=>?_;refine⟨f,_,rfl,a9 h9,b8 (p6 cs v rs s),λj U g'=>Ex g9 g'/\∃z7,U=[some (.ref a),some (.int v),some (.ref c),some (.ref l),some (.int (((2 ^ cs.length:Nat):Int)-1)),some (.int (s:Nat)),some (.ref dd),z7],λj U g' q=>p8 (a9 (q.1.at h9)),⟨Ex.refl _,_,rfl⟩,λj x U sj hx q=>?_,λU sj q=>?_⟩
  ·obtain⟨lD,z7,rfl⟩:=q;obtain⟨p,hp,rfl⟩:=M5 hx;have mI:=aF hp;have hp9:=(C5 cs v rs s p mI).1;refine i7 ?_;left;refine zQ (k:=k+3) hT.vb.mM () λRf sA=>?_;left;rw[show((s:Nat):Int)+((2 ^ p:Nat):Int)=((s+2 ^ p:Nat):Int) by omega];refine X9 ⟨_,.inl ⟨_,_,_,rfl,((e8.trans e9).trans (lD.trans sA)).at d7,rfl,rfl⟩,?_⟩;rw[inD _ (cl s Pk p mI)];left;exact⟨lD.trans sA,_,rfl⟩
  ·obtain⟨lD,z7,rfl⟩:=q;exact⟨e8.trans (e9.trans lD),_,_,rfl⟩
 ·obtain⟨e8,z5,z7,rfl⟩:=q;exact h _ (e7.trans e8)
theorem ZZ(hT:sZ T)(hB:∀c∈cs,CB c)(ha:g[a]?=some (.lst (cs.map b7.d)))(hz:cs.length<=9)(hc:g[c]?=some (.lst (v8 rs)))(hr:rs.length<=900){o:List Nat}(ho:xO cs v rs o)(hl:g[l]?=some (.lst (b8 o)))(h:∀g',Ex g g'->Q (.bl true) g'):c5 T (k+4) 151 [.ref l,.ref a,.int v,.ref c] g Q E:=by
 have hn:=ho.len;refine call_of hT.Cf rfl ?_;dsimp[Em,d0,List.replicate];left;refine MR (k:=k+1) hT hl () λg1 e1=>?_;left;have l1:=e1.at hl;rw[P8] at l1;refine aF1 (k:=k) hT.lV hT.sf hB (e1.at ha) hz (e1.at hc) hr l1 λg2 e2=>?_;rw[ho.none];left;exact h _ (e1.trans e2)
theorem aW6(hT:sZ T)(ha:g[a]?=some (.lst (cs.map b7.d)))(hz:cs.length<=9)(hg:cs.all C9=true)(hB:∀c∈cs,CB c)(hc:g[c]?=some (.lst (v8 rs)))(hr:rs.length<=900)(hR:rs.all (B9 cs)=true)(h1:∀(n:Nat) l y o g',Ex g g'->1<=n->n<=9->(∀j:Nat,1<=j->j<n->many cs j rs=0)->(n8 cs.length (p6 cs n rs) 0)[0]?=some o->g.length<=l->g'[l]?=some (.lst (b8 o))->(n=1/\y=.bD\/1<n/\tj g' g.length cs rs ((n:Int)-1) y/\y≠.ref l)->Q (.tup [.int n,.ref l,y]) g')(h2:(∀j:Nat,1<=j->j<=9->many cs j rs=0)->∀g',Ex g g'->Q .bD g'):c5 T (k+12) 30 [.ref a,.ref c] g Q E:=by
 refine call_of hT.QN rfl ?_;dsimp[Fj,d0,List.replicate];left;refine call_of hT.Ci rfl ?_;dsimp[DB,d0,List.replicate];left;refine Ls (k:=k+4) hT.tb.nf hT.tb.h2 hT.tb.ue hT.tb.wF ha () (λz=>by omega) (λ_ z=>by rw[hg] at z;cases z) λ_ _=>?_;left;refine au7 (k:=k+5) hT.tb ha () hc hr (λ_ g1 e1=>?_) (λz=>by rw[hR] at z;cases z);left;refine aL3 (k:=k) hT.tb hT.tf hT.tw hT.tn hT.nX hT.nW hT.rX (e1.at ha) hz hg hB (e1.at hc) hr (λn l y o g2 e2 n1 n2 n3 n4 n5 n6 n7=>?_) (λiV g2 e2=>?_)
 ·left;refine h1 n l y o _ (e1.trans e2) n1 n2 n3 n4 (aC e1.len n5) n6 ?_;rcases n7 with q|⟨q1,q2,q3⟩
  ·exact .inl q
  ·obtain⟨f,L,p0,p1,p2⟩:=q2.ex;exact .inr ⟨q1,⟨f,L,p0,aC e1.len p1,p2⟩,q3⟩
 ·left;exact h2 iV _ (e1.trans e2)
theorem aI2(hT:sZ T)(hB:∀c∈cs,CB c)(ha:g[a]?=some (.lst (cs.map b7.d)))(hz:cs.length<=9)(hc:g[c]?=some (.lst (v8 rs)))(hr:rs.length<=900)(h:∀x g',Ex g g'->Due cs rs x->Q x g'):c5 T (k+5) 160 [.ref a,.ref c] g Q E:=by
 have pos:=fm cs.length;refine call_of hT.Cd rfl ?_;refine x5 (b0 T _) (JG (b0 T _) ?_);left;refine comp_map (b0 T _) (λU=>∃z0 z1,U=[z0,z1]) (λi=>.int (bT cs i).lo) (l:=cs.map b7.d) (k:=.lst a) (λg' e=>p8 (a9 (e.at ha))) (by simp;omega) ⟨none,none,rfl⟩ (λi x U g' hx e sh=>?_) (λg1 e1=>?_) (M4 (b0 T _) (a9 ha) λQ q=>w_var (d:=.ref a) rfl q)
 ·obtain⟨z0,z1,rfl⟩:=sh;rw[ai,aa] at hx;obtain⟨co,Qf,rfl⟩:=hx;refine i7 ?_;left;refine A2 (show _=some (D.int co.lo) from rfl) ?_;exact⟨by rw[E0 Qf],e,_,_,rfl⟩
 have el:(List.range (cs.map b7.d).length).map (λi=>D.int (bT cs i).lo)=(cs.map b7.lo).map D.int:=by
  rw[bt,ak];refine bN λi=>?_;rw[ai,ai];by_cases hi:i<cs.length
  ·simp[bT,List.getD,hi]
  ·rw[aO (by simpa using hi),aO ()]
   rfl
 rw[el];have e2:=e1.trans (Ex.snoc g1 (O.lst ((cs.map b7.lo).map D.int)));refine Nw (ns:=cs.map b7.lo) (a9 b9) (by simp;omega) ?_;have hL:(u4 (cs.map b7.lo)).length=(ST.i0 [] (cs.map b7.lo)).length:=(K5 _).length_eq;have Qw:=Q9 (cs.map b7.lo);rw[ak] at Qw;obtain⟨M,hM,m1,m9,hm⟩:∃M:Nat,(if(((ST.i0 [] (cs.map b7.lo)).length:Nat):Int)>1 then(((ST.i0 [] (cs.map b7.lo)).length:Nat):Int) else 1)=(M:Int)/\1<=M/\M<=9/\(u4 (cs.map b7.lo)).length<=M:=by
  split
  ·exact⟨_,rfl,by omega,by omega,by omega⟩
  ·exact⟨1,rfl,by omega,by omega,by omega⟩
 left;rw[hM];refine⟨_,_,rfl,rfl,⟨by decide,by decide,by omega,by omega⟩,j6 1 (1+(M:Int)-1).toNat,λt U g'=>Ex g g'/\(∀j:Nat,1<=j->j<=t->many cs j rs=0)/\∃z2,U=[some (.ref a),some (.ref c),z2],λ_ _ _ _=>u9,⟨e2,λj _ _=>by omega,none,rfl⟩,λt x U g3 hx q=>?_,λU g3 q=>?_⟩
 ·obtain⟨e3,iV,z2,rfl⟩:=q;obtain⟨ht,rfl⟩:=x6 hx;rw[show(1:Int)+((t:Nat):Int)=((t+1:Nat):Int) by omega];refine i7 ?_;have a3:=e3.at ha;left;rw[ak];refine zQ (k:=k+3) hT.vb.mM hz λg4 e4=>?_;left;have CM:=e3.trans e4;refine a67 (k:=k) (v:=((t+1:Nat):Int)) hT.lV hT.vb hT.rV hB (CM.at ha) hz (CM.at hc) hr λg5 tt e5 _ T5=>?_;obtain⟨kvs,MM,t4,k4,Qv,_⟩:=T5;have full:∃B:Bool,(B=true↔gP (p6 cs ((t+1:Nat):Int) rs) (2 ^ cs.length-1))/\(u7 kvs (.inl (((2 ^ cs.length:Nat):Int)-1))).isSome=B:=by
   refine⟨_,?_,rfl⟩;rw[show((2 ^ cs.length:Nat):Int)-1=((2 ^ cs.length-1:Nat):Int) by omega];have:(u7 kvs (kN (2 ^ cs.length-1))).isSome=true↔kN (2 ^ cs.length-1)∈kvs.map (·.1):=by
    unfold u7;rw[fI,List.find?_isSome];simp only[List.mem_map,decide_eq_true_eq]
   rw[this,k4.1,<- Qv];constructor
   ·intro z;obtain⟨j,hj,e⟩:=aN.mp z;have:(j:Int)=((2 ^ cs.length-1:Nat):Int):=mU e;rw[<- show j=2 ^ cs.length-1 by omega];exact hj
   ·exact λz=>aN.mpr ⟨_,z,rfl⟩
  obtain⟨B,Ib,QB⟩:=full;refine sI ⟨_,.inl ⟨_,_,_,rfl,t4,rfl,rfl⟩,?_⟩;rw[QB];have sv:=CM.trans e5;cases B
  ·left;refine⟨sv,λj j1 j2=>?_,_,rfl⟩;rcases dB j (t+1) with z|z
   ·exact iV j j1 ()
   ·have:j=t+1:=by omega
    subst this;exact eX λz=>absurd (Ib.mpr (zR.mpr z)) ∅
  ·left;exact h _ _ sv (.some () () (zR.mp (Ib.mp rfl)) λj j1 j2=>iV j j1 ())
 ·obtain⟨e3,iV,z2,rfl⟩:=q;rw[j7] at iV;refine h _ _ e3 (.none λj j1 j9=>eX λz=>?_);exact absurd (iV M m1 ()) (a23 j1 j9 m1 m9 hm z)
theorem aL2(hT:sZ T)(hB:∀c∈cs,CB c)(ha:g[a]?=some (.lst (cs.map b7.d)))(hz:cs.length<=9)(hc:g[c]?=some (.lst (v8 rs)))(hr:rs.length<=900){lo:Nat}{y:D}{o:List Nat}(n1:1<=n)(iV:∀j:Nat,1<=j->j<n->many cs j rs=0)(ho:(n8 cs.length (p6 cs n rs) 0)[0]?=some o)(hl:g[l]?=some (.lst (b8 o)))(hy:n=1/\y=.bD\/1<n/\tj g lo cs rs ((n:Int)-1) y/\y≠.ref l)(h:∀g',Ex g g'->Q (.bl true) g'):c5 T (k+7) 161 [.tup [.int n,.ref l,y],.ref a,.ref c,.int n] g Q E:=by
 have hO:xO cs n rs o:=Wf.mp (aF ho);refine call_of hT.wG rfl ?_;dsimp[X6,d0,List.replicate];left;refine gN (c:="tuple") (b:=true) ∅ rfl ?_;left;refine fX (by simp) ?_;left;refine a25 hT.h6 hT.h7 0 (k:=k+4) (.int _) λg1 e1=>?_;left;refine ZZ (k:=k+2) hT hB (e1.at ha) hz (e1.at hc) hr hO (e1.at hl) λg2 e2=>?_;have lC:=e1.trans e2;left;rcases hy with⟨rfl,rfl⟩|⟨q1,q2,_⟩
 ·refine ig ∅ ?_;left;exact h _ lC
 ·refine fX (by simp;omega) ?_;obtain⟨f,L,rfl,_,p2,p3,p4,p5⟩:=q2.ex;have jg:=C5 cs ((n:Int)-1) rs;have Pz:¬ gP (p6 cs ((n:Int) - 1) rs) (2 ^ cs.length - 1):=λz=>zR.mp z (by
   have:=iV (n-1) () ();rw[show((n-1:Nat):Int)=(n:Int)-1 by omega] at this;exact this)
  left;refine aS4 (k:=k+1) hT hB (lC.at ha) hz (lC.at hc) hr (lC.at p2) p5 p3 ((p4 0).mpr .zero) (λs hs=>?_) (λs hs p hp=>?_) λg3 e3=>?_
  ·have iO:=(p4 s).mp hs;have:=iO.lt jg;have ne:s≠2 ^ cs.length-1:=λz=>Pz (z▸iO);omega
  ·have iO:=(p4 s).mp hs;have:=(jg s p hp).2;rw[<- Ft this];exact(p4 _).mpr (.step iO hp)
  ·exact h _ (lC.trans e3)
theorem Wb(hT:sZ T):c5 T (k+13) 11 [.ref 0] [.pF (ns.map .int)] (λd _=>d=.bl true) kc:=by
 refine call_of hT.QS rfl ?_;dsimp[Dm,d0,List.replicate];left;refine Ut (k:=k+11) hT.h3 (a:=0) (ns:=ns) rfl λd g D0 _ _=>?_;left;refine Km (n:=2) ∅ (λi U g=>j8 g d/\∃z2 z3 z4 z5 z6 z7 z8,U=[some (.ref 0),some (.ref d),z2,z3,z4,z5,z6,z7,z8]) ⟨D0,none,none,none,none,none,none,none,rfl⟩ (λi U g hi p=>?_) (λU g p=>?_)
 ·obtain⟨D1,z2,z3,z4,z5,z6,z7,z8,rfl⟩:=p;have dl:=D1.lt
  try show wpS _ _ _ _ _ _
  left;have hn:∃n:Int,gG [D.int 8,D.int 6] (i:Int)=some (.int n)/\0<=n/\n<=9:=by
   have:i=0\/i=1:=by omega
   rcases this with rfl|rfl
   ·exact⟨8,rfl,by decide,by decide⟩
   ·exact⟨6,rfl,by decide,by decide⟩
  obtain⟨n,hn,n1,n2⟩:=hn;refine A2 hn ?_;left;refine a86 (k:=k+7) hT.lV.toTBR hT.lV.se ⟨n1,n2⟩ D1 λcs rs a c v g2 hl hG ha yO hr hR hc kE hac v1 v2 D2 G2=>?_;refine C2 rfl ?_
  try show wpS _ _ _ _ _ _
  have hz:cs.length<=9:=by omega
  have hB:∀c∈cs,CB c:=λc hc=>⟨(hG c hc).l8,(hG c hc).u8⟩
  have hg:cs.all C9=true:=cR.mpr λc hc=>(hG c hc).good;left;refine aI2 (k:=k+7) hT hB ha hz hc () λx g4 e4 X4=>?_;have D4:=e4.draw D2;have a4:=e4.at ha;have c4:=e4.at hc;left;refine Km (n:=2) ∅ (λj U g'=>(∀x o,x<g4.length->g4[x]?=some o->g'[x]?=some o)/\g4.length<=g'.length/\∃z7 z8,U=[some (.ref 0),some (.ref d),some (.int i),some (.ref a),some (.int v),some (.ref c),some x,z7,z8]) ⟨λ_ _ _ z=>z,aw _,_,_,rfl⟩ (λj U g6 hj p=>?_) (λU g6 p=>?_)
  ·obtain⟨k6,l6,z7,z8,rfl⟩:=p;have la:=l9 a4;have lc:=l9 c4;have a6:=k6 _ _ la a4;have c6:=k6 _ _ lc c4
   try show wpS _ _ _ _ _ _
   left
   try refine An (a9 a6) ?_
   left;have e7:=Ex.snoc g6 (O.lst (cs.map b7.d));have a7:=b9 (g:=g6) (o:=O.lst (cs.map b7.d));generalize g6++[O.lst (cs.map b7.d)]=g7 at *
   try refine An (a9 (e7.at c6)) ?_
   left;have e8:=e7.trans (Ex.snoc g7 (O.lst (v8 rs)));have c8:=b9 (g:=g7) (o:=O.lst (v8 rs));have a8:=(Ex.snoc g7 (O.lst (v8 rs))).at a7;generalize g7++[O.lst (v8 rs)]=g8 at *;have l8:=e8.len;refine aW6 (k:=k) hT a8 hz hg hB c8 () hR (λn l y o g9 e9 q1 q2 q3 q4 q5 q6 q7=>?_) (λiV g9 e9=>?_)
   ·have nm:many cs n rs≠0:=λz=>by
     unfold many at z;rw[fF] at z;rw[z] at q4;cases q4
    have hx:x=.int n:=by
     cases X4 with
     |some x1 x2 x3 x4 =>
      rename_i m;have:m=n:=by
       rcases eM m n with z|z|z
       ·exact absurd (q3 m x1 z) x3
       ·exact z
       ·exact absurd (x4 n q1 z) nm
      rw[this]
     |none iV=>exact absurd (iV n q1 q2) nm
    subst hx;have ee:=e8.trans e9;left;refine aL2 (k:=k+5) hT hB (ee.at a6) hz (ee.at c6) () q1 q3 q4 q6 q7 λsj lD=>?_;have sA:=ee.trans lD;left
    try refine fX rfl ?_
    have ol:o.length<=9:=by
     rw[(a14 (C5 cs n rs) (aF q4)).1];exact hz
    have Bk:=lD.at q6;left;refine Q6 Bk (by simp[b8];omega) ?_;have NH:∀(w:List D) x o,x<g4.length->g4[x]?=some o->(sj.set l (.lst w))[x]?=some o:=λw x o' hx e=>by
     rw[ax ()];exact sA.at (k6 x o' hx e)
    have NG:=aC l6 sA.len;rcases q7 with⟨_,rfl⟩|⟨_,P9,ne⟩
    ·left;exact⟨NH _,by simp;exact NG,_,_,rfl⟩
    ·obtain⟨f,L,rfl,p1,p2,_⟩:=P9.ex;have nf:l≠f:=λz=>ne (by rw[z]);have Il:∀w:List D,(sj.set l (.lst w))[f]?=some (.lst (b8 L)):=λw=>by
      rw[ax nf];exact lD.at p2
     left
     try refine fX rfl ?_
     left;refine⟨Wg (Il _),?_⟩;left;refine Uh (Il _) ?_;left;refine⟨λx o' hx e=>?_,by simp;exact NG,_,_,rfl⟩;rw[ax ()];exact NH _ x o' hx e
   ·have hx:x=.bD:=by
     cases X4 with
     |some x1 x2 x3 x4=>exact absurd (iV _ x1 x2) x3
     |none iV=>rfl
    subst hx;left;refine call_of hT.wG rfl ?_;dsimp[X6,d0,List.replicate];left;have ee:=e8.trans e9;exact⟨λx o hx e=>ee.at (k6 x o hx e),aC l6 ee.len,_,_,rfl⟩
  ·obtain⟨k6,l6,z7,z8,rfl⟩:=p
   try show wpS _ _ _ _ _ _
   left;obtain⟨s,p,b,r,xs,q1,q2,q3⟩:=D4.ex;exact⟨⟨s,p,b,r,xs,k6 _ _ (l9 q1) q1,k6 _ _ (l9 q2) q2,q3⟩,_,_,_,_,_,_,_,rfl⟩
 ·obtain⟨D1,z2,z3,z4,z5,z6,z7,z8,rfl⟩:=p
  try show wpS _ _ _ _ _ _
  left
  rfl
end
end M
namespace Lk
open PySem L2 M
def top(i:Nat):Stmt:=PySem.Challenge.pw_trussel_k24_fewest_anvils.main.body.getD i (.Pass ⟨0,0,0,0⟩)
def TK:Stmt->List Stmt
 |.ClassDef (body:=b) ..=>b
 |_=>[]
def JJ(i j:Nat):Stmt:=(TK (top i)).getD j (.Pass ⟨0,0,0,0⟩)
def F:List RF:=[⟨38,"is_number",["thing"],1,9,Ea⟩,⟨1,"number_from",["number","least","most"],3,10,Y4⟩,⟨2,"good_marks",["marks","least","spot"],1,11,O0⟩,⟨15,"within",["one","other"],2,12,zF⟩,⟨12,"good_coin",["coin","lower","lower_marks","upper","upper_marks","year","good_lower","good_upper"],1,19,C8⟩,⟨39,"check_coin",["coin"],1,20,Ej⟩,⟨18,"check_coins",["coins","coin"],1,21,Y7⟩,⟨40,"check_side",["side"],1,22,U0⟩,⟨19,"die_field",["side"],1,23,DX⟩,⟨74,"places_of",["coins","word","thing","field"],3,24,X3⟩,⟨20,"dies_of",["coins","side","field"],2,25,DA⟩,⟨88,"good_rule",["coins","rule","word","one","other"],2,30,DZ⟩,⟨89,"check_rules",["coins","rules","at","rule"],2,31,Y6⟩,⟨90,"stand_of",["places"],1,32,zN⟩,⟨91,"with_coin",["stand","place"],2,33,X0⟩,⟨92,"more_worn",["one","other","side","field"],2,34,J'⟩,⟨93,"later",["one","other"],2,35,Fl⟩,⟨94,"worn_stands",["coins"],1,36,Lb⟩,⟨95,"later_stands",["coins"],1,37,Lm⟩,⟨96,"die_stands",["coins"],1,38,Ek⟩,⟨97,"needed_stands",["coins","rules","needed","word","one","other","first","place"],2,39,S0⟩,⟨100,"dies_in_use",["bounds","stand","place","struck","left"],3,41,El⟩,⟨101,"next_fault",["bounds","stand","place"],3,42,En⟩,⟨115,"follows",["bounds","stand","place"],3,44,zL⟩,⟨116,"followers",["bounds","stand"],2,45,Kx⟩,⟨117,"reached_stands",["bounds","led_to","told","stand","place"],1,46,K8⟩,⟨121,"ways_on",["bounds","ways","stand"],1,48,DC⟩,⟨122,"step_on",["bounds","ways","stand","number","choices","left","at"],4,49,zE⟩,⟨123,"numbered_order",["bounds","ways","number","order","stand","left","place"],3,50,P6⟩,⟨124,"first_order",["bounds","ways"],1,51,L8⟩,⟨129,"shown_paper",["bounds","stands"],1,53,L7⟩,⟨134,"fewest_of",["coins","rules","paper","count","bounds","order"],2,55,DY⟩,⟨135,"fewest",["coins","rules","told"],2,56,DB⟩,⟨3,"_law_open",["_law_script"],1,58,Ap⟩,⟨4,"_law_pull",["_law_draw","_law_total_of","_law_cell","_law_got","_law_seed"],2,59,J0⟩,⟨6,"_law_num",["_law_found"],1,60,xF⟩,⟨86,"_law_nums",["_law_found"],1,61,EF⟩,⟨7,"_law_like",["_law_found","_law_due"],2,62,J1⟩,⟨21,"_law_order_of",["_law_draw","_law_numbers","_law_left","_law_found","_law_step"],2,63,V2⟩,⟨17,"_law_within",["_law_one","_law_other"],2,64,zM⟩,⟨22,"_law_any_coin",["_law_draw","_law_menu","_law_lower","_law_upper","_law_year"],1,65,zK⟩,⟨23,"_law_seated",["_law_draw","_law_seats","_law_fresh","_law_anvils"],4,66,K7⟩,⟨24,"_law_struck",["_law_draw","_law_size","_law_anvils","_law_seats","_law_fresh","_law_worn","_law_year","_law_step","_law_wear","_law_shift","_law_found","_law_k","_law_keys","_law_key","_law_spot","_law_named","_law_told_year"],3,67,M9⟩,⟨25,"_law_opened",["_law_draw","_law_size","_law_dies","_law_row","_law_held","_law_found","_law_k","_law_year"],2,68,zD⟩,⟨26,"_law_list",["_law_draw","_law_most","_law_size","_law_anvils","_law_way","_law_found","_law_at","_law_coin","_law_other"],2,69,T9⟩,⟨105,"_law_rule",["_law_draw","_law_coins","_law_word","_law_some","_law_at"],2,70,uE⟩,⟨106,"_law_rules",["_law_draw","_law_coins","_law_found","_law_k","_law_rule_here"],2,71,Fm⟩,⟨107,"_law_rule_kept",["_law_coins","_law_ahead","_law_place","_law_rule_here","_law_word","_law_one","_law_other","_law_at"],4,72,Eb⟩,⟨108,"_law_fault",["_law_coins","_law_anvils","_law_rules_here","_law_ahead","_law_place","_law_coin","_law_there_here","_law_at","_law_here","_law_later"],5,73,xq⟩,⟨109,"_law_order_due",["_law_coins","_law_anvils","_law_rules_here","_law_row","_law_k","_law_word"],4,74,X5⟩,⟨146,"_law_there",["_law_stand","_law_size"],2,75,zr⟩,⟨147,"_law_power",["_law_place"],1,76,zo⟩,⟨148,"_law_following",["_law_coins","_law_anvils","_law_rules_here","_law_stand","_law_there_here","_law_found","_law_place"],4,77,Y5⟩,⟨149,"_law_table",["_law_coins","_law_anvils","_law_rules_here","_law_table_here","_law_front","_law_step","_law_wider","_law_stand","_law_place"],3,78,zq⟩,⟨158,"_law_paper_ok",["_law_coins","_law_anvils","_law_rules_here","_law_stands","_law_end","_law_stand","_law_there_here","_law_place"],4,79,DL⟩,⟨151,"_law_good_order",["_law_found","_law_coins","_law_anvils","_law_rules_here"],4,80,Em⟩,⟨110,"_law_ready",["_law_draw","_law_most","_law_coins","_law_anvils"],2,81,zp⟩,⟨30,"_law_asked",["_law_coins","_law_rules_here"],2,82,Fj⟩,⟨160,"_law_count_due",["_law_coins","_law_rules_here","_law_count"],2,83,JZ⟩,⟨161,"_law_fewest_ok",["_law_found","_law_coins","_law_rules_here","_law_due"],4,84,X6⟩,⟨11,"law",["_law_script","_law_draw","_law_turn","_law_coins","_law_anvils","_law_rules_here","_law_due","_law_step","_law_found"],1,85,Dm⟩]
def Ms:List RM:=[⟨113,"Bounds","__init__","Bounds.__init__",["self","coins","anvils","rules"],4,40,0,Y8⟩]
def con:List (Str×D):=[("LAST_SPOT",.int 7),("MOST_COINS",.int 9),("LAST_DIE",.int 99),("LAST_YEAR",.int 9999),("SIDES",.tup [(.str "lower"),(.str "upper")]),("MOST_ANVILS",.int 9),("RULE_WORDS",.tup [(.str "coin"),(.str "lower"),(.str "upper")]),("YEAR_FIELD",.int 4)]
def gd:List (Str×List D):=[("DIE_FIELDS",[.tup [.str "lower",.int 0],.tup [.str "upper",.int 2]])]
def exc:List Str:=["BadCoin","BadRule","BadSide","NoOrder","TooMany"]
def c0:j5:=⟨[],[],true,F.map λr=>(r.nm,r.id),con,["len","enumerate","list","tuple","isinstance","all","range","int","bool","str","max","min","sorted","set","dict","any","sum","reversed"],exc,gd,[("Bounds",113)],Ms.map λr=>(r.nm,r.cl,r.id),[("size","Bounds"),("full","Bounds"),("room","Bounds"),("worn_by_place","Bounds"),("later_by_place","Bounds"),("lower_dies","Bounds"),("needed_by_place","Bounds")],true,true,true⟩
noncomputable abbrev T:Nat->Option bf:=uy F Ms
theorem tx:mn c0 F Ms top JJ:=by
 refine⟨rfl,rfl,by decide +kernel,by decide +kernel,by decide +kernel,by decide +kernel,?_,?_,?_,?_⟩
 all_goals
  repeat first
   |exact BF.nil
   |exact BM.nil
   |exact YF.nil
   |exact YM.nil
   |refine YF.cons (by kernel_rfl) ?_
   |refine YM.cons (by kernel_rfl) ?_
   |refine BF.cons (λ_ _ _ _ _ _=>(by(repeat refine Gn λ_=>?_);exact Gm rfl)) ?_
   |refine BM.cons (λ_ _ _ _ _ _=>(by(repeat refine Gn λ_=>?_);exact Gm rfl)) ?_
inductive uk:List DictEntry->List (Str×V)->Prop
 |nil:uk [] []
 |cons {h:Int} {x:Str} {t:Tok} {u:Value} {v:V} {es:List DictEntry} {vs:List (Str×V)} (r:RelV v u) (q:uk es vs):uk (⟨h,.str x t,u⟩::es) ((x,v)::vs)
theorem uk.find{es vs}(x:Str)(h:uk es vs):K4 (vs.lookup x) (findBy Value.isStrOf es.toArray x):=by
 induction h with
 |nil=>trivial
 |cons r q ih =>
  rename_i h y t u v es vs;unfold findBy at ih ⊢;rw[List.find?_toArray] at ih ⊢;rw[fq,dR];by_cases e:x=y
  ·rw[show(x==y)=true from by simp[e],show Value.isStrOf x (.str y t)=true from by simp[Value.isStrOf,e]];exact r
  ·rw[show(x==y)=false from by simpa using e,show Value.isStrOf x (.str y t)=false from by simp[Value.isStrOf];exact λz=>e (z.symm)];exact ih
theorem all_mk{l:PySem.W.OpenLaw}{w:World}{K:PySem.W.Frag}{h:Heap}{mg:Str->Option Value}{fa:Addr}{CZ CY yW:Addr}{t0 t1 t2 t3 wY wX t5 wW wV wU t7 qG qE qD qz:Tok}{CT:Array (Option Value)}{CV:Nat}{CS:Array (Option Value)}{CU:Nat}{QX:Nat}{nZ nY:Int}(X:K.In h)(G:h.Ns mainGlobals mg)(PZ:mg "law"=some (.ref fa))(I:mq K c0 F Ms top JJ)(e0:PySem.W.nsIn K mainGlobals "LAST_SPOT"=some (some (Value.int 7 t0)))(e1:PySem.W.nsIn K mainGlobals "MOST_COINS"=some (some (Value.int 9 t1)))(e2:PySem.W.nsIn K mainGlobals "LAST_DIE"=some (some (Value.int 99 t2)))(e3:PySem.W.nsIn K mainGlobals "LAST_YEAR"=some (some (Value.int 9999 t3)))(e4:PySem.W.nsIn K mainGlobals "SIDES"=some (some (.ref CZ)))(RJ:K.lookup CZ=some ⟨.type "tuple",none,.seq #[Value.str "lower" wY,Value.str "upper" wX] CV,CT⟩)(e5:PySem.W.nsIn K mainGlobals "MOST_ANVILS"=some (some (Value.int 9 t5)))(e6:PySem.W.nsIn K mainGlobals "RULE_WORDS"=some (some (.ref CY)))(RI:K.lookup CY=some ⟨.type "tuple",none,.seq #[Value.str "coin" wW,Value.str "lower" wV,Value.str "upper" wU] CU,CS⟩)(e7:PySem.W.nsIn K mainGlobals "YEAR_FIELD"=some (some (Value.int 4 t7)))(g0:PySem.W.nsIn K mainGlobals "DIE_FIELDS"=some (some (.ref yW)))(Ra:K.lookup yW=some ⟨.type "dict",none,.dict #[⟨nZ,Value.str "lower" qG,Value.int 0 qE⟩,⟨nY,Value.str "upper" qD,Value.int 2 qz⟩] QX,#[]⟩)(rp:nZ=PyData.keyHash w.params "lower")(rn:nY=PyData.keyHash w.params "upper")(QW:(yW==sysModules)=false)
  : ∃fd:FuncData,(∀(s:Shared) (v:Value),BindsTo s fd ⟨[v],[]⟩ [("_law_script",v)])/\∀base:Heap,K.In base->base.Ns mainGlobals mg->iR l.prog w K mg base (jJ l.prog w) 80 fa fd ["_law_script"] (qk exc K 1 (c5 T 40 11)):=by
 have A:oj w K mg c0 T:=by
  refine Tj I tx X G (λx d hx=>?_) (λx kvs hx=>?_)
  ·have hm:=aT hx;simp only[c0,con,List.mem_cons,List.mem_nil_iff,or_false] at hm;rcases hm with z|z|z|z|z|z|z|z
   ·cases z;exact⟨(.int 7),_,bZ X G e0,⟨_,rfl⟩,λ_ _=>.int _⟩
   ·cases z;exact⟨(.int 9),_,bZ X G e1,⟨_,rfl⟩,λ_ _=>.int _⟩
   ·cases z;exact⟨(.int 99),_,bZ X G e2,⟨_,rfl⟩,λ_ _=>.int _⟩
   ·cases z;exact⟨(.int 9999),_,bZ X G e3,⟨_,rfl⟩,λ_ _=>.int _⟩
   ·cases z;exact⟨.ref CZ,_,bZ X G e4,rfl,λ_ _=>.tup (vs:=[.str "lower",.str "upper"]) (.inr ⟨_,_,_,RJ,rfl,rfl,rfl,(by show 2<=sizeLine;decide),.cons ⟨_,rfl⟩ (.cons ⟨_,rfl⟩ (.nil))⟩) (.cons (.str _) (.cons (.str _) (.nil)))⟩
   ·cases z;exact⟨(.int 9),_,bZ X G e5,⟨_,rfl⟩,λ_ _=>.int _⟩
   ·cases z;exact⟨.ref CY,_,bZ X G e6,rfl,λ_ _=>.tup (vs:=[.str "coin",.str "lower",.str "upper"]) (.inr ⟨_,_,_,RI,rfl,rfl,rfl,(by show 3<=sizeLine;decide),.cons ⟨_,rfl⟩ (.cons ⟨_,rfl⟩ (.cons ⟨_,rfl⟩ (.nil)))⟩) (.cons (.str _) (.cons (.str _) (.cons (.str _) (.nil))))⟩
   ·cases z;exact⟨(.int 4),_,bZ X G e7,⟨_,rfl⟩,λ_ _=>.int _⟩
  ·have hm:=aT hx;simp only[c0,gd,List.mem_cons,List.mem_nil_iff,or_false] at hm;have z:=hm
   ·cases z;have er:uk [⟨nZ,Value.str "lower" qG,Value.int 0 qE⟩,⟨nY,Value.str "upper" qD,Value.int 2 qz⟩] [("lower",.int 0),("upper",.int 2)]:=.cons (v:=.int 0) ⟨_,rfl⟩ (.cons (v:=.int 2) ⟨_,rfl⟩ (.nil));exact⟨yW,_,bZ X G g0,⟨_,_,Ra,⟨⟨_,_,rfl,rp⟩,⟨⟨_,_,rfl,rn⟩,True.intro⟩⟩,QW,λx=>er.find x⟩,.cons (λ_ _=>.int _) (.cons (λ_ _=>.int _) (.nil))⟩
 obtain⟨f,fd,O,a,t⟩:=Mt I tx _ (aF (i:=60) rfl);cases PZ.symm.trans (bZ X G a);obtain⟨oc,od,kV,doc,pm,an,gz,ct,ni,rfl,lk,mJ⟩:=O.fn.ex;exact⟨_,λs v=>.of_eq rfl,λbase ox wI=>ZO ox wI A 40 11 _ _ fa _ rfl O⟩
theorem walk{l:PySem.W.OpenLaw}{q:Program}{loose:List Str}{XP:(Str->Option Value)->Heap->Prop}{YP:World->Heap->Prop}{d:DefRec}{K:Params->PySem.W.Frag}(hn:l.most=some 63)(wm:d.params.defaults=[])(hY:∀(w:World) (h:Heap),YP w h->(K w.params).In h)(F:∀ (w:World) (mg:Str->Option Value) (fa:Addr) (h:Heap),(K w.params).In h->h.Ns mainGlobals mg->mg d.name=some (.ref fa) ->
   ∃ fd:FuncData,(∀ (s:Shared) (u:Value),BindsTo s fd ⟨[u],[]⟩ [("_law_script",u)])/\∀ base:Heap,(K w.params).In base->base.Ns mainGlobals mg->iR l.prog w (K w.params) mg base (jJ l.prog w) 80 fa fd ["_law_script"] (qk exc (K w.params) 1 (c5 T 40 11))) :
  PySem.W.WalkO q loose XP YP l.row.toRowW d [] (λf vs=>PySem.call f vs) :=
 L2.Vw (n:=63) (k:=80) (x:="_law_script") (CX:=λw=>jJ l.prog w) (sp:=λw=>qk exc (K w.params) 1 (c5 T 40 11)) hn ∅ wm ⟨rfl,by decide,by decide⟩ hY F (λw H a ns hl hO hS=>bC1 hO hS (Wb (k:=27) ⟨⟨⟨rfl,rfl⟩,rfl,rfl,⟨rfl,rfl⟩,⟨rfl,rfl⟩,rfl,rfl,rfl,rfl,rfl,rfl,rfl,rfl,rfl,rfl,rfl,rfl,rfl,rfl,rfl,rfl⟩,⟨⟨⟨rfl,rfl,rfl,rfl,rfl,rfl,rfl⟩,rfl,rfl⟩,rfl,rfl,rfl,rfl⟩,⟨rfl,rfl⟩,⟨rfl,rfl,rfl⟩,⟨rfl,rfl⟩,⟨rfl,rfl⟩,rfl,rfl,rfl,rfl,rfl,rfl,rfl,rfl,rfl,rfl,rfl,rfl,rfl,rfl,rfl,rfl⟩)) λ_ _ _ _ _ ⟨_,_,_,_,_,_,_,z⟩=>z
end Lk
end _X
open _X
open PySem PySem.W PyProof.Rows
set_option maxRecDepth 100000 in
set_option maxHeartbeats 0 in
theorem PySem.Challenge.cw_trussel_k24_fewest_anvils_holds : PySem.Challenge.rw_trussel_k24_fewest_anvils.Holds := by
 w_on;o_law;k_head;(case hw=>w_witness2)
 k_fill
 refine Lk.walk (l:=PySem.Challenge.rw_trussel_k24_fewest_anvils) rfl rfl (fun w h Y=>PySem.W.kIn_of Y) ?F
 case F =>
  intro w mg fa h KX G hmg
  refine' Lk.all_mk KX G hmg ⟨?zz1,?zz2,?zz3,?zz4,?zz5,?zz6,?zz7⟩ ?_ ?_ ?_ ?_ ?_ ?_ ?_ ?_ ?_ ?_ ?_ ?_ ?_ ?_ ?_
  (case zz1=>repeat' first | (with_reducible show _=_;k_is) | exact M.PF.nil | apply M.PF.cons)
  (case zz2=>repeat' first | (with_reducible show _=_;k_is) | exact M.PM.nil | apply M.PM.cons)
  (case zz3=>repeat' first | (with_reducible show _=_;k_is) | exact M.PC.nil | apply M.PC.cons)
  (case zz4=>repeat' first | (with_reducible show _=_;k_is) | exact M.PA.nil | apply M.PA.cons)
  (case zz5=>repeat' first | (with_reducible show _=_;k_is) | exact M.PB.nil | apply M.PB.cons)
  (case zz6=>repeat' first | (with_reducible show _=_;first | (with_reducible show PySem.W.excIn _ _ _ _=true;k_exc) | k_is) | exact M.PX.nil | apply M.PX.cons)
  (case zz7=>kernel_rfl)
  all_goals try (with_reducible show _=_;k_is)
  all_goals try ((with_reducible show _=_);rfl)
#print axioms PySem.Challenge.cw_trussel_k24_fewest_anvils_holds
