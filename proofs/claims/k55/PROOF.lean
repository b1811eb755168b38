import PyProof.Rows.All
import Wide.All
import OpenK.AllK
import Wide.FinOn
import Lean
import PyProof.EqAt
import PyProof.EqKinds
import PyProof.TupleCall
import PySem.Challenge.RW_trussel_k55_whole_asked_a_second_time
set_option Elab.async false
set_option linter.all false
set_option maxRecDepth 100000
set_option maxHeartbeats 4000000
set_option genInjectivity false
set_option bootstrap.genMatcherCode false
set_option genSizeOf false
local macro_rules|`(def $i:declId $s:optDeclSig $v:declVal)=>`(noncomputable def $i:declId $s:optDeclSig $v:declVal)
structure PySem.W.Fast:Prop where(tw10789758541184503319 tw15544380358301006133 tw7030268912959842457 tw12089033569837774027 tw8006602512510519572 tw2083821245068263504 tw8851164453201492886 tw9682140098343703716 tw10691801727709901653 tw18265612834442332136 tw17692141736975902563 tw4394513801895590751 tw7022361450592360413 tw6145397703424597518 tw7440856233808033675 tw15295661431926464795 tw12766531972646473334 tw6808063713964589134 tw8896143256665473132 tw17362427678673289597 tw4599353390611277927 tw317339111005669352 tw11528807711042666141 tw15770041511543213535 tw3385543734519867239 tw10160759358939093284 tw2356823985896548402 tw13237597286708880159 tw3979021015322055875 tw14624490268985178939 tw4867345138921702951 tw17801483971439980822 tw17737149235477924132 tw8885961165781933969 tw5506875598910189242 tw2080070242338506384 tw285768358853351862 tw5619712884752082753 tw18153893248746154565 tw14601262433807890128 tw5119923429907759248 tw2828228815342341549 tw8009303556933068969 tw10387423069501684742 tw4786727997168271188 tw1598502654402161733 tw17003668877611137196 tw13150648495662829231 tw10189853972603308224 tw13131094939515376426 tw13555994239574873081 tw2615927641792131587 tw2318039327909719979 tw10260298623490951485 tw7893614646724377404 tw18196611966280142698 tw6058461250560880111 tw17878416866777257706 tw11868189359603628433 tw1768430363133035160 tw1966869870465638838 tw11731812072804858631 tw10252282716792259739 tw7527157474558396108 tw8529853507933564608 tw3361450617202396213 tw14459472765724925523 tw8228306747918632766 tw8392430327028009045 tw10721324144871826331 tw10152087209275245118 tw13020465009938848544 tw5030122243058196880 tw1602692040658838598 tw5573536320715450572 tw16098326564381624117 tw4719685805166901934 tw13022160328146540337 tw10080268209657207916 tw8690977819620446912 tw5868243630036599587 tw17610502309311000374 tw6567312650255920712 tw9073795231537079010 tw8987364351678172842 tw15385127360280456686 tw6666207731664262118 tw2485393660323017939 tw6144062227803833002 tw1904115304037818751 tw15247607893805803120 tw12076093672579053498 tw10029770561584256526 tw14000251565160860357 tw10513124251439072211 tw1247427303622806658 tw11796922282506279352 tw7655562262640143456 tw17692619644909882009 tw4992869784119301552 tw2086735015940896736 tw1174730004258825527 tw14682789740736203040 tw16060228873609218001 tw3834230802474509235 tw14542854693566392787 tw8145042845324777460 tw8202392611851875087 tw18063209371433326437 tw15797934456423626152 tw14265136648666344762 tw15107190595424986752 tw12771104296820927329 tw4910461334303973031 tw9442071254559057076 tw3307953143108664975 tw661051318805554273 tw1076154753891308873 tw9070914983589394669 tw2228569292491964426 tw13927157135376561713 tw12356696030315437406 tw13742747208713027477 tw4520635647106383663 tw2210263138886464021 tw8583427128247104542 tw2140862565758066881 tw16373188660465496693 tw6409646347889030799 tw2096214012170804876 tw1844897640568471243 tw14012172379299511891 tw11552318734402066350 tw709609837602694868 tw1772086422148189631 tw1366646157721986536 tw1716445347138495680 tw13654422017019288494 tw15683376163071366797 tw12542136912002224095 tw1957164773491152182 tw10660737481312701116 tw16344970385317957595 tw17669836451037348101 tw6482025145227879577 tw1285462331004927328 tw4398800773720071934 tw9775253667514386505 tw9299455026705609373 tw8930759815935345351 tw17515624760991959560 tw17442880349246502887 tw16004120016166623519 tw13991128303397498063 tw1592078794535925881 tw1724003235912946865 tw8488873489678026946 tw17049707943595967109 tw1656932766714144229 tw10256705519199281293 tw2323823555506627833 tw9472609923862896648 tw4926080495285612801 tw9452325368039095632 tw11760542066875976158 tw17307701294672038408 tw8025406692468928815 tw3528302951968787545 tw13354421530488981084 tw15669628624455176902 tw14497076931802695664 tw2666392035164902412 tw5186891292626505140 tw9122271926634493743 tw12496310762719195103 tw3009223599132034278 tw16339123175007733041 tw6418071716183037214 tw3600369972789236152 tw17979369035968819656 tw1547790296516740998 tw8878860537067838599 tw15328952182270793770 tw3917240599224562587 tw4428812364003274 tw8949066558751735099 tw14322475404252892162 tw4785900892939797963 tw1423666924975847503 tw9708136530133177068 tw293002150446280671 tw13526464952819055873 tw15118077327843352473 tw5432646778944628294 tw9727278208163948074 tw18322740265457514801 tw18186561829473095361 tw2969959638880423489 tw17418652185881948137 tw5097826699653670459 tw12283198877500507964 tw7371879155526923016 tw12778918816493252298 tw1983996284577538672 tw1684272204140619405 tw14683857048038162572 tw14193643268079536070 tw2948428127957040580 tw10774912239940528072 tw15845160567537929523 tw11543355834874903468 tw11359035819455927606:True)
namespace _X
local macro_rules|`(tactic|left)=>`(tactic|walk_at"")
local macro_rules|`(())=>`(by omega)
local macro_rules|`(∅)=>`(by decide)
local macro_rules|`(tactic|omega)=>`(tactic|lia)
def Be:=@PySem.wpAny_rule
def Bf:=@PySem.Walks.list
def Bg:=@Nat.eq_of_testBit_eq
def Bh:=@List.pairwise_append
def Bi:=@List.mem_of_mem_drop
def Bj:=@List.getElem_toArray
def Bk:=@List.findIdx_getElem
def Bl:=@PySem.Calls.Name_function_global
def Hg:=@PySem.W.hideAll_get
def Hh:=@PySem.W.callWith_K0
def Hi:=@List.length_pos_iff
def Oh:=@PySem.W.of_hideAll
def Oi:=@PySem.W.kitx_tuple
def Oj:=@PySem.W.callWith_K
def Ol:=@Nat.mod_lt
def Om:=@Int.natCast_nonneg
def Oo:=@Int.natAbs_natCast
def Oq:=@Array.append_assoc
def aA:=@List.getElem?_set_ne
def aB:=@decide_eq_false
def aC:=@Nat.lt_of_lt_of_le
def aD:=@List.mem_of_getElem?
def aE:=@if_neg
def aF:=@PySem.Heap.lt_size
def aG:=@Nat.le_trans
def aH:=@if_pos
def aI:=@PySem.Heap.get?_push_size
def aJ:=@List.size_toArray
def aK:=@List.getElem?_append_left
def aL:=@List.mem_cons
def aN:=@List.mem_range
def aO:=@List.any_eq_true
def aP:=@Bool.and_eq_true
def aQ:=@List.getElem?_eq_none
def aR:=@Option.some.inj
def aS:=@Bool.eq_iff_iff
def aT:=@PySem.mem_of_lookup
def aU:=@Nat.ne_of_lt
def aV:=@List.mem_append
def aY:=@List.mem_singleton
def aZ:=@List.mem_map
def aa:=@Option.map_eq_some_iff
def ae:=@PySem.wpAny_bind
def ag:=@Option.bind_eq_some_iff
def ai:=@List.length_map
def aj:=@List.getElem?_map
def ak:=@List.getElem?_eq_some_iff
def ao:=@List.getElem?_eq_getElem
def au:=@PySem.Heap.get?_push_of_some
def av:=@PySem.wpAny_pure
def aw:=@decide_eq_true
def az:=@Nat.le_refl
def bA:=@PySem.wpAny_mono
def bB:=@PySem.Obj.data_mapFields
def bC:=@List.getElem?_range
def bD:=@Array.length_toList
def bE:=@List.take_succ
def bG:=@List.all_eq_true
def bI:=@List.mem_iff_getElem
def bK:=@List.take_length
def bL:=@List.map_cons
def bO:=@List.mem_iff_getElem?
def bP:=@decide_eq_true_eq
def bQ:=@PyProof.Rows.callWith_type1
def bR:=@List.map_map
def bS:=@PyProof.Rows.slot_tuple_getitem
def bT:=@Ne.symm
def bX:=@PySem.W.mg_of
def bY:=@PySem.W.kia_one
def bf:=@List.getElem?_set_self
def bh:=@of_decide_eq_true
def bj:=@List.length_append
def bp:=@List.mem_filter
def bt:=@List.mem_append_right
def bu:=@Nat.lt_irrefl
def bw:=@PySem.Heap.get?_update_self
def bx:=@List.mem_cons_of_mem
def cB:=@Nat.lt_or_ge
def cC:=@List.getElem?_append_right
def cE:=@Int.toNat_natCast
def cI:=@PySem.wpAny_holding
def cJ:=@PySem.wpAny_setState_of
def cK:=@decide_eq_decide
def cL:=@List.lookup_cons
def cM:=@List.length_take
def cN:=@Int.emod_lt_of_pos
def cP:=@Nat.zero_le
def cR:=@PySem.wpAny_Call_Name_kw
def cT:=@List.nodup_append
def cU:=@List.ext_getElem?
def cV:=@List.map_append
def cW:=@Nat.lt_trans
def cX:=@List.filter_eq_nil_iff
def cZ:=@decide_eq_true_iff
def cc:=@Nat.ne_of_gt
def cg:=@List.getElem_mem
def cq:=@List.flatMap_cons
def cu:=@List.getElem?_take_of_lt
def cv:=@PySem.Heap.SameBut.update
def cw:=@PySem.wpAny_truthy_bool
def cx:=@Bool.false_ne_true
def cy:=@decide_eq_false_iff_not
def cz:=@List.length_eq_zero_iff
def dC:=@PySem.Obj.isFreed_of_fields
def dH:=@beq_eq_false_iff_ne
def dI:=@PySem.wpAny_newObj_type
def dJ:=@PySem.F.plainAttrs_list
def dM:=@List.length_cons
def dN:=@List.getElem?_replicate
def dP:=@List.eq_nil_of_length_eq_zero
def dR:=@PySem.W.cellsFrom_some
def dS:=@Nat.lt_of_le_of_lt
def dX:=@PySem.wpAny_setField
def dY:=@List.nodup_cons
def de:=@List.filter_append
def df:=@List.length_filter_le
def dj:=@PySem.Heap.get?_update_other
def dk:=@PySem.wpAny_call_entry
def dn:=@List.getElem?_eq_none_iff
def dt:=@Int.emod_nonneg
def du:=@Bool.or_eq_true
def dw:=@Nat.lt_trichotomy
def dy:=@List.mem_append_left
def eF:=@PySem.wpAny_passesOwn
def eG:=@beq_iff_eq
def eK:=@Nat.le_of_lt
def eM:=@List.drop_eq_getElem_cons
def eO:=@PyProof.Rows.F.plain_set_update_loop
def eP:=@List.filterMap_cons
def eV:=@Option.isSome_iff_exists
def eW:=@PySem.Heap.size_push
def eX:=@Bool.false_or
def eY:=@PySem.Around.under_plainId
def eZ:=@List.range_succ
def et:=@Array.getElem_eq_getD
def fA:=@Int.zero_add
def fB:=@PySem.codeAny_builtin
def fF:=@PySem.tupleKind_room_in1
def fG:=@PySem.call_meets
def fH:=@PySem.wpAny_of_eq
def fI:=@PySem.wpAny_callSpecial?_slot
def fJ:=@Array.getElem?_toList
def fL:=@Nat.lt_succ_self
def fP:=@List.any_cons
def fR:=@PySem.wpAny_typeOf
def fS:=@PySem.wpAny_pyIter_list
def fT:=@List.mem_of_mem_take
def fb:=@List.find?_cons
def fc:=@List.append_nil
def fq:=@PySem.wpAny_standAt
def ft:=@PyProof.Rows.boot_list
def fu:=@List.length_pos_of_mem
def fz:=@List.drop_eq_nil_of_le
def gF:=@Nat.one_le_two_pow
def gG:=@List.mem_cons_self
def gH:=@List.length_eraseIdx_of_lt
def gO:=@List.pairwise_iff_getElem
def gP:=@List.mem_or_eq_of_mem_set
def gU:=@Nat.le_succ
def gW:=@List.reverse_cons
def gX:=@List.filter_congr
def gY:=@List.append_assoc
def gZ:=@Bool.not_eq_true'
def gi:=@PySem.builtinLookup_eq_fast
def gk:=@List.filter_eq_self
def gs:=@PySem.intKind_is
def hV:=@PySem.codeAny_mono
def hZ:=@PySem.F.args_tuple_add_2
def iB:=@PySem.isSubtype_type
def iC:=@congrArg
def iD:=@PySem.F.entry_tuple_add
def iE:=@Nat.le_of_not_lt
def iF:=@List.nodup_range
def iG:=@List.length_drop
def iH:=@List.filter_cons_of_pos
def iJ:=@List.filter_cons_of_neg
def iK:=@List.filter_cons
def iW:=@PySem.F.slot_tuple_add
def iX:=@Nat.not_lt
def iY:=@List.take_of_length_le
def iZ:=@List.set_set
def ia:=@Bool.not_true
def jP:=@PySem.wpAny_isInstance
def jQ:=@PySem.noFill_tuple_add
def jR:=@Nat.pow_le_pow_right
def jS:=@Nat.mul_le_mul_right
def ja:=@List.any_map
def ji:=@Nat.two_pow_pos
def jj:=@List.nil_append
def jk:=@List.length_set
def jr:=@PySem.wpAny_comprehension_free
def js:=@PySem.F.slot_dict_get
def jt:=@Nat.eq_of_beq_eq_true
def ju:=@List.take_append_drop
def jv:=@List.length_singleton
def jw:=@List.length_replicate
def kF:=@PySem.wpAny_execs_nil
def kG:=@PySem.typeLookup_type
def kH:=@forall_congr'
def kI:=@List.all_cons
def kL:=@List.pairwise_cons
def kM:=@List.mem_filterMap
def kO:=@List.find?_eq_none
def kP:=@List.filter_filter
def km:=@PyProof.Rows.F.entry_set_update_loop
def kn:=@List.flatMap_append
def ko:=@PySem.Calls.callWith_builtin
def lH:=@List.findIdx?_eq_some_iff_getElem
def lL:=@PySem.wpAny_field
def lM:=@Option.isSome_map
def lN:=@List.length_range
def lO:=@List.find?_append
def lP:=@PySem.Calls.evalArgs_plain
def mQ:=@List.mem_reverse
def mR:=@List.getElem_inj
def mq:=@List.eraseIdx_eq_take_drop_succ
def mr:=@List.eraseIdxIfInBounds_toArray
def nN:=@List.of_mem_zip
def nO:=@List.filter_map
def nP:=@List.all_append
def nQ:=@PySem.F.args_tuple_add_2
def nt:=@PySem.seq_tuple_add
def nu:=@PySem.plainId_quiet
def nv:=@PySem.Paired.length
def oR:=@Nat.testBit_two_pow_sub_one
def pI:=@PySem.Value.isInt_shape
def pJ:=@Option.ne_none_iff_exists'
def pK:=@PySem.Obj.cls_mapFields
def pL:=@List.getD_eq_getElem?_getD
def pM:=@PySem.F.entry_tuple_add
def qq:=@Decidable.byContradiction
def qr:=@Array.getElem?_eq_getElem
def rA:=@PySem.F.slot_list_append
def rB:=@PyProof.Rows.boot_sorted
def rC:=@PySem.F.slot_tuple_add
def rD:=@Bool.true_and
def rq:=@PySem.wpAny_askSetting
def rz:=@PySem.F.type_list_append
def tX:=@PySem.sizeLine_eq
def tY:=@PySem.F.args_dict_get_3
def tZ:=@PyProof.Rows.boot_tuple
def vk:=@PySem.codeAny_of_tree
def vm:=@PySem.F.entry_dict_get
def vn:=@Nat.pow_succ
def vo:=@Nat.le_of_eq
def vp:=@List.pairwise_lt_range
def vq:=@Bool.not_not
def vt:=@Array.getElem?_eq_none
def yG:=@PyProof.Rows.size_push'
def yH:=@PySem.F.type_list_pop
def yI:=@PySem.F.slot_list_pop
def yJ:=@PyProof.Rows.boot_set
def yK:=@PyProof.Rows.boot_int
def yL:=@Bool.and_eq_false_iff
namespace L2
open PySem PySem.Spec PyProof.Rows
variable{xs vs:List V}{us:List Value}{H H':Hp}{a b f C dx:Addr}{o:HO}{u:Value}{P:Program}{w:World}{h h' base:Heap}{α:Type}{x:Str}{e c tg:Expr}{X:Cx}{pins:List (Addr×Obj)}{Z:St}{s:Shared}{t' i k:Nat}{ch fp:List Addr}{N ps:List Str}{M:Model}{A:Around}{E Q:Value->Shared->Prop}{v:V}{t:TA}{ta tb te:TE}{pos pos' p:Pos}{K:PySem.W.Frag}{es:List Expr}{op:CmpOp}{body:List Stmt}{r:R2}{fd:FuncData}{CX:oQ}{sp:Sp}
noncomputable abbrev Key:=Sum Int Str
def tO:Key->Value->Bool
 |.inl k,v=>Value.isInt k v
 |.inr x,v=>Value.isStrOf x v
def Xv(w:World):Key->Int
 |.inl k=>hashInt k
 |.inr x=>hashStr w x
theorem A5:∀{k:Key} {v:Value},tO k v=true->(∃i t,k=Sum.inl i/\v=Value.int i t)\/(∃x t,k=Sum.inr x/\v=Value.str x t)
 |.inl i,v,h=>by
  obtain⟨t,e⟩:=pI (k:=i) (v:=v) h;exact .inl ⟨i,t,rfl,e⟩
 |.inr x,v,h=>by
  obtain⟨t,e⟩:=Value.isStrOf_shape (x:=x) (v:=v) h;exact .inr ⟨x,t,rfl,e⟩
theorem a51(i:Int)(t:Tok):tO (.inl i) (.int i t)=true:=by simp[tO,Value.isInt]
theorem a50(x:Str)(t:Tok):tO (.inr x) (.str x t)=true:=by simp[tO,Value.isStrOf]
theorem bF2(a b:Int):decide ((Sum.inl a:Key)=Sum.inl b)=(a==b):=by
 by_cases e:a=b
 ·subst e;simp
 ·have h:¬(Sum.inl a:Key)=Sum.inl b:=λq=>e (Sum.inl.inj q);rw[aB h];exact(dH.mpr e).symm
theorem bE9(a b:Str):decide ((Sum.inr a:Key)=Sum.inr b)=decide (a=b):=by
 by_cases e:a=b
 ·subst e;simp
 ·have h:¬(Sum.inr a:Key)=Sum.inr b:=λq=>e (Sum.inr.inj q);rw[aB h,aB e]
theorem bF1(a:Int)(b:Str):decide ((Sum.inl a:Key)=Sum.inr b)=false:=aB (λq=>nomatch q)
theorem bF0(a:Str)(b:Int):decide ((Sum.inr a:Key)=Sum.inl b)=false:=aB (λq=>nomatch q)
def x3(prog:Program)(w:World):PySem.KeyKind prog w Key where
 is:=tO
 hash:=Xv w
 inj:=λv a b ha hb=>by
  rcases A5 ha with⟨i,t,rfl,rfl⟩|⟨x,t,rfl,rfl⟩
  ·rcases A5 hb with⟨j,u,rfl,e⟩|⟨y,u,rfl,e⟩
   ·injection e with e1 _;rw[e1]
   ·exact nomatch e
  ·rcases A5 hb with⟨j,u,rfl,e⟩|⟨y,u,rfl,e⟩
   ·exact nomatch e
   ·injection e with e1 _;rw[e1]
 byValue:=λk v h=>by
  rcases A5 h with⟨i,t,rfl,rfl⟩|⟨x,t,rfl,rfl⟩<;>rfl
 pyHash:=λhv h=>by
  rcases A5 hv with⟨i,t,rfl,rfl⟩|⟨x,t,rfl,rfl⟩
  ·exact wpAny_pyHash_int h
  ·exact wpAny_pyHash_str h
 eqBool:=λhu hv h=>by
  rcases A5 hu with⟨i,t,rfl,rfl⟩|⟨x,t,rfl,rfl⟩
  ·rcases A5 hv with⟨j,u,rfl,rfl⟩|⟨y,u,rfl,rfl⟩
   ·rw[bF2] at h;exact wpAny_eqBool_int h
   ·rw[bF1] at h;exact SeqAt.EqAt.int_str i t y u _ _ _ _ h
  ·rcases A5 hv with⟨j,u,rfl,rfl⟩|⟨y,u,rfl,rfl⟩
   ·rw[bF0] at h;exact SeqAt.EqAt.str_int x t j u _ _ _ _ h
   ·rw[bE9] at h;exact wpAny_eqBool_str h
 «strs»:=λk x t v h=>by
  rcases A5 h with⟨i,u,rfl,e⟩|⟨y,u,rfl,e⟩
  ·exact nomatch e
  ·injection e with e1 _;subst e1;cases v<;>rfl
theorem aU5(prog:Program)(w:World)(k:Key)(v:Value):(x3 prog w).is k v=tO k v:=rfl
theorem aM5(prog:Program)(w:World)(i:Int)(t:Tok):(x3 prog w).is (.inl i) (.int i t)=true:=a51 i t
theorem aM4(prog:Program)(w:World)(x:Str)(t:Tok):(x3 prog w).is (.inr x) (.str x t)=true:=a50 x t
set_option genInjectivity true in
inductive V where
 |br|bl (b:Bool)|int (i:Int)|str (x:Str)|mK (b:Array UInt8)|sY (b:UInt64)|ref (a:Addr)|ty (n:String)
 deriving DecidableEq
def RelV:V->Value->Prop
 |.br,u=>u=Value.none
 |.bl b,u=>u=Value.bool b
 |.int i,u=>∃t,u=Value.int i t
 |.str x,u=>∃t,u=Value.str x t
 |.mK b,u=>∃t,u=Value.bytes b t
 |.sY b,u=>∃t,u=Value.float b t
 |.ref a,u=>u=Value.ref a
 |.ty n,u=>u=Value.type n
noncomputable abbrev Vals:List V->List Value->Prop:=Paired RelV
theorem Vals.length{xs:List V}{us:List Value}(r:Vals xs us):xs.length=us.length:=nv r
theorem Vals.get:∀{xs:List V} {us:List Value} {i:Nat} {x:V},Vals xs us->xs[i]?=some x->∃u,us[i]?=some u/\RelV x u
 |_,_,_,_,.nil,e=>by simp at e
 |_,_,0,_,.cons r _,e=>by simp at e;subst e;exact⟨_,rfl,r⟩
 |_,_,i+1,x,.cons _ t,e=>by
  obtain⟨u,h1,h2⟩:=Vals.get (i:=i) (x:=x) t (by simpa using e);exact⟨u,by simpa using h1,h2⟩
theorem Vals.set{x:V}{u:Value}(r:RelV x u):∀{xs:List V} {us:List Value} (i:Nat),Vals xs us->Vals (xs.set i x) (us.set i u)
 |_,_,_,.nil=>.nil
 |_,_,0,.cons _ t=>.cons r t
 |_,_,i+1,.cons q t=>.cons q (Vals.set r i t)
theorem Vals.append{ys:List V}{ws:List Value}(h:Vals xs us)(s:Vals ys ws):Vals (xs++ys) (us++ws):=by
 induction h with
 |nil=>exact s
 |cons r t ih=>exact .cons r ih
theorem Vals.take:∀{xs:List V} {us:List Value} (n:Nat),Vals xs us->Vals (xs.take n) (us.take n)
 |_,_,0,_=>.nil
 |_,_,_+1,.nil=>.nil
 |_,_,n+1,.cons r t=>.cons r (Vals.take n t)
theorem Vals.drop:∀{xs:List V} {us:List Value} (n:Nat),Vals xs us->Vals (xs.drop n) (us.drop n)
 |_,_,0,r=>r
 |_,_,_+1,.nil=>.nil
 |_,_,n+1,.cons _ t=>Vals.drop n t
def L4:Option V->Option Value->Prop
 |some v,some u=>RelV v u
 |none,none=>True
 |_,_=>False
def KV{κ:Type}:List (κ×V)->List (κ×Value)->Prop:=Paired λ(p:κ×V) (q:κ×Value)=>p.1=q.1/\RelV p.2 q.2
def kV:Key->V
 |.inl i=>.int i
 |.inr x=>.str x
inductive HO where
 |lst (xs:List V)
 |tup (xs:List V)
 |dK (kvs:List (Key×V))|dT (kvs:List (List Key×V))
 |set (S:Int->Bool) (n:Nat)
 |ins (C dx:Addr) (fs:List (Str×V))
 |own (x:Addr)
 |xd (fs:List (Str×V))
 |met (f x:Addr)
 |nC (lo hi:Int)
 |kB (o:Obj) (u:HO)
 |lS (ps:Array Value)
 |ext (φ:Heap->Prop)
noncomputable abbrev Hp:=Addr->Option HO
def upd(H:Hp)(a:Addr)(o:HO):Hp:=λb=>if b=a then some o else H b
theorem x8:upd H a o a=some o:=by unfold upd;rw[aH rfl]
theorem i9(h:b≠a):upd H a o b=H b:=by unfold upd;rw[aE h]
theorem Zx{u:HO}(h:H a=some o)(h':H b=some u)(d:o≠u):a≠b:=by
 intro e;subst e;rw[h] at h';exact d (aR h')
theorem p9(h:H a=some o)(h':H b=none):a≠b:=by
 intro e;subst e;rw[h] at h';cases h'
def P4(h:Heap)(a:Addr)(items:Array Value):Prop:=∃o,h.get? a=some o/\o.cls=.type "tuple"/\(∃n,o.data=.seq items n)/\o.dict=none
theorem P4.tup{h:Heap}{a:Addr}{items:Array Value}(x:P4 h a items):IsTup h a items:=let ⟨o,e,c,d,_⟩:=x;⟨o,e,c,d⟩
theorem P4.new(h:Heap)(items:Array Value):P4 (h.push { cls:=.type "tuple",data:=.seq items }) h.objs.size items:=⟨_,aI _ rfl,rfl,⟨_,rfl⟩,rfl⟩
section
variable(P:Program)(w:World)
def t8(H:Hp)(h:Heap)(a:Addr):HO->Prop
 |.lst xs=>xs.length<=sizeLine/\∃(bo:List Value) (n:Nat),Vals xs bo/\h.get? a=some { cls:=.type "list",data:=.seq bo.toArray n }
 |.tup xs=>xs.length<=sizeLine/\∃bo:List Value,Vals xs bo/\P4 h a bo.toArray
 |.dK kvs=>kvs.length<=sizeLine/\(a==sysModules)=false/\∃vs,KV kvs vs/\h.DictOf (x3 P w) a vs
 |.dT kvs=>kvs.length<=sizeLine/\(a==sysModules)=false/\∃xs:List (List Key×Addr×Value),
   Paired (λ(p:List Key×V) (q:List Key×Addr×Value)=>p.1=q.1/\H q.2.1=some (.tup (p.1.map kV))/\RelV p.2 q.2.2) kvs xs /\
   ∃o es ep,h.get? a=some o/\o.ExactDict/\o.data=.dict es ep/\es.toList=xs.map (entryOfKey (tupleKind (x3 P w)))/\(xs.map (·.1)).Nodup
 |.set S n=>h.SetOf (intKind P w) a S n
 |.ins C dx fs=>H dx=some (.own a)/\fs.length<=1000/\dx≠a/\h.get? a=some (PySem.W.instObj C dx) /\
   ∃mA,h.Ns1 dx mA/\(∀f,L4 (fs.lookup f) (mA f))/\PySem.Within mA (fs.map (·.1))
 |.own _=>∃o,h.get? a=some o
 |.xd fs=>∃mA,h.Ns1 a mA/\∀f,L4 (fs.lookup f) (mA f)
 |.nC lo hi=>∃t u v,h.get? a=some { cls:=.type "range",data:=.fields #[.int lo t,.int hi u,.int 1 v] }
 |.kB o u=>h.get? a=some o/\t8 H h a u
 |.lS ps=>h.get? a=some { cls:=.none,data:=.fields ps }
 |.met f x=>h.get? a=some (PySem.W.methodObj (.ref f) (.ref x))
 |.ext φ=>φ h/\(∃o,h.get? a=some o)/\∀h1 h2:Heap,φ h1->(∀o,h1.get? a=some o->h2.get? a=some o)->φ h2
def gz(H:Hp)(h:Heap):Prop:=∀a o,H a=some o->t8 P w H h a o
end
theorem t8.lt(x:t8 P w H h a o):a<h.objs.size:=by
 cases o with
 |lst xs=>obtain⟨_,_,_,_,e⟩:=x;exact aF e
 |tup xs=>obtain⟨_,_,_,p⟩:=x;exact p.tup.lt
 |dK kvs=>obtain⟨_,_,_,_,o,_,_,e,_⟩:=x;exact aF e
 |dT kvs=>obtain⟨_,_,_,_,o,_,_,e,_⟩:=x;exact aF e
 |set S n=>obtain⟨o,_,_,_,e,_⟩:=x;exact aF e
 |ins C dx fs=>obtain⟨_,_,_,e,_⟩:=x;exact aF e
 |own y=>obtain⟨_,e⟩:=x;exact aF e
 |xd fs=>obtain⟨_,⟨_,_,_,e,_⟩,_⟩:=x;exact aF e
 |nC lo hi=>obtain⟨_,_,_,e⟩:=x;exact aF e
 |kB ob u=>obtain⟨e,_⟩:=x;exact aF e
 |lS ps=>exact aF (show h.get? a=some _ from x)
 |met f y=>exact aF (show h.get? a=some _ from x)
 |ext φ=>obtain⟨_,⟨_,e⟩,_⟩:=x;exact aF e
theorem Paired.Ki{β:Type}{F G:α->β->Prop}{vU:List α}{vT:List β}(h:Paired F vU vT)(f:∀a b,F a b->G a b):Paired G vU vT:=by
 induction h with
 |nil=>exact .nil
 |cons r t ih=>exact .cons (f _ _ r) ih
theorem t8.Z0(x:t8 P w H h a o)(k:∀b u,(b=a\/H b=some (.own a))->h.get? b=some u->h'.get? b=some u)(ho:∀b,H b=some (.own a)->H' b=some (.own a))(ht:∀b xs,H b=some (.tup xs)->H' b=some (.tup xs)):t8 P w H' h' a o:=by
 induction o with
 |lst xs=>obtain⟨z,bo,n,r,e⟩:=x;exact⟨z,bo,n,r,k _ _ (.inl rfl) e⟩
 |tup xs=>obtain⟨z,bo,r,ob,e,c⟩:=x;exact⟨z,bo,r,ob,k _ _ (.inl rfl) e,c⟩
 |dK kvs=>obtain⟨z,y,vs,r,ob,es,ep,e,c⟩:=x;exact⟨z,y,vs,r,ob,es,ep,k _ _ (.inl rfl) e,c⟩
 |dT kvs =>
  obtain⟨z,y,xs,r,ob,es,ep,e,c⟩:=x;exact⟨z,y,xs,Paired.Ki r λp q z=>⟨z.1,ht _ _ z.2.1,z.2.2⟩,ob,es,ep,k _ _ (.inl rfl) e,c⟩
 |set S n=>obtain⟨ob,es,ep,t,e,c⟩:=x;exact⟨ob,es,ep,t,k _ _ (.inl rfl) e,c⟩
 |ins C dx fs =>
  obtain⟨d,z,ne,e,mA,⟨od,es,ep,e2,c⟩,r⟩:=x;exact⟨ho _ d,z,ne,k _ _ (.inl rfl) e,mA,⟨od,es,ep,k _ _ (.inr d) e2,c⟩,r⟩
 |own y=>obtain⟨ob,e⟩:=x;exact⟨ob,k _ _ (.inl rfl) e⟩
 |xd fs=>obtain⟨mA,⟨od,es,ep,e,c⟩,r⟩:=x;exact⟨mA,⟨od,es,ep,k _ _ (.inl rfl) e,c⟩,r⟩
 |nC lo hi=>obtain⟨t,u,v,e⟩:=x;exact⟨t,u,v,k _ _ (.inl rfl) e⟩
 |kB ob u ih=>obtain⟨e,q⟩:=x;exact⟨k _ _ (.inl rfl) e,ih q⟩
 |lS ps =>
  have e:h.get? a=some { cls:=.none,data:=.fields ps }:=x;show h'.get? a=some { cls:=.none,data:=.fields ps };exact k a _ (.inl rfl) e
 |met f y =>
  have e:h.get? a=some (PySem.W.methodObj (.ref f) (.ref y)):=x;show h'.get? a=some (PySem.W.methodObj (.ref f) (.ref y));exact k a _ (.inl rfl) e
 |ext φ=>obtain⟨p,⟨o,e⟩,st⟩:=x;exact⟨st _ _ p λo q=>k _ _ (.inl rfl) q,⟨o,k _ _ (.inl rfl) e⟩,st⟩
theorem gz.lt(x:gz P w H h)(e:H a=some o):a<h.objs.size:=(x a o e).lt
theorem gz.fresh(x:gz P w H h)(e:h.objs.size<=a):H a=none:=by
 cases q:H a with
 |none=>rfl
 |some u=>exact absurd (aC (x.lt q) e) (bu _)
theorem gz.kept(x:gz P w H h)(k:∀b u,h.get? b=some u->h'.get? b=some u):gz P w H h':=λa o e =>
 (x a o e).Z0 (λb u _ q=>k b u q) (λ_ q=>q) λ_ _ q=>q
theorem gz.laid(x:gz P w H h)(k:∀b u,h.get? b=some u->h'.get? b=some u)(hp:h.objs.size<=a)(new:t8 P w (upd H a o) h' a o):gz P w (upd H a o) h':=λb u e=>by
 have hn:=x.fresh hp;by_cases hb:b=a
 ·subst hb;rw[x8] at e;cases e;exact new
 ·rw[i9 hb] at e;exact(x b u e).Z0 (λc v _ q=>k c v q) (λc q=>by rw[i9 (p9 q hn)];exact q) λc xs q=>by rw[i9 (p9 q hn)];exact q
def Rd(H:Hp)(a:Addr)(u:HO):Prop:=H a=some u\/∃o,H a=some (.kB o u)
theorem Rd.ok{u:HO}(r:Rd H a u)(x:gz P w H h):t8 P w H h a u:=by
 rcases r with r|⟨o,r⟩
 ·exact x a u r
 ·obtain⟨_,q⟩:=x a _ r;exact q
def yz:Option HO->Prop
 |some (.lst _)=>True
 |some (.dK _)=>True
 |some (.dT _)=>True
 |some (.set _ _)=>True
 |some (.ins _ _ _)=>True
 |some (.ext _)=>True
 |_=>False
section
variable{x e:Addr}{o':HO}
theorem gz.write(ok:gz P w H h)(mu:yz (H x))(he:e=x\/H e=some (.own x))(k:∀b u,b≠e->h.get? b=some u->h'.get? b=some u)(qL:∃u,h'.get? e=some u)(new:t8 P w (upd H x o') h' x o'):gz P w (upd H x o') h':=λb u q=>by
 have vL:∀c y,H c=some (.own y)->c≠x:=λc y r z=>by subst z;rw[r] at mu;exact mu
 have BG:∀c xs,H c=some (.tup xs)->c≠x:=λc xs r z=>by subst z;rw[r] at mu;exact mu
 by_cases hb:b=x
 ·subst hb;rw[x8] at q;cases q;exact new
 ·rw[i9 hb] at q;by_cases sI:b=e
  ·have q':H b=some (.own x):=by
    rcases he with z|z
    ·exact absurd (sI.trans z) hb
    ·rw[sI];exact z
   rw[q] at q';cases q';obtain⟨v,hv⟩:=qL;exact⟨v,by rw[sI];exact hv⟩
  ·refine(ok b u q).Z0 (λc v hc r=>k c v ?_ r) (λc r=>by rw[i9 (vL c b r)];exact r) λc xs r=>by rw[i9 (BG c xs r)];exact r
   rcases hc with rfl|hc
   ·exact sI
   ·rintro rfl;rcases he with z|z
    ·exact vL c b hc z
    ·rw[hc] at z;cases z;exact hb rfl
end
structure Un(fs ex:List Addr)(H H':Hp)(h h':Heap):Prop where
 keep:∀b o,h.get? b=some o->H b=none->b∉fs->b∉ex->h'.get? b=some o
 slot:∀b o,h.get? b=some o->H b=none->b∈fs->b∉ex->∃sl,h'.get? b=some { o with slots:=sl }
 free:∀b o,h.get? b=some o->H b=none->b∉ex->H' b=none
 there:∀b o,h.get? b=some o->b∉ex->∃o',h'.get? b=some o'
 jc:∀b xs,H b=some (.tup xs)->H' b=some (.tup xs)
 iP:∀b o u,H b=some (.kB o u)->H' b=some (.kB o u)
 jd:∀b ps,H b=some (.lS ps)->∃more,H' b=some (.lS (ps++more))
section
variable{fs ex:List Addr}{H1:Hp}{h1:Heap}{x e:Addr}
theorem Un.any(u:Un fs ex H H1 h h1){ob:Obj}(q:h.get? b=some ob)(n:H b=none)(hx:b∉ex):∃sl,h1.get? b=some { ob with slots:=sl }:=by
 by_cases hb:b∈fs
 ·exact u.slot b ob q n hb hx
 ·exact⟨ob.slots,u.keep b ob q n hb hx⟩
theorem Un.kept(k:∀b u,h.get? b=some u->h'.get? b=some u):Un fs ex H H h h' :=
 ⟨λb ob q _ _ _=>k b ob q,λb ob q _ _ _=>⟨ob.slots,k b ob q⟩,λ_ _ _ n _=>n,λb ob q _=>⟨ob,k b ob q⟩,λ_ _ q=>q,λ_ _ _ q=>q,λ_ ps q=>⟨#[],by rw[q];simp⟩⟩
theorem Un.refl:Un fs ex H H h h:=Un.kept λ_ _ q=>q
theorem Un.laid(k:∀b u,h.get? b=some u->h'.get? b=some u)(hp:h.objs.size<=a)(hn:H a=none):Un fs ex H (upd H a o) h h' where
 keep:=λb u q _ _ _=>k b u q
 slot:=λb u q _ _ _=>⟨u.slots,k b u q⟩
 free:=λb u q n _=>by rw[i9 (aU (aC (aF q) hp))];exact n
 there:=λb u q _=>⟨u,k b u q⟩
 jc:=λb xs q=>by rw[i9 (p9 q hn)];exact q
 iP:=λb u xs q=>by rw[i9 (p9 q hn)];exact q
 jd:=λb ps q=>⟨#[],by rw[i9 (p9 q hn),q];simp⟩
theorem Un.write(mu:yz (H x))(he:e=x\/H e=some (.own x))(k:∀b u,b≠e->h.get? b=some u->h'.get? b=some u)(qL:∃u,h'.get? e=some u):Un fs ex H (upd H x o) h h':=by
 have hx:∀b,H b=none->b≠x:=λb n z=>by subst z;rw[n] at mu;exact mu
 have hb:∀b,H b=none->b≠e:=λb n z=>by
  subst z;rcases he with r|r
  ·exact hx b n r
  ·rw[n] at r;cases r
 have hm:∀b u,H b=some u->¬yz (some u)->b≠x:=λb u q nm z=>by subst z;rw[q] at mu;exact nm mu
 refine ⟨λb u q n _ _=>k b u (hb b n) q,λb u q n _ _=>⟨u.slots,k b u (hb b n) q⟩,λb u q n _=>by rw [i9 (hx b n)];exact n,λb u q _=>?_,
  λb xs q=>by rw [i9 (hm b _ q λz=>z)];exact q,λb u xs q=>by rw [i9 (hm b _ q λz=>z)];exact q,λb ps q=>⟨#[],by rw [i9 (hm b _ q λz=>z),q];simp⟩⟩
 by_cases sI:b=e
 ·subst sI;exact qL
 ·exact⟨u,k b u sI q⟩
end
def pN(h:Heap)(H:Hp):List Addr:=(List.range h.objs.size).filter λa=>(H a).isSome
def qj(h:Heap)(H:Hp):Heap:=PySem.W.hideAll h (pN h H)
theorem a56(h:Heap)(H:Hp):(qj h H).objs.size=h.objs.size:=PySem.W.hideAll_size _ _
theorem VN{o:Obj}(e:h.get? b=some o)(n:H b=none):(qj h H).get? b=some o :=
 Hg _ e λhm=>by
  have q:(H b).isSome=true:=(bp.mp hm).2;rw[n] at q;simp at q
theorem Us{o:Obj}(e:(qj h H).get? b=some o):h.get? b=some o/\H b=none:=by
 have e':h.get? b=some o:=Oh (pN h H) e;refine⟨e',?_⟩;cases q:H b with
 |none=>rfl
 |some x =>
  have hm:b∈pN h H:=bp.mpr ⟨aN.mpr (aF e'),by simp[q]⟩;have z:(qj h H).get? b=none:=PySem.W.hideAll_none (pN h H) hm;rw[z] at e;cases e
structure Mod(K:PySem.W.Frag)(mg:Str->Option Value)(base:Heap):Prop where
 oV:K.In base
 glob:base.Ns mainGlobals mg
 blt:∃mb,base.Ns builtinsNs mb/\∀x:Str,x≠"__name__"->mb x=bootBuiltins x
 nolimit:base.NoLimit
structure Cx where
 prog:Program
 w:World
 K:PySem.W.Frag
 mg:Str->Option Value
 base:Heap
 A:Around
 N:List Str
 dE:Shared
 jV:Hp
 env:Env
 outer:List Env
 stack:List Env
 ex:List Addr
 fn:Str->Bool
 calm:Bool
 pn:List (Addr×Obj)
 xe:Value->Shared->Prop
 sg:Option (List (Option V)):=none
def Cx.Nd(X:Cx):Prop:=X.N.Nodup/\X.sg=none
def gg(l:List Env):List Addr:=l.filterMap (·.frame)
noncomputable abbrev Cx.fs(X:Cx):List Addr:=gg X.outer
def yt(sc:Scope)(x:Str):Prop:=sc.names.lookup x=some .local\/sc.names.lookup x=some .cell\/sc.names.lookup x=some .free
def Loc(sc:Scope)(x:Str):Prop:=sc.names.lookup x=some .local\/sc.names.lookup x=some .cell
def Look(env:Env)(h:Heap)(m:Str->Option Value)(x:Str)(u:Value):Prop :=
 (env.kindOf x=some .local/\m x=some u)\/((env.kindOf x=some .cell\/env.kindOf x=some .free)/\∃c,env.cells.lookup x=some c/\h.IsCell c (some u))
structure Cx.Ok(X:Cx):Prop where
 mod:Mod X.K X.mg X.base
 kind:X.env.scope.kind=.function
 glob:X.env.globals=mainGlobals
 blt:X.env.builtins=builtinsNs
 above:X.dE.heap.objs.size<=X.env.locals
 inj:∀x y c,X.env.cells.lookup x=some c->X.env.cells.lookup y=some c->x=y
 has:∀x,(X.env.kindOf x=some .cell\/X.env.kindOf x=some .free)->∃c,X.env.cells.lookup x=some c
 qW:∀x c,X.fn x=true->X.env.cells.lookup x=some c->X.dE.heap.objs.size<=c
 hd:X.calm=true->X.A.handled=none
 frames:X.A.frames=some X.stack
 rK:X.stack=X.outer\/(X.stack=X.env::X.outer/\X.env.frame=some X.env.locals)
 xk:∀b∈X.ex,b≠X.env.locals/\∀x c,X.env.cells.lookup x=some c->c≠b
 bs:∀b o,X.base.get? b=some o->X.dE.heap.get? b=some o/\X.jV b=none
 oK:X.base.objs.size<=X.dE.heap.objs.size
 kX:∀b o,X.base.get? b=some o->b∉X.ex
 ml:∀b∈X.ex,b∉X.fs
 M7:X.dE.heap.FunFrames X.base X.outer
 ph:∀b∈X.fs,X.jV b=none
structure Inv(X:Cx)(pins:List (Addr×Obj))(Z:List (Option V))(H:Hp)(s:Shared):Prop where
 ok:X.Ok
 os:s.os=X.dE.os
 bare:AllBare s.gens
 base:Un X.fs X.ex X.jV H X.dE.heap s.heap
 loc:∃m,s.heap.Ns X.env.locals m/\∀(i:Nat) (x:Str) (v:V),X.N[i]?=some x->Z[i]?=some (some v)->yt X.env.scope x->∃u,RelV v u/\Look X.env s.heap m x u
 cell:∀x c,X.env.cells.lookup x=some c->∃v,s.heap.IsCell c v
 free:H X.env.locals=none
 eR:∀x c,X.env.cells.lookup x=some c->H c=none
 pin:∀p∈X.pn++pins,s.heap.get? p.1=some p.2/\H p.1=none/\p.1≠X.env.locals/\p.1∉X.fs/\∀v,p.2.data≠.cell v
 bZ:gz X.prog X.w H s.heap
 len:Z.length=X.N.length
 sg:∀dg,X.sg=some dg->Z=dg
section
variable{Z:List (Option V)}
theorem Cx.Ok.XH(ok:X.Ok){o:Obj}(e:X.base.get? b=some o):b∉X.fs:=λhb=>by
 have:=(ok.M7.mem hb).1;rw[e] at this;cases this
theorem Inv.bs(I:Inv X pins Z H s):∀b o,X.base.get? b=some o->s.heap.get? b=some o/\H b=none:=λb o e =>
 ⟨I.base.keep b o (I.ok.bs b o e).1 (I.ok.bs b o e).2 (I.ok.XH e) (I.ok.kX b o e),I.base.free b o (I.ok.bs b o e).1 (I.ok.bs b o e).2 (I.ok.kX b o e)⟩
theorem Inv.bk(I:Inv X pins Z H s):∀b o,X.base.get? b=some o->s.heap.get? b=some o:=λb o e=>(I.bs b o e).1
theorem Inv.mod(I:Inv X pins Z H s):Mod X.K X.mg X.base:=I.ok.mod
theorem Inv.hJ(I:Inv X pins Z H s):X.K.In s.heap:=I.ok.mod.oV.keeps I.bk
theorem Inv.lt(I:Inv X pins Z H s):X.env.locals<s.heap.objs.size:=let ⟨_,hn,_⟩:=I.loc;hn.lt
theorem Inv.sz(I:Inv X pins Z H s):X.dE.heap.objs.size<=s.heap.objs.size:=aG I.ok.above (eK I.lt)
theorem Inv.ym(I:Inv X pins Z H s)(h:s.heap.objs.size<=a):a∉X.fs:=λhb=>by
 obtain⟨_,o,ho,_⟩:=I.ok.M7.mem hb;exact absurd (aC (aF ho) (aG I.sz h)) (bu _)
theorem Inv.tm(I:Inv X pins Z H s):∀x c,X.env.cells.lookup x=some c->c≠X.env.locals:=λx c e z=>by
 obtain⟨v,o,ho,hd⟩:=I.cell x c e;obtain⟨m,⟨o',es,ep,oo,CG,_⟩,_⟩:=I.loc;rw[z,oo] at ho;cases ho;rw[CG] at hd;cases hd
theorem Inv.M7(I:Inv X pins Z H s):s.heap.FunFrames X.base X.outer:=by
 have all:∀(l:List Env),(∀b∈gg l,b∈X.fs)->X.dE.heap.FunFrames X.base l->s.heap.FunFrames X.base l:=by
  intro l
  induction l with
  |nil=>intro _ _;trivial
  |cons env r ih =>
   intro hs hl;obtain⟨hk,⟨L,o,hf,hn,ho,hd⟩,hr⟩:=hl;have hL:L∈X.fs:=hs L (by unfold gg;rw[eP,hf];exact gG);obtain⟨sl,e⟩:=I.base.slot L o ho (I.ok.ph L hL) hL λz=>I.ok.ml L z hL;exact⟨hk,⟨L,_,hf,hn,e,hd⟩,ih (λb hb=>hs b (by unfold gg;rw[eP,hf];exact bx _ hb)) hr⟩
 exact all X.outer (λ_ hb=>hb) I.ok.M7
theorem Inv.stack(I:Inv X pins Z H s):s.heap.FunFrames X.base X.stack:=by
 rcases I.ok.rK with e|⟨e,hf⟩
 ·rw[e];exact I.M7
 ·rw[e];obtain⟨m,hn,_⟩:=I.loc;refine .cons (by rw[I.ok.kind];decide) hf hn ?_ I.M7;exact Heap.get?_none_of_le (aG I.ok.oK I.ok.above)
theorem Inv.O2(I:Inv X pins Z H s):∀b∈gg X.stack,b∈X.env.locals::X.fs:=λb hb=>by
 rcases I.ok.rK with e|⟨e,hf⟩
 ·rw[e] at hb;exact bx _ hb
 ·rw[e] at hb;unfold gg at hb;rw[eP,hf] at hb;exact hb
theorem Inv.Ao(I:Inv X pins Z H s):∀b∈gg X.stack,H b=none:=λb hb=>by
 rcases aL.mp (I.O2 b hb) with e|hb
 ·rw[e];exact I.free
 ·obtain⟨_,o,ho,_⟩:=I.ok.M7.mem hb;exact I.base.free b o ho (I.ok.ph b hb) λz=>I.ok.ml b z hb
theorem Inv.step{g':Array GenState}{t':Nat}{d':Drawn}{ch:List Addr}(I:Inv X pins Z H s)(mI:∀b∈ch,(b∈X.ex\/X.dE.heap.objs.size<=b)/\b≠X.env.locals/\(∀x c,X.env.cells.lookup x=some c->c≠b)/\∀p∈X.pn++pins,p.1≠b)(keep:∀b o,b≠X.env.locals->b∉X.fs->b∉ch->s.heap.get? b=some o->H b=none->h'.get? b=some o)(slot:∀b o,b≠X.env.locals->b∈X.fs->b∉ch->s.heap.get? b=some o->H b=none->∃sl,h'.get? b=some { o with slots:=sl })(free:∀b o,b∉ch->s.heap.get? b=some o->H b=none->H' b=none)(there:∀b o,b∉ch->s.heap.get? b=some o->∃o',h'.get? b=some o')(jc:∀b xs,H b=some (.tup xs)->H' b=some (.tup xs))(iP:∀b o u,H b=some (.kB o u)->H' b=some (.kB o u))(jd:∀b ps,H b=some (.lS ps)->∃more,H' b=some (.lS (ps++more)))(ns:∀m,s.heap.Ns X.env.locals m->h'.Ns X.env.locals m)(bZ:gz X.prog X.w H' h')(hg:AllBare g') :
  Inv X pins Z H' { s with heap:=h',gens:=g',drawn:=d',toks:=t' }:=by
 have HH:∀b o,X.dE.heap.get? b=some o->b≠X.env.locals:=λb o e=>aU (aC (aF e) I.ok.above);have qy:∀b o,X.dE.heap.get? b=some o->b∉X.ex->b∉ch:=λb o e hx hb=>by
  rcases(mI b hb).1 with z|z
  ·exact hx z
  ·exact absurd (aC (aF e) z) (bu _)
 have cellK:∀x c,X.env.cells.lookup x=some c->∀v,s.heap.IsCell c v->h'.IsCell c v:=λx c e v bq=>by
  obtain⟨o,ho,hd⟩:=bq;have vP:c∉ch:=λz=>(mI c z).2.2.1 x c e rfl;by_cases hc:c∈X.fs
  ·obtain⟨sl,q⟩:=slot c o (I.tm x c e) hc vP ho (I.eR x c e);exact⟨_,q,hd⟩
  ·exact⟨o,keep c o (I.tm x c e) hc vP ho (I.eR x c e),hd⟩
 refine⟨I.ok,I.os,hg,⟨λb o e n hb hx=>?_,λb o e n hb hx=>?_,λb o e n hx=>?_,λb o e hx=>?_,λb xs e=>jc b xs (I.base.jc b xs e),λb o xs e=>iP b o xs (I.base.iP b o xs e),λb ps e=>?_⟩,?_,λx c e=>?_,?_,λx c e=>?_,λp hp=>?_,bZ,I.len,I.sg⟩
 ·exact keep b o (HH b o e) hb (qy b o e hx) (I.base.keep b o e n hb hx) (I.base.free b o e n hx)
 ·obtain⟨sl,e1⟩:=I.base.slot b o e n hb hx;obtain⟨OQ,e2⟩:=slot b _ (HH b o e) hb (qy b o e hx) e1 (I.base.free b o e n hx);exact⟨OQ,e2⟩
 ·obtain⟨o',e1⟩:=I.base.there b o e hx;exact free b o' (qy b o e hx) e1 (I.base.free b o e n hx)
 ·obtain⟨o',e1⟩:=I.base.there b o e hx;exact there b o' (qy b o e hx) e1
 ·obtain⟨m1,e1⟩:=I.base.jd b ps e;obtain⟨m2,e2⟩:=jd b _ e1;exact⟨m1++m2,by rw[e2,Oq]⟩
 ·obtain⟨m,hn,hl⟩:=I.loc;refine⟨m,ns m hn,λi x v e1 e2 e3=>?_⟩;obtain⟨u,r,l⟩:=hl i x v e1 e2 e3;refine⟨u,r,?_⟩;rcases l with l|⟨k,c,e,z⟩
  ·exact .inl l
  ·exact .inr ⟨k,c,e,cellK x c e _ z⟩
 ·obtain⟨v,z⟩:=I.cell x c e;exact⟨v,cellK x c e v z⟩
 ·obtain⟨m,⟨o,_,_,ho,_⟩,_⟩:=I.loc;exact free _ o (λz=>(mI _ z).2.1 rfl) ho I.free
 ·obtain⟨v,o,ho,hd⟩:=I.cell x c e;exact free c o (λz=>(mI c z).2.2.1 x c e rfl) ho (I.eR x c e)
 ·obtain⟨e,n,ne,nf,d⟩:=I.pin p hp;have vP:p.1∉ch:=λz=>(mI p.1 z).2.2.2 p hp rfl;exact⟨keep p.1 p.2 ne nf vP e n,free p.1 p.2 vP e n,ne,nf,d⟩
theorem Inv.un{t':Nat}(I:Inv X pins Z H s)(u:Un X.fs [] H H' s.heap h')(bZ:gz X.prog X.w H' h'):Inv X pins Z H' { s with heap:=h',toks:=t' }:=by
 obtain⟨m,⟨o,es,ep,ho,r⟩,_⟩:=id I.loc;obtain⟨sl,hL⟩:=u.any ho I.free (by simp);exact I.step (g':=s.gens) (d':=s.drawn) (ch:=[]) (λ_ z=>nomatch z) (λb o _ hb _ e n=>u.keep b o e n hb (by simp)) (λb o _ hb _ e n=>u.slot b o e n hb (by simp)) (λb o _ e n=>u.free b o e n (by simp)) (λb o _ e=>u.there b o e (by simp)) u.jc u.iP u.jd (λm' hm=>by
  obtain⟨o',DK,DL,oo,r'⟩:=hm;rw[ho] at oo;cases oo;exact ⟨_,DK,DL,hL,r'⟩) bZ I.bare
theorem Inv.call{g':Array GenState}{t':Nat}{d':Drawn}(I:Inv X pins Z H s)(u:Un (gg X.stack) ch H H' s.heap h')(bZ:gz X.prog X.w H' h')(hg:AllBare g')(mI:∀b∈ch,(b∈X.ex\/X.dE.heap.objs.size<=b)/\b≠X.env.locals/\(∀x c,X.env.cells.lookup x=some c->c≠b)/\∀p∈X.pn++pins,p.1≠b) :
  Inv X pins Z H' { s with heap:=h',gens:=g',drawn:=d',toks:=t' }:=by
 obtain⟨m,⟨o,es,ep,ho,r⟩,_⟩:=id I.loc;obtain⟨sl,hL⟩:=u.any ho I.free λz=>(mI _ z).2.1 rfl;exact I.step (ch:=ch) mI (λb o hL hb hc e n=>u.keep b o e n (λz=>(aL.mp (I.O2 b z)).elim hL hb) hc) (λb o _ _ hc e n=>u.any e n hc) (λb o hc e n=>u.free b o e n hc) (λb o hc e=>u.there b o e hc) u.jc u.iP u.jd (λm' hm=>by
  obtain⟨o',DK,DL,oo,r'⟩:=hm;rw[ho] at oo;cases oo;exact ⟨_,DK,DL,hL,r'⟩) bZ hg
theorem Inv.turned{t':Nat}{it:Addr}(I:Inv X pins Z H s)(k:∀b o,b≠it->s.heap.get? b=some o->h'.get? b=some o)(hn:H it=none)(hL:it≠X.env.locals)(h1:it∈X.ex\/X.dE.heap.objs.size<=it)(h2:∀x c,X.env.cells.lookup x=some c->c≠it)(h3:∀p∈X.pn++pins,p.1≠it):Inv X pins Z H { s with heap:=h',toks:=t' }:=by
 have HG:∀b u,H b=some u->b≠it:=λb u e z=>by rw[z,hn] at e;cases e
 refine I.step (g':=s.gens) (d':=s.drawn) (ch:=[it]) (λb hb=>?_) (λb o _ _ hc e _=>k b o (λz=>hc (by simp[z])) e) (λb o _ _ hc e _=>⟨o.slots,k b o (λz=>hc (by simp[z])) e⟩) (λ_ _ _ _ n=>n)
  (λb o hc e=>⟨o,k b o (λz=>hc (by simp[z])) e⟩) (λ_ _ e=>e) (λ_ _ _ e=>e) (λb ps e=>⟨#[],by rw[e];simp⟩) (λm hm=>?_) (λb u e=>?_) I.bare
 ·have e:b=it:=by simpa using hb
  subst e;exact⟨h1,hL,h2,h3⟩
 ·obtain⟨o,es,ep,ho,r⟩:=hm;exact⟨o,es,ep,k _ o (bT hL) ho,r⟩
 ·refine(I.bZ b u e).Z0 (λc v hc q=>k c v ?_ q) (λ_ q=>q) λ_ _ q=>q;rcases hc with z|z
  ·rw[z];exact HG b u e
  ·exact HG c _ z
theorem Inv.tok(I:Inv X pins Z H s)(t:Nat):Inv X pins Z H { s with toks:=t }:=I.un (h':=s.heap) (t':=t) Un.refl I.bZ
theorem Inv.kept{t':Nat}(I:Inv X pins Z H s)(k:∀b u,s.heap.get? b=some u->h'.get? b=some u):Inv X pins Z H { s with heap:=h',toks:=t' }:=I.un (Un.kept k) (I.bZ.kept k)
theorem Inv.laid{a:Addr}{o:HO}{t':Nat}(I:Inv X pins Z H s)(k:∀b u,s.heap.get? b=some u->h'.get? b=some u)(hp:s.heap.objs.size<=a)(new:t8 X.prog X.w (upd H a o) h' a o) :
  Inv X pins Z (upd H a o) { s with heap:=h',toks:=t' }:=I.un (Un.laid k hp (I.bZ.fresh hp)) (I.bZ.laid k hp new)
theorem Inv.write{x e:Addr}{o:HO}{t':Nat}(I:Inv X pins Z H s)(mu:yz (H x))(he:e=x\/H e=some (.own x))(k:∀b u,b≠e->s.heap.get? b=some u->h'.get? b=some u)(qL:∃u,h'.get? e=some u)(new:t8 X.prog X.w (upd H x o) h' x o):Inv X pins Z (upd H x o) { s with heap:=h',toks:=t' }:=I.un (Un.write mu he k qL) (I.bZ.write mu he k qL new)
theorem Inv.weak{bU:List (Option V)}(hs:X.sg=none)(I:Inv X pins Z H s)(hl:bU.length=Z.length)(w:∀(i:Nat) v,bU[i]?=some (some v)->Z[i]?=some (some v)):Inv X pins bU H s :=
 ⟨I.ok,I.os,I.bare,I.base,let ⟨m,hn,uu⟩:=I.loc;⟨m,hn,λi x v e1 e2 e3=>uu i x v e1 (w i v e2) e3⟩,I.cell,I.free,I.eR,I.pin,I.bZ,hl.trans I.len,λ_ z=>by rw[hs] at z;cases z⟩
theorem Inv.N4{jA:List (Addr×Obj)}(I:Inv X pins Z H s)(h:∀p∈jA,s.heap.get? p.1=some p.2/\H p.1=none/\p.1≠X.env.locals/\p.1∉X.fs/\∀v,p.2.data≠.cell v):Inv X jA Z H s :=
 ⟨I.ok,I.os,I.bare,I.base,I.loc,I.cell,I.free,I.eR,λp hp=>(aV.mp hp).elim (λz=>I.pin p (dy _ z)) (h p),I.bZ,I.len,I.sg⟩
theorem MR(hN:N.Nodup){j:Nat}(a:N[i]?=some x)(b:N[j]?=some x):i=j:=by
 obtain⟨h1,e1⟩:=ak.mp a;obtain⟨h2,e2⟩:=ak.mp b;exact(mR hN).mp (e1.trans e2.symm)
theorem Kv{Q:Unit->Shared->Prop}(I:Inv X pins Z H s)(hN:X.Nd)(hi:X.N[i]?=some x)(hx:Loc X.env.scope x)(r:RelV v u)(h:∀s',Inv X pins (Z.set i (some v)) H s'->(∃a,Heap.SameBut a s.heap s'.heap/\(a=X.env.locals\/X.env.cells.lookup x=some a))->Q Unit.unit s')(hf:X.fn x=true\/X.env.scope.names.lookup x=some .local:=by first|exact .inl rfl|exact .inr rfl|assumption):wpAny M A (storeName X.env x u) Q E s:=by
 obtain⟨m,hn,hl⟩:=id I.loc;have pW:(X.env.scope.kind==.class||(X.env.scope.kind==.module&&X.env.locals != X.env.globals))=false:=by rw[I.ok.kind];rfl
 have wC:i<Z.length:=by rw[I.len];exact(ak.mp hi).1
 have tm:=I.tm;have tracked:∀{a:Addr} {h':Heap},(∃o,s.heap.get? a=some o/\H a=none)->Heap.SameBut a s.heap h'->gz X.prog X.w H h':=λ{a h'} ha hs b ob e=>by
  obtain⟨_,_,ox⟩:=ha;refine(I.bZ b ob e).Z0 (λc w' hc q=>(hs.2 c ?_).trans q) (λ_ q=>q) λ_ _ q=>q;rintro rfl;rcases hc with rfl|hc
  ·rw[ox] at e;cases e
  ·rw[ox] at hc;cases hc
 rcases hx with hk|hk
 ·refine wpAny_storeName_local hk hn (λh' Qg hs=>?_) pW;obtain⟨oL,_,_,wx,_⟩:=id hn;refine h _ ⟨I.ok,I.os,I.bare,⟨λb o e n hb hx=>?_,λb o e n hb hx=>?_,I.base.free,λb o e hx=>?_,I.base.jc,I.base.iP,I.base.jd⟩,⟨_,Qg,λj y v' e1 e2 e3=>?_⟩,λy c e=>?_,I.free,I.eR,λp hp=>?_,tracked ⟨oL,wx,I.free⟩ hs,by simpa using I.len,λ_ z=>by rw[hN.2] at z;cases z⟩ ⟨_,hs,.inl rfl⟩
  ·exact(hs.2 b (aU (aC (aF e) I.ok.above))).trans (I.base.keep b o e n hb hx)
  ·obtain⟨sl,e1⟩:=I.base.slot b o e n hb hx;exact⟨sl,(hs.2 b (aU (aC (aF e) I.ok.above))).trans e1⟩
  ·obtain⟨o',e1⟩:=I.base.there b o e hx;exact⟨o',(hs.2 b (aU (aC (aF e) I.ok.above))).trans e1⟩
  ·by_cases hj:j=i
   ·subst hj;rw[hi] at e1;cases e1;rw[bf wC] at e2;cases e2;exact⟨u,r,.inl ⟨hk,by simp⟩⟩
   ·rw[aA (bT hj)] at e2;obtain⟨u',r',q⟩:=hl j y v' e1 e2 e3;refine⟨u',r',?_⟩;rcases q with⟨k,e⟩|⟨k,c,e,z⟩
    ·refine .inl ⟨k,?_⟩;have:y≠x:=λe=>hj (MR hN.1 e1 (e▸hi));simp[this,e]
    ·exact .inr ⟨k,c,e,z.sameBut hs (tm y c e)⟩
  ·obtain⟨w',z⟩:=I.cell y c e;exact⟨w',z.sameBut hs (tm y c e)⟩
  ·obtain⟨e,n,ne,nf,d⟩:=I.pin p hp;exact⟨(hs.2 p.1 ne).trans e,n,ne,nf,d⟩
 ·have uv:X.fn x=true:=by
   rcases hf with z|z
   ·exact z
   ·rw[z] at hk;cases hk
  obtain⟨c,hc⟩:=I.ok.has x (.inl hk);obtain⟨w',z⟩:=I.cell x c hc;refine wpAny_storeName_cell I.ok.kind hk hc z (λh' jJ hs=>?_);obtain⟨oc,Cn,Cm⟩:=id z;refine h { s with heap:=h' } ⟨I.ok,I.os,I.bare,⟨λb o e n hb hx=>?_,λb o e n hb hx=>?_,I.base.free,λb o e hx=>?_,I.base.jc,I.base.iP,I.base.jd⟩,⟨m,hn.sameBut hs (bT (tm x c hc)),λj y v' e1 e2 e3=>?_⟩,λy c' e=>?_,I.free,I.eR,λp hp=>?_,tracked ⟨oc,Cn,I.eR x c hc⟩ hs,by simpa using I.len,λ_ z=>by rw[hN.2] at z;cases z⟩ ⟨c,hs,.inr hc⟩
  ·exact(hs.2 b (aU (aC (aF e) (I.ok.qW x c uv hc)))).trans (I.base.keep b o e n hb hx)
  ·obtain⟨sl,e1⟩:=I.base.slot b o e n hb hx;exact⟨sl,(hs.2 b (aU (aC (aF e) (I.ok.qW x c uv hc)))).trans e1⟩
  ·obtain⟨o',e1⟩:=I.base.there b o e hx;exact⟨o',(hs.2 b (aU (aC (aF e) (I.ok.qW x c uv hc)))).trans e1⟩
  ·by_cases hj:j=i
   ·subst hj;rw[hi] at e1;cases e1;rw[bf wC] at e2;cases e2;exact⟨u,r,.inr ⟨.inl hk,c,hc,jJ⟩⟩
   ·rw[aA (bT hj)] at e2;obtain⟨u',r',q⟩:=hl j y v' e1 e2 e3;refine⟨u',r',?_⟩;rcases q with q|⟨k,c',e,z'⟩
    ·exact .inl q
    ·refine .inr ⟨k,c',e,z'.sameBut hs ?_⟩;rintro rfl;exact hj (MR hN.1 e1 (I.ok.inj _ _ _ e hc▸hi))
  ·by_cases uw:c'=c
   ·subst uw;exact⟨_,jJ⟩
   ·obtain⟨w2,z2⟩:=I.cell y c' e;exact⟨w2,z2.sameBut hs uw⟩
  ·obtain⟨e,n,ne,nf,d⟩:=I.pin p hp;refine⟨(hs.2 p.1 ?_).trans e,n,ne,nf,d⟩;intro q;rw[q,Cn] at e;have q':oc=p.2:=aR e;exact d w' (by rw[<- q'];exact Cm)
theorem Ff{Q:Unit->Shared->Prop}(I:Inv X pins Z H s)(hN:X.Nd)(hi:X.N[i]?=some x)(hx:Loc X.env.scope x)(r:RelV v u)(h:∀s',Inv X pins (Z.set i (some v)) H s'->Q Unit.unit s')(hf:X.fn x=true\/X.env.scope.names.lookup x=some .local:=by first|exact .inl rfl|exact .inr rfl|assumption):wpAny M A (storeName X.env x u) Q E s :=
 Kv I hN hi hx r (λs' I' _=>h s' I') hf
theorem Inv.FV{s':Shared}(I:Inv X pins Z H s)(ho:s'.os=s.os)(u:Un (gg X.stack) ch H H' s.heap s'.heap)(bZ:gz X.prog X.w H' s'.heap)(hg:AllBare s'.gens)(mI:∀b∈ch,(b∈X.ex\/X.dE.heap.objs.size<=b)/\b≠X.env.locals/\(∀x c,X.env.cells.lookup x=some c->c≠b)/\∀p∈X.pn++pins,p.1≠b):Inv X pins Z H' s':=by
 obtain⟨h',g',d',t',o'⟩:=s';have e:o'=s.os:=ho;subst e;exact I.call (g':=g') (t':=t') (d':=d') u bZ hg mI
end
noncomputable abbrev XK:=Value->Option Addr->Hp->Prop
noncomputable abbrev St:=List (Option V)
noncomputable abbrev VK:=V->Hp->Prop
noncomputable abbrev TE:=St->Hp->VK->Prop
noncomputable abbrev TT:=St->Hp->(Bool->Hp->Prop)->Prop
noncomputable abbrev TA:=St->Hp->(List V->Hp->Prop)->Prop
structure Ends where
 nx:St->Hp->Prop
 rt:VK
 bk:St->Hp->Prop:=λ_ _=>False
 ct:St->Hp->Prop:=λ_ _=>False
noncomputable abbrev TS:=Ends->St->Hp->Prop
def EP(X:Cx)(pins:List (Addr×Obj))(Z:St)(Q:VK)(u:Value)(s':Shared):Prop:=∃v H',Inv X pins Z H' s'/\RelV v u/\Q v H'
def TP(X:Cx)(pins:List (Addr×Obj))(Z:St)(Q:Bool->Hp->Prop)(b:Bool)(s':Shared):Prop:=∃H',Inv X pins Z H' s'/\Q b H'
def AP(X:Cx)(pins:List (Addr×Obj))(Z:St)(Q:List V->Hp->Prop)(us:List Value)(s':Shared):Prop:=∃vs H',Inv X pins Z H' s'/\Vals vs us/\Q vs H'
def SP(X:Cx)(pins:List (Addr×Obj))(D:Ends)(f:Flow)(s':Shared):Prop :=
 match f with
 |.next=>∃bU H',Inv X pins bU H' s'/\D.nx bU H'
 |.brk=>∃bU H',Inv X pins bU H' s'/\D.bk bU H'
 |.cont=>∃bU H',Inv X pins bU H' s'/\D.ct bU H'
 |.ret u=>∃v bU H',Inv X pins bU H' s'/\RelV v u/\D.rt v H'
def PE(X:Cx)(e:Expr)(t:TE):Prop :=
 ∀(pins:List (Addr×Obj)) (s:Shared) (Z:St) (H:Hp) (Q:VK),Inv X pins Z H s->t Z H Q->wpAny (model X.prog X.w) X.A (eval e X.env) (EP X pins Z Q) X.xe s
def PT(X:Cx)(e:Expr)(t:TT):Prop :=
 ∀(pins:List (Addr×Obj)) (s:Shared) (Z:St) (H:Hp) (Q:Bool->Hp->Prop),Inv X pins Z H s->t Z H Q->wpAny (model X.prog X.w) X.A (isTrue e X.env (eval e X.env)) (TP X pins Z Q) X.xe s
def PW(X:Cx)(e:Expr)(t:TT):Prop :=
 ∀(whole:Sem Value) (pins:List (Addr×Obj)) (s:Shared) (Z:St) (H:Hp) (Q:Bool->Hp->Prop),Inv X pins Z H s->t Z H Q->wpAny (model X.prog X.w) X.A (isTrue e X.env whole) (TP X pins Z Q) X.xe s
theorem PW.pt{t:TT}(h:PW X e t):PT X e t:=h _
def PA(X:Cx)(es:List Expr)(t:TA):Prop :=
 ∀(pos:Pos) (pins:List (Addr×Obj)) (s:Shared) (Z:St) (H:Hp) (Q:List V->Hp->Prop),Inv X pins Z H s->t Z H Q->wpAny (model X.prog X.w) X.A (spliced (backTo pos (starEach es X.env))) (AP X pins Z Q) X.xe s
def PS(X:Cx)(st:Stmt)(t:TS):Prop :=
 ∀(pins:List (Addr×Obj)) (s:Shared) (Z:St) (H:Hp) (D:Ends),Inv X pins Z H s->t D Z H->wpAny (model X.prog X.w) X.A (exec st X.env) (SP X pins D) X.xe s
def jL(X:Cx)(st:List Stmt)(t:TS):Prop :=
 ∀(pins:List (Addr×Obj)) (s:Shared) (Z:St) (H:Hp) (D:Ends),Inv X pins Z H s->t D Z H->wpAny (model X.prog X.w) X.A (execs st X.env) (SP X pins D) X.xe s
theorem cO{t:Sem α}{Q Q':α->Shared->Prop}(h:wpAny M A t Q E s)(hQ:∀a s,Q a s->Q' a s):wpAny M A t Q' E s:=bA h hQ λ_ _ x=>x
section
theorem bin{a b:Expr}(ha:PE X a ta)(hb:PE X b tb){R:V->V->Hp->Prop}(I:Inv X pins Z H s)(h:ta Z H λx H1=>tb Z H1 λy H2=>R x y H2){Q:α->Shared->Prop}{f:Value->Value->Sem α}(hf:∀v u s2 x y H2,Inv X pins Z H2 s2->RelV x v->RelV y u->R x y H2->wpAny (model X.prog X.w) X.A (f v u) Q X.xe s2) :
  wpAny (model X.prog X.w) X.A (eval a X.env) (λv bW=>wpAny (model X.prog X.w) X.A (eval b X.env) (λu fZ=>wpAny (model X.prog X.w) X.A (f v u) Q X.xe fZ) X.xe bW) X.xe s:=by
 refine cO (ha pins s Z H _ I h) λv s1 bq=>?_;obtain⟨x,H1,I1,r1,q1⟩:=bq;refine cO (hb pins s1 Z H1 _ I1 q1) λu s2 bq=>?_;obtain⟨y,H2,I2,r2,q2⟩:=bq;exact hf v u s2 x y H2 I2 r1 r2 q2
def Yp(i:Nat):TE:=λZ H Q=>∃v,Z[i]?=some (some v)/\Q v H
def tC(v:V):TE:=λ_ H Q=>Q v H
theorem bB1(hN:X.N[i]?=some x)(hv:yt X.env.scope x)(hd:(x==("__debug__":Str))=false:=by decide)(nc:(x==("__classdict__":Str))=false:=by decide):PE X (.Name x pos) (Yp i):=by
 intro pins s Z H Q I h;obtain⟨v,e,h⟩:=h;obtain⟨m,hn,hl⟩:=I.loc;obtain⟨u,r,l⟩:=hl i x v hN e hv;have fin:EP X pins Z Q u s:=⟨v,H,I,r,h⟩
 rcases l with⟨hk,hm⟩|⟨hk,c,hc,mJ⟩
 ·exact wpAny_Name (wpAny_loadName_local I.ok.kind hk hn hm fin) hd
 ·rcases hk with hk|hk
  ·exact wpAny_Name (wpAny_loadName_cell I.ok.kind hk hc mJ fin) hd
  ·exact wpAny_Name (wpAny_loadName_free I.ok.kind hk hc mJ fin nc) hd
theorem bB7{i j pos}:PE X (.Constant (.int i) j pos) (tC (.int i)):=λ_ _ _ H _ I h=>wpAny_Constant_int ⟨.int i,H,I.tok _,⟨_,rfl⟩,h⟩
theorem ZI{b j pos}:PE X (.Constant (.bool b) j pos) (tC (.bl b)):=λ_ _ _ H _ I h=>Constant_bool ⟨.bl b,H,I,rfl,h⟩
theorem bB5{j pos}:PE X (.Constant .none j pos) (tC .br):=λ_ _ _ H _ I h=>Constant_none ⟨.br,H,I,rfl,h⟩
theorem NN{x j pos}:PE X (.Constant (.str x) j pos) (tC (.str x)):=λ_ _ _ H _ I h=>Calls.Constant_str ⟨.str x,H,I.tok _,⟨_,rfl⟩,h⟩
def Gl(X:Cx)(x:Str):Prop:=X.env.kindOf x=some .globalImplicit
theorem P9(I:Inv X pins Z H s)(hg:Gl X x)(hm:X.mg x=some u)(h:Q u s)(hd:(x==("__debug__":Str))=false:=by decide):wpAny (model X.prog X.w) X.A (eval (.Name x pos) X.env) Q E s :=
 Bl I.ok.kind hg (Calls.loadGlobal_global (by rw[I.ok.glob];exact I.mod.glob.keeps I.bk) hm h) hd
theorem O5(I:Inv X pins Z H s)(hg:Gl X x)(hm:X.mg x=none)(hv:bootBuiltins x=some u)(h:Q u s)(hn:x≠"__name__":=by decide)(hd:(x==("__debug__":Str))=false:=by decide):wpAny (model X.prog X.w) X.A (eval (.Name x pos) X.env) Q E s:=by
 obtain⟨mb,h1,h2⟩:=I.mod.blt;exact Bl I.ok.kind hg (Calls.loadGlobal_builtin (by rw[I.ok.glob];exact I.mod.glob.keeps I.bk) hm (by rw[I.ok.blt];exact h1.keeps I.bk) ((h2 x hn).trans hv) h) hd
theorem Ak(hg:Gl X x)(hm:X.mg x=some u)(r:RelV v u)(hd:(x==("__debug__":Str))=false:=by decide):PE X (.Name x pos) (tC v) :=
 λ_ _ _ H _ I h=>P9 I hg hm ⟨v,H,I,r,h⟩ hd
theorem UA(hg:Gl X x)(hm:X.mg x=none)(hv:bootBuiltins x=some u)(r:RelV v u)(hn:x≠"__name__":=by decide)(hd:(x==("__debug__":Str))=false:=by decide):PE X (.Name x pos) (tC v) :=
 λ_ _ _ H _ I h=>O5 I hg hm hv ⟨v,H,I,r,h⟩ hn hd
variable{a b:Expr}
variable{tA yQ:TT}{rest:List Expr}
def Yd(t u:TT):TT:=λZ H Q=>t Z H λc H1=>if c=true then u Z H1 Q else Q false H1
def OJ(t u:TT):TT:=λZ H Q=>t Z H λc H1=>if c=true then Q true H1 else u Z H1 Q
def Yk(t:TT):TT:=λZ H Q=>t Z H λc H1=>Q (!c) H1
theorem UP(ha:PT X a tA):PW X (.BoolOp .And [a] pos) tA:=by
 intro wh pins s Z H Q I h;refine isTrue_and (cO (ha pins s Z H Q I h) λc s1 e=>?_);cases c with
 |true=>exact isTrue_and_nil e
 |false=>exact e
theorem bA0(ha:PT X a tA):PW X (.BoolOp .Or [a] pos) tA:=by
 intro wh pins s Z H Q I h;refine isTrue_or (cO (ha pins s Z H Q I h) λc s1 e=>?_);cases c with
 |false=>exact isTrue_or_nil e
 |true=>exact e
theorem bA1(ha:PT X a tA)(hb:PW X (.BoolOp .And (b::rest) pos) yQ):PW X (.BoolOp .And (a::b::rest) pos) (Yd tA yQ):=by
 intro wh pins s Z H Q I h;refine isTrue_and (cO (ha pins s Z H _ I h) λc s1 ⟨H1,I1,q1⟩=>?_);cases c with
 |true=>exact hb wh pins s1 Z H1 Q I1 q1
 |false=>exact⟨H1,I1,q1⟩
theorem ZQ(ha:PT X a tA)(hb:PW X (.BoolOp .Or (b::rest) pos) yQ):PW X (.BoolOp .Or (a::b::rest) pos) (OJ tA yQ):=by
 intro wh pins s Z H Q I h;refine isTrue_or (cO (ha pins s Z H _ I h) λc s1 ⟨H1,I1,q1⟩=>?_);cases c with
 |true=>exact⟨H1,I1,q1⟩
 |false=>exact hb wh pins s1 Z H1 Q I1 q1
theorem bA2(ha:PT X a tA):PT X (.UnaryOp .Not a pos) (Yk tA):=by
 intro pins s Z H Q I h;exact isTrue_not (ha pins s Z H (λc H1=>Q (!c) H1) I h)
def bK2(ta tb:TE):TE:=λZ H Q=>ta Z H λx H1=>∃c,x=.bl c/\if c=true then tb Z H1 Q else Q (.bl false) H1
def Yl(ta tb:TE):TE:=λZ H Q=>ta Z H λx H1=>∃c,x=.bl c/\if c=true then Q (.bl true) H1 else tb Z H1 Q
def bJ9(ta:TE):TE:=λZ H Q=>ta Z H λx H1=>∃c,x=.bl c/\Q (.bl (!c)) H1
theorem bB3{op}{t:TE}(h:PE X a t):PE X (.BoolOp op [a] pos) t:=λpins s Z H Q I hw=>BoolOp_one (h pins s Z H Q I hw)
theorem bC0(ha:PE X a ta)(hb:PE X (.BoolOp .And (b::rest) pos) tb):PE X (.BoolOp .And (a::b::rest) pos) (bK2 ta tb):=by
 intro pins s Z H Q I h;refine BoolOp_and (cO (ha pins s Z H _ I h) λv s1 bq=>?_);obtain⟨x,H1,I1,r1,q1⟩:=bq;obtain⟨c,rfl,q1⟩:=q1;cases r1;refine cw ?_;cases c with
 |true=>exact hb pins s1 Z H1 Q I1 q1
 |false=>exact⟨.bl false,H1,I1,rfl,q1⟩
theorem ZM(ha:PE X a ta)(hb:PE X (.BoolOp .Or (b::rest) pos) tb):PE X (.BoolOp .Or (a::b::rest) pos) (Yl ta tb):=by
 intro pins s Z H Q I h;refine BoolOp_or (cO (ha pins s Z H _ I h) λv s1 bq=>?_);obtain⟨x,H1,I1,r1,q1⟩:=bq;obtain⟨c,rfl,q1⟩:=q1;cases r1;refine cw ?_;cases c with
 |false=>exact hb pins s1 Z H1 Q I1 q1
 |true=>exact⟨.bl true,H1,I1,rfl,q1⟩
theorem bB4(ha:PE X a ta):PE X (.UnaryOp .Not a pos) (bJ9 ta):=by
 intro pins s Z H Q I h;refine UnaryOp_ (cO (ha pins s Z H _ I h) λv s1 bq=>?_);obtain⟨x,H1,I1,r1,q1⟩:=bq;obtain⟨c,rfl,q1⟩:=q1;cases r1;exact not_of (cw ⟨.bl (!c),H1,I1,rfl,q1⟩)
def OK(t:TT)(ta tb:TE):TE:=λZ H Q=>t Z H λc H1=>if c=true then ta Z H1 Q else tb Z H1 Q
theorem Wl(hc:PT X c tA)(ha:PE X a ta)(hb:PE X b tb):PE X (.IfExp c a b pos) (OK tA ta tb):=by
 intro pins s Z H Q I h;refine wpAny_IfExp (cO (hc pins s Z H _ I h) λd s1 ⟨H1,I1,q1⟩=>?_);cases d with
 |true=>exact ha pins s1 Z H1 Q I1 q1
 |false=>exact hb pins s1 Z H1 Q I1 q1
end
def fO(K:PySem.W.Frag)(H:Hp)(a:Addr)(xs:List V):Prop :=
 Rd H a (.lst xs) \/
  ∃(o:Obj) (bo:Array Value) (n:Nat),K.lookup a=some o/\o.cls=.type "list"/\o.dict=none/\o.data=.seq bo n/\bo.size<=sizeLine/\Vals xs bo.toList
def jo(K:PySem.W.Frag)(H:Hp)(a:Addr)(xs:List V):Prop :=
 Rd H a (.tup xs) \/
  ∃(o:Obj) (bo:Array Value) (n:Nat),K.lookup a=some o/\o.cls=.type "tuple"/\o.data=.seq bo n/\bo.size<=sizeLine/\Vals xs bo.toList
def WY:Value->Option V
 |.none=>some .br
 |.bool b=>some (.bl b)
 |.int i _=>some (.int i)
 |.str x _=>some (.str x)
 |.bytes b _=>some (.mK b)
 |.float b _=>some (.sY b)
 |.ref a=>some (.ref a)
 |.type n=>some (.ty n)
 |_=>none
theorem RelV.abs{x:V}(r:RelV x u):WY u=some x:=by
 cases x with
 |br=>cases r;rfl
 |bl _=>cases r;rfl
 |int _=>obtain⟨t,rfl⟩:=r;rfl
 |str _=>obtain⟨t,rfl⟩:=r;rfl
 |mK _=>obtain⟨t,rfl⟩:=r;rfl
 |sY _=>obtain⟨t,rfl⟩:=r;rfl
 |ref _=>cases r;rfl
 |ty _=>cases r;rfl
theorem RelV.inj{x y:V}{u:Value}(r:RelV x u)(q:RelV y u):x=y:=aR (r.abs.symm.trans q.abs)
theorem Vals.inj{xs ys:List V}{us:List Value}(h:Vals xs us)(h':Vals ys us):xs=ys:=by
 induction h generalizing ys with
 |nil=>cases h';rfl
 |cons r t ih =>
  cases h' with
  |cons r' t'=>rw[r.inj r',ih t']
section
variable{ys:List V}
theorem fO.of(h:H a=some (.lst xs)):fO K H a xs:=.inl (.inl h)
theorem Inv.list(I:Inv X pins Z H s)(h:fO X.K H a xs):∃bo:List Value,Vals xs bo/\PlainL s.heap a bo.toArray/\xs.length<=sizeLine:=by
 rcases h with h|⟨o,bo,n,hk,hc,hd,hs,hz,r⟩
 ·obtain⟨z,bo,n,r,e⟩:=h.ok I.bZ;exact⟨bo,r,⟨_,n,e,rfl,rfl,rfl⟩,z⟩
 ·refine⟨bo.toList,r,⟨o,n,I.hJ a o hk,hc,hd,by simpa using hs⟩,?_⟩;have e:=r.length;simp only[Array.length_toList] at e;omega
theorem Inv.tuple(I:Inv X pins Z H s)(h:jo X.K H a xs):∃bo:List Value,Vals xs bo/\IsTup s.heap a bo.toArray/\xs.length<=sizeLine:=by
 rcases h with h|⟨o,bo,n,hk,hc,hs,hz,r⟩
 ·obtain⟨z,bo,r,p⟩:=h.ok I.bZ;exact⟨bo,r,p.tup,z⟩
 ·refine⟨bo.toList,r,⟨o,I.hJ a o hk,hc,n,by simpa using hs⟩,?_⟩;have e:=r.length;simp only[Array.length_toList] at e;omega
theorem Inv.EX(I:Inv X pins Z H s)(h:fO X.K H a xs)(h':fO X.K H a ys):xs=ys:=by
 obtain⟨bo,r,⟨o,n,e,_,_,d⟩,_⟩:=I.list h;obtain⟨its',r',⟨o',n',e',_,_,d'⟩,_⟩:=I.list h';rw[e] at e';cases e';rw[d] at d';injection d' with d1 _;have:bo=its':=by simpa using iC Array.toList d1
 subst this;exact r.inj r'
theorem Inv.aZ6(I:Inv X pins Z H s)(h:jo X.K H a xs)(h':jo X.K H a ys):xs=ys:=by
 obtain⟨bo,r,⟨o,e,_,n,d⟩,_⟩:=I.tuple h;obtain⟨its',r',⟨o',e',_,n',d'⟩,_⟩:=I.tuple h';rw[e] at e';cases e';rw[d] at d';injection d' with d1 _;have:bo=its':=by simpa using iC Array.toList d1
 subst this;exact r.inj r'
end
noncomputable abbrev Cx.qm(X:Cx)(E:Value->Shared->Prop):Cx:={ X with xe:=E }
theorem Cx.Ok.qm{X:Cx}(ok:X.Ok)(E:Value->Shared->Prop):(X.qm E).Ok :=
 ⟨ok.mod,ok.kind,ok.glob,ok.blt,ok.above,ok.inj,ok.has,ok.qW,ok.hd,ok.frames,ok.rK,ok.xk,ok.bs,ok.oK,ok.kX,ok.ml,ok.M7,ok.ph⟩
theorem Cx.Ok.GO(ok:(X.qm E).Ok):X.Ok :=
 ⟨ok.mod,ok.kind,ok.glob,ok.blt,ok.above,ok.inj,ok.has,ok.qW,ok.hd,ok.frames,ok.rK,ok.xk,ok.bs,ok.oK,ok.kX,ok.ml,ok.M7,ok.ph⟩
theorem Inv.qm(I:Inv X pins Z H s)(E:Value->Shared->Prop):Inv (X.qm E) pins Z H s:=⟨I.ok.qm E,I.os,I.bare,I.base,I.loc,I.cell,I.free,I.eR,I.pin,I.bZ,I.len,I.sg⟩
theorem Inv.GO(I:Inv (X.qm E) pins Z H s):Inv X pins Z H s:=⟨I.ok.GO,I.os,I.bare,I.base,I.loc,I.cell,I.free,I.eR,I.pin,I.bZ,I.len,I.sg⟩
section
variable{st:Stmt}{rest:List Stmt}{t u:TS}
def JY:TS:=λD Z H=>D.nx Z H
def Yn(t u:TS):TS:=λD Z H=>t { D with nx:=u D } Z H
theorem UM:jL X [] JY:=λ_ _ Z H _ I h=>kF ⟨Z,H,I,h⟩
theorem Wv(h1:PS X st t)(h2:jL X rest u):jL X (st::rest) (Yn t u):=by
 intro pins s Z H D I h;refine wpAny_execs_cons (cO (h1 pins s Z H { D with nx:=u D } I h) λf s1 q=>?_);cases f with
 |next =>
  obtain⟨bU,H',I',q⟩:=q;exact h2 pins s1 bU H' D I' q
 |ret v=>exact q
 |brk=>exact q
 |cont=>exact q
theorem UK:PS X (.Pass pos) JY:=λ_ _ Z H _ I h=>wpAny_Pass ⟨Z,H,I,h⟩
theorem Inv.quiet(I:Inv X pins Z H s):interactive X.env=false:=by simp[interactive,I.ok.kind]
def bK0(te:TE):TS:=λD Z H=>te Z H λ_ H1=>D.nx Z H1
theorem UJ(he:PE X e te)(hs:swapsWith e none pos.line X.env=pure false:=by rfl):PS X (.Expr e pos) (bK0 te):=by
 intro pins s Z H D I h;exact wpAny_Expr_any (cO (he pins s Z H _ I h) λv s1 ⟨x,H1,I1,r1,q1⟩=>⟨Z,H1,I1,q1⟩) I.quiet hs
def Ym(te:TE):TS:=λD Z H=>te Z H D.rt
theorem bA3(he:PE X e te):PS X (.Return (some e) pos) (Ym te):=by
 intro pins s Z H D I h;exact wpAny_Return_some (cO (he pins s Z H _ I h) λv s1 ⟨x,H1,I1,r1,q1⟩=>⟨x,Z,H1,I1,r1,q1⟩)
def bJ7:TS:=λD _ H=>D.rt .br H
theorem UL:PS X (.Return none pos) bJ7:=λ_ _ Z H _ I h=>wpAny_Return_none ⟨.br,Z,H,I,rfl,h⟩
def Yi(c:TT)(t u:TS):TS:=λD Z H=>c Z H λb H1=>if b=true then t D Z H1 else u D Z H1
theorem ZP{a b:List Stmt}{tc:TT}(hc:PT X c tc)(ha:jL X a t)(hb:jL X b u):PS X (.If c a b pos) (Yi tc t u):=by
 intro pins s Z H D I h;refine wpAny_If (cO (hc pins s Z H _ I h) λd s1 ⟨H1,I1,q1⟩=>?_);cases d with
 |true=>exact ha pins s1 Z H1 D I1 q1
 |false=>exact hb pins s1 Z H1 D I1 q1
end
noncomputable abbrev TG:=V->St->Hp->(St->Hp->Prop)->Prop
noncomputable abbrev rj:=List V->St->Hp->(St->Hp->Prop)->Prop
def PG(X:Cx)(target:Expr)(t:TG):Prop :=
 ∀(pins:List (Addr×Obj)) (s:Shared) (Z:St) (H:Hp) (v:V) (u:Value) (Q:St->Hp->Prop),Inv X pins Z H s->RelV v u->t v Z H Q ->
  wpAny (model X.prog X.w) X.A (assign target X.env u) (λ_ s'=>∃bU H',Inv X pins bU H' s'/\Q bU H') X.xe s
def yy(X:Cx)(ts:List Expr)(t:rj):Prop :=
 ∀(pins:List (Addr×Obj)) (s:Shared) (Z:St) (H:Hp) (vs:List V) (us:List Value) (Q:St->Hp->Prop),Inv X pins Z H s->Vals vs us->t vs Z H Q ->
  wpAny (model X.prog X.w) X.A (assignInOrder ((assignEach ts X.env).map (·.2)) us) (λ_ s'=>∃bU H',Inv X pins bU H' s'/\Q bU H') X.xe s
noncomputable abbrev Eb:=V->V->V->Hp->(Hp->Prop)->Prop
def Ea(X:Cx)(t:Eb):Prop :=
 ∀(pins:List (Addr×Obj)) (s:Shared) (Z:St) (H:Hp) (o i v:V) (ov iv u:Value) (Q:Hp->Prop),Inv X pins Z H s->RelV o ov->RelV i iv->RelV v u->t o i v H Q ->
  wpAny (model X.prog X.w) X.A (setItem ov iv u) (λ_ s'=>∃H',Inv X pins Z H' s'/\Q H') X.xe s
noncomputable abbrev GX:=V->V->Hp->VK->Prop
def NY(X:Cx)(op:Operator)(t:GX):Prop :=
 ∀(pins:List (Addr×Obj)) (s:Shared) (Z:St) (H:Hp) (x y:V) (v u:Value) (Q:VK),Inv X pins Z H s->RelV x v->RelV y u->t x y H Q ->
  wpAny (model X.prog X.w) X.A (inplaceOp op v u) (EP X pins Z Q) X.xe s
def uT(i:Nat):TG:=λv Z H Q=>Q (Z.set i (some v)) H
theorem Mm(hN:X.Nd)(hi:X.N[i]?=some x)(hx:Loc X.env.scope x)(hf:X.fn x=true\/X.env.scope.names.lookup x=some .local:=by first|exact .inl rfl|exact .inr rfl|assumption):PG X (.Name x pos) (uT i):=by
 intro pins s Z H v u Q I r h;exact wpAny_assign_Name (Ff I hN hi hx r (λs' I'=>⟨_,H,I',h⟩) hf)
def Kf:rj:=λvs Z H Q=>vs=[]/\Q Z H
def JH(t:TG)(u:rj):rj:=λvs Z H Q=>∃v r,vs=v::r/\t v Z H λbU H'=>u r bU H' Q
theorem UG:yy X [] Kf:=by
 intro pins s Z H vs us Q I r h;obtain⟨e,h⟩:=h;subst e;cases r;exact assignInOrder_nil ⟨Z,H,I,h⟩
theorem Wq{t:TG}{u:rj}(h1:PG X e t)(h2:yy X es u)(hs:(assignEach (e::es) X.env).map (·.2)=assign e X.env::(assignEach es X.env).map (·.2):=by rfl):yy X (e::es) (JH t u):=by
 intro pins s Z H vs us Q I r h;obtain⟨v,vr,e1,h⟩:=h;subst e1;cases r with
 |cons r rr =>
  rw[hs];refine assignInOrder_cons (cO (h1 pins s Z H _ _ _ I r h) λ_ s1 bq=>?_);obtain⟨jl,H1,I1,q1⟩:=bq;exact h2 pins s1 jl H1 _ _ Q I1 rr q1
def Xp(K:PySem.W.Frag)(n:Nat)(t:rj):TG:=λv Z H Q=>∃a xs,v=.ref a/\jo K H a xs/\xs.length=n/\t xs Z H Q
theorem bA9{t:rj}{n:Nat}(hc:X.calm=true)(h:yy X es t)(hn:(assignEach es X.env).length=n:=by rfl)(eB:(assignEach es X.env).findIdx? (·.1)=none:=by rfl):PG X (.Tuple es k pos) (Xp X.K n t):=by
 intro pins s Z H v u Q I r hw;obtain⟨a,xs,e1,hq,hl,hw⟩:=hw;subst e1;cases r;obtain⟨bo,rv,ht,hz⟩:=I.tuple hq;refine assign_Tuple_tuple (I.ok.hd hc) ht (by simp[hn,<- hl,rv.length]) eB λh' hx=>?_;have I1:Inv X pins Z H { s with heap:=h' }:=I.kept (t':=s.toks) λb o e=>hx b o (aU (aF e)) e;exact h pins _ Z H xs _ Q I1 (by simpa using rv) hw
def Xo(to ti:TE)(t:Eb):TG:=λv Z H Q=>to Z H λo H1=>ti Z H1 λi H2=>t o i v H2 λH3=>Q Z H3
theorem bB0{o i:Expr}{to ti:TE}{t:Eb}(ho:PE X o to)(hi:PE X i ti)(hs:Ea X t)(ha:∀ v,assign (.Subscript o i pos) X.env v=(do
   let ov <- holding [v] (eval o X.env)
   let iv <- holding [v,ov] (eval i X.env)
   standAt pos
   holding [v,ov,iv] (setItem ov iv v)
   release [v,ov,iv] []):=by intro _;rfl):PG X (.Subscript o i pos) (Xo to ti t):=by
 intro pins s Z H v u Q I r h;rw[ha];refine ae (cI (cO (ho pins s Z H _ I h) λov s1 bq=>?_));obtain⟨x,H1,I1,r1,q1⟩:=bq;refine ae (cI (cO (hi pins s1 Z H1 _ I1 q1) λiv s2 bq=>?_));obtain⟨y,H2,I2,r2,q2⟩:=bq;refine ae (fq (ae (cI (cO (hs pins s2 Z H2 x y v ov iv u _ I2 r1 r2 r q2) λ_ s3 ⟨H3,I3,q3⟩=>?_))));exact wpAny_release ⟨Z,H3,I3,q3⟩
def yn(te:TE)(g:TG):TS:=λD Z H=>te Z H λx H1=>g x Z H1 D.nx
theorem NO{g:TG}(he:PE X e te)(hg:PG X tg g)(hs:swapsWithSole [tg] e pos.line X.env=pure false:=by rfl)(hw:swappedStores [tg] e X.env=pure none:=by rfl)(h1:(assignEach [tg] X.env).map (·.2)=[assign tg X.env]:=by rfl):PS X (.Assign [tg] e pos) (yn te g):=by
 intro pins s Z H D I h;refine wpAny_Assign_stores (cO (he pins s Z H _ I h) λv s1 bq=>?_) hs hw;obtain⟨x,H1,I1,r1,q1⟩:=bq;rw[h1];exact cO (hg pins s1 Z H1 x v _ I1 r1 q1) λ_ s2 q=>q
theorem NP(hN:X.Nd)(hi:X.N[i]?=some x)(hx:Loc X.env.scope x)(he:PE X e te)(hs:swapsWith e (some (.Name x pos')) pos.line X.env=pure false:=by rfl)(hf:X.fn x=true\/X.env.scope.names.lookup x=some .local:=by first|exact .inl rfl|exact .inr rfl|assumption) :
  PS X (.Assign [.Name x pos'] e pos) (yn te (uT i)):=by
 intro pins s Z H D I h;refine wpAny_Assign_Name (cO (he pins s Z H _ I h) λv s1 bq=>?_) hs;obtain⟨y,H1,I1,r1,q1⟩:=bq;exact Ff I1 hN hi hx r1 (λs2 I2=>⟨_,H1,I2,q1⟩) hf
def Ye(i:Nat)(te:TE)(ti:GX):TS:=λD Z H=>∃x,Z[i]?=some (some x)/\te Z H λy H1=>ti x y H1 λz H2=>D.nx (Z.set i (some z)) H2
theorem bA6{op:Operator}{ti:GX}(hN:X.Nd)(hi:X.N[i]?=some x)(hx:Loc X.env.scope x)(he:PE X e te)(ho:NY X op ti)(hf:X.fn x=true\/X.env.scope.names.lookup x=some .local:=by first|exact .inl rfl|exact .inr rfl|assumption) :
  PS X (.AugAssign (.Name x pos') op e pos) (Ye i te ti):=by
 intro pins s Z H D I h;obtain⟨v,e1,h⟩:=h;obtain⟨m,hn,hl⟩:=I.loc;have ua:yt X.env.scope x:=by rcases hx with k|k;exact .inl k;exact .inr (.inl k)
 obtain⟨u,r,l⟩:=hl i x v hi e1 ua;refine wpAny_AugAssign_Name ?_;have go:wpAny (model X.prog X.w) X.A (eval e X.env) (λw fZ=>wpAny (model X.prog X.w) X.A (inplaceOp op u w) (λr fk=>wpAny (model X.prog X.w) X.A (storeName X.env x r) (λ_=>SP X pins D .next) X.xe fk) X.xe fZ) X.xe s:=by
  refine cO (he pins s Z H _ I h) λw s1 bq=>?_;obtain⟨y,H1,I1,r1,q1⟩:=bq;refine cO (ho pins s1 Z H1 v y u w _ I1 r r1 q1) λz s2 bq=>?_;obtain⟨zv,H2,I2,r2,q2⟩:=bq;exact Ff I2 hN hi hx r2 (λs3 I3=>⟨_,H2,I3,q2⟩) hf
 rcases l with⟨hk,hm⟩|⟨hk,c,hc,mJ⟩
 ·exact wpAny_loadName_local I.ok.kind hk hn hm go
 ·rcases hk with hk|hk
  ·exact wpAny_loadName_cell I.ok.kind hk hc mJ go
  ·rcases hx with k|k
   ·have:X.env.scope.names.lookup x=some .free:=hk;rw[k] at this;cases this
   ·have:X.env.scope.names.lookup x=some .free:=hk;rw[k] at this;cases this
def Tf(c:TT)(tb:TS):TS:=λD Z H=>∃W:Nat->St->Hp->Prop,(∃m,W m Z H)/\∀m Z H,W m Z H ->
 c Z H λb H1=>if b=true then ∃N:St->Hp->Prop,(∀bU H',N bU H'->∃m',m'<m/\W m' bU H')/\tb { D with nx:=N,ct:=N,bk:=D.nx } Z H1 else D.nx Z H1
theorem Wu{tc:TT}{tb:TS}(hp:PassesOwn (model X.prog X.w) X.A X.env X.xe)(hc:PT X c tc)(hb:jL X body tb):PS X (.While c body [] pos) (Tf tc tb):=by
 intro pins s Z H D I h;obtain⟨W,⟨m0,w0⟩,turn⟩:=h;refine wpAny_While (codeAny_whileLoop (λn s'=>∃bU H',Inv X pins bU H' s'/\W n bU H') ?_ m0 ⟨Z,H,I,w0⟩);rintro n s1 ⟨jl,H1,I1,w1⟩;refine eF hp (cO (hc pins s1 jl H1 _ I1 (turn n jl H1 w1)) λb s2 ⟨H2,I2,q2⟩=>?_);cases b with
 |true =>
  obtain⟨N,hN,q2⟩:=q2;rw[aH rfl];refine eF hp (cO (hb pins s2 jl H2 _ I2 q2) λf s3 q3=>?_);cases f with
  |next =>
   obtain⟨jb,H3,I3,n3⟩:=q3;obtain⟨m',hm,w3⟩:=hN jb H3 n3;exact⟨m',hm,jb,H3,I3,w3⟩
  |cont =>
   obtain⟨jb,H3,I3,n3⟩:=q3;obtain⟨m',hm,w3⟩:=hN jb H3 n3;exact⟨m',hm,jb,H3,I3,w3⟩
  |brk=>exact q3
  |ret v=>exact q3
 |false =>
  rw[aE cx];exact kF ⟨jl,H2,I2,q2⟩
structure It where
 go:Nat->Hp->Prop
 rH:Nat->Hp->V->Hp->Prop
 stop:Nat->Hp->Prop
def F8(X:Cx)(pins:List (Addr×Obj))(H:Hp)(b:Addr):Prop :=
 H b=none/\b≠X.env.locals/\b∉X.fs/\(b∈X.ex\/X.dE.heap.objs.size<=b)/\(∀x c,X.env.cells.lookup x=some c->c≠b)/\∀p∈X.pn++pins,p.1≠b
theorem Inv.rf(I:Inv X pins Z H s)(hb:s.heap.objs.size<=b)(hn:H' b=none):F8 X pins H' b:=by
 refine⟨hn,cc (aC I.lt hb),I.ym hb,.inr (aG I.sz hb),λx c e z=>?_,λp hp z=>?_⟩
 ·obtain⟨v,q⟩:=I.cell x c e;exact absurd (aC q.lt (by rw[z];exact hb)) (bu _)
 ·exact absurd (aC (aF (I.pin p hp).1) (by rw[z];exact hb)) (bu _)
structure Turn(P:Program)(w:World)(K:PySem.W.Frag)(tg:Expr)(J:It)(fp:List Addr)(it:Addr)(tn:Nat->Heap->Prop):Prop where
 mem:it∈fp
 obj:∀i h,tn i h->∀b∈fp,∃o,h.get? b=some o/\∀v,o.data≠.cell v
 keep:∀i h h',tn i h->(∀b∈fp,∀o,h.get? b=some o->h'.get? b=some o)->tn i h'
 item:∀(X:Cx),X.prog=P->X.w=w->X.K=K->X.calm=true->∀(i:Nat) (pins:List (Addr×Obj)) (s:Shared) (Z:St) (H:Hp) (E:Value->Shared->Prop),Inv X pins Z H s->(∀b∈fp,F8 X pins H b)->tn i s.heap->J.go i H ->
  wpAny (model P w) X.A (pyNext (.ref it)) (λr s1=>∃ u,r=some u /\
   wpAny (model P w) X.A (letOwnedTupleGo tg (.ref it) u) (λ_ s2=>∃ x H',Inv X pins Z H' s2/\RelV x u/\J.rH i H x H'/\tn (i + 1) s2.heap/\∀ b ∈ fp,H' b=none) E s1) E s
 done:∀(X:Cx),X.prog=P->X.w=w->X.K=K->X.calm=true->∀(i:Nat) (pins:List (Addr×Obj)) (s:Shared) (Z:St) (H:Hp) (E:Value->Shared->Prop),Inv X pins Z H s->(∀b∈fp,F8 X pins H b)->tn i s.heap->J.stop i H ->
  wpAny (model P w) X.A (pyNext (.ref it)) (λr s1=>r=none/\Inv X pins Z H s1) E s
 self:∀(A:Around) (i:Nat) (s:Shared) (Q:Value->Shared->Prop) (E:Value->Shared->Prop),tn i s.heap->Q (.ref it) s->wpAny (model P w) A (pyIter (.ref it)) Q E s
noncomputable abbrev TI:=St->Hp->(It->Hp->Prop)->Prop
def NZ(X:Cx)(pins:List (Addr×Obj))(Z:St)(tg:Expr)(R:It->Hp->Prop)(wj:Value)(s2:Shared):Prop :=
 ∃(it:Addr) (fp:List Addr) (tn:Nat->Heap->Prop) (J:It) (H':Hp),wj=.ref it/\Inv X pins Z H' s2/\Turn X.prog X.w X.K tg J fp it tn/\tn 0 s2.heap/\(∀b∈fp,F8 X pins H' b)/\R J H'
def PI(X:Cx)(tg iter:Expr)(wi:TI):Prop :=
 ∀(pins:List (Addr×Obj)) (s:Shared) (Z:St) (H:Hp) (R:It->Hp->Prop),Inv X pins Z H s->wi Z H R ->
  wpAny (model X.prog X.w) X.A (eval iter X.env) (λv s1=>wpAny (model X.prog X.w) X.A (pyIter v) (NZ X pins Z tg R) X.xe s1) X.xe s
theorem AO{it:Addr}{o:Obj}{n:String}{vs:Array Value}{Q:Unit->Shared->Prop}(ho:s.heap.get? it=some o)(hc:o.cls=.type n)(hd:o.data=.fields vs)(hn:["enumerate","zip","dict_itemiterator","dict_reverseitemiterator","odict_iterator","itertools.zip_longest","itertools.pairwise"].contains n=false)(hQ:Q Unit.unit s):wpAny M A (letOwnedTupleGo tg (.ref it) u) Q E s:=by
  unfold letOwnedTupleGo;cases tg<;>first
    |exact av hQ
    | (cases u <;> first
        |exact av hQ
        | (refine ae (wpAny_load ho ?_)
           rw[hc,hd];show wpAny M A (if(["enumerate","zip","dict_itemiterator","dict_reverseitemiterator","odict_iterator","itertools.zip_longest","itertools.pairwise"].contains n&&vs[0]?==some (rawInt _))=true then _ else _) Q E s;rw[aE (by intro h;rw[hn,Bool.false_and] at h;cases h)];exact av hQ))
def Ha(K:PySem.W.Frag)(a:Addr):It :=
 ⟨λi H=>∃xs x,fO K H a xs/\xs[i]?=some x,λi H x H'=>H'=H/\∀xs,fO K H a xs->xs[i]?=some x,λi H=>∃xs,fO K H a xs/\xs.length<=i⟩
def GZ(K:PySem.W.Frag)(a:Addr):It :=
 ⟨λi H=>∃xs x,jo K H a xs/\xs[i]?=some x,λi H x H'=>H'=H/\∀xs,jo K H a xs->xs[i]?=some x,λi H=>∃xs,jo K H a xs/\xs.length<=i⟩
def yB(lo:Int)(n:Nat):It:=⟨λi _=>i<n,λi H x H'=>H'=H/\x=.int (lo+i),λi _=>n<=i⟩
theorem aZ4(a it:Addr):Turn P w K tg (Ha K a) [it] it (λi h=>h.IsListIter it a i) where
 mem:=by simp
 obj:=λi h st b hb=>by
  have e:b=it:=by simpa using hb
  subst e;obtain⟨o,e,c,d⟩:=st;exact⟨o,e,λv z=>by rw[d] at z;cases z⟩
 keep:=λi h h' st k=>st.at λo e=>k it (by simp) o e
 item:=by
  intro X hP hw hK hc i pins s Z H E I hf st hg;subst hP hw hK;obtain⟨xs,x,hq,hx⟩:=hg;obtain⟨bo,rv,p,hz⟩:=I.list hq;obtain⟨u,hu,ru⟩:=rv.get hx;obtain⟨f0,f1,f2,f3,f4,f5⟩:=hf it (by simp);refine wpAny_pyNext_list_item st p.isList (x:=u) (by simpa using hu) λh' mX sb=>?_;have I1:Inv X pins Z H { s with heap:=h' }:=I.turned (t':=s.toks) (λb o hb e=>(sb.2 b hb).trans e) f0 f1 f3 f4 f5;obtain⟨o,e,c,d⟩:=id mX;exact⟨u,rfl,AO (s:={ s with heap:=h' }) e c d ∅ ⟨x,H,I1,ru,⟨rfl,λys hy=>by rw[I.EX hy hq];exact hx⟩,mX,λb hb=>(hf b hb).1⟩⟩
 done:=by
  intro X hP hw hK hc i pins s Z H E I hf st hg;subst hP hw hK;obtain⟨xs,hq,hx⟩:=hg;obtain⟨bo,rv,p,hz⟩:=I.list hq;obtain⟨f0,f1,f2,f3,f4,f5⟩:=hf it (by simp);have hl:=rv.length;exact wpAny_pyNext_list_end (I.ok.hd hc) st p.isList (by simp;omega) λh' eb=>⟨rfl,I.turned (t':=s.toks) (λb o hb e=>eb b o hb e) f0 f1 f3 f4 f5⟩
 self:=λ_ _ _ _ _ st h=>wpAny_pyIter_listiter st h
theorem aS0(a it:Addr):Turn P w K tg (GZ K a) [it] it (λi h=>h.IsTupleIter it a i) where
 mem:=by simp
 obj:=λi h st b hb=>by
  have e:b=it:=by simpa using hb
  subst e;obtain⟨o,e,c,d⟩:=st;exact⟨o,e,λv z=>by rw[d] at z;cases z⟩
 keep:=λi h h' st k=>st.at λo e=>k it (by simp) o e
 item:=by
  intro X hP hw hK hc i pins s Z H E I hf st hg;subst hP hw hK;obtain⟨xs,x,hq,hx⟩:=hg;obtain⟨bo,rv,p,hz⟩:=I.tuple hq;obtain⟨u,hu,ru⟩:=rv.get hx;obtain⟨f0,f1,f2,f3,f4,f5⟩:=hf it (by simp);refine wpAny_pyNext_tuple_item st (show s.heap.IsTuple a bo.toArray from p) (x:=u) (by simpa using hu) λh' mX sb=>?_;have I1:Inv X pins Z H { s with heap:=h' }:=I.turned (t':=s.toks) (λb o hb e=>(sb.2 b hb).trans e) f0 f1 f3 f4 f5;obtain⟨o,e,c,d⟩:=id mX;exact⟨u,rfl,AO (s:={ s with heap:=h' }) e c d ∅ ⟨x,H,I1,ru,⟨rfl,λys hy=>by rw[I.aZ6 hy hq];exact hx⟩,mX,λb hb=>(hf b hb).1⟩⟩
 done:=by
  intro X hP hw hK hc i pins s Z H E I hf st hg;subst hP hw hK;obtain⟨xs,hq,hx⟩:=hg;obtain⟨bo,rv,p,hz⟩:=I.tuple hq;obtain⟨f0,f1,f2,f3,f4,f5⟩:=hf it (by simp);have hl:=rv.length;exact wpAny_pyNext_tuple_end (I.ok.hd hc) st (show s.heap.IsTuple a bo.toArray from p) (by simp;omega) λh' eb=>⟨rfl,I.turned (t':=s.toks) (λb o hb e=>eb b o hb e) f0 f1 f3 f4 f5⟩
 self:=λ_ _ _ _ _ st h=>wpAny_pyIter_tupleiter st h
theorem aS2(it:Addr)(lo:Int)(n:Nat):Turn P w K tg (yB lo n) [it] it (λi h=>IsRangeIter h it (lo+(i:Nat)*1) ((n:Int)-(i:Nat)) 1) where
 mem:=by simp
 obj:=λi h st b hb=>by
  have e:b=it:=by simpa using hb
  subst e;exact ⟨_,st,λv z=>by
   have z':Data.fields _=Data.cell v:=z;cases z'⟩
 keep:=λi h h' st k=>k it (by simp) _ st
 item:=by
  intro X hP hw hK hc i pins s Z H E I hf st hg;subst hP hw hK;obtain⟨f0,f1,f2,f3,f4,f5⟩:=hf it (by simp);have W:=Walks.range (prog:=X.prog) (w:=X.w) (I.ok.hd hc) it lo 1 n;refine W.item i s _ _ hg st λv h' tk hv mX kk=>?_;obtain⟨t,rfl⟩:=hv;have I1:Inv X pins Z H { s with heap:=h',toks:=tk }:=I.turned (λb o hb e=>kk b o (by simpa using hb) e) f0 f1 f3 f4 f5;refine⟨_,rfl,AO (s:={ s with heap:=h',toks:=tk }) (n:="range_iterator") mX rfl rfl ∅ ⟨.int (lo+i),H,I1,⟨t,?_⟩,⟨rfl,rfl⟩,mX,λb hb=>(hf b hb).1⟩⟩;rw[Int.mul_one]
 done:=by
  intro X hP hw hK hc i pins s Z H E I hf st hg;subst hP hw hK;obtain⟨f0,f1,f2,f3,f4,f5⟩:=hf it (by simp);exact wpAny_pyNext_range_end (I.ok.hd hc) st (by have:n<=i:=hg;omega) λh' eb=>⟨rfl,I.turned (t':=s.toks) (λb o hb e=>eb b o hb e) f0 f1 f3 f4 f5⟩
 self:=λ_ _ _ _ _ st h=>wpAny_pyIter_rangeiter st h
theorem MW{R:It->Hp->Prop}{lo hi:Int}{t u v:Tok}{tk:Nat}(I:Inv X pins Z H s)(h1:-(2 ^ 62)<=lo)(h2:lo<2 ^ 62)(h3:-(2 ^ 62)<=hi)(h4:hi<2 ^ 62)(q:R (yB lo (hi-lo).toNat) H):wpAny (model X.prog X.w) X.A (pyIter (.ref s.heap.objs.size)) (NZ X pins Z tg R) E { s with heap:=s.heap.push { cls:=.type "range",data:=.fields #[.int lo t,.int hi u,.int 1 v] },toks:=tk }:=by
 refine wpAny_pyIter_range (IsRange.new ..) (small_one h1 h2 h3 h4) ?_;have I1:Inv X pins Z H { s with heap:=s.heap.push { cls:=.type "range",data:=.fields #[.int lo t,.int hi u,.int 1 v] },toks:=tk }:=I.kept λb o e=>au _ e;refine ⟨(s.heap.push { cls:=.type "range",data:=.fields #[.int lo t,.int hi u,.int 1 v] }).objs.size,[(s.heap.push { cls:=.type "range",data:=.fields #[.int lo t,.int hi u,.int 1 v] }).objs.size],_,_,H,rfl,
  I1.kept (t':=tk) λb o e=>au _ e,aS2 _ lo (hi - lo).toNat,?_,λb hb=>?_,q⟩
 ·have e1:lo+((0:Nat):Int)*1=lo:=by simp
  have e2:(((hi-lo).toNat:Nat):Int)-((0:Nat):Int)=Builtin.Range.rangeSize lo hi 1:=by rw[rangeSize_one];split<;>omega
  show IsRangeIter _ _ (lo+((0:Nat):Int)*1) ((((hi-lo).toNat:Nat):Int)-((0:Nat):Int)) 1;rw[e1,e2];exact aI _ rfl
 ·have e:b=(s.heap.push { cls:=.type "range",data:=.fields #[.int lo t,.int hi u,.int 1 v] }).objs.size:=by simpa using hb
  subst e;exact I1.rf (az _) (I1.bZ.fresh (az _))
def Za(ta:TA):TI:=λZ H R=>ta Z H λvs H1=>∃j:Int,vs=[.int j]/\-(2 ^ 62)<=j/\j<2 ^ 62/\R (yB 0 j.toNat) H1
def Zb(ta:TA):TI:=λZ H R=>ta Z H λvs H1=>∃i j:Int,vs=[.int i,.int j]/\(-(2 ^ 62)<=i/\i<2 ^ 62/\-(2 ^ 62)<=j/\j<2 ^ 62)/\R (yB i (j-i).toNat) H1
theorem a22{a:Expr}{ta:TA}(hg:Gl X "range")(hm:X.mg "range"=none)(ha:PA X [a] ta)(hs:starEach [a] X.env=[(false,eval a X.env)]:=by rfl):PI X tg (.Call (.Name "range" p) [a] [] pos) (Za ta):=by
 intro pins s Z H R I h;refine Call_ (O5 I hg hm boot_range (bQ (cO (ha pos pins s Z H _ I h) λus s1 bq=>?_) hs rfl));obtain⟨vs,H1,I1,r1,q1⟩:=bq;obtain⟨j,e,q1,q2,q⟩:=q1;subst e;cases r1 with
 |cons r rr =>
  cases rr;obtain⟨t,rfl⟩:=r;exact call_range_1 (MW I1 () () q1 q2 (by simpa using q))
theorem a21{a b:Expr}{ta:TA}(hg:Gl X "range")(hm:X.mg "range"=none)(ha:PA X [a,b] ta)(hs:starEach [a,b] X.env=[(false,eval a X.env),(false,eval b X.env)]:=by rfl)(jO:starEach [b] X.env=[(false,eval b X.env)]:=by rfl) :
  PI X tg (.Call (.Name "range" p) [a,b] [] pos) (Zb ta):=by
 intro pins s Z H R I h;refine Call_ (O5 I hg hm boot_range (bQ (cO (ha pos pins s Z H _ I h) λus s1 bq=>?_) (by rw[hs,jO]) (by rw[jO];rfl)));obtain⟨vs,H1,I1,r1,q1⟩:=bq;obtain⟨i,j,e,⟨q1,q2,q3,q4⟩,q⟩:=q1;subst e;cases r1 with
 |cons r rr =>
  cases rr with
  |cons r' rr =>
   cases rr;obtain⟨t,rfl⟩:=r;obtain⟨t',rfl⟩:=r';exact call_range_2 (MW I1 q1 q2 q3 q4 q)
def Yh(wi:TI)(g:TG)(tb:TS):TS:=λD Z H=>wi Z H λJ H1=>∃W:Nat->Nat->St->Hp->Prop,(∃m,W 0 m Z H1)/\∀i m Z H,W i m Z H ->
 (J.stop i H/\D.nx Z H)\/(J.go i H/\∃N:St->Hp->Prop,(∀bU H',N bU H'->∃m',m'<m/\W (i+1) m' bU H')/\∀x H',J.rH i H x H'->g x Z H' λcA H2=>tb { D with nx:=N,ct:=N,bk:=D.nx } cA H2)
def vh(fp:List Addr)(h:Heap):List (Addr×Obj):=fp.filterMap λb=>(h.get? b).map λo=>(b,o)
theorem U3{o:Obj}(hb:b∈fp)(e:h.get? b=some o):(b,o)∈vh fp h:=kM.mpr ⟨b,hb,by rw[e];rfl⟩
theorem a36{p:Addr×Obj}(hp:p∈vh fp h):p.1∈fp/\h.get? p.1=some p.2:=by
 obtain⟨b,hb,e⟩:=kM.mp hp;cases q:h.get? b with
 |none=>rw[q] at e;cases e
 |some o =>
  rw[q] at e;have e':(b,o)=p:=aR e;subst e';exact⟨hb,q⟩
theorem Inv.pinned(I:Inv X pins Z H s)(hf:∀b∈fp,F8 X pins H b)(ho:∀b∈fp,∃o,s.heap.get? b=some o/\∀v,o.data≠.cell v):Inv X (pins++vh fp s.heap) Z H s :=
 I.N4 λp hp=>(aV.mp hp).elim (λz=>I.pin p (bt _ z)) λz=>by
  obtain⟨hb,e⟩:=a36 z;obtain⟨f0,f1,f2,_⟩:=hf p.1 hb;obtain⟨o,e',d⟩:=ho p.1 hb;rw[e] at e';cases e';exact⟨e,f0,f1,f2,d⟩
theorem Inv.Fg{pl:List (Addr×Obj)}(I:Inv X (pins++pl) Z H s):Inv X pins Z H s:=I.N4 λp hp=>I.pin p (bt _ (dy _ hp))
theorem bA4{iter:Expr}{wi:TI}{g:TG}{tb:TS}(hp:PassesOwn (model X.prog X.w) X.A X.env X.xe)(hc:X.calm=true)(hi:PI X tg iter wi)(hg:PG X tg g)(hb:jL X body tb)(hs:∀x,foldedSetIterable iter X.env x=pure x:=by intro _;rfl):PS X (.For tg iter body [] pos) (Yh wi g tb):=by
 intro pins s Z H D I h;refine wpAny_For (cO (hi pins s Z H _ I h) λv s1 h1=>cO h1 λwj s2 h2=>?_) hs;obtain⟨it,fp,tn,J,H2,e,I2,T,lT,f2,W,⟨m0,w0⟩,turn⟩:=h2;subst e;have rL:∀{H':Hp},(∀b∈fp,H' b=none)->∀b∈fp,F8 X pins H' b:=λhn b hb=>⟨hn b hb,(f2 b hb).2⟩
 refine codeAny_forLoop_any (λn s'=>∃i bU H',Inv X pins bU H' s'/\tn i s'.heap/\(∀b∈fp,H' b=none)/\W i n bU H') ?_ m0 ⟨0,Z,H2,I2,lT,λb hb=>(f2 b hb).1,w0⟩;rintro n s3 ⟨i,jb,H3,I3,qv,qT,w3⟩;rcases turn i n jb H3 w3 with⟨stop,qn⟩|⟨go,N,hN,step⟩
 ·refine eF hp (cO (T.done X rfl rfl rfl hc i pins s3 jb H3 X.xe I3 (rL qT) qv stop) λr s4 ⟨hr,I4⟩=>?_);subst hr;exact kF ⟨jb,H3,I4,qn⟩
 ·refine eF hp (cO (T.item X rfl rfl rfl hc i pins s3 jb H3 X.xe I3 (rL qT) qv go) λr s4 ⟨u,hr,h4⟩=>?_);subst hr;refine eF hp (cO h4 λ_ s5 bq=>?_);obtain⟨x,H5,I5,r5,y5,nU,xh⟩:=bq;have yC:=I5.pinned (rL xh) (T.obj _ _ nU);refine eF hp (cO (hg _ s5 jb H5 x u _ yC r5 (step x H5 y5)) λ_ s6 bq=>?_);obtain⟨mS,H6,I6,q6⟩:=bq;refine eF hp (cO (hb _ s6 mS H6 _ I6 q6) λf s7 q7=>?_);have again:∀{nR:St} {H7:Hp},Inv X (pins++vh fp s5.heap) nR H7 s7->N nR H7->∃m,m<n/\∃i bU H',Inv X pins bU H' s7/\tn i s7.heap/\(∀b∈fp,H' b=none)/\W i m bU H':=λ{nR H7} I7 n7=>by
   obtain⟨m',hm,w7⟩:=hN nR H7 n7;refine⟨m',hm,i+1,nR,H7,I7.Fg,T.keep _ _ _ nU λb hb o e=>(I7.pin (b,o) (bt _ (bt _ (U3 hb e)))).1,λb hb=>?_,w7⟩;obtain⟨o,e,d⟩:=T.obj _ _ nU b hb;exact(I7.pin (b,o) (bt _ (bt _ (U3 hb e)))).2.1
  cases f with
  |next=>obtain⟨nR,H7,I7,n7⟩:=q7;exact again I7 n7
  |cont=>obtain⟨nR,H7,I7,n7⟩:=q7;exact again I7 n7
  |brk=>obtain⟨nR,H7,I7,q7⟩:=q7;exact⟨nR,H7,I7.Fg,q7⟩
  |ret v=>obtain⟨x7,nR,H7,I7,r7,q7⟩:=q7;exact⟨x7,nR,H7,I7.Fg,r7,q7⟩
noncomputable abbrev R2:=V->V->Hp->VK->Prop
def fY(X:Cx)(f:Value->Value->Sem Value)(r:R2):Prop :=
 ∀(pins:List (Addr×Obj)) (s:Shared) (Z:St) (H:Hp) (x y:V) (v u:Value) (Q:VK),Inv X pins Z H s->RelV x v->RelV y u->r x y H Q ->
  wpAny (model X.prog X.w) X.A (f v u) (EP X pins Z Q) X.xe s
def AY(X:Cx)(f:Value->Sem Value)(r:V->Hp->VK->Prop):Prop :=
 ∀(pins:List (Addr×Obj)) (s:Shared) (Z:St) (H:Hp) (x:V) (v:Value) (Q:VK),Inv X pins Z H s->RelV x v->r x H Q ->
  wpAny (model X.prog X.w) X.A (f v) (EP X pins Z Q) X.xe s
def q9(X:Cx)(f:Value)(r:List V->Hp->VK->Prop):Prop :=
 ∀(pins:List (Addr×Obj)) (s:Shared) (Z:St) (H:Hp) (xs:List V) (us:List Value) (Q:VK),Inv X pins Z H s->Vals xs us->r xs H Q ->
  wpAny (model X.prog X.w) X.A (call f us) (EP X pins Z Q) X.xe s
def WW(X:Cx)(r:V->Hp->(Bool->Hp->Prop)->Prop):Prop :=
 ∀(pins:List (Addr×Obj)) (s:Shared) (Z:St) (H:Hp) (x:V) (v:Value) (Q:Bool->Hp->Prop),Inv X pins Z H s->RelV x v->r x H Q ->
  wpAny (model X.prog X.w) X.A (truthy v) (TP X pins Z Q) X.xe s
def uc(r:R2)(ta tb:TE):TE:=λZ H Q=>ta Z H λx H1=>tb Z H1 λy H2=>r x y H2 Q
def OG(r:V->Hp->VK->Prop)(ta:TE):TE:=λZ H Q=>ta Z H λx H1=>r x H1 Q
def rI(C:Int->Int->Prop)(g:Int->Int->V):R2:=λx y H Q=>∃i j,x=.int i/\y=.int j/\C i j/\Q (g i j) H
def nD(g:Int->Int->V):R2:=λx y H Q=>∃i j,x=.int i/\y=.int j/\Q (g i j) H
def rU(g:Int->V):V->Hp->VK->Prop:=λx H Q=>∃i,x=.int i/\Q (g i) H
section
variable{a b:Expr}
theorem Ee(ha:PE X a ta)(hb:PE X b tb){R:V->V->Hp->Prop}(I:Inv X pins Z H s)(h:ta Z H λx H1=>tb Z H1 λy H2=>R x y H2){f:Value->Value->Sem Value}(hf:∀v u s2 x y H2,Inv X pins Z H2 s2->RelV x v->RelV y u->R x y H2->wpAny (model X.prog X.w) X.A (f v u) Q X.xe s2) :
  wpAny (model X.prog X.w) X.A (eval a X.env) (λv bW=>wpAny (model X.prog X.w) X.A (eval b X.env) (λu fZ=>wpAny (model X.prog X.w) X.A (f v u) Q X.xe fZ) X.xe bW) X.xe s:=by
 refine cO (ha pins s Z H _ I h) λv s1 bq=>?_;obtain⟨x,H1,I1,r1,q1⟩:=bq;refine cO (hb pins s1 Z H1 _ I1 q1) λu s2 bq=>?_;obtain⟨y,H2,I2,r2,q2⟩:=bq;exact hf v u s2 x y H2 I2 r1 r2 q2
theorem ZL{op:Operator}(ho:fY X (binaryOp op) r)(ha:PE X a ta)(hb:PE X b tb):PE X (.BinOp a op b pos) (uc r ta tb):=by
 intro pins s Z H Q I h;exact wpAny_BinOp (Ee ha hb I h λv u s2 x y H2 I2 rx ry q=>ho pins s2 Z H2 x y v u Q I2 rx ry q)
theorem ZN{op:UnaryOp}{r:V->Hp->VK->Prop}(ho:AY X (unaryOp op) r)(ha:PE X a ta):PE X (.UnaryOp op a pos) (OG r ta):=by
 intro pins s Z H Q I h;exact UnaryOp_ (cO (ha pins s Z H _ I h) λv s1 ⟨x,H1,I1,r1,q1⟩=>ho pins s1 Z H1 x v Q I1 r1 q1)
theorem vH{f:Value->Value->Sem Value}{C:Int->Int->Prop}{g:Int->Int->Int}(rule:∀(i j:Int) (t u:Tok) (s:Shared) (Q:Value->Shared->Prop) (E:Value->Shared->Prop),C i j->Q (.int (g i j) s.toks) { s with toks:=s.toks+1 }->wpAny (model X.prog X.w) X.A (f (.int i t) (.int j u)) Q E s) :
  fY X f (rI C λi j=>.int (g i j)):=by
 intro pins s Z H x y v u Q I rx ry h;obtain⟨i,j,rfl,rfl,hc,q⟩:=h;obtain⟨t,rfl⟩:=rx;obtain⟨t',rfl⟩:=ry;exact rule i j t t' s _ _ hc ⟨.int (g i j),H,I.tok _,⟨_,rfl⟩,q⟩
theorem uN{f:Value->Value->Sem Value}{g:Int->Int->Int}(rule:∀(i j:Int) (t u:Tok) (s:Shared) (Q:Value->Shared->Prop) (E:Value->Shared->Prop),Q (.int (g i j) s.toks) { s with toks:=s.toks+1 }->wpAny (model X.prog X.w) X.A (f (.int i t) (.int j u)) Q E s) :
  fY X f (nD λi j=>.int (g i j)):=by
 intro pins s Z H x y v u Q I rx ry h;obtain⟨i,j,rfl,rfl,q⟩:=h;obtain⟨t,rfl⟩:=rx;obtain⟨t',rfl⟩:=ry;exact rule i j t t' s _ _ ⟨.int (g i j),H,I.tok _,⟨_,rfl⟩,q⟩
theorem AF{f:Value->Value->Sem Value}{g:Int->Int->Bool}(rule:∀(i j:Int) (t u:Tok) (s:Shared) (Q:Value->Shared->Prop) (E:Value->Shared->Prop),Q (.bool (g i j)) s->wpAny (model X.prog X.w) X.A (f (.int i t) (.int j u)) Q E s) :
  fY X f (nD λi j=>.bl (g i j)):=by
 intro pins s Z H x y v u Q I rx ry h;obtain⟨i,j,rfl,rfl,q⟩:=h;obtain⟨t,rfl⟩:=rx;obtain⟨t',rfl⟩:=ry;exact rule i j t t' s _ _ ⟨.bl (g i j),H,I,rfl,q⟩
def DZ(i j:Int):Prop:=0<j/\j<1073741824
def qe(i j:Int):Prop:=0<=j/\j<=1000000/\i.natAbs<2 ^ 64
def tB(i j:Int):Prop:=(-(2 ^ 64)<i/\i<2 ^ 64)\/(-(2 ^ 64)<j/\j<2 ^ 64)
theorem tB.ok{i j:Int}(h:tB i j):IntMulOk i j:=by
 rcases h with⟨h1,h2⟩|⟨h1,h2⟩
 ·exact .of_left (intBits_le_64 h1 h2)
 ·exact .of_right (intBits_le_64 h1 h2)
theorem bD3:fY X (binaryOp .Add) (nD λi j=>.int (i+j)):=uN λ_ _ _ _ _ _ _ q=>add_int q
theorem bC4:fY X (binaryOp .Sub) (nD λi j=>.int (i-j)):=uN λ_ _ _ _ _ _ _ q=>sub_int q
theorem bC7:fY X (binaryOp .Mult) (rI tB λi j=>.int (i*j)):=vH λ_ _ _ _ _ _ _ hc q=>mul_int q hc.ok
theorem Uv:fY X (binaryOp .FloorDiv) (rI DZ λi j=>.int (i / j)):=vH λi j _ _ _ _ _ hc q=>by
 have h1:(0:Int)<j:=hc.1;have h2:j<1073741824:=hc.2;exact floordiv_int () (by rw[Int.fdiv_eq_ediv_of_nonneg i ()];exact q) (.inl (PyProof.noPylong_small ()))
theorem bC8:fY X (binaryOp .Mod) (rI (λ_ j=>0<j) λi j=>.int (i % j)):=vH λi j _ _ _ _ _ hc q=>by
 have h1:(0:Int)<j:=hc;exact mod_int' () (by rw[Int.fmod_eq_emod_of_nonneg i ()];exact q)
theorem bC6:fY X (binaryOp .Pow) (rI qe λi j=>.int (i ^ j.toNat)):=vH λ_ _ _ _ _ _ _ hc q=>pow_int_small hc.1 hc.2.1 hc.2.2 q
theorem bC5:fY X (binaryOp .LShift) (rI qe λi j=>.int (i*2 ^ j.toNat)):=vH λ_ _ _ _ _ _ _ hc q=>lshift_int_small hc.1 hc.2.1 hc.2.2 q
theorem bD2:fY X (binaryOp .BitAnd) (nD λi j=>.int (Builtin.bitAnd i j)):=uN λ_ _ _ _ _ _ _ q=>and_int q
theorem ZF:fY X (binaryOp .BitOr) (nD λi j=>.int (Builtin.bitOr i j)):=uN λ_ _ _ _ _ _ _ q=>or_int q
theorem Uc:fY X (inplaceOp .Add) (nD λi j=>.int (i+j)):=uN λ_ _ _ _ _ _ _ q=>iadd_int q
theorem Ud:fY X (inplaceOp .Sub) (nD λi j=>.int (i-j)):=uN λ_ _ _ _ _ _ _ q=>isub_int q
theorem OE{f:Value->Sem Value}{g:Int->Int}(rule:∀(i:Int) (t:Tok) (s:Shared) (Q:Value->Shared->Prop) (E:Value->Shared->Prop),Q (.int (g i) s.toks) { s with toks:=s.toks+1 }->wpAny (model X.prog X.w) X.A (f (.int i t)) Q E s) :
  AY X f (rU λi=>.int (g i)):=by
 intro pins s Z H x v Q I rx h;obtain⟨i,rfl,q⟩:=h;obtain⟨t,rfl⟩:=rx;exact rule i t s _ _ ⟨.int (g i),H,I.tok _,⟨_,rfl⟩,q⟩
theorem To:AY X (unaryOp .USub) (rU λi=>.int (-i)):=OE λ_ _ _ _ _ q=>neg_int q
end
def Jr:V->V->Bool
 |.br,.br=>true|.br,.int _=>true|.int _,.br=>true|.br,.bl _=>true|.bl _,.br=>true|.br,.str _=>true|.str _,.br=>true
 |.int _,.int _=>true|.bl _,.bl _=>true|.str _,.str _=>true|.mK _,.mK _=>true
 |.int _,.str _=>true|.str _,.int _=>true|.bl _,.str _=>true|.str _,.bl _=>true
 |_,_=>false
def OX:R2:=λx y H Q=>Jr x y=true/\Q (.bl (decide (x=y))) H
def OW:R2:=λx y H Q=>Jr x y=true/\Q (.bl (!decide (x=y))) H
theorem Ab{i j:Int}:decide (V.int i=V.int j)=(i==j):=by
 rw[aS];simp
theorem zO{i j:Bool}:decide (V.bl i=V.bl j)=(i==j):=by
 rw[aS];simp
theorem Ac{i j:Str}:decide (V.str i=V.str j)=(i==j):=by
 rw[aS];simp
theorem LY{i j:Array UInt8}:decide (V.mK i=V.mK j)=(i.toList==j.toList):=by
 rw[aS];cases i;cases j;simp
section
variable{a b:Expr}{tc:TE}
theorem n5{Q:VK}{k k':Bool}(I:Inv X pins Z H s)(q:Q (.bl k) H)(e:k=k'):EP X pins Z Q (.bool k') s:=by
 subst e;exact⟨.bl k,H,I,rfl,q⟩
theorem FZ:fY X (compareOp .Eq) OX:=by
 intro pins s Z H x y v u Q I rx ry h;obtain⟨hs,q⟩:=h;cases x with
 |br =>
  cases rx;cases y with
  |br=>cases ry;exact PySem.EqNone.eq_none_none (n5 I q (by simp))
  |bl j=>cases ry;exact PySem.EqNone.eq_none_bool (n5 I q (by simp))
  |int j=>obtain⟨t',rfl⟩:=ry;exact PySem.EqNone.eq_none_int (n5 I q (by simp))
  |str j=>obtain⟨t',rfl⟩:=ry;exact PySem.EqNone.eq_none_str (n5 I q (by simp))
  |_=>exact absurd (show false=true from hs) Bool.false_ne_true
 |bl i =>
  cases rx;cases y with
  |br=>cases ry;exact PySem.EqNone.eq_bool_none (n5 I q (by simp))
  |bl j=>cases ry;exact eq_bool (n5 I q zO)
  |str j=>obtain⟨t',rfl⟩:=ry;exact PySem.EqMixed.eq_bool_str (n5 I q (by simp))
  |_=>exact absurd (show false=true from hs) Bool.false_ne_true
 |int i =>
  obtain⟨t,rfl⟩:=rx;cases y with
  |br=>cases ry;exact PySem.EqNone.eq_int_none (n5 I q (by simp))
  |int j=>obtain⟨t',rfl⟩:=ry;exact eq_int (n5 I q Ab)
  |str j=>obtain⟨t',rfl⟩:=ry;exact PySem.EqMixed.eq_int_str (n5 I q (by simp))
  |_=>exact absurd (show false=true from hs) Bool.false_ne_true
 |str i =>
  obtain⟨t,rfl⟩:=rx;cases y with
  |br=>cases ry;exact PySem.EqNone.eq_str_none (n5 I q (by simp))
  |bl j=>cases ry;exact PySem.EqMixed.eq_str_bool (n5 I q (by simp))
  |int j=>obtain⟨t',rfl⟩:=ry;exact PySem.EqMixed.eq_str_int (n5 I q (by simp))
  |str j=>obtain⟨t',rfl⟩:=ry;exact eq_str (n5 I q Ac)
  |_=>exact absurd (show false=true from hs) Bool.false_ne_true
 |mK i =>
  obtain⟨t,rfl⟩:=rx;cases y with
  |mK j=>obtain⟨t',rfl⟩:=ry;exact PySem.W.eq_bytes (n5 I q LY)
  |_=>exact absurd (show false=true from hs) Bool.false_ne_true
 |_=>cases y<;>exact absurd (show false=true from hs) cx
theorem Ga:fY X (compareOp .NotEq) OW:=by
 intro pins s Z H x y v u Q I rx ry h;obtain⟨hs,q⟩:=h;cases x with
 |br =>
  cases rx;cases y with
  |br=>cases ry;exact PySem.EqNone.ne_none_none (n5 I q (by simp))
  |bl j=>cases ry;exact PySem.EqNone.ne_none_bool (n5 I q (by simp))
  |int j=>obtain⟨t',rfl⟩:=ry;exact PySem.EqNone.ne_none_int (n5 I q (by simp))
  |str j=>obtain⟨t',rfl⟩:=ry;exact PySem.EqNone.ne_none_str (n5 I q (by simp))
  |_=>exact absurd (show false=true from hs) Bool.false_ne_true
 |bl i =>
  cases rx;cases y with
  |br=>cases ry;exact PySem.EqNone.ne_bool_none (n5 I q (by simp))
  |bl j=>cases ry;exact ne_bool (n5 I q (congrArg not zO))
  |str j=>obtain⟨t',rfl⟩:=ry;exact PySem.EqMixed.ne_bool_str (n5 I q (by simp))
  |_=>exact absurd (show false=true from hs) Bool.false_ne_true
 |int i =>
  obtain⟨t,rfl⟩:=rx;cases y with
  |br=>cases ry;exact PySem.EqNone.ne_int_none (n5 I q (by simp))
  |int j=>obtain⟨t',rfl⟩:=ry;exact ne_int (n5 I q (congrArg not Ab))
  |str j=>obtain⟨t',rfl⟩:=ry;exact PySem.EqMixed.ne_int_str (n5 I q (by simp))
  |_=>exact absurd (show false=true from hs) Bool.false_ne_true
 |str i =>
  obtain⟨t,rfl⟩:=rx;cases y with
  |br=>cases ry;exact PySem.EqNone.ne_str_none (n5 I q (by simp))
  |bl j=>cases ry;exact PySem.EqMixed.ne_str_bool (n5 I q (by simp))
  |int j=>obtain⟨t',rfl⟩:=ry;exact PySem.EqMixed.ne_str_int (n5 I q (by simp))
  |str j=>obtain⟨t',rfl⟩:=ry;exact ne_str (n5 I q (congrArg not Ac))
  |_=>exact absurd (show false=true from hs) Bool.false_ne_true
 |mK i =>
  obtain⟨t,rfl⟩:=rx;cases y with
  |mK j=>obtain⟨t',rfl⟩:=ry;exact PySem.W.ne_bytes (n5 I q (congrArg not LY))
  |_=>exact absurd (show false=true from hs) Bool.false_ne_true
 |_=>cases y<;>exact absurd (show false=true from hs) cx
theorem ZE:fY X (compareOp .Lt) (nD λi j=>.bl (decide (i<j))):=AF λ_ _ _ _ _ _ _ q=>lt_int q
theorem ZD:fY X (compareOp .LtE) (nD λi j=>.bl (decide (i<=j))):=AF λ_ _ _ _ _ _ _ q=>le_int q
theorem ZC:fY X (compareOp .Gt) (nD λi j=>.bl (decide (j<i))):=AF λ_ _ _ _ _ _ _ q=>gt_int q
theorem ZA:fY X (compareOp .GtE) (nD λi j=>.bl (decide (j<=i))):=AF λ_ _ _ _ _ _ _ q=>ge_int q
theorem bC9:fY X (compareOp .Is) (λx y H Q=>y=.br/\Q (.bl (decide (x=.br))) H):=by
 intro pins s Z H x y v u Q I rx ry h;obtain⟨rfl,q⟩:=h;cases ry;refine is_none_gen (n5 I q ?_);cases x<;>first
  |(cases rx;rfl)
  |(obtain⟨t,rfl⟩:=rx;rfl)
theorem Uw:fY X (compareOp .IsNot) (λx y H Q=>y=.br/\Q (.bl (!decide (x=.br))) H):=by
 intro pins s Z H x y v u Q I rx ry h;obtain⟨rfl,q⟩:=h;cases ry;refine isnot_none_gen (n5 I q ?_);cases x<;>first
  |(cases rx;rfl)
  |(obtain⟨t,rfl⟩:=rx;rfl)
theorem Mj(ho:fY X (compareOp op) r)(ha:PE X a ta)(hb:PE X b tb)(hm:behindInMarks op b=false):PE X (.Compare a [op] [b] pos) (uc r ta tb):=by
 intro pins s Z H Q I h;exact wpAny_Compare1 (Ee ha hb I h λv u s2 x y H2 I2 rx ry q=>ho pins s2 Z H2 x y v u Q I2 rx ry q) hm
def Gg(t:TE):TT:=λZ H Q=>t Z H λx H'=>∃k,x=.bl k/\Q k H'
theorem Mp(ho:fY X (compareOp op) r)(ha:PE X a ta)(hb:PE X b tb)(hm:behindInMarks op b=false):PT X (.Compare a [op] [b] pos) (Gg (uc r ta tb)):=by
 intro pins s Z H Q I h;refine wpAny_isTrue_Compare1 (cO (ha pins s Z H _ I h) λv s1 ⟨x,H1,I1,r1,q1⟩=>cO (hb pins s1 Z H1 _ I1 q1) λu s2 ⟨y,H2,I2,r2,q2⟩ =>
  cO (ho pins s2 Z H2 x y v u _ I2 r1 r2 q2) λc s3 ⟨z,H3,I3,r3,k,e,q3⟩=>?_) hm
 subst e;cases r3;exact cw ⟨H3,I3,q3⟩
def GL(r r':R2)(ta tb tc:TE):TE:=λZ H Q=>ta Z H λx H1=>tb Z H1 λy H2=>r x y H2 λz H3=>∃k,z=.bl k /\
 (if k=true then tc Z H3 λw' H4=>r' y w' H4 Q else Q (.bl false) H3)
theorem Wj{iT:CmpOp}{r':R2}(ho:fY X (compareOp op) r)(oo:fY X (compareOp iT) r')(ha:PE X a ta)(hb:PE X b tb)(hc:PE X c tc)(hm:lastMarks [op,iT] [b,c]=false:=by with_unfolding_all rfl):PE X (.Compare a [op,iT] [b,c] pos) (GL r r' ta tb tc):=by
 intro pins s Z H Q I h;refine Compare_chain (cO (ha pins s Z H _ I h) λv s1 ⟨x,H1,I1,r1,q1⟩=>chain_link (cO (hb pins s1 Z H1 _ I1 q1) λu s2 ⟨y,H2,I2,r2,q2⟩ =>
  cO (ho pins s2 Z H2 x y v u _ I2 r1 r2 q2) λd s3 ⟨z,H3,I3,r3,k,e,q3⟩=>?_)) hm
 subst e;cases r3;refine cw ?_;cases k with
 |false=>exact ite_ff ⟨.bl false,H3,I3,rfl,q3⟩
 |true=>exact ite_tt (chain_last (cO (hc pins s3 Z H3 _ I3 q3) λw' s4 ⟨z',H4,I4,r4,q4⟩=>oo pins s4 Z H4 y z' u w' Q I4 r2 r4 q4))
theorem Ww{iT:CmpOp}{r':R2}(ho:fY X (compareOp op) r)(oo:fY X (compareOp iT) r')(ha:PE X a ta)(hb:PE X b tb)(hc:PE X c tc)(hm:lastMarks [op,iT] [b,c]=false:=by with_unfolding_all rfl):PT X (.Compare a [op,iT] [b,c] pos) (Gg (GL r r' ta tb tc)):=by
 intro pins s Z H Q I h;refine isTrue_chain (cO (ha pins s Z H _ I h) λv s1 ⟨x,H1,I1,r1,q1⟩=>test_link (cO (hb pins s1 Z H1 _ I1 q1) λu s2 ⟨y,H2,I2,r2,q2⟩ =>
  cO (ho pins s2 Z H2 x y v u _ I2 r1 r2 q2) λd s3 ⟨z,H3,I3,r3,k,e,q3⟩=>?_)) hm
 subst e;cases r3;refine cw ?_;cases k with
 |false =>
  obtain⟨k',e',q'⟩:=q3;cases e';exact ite_ff ⟨H3,I3,q'⟩
 |true =>
  refine ite_tt (test_last (cO (hc pins s3 Z H3 _ I3 q3) λw' s4 ⟨z',H4,I4,r4,q4⟩=>cO (oo pins s4 Z H4 y z' u w' _ I4 r2 r4 q4) λd' s5 bq=>?_));obtain⟨z2,H5,I5,r5,k2,e2,q5⟩:=bq;subst e2;cases r5;exact cw ⟨H5,I5,q5⟩
def Ec(K:PySem.W.Frag)(x:V)(H:Hp)(k:Bool):Prop :=
 match x with
 |.br=>k=false
 |.bl b=>k=b
 |.int i=>k=(i != 0)
 |.str y=>y.length<=sizeLine/\k=((y.length:Int) != 0)
 |.mK y=>y.size<=sizeLine/\k=((y.size:Int) != 0)
 |.ref p=>(∃xs,fO K H p xs/\k=!xs.isEmpty)\/(∃xs,jo K H p xs/\k=!xs.isEmpty)\/∃kvs,H p=some (.dK kvs)/\k=!kvs.isEmpty
 |_=>False
theorem aV6{κ:Type}{kvs:List (κ×V)}{vs:List (κ×Value)}(r:KV kvs vs):(!vs.isEmpty)=!kvs.isEmpty:=by
 cases r<;>rfl
theorem KN{bo:List Value}(r:Vals xs bo):(!bo.toArray.isEmpty)=!xs.isEmpty:=by
 cases r<;>simp
theorem W8:(sizeLine:Nat)<2 ^ 63:=by rw[tX];decide
theorem Tj:WW X (λx H Q=>∃k,Ec X.K x H k/\Q k H):=by
 intro pins s Z H x v Q I rx h;obtain⟨k,e,q⟩:=h;have hl:=W8;have hs:sizeLine=16777216:=tX;cases x with
 |br =>
  cases rx;have e':k=false:=e;subst e';exact truthy_none ⟨H,I,q⟩
 |bl b =>
  cases rx;have e':k=b:=e;subst e';exact cw ⟨H,I,q⟩
 |int i =>
  obtain⟨t,rfl⟩:=rx;have e':k=(i != 0):=e;subst e';exact PySem.P.truthy_int ⟨H,I,q⟩
 |str y =>
  obtain⟨t,rfl⟩:=rx;obtain⟨hy,e'⟩:y.length<=sizeLine/\k=((y.length:Int) != 0):=e;subst e';exact PySem.P.truthy_str () ⟨H,I.tok _,q⟩
 |mK y =>
  obtain⟨t,rfl⟩:=rx;obtain⟨hy,e'⟩:y.size<=sizeLine/\k=((y.size:Int) != 0):=e;subst e';exact PySem.W.truthy_bytes () ⟨H,I.tok _,q⟩
 |ref p =>
  cases rx;have e':(∃xs,fO X.K H p xs/\k=!xs.isEmpty)\/(∃xs,jo X.K H p xs/\k=!xs.isEmpty)\/∃kvs,H p=some (.dK kvs)/\k=!kvs.isEmpty:=e;rcases e' with⟨xs,hx,e'⟩|⟨xs,hx,e'⟩|⟨kvs,hx,e'⟩
  ·subst e';obtain⟨bo,r,pl,hz⟩:=I.list hx;have hlen:=r.length;exact wpAny_truthy_list pl.isList (by simp only[List.size_toArray];omega) ⟨H,I.tok _,by rw[KN r];exact q⟩
  ·subst e';obtain⟨bo,r,pl,hz⟩:=I.tuple hx;have hlen:=r.length;exact truthy_tuple pl (by simp only[List.size_toArray];omega) ⟨H,I.tok _,by rw[KN r];exact q⟩
  ·subst e';obtain⟨hz,hS,vs,r,m⟩:kvs.length<=sizeLine/\(p==sysModules)=false/\∃vs,KV kvs vs/\s.heap.DictOf (x3 X.prog X.w) p vs:=I.bZ p _ hx;have hlen:kvs.length=vs.length:=nv r;exact wpAny_truthy_dict hS m () ⟨H,I.tok _,by rw[aV6 r];exact q⟩
 |_=>exact(show False from e).elim
theorem Wx(ha:PE X a ta)(he:∀whole,isTrue a X.env whole=(do let v <- whole;standAt a.pos;holding [v] (truthy v))) :
  PT X a (λZ H Q=>ta Z H λx H'=>∃k,Ec X.K x H' k/\Q k H'):=by
 intro pins s Z H Q I h;exact isTrue_plain (cO (ha pins s Z H _ I h) λv s1 ⟨x,H1,I1,r1,q1⟩=>Tj pins s1 Z H1 x v Q I1 r1 q1) (he _)
theorem aU1:fY X (binaryOp .Add) (λx y H Q=>∃i j,x=.str i/\y=.str j/\i.length+j.length<=sizeLine/\Q (.str (i++j)) H):=by
 intro pins s Z H x y v u Q I rx ry h;obtain⟨i,j,rfl,rfl,hz,q⟩:=h;obtain⟨t,rfl⟩:=rx;obtain⟨t',rfl⟩:=ry;exact add_str (λt' tk=>⟨.str (i++j),H,I.tok _,⟨_,rfl⟩,q⟩) hz
theorem vals1{x:V}(r:Vals [x] us):∃u,us=[u]/\RelV x u:=by
 cases r with
 |cons r1 r2=>cases r2;exact⟨_,rfl,r1⟩
theorem vals2{x y:V}(r:Vals [x,y] us):∃u w',us=[u,w']/\RelV x u/\RelV y w':=by
 cases r with
 |cons r1 r2 =>
  cases r2 with
  |cons r3 r4=>cases r4;exact⟨_,_,rfl,r1,r3⟩
theorem a75(hc:X.calm=true):q9 X (.builtin "max") (λxs H Q=>∃i j,xs=[.int i,.int j]/\Q (.int (if j>i then j else i)) H):=by
 intro pins s Z H xs us Q I r h;obtain⟨i,j,rfl,q⟩:=h;obtain⟨u,w',rfl,⟨t,rfl⟩,⟨t',rfl⟩⟩:=vals2 r;refine max_two_ints (I.ok.hd hc) λh' tk k=>⟨_,H,I.kept k,?_,q⟩
 by_cases hj:j>i
 ·rw[aH hj,aH hj];exact⟨_,rfl⟩
 ·rw[aE hj,aE hj];exact⟨_,rfl⟩
theorem a73(hc:X.calm=true):q9 X (.builtin "min") (λxs H Q=>∃i j,xs=[.int i,.int j]/\Q (.int (if j<i then j else i)) H):=by
 intro pins s Z H xs us Q I r h;obtain⟨i,j,rfl,q⟩:=h;obtain⟨u,w',rfl,⟨t,rfl⟩,⟨t',rfl⟩⟩:=vals2 r;refine min_two_ints (I.ok.hd hc) λh' tk k=>⟨_,H,I.kept k,?_,q⟩
 by_cases hj:j<i
 ·rw[aH hj,aH hj];exact⟨_,rfl⟩
 ·rw[aE hj,aE hj];exact⟨_,rfl⟩
theorem Nv:q9 X (.type "int") (λxs H Q=>(∃i,xs=[.int i]/\Q (.int i) H)\/∃k,xs=[.bl k]/\Q (.int (if k then 1 else 0)) H):=by
 intro pins s Z H xs us Q I r h;rcases h with⟨i,rfl,q⟩|⟨k,rfl,q⟩
 ·obtain⟨u,rfl,t,rfl⟩:=vals1 r;exact call_int_int ⟨.int i,H,I,⟨_,rfl⟩,q⟩
 ·obtain⟨u,rfl,r1⟩:=vals1 r;cases r1;exact call_int_bool ⟨.int (if k then 1 else 0),H,I.tok _,⟨_,rfl⟩,q⟩
end
structure uJ(h:Heap)(x dx C:Addr)(mA:Str->Option Value):Prop where
 obj:h.get? x=some (PySem.W.instObj C dx)
 ns:h.Ns1 dx mA
 ne:dx≠x
theorem Km{mA:Str->Option Value}(n:h.Ns1 dx mA):∃od,h.get? dx=some od/\∀name,PySem.W.lookIn name od=some (mA name):=by
 obtain⟨o,es,ep,ho,hd,hk,_,hm⟩:=n;refine⟨o,ho,λname=>?_⟩;have e:=hm name;unfold nsFind findBy at e;rw[<- Array.find?_toList] at e;unfold PySem.W.lookIn;rw[hd];dsimp only;split
 ·rename_i y q;rw[q] at e;exact iC some e
 ·rename_i q;rw[q] at e;have a:es.toList.any (·.refKey)=false:=by
   rw[List.any_eq_false];intro y hy;obtain⟨z,t,lz⟩:=hk y (Array.mem_toList_iff.mp hy);simp[DictEntry.refKey,lz]
  have a':¬es.toList.any (·.refKey)=true:=by rw[a];exact cx
  rw[aE a'];exact iC some e
theorem uJ.look{x:Addr}{mA:Str->Option Value}(I:uJ h x dx C mA):∃od,PySem.W.InstAt h x (PySem.W.instObj C dx) C (some od)/\∀name,PySem.W.lookIn name od=some (mA name) :=
 let ⟨od,ho,hl⟩:=Km I.ns
 ⟨od,⟨I.obj,rfl,rfl,ho⟩,hl⟩
section
variable{prog:Program}{x:Addr}{mA:Str->Option Value}{name:Str}{v:Value}
theorem get_map{expr:Bool}(X:K.In s.heap)(I:uJ s.heap x dx C mA)(hg:PySem.W.plainGet K C name=true)(hh:PySem.W.hasDictIn K C=true)(ha:PySem.W.findIn K (.ref C) name=some none)(hv:mA name=some v)(wm:PySem.W.handedIn v=true)(h:Q v { s with toks:=s.toks+1 }) :
  wpAny (model prog w) A (getAttr (.ref x) name expr) Q E s:=by
 obtain⟨od,J,hl⟩:=I.look;exact PySem.W.get_value X J (PySem.W.plainGet_of hg).1 (PySem.W.findObj_own hh ha rfl (by rw[hl,hv])) wm h
theorem Vb{ns:List Str}{Q:Unit->Shared->Prop}(X:K.In s.heap)(I:uJ s.heap x dx C mA)(hs:PySem.W.findIn K (.ref C) "__setattr__"=some (some (.builtin "object.__setattr__")))(hp:PySem.W.plainOver K C=true)(ht:PySem.W.takerIn K C name=some none)(hh:PySem.W.hasDictIn K C=true)(hw:PySem.Within mA ns)(hsz:ns.length<=sizeLine)(h:∀h',uJ h' x dx C (λy=>if y=name then some v else mA y)->Heap.SameBut dx s.heap h'->Q Unit.unit { s with heap:=h',toks:=s.toks+2 }) :
  wpAny (model prog w) A (setAttr (.ref x) name v) Q E s:=by
 obtain⟨od,J,hl⟩:=I.look;refine PySem.W.set_plain X J hs (PySem.W.osa_open (s:={ s with toks:=s.toks+1 }) (r:=none) X J hp ht λb=>?_);obtain⟨cd,hc,CG⟩:=PySem.W.any_some hh;have hx:s.heap.get? x=some ⟨.ref C,some dx,.plain,#[]⟩:=I.obj;refine ae (av (ae (ae (wpAny_loadPart hx (ae (PySem.W.Looks.here (s:={ s with toks:=s.toks+1 }) (PySem.W.looks_clsIn X hc) ?_))))));rw[CG];refine av (a:=some dx) (ae (av (ae ?_)));refine wpAny_nsSet1 (s:={ s with toks:=s.toks+1 }) I.ns λh' pU jO=>?_;obtain⟨oD,esD,epD,Qb,QE,QH⟩:=pU.count (PySem.Within.cons name v hw);refine ae (wpAny_lookBehind Qb (by rw[QE];exact pastItsLine_dict (aG QH (by rw[dM];omega))) ?_);exact av (h _ ⟨(jO.2 _ (bT I.ne)).trans I.obj,pU,I.ne⟩ jO)
theorem VY{R:Result->Shared->Prop}{vs:List Value}{kw:List (Str×Value)}(X:K.In s.heap)(hm:PySem.W.makesIn K C=true)(hi:PySem.W.findIn K (.ref C) "__init__"=some (some (.ref f)))(hf:PySem.W.typeIn K (.ref f)=some (.type "function"))(h:codeAny (model prog w) (A.under (.builtin "type.__call__" ⟨.ref C :: vs,kw⟩)) (.call (.ref f) ⟨.ref (s.heap.objs.size + 1) :: vs,kw⟩) (PySem.W.InitBack (s.heap.objs.size + 1) R)
   { s with heap:=(s.heap.push PySem.W.emptyDict).push (PySem.W.instObj C s.heap.objs.size) }) :
  codeAny (model prog w) A (.call (.ref C) ⟨vs,kw⟩) R s:=by
 obtain⟨hh,g,d,t,os⟩:=s;exact PySem.W.make_core (PySem.W.makes_of X hm) (PySem.W.looks_findIn X hi) (λself=>PySem.W.bind_fn X self hf) (.inl rfl) h
end
def C8(f:Str)(v:V):List (Str×V)->List (Str×V)
 |[]=>[(f,v)]
 |(g,x)::r=>if g=f then(g,v)::r else(g,x)::C8 f v r
theorem Li(f g:Str)(v:V):∀fs:List (Str×V),(C8 f v fs).lookup g=if g=f then some v else fs.lookup g
 |[]=>by
  show List.lookup g [(f,v)]=_;by_cases h:g=f
  ·have hb:(g==f)=true:=eG.mpr h;simp only[List.lookup,hb,if_pos h]
  ·have hb:(g==f)=false:=dH.mpr h;simp only[List.lookup,hb,if_neg h]
 |(k,x)::r=>by
  have ih:=Li f g v r;rw[show C8 f v ((k,x)::r)=(if k=f then(k,v)::r else(k,x)::C8 f v r) from rfl];by_cases hk:k=f
  ·rw[aH hk];by_cases h:g=k
   ·have hb:(g==k)=true:=eG.mpr h;simp only[List.lookup,hb,if_pos (h.trans hk)]
   ·have hb:(g==k)=false:=dH.mpr h;simp only[List.lookup,hb,if_neg (λe:g=f=>h (e.trans hk.symm))]
  ·rw[aE hk];by_cases h:g=k
   ·have hb:(g==k)=true:=eG.mpr h;simp only[List.lookup,hb,if_neg (λe:g=f=>hk (h.symm.trans e))]
   ·have hb:(g==k)=false:=dH.mpr h;simp only[List.lookup,hb];exact ih
theorem Fl(f:Str)(v:V):∀fs:List (Str×V),f∈(C8 f v fs).map (·.1)/\∀g,g∈fs.map (·.1)->g∈(C8 f v fs).map (·.1)
 |[]=>⟨by simp[C8],λg h=>by simp at h⟩
 |(k,x)::r=>by
  obtain⟨i1,i2⟩:=Fl f v r;rw[show C8 f v ((k,x)::r)=(if k=f then(k,v)::r else(k,x)::C8 f v r) from rfl];by_cases hk:k=f
  ·rw[aH hk];subst hk;exact⟨by simp,λg h=>by simpa using h⟩
  ·rw[aE hk];refine⟨?_,λg h=>?_⟩
   ·rw[bL];exact bx _ i1
   ·rw[bL] at h ⊢;rcases aL.mp h with e|e
    ·exact aL.mpr (.inl e)
    ·exact bx _ (i2 g e)
theorem Lg(f:Str)(v:V):∀fs:List (Str×V),(C8 f v fs).length<=fs.length+1
 |[]=>by simp[C8]
 |(k,x)::r=>by
  have ih:=Lg f v r;rw[show C8 f v ((k,x)::r)=(if k=f then(k,v)::r else(k,x)::C8 f v r) from rfl];by_cases hk:k=f
  ·rw[aH hk,dM,dM];omega
  ·rw[aE hk,dM,dM];omega
theorem L4.some_of{o:Option Value}(r:L4 (some v) o):∃u,o=some u/\RelV v u:=by
 cases o with
 |none=>exact(show False from r).elim
 |some u=>exact⟨u,rfl,r⟩
theorem a57(r:RelV v u):PySem.W.handedIn u=true:=by
 cases v with
 |br=>cases (show u=Value.none from r);rfl
 |bl b=>cases (show u=Value.bool b from r);rfl
 |int i=>obtain⟨t,e⟩:=(show ∃t,u=Value.int i t from r);cases e;rfl
 |str x=>obtain⟨t,e⟩:=(show ∃t,u=Value.str x t from r);cases e;rfl
 |mK b=>obtain⟨t,e⟩:=(show ∃t,u=Value.bytes b t from r);cases e;rfl
 |sY b=>obtain⟨t,e⟩:=(show ∃t,u=Value.float b t from r);cases e;rfl
 |ref a=>cases (show u=Value.ref a from r);rfl
 |ty n=>cases (show u=Value.type n from r);rfl
section
variable{fs:List (Str×V)}
theorem EE(bZ:gz P w H h)(e:H a=some (.ins C dx fs)):∃mA,uJ h a dx C mA/\(∀f,L4 (fs.lookup f) (mA f))/\PySem.Within mA (fs.map (·.1))/\fs.length<=1000/\H dx=some (.own a):=by
 obtain⟨d,z,ne,ob,mA,n,r,q⟩:=(show t8 P w H h a (.ins C dx fs) from bZ a _ e)
 exact⟨mA,⟨ob,n,ne⟩,r,q,z,d⟩
end
structure kK(K:PySem.W.Frag)(C:Addr):Prop where
 pg:PySem.W.plainGet K C Str.empty=true
 hd:PySem.W.hasDictIn K C=true
 po:PySem.W.plainOver K C=true
 sa:PySem.W.findIn K (.ref C) "__setattr__"=some (some (.builtin "object.__setattr__"))
theorem kK.get(c:kK K C)(f:Str):PySem.W.plainGet K C f=true:=c.pg
def E8(K:PySem.W.Frag)(C:Addr)(f:Str):Prop:=PySem.W.findIn K (.ref C) f=some none
theorem E8.bJ4{f:Str}(n:E8 K C f):PySem.W.takerIn K C f=some none:=by
 unfold PySem.W.takerIn;rw[show PySem.W.findIn K (.ref C) f=some none from n]
 rfl
structure Meth(K:PySem.W.Frag)(C:Addr)(m:Str)(f:Addr):Prop where
 at_:PySem.W.findIn K (.ref C) m=some (some (.ref f))
 fn:PySem.W.isFn K (.ref f)=true
 kp:PySem.W.keepIn K (.ref f)=true
section
variable{fs:List (Str×V)}{f:Str}
theorem aV8{b:Bool}(I:Inv X pins Z H s)(e:H a=some (.ins C dx fs))(c:kK X.K C)(n:E8 X.K C f)(l:fs.lookup f=some v)(h:∀u s',Inv X pins Z H s'->RelV v u->Q u s'):wpAny (model X.prog X.w) A (getAttr (.ref a) f b) Q E s:=by
 obtain⟨mA,O,r,_,_,_⟩:=EE I.bZ e;obtain⟨u,hu,ru⟩:=L4.some_of (v:=v) (o:=mA f) (by rw[<- l];exact r f);exact get_map I.hJ O (c.get f) c.hd n hu (a57 ru) (h u _ (I.tok _) ru)
theorem aT2{y:V}{Q:Unit->Shared->Prop}(I:Inv X pins Z H s)(e:H a=some (.ins C dx fs))(c:kK X.K C)(n:E8 X.K C f)(hl:fs.length<1000)(ry:RelV y u)(h:∀s',Inv X pins Z (upd H a (.ins C dx (C8 f y fs))) s'->Q Unit.unit s'):wpAny (model X.prog X.w) A (setAttr (.ref a) f u) Q E s:=by
 obtain⟨mA,O,r,wi,_,ho⟩:=EE I.bZ e;have hz:(fs.map (·.1)).length<=sizeLine:=by rw[ai,tX];omega
 refine Vb I.hJ O c.sa c.po n.bJ4 c.hd wi hz λh' O' sb=>h _ ?_;have hd:∃o,h'.get? dx=some o:=let ⟨o,_,_,e',_⟩:=O'.ns;⟨o,e'⟩
 refine I.write (x:=a) (e:=dx) (by rw[e];exact True.intro) (.inr ho) (λb q hb z=>(sb.2 b hb).trans z) hd ?_;refine⟨by rw[i9 O.ne];exact ho,?_,O.ne,O'.obj,_,O'.ns,λg=>?_,λg hg=>?_⟩
 ·have:=Lg f y fs;omega
 ·show L4 ((C8 f y fs).lookup g) (if g=f then some u else mA g);rw[Li];by_cases q:g=f
  ·rw[aH q,aH q];exact ry
  ·rw[aE q,aE q];exact r g
 ·by_cases q:g=f
  ·rw[q];exact(Fl f y fs).1
  ·refine(Fl f y fs).2 g (wi g λz=>hg ?_);show(if g=f then some u else mA g)=none;rw[aE q];exact z
theorem Inv.made(I:Inv X pins Z H s):Inv X pins Z (upd (upd H s.heap.objs.size (.own (s.heap.objs.size+1))) (s.heap.objs.size+1) (.ins C s.heap.objs.size []))
  { s with heap:=(s.heap.push PySem.W.emptyDict).push (PySem.W.instObj C s.heap.objs.size) }:=by
 have e1:(s.heap.push PySem.W.emptyDict).get? s.heap.objs.size=some PySem.W.emptyDict:=aI s.heap rfl;have e2:((s.heap.push PySem.W.emptyDict).push (PySem.W.instObj C s.heap.objs.size)).get? (s.heap.objs.size+1)=some (PySem.W.instObj C s.heap.objs.size):=by
  have:=aI (s.heap.push PySem.W.emptyDict) (o:=PySem.W.instObj C s.heap.objs.size) rfl
  rwa [eW] at this
 have e3:(s.heap.push PySem.W.emptyDict).Ns s.heap.objs.size (λ_=>none):=⟨PySem.W.emptyDict,#[],_,e1,rfl,(λe he=>absurd he (by simp)),λ_=>rfl⟩
 have I1:=I.laid (a:=s.heap.objs.size) (o:=.own (s.heap.objs.size+1)) (h':=s.heap.push PySem.W.emptyDict) (t':=s.toks) (λb u q=>au _ q) (az _) ⟨_,e1⟩;refine I1.laid (a:=s.heap.objs.size+1) (o:=.ins C s.heap.objs.size []) (t':=s.toks) (λb u q=>au _ q) (vo (eW _ _)) ?_;have ne:s.heap.objs.size≠s.heap.objs.size+1:=aU (fL _);refine⟨by rw[i9 ne,x8],cP _,ne,e2,λ_=>none,(Heap.Ns1.of_empty e3).at λo q=>au _ q,λ_=>True.intro,λy hy=>absurd rfl hy⟩
theorem TK{prog:Program}{env:Env}(hb:attributeBase e f env (eval e env)=eval e env)(h:wpAny (model prog w) A (eval e env) (λo bW=>wpAny (model prog w) A (getAttr o f true) Q E bW) E s):wpAny (model prog w) A (eval (.Attribute e f pos) env) Q E s :=
 Attribute_any_ h (by rw[arm_eval_Attribute,hb])
end
def Yg(K:PySem.W.Frag)(ta:TE)(f:Str):TE:=λZ H Q=>ta Z H λx H1=>∃a C dx fs v,x=.ref a/\H1 a=some (.ins C dx fs)/\kK K C/\E8 K C f/\fs.lookup f=some v/\Q v H1
def XX(K:PySem.W.Frag)(ta tv:TE)(f:Str):TS:=λD Z H=>tv Z H λy H1=>ta Z H1 λx H2=>∃a C dx fs,x=.ref a/\H2 a=some (.ins C dx fs)/\kK K C/\E8 K C f/\fs.length<1000 /\
 D.nx Z (upd H2 a (.ins C dx (C8 f y fs)))
def J'(X:Cx)(op:Operator)(rd:V->V->Hp->VK->Prop):Prop :=
 ∀(pins:List (Addr×Obj)) (s:Shared) (Z:St) (H:Hp) (x y:V) (u v:Value) (Q:VK),Inv X pins Z H s->RelV x u->RelV y v->rd x y H Q->wpAny (model X.prog X.w) X.A (inplaceOp op u v) (EP X pins Z Q) X.xe s
section
variable{o value:Expr}{f:Str}{tv:TE}
theorem bB8(he:PE X e ta)(hb:attributeBase e f X.env (eval e X.env)=eval e X.env):PE X (.Attribute e f pos) (Yg X.K ta f):=by
 intro pins s Z H Q I h;refine TK hb (cO (he pins s Z H _ I h) λu s1 bq=>?_);obtain⟨x,H1,I1,rx,a,C,dx,fs,v,ex,ea,c,n,l,q⟩:=bq;subst ex;obtain rfl:u=Value.ref a:=rx;exact aV8 I1 ea c n l λu' s2 I2 ru=>⟨v,H1,I2,ru,q⟩
theorem bA5(ha:PE X o ta)(hv:PE X value tv)(hs:swapsWith value (some (.Attribute o f pos')) pos.line X.env=pure false):PS X (.Assign [.Attribute o f pos'] value pos) (XX X.K ta tv f):=by
 intro pins s Z H D I h;refine plainObj_wpAny_Assign_Attribute (cO (hv pins s Z H _ I h) λu s1 ⟨y,H1,I1,ry,q⟩=>cO (ha pins s1 Z H1 _ I1 q) λov s2 bq=>?_) hs;obtain⟨x,H2,I2,rx,a,C,dx,fs,ex,ea,c,n,l,q2⟩:=bq;subst ex;obtain rfl:ov=Value.ref a:=rx;exact aT2 I2 ea c n l ry λs3 I3=>⟨Z,_,I3,q2⟩
def XJ:V->V->Hp->VK->Prop:=λx y H Q=>∃i j,x=.int i/\y=.int j/\Q (.int (i+j)) H
theorem bG1:J' X .Add XJ:=by
 rintro pins s Z H x y u v Q I rx ry ⟨i,j,rfl,rfl,q⟩;obtain⟨t,rfl⟩:=(show ∃t,u=Value.int i t from rx)
 obtain⟨t',rfl⟩:=(show ∃t',v=Value.int j t' from ry)
 exact PyProof.Rows.iadd_int ⟨.int (i+j),H,I.tok _,⟨_,rfl⟩,q⟩
end
section
variable{c:Value}{b:Bool}
inductive ik(K:PySem.W.Frag)(H:Hp):V->Value->Prop where
 |br:ik K H .br (.type "NoneType")
 |bl (x:Bool):ik K H (.bl x) (.type "bool")
 |int (i:Int):ik K H (.int i) (.type "int")
 |str (x:Str):ik K H (.str x) (.type "str")
 |sY (x:UInt64):ik K H (.sY x) (.type "float")
 |lst {a:Addr} {xs:List V} (e:H a=some (.lst xs)):ik K H (.ref a) (.type "list")
 |kB {a:Addr} {o:Obj} {xs:List V} (e:H a=some (.kB o (.lst xs))):ik K H (.ref a) (.type "list")
 |tup {a:Addr} {xs:List V} (e:H a=some (.tup xs)):ik K H (.ref a) (.type "tuple")
 |dK {a:Addr} {kvs:List (Key×V)} (e:H a=some (.dK kvs)):ik K H (.ref a) (.type "dict")
 |dT {a:Addr} {kvs:List (List Key×V)} (e:H a=some (.dT kvs)):ik K H (.ref a) (.type "dict")
 |ins {a C dx:Addr} {fs:List (Str×V)} (e:H a=some (.ins C dx fs)) (cl:kK K C) (ha:PySem.W.findIn K (.ref C) "__class__"=some (some (.builtin "object.__class__")))
   (hn:PySem.W.specialIn K (.builtin "object.__class__") "__get__"=some (some (.builtin "getset_descriptor.__get__"))) (zd:PySem.W.takesIn K (.builtin "object.__class__")=some true)
   (hm:PySem.W.mroIn K C (.type "object")=some true):ik K H (.ref a) (.ref C)
theorem a53{x:V}{t:Value}(I:Inv X pins Z H s)(rx:RelV x u)(ty:ik X.K H x t)(e:PySem.W.kitOne X.K t c=some b)(h:∀tk,Q (.bool b) { s with toks:=tk }) :
  wpAny (model X.prog X.w) A (call (.builtin "isinstance") [u,c]) Q E s:=by
 cases ty with
 |br=>cases (show u=Value.none from rx);exact bY PySem.W.kitx_none I.hJ True.intro e (λz=>nomatch z) h
 |bl y=>cases (show u=Value.bool y from rx);exact bY PySem.W.kitx_bool I.hJ True.intro e (λz=>nomatch z) h
 |int i=>obtain⟨t,q⟩:=(show ∃t,u=Value.int i t from rx);cases q;exact bY PySem.W.kitx_int I.hJ True.intro e (λz=>nomatch z) h
 |str y=>obtain⟨t,q⟩:=(show ∃t,u=Value.str y t from rx);cases q;exact bY PySem.W.kitx_str I.hJ True.intro e (λz=>nomatch z) h
 |sY y=>obtain⟨t,q⟩:=(show ∃t,u=Value.float y t from rx);cases q;exact bY PySem.W.kitx_float I.hJ True.intro e (λz=>nomatch z) h
 |@lst a xs ea =>
  cases (show u=Value.ref a from rx);obtain⟨_,_,n,_,h1⟩:=(show t8 X.prog X.w H s.heap a (.lst xs) from I.bZ a _ ea)
  exact bY PySem.W.kitx_list I.hJ ⟨_,h1,rfl⟩ e (λz=>nomatch z) h
 |@kB a ob xs ea =>
  cases (show u=Value.ref a from rx);obtain⟨_,_,_,n,_,h1⟩:=(show t8 X.prog X.w H s.heap a (.kB ob (.lst xs)) from I.bZ a _ ea)
  exact bY PySem.W.kitx_list I.hJ ⟨_,h1,rfl⟩ e (λz=>nomatch z) h
 |@tup a xs ea =>
  cases (show u=Value.ref a from rx);obtain⟨_,_,_,p⟩:=(show t8 X.prog X.w H s.heap a (.tup xs) from I.bZ a _ ea)
  obtain⟨o,h1,h2,_⟩:=p;exact bY Oi I.hJ ⟨o,h1,h2⟩ e (λz=>nomatch z) h
 |@dK a kvs ea =>
  cases (show u=Value.ref a from rx);obtain⟨_,_,vs,_,p⟩:=(show t8 X.prog X.w H s.heap a (.dK kvs) from I.bZ a _ ea)
  obtain⟨o,es,ep,h1,h2,_⟩:=p;exact bY PySem.W.kitx_dict I.hJ ⟨o,h1,h2.1⟩ e (λz=>nomatch z) h
 |@dT a kvs ea =>
  cases (show u=Value.ref a from rx);obtain⟨_,_,xs,_,o,es,ep,h1,h2,_⟩:=(show t8 X.prog X.w H s.heap a (.dT kvs) from I.bZ a _ ea)
  exact bY PySem.W.kitx_dict I.hJ ⟨o,h1,h2.1⟩ e (λz=>nomatch z) h
 |@ins a C dx fs ea cl ha hn zd hm =>
  cases (show u=Value.ref a from rx);obtain⟨mA,O,_⟩:=EE I.bZ ea;obtain⟨od,J,_⟩:=O.look;exact bY (PySem.W.kitx_own (cl.get _) cl.hd ha hn zd hm) I.hJ J e (λz=>nomatch z) h
end
structure A6(k:Nat)(A:Around):Prop where
 hd:A.handled=none
 dp:A.depth+3*k+5<recursionLimit
 un:A.units+16*k+200<cLine
theorem A6.mono{j:Nat}(r:A6 k A)(h:j<=k):A6 j A:=⟨r.hd,by have:=r.dp;omega,by have:=r.un;omega⟩
theorem A6.deeper{k:Nat}{A:Around}(r:A6 (k+1) A)(env:Env):A6 k (A.deeper env) :=
 ⟨r.hd,by have:=r.dp;show A.depth+1+3*k+5<_;omega,by have:=r.un;show A.units+3+16*k+200<_;omega⟩
theorem aV0{kw:List (Str×Value)}:(A.under (.builtin "type.__call__" ⟨.ref C::us,kw⟩)).depth=A.depth+1:=by
 first|rfl|simp[Around.under,Code.weight,Code.isCreation,Code.isGuard,Code.isCaller,Code.frames,Code.isFrame,guardIds]
theorem aU9{kw:List (Str×Value)}:(A.under (.builtin "type.__call__" ⟨.ref C::us,kw⟩)).units=A.units+1:=by
 first|rfl|simp[Around.under,Code.cUnits,Code.frames,Code.isFrame]
theorem A6.make(r:A6 (k+1) A)(C:Addr)(us:List Value)(kw:List (Str×Value)):A6 k (A.under (.builtin "type.__call__" ⟨.ref C::us,kw⟩)) :=
 ⟨r.hd,by have:=r.dp;rw[aV0];omega,by have:=r.un;rw[aU9];omega⟩
theorem A6.depth{k:Nat}{A:Around}(r:A6 k A):A.depth<recursionLimit:=by have:=r.dp;omega
def GS:TA:=λ_ H Q=>Q [] H
def bK1(ta:TE)(tr:TA):TA:=λZ H Q=>ta Z H λx H1=>tr Z H1 λxs H2=>Q (x::xs) H2
theorem vg:PA X [] GS:=λ_ _ _ _ H Q I h=>Calls.spliced_nil ⟨[],H,I,.nil,h⟩
theorem V2(ha:PE X e te)(hr:PA X es t)(hs:starEach (e::es) X.env=(false,eval e X.env)::starEach es X.env:=by rfl):PA X (e::es) (bK1 te t):=by
 intro pos pins s Z H Q I h;rw[hs];show wpAny _ _ (spliced ((false,eval e X.env)::backTo pos (starEach es X.env))) _ _ s;refine Calls.spliced_cons (cO (ha pins s Z H _ I h) λu s1 bq=>?_);obtain⟨x,H1,I1,r1,q1⟩:=bq;exact cO (hr pos pins s1 Z H1 _ I1 q1) λus s2 ⟨xs,H2,I2,r2,q2⟩=>⟨x::xs,H2,I2,.cons r1 r2,q2⟩
def Yo(t:TA):TE:=λZ H Q=>t Z H λxs H1=>xs.length<=sizeLine/\∀p,H1 p=none->Q (.ref p) (upd H1 p (.tup xs))
def Yj(t:TA):TE:=λZ H Q=>t Z H λxs H1=>xs.length<=sizeLine/\∀p,H1 p=none->Q (.ref p) (upd H1 p (.lst xs))
theorem bB2{x1}(h:PA X es t):PE X (.Tuple es x1 pos) (Yo t):=by
 intro pins s Z H Q I hq;refine wpAny_Tuple_spliced (cO (h pos pins s Z H _ I hq) λus s1 ⟨xs,H1,I1,r,z,q⟩=>⟨by rw[<- r.length];exact z,?_⟩);have hf:H1 s1.heap.objs.size=none:=I1.bZ.fresh (az _);refine⟨.ref s1.heap.objs.size,upd H1 s1.heap.objs.size (.tup xs),I1.laid (t':=s1.toks) (λb u e=>au _ e) (az _) ?_,rfl,q _ hf⟩;exact⟨z,us,r,⟨_,aI _ rfl,rfl,⟨_,rfl⟩,rfl⟩⟩
theorem bB6(h:PA X es t):PE X (.List es pos) (Yj t):=by
 intro pins s Z H Q I hq;refine wpAny_List_spliced (cO (h pos pins s Z H _ I hq) λus s1 ⟨xs,H1,I1,r,z,q⟩=>⟨by rw[<- r.length];exact z,?_⟩);have hf:H1 s1.heap.objs.size=none:=I1.bZ.fresh (az _);refine⟨.ref s1.heap.objs.size,upd H1 s1.heap.objs.size (.lst xs),I1.laid (t':=s1.toks) (λb u e=>au _ e) (az _) ?_,rfl,q _ hf⟩;exact⟨z,us,0,r,aI _ rfl⟩
noncomputable abbrev Sp:=List V->Hp->VK->XK->Prop
noncomputable abbrev oQ:=List Env->Hp->Shared->XK->Value->Shared->Prop
structure tD(P:Program)(w:World)(K:PySem.W.Frag)(mg:Str->Option Value)(base:Heap)(A:Around)(outer:List Env)(s:Shared)(H:Hp):Prop where
 frames:A.frames=some outer
 mod:Mod K mg base
 bs:∀b o,base.get? b=some o->s.heap.get? b=some o/\H b=none
 oK:base.objs.size<=s.heap.objs.size
 M7:s.heap.FunFrames base outer
 ph:∀b∈gg outer,H b=none
 bZ:gz P w H s.heap
 bare:AllBare s.gens
def CE(outer:List Env)(P:Program)(w:World)(H:Hp)(s:Shared)(Q:VK)(u:Value)(s':Shared):Prop :=
 ∃v H',s'.os=s.os/\AllBare s'.gens/\Un (gg outer) [] H H' s.heap s'.heap/\gz P w H' s'.heap/\RelV v u/\Q v H'
def CR(CX:oQ)(outer:List Env)(P:Program)(w:World)(H:Hp)(s:Shared)(Q:VK)(E:XK)(r:Result)(s':Shared):Prop :=
 match r with
 |.ok (.ret u)=>CE outer P w H s Q u s'
 |.ok _=>False
 |.error e=>CX outer H s E e s'
structure iQ(P:Program)(w:World)(K:PySem.W.Frag)(mg:Str->Option Value)(base:Heap)(CX:oQ)(k:Nat)(f:Addr)(fd:FuncData)(ps:List Str)(sp:Sp):Prop where
 len:∀vs H Q E,sp vs H Q E->vs.length=ps.length
 run:∀(A:Around) (outer:List Env) (s:Shared) (H:Hp) (args:Args) (us:List Value) (vs:List V) (Q:VK) (E:XK),A6 k A->tD P w K mg base A outer s H->BindsTo s fd args (ps.zip us)->Vals vs us->sp vs H Q E ->
  codeAny (model P w) A (.call (.ref f) args) (CR CX outer P w H s Q E) s
theorem tD.make{mg:Str->Option Value}{outer:List Env}(e:tD P w K mg base A outer s H)(C:Addr)(us:List Value)(kw:List (Str×Value)) :
  tD P w K mg base (A.under (.builtin "type.__call__" ⟨.ref C::us,kw⟩)) outer s H:=⟨by first|exact e.frames|(simpa[Around.under,Code.envs,Code.isFrame,pushEnvs] using e.frames),e.mod,e.bs,e.oK,e.M7,e.ph,e.bZ,e.bare⟩
section
variable{s':Shared}
theorem Inv.Ke(I:Inv X pins Z H s):tD X.prog X.w X.K X.mg X.base X.A X.stack s H :=
 ⟨I.ok.frames,I.ok.mod,I.bs,aG I.ok.oK I.sz,I.stack,I.Ao,I.bZ,I.bare⟩
theorem Inv.after{Q:VK}(I:Inv X pins Z H s)(h:CE X.stack X.prog X.w H s Q u s'):EP X pins Z Q u s':=by
 obtain⟨v,H',os,bare,un,bZ,r,q⟩:=h;obtain⟨hh,g,d,t,vG⟩:=s';obtain rfl:vG=s.os:=os;exact⟨v,H',I.call (h':=hh) (g':=g) (d':=d) (t':=t) (ch:=[]) un bZ bare (λb z=>absurd z (by simp)),r,q⟩
end
def JW(sp:Sp)(kD:List V)(E:XK)(t:TA):TE:=λZ H Q=>t Z H λvs H1=>sp (vs++kD) H1 Q E
def JX(C:Addr)(sp:Sp)(kD:List V)(E:XK)(t:TA):TE:=λZ H Q=>t Z H λvs H1=>∀x dx,H1 x=none->H1 dx=none->dx≠x ->
 sp (.ref x::(vs++kD)) (upd (upd H1 dx (.own x)) x (.ins C dx [])) (λv H2=>v=.br/\Q (.ref x) H2) E
def Binds(K:PySem.W.Frag)(fd:FuncData)(ps:List Str)(ds:List Value):Prop :=
 ∀(s:Shared) (us:List Value),K.In s.heap->(us++ds).length=ps.length->BindsTo s fd ⟨us,[]⟩ (ps.zip (us++ds))
theorem Binds.all(h:∀us:List Value,us.length=ps.length->bindArgs fd ⟨us,[]⟩=pure (ps.zip us)):Binds K fd ps []:=λs us _ hl=>by
 rw[fc] at hl ⊢;exact .of_eq (h us hl)
def Passes(CX:oQ)(X:Cx)(E:XK):Prop:=∀(pins:List (Addr×Obj)) (Z:St) (H:Hp) (s:Shared) (e:Value) (s':Shared),Inv X pins Z H s->CX X.stack H s E e s'->X.xe e s'
section
variable{kD:List V}{ds:List Value}{E:XK}
theorem NR{Q:VK}(F:iQ X.prog X.w X.K X.mg X.base CX k f fd ps sp)(hr:A6 k X.A)(hb:Binds X.K fd ps ds)(hd:Vals kD ds)(hx:Passes CX X E)(I:Inv X pins Z H s)(r:Vals vs us)(h:sp (vs++kD) H Q E):wpAny (model X.prog X.w) X.A (call (.ref f) us) (EP X pins Z Q) X.xe s:=by
 have r2:Vals (vs++kD) (us++ds):=r.append hd;have hl:(us++ds).length=ps.length:=by rw[<- r2.length];exact F.len _ _ _ _ h
 refine wpAny_call (hV (F.run X.A X.stack s H ⟨us,[]⟩ (us++ds) (vs++kD) Q E hr I.Ke (hb s us I.hJ hl) r2 h) λr s' hq=>?_);cases r with
 |error e=>exact hx pins Z H s e s' I hq
 |ok fl =>
  cases fl with
  |ret u=>exact I.after hq
  |next=>exact False.elim hq
  |brk=>exact False.elim hq
  |cont=>exact False.elim hq
theorem UB(F:iQ X.prog X.w X.K X.mg X.base CX k f fd ps sp)(hr:A6 k X.A)(hg:Gl X x)(hm:X.mg x=some (.ref f))(hk:PySem.W.keepIn X.K (.ref f)=true)(hb:Binds X.K fd ps ds)(hd:Vals kD ds)(hx:Passes CX X E)(ha:PA X (e::es) t)(gN:(x==("__debug__":Str))=false:=by decide)(he:starEach (e::es) X.env=(false,eval e X.env)::starEach es X.env:=by rfl)(iw:(backTo pos (starEach es X.env)).any (·.1)=false:=by rfl) :
  PE X (.Call (.Name x p) (e::es) [] pos) (JW sp kD E t):=by
 intro pins s Z H Q I h;refine cR (P9 I hg hm ?_ gN);refine Oj (h₀:=X.base) I.ok.mod.oV hk (cO (ha pos pins s Z H _ I h) λus s1 ⟨vs,H1,I1,r,q⟩=>⟨I1.hJ,?_⟩) he iw;exact NR F hr hb hd hx I1 r q
theorem Wi(F:iQ X.prog X.w X.K X.mg X.base CX k f fd ps sp)(hr:A6 k X.A)(hg:Gl X x)(hm:X.mg x=some (.ref f))(hk:PySem.W.keepIn X.K (.ref f)=true)(hb:Binds X.K fd ps ds)(hd:Vals kD ds)(hx:Passes CX X E)(gN:(x==("__debug__":Str))=false:=by decide):PE X (.Call (.Name x p) [] [] pos) (JW sp kD E GS):=by
 intro pins s Z H Q I h;refine cR (P9 I hg hm ?_ gN);exact Hh I.hJ hk (NR (us:=[]) F hr hb hd hx I .nil h)
structure Mk(K:PySem.W.Frag)(C f:Addr):Prop where
 makes:PySem.W.makesIn K C=true
 init:PySem.W.findIn K (.ref C) "__init__"=some (some (.ref f))
 fn:PySem.W.isFn K (.ref f)=true
 kp:PySem.W.keepIn K (.ref C)=true
theorem MZ{Q:VK}(M:Mk X.K C f)(F:iQ X.prog X.w X.K X.mg X.base CX k f fd ps sp)(hr:A6 (k+1) X.A)(hb:Binds X.K fd ps ds)(hd:Vals kD ds)(hx:Passes CX X E)(I:Inv X pins Z H s)(r:Vals vs us)(h:∀x dx,H x=none->H dx=none->dx≠x->sp (.ref x::(vs++kD)) (upd (upd H dx (.own x)) x (.ins C dx [])) (λv H2=>v=.br/\Q (.ref x) H2) E) :
  wpAny (model X.prog X.w) X.A (call (.ref C) us) (EP X pins Z Q) X.xe s:=by
 have hq:=h (s.heap.objs.size+1) s.heap.objs.size (I.bZ.fresh (gU _)) (I.bZ.fresh (az _)) (aU (fL _));have I2:=Inv.made (C:=C) I;have r2:Vals (V.ref (s.heap.objs.size+1)::(vs++kD)) (Value.ref (s.heap.objs.size+1)::(us++ds)):=.cons rfl (r.append hd);have hl:(Value.ref (s.heap.objs.size+1)::us++ds).length=ps.length:=by
  have e:=r2.length;rw[F.len _ _ _ _ hq] at e;exact e.symm
 refine wpAny_call (VY (f:=f) I.hJ M.makes M.init (eG.mp M.fn) (hV (F.run _ X.stack _ _ ⟨Value.ref (s.heap.objs.size + 1) :: us,[]⟩ (Value.ref (s.heap.objs.size + 1) :: (us ++ ds)) _ _ E (hr.make C us [])
  (I2.Ke.make C us []) (hb _ (Value.ref (s.heap.objs.size + 1) :: us) I2.hJ hl) r2 hq) λr s' oj=>?_))
 cases r with
 |error e=>exact hx pins Z _ _ e s' I2 oj
 |ok fl =>
  cases fl with
  |ret u =>
   obtain⟨v,H',I3,rv,ev,q3⟩:=I2.after oj;subst ev;exact⟨rv,⟨V.ref (s.heap.objs.size+1),H',I3,rfl,q3⟩⟩
  |next=>exact False.elim oj
  |brk=>exact False.elim oj
  |cont=>exact False.elim oj
theorem UD(M:Mk X.K C f)(F:iQ X.prog X.w X.K X.mg X.base CX k f fd ps sp)(hr:A6 (k+1) X.A)(hg:Gl X x)(hm:X.mg x=some (.ref C))(hb:Binds X.K fd ps ds)(hd:Vals kD ds)(hx:Passes CX X E)(ha:PA X (e::es) t)(gN:(x==("__debug__":Str))=false:=by decide)(he:starEach (e::es) X.env=(false,eval e X.env)::starEach es X.env:=by rfl)(iw:(backTo pos (starEach es X.env)).any (·.1)=false:=by rfl) :
  PE X (.Call (.Name x p) (e::es) [] pos) (JX C sp kD E t):=by
 intro pins s Z H Q I h;refine cR (P9 I hg hm ?_ gN);refine Oj (h₀:=X.base) I.ok.mod.oV M.kp (cO (ha pos pins s Z H _ I h) λus s1 ⟨vs,H1,I1,r,q⟩=>⟨I1.hJ,?_⟩) he iw;exact MZ M F hr hb hd hx I1 r q
theorem Wn(M:Mk X.K C f)(F:iQ X.prog X.w X.K X.mg X.base CX k f fd ps sp)(hr:A6 (k+1) X.A)(hg:Gl X x)(hm:X.mg x=some (.ref C))(hb:Binds X.K fd ps ds)(hd:Vals kD ds)(hx:Passes CX X E)(gN:(x==("__debug__":Str))=false:=by decide):PE X (.Call (.Name x p) [] [] pos) (JX C sp kD E GS):=by
 intro pins s Z H Q I h;refine cR (P9 I hg hm ?_ gN);exact Hh I.hJ M.kp (MZ (us:=[]) M F hr hb hd hx I .nil h)
end
structure jq(N P:List Str)(sc:Scope):Prop where
 kind:sc.kind=.function
 co:sc.isCoroutine=false
 gen:sc.isGenerator=false
 nd:N.Nodup
 pre:N.take P.length=P
 par:∀x∈P,sc.names.lookup x=some .local\/sc.names.lookup x=some .cell
 nX:∀y∈sc.names,y.2≠.free
theorem Nu{kindOf:Str->Option NameKind}{x:Str}:∀{binds:List (Str×Value)} {m:Str->Option Value},(∀v,(x,v)∉binds)->bindL kindOf binds m x=m x
 |[],_,_=>rfl
 |(n,v)::r,m,h=>by
  unfold bindL;rw[Nu λw hw=>h w (bx _ hw)];split
  ·have:x≠n:=by rintro rfl;exact h v gG
   simp[this]
  ·rfl
theorem Nr{kindOf:Str->Option NameKind}{x:Str}:∀{binds:List (Str×Value)} {m:Str->Option Value},(∀v,(x,v)∉binds)->bindC kindOf binds m x=m x
 |[],_,_=>rfl
 |(n,v)::r,m,h=>by
  unfold bindC;rw[Nr λw hw=>h w (bx _ hw)];split
  ·rfl
  ·have:x≠n:=by rintro rfl;exact h v gG
   simp[this]
theorem Nt{kindOf:Str->Option NameKind}{x:Str}{v:Value}:∀{P:List Str} {vs:List Value} {i:Nat} {m:Str->Option Value},P.Nodup->P[i]?=some x->vs[i]?=some v->kindOf x=some .local ->
  bindL kindOf (P.zip vs) m x=some v
 |[],_,_,_,_,h,_,_=>by simp at h
 |_::_,[],_,_,_,_,h,_=>by simp at h
 |p::P,w::vs,0,m,nd,h1,h2,hk=>by
  simp at h1 h2;subst h1;subst h2;show bindL kindOf ((p,w)::P.zip vs) m p=_;unfold bindL;rw[Nu λv hv=>(dY.mp nd).1 (nN hv).1,aH hk];simp
 |p::P,w::vs,i+1,m,nd,h1,h2,hk=>by
  show bindL kindOf ((p,w)::P.zip vs) m x=_;unfold bindL;exact Nt (i:=i) (dY.mp nd).2 (by simpa using h1) (by simpa using h2) hk
theorem Nq{kindOf:Str->Option NameKind}{x:Str}{v:Value}:∀{P:List Str} {vs:List Value} {i:Nat} {m:Str->Option Value},P.Nodup->P[i]?=some x->vs[i]?=some v->kindOf x≠some .local ->
  bindC kindOf (P.zip vs) m x=some v
 |[],_,_,_,_,h,_,_=>by simp at h
 |_::_,[],_,_,_,_,h,_=>by simp at h
 |p::P,w::vs,0,m,nd,h1,h2,hk=>by
  simp at h1 h2;subst h1;subst h2;show bindC kindOf ((p,w)::P.zip vs) m p=_;unfold bindC;rw[Nr λv hv=>(dY.mp nd).1 (nN hv).1,aE hk];simp
 |p::P,w::vs,i+1,m,nd,h1,h2,hk=>by
  show bindC kindOf ((p,w)::P.zip vs) m x=_;unfold bindC;exact Nq (i:=i) (dY.mp nd).2 (by simpa using h1) (by simpa using h2) hk
def start(N:List Str)(vs:List V):St:=vs.map some++List.replicate (N.length-vs.length) none
def qh(CX:oQ)(P:Program)(w:World)(K:PySem.W.Frag)(mg:Str->Option Value)(base:Heap)(N:List Str)(qual:Str)(scope:Scope)(f:Addr)(cd:Value)(A:Around)(outer:List Env)(s:Shared)(H:Hp)(E:XK):Cx where
 prog:=P
 w:=w
 K:=K
 mg:=mg
 base:=base
 A:=A.deeper (envOfC qual scope s.heap.objs.size f cd)
 N:=N
 dE:=s
 jV:=H
 env:=envOfC qual scope s.heap.objs.size f cd
 outer:=outer
 stack:=envOfC qual scope s.heap.objs.size f cd::outer
 ex:=[]
 calm:=true
 fn:=λ_=>true
 pn:=[]
 xe:=λe s'=>wpAny (model P w) (A.deeper (envOfC qual scope s.heap.objs.size f cd)) (leaving (envOfC qual scope s.heap.objs.size f cd) e) (λ_ pO=>CX outer H s E e pO) (λe' pO=>CX outer H s E e' pO) s'
theorem ET{sc:Scope}{n:Nat}(h:sc.names.lookup x=some .cell):∃c,(cellsFrom n sc.names []).lookup x=some c:=by
 have q:=dR sc.names n [] (.inl h);exact eV.mp q
theorem a54{mg:Str->Option Value}{qual:Str}{scope:Scope}{cd:Value}{outer:List Env}{s1:Shared}{E:XK}(S:jq N ps scope)(hd:A.handled=none)(e0:tD P w K mg base A outer s H)(hl:vs.length=ps.length)(r:Vals vs us)(x:InCallC s s.heap.objs.size (bindL (envOfC qual scope s.heap.objs.size f cd).kindOf (ps.zip us) λ_=>none) (cellsFrom (s.heap.objs.size+1) scope.names []) (bindC (envOfC qual scope s.heap.objs.size f cd).kindOf (ps.zip us) λ_=>none) s1) :
  Inv (qh CX P w K mg base N qual scope f cd A outer s H E) [] (start N vs) H s1:=by
 have iw:ps.length<=N.length:=by have:=iC List.length S.pre;rw[cM] at this;omega
 obtain⟨h1,tk,rfl,hk⟩:=x.done;have vN:∀b:Addr,b∉(qh CX P w K mg base N qual scope f cd A outer s H E).ex:=λb z=>absurd (show b∈([]:List Addr) from z) (by simp);refine ⟨⟨e0.mod,S.kind,rfl,rfl,az _,λy z c h1 h2=>?_,λy hy=>?_,λy c _ h=>?_,λ_=>hd,Around.frames_deeper e0.frames,.inr ⟨rfl,rfl⟩,λb z=>absurd z (vN b),e0.bs,e0.oK,λb _ _=>vN b,λb z=>absurd z (vN b),e0.M7,e0.ph⟩,
  rfl,e0.bare,Un.kept hk,⟨_,x.toInCall.ns,λi y v h1 h2 h3=>?_⟩,λy c h=>⟨_,x.cell y c h⟩,e0.bZ.fresh (az _),λy c h=>?_,λp hp=>absurd (show p ∈ ([]:List (Addr × Obj)) from hp) (by simp),e0.bZ.kept hk,?_,λdg z=>absurd (show (none:Option (List (Option V)))=some dg from z) (by simp)⟩
 ·exact name_of_addr x.apart (aT h1) (aT h2)
 ·have hy:scope.names.lookup y=some .cell\/scope.names.lookup y=some .free:=hy;rcases hy with hy|hy
  ·exact ET hy
  ·exact absurd rfl (S.nX _ (aT hy))
 ·exact eK (x.above y c (aT h))
 ·have hi:i<vs.length:=by
   unfold start at h2;by_cases hi:i<vs.length
   ·exact hi
   ·rw[cC (by simpa using hi)] at h2;rw[dN] at h2;split at h2<;>cases h2
  have ha:vs[i]?=some v:=by
   unfold start at h2;rw[aK (by simpa using hi),aj] at h2;cases e:vs[i]? with
   |none=>rw[e] at h2;cases h2
   |some a=>rw[e] at h2;cases h2;rfl
  obtain⟨u,hu,rv⟩:=r.get ha;have hp:ps[i]?=some y:=by
   rw[<- S.pre,cu ()];exact h1
  have HI:ps.Nodup:=by rw[<- S.pre];exact S.nd.sublist (List.take_sublist _ _)
  refine⟨u,rv,?_⟩;rcases S.par y (aD hp) with k|k
  ·exact .inl ⟨k,Nt HI hp hu k⟩
  ·obtain⟨c,e⟩:=ET (n:=s.heap.objs.size+1) k;refine .inr ⟨.inl k,c,e,?_⟩;have q:=x.cell y c e;rw[Nq HI hp hu (by show scope.names.lookup y≠_;rw[k];decide)] at q;exact q
 ·exact e0.bZ.fresh (eK (x.above y c (aT h)))
 ·unfold start;show _=N.length;rw[bj,ai,jw];omega
theorem YX{mg:Str->Option Value}{name qual:Str}{params:Arguments}{scope:Scope}{dV kV doc pm fV ct oc:Value}{an od:Option Addr}{nE:Array (Option Value)}(lk:K.lookup f=some ⟨oc,od,.func (PySem.W.fnOf name qual params body scope dV kV doc pm an fV ct),nE⟩)(nc:PySem.W.codeIn K fV qual=true)(S:jq N ps scope)(len:∀vs H Q E,sp vs H Q E->vs.length=ps.length)(wL:∀ (A:Around) (outer:List Env) (s:Shared) (H:Hp) (vs:List V) (Q:VK) (E:XK),A6 k (A.deeper (envOfC qual scope s.heap.objs.size f fV))->sp vs H Q E ->
   ∃ t,jL (qh CX P w K mg base N qual scope f fV A outer s H E) body t/\t { nx:=λ_ H'=>Q .br H',rt:=Q } (start N vs) H) :
  iQ P w K mg base CX (k+1) f (PySem.W.fnOf name qual params body scope dV kV doc pm an fV ct) ps sp:=by
 refine⟨len,λA outer s H args us vs Q E hr e0 hb r uq=>?_⟩;have hl:=len _ _ _ _ uq;have KX:K.In s.heap:=e0.mod.oV.keeps λb o e=>(e0.bs b o e).1;have lim:s.heap.NoLimit:=e0.mod.nolimit.keeps λb o e=>(e0.bs b o e).1;have wB:∀y∈ps.zip us,scope.names.lookup y.1=some .local\/(scope.names.lookup y.1=some .cell/\((cellsFrom (s.heap.objs.size+1) scope.names []).lookup y.1).isSome=true):=λ⟨n,v⟩ hy=>by
  rcases S.par n (nN hy).1 with q|q
  ·exact .inl q
  ·exact .inr ⟨q,dR _ _ _ (.inl q)⟩
 refine codeAny_call_function hr.depth (KX _ _ lk) rfl S.co S.gen rfl (PySem.W.codeRec_of KX nc) (hb _ _ _ _ ?_);refine wpAny_newFunctionEnv_cells S.kind wB λenv he s1 x=>?_;subst he;refine⟨lim.keeps x.toInCall.keep,codeAny_func ?_⟩;obtain⟨t,ht,hq⟩:=wL A outer s H vs Q E (hr.deeper _) uq;have I:Inv (qh CX P w K mg base N qual scope f fV A outer s H E) [] (start N vs) H s1:=a54 S hr.hd e0 hl r x;refine bA (ht [] s1 (start N vs) H _ I hq) (λfl s' hs=>?_) λe s' hs=>hs;have fin:∀{bU:St} {H':Hp} {v:V} {u:Value},Inv (qh CX P w K mg base N qual scope f fV A outer s H E) [] bU H' s'->RelV v u->Q v H'->CE outer P w H s Q u s' :=
  λ{bU H' v u} J rv q=>⟨v,H',J.os,J.bare,J.base,J.bZ,rv,q⟩
 cases fl with
 |ret u =>
  obtain⟨v,bU,H',J,rv,q⟩:=hs;exact fin J rv q
 |next =>
  obtain⟨bU,H',J,q⟩:=hs;exact fin (v:=V.br) (u:=Value.none) J rfl q
 |brk =>
  obtain⟨_,_,_,q⟩:=hs;exact False.elim q
 |cont =>
  obtain⟨_,_,_,q⟩:=hs;exact False.elim q
section
variable{id T:String}{r:List V->Hp->VK->Prop}
def By(r:List V->Hp->VK->Prop)(t:TA):TE:=λZ H Q=>t Z H λvs H1=>r vs H1 Q
theorem Ay(hc:q9 X (.builtin id) r)(hg:Gl X x)(hm:X.mg x=none)(hv:bootBuiltins x=some (.builtin id))(ha:PA X (e::es) t)(hn:x≠"__name__":=by decide)(gN:(x==("__debug__":Str))=false:=by decide)(he:starEach (e::es) X.env=(false,eval e X.env)::starEach es X.env:=by rfl)(iw:(backTo pos (starEach es X.env)).any (·.1)=false:=by rfl):PE X (.Call (.Name x p) (e::es) [] pos) (By r t):=by
 intro pins s Z H Q I h;refine cR (O5 I hg hm hv ?_ hn gN);exact PyProof.Rows.callWith_builtin1 (cO (ha pos pins s Z H _ I h) λus s1 ⟨vs,H1,I1,r1,q1⟩=>hc pins s1 Z H1 vs us Q I1 r1 q1) he iw
theorem T1(hc:q9 X (.type T) r)(hg:Gl X x)(hm:X.mg x=none)(hv:bootBuiltins x=some (.type T))(ha:PA X (e::es) t)(hn:x≠"__name__":=by decide)(gN:(x==("__debug__":Str))=false:=by decide)(he:starEach (e::es) X.env=(false,eval e X.env)::starEach es X.env:=by rfl)(iw:(backTo pos (starEach es X.env)).any (·.1)=false:=by rfl):PE X (.Call (.Name x p) (e::es) [] pos) (By r t):=by
 intro pins s Z H Q I h;refine cR (O5 I hg hm hv ?_ hn gN);exact bQ (cO (ha pos pins s Z H _ I h) λus s1 ⟨vs,H1,I1,r1,q1⟩=>hc pins s1 Z H1 vs us Q I1 r1 q1) he iw
end
end L2
namespace HT
open PySem PyProof.Rows
section
variable{prog:Program}{w:World}{A:Around}{E:Value->Shared->Prop}{s:Shared}
theorem TL{t b:Addr}{vs ws:List Value}{Q:Value->Shared->Prop}(ht:IsTup s.heap t vs.toArray)(hb:IsTup s.heap b ws.toArray)(hv:vs≠[])(h1:ws=[]->Q (.ref t) s)(h2:ws≠[]->Q (.ref s.heap.objs.size) { s with heap:=s.heap.push { cls:=.type "tuple",data:=.seq (vs++ws).toArray } })(hsz:vs.length+ws.length<=sizeLine):wpAny (model prog w) A (binaryOp .Add (.ref t) (.ref b)) Q E s:=by
 obtain⟨⟨cls,dd,data,sl⟩,ho,hc,n,hd⟩:=id ht;obtain⟨⟨xD,qV,data2,my⟩,jI,oA,n2,hd2⟩:=id hb;simp only at hc hd oA hd2;subst hc hd oA hd2;have e:vs.toArray++ws.toArray=(vs++ws).toArray:=by simp
 by_cases hw:ws=[]
 ·exact concat_meets ⟨_,ho,rfl⟩ ⟨_,jI,rfl⟩ jQ nt iW iD (hZ _ _)
   (tuple_addW1 t b vs.toArray ws.toArray n n2 dd qV sl my (by simpa using hv) (by simp[hw])) ⟨ho,jI,h1 hw⟩
 ·refine concat_meets ⟨_,ho,rfl⟩ ⟨_,jI,rfl⟩ jQ nt iW iD (hZ _ _)
   (tuple_addW2 t b vs.toArray ws.toArray n n2 dd qV sl my (by simpa using hv) (by simpa using hw) (by rw[aJ,aJ];exact hsz)) ⟨ho,jI,?_⟩
  rw[e];exact h2 hw
def dQ(n d:Nat):Option Int->Nat
 |none=>d
 |some v=>if v<0 then(v+(n:Int)).toNat else min v.toNat n
theorem Su(n d:Nat)(hd:d<=n)(o:Option Int):dQ n d o<=n:=by
 cases o with
 |none=>exact hd
 |some v =>
  show(if v<0 then(v+(n:Int)).toNat else min v.toNat n)<=n;by_cases hv:v<0
  ·rw[aH hv];omega
  ·rw[aE hv];exact Nat.min_le_right _ _
theorem LU(v:Int)(n d:Nat):(if v<0 then max (v+(n:Int)) 0 else min v (n:Int))=((dQ n d (some v):Nat):Int):=by
 show(if v<0 then max (v+(n:Int)) 0 else min v (n:Int))=(((if v<0 then(v+(n:Int)).toNat else min v.toNat n):Nat):Int);by_cases hv:v<0
 ·simp only[if_pos hv];omega
 ·simp only[if_neg hv];omega
theorem aY1(lo hi:Option Int)(n:Nat):Builtin.Slice.sliceAdjust lo hi 1 (n:Int)=(((dQ n 0 lo:Nat):Int),((dQ n n hi:Nat):Int)):=by
 have h1:¬((1:Int)<0):=by omega
 unfold Builtin.Slice.sliceAdjust;simp only[h1,if_false];refine Prod.ext ?_ ?_
 ·cases lo with
  |none=>rfl
  |some v=>exact LU v n 0
 ·cases hi with
  |none=>rfl
  |some v=>exact LU v n n
theorem aT5(i j:Nat):Builtin.Slice.slicePlaces (i:Int) (j:Int) 1=j-i:=by
 unfold Builtin.Slice.slicePlaces;have h1:(1:Int)>0:=by omega
 simp only[h1,if_true,Int.ediv_one];split<;>omega
theorem KY{v:Value}{o:Option Int}{Q:Option Int->Shared->Prop}(p:IsPart v o)(h:Q o s):wpAny (model prog w) A (Builtin.Slice.slicePartIndex v) Q E s:=by
 cases p with
 |none=>exact slicePart_none h
 |int i t=>exact slicePart_int h
theorem V9{sl:Addr}{vl vu:Value}{lo hi:Option Int}{n:Nat}{Q:Int×Int×Nat->Shared->Prop}(hs:s.heap.IsSliceOf sl vl vu .none)(pl:IsPart vl lo)(pu:IsPart vu hi)(h:Q (((dQ n 0 lo:Nat):Int),1,dQ n n hi-dQ n 0 lo) s):wpAny (model prog w) A (Builtin.Slice.sliceApplied (.ref sl) (pure (n:Int))) Q E s:=by
 obtain⟨os,sk,zp,wG⟩:=id hs;unfold Builtin.Slice.sliceApplied Builtin.Slice.sliceFields;refine ae (ae (lL sk wG (x:=vl) rfl (ae (lL sk wG (x:=vu) rfl (ae (lL sk wG (x:=.none) rfl (av ?_)))))));refine ae (slicePart_none ?_);show wpAny _ _ (if((1:Int)==0)=true then _ else _) _ _ s;rw[aE ∅];refine ae (KY pl (ae (KY pu (ae (av ?_)))));show wpAny _ _ (match Builtin.Slice.sliceAdjust lo hi 1 (n:Int) with|(lo,hi)=>pure (lo,(1:Int),Builtin.Slice.slicePlaces lo hi 1)) _ _ s;rw[aY1 lo hi n];show wpAny _ _ (pure (((dQ n 0 lo:Nat):Int),(1:Int),Builtin.Slice.slicePlaces ((dQ n 0 lo:Nat):Int) ((dQ n n hi:Nat):Int) 1)) _ _ s;rw[aT5];exact av h
theorem Wr(xs:Array Value)(i k:Nat):((List.range k).filterMap λ(m:Nat)=>xs[((i:Int)+(m:Int)*1).toNat]?).toArray=((xs.toList.drop i).take k).toArray:=by
 have e:(λ(m:Nat)=>xs[((i:Int)+(m:Int)*1).toNat]?)=λm=>xs[i+m]?:=by
  funext m
  have:((i:Int)+(m:Int)*1).toNat=i+m:=by omega
  rw[this]
 rw[e];have:=pick_run xs i k;rw[List.filterMap_map] at this;have e2:((λx=>xs[x]?) ∘ λx=>i+x)=λm=>xs[i+m]?:=rfl;rw[e2] at this;rw[this]
theorem am9{t sl:Addr}{items:Array Value}{vl vu:Value}{lo hi:Option Int}{Q:Value->Shared->Prop}(ht:IsTup s.heap t items)(hs:s.heap.IsSliceOf sl vl vu .none)(pl:IsPart vl lo)(pu:IsPart vu hi)(hw:¬(dQ items.size 0 lo=0/\dQ items.size items.size hi=items.size))(h:Q (.ref s.heap.objs.size) { s with heap:=s.heap.push { cls:=.type "tuple",data:=.seq ((items.toList.drop (dQ items.size 0 lo)).take (dQ items.size items.size hi-dQ items.size 0 lo)).toArray } })(hsz:items.size<=sizeLine):wpAny (model prog w) A (getItem (.ref t) (.ref sl)) Q E s:=by
 have mG:sizeOk (.seq ((items.toList.drop (dQ items.size 0 lo)).take (dQ items.size items.size hi-dQ items.size 0 lo)).toArray):=by
  show((items.toList.drop (dQ items.size 0 lo)).take (dQ items.size items.size hi-dQ items.size 0 lo)).toArray.size<=sizeLine;rw[aJ,cM,iG,bD];omega
 have hj:dQ items.size items.size hi<=items.size:=Su _ _ (az _) hi;obtain⟨os,sk,zp,wG⟩:=id hs;have CT:s.TypeIs (.ref sl) "slice":=⟨os,sk,zp⟩
 unfold getItem
 try with_reducible refine cI ?_
 first|refine ae (av ?_)|skip
 refine ae (wpAny_sequenceKey ht.typeIs ∅ ?_);refine ae (fI (name:=Str.ofString "__getitem__") ht.typeIs bS
  (dk bS ht.typeIs entry_tuple_getitem ?_ (args_tuple_getitem _ _)))
 show wpAny _ _ (Builtin.Tuple.tupleItemsOf (.ref t) >>= _) _ _ s;refine ae (tupleItemsOf_ ht ?_);refine ae (fR CT ?_);rw[aH ∅];refine ae (V9 hs pl pu ?_);have kf:¬((((dQ items.size 0 lo:Nat):Int)==0&&(1:Int)==1&&(dQ items.size items.size hi-dQ items.size 0 lo)==items.size)=true):=by
  intro q;rw[aP,aP] at q;have q1:((dQ items.size 0 lo:Nat):Int)=0:=eq_of_beq q.1.1;have q2:dQ items.size items.size hi-dQ items.size 0 lo=items.size:=eq_of_beq q.2;exact hw ⟨by omega,by omega⟩
 show wpAny _ _ (if(((dQ items.size 0 lo:Nat):Int)==0&&(1:Int)==1&&(dQ items.size items.size hi-dQ items.size 0 lo)==items.size)=true then _ else _) _ _ s;rw[aE kf,Wr]
 first
  |exact wpAny_bind (m:=Builtin.Tuple.tupleExact _) (wpAny_newObj_type (wpAny_pure ⟨_,rfl,wpAny_pure h⟩) mG)
  |exact wpAny_bind (m:=Builtin.Tuple.tupleExact _) (wpAny_newObj_type (wpAny_bind (wpAny_pure (wpAny_pure ⟨_,rfl,wpAny_pure h⟩))) mG)
  |exact wpAny_bind (wpAny_bind (m:=Builtin.Tuple.tupleExact _) (wpAny_newObj_type (wpAny_pure (wpAny_pure ⟨_,rfl,wpAny_pure h⟩)) mG))
  |exact wpAny_bind (wpAny_bind (m:=Builtin.Tuple.tupleExact _) (wpAny_newObj_type (wpAny_pure ⟨_,rfl,wpAny_pure h⟩) mG))
end
end HT
namespace L2
open PySem PySem.Spec PyProof.Rows
variable{X:Cx}{e:Expr}{pos:Pos}{n t':Nat}{α:Type}{a:Addr}{pins:List (Addr×Obj)}{Z:St}{H H':Hp}{s:Shared}{bo:List Value}{A:Around}{y x:V}{u:Value}{o:Option V}{w:World}{E:Value->Shared->Prop}{kvs:List (List Key×V)}{P:Program}
noncomputable abbrev TO:=St->Hp->(Option Int->Hp->Prop)->Prop
def PO(X:Cx)(e:Option Expr)(t:TO):Prop :=
 ∀(pins:List (Addr×Obj)) (s:Shared) (Z:St) (H:Hp) (Q:Option Int->Hp->Prop),Inv X pins Z H s->t Z H Q ->
  wpAny (model X.prog X.w) X.A (evalPart e X.env) (λu s'=>∃o H',Inv X pins Z H' s'/\IsPart u o/\Q o H') X.xe s
def Vn:TO:=λ_ H Q=>Q none H
def bJ8(t:TE):TO:=λZ H Q=>t Z H λx H1=>∃i,x=.int i/\Q (some i) H1
section
variable{te:TE}{lo hi:Option Expr}{tl th:TO}{p2:Pos}
theorem Al:PO X none Vn:=by
 intro pins s Z H Q I h;rw[evalPart_none];exact av ⟨none,H,I,.none,h⟩
theorem Am(h:PE X e te):PO X (some e) (bJ8 te):=by
 intro pins s Z H Q I hw;rw[evalPart_some];refine cO (h pins s Z H _ I hw) λu s1 bq=>?_;obtain⟨x,H1,I1,r1,q1⟩:=bq;obtain⟨i,rfl,q⟩:=q1;obtain⟨t,rfl⟩:=r1;exact⟨some i,H1,I1,.int i t,q⟩
def yw(X:Cx)(r:V->Option Int->Option Int->Hp->VK->Prop):Prop :=
 ∀(pins:List (Addr×Obj)) (s:Shared) (Z:St) (H:Hp) (x:V) (v vl vu:Value) (lo hi:Option Int) (sl:Addr) (Q:VK),Inv X pins Z H s->RelV x v->s.heap.IsSliceOf sl vl vu .none->IsPart vl lo->IsPart vu hi->r x lo hi H Q ->
  ∃T id,typeLookup (.type T) "__getitem__"=pure (some (.builtin id))/\s.TypeIs v T/\wpAny (model X.prog X.w) X.A (getItem v (.ref sl)) (EP X pins Z Q) X.xe s
def OI(r:V->Option Int->Option Int->Hp->VK->Prop)(te:TE)(tl th:TO):TE:=λZ H Q=>te Z H λx H1=>tl Z H1 λl H2=>th Z H2 λu H3=>r x l u H3 Q
theorem Az{r:V->Option Int->Option Int->Hp->VK->Prop}(hr:yw X r)(he:PE X e te)(hl:PO X lo tl)(hu:PO X hi th):PE X (.Subscript e (.Slice lo hi none p2) pos) (OI r te tl th):=by
 intro pins s Z H Q I h;refine Subscript_ (cO (he pins s Z H _ I h) λv s1 bq=>?_);obtain⟨x,H1,I1,r1,q1⟩:=bq;refine wpAny_Slice (cO (hl pins s1 Z H1 _ I1 q1) λvl s2 ⟨l,H2,I2,pl,q2⟩=>cO (hu pins s2 Z H2 _ I2 q2) λvu s3 bq=>?_);obtain⟨u,H3,I3,pu,q3⟩:=bq;rw[evalPart_none];refine av ?_;have I4:Inv X pins Z H3 { s3 with heap:=s3.heap.push { cls:=.type "slice",data:=.fields #[vl,vu,.none] } }:=I3.kept (t':=s3.toks) λb ob q=>au _ q;obtain⟨T,id,hT,ht,hg⟩:=hr pins { s3 with heap:=s3.heap.push { cls:=.type "slice",data:=.fields #[vl,vu,.none] } } Z H3 x v vl vu l u s3.heap.objs.size Q I4 r1 (Heap.IsSliceOf.new ..) pl pu q3;show wpAny (model X.prog X.w) X.A (subscriptTail e (.Slice lo hi none p2) v (.ref s3.heap.objs.size)) (EP X pins Z Q) X.xe { s3 with heap:=s3.heap.push { cls:=.type "slice",data:=.fields #[vl,vu,.none] } };exact tail_any (ops:=[.ref s3.heap.objs.size,v]) ht hT hg (by with_unfolding_all rfl)
def X3(xs:List V)(lo hi:Option Int):List V:=(xs.drop (HT.dQ xs.length 0 lo)).take (HT.dQ xs.length xs.length hi-HT.dQ xs.length 0 lo)
theorem La(xs:List V)(lo hi:Option Int):(X3 xs lo hi).length<=xs.length:=by
 unfold X3;rw[cM,iG];omega
def XU(K:PySem.W.Frag):V->Option Int->Option Int->Hp->VK->Prop:=λx lo hi H Q=>∃a xs,x=.ref a/\jo K H a xs /\
 ¬(HT.dQ xs.length 0 lo=0/\HT.dQ xs.length xs.length hi=xs.length)/\∀p,H p=none->Q (.ref p) (upd H p (.tup (X3 xs lo hi)))
theorem SK:yw X (XU X.K):=by
 intro pins s Z H x v vl vu lo hi sl Q I rx hs pl pu h;obtain⟨a,xs,rfl,hx,hw,q⟩:=h;cases rx;obtain⟨bo,r,ht,hz⟩:=I.tuple hx;have hlen:bo.toArray.size=xs.length:=by rw[aJ];exact r.length.symm
 refine⟨"tuple",_,bS.lookup,ht.typeIs,?_⟩;refine HT.am9 ht hs pl pu (by rw[hlen];exact hw) ?_ (by rw[hlen];exact hz);rw[hlen];refine⟨.ref s.heap.objs.size,_,I.laid (t':=s.toks) (o:=.tup (X3 xs lo hi)) (λb ob q=>au _ q) (az _) ?_,rfl,q _ (I.bZ.fresh (az _))⟩;exact⟨aG (La xs lo hi) hz,_,(r.drop (HT.dQ xs.length 0 lo)).take (HT.dQ xs.length xs.length hi-HT.dQ xs.length 0 lo),P4.new _ _⟩
def ZS(K:PySem.W.Frag):R2:=λx y H Q=>∃a b xs ys,x=.ref a/\y=.ref b/\jo K H a xs/\jo K H b ys/\xs≠[]/\xs.length+ys.length<=sizeLine /\
 (ys=[]->Q (.ref a) H)/\(ys≠[]->∀p,H p=none->Q (.ref p) (upd H p (.tup (xs++ys))))
theorem Vals.yd{xs:List V}{us:List Value}(r:Vals xs us):us=[]↔xs=[]:=by
 cases r with
 |nil=>simp
 |cons _ _=>simp
theorem Uu:fY X (binaryOp .Add) (ZS X.K):=by
 intro pins s Z H x y v u Q I rx ry h;obtain⟨a,b,xs,ys,rfl,rfl,ha,hb,hx,hz,q1,q2⟩:=h;cases rx;cases ry;obtain⟨bo,r1,p1,_⟩:=I.tuple ha;obtain⟨og,r2,p2,_⟩:=I.tuple hb;refine HT.TL p1 p2 (λz=>hx (r1.yd.mp z)) (λz=>⟨.ref a,H,I,rfl,q1 (r2.yd.mp z)⟩) (λz=>?_) (by rw[<- r1.length,<- r2.length];exact hz);refine⟨.ref s.heap.objs.size,_,I.laid (t':=s.toks) (o:=.tup (xs++ys)) (λb ob q=>au _ q) (az _) ?_,rfl,q2 (λw=>z (r2.yd.mpr w)) _ (I.bZ.fresh (az _))⟩;exact⟨by rw[bj];exact hz,_,r1.append r2,P4.new _ _⟩
end
def lq(n:Nat)(i:Int):Option Nat:=if 0<=i then(if i<n then some i.toNat else none) else if -(n:Int)<=i then some (i+n).toNat else none
def gh{α:Type}(xs:List α)(i:Int):Option α:=(lq xs.length i).bind λj=>xs[j]?
theorem Mc{i:Int}{j:Nat}(h:lq n i=some j):seqIndex? i n=some j/\j<n/\-(n:Int)<=i/\i<n:=by
 unfold lq at h;by_cases h0:0<=i
 ·rw[aH h0] at h;by_cases h1:i<n
  ·rw[aH h1] at h;have e:i.toNat=j:=aR h;exact⟨by rw[seqIndex_of h0 h1,e],by omega,by omega,h1⟩
  ·rw[aE h1] at h;cases h
 ·rw[aE h0] at h;by_cases h1:-(n:Int)<=i
  ·rw[aH h1] at h;have e:(i+n).toNat=j:=aR h;exact⟨by rw[seqIndex_neg () h1,e],by omega,h1,by omega⟩
  ·rw[aE h1] at h;cases h
theorem Ew{xs:List α}{i:Int}{v:α}(h:gh xs i=some v):∃j,seqIndex? i xs.length=some j/\xs[j]?=some v/\j<xs.length/\-(xs.length:Int)<=i/\i<xs.length:=by
 unfold gh at h;cases e:lq xs.length i with
 |none=>rw[e] at h;cases h
 |some j =>
  rw[e] at h;obtain⟨h1,h2,h3,h4⟩:=Mc e;exact⟨j,h1,h,h2,h3,h4⟩
theorem B4{xs:List α}{j:Nat}{v:α}(h:xs[j]?=some v):gh xs (j:Int)=some v:=by
 have hj:j<xs.length:=(ak.mp h).1;have e:lq xs.length (j:Int)=some j:=by
  unfold lq;rw[aH (),aH ()];simp
 unfold gh;rw[e];exact h
def Er(b:Expr):Prop:=∀o i,subscripted b false o i=operate [o,i] (getItem o i)
def tW(X:Cx)(r:R2):Prop :=
 ∀(value slice:Expr) (pins:List (Addr×Obj)) (s:Shared) (Z:St) (H:Hp) (x y:V) (v u:Value) (Q:VK),Inv X pins Z H s->RelV x v->RelV y u->r x y H Q ->
  subscripted slice false v u=operate [v,u] (getItem v u)->wpAny (model X.prog X.w) X.A (subscriptTail value slice v u) (EP X pins Z Q) X.xe s
def mP(X:Cx)(id:String)(r:V->List V->Hp->VK->Prop):Prop :=
 ∀(pins:List (Addr×Obj)) (s:Shared) (Z:St) (H:Hp) (x:V) (xs:List V) (v:Value) (us:List Value) (Q:VK),Inv X pins Z H s->RelV x v->Vals xs us->r x xs H Q ->
  wpAny (model X.prog X.w) X.A (call (.builtin id) (v::us)) (EP X pins Z Q) X.xe s
section
variable{a b:Expr}{ta tb:TE}
theorem JO{r:R2}(hr:tW X r)(ha:PE X a ta)(hb:PE X b tb)(hs:Er b):PE X (.Subscript a b pos) (uc r ta tb):=by
 intro pins s Z H Q I h;exact Subscript_ (Ee ha hb I h λv u s2 x y H2 I2 rx ry q=>hr a b pins s2 Z H2 x y v u Q I2 rx ry q (hs _ _))
def XN(K:PySem.W.Frag):R2:=λx y H Q=>∃p xs i v,x=.ref p/\y=.int i/\fO K H p xs/\gh xs i=some v/\Q v H
def XQ(K:PySem.W.Frag):R2:=λx y H Q=>∃p xs i v,x=.ref p/\y=.int i/\jo K H p xs/\gh xs i=some v/\Q v H
def XO:R2:=λx y H Q=>∃z i c,x=.str z/\y=.int i/\z.length<=sizeLine/\gh z.cps.toList i=some c/\Q (.str ⟨#[c]⟩) H
theorem Ui:tW X (XN X.K):=by
 intro value slice pins s Z H x y v u Q I rx ry h hs;obtain⟨p,xs,i,z,rfl,rfl,hq,he,q⟩:=h;cases rx;obtain⟨t,rfl⟩:=ry;obtain⟨bo,r,pl,hz⟩:=I.list hq;obtain⟨j,h1,h2,h3,h4,h5⟩:=Ew he;obtain⟨w,ew,fX⟩:=r.get h2;have hl:=r.length;have hn:=W8;have fin:EP X pins Z Q w s:=⟨z,H,I,fX,q⟩
 by_cases h0:0<=i
 ·have hj:i.toNat=j:=by
   rw[seqIndex_of h0 h5] at h1;exact aR h1
  exact item_listR pl.isList h0 () (by rw[hj];simpa using ew) fin hs
 ·have hj:(i+(bo.toArray.size:Int)).toNat=j:=by
   rw[seqIndex_neg () h4] at h1;rw[aJ,<- hl];exact aR h1
  exact subscriptTail_builtinR (x:=w) pl.isList.typeIs slot_list_getitem.lookup
   (wpAny_getItem_list_neg (Q:=λr s'=>r=w/\EP X pins Z Q r s') pl.isList () (by rw[aJ]<;>omega) () (by rw[hj];simpa using ew) ⟨rfl,fin⟩) hs
theorem bF4:tW X (XQ X.K):=by
 intro value slice pins s Z H x y v u Q I rx ry h hs;obtain⟨p,xs,i,z,rfl,rfl,hq,he,q⟩:=h;cases rx;obtain⟨t,rfl⟩:=ry;obtain⟨bo,r,pl,hz⟩:=I.tuple hq;obtain⟨j,h1,h2,h3,h4,h5⟩:=Ew he;obtain⟨w,ew,fX⟩:=r.get h2;have hl:=r.length;have hn:=W8;have fin:EP X pins Z Q w s:=⟨z,H,I,fX,q⟩
 exact subscriptTail_builtinR (x:=w) pl.typeIs slot_tuple_getitem.lookup
  (getItem_tuple (j:=j) (Q:=λr s'=>r=w/\EP X pins Z Q r s') pl () () (by rw[aJ,<- hl];exact h1) (by simpa using ew) ⟨rfl,fin⟩) hs
theorem bF5:tW X XO:=by
 intro value slice pins s Z H x y v u Q I rx ry h hs;obtain⟨z,i,c,rfl,rfl,hz,he,q⟩:=h;obtain⟨t,rfl⟩:=rx;obtain⟨t',rfl⟩:=ry;obtain⟨j,h1,h2,h3,h4,h5⟩:=Ew he;have hl:z.cps.toList.length=z.length:=by simp[Str.length]
 rw[hl] at h1 h4 h5;have hn:=W8;exact tail_any (typeIs_str s z t) slot_str_getitem.lookup (getItem_str (c:=c) (by
  have e1:decide (i < -(2 ^ 63:Int))=false:=aB ();have e2:decide (i>=2 ^ 63)=false:=aB ();rw [e1,e2,Bool.or_false]) (by rw [h1];simpa using h2) ⟨.str ⟨#[c]⟩,H,I.tok _,⟨_,rfl⟩,q⟩) hs
theorem aU8(bo:List Value)(n j:Nat)(u:Value):Obj.mapSeq (·.setIfInBounds j u) { cls:=.type "list",data:=.seq bo.toArray n }={ cls:=.type "list",data:=.seq (bo.set j u).toArray n }:=by
 simp[Obj.mapSeq]
theorem Inv.lst{pins:List (Addr×Obj)}{Z:St}{H:Hp}{s:Shared}{p:Addr}{xs:List V}(I:Inv X pins Z H s)(h:H p=some (.lst xs)) :
  ∃(bo:List Value) (n:Nat),Vals xs bo/\s.heap.get? p=some { cls:=.type "list",data:=.seq bo.toArray n }/\xs.length<=sizeLine:=by
 obtain⟨z,bo,n,r,e⟩:=I.bZ p _ h;exact⟨bo,n,r,e,z⟩
theorem Inv.bE3{p:Addr}{xs ys:List V}{its':List Value}{n':Nat}{f:Obj->Obj}(I:Inv X pins Z H s)(h:H p=some (.lst xs))(ho:s.heap.get? p=some { cls:=.type "list",data:=.seq bo.toArray n })(hf:f { cls:=.type "list",data:=.seq bo.toArray n }={ cls:=.type "list",data:=.seq its'.toArray n' })(r:Vals ys its')(hz:ys.length<=sizeLine)(t:Nat) :
  Inv X pins Z (upd H p (.lst ys)) { s with heap:=s.heap.update p f,toks:=t }:=by
 have e:(s.heap.update p f).get? p=some { cls:=.type "list",data:=.seq its'.toArray n' }:=by
  rw[bw f ho (by rw[hf]<;>rfl),hf]
 refine I.write (x:=p) (e:=p) (by rw[h];trivial) (.inl rfl) (λb u hb q=>(dj _ _ (bT hb)).trans q) ⟨_,e⟩ ?_;exact⟨hz,its',n',r,e⟩
def ZU:V->V->V->Hp->(Hp->Prop)->Prop:=λo i v H Q=>∃p xs k j,o=.ref p/\i=.int k/\H p=some (.lst xs)/\lq xs.length k=some j/\Q (upd H p (.lst (xs.set j v)))
theorem set_list:Ea X ZU:=by
 intro pins s Z H o i v ov iv u Q I ro ri rv h;obtain⟨p,xs,k,j,rfl,rfl,hp,hj,q⟩:=h;cases ro;obtain⟨t,rfl⟩:=ri;obtain⟨bo,n,r,ho,hz⟩:=I.lst hp;obtain⟨h1,h2,h3,h4⟩:=Mc hj;have hl:=r.length;have hn:=W8;have I':Inv X pins Z (upd H p (.lst (xs.set j v))) { s with heap:=s.heap.update p (Obj.mapSeq (·.setIfInBounds j u)) } :=
  I.bE3 hp ho (aU8 bo n j u) (r.set rv j) (by rw[jk];exact hz) s.toks
 by_cases h0:0<=k
 ·have hk:k.toNat=j:=by
   rw[seqIndex_of h0 h4] at h1;exact aR h1
  exact PySem.W.ki_setAt ho h0 () (by rw[aJ,<- hl];exact h4) (by rw[hk];exact⟨_,I',q⟩)
 ·have hk:(k+(bo.toArray.size:Int)).toNat=j:=by
   rw[seqIndex_neg () h3] at h1;rw[aJ,<- hl];exact aR h1
  exact PySem.W.ki_setBack ho () (by rw[aJ,<- hl];exact h3) () (by rw[hk];exact⟨_,I',q⟩)
theorem aF9(lo hi:Option Int)(n:Nat):(sliceBounds lo hi none n).1=((HT.dQ n 0 lo:Nat):Int)/\(sliceBounds lo hi none n).2.1=((HT.dQ n n hi:Nat):Int)/\(sliceBounds lo hi none n).2.2=1:=by
 refine⟨?_,?_,rfl⟩
 ·cases lo with
  |none=>simp[sliceBounds,HT.dQ]
  |some i =>
   simp only[sliceBounds,HT.dQ,Option.getD_none,show(1:Int)>0 by decide,if_true];by_cases h:i<0
   ·simp only[h,if_true]<;>omega
   ·simp only[h,if_false]<;>omega
 ·cases hi with
  |none=>simp[sliceBounds,HT.dQ]
  |some i =>
   simp only[sliceBounds,HT.dQ,Option.getD_none,show(1:Int)>0 by decide,if_true];by_cases h:i<0
   ·simp only[h,if_true]<;>omega
   ·simp only[h,if_false]<;>omega
theorem aB3(bo:List Value)(lo hi:Option Int):slicePick bo.toArray lo hi none=((bo.drop (HT.dQ bo.length 0 lo)).take (HT.dQ bo.length bo.length hi-HT.dQ bo.length 0 lo)).toArray:=by
 obtain⟨h1,h2,h3⟩:=aF9 lo hi bo.toArray.size;unfold slicePick;rw[h1,h2,h3];simp only[sliceRange_one,pick_run,List.size_toArray]<;>rfl
def XT(K:PySem.W.Frag):V->Option Int->Option Int->Hp->VK->Prop:=λx lo hi H Q=>∃a xs,x=.ref a/\fO K H a xs/\∀p,H p=none->Q (.ref p) (upd H p (.lst (X3 xs lo hi)))
theorem Vg:yw X (XT X.K):=by
 intro pins s Z H x v vl vu lo hi sl Q I rx hs pl pu h;obtain⟨a,xs,rfl,hx,q⟩:=h;cases rx;obtain⟨bo,r,ht,hz⟩:=I.list hx;have hlen:=r.length;refine⟨"list",_,slot_list_getitem.lookup,ht.isList.typeIs,?_⟩;refine wpAny_getItem_list_slice ht.isList hs pl pu .none (by simp) ?_ (by rw[aJ]<;>omega);rw[aB3,<- hlen];refine⟨.ref s.heap.objs.size,_,I.laid (t':=s.toks) (o:=.lst (X3 xs lo hi)) (λb ob q=>au _ q) (az _) ?_,rfl,q _ (I.bZ.fresh (az _))⟩;exact⟨aG (La xs lo hi) hz,_,0,(r.drop (HT.dQ xs.length 0 lo)).take (HT.dQ xs.length xs.length hi-HT.dQ xs.length 0 lo),aI _ rfl⟩
def O8:V->Bool
 |.br=>true
 |.bl _=>true
 |.int _=>true
 |.str _=>true
 |_=>false
def pz:V->V->Bool
 |.br,.br=>true
 |.bl a,.bl b=>a==b
 |.bl a,.int b=>(if a then 1 else 0)==b
 |.int a,.bl b=>a==(if b then 1 else 0)
 |.int a,.int b=>a==b
 |.str a,.str b=>a==b
 |_,_=>false
theorem bG8{v:Value}(ry:RelV y u)(rx:RelV x v)(fy:O8 y=true)(fx:O8 x=true):SeqAt.EqAt A s u v (pz y x):=by
 cases y with
 |br =>
  cases ry;cases x with
  |br=>cases rx;exact SeqAt.EqAt.same _
  |bl b=>cases rx;exact SeqAt.EqAt.none_bool b
  |int b=>obtain⟨t,rfl⟩:=rx;exact SeqAt.EqAt.none_int b t
  |str b=>obtain⟨t,rfl⟩:=rx;exact SeqAt.EqAt.none_str b t
  |_=>exact absurd (show false=true from fx) Bool.false_ne_true
 |bl a =>
  cases ry;cases x with
  |br=>cases rx;exact SeqAt.EqAt.bool_none a
  |bl b=>cases rx;exact SeqAt.EqAt.bool_bool a b
  |int b=>obtain⟨t,rfl⟩:=rx;exact SeqAt.EqAt.bool_int a b t
  |str b=>obtain⟨t,rfl⟩:=rx;exact SeqAt.EqAt.bool_str a b t
  |_=>exact absurd (show false=true from fx) Bool.false_ne_true
 |int a =>
  obtain⟨t',rfl⟩:=ry;cases x with
  |br=>cases rx;exact SeqAt.EqAt.int_none a t'
  |bl b=>cases rx;exact SeqAt.EqAt.int_bool a t' b
  |int b=>obtain⟨t,rfl⟩:=rx;exact SeqAt.EqAt.int_int a t' b t
  |str b=>obtain⟨t,rfl⟩:=rx;exact SeqAt.EqAt.int_str a t' b t
  |_=>exact absurd (show false=true from fx) Bool.false_ne_true
 |str a =>
  obtain⟨t',rfl⟩:=ry;cases x with
  |br=>cases rx;exact SeqAt.EqAt.str_none a t'
  |bl b=>cases rx;exact SeqAt.EqAt.str_bool a t' b
  |int b=>obtain⟨t,rfl⟩:=rx;exact SeqAt.EqAt.str_int a t' b t
  |str b=>obtain⟨t,rfl⟩:=rx;exact SeqAt.EqAt.str_str a t' b t
  |_=>exact absurd (show false=true from fx) Bool.false_ne_true
 |_=>exact absurd (show false=true from fy) cx
def xl(x:V)(u:Value):Bool:=match u with
 |.none=>pz .br x
 |.bool b=>pz (.bl b) x
 |.int i _=>pz (.int i) x
 |.str z _=>pz (.str z) x
 |_=>false
theorem Gx(r:RelV y u)(f:O8 y=true):xl x u=pz y x:=by
 cases y with
 |br=>cases r;rfl
 |bl b=>cases r;rfl
 |int i=>obtain⟨t,rfl⟩:=r;rfl
 |str z=>obtain⟨t,rfl⟩:=r;rfl
 |_=>exact absurd (show false=true from f) cx
theorem MP{A:Around}{s:Shared}{x:V}{v:Value}(rx:RelV x v)(fx:O8 x=true):∀{xs:List V} {us:List Value},Vals xs us->xs.all O8=true->∀u∈us,SeqAt.EqAt A s u v (xl x u)
 |_,_,.nil,_=>λu hu=>by cases hu
 |y::xs,u::us,.cons r t,f=>λu' hu=>by
  rw[kI,aP] at f;rcases aL.mp hu with rfl|hu
  ·rw[Gx r f.1];exact bG8 r rx f.1 fx
  ·exact MP rx fx t f.2 u' hu
theorem aK5:q9 X (.builtin "len") (λxs H Q=>∃p ys,xs=[.ref p]/\(fO X.K H p ys\/jo X.K H p ys)/\Q (.int ys.length) H):=by
 intro pins s Z H xs us Q I r h;obtain⟨p,ys,rfl,hq,q⟩:=h;obtain⟨u,rfl,rx⟩:=vals1 r;cases rx;have hn:=W8;rcases hq with hq|hq
 ·obtain⟨bo,r',pl,hz⟩:=I.list hq;have hlen:=r'.length;exact Calls.call_len_list pl.isList (by simp only[List.size_toArray]<;>omega) ⟨.int ys.length,H,I.tok _,⟨s.toks+1,by rw[aJ,hlen]⟩,q⟩
 ·obtain⟨bo,r',pl,hz⟩:=I.tuple hq;have hlen:=r'.length;exact len_tuple pl (by simp only[List.size_toArray]<;>omega) ⟨.int ys.length,H,I.tok _,⟨s.toks+1,by rw[aJ,hlen]⟩,q⟩
theorem aK4:q9 X (.builtin "len") (λxs H Q=>∃z,xs=[.str z]/\z.length<=sizeLine/\Q (.int z.length) H):=by
 intro pins s Z H xs us Q I r h;obtain⟨z,rfl,hz,q⟩:=h;obtain⟨u,rfl,t,rfl⟩:=vals1 r;have hn:=W8;exact len_str () ⟨.int z.length,H,I.tok _,⟨_,rfl⟩,q⟩
theorem aK3:q9 X (.type "list") (λxs H Q=>∃p ys,xs=[.ref p]/\(fO X.K H p ys\/jo X.K H p ys)/\∀l,H l=none->Q (.ref l) (upd H l (.lst ys))):=by
 intro pins s Z H xs us Q I r h;obtain⟨p,ys,rfl,hq,q⟩:=h;obtain⟨u,rfl,rx⟩:=vals1 r;cases rx;have fin:∀(bo:List Value),Vals ys bo->ys.length<=sizeLine->∀(h':Heap) (c':Nat),(∀b o',s.heap.get? b=some o'->h'.get? b=some o') ->
   h'.get? s.heap.objs.size=some { cls:=.type "list",dict:=none,data:=.seq bo.toArray c',slots:=#[] }->EP X pins Z Q (.ref s.heap.objs.size) { s with heap:=h' }:=λbo r' hz h' c' kp e =>
  ⟨.ref s.heap.objs.size,_,I.laid (t':=s.toks) kp (az _) (show t8 X.prog X.w _ h' _ (.lst ys) from⟨hz,bo,c',r',e⟩),rfl,q _ (I.bZ.fresh (az _))⟩
 rcases hq with hq|hq
 ·obtain⟨bo,r',pl,hz⟩:=I.list hq;have hlen:=r'.length;obtain⟨o,ho,hc,n,hd⟩:=pl.isList;exact call_list_seq p (.inl rfl) ho hc hd (λh' c' kp e=>fin bo r' hz h' c' kp e) (by simp only[List.size_toArray]<;>omega)
 ·obtain⟨bo,r',pl,hz⟩:=I.tuple hq;have hlen:=r'.length;obtain⟨o,ho,hc,n,hd⟩:=pl;exact call_list_seq p (.inr rfl) ho hc hd (λh' c' kp e=>fin bo r' hz h' c' kp e) (by simp only[List.size_toArray]<;>omega)
theorem aC0:q9 X (.type "tuple") (λxs H Q=>∃p ys,xs=[.ref p]/\((fO X.K H p ys/\∀l,H l=none->Q (.ref l) (upd H l (.tup ys)))\/(jo X.K H p ys/\Q (.ref p) H))):=by
 intro pins s Z H xs us Q I r h;obtain⟨p,ys,rfl,h⟩:=h;obtain⟨u,rfl,rx⟩:=vals1 r;cases rx;rcases h with⟨hq,q⟩|⟨hq,q⟩
 ·obtain⟨bo,r',pl,hz⟩:=I.list hq;have hlen:=r'.length;refine call_tuple_list pl.isList (λh' kp=>?_) (by simp only[List.size_toArray]<;>omega);have I1:Inv X pins Z H { s with heap:=h' }:=I.kept (t':=s.toks) kp;have I2:Inv X pins Z (upd H h'.objs.size (.tup ys)) { s with heap:=h'.push { cls:=.type "tuple",data:=.seq bo.toArray } } :=
   I1.laid (t':=s.toks) (λb o e=>au _ e) (az _) (show t8 X.prog X.w _ _ _ (.tup ys) from⟨hz,bo,r',P4.new _ _⟩)
  exact⟨.ref h'.objs.size,_,I2,rfl,q _ (I1.bZ.fresh (az _))⟩
 ·obtain⟨bo,r',pl,hz⟩:=I.tuple hq;exact call_tuple_same pl ⟨.ref p,H,I,rfl,q⟩
def oU(K:PySem.W.Frag)(T:String)(x:V)(H:Hp):Prop:=match x with
 |.str _=>T="str"
 |.int _=>T="int"
 |.ref p=>(T="list"/\∃xs,fO K H p xs)\/(T="tuple"/\∃o,K.lookup p=some o/\o.cls=.type "tuple"/\o.dict=none) \/
   (T="dict"/\((∃kvs,H p=some (.dK kvs))\/∃kvs,H p=some (.dT kvs)))\/(T="set"/\∃S n,H p=some (.set S n))
 |_=>False
theorem LL{T:String}{v:Value}(I:Inv X pins Z H s)(r:RelV x v)(ty:oU X.K T x H) :
  s.TypeIs v T/\∀a,v=.ref a->∃ob,s.heap.get? a=some ob/\ob.dict=none:=by
 cases x with
 |str z =>
  obtain⟨t,rfl⟩:=r;cases (show T="str" from ty);exact⟨typeIs_str s z t,λ_ e=>nomatch e⟩
 |int i =>
  obtain⟨t,rfl⟩:=r;cases (show T="int" from ty);exact⟨typeIs_int s i t,λ_ e=>nomatch e⟩
 |ref p =>
  cases r;rcases ty with⟨rfl,xs,hq⟩|⟨rfl,o,hk,hc,hd⟩|⟨rfl,hk⟩|⟨rfl,S,n,hk⟩
  ·obtain⟨bo,_,pl,_⟩:=I.list hq;refine⟨pl.isList.typeIs,λa e=>?_⟩;cases e;obtain⟨o,n,e,c,hd,_⟩:=pl;exact⟨o,e,hd⟩
  ·refine⟨⟨o,I.hJ p o hk,hc⟩,λa e=>?_⟩;cases e;exact⟨o,I.hJ _ o hk,hd⟩
  ·have z:∃o,s.heap.get? p=some o/\o.ExactDict:=by
    rcases hk with⟨kvs,hk⟩|⟨kvs,hk⟩
    ·obtain⟨_,_,_,_,o,_,_,e,ex,_⟩:=I.bZ p _ hk;exact⟨o,e,ex⟩
    ·obtain⟨_,_,_,_,o,_,_,e,ex,_⟩:=I.bZ p _ hk;exact⟨o,e,ex⟩
   obtain⟨o,e,ex⟩:=z;refine⟨⟨o,e,ex.1⟩,λa e2=>?_⟩;cases e2;exact⟨o,e,ex.2.1⟩
  ·obtain⟨o,_,_,_,e,ex,_⟩:=I.bZ p _ hk;refine⟨⟨o,e,ex.1⟩,λa e2=>?_⟩;cases e2;exact⟨o,e,ex.2.1⟩
 |_=>exact False.elim ty
def Yf(K:PySem.W.Frag)(T:String)(r:V->List V->Hp->VK->Prop)(to:TE):TE:=λZ H Q=>to Z H λx H1=>oU K T x H1/\r x [] H1 Q
def OL(K:PySem.W.Frag)(T:String)(r:V->List V->Hp->VK->Prop)(to:TE)(t:TA):TE:=λZ H Q=>to Z H λx H1=>oU K T x H1/\t Z H1 λxs H2=>r x xs H2 Q
variable{o:Expr}{es:List Expr}{to:TE}{t:TA}{name:Str}{apos eT:Pos}{T id:String}{r:V->List V->Hp->VK->Prop}
theorem bB9(pa:PlainAttrs T)(slot:Slot T name id)(ke:typeOf (.builtin id)=pure (.type "method_descriptor"))(hm:mP X id r)(ho:PE X o to)(gy:attributeBase o name X.env (eval o X.env)=eval o X.env:=by rfl)(gx:(apos.endLine==eT.line)=true:=by rfl):PE X (.Call (.Attribute o name apos) [] [] eT) (Yf X.K T r to):=by
 intro pins s Z H Q I h;refine wpAny_Call_method0_late gy gx (cO (ho pins s Z H _ I h) λv s1 bq=>?_);obtain⟨x,H1,I1,r1,ty,q1⟩:=bq;obtain⟨h1,h2⟩:=LL I1 r1 ty;exact⟨T,id,pa,slot,ke,h1,h2,ko rfl (PySem.evalArgs_none (hm pins s1 Z H1 x [] v [] Q I1 r1 .nil q1))⟩
theorem ZJ(pa:PlainAttrs T)(slot:Slot T name id)(ke:typeOf (.builtin id)=pure (.type "method_descriptor"))(hm:mP X id r)(ho:PE X o to)(ha:PA X (e::es) t)(gy:attributeBase o name X.env (eval o X.env)=eval o X.env:=by rfl)(mf:((backTo eT (starEach (e :: es) X.env)).all (λx=>!x.1) && (backToKw eT (keywordEach [] X.env)).all (λx=>x.1.isSome)
   && decide ((e :: es).length + ([]:List Keyword).length + (if ([]:List Keyword).isEmpty then 0 else 1) < 30))=true:=by rfl)(gx:(apos.endLine==eT.line)=true:=by rfl)(hs:starEach (e::es) X.env=(false,eval e X.env)::starEach es X.env:=by rfl)(fm:(backTo eT (starEach es X.env)).any (·.1)=false:=by rfl) :
  PE X (.Call (.Attribute o name apos) (e::es) [] eT) (OL X.K T r to t):=by
 intro pins s Z H Q I h;refine wpAny_Call_method_late gy mf gx rfl (cO (ho pins s Z H _ I h) λv s1 bq=>?_);obtain⟨x,H1,I1,r1,ty,q1⟩:=bq;obtain⟨h1,h2⟩:=LL I1 r1 ty;refine⟨T,id,pa,slot,ke,h1,h2,?_⟩;have hA:=ha eT pins s1 Z H1 _ I1 q1;rw[hs] at hA ⊢;refine ko (by show(false||(backTo eT (starEach es X.env)).any (·.1))=false;rw[fm]<;>rfl) (lP ?_);exact cO hA λus s2 ⟨vs,H2,I2,r2,q2⟩=>hm pins s2 Z H2 x vs v us Q I2 r1 r2 q2
end
def AZ(X:Cx)(id:String)(r:V->List V->Hp->VK->Prop):Prop :=
 ∀(pins:List (Addr×Obj)) (s:Shared) (Z:St) (H:Hp) (x:V) (xs:List V) (v:Value) (us:List Value) (Q:VK),Inv X pins Z H s->RelV x v->Vals xs us->r x xs H Q ->
  wpAny (model X.prog X.w) X.A (call (.builtin id) (v::us)) (EP X pins Z Q) X.xe s
theorem Vals.one{us:List Value}(h:Vals [x] us):∃u,us=[u]/\RelV x u:=by
 cases h with
 |cons r h =>
  cases h;exact⟨_,rfl,r⟩
theorem Vals.zero:∀{us:List Value},Vals [] us->us=[]
 |_,.nil=>rfl
theorem Vals.dropLast{xs:List V}{us:List Value}(h:Vals xs us):Vals xs.dropLast us.dropLast:=by
 induction h with
 |nil=>exact .nil
 |cons r t ih =>
  cases t with
  |nil=>exact .nil
  |cons q t'=>exact .cons r ih
theorem Vals.eraseIdx:∀{xs:List V} {us:List Value} (i:Nat),Vals xs us->Vals (xs.eraseIdx i) (us.eraseIdx i)
 |_,_,_,.nil=>.nil
 |_,_,0,.cons _ t=>t
 |_,_,i+1,.cons r t=>.cons r (Vals.eraseIdx i t)
theorem Vals.reverse{xs:List V}{us:List Value}(h:Vals xs us):Vals xs.reverse us.reverse:=by
 induction h with
 |nil=>exact .nil
 |cons r t ih=>rw[gW,gW];exact Vals.append ih (.cons r .nil)
theorem aW4(l:List α):l.eraseIdx (l.length-1)=l.dropLast:=by
 induction l with
 |nil=>rfl
 |cons a r ih =>
  cases r with
  |nil=>rfl
  |cons b r =>
   have e:(a::b::r).length-1=((b::r).length-1)+1:=by
    have h1:(a::b::r).length=r.length+2:=rfl;have h2:(b::r).length=r.length+1:=rfl;omega
   rw[e,List.eraseIdx_cons_succ,ih]
   all_goals rfl
theorem Kk{α:Type}:∀(l:List α) (i:Nat),(l.eraseIdx i).length<=l.length
 |[],_=>az _
 |_::_,0=>gU _
 |_::r,i+1=>Nat.succ_le_succ (Kk r i)
section
variable{l:Addr}{xs ys:List V}
theorem Inv.pH{its':List Value}{f:Array Value->Array Value}{t':Nat}(I:Inv X pins Z H s)(hH:H l=some (.lst xs))(e:s.heap.get? l=some { cls:=.type "list",data:=.seq bo.toArray n })(hf:f bo.toArray=its'.toArray)(hv:Vals ys its')(hz:ys.length<=sizeLine) :
  Inv X pins Z (upd H l (.lst ys)) { s with heap:=s.heap.update l (Obj.mapSeq f),toks:=t' }:=by
 have q:=PySem.IsL.update e f;rw[hf] at q;refine I.write (x:=l) (e:=l) (by rw[hH];exact trivial) (.inl rfl) (λb' u hb hu=>(dj s.heap (Obj.mapSeq f) (bT hb)).trans hu) ⟨_,q⟩ ?_;exact⟨hz,its',_,hv,q⟩
theorem Inv.Xx{t':Nat}(I:Inv X pins Z H s)(hv:Vals ys bo)(hz:ys.length<=sizeLine) :
  Inv X pins Z (upd H s.heap.objs.size (.lst ys)) { s with heap:=s.heap.push { cls:=.type "list",data:=.seq bo.toArray },toks:=t' } :=
 I.laid (λ_ _ q=>au _ q) (az _) ⟨hz,bo,0,hv,aI _ rfl⟩
theorem Inv.fresh(I:Inv X pins Z H s):H s.heap.objs.size=none:=I.bZ.fresh (az _)
theorem Inv.uL(I:Inv X pins Z H s)(hH:H l=some (.lst xs)):xs.length<=sizeLine/\∃(bo:List Value) (n:Nat),Vals xs bo/\xs.length=bo.length/\s.heap.get? l=some { cls:=.type "list",data:=.seq bo.toArray n }:=by
 obtain⟨z,bo,n,r,e⟩:=I.bZ l _ hH;exact⟨z,bo,n,r,r.length,e⟩
end
def UQ:V->List V->Hp->VK->Prop:=λx vs H Q=>∃l xs y,x=.ref l/\vs=[y]/\H l=some (.lst xs)/\xs.length<sizeLine/\Q .br (upd H l (.lst (xs++[y])))
theorem a42:AZ X "list.append" UQ:=by
 intro pins s Z H x vs v us Q I rx rv h;obtain⟨l,xs,y,rfl,rfl,hH,hz,q⟩:=h;cases rx;obtain⟨u,rfl,ru⟩:=rv.one;obtain⟨z,bo,n,r,hl,e⟩:=I.uL hH;refine fG F.slot_list_append ⟨_,e,rfl⟩ F.entry_list_append (F.args_list_append_2 _ _) (PySem.list_append l bo.toArray n u (by rw[aJ];omega)) ⟨e,?_⟩;refine⟨.br,_,I.pH (its':=bo++[u]) hH e (by simp) (r.append (.cons ru .nil)) ?_,rfl,q⟩;rw[bj,jv];omega
def XR:V->List V->Hp->VK->Prop:=λx vs H Q=>∃l xs y,x=.ref l/\vs=[]/\H l=some (.lst xs)/\xs[xs.length-1]?=some y/\Q y (upd H l (.lst xs.dropLast))
theorem bD7:AZ X "list.pop" XR:=by
 intro pins s Z H x vs v us Q I rx rv h;obtain⟨l,xs,y,rfl,rfl,hH,hy,q⟩:=h;cases rx;have BZ:=rv.zero;subst BZ;obtain⟨z,bo,n,r,hl,e⟩:=I.uL hH;obtain⟨u,hu,ru⟩:=r.get hy;have BX:bo.toArray[bo.toArray.size-1]?=some u:=by
  show bo.toArray[bo.length-1]?=some u;rw[<- fJ,<- hl];exact hu
 refine fG F.slot_list_pop ⟨_,e,rfl⟩ F.entry_list_pop (F.args_list_pop_1 _) (MeetsSeq.list_pop_last l bo.toArray n u BX (by rw[aJ];omega)) ⟨e,?_⟩;refine⟨y,_,I.pH (its':=bo.dropLast) hH e ?_ r.dropLast ?_,ru,q⟩
 ·show bo.toArray.eraseIdxIfInBounds (bo.toArray.size-1)=bo.dropLast.toArray;rw[aJ,mr,aW4]
 ·rw[List.length_dropLast];omega
def Ss:V->List V->Hp->VK->Prop:=λx vs H Q=>∃l xs i k y,x=.ref l/\vs=[.int i]/\H l=some (.lst xs)/\-(2 ^ 63)<=i/\i<2 ^ 63/\seqIndex? i xs.length=some k/\xs[k]?=some y/\Q y (upd H l (.lst (xs.eraseIdx k)))
theorem Wb:AZ X "list.pop" Ss:=by
 intro pins s Z H x vs v us Q I rx rv h;obtain⟨l,xs,i,k,y,rfl,rfl,hH,h1,h2,hk,hy,q⟩:=h;cases rx;obtain⟨u,rfl,ru⟩:=rv.one;obtain⟨t,rfl⟩:=ru;obtain⟨z,bo,n,r,hl,e⟩:=I.uL hH;obtain⟨w,hw,fX⟩:=r.get hy;refine fG F.slot_list_pop ⟨_,e,rfl⟩ F.entry_list_pop (F.args_list_pop_2 _ _)
  (MeetsSeq.list_pop_at l bo.toArray n i t k w (fitsIndex_both h1 h2) (by rw[aJ,<- hl];exact hk) (by rw[<- fJ];exact hw) (by rw[aJ];omega)) ⟨e,?_⟩
 refine⟨y,_,I.pH (its':=bo.eraseIdx k) hH e ?_ (r.eraseIdx k) ?_,fX,q⟩
 ·show bo.toArray.eraseIdxIfInBounds k=(bo.eraseIdx k).toArray;rw[mr]
 ·have:=Kk xs k;omega
def Sr:V->List V->Hp->VK->Prop:=λx vs H Q=>∃l xs,x=.ref l/\vs=[]/\H l=some (.lst xs)/\Q .br (upd H l (.lst []))
theorem Wa:AZ X "list.clear" Sr:=by
 intro pins s Z H x vs v us Q I rx rv h;obtain⟨l,xs,rfl,rfl,hH,q⟩:=h;cases rx;have BZ:=rv.zero;subst BZ;obtain⟨z,bo,n,r,hl,e⟩:=I.uL hH;refine fG F.slot_list_clear ⟨_,e,rfl⟩ F.entry_list_clear (F.args_list_clear_1 _) (AutoSeq1.list_clear_list_0 l bo.toArray n (by rw[aJ];omega)) ⟨e,?_⟩;exact⟨.br,_,I.pH (its':=[]) (ys:=[]) hH e rfl .nil (cP _),rfl,q⟩
def XM:R2:=λx y H Q=>∃l b xs zs,x=.ref l/\y=.ref b/\H l=some (.lst xs)/\H b=some (.lst zs)/\xs.length+zs.length<=sizeLine/\∀p,H p=none->Q (.ref p) (upd H p (.lst (xs++zs)))
theorem bD0:fY X (binaryOp .Add) XM:=by
 intro pins s Z H x y v u Q I rx ry h;obtain⟨l,b,xs,zs,rfl,rfl,hH,hB,hz,q⟩:=h;cases rx;cases ry;obtain⟨z,bo,n,r,hl,e⟩:=I.uL hH;obtain⟨z2,og,n2,r2,hl2,e2⟩:=I.uL hB;refine PySem.P.add_list e e2 ?_ (by rw[aJ,aJ];omega);have ea:bo.toArray++og.toArray=(bo++og).toArray:=by simp
 rw[ea];exact⟨.ref _,_,I.Xx (t':=s.toks) (r.append r2) (by rw[bj];omega),rfl,q _ I.fresh⟩
section
variable{κ:Type}[DecidableEq κ]
def N9(kvs:List (κ×V))(k:κ):Option V:=(kvs.find? λkv=>decide (kv.1=k)).map (·.2)
def putK(kvs:List (κ×V))(k:κ)(v:V):List (κ×V) :=
 if(kvs.any λkv=>decide (kv.1=k))=true then kvs.map (λkv=>if kv.1=k then(kv.1,v) else kv) else kvs++[(k,v)]
def AL(kvs:List (κ×V))(k:κ):List (κ×V):=kvs.filter λkv=>decide (kv.1≠k)
theorem Fi{p:κ×V}{r:List (κ×V)}{k:κ}(e:p.1=k):N9 (p::r) k=some p.2:=by simp[N9,List.find?_cons,e]
theorem Fh{p:κ×V}{r:List (κ×V)}{k:κ}(e:¬p.1=k):N9 (p::r) k=N9 r k:=by simp[N9,List.find?_cons,e]
theorem Nj(k:κ):∀kvs:List (κ×V),(kvs.any λkv=>decide (kv.1=k))=(N9 kvs k).isSome
 |[]=>rfl
 |p::r=>by
  rw[fP];by_cases e:p.1=k
  ·simp only[Fi e,decide_eq_true e,Bool.true_or,Option.isSome_some]
  ·rw[Fh e,aB e,eX];exact Nj k r
theorem Lh(kvs:List (κ×V))(k:κ)(v:V):(putK kvs k v).length<=kvs.length+1:=by
 unfold putK;split
 ·rw[ai];omega
 ·rw[bj,dM,List.length_nil];omega
theorem L4.T5{u:Option Value}(r:L4 o u):o.isSome=u.isSome:=by
 cases o with
 |none=>cases u with
  |none=>rfl
  |some _=>exact(show False from r).elim
 |some _=>cases u with
  |none=>exact(show False from r).elim
  |some _=>rfl
theorem L4.getD{o:Option V}{u:Option Value}{d:V}{d':Value}(r:L4 o u)(rd:RelV d d'):RelV (o.getD d) (u.getD d'):=by
 cases o with
 |none=>cases u with
  |none=>exact rd
  |some _=>exact(show False from r).elim
 |some _=>cases u with
  |none=>exact(show False from r).elim
  |some _=>exact r
theorem KV.val{kvs:List (κ×V)}{vs:List (κ×Value)}(r:KV kvs vs)(k:κ):L4 (N9 kvs k) (valueAt vs k):=by
 unfold KV at r
 induction r with
 |nil=>exact True.intro
 |@cons p q ps qs h t ih =>
  obtain⟨h1,h2⟩:=h;by_cases e:p.1=k
  ·have e':q.1=k:=h1.symm.trans e;have b:valueAt (q::qs) k=some q.2:=by simp[valueAt,List.find?_cons,e']
   rw[Fi e,b];exact h2
  ·have e':¬q.1=k:=λz=>e (h1.trans z);have b:valueAt (q::qs) k=valueAt qs k:=by simp[valueAt,List.find?_cons,e']
   rw[Fh e,b];exact ih
theorem KV.any{kvs:List (κ×V)}{vs:List (κ×Value)}(r:KV kvs vs)(k:κ):(kvs.any λkv=>decide (kv.1=k))=vs.any λkv=>decide (kv.1=k):=by
 unfold KV at r
 induction r with
 |nil=>rfl
 |cons h t ih=>rw[fP,fP,ih,h.1]
theorem KV.Eo{kvs:List (κ×V)}{vs:List (κ×Value)}(r:KV kvs vs)(k:κ)(ry:RelV y u) :
  KV (kvs.map λkv=>if kv.1=k then(kv.1,y) else kv) (vs.map λkv=>if kv.1=k then(kv.1,u) else kv):=by
 unfold KV at r ⊢
 induction r with
 |nil=>exact .nil
 |@cons p q ps qs h t ih =>
  rw[bL,bL];refine .cons ?_ ih;obtain⟨h1,h2⟩:=h;by_cases e:p.1=k
  ·rw[aH e,aH (h1.symm.trans e)];exact⟨h1,ry⟩
  ·rw[aE e,aE (λz=>e (h1.trans z))];exact⟨h1,h2⟩
theorem KV.put{kvs:List (κ×V)}{vs:List (κ×Value)}(r:KV kvs vs)(k:κ)(ry:RelV y u):KV (putK kvs k y) (stored vs k u):=by
 unfold putK stored;rw[r.any k];by_cases e:(vs.any λkv=>decide (kv.1=k))=true
 ·rw[aH e,aH e];exact r.Eo k ry
 ·rw[aE e,aE e];exact Paired.snoc r ⟨rfl,ry⟩
theorem KV.drop{kvs:List (κ×V)}{vs:List (κ×Value)}(r:KV kvs vs)(k:κ):KV (AL kvs k) (without vs k):=by
 unfold KV at r ⊢;unfold AL without
 induction r with
 |nil=>exact .nil
 |@cons p q ps qs h t ih =>
  obtain⟨h1,h2⟩:=h;rw[iK,iK];by_cases e:p.1=k
  ·have a:¬decide (p.1≠k)=true:=by simp[e]
   have b:¬decide (q.1≠k)=true:=by simp[h1.symm.trans e]
   rw[aE a,aE b];exact ih
  ·have e':¬q.1=k:=λz=>e (h1.trans z);have a:decide (p.1≠k)=true:=by simp[e]
   have b:decide (q.1≠k)=true:=by simp[e']
   rw[aH a,aH b];exact .cons ⟨h1,h2⟩ ih
theorem KV.length{kvs:List (κ×V)}{vs:List (κ×Value)}(r:KV kvs vs):kvs.length=vs.length:=nv r
end
theorem uU{k:Key}(r:RelV (kV k) u):(x3 P w).is k u=true:=by
 cases k with
 |inl i=>obtain⟨t,e⟩:=(show ∃t,u=Value.int i t from r);subst e;exact aM5 P w i t
 |inr x=>obtain⟨t,e⟩:=(show ∃t,u=Value.str x t from r);subst e;exact aM4 P w x t
theorem NA{P:Program}{w:World}:∀{ks:List Key} {us:List Value},Vals (ks.map kV) us->ItemsAre (x3 P w) ks us
 |[],_,r=>by rw[List.map_nil] at r;cases r;exact .nil
 |k::ks,_,r=>by
  rw[bL] at r;cases r with
  |cons h t=>exact .cons (uU h) (NA t)
noncomputable abbrev KT(H:Hp):List (List Key×V)->List (List Key×Addr×Value)->Prop:=Paired λp q=>p.1=q.1/\H q.2.1=some (.tup (p.1.map kV))/\RelV p.2 q.2.2
theorem KT.val{xs:List (List Key×Addr×Value)}(r:KT H kvs xs)(k:List Key):L4 (N9 kvs k) ((atKey xs k).map (·.2)):=by
 induction r with
 |nil=>exact True.intro
 |@cons p q ps qs h t ih =>
  obtain⟨h1,_,h2⟩:=h;by_cases e:p.1=k
  ·have e':q.1=k:=h1.symm.trans e;have b:atKey (q::qs) k=some q.2:=by simp[atKey,List.find?_cons,e']
   rw[Fi e,b];exact h2
  ·have e':¬q.1=k:=λz=>e (h1.trans z);have b:atKey (q::qs) k=atKey qs k:=by simp[atKey,List.find?_cons,e']
   rw[Fh e,b];exact ih
theorem KT.Eo{xs:List (List Key×Addr×Value)}(r:KT H kvs xs)(k:List Key)(ry:RelV y u) :
  KT H (kvs.map λkv=>if kv.1=k then(kv.1,y) else kv) (xs.map (putAt k u)):=by
 induction r with
 |nil=>exact .nil
 |@cons p q ps qs h t ih =>
  rw[bL,bL];refine .cons ?_ ih;obtain⟨h1,h2,h3⟩:=h;unfold putAt;by_cases e:p.1=k
  ·rw[aH e,aH (h1.symm.trans e)];exact⟨h1,h2,ry⟩
  ·rw[aE e,aE (λz=>e (h1.trans z))];exact⟨h1,h2,h3⟩
theorem KT.put{xs:List (List Key×Addr×Value)}(r:KT H kvs xs)(k:List Key){b:Addr}(hb:H b=some (.tup (k.map kV)))(ry:RelV y u) :
  KT H (putK kvs k y) (storedH xs k b u):=by
 have e:(kvs.any λkv=>decide (kv.1=k))=(atKey xs k).isSome:=by
  rw[Nj,(r.val k).T5,lM]
 unfold putK storedH;rw[e];by_cases q:(atKey xs k).isSome=true
 ·rw[aH q,aH q];exact r.Eo k ry
 ·rw[aE q,aE q];exact Paired.snoc r ⟨rfl,hb,ry⟩
theorem KT.keeps{xs:List (List Key×Addr×Value)}(r:KT H kvs xs)(ht:∀b ys,H b=some (.tup ys)->H' b=some (.tup ys)):KT H' kvs xs :=
 Paired.Ki r λ_ _ z=>⟨z.1,ht _ _ z.2.1,z.2.2⟩
section
variable{h:Heap}
theorem JQ{u:HO}(ok:gz P w H h)(e:Rd H a u):t8 P w H h a u:=e.ok ok
theorem tN{kvs:List (Key×V)}(ok:gz P w H h)(e:Rd H a (.dK kvs)):kvs.length<=sizeLine/\(a==sysModules)=false/\∃vs,KV kvs vs/\h.DictOf (x3 P w) a vs :=
 show t8 P w H h a (.dK kvs) from JQ ok e
theorem YT{kvs:List (Key×V)}(ok:gz P w H h)(e:H a=some (.dK kvs)):kvs.length<=sizeLine/\(a==sysModules)=false/\∃vs,KV kvs vs/\h.DictOf (x3 P w) a vs:=tN ok (.inl e)
theorem vc{ks:List Key}(ok:gz P w H h)(e:H a=some (.tup (ks.map kV))):(tupleKind (x3 P w)).is h ks a:=by
 obtain⟨_,bo,r,o,h1,h2,⟨n,h3⟩,_⟩:=(show t8 P w H h a (.tup (ks.map kV)) from ok a _ e)
 exact⟨o,bo.toArray,n,h1,h2,h3,by simpa using NA r⟩
theorem uS(ok:gz P w H h)(e:Rd H a (.dT kvs)):kvs.length<=sizeLine/\(a==sysModules)=false /\
  ∃xs,KT H kvs xs/\h.DictOfH (tupleKind (x3 P w)) a xs:=by
 obtain⟨z,y,xs,r,o,es,ep,h1,h2,h3,h4,h5⟩:=(show t8 P w H h a (.dT kvs) from JQ ok e)
 refine⟨z,y,xs,r,o,es,ep,h1,h2,h3,h4,λx hx=>?_,h5⟩;have all:∀{l:List (List Key×V)} {m:List (List Key×Addr×Value)},KT H l m->∀x∈m,(tupleKind (x3 P w)).is h x.1 x.2.1:=by
  intro l m q
  induction q with
  |nil=>intro x hx;exact nomatch hx
  |@cons p q ps qs hq t ih =>
   intro x hx;rcases aL.mp hx with e|hx
   ·subst e;exact vc ok (by rw[<- hq.1];exact hq.2.1)
   ·exact ih x hx
 exact all r x hx
theorem YW(ok:gz P w H h)(e:H a=some (.dT kvs)):kvs.length<=sizeLine/\(a==sysModules)=false /\
  ∃xs,KT H kvs xs/\h.DictOfH (tupleKind (x3 P w)) a xs:=uS ok (.inl e)
end
def T7(H:Hp)(a:Addr)(y:V)(r:Option V):Prop :=
 (∃kvs k,Rd H a (.dK kvs)/\y=kV k/\r=N9 kvs k)\/∃kvs k b,Rd H a (.dT kvs)/\y=.ref b/\H b=some (.tup (k.map kV))/\r=N9 kvs k
def AB(H:Hp)(a:Addr)(y v:V)(H':Hp):Prop :=
 (∃kvs k,H a=some (.dK kvs)/\y=kV k/\kvs.length<sizeLine/\H'=upd H a (.dK (putK kvs k v))) \/
 ∃kvs k b,H a=some (.dT kvs)/\y=.ref b/\H b=some (.tup (k.map kV))/\kvs.length<sizeLine/\H'=upd H a (.dT (putK kvs k v))
theorem T7.k{H:Hp}{a:Addr}{kvs:List (Key×V)}{k:Key}(e:H a=some (.dK kvs)):T7 H a (kV k) (N9 kvs k):=.inl ⟨kvs,k,.inl e,rfl,rfl⟩
theorem AB.k{H:Hp}{a:Addr}{kvs:List (Key×V)}{k:Key}{v:V}(e:H a=some (.dK kvs))(hl:kvs.length<sizeLine):AB H a (kV k) v (upd H a (.dK (putK kvs k v))):=.inl ⟨kvs,k,e,rfl,hl,rfl⟩
section
variable{v:V}{r:Value}
theorem Inv.big(I:Inv X pins Z H s):sysModules<s.heap.objs.size:=by
 have h:mainGlobals<s.heap.objs.size:=(I.mod.glob.keeps I.bk).lt;exact cW ∅ h
theorem a67{Q:Value->Shared->Prop}(hu:A.units+1<cLine)(I:Inv X pins Z H s)(g:T7 H a y (some v))(ry:RelV y u)(h:∀w' s',Inv X pins Z H s'->RelV v w'->Q w' s') :
  wpAny (model X.prog X.w) A (getItem (.ref a) u) Q E s:=by
 rcases g with⟨kvs,k,e,ey,l⟩|⟨kvs,k,b,e,ey,eb,l⟩
 ·subst ey;obtain⟨z,hd,vs,rel,dd⟩:=tN I.bZ e;obtain⟨w',hw,fX⟩:=L4.some_of (v:=v) (o:=valueAt vs k) (by rw[l];exact rel.val k);exact wpAny_getItem_of (uU ry) dd.mapOf hw (h w' _ (I.tok _) fX)
 ·subst ey;cases (show u=Value.ref b from ry);obtain⟨z,hd,xs,rel,dd⟩:=uS I.bZ e;obtain⟨w',hw,fX⟩:=L4.some_of (v:=v) (o:=(atKey xs k).map (·.2)) (by rw[l];exact rel.val k);obtain⟨p,hp,PY⟩:=aa.mp hw;refine wpAny_getItem_heap (fF hu) (vc I.bZ eb) dd hp ?_;rw[PY];exact h w' _ (I.tok _) fX
theorem Xi{Q:Value->Shared->Prop}(hu:A.units+1<cLine)(I:Inv X pins Z H s)(g:T7 H a y o)(ry:RelV y u)(h:∀s',Inv X pins Z H s'->Q (.bool o.isSome) s') :
  wpAny (model X.prog X.w) A (compareOp .In u (.ref a)) Q E s:=by
 rcases g with⟨kvs,k,e,ey,l⟩|⟨kvs,k,b,e,ey,eb,l⟩
 ·subst ey;obtain⟨z,hd,vs,rel,dd⟩:=tN I.bZ e;refine wpAny_in_of (uU ry) hd dd.mapOf ?_;rw[<- (rel.val k).T5,<- l];exact h _ (I.tok _)
 ·subst ey;cases (show u=Value.ref b from ry);obtain⟨z,hd,xs,rel,dd⟩:=uS I.bZ e;refine wpAny_in_heap (fF hu) (vc I.bZ eb) hd dd ?_;have q:=(rel.val k).T5;rw[lM] at q;rw[<- q,<- l];exact h _ (I.tok _)
theorem TR{Q:Value->Shared->Prop}(hu:A.units+1<cLine)(I:Inv X pins Z H s)(g:T7 H a y o)(ry:RelV y u)(h:∀s',Inv X pins Z H s'->Q (.bool (!o.isSome)) s') :
  wpAny (model X.prog X.w) A (compareOp .NotIn u (.ref a)) Q E s:=by
 rcases g with⟨kvs,k,e,ey,l⟩|⟨kvs,k,b,e,ey,eb,l⟩
 ·subst ey;obtain⟨z,hd,vs,rel,dd⟩:=tN I.bZ e;refine wpAny_notIn_of (uU ry) hd dd.mapOf ?_;rw[<- (rel.val k).T5,<- l];exact h _ (I.tok _)
 ·subst ey;cases (show u=Value.ref b from ry);obtain⟨z,hd,xs,rel,dd⟩:=uS I.bZ e;refine wpAny_notIn_heap (fF hu) (vc I.bZ eb) hd dd ?_;have q:=(rel.val k).T5;rw[lM] at q;rw[<- q,<- l];exact h _ (I.tok _)
theorem LW{h':Heap}{t':Nat}{ob:HO}(I:Inv X pins Z H s)(mu:yz (H a))(hs:Heap.SameBut a s.heap h')(he:∃q,h'.get? a=some q)(new:t8 X.prog X.w (upd H a ob) h' a ob) :
  Inv X pins Z (upd H a ob) { s with heap:=h',toks:=t' } :=
 I.write (x:=a) (e:=a) mu (.inl rfl) (λb q hb z=>(hs.2 b hb).trans z) he new
theorem bH0{h':Heap}{kvs:List (Key×V)}{vs:List (Key×Value)}(z:kvs.length<=sizeLine)(hd:(a==sysModules)=false)(rel:KV kvs vs)(dd:h'.DictOf (x3 P w) a vs) :
  t8 P w H' h' a (.dK kvs):=⟨z,hd,vs,rel,dd⟩
theorem a66{Q:Unit->Shared->Prop}(hu:A.units+1<cLine)(I:Inv X pins Z H s)(g:AB H a y v H')(ry:RelV y u)(rv:RelV v r)(h:∀s',Inv X pins Z H' s'->Q Unit.unit s') :
  wpAny (model X.prog X.w) A (setItem (.ref a) u r) Q E s:=by
 rcases g with⟨kvs,k,e,ey,l,eH⟩|⟨kvs,k,b,e,ey,eb,l,eH⟩
 ·subst ey eH;obtain⟨z,hd,vs,rel,dd⟩:=YT I.bZ e;have hz:vs.length<=sizeLine:=by rw[<- rel.length];exact z
  have hl:(putK kvs k v).length<=sizeLine:=by have:=Lh kvs k v;omega
  refine wpAny_setItem_pairs (hsz:=hz) (uU ry) dd λh' zK hs=>h _ ?_;have he:∃q,h'.get? a=some q:=let ⟨q,_,_,hq,_⟩:=zK;⟨q,hq⟩
  exact LW I (by rw[e];exact True.intro) hs he (bH0 hl hd (rel.put k rv) zK)
 ·subst ey eH;cases (show u=Value.ref b from ry);obtain⟨z,hd,xs,rel,dd⟩:=YW I.bZ e;have hz:xs.length<=sizeLine:=by rw[<- nv rel];exact z
  have hl:(putK kvs k v).length<=sizeLine:=by have:=Lh kvs k v;omega
  refine wpAny_setItem_heap (hsz:=hz) (fF hu) (vc I.bZ eb) dd λh' zK hs=>h _ ?_;obtain⟨q,es,ep,hq,h2,h3,h4,_,h5⟩:=zK;refine LW I (by rw[e];exact True.intro) hs ⟨q,hq⟩ ⟨hl,hd,_,(rel.put k eb rv).keeps λc ys ec=>?_,q,es,ep,hq,h2,h3,h4,h5⟩;rw[i9 (Zx ec e (λz=>nomatch z))];exact ec
end
section
variable{kvs:List (Key×V)}
theorem YR{Q:Value->Shared->Prop}(I:Inv X pins Z H s)(e:Rd H a (.dK kvs))(h:∀t s',Inv X pins Z H s'->Q (.int kvs.length t) s'):wpAny (model X.prog X.w) A (call (.builtin "len") [.ref a]) Q E s:=by
 obtain⟨z,hd,vs,rel,dd⟩:=tN I.bZ e;refine call_len_dict hd dd (by rw[<- rel.length];rw[tX] at z;omega) ?_;rw[<- rel.length];exact h _ _ (I.tok _)
end
theorem aN1(I:Inv X pins Z H s)(g:T7 H a y o):s.TypeIs (.ref a) "dict":=by
 rcases g with⟨kvs,k,e,_,_⟩|⟨kvs,k,b,e,_,_,_⟩
 ·obtain⟨_,_,vs,_,dd⟩:=tN I.bZ e;exact dd.typeIs
 ·obtain⟨_,_,xs,_,dd⟩:=uS I.bZ e;exact dd.typeIs
theorem VJ(h:Heap)(hb:sysModules<h.objs.size):t8 P w H (h.push { cls:=.type "dict",data:=.dict #[] }) h.objs.size (.dK []) :=
 ⟨cP _,dH.mpr (bT (aU hb)),[],.nil,Heap.DictOf.new h⟩
def Tb:TE:=λ_ H Q=>∀p,H p=none->Q (.ref p) (upd H p (.dK []))
theorem Wk:PE X (.Dict [] [] pos) Tb:=λpins s Z H Q I h =>
 wpAny_Dict_empty ⟨.ref s.heap.objs.size,_,I.laid (a:=s.heap.objs.size) (o:=.dK []) (t':=s.toks) (λ_ _ q=>au _ q) (az _) (VJ s.heap I.big),rfl,h _ (I.bZ.fresh (az _))⟩
section
variable{d:V}{r:Value}
theorem bH3{Q:Value->Shared->Prop}(hu:A.units+1<cLine)(I:Inv X pins Z H s)(g:T7 H a y o)(ry:RelV y u)(rd:RelV d r)(h:∀w' s',Inv X pins Z H s'->RelV (o.getD d) w'->Q w' s') :
  wpAny (model X.prog X.w) A (call (.builtin "dict.get") [.ref a,u,r]) Q E s:=by
 rcases g with⟨kvs,k,e,ey,l⟩|⟨kvs,k,b,e,ey,eb,l⟩
 ·subst ey;obtain⟨z,hd,vs,rel,dd⟩:=tN I.bZ e;refine call_meetsIn js dd.typeIs vm (tY _ _ _) (meets_dict_get_default (x3 X.prog X.w) a (uU ry) hd r) ⟨_,dd.mapOf,h _ _ (I.tok _) ?_⟩;rw[l];exact(rel.val k).getD rd
 ·subst ey;cases (show u=Value.ref b from ry);obtain⟨z,hd,xs,rel,dd⟩:=uS I.bZ e;refine call_meetsIn js dd.typeIs vm (tY _ _ _) (meetsH_dict_get_default (tupleKind (x3 X.prog X.w)) a b hd r) ⟨fF hu,k,xs,vc I.bZ eb,dd,h _ _ (I.tok _) ?_⟩;rw[l];exact(rel.val k).getD rd
end
end L2
namespace Og
open PySem PySem.W PySem.Calls PyProof.Rows
theorem at6{P:Params}{h:Heap}:∀(ns:List Int) (vs:List Value),WellAll P h vs (ns.map WData.int)->IntsAre vs ns:=by
 intro ns
 induction ns with
 |nil =>
  intro vs w;rw[List.map_nil] at w;cases w;exact .nil
 |cons n ns ih =>
  intro vs w;rw[bL] at w;cases w with
  |cons a b =>
   cases a;exact .cons _ _ (ih _ b)
theorem a09{l:OpenLaw}{n:Nat}(hn:l.most=some n){P:Params}{h:Heap}{args:List WData}{vals:List Value}(pT:l.row.toRowW.claim.pre args=true)(BY:WellAll P h vals args) :
  ∃a vs ns,vals=[Value.ref a]/\args=[WData.list (ns.map WData.int)]/\h.get? a=some { cls:=.type "list",data:=.seq vs.toArray }/\IntsAre vs ns/\ns.length<=n:=by
 have kx:WShape.hasAll [] args [.list .int]=true:=(pre_splitW pT).1;have hc:l.pre.holds [] { args:=args }=true:=(pre_splitW pT).2;obtain⟨d,r,rfl,h1,h2⟩:=hasAllW_cons kx;obtain rfl:=hasAllW_nil h2;obtain⟨xs,rfl,h3⟩:=hasW_list h1;obtain⟨ns,rfl⟩:=items_int h3;have hlen:ns.length<=n:=by
  unfold OpenLaw.pre at hc;have h4:(WTm.not (.lt (.lit (.int (n:Int))) (.len (.arg 0)))).holds [] { args:=[.list (ns.map .int)] }=true:=by
   have h4:=(holds_andW hc).1;rw[hn] at h4;exact h4
  have h5:=condW_of h4 (w_not (w_lt w_lit (w_len_list (w_arg rfl))));rw[ai] at h5;refine iE λq=>?_;have q':(n:Int)<((ns.length:Nat):Int):=by omega
  first
   |(rw[aw q'] at h5;exact absurd h5 ∅)
   |(simp at h5;omega)
 cases BY with
 |cons w1 w2 =>
  cases w2;cases w1 with
  |list ho CQ=>exact⟨_,_,ns,rfl,rfl,ho,at6 ns _ CQ,hlen⟩
theorem a19(l:OpenLaw)(args:List WData):l.row.toRowW.claim.post args (.bool true) args=true :=
 postW_of (r:=l.row.toRowW) (X:=(true==true))
  (show WShape.has [] (.bool true) .bool=true by first|rfl|decide|simp[WShape.has,WShape.arms,WShape.armsAll])
  (show(WTm.eq .res (.lit (.bool true))).value [] { args:=args,res:=some (.bool true),after:=args }=some (.bool (true==true)) from w_eq_bool (w_res rfl) w_lit) rfl
theorem aN4{l:OpenLaw}{n:Nat}{q:Program}{loose:List Str}{XP:(Str->Option Value)->Heap->Prop}{YP:World->Heap->Prop}{d:DefRec}(hn:l.most=some n)(wH:d.params.defaults=[])(call:∀ (w:World) (dE bW:Shared) (mg mb:Str->Option Value) (fa:Addr) (o:Obj) (pm cd doc:Value) (a:Addr) (vs:List Value) (ns:List Int),
   Ground q loose [] XP w dE mg mb bW.heap->YP w bW.heap ->
   bW.heap.get? fa=some o->o.data=.func (docDef d.name d.params d.body d.scope pm cd doc)->bW.heap.CodeRec cd d.name->mg d.name=some (.ref fa) ->
   bW.heap.get? a=some { cls:=.type "list",data:=.seq vs.toArray }->IntsAre vs ns->ns.length<=n->bW.gens=#[] ->
   codeAny (model l.prog w) callerA (.call (.ref fa) ⟨[.ref a],[]⟩) (λr s'=>r=.ok (.ret (.bool true))/\OldK bW.heap s'.heap/\s'.os=bW.os/\AllBare s'.gens) bW) :
  WalkO q loose XP YP l.row.toRowW d [] (λf vs=>PySem.call f vs):=by
 intro w dE bW mg mb G Y fa o pm cd doc dV kV ho hd nc hD hmg hg args vals as pT Qo hrd BY Im;obtain rfl:dV=.none:=Dflts.none hD wH;obtain rfl:kV=.none:=Dflts.noKw hD;obtain⟨a,vs,ns,rfl,rfl,jH,hints,hlen⟩:=a09 hn pT BY;refine enter_call (hV (call w dE bW mg mb fa o pm cd doc a vs ns G Y ho (fd_plain hd) nc hmg jH hints hlen hg) λr s' hq=>?_);obtain⟨rfl,h2,h3,h4⟩:=hq;exact⟨.inl ⟨.bool true,.bool true,[],rfl,λ_=>rfl,.bool true,a19 l _,λ_=>⟨List.Pairwise.nil,λ_ hm=>(nomatch hm)⟩⟩,h2,h3,h4⟩
end Og
namespace L2
open PySem PySem.Spec PyProof.Rows
variable{w:World}{x qual:Str}{X:Cx}{A:Around}{s:Shared}{elt iter tg:Expr}{ifs:List Expr}{scope:Scope}{pos:Pos}{cl:List (Str×Addr)}{C:Addr}{N':List Str}{f7:List Nat}{fp:List Addr}{g:TG}{tc:TT}{te:TE}
theorem Kw:∀{vs:List Value} {ns:List Int},IntsAre vs ns->Vals (ns.map V.int) vs
 |_,_,.nil=>.nil
 |_,_,.cons n t h=>.cons ⟨t,rfl⟩ (Kw h)
def AD(H:Hp):Prop:=∀b,H b=none\/∃o xs,H b=some (.kB o (.lst xs))
theorem VU{P:Program}{K:PySem.W.Frag}{mg mb:Str->Option Value}{CX:oQ}{k:Nat}{fa a:Addr}{fd:FuncData}{sp:Sp}{bW:Shared}{vs:List Value}{ns:List Int}(KX:K.In bW.heap)(so:bW.heap.Ns mainGlobals mg)(hb:bW.heap.Ns builtinsNs mb)(CI:∀x:Str,x≠"__name__"->mb x=bootBuiltins x)(Cu:bW.heap.NoLimit)(hg:bW.gens=#[])(ha:bW.heap.get? a=some { cls:=.type "list",data:=.seq vs.toArray })(hi:IntsAre vs ns)(hl:ns.length<=sizeLine)(hr:A6 k callerA)(F:∀base:Heap,K.In base->base.Ns mainGlobals mg->iQ P w K mg base CX k fa fd [x] sp)(wN:∀(s:Shared) (u:Value),BindsTo s fd ⟨[u],[]⟩ [(x,u)])(uq:∀H:Hp,AD H->fO K H a (ns.map V.int)->sp [.ref a] H (λv _=>v=.bl true) λ_ _ _=>False)(Df:∀H e s',CX [] H bW (λ_ _ _=>False) e s'->False) :
  codeAny (model P w) callerA (.call (.ref fa) ⟨[.ref a],[]⟩) (λr s'=>r=.ok (.ret (.bool true))/\OldK bW.heap s'.heap/\s'.os=bW.os/\AllBare s'.gens) bW:=by
 have rv:=Kw hi;have BL:=hi.length;have core:∀H:Hp,AD H->fO K H a (ns.map V.int)->gz P w H bW.heap->(∀b,H b≠none->b=a)->(H a≠none->K.lookup a=none) ->
   codeAny (model P w) callerA (.call (.ref fa) ⟨[.ref a],[]⟩) (λr s'=>r=.ok (.ret (.bool true))/\OldK bW.heap s'.heap/\s'.os=bW.os/\AllBare s'.gens) bW:=by
  intro H hO hS bZ hA hK;have Q4:∀{b:Addr} {o:Obj},bW.heap.get? b=some o->H b=none->(qj bW.heap H).get? b=some o:=λe n=>VN e n;have vN:∀{b:Addr} {o:Obj} {es:Array DictEntry} {ep:Nat},bW.heap.get? b=some o->o.data=.dict es ep->H b=none:=λ{b o es ep} e d=>by
   cases q:H b with
   |none=>rfl
   |some u =>
    have e':b=a:=hA b (by rw[q];simp);subst e';rw[ha] at e;cases e;have d':Data.seq vs.toArray _=Data.dict es ep:=d;cases d'
  have yW:∀{b:Addr} {m:Str->Option Value},bW.heap.Ns b m->(qj bW.heap H).Ns b m:=λ{b m} ⟨o,es,ep,e,d,r⟩=>⟨o,es,ep,Q4 e (vN e d),d,r⟩
  have IQ:K.In (qj bW.heap H):=λb o e=>Q4 (KX b o e) (by
   cases q:H b with
   |none=>rfl
   |some u =>
    have e':b=a:=hA b (by rw[q];simp);subst e';rw [hK (by rw [q];simp)] at e;cases e)
  have hM:Mod K mg (qj bW.heap H):=⟨IQ,yW so,⟨mb,yW hb,CI⟩,let ⟨mc,h1,h2⟩:=Cu;⟨mc,yW h1,h2⟩⟩
  have e0:tD P w K mg (qj bW.heap H) callerA [] bW H:=⟨rfl,hM,λb o e=>Us e,vo (a56 _ _),trivial,λb hb=>absurd (show b∈([]:List Addr) from hb) (by simp),bZ,.of_eq hg⟩
  refine hV ((F _ IQ (yW so)).run callerA [] bW H ⟨[.ref a],[]⟩ [.ref a] [.ref a] _ _ hr e0 (wN bW (.ref a)) (.cons rfl .nil) (uq H hO hS)) λr s' h=>?_;cases r with
  |error e=>exact(Df H e s' h).elim
  |ok fl =>
   cases fl with
   |next=>exact False.elim h
   |brk=>exact False.elim h
   |cont=>exact False.elim h
   |ret u =>
    obtain⟨v,H',os,bare,un,Ck,r',q⟩:=h;have q':v=.bl true:=q;subst q';obtain rfl:u=Value.bool true:=r';refine⟨rfl,OldK.of_keep λb o e=>?_,os,bare⟩;cases q:H b with
    |none=>exact un.keep b o e q (by intro z;exact absurd (show b∈([]:List Addr) from z) (by simp)) (by simp)
    |some u =>
     rcases hO b with z|⟨ob,xs,z⟩
     ·rw[q] at z;cases z
     ·have z2:=un.iP b ob _ z;obtain⟨e1,_⟩:=bZ b _ z;obtain⟨e2,_⟩:=Ck b _ z2;rw[e] at e1;cases e1;exact e2
 cases hk:K.lookup a with
 |some o =>
  have e:=KX a o hk;rw[ha] at e;cases e;refine core (λ_=>none) (λ_=>.inl rfl) (.inr ⟨_,vs.toArray,_,hk,rfl,rfl,rfl,by rw[aJ,BL];exact hl,by simpa using rv⟩) (λb u z=>by have z':(none:Option HO)=some u:=z;cases z') (λb z=>absurd rfl z) λz=>absurd rfl z
 |none =>
  refine core (λb=>if b=a then some (.kB { cls:=.type "list",data:=.seq vs.toArray } (.lst (ns.map V.int))) else none) (λb=>?_) (.inl (.inr ⟨{ cls:=.type "list",data:=.seq vs.toArray },aH rfl⟩)) (λb u z=>?_) (λb z=>?_) λ_=>hk
  ·by_cases hb:b=a
   ·exact .inr ⟨_,_,aH hb⟩
   ·exact .inl (aE hb)
  ·by_cases hb:b=a
   ·have z':=(aH hb).symm.trans z;cases z';subst hb;exact⟨ha,by rw[ai];exact hl,vs,_,rv,ha⟩
   ·have z':=(aE hb).symm.trans z;cases z'
  ·by_cases hb:b=a
   ·exact hb
   ·exact absurd (aE hb) z
theorem Vt{l:PySem.W.OpenLaw}{n k:Nat}{q:Program}{loose:List Str}{XP:(Str->Option Value)->Heap->Prop}{YP:World->Heap->Prop}{d:DefRec}{K:Params->PySem.W.Frag}{CX:World->oQ}{sp:World->Sp}(hn:l.most=some n)(pU:n<=sizeLine)(wH:d.params.defaults=[])(hr:A6 k callerA)(hY:∀(w:World) (h:Heap),YP w h->(K w.params).In h)(F:∀ (w:World) (mg:Str->Option Value) (fa:Addr) (h:Heap),(K w.params).In h->h.Ns mainGlobals mg->mg d.name=some (.ref fa) ->
   ∃fd:FuncData,(∀(s:Shared) (u:Value),BindsTo s fd ⟨[u],[]⟩ [(x,u)]) /\
    ∀ base:Heap,(K w.params).In base->base.Ns mainGlobals mg->iQ l.prog w (K w.params) mg base (CX w) k fa fd [x] (sp w))(uq:∀(w:World) (H:Hp) (a:Addr) (ns:List Int),ns.length<=n->AD H->fO (K w.params) H a (ns.map V.int)->sp w [.ref a] H (λv _=>v=.bl true) λ_ _ _=>False)(Df:∀(w:World) (H:Hp) (s:Shared) (e:Value) (s':Shared),CX w [] H s (λ_ _ _=>False) e s'->False) :
  PySem.W.WalkO q loose XP YP l.row.toRowW d [] (λf vs=>PySem.call f vs):=by
 refine Og.aN4 hn wH λw dE bW mg mb fa o pm cd doc a vs ns G Y ho hd nc hmg jH hints hlen hg=>?_;have KX:=hY w _ Y;obtain⟨fd,hb,hF⟩:=F w mg fa _ KX G.T.g hmg;exact VU KX G.T.g G.T.b G.T.builtins G.T.nolimit hg jH hints (aG hlen pU) hr hF hb (λH hO hS=>uq w H a ns hlen hO hS) λH e s'=>Df w H bW e s'
def E5(s:Stmt):Arguments:=match s with
 |.FunctionDef _ a _ _ _ _ _ _ _ _=>a
 |_=>{ posonlyargs:=[],args:=[],vararg:=none,kwonlyargs:=[],kw_defaults:=[],kwarg:=none,defaults:=[] }
def w5(s:Stmt):List Stmt:=match s with
 |.FunctionDef _ _ b _ _ _ _ _ _ _=>b
 |_=>[]
def v7(s:Stmt):Scope:=match s with
 |.FunctionDef _ _ _ _ _ _ sc _ _ _=>sc
 |_=>{ kind:=.function,names:=[],isGenerator:=false,isCoroutine:=false }
structure rp(K:PySem.W.Frag)(x qual:Str)(st:Stmt)(f:Addr)(fd:FuncData):Prop where
 ex:∃(oc:Value) (od:Option Addr) (kV doc pm:Value) (an:Option Addr) (fV ct:Value) (nE:Array (Option Value)),
  fd=PySem.W.fnOf x qual (E5 st) (w5 st) (v7 st) .none kV doc pm an fV ct/\K.lookup f=some ⟨oc,od,.func fd,nE⟩/\PySem.W.codeIn K fV qual=true
 kp:PySem.W.keepIn K (.ref f)=true
section
variable{K:PySem.W.Frag}
theorem rp.binds{st:Stmt}{f:Addr}{fd:FuncData}{ps:List Str}(F:rp K x qual st f fd)(h:∀(kV doc pm:Value) (an:Option Addr) (fV ct:Value) (us:List Value),us.length=ps.length->bindArgs (PySem.W.fnOf x qual (E5 st) (w5 st) (v7 st) .none kV doc pm an fV ct) ⟨us,[]⟩=pure (ps.zip us)):Binds K fd ps []:=by
 obtain⟨oc,od,kV,doc,pm,an,fV,ct,nE,rfl,lk,nc⟩:=F.ex;exact .all (h kV doc pm an fV ct)
theorem NI{st:Stmt}{f:Addr}{oc:Value}{od an:Option Addr}{nE:Array (Option Value)}{kV doc pm fV ct:Value}(l:K.lookup f=some ⟨oc,od,.func (PySem.W.fnOf x qual (E5 st) (w5 st) (v7 st) .none kV doc pm an fV ct),nE⟩)(c:PySem.W.codeIn K fV qual=true)(k:PySem.W.keepIn K (.ref f)=true):rp K x qual st f (PySem.W.fnOf x qual (E5 st) (w5 st) (v7 st) .none kV doc pm an fV ct):=⟨⟨oc,od,kV,doc,pm,an,fV,ct,nE,rfl,l,c⟩,k⟩
end
theorem a76:q9 X (.builtin "len") (λxs H Q=>∃a kvs,xs=[V.ref a]/\H a=some (.dK kvs)/\Q (.int kvs.length) H):=by
 intro pins s Z H xs us Q I r h;obtain⟨a,kvs,rfl,ha,q⟩:=h;obtain⟨u,rfl,ru⟩:=vals1 r;cases ru;exact YR I (.inl ha) λt s' I'=>⟨.int kvs.length,H,I',⟨t,rfl⟩,q⟩
section
variable{prog:Program}{R:Result->Shared->Prop}
theorem aK0{target:Expr}{it acc:Value}{env:Env}(I:Nat->Shared->Prop)(turn:∀ n s,I n s->wpAny (model prog w) A (pyNext it) (λr bW=>match r with
   |none=>R (.ok .next) bW
   | some v=>wpAny (model prog w) A (letOwnedTupleGo target it v) (λ_ bW=>wpAny (model prog w) A (assign target env v) (λ_ fZ =>
     wpAny (model prog w) A (forIn ifs true λc r=>if r=true then do let ok <- isTrue c env (eval c env);pure (ForInStep.yield ok) else pure (ForInStep.yield r)) (λok fk =>
      if ok=true then wpAny (model prog w) A (eval elt env) (λx kq =>
       wpAny (model prog w) A (call (.builtin "list.append") [acc,x]) (λ_ nT=>∃ m,m < n/\I m nT) (λ_ _=>False) kq) (notedBy (model prog w) A env λe s'=>R (.error e) s') fk
      else ∃ m,m < n/\I m fk) (λ_ _=>False) fZ) (λ_ _=>False) bW) (λ_ _=>False) bW) (λ_ _=>False) s)(n:Nat)(h:I n s) :
  codeAny (model prog w) A (.compLoop (.ListComp elt [⟨target,iter,ifs,0⟩] scope pos) 0 it acc env) R s:=by
 refine codeAny_loop rfl I (λn s hI=>?_) n h;show wpAny _ A ((compTurn (.ListComp elt [⟨target,iter,ifs,0⟩] scope pos) 0 it acc env).onRaise (λx=>do noteFrame x env;theTreesLotGoes x)) _ _ s;refine wpAny_noted ?_;rw[compTurn_list];refine ae (fq (ae (bA (turn n s hI) (λr bW dU=>?_) λ_ _ h'=>h'.elim)));cases r with
 |none=>exact av dU
 |some v =>
  refine ae (bA dU (λ_ bW dU=>?_) λ_ _ h'=>h'.elim);refine ae (bA dU (λ_ fZ jG=>ae (bA jG (λok fk oi=>?_) λ_ _ h'=>h'.elim)) λ_ _ h'=>h'.elim);cases ok with
  |false=>exact wpAny_pure ⟨rfl,oi⟩
  |true =>
   exact ae (ae (bA oi (λx kq sf=>ae (bA sf (λ_ nT se=>av (av ⟨rfl,se⟩)) λ_ _ h'=>h'.elim)) λ_ _ h'=>h'))
end
def mO(X:Cx)(es:List Expr)(t:TT):Prop :=
 ∀(pins:List (Addr×Obj)) (s:Shared) (Z:St) (H:Hp) (Q:Bool->Hp->Prop),Inv X pins Z H s->t Z H Q ->
  wpAny (model X.prog X.w) X.A (forIn es true λc r=>if r=true then do let ok <- isTrue c X.env (eval c X.env);pure (ForInStep.yield ok) else pure (ForInStep.yield r)) (TP X pins Z Q) X.xe s
def Yq:TT:=λ_ H Q=>Q true H
theorem UN:mO X [] Yq:=λpins s Z H Q I h=>av ⟨H,I,h⟩
theorem UO{c:Expr}{t:TT}(h:PT X c t):mO X [c] t:=by
 intro pins s Z H Q I q;simp only[List.forIn_cons,List.forIn_nil,if_true];exact ae (ae (bA (h pins s Z H Q I q) (λb s' hb=>av (av hb)) λ_ _ x=>x))
def M8(scope:Scope)(cl:List (Str×Addr))(C:Addr):List (Str×Addr):=cellsFrom (C+1) scope.names []++cl
theorem J9:∀(names:List (Str×NameKind)) (n:Nat) (acc:List (Str×Addr)),cellsFrom n names acc=cellsFrom n names []++acc
 |[],_,_=>rfl
 |(y,k)::r,n,acc=>by
  unfold cellsFrom;split
  ·rw[J9 r (n+1) ((y,n)::acc),J9 r (n+1) [(y,n)],gY]
   rfl
  ·exact J9 r n acc
theorem X4{x:Str}{c:Addr}:∀{names:List (Str×NameKind)} {n:Nat},(x,c)∈cellsFrom n names []->(x,NameKind.cell)∈names
 |[],_,h=>by simp[cellsFrom] at h
 |(y,k)::r,n,h=>by
  unfold cellsFrom at h;split at h
  ·rename_i hk;rw[J9] at h;rcases aV.mp h with z|z
   ·exact bx _ (X4 z)
   ·cases aY.mp z;rw[show k=NameKind.cell from by simpa using hk];exact gG
  ·exact bx _ (X4 h)
theorem M0{α:Type}{x:Str}:∀{a b:List (Str×α)},(a++b).lookup x=(a.lookup x).or (b.lookup x)
 |[],_=>rfl
 |(y,v)::r,b=>by
  rw[List.cons_append,cL,cL];cases x==y
  ·exact M0
  ·rfl
theorem Nw(h:scope.names.lookup x=some .cell\/∃c,cl.lookup x=some c):∃c,(M8 scope cl C).lookup x=some c:=by
 unfold M8;rw[M0];cases e:(cellsFrom (C+1) scope.names []).lookup x with
 |some c=>exact⟨c,rfl⟩
 |none =>
  rcases h with h|h
  ·have q:=dR scope.names (C+1) [] (.inl h);rw[e] at q;cases q
  ·exact h
theorem P5{env:Env}:∀{names:List (Str×NameKind)} {x:Str},names.lookup x=some .cell ->
  (names.map λ(n,k)=>if(k==NameKind.free&&env.scope.kind==.function&&env.kindOf n==some .cell) then(n,NameKind.cell) else(n,k)).lookup x=some .cell
 |[],_,h=>by simp at h
 |(n,k)::r,x,h=>by
  have ih:=@P5 env r x;show List.lookup x ((if(k==NameKind.free&&env.scope.kind==.function&&env.kindOf n==some .cell)=true then(n,NameKind.cell) else(n,k))::_)=_;cases hx:x==n with
  |true =>
   simp only[List.lookup_cons,hx] at h;cases h;simp[List.lookup_cons,hx]
  |false =>
   simp only[List.lookup_cons,hx] at h;by_cases hc:(k==NameKind.free&&env.scope.kind==.function&&env.kindOf n==some .cell)=true
   ·rw[aH hc];simp only[List.lookup_cons,hx];exact ih h
   ·rw[aE hc];simp only[List.lookup_cons,hx];exact ih h
theorem Ap{h:Heap}(ck:CellsOk h (C+1) (cellsFrom (C+1) scope.names [])){c:Addr}(e:(M8 scope cl C).lookup x=some c):C<c\/cl.lookup x=some c:=by
 unfold M8 at e;rw[M0] at e;cases e2:(cellsFrom (C+1) scope.names []).lookup x with
 |some c' =>
  rw[e2] at e;cases e;exact .inl (ck.empty x c (aT e2)).2
 |none =>
  rw[e2] at e;exact .inr e
theorem Lx{M:Model}{E:Value->Shared->Prop}{globals:Addr}{outer:Env}{Q:Env->Shared->Prop}(hQ:∀ dU:Heap,dU.Ns s.heap.objs.size (λ_=>none)->(∀ b o,s.heap.get? b=some o->dU.get? b=some o)->CellsOk dU (s.heap.objs.size + 1) (cellsFrom (s.heap.objs.size + 1) scope.names []) ->
   Q (newEnv scope s.heap.objs.size globals (M8 scope cl s.heap.objs.size) qual none .none (some outer) builtinsNs) { s with heap:=dU }) :
  wpAny M A (newFunctionEnv scope globals cl [] qual none .none (some outer)) Q E s:=by
 simp only[newFunctionEnv,Option.isSome_some,if_true];refine ae (wpAny_alloc ?_);refine ae (wpAny_layCells _ (λname kind cells=>by cases Qt:kind==NameKind.cell<;>simp[Qt]) _ _ _ _ ?_);have ok:=cellsFrom_ok scope.names (s.heap.push { cls:=.type "dict",data:=.dict #[] }) (s.heap.objs.size+1) [] ⟨λ_ _ hm=>(nomatch hm),List.Pairwise.nil⟩ (by rw[eW];exact az _);rw[eW] at ok;rw[show({ s with heap:=s.heap.push { cls:=.type "dict",data:=.dict #[] } }:Shared).heap.objs.size=s.heap.objs.size+1 from eW ..];rw[List.forIn_nil];refine ae (av (av ?_));rw[J9];exact hQ _ ((Heap.Ns.new s.heap (.type "dict")).keeps (pushCells_keeps _ _)) (λb o e=>pushCells_keeps _ _ b o (au _ e)) ok
def i0(X:Cx)(pins:List (Addr×Obj))(scope:Scope)(N':List Str)(cl:List (Str×Addr))(C:Addr)(s:Shared)(H:Hp)(fp:List Addr):Cx where
 prog:=X.prog
 w:=X.w
 K:=X.K
 mg:=X.mg
 base:=X.base
 A:=X.A
 N:=N'
 dE:=s
 jV:=H
 env:=compEnvC scope (M8 scope cl C) C X.env
 outer:=X.stack
 stack:=X.stack
 ex:=fp
 calm:=true
 fn:=λx=>decide (scope.names.lookup x=some .cell)
 pn:=X.pn++pins
 xe:=λ_ _=>False
structure dO(X:Cx)(scope:Scope)(N':List Str)(f7:List Nat)(cl:List (Str×Addr)):Prop where
 kind:scope.kind=.function
 cells:∀y∈scope.names,y.2=.cell->scope.names.lookup y.1=some .cell
 names:∀y∈scope.names,y.2=.local->scope.names.lookup y.1=some .local
 tq:closureFor scope X.env=pure cl
 cin:∀x c,cl.lookup x=some c->X.env.cells.lookup x=some c
 xE:∀x,scope.names.lookup x=some .free->∃c,cl.lookup x=some c
 nd:N'.Nodup
 Sn:∀(i j:Nat),f7[i]?=some j->∃x,N'[i]?=some x/\X.N[j]?=some x/\scope.names.lookup x=some .free/\(X.env.kindOf x=some .cell\/X.env.kindOf x=some .free)
 DW:f7.length<=N'.length
theorem K4{env:Env}:∀{names:List (Str×NameKind)} {x:Str},names.lookup x=some .free ->
  (names.map λ(n,k)=>if(k==NameKind.free&&env.scope.kind==.function&&env.kindOf n==some .cell) then(n,NameKind.cell) else(n,k)).lookup x=some .cell \/
  (names.map λ(n,k)=>if(k==NameKind.free&&env.scope.kind==.function&&env.kindOf n==some .cell) then(n,NameKind.cell) else(n,k)).lookup x=some .free
 |[],_,h=>by simp at h
 |(n,k)::r,x,h=>by
  have ih:=@K4 env r x;show List.lookup x ((if(k==NameKind.free&&env.scope.kind==.function&&env.kindOf n==some .cell)=true then(n,NameKind.cell) else(n,k))::_)=_\/List.lookup x ((if(k==NameKind.free&&env.scope.kind==.function&&env.kindOf n==some .cell)=true then(n,NameKind.cell) else(n,k))::_)=_;cases hx:x==n with
  |true =>
   simp only[List.lookup_cons,hx] at h;cases h;by_cases hc:(NameKind.free==NameKind.free&&env.scope.kind==.function&&env.kindOf n==some .cell)=true
   ·rw[aH hc];simp[List.lookup_cons,hx]
   ·rw[aE hc];simp[List.lookup_cons,hx]
  |false =>
   simp only[List.lookup_cons,hx] at h;by_cases hc:(k==NameKind.free&&env.scope.kind==.function&&env.kindOf n==some .cell)=true
   ·rw[aH hc];simp only[List.lookup_cons,hx];exact ih h
   ·rw[aE hc];simp only[List.lookup_cons,hx];exact ih h
theorem P6{env:Env}:∀{names:List (Str×NameKind)} {x:Str},((names.map λ(n,k)=>if(k==NameKind.free&&env.scope.kind==.function&&env.kindOf n==some .cell) then(n,NameKind.cell) else(n,k)).lookup x=some .cell \/
  (names.map λ(n,k)=>if (k == NameKind.free && env.scope.kind == .function && env.kindOf n == some .cell) then (n,NameKind.cell) else (n,k)).lookup x=some .free)->names.lookup x=some .free \/ names.lookup x=some .cell
 |[],_,h=>by simp at h
 |(n,k)::r,x,h=>by
  have ih:=@P6 env r x;rw[bL] at h;cases hx:x==n with
  |true =>
   simp only[List.lookup_cons,hx];by_cases hc:(k==NameKind.free&&env.scope.kind==.function&&env.kindOf n==some .cell)=true
   ·refine .inl ?_;simp only[Bool.and_eq_true,beq_iff_eq] at hc;rw[hc.1.1]
   ·simp only[if_neg hc,List.lookup_cons,hx] at h;rcases h with h|h
    ·exact .inr h
    ·exact .inl h
  |false =>
   simp only[List.lookup_cons,hx];by_cases hc:(k==NameKind.free&&env.scope.kind==.function&&env.kindOf n==some .cell)=true
   ·simp only[if_pos hc,List.lookup_cons,hx] at h;exact ih h
   ·simp only[if_neg hc,List.lookup_cons,hx] at h;exact ih h
def F7(Z:St)(f7:List Nat)(n:Nat):St:=f7.map (λj=>(Z[j]?).join)++List.replicate (n-f7.length) none
section
variable{pins:List (Addr×Obj)}{Z:St}{H:Hp}
theorem Inv.KG{h1:Heap}{tk:Nat}(I:Inv X pins Z H s)(S:dO X scope N' f7 cl)(hc:X.calm=true)(hf:∀b∈fp,F8 X pins H b)(ho:∀b∈fp,∃o,s.heap.get? b=some o)(hC:s.heap.objs.size<=C)(hn:∃m,h1.Ns C m)(k:∀b o,s.heap.get? b=some o->h1.get? b=some o)(ck:CellsOk h1 (C+1) (cellsFrom (C+1) scope.names [])) :
  Inv (i0 X pins scope N' cl C s H fp) [] (F7 Z f7 N'.length) H { s with heap:=h1,toks:=tk }:=by
 obtain⟨m,hm⟩:=hn;have Qs:(relabel scope X.env).kind=.function:=S.kind;have HF:∀b o,s.heap.get? b=some o->b≠C:=λb o e z=>absurd (aF e) (by rw[z];exact iX.mpr hC);have two:∀{x:Str} {c:Addr},(M8 scope cl C).lookup x=some c->(C<c/\h1.IsCell c none/\(x,c)∈cellsFrom (C+1) scope.names [])\/(cl.lookup x=some c/\(cellsFrom (C+1) scope.names []).lookup x=none):=λ{x c} h=>by
  unfold M8 at h;rw[M0] at h;cases e:(cellsFrom (C+1) scope.names []).lookup x with
  |some c' =>
   rw[e] at h;cases h;have hm:=aT e;exact .inl ⟨(ck.empty x c hm).2,(ck.empty x c hm).1,hm⟩
  |none =>
   rw[e] at h;exact .inr ⟨h,rfl⟩
 have vI:∀{x:Str} {c:Addr},cl.lookup x=some c->c<s.heap.objs.size:=λ{x c} h=>by
  obtain⟨v,o,e,_⟩:=I.cell x c (S.cin x c h);exact aF e
 have frees:∀{x:Str},scope.names.lookup x=some .free->(M8 scope cl C).lookup x=cl.lookup x:=λ{x} h=>by
  unfold M8;rw[M0];cases e:(cellsFrom (C+1) scope.names []).lookup x with
  |some c' =>
   have:=S.cells _ (X4 (aT e)) rfl;rw[h] at this;cases this
  |none=>rfl
 refine⟨⟨I.mod,Qs,I.ok.glob,I.ok.blt,hC,?_,?_,?_,λ_=>I.ok.hd hc,I.ok.frames,.inl rfl,?_,I.bs,?_,?_,?_,I.stack,I.Ao⟩,rfl,I.bare,Un.kept k,⟨m,hm,?_⟩,?_,?_,?_,?_,I.bZ.kept k,?_,λdg z=>absurd (show(none:Option (List (Option V)))=some dg from z) (by simp)⟩
 ·intro x y c h1 h2;rcases two h1 with⟨l1,_,q1⟩|⟨q1,_⟩<;>rcases two h2 with⟨l2,_,q2⟩|⟨q2,_⟩
  ·exact PySem.name_of_addr ck.apart q1 q2
  ·exact absurd (cW l1 (aC (vI q2) hC)) (bu _)
  ·exact absurd (cW l2 (aC (vI q1) hC)) (bu _)
  ·exact I.ok.inj x y c (S.cin x c q1) (S.cin y c q2)
 ·intro x hx;rcases P6 (env:=X.env) (names:=scope.names) hx with z|z
  ·obtain⟨c,hc⟩:=S.xE x z;exact⟨c,(frees z).trans hc⟩
  ·have q:=dR scope.names (C+1) [] (.inl z);obtain⟨c,hc⟩:=eV.mp q;refine⟨c,?_⟩;show(M8 scope cl C).lookup x=some c;unfold M8;rw[M0,hc]
   rfl
 ·intro x c hf h;have z:scope.names.lookup x=some .cell:=bh hf;have q:=dR scope.names (C+1) [] (.inl z);rcases two h with⟨l,_⟩|⟨_,e⟩
  ·exact eK (dS hC l)
  ·rw[e] at q;cases q
 ·intro b hb;obtain⟨f0,f1,f2,f3,f4,f5⟩:=hf b hb;obtain⟨o,e⟩:=ho b hb;refine⟨HF b o e,λx c h=>?_⟩;rcases two h with⟨l,_⟩|⟨q,_⟩
  ·intro z;subst z;exact absurd (cW l (aC (aF e) hC)) (bu _)
  ·exact f4 x c (S.cin x c q)
 ·exact aG I.ok.oK I.sz
 ·intro b o e hb;obtain⟨f0,f1,f2,f3,f4,f5⟩:=hf b hb;rcases f3 with f3|f3
  ·exact I.ok.kX b o e f3
  ·exact absurd (aF (I.ok.bs b o e).1) (iX.mpr f3)
 ·intro b hb z;obtain⟨f0,f1,f2,f3,f4,f5⟩:=hf b hb;rcases aL.mp (I.O2 b z) with z|z
  ·exact f1 z
  ·exact f2 z
 ·intro i x v xb h2 h3;have hi:i<f7.length:=by
   unfold F7 at h2;by_cases hi:i<f7.length
   ·exact hi
   ·rw[cC (by simpa using hi),dN] at h2;split at h2<;>cases h2
  obtain⟨j,hj⟩:∃j,f7[i]?=some j:=⟨_,ao hi⟩
  have hs:Z[j]?=some (some v):=by
   unfold F7 at h2;rw[aK (by simpa using hi),aj,hj] at h2;simp only[Option.map_some] at h2;cases e:Z[j]? with
   |none=>rw[e] at h2;cases h2
   |some a=>rw[e] at h2;exact iC some (aR h2)
  obtain⟨y,Px,Pw,uo,HX⟩:=S.Sn i j hj;have ey:y=x:=by
   have xa:N'[i]?=some x:=xb;rw[Px] at xa;exact aR xa
  subst ey;obtain⟨m0,Il,hl⟩:=I.loc;obtain ⟨u,ru,hu⟩:=hl j y v Pw hs (by
   rcases HX with z|z
   ·exact .inr (.inl z)
   ·exact .inr (.inr z))
  refine⟨u,ru,.inr ⟨K4 (env:=X.env) (names:=scope.names) uo,?_⟩⟩;rcases hu with⟨z,_⟩|⟨_,c,sH,oA⟩
  ·rcases HX with z'|z'<;>(rw[z'] at z;cases z)
  ·obtain⟨c',jJ⟩:=S.xE y uo;have e:=S.cin y c' jJ;rw[sH] at e;cases e;obtain⟨o,e1,e2⟩:=oA;exact⟨c,(frees uo).trans jJ,o,k _ _ e1,e2⟩
 ·intro x c h;rcases two h with⟨_,q,_⟩|⟨q,_⟩
  ·exact⟨none,q⟩
  ·obtain⟨v,o,e1,e2⟩:=I.cell x c (S.cin x c q);exact⟨v,o,k _ _ e1,e2⟩
 ·exact I.bZ.fresh hC
 ·intro x c h;rcases two h with⟨l,_⟩|⟨q,_⟩
  ·exact I.bZ.fresh (eK (dS hC l))
  ·exact I.eR x c (S.cin x c q)
 ·intro p hp;have kz:p∈X.pn++pins:=by simpa[i0] using hp
  obtain⟨p1,p2,p3,p4,p5⟩:=I.pin p kz;refine⟨k _ _ p1,p2,HF _ _ p1,λz=>?_,p5⟩;rcases aL.mp (I.O2 _ z) with z|z
  ·exact p3 z
  ·exact p4 z
 ·unfold F7;show _=N'.length;rw[bj,ai,jw];have:=S.DW;omega
theorem Inv.MI{jA:List (Addr×Obj)}{bU:St}{H':Hp}{s':Shared}(I:Inv X pins Z H s)(hf:∀b∈fp,F8 X pins H b)(J:Inv (i0 X pins scope N' cl C s H fp) jA bU H' s'):Inv X pins Z H' s' :=
 I.FV (ch:=fp) J.os J.base J.bZ J.bare λb hb=>by
  obtain⟨f0,f1,f2,f3,f4,f5⟩:=hf b hb;exact⟨f3,f1,f4,f5⟩
theorem Inv.bJ2{D:Addr}{ys:List V}{bo:List Value}{n:Nat}(I:Inv X pins Z H s)(f:F8 X pins H D)(hs:X.dE.heap.objs.size<=D)(hv:Vals ys bo)(hz:ys.length<=sizeLine)(ho:s.heap.get? D=some { cls:=.type "list",data:=.seq bo.toArray n }):Inv X pins Z (upd H D (.lst ys)) s:=by
 obtain⟨f0,f1,f2,f3,f4,f5⟩:=f;have ff:∀b o,X.dE.heap.get? b=some o->b≠D:=λb o e z=>absurd (aF e) (by rw[z];exact iX.mpr hs);have tup:∀b u,H b=some u->upd H D (.lst ys) b=some u:=λb u e=>by rw[i9 (p9 e f0)];exact e
 refine⟨I.ok,I.os,I.bare,⟨?_,?_,?_,I.base.there,?_,?_,?_⟩,I.loc,I.cell,?_,?_,?_,?_,I.len,I.sg⟩
 ·exact λb o e n1 n2 n3=>I.base.keep b o e n1 n2 n3
 ·exact λb o e n1 n2 n3=>I.base.slot b o e n1 n2 n3
 ·exact λb o e n1 n2=>by rw[i9 (ff b o e)];exact I.base.free b o e n1 n2
 ·exact λb xs e=>tup _ _ (I.base.jc b xs e)
 ·exact λb o u e=>tup _ _ (I.base.iP b o u e)
 ·exact λb ps e=>by
   obtain⟨more,q⟩:=I.base.jd b ps e;exact⟨more,tup _ _ q⟩
 ·rw[i9 f1.symm];exact I.free
 ·exact λx c e=>by rw[i9 (f4 x c e)];exact I.eR x c e
 ·intro p hp;obtain⟨p1,p2,p3⟩:=I.pin p hp;exact⟨p1,by rw[i9 (f5 p hp)];exact p2,p3⟩
 ·intro a o e;by_cases ha:a=D
  ·subst ha;rw[x8] at e;cases e;exact⟨hz,bo,n,hv,ho⟩
  ·rw[i9 ha] at e;have q:=I.bZ a o e;refine q.Z0 (λb u _ h=>h) (λb hb=>tup _ _ hb) (λb xs hb=>tup _ _ hb)
end
def Gf(wi:TI)(f7:List Nat)(n:Nat)(g:TG)(tc:TT)(te:TE):TE:=λZ H Q=>wi Z H λJ H1=>∃W:Nat->Nat->List V->St->Hp->Prop,(∃m,W 0 m [] (F7 Z f7 n) H1)/\∀i m ys Z H,W i m ys Z H ->
 (J.stop i H/\∀p,H p=none->Q (.ref p) (upd H p (.lst ys))) \/
 (J.go i H/\ys.length < sizeLine/\∀ x H',J.rH i H x H'->g x Z H' λcA H2=>tc cA H2 λb H3 =>
  if b=true then te cA H3 λy H4=>∃ m',m' < m/\W (i + 1) m' (ys ++ [y]) cA H4 else ∃ m',m' < m/\W (i + 1) m' ys cA H3)
noncomputable abbrev P7(bo:List Value)(n:Nat):Obj:={ cls:=.type "list",data:=.seq bo.toArray n }
section
variable{pins:List (Addr×Obj)}{Z:St}{H:Hp}
theorem KA{it:Addr}{tn:Nat->Heap->Prop}{J:It}{xx:Addr->Shared->Hp->Value->Shared->Prop}{RR:Value->Addr->Result->Shared->Prop}{E:Value->Shared->Prop}{W:Nat->Nat->List V->St->Hp->Prop}{m0:Nat}{Q:VK}(S:dO X scope N' f7 cl)(hc:X.calm=true)(hg:∀C s H,PG (i0 X pins scope N' cl C s H fp) tg g)(ht:∀C s H,mO (i0 X pins scope N' cl C s H fp) ifs tc)(he:∀C s H,PE ((i0 X pins scope N' cl C s H fp).qm (xx C s H)) elt te)(I:Inv X pins Z H s)(T:Turn X.prog X.w X.K tg J fp it tn)(st:tn 0 s.heap)(hf:∀b∈fp,F8 X pins H b)(w0:W 0 m0 [] (F7 Z f7 N'.length) H)(turn:∀ i m ys Z H,W i m ys Z H->(J.stop i H/\∀ p,H p=none->Q (.ref p) (upd H p (.lst ys))) \/
   (J.go i H/\ys.length < sizeLine/\∀ x H',J.rH i H x H'->g x Z H' λcA H2=>tc cA H2 λb H3 =>
    if b=true then te cA H3 λy H4=>∃ m',m' < m/\W (i + 1) m' (ys ++ [y]) cA H4 else ∃ m',m' < m/\W (i + 1) m' ys cA H3))(CW:∀D C s' H' m,Inv X pins Z H' s'->Q (.ref D) H'->s'.heap.Ns C m->H' C=none->s.heap.objs.size<=C->RR (.ref D) C (.ok .next) s')(QS:∀D C e s',s.heap.objs.size<=C->xx C s H e s'->notedBy (model X.prog X.w) X.A (compEnvC scope (M8 scope cl C) C X.env) (λe s'=>RR (.ref D) C (.error e) s') e s') :
  wpAny (model X.prog X.w) X.A (newList []) (λacc fk=>wpAny (model X.prog X.w) X.A (newFunctionEnv scope X.env.globals cl [] X.env.qual none .none (some X.env)) (λnj kq =>
   nj.frame=X.env.frame/\codeAny (model X.prog X.w) X.A (.compStart (.ListComp elt [⟨tg,iter,ifs,0⟩] scope pos) 0 (.ref it) acc { nj with scope:=relabel scope X.env }) (RR acc nj.locals) kq) E fk) E s:=by
 refine dI (Lx λdU gS fU oz=>?_);dsimp only at gS fU oz ⊢;generalize sO:s.heap.push { cls:=.type "list",dict:=none,data:=.seq ([]:List Value).toArray }=H2 at gS fU oz ⊢;generalize eD:s.heap.objs.size=D at *;have hC:H2.objs.size=D+1:=by rw[<- sO,eW,eD]
 generalize eC:H2.objs.size=C at *;have wX:D≠C:=by omega
 have lt:∀b o,s.heap.get? b=some o->b<D:=λb o e=>by rw[<- eD];exact aF e
 have rZ:D<=C:=by omega
 have qy:∀b o,s.heap.get? b=some o->b≠C:=λb o e=>aU (aC (lt b o e) rZ);have nY:∀b o,s.heap.get? b=some o->b≠D:=λb o e=>aU (lt b o e);have old:∀b o,s.heap.get? b=some o->dU.get? b=some o:=λb o e=>fU b o (sO▸au _ e);have mh:dU.get? D=some (P7 [] 0):=fU _ _ (by rw[<- sO,<- eD];exact aI _ rfl);have jH:∀b∈fp,∃o,s.heap.get? b=some o:=λb hb=>by
  obtain⟨o,e,_⟩:=T.obj _ _ st b hb;exact⟨o,e⟩
 have wW:D∉fp:=λhm=>by
  obtain⟨o,e⟩:=jH D hm;exact nY D o e rfl
 have X1:Inv (i0 X pins scope N' cl C s H fp) [] (F7 Z f7 N'.length) H { s with heap:=dU } :=
  I.KG S hc hf jH (by rw[eD];omega) ⟨_,gS⟩ old oz
 have vy:tn 0 dU:=T.keep _ _ _ st λb _ o e=>old b o e;have DE:∀{H':Hp},(∀b∈fp,H' b=none)->∀b∈fp,F8 (i0 X pins scope N' cl C s H fp) [] H' b:=λhn b hb=>by
  obtain⟨f0,f1,f2,f3,f4,f5⟩:=hf b hb;obtain⟨o,e⟩:=jH b hb;refine⟨hn b hb,?_,?_,.inl hb,λx c q=>(Ap oz q).elim (λl z=>absurd (cW (z▸l) (aC (lt b o e) rZ)) (bu _)) λq=>f4 x c (S.cin x c q),λp hp=>?_⟩
  ·exact qy b o e
  ·exact λz=>by
    rcases aL.mp (I.O2 b z) with z|z
    ·exact f1 z
    ·exact f2 z
  ·have kz:p∈X.pn++pins:=by simpa[i0] using hp
   exact f5 p kz
 have fD:∀{H':Hp},H' D=none->F8 (i0 X pins scope N' cl C s H fp) [] H' D:=λhn=>by
  refine⟨hn,wX,λz=>?_,.inr (by show s.heap.objs.size<=D;omega),λx c q=>?_,λp hp=>?_⟩
  ·exact absurd (I.ym (a:=D) ()) λkf=>by
    rcases aL.mp (I.O2 D z) with z|z
    ·exact absurd I.lt (by rw[<- z,eD];exact bu _)
    ·exact kf z
  ·rcases Ap oz q with l|q
   ·exact λz=>absurd (aC (z▸l) rZ) (bu _)
   ·obtain⟨v,o,e,_⟩:=I.cell x c (S.cin x c q);exact nY c o e
  ·have kz:p∈X.pn++pins:=by simpa[i0] using hp
   exact nY _ _ (I.pin p kz).1
 have rX:∀{H':Hp} {s':Shared} {bU:St} {bo:List Value} {n:Nat},Inv (i0 X pins scope N' cl C s H fp) [] bU H' s'->H' D=none->s'.heap.get? D=some (P7 bo n) ->
   Inv (i0 X pins scope N' cl C s H fp) [(D,P7 bo n)] bU H' s':=λ{H' s' bU bo n} J0 hn e=>J0.N4 λp hp=>by
  have z:p=(D,P7 bo n):=by simpa using hp
  subst z;obtain⟨f0,f1,f2,_⟩:=fD hn;exact⟨e,f0,f1,f2,λv z=>nomatch z⟩
 have pj:∀{H':Hp} {bo:List Value} {n:Nat},(∀b∈fp,H' b=none)->∀b∈fp,F8 (i0 X pins scope N' cl C s H fp) [(D,P7 bo n)] H' b:=λ{H' bo n} hn b hb=>by
  obtain⟨f0,f1,f2,f3,f4,f5⟩:=DE hn b hb;refine⟨f0,f1,f2,f3,f4,λp hp=>?_⟩;have kz:p∈(i0 X pins scope N' cl C s H fp).pn\/p=(D,P7 bo n):=by simpa using hp
  rcases kz with z|z
  ·exact f5 p (dy _ z)
  ·subst z;exact λz=>wW (by rw[show D=b from z];exact hb)
 have loop:∀fk:Shared,fk={ s with heap:=dU } ->
   codeAny (model X.prog X.w) X.A (.compLoop (.ListComp elt [⟨tg,iter,ifs,0⟩] scope pos) 0 (.ref it) (.ref D) (compEnvC scope (M8 scope cl C) C X.env)) (RR (.ref D) C) fk:=by
  rintro fk rfl;refine aK0 (λn s'=>∃ i ys bU H' bo nn,Inv (i0 X pins scope N' cl C s H fp) [] bU H' s'/\tn i s'.heap/\(∀ b ∈ fp,H' b=none)/\H' D=none/\Vals ys bo/\ys.length <= sizeLine /\
   s'.heap.get? D=some (P7 bo nn)/\W i n ys bU H') ?_ m0 ⟨0,[],_,H,[],0,X1,vy,λb hb=>(hf b hb).1,I.bZ.fresh (),.nil,cP _,mh,w0⟩
  rintro n s3 ⟨i,ys,jb,H3,bo,nn,I3,qv,qT,d3,v3,z3,o3,w3⟩;have yD:=rX I3 d3 o3;rcases turn i n ys jb H3 w3 with⟨stop,q⟩|⟨go,hz,step⟩
  ·refine cO (T.done (i0 X pins scope N' cl C s H fp) rfl rfl rfl rfl i _ s3 _ H3 _ yD (pj qT) qv stop) λr s4 ⟨hr,I4⟩=>?_;subst hr;have o4:=(I4.pin (D,P7 bo nn) (by simp)).1;have J4:Inv X pins Z H3 s4:=I.MI hf I4;have DF:F8 X pins H3 D:=by
    refine⟨d3,cc (by rw[<- eD];exact I.lt),I.ym (),.inr (by have:=I.sz;omega),λx c q=>?_,λp hp=>?_⟩
    ·obtain⟨v,o,e,_⟩:=I.cell x c q;exact nY c o e
    ·exact nY _ _ (I.pin p hp).1
   obtain⟨mC,Cr,_⟩:=I4.loc;exact CW D C s4 (upd H3 D (.lst ys)) mC (J4.bJ2 DF (by have:=I.sz;omega) v3 z3 o4) (q D d3) Cr (by rw[i9 wX.symm];exact I4.free) ()
  ·refine cO (T.item (i0 X pins scope N' cl C s H fp) rfl rfl rfl rfl i _ s3 _ H3 _ yD (pj qT) qv go) λr s4 ⟨u,hr,h4⟩=>?_;subst hr;refine cO h4 λ_ s5 bq=>?_;obtain⟨x,H5,I5,r5,y5,nU,xh⟩:=bq;have o5:=I5.pin (D,P7 bo nn) (by simp);have yC:=I5.pinned (pj xh) (T.obj _ _ nU);refine cO (hg C s H _ s5 _ H5 x u _ yC r5 (step x H5 y5)) λ_ s6 bq=>?_;obtain⟨mS,H6,I6,q6⟩:=bq;refine cO (ht C s H _ s6 mS H6 _ I6 q6) λok s7 ⟨H7,I7,q7⟩=>?_;have back:∀{vw:St} {H8:Hp} {s8:Shared},Inv (i0 X pins scope N' cl C s H fp) ([(D,P7 bo nn)]++vh fp s5.heap) vw H8 s8->(∀b∈fp,H8 b=none)/\tn (i+1) s8.heap/\H8 D=none/\s8.heap.get? D=some (P7 bo nn) :=
    λ{vw H8 s8} I8=>by
     have pf:∀b∈fp,∀o,s5.heap.get? b=some o->s8.heap.get? b=some o/\H8 b=none:=λb hb o e=>by
      have:=I8.pin (b,o) (bt _ (bt _ (U3 hb e)));exact⟨this.1,this.2.1⟩
     have pd:=I8.pin (D,P7 bo nn) (by simp);refine⟨λb hb=>?_,T.keep _ _ _ nU λb hb o e=>(pf b hb o e).1,pd.2.1,pd.1⟩;obtain⟨o,e,_⟩:=T.obj _ _ nU b hb;exact(pf b hb o e).2
   cases ok with
   |false =>
    obtain⟨m',hm,w7⟩:=q7;obtain⟨b1,b2,b3,b4⟩:=back I7;exact⟨m',hm,i+1,ys,mS,H7,bo,nn,I7.N4 λp hp=>absurd hp (by simp),b2,b1,b3,v3,z3,b4,w7⟩
   |true =>
    refine bA (he C s H _ s7 mS H7 _ (I7.qm _) q7) (λxv s8 bq=>?_) λe s' hx=>QS D C e s' () hx;obtain⟨y,H8,I8,r8,m',hm,w8⟩:=bq;have I8:=I8.GO;obtain⟨b1,b2,b3,b4⟩:=back I8;refine fG F.slot_list_append ⟨_,b4,rfl⟩ F.entry_list_append (F.args_list_append_2 _ _) (PySem.list_append D bo.toArray nn xv (by rw[aJ];have:=v3.length;omega)) ⟨b4,?_⟩;have q:∃n',(s8.heap.update D (Obj.mapSeq (·.push xv))).get? D=some (P7 (bo++[xv]) n'):=by
     have q0:=PySem.IsL.update b4 (·.push xv);have e0:bo.toArray.push xv=(bo++[xv]).toArray:=by simp
     rw[e0] at q0;exact⟨_,q0⟩
    obtain⟨n',q⟩:=q;have Hc:Inv (i0 X pins scope N' cl C s H fp) [] mS H8 s8:=I8.N4 λp hp=>absurd hp (by simp);obtain⟨f0,f1,f2,f3,f4,f5⟩:=fD (H':=H8) b3;have kp:∀b o,b≠D->s8.heap.get? b=some o->(s8.heap.update D (Obj.mapSeq (·.push xv))).get? b=some o:=λb' u hb hu=>(dj s8.heap (Obj.mapSeq (·.push xv)) (bT hb)).trans hu;refine⟨m',hm,i+1,ys++[y],mS,H8,bo++[xv],n',Hc.turned (it:=D) (t':=s8.toks) kp f0 f1 f3 f4 f5,T.keep _ _ _ b2 λb hb o e=>kp b o (λz=>wW (by rw[<- z];exact hb)) e,b1,b3,v3.append (.cons r8 .nil),?_,q,w8⟩;rw[bj,jv];omega
 exact⟨rfl,codeAny_compStart_list (loop _ rfl) (T.self _ 0 _ _ _ vy (loop _ rfl))⟩
theorem Inv.JL{h':Heap}{s2:Shared}{H2:Hp}(I:Inv X pins Z H s)(hC:s2.heap.objs.size<=C)(I2:Inv X pins Z H2 s2)(hn:H C=none)(sb:Heap.SameBut C s.heap h'):Inv X pins Z H { s with heap:=h' }:=by
 have f:=I2.rf (b:=C) (H':=H) hC hn;obtain⟨f0,f1,f2,f3,f4,f5⟩:=f;exact I.turned (t':=s.toks) (λb o hb e=>sb.extBut b o hb e) f0 f1 f3 f4 f5
theorem KI{M:Model}{E:Value->Shared->Prop}{a:Sem Value}{b:Sem Env}{P:Env->Prop}{Q:Value->Env->Shared->Prop}(h:wpAny M A a (λx s1=>wpAny M A b (λy s2=>P y/\Q x y s2) E s1) E s):wpAny M A a (λx s1=>wpAny M A b (λy s2=>Q x y s2) E s1) E s :=
 bA h (λ_ _ h=>bA h (λ_ _ h=>h.2) λ_ _ z=>z) λ_ _ z=>z
theorem Ml{wi:TI}(S:dO X scope N' f7 cl)(hc:X.calm=true)(hi:PI X tg iter wi)(hg:∀pins C s H fp,PG (i0 X pins scope N' cl C s H fp) tg g)(ht:∀pins C s H fp,mO (i0 X pins scope N' cl C s H fp) ifs tc)(he:∀pins C s H fp,PE (i0 X pins scope N' cl C s H fp) elt te)(hs:∀x,foldedSetIterable iter X.env x=pure x):PE X (.ListComp elt [⟨tg,iter,ifs,0⟩] scope pos) (Gf wi f7 N'.length g tc te):=by
 intro pins s Z H Q I h;rw[eval_ListComp];refine jr (use:=none) rfl hs S.tq S.kind S.names (cO (hi pins s Z H _ I h) λxv bW dU=>cO dU λwj fZ jG=>?_);obtain⟨it,fp,tn,J,H2,e,I2,T,lT,f2,W,⟨m0,w0⟩,turn⟩:=jG;subst e;refine KI (KA (xx:=λ_ _ _ _ _=>False) (RR:=λacc C=>compPost (model X.prog X.w) X.A X.xe none (EP X pins Z Q) acc C) S hc (λC s H=>hg pins C s H fp) (λC s H=>ht pins C s H fp) (λC s H=>he pins C s H fp) I2 T lT f2 w0 turn ?_ λ_ _ _ _ _ z=>z.elim);intro D C s' H' m I' q hn hC hsz;exact⟨m,hn,λh' sb=>⟨.ref D,H',I'.JL hsz I2 hC sb,rfl,q⟩⟩
theorem aM2{vz px:Pos}{wi:TI}{i:Nat}(S:dO X scope N' f7 cl)(hc:X.calm=true)(hi:PI X tg iter wi)(hg:∀pins C s H fp,PG (i0 X pins scope N' cl C s H fp) tg g)(ht:∀pins C s H fp,mO (i0 X pins scope N' cl C s H fp) ifs tc)(he:∀pins C s H fp,PE (i0 X pins scope N' cl C s H fp) elt te)(hs:∀x,foldedSetIterable iter X.env x=pure x)(hN:X.Nd)(sD:X.N[i]?=some x)(hx:Loc X.env.scope x)(hf:X.fn x=true\/X.env.scope.names.lookup x=some .local) :
  PS X (.Assign [.Name x px] (.ListComp elt [⟨tg,iter,ifs,0⟩] scope pos) vz) (yn (Gf wi f7 N'.length g tc te) (uT i)):=by
 intro pins s Z H D I h;have ze:∃b,swapsWith (.ListComp elt [⟨tg,iter,ifs,0⟩] scope pos) (some (.Name x px)) vz.line X.env=pure b:=⟨_,rfl⟩
 obtain⟨b,ze⟩:=ze;cases b with
 |false=>exact NP hN sD hx (Ml S hc hi hg ht he hs) ze hf pins s Z H D I h
 |true =>
  rw[exec_Assign_Name_used _ _ _ _ ze];refine ae (fq (ae ?_));show wpAny _ X.A (do let _ <- comprehension (.ListComp elt [⟨tg,iter,ifs,0⟩] scope pos) scope X.env _ (newList []) false (eval iter X.env) (some (assign (.Name x px) X.env))) _ _ s;refine ae (bA (jr (use:=some (assign (.Name x px) X.env)) (Q:=λ_ s'=>SP X pins D .next s') rfl hs S.tq S.kind S.names
   (cO (hi pins s Z H _ I h) λxv bW dU=>cO dU λwj fZ jG=>?_)) (λ_ s' hq=>av (av hq)) λ_ _ e=>e)
  obtain⟨it,fp,tn,J,H2,e,I2,T,lT,f2,W,⟨m0,w0⟩,turn⟩:=jG;subst e;refine KI (KA (xx:=λ_ _ _ _ _=>False) (Q:=λv H1=>uT i v Z H1 D.nx) (RR:=λacc C=>compPost (model X.prog X.w) X.A X.xe (some (assign (.Name x px) X.env)) (λ_ s'=>SP X pins D .next s') acc C) S hc (λC s H=>hg pins C s H fp) (λC s H=>ht pins C s H fp) (λC s H=>he pins C s H fp) I2 T lT f2 w0 turn ?_ λ_ _ _ _ _ z=>z.elim);intro Dl C s' H' m I' q hn hC hsz;show wpAny _ X.A (assign (.Name x px) X.env (.ref Dl)) _ _ _;refine wpAny_assign_Name (Kv I' hN sD hx (v:=.ref Dl) rfl (λs3 I3 ⟨a,sb,ha⟩=>?_) hf);have QV:C≠a:=by
   obtain⟨f0,f1,f2,f3,f4,f5⟩:=I2.rf (b:=C) (H':=H') hsz hC;rcases ha with z|z
   ·rw[z];exact f1
   ·exact λz'=>f4 _ _ z z'.symm
  obtain⟨f0,f1,f2,f3,f4,f5⟩:=I2.rf (b:=C) (H':=H') hsz hC;refine⟨m,hn.sameBut sb QV,λh3 OR=>⟨_,H',I3.turned (t':=s3.toks) (λb o hb e=>OR.extBut b o hb e) f0 f1 f3 f4 f5,q⟩⟩
end
end L2
namespace HT
open PySem PyProof.Rows
section
variable{prog:Program}{w:World}{A:Around}{E:Value->Shared->Prop}{s:Shared}
theorem VC{t b:Addr}{ws:List Value}{Q:Value->Shared->Prop}(ht:IsTup s.heap t #[])(hb:IsTup s.heap b ws.toArray)(h1:Q (.ref b) s):wpAny (model prog w) A (binaryOp .Add (.ref t) (.ref b)) Q E s:=by
 obtain⟨⟨cls,dd,data,sl⟩,ho,hc,n,hd⟩:=id ht;obtain⟨⟨xD,qV,data2,my⟩,jI,oA,n2,hd2⟩:=id hb;simp only at hc hd oA hd2;subst hc hd oA hd2;exact concat_meets ⟨_,ho,rfl⟩ ⟨_,jI,rfl⟩ jQ nt iW iD (hZ _ _)
   (tuple_addW0 t b #[] ws.toArray n n2 dd qV sl my rfl) ⟨ho,jI,h1⟩
theorem ah1{t sl:Addr}{items:Array Value}{vl vu:Value}{lo hi:Option Int}{Q:Value->Shared->Prop}(ht:IsTup s.heap t items)(hs:s.heap.IsSliceOf sl vl vu .none)(pl:IsPart vl lo)(pu:IsPart vu hi)(hw:dQ items.size 0 lo=0/\dQ items.size items.size hi=items.size)(h:Q (.ref t) s):wpAny (model prog w) A (getItem (.ref t) (.ref sl)) Q E s:=by
 obtain⟨os,sk,zp,wG⟩:=id hs;have CT:s.TypeIs (.ref sl) "slice":=⟨os,sk,zp⟩
 unfold getItem
 try with_reducible refine cI ?_
 first|refine ae (av ?_)|skip
 refine ae (wpAny_sequenceKey ht.typeIs ∅ ?_);refine ae (fI (name:=Str.ofString "__getitem__") ht.typeIs bS
  (dk bS ht.typeIs entry_tuple_getitem ?_ (args_tuple_getitem _ _)))
 show wpAny _ _ (Builtin.Tuple.tupleItemsOf (.ref t) >>= _) _ _ s;refine ae (tupleItemsOf_ ht ?_);refine ae (fR CT ?_);rw[aH ∅];refine ae (V9 hs pl pu ?_);have BW:((((dQ items.size 0 lo:Nat):Int)==0&&(1:Int)==1&&(dQ items.size items.size hi-dQ items.size 0 lo)==items.size)=true):=by
  rw[hw.1,hw.2];simp
 show wpAny _ _ (if(((dQ items.size 0 lo:Nat):Int)==0&&(1:Int)==1&&(dQ items.size items.size hi-dQ items.size 0 lo)==items.size)=true then _ else _) _ _ s;rw[aH BW];obtain⟨o,ho,hc,_⟩:=id ht;unfold Builtin.Tuple.tupleIsExact;refine ae (ae (fR ht.typeIs (av ?_)));rw[aH ∅]
 first
  |exact wpAny_bind (wpAny_rule (wpAny_bind (wpAny_pure ⟨_,rfl,wpAny_pure h⟩)))
  |exact wpAny_bind (wpAny_rule (wpAny_pure ⟨_,rfl,wpAny_pure h⟩))
  |exact wpAny_bind (wpAny_rule (wpAny_bind (wpAny_pure (wpAny_pure ⟨_,rfl,wpAny_pure h⟩))))
end
end HT
namespace L2
open PySem PySem.Spec PyProof.Rows
section
variable{X:Cx}
def Sq(K:PySem.W.Frag):R2:=λx y H Q=>∃a b xs ys,x=.ref a/\y=.ref b/\jo K H a xs/\jo K H b ys/\xs.length+ys.length<=sizeLine /\
 (xs=[]->Q (.ref b) H)/\(ys=[]->Q (.ref a) H)/\(∀p,H p=none->Q (.ref p) (upd H p (.tup (xs++ys))))
theorem Wf:fY X (binaryOp .Add) (Sq X.K):=by
 intro pins s Z H x y v u Q I rx ry h;obtain⟨a,b,xs,ys,rfl,rfl,ha,hb,hz,q0,q1,q2⟩:=h;by_cases hx:xs=[]
 ·subst hx;cases rx;cases ry;obtain⟨bo,r1,p1,_⟩:=I.tuple ha;obtain⟨og,r2,p2,_⟩:=I.tuple hb;cases r1;exact HT.VC p1 p2 ⟨.ref b,H,I,rfl,q0 rfl⟩
 ·exact Uu pins s Z H _ _ v u Q I rx ry ⟨a,b,xs,ys,rfl,rfl,ha,hb,hx,hz,q1,λ_=>q2⟩
def ZV(K:PySem.W.Frag):V->Option Int->Option Int->Hp->VK->Prop:=λx lo hi H Q=>∃a xs,x=.ref a/\jo K H a xs /\
 (X3 xs lo hi=xs->Q (.ref a) H)/\∀p,H p=none->Q (.ref p) (upd H p (.tup (X3 xs lo hi)))
theorem Vh:yw X (ZV X.K):=by
 intro pins s Z H x v vl vu lo hi sl Q I rx hs pl pu h;obtain⟨a,xs,rfl,hx,q0,q⟩:=h;by_cases hw:HT.dQ xs.length 0 lo=0/\HT.dQ xs.length xs.length hi=xs.length
 ·cases rx;obtain⟨bo,r,ht,hz⟩:=I.tuple hx;have hlen:bo.toArray.size=xs.length:=by rw[aJ];exact r.length.symm
  refine⟨"tuple",_,bS.lookup,ht.typeIs,?_⟩;exact HT.ah1 ht hs pl pu (by rw[hlen];exact hw) ⟨.ref a,H,I,rfl,q0 (by unfold X3;rw[hw.1,hw.2];simp)⟩
 ·exact SK pins s Z H _ v vl vu lo hi sl Q I rx hs pl pu ⟨a,xs,rfl,hx,hw,q⟩
theorem aN3:q9 X (.builtin "isinstance") (λxs H Q=>∃x t c b,xs=[x,.ty c]/\ik X.K H x t/\PySem.W.kitOne X.K t (.type c)=some b/\Q (.bl b) H):=by
 intro pins s Z H xs us Q I r h;obtain⟨x,t,c,b,rfl,hT,hk,q⟩:=h;obtain⟨u,w',rfl,ru,fX⟩:=vals2 r;cases (show w'=Value.type c from fX);exact a53 I ru hT hk λtk=>⟨.bl b,H,I.tok tk,rfl,q⟩
theorem a79(hc:X.calm=true):q9 X (.builtin "all") (λxs H Q=>∃(a:Addr) (bs:List Bool),xs=[.ref a]/\fO X.K H a (bs.map V.bl)/\Q (.bl (bs.all id)) H):=by
 intro pins s Z H xs us Q I r h;obtain⟨a,bs,rfl,ha,q⟩:=h;obtain⟨u,rfl,ru⟩:=vals1 r;cases ru;obtain⟨bo,rv,p,hz⟩:=I.list ha;refine call_all_walk ?_;refine fS p.isList ?_;have ff:a≠s.heap.objs.size:=by
  obtain⟨o,e,_⟩:=id p.isList;exact aU (aF e)
 have hl:=rv.length;rw[ai] at hl;refine⟨s.heap.objs.size,_,_,_,_,_,λi=>bs.getD i true,rfl,Bf (A:=X.A.in1) (I.ok.hd hc) _ a ff bo.toArray,⟨⟨_,aI _ rfl,rfl,rfl⟩,?_⟩,?_,λh' tk k=>?_⟩
 ·obtain⟨o,e,q1⟩:=id p.isList;exact⟨o,au _ e,q1⟩
 ·intro i v s' Q' E' hP hQ;have hv:bo[i]?=some v:=by simpa using hP
  have hi:i<bs.length:=by rw[hl];exact(ak.mp hv).1
  obtain⟨u',qH,vF⟩:=rv.get (i:=i) (x:=V.bl bs[i]) (by rw[aj,ao hi];rfl);rw[hv] at qH;cases qH;cases (show v=Value.bool bs[i] from vF);refine cw ?_;have:bs.getD i true=bs[i]:=by simp[List.getD,hi]
  dsimp only at hQ;rw[this] at hQ;exact hQ
 ·have e1:(List.range bo.toArray.size).all (λi=>bs.getD i true)=bs.all id:=by
   rw[aJ,<- hl];rw[aS];simp only[List.all_eq_true,List.mem_range,id];constructor
   ·intro hh x hx;obtain⟨i,hi,rfl⟩:=bI.mp hx;have:=hh i hi;simpa[List.getD,hi] using this
   ·intro hh i hi;have:=hh bs[i] (cg hi);simpa[List.getD,hi] using this
  rw[e1];exact ⟨.bl (bs.all id),H,I.kept (t':=tk) λb o e=>k b o (by
   intro hb;have:b=s.heap.objs.size:=by simpa using hb
   exact absurd (aF e) (by rw [this];exact bu _)) (au _ e),rfl,q⟩
end
end L2
namespace HT
open PySem PyProof.Rows
end HT
namespace L2
open PySem PySem.Spec PyProof.Rows
variable{X:Cx}{pos p:Pos}{w:World}{H H':Hp}{Z:St}{s s':Shared}{B:Heap}{ea C:Addr}{a0:Value}{ta:TA}
theorem t8.get{P:Program}{h:Heap}{a:Addr}:∀{o:HO},t8 P w H h a o->∃ob,h.get? a=some ob
 |.lst _,x=>by obtain⟨_,_,_,_,e⟩:=x;exact⟨_,e⟩
 |.tup _,x=>by obtain⟨_,_,_,o,e,_⟩:=x;exact⟨o,e⟩
 |.dK _,x=>by obtain⟨_,_,_,_,o,es,ep,e,_⟩:=x;exact⟨o,e⟩
 |.dT _,x=>by obtain⟨_,_,_,_,o,es,ep,e,_⟩:=x;exact⟨o,e⟩
 |.set _ _,x=>by obtain⟨o,es,ep,t,e,_⟩:=x;exact⟨o,e⟩
 |.ins _ _ _,x=>by obtain⟨_,_,_,e,_⟩:=x;exact⟨_,e⟩
 |.own _,x=>x
 |.xd _,x=>by obtain⟨mA,n,_⟩:=x;obtain⟨od,e,_⟩:=Km n;exact⟨od,e⟩
 |.nC _ _,x=>by obtain⟨_,_,_,e⟩:=x;exact⟨_,e⟩
 |.kB _ _,x=>⟨_,x.1⟩
 |.lS _,x=>⟨_,x⟩
 |.met _ _,x=>⟨_,x⟩
 |.ext _,x=>x.2.1
def FL(H':Hp)(h0:Heap)(l:List Env)(e:Value)(C:Addr)(h:Heap):Prop :=
 ∃(ea:Addr) (a0:Value) (B:Heap),e=.ref ea/\Heap.FlyingW B l ea (.ref C) a0 h/\∀b o,h.get? b=some o->b∉gg l->(H' b≠none\/∃o0,h0.get? b=some o0)->B.get? b=some o
def jM(P:Program)(w:World):oQ:=λouter H s E e s'=>∃(C:Addr) (H':Hp),s'.os=s.os/\AllBare s'.gens/\Un (gg outer) [] H H' s.heap s'.heap/\gz P w H' s'.heap/\FL H' s.heap outer e C s'.heap/\E (.ref C) none H'
section
variable{pins:List (Addr×Obj)}{E:XK}{e:Value}
theorem Inv.flew(I:Inv X pins Z H s)(h:jM X.prog X.w X.stack H s E e s'):∃C H',Inv X pins Z H' s'/\FL H' s.heap X.stack e C s'.heap/\E (.ref C) none H':=by
 obtain⟨C,H',ho,hb,hu,bZ,fl,hE⟩:=h;exact⟨C,H',I.FV (ch:=[]) ho hu bZ hb (by simp),fl,hE⟩
theorem Aq(I:Inv X pins Z H s){b:Addr}(hb:b∈gg X.stack):∃o,s.heap.get? b=some o/\∀vs,o.data≠.fields vs:=(I.stack.mem hb).2
theorem FX{pb:Heap}(I:Inv X pins Z H s)(eB:X.stack=X.env::X.outer)(hex:X.ex=[])(hf:X.env.frame=some X.env.locals)(uj:∀b o,s.heap.get? b=some o->b∉gg X.stack->(H b≠none\/∃o0,X.dE.heap.get? b=some o0)->B.get? b=some o)(sl:∀b∈gg X.stack,∀o,s.heap.get? b=some o->∃sl,pb.get? b=some { o with slots:=sl })(fw:Heap.FlyingW B X.outer ea (.ref C) a0 pb)(hE:E (.ref C) none H):jM X.prog X.w X.outer X.jV X.dE E (.ref ea) { s with heap:=pb }:=by
 have Ca:∀b,b∈gg X.outer->b∈gg X.stack:=λb hb=>by rw[eB];unfold gg at hb ⊢;rw[eP,hf];exact bx _ hb
 have vM:∀b o,X.dE.heap.get? b=some o->b∉gg X.outer->b∉gg X.stack:=λb o e hb z=>by
  rcases aL.mp (I.O2 b z) with z|z
  ·exact absurd (aF e) (by rw[z];exact iX.mpr I.ok.above)
  ·exact hb z
 have pN:∀b u,H b=some u->b∉gg X.stack:=λb u e z=>by rw[I.Ao b z] at e;cases e
 have kept:∀b o,s.heap.get? b=some o->b∉gg X.stack->(H b≠none\/∃o0,X.dE.heap.get? b=some o0)->pb.get? b=some o:=λb o e n q=>fw.1 b o (uj b o e n q);have vO:∀b,b∉X.ex:=λb=>by rw[hex];simp
 refine⟨C,H,I.os,I.bare,⟨?_,?_,?_,?_,I.base.jc,I.base.iP,I.base.jd⟩,?_,⟨ea,a0,B,rfl,fw,?_⟩,hE⟩
 ·exact λb o e n1 n2 _=>kept b o (I.base.keep b o e n1 n2 (vO b)) (vM b o e n2) (.inr ⟨o,e⟩)
 ·intro b o e n1 n2 _;obtain⟨OP,e1⟩:=I.base.slot b o e n1 n2 (vO b);obtain⟨my,e2⟩:=sl b (Ca b n2) _ e1;exact⟨my,e2⟩
 ·exact λb o e n1 _=>I.base.free b o e n1 (vO b)
 ·intro b o e _;obtain⟨o1,e1⟩:=I.base.there b o e (vO b);by_cases hb:b∈gg X.stack
  ·obtain⟨my,e2⟩:=sl b hb _ e1;exact⟨_,e2⟩
  ·exact⟨o1,kept b o1 e1 hb (.inr ⟨o,e⟩)⟩
 ·intro a o e;exact (I.bZ a o e).Z0 (λb u hb q=>by
   have lI:∃v,H b=some v:=by
    rcases hb with rfl|hb
    ·exact⟨o,e⟩
    ·exact⟨_,hb⟩
   obtain⟨v,hv⟩:=lI;exact kept b u q (pN b v hv) (.inl (by rw [hv];simp))) (λb hb=>hb) (λb xs hb=>hb)
 ·intro b o e n q;rcases q with q|⟨o0,q⟩
  ·obtain⟨v,hv⟩:=pJ.mp q;obtain⟨o1,e1⟩:=(I.bZ b v hv).get;have z:=uj b o1 e1 (pN b v hv) (.inl (by rw[hv];simp));have z':=fw.1 b o1 z;have:o=o1:=by
    have e':pb.get? b=some o:=e;rw[z'] at e';exact(aR e').symm
   subst this;exact z
  ·obtain⟨o1,e1⟩:=I.base.there b o0 q (vO b);have z:=uj b o1 e1 (vM b o0 q n) (.inr ⟨o0,q⟩);have z':=fw.1 b o1 z;have:o=o1:=by
    have e':pb.get? b=some o:=e;rw[z'] at e';exact(aR e').symm
   subst this;exact z
theorem aI4{h0:Heap}{Ex:Value->Shared->Prop}(I:Inv X pins Z H s)(fl:FL H h0 X.stack e C s.heap)(Rv:∀b o,X.dE.heap.get? b=some o->∃o',h0.get? b=some o')(eB:X.stack=X.env::X.outer)(hex:X.ex=[])(hf:X.env.frame=some X.env.locals)(hE:E (.ref C) none H):wpAny (model X.prog X.w) X.A (leaving X.env e) (λ_ pO=>jM X.prog X.w X.outer X.jV X.dE E e pO) Ex s:=by
 obtain⟨ea,a0,B,rfl,fw,hB⟩:=fl;have fw0:=fw;rw[eB] at fw;refine wpAny_leaves_onW (by rw[I.ok.frames,eB]) hf fw λpb zD us=>?_;refine FX I eB hex hf (λb o e n q=>hB b o e n (q.imp id λ⟨o0,q⟩=>Rv b o0 q)) (λb hb o e=>?_) zD hE;obtain⟨o1,e1,nf⟩:=Aq I hb;rw[e] at e1;cases e1;exact us b o e nf
theorem aV3{h':Heap}{vs:List Value}{Ex:Value->Shared->Prop}(I:Inv X pins Z H s)(hx:Heap.MadeExcOf s.heap h' ea (.ref C) vs)(eB:X.stack=X.env::X.outer)(hex:X.ex=[])(hf:X.env.frame=some X.env.locals)(hE:E (.ref C) none H):wpAny (model X.prog X.w) X.A (leaving X.env (.ref ea)) (λ_ pO=>jM X.prog X.w X.outer X.jV X.dE E (.ref ea) pO) Ex { s with heap:=h' }:=by
 have uv:=I.stack;rw[eB] at uv;have ki:∀env∈(X.env::X.outer),∀b,env.frame=some b->b∈gg X.stack:=λenv he b hb=>by rw[eB];exact kM.mpr ⟨env,he,hb⟩
 refine wpAny_leaves_madeW (s:={ s with heap:=h' }) (base:=PySem.W.hideAll s.heap (gg X.stack)) (h:=s.heap) (by rw[I.ok.frames,eB]) hf (λb o q=>Oh _ q) (PySem.W.funFrames_hide uv ki) hx λpb t fw _ _ us=>?_;refine(show jM X.prog X.w X.outer X.jV X.dE E (.ref ea) { s with heap:=pb } from FX I eB hex hf (λb o e n _=>Hg _ e n) (λb hb o e=>?_) fw hE);obtain⟨o1,e1,nf⟩:=Aq I hb;rw[e] at e1;cases e1;exact us b o (hx.keeps b o e) nf
theorem a91{l:List Env}{h0 h h1:Heap}{Pg:Program}(u:Un (gg l) [] H H' h0 h)(ok:gz Pg w H' h)(hB:∀b o,h.get? b=some o->b∉gg l->(H' b≠none\/∃o0,h0.get? b=some o0)->B.get? b=some o)(st:B.StaysIn h1)(us:h.UpToSlots h1)(Iw:∀b∈gg l,H' b=none/\∃o,h.get? b=some o/\∀vs,o.data≠.fields vs):Un (gg l) [] H H' h0 h1/\gz Pg w H' h1/\∀b o,h1.get? b=some o->b∉gg l->(H' b≠none\/∃o0,h0.get? b=some o0)->B.get? b=some o:=by
 have pN:∀b u,H' b=some u->b∉gg l:=λb u e z=>by rw[(Iw b z).1] at e;cases e
 have kept:∀b o,h.get? b=some o->b∉gg l->(H' b≠none\/∃o0,h0.get? b=some o0)->h1.get? b=some o:=λb o e n q=>st b o (hB b o e n q);have Ja:∀b∈gg l,∀o,h.get? b=some o->∃sl,h1.get? b=some { o with slots:=sl }:=λb hb o e=>by
  obtain⟨_,o1,e1,nf⟩:=Iw b hb;rw[e] at e1;cases e1;exact us b o e nf
 refine⟨⟨?_,?_,u.free,?_,u.jc,u.iP,u.jd⟩,?_,?_⟩
 ·exact λb o e n1 n2 n3=>kept b o (u.keep b o e n1 n2 n3) n2 (.inr ⟨o,e⟩)
 ·intro b o e n1 n2 n3;obtain⟨OP,e1⟩:=u.slot b o e n1 n2 n3;obtain⟨my,e2⟩:=Ja b n2 _ e1;exact⟨my,e2⟩
 ·intro b o e n;obtain⟨o1,e1⟩:=u.there b o e n;by_cases hb:b∈gg l
  ·obtain⟨my,e2⟩:=Ja b hb _ e1;exact⟨_,e2⟩
  ·exact⟨o1,kept b o1 e1 hb (.inr ⟨o,e⟩)⟩
 ·intro a o e;exact (ok a o e).Z0 (λb u hb q=>by
   have lI:∃v,H' b=some v:=by
    rcases hb with rfl|hb
    ·exact⟨o,e⟩
    ·exact⟨_,hb⟩
   obtain⟨v,hv⟩:=lI;exact kept b u q (pN b v hv) (.inl (by rw [hv];simp))) (λb hb=>hb) (λb xs hb=>hb)
 ·intro b o e n q;have:∃o1,h.get? b=some o1:=by
   rcases q with q|⟨o0,q⟩
   ·obtain⟨v,hv⟩:=pJ.mp q;exact(ok b v hv).get
   ·exact u.there b o0 q (by simp)
  obtain⟨o1,e1⟩:=this;have z:=hB b o1 e1 n q;rw[st b o1 z] at e;cases e;exact z
structure Lies(X:Cx)(H H':Hp)(s:Shared)(B:Heap)(ea C:Addr)(a0:Value)(s':Shared):Prop where
 os:s'.os=s.os
 bare:AllBare s'.gens
 un:Un (gg X.stack) [] H H' s.heap s'.heap
 bZ:gz X.prog X.w H' s'.heap
 uj:∀b o,s'.heap.get? b=some o->b∉gg X.stack->(H' b≠none\/∃o0,s.heap.get? b=some o0)->B.get? b=some o
theorem Lies.inv(I:Inv X pins Z H s)(l:Lies X H H' s B ea C a0 s'):Inv X pins Z H' s':=I.FV (ch:=[]) l.os l.un l.bZ l.bare (by simp)
theorem leave_held{Ex:Value->Shared->Prop}(I:Inv X pins Z H s)(l:Lies X H H' s B ea C a0 s')(hh:Heap.HeldW B X.stack ea (.ref C) a0 X.env.locals s'.heap)(eB:X.stack=X.env::X.outer)(hex:X.ex=[])(hf:X.env.frame=some X.env.locals)(hE:E (.ref C) none H'):wpAny (model X.prog X.w) X.A (leaving X.env (.ref ea)) (λ_ pO=>jM X.prog X.w X.outer X.jV X.dE E (.ref ea) pO) Ex s':=by
 have J:=l.inv I;have CC:=hh;rw[eB] at CC;unfold leaving;refine ae (wpAny_noteFrame_againW hf CC.2.2.2 ?_);refine wpAny_landsW CC λpb fl us=>?_;obtain⟨k1,k2,⟨_,_,k3⟩,k4⟩:=fl;refine FX J eB hex hf (λb o e n q=>l.uj b o e n (q.imp id λ⟨o0,q⟩=>I.base.there b o0 q (by rw[hex];simp))) (λb hb o e=>?_) ⟨k1,k2,k3,k4⟩ hE;obtain⟨o1,e1,nf⟩:=Aq J hb;rw[e] at e1;cases e1;exact us b o e nf
def zX(X:Cx)(Ξ:XK):Prop:=∀(pins:List (Addr×Obj)) (Z:St) (H:Hp) (s:Shared) (h':Heap) (ea C:Addr) (vs:List Value),Inv X pins Z H s->Heap.MadeExcOf s.heap h' ea (.ref C) vs->Ξ (.ref C) none H->X.xe (.ref ea) { s with heap:=h' }
def X6(X:Cx)(Ξ:XK):Prop:=∀(pins:List (Addr×Obj)) (Z:St) (H H':Hp) (s s':Shared) (B:Heap) (ea C:Addr) (a0:Value),Inv X pins Z H s->Lies X H H' s B ea C a0 s'->Heap.HeldW B X.stack ea (.ref C) a0 X.env.locals s'.heap->Ξ (.ref C) none H'->X.xe (.ref ea) s'
def Td(C:Addr)(Ξ:XK)(t:TA):TS:=λ_ Z H=>t Z H λvs H1=>vs.length<=sizeLine/\Ξ (.ref C) none H1
theorem Wt{x:Str}{B newId gR:String}{bm:List Value}{np eT:Pos}{kC:Expr}{rest:List Expr}{t:TA}{Ξ:XK}(hc:X.calm=true)(O:OwnCls x C bm newId X.mg X.base)(FB:ExcBaseFacts B newId gR bm)(hg:Gl X x)(ha:PA X (kC::rest) t)(hr:zX X Ξ)(he:starEach (kC::rest) X.env=(false,eval kC X.env)::starEach rest X.env)(fm:(backTo eT (starEach rest X.env)).any (·.1)=false)(hd:(x==("__debug__":Str))=false) :
  PS X (.Raise (some (.Call (.Name x np) (kC::rest) [] eT)) none pos) (Td C Ξ t):=by
 intro pins s Z H D I h;obtain⟨tl,N,nm,q,bs,hdct,sn,sub,ab,col,dd,k0,k1,k2,k3,k5,mN,hC,hN,zh,T⟩:=O.obj;refine wpAny_Raise_call_subT (C:=C) (nm:=nm) (q:=q) (N:=N) (bs:=bs) (bm:=tl) (hdct:=hdct) (sn:=sn) (sub:=sub) (ab:=ab) (col:=col) (dd:=dd) (k0:=k0) (k1:=k1) (k2:=k2) (k3:=k3) (k5:=k5)
  FB (mN:=mN) (T.hasType FB.hasBase) (I.ok.hd hc) (by rw[he];show(false||(backTo eT (starEach rest X.env)).any (·.1))=false;rw[fm];rfl) zh (P9 I hg O.bound ⟨rfl,?_⟩ hd)
 have h':=ha eT pins s Z H _ I h;rw[he] at h' ⊢;refine lP (bA h' (λvs fZ jG=>?_) λ_ _ y=>y);obtain⟨ws,H1,I1,rv,hz,hE⟩:=jG;exact⟨rfl,by rw[<- rv.length];exact hz,I1.bk _ _ hC,hN.keeps I1.bk,T.keeps I1.bk,λh2 ea hm=>hr pins Z H1 fZ h2 ea C vs I1 hm hE⟩
def M6(X:Cx)(pins:List (Addr×Obj))(xe:Value->Shared->Prop)(o:Option St:=none):Cx:={ X with pn:=X.pn++pins,xe:=xe,sg:=o }
def v5(X:Cx)(ea:Addr):Cx:={ X with A:=X.A.mark (some (.ref ea)),calm:=false,xe:=λ_ _=>False,sg:=none }
theorem Inv.bJ3{xe:Value->Shared->Prop}{o:Option St}(ho:∀τ,o=some τ->Z=τ)(I:Inv X pins Z H s):Inv (M6 X pins xe o) [] Z H s :=
 ⟨⟨I.ok.mod,I.ok.kind,I.ok.glob,I.ok.blt,I.ok.above,I.ok.inj,I.ok.has,I.ok.qW,I.ok.hd,I.ok.frames,I.ok.rK,I.ok.xk,I.ok.bs,I.ok.oK,I.ok.kX,I.ok.ml,I.ok.M7,I.ok.ph⟩,I.os,I.bare,I.base,I.loc,I.cell,I.free,I.eR,
  λp hp=>I.pin p (by simpa [M6] using hp),I.bZ,I.len,ho⟩
theorem Inv.tP{xe:Value->Shared->Prop}{o:Option St}{jA:List (Addr×Obj)}(hs:X.sg=none)(I:Inv (M6 X pins xe o) jA Z H s):Inv X pins Z H s :=
 ⟨⟨I.ok.mod,I.ok.kind,I.ok.glob,I.ok.blt,I.ok.above,I.ok.inj,I.ok.has,I.ok.qW,I.ok.hd,I.ok.frames,I.ok.rK,I.ok.xk,I.ok.bs,I.ok.oK,I.ok.kX,I.ok.ml,I.ok.M7,I.ok.ph⟩,I.os,I.bare,I.base,I.loc,I.cell,I.free,I.eR,
  λp hp=>I.pin p (dy _ hp),I.bZ,I.len,λ_ z=>by rw [hs] at z;cases z⟩
theorem Inv.LK(I:Inv X pins Z H s):Inv (v5 X ea) pins Z H s :=
 ⟨⟨I.ok.mod,I.ok.kind,I.ok.glob,I.ok.blt,I.ok.above,I.ok.inj,I.ok.has,I.ok.qW,λz=>(by cases z),I.ok.frames,I.ok.rK,I.ok.xk,I.ok.bs,I.ok.oK,I.ok.kX,I.ok.ml,I.ok.M7,I.ok.ph⟩,I.os,I.bare,I.base,I.loc,I.cell,I.free,I.eR,I.pin,I.bZ,I.len,λdg z=>absurd (show(none:Option St)=some dg from z) (by simp)⟩
theorem Inv.ve(hs:X.sg=none)(J:X.Ok)(I:Inv (v5 X ea) pins Z H s):Inv X pins Z H s :=
 ⟨J,I.os,I.bare,I.base,I.loc,I.cell,I.free,I.eR,I.pin,I.bZ,I.len,λ_ z=>by rw[hs] at z;cases z⟩
theorem SP.tP{xe:Value->Shared->Prop}{o:Option St}{D:Ends}{f:Flow}(hs:X.sg=none)(h:SP (M6 X pins xe o) [] D f s):SP X pins D f s:=by
 cases f with
 |next=>obtain⟨a,b,I,q⟩:=h;exact⟨a,b,I.tP hs,q⟩
 |brk=>obtain⟨a,b,I,q⟩:=h;exact⟨a,b,I.tP hs,q⟩
 |cont=>obtain⟨a,b,I,q⟩:=h;exact⟨a,b,I.tP hs,q⟩
 |ret u=>obtain⟨v,a,b,I,r,q⟩:=h;exact⟨v,a,b,I.tP hs,r,q⟩
theorem SP.ve{ea:Addr}{D:Ends}{f:Flow}(hs:X.sg=none)(J:X.Ok)(h:SP (v5 X ea) pins D f s):SP X pins D f s:=by
 cases f with
 |next=>obtain⟨a,b,I,q⟩:=h;exact⟨a,b,I.ve hs J,q⟩
 |brk=>obtain⟨a,b,I,q⟩:=h;exact⟨a,b,I.ve hs J,q⟩
 |cont=>obtain⟨a,b,I,q⟩:=h;exact⟨a,b,I.ve hs J,q⟩
 |ret u=>obtain⟨v,a,b,I,r,q⟩:=h;exact⟨v,a,b,I.ve hs J,r,q⟩
def tL(X:Cx)(D:Ends)(dg:St)(C:Addr)(H:Hp):List ExceptHandler->Prop
 |.ExceptHandler (some (.Name x _)) none (kE::ie) _::rest=>Gl X x/\(x==("__debug__":Str))=false/\∃C' b,X.mg x=some (.ref C')/\PySem.W.exmOne X.K (.ref C) (.ref C')=some b /\
   (if b=true then ∃t:TS,(∀ea,jL (v5 X ea) (kE::ie) t)/\t D dg H else tL X D dg C H rest)
 |[]=>∃Ξ:XK,X6 X Ξ/\Ξ (.ref C) none H
 |_=>False
end
section
variable{pins:List (Addr×Obj)}{e:Value}{D:Ends}
def tR(X:Cx)(pins:List (Addr×Obj))(D:Ends)(hs:List ExceptHandler):Value->Shared->Prop:=λe bW =>
 wpAny (model X.prog X.w) X.A (noteFrame e X.env) (λ_ fZ=>wpAny (model X.prog X.w) X.A (setFlight e none) (λ_ fk=>wpAny (model X.prog X.w) X.A (handleBy e X.env hs) (SP X pins D) X.xe fk) X.xe fZ) X.xe bW
theorem Lies.step{h1:Heap}(I:Inv X pins Z H s)(l:Lies X H H' s B ea C a0 s')(st:B.StaysIn h1)(us:s'.heap.UpToSlots h1):Lies X H H' s B ea C a0 { s' with heap:=h1 }:=by
 have J:=l.inv I;obtain⟨u,ok,ib⟩:=a91 l.un l.bZ l.uj st us λb hb=>⟨J.Ao b hb,Aq J hb⟩
 exact⟨l.os,l.bare,u,ok,ib⟩
theorem aM8{l:List Env}{L:Addr}{cls:Value}{A:Around}{M:Model}{E:Value->Shared->Prop}{Q:Unit->Shared->Prop}(fw:Heap.FlyingW B l ea cls a0 s.heap)(h:∀h',Heap.HeldW B l ea cls a0 L h'->(∀b o,s.heap.get? b=some o->(∀vs,o.data≠.fields vs)->h'.get? b=some o)->Q Unit.unit { s with heap:=h' }):wpAny M A (setFlight (.ref ea) (some L)) Q E s:=by
 obtain⟨f1,f2,f3,oe,vs,T,oT,ts,he,pW,hd,h1,Ii,IJ,hT,zo,h3⟩:=fw;have wo:3<ts.size:=(Array.getElem?_eq_some_iff.mp h3).1;have other:∀b,b≠T->(s.heap.update T (Obj.mapFields (·.setIfInBounds 3 ((some L).elim Value.none λf=>rawInt f)))).get? b=s.heap.get? b :=
  λb hb=>dj _ _ (bT hb)
 have kY:∀b o,s.heap.get? b=some o->(∀vs,o.data≠.fields vs)->b≠T:=λb o hb wy q=>by
  rw[q,hT] at hb;injection hb with hb;subst hb;exact wy ts zo
 unfold setFlight;refine ae (lL he hd h1 ?_);rw[aH (show(Value.ref T != Value.none)=true from by simp)];refine dX hT zo wo (h _ ⟨λb o CH=>(other b λq=>by rw [q,Ii] at CH;cases CH).trans (f1 b o CH),f2,
  f3.of_keeps λb o hb wy=>⟨o,(other b (kY b o hb wy)).trans hb,rfl⟩,?_⟩ λb o hb wy=>(other b (kY b o hb wy)).trans hb)
 exact⟨oe,vs,T,_,_,(other ea (bT IJ)).trans he,pW,hd,h1,Ii,IJ,bw _ hT (dC (bB zo _)),bB zo _,by simp[wo]⟩
theorem Nz{B:Heap}{ea C:Addr}{a0:Value}{dg:St}(nG:X.sg=none)(hf:X.env.frame=some X.env.locals)(wz:dg.length=Z.length)(zc:∀(i:Nat) v,dg[i]?=some (some v)->Z[i]?=some (some v)):∀(hs:List ExceptHandler) (s':Shared),Inv X pins Z H s->Lies X H H' s B ea C a0 s'->Heap.FlyingW B X.stack ea (.ref C) a0 s'.heap->tL X D dg C H' hs ->
  wpAny (model X.prog X.w) X.A (handleBy (.ref ea) X.env hs) (SP X pins D) X.xe s'
 |[],s',I,l,fw,t=>by
  obtain⟨Ξ,hh,hE⟩:=t;refine wpAny_handleBy_nil ?_;unfold PySem.passOn;obtain⟨f1,f2,f3,oe,vs,T,oT,ts,he,pW,hd,h1,_⟩:=id fw;refine ae (lL he hd h1 ?_);rw[aE (by simp),hf];refine ae (aM8 fw λh2 held k=>wpAny_throw ?_);have l2:=l.step I held.1 (λb o hb hn=>⟨o.slots,k b o hb hn⟩);exact hh pins Z H H' s _ B ea C a0 I l2 held hE
 |.ExceptHandler none _ _ _::_,_,_,_,_,t=>t.elim
 |.ExceptHandler (some e) nm bd pos::rest,s',I,l,fw,t=>by
  cases e
  case Name x np =>
   cases nm with
   |some y=>exact t.elim
   |none =>
    cases bd with
    |nil=>exact t.elim
    |cons kE ie =>
     obtain⟨hg,gN,C',b,hm,hx,q⟩:=t;have J:=l.inv I;have JM:Inv (v5 X ea) pins Z H' s':=J.LK;have LT:PySem.W.Looks (model X.prog X.w) s'.heap (typeOf (.ref ea)) (.ref C):=λA Q E s2 k q=>by
      obtain⟨ob,ho,hc⟩:=fw.there;exact wpAny_typeOf_ref (k _ _ ho) (by rw[hc];exact q)
     refine wpAny_handleBy_cons (codeAny_handlers_test ?_) (by intro z;cases z);refine P9 (X:=v5 X ea) JM hg hm ?_ gN;refine(PySem.W.exm_one (M:=model X.prog X.w) J.hJ LT hx).here ?_;cases b with
     |false =>
      simp only[Bool.false_eq_true,if_false] at q;exact Nz nG hf wz zc rest s' I l fw q
     |true =>
      simp only[if_true] at q;obtain⟨t,ht,hq⟩:=q;refine codeAny_handlers_suite ?_;refine wpAny_setFlight_noneW fw.1 fw.2.2.1 fw.2.2.2.at λh2 k1 k2 k3 k4=>?_;have l2:=l.step I k1 (λb o hb hn=>⟨o.slots,k4 b o hb hn⟩);have J2:=l2.inv I;have J3:Inv (v5 X ea) pins dg H' { s' with heap:=h2 }:=(Inv.weak nG J2 wz zc).LK;refine bA (ht ea pins _ _ H' D J3 hq) (λf s2 hf=>hf.ve nG I.ok) λ_ _ z=>z.elim
  all_goals exact t.elim
theorem Wh{hs:List ExceptHandler}{Ξ:XK}{o:Option St}{dg:St}(nG:X.sg=none)(eB:X.stack=X.env::X.outer)(hf:X.env.frame=some X.env.locals)(BS:∀Z:St,Z.length=X.N.length->(∀τ,o=some τ->Z=τ)->dg.length=Z.length/\∀(i:Nat) v,dg[i]?=some (some v)->Z[i]?=some (some v))(hT:∀C H',Ξ (.ref C) none H'->tL X D dg C H' hs) :
  Passes (jM X.prog X.w) (M6 X pins (tR X pins D hs) o) Ξ:=by
 intro jA Z H s e s' I0 h;have I:Inv X pins Z H s:=I0.tP nG;obtain⟨wz,zc⟩:=BS Z I.len I0.sg;obtain⟨C,H',ho,hb,hu,bZ,⟨ea,a0,B,rfl,fw,hB⟩,hE⟩:=h;have l:Lies X H H' s B ea C a0 s':=⟨ho,hb,hu,bZ,hB⟩
 have fw:Heap.FlyingW B X.stack ea (.ref C) a0 s'.heap:=fw;show tR X pins D hs (.ref ea) s';unfold tR;have zD:=fw;rw[eB] at zD;refine wpAny_looks_onW (by rw[I.ok.frames,eB]) hf zD λh1 held us=>?_;have l1:=l.step I held.1 us;refine wpAny_landsW held λh2 fl OC=>?_;have l2:=l1.step I fl.1 OC;rw[<- eB] at fl;exact Nz nG hf wz zc hs _ I l2 fl (hT C H' hE)
theorem NQ{hs:List ExceptHandler}{h₀:ExceptHandler}{body:List Stmt}{t:Ends->St->TS}{Ξ:Ends->St->XK}(f:St->Option St)(z:St->St)(hz:∀Z τ,f Z=some τ->Z=τ)(nG:X.sg=none)(hb:∀pins D Z,(∀C H',Ξ D Z (.ref C) none H'->tL X D (z Z) C H' (h₀::hs))->jL (M6 X pins (tR X pins D (h₀::hs)) (f Z)) body (t D Z)) :
  PS X (.Try body (h₀::hs) [] [] pos) (λD Z H=>(∀C H',Ξ D Z (.ref C) none H'->tL X D (z Z) C H' (h₀::hs))/\t D Z D Z H):=by
 intro pins s Z H D I ⟨hT,h⟩;refine wpAny_Try_except (bA (hb pins D Z hT [] s Z H D (I.bJ3 (hz Z)) h) (λf s1 q=>?_) λe s1 q=>q);have q:=q.tP nG;cases f with
 |next =>
  obtain⟨bU,H',I',q⟩:=q;exact cO (kF ⟨bU,H',I',q⟩) λ_ _ z=>z
 |brk=>exact q
 |cont=>exact q
 |ret u=>exact q
end
def Hb(K:PySem.W.Frag)(a:Addr):It :=
 ⟨λi H=>∃xs x,fO K H a xs/\xs[i]?=some x,λi H v H'=>∃p x,H p=none/\v=.ref p/\(∀xs,fO K H a xs->xs[i]?=some x)/\H'=upd H p (.tup [.int i,x]),λi H=>∃xs,fO K H a xs/\xs.length<=i⟩
theorem aZ5{P:Program}{K:PySem.W.Frag}{elts:List Expr}{x1:Nat}{tp:Pos}(a e it:Addr)(IC:e≠it):Turn P w K (.Tuple elts x1 tp) (Hb K a) [e,it] e (λi h=>(∃old,IsEnum h e it i old)/\h.IsListIter it a i) where
 mem:=by simp
 obj:=λi h st b hb=>by
  obtain⟨⟨old,h1⟩,o,h2,c,d⟩:=st;rcases aL.mp hb with z|z
  ·subst z;exact ⟨_,h1,λv z=>by
    have z':Data.fields _=Data.cell v:=z;cases z'⟩
  ·have z:b=it:=by simpa using z
   subst z;exact⟨o,h2,λv z=>by rw[d] at z;cases z⟩
 keep:=λi h h' st k=>by
  obtain⟨⟨old,h1⟩,h2⟩:=st;exact⟨⟨old,k e (by simp) _ h1⟩,h2.at λo x=>k it (by simp) o x⟩
 item:=by
  intro X hP hw hK hc i pins s Z H E I hf st hg;subst hP hw hK;obtain⟨⟨old,h1⟩,h2⟩:=st;obtain⟨xs,x,hq,hx⟩:=hg;obtain⟨bo,rv,p,hz⟩:=I.list hq;obtain⟨u,hu,ru⟩:=rv.get hx;obtain⟨e0,e1,e2,e3,e4,e5⟩:=hf e (by simp);obtain⟨f0,f1,f2,f3,f4,f5⟩:=hf it (by simp);refine wpAny_pyNext_enum_item h1 h2 p.isList (x:=u) (by simpa using hu) IC λh' qL Cy sj si oX=>?_;refine⟨_,rfl,wpAny_letOwnedTupleGo_enum qL λwZ QD jO=>?_⟩;have jO:Heap.SameBut e h' wZ:=jO;have elt:e<s.heap.objs.size:=aF h1;have kp:∀b o,b≠e->b≠it->s.heap.get? b=some o->wZ.get? b=some o:=λb o b1 b2 q=>(jO.2 b b1).trans (oX b o b1 b2 q);have hn:H s.heap.objs.size=none:=I.bZ.fresh (az _);have Bu:wZ.get? s.heap.objs.size=some { cls:=.type "tuple",data:=.seq #[.int i s.toks,u] }:=(jO.2 _ (cc elt)).trans sj;have ne:∀b u',H b=some u'->b≠e/\b≠it:=λb u' q=>And.intro (λ(z:b=e)=>by rw[z,e0] at q;cases q) (λ(z:b=it)=>by rw[z,f0] at q;cases q);have bZ:gz X.prog X.w (upd H s.heap.objs.size (.tup [.int i,x])) wZ:=λb o q=>by
   by_cases hb:b=s.heap.objs.size
   ·subst hb;rw[x8] at q;cases q;exact⟨by show 2<=sizeLine;decide,[.int i s.toks,u],.cons ⟨_,rfl⟩ (.cons ru .nil),_,Bu,rfl,⟨_,rfl⟩,rfl⟩
   ·rw[i9 hb] at q;refine(I.bZ b o q).Z0 (λc v hc q'=>?_) (λc q'=>by rw[i9 (p9 q' hn)];exact q') λc ys q'=>by rw[i9 (p9 q' hn)];exact q'
    rcases hc with z|z
    ·subst z;exact kp _ _ (ne _ _ q).1 (ne _ _ q).2 q'
    ·exact kp _ _ (ne _ _ z).1 (ne _ _ z).2 q'
  have I2:Inv X pins Z (upd H s.heap.objs.size (.tup [.int i,x])) { s with heap:=wZ,toks:=s.toks+1 }:=by
   refine I.step (g':=s.gens) (d':=s.drawn) (t':=s.toks+1) (ch:=[e,it]) (λb hb=>?_) (λb o _ _ hb q _=>kp b o (λz=>hb (by simp[z])) (λz=>hb (by simp[z])) q) (λb o _ _ hb q _=>⟨o.slots,kp b o (λz=>hb (by simp[z])) (λz=>hb (by simp[z])) q⟩)
    (λb o _ q n=>by rw[i9 (aU (aF q))];exact n) (λb o hb q=>⟨o,kp b o (λz=>hb (by simp[z])) (λz=>hb (by simp[z])) q⟩)
    (λb ys q=>by rw[i9 (p9 q hn)];exact q) (λb o' ys q=>by rw[i9 (p9 q hn)];exact q) (λb ps q=>⟨#[],by rw[i9 (p9 q hn),q];simp⟩) (λm hm=>?_) bZ I.bare
   ·rcases aL.mp hb with z|z
    ·subst z;exact⟨e3,e1,e4,e5⟩
    ·have z:b=it:=by simpa using z
     subst z;exact⟨f3,f1,f4,f5⟩
   ·obtain⟨o,es,ep,ho,r⟩:=hm;exact⟨o,es,ep,kp _ o (bT e1) (bT f1) ho,r⟩
  refine⟨.ref s.heap.objs.size,_,I2,rfl,⟨s.heap.objs.size,x,hn,rfl,λys hy=>by rw[I.EX hy hq];exact hx,rfl⟩,⟨⟨u,by simpa using QD⟩,Cy.at λo y=>(jO.2 it IC.symm).trans y⟩,λb hb=>?_⟩;have lI:b<s.heap.objs.size:=by
   rcases aL.mp hb with z|z
   ·subst z;exact elt
   ·have z:b=it:=by simpa using z
    subst z;obtain⟨o,h2,_⟩:=h2;exact aF h2
  rw[i9 (aU lI)];exact(hf b hb).1
 done:=by
  intro X hP hw hK hc i pins s Z H E I hf st hg;subst hP hw hK;obtain⟨⟨old,h1⟩,h2⟩:=st;obtain⟨xs,hq,hx⟩:=hg;obtain⟨bo,rv,p,hz⟩:=I.list hq;obtain⟨f0,f1,f2,f3,f4,f5⟩:=hf it (by simp);have hl:=rv.length;exact wpAny_pyNext_enum_end (I.ok.hd hc) h1 h2 p.isList (by simp;omega) λh' eb=>⟨rfl,I.turned (t':=s.toks) (λb o hb e=>eb b o hb e) f0 f1 f3 f4 f5⟩
 self:=λ_ _ _ _ _ st h=>by
  obtain⟨⟨old,h1⟩,h2⟩:=st;exact wpAny_pyIter_enum h1 h
theorem UH{l:Expr}{tp:Pos}{elts:List Expr}{x1:Nat}(hg:Gl X "enumerate")(hm:X.mg "enumerate"=none)(ha:PA X [l] ta)(hs:starEach [l] X.env=[(false,eval l X.env)]) :
  PI X (.Tuple elts x1 tp) (.Call (.Name "enumerate" p) [l] [] pos) (λZ H R=>ta Z H λvs H1=>∃a,vs=[.ref a]/\(∃xs,fO X.K H1 a xs)/\R (Hb X.K a) H1):=by
 intro pins s Z H R I h;refine Call_ (O5 I hg hm PyProof.Rows.boot_enumerate (bQ (cO (ha pos pins s Z H _ I h) λus s1 bq=>?_) hs rfl));obtain⟨vs,H1,I1,r1,q1⟩:=bq;obtain⟨a,e,⟨xs,hq⟩,q⟩:=q1;subst e;cases r1 with
 |cons r rr =>
  cases rr;cases r;obtain⟨bo,rv,p,hz⟩:=I1.list hq;refine call_enumerate_list p.isList λh' he hit hsz hk=>wpAny_pyIter_enum he ?_;refine⟨s1.heap.objs.size+1,[s1.heap.objs.size+1,s1.heap.objs.size],_,_,H1,rfl,I1.kept (t':=s1.toks) hk,aZ5 a _ _ (by simp),⟨⟨_,he⟩,hit⟩,λb hb=>?_,q⟩;have lI:s1.heap.objs.size<=b:=by
   rcases aL.mp hb with z|z
   ·rw[z];exact gU _
   ·have z:b=s1.heap.objs.size:=by simpa using z
    rw[z];exact az _
  exact I1.rf lI (I1.bZ.fresh lI)
theorem ZK{e:Expr}{t:TE}(he:PE X e t):PE X (.FormattedValue e (-1) none pos) (λZ H Q=>t Z H λx H1=>(∃i,x=.int i/\i.natAbs.log2<1920/\Q (.str (toString i)) H1)\/∃y,x=.str y/\y.length<=sizeLine/\Q (.str y) H1):=by
 intro pins s Z H Q I h;refine wpAny_FormattedValue_plain (cO (he pins s Z H _ I h) λv s1 bq=>?_);obtain⟨x,H1,I1,r1,q1⟩:=bq;rcases q1 with⟨i,rfl,hd,q⟩|⟨y,rfl,hy,q⟩
 ·obtain⟨t,rfl⟩:=r1;exact wpAny_formatField_int hd ⟨.str _,H1,I1.tok _,⟨_,rfl⟩,q⟩
 ·obtain⟨t,rfl⟩:=r1;exact wpAny_formatField_str ⟨.str _,H1,I1,⟨_,rfl⟩,q⟩ ⟨.str _,H1,I1.tok _,⟨_,rfl⟩,q⟩ hy
inductive vi(X:Cx):List Expr->List TE->Prop
 |nil:vi X [] []
 |cons {e:Expr} {t:TE} {es:List Expr} {ts:List TE} (h:PE X e t) (r:vi X es ts):vi X (e::es) (t::ts)
def AS:List TE->St->Hp->Str->(Str->Hp->Prop)->Prop
 |[],_,H,acc,Q=>Q acc H
 |t::ts,Z,H,acc,Q=>t Z H λx H1=>∃y,x=.str y/\(acc++y).length<=sizeLine/\AS ts Z H1 (acc++y) Q
theorem MO{pins:List (Addr×Obj)}{Z:St}{Q:Str->Hp->Prop}:∀{es:List Expr} {ts:List TE},vi X es ts->∀{s:Shared} {H:Hp} {acc:Str},Inv X pins Z H s->AS ts Z H acc Q ->
  Joins (model X.prog X.w) X.A X.xe (evalEach es X.env) acc (λout s1=>∃H1,Inv X pins Z H1 s1/\Q out H1) s
 |_,_,.nil,s,H,acc,I,h=>⟨H,I,h⟩
 |_,_,.cons he r,s,H,acc,I,h=>by
  rw[arm_evalEach_cons];refine cO (he pins s Z H _ I h) λv s1 bq=>?_;obtain⟨x,H1,I1,r1,y,ey,hy,q1⟩:=bq;subst ey;obtain⟨t,rfl⟩:=r1;exact⟨y,t,rfl,hy,MO r I1 q1⟩
theorem Ky{M:Model}{A:Around}{E:Value->Shared->Prop}{Q Q':Str->Shared->Prop}(hq:∀x s,Q x s->Q' x s):∀{l:List (Sem Value)} {acc:Str} {s:Shared},Joins M A E l acc Q s->Joins M A E l acc Q' s
 |[],acc,s,h=>hq _ _ h
 |x::r,acc,s,h=>cO h λv s1 ⟨y,t,e,hz,h1⟩=>⟨y,t,e,hz,Ky hq h1⟩
theorem UC{mU mT:Expr}{rest:List Expr}{ts:List TE}(h:vi X (mU::mT::rest) ts):PE X (.JoinedStr (mU::mT::rest) pos) (λZ H Q=>AS ts Z H Str.empty λout H1=>out.length<=sizeLine/\Q (.str out) H1):=by
 intro pins s Z H Q I hw;refine wpAny_JoinedStr (Ky (λx s1 ⟨H1,I1,hl,q⟩=>⟨hl,.str x,H1,I1.tok _,⟨_,rfl⟩,q⟩) (MO h I hw))
theorem aV5{lo:Int}{acc:Array Value}{n:Nat}(h:ItemsOf (λi v=>∃t,v=.int (lo+i*1) t) acc n):Vals ((List.range n).map λ(k:Nat)=>V.int (lo+k)) acc.toList:=by
 have hl:acc.toList.length=n:=by
  have:=h.1;simpa using this
 have go:∀(m:Nat) (l:List Value),l.length<=n->m+l.length=n->(∀i v,l[i]?=some v->∃t,v=Value.int (lo+((m+i:Nat):Int)) t)->Vals ((List.range' m l.length).map λ(k:Nat)=>V.int (lo+k)) l:=by
  intro m l
  induction l generalizing m with
  |nil=>intro _ _ _;exact .nil
  |cons x r ih =>
   intro h1 h2 h3;simp only[List.length_cons,List.range'_succ,List.map_cons];refine .cons ?_ (ih (m+1) (by simp at h1;omega) (by simp at h2;omega) λi v hv=>?_)
   ·obtain⟨t,e⟩:=h3 0 x rfl;exact⟨t,by rw[e];simp⟩
   ·obtain⟨t,e⟩:=h3 (i+1) v (by simpa using hv);exact⟨t,by rw[e,show m+(i+1)=m+1+i by omega]⟩
 have:=go 0 acc.toList () () λi v hv=>?_
 ·rw[hl,<- List.range_eq_range'] at this;exact this
 ·have hi:i<n:=by
   have:=(ak.mp hv).1;omega
  have:acc[i]?=some v:=by rw[<- fJ];exact hv
  obtain⟨t,e⟩:=h.2 i v this;refine⟨t,?_⟩;rw[e];simp
theorem Lv(hc:X.calm=true):q9 X (.type "list") (λxs H Q=>∃a lo hi,xs=[.ref a]/\H a=some (.nC lo hi)/\(-(2 ^ 62)<=lo/\lo<2 ^ 62/\-(2 ^ 62)<=hi/\hi<2 ^ 62/\hi-lo<=100000)/\∀p,H p=none->Q (.ref p) (upd H p (.lst ((List.range (hi-lo).toNat).map λ(k:Nat)=>V.int (lo+k))))):=by
 intro pins s Z H xs us Q I r h;obtain⟨a,lo,hi,rfl,ha,⟨h1,h2,h3,h4,h5⟩,q⟩:=h;obtain⟨t,u,v,ho⟩:=I.bZ a _ ha;cases r with
 |cons r rr =>
 cases rr;cases r;have hn:Builtin.Range.rangeSize lo hi 1=((hi-lo).toNat:Nat):=by rw[rangeSize_one];split<;>omega
 refine call_list_range (n:=(hi-lo).toNat) (I.ok.hd hc) ho (small_one h1 h2 h3 h4) hn () λh' nS acc c hk hS iz=>?_;have hp:H s.heap.objs.size=none:=I.bZ.fresh (az _);refine⟨.ref _,_,I.laid (a:=s.heap.objs.size) (o:=.lst ((List.range (hi-lo).toNat).map λ(k:Nat)=>V.int (lo+k))) (t':=nS) hk (az _) ⟨?_,acc.toList,c,aV5 iz,by simpa using hS⟩,rfl,q _ hp⟩;rw[ai,lN];have:(hi-lo).toNat<=100000:=by omega
 exact aG this ∅
theorem a27{a:Expr}(hg:Gl X "range")(hm:X.mg "range"=none)(ha:PA X [a] ta)(hs:starEach [a] X.env=[(false,eval a X.env)]):PE X (.Call (.Name "range" p) [a] [] pos) (λZ H Q=>ta Z H λvs H1=>∃j:Int,vs=[.int j]/\∀q,H1 q=none->Q (.ref q) (upd H1 q (.nC 0 j))):=by
 intro pins s Z H Q I h;refine cR (O5 I hg hm boot_range (bQ (cO (ha pos pins s Z H _ I h) λus s1 bq=>?_) hs rfl));obtain⟨vs,H1,I1,r1,q1⟩:=bq;obtain⟨j,e,q⟩:=q1;subst e;cases r1 with
 |cons r rr =>
  cases rr;obtain⟨t,rfl⟩:=r;exact call_range_1 ⟨.ref s1.heap.objs.size,_,I1.laid (a:=s1.heap.objs.size) (o:=.nC 0 j) (λb o e=>au _ e) (az _) ⟨_,_,_,aI _ rfl⟩,rfl,q _ (I1.bZ.fresh (az _))⟩
theorem a26{a b:Expr}(hg:Gl X "range")(hm:X.mg "range"=none)(ha:PA X [a,b] ta)(hs:starEach [a,b] X.env=[(false,eval a X.env),(false,eval b X.env)])(jO:starEach [b] X.env=[(false,eval b X.env)]):PE X (.Call (.Name "range" p) [a,b] [] pos) (λZ H Q=>ta Z H λvs H1=>∃i j:Int,vs=[.int i,.int j]/\∀q,H1 q=none->Q (.ref q) (upd H1 q (.nC i j))):=by
 intro pins s Z H Q I h;refine cR (O5 I hg hm boot_range (bQ (cO (ha pos pins s Z H _ I h) λus s1 bq=>?_) (by rw[hs,jO]) (by rw[jO];rfl)));obtain⟨vs,H1,I1,r1,q1⟩:=bq;obtain⟨i,j,e,q⟩:=q1;subst e;cases r1 with
 |cons r rr =>
  cases rr with
  |cons r' rr =>
   cases rr;obtain⟨t,rfl⟩:=r;obtain⟨t',rfl⟩:=r';exact call_range_2 ⟨.ref s1.heap.objs.size,_,I1.laid (a:=s1.heap.objs.size) (o:=.nC i j) (λb o e=>au _ e) (az _) ⟨_,_,_,aI _ rfl⟩,rfl,q _ (I1.bZ.fresh (az _))⟩
def xF(K:PySem.W.Frag)(P:Params)(a:Addr)(kvs:List (Str×V)):Prop :=
 ∃es n,K.lookup a=some ⟨.type "dict",none,.dict es n,#[]⟩/\PySem.W.KeysLit P es.toList/\(a==sysModules)=false/\∀x,L4 (kvs.lookup x) (findBy Value.isStrOf es x)
theorem NM{kvs:List (Str×V)}(neg:Bool):fY X (compareOp (if neg then .NotIn else .In)) (λx y H Q=>∃a z,y=.ref a/\xF X.K X.w.params a kvs/\x=.str z/\Q (.bl (xor neg (kvs.lookup z).isSome)) H):=by
 intro pins s Z H x y v u Q I rx ry h;obtain⟨a,z,rfl,⟨es,n,hl,hk,lo,hf⟩,rfl,q⟩:=h;obtain⟨t,rfl⟩:=rx;cases ry;have hm:=PySem.W.mapOf_K (prog:=X.prog) (w:=X.w) I.hJ hl hk;have e:=hf z;have ee:(findBy Value.isStrOf es z).isSome=(kvs.lookup z).isSome:=by
  cases h1:kvs.lookup z<;>cases h2:findBy Value.isStrOf es z<;>rw[h1,h2] at e<;>first|rfl|exact e.elim
 cases neg
 ·exact wpAny_in_of (strKind_is X.prog X.w z t) lo hm ⟨.bl _,H,I.tok _,by rw[ee];rfl,by simpa using q⟩
 ·exact wpAny_notIn_of (strKind_is X.prog X.w z t) lo hm ⟨.bl _,H,I.tok _,by rw[ee];rfl,by simpa using q⟩
theorem Zg{kvs:List (Str×V)}:tW X (λx y H Q=>∃a z v,x=.ref a/\xF X.K X.w.params a kvs/\y=.str z/\kvs.lookup z=some v/\Q v H):=by
 intro value slice pins s Z H x y v u Q I rx ry h hs;obtain⟨a,z,d,rfl,⟨es,n,hl,hk,lo,hf⟩,rfl,hz,q⟩:=h;cases rx;obtain⟨t,rfl⟩:=ry;have hm:=PySem.W.mapOf_K (prog:=X.prog) (w:=X.w) I.hJ hl hk;have e:=hf z;rw[hz] at e;cases h2:findBy Value.isStrOf es z with
 |none=>rw[h2] at e;exact e.elim
 |some r =>
  rw[h2] at e;exact tail_any hm.typeIs slot_dict_getitem.lookup (wpAny_getItem_of (strKind_is X.prog X.w z t) hm h2 ⟨d,H,I.tok _,e,q⟩) hs
theorem Uh(hu:X.A.units+1<cLine):tW X (λx y H Q=>∃a v,x=.ref a/\T7 H a y (some v)/\Q v H):=by
 intro value slice pins s Z H x y v u Q I rx ry h hs;obtain⟨a,d,rfl,g,q⟩:=h;cases rx;exact tail_any (aN1 I g) slot_dict_getitem.lookup (a67 hu I g ry λw' s3 I3 fX=>⟨d,H,I3,fX,q⟩) hs
end L2
namespace ST
open PySem PyProof.Rows
variable{xs:Array Nat}{i k j n ep:Nat}{t:SetTable}{h h':Heap}{L:Bool}{es:Array (Int×Value)}{x f:Value}{prog:Program}{w:World}{a I b l:Addr}{ks ns:List Int}{A:Around}{E Q:Value->Shared->Prop}{s:Shared}{pl:List Nat}{α:Type}{r:Rd}{items:Array Value}
noncomputable abbrev lK(xs:Array Nat):Prop:=xs.toList.Pairwise (· < ·)
theorem lK.lt(h:lK xs)(wD:i<k)(hk:k<xs.size):xs.getD i 0<xs.getD k 0:=by
 have:=gO.mp h i k (by simpa using cW wD hk) (by simpa using hk) wD;simp only[Array.getElem_toList] at this;rw[<- et (h:=cW wD hk),<- et (h:=hk)];exact this
theorem lK.le(h:lK xs)(wD:i<=k)(hk:k<xs.size):xs.getD i 0<=xs.getD k 0:=by
 rcases Nat.eq_or_lt_of_le wD with e|e
 ·rw[e];exact az _
 ·exact eK (h.lt e hk)
theorem EC{xs:Array Nat}{j:Nat}(h:lK xs):∀(fuel lo hi:Nat),hi-lo<=fuel->lo<=hi->hi<=xs.size->(∀i,i<lo->xs.getD i 0<j)->(∀i,hi<=i->i<xs.size->j<=xs.getD i 0) ->
  SetTable.below.go xs j fuel lo hi<=xs.size/\(∀i,i<SetTable.below.go xs j fuel lo hi->xs.getD i 0<j)/\∀i,SetTable.below.go xs j fuel lo hi<=i->i<xs.size->j<=xs.getD i 0
 |0,lo,hi,h1,h2,h3,h4,h5=>by
  unfold SetTable.below.go;have:lo=hi:=by omega
  subst this;exact⟨h3,h4,h5⟩
 |fuel+1,lo,hi,h1,h2,h3,h4,h5=>by
  unfold SetTable.below.go;split
  ·rename_i hl;have hm:(lo+hi) / 2<xs.size:=by omega
   have em:xs.getD ((lo+hi) / 2) j=xs.getD ((lo+hi) / 2) 0:=by simp[Array.getD,hm]
   dsimp only;rw[em];by_cases hc:xs.getD ((lo+hi) / 2) 0<j
   ·rw[aH hc];exact EC h fuel _ hi () () h3 (λi iz=>dS (h.le () hm) hc) h5
   ·rw[aE hc];exact EC h fuel lo _ () () () h4 λi iz hs=>aG (iE hc) (h.le iz hs)
  ·have:lo=hi:=by omega
   subst this;exact⟨h3,h4,h5⟩
theorem U8(j:Nat)(h:lK xs):SetTable.below xs j<=xs.size/\(∀i,i<SetTable.below xs j->xs.getD i 0<j)/\∀i,SetTable.below xs j<=i->i<xs.size->j<=xs.getD i 0 :=
 EC h _ 0 _ () () (az _) (λi hi=>absurd hi (Nat.not_lt_zero _)) λi h1 h2=>absurd h2 ()
theorem below_at(h:lK xs)(hi:i<xs.size):SetTable.below xs (xs.getD i 0)=i:=by
 obtain⟨h1,h2,h3⟩:=U8 (xs.getD i 0) h;rcases dw (SetTable.below xs (xs.getD i 0)) i with z|z|z
 ·exact absurd (h3 _ (az _) ()) (Nat.not_le_of_lt (h.lt z hi))
 ·exact z
 ·exact absurd (h2 i z) (bu _)
theorem aX2(h:lK xs)(hi:i<xs.size):SetTable.below xs (xs.getD i 0+1)=i+1:=by
 obtain⟨h1,h2,h3⟩:=U8 (xs.getD i 0+1) h;rcases dw (SetTable.below xs (xs.getD i 0+1)) (i+1) with z|z|z
 ·have:=h3 i () hi;omega
 ·exact z
 ·have:=h2 (i+1) z;have:=h.lt (fL i) (k:=i+1) ();omega
theorem aX1(h:lK xs):SetTable.below xs 0=0:=by
 obtain⟨_,h2,_⟩:=U8 0 h;rcases Nat.eq_zero_or_pos (SetTable.below xs 0) with z|z
 ·exact z
 ·exact absurd (h2 0 z) (Nat.not_lt_zero _)
theorem getD_mem(hi:i<xs.size):xs[i]?=some (xs.getD i 0):=by simp[Array.getD,hi]
theorem aT0(h:lK t.place)(hs:t.slot j=.empty):j∉t.place.toList:=by
 intro hm;obtain⟨i,hi,e⟩:=bI.mp hm;have iz:i<t.place.size:=by simpa using hi
 have ej:t.place.getD i 0=j:=by rw[<- et (h:=iz)];simpa using e
 have hb:=below_at h iz;rw[ej] at hb;unfold SetTable.slot at hs;dsimp only at hs;rw[hb,getD_mem iz,ej] at hs;simp at hs
theorem aT4(h:lK xs)(hj:j∉xs.toList):lK (SetTable.insertAt xs (SetTable.below xs j) j):=by
 obtain⟨h1,h2,h3⟩:=U8 j h;show(SetTable.insertAt xs (SetTable.below xs j) j).toList.Pairwise (· < ·);rw[SetTable.toList_insertAt,Bh];have tk:∀a∈xs.toList.take (SetTable.below xs j),a<j:=λa ha=>by
  obtain⟨i,hi,e⟩:=bI.mp ha;rw[cM] at hi;rw[List.getElem_take] at e;have hs:i<xs.size:=by simp at hi;omega
  have:=h2 i ();rw[<- et (h:=hs)] at this;simp at e;omega
 have dp:∀b∈xs.toList.drop (SetTable.below xs j),j<b:=λb hb=>by
  obtain⟨i,hi,e⟩:=bI.mp hb;rw[iG] at hi;rw[List.getElem_drop] at e;have hs:SetTable.below xs j+i<xs.size:=by simp at hi;omega
  have:=h3 (SetTable.below xs j+i) () hs;rw[<- et (h:=hs)] at this;have ff:b≠j:=λz=>hj (by rw[<- z];exact Bi hb);simp at e;omega
 refine⟨h.take,kL.mpr ⟨dp,h.drop⟩,λa ha b hb=>?_⟩;have ng:=tk a ha;rcases aL.mp hb with z|z
 ·omega
 ·have:=dp b z;omega
theorem a13(n:Nat):lK (Array.range n):=by
 show(Array.range n).toList.Pairwise (· < ·);rw[Array.toList_range];exact vp
structure Well(L:Bool)(t:SetTable):Prop where
 yU:lK t.place
 DO:t.dummies=#[]
 led:t.led=L
theorem We(hd:t.dummies=#[])(j:Nat):t.slot j≠.dummy:=by
 unfold SetTable.slot;dsimp only;split
 ·intro z;cases z
 ·rw[hd];split
  ·rename_i z;simp[SetTable.has] at z
  ·intro z;cases z
theorem Lm{t:SetTable}(hd:t.dummies=#[]){hashAt:Nat->Int}{h:Int}:∀(fuel:Nat) (p:SetTable.Probe) {j:Nat} {dm:Option Nat},p.dummy=none->SetTable.probe.go t hashAt h fuel p=some (.empty j dm)->t.slot j=.empty/\dm=none
 |0,p,j,dm,_,e=>by simp[SetTable.probe.go] at e
 |fuel+1,p,j,dm,hp,e=>by
  unfold SetTable.probe.go at e;have ad:∀q:SetTable.Probe,q.dummy=none->(t.advance q).dummy=none:=λq hq=>by
   unfold SetTable.advance;split
   ·exact hq
   ·exact hq
  split at e
  ·rename_i hs;cases e;exact⟨hs,hp⟩
  ·rename_i hs;exact absurd hs (We hd _)
  ·split at e
   ·cases e
   ·exact Lm hd fuel _ (ad p hp) e
theorem a60(hd:t.dummies=#[]){h:Int}{wd:Bool}(e:t.freeSlot h=some (j,wd)):t.slot j=.empty/\wd=false:=by
 unfold SetTable.freeSlot at e;split at e
 ·rename_i j' dm hp;obtain⟨h1,h2⟩:=Lm hd _ _ rfl hp;subst h2;cases e;exact⟨h1,rfl⟩
 ·cases e
theorem O3(h:Well L t)(n:Nat):Well L (t.standIn n):=⟨a13 n,rfl,h.led⟩
theorem aM6{h:Int}(hw:Well L t):Well L (layNew t es h x).2.1/\(layNew t es h x).2.2.1=false:=by
 unfold layNew;split
 ·rename_i slot wd e;obtain⟨h1,h2⟩:=a60 hw.DO e;refine⟨?_,h2⟩;have hd:SetTable.has t.dummies slot=false:=by rw[hw.DO];simp[SetTable.has]
  have w2:Well L (t.put slot).1:=⟨aT4 hw.yU (aT0 hw.yU h1),by simp only[SetTable.put,hd];exact hw.DO,hw.led⟩
  dsimp only;unfold SetTable.orStandIn;split
  ·exact w2
  ·exact O3 w2 _
 ·exact⟨O3 hw _,rfl⟩
theorem a49{mask finger moves:Nat}{led plain:Bool}{hashes:Array Int}{o:Array Nat}(hl:led=L)(e:SetTable.laid mask finger moves led plain hashes=some (t,o)):Well L t:=by
 unfold SetTable.laid at e;cases ho:SetTable.layClean mask hashes with
 |none=>rw[ho] at e;cases e
 |some owner =>
  rw[ho] at e;simp only[Option.bind_eq_bind,Option.bind_some,Option.pure_def,Option.some.injEq,Prod.mk.injEq] at e;obtain⟨rfl,_⟩:=e;refine⟨?_,rfl,hl⟩;show(List.map _ _).toArray.toList.Pairwise (· < ·);rw[List.toList_toArray];have sub:((List.range (mask+1)).filterMap λj=>(owner.getD j none).map (j,·)).map (·.1) |>.Sublist (List.range (mask+1)):=by
   generalize List.range (mask+1)=l
   induction l with
   |nil=>simp
   |cons a r ih =>
    rw[eP];cases owner.getD a none with
    |none=>exact ih.cons a
    |some k=>exact ih.cons_cons a
  exact List.Pairwise.sublist sub vp
theorem aB5(hw:Well L t):Well L (relayAll t es n).2.1:=by
 unfold relayAll;split
 ·rename_i t' order e;dsimp only;split
  ·exact a49 hw.led e
  ·exact O3 hw _
 ·exact O3 hw _
def toI:Value->Int
 |.int k _=>k
 |_=>0
def Led(w:World):Bool:=!(w.params.followText "set-order")
def A4(prog:Program)(w:World)(h:Heap)(a:Addr)(ks:List Int):Prop :=
 ∃o es ep t,h.get? a=some o/\o.ExactSet/\o.data=.set es ep t/\ElemsOf (intKind prog w) es.toList/\(es.toList.map λe=>toI e.2).Perm ks/\ks.Nodup/\es.size<scanBound/\t.fits es.size=true/\Well (Led w) t
theorem A4.at(x:A4 prog w h a ks)(k:∀o,h.get? a=some o->h'.get? a=some o):A4 prog w h' a ks:=by
 obtain⟨o,es,ep,t,e,r⟩:=x;exact⟨o,es,ep,t,k o e,r⟩
theorem LZ{e:Int×Value}{es:List (Int×Value)}(h:ElemsOf (intKind prog w) es)(he:e∈es):∃tk,e.2=.int (toI e.2) tk/\e.1=(intKind prog w).hash (toI e.2):=by
 obtain⟨⟨k,h1,h2⟩,_⟩:=h e he;obtain⟨t,ht⟩:=pI (k:=k) (v:=e.2) h1;refine⟨t,by rw[ht];rfl,?_⟩;rw[h2,ht]
 rfl
theorem NH{e:Int×Value}{es:List (Int×Value)}(h:ElemsOf (intKind prog w) es)(he:e∈es)(k:Int):(intKind prog w).is k e.2=decide (toI e.2=k):=by
 obtain⟨t,ht,_⟩:=LZ h he;show Value.isInt k e.2=_;rw[ht];generalize toI e.2=m;show Value.isInt k (.int m t)=decide (m=k);by_cases z:m=k
 ·subst z;simp[Value.isInt]
 ·rw[aB z];cases hv:Value.isInt k (.int m t) with
  |false=>rfl
  |true =>
   obtain⟨t',e'⟩:=pI hv;cases e';exact absurd rfl z
theorem A4.mem{a:Addr}{es:List (Int×Value)}(h:ElemsOf (intKind prog w) es)(hp:(es.map λe=>toI e.2).Perm ks)(k:Int):(es.findIdx? λe=>(intKind prog w).is k e.2).isSome=decide (k∈ks):=by
 rw[aS,cZ,<- hp.mem_iff,aZ,eV];constructor
 ·rintro⟨i,hi⟩;obtain⟨h1,h2,_⟩:=lH.mp hi;have hm:=cg h1;rw[NH h hm] at h2;exact⟨_,hm,bh h2⟩
 ·rintro⟨e,he,rfl⟩;cases hf:es.findIdx? λe'=>(intKind prog w).is (toI e.2) e'.2 with
  |some i=>exact⟨i,rfl⟩
  |none =>
   have:=List.findIdx?_eq_none_iff.mp hf e he;rw[NH h he] at this;simp at this
def I9(ks:List Int)(k:Int):List Int:=if k∈ks then ks else ks++[k]
theorem Vy(ks:List Int)(k:Int):(I9 ks k).length<=ks.length+1:=by unfold I9;split<;>simp
theorem Jy{k:Int}{tk:Tok}{Q:Bool->Shared->Prop}(hS:A4 prog w s.heap a ks)(hr:ks.length+1<scanBound)(h:∀h' b,Heap.SameBut a s.heap h'->A4 prog w h' a (I9 ks k)->Q b { s with heap:=h' }):wpAny (model prog w) A (setAddHashed a (.int k tk) ((intKind prog w).hash k)) Q E s:=by
 obtain⟨o,es,ep,t,ho,hx,hd,sE,hp,hn,hb,hf,hw⟩:=hS;have hlen:es.size=ks.length:=by rw[<- hp.length_eq];simp
 have lz:(intKind prog w).is k (.int k tk)=true:=gs _ _ _ _;have gv:∀(b:Bool) (s1:Shared) (Q':Unit->Shared->Prop),Q' Unit.unit s1->wpAny (model prog w) A (match b with|true=>rule "set.scan.the-table-gave-way"|false=>pure Unit.unit) Q' E s1:=λb s1 Q' q=>by
  cases b
  ·exact av q
  ·exact Be q
 unfold setAddHashed setAddHashedIn;refine cI (ae (cJ ho hd hf ?_));dsimp only;rw[byScan_of rfl hb sE,aH rfl];unfold setAddByScan;refine ae (ae (Be (ae (wpAny_setScan_of lz ho hd hf sE ?_))));have hm:=A4.mem (a:=a) sE hp k;cases fE:es.toList.findIdx? (λe=>(intKind prog w).is k e.2) with
 |some j =>
  rw[fE] at hm;have hk:k∈ks:=by simpa using hm.symm
  refine av (av ?_);have e0:s={ s with heap:=s.heap }:=rfl;rw[e0];refine h s.heap _ (Heap.SameBut.refl a s.heap) ?_;unfold I9;rw[aH hk];exact⟨o,es,ep,t,ho,hx,hd,sE,hp,hn,hb,hf,hw⟩
 |none =>
  rw[fE] at hm;have hk:k∉ks:=by simpa using hm.symm
  dsimp only;have p1:=layNew_perm t es ((intKind prog w).hash k) (.int k tk);have f1:=layNew_fits t es ((intKind prog w).hash k) (.int k tk);obtain⟨w1,Br⟩:=aM6 (es:=es) (h:=(intKind prog w).hash k) (x:=.int k tk) hw;generalize layNew t es ((intKind prog w).hash k) (.int k tk)=R1 at p1 f1 w1 Br ⊢;obtain⟨gT,t1,wd,RB⟩:=R1;dsimp only at p1 f1 w1 Br ⊢;subst Br;rw[Array.toList_push] at p1;have Je:ElemsOf (intKind prog w) gT.toList:=(sE.push lz rfl).perm p1;have sz1:gT.size=es.size+1:=by rw[<- bD,p1.length_eq];simp
  have k1:(gT.toList.map λe=>toI e.2).Perm (I9 ks k):=by
   unfold I9;rw[aE hk];refine(p1.map _).trans ?_;rw[cV];exact hp.append_right _
  have n1:(I9 ks k).Nodup:=by
   unfold I9;rw[aE hk,cT];exact⟨hn,by simp,λx hx y hy=>by simp at hy;subst hy;exact λz=>hk (z▸hx)⟩
  refine ae (gv _ _ _ ?_);have fin:∀ (t2:SetTable),t2.fits gT.size=true->Well (Led w) t2->wpAny (model prog w) A (do
    storeSet a gT t2
    if(!false&&t2.tooFull)=true then do
      (match(relayAll t2 gT (SetTable.grown gT.size)).2.2 with|true=>rule "set.scan.the-table-gave-way"|false=>pure Unit.unit)
      storeSet a (relayAll t2 gT (SetTable.grown gT.size)).1 (relayAll t2 gT (SetTable.grown gT.size)).2.1
      pure (some true)
     else pure (some true)) (λr s'=>wpAny (model prog w) A (match r with | some added=>pure added | none=>setAddHashedIn a (.int k tk) ((intKind prog w).hash k) 99999) Q E s') E s:=λt2 f2 w2=>by
   have g1:(s.heap.update a (Obj.putSet gT t2)).get? a=some { o with data:=.set gT (ep+1) t2 }:=by
    have:=bw (Obj.putSet gT t2) ho (by rw[putSet_of gT t2 hd];rfl);rw[putSet_of gT t2 hd] at this;exact this
   refine ae (wpAny_storeSet_of ho hd ?_ (fits_of_scanBound ()));have Hw:=cv s.heap a (Obj.putSet gT t2);split
   ·have p2:=relayAll_perm t2 gT (SetTable.grown gT.size);have f3:=relayAll_fits t2 gT (SetTable.grown gT.size);have w3:=aB5 (es:=gT) (n:=SetTable.grown gT.size) w2;generalize relayAll t2 gT (SetTable.grown gT.size)=R2 at p2 f3 w3 ⊢;obtain⟨oI,t3,gv2⟩:=R2;dsimp only at p2 f3 w3 ⊢;have sz2:oI.size=gT.size:=by rw[<- bD,p2.length_eq,bD]
    refine ae (gv _ _ _ ?_);refine ae (wpAny_storeSet_of g1 rfl ?_ (fits_of_scanBound ()));refine av (av (h _ _ (Hw.trans (cv _ a _)) ?_));have g2:((s.heap.update a (Obj.putSet gT t2)).update a (Obj.putSet oI t3)).get? a=some { o with data:=.set oI (ep+1+1) t3 }:=by
     have:=bw (Obj.putSet oI t3) g1 (by rw[putSet_of oI t3 rfl];rfl);rw[putSet_of oI t3 rfl] at this;exact this
    exact⟨_,oI,_,t3,g2,hx,rfl,Je.perm p2,(p2.map _).trans k1,n1,by omega,f3,w3⟩
   ·exact av (av (h _ _ Hw ⟨_,gT,_,t2,g1,hx,rfl,Je,k1,n1,by omega,f1 |> λ_=>f2,w2⟩))
  split
  ·refine ae (fH (hashByValue_scannable 8 rfl) ?_);exact fin _ f1 w1
  ·refine ae (av ?_);exact fin _ f1 w1
theorem aJ7:entryFor table "set.__iter__"=some Builtin.«frozenset.__iter__» :=
 entryFor_alias (id':="frozenset.__iter__") (by kernel_rfl) rfl (by decide +kernel) (by kernel_rfl)
theorem F2:Slot "set_iterator" "__next__" "set_iterator.__next__" :=
 .of (owner:="set_iterator") (n:="__next__") (by rw[kG,gi];kernel_rfl) (by decide +kernel) (by decide +kernel) (by decide +kernel)
  (by first|exact .inl (by decide +kernel)|exact .inr (by decide +kernel)) (by rw[iB];kernel_rfl)
theorem Lb:entryFor table "set_iterator.__next__"=some Builtin.«set_iterator.__next__»:=entryFor_of_tree (by kernel_rfl)
theorem Lp(a:Value):argsOk "set_iterator.__next__" ⟨[a],[]⟩:=by
 unfold argsOk
 kernel_rfl
theorem Ls:Slot "set_iterator" "__iter__" "set_iterator.__iter__" :=
 .of (owner:="set_iterator") (n:="__iter__") (by rw[kG,gi];kernel_rfl) (by decide +kernel) (by decide +kernel) (by decide +kernel)
  (by first|exact .inl (by decide +kernel)|exact .inr (by decide +kernel)) (by rw[iB];kernel_rfl)
theorem aN0:entryFor table "set_iterator.__iter__"=some Builtin.«dict_keyiterator.__iter__» :=
 entryFor_alias (id':="dict_keyiterator.__iter__") (by kernel_rfl) rfl (by decide +kernel) (by kernel_rfl)
theorem aL1(a:Value):argsOk "set_iterator.__iter__" ⟨[a],[]⟩:=by
 unfold argsOk
 kernel_rfl
inductive Rd|text|plain|drawn
structure Lies(h:Heap)(a:Addr)(es:Array (Int×Value))(ep:Nat)(t:SetTable):Prop where
 at_:∃o,h.get? a=some o/\o.cls=.type "set"/\o.data=.set es ep t
 fit:t.fits es.size=true
theorem Lies.at(x:Lies h a es ep t)(k:∀o,h.get? a=some o->h'.get? a=some o):Lies h' a es ep t :=
 ⟨let ⟨o,e,r⟩:=x.at_;⟨o,k o e,r⟩,x.fit⟩
def J1(h:Heap)(I a:Addr)(f:Value)(i n ep:Nat):Prop:=∃o,h.get? I=some o/\o.cls=.type "set_iterator"/\o.data=.fields #[f,rawInt i,.ref a,rawInt n,rawInt ep]
theorem J1.at(x:J1 h I a f i n ep)(k:∀o,h.get? I=some o->h'.get? I=some o):J1 h' I a f i n ep:=let ⟨o,e,r⟩:=x;⟨o,k o e,r⟩
theorem J1.ty(x:J1 s.heap I a f i n ep):s.TypeIs (.ref I) "set_iterator":=let ⟨o,e,c,_⟩:=x;⟨o,e,c⟩
def xP(w:World)(a:Addr)(es:Array (Int×Value))(ep:Nat)(pl:List Nat):Rd->List Value
 |.text=>(pickOrder (w.params.setOrder a ep) es).toList.map (·.2)
 |.plain=>es.toList.map (·.2)
 |.drawn=>pl.map λj=>(es.getD j (0,.none)).2
def slotAt(t:SetTable):Nat->Nat
 |0=>0
 |i+1=>t.place.getD i 0+1
def Q6(h:Heap)(t:SetTable)(b:Addr)(pl:List Nat)(i:Nat)(f:Value):Rd->Prop
 |.text=>∃k:Nat,f=rawInt k
 |.plain=>f=rawInt (slotAt t i)
 |.drawn=>f=.ref b/\∃o e,h.get? b=some o/\o.cls=.type "tuple"/\o.data=.seq (pl.map λj=>rawInt (j:Nat)).toArray e
def uK(w:World)(es:Array (Int×Value))(t:SetTable)(pl:List Nat):Rd->Prop
 |.text=>w.params.followText "set-order"=true
 |.plain=>w.params.followText "set-order"=false/\(t.plain=true\/es.size<=1)/\Well true t
 |.drawn=>w.params.followText "set-order"=false/\pl.Perm (List.range es.size)
theorem xU{Q:Bool->Shared->Prop}(h:Q (w.params.followText "set-order") s):wpAny (model prog w) A setsByText Q E s:=by
 unfold setsByText;exact ae (rq (av h))
theorem Kp(hL:Lies s.heap a es ep t)(ht:w.params.followText "set-order"=true){sl g:Nat}{Q:Option (Value×Nat)->Shared->Prop}(h:Q (((pickOrder (w.params.setOrder a ep) es)[g]?).map λe=>(e.2,sl)) s) :
  wpAny (model prog w) A (setNext a sl g ep) Q E s:=by
 obtain⟨o,ho,_,hd⟩:=hL.at_;unfold setNext;refine ae (cJ ho hd hL.fit ?_);refine ae (xU ?_);rw[ht,aH rfl,aE (by simp)];unfold setWalk;refine ae (ae (cJ ho hd hL.fit ?_));refine ae (xU ?_);rw[ht,aH rfl];exact ae (rq (av (av h)))
theorem KO(hL:Lies s.heap a es ep t)(ht:w.params.followText "set-order"=false)(hp:t.plain=true\/es.size<=1)(hl:t.led=true){sl g:Nat}{Q:Option (Value×Nat)->Shared->Prop}(h:Q (match es[SetTable.below t.place sl]?,t.place[SetTable.below t.place sl]? with|some (_,x),some j=>some (x,j+1)|_,_=>none) s):wpAny (model prog w) A (setNext a sl g ep) Q E s:=by
 obtain⟨o,ho,_,hd⟩:=hL.at_;unfold setNext;refine ae (cJ ho hd hL.fit ?_);refine ae (xU ?_);rw[ht,aE ∅];show wpAny _ _ (if(!t.plain&&decide (es.size>1))=true then _ else _) _ _ _;rw[aE (by rcases hp with e|e<;>simp[e])];refine ae (fH (a:=Unit.unit) ?_ (av h));show((if(!t.led&&!es.isEmpty)=true then unsupported "set:maker-not-led" else pure Unit.unit):Sem Unit)=pure Unit.unit;rw[hl]
 rfl
theorem aU3(hL:Lies s.heap a es ep t)(hj:j<es.size)(h:Q (es.getD j (0,.none)).2 s):wpAny (model prog w) A (setNextDrawn a j ep) Q E s:=by
 obtain⟨o,ho,_,hd⟩:=hL.at_;unfold setNextDrawn;refine ae (cJ ho hd hL.fit ?_);dsimp only;rw[aE (by simp)];have e:es[j]?=some (es.getD j (0,.none)):=by simp[Array.getD,hj]
 rw[e];exact av h
theorem Nf(hL:Lies s.heap a es ep t):t.place.size=es.size:=by
 have:=hL.fit;unfold SetTable.fits at this;simp at this;exact this.1
theorem Kz(hw:lK t.place)(hi:i<=t.place.size):SetTable.below t.place (slotAt t i)=i:=by
 cases i with
 |zero=>exact aX1 hw
 |succ i=>exact aX2 hw ()
theorem entries{Q:Array (Int×Value)->Shared->Prop}(hL:Lies s.heap a es ep t)(h:Q es s):wpAny (model prog w) A (setEntries a) Q E s:=by
 obtain⟨o,ho,_,hd⟩:=hL.at_;unfold setEntries;exact ae (cJ ho hd hL.fit (av h))
theorem Xl{f':Value}(hi:J1 h I a f i n ep)(hx:x=rawInt ((i:Int)+1)):J1 ((h.update I (Obj.mapFields (·.setIfInBounds 0 f'))).update I (Obj.mapFields (·.setIfInBounds 1 x))) I a f' (i+1) n ep:=by
 obtain⟨o,ho,hc,hd⟩:=hi;have h1:=bw (Obj.mapFields (·.setIfInBounds 0 f')) ho (dC (bB hd _));have d1:(Obj.mapFields (·.setIfInBounds 0 f') o).data=.fields #[f',rawInt i,.ref a,rawInt n,rawInt ep]:=by rw[bB hd];simp
 have h2:=bw (Obj.mapFields (·.setIfInBounds 1 x)) h1 (dC (bB d1 _));refine⟨_,h2,(pK ..).trans ((pK ..).trans hc),?_⟩;rw[bB d1];subst hx;simp[rawInt]
theorem Xk(hi:J1 h I a f i n ep)(hx:x=rawInt ((i:Int)+1)):J1 (h.update I (Obj.mapFields (·.setIfInBounds 1 x))) I a f (i+1) n ep:=by
 obtain⟨o,ho,hc,hd⟩:=hi;have h2:=bw (Obj.mapFields (·.setIfInBounds 1 x)) ho (dC (bB hd _));refine⟨_,h2,(pK ..).trans hc,?_⟩;rw[bB hd];subst hx;simp[rawInt]
theorem Js{f':Value}{m:Sem α}{Q':α->Shared->Prop}(hi:J1 s.heap I a f i n ep)(hx:x=rawInt ((i:Int)+1))(h:∀h',J1 h' I a f' (i+1) n ep->Heap.SameBut I s.heap h'->wpAny (model prog w) A m Q' E { s with heap:=h' }) :
  wpAny (model prog w) A (do setField (.ref I) 0 f';setField (.ref I) 1 x;m) Q' E s:=by
 obtain⟨o,ho,hc,hd⟩:=id hi;refine ae (dX ho hd (by simp) ?_);have h1:=bw (Obj.mapFields (·.setIfInBounds 0 f')) ho (dC (bB hd _));have d1:(Obj.mapFields (·.setIfInBounds 0 f') o).data=.fields #[f',rawInt i,.ref a,rawInt n,rawInt ep]:=by rw[bB hd];simp
 refine ae (dX (s:={ s with heap:=_ }) h1 d1 (by simp) ?_);exact h _ (Xl hi hx) ((cv ..).trans (cv ..))
theorem XY{m:Sem α}{Q':α->Shared->Prop}(hi:J1 s.heap I a f i n ep)(hx:x=rawInt ((i:Int)+1))(h:∀h',J1 h' I a f (i+1) n ep->Heap.SameBut I s.heap h'->wpAny (model prog w) A m Q' E { s with heap:=h' }) :
  wpAny (model prog w) A (do setField (.ref I) 1 x;m) Q' E s:=by
 obtain⟨o,ho,hc,hd⟩:=id hi;refine ae (dX ho hd (by simp) ?_);exact h _ (Xk hi hx) (cv ..)
theorem EZ(next:Nat->Nat)(xs:Array α):(pickOrder next xs).toList.Perm xs.toList:=by
 have go:∀(fuel k:Nat) (left:List α) (out:Array α),fuel=left.length->(pickOrder.go next fuel k left out).toList.Perm (out.toList++left):=by
  intro fuel
  induction fuel with
  |zero =>
   intro k left out e;have:left=[]:=dP e.symm;subst this;simp[pickOrder.go]
  |succ n ih =>
   intro k left out e;have dW:next k % left.length<left.length:=Ol _ ()
   unfold pickOrder.go;rw[ao dW];refine(ih _ _ _ (by rw[gH dW];omega)).trans ?_;rw[Array.toList_push,gY];refine List.Perm.append_left _ ?_;have:left.Perm (left[next k % left.length]::left.eraseIdx (next k % left.length)):=by
    rw[mq]
    conv=>lhs;rw[<- ju (next k % left.length) left,eM dW]
    exact List.perm_middle
   exact this.symm
 have:=go xs.size 0 xs.toList #[] (by simp);simpa[pickOrder] using this
theorem next_item{Q:Option Value->Shared->Prop}(hL:Lies s.heap a es ep t)(hr:uK w es t pl r)(hi:J1 s.heap I a f i es.size ep)(hf:Q6 s.heap t b pl i f r)(ff:b≠I)(dW:i<es.size)(h:∀v h' f',(xP w a es ep pl r)[i]?=some v->J1 h' I a f' (i+1) es.size ep->Q6 h' t b pl (i+1) f' r->Heap.SameBut I s.heap h'->Q (some v) { s with heap:=h' }):wpAny (model prog w) A (pyNext (.ref I)) Q E s:=by
 obtain⟨o,ho,hc,hd⟩:=id hi;unfold pyNext;refine ae (wpAny_attempt (fI (name:=Str.ofString "__next__") hi.ty F2 (dk F2 hi.ty Lb ?_ (Lp _))));unfold Builtin.«set_iterator.__next__»;refine ae (av ?_);refine ae (wpAny_fieldsOf ho hd ?_);dsimp only[rawInt];refine ae (entries hL ?_);rw[aE (by simp)];rw[cE,cE];cases r with
 |text =>
  obtain⟨k,rfl⟩:=hf;dsimp only[rawInt];refine ae (Kp hL hr ?_);have hl:i<(pickOrder (w.params.setOrder a ep) es).size:=by
   have:=(EZ (w.params.setOrder a ep) es).length_eq;simp at this;omega
  rw[qr hl];refine Js hi rfl λh' h1 h2=>av ⟨_,rfl,av (h _ _ _ ?_ h1 ⟨_,rfl⟩ h2)⟩;show((pickOrder (w.params.setOrder a ep) es).toList.map (·.2))[i]?=_;simp[hl]
 |plain =>
  obtain⟨r1,r2,r3⟩:=hr;have hs:=Nf hL;obtain rfl:=hf;dsimp only[rawInt];rw[cE];refine ae (KO hL r1 r2 r3.led ?_);rw[Kz r3.yU (),qr dW,getD_mem ()];refine Js hi rfl λh' h1 h2=>av ⟨_,rfl,av (h _ _ _ ?_ h1 rfl h2)⟩;show(es.toList.map (·.2))[i]?=_;simp[dW]
 |drawn =>
  obtain⟨r1,r2⟩:=hr;obtain⟨rfl,ob,e,hb,IH,zt⟩:=hf;have iw:i<pl.length:=by rw[r2.length_eq];simpa using dW
  dsimp only;refine ae (wpAny_seqItems hb zt ?_);have hj:pl[i]<es.size:=by
   have:=r2.mem_iff.mp (cg iw);simpa using this
  have e1:(pl.map λj=>rawInt (j:Nat)).toArray[i]?=some (rawInt (pl[i]:Nat)):=by simp[iw]
  dsimp only;rw[e1];dsimp only[rawInt];rw[cE];refine ae (aU3 hL hj ?_);refine XY hi rfl λh' h1 h2=>av ⟨_,rfl,av (h _ _ _ ?_ h1 ⟨rfl,ob,e,by rw[h2.2 b ff];exact hb,IH,zt⟩ h2)⟩;show(pl.map λj=>(es.getD j (0,.none)).2)[i]?=_;simp[iw]
theorem Fe{Q:Option Value->Shared->Prop}{h0:Heap}(hh:A.handled=none)(Ru:Heap.ExtBut I h0 s.heap)(h:∀h',Heap.ExtBut I h0 h'->Q none { s with heap:=h' }) :
  wpAny (model prog w) A.in1 (newExc (.type "StopIteration") [] >>= λe=>(raiseNew e:Sem Fin)) (λfin s'=>∃v,fin=Fin.done (Flow.ret v)/\wpAny (model prog w) A (pure (some v)) Q E s')
   (λe s'=>wpAny (model prog w) A (do
     let x <- isInstance e (Value.type "StopIteration")
     if x=true then pure none else throw e) Q E s') s:=by
 refine ae ?_;simp only[newExc,newTuple];refine ae (dI ?_ (by size_fits));refine ae (m:=firstArgMember _ _) (fH (a:=Value.none) (by first|rfl|(simp only[firstArgMember];rfl)) ?_);refine dI ?_ (by size_fits);simp only[raiseNew];refine ae (wpAny_handled ?_);rw[show A.in1.handled=none from hh];refine ae (av (wpAny_throw ?_));refine ae (jP (T:="StopIteration") (b:=true) ⟨_,aI _ rfl,rfl⟩ isSubtype_stop ?_);exact av (h _ ((Ru.push _).push _))
theorem next_end{Q:Option Value->Shared->Prop}(hh:A.handled=none)(hL:Lies s.heap a es ep t)(hr:uK w es t pl r)(hi:J1 s.heap I a f es.size es.size ep)(hf:Q6 s.heap t b pl es.size f r)(ff:b≠I)(h:∀h',Heap.ExtBut I s.heap h'->Q none { s with heap:=h' }):wpAny (model prog w) A (pyNext (.ref I)) Q E s:=by
 obtain⟨o,ho,hc,hd⟩:=id hi;unfold pyNext;refine ae (wpAny_attempt (fI (name:=Str.ofString "__next__") hi.ty F2 (dk F2 hi.ty Lb ?_ (Lp _))));unfold Builtin.«set_iterator.__next__»;refine ae (av ?_);refine ae (wpAny_fieldsOf ho hd ?_);dsimp only[rawInt];refine ae (entries hL ?_);rw[aE (by simp)];rw[cE,cE];cases r with
 |text =>
  obtain⟨k,rfl⟩:=hf;dsimp only[rawInt];refine ae (Kp hL hr ?_);have hl:(pickOrder (w.params.setOrder a ep) es).size<=es.size:=by
   have:=(EZ (w.params.setOrder a ep) es).length_eq;simp at this;omega
  rw[vt hl];refine ae (dX ho hd (by simp) ?_);exact Fe (s:={ s with heap:=_ }) hh (cv ..).extBut h
 |plain =>
  obtain⟨r1,r2,r3⟩:=hr;have hs:=Nf hL;obtain rfl:=hf;dsimp only[rawInt];rw[cE];refine ae (KO hL r1 r2 r3.led ?_);rw[Kz r3.yU (),vt (az _)];refine ae (dX ho hd (by simp) ?_);exact Fe (s:={ s with heap:=_ }) hh (cv ..).extBut h
 |drawn =>
  obtain⟨r1,r2⟩:=hr;obtain⟨rfl,ob,e,hb,IH,zt⟩:=hf;have iw:pl.length=es.size:=by rw[r2.length_eq];simp
  dsimp only;refine ae (wpAny_seqItems hb zt ?_);have e1:(pl.map λj=>rawInt (j:Nat)).toArray[es.size]?=none:=by simp[iw]
  dsimp only;rw[e1];dsimp only[rawInt];refine ae (dX ho hd (by simp) ?_);have h1:=bw (Obj.mapFields (·.setIfInBounds 0 (Value.int 0 0))) ho (dC (bB hd _));refine ae (dX (s:={ s with heap:=_ }) h1 (bB hd _) (by simp) ?_);exact Fe (s:={ s with heap:=_ }) hh ((cv ..).trans (cv ..)).extBut h
theorem a24{l:List α}(dW:k<l.length):(l[k]::l.eraseIdx k).Perm l:=by
 rw[mq]
 conv=>rhs;rw[<- ju k l,eM dW]
 exact List.perm_middle.symm
theorem KH{α:Type}:∀(n:Nat) (xs:List α) (s:Shared) (Q:List α->Shared->Prop),n=xs.length->(∀ys d,ys.Perm xs->Q ys { s with drawn:=d })->wpAny (model prog w) A (drawOrder n xs) Q E s
 |0,xs,s,Q,e,h=>by
  have:xs=[]:=dP e.symm;subst this;exact av (h [] s.drawn (List.Perm.refl _))
 |n+1,[],s,Q,e,h=>by simp at e
 |n+1,x::xs,s,Q,e,h=>by
  unfold drawOrder;refine ae ?_;intro Γ p hΓ;refine⟨by simp,?_⟩;generalize (model prog w).w.draws .order (s.drawn.get .order)=k;have dW:k % (x::xs).length<(x::xs).length:=Ol _ (by simp);have go:wpAny (model prog w) A (match (x :: xs)[k % (x :: xs).length]? with
   |some y=>do
    let ys <- drawOrder n ((x::xs).eraseIdx (k % (x::xs).length))
    pure (y::ys)
   | none=>unsupported "internal:drawOrder") Q E { s with drawn:=s.drawn.bump .order }:=by
   rw[ao dW];refine ae (KH n _ _ _ (by rw[gH dW];simp at e ⊢;omega) λys d hp=>av ?_);exact h _ d ((List.Perm.cons _ hp).trans (a24 dW))
  exact go
theorem MU(hr:uK w es t pl r):(xP w a es ep pl r).Perm (es.toList.map (·.2)):=by
 cases r with
 |text=>exact(EZ _ es).map _
 |plain=>exact List.Perm.refl _
 |drawn =>
  refine(hr.2.map _).trans ?_;have:(List.range es.size).map (λj=>(es.getD j (0,.none)).2)=es.toList.map (·.2):=by
   apply List.ext_getElem
   ·simp
   ·intro i h1 h2;simp at h1;simp[Array.getD,h1]
  rw[this]
theorem Lies.ty(hL:Lies s.heap a es ep t):s.TypeIs (.ref a) "set":=let ⟨o,e,c,_⟩:=hL.at_;⟨o,e,c⟩
theorem WV(hL:Lies s.heap a es ep t)(hw:Well (Led w) t)(hz:es.size<=10000)(h:∀r pl b f I h' d',uK w es t pl r->J1 h' I a f 0 es.size ep->Q6 h' t b pl 0 f r->b≠I->(b=a\/s.heap.objs.size<=b)->(∀c o,s.heap.get? c=some o->h'.get? c=some o)->s.heap.objs.size<=I->s.heap.objs.size<=h'.objs.size->Q (.ref I) { s with heap:=h',drawn:=d' }) :
  wpAny (model prog w) A (pyIter (.ref a)) Q E s:=by
 obtain⟨o,ho,Cn,hd⟩:=hL.at_;refine wpAny_pyIter_slot hL.ty F.slot_set_iter (dk F.slot_set_iter hL.ty aJ7 ?_ (F.args_set_iter_1 _));unfold Builtin.«frozenset.__iter__»;refine ae (av ?_);unfold Builtin.Frozenset.sizeOf;refine ae (ae (entries hL (av ?_)));unfold setDrawn;refine ae (ae (cJ ho hd hL.fit ?_));refine ae (xU (av ?_));have dW:=aF ho;have fin:∀(r:Rd) (f:Value) (b:Addr) (pl:List Nat) (h1:Heap) (d1:Drawn),uK w es t pl r->(∀h',(∀c o,h1.get? c=some o->h'.get? c=some o)->Q6 h' t b pl 0 f r)->b<h1.objs.size->(b=a\/s.heap.objs.size<=b)->(∀c o,s.heap.get? c=some o->h1.get? c=some o)->s.heap.objs.size<=h1.objs.size ->
   wpAny (model prog w) A.in1 (do
    let e <- setEpoch a
    ret (<- newFields "set_iterator" [f,rawInt 0,.ref a,rawInt es.size,rawInt e])) (λfin s'=>∃ v,fin=Fin.done (Flow.ret v)/\∃ T' r,s'.TypeIs v T'/\typeLookup (.type T') "__next__"=pure (some r)/\Q v s') E { s with heap:=h1,drawn:=d1 }:=λr f b pl h1 d1 hr hf hb CJ he hsz=>by
  have uz:Lies h1 a es ep t:=hL.at λo e=>he a o e;obtain⟨o1,Qc,_,IG⟩:=uz.at_;unfold setEpoch;refine ae (ae (cJ (s:={ s with heap:=h1,drawn:=d1 }) Qc IG uz.fit (av ?_)));refine ae (dI (av ⟨_,rfl,"set_iterator",_,⟨_,aI _ rfl,rfl⟩,F2.lookup,?_⟩));refine h r pl b f h1.objs.size _ d1 hr ⟨_,aI _ rfl,rfl,rfl⟩ (hf _ λc o e=>au _ e) (aU hb) CJ (λc o e=>au _ (he c o e)) hsz (by rw[yG];exact Nat.le_succ_of_le hsz)
 have e0:s={ s with heap:=s.heap,drawn:=s.drawn }:=rfl;cases hT:w.params.followText "set-order" with
 |true =>
  dsimp only[Bool.not_true,Bool.false_and];rw[aE (by simp)];refine ae (av ?_);rw[e0];exact fin .text (rawInt 0) a [] s.heap s.drawn hT (λh' _=>⟨0,rfl⟩) dW (.inl rfl) (λc o e=>e) (az _)
 |false =>
  show wpAny _ _ (if(!false&&(!t.plain&&decide (es.size>1)))=true then _ else _ ) _ _ _;by_cases hp:t.plain=true\/es.size<=1
  ·rw[aE (by rcases hp with e|e<;>simp[e])];refine ae (av ?_);rw[e0];refine fin .plain (rawInt 0) a [] s.heap s.drawn ⟨hT,hp,?_⟩ (λh' _=>rfl) dW (.inl rfl) (λc o e=>e) (az _);have:Led w=true:=by unfold Led;rw[hT];rfl
   rw[<- this];exact hw
  ·have h1:t.plain=false:=by cases hq:t.plain with|true=>exact absurd (.inl hq) hp|false=>rfl
   have h2:¬es.size<=1:=λz=>hp (.inr z);rw[aH (by simp[h1];omega)];refine ae (KH _ _ _ _ (lN).symm λys d hy=>?_);have hl:ys.length=es.size:=by rw[hy.length_eq];simp
   refine ae (dI ?_ (by show(List.map _ ys).toArray.size<=sizeLine;rw[aJ,ai,hl];exact aG hz ∅));refine fin .drawn (.ref s.heap.objs.size) s.heap.objs.size ys _ d ⟨hT,hy⟩ (λh' hk=>⟨rfl,_,_,hk _ _ (aI _ rfl),rfl,rfl⟩) (by rw[yG];exact fL _) (.inr (az _)) (λc o e=>au _ e) (by rw[yG];exact gU _)
theorem a05(hh:A.handled=none)(hr:uK w es t pl r)(ff:b≠I)(Qe:a≠I) :
  Walks prog w A I [I,a,b] [I] es.size (λi v=>(xP w a es ep pl r)[i]?=some v) (λi h=>Lies h a es ep t/\∃f,J1 h I a f i es.size ep/\Q6 h t b pl i f r) where
 sub:=λc hc=>by simp at hc;simp[hc]
 frame:=λi h h' st hk=>by
  obtain⟨hL,f,hi,hf⟩:=st;refine⟨hL.at λo e=>hk a (by simp) o e,f,hi.at λo e=>hk I (by simp) o e,?_⟩;cases r with
  |text=>exact hf
  |plain=>exact hf
  |drawn =>
   obtain⟨e1,o,e,h1,h2⟩:=hf;exact⟨e1,o,e,hk b (by simp) o h1,h2⟩
 item:=λi s Q E hi st hQ=>by
  obtain⟨hL,f,hI,hf⟩:=st;exact next_item hL hr hI hf ff hi λv h' f' hv h1 h2 h3=>hQ v h' s.toks hv ⟨hL.at λo e=>by rw[h3.2 a Qe];exact e,f',h1,h2⟩ λc o hc e=>h3.extBut c o (λz=>hc (by simp[z])) e
 done:=λs Q E st hQ=>by
  obtain⟨hL,f,hI,hf⟩:=st;exact next_end hh hL hr hI hf ff λh' he=>hQ h' s.toks λc o hc e=>he c o (λz=>hc (by simp[z])) e
 self:=λi s Q E st hQ=>by
  obtain⟨hL,f,hI,hf⟩:=st;refine wpAny_pyIter_slot hI.ty Ls (dk Ls hI.ty aN0 ?_ (aL1 _));exact ae (av (av ⟨_,rfl,"set_iterator",_,hI.ty,F2.lookup,hQ⟩))
theorem aI3:typeLookup (.type "set") "__len__"=pure (some (.builtin "set.__len__")):=by rw[kG,gi];kernel_rfl
theorem aM0(hh:A.handled=none)(hL:Lies s.heap a es ep t)(hw:Well (Led w) t)(hz:es.size<=10000){Q:List Value->Shared->Prop}(h:∀(vs:List Value) h' d' nS,vs.Perm (es.toList.map (·.2))->(∀c o,s.heap.get? c=some o->h'.get? c=some o)->s.heap.objs.size<=h'.objs.size->s.toks<=nS->Q vs { s with heap:=h',drawn:=d',toks:=nS }) :
  wpAny (model prog w) A (collect (.ref a)) Q E s:=by
 have dW:a<s.heap.objs.size:=let ⟨o,ho,_⟩:=hL.at_;aF ho
 unfold collect;refine ae (wpAny_runValue (fB F.entry_proto_collect ?_));rw[eY F.plain_proto_collect _];show wpAny _ A.in1 (newList [] >>= λl=>again (.builtin "list.__iadd__" ⟨[l,.ref a],[]⟩)) _ _ s;refine ae (dI ?_);refine av ⟨nu F.plain_list_iadd _,fB F.entry_list_iadd ?_⟩;rw[eY F.plain_list_iadd _];have uz:Lies (s.heap.push { cls:=.type "list",data:=.seq ([]:List Value).toArray }) a es ep t:=hL.at λo e=>au _ e;have QQ:(s.heap.push { cls:=.type "list",data:=.seq ([]:List Value).toArray }).get? s.heap.objs.size=some { cls:=.type "list",data:=.seq ([]:List Value).toArray }:=aI _ rfl;have ff:s.heap.objs.size≠a:=cc dW;have h1:Builtin.List.listSameRef (.ref s.heap.objs.size) (.ref a)=false:=by simp[Builtin.List.listSameRef,ff]
 show wpAny _ A.in1 (Builtin.List.listExtendWith (.ref s.heap.objs.size) (.ref a) (.ref s.heap.objs.size)) _ _ _;unfold Builtin.List.listExtendWith;refine ae (fR (Lies.ty (s:={ s with heap:=_ }) uz) ?_);rw[aE (by rw[h1];decide)];refine ae (WV (s:={ s with heap:=_ }) uz hw hz λr pl b f I h2 d2 hr hI hf hb QL he CZ h2z=>?_);have sN:Lies h2 a es ep t:=uz.at λo e=>he a o e;have wR:=he _ _ QQ;refine ae (cI ?_);unfold Builtin.List.listLengthHint;refine ae (wpAny_specialOf (Lies.ty (s:={ s with heap:=h2,drawn:=d2 }) sN) aI3 ?_);generalize Ir:("set.__len__":String)=Pq;dsimp only;rw[show splitId Pq=some ("set","__len__") from by subst Ir;decide +kernel];dsimp only;refine ae (jP (b:=true) (Lies.ty (s:={ s with heap:=h2,drawn:=d2 }) sN) (by rw[iB];kernel_rfl) ?_);rw[aE ∅];subst Ir;rw[aH (by decide +kernel)];refine ae (fR (Lies.ty (s:={ s with heap:=h2,drawn:=d2 }) sN) ?_);refine av ?_;rw[aH (by decide +kernel)];refine ae (Be ?_);refine ae ?_;show wpAny _ A.in1 (updateSeq s.heap.objs.size (·.push .none) >>= λ_=>updateSeq s.heap.objs.size (·.pop)) _ _ _;refine ae (wpAny_updateSeq (s:={ s with heap:=h2,drawn:=d2 }) wR rfl ?_);have IP:=bw (Obj.mapSeq (·.push Value.none)) wR rfl;refine wpAny_updateSeq (s:={ s with heap:=_,drawn:=d2 }) IP rfl ?_;have QP:=bw (Obj.mapSeq (·.pop)) IP rfl;have HD:∀c o,c≠s.heap.objs.size->h2.get? c=some o->((h2.update s.heap.objs.size (Obj.mapSeq (·.push Value.none))).update s.heap.objs.size (Obj.mapSeq (·.pop))).get? c=some o :=
  λc o hc e=>(dj _ _ (bT hc)).trans ((dj _ _ (bT hc)).trans e)
 have uk:s.heap.objs.size<(s.heap.push { cls:=.type "list",data:=.seq ([]:List Value).toArray }).objs.size:=by rw[yG];exact fL _
 have hSI:I≠s.heap.objs.size:=cc (aC uk CZ);have hSb:b≠s.heap.objs.size:=by
  rcases QL with z|z
  ·rw[z];exact bT ff
  ·exact cc (aC uk z)
 have W:=(a05 (prog:=prog) (w:=w) (A:=A.in1) (a:=a) (b:=b) (I:=I) (es:=es) (ep:=ep) (t:=t) (pl:=pl) hh hr hb (aU (aC (cW dW uk) CZ))).toS;have st:Lies h2 a es ep t/\∃f,J1 h2 I a f 0 es.size ep/\Q6 h2 t b pl 0 f r:=⟨sN,f,hI,hf⟩
 have lT:=W.frame 0 ({ s with heap:=h2,drawn:=d2 }:Shared) _ s.toks st (az _) λc hc o e=>HD c o (λz=>by simp at hc;rcases hc with y|y|y<;>simp_all) e;refine av ⟨nu F.plain_extend_loop _,codeAny_extend_loopS W (aG hz ∅) _ (λz=>by simp at z;rcases z with y|y|y<;>simp_all) _ es.size 0 _ _ _ rfl (cP _) lT QP (ItemsOf.nil _) λs' ya c' hm oB mh=>?_⟩;show wpAny _ A (load s.heap.objs.size >>= _) _ _ s';refine ae (wpAny_load oB ?_);refine av ?_;have eS:s'={ s with heap:=s'.heap,drawn:=d2,toks:=s'.toks }:=by
  obtain⟨kz,g',d',nS,vG⟩:=s';have m1:g'=s.gens:=hm.gens;have m2:d'=d2:=hm.drawn;have m3:vG=s.os:=hm.os;subst m1;subst m2;subst m3
  rfl
 have eo:ya.toList=xP w a es ep pl r:=by
  have l1:(xP w a es ep pl r).length=es.size:=by rw[(MU hr).length_eq];simp
  apply List.ext_getElem
  ·rw[l1];simpa using mh.1
  ·intro i h1 h2;have:=mh.2 i ya.toList[i] (by simp at h1 ⊢);dsimp only at this;rw[ao h2] at this;exact(aR this).symm
 rw[eo,eS];refine h _ _ d2 s'.toks (MU hr) (λc o e=>?_) (eK (aF oB)) hm.toks;have hc:c<s.heap.objs.size:=aF e;have n1:c≠s.heap.objs.size:=aU hc;have n2:c≠I:=aU (aC (cW hc uk) CZ);exact hm.heap c o (by simp[n1,n2]) (HD c o n1 (he c o (au _ e)))
theorem aS8(hh:A.handled=none)(hS:A4 prog w s.heap a ks)(h64:ks.length<64)(h:∀(S:Addr) (vs:List Value) (ns:List Int) e h' d' nS,IntsAre vs ns->ns.Perm ks->ns.Pairwise (·<=·)->h'.get? S=some (seqObj "list" vs.toArray e)->s.heap.objs.size<=S->(∀c o,s.heap.get? c=some o->h'.get? c=some o)->s.toks<=nS->Q (.ref S) { s with heap:=h',drawn:=d',toks:=nS }) :
  wpAny (model prog w) A (call (.builtin "sorted") [.ref a]) Q E s:=by
 obtain⟨o,es,ep,t,ho,hx,hd,sE,hp,hn,hb,hf,hw⟩:=hS;have hL:Lies s.heap a es ep t:=⟨⟨o,ho,hx.1,hd⟩,hf⟩
 have hz:es.size=ks.length:=by rw[<- hp.length_eq];simp
 refine Calls.call_function_entry kind_sorted plain_sorted entry_sorted (args_sorted1 _) ?_;unfold Builtin.«sorted»;refine ae (m:=checkCount "sorted" 1 1 _) (av ?_);refine ae (aM0 (A:=A.in1) hh hL hw () λvs h1 d1 Bw hv he uk zd=>?_);have hI:IntsAre vs (vs.map toI):=by
  have all:∀v∈vs,∃tk,v=.int (toI v) tk:=λv wm=>by
   obtain⟨e,CD,rfl⟩:=aZ.mp (hv.mem_iff.mp wm);obtain⟨tk,h1,_⟩:=LZ sE CD;exact⟨tk,h1⟩
  clear hv
  induction vs with
  |nil=>exact .nil
  |cons v r ih =>
   obtain⟨tk,e⟩:=all v (by simp);have:=IntsAre.cons (toI v) tk (ih λu hu=>all u (by simp[hu]));rw[<- e] at this;exact this
 have hk:(vs.map toI).Perm ks:=by
  refine(hv.map toI).trans ?_;rw[bR];exact hp
 have hl:vs.length<64:=by rw[hv.length_eq];simp;omega
 refine ae (wpAny_newList (s:={ s with heap:=h1,drawn:=d1,toks:=Bw }) ?_);have wx:(h1.push (seqObj "list" vs.toArray 0)).get? h1.objs.size=some (seqObj "list" vs.toArray 0):=aI _ rfl;refine ae (cI (dk (s:={ s with heap:=h1.push (seqObj "list" vs.toArray 0),drawn:=d1,toks:=Bw }) slot_list_sort ⟨_,wx,rfl⟩ entry_list_sort (list_sort_tree wx hI hl λout BH a1 a2 a3=>⟨_,rfl,?_⟩) (args_list_sort _)));obtain⟨e,CD⟩:=sortedHeap_at (vs:=vs) (out:=out) wx;refine av ⟨_,rfl,h h1.objs.size out.toList BH e _ d1 Bw a1 (a2.trans hk) a3 CD uk (λc o' e'=>?_) zd⟩;have hc:=aF (he c o' e');rw[sortedHeap_old (aU hc) (by rw[yG];exact Nat.lt_succ_of_lt hc)];exact au _ (he c o' e')
def m5(ks xs:List Int):List Int:=xs.foldl I9 ks
theorem P2:∀(xs ks:List Int),(m5 ks xs).length<=ks.length+xs.length
 |[],ks=>by simp[m5]
 |x::xs,ks=>by
  have:=P2 xs (I9 ks x);have h2:=Vy ks x;show(m5 (I9 ks x) xs).length<=_;simp only[List.length_cons];omega
theorem FH:∀(xs ks:List Int) (k:Int),k∈m5 ks xs↔k∈ks\/k∈xs
 |[],ks,k=>by simp[m5]
 |x::xs,ks,k=>by
  show k∈m5 (I9 ks x) xs↔_;rw[FH xs];unfold I9;split
  ·rename_i h;constructor
   ·rintro(a|a)
    ·exact .inl a
    ·exact .inr (by simp[a])
   ·rintro(a|a)
    ·exact .inl a
    ·rcases aL.mp a with rfl|b
     ·exact .inl h
     ·exact .inr b
  ·simp[or_assoc]
theorem Fv:∀(xs ks:List Int),ks.Nodup->(m5 ks xs).Nodup
 |[],ks,h=>h
 |x::xs,ks,h=>by
  show(m5 (I9 ks x) xs).Nodup;refine Fv xs _ ?_;unfold I9;split
  ·exact h
  ·rename_i hk;rw[cT];exact⟨h,by simp,λa ha b hb=>by simp at hb;subst hb;exact λz=>hk (z▸ha)⟩
theorem aW0:Well (Led w) (SetTable.fresh 0 0 (Led w)):=⟨by simp[lK,SetTable.fresh],rfl,rfl⟩
theorem Nx(e:h.get? a=some { cls:=.type "set",dict:=none,data:=.set #[] 0 (.fresh 0 0 (Led w)) }):A4 prog w h a [] :=
 ⟨_,#[],0,_,e,⟨rfl,rfl,rfl⟩,rfl,(by intro e he;simp at he),by simp,by simp,by decide,by rfl,aW0⟩
theorem a90{R:Result->Shared->Prop}{fp wr:List Addr}{G:Array GenState->Array GenState->Prop}{P:Nat->Value->Prop}{St:Nat->Shared->Prop}(W:WalksS prog w A.in1 I fp wr G n P St)(IM:a∉fp)(hn:n=ns.length)(hv:∀i v,P i v->∃tk,v=.int (ns.getD i 0) tk)(hb:n+1<scanBound):∀(k i:Nat) (s:Shared),i+k=n->St i s->A4 prog w s.heap a (m5 [] (ns.take i)) ->
   (∀s',Moved (a::wr) G s s'->A4 prog w s'.heap a (m5 [] ns)->R (.ok (.ret .none)) s')->codeAny (model prog w) A (.builtin "set.update.loop" ⟨[.ref a,.ref I],[]⟩) R s:=by
 have hw:a∉wr:=λh=>IM (W.sub _ h);have vx:∀b∈wr,b∈a::wr:=λb hb=>by simp[hb]
 intro k
 induction k with
 |zero =>
  intro i s e st hS hR;obtain rfl:i=n:=by omega
  refine fB km ?_;rw[eY eO _];unfold Builtin.«set.update.loop»;refine ae (W.done s _ _ st λs' m=>av (hR s' (m.mono vx) (A4.at ?_ λo e=>m.heap a o hw e)));rw[hn,bK] at hS;exact hS
 |succ k ih =>
  intro i s e st hS hR;have dW:i<ns.length:=by omega
  refine fB km ?_;rw[eY eO _];unfold Builtin.«set.update.loop»;refine ae (W.item i s _ _ () st λv s' hP mX m=>?_);obtain⟨tk,rfl⟩:=hv i v hP;have oB:=A4.at hS λo e=>m.heap a o hw e;have hl:=P2 (ns.take i) [];rw[cM] at hl;simp only[List.length_nil] at hl;refine ae (cI ?_);unfold setAdd;refine cI (ae ((intKind prog w).pyHash (k:=ns.getD i 0) (gs _ _ _ _) ?_));refine Jy (s:={ s' with toks:=s'.toks+1 }) oB () λh' bb sb wR=>?_;have e2:I9 (m5 [] (ns.take i)) (ns.getD i 0)=m5 [] (ns.take (i+1)):=by
   unfold m5;rw[bE,List.foldl_append,ao dW];simp[List.getD,dW]
  rw[e2] at wR;refine av ⟨nu eO _,ih (i+1) _ () (W.frame _ s' _ _ mX (gU _) λb hb o e=>by rw[sb.2 b λz=>IM (z▸hb)];exact e) wR λs2 m2 h2=>?_⟩;exact hR s2 (Moved.trans W.gtrans ((m.mono vx).then_heap (gU _) λb o hb e=>by rw[sb.2 b λz=>hb (by rw[z];simp)];exact e) m2) h2
noncomputable abbrev B9(w:World):Obj:={ cls:=.type "set",dict:=none,data:=.set #[] 0 (.fresh 0 0 (Led w)) }
theorem Mi(h:Q (.ref s.heap.objs.size) { s with heap:=s.heap.push (B9 w) }):wpAny (model prog w) A (newSet (.type "set")) Q E s:=by
 unfold newSet;refine ae (xU ?_);exact dI h (cP _)
theorem VF(x:Value)(h:Q (.ref s.heap.objs.size) { s with heap:=s.heap.push (B9 w) }):codeAny (model prog w) A (.call (.builtin "set.__new__") ⟨[.type "set",x],[]⟩) (wants Q E) s:=by
 refine vk (?_:wpAny _ A.in1 (do
  checkBuiltinCall "set.__new__" ⟨[.type "set",x],[]⟩
  again (.builtin "set.__new__" ⟨[.type "set",x],[]⟩)) _ _ s)
 refine ae (fH (F.newCall_set_1 x) (av ⟨nu F.plain_set_new _,?_⟩));refine fB F.entry_set_new ?_;rw[eY F.plain_set_new _];unfold Builtin.«set.__new__»;have sub:=sub_set_self;refine ae (m:=Builtin.Frozenset.newClass "set" _) ?_;unfold Builtin.Frozenset.newClass;dsimp only;refine ae (fH (a:=true) (by first|rfl|(simp[isType];rfl)) ?_);rw[aE ∅];refine ae (fH sub ?_);rw[aE ∅];refine av ?_;exact ae (Mi (av h))
theorem MN{vs:List Value}(h:IntsAre vs ns):vs.length=ns.length:=by
 induction h with
 |nil=>rfl
 |cons n t r ih=>simp[ih]
def yh(h:Heap)(l:Addr)(items:Array Value):Prop:=h.IsList l items\/h.IsTuple l items
theorem yh.lt(x:yh h l items):l<h.objs.size:=by
 rcases x with⟨_,e,_⟩|⟨_,e,_⟩<;>exact aF e
theorem VQ{Q:Fin->Shared->Prop}(hh:A.handled=none)(hS:s.heap.get? a=some (B9 w))(hl:yh s.heap l items)(hi:IntsAre items.toList ns)(hb:items.size+1<scanBound)(ff:a≠l)(h:∀h' tk,A4 prog w h' a (m5 [] ns)->(∀b o,b≠a->s.heap.get? b=some o->h'.get? b=some o)->s.toks<=tk->wpAny (model prog w) A (ret .none) Q E { s with heap:=h',toks:=tk }) :
  wpAny (model prog w) A (Builtin.«set.__init__» ⟨[.ref a,.ref l],[]⟩) Q E s:=by
 have hT:s.TypeIs (.ref a) "set":=⟨_,hS,rfl⟩
 have hLi:Lies s.heap a #[] 0 (SetTable.fresh 0 0 (Led w)):=⟨⟨_,hS,rfl,rfl⟩,rfl⟩
 have dW:=hl.lt;have Ij:l≠s.heap.objs.size:=aU dW;unfold Builtin.«set.__init__» noKeywords;dsimp only;refine ae (fH (a:=Unit.unit) rfl ?_);have nm:∀{Q':String->Shared->Prop},(∀x,Q' x s)->wpAny (model prog w) A (typeNameOfCut 200 (.ref a)) Q' E s:=λ{Q'} q=>by
  unfold typeNameOfCut shownTypeOf;refine ae (ae (fR hT ?_));rw[aE ∅];refine av (fH (a:="set") ?_ (q _));unfold typeNameCut;dsimp only
  first|(unfold typeName;rw[find?_eq_fast];kernel_rfl)|kernel_rfl
 refine ae (nm λx=>?_);refine ae (m:=checkCount _ 0 1 _) (av ?_);refine ae (m:=Builtin.Frozenset.addrOf _) (av ?_);unfold setUsed;refine ae (ae (cJ hS rfl rfl (av ?_)));rw[aE (by show ¬((SetTable.fill (SetTable.fresh 0 0 (Led w)) != 0)=true);unfold SetTable.fill;simp[SetTable.fresh])];unfold Builtin.Frozenset.updateFrom Builtin.Frozenset.isAnySet;obtain⟨c,uw,CU,it,hit,Ip,St,W,eB⟩:∃c:String,(c="list"\/c="tuple")/\s.TypeIs (.ref l) c/\∃it:Obj,(∀Q':Value->Shared->Prop,Q' (.ref s.heap.objs.size) { s with heap:=s.heap.push it }->wpAny (model prog w) A (pyIter (.ref l)) Q' E s) /\
   (∀b o,s.heap.get? b=some o->(s.heap.push it).get? b=some o)/\∃St:Nat->Shared->Prop,WalksS prog w A.in1 s.heap.objs.size [s.heap.objs.size,l] [s.heap.objs.size] (λa b=>b=a) items.size (λi v=>items[i]?=some v) St/\St 0 { s with heap:=s.heap.push it }:=by
  rcases hl with hl|hl
  ·obtain⟨o,ho,hc,_⟩:=id hl;exact⟨"list",.inl rfl,⟨o,ho,hc⟩,_,λQ' q=>fS hl q,λb o e=>au _ e,_,(Bf (A:=A.in1) hh _ l Ij items).toS,⟨⟨_,aI _ rfl,rfl,rfl⟩,hl.push _⟩⟩
  ·obtain⟨o,ho,hc,_⟩:=id hl;exact⟨"tuple",.inr rfl,⟨o,ho,hc⟩,_,λQ' q=>wpAny_pyIter_tuple hl q,λb o e=>au _ e,_,(Walks.tuple (A:=A.in1) hh _ l Ij items).toS,⟨⟨_,aI _ rfl,rfl,rfl⟩,hl.push _⟩⟩
 refine ae (ae (ae (jP (b:=false) CU (by rcases uw with rfl|rfl<;>(rw[iB];kernel_rfl)) ?_)));show wpAny (model prog w) A (isInstance (Value.ref l) (Value.type "frozenset")) _ _ _;refine jP (b:=false) CU (by rcases uw with rfl|rfl<;>(rw[iB];kernel_rfl)) ?_;rw[aE ∅];refine ae (fR CU ?_);rw[aE (by rcases uw with rfl|rfl<;>decide)];refine ae (hit _ ?_);refine ae (wpAny_runValue ?_);have QN:a<s.heap.objs.size:=aF hS;have hsz:items.size=ns.length:=by rw[<- bD];exact MN hi
 refine a90 (a:=a) (ns:=ns) W (by simp only[List.mem_cons,List.not_mem_nil,or_false,not_or];exact⟨aU QN,ff⟩) hsz (λi v hv=>IntsAre.int_at hi i v (by rw[fJ];exact hv)) hb items.size 0 _ ()
  eB (Nx (Ip _ _ hS)) λs' m oB=>?_
 have eS:s'={ s with heap:=s'.heap,toks:=s'.toks }:=by
  obtain⟨kz,g',d',nS,vG⟩:=s';have m1:g'=s.gens:=m.gens;have m2:d'=s.drawn:=m.drawn;have m3:vG=s.os:=m.os;subst m1;subst m2;subst m3
  rfl
 rw[eS];refine av (h _ _ oB (λb o hb e=>?_) m.toks);exact m.heap b o (by simp only[List.mem_cons,List.not_mem_nil,or_false,not_or];exact⟨hb,aU (aF e)⟩) (Ip _ _ e)
theorem VB(hh:A.handled=none)(hl:yh s.heap l items)(hi:IntsAre items.toList ns)(hb:items.size+1<scanBound)(h:∀h' tk,A4 prog w h' s.heap.objs.size (m5 [] ns)->(∀b o,s.heap.get? b=some o->h'.get? b=some o)->s.toks<=tk->Q (.ref s.heap.objs.size) { s with heap:=h',toks:=tk }) :
  wpAny (model prog w) A (call (.type "set") [.ref l]) Q E s:=by
 have cs:=F.called_set;obtain⟨_,_,y1⟩:=cs.mro;have y2:=cs.made;have y3:=cs.sub;have y4:=cs.notType;have y5:=cs.canCreate;have y6:=F.typeCall_set_1 (.ref l);refine wpAny_call (vk (?_:wpAny _ _ (callAny (.type "set") _) _ _ _));refine av ⟨Code.quiet_builtin _ (by decide +kernel),fB F.entry_type_call ?_⟩;rw[Around.under_plain (weight_type_call_type "set" [.ref l] []) rfl]
 repeat (any_goals (first|assumption|wp_step))
 refine hV (VF (.ref l) (E:=E) (Q:=λv s1=>v=.ref s.heap.objs.size/\s1={ s with heap:=s.heap.push (B9 w) }) ⟨rfl,rfl⟩) ?_;rintro(e|fl) s1 hr
 ·exact hr
 cases fl with
 |next=>exact hr
 |brk=>exact hr
 |cont=>exact hr
 |ret v =>
 obtain⟨rfl,rfl⟩:=hr;have hS:(s.heap.push (B9 w)).get? s.heap.objs.size=some (B9 w):=aI _ rfl;have hT:Shared.TypeIs { s with heap:=s.heap.push (B9 w) } (.ref s.heap.objs.size) "set":=⟨_,hS,rfl⟩
 have y7:=cs.init.lookup;have y8:=cs.init.bind (.ref s.heap.objs.size)
 repeat (any_goals (first|assumption|wp_step))
 refine hV (codeAny_call_builtin (R:=wants (λv s2=>v=.none/\∃h' tk,s2={ s with heap:=h',toks:=tk }/\A4 prog w h' s.heap.objs.size (m5 [] ns)/\(∀b o,s.heap.get? b=some o->h'.get? b=some o)/\s.toks<=tk) E) cs.init.plain F.entry_set_init (check_set_init_1 hT ?_)) ?_
 ·have kh:yh (s.heap.push (B9 w)) l items:=hl.imp (·.push _) (·.push _);have Qn:=hl.lt;refine VQ (s:={ s with heap:=s.heap.push (B9 w) }) (by simp[hh]) hS kh hi hb (cc Qn) λh' tk h1 h2 h3=>av ⟨rfl,h',tk,rfl,h1,λb o e=>h2 b o (aU (aF e)) (au _ e),h3⟩
 ·rintro(e|fl) s2 hr
  ·exact hr
  cases fl with
  |next=>exact hr
  |brk=>exact hr
  |cont=>exact hr
  |ret v =>
  obtain⟨rfl,h',tk,rfl,h1,h2,h3⟩:=hr
  repeat (any_goals (first|assumption|wp_step))
  exact h _ _ h1 h2 h3
end ST
namespace L2
open PySem PySem.Spec PyProof.Rows
def tI(X:Cx)(a:Addr)(ks:List Int):HO:=.ext λh=>ST.A4 X.prog X.w h a ks
def u6(ns:List Int):List Int:=(ST.m5 [] ns).mergeSort (λa b=>decide (a<=b))
theorem Kr:∀{a b:List Int},a.Perm b->a.Pairwise (·<=·)->b.Pairwise (·<=·)->a=b
 |[],b,h,_,_=>by rw[List.nil_perm.mp h]
 |x::a,[],h,_,_=>absurd h.length_eq (by simp)
 |x::a,y::b,h,h1,h2=>by
  rw[kL] at h1 h2;have e:x=y:=by
   have m1:=h.mem_iff (a:=y);have m2:=h.mem_iff (a:=x);simp only[List.mem_cons,true_or,true_iff,iff_true] at m1 m2;rcases m1 with z|z
   ·exact z.symm
   ·rcases m2 with z'|z'
    ·exact z'
    ·have:=h1.1 y z;have:=h2.1 x z';omega
  subst e;rw[Kr (h.cons_inv) h1.2 h2.2]
theorem aS9(ns:List Int):(u6 ns).Pairwise (·<=·):=by
 have:=List.pairwise_mergeSort (le:=λa b:Int=>decide (a<=b)) (λa b c h1 h2=>by simp at *;omega) (λa b=>by simp;omega) (ST.m5 [] ns);exact this.imp λh=>by simpa using h
theorem U0(ns:List Int):(u6 ns).Perm (ST.m5 [] ns):=List.mergeSort_perm _ _
theorem S7(ns:List Int):(u6 ns).length<=ns.length:=by
 rw[(U0 ns).length_eq];have:=ST.P2 ns [];simpa using this
section
variable{X:Cx}{pins:List (Addr×Obj)}{Z:St}{H:Hp}{s:Shared}
theorem Inv.draw(I:Inv X pins Z H s)(d:Drawn):Inv X pins Z H { s with drawn:=d } :=
 I.step (g':=s.gens) (t':=s.toks) (d':=d) (ch:=[]) (by simp) (λb o _ _ _ e _=>e) (λb o _ _ _ e _=>⟨o.slots,e⟩) (λb o _ _ e=>e) (λb o _ e=>⟨o,e⟩) (λ_ _ e=>e) (λ_ _ _ e=>e) (λb ps e=>⟨#[],by simp[e]⟩) (λm hm=>hm) I.bZ I.bare
theorem Mx{h:Heap}{a:Addr}{ks:List Int}(x:ST.A4 X.prog X.w h a ks):t8 X.prog X.w H h a (tI X a ks) :=
 ⟨x,by obtain⟨o,_,_,_,e,_⟩:=x;exact⟨o,e⟩,λh1 h2 y k=>y.at k⟩
theorem aR7{ns:List Int}{vs:List Value}(h:IntsAre vs ns):Vals (ns.map V.int) vs:=by
 induction h with
 |nil=>exact .nil
 |cons n t r ih=>exact .cons ⟨t,rfl⟩ ih
theorem O7:∀{ns:List Int} {vs:List Value},Vals (ns.map V.int) vs->IntsAre vs ns
 |[],_,h=>by cases h;exact .nil
 |n::ns,_,h=>by
  cases h with
  |cons r rr =>
   obtain⟨t,rfl⟩:=r;exact .cons n t (O7 rr)
theorem Lq(hc:X.calm=true):q9 X (.type "set") (λxs H Q=>∃a ns,xs=[.ref a]/\fO X.K H a (ns.map V.int)/\ns.length<60/\∀p,H p=none->Q (.ref p) (upd H p (tI X p (ST.m5 [] ns)))):=by
 intro pins s Z H xs us Q I r h;obtain⟨a,ns,rfl,hq,hl,q⟩:=h;cases r with
 |cons r rr =>
 cases rr;cases r;obtain⟨bo,rv,p,hz⟩:=I.list hq;have hI:=O7 rv;have hlen:=ST.MN hI;refine ST.VB (ns:=ns) (I.ok.hd hc) (.inl p.isList) (by simpa using hI) (by rw[aJ,hlen];exact aC (Nat.succ_lt_succ hl) ∅) λh' tk hS hk _=>?_;exact⟨.ref _,_,I.laid (a:=s.heap.objs.size) (t':=tk) hk (az _) (Mx hS),rfl,q _ (I.bZ.fresh (az _))⟩
theorem Y3(hc:X.calm=true):q9 X (.builtin "sorted") (λxs H Q=>∃a ns,xs=[.ref a]/\H a=some (tI X a (ST.m5 [] ns))/\ns.length<60/\∀p,H p=none->Q (.ref p) (upd H p (.lst ((u6 ns).map V.int)))):=by
 intro pins s Z H xs us Q I r h;obtain⟨a,ns,rfl,ha,hl,q⟩:=h;cases r with
 |cons r rr =>
 cases rr;cases r;have hS:ST.A4 X.prog X.w s.heap a (ST.m5 [] ns):=(I.bZ a _ ha).1;have hn:=ST.P2 ns [];simp only[List.length_nil] at hn;refine ST.aS8 (I.ok.hd hc) hS () λS vs BH e h' d' nS h1 h2 h3 h4 h5 h6 _=>?_;have e1:BH=u6 ns:=Kr (h2.trans (U0 ns).symm) h3 (aS9 ns);subst e1;have hz:=S7 ns;exact⟨.ref S,_,(I.laid (a:=S) (o:=.lst ((u6 ns).map V.int)) (t':=nS) h6 h5 ⟨by rw[ai];exact aG hz (aG (eK hl) ∅),vs,e,aR7 h1,h4⟩).draw d',rfl,q S (I.bZ.fresh h5)⟩
end
end L2
namespace ST
open PySem PyProof.Rows
theorem VA{prog:Program}{w:World}{A:Around}{E:Value->Shared->Prop}{s:Shared}{a:Addr}{ks:List Int}{k:Int}{tk:Tok}{Q:Value->Shared->Prop}(hS:A4 prog w s.heap a ks)(hr:ks.length+1<scanBound)(h:∀h',Heap.SameBut a s.heap h'->A4 prog w h' a (I9 ks k)->Q .none { s with heap:=h',toks:=s.toks+1 }):wpAny (model prog w) A (call (.builtin "set.add") [.ref a,.int k tk]) Q E s:=by
 have hT:s.TypeIs (.ref a) "set":=let ⟨o,_,_,_,e,x,_⟩:=hS;⟨o,e,x.1⟩
 refine dk F.slot_set_add hT F.entry_set_add ?_ (F.args_set_add_2 _ _);have go:∀(Q':Fin->Shared->Prop),(∀h',Heap.SameBut a s.heap h'->A4 prog w h' a (I9 ks k)->wpAny (model prog w) A.in1 (ret .none) Q' E { s with heap:=h',toks:=s.toks+1 })->wpAny (model prog w) A.in1 (do let _ <- setAdd a (.int k tk);ret .none) Q' E s:=λQ' q=>by
  unfold setAdd;refine ae (cI (ae ((intKind prog w).pyHash (k:=k) (gs _ _ _ _) ?_)));exact Jy (s:={ s with toks:=s.toks+1 }) hS hr λh' b sb S2=>q h' sb S2
 unfold Builtin.«set.add» Builtin.Frozenset.oneOther;simp only[List.isEmpty_nil,bind_assoc];unfold Builtin.Frozenset.addrOf;refine ae (av ?_)
 try dsimp only
 refine ae (av ?_)
 try dsimp only
 exact go _ λh' sb S2=>av ⟨_,rfl,h h' sb S2⟩
end ST
namespace L2
open PySem PySem.Spec PyProof.Rows
variable{elt iter:Expr}{ifs:List Expr}{scope:Scope}{pos:Pos}
section
variable{prog:Program}{w:World}{A:Around}{R:Result->Shared->Prop}{s:Shared}
theorem aS1(elt target iter:Expr)(ifs:List Expr)(scope:Scope)(pos:Pos)(it acc:Value)(env:Env):compTurn (.SetComp elt [⟨target,iter,ifs,0⟩] scope pos) 0 it acc env=(do
      standAt iter.pos
      match <- pyNext it with
      |none=>pure (.done .next)
      |some v =>
        letOwnedTupleGo target it v
        assign target env v
        let mut ok:=true
        for c in ifs do if ok then ok <- isTrue c env (eval c env)
        if ok then(do let x <- eval elt env;standAt elt.pos;let _ <- call (.builtin "set.add") [acc,x])
        again (.compLoop (.SetComp elt [⟨target,iter,ifs,0⟩] scope pos) 0 it acc env)):=by rfl
theorem aB4{target:Expr}{it acc:Value}{env:Env}(I:Nat->Shared->Prop)(turn:∀ n s,I n s->wpAny (model prog w) A (pyNext it) (λr bW=>match r with
   |none=>R (.ok .next) bW
   | some v=>wpAny (model prog w) A (letOwnedTupleGo target it v) (λ_ bW=>wpAny (model prog w) A (assign target env v) (λ_ fZ =>
     wpAny (model prog w) A (forIn ifs true λc r=>if r=true then do let ok <- isTrue c env (eval c env);pure (ForInStep.yield ok) else pure (ForInStep.yield r)) (λok fk =>
      if ok=true then wpAny (model prog w) A (eval elt env) (λx kq =>
       wpAny (model prog w) A (call (.builtin "set.add") [acc,x]) (λ_ nT=>∃ m,m < n/\I m nT) (λ_ _=>False) kq) (λ_ _=>False) fk
      else ∃ m,m < n/\I m fk) (λ_ _=>False) fZ) (λ_ _=>False) bW) (λ_ _=>False) bW) (λ_ _=>False) s)(n:Nat)(h:I n s) :
  codeAny (model prog w) A (.compLoop (.SetComp elt [⟨target,iter,ifs,0⟩] scope pos) 0 it acc env) R s:=by
 refine codeAny_loop rfl I (λn s hI=>?_) n h;show wpAny _ A ((compTurn (.SetComp elt [⟨target,iter,ifs,0⟩] scope pos) 0 it acc env).onRaise (λx=>do noteFrame x env;theTreesLotGoes x)) _ _ s;refine wpAny_noted ?_;rw[aS1];refine ae (fq (ae (bA (turn n s hI) (λr bW dU=>?_) λ_ _ h'=>h'.elim)));cases r with
 |none=>exact av dU
 |some v =>
  refine ae (bA dU (λ_ bW dU=>?_) λ_ _ h'=>h'.elim);refine ae (bA dU (λ_ fZ jG=>ae (bA jG (λok fk oi=>?_) λ_ _ h'=>h'.elim)) λ_ _ h'=>h'.elim);cases ok with
  |false=>exact wpAny_pure ⟨rfl,oi⟩
  |true =>
   exact ae (ae (bA oi (λx kq sf=>ae (fq (ae (bA sf (λ_ nT se=>av (av ⟨rfl,se⟩)) λ_ _ h'=>h'.elim)))) λ_ _ h'=>h'.elim))
theorem aT3{target:Expr}{it acc:Value}{env:Env}(h0:codeAny (model prog w) A (.compLoop (.SetComp elt [⟨target,iter,ifs,0⟩] scope pos) 0 it acc env) R s)(h:wpAny (model prog w) A (pyIter it) (λHS s'=>codeAny (model prog w) A (.compLoop (.SetComp elt [⟨target,iter,ifs,0⟩] scope pos) 0 HS acc env) R s') (notedBy (model prog w) A env λx s'=>R (.error x) s') s) :
  codeAny (model prog w) A (.compStart (.SetComp elt [⟨target,iter,ifs,0⟩] scope pos) 0 it acc env) R s:=by
 refine vk (?_:wpAny _ _ ((compStart (.SetComp elt [⟨target,iter,ifs,0⟩] scope pos) 0 it acc env).onRaise (λx=>do noteFrame x env;standAt theWindowsPlace)) _ _ s);refine wpAny_notedAt ?_;unfold compStart;refine ae (rq (wpAny_ite ?_));split
 ·first
   |exact av ⟨rfl,h0⟩
   |exact ae (av (av ⟨rfl,h0⟩))
 ·refine ae (Be ?_);exact ae (fq (ae (bA h (λHS s' h'=>av ⟨rfl,h'⟩) λ_ _ x=>x)))
end
def Gp(o:Obj):Prop:=∀v,o.data≠.cell v
def Te(X:Cx)(wi:TI)(f7:List Nat)(n:Nat)(g:TG)(tc:TT)(te:TE):TE:=λZ H Q=>wi Z H λJ H1=>∃W:Nat->Nat->List Int->St->Hp->Prop,(∃m,W 0 m [] (F7 Z f7 n) H1)/\∀i m ys Z H,W i m ys Z H ->
 (J.stop i H/\∀p,H p=none->Q (.ref p) (upd H p (tI X p (ST.m5 [] ys)))) \/
 (J.go i H/\ys.length < 60/\∀ x H',J.rH i H x H'->g x Z H' λcA H2=>tc cA H2 λb H3 =>
  if b=true then te cA H3 λy H4=>∃ k,y=.int k/\∃ m',m' < m/\W (i + 1) m' (ys ++ [k]) cA H4 else ∃ m',m' < m/\W (i + 1) m' ys cA H3)
section
variable{X:Cx}{pins:List (Addr×Obj)}{Z:St}{H:Hp}{s:Shared}
theorem Inv.Th{D:Addr}{φ:Heap->Prop}(I:Inv X pins Z H s)(f:F8 X pins H D)(hs:X.dE.heap.objs.size<=D)(ho:t8 X.prog X.w (upd H D (.ext φ)) s.heap D (.ext φ)):Inv X pins Z (upd H D (.ext φ)) s:=by
 obtain⟨f0,f1,f2,f3,f4,f5⟩:=f;have ff:∀b o,X.dE.heap.get? b=some o->b≠D:=λb o e z=>absurd (aF e) (by rw[z];exact iX.mpr hs);have tup:∀b u,H b=some u->upd H D (.ext φ) b=some u:=λb u e=>by rw[i9 (p9 e f0)];exact e
 refine⟨I.ok,I.os,I.bare,⟨?_,?_,?_,I.base.there,?_,?_,?_⟩,I.loc,I.cell,?_,?_,?_,?_,I.len,I.sg⟩
 ·exact λb o e n1 n2 n3=>I.base.keep b o e n1 n2 n3
 ·exact λb o e n1 n2 n3=>I.base.slot b o e n1 n2 n3
 ·exact λb o e n1 n2=>by rw[i9 (ff b o e)];exact I.base.free b o e n1 n2
 ·exact λb xs e=>tup _ _ (I.base.jc b xs e)
 ·exact λb o u e=>tup _ _ (I.base.iP b o u e)
 ·exact λb ps e=>by
   obtain⟨more,q⟩:=I.base.jd b ps e;exact⟨more,tup _ _ q⟩
 ·rw[i9 f1.symm];exact I.free
 ·exact λx c e=>by rw[i9 (f4 x c e)];exact I.eR x c e
 ·intro p hp;obtain⟨p1,p2,p3⟩:=I.pin p hp;exact⟨p1,by rw[i9 (f5 p hp)];exact p2,p3⟩
 ·intro a o e;by_cases ha:a=D
  ·subst ha;rw[x8] at e;cases e;exact ho
  ·rw[i9 ha] at e;have q:=I.bZ a o e;refine q.Z0 (λb u _ h=>h) (λb hb=>tup _ _ hb) (λb xs hb=>tup _ _ hb)
theorem aM1{tg:Expr}{N':List Str}{f7:List Nat}{cl:List (Str×Addr)}{it:Addr}{fp:List Addr}{tn:Nat->Heap->Prop}{J:It}{g:TG}{tc:TT}{te:TE}{RR:Value->Addr->Result->Shared->Prop}{E:Value->Shared->Prop}{W:Nat->Nat->List Int->St->Hp->Prop}{m0:Nat}{Q:VK}(S:dO X scope N' f7 cl)(hc:X.calm=true)(hg:∀C s H,PG (i0 X pins scope N' cl C s H fp) tg g)(ht:∀C s H,mO (i0 X pins scope N' cl C s H fp) ifs tc)(he:∀C s H,PE (i0 X pins scope N' cl C s H fp) elt te)(I:Inv X pins Z H s)(T:Turn X.prog X.w X.K tg J fp it tn)(st:tn 0 s.heap)(hf:∀b∈fp,F8 X pins H b)(w0:W 0 m0 [] (F7 Z f7 N'.length) H)(turn:∀ i m ys Z H,W i m ys Z H->(J.stop i H/\∀ p,H p=none->Q (.ref p) (upd H p (tI X p (ST.m5 [] ys)))) \/
   (J.go i H/\ys.length < 60/\∀ x H',J.rH i H x H'->g x Z H' λcA H2=>tc cA H2 λb H3 =>
    if b=true then te cA H3 λy H4=>∃ k,y=.int k/\∃ m',m' < m/\W (i + 1) m' (ys ++ [k]) cA H4 else ∃ m',m' < m/\W (i + 1) m' ys cA H3))(CW:∀D C s' H' m,Inv X pins Z H' s'->Q (.ref D) H'->s'.heap.Ns C m->H' C=none->s.heap.objs.size<=C->RR (.ref D) C (.ok .next) s') :
  wpAny (model X.prog X.w) X.A (newSet (.type "set")) (λacc fk=>wpAny (model X.prog X.w) X.A (newFunctionEnv scope X.env.globals cl [] X.env.qual none .none (some X.env)) (λnj kq =>
   codeAny (model X.prog X.w) X.A (.compStart (.SetComp elt [⟨tg,iter,ifs,0⟩] scope pos) 0 (.ref it) acc { nj with scope:=relabel scope X.env }) (RR acc nj.locals) kq) E fk) E s:=by
 refine ST.Mi (Lx λdU gS fU oz=>?_);dsimp only at gS fU oz ⊢;generalize sO:s.heap.push (ST.B9 X.w)=H2 at gS fU oz ⊢;generalize eD:s.heap.objs.size=D at *;have hC:H2.objs.size=D+1:=by rw[<- sO,eW,eD]
 generalize eC:H2.objs.size=C at *;have wX:D≠C:=by omega
 have lt:∀b o,s.heap.get? b=some o->b<D:=λb o e=>by rw[<- eD];exact aF e
 have rZ:D<=C:=by omega
 have qy:∀b o,s.heap.get? b=some o->b≠C:=λb o e=>aU (aC (lt b o e) rZ);have nY:∀b o,s.heap.get? b=some o->b≠D:=λb o e=>aU (lt b o e);have old:∀b o,s.heap.get? b=some o->dU.get? b=some o:=λb o e=>fU b o (sO▸au _ e);have mh:dU.get? D=some (ST.B9 X.w):=fU _ _ (by rw[<- sO,<- eD];exact aI _ rfl);have jH:∀b∈fp,∃o,s.heap.get? b=some o:=λb hb=>by
  obtain⟨o,e,_⟩:=T.obj _ _ st b hb;exact⟨o,e⟩
 have wW:D∉fp:=λhm=>by
  obtain⟨o,e⟩:=jH D hm;exact nY D o e rfl
 have X1:Inv (i0 X pins scope N' cl C s H fp) [] (F7 Z f7 N'.length) H { s with heap:=dU } :=
  I.KG S hc hf jH (by rw[eD];omega) ⟨_,gS⟩ old oz
 have vy:tn 0 dU:=T.keep _ _ _ st λb _ o e=>old b o e;have DE:∀{H':Hp},(∀b∈fp,H' b=none)->∀b∈fp,F8 (i0 X pins scope N' cl C s H fp) [] H' b:=λhn b hb=>by
  obtain⟨f0,f1,f2,f3,f4,f5⟩:=hf b hb;obtain⟨o,e⟩:=jH b hb;refine⟨hn b hb,?_,?_,.inl hb,λx c q=>(Ap oz q).elim (λl z=>absurd (cW (z▸l) (aC (lt b o e) rZ)) (bu _)) λq=>f4 x c (S.cin x c q),λp hp=>?_⟩
  ·exact qy b o e
  ·exact λz=>by
    rcases aL.mp (I.O2 b z) with z|z
    ·exact f1 z
    ·exact f2 z
  ·have kz:p∈X.pn++pins:=by simpa[i0] using hp
   exact f5 p kz
 have fD:∀{H':Hp},H' D=none->F8 (i0 X pins scope N' cl C s H fp) [] H' D:=λhn=>by
  refine⟨hn,wX,λz=>?_,.inr (by show s.heap.objs.size<=D;omega),λx c q=>?_,λp hp=>?_⟩
  ·exact absurd (I.ym (a:=D) ()) λkf=>by
    rcases aL.mp (I.O2 D z) with z|z
    ·exact absurd I.lt (by rw[<- z,eD];exact bu _)
    ·exact kf z
  ·rcases Ap oz q with l|q
   ·exact λz=>absurd (aC (z▸l) rZ) (bu _)
   ·obtain⟨v,o,e,_⟩:=I.cell x c (S.cin x c q);exact nY c o e
  ·have kz:p∈X.pn++pins:=by simpa[i0] using hp
   exact nY _ _ (I.pin p kz).1
 have rX:∀{H':Hp} {s':Shared} {bU:St} {oD:Obj},Gp oD->Inv (i0 X pins scope N' cl C s H fp) [] bU H' s'->H' D=none->s'.heap.get? D=some oD ->
   Inv (i0 X pins scope N' cl C s H fp) [(D,oD)] bU H' s':=λ{H' s' bU oD} kA J0 hn e=>J0.N4 λp hp=>by
  have z:p=(D,oD):=by simpa using hp
  subst z;obtain⟨f0,f1,f2,_⟩:=fD hn;exact⟨e,f0,f1,f2,kA⟩
 have pj:∀{H':Hp} {oD:Obj},(∀b∈fp,H' b=none)->∀b∈fp,F8 (i0 X pins scope N' cl C s H fp) [(D,oD)] H' b:=λ{H' oD} hn b hb=>by
  obtain⟨f0,f1,f2,f3,f4,f5⟩:=DE hn b hb;refine⟨f0,f1,f2,f3,f4,λp hp=>?_⟩;have kz:p∈(i0 X pins scope N' cl C s H fp).pn\/p=(D,oD):=by simpa using hp
  rcases kz with z|z
  ·exact f5 p (dy _ z)
  ·subst z;exact λz=>wW (by rw[show D=b from z];exact hb)
 have loop:∀fk:Shared,fk={ s with heap:=dU } ->
   codeAny (model X.prog X.w) X.A (.compLoop (.SetComp elt [⟨tg,iter,ifs,0⟩] scope pos) 0 (.ref it) (.ref D) (compEnvC scope (M8 scope cl C) C X.env)) (RR (.ref D) C) fk:=by
  rintro fk rfl;refine aB4 (λn s'=>∃ (i:Nat) (ys:List Int) (bU:St) (H':Hp) (oD:Obj),Inv (i0 X pins scope N' cl C s H fp) [] bU H' s'/\tn i s'.heap/\(∀ b ∈ fp,H' b=none)/\H' D=none/\ys.length <= 60/\Gp oD /\
   s'.heap.get? D=some oD/\ST.A4 X.prog X.w s'.heap D (ST.m5 [] ys)/\W i n ys bU H') ?_ m0 ⟨0,[],_,H,ST.B9 X.w,X1,vy,λb hb=>(hf b hb).1,I.bZ.fresh (),cP _,(λv (z:Data.set _ _ _=_)=>by cases z),mh,ST.Nx mh,w0⟩
  rintro n s3 ⟨i,ys,jb,H3,oD,I3,qv,qT,d3,z3,c3,o3,S3,w3⟩;have yD:=rX c3 I3 d3 o3;rcases turn i n ys jb H3 w3 with⟨stop,q⟩|⟨go,hz,step⟩
  ·refine cO (T.done (i0 X pins scope N' cl C s H fp) rfl rfl rfl rfl i _ s3 _ H3 _ yD (pj qT) qv stop) λr s4 ⟨hr,I4⟩=>?_;subst hr;have o4:=(I4.pin (D,oD) (by simp)).1;have J4:Inv X pins Z H3 s4:=I.MI hf I4;have DF:F8 X pins H3 D:=by
    refine⟨d3,cc (by rw[<- eD];exact I.lt),I.ym (),.inr (by have:=I.sz;omega),λx c q=>?_,λp hp=>?_⟩
    ·obtain⟨v,o,e,_⟩:=I.cell x c q;exact nY c o e
    ·exact nY _ _ (I.pin p hp).1
   obtain⟨mC,Cr,_⟩:=I4.loc;exact CW D C s4 (upd H3 D (tI X D (ST.m5 [] ys))) mC (J4.Th DF (by have:=I.sz;omega) (Mx (S3.at λo e=>by rw[o3] at e;cases e;exact o4))) (q D d3) Cr (by rw[i9 wX.symm];exact I4.free) ()
  ·refine cO (T.item (i0 X pins scope N' cl C s H fp) rfl rfl rfl rfl i _ s3 _ H3 _ yD (pj qT) qv go) λr s4 ⟨u,hr,h4⟩=>?_;subst hr;refine cO h4 λ_ s5 bq=>?_;obtain⟨x,H5,I5,r5,y5,nU,xh⟩:=bq;have o5:=I5.pin (D,oD) (by simp);have yC:=I5.pinned (pj xh) (T.obj _ _ nU);refine cO (hg C s H _ s5 _ H5 x u _ yC r5 (step x H5 y5)) λ_ s6 bq=>?_;obtain⟨mS,H6,I6,q6⟩:=bq;refine cO (ht C s H _ s6 mS H6 _ I6 q6) λok s7 ⟨H7,I7,q7⟩=>?_;have back:∀{vw:St} {H8:Hp} {s8:Shared},Inv (i0 X pins scope N' cl C s H fp) ([(D,oD)]++vh fp s5.heap) vw H8 s8->(∀b∈fp,H8 b=none)/\tn (i+1) s8.heap/\H8 D=none/\s8.heap.get? D=some oD :=
    λ{vw H8 s8} I8=>by
     have pf:∀b∈fp,∀o,s5.heap.get? b=some o->s8.heap.get? b=some o/\H8 b=none:=λb hb o e=>by
      have:=I8.pin (b,o) (bt _ (bt _ (U3 hb e)));exact⟨this.1,this.2.1⟩
     have pd:=I8.pin (D,oD) (by simp);refine⟨λb hb=>?_,T.keep _ _ _ nU λb hb o e=>(pf b hb o e).1,pd.2.1,pd.1⟩;obtain⟨o,e,_⟩:=T.obj _ _ nU b hb;exact(pf b hb o e).2
   cases ok with
   |false =>
    obtain⟨m',hm,w7⟩:=q7;obtain⟨b1,b2,b3,b4⟩:=back I7;exact⟨m',hm,i+1,ys,mS,H7,oD,I7.N4 λp hp=>absurd hp (by simp),b2,b1,b3,z3,c3,b4,S3.at λo e=>by rw[o3] at e;cases e;exact b4,w7⟩
   |true =>
    refine cO (he C s H _ s7 mS H7 _ I7 q7) λxv s8 bq=>?_;obtain⟨y,H8,I8,r8,kk,ey,m',hm,w8⟩:=bq;subst ey;obtain⟨tk,rfl⟩:=r8;obtain⟨b1,b2,b3,b4⟩:=back I8;have S8:ST.A4 X.prog X.w s8.heap D (ST.m5 [] ys):=S3.at λo e=>by rw[o3] at e;cases e;exact b4
    have BN:=ST.P2 ys [];simp only[List.length_nil] at BN;refine ST.VA S8 (aC (by omega:_<62) ∅) λh' sb S9=>?_;have e9:ST.I9 (ST.m5 [] ys) kk=ST.m5 [] (ys++[kk]):=by unfold ST.m5;rw[List.foldl_append];rfl
    rw[e9] at S9;obtain⟨o9,es9,ep9,t9,g9,x9,d9,r9⟩:=id S9;have c9:Gp o9:=λv z=>by rw[d9] at z;cases z
    have Hc:Inv (i0 X pins scope N' cl C s H fp) [] mS H8 s8:=I8.N4 λp hp=>absurd hp (by simp);obtain⟨f0,f1,f2,f3,f4,f5⟩:=fD (H':=H8) b3;have kp:∀b o,b≠D->s8.heap.get? b=some o->h'.get? b=some o:=λb' u hb hu=>by rw[sb.2 b' hb];exact hu
    refine⟨m',hm,i+1,ys++[kk],mS,H8,o9,Hc.turned (it:=D) (t':=s8.toks+1) kp f0 f1 f3 f4 f5,T.keep _ _ _ b2 λb hb o e=>kp b o (λz=>wW (by rw[<- z];exact hb)) e,b1,b3,?_,c9,g9,S9,w8⟩;rw[bj,jv];omega
 exact aT3 (loop _ rfl) (T.self _ 0 _ _ _ vy (loop _ rfl))
theorem Wo{tg:Expr}{N':List Str}{f7:List Nat}{cl:List (Str×Addr)}{wi:TI}{g:TG}{tc:TT}{te:TE}(S:dO X scope N' f7 cl)(hc:X.calm=true)(hi:PI X tg iter wi)(hg:∀pins C s H fp,PG (i0 X pins scope N' cl C s H fp) tg g)(ht:∀pins C s H fp,mO (i0 X pins scope N' cl C s H fp) ifs tc)(he:∀pins C s H fp,PE (i0 X pins scope N' cl C s H fp) elt te)(hs:∀x,foldedSetIterable iter X.env x=pure x):PE X (.SetComp elt [⟨tg,iter,ifs,0⟩] scope pos) (Te X wi f7 N'.length g tc te):=by
 intro pins s Z H Q I h;rw[arm_eval_SetComp];refine jr (use:=none) rfl hs S.tq S.kind S.names (cO (hi pins s Z H _ I h) λxv bW dU=>cO dU λwj fZ jG=>?_);obtain⟨it,fp,tn,J,H2,e,I2,T,lT,f2,W,⟨m0,w0⟩,turn⟩:=jG;subst e;refine aM1 (RR:=λacc C=>compPost (model X.prog X.w) X.A X.xe none (EP X pins Z Q) acc C) S hc (λC s H=>hg pins C s H fp) (λC s H=>ht pins C s H fp) (λC s H=>he pins C s H fp) I2 T lT f2 w0 turn ?_;intro D C s' H' m I' q hn hC hsz;exact⟨m,hn,λh' sb=>⟨.ref D,H',I'.JL hsz I2 hC sb,rfl,q⟩⟩
end
end L2
namespace HT
open PySem PyProof.Rows Builtin
end HT
namespace L2
open PySem PySem.Spec PyProof.Rows
def Uj(sep:Str)(ys:List Str):Nat:=ys.foldl (λn y=>n+y.length+sep.length) 0
end L2
namespace HT
open PySem PyProof.Rows Builtin PySem.SeqAt
section
variable{prog:Program}{w:World}{A:Around}{E:Value->Shared->Prop}{s:Shared}
theorem a38:typeLookup (.type "tuple") (dunderI "add")=pure none:=by
 show typeLookup (.type "tuple") "__iadd__"=pure none;rw[kG,gi];kernel_rfl
theorem VO{t b:Addr}{vs ws:List Value}{Q:Value->Shared->Prop}(ht:IsTup s.heap t vs.toArray)(hb:IsTup s.heap b ws.toArray)(h0:vs=[]->Q (.ref b) s)(h1:ws=[]->Q (.ref t) s)(h2:Q (.ref s.heap.objs.size) { s with heap:=s.heap.push { cls:=.type "tuple",data:=.seq (vs++ws).toArray } })(hsz:vs.length+ws.length<=sizeLine):wpAny (model prog w) A (inplaceOp .Add (.ref t) (.ref b)) Q E s:=by
 obtain⟨⟨cls,dd,data,sl⟩,ho,hc,n,hd⟩:=id ht;obtain⟨⟨xD,qV,data2,my⟩,jI,oA,n2,hd2⟩:=id hb;simp only at hc hd oA hd2;subst hc hd oA hd2;have e:vs.toArray++ws.toArray=(vs++ws).toArray:=by simp
 refine wpAny_inplaceOp_concat (T:="tuple") ⟨_,ho,rfl⟩ ⟨_,jI,rfl⟩ a38 jQ nt ?_;by_cases hv:vs=[]
 ·subst hv;exact fG rC ⟨_,ho,rfl⟩ pM (nQ _ _) (tuple_addW0 t b #[] ws.toArray n n2 dd qV sl my rfl) ⟨ho,jI,h0 rfl⟩
 by_cases hw:ws=[]
 ·exact fG rC ⟨_,ho,rfl⟩ pM (nQ _ _) (tuple_addW1 t b vs.toArray ws.toArray n n2 dd qV sl my (by simpa using hv) (by simp[hw])) ⟨ho,jI,h1 hw⟩
 ·refine fG rC ⟨_,ho,rfl⟩ pM (nQ _ _) (tuple_addW2 t b vs.toArray ws.toArray n n2 dd qV sl my (by simpa using hv) (by simpa using hw) (by rw[aJ,aJ];exact hsz)) ⟨ho,jI,?_⟩;rw[e];exact h2
end
end HT
namespace L2
open PySem PySem.Spec PyProof.Rows
section
variable{X:Cx}
def Ep(ys:List V)(y:V)(n:Nat):Prop:=ys.all O8=true/\O8 y=true/\(∃z,ys[n]?=some z/\pz z y=true)/\∀(m:Nat) z,m<n->ys[m]?=some z->pz z y=false
theorem EO:∀{xs:List V} {us:List Value} {i:Nat} (hi:i<us.length),Vals xs us->∃x,xs[i]?=some x/\RelV x us[i]
 |_,_,0,hi,.cons r _=>⟨_,rfl,r⟩
 |_,_,i+1,hi,.cons _ t=>by
  obtain⟨x,h1,h2⟩:=EO (i:=i) (by simpa using hi) t;exact⟨x,by simpa using h1,by simpa using h2⟩
theorem NB{xs:List V}(h:xs.all O8=true){i:Nat}{x:V}(e:xs[i]?=some x):O8 x=true:=bG.mp h x (aD e)
theorem a63{ys:List V}{y:V}{n:Nat}{bo:List Value}(F:Ep ys y n)(r:Vals ys bo):∃hn:n<bo.toArray.size,xl y bo.toArray[n]=true/\∀m (hm:m<bo.toArray.size),m<n->xl y bo.toArray[m]=false:=by
 obtain⟨fs,fy,⟨z,hz,he⟩,kf⟩:=F;have hl:=r.length;have hn:n<bo.length:=by
  have:=(ak.mp hz).1;omega
 refine⟨by simpa using hn,?_,λm hm Qi=>?_⟩
 ·obtain⟨x,hx,rx⟩:=EO hn r;rw[hz] at hx;cases hx;rw[Bj,Gx rx (NB fs hz)];exact he
 ·have ou:m<bo.length:=by simpa using hm
  obtain⟨x,hx,rx⟩:=EO ou r;rw[Bj,Gx rx (NB fs hx)];exact kf m x Qi hx
def Mr(K:PySem.W.Frag):V->List V->Hp->VK->Prop:=λx xs H Q=>∃a ys y n,x=.ref a/\xs=[y]/\fO K H a ys/\Ep ys y n/\n<2 ^ 62/\Q (.int n) H
theorem a41(hu:X.A.units+100<cLine):mP X "list.index" (Mr X.K):=by
 intro pins s Z H x xs v us Q I rx r h;obtain⟨a,ys,y,n,rfl,rfl,hq,W,pU,q⟩:=h;cases rx;cases r with
 |cons ry rr =>
 cases rr;obtain⟨bo,rv,p,hz⟩:=I.list hq;have pt:=p.isList.typeIs;obtain⟨⟨cls,dd,data,sl⟩,k,ho,hc,IF,hd⟩:=id p;simp only at hc IF hd;subst hc IF hd;obtain⟨hn,hit,kf⟩:=a63 W rv;refine fG F.slot_list_index pt F.entry_list_index (F.args_list_index_2 _ _) (SeqAt.list_indexAt a bo.toArray k none sl _ (xl y) n hn () hit kf) ⟨ho,λw hw=>MP ry W.2.1 rv W.1 w (by simpa using hw),⟨.int n,H,I.tok _,⟨_,rfl⟩,q⟩⟩
def Ed(K:PySem.W.Frag)(H:Hp)(a:Addr)(xs:List V):Prop :=
 H a=some (.tup xs)\/∃(o:Obj) (bo:Array Value) (n:Nat),K.lookup a=some o/\o.cls=.type "tuple"/\o.dict=none/\o.data=.seq bo n/\bo.size<=sizeLine/\Vals xs bo.toList
theorem Ed.sq{K:PySem.W.Frag}{H:Hp}{a:Addr}{xs:List V}(h:Ed K H a xs):jo K H a xs:=by
 rcases h with h|⟨o,bo,n,h1,h2,_,h3,h4,h5⟩
 ·exact .inl (.inl h)
 ·exact .inr ⟨o,bo,n,h1,h2,h3,h4,h5⟩
def Tc(K:PySem.W.Frag)(to:TE)(t:TA):TE:=λZ H Q=>to Z H λx H1=>∃a xs,x=.ref a/\fO K H1 a xs/\t Z H1 λys H2=>Mr K x ys H2 Q
theorem Wm{o e:Expr}{es:List Expr}{to:TE}{t:TA}{apos eT:Pos}(hu:X.A.units+100<cLine)(ho:PE X o to)(ha:PA X (e::es) t)(gy:attributeBase o "index" X.env (eval o X.env)=eval o X.env)(mf:((backTo eT (starEach (e :: es) X.env)).all (λx=>!x.1) && (backToKw eT (keywordEach [] X.env)).all (λx=>x.1.isSome)
   && decide ((e :: es).length + ([]:List Keyword).length + (if ([]:List Keyword).isEmpty then 0 else 1) < 30))=true)(gx:(apos.endLine==eT.line)=true)(hs:starEach (e::es) X.env=(false,eval e X.env)::starEach es X.env)(fm:(backTo eT (starEach es X.env)).any (·.1)=false) :
  PE X (.Call (.Attribute o "index" apos) (e::es) [] eT) (Tc X.K to t):=by
 intro pins s Z H Q I h;refine wpAny_Call_method_late gy mf gx rfl (cO (ho pins s Z H _ I h) λv s1 bq=>?_);obtain⟨x,H1,I1,r1,q1⟩:=bq;obtain⟨a,xs,rfl,hq,q1⟩:=q1
 ·cases r1;obtain⟨bo,rv,pl,hz⟩:=I1.list hq;have pt:=pl.isList.typeIs;obtain⟨ob,k,e1,_,e2,_⟩:=id pl;refine⟨"list","list.index",F.plainAttrs_list,F.slot_list_index,F.type_list_index,pt,λb q=>by cases q;exact⟨ob,e1,e2⟩,?_⟩;have hA:=ha eT pins s1 Z H1 _ I1 q1;rw[hs] at hA ⊢;refine ko (by show(false||(backTo eT (starEach es X.env)).any (·.1))=false;rw[fm]<;>rfl) (lP ?_);exact cO hA λus s2 ⟨vs,H2,I2,r2,q2⟩=>a41 hu pins s2 Z H2 (.ref a) vs (.ref a) us Q I2 rfl r2 q2
def ZT(K:PySem.W.Frag):V->V->Hp->VK->Prop:=λx y H Q=>(∃i j,x=.int i/\y=.int j/\Q (.int (i+j)) H) \/
 ∃a b xs ys,x=.ref a/\y=.ref b/\jo K H a xs/\jo K H b ys/\xs.length+ys.length<=sizeLine/\(xs=[]->Q (.ref b) H)/\(ys=[]->Q (.ref a) H)/\(∀p,H p=none->Q (.ref p) (upd H p (.tup (xs++ys))))
theorem Ub:J' X .Add (ZT X.K):=by
 rintro pins s Z H x y u v Q I rx ry h;rcases h with h|⟨a,b,xs,ys,rfl,rfl,ha,hb,hz,q0,q1,q2⟩
 ·exact bG1 pins s Z H x y u v Q I rx ry h
 ·cases rx;cases ry;obtain⟨bo,r1,p1,_⟩:=I.tuple ha;obtain⟨og,r2,p2,_⟩:=I.tuple hb;refine HT.VO p1 p2 (λz=>⟨.ref b,H,I,rfl,q0 (r1.yd.mp z)⟩) (λz=>⟨.ref a,H,I,rfl,q1 (r2.yd.mp z)⟩) ?_ (by rw[<- r1.length,<- r2.length];exact hz);refine⟨.ref s.heap.objs.size,_,I.laid (t':=s.toks) (o:=.tup (xs++ys)) (λb ob q=>au _ q) (az _) ?_,rfl,q2 _ (I.bZ.fresh (az _))⟩;exact⟨by rw[bj];exact hz,_,r1.append r2,P4.new _ _⟩
end
end L2
namespace ST
open PySem PyProof.Rows
def Spot(k:Int):Prop:=0<=k/\k<8
structure Own(mask:Nat)(owner:Array (Option Nat))(pre:List Int):Prop where
 sz:owner.size=mask+1
 fwd:∀(i:Nat) (k:Int),pre[i]?=some k->owner[k.toNat]?=some (some i)
 bwd:∀(j i:Nat),owner[j]?=some (some i)->pre[i]?=some (j:Int)
section
variable{prog:Program}{w:World}{a:Addr}
def b00(prog:Program)(w:World)(h:Heap)(a:Addr)(ks:List Int):Prop :=
 ∃o es ep t,h.get? a=some o/\o.ExactSet/\o.data=.set es ep t/\ElemsOf (intKind prog w) es.toList/\(es.toList.map λe=>toI e.2).Perm ks/\ks.Nodup/\es.size<scanBound/\t.fits es.size=true/\Well (Led w) t/\(ks=[]->7<=t.mask)
theorem A4.toV{h:Heap}{ks:List Int}(x:A4 prog w h a ks)(hn:ks≠[]):b00 prog w h a ks:=by
 obtain⟨o,es,ep,t,h1,h2,h3,h4,h5,h6,h7,h8,h9⟩:=x;exact⟨o,es,ep,t,h1,h2,h3,h4,h5,h6,h7,h8,h9,λz=>absurd z hn⟩
theorem A4.same{h:Heap}{ks us:List Int}(x:A4 prog w h a ks)(hp:ks.Perm us):A4 prog w h a us:=by
 obtain⟨o,es,ep,t,h1,h2,h3,h4,h5,h6,h7⟩:=x;exact⟨o,es,ep,t,h1,h2,h3,h4,h5.trans hp,hp.nodup_iff.mp h6,h7⟩
theorem above:∀n,n<300->7<SetTable.sizeAbove n/\n<SetTable.sizeAbove n/\SetTable.sizeAbove n<=sizeLine:=by decide +kernel
end
end ST
namespace L2
open PySem PySem.Spec PyProof.Rows
variable{X:Cx}
end L2
namespace ST
open PySem PyProof.Rows
end ST
namespace L2
open PySem PySem.Spec PyProof.Rows
variable{X:Cx}
theorem a77(hc:X.calm=true):q9 X (.builtin "any") (λxs H Q=>∃(a:Addr) (bs:List Bool),xs=[.ref a]/\fO X.K H a (bs.map V.bl)/\Q (.bl (bs.any id)) H):=by
 intro pins s Z H xs us Q I r h;obtain⟨a,bs,rfl,ha,q⟩:=h;obtain⟨u,rfl,ru⟩:=vals1 r;cases ru;obtain⟨bo,rv,p,hz⟩:=I.list ha;refine call_any_walk ?_;refine fS p.isList ?_;have ff:a≠s.heap.objs.size:=by
  obtain⟨o,e,_⟩:=id p.isList;exact aU (aF e)
 have hl:=rv.length;rw[ai] at hl;refine⟨s.heap.objs.size,_,_,_,_,_,λi=>bs.getD i false,rfl,Bf (A:=X.A.in1) (I.ok.hd hc) _ a ff bo.toArray,⟨⟨_,aI _ rfl,rfl,rfl⟩,?_⟩,?_,λh' tk k=>?_⟩
 ·obtain⟨o,e,q1⟩:=id p.isList;exact⟨o,au _ e,q1⟩
 ·intro i v s' Q' E' hP hQ;have hv:bo[i]?=some v:=by simpa using hP
  have hi:i<bs.length:=by rw[hl];exact(ak.mp hv).1
  obtain⟨u',qH,vF⟩:=rv.get (i:=i) (x:=V.bl bs[i]) (by rw[aj,ao hi];rfl);rw[hv] at qH;cases qH;cases (show v=Value.bool bs[i] from vF);refine cw ?_;have:bs.getD i false=bs[i]:=by simp[List.getD,hi]
  dsimp only at hQ;rw[this] at hQ;exact hQ
 ·have e1:(List.range bo.toArray.size).any (λi=>bs.getD i false)=bs.any id:=by
   rw[aJ,<- hl];rw[aS];simp only[List.any_eq_true,List.mem_range,id];constructor
   ·rintro⟨i,hi,hh⟩;exact⟨bs[i],cg hi,by simpa[List.getD,hi] using hh⟩
   ·rintro⟨x,hx,hh⟩;obtain⟨i,hi,rfl⟩:=bI.mp hx;exact⟨i,hi,by simpa[List.getD,hi] using hh⟩
  rw[e1];exact ⟨.bl (bs.any id),H,I.kept (t':=tk) λb o e=>k b o (by
   intro hb;have:b=s.heap.objs.size:=by simpa using hb
   exact absurd (aF e) (by rw [this];exact bu _)) (au _ e),rfl,q⟩
theorem FK{bo:List Value}{ns:List Int}(hi:IntsAre bo ns):∃xs,bo.toArray=intItems xs/\ns=xs.toList.map (·.1):=by
 obtain⟨xs,e⟩:=hi.allInts.items;exact⟨xs,e,by rw[<- hi.numsOf,<- nums_intItems,<- e]⟩
theorem a71(hc:X.calm=true):q9 X (.builtin "sum") (λxs H Q=>∃a,∃ns:List Int,xs=[.ref a]/\fO X.K H a (ns.map V.int)/\Q (.int ns.sum) H):=by
 intro pins s Z H xs us Q I r h;obtain⟨a,ns,rfl,ha,q⟩:=h;obtain⟨u,rfl,ru⟩:=vals1 r;cases ru;obtain⟨bo,rv,p,hz⟩:=I.list ha;obtain⟨xs,e,en⟩:=FK (O7 rv);refine sum_intListG (xs:=xs) (I.ok.hd hc) (by rw[<- e];exact p.isList) λh' tk t' k=>⟨.int ns.sum,H,I.kept k,⟨t',?_⟩,q⟩
 rw[preSum_eq,iY (by simp),en]
theorem a74(hc:X.calm=true):q9 X (.builtin "max") (λxs H Q=>∃a,∃(ns:List Int) (M:Int),xs=[.ref a]/\fO X.K H a (ns.map V.int)/\M∈ns/\(∀x∈ns,x<=M)/\Q (.int M) H):=by
 intro pins s Z H xs us Q I r h;obtain⟨a,ns,M,rfl,ha,hm,hM,q⟩:=h;obtain⟨u,rfl,ru⟩:=vals1 r;cases ru;obtain⟨bo,rv,p,hz⟩:=I.list ha;obtain⟨xs,e,en⟩:=FK (O7 rv);have hsz:0<xs.size:=by
  have:=fu hm;rw[en,ai,bD] at this;exact this
 refine max_intList (xs:=xs) (I.ok.hd hc) (by rw[<- e];exact p.isList) hsz λv h' tk hv k=>?_;obtain⟨t,rfl⟩:=intItems_at hv;obtain⟨h1,h2⟩:=argBest_gt (numAt xs) (xs.size-1);generalize argBest (λi j=>decide (numAt xs i>numAt xs j)) (xs.size-1)=j0 at *;have m1:numAt xs j0∈ns:=by rw[en,numAt_eq];exact getD_mem (by rw[ai,bD];omega)
 have m2:M<=numAt xs j0:=by
  rw[en] at hm;obtain⟨j,hj,rfl⟩:=mem_getD hm;rw[ai,bD] at hj;rw[<- numAt_eq];exact h2 j ()
 have e2:numAt xs j0=M:=Int.le_antisymm (hM _ m1) m2;exact⟨.int M,H,I.kept k,⟨t,by rw[e2]⟩,q⟩
theorem a72(hc:X.calm=true):q9 X (.builtin "min") (λxs H Q=>∃a,∃(ns:List Int) (M:Int),xs=[.ref a]/\fO X.K H a (ns.map V.int)/\M∈ns/\(∀x∈ns,M<=x)/\Q (.int M) H):=by
 intro pins s Z H xs us Q I r h;obtain⟨a,ns,M,rfl,ha,hm,hM,q⟩:=h;obtain⟨u,rfl,ru⟩:=vals1 r;cases ru;obtain⟨bo,rv,p,hz⟩:=I.list ha;obtain⟨xs,e,en⟩:=FK (O7 rv);have hsz:0<xs.size:=by
  have:=fu hm;rw[en,ai,bD] at this;exact this
 refine min_intList (xs:=xs) (I.ok.hd hc) (by rw[<- e];exact p.isList) hsz λv h' tk hv k=>?_;obtain⟨t,rfl⟩:=intItems_at hv;obtain⟨h1,h2⟩:=argBest_lt (numAt xs) (xs.size-1);generalize argBest (λi j=>decide (numAt xs i<numAt xs j)) (xs.size-1)=j0 at *;have m1:numAt xs j0∈ns:=by rw[en,numAt_eq];exact getD_mem (by rw[ai,bD];omega)
 have m2:numAt xs j0<=M:=by
  rw[en] at hm;obtain⟨j,hj,rfl⟩:=mem_getD hm;rw[ai,bD] at hj;rw[<- numAt_eq];exact h2 j ()
 have e2:numAt xs j0=M:=Int.le_antisymm m2 (hM _ m1);exact⟨.int M,H,I.kept k,⟨t,by rw[e2]⟩,q⟩
theorem a78(hc:X.calm=true):q9 X (.builtin "all") (λxs H Q=>∃(a:Addr) (ns:List Int),xs=[.ref a]/\fO X.K H a (ns.map V.int)/\Q (.bl (ns.all λn=>n != 0)) H):=by
 intro pins s Z H xs us Q I r h;obtain⟨a,ns,rfl,ha,q⟩:=h;obtain⟨u,rfl,ru⟩:=vals1 r;cases ru;obtain⟨bo,rv,p,hz⟩:=I.list ha;refine call_all_walk ?_;refine fS p.isList ?_;have ff:a≠s.heap.objs.size:=by
  obtain⟨o,e,_⟩:=id p.isList;exact aU (aF e)
 have hl:=rv.length;rw[ai] at hl;refine⟨s.heap.objs.size,_,_,_,_,_,λi=>ns.getD i 1 != 0,rfl,Bf (A:=X.A.in1) (I.ok.hd hc) _ a ff bo.toArray,⟨⟨_,aI _ rfl,rfl,rfl⟩,?_⟩,?_,λh' tk k=>?_⟩
 ·obtain⟨o,e,q1⟩:=id p.isList;exact⟨o,au _ e,q1⟩
 ·intro i v s' Q' E' hP hQ;have hv:bo[i]?=some v:=by simpa using hP
  have hi:i<ns.length:=by rw[hl];exact(ak.mp hv).1
  obtain⟨u',qH,vF⟩:=rv.get (i:=i) (x:=V.int ns[i]) (by rw[aj,ao hi];rfl);rw[hv] at qH;cases qH;obtain⟨t,rfl⟩:=vF;refine truthy_int ?_;have:ns.getD i 1=ns[i]:=by simp[List.getD,hi]
  dsimp only at hQ;rw[this] at hQ;exact hQ
 ·have e1:(List.range bo.toArray.size).all (λi=>ns.getD i 1 != 0)=ns.all λn=>n != 0:=by
   rw[aJ,<- hl];rw[aS];simp only[List.all_eq_true,List.mem_range];constructor
   ·intro hh x hx;obtain⟨i,hi,rfl⟩:=bI.mp hx;have:=hh i hi;simpa[List.getD,hi] using this
   ·intro hh i hi;have:=hh ns[i] (cg hi);simpa[List.getD,hi] using this
  rw[e1];exact ⟨.bl _,H,I.kept (t':=tk) λb o e=>k b o (by
   intro hb;have:b=s.heap.objs.size:=by simpa using hb
   exact absurd (aF e) (by rw [this];exact bu _)) (au _ e),rfl,q⟩
theorem aC1:q9 X (.builtin "len") (λxs H Q=>∃a,∃ks:List Int,xs=[.ref a]/\H a=some (tI X a ks)/\Q (.int ks.length) H):=by
 intro pins s Z H xs us Q I r h;obtain⟨a,ks,rfl,ha,q⟩:=h;obtain⟨u,rfl,ru⟩:=vals1 r;cases ru;have hS:ST.A4 X.prog X.w s.heap a ks:=(I.bZ a _ ha).1;obtain⟨o,es,ep,t,e,ex,ed,_,hp,nd,hz,hf,_⟩:=hS;have hl:es.size=ks.length:=by have:=hp.length_eq;simpa using this
 refine call_len_set e ex ed hf (by have:scanBound<2 ^ 62:=∅;omega) ⟨.int ks.length,H,I.tok _,⟨_,by rw[hl]⟩,q⟩
theorem UE{i:Int}{j:Nat}{p pos:Pos}(oy:PySem.W.kdsCode X.K X.env.code=true):PE X (.Set [.Constant (.int i) j p] 0 pos) (λZ H Q=>∀q,H q=none->Q (.ref q) (upd H q (.set (λk=>decide (k=i)) 1))):=by
 intro pins s Z H Q I h;rw[arm_eval_Set];refine ae (fq ?_);refine ae (PySem.W.kds_main I.hJ oy λb=>?_);rw[PySem.W.kds_star _ (by rfl),bR];refine PySem.W.kds_core (ts:=(evalEach [Expr.Constant (.int i) j p] X.env).map λt=>do let v <- t;standAt pos;pure v) (by rfl) (by rfl) (by show 1<=30;decide) (by rw[bR];rfl) λled=>?_;refine PySem.W.kds_all pos _ _ _ ?_;show wpAny _ _ (eval (.Constant (.int i) j p) X.env) _ _ _;refine wpAny_Constant_int ?_;refine PySem.W.kds_fill_cons ?_;have QR:(s.heap.push { cls:=.type "set",dict:=none,data:=.set #[] 0 (.fresh 0 0 led) }).SetOf (intKind X.prog X.w) s.heap.objs.size (λ_=>false) 0:=(setObjOf_fresh led).setOf (aI _ rfl) ∅;unfold setAdd;refine cI (ae ((intKind X.prog X.w).pyHash (k:=i) (gs _ _ _ _) ?_));refine wpAny_setAddHashed_of (knd:=intKind X.prog X.w) (gs _ _ _ _) rfl QR ∅ λh' Cc oB=>?_;refine PySem.W.kds_fill_nil (by rfl) ?_;have kp:∀b u,s.heap.get? b=some u->h'.get? b=some u:=λb u e=>(Cc.2 b (aU (aF e))).trans (au _ e);exact⟨.ref s.heap.objs.size,_,I.laid (a:=s.heap.objs.size) (o:=.set (λk=>decide (k=i)) 1) kp (az _) (by show Heap.SetOf _ _ _ _ _;simpa using oB),rfl,h _ (I.bZ.fresh (az _))⟩
theorem a33:fY X (compareOp .In) (λx y H Q=>∃i a S n,x=.int i/\y=.ref a/\H a=some (.set S n)/\Q (.bl (S i)) H):=by
 intro pins s Z H x y v u Q I rx ry h;obtain⟨i,a,S,n,rfl,rfl,ha,q⟩:=h;obtain⟨t,rfl⟩:=rx;cases ry;exact wpAny_inSet_of (knd:=intKind X.prog X.w) (k:=i) (gs _ _ _ _) rfl (I.bZ a _ ha) ⟨.bl (S i),H,I.tok _,rfl,q⟩
theorem aH0:fY X (compareOp .NotIn) (λx y H Q=>∃i a S n,x=.int i/\y=.ref a/\H a=some (.set S n)/\Q (.bl (!S i)) H):=by
 intro pins s Z H x y v u Q I rx ry h;obtain⟨i,a,S,n,rfl,rfl,ha,q⟩:=h;obtain⟨t,rfl⟩:=rx;cases ry;exact wpAny_notInSet_of (knd:=intKind X.prog X.w) (k:=i) (gs _ _ _ _) rfl (I.bZ a _ ha) ⟨.bl (!S i),H,I.tok _,rfl,q⟩
theorem aU4:mP X "set.add" (λx xs H Q=>∃a i S n,x=.ref a/\xs=[.int i]/\H a=some (.set S n)/\n+1<4096/\Q .br (upd H a (.set (λk=>S k||decide (k=i)) (if S i then n else n+1)))):=by
 intro pins s Z H x vs v us Q I rx rv h;obtain⟨a,i,S,n,rfl,rfl,ha,hn,q⟩:=h;cases rx;obtain⟨u,rfl,t,rfl⟩:=rv.one;refine call_set_add (knd:=intKind X.prog X.w) (k:=i) (gs _ _ _ _) rfl (I.bZ a _ ha) (show n+1<scanBound from hn) λh' Cc oB=>?_;obtain⟨o,es,ep,tb,ho,_⟩:=id oB;exact⟨.br,_,I.write (x:=a) (e:=a) (o:=.set (λk=>S k||decide (k=i)) (if S i then n else n+1)) (by rw[ha];trivial) (.inl rfl) (λb u hb e=>(Cc.2 b hb).trans e) ⟨o,ho⟩ oB,rfl,q⟩
def GY(K:PySem.W.Frag)(a:Addr)(n:Nat):It :=
 ⟨λi H=>∃xs x,fO K H a xs/\xs.length=n/\i<n/\xs[n-1-i]?=some x,λi H x H'=>H'=H/\∀xs,fO K H a xs->xs[n-1-i]?=some x,λi H=>n<=i⟩
theorem a93{P:Program}{w:World}{K:PySem.W.Frag}{tg:Expr}(a it:Addr)(n:Nat):Turn P w K tg (GY K a n) [it] it (λi h=>i<=n/\h.IsRevIter it a ((n:Int)-1-(i:Nat))) where
 mem:=by simp
 obj:=λi h st b hb=>by
  have e:b=it:=by simpa using hb
  subst e;obtain⟨o,e,c,d⟩:=st.2;exact⟨o,e,λv z=>by rw[d] at z;cases z⟩
 keep:=λi h h' st k=>⟨st.1,st.2.at λo e=>k it (by simp) o e⟩
 item:=by
  intro X hP hw hK hc i pins s Z H E I hf st hg;subst hP hw hK;obtain⟨xs,x,hq,hn,hi,hx⟩:=hg;obtain⟨bo,rv,p,hz⟩:=I.list hq;obtain⟨u,hu,ru⟩:=rv.get hx;obtain⟨f0,f1,f2,f3,f4,f5⟩:=hf it (by simp);have lT:=st.2;rw[show(n:Int)-1-(i:Nat)=((n-1-i:Nat):Int) by omega] at lT;refine wpAny_pyNext_rev_item lT p.isList (x:=u) (by simpa using hu) λh' mX sb=>?_;have I1:Inv X pins Z H { s with heap:=h' }:=I.turned (t':=s.toks) (λb o hb e=>(sb.2 b hb).trans e) f0 f1 f3 f4 f5;obtain⟨o,e,c,d⟩:=id mX;refine⟨u,rfl,AO (s:={ s with heap:=h' }) e c d ∅ ⟨x,H,I1,ru,⟨rfl,λys hy=>by rw[I.EX hy hq];exact hx⟩,⟨by omega,?_⟩,λb hb=>(hf b hb).1⟩⟩;rw[show(n:Int)-1-((i+1:Nat):Int)=((n-1-i:Nat):Int)-1 by omega];exact mX
 done:=by
  intro X hP hw hK hc i pins s Z H E I hf st hg;subst hP hw hK;obtain⟨f0,f1,f2,f3,f4,f5⟩:=hf it (by simp);have lT:=st.2;have:n<=i:=hg;rw[show(n:Int)-1-(i:Nat)=-1 by have:=st.1;omega] at lT;exact wpAny_pyNext_rev_end (I.ok.hd hc) lT λh' eb=>⟨rfl,I.turned (t':=s.toks) (λb o hb e=>eb b o hb e) f0 f1 f3 f4 f5⟩
 self:=λ_ _ _ _ _ st h=>wpAny_pyIter_revIter st.2 h
theorem boot_reversed:bootBuiltins "reversed"=some (.type "reversed"):=by decide +kernel
theorem bA8{tg l:Expr}{ta:TA}{p pos:Pos}(hg:Gl X "reversed")(hm:X.mg "reversed"=none)(ha:PA X [l] ta)(hs:starEach [l] X.env=[(false,eval l X.env)]) :
  PI X tg (.Call (.Name "reversed" p) [l] [] pos) (λZ H R=>ta Z H λvs H1=>∃a xs,vs=[.ref a]/\fO X.K H1 a xs/\R (GY X.K a xs.length) H1):=by
 intro pins s Z H R I h;refine Call_ (O5 I hg hm boot_reversed (bQ (cO (ha pos pins s Z H _ I h) λus s1 bq=>?_) hs rfl));obtain⟨vs,H1,I1,r1,q1⟩:=bq;obtain⟨a,xs,e,hq,q⟩:=q1;subst e;cases r1 with
 |cons r rr =>
  cases rr;cases r;obtain⟨bo,rv,p,hz⟩:=I1.list hq;refine call_reversed_list p.isList ?_;have hl:=rv.length;have hit:(s1.heap.push (revObj a ((bo.toArray.size:Int)-1))).IsRevIter s1.heap.objs.size a ((xs.length:Int)-1-((0:Nat):Int)):=⟨_,aI _ rfl,rfl,by simp[revObj,hl]⟩
  refine wpAny_pyIter_revIter hit ?_;refine⟨s1.heap.objs.size,[s1.heap.objs.size],_,_,H1,rfl,I1.kept (t':=s1.toks) λb o e=>au _ e,a93 a _ xs.length,⟨cP _,hit⟩,λb hb=>?_,q⟩;have e:b=s1.heap.objs.size:=by simpa using hb
  subst e;exact I1.rf (az _) (I1.bZ.fresh (az _))
end L2
namespace ST
open PySem PyProof.Rows
end ST
namespace L2
open PySem PyProof.Rows
def Z'(ns:List Int):List Int:=ns.mergeSort (λa b=>decide (a<=b))
end L2
namespace ST
open PySem PyProof.Rows
end ST
namespace L2
open PySem PyProof.Rows
end L2
namespace L2
open PySem PySem.Spec PyProof.Rows
variable{prog:Program}{w:World}{A:Around}{s:Shared}{X:Cx}
theorem yb{P:Program}{k:Key}{u:Value}(h:(x3 P w).is k u=true):RelV (kV k) u:=by
 rw[aU5] at h;rcases A5 h with⟨j,t,e1,e2⟩|⟨x,t,e1,e2⟩
 ·subst e1 e2;exact⟨t,rfl⟩
 ·subst e1 e2;exact⟨t,rfl⟩
theorem KV.at{kvs:List (Key×V)}{vs:List (Key×Value)}(r:KV kvs vs):∀{i:Nat} {k:Key} {x:V},kvs[i]?=some (k,x)->∃u,vs[i]?=some (k,u)/\RelV x u:=by
 unfold KV at r
 induction r with
 |nil=>intro i k x h;simp at h
 |cons h r ih =>
  intro i k x e;cases i with
  |zero =>
   simp at e;subst e;obtain⟨h1,h2⟩:=h;exact ⟨_,by
    show some _=some (k,_);have xb:k=_:=h1;rw [xb],h2⟩
  |succ i=>simpa using ih (by simpa using e)
end L2
namespace M
open PySem L2
set_option genInjectivity true in
inductive D where
 |br|bl (b:Bool)|int (i:Int)|str (x:Str)|ty (n:String)|ref (i:Nat)|tup (l:List D)
set_option genInjectivity true in
inductive O where
 |lst (l:List D)|qb (l:List D)
 |eE (kvs:List (Key×D))
 |ins (c:Str) (fs:List (Str×D))
 |set (S:Int->Bool) (n:Nat)
def O.mut:O->Bool
 |.qb _=>false
 |_=>true
def pG:D->Option Key
 |.int i=>some (.inl i)
 |.str x=>some (.inr x)
 |_=>none
def x4(kvs:List (Key×D))(k:Key):Option D:=(kvs.find? λkv=>decide (kv.1=k)).map (·.2)
def putD(kvs:List (Key×D))(k:Key)(v:D):List (Key×D) :=
 if(kvs.any λkv=>decide (kv.1=k))=true then kvs.map (λkv=>if kv.1=k then(kv.1,v) else kv) else kvs++[(k,v)]
def p8(f:Str)(v:D):List (Str×D)->List (Str×D)
 |[]=>[(f,v)]
 |(g,x)::r=>if g=f then(g,v)::r else(g,x)::p8 f v r
def R8:List D->Str->Option D
 |.tup [.str y,v]::r,x=>if x=y then some v else R8 r x
 |_::_,_=>none
 |[],_=>none
def Y1:List D->Option Str
 |[]=>some Str.empty
 |.str x::r=>(Y1 r).map λy=>x++y
 |_=>none
structure Xn where
 cls:Str
noncomputable abbrev G:=List O
noncomputable abbrev S:=List (Option D)
noncomputable abbrev KD:=D->G->Prop
noncomputable abbrev KX:=Xn->G->Prop
noncomputable abbrev iV:KX:=λ_ _=>False
def Gz:Option O->Option (List D)
 |some (.lst l)=>some l
 |some (.qb l)=>some l
 |_=>none
noncomputable abbrev d8(g:G)(a:Nat):Option (List D):=Gz g[a]?
def rd(g:G):Nat->D->Option PyData
 |_,.br=>some .none
 |_,.bl b=>some (.bool b)
 |_,.int i=>some (.int i)
 |_,.str x=>some (.str x)
 |_,.ty _=>none
 |0,.ref _=>none
 |0,.tup _=>none
 |n+1,.ref a=>match d8 g a with
  |some l=>(l.mapM (rd g n)).map .list
  |none=>none
 |n+1,.tup l=>(l.mapM (rd g n)).map .tuple
def OT(g:G)(l:List D):Option (List PyData):=l.mapM (rd g 6)
def J8(g:G):D->Option (List D)
 |.tup l=>some l
 |.ref a=>d8 g a
 |_=>none
def R9:D->Bool
 |.br=>true
 |_=>false
def cut{α:Type}(xs:List α)(lo hi:Option Int):List α:=(xs.drop (HT.dQ xs.length 0 lo)).take (HT.dQ xs.length xs.length hi-HT.dQ xs.length 0 lo)
def tG(g:G)(x:D)(c:String):Option Bool:=match x with
 |.br=>some (c=="NoneType")
 |.bl _=>some (c=="bool"||c=="int")
 |.int _=>some (c=="int")
 |.str _=>some (c=="str")
 |.tup _=>some (c=="tuple")
 |.ref a=>match g[a]? with
  |some (.lst _)=>some (c=="list")
  |_=>none
 |.ty _=>none
def k8(lo:Int)(n:Nat):List D:=(List.range n).map λ(k:Nat)=>.int (lo+k)
def Y8:List D->Option Bool
 |[]=>some true
 |.bl b::r=>(Y8 r).map λc=>b&&c
 |_=>none
inductive Pr where
 |bin (op:Operator)|un (op:UnaryOp)|cmp (op:CmpOp)
 |ix|jX (lo hi:Bool)|rev|tup|lst|qi
 |len|list|tuple|isin|all|max|min|int|str|jZ|lh|sset|ON|xu
 |IX|xf|oH|fv|ni|fld (f:Str)
 |append|pop|get|index|join|iadd|clear|rW|extend|any|vA|sum|pH|oh|kU|BP|DQ|xr|kT (i:Int)
noncomputable abbrev DR:=List D->G->D->G->Prop
def arR:Operator->Int->Int->Int->Prop
 |.Add,i,j,r=>r=i+j
 |.Sub,i,j,r=>r=i-j
 |.Mult,i,j,r=>tB i j/\r=i*j
 |.FloorDiv,i,j,r=>DZ i j/\r=i / j
 |.Mod,i,j,r=>0<j/\r=i % j
 |.Pow,i,j,r=>qe i j/\r=i ^ j.toNat
 |.LShift,i,j,r=>qe i j/\r=i*2 ^ j.toNat
 |.BitAnd,i,j,r=>r=Builtin.bitAnd i j
 |.BitOr,i,j,r=>r=Builtin.bitOr i j
 |_,_,_,_=>False
def Xc(op:Operator):DR:=λxs g d g' =>
 (∃i j r,xs=[.int i,.int j]/\arR op i j r/\d=.int r/\g'=g) \/
 (op=.Add/\((∃ l m,xs=[.tup l,.tup m]/\l.length + m.length <= 100000/\d=.tup (l ++ m)/\g'=g) \/
  (∃a b l m,xs=[.ref a,.ref b]/\g[a]?=some (.lst l)/\g[b]?=some (.lst m)/\l.length+m.length<=100000/\d=.ref g.length/\g'=g++[.lst (l++m)]) \/
  (∃ x y,xs=[.str x,.str y]/\x.length + y.length <= 100000/\d=.str (x ++ y)/\g'=g)))
def OD(op:UnaryOp):DR:=λxs g d g'=>op=.USub/\∃i,xs=[.int i]/\d=.int (-i)/\g'=g
def xn(g:G)(x y:D)(b:Bool):Prop :=
 (∃i j,x=.int i/\y=.int j/\b=decide (i=j))\/(∃i j,x=.bl i/\y=.bl j/\b=(i==j))\/(∃i j,x=.str i/\y=.str j/\b=decide (i=j)) \/
 ∃p q,rd g 6 x=some p/\rd g 6 y=some q/\p.canLay0=true/\q.canLay0=true/\b=PyData.eqv p q
def inR(g:G)(x y:D)(b:Bool):Prop :=
 (∃a kvs c,y=.ref a/\g[a]?=some (.eE kvs)/\pG x=some c/\b=(x4 kvs c).isSome) \/
 ∃l ps p,J8 g y=some l/\OT g l=some ps/\rd g 6 x=some p/\PyData.canLayAll0 ps=true/\p.canLay0=true/\b=(ps.any λq=>PyData.eqv q p)
def Jt(g:G)(x y:D)(b:Bool):Prop:=∃a S n i,y=.ref a/\g[a]?=some (.set S n)/\x=.int i/\b=S i
def Kc(g:G)(x y:D)(b:Bool):CmpOp->Prop
 |.Eq=>xn g x y b
 |.NotEq=>xn g x y (!b)
 |.In=>inR g x y b\/Jt g x y b
 |.NotIn=>inR g x y (!b)\/Jt g x y (!b)
 |.Lt=>∃i j,x=.int i/\y=.int j/\b=decide (i<j)
 |.LtE=>∃i j,x=.int i/\y=.int j/\b=decide (i<=j)
 |.Gt=>∃i j,x=.int i/\y=.int j/\b=decide (j<i)
 |.GtE=>∃i j,x=.int i/\y=.int j/\b=decide (j<=i)
 |.Is=>y=.br/\b=R9 x
 |.IsNot=>y=.br/\b=!R9 x
def Xh(op:CmpOp):DR:=λxs g d g'=>∃x y b,xs=[x,y]/\Kc g x y b op/\d=.bl b/\g'=g
def Jv(g:G)(x:D)(b:Bool):Prop :=
 (x=.br/\b=false)\/x=.bl b\/(∃i,x=.int i/\b=(i != 0))\/(∃l,x=.tup l/\b=!l.isEmpty)\/∃a l,x=.ref a/\d8 g a=some l/\b=!l.isEmpty
def Po:DR:=λxs g d g'=>g'=g/\((∃x l i,xs=[x,.int i]/\J8 g x=some l/\gh l i=some d)\/(∃a kvs y c,xs=[.ref a,y]/\g[a]?=some (.eE kvs)/\pG y=some c/\x4 kvs c=some d) \/
 ∃ x i c,xs=[.str x,.int i]/\x.length <= 100000/\gh x.cps.toList i=some c/\d=.str ⟨#[c]⟩)
def vD(x:D)(lo hi:Option Int)(g:G)(d:D)(g':G):Prop:=(∃l,x=.tup l/\d=.tup (cut l lo hi)/\g'=g)\/∃a l,x=.ref a/\d8 g a=some l/\d=.ref g.length/\g'=g++[.lst (cut l lo hi)]
def X':Bool->Bool->DR
 |false,false,xs,g,d,g'=>∃x,xs=[x]/\vD x none none g d g'
 |true,false,xs,g,d,g'=>∃x i,xs=[x,.int i]/\vD x (some i) none g d g'
 |false,true,xs,g,d,g'=>∃x j,xs=[x,.int j]/\vD x none (some j) g d g'
 |true,true,xs,g,d,g'=>∃x i j,xs=[x,.int i,.int j]/\vD x (some i) (some j) g d g'
def XW:DR:=λxs g d g'=>(∃l,xs=[.tup l]/\d=.tup l.reverse/\g'=g)\/∃a l,xs=[.ref a]/\d8 g a=some l/\d=.ref g.length/\g'=g++[.lst l.reverse]
def Yt:DR:=λxs g d g'=>xs.length<=1000/\d=.tup xs/\g'=g
def Xy:DR:=λxs g d g'=>xs.length<=1000/\d=.ref g.length/\g'=g++[.lst xs]
def Kd:List D->List (Key×D)->Option (List (Key×D))
 |[],kvs=>some kvs
 |k::v::r,kvs=>(pG k).bind λc=>Kd r (putD kvs c v)
 |_,_=>none
def YU:DR:=λxs g d g'=>xs=[]/\d=.ref g.length/\g'=g++[.eE []]
def Xw:DR:=λxs g d g'=>g'=g/\((∃x l,xs=[x]/\J8 g x=some l/\d=.int l.length)\/(∃a kvs,xs=[.ref a]/\g[a]?=some (.eE kvs)/\d=.int kvs.length)\/∃x,xs=[.str x]/\x.length<=100000/\d=.int x.length)
def Zp:DR:=λxs g d g'=>(∃x l,xs=[x]/\J8 g x=some l/\d=.ref g.length/\g'=g++[.lst l])\/False
def Tn:DR:=λxs g d g'=>∃x l,xs=[x]/\J8 g x=some l/\d=.tup l/\g'=g
def Ze:DR:=λxs g d g'=>∃x c b,xs=[x,.ty c]/\c∈["int","bool","str","tuple","list"]/\tG g x c=some b/\d=.bl b/\g'=g
def allR:DR:=λxs g d g'=>∃a l b,xs=[.ref a]/\d8 g a=some l/\(Y8 l=some b\/∃ns:List Int,l=ns.map .int/\b=ns.all λn=>n != 0)/\d=.bl b/\g'=g
def Y6:List D->Option Bool
 |[]=>some false
 |.bl b::r=>(Y6 r).map λc=>b||c
 |_=>none
def anyR:DR:=λxs g d g'=>∃a l b,xs=[.ref a]/\d8 g a=some l/\Y6 l=some b/\d=.bl b/\g'=g
def SM:DR:=λxs g d g'=>False\/∃x,∃ns:List Int,xs=[x]/\J8 g x=some (ns.map .int)/\ns.length<60/\d=.ref g.length/\g'=g++[.lst ((Z' ns).map .int)]
def Xz:DR:=λxs g d g'=>g'=g/\((∃i j,xs=[.int i,.int j]/\d=.int (if j>i then j else i))\/∃a,∃(ns:List Int) (M:Int),xs=[.ref a]/\d8 g a=some (ns.map .int)/\M∈ns/\(∀x∈ns,x<=M)/\d=.int M)
def XA:DR:=λxs g d g'=>g'=g/\((∃i j,xs=[.int i,.int j]/\d=.int (if j<i then j else i))\/(∃a,∃(ns:List Int) (M:Int),xs=[.ref a]/\d8 g a=some (ns.map .int)/\M∈ns/\(∀x∈ns,M<=x)/\d=.int M))
def ZW:DR:=λxs g d g'=>∃a i S n,xs=[.ref a,.int i]/\g[a]?=some (.set S n)/\n+1<4096/\d=.br/\g'=g.set a (.set (λk=>S k||decide (k=i)) (if S i then n else n+1))
def Zo:DR:=λxs g d g'=>∃a,∃ns:List Int,xs=[.ref a]/\d8 g a=some (ns.map .int)/\ns.length<600/\d=.ref g.length/\g'=g++[.set (λk=>decide (k∈ns)) (ST.m5 [] ns).length]
def Sv(i:Int):DR:=λxs g d g'=>xs=[]/\d=.ref g.length/\g'=g++[.set (λk=>decide (k=i)) 1]
def Yb:DR:=λxs g d g'=>∃a,∃ns:List Int,xs=[.ref a]/\d8 g a=some (ns.map .int)/\d=.int ns.sum/\g'=g
def Zq:DR:=λxs g d g'=>∃a,∃ns:List Int,xs=[.ref a]/\d8 g a=some (ns.map .int)/\ns.length<60/\d=.int (ST.m5 [] ns).length/\g'=g
def Zf:DR:=λxs g d g'=>∃i j,xs=[.int i,.int j]/\d=.int (i-j)/\g'=g
def Xt:DR:=λxs g d g'=>g'=g/\((∃i,xs=[.int i]/\d=.int i)\/∃b,xs=[.bl b]/\d=.int (if b then 1 else 0))
def Ya:DR:=λxs g d g'=>(∃i,xs=[.int i]/\i.natAbs.log2<1920/\d=.str (toString i)/\g'=g)\/∃x,xs=[.str x]/\d=.str x/\g'=g
def bE6:DR:=λxs g d g'=>∃j,xs=[.int j]/\-(2 ^ 62)<=j/\j<=100000/\d=.ref g.length/\g'=g++[.lst (k8 0 j.toNat)]
def bE5:DR:=λxs g d g'=>∃i j,xs=[.int i,.int j]/\(-(2 ^ 62)<=i/\i<2 ^ 62/\-(2 ^ 62)<=j/\j<2 ^ 62/\j-i<=100000)/\d=.ref g.length/\g'=g++[.lst (k8 i (j-i).toNat)]
def bK5:DR:=λxs g d g'=>∃a ns,xs=[.ref a]/\d8 g a=some (ns.map .int)/\ns.length<60/\d=.ref g.length/\g'=g++[.lst ((u6 ns).map .int)]
def Yc:DR:=λxs g d g'=>∃ns ms:List Int,xs=[.tup (ns.map .int),.tup (ms.map .int)]/\(∀k∈ns,ST.Spot k)/\(∀k∈ms,ST.Spot k)/\ns.length+ms.length<50/\d=.ref g.length/\g'=g++[.lst ((u6 (ns++ms)).map .int)]
def Ei(neg:Bool):DR:=λxs g d g'=>∃kvs x,xs=[.tup kvs,.str x]/\d=.bl (xor neg (R8 kvs x).isSome)/\g'=g
def YZ:DR:=λxs g d g'=>∃kvs x,xs=[.tup kvs,.str x]/\R8 kvs x=some d/\g'=g
def RH:DR:=λxs g d g'=>g'=g/\((∃i,xs=[.int i]/\i.natAbs.log2<1920/\d=.str (toString i))\/∃x,xs=[.str x]/\x.length<=2000/\d=.str x)
def YY:DR:=λxs g d g'=>∃x,Y1 xs=some x/\d=.str x/\g'=g
def Xm(f:Str):DR:=λxs g d g'=>∃a c fs,xs=[.ref a]/\g[a]?=some (.ins c fs)/\fs.lookup f=some d/\g'=g
def appendR:DR:=λxs g d g'=>∃a y l,xs=[.ref a,y]/\g[a]?=some (.lst l)/\l.length<100000/\d=.br/\g'=g.set a (.lst (l++[y]))
def XI:DR:=λxs g d g'=>∃a i l k,xs=[.ref a,.int i]/\g[a]?=some (.lst l)/\-(2 ^ 63)<=i/\i<2 ^ 63/\seqIndex? i l.length=some k/\l[k]?=some d/\g'=g.set a (.lst (l.eraseIdx k))
def Xq:DR:=λxs g d g'=>∃a y z kvs c,xs=[.ref a,y,z]/\g[a]?=some (.eE kvs)/\pG y=some c/\d=(x4 kvs c).getD z/\g'=g
def AM:D->Bool
 |.br=>true
 |.bl _=>true
 |.int _=>true
 |.str _=>true
 |_=>false
def toV:D->V
 |.bl b=>.bl b
 |.int i=>.int i
 |.str x=>.str x
 |_=>.br
def Gm(l:List D)(y:D)(n:Nat):Prop:=l.all AM=true/\AM y=true/\(∃z,l[n]?=some z/\pz (toV z) (toV y)=true)/\∀(m:Nat) z,m<n->l[m]?=some z->pz (toV z) (toV y)=false
def bG0:DR:=λxs g d g'=>∃x y l n,xs=[x,y]/\J8 g x=some l/\Gm l y n/\l.length<=100000/\d=.int n/\g'=g
def joinR:DR:=λxs g d g'=>∃sep a ys,xs=[.str sep,.ref a]/\d8 g a=some (ys.map .str)/\Uj sep ys<=100000/\d=.str (Builtin.Str.glued sep ys)/\g'=g
def Zc:DR:=λxs g d g'=>(∃i j,xs=[.int i,.int j]/\d=.int (i+j)/\g'=g)\/∃l m,xs=[.tup l,.tup m]/\l.length+m.length<=100000/\d=.tup (l++m)/\g'=g
def bH6:DR:=λxs g d g'=>∃a l,xs=[.ref a]/\g[a]?=some (.lst l)/\d=.br/\g'=g.set a (.lst [])
def ZO:DR:=λxs g d g'=>∃a l,xs=[.ref a]/\g[a]?=some (.lst (l++[d]))/\g'=g.set a (.lst l)
def TV:DR:=λxs g d g'=>∃a b l m,xs=[.ref a,.ref b]/\g[a]?=some (.lst l)/\g[b]?=some (.lst m)/\l.length+m.length<=100000/\d=.br/\g'=g.set a (.lst (l++m))
def bH2:DR:=λxs g d g'=>(∃a kvs,xs=[.ref a]/\g[a]?=some (.eE kvs)/\d=.ref g.length/\g'=g++[.eE kvs])\/∃a,∃ks:List Int,xs=[.ref a]/\d8 g a=some (ks.map λk=>.tup [.int k,.bl true])/\ks.length<=1000/\ks.Nodup/\d=.ref g.length/\g'=g++[.eE (ks.map λk=>(.inl k,.bl true))]
def pj(p:Key×Int×Int):Key×D:=(p.1,.tup [.int p.2.1,.int p.2.2])
def Zn(n:Int)(p:Key×Int×Int):Bool:=!(decide (p.2.1=n)||decide (p.2.2=n))
def YS:DR:=λxs g d g'=>∃a n,∃fs:List (Key×Int×Int),xs=[.ref a,.int n]/\g[a]?=some (.eE (fs.map pj))/\fs.length<1000/\(fs.map (·.1)).Nodup/\d=.ref g.length/\g'=g++[.eE ((fs.filter (Zn n)).map pj)]
def delD(kvs:List (Key×D))(k:Key):List (Key×D):=kvs.filter λkv=>decide (kv.1≠k)
def YV:DR:=λxs g d g'=>∃a y kvs c,xs=[.ref a,y]/\g[a]?=some (.eE kvs)/\pG y=some c/\x4 kvs c=some d/\g'=g.set a (.eE (delD kvs c))
def PR:Pr->DR
 |.DQ=>YS
 |.xr=>YV
 |.clear=>bH6
 |.any=>anyR
 |.sum=>Yb
 |.kU=>ZW
 |.BP=>Zo
 |.kT i=>Sv i
 |.pH=>Zq
 |.oh=>Zf
 |.vA=>SM
 |.extend=>TV
 |.rW=>ZO
 |.xu=>bH2
 |.bin op=>Xc op
 |.un op=>OD op
 |.cmp op=>Xh op
 |.ix=>Po
 |.jX a b=>X' a b
 |.rev=>XW
 |.tup=>Yt
 |.lst=>Xy
 |.qi=>YU
 |.len=>Xw
 |.list=>Zp
 |.tuple=>Tn
 |.isin=>Ze
 |.all=>allR
 |.max=>Xz
 |.min=>XA
 |.int=>Xt
 |.str=>Ya
 |.jZ=>bE6
 |.lh=>bE5
 |.sset=>bK5
 |.ON=>Yc
 |.IX=>Ei false
 |.xf=>Ei true
 |.oH=>YZ
 |.fv=>RH
 |.ni=>YY
 |.fld f=>Xm f
 |.append=>appendR
 |.pop=>XI
 |.get=>Xq
 |.index=>bG0
 |.join=>joinR
 |.iadd=>Zc
def cF(p:Pr)(xs:List D)(g:G)(Q:KD):Prop:=∃d g',PR p xs g d g'/\Q d g'
def uE(g:G)(x y:D)(k:Bool->Prop):Prop:=∃b,xn g x y b/\k b
def qG(g:G)(x y:D)(k:Bool->Prop):Prop:=∃b,inR g x y b/\k b
def qk(g:G)(x:D)(k:Bool->Prop):Prop:=∃b,Jv g x b/\k b
def XZ(x y v:D)(g g':G):Prop:=(∃a i l j,x=.ref a/\y=.int i/\g[a]?=some (.lst l)/\lq l.length i=some j/\g'=g.set a (.lst (l.set j v))) \/
 ∃a kvs c,x=.ref a/\g[a]?=some (.eE kvs)/\pG y=some c/\kvs.length<100000/\g'=g.set a (.eE (putD kvs c v))
def Z2(x y v:D)(g:G)(k:G->Prop):Prop:=∃g',XZ x y v g g'/\k g'
def JS(f:Str)(cs:List Str)(x v:D)(g g':G):Prop:=∃a c fs,x=.ref a/\g[a]?=some (.ins c fs)/\c∈cs/\fs.length<100/\g'=g.set a (.ins c (p8 f v fs))
def xQ(f:Str)(cs:List Str)(x v:D)(g:G)(k:G->Prop):Prop:=∃g',JS f cs x v g g'/\k g'
def mD:Pr->D->G->Prop
 |.get,x,g=>∃a kvs,x=.ref a/\g[a]?=some (.eE kvs)
 |.xr,x,g=>∃a kvs,x=.ref a/\g[a]?=some (.eE kvs)
 |.join,x,g=>∃y,x=.str y
 |.kU,x,g=>∃a S n,x=.ref a/\g[a]?=some (.set S n)
 |.index,x,g=>∃a l,x=.ref a/\d8 g a=some l
 |_,x,g=>∃a l,x=.ref a/\d8 g a=some l
inductive IK where
 |fix (l:List D)|lst (a:Nat)|qc (a:Nat)|uf (a n:Nat)
def IK.at:IK->Nat->G->Option (Option D)
 |.fix l,i,_=>some l[i]?
 |.lst a,i,g=>match d8 g a with
  |some l=>some l[i]?
  |none=>none
 |.qc a,i,g=>match d8 g a with
  |some l=>some (l[i]?.map λd=>.tup [.int i,d])
  |none=>none
 |.uf a n,i,g=>match d8 g a with
  |some l=>if l.length=n then some (if i<n then l[n-1-i]? else none) else none
  |none=>none
inductive MT where
 |one (i:Nat)|many (is:List Nat)
def J7:List Nat->List D->S->Option S
 |[],[],Z=>some Z
 |i::is,d::ds,Z=>J7 is ds (Z.set i (some d))
 |_,_,_=>none
def jT(t:MT)(x:D)(Z:S)(k:S->Prop):Prop:=match t with
 |.one i=>k (Z.set i (some x))
 |.many is=>∃l bU,x=.tup l/\J7 is l Z=some bU/\k bU
set_option genInjectivity false in
set_option genSizeOf false in
inductive ME where
 |var (i:Nat)|lit (d:D)
 |nil|cons (a b:ME)|prim (p:Pr) (es:ME)|dG (p:Pr) (o es:ME)|xt (es:ME)
 |chain (o1 o2:CmpOp) (a b c:ME)
 |dB (a b:ME)|jY (a b:ME)|eI (a:ME)|ite (c a b:ME)
 |call (f:Nat) (es:ME)|make (c:Str) (f:Nat) (es:ME)|kZ (m:Str) (cs:List (Str×Nat)) (o es:ME)
 |comp (f7:List Nat) (n:Nat) (tg:MT) (it cond elt:ME)|ig (f7:List Nat) (n:Nat) (tg:MT) (it cond elt:ME)|kW (f7:List Nat) (n:Nat) (tg:MT) (it cond elt:ME)
 |eU (e:ME)|eQ (a:ME)|jF (a b:ME)|lX (e:ME)|oW (e:ME)|fo (e:ME)|no
noncomputable abbrev fj:=Nat->List D->G->KD->KX->Prop
def H9(Z:S)(f7:List Nat)(n:Nat):S:=f7.map (λj=>(Z[j]?).join)++List.replicate (n-f7.length) none
def turns(k:IK)(Z:S)(g:G)(fin:S->G->Prop)(turn:D->(S->G->Prop)->S->G->Prop):Prop :=
 ∃W:Nat->Nat->S->G->Prop,(∃m,W 0 m Z g)/\∀i m Z g,W i m Z g->(k.at i g=some none/\fin Z g)\/∃x,k.at i g=some (some x)/\∃N2:S->G->Prop,(∀bU g',N2 bU g'->∃m',m'<m/\W (i+1) m' bU g')/\turn x N2 Z g
def zV(k:IK)(Z:S)(g:G)(fin:List D->G->Prop)(turn:D->(Option D->S->G->Prop)->S->G->Prop):Prop :=
 ∃W:Nat->Nat->List D->S->G->Prop,(∃m,W 0 m [] Z g)/\∀i m ys Z g,W i m ys Z g->(k.at i g=some none/\fin ys g) \/
  ∃x,k.at i g=some (some x)/\ys.length<100000/\turn x (λy bU g'=>∃m',m'<m/\W (i+1) m' (ys++y.toList) bU g') Z g
def GN(k:IK)(Z:S)(g:G)(fin:List Int->G->Prop)(turn:D->(Option Int->S->G->Prop)->S->G->Prop):Prop :=
 ∃W:Nat->Nat->List Int->S->G->Prop,(∃m,W 0 m [] Z g)/\∀i m ys Z g,W i m ys Z g->(k.at i g=some none/\ys.length<60/\fin ys g) \/
  ∃x,k.at i g=some (some x)/\ys.length<60/\turn x (λy bU g'=>∃m',m'<m/\W (i+1) m' (ys++y.toList) bU g') Z g
mutual
noncomputable def aX(P:fj):ME->S->G->KD->KX->Prop
 |.var i,Z,g,Q,_=>∃d,Z[i]?=some (some d)/\Q d g
 |.lit d,_,g,Q,_=>Q d g
 |.prim p es,Z,g,Q,E=>gw P es Z g (λxs g1=>cF p xs g1 Q) E
 |.dG p o es,Z,g,Q,E=>aX P o Z g (λx g1=>mD p x g1/\gw P es Z g1 (λxs g2=>cF p (x::xs) g2 Q) E) E
 |.xt es,Z,g,Q,E=>gw P es Z (g++[.eE []]) (λxs g1=>∃kvs,Kd xs []=some kvs/\xs.length<=30/\g1[g.length]?=some (.eE [])/\Q (.ref g.length) (g1.set g.length (.eE kvs))) E
 |.chain o1 o2 a b c,Z,g,Q,E=>aX P a Z g (λx g1=>aX P b Z g1 (λy g2=>cF (.cmp o1) [x,y] g2 λz g3=>∃t,z=.bl t/\if t=true then aX P c Z g3 (λw g4=>cF (.cmp o2) [y,w] g4 Q) E else Q (.bl false) g3) E) E
 |.dB a b,Z,g,Q,E=>aX P a Z g (λx g1=>∃t,x=.bl t/\if t=true then aX P b Z g1 Q E else Q (.bl false) g1) E
 |.jY a b,Z,g,Q,E=>aX P a Z g (λx g1=>∃t,x=.bl t/\if t=true then Q (.bl true) g1 else aX P b Z g1 Q E) E
 |.eI a,Z,g,Q,E=>aX P a Z g (λx g1=>∃t,x=.bl t/\Q (.bl (!t)) g1) E
 |.ite c a b,Z,g,Q,E=>dh P c Z g (λt g1=>if t=true then aX P a Z g1 Q E else aX P b Z g1 Q E) E
 |.call f es,Z,g,Q,E=>gw P es Z g (λxs g1=>P f xs g1 Q E) E
 |.make c f es,Z,g,Q,E=>gw P es Z g (λxs g1=>P f (.ref g1.length::xs) (g1++[.ins c []]) (λd g2=>d=.br/\Q (.ref g1.length) g2) E) E
 |.kZ m cs o es,Z,g,Q,E=>aX P o Z g (λx g1=>∃a c fs f,x=.ref a/\g1[a]?=some (.ins c fs)/\fs.lookup m=none/\cs.lookup c=some f/\gw P es Z g1 (λxs g2=>P f (x::xs) g2 Q E) E) E
 |.comp f7 n tg it cond elt,Z,g,Q,E=>gK P it Z g (λk g1=>zV k (H9 Z f7 n) g1 (λys g=>Q (.ref g.length) (g++[.lst ys])) λx N Z g=>jT tg x Z λcA=>dh P cond cA g (λb g3=>if b=true then aX P elt cA g3 (λy g4=>N (some y) cA g4) iV else N none cA g3) iV) E
 |.kW f7 n tg it cond elt,Z,g,Q,E=>gK P it Z g (λk g1=>zV k (H9 Z f7 n) g1 (λys g=>Q (.ref g.length) (g++[.lst ys])) λx N Z g=>jT tg x Z λcA=>dh P cond cA g (λb g3=>if b=true then aX P elt cA g3 (λy g4=>N (some y) cA g4) E else N none cA g3) iV) E
 |.ig f7 n tg it cond elt,Z,g,Q,E=>gK P it Z g (λk g1=>GN k (H9 Z f7 n) g1 (λys g=>Q (.ref g.length) (g++[.lst ((u6 ys).map .int)])) λx N Z g=>jT tg x Z λcA=>dh P cond cA g (λb g3=>if b=true then aX P elt cA g3 (λy g4=>∃j,y=.int j/\N (some j) cA g4) iV else N none cA g3) iV) E
 |.nil,_,_,_,_=>False
 |.cons _ _,_,_,_,_=>False
 |.eU _,_,_,_,_=>False
 |.eQ _,_,_,_,_=>False
 |.jF _ _,_,_,_,_=>False
 |.lX _,_,_,_,_=>False
 |.oW _,_,_,_,_=>False
 |.fo _,_,_,_,_=>False
 |.no,_,_,_,_=>False
noncomputable def gw(P:fj):ME->S->G->(List D->G->Prop)->KX->Prop
 |.nil,_,g,Q,_=>Q [] g
 |.cons a b,Z,g,Q,E=>aX P a Z g (λx g1=>gw P b Z g1 (λxs g2=>Q (x::xs) g2) E) E
 |_,_,_,_,_=>False
noncomputable def dh(P:fj):ME->S->G->(Bool->G->Prop)->KX->Prop
 |.dB a b,Z,g,Q,E=>dh P a Z g (λt g1=>if t=true then dh P b Z g1 Q E else Q false g1) E
 |.jY a b,Z,g,Q,E=>dh P a Z g (λt g1=>if t=true then Q true g1 else dh P b Z g1 Q E) E
 |.eI a,Z,g,Q,E=>dh P a Z g (λt g1=>Q (!t) g1) E
 |.no,_,g,Q,_=>Q true g
 |.fo e,Z,g,Q,E=>aX P e Z g (λx g1=>qk g1 x λb=>Q b g1) E
 |_,_,_,_,_=>False
noncomputable def gK(P:fj):ME->S->G->(IK->G->Prop)->KX->Prop
 |.eU e,Z,g,R,E=>aX P e Z g (λx g1=>(∃l,x=.tup l/\R (.fix l) g1)\/∃a l,x=.ref a/\d8 g1 a=some l/\R (.lst a) g1) E
 |.eQ a,Z,g,R,E=>aX P a Z g (λx g1=>∃j:Int,x=.int j/\-(2 ^ 62)<=j/\j<2 ^ 62/\R (.fix (k8 0 j.toNat)) g1) E
 |.jF a b,Z,g,R,E=>aX P a Z g (λx g1=>aX P b Z g1 (λy g2=>∃i j:Int,x=.int i/\y=.int j/\(-(2 ^ 62)<=i/\i<2 ^ 62/\-(2 ^ 62)<=j/\j<2 ^ 62)/\R (.fix (k8 i (j-i).toNat)) g2) E) E
 |.lX e,Z,g,R,E=>aX P e Z g (λx g1=>∃a l,x=.ref a/\d8 g1 a=some l/\R (.qc a) g1) E
 |.oW e,Z,g,R,E=>aX P e Z g (λx g1=>∃a l,x=.ref a/\d8 g1 a=some l/\R (.uf a l.length) g1) E
 |_,_,_,_,_=>False
end
set_option genInjectivity false in
set_option genSizeOf false in
inductive MS where
 |pass|seq (a b:MS)|expr (e:ME)|set (i:Nat) (e:ME)|mx (t:MT) (e:ME)|eJ (o i v:ME)|jf (f:Str) (cs:List Str) (o v:ME)
 |xH (f:Str) (cs:List Str) (o v:ME)|lG (i:Nat) (p:Pr) (v:ME)|yR (o1 i1 o2 i2 e:ME)
 |ifs (c:ME) (a b:MS)|dq (t:MT) (it:ME) (b:MS)|kR (c:ME) (b:MS)|ret (e:ME)|rP|brk|cont
 |raise (x:Str) (es:ME)|Y9 (b:MS) (hs:List (Str×ME))|mW (e:ME) (y:Str) (b:MS)
structure Ends where
 nx:S->G->Prop
 rt:KD
 bk:S->G->Prop:=λ_ _=>False
 ct:S->G->Prop:=λ_ _=>False
def oS(P:fj)(N:Ends)(Z:S)(E:KX):List (Str×ME)->KX
 |[],x,g=>E x g
 |(y,e)::r,x,g=>if x.cls=y\/y="MintError" then aX P e Z g N.rt iV else oS P N Z E r x g
def wpS(P:fj):MS->Ends->S->G->KX->Prop
 |.pass,N,Z,g,_=>N.nx Z g
 |.seq a b,N,Z,g,E=>wpS P a { N with nx:=λjl g1=>wpS P b N jl g1 E } Z g E
 |.expr e,N,Z,g,E=>aX P e Z g (λ_ g1=>N.nx Z g1) E
 |.set i e,N,Z,g,E=>aX P e Z g (λx g1=>N.nx (Z.set i (some x)) g1) E
 |.mx t e,N,Z,g,E=>aX P e Z g (λx g1=>jT t x Z λjl=>N.nx jl g1) E
 |.eJ o i v,N,Z,g,E=>aX P v Z g (λx g1=>aX P o Z g1 (λy g2=>aX P i Z g2 (λz g3=>Z2 y z x g3 λg4=>N.nx Z g4) E) E) E
 |.jf f cs o v,N,Z,g,E=>aX P v Z g (λx g1=>aX P o Z g1 (λy g2=>xQ f cs y x g2 λg3=>N.nx Z g3) E) E
 |.xH f cs o v,N,Z,g,E=>aX P o Z g (λy g1=>∃a c fs x,y=.ref a/\g1[a]?=some (.ins c fs)/\c∈cs/\fs.lookup f=some x/\aX P v Z g1 (λz g3=>cF .iadd [x,z] g3 λw g4=>∃sX,g4[a]?=some (.ins c sX)/\sX.length<100/\N.nx Z (g4.set a (.ins c (p8 f w sX)))) E) E
 |.yR o1 i1 o2 i2 e,N,Z,g,E=>aX P e Z g (λx g1=>∃u v,x=.tup [u,v]/\aX P o1 Z g1 (λy1 g2=>aX P i1 Z g2 (λz1 g3=>Z2 y1 z1 u g3 λg4=>aX P o2 Z g4 (λy2 g5=>aX P i2 Z g5 (λz2 g6=>Z2 y2 z2 v g6 λg7=>N.nx Z g7) E) E) E) E) E
 |.lG i p v,N,Z,g,E=>∃x,Z[i]?=some (some x)/\aX P v Z g (λz g1=>cF p [x,z] g1 λw g2=>N.nx (Z.set i (some w)) g2) E
 |.ifs c a b,N,Z,g,E=>dh P c Z g (λt g1=>if t=true then wpS P a N Z g1 E else wpS P b N Z g1 E) E
 |.dq t it b,N,Z,g,E=>gK P it Z g (λk g1=>turns k Z g1 N.nx λx N2 Z g=>jT t x Z λcA=>wpS P b { N with nx:=N2,ct:=N2,bk:=N.nx } cA g E) E
 |.kR c b,N,Z,g,E=>∃W:Nat->S->G->Prop,(∃m,W m Z g)/\∀m Z g,W m Z g->dh P c Z g (λt g1=>if t=true then ∃N2:S->G->Prop,(∀bU g',N2 bU g'->∃m',m'<m/\W m' bU g')/\wpS P b { N with nx:=N2,ct:=N2,bk:=N.nx } Z g1 E else N.nx Z g1) E
 |.ret e,N,Z,g,E=>aX P e Z g N.rt E
 |.rP,N,_,g,_=>N.rt .br g
 |.brk,N,Z,g,_=>N.bk Z g
 |.cont,N,Z,g,_=>N.ct Z g
 |.raise x es,_,Z,g,E=>gw P es Z g (λvs g1=>vs.length<=1000/\E ⟨x⟩ g1) E
 |.Y9 b hs,N,Z,g,E=>wpS P b N Z g (oS P N (Z.map λ_=>none) E hs)
 |.mW e y b,N,Z,g,E=>aX P e Z g (λ_ g1=>N.nx Z g1) λx g1=>if x.cls=y\/y="MintError" then wpS P b N Z g1 iV else E x g1
structure aW where
 ar:Nat
 n:Nat
 body:MS
def d6(m:aW)(ds:List D):S:=ds.map some++List.replicate (m.n-ds.length) none
def d0(T:Nat->Option aW):Nat->fj
 |0,_,_,_,_,_=>False
 |k+1,f,ds,g,Q,E=>∃m,T f=some m/\ds.length=m.ar/\wpS (d0 T k) m.body ⟨λ_ g'=>Q .br g',Q,λ_ _=>False,λ_ _=>False⟩ (d6 m ds) g E
end M
namespace M
open PySem L2
variable{g:G}{K:PySem.W.Frag}{H:Hp}{a p:Addr}{vs:List V}{i:Nat}{o:O}{u:HO}{l:List D}
theorem y9{p xs}{Q Q':KD}(h:∀d g,Q d g->Q' d g)(q:cF p xs g Q):cF p xs g Q':=by
 obtain⟨d,g',a,b⟩:=q;exact⟨d,g',a,h _ _ b⟩
theorem aZ7{x}{k k':Bool->Prop}(h:∀b,k b->k' b)(q:qk g x k):qk g x k':=by
 obtain⟨b,a,z⟩:=q;exact⟨b,a,h _ z⟩
theorem X7{x y v}{k k':G->Prop}(h:∀g,k g->k' g)(q:Z2 x y v g k):Z2 x y v g k':=by
 obtain⟨b,a,z⟩:=q;exact⟨b,a,h _ z⟩
theorem aT1{f cs x v}{k k':G->Prop}(h:∀g,k g->k' g)(q:xQ f cs x v g k):xQ f cs x v g k':=by
 obtain⟨b,a,z⟩:=q;exact⟨b,a,h _ z⟩
theorem A8{t x Z}{k k':S->Prop}(h:∀Z,k Z->k' Z)(q:jT t x Z k):jT t x Z k':=by
 cases t with
 |one i=>exact h _ q
 |many is=>obtain⟨l,bU,a,b,c⟩:=q;exact⟨l,bU,a,b,h _ c⟩
theorem aR9{k Z g}{fin lE:S->G->Prop}{turn iR:D->(S->G->Prop)->S->G->Prop}(h:∀Z g,fin Z g->lE Z g)(h2:∀x N Z g,turn x N Z g->iR x N Z g)(q:turns k Z g fin turn):turns k Z g lE iR:=by
 obtain⟨W,w0,q⟩:=q;refine⟨W,w0,λi m Z g w=>?_⟩;rcases q i m Z g w with⟨a,b⟩|⟨x,a,N2,b,c⟩
 ·exact .inl ⟨a,h _ _ b⟩
 ·exact .inr ⟨x,a,N2,b,h2 _ _ _ _ c⟩
theorem Lo{k Z g}{fin lE:List D->G->Prop}{turn iR:D->(Option D->S->G->Prop)->S->G->Prop}(h:∀ys g,fin ys g->lE ys g)(h2:∀x N Z g,turn x N Z g->iR x N Z g)(q:zV k Z g fin turn):zV k Z g lE iR:=by
 obtain⟨W,w0,q⟩:=q;refine⟨W,w0,λi m ys Z g w=>?_⟩;rcases q i m ys Z g w with⟨a,b⟩|⟨x,a,b,c⟩
 ·exact .inl ⟨a,h _ _ b⟩
 ·exact .inr ⟨x,a,b,h2 _ _ _ _ c⟩
theorem aL8{k Z g}{fin lE:List Int->G->Prop}{turn iR:D->(Option Int->S->G->Prop)->S->G->Prop}(h:∀ys g,fin ys g->lE ys g)(h2:∀x N Z g,turn x N Z g->iR x N Z g)(q:GN k Z g fin turn):GN k Z g lE iR:=by
 obtain⟨W,w0,q⟩:=q;refine⟨W,w0,λi m ys Z g w=>?_⟩;rcases q i m ys Z g w with⟨a,b,c⟩|⟨x,a,b,c⟩
 ·exact .inl ⟨a,b,h _ _ c⟩
 ·exact .inr ⟨x,a,b,h2 _ _ _ _ c⟩
theorem K8{t:Bool}{A B A' B':Prop}(h1:A->A')(h2:B->B')(q:if t=true then A else B):if t=true then A' else B':=by
 cases t
 ·exact h2 q
 ·exact h1 q
def j9(P:fj):Prop:=∀f xs g Q Q' E E',(∀d g,Q d g->Q' d g)->(∀x g,E x g->E' x g)->P f xs g Q E->P f xs g Q' E'
mutual
theorem d5{P:fj}(hP:j9 P):∀(e:ME) (Z:S) (g:G) (Q Q':KD) (E E':KX),(∀d g,Q d g->Q' d g)->(∀x g,E x g->E' x g)->aX P e Z g Q E->aX P e Z g Q' E'
 |.var i,Z,g,Q,Q',E,E',h,hx,q=>by
  obtain⟨d,a,b⟩:=q;exact⟨d,a,h _ _ b⟩
 |.lit d,Z,g,Q,Q',E,E',h,hx,q=>by exact h _ _ q
 |.prim p es,Z,g,Q,Q',E,E',h,hx,q=>by
  exact B8 hP es _ _ _ _ _ _ (λxs g1 q=>y9 h q) hx q
 |.dG p o es,Z,g,Q,Q',E,E',h,hx,q=>by
  exact d5 hP o _ _ _ _ _ _ (λx g1 q=>⟨q.1,B8 hP es _ _ _ _ _ _ (λxs g2 q=>y9 h q) hx q.2⟩) hx q
 |.xt es,Z,g,Q,Q',E,E',h,hx,q=>by
  exact B8 hP es _ _ _ _ _ _ (λxs g1 ⟨kvs,a,b,c,d⟩=>⟨kvs,a,b,c,h _ _ d⟩) hx q
 |.chain o1 o2 a b c,Z,g,Q,Q',E,E',h,hx,q=>by
  refine d5 hP a _ _ _ _ _ _ (λx g1 q=>d5 hP b _ _ _ _ _ _ (λy g2 q=>y9 (λz g3 q=>?_) q) hx q) hx q;obtain⟨t,e,q⟩:=q;exact⟨t,e,K8 (λq=>d5 hP c _ _ _ _ _ _ (λw g4 q=>y9 h q) hx q) (h _ _) q⟩
 |.dB a b,Z,g,Q,Q',E,E',h,hx,q=>by
  refine d5 hP a _ _ _ _ _ _ (λx g1 q=>?_) hx q;obtain⟨t,e,q⟩:=q;exact⟨t,e,K8 (λq=>d5 hP b _ _ _ _ _ _ h hx q) (h _ _) q⟩
 |.jY a b,Z,g,Q,Q',E,E',h,hx,q=>by
  refine d5 hP a _ _ _ _ _ _ (λx g1 q=>?_) hx q;obtain⟨t,e,q⟩:=q;exact⟨t,e,K8 (h _ _) (λq=>d5 hP b _ _ _ _ _ _ h hx q) q⟩
 |.eI a,Z,g,Q,Q',E,E',h,hx,q=>by
  refine d5 hP a _ _ _ _ _ _ (λx g1 q=>?_) hx q;obtain⟨t,e,q⟩:=q;exact⟨t,e,h _ _ q⟩
 |.ite c a b,Z,g,Q,Q',E,E',h,hx,q=>by
  exact u7 hP c _ _ _ _ _ _ (λt g1 q=>K8 (λq=>d5 hP a _ _ _ _ _ _ h hx q) (λq=>d5 hP b _ _ _ _ _ _ h hx q) q) hx q
 |.call f es,Z,g,Q,Q',E,E',h,hx,q=>by
  exact B8 hP es _ _ _ _ _ _ (λxs g1 q=>hP _ _ _ _ _ _ _ h hx q) hx q
 |.make c f es,Z,g,Q,Q',E,E',h,hx,q=>by
  exact B8 hP es _ _ _ _ _ _ (λxs g1 q=>hP _ _ _ _ _ _ _ (λd g2 q=>⟨q.1,h _ _ q.2⟩) hx q) hx q
 |.kZ m cs o es,Z,g,Q,Q',E,E',h,hx,q=>by
  refine d5 hP o _ _ _ _ _ _ (λx g1 q=>?_) hx q;obtain⟨a,c,fs,f,q1,q2,q3,q4,q⟩:=q;exact⟨a,c,fs,f,q1,q2,q3,q4,B8 hP es _ _ _ _ _ _ (λxs g2 q=>hP _ _ _ _ _ _ _ h hx q) hx q⟩
 |.comp f7 n tg it cond elt,Z,g,Q,Q',E,E',h,hx,q=>by
  exact B6 hP it _ _ _ _ _ _ (λk g1 q=>Lo (λys g q=>h _ _ q) (λ_ _ _ _ q=>q) q) hx q
 |.kW f7 n tg it cond elt,Z,g,Q,Q',E,E',h,hx,q=>by
  exact B6 hP it _ _ _ _ _ _ (λk g1 q=>Lo (λys g q=>h _ _ q) (λx N Z g q=>A8 (λcA q=>u7 hP cond _ _ _ _ _ _ (λb g3 q=>by
   cases b
   ·exact q
   ·exact d5 hP elt _ _ _ _ _ _ (λ_ _ z=>z) hx q) (λ_ _ z=>z) q) q) q) hx q
 |.ig f7 n tg it cond elt,Z,g,Q,Q',E,E',h,hx,q=>by
  exact B6 hP it _ _ _ _ _ _ (λk g1 q=>aL8 (λys g q=>h _ _ q) (λ_ _ _ _ q=>q) q) hx q
 |.nil,Z,g,Q,Q',E,E',h,hx,q=>(show False from q).elim
 |.cons _ _,Z,g,Q,Q',E,E',h,hx,q=>(show False from q).elim
 |.eU _,Z,g,Q,Q',E,E',h,hx,q=>(show False from q).elim
 |.eQ _,Z,g,Q,Q',E,E',h,hx,q=>(show False from q).elim
 |.jF _ _,Z,g,Q,Q',E,E',h,hx,q=>(show False from q).elim
 |.lX _,Z,g,Q,Q',E,E',h,hx,q|.oW _,Z,g,Q,Q',E,E',h,hx,q=>(show False from q).elim
 |.fo _,Z,g,Q,Q',E,E',h,hx,q=>(show False from q).elim
 |.no,Z,g,Q,Q',E,E',h,hx,q=>(show False from q).elim
theorem B8{P:fj}(hP:j9 P):∀(e:ME) (Z:S) (g:G) (Q Q':List D->G->Prop) (E E':KX),(∀d g,Q d g->Q' d g)->(∀x g,E x g->E' x g)->gw P e Z g Q E->gw P e Z g Q' E'
 |.nil,Z,g,Q,Q',E,E',h,hx,q=>by exact h _ _ q
 |.cons a b,Z,g,Q,Q',E,E',h,hx,q=>by
  exact d5 hP a _ _ _ _ _ _ (λx g1 q=>B8 hP b _ _ _ _ _ _ (λxs g2 q=>h _ _ q) hx q) hx q
 |.var _,Z,g,Q,Q',E,E',h,hx,q|.lit _,Z,g,Q,Q',E,E',h,hx,q|.prim _ _,Z,g,Q,Q',E,E',h,hx,q|.dG _ _ _,Z,g,Q,Q',E,E',h,hx,q|.xt _,Z,g,Q,Q',E,E',h,hx,q|.chain _ _ _ _ _,Z,g,Q,Q',E,E',h,hx,q|.dB _ _,Z,g,Q,Q',E,E',h,hx,q|.jY _ _,Z,g,Q,Q',E,E',h,hx,q|.eI _,Z,g,Q,Q',E,E',h,hx,q|.ite _ _ _,Z,g,Q,Q',E,E',h,hx,q|.call _ _,Z,g,Q,Q',E,E',h,hx,q
 |.make _ _ _,Z,g,Q,Q',E,E',h,hx,q|.kZ _ _ _ _,Z,g,Q,Q',E,E',h,hx,q|.comp _ _ _ _ _ _,Z,g,Q,Q',E,E',h,hx,q|.ig _ _ _ _ _ _,Z,g,Q,Q',E,E',h,hx,q|.kW _ _ _ _ _ _,Z,g,Q,Q',E,E',h,hx,q|.eU _,Z,g,Q,Q',E,E',h,hx,q|.eQ _,Z,g,Q,Q',E,E',h,hx,q|.jF _ _,Z,g,Q,Q',E,E',h,hx,q|.lX _,Z,g,Q,Q',E,E',h,hx,q|.oW _,Z,g,Q,Q',E,E',h,hx,q|.fo _,Z,g,Q,Q',E,E',h,hx,q|.no,Z,g,Q,Q',E,E',h,hx,q=>(show False from q).elim
theorem u7{P:fj}(hP:j9 P):∀(e:ME) (Z:S) (g:G) (Q Q':Bool->G->Prop) (E E':KX),(∀d g,Q d g->Q' d g)->(∀x g,E x g->E' x g)->dh P e Z g Q E->dh P e Z g Q' E'
 |.dB a b,Z,g,Q,Q',E,E',h,hx,q=>by
  exact u7 hP a _ _ _ _ _ _ (λt g1 q=>K8 (λq=>u7 hP b _ _ _ _ _ _ h hx q) (h _ _) q) hx q
 |.jY a b,Z,g,Q,Q',E,E',h,hx,q=>by
  exact u7 hP a _ _ _ _ _ _ (λt g1 q=>K8 (h _ _) (λq=>u7 hP b _ _ _ _ _ _ h hx q) q) hx q
 |.eI a,Z,g,Q,Q',E,E',h,hx,q=>by exact u7 hP a _ _ _ _ _ _ (λt g1 q=>h _ _ q) hx q
 |.no,Z,g,Q,Q',E,E',h,hx,q=>by exact h _ _ q
 |.fo e,Z,g,Q,Q',E,E',h,hx,q=>by exact d5 hP e _ _ _ _ _ _ (λx g1 q=>aZ7 (λb q=>h _ _ q) q) hx q
 |.var _,Z,g,Q,Q',E,E',h,hx,q|.lit _,Z,g,Q,Q',E,E',h,hx,q|.prim _ _,Z,g,Q,Q',E,E',h,hx,q|.dG _ _ _,Z,g,Q,Q',E,E',h,hx,q|.xt _,Z,g,Q,Q',E,E',h,hx,q|.chain _ _ _ _ _,Z,g,Q,Q',E,E',h,hx,q|.ite _ _ _,Z,g,Q,Q',E,E',h,hx,q|.call _ _,Z,g,Q,Q',E,E',h,hx,q|.nil,Z,g,Q,Q',E,E',h,hx,q|.cons _ _,Z,g,Q,Q',E,E',h,hx,q
 |.make _ _ _,Z,g,Q,Q',E,E',h,hx,q|.kZ _ _ _ _,Z,g,Q,Q',E,E',h,hx,q|.comp _ _ _ _ _ _,Z,g,Q,Q',E,E',h,hx,q|.ig _ _ _ _ _ _,Z,g,Q,Q',E,E',h,hx,q|.kW _ _ _ _ _ _,Z,g,Q,Q',E,E',h,hx,q|.eU _,Z,g,Q,Q',E,E',h,hx,q|.eQ _,Z,g,Q,Q',E,E',h,hx,q|.jF _ _,Z,g,Q,Q',E,E',h,hx,q|.lX _,Z,g,Q,Q',E,E',h,hx,q|.oW _,Z,g,Q,Q',E,E',h,hx,q=>(show False from q).elim
theorem B6{P:fj}(hP:j9 P):∀(e:ME) (Z:S) (g:G) (Q Q':IK->G->Prop) (E E':KX),(∀d g,Q d g->Q' d g)->(∀x g,E x g->E' x g)->gK P e Z g Q E->gK P e Z g Q' E'
 |.eU e,Z,g,Q,Q',E,E',h,hx,q=>by
  exact d5 hP e _ _ _ _ _ _ (λx g1 q=>q.imp (λ⟨l,a,b⟩=>⟨l,a,h _ _ b⟩) λ⟨i,l,a,b,c⟩=>⟨i,l,a,b,h _ _ c⟩) hx q
 |.eQ a,Z,g,Q,Q',E,E',h,hx,q=>by
  exact d5 hP a _ _ _ _ _ _ (λx g1 ⟨j,a,b,c,d⟩=>⟨j,a,b,c,h _ _ d⟩) hx q
 |.jF a b,Z,g,Q,Q',E,E',h,hx,q=>by
  exact d5 hP a _ _ _ _ _ _ (λx g1 q=>d5 hP b _ _ _ _ _ _ (λy g2 ⟨i,j,a,b,c,d⟩=>⟨i,j,a,b,c,h _ _ d⟩) hx q) hx q
 |.lX e,Z,g,Q,Q',E,E',h,hx,q=>by
  exact d5 hP e _ _ _ _ _ _ (λx g1 ⟨i,l,a,b,c⟩=>⟨i,l,a,b,h _ _ c⟩) hx q
 |.oW e,Z,g,Q,Q',E,E',h,hx,q=>by
  exact d5 hP e _ _ _ _ _ _ (λx g1 ⟨i,l,a,b,c⟩=>⟨i,l,a,b,h _ _ c⟩) hx q
 |.var _,Z,g,Q,Q',E,E',h,hx,q|.lit _,Z,g,Q,Q',E,E',h,hx,q|.prim _ _,Z,g,Q,Q',E,E',h,hx,q|.dG _ _ _,Z,g,Q,Q',E,E',h,hx,q|.xt _,Z,g,Q,Q',E,E',h,hx,q|.chain _ _ _ _ _,Z,g,Q,Q',E,E',h,hx,q|.ite _ _ _,Z,g,Q,Q',E,E',h,hx,q|.call _ _,Z,g,Q,Q',E,E',h,hx,q|.nil,Z,g,Q,Q',E,E',h,hx,q|.cons _ _,Z,g,Q,Q',E,E',h,hx,q
 |.dB _ _,Z,g,Q,Q',E,E',h,hx,q|.jY _ _,Z,g,Q,Q',E,E',h,hx,q|.eI _,Z,g,Q,Q',E,E',h,hx,q|.fo _,Z,g,Q,Q',E,E',h,hx,q|.no,Z,g,Q,Q',E,E',h,hx,q
 |.make _ _ _,Z,g,Q,Q',E,E',h,hx,q|.kZ _ _ _ _,Z,g,Q,Q',E,E',h,hx,q|.comp _ _ _ _ _ _,Z,g,Q,Q',E,E',h,hx,q|.ig _ _ _ _ _ _,Z,g,Q,Q',E,E',h,hx,q|.kW _ _ _ _ _ _,Z,g,Q,Q',E,E',h,hx,q=>(show False from q).elim
end
structure Ends.le(N N':Ends):Prop where
 nx:∀Z g,N.nx Z g->N'.nx Z g
 rt:∀d g,N.rt d g->N'.rt d g
 bk:∀Z g,N.bk Z g->N'.bk Z g
 ct:∀Z g,N.ct Z g->N'.ct Z g
theorem Nl{P:fj}(hP:j9 P){N N':Ends}{E E':KX}(h:N.le N')(hx:∀x g,E x g->E' x g){Z:S}:∀(hs:List (Str×ME)) x g,oS P N Z E hs x g->oS P N' Z E' hs x g
 |[],x,g,q=>hx x g q
 |(y,e)::r,x,g,q=>by
  unfold oS at q ⊢;split
  ·rename_i hh;rw[aH hh] at q;exact d5 hP e _ _ _ _ _ _ h.rt (λ_ _ z=>z) q
  ·rename_i hh;rw[aE hh] at q;exact Nl hP h hx r x g q
theorem wpS_mono{P:fj}(hP:j9 P):∀(s:MS) (N N':Ends) (Z:S) (g:G) (E E':KX),N.le N'->(∀x g,E x g->E' x g)->wpS P s N Z g E->wpS P s N' Z g E'
 |.pass,N,N',Z,g,E,E',h,hx,q=>h.nx _ _ q
 |.seq a b,N,N',Z,g,E,E',h,hx,q=>wpS_mono hP a { N with nx:=λjl g1=>wpS P b N jl g1 E } { N' with nx:=λjl g1=>wpS P b N' jl g1 E' } _ _ _ _ ⟨λjl g1 q=>wpS_mono hP b _ _ _ _ _ _ h hx q,h.rt,h.bk,h.ct⟩ hx q
 |.expr e,N,N',Z,g,E,E',h,hx,q=>d5 hP e _ _ _ _ _ _ (λx g1 q=>h.nx _ _ q) hx q
 |.set i e,N,N',Z,g,E,E',h,hx,q=>d5 hP e _ _ _ _ _ _ (λx g1 q=>h.nx _ _ q) hx q
 |.mx t e,N,N',Z,g,E,E',h,hx,q=>d5 hP e _ _ _ _ _ _ (λx g1 q=>A8 (λZ q=>h.nx _ _ q) q) hx q
 |.eJ o i v,N,N',Z,g,E,E',h,hx,q=>d5 hP v _ _ _ _ _ _ (λx g1 q=>d5 hP o _ _ _ _ _ _ (λy g2 q=>d5 hP i _ _ _ _ _ _ (λz g3 q=>X7 (λg q=>h.nx _ _ q) q) hx q) hx q) hx q
 |.jf f cs o v,N,N',Z,g,E,E',h,hx,q=>d5 hP v _ _ _ _ _ _ (λx g1 q=>d5 hP o _ _ _ _ _ _ (λy g2 q=>aT1 (λg q=>h.nx _ _ q) q) hx q) hx q
 | .xH f cs o v,N,N',Z,g,E,E',h,hx,q=>d5 hP o _ _ _ _ _ _ (λy g1 q=>by
   obtain⟨a,c,fs,x,q1,q2,q3,q4,q⟩:=q;exact ⟨a,c,fs,x,q1,q2,q3,q4,d5 hP v _ _ _ _ _ _ (λz g3 q=>y9 (λw g4 q=>by
    obtain⟨sX,k1,k2,k3⟩:=q;exact ⟨sX,k1,k2,h.nx _ _ k3⟩) q) hx q⟩) hx q
 |.yR o1 i1 o2 i2 e,N,N',Z,g,E,E',h,hx,q=>d5 hP e _ _ _ _ _ _ (λx g1 q=>let ⟨u,v,q1,q⟩:=q;⟨u,v,q1,d5 hP o1 _ _ _ _ _ _ (λy g2 q=>d5 hP i1 _ _ _ _ _ _ (λz g3 q=>X7 (λg4 q=>d5 hP o2 _ _ _ _ _ _ (λy g5 q=>d5 hP i2 _ _ _ _ _ _ (λz g6 q=>X7 (λg q=>h.nx _ _ q) q) hx q) hx q) q) hx q) hx q⟩) hx q
 |.lG i p v,N,N',Z,g,E,E',h,hx,q=>let ⟨x,q1,q⟩:=q;⟨x,q1,d5 hP v _ _ _ _ _ _ (λz g1 q=>y9 (λw g2 q=>h.nx _ _ q) q) hx q⟩
 |.ifs c a b,N,N',Z,g,E,E',h,hx,q=>u7 hP c _ _ _ _ _ _ (λt g1 q=>K8 (λq=>wpS_mono hP a _ _ _ _ _ _ h hx q) (λq=>wpS_mono hP b _ _ _ _ _ _ h hx q) q) hx q
 |.dq t it b,N,N',Z,g,E,E',h,hx,q=>B6 hP it _ _ _ _ _ _ (λk g1 q=>aR9 h.nx (λx N2 Z g q=>A8 (λcA q=>wpS_mono hP b { N with nx:=N2,ct:=N2,bk:=N.nx } { N' with nx:=N2,ct:=N2,bk:=N'.nx } _ _ _ _ ⟨λ_ _ z=>z,h.rt,h.nx,λ_ _ z=>z⟩ hx q) q) q) hx q
 |.kR c b,N,N',Z,g,E,E',h,hx,q=>by
  obtain⟨W,w0,q⟩:=q;refine⟨W,w0,λm Z g w=>u7 hP c _ _ _ _ _ _ (λt g1 q=>K8 (λq=>?_) (h.nx _ _) q) hx (q m Z g w)⟩;obtain⟨N2,a,q⟩:=q;exact⟨N2,a,wpS_mono hP b { N with nx:=N2,ct:=N2,bk:=N.nx } { N' with nx:=N2,ct:=N2,bk:=N'.nx } _ _ _ _ ⟨λ_ _ z=>z,h.rt,h.nx,λ_ _ z=>z⟩ hx q⟩
 |.ret e,N,N',Z,g,E,E',h,hx,q=>d5 hP e _ _ _ _ _ _ h.rt hx q
 |.rP,N,N',Z,g,E,E',h,hx,q=>h.rt _ _ q
 |.brk,N,N',Z,g,E,E',h,hx,q=>h.bk _ _ q
 |.cont,N,N',Z,g,E,E',h,hx,q=>h.ct _ _ q
 |.raise x es,N,N',Z,g,E,E',h,hx,q=>B8 hP es _ _ _ _ _ _ (λvs g1 q=>⟨q.1,hx _ _ q.2⟩) hx q
 |.Y9 b hs,N,N',Z,g,E,E',h,hx,q=>wpS_mono hP b _ _ _ _ _ _ h (λx g q=>Nl hP h hx hs x g q) q
 | .mW e y b,N,N',Z,g,E,E',h,hx,q=>d5 hP e _ _ _ _ _ _ (λ_ g1 z=>h.nx _ _ z) (λx g1 z=>by
  split at z
  ·rename_i c;rw[aH c];exact wpS_mono hP b _ _ _ _ _ _ h (λ_ _ z=>z) z
  ·rename_i c;rw[aE c];exact hx _ _ z) q
theorem b7(T:Nat->Option aW):∀k,j9 (d0 T k)
 |0=>λf xs g Q Q' E E' h hx q=>q.elim
 |k+1=>λf xs g Q Q' E E' h hx q=>by
  obtain⟨m,a,b,q⟩:=q;exact⟨m,a,b,wpS_mono (b7 T k) m.body ⟨λ_ g'=>Q .br g',Q,λ_ _=>False,λ_ _=>False⟩ _ _ _ _ _ ⟨λ_ _ z=>h _ _ z,h,λ_ _ z=>z,λ_ _ z=>z⟩ hx q⟩
def TupAt(K:PySem.W.Frag)(H:Hp)(a:Addr)(vs:List V):Prop :=
 H a=some (.tup vs)\/∃(o:Obj) (bo:Array Value) (n:Nat),K.lookup a=some o/\o.cls=.type "tuple"/\o.dict=none/\o.data=.seq bo n/\bo.size<=sizeLine/\Vals vs bo.toList
theorem TupAt.d(h:TupAt K H a vs):Ed K H a vs:=h
theorem TupAt.sq{K:PySem.W.Frag}{H:Hp}{a:Addr}{vs:List V}(h:TupAt K H a vs):jo K H a vs:=h.d.sq
mutual
inductive f9(K:PySem.W.Frag)(ρ:List Addr)(H:Hp):D->V->Prop
 |br:f9 K ρ H .br .br
 |bl (b:Bool):f9 K ρ H (.bl b) (.bl b)
 |int (i:Int):f9 K ρ H (.int i) (.int i)
 |str (x:Str):f9 K ρ H (.str x) (.str x)
 |ty (n:String):f9 K ρ H (.ty n) (.ty n)
 |ref {i:Nat} {a:Addr} (h:ρ[i]?=some a):f9 K ρ H (.ref i) (.ref a)
 |tup {l:List D} {a:Addr} {vs:List V} (h:TupAt K H a vs) (r:d7 K ρ H l vs):f9 K ρ H (.tup l) (.ref a)
inductive d7(K:PySem.W.Frag)(ρ:List Addr)(H:Hp):List D->List V->Prop
 |nil:d7 K ρ H [] []
 |cons {d:D} {v:V} {ds:List D} {vs:List V} (h:f9 K ρ H d v) (r:d7 K ρ H ds vs):d7 K ρ H (d::ds) (v::vs)
end
structure Ext(ρ:List Addr)(H:Hp)(bJ:List Addr)(H':Hp):Prop where
 pre:∃more,bJ=ρ++more
 tup:∀a xs,H a=some (.tup xs)->H' a=some (.tup xs)
theorem Ext.refl(ρ:List Addr)(H:Hp):Ext ρ H ρ H:=⟨⟨[],by simp⟩,λ_ _ h=>h⟩
theorem Ext.trans{ρ H bV H1 fg H2}(a:Ext ρ H bV H1)(b:Ext bV H1 fg H2):Ext ρ H fg H2:=by
 obtain⟨⟨m,rfl⟩,t⟩:=a;obtain⟨⟨m',rfl⟩,t'⟩:=b;exact⟨⟨m++m',by simp⟩,λx xs h=>t' _ _ (t _ _ h)⟩
theorem Ext.get{ρ H bJ H'}(e:Ext ρ H bJ H')(h:ρ[i]?=some a):bJ[i]?=some a:=by
 obtain⟨⟨m,rfl⟩,_⟩:=e;rw[aK (ak.mp h).1];exact h
theorem TupAt.ext{K ρ H bJ H'}(e:Ext ρ H bJ H')(h:TupAt K H a vs):TupAt K H' a vs:=h.elim (λz=>.inl (e.tup _ _ z)) .inr
mutual
theorem f9.ext{K ρ H bJ H'}(e:Ext ρ H bJ H'):∀{d v},f9 K ρ H d v->f9 K bJ H' d v
 |_,_,.br=>.br
 |_,_,.bl b=>.bl b
 |_,_,.int i=>.int i
 |_,_,.str x=>.str x
 |_,_,.ty n=>.ty n
 |_,_,.ref h=>.ref (e.get h)
 |_,_,.tup h r=>.tup (h.ext e) (d7.ext e r)
theorem d7.ext{K ρ H bJ H'}(e:Ext ρ H bJ H'):∀{ds vs},d7 K ρ H ds vs->d7 K bJ H' ds vs
 |_,_,.nil=>.nil
 |_,_,.cons h r=>.cons (f9.ext e h) (d7.ext e r)
end
theorem d7.length{K ρ H}{ds:List D}{vs:List V}(h:d7 K ρ H ds vs):ds.length=vs.length:=by
 induction ds generalizing vs with
 |nil=>cases h;rfl
 |cons d ds ih =>
  cases h with
  |cons q r=>simp[ih r]
theorem d7.get{K ρ H}:∀{ds vs} {i:Nat} {d:D},d7 K ρ H ds vs->ds[i]?=some d->∃v,vs[i]?=some v/\f9 K ρ H d v
 |_,_,_,_,.nil,h=>by simp at h
 |_,_,0,_,.cons h _,e=>by simp at e;subst e;exact⟨_,rfl,h⟩
 |_,_,i+1,d,.cons _ r,e=>by
  obtain⟨v,h1,h2⟩:=d7.get (i:=i) (d:=d) r (by simpa using e);exact⟨v,by simpa using h1,h2⟩
theorem d7.set{K ρ H}{d:D}{v:V}(h:f9 K ρ H d v):∀{ds vs} (i:Nat),d7 K ρ H ds vs->d7 K ρ H (ds.set i d) (vs.set i v)
 |_,_,_,.nil=>.nil
 |_,_,0,.cons _ r=>.cons h r
 |_,_,i+1,.cons q r=>.cons q (d7.set h i r)
theorem d7.append{K ρ H}{ds es:List D}{ws:List V}(h:d7 K ρ H ds vs)(s:d7 K ρ H es ws):d7 K ρ H (ds++es) (vs++ws):=by
 induction ds generalizing vs with
 |nil=>cases h;exact s
 |cons d ds ih =>
  cases h with
  |cons q r=>exact .cons q (ih r)
theorem d7.erase{K ρ H}:∀{ds:List D} {vs:List V} (i:Nat),d7 K ρ H ds vs->d7 K ρ H (ds.eraseIdx i) (vs.eraseIdx i)
 |_,_,_,.nil=>.nil
 |_,_,0,.cons _ r=>r
 |_,_,i+1,.cons q r=>.cons q (d7.erase i r)
theorem d7.take{K ρ H}:∀{ds:List D} {vs:List V} (n:Nat),d7 K ρ H ds vs->d7 K ρ H (ds.take n) (vs.take n)
 |_,_,0,_=>.nil
 |_,_,_+1,.nil=>.nil
 |_,_,n+1,.cons h r=>.cons h (d7.take n r)
theorem d7.drop{K ρ H}:∀{ds:List D} {vs:List V} (n:Nat),d7 K ρ H ds vs->d7 K ρ H (ds.drop n) (vs.drop n)
 |_,_,0,r=>r
 |_,_,_+1,.nil=>.nil
 |_,_,n+1,.cons _ r=>d7.drop n r
theorem d7.reverse{K ρ H}:∀{ds:List D} {vs:List V},d7 K ρ H ds vs->d7 K ρ H ds.reverse vs.reverse
 |_,_,.nil=>.nil
 |_,_,.cons h r=>by
  rw[gW,gW];exact d7.append (d7.reverse r) (.cons h .nil)
theorem d7.cut{K ρ H}{ds:List D}{vs:List V}(r:d7 K ρ H ds vs)(lo hi:Option Int):d7 K ρ H (M.cut ds lo hi) (X3 vs lo hi):=by
 unfold M.cut X3;rw[r.length];exact(r.drop _).take _
theorem d7.ints{K ρ H}:∀{ns:List Int} {vs:List V},d7 K ρ H (ns.map D.int) vs->vs=ns.map V.int
 |[],_,.nil=>rfl
 |_::_,_,.cons h r=>by cases h;rw[d7.ints r];rfl
theorem d7.ofInts{K ρ H}:∀(ns:List Int),d7 K ρ H (ns.map D.int) (ns.map V.int)
 |[]=>.nil
 |n::r=>.cons (.int n) (d7.ofInts r)
def uQ(K:PySem.W.Frag)(H:Hp)(a:Addr)(vs:List V):Prop :=
 (∃o,H a=some (.kB o (.lst vs)))\/∃(o:Obj) (bo:Array Value) (n:Nat),K.lookup a=some o/\o.cls=.type "list"/\o.dict=none/\o.data=.seq bo n/\bo.size<=sizeLine/\Vals vs bo.toList
theorem uQ.sq(h:uQ K H a vs):fO K H a vs:=h.elim (λ⟨o,z⟩=>.inl (.inr ⟨o,z⟩)) .inr
inductive l6{α:Type}(K:PySem.W.Frag)(ρ:List Addr)(H:Hp):List (α×D)->List (α×V)->Prop
 |nil:l6 K ρ H [] []
 |cons {k:α} {d:D} {v:V} {ds:List (α×D)} {vs:List (α×V)} (h:f9 K ρ H d v) (r:l6 K ρ H ds vs):l6 K ρ H ((k,d)::ds) ((k,v)::vs)
theorem l6.ext{α:Type}{K ρ H bJ H'}(e:Ext ρ H bJ H'){ds:List (α×D)}{vs:List (α×V)}(h:l6 K ρ H ds vs):l6 K bJ H' ds vs:=by
 induction h with
 |nil=>exact .nil
 |cons h r ih=>exact .cons (h.ext e) ih
theorem l6.drop{K ρ H}{ds:List (Key×D)}{vs:List (Key×V)}(k:Key)(h:l6 K ρ H ds vs):l6 K ρ H (delD ds k) (AL vs k):=by
 unfold delD AL
 induction h with
 |nil=>exact .nil
 |cons h r ih =>
  rw[iK,iK];split
  ·exact .cons h ih
  ·exact ih
theorem l6.get{α:Type}{K ρ H}{ds:List (α×D)}{vs:List (α×V)}(h:l6 K ρ H ds vs):∀{i:Nat} {k:α} {d:D},ds[i]?=some (k,d)->∃v,vs[i]?=some (k,v)/\f9 K ρ H d v:=by
 induction h with
 |nil=>intro i k d e;simp at e
 |cons h r ih =>
  intro i k d e;cases i with
  |zero=>simp at e;obtain⟨rfl,rfl⟩:=e;exact⟨_,rfl,h⟩
  |succ i=>simpa using ih (by simpa using e)
theorem l6.length{α:Type}{K ρ H}{ds:List (α×D)}{vs:List (α×V)}(h:l6 K ρ H ds vs):ds.length=vs.length:=by
 induction h with
 |nil=>rfl
 |cons h r ih=>simp[ih]
def tK(K:PySem.W.Frag)(ρ:List Addr)(H:Hp):Option D->Option V->Prop
 |some d,some v=>f9 K ρ H d v
 |none,none=>True
 |_,_=>False
theorem l6.val{K ρ H}:∀{ds vs} (k:Key),l6 K ρ H ds vs->tK K ρ H (x4 ds k) (N9 vs k)
 |_,_,k,.nil=>trivial
 |_,_,k,.cons (k:=k') h r=>by
  unfold x4 N9;rw[fb,fb];by_cases e:k'=k
  ·simp only[e,decide_true];exact h
  ·simp only[e,decide_false];exact l6.val k r
theorem l6.Jz{K ρ H}:∀{ds vs} (k:Key),l6 K ρ H ds vs->(ds.any λkv=>decide (kv.1=k))=(vs.any λkv=>decide (kv.1=k))
 |_,_,k,.nil=>rfl
 |_,_,k,.cons h r=>by simp only[List.any_cons,l6.Jz k r]
theorem l6.snoc{K ρ H}{k:Key}{d:D}{v:V}(h:f9 K ρ H d v){ds vs}(t:l6 K ρ H ds vs):l6 K ρ H (ds++[(k,d)]) (vs++[(k,v)]):=by
 induction ds generalizing vs with
 |nil=>cases t;exact .cons h .nil
 |cons d ds ih =>
  cases t with
  |cons q r=>exact .cons q (ih r)
theorem l6.GF{K ρ H}{k:Key}{d:D}{v:V}(h:f9 K ρ H d v):∀{ds vs},l6 K ρ H ds vs->l6 K ρ H (ds.map λkv=>if kv.1=k then(kv.1,d) else kv) (vs.map λkv=>if kv.1=k then(kv.1,v) else kv)
 |_,_,.nil=>.nil
 |_,_,.cons (k:=k') q r=>by
  simp only[List.map_cons];by_cases e:k'=k
  ·rw[aH e,aH e];exact .cons h (l6.GF h r)
  ·rw[aE e,aE e];exact .cons q (l6.GF h r)
theorem l6.put{K ρ H}{k:Key}{d:D}{v:V}(h:f9 K ρ H d v){ds vs}(r:l6 K ρ H ds vs):l6 K ρ H (putD ds k d) (putK vs k v):=by
 unfold putD putK;rw[r.Jz k];split
 ·exact r.GF h
 ·exact r.snoc h
noncomputable abbrev x2(K:PySem.W.Frag)(x:Str)(C:Addr):Prop:=PySem.W.nsIn K mainGlobals x=some (some (.ref C))
theorem l6.look{K ρ H}{ds:List (Str×D)}{vs:List (Str×V)}(f:Str)(h:l6 K ρ H ds vs):tK K ρ H (ds.lookup f) (vs.lookup f):=by
 induction h with
 |nil=>trivial
 |cons h r ih =>
  rename_i k d v ds vs;rw[cL,cL];cases f==k
  ·exact ih
  ·exact h
theorem l6.C8{K ρ H}{f:Str}{d:D}{v:V}(h:f9 K ρ H d v){ds:List (Str×D)}{vs:List (Str×V)}(r:l6 K ρ H ds vs):l6 K ρ H (p8 f d ds) (L2.C8 f v vs):=by
 induction r with
 |nil=>exact .cons h .nil
 |cons q r ih =>
  unfold p8 L2.C8;split
  ·exact .cons h r
  ·exact .cons q ih
theorem KS{f:Str}{d:D}{p:Str->Prop}(hf:p f):∀{ds:List (Str×D)},(∀x∈ds,p x.1)->∀x∈p8 f d ds,p x.1
 |[],_,x,hx=>by
  have:x=(f,d):=by simpa[p8] using hx
  rw[this];exact hf
 |(k,e)::r,h,x,hx=>by
  unfold p8 at hx;split at hx
  ·rcases aL.mp hx with z|z
   ·rw[z];exact h (k,e) (by simp)
   ·exact h x (by simp[z])
  ·rcases aL.mp hx with z|z
   ·rw[z];exact h (k,e) (by simp)
   ·exact KS hf (λy hy=>h y (by simp[hy])) x z
def OH(K:PySem.W.Frag)(ρ:List Addr)(H:Hp):O->HO->Prop
 |.lst l,.lst vs=>d7 K ρ H l vs
 |.eE kvs,.dK vs=>l6 K ρ H kvs vs
 |.set S n,.set S' n'=>S=S'/\n=n'
 |.ins c fs,.ins C _ vs=>x2 K c C/\kK K C/\l6 K ρ H fs vs/\∀x∈fs,E8 K C x.1
 |_,_=>False
theorem OH.ext{K ρ H bJ H'}(e:Ext ρ H bJ H'){o:O}{u:HO}(h:OH K ρ H o u):OH K bJ H' o u:=by
 cases o<;>cases u<;>first|exact h.elim|exact d7.ext e h|exact l6.ext e h|exact⟨h.1,h.2.1,h.2.2.1.ext e,h.2.2.2⟩|exact h
theorem OH.uX{K ρ H}{xs:List V}(h:OH K ρ H o (.tup xs)):False:=by cases o<;>exact h
theorem OH.Zy{K ρ H}{ob:Obj}(h:OH K ρ H o (.kB ob u)):False:=by cases o<;>exact h
def M3(K:PySem.W.Frag)(ρ:List Addr)(H:Hp)(o:O)(a:Addr):Prop:=match o with
 |.qb l=>∃vs,uQ K H a vs/\d7 K ρ H l vs
 |o=>∃u,H a=some u/\OH K ρ H o u
theorem M3.of{K ρ H}(hu:H a=some u)(h:OH K ρ H o u):M3 K ρ H o a:=by
 cases o<;>first|exact⟨u,hu,h⟩|(cases u<;>exact h.elim)
theorem M3.inv{K ρ H}(m:o.mut=true)(h:M3 K ρ H o a):∃u,H a=some u/\OH K ρ H o u:=by
 cases o<;>first|exact h|cases m
theorem M3.lst{K ρ H}{l:List D}{a:Addr}(h:M3 K ρ H (.lst l) a):∃vs,H a=some (.lst vs)/\d7 K ρ H l vs:=by
 obtain⟨u,h1,h2⟩:=h;cases u<;>first|exact⟨_,h1,h2⟩|exact h2.elim
theorem M3.eE{K ρ H}{l:List (Key×D)}{a:Addr}(h:M3 K ρ H (.eE l) a):∃vs,H a=some (.dK vs)/\l6 K ρ H l vs:=by
 obtain⟨u,h1,h2⟩:=h;cases u<;>first|exact⟨_,h1,h2⟩|exact h2.elim
theorem M3.set{K ρ H}{S:Int->Bool}{n:Nat}{a:Addr}(h:M3 K ρ H (.set S n) a):H a=some (.set S n):=by
 obtain⟨u,h1,h2⟩:=h;cases u<;>first|(obtain⟨rfl,rfl⟩:=(show _/\_ from h2);exact h1)|exact h2.elim
theorem M3.ins{K ρ H}{c:Str}{fs:List (Str×D)}{a:Addr}(h:M3 K ρ H (.ins c fs) a):∃C dx vs,H a=some (.ins C dx vs)/\x2 K c C/\kK K C/\l6 K ρ H fs vs/\∀x∈fs,E8 K C x.1:=by
 obtain⟨u,h1,h2⟩:=h;cases u<;>first|exact⟨_,_,_,h1,h2⟩|exact h2.elim
structure Rl(K:PySem.W.Frag)(ρ:List Addr)(g:G)(H:Hp):Prop where
 len:ρ.length=g.length
 obj:∀(i:Nat) o a,g[i]?=some o->ρ[i]?=some a->M3 K ρ H o a
 nd:∀(i j:Nat) o o' a,g[i]?=some o->g[j]?=some o'->o.mut=true->o'.mut=true->ρ[i]?=some a->ρ[j]?=some a->i=j
section
variable{ρ:List Addr}
theorem Rl.lst(R:Rl K ρ g H){i:Nat}{l:List D}{a:Addr}(h:g[i]?=some (.lst l))(ha:ρ[i]?=some a):∃vs,H a=some (.lst vs)/\d7 K ρ H l vs:=(R.obj _ _ _ h ha).lst
theorem Rl.eE(R:Rl K ρ g H){i:Nat}{l:List (Key×D)}{a:Addr}(h:g[i]?=some (.eE l))(ha:ρ[i]?=some a):∃vs,H a=some (.dK vs)/\l6 K ρ H l vs:=(R.obj _ _ _ h ha).eE
theorem Rl.set(R:Rl K ρ g H){i:Nat}{S:Int->Bool}{n:Nat}{a:Addr}(h:g[i]?=some (.set S n))(ha:ρ[i]?=some a):H a=some (.set S n):=(R.obj _ _ _ h ha).set
theorem Rl.ins(R:Rl K ρ g H){i:Nat}{c:Str}{fs:List (Str×D)}{a:Addr}(h:g[i]?=some (.ins c fs))(ha:ρ[i]?=some a):∃C dx vs,H a=some (.ins C dx vs)/\x2 K c C/\kK K C/\l6 K ρ H fs vs/\∀x∈fs,E8 K C x.1:=(R.obj _ _ _ h ha).ins
theorem Rl.items(R:Rl K ρ g H)(h:d8 g i=some l)(ha:ρ[i]?=some a):∃vs,fO K H a vs/\d7 K ρ H l vs:=by
 cases e:g[i]? with
 |none=>rw[d8,e] at h;cases h
 |some o =>
  rw[d8,e] at h;have q:=R.obj _ _ _ e ha;cases o with
  |lst m=>cases h;obtain⟨vs,z,r⟩:=q.lst;exact⟨vs,fO.of z,r⟩
  |qb m=>cases h;obtain⟨vs,z,r⟩:=q;exact⟨vs,z.sq,r⟩
  |_=>cases h
theorem E4{o:HO}(hp:H p=none):Ext ρ H ρ (upd H p o):=⟨⟨[],by simp⟩,λa xs h=>by rw[i9 (p9 h hp)];exact h⟩
theorem uQ.upd{p a:Addr}{o:HO}{vs:List V}(h:uQ K H a vs)(hp:∀ob u,H p≠some (.kB ob u)):uQ K (upd H p o) a vs:=by
 rcases h with⟨ob,z⟩|z
 ·refine .inl ⟨ob,?_⟩;rw[i9 ?_]
  ·exact z
  ·intro e;subst e;exact hp _ _ z
 ·exact .inr z
theorem M3.upd{p a:Addr}{o:O}{u:HO}{bJ:List Addr}(h:M3 K ρ H o a)(ff:o.mut=true->a≠p)(hp:∀ob u,H p≠some (.kB ob u))(e:Ext ρ H bJ (L2.upd H p u)):M3 K bJ (L2.upd H p u) o a:=by
 cases hm:o.mut with
 |true =>
  obtain⟨u',h1,h2⟩:=h.inv hm;exact .of (by rw[i9 (ff hm)];exact h1) (h2.ext e)
 |false =>
  cases o<;>first|cases hm|skip
  obtain⟨vs,z,r⟩:=h;exact⟨vs,z.upd hp,r.ext e⟩
theorem Rl.grow{o:HO}(R:Rl K ρ g H)(hp:H p=none):Rl K ρ g (upd H p o):=by
 have e:Ext ρ H ρ (upd H p o):=E4 hp;refine⟨R.len,λi ob a h1 h2=>?_,R.nd⟩;have q:=R.obj _ _ _ h1 h2;refine q.upd (λhm=>?_) (λob u z=>by rw[hp] at z;cases z) e;obtain⟨u,h1,_⟩:=q.inv hm;exact p9 h1 hp
theorem Rl.K6(R:Rl K ρ g H)(p:Addr):(ρ++[p])[g.length]?=some p:=by rw[<- R.len];simp
theorem X2{o:HO}(hp:H p=none):Ext ρ H (ρ++[p]) (upd H p o):=⟨⟨[p],rfl⟩,(E4 (ρ:=ρ) hp).tup⟩
theorem Rl.new(R:Rl K ρ g H)(hp:H p=none)(r:OH K ρ H o u):Rl K (ρ++[p]) (g++[o]) (upd H p u):=by
 have e:Ext ρ H (ρ++[p]) (upd H p u):=X2 hp;have old:∀{i:Nat} {ob:O} {a:Addr},g[i]?=some ob->(ρ++[p])[i]?=some a->ρ[i]?=some a:=λ{i ob a} h1 h2=>by
  rw[aK (by rw[R.len];exact(ak.mp h1).1)] at h2;exact h2
 have split:∀{i:Nat} {ob:O},(g++[o])[i]?=some ob->g[i]?=some ob\/(i=g.length/\ob=o):=λ{i ob} h=>by
  rcases dw i g.length with q|q|q
  ·rw[aK q] at h;exact .inl h
  ·subst q;simp at h;exact .inr ⟨rfl,h.symm⟩
  ·rw[aQ (by simp;omega)] at h;cases h
 refine⟨by simp[R.len],λi ob a h1 h2=>?_,λi j o1 o2 a h1 h2 m1 m2 h3 h4=>?_⟩
 ·rcases split h1 with q|⟨rfl,rfl⟩
  ·have z:=R.obj _ _ _ q (old q h2);refine z.upd (λhm=>?_) (λob u z=>by rw[hp] at z;cases z) e;obtain⟨u,h1,_⟩:=z.inv hm;exact p9 h1 hp
  ·rw[R.K6] at h2;cases h2;exact .of x8 (r.ext e)
 ·have nq:∀{i:Nat} {o:O} {a:Addr},g[i]?=some o->o.mut=true->ρ[i]?=some a->a≠p:=λ{i o a} h1 hm h2=>by
   obtain⟨u,z,_⟩:=(R.obj _ _ _ h1 h2).inv hm;exact p9 z hp
  rcases split h1 with q|⟨rfl,_⟩
  ·rcases split h2 with q'|⟨rfl,_⟩
   ·exact R.nd _ _ _ _ _ q q' m1 m2 (old q h3) (old q' h4)
   ·rw[R.K6] at h4;cases h4;exact absurd rfl (nq q m1 (old q h3))
  ·rcases split h2 with q'|⟨rfl,_⟩
   ·rw[R.K6] at h3;cases h3;exact absurd rfl (nq q' m2 (old q' h4))
   ·rfl
theorem Rl.alloc(R:Rl K ρ g H)(hp:H p=none)(r:d7 K ρ H l vs):Rl K (ρ++[p]) (g++[.lst l]) (upd H p (.lst vs)):=R.new hp r
theorem Rl.put{o':O}(R:Rl K ρ g H)(h:g[i]?=some o)(hm:o.mut=true)(ha:ρ[i]?=some a)(r:OH K ρ H o' u) :
  Rl K ρ (g.set i o') (upd H a u)/\Ext ρ H ρ (upd H a u):=by
 obtain⟨u0,z0,HE⟩:=(R.obj _ _ _ h ha).inv hm;have e:Ext ρ H ρ (upd H a u):=⟨⟨[],by simp⟩,λb xs q=>by rw[i9];exact q;intro z;subst z;rw[z0] at q;cases q;exact HE.uX⟩
 refine⟨⟨by simp[R.len],λj ob b h1 h2=>?_,λj k o1 o2 b h1 h2 m1 m2 h3 h4=>?_⟩,e⟩
 ·by_cases jn:i=j
  ·subst jn;rw[ha] at h2;cases h2;have hi:i<g.length:=(ak.mp h).1;rw[bf hi] at h1;cases h1;exact .of x8 (r.ext e)
  ·rw[aA jn] at h1;refine(R.obj _ _ _ h1 h2).upd (λou ez=>?_) (λob u z=>by rw[z0] at z;cases z;exact HE.Zy) e;subst ez;exact jn (R.nd _ _ _ _ _ h h1 hm ou ha h2)
 ·have back:∀{j:Nat} {m:O},(g.set i o')[j]?=some m->m.mut=true->∃m',g[j]?=some m'/\m'.mut=true:=λ{j m} q ou=>by
   by_cases jn:i=j
   ·subst jn;exact⟨o,h,hm⟩
   ·rw[aA jn] at q;exact⟨m,q,ou⟩
  obtain⟨_,q1,n1⟩:=back h1 m1;obtain⟨_,q2,n2⟩:=back h2 m2;exact R.nd _ _ _ _ _ q1 q2 n1 n2 h3 h4
theorem Rl.write{l':List D}(R:Rl K ρ g H)(h:g[i]?=some (.lst l))(ha:ρ[i]?=some a)(r:d7 K ρ H l' vs) :
  Rl K ρ (g.set i (.lst l')) (upd H a (.lst vs))/\Ext ρ H ρ (upd H a (.lst vs)):=R.put h rfl ha r
end
structure v8(K:PySem.W.Frag)(ρ:List Addr)(H:Hp)(Z:S)(cj:St):Prop where
 len:Z.length=cj.length
 val:∀(i:Nat) d,Z[i]?=some (some d)->∃v,cj[i]?=some (some v)/\f9 K ρ H d v
section
variable{ρ bJ:List Addr}{H':Hp}
theorem v8.ext{Z cj}(e:Ext ρ H bJ H')(r:v8 K ρ H Z cj):v8 K bJ H' Z cj:=⟨r.len,λi d h=>let ⟨v,a,b⟩:=r.val i d h;⟨v,a,b.ext e⟩⟩
theorem v8.set{Z cj d v}(r:v8 K ρ H Z cj)(i:Nat)(h:f9 K ρ H d v):v8 K ρ H (Z.set i (some d)) (cj.set i (some v)):=by
 refine⟨by simp[r.len],λj e q=>?_⟩;by_cases jn:i=j
 ·subst jn;have hi:i<Z.length:=by
   have:=(ak.mp q).1;simpa using this
  rw[bf hi] at q;cases q;exact⟨v,by rw[bf (by rw[<- r.len];exact hi)],h⟩
 ·rw[aA jn] at q ⊢;exact r.val j e q
theorem v8.start{ds vs}{n:Nat}(r:d7 K ρ H ds vs):v8 K ρ H (ds.map some++List.replicate (n-ds.length) none) (vs.map some++List.replicate (n-vs.length) none):=by
 refine⟨by simp[r.length],λi d h=>?_⟩;by_cases hi:i<ds.length
 ·rw[aK (by simpa using hi),aj] at h;cases e:ds[i]? with
  |none=>rw[e] at h;cases h
  |some x =>
   rw[e] at h;cases h;obtain⟨v,h1,h2⟩:=r.get e;refine⟨v,?_,h2⟩;rw[aK (by rw[ai,<- r.length];exact hi),aj,h1]
   rfl
 ·rw[cC (by simpa using hi),dN] at h;split at h<;>cases h
theorem v8.f7{Z cj}(r:v8 K ρ H Z cj)(f7:List Nat)(n:Nat):v8 K ρ H (H9 Z f7 n) (F7 cj f7 n):=by
 refine⟨by simp[H9,F7],λi d h=>?_⟩;unfold H9 at h;unfold F7;by_cases hi:i<f7.length
 ·rw[aK (by simpa using hi),aj,ao hi] at h;rw[aK (by simpa using hi),aj,ao hi];simp only[Option.map_some] at h ⊢;cases e:Z[f7[i]]? with
  |none=>rw[e] at h;cases h
  |some x =>
   rw[e] at h;have hx:x=some d:=aR h;subst hx;obtain⟨v,h1,h2⟩:=r.val _ _ e;exact⟨v,by rw[h1];rfl,h2⟩
 ·rw[cC (by simpa using hi),dN] at h;split at h<;>cases h
end
end M
namespace M
open PySem L2 PySem.Spec PyProof.Rows
variable{g:G}{l:List D}{vs:List V}{b:Bool}{d:D}{X:Cx}{ρ:List Addr}{H:Hp}{Z:L2.St}{s:Shared}{v x:V}
def LQ(K:PySem.W.Frag)(ρ:List Addr)(H:Hp)(Q:VK):KD:=λd g'=>∀bJ H' v,Ext ρ H bJ H'->Rl K bJ g' H'->f9 K bJ H' d v->Q v H'
theorem LQ.ext{K ρ H bV H1 Q d g}(e:Ext ρ H bV H1)(h:LQ K ρ H Q d g):LQ K bV H1 Q d g:=λbJ H' v e' R r=>h bJ H' v (e.trans e') R r
theorem LQ.now{K ρ H Q d g v}(h:LQ K ρ H Q d g)(R:Rl K ρ g H)(r:f9 K ρ H d v):Q v H:=h ρ H v (.refl _ _) R r
theorem LQ.new{K ρ H Q}{p:Addr}(h:LQ K ρ H Q (.ref g.length) (g++[.lst l]))(R:Rl K ρ g H)(hp:H p=none)(r:d7 K ρ H l vs):Q (.ref p) (upd H p (.lst vs)) :=
 h (ρ++[p]) _ _ (X2 hp) (R.alloc hp r) (.ref (R.K6 p))
theorem LQ.tup{K ρ H Q}{g:G}{l:List D}{vs:List V}{p:Addr}(h:LQ K ρ H Q (.tup l) g)(R:Rl K ρ g H)(hp:H p=none)(r:d7 K ρ H l vs):Q (.ref p) (upd H p (.tup vs)) :=
 h ρ _ _ (E4 hp) (R.grow hp) (.tup (.inl x8) (r.ext (E4 hp)))
def r2(K:PySem.W.Frag)(p:Pr):R2:=λx y H Q=>∃d e g ρ,Rl K ρ g H/\f9 K ρ H d x/\f9 K ρ H e y/\cF p [d,e] g (LQ K ρ H Q)
def r1(K:PySem.W.Frag)(p:Pr):V->Hp->VK->Prop:=λx H Q=>∃d g ρ,Rl K ρ g H/\f9 K ρ H d x/\cF p [d] g (LQ K ρ H Q)
def rN(K:PySem.W.Frag)(p:Pr):List V->Hp->VK->Prop:=λxs H Q=>∃ds g ρ,Rl K ρ g H/\d7 K ρ H ds xs/\cF p ds g (LQ K ρ H Q)
theorem v9{n:Nat}(h:n<=100000):n<=sizeLine:=aG h ∅
theorem EF{n:Nat}(h:n<100000):n<sizeLine:=aC h ∅
theorem f9.k9{K ρ H i v}(h:f9 K ρ H (.int i) v):v=.int i:=by cases h;rfl
theorem f9.J6{K ρ H i v}(h:f9 K ρ H (.str i) v):v=.str i:=by cases h;rfl
theorem f9.P0{K ρ H i v}(h:f9 K ρ H (.bl i) v):v=.bl i:=by cases h;rfl
theorem f9.zQ{K ρ H v}(h:f9 K ρ H .br v):v=.br:=by cases h;rfl
theorem f9.bJ0{K ρ H n v}(h:f9 K ρ H (.ty n) v):v=.ty n:=by cases h;rfl
theorem f9.m9{K ρ H i v}(h:f9 K ρ H (.ref i) v):∃a,v=.ref a/\ρ[i]?=some a:=by cases h;exact⟨_,rfl,by assumption⟩
theorem f9.S1{K ρ H l v}(h:f9 K ρ H (.tup l) v):∃a vs,v=.ref a/\TupAt K H a vs/\d7 K ρ H l vs:=by cases h;exact⟨_,_,rfl,by assumption,by assumption⟩
theorem d7.one{K ρ H d vs}(h:d7 K ρ H [d] vs):∃v,vs=[v]/\f9 K ρ H d v:=by
 cases h with
 |cons r rr=>cases rr;exact⟨_,rfl,r⟩
theorem d7.two{K ρ H d e vs}(h:d7 K ρ H [d,e] vs):∃v w,vs=[v,w]/\f9 K ρ H d v/\f9 K ρ H e w:=by
 cases h with
 |cons r rr=>obtain⟨w,rfl,q⟩:=rr.one;exact⟨_,_,rfl,r,q⟩
theorem F1{a b c:D}(h:[a,b]=[c,d]):a=c/\b=d:=by cases h;exact⟨rfl,rfl⟩
section
theorem bD1(op:Operator):fY X (binaryOp op) (r2 X.K (.bin op)):=by
 intro pins s Z H x y v u Q I rx ry h;obtain⟨d,e,g,ρ,R,rd,re,d',g',h,q⟩:=h;rcases h with⟨i,j,r,ex,ha,rfl,rfl⟩|⟨rfl,h⟩
 ·obtain⟨rfl,rfl⟩:=F1 ex;obtain rfl:=rd.k9;obtain rfl:=re.k9;have fin:=q.now R (.int r);cases op<;>first|exact(show False from ha).elim|skip
  ·cases ha;exact bD3 pins s Z H _ _ v u Q I rx ry ⟨i,j,rfl,rfl,fin⟩
  ·cases ha;exact bC4 pins s Z H _ _ v u Q I rx ry ⟨i,j,rfl,rfl,fin⟩
  ·obtain⟨hc,rfl⟩:=ha;exact bC7 pins s Z H _ _ v u Q I rx ry ⟨i,j,rfl,rfl,hc,fin⟩
  ·obtain⟨hc,rfl⟩:=ha;exact bC8 pins s Z H _ _ v u Q I rx ry ⟨i,j,rfl,rfl,hc,fin⟩
  ·obtain⟨hc,rfl⟩:=ha;exact bC6 pins s Z H _ _ v u Q I rx ry ⟨i,j,rfl,rfl,hc,fin⟩
  ·obtain⟨hc,rfl⟩:=ha;exact bC5 pins s Z H _ _ v u Q I rx ry ⟨i,j,rfl,rfl,hc,fin⟩
  ·cases ha;exact ZF pins s Z H _ _ v u Q I rx ry ⟨i,j,rfl,rfl,fin⟩
  ·cases ha;exact bD2 pins s Z H _ _ v u Q I rx ry ⟨i,j,rfl,rfl,fin⟩
  ·obtain⟨hc,rfl⟩:=ha;exact Uv pins s Z H _ _ v u Q I rx ry ⟨i,j,rfl,rfl,hc,fin⟩
 ·rcases h with⟨l,m,ex,hz,rfl,rfl⟩|⟨a,b,l,m,ex,ha,hb,hz,rfl,rfl⟩|⟨x',y',ex,hz,rfl,rfl⟩
  ·obtain⟨rfl,rfl⟩:=F1 ex;obtain⟨a,vs,rfl,ta,rs⟩:=rd.S1;obtain⟨b,ws,rfl,tb,rt⟩:=re.S1;refine Wf pins s Z H _ _ v u Q I rx ry ⟨a,b,vs,ws,rfl,rfl,ta.sq,tb.sq,?_,λz=>?_,λz=>?_,λp hp=>q.tup R hp (rs.append rt)⟩
   ·rw[<- rs.length,<- rt.length];exact v9 hz
   ·subst z;cases rs;exact q.now R (.tup tb rt)
   ·subst z;cases rt;rw[fc] at q;exact q.now R (.tup ta rs)
  ·obtain⟨rfl,rfl⟩:=F1 ex;obtain⟨a',rfl,ra⟩:=rd.m9;obtain⟨b',rfl,rb⟩:=re.m9;obtain⟨vs,z1,rs⟩:=R.lst ha ra;obtain⟨ws,z2,rt⟩:=R.lst hb rb;exact bD0 pins s Z H _ _ v u Q I rx ry ⟨_,_,vs,ws,rfl,rfl,z1,z2,by rw[<- rs.length,<- rt.length];exact v9 hz,λp hp=>q.new R hp (rs.append rt)⟩
  ·obtain⟨rfl,rfl⟩:=F1 ex;obtain rfl:=rd.J6;obtain rfl:=re.J6;exact aU1 pins s Z H _ _ v u Q I rx ry ⟨_,_,rfl,rfl,v9 hz,q.now R (.str _)⟩
theorem ZG(op:UnaryOp):AY X (unaryOp op) (r1 X.K (.un op)):=by
 intro pins s Z H x v Q I rx h;obtain⟨d,g,ρ,R,rd,d',g',⟨rfl,i,ex,rfl,rfl⟩,q⟩:=h;cases ex;obtain rfl:=rd.k9;exact To pins s Z H _ v Q I rx ⟨_,rfl,q.now R (.int _)⟩
section
variable{pins:List (Addr×Obj)}
theorem Ln(I:Inv X pins Z H s)(R:Rl X.K ρ g H)(n:Nat)(ih:∀{d:D} {v:V} {u:Value} {p:PyData},rd g n d=some p->f9 X.K ρ H d v->RelV v u->∃as,Reads s.heap u p as/\p.depth<=n):∀{vs:List V} {us:List Value} {ps:List PyData},l.mapM (rd g n)=some ps->d7 X.K ρ H l vs->Vals vs us->∃as,ReadsAll s.heap us ps as/\PyData.depthAll ps<=n:=by
 induction l with
 |nil =>
  intro vs us ps h rs rv;cases rs;cases rv;simp at h;subst h;exact⟨_,.nil,cP _⟩
 |cons d l il =>
  intro vs us ps h rs rv;cases rs with
  |cons iS rs =>
   cases rv with
   |cons ru rv =>
    rw[List.mapM_cons] at h;cases e:rd g n d with
    |none=>rw[e] at h;cases h
    |some p =>
     rw[e] at h;cases e2:l.mapM (rd g n) with
     |none=>rw[e2] at h;cases h
     |some qs =>
      rw[e2] at h;cases h;obtain⟨as,q1,d1⟩:=ih e iS ru;obtain⟨bs,q2,d2⟩:=il e2 rs rv;refine⟨_,.cons q1 q2,?_⟩;simp only[PyData.depthAll];omega
theorem W3(I:Inv X pins Z H s)(R:Rl X.K ρ g H)(n:Nat):∀{d:D} {v:V} {u:Value} {p:PyData},rd g n d=some p->f9 X.K ρ H d v->RelV v u->∃as,Reads s.heap u p as/\p.depth<=n:=by
 induction n with
 |zero =>
  intro d v u p h r ru;cases r with
  |br=>simp only[rd] at h;cases h;cases ru;exact⟨_,.none,Nat.zero_le _⟩
  |bl b=>simp only[rd] at h;cases h;cases ru;exact⟨_,.bool b,Nat.zero_le _⟩
  |int i=>simp only[rd] at h;cases h;obtain⟨t,rfl⟩:=ru;exact⟨_,.int i t,Nat.zero_le _⟩
  |str x=>simp only[rd] at h;cases h;obtain⟨t,rfl⟩:=ru;exact⟨_,.str x t,Nat.zero_le _⟩
  |_=>simp only[rd] at h;cases h
 |succ n ih =>
  intro d v u p h r ru;cases r with
  |br=>simp only[rd] at h;cases h;cases ru;exact⟨_,.none,Nat.zero_le _⟩
  |bl b=>simp only[rd] at h;cases h;cases ru;exact⟨_,.bool b,Nat.zero_le _⟩
  |int i=>simp only[rd] at h;cases h;obtain⟨t,rfl⟩:=ru;exact⟨_,.int i t,Nat.zero_le _⟩
  |str x=>simp only[rd] at h;cases h;obtain⟨t,rfl⟩:=ru;exact⟨_,.str x t,Nat.zero_le _⟩
  |ty x=>simp only[rd] at h;cases h
  |ref ha =>
   rename_i i a;simp only[rd] at h;cases e:d8 g i with
   |none=>rw[e] at h;cases h
   |some l =>
    rw[e] at h;dsimp only at h;cases e2:l.mapM (rd g n) with
    |none=>rw[e2] at h;cases h
    |some ps =>
     rw[e2] at h;cases h;cases ru;obtain⟨vs,hq,rs⟩:=R.items e ha;obtain⟨bo,rv,p,hz⟩:=I.list hq;obtain⟨as,q,hd⟩:=Ln I R n ih e2 rs rv;obtain⟨o,ho,hc,k,sG⟩:=p.isList;refine⟨_,.list ho hc sG (by simpa using q),?_⟩;simp only[PyData.depth];omega
  |tup ht rs =>
   rename_i l a vs;simp only[rd] at h;cases e2:l.mapM (rd g n) with
   |none=>rw[e2] at h;cases h
   |some ps =>
    rw[e2] at h;cases h;cases ru;obtain⟨bo,rv,pt,hz⟩:=I.tuple ht.sq;obtain⟨as,q,hd⟩:=Ln I R n ih e2 rs rv;obtain⟨o,ho,hc,k,sG⟩:=id pt;refine⟨_,.tuple ho hc sG (by simpa using q),?_⟩;simp only[PyData.depth];omega
end
end
theorem Aa{α:Type}[BEq α][LawfulBEq α][DecidableEq α](a b:α):decide (a=b)=(a==b):=by
 by_cases e:a=b
 ·subst e;simp
 ·rw[aB e];exact(dH.mpr e).symm
theorem yb{K ρ H}{c:Key}(h:pG d=some c)(r:f9 K ρ H d v):v=kV c:=by
 cases r<;>first|(cases h;rfl)|cases h
theorem tK.some{K ρ H}{o:Option V}{d:D}(h:tK K ρ H (some d) o):∃v,o=some v/\f9 K ρ H d v:=by
 cases o with
 |none=>exact h.elim
 |some v=>exact⟨v,rfl,h⟩
theorem tK.isSome{K ρ H}{o:Option V}{d:Option D}(h:tK K ρ H d o):d.isSome=o.isSome:=by
 cases o<;>cases d<;>first|rfl|exact h.elim
theorem JG{pins:List (Addr×Obj)}{e:D}{y:V}{v u:Value}{Q:VK}(hu:X.A.units+100<cLine)(I:Inv X pins Z H s)(rx:RelV x v)(ry:RelV y u)(R:Rl X.K ρ g H)(iS:f9 X.K ρ H d x)(re:f9 X.K ρ H e y)(h:xn g d e b)(neg:Bool)(q:Q (.bl (xor neg b)) H):wpAny (model X.prog X.w) X.A (compareOp (if neg then .NotEq else .Eq) v u) (EP X pins Z Q) X.xe s:=by
 rcases h with⟨i,j,rfl,rfl,rfl⟩|⟨i,j,rfl,rfl,rfl⟩|⟨i,j,rfl,rfl,rfl⟩|⟨p,p',h1,h2,c1,c2,rfl⟩
 ·obtain rfl:=iS.k9;obtain rfl:=re.k9;cases neg
  ·exact FZ pins s Z H _ _ v u Q I rx ry ⟨rfl,by rw[Ab];simpa[Aa] using q⟩
  ·exact Ga pins s Z H _ _ v u Q I rx ry ⟨rfl,by rw[Ab];simpa[Aa] using q⟩
 ·obtain rfl:=iS.P0;obtain rfl:=re.P0;cases neg
  ·exact FZ pins s Z H _ _ v u Q I rx ry ⟨rfl,by rw[zO];simpa using q⟩
  ·exact Ga pins s Z H _ _ v u Q I rx ry ⟨rfl,by rw[zO];simpa using q⟩
 ·obtain rfl:=iS.J6;obtain rfl:=re.J6;cases neg
  ·exact FZ pins s Z H _ _ v u Q I rx ry ⟨rfl,by rw[Ac];simpa[Aa] using q⟩
  ·exact Ga pins s Z H _ _ v u Q I rx ry ⟨rfl,by rw[Ac];simpa[Aa] using q⟩
 ·obtain⟨as,q1,d1⟩:=W3 I R 6 h1 iS rx;obtain⟨bs,q2,d2⟩:=W3 I R 6 h2 re ry;have hr:X.A.units+min p.depth p'.depth<cLine:=by omega
  cases neg
  ·exact SeqAt.compareEq_reads q1 q2 c1 c2 hr ⟨.bl _,H,I,rfl,by simpa using q⟩
  ·exact SeqAt.compareNe_reads q1 q2 c1 c2 hr ⟨.bl _,H,I,rfl,by simpa using q⟩
theorem in_of{pins:List (Addr×Obj)}{e:D}{y:V}{v u:Value}{Q:VK}(hu:X.A.units+100<cLine)(I:Inv X pins Z H s)(rx:RelV x v)(ry:RelV y u)(R:Rl X.K ρ g H)(iS:f9 X.K ρ H d x)(re:f9 X.K ρ H e y)(h:inR g d e b)(neg:Bool)(q:Q (.bl (xor neg b)) H):wpAny (model X.prog X.w) X.A (compareOp (if neg then .NotIn else .In) v u) (EP X pins Z Q) X.xe s:=by
 rcases h with⟨a,kvs,c,rfl,ha,hc,rfl⟩|⟨l,ps,p,h0,h1,h2,c1,c2,rfl⟩
 ·obtain⟨a',rfl,ra⟩:=re.m9;obtain⟨vs,z,rs⟩:=R.eE ha ra;have:=yb hc iS;subst this;cases ry;rw[(rs.val c).isSome] at q;cases neg
  ·exact Xi () I (T7.k z) rx λs' I'=>⟨.bl _,H,I',rfl,by simpa using q⟩
  ·exact TR () I (T7.k z) rx λs' I'=>⟨.bl _,H,I',rfl,by simpa using q⟩
 ·obtain⟨as,q1,d1⟩:=W3 I R 6 h2 iS rx;cases e with
  |tup m =>
   cases h0;have h3:rd g 7 (.tup l)=some (.tuple ps):=by simp only[rd];rw[show l.mapM (rd g 6)=some ps from h1];rfl
   obtain⟨bs,q2,d2⟩:=W3 I R 7 h3 re ry;have hr:X.A.units+1+min (PyData.depthAll ps) p.depth<cLine:=by omega
   cases neg
   ·exact SeqAt.in_tuple_reads q2 q1 c1 c2 hr ⟨.bl _,H,I,rfl,by simpa using q⟩
   ·exact SeqAt.notIn_tuple_reads q2 q1 c1 c2 hr ⟨.bl _,H,I,rfl,by simpa using q⟩
  |ref a =>
   have h3:rd g 7 (.ref a)=some (.list ps):=by
    simp only[rd];rw[show d8 g a=some l from h0];dsimp only;rw[show l.mapM (rd g 6)=some ps from h1]
    rfl
   obtain⟨bs,q2,d2⟩:=W3 I R 7 h3 re ry;have hr:X.A.units+1+min (PyData.depthAll ps) p.depth<cLine:=by omega
   cases neg
   ·exact SeqAt.in_list_reads q2 q1 c1 c2 hr ⟨.bl _,H,I,rfl,by simpa using q⟩
   ·exact SeqAt.notIn_list_reads q2 q1 c1 c2 hr ⟨.bl _,H,I,rfl,by simpa using q⟩
  |_=>cases h0
theorem vf(hu:X.A.units+100<cLine)(op:CmpOp):fY X (compareOp op) (r2 X.K (.cmp op)):=by
 intro pins s Z H x y v u Q I rx ry h;obtain⟨d,e,g,ρ,R,iS,re,d',g',⟨x',y',b,ex,h,rfl,rfl⟩,q⟩:=h;obtain⟨rfl,rfl⟩:=F1 ex;have fin:=q.now R (.bl b);have pR:∀{P:Int->Int->Bool},(∃i j,d=.int i/\e=.int j/\b=P i j)->∃i j,x=.int i/\y=.int j/\b=P i j:=λhh=>by
  obtain⟨i,j,z1,z2,z3⟩:=hh;exact⟨i,j,(z1▸iS).k9,(z2▸re).k9,z3⟩
 cases op
 ·exact JG hu I rx ry R iS re h false (by simpa using fin)
 ·exact JG hu I rx ry R iS re h true (by simpa using fin)
 ·obtain⟨i,j,e1,e2,e3⟩:=pR (P:=λi j=>decide (i<j)) h;exact ZE pins s Z H _ _ v u Q I rx ry ⟨i,j,e1,e2,by subst e3;exact fin⟩
 ·obtain⟨i,j,e1,e2,e3⟩:=pR (P:=λi j=>decide (i<=j)) h;exact ZD pins s Z H _ _ v u Q I rx ry ⟨i,j,e1,e2,by subst e3;exact fin⟩
 ·obtain⟨i,j,e1,e2,e3⟩:=pR (P:=λi j=>decide (j<i)) h;exact ZC pins s Z H _ _ v u Q I rx ry ⟨i,j,e1,e2,by subst e3;exact fin⟩
 ·obtain⟨i,j,e1,e2,e3⟩:=pR (P:=λi j=>decide (j<=i)) h;exact ZA pins s Z H _ _ v u Q I rx ry ⟨i,j,e1,e2,by subst e3;exact fin⟩
 ·obtain⟨rfl,rfl⟩:=(show _/\_ from h)
  obtain rfl:=re.zQ;refine bC9 pins s Z H _ _ v u Q I rx ry ⟨rfl,?_⟩;have e:R9 d=decide (x=V.br):=by cases iS<;>simp[R9]
  rw[<- e];exact fin
 ·obtain⟨rfl,rfl⟩:=(show _/\_ from h)
  obtain rfl:=re.zQ;refine Uw pins s Z H _ _ v u Q I rx ry ⟨rfl,?_⟩;have e:R9 d=decide (x=V.br):=by cases iS<;>simp[R9]
  rw[<- e];exact fin
 ·rcases h with h|⟨a,S,n,i,rfl,ha,rfl,rfl⟩
  ·exact in_of hu I rx ry R iS re h false (by simpa using fin)
  ·obtain⟨a',rfl,ra⟩:=re.m9;obtain rfl:=iS.k9;exact a33 pins s Z H _ _ v u Q I rx ry ⟨i,a',S,n,rfl,rfl,R.set ha ra,fin⟩
 ·rcases h with h|⟨a,S,n,i,rfl,ha,rfl,hb⟩
  ·exact in_of hu I rx ry R iS re h true (by simpa using fin)
  ·obtain⟨a',rfl,ra⟩:=re.m9;obtain rfl:=iS.k9;exact aH0 pins s Z H _ _ v u Q I rx ry ⟨i,a',S,n,rfl,rfl,R.set ha ra,by rw[<- hb,vq];exact fin⟩
theorem empty_eq{K ρ H}(r:d7 K ρ H l vs):l.isEmpty=vs.isEmpty:=by cases r<;>rfl
theorem Ti{K:PySem.W.Frag}(R:Rl K ρ g H)(r:f9 K ρ H d x)(h:Jv g d b):Ec K x H b:=by
 rcases h with⟨rfl,rfl⟩|rfl|⟨i,rfl,rfl⟩|⟨l,rfl,rfl⟩|⟨a,l,rfl,hl,rfl⟩
 ·obtain rfl:=r.zQ;rfl
 ·obtain rfl:=r.P0;rfl
 ·obtain rfl:=r.k9;rfl
 ·obtain⟨a,vs,rfl,ht,rs⟩:=r.S1;exact .inr (.inl ⟨_,ht.sq,by rw[empty_eq rs]⟩)
 ·obtain⟨a',rfl,ha⟩:=r.m9;obtain⟨vs,hq,rs⟩:=R.items hl ha;exact .inl ⟨_,hq,by rw[empty_eq rs]⟩
theorem TH{K ρ H}{i:Int}(r:d7 K ρ H l vs)(h:gh l i=some d):∃v,gh vs i=some v/\f9 K ρ H d v:=by
 unfold gh at h ⊢;rw[<- r.length];cases e:lq l.length i with
 |none=>rw[e] at h;cases h
 |some j =>
  rw[e] at h;exact r.get h
theorem zT{K ρ H}{x:D}(R:Rl K ρ g H)(r:f9 K ρ H x v)(h:J8 g x=some l):∃a vs,v=.ref a/\d7 K ρ H l vs/\((∃i,x=.ref i/\ρ[i]?=some a)/\fO K H a vs\/x=.tup l/\TupAt K H a vs):=by
 cases r with
 |tup ht rs=>cases h;exact⟨_,_,rfl,rs,.inr ⟨rfl,ht⟩⟩
 |ref ha=>obtain⟨vs,hq,rs⟩:=R.items h ha;exact⟨_,_,rfl,rs,.inl ⟨⟨_,rfl,ha⟩,hq⟩⟩
 |_=>cases h
theorem Zh(hu:X.A.units+100<cLine):tW X (r2 X.K .ix):=by
 intro value slice pins s Z H x y v u Q I rx ry h hs;obtain⟨d,e,g,ρ,R,iS,re,d',g',⟨rfl,h⟩,q⟩:=h;rcases h with⟨x',l,i,ex,hl,ha⟩|⟨a,kvs,y',c,ex,ha,hc,hv⟩|⟨x',i,c,ex,h0,h1,rfl⟩
 ·obtain⟨rfl,rfl⟩:=F1 ex;obtain rfl:=re.k9;obtain⟨a,vs,rfl,rs,h⟩:=zT R iS hl;obtain⟨w,hw,fX⟩:=TH rs ha;rcases h with⟨_,hq⟩|⟨_,ht⟩
  ·exact Ui value slice pins s Z H _ _ v u Q I rx ry ⟨_,_,i,w,rfl,rfl,hq,hw,q.now R fX⟩ hs
  ·exact bF4 value slice pins s Z H _ _ v u Q I rx ry ⟨_,_,i,w,rfl,rfl,ht.sq,hw,q.now R fX⟩ hs
 ·obtain⟨rfl,rfl⟩:=F1 ex;obtain⟨a',rfl,ra⟩:=iS.m9;obtain⟨vs,z,rs⟩:=R.eE ha ra;have:=yb hc re;subst this;have q2:=rs.val c;rw[hv] at q2;obtain⟨w,hw,fX⟩:=q2.some;exact Uh () value slice pins s Z H _ _ v u Q I rx ry ⟨_,w,rfl,by have:=T7.k (k:=c) z;rw[hw] at this;exact this,q.now R fX⟩ hs
 ·obtain⟨rfl,rfl⟩:=F1 ex;obtain rfl:=iS.J6;obtain rfl:=re.k9;exact bF5 value slice pins s Z H _ _ v u Q I rx ry ⟨x',i,c,rfl,rfl,v9 h0,h1,q.now R (.str _)⟩ hs
def OV(K:PySem.W.Frag):V->Option Int->Option Int->Hp->VK->Prop:=λx lo hi H Q=>∃d g ρ d' g',Rl K ρ g H/\f9 K ρ H d x/\vD d lo hi g d' g'/\LQ K ρ H Q d' g'
theorem AR:yw X (OV X.K):=by
 intro pins s Z H x v vl vu lo hi sl Q I rx hs pl pu h;obtain⟨d,g,ρ,d',g',R,iS,h,q⟩:=h;rcases h with⟨l,rfl,rfl,rfl⟩|⟨a,l,rfl,hl,rfl,rfl⟩
 ·obtain⟨a,vs,rfl,ht,rs⟩:=iS.S1;refine Vh pins s Z H _ v vl vu lo hi sl Q I rx hs pl pu ⟨_,_,rfl,ht.sq,λz=>?_,λp hp=>q.tup R hp (rs.cut lo hi)⟩;refine q.now R (.tup ht ?_);have:=rs.cut lo hi;rw[z] at this;exact this
 ·obtain⟨a',rfl,ha⟩:=iS.m9;obtain⟨vs,hq,rs⟩:=R.items hl ha;exact Vg pins s Z H _ v vl vu lo hi sl Q I rx hs pl pu ⟨_,_,rfl,hq,λp hp=>q.new R hp (rs.cut lo hi)⟩
def XS(K:PySem.W.Frag):V->V->V->Hp->(Hp->Prop)->Prop:=λo i v H Q=>∃DP di dv g ρ,Rl K ρ g H/\f9 K ρ H DP o/\f9 K ρ H di i/\f9 K ρ H dv v/\Z2 DP di dv g (λg'=>∀bJ H',Ext ρ H bJ H'->Rl K bJ g' H'->Q H')
theorem SF(hu:X.A.units+100<cLine):Ea X (XS X.K):=by
 intro pins s Z H o i v ov iv u Q I ro ri rv h;obtain⟨DP,di,dv,g,ρ,R,r1,r2,r3,g',h,q⟩:=h;rcases h with⟨a,i',l,j,rfl,rfl,hl,hj,rfl⟩|⟨a,kvs,c,rfl,ha,hc,hz,rfl⟩
 ·obtain⟨a',rfl,ha⟩:=r1.m9;obtain rfl:=r2.k9;obtain⟨vs,z,rs⟩:=R.lst hl ha;obtain⟨R',e'⟩:=R.write hl ha (rs.set r3 j);exact set_list pins s Z H _ _ _ ov iv u Q I ro ri rv ⟨_,vs,_,j,rfl,rfl,z,by rw[<- rs.length];exact hj,q ρ _ e' R'⟩
 ·obtain⟨a',rfl,ra⟩:=r1.m9;obtain⟨vs,z,rs⟩:=R.eE ha ra;have:=yb hc r2;subst this;obtain⟨R',e'⟩:=R.put (o':=.eE (putD kvs c dv)) (u:=.dK (putK vs c v)) ha rfl ra (rs.put r3);cases ro;exact a66 () I (AB.k z (by rw[<- rs.length];exact EF hz)) ri rv λs' I'=>⟨_,I',q ρ _ e' R'⟩
theorem bE7:q9 X (.builtin "len") (rN X.K .len):=by
 intro pins s Z H xs us Q I r h;obtain⟨ds,g,ρ,R,rs,d',g',⟨rfl,h⟩,q⟩:=h;rcases h with⟨x,l,rfl,hl,rfl⟩|⟨a,kvs,rfl,ha,rfl⟩|⟨x,rfl,hz,rfl⟩
 ·obtain⟨v,rfl,rv⟩:=rs.one;obtain⟨a,vs,rfl,rl,h⟩:=zT R rv hl;refine aK5 pins s Z H _ us Q I r ⟨_,_,rfl,?_,by rw[<- rl.length];exact q.now R (.int _)⟩;exact h.imp (λz=>z.2) (λz=>z.2.sq)
 ·obtain⟨v,rfl,rv⟩:=rs.one;obtain⟨a',rfl,ra⟩:=rv.m9;obtain⟨vs,z,rk⟩:=R.eE ha ra;exact a76 pins s Z H _ us Q I r ⟨_,_,rfl,z,by rw[<- rk.length];exact q.now R (.int _)⟩
 ·obtain⟨v,rfl,rv⟩:=rs.one;obtain rfl:=rv.J6;exact aK4 pins s Z H _ us Q I r ⟨_,rfl,v9 hz,q.now R (.int _)⟩
theorem Uk(hc:X.calm=true):q9 X (.type "list") (rN X.K .list):=by
 intro pins s Z H xs us Q I r h;obtain⟨ds,g,ρ,R,rs,d',g',⟨x,l,rfl,hl,rfl,rfl⟩|⟨⟨⟩⟩,q⟩:=h;obtain⟨v,rfl,rv⟩:=rs.one;obtain⟨a,vs,rfl,rl,h⟩:=zT R rv hl;exact aK3 pins s Z H _ us Q I r ⟨_,_,rfl,h.imp (λz=>z.2) (λz=>z.2.sq),λp hp=>q.new R hp rl⟩
theorem a94:q9 X (.type "tuple") (rN X.K .tuple):=by
 intro pins s Z H xs us Q I r h;obtain⟨ds,g,ρ,R,rs,d',g',⟨x,l,rfl,hl,rfl,rfl⟩,q⟩:=h;obtain⟨v,rfl,rv⟩:=rs.one;obtain⟨a,vs,rfl,rl,h⟩:=zT R rv hl;refine aC0 pins s Z H _ us Q I r ⟨a,vs,rfl,?_⟩;exact h.imp (λz=>⟨z.2,λp hp=>q.tup R hp rl⟩) (λz=>⟨z.2.sq,q.now R (.tup z.2 rl)⟩)
theorem Ue:q9 X (.builtin "isinstance") (rN X.K .isin):=by
 intro pins s Z H xs us Q I r h;obtain⟨ds,g,ρ,R,rs,d',g',⟨x,c,b,rfl,hc,hb,rfl,rfl⟩,q⟩:=h;obtain⟨v,w,rfl,r1,r2⟩:=rs.two;obtain rfl:=r2.bJ0;have fin:=q.now R (.bl b);have go:∀(t:Value) (v:V),ik X.K H v t->PySem.W.kitOne X.K t (.type c)=some b->Vals [v,V.ty c] us->wpAny (model X.prog X.w) X.A (call (.builtin "isinstance") us) (EP X pins Z Q) X.xe s :=
  λt v ht hk r=>aN3 pins s Z H _ us Q I r ⟨v,t,c,b,rfl,ht,hk,fin⟩
 simp only[List.mem_cons,List.mem_nil_iff,or_false] at hc;cases r1 with
 |br=>refine go _ _ .br ?_ r;cases hb;rcases hc with rfl|rfl|rfl|rfl|rfl<;>rfl
 |bl y=>refine go _ _ (.bl y) ?_ r;cases hb;rcases hc with rfl|rfl|rfl|rfl|rfl<;>rfl
 |int y=>refine go _ _ (.int y) ?_ r;cases hb;rcases hc with rfl|rfl|rfl|rfl|rfl<;>rfl
 |str y=>refine go _ _ (.str y) ?_ r;cases hb;rcases hc with rfl|rfl|rfl|rfl|rfl<;>rfl
 |ty _=>cases hb
 |tup ht rs =>
  cases hb;rcases ht with ht|ht
  ·refine go _ _ (.tup ht) ?_ r;rcases hc with rfl|rfl|rfl|rfl|rfl<;>rfl
  ·obtain⟨o,bo,n,lk,kA,_⟩:=ht;obtain⟨u,w',rfl,ru,fX⟩:=vals2 r;cases (show w'=Value.type c from fX);cases ru;have hk:PySem.W.kitOne X.K (.type "tuple") (.type c)=some (c=="tuple"):=by rcases hc with rfl|rfl|rfl|rfl|rfl<;>rfl
   exact bY Oi I.hJ ⟨o,I.hJ _ _ lk,kA⟩ hk (λz=>nomatch z) λtk=>⟨.bl _,H,I.tok tk,rfl,fin⟩
 |@ref i a ha =>
  have wO:∃m,g'[i]?=some (.lst m)/\b=(c=="list"):=by
   simp only[tG] at hb;split at hb
   ·exact⟨_,by assumption,(aR hb).symm⟩
   ·cases hb
  obtain⟨m,e,rfl⟩:=wO;obtain⟨vs,z,_⟩:=R.lst e ha;refine go _ _ (.lst z) ?_ r;rcases hc with rfl|rfl|rfl|rfl|rfl<;>rfl
theorem aY0:∀{l:List D} {b:Bool},Y8 l=some b->∃bs:List Bool,l=bs.map D.bl/\b=bs.all id:=by
 intro l
 induction l with
 |nil=>intro b h;cases h;exact⟨[],rfl,rfl⟩
 |cons d r ih =>
  intro b h;cases d<;>first|(cases h;done)|skip
  rename_i c;simp only[Y8] at h;cases e:Y8 r with
  |none=>rw[e] at h;cases h
  |some b' =>
   rw[e] at h;cases h;obtain⟨bs,rfl,rfl⟩:=ih e;exact⟨c::bs,rfl,by simp⟩
theorem d7.Jx{K ρ H}:∀{bs:List Bool} {vs:List V},d7 K ρ H (bs.map D.bl) vs->vs=bs.map V.bl:=by
 intro bs
 induction bs with
 |nil=>intro vs h;cases h;rfl
 |cons b r ih =>
  intro vs h;cases h with
  |cons h rr=>rw[ih rr,h.P0];rfl
theorem bI2(hc:X.calm=true):q9 X (.builtin "all") (rN X.K .all):=by
 intro pins s Z H xs us Q I r h;obtain⟨ds,g,ρ,R,rs,d',g',⟨a,l,b,rfl,hl,hb,rfl,rfl⟩,q⟩:=h;obtain⟨v,rfl,rv⟩:=rs.one;obtain⟨a',rfl,ra⟩:=rv.m9;obtain⟨vs,hq,rs⟩:=R.items hl ra;rcases hb with hb|⟨ns,rfl,rfl⟩
 rotate_left
 ·have:=rs.ints;subst this;exact a78 hc pins s Z H _ us Q I r ⟨_,ns,rfl,hq,q.now R (.bl _)⟩
 obtain⟨bs,rfl,rfl⟩:=aY0 hb;have:=rs.Jx;subst this;exact a79 hc pins s Z H _ us Q I r ⟨_,bs,rfl,hq,q.now R (.bl _)⟩
theorem aX9:∀{l:List D} {b:Bool},Y6 l=some b->∃bs:List Bool,l=bs.map D.bl/\b=bs.any id:=by
 intro l
 induction l with
 |nil=>intro b h;cases h;exact⟨[],rfl,rfl⟩
 |cons d r ih =>
  intro b h;cases d<;>first|(cases h;done)|skip
  rename_i c;simp only[Y6] at h;cases e:Y6 r with
  |none=>rw[e] at h;cases h
  |some c' =>
   rw[e] at h;cases h;obtain⟨bs,rfl,rfl⟩:=ih e;exact⟨c::bs,rfl,rfl⟩
theorem bI0(hc:X.calm=true):q9 X (.builtin "any") (rN X.K .any):=by
 intro pins s Z H xs us Q I r h;obtain⟨ds,g,ρ,R,rs,d',g',⟨a,l,b,rfl,hl,hb,rfl,rfl⟩,q⟩:=h;obtain⟨bs,rfl,rfl⟩:=aX9 hb;obtain⟨v,rfl,rv⟩:=rs.one;obtain⟨a',rfl,ra⟩:=rv.m9;obtain⟨vs,hq,rs⟩:=R.items hl ra;have:=rs.Jx;subst this;exact a77 hc pins s Z H _ us Q I r ⟨_,bs,rfl,hq,q.now R (.bl _)⟩
theorem bE0(hc:X.calm=true):q9 X (.builtin "max") (rN X.K .max):=by
 intro pins s Z H xs us Q I r h;obtain⟨ds,g,ρ,R,rs,d',g',⟨rfl,⟨i,j,rfl,rfl⟩|⟨a,ns,M,rfl,hl,h1,h2,rfl⟩⟩,q⟩:=h
 rotate_left
 ·obtain⟨v,rfl,rv⟩:=rs.one;obtain⟨a',rfl,ra⟩:=rv.m9;obtain⟨vs,hq,rs⟩:=R.items hl ra;have:=rs.ints;subst this;exact a74 hc pins s Z H _ us Q I r ⟨_,ns,M,rfl,hq,h1,h2,q.now R (.int _)⟩
 obtain⟨v,w,rfl,r1,r2⟩:=rs.two;obtain rfl:=r1.k9;obtain rfl:=r2.k9;exact a75 hc pins s Z H _ us Q I r ⟨i,j,rfl,q.now R (.int _)⟩
theorem bD9(hc:X.calm=true)(hu:X.A.units+100<cLine):q9 X (.builtin "min") (rN X.K .min):=by
 intro pins s Z H xs us Q I r h;obtain⟨ds,g,ρ,R,rs,d',g',⟨rfl,⟨i,j,rfl,rfl⟩|⟨a,ns,M,rfl,hl,h1,h2,rfl⟩⟩,q⟩:=h
 rotate_left
 ·obtain⟨v,rfl,rv⟩:=rs.one;obtain⟨a',rfl,ra⟩:=rv.m9;obtain⟨vs,hq,rs⟩:=R.items hl ra;have:=rs.ints;subst this;exact a72 hc pins s Z H _ us Q I r ⟨_,ns,M,rfl,hq,h1,h2,q.now R (.int _)⟩
 obtain⟨v,w,rfl,r1,r2⟩:=rs.two;obtain rfl:=r1.k9;obtain rfl:=r2.k9;exact a73 hc pins s Z H _ us Q I r ⟨i,j,rfl,q.now R (.int _)⟩
theorem SV(hc:X.calm=true):q9 X (.builtin "sum") (rN X.K .sum):=by
 intro pins s Z H xs us Q I r h;obtain⟨ds,g,ρ,R,rs,d',g',h,q⟩:=h;obtain⟨a,ns,rfl,hl,rfl,rfl⟩:=h;obtain⟨v,rfl,rv⟩:=rs.one;obtain⟨a',rfl,ra⟩:=rv.m9;obtain⟨vs,hq,rs⟩:=R.items hl ra;have:=rs.ints;subst this;exact a71 hc pins s Z H _ us Q I r ⟨_,ns,rfl,hq,q.now R (.int _)⟩
theorem bF8:q9 X (.type "int") (rN X.K .int):=by
 intro pins s Z H xs us Q I r h;obtain⟨ds,g,ρ,R,rs,d',g',⟨rfl,h⟩,q⟩:=h;rcases h with⟨i,rfl,rfl⟩|⟨b,rfl,rfl⟩
 ·obtain⟨v,rfl,rv⟩:=rs.one;obtain rfl:=rv.k9;exact Nv pins s Z H _ us Q I r (.inl ⟨i,rfl,q.now R (.int _)⟩)
 ·obtain⟨v,rfl,rv⟩:=rs.one;obtain rfl:=rv.P0;exact Nv pins s Z H _ us Q I r (.inr ⟨b,rfl,q.now R (.int _)⟩)
def rM(K:PySem.W.Frag)(p:Pr):V->List V->Hp->VK->Prop:=λx xs H Q=>∃d ds g ρ,Rl K ρ g H/\f9 K ρ H d x/\d7 K ρ H ds xs/\cF p (d::ds) g (LQ K ρ H Q)
theorem Q2{a b:D}{m:List D}(h:a::l=b::m):a=b/\l=m:=by cases h;exact⟨rfl,rfl⟩
theorem Nm:mP X "list.append" (rM X.K .append):=by
 intro pins s Z H x xs v us Q I rx r h;obtain⟨d,ds,g,ρ,R,rd,rs,d',g',⟨a,y,l,ex,ha,hz,rfl,rfl⟩,q⟩:=h;obtain⟨rfl,rfl⟩:=Q2 ex;obtain⟨a',rfl,ra⟩:=rd.m9;obtain⟨w,rfl,fX⟩:=rs.one;obtain⟨vs,z1,rv⟩:=R.lst ha ra;obtain⟨R2,e2⟩:=R.write ha ra (rv.append (.cons fX .nil));exact a42 pins s Z H _ _ v us Q I rx r ⟨_,vs,_,rfl,rfl,z1,by rw[<- rv.length];exact EF hz,q ρ _ _ e2 R2 .br⟩
theorem VE:mP X "list.clear" (rM X.K .clear):=by
 intro pins s Z H x xs v us Q I rx r h;obtain⟨d,ds,g,ρ,R,rd,rs,d',g',⟨a,l,ex,ha,rfl,rfl⟩,q⟩:=h;obtain⟨rfl,rfl⟩:=Q2 ex;obtain⟨a',rfl,ra⟩:=rd.m9;cases rs;obtain⟨vs,z1,rv⟩:=R.lst ha ra;obtain⟨R2,e2⟩:=R.write ha ra (d7.nil);exact Wa pins s Z H _ _ v us Q I rx r ⟨_,vs,rfl,rfl,z1,q ρ _ _ e2 R2 .br⟩
theorem UI:mP X "list.pop" (rM X.K .rW):=by
 intro pins s Z H x xs v us Q I rx r h;obtain⟨d,ds,g,ρ,R,rd,rs,y,g',⟨a,l,ex,ha,rfl⟩,q⟩:=h;obtain⟨rfl,rfl⟩:=Q2 ex;obtain⟨a',rfl,ra⟩:=rd.m9;cases rs;obtain⟨vs,z1,rv⟩:=R.lst ha ra;obtain⟨w,hw,fX⟩:=rv.get (i:=l.length) (d:=y) (by simp);have hl:vs.length=l.length+1:=by rw[<- rv.length];simp
 have rl:d7 X.K ρ H l vs.dropLast:=by
  have:=rv.erase l.length;rw[List.eraseIdx_append_of_length_le (az _)] at this;rw[show vs.eraseIdx l.length=vs.dropLast by rw[List.eraseIdx_eq_dropLast];omega] at this;simpa using this
 obtain⟨R2,e2⟩:=R.write ha ra rl;exact bD7 pins s Z H _ _ v us Q I rx r ⟨_,vs,w,rfl,rfl,z1,by rw[hl];exact hw,q ρ _ _ e2 R2 (fX.ext e2)⟩
theorem bG5(hu:X.A.units+100<cLine):mP X "dict.get" (rM X.K .get):=by
 intro pins s Z H x xs v us Q I rx r h;obtain⟨d,ds,g,ρ,R,rd,rs,d',g',⟨a,y,z,kvs,c,ex,ha,hc,rfl,rfl⟩,q⟩:=h;obtain⟨rfl,rfl⟩:=Q2 ex;obtain⟨a',rfl,ra⟩:=rd.m9;obtain⟨w1,w2,rfl,r1,r2⟩:=rs.two;obtain⟨vs,z1,rv⟩:=R.eE ha ra;have:=yb hc r1;subst this;obtain⟨u1,u2,rfl,p1,p2⟩:=vals2 r;cases rx;refine bH3 () I (T7.k z1) p1 p2 λw' s4 I4 fX=>⟨_,H,I4,fX,q.now R ?_⟩
 have q:=rv.val c;cases e1:x4 kvs c with
 |none =>
  rw[e1] at q;cases e2:N9 vs c with
  |none=>exact r2
  |some w=>rw[e2] at q;exact q.elim
 |some d' =>
  rw[e1] at q;obtain⟨w,hw,q⟩:=q.some;rw[hw];exact q
theorem Ws:mP X "list.pop" (rM X.K .pop):=by
 intro pins s Z H x xs v us Q I rx r h;obtain⟨d,ds,g,ρ,R,rd,rs,y,g',⟨a,i,l,k,ex,ha,h1,h2,hk,hy,rfl⟩,q⟩:=h;obtain⟨rfl,rfl⟩:=Q2 ex;obtain⟨a',rfl,ra⟩:=rd.m9;obtain⟨w,rfl,fX⟩:=rs.one;obtain rfl:=fX.k9;obtain⟨vs,z1,rv⟩:=R.lst ha ra;obtain⟨w,hw,fX⟩:=rv.get hy;obtain⟨R2,e2⟩:=R.write ha ra (rv.erase k);exact Wb pins s Z H _ _ v us Q I rx r ⟨_,vs,i,k,w,rfl,rfl,z1,h1,h2,by rw[<- rv.length];exact hk,hw,q ρ _ _ e2 R2 (fX.ext e2)⟩
theorem d7.strs{K ρ H}{ys:List Str}(h:d7 K ρ H (ys.map D.str) vs):vs=ys.map V.str:=by
 induction ys generalizing vs with
 |nil=>cases h;rfl
 |cons y ys ih =>
  cases h with
  |cons q r=>cases q;rw[ih r];rfl
theorem ty_list(R:Rl X.K ρ g H)(r:f9 X.K ρ H d v)(h:∃a l,d=.ref a/\d8 g a=some l):oU X.K "list" v H:=by
 obtain⟨a,l,rfl,hl⟩:=h;obtain⟨a',rfl,ra⟩:=r.m9;obtain⟨vs,hq,_⟩:=R.items hl ra;exact .inl ⟨rfl,vs,hq⟩
theorem US:mP X "set.add" (rM X.K .kU):=by
 intro pins s Z H x xs v us Q I rx r h;obtain⟨d,ds,g,ρ,R,rd,rs,d',g',⟨a,i,S,n,ex,ha,hn,rfl,rfl⟩,q⟩:=h;obtain⟨rfl,rfl⟩:=Q2 ex;obtain⟨a',rfl,ra⟩:=rd.m9;obtain⟨w,rfl,fX⟩:=rs.one;obtain rfl:=fX.k9;obtain⟨R2,e2⟩:=R.put (o':=.set (λk=>S k||decide (k=i)) (if S i then n else n+1)) (u:=.set (λk=>S k||decide (k=i)) (if S i then n else n+1)) ha rfl ra ⟨rfl,rfl⟩;exact aU4 pins s Z H _ _ v us Q I rx r ⟨_,i,S,n,rfl,rfl,R.set ha ra,hn,q ρ _ _ e2 R2 .br⟩
theorem ty_set(R:Rl X.K ρ g H)(r:f9 X.K ρ H d v)(h:mD .kU d g):oU X.K "set" v H:=by
 obtain⟨a,S,n,rfl,hl⟩:=h;obtain⟨a',rfl,ra⟩:=r.m9;exact .inr (.inr (.inr ⟨rfl,S,n,R.set hl ra⟩))
theorem ty_dict(R:Rl X.K ρ g H)(r:f9 X.K ρ H d v)(h:mD .get d g):oU X.K "dict" v H:=by
 obtain⟨a,l,rfl,hl⟩:=h;obtain⟨a',rfl,ra⟩:=r.m9;obtain⟨vs,hq,_⟩:=R.eE hl ra;exact .inr (.inr (.inl ⟨rfl,.inl ⟨vs,hq⟩⟩))
noncomputable abbrev ij:=List Str×XK
def LX(K:PySem.W.Frag)(ρ:List Addr)(H:Hp)(Ξ:ij):KX:=λx g'=>∀bJ H' C,Ext ρ H bJ H'->Rl K bJ g' H'->x.cls∈Ξ.1->x2 K x.cls C->Ξ.2 (.ref C) none H'
theorem LX.ext{K:PySem.W.Frag}{bV:List Addr}{H1:Hp}{Ξ:ij}(e:Ext ρ H bV H1){x:Xn}(h:LX K ρ H Ξ x g):LX K bV H1 Ξ x g:=λbJ H' C e' R hm c=>h bJ H' C (e.trans e') R hm c
noncomputable abbrev nL(ex:List Str):ij:=(ex,λ_ _ _=>False)
def LE(K:PySem.W.Frag)(Ξ:ij)(t:S->G->KD->KX->Prop):TE:=λcj H Q=>∃Z g ρ,v8 K ρ H Z cj/\Rl K ρ g H/\t Z g (LQ K ρ H Q) (LX K ρ H Ξ)
def LT(K:PySem.W.Frag)(Ξ:ij)(t:S->G->(Bool->G->Prop)->KX->Prop):TT:=λcj H Q=>∃Z g ρ,v8 K ρ H Z cj/\Rl K ρ g H/\t Z g (λb g'=>∀bJ H',Ext ρ H bJ H'->Rl K bJ g' H'->Q b H') (LX K ρ H Ξ)
def LA(K:PySem.W.Frag)(Ξ:ij)(t:S->G->(List D->G->Prop)->KX->Prop):TA:=λcj H Q=>∃Z g ρ,v8 K ρ H Z cj/\Rl K ρ g H/\t Z g (λds g'=>∀bJ H' vs,Ext ρ H bJ H'->Rl K bJ g' H'->d7 K bJ H' ds vs->Q vs H') (LX K ρ H Ξ)
def pC(K:PySem.W.Frag)(gQ:List Addr)(H0:Hp)(k:IK)(J:It):Prop:=∀ρ g H,Ext gQ H0 ρ H->Rl K ρ g H->∀i,(k.at i g=some none->J.stop i H) /\
 ∀d,k.at i g=some (some d)->J.go i H/\∀v H',J.rH i H v H'->Ext ρ H ρ H'/\Rl K ρ g H'/\f9 K ρ H' d v
def LI(K:PySem.W.Frag)(Ξ:ij)(t:S->G->(IK->G->Prop)->KX->Prop):TI:=λcj H R=>∃Z g ρ,v8 K ρ H Z cj/\Rl K ρ g H/\t Z g (λk g'=>∀bJ H' J,Ext ρ H bJ H'->Rl K bJ g' H'->pC K bJ H' k J->R J H') (LX K ρ H Ξ)
def LG(K:PySem.W.Frag)(t:MT):TG:=λv cj H Q=>∃d Z g ρ,v8 K ρ H Z cj/\Rl K ρ g H/\f9 K ρ H d v/\jT t d Z (λbU=>∀dz,v8 K ρ H bU dz->Q dz H)
def LN(K:PySem.W.Frag)(ρ:List Addr)(H:Hp)(N:L2.Ends):Ends where
 nx:=λbU g'=>∀bJ H' dz,Ext ρ H bJ H'->Rl K bJ g' H'->v8 K bJ H' bU dz->N.nx dz H'
 rt:=LQ K ρ H N.rt
 bk:=λbU g'=>∀bJ H' dz,Ext ρ H bJ H'->Rl K bJ g' H'->v8 K bJ H' bU dz->N.bk dz H'
 ct:=λbU g'=>∀bJ H' dz,Ext ρ H bJ H'->Rl K bJ g' H'->v8 K bJ H' bU dz->N.ct dz H'
def LS(K:PySem.W.Frag)(Ξ:ij)(t:Ends->S->G->KX->Prop):TS:=λN cj H=>∃Z g ρ,v8 K ρ H Z cj/\Rl K ρ g H/\t (LN K ρ H N) Z g (LX K ρ H Ξ)
end M
namespace L2
open PySem PySem.Spec PyProof.Rows
variable{t t':TT}
section
variable{X:Cx}{e:Expr}
theorem PE.imp{t t':TE}(h:PE X e t)(i:∀Z H Q,t' Z H Q->t Z H Q):PE X e t':=λpins s Z H Q I q=>h pins s Z H Q I (i Z H Q q)
theorem PT.imp(h:PT X e t)(i:∀Z H Q,t' Z H Q->t Z H Q):PT X e t':=λpins s Z H Q I q=>h pins s Z H Q I (i Z H Q q)
theorem PW.imp(h:PW X e t)(i:∀Z H Q,t' Z H Q->t Z H Q):PW X e t':=λw pins s Z H Q I q=>h w pins s Z H Q I (i Z H Q q)
theorem PA.imp{es:List Expr}{t t':TA}(h:PA X es t)(i:∀Z H Q,t' Z H Q->t Z H Q):PA X es t':=λp pins s Z H Q I q=>h p pins s Z H Q I (i Z H Q q)
theorem mO.imp{es:List Expr}(h:mO X es t)(i:∀Z H Q,t' Z H Q->t Z H Q):mO X es t':=λpins s Z H Q I q=>h pins s Z H Q I (i Z H Q q)
theorem PI.imp{tg:Expr}{t t':TI}(h:PI X tg e t)(i:∀Z H Q,t' Z H Q->t Z H Q):PI X tg e t':=λpins s Z H Q I q=>h pins s Z H Q I (i Z H Q q)
theorem PG.imp{t t':TG}(h:PG X e t)(i:∀v Z H Q,t' v Z H Q->t v Z H Q):PG X e t':=λpins s Z H v u Q I r q=>h pins s Z H v u Q I r (i v Z H Q q)
theorem PS.imp{st:Stmt}{t t':TS}(h:PS X st t)(i:∀N Z H,t' N Z H->t N Z H):PS X st t':=λpins s Z H N I q=>h pins s Z H N I (i N Z H q)
theorem jL.imp{st:List Stmt}{t t':TS}(h:jL X st t)(i:∀N Z H,t' N Z H->t N Z H):jL X st t':=λpins s Z H N I q=>h pins s Z H N I (i N Z H q)
end
end L2
namespace M
open PySem L2 PySem.Spec PyProof.Rows
variable{Ξ:ij}{P:fj}{op iT:CmpOp}{rest es:List Expr}{iN mo:ME}{p2 q apos kr:Pos}{o:Expr}
section
variable{K:PySem.W.Frag}(hP:j9 P){ρ gQ:List Addr}{H H0:Hp}{Z:S}{cj:L2.St}{g:G}{m:ME}
include hP
theorem fK{Q0:KD}{Q:VK}(s:v8 K ρ H Z cj)(R:Rl K ρ g H)(e0:Ext gQ H0 ρ H)(h:aX P m Z g Q0 (LX K gQ H0 Ξ))(k:∀x g1 bV H1 v1,Ext ρ H bV H1->Rl K bV g1 H1->f9 K bV H1 x v1->Q0 x g1->Q v1 H1):LE K Ξ (aX P m) cj H Q :=
 ⟨Z,g,ρ,s,R,d5 hP m _ _ _ _ _ _ (λx g1 h bV H1 v1 e1 R1 r1=>k x g1 bV H1 v1 e1 R1 r1 h) (λ_ _ z=>LX.ext e0 z) h⟩
theorem kS{Q0:List D->G->Prop}{Q:List V->Hp->Prop}(s:v8 K ρ H Z cj)(R:Rl K ρ g H)(e0:Ext gQ H0 ρ H)(h:gw P m Z g Q0 (LX K gQ H0 Ξ))(k:∀x g1 bV H1 v1,Ext ρ H bV H1->Rl K bV g1 H1->d7 K bV H1 x v1->Q0 x g1->Q v1 H1):LA K Ξ (gw P m) cj H Q :=
 ⟨Z,g,ρ,s,R,B8 hP m _ _ _ _ _ _ (λx g1 h bV H1 v1 e1 R1 r1=>k x g1 bV H1 v1 e1 R1 r1 h) (λ_ _ z=>LX.ext e0 z) h⟩
theorem qt{Q0:Bool->G->Prop}{Q:Bool->Hp->Prop}(s:v8 K ρ H Z cj)(R:Rl K ρ g H)(e0:Ext gQ H0 ρ H)(h:dh P m Z g Q0 (LX K gQ H0 Ξ))(k:∀t g1 bV H1,Ext ρ H bV H1->Rl K bV g1 H1->Q0 t g1->Q t H1):LT K Ξ (dh P m) cj H Q :=
 ⟨Z,g,ρ,s,R,u7 hP m _ _ _ _ _ _ (λt g1 h bV H1 e1 R1=>k t g1 bV H1 e1 R1 h) (λ_ _ z=>LX.ext e0 z) h⟩
theorem ub{ms:MS}{N:L2.Ends}{N0:Ends}(s:v8 K ρ H Z cj)(R:Rl K ρ g H)(e0:Ext gQ H0 ρ H)(h:wpS P ms N0 Z g (LX K gQ H0 Ξ))(k:N0.le (LN K ρ H N)):LS K Ξ (wpS P ms) N cj H :=
 ⟨Z,g,ρ,s,R,wpS_mono hP ms _ _ _ _ _ _ k (λ_ _ z=>LX.ext e0 z) h⟩
end
theorem d7.nC{K ρ H}(lo:Int)(n:Nat):d7 K ρ H (k8 lo n) ((List.range n).map λ(k:Nat)=>V.int (lo+k)):=by
 unfold k8;have:∀l:List Nat,d7 K ρ H (l.map λ(k:Nat)=>D.int (lo+k)) (l.map λ(k:Nat)=>V.int (lo+k)):=by
  intro l
  induction l with
  |nil=>exact .nil
  |cons x r ih=>exact .cons (.int _) ih
 exact this _
section
variable{X:Cx}(hP:j9 P){a b c e:Expr}{ma mb mc:ME}{pos:Pos}{p:Pr}
include hP
theorem GJ(h:PE X e (uc (r2 X.K p) (LE X.K Ξ (aX P ma)) (LE X.K Ξ (aX P mb)))):PE X e (LE X.K Ξ (aX P (.prim p (.cons ma (.cons mb .nil))))) :=
 h.imp λcj H Q bq=>by
  obtain⟨Z,g,ρ,s,R,h⟩:=bq;exact fK hP s R (.refl _ _) h λx g1 bV H1 v1 e1 R1 r1 h=>fK hP (s.ext e1) R1 e1 h λy g2 fg H2 v2 e2 R2 r2 h =>
   ⟨x,y,g2,fg,R2,r1.ext e2,r2,y9 (λd g' h=>h.ext (e1.trans e2)) h⟩
theorem SS(h:PT X e (Gg (uc (r2 X.K (.cmp op)) (LE X.K Ξ (aX P ma)) (LE X.K Ξ (aX P mb))))):PT X e (LT X.K Ξ (dh P (.fo (.prim (.cmp op) (.cons ma (.cons mb .nil)))))) :=
 h.imp λcj H Q bq=>by
  obtain⟨Z,g,ρ,s,R,h⟩:=bq;refine fK hP s R (.refl _ _) h λx g1 bV H1 v1 e1 R1 r1 h=>fK hP (s.ext e1) R1 e1 h λy g2 fg H2 v2 e2 R2 r2 h=>?_;obtain⟨d',g',h,q⟩:=h;obtain⟨x',y',t,ex,hc,rfl,rfl⟩:=id h;refine⟨x,y,g',fg,R2,r1.ext e2,r2,_,_,h,λbJ H' v e' R' r'=>?_⟩;obtain⟨t',ht,q⟩:=q;rcases ht with⟨z,_⟩|z|⟨i,z,_⟩|⟨l,z,_⟩|⟨a,l,z,_⟩<;>cases z
  exact⟨_,r'.P0,q bJ H' (e1.trans (e2.trans e')) R'⟩
theorem ZZ{op:UnaryOp}(ha:PE X a (LE X.K Ξ (aX P ma))):PE X (.UnaryOp op a pos) (LE X.K Ξ (aX P (.prim (.un op) (.cons ma .nil)))) :=
 (ZN (ZG op) ha).imp λcj H Q bq=>by
  obtain⟨Z,g,ρ,s,R,h⟩:=bq;exact fK hP s R (.refl _ _) h λx g1 bV H1 v1 e1 R1 r1 h=>⟨x,g1,bV,R1,r1,y9 (λd g' h=>h.ext e1) h⟩
theorem MH:∀cj H Q,LE X.K Ξ (aX P (.chain op iT ma mb mc)) cj H Q->GL (r2 X.K (.cmp op)) (r2 X.K (.cmp iT)) (LE X.K Ξ (aX P ma)) (LE X.K Ξ (aX P mb)) (LE X.K Ξ (aX P mc)) cj H Q:=λcj H Q bq=>by
 obtain⟨Z,g,ρ,s,R,h⟩:=bq;refine fK hP s R (.refl _ _) h λx g1 bV H1 v1 e1 R1 r1 h=>fK hP (s.ext e1) R1 e1 h λy g2 fg H2 v2 e2 R2 r2 h=>?_;refine⟨x,y,g2,fg,R2,r1.ext e2,r2,y9 (λd g3 h jx H3 v3 e3 R3 r3=>?_) h⟩;obtain⟨t,rfl,h⟩:=h;obtain rfl:=r3.P0;refine⟨t,rfl,?_⟩;cases t
 ·exact h jx H3 _ (e1.trans (e2.trans e3)) R3 (.bl _)
 ·exact fK hP (s.ext (e1.trans (e2.trans e3))) R3 (e1.trans (e2.trans e3)) h λz g4 rE H4 v4 e4 R4 r4 h =>
   ⟨y,z,g4,rE,R4,r2.ext (e3.trans e4),r4,y9 (λd g' h=>h.ext (e1.trans (e2.trans (e3.trans e4)))) h⟩
theorem WJ(hu:X.A.units+100<cLine)(ha:PE X a (LE X.K Ξ (aX P ma)))(hb:PE X b (LE X.K Ξ (aX P mb)))(hc:PE X c (LE X.K Ξ (aX P mc)))(hm:lastMarks [op,iT] [b,c]=false) :
  PE X (.Compare a [op,iT] [b,c] pos) (LE X.K Ξ (aX P (.chain op iT ma mb mc))):=(Wj (vf hu op) (vf hu iT) ha hb hc hm).imp (MH hP)
theorem VD{Z:S}{g:G}{Q:Bool->G->Prop}{E:KX}(h:dh P (.fo (.chain op iT ma mb mc)) Z g Q E):aX P (.chain op iT ma mb mc) Z g (λd g'=>∃t,d=.bl t/\Q t g') E:=by
 have one:∀{o:CmpOp} {xs:List D} {g:G},cF (.cmp o) xs g (λd g1=>qk g1 d λb=>Q b g1)->cF (.cmp o) xs g λd g'=>∃t,d=.bl t/\Q t g':=by
  intro o xs g h;obtain⟨d',g',h,t',ht,q⟩:=h;obtain⟨x',y',t,ex,hc,rfl,rfl⟩:=id h;refine⟨_,_,h,t',?_,q⟩;rcases ht with⟨z,_⟩|z|⟨i,z,_⟩|⟨l,z,_⟩|⟨a,l,z,_⟩<;>first|exact z|cases z
 refine d5 hP ma _ _ _ _ _ _ (λx g1 h=>d5 hP mb _ _ _ _ _ _ (λy g2 h=>y9 (λz g3 h=>?_) h) (λ_ _ z=>z) h) (λ_ _ z=>z) h;obtain⟨t,rfl,h⟩:=h;refine⟨t,rfl,?_⟩;cases t
 ·obtain⟨b,hb,q⟩:=(show qk g3 (.bl false) λb=>Q b g3 from h)
  rcases hb with⟨z,_⟩|z|⟨i,z,_⟩|⟨l,z,_⟩|⟨a,l,z,_⟩<;>first|(cases z;exact⟨_,rfl,q⟩)|cases z
 ·exact d5 hP mc _ _ _ _ _ _ (λw g4 h=>one h) (λ_ _ z=>z) h
theorem a99(hu:X.A.units+100<cLine)(ha:PE X a (LE X.K Ξ (aX P ma)))(hb:PE X b (LE X.K Ξ (aX P mb)))(hc:PE X c (LE X.K Ξ (aX P mc)))(hm:lastMarks [op,iT] [b,c]=false) :
  PT X (.Compare a [op,iT] [b,c] pos) (LT X.K Ξ (dh P (.fo (.chain op iT ma mb mc)))) :=
 (Ww (vf hu op) (vf hu iT) ha hb hc hm).imp λcj H Q ⟨Z,g,ρ,s,R,h⟩ =>
  MH hP cj H _ (fK hP s R (.refl _ _) (VD hP h) λx g1 bV H1 v1 e1 R1 r1 h=>by
   obtain⟨t,rfl,h⟩:=h;exact ⟨t,r1.P0,h bV H1 e1 R1⟩)
theorem Sw(ha:PE X a (LE X.K Ξ (aX P ma)))(hb:PE X (.BoolOp .And (b::rest) pos) (LE X.K Ξ (aX P mb))):PE X (.BoolOp .And (a::b::rest) pos) (LE X.K Ξ (aX P (.dB ma mb))) :=
 (bC0 ha hb).imp λcj H Q bq=>by
  obtain⟨Z,g,ρ,s,R,h⟩:=bq;refine fK hP s R (.refl _ _) h λx g1 bV H1 v1 e1 R1 r1 h=>?_;obtain⟨t,rfl,h⟩:=h;refine⟨t,r1.P0,?_⟩;cases t
  ·exact h bV H1 _ e1 R1 (.bl _)
  ·exact fK hP (s.ext e1) R1 e1 h λy g2 fg H2 v2 e2 R2 r2 h=>h fg H2 v2 (e1.trans e2) R2 r2
theorem ZY(ha:PE X a (LE X.K Ξ (aX P ma)))(hb:PE X (.BoolOp .Or (b::rest) pos) (LE X.K Ξ (aX P mb))):PE X (.BoolOp .Or (a::b::rest) pos) (LE X.K Ξ (aX P (.jY ma mb))) :=
 (ZM ha hb).imp λcj H Q bq=>by
  obtain⟨Z,g,ρ,s,R,h⟩:=bq;refine fK hP s R (.refl _ _) h λx g1 bV H1 v1 e1 R1 r1 h=>?_;obtain⟨t,rfl,h⟩:=h;refine⟨t,r1.P0,?_⟩;cases t
  ·exact fK hP (s.ext e1) R1 e1 h λy g2 fg H2 v2 e2 R2 r2 h=>h fg H2 v2 (e1.trans e2) R2 r2
  ·exact h bV H1 _ e1 R1 (.bl _)
theorem SD(ha:PE X a (LE X.K Ξ (aX P ma))):PE X (.UnaryOp .Not a pos) (LE X.K Ξ (aX P (.eI ma))) :=
 (bB4 ha).imp λcj H Q bq=>by
  obtain⟨Z,g,ρ,s,R,h⟩:=bq;refine fK hP s R (.refl _ _) h λx g1 bV H1 v1 e1 R1 r1 h=>?_;obtain⟨t,rfl,h⟩:=h;exact⟨t,r1.P0,h bV H1 _ e1 R1 (.bl _)⟩
theorem SA(hc:PT X c (LT X.K Ξ (dh P mc)))(ha:PE X a (LE X.K Ξ (aX P ma)))(hb:PE X b (LE X.K Ξ (aX P mb))):PE X (.IfExp c a b pos) (LE X.K Ξ (aX P (.ite mc ma mb))) :=
 (Wl hc ha hb).imp λcj H Q bq=>by
  obtain⟨Z,g,ρ,s,R,h⟩:=bq;refine qt hP s R (.refl _ _) h λt g1 bV H1 e1 R1 h=>?_;cases t
  ·exact fK hP (s.ext e1) R1 e1 h λy g2 fg H2 v2 e2 R2 r2 h=>h fg H2 v2 (e1.trans e2) R2 r2
  ·exact fK hP (s.ext e1) R1 e1 h λy g2 fg H2 v2 e2 R2 r2 h=>h fg H2 v2 (e1.trans e2) R2 r2
theorem SE{k:Nat}(h:PA X es (LA X.K Ξ (gw P iN))):PE X (.Tuple es k pos) (LE X.K Ξ (aX P (.prim .tup iN))) :=
 (bB2 h).imp λcj H Q bq=>by
  obtain⟨Z,g,ρ,s,R,h⟩:=bq;refine kS hP s R (.refl _ _) h λds g1 bV H1 vs e1 R1 r1 h=>?_;obtain⟨d',g',⟨hz,rfl,rfl⟩,q⟩:=h;exact⟨by rw[<- r1.length];exact v9 (aG hz ∅),λp hp=>(q.ext e1).tup R1 hp r1⟩
theorem NT(h:PA X es (LA X.K Ξ (gw P iN))):PE X (.List es pos) (LE X.K Ξ (aX P (.prim .lst iN))) :=
 (bB6 h).imp λcj H Q bq=>by
  obtain⟨Z,g,ρ,s,R,h⟩:=bq;refine kS hP s R (.refl _ _) h λds g1 bV H1 vs e1 R1 r1 h=>?_;obtain⟨d',g',⟨hz,rfl,rfl⟩,q⟩:=h;exact⟨by rw[<- r1.length];exact v9 (aG hz ∅),λp hp=>(q.ext e1).new R1 hp r1⟩
theorem K7:PA X [] (LA X.K Ξ (gw P .nil)) :=
 (vg (X:=X)).imp λcj H Q bq=>by
  obtain⟨Z,g,ρ,s,R,h⟩:=bq;exact h ρ H [] (.refl _ _) R .nil
theorem C3(ha:PE X a (LE X.K Ξ (aX P ma)))(h:PA X es (LA X.K Ξ (gw P iN)))(hs:starEach (a::es) X.env=(false,eval a X.env)::starEach es X.env):PA X (a::es) (LA X.K Ξ (gw P (.cons ma iN))) :=
 (V2 ha h hs).imp λcj H Q bq=>by
  obtain⟨Z,g,ρ,s,R,h⟩:=bq;exact fK hP s R (.refl _ _) h λx g1 bV H1 v1 e1 R1 r1 h=>kS hP (s.ext e1) R1 e1 h λxs g2 fg H2 vs e2 R2 r2 h=>h fg H2 _ (e1.trans e2) R2 (.cons (r1.ext e2) r2)
theorem WR(ha:PE X a (LE X.K Ξ (aX P ma))):PE X (.Subscript a (.Slice none none none p2) pos) (LE X.K Ξ (aX P (.prim (.jX false false) (.cons ma .nil)))) :=
 (Az AR ha Al Al).imp λcj H Q bq=>by
  obtain⟨Z,g,ρ,s,R,h⟩:=bq;refine fK hP s R (.refl _ _) h λx g1 bV H1 v1 e1 R1 r1 h=>?_;obtain⟨d',g',⟨x',ex,h⟩,q⟩:=h;cases ex;exact⟨x,g1,bV,d',g',R1,r1,h,q.ext e1⟩
theorem WT(ha:PE X a (LE X.K Ξ (aX P ma)))(hb:PE X b (LE X.K Ξ (aX P mb))):PE X (.Subscript a (.Slice (some b) none none p2) pos) (LE X.K Ξ (aX P (.prim (.jX true false) (.cons ma (.cons mb .nil))))) :=
 (Az AR ha (Am hb) Al).imp λcj H Q bq=>by
  obtain⟨Z,g,ρ,s,R,h⟩:=bq;refine fK hP s R (.refl _ _) h λx g1 bV H1 v1 e1 R1 r1 h=>fK hP (s.ext e1) R1 e1 h λy g2 fg H2 v2 e2 R2 r2 h=>?_;obtain⟨d',g',⟨x',i,ex,h⟩,q⟩:=h;cases ex;exact⟨i,r2.k9,x,g2,fg,d',g',R2,r1.ext e2,h,q.ext (e1.trans e2)⟩
theorem WS(ha:PE X a (LE X.K Ξ (aX P ma)))(hb:PE X b (LE X.K Ξ (aX P mb))):PE X (.Subscript a (.Slice none (some b) none p2) pos) (LE X.K Ξ (aX P (.prim (.jX false true) (.cons ma (.cons mb .nil))))) :=
 (Az AR ha Al (Am hb)).imp λcj H Q bq=>by
  obtain⟨Z,g,ρ,s,R,h⟩:=bq;refine fK hP s R (.refl _ _) h λx g1 bV H1 v1 e1 R1 r1 h=>fK hP (s.ext e1) R1 e1 h λy g2 fg H2 v2 e2 R2 r2 h=>?_;obtain⟨d',g',⟨x',i,ex,h⟩,q⟩:=h;cases ex;exact⟨i,r2.k9,x,g2,fg,d',g',R2,r1.ext e2,h,q.ext (e1.trans e2)⟩
theorem WU{i j:Int}(ha:PE X a (LE X.K Ξ (aX P ma)))(hb:PE X b (LE X.K Ξ (aX P (.lit (.int i)))))(hc:PE X c (LE X.K Ξ (aX P (.lit (.int j))))):PE X (.Subscript a (.Slice (some b) (some c) none p2) pos) (LE X.K Ξ (aX P (.prim (.jX true true) (.cons ma (.cons (.lit (.int i)) (.cons (.lit (.int j)) .nil)))))) :=
 (Az AR ha (Am hb) (Am hc)).imp λcj H Q bq=>by
  obtain⟨Z,g,ρ,s,R,h⟩:=bq;refine fK hP s R (.refl _ _) h λx g1 bV H1 v1 e1 R1 r1 h=>?_;obtain⟨d',g',⟨x',i',j',ex,h⟩,q⟩:=(show cF (.jX true true) [x,.int i,.int j] g1 _ from h)
  cases ex;refine⟨Z,g1,bV,s.ext e1,R1,λfg H2 v2 e2 R2 r2=>⟨i,r2.k9,?_⟩⟩;refine⟨Z,g1,fg,(s.ext e1).ext e2,R2,λjx H3 v3 e3 R3 r3=>⟨j,r3.k9,?_⟩⟩;exact⟨x,g1,jx,d',g',R3,r1.ext (e2.trans e3),h,q.ext (e1.trans (e2.trans e3))⟩
theorem SU(ha:PE X a (LE X.K Ξ (aX P ma)))(he:∀whole,isTrue a X.env whole=(do let v <- whole;standAt a.pos;holding [v] (truthy v))):PT X a (LT X.K Ξ (dh P (.fo ma))) :=
 (Wx ha he).imp λcj H Q bq=>by
  obtain⟨Z,g,ρ,s,R,h⟩:=bq;refine fK hP s R (.refl _ _) h λx g1 bV H1 v1 e1 R1 r1 h=>?_;obtain⟨b,h1,h2⟩:=h;exact⟨b,Ti R1 r1 h1,h2 bV H1 e1 R1⟩
theorem SR(ha:PT X a (LT X.K Ξ (dh P ma))):PT X (.UnaryOp .Not a pos) (LT X.K Ξ (dh P (.eI ma))) :=
 (bA2 ha).imp λcj H Q bq=>by
  obtain⟨Z,g,ρ,s,R,h⟩:=bq;exact qt hP s R (.refl _ _) h λt g1 bV H1 e1 R1 h=>h bV H1 e1 R1
theorem SW(ha:PT X a (LT X.K Ξ (dh P ma)))(hb:PW X (.BoolOp .And (b::rest) pos) (LT X.K Ξ (dh P mb))):PW X (.BoolOp .And (a::b::rest) pos) (LT X.K Ξ (dh P (.dB ma mb))) :=
 (bA1 ha hb).imp λcj H Q bq=>by
  obtain⟨Z,g,ρ,s,R,h⟩:=bq;refine qt hP s R (.refl _ _) h λt g1 bV H1 e1 R1 h=>?_;cases t
  ·exact h bV H1 e1 R1
  ·exact qt hP (s.ext e1) R1 e1 h λt g2 fg H2 e2 R2 h=>h fg H2 (e1.trans e2) R2
theorem bK4(ha:PT X a (LT X.K Ξ (dh P ma)))(hb:PW X (.BoolOp .Or (b::rest) pos) (LT X.K Ξ (dh P mb))):PW X (.BoolOp .Or (a::b::rest) pos) (LT X.K Ξ (dh P (.jY ma mb))) :=
 (ZQ ha hb).imp λcj H Q bq=>by
  obtain⟨Z,g,ρ,s,R,h⟩:=bq;refine qt hP s R (.refl _ _) h λt g1 bV H1 e1 R1 h=>?_;cases t
  ·exact qt hP (s.ext e1) R1 e1 h λt g2 fg H2 e2 R2 h=>h fg H2 (e1.trans e2) R2
  ·exact h bV H1 e1 R1
theorem Vj:mO X [] (LT X.K Ξ (dh P .no)) :=
 (UN (X:=X)).imp λcj H Q bq=>by
  obtain⟨Z,g,ρ,s,R,h⟩:=bq;exact h ρ H (.refl _ _) R
theorem Sx{x:Str}{v:Value}(hv:(∃id,v=.builtin id)\/∃T,v=.type T)(hc:q9 X v (rN X.K p))(hg:Gl X x)(hm:X.mg x=none)(hb:bootBuiltins x=some v)(ha:PA X (e::es) (LA X.K Ξ (gw P iN)))(hn:x≠"__name__")(hd:(x==("__debug__":Str))=false)(eB:starEach (e::es) X.env=(false,eval e X.env)::starEach es X.env)(iw:(backTo pos (starEach es X.env)).any (·.1)=false):PE X (.Call (.Name x q) (e::es) [] pos) (LE X.K Ξ (aX P (.prim p iN))):=by
 have base:PE X (.Call (.Name x q) (e::es) [] pos) (By (rN X.K p) (LA X.K Ξ (gw P iN))):=by
  rcases hv with⟨id,rfl⟩|⟨T,rfl⟩
  ·exact Ay hc hg hm hb ha hn hd eB iw
  ·exact T1 hc hg hm hb ha hn hd eB iw
 refine base.imp λcj H Q bq=>?_;obtain⟨Z,g,ρ,s,R,h⟩:=bq;exact kS hP s R (.refl _ _) h λxs g1 bV H1 vs e1 R1 r1 h=>⟨xs,g1,bV,R1,r1,y9 (λd g' h=>h.ext e1) h⟩
theorem Mw{T:String}{name:Str}{id:String}(pa:PlainAttrs T)(slot:Slot T name id)(ke:typeOf (.builtin id)=pure (.type "method_descriptor"))(hm:mP X id (rM X.K p))(hk:∀{d:D} {v:V} {g:G} {ρ:List Addr} {H:Hp},Rl X.K ρ g H->f9 X.K ρ H d v->mD p d g->oU X.K T v H)(ho:PE X o (LE X.K Ξ (aX P mo)))(ha:PA X (e::es) (LA X.K Ξ (gw P iN)))(gy:attributeBase o name X.env (eval o X.env)=eval o X.env)(mf:((backTo pos (starEach (e::es) X.env)).all (λx=>!x.1)&&(backToKw pos (keywordEach [] X.env)).all (λx=>x.1.isSome)&&decide ((e::es).length+([]:List Keyword).length+(if([]:List Keyword).isEmpty then 0 else 1)<30))=true)(gx:(apos.endLine==pos.line)=true)(hs:starEach (e::es) X.env=(false,eval e X.env)::starEach es X.env)(fm:(backTo pos (starEach es X.env)).any (·.1)=false) :
  PE X (.Call (.Attribute o name apos) (e::es) [] pos) (LE X.K Ξ (aX P (.dG p mo iN))) :=
 (ZJ pa slot ke hm ho ha gy mf gx hs fm).imp λcj H Q bq=>by
  obtain⟨Z,g,ρ,s,R,h⟩:=bq;exact fK hP s R (.refl _ _) h λx g1 bV H1 v1 e1 R1 r1 h=>⟨hk R1 r1 h.1,kS hP (s.ext e1) R1 e1 h.2 λxs g2 fg H2 ws e2 R2 r2 h =>
   ⟨x,xs,g2,fg,R2,r1.ext e2,r2,y9 (λd g' h=>h.ext (e1.trans e2)) h⟩⟩
theorem WO{T:String}{name:Str}{id:String}(pa:PlainAttrs T)(slot:Slot T name id)(ke:typeOf (.builtin id)=pure (.type "method_descriptor"))(hm:mP X id (rM X.K p))(hk:∀{d:D} {v:V} {g:G} {ρ:List Addr} {H:Hp},Rl X.K ρ g H->f9 X.K ρ H d v->mD p d g->oU X.K T v H)(ho:PE X o (LE X.K Ξ (aX P mo)))(gy:attributeBase o name X.env (eval o X.env)=eval o X.env)(gx:(apos.endLine==pos.line)=true) :
  PE X (.Call (.Attribute o name apos) [] [] pos) (LE X.K Ξ (aX P (.dG p mo .nil))) :=
 (bB9 pa slot ke hm ho gy gx).imp λcj H Q bq=>by
  obtain⟨Z,g,ρ,s,R,h⟩:=bq;exact fK hP s R (.refl _ _) h λx g1 bV H1 v1 e1 R1 r1 h=>⟨hk R1 r1 h.1,x,[],g1,bV,R1,r1,.nil,y9 (λd g' h=>h.ext e1) h.2⟩
omit hP in
theorem ML{K ρ H}{d:D}{v:V}(r:f9 K ρ H d v)(h:AM d=true):v=toV d/\O8 v=true:=by
 cases r with
 |br=>exact⟨rfl,rfl⟩
 |bl _=>exact⟨rfl,rfl⟩
 |int _=>exact⟨rfl,rfl⟩
 |str _=>exact⟨rfl,rfl⟩
 |ty _=>exact absurd h cx
 |ref _=>exact absurd h cx
 |tup _ _=>exact absurd h cx
omit hP in
theorem a61{K ρ H}{l:List D}{vs:List V}(r:d7 K ρ H l vs)(h:l.all AM=true):vs=l.map toV/\vs.all O8=true:=by
 induction l generalizing vs with
 |nil=>cases r;exact⟨rfl,rfl⟩
 |cons d l ih =>
  cases r with
  |cons rd rs =>
   rw[kI,aP] at h;obtain⟨e1,f1⟩:=ML rd h.1;obtain⟨e2,f2⟩:=ih rs h.2;subst e1 e2;exact⟨rfl,by rw[kI,f1,f2];rfl⟩
omit hP in
theorem a62{K ρ H}{l:List D}{vs:List V}{y:D}{w:V}{n:Nat}(r:d7 K ρ H l vs)(ry:f9 K ρ H y w)(h:Gm l y n):Ep vs w n:=by
 obtain⟨h1,h2,⟨z,h3,h4⟩,h5⟩:=h;obtain⟨e1,f1⟩:=a61 r h1;obtain⟨e2,f2⟩:=ML ry h2;subst e1 e2;refine⟨f1,f2,⟨toV z,by rw[aj,h3];rfl,h4⟩,λm z' hm hz=>?_⟩;rw[aj,aa] at hz;obtain⟨Ou,hz,rfl⟩:=hz;exact h5 m Ou hm hz
theorem WK(hu:X.A.units+100<cLine)(ho:PE X o (LE X.K Ξ (aX P mo)))(ha:PA X (e::es) (LA X.K Ξ (gw P iN)))(gy:attributeBase o "index" X.env (eval o X.env)=eval o X.env)(mf:((backTo pos (starEach (e::es) X.env)).all (λx=>!x.1)&&(backToKw pos (keywordEach [] X.env)).all (λx=>x.1.isSome)&&decide ((e::es).length+([]:List Keyword).length+(if([]:List Keyword).isEmpty then 0 else 1)<30))=true)(gx:(apos.endLine==pos.line)=true)(hs:starEach (e::es) X.env=(false,eval e X.env)::starEach es X.env)(fm:(backTo pos (starEach es X.env)).any (·.1)=false) :
  PE X (.Call (.Attribute o "index" apos) (e::es) [] pos) (LE X.K Ξ (aX P (.dG .index mo iN))) :=
 (Wm hu ho ha gy mf gx hs fm).imp λcj H Q bq=>by
  obtain⟨Z,g,ρ,s,R,h⟩:=bq;refine fK hP s R (.refl _ _) h λx g1 bV H1 v1 e1 R1 r1 h=>?_;obtain⟨hk,h⟩:=h;obtain⟨a,l,rfl,hl⟩:=hk
  ·obtain⟨a',rfl,ra⟩:=r1.m9;obtain⟨vs,hq,_⟩:=R1.items hl ra;refine⟨a',vs,rfl,hq,kS hP (s.ext e1) R1 e1 h λxs g2 fg H2 ws e2 R2 r2 h=>?_⟩;obtain⟨d',g',⟨x,y,l',n,ex,hi,W,hz,rfl,rfl⟩,q⟩:=h;cases ex;obtain⟨w,rfl,fX⟩:=r2.one;obtain⟨Bt,Cg,ug⟩:=R2.items (show d8 _ a=some l' from hi) (e2.get ra);have hn:n<2 ^ 62:=by
     obtain⟨_,_,⟨z,si,_⟩,_⟩:=W;have:=(ak.mp si).1;omega
   exact⟨a',Bt,w,n,rfl,rfl,Cg,a62 ug fX W,hn,(q.ext (e1.trans e2)).now R2 (.int n)⟩
theorem WL(hc:X.calm=true)(ha:PE X a (LE X.K Ξ (aX P ma)))(mZ:Gl X "list")(nH:X.mg "list"=none)(hg:Gl X "range")(hm:X.mg "range"=none)(hs:starEach [a] X.env=[(false,eval a X.env)]) :
  PE X (.Call (.Name "list" p2) [.Call (.Name "range" q) [a] [] pos] [] kr) (LE X.K Ξ (aX P (.prim .jZ (.cons ma .nil)))) :=
 (T1 (Lv hc) mZ nH (by first|exact ft|decide +kernel) (V2 (a27 hg hm (C3 hP ha (K7 hP) (by rw[hs];rfl)) hs) vg)).imp λcj H Q bq=>by
  obtain⟨Z,g,ρ,s,R,h⟩:=bq;refine kS hP s R (.refl _ _) h λxs g1 bV H1 vs e1 R1 r1 h=>?_;obtain⟨d',g',⟨j,rfl,h1,h2,rfl,rfl⟩,q⟩:=h;obtain⟨v,rfl,rv⟩:=r1.one;obtain rfl:=rv.k9;refine⟨j,rfl,λq' hq=>⟨q',0,j,rfl,x8,⟨by omega,by omega,h1,by omega,by omega⟩,λp hp=>?_⟩⟩;rw[show(j-0).toNat=j.toNat by omega];exact(q.ext (e1.trans (E4 hq))).new (R1.grow hq) hp (d7.nC 0 _)
theorem WM(hc:X.calm=true)(ha:PE X a (LE X.K Ξ (aX P ma)))(hb:PE X b (LE X.K Ξ (aX P mb)))(mZ:Gl X "list")(nH:X.mg "list"=none)(hg:Gl X "range")(hm:X.mg "range"=none)(hs:starEach [a,b] X.env=[(false,eval a X.env),(false,eval b X.env)])(jO:starEach [b] X.env=[(false,eval b X.env)]) :
  PE X (.Call (.Name "list" p2) [.Call (.Name "range" q) [a,b] [] pos] [] kr) (LE X.K Ξ (aX P (.prim .lh (.cons ma (.cons mb .nil))))) :=
 (T1 (Lv hc) mZ nH (by first|exact ft|decide +kernel) (V2 (a26 hg hm (C3 hP ha (C3 hP hb (K7 hP) (by rw[jO];rfl)) (by rw[hs,jO])) hs jO) vg)).imp λcj H Q bq=>by
  obtain⟨Z,g,ρ,s,R,h⟩:=bq;refine kS hP s R (.refl _ _) h λxs g1 bV H1 vs e1 R1 r1 h=>?_;obtain⟨d',g',⟨i,j,rfl,hb,rfl,rfl⟩,q⟩:=h;obtain⟨v,w,rfl,rv,fX⟩:=r1.two;obtain rfl:=rv.k9;obtain rfl:=fX.k9;exact⟨i,j,rfl,λq' hq=>⟨q',i,j,rfl,x8,hb,λp hp=>(q.ext (e1.trans (E4 hq))).new (R1.grow hq) hp (d7.nC i _)⟩⟩
theorem Va(hc:X.calm=true)(ha:PE X a (LE X.K Ξ (aX P ma)))(mZ:Gl X "sorted")(nH:X.mg "sorted"=none)(hg:Gl X "set")(hm:X.mg "set"=none)(hs:starEach [a] X.env=[(false,eval a X.env)]) :
  PE X (.Call (.Name "sorted" p2) [.Call (.Name "set" q) [a] [] pos] [] kr) (LE X.K Ξ (aX P (.prim .sset (.cons ma .nil)))) :=
 (Ay (Y3 hc) mZ nH (by first|exact rB|decide +kernel) (V2 (T1 (Lq hc) hg hm (by first|exact yJ|decide +kernel) (C3 hP ha (K7 hP) (by rw[hs];rfl)) ∅ ∅ (by rw[hs];rfl) rfl) vg)).imp λcj H Q bq=>by
  obtain⟨Z,g,ρ,s,R,h⟩:=bq;refine kS hP s R (.refl _ _) h λxs g1 bV H1 vs e1 R1 r1 h=>?_;obtain⟨d',g',⟨i,ns,rfl,hl,hz,rfl,rfl⟩,q⟩:=h;obtain⟨v,rfl,rv⟩:=r1.one;obtain⟨a',rfl,ra⟩:=rv.m9;obtain⟨ws,hq,rs⟩:=R1.items hl ra;obtain rfl:=rs.ints;refine⟨_,ns,rfl,hq,hz,λq' oj=>⟨q',ns,rfl,x8,hz,λp hp=>?_⟩⟩;exact(q.ext (e1.trans (E4 oj))).new (R1.grow oj) hp (d7.ofInts _)
theorem UY(hc:X.calm=true)(ha:PE X a (LE X.K Ξ (aX P ma)))(mZ:Gl X "len")(nH:X.mg "len"=none)(hg:Gl X "set")(hm:X.mg "set"=none)(hs:starEach [a] X.env=[(false,eval a X.env)]) :
  PE X (.Call (.Name "len" p2) [.Call (.Name "set" q) [a] [] pos] [] kr) (LE X.K Ξ (aX P (.prim .pH (.cons ma .nil)))) :=
 (Ay aC1 mZ nH PySem.boot_len (V2 (T1 (Lq hc) hg hm (by first|exact yJ|decide +kernel) (C3 hP ha (K7 hP) (by rw[hs];rfl)) ∅ ∅ (by rw[hs];rfl) rfl) vg)).imp λcj H Q bq=>by
  obtain⟨Z,g,ρ,s,R,h⟩:=bq;refine kS hP s R (.refl _ _) h λxs g1 bV H1 vs e1 R1 r1 h=>?_;obtain⟨d',g',⟨i,ns,rfl,hl,hz,rfl,rfl⟩,q⟩:=h;obtain⟨v,rfl,rv⟩:=r1.one;obtain⟨a',rfl,ra⟩:=rv.m9;obtain⟨ws,hq,rs⟩:=R1.items hl ra;obtain rfl:=rs.ints;refine⟨_,ns,rfl,hq,by omega,λq' oj=>⟨q',_,rfl,x8,?_⟩⟩;exact(q.ext (e1.trans (E4 oj))).now (R1.grow oj) (.int _)
theorem U'{i:Int}{j:Nat}(oy:PySem.W.kdsCode X.K X.env.code=true):PE X (.Set [.Constant (.int i) j q] 0 pos) (LE X.K Ξ (aX P (.prim (.kT i) .nil))) :=
 (UE oy).imp λcj H Q bq=>by
  obtain⟨Z,g,ρ,s,R,h⟩:=bq;obtain⟨d',g',⟨_,rfl,rfl⟩,q⟩:=h;exact λp hp=>q (ρ++[p]) _ _ (X2 hp) (R.new hp (o:=.set (λk=>decide (k=i)) 1) (u:=.set (λk=>decide (k=i)) 1) ⟨rfl,rfl⟩) (.ref (R.K6 p))
theorem Sy{f:Str}(ha:PE X a (LE X.K Ξ (aX P ma)))(hb:attributeBase a f X.env (eval a X.env)=eval a X.env):PE X (.Attribute a f pos) (LE X.K Ξ (aX P (.prim (.fld f) (.cons ma .nil)))) :=
 (bB8 ha hb).imp λcj H Q bq=>by
  obtain⟨Z,g,ρ,s,R,h⟩:=bq;refine fK hP s R (.refl _ _) h λx g1 bV H1 v1 e1 R1 r1 h=>?_;obtain⟨d',g',⟨i,c,fs,ex,hi,hf,rfl⟩,q⟩:=h;cases ex;obtain⟨a',rfl,ra⟩:=r1.m9;obtain⟨C,dx,vs,hH,_,hC,rk,na⟩:=R1.ins hi ra;have lk:=rk.look f;rw[hf] at lk;obtain⟨v,hv,rv⟩:=lk.some;exact⟨a',C,dx,vs,v,rfl,hH,hC,na _ (aT hf),hv,q bV H1 v e1 R1 rv⟩
end
section
variable{X:Cx}{pos:Pos}
theorem NU{i:Nat}{x:Str}(hN:X.N[i]?=some x)(hv:yt X.env.scope x)(hd:(x==("__debug__":Str))=false)(nc:(x==("__classdict__":Str))=false):PE X (.Name x pos) (LE X.K Ξ (aX P (.var i))) :=
 (bB1 hN hv hd nc).imp λcj H Q bq=>by
  obtain⟨Z,g,ρ,s,R,h⟩:=bq;obtain⟨d,e,h⟩:=h;obtain⟨v,h1,h2⟩:=s.val _ _ e;exact⟨v,h1,h.now R h2⟩
theorem W0{e:Expr}{d:D}{v:V}(h:PE X e (tC v))(r:∀ρ H,f9 X.K ρ H d v):PE X e (LE X.K Ξ (aX P (.lit d))) :=
 h.imp λcj H Q bq=>by
  obtain⟨Z,g,ρ,s,R,h⟩:=bq;exact LQ.now h R (r ρ H)
theorem UU:PE X (.Dict [] [] pos) (LE X.K Ξ (aX P (.prim .qi .nil))) :=
 (Wk (X:=X)).imp λcj H Q ⟨Z,g,ρ,s,R,h⟩ p hp=>by
  obtain⟨d',g',⟨_,rfl,rfl⟩,q⟩:=h;exact q (ρ++[p]) _ _ (X2 hp) (R.new hp (o:=.eE []) (u:=.dK []) l6.nil) (.ref (R.K6 p))
end
end M
namespace L2
open PySem PySem.Spec PyProof.Rows
end L2
namespace M
open PySem L2 PySem.Spec PyProof.Rows
variable{K:PySem.W.Frag}{H H0:Hp}{neg:Bool}{a fa C:Addr}{x:Str}{p:Pos}{kvs:List D}{k f j:Nat}{fd:FuncData}{ps:List Str}{gQ:List Addr}{vs:List V}
inductive qY(K:PySem.W.Frag):List D->List (Str×V)->Prop
 |nil:qY K [] []
 |cons {x:Str} {d:D} {v:V} {ds:List D} {vs:List (Str×V)} (h:∀ρ H,f9 K ρ H d v) (r:qY K ds vs):qY K (.tup [.str x,d]::ds) ((x,v)::vs)
theorem qY.look{ρ:List Addr}{ds vs}(x:Str)(h:qY K ds vs):tK K ρ H (R8 ds x) (vs.lookup x):=by
 induction h with
 |nil=>trivial
 |cons h r ih =>
  rename_i y d v ds vs;unfold R8;rw[cL];by_cases e:x=y
  ·rw[aH e,show(x==y)=true from by simp[e]];exact h ρ H
  ·rw[aE e,show(x==y)=false from by simpa using e];exact ih
def AG(X:Cx)(x:Str)(kvs:List D):Prop:=∃A vs,X.mg x=some (.ref A)/\xF X.K X.w.params A vs/\qY X.K kvs vs
def AN(neg:Bool):Pr:=if neg then .xf else .IX
theorem Ma:PR (AN neg)=Ei neg:=by cases neg<;>rfl
theorem a02(a b c:Str):a++b++c=a++(b++c):=by
 cases a;cases b;cases c;show Str.mk _=Str.mk _;exact iC Str.mk (Oq ..)
theorem Vi(x:Str):x++Str.empty=x:=by cases x;show Str.mk _=_;simp[Str.empty]
theorem Ur(x:Str):Str.empty++x=x:=by cases x;show Str.mk _=_;simp[Str.empty]
section
variable{X:Cx}{Ξ:ij}{P:fj}(hP:j9 P){a c:Expr}{ma:ME}{pos:Pos}
include hP
theorem Sz(hg:Gl X x)(hd:(x==("__debug__":Str))=false)(hG:AG X x kvs)(ha:PE X a (LE X.K Ξ (aX P ma)))(hm:behindInMarks (if neg then .NotIn else .In) (.Name x p)=false) :
  PE X (.Compare a [if neg then .NotIn else .In] [.Name x p] pos) (LE X.K Ξ (aX P (.prim (AN neg) (.cons (.lit (.tup kvs)) (.cons ma .nil))))):=by
 obtain⟨A,vs,hmg,hk,gr⟩:=hG;refine(Mj (NM (kvs:=vs) neg) ha (Ak (v:=.ref A) hg hmg rfl hd) hm).imp λcj H Q bq=>?_;obtain⟨Z,g,ρ,s,R,h⟩:=bq;refine fK hP s R (.refl _ _) h λd g1 bV H1 v1 e1 R1 r1 h=>?_;obtain⟨d',g',h,q⟩:=h;rw[Ma] at h;obtain⟨jE,z,ex,rfl,rfl⟩:=h;cases ex;obtain rfl:=r1.J6;refine⟨A,z,rfl,hk,rfl,?_⟩;rw[<- (gr.look (ρ:=bV) (H:=H1) z).isSome];exact q bV H1 _ e1 R1 (.bl _)
theorem SQ(hg:Gl X x)(hd:(x==("__debug__":Str))=false)(hG:AG X x kvs)(ha:PE X a (LE X.K Ξ (aX P ma)))(hm:behindInMarks (if neg then .NotIn else .In) (.Name x p)=false) :
  PT X (.Compare a [if neg then .NotIn else .In] [.Name x p] pos) (LT X.K Ξ (dh P (.fo (.prim (AN neg) (.cons (.lit (.tup kvs)) (.cons ma .nil)))))):=by
 obtain⟨A,vs,hmg,hk,gr⟩:=hG;refine(Mp (NM (kvs:=vs) neg) ha (Ak (v:=.ref A) hg hmg rfl hd) hm).imp λcj H Q bq=>?_;obtain⟨Z,g,ρ,s,R,h⟩:=bq;refine fK hP s R (.refl _ _) h λd g1 bV H1 v1 e1 R1 r1 h=>?_;obtain⟨d',g',h,t,ht,q⟩:=h;rw[Ma] at h;obtain⟨jE,z,ex,rfl,rfl⟩:=h;cases ex;obtain rfl:=r1.J6;refine⟨A,z,rfl,hk,rfl,t,?_,q bV H1 e1 R1⟩;rw[<- (gr.look (ρ:=bV) (H:=H1) z).isSome];rcases ht with⟨z,_⟩|z|⟨i,z,_⟩|⟨l,z,_⟩|⟨a,l,z,_⟩<;>cases z
 rfl
theorem UX(hg:Gl X x)(hd:(x==("__debug__":Str))=false)(hG:AG X x kvs)(ha:PE X a (LE X.K Ξ (aX P ma)))(hs:Er a):PE X (.Subscript (.Name x p) a pos) (LE X.K Ξ (aX P (.prim .oH (.cons (.lit (.tup kvs)) (.cons ma .nil))))):=by
 obtain⟨A,vs,hmg,hk,gr⟩:=hG;refine(JO (Zg (kvs:=vs)) (Ak (v:=.ref A) hg hmg rfl hd) ha hs).imp λcj H Q bq=>?_;obtain⟨Z,g,ρ,s,R,h⟩:=bq;refine fK hP s R (.refl _ _) h λd g1 bV H1 v1 e1 R1 r1 h=>?_;obtain⟨d',g',⟨jE,z,ex,hz,rfl⟩,q⟩:=h;cases ex;obtain rfl:=r1.J6;have lk:=gr.look (ρ:=bV) (H:=H1) z;rw[hz] at lk;obtain⟨w,hw,lk⟩:=lk.some;exact⟨A,z,w,rfl,hk,rfl,hw,q bV H1 _ e1 R1 lk⟩
theorem ZX(ha:PE X a (LE X.K Ξ (aX P ma))):PE X (.FormattedValue a (-1) none pos) (LE X.K Ξ (aX P (.prim .fv (.cons ma .nil)))) :=
 (ZK ha).imp λcj H Q bq=>by
  obtain⟨Z,g,ρ,s,R,h⟩:=bq;refine fK hP s R (.refl _ _) h λd g1 bV H1 v1 e1 R1 r1 h=>?_;obtain⟨d',g',⟨rfl,h⟩,q⟩:=h;rcases h with⟨i,ex,h1,rfl⟩|⟨z,ex,h1,rfl⟩
  ·cases ex;exact .inl ⟨i,r1.k9,h1,q bV H1 _ e1 R1 (.str _)⟩
  ·cases ex;exact .inr ⟨z,r1.J6,v9 (),q bV H1 _ e1 R1 (.str _)⟩
omit hP in
inductive nM(X:Cx)(Ξ:ij)(P:fj):List Expr->ME->List TE->Prop
 |nil:nM X Ξ P [] .nil []
 |lit {x:Str} {j:Nat} {p:Pos} {es:List Expr} {ms:ME} {ts:List TE} (hx:x.length<=2000) (r:nM X Ξ P es ms ts):nM X Ξ P (.Constant (.str x) j p::es) (.cons (.lit (.str x)) ms) (LE X.K Ξ (aX P (.lit (.str x)))::ts)
 |val {e:Expr} {m:ME} {p:Pos} {es:List Expr} {ms:ME} {ts:List TE} (he:PE X e (LE X.K Ξ (aX P m))) (r:nM X Ξ P es ms ts):nM X Ξ P (.FormattedValue e (-1) none p::es) (.cons (.prim .fv (.cons m .nil)) ms) (LE X.K Ξ (aX P (.prim .fv (.cons m .nil)))::ts)
theorem nM.OZ{es ms ts}(h:nM X Ξ P es ms ts):vi X es ts:=by
 induction h with
 |nil=>exact .nil
 |lit hx r ih=>exact .cons (W0 NN λ_ _=>.str _) ih
 |val he r ih=>exact .cons (ZX hP he) ih
theorem nM.join{cj:L2.St}{Q:Str->Hp->Prop}{es ms ts}(hf:nM X Ξ P es ms ts):∀{Z:S} {g:G} {ρ:List Addr} {H:Hp} {acc:Str},acc.length+2000*es.length<=100000->v8 X.K ρ H Z cj->Rl X.K ρ g H ->
  gw P ms Z g (λds g1=>∃x,Y1 ds=some x/\∀bJ H',Ext ρ H bJ H'->Rl X.K bJ g1 H'->Q (acc++x) H') (LX X.K ρ H Ξ)->AS ts cj H acc (λout H1=>out.length<=sizeLine/\Q out H1):=by
 have tl:∀{acc y:Str} {ρ:List Addr} {H:Hp} {bV:List Addr} {H1:Hp} {ds:List D} {g1:G},Ext ρ H bV H1->(∃x,Y1 (.str y::ds)=some x/\∀bJ H',Ext ρ H bJ H'->Rl X.K bJ g1 H'->Q (acc++x) H')->∃x,Y1 ds=some x/\∀bJ H',Ext bV H1 bJ H'->Rl X.K bJ g1 H'->Q (acc++y++x) H':=by
  intro acc y ρ H bV H1 ds g1 e1 h;obtain⟨x,hx,h⟩:=h;simp only[Y1] at hx;cases hj:Y1 ds with
  |none=>rw[hj] at hx;cases hx
  |some x' =>
   rw[hj] at hx;cases hx;refine⟨x',rfl,λbJ H' e' R'=>?_⟩;rw[a02];exact h bJ H' (e1.trans e') R'
 induction hf with
 |nil =>
  intro Z g ρ H acc ha s R h;obtain⟨x,hx,h⟩:=h;cases hx;rw[Vi] at h;exact⟨v9 (by simpa using ha),h ρ H (.refl _ _) R⟩
 |lit hx r ih =>
  rename_i y j p es ms ts;intro Z g ρ H acc ha s R h;refine⟨Z,g,ρ,s,R,?_⟩;intro bV H1 v1 e1 R1 r1;obtain rfl:=r1.J6;have hl:(acc++y).length<=acc.length+2000:=by rw[strLen_append];omega
  simp only[List.length_cons] at ha;exact⟨y,rfl,v9 (),ih () (s.ext e1) R1 (B8 hP _ _ _ _ _ _ _ (λds g1 h=>tl e1 h) (λ_ _ z=>LX.ext e1 z) h)⟩
 |val he r ih =>
  rename_i e m p es ms ts;intro Z g ρ H acc ha s R h;refine⟨Z,g,ρ,s,R,?_⟩;simp only[List.length_cons] at ha;refine d5 hP m _ _ _ _ _ _ (λd g1 h=>?_) (λ_ _ z=>z) h;obtain⟨d',g',⟨rfl,h⟩,q⟩:=h;have hy:∃y,d'=.str y/\y.length<=2000:=by
   rcases h with⟨i,ex,h1,rfl⟩|⟨z,ex,h1,rfl⟩
   ·exact⟨_,rfl,by rw[PySem.ofString_length];have:=int_text_length_le (k:=1920) ∅ h1;omega⟩
   ·exact⟨z,rfl,h1⟩
  obtain⟨y,rfl,hy⟩:=hy;refine⟨_,_,⟨rfl,h⟩,λbV H1 v1 e1 R1 r1=>?_⟩;obtain rfl:=r1.J6;have hl:(acc++y).length<=acc.length+2000:=by rw[strLen_append];omega
  exact⟨y,rfl,v9 (),ih () (s.ext e1) R1 (B8 hP _ _ _ _ _ _ _ (λds g1 h=>tl e1 h) (λ_ _ z=>LX.ext e1 z) q)⟩
theorem UW{mU mT:Expr}{rest:List Expr}{ms:ME}{ts:List TE}(h:nM X Ξ P (mU::mT::rest) ms ts)(hl:(mU::mT::rest).length<=40):PE X (.JoinedStr (mU::mT::rest) pos) (LE X.K Ξ (aX P (.prim .ni ms))) :=
 (UC (h.OZ hP)).imp λcj H Q bq=>by
  obtain⟨Z,g,ρ,s,R,hw⟩:=bq;refine nM.join hP h (Q:=λout H1=>Q (.str out) H1) (acc:=Str.empty) ?_ s R (B8 hP ms _ _ _ _ _ _ (λds g1 hw=>?_) (λ_ _ z=>z) hw)
  ·have:Str.empty.length=0:=rfl;omega
  ·obtain⟨d',g',⟨x,hx,rfl,rfl⟩,q⟩:=hw;refine⟨x,hx,λbJ H' e' R'=>?_⟩;rw[Ur];exact q bJ H' _ e' R' (.str _)
omit hP in
def qw(ex:List Str)(K:PySem.W.Frag)(n:Nat)(t:List D->G->KD->KX->Prop):Sp:=λvs H Q E=>vs.length=n/\∃ds g ρ,d7 K ρ H ds vs/\Rl K ρ g H/\t ds g (LQ K ρ H Q) (LX K ρ H (ex,E))
omit hP in
def qo(X:Cx)(P:fj)(ex:List Str)(k f:Nat)(fa:Addr)(fd:FuncData)(ps:List Str):Prop :=
 iQ X.prog X.w X.K X.mg X.base (jM X.prog X.w) k fa fd ps (qw ex X.K ps.length (P f))/\Binds X.K fd ps []/\∀ds g Q E,P f ds g Q E->ds.length=ps.length
theorem Ge{k:Nat}(F:qo X P Ξ.1 k f fa fd ps){ρ:List Addr}{g:G}{xs:List D}{Q0:KD}{Q:VK}(e0:Ext gQ H0 ρ H)(R:Rl X.K ρ g H)(r:d7 X.K ρ H xs vs)(h:P f xs g Q0 (LX X.K gQ H0 Ξ))(k:∀d g',Q0 d g'->LQ X.K ρ H Q d g'):qw Ξ.1 X.K ps.length (P f) (vs++[]) H Q Ξ.2:=by
 rw[fc];exact⟨by rw[<- r.length];exact F.2.2 _ _ _ _ h,xs,g,ρ,r,R,hP _ _ _ _ _ _ _ k (λ_ _ z=>LX.ext e0 z) h⟩
theorem UT{es:List Expr}{e:Expr}{iN:ME}(hx:Passes (jM X.prog X.w) X Ξ.2)(F:qo X P Ξ.1 k f fa fd ps)(hr:A6 k X.A)(hg:Gl X x)(hm:X.mg x=some (.ref fa))(hk:PySem.W.keepIn X.K (.ref fa)=true)(ha:PA X (e::es) (LA X.K Ξ (gw P iN)))(hd:(x==("__debug__":Str))=false)(eB:starEach (e::es) X.env=(false,eval e X.env)::starEach es X.env)(iw:(backTo pos (starEach es X.env)).any (·.1)=false):PE X (.Call (.Name x p) (e::es) [] pos) (LE X.K Ξ (aX P (.call f iN))) :=
 (UB F.1 hr hg hm hk F.2.1 .nil hx ha hd eB iw).imp λcj H Q bq=>by
  obtain⟨Z,g,ρ,s,R,h⟩:=bq;exact kS hP s R (.refl _ _) h λxs g1 bV H1 vs e1 R1 r1 h=>Ge hP F e1 R1 r1 h λd g' h=>h.ext e1
theorem WI(hx:Passes (jM X.prog X.w) X Ξ.2)(F:qo X P Ξ.1 k f fa fd ps)(hr:A6 k X.A)(hg:Gl X x)(hm:X.mg x=some (.ref fa))(hk:PySem.W.keepIn X.K (.ref fa)=true)(hd:(x==("__debug__":Str))=false):PE X (.Call (.Name x p) [] [] pos) (LE X.K Ξ (aX P (.call f .nil))) :=
 (Wi F.1 hr hg hm hk F.2.1 .nil hx hd).imp λcj H Q bq=>by
  obtain⟨Z,g,ρ,s,R,h⟩:=bq;exact Ge hP F (.refl _ _) R .nil h λd g' h=>h
theorem Mg{c:Str}(F:qo X P Ξ.1 k f fa fd ps)(hC:x2 X.K c C)(hc:kK X.K C){ρ:List Addr}{g1:G}{xs:List D}{Q:VK}(e0:Ext gQ H0 ρ H)(R:Rl X.K ρ g1 H)(r:d7 X.K ρ H xs vs)(h:P f (.ref g1.length::xs) (g1++[.ins c []]) (λd g2=>d=.br/\LQ X.K gQ H0 Q (.ref g1.length) g2) (LX X.K gQ H0 Ξ)):∀x dx,H x=none->H dx=none->dx≠x->qw Ξ.1 X.K ps.length (P f) (.ref x::(vs++[])) (upd (upd H dx (.own x)) x (.ins C dx [])) (λv H2=>v=.br/\Q (.ref x) H2) Ξ.2:=by
 intro x dx hx ID ff;have zb:upd H dx (.own x) x=none:=by rw[i9 (bT ff)];exact hx
 have R2:=R.grow (o:=.own x) ID;have e2:Ext ρ H ρ (upd H dx (.own x)):=E4 ID;have R3:=R2.new (o:=.ins c []) (u:=.ins C dx []) zb ⟨hC,hc,.nil,λx hx=>absurd hx (by simp)⟩;have e3:Ext ρ (upd H dx (.own x)) (ρ++[x]) (upd (upd H dx (.own x)) x (.ins C dx [])):=X2 zb;have:=Ge hP F (e0.trans (e2.trans e3)) R3 (.cons (.ref (R.K6 x)) (r.ext (e2.trans e3))) h (Q:=λv H2=>v=.br/\Q (.ref x) H2) λd g' q bJ H' v e' R' r'=>by
  obtain⟨rfl,q⟩:=q;exact⟨r'.zQ,q bJ H' _ (e0.trans (e2.trans (e3.trans e'))) R' (.ref (e'.get (R.K6 x)))⟩
 exact this
theorem UZ{es:List Expr}{e:Expr}{iN:ME}(hx:Passes (jM X.prog X.w) X Ξ.2)(F:qo X P Ξ.1 k f fa fd ps)(M:Mk X.K C fa)(hC:x2 X.K x C)(hc:kK X.K C)(hr:A6 (k+1) X.A)(hg:Gl X x)(hm:X.mg x=some (.ref C))(ha:PA X (e::es) (LA X.K Ξ (gw P iN)))(hd:(x==("__debug__":Str))=false)(eB:starEach (e::es) X.env=(false,eval e X.env)::starEach es X.env)(iw:(backTo pos (starEach es X.env)).any (·.1)=false):PE X (.Call (.Name x p) (e::es) [] pos) (LE X.K Ξ (aX P (.make x f iN))) :=
 (UD M F.1 hr hg hm F.2.1 .nil hx ha hd eB iw).imp λcj H Q bq=>by
  obtain⟨Z,g,ρ,s,R,h⟩:=bq;exact kS hP s R (.refl _ _) h λxs g1 bV H1 vs e1 R1 r1 h=>Mg hP F hC hc e1 R1 r1 h
theorem WN(hx:Passes (jM X.prog X.w) X Ξ.2)(F:qo X P Ξ.1 k f fa fd ps)(M:Mk X.K C fa)(hC:x2 X.K x C)(hc:kK X.K C)(hr:A6 (k+1) X.A)(hg:Gl X x)(hm:X.mg x=some (.ref C))(hd:(x==("__debug__":Str))=false):PE X (.Call (.Name x p) [] [] pos) (LE X.K Ξ (aX P (.make x f .nil))) :=
 (Wn M F.1 hr hg hm F.2.1 .nil hx hd).imp λcj H Q bq=>by
  obtain⟨Z,g,ρ,s,R,h⟩:=bq;exact Mg hP F hC hc (.refl _ _) R .nil h
end
inductive oO(K:PySem.W.Frag)(ρ:List Addr)(H:Hp):List D->List (V×V)->Prop
 |nil:oO K ρ H [] []
 |cons {k d:D} {x y:V} {ds:List D} {ps:List (V×V)} (h1:f9 K ρ H k x) (h2:f9 K ρ H d y) (r:oO K ρ H ds ps):oO K ρ H (k::d::ds) ((x,y)::ps)
section
variable{X:Cx}{Ξ:ij}{P:fj}(hP:j9 P)
inductive yF(X:Cx)(Ξ:ij)(P:fj):List (Option Expr)->List Expr->ME->List (TE×TE)->Prop
 |nil:yF X Ξ P [] [] .nil []
 |cons {k v:Expr} {ks:List (Option Expr)} {vs:List Expr} {mk mv ms:ME} {yP:List (TE×TE)} (hk:PE X k (LE X.K Ξ (aX P mk))) (hv:PE X v (LE X.K Ξ (aX P mv))) (r:yF X Ξ P ks vs ms yP) :
   yF X Ξ P (some k::ks) (v::vs) (.cons mk (.cons mv ms)) ((LE X.K Ξ (aX P mk),LE X.K Ξ (aX P mv))::yP)
theorem yF.len{ks vs ms yP}(h:yF X Ξ P ks vs ms yP):ks.all (·.isSome)=true/\ks.length=vs.length:=by
 induction h with
 |nil=>exact⟨rfl,rfl⟩
 |cons hk hv r ih=>exact⟨by simpa using ih.1,by simp[ih.2]⟩
include hP
end
theorem Zl{l:List D}(ht:TupAt K H0 a vs)(rs:d7 K gQ H0 l vs):pC K gQ H0 (.fix l) (GZ K a):=by
 intro ρ g H e R i;have sj:=ht.ext e;have lU:=rs.ext e;refine⟨λh=>⟨vs,sj.sq,?_⟩,λd h=>?_⟩
 ·simp only[IK.at] at h;have:=dn.mp (aR h);rw[<- lU.length];exact this
 ·simp only[IK.at] at h;obtain⟨v,hv,rv⟩:=lU.get (aR h);refine⟨⟨vs,v,sj.sq,hv⟩,λw H' y=>?_⟩;obtain⟨rfl,y⟩:=y;have:=y vs sj.sq;rw[hv] at this;cases this;exact⟨.refl _ _,R,rv⟩
theorem Zj(ha:gQ[j]?=some a):pC K gQ H0 (.lst j) (Ha K a):=by
 intro ρ g H e R i;have ng:=e.get ha;refine⟨λh=>?_,λd h=>?_⟩
 ·simp only[IK.at] at h;cases el:d8 g j with
  |none=>rw[el] at h;cases h
  |some l =>
   rw[el] at h;obtain⟨vs,hq,rs⟩:=R.items el ng;refine⟨vs,hq,?_⟩;have:=dn.mp (aR h);rw[<- rs.length];exact this
 ·simp only[IK.at] at h;cases el:d8 g j with
  |none=>rw[el] at h;cases h
  |some l =>
   rw[el] at h;obtain⟨vs,hq,rs⟩:=R.items el ng;obtain⟨v,hv,rv⟩:=rs.get (aR h);refine⟨⟨vs,v,hq,hv⟩,λw H' y=>?_⟩;obtain⟨rfl,y⟩:=y;have:=y vs hq;rw[hv] at this;cases this;exact⟨.refl _ _,R,rv⟩
theorem JK{lo:Int}{n:Nat}:pC K gQ H0 (.fix (k8 lo n)) (yB lo n):=by
 unfold k8;intro ρ g H e R i;refine⟨λh=>?_,λd h=>?_⟩
 ·simp only[IK.at] at h;have:=dn.mp (aR h);show n<=i;simpa using this
 ·simp only[IK.at] at h;have h:=aR h;have hi:i<n:=by
   have:=(ak.mp h).1;simpa using this
  rw[aj,bC hi] at h;cases h;refine⟨hi,λw H' y=>?_⟩;obtain⟨rfl,rfl⟩:=y;exact⟨.refl _ _,R,.int _⟩
theorem Zk{n:Nat}(ha:gQ[j]?=some a):pC K gQ H0 (.uf j n) (GY K a n):=by
 intro ρ g H e R i;have ng:=e.get ha;refine⟨λh=>?_,λd h=>?_⟩
 ·simp only[IK.at] at h;cases el:d8 g j with
  |none=>rw[el] at h;cases h
  |some l =>
   rw[el] at h;dsimp only at h;by_cases hl:l.length=n
   ·rw[aH hl] at h;have h:=aR h;by_cases hi:i<n
    ·rw[aH hi] at h;have:=dn.mp h;omega
    ·exact iE hi
   ·rw[aE hl] at h;cases h
 ·simp only[IK.at] at h;cases el:d8 g j with
  |none=>rw[el] at h;cases h
  |some l =>
   rw[el] at h;dsimp only at h;by_cases hl:l.length=n
   ·rw[aH hl] at h;have h:=aR h;by_cases hi:i<n
    ·rw[aH hi] at h;obtain⟨vs,hq,rs⟩:=R.items el ng;obtain⟨v,hv,rv⟩:=rs.get h;refine⟨⟨vs,v,hq,by rw[<- rs.length];exact hl,hi,hv⟩,λw H' y=>?_⟩;obtain⟨rfl,y⟩:=y;have:=y vs hq;rw[hv] at this;cases this;exact⟨.refl _ _,R,rv⟩
    ·rw[aE hi] at h;cases h
   ·rw[aE hl] at h;cases h
theorem Zi(ha:gQ[j]?=some a):pC K gQ H0 (.qc j) (Hb K a):=by
 intro ρ g H e R i;have ng:=e.get ha;refine⟨λh=>?_,λd h=>?_⟩
 ·simp only[IK.at] at h;cases el:d8 g j with
  |none=>rw[el] at h;cases h
  |some l =>
   rw[el] at h;obtain⟨vs,hq,rs⟩:=R.items el ng;refine⟨vs,hq,?_⟩;have h:=aR h;rw[Option.map_eq_none_iff] at h;have:=dn.mp h;rw[<- rs.length];exact this
 ·simp only[IK.at] at h;cases el:d8 g j with
  |none=>rw[el] at h;cases h
  |some l =>
   rw[el] at h;obtain⟨vs,hq,rs⟩:=R.items el ng;have h:=aR h;rw[aa] at h;obtain⟨d',hd,rfl⟩:=h;obtain⟨v,hv,rv⟩:=rs.get hd;refine⟨⟨vs,v,hq,hv⟩,λw H' y=>?_⟩;obtain⟨p,x,hp,rfl,y,rfl⟩:=y;have:=y vs hq;rw[hv] at this;cases this;exact⟨E4 hp,R.grow hp,.tup (.inl x8) (.cons (.int _) (.cons (rv.ext (E4 hp)) .nil))⟩
end M
namespace L2
open PySem PySem.Spec PyProof.Rows
theorem bA7{X:Cx}{tg l:Expr}{tl:TE}(hl:PE X l tl):PI X tg l (λZ H R=>tl Z H λx H1=>(∃a,x=.ref a/\(∃xs,fO X.K H1 a xs)/\R (Ha X.K a) H1)\/(∃a,x=.ref a/\(∃xs,jo X.K H1 a xs)/\R (GZ X.K a) H1)):=by
 intro pins s Z H R I h;refine cO (hl pins s Z H _ I h) λv s1 bq=>?_;obtain⟨x,H1,I1,r1,q1⟩:=bq;rcases q1 with⟨a,e,⟨xs,hq⟩,q⟩|⟨a,e,⟨xs,hq⟩,q⟩
 ·subst e;cases r1;obtain⟨bo,rv,p,hz⟩:=I1.list hq;refine fS p.isList ?_;refine⟨s1.heap.objs.size,[s1.heap.objs.size],_,_,H1,rfl,I1.kept (t':=s1.toks) λb o e=>au _ e,aZ4 a _,⟨_,aI _ rfl,rfl,rfl⟩,λb hb=>?_,q⟩;have e:b=s1.heap.objs.size:=by simpa using hb
  subst e;exact I1.rf (az _) (I1.bZ.fresh (az _))
 ·subst e;cases r1;obtain⟨bo,rv,p,hz⟩:=I1.tuple hq;refine wpAny_pyIter_tuple (show s1.heap.IsTuple a bo.toArray from p) ?_;refine⟨s1.heap.objs.size,[s1.heap.objs.size],_,_,H1,rfl,I1.kept (t':=s1.toks) λb o e=>au _ e,aS0 a _,⟨_,aI _ rfl,rfl,rfl⟩,λb hb=>?_,q⟩;have e:b=s1.heap.objs.size:=by simpa using hb
  subst e;exact I1.rf (az _) (I1.bZ.fresh (az _))
end L2
namespace M
open PySem L2 PySem.Spec PyProof.Rows
variable{X:Cx}{tg:Expr}{pos p tp:Pos}{i:Nat}{x:Str}{t:MT}{mi:ME}
section
variable{Ξ:ij}{P:fj}(hP:j9 P){a b:Expr}{ma mb:ME}
include hP
theorem SI(ha:PE X a (LE X.K Ξ (aX P ma))):PI X tg a (LI X.K Ξ (gK P (.eU ma))) :=
 (bA7 ha).imp λcj H R bq=>by
  obtain⟨Z,g,ρ,s,Rr,h⟩:=bq;refine fK hP s Rr (.refl _ _) h λx g1 bV H1 v1 e1 R1 r1 h=>?_;rcases h with⟨l,rfl,h⟩|⟨i,l,rfl,hl,h⟩
  ·obtain⟨a',vs,rfl,ht,rs⟩:=r1.S1;exact .inr ⟨_,rfl,⟨_,ht.sq⟩,h bV H1 _ e1 R1 (Zl ht rs)⟩
  ·obtain⟨a',rfl,ng⟩:=r1.m9;obtain⟨vs,hq,rs⟩:=R1.items hl ng;exact .inl ⟨_,rfl,⟨_,hq⟩,h bV H1 _ e1 R1 (Zj ng)⟩
theorem Vd{elts:List Expr}{x1:Nat}(ha:PE X a (LE X.K Ξ (aX P ma)))(hg:Gl X "enumerate")(hm:X.mg "enumerate"=none)(hs:starEach [a] X.env=[(false,eval a X.env)]):PI X (.Tuple elts x1 tp) (.Call (.Name "enumerate" p) [a] [] pos) (LI X.K Ξ (gK P (.lX ma))) :=
 (UH hg hm (C3 hP ha (K7 hP) (by rw[hs];rfl)) hs).imp λcj H R bq=>by
  obtain⟨Z,g,ρ,s,Rr,h⟩:=bq;refine kS hP (m:=.cons ma .nil) s Rr (.refl _ _) (Q0:=λxs g1=>∃a l,xs=[.ref a]/\d8 g1 a=some l/\∀bJ H' J,Ext ρ H bJ H'->Rl X.K bJ g1 H'->pC X.K bJ H' (.qc a) J->R J H') ?_ λxs g1 bV H1 vs e1 R1 r1 h=>?_
  ·skip
   exact d5 hP ma _ _ _ _ _ _ (λx g1 ⟨i,l,e,hl,h⟩=>⟨i,l,by rw[e],hl,h⟩) (λ_ _ z=>z) h
  ·obtain⟨j,l,rfl,hl,h⟩:=h;obtain⟨v,rfl,rv⟩:=r1.one;obtain⟨a',rfl,ra⟩:=rv.m9;obtain⟨vs,hq,rs⟩:=R1.items hl ra;exact⟨_,rfl,⟨_,hq⟩,h bV H1 _ e1 R1 (Zi ra)⟩
theorem SH(ha:PE X a (LE X.K Ξ (aX P ma)))(hg:Gl X "reversed")(hm:X.mg "reversed"=none)(hs:starEach [a] X.env=[(false,eval a X.env)]):PI X tg (.Call (.Name "reversed" p) [a] [] pos) (LI X.K Ξ (gK P (.oW ma))) :=
 (bA8 hg hm (C3 hP ha (K7 hP) (by rw[hs];rfl)) hs).imp λcj H R bq=>by
  obtain⟨Z,g,ρ,s,Rr,h⟩:=bq;refine kS hP (m:=.cons ma .nil) s Rr (.refl _ _) (Q0:=λxs g1=>∃a l,xs=[.ref a]/\d8 g1 a=some l/\∀bJ H' J,Ext ρ H bJ H'->Rl X.K bJ g1 H'->pC X.K bJ H' (.uf a l.length) J->R J H') ?_ λxs g1 bV H1 vs e1 R1 r1 h=>?_
  ·skip
   exact d5 hP ma _ _ _ _ _ _ (λx g1 ⟨i,l,e,hl,h⟩=>⟨i,l,by rw[e],hl,h⟩) (λ_ _ z=>z) h
  ·obtain⟨j,l,rfl,hl,h⟩:=h;obtain⟨v,rfl,rv⟩:=r1.one;obtain⟨a',rfl,ra⟩:=rv.m9;obtain⟨vs,hq,rs⟩:=R1.items hl ra;exact⟨_,vs,rfl,hq,h bV H1 _ e1 R1 (by rw[rs.length];exact Zk ra)⟩
theorem Ve(ha:PE X a (LE X.K Ξ (aX P ma)))(hg:Gl X "range")(hm:X.mg "range"=none)(hs:starEach [a] X.env=[(false,eval a X.env)]):PI X tg (.Call (.Name "range" p) [a] [] pos) (LI X.K Ξ (gK P (.eQ ma))) :=
 (a22 hg hm (C3 hP ha (K7 hP) (by rw[hs];rfl)) hs).imp λcj H R bq=>by
  obtain⟨Z,g,ρ,s,Rr,h⟩:=bq;refine kS hP (m:=.cons ma .nil) s Rr (.refl _ _) (Q0:=λxs g1=>∃j:Int,xs=[.int j]/\-(2 ^ 62)<=j/\j<2 ^ 62/\∀bJ H' J,Ext ρ H bJ H'->Rl X.K bJ g1 H'->pC X.K bJ H' (.fix (k8 0 j.toNat)) J->R J H') ?_ λxs g1 bV H1 vs e1 R1 r1 h=>?_
  ·skip
   exact d5 hP ma _ _ _ _ _ _ (λx g1 ⟨j,e,h1,h2,h⟩=>⟨j,by rw[e],h1,h2,h⟩) (λ_ _ z=>z) h
  ·obtain⟨j,rfl,h1,h2,h⟩:=h;obtain⟨v,rfl,rv⟩:=r1.one;obtain rfl:=rv.k9;exact⟨_,rfl,h1,h2,h bV H1 _ e1 R1 JK⟩
theorem Vf(ha:PE X a (LE X.K Ξ (aX P ma)))(hb:PE X b (LE X.K Ξ (aX P mb)))(hg:Gl X "range")(hm:X.mg "range"=none)(hs:starEach [a,b] X.env=[(false,eval a X.env),(false,eval b X.env)])(jO:starEach [b] X.env=[(false,eval b X.env)]) :
  PI X tg (.Call (.Name "range" p) [a,b] [] pos) (LI X.K Ξ (gK P (.jF ma mb))) :=
 (a21 hg hm (C3 hP ha (C3 hP hb (K7 hP) (by rw[jO];rfl)) (by rw[hs,jO])) hs jO).imp λcj H R bq=>by
  obtain⟨Z,g,ρ,s,Rr,h⟩:=bq;refine kS hP (m:=.cons ma (.cons mb .nil)) s Rr (.refl _ _) (Q0:=λxs g1=>∃i j:Int,xs=[.int i,.int j]/\(-(2 ^ 62)<=i/\i<2 ^ 62/\-(2 ^ 62)<=j/\j<2 ^ 62)/\∀bJ H' J,Ext ρ H bJ H'->Rl X.K bJ g1 H'->pC X.K bJ H' (.fix (k8 i (j-i).toNat)) J->R J H') ?_ λxs g1 bV H1 vs e1 R1 r1 h=>?_
  ·skip
   exact d5 hP ma _ _ _ _ _ _ (λx g1 h=>d5 hP mb _ _ _ _ _ _ (λy g2 ⟨i,j,e,e',h1,h⟩=>⟨i,j,by rw[e,e'],h1,h⟩) (λ_ _ z=>z) h) (λ_ _ z=>z) h
  ·obtain⟨i,j,rfl,h1,h⟩:=h;obtain⟨v,w,rfl,rv,fX⟩:=r1.two;obtain rfl:=rv.k9;obtain rfl:=fX.k9;exact⟨_,_,rfl,h1,h bV H1 _ e1 R1 JK⟩
end
theorem SG(hN:X.Nd)(hi:X.N[i]?=some x)(hx:Loc X.env.scope x)(hf:X.fn x=true\/X.env.scope.names.lookup x=some .local):PG X (.Name x pos) (LG X.K (.one i)) :=
 (Mm hN hi hx hf).imp λv cj H Q hq=>by
  obtain⟨d,Z,g,ρ,s,R,r,h⟩:=hq;exact h _ (s.set i r)
inductive fW(X:Cx):List Expr->List Nat->Prop
 |nil:fW X [] []
 |cons {x:Str} {p:Pos} {i:Nat} {es:List Expr} {is:List Nat} (hi:X.N[i]?=some x) (hx:Loc X.env.scope x) (hf:X.fn x=true\/X.env.scope.names.lookup x=some .local) (r:fW X es is):fW X (.Name x p::es) (i::is)
def Gy:List Nat->rj
 |[]=>Kf
 |i::is=>JH (uT i) (Gy is)
theorem a23(hN:X.Nd){es:List Expr}{is:List Nat}(h:fW X es is):yy X es (Gy is):=by
 induction h with
 |nil=>exact UG
 |cons hi hx hf r ih=>exact Wq (Mm hN hi hx hf) ih rfl
theorem Fy:∀{es:List Expr} {is:List Nat},fW X es is->(assignEach es X.env).length=is.length/\(assignEach es X.env).findIdx? (·.1)=none
 |_,_,.nil=>⟨rfl,rfl⟩
 |_,_,.cons (x:=x) (p:=p) (es:=es) hi hx hf r=>by
  obtain⟨h1,h2⟩:=Fy r;have e:assignEach (.Name x p::es) X.env=(false,assign (.Name x p) X.env)::assignEach es X.env:=rfl;rw[e];refine⟨by simp[h1],?_⟩;rw[List.findIdx?_cons,h2]
  rfl
theorem Ny{K:PySem.W.Frag}{ρ:List Addr}{H:Hp}{k:S->Prop}{Q:L2.St->Hp->Prop}:∀{is:List Nat} {l:List D} {vs:List V} {Z bU:S} {cj:L2.St},J7 is l Z=some bU->d7 K ρ H l vs->v8 K ρ H Z cj->(∀dz,v8 K ρ H bU dz->Q dz H)->Gy is vs cj H Q
 |[],_,_,_,_,_,h,.nil,s,q=>by
  simp only[J7] at h;cases h;exact⟨rfl,q _ s⟩
 |[],_,_,_,_,_,h,.cons _ _,s,q=>by simp only[J7] at h;cases h
 |i::is,_,_,_,_,_,h,.nil,s,q=>by simp only[J7] at h;cases h
 |i::is,_,_,_,_,_,h,.cons r rr,s,q=>by
  simp only[J7] at h;exact⟨_,_,rfl,Ny (k:=k) h rr (s.set i r) q⟩
theorem KW:∀{is:List Nat} {l:List D} {Z bU:S},J7 is l Z=some bU->l.length=is.length
 |[],[],_,_,_=>rfl
 |[],_::_,_,_,h=>by simp only[J7] at h;cases h
 |_::_,[],_,_,h=>by simp only[J7] at h;cases h
 |_::is,_::l,_,_,h=>by simp only[J7] at h;simp[KW h]
theorem My{es:List Expr}{is:List Nat}{k:Nat}(hc:X.calm=true)(hN:X.Nd)(hs:fW X es is):PG X (.Tuple es k pos) (LG X.K (.many is)) :=
 (bA9 hc (a23 hN hs) (Fy hs).1 (Fy hs).2).imp λv cj H Q bq=>by
  obtain⟨d,Z,g,ρ,s,R,r,h⟩:=bq;obtain⟨l,bU,rfl,e,h⟩:=h;obtain⟨a',vs,rfl,ht,rs⟩:=r.S1;exact⟨_,_,rfl,ht.sq,by rw[<- rs.length];exact KW e,Ny (k:=λ_=>True) e rs s h⟩
theorem LN.ext{K ρ H N bV H1}(e:Ext ρ H bV H1):(LN K ρ H N).le (LN K bV H1 N) :=
 ⟨λZ g h bJ H' dz e' R s=>h bJ H' dz (e.trans e') R s,λd g h=>h.ext e,λZ g h bJ H' dz e' R s=>h bJ H' dz (e.trans e') R s,λZ g h bJ H' dz e' R s=>h bJ H' dz (e.trans e') R s⟩
section
variable{Ξ:ij}{P:fj}(hP:j9 P){a b c:Expr}{ma mb mc:ME}{st:Stmt}{rest:List Stmt}{BJ nZ:MS}
include hP
theorem zU:jL X [] (LS X.K Ξ (wpS P .pass)) :=
 (UM (X:=X)).imp λN cj H ⟨Z,g,ρ,s,R,h⟩=>h ρ H cj (.refl _ _) R s
theorem An(h1:PS X st (LS X.K Ξ (wpS P BJ)))(h2:jL X rest (LS X.K Ξ (wpS P nZ))):jL X (st::rest) (LS X.K Ξ (wpS P (.seq BJ nZ))) :=
 (Wv h1 h2).imp λN cj H ⟨Z,g,ρ,s,R,h⟩ =>
  ub hP s R (.refl _ _) (show wpS P BJ { LN X.K ρ H N with nx:=λjl g1=>wpS P nZ (LN X.K ρ H N) jl g1 (LX X.K ρ H Ξ) } Z g (LX X.K ρ H Ξ) from h) ⟨λjl g1 h bV H1 Ot e1 R1 s1=>ub hP s1 R1 e1 h (LN.ext e1),λ_ _ z=>z,λ_ _ z=>z,λ_ _ z=>z⟩
theorem EN(ha:PE X a (LE X.K Ξ (aX P ma)))(hs:swapsWith a none pos.line X.env=pure false):PS X (.Expr a pos) (LS X.K Ξ (wpS P (.expr ma))) :=
 (UJ ha hs).imp λN cj H ⟨Z,g,ρ,s,R,h⟩=>fK hP s R (.refl _ _) h λx g1 bV H1 v1 e1 R1 r1 h=>h bV H1 cj e1 R1 (s.ext e1)
theorem LJ(h0:PS X (.Assign [.Name x p] a pos) (yn (LE X.K Ξ (aX P ma)) (uT i))):PS X (.Assign [.Name x p] a pos) (LS X.K Ξ (wpS P (.set i ma))) :=
 h0.imp λN cj H ⟨Z,g,ρ,s,R,h⟩=>fK hP s R (.refl _ _) h λx g1 bV H1 v1 e1 R1 r1 h=>h bV H1 _ e1 R1 ((s.ext e1).set i r1)
theorem Ta(h0:PS X (.Assign [tg] a pos) (yn (LE X.K Ξ (aX P ma)) (LG X.K t))):PS X (.Assign [tg] a pos) (LS X.K Ξ (wpS P (.mx t ma))) :=
 h0.imp λN cj H ⟨Z,g,ρ,s,R,h⟩=>fK hP s R (.refl _ _) h λx g1 bV H1 v1 e1 R1 r1 h=>⟨x,Z,g1,bV,s.ext e1,R1,r1,A8 (λbU h dz s'=>h bV H1 dz e1 R1 s') h⟩
theorem a97(hu:X.A.units+100<cLine){o i:Expr}{mo:ME}(ha:PE X a (LE X.K Ξ (aX P ma)))(ho:PE X o (LE X.K Ξ (aX P mo)))(hi:PE X i (LE X.K Ξ (aX P mi)))(hs:swapsWithSole [.Subscript o i tp] a pos.line X.env=pure false)(ng:∀ v,assign (.Subscript o i tp) X.env v=(do
   let ov <- holding [v] (eval o X.env)
   let iv <- holding [v,ov] (eval i X.env)
   standAt tp
   holding [v,ov,iv] (setItem ov iv v)
   release [v,ov,iv] [])):PS X (.Assign [.Subscript o i tp] a pos) (LS X.K Ξ (wpS P (.eJ mo mi ma))) :=
 (NO ha (bB0 ho hi (SF hu) ng) hs).imp λN cj H ⟨Z,g,ρ,s,R,h⟩ =>
  fK hP s R (.refl _ _) h λx g1 bV H1 v1 e1 R1 r1 h=>fK hP (s.ext e1) R1 e1 h λy g2 fg H2 v2 e2 R2 r2 h=>fK hP (s.ext (e1.trans e2)) R2 (e1.trans e2) h λz g3 jx H3 v3 e3 R3 r3 h =>
   ⟨y,z,x,g3,jx,R3,r2.ext e3,r3,r1.ext (e2.trans e3),X7 (λg4 h rE H4 e4 R4=>h rE H4 cj (e1.trans (e2.trans (e3.trans e4))) R4 (s.ext (e1.trans (e2.trans (e3.trans e4))))) h⟩
omit hP in
def Gn(K:PySem.W.Frag)(f:Str)(cs:List Str):Prop:=∀c C,c∈cs->x2 K c C->E8 K C f
omit hP in
theorem Vc{f:Str}{cs:List Str}(hF:Gn X.K f cs){ρ:List Addr}{H:Hp}{g g':G}{x v:D}{xv vv:V}(R:Rl X.K ρ g H)(rx:f9 X.K ρ H x xv)(rv:f9 X.K ρ H v vv)(h:JS f cs x v g g') :
  ∃a C dx fs,xv=.ref a/\H a=some (.ins C dx fs)/\kK X.K C/\E8 X.K C f/\fs.length<1000/\Rl X.K ρ g' (upd H a (.ins C dx (C8 f vv fs)))/\Ext ρ H ρ (upd H a (.ins C dx (C8 f vv fs))):=by
 obtain⟨i,c,fs,rfl,hi,hc,hz,rfl⟩:=h;obtain⟨a',rfl,ra⟩:=rx.m9;obtain⟨C,dx,vs,hH,hC,kA,rk,na⟩:=R.ins hi ra;obtain⟨R',e'⟩:=R.put (o':=.ins c (p8 f v fs)) (u:=.ins C dx (C8 f vv vs)) hi rfl ra ⟨hC,kA,rk.C8 rv,KS (p:=λy=>E8 X.K C y) (hF c C hc hC) na⟩;exact⟨a',C,dx,vs,rfl,hH,kA,hF c C hc hC,by rw[<- rk.length];omega,R',e'⟩
theorem Vl{f:Str}{cs:List Str}{o:Expr}{mo:ME}(hF:Gn X.K f cs)(ho:PE X o (LE X.K Ξ (aX P mo)))(ha:PE X a (LE X.K Ξ (aX P ma)))(hs:swapsWith a (some (.Attribute o f tp)) pos.line X.env=pure false):PS X (.Assign [.Attribute o f tp] a pos) (LS X.K Ξ (wpS P (.jf f cs mo ma))) :=
 (bA5 ho ha hs).imp λN cj H ⟨Z,g,ρ,s,R,h⟩=>fK hP s R (.refl _ _) h λx g1 bV H1 v1 e1 R1 r1 h=>fK hP (s.ext e1) R1 e1 h λy g2 fg H2 v2 e2 R2 r2 h=>by
  obtain⟨g3,h,q⟩:=h;obtain⟨a',C,dx,fs,hx,hH,kA,na,hz,R3,e3⟩:=Vc hF R2 r2 (r1.ext e2) h;exact⟨a',C,dx,fs,hx,hH,kA,na,hz,q fg _ cj (e1.trans (e2.trans e3)) R3 (s.ext (e1.trans (e2.trans e3)))⟩
theorem Vk{op:Operator}{p:Pr}(P':(op=.Add/\p=.iadd)\/(op=.Sub/\p=.oh))(hN:X.Nd)(hi:X.N[i]?=some x)(hx:Loc X.env.scope x)(hf:X.fn x=true\/X.env.scope.names.lookup x=some .local)(ha:PE X a (LE X.K Ξ (aX P ma))):PS X (.AugAssign (.Name x tp) op a pos) (LS X.K Ξ (wpS P (.lG i p ma))):=by
 have ho:NY X op (r2 X.K p):=by
  intro pins s Z H x y v u Q I rx ry h;obtain⟨d,e,g,ρ,R,rd,re,d',g',hr,q⟩:=h;rcases P' with⟨rfl,rfl⟩|⟨rfl,rfl⟩
  ·rcases hr with⟨i,j,ex,rfl,rfl⟩|⟨l,m,ex,hz,rfl,rfl⟩
   ·obtain⟨rfl,rfl⟩:=F1 ex;obtain rfl:=rd.k9;obtain rfl:=re.k9;exact Uc pins s Z H _ _ v u Q I rx ry ⟨i,j,rfl,rfl,q.now R (.int _)⟩
   ·obtain⟨rfl,rfl⟩:=F1 ex;obtain⟨p1,OB,rfl,t1,mB⟩:=rd.S1;obtain⟨p2,Bt,rfl,t2,ug⟩:=re.S1;refine Ub pins s Z H _ _ v u Q I rx ry (.inr ⟨p1,p2,OB,Bt,rfl,rfl,t1.sq,t2.sq,by rw[<- mB.length,<- ug.length];exact v9 hz,λz=>?_,λz=>?_,λp hp=>q.tup R hp (mB.append ug)⟩)
    ·subst z;cases mB;exact q.now R (.tup t2 ug)
    ·subst z;cases ug;rw[fc] at q;exact q.now R (.tup t1 mB)
  ·obtain⟨i,j,ex,rfl,rfl⟩:=hr;obtain⟨rfl,rfl⟩:=F1 ex;obtain rfl:=rd.k9;obtain rfl:=re.k9;exact Ud pins s Z H _ _ v u Q I rx ry ⟨i,j,rfl,rfl,q.now R (.int _)⟩
 refine(bA6 hN hi hx ha ho hf).imp λN cj H bq=>?_;obtain⟨Z,g,ρ,s,R,h⟩:=bq;obtain⟨xd,Pz,h⟩:=h;obtain⟨xv,hv,rx⟩:=s.val _ _ Pz;refine⟨xv,hv,fK hP s R (.refl _ _) h λz g1 bV H1 v1 e1 R1 r1 h=>?_⟩;refine⟨xd,z,g1,bV,R1,rx.ext e1,r1,y9 (λw g2 q=>?_) h⟩;exact λfg H2 v2 e2 R2 r2=>q fg H2 _ (e1.trans e2) R2 ((s.ext (e1.trans e2)).set i r2)
theorem bK3{sa sb:List Stmt}{HK msb:MS}(hc:PT X c (LT X.K Ξ (dh P mc)))(ha:jL X sa (LS X.K Ξ (wpS P HK)))(hb:jL X sb (LS X.K Ξ (wpS P msb))):PS X (.If c sa sb pos) (LS X.K Ξ (wpS P (.ifs mc HK msb))) :=
 (ZP hc ha hb).imp λN cj H ⟨Z,g,ρ,s,R,h⟩=>qt hP s R (.refl _ _) h λt g1 bV H1 e1 R1 h=>by
  cases t
  ·exact ub hP (s.ext e1) R1 e1 h (LN.ext e1)
  ·exact ub hP (s.ext e1) R1 e1 h (LN.ext e1)
theorem NX(ha:PE X a (LE X.K Ξ (aX P ma))):PS X (.Return (some a) pos) (LS X.K Ξ (wpS P (.ret ma))) :=
 (bA3 ha).imp λN cj H ⟨Z,g,ρ,s,R,h⟩=>⟨Z,g,ρ,s,R,h⟩
theorem a96{body:List Stmt}{mb:MS}(hp:PassesOwn (model X.prog X.w) X.A X.env X.xe)(hc:PT X c (LT X.K Ξ (dh P mc)))(hb:jL X body (LS X.K Ξ (wpS P mb))):PS X (.While c body [] pos) (LS X.K Ξ (wpS P (.kR mc mb))) :=
 (Wu hp hc hb).imp λN cj H bq=>by
  obtain⟨Z,g,ρ,s,R,h⟩:=bq;obtain⟨W,⟨m0,w0⟩,h⟩:=h;refine⟨λm dz H'=>∃bU g' bJ,Ext ρ H bJ H'/\v8 X.K bJ H' bU dz/\Rl X.K bJ g' H'/\W m bU g',⟨m0,Z,g,ρ,.refl _ _,s,R,w0⟩,?_⟩;rintro m dz H' ⟨bU,g',bJ,e1,s',R',w'⟩;refine qt hP s' R' e1 (h m bU g' w') λt g1 bV H1 e2 R1 q=>?_;cases t
  ·exact q bV H1 dz (e1.trans e2) R1 (s'.ext e2)
  ·obtain⟨N2,CY,q⟩:=q;refine⟨λkQ H2=>∃cA g2 fg,Ext ρ H fg H2/\v8 X.K fg H2 cA kQ/\Rl X.K fg g2 H2/\N2 cA g2,?_,?_⟩
   ·rintro kQ H2 ⟨cA,g2,fg,e3,s2,R2,n2⟩;obtain⟨m',hm,w2⟩:=CY cA g2 n2;exact⟨m',hm,cA,g2,fg,e3,s2,R2,w2⟩
   ·refine ub hP (s'.ext e2) R1 (e1.trans e2) q ⟨?_,?_,?_,?_⟩
    ·exact λjb g3 n3 jx H3 lQ e3 R3 s3=>⟨jb,g3,jx,(e1.trans e2).trans e3,s3,R3,n3⟩
    ·exact λd g3 h=>h.ext (e1.trans e2)
    ·exact λjb g3 h jx H3 lQ e3 R3 s3=>h jx H3 lQ ((e1.trans e2).trans e3) R3 s3
    ·exact λjb g3 n3 jx H3 lQ e3 R3 s3=>⟨jb,g3,jx,(e1.trans e2).trans e3,s3,R3,n3⟩
theorem SX{iter:Expr}{body:List Stmt}{mb:MS}(hp:PassesOwn (model X.prog X.w) X.A X.env X.xe)(hc:X.calm=true)(hi:PI X tg iter (LI X.K Ξ (gK P mi)))(hg:PG X tg (LG X.K t))(hb:jL X body (LS X.K Ξ (wpS P mb)))(hs:∀x,foldedSetIterable iter X.env x=pure x):PS X (.For tg iter body [] pos) (LS X.K Ξ (wpS P (.dq t mi mb))) :=
 (bA4 hp hc hi hg hb hs).imp λN cj H bq=>by
  obtain⟨Z,g,ρ,s,R,h⟩:=bq;refine⟨Z,g,ρ,s,R,B6 hP mi _ _ _ _ _ _ (λk g1 h bV H1 J e1 R1 j1=>?_) (λ_ _ z=>z) h⟩;obtain⟨W,⟨m0,w0⟩,h⟩:=h;refine⟨λi m dz H'=>∃bU g' bJ,Ext bV H1 bJ H'/\v8 X.K bJ H' bU dz/\Rl X.K bJ g' H'/\W i m bU g',⟨m0,Z,g1,bV,.refl _ _,s.ext e1,R1,w0⟩,?_⟩;rintro i m dz H' ⟨bU,g',bJ,e',s',R',w'⟩;obtain⟨wg,we⟩:=j1 bJ g' H' e' R' i;rcases h i m bU g' w' with⟨ek,q⟩|⟨x,ek,N2,CY,q⟩
  ·exact .inl ⟨wg ek,q bJ H' dz (e1.trans e') R' s'⟩
  ·obtain⟨go,yl⟩:=we x ek;refine .inr ⟨go,λkQ H2=>∃cA g2 fg,Ext bV H1 fg H2/\v8 X.K fg H2 cA kQ/\Rl X.K fg g2 H2/\N2 cA g2,?_,?_⟩
   ·rintro kQ H2 ⟨cA,g2,fg,e2,s2,R2,n2⟩;obtain⟨m',hm,w2⟩:=CY cA g2 n2;exact⟨m',hm,cA,g2,fg,e2,s2,R2,w2⟩
   ·intro v H2 y;obtain⟨e2,R2,r2⟩:=yl v H2 y;refine⟨x,bU,g',bJ,s'.ext e2,R2,r2,A8 (λcA q kQ s2=>?_) q⟩;refine ub hP s2 R2 (e1.trans (e'.trans e2)) q ⟨?_,?_,?_,?_⟩
    ·exact λjb g3 n3 jx H3 lQ e3 R3 s3=>⟨jb,g3,jx,(e'.trans e2).trans e3,s3,R3,n3⟩
    ·exact λd g3 h=>h.ext (e1.trans (e'.trans e2))
    ·exact λjb g3 h jx H3 lQ e3 R3 s3=>h jx H3 lQ (e1.trans ((e'.trans e2).trans e3)) R3 s3
    ·exact λjb g3 n3 jx H3 lQ e3 R3 s3=>⟨jb,g3,jx,(e'.trans e2).trans e3,s3,R3,n3⟩
theorem MJ{f7:List Nat}{n:Nat}{jB me:ME}:∀cj H Q,LE X.K Ξ (aX P (.comp f7 n t mi jB me)) cj H Q->Gf (LI X.K Ξ (gK P mi)) f7 n (LG X.K t) (LT X.K (nL Ξ.1) (dh P jB)) (LE X.K (nL Ξ.1) (aX P me)) cj H Q:=λcj H Q bq=>by
 obtain⟨Z,g,ρ,s,R,h⟩:=bq;refine⟨Z,g,ρ,s,R,B6 hP mi _ _ _ _ _ _ (λk g1 h bV H1 J e1 R1 j1=>?_) (λ_ _ z=>z) h⟩;obtain⟨W,⟨m0,w0⟩,h⟩:=h;refine⟨λi m Hj dz H'=>∃ys bU g' bJ,Ext bV H1 bJ H'/\v8 X.K bJ H' bU dz/\Rl X.K bJ g' H'/\d7 X.K bJ H' ys Hj/\W i m ys bU g',⟨m0,[],_,g1,bV,.refl _ _,(s.ext e1).f7 f7 n,R1,.nil,w0⟩,?_⟩;rintro i m Hj dz H' ⟨ys,bU,g',bJ,e',s',R',ry,w'⟩;obtain⟨wg,we⟩:=j1 bJ g' H' e' R' i;rcases h i m ys bU g' w' with⟨ek,q⟩|⟨x,ek,hz,q⟩
 ·exact .inl ⟨wg ek,λp hp=>(q.ext (e1.trans e')).new R' hp ry⟩
 ·obtain⟨go,yl⟩:=we x ek;refine .inr ⟨go,by rw[<- ry.length];exact EF hz,λv H2 y=>?_⟩;obtain⟨e2,R2,r2⟩:=yl v H2 y;refine⟨x,bU,g',bJ,s'.ext e2,R2,r2,A8 (λcA q kQ s2=>?_) q⟩;refine⟨cA,g',bJ,s2,R2,u7 hP jB _ _ _ _ _ _ (λb g3 q jx H3 e3 R3=>?_) (λ_ _ z=>z.elim) q⟩;cases b
  ·obtain⟨m',hm,w3⟩:=q;exact⟨m',hm,ys,cA,g3,jx,(e'.trans e2).trans e3,s2.ext e3,R3,(ry.ext e2).ext e3,by simpa using w3⟩
  ·refine⟨cA,g3,jx,s2.ext e3,R3,d5 hP me _ _ _ _ _ _ (λz g4 q rE H4 v4 e4 R4 r4=>?_) (λ_ _ z=>z.elim) q⟩;obtain⟨m',hm,w4⟩:=q;exact⟨m',hm,ys++[z],cA,g4,rE,(e'.trans e2).trans (e3.trans e4),(s2.ext e3).ext e4,R4,(((ry.ext e2).ext e3).ext e4).append (.cons r4 .nil),by simpa using w4⟩
theorem WQ{elt iter:Expr}{ifs:List Expr}{scope:Scope}{N':List Str}{f7:List Nat}{cl:List (Str×Addr)}{p2 kr:Pos}{jB me:ME}(S:dO X scope N' f7 cl)(hc:X.calm=true)(hi:PI X tg iter (LI X.K Ξ (gK P mi)))(hg:∀pins C s H fp,PG (i0 X pins scope N' cl C s H fp) tg (LG X.K t))(ht:∀pins C s H fp,mO (i0 X pins scope N' cl C s H fp) ifs (LT X.K (nL Ξ.1) (dh P jB)))(he:∀pins C s H fp,PE (i0 X pins scope N' cl C s H fp) elt (LE X.K (nL Ξ.1) (aX P me)))(hs:∀x,foldedSetIterable iter X.env x=pure x)(mZ:Gl X "sorted")(nH:X.mg "sorted"=none):PE X (.Call (.Name "sorted" p2) [.SetComp elt [⟨tg,iter,ifs,0⟩] scope pos] [] kr) (LE X.K Ξ (aX P (.ig f7 N'.length t mi jB me))) :=
 (Ay (Y3 hc) mZ nH (by first|exact rB|decide +kernel) (V2 (Wo S hc hi hg ht he hs) vg)).imp λcj H Q bq=>by
  obtain⟨Z,g,ρ,s,R,h⟩:=bq;refine⟨Z,g,ρ,s,R,B6 hP mi _ _ _ _ _ _ (λk g1 h bV H1 J e1 R1 j1=>?_) (λ_ _ z=>z) h⟩;obtain⟨W,⟨m0,w0⟩,h⟩:=h;refine⟨λi m ys dz H'=>∃bU g' bJ,Ext bV H1 bJ H'/\v8 X.K bJ H' bU dz/\Rl X.K bJ g' H'/\W i m ys bU g',⟨m0,_,g1,bV,.refl _ _,(s.ext e1).f7 f7 _,R1,w0⟩,?_⟩;rintro i m ys dz H' ⟨bU,g',bJ,e',s',R',w'⟩;obtain⟨wg,we⟩:=j1 bJ g' H' e' R' i;rcases h i m ys bU g' w' with⟨ek,hz,q⟩|⟨x,ek,hz,q⟩
  ·exact .inl ⟨wg ek,λp hp=>⟨p,ys,rfl,x8,by omega,λp' kz=>(q.ext ((e1.trans e').trans (E4 hp))).new (R'.grow hp) kz (d7.ofInts _)⟩⟩
  ·obtain⟨go,yl⟩:=we x ek;refine .inr ⟨go,hz,λv H2 y=>?_⟩;obtain⟨e2,R2,r2⟩:=yl v H2 y;refine⟨x,bU,g',bJ,s'.ext e2,R2,r2,A8 (λcA q kQ s2=>?_) q⟩;refine⟨cA,g',bJ,s2,R2,u7 hP jB _ _ _ _ _ _ (λb g3 q jx H3 e3 R3=>?_) (λ_ _ z=>z.elim) q⟩;cases b
   ·obtain⟨m',hm,w3⟩:=q;exact⟨m',hm,cA,g3,jx,(e'.trans e2).trans e3,s2.ext e3,R3,by simpa using w3⟩
   ·refine⟨cA,g3,jx,s2.ext e3,R3,d5 hP me _ _ _ _ _ _ (λz g4 q rE H4 v4 e4 R4 r4=>?_) (λ_ _ z=>z.elim) q⟩;obtain⟨j,rfl,m',hm,w4⟩:=q;obtain rfl:=r4.k9;exact⟨j,rfl,m',hm,cA,g4,rE,(e'.trans e2).trans (e3.trans e4),(s2.ext e3).ext e4,R4,by simpa using w4⟩
end
end M
namespace M
open PySem L2
section
variable{P:fj}(hP:j9 P)
include hP
end
end M
namespace M
open PySem L2 PySem.Spec PyProof.Rows
variable{X:Cx}{Ξ:ij}{P:fj}{x qual:Str}{pos p:Pos}{e o b a:Expr}{c:j7}{i n:Nat}{es args:List Expr}{env:Env}{f:Addr}{r:CF}{m:ME}{s:Shared}{cd:Value}{N:List Str}{scope:Scope}{A:Around}{outer:List Env}{H:Hp}{E:XK}
section
variable(hP:j9 P)
include hP
theorem a98{C:Addr}{B newId gR:String}{bm:List Value}{np eT:Pos}{kC:Expr}{rest:List Expr}{iN:ME}(hc:X.calm=true)(O:OwnCls x C bm newId X.mg X.base)(FB:ExcBaseFacts B newId gR bm)(hg:Gl X x)(ha:PA X (kC::rest) (LA X.K Ξ (gw P iN)))(hr:zX X Ξ.2)(hx:x∈Ξ.1)(hC:x2 X.K x C)(he:starEach (kC::rest) X.env=(false,eval kC X.env)::starEach rest X.env)(fm:(backTo eT (starEach rest X.env)).any (·.1)=false)(hd:(x==("__debug__":Str))=false):PS X (.Raise (some (.Call (.Name x np) (kC::rest) [] eT)) none pos) (LS X.K Ξ (wpS P (.raise x iN))) :=
 (Wt hc O FB hg ha hr he fm hd).imp λN cj H bq=>by
  obtain⟨Z,g,ρ,s,R,h⟩:=bq;refine kS hP s R (.refl _ _) h λds g1 bV H1 vs e1 R1 r1 h=>?_;exact⟨by rw[<- r1.length];exact v9 (aG h.1 ∅),h.2 bV H1 C e1 R1 hx hC⟩
def tJ(X:Cx)(ex:List Str)(D:L2.Ends)(dg:L2.St)(hs:List ExceptHandler):ij:=(ex,λv _ H=>∃C,v=.ref C/\tL X D dg C H hs)
inductive nr(X:Cx)(Ξ:ij)(P:fj):List ExceptHandler->List (Str×ME)->Prop
 |nil (hh:X6 X Ξ.2):nr X Ξ P [] []
 |cons {y:Str} {C':Addr} {p p1 p2:Pos} {e:Expr} {me:ME} {hs:List ExceptHandler} {ms:List (Str×ME)} (hg:Gl X y) (hd:(y==("__debug__":Str))=false) (hm:X.mg y=some (.ref C'))
   (hx:∀x C,x∈Ξ.1->x2 X.K x C->PySem.W.exmOne X.K (.ref C) (.ref C')=some (decide (x=y\/y="MintError"))) (he:∀ea,PE (v5 X ea) e (LE X.K (nL Ξ.1) (aX P me))) (r:nr X Ξ P hs ms) :
   nr X Ξ P (.ExceptHandler (some (.Name y p)) none [.Return (some e) p1] p2::hs) ((y,me)::ms)
theorem Ng{N:L2.Ends}{ρ bJ:List Addr}{H H':Hp}{Z:S}{g:G}{x:Xn}{C:Addr}(hl:Z.length=X.N.length)(e:Ext ρ H bJ H')(R:Rl X.K bJ g H')(hx:x.cls∈Ξ.1)(hC:x2 X.K x.cls C) :
  ∀{hs:List ExceptHandler} {ms:List (Str×ME)},nr X Ξ P hs ms->oS P (LN X.K ρ H N) (Z.map λ_=>none) (LX X.K ρ H Ξ) ms x g->tL X N (List.replicate X.N.length none) C H' hs
 |_,_,.nil hh,q=>⟨Ξ.2,hh,q bJ H' C e R hx hC⟩
 |_,_,.cons (me:=me) hg hd hm Py he r,q=>by
  refine⟨hg,hd,_,_,hm,Py _ _ hx hC,?_⟩;unfold oS at q;split at q
  ·rename_i ex;rw[aH (by simpa using ex)];refine⟨LS X.K (nL Ξ.1) (wpS P (.seq (.ret me) .pass)),λea=>An (X:=v5 X ea) (Ξ:=nL Ξ.1) hP (NX (X:=v5 X ea) hP (he ea)) (zU (X:=v5 X ea) hP),?_⟩;refine⟨Z.map λ_=>none,g,bJ,⟨by simp[hl],λi d z=>?_⟩,R,?_⟩
   ·rw[aj] at z;cases e:Z[i]? with
    |none=>rw[e] at z;cases z
    |some y=>rw[e] at z;cases z
   ·skip
    refine d5 hP me _ _ _ _ _ _ (λd g1 h=>?_) (λ_ _ z=>z.elim) q;exact h.ext e
  ·rename_i ex;rw[aE (by simpa using ex)];exact Ng hl e R hx hC r q
theorem SY{h₀:ExceptHandler}{hs:List ExceptHandler}{ms:List (Str×ME)}{body:List Stmt}{mb:MS}(nG:X.sg=none)(hb:∀pins D,jL (M6 X pins (tR X pins D (h₀::hs))) body (LS X.K (tJ X Ξ.1 D (List.replicate X.N.length none) (h₀::hs)) (wpS P mb)))(hh:nr X Ξ P (h₀::hs) ms):PS X (.Try body (h₀::hs) [] [] pos) (LS X.K Ξ (wpS P (.Y9 mb ms))):=by
 intro pins s cj H N I ⟨Z,g,ρ,sr,R,h⟩;refine NQ (t:=λD _=>LS X.K (tJ X Ξ.1 D (List.replicate X.N.length none) (h₀::hs)) (wpS P mb)) (Ξ:=λD _=>(tJ X Ξ.1 D (List.replicate X.N.length none) (h₀::hs)).2) (λ_=>none) (λ_=>List.replicate X.N.length none) (λ_ _ z=>by cases z) nG (λpins D _ _=>hb pins D) pins s cj H N I ⟨λC H' ⟨C',e,z⟩=>by cases e;exact z,?_⟩;refine⟨Z,g,ρ,sr,R,wpS_mono hP mb _ _ _ _ _ _ ⟨λ_ _ z=>z,λ_ _ z=>z,λ_ _ z=>z,λ_ _ z=>z⟩ (λx g1 q bJ H' C e' R' hm hc=>⟨C,rfl,?_⟩) h⟩;exact Ng (Ξ:=Ξ) hP (sr.len.trans I.len) e' R' hm hc hh q
theorem Vm{y:Str}{C':Addr}{me:ME}{mb:MS}{kE:Stmt}{ie:List Stmt}{p2 ep:Pos}(nG:X.sg=none)(hg:Gl X y)(hd:(y==("__debug__":Str))=false)(hm:X.mg y=some (.ref C'))(hx:∀x C,x∈Ξ.1->x2 X.K x C->PySem.W.exmOne X.K (.ref C) (.ref C')=some (decide (x=y\/y="MintError")))(hh:X6 X Ξ.2)(he:∀ea,jL (v5 X ea) (kE::ie) (LS X.K (nL Ξ.1) (wpS P mb)))(hb:∀pins D Z,PE (M6 X pins (tR X pins D [.ExceptHandler (some (.Name y p)) none (kE::ie) p2]) (some Z)) e (LE X.K (tJ X Ξ.1 D Z [.ExceptHandler (some (.Name y p)) none (kE::ie) p2]) (aX P me)))(hs:swapsWith e none ep.line X.env=pure false) :
  PS X (.Try [.Expr e ep] [.ExceptHandler (some (.Name y p)) none (kE::ie) p2] [] [] pos) (LS X.K Ξ (wpS P (.mW me y mb))):=by
 intro pins s cj H N I ⟨Z,g,ρ,sr,R,h⟩;refine NQ (t:=λD Z=>LS X.K (tJ X Ξ.1 D Z [.ExceptHandler (some (.Name y p)) none (kE::ie) p2]) (wpS P (.seq (.expr me) .pass))) (Ξ:=λD Z=>(tJ X Ξ.1 D Z [.ExceptHandler (some (.Name y p)) none (kE::ie) p2]).2) some id (λ_ _ z=>by cases z;rfl) nG
  (λpins D Z _=>An (X:=M6 X pins _ (some Z)) hP (EN (X:=M6 X pins _ (some Z)) hP (hb pins D Z) hs) (zU (X:=M6 X pins _ (some Z)) hP)) pins s cj H N I ⟨λC H' ⟨C',e,z⟩=>by cases e;exact z,?_⟩
 refine⟨Z,g,ρ,sr,R,d5 hP me _ _ _ _ _ _ (λ_ g1 z=>z) (λx g1 q bJ H' C e' R' ou hc=>⟨C,rfl,hg,hd,_,_,hm,hx _ _ ou hc,?_⟩) h⟩;split at q
 ·rename_i ex;rw[aH (by simpa using ex)];exact⟨_,he,Z,g1,bJ,sr.ext e',R',wpS_mono hP mb _ _ _ _ _ _ (LN.ext e') (λ_ _ z=>z.elim) q⟩
 ·rename_i ex;rw[aE (by simpa using ex)];exact⟨Ξ.2,hh,q bJ H' C e' R' ou hc⟩
end
structure j7 where
 N:List Str
 nm:List (Str×NameKind)
 nJ:Bool
 fns:List (Str×Nat)
 con:List (Str×D)
 blt:List Str
 exc:List Str
 gd:List (Str×List D)
 cls:List (Str×Nat)
 qz:List (Str×Str×Nat)
 pq:List (Str×Str)
 jU:Bool
 jz:Bool
 wr:Bool:=true
def gL:Expr->Bool
 |.Set ..=>false
 |.Starred ..=>false
 |.Slice ..=>false
 |_=>true
def A9:Expr->Bool
 |.ListComp ..=>false
 |.SetComp ..=>false
 |.DictComp ..=>false
 |_=>true
def uX:Expr->Bool
 |.Tuple ..=>false
 |_=>true
def Fx:Expr->Bool
 |.Name ..=>true
 |.Call ..=>true
 |.Subscript ..=>true
 |.Constant ..=>true
 |.Attribute ..=>true
 |.BinOp ..=>true
 |_=>false
def zR:Expr->Bool
 |.Call (.Name ..) [] ..=>false
 |_=>true
def j7.idx(c:j7)(x:Str):Option Nat:=c.N.findIdx? λy=>decide (y=x)
def j7.ua(c:j7)(x:Str):Bool:=match c.nm.lookup x with
 |some .local=>true
 |some .cell=>true
 |some .free=>true
 |_=>false
def j7.gl(c:j7)(x:Str):Bool:=decide (c.nm.lookup x=some .globalImplicit)
def j7.C2(c:j7)(x:Str):Bool:=decide (c.nm.lookup x=some .local)||decide (c.nm.lookup x=some .cell)
def W5(x:Str):Bool:=(x==("__debug__":Str))==false&&(x==("__classdict__":Str))==false&&decide (x≠"__name__")
def Gh:List (Str×String):=[("int","int"),("bool","bool"),("str","str"),("tuple","tuple"),("list","list")]
def Gv:List (Str×Pr):=[("len",.len),("list",.list),("tuple",.tuple),("isinstance",.isin),("all",.all),("max",.max),("min",.min),("int",.int),("any",.any),("sum",.sum)]
def yc:List (Str×Pr):=[("clear",.clear),("pop",.rW)]
def GH:List (Str×Pr):=[("append",.append),("pop",.pop),("get",.get),("add",.kU)]
def zZ:Expr->Option (Str×List Expr)
 |.Call (.Name x _) args [] _=>some (x,args)
 |_=>none
def JB:Expr->Bool
 |.Tuple ..=>true
 |_=>false
def asName:Expr->Option Str
 |.Name x _=>some x
 |_=>none
def frees(sc:Scope):List Str:=(sc.names.filter λy=>decide (y.2=.free)).map (·.1)
def locals(sc:Scope):List Str:=(sc.names.filter λy=>decide (y.2=.local)||decide (y.2=.cell)).map (·.1)
def j7.inner(c:j7)(sc:Scope):j7:={ c with N:=frees sc++locals sc,nm:=sc.names,nJ:=false,jU:=false,jz:=false,wr:=true }
def j7.f7(c:j7)(sc:Scope):List Nat:=(frees sc).map λx=>(c.idx x).getD 0
def j7.EM(c:j7)(sc:Scope):Bool :=
 decide (sc.kind=.function)&&sc.names.all (λy=>!decide (y.2=.cell)||decide (sc.names.lookup y.1=some .cell))&&sc.names.all (λy=>!decide (y.2=.local)||decide (sc.names.lookup y.1=some .local)) &&
 decide (frees sc++locals sc).Nodup&&(frees sc).all (λx=>(c.idx x).isSome&&decide (sc.names.lookup x=some .free)&&(decide (c.nm.lookup x=some .cell)||decide (c.nm.lookup x=some .free)))
def j7.slot(c:j7)(e:Expr):Option Nat:=(asName e).bind λx=>if c.C2 x then c.idx x else none
def j7.slots(c:j7):List Expr->Option (List Nat)
 |[]=>some []
 |e::r=>(c.slot e).bind λi=>(c.slots r).map λis=>i::is
def j7.tg(c:j7)(e:Expr):Option MT:=((c.slot e).map .one).orElse λ_=>match e with
 |.Tuple es _ _=>(c.slots es).map .many
 |_=>none
def tM:Const->Option D
 |.int i=>some (.int i)
 |.bool b=>some (.bl b)
 |.none=>some .br
 |.str x=>some (.str x)
 |_=>none
structure CF where
 e:j7->Expr->Option ME
 t:j7->Expr->Option ME
 s:j7->Stmt->Option MS
section
variable(r:CF)(c:j7)
def c1(p:Pr)(a:Expr):Option ME:=(r.e c a).map λm=>.prim p (.cons m .nil)
def c2(p:Pr)(a b:Expr):Option ME:=(r.e c a).bind λma=>(r.e c b).map λmb=>.prim p (.cons ma (.cons mb .nil))
def M1:List Expr->Option ME
 |[]=>some .nil
 |e::es=>if gL e then(r.e c e).bind λm=>(M1 es).map λms=>.cons m ms else none
def NC:Expr->Option Str
 |.Constant (.str x) _ _=>some x
 |_=>none
def Kb:Expr->Option Expr
 |.FormattedValue e k none _=>if k=-1 then some e else none
 |_=>none
def uR:List Expr->Option ME
 |[]=>some .nil
 |e::es=>((NC e).bind λx=>if x.length<=2000 then(uR es).map λms=>.cons (.lit (.str x)) ms else none).orElse λ_ =>
   (Kb e).bind λa=>(r.e c a).bind λm=>(uR es).map λms=>.cons (.prim .fv (.cons m .nil)) ms
def AJ(op:BoolOp):List Expr->Option ME
 |[]=>none
 |[a]=>r.e c a
 |a::b::rs=>(r.e c a).bind λma=>(AJ op (b::rs)).map λmb=>match op with
  |.And=>.dB ma mb
  |.Or=>.jY ma mb
def AK(op:BoolOp):List Expr->Option ME
 |[]=>none
 |[a]=>r.t c a
 |a::b::rs=>(r.t c a).bind λma=>(AK op (b::rs)).map λmb=>match op with
  |.And=>.dB ma mb
  |.Or=>.jY ma mb
def NG:List Expr->Option ME
 |[]=>some .no
 |[e]=>r.t c e
 |_=>none
def A7:List Stmt->Option MS
 |[]=>some .pass
 |s::rs=>(r.s c s).bind λm=>(A7 rs).map λms=>.seq m ms
def Gk(x:Str):Option ME :=
 if W5 x then(if c.ua x then(c.idx x).map .var else if c.gl x then((c.con.lookup x).map .lit).orElse λ_=>if c.blt.contains x then(Gh.lookup x).map λt=>.lit (.ty t) else none else none) else none
def Bm(op:UnaryOp)(a:Expr):Option ME:=if op=.Not then(r.e c a).map .eI else c1 r c (.un op) a
def j7.AE(b:Expr):Option (List D):=(asName b).bind λx=>if c.gl x&&W5 x then c.gd.lookup x else none
def Xs:CmpOp->Option Bool
 |.In=>some false
 |.NotIn=>some true
 |_=>none
def yq(a:Expr)(ops:List CmpOp)(bs:List Expr):Option ME:=match ops,bs with
 |[op],[b]=>if behindInMarks op b then none else((Xs op).bind λneg=>(c.AE b).bind λkvs=>(r.e c a).map λma=>.prim (AN neg) (.cons (.lit (.tup kvs)) (.cons ma .nil))).orElse λ_=>c2 r c (.cmp op) a b
 |[op,iT],[b,d]=>if lastMarks [op,iT] [b,d] then none else(r.e c a).bind λma=>(r.e c b).bind λmb=>(r.e c d).map λmd=>.chain op iT ma mb md
 |_,_=>none
def Xb:Expr->Option (Option Expr×Option Expr×Option Expr)
 |.Slice lo hi st _=>some (lo,hi,st)
 |_=>none
def FR:Expr->Option Int
 |.Constant (.int i) _ _=>some i
 |_=>none
def Hk(a:Expr):Option Expr->Option Expr->Option Expr->Option ME
 |none,none,none=>c1 r c (.jX false false) a
 |some b,none,none=>c2 r c (.jX true false) a b
 |none,some b,none=>c2 r c (.jX false true) a b
 |some b,some d,none=>(r.e c a).bind λma=>(FR b).bind λi=>(FR d).map λj=>.prim (.jX true true) (.cons ma (.cons (.lit (.int i)) (.cons (.lit (.int j)) .nil)))
 |_,_,_=>none
def GW(a b:Expr):Option ME:=((Xb b).bind λq=>Hk r c a q.1 q.2.1 q.2.2).orElse λ_=>if gL b then((c.AE a).bind λkvs=>(r.e c b).map λmb=>.prim .oH (.cons (.lit (.tup kvs)) (.cons mb .nil))).orElse λ_=>c2 r c .ix a b else none
def Bn(x:Str)(e:Expr):Option ME:=(zZ e).bind λq =>
 if x="list" && q.1="range" && c.blt.contains "list" && c.blt.contains "range" && c.gl "range" then (match q.2 with
  |[a]=>if gL a then c1 r c .jZ a else none
  |[a,b]=>if gL a&&gL b then c2 r c .lh a b else none
  | _=>none)
 else if x="sorted" && q.1="set" && c.blt.contains "sorted" && c.blt.contains "set" && c.gl "set" then (match q.2 with
  |[a]=>if gL a then c1 r c .sset a else none
  | _=>none)
 else if x="len" && q.1="set" && c.blt.contains "len" && c.blt.contains "set" && c.gl "set" then (match q.2 with
  |[a]=>if gL a then c1 r c .pH a else none
  | _=>none)
 else none
def Yv(x:Str)(e:Expr):List Expr->Option ME
 |[]=>Bn r c x e
 |_=>none
def GP(x:Str):Option ME:=if W5 x&&c.gl x then((c.fns.lookup x).map λf=>.call f .nil).orElse λ_=>(c.cls.lookup x).map λf=>.make x f .nil else none
def GQ(x:Str)(e:Expr)(es:List Expr):Option ME:=if W5 x&&c.gl x then(Yv r c x e es).orElse λ_=>(M1 r c (e::es)).bind λms=>((c.fns.lookup x).map λf=>.call f ms).orElse λ_=>((c.cls.lookup x).map λf=>.make x f ms).orElse λ_=>if c.blt.contains x then(Gv.lookup x).map λp=>.prim p ms else none else none
def LP(x:Str):List Expr->Option ME
 |[]=>GP c x
 |e::es=>GQ r c x e es
def GR(o:Expr)(m:Str)(apos pos:Pos)(args:List Expr):Option ME :=
 if zR o && (apos.endLine == pos.line) && decide (args.length < 20) then (r.e c o).bind λmo=>(M1 r c args).bind λms=>if m="index" then (if args.isEmpty then none else some (.dG .index mo ms)) else if args.isEmpty && (yc.lookup m).isSome then (yc.lookup m).map λp=>.dG p mo ms else (match GH.lookup m with
  |some p=>if args.isEmpty then none else some (.dG p mo ms)
  | none=>none) else none
def Gj(f:Expr)(args:List Expr)(jD:List Keyword)(pos:Pos):Option ME:=if jD.isEmpty then(match f with
 |.Name x _=>LP r c x args
 |.Attribute o m apos=>GR r c o m apos pos args
 | _=>none) else none
def xJ(tg e:Expr):Option ME:=(((zZ e).bind λq =>
  if q.1="enumerate" then (match q.2 with
   |[a]=>if c.gl "enumerate"&&c.blt.contains "enumerate"&&gL a&&JB tg then(r.e c a).map .lX else none
   | _=>none)
  else if q.1="reversed" then (match q.2 with
   |[a]=>if c.gl "reversed"&&c.blt.contains "reversed"&&gL a then(r.e c a).map .oW else none
   | _=>none)
  else if q.1="range" then (match q.2 with
   |[a]=>if c.gl "range"&&c.blt.contains "range"&&gL a then(r.e c a).map .eQ else none
   |[a,b]=>if c.gl "range"&&c.blt.contains "range"&&gL a&&gL b then(r.e c a).bind λma=>(r.e c b).map λmb=>.jF ma mb else none
   | _=>none)
  else none):Option ME).orElse λ_=>if gL e then (r.e c e).map .eU else none
def tT(elt:Expr)(gens:List Comprehension)(sc:Scope):Option ME:=match gens with
 |[⟨tg,it,ifs,HU⟩]=>if c.EM sc&&decide (HU=0)&&gL it then((c.inner sc).tg tg).bind λt=>(xJ r c tg it).bind λmi=>(NG r (c.inner sc) ifs).bind λmc=>(r.e (c.inner sc) elt).map λme=>.comp (c.f7 sc) (frees sc++locals sc).length t mi mc me else none
 |_=>none
def WZ:Expr->Option Str
 |.Name x _=>some x
 |_=>none
def Xa:Expr->Option (Expr×List Comprehension×Scope)
 |.SetComp elt gens sc _=>some (elt,gens,sc)
 |_=>none
def Ys:ME->Option ME
 |.comp a n t i k e=>some (.ig a n t i k e)
 |_=>none
def Bo(f:Expr)(args:List Expr)(jD:List Keyword):Option ME:=match args with
 |[a]=>if jD.isEmpty&&decide (WZ f=some "sorted")&&c.gl "sorted"&&c.blt.contains "sorted" then(Xa a).bind λq=>(tT r c q.1 q.2.1 q.2.2).bind Ys else none
 |_=>none
def yM(f:Expr)(args:List Expr)(jD:List Keyword):Option ME:=(λ(_:j7)=>none) c
def GV(es:List Expr)(k:Nat):Option ME:=if c.nJ&&decide (k=0) then(match es with
 |[.Constant (.int i) _ _]=>some (.prim (.kT i) .nil)
 | _=>none) else none
def Ka:Expr->Option (Expr×List Expr×List Keyword×Pos)
 |.Call f a k p=>some (f,a,k,p)
 |_=>none
def JA:Expr->Option (Expr×Str×Pos)
 |.Attribute o m p=>some (o,m,p)
 |_=>none
def JT:Expr->Option ME
 |.Name x _=>Gk c x
 |.Constant k _ _=>(tM k).map .lit
 |.BinOp a op b _=>c2 r c (.bin op) a b
 |.UnaryOp op a _=>Bm r c op a
 |.Compare a ops bs _=>yq r c a ops bs
 |.BoolOp op vs _=>AJ r c op vs
 |.IfExp t a b _=>(r.t c t).bind λmt=>(r.e c a).bind λma=>(r.e c b).map λmb=>.ite mt ma mb
 |.Tuple es _ _=>(M1 r c es).map (.prim .tup)
 |.List es _=>(M1 r c es).map (.prim .lst)
 |.Subscript a b _=>GW r c a b
 |.Dict ks vs _=>if ks.isEmpty&&vs.isEmpty then some (.prim .qi .nil) else none
 |.JoinedStr vs _=>if decide (2<=vs.length)&&decide (vs.length<=40) then(uR r c vs).map (.prim .ni) else none
 |.Attribute o f _=>if zR o then c1 r c (.fld f) o else none
 |.Call f args jD pos=>(Bo r c f args jD).orElse λ_=>(yM c f args jD).orElse λ_=>Gj r c f args jD pos
 |.ListComp elt gens sc _=>tT r c elt gens sc
 |.Set es k _=>GV c es k
 |_=>none
def stepT:Expr->Option ME
 |.UnaryOp op a _=>if op=.Not then(r.t c a).map .eI else none
 |.BoolOp op vs _=>AK r c op vs
 |.Compare a ops bs _=>(yq r c a ops bs).map .fo
 |e=>if Fx e then(r.e c e).map .fo else none
def FW:Expr->Option ME
 |.Constant k _ _=>(tM k).map .lit
 |_=>none
def zN:List Expr->Option ME
 |[]=>some .nil
 |e::es=>(FW e).bind λm=>(zN es).map λms=>.cons m ms
def JF:Expr->Option ME
 |.List es _=>(zN es).map (.prim .lst)
 |.Constant k _ _=>(tM k).map .lit
 |_=>none
def YA:List Stmt->Option Expr
 | [s]=>(match s with
  |.Return e _=>e
  | _=>none)
 |_=>none
def Gs:ExceptHandler->Option (Str×Expr)
 |.ExceptHandler t n b _=>if n.isNone then t.bind λt=>(asName t).bind λy=>(YA b).map λe=>(y,e) else none
def xI:List ExceptHandler->Option (List (Str×ME))
 |[]=>some []
 |h::hs=>(Gs h).bind λq=>if c.exc.contains q.1&&c.gl q.1&&W5 q.1 then(JF q.2).bind λm=>(xI hs).map λms=>(q.1,m)::ms else none
def Eu(e f:Option Expr):Option (Str×Expr×List Expr):=if f.isNone then e.bind λe=>(zZ e).bind λq=>q.2.head?.map λa=>(q.1,a,q.2.tail) else none
def j7.Eh(f:Str):List Str:=(c.pq.filter λy=>decide (y.1=f)).map (·.2)
def Gu:List Expr->Option (Expr×Expr×Expr×Expr)
 |_=>none
def Jq(tg e:Expr):Option MS:=match tg with
 |.Name x _=>if c.C2 x then(c.idx x).bind λi=>(r.e c e).map λm=>.set i m else none
 |.Tuple es _ _=>(Gu es).elim (if uX e&&A9 e then(c.slots es).bind λis=>(r.e c e).map λm=>.mx (.many is) m else none) λq=>if A9 e&&gL q.2.1&&gL q.2.2.2 then(r.e c q.1).bind λm1=>(r.e c q.2.1).bind λn1=>(r.e c q.2.2.1).bind λm2=>(r.e c q.2.2.2).bind λn2=>(r.e c e).map λm=>.yR m1 n1 m2 n2 m else none
 |.Subscript o i _=>if gL i&&A9 e then(r.e c o).bind λmo=>(r.e c i).bind λmi=>(r.e c e).map λm=>.eJ mo mi m else none
 |.Attribute o f _=>(r.e c o).bind λmo=>(r.e c e).map λm=>.jf f (c.Eh f) mo m
 |_=>none
def JC:Operator->Option Pr
 |.Add=>some .iadd
 |.Sub=>some .oh
 |_=>none
def toR(e:Expr)(m:ME):ME:=(λ(_:j7)=>m) c
def xT{α:Type}:List α->Option α
 |[x]=>some x
 |_=>none
def FQ:Stmt->Option (Expr×Pos)
 |.Expr e p=>some (e,p)
 |_=>none
def LR:ExceptHandler->Option (Str×List Stmt)
 |.ExceptHandler t n b _=>if n.isNone then t.bind λt=>(asName t).map λy=>(y,b) else none
def GU(e:Expr):Option ME:=(Ka e).bind λq=>(JA q.1).bind λo=>(asName o.1).bind λx=>(xT q.2.1).bind λa=>if q.2.2.1.isEmpty&&decide (o.2.1="append")&&(o.2.2.endLine==q.2.2.2.line)&&W5 x&&c.ua x then(FW a).bind λma=>(c.idx x).map λi=>.dG .append (.var i) (.cons ma .nil) else none
def AX(body:List Stmt)(hs:List ExceptHandler):Option MS:=(xT body).bind λs=>(FQ s).bind λe=>(xT hs).bind λh=>(LR h).bind λq=>(xT q.2).bind λs2=>(FQ s2).bind λe2=>if A9 e.1&&c.exc.contains q.1&&c.gl q.1&&W5 q.1 then(r.e { c with jU:=false,jz:=false,wr:=false } e.1).bind λme=>(GU c e2.1).map λmb=>.mW me q.1 (.seq (.expr mb) .pass) else none
def JU:Stmt->Option MS
 |.Expr e _=>if A9 e then(r.e c e).map .expr else none
 | .Assign Bx e _=>(match Bx with
  |[tg]=>Jq r c tg e
  | _=>none)
 | .AugAssign tg op e _=>(match tg with
  |.Name x _=>if c.C2 x then(JC op).bind λp=>(c.idx x).bind λi=>(r.e c e).map λm=>.lG i p m else none
  | _=>none)
 |.If t a b _=>(r.t c t).bind λmt=>(A7 r c a).bind λma=>(A7 r c b).map λmb=>.ifs mt ma mb
 |.For tg it body qd _=>if c.nJ&&(qd.isEmpty&&gL it) then(c.tg tg).bind λt=>(xJ r c tg it).bind λmi=>(A7 r c body).map λmb=>.dq t mi mb else none
 |.While t body qd _=>if c.nJ&&qd.isEmpty then(r.t c t).bind λmt=>(A7 r c body).map λmb=>.kR mt mb else none
 | .Return e _=>(match e with
  |some e=>(r.e c e).map λm=>.ret (toR c e m)
  | none=>some .rP)
 |.Pass _=>some .pass
 |.Raise e f _=>(Eu e f).bind λq=>if c.jU&&c.exc.contains q.1&&c.gl q.1&&W5 q.1 then(M1 r c (q.2.1::q.2.2)).map (.raise q.1) else none
 |.Try body hs el fi _=>if c.jz&&!hs.isEmpty&&el.isEmpty&&fi.isEmpty then((A7 r { c with jU:=false,jz:=false,wr:=true } body).bind λmb=>(xI c hs).map λms=>.Y9 mb ms).orElse λ_=>AX r c body hs else none
 |_=>none
end
def comp:Nat->CF
 |0=>⟨λ_ _=>none,λ_ _=>none,λ_ _=>none⟩
 |n+1=>⟨JT (comp n),stepT (comp n),λc s=>(JU (comp n) c s).orElse λ_=>some (.expr .no)⟩
structure hU(X:Cx)(c:j7)(P:fj)(Ξ:ij):Prop where
 N:X.N=c.N
 nd:c.N.Nodup
 loc:∀x,c.nm.lookup x=some .local->X.env.scope.names.lookup x=some .local
 zL:∀x,c.nm.lookup x=some .cell->X.env.scope.names.lookup x=some .cell
 DD:∀x,c.nm.lookup x=some .free->X.env.scope.names.lookup x=some .cell\/X.env.scope.names.lookup x=some .free
 IW:∀x,c.nm.lookup x=some .globalImplicit->X.env.scope.names.lookup x=some .globalImplicit
 cells:∀x,(c.nm.lookup x=some .cell\/c.nm.lookup x=some .free)->∃a,X.env.cells.lookup x=some a
 nJ:∀x,c.nm.lookup x=some .cell->X.fn x=true
 calm:X.calm=true
 units:X.A.units+100<cLine
 own:c.nJ=true->PassesOwn (model X.prog X.w) X.A X.env X.xe
 mono:j9 P
 con:∀x d,c.con.lookup x=some d->∃v u,X.mg x=some u/\RelV v u/\∀ρ H,f9 X.K ρ H d v
 blt:∀x,c.blt.contains x=true->X.mg x=none
 fns:∀x f,c.fns.lookup x=some f->∃k fa fd ps,qo X P Ξ.1 k f fa fd ps/\A6 k X.A/\X.mg x=some (.ref fa)/\PySem.W.keepIn X.K (.ref fa)=true
 cls:∀x f,c.cls.lookup x=some f->∃k C fa fd ps,qo X P Ξ.1 k f fa fd ps/\A6 (k+1) X.A/\X.mg x=some (.ref C)/\x2 X.K x C/\kK X.K C/\Mk X.K C fa
 qz:∀m y f C,(m,y,f)∈c.qz->x2 X.K y C->∃k fa fd ps,Meth X.K C m fa/\qo X P Ξ.1 k f fa fd ps/\A6 k X.A
 pq:∀f y C,(f,y)∈c.pq->x2 X.K y C->E8 X.K C f
 xj:Ξ.1=c.exc
 pass:Passes (jM X.prog X.w) X Ξ.2
 jU:c.jU=true->zX X Ξ.2
 jz:c.jz=true->X.stack=X.env::X.outer/\X.env.frame=some X.env.locals/\X6 X Ξ.2
 exc:∀x,c.exc.contains x=true->∃C,X.mg x=some (.ref C)/\x2 X.K x C/\∃B newId gR bm,OwnCls x C bm newId X.mg X.base/\ExcBaseFacts B newId gR bm
 zE:∀x y C C',c.exc.contains x=true->c.exc.contains y=true->x2 X.K x C->x2 X.K y C'->PySem.W.exmOne X.K (.ref C) (.ref C')=some (decide (x=y\/y="MintError"))
 xg:∀x kvs,c.gd.lookup x=some kvs->AG X x kvs
 code:c.nJ=true->PySem.W.kdsCode X.K X.env.code=true
 sgn:c.wr=true->X.sg=none
theorem Ua(h:c.idx x=some i):c.N[i]?=some x:=by
 unfold j7.idx at h;rw[lH] at h;obtain⟨h1,h2,_⟩:=h;rw[ao h1,bh h2]
theorem hU.JZ(C:hU X c P Ξ)(h:c.ua x=true):yt X.env.scope x:=by
 unfold j7.ua at h;split at h
 ·rename_i e;exact .inl (C.loc x e)
 ·rename_i e;exact .inr (.inl (C.zL x e))
 ·rename_i e;rcases C.DD x e with z|z
  ·exact .inr (.inl z)
  ·exact .inr (.inr z)
 ·cases h
theorem hU.B0(C:hU X c P Ξ)(h:c.gl x=true):Gl X x:=C.IW x (bh h)
theorem hU.C2(C:hU X c P Ξ){x:Str}(h:c.C2 x=true):Loc X.env.scope x/\(X.fn x=true\/X.env.scope.names.lookup x=some .local):=by
 unfold j7.C2 at h;rw[du] at h;rcases h with h|h
 ·have:=C.loc x (bh h);exact⟨.inl this,.inr this⟩
 ·exact⟨.inr (C.zL x (bh h)),.inl (C.nJ x (bh h))⟩
theorem hU.rg(C:hU X c P Ξ)(h:c.idx x=some i):X.N[i]?=some x:=by rw[C.N];exact Ua h
theorem hU.ui(C:hU X c P Ξ)(hw:c.wr=true):X.Nd:=⟨by rw[C.N];exact C.nd,C.sgn hw⟩
theorem P1(h:asName e=some x):∃p,e=.Name x p:=by
 cases e<;>first|(cases h;exact⟨_,rfl⟩)|cases h
theorem M'(h:c.slot e=some i):∃x p,e=.Name x p/\c.C2 x=true/\c.idx x=some i:=by
 unfold j7.slot at h;obtain⟨x,hx,h2⟩:=ag.mp h;obtain⟨p,rfl⟩:=P1 hx;split at h2
 ·exact⟨x,p,rfl,by assumption,h2⟩
 ·cases h2
theorem hU.slots(C:hU X c P Ξ):∀{es:List Expr} {is:List Nat},c.slots es=some is->fW X es is:=by
 intro es
 induction es with
 |nil=>intro is h;cases h;exact .nil
 |cons e r ih =>
  intro is h;unfold j7.slots at h;obtain⟨i,hi,h⟩:=ag.mp h;obtain⟨is',hs,rfl⟩:=aa.mp h;obtain⟨x,p,rfl,hl,hx⟩:=M' hi;exact .cons (C.rg hx) (C.C2 hl).1 (C.C2 hl).2 (ih hs)
theorem orElse_some{α:Type}{a:Option α}{b:Unit->Option α}{m:α}(h:a.orElse b=some m):a=some m\/b Unit.unit=some m:=by
 cases a with
 |none=>exact .inr h
 |some x=>exact .inl h
theorem hU.Ju(C:hU X c P Ξ)(hw:c.wr=true){tg:Expr}{t:MT}(h:c.tg tg=some t):PG X tg (LG X.K t):=by
 unfold j7.tg at h;rcases orElse_some h with h|h
 ·obtain⟨i,hi,rfl⟩:=aa.mp h;obtain⟨x,p,rfl,hl,hx⟩:=M' hi;exact SG (C.ui hw) (C.rg hx) (C.C2 hl).1 (C.C2 hl).2
 ·cases tg<;>first|(cases h;done)|skip
  obtain⟨is,hs,rfl⟩:=aa.mp (show(c.slots _).map MT.many=some t from h);exact My C.calm (C.ui hw) (C.slots hs)
theorem p6(h:gL e=true):starEach (e::es) env=(false,eval e env)::starEach es env:=by
 cases e<;>first|rfl|cases h
theorem Ax(h:gL e=true):∀x,foldedSetIterable e env x=pure x:=by
 intro x;cases e<;>first|rfl|cases h
theorem NL(h:gL e=true):Er e:=by
 intro o i;cases e<;>first|rfl|cases h
theorem Ut{i:Expr}{tp:Pos}(h:gL i=true):∀v,assign (.Subscript o i tp) env v=(do
      let ov <- holding [v] (eval o env)
      let iv <- holding [v,ov] (eval i env)
      standAt tp
      holding [v,ov,iv] (setItem ov iv v)
      release [v,ov,iv] []):=by
  intro v;cases i<;>first|rfl|cases h
theorem T3{t:Option Expr}(h:A9 e=true):swapsWith e t n env=pure false:=by
 cases e<;>first|rfl|cases h
theorem Wd{k:Nat}(h:uX e=true):swappedStores [.Tuple es k p] e env=pure none:=by
 cases e<;>first|rfl|cases h
theorem a20(h:Fx e=true):∀whole,isTrue e env whole=(do let v <- whole;standAt e.pos;holding [v] (truthy v)):=by
 intro w;cases e<;>first|rfl|cases h
theorem FI{q:Str×List Expr}(h:zZ e=some q):∃p pos,e=.Call (.Name q.1 p) q.2 [] pos:=by
 cases e<;>first|(cases h;done)|skip
 rename_i f as jD pos;cases f<;>first|(cases h;done)|skip
 cases jD<;>first|(cases h;done)|skip
 cases h;exact⟨_,_,rfl⟩
theorem a82(h:JB e=true):∃es k p,e=.Tuple es k p:=by
 cases e<;>first|exact⟨_,_,_,rfl⟩|cases h
theorem MM{kvs:List D}(h:c.AE b=some kvs):∃x p,b=.Name x p/\c.gl x=true/\W5 x=true/\c.gd.lookup x=some kvs:=by
 unfold j7.AE at h;obtain⟨x,hx,h2⟩:=ag.mp h;obtain⟨p,rfl⟩:=P1 hx;split at h2
 ·rename_i hc;rw[aP] at hc;exact⟨x,p,rfl,hc.1,hc.2,h2⟩
 ·cases h2
theorem Q4{f:Str}(h:zR o=true):attributeBase o f env (eval o env)=eval o env:=by
 cases o<;>first|rfl|skip
 rename_i f as jD pos;cases f<;>first|rfl|skip
 cases as with
 |nil=>cases h
 |cons=>rfl
theorem EA{env:Env}:∀(names:List (Str×NameKind)) (acc:List (Str×Addr)),(∀y∈names,y.2=.free->∃a,env.cells.lookup y.1=some a)->(∀x a,acc.lookup x=some a->env.cells.lookup x=some a) ->
  ∃ cl,(forIn names acc λ(y:Str × NameKind) (cs:List (Str × Addr))=>(match y with
   |(name,kind)=>if(kind==NameKind.free)=true then do
     let __do_lift <- cellOf env name
     pure (ForInStep.yield ((name,__do_lift)::cs))
    else pure (ForInStep.yield cs):Sem (ForInStep (List (Str × Addr)))))=pure cl/\(∀ x a,cl.lookup x=some a->env.cells.lookup x=some a)/\(∀ y ∈ names,y.2=.free->∃ a,cl.lookup y.1=some a)/\∀ x a,acc.lookup x=some a->∃ a',cl.lookup x=some a'
 |[],acc,_,h2=>⟨acc,rfl,h2,λy hy=>absurd hy (by simp),λx a h=>⟨a,h⟩⟩
 |(n,k)::r,acc,h1,h2=>by
  rw[List.forIn_cons];by_cases hk:k=.free
  ·subst hk;obtain⟨a,ha⟩:=h1 (n,.free) (by simp) rfl;have hc:cellOf env n=pure a:=by unfold cellOf;rw[ha]
   obtain ⟨cl,e,q1,q2,q3⟩:=EA r ((n,a) :: acc) (λy hy=>h1 y (by simp [hy])) (λx b hb=>by
    rw[cL] at hb;cases hx:x==n with
    |true=>rw[hx] at hb;cases hb;rw[eq_of_beq hx];exact ha
    | false=>rw [hx] at hb;exact h2 x b hb)
   refine⟨cl,?_,q1,λy hy hf=>?_,λx b hb=>?_⟩
   ·simp only[beq_self_eq_true,if_true,hc];exact e
   ·rcases aL.mp hy with z|z
    ·subst z;exact q3 n a (by simp[List.lookup_cons])
    ·exact q2 y z hf
   ·cases hx:x==n with
    |true=>exact q3 x a (by rw[cL,hx])
    |false=>exact q3 x b (by rw[cL,hx];exact hb)
  ·have hb:(k==NameKind.free)=false:=by simpa using hk
   obtain⟨cl,e,q1,q2,q3⟩:=EA r acc (λy hy=>h1 y (by simp[hy])) h2;refine⟨cl,?_,q1,λy hy hf=>?_,q3⟩
   ·simp only[hb,Bool.false_eq_true,if_false];exact e
   ·rcases aL.mp hy with z|z
    ·subst z;exact absurd hf hk
    ·exact q2 y z hf
theorem a28{P:Program}{w:World}:Passes (jM P w) X (λ_ _ _=>False):=λ_ _ _ _ _ _ _ h=>by
 obtain⟨_,_,_,_,_,_,_,z⟩:=h;exact z.elim
theorem T8{env:Env}:∀{names:List (Str×NameKind)} {x:Str},names.lookup x=some .globalImplicit ->
  (names.map λ(n,k)=>if(k==NameKind.free&&env.scope.kind==.function&&env.kindOf n==some .cell) then(n,NameKind.cell) else(n,k)).lookup x=some .globalImplicit
 |[],_,h=>by simp at h
 |(n,k)::r,x,h=>by
  have ih:=@T8 env r x;show List.lookup x ((if(k==NameKind.free&&env.scope.kind==.function&&env.kindOf n==some .cell)=true then(n,NameKind.cell) else(n,k))::_)=_;cases hx:x==n with
  |true =>
   simp only[List.lookup_cons,hx] at h;cases h;simp[List.lookup_cons,hx]
  |false =>
   simp only[List.lookup_cons,hx] at h;by_cases hc:(k==NameKind.free&&env.scope.kind==.function&&env.kindOf n==some .cell)=true
   ·rw[aH hc];simp only[List.lookup_cons,hx];exact ih h
   ·rw[aE hc];simp only[List.lookup_cons,hx];exact ih h
theorem hU.comp(C:hU X c P Ξ){sc:Scope}(h:c.EM sc=true):∃cl,dO X sc (frees sc++locals sc) (c.f7 sc) cl/\∀pins A s H fp,hU (i0 X pins sc (frees sc++locals sc) cl A s H fp) (c.inner sc) P (nL Ξ.1):=by
 unfold j7.EM at h;simp only[Bool.and_eq_true,decide_eq_true_eq,List.all_eq_true] at h;obtain⟨⟨⟨⟨h1,h2⟩,h3⟩,h4⟩,h5⟩:=h;have ox:∀x,sc.names.lookup x=some .free->x∈frees sc:=λx hx=>by
  unfold frees;exact aZ.mpr ⟨(x,.free),bp.mpr ⟨aT hx,by simp⟩,rfl⟩
 have fr:∀x∈frees sc,(∃i,c.idx x=some i)/\sc.names.lookup x=some .free/\(c.nm.lookup x=some .cell\/c.nm.lookup x=some .free):=λx hx=>by
  have:=h5 x hx;rw[eV,du] at this;simp only[decide_eq_true_eq] at this;exact⟨this.1.1,this.1.2,this.2⟩
 have tu:∀y∈sc.names,y.2=.free->∃a,X.env.cells.lookup y.1=some a:=λy hy hf=>by
  have hm:y.1∈frees sc:=aZ.mpr ⟨y,bp.mpr ⟨hy,by simp[hf]⟩,rfl⟩;exact C.cells y.1 (fr y.1 hm).2.2
 obtain⟨cl,e,q1,q2,_⟩:=EA sc.names [] tu (λx a h=>by simp at h);have h2:∀y∈sc.names,y.2=.cell->sc.names.lookup y.1=some .cell:=λy hy hl=>by
  have:=h2 y hy;rw[du] at this;simp only[Bool.not_eq_true',decide_eq_false_iff_not,decide_eq_true_eq] at this;exact this.resolve_left λz=>z hl
 refine⟨cl,⟨h1,h2,λy hy hl=>?_,?_,q1,λx hx=>q2 (x,.free) (aT hx) rfl,h4,λi j jn=>?_,?_⟩,λpins A s H fp=>?_⟩
 ·have:=h3 y hy;rw[du] at this;simp only[Bool.not_eq_true',decide_eq_false_iff_not,decide_eq_true_eq] at this;exact this.resolve_left λz=>z hl
 ·simp only[closureFor];rw[e]
  rfl
 ·unfold j7.f7 at jn;rw[aj] at jn;cases ex:(frees sc)[i]? with
  |none=>rw[ex] at jn;cases jn
  |some x =>
   rw[ex] at jn;have hx:x∈frees sc:=aD ex;obtain⟨⟨k,hk⟩,hl,hc⟩:=fr x hx;have hj:k=j:=by
    have:=aR jn;dsimp only at this;rw[hk] at this;exact this
   subst hj;refine⟨x,?_,C.rg hk,hl,?_⟩
   ·rw[aK (ak.mp ex).1];exact ex
   ·rcases hc with z|z
    ·exact .inl (C.zL x z)
    ·exact C.DD x z
 ·unfold j7.f7;rw[ai,bj];omega
 ·refine⟨rfl,h4,λx hx=>lookup_relabel_local hx,λx hx=>?_,λx hx=>K4 hx,λx hx=>T8 hx,λx hx=>?_,λx _=>?_,rfl,C.units,(λ_=>PassesOwn.never),C.mono,C.con,C.blt,C.fns,C.cls,C.qz,C.pq,C.xj,a28,(λz=>by cases z),(λz=>by cases z),C.exc,C.zE,C.xg,(λz=>by cases z),λ_=>rfl⟩
  ·exact P5 hx
  ·rcases hx with hx|hx
   ·exact Nw (.inl hx)
   ·exact Nw (.inr (q2 (x,.free) (aT hx) rfl))
  ·exact aw ‹_›
theorem F3(h:W5 x=true):(x==("__debug__":Str))=false/\(x==("__classdict__":Str))=false/\x≠"__name__":=by
 unfold W5 at h;simp only[Bool.and_eq_true,decide_eq_true_eq,beq_iff_eq] at h;exact⟨h.1.1,h.1.2,h.2⟩
theorem a92{t:String}(h:Gh.lookup x=some t):bootBuiltins x=some (.type t):=by
 have hm:=aT h;simp only[Gh,List.mem_cons,List.mem_nil_iff,or_false] at hm;rcases hm with z|z|z|z|z<;>(cases z;first|exact yK|exact PyProof.Rows.boot_bool|exact PyProof.Rows.boot_str|exact tZ|exact ft|decide +kernel|rfl)
theorem a80{p:Pr}(hc:X.calm=true)(hu:X.A.units+100<cLine)(h:Gv.lookup x=some p):∃v,((∃id,v=.builtin id)\/∃T,v=.type T)/\bootBuiltins x=some v/\q9 X v (rN X.K p):=by
 have hm:=aT h;simp only[Gv,List.mem_cons,List.mem_nil_iff,or_false] at hm;rcases hm with z|z|z|z|z|z|z|z|z|z
 ·cases z;exact⟨.builtin "len",.inl ⟨_,rfl⟩,PySem.boot_len,bE7⟩
 ·cases z;exact⟨.type "list",.inr ⟨_,rfl⟩,by first|exact ft|decide +kernel,Uk hc⟩
 ·cases z;exact⟨.type "tuple",.inr ⟨_,rfl⟩,by first|exact tZ|decide +kernel,a94⟩
 ·cases z;exact⟨.builtin "isinstance",.inl ⟨_,rfl⟩,by first|exact PyProof.Rows.boot_isinstance|decide +kernel,Ue⟩
 ·cases z;exact⟨.builtin "all",.inl ⟨_,rfl⟩,by first|exact PyProof.Rows.boot_all|decide +kernel,bI2 hc⟩
 ·cases z;exact⟨.builtin "max",.inl ⟨_,rfl⟩,by first|exact PyProof.Rows.boot_max|decide +kernel,bE0 hc⟩
 ·cases z;exact⟨.builtin "min",.inl ⟨_,rfl⟩,by first|exact PyProof.Rows.boot_min|decide +kernel,bD9 hc hu⟩
 ·cases z;exact⟨.type "int",.inr ⟨_,rfl⟩,by first|exact yK|decide +kernel,bF8⟩
 ·cases z;exact⟨.builtin "any",.inl ⟨_,rfl⟩,by first|exact PyProof.Rows.boot_any|decide +kernel,bI0 hc⟩
 ·cases z;exact⟨.builtin "sum",.inl ⟨_,rfl⟩,by first|exact PyProof.Rows.boot_sum|decide +kernel,SV hc⟩
theorem aU6{p:Pr}(h:yc.lookup x=some p):∃T id,PlainAttrs T/\Slot T x id/\typeOf (.builtin id)=pure (.type "method_descriptor")/\mP X id (rM X.K p) /\
  ∀{d:D} {v:V} {g:G} {ρ:List Addr} {H:Hp},Rl X.K ρ g H->f9 X.K ρ H d v->mD p d g->oU X.K T v H:=by
 have hm:=aT h;simp only[yc,List.mem_cons,List.mem_nil_iff,or_false] at hm;rcases hm with z|z
 ·cases z;exact⟨_,_,dJ,PySem.F.slot_list_clear,PySem.F.type_list_clear,VE,λR r h=>ty_list R r h⟩
 ·cases z;exact⟨_,_,dJ,yI,yH,UI,λR r h=>ty_list R r h⟩
theorem a44{p:Pr}(hu:X.A.units+100<cLine)(h:GH.lookup x=some p):∃T id,PlainAttrs T/\Slot T x id/\typeOf (.builtin id)=pure (.type "method_descriptor")/\mP X id (rM X.K p) /\
  ∀{d:D} {v:V} {g:G} {ρ:List Addr} {H:Hp},Rl X.K ρ g H->f9 X.K ρ H d v->mD p d g->oU X.K T v H:=by
 have hm:=aT h;simp only[GH,List.mem_cons,List.mem_nil_iff,or_false] at hm;rcases hm with z|z|z|z
 ·cases z;exact⟨_,_,dJ,rA,rz,Nm,λR r h=>ty_list R r h⟩
 ·cases z;exact⟨_,_,dJ,yI,yH,Ws,λR r h=>ty_list R r h⟩
 ·cases z;exact⟨_,_,PySem.F.plainAttrs_dict,js,PySem.F.type_dict_get,bG5 hu,λR r h=>ty_dict R r h⟩
 ·cases z;exact⟨_,_,PySem.F.plainAttrs_set,PySem.F.slot_set_add,PySem.F.type_set_add,US,λR r h=>ty_set R r h⟩
theorem Fd{pos:Pos}{env:Env}:∀{es:List Expr},(∀e∈es,gL e=true)->(backTo pos (starEach es env)).all (λx=>!x.1)=true
 |[],_=>rfl
 |e::es,h=>by
  rw[p6 (h e (by simp))];have ih:=Fd (pos:=pos) (env:=env) (es:=es) λx hx=>h x (by simp[hx]);unfold backTo at ih ⊢;rw[bL,kI,ih]
  rfl
theorem V8{pos:Pos}{env:Env}:∀{es:List Expr},(∀e∈es,gL e=true)->(backTo pos (starEach es env)).any (·.1)=false
 |[],_=>rfl
 |e::es,h=>by
  rw[p6 (h e (by simp))];have ih:=V8 (pos:=pos) (env:=env) (es:=es) λx hx=>h x (by simp[hx]);unfold backTo at ih ⊢;rw[bL,fP,ih]
  rfl
theorem EU:∀{es:List Expr} {m:ME},M1 r c es=some m->∀e∈es,gL e=true:=by
 intro es
 induction es with
 |nil=>intro m _ e he;exact absurd he (by simp)
 |cons a es ih =>
  intro m h e he;unfold M1 at h;split at h
  ·obtain⟨m1,h1,h⟩:=ag.mp h;obtain⟨m2,h2,_⟩:=aa.mp h;rcases aL.mp he with z|z
   ·rw[z];assumption
   ·exact ih h2 e z
  ·cases h
theorem aX5(h:NC a=some x):∃j p,a=.Constant (.str x) j p:=by
 cases a with
 |Constant k j p=>cases k with
  |str y=>cases h;exact⟨_,_,rfl⟩
  |_=>cases h
 |_=>cases h
theorem Vz(h:Kb a=some e):∃p,a=.FormattedValue e (-1) none p:=by
 cases a with
 |FormattedValue v k f p=>cases f with
  |none =>
   have h2:(if k=-1 then some v else none)=some e:=h;split at h2
   ·rename_i hk;cases h2;rw[hk];exact⟨_,rfl⟩
   ·cases h2
  |some _=>cases h
 |_=>cases h
structure rn(P:fj)(r:CF):Prop where
 e:∀X c Ξ,hU X c P Ξ->∀e m,r.e c e=some m->PE X e (LE X.K Ξ (aX P m))
 t:∀X c Ξ,hU X c P Ξ->∀e m,r.t c e=some m->PT X e (LT X.K Ξ (dh P m))
 s:∀X c Ξ,hU X c P Ξ->c.wr=true->∀st m,r.s c st=some m->PS X st (LS X.K Ξ (wpS P m))
section
variable(S:rn P r)(C:hU X c P Ξ)
include S C
theorem uY{p:Pr}(h:c1 r c p a=some m):∃ma,PE X a (LE X.K Ξ (aX P ma))/\m=.prim p (.cons ma .nil):=by
 obtain⟨ma,ha,rfl⟩:=aa.mp h;exact⟨ma,S.e X c Ξ C _ _ ha,rfl⟩
theorem uZ{p:Pr}(h:c2 r c p a b=some m):∃ma mb,PE X a (LE X.K Ξ (aX P ma))/\PE X b (LE X.K Ξ (aX P mb))/\m=.prim p (.cons ma (.cons mb .nil)):=by
 obtain⟨ma,ha,h⟩:=ag.mp h;obtain⟨mb,hb,rfl⟩:=aa.mp h;exact⟨ma,mb,S.e X c Ξ C _ _ ha,S.e X c Ξ C _ _ hb,rfl⟩
theorem vS:∀{es:List Expr} {m:ME},M1 r c es=some m->PA X es (LA X.K Ξ (gw P m)):=by
 intro es
 induction es with
 |nil=>intro m h;cases h;exact K7 C.mono
 |cons a es ih =>
  intro m h;unfold M1 at h;split at h
  ·rename_i bZ;obtain⟨m1,h1,h⟩:=ag.mp h;obtain⟨m2,h2,rfl⟩:=aa.mp h;exact C3 C.mono (S.e X c Ξ C _ _ h1) (ih h2) (p6 bZ)
  ·cases h
theorem Ph:∀{es:List Expr} {m:ME},uR r c es=some m->∃ts,nM X Ξ P es m ts:=by
 intro es
 induction es with
 |nil=>intro m h;cases h;exact⟨_,.nil⟩
 |cons a es ih =>
  intro m h;unfold uR at h;rcases orElse_some h with h1|h1
  ·obtain⟨x,hx,h2⟩:=ag.mp h1;obtain⟨j,p,rfl⟩:=aX5 hx;split at h2
   ·obtain⟨m2,h3,rfl⟩:=aa.mp h2;obtain⟨ts,F⟩:=ih h3;exact⟨_,.lit (by assumption) F⟩
   ·cases h2
  ·obtain⟨x,hx,h2⟩:=ag.mp h1;obtain⟨m1,h3,h4⟩:=ag.mp h2;obtain⟨m2,h5,rfl⟩:=aa.mp h4;obtain⟨p,rfl⟩:=Vz hx;obtain⟨ts,F⟩:=ih h5;exact⟨_,.val (S.e X c Ξ C _ _ h3) F⟩
theorem Pk{op:BoolOp}:∀{vs:List Expr} {m:ME},AJ r c op vs=some m->PE X (.BoolOp op vs pos) (LE X.K Ξ (aX P m)):=by
 intro vs
 induction vs with
 |nil=>intro m h;cases h
 |cons a vs ih =>
  intro m h;cases vs with
  |nil=>exact bB3 (S.e X c Ξ C _ _ h)
  |cons b vs =>
   unfold AJ at h;obtain⟨m1,h1,h⟩:=ag.mp h;obtain⟨m2,h2,rfl⟩:=aa.mp h;cases op
   ·exact Sw C.mono (S.e X c Ξ C _ _ h1) (ih h2)
   ·exact ZY C.mono (S.e X c Ξ C _ _ h1) (ih h2)
theorem Pd{op:BoolOp}:∀{vs:List Expr} {m:ME},AK r c op vs=some m->PW X (.BoolOp op vs pos) (LT X.K Ξ (dh P m)):=by
 intro vs
 induction vs with
 |nil=>intro m h;cases h
 |cons a vs ih =>
  intro m h;cases vs with
  |nil =>
   cases op
   ·exact UP (S.t X c Ξ C _ _ h)
   ·exact bA0 (S.t X c Ξ C _ _ h)
  |cons b vs =>
   unfold AK at h;obtain⟨m1,h1,h⟩:=ag.mp h;obtain⟨m2,h2,rfl⟩:=aa.mp h;cases op
   ·exact SW C.mono (S.t X c Ξ C _ _ h1) (ih h2)
   ·exact bK4 C.mono (S.t X c Ξ C _ _ h1) (ih h2)
theorem XF(h:NG r c es=some m):mO X es (LT X.K Ξ (dh P m)):=by
 rcases es with _|⟨e,_|⟨_,_⟩⟩
 ·cases h;exact Vj C.mono
 ·exact UO (S.t X c Ξ C _ _ h)
 ·cases h
theorem uM(hw:c.wr=true):∀{Hr:List Stmt} {m:MS},A7 r c Hr=some m->jL X Hr (LS X.K Ξ (wpS P m)):=by
 intro es
 induction es with
 |nil=>intro m h;cases h;exact zU C.mono
 |cons a es ih =>
  intro m h;unfold A7 at h;obtain⟨m1,h1,h⟩:=ag.mp h;obtain⟨m2,h2,rfl⟩:=aa.mp h;exact An C.mono (S.s X c Ξ C hw _ _ h1) (ih h2)
end
theorem Lj{t:Expr}(h:A9 e=true):swapsWithSole [t] e n env=pure false:=by
 show swapsWith e (some t) n env=pure false;exact T3 h
theorem hU.Y9(C:hU X c P Ξ)(hw:c.wr=true)(eB:X.stack=X.env::X.outer)(hf:X.env.frame=some X.env.locals)(pins:List (Addr×Obj))(D:L2.Ends)(hs:List ExceptHandler){o:Option L2.St}{dg:L2.St}{w:Bool}(BS:∀Z:L2.St,Z.length=X.N.length->(∀τ,o=some τ->Z=τ)->dg.length=Z.length/\∀(i:Nat) v,dg[i]?=some (some v)->Z[i]?=some (some v))(ho:w=true->o=none) :
  hU (M6 X pins (tR X pins D hs) o) { c with jU:=false,jz:=false,wr:=w } P (tJ X Ξ.1 D dg hs) :=
 ⟨C.N,C.nd,C.loc,C.zL,C.DD,C.IW,C.cells,C.nJ,C.calm,C.units,(λ_=>PassesOwn.looking),C.mono,C.con,C.blt,C.fns,C.cls,C.qz,C.pq,C.xj,Wh (C.sgn hw) eB hf BS λC H' ⟨C',e,z⟩=>(by cases e;exact z),(λz=>by cases z),(λz=>by cases z),C.exc,C.zE,C.xg,C.code,ho⟩
section
variable(S:rn P r)(C:hU X c P Ξ){d:Expr}
include C
theorem bD5(h:Gk c x=some m):PE X (.Name x pos) (LE X.K Ξ (aX P m)):=by
 unfold Gk at h;split at h
 ·rename_i gN;obtain⟨d1,d2,d3⟩:=F3 gN;split at h
  ·rename_i hv;obtain⟨i,hi,rfl⟩:=aa.mp h;exact NU (C.rg hi) (C.JZ hv) d1 d2
  ·split at h
   ·rename_i hg;rcases orElse_some h with h|h
    ·obtain⟨d,hd,rfl⟩:=aa.mp h;obtain⟨v,u,hm,r,rr⟩:=C.con x d hd;exact W0 (Ak (C.B0 hg) hm r d1) rr
    ·split at h
     ·rename_i hb;obtain⟨t,ht,rfl⟩:=aa.mp h;exact W0 (v:=.ty t) (UA (C.B0 hg) (C.blt x hb) (a92 ht) rfl d3 d1) λ_ _=>.ty t
     ·cases h
   ·cases h
 ·cases h
omit C in
theorem vR{k:Const}{j:Nat}{d:D}(h:tM k=some d):PE X (.Constant k j pos) (LE X.K Ξ (aX P (.lit d))):=by
 cases k<;>first|(cases h;done)|skip
 ·cases h;exact W0 bB5 λ_ _=>.br
 ·cases h;exact W0 ZI λ_ _=>.bl _
 ·cases h;exact W0 bB7 λ_ _=>.int _
 ·cases h;exact W0 NN λ_ _=>.str _
include S
theorem XG{op:UnaryOp}(h:Bm r c op a=some m):PE X (.UnaryOp op a pos) (LE X.K Ξ (aX P m)):=by
 unfold Bm at h;split at h
 ·rename_i ho;subst ho;obtain⟨ma,ha,rfl⟩:=aa.mp h;exact SD C.mono (S.e X c Ξ C _ _ ha)
 ·obtain⟨ma,ha,rfl⟩:=uY S C h;exact ZZ C.mono ha
theorem JN{ops:List CmpOp}{bs:List Expr}(h:yq r c a ops bs=some m):PE X (.Compare a ops bs pos) (LE X.K Ξ (aX P m))/\PT X (.Compare a ops bs pos) (LT X.K Ξ (dh P (.fo m))):=by
 unfold yq at h;split at h
 ·rename_i op b;split at h
  ·cases h
  ·rename_i hm;have hm:behindInMarks op b=false:=by simpa using hm
   rcases orElse_some h with h|h
   ·obtain⟨neg,hn,h⟩:=ag.mp h;obtain⟨kvs,hk,h⟩:=ag.mp h;obtain⟨ma,ha,rfl⟩:=aa.mp h;obtain⟨x,p,rfl,hg,hd,hk⟩:=MM hk;have ho:op=if neg then .NotIn else .In:=by cases op<;>cases hn<;>rfl
    subst ho;exact⟨Sz C.mono (C.B0 hg) (F3 hd).1 (C.xg x kvs hk) (S.e X c Ξ C _ _ ha) hm,SQ C.mono (C.B0 hg) (F3 hd).1 (C.xg x kvs hk) (S.e X c Ξ C _ _ ha) hm⟩
   ·obtain⟨ma,mb,ha,hb,rfl⟩:=uZ S C h;exact⟨GJ C.mono (Mj (vf C.units op) ha hb hm),SS C.mono (Mp (vf C.units op) ha hb hm)⟩
 ·split at h
  ·cases h
  ·rename_i hm;obtain⟨ma,ha,h⟩:=ag.mp h;obtain⟨mb,hb,h⟩:=ag.mp h;obtain⟨md,hd,rfl⟩:=aa.mp h;exact⟨WJ C.mono C.units (S.e X c Ξ C _ _ ha) (S.e X c Ξ C _ _ hb) (S.e X c Ξ C _ _ hd) (by simpa using hm),a99 C.mono C.units (S.e X c Ξ C _ _ ha) (S.e X c Ξ C _ _ hb) (S.e X c Ξ C _ _ hd) (by simpa using hm)⟩
 ·cases h
omit S C in
theorem Np{i:Int}(h:FR e=some i):∃j p,e=.Constant (.int i) j p:=by
 cases e with
 |Constant k j p=>cases k<;>cases h;exact⟨_,_,rfl⟩
 |_=>cases h
theorem XD{lo hi st:Option Expr}{p2:Pos}(h:Hk r c a lo hi st=some m):PE X (.Subscript a (.Slice lo hi st p2) pos) (LE X.K Ξ (aX P m)):=by
 cases lo<;>cases hi<;>cases st<;>first|(cases h;done)|skip
 ·obtain⟨ma,ha,rfl⟩:=uY S C h;exact WR C.mono ha
 ·obtain⟨ma,mb,ha,hb,rfl⟩:=uZ S C h;exact WS C.mono ha hb
 ·obtain⟨ma,mb,ha,hb,rfl⟩:=uZ S C h;exact WT C.mono ha hb
 ·obtain⟨ma,zi,h⟩:=ag.mp h;obtain⟨i,hi,h⟩:=ag.mp h;obtain⟨j,hj,rfl⟩:=aa.mp h;obtain⟨_,_,rfl⟩:=Np hi;obtain⟨_,_,rfl⟩:=Np hj;exact WU C.mono (S.e X c Ξ C _ _ zi) (vR (k:=.int i) rfl) (vR (k:=.int j) rfl)
theorem Zw(h:GW r c a b=some m):PE X (.Subscript a b pos) (LE X.K Ξ (aX P m)):=by
 unfold GW at h;rcases orElse_some h with h|h
 ·obtain⟨q,hq,h⟩:=ag.mp h;have eb:∃p,b=.Slice q.1 q.2.1 q.2.2 p:=by cases b<;>first|(cases hq;exact⟨_,rfl⟩)|cases hq
  obtain⟨p,rfl⟩:=eb;exact XD S C h
 ·split at h
  ·rename_i hb;rcases orElse_some h with h|h
   ·obtain⟨kvs,hk,h⟩:=ag.mp h;obtain⟨mb,lI,rfl⟩:=aa.mp h;obtain⟨x,p,rfl,hg,hd,hk⟩:=MM hk;exact UX C.mono (C.B0 hg) (F3 hd).1 (C.xg x kvs hk) (S.e X c Ξ C _ _ lI) (NL hb)
   ·obtain⟨ma,mb,ha,lI,rfl⟩:=uZ S C h;exact GJ C.mono (JO (Zh C.units) ha lI (NL hb))
  ·cases h
theorem XE{px:Pos}(hg:c.gl x=true)(h:Bn r c x e=some m):PE X (.Call (.Name x px) [e] [] pos) (LE X.K Ξ (aX P m)):=by
 unfold Bn at h;obtain⟨q,hq,h'⟩:=ag.mp h;clear h;have h:=h';clear h';obtain⟨p,pos',rfl⟩:=FI hq;obtain⟨y,as⟩:=q;dsimp only at h ⊢;split at h
 ·rename_i hc;simp only[Bool.and_eq_true,decide_eq_true_eq] at hc;obtain⟨⟨⟨⟨rfl,rfl⟩,hl⟩,hr⟩,mH⟩:=hc;rcases as with _|⟨a,_|⟨b,_|⟨_,_⟩⟩⟩
  ·cases h
  ·dsimp only at h;split at h
   ·rename_i ho;obtain⟨ma,ha,rfl⟩:=uY S C h;exact WL C.mono C.calm ha (C.B0 hg) (C.blt _ hl) (C.B0 mH) (C.blt _ hr) (p6 ho)
   ·cases h
  ·dsimp only at h;split at h
   ·rename_i ho;rw[aP] at ho;obtain⟨ma,mb,ha,hb,rfl⟩:=uZ S C h;exact WM C.mono C.calm ha hb (C.B0 hg) (C.blt _ hl) (C.B0 mH) (C.blt _ hr) (by rw[p6 ho.1,p6 ho.2];rfl) (p6 ho.2)
   ·cases h
  ·cases h
 ·split at h
  ·rename_i hc;simp only[Bool.and_eq_true,decide_eq_true_eq] at hc;obtain⟨⟨⟨⟨rfl,rfl⟩,hl⟩,hr⟩,mH⟩:=hc;rcases as with _|⟨a,_|⟨_,_⟩⟩
   ·cases h
   ·dsimp only at h;split at h
    ·rename_i ho;obtain⟨ma,ha,rfl⟩:=uY S C h;exact Va C.mono C.calm ha (C.B0 hg) (C.blt _ hl) (C.B0 mH) (C.blt _ hr) (p6 ho)
    ·cases h
   ·cases h
  ·split at h
   ·rename_i hc;simp only[Bool.and_eq_true,decide_eq_true_eq] at hc;obtain⟨⟨⟨⟨rfl,rfl⟩,hl⟩,hr⟩,mH⟩:=hc;rcases as with _|⟨a,_|⟨_,_⟩⟩
    ·cases h
    ·dsimp only at h;split at h
     ·rename_i ho;obtain⟨ma,ha,rfl⟩:=uY S C h;exact UY C.mono C.calm ha (C.B0 hg) (C.blt _ hl) (C.B0 mH) (C.blt _ hr) (p6 ho)
     ·cases h
    ·cases h
   ·cases h
theorem Uq{px:Pos}(h:LP r c x args=some m):PE X (.Call (.Name x px) args [] pos) (LE X.K Ξ (aX P m)):=by
 cases args with
 |nil =>
  have h2:GP c x=some m:=h;unfold GP at h2;split at h2
  ·rename_i gN;rw[aP] at gN;rcases orElse_some h2 with h2|h2
   ·obtain⟨f,hf,rfl⟩:=aa.mp h2;obtain⟨k,fa,fd,ps,F,hr,hm,hk⟩:=C.fns x f hf;exact WI C.mono C.pass F hr (C.B0 gN.2) hm hk (F3 gN.1).1
   obtain⟨f,hf,rfl⟩:=aa.mp h2;obtain⟨k,C',fa,fd,ps,F,hr,hm,hC,kA,M⟩:=C.cls x f hf;exact WN C.mono C.pass F M hC kA hr (C.B0 gN.2) hm (F3 gN.1).1
  ·cases h2
 |cons e es =>
  have h0:GQ r c x e es=some m:=h;clear h;have h:=h0;clear h0;unfold GQ at h;split at h
  ·rename_i gN;rw[aP] at gN;obtain⟨d1,d2,d3⟩:=F3 gN.1;rcases orElse_some h with h|h
   ·cases es with
    |nil=>exact XE S C gN.2 h
    |cons _ _=>cases h
   ·obtain⟨ms,ur,h⟩:=ag.mp h;have ok:=EU ur;have pa:=vS S C ur;have eB:=p6 (env:=X.env) (es:=es) (ok e (by simp));have iw:=V8 (pos:=pos) (env:=X.env) (es:=es) λz hz=>ok z (by simp[hz]);rcases orElse_some h with h|h
    ·obtain⟨f,hf,rfl⟩:=aa.mp h;obtain⟨k,fa,fd,ps,F,hr,hm,hk⟩:=C.fns x f hf;exact UT C.mono C.pass F hr (C.B0 gN.2) hm hk pa d1 eB iw
    ·rcases orElse_some h with h|h
     ·obtain⟨f,hf,rfl⟩:=aa.mp h;obtain⟨k,C',fa,fd,ps,F,hr,hm,hC,kA,M⟩:=C.cls x f hf;exact UZ C.mono C.pass F M hC kA hr (C.B0 gN.2) hm pa d1 eB iw
     ·split at h
      ·rename_i hb;obtain⟨p,hp,rfl⟩:=aa.mp h;obtain⟨v,hv,CI,hc⟩:=a80 (X:=X) C.calm C.units hp;exact Sx C.mono hv hc (C.B0 gN.2) (C.blt x hb) CI pa d3 d1 eB iw
      ·cases h
  ·cases h
theorem Up{mt:Str}{apos:Pos}(h:GR r c o mt apos pos args=some m):PE X (.Call (.Attribute o mt apos) args [] pos) (LE X.K Ξ (aX P m)):=by
 unfold GR at h;split at h
 ·rename_i hc;simp only[Bool.and_eq_true,decide_eq_true_eq] at hc;obtain⟨⟨hb,hl⟩,hn⟩:=hc;obtain⟨mo,ho,h⟩:=ag.mp h;obtain⟨ms,ur,h⟩:=ag.mp h;have ok:=EU ur;have pa:=vS S C ur;have po:=S.e X c Ξ C _ _ ho;have hf:methodCallForm args.length (backTo pos (starEach args X.env)) (backToKw pos (keywordEach [] X.env))=true:=by
   unfold methodCallForm;rw[Fd ok];have:args.length+0<30:=by omega
   show(true&&true&&decide (args.length+0<30))=true;rw[aw this]
   rfl
  by_cases sD:mt="index"
  ·subst sD;rw[aH rfl] at h;cases args with
   |nil=>cases h
   |cons e es =>
    cases h;exact WK C.mono C.units po pa (Q4 hb) hf hl (p6 (env:=X.env) (es:=es) (ok e (by simp))) (V8 (pos:=pos) (env:=X.env) (es:=es) λz hz=>ok z (by simp[hz]))
  rw[aE sD] at h;cases args with
  |nil =>
   cases ur;by_cases h0:(yc.lookup mt).isSome=true
   ·rw[aH (by rw[h0];rfl)] at h;obtain⟨p,hp,rfl⟩:=aa.mp h;obtain⟨T,id,BC,sl,ty,BI,hk⟩:=aU6 (X:=X) hp;exact WO C.mono BC sl ty BI hk po (Q4 hb) hl
   rw[aE (by rw[aP];exact λz=>h0 z.2)] at h;split at h
   ·cases h
   ·cases h
  |cons e es =>
   have eB:=p6 (env:=X.env) (es:=es) (ok e (by simp));have iw:=V8 (pos:=pos) (env:=X.env) (es:=es) λz hz=>ok z (by simp[hz]);rw[aE (by simp)] at h;split at h
   ·rename_i p hp;cases h;obtain⟨T,id,BC,sl,ty,BI,hk⟩:=a44 (X:=X) C.units hp;exact Mw C.mono BC sl ty BI hk po pa (Q4 hb) hf hl eB iw
   ·cases h
 ·cases h
theorem HJ{tg:Expr}(h:xJ r c tg e=some m):PI X tg e (LI X.K Ξ (gK P m)):=by
 unfold xJ at h;rcases orElse_some h with h|h
 ·obtain⟨q,hq,h'⟩:=ag.mp h;rename_i h0;clear h h0;have h:=h';clear h';obtain⟨p,pos',rfl⟩:=FI hq;obtain⟨y,as⟩:=q;dsimp only at h ⊢;split at h
  ·rename_i hy;subst hy;rcases as with _|⟨a,_|⟨_,_⟩⟩
   ·cases h
   ·dsimp only at h;split at h
    ·rename_i hc;simp only[Bool.and_eq_true] at hc;obtain⟨⟨⟨hg,hb⟩,ho⟩,ht⟩:=hc;obtain⟨ma,ha,rfl⟩:=aa.mp h;obtain⟨es,k,tp,rfl⟩:=a82 ht;exact Vd C.mono (S.e X c Ξ C _ _ ha) (C.B0 hg) (C.blt _ hb) (p6 ho)
    ·cases h
   ·cases h
  ·split at h
   ·rename_i hy;subst hy;rcases as with _|⟨a,_|⟨_,_⟩⟩
    ·cases h
    ·dsimp only at h;split at h
     ·rename_i hc;simp only[Bool.and_eq_true] at hc;obtain⟨⟨hg,hb⟩,ho⟩:=hc;obtain⟨ma,ha,rfl⟩:=aa.mp h;exact SH C.mono (S.e X c Ξ C _ _ ha) (C.B0 hg) (C.blt _ hb) (p6 ho)
     ·cases h
    ·cases h
   split at h
   ·rename_i hy;subst hy;rcases as with _|⟨a,_|⟨b,_|⟨_,_⟩⟩⟩
    ·cases h
    ·dsimp only at h;split at h
     ·rename_i hc;simp only[Bool.and_eq_true] at hc;obtain⟨⟨hg,hb⟩,ho⟩:=hc;obtain⟨ma,ha,rfl⟩:=aa.mp h;exact Ve C.mono (S.e X c Ξ C _ _ ha) (C.B0 hg) (C.blt _ hb) (p6 ho)
     ·cases h
    ·dsimp only at h;split at h
     ·rename_i hc;simp only[Bool.and_eq_true] at hc;obtain⟨⟨⟨hg,hb⟩,ho⟩,jI⟩:=hc;obtain⟨ma,ha,h⟩:=ag.mp h;obtain⟨mb,lI,rfl⟩:=aa.mp h;exact Vf C.mono (S.e X c Ξ C _ _ ha) (S.e X c Ξ C _ _ lI) (C.B0 hg) (C.blt _ hb) (by rw[p6 ho,p6 jI];rfl) (p6 jI)
     ·cases h
    ·cases h
   ·cases h
 ·split at h
  ·obtain⟨ma,ha,rfl⟩:=aa.mp h;exact SI C.mono (S.e X c Ξ C _ _ ha)
  ·cases h
theorem EK{elt:Expr}{gens:List Comprehension}{sc:Scope}(h:tT r c elt gens sc=some m):∃tg it ifs t mi mc me cl,gens=[⟨tg,it,ifs,0⟩]/\m=.comp (c.f7 sc) (frees sc++locals sc).length t mi mc me/\gL it=true /\
  dO X sc (frees sc++locals sc) (c.f7 sc) cl/\PI X tg it (LI X.K Ξ (gK P mi))/\(∀pins A s H fp,PG (i0 X pins sc (frees sc++locals sc) cl A s H fp) tg (LG X.K t)) /\
   (∀pins A s H fp,mO (i0 X pins sc (frees sc++locals sc) cl A s H fp) ifs (LT X.K (nL Ξ.1) (dh P mc)))/\(∀pins A s H fp,PE (i0 X pins sc (frees sc++locals sc) cl A s H fp) elt (LE X.K (nL Ξ.1) (aX P me))):=by
 unfold tT at h;rcases gens with _|⟨⟨tg,it,ifs,HU⟩,_|⟨_,_⟩⟩
 ·cases h
 ·dsimp only at h;split at h
  ·rename_i hs;simp only[Bool.and_eq_true,decide_eq_true_eq] at hs;obtain⟨⟨hs,rfl⟩,hit⟩:=hs;obtain⟨t,h1,h⟩:=ag.mp h;obtain⟨mi,h2,h⟩:=ag.mp h;obtain⟨mc,h3,h⟩:=ag.mp h;obtain⟨me,h4,rfl⟩:=aa.mp h;obtain⟨cl,Sc,I⟩:=C.comp hs;exact⟨tg,it,ifs,t,mi,mc,me,cl,rfl,rfl,hit,Sc,HJ S C h2,λpins A s H fp=>(I pins A s H fp).Ju rfl h1,λpins A s H fp=>XF S (I pins A s H fp) h3,λpins A s H fp=>S.e _ _ _ (I pins A s H fp) elt me h4⟩
  ·cases h
 ·cases h
omit S in
theorem XC{f:Expr}{jD:List Keyword}(h:yM c f args jD=some m):PE X (.Call f args jD pos) (LE X.K Ξ (aX P m)):=by
 unfold yM at h;cases h
theorem Pj:∀e m,JT r c e=some m->PE X e (LE X.K Ξ (aX P m)):=by
 intro e m h;cases e with
 |Name x p=>exact bD5 C h
 |Constant k j p =>
  obtain⟨d,hd,rfl⟩:=aa.mp (show(tM k).map ME.lit=some m from h);exact vR hd
 |BinOp a op b p =>
  obtain⟨ma,mb,ha,hb,rfl⟩:=uZ S C h;exact GJ C.mono (ZL (bD1 op) ha hb)
 |UnaryOp op a p=>exact XG S C h
 |Compare a ops bs p=>exact(JN S C h).1
 |BoolOp op vs p=>exact Pk S C h
 |IfExp t a b p =>
  obtain⟨mt,ht,h⟩:=ag.mp h;obtain⟨ma,ha,h⟩:=ag.mp h;obtain⟨mb,hb,rfl⟩:=aa.mp h;exact SA C.mono (S.t X c Ξ C _ _ ht) (S.e X c Ξ C _ _ ha) (S.e X c Ξ C _ _ hb)
 |Tuple es k p =>
  obtain⟨ma,ha,rfl⟩:=aa.mp h;exact SE C.mono (vS S C ha)
 |List es p =>
  obtain⟨ma,ha,rfl⟩:=aa.mp h;exact NT C.mono (vS S C ha)
 |Subscript a b p=>exact Zw S C h
 |Dict ks vs p =>
  have h2:(if ks.isEmpty&&vs.isEmpty then some (ME.prim .qi .nil) else none)=some m:=h;split at h2
  ·rename_i hc;cases ks<;>cases vs<;>first|(cases hc;done)|skip
   cases h2;exact UU
  ·cases h2
 |JoinedStr vs p =>
  have h2:(if decide (2<=vs.length)&&decide (vs.length<=40) then(uR r c vs).map (ME.prim .ni) else none)=some m:=h;split at h2
  ·rename_i hc;simp only[Bool.and_eq_true,decide_eq_true_eq] at hc;obtain⟨ms,hm,rfl⟩:=aa.mp h2;obtain⟨ts,F⟩:=Ph S C hm;rcases vs with _|⟨v1,_|⟨v2,vs⟩⟩
   ·simp at hc
   ·simp at hc
   ·exact UW C.mono F hc.2
  ·cases h2
 |Attribute o f p =>
  have h2:(if zR o then c1 r c (.fld f) o else none)=some m:=h;split at h2
  ·rename_i hb;obtain⟨ma,ha,rfl⟩:=uY S C h2;exact Sy C.mono ha (Q4 hb)
  ·cases h2
 |Call f args jD pos =>
  have h1:((Bo r c f args jD).orElse λ_=>(yM c f args jD).orElse λ_=>Gj r c f args jD pos)=some m:=h;rcases orElse_some h1 with h2|h2
  ·unfold Bo at h2;rcases args with _|⟨a,_|⟨_,_⟩⟩
   ·cases h2
   ·dsimp only at h2;split at h2
    ·rename_i hk;simp only[Bool.and_eq_true,decide_eq_true_eq] at hk;obtain⟨⟨⟨hk,hf⟩,mZ⟩,hb⟩:=hk;cases jD<;>first|(cases hk;done)|skip
     obtain⟨q,hq,h3⟩:=ag.mp h2;obtain⟨m1,h4,h5⟩:=ag.mp h3;cases f<;>first|(cases hf;done)|skip
     cases a<;>first|(cases hq;done)|skip
     cases hf;cases hq;obtain⟨tg,it,ifs,t,mi,mc,me,cl,eg,rfl,hit,Sc,q1,q2,q3,q4⟩:=EK S C h4;dsimp only at eg;subst eg;cases h5;exact WQ C.mono Sc C.calm q1 q2 q3 q4 (Ax hit) (C.B0 mZ) (C.blt _ hb)
    ·cases h2
   ·cases h2
  clear h h1;rcases orElse_some h2 with h3|h3
  ·exact XC C h3
  clear h2;unfold Gj at h3;split at h3
  ·rename_i hk;cases jD<;>first|(cases hk;done)|skip
   cases f with
   |Name x p=>exact Uq S C h3
   |Attribute o a p=>exact Up S C h3
   |_=>cases h3
  ·cases h3
 |Set es k p =>
  have h2:GV c es k=some m:=h;unfold GV at h2;split at h2
  ·rename_i hc;rw[aP] at hc;obtain rfl:=bh hc.2;split at h2
   ·cases h2;exact U' C.mono (C.code hc.1)
   ·cases h2
  ·cases h2
 |ListComp elt gens sc p =>
  obtain⟨tg,it,ifs,t,mi,mc,me,cl,rfl,rfl,hit,Sc,q1,q2,q3,q4⟩:=EK S C h;exact(Ml Sc C.calm q1 q2 q3 q4 (Ax hit)).imp λZ H Q h=>MJ C.mono Z H Q h
 |_=>cases h
theorem Pe:∀e m,stepT r c e=some m->PT X e (LT X.K Ξ (dh P m)):=by
 intro e m h;have plain:∀{e:Expr} {m:ME},(if Fx e then(r.e c e).map ME.fo else none)=some m->PT X e (LT X.K Ξ (dh P m)):=λ{e m} h=>by
  split at h
  ·rename_i hp;obtain⟨ma,ha,rfl⟩:=aa.mp h;exact SU C.mono (S.e X c Ξ C _ _ ha) (a20 hp)
  ·cases h
 cases e with
 |UnaryOp op a p =>
  have h2:(if op=.Not then(r.t c a).map ME.eI else none)=some m:=h;split at h2
  ·rename_i ho;subst ho;obtain⟨ma,ha,rfl⟩:=aa.mp h2;exact SR C.mono (S.t X c Ξ C _ _ ha)
  ·cases h2
 |BoolOp op vs p=>exact(Pd S C h).pt
 |Compare a ops bs p =>
  obtain⟨ma,ha,rfl⟩:=aa.mp (show(yq r c a ops bs).map ME.fo=some m from h);exact(JN S C ha).2
 |_=>exact plain h
end
theorem U9{α:Type}{l:List α}{x:α}(h:xT l=some x):l=[x]:=by
 rcases l with _|⟨a,_|⟨_,_⟩⟩<;>cases h
 rfl
theorem Nn{s:Stmt}{q:Expr×Pos}(h:FQ s=some q):s=.Expr q.1 q.2:=by
 cases s<;>cases h
 rfl
theorem bH8{f:Expr}{a:List Expr}{k:List Keyword}(h:Ka e=some (f,a,k,p)):e=.Call f a k p:=by
 cases e<;>cases h
 rfl
theorem TC{m:Str}(h:JA e=some (o,m,p)):e=.Attribute o m p:=by
 cases e<;>cases h
 rfl
section
theorem EV(h:FW e=some m):PE X e (LE X.K Ξ (aX P m))/\gL e=true:=by
 cases e<;>first|(cases h;done)|skip
 obtain⟨d,hd,rfl⟩:=aa.mp (show(tM _).map ME.lit=some m from h);exact⟨vR hd,rfl⟩
theorem a69(hP:j9 P):∀{es:List Expr} {m:ME},zN es=some m->PA X es (LA X.K Ξ (gw P m)):=by
 intro es
 induction es with
 |nil=>intro m h;cases h;exact K7 hP
 |cons e es ih =>
  intro m h;unfold zN at h;obtain⟨m1,h1,h⟩:=ag.mp h;obtain⟨m2,h2,rfl⟩:=aa.mp h;exact C3 hP (EV h1).1 (ih h2) (p6 (EV (X:=X) (Ξ:=Ξ) (P:=P) h1).2)
theorem VH(hP:j9 P)(h:JF e=some m):PE X e (LE X.K Ξ (aX P m)):=by
 cases e<;>first|(cases h;done)|skip
 ·obtain⟨d,hd,rfl⟩:=aa.mp (show(tM _).map ME.lit=some m from h);exact vR hd
 ·obtain⟨ms,hm,rfl⟩:=aa.mp h;exact NT hP (a69 hP hm)
theorem Zu{Ξ':ij}(C:hU X c P Ξ)(h:GU c e=some m)(ea:Addr):PE (v5 X ea) e (LE X.K Ξ' (aX P m))/\A9 e=true:=by
 unfold GU at h;obtain⟨q,hq,g1⟩:=ag.mp h;obtain⟨o,ho,g2⟩:=ag.mp g1;obtain⟨x,hx,g3⟩:=ag.mp g2;obtain⟨a,ha,g4⟩:=ag.mp g3;clear h g1 g2 g3;obtain⟨f,args,jD,p⟩:=q;obtain⟨o,mn,ap⟩:=o;have:=bH8 hq;subst this;have:=TC ho;subst this;obtain⟨px,rfl⟩:=P1 hx;have:=U9 ha;have:args=[a]:=this;subst this;split at g4
 case isFalse=>cases g4
 rename_i hc;simp only[Bool.and_eq_true,decide_eq_true_eq] at hc;obtain⟨⟨⟨⟨hk,rfl⟩,hl⟩,gN⟩,hv⟩:=hc;cases jD<;>first|(cases hk;done)|skip
 obtain⟨ma,zi,g5⟩:=ag.mp g4;obtain⟨i,hi,rfl⟩:=aa.mp g5;obtain⟨d1,d2,_⟩:=F3 gN;have BE:gL a=true:=by cases a<;>first|rfl|cases zi
 refine⟨?_,rfl⟩;refine Mw (X:=v5 X ea) C.mono dJ rA rz Nm (λR r h=>ty_list R r h) (NU (X:=v5 X ea) (C.rg hi) (C.JZ hv) d1 d2) (C3 (X:=v5 X ea) C.mono (EV (X:=v5 X ea) zi).1 (K7 (X:=v5 X ea) C.mono) (p6 BE)) rfl ?_ hl (p6 BE) rfl;have:=Fd (pos:=p) (env:=(v5 X ea).env) (es:=[a]) λz hz=>by cases aY.mp hz;exact BE
 rw[this]
 rfl
theorem aX7{h:ExceptHandler}{q:Str×Expr}(hq:Gs h=some q):∃p p1 p2,h=.ExceptHandler (some (.Name q.1 p)) none [.Return (some q.2) p1] p2:=by
 obtain⟨t,n,b,p0⟩:=h;unfold Gs at hq;cases n with
 |some _=>cases hq
 |none =>
  obtain⟨t,rfl,hq⟩:=ag.mp (show t.bind _=some q from hq);obtain⟨y,hy,hq⟩:=ag.mp hq;obtain⟨e,he,rfl⟩:=aa.mp hq;obtain⟨p,rfl⟩:=P1 hy;rcases b with _|⟨s,_|⟨_,_⟩⟩
  ·cases he
  ·cases s<;>first|(cases he;done)|(cases he;exact⟨_,_,_,rfl⟩)
  ·cases he
theorem VG(C:hU X c P Ξ)(zm:X6 X Ξ.2):∀{hs:List ExceptHandler} {ms:List (Str×ME)},xI c hs=some ms->nr X Ξ P hs ms:=by
 intro hs
 induction hs with
 |nil=>intro ms h;cases h;exact .nil zm
 |cons hd hs ih =>
  intro ms h;unfold xI at h;obtain⟨q,hq,h'⟩:=ag.mp h;clear h;have h:=h';clear h';obtain⟨p,p1,p2,rfl⟩:=aX7 hq;obtain⟨y,e⟩:=q;dsimp only at h ⊢;split at h
  ·rename_i hc;simp only[Bool.and_eq_true] at hc;obtain⟨m,h1,h⟩:=ag.mp h;obtain⟨HL,h2,rfl⟩:=aa.mp h;obtain⟨C',hm,hi,_⟩:=C.exc y hc.1.1;refine .cons (C.B0 hc.1.2) (F3 hc.2).1 hm (λx C1 hx h1=>C.zE x y C1 C' ?_ hc.1.1 h1 hi) (λea=>VH (X:=v5 X ea) C.mono h1) (ih h2);rw[C.xj] at hx;simpa using hx
  ·cases h
theorem aN5{e f:Option Expr}{q:Str×Expr×List Expr}(h:Eu e f=some q):f=none/\∃p p',e=some (.Call (.Name q.1 p) (q.2.1::q.2.2) [] p'):=by
 unfold Eu at h;cases f with
 |some _=>cases h
 |none =>
  obtain⟨t,rfl,h⟩:=ag.mp (show e.bind _=some q from h);obtain⟨z,hz,h⟩:=ag.mp h;obtain⟨p,p',rfl⟩:=FI hz;obtain⟨x,as⟩:=z;cases as with
  |nil=>cases h
  |cons a as=>cases h;exact⟨rfl,_,_,rfl⟩
theorem TY(C:hU X c P Ξ){f:Str}:Gn X.K f (c.Eh f):=λy C' h hC=>by
 unfold j7.Eh at h;obtain⟨⟨f',y'⟩,h1,h2⟩:=aZ.mp h;obtain⟨h3,h4⟩:=bp.mp h1;cases h2;have:f'=f:=by simpa using h4
 subst this;exact C.pq f' y' C' h3 hC
variable(S:rn P r)(C:hU X c P Ξ)
include S C
theorem Zv{tg:Expr}{m:MS}(hw:c.wr=true)(hS:∀e m,r.e c e=some m->A9 e=false->∃elt gens sc p,e=.ListComp elt gens sc p/\∃r',rn P r'/\tT r' c elt gens sc=some m)(hT:∀a b k p m,r.e c (.Tuple [a,b] k p)=some m->∃r' ms,rn P r'/\M1 r' c [a,b]=some ms/\m=.prim .tup ms)(h:Jq r c tg e=some m):PS X (.Assign [tg] e pos) (LS X.K Ξ (wpS P m)):=by
 cases tg with
 |Name x px =>
  have h2:(if c.C2 x then(c.idx x).bind λi=>(r.e c e).map λm=>MS.set i m else none)=some m:=h;split at h2
  ·rename_i hl;obtain⟨i,hi,h2⟩:=ag.mp h2;obtain⟨me,he,rfl⟩:=aa.mp h2;cases hn:A9 e with
   |true=>exact LJ C.mono (NP (C.ui hw) (C.rg hi) (C.C2 hl).1 (S.e X c Ξ C _ _ he) (T3 hn) (C.C2 hl).2)
   |false =>
    obtain⟨elt,gens,sc,p,rfl,r',S',hx⟩:=hS e me he hn;obtain⟨tg,it,ifs,t,mi,mc,me,cl,rfl,rfl,hit,Sc,q1,q2,q3,q4⟩:=EK S' C hx;refine LJ C.mono ?_;exact(aM2 Sc C.calm q1 q2 q3 q4 (Ax hit) (C.ui hw) (C.rg hi) (C.C2 hl).1 (C.C2 hl).2).imp λN Z H h=>MJ C.mono Z H _ h
  ·cases h2
 |Tuple es k pt =>
  have h0:((Gu es).elim (if uX e&&A9 e then(c.slots es).bind λis=>(r.e c e).map λm=>MS.mx (.many is) m else none) λq=>if A9 e&&gL q.2.1&&gL q.2.2.2 then(r.e c q.1).bind λm1=>(r.e c q.2.1).bind λn1=>(r.e c q.2.2.1).bind λm2=>(r.e c q.2.2.2).bind λn2=>(r.e c e).map λm=>MS.yR m1 n1 m2 n2 m else none)=some m:=h;cases hq:Gu es with
  |some q =>
   rw[hq] at h0;dsimp only[Option.elim] at h0;split at h0
   ·cases hq
   ·cases h0
  |none =>
  rw[hq] at h0;have h2:(if uX e&&A9 e then(c.slots es).bind λis=>(r.e c e).map λm=>MS.mx (.many is) m else none)=some m:=h0;split at h2
  ·rename_i hn;rw[aP] at hn;obtain⟨is,hs,h2⟩:=ag.mp h2;obtain⟨me,he,rfl⟩:=aa.mp h2;exact Ta C.mono (NO (S.e X c Ξ C _ _ he) (My C.calm (C.ui hw) (C.slots hs)) (Lj hn.2) (Wd hn.1))
  ·cases h2
 |Subscript o i pt =>
  have h2:(if gL i&&A9 e then(r.e c o).bind λmo=>(r.e c i).bind λmi=>(r.e c e).map λm=>MS.eJ mo mi m else none)=some m:=h;split at h2
  ·rename_i hn;rw[aP] at hn;obtain⟨mo,ho,h2⟩:=ag.mp h2;obtain⟨mi,hi,h2⟩:=ag.mp h2;obtain⟨me,he,rfl⟩:=aa.mp h2;exact a97 C.mono C.units (S.e X c Ξ C _ _ he) (S.e X c Ξ C _ _ ho) (S.e X c Ξ C _ _ hi) (Lj hn.2) (Ut hn.1)
  ·cases h2
 |Attribute o f pt =>
  obtain⟨mo,ho,h⟩:=ag.mp h;obtain⟨me,he,rfl⟩:=aa.mp h;exact Vl C.mono (TY C) (S.e X c Ξ C _ _ ho) (S.e X c Ξ C _ _ he) (by cases e<;>rfl)
 |_=>cases h
theorem bD4(hw:c.wr=true)(eB:X.stack=X.env::X.outer)(hf:X.env.frame=some X.env.locals)(hh:X6 X Ξ.2){body:List Stmt}{hs:List ExceptHandler}{m:MS}(h:AX r c body hs=some m):PS X (.Try body hs [] [] p) (LS X.K Ξ (wpS P m)):=by
 unfold AX at h;obtain⟨s,h1,g1⟩:=ag.mp h;obtain⟨e,h2,g2⟩:=ag.mp g1;obtain⟨hd,h3,g3⟩:=ag.mp g2;obtain⟨q,h4,g4⟩:=ag.mp g3;obtain⟨s2,h5,g5⟩:=ag.mp g4;obtain⟨e2,h6,g6⟩:=ag.mp g5;clear h g1 g2 g3 g4 g5;have:=U9 h1;subst this;have:=Nn h2;subst this;have:=U9 h3;subst this;have:=Nn h6;subst this;obtain⟨t,n,b,p0⟩:=hd;unfold LR at h4;cases n with
 |some _=>cases h4
 |none =>
 obtain⟨t,rfl,h4⟩:=ag.mp (show t.bind _=some q from h4);obtain⟨y,hy,rfl⟩:=aa.mp h4;obtain⟨py,rfl⟩:=P1 hy;have:=U9 h5;have:b=[.Expr e2.1 e2.2]:=this;subst this;split at g6
 case isFalse=>cases g6
 rename_i hc;simp only[Bool.and_eq_true] at hc;obtain⟨⟨⟨hn,hex⟩,mZ⟩,gN⟩:=hc;obtain⟨me,Qk,g7⟩:=ag.mp g6;obtain⟨mb,Ql,rfl⟩:=aa.mp g7;obtain⟨C',hm,hi,_⟩:=C.exc y hex;refine Vm C.mono (C.sgn hw) (C.B0 mZ) (F3 gN).1 hm (λx C1 hx h1=>C.zE x y C1 C' (by rw[C.xj] at hx;simpa using hx) hex h1 hi) hh (λea=>?_) (λpins D Z=>S.e _ _ _ (C.Y9 hw eB hf pins D _ (λbU _ z=>by cases z Z rfl;exact⟨rfl,λ_ _ z=>z⟩) (λz=>by cases z)) _ _ Qk) (T3 hn);obtain⟨pe,pn⟩:=Zu C (Ξ':=nL Ξ.1) Ql ea;exact An (X:=v5 X ea) C.mono (EN (X:=v5 X ea) C.mono pe (T3 pn)) (zU (X:=v5 X ea) C.mono)
theorem Pf(hw:c.wr=true)(hS:∀e m,r.e c e=some m->A9 e=false->∃elt gens sc p,e=.ListComp elt gens sc p/\∃r',rn P r'/\tT r' c elt gens sc=some m)(hT:∀a b k p m,r.e c (.Tuple [a,b] k p)=some m->∃r' ms,rn P r'/\M1 r' c [a,b]=some ms/\m=.prim .tup ms) :
  ∀st m,JU r c st=some m->PS X st (LS X.K Ξ (wpS P m)):=by
 intro st m h;have hP:=C.mono;cases st with
 |AugAssign tg op e p =>
  cases tg with
  |Name x tp =>
   have h2:(if c.C2 x then(JC op).bind λp=>(c.idx x).bind λi=>(r.e c e).map λm=>MS.lG i p m else none)=some m:=h;split at h2
   ·rename_i hl;obtain⟨p,hp,h2⟩:=ag.mp h2;obtain⟨i,hi,h2⟩:=ag.mp h2;obtain⟨me,he,rfl⟩:=aa.mp h2;refine Vk C.mono ?_ (C.ui hw) (C.rg hi) (C.C2 hl).1 (C.C2 hl).2 (S.e X c Ξ C _ _ he);cases op<;>first|(cases hp;done)|skip
    ·cases hp;exact .inl ⟨rfl,rfl⟩
    ·cases hp;exact .inr ⟨rfl,rfl⟩
   ·cases h2
  |_=>cases h
 |Expr e p =>
  have h2:(if A9 e then(r.e c e).map MS.expr else none)=some m:=h;split at h2
  ·rename_i hn;obtain⟨me,he,rfl⟩:=aa.mp h2;exact EN hP (S.e X c Ξ C _ _ he) (T3 hn)
  ·cases h2
 |Assign Bx e p =>
  rcases Bx with _|⟨tg,_|⟨_,_⟩⟩
  ·cases h
  ·exact Zv S C hw hS hT h
  ·cases h
 |If t a b p =>
  obtain⟨mt,ht,h⟩:=ag.mp h;obtain⟨ma,ha,h⟩:=ag.mp h;obtain⟨mb,hb,rfl⟩:=aa.mp h;exact bK3 hP (S.t X c Ξ C _ _ ht) (uM S C hw ha) (uM S C hw hb)
 |For tg it body qd p =>
  have h2:(if c.nJ&&(qd.isEmpty&&gL it) then(c.tg tg).bind λt=>(xJ r c tg it).bind λmi=>(A7 r c body).map λmb=>MS.dq t mi mb else none)=some m:=h;split at h2
  ·rename_i hc;rw[aP,aP] at hc;cases qd<;>first|(cases hc.2.1;done)|skip
   obtain⟨t,h1,h2⟩:=ag.mp h2;obtain⟨mi,h3,h2⟩:=ag.mp h2;obtain⟨mb,h4,rfl⟩:=aa.mp h2;exact SX hP (C.own hc.1) C.calm (HJ S C h3) (C.Ju hw h1) (uM S C hw h4) (Ax hc.2.2)
  ·cases h2
 |While t body qd p =>
  have h2:(if c.nJ&&qd.isEmpty then(r.t c t).bind λmt=>(A7 r c body).map λmb=>MS.kR mt mb else none)=some m:=h;split at h2
  ·rename_i hc;rw[aP] at hc;cases qd<;>first|(cases hc.2;done)|skip
   obtain⟨mt,h1,h2⟩:=ag.mp h2;obtain⟨mb,h4,rfl⟩:=aa.mp h2;exact a96 hP (C.own hc.1) (S.t X c Ξ C _ _ h1) (uM S C hw h4)
  ·cases h2
 |Return e p =>
  cases e with
  |none=>cases h;exact(UL (X:=X)).imp λN cj H ⟨Z,g,ρ,s,R,h⟩=>LQ.now h R .br
  |some e =>
   obtain⟨me,he,rfl⟩:=aa.mp (show(r.e c e).map (λm=>MS.ret (toR c e m))=some m from h);refine NX hP ?_;exact S.e X c Ξ C _ _ he
 |Raise e f p =>
  obtain⟨q,hq,h2⟩:=ag.mp h;clear h;obtain⟨rfl,px,p2,rfl⟩:=aN5 hq;obtain⟨x,e,es⟩:=q;dsimp only at h2 ⊢;split at h2
  ·rename_i hc;simp only[Bool.and_eq_true] at hc;obtain⟨ma,ha,rfl⟩:=aa.mp h2;have ok:=EU ha;obtain⟨C',hm,hi,B,nI,iI,bm,O,FB⟩:=C.exc x hc.1.1.2;exact a98 hP C.calm O FB (C.B0 hc.1.2) (vS S C ha) (C.jU hc.1.1.1) (by rw[C.xj];simpa using hc.1.1.2) hi (p6 (ok e (by simp))) (V8 λz hz=>ok z (by simp[hz])) (F3 hc.2).1
  ·cases h2
 |Try body hs el fi p =>
  have h2:(if c.jz&&!hs.isEmpty&&el.isEmpty&&fi.isEmpty then((A7 r { c with jU:=false,jz:=false,wr:=true } body).bind λmb=>(xI c hs).map λms=>MS.Y9 mb ms).orElse λ_=>AX r c body hs else none)=some m:=h;split at h2
  ·rename_i hc;simp only[Bool.and_eq_true] at hc;obtain⟨⟨⟨ht,hh⟩,he⟩,hf⟩:=hc;cases el<;>first|(cases he;done)|skip
   cases fi<;>first|(cases hf;done)|skip
   cases hs<;>first|(cases hh;done)|skip
   obtain⟨eB,hf,zm⟩:=C.jz ht;rcases orElse_some h2 with h2|h2
   ·obtain⟨mb,h1,h2⟩:=ag.mp h2;obtain⟨ms,h3,rfl⟩:=aa.mp h2;refine SY hP (C.sgn hw) (λpins D=>uM S (C.Y9 hw eB hf pins D _ (λZ hl _=>⟨by rw[jw,hl],λi v z=>?_⟩) λ_=>rfl) rfl h1) (VG C zm h3);rw[dN] at z;split at z<;>cases z
   ·exact bD4 S C hw eB hf zm h2
  ·cases h2
 |Pass p=>cases h;exact(UK (X:=X)).imp λN cj H ⟨Z,g,ρ,s,R,h⟩=>h ρ H cj (.refl _ _) R s
 |_=>cases h
end
theorem aN2(h:(comp (n+1)).e c e=some m)(hn:A9 e=false):∃elt gens sc p,e=.ListComp elt gens sc p/\tT (comp n) c elt gens sc=some m:=by
 cases e<;>first|(cases hn;done)|(cases h;done)|exact⟨_,_,_,_,rfl,h⟩
theorem snd:∀n,(∀k,k<=n->rn P (comp k)):=by
 intro n
 induction n with
 |zero =>
  intro k hk;obtain rfl:=Nat.le_zero.mp hk;exact⟨λ_ _ _ _ _ _ h=>(by cases h),λ_ _ _ _ _ _ h=>(by cases h),λ_ _ _ _ _ _ _ h=>(by cases h)⟩
 |succ n ih =>
  intro k hk;rcases cB k (n+1) with dW|hge
  ·exact ih k ()
  obtain rfl:k=n+1:=by omega
  have I:=ih n (az n);refine⟨λX c Ξ C e m h=>Pj I C e m h,λX c Ξ C e m h=>Pe I C e m h,λX c Ξ C hw st m h=>?_⟩;rcases orElse_some h with h|h
  rotate_left
  ·cases h;exact λpins s Z H D I q=>by obtain⟨_,_,_,_,_,z⟩:=q;exact(show False from z).elim
  refine Pf I C hw (λe m he hn=>?_) (λa b k p m he=>?_) st m h
  ·cases n with
   |zero=>cases he
   |succ n =>
    obtain⟨elt,gens,sc,p,rfl,hx⟩:=aN2 he hn;exact⟨_,_,_,_,rfl,comp n,ih n (),hx⟩
  ·cases n with
   |zero=>cases he
   |succ n =>
    obtain⟨ms,hm,rfl⟩:=aa.mp (show(M1 (comp n) c [a,b]).map (ME.prim .tup)=some m from he);exact⟨comp n,ms,ih n (),hm,rfl⟩
structure qp where
 nm:Str
 qn:Str
 N:List Str
 ps:List Str
 st:Stmt
def j7.at(c:j7)(d:qp):j7:={ c with N:=d.N,nm:=(v7 d.st).names,nJ:=true,jU:=true,jz:=true,wr:=true }
structure kl(K:PySem.W.Frag)(c:j7)(d:qp)(m:aW)(f:Addr)(fd:FuncData):Prop where
 fn:rp K d.nm d.qn d.st f fd
 bi:Binds K fd d.ps []
 sc:jq d.N d.ps (v7 d.st)
 co:A7 (comp 60) (c.at d) (w5 d.st)=some m.body
 ar:m.ar=d.ps.length
 nn:m.n=d.N.length
structure oN(w:World)(K:PySem.W.Frag)(mg:Str->Option Value)(c:j7)(T:Nat->Option aW):Prop where
 fns:∀x i,c.fns.lookup x=some i->∃d m f fd,T i=some m/\kl K c d m f fd/\mg x=some (.ref f)
 cls:∀x i,c.cls.lookup x=some i->∃C d m f fd,T i=some m/\kl K c d m f fd/\mg x=some (.ref C)/\x2 K x C/\kK K C/\Mk K C f
 qz:∀x y i C,(x,y,i)∈c.qz->x2 K y C->∃d m f fd,T i=some m/\kl K c d m f fd/\Meth K C x f
 pq:∀f y C,(f,y)∈c.pq->x2 K y C->E8 K C f
 con:∀x d,c.con.lookup x=some d->∃v u,mg x=some u/\RelV v u/\∀ρ H,f9 K ρ H d v
 blt:∀x,c.blt.contains x=true->mg x=none
 DH:∀x,c.exc.contains x=true->∃C,mg x=some (.ref C)/\x2 K x C/\∀base:Heap,K.In base->base.Ns mainGlobals mg->∃B newId gR bm,OwnCls x C bm newId mg base/\ExcBaseFacts B newId gR bm
 DG:∀x y C C',c.exc.contains x=true->c.exc.contains y=true->x2 K x C->x2 K y C'->PySem.W.exmOne K (.ref C) (.ref C')=some (decide (x=y\/y="MintError"))
 sW:∀x kvs,c.gd.lookup x=some kvs->∃A vs,mg x=some (.ref A)/\xF K w.params A vs/\qY K kvs vs
section
variable{Pg:Program}{w:World}{K:PySem.W.Frag}{mg:Str->Option Value}{base:Heap}{T:Nat->Option aW}
theorem bF3{q:Str}(h:PySem.W.codeIn K cd q=true):PySem.W.kdsCode K cd=true:=by
 unfold PySem.W.codeIn at h;unfold PySem.W.kdsCode;split at h
 ·dsimp only;split at h
  ·rename_i e;rw[e]
  ·cases h
 ·cases h
theorem Uz:Passes (jM Pg w) (qh (jM Pg w) Pg w K mg base N qual scope f cd A outer s H E) E:=λpins Z H1 s1 e s' I h=>by
 obtain⟨C,H',J,fl,hE⟩:=I.flew h;exact aI4 J fl (λb o q=>I.base.there b o q (by intro z;cases z)) rfl rfl rfl hE
theorem WC:zX (qh (jM Pg w) Pg w K mg base N qual scope f cd A outer s H E) E:=λpins Z H1 s1 h' ea C vs I hm hE =>
 aV3 I hm rfl rfl rfl hE
theorem TZ:X6 (qh (jM Pg w) Pg w K mg base N qual scope f cd A outer s H E) E:=λpins Z H1 H2 s1 s2 B ea C a0 I l hh hE =>
 leave_held I l hh rfl rfl rfl hE
theorem Ez{k:Nat}{m:aW}(hT:T i=some m){ds:List D}{g:G}{Q:KD}{E:KX}(h:d0 T k i ds g Q E):ds.length=m.ar:=by
 cases k with
 |zero=>exact h.elim
 |succ k =>
  obtain⟨m',e,h,_⟩:=h;rw[hT] at e;cases e;exact h
theorem bI3(oV:K.In base)(xc:base.Ns mainGlobals mg)(A:oN w K mg c T):∀(k i:Nat) d m f fd,T i=some m->kl K c d m f fd->iQ Pg w K mg base (jM Pg w) (2*k) f fd d.ps (qw c.exc K d.ps.length (d0 T k i)):=by
 intro k
 induction k with
 |zero =>
  intro i d m f fd hm O;refine⟨λvs H Q E h=>h.1,λA outer s H args us vs Q E _ _ _ _ h=>?_⟩;obtain⟨_,_,_,_,_,_,q⟩:=h;exact q.elim
 |succ k ih =>
  intro i d m f fd hm O;obtain⟨oc,od,kV,doc,pm,an,fV,ct,nE,rfl,lk,nc⟩:=O.fn.ex;refine YX (k:=2*k+1) lk nc O.sc (λvs H Q E h=>h.1) (λA0 outer s H vs Q E hr h=>?_);obtain⟨hl,xs,g,ρ,rs,R,q⟩:=h;have C:hU (qh (jM Pg w) Pg w K mg base d.N d.qn (v7 d.st) f fV A0 outer s H E) (c.at d) (d0 T k) (c.exc,E):=by
   refine⟨rfl,O.sc.nd,λx h=>h,λx h=>h,λx h=>.inr h,λx h=>h,λx h=>?_,λ_ _=>rfl,rfl,?_,(λ_=>PassesOwn.leaving),b7 T k,A.con,A.blt,λx j hj=>?_,λx j hj=>?_,λx y j C' hj hC=>?_,A.pq,rfl,Uz,λ_=>WC,λ_=>⟨rfl,rfl,TZ⟩,λx hx=>?_,A.DG,A.sW,λ_=>bF3 nc,λ_=>rfl⟩
   ·rcases h with h|h
    ·exact ET h
    ·exact absurd rfl (O.sc.nX _ (aT h))
   ·have:=hr.un;show(A0.deeper _).units+100<cLine;omega
   ·obtain⟨d',m',f',qU,hT,O',hmg⟩:=A.fns x j hj;exact⟨2*k,f',qU,d'.ps,⟨ih j d' m' f' qU hT O',O'.bi,λJl g' Q' E' h'=>(Ez hT h').trans O'.ar⟩,hr.mono (),hmg,O'.fn.kp⟩
   ·obtain⟨C',d',m',f',qU,hT,O',hmg,hC,kA,M⟩:=A.cls x j hj;exact⟨2*k,C',f',qU,d'.ps,⟨ih j d' m' f' qU hT O',O'.bi,λJl g' Q' E' h'=>(Ez hT h').trans O'.ar⟩,hr,hmg,hC,kA,M⟩
   ·obtain⟨d',m',f',qU,hT,O',M⟩:=A.qz x y j C' hj hC;exact⟨2*k,f',qU,d'.ps,M,⟨ih j d' m' f' qU hT O',O'.bi,λJl g' Q' E' h'=>(Ez hT h').trans O'.ar⟩,hr.mono ()⟩
   ·obtain⟨C,h1,h2,h3⟩:=A.DH x hx;exact⟨C,h1,h2,h3 base oV xc⟩
  refine⟨_,uM (snd (P:=d0 T k) 60 60 (az _)) C rfl O.co,?_⟩;obtain⟨m',e,q1,q⟩:=q;rw[hm] at e;cases e;refine⟨d6 m xs,g,ρ,?_,R,wpS_mono (b7 T k) m.body ⟨λ_ g'=>LQ K ρ H Q .br g',LQ K ρ H Q,λ_ _=>False,λ_ _=>False⟩ _ _ _ _ _ ⟨λZ g' h bJ H' dz e R' s'=>h bJ H' _ e R' .br,λd g' h=>h,λ_ _ h=>h.elim,λ_ _ h=>h.elim⟩ (λ_ _ z=>z) q⟩;have:=v8.start (n:=d.N.length) rs;unfold d6 L2.start;rw[O.nn];exact this
theorem bE8{L k0:Nat}{a:Addr}{ns:List Int}(hO:AD H)(hS:fO K H a (ns.map V.int))(h:d0 T k0 L [.ref 0] [.qb (ns.map .int)] (λd _=>d=.bl true) iV) :
  qw exc K 1 (d0 T k0 L) [.ref a] H (λv _=>v=.bl true) λ_ _ _=>False:=by
 refine⟨rfl,[.ref 0],[.qb (ns.map .int)],[a],.cons (.ref rfl) .nil,⟨rfl,λi o b h1 h2=>?_,λi j l m b h1 h2 m1=>?_⟩,b7 T k0 _ _ _ _ _ _ _ (λd g' e bJ H' v _ _ r=>?_) (λ_ _ z=>z.elim) h⟩
 ·cases i with
  |zero =>
   cases h1;cases h2;refine⟨_,?_,d7.ofInts ns⟩;rcases hS with(z|⟨o,z⟩)|z
   ·rcases hO a with q|⟨o,xs,q⟩
    ·rw[z] at q;cases q
    ·rw[z] at q;cases q
   ·exact .inl ⟨o,z⟩
   ·exact .inr z
  |succ i=>simp at h1
 ·cases i with
  |zero=>cases h1;cases m1
  |succ i=>simp at h1
 ·subst e;cases r
  rfl
end
end M
namespace M
open PySem L2
variable{P:fj}{g:G}{Q:Bool->G->Prop}{E:KX}{N:Ends}{a i n:Nat}{b:Bool}{c f:Str}{o cond elt:ME}{x y d v:D}{j:Int}{l:List D}{A B:Prop}{kvs:List (Key×D)}{k:Key}{kg:G->Prop}{ns:List Int}{f7:List Nat}{R:IK->G->Prop}
section
variable{Z:S}{Q:KD}{a b c:ME}{x y:MS}{p:Pr}
theorem C7(h:N.nx Z g):wpS P .pass N Z g E:=h
theorem tS(h:wpS P x ⟨λjl g1=>wpS P y N jl g1 E,N.rt,N.bk,N.ct⟩ Z g E):wpS P (.seq x y) N Z g E:=h
theorem V6(h:wpS P x N Z g E):wpS P (.seq x .pass) N Z g E:=h
theorem Tp(h:aX P a Z g (λ_ g1=>N.nx Z g1) E):wpS P (.expr a) N Z g E:=h
theorem AV(h:aX P a Z g (λx g1=>N.nx (Z.set i (some x)) g1) E):wpS P (.set i a) N Z g E:=h
theorem bI6{t:MT}(h:aX P a Z g (λx g1=>jT t x Z λjl=>N.nx jl g1) E):wpS P (.mx t a) N Z g E:=h
theorem MB{i:ME}(h:aX P a Z g (λx g1=>aX P o Z g1 (λy g2=>aX P i Z g2 (λz g3=>Z2 y z x g3 λg4=>N.nx Z g4) E) E) E):wpS P (.eJ o i a) N Z g E:=h
theorem Tt{cs:List Str}(h:aX P a Z g (λx g1=>aX P o Z g1 (λy g2=>xQ f cs y x g2 λg3=>N.nx Z g3) E) E):wpS P (.jf f cs o a) N Z g E:=h
theorem xR(h:dh P c Z g (λt g1=>if t=true then wpS P x N Z g1 E else wpS P y N Z g1 E) E):wpS P (.ifs c x y) N Z g E:=h
theorem Gi(h:aX P a Z g N.rt E):wpS P (.ret a) N Z g E:=h
theorem Vr{x:Str}(h:gw P a Z g (λvs g1=>vs.length<=1000/\E ⟨x⟩ g1) E):wpS P (.raise x a) N Z g E:=h
theorem Tw{y:Str}{b:MS}(h:aX P a Z g (λ_ g1=>N.nx Z g1) λx g1=>if x.cls=y\/y="MintError" then wpS P b N Z g1 iV else E x g1):wpS P (.mW a y b) N Z g E:=h
theorem bI7{hs:List (Str×ME)}(h:wpS P x N Z g (oS P N (Z.map λ_=>none) E hs)):wpS P (.Y9 x hs) N Z g E:=h
theorem Y'{x:Xn}{y:Str}{e:ME}{r:List (Str×ME)}(hx:x.cls=y)(h:aX P e Z g N.rt iV):oS P N Z E ((y,e)::r) x g:=by unfold oS;rw[aH (.inl hx)];exact h
theorem w_var(e:Z[i]?=some (some d))(h:Q d g):aX P (.var i) Z g Q E:=by exact⟨d,e,h⟩
theorem w_lit(h:Q d g):aX P (.lit d) Z g Q E:=h
theorem Ts(h:gw P a Z g (λxs g1=>cF p xs g1 Q) E):aX P (.prim p a) Z g Q E:=h
theorem Yu(h:cF p [] g Q):aX P (.prim p .nil) Z g Q E:=by exact h
theorem yo(h:aX P a Z g (λx g1=>cF p [x] g1 Q) E):aX P (.prim p (.cons a .nil)) Z g Q E:=by exact h
theorem yp(h:aX P a Z g (λx g1=>aX P b Z g1 (λy g2=>cF p [x,y] g2 Q) E) E):aX P (.prim p (.cons a (.cons b .nil))) Z g Q E:=by exact h
theorem Vq{o1 o2:CmpOp}(h:aX P a Z g (λx g1=>aX P b Z g1 (λy g2=>cF (.cmp o1) [x,y] g2 λz g3=>∃t,z=.bl t/\if t=true then aX P c Z g3 (λw g4=>cF (.cmp o2) [y,w] g4 Q) E else Q (.bl false) g3) E) E):aX P (.chain o1 o2 a b c) Z g Q E:=h
theorem w_and(h:aX P a Z g (λx g1=>∃t,x=.bl t/\if t=true then aX P b Z g1 Q E else Q (.bl false) g1) E):aX P (.dB a b) Z g Q E:=h
theorem w_or(h:aX P a Z g (λx g1=>∃t,x=.bl t/\if t=true then Q (.bl true) g1 else aX P b Z g1 Q E) E):aX P (.jY a b) Z g Q E:=h
theorem w_not(h:aX P a Z g (λx g1=>∃t,x=.bl t/\Q (.bl (!t)) g1) E):aX P (.eI a) Z g Q E:=h
theorem w_ite(h:dh P c Z g (λt g1=>if t=true then aX P a Z g1 Q E else aX P b Z g1 Q E) E):aX P (.ite c a b) Z g Q E:=h
theorem zW{f:Nat}(h:gw P a Z g (λxs g1=>P f xs g1 Q E) E):aX P (.call f a) Z g Q E:=h
theorem Tq{f:Nat}{c:Str}(h:gw P a Z g (λxs g1=>P f (.ref g1.length::xs) (g1++[.ins c []]) (λd g2=>d=.br/\Q (.ref g1.length) g2) E) E):aX P (.make c f a) Z g Q E:=h
theorem Tr(h:aX P o Z g (λx g1=>mD p x g1/\gw P a Z g1 (λxs g2=>cF p (x::xs) g2 Q) E) E):aX P (.dG p o a) Z g Q E:=h
theorem AU{Q:List D->G->Prop}(h:Q [] g):gw P .nil Z g Q E:=h
theorem V7{Q:List D->G->Prop}(h:aX P a Z g (λx g1=>gw P b Z g1 (λxs g2=>Q (x::xs) g2) E) E):gw P (.cons a b) Z g Q E:=h
theorem Tu{Q:Bool->G->Prop}(h:dh P a Z g (λt g1=>if t=true then dh P b Z g1 Q E else Q false g1) E):dh P (.dB a b) Z g Q E:=h
theorem bI8{Q:Bool->G->Prop}(h:dh P a Z g (λt g1=>if t=true then Q true g1 else dh P b Z g1 Q E) E):dh P (.jY a b) Z g Q E:=h
theorem Tv{Q:Bool->G->Prop}(h:dh P a Z g (λt g1=>Q (!t) g1) E):dh P (.eI a) Z g Q E:=h
theorem AW{Q:Bool->G->Prop}(h:Q true g):dh P .no Z g Q E:=h
theorem xS{Q:Bool->G->Prop}(h:aX P a Z g (λx g1=>qk g1 x λb=>Q b g1) E):dh P (.fo a) Z g Q E:=h
end
section
variable{Q:KD}{i:Int}{kb:Bool->Prop}{t s:Bool}{m:List D}
theorem Yw(h:Q (.int (i+j)) g):cF (.bin .Add) [.int i,.int j] g Q:=⟨_,_,.inl ⟨i,j,_,rfl,rfl,rfl,rfl⟩,h⟩
theorem Yx(h:Q (.int (i-j)) g):cF (.bin .Sub) [.int i,.int j] g Q:=⟨_,_,.inl ⟨i,j,_,rfl,rfl,rfl,rfl⟩,h⟩
theorem V0(c:tB i j)(h:Q (.int (i*j)) g):cF (.bin .Mult) [.int i,.int j] g Q:=⟨_,_,.inl ⟨i,j,_,rfl,⟨c,rfl⟩,rfl,rfl⟩,h⟩
theorem S0(c:0<j)(h:Q (.int (i % j)) g):cF (.bin .Mod) [.int i,.int j] g Q:=⟨_,_,.inl ⟨i,j,_,rfl,⟨c,rfl⟩,rfl,rfl⟩,h⟩
theorem AH(c:DZ i j)(h:Q (.int (i / j)) g):cF (.bin .FloorDiv) [.int i,.int j] g Q:=⟨_,_,.inl ⟨i,j,_,rfl,⟨c,rfl⟩,rfl,rfl⟩,h⟩
theorem bI4(h1:0<j)(h2:j<1073741824)(h:Q (.int (i / j)) g):cF (.bin .FloorDiv) [.int i,.int j] g Q:=AH ⟨h1,h2⟩ h
theorem FO(c:qe i j)(h:Q (.int (i ^ j.toNat)) g):cF (.bin .Pow) [.int i,.int j] g Q:=⟨_,_,.inl ⟨i,j,_,rfl,⟨c,rfl⟩,rfl,rfl⟩,h⟩
theorem JD(hl:l.length+m.length<=100000)(h:Q (.tup (l++m)) g):cF (.bin .Add) [.tup l,.tup m] g Q:=⟨_,_,.inr ⟨rfl,.inl ⟨l,m,rfl,hl,rfl,rfl⟩⟩,h⟩
theorem Y5{i j:Nat}(hi:g[i]?=some (.lst l))(hj:g[j]?=some (.lst m))(hl:l.length+m.length<=100000)(h:Q (.ref g.length) (g++[.lst (l++m)])):cF (.bin .Add) [.ref i,.ref j] g Q:=⟨_,_,.inr ⟨rfl,.inr (.inl ⟨i,j,l,m,rfl,hi,hj,hl,rfl,rfl⟩)⟩,h⟩
theorem bI9(h:Q (.int (-i)) g):cF (.un .USub) [.int i] g Q:=⟨_,_,⟨rfl,i,rfl,rfl,rfl⟩,h⟩
theorem X5{op:CmpOp}(hb:Kc g x y b op)(h:Q (.bl b) g):cF (.cmp op) [x,y] g Q:=⟨_,_,⟨x,y,b,rfl,hb,rfl,rfl⟩,h⟩
theorem Xg(h:Q (.bl (decide (i<j))) g):cF (.cmp .Lt) [.int i,.int j] g Q:=X5 ⟨i,j,rfl,rfl,rfl⟩ h
theorem Xf(h:Q (.bl (decide (i<=j))) g):cF (.cmp .LtE) [.int i,.int j] g Q:=X5 ⟨i,j,rfl,rfl,rfl⟩ h
theorem Xe(h:Q (.bl (decide (j<i))) g):cF (.cmp .Gt) [.int i,.int j] g Q:=X5 ⟨i,j,rfl,rfl,rfl⟩ h
theorem Xd(h:Q (.bl (decide (j<=i))) g):cF (.cmp .GtE) [.int i,.int j] g Q:=X5 ⟨i,j,rfl,rfl,rfl⟩ h
theorem Ef(h:uE g x y λb=>Q (.bl b) g):cF (.cmp .Eq) [x,y] g Q:=let ⟨_,hb,h⟩:=h;X5 hb h
theorem Eg(h:uE g x y λb=>Q (.bl (!b)) g):cF (.cmp .NotEq) [x,y] g Q:=let ⟨b,hb,h⟩:=h;X5 (b:=!b) (show xn g x y (!(!b)) from by rw[vq];exact hb) h
theorem tE(h:qG g x y λb=>Q (.bl b) g):cF (.cmp .In) [x,y] g Q:=let ⟨_,hb,h⟩:=h;X5 (.inl hb) h
theorem YH{S:Int->Bool}(hg:g[a]?=some (.set S n))(h:Q (.bl (S i)) g):cF (.cmp .In) [.int i,.ref a] g Q:=X5 (.inr ⟨a,S,n,i,rfl,hg,rfl,rfl⟩) h
theorem Y4(h:qG g x y λb=>Q (.bl (!b)) g):cF (.cmp .NotIn) [x,y] g Q:=let ⟨b,hb,h⟩:=h;X5 (b:=!b) (.inl (show inR g x y (!(!b)) from by rw[vq];exact hb)) h
theorem JP(h:kb (decide (i=j))):uE g (.int i) (.int j) kb:=⟨_,.inl ⟨i,j,rfl,rfl,rfl⟩,h⟩
theorem Jp(h:kb (t==s)):uE g (.bl t) (.bl s) kb:=⟨_,.inr (.inl ⟨t,s,rfl,rfl,rfl⟩),h⟩
theorem ZR{x y:Str}(h:kb (decide (x=y))):uE g (.str x) (.str y) kb:=⟨_,.inr (.inr (.inl ⟨x,y,rfl,rfl,rfl⟩)),h⟩
theorem YC(h:Q (.bl (decide (i=j))) g):cF (.cmp .Eq) [.int i,.int j] g Q:=Ef (JP h)
theorem JE(h:Q (.bl (!decide (i=j))) g):cF (.cmp .NotEq) [.int i,.int j] g Q:=Eg (JP h)
theorem YB(h:Q (.bl (t==s)) g):cF (.cmp .Eq) [.bl t,.bl s] g Q:=Ef (Jp h)
theorem YQ(h:Q (.bl (!(t==s))) g):cF (.cmp .NotEq) [.bl t,.bl s] g Q:=Eg (Jp h)
theorem YD{p q:Str}(h:Q (.bl (decide (p=q))) g):cF (.cmp .Eq) [.str p,.str q] g Q:=Ef (ZR h)
theorem tF(h:Q (.bl (R9 d)) g):cF (.cmp .Is) [d,.br] g Q:=X5 ⟨rfl,rfl⟩ h
theorem FU(h:Q (.bl (!R9 d)) g):cF (.cmp .IsNot) [d,.br] g Q:=X5 ⟨rfl,rfl⟩ h
theorem YI(h:Q (.bl true) g):cF (.cmp .Is) [.br,.br] g Q:=tF h
theorem YK(h:Q (.bl false) g):cF (.cmp .Is) [.int i,.br] g Q:=tF h
theorem YJ(h:Q (.bl false) g):cF (.cmp .Is) [.bl t,.br] g Q:=tF h
theorem YN{x:Str}(h:Q (.bl false) g):cF (.cmp .Is) [.str x,.br] g Q:=tF h
theorem YO(h:Q (.bl false) g):cF (.cmp .Is) [.tup l,.br] g Q:=tF h
theorem YL(h:Q (.bl false) g):cF (.cmp .Is) [.ref n,.br] g Q:=tF h
theorem YE(h:Q (.bl false) g):cF (.cmp .IsNot) [.br,.br] g Q:=FU h
theorem YG(h:Q (.bl true) g):cF (.cmp .IsNot) [.ref n,.br] g Q:=FU h
theorem Yr(h:kb t):qk g (.bl t) kb:=⟨t,.inr (.inl rfl),h⟩
theorem bJ6(h:kb (i != 0)):qk g (.int i) kb:=⟨_,.inr (.inr (.inl ⟨i,rfl,rfl⟩)),h⟩
theorem bJ5{i:Nat}(hl:d8 g i=some l)(h:kb (!l.isEmpty)):qk g (.ref i) kb:=⟨_,.inr (.inr (.inr (.inr ⟨i,l,rfl,hl,rfl⟩))),h⟩
theorem Ey{p:Bool->Prop}(h:p t):∃s,D.bl t=D.bl s/\p s:=⟨t,rfl,h⟩
theorem bF9{p:Int->Prop}(h:p i):∃s,D.int i=D.int s/\p s:=⟨i,rfl,h⟩
theorem if2{c:Prop}[Decidable c](h1:c->A)(h2:¬c->B):if decide c=true then A else B:=by
 by_cases h:c
 ·rw[aH (aw h)];exact h1 h
 ·rw[aE (by rw[aB h];decide)];exact h2 h
theorem lY(h:A):if true=true then A else B:=by rw[aH rfl];exact h
theorem pF(h:B):if false=true then A else B:=by rw[aE ∅];exact h
theorem Kh(h:A):if(!false)=true then A else B:=by rw[aH (show(!false)=true from rfl)];exact h
theorem Xr(h:B):if(!true)=true then A else B:=by rw[aE ∅];exact h
theorem fC(hb:b=false)(h:B):if b=true then A else B:=by rw[hb];exact pF h
theorem iu(hb:b=true)(h:A):if b=true then A else B:=by rw[hb];exact lY h
theorem s9(hl:d8 g a=some l)(h2:gh l i=some d)(h:Q d g):cF .ix [.ref a,.int i] g Q:=⟨_,_,⟨rfl,.inl ⟨_,l,i,rfl,hl,h2⟩⟩,h⟩
theorem x5(h2:gh l i=some d)(h:Q d g):cF .ix [.tup l,.int i] g Q:=⟨_,_,⟨rfl,.inl ⟨_,l,i,rfl,rfl,h2⟩⟩,h⟩
theorem yi{i:Nat}(hg:g[i]?=some (.eE kvs))(hk:pG y=some k)(hv:x4 kvs k=some v)(h:Q v g):cF .ix [.ref i,y] g Q:=⟨_,_,⟨rfl,.inr (.inl ⟨i,kvs,y,k,rfl,hg,hk,hv⟩)⟩,h⟩
theorem U1(hl:g[a]?=some (.lst l))(hn:lq l.length i=some n)(h:kg (g.set a (.lst (l.set n v)))):Z2 (.ref a) (.int i) v g kg:=⟨_,.inl ⟨a,i,l,n,rfl,rfl,hl,hn,rfl⟩,h⟩
theorem JR{i:Nat}(hg:g[i]?=some (.eE kvs))(hk:pG y=some k)(hl:kvs.length<100000)(h:kg (g.set i (.eE (putD kvs k v)))):Z2 (.ref i) y v g kg:=⟨_,.inr ⟨i,kvs,k,rfl,hg,hk,hl,rfl⟩,h⟩
theorem tQ{cs:List Str}{fs:List (Str×D)}(hg:g[a]?=some (.ins c fs))(hc:c∈cs)(hl:fs.length<100)(h:kg (g.set a (.ins c (p8 f v fs)))):xQ f cs (.ref a) v g kg:=⟨_,⟨a,c,fs,rfl,hg,hc,hl,rfl⟩,h⟩
theorem X0{fs:List (Str×D)}(hg:g[a]?=some (.ins c fs))(hf:fs.lookup f=some d)(h:Q d g):cF (.fld f) [.ref a] g Q:=⟨_,_,⟨a,c,fs,rfl,hg,hf,rfl⟩,h⟩
theorem b0(h:g[a]?=some (.lst l)):d8 g a=some l:=by simp only[d8,h,Gz]
theorem a52(h:g[a]?=some (.qb l)):d8 g a=some l:=by simp only[d8,h,Gz]
theorem E1(hl:d8 g a=some l)(h:Q (.int l.length) g):cF .len [.ref a] g Q:=⟨_,_,⟨rfl,.inl ⟨_,l,rfl,hl,rfl⟩⟩,h⟩
theorem SJ(h:Q (.tup (cut l (some i) (some j))) g):cF (.jX true true) [.tup l,.int i,.int j] g Q:=⟨_,_,⟨_,i,j,rfl,.inl ⟨l,rfl,rfl,rfl⟩⟩,h⟩
theorem NV(hl:d8 g a=some l)(h:Q (.ref g.length) (g++[.lst (cut l (some i) none)])):cF (.jX true false) [.ref a,.int i] g Q:=⟨_,_,⟨_,i,rfl,.inr ⟨a,l,rfl,hl,rfl,rfl⟩⟩,h⟩
theorem GK(hl:d8 g a=some l)(h:Q (.ref g.length) (g++[.lst (cut l none (some i))])):cF (.jX false true) [.ref a,.int i] g Q:=⟨_,_,⟨_,i,rfl,.inr ⟨a,l,rfl,hl,rfl,rfl⟩⟩,h⟩
theorem Gd(hl:l.length<=1000)(h:Q (.tup l) g):cF .tup l g Q:=⟨_,_,⟨hl,rfl,rfl⟩,h⟩
theorem Gb(hl:l.length<=1000)(h:Q (.ref g.length) (g++[.lst l])):cF .lst l g Q:=⟨_,_,⟨hl,rfl,rfl⟩,h⟩
theorem xM(hl:d8 g a=some l)(h:Q (.ref g.length) (g++[.lst l])):cF .list [.ref a] g Q:=⟨_,_,.inl ⟨_,l,rfl,hl,rfl,rfl⟩,h⟩
theorem bJ1(hl:d8 g a=some l)(h:Q (.tup l) g):cF .tuple [.ref a] g Q:=⟨_,_,⟨_,l,rfl,hl,rfl,rfl⟩,h⟩
theorem gM{c:String}(hc:c∈["int","bool","str","tuple","list"])(hb:tG g d c=some b)(h:Q (.bl b) g):cF .isin [d,.ty c] g Q:=⟨_,_,⟨d,c,b,rfl,hc,hb,rfl,rfl⟩,h⟩
theorem L5{i:Nat}(hg:g[i]?=some (.lst l))(hl:l.length<100000)(h:Q .br (g.set i (.lst (l++[y])))):cF .append [.ref i,y] g Q:=⟨_,_,⟨i,y,l,rfl,hg,hl,rfl,rfl⟩,h⟩
theorem Zs{i j:Nat}{n:Int}(hg:g[i]?=some (.lst l))(hn:n=j)(hj:l[j]?=some y)(hl:l.length<100000)(h:Q y (g.set i (.lst (l.eraseIdx j)))):cF .pop [.ref i,.int n] g Q:=by
 have dW:=(ak.mp hj).1;refine⟨_,_,⟨i,n,l,j,rfl,hg,by omega,by omega,?_,hj,rfl⟩,h⟩;rw[hn];exact PySem.StrLaws.seqIndex_nonneg () () |>.trans (by simp)
theorem FY{i:Nat}{z:D}(hg:g[i]?=some (.eE kvs))(hk:pG y=some k)(h:Q ((x4 kvs k).getD z) g):cF .get [.ref i,y,z] g Q:=⟨_,_,⟨i,y,z,kvs,k,rfl,hg,hk,rfl,rfl⟩,h⟩
theorem NJ(hl:d8 g a=some l):mD .index (.ref a) g:=⟨a,l,rfl,hl⟩
theorem Zr(hl:d8 g a=some l)(W:Gm l y n)(hz:l.length<=100000)(h:Q (.int n) g):cF .index [.ref a,y] g Q:=⟨_,_,⟨_,y,l,n,rfl,hl,W,hz,rfl,rfl⟩,h⟩
theorem bG3(h:Q (.int (i+j)) g):cF .iadd [.int i,.int j] g Q:=⟨_,_,.inl ⟨i,j,rfl,rfl,rfl⟩,h⟩
theorem Yz{i:Nat}{v:Bool}(hl:d8 g i=some l)(hv:Y6 l=some v)(h:Q (.bl v) g):cF .any [.ref i] g Q:=⟨_,_,⟨i,l,v,rfl,hl,hv,rfl,rfl⟩,h⟩
theorem M4{i:Nat}(hg:g[i]?=some (.lst l)):mD .append (.ref i) g:=⟨i,l,rfl,b0 hg⟩
theorem bD8{i:Nat}(hg:g[i]?=some (.lst l)):mD .pop (.ref i) g:=⟨i,l,rfl,b0 hg⟩
theorem XB{i:Nat}{l:List (Key×D)}(hg:g[i]?=some (.eE l)):mD .get (.ref i) g:=⟨i,l,rfl,hg⟩
theorem vW(h1:-(2 ^ 62)<=j)(h2:j<=100000)(h:Q (.ref g.length) (g++[.lst (k8 0 j.toNat)])):cF .jZ [.int j] g Q:=⟨_,_,⟨j,rfl,h1,h2,rfl,rfl⟩,h⟩
theorem vV(h1:-(2 ^ 62)<=i/\i<2 ^ 62/\-(2 ^ 62)<=j/\j<2 ^ 62/\j-i<=100000)(h:Q (.ref g.length) (g++[.lst (k8 i (j-i).toNat)])):cF .lh [.int i,.int j] g Q:=⟨_,_,⟨i,j,rfl,h1,rfl,rfl⟩,h⟩
theorem Ul{i:Nat}(hg:g[i]?=some (.lst l))(h:Q .br (g.set i (.lst []))):cF .clear [.ref i] g Q:=⟨_,_,⟨i,l,rfl,hg,rfl,rfl⟩,h⟩
theorem V'{i:Nat}(hg:g[i]?=some (.lst l)):mD .clear (.ref i) g:=⟨i,l,rfl,b0 hg⟩
theorem bC1(hl:d8 g a=some (ns.map .int))(hz:ns.length<60)(h:Q (.ref g.length) (g++[.lst ((u6 ns).map .int)])):cF .sset [.ref a] g Q:=⟨_,_,⟨a,ns,rfl,hl,hz,rfl,rfl⟩,h⟩
theorem qi(h:Q (.ref g.length) (g++[.eE []])):cF .qi [] g Q:=⟨_,_,⟨rfl,rfl,rfl⟩,h⟩
theorem max2(h:Q (.int (if j>i then j else i)) g):cF .max [.int i,.int j] g Q:=⟨_,_,⟨rfl,.inl ⟨i,j,rfl,rfl⟩⟩,h⟩
theorem Zt{M:Int}(hl:d8 g a=some (ns.map .int))(h1:M∈ns)(h2:∀x∈ns,x<=M)(h:Q (.int M) g):cF .max [.ref a] g Q:=⟨_,_,⟨rfl,.inr ⟨a,ns,M,rfl,hl,h1,h2,rfl⟩⟩,h⟩
theorem bE2{S:Int->Bool}(hg:g[a]?=some (.set S n))(hn:n+1<4096)(h:Q .br (g.set a (.set (λk=>S k||decide (k=i)) (if S i then n else n+1)))):cF .kU [.ref a,.int i] g Q:=⟨_,_,⟨a,i,S,n,rfl,hg,hn,rfl,rfl⟩,h⟩
theorem Uo{S:Int->Bool}(hg:g[a]?=some (.set S n)):mD .kU (.ref a) g:=⟨a,S,n,rfl,hg⟩
theorem Uy(h:Q (.ref g.length) (g++[.set (λk=>decide (k=i)) 1])):cF (.kT i) [] g Q:=⟨_,_,⟨rfl,rfl,rfl⟩,h⟩
theorem JV(hl:d8 g a=some (ns.map .int))(h:Q (.int ns.sum) g):cF .sum [.ref a] g Q:=⟨_,_,⟨a,ns,rfl,hl,rfl,rfl⟩,h⟩
theorem bE4(hl:d8 g a=some (ns.map .int))(hz:ns.length<60)(h:Q (.int (ST.m5 [] ns).length) g):cF .pH [.ref a] g Q:=⟨_,_,⟨a,ns,rfl,hl,hz,rfl,rfl⟩,h⟩
theorem Yy(hl:d8 g a=some (ns.map .int))(h:Q (.bl (ns.all λn=>n != 0)) g):cF .all [.ref a] g Q:=⟨_,_,⟨a,_,_,rfl,hl,.inr ⟨ns,rfl,rfl⟩,rfl,rfl⟩,h⟩
theorem FP(c:qe i j)(h:Q (.int (i*2 ^ j.toNat)) g):cF (.bin .LShift) [.int i,.int j] g Q:=⟨_,_,.inl ⟨i,j,_,rfl,⟨c,rfl⟩,rfl,rfl⟩,h⟩
theorem xG(h:Q (.int (Builtin.bitAnd i j)) g):cF (.bin .BitAnd) [.int i,.int j] g Q:=⟨_,_,.inl ⟨i,j,_,rfl,rfl,rfl,rfl⟩,h⟩
theorem WX(h:Q (.int (Builtin.bitOr i j)) g):cF (.bin .BitOr) [.int i,.int j] g Q:=⟨_,_,.inl ⟨i,j,_,rfl,rfl,rfl,rfl⟩,h⟩
theorem LM{Z:S}{i:Nat}{p:Pr}{v:ME}(e:Z[i]?=some (some x))(h:aX P v Z g (λz g1=>cF p [x,z] g1 λw g2=>N.nx (Z.set i (some w)) g2) E):wpS P (.lG i p v) N Z g E:=⟨x,e,h⟩
theorem bF7(h:Q (.int (i-j)) g):cF .oh [.int i,.int j] g Q:=⟨_,_,⟨i,j,rfl,rfl,rfl⟩,h⟩
theorem min2(h:Q (.int (if j<i then j else i)) g):cF .min [.int i,.int j] g Q:=⟨_,_,⟨rfl,.inl ⟨i,j,rfl,rfl⟩⟩,h⟩
theorem Zd{v:Bool}(h:Q (.int (if v then 1 else 0)) g):cF .int [.bl v] g Q:=⟨_,_,⟨rfl,.inr ⟨v,rfl,rfl⟩⟩,h⟩
theorem JI{kvs:List D}{x:Str}(hv:R8 kvs x=some v)(h:Q v g):cF .oH [.tup kvs,.str x] g Q:=⟨_,_,⟨kvs,x,rfl,hv,rfl⟩,h⟩
theorem Xj(hi:i.natAbs.log2<1920)(h:Q (.str (toString i)) g):cF .fv [.int i] g Q:=⟨_,_,⟨rfl,.inl ⟨i,rfl,hi,rfl⟩⟩,h⟩
theorem bC2{x:Str}(hx:Y1 l=some x)(h:Q (.str x) g):cF .ni l g Q:=⟨_,_,⟨x,hx,rfl,rfl⟩,h⟩
theorem AI{i:Nat}{v:Bool}(hl:d8 g i=some l)(hv:Y8 l=some v)(h:Q (.bl v) g):cF .all [.ref i] g Q:=⟨_,_,⟨i,l,v,rfl,hl,.inl hv,rfl,rfl⟩,h⟩
theorem j8{i:Nat}{Z:S}{k:S->Prop}(h:k (Z.set i (some x))):jT (.one i) x Z k:=h
theorem B1{is:List Nat}{Z bU:S}{k:S->Prop}(e:J7 is l Z=some bU)(h:k bU):jT (.many is) (.tup l) Z k:=⟨l,bU,rfl,e,h⟩
end
theorem Y7:∀(bs:List Bool),Y8 (bs.map D.bl)=some (bs.all id):=by
 intro bs
 induction bs with
 |nil=>rfl
 |cons b r ih=>simp[Y8,ih]
theorem call_of{T:Nat->Option aW}{k f:Nat}{m:aW}{ds:List D}{Q:KD}(hT:T f=some m)(hl:ds.length=m.ar)(h:wpS (d0 T k) m.body ⟨λ_ g'=>Q .br g',Q,λ_ _=>False,λ_ _=>False⟩ (d6 m ds) g E):d0 T (k+1) f ds g Q E:=⟨m,hT,hl,h⟩
def IK.Is(k:IK)(l:List D)(g:G):Prop:=∀i,k.at i g=some l[i]?
theorem w6:(IK.fix l).Is l g:=λ_=>rfl
theorem o8(h:d8 g a=some l):(IK.lst a).Is l g:=λi=>by simp only[IK.at,h]
def nK(l:List D):List D:=l.mapIdx λi d=>.tup [.int i,d]
theorem zP(h:d8 g a=some l):(IK.qc a).Is (nK l) g:=λi=>by
 simp only[IK.at,h,nK,List.getElem?_mapIdx]
theorem bF6(h:d8 g a=some l):(IK.uf a l.length).Is l.reverse g:=λi=>by
 simp only[IK.at,h,if_true];by_cases hi:i<l.length
 ·rw[aH hi,List.getElem?_reverse hi]
 ·rw[aE hi,aQ (by simpa using hi)]
theorem Q1(l:List D):(nK l).length=l.length:=by simp[nK]
theorem Ad(h:(nK l)[i]?=some x):∃d,l[i]?=some d/\x=.tup [.int i,d]:=by
 rw[nK,List.getElem?_mapIdx,aa] at h;obtain⟨d,h1,h2⟩:=h;exact⟨d,h1,h2.symm⟩
theorem B3{lo:Int}(h:(k8 lo n)[i]?=some x):i<n/\x=.int (lo+i):=by
 unfold k8 at h;have hi:i<n:=by
  have:=(ak.mp h).1;simpa using this
 rw[aj,bC hi] at h;cases h;exact⟨hi,rfl⟩
theorem o6(lo:Int)(n:Nat):(k8 lo n).length=n:=by simp[k8]
section
variable{Z:S}{it a b c:ME}{s:MS}{t:MT}{Q:KD}
theorem Ni{k:IK}{fin:S->G->Prop}{turn:D->(S->G->Prop)->S->G->Prop}(I:Nat->S->G->Prop)(hk:∀i Z g,I i Z g->k.Is l g)(h0:I 0 Z g)(hs:∀i x Z g,l[i]?=some x->I i Z g->turn x (I (i+1)) Z g)(hd:∀Z g,I l.length Z g->fin Z g):turns k Z g fin turn:=by
 refine⟨λi m Z g=>m=l.length-i/\i<=l.length/\I i Z g,⟨l.length,by simp,cP _,h0⟩,?_⟩;rintro i m Z g ⟨rfl,hi,p⟩;rw[hk i Z g p i];by_cases dW:i<l.length
 ·rw[ao dW];exact .inr ⟨_,rfl,I (i+1),λbU g' p'=>⟨l.length-(i+1),by omega,rfl,dW,p'⟩,hs i l[i] Z g (ao dW) p⟩
 ·have e:i=l.length:=by omega
  subst e;rw[aQ (az _)];exact .inl ⟨rfl,hd Z g p⟩
inductive yE(P:fj)(t:MT)(s:MS)(N:Ends)(E:KX)(Z:S)(k:IK)(g1:G):Prop
 |mk (l:List D) (I:Nat->S->G->Prop) (hk:∀i Z g,I i Z g->k.Is l g) (h0:I 0 Z g1)
   (hs:∀i x Z g,l[i]?=some x->I i Z g->jT t x Z λcA=>wpS P s ⟨I (i+1),N.rt,N.nx,I (i+1)⟩ cA g E) (hd:∀Z g,I l.length Z g->N.nx Z g):yE P t s N E Z k g1
theorem x6(hP:j9 P)(h:gK P it Z g (yE P t s N E Z) E):wpS P (.dq t it s) N Z g E :=
 B6 hP it _ _ _ _ _ _ (λk g1 hq=>by obtain⟨l,I,hk,h0,hs,hd⟩:=hq;exact Ni I hk h0 hs hd) (λ_ _ z=>z) h
theorem aZ1(hn:(n:Int)<2 ^ 62)(I:Nat->S->G->Prop)(h0:I 0 Z g)(hs:∀(i:Nat) Z g,i<n->I i Z g->jT t (.int i) Z λcA=>wpS P s ⟨I (i+1),N.rt,N.nx,I (i+1)⟩ cA g E)(hd:∀Z g,I n Z g->N.nx Z g):wpS P (.dq t (.eQ (.lit (.int n))) s) N Z g E:=by
 refine⟨n,rfl,by omega,hn,Ni (l:=k8 0 n) I (λ_ _ _ _=>w6) h0 (λi x Z g hx p=>?_) (λZ g p=>hd Z g (by rw[o6] at p;exact p))⟩;obtain⟨hi,rfl⟩:=B3 hx;have:=hs i Z g hi p;rw[show(0:Int)+(i:Int)=i by omega];exact this
inductive CompI(P:fj)(t:MT)(cond elt:ME)(E:KX)(Q:KD)(Z:S)(k:IK)(g1:G):Prop
 |mk (l:List D) (I:Nat->List D->S->G->Prop) (hl:l.length<=1000) (hk:∀i ys Z g,I i ys Z g->k.Is l g/\ys.length<=i) (h0:I 0 [] Z g1)
   (hs:∀i x ys Z g,l[i]?=some x->I i ys Z g->jT t x Z λcA=>dh P cond cA g (λc g3=>if c=true then aX P elt cA g3 (λy g4=>I (i+1) (ys++[y]) cA g4) E else I (i+1) ys cA g3) iV)
   (hd:∀ys Z g,I l.length ys Z g->Q (.ref g.length) (g++[.lst ys])):CompI P t cond elt E Q Z k g1
theorem J5(hP:j9 P)(h:gK P it Z g (CompI P t cond elt iV Q (H9 Z f7 n)) E):aX P (.comp f7 n t it cond elt) Z g Q E:=by
 refine B6 hP it _ _ _ _ _ _ (λk g1 h=>?_) (λ_ _ z=>z) h;obtain⟨l,I,hl,hk,h0,hs,hd⟩:=h;refine⟨λi m ys Z g=>m=l.length-i/\i<=l.length/\I i ys Z g,⟨l.length,by simp,cP _,h0⟩,?_⟩;rintro i m ys Z g ⟨rfl,hi,p⟩;obtain⟨oX,hy⟩:=hk i ys Z g p;rw[oX i];by_cases dW:i<l.length
 ·rw[ao dW];refine .inr ⟨_,rfl,by omega,A8 (λcA q=>u7 hP cond _ _ _ _ _ _ (λc g3 q=>?_) (λ_ _ z=>z) q) (hs i l[i] ys Z g (ao dW) p)⟩;cases c
  ·exact⟨l.length-(i+1),by omega,rfl,dW,by simpa using(show I (i+1) ys cA g3 from q)⟩
  ·exact d5 hP elt _ _ _ _ _ _ (λy g4 q=>⟨l.length-(i+1),by omega,rfl,dW,by simpa using q⟩) (λ_ _ z=>z) q
 ·have e:i=l.length:=by omega
  subst e;rw[aQ (az _)];exact .inl ⟨rfl,hd ys Z g p⟩
inductive yx(P:fj)(t:MT)(cond elt:ME)(Q:KD)(Z:S)(k:IK)(g1:G):Prop
 |mk (l:List D) (I:Nat->List Int->S->G->Prop) (hl:l.length<60) (hk:∀i ys Z g,I i ys Z g->k.Is l g/\ys.length<=i) (h0:I 0 [] Z g1)
   (hs:∀i x ys Z g,l[i]?=some x->I i ys Z g->jT t x Z λcA=>dh P cond cA g (λc g3=>if c=true then aX P elt cA g3 (λy g4=>∃j,y=.int j/\I (i+1) (ys++[j]) cA g4) iV else I (i+1) ys cA g3) iV)
   (hd:∀ys Z g,I l.length ys Z g->Q (.ref g.length) (g++[.lst ((u6 ys).map .int)])):yx P t cond elt Q Z k g1
theorem Vs(hP:j9 P)(h:gK P it Z g (yx P t cond elt Q (H9 Z f7 n)) E):aX P (.ig f7 n t it cond elt) Z g Q E:=by
 refine B6 hP it _ _ _ _ _ _ (λk g1 h=>?_) (λ_ _ z=>z) h;obtain⟨l,I,hl,hk,h0,hs,hd⟩:=h;refine⟨λi m ys Z g=>m=l.length-i/\i<=l.length/\I i ys Z g,⟨l.length,by simp,cP _,h0⟩,?_⟩;rintro i m ys Z g ⟨rfl,hi,p⟩;obtain⟨oX,hy⟩:=hk i ys Z g p;rw[oX i];by_cases dW:i<l.length
 ·rw[ao dW];refine .inr ⟨_,rfl,by omega,A8 (λcA q=>u7 hP cond _ _ _ _ _ _ (λc g3 q=>?_) (λ_ _ z=>z) q) (hs i l[i] ys Z g (ao dW) p)⟩;cases c
  ·exact⟨l.length-(i+1),by omega,rfl,dW,by simpa using(show I (i+1) ys cA g3 from q)⟩
  ·refine d5 hP elt _ _ _ _ _ _ (λy g4 q=>?_) (λ_ _ z=>z) q;obtain⟨j,e,q⟩:=q;exact⟨j,e,l.length-(i+1),by omega,rfl,dW,by simpa using q⟩
 ·have e:i=l.length:=by omega
  subst e;rw[aQ (az _)];exact .inl ⟨rfl,by omega,hd ys Z g p⟩
theorem aR6(hP:j9 P)(h:aX P a Z g (λx g1=>∃j:Nat,x=.int j/\j<=1000/\∃I:Nat->List D->S->G->Prop,I 0 [] (H9 Z f7 n) g1/\(∀i ys Z g,I i ys Z g->ys.length<=i) /\
      (∀(i:Nat) ys Z g,i<j->I i ys Z g->jT t (.int i) Z λcA=>dh P cond cA g (λc g3=>if c=true then aX P elt cA g3 (λy g4=>I (i+1) (ys++[y]) cA g4) iV else I (i+1) ys cA g3) iV) /\
      ∀ ys Z g,I j ys Z g->Q (.ref g.length) (g ++ [.lst ys])) E):aX P (.comp f7 n t (.eQ a) cond elt) Z g Q E:=by
  refine J5 hP ?_;refine d5 hP a _ _ _ _ _ _ (λx g1 h=>?_) (λ_ _ z=>z) h;obtain⟨j,rfl,hj,I,h0,hz,hs,hd⟩:=h;refine⟨j,rfl,by omega,by omega,_,I,by rw[o6];simpa using hj,λi ys Z g p=>⟨w6,hz i ys Z g p⟩,h0,λi x ys Z g hx p=>?_,λys Z g p=>hd ys Z g (by rw[o6] at p;simpa using p)⟩;obtain⟨hi,rfl⟩:=B3 hx;rw[show(0:Int)+(i:Int)=i by omega];exact hs i ys Z g (by simpa using hi) p
theorem aR5(hP:j9 P)(h:aX P a Z g (λx g1=>∃l,x=.tup l/\l.length<=1000/\∃I:Nat->List D->S->G->Prop,I 0 [] (H9 Z f7 n) g1/\(∀i ys Z g,I i ys Z g->ys.length<=i) /\
      (∀(i:Nat) x ys Z g,l[i]?=some x->I i ys Z g->jT t x Z λcA=>dh P cond cA g (λc g3=>if c=true then aX P elt cA g3 (λy g4=>I (i+1) (ys++[y]) cA g4) iV else I (i+1) ys cA g3) iV) /\
      ∀ ys Z g,I l.length ys Z g->Q (.ref g.length) (g ++ [.lst ys])) E):aX P (.comp f7 n t (.eU a) cond elt) Z g Q E:=by
  refine J5 hP ?_;refine d5 hP a _ _ _ _ _ _ (λx g1 h=>?_) (λ_ _ z=>z) h;obtain⟨l,rfl,hj,I,h0,hz,hs,hd⟩:=h;exact .inl ⟨l,rfl,_,I,hj,λi ys Z g p=>⟨w6,hz i ys Z g p⟩,h0,hs,hd⟩
theorem MC(I:Nat->S->G->Prop)(m0:Nat)(h0:I m0 Z g)(hs:∀m Z g,I m Z g->dh P c Z g (λt g1=>if t=true then wpS P s ⟨λbU g'=>∃m',m'<m/\I m' bU g',N.rt,N.nx,λbU g'=>∃m',m'<m/\I m' bU g'⟩ Z g1 E else N.nx Z g1) E)(hP:j9 P):wpS P (.kR c s) N Z g E:=by
 refine⟨I,⟨m0,h0⟩,λm Z g p=>u7 hP c _ _ _ _ _ _ (λt g1 q=>?_) (λ_ _ z=>z) (hs m Z g p)⟩;cases t
 ·exact q
 ·exact⟨_,λ_ _ z=>z,q⟩
theorem pE(hP:j9 P)(h:aX P a Z g (λx g1=>∃j:Int,x=.int j/\-(2 ^ 62)<=j/\j<2 ^ 62/\R (.fix (k8 0 j.toNat)) g1) E):gK P (.eQ a) Z g R E:=h
theorem Kg(hP:j9 P)(h:aX P a Z g (λx g1=>aX P b Z g1 (λy g2=>∃i j:Int,x=.int i/\y=.int j/\(-(2 ^ 62)<=i/\i<2 ^ 62/\-(2 ^ 62)<=j/\j<2 ^ 62)/\R (.fix (k8 i (j-i).toNat)) g2) E) E):gK P (.jF a b) Z g R E:=h
theorem wk(hP:j9 P)(h:aX P a Z g (λx g1=>∃l,x=.tup l/\R (.fix l) g1) E):gK P (.eU a) Z g R E:=by
 exact d5 hP a _ _ _ _ _ _ (λx g1 h=>.inl h) (λ_ _ z=>z) h
theorem lr(hP:j9 P)(h:aX P a Z g (λx g1=>∃i l,x=.ref i/\d8 g1 i=some l/\R (.lst i) g1) E):gK P (.eU a) Z g R E:=by
 exact d5 hP a _ _ _ _ _ _ (λx g1 h=>.inr h) (λ_ _ z=>z) h
theorem Pt(h:aX P a Z g (λx g1=>∃i l,x=.ref i/\d8 g1 i=some l/\R (.uf i l.length) g1) E):gK P (.oW a) Z g R E:=h
theorem BR(h:aX P a Z g (λx g1=>∃i l,x=.ref i/\d8 g1 i=some l/\R (.qc i) g1) E):gK P (.lX a) Z g R E:=h
end
end M
namespace M
open PySem L2 PySem.Spec PyProof.Rows
variable{K:PySem.W.Frag}{x:Str}{C:Addr}
structure RF where
 id:Nat
 nm:Str
 N:List Str
 k:Nat
 i:Nat
 m:aW
structure RM where
 id:Nat
 cl:Str
 nm:Str
 qn:Str
 N:List Str
 k:Nat
 i:Nat
 j:Nat
 m:aW
def RF.d(tp:Nat->Stmt)(r:RF):qp:=⟨r.nm,r.nm,r.N,r.N.take r.k,tp r.i⟩
def RM.d(mt:Nat->Nat->Stmt)(r:RM):qp:=⟨r.nm,r.qn,r.N,r.N.take r.k,mt r.i r.j⟩
def uO(F:List RF)(M:List RM)(i:Nat):Option aW:=match F.find? λr=>Nat.beq r.id i with
 |some r=>some r.m
 |none=>(M.find? λr=>Nat.beq r.id i).map (·.m)
section
variable(tp:Nat->Stmt)(mt:Nat->Nat->Stmt)(K:PySem.W.Frag)
def PF:List RF->Prop
 |[]=>True
 |r::l=>(∃f fd,PySem.W.nsIn K mainGlobals r.nm=some (some (.ref f))/\rp K r.nm r.nm (tp r.i) f fd)/\PF l
def PM:List RM->Prop
 |[]=>True
 |r::l=>(∃C f fd,PySem.W.nsIn K mainGlobals r.cl=some (some (.ref C))/\Meth K C r.nm f/\rp K r.nm r.qn (mt r.i r.j) f fd)/\PM l
def PC:List (Str×Nat)->Prop
 |[]=>True
 |r::l=>(∃C,PySem.W.nsIn K mainGlobals r.1=some (some (.ref C))/\kK K C/\PySem.W.makesIn K C=true/\PySem.W.keepIn K (.ref C)=true)/\PC l
def PA:List (Str×Str)->Prop
 |[]=>True
 |r::l=>(∃C,PySem.W.nsIn K mainGlobals r.2=some (some (.ref C))/\PySem.W.findIn K (.ref C) r.1=some none)/\PA l
def PB:List Str->Prop
 |[]=>True
 |r::l=>PySem.W.nsIn K mainGlobals r=some none/\PB l
def PX:List Str->Prop
 |[]=>True
 |r::l=>(∃C,PySem.W.nsIn K mainGlobals r=some (some (.ref C))/\PySem.W.excIn K C [.type "ValueError",.type "Exception",.type "BaseException",.type "object"] "ValueError.__new__"=true)/\PX l
def BF:List RF->Prop
 |[]=>True
 |r::l=>(∀(kV doc pm:Value) (an:Option Addr) (fV ct:Value) (us:List Value),us.length=(r.N.take r.k).length->bindArgs (PySem.W.fnOf r.nm r.nm (E5 (tp r.i)) (w5 (tp r.i)) (v7 (tp r.i)) .none kV doc pm an fV ct) ⟨us,[]⟩=pure ((r.N.take r.k).zip us))/\BF l
def BM:List RM->Prop
 |[]=>True
 |r::l=>(∀(kV doc pm:Value) (an:Option Addr) (fV ct:Value) (us:List Value),us.length=(r.N.take r.k).length->bindArgs (PySem.W.fnOf r.nm r.qn (E5 (mt r.i r.j)) (w5 (mt r.i r.j)) (v7 (mt r.i r.j)) .none kV doc pm an fV ct) ⟨us,[]⟩=pure ((r.N.take r.k).zip us))/\BM l
def YF(c:j7):List RF->Prop
 |[]=>True
 |r::l=>A7 (comp 60) (c.at (r.d tp)) (w5 (tp r.i))=some r.m.body/\YF c l
def YM(c:j7):List RM->Prop
 |[]=>True
 |r::l=>A7 (comp 60) (c.at (r.d mt)) (w5 (mt r.i r.j))=some r.m.body/\YM c l
end
section
variable{tp:Nat->Stmt}{mt:Nat->Nat->Stmt}{c:j7}{id k i j:Nat}{cl nm qn:Str}{N:List Str}{m:aW}{f:Addr}{oc kV doc pm fV ct:Value}{od an:Option Addr}{nE:Array (Option Value)}
theorem PF.nil:PF tp K []:=trivial
theorem PF.cons{l:List RF}(a:PySem.W.nsIn K mainGlobals nm=some (some (.ref f)))(lk:K.lookup f=some ⟨oc,od,.func (PySem.W.fnOf nm nm (E5 (tp i)) (w5 (tp i)) (v7 (tp i)) .none kV doc pm an fV ct),nE⟩)(cd:PySem.W.codeIn K fV nm=true)(kp:PySem.W.keepIn K (.ref f)=true)(h:PF tp K l):PF tp K (⟨id,nm,N,k,i,m⟩::l):=⟨⟨f,_,a,NI lk cd kp⟩,h⟩
theorem PM.nil:PM mt K []:=trivial
theorem PM.cons{l:List RM}(c0:PySem.W.nsIn K mainGlobals cl=some (some (.ref C)))(a:PySem.W.findIn K (.ref C) nm=some (some (.ref f)))(af:PySem.W.isFn K (.ref f)=true)(lk:K.lookup f=some ⟨oc,od,.func (PySem.W.fnOf nm qn (E5 (mt i j)) (w5 (mt i j)) (v7 (mt i j)) .none kV doc pm an fV ct),nE⟩)(cd:PySem.W.codeIn K fV qn=true)(kp:PySem.W.keepIn K (.ref f)=true)(h:PM mt K l):PM mt K (⟨id,cl,nm,qn,N,k,i,j,m⟩::l):=⟨⟨C,f,_,c0,⟨a,af,kp⟩,NI lk cd kp⟩,h⟩
theorem PC.nil:PC K []:=trivial
theorem PC.cons{l:List (Str×Nat)}(cn:PySem.W.nsIn K mainGlobals x=some (some (.ref C)))(cp:PySem.W.plainGet K C Str.empty=true)(Sk:PySem.W.hasDictIn K C=true)(Se:PySem.W.plainOver K C=true)(Sd:PySem.W.findIn K (.ref C) "__setattr__"=some (some (.builtin "object.__setattr__")))(Sf:PySem.W.makesIn K C=true)(Sj:PySem.W.keepIn K (.ref C)=true)(h:PC K l):PC K ((x,i)::l):=⟨⟨C,cn,⟨cp,Sk,Se,Sd⟩,Sf,Sj⟩,h⟩
theorem PA.nil:PA K []:=trivial
theorem PA.cons{l:List (Str×Str)}(cn:PySem.W.nsIn K mainGlobals x=some (some (.ref C)))(fl:PySem.W.findIn K (.ref C) nm=some none)(h:PA K l):PA K ((nm,x)::l):=⟨⟨C,cn,fl⟩,h⟩
theorem PB.nil:PB K []:=trivial
theorem PB.cons{l:List Str}(cn:PySem.W.nsIn K mainGlobals x=some none)(h:PB K l):PB K (x::l):=⟨cn,h⟩
theorem PX.nil:PX K []:=trivial
theorem PX.cons{l:List Str}(cn:PySem.W.nsIn K mainGlobals x=some (some (.ref C)))(q:PySem.W.excIn K C [.type "ValueError",.type "Exception",.type "BaseException",.type "object"] "ValueError.__new__"=true)(h:PX K l):PX K (x::l):=⟨⟨C,cn,q⟩,h⟩
theorem Hm{P:List Value->Prop}{n:Nat}(h:∀a vs,vs.length=n->P (a::vs))(us:List Value)(hl:us.length=n+1):P us:=by
 cases us with
 |nil=>cases hl
 |cons a vs=>exact h a vs (Nat.succ.inj hl)
theorem Hl{P:List Value->Prop}(h:P [])(us:List Value)(hl:us.length=0):P us:=by
 cases cz.mp hl;exact h
theorem BF.nil:BF tp []:=trivial
theorem BF.cons{l:List RF}(h:∀(kV doc pm:Value) (an:Option Addr) (fV ct:Value) (us:List Value),us.length=(N.take k).length->bindArgs (PySem.W.fnOf nm nm (E5 (tp i)) (w5 (tp i)) (v7 (tp i)) .none kV doc pm an fV ct) ⟨us,[]⟩=pure ((N.take k).zip us))(h2:BF tp l):BF tp (⟨id,nm,N,k,i,m⟩::l):=⟨h,h2⟩
theorem BM.nil:BM mt []:=trivial
theorem BM.cons{l:List RM}(h:∀(kV doc pm:Value) (an:Option Addr) (fV ct:Value) (us:List Value),us.length=(N.take k).length->bindArgs (PySem.W.fnOf nm qn (E5 (mt i j)) (w5 (mt i j)) (v7 (mt i j)) .none kV doc pm an fV ct) ⟨us,[]⟩=pure ((N.take k).zip us))(h2:BM mt l):BM mt (⟨id,cl,nm,qn,N,k,i,j,m⟩::l):=⟨h,h2⟩
theorem YF.nil:YF tp c []:=trivial
theorem YF.cons{l:List RF}(h:A7 (comp 60) (c.at ⟨nm,nm,N,N.take k,tp i⟩) (w5 (tp i))=some m.body)(h2:YF tp c l):YF tp c (⟨id,nm,N,k,i,m⟩::l):=⟨h,h2⟩
theorem YM.nil:YM mt c []:=trivial
theorem YM.cons{l:List RM}(h:A7 (comp 60) (c.at ⟨nm,qn,N,N.take k,mt i j⟩) (w5 (mt i j))=some m.body)(h2:YM mt c l):YM mt c (⟨id,cl,nm,qn,N,k,i,j,m⟩::l):=⟨h,h2⟩
theorem YF.get:∀{l:List RF},YF tp c l->∀r∈l,A7 (comp 60) (c.at (r.d tp)) (w5 (tp r.i))=some r.m.body
 |_::_,h,r,hr=>(aL.mp hr).elim (λz=>z▸h.1) (YF.get h.2 r)
theorem YM.get:∀{l:List RM},YM mt c l->∀r∈l,A7 (comp 60) (c.at (r.d mt)) (w5 (mt r.i r.j))=some r.m.body
 |_::_,h,r,hr=>(aL.mp hr).elim (λz=>z▸h.1) (YM.get h.2 r)
theorem PF.get:∀{l:List RF},PF tp K l->∀r∈l,∃f fd,PySem.W.nsIn K mainGlobals r.nm=some (some (.ref f))/\rp K r.nm r.nm (tp r.i) f fd
 |_::_,h,r,hr=>(aL.mp hr).elim (λz=>z▸h.1) (PF.get h.2 r)
theorem PM.get:∀{l:List RM},PM mt K l->∀r∈l,∃C f fd,PySem.W.nsIn K mainGlobals r.cl=some (some (.ref C))/\Meth K C r.nm f/\rp K r.nm r.qn (mt r.i r.j) f fd
 |_::_,h,r,hr=>(aL.mp hr).elim (λz=>z▸h.1) (PM.get h.2 r)
theorem PC.get:∀{l:List (Str×Nat)},PC K l->∀r∈l,∃C,PySem.W.nsIn K mainGlobals r.1=some (some (.ref C))/\kK K C/\PySem.W.makesIn K C=true/\PySem.W.keepIn K (.ref C)=true
 |_::_,h,r,hr=>(aL.mp hr).elim (λz=>z▸h.1) (PC.get h.2 r)
theorem PA.get:∀{l:List (Str×Str)},PA K l->∀r∈l,∃C,PySem.W.nsIn K mainGlobals r.2=some (some (.ref C))/\PySem.W.findIn K (.ref C) r.1=some none
 |_::_,h,r,hr=>(aL.mp hr).elim (λz=>z▸h.1) (PA.get h.2 r)
theorem PB.get:∀{l:List Str},PB K l->∀r∈l,PySem.W.nsIn K mainGlobals r=some none
 |_::_,h,r,hr=>(aL.mp hr).elim (λz=>z▸h.1) (PB.get h.2 r)
theorem PX.get:∀{l:List Str},PX K l->∀r∈l,∃C,PySem.W.nsIn K mainGlobals r=some (some (.ref C))/\PySem.W.excIn K C [.type "ValueError",.type "Exception",.type "BaseException",.type "object"] "ValueError.__new__"=true
 |_::_,h,r,hr=>(aL.mp hr).elim (λz=>z▸h.1) (PX.get h.2 r)
theorem BF.get:∀{l:List RF},BF tp l->∀r∈l,∀(kV doc pm:Value) (an:Option Addr) (fV ct:Value) (us:List Value),us.length=(r.N.take r.k).length->bindArgs (PySem.W.fnOf r.nm r.nm (E5 (tp r.i)) (w5 (tp r.i)) (v7 (tp r.i)) .none kV doc pm an fV ct) ⟨us,[]⟩=pure ((r.N.take r.k).zip us)
 |_::_,h,r,hr=>(aL.mp hr).elim (λz=>z▸h.1) (BF.get h.2 r)
theorem BM.get:∀{l:List RM},BM mt l->∀r∈l,∀(kV doc pm:Value) (an:Option Addr) (fV ct:Value) (us:List Value),us.length=(r.N.take r.k).length->bindArgs (PySem.W.fnOf r.nm r.qn (E5 (mt r.i r.j)) (w5 (mt r.i r.j)) (v7 (mt r.i r.j)) .none kV doc pm an fV ct) ⟨us,[]⟩=pure ((r.N.take r.k).zip us)
 |_::_,h,r,hr=>(aL.mp hr).elim (λz=>z▸h.1) (BM.get h.2 r)
end
def yT(N P:List Str)(sc:Scope):Bool:=decide (sc.kind=.function)&&!sc.isCoroutine&&!sc.isGenerator&&decide N.Nodup&&decide (N.take P.length=P)&&P.all (λx=>decide (sc.names.lookup x=some .local)||decide (sc.names.lookup x=some .cell))&&sc.names.all λy=>decide (y.2≠.free)
theorem NS{N P:List Str}{sc:Scope}(h:yT N P sc=true):jq N P sc:=by
 unfold yT at h;simp only[Bool.and_eq_true,decide_eq_true_eq,Bool.not_eq_true',List.all_eq_true,Bool.or_eq_true] at h;obtain⟨⟨⟨⟨⟨⟨h1,h2⟩,h3⟩,h4⟩,h5⟩,h6⟩,h7⟩:=h;exact⟨h1,h2,h3,h4,h5,h6,h7⟩
theorem a29{h₀:Heap}{mg:Str->Option Value}{Jw:List Value}{newId:String}(X:K.In h₀)(G:h₀.Ns mainGlobals mg)(e:PySem.W.nsIn K mainGlobals x=some (some (.ref C)))(q:PySem.W.excIn K C Jw newId=true):PyProof.Rows.OwnCls x C Jw newId mg h₀:=by
 refine⟨bX X G e,?_⟩;unfold PySem.W.excIn at q;split at q
 ·rename_i dd cd sl ho;split at q
  ·rename_i C' bm k0 k1 k2 k3 n k5 hm hs;simp only[Bool.and_eq_true,beq_iff_eq,Bool.not_eq_true'] at q;obtain⟨⟨⟨⟨⟨z1,z2⟩,wI⟩,ht⟩,bZ⟩,zh⟩:=q;subst z1;subst z2;obtain⟨nm,bs,mro,ns,qn,hd,sn,sub,ab,col,del⟩:=cd;dsimp only at hm wI bZ zh;subst hm wI;have qI:sl=#[k0,k1,k2,k3,some (.builtin n),k5]:=by
    obtain⟨l⟩:=sl;simp only at hs;rw[hs]
   subst qI;exact⟨bm,ns,nm,qn,bs,hd,sn,sub,ab,col,dd,k0,k1,k2,k3,k5,_,X _ _ ho,.of_isNs (PySem.W.isNs_of_in X bZ),PySem.W.nsMap_none_of_in X bZ zh,PySem.W.tail_of_in X ht⟩
  ·cases q
 ·cases q
def V4(K:PySem.W.Frag)(x:Str):Addr:=match PySem.W.nsIn K mainGlobals x with
 |some (some (.ref C))=>C
 |_=>0
def L'(K:PySem.W.Frag)(exc:List Str):Bool:=exc.all λx=>exc.all λy=>decide (PySem.W.exmOne K (.ref (V4 K x)) (.ref (V4 K y))=some (decide (x=y\/y="MintError")))
theorem bG7{exc:List Str}(h:L' K exc=true){y:Str}{C':Addr}(hx:exc.contains x=true)(hy:exc.contains y=true)(hC:x2 K x C)(Dg:x2 K y C'):PySem.W.exmOne K (.ref C) (.ref C')=some (decide (x=y\/y="MintError")):=by
 have h1:=bG.mp h x (by simpa using hx);have h2:=bh (bG.mp h1 y (by simpa using hy));have e1:V4 K x=C:=by unfold V4;rw[show PySem.W.nsIn K mainGlobals x=_ from hC]
 have e2:V4 K y=C':=by unfold V4;rw[show PySem.W.nsIn K mainGlobals y=_ from Dg]
 rw[e1,e2] at h2;exact h2
theorem EB{α:Type}{f:α->Nat}:∀{l:List α},(l.map f).Nodup->∀r∈l,l.find? (λx=>Nat.beq (f x) (f r))=some r
 |y::l,nd,r,hr=>by
  rw[bL,dY] at nd;rcases aL.mp hr with rfl|hr
  ·rw[List.find?_cons_of_pos];exact Nat.beq_refl _
  ·rw[List.find?_cons_of_neg]
   ·exact EB nd.2 r hr
   ·intro z;exact nd.1 (aZ.mpr ⟨r,hr,(jt z).symm⟩)
theorem TX{α β:Type}{f:α->Nat}{g:β->Nat}{l:List α}{r:β}(h:g r∉l.map f):l.find? (λx=>Nat.beq (f x) (g r))=none:=by
 rw[kO];intro x hx z;exact h (aZ.mpr ⟨x,hx,jt z⟩)
section
variable{w:World}{h₀:Heap}{mg:Str->Option Value}{c:j7}{F:List RF}{M:List RM}{tp:Nat->Stmt}{mt:Nat->Nat->Stmt}
structure mM(K:PySem.W.Frag)(c:j7)(F:List RF)(M:List RM)(tp:Nat->Stmt)(mt:Nat->Nat->Stmt):Prop where
 qF:PF tp K F
 qM:PM mt K M
 qC:PC K c.cls
 qA:PA K c.pq
 qB:PB K c.blt
 qX:PX K c.exc
 xm:L' K c.exc=true
structure mL(c:j7)(F:List RF)(M:List RM)(tp:Nat->Stmt)(mt:Nat->Nat->Stmt):Prop where
 cf:c.fns=F.map λr=>(r.nm,r.id)
 cm:c.qz=M.map λr=>(r.nm,r.cl,r.id)
 ci:c.cls.all (λy=>M.any λr=>decide (r.cl=y.1)&&decide (r.nm="__init__")&&Nat.beq r.id y.2)=true
 nd:(F.map (·.id)++M.map (·.id)).Nodup
 sF:F.all (λr=>yT r.N (r.N.take r.k) (v7 (tp r.i))&&decide (r.m.ar=(r.N.take r.k).length)&&decide (r.m.n=r.N.length))=true
 sM:M.all (λr=>yT r.N (r.N.take r.k) (v7 (mt r.i r.j))&&decide (r.m.ar=(r.N.take r.k).length)&&decide (r.m.n=r.N.length))=true
 oF:YF tp c F
 oM:YM mt c M
 bF:BF tp F
 bM:BM mt M
theorem Mu(I:mM K c F M tp mt)(X:mL c F M tp mt)(r:RF)(hr:r∈F):∃f fd,kl K c (r.d tp) r.m f fd/\PySem.W.nsIn K mainGlobals r.nm=some (some (.ref f))/\uO F M r.id=some r.m:=by
 obtain⟨f,fd,a,q⟩:=I.qF.get r hr;have s:=bG.mp X.sF r hr;simp only[Bool.and_eq_true,decide_eq_true_eq] at s;have o:=X.oF.get r hr;refine⟨f,fd,⟨q,q.binds (X.bF.get r hr),NS s.1.1,o,s.1.2,s.2⟩,a,?_⟩;unfold uO;rw[EB (f:=(·.id)) (cT.mp X.nd).1 r hr]
theorem Mv(I:mM K c F M tp mt)(X:mL c F M tp mt)(r:RM)(hr:r∈M):∃C f fd,kl K c (r.d mt) r.m f fd/\PySem.W.nsIn K mainGlobals r.cl=some (some (.ref C))/\Meth K C r.nm f/\uO F M r.id=some r.m:=by
 obtain⟨C,f,fd,a,q1,q⟩:=I.qM.get r hr;have s:=bG.mp X.sM r hr;simp only[Bool.and_eq_true,decide_eq_true_eq] at s;have o:=X.oM.get r hr;refine⟨C,f,fd,⟨q,q.binds (X.bM.get r hr),NS s.1.1,o,s.1.2,s.2⟩,a,q1,?_⟩;have nd:=cT.mp X.nd;unfold uO;rw[TX (f:=λr:RF=>r.id) (g:=λr:RM=>r.id) (r:=r) (λz=>nd.2.2 _ z _ (aZ.mpr ⟨r,hr,rfl⟩) rfl),EB (f:=λr:RM=>r.id) nd.2.1 r hr]
 rfl
theorem Tg(I:mM K c F M tp mt)(Y:mL c F M tp mt)(X:K.In h₀)(G:h₀.Ns mainGlobals mg)(con:∀x d,c.con.lookup x=some d->∃v u,mg x=some u/\RelV v u/\∀ρ H,f9 K ρ H d v)(sW:∀x kvs,c.gd.lookup x=some kvs->∃A vs,mg x=some (.ref A)/\xF K w.params A vs/\qY K kvs vs):oN w K mg c (uO F M):=by
 refine⟨λx i hx=>?_,λx i hx=>?_,λx y i C hx hC=>?_,λf y C hx hC=>?_,con,λx hx=>?_,λx hx=>?_,λx y C C' hx hy hC Dg=>bG7 I.xm hx hy hC Dg,sW⟩
 ·have hm:=aT hx;rw[Y.cf] at hm;obtain⟨r,hr,e⟩:=aZ.mp hm;cases e;obtain⟨f,fd,O,a,t⟩:=Mu I Y r hr;exact⟨_,_,f,fd,t,O,bX X G a⟩
 ·have hm:=aT hx;have h1:=bG.mp Y.ci _ hm;obtain⟨r,hr,e⟩:=aO.mp h1;simp only[Bool.and_eq_true,decide_eq_true_eq] at e;obtain⟨⟨e1,e2⟩,e3⟩:=e;have e3:=jt e3;obtain⟨C,f,fd,O,a,q,t⟩:=Mv I Y r hr;obtain⟨C',a',hc,mk,kp⟩:=I.qC.get _ hm;rw[e1] at a;cases a.symm.trans a';rw[e2] at q;rw[e3] at t;exact⟨C,_,_,f,fd,t,O,bX X G a,a,hc,⟨mk,q.at_,q.fn,kp⟩⟩
 ·rw[Y.cm] at hx;obtain⟨r,hr,e⟩:=aZ.mp hx;cases e;obtain⟨C',f,fd,O,a,q,t⟩:=Mv I Y r hr;cases a.symm.trans hC;exact⟨_,_,f,fd,t,O,q⟩
 ·obtain⟨C',a,q⟩:=I.qA.get _ hx;cases a.symm.trans hC;exact q
 ·exact PySem.W.mg_none_of X G (I.qB.get x (by simpa using hx))
 ·obtain⟨C,a,q⟩:=I.qX.get x (by simpa using hx);exact⟨_,bX X G a,a,λbase oV xc=>⟨_,_,_,_,a29 oV xc a q,PySem.F.excBase_ValueError⟩⟩
end
end M
namespace M
open PySem L2
variable{g g':G}{i j n k a b m c lo p hl:Nat}{o o':O}{P:fj}{Q:KD}{E:KX}{N:Ends}{ms ns:List Int}{l:List D}{α:Type}{r:cQ}{x f v:Int}{kvs:List (Key×D)}{y:D}{cs:List b8}{kb:Bool->Prop}{rs:List cQ}{t:MT}{it elt:ME}{f7 H:List Nat}{w:RW}{z6 z7 z0 z1 z8 ir gJ jN iq ip:Option D}
set_option hygiene false
local macro_rules|`(tactic|walk_at"w1")=>`(tactic|with_reducible first|refine V6 ?_|refine tS ?_|refine AV ?_|refine Gi ?_|refine Tp ?_|refine bI6 ?_|refine MB ?_|refine Tt ?_|refine xR ?_|refine C7 ?_|refine Bs ?_|(refine w_var (d:=?_) ?_ ?_;rotate_left;·with_unfolding_all rfl)|refine w_lit ?_|refine yp ?_|refine yo ?_|refine Yu ?_|refine Ts ?_|refine Vq ?_|refine w_and ?_|refine w_or ?_|refine w_not ?_|refine w_ite ?_|refine zW ?_|refine Tq ?_|refine yO ?_|refine AU ?_|refine V7 ?_|refine Tu ?_|refine bI8 ?_|refine Tv ?_|refine AW ?_|refine xS ?_|refine Yw ?_|refine Yx ?_|refine bI9 ?_|refine Xg ?_|refine Xf ?_|refine Xe ?_|refine Xd ?_|refine YC ?_|refine JE ?_|refine YB ?_|refine YQ ?_|refine YD ?_|refine YI ?_|refine YK ?_|refine YJ ?_|refine YN ?_|refine YO ?_|refine YL ?_|refine tF ?_|refine YE ?_|refine Jo ?_|refine Jn ?_|refine YG ?_|refine FU ?_|refine Yr ?_|refine Ey ?_|refine bF9 ?_|refine lY ?_|refine pF ?_|refine Kh ?_|refine Xr ?_|refine HQ ?_|refine BB ?_|refine Bz ?_|refine BA ?_|refine Hy ?_|refine HN ?_|refine Hn ?_)
local macro_rules|`(tactic|walk_at"w2")=>`(tactic|repeat(with_reducible first|walk_at "w1"|refine Gd (by simp) ?_|refine Gb (by simp) ?_|refine s9 (b0 (by assumption)) (by with_unfolding_all rfl) ?_|refine E1 (b0 (by assumption)) ?_|refine FO (by unfold qe;decide) ?_))
local macro_rules|`(tactic|walk_at"w3")=>`(tactic|repeat(with_reducible first|walk_at "w1"|refine Gd (by simp) ?_|refine Gb (by simp) ?_|refine s9 (b0 (by assumption)) (by with_unfolding_all rfl) ?_|refine E1 (b0 (by assumption)) ?_|refine FO (by unfold qe;decide) ?_|refine And.intro (show List.length _ <= 1000 from by simp) ?_|refine B1 (by with_unfolding_all rfl) ?_|refine j8 ?_|refine x5 (by with_unfolding_all rfl) ?_))
local macro_rules|`(tactic|walk_at"")=>`(tactic|repeat(with_reducible first|walk_at "w1"|refine Vr ?_|refine bI7 ?_|refine Tr ?_|refine Jm ?_|refine bJ6 ?_|refine Ho ?_|refine max2 ?_|refine min2 ?_|refine Zd ?_|refine qi ?_|refine RC ?_|refine IY ?_|refine Gd (by simp) ?_|refine Gb (by simp) ?_|refine s9 (b0 (by assumption)) (by with_unfolding_all rfl) ?_|refine E1 (b0 (by assumption)) ?_|refine FO (by unfold qe;decide) ?_|refine And.intro (show List.length _ <= 1000 from by simp) ?_|refine B1 (by with_unfolding_all rfl) ?_|refine j8 ?_|refine x5 (by with_unfolding_all rfl) ?_|refine And.intro (M4 (by assumption)) ?_|refine And.intro (bD8 (by assumption)) ?_|refine And.intro (XB (by assumption)) ?_|refine S0 (by decide) ?_|refine bI4 (by decide) (by decide) ?_|refine BR ?_))
set_option hygiene true
abbrev dZ(a:ME):ME:=.cons a .nil
abbrev dA(a b:ME):ME:=.cons a (.cons b .nil)
abbrev fe(a b c:ME):ME:=.cons a (.cons b (.cons c .nil))
abbrev rG(a b c d:ME):ME:=.cons a (.cons b (.cons c (.cons d .nil)))
abbrev rF(a b c d e:ME):ME:=.cons a (.cons b (.cons c (.cons d (.cons e .nil))))
abbrev zA(a b c d e f:ME):ME:=.cons a (.cons b (.cons c (.cons d (.cons e (.cons f .nil)))))
abbrev Rw(a b c d e f g:ME):ME:=.cons a (.cons b (.cons c (.cons d (.cons e (.cons f (.cons g .nil))))))
abbrev dD(o:PySem.CmpOp)(a b:ME):ME:=.fo (.prim (.cmp o) (.cons a (.cons b .nil)))
abbrev cH(a b:ME):ME:=.prim .ix (.cons a (.cons b .nil))
abbrev bc(a:Int):ME:=.lit (.int a)
abbrev fh(a:PySem.Str):ME:=.lit (.str a)
abbrev cY(p:Pr)(a:ME):ME:=.prim p (.cons a .nil)
abbrev bH(p:Pr)(a b:ME):ME:=.prim p (.cons a (.cons b .nil))
abbrev aM:ME:=.var 0
abbrev ba:ME:=.var 1
abbrev kc:ME:=.var 10
abbrev mF:ME:=.var 11
abbrev ka:ME:=.var 12
abbrev lp:ME:=.var 13
abbrev qE:ME:=.var 14
abbrev mE:ME:=.var 15
abbrev oa:ME:=.var 16
abbrev wb:ME:=.var 17
abbrev iU:ME:=.var 18
abbrev qD:ME:=.var 19
abbrev bg:ME:=.var 2
abbrev bz:ME:=.var 3
abbrev cS:ME:=.var 4
abbrev dF:ME:=.var 5
abbrev eL:ME:=.var 6
abbrev fN:ME:=.var 7
abbrev ku:ME:=.var 8
abbrev mY:ME:=.var 9
def K5:aW:=⟨2,5,(.seq (.ifs (.dB (dD .Lt (cH aM (bc 2)) ba) (dD .Lt (cH aM (bc 1)) (cY .len (cH aM (bc 0))))) (.seq (.set 2 (cH (cH aM (bc 0)) (cH aM (bc 1)))) (.seq (.eJ aM (bc 1) (bH (.bin .Add) (cH aM (bc 1)) (bc 1))) (.seq (.eJ aM (bc 2) (bc 0)) (.seq (.ifs (dD .GtE bg (bH (.bin .Pow) (bc 10) (bc 18))) (.seq (.eJ aM (bc 2) bg) .pass) (.seq (.eJ aM (bc 3) (bH (.bin .Mod) (bH (.bin .Add) (bH (.bin .Add) (bH (.bin .Mult) (cH aM (bc 3)) (bc 48271)) (bH (.bin .Mult) (bH (.bin .Mod) bg (bc 2147483629)) (bc 69621))) (bc 12345)) (bc 2147483647))) .pass)) .pass)))) .pass) (.seq (.ifs (dD .GtE (cH aM (bc 2)) ba) (.seq (.set 3 (bH (.bin .Mod) (cH aM (bc 2)) ba)) (.seq (.eJ aM (bc 2) (bH (.bin .FloorDiv) (cH aM (bc 2)) ba)) (.seq (.ret bz) .pass))) .pass) (.seq (.set 4 (cH aM (bc 3))) (.seq (.eJ aM (bc 3) (bH (.bin .Mod) (bH (.bin .Add) (bH (.bin .Add) (bH (.bin .Mult) (bH (.bin .Mod) (bH (.bin .Mult) cS cS) (bc 2147483629)) (bc 5)) (bH (.bin .Mult) cS (bc 16811))) (bc 2531011)) (bc 2147483647))) (.seq (.ret (bH (.bin .Mod) (bH (.bin .Add) (bH (.bin .FloorDiv) (cH aM (bc 3)) (bc 59)) (bH (.bin .Mult) (bH (.bin .Mod) (cH aM (bc 3)) (bc 8191)) (bc 31))) ba)) .pass)))))⟩
structure m7(g:G)(d:Nat):Prop where
 ex:∃(s:Nat) (p b r:Int) (xs:List Int),g[d]?=some (.lst [.ref s,.int p,.int b,.int r])/\g[s]?=some (.lst (xs.map .int))/\s<d/\0<=p/\0<=b/\0<=r/\r<2147483647
structure Gr(d:Nat)(g g':G):Prop where
 len:g.length<=g'.length
 old:∀i,i≠d->i<g.length->g'[i]?=g[i]?
theorem Gr.refl(d:Nat)(g:G):Gr d g g:=⟨az _,λ_ _ _=>rfl⟩
theorem Gr.trans{d:Nat}{g g1 g2:G}(a:Gr d g g1)(b:Gr d g1 g2):Gr d g g2:=⟨aG a.len b.len,λi h1 h2=>(b.old i h1 (aC h2 a.len)).trans (a.old i h1 h2)⟩
theorem Gr.set(d:Nat)(g:G)(o:O):Gr d g (g.set d o):=⟨by simp,λi h1 h2=>aA (bT h1)⟩
theorem Gr.snoc(d:Nat)(g:G)(o:O):Gr d g (g++[o]):=⟨by simp,λi h1 h2=>aK h2⟩
theorem Gr.at{d:Nat}(h:Gr d g g')(hi:i≠d)(e:g[i]?=some o):g'[i]?=some o:=(h.old i hi (ak.mp e).1).trans e
theorem i8(h:g[i]?=some o):i<g.length:=(ak.mp h).1
theorem m7.lt{d:Nat}(h:m7 g d):d<g.length:=by
 obtain⟨_,_,_,_,_,e,_⟩:=h.ex;exact i8 e
theorem m7.snoc{d:Nat}(h:m7 g d)(o:O):m7 (g++[o]) d:=by
 obtain⟨s,p,b,r,xs,e1,e2,q⟩:=h.ex;exact⟨s,p,b,r,xs,by rw[aK (i8 e1)];exact e1,by rw[aK (i8 e2)];exact e2,q⟩
def m8:MS->MS
 |.seq _ b=>b
 |x=>x
theorem Gw{i j:Int}(h1:-(2 ^ 64)<i)(h2:i<2 ^ 64):tB i j:=.inl ⟨h1,h2⟩
theorem va{i j:Int}(h1:-(2 ^ 64)<j)(h2:j<2 ^ 64):tB i j:=.inr ⟨h1,h2⟩
theorem a15{d:Nat}{n:Int}{c2:Option D}(hN:N.rt=Q)(D0:m7 g d)(hn:0<n)(pU:n<1073741824)(h:∀r g',0<=r->r<n->m7 g' d->Gr d g g'->Q (.int r) g'):wpS P (m8 K5.body) N [some (.ref d),some (.int n),c2,none,none] g E:=by
 obtain⟨s,p,b,r,xs,e1,e2,pS,hp,hb,hr,qJ⟩:=D0.ex;have dW:=i8 e1;subst hN;dsimp[K5,m8];walk_at "w2";refine if2 (λc=>?_) (λc=>?_)
 ·walk_at "w2";refine S0 hn ?_;walk_at "w2";refine AH ⟨hn,pU⟩ ?_;walk_at "w2";refine U1 e1 (by with_unfolding_all rfl) ?_;walk_at "w2";refine h _ _ (dt _ ()) (cN _ hn) ⟨s,p,b / n,r,xs,?_,?_,pS,hp,Int.ediv_nonneg hb (),hr,qJ⟩ (Gr.set d g _)
  ·rw[bf dW];rfl
  ·rw[aA (cc pS)];exact e2
 ·walk_at "w2";have Hz:-(2 ^ 64)<r/\r<2 ^ 64:=⟨by omega,by omega⟩
  refine V0 (Gw Hz.1 Hz.2) ?_;walk_at "w2";refine S0 ∅ ?_;walk_at "w2";refine V0 (va ∅ ∅) ?_;walk_at "w2";refine V0 (va ∅ ∅) ?_;walk_at "w2";refine S0 ∅ ?_;walk_at "w2";refine U1 e1 (by with_unfolding_all rfl) ?_;generalize fE:(r*r % 2147483629*5+r*16811+2531011) % 2147483647=r';have q0:0<=r':=by rw[<- fE];exact dt _ ∅
  have q1:r'<2147483647:=by rw[<- fE];exact cN _ ∅
  have RY:(g.set d (.lst [.ref s,.int p,.int b,.int r']))[d]?=some (.lst [.ref s,.int p,.int b,.int r']):=bf dW;show wpS P _ _ _ (g.set d (.lst [.ref s,.int p,.int b,.int r'])) E;walk_at "w2";refine AH ⟨by decide,by decide⟩ ?_;walk_at "w2";refine S0 ∅ ?_;walk_at "w2";refine V0 (va ∅ ∅) ?_;walk_at "w2";refine S0 hn ?_;walk_at "w2";refine h _ _ (dt _ ()) (cN _ hn) ⟨s,p,b,r',xs,RY,?_,pS,hp,hb,q0,q1⟩ (Gr.set d g _);rw[aA (cc pS)];exact e2
theorem j4{T:Nat->Option aW}(hT:T 4=some K5){d:Nat}{n:Int}(D0:m7 g d)(hn:0<n)(pU:n<1073741824)(h:∀r g',0<=r->r<n->m7 g' d->Gr d g g'->Q (.int r) g'):d0 T (k+1) 4 [.ref d,.int n] g Q E:=by
 obtain⟨s,p,b,r,xs,e1,e2,pS,hp,hb,hr,qJ⟩:=D0.ex;have dW:=i8 e1;refine call_of hT rfl ?_;have tail:∀(g':G) (c2:Option D),m7 g' d->Gr d g g'->wpS (d0 T k) (m8 K5.body) ⟨λ_ g'=>Q .br g',Q,λ_ _=>False,λ_ _=>False⟩ [some (.ref d),some (.int n),c2,none,none] g' E :=
  λg' c2 D1 gr=>a15 rfl D1 hn pU λr g2 a b c e=>h r g2 a b c (gr.trans e)
 dsimp[K5,d6,List.replicate];walk_at "w2";refine if2 (λc=>?_) (λc=>?_)
 ·walk_at "w2";refine if2 (λc'=>?_) (λc'=>?_)
  ·walk_at "w2";have kz:p.toNat<xs.length:=by
    rw[ai] at c';omega
   have ea:gh (xs.map D.int) p=some (.int xs[p.toNat]):=by
    have:=B4 (xs:=xs.map D.int) (j:=p.toNat) (v:=.int xs[p.toNat]) (by rw[aj,ao kz];rfl)
    rwa [show((p.toNat:Nat):Int)=p by omega] at this
   refine s9 (b0 e2) ea ?_;generalize xs[p.toNat]=cell;walk_at "w2";refine U1 e1 (by with_unfolding_all rfl) ?_;have f1:(g.set d (.lst [.ref s,.int (p+1),.int b,.int r]))[d]?=some (.lst [.ref s,.int (p+1),.int b,.int r]):=bf dW;show wpS (d0 T k) _ _ _ (g.set d (.lst [.ref s,.int (p+1),.int b,.int r])) E;walk_at "w2";refine U1 f1 (by with_unfolding_all rfl) ?_;rw[iZ];have f2:(g.set d (.lst [.ref s,.int (p+1),.int 0,.int r]))[d]?=some (.lst [.ref s,.int (p+1),.int 0,.int r]):=bf dW;show wpS (d0 T k) _ _ _ (g.set d (.lst [.ref s,.int (p+1),.int 0,.int r])) E;walk_at "w2";refine if2 (λc2=>?_) (λc2=>?_)
   ·walk_at "w2";refine U1 f2 (by with_unfolding_all rfl) ?_;rw[iZ];refine tail _ _ ⟨s,p+1,cell,r,xs,bf dW,by rw[aA (cc pS)];exact e2,pS,by omega,?_,hr,qJ⟩ (Gr.set d g _);have:(10:Int) ^ (18:Int).toNat<=cell:=c2;have uD:(0:Int)<=10 ^ (18:Int).toNat:=by decide
    omega
   ·walk_at "w2";refine V0 (va ∅ ∅) ?_;walk_at "w2";refine S0 ∅ ?_;walk_at "w2";refine V0 (va ∅ ∅) ?_;walk_at "w2";refine S0 ∅ ?_;walk_at "w2";refine U1 f2 (by with_unfolding_all rfl) ?_;rw[iZ];exact tail _ _ ⟨s,p+1,0,_,xs,bf dW,by rw[aA (cc pS)];exact e2,pS,by omega,by decide,dt _ ∅,cN _ ∅⟩ (Gr.set d g _)
  ·walk_at "w1";exact tail _ _ D0 (Gr.refl _ _)
 ·walk_at "w1";walk_at "w1";exact tail _ _ D0 (Gr.refl _ _)
def Fq:aW:=⟨1,1,(.seq (.ret (.dB (bH .isin aM (.lit (.ty "int"))) (.eI (bH .isin aM (.lit (.ty "bool")))))) .pass)⟩
def Z5:aW:=⟨3,3,(.seq (.ret (.dB (.call 38 (dZ aM)) (.chain .LtE .LtE ba aM bg))) .pass)⟩
structure NF(T:Nat->Option aW):Prop where
 nf:T 1=some Z5
 is:T 38=some Fq
def L9:aW:=⟨1,3,(.seq (.set 1 (bc 0)) (.seq (.dq (.one 2) (.eU aM) (.seq (.ifs (.eI (.fo (.call 1 (fe bg ba (bc 7))))) (.seq (.ret (.lit (.bl false))) .pass) .pass) (.seq (.set 1 (bH (.bin .Add) bg (bc 1))) .pass))) (.seq (.ret (.lit (.bl true))) .pass)))⟩
def AQ:aW:=⟨1,1,(.seq (.ret (.prim .lst (rG (cY .list (bH (.jX false true) aM (bc 63))) (bc 0) (bc 0) (bc 29)))) .pass)⟩
def yk:aW:=⟨1,1,(.seq (.ret (.dB (bH .isin aM (.lit (.ty "int"))) (.eI (bH .isin aM (.lit (.ty "bool")))))) .pass)⟩
def G0:aW:=⟨2,2,(.seq (.ifs (dD .Is ba (.lit .br)) (.seq (.ret (bH (.cmp .Is) aM (.lit .br))) .pass) .pass) (.seq (.ifs (.fo (bH .isin ba (.lit (.ty "bool")))) (.seq (.ret (.dB (bH .isin aM (.lit (.ty "bool"))) (bH (.cmp .Eq) aM ba))) .pass) .pass) (.seq (.ifs (.fo (bH .isin ba (.lit (.ty "int")))) (.seq (.ret (.dB (.call 6 (dZ aM)) (bH (.cmp .Eq) aM ba))) .pass) .pass) (.seq (.ifs (.fo (bH .isin ba (.lit (.ty "str")))) (.seq (.ret (.dB (bH .isin aM (.lit (.ty "str"))) (bH (.cmp .Eq) aM ba))) .pass) .pass) (.seq (.ifs (.jY (dD .NotEq (bH .isin ba (.lit (.ty "tuple"))) (bH .isin aM (.lit (.ty "tuple")))) (dD .NotEq (bH .isin ba (.lit (.ty "list"))) (bH .isin aM (.lit (.ty "list"))))) (.seq (.ret (.lit (.bl false))) .pass) .pass) (.seq (.ifs (dD .NotEq (cY .len aM) (cY .len ba)) (.seq (.ret (.lit (.bl false))) .pass) .pass) (.seq (.ret (cY .all (.comp [1,0] 4 (.one 3) (.eQ (cY .len ba)) .no (.call 7 (dA (cH ba bz) (cH aM bz)))))) .pass)))))))⟩
theorem T4{g:G}{n:Nat}:∀ms:List Int,(ms.map D.int).mapM (rd g n)=some (ms.map PyData.int)
 |[]=>rfl
 |m::r=>by
  rw[bL,List.mapM_cons,T4 r];cases n<;>rfl
theorem lay_ints:∀ms:List Int,PyData.canLayAll0 (ms.map PyData.int)=true
 |[]=>by simp[PyData.canLayAll0]
 |m::r=>by simp[PyData.canLayAll0,PyData.canLay0,lay_ints r]
theorem Lc:∀ms ns:List Int,PyData.eqvAll (ms.map PyData.int) (ns.map PyData.int)=decide (ms=ns)
 |[],[]=>by simp[PyData.eqvAll]
 |[],_::_=>by simp[PyData.eqvAll]
 |_::_,[]=>by simp[PyData.eqvAll]
 |m::r,n::q=>by
  simp only[List.map_cons,PyData.eqvAll,PyData.eqv,Lc r q];by_cases h:m=n
  ·subst h;simp
  ·simp[h]
theorem Fj{i:Int}{k:Bool->Prop}(h:k (ms.any λm=>m==i)):qG g (.int i) (.tup (ms.map .int)) k:=by
 refine⟨_,.inr ⟨_,_,_,rfl,T4 ms,rfl,lay_ints ms,by simp[PyData.canLay0],rfl⟩,?_⟩;rw[ja];exact h
theorem a64{k:Bool->Prop}(ha:d8 g a=some (ms.map .int))(hb:d8 g b=some (ns.map .int))(h:k (decide (ms=ns))):uE g (.ref a) (.ref b) k:=by
 refine⟨_,.inr (.inr (.inr ⟨.list (ms.map .int),.list (ns.map .int),?_,?_,?_,?_,rfl⟩)),?_⟩
 ·simp only[rd];rw[ha];dsimp only;rw[T4];rfl
 ·simp only[rd];rw[hb];dsimp only;rw[T4];rfl
 ·simp[PyData.canLay0,lay_ints]
 ·simp[PyData.canLay0,lay_ints]
 ·simp only[PyData.eqv,Lc];exact h
section
variable{T:Nat->Option aW}{d:Nat}
theorem Lr(h1:NF T){i:Int}(h:Q (.bl true) g):d0 T (k+1) 38 [.int i] g Q E:=by
 refine call_of h1.is rfl ?_;dsimp[Fq,d6,List.replicate];walk_at "w2";refine gM (c:="int") (b:=true) ∅ rfl ?_;walk_at "w2";refine gM (c:="bool") (b:=false) ∅ rfl ?_;walk_at "w2";exact h
theorem C4(h1:NF T){i l m:Int}(h:Q (.bl (decide (l<=i)&&decide (i<=m))) g):d0 T (k+2) 1 [.int i,.int l,.int m] g Q E:=by
 refine call_of h1.nf rfl ?_;dsimp[Z5,d6,List.replicate];walk_at "w2";refine Lr h1 ?_;walk_at "w2";refine if2 (λc=>?_) (λc=>?_)
 ·rw[aw c] at h;walk_at "w2";exact h
 ·rw[aB c] at h;exact h
def gm:Int->List Int->Bool
 |_,[]=>true
 |l,x::r=>(decide (l<=x)&&decide (x<=7))&&gm (x+1) r
theorem Lw(h1:NF T)(h2:T 2=some L9)(h:Q (.bl (gm 0 ms)) g):d0 T (k+3) 2 [.tup (ms.map .int)] g Q E:=by
 refine call_of h2 rfl ?_;dsimp[L9,d6,List.replicate];walk_at "w2";refine x6 (b7 T _) (wk (b7 T _) ?_);walk_at "w2";refine⟨_,rfl,_,λi Z g'=>g'=g/\∃(l:Int) (z:Option D),Z=[some (.tup (ms.map .int)),some (.int l),z]/\gm 0 ms=gm l (ms.drop i),λ_ _ _ _=>w6,⟨rfl,0,none,rfl,rfl⟩,λi x Z g' hx p=>?_,λZ g' p=>?_⟩
 ·obtain⟨rfl,l,z,rfl,e⟩:=p;rw[aj] at hx;cases em:ms[i]? with
  |none=>rw[em] at hx;cases hx
  |some m =>
   rw[em] at hx;cases hx;have hi:=(ak.mp em).1;have ed:ms.drop i=m::ms.drop (i+1):=by
    rw[eM hi]
    congr 1
    exact(ak.mp em).2
   rw[ed] at e;simp only[gm] at e;show wpS _ _ _ _ _ _;walk_at "w2";refine C4 h1 ?_;walk_at "w2";cases hc:(decide (l<=m)&&decide (m<=7)) with
   |true =>
    rw[hc,rD] at e;show wpS _ _ _ _ _ _;walk_at "w2";exact⟨rfl,m+1,some (.int m),rfl,e⟩
   |false =>
    rw[hc,Bool.false_and] at e;rw[e] at h;show wpS _ _ _ _ _ _;walk_at "w2";exact h
 ·obtain⟨rfl,l,z,rfl,e⟩:=p;rw[fz (by simp)] at e;simp only[gm] at e;rw[e] at h;show wpS _ _ _ _ _ _;walk_at "w2";exact h
theorem Ux(h3:T 3=some AQ)(hg:g[a]?=some (.qb (ns.map .int)))(h:∀d g',m7 g' d->g.length<=d->(∀i,i<g.length->g'[i]?=g[i]?)->Q (.ref d) g'):d0 T (k+1) 3 [.ref a] g Q E:=by
 refine call_of h3 rfl ?_;dsimp[AQ,d6,List.replicate];walk_at "w2";refine GK (a52 hg) ?_;walk_at "w2";refine xM (l:=cut (ns.map D.int) none (some 63)) (b0 (by simp)) ?_;walk_at "w2";have ec:cut (ns.map D.int) none (some 63)=(cut ns none (some 63)).map D.int:=by
  unfold cut;simp[List.map_take,List.map_drop]
 refine h _ _ ⟨g.length+1,0,0,29,cut ns none (some 63),?_,?_,?_,by decide,by decide,by decide,by decide⟩ (by simp) (λi hi=>?_)
 ·simp
 ·rw[<- ec];simp
 ·simp
 ·simp[List.getElem?_append,hi,Nat.lt_of_lt_of_le hi (by omega:g.length<=g.length+1),Nat.lt_of_lt_of_le hi (by omega:g.length<=g.length+1+1)]
end
theorem JJ:∀{ms:List Int} {l:Int},ms.Pairwise (· < ·)->(∀m∈ms,l<=m/\m<=7)->gm l ms=true
 |[],_,_,_=>rfl
 |m::r,l,hp,h=>by
  obtain⟨h1,h2⟩:=kL.mp hp;have hm:=h m (by simp);simp only[gm];rw[aw hm.1,aw hm.2,JJ h2 λx hx=>⟨by have:=h1 x hx;omega,(h x (by simp[hx])).2⟩]
  rfl
theorem L1{l:List α}{r:Int}(h0:0<=r)(h1:r<l.length):∃v,gh l r=some v/\v∈l:=by
 have hi:r.toNat<l.length:=by omega
 refine⟨l[r.toNat],?_,cg hi⟩;have:=B4 (xs:=l) (j:=r.toNat) (v:=l[r.toNat]) (ao hi)
 rwa [show((r.toNat:Nat):Int)=r by omega] at this
section
variable{T:Nat->Option aW}
theorem Mf(h7:T 7=some G0){a b:Bool}(h:Q (.bl (a==b)) g):d0 T (k+1) 7 [.bl a,.bl b] g Q E:=by
 refine call_of h7 rfl ?_;dsimp[G0,d6,List.replicate];walk_at "w2";walk_at "w2";refine gM (c:="bool") (b:=true) ∅ rfl ?_;walk_at "w2";refine gM (c:="bool") (b:=true) ∅ rfl ?_;walk_at "w2";exact h
end
def E6:aW:=⟨1,8,(.seq (.mx (.many [1,2,3,4,5]) aM) (.seq (.set 6 (.dB (.call 1 (fe ba (bc 1) (bc 99))) (.call 2 (dZ bg)))) (.seq (.set 7 (.dB (.call 1 (fe bz (bc 1) (bc 99))) (.call 2 (dZ cS)))) (.seq (.ret (.dB eL (.dB fN (.call 1 (fe dF (bc 0) (bc 9999)))))) .pass))))⟩
structure b8 where
 lo:Int
 lm:List Int
 up:Int
 um:List Int
 yr:Int
def b8.d(c:b8):D:=.tup [.int c.lo,.tup (c.lm.map .int),.int c.up,.tup (c.um.map .int),.int c.yr]
def u3(c:b8):Bool:=((decide (1<=c.lo)&&decide (c.lo<=99))&&gm 0 c.lm)&&(((decide (1<=c.up)&&decide (c.up<=99))&&gm 0 c.um)&&(decide (0<=c.yr)&&decide (c.yr<=9999)))
section
variable{T:Nat->Option aW}{d:Nat}
theorem aJ0(h1:NF T)(h2:T 2=some L9)(sU:T 12=some E6){c:b8}(h:Q (.bl (u3 c)) g):d0 T (k+4) 12 [c.d] g Q E:=by
 refine call_of sU rfl ?_;dsimp[E6,d6,List.replicate,b8.d];walk_at "w3";refine C4 h1 ?_;have s1:∀b:Bool,b=((decide (1<=c.lo)&&decide (c.lo<=99))&&gm 0 c.lm)->wpS (d0 T (k+3)) (m8 (m8 E6.body)) ⟨λ_ g'=>Q .br g',Q,λ_ _=>False,λ_ _=>False⟩ [some c.d,some (.int c.lo),some (.tup (c.lm.map .int)),some (.int c.up),some (.tup (c.um.map .int)),some (.int c.yr),some (.bl b),none] g E:=by
  intro b hb;dsimp[E6,m8];walk_at "w3";refine C4 h1 ?_;have s2:∀b':Bool,b'=((decide (1<=c.up)&&decide (c.up<=99))&&gm 0 c.um)->wpS (d0 T (k+3)) (m8 (m8 (m8 E6.body))) ⟨λ_ g'=>Q .br g',Q,λ_ _=>False,λ_ _=>False⟩ [some c.d,some (.int c.lo),some (.tup (c.lm.map .int)),some (.int c.up),some (.tup (c.um.map .int)),some (.int c.yr),some (.bl b),some (.bl b')] g E:=by
   intro b' lI;dsimp[E6,m8];have e:u3 c=(b&&(b'&&(decide (0<=c.yr)&&decide (c.yr<=9999)))):=by unfold u3;rw[hb,lI]
   rw[e] at h;walk_at "w3";cases b
   ·exact pF h
   ·refine lY ?_;walk_at "w3";cases b'
    ·exact pF h
    ·refine lY ?_;walk_at "w3";exact C4 h1 h
  refine Ey ?_;cases hc:(decide (1<=c.up)&&decide (c.up<=99)) with
  |false=>exact pF (s2 false (by rw[hc];rfl))
  |true =>
   refine lY ?_;walk_at "w1";walk_at "w1";walk_at "w1";walk_at "w1";exact Lw h1 h2 (s2 _ (by rw[hc];rfl))
 refine Ey ?_;cases hc:(decide (1<=c.lo)&&decide (c.lo<=99)) with
 |false=>exact pF (s1 false (by rw[hc];rfl))
 |true =>
  refine lY ?_;walk_at "w1";walk_at "w1";walk_at "w1";walk_at "w1";exact Lw h1 h2 (s1 _ (by rw[hc];rfl))
end
def W6:aW:=⟨2,5,(.seq (.set 2 (cY .list ba)) (.seq (.set 3 (.prim .lst .nil)) (.seq (.dq (.one 4) (.eQ (cY .len ba)) (.seq (.expr (.dG .append bz (dZ (.dG .pop bg (dZ (.call 4 (dA aM (cY .len bg)))))))) .pass)) (.seq (.ret bz) .pass))))⟩
theorem KR{α:Type}:∀{l:List α} {j:Nat} (h:j<l.length),(l[j]::l.eraseIdx j).Perm l
 |a::r,0,_=>by simp
 |a::r,j+1,h=>by
  simp only[List.getElem_cons_succ,List.eraseIdx_cons_succ];exact(List.Perm.swap _ _ _).trans ((KR (l:=r) (j:=j) (by simpa using h)).cons a)
theorem Gr.K3{d x:Nat}(h:Gr d g g')(hx:g.length<=x):Gr d g (g'.set x o):=⟨by simp[h.len],λi h1 h2=>by rw[aA ()];exact h.old i h1 h2⟩
theorem m7.K3{d x:Nat}(h:m7 g d)(hx:d<x):m7 (g.set x o) d:=by
 obtain⟨s,p,b,r,xs,e1,e2,hs,q⟩:=h.ex;exact⟨s,p,b,r,xs,by rw[aA ()];exact e1,by rw[aA ()];exact e2,hs,q⟩
theorem b9:(g++[o])[g.length]?=some o:=by simp
theorem u4(h:g[i]?=some o):(g++[o'])[i]?=some o:=by rw[aK (i8 h)];exact h
theorem get_set(h:g[i]?=some o):(g.set i o')[i]?=some o':=bf (i8 h)
theorem f6(h:g[i]?=some o)(hn:j≠i):(g.set j o')[i]?=some o:=by rw[aA hn];exact h
section
variable{T:Nat->Option aW}{d:Nat}
theorem Ll(h4:T 4=some K5)(Dk:T 21=some W6)(ha:g[a]?=some (.lst l))(hl:l.length<=1000)(hd:a≠d)(D0:m7 g d)(h:∀(l':List D) b g',l'.Perm l->g'[b]?=some (.lst l')->g.length<=b->m7 g' d->Gr d g g'->Q (.ref b) g'):d0 T (k+2) 21 [.ref d,.ref a] g Q E:=by
 refine call_of Dk rfl ?_;dsimp[W6,d6,List.replicate];left;refine xM (b0 ha) ?_;left;have dl:=D0.lt;refine x6 (b7 T _) (pE (b7 T _) ?_);left;have zx:(g++[O.lst l]++[O.lst []])[a]?=some (.lst l):=u4 (u4 ha);refine E1 (b0 zx) ?_;refine ⟨_,rfl,by omega,by omega,k8 0 l.length,λi Z g'=>∃ left found w,Z=[some (.ref d),some (.ref a),some (.ref g.length),some (.ref (g.length + 1)),w]/\(left ++ found).Perm l/\left.length + i=l.length/\g'[g.length]?=some (.lst left)/\g'[g.length + 1]?=some (.lst found)/\m7 g' d/\Gr d g g',
  λi Z g p=>w6,?_,λi x Z g' hx p=>?_,λZ g' p=>?_⟩
 ·refine⟨l,[],none,?_,by simp,by simp,?_,?_,(D0.snoc _).snoc _,(Gr.snoc _ _ _).trans (Gr.snoc _ _ _)⟩
  ·simp
  ·exact u4 b9
  ·have:=b9 (g:=g++[O.lst l]) (o:=O.lst []);simpa using this
 ·obtain⟨left,found,w,rfl,hp,hn,e1,e2,D1,G1⟩:=p;obtain⟨hi,rfl⟩:=B3 hx;show wpS _ _ _ _ _ _;left;refine j4 (n:=(left.length:Int)) h4 D1 () () λr g2 r0 r1 D2 G2=>?_;have f1:=G2.at () e1;have f2:=G2.at () e2;have hr:r.toNat<left.length:=by omega
  left;refine Zs (j:=r.toNat) f1 () (ao hr) () ?_;left;refine L5 (f6 f2 ()) ?_ ?_
  ·have:=hp.length_eq;simp at this;omega
  left;refine⟨_,_,_,rfl,?_,?_,f6 (get_set f1) (),get_set (f6 f2 ()),(D2.K3 ()).K3 (),((G1.trans G2).K3 ()).K3 ()⟩
  ·refine List.Perm.trans ?_ hp;have:=KR hr;refine List.Perm.trans ?_ (List.Perm.append_right found this);simp only[List.cons_append];rw[<- gY];exact(List.perm_append_singleton _ _)
  ·rw[gH hr];omega
 ·obtain⟨left,found,w,rfl,hp,hn,e1,e2,D1,G1⟩:=p;show wpS _ _ _ _ _ _;left;rw[o6] at hn;have:left=[]:=dP ();subst this;exact h _ _ _ (by simpa using hp) e2 () D1 G1
end
def Ar:aW:=⟨1,5,(.seq (.set 1 (.prim .lst (Rw (.prim .tup .nil) (cY .tup (bc 0)) (bH .tup (bc 0) (bc 1)) (cY .tup (bc 1)) (.prim .tup (fe (bc 0) (bc 1) (bc 2))) (.prim .tup (rG (bc 0) (bc 1) (bc 2) (bc 7))) (cY .tup (bc 2))))) (.seq (.set 2 (cH ba (.call 4 (dA aM (cH (bH .tup (bc 4) (bc 7)) (cY .int (bH (.cmp .Eq) (.call 4 (dA aM (bc 4))) (bc 0)))))))) (.seq (.set 3 (cH ba (.call 4 (dA aM (bc 5))))) (.seq (.set 4 (cH (.prim .lst (zA (bc 0) (bc 0) (bc 1400) (bc 1400) (bc 1401) (bc 1))) (.call 4 (dA aM (bc 6))))) (.seq (.ret (.prim .tup (rF (bH (.bin .Add) (bc 1) (.call 4 (dA aM (bc 3)))) bg (bH (.bin .Add) (bc 1) (.call 4 (dA aM (bc 4)))) bz cS))) .pass)))))⟩
def L8:aW:=⟨4,4,(.seq (.ifs (.jY (dD .Eq (cY .len ba) (bc 0)) (.dB (dD .Lt (cY .len ba) bz) (dD .Eq (.call 4 (dA aM (bc 3))) (bc 0)))) (.seq (.expr (.dG .append ba (dZ bg))) (.seq (.ret (bH (.bin .Add) bg (bc 1))) .pass)) .pass) (.seq (.ifs (dD .Eq (.call 4 (dA aM (bc 5))) (bc 0)) (.seq (.eJ ba (.call 4 (dA aM (cY .len ba))) bg) (.seq (.ret (bH (.bin .Add) bg (bc 1))) .pass)) .pass) (.seq (.ret bg) .pass)))⟩
structure iA(c:b8):Prop where
 good:u3 c=true
 l8:c.lm.length<=8
 u8:c.um.length<=8
theorem iA.mk'{lo up yr:Int}{lm um:List Int}(h1:1<=lo)(h2:lo<=99)(h3:1<=up)(h4:up<=99)(h5:0<=yr)(h6:yr<=9999)(h7:gm 0 lm=true)(h8:gm 0 um=true)(h9:lm.length<=8)(uD:um.length<=8):iA ⟨lo,lm,up,um,yr⟩:=by
 refine⟨?_,h9,uD⟩;simp only[u3,h7,h8,decide_eq_true h1,decide_eq_true h2,decide_eq_true h3,decide_eq_true h4,decide_eq_true h5,decide_eq_true h6]
 rfl
theorem iA.inv{c:b8}(h:iA c):(1<=c.lo/\c.lo<=99)/\gm 0 c.lm=true/\(1<=c.up/\c.up<=99)/\gm 0 c.um=true/\0<=c.yr/\c.yr<=9999:=by
 have:=h.good;unfold u3 at this;simp only[Bool.and_eq_true,decide_eq_true_eq] at this;obtain⟨⟨⟨a,b⟩,e⟩,⟨⟨c',d⟩,f⟩,p,q⟩:=this;exact⟨⟨a,b⟩,e,⟨c',d⟩,f,p,q⟩
def Q8:List (List Int):=[[],[0],[0,1],[1],[0,1,2],[0,1,2,7],[2]]
theorem Um:∀ms∈Q8,gm 0 ms=true/\ms.length<=8:=by decide
theorem Mh{r:Int}(h0:0<=r)(h7:r<7):∃ms,gh (Q8.map λms=>D.tup (ms.map .int)) r=some (.tup (ms.map .int))/\gm 0 ms=true/\ms.length<=8:=by
 obtain⟨v,hv,hm⟩:=L1 (l:=Q8.map λms=>D.tup (ms.map .int)) h0 (by simpa[Q8] using h7);obtain⟨ms,h1,rfl⟩:=aZ.mp hm;exact⟨ms,hv,Um ms h1⟩
section
variable{T:Nat->Option aW}{d:Nat}
theorem aN6(h4:T 4=some K5)(Ro:T 22=some Ar)(D0:m7 g d)(h:∀c g',iA c->m7 g' d->Gr d g g'->Q c.d g'):d0 T (k+2) 22 [.ref d] g Q E:=by
 refine call_of Ro rfl ?_;dsimp[Ar,d6,List.replicate];have dl:=D0.lt;left;have D1:=D0.snoc (.lst (Q8.map λms=>D.tup (ms.map .int)));have G1:=Gr.snoc d g (.lst (Q8.map λms=>D.tup (ms.map .int)));have e1:(g++[O.lst (Q8.map λms=>D.tup (ms.map .int))])[g.length]?=some (.lst (Q8.map λms=>D.tup (ms.map .int))):=b9;show d0 _ _ _ _ (g++[O.lst (Q8.map λms=>D.tup (ms.map .int))]) _ _;generalize g++[O.lst (Q8.map λms=>D.tup (ms.map .int))]=g1 at *;refine j4 h4 D1 ∅ ∅ λr g2 r0 r1 D2 G2=>?_;left;have e2:=G2.at () e1;have hn:∃n:Int,gh [D.int 4,D.int 7] (if decide (r=0)=true then 1 else 0)=some (.int n)/\0<n/\n<=7:=by
  by_cases hr:r=0
  ·exact⟨7,by rw[aw hr];rfl,by decide,by decide⟩
  ·exact⟨4,by rw[aB hr];rfl,by decide,by decide⟩
 obtain⟨n,en,n0,n7⟩:=hn;refine x5 en ?_;left;refine j4 h4 D2 n0 () λr3 g3 jg jm D3 G3=>?_;have e3:=G3.at () e2;obtain⟨lm,el,gl,ll⟩:=Mh jg ();refine s9 (b0 e3) el ?_;left;refine j4 h4 D3 ∅ ∅ λr4 g4 rQ uh D4 G4=>?_;have e4:=G4.at () e3;obtain⟨um,eu,gu,lu⟩:=Mh rQ ();refine s9 (b0 e4) eu ?_;left;have e5:(g4++[O.lst [.int 0,.int 0,.int 1400,.int 1400,.int 1401,.int 1]])[g4.length]?=some (.lst [.int 0,.int 0,.int 1400,.int 1400,.int 1401,.int 1]):=b9;refine j4 h4 (D4.snoc _) ∅ ∅ λr5 g5 lW lV D5 G5=>?_;have e6:=G5.at (by have:=D4.lt;omega) e5;obtain⟨v,hv,hm⟩:=L1 (l:=[D.int 0,.int 0,.int 1400,.int 1400,.int 1401,.int 1]) lW (by simpa using lV);have hy:∃y:Int,v=.int y/\0<=y/\y<=9999:=by
  simp only[List.mem_cons,List.mem_nil_iff,or_false] at hm;rcases hm with rfl|rfl|rfl|rfl|rfl|rfl<;>exact⟨_,rfl,by decide,by decide⟩
 obtain⟨y,rfl,y0,y1⟩:=hy;refine s9 (b0 e6) hv ?_;left;refine j4 h4 D5 ∅ ∅ λr6 g6 HB HA D6 G6=>?_;left;refine j4 h4 D6 ∅ ∅ λr7 g7 r70 r71 D7 G7=>?_;left;exact h ⟨1+r6,lm,1+r7,um,y⟩ _ (iA.mk' () () () () y0 y1 gl gu ll lu) D7 (G1.trans (G2.trans (G3.trans (G4.trans ((Gr.snoc _ _ _).trans (G5.trans (G6.trans G7)))))))
def FN(l:List D)(f:Int):Prop:=∃ns:List Int,l=ns.map .int/\∀n∈ns,1<=n/\n<f
theorem a06(h4:T 4=some K5)(wY:T 23=some L8)(ha:g[a]?=some (.lst l))(hl:l.length<1000)(hs:FN l f)(f1:1<=f)(hd:d<a)(D0:m7 g d)(h:∀(l':List D) (f':Int) g',l'≠[]->l'.length<=l.length+1->FN l' f'->f<=f'->f'<=f+1->g'[a]?=some (.lst l')->m7 g' d->(∀i,i≠d->i≠a->i<g.length->g'[i]?=g[i]?)->g.length<=g'.length->Q (.int f') g'):d0 T (k+2) 23 [.ref d,.ref a,.int f,.int v] g Q E:=by
 refine call_of wY rfl ?_;have dl:=D0.lt;obtain⟨ns,rfl,so⟩:=id hs;have app:∀g':G,g'[a]?=some (.lst (ns.map D.int))->m7 g' d->Gr d g g'->wpS (d0 T (k+1)) (.seq (.expr (.dG .append (.var 1) (.cons (.var 2) .nil))) (.seq (.ret (.prim (.bin .Add) (.cons (.var 2) (.cons (.lit (.int 1)) .nil)))) .pass)) ⟨λjl g1=>wpS (d0 T (k+1)) (m8 L8.body) ⟨λ_ g'=>Q .br g',Q,λ_ _=>False,λ_ _=>False⟩ jl g1 E,Q,λ_ _=>False,λ_ _=>False⟩ [some (.ref d),some (.ref a),some (.int f),some (.int v)] g' E:=by
  intro g' e D1 G1;left;refine L5 e (by simp at hl ⊢;omega) ?_;left;refine h _ _ _ (by simp) (by simp) ⟨ns++[f],by simp,λn hn=>?_⟩ () () (get_set e) (D1.K3 hd) (λi h1 h2 h3=>?_) (by simp[G1.len])
  ·rcases aV.mp hn with z|z
   ·have:=so n z;omega
   ·simp at z;omega
  ·rw[aA (bT h2)];exact G1.old i h1 h3
 have rest:∀g':G,g'[a]?=some (.lst (ns.map D.int))->ns≠[]->m7 g' d->Gr d g g'->wpS (d0 T (k+1)) (m8 L8.body) ⟨λ_ g'=>Q .br g',Q,λ_ _=>False,λ_ _=>False⟩ [some (.ref d),some (.ref a),some (.int f),some (.int v)] g' E:=by
  intro g' e ff D1 G1;dsimp[L8,m8];left;refine j4 h4 D1 ∅ ∅ λr g2 r0 r1 D2 G2=>?_;have e2:=G2.at () e;have hlen:0<ns.length:=Hi.mpr ff;left;refine if2 (λc=>?_) (λc=>?_)
  ·left;rw[ai];refine j4 h4 D2 () (by simp at hl;omega) λr3 g3 jg jm D3 G3=>?_;have e3:=G3.at () e2;have hj:lq (ns.map D.int).length r3=some r3.toNat:=by
    unfold lq;rw[aH jg,aH (by rw[ai];exact jm)]
   refine U1 e3 hj ?_;left;refine h _ _ _ (by simp[ff]) (by simp) ⟨ns.set r3.toNat f,by simp,λn hn=>?_⟩ () () (get_set e3) (D3.K3 hd) (λi h1 h2 h3=>?_) (by simp[((G1.trans G2).trans G3).len])
   ·rcases gP hn with z|z
    ·have:=so n z;omega
    ·omega
   ·rw[aA (bT h2)];exact((G1.trans G2).trans G3).old i h1 h3
  ·left;exact h _ _ _ (by simp[ff]) (by simp) hs () () e2 D2 (λi h1 h2 h3=>(G1.trans G2).old i h1 h3) (G1.trans G2).len
 dsimp[L8,d6,List.replicate];left;refine if2 (λc=>?_) (λc=>?_)
 ·refine lY ?_;exact app g ha D0 (Gr.refl _ _)
 ·have ff:ns≠[]:=λz=>c (by rw[z];rfl);left;refine if2 (λc2=>?_) (λc2=>?_)
  ·left;refine j4 h4 D0 ∅ ∅ λr g2 r0 r1 D2 G2=>?_;left;refine if2 (λc3=>?_) (λc3=>?_)
   ·exact app g2 (G2.at () ha) D2 G2
   ·walk_at "w1";exact rest g2 (G2.at () ha) ff D2 G2
  ·walk_at "w1";walk_at "w1";exact rest g ha ff D0 (Gr.refl _ _)
end
def L7:aW:=⟨3,17,(.seq (.set 3 (.prim .lst .nil)) (.seq (.set 4 (bc 1)) (.seq (.set 5 (.prim .qi .nil)) (.seq (.set 6 (cH (.prim .lst (fe (bc 0) (bc 1) (bc 1350))) (.call 4 (dA aM (bc 3))))) (.seq (.set 7 (bH (.bin .Add) (bc 1) (.call 4 (dA aM (bc 96))))) (.seq (.set 8 (bH (.bin .Add) (bc 2) (.call 4 (dA aM (bc 4))))) (.seq (.set 9 (bH .max (bc 0) (bH (.bin .Sub) (.call 4 (dA aM (bc 9))) (bc 6)))) (.seq (.set 10 (.prim .lst .nil)) (.seq (.dq (.one 11) (.eQ ba) (.seq (.set 4 (.call 23 (rG aM bz cS bg))) (.seq (.set 12 (bH .tup (cH bz (.call 4 (dA aM (cY .len bz)))) (bH (.bin .Add) (bc 50) (.call 4 (dA aM (bH (.bin .Add) (bc 2) bg)))))) (.seq (.dq (.one 13) (.eU ka) (.seq (.ifs (dD .Eq (.call 4 (dA aM ku)) (bc 0)) (.seq (.set 14 (.call 4 (dA aM (bc 8)))) (.seq (.eJ dF lp (cY .tuple (.comp [13,14,5] 5 (.one 4) (.eQ (bc 8)) (.jY (dD .Eq cS ba) (dD .In cS (.dG .get bg (dA aM (.prim .tup .nil))))) cS))) .pass)) .pass) .pass)) (.seq (.ifs (dD .Eq (.call 4 (dA aM (bc 5))) (bc 0)) (.seq (.set 6 (bH .min (bc 9999) (bH (.bin .Add) (bH (.bin .Add) eL (bc 1)) (.call 4 (dA aM (bc 9)))))) .pass) .pass) (.seq (.set 15 (.comp [9,7] 4 (.one 3) (.eU ka) .no (bH (.bin .Add) (bH (.bin .Add) (bc 1) aM) (bH (.bin .Mod) (bH (.bin .Mult) bz ba) (bc 97))))) (.seq (.set 16 (bH (.bin .Mult) eL (cY .int (bH (.cmp .Gt) (.call 4 (dA aM (bc 4))) (bc 0))))) (.seq (.expr (.dG .append kc (dZ (.prim .tup (rF (cH mE (bc 0)) (.dG .get dF (dA (cH ka (bc 0)) (.prim .tup .nil))) (cH mE (bc 1)) (.dG .get dF (dA (cH ka (bc 1)) (.prim .tup .nil))) oa))))) .pass)))))))) (.seq (.ret kc) .pass))))))))))⟩
def qg(kvs:List (Key×D)):Prop:=∀k v,x4 kvs k=some v->∃ms:List Int,v=.tup (ms.map .int)/\gm 0 ms=true/\ms.length<=8
theorem a89(kvs:List (Key×D))(k k':Key)(v:D):x4 (putD kvs k v) k'=if k'=k then some v else x4 kvs k':=by
 unfold putD;split
 ·rename_i sJ;have go:∀l:List (Key×D),x4 (l.map λkv=>if kv.1=k then(kv.1,v) else kv) k'=if k'=k then(if(l.any λkv=>decide (kv.1=k))=true then some v else none) else x4 l k':=by
   intro l
   induction l with
   |nil=>simp[x4]
   |cons p r ih =>
    obtain⟨pk,pv⟩:=p;by_cases e:pk=k
    ·subst e;by_cases e2:k'=pk
     ·subst e2;simp[x4]
     ·have:¬pk=k':=λz=>e2 z.symm;unfold x4 at ih ⊢;simp[this,e2] at ih ⊢;exact ih
    ·by_cases e2:k'=k
     ·subst e2;unfold x4 at ih ⊢;rw[fP,show decide (pk=k')=false from aB e,eX];simp[e] at ih ⊢;exact ih
     ·unfold x4 at ih ⊢;simp only[List.map_cons,e,if_false,List.find?_cons];by_cases e3:pk=k'
      ·simp[e3,e2]
      ·simp[e3];simp[e2] at ih;simp[e2];exact ih
  rw[go,sJ]
  rfl
 ·rename_i sJ;unfold x4;rw[lO];by_cases e:k'=k
  ·subst e;have:kvs.find? (λkv=>decide (kv.1=k'))=none:=by
    rw[kO];intro x hx hd;exact sJ (aO.mpr ⟨x,hx,hd⟩)
   rw[this];simp
  ·have:¬k=k':=λz=>e z.symm;simp[this,e]
theorem Wz(kvs:List (Key×D))(k:Key)(v:D):(putD kvs k v).length<=kvs.length+1:=by
 unfold putD;split<;>simp
theorem qg.put{k:Key}(h:qg kvs)(h1:gm 0 ms=true)(h2:ms.length<=8):qg (putD kvs k (.tup (ms.map .int))):=λk' v hv=>by
 rw[a89] at hv;split at hv
 ·cases hv;exact⟨ms,rfl,h1,h2⟩
 ·exact h k' v hv
theorem qg.get(h:qg kvs)(k:Key):∃ms:List Int,(x4 kvs k).getD (.tup [])=.tup (ms.map .int)/\gm 0 ms=true/\ms.length<=8:=by
 cases e:x4 kvs k with
 |none=>exact⟨[],rfl,rfl,by simp⟩
 |some v=>obtain⟨ms,rfl,h1,h2⟩:=h k v e;exact⟨ms,rfl,h1,h2⟩
theorem a58(p:Int->Bool):gm 0 (((List.range 8).map λ(n:Nat)=>(n:Int)).filter p)=true/\(((List.range 8).map λ(n:Nat)=>(n:Int)).filter p).length<=8:=by
 refine⟨JJ (List.Pairwise.filter _ ∅) λm hm=>?_,aG (df _ _) ∅⟩;have:=(bp.mp hm).1;revert this;revert m;intro m _ hm;simp at hm;obtain⟨a,ha,rfl⟩:=hm;omega
theorem List.ah4{l:List α}{x:α}(h:l[i]?=some x):l.set i x=l:=by
 apply cU;intro j;by_cases e:i=j
 ·subst e;rw[bf (ak.mp h).1];exact h.symm
 ·rw[aA e]
section
variable{T:Nat->Option aW}{d:Nat}
def Nk:MS:=match L7.body with
 |.seq _ (.seq _ (.seq _ (.seq _ (.seq _ (.seq _ (.seq _ (.seq _ (.seq (.dq _ _ (.seq _ (.seq _ (.seq (.dq _ _ b) _)))) _))))))))=>b
 |x=>x
theorem Vv(h4:T 4=some K5){w0:Nat}{key wr:Int}{Z:S}(hw:g[w0]?=some (.eE kvs))(W:qg kvs)(hk:kvs.length<1000)(hr:0<wr)(qJ:wr<1000)(hd:d<w0)(D0:m7 g d)(s0:Z[0]?=some (some (.ref d)))(s5:Z[5]?=some (some (.ref w0)))(s8:Z[8]?=some (some (.int wr)))(OS:Z[13]?=some (some (.int key)))(sl:Z.length=17)(h:∀z jE g',g'[w0]?=some (.eE jE)->qg jE->jE.length<=kvs.length+1->m7 g' d->(∀i,i≠d->i≠w0->i<g.length->g'[i]?=g[i]?)->g.length<=g'.length->N.nx (Z.set 14 z) g'):wpS (d0 T (k+1)) Nk N Z g E:=by
 obtain⟨gn,pA⟩:∃z,Z[14]?=some z:=⟨_,ao ()⟩
 dsimp[Nk,L7];refine V6 (xR (xS (yp (zW (V7 (w_var s0 (V7 (w_var s8 (AU ?_)))))))));refine j4 h4 D0 hr () λr g2 r0 r1 D2 G2=>?_;have dl:=D0.lt;left;refine if2 (λc=>?_) (λc=>?_)
 ·refine tS (AV (zW (V7 (w_var s0 (V7 (w_lit (AU ?_)))))));refine j4 h4 D2 ∅ ∅ λr3 g3 jg jm D3 G3=>?_;have e3:=(G2.trans G3).at () hw;have t0:(Z.set 14 (some (.int r3)))[0]?=some (some (.ref d)):=by rw[aA ∅];exact s0
  have t5:(Z.set 14 (some (.int r3)))[5]?=some (some (.ref w0)):=by rw[aA ∅];exact s5
  have Hq:(Z.set 14 (some (.int r3)))[13]?=some (some (.int key)):=by rw[aA ∅];exact OS
  have OM:(Z.set 14 (some (.int r3)))[14]?=some (some (.int r3)):=bf ();obtain⟨ms,em,_,_⟩:=W.get (.inl key);refine V6 (MB (yo ?_));refine aR6 (b7 T _) (w_lit ⟨8,rfl,by decide,λi ys bU g'=>g'=g3/\ys.length<=i/\(∃z w,bU=[some (.int key),some (.int r3),some (.ref w0),z,w])/\ys=((((List.range i).map λ(n:Nat)=>(n:Int)).filter λs=>decide (s=r3)||ms.any λm=>m==s).map D.int),⟨rfl,by simp,⟨none,none,?_⟩,rfl⟩,λi ys Z g' p=>p.2.1,λi ys bU g' hi p=>?_,λys bU g' p=>?_⟩)
  ·simp[H9,Hq,OM,t5,List.replicate]
  ·obtain⟨rfl,hl,⟨z,w,rfl⟩,e⟩:=p;have er:(List.range (i+1)).map (λ(n:Nat)=>(n:Int))=(List.range i).map (λ(n:Nat)=>(n:Int))++[(i:Int)]:=by rw[eZ];simp
   have yes:(decide ((i:Int)=r3)||ms.any λm=>m==(i:Int))=true->aX (d0 T (k+1)) (.var 4) [some (.int key),some (.int r3),some (.ref w0),z,some (.int i)] g' (λy g4=>g4=g'/\(ys++[y]).length<=i+1/\(∃z' w',[some (.int key),some (.int r3),some (.ref w0),z,some (D.int i)]=[some (.int key),some (.int r3),some (.ref w0),z',w'])/\(ys++[y])=((((List.range (i+1)).map λ(n:Nat)=>(n:Int)).filter λs=>decide (s=r3)||ms.any λm=>m==s).map D.int)) iV:=λhc=>by
    left;refine⟨rfl,by simp;omega,⟨_,_,rfl⟩,?_⟩;rw[er,de,cV,<- e];simp[hc]
   show dh _ _ _ _ _ _;left;refine if2 (λc1=>?_) (λc1=>?_)
   ·refine lY ?_;exact yes (by rw[aw c1];rfl)
   ·left;refine FY e3 (k:=.inl key) rfl ?_;rw[em];left;refine tE (Fj ?_);left;cases hc:(ms.any λm=>m==(i:Int)) with
    |true =>
     refine lY ?_;exact yes (by rw[hc];simp)
    |false =>
     refine pF ?_;refine⟨rfl,by omega,⟨_,_,rfl⟩,?_⟩;rw[er,de,cV,<- e];simp[hc,c1]
  ·obtain⟨rfl,hl,_,e⟩:=p;subst e;refine bJ1 (b0 b9) ?_;obtain⟨f1,f2⟩:=a58 λs=>decide (s=r3)||ms.any λm=>m==s
   refine w_var t5 (w_var Hq ?_);refine JR (u4 e3) (k:=.inl key) rfl () ?_;refine h _ _ _ (get_set (u4 e3)) (W.put f1 f2) (Wz _ _ _) ((D3.snoc _).K3 hd) (λi h1 h2 h3=>?_) ?_
   ·rw[aA (bT h2),aK (aC h3 (G2.trans G3).len)];exact(G2.trans G3).old i h1 h3
   ·have:=(G2.trans G3).len;simp;omega
 ·refine C7 ?_;have e2:=G2.at () hw;have:=h gn kvs g2 e2 W () D2 (λi h1 h2 h3=>G2.old i h1 h3) G2.len
  rwa [List.ah4 pA] at this
end
section
variable{T:Nat->Option aW}{d:Nat}
def O1:MS:=match L7.body with
 |.seq _ (.seq _ (.seq _ (.seq _ (.seq _ (.seq _ (.seq _ (.seq _ (.seq (.dq _ _ b) _))))))))=>b
 |x=>x
structure jK(d s0 w0 f0 i:Nat)(g:G)(f y:Int):Prop where
 Hv:∃l,g[s0]?=some (.lst l)/\FN l f/\l.length<=i
 fr:1<=f/\f<=1+i
 Oz:∃kvs,g[w0]?=some (.eE kvs)/\qg kvs/\kvs.length<=2*i
 found:∃cs:List b8,g[f0]?=some (.lst (cs.map b8.d))/\cs.length=i/\∀c∈cs,iA c
 year:0<=y/\y<=9999
 dr:m7 g d
theorem aL9{s0 w0 f0 n0:Nat}{n y st wr sh:Int}{yN Oy Ox Ow Bq Bp:Option D}(h4:T 4=some K5)(wY:T 23=some L8)(S:jK d s0 w0 f0 i g f y)(hi:i<=100)(hv:1<=v/\v<=100)(eB:1<=st/\st<=96)(kd:0<wr/\wr<1000)(kx:0<=sh/\sh<=2)(o1:d<n0)(o2:n0<=s0)(o3:s0<w0)(o4:w0<f0)(h:∀f' y' ir gE gn ic gJ g',jK d s0 w0 f0 (i+1) g' f' y'->(∀j,j≠d->j<n0->g'[j]?=g[j]?)->g.length<=g'.length->N.nx [some (.ref d),some (.int n),some (.int v),some (.ref s0),some (.int f'),some (.ref w0),some (.int y'),some (.int st),some (.int wr),some (.int sh),some (.ref f0),yN,ir,gE,gn,ic,gJ] g') :
  wpS (d0 T (k+2)) O1 N [some (.ref d),some (.int n),some (.int v),some (.ref s0),some (.int f),some (.ref w0),some (.int y),some (.int st),some (.int wr),some (.int sh),some (.ref f0),yN,Oy,Ox,Ow,Bq,Bp] g E:=by
 obtain⟨⟨l,es,hs,hl⟩,⟨f1,f2⟩,⟨kvs,ew,W,hk⟩,⟨cs,ef,hc,hg⟩,⟨y0,y1⟩,D0⟩:=S;have lf:=i8 ef;dsimp[O1,L7];left;refine a06 h4 wY es () hs f1 () D0 λl1 f' g1 ff kh Ia f3 f5 gT D1 pQ gI=>?_;have Jd:g1[w0]?=some (.eE kvs):=(pQ w0 () () (i8 ew)).trans ew;have Jh:g1[f0]?=some (.lst (cs.map b8.d)):=(pQ f0 () () lf).trans ef;left;have gf:0<l1.length:=Hi.mpr ff;refine j4 (n:=(l1.length:Int)) h4 D1 () () λr2 g2 iM iL D2 G2=>?_;have oI:=G2.at () gT;have Jc:=G2.at () Jd;have Jg:=G2.at () Jh;obtain⟨x,hx,hm⟩:=L1 (l:=l1) iM iL;obtain⟨ns,rfl,so⟩:=id Ia;obtain⟨k1,Qv,rfl⟩:=aZ.mp hm;refine s9 (b0 oI) hx ?_;left;refine j4 (n:=2+v) h4 D2 () () λr3 g3 jg jm D3 G3=>?_;have DJ:=G3.at () oI;have Jb:=G3.at () Jc;have DM:=G3.at () Jg;left;have kb1:=so k1 Qv;have vK:∀j,j≠d->j<n0->g3[j]?=g[j]?:=λj a b=>by
  have lj:j<g.length:=by omega
  rw[G3.old j a (by have:=G2.len;(clear hi hv eB kd kx o1 hl f1 f2 hk hc y0 y1 f3 f5 iM kh gf iL jg jm kb1 a lj;omega)),G2.old j a (),pQ j a () lj]
 have iO:g.length<=g3.length:=by have:=G2.len;have:=G3.len;(clear hi hv eB kd kx o1 o2 o3 o4 hl f1 f2 hk hc y0 y1 lf f3 f5 iM kh gf iL jg jm kb1;omega)
 refine x6 (b7 T _) (wk (b7 T _) ?_);left;refine ⟨_,rfl,_,λj Z g'=>∃ jE gE gn,Z=[some (.ref d),some (.int n),some (.int v),some (.ref s0),some (.int f'),some (.ref w0),some (.int y),some (.int st),some (.int wr),some (.int sh),some (.ref f0),yN,some (.tup [.int k1,.int (50 + r3)]),gE,gn,Bq,Bp]/\g'[w0]?=some (.eE jE)/\qg jE/\jE.length <= 2 * i + j/\m7 g' d/\(∀ j,j ≠ d->j ≠ w0->j < g3.length->g'[j]?=g3[j]?)/\g3.length <= g'.length,
  λ_ _ _ _=>w6,⟨kvs,_,_,rfl,Jb,W,by omega,D3,λ_ _ _ _=>rfl,az _⟩,λj x Z g' hx p=>?_,λZ g' p=>?_⟩
 ·obtain⟨jE,gE,gn,rfl,RK,W',oX,D',BD,vY⟩:=p;have lz:∃key:Int,x=.int key/\j<2:=by
   match j,hx with
   |0,hx=>cases hx;exact⟨_,rfl,by decide⟩
   |1,hx=>cases hx;exact⟨_,rfl,by decide⟩
   |j+2,hx=>simp at hx
  obtain⟨key,rfl,hj⟩:=lz;show wpS _ _ _ _ _ _;refine Vv (k:=k+1) h4 RK W' (by(clear hv eB kd kx o1 o2 o3 o4 hl f1 f2 hk y0 y1 lf f3 f5 gI iM kh gf iL jg jm kb1 iO vY;omega)) kd.1 kd.2 () D' rfl rfl rfl rfl rfl λz BO RE e2 W2 Qu D2' rY vX=>?_;exact⟨BO,_,_,rfl,e2,W2,by(clear hi hv eB kd kx o1 o2 o3 o4 hl f1 f2 hk y0 y1 lf f3 f5 gI iM kh gf iL jg jm kb1 iO vY hj vX;omega),D2',λj a b c=>(rY j a b ()).trans (BD j a b c),by(clear hi hv eB kd kx o1 o2 o3 o4 hl f1 f2 hk hc y0 y1 lf f3 f5 gI iM kh gf iL jg jm kb1 iO oX hj Qu;omega)⟩
 obtain⟨wc,gE,gn,rfl,RJ,W4,lZ,D4,pP,jC⟩:=p;have RO:g'[s0]?=some (.lst (ns.map D.int)):=(pP s0 () () (i8 DJ)).trans DJ;have RS:g'[f0]?=some (.lst (cs.map b8.d)):=(pP f0 () () (i8 DM)).trans DM;have vJ:∀j,j≠d->j<n0->g'[j]?=g[j]?:=λj a b=>(pP j a () (by(clear hi hv eB kd kx o1 hl f1 f2 hk hc y0 y1 f3 f5 gI iM kh gf iL jg jm kb1 lZ jC a;omega))).trans (vK j a b);clear pP vK G2 G3 gT Jd Jh oI Jc Jg DJ Jb DM pQ;have lZ:wc.length<=2*(i+1):=by simp at lZ;(clear hi hv eB kd kx o1 o2 o3 o4 hl f1 f2 hk y0 y1 lf f3 f5 gI iM kh gf iL jg jm kb1 iO jC;omega)
 show wpS _ _ _ _ _ _;left;refine j4 h4 D4 ∅ ∅ λr5 g5 lW lV D5 G5=>?_;left;have tail:∀(y':Int) (g6:G),0<=y'->y'<=9999->m7 g6 d->Gr d g' g6->wpS (d0 T (k+2)) (m8 (m8 (m8 (m8 O1)))) N [some (.ref d),some (.int n),some (.int v),some (.ref s0),some (.int f'),some (.ref w0),some (.int y'),some (.int st),some (.int wr),some (.int sh),some (.ref f0),yN,some (.tup [.int k1,.int (50+r3)]),gE,gn,Bq,Bp] g6 E:=by
  intro y' g6 nB ny D6 G6;have RN:=G6.at () RO;have RI:=G6.at () RJ;have zF:=G6.at () RS;dsimp[O1,L7,m8];left;refine aR5 (b7 T _) ?_;left;refine⟨_,rfl,by simp,λj ys Z g7=>g7=g6/\(∃z w,Z=[some (.int sh),some (.int st),z,w])/\ys=([k1,50+r3].take j).map (λkey=>D.int (1+sh+key*st % 97)),⟨rfl,⟨none,none,rfl⟩,rfl⟩,λj ys Z g7 p=>?_,λj x ys Z g7 hx p=>?_,λys Z g7 p=>?_⟩
  ·obtain⟨rfl,_,rfl⟩:=p;simp;omega
  ·obtain⟨rfl,⟨z,w,rfl⟩,rfl⟩:=p;have lz:∃key:Int,x=.int key/\([k1,50+r3].take j).map (λkey=>D.int (1+sh+key*st % 97))++[D.int (1+sh+key*st % 97)]=([k1,50+r3].take (j+1)).map (λkey=>D.int (1+sh+key*st % 97)):=by
    match j,hx with
    |0,hx=>cases hx;exact⟨_,rfl,rfl⟩
    |1,hx=>cases hx;exact⟨_,rfl,rfl⟩
    |j+2,hx=>simp at hx
   obtain⟨key,rfl,he⟩:=lz;show dh _ _ _ _ _ _;left;refine V0 (va () ()) ?_;left;exact⟨rfl,⟨_,_,rfl⟩,he⟩
  obtain⟨rfl,_,rfl⟩:=p;have eN:(g7++[O.lst [D.int (1+sh+k1*st % 97),D.int (1+sh+(50+r3)*st % 97)]])[g7.length]?=some (.lst [D.int (1+sh+k1*st % 97),D.int (1+sh+(50+r3)*st % 97)]):=b9;show wpS _ _ _ _ (g7++[O.lst [D.int (1+sh+k1*st % 97),D.int (1+sh+(50+r3)*st % 97)]]) _;left;refine j4 h4 (D6.snoc _) ∅ ∅ λr8 g8 nW nV D8 G8=>?_;have l7:=D6.lt;have eN8:=G8.at () eN;have RL:=G8.at () (u4 RN);have DI:=G8.at () (u4 RI);have Jf:=G8.at () (u4 zF);left;refine V0 (Gw () ()) ?_;left;obtain⟨lm,el,gl,ll⟩:=W4.get (.inl k1);obtain⟨um,eu,gu,lu⟩:=W4.get (.inl (50+r3));refine FY DI (k:=.inl k1) rfl ?_;rw[el];left;refine FY DI (k:=.inl (50+r3)) rfl ?_;rw[eu];left;refine L5 Jf (by simp;omega) ?_;generalize ke:y'*(if decide (0<r8)=true then 1 else 0)=ty;have mV:0<=ty/\ty<=9999:=by
   rw[<- ke];split<;>simp<;>omega
  left;refine h f' y' _ _ _ _ _ _ ⟨⟨_,f6 RL (),Ia,by(clear hi hv eB kd kx o1 o2 o3 o4 f1 f2 hk y0 y1 lf f3 f5 gI iM gf iL jg jm kb1 iO jC lZ lW lV nB ny nW nV l7 ll lu ke mV;omega)⟩,⟨by omega,by(clear hi hv eB kd kx o1 o2 o3 o4 hl f1 hk y0 y1 lf gI iM kh gf iL jg jm kb1 iO jC lZ lW lV nB ny nW nV l7 ll lu ke mV;omega)⟩,⟨wc,f6 DI (),W4,lZ⟩,⟨cs++[⟨1+sh+k1*st % 97,lm,1+sh+(50+r3)*st % 97,um,ty⟩],?_,by simp[hc],?_⟩,⟨nB,ny⟩,D8.K3 ()⟩ (λj a b=>?_) ?_
  ·rw[get_set Jf];simp[b8.d]
  ·intro c jJ;rcases aV.mp jJ with z|z
   ·exact hg c z
   ·simp at z;subst z;have m1:=dt (k1*st) (show(97:Int)≠0 by decide);have m2:=cN (k1*st) (show(0:Int)<97 by decide);have m3:=dt ((50+r3)*st) (show(97:Int)≠0 by decide);have m4:=cN ((50+r3)*st) (show(0:Int)<97 by decide);exact iA.mk' (by(clear hi hv eB kd o1 o2 o3 o4 hl f1 f2 hk hc y0 y1 lf f3 f5 gI iM kh gf iL jg jm kb1 iO jC lZ lW lV nB ny nW nV l7 ll lu ke mV m2 m3 m4;omega)) (by(clear hi hv eB kd o1 o2 o3 o4 hl f1 f2 hk hc y0 y1 lf f3 f5 gI iM kh gf iL jg jm kb1 iO jC lZ lW lV nB ny nW nV l7 ll lu ke mV m2 m3 m4;omega)) (by(clear hi hv eB kd o1 o2 o3 o4 hl f1 f2 hk hc y0 y1 lf f3 f5 gI iM kh gf iL jg jm kb1 iO jC lZ lW lV nB ny nW nV l7 ll lu ke mV m1 m2 m4;omega)) (by(clear hi hv eB kd o1 o2 o3 o4 hl f1 f2 hk hc y0 y1 lf f3 f5 gI iM kh gf iL jg jm kb1 iO jC lZ lW lV nB ny nW nV l7 ll lu ke mV m1 m2 m4;omega)) mV.1 mV.2 gl gu ll lu
  ·have lj:j<g'.length:=by(clear hi hv eB kd kx o1 hl f1 f2 hk hc y0 y1 f3 f5 gI iM kh gf iL jg jm kb1 lZ lW lV nB ny nW nV l7 ll lu ke mV a;omega)
   rw[aA (by(clear hi hv eB kd kx o1 hl f1 f2 hk hc y0 y1 lf f3 f5 gI iM kh gf iL jg jm kb1 iO jC lZ lW lV nB ny nW nV l7 ll lu ke mV a lj;omega)),G8.old j a (by have:=G6.len;simp;(clear hi hv eB kd kx o1 o2 o3 o4 hl f1 f2 hk hc y0 y1 lf f3 f5 gI iM kh gf iL jg jm kb1 iO jC lZ lW lV nB ny nW nV l7 ll lu ke mV a b;omega)),aK (by have:=G6.len;(clear hi hv eB kd kx o1 o2 o3 o4 hl f1 f2 hk hc y0 y1 lf f3 f5 gI iM kh gf iL jg jm kb1 iO jC lZ lW lV nB ny nW nV l7 ll lu ke mV a b;omega)),G6.old j a lj];exact vJ j a b
  ·have:=G6.len;have:=G8.len;simp at this ⊢
   (clear hi hv eB kd kx o1 o2 o3 o4 hl f1 f2 hk hc y0 y1 lf f3 f5 gI iM kh gf iL jg jm kb1 lZ lW lV nB ny nW nV l7 ll lu ke mV;omega)
 refine if2 (λc=>?_) (λc=>?_)
 ·left;refine j4 h4 D5 ∅ ∅ λr6 g6 HB HA D6 G6=>?_;left;generalize BX:(if y+1+r6<9999 then y+1+r6 else 9999)=y';have:0<=y'/\y'<=9999:=by rw[<- BX];split<;>omega
  exact tail y' g6 this.1 this.2 D6 (G5.trans G6)
 ·refine C7 ?_;exact tail y g5 y0 y1 D5 G5
theorem a01(h4:T 4=some K5)(wY:T 23=some L8)(Rn:T 24=some L7){n:Int}(hn:0<=n/\n<=100)(hv:1<=v/\v<=100)(D0:m7 g d)(h:∀(cs:List b8) a g',(cs.length:Int)=n->(∀c∈cs,iA c)->g'[a]?=some (.lst (cs.map b8.d))->g.length<=a->m7 g' d->Gr d g g'->Q (.ref a) g'):d0 T (k+3) 24 [.ref d,.int n,.int v] g Q E:=by
 refine call_of Rn rfl ?_;dsimp[L7,d6,List.replicate];have dl:=D0.lt;left;have D1:m7 (g++[O.lst []]++[O.eE []]++[O.lst [.int 0,.int 1,.int 1350]]) d:=((D0.snoc _).snoc _).snoc _;have G1:Gr d g (g++[O.lst []]++[O.eE []]++[O.lst [.int 0,.int 1,.int 1350]]):=((Gr.snoc _ _ _).trans (Gr.snoc _ _ _)).trans (Gr.snoc _ _ _);have e0:(g++[O.lst []]++[O.eE []]++[O.lst [.int 0,.int 1,.int 1350]])[g.length]?=some (.lst []):=u4 (u4 b9);have e1:(g++[O.lst []]++[O.eE []]++[O.lst [.int 0,.int 1,.int 1350]])[(g++[O.lst []]).length]?=some (.eE []):=u4 b9;have e2:(g++[O.lst []]++[O.eE []]++[O.lst [.int 0,.int 1,.int 1350]])[(g++[O.lst []]++[O.eE []]).length]?=some (.lst [.int 0,.int 1,.int 1350]):=b9;have n1:(g++[O.lst []]).length=g.length+1:=by simp
 have n2:(g++[O.lst []]++[O.eE []]).length=g.length+2:=by simp
 rw[n1] at e1 ⊢;rw[n2] at e2 ⊢;generalize g++[O.lst []]++[O.eE []]++[O.lst [.int 0,.int 1,.int 1350]]=g1 at *;refine j4 h4 D1 ∅ ∅ λr2 g2 iM iL D2 G2=>?_;have Sa:=G2.at () e0;have pB:=G2.at () e1;have RV:=G2.at () e2;obtain⟨x,hx,hm⟩:=L1 (l:=[D.int 0,.int 1,.int 1350]) iM (by simpa using iL);have hy:∃y:Int,x=.int y/\0<=y/\y<=9999:=by
  simp only[List.mem_cons,List.mem_nil_iff,or_false] at hm;rcases hm with rfl|rfl|rfl<;>exact⟨_,rfl,by decide,by decide⟩
 obtain⟨y,rfl,y0,y1⟩:=hy;refine s9 (b0 RV) hx ?_;left;refine j4 h4 D2 ∅ ∅ λr3 g3 jg jm D3 G3=>?_;left;refine j4 h4 D3 ∅ ∅ λr4 g4 rQ uh D4 G4=>?_;left;refine j4 h4 D4 ∅ ∅ λr5 g5 lW lV D5 G5=>?_;have Bb:=G3.trans (G4.trans G5);have RZ:=Bb.at () Sa;have xp:=Bb.at () pB;have l5:=(G1.trans (G2.trans Bb)).len;have lw:=i8 xp;left;generalize kx:(if r5-6>0 then r5-6 else 0)=sh;have Ht:0<=sh/\sh<=2:=by rw[<- kx];split<;>omega
 have zJ:(g5++[O.lst []])[g5.length]?=some (.lst []):=b9;refine x6 (b7 T _) (pE (b7 T _) ?_);left;refine ⟨by omega,by omega,k8 0 n.toNat,λi Z g'=>∃ f' y' jy ir gE gn ic gJ,Z=[some (.ref d),some (.int n),some (.int v),some (.ref g.length),some (.int f'),some (.ref (g.length + 1)),some (.int y'),some (.int (1 + r3)),some (.int (2 + r4)),some (.int sh),some (.ref g5.length),jy,ir,gE,gn,ic,gJ]/\jK d g.length (g.length + 1) g5.length i g' f' y'/\Gr d g g',
  λ_ _ _ _=>w6,⟨1,y,none,none,none,none,none,none,rfl,⟨⟨[],u4 RZ,⟨[],rfl,by simp⟩,by simp⟩,⟨by omega,by omega⟩,⟨[],u4 xp,(λk v hv=>by cases hv),by simp⟩,⟨[],zJ,rfl,by simp⟩,⟨y0,y1⟩,D5.snoc _⟩,(G1.trans (G2.trans Bb)).trans (Gr.snoc _ _ _)⟩,λi x Z g' hx p=>?_,λZ g' p=>?_⟩
 ·obtain⟨f',y',jy,ir,gE,gn,ic,gJ,rfl,S,G'⟩:=p;obtain⟨hi,rfl⟩:=B3 hx;show wpS _ O1 _ _ _ _;refine aL9 (n0:=g.length) h4 wY S () hv ⟨by omega,by omega⟩ ⟨by omega,by omega⟩ Ht dl (az _) () () λf2 y2 a b c e f g2 S2 rY vX=>?_;exact⟨f2,y2,_,_,_,_,_,_,rfl,S2,⟨by have:=G'.len;(clear hn hv dl iM iL y0 y1 jg jm rQ uh lW lV l5 lw kx Ht hi;omega),λj h1 h2=>(rY j h1 h2).trans (G'.old j h1 h2)⟩⟩
 ·obtain⟨f',y',jy,ir,gE,gn,ic,gJ,rfl,S,G'⟩:=p;show wpS _ _ _ _ _ _;left;obtain⟨cs,ef,hc,hg⟩:=S.found;rw[o6] at hc;exact h cs _ _ () hg ef () S.dr G'
end
def Af:aW:=⟨2,8,(.seq (.set 2 (bH .lh (bc 1) (bH (.bin .Add) (bH (.bin .Add) (bH (.bin .FloorDiv) ba (bc 2)) (bH (.bin .Mod) ba (bc 2))) (bc 1)))) (.seq (.set 3 (bH (.bin .Add) bg (bH (.jX false true) (.call 21 (dA aM bg)) (bH (.bin .FloorDiv) ba (bc 2))))) (.seq (.set 4 (.call 4 (dA aM (bc 3)))) (.seq (.set 5 (.prim .lst .nil)) (.seq (.dq (.one 6) (.eQ ba) (.seq (.set 7 (cH (.prim .lst (fe (bH (.bin .Add) (bc 1000) eL) (bc 0) (bH (.bin .Add) (bc 1) (bH (.bin .FloorDiv) (bH (.bin .Mult) (bc 2) eL) (bH .max (bc 1) ba))))) cS)) (.seq (.expr (.dG .append dF (dZ (.prim .tup (rF (cH bz eL) (.prim .tup .nil) (bH (.bin .Add) (bc 1) (.call 4 (dA aM (bc 9)))) (.prim .tup .nil) fN))))) .pass))) (.seq (.ret dF) .pass))))))⟩
def U4:aW:=⟨2,9,(.seq (.set 2 (.call 4 (dA aM (bH (.bin .Add) ba (bc 1))))) (.seq (.set 3 (bH (.bin .Add) (bc 1) (.call 4 (dA aM (bc 3))))) (.seq (.set 4 (.call 4 (dA aM (bc 5)))) (.seq (.ifs (dD .Eq cS (bc 0)) (.seq (.ret (bH .tup (.comp [0] 3 (.one 2) (.eQ bg) .no (.call 22 (dZ aM))) bz)) .pass) .pass) (.seq (.ifs (dD .Eq cS (bc 4)) (.seq (.set 3 (bH (.bin .Add) (bc 1) (.call 4 (dA aM (bc 6))))) .pass) .pass) (.seq (.set 5 (.ite (dD .Eq cS (bc 4)) (.call 25 (dA aM bg)) (.call 24 (fe aM bg bz)))) (.seq (.set 5 (.comp [5] 3 (.one 2) (.eU (.call 21 (dA aM (cY .jZ bg)))) .no (cH aM bg))) (.seq (.ifs (.dB (dD .Eq cS (bc 1)) (dD .Gt bg (bc 0))) (.seq (.set 6 (.call 4 (dA aM bg))) (.seq (.set 7 (cH dF eL)) (.seq (.set 8 (cH dF (.call 4 (dA aM bg)))) (.seq (.eJ dF eL (.prim .tup (rF (cH fN (bc 0)) (cH ku (bc 1)) (cH ku (bc 2)) (cH fN (bc 3)) (cH (.prim .lst (fe (cH fN (bc 4)) (cH ku (bc 4)) (bc 9999))) (.call 4 (dA aM (bc 3))))))) .pass)))) .pass) (.seq (.ifs (dD .Eq cS (bc 2)) (.seq (.set 3 (bc 1)) .pass) .pass) (.seq (.ret (bH .tup dF bz)) .pass))))))))))⟩
theorem Mb{p:Int->Prop}:∀{l:List D},(∀x∈l,∃i:Int,x=.int i/\p i)->∃ns:List Int,l=ns.map .int/\∀i∈ns,p i
 |[],_=>⟨[],rfl,by simp⟩
 |x::r,h=>by
  obtain⟨i,rfl,hi⟩:=h x (by simp);obtain⟨ns,rfl,hn⟩:=Mb (l:=r) λy hy=>h y (by simp[hy]);exact⟨i::ns,rfl,λj hj=>(aL.mp hj).elim (λz=>z▸hi) (hn j)⟩
theorem Mt{lo:Int}{x:D}(h:x∈k8 lo n):∃i:Int,x=.int i/\lo<=i/\i<lo+n:=by
 unfold k8 at h;obtain⟨k,hk,rfl⟩:=aZ.mp h;exact⟨_,rfl,by omega,by have:=aN.mp hk;omega⟩
theorem bH4{l:List α}(h:n<=l.length):cut l none (some (n:Int))=l.take n:=by
 have:¬((n:Int)<0):=by omega
 unfold cut HT.dQ;simp[this]
theorem TJ{r:Int}(h0:0<=r)(h1:r<ns.length):∃i∈ns,gh (ns.map D.int) r=some (.int i):=by
 obtain⟨v,hv,hm⟩:=L1 (l:=ns.map D.int) h0 (by simpa using h1);obtain⟨i,hi,rfl⟩:=aZ.mp hm;exact⟨i,hi,hv⟩
theorem ES{r:Int}(h0:0<=r)(h1:r<cs.length):∃c∈cs,gh (cs.map b8.d) r=some c.d:=by
 obtain⟨v,hv,hm⟩:=L1 (l:=cs.map b8.d) h0 (by simpa using h1);obtain⟨i,hi,rfl⟩:=aZ.mp hm;exact⟨i,hi,hv⟩
section
variable{T:Nat->Option aW}{d:Nat}
theorem a31(h4:T 4=some K5)(Dk:T 21=some W6)(Rm:T 25=some Af){n:Int}(hn:0<=n/\n<=100)(D0:m7 g d)(h:∀(cs:List b8) a g',(cs.length:Int)=n->(∀c∈cs,iA c)->g'[a]?=some (.lst (cs.map b8.d))->g.length<=a->m7 g' d->Gr d g g'->Q (.ref a) g'):d0 T (k+3) 25 [.ref d,.int n] g Q E:=by
 refine call_of Rm rfl ?_;dsimp[Af,d6,List.replicate];have dl:=D0.lt;left;refine vV (i:=1) (j:=n / 2+n % 2+1) () ?_;left;have hh:∃hf:Nat,(n / 2+n % 2+1-1).toNat=hf/\(hf:Int)=n / 2+n % 2/\hf<=50:=⟨_,rfl,by omega,by omega⟩
 obtain⟨hf,CA,hh2,Iu⟩:=hh;rw[CA];have e1:(g++[O.lst (k8 1 hf)])[g.length]?=some (.lst (k8 1 hf)):=b9;refine Ll h4 Dk e1 (by rw[o6];omega) () (D0.snoc _) λl' b g2 hp e2 hb D2 G2=>?_;have pB:=G2.at () e1;left;refine GK (b0 e2) ?_;have hle:l'.length=hf:=by rw[hp.length_eq,o6]
 have hc:cut l' none (some (n / 2))=l'.take (n / 2).toNat:=by
  have:=bH4 (l:=l') (n:=(n / 2).toNat) ()
  rwa [show(((n / 2).toNat:Nat):Int)=n / 2 by omega] at this
 rw[hc];refine Y5 (u4 pB) b9 (by rw[o6,cM];omega) ?_;obtain⟨rl,er,hr⟩:=Mb (p:=λi=>1<=i/\i<=50) (l:=k8 1 hf++l'.take (n / 2).toNat) λx hx=>by
  have nF:x∈k8 1 hf:=by
   rcases aV.mp hx with z|z
   ·exact z
   ·exact hp.mem_iff.mp (fT z)
  obtain⟨i,rfl,h1,h2⟩:=Mt nF;exact⟨i,rfl,h1,by omega⟩
 have zg:(rl.length:Int)=n:=by
  have:=iC List.length er;rw[bj,o6,cM,ai] at this;omega
 rw[er];have D3:=(D2.snoc (.lst (l'.take (n / 2).toNat))).snoc (.lst (rl.map D.int));have G3:=(Gr.snoc d g (.lst (k8 1 hf))).trans (G2.trans ((Gr.snoc d g2 (.lst (l'.take (n / 2).toNat))).trans (Gr.snoc d _ (.lst (rl.map D.int)))));have e3:(g2++[O.lst (l'.take (n / 2).toNat)]++[O.lst (rl.map D.int)])[(g2++[O.lst (l'.take (n / 2).toNat)]).length]?=some (.lst (rl.map D.int)):=b9;have l3:g.length+1<=(g2++[O.lst (l'.take (n / 2).toNat)]).length:=by have:=G2.len;simp at this ⊢;omega
 generalize (g2++[O.lst (l'.take (n / 2).toNat)]).length=Hx at *;generalize g2++[O.lst (l'.take (n / 2).toNat)]++[O.lst (rl.map D.int)]=g3 at *;left;refine j4 h4 D3 ∅ ∅ λr4 g4 rQ uh D4 G4=>?_;have e4:=G4.at () e3;left;have Oc:=G3.trans G4;have l4:=Oc.len;have e5:(g4++[O.lst []])[g4.length]?=some (.lst ([].map b8.d)):=b9;have HP:=i8 e4;refine x6 (b7 T _) (pE (b7 T _) ?_);left;refine ⟨by omega,by omega,k8 0 n.toNat,λi Z g'=>∃ cs z6 z7,Z=[some (.ref d),some (.int n),some (.ref g.length),some (.ref Hx),some (.int r4),some (.ref g4.length),z6,z7]/\cs.length=i/\(∀ c ∈ cs,iA c)/\g'[g4.length]?=some (.lst (cs.map b8.d))/\g'[Hx]?=some (.lst (rl.map D.int))/\m7 g' d/\Gr d g g',
  λ_ _ _ _=>w6,⟨[],none,none,rfl,rfl,by simp,e5,u4 e4,D4.snoc _,Oc.trans (Gr.snoc _ _ _)⟩,λi x Z g' hx p=>?_,λZ g' p=>?_⟩
 ·obtain⟨cs,z6,z7,rfl,hc,hg,ef,erw,D',G'⟩:=p;obtain⟨hi,rfl⟩:=B3 hx;show wpS _ _ _ _ _ _;left;refine V0 (Gw ∅ ∅) ?_;left;refine AH ⟨by split<;>omega,by split<;>omega⟩ ?_;left;obtain⟨yv,hy,BV⟩:∃yv:Int,gh [D.int (1000+(0+(i:Int))),D.int 0,D.int (1+2*(0+(i:Int)) / (if n>1 then n else 1))] r4=some (.int yv)/\0<=yv/\yv<=9999:=by
   have dv0:0<=2*(0+(i:Int)) / (if n>1 then n else 1):=Int.ediv_nonneg () (by split<;>omega);have dv1:2*(0+(i:Int)) / (if n>1 then n else 1)<=2*(0+(i:Int)):=Int.ediv_le_self _ ();have:r4=0\/r4=1\/r4=2:=by omega
   rcases this with rfl|rfl|rfl
   ·exact⟨_,rfl,by omega,by(clear dl CA Iu hb l3 l4 HP hc rQ uh;omega)⟩
   ·exact⟨_,rfl,by omega,by omega⟩
   ·exact⟨_,rfl,by omega,by omega⟩
  refine s9 (b0 b9) hy ?_;left;obtain⟨lo,Im,Ct⟩:=TJ (ns:=rl) (r:=0+(i:Int)) () (by(clear hn dl CA Iu hb l3 rQ uh l4 HP BV;omega));have lf:=i8 ef;refine And.intro (M4 (u4 ef)) ?_;left;refine s9 (b0 (u4 erw)) Ct ?_;left;refine j4 h4 (D'.snoc _) ∅ ∅ λr6 g6 HB HA D6 G6=>?_;have zF:=G6.at () (u4 ef);have RP:=G6.at () (u4 erw);left;refine L5 zF (by simp;omega) ?_;left;have hlb:=hr lo Im;refine⟨cs++[⟨lo,[],1+r6,[],yv⟩],_,_,rfl,by simp[hc],?_,?_,f6 RP (),D6.K3 (),(G'.trans ((Gr.snoc _ _ _).trans G6)).K3 ()⟩
  ·intro c jJ;rcases aV.mp jJ with z|z
   ·exact hg c z
   ·simp at z;subst z;exact iA.mk' () () () () BV.1 BV.2 rfl rfl (by simp) (by simp)
  ·rw[get_set zF];simp[b8.d]
 ·obtain⟨cs,z6,z7,rfl,hc,hg,ef,erw,D',G'⟩:=p;show wpS _ _ _ _ _ _;left;rw[o6] at hc;exact h cs _ _ () hg ef () D' G'
end
section
variable{T:Nat->Option aW}{d:Nat}
structure LF(T:Nat->Option aW):Prop where
 pull:T 4=some K5
 order:T 21=some W6
 any:T 22=some Ar
 rO:T 23=some L8
 rJ:T 24=some L7
 opened:T 25=some Af
 list:T 26=some U4
theorem aV4(hT:LF T){n:Int}(hn:0<=n/\n<=99)(D0:m7 g d)(h:∀(cs:List b8) a (v:Int) g',(cs.length:Int)<=n->(∀c∈cs,iA c)->g'[a]?=some (.lst (cs.map b8.d))->g.length<=a->1<=v->v<=6->m7 g' d->Gr d g g'->Q (.tup [.ref a,.int v]) g'):d0 T (k+4) 26 [.ref d,.int n] g Q E:=by
 refine call_of hT.list rfl ?_;dsimp[U4,d6,List.replicate];have dl:=D0.lt;left;refine j4 (n:=n+1) hT.pull D0 () () λm g1 m0 m1 D1 G1=>?_;left;refine j4 hT.pull D1 ∅ ∅ λr2 g2 iM iL D2 G2=>?_;left;refine j4 hT.pull D2 ∅ ∅ λway g3 w0 w1 D3 G3=>?_;have Bc:=G1.trans (G2.trans G3);have l3:=Bc.len;left;refine if2 (λc=>?_) (λc=>?_)
 ·left;refine J5 (b7 T _) (pE (b7 T _) ?_);left;refine⟨by omega,by omega,k8 0 m.toNat,λi ys Z g'=>∃cs z1 z2,ys=cs.map b8.d/\cs.length=i/\(∀c∈cs,iA c)/\Z=[some (.ref d),z1,z2]/\m7 g' d/\Gr d g g',by rw[o6];omega,λi ys Z g' p=>⟨w6,?_⟩,⟨[],none,none,rfl,rfl,by simp,rfl,D3,Bc⟩,λi x ys Z g' hx p=>?_,λys Z g' p=>?_⟩
  ·obtain⟨cs,z1,z2,rfl,hc,_⟩:=p;simp[hc]
  ·obtain⟨cs,z1,z2,rfl,hc,hg,rfl,D',G'⟩:=p;show dh _ _ _ _ _ _;left;refine aN6 hT.pull hT.any D' λc0 g4 gc D4 G4=>?_;refine⟨cs++[c0],_,_,by simp,by simp[hc],λc1 sH=>?_,rfl,D4,G'.trans G4⟩;rcases aV.mp sH with z|z
   ·exact hg c1 z
   ·simp at z;subst z;exact gc
  ·obtain⟨cs,z1,z2,rfl,hc,hg,rfl,D',G'⟩:=p;rw[o6] at hc;left;exact h cs _ _ _ () hg b9 G'.len () () (D'.snoc _) (G'.trans (Gr.snoc _ _ _))
 have tail:∀(v:Int) (g4:G),1<=v->v<=6->m7 g4 d->Gr d g g4->wpS (d0 T (k+3)) (m8 (m8 (m8 (m8 (m8 U4.body))))) ⟨λ_ g'=>Q .br g',Q,λ_ _=>False,λ_ _=>False⟩ [some (.ref d),some (.int n),some (.int m),some (.int v),some (.int way),none,none,none,none] g4 E:=by
  intro v g4 v0 v1 D4 G4;dsimp[U4,m8];have after:∀(cs:List b8) a g5,(cs.length:Int)=m->(∀c∈cs,iA c)->g5[a]?=some (.lst (cs.map b8.d))->g4.length<=a->m7 g5 d->Gr d g4 g5->wpS (d0 T (k+3)) (m8 (m8 (m8 (m8 (m8 (m8 U4.body)))))) ⟨λ_ g'=>Q .br g',Q,λ_ _=>False,λ_ _=>False⟩ [some (.ref d),some (.int n),some (.int m),some (.int v),some (.int way),some (.ref a),none,none,none] g5 E:=by
   intro cs a g5 hc hg ea la D5 G5;have Ob:=G4.trans G5;have l4:=G4.len;dsimp[U4,m8];left;refine J5 (b7 T _) (lr (b7 T _) ?_);left;refine vW () () ?_;left;have e6:(g5++[O.lst (k8 0 m.toNat)])[g5.length]?=some (.lst (k8 0 m.toNat)):=b9;have l5:=D5.lt;refine Ll hT.pull hT.order e6 (by rw[o6];omega) () (D5.snoc _) λl' b g7 hp eb lb D7 G7=>?_;have RT:=G7.at () (u4 ea);have uu:l'.length=m.toNat:=by rw[hp.length_eq,o6]
   refine⟨b,l',rfl,b0 eb,l',λi ys Z g'=>∃gp z1 z2,ys=gp.map b8.d/\gp.length=i/\(∀c∈gp,iA c)/\Z=[some (.ref a),z1,z2]/\g'=g7,by omega,λi ys Z g' p=>?_,⟨[],none,none,rfl,rfl,by simp,rfl,rfl⟩,λi x ys Z g' hx p=>?_,λys Z g' p=>?_⟩
   ·obtain⟨gp,z1,z2,rfl,jJ,_,_,rfl⟩:=p;exact⟨o8 (b0 eb),by simp[jJ]⟩
   ·obtain⟨gp,z1,z2,rfl,jJ,pV,rfl,rfl⟩:=p;obtain⟨j,rfl,j0,j1⟩:=Mt (hp.mem_iff.mp (aD hx));show dh _ _ _ _ _ _;left;obtain⟨c0,zr,e0⟩:=ES (cs:=cs) j0 ();refine s9 (b0 RT) e0 ?_;refine⟨gp++[c0],_,_,by simp,by simp[jJ],λc1 sH=>?_,rfl,rfl⟩;rcases aV.mp sH with z|z
    ·exact pV c1 z
    ·simp at z;subst z;exact hg c1 zr
   ·obtain⟨gp,z1,z2,rfl,jJ,pV,rfl,rfl⟩:=p;have e8:(g'++[O.lst (gp.map b8.d)])[g'.length]?=some (.lst (gp.map b8.d)):=b9;have D8:=D7.snoc (.lst (gp.map b8.d));have G8:=(Ob.trans ((Gr.snoc d g5 (.lst (k8 0 m.toNat))).trans G7)).trans (Gr.snoc d g' (.lst (gp.map b8.d)));have l8:g.length<=g'.length:=(Ob.trans ((Gr.snoc d g5 (.lst (k8 0 m.toNat))).trans G7)).len;have fin:∀(lJ:List b8) z6 z7 z8 g9,(lJ.length:Int)=m->(∀c∈lJ,iA c)->g9[g'.length]?=some (.lst (lJ.map b8.d))->m7 g9 d->Gr d g g9->wpS (d0 T (k+3)) (m8 (m8 (m8 (m8 (m8 (m8 (m8 (m8 U4.body)))))))) ⟨λ_ g'=>Q .br g',Q,λ_ _=>False,λ_ _=>False⟩ [some (.ref d),some (.int n),some (.int m),some (.int v),some (.int way),some (.ref g'.length),z6,z7,z8] g9 E:=by
     intro lJ z6 z7 z8 g9 oA Iv e9 D9 G9;dsimp[U4,m8];left;refine if2 (λc=>?_) (λc=>?_)
     ·left;exact h lJ _ _ _ () Iv e9 l8 () () D9 G9
     ·left;exact h lJ _ _ _ () Iv e9 l8 v0 v1 D9 G9
    show wpS _ _ _ _ (g'++[O.lst (gp.map b8.d)]) _;have ou:(gp.length:Int)=m:=by omega
    have za:=D7.lt;generalize hg8:g'++[O.lst (gp.map b8.d)]=g8 at *;left;refine if2 (λc1=>?_) (λc1=>?_)
    ·left;refine if2 (λc2=>?_) (λc2=>?_)
     ·left;refine j4 (n:=m) hT.pull D8 c2 () λr g9 r0 r1 D9 G9=>?_;have e9:=G9.at () e8;obtain⟨c0,zr,e0⟩:=ES (cs:=gp) r0 (by(clear hn dl m0 m1 iM iL w0 w1 l3 c v0 v1 la l4 l5 lb uu jJ l8 za c1 c2 r0;omega));left;refine s9 (b0 e9) e0 ?_;left;refine j4 (n:=m) hT.pull D9 c2 () λr' IZ yV HC Od Oa=>?_;have tj:=Oa.at () e9;obtain⟨c3,zq,e3⟩:=ES (cs:=gp) yV (by(clear hn dl m0 m1 iM iL w0 w1 l3 c v0 v1 la l4 l5 lb uu jJ l8 za c1 c2 r0 r1 yV;omega));refine s9 (b0 tj) e3 ?_;dsimp only[b8.d];left;refine j4 hT.pull (Od.snoc _) ∅ ∅ λr'' g11 rS rR D11 Hd=>?_;have HR:=Od.lt;have RX:=Hd.at () (b9 (g:=IZ) (o:=.lst [.int c0.yr,.int c3.yr,.int 9999]));have xq:=Hd.at () (u4 (o':=.lst [.int c0.yr,.int c3.yr,.int 9999]) tj);obtain⟨x,hx,hm⟩:=L1 (l:=[D.int c0.yr,.int c3.yr,.int 9999]) rS (by simpa using rR);obtain⟨a1,a2,a3,a4,a5,a6⟩:=(pV c0 zr).inv;obtain⟨b1,b2,b3,b4,b5,b6⟩:=(pV c3 zq).inv;have hy:∃y:Int,x=.int y/\0<=y/\y<=9999:=by
       simp only[List.mem_cons,List.mem_nil_iff,or_false] at hm;rcases hm with rfl|rfl|rfl
       ·exact⟨_,rfl,a5,a6⟩
       ·exact⟨_,rfl,b5,b6⟩
       ·exact⟨_,rfl,by decide,by decide⟩
      obtain⟨y,rfl,y0,y1⟩:=hy;refine s9 (b0 RX) hx ?_;left;have hj:lq (gp.map b8.d).length r=some r.toNat:=by
       unfold lq;rw[aH r0,aH (by rw[ai];(clear hn dl m0 m1 iM iL w0 w1 l3 c v0 v1 la l4 l5 lb uu jJ l8 za c1 c2 r0 yV HC rS rR HR a1 a3 a5 a6 b1 b3 b5 b6 y0 y1;omega))]
      refine U1 xq hj ?_;have gr:iA ⟨c0.lo,c3.lm,c3.up,c0.um,y⟩:=iA.mk' a1.1 a1.2 b3.1 b3.2 y0 y1 b2 a4 (pV c3 zq).l8 (pV c0 zr).u8;refine fin (gp.set r.toNat ⟨c0.lo,c3.lm,c3.up,c0.um,y⟩) _ _ _ _ (by simp;(clear hn dl m0 m1 iM iL w0 w1 l3 c v0 v1 la l4 l5 lb uu jJ l8 za c1 c2 r0 r1 yV HC rS rR HR a1 a3 a5 a6 b1 b3 b5 b6 y0 y1;omega)) (λc4 QK=>?_) ?_ (D11.K3 ()) ((G8.trans (G9.trans (Oa.trans ((Gr.snoc _ _ _).trans Hd)))).K3 l8)
      ·rcases gP QK with z|z
       ·exact pV c4 z
       ·rw[z];exact gr
      ·rw[get_set xq,List.map_set]
       rfl
     ·refine C7 ?_;exact fin gp _ _ _ _ ou pV e8 D8 G8
    ·exact fin gp _ _ _ _ ou pV e8 D8 G8
  left;refine if2 (λc=>?_) (λc=>?_)
  ·left;refine a31 hT.pull hT.order hT.opened ⟨m0,by omega⟩ D4 λcs a g5 hc hg ea la D5 G5=>?_;exact after cs a g5 hc hg ea la D5 G5
  ·left;refine a01 hT.pull hT.rO hT.rJ ⟨m0,by omega⟩ ⟨v0,by omega⟩ D4 λcs a g5 hc hg ea la D5 G5=>?_;exact after cs a g5 hc hg ea la D5 G5
 left;refine if2 (λc=>?_) (λc=>?_)
 ·left;refine j4 hT.pull D3 ∅ ∅ λr4 g4 rQ uh D4 G4=>?_;walk_at "w1";walk_at "w1";exact tail _ _ () () D4 (Bc.trans G4)
 ·refine C7 ?_;exact tail _ _ () () D3 Bc
end
def C9:aW:=⟨1,1,(.seq (.ifs (.eI (.fo (.call 1 (fe aM (bc 1) (bc 9))))) (.seq (.raise "BadAnvils" (dZ (fh "there are from one to nine anvils"))) .pass) .pass) .pass)⟩
def Ai:aW:=⟨2,2,(.seq (.ret (cY .all (.comp [1] 3 (.one 2) (.eU aM) .no (bH (.cmp .In) bg aM)))) .pass)⟩
def Fz:aW:=⟨1,1,(.seq (.ifs (.eI (.fo (.call 12 (dZ aM)))) (.seq (.raise "BadCoin" (dZ (fh "it is no coin"))) .pass) .pass) .pass)⟩
def Z8:aW:=⟨1,2,(.seq (.ifs (dD .Gt (cY .len aM) (bc 9)) (.seq (.raise "TooMany" (dZ (fh "at most nine coins are asked about at once"))) .pass) .pass) (.seq (.dq (.one 1) (.eU aM) (.seq (.expr (.call 39 (dZ ba))) .pass)) .pass))⟩
def U5:aW:=⟨1,1,(.seq (.ifs (dD .NotIn aM (.lit (.tup [(.str "lower"),(.str "upper")]))) (.seq (.raise "BadSide" (dZ (fh "a side is lower or upper"))) .pass) .pass) .pass)⟩
def Fo:aW:=⟨1,1,(.seq (.expr (.call 40 (dZ aM))) (.seq (.ret (bH .oH (.lit (.tup [(.tup [(.str "lower"),(.int 0)]),(.tup [(.str "upper"),(.int 2)])])) aM)) .pass))⟩
noncomputable abbrev Oe(T:Nat->Option aW):Prop:=T 18=some Z8/\T 39=some Fz
noncomputable abbrev Hf(T:Nat->Option aW):Prop:=T 19=some Fo/\T 40=some U5
def Av:aW:=⟨2,2,(.seq (.ret (bH (.cmp .Eq) (cY .len (.comp [1] 3 (.one 2) (.eU aM) (dD .NotIn bg aM) bg)) (bc 0))) .pass)⟩
structure Ex(g g':G):Prop where
 len:g.length<=g'.length
 old:∀i,i<g.length->g'[i]?=g[i]?
theorem Ex.refl(g:G):Ex g g:=⟨az _,λ_ _=>rfl⟩
theorem Ex.trans{g g1 g2:G}(a:Ex g g1)(b:Ex g1 g2):Ex g g2:=⟨aG a.len b.len,λi h=>(b.old i (aC h a.len)).trans (a.old i h)⟩
theorem Ex.snoc(g:G)(o:O):Ex g (g++[o]):=⟨by simp,λi h=>aK h⟩
theorem Ex.at(h:Ex g g')(e:g[i]?=some o):g'[i]?=some o:=(h.old i (i8 e)).trans e
theorem Ex.gr(h:Ex g g')(d:Nat):Gr d g g':=⟨h.len,λi _ h2=>h.old i h2⟩
theorem Ex.draw{d:Nat}(h:Ex g g')(D0:m7 g d):m7 g' d:=by
 obtain⟨s,p,b,r,xs,e1,e2,q⟩:=D0.ex;exact⟨s,p,b,r,xs,h.at e1,h.at e2,q⟩
inductive E2(g:G):Nat->D->D->Prop
 |br {n:Nat}:E2 g n .br .br
 |bl {n:Nat} (b:Bool):E2 g n (.bl b) (.bl b)
 |int {n:Nat} (i:Int):E2 g n (.int i) (.int i)
 |str {n:Nat} (x:Str):E2 g n (.str x) (.str x)
 |tup {n:Nat} {l m:List D} (hl:l.length=m.length) (h:∀(i:Nat) x y,l[i]?=some x->m[i]?=some y->E2 g n x y) (hz:m.length<=1000):E2 g (n+1) (.tup l) (.tup m)
 |lst {n a b:Nat} {l m:List D} (ha:g[a]?=some (.lst l)) (hb:g[b]?=some (.lst m)) (hl:l.length=m.length) (h:∀(i:Nat) x y,l[i]?=some x->m[i]?=some y->E2 g n x y) (hz:m.length<=1000):E2 g (n+1) (.ref a) (.ref b)
theorem E2.ex(e:Ex g g'){x:D}(h:E2 g n x y):E2 g' n x y:=by
 induction h with
 |br=>exact .br
 |bl b=>exact .bl b
 |int i=>exact .int i
 |str x=>exact .str x
 |tup hl h hz ih=>exact .tup hl ih hz
 |lst ha hb hl h hz ih=>exact .lst (e.at ha) (e.at hb) hl ih hz
section
variable{T:Nat->Option aW}
theorem NK(h6:T 6=some yk){i:Int}(h:Q (.bl true) g):d0 T (k+1) 6 [.int i] g Q E:=by
 refine call_of h6 rfl ?_;dsimp[yk,d6,List.replicate];left;refine gM (c:="int") (b:=true) ∅ rfl ?_;left;refine gM (c:="bool") (b:=false) ∅ rfl ?_;left;exact h
def Me:MS:=match G0.body with
 |.seq _ (.seq _ (.seq _ (.seq _ (.seq _ b))))=>b
 |x=>x
theorem Kl(h6:T 6=some yk)(h7:T 7=some G0):∀(n:Nat) {k:Nat} {g:G} {x y:D} {Q:KD} {E:KX},E2 g n x y->(∀g',Ex g g'->Q (.bl true) g')->d0 T (k+n+2) 7 [x,y] g Q E:=by
 have vE:∀(n:Nat),(∀{k:Nat} {g:G} {x y:D} {Q:KD} {E:KX},E2 g n x y->(∀g',Ex g g'->Q (.bl true) g')->d0 T (k+n+2) 7 [x,y] g Q E) ->
   ∀{k:Nat} {g:G} {x y:D} {l m:List D} {Q:KD} {E:KX},(∀g',Ex g g'->J8 g' x=some l)->(∀g',Ex g g'->J8 g' y=some m)->l.length=m.length->m.length<=1000->(∀(i:Nat) x y,l[i]?=some x->m[i]?=some y->E2 g n x y)->(∀g',Ex g g'->Q (.bl true) g') ->
   wpS (d0 T (k+n+2)) Me ⟨λ_ g'=>Q .br g',Q,λ_ _=>False,λ_ _=>False⟩ [some x,some y] g E:=by
  intro n ih k g x y l m Q E hx hy hl hz hs hQ;have len:∀(z:D) (l:List D) (g':G) (Q':KD),J8 g' z=some l->Q' (.int l.length) g'->cF .len [z] g' Q':=λz l g' Q' e q=>⟨_,_,⟨rfl,.inl ⟨z,l,rfl,e,rfl⟩⟩,q⟩
  dsimp[Me,G0];refine tS (xR (xS (yp (yo (w_var rfl (len _ _ _ _ (hx g (Ex.refl g)) ?_))))));refine yo (w_var rfl (len _ _ _ _ (hy g (Ex.refl g)) ?_));refine JE ?_;rw[hl,aw rfl];left;refine J5 (b7 T _) (pE (b7 T _) ?_);refine yo (w_var rfl (len _ _ _ _ (hy g (Ex.refl g)) ?_));refine⟨_,rfl,by omega,by omega,k8 0 m.length,λi ys Z g'=>∃z w,ys=List.replicate i (.bl true)/\Z=[some y,some x,z,w]/\Ex g g',by rw[o6];exact hz,λi ys Z g' p=>⟨w6,?_⟩,⟨none,none,rfl,rfl,Ex.refl g⟩,λi z ys Z g' hz p=>?_,λys Z g' p=>?_⟩
  ·obtain⟨z,w,rfl,_⟩:=p;simp
  ·obtain⟨z,w,rfl,rfl,e⟩:=p;obtain⟨hi,rfl⟩:=B3 hz;have h1:l[i]?=some l[i]:=ao ();have h2:m[i]?=some m[i]:=ao hi;have a1:gh l (0+(i:Int))=some l[i]:=by rw[fA];exact B4 h1
   have a2:gh m (0+(i:Int))=some m[i]:=by rw[fA];exact B4 h2
   show dh _ _ _ _ _ _;refine AW (lY (zW (V7 (yp (w_var rfl (w_var rfl ⟨_,_,⟨rfl,.inl ⟨_,l,_,rfl,hx g' e,a1⟩⟩,?_⟩))))));refine V7 (yp (w_var rfl (w_var rfl ⟨_,_,⟨rfl,.inl ⟨_,m,_,rfl,hy g' e,a2⟩⟩,?_⟩)));refine AU (ih ((hs i _ _ h1 h2).ex e) λg2 e2=>?_);exact⟨_,_,by rw[List.replicate_succ'],rfl,e.trans e2⟩
  ·obtain⟨z,w,rfl,rfl,e⟩:=p;refine AI (b0 b9) (v:=true) ?_ (hQ _ (e.trans (Ex.snoc _ _)));have:List.replicate (k8 0 m.length).length (D.bl true)=(List.replicate (k8 0 m.length).length true).map D.bl:=by simp
   rw[this,Y7];simp
 intro n
 induction n with
 |zero =>
  intro k g x y Q E h hQ;have h0:=hQ g (Ex.refl g);cases h with
  |br =>
   refine call_of h7 rfl ?_;dsimp[G0,d6,List.replicate];left;exact h0
  |bl b=>exact Mf h7 (by simpa using h0)
  |int i =>
   refine call_of h7 rfl ?_;dsimp[G0,d6,List.replicate];left
   try show wpS _ _ _ _ _ _
   left;refine gM (c:="bool") (b:=false) ∅ rfl ?_;left;refine gM (c:="int") (b:=true) ∅ rfl ?_;left;refine NK h6 ?_;left;simpa using h0
  |str x =>
   refine call_of h7 rfl ?_;dsimp[G0,d6,List.replicate];left
   try show wpS _ _ _ _ _ _
   left;refine gM (c:="bool") (b:=false) ∅ rfl ?_;left;refine gM (c:="int") (b:=false) ∅ rfl ?_;left;refine gM (c:="str") (b:=true) ∅ rfl ?_;left;refine gM (c:="str") (b:=true) ∅ rfl ?_;left;simpa using h0
 |succ n ih =>
  intro k g x y Q E h hQ;have h0:=hQ g (Ex.refl g);cases h with
  |br =>
   refine call_of h7 rfl ?_;dsimp[G0,d6,List.replicate];left;exact h0
  |bl b=>exact Mf h7 (by simpa using h0)
  |int i =>
   refine call_of h7 rfl ?_;dsimp[G0,d6,List.replicate];left
   try show wpS _ _ _ _ _ _
   left;refine gM (c:="bool") (b:=false) ∅ rfl ?_;left;refine gM (c:="int") (b:=true) ∅ rfl ?_;left;refine NK h6 ?_;left;simpa using h0
  |str x =>
   refine call_of h7 rfl ?_;dsimp[G0,d6,List.replicate];left
   try show wpS _ _ _ _ _ _
   left;refine gM (c:="bool") (b:=false) ∅ rfl ?_;left;refine gM (c:="int") (b:=false) ∅ rfl ?_;left;refine gM (c:="str") (b:=true) ∅ rfl ?_;left;refine gM (c:="str") (b:=true) ∅ rfl ?_;left;simpa using h0
  |@tup _ l m hl hs hz =>
   refine call_of h7 rfl ?_;have body:=vE n ih (k:=k) (x:=.tup l) (y:=.tup m) (E:=E) (λ_ _=>rfl) (λ_ _=>rfl) hl hz hs hQ;dsimp[G0,d6,List.replicate];left
   try show wpS _ _ _ _ _ _
   left;refine gM (c:="bool") (b:=false) ∅ rfl ?_;left;refine gM (c:="int") (b:=false) ∅ rfl ?_;left;refine gM (c:="str") (b:=false) ∅ rfl ?_;left;refine gM (c:="tuple") (b:=true) ∅ rfl ?_;left;refine gM (c:="tuple") (b:=true) ∅ rfl ?_;left;refine fC rfl ?_;left;refine gM (c:="list") (b:=false) ∅ rfl ?_;left;refine gM (c:="list") (b:=false) ∅ rfl ?_;left;refine fC rfl (C7 ?_);exact body
  |@lst _ a b l m ha hb hl hs hz =>
   refine call_of h7 rfl ?_;have body:=vE n ih (k:=k) (x:=.ref a) (y:=.ref b) (E:=E) (λg' e=>b0 (e.at ha)) (λg' e=>b0 (e.at hb)) hl hz hs hQ;have ta:∀c,tG g (.ref a) c=some (c=="list"):=λc=>by simp only[tG,ha]
   have tb:∀c,tG g (.ref b) c=some (c=="list"):=λc=>by simp only[tG,hb]
   dsimp[G0,d6,List.replicate];left
   try show wpS _ _ _ _ _ _
   left;refine gM (c:="bool") (b:=false) ∅ (tb _) ?_;left;refine gM (c:="int") (b:=false) ∅ (tb _) ?_;left;refine gM (c:="str") (b:=false) ∅ (tb _) ?_;left;refine gM (c:="tuple") (b:=false) ∅ (tb _) ?_;left;refine gM (c:="tuple") (b:=false) ∅ (ta _) ?_;left;refine fC rfl ?_;left;refine gM (c:="list") (b:=true) ∅ (tb _) ?_;left;refine gM (c:="list") (b:=true) ∅ (ta _) ?_;left;refine fC rfl (C7 ?_);exact body
end
def jW(a b:List Int):Bool:=a.all λs=>b.any λm=>m==s
section
variable{T:Nat->Option aW}{d:Nat}
theorem Kx(zz:T 15=some Ai){a b:List Int}(ha:a.length<=1000)(h:∀g',Ex g g'->Q (.bl (jW a b)) g'):d0 T (k+1) 15 [.tup (a.map .int),.tup (b.map .int)] g Q E:=by
 refine call_of zz rfl ?_;dsimp[Ai,d6,List.replicate];left;refine J5 (b7 T _) (wk (b7 T _) ?_);left;refine⟨_,rfl,_,λi ys Z g'=>∃z w,ys=((a.take i).map λs=>b.any λm=>m==s).map D.bl/\Z=[some (.tup (b.map .int)),z,w]/\g'=g,by simpa using ha,λi ys Z g' p=>⟨w6,?_⟩,⟨none,none,rfl,rfl,rfl⟩,λi x ys Z g' hx p=>?_,λys Z g' p=>?_⟩
 ·obtain⟨z,w,rfl,_⟩:=p;simp;omega
 ·obtain⟨z,w,rfl,rfl,rfl⟩:=p;rw[aj,aa] at hx;obtain⟨s,hs,rfl⟩:=hx;show dh _ _ _ _ _ _;left;refine tE (Fj ?_);refine⟨_,_,?_,rfl,rfl⟩;have hi:=(ak.mp hs)
  rw[bE,hs];simp
 ·obtain⟨z,w,rfl,rfl,rfl⟩:=p;refine AI (b0 b9) (Y7 _) ?_;have e:((a.take (a.map D.int).length).map λs=>b.any λm=>m==s).all id=jW a b:=by
   rw[ai,bK];simp[jW,List.all_map]
  rw[e];exact h _ (Ex.snoc _ _)
theorem aV2(Dm:T 17=some Av){a b:List Int}(ha:a.length<=1000)(h:∀g',Ex g g'->Q (.bl (jW a b)) g'):d0 T (k+1) 17 [.tup (a.map .int),.tup (b.map .int)] g Q E:=by
 refine call_of Dm rfl ?_;dsimp[Av,d6,List.replicate];left;refine J5 (b7 T _) (wk (b7 T _) ?_);left;refine⟨_,rfl,_,λi ys Z g'=>∃z w,ys=((a.take i).filter λs=>!(b.any λm=>m==s)).map D.int/\ys.length<=i/\Z=[some (.tup (b.map .int)),z,w]/\g'=g,by simpa using ha,λi ys Z g' p=>⟨w6,?_⟩,⟨none,none,rfl,by simp,rfl,rfl⟩,λi x ys Z g' hx p=>?_,λys Z g' p=>?_⟩
 ·obtain⟨z,w,_,h1,_⟩:=p;exact h1
 ·obtain⟨z,w,e,hl,rfl,rfl⟩:=p;rw[aj,aa] at hx;obtain⟨s,hs,rfl⟩:=hx;show dh _ _ _ _ _ _;left;refine Y4 (Fj ?_);left;cases hc:(b.any λm=>m==s) with
  |true =>
   refine pF ⟨_,_,?_,by omega,rfl,rfl⟩;rw[bE,hs,e];simp[hc]
  |false =>
   refine lY (w_var rfl ⟨_,_,?_,by simp;omega,rfl,rfl⟩);rw[bE,hs,e];simp[hc]
 ·obtain⟨z,w,e,hl,rfl,rfl⟩:=p;rw[ai,bK] at e;refine E1 (b0 b9) ?_;left;have e2:decide ((ys.length:Int)=0)=jW a b:=by
   rw[e,ai,aS,cZ];unfold jW;rw[bG];constructor
   ·intro h0 s hs;have h1:(a.filter λs=>!(b.any λm=>m==s))=[]:=dP ();rw[cX] at h1;have:=h1 s hs;simpa using this
   ·intro h0;have h1:(a.filter λs=>!(b.any λm=>m==s))=[]:=by
     rw[cX];intro s hs;simpa using h0 s hs
    rw[h1]
    rfl
  rw[e2];exact h _ (Ex.snoc _ _)
theorem VP{x:Str}(hx:PyData.strOk x=true)(h:kb (decide (x="lower")||decide (x="upper"))):qG g (.str x) (.tup [.str "lower",.str "upper"]) kb:=by
 refine⟨_,.inr ⟨_,[.str "lower",.str "upper"],.str x,rfl,rfl,rfl,by simp only[PyData.canLayAll0,PyData.canLay0,Bool.and_true];decide +kernel,by simp only[PyData.canLay0];exact hx,rfl⟩,?_⟩;have e:∀y:Str,PyData.eqv (.str y) (.str x)=decide (x=y):=λy=>by
  simp only[PyData.eqv];rw[aS,eG,cZ];exact eq_comm
 simp only[List.any_cons,List.any_nil,Bool.or_false,e];exact h
theorem aB8(Ri:T 40=some U5){x:Str}(ho:PyData.strOk x=true)(h1:x="lower"\/x="upper"->Q .br g)(h3:x≠"lower"->x≠"upper"->E ⟨"BadSide"⟩ g):d0 T (k+1) 40 [.str x] g Q E:=by
 refine call_of Ri rfl ?_;dsimp[U5,d6,List.replicate];left;refine Y4 (VP ho ?_);left;by_cases e:x="lower"\/x="upper"
 ·refine fC (by rw[Bool.not_eq_false',du,cZ,cZ];exact e) ?_;left;exact h1 e
 ·refine iu (by rw[gZ,Bool.or_eq_false_iff,cy,cy];exact not_or.mp e) ?_;left;exact h3 (λz=>e (.inl z)) (λz=>e (.inr z))
theorem L0(mj:Hf T){x:Str}(ho:PyData.strOk x=true)(h1:x="lower"->Q (.int 0) g)(h2:x="upper"->Q (.int 2) g)(h3:x≠"lower"->x≠"upper"->E ⟨"BadSide"⟩ g):d0 T (k+2) 19 [.str x] g Q E:=by
 refine call_of mj.1 rfl ?_;dsimp[Fo,d6,List.replicate];left;refine aB8 mj.2 ho (λhx=>?_) h3;left;by_cases e1:x="lower"
 ·have el:R8 [.tup [.str "lower",.int 0],.tup [.str "upper",.int 2]] x=some (.int 0):=by simp[R8,e1]
  refine JI el ?_;exact h1 e1
 ·have e2:x="upper":=hx.resolve_left e1;have el:R8 [.tup [.str "lower",.int 0],.tup [.str "upper",.int 2]] x=some (.int 2):=by simp[R8,e1];simp[e2]
  refine JI el ?_;exact h2 e2
def CB(c:b8):Prop:=c.lm.length<=8/\c.um.length<=8
theorem Q3(h1:NF T)(h2:T 2=some L9)(sU:T 12=some E6)(uC:Oe T)(ha:g[a]?=some (.lst (cs.map b8.d)))(hz:cs.length<=1000)(hm:9<cs.length->E ⟨"TooMany"⟩ g)(hb:cs.length<=9->cs.all u3=false->E ⟨"BadCoin"⟩ g)(h:cs.length<=9->cs.all u3=true->Q .br g):d0 T (k+6) 18 [.ref a] g Q E:=by
 refine call_of uC.1 rfl ?_;dsimp[Z8,d6,List.replicate];left;rw[ai];refine if2 (λc=>?_) (λc=>?_)
 ·left;exact hm ()
 have h9:cs.length<=9:=by omega
 left;refine x6 (b7 T _) (lr (b7 T _) ?_);left;refine⟨a,_,rfl,b0 ha,cs.map b8.d,λi Z g'=>∃z,Z=[some (.ref a),z]/\g'=g/\(cs.take i).all u3=true,λi Z g' p=>?_,⟨none,rfl,rfl,by simp⟩,λi x Z g' hx p=>?_,λZ g' p=>?_⟩
 ·obtain⟨z,rfl,rfl,_⟩:=p;exact o8 (b0 ha)
 ·obtain⟨z,rfl,rfl,hg⟩:=p;rw[aj,aa] at hx;obtain⟨c,hc,rfl⟩:=hx;refine j8 ?_
  try show wpS _ _ _ _ _ _
  left;refine call_of uC.2 rfl ?_;dsimp[Fz,d6,List.replicate];left;refine aJ0 h1 h2 sU ?_;left;cases e:u3 c with
  |true =>
   left;refine⟨_,rfl,rfl,?_⟩;rw[bE,hc];simp[hg,e]
  |false =>
   refine Kh ?_;left;refine hb h9 ?_;rw[List.all_eq_false];exact⟨c,aD hc,by rw[e];decide⟩
 ·obtain⟨z,rfl,rfl,hg⟩:=p;rw[ai,bK] at hg;exact h h9 hg
end
def A2(f:Int)(c:b8):Int:=if f=0 then c.lo else c.up
def tH(f:Int)(c:b8):List Int:=if f=0 then c.lm else c.um
theorem CB.Pl{c:b8}(h:CB c)(f:Int):(tH f c).length<=1000:=by
 unfold tH;split
 ·have:=h.1;omega
 ·have:=h.2;omega
theorem L3(hf:f=0\/f=2)(c:b8):gh [D.int c.lo,D.tup (c.lm.map .int),D.int c.up,D.tup (c.um.map .int),D.int c.yr] f=some (.int (A2 f c)):=by
 rcases hf with rfl|rfl<;>rfl
theorem ND(hf:f=0\/f=2)(c:b8):gh [D.int c.lo,D.tup (c.lm.map .int),D.int c.up,D.tup (c.um.map .int),D.int c.yr] (f+1)=some (.tup ((tH f c).map .int)):=by
 rcases hf with rfl|rfl<;>rfl
theorem a46(ha:g[a]?=some (.lst l))(hb:g[b]?=some (.lst l))(h:∀x∈l,(∃i,x=.int i)\/∃y,x=.str y)(hz:l.length<=1000):E2 g 1 (.ref a) (.ref b):=by
 refine .lst ha hb rfl (λi x y hx hy=>?_) hz;rw[hx] at hy;cases hy;rcases h x (aD hx) with⟨j,rfl⟩|⟨y,rfl⟩
 ·exact .int _
 ·exact .str _
def cD:b8:=⟨0,[],0,[],0⟩
noncomputable abbrev bN(cs:List b8)(i:Nat):b8:=cs.getD i cD
theorem E0{c:b8}(h:cs[i]?=some c):bN cs i=c:=by simp[bN,List.getD,h]
inductive RW where
 |cG|lower|upper
def RW.s:RW->Str
 |.cG=>"coin"
 |.lower=>"lower"
 |.upper=>"upper"
structure cQ where
 w:RW
 x:Int
 y:Int
def cQ.d(r:cQ):D:=.tup [.str r.w.s,.int r.x,.int r.y]
def meant(cs:List b8)(w:RW)(x:Int)(i:Nat):Bool:=match w with
 |.cG=>decide ((i:Int)=x)
 |.lower=>decide ((bN cs i).lo=x)
 |.upper=>decide ((bN cs i).up=x)
def fQ(cs:List b8)(w:RW)(x:Int):List Nat:=(List.range cs.length).filter (meant cs w x)
def d4(l:List Nat):List D:=l.map λ(i:Nat)=>D.int i
def qu(l:List Nat):Nat:=(l.map (2 ^ ·)).sum
def je(n:Nat)(p:Nat->Bool):Nat:=qu ((List.range n).filter p)
theorem Nc(n:Nat)(p:Nat->Bool):je (n+1) p=je n p+if p n=true then 2 ^ n else 0:=by
 unfold je qu;rw[eZ,de,cV,List.sum_append]
 congr 1
 cases h:p n<;>simp[List.filter_cons,h]
theorem SO(n:Nat)(p:Nat->Bool):je n p<2 ^ n:=by
 induction n with
 |zero=>simp[je,qu]
 |succ n ih =>
  rw[Nc,vn];split<;>omega
theorem MA(n:Nat)(p:Nat->Bool)(i:Nat):(je n p).testBit i=(decide (i<n)&&p i):=by
 induction n with
 |zero=>simp[je,qu]
 |succ n ih =>
  have hl:=SO n p;rw[Nc];by_cases hp:p n=true
  ·rw[aH hp,Nat.add_comm];rcases dw i n with h|h|h
   ·rw[Nat.testBit_two_pow_add_gt h,ih,aw h,aw ()]
   ·subst h;rw[Nat.testBit_two_pow_add_eq,ih];simp[hp]
   ·rw[Nat.testBit_lt_two_pow (aC (show 2 ^ n+je n p<2 ^ (n+1) by rw[vn];omega) (jR () h)),aB ()]
    rfl
  ·rw[aE hp,Nat.add_zero,ih];by_cases h:i=n
   ·subst h;simp[hp]
   ·rw[show decide (i<n)=decide (i<n+1) from cK.mpr ()]
theorem Et(a b:Nat):Builtin.bitAnd (a:Int) (b:Int)=((a &&& b:Nat):Int):=by
 unfold Builtin.bitAnd;rw[aw (Om a),aw (Om b)];simp
theorem bC3(a b:Nat):Builtin.bitOr (a:Int) (b:Int)=((a |||b:Nat):Int):=by
 unfold Builtin.bitOr Builtin.bitAnd;have h1:∀x:Nat,decide (0<=Builtin.bitNot (x:Int))=false:=λx=>by unfold Builtin.bitNot;exact aB ()
 have h2:∀x:Nat,Builtin.bitNot (Builtin.bitNot (x:Int))=x:=λx=>by unfold Builtin.bitNot;omega
 rw[h1,h1];simp only[h2];simp
theorem bI1(a b:Nat):((a &&& b:Nat)≠0)↔∃i,a.testBit i=true/\b.testBit i=true:=by
 constructor
 ·intro h;obtain⟨i,hi⟩:=Nat.exists_testBit_of_ne_zero h;rw[Nat.testBit_and,aP] at hi;exact⟨i,hi⟩
 ·rintro⟨i,h1,h2⟩ e;have:(a &&& b).testBit i=true:=by rw[Nat.testBit_and,h1,h2];rfl
  rw[e,Nat.zero_testBit] at this;cases this
theorem zY(s n:Nat)(p:Nat->Bool):((((s &&& je n p:Nat):Int) != 0)=(List.range n).any λi=>s.testBit i&&p i):=by
 rw[aS,bne_iff_ne,aO];have:(((s &&& je n p:Nat):Int)≠0)↔((s &&& je n p:Nat)≠0):=by omega
 rw[this,bI1];constructor
 ·rintro⟨i,h1,h2⟩;rw[MA,aP,bP] at h2;exact⟨i,aN.mpr h2.1,by rw[h1,h2.2];rfl⟩
 ·rintro⟨i,h1,h2⟩;rw[aP] at h2;exact⟨i,h2.1,by rw[MA,aw (aN.mp h1),h2.2];rfl⟩
def mw(a b:b8):Bool:=(decide (a.lo=b.lo)&&!jW a.lm b.lm)||(decide (a.up=b.up)&&!jW a.um b.um)
def lg(a b:b8):Bool:=decide (0<b.yr)&&decide (b.yr<a.yr)
def F9(cs:List b8)(S:Nat->Bool)(p:Nat):Bool:=(List.range cs.length).any λi=>S i&&mw (bN cs i) (bN cs p)
def F0(cs:List b8)(S:Nat->Bool)(p:Nat):Bool:=(List.range cs.length).any λi=>S i&&lg (bN cs i) (bN cs p)
def ql(cs:List b8)(S:Nat->Bool)(p:Nat)(d:Int):Bool :=
 ((List.range cs.length).any λi=>(S i||decide (i=p))&&decide ((bN cs i).lo=d))&&((List.range cs.length).any λi=>!S i&&decide ((bN cs i).lo=d))
def C0(cs:List b8)(S:Nat->Bool)(p:Nat):Nat:=((u6 (cs.map b8.lo)).filter (ql cs S p)).length
def O4(cs:List b8)(rs:List cQ)(S:Nat->Bool)(p:Nat):Bool:=rs.all λr=>!meant cs r.w r.y p||(List.range cs.length).any λi=>S i&&meant cs r.w r.x i
def fault(cs:List b8)(v:Int)(rs:List cQ)(S:Nat->Bool)(p:Nat):Str :=
 if F9 cs S p=true then "wear" else if F0 cs S p=true then "year" else if v<C0 cs S p then "anvil" else if O4 cs rs S p=true then "" else "rule"
def zC(x:Str):D:=if x="" then .br else .str x
theorem aM9{S S':Nat->Bool}(h:∀i,i<cs.length->S i=S' i):fault cs v rs S p=fault cs v rs S' p:=by
 have a:∀f:Nat->Bool->Bool,((List.range cs.length).any λi=>f i (S i))=(List.range cs.length).any λi=>f i (S' i):=λf=>by
  rw[aS,aO,aO];constructor
  ·rintro⟨i,h1,h2⟩;exact⟨i,h1,by rw[<- h i (aN.mp h1)];exact h2⟩
  ·rintro⟨i,h1,h2⟩;exact⟨i,h1,by rw[h i (aN.mp h1)];exact h2⟩
 have b1:F9 cs S p=F9 cs S' p:=a λi t=>t&&mw (bN cs i) (bN cs p);have b2:F0 cs S p=F0 cs S' p:=a λi t=>t&&lg (bN cs i) (bN cs p);have b3:ql cs S p=ql cs S' p:=by
  funext d
  unfold ql;rw[a λi t=>(t||decide (i=p))&&decide ((bN cs i).lo=d),a λi t=>!t&&decide ((bN cs i).lo=d)]
 have b4:O4 cs rs S p=O4 cs rs S' p:=by
  unfold O4
  congr 1
  funext r
  rw[a λi t=>t&&meant cs r.w r.x i]
 unfold fault C0;rw[b1,b2,b3,b4]
def R7:aW:=⟨2,2,(.seq (.ifs (.eI (.fo (.call 1 (fe ba (bc 0) (bH (.bin .Sub) (cY .len aM) (bc 1)))))) (.seq (.raise "NoPlace" (dZ (fh "no coin has that place"))) .pass) .pass) .pass)⟩
def X9:aW:=⟨3,4,(.seq (.ifs (.eI (.fo (.call 38 (dZ bg)))) (.seq (.ret (.prim .lst .nil)) .pass) .pass) (.seq (.ifs (dD .Eq ba (fh "coin")) (.seq (.ret (.comp [2] 3 (.one 2) (.eQ (cY .len aM)) (dD .Eq bg aM) bg)) .pass) .pass) (.seq (.set 3 (.call 19 (dZ ba))) (.seq (.ret (.comp [3,2] 5 (.many [3,4]) (.lX aM) (dD .Eq (cH cS aM) ba) bz)) .pass))))⟩
def EG:aW:=⟨2,3,(.seq (.expr (.call 18 (dZ aM))) (.seq (.set 2 (.call 19 (dZ ba))) (.seq (.ret (.ig [2] 3 (.one 2) (.eU aM) .no (cH bg aM))) .pass)))⟩
def Fp:aW:=⟨2,5,(.seq (.mx (.many [2,3,4]) ba) (.seq (.ifs (.jY (dD .NotIn bg (.lit (.tup [(.str "coin"),(.str "lower"),(.str "upper")]))) (dD .Eq bz cS)) (.seq (.ret (.lit (.bl false))) .pass) .pass) (.seq (.ret (.dB (bH (.cmp .NotEq) (.call 74 (fe aM bg bz)) (.prim .lst .nil)) (bH (.cmp .NotEq) (.call 74 (fe aM bg cS)) (.prim .lst .nil)))) .pass)))⟩
def Z7:aW:=⟨2,4,(.seq (.dq (.many [2,3]) (.lX ba) (.seq (.ifs (.eI (.fo (.call 88 (dA aM bz)))) (.seq (.raise "BadRule" (dZ (.prim .ni (fe (fh "rule ") (cY .fv bg) (fh " is none for these coins"))))) .pass) .pass) .pass)) .pass)⟩
def Aw:aW:=⟨1,1,(.seq (.ret (cY .sum (.comp [] 2 (.one 1) (.eU aM) .no (bH (.bin .LShift) (bc 1) ba)))) .pass)⟩
def X8:aW:=⟨2,2,(.seq (.ret (bH (.bin .BitOr) aM (bH (.bin .LShift) (bc 1) ba))) .pass)⟩
def Fs:aW:=⟨2,4,(.seq (.dq (.one 2) (.eU (.lit (.tup [(.str "lower"),(.str "upper")]))) (.seq (.set 3 (.call 19 (dZ bg))) (.seq (.ifs (.dB (dD .Eq (cH aM bz) (cH ba bz)) (.eI (.fo (.call 15 (dA (cH aM (bH (.bin .Add) bz (bc 1))) (cH ba (bH (.bin .Add) bz (bc 1)))))))) (.seq (.ret (.lit (.bl true))) .pass) .pass) .pass))) (.seq (.ret (.lit (.bl false))) .pass))⟩
def GC:aW:=⟨2,2,(.seq (.ret (.chain .Lt .Lt (bc 0) (cH ba (bc 4)) (cH aM (bc 4)))) .pass)⟩
def Z4:aW:=⟨1,1,(.seq (.ret (.comp [0] 3 (.one 2) (.eU aM) .no (.call 90 (dZ (.comp [2] 4 (.many [2,3]) (.lX aM) (.fo (.call 92 (dA bz aM))) bg))))) .pass)⟩
def W7:aW:=⟨1,1,(.seq (.ret (.comp [0] 3 (.one 2) (.eU aM) .no (.call 90 (dZ (.comp [2] 4 (.many [2,3]) (.lX aM) (.fo (.call 93 (dA bz aM))) bg))))) .pass)⟩
def FC:aW:=⟨1,1,(.seq (.ret (.comp [0] 3 (.one 2) (.eU (.call 20 (dA aM (fh "lower")))) .no (.call 90 (dZ (.call 74 (fe aM (fh "lower") bg)))))) .pass)⟩
def T6:aW:=⟨2,8,(.seq (.set 2 (.comp [] 2 (.one 1) (.eU aM) .no (.prim .lst .nil))) (.seq (.dq (.many [3,4,5]) (.eU ba) (.seq (.set 6 (.call 90 (dZ (.call 74 (fe aM bz cS))))) (.seq (.dq (.one 7) (.eU (.call 74 (fe aM bz dF))) (.seq (.ifs (dD .NotIn eL (cH bg fN)) (.seq (.expr (.dG .append (cH bg fN) (dZ eL))) .pass) .pass) .pass)) .pass))) (.seq (.ret bg) .pass)))⟩
def K2:aW:=⟨3,3,(.seq (.expr (.call 18 (dZ aM))) (.seq (.expr (.call 42 (dZ ba))) (.seq (.expr (.call 89 (dA aM bg))) .pass)))⟩
def Fm:aW:=⟨3,3,(.seq (.expr (.call 98 (fe aM ba bg))) (.seq (.ret (.make "Bounds" 113 (fe aM ba bg))) .pass))⟩
def FD:aW:=⟨3,5,(.seq (.set 3 (.call 91 (dA ba bg))) (.seq (.set 4 (bH (.bin .Sub) (cY (.fld "full") aM) ba)) (.seq (.ret (cY .len (.comp [4,3] 4 (.one 3) (.eU (cY (.fld "lower_dies") aM)) (.dB (.fo (bH (.bin .BitAnd) bz ba)) (.fo (bH (.bin .BitAnd) bz aM))) bz))) .pass)))⟩
def FF:aW:=⟨3,3,(.seq (.ifs (.fo (bH (.bin .BitAnd) ba (cH (cY (.fld "worn_by_place") aM) bg))) (.seq (.ret (fh "wear")) .pass) .pass) (.seq (.ifs (.fo (bH (.bin .BitAnd) ba (cH (cY (.fld "later_by_place") aM) bg))) (.seq (.ret (fh "year")) .pass) .pass) (.seq (.ifs (dD .Gt (.call 100 (fe aM ba bg)) (cY (.fld "room") aM)) (.seq (.ret (fh "anvil")) .pass) .pass) (.seq (.ifs (.eI (.fo (cY .all (.comp [1] 3 (.one 2) (.eU (cH (cY (.fld "needed_by_place") aM) bg)) .no (bH (.bin .BitAnd) aM bg))))) (.seq (.ret (fh "rule")) .pass) .pass) (.seq (.ret (.lit .br)) .pass)))))⟩
def Z9:aW:=⟨4,4,(.seq (.jf "size" ["Bounds"] aM (cY .len ba)) (.seq (.jf "full" ["Bounds"] aM (bH (.bin .Sub) (bH (.bin .LShift) (bc 1) (cY .len ba)) (bc 1))) (.seq (.jf "room" ["Bounds"] aM bg) (.seq (.jf "worn_by_place" ["Bounds"] aM (.call 94 (dZ ba))) (.seq (.jf "later_by_place" ["Bounds"] aM (.call 95 (dZ ba))) (.seq (.jf "lower_dies" ["Bounds"] aM (.call 96 (dZ ba))) (.seq (.jf "needed_by_place" ["Bounds"] aM (.call 97 (dA ba bz))) .pass)))))))⟩
section
variable{Z:S}{c:ME}
theorem E7(hP:j9 P)(Sh:S->Prop)(p:Nat->Bool)(w:Nat->D){k:IK}(hk:∀g',Ex g g'->k.Is l g')(hl:l.length<=1000)(h0:Sh (H9 Z f7 n))(hs:∀i d Z g',l[i]?=some d->Ex g g'->Sh Z->jT t d Z λcA=>dh P c cA g' (λb g3=>b=p i/\Ex g g3/\if b=true then aX P elt cA g3 (λy g4=>y=w i/\Ex g g4/\Sh cA) iV else Sh cA) iV)(hd:∀g',Ex g g'->Q (.ref g'.length) (g'++[.lst (((List.range l.length).filter p).map w)]))(hi:∀R:IK->G->Prop,R k g->gK P it Z g R E):aX P (.comp f7 n t it c elt) Z g Q E:=by
 refine J5 hP (hi _ ?_);refine⟨l,λi ys Z g'=>Ex g g'/\ys=((List.range i).filter p).map w/\Sh Z,hl,λi ys Z g' q=>⟨hk _ q.1,?_⟩,⟨Ex.refl _,rfl,h0⟩,λi x ys Z g' hx q=>?_,λys Z g' q=>?_⟩
 ·obtain⟨_,rfl,_⟩:=q;rw[ai];exact aG (df _ _) (by simp)
 ·obtain⟨e1,rfl,sh⟩:=q;refine A8 (λcA q=>u7 hP c _ _ _ _ _ _ (λb g3 q=>?_) (λ_ _ z=>z) q) (hs i x Z g' hx e1 sh);obtain⟨rfl,e3,q⟩:=q;have ef:((List.range (i+1)).filter p).map w=((List.range i).filter p).map w++if p i=true then[w i] else[]:=by
   rw[eZ,de,cV]
   congr 1
   cases z:p i<;>simp only[List.filter_cons,z,List.filter_nil]<;>rfl
  cases hp:p i with
  |true =>
   rw[hp] at q ef;rw[aH rfl] at q ⊢;refine d5 hP elt _ _ _ _ _ _ (λy g4 q=>?_) (λ_ _ z=>z) q;obtain⟨rfl,e4,sh⟩:=q;exact⟨e4,by rw[ef];rfl,sh⟩
  |false =>
   rw[hp] at q ef;rw[aE ∅] at q ⊢;exact⟨e3,by rw[ef];simp,q⟩
 ·obtain⟨e1,rfl,sh⟩:=q;exact hd g' e1
theorem comp_map(hP:j9 P)(Sh:S->Prop)(w:Nat->D){k:IK}(hk:∀g',Ex g g'->k.Is l g')(hl:l.length<=1000)(h0:Sh (H9 Z f7 n))(hs:∀i d Z g',l[i]?=some d->Ex g g'->Sh Z->jT t d Z λcA=>aX P elt cA g' (λy g4=>y=w i/\Ex g g4/\Sh cA) iV)(hd:∀g',Ex g g'->Q (.ref g'.length) (g'++[.lst ((List.range l.length).map w)]))(hi:∀R:IK->G->Prop,R k g->gK P it Z g R E):aX P (.comp f7 n t it .no elt) Z g Q E:=by
 refine E7 hP Sh (λ_=>true) w hk hl h0 (λi d Z g' hx e sh=>A8 (λcA q=>AW ⟨rfl,e,?_⟩) (hs i d Z g' hx e sh)) (λg' e=>?_) hi
 ·exact lY q
 ·have:=hd g' e
  rwa [show(List.range l.length).filter (λ_=>true)=List.range l.length from gk.mpr λ_ _=>rfl]
theorem O6(hP:j9 P){o:ME}(hl:d8 g a=some l)(h:∀Q:KD,Q (.ref a) g->aX P o Z g Q E):∀R:IK->G->Prop,R (.lst a) g->gK P (.eU o) Z g R E:=λR r=>lr hP (h _ ⟨a,l,rfl,hl,r⟩)
theorem Ej{o:ME}(hl:d8 g a=some l)(h:∀Q:KD,Q (.ref a) g->aX P o Z g Q E):∀R:IK->G->Prop,R (.qc a) g->gK P (.lX o) Z g R E:=λR r=>BR (h _ ⟨a,l,rfl,hl,r⟩)
theorem Ek(hP:j9 P){o:ME}(hj:j<=1000)(h:∀Q:KD,Q (.int (j:Nat)) g->aX P o Z g Q E):∀R:IK->G->Prop,R (.fix (k8 0 j)) g->gK P (.eQ o) Z g R E:=λR r=>pE hP (h _ ⟨j,rfl,by omega,by omega,by simpa using r⟩)
end
theorem EW(l:List Nat):d4 l=(l.map λ(i:Nat)=>(i:Int)).map D.int:=by simp[d4]
structure TB0(T:Nat->Option aW):Prop where
 nf:NF T
 h2:T 2=some L9
 sU:T 12=some E6
 uC:Oe T
 mj:Hf T
 zz:T 15=some Ai
 Rp:T 20=some EG
 qO:T 74=some X9
 Rg:T 88=some Fp
 Rf:T 89=some Z7
 uB:T 90=some Aw
 pX:T 91=some X8
 zy:T 92=some Fs
 Rc:T 93=some GC
 Rb:T 94=some Z4
 Ra:T 95=some W7
 QZ:T 96=some FC
 QY:T 97=some T6
 DC:T 100=some FD
 DB:T 101=some FF
 Dw:T 113=some Z9
structure TB(T:Nat->Option aW):Prop extends TB0 T where
 oZ:T 42=some C9
 qN:T 98=some K2
 QX:T 99=some Fm
instance{T:Nat->Option aW}:CoeOut (TB T) (TB0 T):=⟨TB.toTB0⟩
section
variable{T:Nat->Option aW}{d:Nat}
theorem ax5(h1:NF T)(Dh:T 83=some R7){i:Int}(ha:g[a]?=some (.lst l))(h:0<=i->i<l.length->Q .br g)(hn:¬(0<=i/\i<l.length)->E ⟨"NoPlace"⟩ g):d0 T (k+3) 83 [.ref a,.int i] g Q E:=by
 refine call_of Dh rfl ?_;dsimp[R7,d6,List.replicate];left;refine C4 (k:=k) h1 ?_;left;by_cases hi:0<=i/\i<l.length
 ·rw[aw hi.1,aw (show i<=(l.length:Int)-1 by omega)];left;exact h hi.1 hi.2
 ·have:(decide (0<=i)&&decide (i<=(l.length:Int)-1))=false:=by
   rw[yL,cy,cy];omega
  rw[this];left;exact hn hi
theorem au9(h1:NF T)(oZ:T 42=some C9){i:Int}(h:1<=i->i<=9->Q .br g)(hn:¬(1<=i/\i<=9)->E ⟨"BadAnvils"⟩ g):d0 T (k+3) 42 [.int i] g Q E:=by
 refine call_of oZ rfl ?_;dsimp[C9,d6,List.replicate];left;refine C4 (k:=k) h1 ?_;left;by_cases hi:1<=i/\i<=9
 ·rw[aw hi.1,aw hi.2];left;exact h hi.1 hi.2
 ·have:(decide (1<=i)&&decide (i<=9))=false:=by
   rw[yL,cy,cy];omega
  rw[this];left;exact hn hi
theorem N1(h1:NF T)(mj:Hf T)(qO:T 74=some X9)(ha:g[a]?=some (.lst (cs.map b8.d)))(hz:cs.length<=1000)(h:∀g' b,Ex g g'->g.length<=b->g'[b]?=some (.lst (d4 (fQ cs w x)))->Q (.ref b) g'):d0 T (k+3) 74 [.ref a,.str w.s,.int x] g Q E:=by
 refine call_of qO rfl ?_;dsimp[X9,d6,List.replicate];left;refine Lr (k:=k+1) h1 ?_;left;have fld:∀f:Int,(f=0\/f=2)->(∀i c,cs[i]?=some c->meant cs w x i=decide (A2 f c=x))->aX (d0 T (k+2)) (.comp [3,2] 5 (.many [3,4]) (.lX (.var 0)) (.fo (.prim (.cmp .Eq) (.cons (.prim .ix (.cons (.var 4) (.cons (.var 0) .nil))) (.cons (.var 1) .nil)))) (.var 3)) [some (.ref a),some (.str w.s),some (.int x),some (.int f)] g Q E:=λf hf hm=>by
  refine E7 (b7 T _) (λZ=>∃z2 z3 z4,Z=[some (.int f),some (.int x),z2,z3,z4]) (meant cs w x) (λi=>.int (i:Nat)) (l:=nK (cs.map b8.d)) (λg' e=>zP (b0 (e.at ha))) (by rw[Q1];simpa using hz) ⟨none,none,none,rfl⟩ (λi d Z g' hx e sh=>?_) (λg' e=>?_) (Ej (b0 ha) λQ q=>w_var (d:=.ref a) rfl q)
  ·obtain⟨z2,z3,z4,rfl⟩:=sh;obtain⟨dd,hd,rfl⟩:=Ad hx;rw[aj,aa] at hd;obtain⟨c,hc,rfl⟩:=hd;refine B1 rfl ?_
   try show dh _ _ _ _ _ _
   left;refine x5 (L3 hf c) ?_;left;rw[hm i c hc];refine⟨rfl,e,?_⟩;refine if2 (λ_=>?_) (λ_=>?_)
   ·left;exact⟨rfl,e,_,_,_,rfl⟩
   ·exact⟨_,_,_,rfl⟩
  ·rw[Q1,ai];exact h _ _ (e.trans (Ex.snoc _ _)) e.len b9
 cases w with
 |cG =>
  refine iu (by decide +kernel) ?_;left;refine E7 (b7 T _) (λZ=>∃z1 z2,Z=[some (.int x),z1,z2]) (meant cs .cG x) (λi=>.int (i:Nat)) (l:=k8 0 cs.length) (λg' e=>w6) (by rw[o6];exact hz) ⟨none,none,rfl⟩ (λi d Z g' hx e sh=>?_) (λg' e=>?_) (Ek (b7 T _) hz λQ q=>?_)
  ·obtain⟨z2,z3,rfl⟩:=sh;obtain⟨hi,rfl⟩:=B3 hx;rw[fA];refine j8 ?_
   try show dh _ _ _ _ _ _
   left;refine⟨rfl,e,?_⟩;refine if2 (λ_=>?_) (λ_=>?_)
   ·left;exact⟨rfl,e,_,_,rfl⟩
   ·exact⟨_,_,rfl⟩
  ·rw[o6];exact h _ _ (e.trans (Ex.snoc _ _)) e.len b9
  ·left;rw[ai];exact q
 |lower =>
  refine fC (by decide +kernel) ?_;left;refine L0 (k:=k) mj (by decide +kernel) (λ_=>?_) (λz=>absurd z (by decide +kernel)) (λz=>absurd rfl z);left;exact fld 0 (.inl rfl) λi c hc=>by simp only[meant,E0 hc];rfl
 |upper =>
  refine fC (by decide +kernel) ?_;left;refine L0 (k:=k) mj (by decide +kernel) (λz=>absurd z (by decide +kernel)) (λ_=>?_) (λ_ z=>absurd rfl z);left;exact fld 2 (.inr rfl) λi c hc=>by simp only[meant,E0 hc];rfl
theorem Q7(uB:T 90=some Aw){l:List Nat}(ha:g[a]?=some (.lst (d4 l)))(hz:l.length<=1000)(hl:∀i∈l,i<=1000)(h:∀g',Ex g g'->Q (.int (qu l:Nat)) g'):d0 T (k+1) 90 [.ref a] g Q E:=by
 refine call_of uB rfl ?_;dsimp[Aw,d6,List.replicate];left;refine comp_map (b7 T _) (λZ=>∃z0 z1,Z=[z0,z1]) (λi=>.int ((2 ^ (l.getD i 0):Nat):Int)) (l:=d4 l) (k:=.lst a) (λg' e=>o8 (b0 (e.at ha))) (by simpa[d4] using hz) ⟨none,none,rfl⟩ (λi d Z g' hx e sh=>?_) (λg' e=>?_) (O6 (b7 T _) (b0 ha) λQ q=>w_var (d:=.ref a) rfl q)
 ·obtain⟨z0,z1,rfl⟩:=sh;rw[d4,aj,aa] at hx;obtain⟨j,hj,rfl⟩:=hx;refine j8 ?_
  try show aX _ _ _ _ _ _
  left;have:=hl j (aD hj);refine FP ⟨by omega,by omega,by decide⟩ ?_;refine⟨?_,e,_,_,rfl⟩;simp[List.getD,hj]
 ·refine JV (ns:=(List.range l.length).map λi=>((2 ^ (l.getD i 0):Nat):Int)) (b0 (by rw[bR];simpa[d4] using b9)) ?_;have:((List.range l.length).map λi=>((2 ^ (l.getD i 0):Nat):Int)).sum=(qu l:Nat):=by
   have e2:(List.range l.length).map (λi=>((2 ^ (l.getD i 0):Nat):Int))=(l.map (2 ^ ·)).map λ(n:Nat)=>(n:Int):=by
    refine cU λi=>?_;rw[aj,aj,aj];by_cases hi:i<l.length
    ·rw[bC hi,ao hi];simp[List.getD,hi]
    ·rw[aQ (by simpa using hi),aQ ()]
     rfl
   rw[e2];unfold qu;generalize l.map (2 ^ ·)=m
   induction m with
   |nil=>rfl
   |cons x r ih=>simp[ih]
  rw[this];exact h _ (e.trans (Ex.snoc _ _))
theorem C6(pX:T 91=some X8){s:Nat}(hp:p<=1000)(h:Q (.int ((s |||2 ^ p:Nat):Int)) g):d0 T (k+1) 91 [.int (s:Nat),.int (p:Nat)] g Q E:=by
 refine call_of pX rfl ?_;dsimp[X8,d6,List.replicate];left;refine FP ⟨by omega,by omega,by decide⟩ ?_;left;refine WX ?_;have e:(1:Int)*2 ^ ((p:Nat):Int).toNat=((2 ^ p:Nat):Int):=by simp
 rw[e,bC3];exact h
end
section
variable{T:Nat->Option aW}{d:Nat}
theorem LO{c:b8}(h:CB c):c.lm.length<=1000/\c.um.length<=1000:=⟨aG h.1 ∅,aG h.2 ∅⟩
theorem aH4(hT:TB0 T){c e:b8}(hc:CB c)(h:∀g',Ex g g'->Q (.bl (mw c e)) g'):d0 T (k+3) 92 [c.d,e.d] g Q E:=by
 refine call_of hT.zy rfl ?_;dsimp[Fs,d6,List.replicate];left;refine x6 (b7 T _) (wk (b7 T _) ?_);left;refine⟨_,rfl,_,λi Z g'=>Ex g g'/\(∃z2 z3,Z=[some c.d,some e.d,z2,z3])/\(1<=i->(decide (c.lo=e.lo)&&!jW c.lm e.lm)=false)/\(2<=i->(decide (c.up=e.up)&&!jW c.um e.um)=false),λ_ _ _ _=>w6,⟨Ex.refl _,⟨none,none,rfl⟩,λz=>absurd z (),λz=>absurd z ()⟩,λi x Z g' hx q=>?_,λZ g' q=>?_⟩
 ·obtain⟨e1,⟨z2,z3,rfl⟩,q1,q2⟩:=q;refine j8 ?_
  try show wpS _ _ _ _ _ _
  match i,hx with
  |0,hx =>
   cases hx;left;refine L0 (k:=k) hT.mj (by decide +kernel) (λ_=>?_) (λz=>absurd z (by decide +kernel)) (λz=>absurd rfl z);left;refine x5 (l:=[.int c.lo,.tup (c.lm.map .int),.int c.up,.tup (c.um.map .int),.int c.yr]) rfl ?_;left;refine x5 (l:=[.int e.lo,.tup (e.lm.map .int),.int e.up,.tup (e.um.map .int),.int e.yr]) rfl ?_;left;refine if2 (λh1=>?_) (λh1=>?_)
   ·left;refine x5 (l:=[.int c.lo,.tup (c.lm.map .int),.int c.up,.tup (c.um.map .int),.int c.yr]) rfl ?_;left;refine x5 (l:=[.int e.lo,.tup (e.lm.map .int),.int e.up,.tup (e.um.map .int),.int e.yr]) rfl ?_;left;refine Kx (k:=k+1) hT.zz (LO hc).1 λg2 e2=>?_;left;cases hw:jW c.lm e.lm with
    |false =>
     left;have:mw c e=true:=by unfold mw;rw[aw h1,hw];rfl
     rw[<- this];exact h _ (e1.trans e2)
    |true =>
     left;exact⟨e1.trans e2,⟨_,_,rfl⟩,λ_=>by rw[aw h1];rfl,λz=>absurd z ()⟩
   ·left;exact⟨e1,⟨_,_,rfl⟩,λ_=>by rw[aB h1];rfl,λz=>absurd z ()⟩
  |1,hx =>
   cases hx;left;refine L0 (k:=k) hT.mj (by decide +kernel) (λz=>absurd z (by decide +kernel)) (λ_=>?_) (λ_ z=>absurd rfl z);left;refine x5 (l:=[.int c.lo,.tup (c.lm.map .int),.int c.up,.tup (c.um.map .int),.int c.yr]) rfl ?_;left;refine x5 (l:=[.int e.lo,.tup (e.lm.map .int),.int e.up,.tup (e.um.map .int),.int e.yr]) rfl ?_;left;refine if2 (λh1=>?_) (λh1=>?_)
   ·left;refine x5 (l:=[.int c.lo,.tup (c.lm.map .int),.int c.up,.tup (c.um.map .int),.int c.yr]) rfl ?_;left;refine x5 (l:=[.int e.lo,.tup (e.lm.map .int),.int e.up,.tup (e.um.map .int),.int e.yr]) rfl ?_;left;refine Kx (k:=k+1) hT.zz (LO hc).2 λg2 e2=>?_;left;cases hw:jW c.um e.um with
    |false =>
     left;have:mw c e=true:=by unfold mw;rw[aw h1,hw];simp
     rw[<- this];exact h _ (e1.trans e2)
    |true =>
     left;exact⟨e1.trans e2,⟨_,_,rfl⟩,λ_=>q1 (),λ_=>by rw[aw h1];rfl⟩
   ·left;exact⟨e1,⟨_,_,rfl⟩,λ_=>q1 (),λ_=>by rw[aB h1];rfl⟩
  |i+2,hx=>simp at hx
 ·obtain⟨e1,⟨z2,z3,rfl⟩,q1,q2⟩:=q
  try show wpS _ _ _ _ _ _
  left;have:mw c e=false:=by unfold mw;rw[q1 ∅,q2 ∅];rfl
  rw[<- this];exact h _ e1
theorem VS(hT:TB0 T){c e:b8}(h:Q (.bl (lg c e)) g):d0 T (k+1) 93 [c.d,e.d] g Q E:=by
 refine call_of hT.Rc rfl ?_;dsimp[GC,d6,List.replicate];left;refine x5 (l:=[.int e.lo,.tup (e.lm.map .int),.int e.up,.tup (e.um.map .int),.int e.yr]) rfl ?_;left;refine if2 (λh1=>?_) (λh1=>?_)
 ·left;refine x5 (l:=[.int c.lo,.tup (c.lm.map .int),.int c.up,.tup (c.um.map .int),.int c.yr]) rfl ?_;left;have:lg c e=decide (e.yr<c.yr):=by unfold lg;rw[aw h1];rfl
  rw[<- this];exact h
 ·have:lg c e=false:=by unfold lg;rw[aB h1];rfl
  rw[<- this];exact h
def ud(cs:List b8)(q:b8->b8->Bool):List D:=(List.range cs.length).map λi=>.int ((je cs.length λj=>q (bN cs j) (bN cs i):Nat):Int)
theorem xZ{q:Nat->Bool}:∀i∈(List.range cs.length).filter q,i<cs.length:=λi hi=>aN.mp (bp.mp hi).1
theorem K9{n:Nat}{q:Nat->Bool}:((List.range n).filter q).length<=n:=aG (df _ _) (by simp)
theorem Vx(hT:TB0 T)(ha:g[a]?=some (.lst (cs.map b8.d)))(hz:cs.length<=9)(hB:∀c∈cs,CB c)(h:∀g' b,Ex g g'->g.length<=b->g'[b]?=some (.lst (ud cs mw))->Q (.ref b) g'):d0 T (k+4) 94 [.ref a] g Q E:=by
 refine call_of hT.Rb rfl ?_;dsimp[Z4,d6,List.replicate];left;refine comp_map (b7 T _) (λZ=>∃z1 z2,Z=[some (.ref a),z1,z2]) (λi=>.int ((je cs.length λj=>mw (bN cs j) (bN cs i):Nat):Int)) (l:=cs.map b8.d) (k:=.lst a) (λg' e=>o8 (b0 (e.at ha))) (by simp;omega) ⟨none,none,rfl⟩ (λi d Z g' hx e sh=>?_) (λg' e=>?_) (O6 (b7 T _) (b0 ha) λQ q=>w_var (d:=.ref a) rfl q)
 ·obtain⟨z1,z2,rfl⟩:=sh;rw[aj,aa] at hx;obtain⟨c,hc,rfl⟩:=hx;refine j8 ?_
  try show aX _ _ _ _ _ _
  left;refine E7 (b7 T _) (λZ=>∃z1 z2 z3,Z=[some c.d,z1,z2,z3]) (λj=>mw (bN cs j) (bN cs i)) (λi=>.int (i:Nat)) (l:=nK (cs.map b8.d)) (k:=.qc a) (λg2 e2=>zP (b0 ((e.trans e2).at ha))) (by rw[Q1];simp;omega) ⟨none,none,none,rfl⟩ (λj d Z g2 hx e2 sh=>?_) (λg2 e2=>?_) (Ej (b0 (e.at ha)) λQ q=>w_var (d:=.ref a) rfl q)
  ·obtain⟨z1,z2,z3,rfl⟩:=sh;obtain⟨dd,hd,rfl⟩:=Ad hx;rw[aj,aa] at hd;obtain⟨c',jJ,rfl⟩:=hd;refine B1 rfl ?_
   try show dh _ _ _ _ _ _
   left;refine aH4 (k:=k) hT (hB c' (aD jJ)) λg3 e3=>?_;left;refine⟨by simp only[E0 jJ,E0 hc],e2.trans e3,?_⟩;cases mw c' c with
   |true =>
    refine iu rfl ?_;left;exact⟨rfl,e2.trans e3,_,_,_,rfl⟩
   |false=>exact fC rfl ⟨_,_,_,rfl⟩
  ·left;refine Q7 (k:=k+2) hT.uB (l:=(List.range cs.length).filter λj=>mw (bN cs j) (bN cs i)) (by have:=b9 (g:=g2) (o:=.lst (((List.range (nK (cs.map b8.d)).length).filter λj=>mw (bN cs j) (bN cs i)).map λi=>D.int (i:Nat)));rw[Q1,ai] at this ⊢;exact this) (aG K9 ()) (λj hj=>by have:=xZ j hj;omega) λg3 e3=>?_;exact⟨rfl,(e.trans (e2.trans (Ex.snoc _ _))).trans e3,_,_,rfl⟩
 ·refine h _ _ (e.trans (Ex.snoc _ _)) e.len ?_;rw[b9,ai]
  rfl
theorem a48(hT:TB0 T)(ha:g[a]?=some (.lst (cs.map b8.d)))(hz:cs.length<=9)(h:∀g' b,Ex g g'->g.length<=b->g'[b]?=some (.lst (ud cs lg))->Q (.ref b) g'):d0 T (k+4) 95 [.ref a] g Q E:=by
 refine call_of hT.Ra rfl ?_;dsimp[W7,d6,List.replicate];left;refine comp_map (b7 T _) (λZ=>∃z1 z2,Z=[some (.ref a),z1,z2]) (λi=>.int ((je cs.length λj=>lg (bN cs j) (bN cs i):Nat):Int)) (l:=cs.map b8.d) (k:=.lst a) (λg' e=>o8 (b0 (e.at ha))) (by simp;omega) ⟨none,none,rfl⟩ (λi d Z g' hx e sh=>?_) (λg' e=>?_) (O6 (b7 T _) (b0 ha) λQ q=>w_var (d:=.ref a) rfl q)
 ·obtain⟨z1,z2,rfl⟩:=sh;rw[aj,aa] at hx;obtain⟨c,hc,rfl⟩:=hx;refine j8 ?_
  try show aX _ _ _ _ _ _
  left;refine E7 (b7 T _) (λZ=>∃z1 z2 z3,Z=[some c.d,z1,z2,z3]) (λj=>lg (bN cs j) (bN cs i)) (λi=>.int (i:Nat)) (l:=nK (cs.map b8.d)) (k:=.qc a) (λg2 e2=>zP (b0 ((e.trans e2).at ha))) (by rw[Q1];simp;omega) ⟨none,none,none,rfl⟩ (λj d Z g2 hx e2 sh=>?_) (λg2 e2=>?_) (Ej (b0 (e.at ha)) λQ q=>w_var (d:=.ref a) rfl q)
  ·obtain⟨z1,z2,z3,rfl⟩:=sh;obtain⟨dd,hd,rfl⟩:=Ad hx;rw[aj,aa] at hd;obtain⟨c',jJ,rfl⟩:=hd;refine B1 rfl ?_
   try show dh _ _ _ _ _ _
   left;refine VS (k:=k+2) hT ?_;left;refine⟨by simp only[E0 jJ,E0 hc],e2,?_⟩;cases lg c' c with
   |true =>
    refine iu rfl ?_;left;exact⟨rfl,e2,_,_,_,rfl⟩
   |false=>exact fC rfl ⟨_,_,_,rfl⟩
  ·left;refine Q7 (k:=k+2) hT.uB (l:=(List.range cs.length).filter λj=>lg (bN cs j) (bN cs i)) (by have:=b9 (g:=g2) (o:=.lst (((List.range (nK (cs.map b8.d)).length).filter λj=>lg (bN cs j) (bN cs i)).map λi=>D.int (i:Nat)));rw[Q1,ai] at this ⊢;exact this) (aG K9 ()) (λj hj=>by have:=xZ j hj;omega) λg3 e3=>?_;exact⟨rfl,(e.trans (e2.trans (Ex.snoc _ _))).trans e3,_,_,rfl⟩
 ·refine h _ _ (e.trans (Ex.snoc _ _)) e.len ?_;rw[b9,ai]
  rfl
theorem VI(hT:TB0 T)(ha:g[a]?=some (.lst (cs.map b8.d)))(hz:cs.length<=9)(hg:cs.all u3=true)(h:Q (.ref g.length) (g++[.lst ((u6 (cs.map b8.lo)).map .int)])):d0 T (k+7) 20 [.ref a,.str "lower"] g Q E:=by
 refine call_of hT.Rp rfl ?_;dsimp[EG,d6,List.replicate];left;refine Q3 (k:=k) hT.nf hT.h2 hT.sU hT.uC ha () (λz=>by omega) (λ_ z=>by rw[hg] at z;cases z) λ_ _=>?_;left;refine L0 (k:=k+4) hT.mj (by decide +kernel) (λ_=>?_) (λz=>absurd z (by decide +kernel)) (λz=>absurd rfl z);left;refine Vs (b7 T _) (lr (b7 T _) ?_);left;refine⟨a,_,rfl,b0 ha,cs.map b8.d,λi ys Z g'=>∃z w,ys=(cs.take i).map b8.lo/\Z=[some (.int 0),z,w]/\g'=g,by simp;omega,λi ys Z g' p=>?_,⟨none,none,rfl,rfl,rfl⟩,λi c ys Z g' hx p=>?_,λys Z g' p=>?_⟩
 ·obtain⟨z,w,rfl,rfl,rfl⟩:=p;exact⟨o8 (b0 ha),by simp;omega⟩
 ·obtain⟨z,w,rfl,rfl,rfl⟩:=p;rw[aj,aa] at hx;obtain⟨c,hc,rfl⟩:=hx;show dh _ _ _ _ _ _;left;refine x5 (l:=[.int c.lo,.tup (c.lm.map .int),.int c.up,.tup (c.um.map .int),.int c.yr]) rfl ?_;refine⟨_,rfl,_,_,?_,rfl,rfl⟩;rw[bE,hc];simp
 ·obtain⟨z,w,rfl,rfl,rfl⟩:=p;rw[ai,bK];exact h
def pD(cs:List b8):List D:=(u6 (cs.map b8.lo)).map λd=>.int ((je cs.length (meant cs .lower d):Nat):Int)
theorem aB7(hT:TB0 T)(ha:g[a]?=some (.lst (cs.map b8.d)))(hz:cs.length<=9)(hg:cs.all u3=true)(h:∀g' b,Ex g g'->g.length<=b->g'[b]?=some (.lst (pD cs))->Q (.ref b) g'):d0 T (k+8) 96 [.ref a] g Q E:=by
 refine call_of hT.QZ rfl ?_;dsimp[FC,d6,List.replicate];left;have zk:(u6 (cs.map b8.lo)).length<=9:=aG (S7 _) (by simpa using hz);unfold pD at h;refine J5 (b7 T _) (lr (b7 T _) ?_);left;refine VI (k:=k) hT ha hz hg ?_;have e0:=Ex.snoc g (O.lst ((u6 (cs.map b8.lo)).map .int));have hb:=b9 (g:=g) (o:=O.lst ((u6 (cs.map b8.lo)).map .int));generalize u6 (cs.map b8.lo)=ds at *;generalize g++[O.lst (ds.map .int)]=g1 at *;refine⟨_,_,rfl,b0 hb,ds.map .int,λi ys Z g'=>Ex g1 g'/\ys=(ds.take i).map (λd=>.int ((je cs.length (meant cs .lower d):Nat):Int))/\∃z1 z2,Z=[some (.ref a),z1,z2],by simp;omega,λi ys Z g' q=>⟨o8 (b0 (q.1.at hb)),?_⟩,⟨Ex.refl _,rfl,none,none,rfl⟩,λi x ys Z g' hx q=>?_,λys Z g' q=>?_⟩
 ·obtain⟨_,rfl,_⟩:=q;simp;omega
 ·obtain⟨e1,rfl,z1,z2,rfl⟩:=q;rw[aj,aa] at hx;obtain⟨dd,hd,rfl⟩:=hx;refine j8 ?_
  try show dh _ _ _ _ _ _
  left;refine N1 (k:=k+4) hT.nf hT.mj hT.qO (w:=.lower) ((e0.trans e1).at ha) () λg2 b2 e2 _ wO=>?_;left;refine Q7 (k:=k+6) hT.uB wO (aG K9 ()) (λj hj=>by have:=xZ j hj;omega) λg3 e3=>?_;refine⟨e1.trans (e2.trans e3),?_,_,_,rfl⟩;rw[bE,hd];simp[je,fQ]
 ·obtain⟨e1,rfl,z1,z2,rfl⟩:=q;rw[ai,bK];exact h _ _ (e0.trans (e1.trans (Ex.snoc _ _))) (aG e0.len e1.len) b9
end
theorem N6{i:Int}{k:Bool->Prop}(ha:d8 g a=some (ms.map .int))(h:k (ms.any λm=>m==i)):qG g (.int i) (.ref a) k:=by
 refine⟨_,.inr ⟨_,_,_,ha,T4 ms,rfl,lay_ints ms,by simp[PyData.canLay0],rfl⟩,?_⟩;rw[ja];exact h
theorem ED{l:List Nat}{k:Bool->Prop}(ha:g[a]?=some (.lst (d4 l)))(h:k (decide (i∈l))):qG g (.int (i:Nat)) (.ref a) k:=by
 refine N6 (ms:=l.map λ(i:Nat)=>(i:Int)) (by rw[<- EW];exact b0 ha) ?_;have:((l.map λ(i:Nat)=>(i:Int)).any λm=>m==(i:Int))=decide (i∈l):=by
  rw[aS,aO,bP];constructor
  ·rintro⟨x,hx,e⟩;obtain⟨j,hj,rfl⟩:=aZ.mp hx;rw[eG] at e;rw[show i=j by omega];exact hj
  ·exact λhi=>⟨_,aZ.mpr ⟨i,hi,rfl⟩,by simp⟩
 rw[this];exact h
structure oP(g:G)(nb lo n:Nat)(B:Nat->Nat)(F:Nat->Nat->Prop):Prop where
 ex:∃as:List Nat,g[nb]?=some (.lst (as.map .ref))/\as.length=n/\as.Nodup/\(∀a∈as,lo<=a/\a≠nb)/\∀i a,as[i]?=some a->∃ms:List Nat,g[a]?=some (.lst (d4 ms))/\ms.length<=B i/\∀m,m∈ms↔F i m
theorem oP.at{g g':G}{nb lo n:Nat}{B:Nat->Nat}{F:Nat->Nat->Prop}(h:oP g nb lo n B F)(e:Ex g g'):oP g' nb lo n B F:=by
 obtain⟨as,h1,h2,h3,h4,h5⟩:=h.ex;refine⟨⟨as,e.at h1,h2,h3,h4,λi a hi=>?_⟩⟩;obtain⟨ms,m1,m2⟩:=h5 i a hi;exact⟨ms,e.at m1,m2⟩
theorem oP.imp{nb:Nat}{B B':Nat->Nat}{F F':Nat->Nat->Prop}(h:oP g nb lo n B F)(hB:∀i,i<n->B i<=B' i)(hF:∀i m,i<n->(F i m↔F' i m)):oP g nb lo n B' F' :=
 let ⟨as,h1,h2,h3,h4,h5⟩:=h.ex
 ⟨⟨as,h1,h2,h3,h4,λi a hi=>let ⟨ms,m1,m2,m3⟩:=h5 i a hi
  have iz:i<n:=by rw[<- h2];exact(ak.mp hi).1
  ⟨ms,m1,aG m2 (hB i iz),λm=>(m3 m).trans (hF i m iz)⟩⟩⟩
def uW(cs:List b8)(rs:List cQ)(i m:Nat):Prop:=∃r∈rs,meant cs r.w r.y i=true/\m=je cs.length (meant cs r.w r.x)
def i7(rs:List cQ):List D:=rs.map cQ.d
theorem Kq{l:List α}(h:l.Nodup){a:α}(hi:l[i]?=some a)(hj:l[j]?=some a):i=j:=by
 obtain⟨h1,e1⟩:=ak.mp hi;obtain⟨h2,e2⟩:=ak.mp hj;exact(mR h).mp (e1.trans e2.symm)
section
variable{T:Nat->Option aW}{d:Nat}
theorem a39(hT:TB0 T)(ha:g[a]?=some (.lst (cs.map b8.d)))(hz:cs.length<=9)(hc:g[c]?=some (.lst (i7 rs)))(hr:rs.length<=900)(h:∀g' b,Ex g g'->g.length<=b->oP g' b g.length cs.length (λ_=>rs.length) (uW cs rs)->Q (.ref b) g'):d0 T (k+4) 97 [.ref a,.ref c] g Q E:=by
 refine call_of hT.QY rfl ?_;dsimp[T6,d6,List.replicate];left;refine J5 (b7 T _) (lr (b7 T _) ?_);left;refine⟨a,_,rfl,b0 ha,cs.map b8.d,λi ys Z g'=>Ex g g'/\(∃as:List Nat,ys=as.map .ref/\as.length=i/\as.Nodup/\∀b∈as,g.length<=b/\g'[b]?=some (.lst []))/\∃z0 z1,Z=[z0,z1],by simp;omega,λi ys Z g' q=>⟨o8 (b0 (q.1.at ha)),?_⟩,⟨Ex.refl _,⟨[],rfl,rfl,by simp,by simp⟩,none,none,rfl⟩,λi x ys Z g' hx q=>?_,λys Z g' q=>?_⟩
 ·obtain⟨_,⟨as,rfl,rfl,_⟩,_⟩:=q;simp
 ·obtain⟨e1,⟨as,rfl,hl,nd,hA⟩,z0,z1,rfl⟩:=q;refine j8 ?_
  try show dh _ _ _ _ _ _
  left;refine⟨e1.trans (Ex.snoc _ _),⟨as++[g'.length],by simp,by simp[hl],?_,λb hb=>?_⟩,_,_,rfl⟩
  ·rw[cT];exact⟨nd,by simp,λx hx y hy=>by cases aY.mp hy;exact aU (i8 (hA x hx).2)⟩
  ·rcases aV.mp hb with hb|hb
   ·exact⟨(hA b hb).1,(Ex.snoc _ _).at (hA b hb).2⟩
   ·cases aY.mp hb;exact⟨e1.len,b9⟩
 ·obtain⟨e1,⟨as,rfl,hl,nd,hA⟩,z0,z1,rfl⟩:=q;rw[ai] at hl;left;have e2:=e1.trans (Ex.snoc g' (O.lst (as.map D.ref)));have lo:=e1.len;have N0:oP (g'++[O.lst (as.map D.ref)]) g'.length g.length cs.length (λ_=>0) (uW cs []):=⟨⟨as,b9,hl,nd,λb hb=>⟨(hA b hb).1,aU (i8 (hA b hb).2)⟩,λi b hb=>⟨[],(Ex.snoc _ _).at (hA b (aD hb)).2,by simp,λm=>⟨λz=>absurd z (by simp),λ⟨r,hr,_⟩=>absurd hr (by simp)⟩⟩⟩⟩
  generalize g'++[O.lst (as.map D.ref)]=g1 at *;generalize g'.length=nb at *;refine x6 (b7 T _) (lr (b7 T _) ?_);left;refine⟨c,_,rfl,b0 (e2.at hc),i7 rs,λi Z g'=>Ex g g'/\oP g' nb g.length cs.length (λ_=>i) (uW cs (rs.take i))/\∃z3 z4 z5 z6 z7,Z=[some (.ref a),some (.ref c),some (.ref nb),z3,z4,z5,z6,z7],λi Z g' q=>o8 (b0 (q.1.at hc)),⟨e2,N0,none,none,none,none,none,rfl⟩,λi x Z g' hx q=>?_,λZ g' q=>?_⟩
  ·obtain⟨e3,N3,z3,z4,z5,z6,z7,rfl⟩:=q;rw[i7,aj,aa] at hx;obtain⟨r,fE,rfl⟩:=hx;have hi:i<rs.length:=(ak.mp fE).1;refine B1 (l:=[.str r.w.s,.int r.x,.int r.y]) rfl ?_
   try show wpS _ _ _ _ _ _
   left;refine N1 (k:=k) hT.nf hT.mj hT.qO (e3.at ha) () λg4 b4 e4 _ QM=>?_;left;refine Q7 (k:=k+2) hT.uB QM (aG K9 ()) (λj hj=>by have:=xZ j hj;omega) λg5 e5=>?_;left;have zJ:=e3.trans (e4.trans e5);have N5:=N3.at (e4.trans e5);have ef:qu (fQ cs r.w r.x)=je cs.length (meant cs r.w r.x):=rfl;rw[ef];generalize je cs.length (meant cs r.w r.x)=first at *
   refine x6 (b7 T _) (lr (b7 T _) ?_);left;refine N1 (k:=k) hT.nf hT.mj hT.qO (zJ.at ha) () λg6 b6 e6 hb6 Ih=>?_;refine⟨b6,_,rfl,b0 Ih,d4 (fQ cs r.w r.y),λj Z g'=>Ex g g'/\g'[b6]?=some (.lst (d4 (fQ cs r.w r.y)))/\oP g' nb g.length cs.length (λq=>i+if q∈(fQ cs r.w r.y).take j then 1 else 0) (λq m=>uW cs (rs.take i) q m\/(q∈(fQ cs r.w r.y).take j/\m=first))/\(∀as:List Nat,g'[nb]?=some (.lst (as.map .ref))->b6∉as)/\∃z7,Z=[some (.ref a),some (.ref c),some (.ref nb),some (.str r.w.s),some (.int r.x),some (.int r.y),some (.int (first:Nat)),z7],λj Z g' q=>o8 (b0 q.2.1),⟨zJ.trans e6,Ih,(N5.at e6).imp (λq _=>by simp) (λq m _=>by simp),?_,z7,rfl⟩,λj x Z g' hx q=>?_,λZ g' q=>?_⟩
   ·intro zS h' hm;obtain⟨uP,h1,h2,h3,h4,h5⟩:=N5.ex;have:=(e6.at h1).symm.trans h';have e':uP=zS:=by
     have h0:uP.map D.ref=zS.map D.ref:=by injection this with w;injection w
     exact(List.map_inj_right (λx y z=>by injection z)).mp h0
    subst e';obtain⟨i',iz⟩:=bO.mp hm;obtain⟨ms,m1,_⟩:=h5 i' b6 iz;have:=i8 m1;omega
   ·obtain⟨e7,p7,N7,yY,z7,rfl⟩:=q;rw[d4,aj,aa] at hx;obtain⟨q,hq,rfl⟩:=hx;have Ig:q<cs.length:=xZ q (aD hq);have Qd:q∉(fQ cs r.w r.y).take j:=λz=>by
     obtain⟨j',Cw⟩:=bO.mp z;have hl:j'<j:=by
      have:=(ak.mp Cw).1;simp at this;omega
     rw[cu hl] at Cw;have Pc:(fQ cs r.w r.y).Nodup:=iF.filter _;have:=Kq Pc Cw hq;omega
    have tk:(fQ cs r.w r.y).take (j+1)=(fQ cs r.w r.y).take j++[q]:=by rw[bE,hq];rfl
    obtain⟨xO,h1,h2,h3,h4,h5⟩:=N7.ex;have PN:q<xO.length:=by omega
    have ux:=ao PN;generalize xO[q]=aq at ux;obtain⟨ms,m1,m2,m3⟩:=h5 q aq ux;have gq:gh (xO.map D.ref) (q:Int)=some (.ref aq):=B4 (by rw[aj,ux];rfl);refine j8 ?_
    try show wpS _ _ _ _ _ _
    left;refine s9 (b0 h1) gq ?_;refine Y4 (ED m1 ?_);left;by_cases ki:first∈ms
    ·refine fC (by simp[ki]) ?_;left;refine⟨e7,p7,N7.imp (λq' _=>?_) (λq' m _=>?_),yY,_,rfl⟩
     ·rw[tk];simp only[List.mem_append,List.mem_singleton];by_cases z:q'∈(fQ cs r.w r.y).take j
      ·simp[z]
      ·simp[z]
     ·rw[tk];simp only[List.mem_append,List.mem_singleton];constructor
      ·rintro(z|⟨z1,z2⟩)
       ·exact .inl z
       ·exact .inr ⟨.inl z1,z2⟩
      ·rintro(z|⟨z1|z1,z2⟩)
       ·exact .inl z
       ·exact .inr ⟨z1,z2⟩
       ·subst z1 z2;exact(m3 m).mp ki
    ·refine iu (by simp[ki]) ?_;left;refine s9 (b0 h1) gq ?_
     try refine⟨M4 m1,?_⟩
     left;rw[aE Qd] at m2;refine L5 m1 (by simp[d4];omega) ?_;left;have oq:=aD ux;have ff:=(h4 aq oq).2;have Qf:aq≠b6:=λz=>yY xO h1 (z▸oq);have IV:=f6 (o':=O.lst (d4 ms++[D.int (first:Nat)])) h1 ff;refine⟨⟨by simp;exact e7.len,λi' iz=>by rw[aA (by have:=(h4 aq oq).1;omega)];exact e7.old i' iz⟩,f6 p7 Qf,⟨⟨xO,IV,h2,h3,h4,λi' b hb=>?_⟩⟩,λzS h'=>?_,_,rfl⟩
     ·by_cases zl:i'=q
      ·subst zl;have:b=aq:=by rw[ux] at hb;injection hb with z;exact z.symm
       subst this;refine⟨ms++[first],by rw[get_set m1];simp[d4],?_,λm=>?_⟩
       ·rw[tk];simp;omega
       ·rw[aV,aY,m3 m,tk];simp only[List.mem_append,List.mem_singleton];constructor
        ·rintro((z|⟨z1,z2⟩)|z)
         ·exact .inl z
         ·exact .inr ⟨.inl z1,z2⟩
         ·exact .inr ⟨.inr trivial,z⟩
        ·rintro(z|⟨z1|z1,z2⟩)
         ·exact .inl (.inl z)
         ·exact .inl (.inr ⟨z1,z2⟩)
         ·exact .inr z2
      ·have CJ:aq≠b:=λz=>zl (Kq h3 hb (z▸ux));obtain⟨HL,k1,k2,k3⟩:=h5 i' b hb;refine⟨HL,f6 k1 CJ,?_,λm=>(k3 m).trans ?_⟩
       ·rw[tk];simpa[zl] using k2
       ·rw[tk];simp[zl]
     ·rw[IV] at h';exact yY zS (h1.trans h')
   ·obtain⟨e7,p7,N7,yY,z7,rfl⟩:=q;rw[d4,ai,bK] at N7
    try show wpS _ _ _ _ _ _
    left;refine⟨e7,N7.imp (λq _=>by split<;>omega) (λq m hq=>?_),_,_,_,_,_,rfl⟩;have tk:rs.take (i+1)=rs.take i++[r]:=by rw[bE,fE];rfl
    unfold uW;rw[tk];simp only[List.mem_append,List.mem_singleton];constructor
    ·rintro(⟨r',h1,h2⟩|⟨h1,h2⟩)
     ·exact⟨r',.inl h1,h2⟩
     ·exact⟨r,.inr rfl,(bp.mp h1).2,by rw[h2];exact ef.symm⟩
    ·rintro⟨r',h1|h1,h2,h3⟩
     ·exact .inl ⟨r',h1,h2,h3⟩
     ·subst h1;exact .inr ⟨bp.mpr ⟨aN.mpr hq,h2⟩,by rw[h3];exact ef⟩
  ·obtain⟨e3,N3,z3,z4,z5,z6,z7,rfl⟩:=q;rw[i7,ai,bK] at N3
   try show wpS _ _ _ _ _ _
   left;exact h _ _ e3 lo N3
end
def j5(cs:List b8)(r:cQ):Bool:=!decide (r.x=r.y)&&(!(fQ cs r.w r.x).isEmpty&&!(fQ cs r.w r.y).isEmpty)
theorem in_words(h:kb true):qG g (.str w.s) (.tup [.str "coin",.str "lower",.str "upper"]) kb:=by
 refine⟨_,.inr ⟨_,[.str "coin",.str "lower",.str "upper"],.str w.s,rfl,rfl,rfl,by simp only[PyData.canLayAll0,PyData.canLay0,Bool.and_true];decide +kernel,by simp only[PyData.canLay0];cases w<;>decide +kernel,rfl⟩,?_⟩;have:([PyData.str "coin",PyData.str "lower",PyData.str "upper"].any λq=>PyData.eqv q (.str w.s))=true:=by
  simp only[List.any_cons,List.any_nil,PyData.eqv];cases w<;>decide +kernel
 rw[this];exact h
theorem ne_nil{l:List Nat}(ha:g[a]?=some (.lst (d4 l)))(hb:g[b]?=some (.lst []))(h:Q (.bl (!l.isEmpty)) g):cF (.cmp .NotEq) [.ref a,.ref b] g Q:=by
 refine Eg (a64 (ms:=l.map λ(i:Nat)=>(i:Int)) (ns:=[]) (by rw[<- EW];exact b0 ha) (b0 hb) ?_);have:decide ((l.map λ(i:Nat)=>(i:Int))=[])=l.isEmpty:=by cases l<;>simp
 rw[this];exact h
structure Bd(g:G)(b:Nat)(cs:List b8)(v:Int)(rs:List cQ):Prop where
 ex:∃w l d nb,g[b]?=some (.ins "Bounds" [("size",.int cs.length),("full",.int ((2 ^ cs.length-1:Nat):Int)),("room",.int v),("worn_by_place",.ref w),("later_by_place",.ref l),("lower_dies",.ref d),("needed_by_place",.ref nb)]) /\
  g[w]?=some (.lst (ud cs mw))/\g[l]?=some (.lst (ud cs lg))/\g[d]?=some (.lst (pD cs))/\oP g nb 0 cs.length (λ_=>rs.length) (uW cs rs)
theorem Bd.at{g g':G}{b:Nat}{cs:List b8}{v:Int}{rs:List cQ}(h:Bd g b cs v rs)(e:Ex g g'):Bd g' b cs v rs:=by
 obtain⟨w,l,d,nb,h1,h2,h3,h4,h5⟩:=h.ex;exact⟨⟨w,l,d,nb,e.at h1,e.at h2,e.at h3,e.at h4,h5.at e⟩⟩
theorem aW3(l:List α)(z:α)(q:α->Bool):((List.range l.length).filter λi=>q (l.getD i z)).length=(l.filter q).length:=by
 have e:l=(List.range l.length).map λi=>l.getD i z:=by
  refine cU λi=>?_;rw[aj];by_cases hi:i<l.length
  ·rw[bC hi,ao hi];simp[List.getD,hi]
  ·rw[aQ (),aQ (by simpa using hi)]
   rfl
 conv=>rhs;rw[e,nO,ai]
 rfl
theorem MF{q:Nat->Bool}{s:Nat}{S:Nat->Bool}(h:∀i,i<n->s.testBit i=S i):((Builtin.bitAnd ((je n q:Nat):Int) (s:Nat)) != 0)=(List.range n).any λi=>S i&&q i:=by
 rw[Et,Nat.and_comm,zY,aS,aO,aO];constructor
 ·rintro⟨i,h1,h2⟩;exact⟨i,h1,by rw[<- h i (aN.mp h1)];exact h2⟩
 ·rintro⟨i,h1,h2⟩;exact⟨i,h1,by rw[h i (aN.mp h1)];exact h2⟩
theorem VV{s:Nat}(h:s<2 ^ n)(hi:i<n):(2 ^ n-1-s).testBit i=!s.testBit i:=by
 rw[show 2 ^ n-1-s=2 ^ n-(s+1) by omega,Nat.testBit_two_pow_sub_succ h,aw hi]
 rfl
theorem V5(s p i:Nat):(s |||2 ^ p).testBit i=(s.testBit i||decide (i=p)):=by
 rw[Nat.testBit_or,Nat.testBit_two_pow]
 congr 1
 exact cK.mpr eq_comm
theorem V1{s:Nat}(h:s<2 ^ n)(hp:p<n):s |||2 ^ p<2 ^ n:=Nat.or_lt_two_pow h (Nat.pow_lt_pow_right () hp)
section
variable{T:Nat->Option aW}{d:Nat}
theorem aI9(hT:TB0 T)(ha:g[a]?=some (.lst (cs.map b8.d)))(hz:cs.length<=1000)(h:∀g',Ex g g'->Q (.bl (j5 cs r)) g'):d0 T (k+4) 88 [.ref a,r.d] g Q E:=by
 refine call_of hT.Rg rfl ?_;dsimp[Fp,d6,List.replicate];left;refine B1 (l:=[.str r.w.s,.int r.x,.int r.y]) rfl ?_;left;refine Y4 (in_words ?_);left;refine if2 (λh1=>?_) (λh1=>?_)
 ·left;have:j5 cs r=false:=by unfold j5;rw[aw h1];rfl
  rw[<- this];exact h _ (Ex.refl _)
 ·left;refine N1 (k:=k) hT.nf hT.mj hT.qO ha hz λg1 b1 e1 _ wQ=>?_;left;refine ne_nil ((Ex.snoc _ _).at wQ) b9 ?_;left;cases h2:(fQ cs r.w r.x).isEmpty with
  |true =>
   refine fC rfl ?_;have:j5 cs r=false:=by unfold j5;rw[aB h1,h2];rfl
   rw[<- this];exact h _ (e1.trans (Ex.snoc _ _))
  |false =>
   refine iu rfl ?_;left;refine N1 (k:=k) hT.nf hT.mj hT.qO ((e1.trans (Ex.snoc _ _)).at ha) hz λg2 b2 e2 _ wO=>?_;left;refine ne_nil ((Ex.snoc _ _).at wO) b9 ?_;have:j5 cs r=!(fQ cs r.w r.y).isEmpty:=by unfold j5;rw[aB h1,h2];rfl
   rw[<- this];exact h _ ((e1.trans (Ex.snoc _ _)).trans (e2.trans (Ex.snoc _ _)))
theorem LB(hT:TB0 T)(ha:g[a]?=some (.lst (cs.map b8.d)))(hz:cs.length<=1000)(hc:g[c]?=some (.lst (i7 rs)))(hr:rs.length<=900)(h:rs.all (j5 cs)=true->∀g',Ex g g'->Q .br g')(hn:rs.all (j5 cs)=false->∀g',Ex g g'->E ⟨"BadRule"⟩ g'):d0 T (k+5) 89 [.ref a,.ref c] g Q E:=by
 refine call_of hT.Rf rfl ?_;dsimp[Z7,d6,List.replicate];left;refine x6 (b7 T _) (BR ?_);left;refine⟨c,_,rfl,b0 hc,nK (i7 rs),λi Z g'=>Ex g g'/\(∃z2 z3,Z=[some (.ref a),some (.ref c),z2,z3])/\(rs.take i).all (j5 cs)=true,λi Z g' q=>zP (b0 (q.1.at hc)),⟨Ex.refl _,⟨none,none,rfl⟩,rfl⟩,λi x Z g' hx q=>?_,λZ g' q=>?_⟩
 ·obtain⟨e1,⟨z2,z3,rfl⟩,q⟩:=q;obtain⟨dd,hd,rfl⟩:=Ad hx;rw[i7,aj,aa] at hd;obtain⟨r,fE,rfl⟩:=hd;have tk:rs.take (i+1)=rs.take i++[r]:=by rw[bE,fE];rfl
  refine B1 rfl ?_
  try show wpS _ _ _ _ _ _
  left;refine aI9 (k:=k) hT (e1.at ha) hz λg2 e2=>?_;left;cases hg:j5 cs r with
  |true =>
   left;exact⟨e1.trans e2,⟨_,_,rfl⟩,by rw[tk,nP,q];simp[hg]⟩
  |false =>
   left;have hi:i<rs.length:=(ak.mp fE).1;refine Xj ?_ ?_
   ·have:(i:Int).natAbs<2 ^ 10:=by rw[Oo];omega
    rw[Oo] at this ⊢;by_cases h0:i=0
    ·subst h0;decide
    ·exact cW ((Nat.log2_lt h0).mpr this) ∅
   left;refine bC2 rfl ?_;left;refine hn ?_ _ (e1.trans e2);rw[List.all_eq_false];exact⟨r,aD fE,by rw[hg];decide⟩
 ·obtain⟨e1,⟨z2,z3,rfl⟩,q⟩:=q;rw[Q1,i7,ai,bK] at q;exact h q _ e1
theorem Lz(hT:TB0 T)(oZ:T 42=some C9)(qN:T 98=some K2)(ha:g[a]?=some (.lst (cs.map b8.d)))(hz:cs.length<=1000)(hc:g[c]?=some (.lst (i7 rs)))(hr:rs.length<=900)(hm:9<cs.length->E ⟨"TooMany"⟩ g)(hb:cs.length<=9->cs.all u3=false->E ⟨"BadCoin"⟩ g)(hv:cs.length<=9->cs.all u3=true->¬(1<=v/\v<=9)->E ⟨"BadAnvils"⟩ g)(hw:cs.length<=9->cs.all u3=true->1<=v/\v<=9->rs.all (j5 cs)=false->∀g',Ex g g'->E ⟨"BadRule"⟩ g')(h:cs.length<=9->cs.all u3=true->1<=v/\v<=9->rs.all (j5 cs)=true->∀g',Ex g g'->Q .br g'):d0 T (k+7) 98 [.ref a,.int v,.ref c] g Q E:=by
 refine call_of qN rfl ?_;dsimp[K2,d6,List.replicate];left;refine Q3 (k:=k) hT.nf hT.h2 hT.sU hT.uC ha hz hm hb λh9 hg=>?_;left;refine au9 (k:=k+3) hT.nf oZ (λv1 v2=>?_) (hv h9 hg);left;exact LB (k:=k+1) hT ha hz hc hr (h h9 hg ⟨v1,v2⟩) (hw h9 hg ⟨v1,v2⟩)
theorem Mq{f:Str}{x:D}(fs:List (Str×D)):(p8 f x fs).length<=fs.length+1:=by
 induction fs with
 |nil=>simp[p8]
 |cons y r ih =>
  unfold p8;split<;>simp
  exact ih
theorem yf{f:Str}{x:D}{fs:List (Str×D)}(h:fs.length+1<n):(p8 f x fs).length<n:=dS (Mq fs) h
theorem yg{f:Str}{x:D}{fs:List (Str×D)}(h:fs.length+(m+1)<n):(p8 f x fs).length+m<n:=by
 have:=Mq (f:=f) (x:=x) fs;omega
def f3(n:Nat)(v:Int):List (Str×D):=[("size",.int n),("full",.int ((2 ^ n-1:Nat):Int)),("room",.int v)]
theorem vb(n:Nat)(v:Int):(f3 n v).length=3:=rfl
theorem Ly(hT:TB0 T)(ha:g[a]?=some (.lst (cs.map b8.d)))(hz:cs.length<=9)(hg:cs.all u3=true)(hB:∀c∈cs,CB c)(hc:g[c]?=some (.lst (i7 rs)))(hr:rs.length<=900)(hb:g[b]?=some (.ins "Bounds" []))(h:∀g',g.length<=g'.length->(∀i,i<g.length->i≠b->g'[i]?=g[i]?)->Bd g' b cs v rs->Q .br g'):d0 T (k+9) 113 [.ref b,.ref a,.int v,.ref c] g Q E:=by
 refine call_of hT.Dw rfl ?_;dsimp[Z9,d6,List.replicate];have vQ:b≠a:=λz=>by subst z;rw[ha] at hb;cases hb
 have yX:b≠c:=λz=>by subst z;rw[hc] at hb;cases hb
 have lb:=i8 hb;left;refine tQ hb (by simp) (by simp) ?_;left;have uy:=f6 (o':=O.ins "Bounds" (p8 "size" (.int (cs.map b8.d).length) [])) ha vQ;refine E1 (b0 uy) ?_;left;refine FP ⟨by omega,by simp;omega,by decide⟩ ?_;left;refine tQ (get_set hb) (by simp) (by first|(simp;done)|(refine yf ?_;repeat (first|(rw[vb];omega)|(simp;done)|refine yg ?_))) ?_;rw[iZ];left;refine tQ (get_set hb) (by simp) (by first|(simp;done)|(refine yf ?_;repeat (first|(rw[vb];omega)|(simp;done)|refine yg ?_))) ?_;rw[iZ];have e0:p8 "room" (.int v) (p8 "full" (.int (1*2 ^ Int.toNat ((cs.map b8.d).length:Int)-1)) (p8 "size" (.int (cs.map b8.d).length) []))=(f3 cs.length v):=by
  have:(1*2 ^ Int.toNat ((cs.map b8.d).length:Int)-1:Int)=((2 ^ cs.length-1:Nat):Int):=by
   rw[ai,cE,Int.one_mul];have:=gF (n:=cs.length);rw[Int.natCast_sub this];simp
  rw[this,ai]
  rfl
 simp only[e0];have kp:∀(g1:G) (o:O),Ex (g.set b o) g1->(∀i,i<g.length->i≠b->g1[i]?=g[i]?)/\g.length<=g1.length:=λg1 o e=>⟨λi hi hn=>by rw[e.old i (by simpa using hi),aA (bT hn)],by have:=e.len;simpa using this⟩
 generalize ho:O.ins "Bounds" (f3 cs.length v)=o1;have wQ:=get_set (o':=o1) hb;have uy:=f6 (o':=o1) ha vQ;have sH:=f6 (o':=o1) hc yX;have k1:=kp _ o1 (Ex.refl _);generalize g.set b o1=g1 at *;subst ho;left;refine Vx (k:=k+4) hT uy hz hB λg2 w e2 hw1 hw=>?_;left;refine tQ (e2.at wQ) (by simp) (by rw[vb];omega) ?_;have lw:w≠b:=λz=>by have:=i8 wQ;omega
 have CM:=get_set (o':=O.ins "Bounds" (p8 "worn_by_place" (.ref w) (f3 cs.length v))) (e2.at wQ);have PJ:=f6 (o':=O.ins "Bounds" (p8 "worn_by_place" (.ref w) (f3 cs.length v))) hw lw.symm;have zw:=f6 (o':=O.ins "Bounds" (p8 "worn_by_place" (.ref w) (f3 cs.length v))) (e2.at uy) vQ;have zq:=f6 (o':=O.ins "Bounds" (p8 "worn_by_place" (.ref w) (f3 cs.length v))) (e2.at sH) yX;have k3:(∀i,i<g.length->i≠b->(g2.set b (O.ins "Bounds" (p8 "worn_by_place" (.ref w) (f3 cs.length v))))[i]?=g[i]?)/\g.length<=(g2.set b (O.ins "Bounds" (p8 "worn_by_place" (.ref w) (f3 cs.length v)))).length:=⟨λi hi hn=>by rw[aA (bT hn),e2.old i (by have:=k1.2;omega)];exact k1.1 i hi hn,by simp;have:=e2.len;have:=k1.2;omega⟩
 generalize g2.set b (O.ins "Bounds" (p8 "worn_by_place" (.ref w) (f3 cs.length v)))=g3 at *;left;refine a48 (k:=k+4) hT zw hz λg4 l e4 kh hl=>?_;left;refine tQ (e4.at CM) (by simp) (by first|(simp;done)|(refine yf ?_;repeat (first|(rw[vb];omega)|(simp;done)|refine yg ?_))) ?_;have ll:l≠b:=λz=>by have:=i8 CM;omega
 generalize ho:O.ins "Bounds" (p8 "later_by_place" (.ref l) (p8 "worn_by_place" (.ref w) (f3 cs.length v)))=o5;have CL:=get_set (o':=o5) (e4.at CM);have PH:=f6 (o':=o5) (e4.at PJ) lw.symm;have Qr:=f6 (o':=o5) hl ll.symm;have II:=f6 (o':=o5) (e4.at zw) vQ;have QJ:=f6 (o':=o5) (e4.at zq) yX;have k5:(∀i,i<g.length->i≠b->(g4.set b o5)[i]?=g[i]?)/\g.length<=(g4.set b o5).length:=⟨λi hi hn=>by rw[aA (bT hn),e4.old i (by have:=k3.2;omega)];exact k3.1 i hi hn,by simp;have:=e4.len;have:=k3.2;omega⟩
 generalize g4.set b o5=g5 at *;subst ho;left;refine aB7 (k:=k) hT II hz hg λg6 dd e6 IG hd=>?_;left;refine tQ (e6.at CL) (by simp) (by first|(simp;done)|(refine yf ?_;repeat (first|(rw[vb];omega)|(simp;done)|refine yg ?_))) ?_;have ld:dd≠b:=λz=>by have:=i8 CL;omega
 generalize ho:O.ins "Bounds" (p8 "lower_dies" (.ref dd) (p8 "later_by_place" (.ref l) (p8 "worn_by_place" (.ref w) (f3 cs.length v))))=o7;have CK:=get_set (o':=o7) (e6.at CL);have PD:=f6 (o':=o7) (e6.at PH) lw.symm;have Qq:=f6 (o':=o7) (e6.at Qr) ll.symm;have QF:=f6 (o':=o7) hd ld.symm;have QO:=f6 (o':=o7) (e6.at II) vQ;have QI:=f6 (o':=o7) (e6.at QJ) yX;have k7:(∀i,i<g.length->i≠b->(g6.set b o7)[i]?=g[i]?)/\g.length<=(g6.set b o7).length:=⟨λi hi hn=>by rw[aA (bT hn),e6.old i (by have:=k5.2;omega)];exact k5.1 i hi hn,by simp;have:=e6.len;have:=k5.2;omega⟩
 generalize g6.set b o7=g7 at *;subst ho;left;refine a39 (k:=k+4) hT QO hz QI hr λg8 nb e8 hn1 hn=>?_;left;refine tQ (e8.at CK) (by simp) (by first|(simp;done)|(refine yf ?_;repeat (first|(rw[vb];omega)|(simp;done)|refine yg ?_))) ?_;have lb7:=i8 CK;have ln:nb≠b:=λz=>by omega
 generalize ho:O.ins "Bounds" (p8 "needed_by_place" (.ref nb) (p8 "lower_dies" (.ref dd) (p8 "later_by_place" (.ref l) (p8 "worn_by_place" (.ref w) (f3 cs.length v)))))=o9;refine h _ (by simp;have:=e8.len;have:=k7.2;omega) (λi hi hn=>by rw[aA (bT hn),e8.old i (by have:=k7.2;omega)];exact k7.1 i hi hn) ⟨⟨w,l,dd,nb,?_,f6 (e8.at PD) lw.symm,f6 (e8.at Qq) ll.symm,f6 (e8.at QF) ld.symm,?_⟩⟩
 ·rw[get_set (e8.at CK),<- ho]
  rfl
 ·obtain⟨as,q1,q2,q3,q4,q5⟩:=hn.ex;exact⟨⟨as,f6 q1 ln.symm,q2,q3,λx hx=>⟨by omega,(q4 x hx).2⟩,λi x hx=>let ⟨ms,m1,m2⟩:=q5 i x hx;⟨ms,f6 m1 (λz=>by have:=(q4 x (aD hx)).1;omega),m2⟩⟩⟩
end
section
variable{T:Nat->Option aW}{d:Nat}
theorem aK6(hT:TB T)(ha:g[a]?=some (.lst (cs.map b8.d)))(hz:cs.length<=1000)(hB:∀c∈cs,CB c)(hc:g[c]?=some (.lst (i7 rs)))(hr:rs.length<=900)(hm:9<cs.length->E ⟨"TooMany"⟩ g)(hb:cs.length<=9->cs.all u3=false->E ⟨"BadCoin"⟩ g)(hv:cs.length<=9->cs.all u3=true->¬(1<=v/\v<=9)->E ⟨"BadAnvils"⟩ g)(hw:cs.length<=9->cs.all u3=true->1<=v/\v<=9->rs.all (j5 cs)=false->∀g',Ex g g'->E ⟨"BadRule"⟩ g')(h:cs.length<=9->cs.all u3=true->1<=v/\v<=9->rs.all (j5 cs)=true->∀g' b,Ex g g'->g.length<=b->Bd g' b cs v rs->Q (.ref b) g'):d0 T (k+10) 99 [.ref a,.int v,.ref c] g Q E:=by
 refine call_of hT.QX rfl ?_;dsimp[Fm,d6,List.replicate];left;refine Lz (k:=k+2) hT.toTB0 hT.oZ hT.qN ha hz hc hr hm hb hv hw λh9 hg hv hR g1 e1=>?_;left;have x1:=Ex.snoc g1 (O.ins "Bounds" []);refine Ly (k:=k) hT (x1.at (e1.at ha)) h9 hg hB (x1.at (e1.at hc)) hr b9 λg2 l2 o2 B2=>?_;refine⟨rfl,h h9 hg hv hR g2 _ ⟨by have:=e1.len;simp at l2;omega,λi hi=>?_⟩ e1.len B2⟩;have:=e1.len;rw[o2 i (by simp;omega) (),x1.old i ()];exact e1.old i hi
theorem KZ(hT:TB T)(ha:g[a]?=some (.lst (cs.map b8.d)))(hz:cs.length<=9)(hg:cs.all u3=true)(hB:∀c∈cs,CB c)(hv:1<=v/\v<=9)(hc:g[c]?=some (.lst (i7 rs)))(hr:rs.length<=900)(hR:rs.all (j5 cs)=true)(h:∀g' b,Ex g g'->g.length<=b->Bd g' b cs v rs->Q (.ref b) g'):d0 T (k+10) 99 [.ref a,.int v,.ref c] g Q E :=
 aK6 hT ha () hB hc hr (λz=>by omega) (λ_ z=>by rw[hg] at z;cases z) (λ_ _ z=>absurd hv z) (λ_ _ _ z=>by rw[hR] at z;cases z) λ_ _ _ _=>h
theorem ax3(hT:TB0 T)(B:Bd g b cs v rs)(hz:cs.length<=9){s:Nat}(hs:s<2 ^ cs.length)(hp:p<cs.length)(h:∀g',Ex g g'->Q (.int (C0 cs s.testBit p:Nat)) g'):d0 T (k+2) 100 [.ref b,.int (s:Nat),.int (p:Nat)] g Q E:=by
 refine call_of hT.DC rfl ?_;dsimp[FD,d6,List.replicate];obtain⟨w,l,dd,nb,h1,h2,h3,h4,h5⟩:=B.ex;left;refine C6 (k:=k) hT.pX () ?_;left;refine X0 h1 rfl ?_;left;have e1:((2 ^ cs.length-1:Nat):Int)-(s:Nat)=((2 ^ cs.length-1-s:Nat):Int):=by omega
 rw[e1];have zk:(u6 (cs.map b8.lo)).length<=9:=aG (S7 _) (by simpa using hz);have IE:(pD cs).length=(u6 (cs.map b8.lo)).length:=by simp[pD]
 refine E7 (b7 T _) (λZ=>∃z2 z3,Z=[some (.int ((2 ^ cs.length-1-s:Nat):Int)),some (.int ((s |||2 ^ p:Nat):Int)),z2,z3]) (λi=>ql cs s.testBit p ((u6 (cs.map b8.lo)).getD i 0)) (λi=>(pD cs).getD i .br) (l:=pD cs) (k:=.lst dd) (λg' e=>o8 (b0 (e.at h4))) (by rw[IE];omega) ⟨none,none,rfl⟩ (λi x Z g' hx e sh=>?_) (λg' e=>?_) (O6 (b7 T _) (b0 h4) λQ q=>?_)
 ·obtain⟨z2,z3,rfl⟩:=sh;have nF:=hx;rw[pD,aj,aa] at nF;obtain⟨lF,hd,rfl⟩:=nF;have eg:(u6 (cs.map b8.lo)).getD i 0=lF:=by simp[List.getD,hd]
  refine j8 ?_
  try show dh _ _ _ _ _ _
  left;refine xG ?_;left;have b1:=MF (n:=cs.length) (q:=meant cs .lower lF) (s:=s |||2 ^ p) (S:=λi=>s.testBit i||decide (i=p)) (λi _=>V5 s p i);have b2:=MF (n:=cs.length) (q:=meant cs .lower lF) (s:=2 ^ cs.length-1-s) (S:=λi=>!s.testBit i) (λi hi=>VV hs hi);rw[b1,eg];have hu:ql cs s.testBit p lF=(((List.range cs.length).any λi=>(s.testBit i||decide (i=p))&&meant cs .lower lF i)&&(List.range cs.length).any λi=>!s.testBit i&&meant cs .lower lF i):=rfl;rw[hu];cases (List.range cs.length).any λi=>(s.testBit i||decide (i=p))&&meant cs .lower lF i with
  |false =>
   refine fC rfl ?_;exact⟨rfl,e,fC rfl ⟨_,_,rfl⟩⟩
  |true =>
   refine iu rfl ?_;left;refine xG ?_;left;rw[b2,rD];refine⟨rfl,e,?_⟩;cases (List.range cs.length).any λi=>!s.testBit i&&meant cs .lower lF i with
   |false=>exact fC rfl ⟨_,_,rfl⟩
   |true =>
    refine iu rfl ?_;left;refine⟨?_,e,_,_,rfl⟩;simp[List.getD,hx]
 ·refine E1 (b0 b9) ?_;have:(((List.range (pD cs).length).filter λi=>ql cs s.testBit p ((u6 (cs.map b8.lo)).getD i 0)).map λi=>(pD cs).getD i .br).length=C0 cs s.testBit p:=by
   rw[ai,IE,aW3 (u6 (cs.map b8.lo)) 0 (ql cs s.testBit p)]
   rfl
  rw[this];exact h _ (e.trans (Ex.snoc _ _))
 ·left;exact X0 h1 rfl q
theorem NW{q:b8->b8->Bool}(hp:p<cs.length):gh (ud cs q) (p:Int)=some (.int ((je cs.length λj=>q (bN cs j) (bN cs p):Nat):Int)):=B4 (by rw[ud,aj,bC hp];rfl)
theorem MG{s:Nat}{q:Nat->Bool}:((Builtin.bitAnd (s:Nat) ((je n q:Nat):Int)) != 0)=(List.range n).any λi=>s.testBit i&&q i:=by rw[Et,zY]
theorem aB6(hT:TB0 T)(B:Bd g b cs v rs)(hz:cs.length<=9)(hr:rs.length<=900){s:Nat}(hs:s<2 ^ cs.length)(hp:p<cs.length)(h:∀g',Ex g g'->Q (zC (fault cs v rs s.testBit p)) g'):d0 T (k+3) 101 [.ref b,.int (s:Nat),.int (p:Nat)] g Q E:=by
 refine call_of hT.DB rfl ?_;dsimp[FF,d6,List.replicate];obtain⟨w,l,dd,nb,h1,h2,h3,h4,h5⟩:=B.ex;left;refine X0 h1 rfl ?_;left;refine s9 (b0 h2) (NW hp) ?_;refine xG ?_;left;rw[MG];cases c1:(List.range cs.length).any λi=>s.testBit i&&mw (bN cs i) (bN cs p) with
 |true =>
  refine iu rfl ?_;left;have:fault cs v rs s.testBit p="wear":=by unfold fault F9;rw[aH c1]
  rw[this] at h;exact h _ (Ex.refl _)
 |false =>
 refine fC rfl ?_;left;refine X0 h1 rfl ?_;left;refine s9 (b0 h3) (NW hp) ?_;refine xG ?_;left;rw[MG];cases c2:(List.range cs.length).any λi=>s.testBit i&&lg (bN cs i) (bN cs p) with
 |true =>
  refine iu rfl ?_;left;have:fault cs v rs s.testBit p="year":=by unfold fault F9 F0;rw[aE (by rw[c1];decide),aH c2]
  rw[this] at h;exact h _ (Ex.refl _)
 |false =>
 refine fC rfl ?_;left;refine ax3 (k:=k) hT B hz hs hp λg2 e2=>?_;left;refine X0 (e2.at h1) rfl ?_;left;refine if2 (λc3=>?_) (λc3=>?_)
 ·left;have:fault cs v rs s.testBit p="anvil":=by unfold fault F9 F0;rw[aE (by rw[c1];decide),aE (by rw[c2];decide),aH c3]
  rw[this] at h;exact h _ e2
 left;obtain⟨as,q1,q2,q3,q4,q5⟩:=h5.ex;have PV:p<as.length:=by omega
 have CP:=ao PV;generalize as[p]=ap at CP;obtain⟨ms,m1,m2,m3⟩:=q5 p ap CP;refine comp_map (b7 T _) (λZ=>∃z1 z2,Z=[some (.int (s:Nat)),z1,z2]) (λi=>.int ((s &&& ms.getD i 0:Nat):Int)) (l:=d4 ms) (k:=.lst ap) (λg' e=>o8 (b0 ((e2.trans e).at m1))) (by simp[d4];omega) ⟨none,none,rfl⟩ (λi x Z g' hx e sh=>?_) (λg' e=>?_) (O6 (b7 T _) (b0 (e2.at m1)) λQ q=>?_)
 ·obtain⟨z1,z2,rfl⟩:=sh;rw[d4,aj,aa] at hx;obtain⟨m,hm,rfl⟩:=hx;refine j8 ?_
  try show aX _ _ _ _ _ _
  left;refine xG ?_;refine⟨?_,e,_,_,rfl⟩;rw[Et];simp[List.getD,hm]
 ·refine Yy (ns:=(List.range (d4 ms).length).map λi=>((s &&& ms.getD i 0:Nat):Int)) (b0 (by rw[bR];exact b9)) ?_;have en:(((List.range (d4 ms).length).map λi=>((s &&& ms.getD i 0:Nat):Int)).all λn=>n != 0)=O4 cs rs s.testBit p:=by
   rw[aS,bG];unfold O4;rw[bG];constructor
   ·intro hA r hr;cases Cq:meant cs r.w r.y p with
    |false=>rfl
    |true =>
     have hm:=(m3 (je cs.length (meant cs r.w r.x))).mpr ⟨r,hr,Cq,rfl⟩;obtain⟨i,hi⟩:=bO.mp hm;have Iq:=(ak.mp hi).1;have:=hA ((s &&& je cs.length (meant cs r.w r.x):Nat):Int) (aZ.mpr ⟨i,aN.mpr (by simpa[d4] using Iq),by simp[List.getD,hi]⟩);rw[zY] at this;exact this
   ·intro hA x hx;obtain⟨i,hi,rfl⟩:=aZ.mp hx;have hi:i<ms.length:=by simpa[d4] using hi
    have hm:ms.getD i 0∈ms:=by simp[List.getD,hi]
    obtain⟨r,hr,Cq,em⟩:=(m3 _).mp hm;have:=hA r hr;rw[Cq,ia,eX] at this;rw[em,zY];exact this
  rw[en];left;cases c4:O4 cs rs s.testBit p with
  |true =>
   left;have:fault cs v rs s.testBit p="":=by unfold fault F9 F0;rw[aE (by rw[c1];decide),aE (by rw[c2];decide),aE c3,aH c4]
   rw[this] at h;exact h _ (e2.trans (e.trans (Ex.snoc _ _)))
  |false =>
   left;have:fault cs v rs s.testBit p="rule":=by unfold fault F9 F0;rw[aE (by rw[c1];decide),aE (by rw[c2];decide),aE c3,aE (by rw[c4];decide)]
   rw[this] at h;exact h _ (e2.trans (e.trans (Ex.snoc _ _)))
 ·left;refine X0 (e2.at h1) rfl ?_;left;exact s9 (b0 (e2.at q1)) (B4 (by rw[aj,CP];rfl)) q
end
def uV:aW:=⟨2,5,(.seq (.set 2 (cH (.prim .lst (rG (fh "coin") (fh "coin") (fh "lower") (fh "upper"))) (.call 4 (dA aM (bc 4))))) (.seq (.set 3 (cY .jZ (cY .len ba))) (.seq (.ifs (dD .Eq bg (fh "lower")) (.seq (.set 3 (cY .sset (.comp [] 2 (.one 1) (.eU ba) .no (cH ba (bc 0))))) .pass) .pass) (.seq (.ifs (dD .Eq bg (fh "upper")) (.seq (.set 3 (cY .sset (.comp [] 2 (.one 1) (.eU ba) .no (cH ba (bc 2))))) .pass) .pass) (.seq (.ifs (dD .Lt (cY .len bz) (bc 2)) (.seq (.ret (.lit .br)) .pass) .pass) (.seq (.set 4 (.call 4 (dA aM (cY .len bz)))) (.seq (.ret (.prim .tup (fe bg (cH bz cS) (cH bz (bH (.bin .Mod) (bH (.bin .Add) (bH (.bin .Add) cS (bc 1)) (.call 4 (dA aM (bH (.bin .Sub) (cY .len bz) (bc 1))))) (cY .len bz)))))) .pass)))))))⟩
def GD:aW:=⟨2,5,(.seq (.set 2 (.prim .lst .nil)) (.seq (.dq (.one 3) (.eQ (cH (.prim .lst (zA (bc 0) (bc 0) (bc 1) (bc 1) (bc 2) (bc 4))) (.call 4 (dA aM (bc 6))))) (.seq (.set 4 (.call 105 (dA aM ba))) (.seq (.ifs (dD .IsNot cS (.lit .br)) (.seq (.expr (.dG .append bg (dZ cS))) .pass) .pass) .pass))) (.seq (.ret bg) .pass)))⟩
def Ft:aW:=⟨4,8,(.seq (.mx (.many [4,5,6]) bz) (.seq (.ifs (dD .Eq cS (fh "coin")) (.seq (.ret (.jY (bH (.cmp .NotEq) bg eL) (bH (.cmp .In) dF ba))) .pass) .pass) (.seq (.set 7 (.ite (dD .Eq cS (fh "lower")) (bc 0) (bc 2))) (.seq (.ret (.jY (bH (.cmp .NotEq) (cH (cH aM bg) fN) eL) (bH (.cmp .In) dF (.comp [7,0] 4 (.one 3) (.eU ba) .no (cH (cH ba bz) aM))))) .pass))))⟩
def xW:aW:=⟨5,10,(.seq (.set 5 (cH aM cS)) (.seq (.dq (.one 6) (.eU bz) (.seq (.dq (.one 7) (.eU (bH .lst (bc 0) (bc 2))) (.seq (.ifs (.dB (dD .Eq (cH (cH aM eL) fN) (cH dF fN)) (.eI (.fo (.call 17 (dA (cH (cH aM eL) (bH (.bin .Add) fN (bc 1))) (cH dF (bH (.bin .Add) fN (bc 1)))))))) (.seq (.ret (fh "wear")) .pass) .pass) .pass)) .pass)) (.seq (.ifs (.dB (dD .Gt (cH dF (bc 4)) (bc 0)) (dD .Gt (cY .max (bH (.bin .Add) (cY .lst (bc 0)) (.comp [0] 3 (.one 2) (.eU bz) .no (cH (cH aM bg) (bc 4))))) (cH dF (bc 4)))) (.seq (.ret (fh "year")) .pass) .pass) (.seq (.set 8 (bH (.bin .Add) (.comp [0] 3 (.one 2) (.eU bz) .no (cH (cH aM bg) (bc 0))) (cY .lst (cH dF (bc 0))))) (.seq (.set 9 (.comp [3,0] 4 (.one 3) (.eQ (cY .len aM)) (dD .NotIn bz aM) (cH (cH ba bz) (bc 0)))) (.seq (.ifs (dD .Gt (cY .pH (.comp [9] 3 (.one 2) (.eU ku) (dD .In bg aM) bg)) ba) (.seq (.ret (fh "anvil")) .pass) .pass) (.seq (.ifs (.eI (.fo (cY .all (.comp [3,0,4] 5 (.one 4) (.eU bg) .no (.call 107 (rG ba aM bg cS)))))) (.seq (.ret (fh "rule")) .pass) .pass) (.seq (.ret (fh "")) .pass))))))))⟩
def xX:aW:=⟨2,4,(.seq (.mx (.many [2,3]) (.call 26 (dA aM ba))) (.seq (.ret (.prim .tup (fe bg bz (.call 106 (dA aM bg))))) .pass))⟩
structure TBR(T:Nat->Option aW):Prop where
 lf:LF T
 DA:T 105=some uV
 Dz:T 106=some GD
structure tU(T:Nat->Option aW):Prop extends TBR T where
 Dm:T 17=some Av
 Dy:T 107=some Ft
 Dx:T 108=some xW
 qa:T 110=some xX
instance{T:Nat->Option aW}:CoeOut (tU T) (TBR T):=⟨tU.toTBR⟩
theorem GI(hi:i<cs.length)(h:meant cs w x i=true):(fQ cs w x).isEmpty=false:=by
 cases e:fQ cs w x with
 |nil =>
  have:i∈fQ cs w x:=bp.mpr ⟨aN.mpr hi,h⟩;rw[e] at this;cases this
 |cons _ _=>rfl
section
variable{T:Nat->Option aW}{d:Nat}
theorem Ko{ns:List Int}{x:Int}:x∈u6 ns↔x∈ns:=by
 rw[(U0 ns).mem_iff,ST.FH];simp
theorem MQ(ns:List Int):(u6 ns).Nodup:=(U0 ns).nodup_iff.mpr (ST.Fv _ _ (by simp))
theorem Ku(hT:TBR T)(D0:m7 g d){L:List Int}{sL:Nat}(hN:N.rt=Q)(hL:g[sL]?=some (.lst (L.map .int)))(hd:sL≠d)(nd:L.Nodup)(hl:L.length<=9)(hm:∀x∈L,(fQ cs w x).isEmpty=false)(h:∀g',m7 g' d->Gr d g g'->Q .br g'/\∀r,j5 cs r=true->Q r.d g'):wpS (d0 T (k+1)) (match uV.body with|.seq _ (.seq _ (.seq _ (.seq _ b)))=>b|x=>x) N [some (.ref d),some (.ref a),some (.str w.s),some (.ref sL),none] g E:=by
 subst hN;dsimp[uV];left;refine if2 (λh2=>?_) (λh2=>?_)
 ·left;exact(h g D0 (Gr.refl _ _)).1
 rw[ai] at h2;left;refine j4 (k:=k) hT.lf.pull D0 (by rw[ai];omega) (by rw[ai];omega) λr1 g1 h0 h1 D1 G1=>?_;rw[ai] at h1;left;obtain⟨j,rfl⟩:∃j:Nat,r1=j:=⟨r1.toNat,by omega⟩
 have hj:j<L.length:=by omega
 have gj:gh (L.map D.int) (j:Int)=some (.int L[j]):=B4 (by rw[aj,ao hj];rfl);refine s9 (b0 (G1.at hd hL)) gj ?_;left;refine E1 (b0 (G1.at hd hL)) ?_;left;refine j4 (k:=k) hT.lf.pull D1 (by rw[ai];omega) (by rw[ai];omega) λr2 g2 k0 k1 D2 G2=>?_;rw[ai] at k1;left;have sN:=(G1.trans G2).at hd hL;refine E1 (b0 sN) ?_;left;refine S0 (by rw[ai];omega) ?_;obtain⟨j2,rfl⟩:∃j:Nat,r2=j:=⟨r2.toNat,by omega⟩
 have em:((j:Int)+1+(j2:Nat)) % ((L.map D.int).length:Nat)=(((j+1+j2) % L.length:Nat):Int):=by rw[ai,Int.natCast_emod,show((j+1+j2:Nat):Int)=(j:Int)+1+(j2:Nat) by omega]
 rw[em];have sA:(j+1+j2) % L.length<L.length:=Ol _ ();have ff:(j+1+j2) % L.length≠j:=by
  by_cases hc:j+1+j2<L.length
  ·rw[Nat.mod_eq_of_lt hc];omega
  ·rw[Nat.mod_eq_sub_mod (),Nat.mod_eq_of_lt ()];omega
 generalize (j+1+j2) % L.length=j3 at *;have Rz:gh (L.map D.int) (j3:Int)=some (.int L[j3]):=B4 (by rw[aj,ao sA];rfl);refine s9 (b0 sN) Rz ?_;left;refine(h g2 D2 (G1.trans G2)).2 ⟨w,L[j],L[j3]⟩ ?_;unfold j5;rw[hm _ (cg hj),hm _ (cg sA),aB (λz=>ff ((mR nd).mp z).symm)]
 rfl
theorem UR(hT:TBR T)(ha:g[a]?=some (.lst (cs.map b8.d)))(hz:cs.length<=9)(hd:d<a)(D0:m7 g d)(h:∀g',m7 g' d->Gr d g g'->Q .br g'/\∀r,j5 cs r=true->Q r.d g'):d0 T (k+2) 105 [.ref d,.ref a] g Q E:=by
 refine call_of hT.DA rfl ?_;dsimp[uV,d6,List.replicate];left;refine j4 (k:=k) hT.lf.pull (D0.snoc _) ∅ ∅ λr0 g1 h0 h1 D1 G1=>?_;have He:=(Gr.snoc d g _).trans G1;have uy:=He.at (cc hd) ha;have l1:=He.len;have dl:=D0.lt;have hw:∃w:RW,gh [D.str "coin",D.str "coin",D.str "lower",D.str "upper"] r0=some (.str w.s):=by
  obtain⟨j,rfl⟩:∃j:Nat,r0=j:=⟨r0.toNat,by omega⟩
  have:j=0\/j=1\/j=2\/j=3:=by omega
  rcases this with rfl|rfl|rfl|rfl
  ·exact⟨.cG,rfl⟩
  ·exact⟨.cG,rfl⟩
  ·exact⟨.lower,rfl⟩
  ·exact⟨.upper,rfl⟩
 obtain⟨w,hw⟩:=hw;left;refine s9 (b0 (G1.at (cc dl) b9)) hw ?_;left;refine vW () (by simp;omega) ?_;left;have e2:=Ex.snoc g1 (O.lst (k8 0 (Int.toNat ((cs.map b8.d).length:Nat))));have qJ:=b9 (g:=g1) (o:=O.lst (k8 0 (Int.toNat ((cs.map b8.d).length:Nat))));generalize g1++[O.lst (k8 0 (Int.toNat ((cs.map b8.d).length:Nat)))]=g2 at *;have zx:=e2.at uy;have D2:=e2.draw D1;have G2:=He.trans (e2.gr d);have fld:∀(f:Int) (w:RW) (N:Ends),(f=0\/f=2)->(∀i c,cs[i]?=some c->∀x,meant cs w x i=decide (A2 f c=x))->N.rt=Q->aX (d0 T (k+1)) (.prim .sset (.cons (.comp [] 2 (.one 1) (.eU (.var 1)) .no (.prim .ix (.cons (.var 1) (.cons (.lit (.int f)) .nil)))) .nil)) [some (.ref d),some (.ref a),some (.str w.s),some (.ref g1.length),none] g2 (λx g3=>wpS (d0 T (k+1)) (match uV.body with|.seq _ (.seq _ (.seq _ (.seq _ b)))=>b|x=>x) N [some (.ref d),some (.ref a),some (.str w.s),some x,none] g3 E) E:=λf w N hf hm hN=>by
  left;refine comp_map (b7 T _) (λZ=>∃z0 z1,Z=[z0,z1]) (λi=>.int (A2 f (bN cs i))) (l:=cs.map b8.d) (k:=.lst a) (λg' e=>o8 (b0 (e.at zx))) (by simp;omega) ⟨none,none,rfl⟩ (λi x Z g' hx e sh=>?_) (λg' e=>?_) (O6 (b7 T _) (b0 zx) λQ q=>w_var (d:=.ref a) rfl q)
  ·obtain⟨z0,z1,rfl⟩:=sh;rw[aj,aa] at hx;obtain⟨c,hc,rfl⟩:=hx;refine j8 ?_
   try show aX _ _ _ _ _ _
   left;refine x5 (L3 hf c) ?_;exact⟨by rw[E0 hc],e,_,_,rfl⟩
  ·refine bC1 (ns:=(List.range cs.length).map λi=>A2 f (bN cs i)) (b0 (by rw[bR];rw[b9,ai];rfl)) (by simp;omega) ?_;have e3:=(e.trans (Ex.snoc g' (O.lst ((List.range (cs.map b8.d).length).map λi=>D.int (A2 f (bN cs i)))))).trans (Ex.snoc _ (O.lst ((u6 ((List.range cs.length).map λi=>A2 f (bN cs i))).map .int)));have zk:(u6 ((List.range cs.length).map λi=>A2 f (bN cs i))).length<=9:=aG (S7 _) (by simpa using hz);refine Ku (k:=k) hT (e3.draw D2) hN b9 (by have:=D2.lt;have:=e.len;simp;omega) (MQ _) zk (λx hx=>?_) λg4 D4 G4=>h g4 D4 (G2.trans ((e3.gr d).trans G4));rw[Ko] at hx;obtain⟨i,hi,rfl⟩:=aZ.mp hx;have hi:=aN.mp hi;have hc:=ao hi;refine GI hi ?_;rw[hm i _ hc,E0 hc];exact aw rfl
 cases w with
 |cG =>
  refine fC (by decide +kernel) ?_;left;refine fC (by decide +kernel) ?_
  try refine C7 ?_
  have er:k8 0 (Int.toNat ((cs.map b8.d).length:Nat))=((List.range cs.length).map λ(i:Nat)=>(i:Int)).map D.int:=by
   simp[k8]
  refine Ku (k:=k) hT (w:=.cG) (L:=(List.range cs.length).map λ(i:Nat)=>(i:Int)) D2 rfl (by rw[<- er];exact qJ) () ?_ (by simpa using hz) (λx hx=>?_) λg4 D4 G4=>h g4 D4 (G2.trans G4)
  ·exact List.pairwise_map.mpr (iF.imp λh e=>h ())
  ·obtain⟨i,hi,rfl⟩:=aZ.mp hx;exact GI (aN.mp hi) (aw rfl)
 |lower =>
  refine iu (by decide +kernel) ?_;refine V6 ?_;refine AV ?_;refine d5 (b7 T _) _ _ _ _ _ _ _ (λx g3 q=>?_) (λ_ _ z=>z) (fld 0 .lower ⟨λ_ g'=>Q .br g',Q,λ_ _=>False,λ_ _=>False⟩ (.inl rfl) (λi c hc x=>by simp only[meant,E0 hc];rfl) rfl);refine tS ?_;left;refine fC (by decide +kernel) ?_
  try refine C7 ?_
  exact q
 |upper =>
  refine fC (by decide +kernel) ?_;left;refine iu (by decide +kernel) ?_;refine V6 ?_;refine AV ?_;exact fld 2 .upper _ (.inr rfl) (λi c hc x=>by simp only[meant,E0 hc];rfl) rfl
end
section
variable{T:Nat->Option aW}{d:Nat}
theorem WG(hT:TBR T)(ha:g[a]?=some (.lst (cs.map b8.d)))(hz:cs.length<=9)(hd:d<a)(D0:m7 g d)(h:∀(rs:List cQ) b g',rs.length<=4->rs.all (j5 cs)=true->g'[b]?=some (.lst (i7 rs))->g.length<=b->m7 g' d->Gr d g g'->Q (.ref b) g'):d0 T (k+3) 106 [.ref d,.ref a] g Q E:=by
 refine call_of hT.Dz rfl ?_;dsimp[GD,d6,List.replicate];left;have dl:=D0.lt;have e1:=Ex.snoc g (O.lst []);have IB:=b9 (g:=g) (o:=O.lst []);have D1:=D0.snoc (O.lst []);generalize g++[O.lst []]=g1 at *;refine x6 (b7 T _) (pE (b7 T _) ?_);left;refine j4 (k:=k+1) hT.lf.pull (D1.snoc _) ∅ ∅ λr0 g2 h0 h1 D2 G2=>?_;have l1:=i8 IB;have hw:∃j:Nat,j<=4/\gh [D.int 0,D.int 0,D.int 1,D.int 1,D.int 2,D.int 4] r0=some (.int (j:Nat)):=by
  obtain⟨j,rfl⟩:∃j:Nat,r0=j:=⟨r0.toNat,by omega⟩
  have:j=0\/j=1\/j=2\/j=3\/j=4\/j=5:=by omega
  rcases this with rfl|rfl|rfl|rfl|rfl|rfl
  ·exact⟨0,by decide,rfl⟩
  ·exact⟨0,by decide,rfl⟩
  ·exact⟨1,by decide,rfl⟩
  ·exact⟨1,by decide,rfl⟩
  ·exact⟨2,by decide,rfl⟩
  ·exact⟨4,by decide,rfl⟩
 obtain⟨j,hj,hw⟩:=hw;refine s9 (b0 (G2.at () b9)) hw ?_;refine⟨j,rfl,by omega,by omega,_,λi Z g'=>m7 g' d/\Gr d g g'/\(∃rs:List cQ,rs.length<=i/\rs.all (j5 cs)=true/\g'[g.length]?=some (.lst (i7 rs)))/\∃z3 z4,Z=[some (.ref d),some (.ref a),some (.ref g.length),z3,z4],λ_ _ _ _=>w6,⟨D2,(e1.gr d).trans ((Gr.snoc d g1 _).trans G2),⟨[],by simp,rfl,((Gr.snoc d g1 _).trans G2).at () IB⟩,none,none,rfl⟩,λi x Z g' hx q=>?_,λZ g' q=>?_⟩
 ·obtain⟨D3,G3,⟨rs,hl,hA,hF⟩,z3,z4,rfl⟩:=q;obtain⟨hi,rfl⟩:=B3 hx;have hi:i<j:=by simpa using hi
  refine j8 ?_
  try show wpS _ _ _ _ _ _
  left;have zw:=G3.at (cc hd) ha;refine UR (k:=k) hT zw hz hd D3 λg4 D4 G4=>⟨?_,λr hr=>?_⟩
  ·left;exact⟨D4,G3.trans G4,⟨rs,by omega,hA,G4.at () hF⟩,_,_,rfl⟩
  ·left;refine iu rfl ?_;left;have De:=G4.at () hF
   try refine⟨M4 De,?_⟩
   left;refine L5 De (by simp[i7];omega) ?_;left;refine⟨D4.K3 (),(G3.trans G4).K3 (az _),⟨rs++[r],by simp;omega,by rw[nP,hA];simp[hr],?_⟩,_,_,rfl⟩;rw[get_set De];simp[i7]
 ·obtain⟨D3,G3,⟨rs,hl,hA,hF⟩,z3,z4,rfl⟩:=q;rw[o6] at hl
  try show wpS _ _ _ _ _ _
  left;exact h rs _ _ (by simp at hl;omega) hA hF (az _) D3 G3
theorem WD(hT:TBR T)(qa:T 110=some xX){n:Int}(hn:0<=n/\n<=9)(D0:m7 g d)(h:∀(cs:List b8) (rs:List cQ) a c (v:Int) g',(cs.length:Int)<=n->(∀c∈cs,iA c)->g'[a]?=some (.lst (cs.map b8.d))->g.length<=a->rs.length<=4->rs.all (j5 cs)=true->g'[c]?=some (.lst (i7 rs))->g.length<=c->a≠c->1<=v->v<=6->m7 g' d->Gr d g g'->Q (.tup [.ref a,.int v,.ref c]) g'):d0 T (k+5) 110 [.ref d,.int n] g Q E:=by
 refine call_of qa rfl ?_;dsimp[xX,d6,List.replicate];left;refine aV4 (k:=k) hT.lf ⟨hn.1,by omega⟩ D0 λcs a v g1 hl hg ha CS v1 v2 D1 G1=>?_;refine B1 rfl ?_
 try show wpS _ _ _ _ _ _
 left;have dl:=D0.lt;refine WG (k:=k+1) hT ha () () D1 λrs c g2 hr hR hc kA D2 G2=>?_;left;exact h cs rs a c v g2 hl hg (G2.at () ha) CS hr hR hc (aG G1.len kA) (aU (aC (i8 ha) kA)) v1 v2 D2 (G1.trans G2)
theorem Tz:((H.map λ(i:Nat)=>(i:Int)).any λm=>m==x)=H.any λi=>decide ((i:Int)=x):=by
 rw[ja]
 rfl
theorem zM(hH:∀i∈H,i<n)(q:Nat->Bool):((List.range n).any λi=>decide (i∈H)&&q i)=H.any q:=by
 rw[aS,aO,aO];constructor
 ·rintro⟨i,_,h⟩;rw[aP,bP] at h;exact⟨i,h.1,h.2⟩
 ·rintro⟨i,h1,h2⟩;exact⟨i,aN.mpr (hH i h1),by rw[aw h1,h2];rfl⟩
theorem N8(hi:i<cs.length):gh (cs.map b8.d) (i:Int)=some (bN cs i).d:=B4 (by rw[aj,ao hi,E0 (ao hi)];rfl)
theorem aG4(hT:tU T)(ha:g[a]?=some (.lst (cs.map b8.d)))(hh:g[hl]?=some (.lst (d4 H)))(hH:∀i∈H,i<cs.length)(wV:H.length<=50)(hp:p<cs.length)(h:∀g',Ex g g'->Q (.bl (!meant cs r.w r.y p||(List.range cs.length).any λi=>decide (i∈H)&&meant cs r.w r.x i)) g'):d0 T (k+1) 107 [.ref a,.ref hl,.int (p:Nat),r.d] g Q E:=by
 refine call_of hT.Dy rfl ?_;dsimp[Ft,d6,List.replicate];simp only[zM hH] at h;left;refine B1 (l:=[.str r.w.s,.int r.x,.int r.y]) rfl ?_;left;have lF:∀(w:RW) (f:Int),(f=0\/f=2)->(∀i x,meant cs w x i=decide (A2 f (bN cs i)=x))->(∀g',Ex g g'->Q (.bl (!meant cs w r.y p||H.any λi=>meant cs w r.x i)) g')->aX (d0 T k) (.jY (.prim (.cmp .NotEq) (.cons (.prim .ix (.cons (.prim .ix (.cons (.var 0) (.cons (.var 2) .nil))) (.cons (.var 7) .nil))) (.cons (.var 6) .nil))) (.prim (.cmp .In) (.cons (.var 5) (.cons (.comp [7,0] 4 (.one 3) (.eU (.var 1)) .no (.prim .ix (.cons (.prim .ix (.cons (.var 1) (.cons (.var 3) .nil))) (.cons (.var 0) .nil)))) .nil)))) [some (.ref a),some (.ref hl),some (.int (p:Nat)),some r.d,some (.str w.s),some (.int r.x),some (.int r.y),some (.int f)] g Q E:=λw f hf hm h=>by
  left;refine s9 (b0 ha) (N8 hp) ?_;left;refine x5 (L3 hf _) ?_;left;rw[hm] at h;by_cases c1:A2 f (bN cs p)=r.y
  ·refine fC (by rw[aw c1];rfl) ?_;left;refine comp_map (b7 T _) (λZ=>∃z2 z3,Z=[some (.int f),some (.ref a),z2,z3]) (λi=>.int (A2 f (bN cs (H.getD i 0)))) (l:=d4 H) (k:=.lst hl) (λg' e=>o8 (b0 (e.at hh))) (by simp[d4];omega) ⟨none,none,rfl⟩ (λi x Z g' hx e sh=>?_) (λg' e=>?_) (O6 (b7 T _) (b0 hh) λQ q=>w_var (d:=.ref hl) rfl q)
   ·obtain⟨z2,z3,rfl⟩:=sh;rw[d4,aj,aa] at hx;obtain⟨j,hj,rfl⟩:=hx;refine j8 ?_
    try show aX _ _ _ _ _ _
    left;refine s9 (b0 (e.at ha)) (N8 (hH j (aD hj))) ?_;left;refine x5 (L3 hf _) ?_;exact⟨by simp[List.getD,hj],e,_,_,rfl⟩
   ·refine tE (N6 (ms:=(List.range (d4 H).length).map λi=>A2 f (bN cs (H.getD i 0))) (b0 (by rw[bR];exact b9)) ?_);have e2:(((List.range (d4 H).length).map λi=>A2 f (bN cs (H.getD i 0))).any λm=>m==r.x)=(H.any λi=>meant cs w r.x i):=by
     rw[ja,aS,aO,aO];constructor
     ·rintro⟨i,hi,h1⟩;have hi:i<H.length:=by simpa[d4] using hi
      refine⟨H[i],cg hi,?_⟩;rw[hm];simpa[List.getD,hi] using h1
     ·rintro⟨j,hj,h1⟩;obtain⟨i,hi,rfl⟩:=bI.mp hj;refine⟨i,by simpa[d4] using hi,?_⟩;rw[hm] at h1;simpa[List.getD,hi] using h1
    rw[e2];simp only[decide_eq_true c1,Bool.not_true,Bool.false_or] at h;exact h _ (e.trans (Ex.snoc _ _))
  ·refine iu (by rw[aB c1];rfl) ?_;have:=h _ (Ex.refl _);rw[aB c1] at this;exact this
 obtain⟨w,x,y⟩:=r;cases w with
 |cG =>
  refine iu (show decide (RW.cG.s="coin")=true from by decide +kernel) ?_;left;by_cases c1:((p:Nat):Int)=y
  ·refine fC (by rw[aw c1];rfl) ?_;left;refine tE (N6 (ms:=H.map λ(i:Nat)=>(i:Int)) (by rw[<- EW];exact b0 hh) ?_);rw[Tz];have:=h _ (Ex.refl _);rw[show meant cs .cG y p=true from aw c1] at this;exact this
  ·refine iu (by rw[aB c1];rfl) ?_;have:=h _ (Ex.refl _);rw[show meant cs .cG y p=false from aB c1] at this;exact this
 |lower =>
  refine fC (show decide (RW.lower.s="coin")=false from by decide +kernel) ?_;left;refine iu (show decide (RW.lower.s="lower")=true from by decide +kernel) ?_;refine w_lit (V6 (Gi ?_));exact lF .lower 0 (.inl rfl) (λi x=>rfl) h
 |upper =>
  refine fC (show decide (RW.upper.s="coin")=false from by decide +kernel) ?_;left;refine fC (show decide (RW.upper.s="lower")=false from by decide +kernel) ?_;refine w_lit (V6 (Gi ?_));exact lF .upper 2 (.inr rfl) (λi x=>rfl) h
end
theorem KJ:∀{ns:List Int},ns≠[]->∃M∈ns,∀x∈ns,x<=M
 |[],h=>absurd rfl h
 |[x],_=>⟨x,by simp,by simp⟩
 |x::y::r,_=>by
  obtain⟨M,h1,h2⟩:=KJ (ns:=y::r) (by simp);by_cases h:x<=M
  ·refine⟨M,bx _ h1,λz hz=>?_⟩;rcases aL.mp hz with rfl|hz
   ·exact h
   ·exact h2 z hz
  ·refine⟨x,by simp,λz hz=>?_⟩;rcases aL.mp hz with rfl|hz
   ·exact Int.le_refl _
   ·have:=h2 z hz;omega
theorem WH{l m:List Int}(hl:l.Nodup)(hm:m.Nodup)(h:∀x,x∈l↔x∈m):l.length=m.length:=((List.perm_ext_iff_of_nodup hl hm).mpr h).length_eq
noncomputable abbrev kJ(H:List Nat):Nat->Bool:=λi=>decide (i∈H)
def fTail(n:Nat):MS->MS
 |.seq a b=>match n with
  |0=>.seq a b
  |n+1=>fTail n b
 |x=>x
section
variable{T:Nat->Option aW}{d:Nat}
theorem KL(hT:tU T)(hN:N.rt=Q)(ha:g[a]?=some (.lst (cs.map b8.d)))(hz:cs.length<=9)(hc:g[c]?=some (.lst (i7 rs)))(hr:rs.length<=900)(hh:g[hl]?=some (.lst (d4 H)))(hH:∀i∈H,i<cs.length)(wV:H.length<=50)(hp:p<cs.length)(w1:F9 cs (kJ H) p=false)(w2:F0 cs (kJ H) p=false)(h:∀g',Ex g g'->Q (.str (fault cs v rs (kJ H) p)) g') :
  wpS (d0 T (k+1)) (fTail 3 xW.body) N [some (.ref a),some (.int v),some (.ref c),some (.ref hl),some (.int (p:Nat)),some (bN cs p).d,z6,z7,none,none] g E:=by
 subst hN;dsimp[xW,fTail];left;refine comp_map (b7 T _) (λZ=>∃z1 z2,Z=[some (.ref a),z1,z2]) (λi=>.int (bN cs (H.getD i 0)).lo) (l:=d4 H) (k:=.lst hl) (λg' e=>o8 (b0 (e.at hh))) (by simp[d4];omega) ⟨none,none,rfl⟩ (λi x Z g' hx e sh=>?_) (λg1 e1=>?_) (O6 (b7 T _) (b0 hh) λQ q=>w_var (d:=.ref hl) rfl q)
 ·obtain⟨z1,z2,rfl⟩:=sh;rw[d4,aj,aa] at hx;obtain⟨j,hj,rfl⟩:=hx;refine j8 ?_
  try show aX _ _ _ _ _ _
  left;refine s9 (b0 (e.at ha)) (N8 (hH j (aD hj))) ?_;left;refine x5 (L3 (.inl rfl) _) ?_;exact⟨by simp[List.getD,hj,A2],e,_,_,rfl⟩
 have e2:=e1.trans (Ex.snoc g1 (O.lst ((List.range (d4 H).length).map λi=>D.int (bN cs (H.getD i 0)).lo)));have eh:(List.range (d4 H).length).map (λi=>D.int (bN cs (H.getD i 0)).lo)=(H.map λi=>(bN cs i).lo).map D.int:=by
  rw[bR];refine cU λi=>?_;rw[aj,aj];by_cases hi:i<H.length
  ·rw[bC (by simpa[d4] using hi),ao hi];simp[List.getD,hi]
  ·rw[aQ (by simpa[d4] using hi),aQ ()]
   rfl
 rw[eh] at e2 ⊢;have h2:=b9 (g:=g1) (o:=O.lst ((H.map λi=>(bN cs i).lo).map D.int));generalize g1++[O.lst ((H.map λi=>(bN cs i).lo).map D.int)]=g2 at *;left;refine x5 (L3 (.inl rfl) _) ?_;left;have e3:=Ex.snoc g2 (O.lst [D.int (A2 0 (bN cs p))]);refine Y5 (e3.at h2) b9 (by simp;omega) ?_;have e4:=(e2.trans e3).trans (Ex.snoc _ (O.lst ((H.map λi=>(bN cs i).lo).map D.int++[D.int (A2 0 (bN cs p))])));have h4:=b9 (g:=g2++[O.lst [D.int (A2 0 (bN cs p))]]) (o:=O.lst ((H.map λi=>(bN cs i).lo).map D.int++[D.int (A2 0 (bN cs p))]));have RQ:(H.map λi=>(bN cs i).lo).map D.int++[D.int (A2 0 (bN cs p))]=((H.map λi=>(bN cs i).lo)++[(bN cs p).lo]).map D.int:=by simp[A2]
 rw[RQ] at e4 h4 ⊢;generalize Cz:(H.map λi=>(bN cs i).lo)++[(bN cs p).lo]=fE at *;have lhr:fE.length<=51:=by rw[<- Cz];simp;omega
 generalize g2++[O.lst [D.int (A2 0 (bN cs p))]]=g3 at *;generalize g3++[O.lst (fE.map D.int)]=g4 at *;generalize g3.length=ah at *;left;refine E7 (b7 T _) (λZ=>∃z2 z3,Z=[some (.ref hl),some (.ref a),z2,z3]) (λi=>!decide (i∈H)) (λi=>.int (bN cs i).lo) (l:=k8 0 cs.length) (λg' e=>w6) (by rw[o6];omega) ⟨none,none,rfl⟩ (λi d Z g' hx e sh=>?_) (λg5 e5=>?_) (Ek (b7 T _) (by omega:cs.length<=1000) λQ q=>?_)
 ·obtain⟨z2,z3,rfl⟩:=sh;obtain⟨hi,rfl⟩:=B3 hx;rw[fA];refine j8 ?_
  try show dh _ _ _ _ _ _
  left;refine Y4 (ED ((e4.trans e).at hh) ?_);left;refine⟨rfl,e,?_⟩;by_cases wF:i∈H
  ·rw[aw wF];exact fC rfl ⟨_,_,rfl⟩
  ·rw[aB wF];refine iu rfl ?_;left;refine s9 (b0 ((e4.trans e).at ha)) (N8 hi) ?_;left;refine x5 (L3 (.inl rfl) _) ?_;exact⟨rfl,e,_,_,rfl⟩
 rotate_left
 ·left;refine E1 (b0 (e4.at ha)) ?_;rw[ai];exact q
 have e6:=e5.trans (Ex.snoc g5 (O.lst (((List.range (k8 0 cs.length).length).filter λi=>!decide (i∈H)).map λi=>D.int (bN cs i).lo)));have h6:=b9 (g:=g5) (o:=O.lst (((List.range (k8 0 cs.length).length).filter λi=>!decide (i∈H)).map λi=>D.int (bN cs i).lo));have el:(((List.range (k8 0 cs.length).length).filter λi=>!decide (i∈H)).map λi=>D.int (bN cs i).lo)=(((List.range cs.length).filter λi=>!decide (i∈H)).map λi=>(bN cs i).lo).map D.int:=by
  rw[o6,bR]
  rfl
 rw[el] at e6 h6 ⊢;generalize dW:(((List.range cs.length).filter λi=>!decide (i∈H)).map λi=>(bN cs i).lo)=lt' at *;generalize g5++[O.lst (lt'.map D.int)]=g6 at *;generalize g5.length=al at *;left;refine E7 (b7 T _) (λZ=>∃z1 z2,Z=[some (.ref al),z1,z2]) (λi=>decide (fE.getD i 0∈lt')) (λi=>.int (fE.getD i 0)) (l:=fE.map D.int) (k:=.lst ah) (λg' e=>o8 (b0 ((e6.trans e).at h4))) (by simp;omega) ⟨none,none,rfl⟩ (λi d Z g' hx e sh=>?_) (λg7 e7=>?_) (O6 (b7 T _) (b0 (e6.at h4)) λQ q=>w_var (d:=.ref ah) rfl q)
 ·obtain⟨z1,z2,rfl⟩:=sh;rw[aj,aa] at hx;obtain⟨x,hx,rfl⟩:=hx;have ex:fE.getD i 0=x:=by simp[List.getD,hx]
  refine j8 ?_
  try show dh _ _ _ _ _ _
  left;refine tE (N6 (b0 (e.at h6)) ?_);left;have ed:(lt'.any λm=>m==x)=decide (x∈lt'):=by
   rw[aS,aO,bP];exact⟨λ⟨y,hy,e⟩=>(eG.mp e)▸hy,λhy=>⟨x,hy,by simp⟩⟩
  rw[ed,ex];refine⟨rfl,e,?_⟩;refine if2 (λ_=>?_) (λ_=>?_)
  ·left;exact⟨rfl,e,_,_,rfl⟩
  ·exact⟨_,_,rfl⟩
 have es:((List.range (fE.map D.int).length).filter λi=>decide (fE.getD i 0∈lt')).map (λi=>D.int (fE.getD i 0))=(((List.range fE.length).filter λi=>decide (fE.getD i 0∈lt')).map λi=>fE.getD i 0).map D.int:=by
  rw[bR,ai]
  rfl
 have e8:=e7.trans (Ex.snoc g7 (O.lst (((List.range (fE.map D.int).length).filter λi=>decide (fE.getD i 0∈lt')).map λi=>D.int (fE.getD i 0))));refine bE4 (ns:=((List.range fE.length).filter λi=>decide (fE.getD i 0∈lt')).map λi=>fE.getD i 0) (b0 (by rw[es];exact b9)) (by rw[ai];exact dS K9 ()) ?_;generalize g7++[O.lst (((List.range (fE.map D.int).length).filter λi=>decide (fE.getD i 0∈lt')).map λi=>D.int (fE.getD i 0))]=g8 at *;have en:(ST.m5 [] (((List.range fE.length).filter λi=>decide (fE.getD i 0∈lt')).map λi=>fE.getD i 0)).length=C0 cs (kJ H) p:=by
  unfold C0;refine WH (ST.Fv _ _ (by simp)) ((MQ _).filter _) λx=>?_;rw[ST.FH,bp,Ko];unfold ql;rw[aP,aO,aO];simp only[List.not_mem_nil,false_or,List.mem_map,List.mem_filter,List.mem_range,Bool.and_eq_true,decide_eq_true_eq,Bool.or_eq_true,Bool.not_eq_true',decide_eq_false_iff_not];constructor
  ·rintro⟨i,⟨hi,hx⟩,rfl⟩;have hm:fE.getD i 0∈fE:=by simp[List.getD,hi]
   generalize fE.getD i 0=x at *;rw[<- dW] at hx;simp only[List.mem_map,List.mem_filter,List.mem_range,Bool.not_eq_true',decide_eq_false_iff_not] at hx;rw[<- Cz] at hm;obtain⟨j,⟨sC,Cv⟩,sA⟩:=hx;have zb:∃q,q<cs.length/\(q∈H\/q=p)/\(bN cs q).lo=x:=by
    rcases aV.mp hm with hm|hm
    ·obtain⟨q,hq,e⟩:=aZ.mp hm;exact⟨q,hH q hq,.inl hq,e⟩
    ·exact⟨p,hp,.inr rfl,(aY.mp hm).symm⟩
   obtain⟨q,q1,q2,q3⟩:=zb;refine⟨⟨bN cs j,?_,sA⟩,⟨q,q1,q2,q3⟩,j,sC,Cv,sA⟩;rw[E0 (ao sC)];exact cg sC
  ·rintro⟨_,⟨q,q1,q2,q3⟩,j,sC,Cv,sA⟩;have hm:x∈fE:=by
    rw[<- Cz];rcases q2 with q2|q2
    ·exact dy _ (aZ.mpr ⟨q,q2,q3⟩)
    ·subst q2;exact bt _ (by rw[q3];simp)
   obtain⟨i,hi,e⟩:=bI.mp hm;refine⟨i,⟨hi,?_⟩,by simp[List.getD,hi,e]⟩;rw[show fE.getD i 0=x by simp[List.getD,hi,e],<- dW];simp only[List.mem_map,List.mem_filter,List.mem_range,Bool.not_eq_true',decide_eq_false_iff_not];exact⟨j,⟨sC,Cv⟩,sA⟩
 rw[en];left;have uF:=(e4.trans e6).trans e8;refine if2 (λc3=>?_) (λc3=>?_)
 ·left;have:fault cs v rs (kJ H) p="anvil":=by unfold fault;rw[aE (by rw[w1];decide),aE (by rw[w2];decide),aH c3]
  rw[this] at h;exact h _ uF
 left;refine comp_map (b7 T _) (λZ=>∃z3 z4,Z=[some (.ref hl),some (.ref a),some (.int (p:Nat)),z3,z4]) (λi=>.bl (!meant cs (rs.getD i ⟨.cG,0,0⟩).w (rs.getD i ⟨.cG,0,0⟩).y p||(List.range cs.length).any λj=>decide (j∈H)&&meant cs (rs.getD i ⟨.cG,0,0⟩).w (rs.getD i ⟨.cG,0,0⟩).x j)) (l:=i7 rs) (k:=.lst c) (λg' e=>o8 (b0 ((uF.trans e).at hc))) (by simp[i7];omega) ⟨none,none,rfl⟩ (λi x Z g' hx e sh=>?_) (λg9 e9=>?_) (O6 (b7 T _) (b0 (uF.at hc)) λQ q=>w_var (d:=.ref c) rfl q)
 ·obtain⟨z3,z4,rfl⟩:=sh;rw[i7,aj,aa] at hx;obtain⟨r,qJ,rfl⟩:=hx;refine j8 ?_
  try show aX _ _ _ _ _ _
  left;refine aG4 (k:=k) hT ((uF.trans e).at ha) ((uF.trans e).at hh) hH wV hp λIZ tj=>?_;exact⟨by simp[List.getD,qJ],e.trans tj,_,_,rfl⟩
 have eb:((List.range (i7 rs).length).map λi=>D.bl (!meant cs (rs.getD i ⟨.cG,0,0⟩).w (rs.getD i ⟨.cG,0,0⟩).y p||(List.range cs.length).any λj=>decide (j∈H)&&meant cs (rs.getD i ⟨.cG,0,0⟩).w (rs.getD i ⟨.cG,0,0⟩).x j))=(rs.map λr=>!meant cs r.w r.y p||(List.range cs.length).any λj=>decide (j∈H)&&meant cs r.w r.x j).map D.bl:=by
  rw[bR];refine cU λi=>?_;rw[aj,aj];by_cases hi:i<rs.length
  ·rw[bC (by simpa[i7] using hi),ao hi];simp[List.getD,hi]
  ·rw[aQ (by simpa[i7] using hi),aQ ()]
   rfl
 rw[eb];refine AI (b0 b9) (Y7 _) ?_;have eN:(rs.map λr=>!meant cs r.w r.y p||(List.range cs.length).any λj=>decide (j∈H)&&meant cs r.w r.x j).all id=O4 cs rs (kJ H) p:=by
  rw[List.all_map]
  rfl
 rw[eN];left;have tj:=uF.trans (e9.trans (Ex.snoc g9 (O.lst ((rs.map λr=>!meant cs r.w r.y p||(List.range cs.length).any λj=>decide (j∈H)&&meant cs r.w r.x j).map D.bl))));cases c4:O4 cs rs (kJ H) p with
 |true =>
  left;have:fault cs v rs (kJ H) p="":=by unfold fault;rw[aE (by rw[w1];decide),aE (by rw[w2];decide),aE c3,aH c4]
  rw[this] at h;exact h _ tj
 |false =>
  left;have:fault cs v rs (kJ H) p="rule":=by unfold fault;rw[aE (by rw[w1];decide),aE (by rw[w2];decide),aE c3,aE (by rw[c4];decide)]
  rw[this] at h;exact h _ tj
end
section
variable{T:Nat->Option aW}{d:Nat}
theorem FT(c:b8):gh [D.int c.lo,D.tup (c.lm.map .int),D.int c.up,D.tup (c.um.map .int),D.int c.yr] 4=some (.int c.yr):=rfl
theorem Vw(hi:i∈H)(hH:∀i∈H,i<cs.length)(h:mw (bN cs i) (bN cs p)=true):fault cs v rs (kJ H) p="wear":=by
 unfold fault;rw[aH];unfold F9;rw[zM hH,aO];exact⟨i,hi,h⟩
theorem a47(hT:tU T)(hB:∀c∈cs,CB c)(ha:g[a]?=some (.lst (cs.map b8.d)))(hz:cs.length<=9)(hc:g[c]?=some (.lst (i7 rs)))(hr:rs.length<=900)(hh:g[hl]?=some (.lst (d4 H)))(hH:∀i∈H,i<cs.length)(wV:H.length<=50)(hp:p<cs.length)(h:∀g',Ex g g'->Q (.str (fault cs v rs (kJ H) p)) g'):d0 T (k+2) 108 [.ref a,.int v,.ref c,.ref hl,.int (p:Nat)] g Q E:=by
 refine call_of hT.Dx rfl ?_;have QW:∀i,i<cs.length->CB (bN cs i):=λi hi=>by rw[E0 (ao hi)];exact hB _ (cg hi)
 dsimp[xW,d6,List.replicate];left;refine s9 (b0 ha) (N8 hp) ?_;left;refine x6 (b7 T _) (lr (b7 T _) ?_);left;refine⟨hl,_,rfl,b0 hh,d4 H,λt Z g'=>Ex g g'/\(∀i∈H.take t,mw (bN cs i) (bN cs p)=false)/\∃z6 z7,Z=[some (.ref a),some (.int v),some (.ref c),some (.ref hl),some (.int (p:Nat)),some (bN cs p).d,z6,z7,none,none],λi Z g' q=>o8 (b0 (q.1.at hh)),⟨Ex.refl _,by simp,none,none,rfl⟩,λt x Z g' hx q=>?_,λZ g' q=>?_⟩
 ·obtain⟨e1,q,z6,z7,rfl⟩:=q;rw[d4,aj,aa] at hx;obtain⟨i,hi,rfl⟩:=hx;have wF:=aD hi;have ki:=hH i wF;refine j8 ?_
  try show wpS _ _ _ _ _ _
  left;refine x6 (b7 T _) (lr (b7 T _) ?_);left;have e2:=e1.trans (Ex.snoc g' (O.lst [D.int 0,D.int 2]));have h2:=b9 (g:=g') (o:=O.lst [D.int 0,D.int 2]);generalize g'++[O.lst [D.int 0,D.int 2]]=g2 at *;refine⟨_,_,rfl,b0 h2,[D.int 0,D.int 2],λj Z g3=>Ex g2 g3/\(1<=j->(decide ((bN cs i).lo=(bN cs p).lo)&&!jW (bN cs i).lm (bN cs p).lm)=false)/\(2<=j->(decide ((bN cs i).up=(bN cs p).up)&&!jW (bN cs i).um (bN cs p).um)=false)/\∃z7,Z=[some (.ref a),some (.int v),some (.ref c),some (.ref hl),some (.int (p:Nat)),some (bN cs p).d,some (.int (i:Nat)),z7,none,none],λj Z g3 q=>o8 (b0 (q.1.at h2)),⟨Ex.refl _,λz=>absurd z (),λz=>absurd z (),z7,rfl⟩,λj x Z g3 hx q=>?_,λZ g3 q=>?_⟩
  ·obtain⟨e3,q1,q2,z7,rfl⟩:=q;have hf:∃f:Int,(f=0\/f=2)/\x=.int f/\(f=0↔j=0)/\j<2:=by
    match j,hx with
    |0,hx=>cases hx;exact⟨0,.inl rfl,rfl,by simp,by omega⟩
    |1,hx=>cases hx;exact⟨2,.inr rfl,rfl,by simp,by omega⟩
    |j+2,hx=>simp at hx
   obtain⟨f,hf,rfl,Iy,hj⟩:=hf;have uG:=e2.trans e3;refine j8 ?_
   try show wpS _ _ _ _ _ _
   left;refine s9 (b0 (uG.at ha)) (N8 ki) ?_;left;refine x5 (L3 hf _) ?_;left;refine x5 (L3 hf _) ?_;left;have fin:∀g4,Ex g3 g4->(decide (A2 f (bN cs i)=A2 f (bN cs p))&&!jW (tH f (bN cs i)) (tH f (bN cs p)))=false->(Ex g2 g4/\(1<=j+1->(decide ((bN cs i).lo=(bN cs p).lo)&&!jW (bN cs i).lm (bN cs p).lm)=false)/\(2<=j+1->(decide ((bN cs i).up=(bN cs p).up)&&!jW (bN cs i).um (bN cs p).um)=false)/\∃z7,([some (.ref a),some (.int v),some (.ref c),some (.ref hl),some (.int (p:Nat)),some (bN cs p).d,some (.int (i:Nat)),some (.int f),none,none]:S)=[some (.ref a),some (.int v),some (.ref c),some (.ref hl),some (.int (p:Nat)),some (bN cs p).d,some (.int (i:Nat)),z7,none,none]):=λg4 e4 hw=>by
    refine⟨e3.trans e4,λ_=>?_,λz=>?_,_,rfl⟩
    ·by_cases h0:j=0
     ·rw[Iy.mpr h0] at hw;exact hw
     ·exact q1 ()
    ·have:¬f=0:=λw=>by have:=Iy.mp w;omega
     have f2:f=2:=hf.resolve_left this;rw[f2] at hw;exact hw
   refine if2 (λh1=>?_) (λh1=>?_)
   ·left;refine s9 (b0 (uG.at ha)) (N8 ki) ?_;left;refine x5 (ND hf _) ?_;left;refine x5 (ND hf _) ?_;left;refine aV2 (k:=k) hT.Dm ((QW i ki).Pl f) λg4 e4=>?_;left;cases hw:jW (tH f (bN cs i)) (tH f (bN cs p)) with
    |false =>
     left;have:mw (bN cs i) (bN cs p)=true:=by
      unfold mw;rcases hf with rfl|rfl
      ·rw[aw (show(bN cs i).lo=(bN cs p).lo from h1),show jW (bN cs i).lm (bN cs p).lm=false from hw];rfl
      ·rw[aw (show(bN cs i).up=(bN cs p).up from h1),show jW (bN cs i).um (bN cs p).um=false from hw];simp
     rw[Vw wF hH this] at h;exact h _ (uG.trans e4)
    |true =>
     left;exact fin g4 e4 (by rw[hw];simp)
   ·left;exact fin g3 (Ex.refl _) (by rw[aB h1];rfl)
  ·obtain⟨e3,q1,q2,z7,rfl⟩:=q
   try show wpS _ _ _ _ _ _
   try left
   refine⟨e2.trans e3,λi' iz=>?_,_,_,rfl⟩;rw[bE,hi] at iz;rcases aV.mp iz with iz|iz
   ·exact q i' iz
   ·have:i'=i:=by simpa using iz
    subst this;unfold mw;rw[q1 ∅,q2 ∅]
    rfl
 ·obtain⟨e1,q,z6,z7,rfl⟩:=q;rw[d4,ai,bK] at q;have w1:F9 cs (kJ H) p=false:=by
   unfold F9;rw[zM hH,List.any_eq_false];exact λi hi=>by rw[q i hi];decide
  try show wpS _ _ _ _ _ _
  refine tS ?_;left;refine x5 (FT _) ?_;left;have vZ:F0 cs (kJ H) p=(decide (0<(bN cs p).yr)&&H.any λi=>decide ((bN cs p).yr<(bN cs i).yr)):=by
   unfold F0;rw[zM hH,aS,aO,aP,aO];constructor
   ·rintro⟨i,h1,h2⟩;unfold lg at h2;rw[aP] at h2;exact⟨h2.1,i,h1,h2.2⟩
   ·rintro⟨h1,i,h2,h3⟩;exact⟨i,h2,by unfold lg;rw[h1,h3];rfl⟩
  refine if2 (λc1=>?_) (λc1=>?_)
  ·left;have e2:=e1.trans (Ex.snoc g' (O.lst [D.int 0]));have h2:=b9 (g:=g') (o:=O.lst [D.int 0]);generalize g'++[O.lst [D.int 0]]=g2 at *;generalize g'.length=z0 at *;refine comp_map (b7 T _) (λZ=>∃z1 z2,Z=[some (.ref a),z1,z2]) (λi=>.int (bN cs (H.getD i 0)).yr) (l:=d4 H) (k:=.lst hl) (λg' e=>o8 (b0 ((e2.trans e).at hh))) (by simp[d4];omega) ⟨none,none,rfl⟩ (λi x Z g' hx e sh=>?_) (λg3 e3=>?_) (O6 (b7 T _) (b0 (e2.at hh)) λQ q=>w_var (d:=.ref hl) rfl q)
   ·obtain⟨z1,z2,rfl⟩:=sh;rw[d4,aj,aa] at hx;obtain⟨j,hj,rfl⟩:=hx;refine j8 ?_
    try show aX _ _ _ _ _ _
    left;refine s9 (b0 ((e2.trans e).at ha)) (N8 (hH j (aD hj))) ?_;left;refine x5 (FT _) ?_;exact⟨by simp[List.getD,hj],e,_,_,rfl⟩
   have ey:(List.range (d4 H).length).map (λi=>D.int (bN cs (H.getD i 0)).yr)=(H.map λi=>(bN cs i).yr).map D.int:=by
    rw[bR];refine cU λi=>?_;rw[aj,aj];by_cases hi:i<H.length
    ·rw[bC (by simpa[d4] using hi),ao hi];simp[List.getD,hi]
    ·rw[aQ (by simpa[d4] using hi),aQ ()]
     rfl
   rw[ey];have e4:=e3.trans (Ex.snoc g3 (O.lst ((H.map λi=>(bN cs i).yr).map D.int)));refine Y5 (e4.at h2) b9 (by simp;omega) ?_;have e5:=e4.trans (Ex.snoc _ (O.lst ([D.int 0]++(H.map λi=>(bN cs i).yr).map D.int)));obtain⟨M,m1,m2⟩:=KJ (ns:=0::H.map λi=>(bN cs i).yr) (by simp);refine Zt (ns:=0::H.map λi=>(bN cs i).yr) (b0 b9) m1 m2 ?_;left;refine x5 (FT _) ?_;left;have em:decide ((bN cs p).yr<M)=F0 cs (kJ H) p:=by
    rw[vZ,aw c1,rD,aS,bP,aO];constructor
    ·intro hM;rcases aL.mp m1 with rfl|hm
     ·omega
     ·obtain⟨i,hi,rfl⟩:=aZ.mp hm;exact⟨i,hi,aw hM⟩
    ·rintro⟨i,hi,h1⟩;have:=m2 _ (bx _ (aZ.mpr ⟨i,hi,rfl⟩));have:=bh h1;omega
   rw[em];cases w2:F0 cs (kJ H) p with
   |true =>
    left;have:fault cs v rs (kJ H) p="year":=by unfold fault;rw[aE (by rw[w1];decide),aH w2]
    rw[this] at h;exact h _ (e2.trans e5)
   |false =>
    refine fC rfl ?_;refine C7 ?_;have sZ:=e2.trans e5;exact KL (k:=k) hT rfl (sZ.at ha) hz (sZ.at hc) hr (sZ.at hh) hH wV hp w1 w2 λg6 e6=>h g6 (sZ.trans e6)
  ·refine fC rfl ?_;refine C7 ?_;have w2:F0 cs (kJ H) p=false:=by rw[vZ,aB c1];rfl
   exact KL (k:=k) hT rfl (e1.at ha) hz (e1.at hc) hr (e1.at hh) hH wV hp w1 w2 λg6 e6=>h g6 (e1.trans e6)
end
def As:aW:=⟨3,3,(.seq (.ret (.dB (bH (.cmp .NotEq) (.call 91 (dA ba bg)) ba) (bH (.cmp .Is) (.call 101 (fe aM ba bg)) (.lit .br)))) .pass)⟩
def FE:aW:=⟨2,2,(.seq (.ret (.comp [0,1] 4 (.one 3) (.eQ (cY (.fld "size") aM)) (.fo (.call 115 (fe aM ba bz))) bz)) .pass)⟩
def E3(cs:List b8)(v:Int)(rs:List cQ)(s p:Nat):Bool:=!s.testBit p&&decide (fault cs v rs s.testBit p="")
def k6(cs:List b8)(v:Int)(rs:List cQ)(s:Nat):List Nat:=(List.range cs.length).filter (E3 cs v rs s)
theorem VR(x:Str):R9 (zC x)=decide (x=""):=by
 unfold zC;by_cases h:x=""
 ·rw[aH h,aw h];rfl
 ·rw[aE h,aB h];rfl
theorem ZH{s:Nat}:decide (((s |||2 ^ p:Nat):Int)=(s:Nat))=s.testBit p:=by
 rw[aS,bP];constructor
 ·intro h;have h:s |||2 ^ p=s:=by omega
  have:=V5 s p p;rw[h] at this;rw[this];simp
 ·intro h;have:s |||2 ^ p=s:=Bg λi=>by
   rw[V5];by_cases hi:i=p
   ·subst hi;rw[h];rfl
   ·rw[aB hi,Bool.or_false]
  rw[this]
structure TF(T:Nat->Option aW):Prop where
 sV:T 115=some As
 Dv:T 116=some FE
section
variable{T:Nat->Option aW}{d:Nat}
theorem aW1(hT:TB0 T)(sV:T 115=some As)(B:Bd g b cs v rs)(hz:cs.length<=9)(hr:rs.length<=900){s:Nat}(hs:s<2 ^ cs.length)(hp:p<cs.length)(h:∀g',Ex g g'->Q (.bl (E3 cs v rs s p)) g'):d0 T (k+4) 115 [.ref b,.int (s:Nat),.int (p:Nat)] g Q E:=by
 refine call_of sV rfl ?_;dsimp[As,d6,List.replicate];left;refine C6 (k:=k+2) hT.pX () ?_;left;rw[ZH];cases hb:s.testBit p with
 |true =>
  refine fC rfl ?_;have:E3 cs v rs s p=false:=by unfold E3;rw[hb];rfl
  rw[this] at h;exact h _ (Ex.refl _)
 |false =>
  refine iu rfl ?_;left;refine aB6 (k:=k) hT B hz hr hs hp λg1 e1=>?_;left;have:E3 cs v rs s p=R9 (zC (fault cs v rs s.testBit p)):=by unfold E3;rw[hb,VR];rfl
  rw[this] at h;exact h _ e1
theorem W9(hT:TB0 T)(hF:TF T)(B:Bd g b cs v rs)(hz:cs.length<=9)(hr:rs.length<=900){s:Nat}(hs:s<2 ^ cs.length)(h:∀g' l,Ex g g'->g.length<=l->g'[l]?=some (.lst (d4 (k6 cs v rs s)))->Q (.ref l) g'):d0 T (k+5) 116 [.ref b,.int (s:Nat)] g Q E:=by
 refine call_of hF.Dv rfl ?_;dsimp[FE,d6,List.replicate];obtain⟨w,l,dd,nb,h1,h2,h3,h4,h5⟩:=B.ex;left;refine E7 (b7 T _) (λZ=>∃z2 z3,Z=[some (.ref b),some (.int (s:Nat)),z2,z3]) (E3 cs v rs s) (λi=>.int (i:Nat)) (l:=k8 0 cs.length) (λg' e=>w6) (by rw[o6];omega) ⟨none,none,rfl⟩ (λi d Z g' hx e sh=>?_) (λg' e=>?_) (Ek (b7 T _) (by omega:cs.length<=1000) λQ q=>?_)
 ·obtain⟨z2,z3,rfl⟩:=sh;obtain⟨hi,rfl⟩:=B3 hx;rw[fA];refine j8 ?_
  try show dh _ _ _ _ _ _
  left;refine aW1 (k:=k) hT hF.sV (B.at e) hz hr hs hi λg2 e2=>?_;left;refine⟨rfl,e.trans e2,?_⟩;cases E3 cs v rs s i with
  |true =>
   refine iu rfl ?_;left;exact⟨rfl,e.trans e2,_,_,rfl⟩
  |false=>exact fC rfl ⟨_,_,rfl⟩
 ·rw[o6];exact h _ _ (e.trans (Ex.snoc _ _)) e.len b9
 ·left;exact X0 h1 rfl q
end
theorem TQ{l:List α}:cut l (some (n:Int)) none=l.drop n:=by
 have:¬((n:Int)<0):=by omega
 unfold cut HT.dQ;simp[this];by_cases h:n<=l.length
 ·rw[Nat.min_eq_left h,iY (by simp)]
 ·rw[Nat.min_eq_right (),fz (az _),fz ()];simp
structure Ask(g:G)(a c:Nat)(cs:List b8)(v:Int)(rs:List cQ):Prop where
 ha:g[a]?=some (.lst (cs.map b8.d))
 hz:cs.length<=9
 hG:∀c∈cs,iA c
 hv:1<=v/\v<=9
 hc:g[c]?=some (.lst (i7 rs))
 hr:rs.length<=900
 hR:rs.all (j5 cs)=true
section
variable{d:Nat}
theorem Ask.at(h:Ask g a c cs v rs)(e:Ex g g'):Ask g' a c cs v rs:=⟨e.at h.ha,h.hz,h.hG,h.hv,e.at h.hc,h.hr,h.hR⟩
theorem Ask.gr(h:Ask g a c cs v rs)(e:Gr d g g')(h1:a≠d)(h2:c≠d):Ask g' a c cs v rs:=⟨e.at h1 h.ha,h.hz,h.hG,h.hv,e.at h2 h.hc,h.hr,h.hR⟩
theorem Ask.hB(h:Ask g a c cs v rs):∀c∈cs,CB c:=λc hc=>⟨(h.hG c hc).l8,(h.hG c hc).u8⟩
theorem Ask.good(h:Ask g a c cs v rs):cs.all u3=true:=bG.mpr λc hc=>(h.hG c hc).good
end
def FG(n:Nat)(F:Nat->List Nat):Prop:=∀s p,p∈F s->p<n/\s.testBit p=false
def U2(n:Nat)(F:Nat->List Nat):Nat->Nat->List (List Nat)
 |0,s=>if s=2 ^ n-1 then[[]] else[]
 |f+1,s=>if s=2 ^ n-1 then[[]] else(F s).flatMap λp=>(U2 n F f (s |||2 ^ p)).map (p::·)
def j6(n:Nat)(F:Nat->List Nat)(s:Nat):List (List Nat):=U2 n F (2 ^ n) s
theorem xN{s:Nat}(h:s.testBit p=false):s<s |||2 ^ p:=by
 have h1:s<=s |||2 ^ p:=Nat.left_le_or
 have h2:s |||2 ^ p≠s:=λe=>by
  have:=V5 s p p;rw[e,h] at this;simp at this
 omega
theorem F5{β:Type}{l:List α}{f g:α->List β}(h:∀x∈l,f x=g x):l.flatMap f=l.flatMap g:=by
 induction l with
 |nil=>rfl
 |cons a r ih=>rw[cq,cq,h a (by simp),ih λx hx=>h x (by simp[hx])]
theorem KP{n:Nat}{F:Nat->List Nat}(hF:FG n F):∀(f s:Nat),s<2 ^ n->2 ^ n-1-s<=f->U2 n F f s=U2 n F (f+1) s
 |0,s,hs,hf=>by
  have e:s=2 ^ n-1:=by omega
  simp only[U2];rw[aH e,aH e]
 |f+1,s,hs,hf=>by
  rw[U2,U2];by_cases e:s=2 ^ n-1
  ·rw[aH e,aH e]
  ·rw[aE e,aE e];refine F5 λp hp=>?_;have:=hF s p hp;rw[KP hF f (s |||2 ^ p) (V1 hs this.1) (by have:=xN this.2;omega)]
theorem T2{F:Nat->List Nat}{s:Nat}(h:s=2 ^ n-1):j6 n F s=[[]]:=by
 unfold j6;obtain⟨m,hm⟩:∃m,2 ^ n=m+1:=⟨2 ^ n-1,by have:=gF (n:=n);omega⟩
 rw[hm,U2,aH h]
theorem ye{F:Nat->List Nat}(hF:FG n F){s:Nat}(hs:s<2 ^ n)(h:s≠2 ^ n-1):j6 n F s=(F s).flatMap λp=>(j6 n F (s |||2 ^ p)).map (p::·):=by
 unfold j6;obtain⟨m,hm⟩:∃m,2 ^ n=m+1:=⟨2 ^ n-1,by have:=gF (n:=n);omega⟩
 conv=>lhs;rw[hm,U2,aE h]
 refine F5 λp hp=>?_;have:=hF s p hp;rw[hm,<- KP hF m (s |||2 ^ p) (V1 hs this.1) ()]
theorem Vu{F:Nat->List Nat}(hF:FG n F){s:Nat}(hs:s<2 ^ n)(h:s≠2 ^ n-1):(j6 n F s).length=((F s).map λp=>(j6 n F (s |||2 ^ p)).length).sum:=by
 rw[ye hF hs h,List.length_flatMap];simp[Function.comp_def]
inductive kj(F:Nat->List Nat):Nat->Prop
 |zero:kj F 0
 |step {s p:Nat} (h:kj F s) (hp:p∈F s):kj F (s |||2 ^ p)
theorem kj.lt{F:Nat->List Nat}(hF:FG n F){s:Nat}(h:kj F s):s<2 ^ n:=by
 induction h with
 |zero=>exact ji _
 |step h hp ih=>exact V1 ih (hF _ _ hp).1
theorem C5(cs:List b8)(v:Int)(rs:List cQ):FG cs.length (k6 cs v rs):=λs p hp=>by
 obtain⟨h1,h2⟩:=bp.mp hp;unfold E3 at h2;rw[aP,gZ] at h2;exact⟨aN.mp h1,h2.1⟩
theorem aW2{β:Type}{f:α->List β}{l:List α}{x:α}(hx:l[j]?=some x)(m:Nat):(l.flatMap f)[((l.take j).flatMap f).length+m]?=((l.drop j).flatMap f)[m]?/\(l.drop j).flatMap f=f x++(l.drop (j+1)).flatMap f:=by
 have e:l.flatMap f=(l.take j).flatMap f++(l.drop j).flatMap f:=by rw[<- kn,ju]
 have hj:j<l.length:=(ak.mp hx).1;have ed:l.drop j=x::l.drop (j+1):=by
  rw[eM hj]
  congr 1
  exact(ak.mp hx).2
 constructor
 ·rw[e,cC ()]
  congr 1
  omega
 ·rw[ed,cq]
noncomputable abbrev kN(j:Nat):Key:=.inl (j:Int)
theorem WA{c:Key}{x:D}:x4 (putD kvs c x) c=some x:=by
 unfold x4 putD;by_cases h:(kvs.any λkv=>decide (kv.1=c))=true
 ·rw[aH h]
  induction kvs with
  |nil=>cases h
  |cons kv r ih =>
   rw[bL,fb];by_cases hk:kv.1=c
   ·rw[aH hk];simp[hk]
   ·rw[aE hk];simp only[hk,decide_false];refine ih ?_;rw[fP,du] at h;exact h.resolve_left (by simp[hk])
 ·rw[aE h,lO];have:kvs.find? (λkv=>decide (kv.1=c))=none:=by
   rw[kO];exact λkv hk hc=>h (aO.mpr ⟨kv,hk,hc⟩)
  rw[this];simp
theorem a14{c c':Key}{x:D}(hn:c≠c'):x4 (putD kvs c x) c'=x4 kvs c':=by
 unfold x4 putD;by_cases h:(kvs.any λkv=>decide (kv.1=c))=true
 ·rw[aH h];clear h
  induction kvs with
  |nil=>rfl
  |cons kv r ih =>
   rw[bL,fb,fb];by_cases hk:kv.1=c
   ·rw[aH hk];have:kv.1≠c':=λz=>hn (hk.symm.trans z);simp only[this,decide_false];exact ih
   ·rw[aE hk];by_cases oX:kv.1=c'
    ·simp only[oX,decide_true]
    ·simp only[oX,decide_false];exact ih
 ·rw[aE h,lO];have:[(c,x)].find? (λkv=>decide (kv.1=c'))=none:=by simp[hn]
  rw[this];simp
theorem WB{c:Key}{x:D}:(putD kvs c x).length<=kvs.length+1:=by
 unfold putD;split<;>simp
theorem Zm{i:Nat}(h:i≠j):kN i≠kN j:=λz=>h (by have:(i:Int)=j:=Sum.inl.inj z;omega)
def F4:aW:=⟨1,5,(.seq (.set 1 (.prim (.kT 0) .nil)) (.seq (.set 2 (.prim .lst .nil)) (.seq (.dq (.one 3) (.eQ (bH (.bin .Add) (cY (.fld "full") aM) (bc 1))) (.seq (.ifs (dD .In bz ba) (.seq (.expr (.dG .append bg (dZ bz))) (.seq (.dq (.one 4) (.eU (.call 116 (dA aM bz))) (.seq (.expr (.dG .kU ba (dZ (.call 91 (dA bz cS))))) .pass)) .pass)) .pass) .pass)) (.seq (.ret bg) .pass))))⟩
def EJ:aW:=⟨1,3,(.seq (.set 1 (.prim .qi .nil)) (.seq (.dq (.one 2) (.oW (.call 117 (dZ aM))) (.seq (.ifs (dD .Eq bg (cY (.fld "full") aM)) (.seq (.eJ ba bg (bc 1)) .pass) (.seq (.eJ ba bg (cY .sum (.comp [2,1] 4 (.one 3) (.eU (.call 116 (dA aM bg))) .no (cH ba (.call 91 (dA aM bz)))))) .pass)) .pass)) (.seq (.ret ba) .pass)))⟩
def Ah:aW:=⟨4,7,(.seq (.set 4 (.call 116 (dA aM bg))) (.seq (.set 5 bz) (.seq (.set 6 (bc 0)) (.seq (.kR (dD .GtE dF (cH ba (.call 91 (dA bg (cH cS eL))))) (.seq (.lG 5 .oh (cH ba (.call 91 (dA bg (cH cS eL))))) (.seq (.lG 6 .iadd (bc 1)) .pass))) (.seq (.ret (bH .tup (cH cS eL) dF)) .pass)))))⟩
def P8:aW:=⟨3,7,(.seq (.set 3 (.prim .lst .nil)) (.seq (.set 4 (bc 0)) (.seq (.set 5 bg) (.seq (.kR (dD .NotEq cS (cY (.fld "full") aM)) (.seq (.mx (.many [6,5]) (.call 122 (rG aM ba cS dF))) (.seq (.expr (.dG .append bz (dZ eL))) (.seq (.set 4 (.call 91 (dA cS eL))) .pass)))) (.seq (.ret bz) .pass)))))⟩
def K1:aW:=⟨1,2,(.seq (.set 1 (.call 121 (dZ aM))) (.seq (.ifs (dD .Eq (cH ba (bc 0)) (bc 0)) (.seq (.ret (.lit .br)) .pass) .pass) (.seq (.ret (.call 123 (fe aM ba (bc 0)))) .pass)))⟩
def Q9:aW:=⟨3,3,(.seq (.ret (.call 124 (dZ (.call 99 (fe aM ba bg))))) .pass)⟩
def Au:aW:=⟨3,3,(.seq (.ret (cH (.call 121 (dZ (.call 99 (fe aM ba bg)))) (bc 0))) .pass)⟩
theorem V3:∀{l m:List Nat},l.Nodup->(∀x∈l,x∈m)->l.length<=m.length
 |[],m,_,_=>cP _
 |x::r,m,nd,h=>by
  rw[dY] at nd;have:=V3 (l:=r) (m:=m.erase x) nd.2 λy hy=>(List.mem_erase_of_ne λz=>nd.1 (by rw[<- z];exact hy)).mpr (h y (by simp[hy]));have hx:=h x (by simp);rw[List.length_erase_of_mem hx] at this;have:=fu hx;simp;omega
section
variable{Z:S}
inductive yA(P:fj)(t:MT)(elt:ME)(Q:KD)(Z:S)(k:IK)(g1:G):Prop
 |mk (l:List D) (Sh:S->Prop) (w:Nat->D) (hk:∀g',Ex g1 g'->k.Is l g') (hl:l.length<=1000) (h0:Sh Z)
   (hs:∀i d Z g',l[i]?=some d->Ex g1 g'->Sh Z->jT t d Z λcA=>aX P elt cA g' (λy g4=>y=w i/\Ex g1 g4/\Sh cA) iV) (hd:∀g',Ex g1 g'->Q (.ref g'.length) (g'++[.lst ((List.range l.length).map w)])):yA P t elt Q Z k g1
theorem a68(hP:j9 P)(h:gK P it Z g (yA P t elt Q (H9 Z f7 n)) E):aX P (.comp f7 n t it .no elt) Z g Q E:=by
 refine J5 hP (B6 hP it _ _ _ _ _ _ (λk g1 h=>?_) (λ_ _ z=>z) h);obtain⟨l,Sh,w,hk,hl,h0,hs,hd⟩:=h;refine⟨l,λi ys Z g'=>Ex g1 g'/\ys=(List.range i).map w/\Sh Z,hl,λi ys Z g' q=>⟨hk _ q.1,by rw[q.2.1];simp⟩,⟨Ex.refl _,rfl,h0⟩,λi x ys Z g' hx q=>?_,λys Z g' q=>?_⟩
 ·obtain⟨e1,rfl,sh⟩:=q;refine A8 (λcA q=>AW (lY (d5 hP elt _ _ _ _ _ _ (λy g4 q=>?_) (λ_ _ z=>z) q))) (hs i x Z g' hx e1 sh);obtain⟨rfl,e4,sh⟩:=q;exact⟨e4,by rw[eZ,cV];rfl,sh⟩
 ·obtain⟨e1,rfl,sh⟩:=q;exact hd g' e1
end
def qf(g:G)(sd n:Nat)(K:List Nat):Prop:=∃S m,g[sd]?=some (.set S m)/\m=K.length/\K.Nodup/\(∀j∈K,j<2 ^ n)/\∀k:Int,S k=true↔∃j∈K,k=(j:Nat)
theorem qf.at{g g':G}{sd n:Nat}{K:List Nat}(h:qf g sd n K)(e:Ex g g'):qf g' sd n K:=let ⟨S,m,h1,h2⟩:=h;⟨S,m,e.at h1,h2⟩
theorem qf.size{sd:Nat}{K:List Nat}(h:qf g sd n K):K.length<=2 ^ n:=by
 obtain⟨S,m,_,_,nd,lt,_⟩:=h;have:=V3 (m:=List.range (2 ^ n)) nd λx hx=>aN.mpr (lt x hx);simpa using this
structure TW(T:Nat->Option aW):Prop where
 oC:T 117=some F4
 Du:T 121=some EJ
structure Wy(g:G)(w:Nat)(cs:List b8)(v:Int)(rs:List cQ):Prop where
 ex:∃kvs,g[w]?=some (.eE kvs)/\∀s,kj (k6 cs v rs) s->x4 kvs (kN s)=some (.int ((j6 cs.length (k6 cs v rs) s).length:Nat))
theorem Wy.at{g g':G}{w:Nat}{cs:List b8}{v:Int}{rs:List cQ}(h:Wy g w cs v rs)(e:Ex g g'):Wy g' w cs v rs:=let ⟨kvs,h1,h2⟩:=h.ex;⟨⟨kvs,e.at h1,h2⟩⟩
theorem aU7{l:List Nat}(hl:l.Pairwise (· > ·)){s x:Nat}(hi:l[i]?=some s)(hx:x∈l)(h:s<x):x∈l.take i:=by
 obtain⟨j,hj,rfl⟩:=bI.mp hx;obtain⟨iz,rfl⟩:=ak.mp hi;have Qw:j<i:=by
  rcases dw j i with z|z|z
  ·exact z
  ·subst z;omega
  ·have:=gO.mp hl i j iz hj z;omega
 exact bO.mpr ⟨j,by rw[cu Qw,ao hj]⟩
theorem En(h:n<=9):1<=2 ^ n/\2 ^ n<=512:=⟨gF,jR () h⟩
section
variable{T:Nat->Option aW}{d:Nat}{r:Nat}
theorem KU(hT:TB0 T)(hF:TF T)(oC:T 117=some F4)(B:Bd g b cs v rs)(hz:cs.length<=9)(hr:rs.length<=900)(h:∀(L:List Nat) l g',Ex g g'->g.length<=l->g'[l]?=some (.lst (d4 L))->L.Pairwise (· < ·)->(∀s,s∈L↔kj (k6 cs v rs) s)->L.length<=512->Q (.ref l) g'):d0 T (k+6) 117 [.ref b] g Q E:=by
 refine call_of oC rfl ?_;dsimp[F4,d6,List.replicate];have lD:=C5 cs v rs;generalize oY:k6 cs v rs=F at *;obtain⟨w0,l0,dd,nb,f1,f2,f3,f4,f5⟩:=B.ex;have p2:=En hz;left;refine Uy ?_;have s1:qf (g++[O.set (λk=>decide (k=0)) 1]) g.length cs.length [0]:=⟨_,_,b9,rfl,by simp,by simp;omega,λk=>by simp⟩
 have e1:=Ex.snoc g (O.set (λk=>decide (k=0)) 1);generalize g++[O.set (λk=>decide (k=0)) 1]=g1 at *;left;have e2:=e1.trans (Ex.snoc g1 (O.lst []));have s2:=s1.at (Ex.snoc g1 (O.lst []));have t2:=b9 (g:=g1) (o:=O.lst []);have l1:g.length<g1.length:=by obtain⟨_,_,z,_⟩:=s1;exact i8 z
 generalize g1++[O.lst []]=g2 at *;generalize g1.length=tl at *;refine x6 (b7 T _) (pE (b7 T _) ?_);left;refine X0 (e2.at f1) rfl ?_;left;have en:((2 ^ cs.length-1:Nat):Int)+1=((2 ^ cs.length:Nat):Int):=by omega
 rw[en];refine⟨by omega,by omega,k8 0 (2 ^ cs.length),λt Z g'=>Ex g g'/\(∃K,qf g' g.length cs.length K/\∀j,j∈K↔j=0\/∃s p,s<t/\kj F s/\p∈F s/\j=s |||2 ^ p)/\(∃L,g'[tl]?=some (.lst (d4 L))/\L.Pairwise (· < ·)/\(∀s,s∈L↔s<t/\kj F s)/\L.length<=t)/\∃z3 z4,Z=[some (.ref b),some (.ref g.length),some (.ref tl),z3,z4],λ_ _ _ _=>by rw[cE];exact w6,⟨e2,⟨[0],s2,λj=>by simp⟩,⟨[],t2,by simp,by simp,by simp⟩,none,none,rfl⟩,λt x Z g' hx q=>?_,λZ g' q=>?_⟩
 ·obtain⟨e3,⟨K,s3,hK⟩,⟨L,t3,pw,hL,wU⟩,z3,z4,rfl⟩:=q;obtain⟨ht,rfl⟩:=B3 hx;rw[fA];have oq:t∈K↔kj F t:=by
   rw[hK];constructor
   ·rintro(rfl|⟨s,p,_,h2,h3,rfl⟩)
    ·exact .zero
    ·exact .step h2 h3
   ·intro h;cases h with
    |zero=>exact .inl rfl
    |step h hp=>exact .inr ⟨_,_,xN (lD _ _ hp).2,h,hp,rfl⟩
  refine j8 ?_
  try show wpS _ _ _ _ _ _
  left;obtain⟨S,m,sg,sm,snd,slt,sS⟩:=id s3;refine YH sg ?_;left;have IL:S (t:Nat)=true↔kj F t:=by
   rw[sS,<- oq];exact⟨λ⟨j,hj,e⟩=>by rw[show t=j by omega];exact hj,λz=>⟨t,z,rfl⟩⟩
  cases hb:S (t:Nat) with
  |false =>
   have kf:¬kj F t:=λz=>by rw[IL.mpr z] at hb;cases hb
   refine fC rfl ?_;left;refine⟨e3,⟨K,s3,λj=>(hK j).trans ⟨?_,?_⟩⟩,⟨L,t3,pw,λs=>(hL s).trans ⟨λz=>⟨by omega,z.2⟩,λz=>⟨?_,z.2⟩⟩,by omega⟩,_,_,rfl⟩
   ·rintro(z|⟨s,p,h1,h2⟩)
    ·exact .inl z
    ·exact .inr ⟨s,p,by omega,h2⟩
   ·rintro(z|⟨s,p,h1,h2,h3⟩)
    ·exact .inl z
    ·refine .inr ⟨s,p,?_,h2,h3⟩;rcases cB s t with y|y
     ·exact y
     ·exact absurd (show kj F t by rw[show t=s by omega];exact h2) kf
   ·rcases cB s t with y|y
    ·exact y
    ·exact absurd (show kj F t by rw[show t=s by omega];exact z.2) kf
  |true =>
   have hR:=IL.mp hb;refine iu rfl ?_;left;refine L5 t3 (by simp[d4];omega) ?_;have OO:tl≠g.length:=by omega
   have s4:qf (g'.set tl (.lst (d4 L++[D.int (t:Nat)]))) g.length cs.length K:=⟨S,m,f6 sg OO,sm,snd,slt,sS⟩
   have t4:(g'.set tl (.lst (d4 L++[D.int (t:Nat)])))[tl]?=some (.lst (d4 (L++[t]))):=by rw[get_set t3];simp[d4]
   have e4:Ex g (g'.set tl (.lst (d4 L++[D.int (t:Nat)]))):=⟨by simp;exact e3.len,λi hi=>by rw[aA ()];exact e3.old i hi⟩
   generalize g'.set tl (.lst (d4 L++[D.int (t:Nat)]))=g4 at *;left;refine x6 (b7 T _) (lr (b7 T _) ?_);left;refine W9 (k:=k) hT hF (B.at e4) hz hr ht λg5 fl e5 Qz h5=>?_;rw[oY] at h5;have l4:tl<g4.length:=i8 t4;refine⟨fl,_,rfl,b0 h5,d4 (F t),λj Z g'=>Ex g g'/\g'[fl]?=some (.lst (d4 (F t)))/\g'[tl]?=some (.lst (d4 (L++[t])))/\(∃K',qf g' g.length cs.length K'/\∀x,x∈K'↔x∈K\/∃p∈(F t).take j,x=t |||2 ^ p)/\∃z4,Z=[some (.ref b),some (.ref g.length),some (.ref tl),some (.int (t:Nat)),z4],λj Z g' q=>o8 (b0 q.2.1),⟨e4.trans e5,h5,e5.at t4,⟨K,s4.at e5,λx=>by simp⟩,z4,rfl⟩,λj x Z g' hx q=>?_,λZ g' q=>?_⟩
   ·obtain⟨e6,h6,t6,⟨K',s6,uA⟩,z4,rfl⟩:=q;rw[d4,aj,aa] at hx;obtain⟨p,hp,rfl⟩:=hx;have qK:=aD hp;have om:=(lD _ _ qK)
    have tk:(F t).take (j+1)=(F t).take j++[p]:=by rw[bE,hp];rfl
    obtain⟨S6,m6,yS,Hs,vB,vC,ue⟩:=id s6;refine j8 ?_
    try show wpS _ _ _ _ _ _
    left;refine⟨Uo yS,?_⟩;left;refine C6 (k:=k+4) hT.pX () ?_;left;have hsz:=s6.size;refine bE2 yS () ?_;left;have dW:=V1 ht om.1;refine⟨⟨by simp;exact e6.len,λi hi=>by rw[aA ()];exact e6.old i hi⟩,f6 h6 (by have:=e4.len;omega),f6 t6 (),?_,_,rfl⟩;by_cases ki:S6 ((t |||2 ^ p:Nat):Int)=true
    ·refine⟨K',⟨_,_,get_set yS,by rw[aH ki];exact Hs,vB,vC,λk=>?_⟩,λx=>?_⟩
     ·rw[du,bP];constructor
      ·rintro(z|z)
       ·exact(ue k).mp z
       ·subst z;exact(ue _).mp ki
      ·exact λz=>.inl ((ue k).mpr z)
     ·rw[uA x,tk];simp only[List.mem_append,List.mem_singleton];constructor
      ·rintro(z|⟨q,z1,z2⟩)
       ·exact .inl z
       ·exact .inr ⟨q,.inl z1,z2⟩
      ·rintro(z|⟨q,z1|z1,z2⟩)
       ·exact .inl z
       ·exact .inr ⟨q,z1,z2⟩
       ·subst z1 z2;obtain⟨y,y1,y2⟩:=(ue _).mp ki;rw[<- uA,show(t |||2 ^ q)=y by omega];exact y1
    ·have Co:(t |||2 ^ p)∉K':=λz=>ki ((ue _).mpr ⟨_,z,rfl⟩);refine⟨K'++[t |||2 ^ p],⟨_,_,get_set yS,by rw[aE ki];simp[Hs],?_,λy hy=>?_,λk=>?_⟩,λx=>?_⟩
     ·rw[cT];exact⟨vB,by simp,λx hx y hy=>by cases aY.mp hy;exact λz=>Co (z▸hx)⟩
     ·rcases aV.mp hy with z|z
      ·exact vC y z
      ·cases aY.mp z;exact dW
     ·rw[du,bP,ue];simp only[List.mem_append,List.mem_singleton];constructor
      ·rintro(⟨y,y1,y2⟩|z)
       ·exact⟨y,.inl y1,y2⟩
       ·exact⟨_,.inr rfl,z⟩
      ·rintro⟨y,y1|y1,y2⟩
       ·exact .inl ⟨y,y1,y2⟩
       ·subst y1;exact .inr y2
     ·rw[aV,aY,uA x,tk];simp only[List.mem_append,List.mem_singleton];constructor
      ·rintro((z|⟨q,z1,z2⟩)|z)
       ·exact .inl z
       ·exact .inr ⟨q,.inl z1,z2⟩
       ·exact .inr ⟨p,.inr rfl,z⟩
      ·rintro(z|⟨q,z1|z1,z2⟩)
       ·exact .inl (.inl z)
       ·exact .inl (.inr ⟨q,z1,z2⟩)
       ·subst z1;exact .inr z2
   ·obtain⟨e6,h6,t6,⟨K',s6,uA⟩,z4,rfl⟩:=q;rw[d4,ai,bK] at uA
    try show wpS _ _ _ _ _ _
    left;refine⟨e6,⟨K',s6,λj=>(uA j).trans ?_⟩,⟨L++[t],t6,?_,λs=>?_,by simp;omega⟩,_,_,rfl⟩
    ·rw[hK j];constructor
     ·rintro((z|⟨s,p,h1,h2⟩)|⟨p,h1,h2⟩)
      ·exact .inl z
      ·exact .inr ⟨s,p,by omega,h2⟩
      ·exact .inr ⟨t,p,by omega,hR,h1,h2⟩
     ·rintro(z|⟨s,p,h1,h2,h3,h4⟩)
      ·exact .inl (.inl z)
      ·rcases cB s t with y|y
       ·exact .inl (.inr ⟨s,p,y,h2,h3,h4⟩)
       ·have:s=t:=by omega
        subst this;exact .inr ⟨p,h3,h4⟩
    ·rw[Bh];exact⟨pw,by simp,λx hx y hy=>by cases aY.mp hy;exact((hL x).mp hx).1⟩
    ·rw[aV,aY,hL s];constructor
     ·rintro(z|z)
      ·exact⟨by omega,z.2⟩
      ·subst z;exact⟨by omega,hR⟩
     ·rintro⟨z1,z2⟩;rcases cB s t with y|y
      ·exact .inl ⟨y,z2⟩
      ·exact .inr ()
 ·obtain⟨e3,⟨K,s3,hK⟩,⟨L,t3,pw,hL,wU⟩,z3,z4,rfl⟩:=q;rw[o6] at hL wU
  try show wpS _ _ _ _ _ _
  left;exact h L tl g' e3 () t3 pw (λs=>(hL s).trans ⟨λz=>z.2,λz=>⟨z.lt lD,z⟩⟩) ()
theorem MD(hT:TB0 T)(hF:TF T)(hW:TW T)(B:Bd g b cs v rs)(hz:cs.length<=9)(hr:rs.length<=900)(h:∀w g',Ex g g'->g.length<=w->Wy g' w cs v rs->Q (.ref w) g'):d0 T (k+7) 121 [.ref b] g Q E:=by
 refine call_of hW.Du rfl ?_;dsimp[EJ,d6,List.replicate];have lD:=C5 cs v rs;generalize oY:k6 cs v rs=F at *;obtain⟨w0,l0,dd,nb,f1,f2,f3,f4,f5⟩:=B.ex;have p2:=En hz;left;have e1:=Ex.snoc g (O.eE []);have w1:=b9 (g:=g) (o:=O.eE []);generalize g++[O.eE []]=g1 at *;refine x6 (b7 T _) (Pt ?_);left;refine KU (k:=k) hT hF hW.oC (B.at e1) hz hr λL l g2 e2 hl h2 pw hL wU=>?_;rw[oY] at hL;have lw:=i8 w1;have OY:L.reverse.Pairwise (· > ·):=List.pairwise_reverse.mpr pw;have BQ:(d4 L).length=L.length:=by simp[d4]
 refine⟨l,_,rfl,b0 h2,(d4 L).reverse,λi Z g'=>Ex g g'/\g'[l]?=some (.lst (d4 L))/\(∃kvs,g'[g.length]?=some (.eE kvs)/\kvs.length<=i/\∀s∈L.reverse.take i,x4 kvs (kN s)=some (.int ((j6 cs.length F s).length:Nat)))/\∃z2,Z=[some (.ref b),some (.ref g.length),z2],λi Z g' q=>bF6 (b0 q.2.1),⟨e1.trans e2,h2,⟨[],e2.at w1,by simp,by simp⟩,none,rfl⟩,λi x Z g' hx q=>?_,λZ g' q=>?_⟩
 ·obtain⟨e3,h3,⟨kvs,w3,hk,wA⟩,z2,rfl⟩:=q;rw[d4,<- List.map_reverse,aj,aa] at hx;obtain⟨s,hs,rfl⟩:=hx;have Iq:i<L.length:=by have:=(ak.mp hs).1;simpa using this
  have HZ:kj F s:=(hL s).mp (mQ.mp (aD hs));have qI:=HZ.lt lD;have tk:L.reverse.take (i+1)=L.reverse.take i++[s]:=by rw[bE,hs];rfl
  have fin:∀(N:Ends) g4 z2,Ex g' g4->(∀g5,(Ex g g5/\g5[l]?=some (.lst (d4 L))/\(∃kvs,g5[g.length]?=some (.eE kvs)/\kvs.length<=i+1/\∀s∈L.reverse.take (i+1),x4 kvs (kN s)=some (.int ((j6 cs.length F s).length:Nat)))/\∃z2,([some (.ref b),some (.ref g.length),z2]:S)=[some (.ref b),some (.ref g.length),z2])->N.nx [some (.ref b),some (.ref g.length),z2] g5)->Z2 (.ref g.length) (.int (s:Nat)) (.int ((j6 cs.length F s).length:Nat)) g4 λg5=>N.nx [some (.ref b),some (.ref g.length),z2] g5:=λN g4 z2 e4 hN=>by
   refine JR (e4.at w3) rfl () ?_;refine hN _ ⟨⟨by simp;exact(e3.trans e4).len,λj hj=>by rw[aA ()];exact(e3.trans e4).old j hj⟩,f6 (e4.at h3) (),⟨_,get_set (e4.at w3),aG WB (),λs' Ib=>?_⟩,z2,rfl⟩;rw[tk] at Ib;by_cases Cb:s'=s
   ·subst Cb;exact WA
   ·refine(a14 (Zm (bT Cb))).trans (wA s' ?_);rcases aV.mp Ib with z|z
    ·exact z
    ·exact absurd (aY.mp z) Cb
  refine j8 ?_
  try show wpS _ _ _ _ _ _
  left;refine X0 (e3.at f1) rfl ?_;left;have ed:decide (((s:Nat):Int)=((2 ^ cs.length-1:Nat):Int))=decide (s=2 ^ cs.length-1):=cK.mpr ();rw[ed];refine if2 (λc1=>?_) (λc1=>?_)
  ·left;have e1:(1:Int)=((j6 cs.length F s).length:Nat):=by rw[T2 c1];rfl
   rw[e1];exact fin _ _ _ (Ex.refl _) λg5 z=>⟨z.1,z.2.1,z.2.2.1,_,rfl⟩
  ·left;refine a68 (b7 T _) (lr (b7 T _) ?_);left;refine W9 (k:=k+1) hT hF (B.at e3) hz hr qI λg4 fl e4 Qz h4=>?_;rw[oY] at h4;refine⟨fl,_,rfl,b0 h4,d4 (F s),λZ=>∃z2 z3,Z=[some (.int (s:Nat)),some (.ref g.length),z2,z3],λi=>.int ((j6 cs.length F (s |||2 ^ ((F s).getD i 0))).length:Nat),λg' e=>o8 (b0 (e.at h4)),?_,⟨none,none,rfl⟩,λj d Z g5 hx e5 sh=>?_,λg5 e5=>?_⟩
   ·have:(F s).length<=cs.length:=by rw[<- oY];exact K9
    simp[d4];omega
   ·obtain⟨z2,z3,rfl⟩:=sh;rw[d4,aj,aa] at hx;obtain⟨p,hp,rfl⟩:=hx;have qK:=aD hp;have om:=lD _ _ qK;refine j8 ?_
    try show aX _ _ _ _ _ _
    left;refine C6 (k:=k+5) hT.pX () ?_;have hv:x4 kvs (kN (s |||2 ^ p))=some (.int ((j6 cs.length F (s |||2 ^ p)).length:Nat)):=by
     refine wA _ (aU7 OY hs (mQ.mpr ((hL _).mpr (.step HZ qK))) (xN om.2))
    refine yi ((e4.trans e5).at w3) rfl hv ?_;exact⟨by simp[List.getD,hp],e5,_,_,rfl⟩
   ·have el:(List.range (d4 (F s)).length).map (λi=>D.int ((j6 cs.length F (s |||2 ^ ((F s).getD i 0))).length:Nat))=(((F s).map λp=>(j6 cs.length F (s |||2 ^ p)).length).map λ(n:Nat)=>(n:Int)).map D.int:=by
     refine cU λi=>?_;rw[aj,aj,aj,aj];by_cases hi:i<(F s).length
     ·rw[bC (by simpa[d4] using hi),ao hi];simp[List.getD,hi]
     ·rw[aQ (by simpa[d4] using hi),aQ ()]
      rfl
    rw[el];refine JV (b0 b9) ?_;have es:(((F s).map λp=>(j6 cs.length F (s |||2 ^ p)).length).map λ(n:Nat)=>(n:Int)).sum=((j6 cs.length F s).length:Nat):=by
     rw[Vu lD qI c1];generalize (F s).map (λp=>(j6 cs.length F (s |||2 ^ p)).length)=m
     induction m with
     |nil=>rfl
     |cons x r ih=>simp[ih]
    rw[es];left;exact fin _ _ _ (e4.trans (e5.trans (Ex.snoc _ _))) λg6 z=>⟨z.1,z.2.1,z.2.2.1,_,rfl⟩
 ·obtain⟨e3,h3,⟨kvs,w3,hk,wA⟩,z2,rfl⟩:=q;rw[List.length_reverse,BQ,iY (by simp)] at wA
  try show wpS _ _ _ _ _ _
  left;refine h _ _ e3 (az _) ⟨⟨kvs,w3,λs hs=>?_⟩⟩;rw[oY] at hs ⊢;exact wA s (mQ.mpr ((hL s).mpr hs))
end
structure TN(T:Nat->Option aW):Prop where
 sT:T 122=some Ah
 Dt:T 123=some P8
section
variable{T:Nat->Option aW}{d:Nat}{r w:Nat}
theorem aM7(hT:TB T)(hF:TF T)(hW:TW T)(sR:T 126=some Au)(ha:g[a]?=some (.lst (cs.map b8.d)))(hz:cs.length<=9)(hg:cs.all u3=true)(hB:∀c∈cs,CB c)(hv:1<=v/\v<=9)(hc:g[c]?=some (.lst (i7 rs)))(hr:rs.length<=900)(hR:rs.all (j5 cs)=true)(h:∀g',Ex g g'->Q (.int ((j6 cs.length (k6 cs v rs) 0).length:Nat)) g'):d0 T (k+11) 126 [.ref a,.int v,.ref c] g Q E:=by
 refine call_of sR rfl ?_;dsimp[Au,d6,List.replicate];left;refine KZ (k:=k) hT ha hz hg hB hv hc hr hR λg1 b e1 _ B=>?_;left;refine MD (k:=k+3) hT hF hW B hz hr λw g2 e2 _ W=>?_;left;obtain⟨kvs,w1,w2⟩:=W.ex;exact yi w1 rfl (w2 0 .zero) (h _ (e1.trans e2))
theorem aS6(hT:TB0 T)(hF:TF T)(sT:T 122=some Ah)(B:Bd g b cs v rs)(W:Wy g w cs v rs)(hz:cs.length<=9)(hr:rs.length<=900){s:Nat}(hs:kj (k6 cs v rs) s)(ff:s≠2 ^ cs.length-1)(hm:m<(j6 cs.length (k6 cs v rs) s).length)(h:∀(p l:Nat) g',Ex g g'->p∈k6 cs v rs s->l<(j6 cs.length (k6 cs v rs) (s |||2 ^ p)).length->(j6 cs.length (k6 cs v rs) s)[m]?=((j6 cs.length (k6 cs v rs) (s |||2 ^ p))[l]?).map (p::·)->Q (.tup [.int (p:Nat),.int (l:Nat)]) g'):d0 T (k+6) 122 [.ref b,.ref w,.int (s:Nat),.int (m:Nat)] g Q E:=by
 refine call_of sT rfl ?_;dsimp[Ah,d6,List.replicate];have lD:=C5 cs v rs;have qI:=hs.lt lD;have eo:=ye lD qI ff;left;refine W9 (k:=k) hT hF B hz hr qI λg1 ch e1 _ mI=>?_;generalize oY:k6 cs v rs=F at *;obtain⟨kvs,w1,w2⟩:=W.ex;rw[oY] at w2;left;generalize Iz:(λp=>(j6 cs.length F (s |||2 ^ p)).map (p::·))=f at *;have xi:∀p,(f p).length=(j6 cs.length F (s |||2 ^ p)).length:=λp=>by rw[<- Iz];simp
 rw[eo] at hm;have Pb:0<(F s).length:=by
  cases hl:F s with
  |nil=>rw[hl] at hm;simp at hm
  |cons _ _=>simp
 refine MC (λmm Z g'=>Ex g1 g'/\∃j lf:Nat,Z=[some (.ref b),some (.ref w),some (.int (s:Nat)),some (.int (m:Nat)),some (.ref ch),some (.int (lf:Nat)),some (.int (j:Nat))]/\j<(F s).length/\mm=(F s).length-j/\m=(((F s).take j).flatMap f).length+lf/\lf<(((F s).drop j).flatMap f).length) _ ⟨Ex.refl _,0,m,rfl,Pb,rfl,by simp,by simpa using hm⟩ (λmm Z g' q=>?_) (b7 T _);obtain⟨e2,j,lf,rfl,hj,rfl,nH,sv⟩:=q;have hx:=ao hj;generalize (F s)[j]=p at hx;have qK:=aD hx;have om:=lD _ _ qK;have hv:x4 kvs (kN (s |||2 ^ p))=some (.int ((f p).length:Nat)):=by rw[xi];exact w2 _ (.step hs qK)
 have ER:gh (d4 (F s)) (j:Int)=some (.int (p:Nat)):=B4 (by rw[d4,aj,hx];rfl);have sp:=aW2 (f:=f) hx lf;have pB:=e1.trans e2;left;refine s9 (b0 (e2.at mI)) ER ?_;left;refine C6 (k:=k+4) hT.pX () ?_;refine yi (pB.at w1) rfl hv ?_;left;by_cases hc:(f p).length<=lf
 ·refine iu (aw ()) ?_;left;refine LM rfl ?_;left;refine s9 (b0 (e2.at mI)) ER ?_;left;refine C6 (k:=k+4) hT.pX () ?_;refine yi (pB.at w1) rfl hv ?_;refine bF7 ?_;left;refine LM rfl ?_;left;refine bG3 ?_;have tk:(F s).take (j+1)=(F s).take j++[p]:=by rw[bE,hx];rfl
  rw[sp.2,bj] at sv;have sC:j+1<(F s).length:=by
   rcases cB (j+1) (F s).length with z|z
   ·exact z
   ·rw[fz z] at sv;simp at sv;omega
  refine⟨_,?_,e2,j+1,lf-(f p).length,?_,sC,rfl,?_,by omega⟩
  ·omega
  ·have e1:((lf:Nat):Int)-((f p).length:Nat)=((lf-(f p).length:Nat):Int):=by omega
   have e2:((j:Nat):Int)+1=((j+1:Nat):Int):=by omega
   rw[e1,e2]
   rfl
  ·rw[tk,kn,bj,cq,List.flatMap_nil,fc];omega
 ·refine fC (aB ()) ?_;left;refine s9 (b0 (e2.at mI)) ER ?_;left;refine h p lf g' pB qK (by rw[xi] at hc;omega) ?_;rw[eo,nH,sp.1,sp.2,aK (),<- Iz];simp
theorem aM3(hT:TB0 T)(hF:TF T)(hN:TN T)(B:Bd g b cs v rs)(W:Wy g w cs v rs)(hz:cs.length<=9)(hr:rs.length<=900){o:List Nat}(hm:(j6 cs.length (k6 cs v rs) 0)[m]?=some o)(h:∀l g',Ex g g'->g.length<=l->g'[l]?=some (.lst (d4 o))->Q (.ref l) g'):d0 T (k+7) 123 [.ref b,.ref w,.int (m:Nat)] g Q E:=by
 refine call_of hN.Dt rfl ?_;dsimp[P8,d6,List.replicate];have lD:=C5 cs v rs;obtain⟨w0,l0,dd,nb,f1,f2,f3,f4,f5⟩:=B.ex;have p2:=En hz;left;have e1:=Ex.snoc g (O.lst []);have h1:=b9 (g:=g) (o:=O.lst []);generalize g++[O.lst []]=g1 at *;refine MC (λmm Z g'=>Ex g g'/\∃(s lf:Nat) (p:List Nat) (z6:Option D),Z=[some (.ref b),some (.ref w),some (.int (m:Nat)),some (.ref g.length),some (.int (s:Nat)),some (.int (lf:Nat)),z6]/\mm=2 ^ cs.length-s/\kj (k6 cs v rs) s/\lf<(j6 cs.length (k6 cs v rs) s).length/\some o=((j6 cs.length (k6 cs v rs) s)[lf]?).map (p++·)/\g'[g.length]?=some (.lst (d4 p))/\p.length<=s) _ ⟨e1,0,m,[],none,rfl,rfl,.zero,(ak.mp hm).1,by rw[hm];rfl,h1,by simp⟩ (λmm Z g' q=>?_) (b7 T _);obtain⟨e2,s,lf,p,z6,rfl,rfl,hs,sv,ho,hp,iw⟩:=q;have qI:=hs.lt lD;left;refine X0 (e2.at f1) rfl ?_;left;have ed:decide (((s:Nat):Int)=((2 ^ cs.length-1:Nat):Int))=decide (s=2 ^ cs.length-1):=cK.mpr ();rw[ed];by_cases ff:s=2 ^ cs.length-1
 ·refine fC (by rw[aw ff];rfl) ?_;left;rw[T2 ff] at sv ho;have:lf=0:=by simp at sv;omega
  subst this;have:o=p:=by simpa using ho
  subst this;exact h _ _ e2 (az _) hp
 ·refine iu (by rw[aB ff];rfl) ?_;left;refine aS6 (k:=k) hT hF hN.sT (B.at e2) (W.at e2) hz hr hs ff sv λq l g3 e3 hq hl Qa=>?_;refine B1 rfl ?_
  try show wpS _ _ _ _ _ _
  have Ig:=lD _ _ hq;have Ci:=e3.at hp;left
  try refine⟨M4 Ci,?_⟩
  left;refine L5 Ci (by simp[d4];omega) ?_;left;refine C6 (k:=k+5) hT.pX () ?_;left;have hgt:=xN Ig.2;have uG:=e2.trans e3;refine⟨_,?_,⟨by simp;exact uG.len,λi hi=>by rw[aA ()];exact uG.old i hi⟩,s |||2 ^ q,l,p++[q],_,rfl,rfl,.step hs hq,hl,?_,?_,by simp;omega⟩
  ·omega
  ·rw[ho,Qa];simp[Option.map_map,Function.comp_def]
  ·rw[get_set Ci];simp[d4]
theorem F6(hT:TB0 T)(hF:TF T)(hW:TW T)(hN:TN T)(jh:T 124=some K1)(B:Bd g b cs v rs)(hz:cs.length<=9)(hr:rs.length<=900)(h1:j6 cs.length (k6 cs v rs) 0=[]->∀g',Ex g g'->Q .br g')(h2:∀o l g',(j6 cs.length (k6 cs v rs) 0)[0]?=some o->Ex g g'->g.length<=l->g'[l]?=some (.lst (d4 o))->Q (.ref l) g'):d0 T (k+8) 124 [.ref b] g Q E:=by
 refine call_of jh rfl ?_;dsimp[K1,d6,List.replicate];left;refine MD (k:=k) hT hF hW B hz hr λw g1 e1 hw W=>?_;left;obtain⟨kvs,w1,w2⟩:=W.ex;refine yi w1 rfl (w2 0 .zero) ?_;left;cases ho:j6 cs.length (k6 cs v rs) 0 with
 |nil =>
  refine iu (by simp) ?_;left;exact h1 ho _ e1
 |cons o r =>
  refine fC (by simp;omega) ?_;left;exact aM3 (k:=k) hT hF hN (m:=0) (B.at e1) W hz hr (by rw[ho];rfl) λl g2 e2 hl h=>h2 o l g2 (by rw[ho];rfl) (e1.trans e2) (aG e1.len hl) h
theorem LD(hT:TB T)(hF:TF T)(hW:TW T)(hN:TN T)(jh:T 124=some K1)(pZ:T 125=some Q9)(ha:g[a]?=some (.lst (cs.map b8.d)))(hz:cs.length<=9)(hg:cs.all u3=true)(hB:∀c∈cs,CB c)(hv:1<=v/\v<=9)(hc:g[c]?=some (.lst (i7 rs)))(hr:rs.length<=900)(hR:rs.all (j5 cs)=true)(h1:j6 cs.length (k6 cs v rs) 0=[]->∀g',Ex g g'->Q .br g')(h2:∀o l g',(j6 cs.length (k6 cs v rs) 0)[0]?=some o->Ex g g'->g.length<=l->g'[l]?=some (.lst (d4 o))->Q (.ref l) g'):d0 T (k+11) 125 [.ref a,.int v,.ref c] g Q E:=by
 refine call_of pZ rfl ?_;dsimp[Q9,d6,List.replicate];left;refine KZ (k:=k) hT ha hz hg hB hv hc hr hR λg1 b e1 _ B=>?_;left;exact F6 (k:=k+2) hT hF hW hN jh B hz hr (λho g2 e2=>h1 ho g2 (e1.trans e2)) λo l g2 ho e2 hl h=>h2 o l g2 ho (e1.trans e2) (aG e1.len hl) h
end
def U6:aW:=⟨3,8,(.seq (.set 3 (cY .lst (.prim .lst .nil))) (.seq (.dq (.one 4) (.eQ (cY .len aM)) (.seq (.set 5 (.prim .lst .nil)) (.seq (.dq (.one 6) (.eU bz) (.seq (.dq (.one 7) (.eQ (cY .len aM)) (.seq (.ifs (.dB (dD .NotIn fN eL) (dD .Eq (.call 108 (rF aM ba bg eL fN)) (fh ""))) (.seq (.expr (.dG .append dF (dZ (bH (.bin .Add) eL (cY .lst fN))))) .pass) .pass) .pass)) .pass)) (.seq (.set 3 dF) .pass)))) (.seq (.ret bz) .pass)))⟩
def gb(r:List Nat):Nat:=r.foldl (λs p=>s |||2 ^ p) 0
theorem Nb(r:List Nat)(p:Nat):gb (r++[p])=gb r |||2 ^ p:=by simp[gb,List.foldl_append]
theorem K0(r:List Nat)(i:Nat):(gb r).testBit i=decide (i∈r):=by
 have:∀(r:List Nat) (s:Nat),(r.foldl (λs p=>s |||2 ^ p) s).testBit i=(s.testBit i||decide (i∈r)):=by
  intro r
  induction r with
  |nil=>intro s;simp
  |cons p r ih =>
   intro s;rw[List.foldl_cons,ih,V5,Bool.or_assoc,aS];simp
 rw[gb,this];simp
theorem SN:∀{r:List Nat},(∀i∈r,i<n)->gb r<2 ^ n:=λ{r} h=>by
 have:∀(r:List Nat) (s:Nat),(∀i∈r,i<n)->s<2 ^ n->r.foldl (λs p=>s |||2 ^ p) s<2 ^ n:=by
  intro r
  induction r with
  |nil=>intro s _ hs;exact hs
  |cons p r ih=>intro s h hs;exact ih _ (λi hi=>h i (by simp[hi])) (V1 hs (h p (by simp)))
 exact this r 0 h (ji _)
def w9(F:Nat->List Nat):Nat->List (List Nat)
 |0=>[[]]
 |t+1=>(w9 F t).flatMap λr=>(F (gb r)).map λp=>r++[p]
theorem M9{n:Nat}{F:Nat->List Nat}(hF:FG n F):∀{t:Nat} {r:List Nat},r∈w9 F t->r.length=t/\r.Nodup/\∀i∈r,i<n
 |0,r,h=>by
  cases aY.mp h;simp
 |t+1,r,h=>by
  obtain⟨r0,h0,h1⟩:=List.mem_flatMap.mp h;obtain⟨p,hp,rfl⟩:=aZ.mp h1;obtain⟨g1,g2,g3⟩:=M9 hF h0;have om:=hF _ _ hp;rw[K0] at om;refine⟨by simp[g1],?_,λi hi=>?_⟩
  ·rw[cT];exact⟨g2,by simp,λx hx y hy=>by cases aY.mp hy;exact λz=>(by simpa using om.2:p∉r0) (z▸hx)⟩
  ·rcases aV.mp hi with z|z
   ·exact g3 i z
   ·cases aY.mp z;exact om.1
theorem Gq{r:List Nat}(h:r.Nodup)(hl:r.length=n)(hr:∀i∈r,i<n)(hi:i<n):i∈r:=by
 refine qq λhn=>?_;have:=V3 (l:=i::r) (m:=List.range n) (dY.mpr ⟨hn,h⟩) λx hx=>by
  rcases aL.mp hx with rfl|hx
  ·exact aN.mpr hi
  ·exact aN.mpr (hr x hx)
 simp at this;omega
theorem Na{r:List Nat}(h:r.Nodup)(hr:∀i∈r,i<n):gb r=2 ^ n-1↔r.length=n:=by
 constructor
 ·intro e;have:∀i,i<n->i∈r:=λi hi=>by
   have:=K0 r i;rw[e,oR,aw hi] at this;exact bh this.symm
  have h1:=V3 (l:=List.range n) (m:=r) iF λi hi=>this i (aN.mp hi);have h2:=V3 (l:=r) (m:=List.range n) h λi hi=>aN.mpr (hr i hi);simp at h1 h2;omega
 ·intro hl;refine Bg λi=>?_;rw[K0,oR];refine cK.mpr ⟨hr i,λhi=>Gq h hl hr hi⟩
theorem Kt{n:Nat}{F:Nat->List Nat}(hF:FG n F):∀{t:Nat},t<=n->(w9 F t).flatMap (λr=>(j6 n F (gb r)).map (r++·))=j6 n F 0
 |0,_=>by simp[w9,gb]
 |t+1,ht=>by
  rw[<- Kt hF (show t<=n by omega),w9,List.flatMap_assoc];refine F5 λr hr=>?_;obtain⟨g1,g2,g3⟩:=M9 hF hr;have ff:gb r≠2 ^ n-1:=λz=>by have:=(Na g2 g3).mp z;omega
  rw[ye hF (SN g3) ff,List.map_flatMap,List.flatMap_map];refine F5 λp hp=>?_;rw[Nb,bR];refine List.map_congr_left λo _=>?_;simp
theorem Fb{F:Nat->List Nat}(hF:FG n F):w9 F n=j6 n F 0:=by
 rw[<- Kt hF (az n)];have:∀(l:List (List Nat)),(∀r∈l,r∈w9 F n)->l.flatMap (λr=>(j6 n F (gb r)).map (r++·))=l:=by
  intro l
  induction l with
  |nil=>intro _;rfl
  |cons r l ih =>
   intro h;obtain⟨g1,g2,g3⟩:=M9 hF (h r (by simp));rw[cq,ih λx hx=>h x (by simp[hx]),T2 ((Na g2 g3).mpr g1)];simp
 exact(this _ λ_ h=>h).symm
theorem Ae{α β:Type}{f:α->List β}{m:Nat}:∀{l:List α},(∀x∈l,(f x).length<=m)->(l.flatMap f).length<=l.length*m
 |[],_=>by simp
 |x::r,h=>by
  rw[cq,bj,dM,Nat.succ_mul];have h1:=h x (by simp);have h2:=Ae (l:=r) λy hy=>h y (by simp[hy]);omega
theorem MX{n:Nat}{F:Nat->List Nat}(hF:∀s,(F s).length<=n):∀t,(w9 F t).length<=n ^ t
 |0=>by simp[w9]
 |t+1=>by
  rw[w9,vn];refine aG (Ae (m:=n) λr _=>by rw[ai];exact hF _) ?_;exact jS _ (MX hF t)
def unset(n s:Nat):List Nat:=(List.range n).filter λp=>!s.testBit p
def fM(q:Nat->Nat->Bool):Nat->List Nat->Bool
 |_,[]=>true
 |s,p::r=>q s p&&fM q (s |||2 ^ p) r
theorem Ld{α β:Type}{f:α->List β}{q:α->Bool}:∀l:List α,(l.filter q).flatMap f=l.flatMap λx=>if q x=true then f x else[]
 |[]=>rfl
 |x::r=>by
  rw[cq,<- Ld r];cases h:q x
  ·rw[iJ (by rw[h];decide),aE ∅]
   rfl
  ·rw[iH h,aH rfl,cq]
theorem Le{α β:Type}{f:α->List β}{q:β->Bool}:∀l:List α,(l.flatMap f).filter q=l.flatMap λx=>(f x).filter q
 |[]=>rfl
 |x::r=>by rw[cq,de,Le r,cq]
theorem Z3{n:Nat}{F F':Nat->List Nat}{q:Nat->Nat->Bool}(hF:FG n F)(hq:∀s,F' s=(F s).filter (q s)):∀(m s:Nat),2 ^ n-s<=m->s<2 ^ n->j6 n F' s=(j6 n F s).filter (fM q s)
 |0,s,hm,hs=>by omega
 |m+1,s,hm,hs=>by
  have QU:FG n F':=λs p hp=>hF s p (bp.mp (hq s▸hp)).1;by_cases e:s=2 ^ n-1
  ·rw[T2 e,T2 e]
   rfl
  ·rw[ye QU hs e,ye hF hs e,hq,Ld,Le];refine F5 λp hp=>?_;have om:=hF s p hp;have ih:=Z3 hF hq m (s |||2 ^ p) (by have:=xN om.2;omega) (V1 hs om.1);rw[nO];cases Ie:q s p
   ·rw[aE ∅];have:(fM q s ∘ λx=>p::x)=λ_=>false:=by funext x;simp[fM,Ie]
    rw[this];simp
   ·rw[aH rfl,ih];have:(fM q s ∘ λx=>p::x)=fM q (s |||2 ^ p):=by funext x;simp[fM,Ie]
    rw[this]
theorem Aj{q:Nat->Nat->Bool}:∀(o pre:List Nat),fM q (gb pre) o=true↔∀(i p:Nat),o[i]?=some p->q (gb (pre++o.take i)) p=true
 |[],pre=>by simp[fM]
 |x::r,pre=>by
  rw[fM,<- Nb,aP,Aj r (pre++[x])];constructor
  ·rintro⟨h1,h2⟩ i p hp;cases i with
   |zero =>
    cases hp;simpa using h1
   |succ i =>
    have:=h2 i p (by simpa using hp);simpa using this
  ·intro h;refine⟨by simpa using h 0 x rfl,λi p hp=>?_⟩;have:=h (i+1) p (by simpa using hp);simpa using this
theorem a34{a b:Nat->Nat->Bool}(h:∀s p,a s p=b s p)(s:Nat)(o:List Nat):fM a s o=fM b s o:=by rw[show a=b from funext λs=>funext λp=>h s p]
def n9(cs:List b8)(r:cQ)(s p:Nat):Bool:=!meant cs r.w r.y p||(List.range cs.length).any λi=>s.testBit i&&meant cs r.w r.x i
def xK(cs:List b8)(v:Int)(s p:Nat):Bool:=!F9 cs s.testBit p&&(!F0 cs s.testBit p&&!decide (v<C0 cs s.testBit p))
theorem VM(cs:List b8)(v:Int)(rs:List cQ)(s p:Nat):decide (fault cs v rs s.testBit p="")=(xK cs v s p&&rs.all λr=>n9 cs r s p):=by
 have en:(rs.all λr=>n9 cs r s p)=O4 cs rs s.testBit p:=rfl;rw[en];unfold fault xK;cases F9 cs s.testBit p
 ·cases F0 cs s.testBit p
  ·by_cases h:v<C0 cs s.testBit p
   ·rw[aE ∅,aE ∅,aH h,aw h];simp only[Bool.not_true,Bool.and_false,Bool.false_and]
    decide +kernel
   ·rw[aE ∅,aE ∅,aE h,aB h];cases O4 cs rs s.testBit p<;>decide +kernel
  ·rw[aE ∅,aH rfl];simp only[Bool.not_true,Bool.false_and,Bool.and_false]
   decide +kernel
 ·rw[aH rfl];simp only[Bool.not_true,Bool.false_and]
  decide +kernel
theorem U7(cs:List b8)(v:Int)(rs:List cQ)(s:Nat):k6 cs v rs s=(unset cs.length s).filter (λp=>xK cs v s p&&rs.all λr=>n9 cs r s p):=by
 unfold k6 unset;rw[kP];refine gX λp _=>?_;unfold E3;rw[VM,Bool.and_comm]
theorem aT8(cs:List b8)(v:Int)(rs lU:List cQ):j6 cs.length (k6 cs v (rs++lU)) 0=(j6 cs.length (k6 cs v rs) 0).filter (fM (λs p=>lU.all λr=>n9 cs r s p) 0):=by
 refine Z3 (C5 cs v rs) (λs=>?_) _ 0 (az _) (ji _);rw[U7,U7,kP];refine gX λp _=>?_;rw[nP];cases xK cs v s p<;>cases (rs.all λr=>n9 cs r s p)<;>simp
theorem Fw{F:Nat->List Nat}(hF:FG n F){o:List Nat}(h:o∈j6 n F 0):o.length=n/\o.Nodup/\∀i∈o,i<n:=by
 rw[<- Fb hF] at h;exact M9 hF h
def u5(r:cQ):cQ:=⟨r.w,r.y,r.x⟩
theorem WE{o:List Nat}(hl:o.length=cs.length)(nd:o.Nodup)(dW:∀i∈o,i<cs.length)(hg:j5 cs r=true):fM (n9 cs (u5 r)) 0 o=!fM (n9 cs r) 0 o:=by
 have Hu:∀r:cQ,fM (n9 cs r) 0 o=true↔∀(i p:Nat),o[i]?=some p->meant cs r.w r.y p=true->∃j∈o.take i,meant cs r.w r.x j=true:=λr=>by
  have:=Aj (q:=n9 cs r) o [];rw[show gb []=0 from rfl] at this;rw[this];refine kH λi=>kH λp=>?_;refine⟨λh hp hm=>?_,λh hp=>?_⟩
  ·have:=h hp;unfold n9 at this;rw[hm,ia,eX,aO] at this;obtain⟨j,_,hj⟩:=this;rw[aP,jj,K0,bP] at hj;exact⟨j,hj.1,hj.2⟩
  ·unfold n9;cases hm:meant cs r.w r.y p with
   |false=>rfl
   |true =>
    obtain⟨j,hj,hx⟩:=h hp hm;rw[ia,eX,aO];exact⟨j,aN.mpr (dW j (fT hj)),by rw[jj,K0,aw hj,hx];rfl⟩
 have Sb:∀j,¬(meant cs r.w r.x j=true/\meant cs r.w r.y j=true):=λj ⟨h1,h2⟩=>by
  have HY:r.x≠r.y:=by
   unfold j5 at hg;rw[aP,gZ,cy] at hg;exact hg.1
  unfold meant at h1 h2;cases hw:r.w<;>rw[hw] at h1 h2<;>exact HY ((bh h1).symm.trans (bh h2))
 have ne:∀x,(fQ cs r.w x).isEmpty=false->∃(i p:Nat),o[i]?=some p/\meant cs r.w x p=true:=λx hx=>by
  cases e:fQ cs r.w x with
  |nil=>rw[e] at hx;cases hx
  |cons p _ =>
   have hp:p∈fQ cs r.w x:=by rw[e];simp
   obtain⟨h1,h2⟩:=bp.mp hp;obtain⟨i,hi⟩:=bO.mp (Gq nd hl dW (aN.mp h1));exact⟨i,p,hi,h2⟩
 unfold j5 at hg;simp only[Bool.and_eq_true,Bool.not_eq_true'] at hg;obtain⟨ix,px,sD,Qh⟩:=ne r.x hg.2.1;obtain⟨iy,py,Qx,Cp⟩:=ne r.y hg.2.2;have least:∀(P:Nat->Prop) (n:Nat),P n->∃m,P m/\∀k,k<m->¬P k:=λP n hn=>by
  have:∀n,P n->∃m,P m/\∀k,k<m->¬P k:=by
   intro n
   induction n using Nat.strongRecOn with
   |_ n ih =>
    intro hn;by_cases h:∃k,k<n/\P k
    ·obtain⟨k,h1,h2⟩:=h;exact ih k h1 h2
    ·exact⟨n,hn,λk hk hp=>h ⟨k,hk,hp⟩⟩
  exact this n hn
 obtain⟨fx,⟨ax,CN,ot⟩,lx⟩:=least (λi=>∃p,o[i]?=some p/\meant cs r.w r.x p=true) ix ⟨px,sD,Qh⟩;obtain⟨fy,⟨ay,zu,su⟩,ly⟩:=least (λi=>∃p,o[i]?=some p/\meant cs r.w r.y p=true) iy ⟨py,Qx,Cp⟩;have HY:fx≠fy:=λz=>by
  subst z;rw[CN] at zu;cases zu;exact Sb _ ⟨ot,su⟩
 have tk:∀{i j:Nat} {p:Nat},o[i]?=some p->i<j->p∈o.take j:=λ{i j p} h jn=>bO.mpr ⟨i,by rw[cu jn];exact h⟩;have back:∀{j p:Nat},p∈o.take j->∃i,i<j/\o[i]?=some p:=λ{j p} h=>by
  obtain⟨i,hi⟩:=bO.mp h;have jn:i<j:=by
   have:=(ak.mp hi).1;simp at this;omega
  rw[cu jn] at hi;exact⟨i,jn,hi⟩
 have k1:fM (n9 cs r) 0 o=true↔fx<fy:=by
  rw[Hu r];constructor
  ·intro h;obtain⟨j,hj,hm⟩:=h fy ay zu su;obtain⟨i,hi,ho⟩:=back hj;rcases cB i fx with z|z
   ·exact absurd ⟨j,ho,hm⟩ (lx i z)
   ·omega
  ·intro h i p hp hm;refine⟨ax,tk CN ?_,ot⟩;rcases cB i fy with z|z
   ·exact absurd ⟨p,hp,hm⟩ (ly i z)
   ·omega
 have k2:fM (n9 cs (u5 r)) 0 o=true↔fy<fx:=by
  rw[Hu (u5 r)];constructor
  ·intro h;obtain⟨j,hj,hm⟩:=h fx ax CN ot;obtain⟨i,hi,ho⟩:=back hj;rcases cB i fy with z|z
   ·exact absurd ⟨j,ho,hm⟩ (ly i z)
   ·omega
  ·intro h i p hp hm;refine⟨ay,tk zu ?_,su⟩;rcases cB i fx with z|z
   ·exact absurd ⟨p,hp,hm⟩ (lx i z)
   ·omega
 rw[aS,k2,gZ,<- Bool.not_eq_true,k1];omega
def many(cs:List b8)(v:Int)(rs:List cQ):Nat:=(j6 cs.length (k6 cs v rs) 0).length
theorem EY(cs:List b8)(v:Int)(rs:List cQ)(r:cQ):many cs v (rs++[r])=((j6 cs.length (k6 cs v rs) 0).filter (fM (n9 cs r) 0)).length:=by
 unfold many;rw[aT8]
 congr 2
 funext o
 exact a34 (λs p=>by simp) 0 o
theorem Y2{α:Type}{q:α->Bool}:∀l:List α,(l.filter q).length+(l.filter λx=>!q x).length=l.length
 |[]=>rfl
 |x::r=>by
  have:=Y2 (q:=q) r;cases h:q x
  ·rw[iJ (by rw[h];decide),iH (by rw[h];rfl)];simp;omega
  ·rw[iH h,iJ (by rw[h];decide)];simp;omega
theorem a45(hg:j5 cs r=true):many cs v (rs++[r])+many cs v (rs++[u5 r])=many cs v rs:=by
 rw[EY,EY];have:(j6 cs.length (k6 cs v rs) 0).filter (fM (n9 cs (u5 r)) 0)=(j6 cs.length (k6 cs v rs) 0).filter λo=>!fM (n9 cs r) 0 o:=by
  refine gX λo ho=>?_;obtain⟨h1,h2,h3⟩:=Fw (C5 cs v rs) ho;exact WE h1 h2 h3 hg
 rw[this];exact Y2 _
def Fn:aW:=⟨3,3,(.seq (.ifs (.eI (.fo (.call 74 (fe aM ba bg)))) (.seq (.raise "NoDie" (dZ (fh "no coin is of that die"))) .pass) .pass) .pass)⟩
def M5:aW:=⟨1,2,(.seq (.set 1 (.call 117 (dZ aM))) (.seq (.ifs (dD .Eq (cH ba (cY (.un .USub) (bc 1))) (cY (.fld "full") aM)) (.seq (.ret (.lit .br)) .pass) .pass) (.seq (.ret ba) .pass)))⟩
def Z6:aW:=⟨3,3,(.seq (.ifs (dD .Eq ba (fh "coin")) (.seq (.expr (.call 83 (dA aM bg))) .pass) (.seq (.expr (.call 75 (fe aM ba bg))) .pass)) .pass)⟩
def FA:aW:=⟨4,4,(.seq (.ifs (dD .NotIn ba (.lit (.tup [(.str "coin"),(.str "lower"),(.str "upper")]))) (.seq (.raise "BadSide" (dZ (fh "asked about are coins, lower dies or upper dies"))) .pass) .pass) (.seq (.expr (.call 136 (fe aM ba bg))) (.seq (.expr (.call 136 (fe aM ba bz))) (.seq (.ifs (dD .Eq bg bz) (.seq (.raise "SameOne" (dZ (fh "two unlike ones are asked about"))) .pass) .pass) .pass))))⟩
def xY:aW:=⟨6,10,(.seq (.expr (.call 98 (fe aM ba bg))) (.seq (.expr (.call 137 (rG aM bz cS dF))) (.seq (.set 6 (.make "Bounds" 113 (fe aM ba (bH (.bin .Add) bg (cY .lst (.prim .tup (fe bz cS dF))))))) (.seq (.set 7 (.make "Bounds" 113 (fe aM ba (bH (.bin .Add) bg (cY .lst (.prim .tup (fe bz dF cS))))))) (.seq (.set 8 (.call 124 (dZ eL))) (.seq (.set 9 (.call 124 (dZ fN))) (.seq (.ifs (.dB (dD .Is ku (.lit .br)) (dD .Is mY (.lit .br))) (.seq (.raise "NoOrder" (dZ (fh "there is no order"))) .pass) .pass) (.seq (.ifs (dD .Is mY (.lit .br)) (.seq (.ret (bH .tup (fh "first") (.call 129 (dZ fN)))) .pass) .pass) (.seq (.ifs (dD .Is ku (.lit .br)) (.seq (.ret (bH .tup (fh "later") (.call 129 (dZ eL)))) .pass) .pass) (.seq (.ret (.prim .tup (fe (fh "either") ku mY))) .pass))))))))))⟩
def EI:aW:=⟨6,6,(.seq (.ret (cH (.call 138 (zA aM ba bg bz cS dF)) (bc 0))) .pass)⟩
structure yu(T:Nat->Option aW):Prop where
 Rh:T 75=some Fn
 Dh:T 83=some R7
 jh:T 124=some K1
 nh:T 129=some M5
 Dr:T 136=some Z6
 Dq:T 137=some FA
 Dp:T 138=some xY
 Dn:T 139=some EI
section
variable{T:Nat->Option aW}{d:Nat}{r:Nat}
theorem FJ{K:G->Prop}(hT:TB0 T)(ha:g[a]?=some (.lst (cs.map b8.d)))(hz:cs.length<=9)(hg:cs.all u3=true)(hB:∀c∈cs,CB c)(hc:g[c]?=some (.lst (i7 rs)))(hr:rs.length<=900)(h:∀g',Ex g g'->Bd g' g.length cs v rs->K g'):d0 T (k+9) 113 [.ref g.length,.ref a,.int v,.ref c] (g++[.ins "Bounds" []]) (λd g2=>d=.br/\K g2) E:=by
 have x1:=Ex.snoc g (O.ins "Bounds" []);refine Ly (k:=k) hT (x1.at ha) hz hg hB (x1.at hc) hr b9 λg2 l2 o2 B2=>?_;refine⟨rfl,h g2 ⟨by simp at l2;omega,λi hi=>?_⟩ B2⟩;rw[o2 i (by simp;omega) (),x1.old i hi]
def O0(cs:List b8)(w:RW)(x:Int):Bool:=!(fQ cs w x).isEmpty
theorem aS3(h:O0 cs .cG x=true):0<=x/\x<cs.length:=by
 unfold O0 at h;cases e:fQ cs .cG x with
 |nil=>rw[e] at h;cases h
 |cons p _ =>
  have hp:p∈fQ cs .cG x:=by rw[e];simp
  obtain⟨h1,h2⟩:=bp.mp hp;have:=aN.mp h1;have:=bh h2;omega
theorem LC(hT:TB0 T)(hF:yu T)(ha:g[a]?=some (.lst (cs.map b8.d)))(hz:cs.length<=9)(ht:O0 cs w x=true)(h:∀g',Ex g g'->Q .br g'):d0 T (k+5) 136 [.ref a,.str w.s,.int x] g Q E:=by
 refine call_of hF.Dr rfl ?_;dsimp[Z6,d6,List.replicate];left;have lF:w≠.cG->d0 T (k+4) 75 [.ref a,.str w.s,.int x] g (λ_ g1=>Q .br g1) E:=λhw=>by
  refine call_of hF.Rh rfl ?_;dsimp[Fn,d6,List.replicate];left;refine N1 (k:=k) hT.nf hT.mj hT.qO ha () λg1 b e1 _ hb=>?_;left;refine bJ5 (b0 hb) ?_;have:(d4 (fQ cs w x)).isEmpty=(fQ cs w x).isEmpty:=by unfold d4;cases fQ cs w x<;>rfl
  rw[this];have sj:(fQ cs w x).isEmpty=false:=by unfold O0 at ht;simpa using ht
  rw[sj];left;exact h _ e1
 cases w with
 |cG =>
  refine iu (by decide +kernel) ?_;left;have:=aS3 ht;exact ax5 (k:=k+1) hT.nf hF.Dh ha (λ_ _=>h _ (Ex.refl _)) (λz=>absurd ⟨this.1,by rw[ai];exact this.2⟩ z)
 |lower =>
  refine fC (by decide +kernel) ?_;left;exact lF (λz=>by cases z)
 |upper =>
  refine fC (by decide +kernel) ?_;left;exact lF (λz=>by cases z)
theorem aB9(hT:TB0 T)(hF:yu T){y:Int}(ha:g[a]?=some (.lst (cs.map b8.d)))(hz:cs.length<=9)(hx:O0 cs w x=true)(hy:O0 cs w y=true)(hn:x≠y)(h:∀g',Ex g g'->Q .br g'):d0 T (k+6) 137 [.ref a,.str w.s,.int x,.int y] g Q E:=by
 refine call_of hF.Dq rfl ?_;dsimp[FA,d6,List.replicate];left;refine Y4 (in_words ?_);left;refine LC (k:=k) hT hF ha hz hx λg1 e1=>?_;left;refine LC (k:=k) hT hF (e1.at ha) hz hy λg2 e2=>?_;left;refine fC (aB hn) ?_;left;exact h _ (e1.trans e2)
theorem LH(hT:TB0 T)(hF:TF T)(hW:T 117=some F4)(nh:T 129=some M5)(B:Bd g b cs v rs)(hz:cs.length<=9)(hr:rs.length<=900)(h:∀(L:List Nat) l g',Ex g g'->g.length<=l->g'[l]?=some (.lst (d4 L))->L.Pairwise (· < ·)->(∀s,s∈L↔kj (k6 cs v rs) s)->L.length<=512->(kj (k6 cs v rs) (2 ^ cs.length-1)->Q .br g')/\(¬kj (k6 cs v rs) (2 ^ cs.length-1)->Q (.ref l) g')):d0 T (k+7) 129 [.ref b] g Q E:=by
 refine call_of nh rfl ?_;dsimp[M5,d6,List.replicate];obtain⟨w0,l0,dd,nb,f1,f2,f3,f4,f5⟩:=B.ex;left;refine KU (k:=k) hT hF hW B hz hr λL l g1 e1 hl h1 pw hL wU=>?_;obtain⟨PQ,Cg⟩:=h L l g1 e1 hl h1 pw hL wU;have h0:0∈L:=(hL 0).mpr .zero;have PU:=fu h0;have ow:=ao (show L.length-1<L.length by omega);generalize si:L[L.length-1]=z at ow;have atl:gh (d4 L) (-1)=some (.int (z:Nat)):=by
  unfold gh lq;have il:(d4 L).length=L.length:=by simp[d4]
  rw[aE ∅,il,aH (by(clear hz hr hl si;omega))];show(d4 L)[(-1+(L.length:Int)).toNat]?=_;rw[show(-1+(L.length:Int)).toNat=L.length-1 by(clear hz hr hl si;omega),d4,aj,ow]
  rfl
 have HV:z∈L:=aD ow;have ot:∀x∈L,x<=z:=λx hx=>by
  obtain⟨i,hi,rfl⟩:=bI.mp hx;rcases cB i (L.length-1) with y|y
  ·have:=gO.mp pw i (L.length-1) hi () y;omega
  ·have:i=L.length-1:=by(clear hz hr hl si;omega)
   subst this;omega
 have hzl:=((hL z).mp HV).lt (C5 cs v rs);left;refine s9 (b0 h1) atl ?_;left;refine X0 (e1.at f1) rfl ?_;left;have ed:decide (((z:Nat):Int)=((2 ^ cs.length-1:Nat):Int))=decide (z=2 ^ cs.length-1):=cK.mpr (by(clear hz hr hl si;omega));rw[ed];refine if2 (λc1=>?_) (λc1=>?_)
 ·left;exact PQ (c1▸(hL z).mp HV)
 ·left;refine Cg λhR=>c1 ?_;have:=ot _ ((hL _).mpr hR);omega
theorem Lf{r:cQ}(h:j5 cs r=true):O0 cs r.w r.x=true/\O0 cs r.w r.y=true/\r.x≠r.y:=by
 unfold j5 at h;simp only[Bool.and_eq_true,Bool.not_eq_true',decide_eq_false_iff_not] at h;unfold O0;rw[h.2.1,h.2.2];exact⟨rfl,rfl,h.1⟩
def T9(m1 m2:Nat):Str:=if m2=0 then "first" else if m1=0 then "later" else "either"
theorem Tx(hT:TB0 T)(oZ:T 42=some C9)(qN:T 98=some K2)(hF:TF T)(hW:TW T)(hN:TN T)(hI:yu T){r:cQ}(ha:g[a]?=some (.lst (cs.map b8.d)))(hz:cs.length<=9)(hg:cs.all u3=true)(hB:∀c∈cs,CB c)(hv:1<=v/\v<=9)(hc:g[c]?=some (.lst (i7 rs)))(hr:rs.length<=800)(hR:rs.all (j5 cs)=true)(mH:j5 cs r=true)(h1:many cs v (rs++[r])=0->many cs v (rs++[u5 r])=0->∀g',Ex g g'->E ⟨"NoOrder"⟩ g')(h2:¬(many cs v (rs++[r])=0/\many cs v (rs++[u5 r])=0)->∀g' l,Ex g g'->l≠[]->l.head?=some (.str (T9 (many cs v (rs++[r])) (many cs v (rs++[u5 r]))))->Q (.tup l) g'):d0 T (k+12) 138 [.ref a,.int v,.ref c,.str r.w.s,.int r.x,.int r.y] g Q E:=by
 refine call_of hI.Dp rfl ?_;dsimp[xY,d6,List.replicate];left;refine Lz (k:=k+4) hT oZ qN ha () hc () (λz=>by omega) (λ_ z=>by rw[hg] at z;cases z) (λ_ _ z=>absurd hv z) (λ_ _ _ z=>by rw[hR] at z;cases z) λ_ _ _ _ g1 e1=>?_;left;obtain⟨tx,ty,Pa⟩:=Lf mH;refine aB9 (k:=k+5) hT hI (e1.at ha) hz tx ty Pa λg2 e2=>?_;have pB:=e1.trans e2;left;have s3:=Ex.snoc g2 (O.lst (i7 [r]));have wK:∀r:cQ,i7 rs++i7 [r]=i7 (rs++[r]):=λr=>by simp[i7]
 refine Y5 ((Ex.snoc _ _).at (pB.at hc)) b9 (by simp[i7];omega) ?_;rw[show[D.tup [D.str r.w.s,D.int r.x,D.int r.y]]=i7 [r] from rfl,wK];left;have e4:=(Ex.snoc g2 (O.lst (i7 [r]))).trans (Ex.snoc _ (O.lst (i7 (rs++[r]))));have c4:=b9 (g:=g2++[O.lst (i7 [r])]) (o:=O.lst (i7 (rs++[r])));generalize (g2++[O.lst (i7 [r])])++[O.lst (i7 (rs++[r]))]=g4 at *;have pA:=pB.trans e4;refine FJ (k:=k+2) hT (pA.at ha) hz hg hB c4 (by simp;omega) λg5 e5 B5=>?_;have xp:=pA.trans e5;generalize g4.length=b1 at *;left;refine Y5 ((Ex.snoc _ _).at (xp.at hc)) b9 (by simp[i7];omega) ?_;rw[show[D.tup [D.str r.w.s,D.int r.y,D.int r.x]]=i7 [u5 r] from rfl,wK];left;have e6:=(Ex.snoc g5 (O.lst (i7 [u5 r]))).trans (Ex.snoc _ (O.lst (i7 (rs++[u5 r]))));have c6:=b9 (g:=g5++[O.lst (i7 [u5 r])]) (o:=O.lst (i7 (rs++[u5 r])));generalize (g5++[O.lst (i7 [u5 r])])++[O.lst (i7 (rs++[u5 r]))]=g6 at *;have Jk:=xp.trans e6;refine FJ (k:=k+2) hT (Jk.at ha) hz hg hB c6 (by simp;omega) λg7 e7 B7=>?_;have DN:=Jk.trans e7;have Of:=B5.at (e6.trans e7);generalize g6.length=b2 at *;left;have vW:(rs++[r]).length<=900:=by simp;omega
 have vV:(rs++[u5 r]).length<=900:=by simp;omega
 have mz:∀{rs:List cQ},j6 cs.length (k6 cs v rs) 0=[]↔many cs v rs=0:=λ{rs}=>by unfold many;exact cz.symm
 have nz:∀{rs:List cQ} {o:List Nat},(j6 cs.length (k6 cs v rs) 0)[0]?=some o->many cs v rs≠0:=λ{rs o} h z=>by rw[mz.mpr z] at h;cases h
 generalize Ik:many cs v (rs++[r])=m1 at *;generalize zj:many cs v (rs++[u5 r])=m2 at *;have rest:∀(N:Ends) (E:KX) (x y:D) g8,Ex g7 g8->((m1=0/\x=.br)\/(m1≠0/\∃i,x=.ref i))->((m2=0/\y=.br)\/(m2≠0/\∃i,y=.ref i))->(m1=0->m2=0->∀g',Ex g g'->E ⟨"NoOrder"⟩ g')->(¬(m1=0/\m2=0)->∀g' l,Ex g g'->l≠[]->l.head?=some (.str (T9 m1 m2))->N.rt (.tup l) g')->wpS (d0 T (k+11)) (match xY.body with|.seq _ (.seq _ (.seq _ (.seq _ (.seq _ (.seq _ b)))))=>b|x=>x) N [some (.ref a),some (.int v),some (.ref c),some (.str r.w.s),some (.int r.x),some (.int r.y),some (.ref b1),some (.ref b2),some x,some y] g8 E:=by
  intro N E x y g8 e8 hx hy h1 h2;have uH:=DN.trans e8;dsimp[xY];have qx:∀{b lU} {Q:KD} {E:KX} {g8:G},Ex g g8->Bd g8 b cs v lU->lU.length<=900->(∀g' x,Ex g g'->Q x g')->d0 T (k+11) 129 [.ref b] g8 Q E:=λe8 B hl hN =>
   LH (k:=k+4) hT hF hW.oC hI.nh B hz hl λL l g9 e9 _ _ _ _ _=>⟨λ_=>hN _ _ (e8.trans e9),λ_=>hN _ _ (e8.trans e9)⟩
  rcases hx with⟨z1,rfl⟩|⟨z1,i1,rfl⟩
  ·rcases hy with⟨z2,rfl⟩|⟨z2,i2,rfl⟩
   ·left;exact h1 z1 z2 _ uH
   ·left;refine qx uH (Of.at e8) vW λg' x e'=>?_;left;exact h2 (λz=>z2 z.2) _ _ e' (by simp) (by unfold T9;rw[aE z2,aH z1];rfl)
  ·rcases hy with⟨z2,rfl⟩|⟨z2,i2,rfl⟩
   ·left;refine qx uH (B7.at e8) vV λg' x e'=>?_;left;exact h2 (λz=>z1 z.1) _ _ e' (by simp) (by unfold T9;rw[aH z2];rfl)
   ·left;exact h2 (λz=>z1 z.1) _ _ uH (by simp) (by unfold T9;rw[aE z2,aE z1];rfl)
 refine F6 (k:=k+3) hT hF hW hN hI.jh Of hz vW (λho g8 e8=>?_) (λo i g8 ho e8 _ _=>?_)
 ·have z1:m1=0:=Ik▸mz.mp ho;left;refine F6 (k:=k+3) hT hF hW hN hI.jh (B7.at e8) hz vV (λjI g9 e9=>?_) (λo2 i2 g9 jI e9 _ _=>?_)
  ·exact rest _ _ _ _ g9 (e8.trans e9) (.inl ⟨z1,rfl⟩) (.inl ⟨zj▸mz.mp jI,rfl⟩) h1 h2
  ·exact rest _ _ _ _ g9 (e8.trans e9) (.inl ⟨z1,rfl⟩) (.inr ⟨zj▸nz jI,_,rfl⟩) h1 h2
 ·have z1:m1≠0:=Ik▸nz ho;left;refine F6 (k:=k+3) hT hF hW hN hI.jh (B7.at e8) hz vV (λjI g9 e9=>?_) (λo2 i2 g9 jI e9 _ _=>?_)
  ·exact rest _ _ _ _ g9 (e8.trans e9) (.inr ⟨z1,_,rfl⟩) (.inl ⟨zj▸mz.mp jI,rfl⟩) h1 h2
  ·exact rest _ _ _ _ g9 (e8.trans e9) (.inr ⟨z1,_,rfl⟩) (.inr ⟨zj▸nz jI,_,rfl⟩) h1 h2
theorem Vo(hT:TB0 T)(oZ:T 42=some C9)(qN:T 98=some K2)(hF:TF T)(hW:TW T)(hN:TN T)(hI:yu T){r:cQ}(ha:g[a]?=some (.lst (cs.map b8.d)))(hz:cs.length<=9)(hg:cs.all u3=true)(hB:∀c∈cs,CB c)(hv:1<=v/\v<=9)(hc:g[c]?=some (.lst (i7 rs)))(hr:rs.length<=800)(hR:rs.all (j5 cs)=true)(mH:j5 cs r=true)(h1:many cs v (rs++[r])=0->many cs v (rs++[u5 r])=0->∀g',Ex g g'->E ⟨"NoOrder"⟩ g')(h2:¬(many cs v (rs++[r])=0/\many cs v (rs++[u5 r])=0)->∀g',Ex g g'->Q (.str (T9 (many cs v (rs++[r])) (many cs v (rs++[u5 r])))) g'):d0 T (k+13) 139 [.ref a,.int v,.ref c,.str r.w.s,.int r.x,.int r.y] g Q E:=by
 refine call_of hI.Dn rfl ?_;dsimp[EI,d6,List.replicate];left;refine Tx (k:=k) hT oZ qN hF hW hN hI ha hz hg hB hv hc hr hR mH h1 λff g' l e' hl hh=>?_;left;refine x5 (d:=.str (T9 (many cs v (rs++[r])) (many cs v (rs++[u5 r])))) (B4 (j:=0) (by cases l with|nil=>exact absurd rfl hl|cons x _=>simpa using hh)) ?_;exact h2 ff _ e'
end
theorem Wc{o:List Nat}(dW:∀i∈o,i<cs.length)(r:cQ):fM (n9 cs r) 0 o=true↔∀(i p:Nat),o[i]?=some p->meant cs r.w r.y p=true->∃j∈o.take i,meant cs r.w r.x j=true:=by
 have:=Aj (q:=n9 cs r) o [];rw[show gb []=0 from rfl] at this;rw[this];refine kH λi=>kH λp=>?_;refine⟨λh hp hm=>?_,λh hp=>?_⟩
 ·have:=h hp;unfold n9 at this;rw[hm,ia,eX,aO] at this;obtain⟨j,_,hj⟩:=this;rw[aP,jj,K0,bP] at hj;exact⟨j,hj.1,hj.2⟩
 ·unfold n9;cases hm:meant cs r.w r.y p with
  |false=>rfl
  |true =>
   obtain⟨j,hj,hx⟩:=h hp hm;rw[ia,eX,aO];exact⟨j,aN.mpr (dW j (fT hj)),by rw[jj,K0,aw hj,hx];rfl⟩
def Z1(cs:List b8)(w:RW)(x:Int)(o:List Nat):Nat:=o.findIdx (meant cs w x)
section
variable{o:List Nat}
theorem Mz(h:∃p∈o,meant cs w x p=true):∃p,o[Z1 cs w x o]?=some p/\meant cs w x p=true:=by
 have hl:o.findIdx (meant cs w x)<o.length:=List.findIdx_lt_length.mpr h;exact⟨_,ao hl,Bk (w:=hl)⟩
theorem Fc(h:o[i]?=some p)(hm:meant cs w x p=true):Z1 cs w x o<=i:=by
 refine iX.mp λdW=>?_;have:=List.not_of_lt_findIdx dW;obtain⟨hi,he⟩:=ak.mp h;rw[he,hm] at this;exact Bool.noConfusion this
theorem a40(dW:∀i∈o,i<cs.length)(hy:∃p∈o,meant cs r.w r.y p=true):fM (n9 cs r) 0 o=decide (Z1 cs r.w r.x o<Z1 cs r.w r.y o):=by
 rw[aS,bP,Wc dW];constructor
 ·intro h;obtain⟨p,hp,hm⟩:=Mz hy;obtain⟨j,hj,Qj⟩:=h _ p hp hm;obtain⟨i,hi⟩:=bO.mp hj;have jn:i<Z1 cs r.w r.y o:=by
   have:=(ak.mp hi).1;simp at this;omega
  rw[cu jn] at hi;exact dS (Fc hi Qj) jn
 ·intro h i p hp hm;have hle:=Fc hp hm;have hx:Z1 cs r.w r.x o<o.length:=by have:=(ak.mp hp).1;omega
  exact⟨o[Z1 cs r.w r.x o],bO.mpr ⟨Z1 cs r.w r.x o,by rw[cu ()];exact ao hx⟩,Bk (w:=hx)⟩
theorem Nh(nd:o.Nodup)(hl:o.length=cs.length)(dW:∀i∈o,i<cs.length)(h:O0 cs w x=true):∃p∈o,meant cs w x p=true:=by
 unfold O0 at h;cases e:fQ cs w x with
 |nil=>rw[e] at h;cases h
 |cons p _ =>
  have hp:p∈fQ cs w x:=by rw[e];simp
  obtain⟨h1,h2⟩:=bp.mp hp;exact⟨p,Gq nd hl dW (aN.mp h1),h2⟩
end
theorem a12{F:Nat->List Nat}(hF:FG n F)(nd:∀s,(F s).Nodup):∀t,t<=n->(w9 F (t+1)).length<=(w9 F t).length*(n-t):=λt ht=>by
 rw[w9];refine Ae λr hr=>?_;rw[ai];obtain⟨g1,g2,g3⟩:=M9 hF hr;have:=V3 (l:=F (gb r)++r) (m:=List.range n) (cT.mpr ⟨nd _,g2,λx hx y hy z=>?_⟩) λx hx=>?_
 ·simp at this;omega
 ·have:=(hF _ _ hx).2;rw[K0] at this;exact(by simpa using this:x∉r) (z▸hy)
 ·rcases aV.mp hx with z|z
  ·exact aN.mpr (hF _ _ z).1
  ·exact aN.mpr (g3 x z)
theorem Wg(hz:cs.length<=5):(j6 cs.length (k6 cs v rs) 0).length<=120:=by
 rw[<- Fb (C5 cs v rs)];have nd:∀s,(k6 cs v rs s).Nodup:=λs=>iF.sublist List.filter_sublist;have R:=a12 (C5 cs v rs) nd;have h0:(w9 (k6 cs v rs) 0).length=1:=rfl;generalize cs.length=n at *;generalize k6 cs v rs=F at *;have R0:=R 0;have R1:=R 1;have R2:=R 2;have R3:=R 3;have R4:=R 4;simp only[Nat.reduceAdd,Nat.zero_add] at R0 R1 R2 R3 R4;clear R;have mul:∀{a b c d:Nat},a<=b*c->b<=d->a<=d*c:=λh1 h2=>aG h1 (jS _ h2);by_cases n0:n=0
 ·subst n0;omega
 have h1:=mul (R0 ()) (vo h0);by_cases n1:n=1
 ·subst n1;omega
 have h2:=mul (R1 ()) h1;by_cases n2:n=2
 ·subst n2;omega
 have h3:=mul (R2 ()) h2;by_cases n3:n=3
 ·subst n3;omega
 have h4:=mul (R3 ()) h3;by_cases n4:n=4
 ·subst n4;omega
 have h5:=mul (R4 ()) h4;obtain rfl:n=5:=by omega
 omega
def Y0:aW:=⟨2,6,(.seq (.set 2 (.lit .br)) (.seq (.dq (.one 3) (.jF (bc 1) (bH (.bin .Add) (bc 9) (bc 1))) (.seq (.set 4 (.make "Bounds" 113 (fe aM bz ba))) (.seq (.set 5 (.call 124 (dZ cS))) (.seq (.ifs (dD .IsNot dF (.lit .br)) (.seq (.ret (.prim .tup (fe bz dF bg))) .pass) .pass) (.seq (.set 2 (.call 129 (dZ cS))) .pass))))) (.seq (.ret (.lit .br)) .pass)))⟩
def EH:aW:=⟨2,3,(.seq (.expr (.call 18 (dZ aM))) (.seq (.expr (.call 89 (dA aM ba))) (.seq (.set 2 (.call 134 (dA aM ba))) (.seq (.ifs (dD .Is bg (.lit .br)) (.seq (.raise "NoOrder" (dZ (fh "there is no order with any count of anvils"))) .pass) .pass) (.seq (.ret bg) .pass)))))⟩
def vd(cs:List b8)(o:List Nat):Nat->Nat
 |0=>1
 |t+1=>max (vd cs o t) (C0 cs (gb (o.take t)).testBit (o.getD t 0))
theorem Fu{cs:List b8}{o:List Nat}{v:Nat}:∀t,vd cs o t<=v↔1<=v/\∀i,i<t->C0 cs (gb (o.take i)).testBit (o.getD i 0)<=v
 |0=>by simp[vd]
 |t+1=>by
  rw[vd,Nat.max_le,Fu t];constructor
  ·rintro⟨⟨h1,h2⟩,h3⟩;refine⟨h1,λi hi=>?_⟩;rcases cB i t with z|z
   ·exact h2 i z
   ·have:i=t:=by omega
    exact this▸h3
  ·rintro⟨h1,h2⟩;exact⟨⟨h1,λi hi=>h2 i ()⟩,h2 t ()⟩
theorem a30(cs:List b8){v:Nat}(hv:v<=9)(rs:List cQ):j6 cs.length (k6 cs v rs) 0=(j6 cs.length (k6 cs 9 rs) 0).filter (fM (λs p=>decide (C0 cs s.testBit p<=v)) 0):=by
 refine Z3 (C5 cs 9 rs) (λs=>?_) _ 0 (az _) (ji _);rw[U7,U7,kP];refine gX λp _=>?_;unfold xK;have:(!decide ((v:Int)<C0 cs s.testBit p))=(decide (C0 cs s.testBit p<=v)&&!decide ((9:Int)<C0 cs s.testBit p)):=by
  by_cases h:C0 cs s.testBit p<=v
  ·rw[aw h,aB (show ¬(v:Int)<C0 cs s.testBit p by omega),aB (show ¬(9:Int)<C0 cs s.testBit p by omega)]
   rfl
  ·rw[aB h,aw (show(v:Int)<C0 cs s.testBit p by omega)]
   rfl
 rw[this];generalize decide (C0 cs s.testBit p<=v)=q1;generalize (!decide ((9:Int)<C0 cs s.testBit p))=q2;generalize F9 cs s.testBit p=q3;generalize F0 cs s.testBit p=q4;generalize (rs.all λr=>n9 cs r s p)=q5;cases q1<;>cases q2<;>cases q3<;>cases q4<;>cases q5<;>rfl
theorem Ks{o:List Nat}{v:Nat}(h1:1<=v):fM (λs p=>decide (C0 cs s.testBit p<=v)) 0 o=true↔vd cs o o.length<=v:=by
 have:=Aj (q:=λs p=>decide (C0 cs s.testBit p<=v)) o [];rw[show gb []=0 from rfl] at this;rw[this,Fu];constructor
 ·intro h;refine⟨h1,λi hi=>?_⟩;have:=h i _ (ao hi);simpa[List.getD,hi] using this
 ·rintro⟨_,h⟩ i p hp;have hi:=(ak.mp hp).1;have:=h i hi;rw[show o.getD i 0=p by simp[List.getD,hp]] at this;simpa using this
theorem Kn{v:Nat}(h1:1<=v)(h9:v<=9):many cs v rs≠0↔∃o∈j6 cs.length (k6 cs 9 rs) 0,vd cs o o.length<=v:=by
 unfold many;rw[a30 cs h9,Ne,cz,cX];constructor
 ·intro h;refine qq λz=>h λo ho hk=>z ⟨o,ho,(Ks h1).mp hk⟩
 ·rintro⟨o,ho,hm⟩ h;exact h o ho ((Ks h1).mpr hm)
section
variable{T:Nat->Option aW}{d:Nat}
theorem aJ5(hT:TB0 T)(hF:TF T)(hW:TW T)(hN:TN T)(jh:T 124=some K1)(nh:T 129=some M5)(sQ:T 134=some Y0)(ha:g[a]?=some (.lst (cs.map b8.d)))(hz:cs.length<=9)(hg:cs.all u3=true)(hB:∀c∈cs,CB c)(hc:g[c]?=some (.lst (i7 rs)))(hr:rs.length<=900)(h1:∀(n:Nat) x y g',Ex g g'->1<=n->n<=9->many cs n rs≠0->(∀j:Nat,1<=j->j<n->many cs j rs=0)->Q (.tup [.int n,x,y]) g')(h2:(∀j:Nat,1<=j->j<=9->many cs j rs=0)->∀g',Ex g g'->Q .br g'):d0 T (k+10) 134 [.ref a,.ref c] g Q E:=by
 refine call_of sQ rfl ?_;dsimp[Y0,d6,List.replicate];left;refine x6 (b7 T _) (Kg (b7 T _) ?_);left;refine⟨_,_,rfl,rfl,⟨by decide,by decide,by decide,by decide⟩,k8 1 9,λt Z g'=>Ex g g'/\(∀j:Nat,1<=j->j<=t->many cs j rs=0)/\∃y z3 z4 z5,Z=[some (.ref a),some (.ref c),some y,z3,z4,z5],λ_ _ _ _=>w6,⟨Ex.refl _,λj _ _=>by omega,.br,none,none,none,rfl⟩,λt x Z g1 hx q=>?_,λZ g1 q=>?_⟩
 ·obtain⟨e1,kf,y,z3,z4,z5,rfl⟩:=q;obtain⟨ht,rfl⟩:=B3 hx;rw[show(1:Int)+((t:Nat):Int)=((t+1:Nat):Int) by omega];refine j8 ?_
  try show wpS _ _ _ _ _ _
  left;refine FJ (k:=k) hT (e1.at ha) hz hg hB (e1.at hc) hr λg2 e2 B2=>?_;left;refine F6 (k:=k+1) hT hF hW hN jh B2 hz hr (λho g3 e3=>?_) (λo l g3 ho e3 _ h3=>?_)
  ·left;refine LH (k:=k+2) hT hF hW.oC nh (B2.at e3) hz hr λL l g4 e4 _ _ _ _ _=>?_;have pA:=e1.trans (e2.trans (e3.trans e4));have m0:∀j:Nat,1<=j->j<=t+1->many cs j rs=0:=λj j1 j2=>by
    rcases cB j (t+1) with z|z
    ·exact kf j j1 ()
    ·have:j=t+1:=by omega
     subst this;unfold many;rw[ho]
     rfl
   constructor
   ·intro _;left;exact⟨pA,m0,_,_,_,_,rfl⟩
   ·intro _;left;exact⟨pA,m0,_,_,_,_,rfl⟩
  ·left;refine h1 (t+1) _ _ _ (e1.trans (e2.trans e3)) () () (λz=>?_) λj j1 j2=>kf j j1 ();unfold many at z;rw[cz] at z;rw[z] at ho;cases ho
 ·obtain⟨e1,kf,y,z3,z4,z5,rfl⟩:=q;rw[o6] at kf
  try show wpS _ _ _ _ _ _
  left;exact h2 kf _ e1
end
section
variable{Z:S}{c:ME}
theorem KC(hP:j9 P)(h:gK P it Z g (λk g1=>∃(l:List D) (Sh:S->Prop) (p:Nat->Bool) (w:Nat->D),(∀g',Ex g1 g'->k.Is l g')/\l.length<=1000/\Sh (H9 Z f7 n) /\
      (∀ i d Z g',l[i]?=some d->Ex g1 g'->Sh Z->jT t d Z λcA=>dh P c cA g' (λb g3=>b=p i/\Ex g1 g3/\if b=true then aX P elt cA g3 (λy g4=>y=w i/\Ex g1 g4/\Sh cA) iV else Sh cA) iV)/\∀ g',Ex g1 g'->Q (.ref g'.length) (g' ++ [.lst (((List.range l.length).filter p).map w)])) E):aX P (.comp f7 n t it c elt) Z g Q E:=by
  refine J5 hP (B6 hP it _ _ _ _ _ _ (λk g1 h=>?_) (λ_ _ z=>z) h);obtain⟨l,Sh,p,w,hk,hl,h0,hs,hd⟩:=h;refine⟨l,λi ys Z g'=>Ex g1 g'/\ys=((List.range i).filter p).map w/\Sh Z,hl,λi ys Z g' q=>⟨hk _ q.1,?_⟩,⟨Ex.refl _,rfl,h0⟩,λi x ys Z g' hx q=>?_,λys Z g' q=>?_⟩
  · obtain⟨_,rfl,_⟩:=q;rw[ai];exact aG (df _ _) (by simp)
  · obtain⟨e1,rfl,sh⟩:=q;refine A8 (λcA q=>u7 hP c _ _ _ _ _ _ (λb g3 q=>?_) (λ_ _ z=>z) q) (hs i x Z g' hx e1 sh);obtain⟨rfl,e3,q⟩:=q;have ef:((List.range (i+1)).filter p).map w=((List.range i).filter p).map w++if p i=true then[w i] else[]:=by
      rw[eZ,de,cV]
      congr 1
      cases z:p i<;>simp only[List.filter_cons,z,List.filter_nil]<;>rfl
    cases hp:p i with
    |true =>
      rw[hp] at q ef;rw[aH rfl] at q ⊢;refine d5 hP elt _ _ _ _ _ _ (λy g4 q=>?_) (λ_ _ z=>z) q;obtain⟨rfl,e4,sh⟩:=q;exact⟨e4,by rw[ef];rfl,sh⟩
    |false =>
      rw[hp] at q ef;rw[aE ∅] at q ⊢;exact⟨e3,by rw[ef];simp,q⟩
  · obtain⟨e1,rfl,sh⟩:=q;exact hd g' e1
end
theorem MK(q:α->Bool)(f:α->D)(d:α)(l:List α):((List.range l.length).filter λi=>q (l.getD i d)).map (λi=>f (l.getD i d))=(l.filter q).map f:=by
 have e:(List.range l.length).map (λi=>l.getD i d)=l:=by
  refine cU λi=>?_;rw[aj];by_cases hi:i<l.length
  ·rw[bC hi,Option.map_some,pL,ao hi]
   rfl
  ·rw[aQ (by simpa using hi),aQ ()]
   rfl
 have h:(((List.range l.length).map λi=>l.getD i d).filter q).map f=(l.filter q).map f:=by rw[e]
 rw[nO,bR] at h;exact h
def r0:cQ:=⟨.cG,0,0⟩
theorem MY(rs:List cQ):(i7 rs).length=rs.length:=by unfold i7;simp
theorem Pp{b:Bool}{A B:Prop}(h1:b=true->A)(h2:b=false->B):if b=true then A else B:=by
 cases b
 ·exact h2 rfl
 ·exact h1 rfl
theorem aV7{y:Int}(hx:0<=x/\x<cs.length)(hy:0<=y/\y<cs.length)(hn:x≠y):j5 cs ⟨.cG,x,y⟩=true:=by
 unfold j5 fQ;simp only[Bool.and_eq_true,Bool.not_eq_true',decide_eq_false_iff_not,List.isEmpty_eq_false_iff];have f:∀z:Int,0<=z/\z<cs.length->List.filter (meant cs .cG z) (List.range cs.length)≠[]:=λz hz=>List.ne_nil_of_mem (a:=z.toNat) (bp.mpr ⟨aN.mpr (),aw ()⟩);exact⟨hn,f _ hx,f _ hy⟩
def Ag:aW:=⟨2,6,(.seq (.mx (.many [2,3,4]) ba) (.seq (.ifs (.jY (dD .Eq bz cS) (dD .NotIn bg (.prim .lst (fe (fh "coin") (fh "lower") (fh "upper"))))) (.seq (.ret (.lit (.bl false))) .pass) .pass) (.seq (.ifs (dD .Eq bg (fh "coin")) (.seq (.ret (.dB (bH (.cmp .LtE) (bc 0) (bH .min bz cS)) (bH (.cmp .Lt) (bH .max bz cS) (cY .len aM)))) .pass) .pass) (.seq (.set 5 (.comp [2] 3 (.one 2) (.eU aM) .no (.ite (dD .Eq aM (fh "lower")) (cH bg (bc 0)) (cH bg (bc 2))))) (.seq (.ret (.dB (bH (.cmp .In) bz dF) (bH (.cmp .In) cS dF))) .pass)))))⟩
theorem a55{x:Str}(hy:J8 g y=some [.str "coin",.str "lower",.str "upper"])(hx:PyData.strOk x=true)(h:kb (decide (x="coin")||(decide (x="lower")||decide (x="upper")))):qG g (.str x) y kb:=by
 refine⟨_,.inr ⟨_,[.str "coin",.str "lower",.str "upper"],.str x,hy,rfl,rfl,by simp only[PyData.canLayAll0,PyData.canLay0,Bool.and_true];decide +kernel,by simp only[PyData.canLay0];exact hx,rfl⟩,?_⟩;have e:∀y:Str,PyData.eqv (.str y) (.str x)=decide (x=y):=λy=>by
  simp only[PyData.eqv];rw[aS,eG,cZ];exact eq_comm
 simp only[List.any_cons,List.any_nil,Bool.or_false,e];exact h
theorem RW.ok(w:RW):PyData.strOk w.s=true:=by cases w<;>decide +kernel
theorem RW.yes(w:RW):(decide (w.s="coin")||(decide (w.s="lower")||decide (w.s="upper")))=true:=by cases w<;>decide +kernel
section
variable{T:Nat->Option aW}
theorem Mn(cs:List b8)(w:RW)(x:Int):(!(fQ cs w x).isEmpty)=(List.range cs.length).any (meant cs w x):=by
 rw[aS];constructor
 ·intro h;cases e:fQ cs w x with
  |nil=>rw[e] at h;cases h
  |cons i _ =>
   have hi:i∈fQ cs w x:=by rw[e];simp
   obtain⟨h1,h2⟩:=bp.mp hi;exact aO.mpr ⟨i,h1,h2⟩
 ·intro h;obtain⟨i,h1,h2⟩:=aO.mp h;rw[GI (aN.mp h1) h2]
  rfl
theorem MV(cs:List b8)(x:Int):(!(fQ cs .cG x).isEmpty)=decide (0<=x/\x<cs.length):=by
 rw[Mn,aS,cZ,aO];constructor
 ·intro⟨i,h1,h2⟩;have h1:=aN.mp h1;have h2:(i:Int)=x:=bh h2;omega
 ·intro h;exact⟨x.toNat,aN.mpr (),aw ()⟩
theorem Mo(hm:∀i,meant cs w x i=decide (A2 f (bN cs i)=x)):(!(fQ cs w x).isEmpty)=(((List.range cs.length).map λi=>A2 f (bN cs i)).any λm=>m==x):=by
 rw[Mn,ja]
 congr 1
 funext i
 rw[hm i];exact aS.mpr (by simp)
theorem VX(sP:T 140=some Ag)(ha:g[a]?=some (.lst (cs.map b8.d)))(hz:cs.length<=9)(h:∀g',Ex g g'->Q (.bl (j5 cs r)) g'):d0 T (k+1) 140 [.ref a,r.d] g Q E:=by
 refine call_of sP rfl ?_;dsimp[Ag,d6,List.replicate];left;refine B1 (l:=[.str r.w.s,.int r.x,.int r.y]) rfl ?_;left;refine if2 (λh1=>?_) (λh1=>?_)
 ·left;have:j5 cs r=false:=by
   unfold j5;rw[aw (show r.x=r.y from h1)]
   rfl
  rw[<- this];exact h _ (Ex.refl _)
 left;refine Y4 (a55 (y:=.ref g.length) (b0 b9) (RW.ok r.w) ?_);left;have e1:=Ex.snoc g (O.lst [D.str "coin",D.str "lower",D.str "upper"])
 ·obtain⟨w,x,y⟩:=r;have h1:¬x=y:=h1;refine fC (show(!(decide (w.s="coin")||(decide (w.s="lower")||decide (w.s="upper"))))=false by rw[w.yes];rfl) ?_;left;have Qy:j5 cs ⟨w,x,y⟩=((!(fQ cs w x).isEmpty)&&(!(fQ cs w y).isEmpty)):=by
   unfold j5;rw[aB h1]
   rfl
  rw[Qy] at h;have lF:∀f:Int,(f=0\/f=2)->w≠.cG->decide (w.s="lower")=decide (f=0)->(∀x i,meant cs w x i=decide (A2 f (bN cs i)=x))->aX (d0 T k) (.comp [2] 3 (.one 2) (.eU (.var 0)) .no (.ite (.fo (.prim (.cmp .Eq) (.cons (.var 0) (.cons (.lit (.str "lower")) .nil)))) (.prim .ix (.cons (.var 2) (.cons (.lit (.int 0)) .nil))) (.prim .ix (.cons (.var 2) (.cons (.lit (.int 2)) .nil))))) [some (.ref a),some (cQ.d ⟨w,x,y⟩),some (.str w.s),some (.int x),some (.int y),none] (g++[O.lst [D.str "coin",D.str "lower",D.str "upper"]]) (λd g1=>wpS (d0 T k) (.ret (.dB (.prim (.cmp .In) (.cons (.var 3) (.cons (.var 5) .nil))) (.prim (.cmp .In) (.cons (.var 4) (.cons (.var 5) .nil))))) ⟨λ_ g'=>Q .br g',Q,λ_ _=>False,λ_ _=>False⟩ [some (.ref a),some (cQ.d ⟨w,x,y⟩),some (.str w.s),some (.int x),some (.int y),some d] g1 E) E:=λf hf hw hl hm=>by
   rw[Mo (hm x),Mo (hm y)] at h;refine comp_map (b7 T _) (λZ=>∃z1 z2,Z=[some (.str w.s),z1,z2]) (λi=>.int (A2 f (bN cs i))) (l:=cs.map b8.d) (k:=.lst a) (λg' e=>o8 (b0 ((e1.trans e).at ha))) (by simp;omega) ⟨none,none,rfl⟩ (λi x Z g' hx e sh=>?_) (λg' e=>?_) (O6 (b7 T _) (b0 (e1.at ha)) λQ q=>w_var (d:=.ref a) rfl q)
   ·obtain⟨z1,z2,rfl⟩:=sh;rw[aj,aa] at hx;obtain⟨c,hc,rfl⟩:=hx;refine j8 ?_
    try show aX _ _ _ _ _ _
    left;refine if2 (λc1=>?_) (λc1=>?_)
    ·rw[aw c1] at hl;have QC:f=0:=bh hl.symm;subst QC;left;exact x5 (L3 hf c) ⟨by rw[E0 hc],e,z1,_,rfl⟩
    ·rw[aB c1] at hl;have QB:f=2:=by
      rcases hf with z|z
      ·exact absurd z (of_decide_eq_false hl.symm)
      ·exact z
     subst QB;left;exact x5 (L3 hf c) ⟨by rw[E0 hc],e,z1,_,rfl⟩
   ·have e3:=(e1.trans e).trans (Ex.snoc g' (O.lst ((List.range (cs.map b8.d).length).map λi=>D.int (A2 f (bN cs i)))));have gl:(g'++[O.lst ((List.range (cs.map b8.d).length).map λi=>D.int (A2 f (bN cs i)))])[g'.length]?=some (.lst (((List.range cs.length).map λi=>A2 f (bN cs i)).map .int)):=by
     rw[bR,b9,ai]
     rfl
    have:=h _ e3;left;refine tE (N6 (b0 gl) ?_);cases hx:((List.range cs.length).map λi=>A2 f (bN cs i)).any λm=>m==x with
    |false =>
     rw[hx] at this;left;exact this
    |true =>
     rw[hx] at this;left;refine tE (N6 (b0 gl) ?_);exact this
  cases w with
  |cG =>
   refine iu (show decide (RW.cG.s="coin")=true by decide +kernel) ?_;left;rw[MV,MV] at h;by_cases c1:0<=(if y<x then y else x)
   ·refine iu (aw c1) ?_;left;refine E1 (b0 (e1.at ha)) ?_;left;rw[ai];have:=h _ e1;have ee:(decide (0<=x/\x<(cs.length:Int))&&decide (0<=y/\y<(cs.length:Int)))=decide ((if x<y then y else x)<(cs.length:Int)):=by
     rw[<- Bool.decide_and];exact cK.mpr (by split at c1<;>split<;>omega)
    rw[ee] at this;exact this
   ·refine fC (aB c1) ?_;have:=h _ e1;have ee:(decide (0<=x/\x<(cs.length:Int))&&decide (0<=y/\y<(cs.length:Int)))=false:=by
     rw[<- Bool.decide_and];exact aB (by split at c1<;>omega)
    rw[ee] at this;exact this
  |lower =>
   refine fC (show decide (RW.lower.s="coin")=false by decide +kernel) ?_;left;exact lF 0 (.inl rfl) (λz=>by cases z) (by decide +kernel) λx i=>rfl
  |upper =>
   refine fC (show decide (RW.upper.s="coin")=false by decide +kernel) ?_;left;exact lF 2 (.inr rfl) (λz=>by cases z) (by decide +kernel) λx i=>rfl
end
def qZ(m1 m2:Nat):D:=if m1=0/\m2=0 then .br else .str (T9 m1 m2)
theorem a84:∀(bs:List Bool),Y6 (bs.map D.bl)=some (bs.any id):=by
 intro bs
 induction bs with
 |nil=>rfl
 |cons b r ih=>simp[Y6,ih]
theorem TU{X:List (List Nat)}(hX:j6 cs.length (k6 cs v rs) 0=X)(mH:j5 cs r=true):qZ (many cs v (rs++[r])) (many cs v (rs++[u5 r]))=if X.length=0 then .br else .str (if(X.map (fM (n9 cs r) 0)).all id=true then "first" else if(X.map (fM (n9 cs r) 0)).any id=true then "either" else "later"):=by
 have h1:many cs v (rs++[r])=(X.filter (fM (n9 cs r) 0)).length:=by rw[EY,hX]
 have h2:many cs v (rs++[u5 r])=(X.filter λo=>!fM (n9 cs r) 0 o).length:=by
  have p1:=a45 (cs:=cs) (v:=v) (rs:=rs) mH;have p2:=Y2 (q:=fM (n9 cs r) 0) X;have p3:many cs v rs=X.length:=by unfold many;rw[hX]
  omega
 have ha:(X.map (fM (n9 cs r) 0)).all id=true↔many cs v (rs++[u5 r])=0:=by
  rw[h2,cz,cX];simp
 have hy:(X.map (fM (n9 cs r) 0)).any id=true↔many cs v (rs++[r])≠0:=by
  rw[h1,Ne,cz,cX];simp
 have hs:X.length=0↔many cs v (rs++[r])=0/\many cs v (rs++[u5 r])=0:=by
  have p2:=Y2 (q:=fM (n9 cs r) 0) X;omega
 unfold qZ T9;by_cases c0:X.length=0
 ·rw[aH c0,aH (hs.mp c0)]
 ·rw[aE c0,aE λz=>c0 (hs.mpr z)]
  congr 1
  by_cases c1:many cs v (rs++[u5 r])=0
  ·rw[aH c1,aH (ha.mpr c1)]
  ·rw[aE c1,aE λz=>c1 (ha.mp z)];by_cases c2:many cs v (rs++[r])=0
   ·rw[aH c2,aE λz=>hy.mp z c2]
   ·rw[aE c2,aH (hy.mpr c2)]
def xV:aW:=⟨3,4,(.seq (.set 3 (bH .lst (.call 125 (fe aM ba bg)) (.call 126 (fe aM ba bg)))) (.seq (.ifs (dD .Lt (cY .len aM) (bc 2)) (.seq (.ret (bH (.bin .Add) bz (cY .lst (fh "")))) .pass) .pass) (.seq (.mW (.dG .append bz (dZ (.call 139 (zA aM ba bg (fh "coin") (bc 0) (bH (.bin .Sub) (cY .len aM) (bc 1)))))) "NoOrder" (.seq (.expr (.dG .append bz (dZ (.lit .br)))) .pass)) (.seq (.ret bz) .pass))))⟩
def yj:aW:=⟨3,7,(.seq (.set 3 (.call 150 (fe aM ba bg))) (.seq (.set 4 (bH (.bin .Sub) (cY .len aM) (bc 1))) (.seq (.set 5 (.comp [4] 3 (.one 2) (.eU bz) (dD .Gt aM (bc 0)) (bH (.cmp .Lt) (.dG .index bg (dZ (bc 0))) (.dG .index bg (dZ aM))))) (.seq (.set 6 (.ite (dD .Lt (cY .len aM) (bc 2)) (fh "") (.lit .br))) (.seq (.ifs (dD .Gt (cY .len dF) (bc 0)) (.seq (.set 6 (.ite (.fo (cY .all dF)) (fh "first") (.ite (.fo (cY .any dF)) (fh "either") (fh "later")))) .pass) .pass) (.seq (.ret (.prim .lst (fe (.ite (dD .Gt (cY .len bz) (bc 0)) (cH bz (bc 0)) (.lit .br)) (cY .len bz) eL))) .pass))))))⟩
def GA:aW:=⟨2,2,(.seq (.Y9 (.seq (.ret (cH (.call 135 (dA aM ba)) (bc 0))) .pass) [("NoOrder",(.lit .br))]) .pass)⟩
def Em:aW:=⟨2,3,(.seq (.dq (.one 2) (.jF (bc 1) (bc 7)) (.seq (.ifs (dD .Gt (cY .len (.call 150 (fe aM bg ba))) (bc 0)) (.seq (.ret bg) .pass) .pass) .pass)) (.seq (.ret (.lit .br)) .pass))⟩
def rh:aW:=⟨1,20,(.seq (.set 1 (.call 3 (dZ aM))) (.seq (.mx (.many [2,3,4]) (.call 110 (dA ba (bc 4)))) (.seq (.set 5 (cY .list bg)) (.seq (.ifs (.dB (dD .Gt (cY .len bg) (bc 0)) (dD .Eq (.call 4 (dA ba (bc 2))) (bc 0))) (.seq (.set 6 (.call 4 (dA ba (cY .len bg)))) (.seq (.set 7 (cH bg eL)) (.seq (.set 8 (cH (.prim .lst (fe (bc 0) (cH fN (bc 4)) (bc 1400))) (.call 4 (dA ba (bc 3))))) (.seq (.eJ dF eL (bH (.bin .Add) (bH (.bin .Add) (cY .tup (bH (.bin .Add) (bc 1) (bH (.bin .Mod) (cH fN (bc 0)) (bc 98)))) (.prim (.jX true true) (fe fN (bc 1) (bc 4)))) (cY .tup ku))) .pass)))) .pass) (.seq (.set 9 (.prim .lst .nil)) (.seq (.dq (.one 10) (.eU (bH .lst bg dF)) (.seq (.dq (.one 11) (.eU (bH .lst bz (bH (.bin .Add) (bH (.bin .Mod) bz (bc 3)) (bc 1)))) (.seq (.set 12 (.comp [10] 3 (.one 2) (.eU cS) (.fo (.call 140 (dA aM bg))) bg)) (.seq (.dq (.one 13) (.eU (bH .lst ka (bH (.jX true false) ka (bc 1)))) (.seq (.set 14 (.call 292 (dA kc lp))) (.seq (.set 15 (.call 34 (fe kc mF lp))) (.seq (.expr (.dG .append mY (dZ (.prim .tup (rF kc mF lp mE qE))))) .pass)))) .pass))) .pass)) (.seq (.dq (.one 16) (.eQ (bc 2)) (.seq (.set 17 (bH (.bin .Add) (bH (.jX true false) mY oa) (bH (.jX false true) mY oa))) (.seq (.dq (.many [10,11,13,15,14]) (.eU wb) (.seq (.set 18 (bH .lst (cY .list kc) (cY .list lp))) (.seq (.set 19 (.call 30 (fe (cH iU (bc 0)) mF (cH iU (bc 1))))) (.seq (.ifs (.eI (.fo (.call 7 (dA qD mE)))) (.seq (.ret (.lit (.bl false))) .pass) .pass) (.seq (.set 19 (.call 291 (dA (cH iU (bc 0)) (cH iU (bc 1))))) (.seq (.ifs (.eI (.fo (.call 7 (dA qD qE)))) (.seq (.ret (.lit (.bl false))) .pass) .pass) (.seq (.expr (.dG .append (cH iU (bc 0)) (dZ (.prim .tup (rF (bc 1) (.prim .tup .nil) (bc 1) (.prim .tup .nil) (bc 0)))))) (.seq (.expr (.dG .clear (cH iU (bc 1)) .nil)) (.seq (.expr (.call 125 (fe (cH iU (bc 0)) mF (cH iU (bc 1))))) .pass))))))))) .pass))) (.seq (.ret (.lit (.bl true))) .pass))))))))⟩
def E9(cs:List b8)(v:Int)(rs:List cQ):D:=if cs.length<2 then .str "" else qZ (many cs v (rs++[⟨.cG,0,(cs.length:Int)-1⟩])) (many cs v (rs++[u5 ⟨.cG,0,(cs.length:Int)-1⟩]))
def vj(g:G)(lo:Nat)(cs:List b8)(v:Int)(rs:List cQ)(y:D):Prop:=(j6 cs.length (k6 cs v rs) 0=[]/\y=.br)\/∃(o:List Nat) (m:Nat),(j6 cs.length (k6 cs v rs) 0)[0]?=some o/\y=.ref m/\lo<=m/\g[m]?=some (.lst (d4 o))
theorem vj.at{g g':G}{lo:Nat}{cs:List b8}{v:Int}{rs:List cQ}{y:D}(h:vj g lo cs v rs y)(e:Ex g g'):vj g' lo cs v rs y:=h.imp id λ⟨o,m,q1,q2,q3,q4⟩=>⟨o,m,q1,q2,q3,e.at q4⟩
structure Q5(g:G)(lo:Nat)(cs:List b8)(v:Int)(rs:List cQ)(l:Nat):Prop where
 ex:∃y,g[l]?=some (.lst [y,.int (many cs v rs:Nat),E9 cs v rs])/\lo<=l/\vj g lo cs v rs y
theorem Q5.at{g g':G}{lo l:Nat}{cs:List b8}{v:Int}{rs:List cQ}(h:Q5 g lo cs v rs l)(e:Ex g g'):Q5 g' lo cs v rs l:=by
 obtain⟨y,h1,h2,h3⟩:=h.ex;exact⟨y,e.at h1,h2,h3.at e⟩
theorem Q5.gr{d l:Nat}(h:Q5 g lo cs v rs l)(e:Gr d g g')(hd:d<lo):Q5 g' lo cs v rs l:=by
 obtain⟨y,h1,h2,h3⟩:=h.ex;refine⟨y,e.at () h1,h2,h3.imp id ?_⟩;rintro⟨o,m,q1,q2,q3,q4⟩;exact⟨o,m,q1,q2,q3,e.at () q4⟩
theorem aY9:E2 g n (E9 cs v rs) (E9 cs v rs):=by
 unfold E9 qZ;split
 ·exact .str _
 ·split
  ·exact .br
  ·exact .str _
theorem Q5.El{Pm l l':Nat}(h:Q5 g lo cs v rs l)(h':Q5 g Pm cs v rs l')(hz:cs.length<=1000):E2 g 2 (.ref l) (.ref l'):=by
 obtain⟨y,h1,_,h3⟩:=h.ex;obtain⟨y',xb,_,IU⟩:=h'.ex;refine .lst h1 xb rfl (λi x x' hx nF=>?_) (by simp)
 match i,hx,nF with
 |0,hx,nF =>
  cases hx;cases nF;rcases h3 with⟨q1,rfl⟩|⟨o,m,q1,rfl,_,q2⟩
  ·rcases IU with⟨_,rfl⟩|⟨o',m',q3,rfl,_,q4⟩
   ·exact .br
   ·rw[q1] at q3;cases q3
  ·rcases IU with⟨z,rfl⟩|⟨o',m',q3,rfl,_,q4⟩
   ·rw[z] at q1;cases q1
   ·rw[q1] at q3;cases q3;refine a46 q2 q4 (λx hx=>?_) ?_
    ·obtain⟨j,_,rfl⟩:=aZ.mp hx;exact .inl ⟨_,rfl⟩
    ·have:=(Fw (C5 cs v rs) (aD q1)).1;unfold d4;rw[ai];omega
 |1,hx,nF =>
  cases hx;cases nF;exact .int _
 |2,hx,nF =>
  cases hx;cases nF;exact aY9
 |i+3,hx,_=>simp at hx
def tV(cs:List b8)(rs:List cQ)(x:D):Prop:=(∃n:Nat,x=.int (n:Nat)/\1<=n/\n<=6/\many cs n rs≠0/\∀j:Nat,1<=j->j<n->many cs j rs=0)\/(x=.br/\∀j:Nat,1<=j->j<=6->many cs j rs=0)
theorem tV.El{x:D}(h:tV cs rs x)(h':tV cs rs y):E2 g 0 x y:=by
 rcases h with⟨n,rfl,n1,n2,n3,n4⟩|⟨rfl,hn⟩
 ·rcases h' with⟨m,rfl,m1,m2,m3,m4⟩|⟨rfl,hm⟩
  ·have:n=m:=by
    rcases dw n m with z|z|z
    ·exact absurd (m4 n n1 z) n3
    ·exact z
    ·exact absurd (n4 m m1 z) m3
   subst this;exact .int _
  ·exact absurd (hm n n1 n2) n3
 ·rcases h' with⟨m,rfl,m1,m2,m3,m4⟩|⟨rfl,hm⟩
  ·exact absurd (hn m m1 m2) m3
  ·exact .br
theorem Vp(cs:List b8)(S:Nat->Bool)(p:Nat):C0 cs S p<=cs.length:=by
 unfold C0;have:=S7 (cs.map b8.lo);rw[ai] at this;exact aG (df _ _) this
theorem VZ{rs:List cQ}(hz:cs.length<=6){v:Nat}(h1:1<=v)(h9:v<=9)(h:many cs v rs≠0):many cs 6 rs≠0:=by
 obtain⟨o,ho,_⟩:=(Kn h1 h9).mp h;refine(Kn (v:=6) ∅ ∅).mpr ⟨o,ho,(Fu _).mpr ⟨by decide,λi _=>aG (Vp _ _ _) hz⟩⟩
theorem Xu{c:Prop}[Decidable c]{A B:Prop}(hc:c)(h:A):if c then A else B:=by rw[aH hc];exact h
structure nk(lo:Nat)(g:G)(l:Nat)(X:List (List Nat)):Prop where
 ex:∃bs:List Nat,g[l]?=some (.lst (bs.map .ref))/\bs.length=X.length/\(∀b∈bs,b≠l/\lo<=b)/\∀(i:Nat) (o:List Nat),X[i]?=some o->∃b:Nat,bs[i]?=some b/\g[b]?=some (.lst (d4 o))
theorem nk.at{lo:Nat}{g g':G}{l:Nat}{X:List (List Nat)}(h:nk lo g l X)(e:Ex g g'):nk lo g' l X :=
 let ⟨bs,h1,h2,h3,h4⟩:=h.ex
 ⟨⟨bs,e.at h1,h2,h3,λi o hi=>let ⟨b,b1,b2⟩:=h4 i o hi;⟨b,b1,e.at b2⟩⟩⟩
theorem nk.add{l:Nat}{X:List (List Nat)}{o:List Nat}{m:List D}(h:nk lo g l X)(hm:g[l]?=some (.lst m))(hb:g[b]?=some (.lst (d4 o)))(hn:b≠l/\lo<=b):nk lo (g.set l (.lst (m++[.ref b]))) l (X++[o]):=by
 obtain⟨bs,h1,h2,h3,h4⟩:=h.ex;have e:m=bs.map .ref:=by rw[h1] at hm;injection hm with z;injection z with z;exact z.symm
 refine⟨⟨bs++[b],by rw[get_set hm,e];simp,by simp[h2],λx hx=>?_,λi o' hi=>?_⟩⟩
 ·rcases aV.mp hx with z|z
  ·exact h3 x z
  ·cases aY.mp z;exact hn
 ·rcases dw i X.length with z|z|z
  ·rw[aK z] at hi;obtain⟨b',b1,b2⟩:=h4 i o' hi;exact⟨b',by rw[aK ()];exact b1,f6 b2 (bT (h3 b' (aD b1)).1)⟩
  ·subst z;have:o'=o:=by simpa using hi.symm
   subst this;exact⟨b,by rw[cC ()];simp[h2],f6 hb (bT hn.1)⟩
  ·rw[aQ (by simp;omega)] at hi;cases hi
section
variable{T:Nat->Option aW}{d:Nat}{r:Nat}
theorem Lu(hT:tU T)(pY:T 150=some U6)(hB:∀c∈cs,CB c)(ha:g[a]?=some (.lst (cs.map b8.d)))(hz:cs.length<=5)(hc:g[c]?=some (.lst (i7 rs)))(hr:rs.length<=900)(h:∀l g',Ex g g'->g.length<=l->nk g.length g' l (j6 cs.length (k6 cs v rs) 0)->Q (.ref l) g'):d0 T (k+3) 150 [.ref a,.int v,.ref c] g Q E:=by
 refine call_of pY rfl ?_;dsimp[U6,d6,List.replicate];have lD:=C5 cs v rs;rw[<- Fb lD] at h;have IS:∀s,(k6 cs v rs s).length<=cs.length:=λs=>K9;generalize oY:k6 cs v rs=F at *;have rl:∀t,t<=cs.length->(w9 F t).length<=3125:=λt ht=>by
  refine aG (MX IS t) (aG (Nat.pow_le_pow_left hz t) ?_);exact aG (jR () (show t<=5 by omega)) ∅
 left;have e1:=(Ex.snoc g (O.lst [])).trans (Ex.snoc _ (O.lst [D.ref g.length]));have R1:nk g.length ((g ++ [O.lst []]) ++ [O.lst [D.ref g.length]]) (g ++ [O.lst []]).length (w9 F 0):=⟨⟨[g.length],b9,rfl,by simp,λi o hi=>by
  match i,hi with
  |0,hi=>cases hi;exact⟨g.length,rfl,(Ex.snoc _ _).at b9⟩
  | i + 1,hi=>simp [w9] at hi⟩⟩
 have l1:g.length<=(g++[O.lst []]).length:=by simp
 generalize (g++[O.lst []])++[O.lst [D.ref g.length]]=g1 at *;generalize (g++[O.lst []]).length=r0 at *;refine x6 (b7 T _) (pE (b7 T _) ?_);left;refine E1 (b0 (e1.at ha)) ?_;refine⟨_,rfl,by omega,by simp;omega,k8 0 cs.length,λt Z g'=>Ex g g'/\∃(l:Nat) (z4 z5 z6 z7:Option D),g.length<=l/\nk g.length g' l (w9 F t)/\Z=[some (.ref a),some (.int v),some (.ref c),some (.ref l),z4,z5,z6,z7],λ_ _ _ _=>by simp only[List.length_map,Int.toNat_natCast];exact w6,⟨e1,r0,none,none,none,none,l1,R1,rfl⟩,λt x Z g' hx q=>?_,λZ g' q=>?_⟩
 ·obtain⟨e2,l,z4,z5,z6,z7,hl,R2,rfl⟩:=q;obtain⟨ht,rfl⟩:=B3 hx;refine j8 ?_
  try show wpS _ _ _ _ _ _
  left;obtain⟨as,KQ,uP,as3,as4⟩:=R2.ex;have e3:=Ex.snoc g' (O.lst []);have h3:=b9 (g:=g') (o:=O.lst []);have N3:nk g.length (g'++[O.lst []]) g'.length []:=⟨⟨[],b9,rfl,by simp,λi o hi=>by simp at hi⟩⟩
  generalize g'++[O.lst []]=g3 at *;have ll:g.length<=g'.length:=e2.len;refine x6 (b7 T _) (lr (b7 T _) ?_);left;refine⟨l,_,rfl,b0 (e3.at KQ),as.map .ref,λi Z g4=>Ex g' g4/\nk g.length g4 g'.length (((w9 F t).take i).flatMap λr=>(F (gb r)).map λp=>r++[p])/\∃z6 z7,Z=[some (.ref a),some (.int v),some (.ref c),some (.ref l),some (.int (0+(t:Nat))),some (.ref g'.length),z6,z7],λi Z g4 q=>o8 (b0 (q.1.at KQ)),⟨e3,N3,z6,z7,rfl⟩,λi x Z g4 hx q=>?_,λZ g4 q=>?_⟩
  ·obtain⟨e4,R4,z6,z7,rfl⟩:=q;rw[aj,aa] at hx;obtain⟨ra,Ic,rfl⟩:=hx;have hi:i<(w9 F t).length:=by rw[<- uP];exact(ak.mp Ic).1
   have zf:=ao hi;generalize (w9 F t)[i]=ro at zf;obtain⟨rb,wu,ky⟩:=as4 i ro zf;have:rb=ra:=by rw[Ic] at wu;injection wu with z;exact z.symm
   subst this;obtain⟨RG,RE,RD⟩:=M9 lD (aD zf);have hS:∀j,j<cs.length->kJ ro j=(gb ro).testBit j:=λj _=>(K0 ro j).symm;have zg:rb<g'.length:=i8 ky;have OF:(w9 F t).take (i+1)=(w9 F t).take i++[ro]:=by rw[bE,zf];rfl
   have size:(((w9 F t).take i).flatMap λr=>(F (gb r)).map λp=>r++[p]).length<=3125*5:=by
    refine aG (Ae (m:=5) λr _=>by rw[ai];exact aG (IS _) hz) ?_;refine jS _ ?_;rw[cM];have:=rl t ();omega
   refine j8 ?_
   try show wpS _ _ _ _ _ _
   left;refine x6 (b7 T _) (pE (b7 T _) ?_);left;have RU:=e2.trans e4;refine E1 (b0 (RU.at ha)) ?_;refine⟨_,rfl,by omega,by simp;omega,k8 0 cs.length,λj Z g5=>Ex g' g5/\nk g.length g5 g'.length ((((w9 F t).take i).flatMap λr=>(F (gb r)).map λp=>r++[p])++((List.range j).filter (E3 cs v rs (gb ro))).map λp=>ro++[p])/\∃z7,Z=[some (.ref a),some (.int v),some (.ref c),some (.ref l),some (.int (0+(t:Nat))),some (.ref g'.length),some (.ref rb),z7],λ_ _ _ _=>by simp only[List.length_map,Int.toNat_natCast];exact w6,⟨e4,by simpa using R4,z7,rfl⟩,λj x Z g5 hx q=>?_,λZ g5 q=>?_⟩
   ·obtain⟨e5,R5,z7,rfl⟩:=q;obtain⟨hj,rfl⟩:=B3 hx;rw[fA];have sZ:=e2.trans e5;have es:(List.range (j+1)).filter (E3 cs v rs (gb ro))=(List.range j).filter (E3 cs v rs (gb ro))++if E3 cs v rs (gb ro) j=true then[j] else[]:=by
     rw[eZ,de]
     congr 1
     cases z:E3 cs v rs (gb ro) j<;>simp only[List.filter_cons,z,List.filter_nil]<;>rfl
    have skip:E3 cs v rs (gb ro) j=false->∀g6,Ex g5 g6->nk g.length g6 g'.length ((((w9 F t).take i).flatMap λr=>(F (gb r)).map λp=>r++[p])++((List.range (j+1)).filter (E3 cs v rs (gb ro))).map λp=>ro++[p]):=λhz g6 e6=>by
     rw[es,hz,aE ∅,fc];exact R5.at e6
    refine j8 ?_
    try show wpS _ _ _ _ _ _
    left;refine Y4 (ED (e5.at ky) ?_);left;have wM:=K0 ro j;by_cases ki:j∈ro
    ·rw[aw ki];refine fC rfl ?_;left;refine⟨e5,skip ?_ _ (Ex.refl _),_,rfl⟩;unfold E3;rw[wM,aw ki]
     rfl
    ·rw[aB ki];refine iu rfl ?_;left;refine a47 (k:=k) hT hB (sZ.at ha) () (sZ.at hc) hr (e5.at ky) RD () hj λg6 e6=>?_;rw[aM9 hS];left;have IA:E3 cs v rs (gb ro) j=decide (fault cs v rs (gb ro).testBit j=""):=by unfold E3;rw[wM,aB ki];rfl
     refine if2 (λc1=>?_) (λc1=>?_)
     ·left;have R6:=R5.at e6;obtain⟨bs,b1,b2,b3,b4⟩:=R6.ex;refine⟨M4 b1,?_⟩;left;have wq:=(e5.trans e6).at ky;have s7:=b9 (g:=g6) (o:=O.lst [D.int (j:Nat)]);refine Y5 ((Ex.snoc _ _).at wq) s7 (by simp[d4];omega) ?_;have e8:=(Ex.snoc g6 (O.lst [D.int (j:Nat)])).trans (Ex.snoc _ (O.lst (d4 ro++[D.int (j:Nat)])));have s8:=b9 (g:=g6++[O.lst [D.int (j:Nat)]]) (o:=O.lst (d4 ro++[D.int (j:Nat)]));have l8:g'.length<(g6++[O.lst [D.int (j:Nat)]]).length:=by have:=e5.len;have:=e6.len;simp;(clear hz hr l1 hl ht uP ll hi RG zg size hj b2;omega)
      generalize (g6++[O.lst [D.int (j:Nat)]])++[O.lst (d4 ro++[D.int (j:Nat)])]=g8 at *;generalize (g6++[O.lst [D.int (j:Nat)]]).length=nb at *;left;have bl:bs.length<=20000:=by
       rw[b2,bj,ai];have:=@K9 j (E3 cs v rs (gb ro));omega
      refine L5 (e8.at b1) (by simp;omega) ?_;left;have Ji:=e5.trans (e6.trans e8);refine⟨⟨by simp;exact Ji.len,λq hq=>by rw[aA ()];exact Ji.old q hq⟩,?_,_,rfl⟩;have:=(R6.at e8).add (e8.at b1) (b:=nb) (o:=ro++[j]) (by rw[s8];simp[d4]) ();rw[es,aH (by rw[IA];exact aw c1),cV,<- gY];exact this
     ·left;exact⟨e5.trans e6,skip (by rw[IA];exact aB c1) _ e6,_,rfl⟩
   ·obtain⟨e5,R5,z7,rfl⟩:=q;rw[o6] at R5
    try show wpS _ _ _ _ _ _
    try left
    refine⟨e5,?_,_,_,rfl⟩;rw[OF,kn];have:(List.range cs.length).filter (E3 cs v rs (gb ro))=F (gb ro):=by rw[<- oY];rfl
    rw[this] at R5;simpa using R5
  ·obtain⟨e4,R4,z6,z7,rfl⟩:=q;rw[ai,uP,bK] at R4
   try show wpS _ _ _ _ _ _
   left;exact⟨e2.trans e4,g'.length,_,_,_,_,ll,R4,rfl⟩
 ·obtain⟨e2,l,z4,z5,z6,z7,hl,R2,rfl⟩:=q;rw[o6] at R2
  try show wpS _ _ _ _ _ _
  left;exact h l g' e2 hl R2
end
structure rm(T:Nat->Option aW):Prop where
 tb:TB T
 lS:tU T
 tf:TF T
 tw:TW T
 tn:TN T
 ti:yu T
 h3:T 3=some AQ
 h6:T 6=some yk
 h7:T 7=some G0
 Rt:T 11=some rh
 Rk:T 30=some xV
 Rj:T 34=some yj
 qa:T 110=some xX
 pZ:T 125=some Q9
 sR:T 126=some Au
 sQ:T 134=some Y0
 Ds:T 135=some EH
 sP:T 140=some Ag
 pY:T 150=some U6
 Dj:T 291=some GA
 Di:T 292=some Em
section
variable{T:Nat->Option aW}{d:Nat}{r:Nat}
theorem EL(h:2<=cs.length):j5 cs ⟨.cG,0,(cs.length:Int)-1⟩=true:=aV7 ⟨by omega,by omega⟩ ⟨by omega,by omega⟩ ()
theorem aX4(hT:rm T)(A:Ask g a c cs v rs)(hr:rs.length<=800)(h:∀l g',Ex g g'->Q5 g' g.length cs v rs l->Q (.ref l) g'):d0 T (k+14) 30 [.ref a,.int v,.ref c] g Q E:=by
 refine call_of hT.Rk rfl ?_;dsimp[xV,d6,List.replicate];left;have hz:=A.hz;have go:∀(y:D) (g1:G) (N:Ends),N.rt=Q->Ex g g1->vj g1 g.length cs v rs y ->
   aX (d0 T (k+13)) (.call 126 (.cons (.var 0) (.cons (.var 1) (.cons (.var 2) .nil)))) [some (.ref a),some (.int v),some (.ref c),none] g1 (λx g2=>cF .lst [y,x] g2 λx g3=>wpS (d0 T (k+13)) (match xV.body with|.seq _ b=>b|x=>x) N [some (.ref a),some (.int v),some (.ref c),some x] g3 E) E:=by
  intro y g1 N hN e1 hy;subst hN;have A1:=A.at e1;dsimp[xV];left;refine aM7 (k:=k+2) hT.tb hT.tf hT.tw hT.sR A1.ha A1.hz A1.good A1.hB A1.hv A1.hc A1.hr A1.hR λg2 e2=>?_;left;have e3:=Ex.snoc g2 (O.lst [y,.int ((j6 cs.length (k6 cs v rs) 0).length:Nat)]);have h3:=b9 (g:=g2) (o:=O.lst [y,.int ((j6 cs.length (k6 cs v rs) 0).length:Nat)]);have A3:=A1.at (e2.trans e3);have uo:=hy.at (e2.trans e3);have ln:=(e1.trans e2).len;have Ov:∀m,y=.ref m->m<g2.length:=λm z=>by
   rcases hy with⟨_,q⟩|⟨o,m',_,q,_,q4⟩
   ·rw[q] at z;cases z
   ·rw[q] at z;cases z;exact aC (i8 q4) e2.len
  have oJ:=e1.trans (e2.trans e3);clear hy;generalize g2++[O.lst [y,.int ((j6 cs.length (k6 cs v rs) 0).length:Nat)]]=g3 at *;have h3:g3[g2.length]?=some (.lst [y,.int (many cs v rs:Nat)]):=h3;generalize Io:g2.length=l3 at *;clear e1 e2 e3 A1;left;refine E1 (b0 A3.ha) ?_;rw[ai];left;refine if2 (λc2=>?_) (λc2=>?_)
  ·left;have e4:=Ex.snoc g3 (O.lst [D.str ""]);refine Y5 (e4.at h3) b9 (by simp) ?_;left;have e5:=e4.trans (Ex.snoc _ (O.lst ([y,.int (many cs v rs:Nat)]++[D.str ""])));refine h _ _ (oJ.trans e5) ⟨y,?_,?_,uo.at e5⟩
   ·have w:E9 cs v rs=.str "":=by unfold E9;rw[aH ()]
    rw[w];exact b9
   ·have:=(oJ.trans e4).len;exact this
  ·left;have hw:E9 cs v rs=qZ (many cs v (rs++[⟨.cG,0,(cs.length:Int)-1⟩])) (many cs v (rs++[u5 ⟨.cG,0,(cs.length:Int)-1⟩])):=by unfold E9;rw[aE ()]
   have fin:∀g4:G,Ex g3 g4->N.rt (.ref l3) (g4.set l3 (.lst ([y,.int (many cs v rs:Nat)]++[E9 cs v rs]))):=by
    intro g4 e4;have h4:=e4.at h3;refine h _ _ ⟨by rw[jk];exact(oJ.trans e4).len,λq hq=>by rw[aA ()];exact(oJ.trans e4).old q hq⟩ ⟨y,get_set h4,ln,uo.imp id λ⟨o,m,q1,q2,q3,q4⟩=>⟨o,m,q1,q2,q3,f6 (e4.at q4) ?_⟩⟩;have:=Ov m q2;omega
   refine Tw ?_;left
   try refine⟨M4 h3,?_⟩
   left;refine E1 (b0 A3.ha) ?_;rw[ai];left;refine Vo (k:=k) (r:=⟨.cG,0,(cs.length:Int)-1⟩) hT.tb hT.tb.oZ hT.tb.qN hT.tf hT.tw hT.tn hT.ti A3.ha A3.hz A3.good A3.hB A3.hv A3.hc hr A3.hR (EL ()) (λz1 z2 g4 e4=>?_) (λhn g4 e4=>?_)
   ·refine Xu (.inl rfl) ?_;left
    try refine⟨M4 (e4.at h3),?_⟩
    left;refine L5 (e4.at h3) (by simp) ?_;left;rw[qZ,aH ⟨z1,z2⟩] at hw;have:=fin g4 e4;rw[hw] at this;exact this
   ·refine L5 (e4.at h3) (by simp) ?_;rw[qZ,aE hn] at hw;have:=fin g4 e4;rw[hw] at this;left;exact this
 refine LD (k:=k+2) hT.tb hT.tf hT.tw hT.tn hT.ti.jh hT.pZ A.ha A.hz A.good A.hB A.hv A.hc A.hr A.hR (λho g1 e1=>?_) λo l g1 ho e1 hl h1=>?_
 ·exact go .br g1 _ rfl e1 (.inl ⟨ho,rfl⟩)
 ·exact go (.ref l) g1 _ rfl e1 (.inr ⟨o,l,ho,rfl,hl,h1⟩)
theorem aW6(hT:rm T)(ha:g[a]?=some (.lst (cs.map b8.d)))(hz:cs.length<=6)(hg:cs.all u3=true)(hB:∀c∈cs,CB c)(hc:g[c]?=some (.lst (i7 rs)))(hr:rs.length<=900)(hR:rs.all (j5 cs)=true)(h:∀x g',Ex g g'->tV cs rs x->Q x g'):d0 T (k+12) 291 [.ref a,.ref c] g Q E:=by
 refine call_of hT.Dj rfl ?_;dsimp[GA,d6,List.replicate];left;refine call_of hT.Ds rfl ?_;dsimp[EH,d6,List.replicate];left;refine Q3 (k:=k+4) hT.tb.nf hT.tb.h2 hT.tb.sU hT.tb.uC ha () (λz=>by omega) (λ_ z=>by rw[hg] at z;cases z) λ_ _=>?_;left;refine LB (k:=k+5) hT.tb ha () hc hr (λ_ g1 e1=>?_) (λz=>by rw[hR] at z;cases z);left;refine aJ5 (k:=k) hT.tb hT.tf hT.tw hT.tn hT.ti.jh hT.ti.nh hT.sQ (e1.at ha) () hg hB (e1.at hc) hr (λn x y g2 e2 n1 n2 n3 n4=>?_) (λkf g2 e2=>?_)
 ·left
  try refine fC rfl ?_
  left;have n6:n<=6:=iE λz=>VZ hz n1 n2 n3 (n4 6 ∅ z);exact h _ _ (e1.trans e2) (.inl ⟨n,rfl,n1,n6,n3,n4⟩)
 ·left
  try refine Y' rfl ?_
  left;exact h _ _ (e1.trans e2) (.inr ⟨rfl,λj j1 j2=>kf j j1 ()⟩)
theorem VW(hT:rm T)(ha:g[a]?=some (.lst (cs.map b8.d)))(hz:cs.length<=5)(hB:∀c∈cs,CB c)(hc:g[c]?=some (.lst (i7 rs)))(hr:rs.length<=900)(h:∀x g',Ex g g'->tV cs rs x->Q x g'):d0 T (k+4) 292 [.ref a,.ref c] g Q E:=by
 refine call_of hT.Di rfl ?_;dsimp[Em,d6,List.replicate];left;refine x6 (b7 T _) (Kg (b7 T _) ?_);left;refine⟨_,_,rfl,rfl,by decide,k8 1 6,λi Z g'=>Ex g g'/\(∀j:Nat,1<=j->j<i+1->many cs j rs=0)/\∃z,Z=[some (.ref a),some (.ref c),z],λi Z g' q=>w6,⟨Ex.refl _,λj j1 j2=>by omega,none,rfl⟩,λi x Z g' hx q=>?_,λZ g' q=>?_⟩
 ·obtain⟨e1,hn,z,rfl⟩:=q;unfold k8 at hx;rw[aj,aa] at hx;obtain⟨i',iz,rfl⟩:=hx;have hi:=(ak.mp iz).1;rw[lN] at hi;have:i'=i:=by rw[bC hi] at iz;injection iz with z;exact z.symm
  subst this;refine j8 ?_
  try show wpS _ _ _ _ _ _
  left;refine Lu (k:=k) hT.lS hT.pY hB (e1.at ha) hz (e1.at hc) hr λl g2 e2 _ W=>?_;obtain⟨bs,w1,w2,_,_⟩:=W.ex;refine E1 (b0 w1) ?_;rw[ai,w2];left;have hm:many cs (1+(i':Int)) rs=(j6 cs.length (k6 cs (1+(i':Int)) rs) 0).length:=rfl;have ei:(1:Int)+(i':Nat)=((i'+1:Nat):Int):=by omega
  rw[ei] at hm;refine if2 (λc0=>?_) (λc0=>?_)
  ·left;rw[ei] at c0 ⊢;exact h _ _ (e1.trans e2) (.inl ⟨i'+1,rfl,by omega,by omega,by omega,hn⟩)
  ·left;rw[ei] at c0;refine⟨e1.trans e2,λj j1 j2=>?_,_,rfl⟩;by_cases hj:j=i'+1
   ·subst hj;omega
   ·exact hn j j1 ()
 ·obtain⟨e1,hn,z,rfl⟩:=q
  try show wpS _ _ _ _ _ _
  left;exact h _ _ e1 (.inr ⟨rfl,λj j1 j2=>hn j j1 (by simp[k8];omega)⟩)
theorem Md{o:List Nat}(hb:g[b]?=some (.lst (d4 o)))(hl:o.length<=9)(hx:∃p∈o,meant cs .cG x p=true)(h:Q (.int (Z1 cs .cG x o:Nat)) g):cF .index [.ref b,.int x] g Q:=by
 obtain⟨p0,PZ,Il⟩:=Mz hx;refine Zr (n:=Z1 cs .cG x o) (b0 hb) ⟨?_,rfl,⟨.int (p0:Nat),by rw[d4,aj,PZ];rfl,?_⟩,λm z hm hz=>?_⟩ (by simp[d4];omega) h
 ·rw[bG];intro z hz;obtain⟨i,_,rfl⟩:=aZ.mp hz
  rfl
 ·have:(p0:Int)=x:=bh Il;show((p0:Int)==x)=true;exact eG.mpr this
 ·rw[d4,aj,aa] at hz;obtain⟨p,hp,rfl⟩:=hz;show((p:Int)==x)=false;cases e:((p:Int)==x) with
  |false=>rfl
  |true =>
   have:=Fc (cs:=cs) (w:=.cG) (x:=x) hp (aw (eG.mp e));omega
theorem VL(hT:rm T)(ha:g[a]?=some (.lst (cs.map b8.d)))(hz:cs.length<=5)(hB:∀c∈cs,CB c)(hc:g[c]?=some (.lst (i7 rs)))(hr:rs.length<=900)(h:∀l g',Ex g g'->Q5 g' g.length cs v rs l->Q (.ref l) g'):d0 T (k+4) 34 [.ref a,.int v,.ref c] g Q E:=by
 refine call_of hT.Rj rfl ?_;dsimp[yj,d6,List.replicate];left;refine Lu (k:=k) hT.lS hT.pY hB ha hz hc hr λl3 g1 e1 Io W=>?_;obtain⟨bs,w1,w2,w3,w4⟩:=W.ex;have Cj:∀o∈j6 cs.length (k6 cs v rs) 0,o.length=cs.length/\o.Nodup/\∀i∈o,i<cs.length:=λo ho=>Fw (C5 cs v rs) ho;have Rq:=Wg (v:=v) (rs:=rs) hz;have Cp:many cs v rs=(j6 cs.length (k6 cs v rs) 0).length:=rfl;have CO:=λh2=>TU (v:=v) (rs:=rs) (X:=j6 cs.length (k6 cs v rs) 0) rfl (EL (cs:=cs) h2);generalize hX:j6 cs.length (k6 cs v rs) 0=X at *;left;refine E1 (b0 (e1.at ha)) ?_;rw[ai];left;refine KC (b7 T _) (O6 (b7 T _) (b0 w1) (λQ q=>w_var rfl q) _ ?_);refine⟨bs.map .ref,λZ=>∃z1 z2,Z=[some (.int ((cs.length:Int)-1)),z1,z2],λ_=>decide (2<=cs.length),λi=>.bl (fM (n9 cs ⟨.cG,0,(cs.length:Int)-1⟩) 0 (X.getD i [])),λg' e=>o8 (b0 (e.at w1)),by rw[ai];omega,⟨none,none,rfl⟩,λi x Z g2 hx e sh=>?_,λg2 e2=>?_⟩
 ·obtain⟨z1,z2,rfl⟩:=sh;rw[aj,aa] at hx;obtain⟨rb,wu,rfl⟩:=hx;refine j8 ?_
  try show dh _ _ _ _ _ _
  left;refine⟨cK.mpr (),e,?_⟩;refine if2 (λc1=>?_) (λc1=>⟨_,_,rfl⟩);have hj:i<X.length:=by rw[<- w2];exact(ak.mp wu).1
  have ho:=ao hj;generalize X[i]=o at ho;obtain⟨OU,wt,ky⟩:=w4 i o ho;have:OU=rb:=by rw[wu] at wt;injection wt with z;exact z.symm
  subst this;obtain⟨o1,o2,o3⟩:=Cj o (aD ho);have mH:=EL (cs:=cs) ();obtain⟨tx,ty,_⟩:=Lf mH;have sx:=Nh o2 o1 o3 tx;have sy:=Nh o2 o1 o3 ty;left;refine⟨NJ (b0 (e.at ky)),?_⟩;left;refine Md (cs:=cs) (e.at ky) () sx ?_;left;refine⟨NJ (b0 (e.at ky)),?_⟩;left;refine Md (cs:=cs) (e.at ky) () sy ?_;left;dsimp only;rw[show X.getD i []=o by simp[List.getD,ho],a40 o3 sy];dsimp only;exact⟨by congr 1;exact cK.mpr (),e,_,_,rfl⟩
 rw[ai,w2];have Qm:((List.range X.length).filter λ_=>decide (2<=cs.length)).map (λi=>D.bl (fM (n9 cs ⟨.cG,0,(cs.length:Int)-1⟩) 0 (X.getD i [])))=(if 2<=cs.length then X.map (fM (n9 cs ⟨.cG,0,(cs.length:Int)-1⟩) 0) else[]).map .bl:=by
  by_cases c2:2<=cs.length
  ·rw[aH c2,aw c2,gk.mpr λ_ _=>rfl];have:=MK (λ_:List Nat=>true) (λo=>D.bl (fM (n9 cs ⟨.cG,0,(cs.length:Int)-1⟩) 0 o)) [] X;rw[gk.mpr (λ_ _=>rfl),gk.mpr (λ_ _=>rfl)] at this;rw[this,bR]
   rfl
  ·rw[aE c2,aB c2,cX.mpr λ_ _=>by simp]
   rfl
 rw[Qm];have e3:=e2.trans (Ex.snoc g2 (O.lst ((if 2<=cs.length then X.map (fM (n9 cs ⟨.cG,0,(cs.length:Int)-1⟩) 0) else[]).map .bl)));have h3:=b9 (g:=g2) (o:=O.lst ((if 2<=cs.length then X.map (fM (n9 cs ⟨.cG,0,(cs.length:Int)-1⟩) 0) else[]).map .bl));generalize g2++[_]=g3 at *;generalize g2.length=l5 at *;have oJ:=e1.trans e3;have OA:=e3.at w1;left;refine E1 (b0 (oJ.at ha)) ?_;rw[ai];left;have fin:∀(N:Ends) (E:KX),N.rt=Q->wpS (d0 T (k+3)) (match yj.body with|.seq _ (.seq _ (.seq _ (.seq _ (.seq _ b))))=>b|x=>x) N [some (.ref a),some (.int v),some (.ref c),some (.ref l3),some (.int ((cs.length:Int)-1)),some (.ref l5),some (E9 cs v rs)] g3 E:=by
  intro N E hN;subst hN;dsimp[yj];left;rw[ai,w2];have last:∀y,vj g3 g.length cs v rs y->N.rt (.ref g3.length) (g3++[O.lst [y,.int ((bs.map D.ref).length:Nat),E9 cs v rs]]):=λy hy=>by
   rw[ai,w2];have e4:=Ex.snoc g3 (O.lst [y,.int (X.length:Nat),E9 cs v rs]);exact h _ _ (oJ.trans e4) ⟨y,by rw[Cp];exact b9,oJ.len,hy.at e4⟩
  refine if2 (λc0=>?_) (λc0=>?_)
  ·have ho:=ao (show 0<X.length by omega);obtain⟨b,q1,q2⟩:=w4 0 _ ho;left;refine s9 (d:=.ref b) (b0 OA) (B4 (j:=0) (by rw[aj,q1];rfl)) ?_;left;exact last _ (.inr ⟨_,b,by rw[hX];exact ho,rfl,(w3 b (aD q1)).2,e3.at q2⟩)
  ·left;exact last _ (.inl ⟨by rw[hX];exact cz.mp (),rfl⟩)
 refine if2 (λc2=>?_) (λc2=>?_)
 ·refine w_lit ?_
  try show wpS _ _ _ _ _ _
  rw[aE ()] at h3;have w:E9 cs v rs=.str "":=by unfold E9;rw[aH ()]
  rw[w] at fin;refine tS (xR (xS ?_));left;refine fC (by simp) (C7 ?_);exact fin _ _ rfl
 ·refine w_lit ?_
  try show wpS _ _ _ _ _ _
  have c2:2<=cs.length:=by omega
  rw[aH c2] at h3;have w:E9 cs v rs=qZ (many cs v (rs++[⟨.cG,0,(cs.length:Int)-1⟩])) (many cs v (rs++[u5 ⟨.cG,0,(cs.length:Int)-1⟩])):=by unfold E9;rw[aE ()]
  rw[w,CO c2] at fin;refine tS (xR (xS ?_));left;rw[ai,ai];refine if2 (λc0=>?_) (λc0=>?_)
  ·rw[aE ()] at fin;left;refine AI (b0 h3) (Y7 _) ?_;left;cases c1:(X.map (fM (n9 cs ⟨.cG,0,(cs.length:Int)-1⟩) 0)).all id with
   |true =>
    refine lY (w_lit ?_);rw[c1,aH rfl] at fin;exact fin _ _ rfl
   |false =>
    rw[c1,aE ∅] at fin;left;refine Yz (b0 h3) (a84 _) ?_;left;cases c3:(X.map (fM (n9 cs ⟨.cG,0,(cs.length:Int)-1⟩) 0)).any id with
    |true =>
     refine lY (w_lit ?_);rw[c3,aH rfl] at fin;exact fin _ _ rfl
    |false =>
     refine pF (w_lit ?_);rw[c3,aE ∅] at fin;exact fin _ _ rfl
  ·rw[aH ()] at fin;refine C7 ?_;exact fin _ _ rfl
end
noncomputable abbrev BK:MS:=match rh.body with|.seq _ (.seq _ (.seq _ (.seq _ b)))=>b|x=>x
noncomputable abbrev yZ:MS:=match rh.body with|.seq _ (.seq _ (.seq _ (.seq _ (.seq _ (.seq _ b)))))=>b|x=>x
noncomputable abbrev HM:MS:=match yZ with|.seq (.dq _ _ (.seq _ (.seq (.dq _ _ b) _))) _=>b|x=>x
def O9:b8:=⟨1,[],1,[],0⟩
theorem aW8:iA O9:=⟨by decide,by decide,by decide⟩
section
variable{T:Nat->Option aW}{d:Nat}{r:Nat}
theorem Ex.K3{g1:G}(e:Ex g g1)(h:g.length<=n):Ex g (g1.set n o):=⟨by rw[jk];exact e.len,λq hq=>by rw[aA ()];exact e.old q hq⟩
theorem Zz(hT:rm T){s t u:Nat}{z2 z3 z4 z5 z9:Option D}(A:Ask g s t cs v rs)(hz:cs.length<=4)(hr:rs.length<=4)(R:Q5 g lo cs v rs u)(L:tV cs rs y)(hN:∀iq ip g',Ex g g'->N.nx [z0,z1,z2,z3,z4,z5,z6,z7,z8,z9,some (.ref s),some (.int v),ir,some (.ref t),some y,some (.ref u),gJ,jN,iq,ip] g') :
  wpS (d0 T (k+14)) HM N [z0,z1,z2,z3,z4,z5,z6,z7,z8,z9,some (.ref s),some (.int v),ir,some (.ref t),some y,some (.ref u),gJ,jN,iq,ip] g E:=by
 dsimp[HM,yZ,rh];left;refine xM (b0 A.ha) ?_;left;have e1:=Ex.snoc g (O.lst (cs.map b8.d));have h1:=b9 (g:=g) (o:=O.lst (cs.map b8.d));have l1:g.length<(g++[O.lst (cs.map b8.d)]).length:=by simp
 generalize g++[O.lst (cs.map b8.d)]=g1 at *;refine xM (b0 (e1.at A.hc)) ?_;left;have e2:=Ex.snoc g1 (O.lst (i7 rs));have h2:=b9 (g:=g1) (o:=O.lst (i7 rs));have l2:g1.length<(g1++[O.lst (i7 rs)]).length:=by simp
 generalize g1++[O.lst (i7 rs)]=g2 at *;have e3:=Ex.snoc g2 (O.lst [.ref g.length,.ref g1.length]);have h3:=b9 (g:=g2) (o:=O.lst [.ref g.length,.ref g1.length]);generalize g2++[_]=g3 at *;generalize Io:g2.length=l3 at *;have oJ:=e1.trans (e2.trans e3);have a3:=(e2.trans e3).at h1;have c3:=e3.at h2;have A3:Ask g3 g.length g1.length cs v rs:=⟨a3,A.hz,A.hG,A.hv,c3,A.hr,A.hR⟩
 clear e1 e2 e3 h1 h2;generalize wz:g1.length=wa at *;left;refine aX4 (k:=k) hT A3 () λl4 g4 e4 R4=>?_;left;refine Kl hT.h6 hT.h7 2 (k:=k+10) (R4.El (R.at (oJ.trans e4)) ()) λg5 e5=>?_;have h5:=(e4.trans e5).at h3;left;have zI:=e4.trans e5;refine aW6 (k:=k+2) hT (zI.at a3) () A3.good A3.hB (zI.at c3) () A.hR λx g6 e6 L6=>?_;left;refine Kl hT.h6 hT.h7 0 (k:=k+12) (L6.El L) λg7 e7=>?_;have xo:=zI.trans (e6.trans e7);have h7:=xo.at h3;have a7:=xo.at a3;have c7:=xo.at c3;have DN:=oJ.trans xo;clear e4 e5 e6 e7 zI xo h5 R4 L6;left
 try refine⟨M4 a7,?_⟩
 left;refine L5 a7 (by rw[ai];omega) ?_;have h8:=f6 (o':=O.lst (cs.map b8.d++[O9.d])) h7 (show g.length≠l3 by omega);have a8:=get_set (o':=O.lst (cs.map b8.d++[O9.d])) a7;have c8:=f6 (o':=O.lst (cs.map b8.d++[O9.d])) c7 (show g.length≠wa by omega);have uH:=DN.K3 (n:=g.length) (o:=O.lst (cs.map b8.d++[O9.d])) (az _);have q8:g7.set g.length (O.lst (cs.map b8.d++[D.tup [D.int 1,D.tup [],D.int 1,D.tup [],D.int 0]]))=g7.set g.length (O.lst (cs.map b8.d++[O9.d])):=rfl;rw[q8];clear q8;generalize g7.set g.length (O.lst (cs.map b8.d++[O9.d]))=g8 at *
 try show wpS _ _ _ _ _ _
 left
 try refine⟨V' c8,?_⟩
 left;refine Ul c8 ?_;have h9:=f6 (o':=O.lst []) h8 (show wa≠l3 by omega);have a9:=f6 (o':=O.lst []) a8 (show wa≠g.length by omega);have c9:=get_set (o':=O.lst []) c8;have Jj:=uH.K3 (n:=wa) (o:=O.lst []) ();generalize g8.set wa (O.lst [])=g9 at *
 try show wpS _ _ _ _ _ _
 left;have a9':g9[g.length]?=some (.lst ((cs++[O9]).map b8.d)):=by rw[a9,cV];rfl
 have G9:∀c∈cs++[O9],iA c:=λc hc=>by
  rcases aV.mp hc with z|z
  ·exact A.hG c z
  ·cases aY.mp z;exact aW8
 have Qp:(cs++[O9]).length<=9:=by simp;omega
 refine LD (k:=k+3) (cs:=cs++[O9]) (rs:=[]) hT.tb hT.tf hT.tw hT.tn hT.ti.jh hT.pZ a9' Qp (bG.mpr λc hc=>(G9 c hc).good) (λc hc=>⟨(G9 c hc).l8,(G9 c hc).u8⟩) A.hv c9 (by simp) (by simp) (λ_ gA eA=>?_) λ_ l gA _ eA _ _=>?_
 ·left;exact hN _ _ _ (Jj.trans eA)
 ·left;exact hN _ _ _ (Jj.trans eA)
structure Ent(g:G)(l9:Nat)(x:D):Prop where
 ex:∃(s t u lo:Nat) (cs:List b8) (v:Int) (rs:List cQ) (y:D),x=.tup [.ref s,.int v,.ref t,.ref u,y]/\s≠l9/\t≠l9/\Ask g s t cs v rs/\cs.length<=4/\rs.length<=4/\Q5 g lo cs v rs u/\l9<lo/\tV cs rs y
theorem Ent.gr{l9:Nat}{x:D}(h:Ent g l9 x)(e:Gr l9 g g'):Ent g' l9 x:=by
 obtain⟨s,t,u,lo,cs,v,rs,y,h1,h2,h3,h4,h5,h6,h7,h8,h9⟩:=h.ex;exact⟨s,t,u,lo,cs,v,rs,y,h1,h2,h3,h4.gr e h2 h3,h5,h6,h7.gr e h8,h8,h9⟩
theorem LV{i j:Option Int}{x:D}(h:x∈cut l i j):x∈l:=Bi (fT h)
theorem part3(hT:rm T){l9:Nat}{es:List D}{z2 z3 z4 z5 lR jy gE gn ic:Option D}(h9:g[l9]?=some (.lst es))(hl:es.length<=8)(he:∀x∈es,Ent g l9 x)(hN:∀g',N.rt (.bl true) g') :
  wpS (d0 T (k+14)) yZ N [z0,z1,z2,z3,z4,z5,z6,z7,z8,some (.ref l9),lR,jy,ir,gE,gn,ic,gJ,jN,iq,ip] g E:=by
 dsimp[yZ,rh];left;refine aZ1 (n:=2) ∅ (λi Z g'=>Ex g g'/\∃lR jy ir gE gn ic gJ jN iq ip,Z=[z0,z1,z2,z3,z4,z5,z6,z7,z8,some (.ref l9),lR,jy,ir,gE,gn,ic,gJ,jN,iq,ip]) ⟨Ex.refl _,_,_,_,_,_,_,_,_,_,_,rfl⟩ (λi Z g1 hi q=>?_) (λZ g1 q=>?_)
 ·obtain⟨e1,lR,jy,ir,gE,gn,ic,gJ,jN,iq,ip,rfl⟩:=q;refine j8 ?_
  try show wpS _ _ _ _ _ _
  left;refine NV (b0 (e1.at h9)) ?_;left;have e2:=Ex.snoc g1 (O.lst (cut es (some (i:Int)) none));have h2:=b9 (g:=g1) (o:=O.lst (cut es (some (i:Int)) none));generalize g1++[_]=g2 at *;generalize g1.length=l2 at *;refine GK (b0 ((e1.trans e2).at h9)) ?_;left;have e3:=Ex.snoc g2 (O.lst (cut es none (some (i:Int))));have h3:=b9 (g:=g2) (o:=O.lst (cut es none (some (i:Int))));generalize g2++[_]=g3 at *;generalize g2.length=l3 at *;have cl:∀i j:Option Int,(cut es i j).length<=8:=λi j=>by
   unfold cut;rw[cM,iG];omega
  have Si:=cl (some (i:Int)) none;have Sg:=cl none (some (i:Int));refine Y5 (e3.at h2) h3 () ?_;have e4:=Ex.snoc g3 (O.lst (cut es (some (i:Int)) none++cut es none (some (i:Int))));have h4:=b9 (g:=g3) (o:=O.lst (cut es (some (i:Int)) none++cut es none (some (i:Int))));have hm:∀x∈cut es (some (i:Int)) none++cut es none (some (i:Int)),x∈es:=λx hx=>(aV.mp hx).elim LV LV;have nH:(cut es (some (i:Int)) none++cut es none (some (i:Int))).length<=16:=by rw[bj];omega
  generalize cut es (some (i:Int)) none++cut es none (some (i:Int))=ms at *;generalize g3++[_]=g4 at *;generalize g3.length=l4 at *;have pA:=e1.trans (e2.trans (e3.trans e4));clear e1 e2 e3 e4 h2 h3 cl Si Sg;left;refine x6 (b7 T _) (lr (b7 T _) ?_);left;refine⟨_,_,rfl,b0 h4,ms,λj Z g'=>Ex g4 g'/\∃lR jy ir gE gn ic gJ iq ip,Z=[z0,z1,z2,z3,z4,z5,z6,z7,z8,some (.ref l9),lR,jy,ir,gE,gn,ic,gJ,some (.ref l4),iq,ip],λj Z g' q=>o8 (b0 (q.1.at h4)),⟨Ex.refl _,_,_,_,_,_,_,_,_,_,rfl⟩,λj x Z g5 hx q=>?_,λZ g5 q=>?_⟩
  ·obtain⟨e5,lR,jy,ir,gE,gn,ic,gJ,iq,ip,rfl⟩:=q;obtain⟨s,t,u,lo,cs,v,rs,y,rfl,h2,h3,A,h5,h6,h7,h8,hL⟩:=((he x (hm x (aD hx))).gr ((pA.trans e5).gr l9)).ex;refine B1 rfl ?_
   try show wpS _ _ _ _ _ _
   refine Zz hT A h5 h6 h7 hL ?_;exact λiq ip g' e=>⟨e5.trans e,_,_,_,_,_,_,_,_,_,rfl⟩
  ·obtain⟨e5,lR,jy,ir,gE,gn,ic,gJ,iq,ip,rfl⟩:=q
   try show wpS _ _ _ _ _ _
   left;exact⟨pA.trans e5,_,_,_,_,_,_,_,_,_,_,rfl⟩
 ·obtain⟨_,lR,jy,ir,gE,gn,ic,gJ,jN,iq,ip,rfl⟩:=q
  try show wpS _ _ _ _ _ _
  left;exact hN _
def Es(g:G)(l9 n:Nat):Prop:=∃es,g[l9]?=some (.lst es)/\es.length=n/\∀x∈es,Ent g l9 x
theorem Es.ex{l9:Nat}(h:Es g l9 n)(e:Ex g g'):Es g' l9 n:=by
 obtain⟨es,h1,h2,h3⟩:=h;exact⟨es,e.at h1,h2,λx hx=>(h3 x hx).gr (e.gr l9)⟩
theorem part2(hT:rm T){b2:Nat}{lJ:List b8}{z9 lR jy gE gn ic:Option D}(ha:g[a]?=some (.lst (cs.map b8.d)))(h2:g[b2]?=some (.lst (lJ.map b8.d)))(hc:g[c]?=some (.lst (i7 rs)))(hG:∀c∈cs,iA c)(Dd:∀c∈lJ,iA c)(hz:cs.length<=4)(BU:lJ.length<=4)(hr:rs.length<=4)(hv:1<=v/\v<=6)(hN:∀g',N.rt (.bl true) g') :
  wpS (d0 T (k+14)) BK N [z0,z1,some (.ref a),some (.int v),some (.ref c),some (.ref b2),z6,z7,z8,z9,lR,jy,ir,gE,gn,ic,gJ,jN,iq,ip] g E:=by
 dsimp[BK,rh];left;have e1:=Ex.snoc g (O.lst []);have h9:=b9 (g:=g) (o:=O.lst []);have la:=i8 ha;have lb:=i8 h2;have lc:=i8 hc;have a1:=e1.at ha;have b1:=e1.at h2;have c1:=e1.at hc;generalize g++[O.lst []]=g1 at *;generalize g.length=l9 at *;have l91:=i8 h9;refine x6 (b7 T _) (lr (b7 T _) ?_);left;have e2:=Ex.snoc g1 (O.lst [.ref a,.ref b2]);have h3:=b9 (g:=g1) (o:=O.lst [.ref a,.ref b2]);have a2:=e2.at a1;have b2':=e2.at b1;have c2:=e2.at c1;have zy:=e2.at h9;generalize g1++[_]=g2 at *;generalize g1.length=l2 at *;clear a1 b1 c1 h9 e1 e2;refine⟨_,_,rfl,b0 h3,[.ref a,.ref b2],λi Z g'=>(Gr l9 g2 g'/\Es g' l9 (4*i))/\∃lR jy ir gE gn ic gJ jN iq ip,Z=[z0,z1,some (.ref a),some (.int v),some (.ref c),some (.ref b2),z6,z7,z8,some (.ref l9),lR,jy,ir,gE,gn,ic,gJ,jN,iq,ip],λi Z g' q=>o8 (b0 (q.1.1.at () h3)),⟨⟨Gr.refl _ _,[],zy,rfl,by simp⟩,_,_,_,_,_,_,_,_,_,_,rfl⟩,λi x Z g3 hx q=>?_,λZ g3 q=>?_⟩
 rotate_left
 ·obtain⟨⟨G3,es,q1,q2,q3⟩,lR,jy,ir,gE,gn,ic,gJ,jN,iq,ip,rfl⟩:=q
  try show wpS _ _ _ _ _ _
  exact part3 (k:=k) hT q1 (by rw[q2];simp) q3 hN
 obtain⟨⟨G3,S3⟩,lR,jy,ir,gE,gn,ic,gJ,jN,iq,ip,rfl⟩:=q;obtain⟨s,gp,rfl,sl,hs,Dc,Pu⟩:∃(s:Nat) (gp:List b8),x=.ref s/\s≠l9/\g3[s]?=some (.lst (gp.map b8.d))/\(∀c∈gp,iA c)/\gp.length<=4:=by
  match i,hx with
  |0,hx=>cases hx;exact⟨a,cs,rfl,by omega,G3.at () a2,hG,hz⟩
  |1,hx=>cases hx;exact⟨b2,lJ,rfl,by omega,G3.at () b2',Dd,BU⟩
  |i+2,hx=>simp at hx
 have hi:i<2:=(ak.mp hx).1;have c3:=G3.at (show c≠l9 by omega) c2;refine j8 ?_
 try show wpS _ _ _ _ _ _
 left;refine x6 (b7 T _) (lr (b7 T _) ?_);left;have e4:=Ex.snoc g3 (O.lst [.int v,.int (v % 3+1)]);have h4:=b9 (g:=g3) (o:=O.lst [.int v,.int (v % 3+1)]);have PL:=e4.at hs;have c4:=e4.at c3;have S4:=S3.ex e4;have G4:=G3.trans (e4.gr l9);have l39:=i8 zy;have l34:=G3.len;have zk:l9<g3.length:=by omega
 generalize g3++[_]=g4 at *;generalize g3.length=l4 at *;clear e4 S3 hs c3 G3;refine⟨_,_,rfl,b0 h4,[.int v,.int (v % 3+1)],λj Z g'=>(Gr l9 g4 g'/\Es g' l9 (4*i+2*j))/\∃jy ir gE gn ic gJ jN iq ip,Z=[z0,z1,some (.ref a),some (.int v),some (.ref c),some (.ref b2),z6,z7,z8,some (.ref l9),some (.ref s),jy,ir,gE,gn,ic,gJ,jN,iq,ip],λj Z g' q=>o8 (b0 (q.1.1.at () h4)),⟨⟨Gr.refl _ _,S4⟩,_,_,_,_,_,_,_,_,_,rfl⟩,λj x Z g5 hx q=>?_,λZ g5 q=>?_⟩
 rotate_left
 ·obtain⟨⟨G5,S5⟩,jy,ir,gE,gn,ic,gJ,jN,iq,ip,rfl⟩:=q;exact⟨⟨G4.trans G5,S5⟩,_,_,_,_,_,_,_,_,_,_,rfl⟩
 obtain⟨⟨G5,S5⟩,jy,ir,gE,gn,ic,gJ,jN,iq,ip,rfl⟩:=q;obtain⟨v',rfl,wm⟩:∃v':Int,x=.int v'/\1<=v'/\v'<=9:=by
  have h0:=dt v (show(3:Int)≠0 by decide);have h1:=cN v (show(0:Int)<3 by decide)
  match j,hx with
  |0,hx=>cases hx;exact⟨_,rfl,by omega,by omega⟩
  |1,hx=>cases hx;exact⟨_,rfl,by omega,by omega⟩
  |j+2,hx=>simp at hx
 have hj:j<2:=(ak.mp hx).1;have Ce:=G5.at sl PL;have c5:=G5.at (show c≠l9 by omega) c4;refine j8 ?_
 try show wpS _ _ _ _ _ _
 left;refine KC (b7 T _) (O6 (b7 T _) (b0 c5) (λQ q=>w_var rfl q) _ ?_);refine⟨i7 rs,λZ=>∃z1 z2,Z=[some (.ref s),z1,z2],λi=>j5 gp (rs.getD i r0),λi=>(rs.getD i r0).d,λg' e=>o8 (b0 (e.at c5)),by rw[MY];omega,⟨none,none,rfl⟩,λi x Z g6 hx e sh=>?_,λg6 e6=>?_⟩
 ·obtain⟨z1,z2,rfl⟩:=sh;unfold i7 at hx;rw[aj,aa] at hx;obtain⟨r,fE,rfl⟩:=hx;have er:rs.getD i r0=r:=by rw[pL,fE];rfl
  dsimp only;rw[er];refine j8 ?_
  try show dh _ _ _ _ _ _
  left;refine VX (k:=k+13) (r:=r) hT.sP (e.at Ce) () λg7 e7=>?_;left;refine⟨rfl,e.trans e7,?_⟩;refine Pp (λ_=>?_) (λ_=>⟨_,_,rfl⟩);left;exact⟨rfl,e.trans e7,_,_,rfl⟩
 rw[MY,MK (j5 gp) cQ.d r0 rs];have hR:(rs.filter (j5 gp)).all (j5 gp)=true:=bG.mpr λr hr=>(bp.mp hr).2;have zg:(rs.filter (j5 gp)).length<=4:=aG (df _ _) hr;generalize rs.filter (j5 gp)=mB at *;have e7:=e6.trans (Ex.snoc g6 (O.lst (mB.map cQ.d)));have h7:(g6++[O.lst (mB.map cQ.d)])[g6.length]?=some (.lst (i7 mB)):=b9;have n7:l9≠g6.length:=by have:=e6.len;have:=G5.len;have:=i8 h4;omega
 generalize g6++[_]=g7 at *;generalize g6.length=l7 at *;left;refine x6 (b7 T _) (lr (b7 T _) ?_);left;refine NV (b0 h7) ?_;left;have e8:=Ex.snoc g7 (O.lst (cut (i7 mB) (some 1) none));have h8:(g7++[O.lst (cut (i7 mB) (some 1) none)])[g7.length]?=some (.lst (i7 (mB.drop 1))):=by
  rw[b9];have:=TQ (l:=i7 mB) (n:=1);rw[show((1:Nat):Int)=1 from rfl] at this;rw[this];unfold i7;rw[List.map_drop]
 have n8:l9≠g7.length:=by have:=i8 h7;have:=e7.len;have:=G5.len;have:=i8 h4;omega
 generalize g7++[_]=g8 at *;generalize g7.length=l8 at *;have e9:=Ex.snoc g8 (O.lst [.ref l7,.ref l8]);have uD:=b9 (g:=g8) (o:=O.lst [.ref l7,.ref l8]);have nA:l9≠g8.length:=by have:=i8 h8;have:=e8.len;have:=e7.len;have:=G5.len;have:=i8 h4;omega
 have zH:=e7.trans (e8.trans e9);have PK:=zH.at Ce;have t9:=(e8.trans e9).at h7;have u9:=e9.at h8;have S9:=S5.ex zH;have G9:=G5.trans (zH.gr l9);have ln9:l9<g8.length:=by have:=i8 h8;have:=e8.len;have:=e7.len;have:=G5.len;have:=i8 h4;omega
 generalize g8++[_]=g9 at *;generalize g8.length=lA at *;clear zH e7 e8 e9 h7 h8 S5 Ce c5 G5;refine⟨_,_,rfl,b0 uD,[.ref l7,.ref l8],λt Z g'=>(Gr l9 g9 g'/\Es g' l9 (4*i+2*j+t))/\∃gE gn ic gJ jN iq ip,Z=[z0,z1,some (.ref a),some (.int v),some (.ref c),some (.ref b2),z6,z7,z8,some (.ref l9),some (.ref s),some (.int v'),some (.ref l7),gE,gn,ic,gJ,jN,iq,ip],λt Z g' q=>o8 (b0 (q.1.1.at (bT nA) uD)),⟨⟨Gr.refl _ _,S9⟩,_,_,_,_,_,_,_,rfl⟩,λt x Z gB hx q=>?_,λZ gB q=>?_⟩
 rotate_left
 ·obtain⟨⟨GB,SB⟩,gE,gn,ic,gJ,jN,iq,ip,rfl⟩:=q;exact⟨⟨G9.trans GB,SB⟩,_,_,_,_,_,_,_,_,_,rfl⟩
 obtain⟨⟨GB,SB⟩,gE,gn,ic,gJ,jN,iq,ip,rfl⟩:=q;obtain⟨tt,lU,rfl,tl,ht,QT,Cf⟩:∃(tt:Nat) (lU:List cQ),x=.ref tt/\tt≠l9/\gB[tt]?=some (.lst (i7 lU))/\lU.all (j5 gp)=true/\lU.length<=4:=by
  match t,hx with
  |0,hx=>cases hx;exact⟨l7,mB,rfl,Ne.symm n7,GB.at (Ne.symm n7) t9,hR,zg⟩
  |1,hx=>cases hx;exact⟨l8,mB.drop 1,rfl,Ne.symm n8,GB.at (Ne.symm n8) u9,List.all_eq_true.mpr λr hr=>List.all_eq_true.mp hR r (List.mem_of_mem_drop hr),by rw[List.length_drop];omega⟩
  |t+2,hx=>simp at hx
 have ht2:t<2:=(ak.mp hx).1;have Cd:=GB.at sl PK;have lB:=GB.len;have lA9:=i8 uD;refine j8 ?_
 try show wpS _ _ _ _ _ _
 left;have IT:∀c∈gp,CB c:=λc hc=>⟨(Dc c hc).l8,(Dc c hc).u8⟩
 refine VW (k:=k+10) hT Cd () IT ht () λy gC eC hL=>?_;left;refine VL (k:=k+10) (v:=v') hT (eC.at Cd) () IT (eC.at ht) () λu gD eD CV=>?_;have zG:=eC.trans eD;obtain⟨es,q1,q2,q3⟩:=SB.ex zG;left
 try refine⟨M4 q1,?_⟩
 left;refine L5 q1 () ?_;have GG:Gr l9 gD (gD.set l9 (O.lst (es++[.tup [.ref s,.int v',.ref tt,.ref u,y]]))):=Gr.set _ _ _;have lC:=eC.len;left;refine⟨⟨(GB.trans (zG.gr l9)).trans GG,es++[.tup [.ref s,.int v',.ref tt,.ref u,y]],get_set q1,by simp[q2];omega,λx hx=>?_⟩,_,_,_,_,_,_,_,rfl⟩;rcases aV.mp hx with z|z
 ·exact(q3 x z).gr GG
 ·cases aY.mp z;have AA:Ask gD s tt gp v' lU:=⟨zG.at Cd,by omega,Dc,wm,zG.at ht,by omega,QT⟩
  exact Ent.gr ⟨s,tt,u,gC.length,gp,v',lU,y,rfl,sl,tl,AA,Pu,Cf,CV,by omega,hL⟩ GG
theorem Ug(h:p<n):lq n (p:Int)=some p:=by
 unfold lq;simp;omega
theorem VT(hT:rm T):d0 T (k+15) 11 [.ref 0] [.qb (ns.map .int)] (λd _=>d=.bl true) iV:=by
 refine call_of hT.Rt rfl ?_;dsimp[rh,d6,List.replicate];left;refine Ux (k:=k+13) hT.h3 (a:=0) (ns:=ns) rfl λd g D1 _ _=>?_;left;have dl:=D1.lt;refine WD (k:=k+9) hT.lS.toTBR hT.qa ⟨by decide,by decide⟩ D1 λcs rs a c v g2 hl hG ha CS hr hR hc kA hac v1 v2 D2 G2=>?_;refine B1 rfl ?_
 try show wpS _ _ _ _ _ _
 have hz:cs.length<=4:=by omega
 have da:d<a:=by omega
 have dc:d<c:=by omega
 left;refine xM (b0 ha) ?_;have e3:=Ex.snoc g2 (O.lst (cs.map b8.d));have h3:=b9 (g:=g2) (o:=O.lst (cs.map b8.d));have a3:=e3.at ha;have c3:=e3.at hc;have D3:=e3.draw D2;have ab:a<g2.length:=i8 ha;have cb:c<g2.length:=i8 hc;have db:d<g2.length:=by omega
 generalize g2++[_]=g3 at *;generalize g2.length=b2 at *;clear G2 D2 ha hc CS kA dl hl e3;left;have fin:∀(N:Ends) (E:KX) (g4:G) (z6 z7 z8:Option D) (lJ:List b8),(∀g',N.rt (.bl true) g')->g4[a]?=some (.lst (cs.map b8.d))->g4[c]?=some (.lst (i7 rs))->g4[b2]?=some (.lst (lJ.map b8.d))->(∀c∈lJ,iA c)->lJ.length<=4 ->
   wpS (d0 T (k+14)) BK N [some (.ref 0),some (.ref d),some (.ref a),some (.int v),some (.ref c),some (.ref b2),z6,z7,z8,none,none,none,none,none,none,none,none,none,none,none] g4 E:=by
  intro N E g4 z6 z7 z8 lJ hN ha hc hb Dd BU;exact part2 (k:=k) hT ha hb hc hG Dd hz BU hr ⟨v1,v2⟩ hN
 rw[ai];refine if2 (λc0=>?_) (λc0=>?_)
 rotate_left
 ·refine pF (C7 ?_);exact fin _ _ g3 _ _ _ cs (λ_=>rfl) a3 c3 h3 hG hz
 left;refine j4 (k:=k+13) hT.lS.lf.pull D3 ∅ ∅ λq g4 _ _ D4 G4=>?_;have a4:=G4.at () a3;have c4:=G4.at () c3;have h4:=G4.at (show b2≠d by omega) h3;left;refine if2 (λ_=>?_) (λ_=>?_)
 rotate_left
 ·refine C7 ?_;exact fin _ _ g4 _ _ _ cs (λ_=>rfl) a4 c4 h4 hG hz
 left;rw[ai];refine j4 (k:=k+13) hT.lS.lf.pull D4 () () λp g5 p0 p1 D5 G5=>?_;have a5:=G5.at () a4;have c5:=G5.at () c4;have h5:=G5.at (show b2≠d by omega) h4;obtain⟨n,rfl⟩:∃n:Nat,p=n:=⟨p.toNat,by omega⟩
 have hn:n<cs.length:=by omega
 have wJ:=ao hn;generalize cs[n]=co at wJ;left;refine s9 (d:=co.d) (b0 a5) (B4 (by rw[aj,wJ];rfl)) ?_;left;have ct:∀{q:Int} {v:D} {gq:G} {Q:KD},gh [D.int co.lo,.tup (co.lm.map .int),.int co.up,.tup (co.um.map .int),.int co.yr] q=some v->Q v gq->cF .ix [co.d,.int q] gq Q:=λe h=>x5 e h;refine ct rfl ?_;left;refine j4 (k:=k+13) hT.lS.lf.pull (D5.snoc _) ∅ ∅ λt g6 t0 t1 D6 G6=>?_;have QG:=(hG co (aD wJ)).inv;obtain⟨y8,HW,Cs⟩:=L1 (l:=[D.int 0,D.int co.yr,D.int 1400]) t0 (by simpa using t1);obtain⟨yr,rfl,y1,y2⟩:∃yr:Int,y8=.int yr/\0<=yr/\yr<=9999:=by
  simp only[List.mem_cons,List.mem_nil_iff,or_false] at Cs;rcases Cs with rfl|rfl|rfl
  ·exact⟨_,rfl,by omega,by omega⟩
  ·exact⟨_,rfl,by omega,by omega⟩
  ·exact⟨_,rfl,by omega,by omega⟩
 have dg5:=D5.lt;refine s9 (b0 (G6.at (show g5.length≠d by omega) b9)) HW ?_;have Ba:=(Gr.snoc d g5 (O.lst [D.int 0,D.int co.yr,D.int 1400])).trans G6;have a6:=Ba.at () a5;have c6:=Ba.at () c5;have h6:=Ba.at (show b2≠d by omega) h5;clear Ba Cs HW;left;refine ct rfl ?_;left
 try refine S0 ∅ ?_
 left;have So:∀{gq:G} {Q:KD},Q (.tup [.tup (co.lm.map .int),.int co.up,.tup (co.um.map .int)]) gq->cF (.jX true true) [co.d,.int 1,.int 4] gq Q:=λh=>SJ (l:=[D.int co.lo,.tup (co.lm.map .int),.int co.up,.tup (co.um.map .int),.int co.yr]) h;refine So ?_;refine JD (by simp) ?_;left;refine JD (by simp) ?_;left;refine U1 h6 (Ug (by rw[ai];exact hn)) ?_;have h7:=get_set (o':=O.lst ((cs.map b8.d).set n (b8.d ⟨1+co.lo % 98,co.lm,co.up,co.um,yr⟩))) h6;have a7:=f6 (o':=O.lst ((cs.map b8.d).set n (b8.d ⟨1+co.lo % 98,co.lm,co.up,co.um,yr⟩))) a6 (show b2≠a by omega);have c7:=f6 (o':=O.lst ((cs.map b8.d).set n (b8.d ⟨1+co.lo % 98,co.lm,co.up,co.um,yr⟩))) c6 (show b2≠c by omega);refine fin _ _ _ _ _ _ (cs.set n ⟨1+co.lo % 98,co.lm,co.up,co.um,yr⟩) (λ_=>rfl) a7 c7 (by rw[List.map_set];exact h7) (λx hx=>?_) (by rw[jk];exact hz);rcases gP hx with z|rfl
 ·exact hG x z
 ·have m0:=dt co.lo (show(98:Int)≠0 by decide);have m1:=cN co.lo (show(0:Int)<98 by decide);obtain⟨i1,i2,i3,i4,i5,i6⟩:=QG;exact iA.mk' () () () () y1 y2 i2 i4 (hG co (aD wJ)).l8 (hG co (aD wJ)).u8
end
end M
namespace Lk
open PySem L2 M
def top(i:Nat):Stmt:=PySem.Challenge.pw_trussel_k55_whole_asked_a_second_time.main.body.getD i (.Pass ⟨0,0,0,0⟩)
def TM:Stmt->List Stmt
 |.ClassDef (body:=b) ..=>b
 |_=>[]
def Kj(i j:Nat):Stmt:=(TM (top i)).getD j (.Pass ⟨0,0,0,0⟩)
def F:List RF:=[⟨38,"is_number",["thing"],1,13,Fq⟩,⟨1,"number_from",["number","least","most"],3,14,Z5⟩,⟨2,"good_marks",["marks","least","spot"],1,15,L9⟩,⟨15,"within",["one","other"],2,16,Ai⟩,⟨12,"good_coin",["coin","lower","lower_marks","upper","upper_marks","year","good_lower","good_upper"],1,23,E6⟩,⟨39,"check_coin",["coin"],1,24,Fz⟩,⟨18,"check_coins",["coins","coin"],1,25,Z8⟩,⟨83,"check_place",["coins","place"],2,26,R7⟩,⟨40,"check_side",["side"],1,27,U5⟩,⟨19,"die_field",["side"],1,28,Fo⟩,⟨74,"places_of",["coins","word","thing","field"],3,29,X9⟩,⟨75,"check_die",["coins","side","die"],3,30,Fn⟩,⟨20,"dies_of",["coins","side","field"],2,31,EG⟩,⟨42,"check_anvils",["anvils"],1,36,C9⟩,⟨88,"good_rule",["coins","rule","word","one","other"],2,37,Fp⟩,⟨89,"check_rules",["coins","rules","at","rule"],2,38,Z7⟩,⟨90,"stand_of",["places"],1,39,Aw⟩,⟨91,"with_coin",["stand","place"],2,40,X8⟩,⟨92,"more_worn",["one","other","side","field"],2,41,Fs⟩,⟨93,"later",["one","other"],2,42,GC⟩,⟨94,"worn_stands",["coins"],1,43,Z4⟩,⟨95,"later_stands",["coins"],1,44,W7⟩,⟨96,"die_stands",["coins"],1,45,FC⟩,⟨97,"needed_stands",["coins","rules","needed","word","one","other","first","place"],2,46,T6⟩,⟨98,"check_asked",["coins","anvils","rules"],3,48,K2⟩,⟨99,"bounds_of",["coins","anvils","rules"],3,49,Fm⟩,⟨100,"dies_in_use",["bounds","stand","place","struck","left"],3,50,FD⟩,⟨101,"next_fault",["bounds","stand","place"],3,51,FF⟩,⟨115,"follows",["bounds","stand","place"],3,53,As⟩,⟨116,"followers",["bounds","stand"],2,54,FE⟩,⟨117,"reached_stands",["bounds","led_to","told","stand","place"],1,55,F4⟩,⟨121,"ways_on",["bounds","ways","stand"],1,57,EJ⟩,⟨122,"step_on",["bounds","ways","stand","number","choices","left","at"],4,58,Ah⟩,⟨123,"numbered_order",["bounds","ways","number","order","stand","left","place"],3,59,P8⟩,⟨124,"first_order",["bounds","ways"],1,60,K1⟩,⟨125,"least_order",["coins","anvils","rules"],3,61,Q9⟩,⟨126,"how_many",["coins","anvils","rules"],3,62,Au⟩,⟨129,"shown_paper",["bounds","stands"],1,64,M5⟩,⟨134,"fewest_of",["coins","rules","paper","count","bounds","order"],2,66,Y0⟩,⟨135,"fewest",["coins","rules","told"],2,67,EH⟩,⟨136,"check_thing",["coins","word","thing"],3,69,Z6⟩,⟨137,"check_pair",["coins","word","one","other"],4,70,FA⟩,⟨138,"why_of",["coins","anvils","rules","word","one","other","one_ahead","other_ahead","one_order","other_order"],6,71,xY⟩,⟨139,"told_of",["coins","anvils","rules","word","one","other"],6,72,EI⟩,⟨3,"_law_open",["_law_script"],1,74,AQ⟩,⟨4,"_law_pull",["_law_draw","_law_total_of","_law_cell","_law_got","_law_seed"],2,75,K5⟩,⟨6,"_law_num",["_law_found"],1,76,yk⟩,⟨7,"_law_like",["_law_found","_law_due_here"],2,77,G0⟩,⟨21,"_law_order_of",["_law_draw","_law_numbers","_law_left","_law_found","_law_step"],2,78,W6⟩,⟨17,"_law_within",["_law_one","_law_other"],2,79,Av⟩,⟨22,"_law_any_coin",["_law_draw","_law_menu","_law_lower","_law_upper","_law_year"],1,80,Ar⟩,⟨23,"_law_seated",["_law_draw","_law_seats","_law_fresh","_law_anvils"],4,81,L8⟩,⟨24,"_law_struck",["_law_draw","_law_size","_law_anvils","_law_seats","_law_fresh","_law_worn","_law_year","_law_step","_law_wear","_law_shift","_law_found","_law_k","_law_keys","_law_key","_law_spot","_law_named","_law_told_year"],3,82,L7⟩,⟨25,"_law_opened",["_law_draw","_law_size","_law_dies","_law_row","_law_held","_law_found","_law_k","_law_year"],2,83,Af⟩,⟨26,"_law_list",["_law_draw","_law_most","_law_size","_law_anvils","_law_way","_law_found","_law_at","_law_coin","_law_other"],2,84,U4⟩,⟨105,"_law_rule",["_law_draw","_law_coins","_law_word","_law_some","_law_at"],2,85,uV⟩,⟨106,"_law_rules",["_law_draw","_law_coins","_law_found","_law_k","_law_rule_here"],2,86,GD⟩,⟨140,"_law_rule_ok",["_law_coins","_law_rule_here","_law_word","_law_one","_law_other","_law_dies"],2,87,Ag⟩,⟨107,"_law_rule_kept",["_law_coins","_law_ahead","_law_place","_law_rule_here","_law_word","_law_one","_law_other","_law_at"],4,88,Ft⟩,⟨108,"_law_fault",["_law_coins","_law_anvils","_law_rules_here","_law_ahead","_law_place","_law_coin","_law_there","_law_at","_law_here","_law_later"],5,89,xW⟩,⟨150,"_law_all_orders",["_law_coins","_law_anvils","_law_rules_here","_law_rows","_law_step","_law_longer","_law_row","_law_place"],3,90,U6⟩,⟨110,"_law_ready",["_law_draw","_law_most","_law_coins","_law_anvils"],2,91,xX⟩,⟨30,"_law_asked",["_law_coins","_law_anvils","_law_rules_here","_law_found"],3,92,xV⟩,⟨34,"_law_due",["_law_coins","_law_anvils","_law_rules_here","_law_rows","_law_last","_law_marks","_law_word"],3,93,yj⟩,⟨291,"_law_count",["_law_coins","_law_rules_here"],2,94,GA⟩,⟨292,"_law_low",["_law_coins","_law_rules_here","_law_k"],2,95,Em⟩,⟨11,"law",["_law_script","_law_draw","_law_coins","_law_anvils","_law_rules_here","_law_second","_law_at","_law_coin","_law_year","_law_asked_here","_law_some","_law_count_here","_law_more","_law_these","_law_low_here","_law_due_here","_law_turn","_law_turned_rows","_law_handed","_law_found"],1,96,rh⟩]
def Ms:List RM:=[⟨113,"Bounds","__init__","Bounds.__init__",["self","coins","anvils","rules"],4,47,0,Z9⟩]
def con:List (Str×D):=[("LAST_SPOT",.int 7),("MOST_COINS",.int 9),("LAST_DIE",.int 99),("LAST_YEAR",.int 9999),("SIDES",.tup [(.str "lower"),(.str "upper")]),("MOST_ANVILS",.int 9),("RULE_WORDS",.tup [(.str "coin"),(.str "lower"),(.str "upper")]),("YEAR_FIELD",.int 4)]
def gd:List (Str×List D):=[("DIE_FIELDS",[.tup [.str "lower",.int 0],.tup [.str "upper",.int 2]])]
def exc:List Str:=["BadAnvils","BadCoin","BadRule","BadSide","NoDie","NoOrder","NoPlace","SameOne","TooMany"]
def c0:j7:=⟨[],[],true,F.map λr=>(r.nm,r.id),con,["len","enumerate","list","tuple","isinstance","all","range","int","bool","str","max","min","sorted","set","any","sum","reversed"],exc,gd,[("Bounds",113)],Ms.map λr=>(r.nm,r.cl,r.id),[("size","Bounds"),("full","Bounds"),("room","Bounds"),("worn_by_place","Bounds"),("later_by_place","Bounds"),("lower_dies","Bounds"),("needed_by_place","Bounds")],true,true,true⟩
noncomputable abbrev T:Nat->Option aW:=uO F Ms
theorem tx:mL c0 F Ms top Kj:=by
 refine⟨rfl,rfl,by decide +kernel,by decide +kernel,by decide +kernel,by decide +kernel,?_,?_,?_,?_⟩
 all_goals
  repeat first
   |exact BF.nil
   |exact BM.nil
   |exact YF.nil
   |exact YM.nil
   |refine YF.cons (by kernel_rfl) ?_
   |refine YM.cons (by kernel_rfl) ?_
   |refine BF.cons (λ_ _ _ _ _ _=>(by(repeat refine Hm λ_=>?_);exact Hl rfl)) ?_
   |refine BM.cons (λ_ _ _ _ _ _=>(by(repeat refine Hm λ_=>?_);exact Hl rfl)) ?_
inductive uI:List DictEntry->List (Str×V)->Prop
 |nil:uI [] []
 |cons {h:Int} {x:Str} {t:Tok} {u:Value} {v:V} {es:List DictEntry} {vs:List (Str×V)} (r:RelV v u) (q:uI es vs):uI (⟨h,.str x t,u⟩::es) ((x,v)::vs)
theorem uI.find{es vs}(x:Str)(h:uI es vs):L4 (vs.lookup x) (findBy Value.isStrOf es.toArray x):=by
 induction h with
 |nil=>trivial
 |cons r q ih =>
  rename_i h y t u v es vs;unfold findBy at ih ⊢;rw[List.find?_toArray] at ih ⊢;rw[fb,cL];by_cases e:x=y
  ·rw[show(x==y)=true from by simp[e],show Value.isStrOf x (.str y t)=true from by simp[Value.isStrOf,e]];exact r
  ·rw[show(x==y)=false from by simpa using e,show Value.isStrOf x (.str y t)=false from by simp[Value.isStrOf];exact λz=>e (z.symm)];exact ih
theorem all_mk{l:PySem.W.OpenLaw}{w:World}{K:PySem.W.Frag}{h:Heap}{mg:Str->Option Value}{fa:Addr}{DY DX zB:Addr}{t0 t1 t2 t3 xC xB t5 xA xy xw t7 qS qR qQ qP:Tok}{DT:Array (Option Value)}{DV:Nat}{DS:Array (Option Value)}{DU:Nat}{Ry:Nat}{oG oE:Int}(X:K.In h)(G:h.Ns mainGlobals mg)(QA:mg "law"=some (.ref fa))(I:mM K c0 F Ms top Kj)(e0:PySem.W.nsIn K mainGlobals "LAST_SPOT"=some (some (Value.int 7 t0)))(e1:PySem.W.nsIn K mainGlobals "MOST_COINS"=some (some (Value.int 9 t1)))(e2:PySem.W.nsIn K mainGlobals "LAST_DIE"=some (some (Value.int 99 t2)))(e3:PySem.W.nsIn K mainGlobals "LAST_YEAR"=some (some (Value.int 9999 t3)))(e4:PySem.W.nsIn K mainGlobals "SIDES"=some (some (.ref DY)))(Sm:K.lookup DY=some ⟨.type "tuple",none,.seq #[Value.str "lower" xC,Value.str "upper" xB] DV,DT⟩)(e5:PySem.W.nsIn K mainGlobals "MOST_ANVILS"=some (some (Value.int 9 t5)))(e6:PySem.W.nsIn K mainGlobals "RULE_WORDS"=some (some (.ref DX)))(Sl:K.lookup DX=some ⟨.type "tuple",none,.seq #[Value.str "coin" xA,Value.str "lower" xy,Value.str "upper" xw] DU,DS⟩)(e7:PySem.W.nsIn K mainGlobals "YEAR_FIELD"=some (some (Value.int 4 t7)))(g0:PySem.W.nsIn K mainGlobals "DIE_FIELDS"=some (some (.ref zB)))(RA:K.lookup zB=some ⟨.type "dict",none,.dict #[⟨oG,Value.str "lower" qS,Value.int 0 qR⟩,⟨oE,Value.str "upper" qQ,Value.int 2 qP⟩] Ry,#[]⟩)(rV:oG=PyData.keyHash w.params "lower")(rT:oE=PyData.keyHash w.params "upper")(Rx:(zB==sysModules)=false)
  : ∃fd:FuncData,(∀(s:Shared) (v:Value),BindsTo s fd ⟨[v],[]⟩ [("_law_script",v)])/\∀base:Heap,K.In base->base.Ns mainGlobals mg->iQ l.prog w K mg base (jM l.prog w) 80 fa fd ["_law_script"] (qw exc K 1 (d0 T 40 11)):=by
 have A:oN w K mg c0 T:=by
  refine Tg I tx X G (λx d hx=>?_) (λx kvs hx=>?_)
  ·have hm:=aT hx;simp only[c0,con,List.mem_cons,List.mem_nil_iff,or_false] at hm;rcases hm with z|z|z|z|z|z|z|z
   ·cases z;exact⟨(.int 7),_,bX X G e0,⟨_,rfl⟩,λ_ _=>.int _⟩
   ·cases z;exact⟨(.int 9),_,bX X G e1,⟨_,rfl⟩,λ_ _=>.int _⟩
   ·cases z;exact⟨(.int 99),_,bX X G e2,⟨_,rfl⟩,λ_ _=>.int _⟩
   ·cases z;exact⟨(.int 9999),_,bX X G e3,⟨_,rfl⟩,λ_ _=>.int _⟩
   ·cases z;exact⟨.ref DY,_,bX X G e4,rfl,λ_ _=>.tup (vs:=[.str "lower",.str "upper"]) (.inr ⟨_,_,_,Sm,rfl,rfl,rfl,(by show 2<=sizeLine;decide),.cons ⟨_,rfl⟩ (.cons ⟨_,rfl⟩ (.nil))⟩) (.cons (.str _) (.cons (.str _) (.nil)))⟩
   ·cases z;exact⟨(.int 9),_,bX X G e5,⟨_,rfl⟩,λ_ _=>.int _⟩
   ·cases z;exact⟨.ref DX,_,bX X G e6,rfl,λ_ _=>.tup (vs:=[.str "coin",.str "lower",.str "upper"]) (.inr ⟨_,_,_,Sl,rfl,rfl,rfl,(by show 3<=sizeLine;decide),.cons ⟨_,rfl⟩ (.cons ⟨_,rfl⟩ (.cons ⟨_,rfl⟩ (.nil)))⟩) (.cons (.str _) (.cons (.str _) (.cons (.str _) (.nil))))⟩
   ·cases z;exact⟨(.int 4),_,bX X G e7,⟨_,rfl⟩,λ_ _=>.int _⟩
  ·have hm:=aT hx;simp only[c0,gd,List.mem_cons,List.mem_nil_iff,or_false] at hm;have z:=hm
   ·cases z;have er:uI [⟨oG,Value.str "lower" qS,Value.int 0 qR⟩,⟨oE,Value.str "upper" qQ,Value.int 2 qP⟩] [("lower",.int 0),("upper",.int 2)]:=.cons (v:=.int 0) ⟨_,rfl⟩ (.cons (v:=.int 2) ⟨_,rfl⟩ (.nil));exact⟨zB,_,bX X G g0,⟨_,_,RA,⟨⟨_,_,rfl,rV⟩,⟨⟨_,_,rfl,rT⟩,True.intro⟩⟩,Rx,λx=>er.find x⟩,.cons (λ_ _=>.int _) (.cons (λ_ _=>.int _) (.nil))⟩
 obtain⟨f,fd,O,a,t⟩:=Mu I tx _ (aD (i:=66) rfl);cases QA.symm.trans (bX X G a);obtain⟨oc,od,kV,doc,pm,an,fV,ct,nE,rfl,lk,nc⟩:=O.fn.ex;exact⟨_,λs v=>.of_eq rfl,λbase oV xc=>bI3 oV xc A 40 11 _ _ fa _ rfl O⟩
theorem walk{l:PySem.W.OpenLaw}{q:Program}{loose:List Str}{XP:(Str->Option Value)->Heap->Prop}{YP:World->Heap->Prop}{d:DefRec}{K:Params->PySem.W.Frag}(hn:l.most=some 63)(wH:d.params.defaults=[])(hY:∀(w:World) (h:Heap),YP w h->(K w.params).In h)(F:∀ (w:World) (mg:Str->Option Value) (fa:Addr) (h:Heap),(K w.params).In h->h.Ns mainGlobals mg->mg d.name=some (.ref fa) ->
   ∃ fd:FuncData,(∀ (s:Shared) (u:Value),BindsTo s fd ⟨[u],[]⟩ [("_law_script",u)])/\∀ base:Heap,(K w.params).In base->base.Ns mainGlobals mg->iQ l.prog w (K w.params) mg base (jM l.prog w) 80 fa fd ["_law_script"] (qw exc (K w.params) 1 (d0 T 40 11))) :
  PySem.W.WalkO q loose XP YP l.row.toRowW d [] (λf vs=>PySem.call f vs) :=
 L2.Vt (n:=63) (k:=80) (x:="_law_script") (CX:=λw=>jM l.prog w) (sp:=λw=>qw exc (K w.params) 1 (d0 T 40 11)) hn ∅ wH ⟨rfl,by decide,by decide⟩ hY F (λw H a ns hl hO hS=>bE8 hO hS (VT (k:=25) ⟨⟨⟨⟨rfl,rfl⟩,rfl,rfl,⟨rfl,rfl⟩,⟨rfl,rfl⟩,rfl,rfl,rfl,rfl,rfl,rfl,rfl,rfl,rfl,rfl,rfl,rfl,rfl,rfl,rfl,rfl⟩,rfl,rfl,rfl⟩,⟨⟨⟨rfl,rfl,rfl,rfl,rfl,rfl,rfl⟩,rfl,rfl⟩,rfl,rfl,rfl,rfl⟩,⟨rfl,rfl⟩,⟨rfl,rfl⟩,⟨rfl,rfl⟩,⟨rfl,rfl,rfl,rfl,rfl,rfl,rfl,rfl⟩,rfl,rfl,rfl,rfl,rfl,rfl,rfl,rfl,rfl,rfl,rfl,rfl,rfl,rfl,rfl⟩)) λ_ _ _ _ _ ⟨_,_,_,_,_,_,_,z⟩=>z
end Lk
end _X
open _X
open PySem PySem.W PyProof.Rows
set_option maxRecDepth 100000 in
set_option maxHeartbeats 0 in
theorem PySem.Challenge.cw_trussel_k55_whole_asked_a_second_time_holds : PySem.Challenge.rw_trussel_k55_whole_asked_a_second_time.Holds := by
 w_on;o_law;k_head;(case hw=>w_witness2)
 k_fill
 refine Lk.walk (l:=PySem.Challenge.rw_trussel_k55_whole_asked_a_second_time) rfl rfl (fun w h Y=>PySem.W.kIn_of Y) ?F
 case F =>
  intro w mg fa h KX G hmg
  refine' Lk.all_mk KX G hmg ⟨?zz1,?zz2,?zz3,?zz4,?zz5,?zz6,?zz7⟩ ?_ ?_ ?_ ?_ ?_ ?_ ?_ ?_ ?_ ?_ ?_ ?_ ?_ ?_ ?_
  (case zz1=>repeat' first | (with_reducible show _=_;k_is) | exact M.PF.nil | apply M.PF.cons)
  (case zz2=>repeat' first | (with_reducible show _=_;k_is) | exact M.PM.nil | apply M.PM.cons)
  (case zz3=>repeat' first | (with_reducible show _=_;k_is) | exact M.PC.nil | apply M.PC.cons)
  (case zz4=>repeat' first | (with_reducible show _=_;k_is) | exact M.PA.nil | apply M.PA.cons)
  (case zz5=>repeat' first | (with_reducible show _=_;k_is) | exact M.PB.nil | apply M.PB.cons)
  (case zz6=>repeat' first | (with_reducible show _=_;first | (with_reducible show PySem.W.excIn _ _ _ _=true;k_exc) | k_is) | exact M.PX.nil | apply M.PX.cons)
  (case zz7=>kernel_rfl)
  all_goals try (with_reducible show _=_;k_is)
  all_goals try ((with_reducible show _=_);rfl)
#print axioms PySem.Challenge.cw_trussel_k55_whole_asked_a_second_time_holds
