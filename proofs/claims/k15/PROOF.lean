import PyProof.Rows.All
import Wide.All
import OpenK.AllK
import Wide.FinOn
import Lean
import PyProof.EqAt
import PyProof.EqKinds
import PyProof.TupleCall
import PySem.Challenge.RW_trussel_k15_whole_orders_by_number
set_option Elab.async false
set_option linter.all false
set_option maxRecDepth 100000
set_option maxHeartbeats 4000000
set_option genInjectivity false
set_option bootstrap.genMatcherCode false
set_option genSizeOf false
local macro_rules|`(def $i:declId $s:optDeclSig $v:declVal)=>`(noncomputable def $i:declId $s:optDeclSig $v:declVal)
structure PySem.W.Fast:Prop where(tw17884852067128518728 tw15314751899012706947 tw14204846208687603544 tw4648162920970320761 tw8424987167128896763 tw5197161375835636823 tw1764298134758887348 tw17012510540387404998 tw1390388226775438982 tw11243886880984586355 tw8463610409496283008 tw14183538150404440413 tw4378976418749511505 tw7793652478370152856 tw6876621563947054611 tw15251590219823152654 tw11418306538998209237 tw16947403413595386827 tw3548014455148963479 tw14298958985439313214 tw16758621080129636544 tw924344264288272253 tw9603966446170813292 tw6335422202446736864 tw7949176747118417088 tw11245303402068827674 tw4148105956163548336 tw233179742349803309 tw5969979449721160750 tw8054067918865338386 tw18086619576033238813 tw12991593223492315732 tw16981496359786727556 tw14237075452785811191 tw10230809324407853537 tw6303411529179816116 tw14842125210893207387 tw6858018191290881072 tw786596646016208534 tw16648186668193018163 tw17965194355124950197 tw8095356041588492677 tw4841915737449418703 tw6979041933960305886 tw14678475490114700516 tw12514785896011531102 tw7106641020981426187 tw16309564029015872079 tw4596403629671601927 tw5957473779085548274 tw14625993235071456917 tw11201006727792195551 tw15076144624542817579 tw15392749065680523039 tw7022239080920171037 tw10061468796660671049 tw13338011001700958488 tw241499519310002371 tw12953459558453557274 tw16505491102149089945 tw18295786775060052931 tw6117819569589148549 tw9551877504797440629 tw6610727544420070149 tw11932237851330873505 tw419598114432470872 tw7951314969800070628 tw3029861783940808768 tw3274190892721744575 tw370897388156055998 tw9599580688087733759 tw7442183448992923983 tw12370668459651044110 tw2477974063362017388 tw3585130851260061352 tw5074839827265968293 tw1186411862015417265 tw17371373078874098698 tw5720777996539323329 tw954306236972086478 tw6159020167120761968 tw9327044041163992119 tw8459501125691251369 tw8511031264261952631 tw14347457478126779545 tw3146537716589061275 tw14635287149560937166 tw10060760318951370012 tw15766644821248007227 tw10462448648316735261 tw7338300426893164440 tw13899637848664632328 tw10597074285339753554 tw4308467218838000279 tw14464334529602049948 tw17507539293624161842 tw1538933559930034987 tw2346246072685375676 tw11787599456779163568 tw9412380972144672285 tw8462892755734940673 tw3664911580401920755 tw4727307678084771003 tw8072140248676190431 tw11588823594221849202 tw6439945577062002818 tw5865585820923927077 tw2336284453006583722 tw13609637741428678845 tw1288399418351041852 tw4816048728810434945 tw12383170600364475995 tw13442254817572061023 tw15366576394909376950 tw15830616787660561481 tw4355660865615442175 tw16363310294203822177 tw16709616069512955014 tw11927523258594752999 tw16522370747736638198 tw1987600907740208068 tw11722381449213256058 tw18326633153059803105 tw12062144715073936845 tw5229960111811360003 tw17554393558323150160 tw8548688320024121577 tw7935255192820574010 tw16721946095377571710 tw10270219843225156130 tw838381210340428079 tw9776183242661845200 tw17110822119951801874 tw14569953522196766935 tw588511958214382732 tw3042058178270505857 tw5028337988889267384 tw15422224696918133453 tw11794448015689149723 tw13716226437054273249 tw15815419174910719667 tw10932489474103609912 tw7452299058446901514 tw7866598987411136969:True)
namespace _X
local macro_rules|`(tactic|left)=>`(tactic|walk_at"")
local macro_rules|`(())=>`(by omega)
local macro_rules|`(∅)=>`(by decide)
local macro_rules|`(tactic|omega)=>`(tactic|lia)
def Ab:=@PySem.wpAny_rule
def Ac:=@Nat.mul_le_mul_right
def Ad:=@Nat.eq_of_testBit_eq
def Ae:=@List.pairwise_append
def Af:=@List.mem_erase_of_ne
def Ag:=@List.getElem_toArray
def Ah:=@PySem.Calls.Name_function_global
def FO:=@PySem.W.hideAll_get
def FP:=@PySem.W.callWith_K0
def FQ:=@Nat.pow_le_pow_left
def FR:=@List.mergeSort_perm
def FT:=@List.length_pos_iff
def FU:=@List.length_flatMap
def FV:=@PySem.Calls.call_function_entry
def M':=@Nat.eq_zero_or_pos
def MW:=@PySem.W.of_hideAll
def MX:=@PySem.W.kitx_tuple
def MY:=@PySem.W.callWith_K
def MZ:=@Nat.mod_lt
def Na:=@Int.natCast_nonneg
def Nb:=@Int.natAbs_natCast
def Nc:=@Array.append_assoc
def aA:=@Nat.lt_of_lt_of_le
def aB:=@Nat.le_trans
def aC:=@List.mem_of_getElem?
def aD:=@List.getElem?_append_left
def aE:=@PySem.Heap.lt_size
def aF:=@if_neg
def aG:=@PySem.Heap.get?_push_size
def aH:=@List.mem_cons
def aJ:=@if_pos
def aK:=@List.size_toArray
def aL:=@List.mem_map
def aM:=@List.getElem?_eq_none
def aN:=@List.mem_range
def aO:=@Option.some.inj
def aP:=@Nat.ne_of_lt
def aQ:=@PySem.mem_of_lookup
def aR:=@List.mem_singleton
def aS:=@Bool.and_eq_true
def aU:=@Bool.eq_iff_iff
def aV:=@List.any_eq_true
def aZ:=@List.mem_append
def aa:=@Option.map_eq_some_iff
def ae:=@List.length_map
def ag:=@PySem.wpAny_bind
def ai:=@List.getElem?_eq_getElem
def aj:=@List.getElem?_eq_some_iff
def ak:=@List.getElem?_map
def ao:=@Option.bind_eq_some_iff
def au:=@decide_eq_true
def av:=@decide_eq_false
def aw:=@PySem.Heap.get?_push_of_some
def ax:=@PySem.wpAny_pure
def ay:=@Nat.le_refl
def az:=@List.getElem?_set_ne
def bA:=@Nat.lt_irrefl
def bB:=@PySem.wpAny_mono
def bC:=@PySem.Obj.data_mapFields
def bD:=@Array.length_toList
def bG:=@decide_eq_false_iff_not
def bH:=@List.take_length
def bI:=@List.getElem?_append_right
def bJ:=@of_decide_eq_true
def bK:=@List.mem_iff_getElem
def bO:=@List.getElem?_range
def bP:=@List.length_filter_le
def bQ:=@PyProof.Rows.callWith_type1
def bT:=@PyProof.Rows.slot_tuple_getitem
def bU:=@Nat.zero_le
def bW:=@PySem.W.mg_of
def bX:=@PySem.W.kia_one
def ba:=@List.getElem?_set_self
def bg:=@List.length_append
def bh:=@List.map_cons
def bj:=@List.take_succ
def bo:=@List.mem_filter
def bt:=@PySem.AutoSeq1.wpAny_loadPart'
def bu:=@List.mem_append_right
def bw:=@PySem.Heap.get?_update_self
def bx:=@List.mem_cons_of_mem
def bz:=@List.map_map
def cC:=@List.map_append
def cF:=@List.drop_eq_getElem_cons
def cG:=@PySem.wpAny_truthy_bool
def cH:=@PySem.wpAny_setState_of
def cK:=@List.lookup_cons
def cL:=@List.map_take
def cM:=@Int.zero_add
def cO:=@PySem.wpAny_call_entry
def cP:=@PySem.wpAny_Call_Name_kw
def cR:=@List.ext_getElem?
def cS:=@List.nodup_cons
def cT:=@beq_eq_false_iff_ne
def cU:=@List.replicate_succ
def cV:=@PySem.Around.under_plainId
def cX:=@Nat.lt_trans
def cZ:=@List.length_take
def cb:=@Ne.symm
def cc:=@Nat.ne_of_gt
def cg:=@List.getElem_mem
def cq:=@decide_eq_true_eq
def cu:=@List.nodup_append
def cv:=@Int.toNat_natCast
def cw:=@List.mem_iff_getElem?
def cx:=@PySem.Heap.SameBut.update
def cy:=@PySem.wpAny_holding
def cz:=@List.all_eq_true
def dA:=@PySem.codeAny_builtin
def dB:=@PySem.wpAny_newObj_type
def dC:=@List.getElem?_replicate
def dF:=@List.eq_nil_of_length_eq_zero
def dH:=@decide_eq_true_iff
def dI:=@PySem.W.cellsFrom_some
def dJ:=@List.pairwise_cons
def dM:=@List.map_inj_right
def dN:=@List.filter_append
def dO:=@Bool.false_ne_true
def dQ:=@PySem.wpAny_setField
def dR:=@List.range_succ
def dS:=@Int.emod_nonneg
def dY:=@Array.getElem_eq_getD
def de:=@List.length_cons
def df:=@Int.emod_lt_of_pos
def dh:=@PySem.Heap.get?_update_other
def dj:=@List.getElem?_eq_none_iff
def dk:=@Bool.or_eq_true
def dn:=@Nat.lt_trichotomy
def dq:=@List.mem_append_left
def dt:=@List.flatMap_cons
def dy:=@PySem.Obj.isFreed_of_fields
def eF:=@PySem.wpAny_passesOwn
def eG:=@List.findSome?_eq_none_iff
def eI:=@Nat.le_of_lt
def eJ:=@List.nodup_range
def eL:=@List.pairwise_iff_getElem
def eM:=@PyProof.Rows.F.plain_set_update_loop
def eO:=@List.filterMap_cons
def eU:=@PySem.intKind_is
def eV:=@Option.isSome_iff_exists
def eW:=@List.getElem?_take_of_lt
def eX:=@PySem.Heap.size_push
def et:=@List.flatten_cons
def fA:=@List.length_pos_of_mem
def fB:=@List.drop_eq_nil_of_le
def fC:=@List.append_assoc
def fE:=@Bool.not_eq_true'
def fF:=@PySem.tupleKind_room_in1
def fG:=@PySem.call_meets
def fH:=@PySem.wpAny_of_eq
def fI:=@PySem.wpAny_callSpecial?_slot
def fJ:=@PySem.MeetsSeq3.plain_eq_loop
def fN:=@decide_eq_decide
def fO:=@Nat.lt_succ_self
def fS:=@List.any_cons
def fU:=@PySem.wpAny_typeOf
def fV:=@congrArg
def fW:=@Nat.pow_le_pow_right
def fb:=@List.find?_cons
def fc:=@List.append_nil
def ff:=@beq_iff_eq
def fg:=@Nat.lt_of_le_of_lt
def fu:=@PySem.wpAny_standAt
def fy:=@PyProof.Rows.boot_list
def fz:=@List.take_of_length_le
def gI:=@PySem.plainId_quiet
def gK:=@Nat.one_le_two_pow
def gL:=@List.mem_cons_self
def gM:=@List.length_eraseIdx_of_lt
def gN:=@List.getD_eq_getElem?_getD
def gZ:=@Nat.le_succ
def gk:=@PySem.builtinLookup_eq_fast
def gn:=@List.map_congr_left
def gx:=@Nat.testBit_two_pow_sub_one
def gy:=@Nat.lt_or_ge
def gz:=@List.set_set
def hJ:=@List.length_range
def hX:=@PySem.codeAny_mono
def hZ:=@PyProof.Rows.boot_sorted
def iH:=@List.pairwise_lt_range
def iJ:=@List.filter_eq_nil_iff
def iT:=@PySem.wpAny_pyIter_list
def iZ:=@PySem.wpAny_comprehension_free
def ik:=@PySem.isSubtype_type
def ip:=@List.length_eq_zero_iff
def iq:=@List.getElem_inj
def ir:=@List.ext_getElem
def jN:=@PyProof.Rows.F.entry_set_update_loop
def jO:=@List.flatMap_append
def jP:=@List.filter_eq_self
def jQ:=@PySem.Calls.callWith_builtin
def ja:=@PySem.F.slot_dict_get
def jb:=@PyProof.Rows.boot_set
def jc:=@Nat.eq_of_beq_eq_true
def jd:=@List.take_append_drop
def je:=@List.length_singleton
def jf:=@List.length_replicate
def jg:=@Array.getElem?_toList
def jv:=@PySem.wpAny_isInstance
def jw:=@List.mem_of_mem_take
def kL:=@List.findIdx?_eq_some_iff_getElem
def kS:=@PySem.wpAny_field
def kT:=@PySem.sizeLine_eq
def kU:=@Option.isSome_map
def kW:=@List.pairwise_map
def kX:=@List.find?_append
def kY:=@List.any_map
def kZ:=@PySem.Calls.evalArgs_plain
def ke:=@PySem.wpAny_execs_nil
def kf:=@PySem.typeLookup_type
def kl:=@Nat.not_lt
def km:=@List.mem_filterMap
def kn:=@List.find?_eq_none
def lE:=@List.eraseIdx_eq_take_drop_succ
def lR:=@Nat.le_of_not_lt
def lS:=@List.mem_reverse
def lT:=@List.mem_flatMap
def lU:=@List.length_drop
def lg:=@Bool.eq_false_iff
def mE:=@PyProof.Rows.size_push'
def mF:=@PySem.Paired.length
def mU:=@PySem.typeIs_int
def mV:=@Nat.two_pow_pos
def mW:=@List.of_mem_zip
def mX:=@List.length_set
def mY:=@PySem.F.args_tuple_add_2
def ou:=@PySem.Value.isInt_shape
def ow:=@Option.ne_none_iff_exists'
def ox:=@PySem.Obj.cls_mapFields
def oy:=@PySem.F.entry_tuple_add
def pD:=@List.mem_or_eq_of_mem_set
def pE:=@Decidable.byContradiction
def pF:=@Array.getElem?_eq_getElem
def qm:=@PySem.wpAny_askSetting
def qo:=@List.length_erase_of_mem
def qp:=@PySem.F.slot_tuple_add
def qq:=@Bool.true_and
def qr:=@Bool.false_or
def sO:=@PySem.F.plainAttrs_list
def sP:=@PySem.F.args_dict_get_3
def sQ:=@PyProof.Rows.boot_tuple
def sR:=@List.pairwise_mergeSort
def uC:=@PySem.codeAny_of_tree
def uD:=@PySem.F.entry_dict_get
def uE:=@Nat.pow_succ
def uF:=@List.map_nil
def uG:=@Bool.not_not
def uH:=@Array.getElem?_eq_none
def xW:=@PyProof.Rows.boot_int
def xX:=@List.findSome?_append
def xY:=@Bool.and_eq_false_iff
namespace L2
open PySem PySem.Spec PyProof.Rows
variable{xs vs:List V}{us:List Value}{H H':Hp}{a b f C dx:Addr}{o:HO}{u:Value}{P:Program}{w:World}{h h' base:Heap}{x:Str}{e c tg:Expr}{X:Cx}{pins:List (Addr×Obj)}{Z:St}{s:Shared}{t' i k:Nat}{ch fp:List Addr}{N ps:List Str}{M:Model}{A:Around}{E Q:Value->Shared->Prop}{v:V}{t:TA}{pos pos' p:Pos}{ta tb te:TE}{K:PySem.W.Frag}{es:List Expr}{op:CmpOp}{body:List Stmt}{r:R2}{fd:FuncData}{CX:nS}{sp:Sp}
noncomputable abbrev Key:=Sum Int Str
def ug:Key->Value->Bool
 |.inl k,v=>Value.isInt k v
 |.inr x,v=>Value.isStrOf x v
def VZ(w:World):Key->Int
 |.inl k=>hashInt k
 |.inr x=>hashStr w x
theorem A8:∀{k:Key} {v:Value},ug k v=true->(∃i t,k=Sum.inl i/\v=Value.int i t)\/(∃x t,k=Sum.inr x/\v=Value.str x t)
 |.inl i,v,h=>by
  obtain⟨t,e⟩:=ou (k:=i) (v:=v) h;exact .inl ⟨i,t,rfl,e⟩
 |.inr x,v,h=>by
  obtain⟨t,e⟩:=Value.isStrOf_shape (x:=x) (v:=v) h;exact .inr ⟨x,t,rfl,e⟩
theorem a32(i:Int)(t:Tok):ug (.inl i) (.int i t)=true:=by simp[ug,Value.isInt]
theorem a31(x:Str)(t:Tok):ug (.inr x) (.str x t)=true:=by simp[ug,Value.isStrOf]
theorem Zs(a b:Int):decide ((Sum.inl a:Key)=Sum.inl b)=(a==b):=by
 by_cases e:a=b
 ·subst e;simp
 ·have h:¬(Sum.inl a:Key)=Sum.inl b:=λq=>e (Sum.inl.inj q);rw[av h];exact(cT.mpr e).symm
theorem Zv(a b:Str):decide ((Sum.inr a:Key)=Sum.inr b)=decide (a=b):=by
 by_cases e:a=b
 ·subst e;simp
 ·have h:¬(Sum.inr a:Key)=Sum.inr b:=λq=>e (Sum.inr.inj q);rw[av h,av e]
theorem Zt(a:Int)(b:Str):decide ((Sum.inl a:Key)=Sum.inr b)=false:=av (λq=>nomatch q)
theorem Zu(a:Str)(b:Int):decide ((Sum.inr a:Key)=Sum.inl b)=false:=av (λq=>nomatch q)
def u5(prog:Program)(w:World):PySem.KeyKind prog w Key where
 is:=ug
 hash:=VZ w
 inj:=λv a b ha hb=>by
  rcases A8 ha with⟨i,t,rfl,rfl⟩|⟨x,t,rfl,rfl⟩
  ·rcases A8 hb with⟨j,u,rfl,e⟩|⟨y,u,rfl,e⟩
   ·injection e with e1 _;rw[e1]
   ·exact nomatch e
  ·rcases A8 hb with⟨j,u,rfl,e⟩|⟨y,u,rfl,e⟩
   ·exact nomatch e
   ·injection e with e1 _;rw[e1]
 byValue:=λk v h=>by
  rcases A8 h with⟨i,t,rfl,rfl⟩|⟨x,t,rfl,rfl⟩<;>rfl
 pyHash:=λhv h=>by
  rcases A8 hv with⟨i,t,rfl,rfl⟩|⟨x,t,rfl,rfl⟩
  ·exact wpAny_pyHash_int h
  ·exact wpAny_pyHash_str h
 eqBool:=λhu hv h=>by
  rcases A8 hu with⟨i,t,rfl,rfl⟩|⟨x,t,rfl,rfl⟩
  ·rcases A8 hv with⟨j,u,rfl,rfl⟩|⟨y,u,rfl,rfl⟩
   ·rw[Zs] at h;exact wpAny_eqBool_int h
   ·rw[Zt] at h;exact SeqAt.EqAt.int_str i t y u _ _ _ _ h
  ·rcases A8 hv with⟨j,u,rfl,rfl⟩|⟨y,u,rfl,rfl⟩
   ·rw[Zu] at h;exact SeqAt.EqAt.str_int x t j u _ _ _ _ h
   ·rw[Zv] at h;exact wpAny_eqBool_str h
 «strs»:=λk x t v h=>by
  rcases A8 h with⟨i,u,rfl,e⟩|⟨y,u,rfl,e⟩
  ·exact nomatch e
  ·injection e with e1 _;subst e1;cases v<;>rfl
theorem aL2(prog:Program)(w:World)(i:Int)(t:Tok):(u5 prog w).is (.inl i) (.int i t)=true:=a32 i t
theorem aL1(prog:Program)(w:World)(x:Str)(t:Tok):(u5 prog w).is (.inr x) (.str x t)=true:=a31 x t
set_option genInjectivity true in
inductive V where
 |bN|bl (b:Bool)|int (i:Int)|str (x:Str)|lN (b:Array UInt8)|rP (b:UInt64)|ref (a:Addr)|ty (n:String)
 deriving DecidableEq
def RelV:V->Value->Prop
 |.bN,u=>u=Value.none
 |.bl b,u=>u=Value.bool b
 |.int i,u=>∃t,u=Value.int i t
 |.str x,u=>∃t,u=Value.str x t
 |.lN b,u=>∃t,u=Value.bytes b t
 |.rP b,u=>∃t,u=Value.float b t
 |.ref a,u=>u=Value.ref a
 |.ty n,u=>u=Value.type n
noncomputable abbrev Vals:List V->List Value->Prop:=Paired RelV
theorem Vals.length{xs:List V}{us:List Value}(r:Vals xs us):xs.length=us.length:=mF r
theorem Vals.get:∀{xs:List V} {us:List Value} {i:Nat} {x:V},Vals xs us->xs[i]?=some x->∃u,us[i]?=some u/\RelV x u
 |_,_,_,_,.nil,e=>by simp at e
 |_,_,0,_,.cons r _,e=>by simp at e;subst e;exact⟨_,rfl,r⟩
 |_,_,i+1,x,.cons _ t,e=>by
  obtain⟨u,h1,h2⟩:=Vals.get (i:=i) (x:=x) t (by simpa using e);exact⟨u,by simpa using h1,h2⟩
theorem Vals.set{x:V}{u:Value}(r:RelV x u):∀{xs:List V} {us:List Value} (i:Nat),Vals xs us->Vals (xs.set i x) (us.set i u)
 |_,_,_,.nil=>.nil
 |_,_,0,.cons _ t=>.cons r t
 |_,_,i+1,.cons q t=>.cons q (Vals.set r i t)
theorem Vals.append{ys:List V}{ws:List Value}(h:Vals xs us)(s:Vals ys ws):Vals (xs++ys) (us++ws):=by
 induction h with
 |nil=>exact s
 |cons r t ih=>exact .cons r ih
theorem Vals.take:∀{xs:List V} {us:List Value} (n:Nat),Vals xs us->Vals (xs.take n) (us.take n)
 |_,_,0,_=>.nil
 |_,_,_+1,.nil=>.nil
 |_,_,n+1,.cons r t=>.cons r (Vals.take n t)
theorem Vals.drop:∀{xs:List V} {us:List Value} (n:Nat),Vals xs us->Vals (xs.drop n) (us.drop n)
 |_,_,0,r=>r
 |_,_,_+1,.nil=>.nil
 |_,_,n+1,.cons _ t=>Vals.drop n t
def K1:Option V->Option Value->Prop
 |some v,some u=>RelV v u
 |none,none=>True
 |_,_=>False
def KV{κ:Type}:List (κ×V)->List (κ×Value)->Prop:=Paired λ(p:κ×V) (q:κ×Value)=>p.1=q.1/\RelV p.2 q.2
def kV:Key->V
 |.inl i=>.int i
 |.inr x=>.str x
inductive HO where
 |lst (xs:List V)
 |tup (xs:List V)
 |dK (kvs:List (Key×V))|dT (kvs:List (List Key×V))
 |set (S:Int->Bool) (n:Nat)
 |ins (C dx:Addr) (fs:List (Str×V))
 |own (x:Addr)
 |xd (fs:List (Str×V))
 |met (f x:Addr)
 |mJ (lo hi:Int)
 |jZ (o:Obj) (u:HO)
 |kh (ps:Array Value)
 |ext (φ:Heap->Prop)
noncomputable abbrev Hp:=Addr->Option HO
def upd(H:Hp)(a:Addr)(o:HO):Hp:=λb=>if b=a then some o else H b
theorem v7:upd H a o a=some o:=by unfold upd;rw[aJ rfl]
theorem f6(h:b≠a):upd H a o b=H b:=by unfold upd;rw[aF h]
theorem Ya{u:HO}(h:H a=some o)(h':H b=some u)(d:o≠u):a≠b:=by
 intro e;subst e;rw[h] at h';exact d (aO h')
theorem m9(h:H a=some o)(h':H b=none):a≠b:=by
 intro e;subst e;rw[h] at h';cases h'
def S0(h:Heap)(a:Addr)(items:Array Value):Prop:=∃o,h.get? a=some o/\o.cls=.type "tuple"/\(∃n,o.data=.seq items n)/\o.dict=none
theorem S0.tup{h:Heap}{a:Addr}{items:Array Value}(x:S0 h a items):IsTup h a items:=let ⟨o,e,c,d,_⟩:=x;⟨o,e,c,d⟩
theorem S0.new(h:Heap)(items:Array Value):S0 (h.push { cls:=.type "tuple",data:=.seq items }) h.objs.size items:=⟨_,aG _ rfl,rfl,⟨_,rfl⟩,rfl⟩
section
variable(P:Program)(w:World)
def n8(H:Hp)(h:Heap)(a:Addr):HO->Prop
 |.lst xs=>xs.length<=sizeLine/\∃(bf:List Value) (n:Nat),Vals xs bf/\h.get? a=some { cls:=.type "list",data:=.seq bf.toArray n }
 |.tup xs=>xs.length<=sizeLine/\∃bf:List Value,Vals xs bf/\S0 h a bf.toArray
 |.dK kvs=>kvs.length<=sizeLine/\(a==sysModules)=false/\∃vs,KV kvs vs/\h.DictOf (u5 P w) a vs
 |.dT kvs=>kvs.length<=sizeLine/\(a==sysModules)=false/\∃xs:List (List Key×Addr×Value),
   Paired (λ(p:List Key×V) (q:List Key×Addr×Value)=>p.1=q.1/\H q.2.1=some (.tup (p.1.map kV))/\RelV p.2 q.2.2) kvs xs /\
   ∃o es ep,h.get? a=some o/\o.ExactDict/\o.data=.dict es ep/\es.toList=xs.map (entryOfKey (tupleKind (u5 P w)))/\(xs.map (·.1)).Nodup
 |.set S n=>h.SetOf (intKind P w) a S n
 |.ins C dx fs=>H dx=some (.own a)/\fs.length<=1000/\dx≠a/\h.get? a=some (PySem.W.instObj C dx) /\
   ∃mA,h.Ns1 dx mA/\(∀f,K1 (fs.lookup f) (mA f))/\PySem.Within mA (fs.map (·.1))
 |.own _=>∃o,h.get? a=some o
 |.xd fs=>∃mA,h.Ns1 a mA/\∀f,K1 (fs.lookup f) (mA f)
 |.mJ lo hi=>∃t u v,h.get? a=some { cls:=.type "range",data:=.fields #[.int lo t,.int hi u,.int 1 v] }
 |.jZ o u=>h.get? a=some o/\n8 H h a u
 |.kh ps=>h.get? a=some { cls:=.none,data:=.fields ps }
 |.met f x=>h.get? a=some (PySem.W.methodObj (.ref f) (.ref x))
 |.ext φ=>φ h/\(∃o,h.get? a=some o)/\∀h1 h2:Heap,φ h1->(∀o,h1.get? a=some o->h2.get? a=some o)->φ h2
def gH(H:Hp)(h:Heap):Prop:=∀a o,H a=some o->n8 P w H h a o
end
theorem n8.lt(x:n8 P w H h a o):a<h.objs.size:=by
 cases o with
 |lst xs=>obtain⟨_,_,_,_,e⟩:=x;exact aE e
 |tup xs=>obtain⟨_,_,_,p⟩:=x;exact p.tup.lt
 |dK kvs=>obtain⟨_,_,_,_,o,_,_,e,_⟩:=x;exact aE e
 |dT kvs=>obtain⟨_,_,_,_,o,_,_,e,_⟩:=x;exact aE e
 |set S n=>obtain⟨o,_,_,_,e,_⟩:=x;exact aE e
 |ins C dx fs=>obtain⟨_,_,_,e,_⟩:=x;exact aE e
 |own y=>obtain⟨_,e⟩:=x;exact aE e
 |xd fs=>obtain⟨_,⟨_,_,_,e,_⟩,_⟩:=x;exact aE e
 |mJ lo hi=>obtain⟨_,_,_,e⟩:=x;exact aE e
 |jZ ob u=>obtain⟨e,_⟩:=x;exact aE e
 |kh ps=>exact aE (show h.get? a=some _ from x)
 |met f y=>exact aE (show h.get? a=some _ from x)
 |ext φ=>obtain⟨_,⟨_,e⟩,_⟩:=x;exact aE e
theorem Paired.Jj{α β:Type}{F G:α->β->Prop}{vh:List α}{vg:List β}(h:Paired F vh vg)(f:∀a b,F a b->G a b):Paired G vh vg:=by
 induction h with
 |nil=>exact .nil
 |cons r t ih=>exact .cons (f _ _ r) ih
theorem n8.Y2(x:n8 P w H h a o)(k:∀b u,(b=a\/H b=some (.own a))->h.get? b=some u->h'.get? b=some u)(ho:∀b,H b=some (.own a)->H' b=some (.own a))(ht:∀b xs,H b=some (.tup xs)->H' b=some (.tup xs)):n8 P w H' h' a o:=by
 induction o with
 |lst xs=>obtain⟨z,bf,n,r,e⟩:=x;exact⟨z,bf,n,r,k _ _ (.inl rfl) e⟩
 |tup xs=>obtain⟨z,bf,r,ob,e,c⟩:=x;exact⟨z,bf,r,ob,k _ _ (.inl rfl) e,c⟩
 |dK kvs=>obtain⟨z,y,vs,r,ob,es,ep,e,c⟩:=x;exact⟨z,y,vs,r,ob,es,ep,k _ _ (.inl rfl) e,c⟩
 |dT kvs =>
  obtain⟨z,y,xs,r,ob,es,ep,e,c⟩:=x;exact⟨z,y,xs,Paired.Jj r λp q z=>⟨z.1,ht _ _ z.2.1,z.2.2⟩,ob,es,ep,k _ _ (.inl rfl) e,c⟩
 |set S n=>obtain⟨ob,es,ep,t,e,c⟩:=x;exact⟨ob,es,ep,t,k _ _ (.inl rfl) e,c⟩
 |ins C dx fs =>
  obtain⟨d,z,ne,e,mA,⟨od,es,ep,e2,c⟩,r⟩:=x;exact⟨ho _ d,z,ne,k _ _ (.inl rfl) e,mA,⟨od,es,ep,k _ _ (.inr d) e2,c⟩,r⟩
 |own y=>obtain⟨ob,e⟩:=x;exact⟨ob,k _ _ (.inl rfl) e⟩
 |xd fs=>obtain⟨mA,⟨od,es,ep,e,c⟩,r⟩:=x;exact⟨mA,⟨od,es,ep,k _ _ (.inl rfl) e,c⟩,r⟩
 |mJ lo hi=>obtain⟨t,u,v,e⟩:=x;exact⟨t,u,v,k _ _ (.inl rfl) e⟩
 |jZ ob u ih=>obtain⟨e,q⟩:=x;exact⟨k _ _ (.inl rfl) e,ih q⟩
 |kh ps =>
  have e:h.get? a=some { cls:=.none,data:=.fields ps }:=x;show h'.get? a=some { cls:=.none,data:=.fields ps };exact k a _ (.inl rfl) e
 |met f y =>
  have e:h.get? a=some (PySem.W.methodObj (.ref f) (.ref y)):=x;show h'.get? a=some (PySem.W.methodObj (.ref f) (.ref y));exact k a _ (.inl rfl) e
 |ext φ=>obtain⟨p,⟨o,e⟩,st⟩:=x;exact⟨st _ _ p λo q=>k _ _ (.inl rfl) q,⟨o,k _ _ (.inl rfl) e⟩,st⟩
theorem gH.lt(x:gH P w H h)(e:H a=some o):a<h.objs.size:=(x a o e).lt
theorem gH.fresh(x:gH P w H h)(e:h.objs.size<=a):H a=none:=by
 cases q:H a with
 |none=>rfl
 |some u=>exact absurd (aA (x.lt q) e) (bA _)
theorem gH.kept(x:gH P w H h)(k:∀b u,h.get? b=some u->h'.get? b=some u):gH P w H h':=λa o e =>
 (x a o e).Y2 (λb u _ q=>k b u q) (λ_ q=>q) λ_ _ q=>q
theorem gH.laid(x:gH P w H h)(k:∀b u,h.get? b=some u->h'.get? b=some u)(hp:h.objs.size<=a)(new:n8 P w (upd H a o) h' a o):gH P w (upd H a o) h':=λb u e=>by
 have hn:=x.fresh hp;by_cases hb:b=a
 ·subst hb;rw[v7] at e;cases e;exact new
 ·rw[f6 hb] at e;exact(x b u e).Y2 (λc v _ q=>k c v q) (λc q=>by rw[f6 (m9 q hn)];exact q) λc xs q=>by rw[f6 (m9 q hn)];exact q
def Rd(H:Hp)(a:Addr)(u:HO):Prop:=H a=some u\/∃o,H a=some (.jZ o u)
theorem Rd.ok{u:HO}(r:Rd H a u)(x:gH P w H h):n8 P w H h a u:=by
 rcases r with r|⟨o,r⟩
 ·exact x a u r
 ·obtain⟨_,q⟩:=x a _ r;exact q
def xP:Option HO->Prop
 |some (.lst _)=>True
 |some (.dK _)=>True
 |some (.dT _)=>True
 |some (.set _ _)=>True
 |some (.ins _ _ _)=>True
 |some (.ext _)=>True
 |_=>False
section
variable{x e:Addr}{o':HO}
theorem gH.write(ok:gH P w H h)(mu:xP (H x))(he:e=x\/H e=some (.own x))(k:∀b u,b≠e->h.get? b=some u->h'.get? b=some u)(pT:∃u,h'.get? e=some u)(new:n8 P w (upd H x o') h' x o'):gH P w (upd H x o') h':=λb u q=>by
 have uZ:∀c y,H c=some (.own y)->c≠x:=λc y r z=>by subst z;rw[r] at mu;exact mu
 have AJ:∀c xs,H c=some (.tup xs)->c≠x:=λc xs r z=>by subst z;rw[r] at mu;exact mu
 by_cases hb:b=x
 ·subst hb;rw[v7] at q;cases q;exact new
 ·rw[f6 hb] at q;by_cases rj:b=e
  ·have q':H b=some (.own x):=by
    rcases he with z|z
    ·exact absurd (rj.trans z) hb
    ·rw[rj];exact z
   rw[q] at q';cases q';obtain⟨v,hv⟩:=pT;exact⟨v,by rw[rj];exact hv⟩
  ·refine(ok b u q).Y2 (λc v hc r=>k c v ?_ r) (λc r=>by rw[f6 (uZ c b r)];exact r) λc xs r=>by rw[f6 (AJ c xs r)];exact r
   rcases hc with rfl|hc
   ·exact rj
   ·rintro rfl;rcases he with z|z
    ·exact uZ c b hc z
    ·rw[hc] at z;cases z;exact hb rfl
end
structure Un(fs ex:List Addr)(H H':Hp)(h h':Heap):Prop where
 keep:∀b o,h.get? b=some o->H b=none->b∉fs->b∉ex->h'.get? b=some o
 slot:∀b o,h.get? b=some o->H b=none->b∈fs->b∉ex->∃sl,h'.get? b=some { o with slots:=sl }
 free:∀b o,h.get? b=some o->H b=none->b∉ex->H' b=none
 there:∀b o,h.get? b=some o->b∉ex->∃o',h'.get? b=some o'
 iL:∀b xs,H b=some (.tup xs)->H' b=some (.tup xs)
 iB:∀b o u,H b=some (.jZ o u)->H' b=some (.jZ o u)
 iM:∀b ps,H b=some (.kh ps)->∃more,H' b=some (.kh (ps++more))
section
variable{fs ex:List Addr}{H1:Hp}{h1:Heap}{x e:Addr}
theorem Un.any(u:Un fs ex H H1 h h1){ob:Obj}(q:h.get? b=some ob)(n:H b=none)(hx:b∉ex):∃sl,h1.get? b=some { ob with slots:=sl }:=by
 by_cases hb:b∈fs
 ·exact u.slot b ob q n hb hx
 ·exact⟨ob.slots,u.keep b ob q n hb hx⟩
theorem Un.kept(k:∀b u,h.get? b=some u->h'.get? b=some u):Un fs ex H H h h' :=
 ⟨λb ob q _ _ _=>k b ob q,λb ob q _ _ _=>⟨ob.slots,k b ob q⟩,λ_ _ _ n _=>n,λb ob q _=>⟨ob,k b ob q⟩,λ_ _ q=>q,λ_ _ _ q=>q,λ_ ps q=>⟨#[],by rw[q];simp⟩⟩
theorem Un.refl:Un fs ex H H h h:=Un.kept λ_ _ q=>q
theorem Un.laid(k:∀b u,h.get? b=some u->h'.get? b=some u)(hp:h.objs.size<=a)(hn:H a=none):Un fs ex H (upd H a o) h h' where
 keep:=λb u q _ _ _=>k b u q
 slot:=λb u q _ _ _=>⟨u.slots,k b u q⟩
 free:=λb u q n _=>by rw[f6 (aP (aA (aE q) hp))];exact n
 there:=λb u q _=>⟨u,k b u q⟩
 iL:=λb xs q=>by rw[f6 (m9 q hn)];exact q
 iB:=λb u xs q=>by rw[f6 (m9 q hn)];exact q
 iM:=λb ps q=>⟨#[],by rw[f6 (m9 q hn),q];simp⟩
theorem Un.write(mu:xP (H x))(he:e=x\/H e=some (.own x))(k:∀b u,b≠e->h.get? b=some u->h'.get? b=some u)(pT:∃u,h'.get? e=some u):Un fs ex H (upd H x o) h h':=by
 have hx:∀b,H b=none->b≠x:=λb n z=>by subst z;rw[n] at mu;exact mu
 have hb:∀b,H b=none->b≠e:=λb n z=>by
  subst z;rcases he with r|r
  ·exact hx b n r
  ·rw[n] at r;cases r
 have hm:∀b u,H b=some u->¬xP (some u)->b≠x:=λb u q nm z=>by subst z;rw[q] at mu;exact nm mu
 refine ⟨λb u q n _ _=>k b u (hb b n) q,λb u q n _ _=>⟨u.slots,k b u (hb b n) q⟩,λb u q n _=>by rw [f6 (hx b n)];exact n,λb u q _=>?_,
  λb xs q=>by rw [f6 (hm b _ q λz=>z)];exact q,λb u xs q=>by rw [f6 (hm b _ q λz=>z)];exact q,λb ps q=>⟨#[],by rw [f6 (hm b _ q λz=>z),q];simp⟩⟩
 by_cases rj:b=e
 ·subst rj;exact pT
 ·exact⟨u,k b u rj q⟩
end
def oz(h:Heap)(H:Hp):List Addr:=(List.range h.objs.size).filter λa=>(H a).isSome
def pb(h:Heap)(H:Hp):Heap:=PySem.W.hideAll h (oz h H)
theorem a38(h:Heap)(H:Hp):(pb h H).objs.size=h.objs.size:=PySem.W.hideAll_size _ _
theorem UW{o:Obj}(e:h.get? b=some o)(n:H b=none):(pb h H).get? b=some o :=
 FO _ e λhm=>by
  have q:(H b).isSome=true:=(bo.mp hm).2;rw[n] at q;simp at q
theorem To{o:Obj}(e:(pb h H).get? b=some o):h.get? b=some o/\H b=none:=by
 have e':h.get? b=some o:=MW (oz h H) e;refine⟨e',?_⟩;cases q:H b with
 |none=>rfl
 |some x =>
  have hm:b∈oz h H:=bo.mpr ⟨aN.mpr (aE e'),by simp[q]⟩;have z:(pb h H).get? b=none:=PySem.W.hideAll_none (oz h H) hm;rw[z] at e;cases e
structure Mod(K:PySem.W.Frag)(mg:Str->Option Value)(base:Heap):Prop where
 nW:K.In base
 glob:base.Ns mainGlobals mg
 blt:∃mb,base.Ns builtinsNs mb/\∀x:Str,x≠"__name__"->mb x=bootBuiltins x
 nolimit:base.NoLimit
structure Cx where
 prog:Program
 w:World
 K:PySem.W.Frag
 mg:Str->Option Value
 base:Heap
 A:Around
 N:List Str
 dz:Shared
 jC:Hp
 env:Env
 outer:List Env
 stack:List Env
 ex:List Addr
 fn:Str->Bool
 calm:Bool
 pn:List (Addr×Obj)
 xe:Value->Shared->Prop
def gh(l:List Env):List Addr:=l.filterMap (·.frame)
noncomputable abbrev Cx.fs(X:Cx):List Addr:=gh X.outer
def xJ(sc:Scope)(x:Str):Prop:=sc.names.lookup x=some .local\/sc.names.lookup x=some .cell\/sc.names.lookup x=some .free
def Loc(sc:Scope)(x:Str):Prop:=sc.names.lookup x=some .local\/sc.names.lookup x=some .cell
def Look(env:Env)(h:Heap)(m:Str->Option Value)(x:Str)(u:Value):Prop :=
 (env.kindOf x=some .local/\m x=some u)\/((env.kindOf x=some .cell\/env.kindOf x=some .free)/\∃c,env.cells.lookup x=some c/\h.IsCell c (some u))
structure Cx.Ok(X:Cx):Prop where
 mod:Mod X.K X.mg X.base
 kind:X.env.scope.kind=.function
 glob:X.env.globals=mainGlobals
 blt:X.env.builtins=builtinsNs
 above:X.dz.heap.objs.size<=X.env.locals
 inj:∀x y c,X.env.cells.lookup x=some c->X.env.cells.lookup y=some c->x=y
 has:∀x,(X.env.kindOf x=some .cell\/X.env.kindOf x=some .free)->∃c,X.env.cells.lookup x=some c
 qd:∀x c,X.fn x=true->X.env.cells.lookup x=some c->X.dz.heap.objs.size<=c
 hd:X.calm=true->X.A.handled=none
 frames:X.A.frames=some X.stack
 qx:X.stack=X.outer\/(X.stack=X.env::X.outer/\X.env.frame=some X.env.locals)
 wF:∀b∈X.ex,b≠X.env.locals/\∀x c,X.env.cells.lookup x=some c->c≠b
 bs:∀b o,X.base.get? b=some o->X.dz.heap.get? b=some o/\X.jC b=none
 nP:X.base.objs.size<=X.dz.heap.objs.size
 kA:∀b o,X.base.get? b=some o->b∉X.ex
 lD:∀b∈X.ex,b∉X.fs
 M3:X.dz.heap.FunFrames X.base X.outer
 oi:∀b∈X.fs,X.jC b=none
structure Inv(X:Cx)(pins:List (Addr×Obj))(Z:List (Option V))(H:Hp)(s:Shared):Prop where
 ok:X.Ok
 os:s.os=X.dz.os
 bare:AllBare s.gens
 base:Un X.fs X.ex X.jC H X.dz.heap s.heap
 loc:∃m,s.heap.Ns X.env.locals m/\∀(i:Nat) (x:Str) (v:V),X.N[i]?=some x->Z[i]?=some (some v)->xJ X.env.scope x->∃u,RelV v u/\Look X.env s.heap m x u
 cell:∀x c,X.env.cells.lookup x=some c->∃v,s.heap.IsCell c v
 free:H X.env.locals=none
 eQ:∀x c,X.env.cells.lookup x=some c->H c=none
 pin:∀p∈X.pn++pins,s.heap.get? p.1=some p.2/\H p.1=none/\p.1≠X.env.locals/\p.1∉X.fs/\∀v,p.2.data≠.cell v
 bR:gH X.prog X.w H s.heap
 len:Z.length=X.N.length
section
variable{Z:List (Option V)}
theorem Cx.Ok.Wj(ok:X.Ok){o:Obj}(e:X.base.get? b=some o):b∉X.fs:=λhb=>by
 have:=(ok.M3.mem hb).1;rw[e] at this;cases this
theorem Inv.bs(I:Inv X pins Z H s):∀b o,X.base.get? b=some o->s.heap.get? b=some o/\H b=none:=λb o e =>
 ⟨I.base.keep b o (I.ok.bs b o e).1 (I.ok.bs b o e).2 (I.ok.Wj e) (I.ok.kA b o e),I.base.free b o (I.ok.bs b o e).1 (I.ok.bs b o e).2 (I.ok.kA b o e)⟩
theorem Inv.bk(I:Inv X pins Z H s):∀b o,X.base.get? b=some o->s.heap.get? b=some o:=λb o e=>(I.bs b o e).1
theorem Inv.mod(I:Inv X pins Z H s):Mod X.K X.mg X.base:=I.ok.mod
theorem Inv.hU(I:Inv X pins Z H s):X.K.In s.heap:=I.ok.mod.nW.keeps I.bk
theorem Inv.lt(I:Inv X pins Z H s):X.env.locals<s.heap.objs.size:=let ⟨_,hn,_⟩:=I.loc;hn.lt
theorem Inv.sz(I:Inv X pins Z H s):X.dz.heap.objs.size<=s.heap.objs.size:=aB I.ok.above (eI I.lt)
theorem Inv.xF(I:Inv X pins Z H s)(h:s.heap.objs.size<=a):a∉X.fs:=λhb=>by
 obtain⟨_,o,ho,_⟩:=I.ok.M3.mem hb;exact absurd (aA (aE ho) (aB I.sz h)) (bA _)
theorem Inv.rW(I:Inv X pins Z H s):∀x c,X.env.cells.lookup x=some c->c≠X.env.locals:=λx c e z=>by
 obtain⟨v,o,ho,hd⟩:=I.cell x c e;obtain⟨m,⟨o',es,ep,kH,BC,_⟩,_⟩:=I.loc;rw[z,kH] at ho;cases ho;rw[BC] at hd;cases hd
theorem Inv.M3(I:Inv X pins Z H s):s.heap.FunFrames X.base X.outer:=by
 have all:∀(l:List Env),(∀b∈gh l,b∈X.fs)->X.dz.heap.FunFrames X.base l->s.heap.FunFrames X.base l:=by
  intro l
  induction l with
  |nil=>intro _ _;trivial
  |cons env r ih =>
   intro hs hl;obtain⟨hk,⟨L,o,hf,hn,ho,hd⟩,hr⟩:=hl;have hL:L∈X.fs:=hs L (by unfold gh;rw[eO,hf];exact gL);obtain⟨sl,e⟩:=I.base.slot L o ho (I.ok.oi L hL) hL λz=>I.ok.lD L z hL;exact⟨hk,⟨L,_,hf,hn,e,hd⟩,ih (λb hb=>hs b (by unfold gh;rw[eO,hf];exact bx _ hb)) hr⟩
 exact all X.outer (λ_ hb=>hb) I.ok.M3
theorem Inv.stack(I:Inv X pins Z H s):s.heap.FunFrames X.base X.stack:=by
 rcases I.ok.qx with e|⟨e,hf⟩
 ·rw[e];exact I.M3
 ·rw[e];obtain⟨m,hn,_⟩:=I.loc;refine .cons (by rw[I.ok.kind];decide) hf hn ?_ I.M3;exact Heap.get?_none_of_le (aB I.ok.nP I.ok.above)
theorem Inv.N6(I:Inv X pins Z H s):∀b∈gh X.stack,b∈X.env.locals::X.fs:=λb hb=>by
 rcases I.ok.qx with e|⟨e,hf⟩
 ·rw[e] at hb;exact bx _ hb
 ·rw[e] at hb;unfold gh at hb;rw[eO,hf] at hb;exact hb
theorem Inv.zl(I:Inv X pins Z H s):∀b∈gh X.stack,H b=none:=λb hb=>by
 rcases aH.mp (I.N6 b hb) with e|hb
 ·rw[e];exact I.free
 ·obtain⟨_,o,ho,_⟩:=I.ok.M3.mem hb;exact I.base.free b o ho (I.ok.oi b hb) λz=>I.ok.lD b z hb
theorem Inv.step{g':Array GenState}{t':Nat}{d':Drawn}{ch:List Addr}(I:Inv X pins Z H s)(lJ:∀b∈ch,(b∈X.ex\/X.dz.heap.objs.size<=b)/\b≠X.env.locals/\(∀x c,X.env.cells.lookup x=some c->c≠b)/\∀p∈X.pn++pins,p.1≠b)(keep:∀b o,b≠X.env.locals->b∉X.fs->b∉ch->s.heap.get? b=some o->H b=none->h'.get? b=some o)(slot:∀b o,b≠X.env.locals->b∈X.fs->b∉ch->s.heap.get? b=some o->H b=none->∃sl,h'.get? b=some { o with slots:=sl })(free:∀b o,b∉ch->s.heap.get? b=some o->H b=none->H' b=none)(there:∀b o,b∉ch->s.heap.get? b=some o->∃o',h'.get? b=some o')(iL:∀b xs,H b=some (.tup xs)->H' b=some (.tup xs))(iB:∀b o u,H b=some (.jZ o u)->H' b=some (.jZ o u))(iM:∀b ps,H b=some (.kh ps)->∃more,H' b=some (.kh (ps++more)))(ns:∀m,s.heap.Ns X.env.locals m->h'.Ns X.env.locals m)(bR:gH X.prog X.w H' h')(hg:AllBare g') :
  Inv X pins Z H' { s with heap:=h',gens:=g',drawn:=d',toks:=t' }:=by
 have Gz:∀b o,X.dz.heap.get? b=some o->b≠X.env.locals:=λb o e=>aP (aA (aE e) I.ok.above);have pM:∀b o,X.dz.heap.get? b=some o->b∉X.ex->b∉ch:=λb o e hx hb=>by
  rcases(lJ b hb).1 with z|z
  ·exact hx z
  ·exact absurd (aA (aE e) z) (bA _)
 have cellK:∀x c,X.env.cells.lookup x=some c->∀v,s.heap.IsCell c v->h'.IsCell c v:=λx c e v bq=>by
  obtain⟨o,ho,hd⟩:=bq;have vd:c∉ch:=λz=>(lJ c z).2.2.1 x c e rfl;by_cases hc:c∈X.fs
  ·obtain⟨sl,q⟩:=slot c o (I.rW x c e) hc vd ho (I.eQ x c e);exact⟨_,q,hd⟩
  ·exact⟨o,keep c o (I.rW x c e) hc vd ho (I.eQ x c e),hd⟩
 refine⟨I.ok,I.os,hg,⟨λb o e n hb hx=>?_,λb o e n hb hx=>?_,λb o e n hx=>?_,λb o e hx=>?_,λb xs e=>iL b xs (I.base.iL b xs e),λb o xs e=>iB b o xs (I.base.iB b o xs e),λb ps e=>?_⟩,?_,λx c e=>?_,?_,λx c e=>?_,λp hp=>?_,bR,I.len⟩
 ·exact keep b o (Gz b o e) hb (pM b o e hx) (I.base.keep b o e n hb hx) (I.base.free b o e n hx)
 ·obtain⟨sl,e1⟩:=I.base.slot b o e n hb hx;obtain⟨NB,e2⟩:=slot b _ (Gz b o e) hb (pM b o e hx) e1 (I.base.free b o e n hx);exact⟨NB,e2⟩
 ·obtain⟨o',e1⟩:=I.base.there b o e hx;exact free b o' (pM b o e hx) e1 (I.base.free b o e n hx)
 ·obtain⟨o',e1⟩:=I.base.there b o e hx;exact there b o' (pM b o e hx) e1
 ·obtain⟨m1,e1⟩:=I.base.iM b ps e;obtain⟨m2,e2⟩:=iM b _ e1;exact⟨m1++m2,by rw[e2,Nc]⟩
 ·obtain⟨m,hn,hl⟩:=I.loc;refine⟨m,ns m hn,λi x v e1 e2 e3=>?_⟩;obtain⟨u,r,l⟩:=hl i x v e1 e2 e3;refine⟨u,r,?_⟩;rcases l with l|⟨k,c,e,z⟩
  ·exact .inl l
  ·exact .inr ⟨k,c,e,cellK x c e _ z⟩
 ·obtain⟨v,z⟩:=I.cell x c e;exact⟨v,cellK x c e v z⟩
 ·obtain⟨m,⟨o,_,_,ho,_⟩,_⟩:=I.loc;exact free _ o (λz=>(lJ _ z).2.1 rfl) ho I.free
 ·obtain⟨v,o,ho,hd⟩:=I.cell x c e;exact free c o (λz=>(lJ c z).2.2.1 x c e rfl) ho (I.eQ x c e)
 ·obtain⟨e,n,ne,nf,d⟩:=I.pin p hp;have vd:p.1∉ch:=λz=>(lJ p.1 z).2.2.2 p hp rfl;exact⟨keep p.1 p.2 ne nf vd e n,free p.1 p.2 vd e n,ne,nf,d⟩
theorem Inv.un{t':Nat}(I:Inv X pins Z H s)(u:Un X.fs [] H H' s.heap h')(bR:gH X.prog X.w H' h'):Inv X pins Z H' { s with heap:=h',toks:=t' }:=by
 obtain⟨m,⟨o,es,ep,ho,r⟩,_⟩:=id I.loc;obtain⟨sl,hL⟩:=u.any ho I.free (by simp);exact I.step (g':=s.gens) (d':=s.drawn) (ch:=[]) (λ_ z=>nomatch z) (λb o _ hb _ e n=>u.keep b o e n hb (by simp)) (λb o _ hb _ e n=>u.slot b o e n hb (by simp)) (λb o _ e n=>u.free b o e n (by simp)) (λb o _ e=>u.there b o e (by simp)) u.iL u.iB u.iM (λm' hm=>by
  obtain⟨o',Cy,Cz,kH,r'⟩:=hm;rw[ho] at kH;cases kH;exact ⟨_,Cy,Cz,hL,r'⟩) bR I.bare
theorem Inv.call{g':Array GenState}{t':Nat}{d':Drawn}(I:Inv X pins Z H s)(u:Un (gh X.stack) ch H H' s.heap h')(bR:gH X.prog X.w H' h')(hg:AllBare g')(lJ:∀b∈ch,(b∈X.ex\/X.dz.heap.objs.size<=b)/\b≠X.env.locals/\(∀x c,X.env.cells.lookup x=some c->c≠b)/\∀p∈X.pn++pins,p.1≠b) :
  Inv X pins Z H' { s with heap:=h',gens:=g',drawn:=d',toks:=t' }:=by
 obtain⟨m,⟨o,es,ep,ho,r⟩,_⟩:=id I.loc;obtain⟨sl,hL⟩:=u.any ho I.free λz=>(lJ _ z).2.1 rfl;exact I.step (ch:=ch) lJ (λb o hL hb hc e n=>u.keep b o e n (λz=>(aH.mp (I.N6 b z)).elim hL hb) hc) (λb o _ _ hc e n=>u.any e n hc) (λb o hc e n=>u.free b o e n hc) (λb o hc e=>u.there b o e hc) u.iL u.iB u.iM (λm' hm=>by
  obtain⟨o',Cy,Cz,kH,r'⟩:=hm;rw[ho] at kH;cases kH;exact ⟨_,Cy,Cz,hL,r'⟩) bR hg
theorem Inv.turned{t':Nat}{it:Addr}(I:Inv X pins Z H s)(k:∀b o,b≠it->s.heap.get? b=some o->h'.get? b=some o)(hn:H it=none)(hL:it≠X.env.locals)(h1:it∈X.ex\/X.dz.heap.objs.size<=it)(h2:∀x c,X.env.cells.lookup x=some c->c≠it)(h3:∀p∈X.pn++pins,p.1≠it):Inv X pins Z H { s with heap:=h',toks:=t' }:=by
 have Gy:∀b u,H b=some u->b≠it:=λb u e z=>by rw[z,hn] at e;cases e
 refine I.step (g':=s.gens) (d':=s.drawn) (ch:=[it]) (λb hb=>?_) (λb o _ _ hc e _=>k b o (λz=>hc (by simp[z])) e) (λb o _ _ hc e _=>⟨o.slots,k b o (λz=>hc (by simp[z])) e⟩) (λ_ _ _ _ n=>n)
  (λb o hc e=>⟨o,k b o (λz=>hc (by simp[z])) e⟩) (λ_ _ e=>e) (λ_ _ _ e=>e) (λb ps e=>⟨#[],by rw[e];simp⟩) (λm hm=>?_) (λb u e=>?_) I.bare
 ·have e:b=it:=by simpa using hb
  subst e;exact⟨h1,hL,h2,h3⟩
 ·obtain⟨o,es,ep,ho,r⟩:=hm;exact⟨o,es,ep,k _ o (cb hL) ho,r⟩
 ·refine(I.bR b u e).Y2 (λc v hc q=>k c v ?_ q) (λ_ q=>q) λ_ _ q=>q;rcases hc with z|z
  ·rw[z];exact Gy b u e
  ·exact Gy c _ z
theorem Inv.tok(I:Inv X pins Z H s)(t:Nat):Inv X pins Z H { s with toks:=t }:=I.un (h':=s.heap) (t':=t) Un.refl I.bR
theorem Inv.kept{t':Nat}(I:Inv X pins Z H s)(k:∀b u,s.heap.get? b=some u->h'.get? b=some u):Inv X pins Z H { s with heap:=h',toks:=t' }:=I.un (Un.kept k) (I.bR.kept k)
theorem Inv.laid{a:Addr}{o:HO}{t':Nat}(I:Inv X pins Z H s)(k:∀b u,s.heap.get? b=some u->h'.get? b=some u)(hp:s.heap.objs.size<=a)(new:n8 X.prog X.w (upd H a o) h' a o) :
  Inv X pins Z (upd H a o) { s with heap:=h',toks:=t' }:=I.un (Un.laid k hp (I.bR.fresh hp)) (I.bR.laid k hp new)
theorem Inv.write{x e:Addr}{o:HO}{t':Nat}(I:Inv X pins Z H s)(mu:xP (H x))(he:e=x\/H e=some (.own x))(k:∀b u,b≠e->s.heap.get? b=some u->h'.get? b=some u)(pT:∃u,h'.get? e=some u)(new:n8 X.prog X.w (upd H x o) h' x o):Inv X pins Z (upd H x o) { s with heap:=h',toks:=t' }:=I.un (Un.write mu he k pT) (I.bR.write mu he k pT new)
theorem Inv.weak{bY:List (Option V)}(I:Inv X pins Z H s)(hl:bY.length=Z.length)(w:∀(i:Nat) v,bY[i]?=some (some v)->Z[i]?=some (some v)):Inv X pins bY H s :=
 ⟨I.ok,I.os,I.bare,I.base,let ⟨m,hn,jL⟩:=I.loc;⟨m,hn,λi x v e1 e2 e3=>jL i x v e1 (w i v e2) e3⟩,I.cell,I.free,I.eQ,I.pin,I.bR,hl.trans I.len⟩
theorem Inv.M7{jj:List (Addr×Obj)}(I:Inv X pins Z H s)(h:∀p∈jj,s.heap.get? p.1=some p.2/\H p.1=none/\p.1≠X.env.locals/\p.1∉X.fs/\∀v,p.2.data≠.cell v):Inv X jj Z H s :=
 ⟨I.ok,I.os,I.bare,I.base,I.loc,I.cell,I.free,I.eQ,λp hp=>(aZ.mp hp).elim (λz=>I.pin p (dq _ z)) (h p),I.bR,I.len⟩
theorem LZ(hN:N.Nodup){j:Nat}(a:N[i]?=some x)(b:N[j]?=some x):i=j:=by
 obtain⟨h1,e1⟩:=aj.mp a;obtain⟨h2,e2⟩:=aj.mp b;exact(iq hN).mp (e1.trans e2.symm)
theorem Jz{Q:Unit->Shared->Prop}(I:Inv X pins Z H s)(hN:X.N.Nodup)(hi:X.N[i]?=some x)(hx:Loc X.env.scope x)(r:RelV v u)(h:∀s',Inv X pins (Z.set i (some v)) H s'->(∃a,Heap.SameBut a s.heap s'.heap/\(a=X.env.locals\/X.env.cells.lookup x=some a))->Q Unit.unit s')(hf:X.fn x=true\/X.env.scope.names.lookup x=some .local:=by first|exact .inl rfl|exact .inr rfl|assumption):wpAny M A (storeName X.env x u) Q E s:=by
 obtain⟨m,hn,hl⟩:=id I.loc;have oQ:(X.env.scope.kind==.class||(X.env.scope.kind==.module&&X.env.locals != X.env.globals))=false:=by rw[I.ok.kind];rfl
 have vL:i<Z.length:=by rw[I.len];exact(aj.mp hi).1
 have rW:=I.rW;have tracked:∀{a:Addr} {h':Heap},(∃o,s.heap.get? a=some o/\H a=none)->Heap.SameBut a s.heap h'->gH X.prog X.w H h':=λ{a h'} ha hs b ob e=>by
  obtain⟨_,_,nC⟩:=ha;refine(I.bR b ob e).Y2 (λc w' hc q=>(hs.2 c ?_).trans q) (λ_ q=>q) λ_ _ q=>q;rintro rfl;rcases hc with rfl|hc
  ·rw[nC] at e;cases e
  ·rw[nC] at hc;cases hc
 rcases hx with hk|hk
 ·refine wpAny_storeName_local hk hn (λh' vF hs=>?_) oQ;obtain⟨oL,_,_,oK,_⟩:=id hn;refine h _ ⟨I.ok,I.os,I.bare,⟨λb o e n hb hx=>?_,λb o e n hb hx=>?_,I.base.free,λb o e hx=>?_,I.base.iL,I.base.iB,I.base.iM⟩,⟨_,vF,λj y v' e1 e2 e3=>?_⟩,λy c e=>?_,I.free,I.eQ,λp hp=>?_,tracked ⟨oL,oK,I.free⟩ hs,by simpa using I.len⟩ ⟨_,hs,.inl rfl⟩
  ·exact(hs.2 b (aP (aA (aE e) I.ok.above))).trans (I.base.keep b o e n hb hx)
  ·obtain⟨sl,e1⟩:=I.base.slot b o e n hb hx;exact⟨sl,(hs.2 b (aP (aA (aE e) I.ok.above))).trans e1⟩
  ·obtain⟨o',e1⟩:=I.base.there b o e hx;exact⟨o',(hs.2 b (aP (aA (aE e) I.ok.above))).trans e1⟩
  ·by_cases hj:j=i
   ·subst hj;rw[hi] at e1;cases e1;rw[ba vL] at e2;cases e2;exact⟨u,r,.inl ⟨hk,by simp⟩⟩
   ·rw[az (cb hj)] at e2;obtain⟨u',r',q⟩:=hl j y v' e1 e2 e3;refine⟨u',r',?_⟩;rcases q with⟨k,e⟩|⟨k,c,e,z⟩
    ·refine .inl ⟨k,?_⟩;have:y≠x:=λe=>hj (LZ hN e1 (e▸hi));simp[this,e]
    ·exact .inr ⟨k,c,e,z.sameBut hs (rW y c e)⟩
  ·obtain⟨w',z⟩:=I.cell y c e;exact⟨w',z.sameBut hs (rW y c e)⟩
  ·obtain⟨e,n,ne,nf,d⟩:=I.pin p hp;exact⟨(hs.2 p.1 ne).trans e,n,ne,nf,d⟩
 ·have tF:X.fn x=true:=by
   rcases hf with z|z
   ·exact z
   ·rw[z] at hk;cases hk
  obtain⟨c,hc⟩:=I.ok.has x (.inl hk);obtain⟨w',z⟩:=I.cell x c hc;refine wpAny_storeName_cell I.ok.kind hk hc z (λh' hV hs=>?_);obtain⟨oc,Bj,Bi⟩:=id z;refine h { s with heap:=h' } ⟨I.ok,I.os,I.bare,⟨λb o e n hb hx=>?_,λb o e n hb hx=>?_,I.base.free,λb o e hx=>?_,I.base.iL,I.base.iB,I.base.iM⟩,⟨m,hn.sameBut hs (cb (rW x c hc)),λj y v' e1 e2 e3=>?_⟩,λy c' e=>?_,I.free,I.eQ,λp hp=>?_,tracked ⟨oc,Bj,I.eQ x c hc⟩ hs,by simpa using I.len⟩ ⟨c,hs,.inr hc⟩
  ·exact(hs.2 b (aP (aA (aE e) (I.ok.qd x c tF hc)))).trans (I.base.keep b o e n hb hx)
  ·obtain⟨sl,e1⟩:=I.base.slot b o e n hb hx;exact⟨sl,(hs.2 b (aP (aA (aE e) (I.ok.qd x c tF hc)))).trans e1⟩
  ·obtain⟨o',e1⟩:=I.base.there b o e hx;exact⟨o',(hs.2 b (aP (aA (aE e) (I.ok.qd x c tF hc)))).trans e1⟩
  ·by_cases hj:j=i
   ·subst hj;rw[hi] at e1;cases e1;rw[ba vL] at e2;cases e2;exact⟨u,r,.inr ⟨.inl hk,c,hc,hV⟩⟩
   ·rw[az (cb hj)] at e2;obtain⟨u',r',q⟩:=hl j y v' e1 e2 e3;refine⟨u',r',?_⟩;rcases q with q|⟨k,c',e,z'⟩
    ·exact .inl q
    ·refine .inr ⟨k,c',e,z'.sameBut hs ?_⟩;rintro rfl;exact hj (LZ hN e1 (I.ok.inj _ _ _ e hc▸hi))
  ·by_cases tG:c'=c
   ·subst tG;exact⟨_,hV⟩
   ·obtain⟨w2,z2⟩:=I.cell y c' e;exact⟨w2,z2.sameBut hs tG⟩
  ·obtain⟨e,n,ne,nf,d⟩:=I.pin p hp;refine⟨(hs.2 p.1 ?_).trans e,n,ne,nf,d⟩;intro q;rw[q,Bj] at e;have q':oc=p.2:=aO e;exact d w' (by rw[<- q'];exact Bi)
theorem DU{Q:Unit->Shared->Prop}(I:Inv X pins Z H s)(hN:X.N.Nodup)(hi:X.N[i]?=some x)(hx:Loc X.env.scope x)(r:RelV v u)(h:∀s',Inv X pins (Z.set i (some v)) H s'->Q Unit.unit s')(hf:X.fn x=true\/X.env.scope.names.lookup x=some .local:=by first|exact .inl rfl|exact .inr rfl|assumption):wpAny M A (storeName X.env x u) Q E s :=
 Jz I hN hi hx r (λs' I' _=>h s' I') hf
theorem Inv.EB{s':Shared}(I:Inv X pins Z H s)(ho:s'.os=s.os)(u:Un (gh X.stack) ch H H' s.heap s'.heap)(bR:gH X.prog X.w H' s'.heap)(hg:AllBare s'.gens)(lJ:∀b∈ch,(b∈X.ex\/X.dz.heap.objs.size<=b)/\b≠X.env.locals/\(∀x c,X.env.cells.lookup x=some c->c≠b)/\∀p∈X.pn++pins,p.1≠b):Inv X pins Z H' s':=by
 obtain⟨h',g',d',t',o'⟩:=s';have e:o'=s.os:=ho;subst e;exact I.call (g':=g') (t':=t') (d':=d') u bR hg lJ
end
noncomputable abbrev XK:=Value->Option Addr->Hp->Prop
noncomputable abbrev St:=List (Option V)
noncomputable abbrev VK:=V->Hp->Prop
noncomputable abbrev TE:=St->Hp->VK->Prop
noncomputable abbrev TT:=St->Hp->(Bool->Hp->Prop)->Prop
noncomputable abbrev TA:=St->Hp->(List V->Hp->Prop)->Prop
structure Ends where
 nx:St->Hp->Prop
 rt:VK
 bk:St->Hp->Prop:=λ_ _=>False
 ct:St->Hp->Prop:=λ_ _=>False
noncomputable abbrev TS:=Ends->St->Hp->Prop
def EP(X:Cx)(pins:List (Addr×Obj))(Z:St)(Q:VK)(u:Value)(s':Shared):Prop:=∃v H',Inv X pins Z H' s'/\RelV v u/\Q v H'
def TP(X:Cx)(pins:List (Addr×Obj))(Z:St)(Q:Bool->Hp->Prop)(b:Bool)(s':Shared):Prop:=∃H',Inv X pins Z H' s'/\Q b H'
def AP(X:Cx)(pins:List (Addr×Obj))(Z:St)(Q:List V->Hp->Prop)(us:List Value)(s':Shared):Prop:=∃vs H',Inv X pins Z H' s'/\Vals vs us/\Q vs H'
def SP(X:Cx)(pins:List (Addr×Obj))(D:Ends)(f:Flow)(s':Shared):Prop :=
 match f with
 |.next=>∃bY H',Inv X pins bY H' s'/\D.nx bY H'
 |.brk=>∃bY H',Inv X pins bY H' s'/\D.bk bY H'
 |.cont=>∃bY H',Inv X pins bY H' s'/\D.ct bY H'
 |.ret u=>∃v bY H',Inv X pins bY H' s'/\RelV v u/\D.rt v H'
def PE(X:Cx)(e:Expr)(t:TE):Prop :=
 ∀(pins:List (Addr×Obj)) (s:Shared) (Z:St) (H:Hp) (Q:VK),Inv X pins Z H s->t Z H Q->wpAny (model X.prog X.w) X.A (eval e X.env) (EP X pins Z Q) X.xe s
def PT(X:Cx)(e:Expr)(t:TT):Prop :=
 ∀(pins:List (Addr×Obj)) (s:Shared) (Z:St) (H:Hp) (Q:Bool->Hp->Prop),Inv X pins Z H s->t Z H Q->wpAny (model X.prog X.w) X.A (isTrue e X.env (eval e X.env)) (TP X pins Z Q) X.xe s
def PW(X:Cx)(e:Expr)(t:TT):Prop :=
 ∀(whole:Sem Value) (pins:List (Addr×Obj)) (s:Shared) (Z:St) (H:Hp) (Q:Bool->Hp->Prop),Inv X pins Z H s->t Z H Q->wpAny (model X.prog X.w) X.A (isTrue e X.env whole) (TP X pins Z Q) X.xe s
theorem PW.pt{t:TT}(h:PW X e t):PT X e t:=h _
def PA(X:Cx)(es:List Expr)(t:TA):Prop :=
 ∀(pos:Pos) (pins:List (Addr×Obj)) (s:Shared) (Z:St) (H:Hp) (Q:List V->Hp->Prop),Inv X pins Z H s->t Z H Q->wpAny (model X.prog X.w) X.A (spliced (backTo pos (starEach es X.env))) (AP X pins Z Q) X.xe s
def PS(X:Cx)(st:Stmt)(t:TS):Prop :=
 ∀(pins:List (Addr×Obj)) (s:Shared) (Z:St) (H:Hp) (D:Ends),Inv X pins Z H s->t D Z H->wpAny (model X.prog X.w) X.A (exec st X.env) (SP X pins D) X.xe s
def ju(X:Cx)(st:List Stmt)(t:TS):Prop :=
 ∀(pins:List (Addr×Obj)) (s:Shared) (Z:St) (H:Hp) (D:Ends),Inv X pins Z H s->t D Z H->wpAny (model X.prog X.w) X.A (execs st X.env) (SP X pins D) X.xe s
theorem cI{α:Type}{t:Sem α}{Q Q':α->Shared->Prop}(h:wpAny M A t Q E s)(hQ:∀a s,Q a s->Q' a s):wpAny M A t Q' E s:=bB h hQ λ_ _ x=>x
section
def WS(i:Nat):TE:=λZ H Q=>∃v,Z[i]?=some (some v)/\Q v H
def tC(v:V):TE:=λ_ H Q=>Q v H
theorem Rk(hN:X.N[i]?=some x)(hv:xJ X.env.scope x)(hd:(x==("__debug__":Str))=false:=by decide)(mq:(x==("__classdict__":Str))=false:=by decide):PE X (.Name x pos) (WS i):=by
 intro pins s Z H Q I h;obtain⟨v,e,h⟩:=h;obtain⟨m,hn,hl⟩:=I.loc;obtain⟨u,r,l⟩:=hl i x v hN e hv;have fin:EP X pins Z Q u s:=⟨v,H,I,r,h⟩
 rcases l with⟨hk,hm⟩|⟨hk,c,hc,lK⟩
 ·exact wpAny_Name (wpAny_loadName_local I.ok.kind hk hn hm fin) hd
 ·rcases hk with hk|hk
  ·exact wpAny_Name (wpAny_loadName_cell I.ok.kind hk hc lK fin) hd
  ·exact wpAny_Name (wpAny_loadName_free I.ok.kind hk hc lK fin mq) hd
theorem Rc{i j pos}:PE X (.Constant (.int i) j pos) (tC (.int i)):=λ_ _ _ H _ I h=>wpAny_Constant_int ⟨.int i,H,I.tok _,⟨_,rfl⟩,h⟩
theorem Yj{b j pos}:PE X (.Constant (.bool b) j pos) (tC (.bl b)):=λ_ _ _ H _ I h=>Constant_bool ⟨.bl b,H,I,rfl,h⟩
theorem Rg{j pos}:PE X (.Constant .none j pos) (tC .bN):=λ_ _ _ H _ I h=>Constant_none ⟨.bN,H,I,rfl,h⟩
theorem MH{x j pos}:PE X (.Constant (.str x) j pos) (tC (.str x)):=λ_ _ _ H _ I h=>Calls.Constant_str ⟨.str x,H,I.tok _,⟨_,rfl⟩,h⟩
def Gl(X:Cx)(x:Str):Prop:=X.env.kindOf x=some .globalImplicit
theorem P6(I:Inv X pins Z H s)(hg:Gl X x)(hm:X.mg x=some u)(h:Q u s)(hd:(x==("__debug__":Str))=false:=by decide):wpAny (model X.prog X.w) X.A (eval (.Name x pos) X.env) Q E s :=
 Ah I.ok.kind hg (Calls.loadGlobal_global (by rw[I.ok.glob];exact I.mod.glob.keeps I.bk) hm h) hd
theorem O2(I:Inv X pins Z H s)(hg:Gl X x)(hm:X.mg x=none)(hv:bootBuiltins x=some u)(h:Q u s)(hn:x≠"__name__":=by decide)(hd:(x==("__debug__":Str))=false:=by decide):wpAny (model X.prog X.w) X.A (eval (.Name x pos) X.env) Q E s:=by
 obtain⟨mb,h1,h2⟩:=I.mod.blt;exact Ah I.ok.kind hg (Calls.loadGlobal_builtin (by rw[I.ok.glob];exact I.mod.glob.keeps I.bk) hm (by rw[I.ok.blt];exact h1.keeps I.bk) ((h2 x hn).trans hv) h) hd
theorem zj(hg:Gl X x)(hm:X.mg x=some u)(r:RelV v u)(hd:(x==("__debug__":Str))=false:=by decide):PE X (.Name x pos) (tC v) :=
 λ_ _ _ H _ I h=>P6 I hg hm ⟨v,H,I,r,h⟩ hd
theorem Tx(hg:Gl X x)(hm:X.mg x=none)(hv:bootBuiltins x=some u)(r:RelV v u)(hn:x≠"__name__":=by decide)(hd:(x==("__debug__":Str))=false:=by decide):PE X (.Name x pos) (tC v) :=
 λ_ _ _ H _ I h=>O2 I hg hm hv ⟨v,H,I,r,h⟩ hn hd
variable{a b:Expr}
variable{tA yc:TT}{rest:List Expr}
def WE(t u:TT):TT:=λZ H Q=>t Z H λc H1=>if c=true then u Z H1 Q else Q false H1
def Nu(t u:TT):TT:=λZ H Q=>t Z H λc H1=>if c=true then Q true H1 else u Z H1 Q
def WM(t:TT):TT:=λZ H Q=>t Z H λc H1=>Q (!c) H1
theorem Ub(ha:PT X a tA):PW X (.BoolOp .And [a] pos) tA:=by
 intro wh pins s Z H Q I h;refine isTrue_and (cI (ha pins s Z H Q I h) λc s1 e=>?_);cases c with
 |true=>exact isTrue_and_nil e
 |false=>exact e
theorem Rx(ha:PT X a tA):PW X (.BoolOp .Or [a] pos) tA:=by
 intro wh pins s Z H Q I h;refine isTrue_or (cI (ha pins s Z H Q I h) λc s1 e=>?_);cases c with
 |false=>exact isTrue_or_nil e
 |true=>exact e
theorem Rw(ha:PT X a tA)(hb:PW X (.BoolOp .And (b::rest) pos) yc):PW X (.BoolOp .And (a::b::rest) pos) (WE tA yc):=by
 intro wh pins s Z H Q I h;refine isTrue_and (cI (ha pins s Z H _ I h) λc s1 ⟨H1,I1,q1⟩=>?_);cases c with
 |true=>exact hb wh pins s1 Z H1 Q I1 q1
 |false=>exact⟨H1,I1,q1⟩
theorem Yr(ha:PT X a tA)(hb:PW X (.BoolOp .Or (b::rest) pos) yc):PW X (.BoolOp .Or (a::b::rest) pos) (Nu tA yc):=by
 intro wh pins s Z H Q I h;refine isTrue_or (cI (ha pins s Z H _ I h) λc s1 ⟨H1,I1,q1⟩=>?_);cases c with
 |true=>exact⟨H1,I1,q1⟩
 |false=>exact hb wh pins s1 Z H1 Q I1 q1
theorem Rv(ha:PT X a tA):PT X (.UnaryOp .Not a pos) (WM tA):=by
 intro pins s Z H Q I h;exact isTrue_not (ha pins s Z H (λc H1=>Q (!c) H1) I h)
def YC(ta tb:TE):TE:=λZ H Q=>ta Z H λx H1=>∃c,x=.bl c/\if c=true then tb Z H1 Q else Q (.bl false) H1
def WN(ta tb:TE):TE:=λZ H Q=>ta Z H λx H1=>∃c,x=.bl c/\if c=true then Q (.bl true) H1 else tb Z H1 Q
def YH(ta:TE):TE:=λZ H Q=>ta Z H λx H1=>∃c,x=.bl c/\Q (.bl (!c)) H1
theorem Ri{op}{t:TE}(h:PE X a t):PE X (.BoolOp op [a] pos) t:=λpins s Z H Q I hw=>BoolOp_one (h pins s Z H Q I hw)
theorem QZ(ha:PE X a ta)(hb:PE X (.BoolOp .And (b::rest) pos) tb):PE X (.BoolOp .And (a::b::rest) pos) (YC ta tb):=by
 intro pins s Z H Q I h;refine BoolOp_and (cI (ha pins s Z H _ I h) λv s1 bq=>?_);obtain⟨x,H1,I1,r1,q1⟩:=bq;obtain⟨c,rfl,q1⟩:=q1;cases r1;refine cG ?_;cases c with
 |true=>exact hb pins s1 Z H1 Q I1 q1
 |false=>exact⟨.bl false,H1,I1,rfl,q1⟩
theorem Yn(ha:PE X a ta)(hb:PE X (.BoolOp .Or (b::rest) pos) tb):PE X (.BoolOp .Or (a::b::rest) pos) (WN ta tb):=by
 intro pins s Z H Q I h;refine BoolOp_or (cI (ha pins s Z H _ I h) λv s1 bq=>?_);obtain⟨x,H1,I1,r1,q1⟩:=bq;obtain⟨c,rfl,q1⟩:=q1;cases r1;refine cG ?_;cases c with
 |false=>exact hb pins s1 Z H1 Q I1 q1
 |true=>exact⟨.bl true,H1,I1,rfl,q1⟩
theorem Rh(ha:PE X a ta):PE X (.UnaryOp .Not a pos) (YH ta):=by
 intro pins s Z H Q I h;refine UnaryOp_ (cI (ha pins s Z H _ I h) λv s1 bq=>?_);obtain⟨x,H1,I1,r1,q1⟩:=bq;obtain⟨c,rfl,q1⟩:=q1;cases r1;exact not_of (cG ⟨.bl (!c),H1,I1,rfl,q1⟩)
def Nv(t:TT)(ta tb:TE):TE:=λZ H Q=>t Z H λc H1=>if c=true then ta Z H1 Q else tb Z H1 Q
theorem Vp(hc:PT X c tA)(ha:PE X a ta)(hb:PE X b tb):PE X (.IfExp c a b pos) (Nv tA ta tb):=by
 intro pins s Z H Q I h;refine wpAny_IfExp (cI (hc pins s Z H _ I h) λd s1 ⟨H1,I1,q1⟩=>?_);cases d with
 |true=>exact ha pins s1 Z H1 Q I1 q1
 |false=>exact hb pins s1 Z H1 Q I1 q1
end
def fM(K:PySem.W.Frag)(H:Hp)(a:Addr)(xs:List V):Prop :=
 Rd H a (.lst xs) \/
  ∃(o:Obj) (bf:Array Value) (n:Nat),K.lookup a=some o/\o.cls=.type "list"/\o.dict=none/\o.data=.seq bf n/\bf.size<=sizeLine/\Vals xs bf.toList
def jB(K:PySem.W.Frag)(H:Hp)(a:Addr)(xs:List V):Prop :=
 Rd H a (.tup xs) \/
  ∃(o:Obj) (bf:Array Value) (n:Nat),K.lookup a=some o/\o.cls=.type "tuple"/\o.data=.seq bf n/\bf.size<=sizeLine/\Vals xs bf.toList
def VD:Value->Option V
 |.none=>some .bN
 |.bool b=>some (.bl b)
 |.int i _=>some (.int i)
 |.str x _=>some (.str x)
 |.bytes b _=>some (.lN b)
 |.float b _=>some (.rP b)
 |.ref a=>some (.ref a)
 |.type n=>some (.ty n)
 |_=>none
theorem RelV.abs{x:V}(r:RelV x u):VD u=some x:=by
 cases x with
 |bN=>cases r;rfl
 |bl _=>cases r;rfl
 |int _=>obtain⟨t,rfl⟩:=r;rfl
 |str _=>obtain⟨t,rfl⟩:=r;rfl
 |lN _=>obtain⟨t,rfl⟩:=r;rfl
 |rP _=>obtain⟨t,rfl⟩:=r;rfl
 |ref _=>cases r;rfl
 |ty _=>cases r;rfl
theorem RelV.inj{x y:V}{u:Value}(r:RelV x u)(q:RelV y u):x=y:=aO (r.abs.symm.trans q.abs)
theorem Vals.inj{xs ys:List V}{us:List Value}(h:Vals xs us)(h':Vals ys us):xs=ys:=by
 induction h generalizing ys with
 |nil=>cases h';rfl
 |cons r t ih =>
  cases h' with
  |cons r' t'=>rw[r.inj r',ih t']
section
variable{ys:List V}
theorem fM.of(h:H a=some (.lst xs)):fM K H a xs:=.inl (.inl h)
theorem Inv.list(I:Inv X pins Z H s)(h:fM X.K H a xs):∃bf:List Value,Vals xs bf/\PlainL s.heap a bf.toArray/\xs.length<=sizeLine:=by
 rcases h with h|⟨o,bf,n,hk,hc,hd,hs,hz,r⟩
 ·obtain⟨z,bf,n,r,e⟩:=h.ok I.bR;exact⟨bf,r,⟨_,n,e,rfl,rfl,rfl⟩,z⟩
 ·refine⟨bf.toList,r,⟨o,n,I.hU a o hk,hc,hd,by simpa using hs⟩,?_⟩;have e:=r.length;simp only[Array.length_toList] at e;omega
theorem Inv.tuple(I:Inv X pins Z H s)(h:jB X.K H a xs):∃bf:List Value,Vals xs bf/\IsTup s.heap a bf.toArray/\xs.length<=sizeLine:=by
 rcases h with h|⟨o,bf,n,hk,hc,hs,hz,r⟩
 ·obtain⟨z,bf,r,p⟩:=h.ok I.bR;exact⟨bf,r,p.tup,z⟩
 ·refine⟨bf.toList,r,⟨o,I.hU a o hk,hc,n,by simpa using hs⟩,?_⟩;have e:=r.length;simp only[Array.length_toList] at e;omega
theorem Inv.DI(I:Inv X pins Z H s)(h:fM X.K H a xs)(h':fM X.K H a ys):xs=ys:=by
 obtain⟨bf,r,⟨o,n,e,_,_,d⟩,_⟩:=I.list h;obtain⟨its',r',⟨o',n',e',_,_,d'⟩,_⟩:=I.list h';rw[e] at e';cases e';rw[d] at d';injection d' with d1 _;have:bf=its':=by simpa using fV Array.toList d1
 subst this;exact r.inj r'
theorem Inv.aX7(I:Inv X pins Z H s)(h:jB X.K H a xs)(h':jB X.K H a ys):xs=ys:=by
 obtain⟨bf,r,⟨o,e,_,n,d⟩,_⟩:=I.tuple h;obtain⟨its',r',⟨o',e',_,n',d'⟩,_⟩:=I.tuple h';rw[e] at e';cases e';rw[d] at d';injection d' with d1 _;have:bf=its':=by simpa using fV Array.toList d1
 subst this;exact r.inj r'
end
noncomputable abbrev Cx.pA(X:Cx)(E:Value->Shared->Prop):Cx:={ X with xe:=E }
theorem Cx.Ok.pA{X:Cx}(ok:X.Ok)(E:Value->Shared->Prop):(X.pA E).Ok :=
 ⟨ok.mod,ok.kind,ok.glob,ok.blt,ok.above,ok.inj,ok.has,ok.qd,ok.hd,ok.frames,ok.qx,ok.wF,ok.bs,ok.nP,ok.kA,ok.lD,ok.M3,ok.oi⟩
theorem Cx.Ok.Fs(ok:(X.pA E).Ok):X.Ok :=
 ⟨ok.mod,ok.kind,ok.glob,ok.blt,ok.above,ok.inj,ok.has,ok.qd,ok.hd,ok.frames,ok.qx,ok.wF,ok.bs,ok.nP,ok.kA,ok.lD,ok.M3,ok.oi⟩
theorem Inv.pA(I:Inv X pins Z H s)(E:Value->Shared->Prop):Inv (X.pA E) pins Z H s:=⟨I.ok.pA E,I.os,I.bare,I.base,I.loc,I.cell,I.free,I.eQ,I.pin,I.bR,I.len⟩
theorem Inv.Fs(I:Inv (X.pA E) pins Z H s):Inv X pins Z H s:=⟨I.ok.Fs,I.os,I.bare,I.base,I.loc,I.cell,I.free,I.eQ,I.pin,I.bR,I.len⟩
section
variable{st:Stmt}{rest:List Stmt}{t u:TS}
def Ja:TS:=λD Z H=>D.nx Z H
def WQ(t u:TS):TS:=λD Z H=>t { D with nx:=u D } Z H
theorem TY:ju X [] Ja:=λ_ _ Z H _ I h=>ke ⟨Z,H,I,h⟩
theorem Vy(h1:PS X st t)(h2:ju X rest u):ju X (st::rest) (WQ t u):=by
 intro pins s Z H D I h;refine wpAny_execs_cons (cI (h1 pins s Z H { D with nx:=u D } I h) λf s1 q=>?_);cases f with
 |next =>
  obtain⟨bY,H',I',q⟩:=q;exact h2 pins s1 bY H' D I' q
 |ret v=>exact q
 |brk=>exact q
 |cont=>exact q
theorem TU:PS X (.Pass pos) Ja:=λ_ _ Z H _ I h=>wpAny_Pass ⟨Z,H,I,h⟩
theorem Inv.quiet(I:Inv X pins Z H s):interactive X.env=false:=by simp[interactive,I.ok.kind]
def YG(te:TE):TS:=λD Z H=>te Z H λ_ H1=>D.nx Z H1
theorem TR(he:PE X e te)(hs:swapsWith e none pos.line X.env=pure false:=by rfl):PS X (.Expr e pos) (YG te):=by
 intro pins s Z H D I h;exact wpAny_Expr_any (cI (he pins s Z H _ I h) λv s1 ⟨x,H1,I1,r1,q1⟩=>⟨Z,H1,I1,q1⟩) I.quiet hs
def WO(te:TE):TS:=λD Z H=>te Z H D.rt
theorem Rt(he:PE X e te):PS X (.Return (some e) pos) (WO te):=by
 intro pins s Z H D I h;exact wpAny_Return_some (cI (he pins s Z H _ I h) λv s1 ⟨x,H1,I1,r1,q1⟩=>⟨x,Z,H1,I1,r1,q1⟩)
def YJ:TS:=λD _ H=>D.rt .bN H
theorem TX:PS X (.Return none pos) YJ:=λ_ _ Z H _ I h=>wpAny_Return_none ⟨.bN,Z,H,I,rfl,h⟩
def WK(c:TT)(t u:TS):TS:=λD Z H=>c Z H λb H1=>if b=true then t D Z H1 else u D Z H1
theorem Yq{a b:List Stmt}{tc:TT}(hc:PT X c tc)(ha:ju X a t)(hb:ju X b u):PS X (.If c a b pos) (WK tc t u):=by
 intro pins s Z H D I h;refine wpAny_If (cI (hc pins s Z H _ I h) λd s1 ⟨H1,I1,q1⟩=>?_);cases d with
 |true=>exact ha pins s1 Z H1 D I1 q1
 |false=>exact hb pins s1 Z H1 D I1 q1
end
noncomputable abbrev TG:=V->St->Hp->(St->Hp->Prop)->Prop
noncomputable abbrev qj:=List V->St->Hp->(St->Hp->Prop)->Prop
def PG(X:Cx)(target:Expr)(t:TG):Prop :=
 ∀(pins:List (Addr×Obj)) (s:Shared) (Z:St) (H:Hp) (v:V) (u:Value) (Q:St->Hp->Prop),Inv X pins Z H s->RelV v u->t v Z H Q ->
  wpAny (model X.prog X.w) X.A (assign target X.env u) (λ_ s'=>∃bY H',Inv X pins bY H' s'/\Q bY H') X.xe s
def xO(X:Cx)(ts:List Expr)(t:qj):Prop :=
 ∀(pins:List (Addr×Obj)) (s:Shared) (Z:St) (H:Hp) (vs:List V) (us:List Value) (Q:St->Hp->Prop),Inv X pins Z H s->Vals vs us->t vs Z H Q ->
  wpAny (model X.prog X.w) X.A (assignInOrder ((assignEach ts X.env).map (·.2)) us) (λ_ s'=>∃bY H',Inv X pins bY H' s'/\Q bY H') X.xe s
noncomputable abbrev CS:=V->V->V->Hp->(Hp->Prop)->Prop
def CQ(X:Cx)(t:CS):Prop :=
 ∀(pins:List (Addr×Obj)) (s:Shared) (Z:St) (H:Hp) (o i v:V) (ov iv u:Value) (Q:Hp->Prop),Inv X pins Z H s->RelV o ov->RelV i iv->RelV v u->t o i v H Q ->
  wpAny (model X.prog X.w) X.A (setItem ov iv u) (λ_ s'=>∃H',Inv X pins Z H' s'/\Q H') X.xe s
noncomputable abbrev FC:=V->V->Hp->VK->Prop
def MK(X:Cx)(op:Operator)(t:FC):Prop :=
 ∀(pins:List (Addr×Obj)) (s:Shared) (Z:St) (H:Hp) (x y:V) (v u:Value) (Q:VK),Inv X pins Z H s->RelV x v->RelV y u->t x y H Q ->
  wpAny (model X.prog X.w) X.A (inplaceOp op v u) (EP X pins Z Q) X.xe s
def uf(i:Nat):TG:=λv Z H Q=>Q (Z.set i (some v)) H
theorem Lh(hN:X.N.Nodup)(hi:X.N[i]?=some x)(hx:Loc X.env.scope x)(hf:X.fn x=true\/X.env.scope.names.lookup x=some .local:=by first|exact .inl rfl|exact .inr rfl|assumption):PG X (.Name x pos) (uf i):=by
 intro pins s Z H v u Q I r h;exact wpAny_assign_Name (DU I hN hi hx r (λs' I'=>⟨_,H,I',h⟩) hf)
def Jf:qj:=λvs Z H Q=>vs=[]/\Q Z H
def IF(t:TG)(u:qj):qj:=λvs Z H Q=>∃v r,vs=v::r/\t v Z H λbY H'=>u r bY H' Q
theorem Li:xO X [] Jf:=by
 intro pins s Z H vs us Q I r h;obtain⟨e,h⟩:=h;subst e;cases r;exact assignInOrder_nil ⟨Z,H,I,h⟩
theorem DO{t:TG}{u:qj}(h1:PG X e t)(h2:xO X es u)(hs:(assignEach (e::es) X.env).map (·.2)=assign e X.env::(assignEach es X.env).map (·.2):=by rfl):xO X (e::es) (IF t u):=by
 intro pins s Z H vs us Q I r h;obtain⟨v,vr,e1,h⟩:=h;subst e1;cases r with
 |cons r rr =>
  rw[hs];refine assignInOrder_cons (cI (h1 pins s Z H _ _ _ I r h) λ_ s1 bq=>?_);obtain⟨iU,H1,I1,q1⟩:=bq;exact h2 pins s1 iU H1 _ _ Q I1 rr q1
def VU(K:PySem.W.Frag)(n:Nat)(t:qj):TG:=λv Z H Q=>∃a xs,v=.ref a/\jB K H a xs/\xs.length=n/\t xs Z H Q
theorem MI{t:qj}{n:Nat}(hc:X.calm=true)(h:xO X es t)(hn:(assignEach es X.env).length=n:=by rfl)(ei:(assignEach es X.env).findIdx? (·.1)=none:=by rfl):PG X (.Tuple es k pos) (VU X.K n t):=by
 intro pins s Z H v u Q I r hw;obtain⟨a,xs,e1,hq,hl,hw⟩:=hw;subst e1;cases r;obtain⟨bf,rv,ht,hz⟩:=I.tuple hq;refine assign_Tuple_tuple (I.ok.hd hc) ht (by simp[hn,<- hl,rv.length]) ei λh' hx=>?_;have I1:Inv X pins Z H { s with heap:=h' }:=I.kept (t':=s.toks) λb o e=>hx b o (aP (aE e)) e;exact h pins _ Z H xs _ Q I1 (by simpa using rv) hw
def VT(to ti:TE)(t:CS):TG:=λv Z H Q=>to Z H λo H1=>ti Z H1 λi H2=>t o i v H2 λH3=>Q Z H3
theorem Fl{o i:Expr}{to ti:TE}{t:CS}(ho:PE X o to)(hi:PE X i ti)(hs:CQ X t)(ha:∀ v,assign (.Subscript o i pos) X.env v=(do
   let ov <- holding [v] (eval o X.env)
   let iv <- holding [v,ov] (eval i X.env)
   standAt pos
   holding [v,ov,iv] (setItem ov iv v)
   release [v,ov,iv] []):=by intro _;rfl):PG X (.Subscript o i pos) (VT to ti t):=by
 intro pins s Z H v u Q I r h;rw[ha];refine ag (cy (cI (ho pins s Z H _ I h) λov s1 bq=>?_));obtain⟨x,H1,I1,r1,q1⟩:=bq;refine ag (cy (cI (hi pins s1 Z H1 _ I1 q1) λiv s2 bq=>?_));obtain⟨y,H2,I2,r2,q2⟩:=bq;refine ag (fu (ag (cy (cI (hs pins s2 Z H2 x y v ov iv u _ I2 r1 r2 r q2) λ_ s3 ⟨H3,I3,q3⟩=>?_))));exact wpAny_release ⟨Z,H3,I3,q3⟩
def xG(te:TE)(g:TG):TS:=λD Z H=>te Z H λx H1=>g x Z H1 D.nx
theorem Fm{g:TG}(he:PE X e te)(hg:PG X tg g)(hs:swapsWithSole [tg] e pos.line X.env=pure false:=by rfl)(hw:swappedStores [tg] e X.env=pure none:=by rfl)(h1:(assignEach [tg] X.env).map (·.2)=[assign tg X.env]:=by rfl):PS X (.Assign [tg] e pos) (xG te g):=by
 intro pins s Z H D I h;refine wpAny_Assign_stores (cI (he pins s Z H _ I h) λv s1 bq=>?_) hs hw;obtain⟨x,H1,I1,r1,q1⟩:=bq;rw[h1];exact cI (hg pins s1 Z H1 x v _ I1 r1 q1) λ_ s2 q=>q
theorem Ks(hN:X.N.Nodup)(hi:X.N[i]?=some x)(hx:Loc X.env.scope x)(he:PE X e te)(hs:swapsWith e (some (.Name x pos')) pos.line X.env=pure false:=by rfl)(hf:X.fn x=true\/X.env.scope.names.lookup x=some .local:=by first|exact .inl rfl|exact .inr rfl|assumption) :
  PS X (.Assign [.Name x pos'] e pos) (xG te (uf i)):=by
 intro pins s Z H D I h;refine wpAny_Assign_Name (cI (he pins s Z H _ I h) λv s1 bq=>?_) hs;obtain⟨y,H1,I1,r1,q1⟩:=bq;exact DU I1 hN hi hx r1 (λs2 I2=>⟨_,H1,I2,q1⟩) hf
def WG(i:Nat)(te:TE)(ti:FC):TS:=λD Z H=>∃x,Z[i]?=some (some x)/\te Z H λy H1=>ti x y H1 λz H2=>D.nx (Z.set i (some z)) H2
theorem Ro{op:Operator}{ti:FC}(hN:X.N.Nodup)(hi:X.N[i]?=some x)(hx:Loc X.env.scope x)(he:PE X e te)(ho:MK X op ti)(hf:X.fn x=true\/X.env.scope.names.lookup x=some .local:=by first|exact .inl rfl|exact .inr rfl|assumption) :
  PS X (.AugAssign (.Name x pos') op e pos) (WG i te ti):=by
 intro pins s Z H D I h;obtain⟨v,e1,h⟩:=h;obtain⟨m,hn,hl⟩:=I.loc;have uM:xJ X.env.scope x:=by rcases hx with k|k;exact .inl k;exact .inr (.inl k)
 obtain⟨u,r,l⟩:=hl i x v hi e1 uM;refine wpAny_AugAssign_Name ?_;have go:wpAny (model X.prog X.w) X.A (eval e X.env) (λw gP=>wpAny (model X.prog X.w) X.A (inplaceOp op u w) (λr fo=>wpAny (model X.prog X.w) X.A (storeName X.env x r) (λ_=>SP X pins D .next) X.xe fo) X.xe gP) X.xe s:=by
  refine cI (he pins s Z H _ I h) λw s1 bq=>?_;obtain⟨y,H1,I1,r1,q1⟩:=bq;refine cI (ho pins s1 Z H1 v y u w _ I1 r r1 q1) λz s2 bq=>?_;obtain⟨zv,H2,I2,r2,q2⟩:=bq;exact DU I2 hN hi hx r2 (λs3 I3=>⟨_,H2,I3,q2⟩) hf
 rcases l with⟨hk,hm⟩|⟨hk,c,hc,lK⟩
 ·exact wpAny_loadName_local I.ok.kind hk hn hm go
 ·rcases hk with hk|hk
  ·exact wpAny_loadName_cell I.ok.kind hk hc lK go
  ·rcases hx with k|k
   ·have:X.env.scope.names.lookup x=some .free:=hk;rw[k] at this;cases this
   ·have:X.env.scope.names.lookup x=some .free:=hk;rw[k] at this;cases this
def Sn(c:TT)(tb:TS):TS:=λD Z H=>∃W:Nat->St->Hp->Prop,(∃m,W m Z H)/\∀m Z H,W m Z H ->
 c Z H λb H1=>if b=true then ∃N:St->Hp->Prop,(∀bY H',N bY H'->∃m',m'<m/\W m' bY H')/\tb { D with nx:=N,ct:=N,bk:=D.nx } Z H1 else D.nx Z H1
theorem Vx{tc:TT}{tb:TS}(hp:PassesOwn (model X.prog X.w) X.A X.env X.xe)(hc:PT X c tc)(hb:ju X body tb):PS X (.While c body [] pos) (Sn tc tb):=by
 intro pins s Z H D I h;obtain⟨W,⟨m0,w0⟩,turn⟩:=h;refine wpAny_While (codeAny_whileLoop (λn s'=>∃bY H',Inv X pins bY H' s'/\W n bY H') ?_ m0 ⟨Z,H,I,w0⟩);rintro n s1 ⟨iU,H1,I1,w1⟩;refine eF hp (cI (hc pins s1 iU H1 _ I1 (turn n iU H1 w1)) λb s2 ⟨H2,I2,q2⟩=>?_);cases b with
 |true =>
  obtain⟨N,hN,q2⟩:=q2;rw[aJ rfl];refine eF hp (cI (hb pins s2 iU H2 _ I2 q2) λf s3 q3=>?_);cases f with
  |next =>
   obtain⟨iK,H3,I3,n3⟩:=q3;obtain⟨m',hm,w3⟩:=hN iK H3 n3;exact⟨m',hm,iK,H3,I3,w3⟩
  |cont =>
   obtain⟨iK,H3,I3,n3⟩:=q3;obtain⟨m',hm,w3⟩:=hN iK H3 n3;exact⟨m',hm,iK,H3,I3,w3⟩
  |brk=>exact q3
  |ret v=>exact q3
 |false =>
  rw[aF dO];exact ke ⟨iU,H2,I2,q2⟩
structure It where
 go:Nat->Hp->Prop
 qu:Nat->Hp->V->Hp->Prop
 stop:Nat->Hp->Prop
def F1(X:Cx)(pins:List (Addr×Obj))(H:Hp)(b:Addr):Prop :=
 H b=none/\b≠X.env.locals/\b∉X.fs/\(b∈X.ex\/X.dz.heap.objs.size<=b)/\(∀x c,X.env.cells.lookup x=some c->c≠b)/\∀p∈X.pn++pins,p.1≠b
theorem Inv.qf(I:Inv X pins Z H s)(hb:s.heap.objs.size<=b)(hn:H' b=none):F1 X pins H' b:=by
 refine⟨hn,cc (aA I.lt hb),I.xF hb,.inr (aB I.sz hb),λx c e z=>?_,λp hp z=>?_⟩
 ·obtain⟨v,q⟩:=I.cell x c e;exact absurd (aA q.lt (by rw[z];exact hb)) (bA _)
 ·exact absurd (aA (aE (I.pin p hp).1) (by rw[z];exact hb)) (bA _)
structure Turn(P:Program)(w:World)(K:PySem.W.Frag)(tg:Expr)(J:It)(fp:List Addr)(it:Addr)(tn:Nat->Heap->Prop):Prop where
 mem:it∈fp
 obj:∀i h,tn i h->∀b∈fp,∃o,h.get? b=some o/\∀v,o.data≠.cell v
 keep:∀i h h',tn i h->(∀b∈fp,∀o,h.get? b=some o->h'.get? b=some o)->tn i h'
 item:∀(X:Cx),X.prog=P->X.w=w->X.K=K->X.calm=true->∀(i:Nat) (pins:List (Addr×Obj)) (s:Shared) (Z:St) (H:Hp) (E:Value->Shared->Prop),Inv X pins Z H s->(∀b∈fp,F1 X pins H b)->tn i s.heap->J.go i H ->
  wpAny (model P w) X.A (pyNext (.ref it)) (λr s1=>∃ u,r=some u /\
   wpAny (model P w) X.A (letOwnedTupleGo tg (.ref it) u) (λ_ s2=>∃ x H',Inv X pins Z H' s2/\RelV x u/\J.qu i H x H'/\tn (i + 1) s2.heap/\∀ b ∈ fp,H' b=none) E s1) E s
 done:∀(X:Cx),X.prog=P->X.w=w->X.K=K->X.calm=true->∀(i:Nat) (pins:List (Addr×Obj)) (s:Shared) (Z:St) (H:Hp) (E:Value->Shared->Prop),Inv X pins Z H s->(∀b∈fp,F1 X pins H b)->tn i s.heap->J.stop i H ->
  wpAny (model P w) X.A (pyNext (.ref it)) (λr s1=>r=none/\Inv X pins Z H s1) E s
 self:∀(A:Around) (i:Nat) (s:Shared) (Q:Value->Shared->Prop) (E:Value->Shared->Prop),tn i s.heap->Q (.ref it) s->wpAny (model P w) A (pyIter (.ref it)) Q E s
noncomputable abbrev TI:=St->Hp->(It->Hp->Prop)->Prop
def ML(X:Cx)(pins:List (Addr×Obj))(Z:St)(tg:Expr)(R:It->Hp->Prop)(vt:Value)(s2:Shared):Prop :=
 ∃(it:Addr) (fp:List Addr) (tn:Nat->Heap->Prop) (J:It) (H':Hp),vt=.ref it/\Inv X pins Z H' s2/\Turn X.prog X.w X.K tg J fp it tn/\tn 0 s2.heap/\(∀b∈fp,F1 X pins H' b)/\R J H'
def PI(X:Cx)(tg iter:Expr)(wi:TI):Prop :=
 ∀(pins:List (Addr×Obj)) (s:Shared) (Z:St) (H:Hp) (R:It->Hp->Prop),Inv X pins Z H s->wi Z H R ->
  wpAny (model X.prog X.w) X.A (eval iter X.env) (λv s1=>wpAny (model X.prog X.w) X.A (pyIter v) (ML X pins Z tg R) X.xe s1) X.xe s
theorem zS{it:Addr}{o:Obj}{n:String}{vs:Array Value}{Q:Unit->Shared->Prop}(ho:s.heap.get? it=some o)(hc:o.cls=.type n)(hd:o.data=.fields vs)(hn:["enumerate","zip","dict_itemiterator","dict_reverseitemiterator","odict_iterator","itertools.zip_longest","itertools.pairwise"].contains n=false)(hQ:Q Unit.unit s):wpAny M A (letOwnedTupleGo tg (.ref it) u) Q E s:=by
  unfold letOwnedTupleGo;cases tg<;>first
    |exact ax hQ
    | (cases u <;> first
        |exact ax hQ
        | (refine ag (wpAny_load ho ?_)
           rw[hc,hd];show wpAny M A (if(["enumerate","zip","dict_itemiterator","dict_reverseitemiterator","odict_iterator","itertools.zip_longest","itertools.pairwise"].contains n&&vs[0]?==some (rawInt _))=true then _ else _) Q E s;rw[aF (by intro h;rw[hn,Bool.false_and] at h;cases h)];exact ax hQ))
def FH(K:PySem.W.Frag)(a:Addr):It :=
 ⟨λi H=>∃xs x,fM K H a xs/\xs[i]?=some x,λi H x H'=>H'=H/\∀xs,fM K H a xs->xs[i]?=some x,λi H=>∃xs,fM K H a xs/\xs.length<=i⟩
def FF(K:PySem.W.Frag)(a:Addr):It :=
 ⟨λi H=>∃xs x,jB K H a xs/\xs[i]?=some x,λi H x H'=>H'=H/\∀xs,jB K H a xs->xs[i]?=some x,λi H=>∃xs,jB K H a xs/\xs.length<=i⟩
def xR(lo:Int)(n:Nat):It:=⟨λi _=>i<n,λi H x H'=>H'=H/\x=.int (lo+i),λi _=>n<=i⟩
theorem aX5(a it:Addr):Turn P w K tg (FH K a) [it] it (λi h=>h.IsListIter it a i) where
 mem:=by simp
 obj:=λi h st b hb=>by
  have e:b=it:=by simpa using hb
  subst e;obtain⟨o,e,c,d⟩:=st;exact⟨o,e,λv z=>by rw[d] at z;cases z⟩
 keep:=λi h h' st k=>st.at λo e=>k it (by simp) o e
 item:=by
  intro X hP hw hK hc i pins s Z H E I hf st hg;subst hP hw hK;obtain⟨xs,x,hq,hx⟩:=hg;obtain⟨bf,rv,p,hz⟩:=I.list hq;obtain⟨u,hu,ru⟩:=rv.get hx;obtain⟨f0,f1,f2,f3,f4,f5⟩:=hf it (by simp);refine wpAny_pyNext_list_item st p.isList (x:=u) (by simpa using hu) λh' mf sb=>?_;have I1:Inv X pins Z H { s with heap:=h' }:=I.turned (t':=s.toks) (λb o hb e=>(sb.2 b hb).trans e) f0 f1 f3 f4 f5;obtain⟨o,e,c,d⟩:=id mf;exact⟨u,rfl,zS (s:={ s with heap:=h' }) e c d ∅ ⟨x,H,I1,ru,⟨rfl,λys hy=>by rw[I.DI hy hq];exact hx⟩,mf,λb hb=>(hf b hb).1⟩⟩
 done:=by
  intro X hP hw hK hc i pins s Z H E I hf st hg;subst hP hw hK;obtain⟨xs,hq,hx⟩:=hg;obtain⟨bf,rv,p,hz⟩:=I.list hq;obtain⟨f0,f1,f2,f3,f4,f5⟩:=hf it (by simp);have hl:=rv.length;exact wpAny_pyNext_list_end (I.ok.hd hc) st p.isList (by simp;omega) λh' eb=>⟨rfl,I.turned (t':=s.toks) (λb o hb e=>eb b o hb e) f0 f1 f3 f4 f5⟩
 self:=λ_ _ _ _ _ st h=>wpAny_pyIter_listiter st h
theorem aQ9(a it:Addr):Turn P w K tg (FF K a) [it] it (λi h=>h.IsTupleIter it a i) where
 mem:=by simp
 obj:=λi h st b hb=>by
  have e:b=it:=by simpa using hb
  subst e;obtain⟨o,e,c,d⟩:=st;exact⟨o,e,λv z=>by rw[d] at z;cases z⟩
 keep:=λi h h' st k=>st.at λo e=>k it (by simp) o e
 item:=by
  intro X hP hw hK hc i pins s Z H E I hf st hg;subst hP hw hK;obtain⟨xs,x,hq,hx⟩:=hg;obtain⟨bf,rv,p,hz⟩:=I.tuple hq;obtain⟨u,hu,ru⟩:=rv.get hx;obtain⟨f0,f1,f2,f3,f4,f5⟩:=hf it (by simp);refine wpAny_pyNext_tuple_item st (show s.heap.IsTuple a bf.toArray from p) (x:=u) (by simpa using hu) λh' mf sb=>?_;have I1:Inv X pins Z H { s with heap:=h' }:=I.turned (t':=s.toks) (λb o hb e=>(sb.2 b hb).trans e) f0 f1 f3 f4 f5;obtain⟨o,e,c,d⟩:=id mf;exact⟨u,rfl,zS (s:={ s with heap:=h' }) e c d ∅ ⟨x,H,I1,ru,⟨rfl,λys hy=>by rw[I.aX7 hy hq];exact hx⟩,mf,λb hb=>(hf b hb).1⟩⟩
 done:=by
  intro X hP hw hK hc i pins s Z H E I hf st hg;subst hP hw hK;obtain⟨xs,hq,hx⟩:=hg;obtain⟨bf,rv,p,hz⟩:=I.tuple hq;obtain⟨f0,f1,f2,f3,f4,f5⟩:=hf it (by simp);have hl:=rv.length;exact wpAny_pyNext_tuple_end (I.ok.hd hc) st (show s.heap.IsTuple a bf.toArray from p) (by simp;omega) λh' eb=>⟨rfl,I.turned (t':=s.toks) (λb o hb e=>eb b o hb e) f0 f1 f3 f4 f5⟩
 self:=λ_ _ _ _ _ st h=>wpAny_pyIter_tupleiter st h
theorem aR1(it:Addr)(lo:Int)(n:Nat):Turn P w K tg (xR lo n) [it] it (λi h=>IsRangeIter h it (lo+(i:Nat)*1) ((n:Int)-(i:Nat)) 1) where
 mem:=by simp
 obj:=λi h st b hb=>by
  have e:b=it:=by simpa using hb
  subst e;exact ⟨_,st,λv z=>by
   have z':Data.fields _=Data.cell v:=z;cases z'⟩
 keep:=λi h h' st k=>k it (by simp) _ st
 item:=by
  intro X hP hw hK hc i pins s Z H E I hf st hg;subst hP hw hK;obtain⟨f0,f1,f2,f3,f4,f5⟩:=hf it (by simp);have W:=Walks.range (prog:=X.prog) (w:=X.w) (I.ok.hd hc) it lo 1 n;refine W.item i s _ _ hg st λv h' tk hv mf kk=>?_;obtain⟨t,rfl⟩:=hv;have I1:Inv X pins Z H { s with heap:=h',toks:=tk }:=I.turned (λb o hb e=>kk b o (by simpa using hb) e) f0 f1 f3 f4 f5;refine⟨_,rfl,zS (s:={ s with heap:=h',toks:=tk }) (n:="range_iterator") mf rfl rfl ∅ ⟨.int (lo+i),H,I1,⟨t,?_⟩,⟨rfl,rfl⟩,mf,λb hb=>(hf b hb).1⟩⟩;rw[Int.mul_one]
 done:=by
  intro X hP hw hK hc i pins s Z H E I hf st hg;subst hP hw hK;obtain⟨f0,f1,f2,f3,f4,f5⟩:=hf it (by simp);exact wpAny_pyNext_range_end (I.ok.hd hc) st (by have:n<=i:=hg;omega) λh' eb=>⟨rfl,I.turned (t':=s.toks) (λb o hb e=>eb b o hb e) f0 f1 f3 f4 f5⟩
 self:=λ_ _ _ _ _ st h=>wpAny_pyIter_rangeiter st h
theorem Ma{R:It->Hp->Prop}{lo hi:Int}{t u v:Tok}{tk:Nat}(I:Inv X pins Z H s)(h1:-(2 ^ 62)<=lo)(h2:lo<2 ^ 62)(h3:-(2 ^ 62)<=hi)(h4:hi<2 ^ 62)(q:R (xR lo (hi-lo).toNat) H):wpAny (model X.prog X.w) X.A (pyIter (.ref s.heap.objs.size)) (ML X pins Z tg R) E { s with heap:=s.heap.push { cls:=.type "range",data:=.fields #[.int lo t,.int hi u,.int 1 v] },toks:=tk }:=by
 refine wpAny_pyIter_range (IsRange.new ..) (small_one h1 h2 h3 h4) ?_;have I1:Inv X pins Z H { s with heap:=s.heap.push { cls:=.type "range",data:=.fields #[.int lo t,.int hi u,.int 1 v] },toks:=tk }:=I.kept λb o e=>aw _ e;refine ⟨(s.heap.push { cls:=.type "range",data:=.fields #[.int lo t,.int hi u,.int 1 v] }).objs.size,[(s.heap.push { cls:=.type "range",data:=.fields #[.int lo t,.int hi u,.int 1 v] }).objs.size],_,_,H,rfl,
  I1.kept (t':=tk) λb o e=>aw _ e,aR1 _ lo (hi - lo).toNat,?_,λb hb=>?_,q⟩
 ·have e1:lo+((0:Nat):Int)*1=lo:=by simp
  have e2:(((hi-lo).toNat:Nat):Int)-((0:Nat):Int)=Builtin.Range.rangeSize lo hi 1:=by rw[rangeSize_one];split<;>omega
  show IsRangeIter _ _ (lo+((0:Nat):Int)*1) ((((hi-lo).toNat:Nat):Int)-((0:Nat):Int)) 1;rw[e1,e2];exact aG _ rfl
 ·have e:b=(s.heap.push { cls:=.type "range",data:=.fields #[.int lo t,.int hi u,.int 1 v] }).objs.size:=by simpa using hb
  subst e;exact I1.qf (ay _) (I1.bR.fresh (ay _))
def XB(ta:TA):TI:=λZ H R=>ta Z H λvs H1=>∃j:Int,vs=[.int j]/\-(2 ^ 62)<=j/\j<2 ^ 62/\R (xR 0 j.toNat) H1
def XC(ta:TA):TI:=λZ H R=>ta Z H λvs H1=>∃i j:Int,vs=[.int i,.int j]/\(-(2 ^ 62)<=i/\i<2 ^ 62/\-(2 ^ 62)<=j/\j<2 ^ 62)/\R (xR i (j-i).toNat) H1
theorem a04{a:Expr}{ta:TA}(hg:Gl X "range")(hm:X.mg "range"=none)(ha:PA X [a] ta)(hs:starEach [a] X.env=[(false,eval a X.env)]:=by rfl):PI X tg (.Call (.Name "range" p) [a] [] pos) (XB ta):=by
 intro pins s Z H R I h;refine Call_ (O2 I hg hm boot_range (bQ (cI (ha pos pins s Z H _ I h) λus s1 bq=>?_) hs rfl));obtain⟨vs,H1,I1,r1,q1⟩:=bq;obtain⟨j,e,q1,q2,q⟩:=q1;subst e;cases r1 with
 |cons r rr =>
  cases rr;obtain⟨t,rfl⟩:=r;exact call_range_1 (Ma I1 () () q1 q2 (by simpa using q))
theorem a03{a b:Expr}{ta:TA}(hg:Gl X "range")(hm:X.mg "range"=none)(ha:PA X [a,b] ta)(hs:starEach [a,b] X.env=[(false,eval a X.env),(false,eval b X.env)]:=by rfl)(iR:starEach [b] X.env=[(false,eval b X.env)]:=by rfl) :
  PI X tg (.Call (.Name "range" p) [a,b] [] pos) (XC ta):=by
 intro pins s Z H R I h;refine Call_ (O2 I hg hm boot_range (bQ (cI (ha pos pins s Z H _ I h) λus s1 bq=>?_) (by rw[hs,iR]) (by rw[iR];rfl)));obtain⟨vs,H1,I1,r1,q1⟩:=bq;obtain⟨i,j,e,⟨q1,q2,q3,q4⟩,q⟩:=q1;subst e;cases r1 with
 |cons r rr =>
  cases rr with
  |cons r' rr =>
   cases rr;obtain⟨t,rfl⟩:=r;obtain⟨t',rfl⟩:=r';exact call_range_2 (Ma I1 q1 q2 q3 q4 q)
def WJ(wi:TI)(g:TG)(tb:TS):TS:=λD Z H=>wi Z H λJ H1=>∃W:Nat->Nat->St->Hp->Prop,(∃m,W 0 m Z H1)/\∀i m Z H,W i m Z H ->
 (J.stop i H/\D.nx Z H)\/(J.go i H/\∃N:St->Hp->Prop,(∀bY H',N bY H'->∃m',m'<m/\W (i+1) m' bY H')/\∀x H',J.qu i H x H'->g x Z H' λcA H2=>tb { D with nx:=N,ct:=N,bk:=D.nx } cA H2)
def Z8(fp:List Addr)(h:Heap):List (Addr×Obj):=fp.filterMap λb=>(h.get? b).map λo=>(b,o)
theorem T6{o:Obj}(hb:b∈fp)(e:h.get? b=some o):(b,o)∈Z8 fp h:=km.mpr ⟨b,hb,by rw[e];rfl⟩
theorem a19{p:Addr×Obj}(hp:p∈Z8 fp h):p.1∈fp/\h.get? p.1=some p.2:=by
 obtain⟨b,hb,e⟩:=km.mp hp;cases q:h.get? b with
 |none=>rw[q] at e;cases e
 |some o =>
  rw[q] at e;have e':(b,o)=p:=aO e;subst e';exact⟨hb,q⟩
theorem Inv.pinned(I:Inv X pins Z H s)(hf:∀b∈fp,F1 X pins H b)(ho:∀b∈fp,∃o,s.heap.get? b=some o/\∀v,o.data≠.cell v):Inv X (pins++Z8 fp s.heap) Z H s :=
 I.M7 λp hp=>(aZ.mp hp).elim (λz=>I.pin p (bu _ z)) λz=>by
  obtain⟨hb,e⟩:=a19 z;obtain⟨f0,f1,f2,_⟩:=hf p.1 hb;obtain⟨o,e',d⟩:=ho p.1 hb;rw[e] at e';cases e';exact⟨e,f0,f1,f2,d⟩
theorem Inv.DV{pl:List (Addr×Obj)}(I:Inv X (pins++pl) Z H s):Inv X pins Z H s:=I.M7 λp hp=>I.pin p (bu _ (dq _ hp))
theorem Rq{iter:Expr}{wi:TI}{g:TG}{tb:TS}(hp:PassesOwn (model X.prog X.w) X.A X.env X.xe)(hc:X.calm=true)(hi:PI X tg iter wi)(hg:PG X tg g)(hb:ju X body tb)(hs:∀x,foldedSetIterable iter X.env x=pure x:=by intro _;rfl):PS X (.For tg iter body [] pos) (WJ wi g tb):=by
 intro pins s Z H D I h;refine wpAny_For (cI (hi pins s Z H _ I h) λv s1 h1=>cI h1 λvt s2 h2=>?_) hs;obtain⟨it,fp,tn,J,H2,e,I2,T,lp,f2,W,⟨m0,w0⟩,turn⟩:=h2;subst e;have qy:∀{H':Hp},(∀b∈fp,H' b=none)->∀b∈fp,F1 X pins H' b:=λhn b hb=>⟨hn b hb,(f2 b hb).2⟩
 refine codeAny_forLoop_any (λn s'=>∃i bY H',Inv X pins bY H' s'/\tn i s'.heap/\(∀b∈fp,H' b=none)/\W i n bY H') ?_ m0 ⟨0,Z,H2,I2,lp,λb hb=>(f2 b hb).1,w0⟩;rintro n s3 ⟨i,iK,H3,I3,pK,pZ,w3⟩;rcases turn i n iK H3 w3 with⟨stop,qn⟩|⟨go,N,hN,step⟩
 ·refine eF hp (cI (T.done X rfl rfl rfl hc i pins s3 iK H3 X.xe I3 (qy pZ) pK stop) λr s4 ⟨hr,I4⟩=>?_);subst hr;exact ke ⟨iK,H3,I4,qn⟩
 ·refine eF hp (cI (T.item X rfl rfl rfl hc i pins s3 iK H3 X.xe I3 (qy pZ) pK go) λr s4 ⟨u,hr,h4⟩=>?_);subst hr;refine eF hp (cI h4 λ_ s5 bq=>?_);obtain⟨x,H5,I5,r5,y5,nh,wC⟩:=bq;have xS:=I5.pinned (qy wC) (T.obj _ _ nh);refine eF hp (cI (hg _ s5 iK H5 x u _ xS r5 (step x H5 y5)) λ_ s6 bq=>?_);obtain⟨lV,H6,I6,q6⟩:=bq;refine eF hp (cI (hb _ s6 lV H6 _ I6 q6) λf s7 q7=>?_);have again:∀{mZ:St} {H7:Hp},Inv X (pins++Z8 fp s5.heap) mZ H7 s7->N mZ H7->∃m,m<n/\∃i bY H',Inv X pins bY H' s7/\tn i s7.heap/\(∀b∈fp,H' b=none)/\W i m bY H':=λ{mZ H7} I7 n7=>by
   obtain⟨m',hm,w7⟩:=hN mZ H7 n7;refine⟨m',hm,i+1,mZ,H7,I7.DV,T.keep _ _ _ nh λb hb o e=>(I7.pin (b,o) (bu _ (bu _ (T6 hb e)))).1,λb hb=>?_,w7⟩;obtain⟨o,e,d⟩:=T.obj _ _ nh b hb;exact(I7.pin (b,o) (bu _ (bu _ (T6 hb e)))).2.1
  cases f with
  |next=>obtain⟨mZ,H7,I7,n7⟩:=q7;exact again I7 n7
  |cont=>obtain⟨mZ,H7,I7,n7⟩:=q7;exact again I7 n7
  |brk=>obtain⟨mZ,H7,I7,q7⟩:=q7;exact⟨mZ,H7,I7.DV,q7⟩
  |ret v=>obtain⟨x7,mZ,H7,I7,r7,q7⟩:=q7;exact⟨x7,mZ,H7,I7.DV,r7,q7⟩
noncomputable abbrev R2:=V->V->Hp->VK->Prop
def gi(X:Cx)(f:Value->Value->Sem Value)(r:R2):Prop :=
 ∀(pins:List (Addr×Obj)) (s:Shared) (Z:St) (H:Hp) (x y:V) (v u:Value) (Q:VK),Inv X pins Z H s->RelV x v->RelV y u->r x y H Q ->
  wpAny (model X.prog X.w) X.A (f v u) (EP X pins Z Q) X.xe s
def zX(X:Cx)(f:Value->Sem Value)(r:V->Hp->VK->Prop):Prop :=
 ∀(pins:List (Addr×Obj)) (s:Shared) (Z:St) (H:Hp) (x:V) (v:Value) (Q:VK),Inv X pins Z H s->RelV x v->r x H Q ->
  wpAny (model X.prog X.w) X.A (f v) (EP X pins Z Q) X.xe s
def m8(X:Cx)(f:Value)(r:List V->Hp->VK->Prop):Prop :=
 ∀(pins:List (Addr×Obj)) (s:Shared) (Z:St) (H:Hp) (xs:List V) (us:List Value) (Q:VK),Inv X pins Z H s->Vals xs us->r xs H Q ->
  wpAny (model X.prog X.w) X.A (call f us) (EP X pins Z Q) X.xe s
def VB(X:Cx)(r:V->Hp->(Bool->Hp->Prop)->Prop):Prop :=
 ∀(pins:List (Addr×Obj)) (s:Shared) (Z:St) (H:Hp) (x:V) (v:Value) (Q:Bool->Hp->Prop),Inv X pins Z H s->RelV x v->r x H Q ->
  wpAny (model X.prog X.w) X.A (truthy v) (TP X pins Z Q) X.xe s
def sU(r:R2)(ta tb:TE):TE:=λZ H Q=>ta Z H λx H1=>tb Z H1 λy H2=>r x y H2 Q
def Nr(r:V->Hp->VK->Prop)(ta:TE):TE:=λZ H Q=>ta Z H λx H1=>r x H1 Q
def rI(C:Int->Int->Prop)(g:Int->Int->V):R2:=λx y H Q=>∃i j,x=.int i/\y=.int j/\C i j/\Q (g i j) H
def mK(g:Int->Int->V):R2:=λx y H Q=>∃i j,x=.int i/\y=.int j/\Q (g i j) H
def rU(g:Int->V):V->Hp->VK->Prop:=λx H Q=>∃i,x=.int i/\Q (g i) H
section
variable{a b:Expr}
theorem CV(ha:PE X a ta)(hb:PE X b tb){R:V->V->Hp->Prop}(I:Inv X pins Z H s)(h:ta Z H λx H1=>tb Z H1 λy H2=>R x y H2){f:Value->Value->Sem Value}(hf:∀v u s2 x y H2,Inv X pins Z H2 s2->RelV x v->RelV y u->R x y H2->wpAny (model X.prog X.w) X.A (f v u) Q X.xe s2) :
  wpAny (model X.prog X.w) X.A (eval a X.env) (λv cj=>wpAny (model X.prog X.w) X.A (eval b X.env) (λu gP=>wpAny (model X.prog X.w) X.A (f v u) Q X.xe gP) X.xe cj) X.xe s:=by
 refine cI (ha pins s Z H _ I h) λv s1 bq=>?_;obtain⟨x,H1,I1,r1,q1⟩:=bq;refine cI (hb pins s1 Z H1 _ I1 q1) λu s2 bq=>?_;obtain⟨y,H2,I2,r2,q2⟩:=bq;exact hf v u s2 x y H2 I2 r1 r2 q2
theorem Ym{op:Operator}(ho:gi X (binaryOp op) r)(ha:PE X a ta)(hb:PE X b tb):PE X (.BinOp a op b pos) (sU r ta tb):=by
 intro pins s Z H Q I h;exact wpAny_BinOp (CV ha hb I h λv u s2 x y H2 I2 rx ry q=>ho pins s2 Z H2 x y v u Q I2 rx ry q)
theorem Yo{op:UnaryOp}{r:V->Hp->VK->Prop}(ho:zX X (unaryOp op) r)(ha:PE X a ta):PE X (.UnaryOp op a pos) (Nr r ta):=by
 intro pins s Z H Q I h;exact UnaryOp_ (cI (ha pins s Z H _ I h) λv s1 ⟨x,H1,I1,r1,q1⟩=>ho pins s1 Z H1 x v Q I1 r1 q1)
theorem uV{f:Value->Value->Sem Value}{C:Int->Int->Prop}{g:Int->Int->Int}(rule:∀(i j:Int) (t u:Tok) (s:Shared) (Q:Value->Shared->Prop) (E:Value->Shared->Prop),C i j->Q (.int (g i j) s.toks) { s with toks:=s.toks+1 }->wpAny (model X.prog X.w) X.A (f (.int i t) (.int j u)) Q E s) :
  gi X f (rI C λi j=>.int (g i j)):=by
 intro pins s Z H x y v u Q I rx ry h;obtain⟨i,j,rfl,rfl,hc,q⟩:=h;obtain⟨t,rfl⟩:=rx;obtain⟨t',rfl⟩:=ry;exact rule i j t t' s _ _ hc ⟨.int (g i j),H,I.tok _,⟨_,rfl⟩,q⟩
theorem tX{f:Value->Value->Sem Value}{g:Int->Int->Int}(rule:∀(i j:Int) (t u:Tok) (s:Shared) (Q:Value->Shared->Prop) (E:Value->Shared->Prop),Q (.int (g i j) s.toks) { s with toks:=s.toks+1 }->wpAny (model X.prog X.w) X.A (f (.int i t) (.int j u)) Q E s) :
  gi X f (mK λi j=>.int (g i j)):=by
 intro pins s Z H x y v u Q I rx ry h;obtain⟨i,j,rfl,rfl,q⟩:=h;obtain⟨t,rfl⟩:=rx;obtain⟨t',rfl⟩:=ry;exact rule i j t t' s _ _ ⟨.int (g i j),H,I.tok _,⟨_,rfl⟩,q⟩
theorem zJ{f:Value->Value->Sem Value}{g:Int->Int->Bool}(rule:∀(i j:Int) (t u:Tok) (s:Shared) (Q:Value->Shared->Prop) (E:Value->Shared->Prop),Q (.bool (g i j)) s->wpAny (model X.prog X.w) X.A (f (.int i t) (.int j u)) Q E s) :
  gi X f (mK λi j=>.bl (g i j)):=by
 intro pins s Z H x y v u Q I rx ry h;obtain⟨i,j,rfl,rfl,q⟩:=h;obtain⟨t,rfl⟩:=rx;obtain⟨t',rfl⟩:=ry;exact rule i j t t' s _ _ ⟨.bl (g i j),H,I,rfl,q⟩
def CP(i j:Int):Prop:=0<j/\j<1073741824
def Z5(i j:Int):Prop:=0<=j/\j<=1000000/\i.natAbs<2 ^ 64
def rZ(i j:Int):Prop:=(-(2 ^ 64)<i/\i<2 ^ 64)\/(-(2 ^ 64)<j/\j<2 ^ 64)
theorem rZ.ok{i j:Int}(h:rZ i j):IntMulOk i j:=by
 rcases h with⟨h1,h2⟩|⟨h1,h2⟩
 ·exact .of_left (intBits_le_64 h1 h2)
 ·exact .of_right (intBits_le_64 h1 h2)
theorem QL:gi X (binaryOp .Add) (mK λi j=>.int (i+j)):=tX λ_ _ _ _ _ _ _ q=>add_int q
theorem QV:gi X (binaryOp .Sub) (mK λi j=>.int (i-j)):=tX λ_ _ _ _ _ _ _ q=>sub_int q
theorem QR:gi X (binaryOp .Mult) (rI rZ λi j=>.int (i*j)):=uV λ_ _ _ _ _ _ _ hc q=>mul_int q hc.ok
theorem Tp:gi X (binaryOp .FloorDiv) (rI CP λi j=>.int (i / j)):=uV λi j _ _ _ _ _ hc q=>by
 have h1:(0:Int)<j:=hc.1;have h2:j<1073741824:=hc.2;exact floordiv_int () (by rw[Int.fdiv_eq_ediv_of_nonneg i ()];exact q) (.inl (PyProof.noPylong_small ()))
theorem QQ:gi X (binaryOp .Mod) (rI (λ_ j=>0<j) λi j=>.int (i % j)):=uV λi j _ _ _ _ _ hc q=>by
 have h1:(0:Int)<j:=hc;exact mod_int' () (by rw[Int.fmod_eq_emod_of_nonneg i ()];exact q)
theorem QS:gi X (binaryOp .Pow) (rI Z5 λi j=>.int (i ^ j.toNat)):=uV λ_ _ _ _ _ _ _ hc q=>pow_int_small hc.1 hc.2.1 hc.2.2 q
theorem QU:gi X (binaryOp .LShift) (rI Z5 λi j=>.int (i*2 ^ j.toNat)):=uV λ_ _ _ _ _ _ _ hc q=>lshift_int_small hc.1 hc.2.1 hc.2.2 q
theorem QM:gi X (binaryOp .BitAnd) (mK λi j=>.int (Builtin.bitAnd i j)):=tX λ_ _ _ _ _ _ _ q=>and_int q
theorem Yg:gi X (binaryOp .BitOr) (mK λi j=>.int (Builtin.bitOr i j)):=tX λ_ _ _ _ _ _ _ q=>or_int q
theorem SW:gi X (inplaceOp .Add) (mK λi j=>.int (i+j)):=tX λ_ _ _ _ _ _ _ q=>iadd_int q
theorem SX:gi X (inplaceOp .Sub) (mK λi j=>.int (i-j)):=tX λ_ _ _ _ _ _ _ q=>isub_int q
theorem Np{f:Value->Sem Value}{g:Int->Int}(rule:∀(i:Int) (t:Tok) (s:Shared) (Q:Value->Shared->Prop) (E:Value->Shared->Prop),Q (.int (g i) s.toks) { s with toks:=s.toks+1 }->wpAny (model X.prog X.w) X.A (f (.int i t)) Q E s) :
  zX X f (rU λi=>.int (g i)):=by
 intro pins s Z H x v Q I rx h;obtain⟨i,rfl,q⟩:=h;obtain⟨t,rfl⟩:=rx;exact rule i t s _ _ ⟨.int (g i),H,I.tok _,⟨_,rfl⟩,q⟩
theorem Sw:zX X (unaryOp .USub) (rU λi=>.int (-i)):=Np λ_ _ _ _ _ q=>neg_int q
end
def Ij:V->V->Bool
 |.bN,.bN=>true|.bN,.int _=>true|.int _,.bN=>true|.bN,.bl _=>true|.bl _,.bN=>true|.bN,.str _=>true|.str _,.bN=>true
 |.int _,.int _=>true|.bl _,.bl _=>true|.str _,.str _=>true|.lN _,.lN _=>true
 |.int _,.str _=>true|.str _,.int _=>true|.bl _,.str _=>true|.str _,.bl _=>true
 |_,_=>false
def NJ:R2:=λx y H Q=>Ij x y=true/\Q (.bl (decide (x=y))) H
def NI:R2:=λx y H Q=>Ij x y=true/\Q (.bl (!decide (x=y))) H
theorem za{i j:Int}:decide (V.int i=V.int j)=(i==j):=by
 rw[aU];simp
theorem yO{i j:Bool}:decide (V.bl i=V.bl j)=(i==j):=by
 rw[aU];simp
theorem zb{i j:Str}:decide (V.str i=V.str j)=(i==j):=by
 rw[aU];simp
theorem KN{i j:Array UInt8}:decide (V.lN i=V.lN j)=(i.toList==j.toList):=by
 rw[aU];cases i;cases j;simp
section
variable{a b:Expr}{tc:TE}
theorem l6{Q:VK}{k k':Bool}(I:Inv X pins Z H s)(q:Q (.bl k) H)(e:k=k'):EP X pins Z Q (.bool k') s:=by
 subst e;exact⟨.bl k,H,I,rfl,q⟩
theorem EF:gi X (compareOp .Eq) NJ:=by
 intro pins s Z H x y v u Q I rx ry h;obtain⟨hs,q⟩:=h;cases x with
 |bN =>
  cases rx;cases y with
  |bN=>cases ry;exact PySem.EqNone.eq_none_none (l6 I q (by simp))
  |bl j=>cases ry;exact PySem.EqNone.eq_none_bool (l6 I q (by simp))
  |int j=>obtain⟨t',rfl⟩:=ry;exact PySem.EqNone.eq_none_int (l6 I q (by simp))
  |str j=>obtain⟨t',rfl⟩:=ry;exact PySem.EqNone.eq_none_str (l6 I q (by simp))
  |_=>exact absurd (show false=true from hs) Bool.false_ne_true
 |bl i =>
  cases rx;cases y with
  |bN=>cases ry;exact PySem.EqNone.eq_bool_none (l6 I q (by simp))
  |bl j=>cases ry;exact eq_bool (l6 I q yO)
  |str j=>obtain⟨t',rfl⟩:=ry;exact PySem.EqMixed.eq_bool_str (l6 I q (by simp))
  |_=>exact absurd (show false=true from hs) Bool.false_ne_true
 |int i =>
  obtain⟨t,rfl⟩:=rx;cases y with
  |bN=>cases ry;exact PySem.EqNone.eq_int_none (l6 I q (by simp))
  |int j=>obtain⟨t',rfl⟩:=ry;exact eq_int (l6 I q za)
  |str j=>obtain⟨t',rfl⟩:=ry;exact PySem.EqMixed.eq_int_str (l6 I q (by simp))
  |_=>exact absurd (show false=true from hs) Bool.false_ne_true
 |str i =>
  obtain⟨t,rfl⟩:=rx;cases y with
  |bN=>cases ry;exact PySem.EqNone.eq_str_none (l6 I q (by simp))
  |bl j=>cases ry;exact PySem.EqMixed.eq_str_bool (l6 I q (by simp))
  |int j=>obtain⟨t',rfl⟩:=ry;exact PySem.EqMixed.eq_str_int (l6 I q (by simp))
  |str j=>obtain⟨t',rfl⟩:=ry;exact eq_str (l6 I q zb)
  |_=>exact absurd (show false=true from hs) Bool.false_ne_true
 |lN i =>
  obtain⟨t,rfl⟩:=rx;cases y with
  |lN j=>obtain⟨t',rfl⟩:=ry;exact PySem.W.eq_bytes (l6 I q KN)
  |_=>exact absurd (show false=true from hs) Bool.false_ne_true
 |_=>cases y<;>exact absurd (show false=true from hs) dO
theorem EG:gi X (compareOp .NotEq) NI:=by
 intro pins s Z H x y v u Q I rx ry h;obtain⟨hs,q⟩:=h;cases x with
 |bN =>
  cases rx;cases y with
  |bN=>cases ry;exact PySem.EqNone.ne_none_none (l6 I q (by simp))
  |bl j=>cases ry;exact PySem.EqNone.ne_none_bool (l6 I q (by simp))
  |int j=>obtain⟨t',rfl⟩:=ry;exact PySem.EqNone.ne_none_int (l6 I q (by simp))
  |str j=>obtain⟨t',rfl⟩:=ry;exact PySem.EqNone.ne_none_str (l6 I q (by simp))
  |_=>exact absurd (show false=true from hs) Bool.false_ne_true
 |bl i =>
  cases rx;cases y with
  |bN=>cases ry;exact PySem.EqNone.ne_bool_none (l6 I q (by simp))
  |bl j=>cases ry;exact ne_bool (l6 I q (congrArg not yO))
  |str j=>obtain⟨t',rfl⟩:=ry;exact PySem.EqMixed.ne_bool_str (l6 I q (by simp))
  |_=>exact absurd (show false=true from hs) Bool.false_ne_true
 |int i =>
  obtain⟨t,rfl⟩:=rx;cases y with
  |bN=>cases ry;exact PySem.EqNone.ne_int_none (l6 I q (by simp))
  |int j=>obtain⟨t',rfl⟩:=ry;exact ne_int (l6 I q (congrArg not za))
  |str j=>obtain⟨t',rfl⟩:=ry;exact PySem.EqMixed.ne_int_str (l6 I q (by simp))
  |_=>exact absurd (show false=true from hs) Bool.false_ne_true
 |str i =>
  obtain⟨t,rfl⟩:=rx;cases y with
  |bN=>cases ry;exact PySem.EqNone.ne_str_none (l6 I q (by simp))
  |bl j=>cases ry;exact PySem.EqMixed.ne_str_bool (l6 I q (by simp))
  |int j=>obtain⟨t',rfl⟩:=ry;exact PySem.EqMixed.ne_str_int (l6 I q (by simp))
  |str j=>obtain⟨t',rfl⟩:=ry;exact ne_str (l6 I q (congrArg not zb))
  |_=>exact absurd (show false=true from hs) Bool.false_ne_true
 |lN i =>
  obtain⟨t,rfl⟩:=rx;cases y with
  |lN j=>obtain⟨t',rfl⟩:=ry;exact PySem.W.ne_bytes (l6 I q (congrArg not KN))
  |_=>exact absurd (show false=true from hs) Bool.false_ne_true
 |_=>cases y<;>exact absurd (show false=true from hs) dO
theorem Yf:gi X (compareOp .Lt) (mK λi j=>.bl (decide (i<j))):=zJ λ_ _ _ _ _ _ _ q=>lt_int q
theorem Ye:gi X (compareOp .LtE) (mK λi j=>.bl (decide (i<=j))):=zJ λ_ _ _ _ _ _ _ q=>le_int q
theorem Yd:gi X (compareOp .Gt) (mK λi j=>.bl (decide (j<i))):=zJ λ_ _ _ _ _ _ _ q=>gt_int q
theorem Yc:gi X (compareOp .GtE) (mK λi j=>.bl (decide (j<=i))):=zJ λ_ _ _ _ _ _ _ q=>ge_int q
theorem QP:gi X (compareOp .Is) (λx y H Q=>y=.bN/\Q (.bl (decide (x=.bN))) H):=by
 intro pins s Z H x y v u Q I rx ry h;obtain⟨rfl,q⟩:=h;cases ry;refine is_none_gen (l6 I q ?_);cases x<;>first
  |(cases rx;rfl)
  |(obtain⟨t,rfl⟩:=rx;rfl)
theorem Tq:gi X (compareOp .IsNot) (λx y H Q=>y=.bN/\Q (.bl (!decide (x=.bN))) H):=by
 intro pins s Z H x y v u Q I rx ry h;obtain⟨rfl,q⟩:=h;cases ry;refine isnot_none_gen (l6 I q ?_);cases x<;>first
  |(cases rx;rfl)
  |(obtain⟨t,rfl⟩:=rx;rfl)
theorem Lf(ho:gi X (compareOp op) r)(ha:PE X a ta)(hb:PE X b tb)(hm:behindInMarks op b=false):PE X (.Compare a [op] [b] pos) (sU r ta tb):=by
 intro pins s Z H Q I h;exact wpAny_Compare1 (CV ha hb I h λv u s2 x y H2 I2 rx ry q=>ho pins s2 Z H2 x y v u Q I2 rx ry q) hm
def EN(t:TE):TT:=λZ H Q=>t Z H λx H'=>∃k,x=.bl k/\Q k H'
theorem Ll(ho:gi X (compareOp op) r)(ha:PE X a ta)(hb:PE X b tb)(hm:behindInMarks op b=false):PT X (.Compare a [op] [b] pos) (EN (sU r ta tb)):=by
 intro pins s Z H Q I h;refine wpAny_isTrue_Compare1 (cI (ha pins s Z H _ I h) λv s1 ⟨x,H1,I1,r1,q1⟩=>cI (hb pins s1 Z H1 _ I1 q1) λu s2 ⟨y,H2,I2,r2,q2⟩ =>
  cI (ho pins s2 Z H2 x y v u _ I2 r1 r2 q2) λc s3 ⟨z,H3,I3,r3,k,e,q3⟩=>?_) hm
 subst e;cases r3;exact cG ⟨H3,I3,q3⟩
def Fp(r r':R2)(ta tb tc:TE):TE:=λZ H Q=>ta Z H λx H1=>tb Z H1 λy H2=>r x y H2 λz H3=>∃k,z=.bl k /\
 (if k=true then tc Z H3 λw' H4=>r' y w' H4 Q else Q (.bl false) H3)
theorem Vn{iF:CmpOp}{r':R2}(ho:gi X (compareOp op) r)(kH:gi X (compareOp iF) r')(ha:PE X a ta)(hb:PE X b tb)(hc:PE X c tc)(hm:lastMarks [op,iF] [b,c]=false:=by with_unfolding_all rfl):PE X (.Compare a [op,iF] [b,c] pos) (Fp r r' ta tb tc):=by
 intro pins s Z H Q I h;refine Compare_chain (cI (ha pins s Z H _ I h) λv s1 ⟨x,H1,I1,r1,q1⟩=>chain_link (cI (hb pins s1 Z H1 _ I1 q1) λu s2 ⟨y,H2,I2,r2,q2⟩ =>
  cI (ho pins s2 Z H2 x y v u _ I2 r1 r2 q2) λd s3 ⟨z,H3,I3,r3,k,e,q3⟩=>?_)) hm
 subst e;cases r3;refine cG ?_;cases k with
 |false=>exact ite_ff ⟨.bl false,H3,I3,rfl,q3⟩
 |true=>exact ite_tt (chain_last (cI (hc pins s3 Z H3 _ I3 q3) λw' s4 ⟨z',H4,I4,r4,q4⟩=>kH pins s4 Z H4 y z' u w' Q I4 r2 r4 q4))
theorem Vz{iF:CmpOp}{r':R2}(ho:gi X (compareOp op) r)(kH:gi X (compareOp iF) r')(ha:PE X a ta)(hb:PE X b tb)(hc:PE X c tc)(hm:lastMarks [op,iF] [b,c]=false:=by with_unfolding_all rfl):PT X (.Compare a [op,iF] [b,c] pos) (EN (Fp r r' ta tb tc)):=by
 intro pins s Z H Q I h;refine isTrue_chain (cI (ha pins s Z H _ I h) λv s1 ⟨x,H1,I1,r1,q1⟩=>test_link (cI (hb pins s1 Z H1 _ I1 q1) λu s2 ⟨y,H2,I2,r2,q2⟩ =>
  cI (ho pins s2 Z H2 x y v u _ I2 r1 r2 q2) λd s3 ⟨z,H3,I3,r3,k,e,q3⟩=>?_)) hm
 subst e;cases r3;refine cG ?_;cases k with
 |false =>
  obtain⟨k',e',q'⟩:=q3;cases e';exact ite_ff ⟨H3,I3,q'⟩
 |true =>
  refine ite_tt (test_last (cI (hc pins s3 Z H3 _ I3 q3) λw' s4 ⟨z',H4,I4,r4,q4⟩=>cI (kH pins s4 Z H4 y z' u w' _ I4 r2 r4 q4) λd' s5 bq=>?_));obtain⟨z2,H5,I5,r5,k2,e2,q5⟩:=bq;subst e2;cases r5;exact cG ⟨H5,I5,q5⟩
def CT(K:PySem.W.Frag)(x:V)(H:Hp)(k:Bool):Prop :=
 match x with
 |.bN=>k=false
 |.bl b=>k=b
 |.int i=>k=(i != 0)
 |.str y=>y.length<=sizeLine/\k=((y.length:Int) != 0)
 |.lN y=>y.size<=sizeLine/\k=((y.size:Int) != 0)
 |.ref p=>(∃xs,fM K H p xs/\k=!xs.isEmpty)\/(∃xs,jB K H p xs/\k=!xs.isEmpty)\/∃kvs,H p=some (.dK kvs)/\k=!kvs.isEmpty
 |_=>False
theorem aU8{κ:Type}{kvs:List (κ×V)}{vs:List (κ×Value)}(r:KV kvs vs):(!vs.isEmpty)=!kvs.isEmpty:=by
 cases r<;>rfl
theorem JO{bf:List Value}(r:Vals xs bf):(!bf.toArray.isEmpty)=!xs.isEmpty:=by
 cases r<;>simp
theorem W0:(sizeLine:Nat)<2 ^ 63:=by rw[kT];decide
theorem Su:VB X (λx H Q=>∃k,CT X.K x H k/\Q k H):=by
 intro pins s Z H x v Q I rx h;obtain⟨k,e,q⟩:=h;have hl:=W0;have hs:sizeLine=16777216:=kT;cases x with
 |bN =>
  cases rx;have e':k=false:=e;subst e';exact truthy_none ⟨H,I,q⟩
 |bl b =>
  cases rx;have e':k=b:=e;subst e';exact cG ⟨H,I,q⟩
 |int i =>
  obtain⟨t,rfl⟩:=rx;have e':k=(i != 0):=e;subst e';exact PySem.P.truthy_int ⟨H,I,q⟩
 |str y =>
  obtain⟨t,rfl⟩:=rx;obtain⟨hy,e'⟩:y.length<=sizeLine/\k=((y.length:Int) != 0):=e;subst e';exact PySem.P.truthy_str () ⟨H,I.tok _,q⟩
 |lN y =>
  obtain⟨t,rfl⟩:=rx;obtain⟨hy,e'⟩:y.size<=sizeLine/\k=((y.size:Int) != 0):=e;subst e';exact PySem.W.truthy_bytes () ⟨H,I.tok _,q⟩
 |ref p =>
  cases rx;have e':(∃xs,fM X.K H p xs/\k=!xs.isEmpty)\/(∃xs,jB X.K H p xs/\k=!xs.isEmpty)\/∃kvs,H p=some (.dK kvs)/\k=!kvs.isEmpty:=e;rcases e' with⟨xs,hx,e'⟩|⟨xs,hx,e'⟩|⟨kvs,hx,e'⟩
  ·subst e';obtain⟨bf,r,pl,hz⟩:=I.list hx;have hlen:=r.length;exact wpAny_truthy_list pl.isList (by simp only[List.size_toArray];omega) ⟨H,I.tok _,by rw[JO r];exact q⟩
  ·subst e';obtain⟨bf,r,pl,hz⟩:=I.tuple hx;have hlen:=r.length;exact truthy_tuple pl (by simp only[List.size_toArray];omega) ⟨H,I.tok _,by rw[JO r];exact q⟩
  ·subst e';obtain⟨hz,hS,vs,r,m⟩:kvs.length<=sizeLine/\(p==sysModules)=false/\∃vs,KV kvs vs/\s.heap.DictOf (u5 X.prog X.w) p vs:=I.bR p _ hx;have hlen:kvs.length=vs.length:=mF r;exact wpAny_truthy_dict hS m () ⟨H,I.tok _,by rw[aU8 r];exact q⟩
 |_=>exact(show False from e).elim
theorem VA(ha:PE X a ta)(he:∀whole,isTrue a X.env whole=(do let v <- whole;standAt a.pos;holding [v] (truthy v))) :
  PT X a (λZ H Q=>ta Z H λx H'=>∃k,CT X.K x H' k/\Q k H'):=by
 intro pins s Z H Q I h;exact isTrue_plain (cI (ha pins s Z H _ I h) λv s1 ⟨x,H1,I1,r1,q1⟩=>Su pins s1 Z H1 x v Q I1 r1 q1) (he _)
theorem aT3:gi X (binaryOp .Add) (λx y H Q=>∃i j,x=.str i/\y=.str j/\i.length+j.length<=sizeLine/\Q (.str (i++j)) H):=by
 intro pins s Z H x y v u Q I rx ry h;obtain⟨i,j,rfl,rfl,hz,q⟩:=h;obtain⟨t,rfl⟩:=rx;obtain⟨t',rfl⟩:=ry;exact add_str (λt' tk=>⟨.str (i++j),H,I.tok _,⟨_,rfl⟩,q⟩) hz
theorem vals1{x:V}(r:Vals [x] us):∃u,us=[u]/\RelV x u:=by
 cases r with
 |cons r1 r2=>cases r2;exact⟨_,rfl,r1⟩
theorem vals2{x y:V}(r:Vals [x,y] us):∃u w',us=[u,w']/\RelV x u/\RelV y w':=by
 cases r with
 |cons r1 r2 =>
  cases r2 with
  |cons r3 r4=>cases r4;exact⟨_,_,rfl,r1,r3⟩
theorem a55(hc:X.calm=true):m8 X (.builtin "max") (λxs H Q=>∃i j,xs=[.int i,.int j]/\Q (.int (if j>i then j else i)) H):=by
 intro pins s Z H xs us Q I r h;obtain⟨i,j,rfl,q⟩:=h;obtain⟨u,w',rfl,⟨t,rfl⟩,⟨t',rfl⟩⟩:=vals2 r;refine max_two_ints (I.ok.hd hc) λh' tk k=>⟨_,H,I.kept k,?_,q⟩
 by_cases hj:j>i
 ·rw[aJ hj,aJ hj];exact⟨_,rfl⟩
 ·rw[aF hj,aF hj];exact⟨_,rfl⟩
theorem a53(hc:X.calm=true):m8 X (.builtin "min") (λxs H Q=>∃i j,xs=[.int i,.int j]/\Q (.int (if j<i then j else i)) H):=by
 intro pins s Z H xs us Q I r h;obtain⟨i,j,rfl,q⟩:=h;obtain⟨u,w',rfl,⟨t,rfl⟩,⟨t',rfl⟩⟩:=vals2 r;refine min_two_ints (I.ok.hd hc) λh' tk k=>⟨_,H,I.kept k,?_,q⟩
 by_cases hj:j<i
 ·rw[aJ hj,aJ hj];exact⟨_,rfl⟩
 ·rw[aF hj,aF hj];exact⟨_,rfl⟩
theorem Mq:m8 X (.type "int") (λxs H Q=>(∃i,xs=[.int i]/\Q (.int i) H)\/∃k,xs=[.bl k]/\Q (.int (if k then 1 else 0)) H):=by
 intro pins s Z H xs us Q I r h;rcases h with⟨i,rfl,q⟩|⟨k,rfl,q⟩
 ·obtain⟨u,rfl,t,rfl⟩:=vals1 r;exact call_int_int ⟨.int i,H,I,⟨_,rfl⟩,q⟩
 ·obtain⟨u,rfl,r1⟩:=vals1 r;cases r1;exact call_int_bool ⟨.int (if k then 1 else 0),H,I.tok _,⟨_,rfl⟩,q⟩
end
structure tT(h:Heap)(x dx C:Addr)(mA:Str->Option Value):Prop where
 obj:h.get? x=some (PySem.W.instObj C dx)
 ns:h.Ns1 dx mA
 ne:dx≠x
theorem Jr{mA:Str->Option Value}(n:h.Ns1 dx mA):∃od,h.get? dx=some od/\∀name,PySem.W.lookIn name od=some (mA name):=by
 obtain⟨o,es,ep,ho,hd,hk,_,hm⟩:=n;refine⟨o,ho,λname=>?_⟩;have e:=hm name;unfold nsFind findBy at e;rw[<- Array.find?_toList] at e;unfold PySem.W.lookIn;rw[hd];dsimp only;split
 ·rename_i y q;rw[q] at e;exact fV some e
 ·rename_i q;rw[q] at e;have a:es.toList.any (·.refKey)=false:=by
   rw[List.any_eq_false];intro y hy;obtain⟨z,t,kI⟩:=hk y (Array.mem_toList_iff.mp hy);simp[DictEntry.refKey,kI]
  have a':¬es.toList.any (·.refKey)=true:=by rw[a];exact dO
  rw[aF a'];exact fV some e
theorem tT.look{x:Addr}{mA:Str->Option Value}(I:tT h x dx C mA):∃od,PySem.W.InstAt h x (PySem.W.instObj C dx) C (some od)/\∀name,PySem.W.lookIn name od=some (mA name) :=
 let ⟨od,ho,hl⟩:=Jr I.ns
 ⟨od,⟨I.obj,rfl,rfl,ho⟩,hl⟩
section
variable{prog:Program}{x:Addr}{mA:Str->Option Value}{name:Str}{v:Value}
theorem get_map{expr:Bool}(X:K.In s.heap)(I:tT s.heap x dx C mA)(hg:PySem.W.plainGet K C name=true)(hh:PySem.W.hasDictIn K C=true)(ha:PySem.W.findIn K (.ref C) name=some none)(hv:mA name=some v)(AZ:PySem.W.handedIn v=true)(h:Q v { s with toks:=s.toks+1 }) :
  wpAny (model prog w) A (getAttr (.ref x) name expr) Q E s:=by
 obtain⟨od,J,hl⟩:=I.look;exact PySem.W.get_value X J (PySem.W.plainGet_of hg).1 (PySem.W.findObj_own hh ha rfl (by rw[hl,hv])) AZ h
theorem Ur{ns:List Str}{Q:Unit->Shared->Prop}(X:K.In s.heap)(I:tT s.heap x dx C mA)(hs:PySem.W.findIn K (.ref C) "__setattr__"=some (some (.builtin "object.__setattr__")))(hp:PySem.W.plainOver K C=true)(ht:PySem.W.takerIn K C name=some none)(hh:PySem.W.hasDictIn K C=true)(hw:PySem.Within mA ns)(hsz:ns.length<=sizeLine)(h:∀h',tT h' x dx C (λy=>if y=name then some v else mA y)->Heap.SameBut dx s.heap h'->Q Unit.unit { s with heap:=h',toks:=s.toks+2 }) :
  wpAny (model prog w) A (setAttr (.ref x) name v) Q E s:=by
 obtain⟨od,J,hl⟩:=I.look;refine PySem.W.set_plain X J hs (PySem.W.osa_open (s:={ s with toks:=s.toks+1 }) (r:=none) X J hp ht λb=>?_);obtain⟨cd,hc,BC⟩:=PySem.W.any_some hh;have hx:s.heap.get? x=some ⟨.ref C,some dx,.plain,#[]⟩:=I.obj;refine ag (ax (ag (ag (wpAny_loadPart hx (ag (PySem.W.Looks.here (s:={ s with toks:=s.toks+1 }) (PySem.W.looks_clsIn X hc) ?_))))));rw[BC];refine ax (a:=some dx) (ag (ax (ag ?_)));refine wpAny_nsSet1 (s:={ s with toks:=s.toks+1 }) I.ns λh' oO iR=>?_;obtain⟨oD,esD,epD,Ow,OQ,OS⟩:=oO.count (PySem.Within.cons name v hw);refine ag (wpAny_lookBehind Ow (by rw[OQ];exact pastItsLine_dict (aB OS (by rw[de];omega))) ?_);exact ax (h _ ⟨(iR.2 _ (cb I.ne)).trans I.obj,oO,I.ne⟩ iR)
theorem Ve{R:Result->Shared->Prop}{vs:List Value}{kw:List (Str×Value)}(X:K.In s.heap)(hm:PySem.W.makesIn K C=true)(hi:PySem.W.findIn K (.ref C) "__init__"=some (some (.ref f)))(hf:PySem.W.typeIn K (.ref f)=some (.type "function"))(h:codeAny (model prog w) (A.under (.builtin "type.__call__" ⟨.ref C :: vs,kw⟩)) (.call (.ref f) ⟨.ref (s.heap.objs.size + 1) :: vs,kw⟩) (PySem.W.InitBack (s.heap.objs.size + 1) R)
   { s with heap:=(s.heap.push PySem.W.emptyDict).push (PySem.W.instObj C s.heap.objs.size) }) :
  codeAny (model prog w) A (.call (.ref C) ⟨vs,kw⟩) R s:=by
 obtain⟨hh,g,d,t,os⟩:=s;exact PySem.W.make_core (PySem.W.makes_of X hm) (PySem.W.looks_findIn X hi) (λself=>PySem.W.bind_fn X self hf) (.inl rfl) h
end
def C2(f:Str)(v:V):List (Str×V)->List (Str×V)
 |[]=>[(f,v)]
 |(g,x)::r=>if g=f then(g,v)::r else(g,x)::C2 f v r
theorem Ke(f g:Str)(v:V):∀fs:List (Str×V),(C2 f v fs).lookup g=if g=f then some v else fs.lookup g
 |[]=>by
  show List.lookup g [(f,v)]=_;by_cases h:g=f
  ·have hb:(g==f)=true:=ff.mpr h;simp only[List.lookup,hb,if_pos h]
  ·have hb:(g==f)=false:=cT.mpr h;simp only[List.lookup,hb,if_neg h]
 |(k,x)::r=>by
  have ih:=Ke f g v r;rw[show C2 f v ((k,x)::r)=(if k=f then(k,v)::r else(k,x)::C2 f v r) from rfl];by_cases hk:k=f
  ·rw[aJ hk];by_cases h:g=k
   ·have hb:(g==k)=true:=ff.mpr h;simp only[List.lookup,hb,if_pos (h.trans hk)]
   ·have hb:(g==k)=false:=cT.mpr h;simp only[List.lookup,hb,if_neg (λe:g=f=>h (e.trans hk.symm))]
  ·rw[aF hk];by_cases h:g=k
   ·have hb:(g==k)=true:=ff.mpr h;simp only[List.lookup,hb,if_neg (λe:g=f=>hk (h.symm.trans e))]
   ·have hb:(g==k)=false:=cT.mpr h;simp only[List.lookup,hb];exact ih
theorem DZ(f:Str)(v:V):∀fs:List (Str×V),f∈(C2 f v fs).map (·.1)/\∀g,g∈fs.map (·.1)->g∈(C2 f v fs).map (·.1)
 |[]=>⟨by simp[C2],λg h=>by simp at h⟩
 |(k,x)::r=>by
  obtain⟨i1,i2⟩:=DZ f v r;rw[show C2 f v ((k,x)::r)=(if k=f then(k,v)::r else(k,x)::C2 f v r) from rfl];by_cases hk:k=f
  ·rw[aJ hk];subst hk;exact⟨by simp,λg h=>by simpa using h⟩
  ·rw[aF hk];refine⟨?_,λg h=>?_⟩
   ·rw[bh];exact bx _ i1
   ·rw[bh] at h ⊢;rcases aH.mp h with e|e
    ·exact aH.mpr (.inl e)
    ·exact bx _ (i2 g e)
theorem Kd(f:Str)(v:V):∀fs:List (Str×V),(C2 f v fs).length<=fs.length+1
 |[]=>by simp[C2]
 |(k,x)::r=>by
  have ih:=Kd f v r;rw[show C2 f v ((k,x)::r)=(if k=f then(k,v)::r else(k,x)::C2 f v r) from rfl];by_cases hk:k=f
  ·rw[aJ hk,de,de];omega
  ·rw[aF hk,de,de];omega
theorem K1.some_of{o:Option Value}(r:K1 (some v) o):∃u,o=some u/\RelV v u:=by
 cases o with
 |none=>exact(show False from r).elim
 |some u=>exact⟨u,rfl,r⟩
theorem a39(r:RelV v u):PySem.W.handedIn u=true:=by
 cases v with
 |bN=>cases (show u=Value.none from r);rfl
 |bl b=>cases (show u=Value.bool b from r);rfl
 |int i=>obtain⟨t,e⟩:=(show ∃t,u=Value.int i t from r);cases e;rfl
 |str x=>obtain⟨t,e⟩:=(show ∃t,u=Value.str x t from r);cases e;rfl
 |lN b=>obtain⟨t,e⟩:=(show ∃t,u=Value.bytes b t from r);cases e;rfl
 |rP b=>obtain⟨t,e⟩:=(show ∃t,u=Value.float b t from r);cases e;rfl
 |ref a=>cases (show u=Value.ref a from r);rfl
 |ty n=>cases (show u=Value.type n from r);rfl
section
variable{fs:List (Str×V)}
theorem Ds(bR:gH P w H h)(e:H a=some (.ins C dx fs)):∃mA,tT h a dx C mA/\(∀f,K1 (fs.lookup f) (mA f))/\PySem.Within mA (fs.map (·.1))/\fs.length<=1000/\H dx=some (.own a):=by
 obtain⟨d,z,ne,ob,mA,n,r,q⟩:=(show n8 P w H h a (.ins C dx fs) from bR a _ e)
 exact⟨mA,⟨ob,n,ne⟩,r,q,z,d⟩
end
structure kj(K:PySem.W.Frag)(C:Addr):Prop where
 pg:PySem.W.plainGet K C Str.empty=true
 hd:PySem.W.hasDictIn K C=true
 po:PySem.W.plainOver K C=true
 sa:PySem.W.findIn K (.ref C) "__setattr__"=some (some (.builtin "object.__setattr__"))
theorem kj.get(c:kj K C)(f:Str):PySem.W.plainGet K C f=true:=c.pg
def E3(K:PySem.W.Frag)(C:Addr)(f:Str):Prop:=PySem.W.findIn K (.ref C) f=some none
theorem E3.YL{f:Str}(n:E3 K C f):PySem.W.takerIn K C f=some none:=by
 unfold PySem.W.takerIn;rw[show PySem.W.findIn K (.ref C) f=some none from n]
 rfl
structure Meth(K:PySem.W.Frag)(C:Addr)(m:Str)(f:Addr):Prop where
 at_:PySem.W.findIn K (.ref C) m=some (some (.ref f))
 fn:PySem.W.isFn K (.ref f)=true
 kp:PySem.W.keepIn K (.ref f)=true
section
variable{fs:List (Str×V)}{f:Str}
theorem aU9{b:Bool}(I:Inv X pins Z H s)(e:H a=some (.ins C dx fs))(c:kj X.K C)(n:E3 X.K C f)(l:fs.lookup f=some v)(h:∀u s',Inv X pins Z H s'->RelV v u->Q u s'):wpAny (model X.prog X.w) A (getAttr (.ref a) f b) Q E s:=by
 obtain⟨mA,O,r,_,_,_⟩:=Ds I.bR e;obtain⟨u,hu,ru⟩:=K1.some_of (v:=v) (o:=mA f) (by rw[<- l];exact r f);exact get_map I.hU O (c.get f) c.hd n hu (a39 ru) (h u _ (I.tok _) ru)
theorem aS3{y:V}{Q:Unit->Shared->Prop}(I:Inv X pins Z H s)(e:H a=some (.ins C dx fs))(c:kj X.K C)(n:E3 X.K C f)(hl:fs.length<1000)(ry:RelV y u)(h:∀s',Inv X pins Z (upd H a (.ins C dx (C2 f y fs))) s'->Q Unit.unit s'):wpAny (model X.prog X.w) A (setAttr (.ref a) f u) Q E s:=by
 obtain⟨mA,O,r,wi,_,ho⟩:=Ds I.bR e;have hz:(fs.map (·.1)).length<=sizeLine:=by rw[ae,kT];omega
 refine Ur I.hU O c.sa c.po n.YL c.hd wi hz λh' O' sb=>h _ ?_;have hd:∃o,h'.get? dx=some o:=let ⟨o,_,_,e',_⟩:=O'.ns;⟨o,e'⟩
 refine I.write (x:=a) (e:=dx) (by rw[e];exact True.intro) (.inr ho) (λb q hb z=>(sb.2 b hb).trans z) hd ?_;refine⟨by rw[f6 O.ne];exact ho,?_,O.ne,O'.obj,_,O'.ns,λg=>?_,λg hg=>?_⟩
 ·have:=Kd f y fs;omega
 ·show K1 ((C2 f y fs).lookup g) (if g=f then some u else mA g);rw[Ke];by_cases q:g=f
  ·rw[aJ q,aJ q];exact ry
  ·rw[aF q,aF q];exact r g
 ·by_cases q:g=f
  ·rw[q];exact(DZ f y fs).1
  ·refine(DZ f y fs).2 g (wi g λz=>hg ?_);show(if g=f then some u else mA g)=none;rw[aF q];exact z
theorem Inv.made(I:Inv X pins Z H s):Inv X pins Z (upd (upd H s.heap.objs.size (.own (s.heap.objs.size+1))) (s.heap.objs.size+1) (.ins C s.heap.objs.size []))
  { s with heap:=(s.heap.push PySem.W.emptyDict).push (PySem.W.instObj C s.heap.objs.size) }:=by
 have e1:(s.heap.push PySem.W.emptyDict).get? s.heap.objs.size=some PySem.W.emptyDict:=aG s.heap rfl;have e2:((s.heap.push PySem.W.emptyDict).push (PySem.W.instObj C s.heap.objs.size)).get? (s.heap.objs.size+1)=some (PySem.W.instObj C s.heap.objs.size):=by
  have:=aG (s.heap.push PySem.W.emptyDict) (o:=PySem.W.instObj C s.heap.objs.size) rfl
  rwa [eX] at this
 have e3:(s.heap.push PySem.W.emptyDict).Ns s.heap.objs.size (λ_=>none):=⟨PySem.W.emptyDict,#[],_,e1,rfl,(λe he=>absurd he (by simp)),λ_=>rfl⟩
 have I1:=I.laid (a:=s.heap.objs.size) (o:=.own (s.heap.objs.size+1)) (h':=s.heap.push PySem.W.emptyDict) (t':=s.toks) (λb u q=>aw _ q) (ay _) ⟨_,e1⟩;refine I1.laid (a:=s.heap.objs.size+1) (o:=.ins C s.heap.objs.size []) (t':=s.toks) (λb u q=>aw _ q) (Nat.le_of_eq (eX _ _)) ?_;have ne:s.heap.objs.size≠s.heap.objs.size+1:=aP (fO _);refine⟨by rw[f6 ne,v7],bU _,ne,e2,λ_=>none,(Heap.Ns1.of_empty e3).at λo q=>aw _ q,λ_=>True.intro,λy hy=>absurd rfl hy⟩
theorem SJ{prog:Program}{env:Env}(hb:attributeBase e f env (eval e env)=eval e env)(h:wpAny (model prog w) A (eval e env) (λo cj=>wpAny (model prog w) A (getAttr o f true) Q E cj) E s):wpAny (model prog w) A (eval (.Attribute e f pos) env) Q E s :=
 Attribute_any_ h (by rw[arm_eval_Attribute,hb])
end
def WI(K:PySem.W.Frag)(ta:TE)(f:Str):TE:=λZ H Q=>ta Z H λx H1=>∃a C dx fs v,x=.ref a/\H1 a=some (.ins C dx fs)/\kj K C/\E3 K C f/\fs.lookup f=some v/\Q v H1
def Ww(K:PySem.W.Frag)(ta tv:TE)(f:Str):TS:=λD Z H=>tv Z H λy H1=>ta Z H1 λx H2=>∃a C dx fs,x=.ref a/\H2 a=some (.ins C dx fs)/\kj K C/\E3 K C f/\fs.length<1000 /\
 D.nx Z (upd H2 a (.ins C dx (C2 f y fs)))
def Jb(X:Cx)(op:Operator)(rd:V->V->Hp->VK->Prop):Prop :=
 ∀(pins:List (Addr×Obj)) (s:Shared) (Z:St) (H:Hp) (x y:V) (u v:Value) (Q:VK),Inv X pins Z H s->RelV x u->RelV y v->rd x y H Q->wpAny (model X.prog X.w) X.A (inplaceOp op u v) (EP X pins Z Q) X.xe s
section
variable{o value:Expr}{f:Str}{tv:TE}
theorem Rb(he:PE X e ta)(hb:attributeBase e f X.env (eval e X.env)=eval e X.env):PE X (.Attribute e f pos) (WI X.K ta f):=by
 intro pins s Z H Q I h;refine SJ hb (cI (he pins s Z H _ I h) λu s1 bq=>?_);obtain⟨x,H1,I1,rx,a,C,dx,fs,v,ex,ea,c,n,l,q⟩:=bq;subst ex;obtain rfl:u=Value.ref a:=rx;exact aU9 I1 ea c n l λu' s2 I2 ru=>⟨v,H1,I2,ru,q⟩
theorem Rp(ha:PE X o ta)(hv:PE X value tv)(hs:swapsWith value (some (.Attribute o f pos')) pos.line X.env=pure false):PS X (.Assign [.Attribute o f pos'] value pos) (Ww X.K ta tv f):=by
 intro pins s Z H D I h;refine plainObj_wpAny_Assign_Attribute (cI (hv pins s Z H _ I h) λu s1 ⟨y,H1,I1,ry,q⟩=>cI (ha pins s1 Z H1 _ I1 q) λov s2 bq=>?_) hs;obtain⟨x,H2,I2,rx,a,C,dx,fs,ex,ea,c,n,l,q2⟩:=bq;subst ex;obtain rfl:ov=Value.ref a:=rx;exact aS3 I2 ea c n l ry λs3 I3=>⟨Z,_,I3,q2⟩
def Wl:V->V->Hp->VK->Prop:=λx y H Q=>∃i j,x=.int i/\y=.int j/\Q (.int (i+j)) H
theorem Zj:Jb X .Add Wl:=by
 rintro pins s Z H x y u v Q I rx ry ⟨i,j,rfl,rfl,q⟩;obtain⟨t,rfl⟩:=(show ∃t,u=Value.int i t from rx)
 obtain⟨t',rfl⟩:=(show ∃t',v=Value.int j t' from ry)
 exact PyProof.Rows.iadd_int ⟨.int (i+j),H,I.tok _,⟨_,rfl⟩,q⟩
end
section
variable{c:Value}{b:Bool}
inductive ic(K:PySem.W.Frag)(H:Hp):V->Value->Prop where
 |bN:ic K H .bN (.type "NoneType")
 |bl (x:Bool):ic K H (.bl x) (.type "bool")
 |int (i:Int):ic K H (.int i) (.type "int")
 |str (x:Str):ic K H (.str x) (.type "str")
 |rP (x:UInt64):ic K H (.rP x) (.type "float")
 |lst {a:Addr} {xs:List V} (e:H a=some (.lst xs)):ic K H (.ref a) (.type "list")
 |jZ {a:Addr} {o:Obj} {xs:List V} (e:H a=some (.jZ o (.lst xs))):ic K H (.ref a) (.type "list")
 |tup {a:Addr} {xs:List V} (e:H a=some (.tup xs)):ic K H (.ref a) (.type "tuple")
 |dK {a:Addr} {kvs:List (Key×V)} (e:H a=some (.dK kvs)):ic K H (.ref a) (.type "dict")
 |dT {a:Addr} {kvs:List (List Key×V)} (e:H a=some (.dT kvs)):ic K H (.ref a) (.type "dict")
 |ins {a C dx:Addr} {fs:List (Str×V)} (e:H a=some (.ins C dx fs)) (cl:kj K C) (ha:PySem.W.findIn K (.ref C) "__class__"=some (some (.builtin "object.__class__")))
   (hn:PySem.W.specialIn K (.builtin "object.__class__") "__get__"=some (some (.builtin "getset_descriptor.__get__"))) (yn:PySem.W.takesIn K (.builtin "object.__class__")=some true)
   (hm:PySem.W.mroIn K C (.type "object")=some true):ic K H (.ref a) (.ref C)
theorem a35{x:V}{t:Value}(I:Inv X pins Z H s)(rx:RelV x u)(ty:ic X.K H x t)(e:PySem.W.kitOne X.K t c=some b)(h:∀tk,Q (.bool b) { s with toks:=tk }) :
  wpAny (model X.prog X.w) A (call (.builtin "isinstance") [u,c]) Q E s:=by
 cases ty with
 |bN=>cases (show u=Value.none from rx);exact bX PySem.W.kitx_none I.hU True.intro e (λz=>nomatch z) h
 |bl y=>cases (show u=Value.bool y from rx);exact bX PySem.W.kitx_bool I.hU True.intro e (λz=>nomatch z) h
 |int i=>obtain⟨t,q⟩:=(show ∃t,u=Value.int i t from rx);cases q;exact bX PySem.W.kitx_int I.hU True.intro e (λz=>nomatch z) h
 |str y=>obtain⟨t,q⟩:=(show ∃t,u=Value.str y t from rx);cases q;exact bX PySem.W.kitx_str I.hU True.intro e (λz=>nomatch z) h
 |rP y=>obtain⟨t,q⟩:=(show ∃t,u=Value.float y t from rx);cases q;exact bX PySem.W.kitx_float I.hU True.intro e (λz=>nomatch z) h
 |@lst a xs ea =>
  cases (show u=Value.ref a from rx);obtain⟨_,_,n,_,h1⟩:=(show n8 X.prog X.w H s.heap a (.lst xs) from I.bR a _ ea)
  exact bX PySem.W.kitx_list I.hU ⟨_,h1,rfl⟩ e (λz=>nomatch z) h
 |@jZ a ob xs ea =>
  cases (show u=Value.ref a from rx);obtain⟨_,_,_,n,_,h1⟩:=(show n8 X.prog X.w H s.heap a (.jZ ob (.lst xs)) from I.bR a _ ea)
  exact bX PySem.W.kitx_list I.hU ⟨_,h1,rfl⟩ e (λz=>nomatch z) h
 |@tup a xs ea =>
  cases (show u=Value.ref a from rx);obtain⟨_,_,_,p⟩:=(show n8 X.prog X.w H s.heap a (.tup xs) from I.bR a _ ea)
  obtain⟨o,h1,h2,_⟩:=p;exact bX MX I.hU ⟨o,h1,h2⟩ e (λz=>nomatch z) h
 |@dK a kvs ea =>
  cases (show u=Value.ref a from rx);obtain⟨_,_,vs,_,p⟩:=(show n8 X.prog X.w H s.heap a (.dK kvs) from I.bR a _ ea)
  obtain⟨o,es,ep,h1,h2,_⟩:=p;exact bX PySem.W.kitx_dict I.hU ⟨o,h1,h2.1⟩ e (λz=>nomatch z) h
 |@dT a kvs ea =>
  cases (show u=Value.ref a from rx);obtain⟨_,_,xs,_,o,es,ep,h1,h2,_⟩:=(show n8 X.prog X.w H s.heap a (.dT kvs) from I.bR a _ ea)
  exact bX PySem.W.kitx_dict I.hU ⟨o,h1,h2.1⟩ e (λz=>nomatch z) h
 |@ins a C dx fs ea cl ha hn yn hm =>
  cases (show u=Value.ref a from rx);obtain⟨mA,O,_⟩:=Ds I.bR ea;obtain⟨od,J,_⟩:=O.look;exact bX (PySem.W.kitx_own (cl.get _) cl.hd ha hn yn hm) I.hU J e (λz=>nomatch z) h
end
structure x4(k:Nat)(A:Around):Prop where
 hd:A.handled=none
 dp:A.depth+3*k+5<recursionLimit
 un:A.units+16*k+200<cLine
theorem x4.mono{j:Nat}(r:x4 k A)(h:j<=k):x4 j A:=⟨r.hd,by have:=r.dp;omega,by have:=r.un;omega⟩
theorem x4.deeper{k:Nat}{A:Around}(r:x4 (k+1) A)(env:Env):x4 k (A.deeper env) :=
 ⟨r.hd,by have:=r.dp;show A.depth+1+3*k+5<_;omega,by have:=r.un;show A.units+3+16*k+200<_;omega⟩
theorem aU1{kw:List (Str×Value)}:(A.under (.builtin "type.__call__" ⟨.ref C::us,kw⟩)).depth=A.depth+1:=by
 first|rfl|simp[Around.under,Code.weight,Code.isCreation,Code.isGuard,Code.isCaller,Code.frames,Code.isFrame,guardIds]
theorem aU0{kw:List (Str×Value)}:(A.under (.builtin "type.__call__" ⟨.ref C::us,kw⟩)).units=A.units+1:=by
 first|rfl|simp[Around.under,Code.cUnits,Code.frames,Code.isFrame]
theorem x4.make(r:x4 (k+1) A)(C:Addr)(us:List Value)(kw:List (Str×Value)):x4 k (A.under (.builtin "type.__call__" ⟨.ref C::us,kw⟩)) :=
 ⟨r.hd,by have:=r.dp;rw[aU1];omega,by have:=r.un;rw[aU0];omega⟩
theorem x4.depth{k:Nat}{A:Around}(r:x4 k A):A.depth<recursionLimit:=by have:=r.dp;omega
def Fy:TA:=λ_ H Q=>Q [] H
def YD(ta:TE)(tr:TA):TA:=λZ H Q=>ta Z H λx H1=>tr Z H1 λxs H2=>Q (x::xs) H2
theorem Z9:PA X [] Fy:=λ_ _ _ _ H Q I h=>Calls.spliced_nil ⟨[],H,I,.nil,h⟩
theorem U5(ha:PE X e te)(hr:PA X es t)(hs:starEach (e::es) X.env=(false,eval e X.env)::starEach es X.env:=by rfl):PA X (e::es) (YD te t):=by
 intro pos pins s Z H Q I h;rw[hs];show wpAny _ _ (spliced ((false,eval e X.env)::backTo pos (starEach es X.env))) _ _ s;refine Calls.spliced_cons (cI (ha pins s Z H _ I h) λu s1 bq=>?_);obtain⟨x,H1,I1,r1,q1⟩:=bq;exact cI (hr pos pins s1 Z H1 _ I1 q1) λus s2 ⟨xs,H2,I2,r2,q2⟩=>⟨x::xs,H2,I2,.cons r1 r2,q2⟩
def WR(t:TA):TE:=λZ H Q=>t Z H λxs H1=>xs.length<=sizeLine/\∀p,H1 p=none->Q (.ref p) (upd H1 p (.tup xs))
def WL(t:TA):TE:=λZ H Q=>t Z H λxs H1=>xs.length<=sizeLine/\∀p,H1 p=none->Q (.ref p) (upd H1 p (.lst xs))
theorem Rj{x1}(h:PA X es t):PE X (.Tuple es x1 pos) (WR t):=by
 intro pins s Z H Q I hq;refine wpAny_Tuple_spliced (cI (h pos pins s Z H _ I hq) λus s1 ⟨xs,H1,I1,r,z,q⟩=>⟨by rw[<- r.length];exact z,?_⟩);have hf:H1 s1.heap.objs.size=none:=I1.bR.fresh (ay _);refine⟨.ref s1.heap.objs.size,upd H1 s1.heap.objs.size (.tup xs),I1.laid (t':=s1.toks) (λb u e=>aw _ e) (ay _) ?_,rfl,q _ hf⟩;exact⟨z,us,r,⟨_,aG _ rfl,rfl,⟨_,rfl⟩,rfl⟩⟩
theorem Rf(h:PA X es t):PE X (.List es pos) (WL t):=by
 intro pins s Z H Q I hq;refine wpAny_List_spliced (cI (h pos pins s Z H _ I hq) λus s1 ⟨xs,H1,I1,r,z,q⟩=>⟨by rw[<- r.length];exact z,?_⟩);have hf:H1 s1.heap.objs.size=none:=I1.bR.fresh (ay _);refine⟨.ref s1.heap.objs.size,upd H1 s1.heap.objs.size (.lst xs),I1.laid (t':=s1.toks) (λb u e=>aw _ e) (ay _) ?_,rfl,q _ hf⟩;exact⟨z,us,0,r,aG _ rfl⟩
noncomputable abbrev Sp:=List V->Hp->VK->XK->Prop
noncomputable abbrev nS:=List Env->Hp->Shared->XK->Value->Shared->Prop
structure se(P:Program)(w:World)(K:PySem.W.Frag)(mg:Str->Option Value)(base:Heap)(A:Around)(outer:List Env)(s:Shared)(H:Hp):Prop where
 frames:A.frames=some outer
 mod:Mod K mg base
 bs:∀b o,base.get? b=some o->s.heap.get? b=some o/\H b=none
 nP:base.objs.size<=s.heap.objs.size
 M3:s.heap.FunFrames base outer
 oi:∀b∈gh outer,H b=none
 bR:gH P w H s.heap
 bare:AllBare s.gens
def CE(outer:List Env)(P:Program)(w:World)(H:Hp)(s:Shared)(Q:VK)(u:Value)(s':Shared):Prop :=
 ∃v H',s'.os=s.os/\AllBare s'.gens/\Un (gh outer) [] H H' s.heap s'.heap/\gH P w H' s'.heap/\RelV v u/\Q v H'
def CR(CX:nS)(outer:List Env)(P:Program)(w:World)(H:Hp)(s:Shared)(Q:VK)(E:XK)(r:Result)(s':Shared):Prop :=
 match r with
 |.ok (.ret u)=>CE outer P w H s Q u s'
 |.ok _=>False
 |.error e=>CX outer H s E e s'
structure iC(P:Program)(w:World)(K:PySem.W.Frag)(mg:Str->Option Value)(base:Heap)(CX:nS)(k:Nat)(f:Addr)(fd:FuncData)(ps:List Str)(sp:Sp):Prop where
 len:∀vs H Q E,sp vs H Q E->vs.length=ps.length
 run:∀(A:Around) (outer:List Env) (s:Shared) (H:Hp) (args:Args) (us:List Value) (vs:List V) (Q:VK) (E:XK),x4 k A->se P w K mg base A outer s H->BindsTo s fd args (ps.zip us)->Vals vs us->sp vs H Q E ->
  codeAny (model P w) A (.call (.ref f) args) (CR CX outer P w H s Q E) s
theorem se.make{mg:Str->Option Value}{outer:List Env}(e:se P w K mg base A outer s H)(C:Addr)(us:List Value)(kw:List (Str×Value)) :
  se P w K mg base (A.under (.builtin "type.__call__" ⟨.ref C::us,kw⟩)) outer s H:=⟨by first|exact e.frames|(simpa[Around.under,Code.envs,Code.isFrame,pushEnvs] using e.frames),e.mod,e.bs,e.nP,e.M3,e.oi,e.bR,e.bare⟩
section
variable{s':Shared}
theorem Inv.Je(I:Inv X pins Z H s):se X.prog X.w X.K X.mg X.base X.A X.stack s H :=
 ⟨I.ok.frames,I.ok.mod,I.bs,aB I.ok.nP I.sz,I.stack,I.zl,I.bR,I.bare⟩
theorem Inv.after{Q:VK}(I:Inv X pins Z H s)(h:CE X.stack X.prog X.w H s Q u s'):EP X pins Z Q u s':=by
 obtain⟨v,H',os,bare,un,bR,r,q⟩:=h;obtain⟨hh,g,d,t,uU⟩:=s';obtain rfl:uU=s.os:=os;exact⟨v,H',I.call (h':=hh) (g':=g) (d':=d) (t':=t) (ch:=[]) un bR bare (λb z=>absurd z (by simp)),r,q⟩
end
def IY(sp:Sp)(kc:List V)(E:XK)(t:TA):TE:=λZ H Q=>t Z H λvs H1=>sp (vs++kc) H1 Q E
def IZ(C:Addr)(sp:Sp)(kc:List V)(E:XK)(t:TA):TE:=λZ H Q=>t Z H λvs H1=>∀x dx,H1 x=none->H1 dx=none->dx≠x ->
 sp (.ref x::(vs++kc)) (upd (upd H1 dx (.own x)) x (.ins C dx [])) (λv H2=>v=.bN/\Q (.ref x) H2) E
def Binds(K:PySem.W.Frag)(fd:FuncData)(ps:List Str)(ds:List Value):Prop :=
 ∀(s:Shared) (us:List Value),K.In s.heap->(us++ds).length=ps.length->BindsTo s fd ⟨us,[]⟩ (ps.zip (us++ds))
theorem Binds.all(h:∀us:List Value,us.length=ps.length->bindArgs fd ⟨us,[]⟩=pure (ps.zip us)):Binds K fd ps []:=λs us _ hl=>by
 rw[fc] at hl ⊢;exact .of_eq (h us hl)
def Passes(CX:nS)(X:Cx)(E:XK):Prop:=∀(pins:List (Addr×Obj)) (Z:St) (H:Hp) (s:Shared) (e:Value) (s':Shared),Inv X pins Z H s->CX X.stack H s E e s'->X.xe e s'
section
variable{kc:List V}{ds:List Value}{E:XK}
theorem Kt{Q:VK}(F:iC X.prog X.w X.K X.mg X.base CX k f fd ps sp)(hr:x4 k X.A)(hb:Binds X.K fd ps ds)(hd:Vals kc ds)(hx:Passes CX X E)(I:Inv X pins Z H s)(r:Vals vs us)(h:sp (vs++kc) H Q E):wpAny (model X.prog X.w) X.A (call (.ref f) us) (EP X pins Z Q) X.xe s:=by
 have r2:Vals (vs++kc) (us++ds):=r.append hd;have hl:(us++ds).length=ps.length:=by rw[<- r2.length];exact F.len _ _ _ _ h
 refine wpAny_call (hX (F.run X.A X.stack s H ⟨us,[]⟩ (us++ds) (vs++kc) Q E hr I.Je (hb s us I.hU hl) r2 h) λr s' hq=>?_);cases r with
 |error e=>exact hx pins Z H s e s' I hq
 |ok fl =>
  cases fl with
  |ret u=>exact I.after hq
  |next=>exact False.elim hq
  |brk=>exact False.elim hq
  |cont=>exact False.elim hq
theorem Tz(F:iC X.prog X.w X.K X.mg X.base CX k f fd ps sp)(hr:x4 k X.A)(hg:Gl X x)(hm:X.mg x=some (.ref f))(hk:PySem.W.keepIn X.K (.ref f)=true)(hb:Binds X.K fd ps ds)(hd:Vals kc ds)(hx:Passes CX X E)(ha:PA X (e::es) t)(ig:(x==("__debug__":Str))=false:=by decide)(he:starEach (e::es) X.env=(false,eval e X.env)::starEach es X.env:=by rfl)(gR:(backTo pos (starEach es X.env)).any (·.1)=false:=by rfl) :
  PE X (.Call (.Name x p) (e::es) [] pos) (IY sp kc E t):=by
 intro pins s Z H Q I h;refine cP (P6 I hg hm ?_ ig);refine MY (h₀:=X.base) I.ok.mod.nW hk (cI (ha pos pins s Z H _ I h) λus s1 ⟨vs,H1,I1,r,q⟩=>⟨I1.hU,?_⟩) he gR;exact Kt F hr hb hd hx I1 r q
theorem Vm(F:iC X.prog X.w X.K X.mg X.base CX k f fd ps sp)(hr:x4 k X.A)(hg:Gl X x)(hm:X.mg x=some (.ref f))(hk:PySem.W.keepIn X.K (.ref f)=true)(hb:Binds X.K fd ps ds)(hd:Vals kc ds)(hx:Passes CX X E)(ig:(x==("__debug__":Str))=false:=by decide):PE X (.Call (.Name x p) [] [] pos) (IY sp kc E Fy):=by
 intro pins s Z H Q I h;refine cP (P6 I hg hm ?_ ig);exact FP I.hU hk (Kt (us:=[]) F hr hb hd hx I .nil h)
structure Mk(K:PySem.W.Frag)(C f:Addr):Prop where
 makes:PySem.W.makesIn K C=true
 init:PySem.W.findIn K (.ref C) "__init__"=some (some (.ref f))
 fn:PySem.W.isFn K (.ref f)=true
 kp:PySem.W.keepIn K (.ref C)=true
theorem Mc{Q:VK}(M:Mk X.K C f)(F:iC X.prog X.w X.K X.mg X.base CX k f fd ps sp)(hr:x4 (k+1) X.A)(hb:Binds X.K fd ps ds)(hd:Vals kc ds)(hx:Passes CX X E)(I:Inv X pins Z H s)(r:Vals vs us)(h:∀x dx,H x=none->H dx=none->dx≠x->sp (.ref x::(vs++kc)) (upd (upd H dx (.own x)) x (.ins C dx [])) (λv H2=>v=.bN/\Q (.ref x) H2) E) :
  wpAny (model X.prog X.w) X.A (call (.ref C) us) (EP X pins Z Q) X.xe s:=by
 have hq:=h (s.heap.objs.size+1) s.heap.objs.size (I.bR.fresh (gZ _)) (I.bR.fresh (ay _)) (aP (fO _));have I2:=Inv.made (C:=C) I;have r2:Vals (V.ref (s.heap.objs.size+1)::(vs++kc)) (Value.ref (s.heap.objs.size+1)::(us++ds)):=.cons rfl (r.append hd);have hl:(Value.ref (s.heap.objs.size+1)::us++ds).length=ps.length:=by
  have e:=r2.length;rw[F.len _ _ _ _ hq] at e;exact e.symm
 refine wpAny_call (Ve (f:=f) I.hU M.makes M.init (ff.mp M.fn) (hX (F.run _ X.stack _ _ ⟨Value.ref (s.heap.objs.size + 1) :: us,[]⟩ (Value.ref (s.heap.objs.size + 1) :: (us ++ ds)) _ _ E (hr.make C us [])
  (I2.Je.make C us []) (hb _ (Value.ref (s.heap.objs.size + 1) :: us) I2.hU hl) r2 hq) λr s' ml=>?_))
 cases r with
 |error e=>exact hx pins Z _ _ e s' I2 ml
 |ok fl =>
  cases fl with
  |ret u =>
   obtain⟨v,H',I3,rv,ev,q3⟩:=I2.after ml;subst ev;exact⟨rv,⟨V.ref (s.heap.objs.size+1),H',I3,rfl,q3⟩⟩
  |next=>exact False.elim ml
  |brk=>exact False.elim ml
  |cont=>exact False.elim ml
theorem TJ(M:Mk X.K C f)(F:iC X.prog X.w X.K X.mg X.base CX k f fd ps sp)(hr:x4 (k+1) X.A)(hg:Gl X x)(hm:X.mg x=some (.ref C))(hb:Binds X.K fd ps ds)(hd:Vals kc ds)(hx:Passes CX X E)(ha:PA X (e::es) t)(ig:(x==("__debug__":Str))=false:=by decide)(he:starEach (e::es) X.env=(false,eval e X.env)::starEach es X.env:=by rfl)(gR:(backTo pos (starEach es X.env)).any (·.1)=false:=by rfl) :
  PE X (.Call (.Name x p) (e::es) [] pos) (IZ C sp kc E t):=by
 intro pins s Z H Q I h;refine cP (P6 I hg hm ?_ ig);refine MY (h₀:=X.base) I.ok.mod.nW M.kp (cI (ha pos pins s Z H _ I h) λus s1 ⟨vs,H1,I1,r,q⟩=>⟨I1.hU,?_⟩) he gR;exact Mc M F hr hb hd hx I1 r q
theorem Vr(M:Mk X.K C f)(F:iC X.prog X.w X.K X.mg X.base CX k f fd ps sp)(hr:x4 (k+1) X.A)(hg:Gl X x)(hm:X.mg x=some (.ref C))(hb:Binds X.K fd ps ds)(hd:Vals kc ds)(hx:Passes CX X E)(ig:(x==("__debug__":Str))=false:=by decide):PE X (.Call (.Name x p) [] [] pos) (IZ C sp kc E Fy):=by
 intro pins s Z H Q I h;refine cP (P6 I hg hm ?_ ig);exact FP I.hU M.kp (Mc (us:=[]) M F hr hb hd hx I .nil h)
end
structure iY(N P:List Str)(sc:Scope):Prop where
 kind:sc.kind=.function
 co:sc.isCoroutine=false
 gen:sc.isGenerator=false
 nd:N.Nodup
 pre:N.take P.length=P
 par:∀x∈P,sc.names.lookup x=some .local\/sc.names.lookup x=some .cell
 nk:∀y∈sc.names,y.2≠.free
theorem Mp{kindOf:Str->Option NameKind}{x:Str}:∀{binds:List (Str×Value)} {m:Str->Option Value},(∀v,(x,v)∉binds)->bindL kindOf binds m x=m x
 |[],_,_=>rfl
 |(n,v)::r,m,h=>by
  unfold bindL;rw[Mp λw hw=>h w (bx _ hw)];split
  ·have:x≠n:=by rintro rfl;exact h v gL
   simp[this]
  ·rfl
theorem Mn{kindOf:Str->Option NameKind}{x:Str}:∀{binds:List (Str×Value)} {m:Str->Option Value},(∀v,(x,v)∉binds)->bindC kindOf binds m x=m x
 |[],_,_=>rfl
 |(n,v)::r,m,h=>by
  unfold bindC;rw[Mn λw hw=>h w (bx _ hw)];split
  ·rfl
  ·have:x≠n:=by rintro rfl;exact h v gL
   simp[this]
theorem Mo{kindOf:Str->Option NameKind}{x:Str}{v:Value}:∀{P:List Str} {vs:List Value} {i:Nat} {m:Str->Option Value},P.Nodup->P[i]?=some x->vs[i]?=some v->kindOf x=some .local ->
  bindL kindOf (P.zip vs) m x=some v
 |[],_,_,_,_,h,_,_=>by simp at h
 |_::_,[],_,_,_,_,h,_=>by simp at h
 |p::P,w::vs,0,m,nd,h1,h2,hk=>by
  simp at h1 h2;subst h1;subst h2;show bindL kindOf ((p,w)::P.zip vs) m p=_;unfold bindL;rw[Mp λv hv=>(cS.mp nd).1 (mW hv).1,aJ hk];simp
 |p::P,w::vs,i+1,m,nd,h1,h2,hk=>by
  show bindL kindOf ((p,w)::P.zip vs) m x=_;unfold bindL;exact Mo (i:=i) (cS.mp nd).2 (by simpa using h1) (by simpa using h2) hk
theorem Mm{kindOf:Str->Option NameKind}{x:Str}{v:Value}:∀{P:List Str} {vs:List Value} {i:Nat} {m:Str->Option Value},P.Nodup->P[i]?=some x->vs[i]?=some v->kindOf x≠some .local ->
  bindC kindOf (P.zip vs) m x=some v
 |[],_,_,_,_,h,_,_=>by simp at h
 |_::_,[],_,_,_,_,h,_=>by simp at h
 |p::P,w::vs,0,m,nd,h1,h2,hk=>by
  simp at h1 h2;subst h1;subst h2;show bindC kindOf ((p,w)::P.zip vs) m p=_;unfold bindC;rw[Mn λv hv=>(cS.mp nd).1 (mW hv).1,aF hk];simp
 |p::P,w::vs,i+1,m,nd,h1,h2,hk=>by
  show bindC kindOf ((p,w)::P.zip vs) m x=_;unfold bindC;exact Mm (i:=i) (cS.mp nd).2 (by simpa using h1) (by simpa using h2) hk
def start(N:List Str)(vs:List V):St:=vs.map some++List.replicate (N.length-vs.length) none
def oY(CX:nS)(P:Program)(w:World)(K:PySem.W.Frag)(mg:Str->Option Value)(base:Heap)(N:List Str)(qual:Str)(scope:Scope)(f:Addr)(cd:Value)(A:Around)(outer:List Env)(s:Shared)(H:Hp)(E:XK):Cx where
 prog:=P
 w:=w
 K:=K
 mg:=mg
 base:=base
 A:=A.deeper (envOfC qual scope s.heap.objs.size f cd)
 N:=N
 dz:=s
 jC:=H
 env:=envOfC qual scope s.heap.objs.size f cd
 outer:=outer
 stack:=envOfC qual scope s.heap.objs.size f cd::outer
 ex:=[]
 calm:=true
 fn:=λ_=>true
 pn:=[]
 xe:=λe s'=>wpAny (model P w) (A.deeper (envOfC qual scope s.heap.objs.size f cd)) (leaving (envOfC qual scope s.heap.objs.size f cd) e) (λ_ oB=>CX outer H s E e oB) (λe' oB=>CX outer H s E e' oB) s'
theorem DF{sc:Scope}{n:Nat}(h:sc.names.lookup x=some .cell):∃c,(cellsFrom n sc.names []).lookup x=some c:=by
 have q:=dI sc.names n [] (.inl h);exact eV.mp q
theorem a36{mg:Str->Option Value}{qual:Str}{scope:Scope}{cd:Value}{outer:List Env}{s1:Shared}{E:XK}(S:iY N ps scope)(hd:A.handled=none)(e0:se P w K mg base A outer s H)(hl:vs.length=ps.length)(r:Vals vs us)(x:InCallC s s.heap.objs.size (bindL (envOfC qual scope s.heap.objs.size f cd).kindOf (ps.zip us) λ_=>none) (cellsFrom (s.heap.objs.size+1) scope.names []) (bindC (envOfC qual scope s.heap.objs.size f cd).kindOf (ps.zip us) λ_=>none) s1) :
  Inv (oY CX P w K mg base N qual scope f cd A outer s H E) [] (start N vs) H s1:=by
 have gR:ps.length<=N.length:=by have:=fV List.length S.pre;rw[cZ] at this;omega
 obtain⟨h1,tk,rfl,hk⟩:=x.done;have vb:∀b:Addr,b∉(oY CX P w K mg base N qual scope f cd A outer s H E).ex:=λb z=>absurd (show b∈([]:List Addr) from z) (by simp);refine ⟨⟨e0.mod,S.kind,rfl,rfl,ay _,λy z c h1 h2=>?_,λy hy=>?_,λy c _ h=>?_,λ_=>hd,Around.frames_deeper e0.frames,.inr ⟨rfl,rfl⟩,λb z=>absurd z (vb b),e0.bs,e0.nP,λb _ _=>vb b,λb z=>absurd z (vb b),e0.M3,e0.oi⟩,
  rfl,e0.bare,Un.kept hk,⟨_,x.toInCall.ns,λi y v h1 h2 h3=>?_⟩,λy c h=>⟨_,x.cell y c h⟩,e0.bR.fresh (ay _),λy c h=>?_,λp hp=>absurd (show p ∈ ([]:List (Addr × Obj)) from hp) (by simp),e0.bR.kept hk,?_⟩
 ·exact name_of_addr x.apart (aQ h1) (aQ h2)
 ·have hy:scope.names.lookup y=some .cell\/scope.names.lookup y=some .free:=hy;rcases hy with hy|hy
  ·exact DF hy
  ·exact absurd rfl (S.nk _ (aQ hy))
 ·exact eI (x.above y c (aQ h))
 ·have hi:i<vs.length:=by
   unfold start at h2;by_cases hi:i<vs.length
   ·exact hi
   ·rw[bI (by simpa using hi)] at h2;rw[dC] at h2;split at h2<;>cases h2
  have ha:vs[i]?=some v:=by
   unfold start at h2;rw[aD (by simpa using hi),ak] at h2;cases e:vs[i]? with
   |none=>rw[e] at h2;cases h2
   |some a=>rw[e] at h2;cases h2;rfl
  obtain⟨u,hu,rv⟩:=r.get ha;have hp:ps[i]?=some y:=by
   rw[<- S.pre,eW ()];exact h1
  have GA:ps.Nodup:=by rw[<- S.pre];exact S.nd.sublist (List.take_sublist _ _)
  refine⟨u,rv,?_⟩;rcases S.par y (aC hp) with k|k
  ·exact .inl ⟨k,Mo GA hp hu k⟩
  ·obtain⟨c,e⟩:=DF (n:=s.heap.objs.size+1) k;refine .inr ⟨.inl k,c,e,?_⟩;have q:=x.cell y c e;rw[Mm GA hp hu (by show scope.names.lookup y≠_;rw[k];decide)] at q;exact q
 ·exact e0.bR.fresh (eI (x.above y c (aQ h)))
 ·unfold start;show _=N.length;rw[bg,ae,jf];omega
theorem Xx{mg:Str->Option Value}{name qual:Str}{params:Arguments}{scope:Scope}{dV kV doc pm fY ct oc:Value}{an od:Option Addr}{mL:Array (Option Value)}(lk:K.lookup f=some ⟨oc,od,.func (PySem.W.fnOf name qual params body scope dV kV doc pm an fY ct),mL⟩)(mq:PySem.W.codeIn K fY qual=true)(S:iY N ps scope)(len:∀vs H Q E,sp vs H Q E->vs.length=ps.length)(vW:∀ (A:Around) (outer:List Env) (s:Shared) (H:Hp) (vs:List V) (Q:VK) (E:XK),x4 k (A.deeper (envOfC qual scope s.heap.objs.size f fY))->sp vs H Q E ->
   ∃ t,ju (oY CX P w K mg base N qual scope f fY A outer s H E) body t/\t { nx:=λ_ H'=>Q .bN H',rt:=Q } (start N vs) H) :
  iC P w K mg base CX (k+1) f (PySem.W.fnOf name qual params body scope dV kV doc pm an fY ct) ps sp:=by
 refine⟨len,λA outer s H args us vs Q E hr e0 hb r tu=>?_⟩;have hl:=len _ _ _ _ tu;have KX:K.In s.heap:=e0.mod.nW.keeps λb o e=>(e0.bs b o e).1;have lim:s.heap.NoLimit:=e0.mod.nolimit.keeps λb o e=>(e0.bs b o e).1;have vJ:∀y∈ps.zip us,scope.names.lookup y.1=some .local\/(scope.names.lookup y.1=some .cell/\((cellsFrom (s.heap.objs.size+1) scope.names []).lookup y.1).isSome=true):=λ⟨n,v⟩ hy=>by
  rcases S.par n (mW hy).1 with q|q
  ·exact .inl q
  ·exact .inr ⟨q,dI _ _ _ (.inl q)⟩
 refine codeAny_call_function hr.depth (KX _ _ lk) rfl S.co S.gen rfl (PySem.W.codeRec_of KX mq) (hb _ _ _ _ ?_);refine wpAny_newFunctionEnv_cells S.kind vJ λenv he s1 x=>?_;subst he;refine⟨lim.keeps x.toInCall.keep,codeAny_func ?_⟩;obtain⟨t,ht,hq⟩:=vW A outer s H vs Q E (hr.deeper _) tu;have I:Inv (oY CX P w K mg base N qual scope f fY A outer s H E) [] (start N vs) H s1:=a36 S hr.hd e0 hl r x;refine bB (ht [] s1 (start N vs) H _ I hq) (λfl s' hs=>?_) λe s' hs=>hs;have fin:∀{bY:St} {H':Hp} {v:V} {u:Value},Inv (oY CX P w K mg base N qual scope f fY A outer s H E) [] bY H' s'->RelV v u->Q v H'->CE outer P w H s Q u s' :=
  λ{bY H' v u} J rv q=>⟨v,H',J.os,J.bare,J.base,J.bR,rv,q⟩
 cases fl with
 |ret u =>
  obtain⟨v,bY,H',J,rv,q⟩:=hs;exact fin J rv q
 |next =>
  obtain⟨bY,H',J,q⟩:=hs;exact fin (v:=V.bN) (u:=Value.none) J rfl q
 |brk =>
  obtain⟨_,_,_,q⟩:=hs;exact False.elim q
 |cont =>
  obtain⟨_,_,_,q⟩:=hs;exact False.elim q
section
variable{id T:String}{r:List V->Hp->VK->Prop}
def Ax(r:List V->Hp->VK->Prop)(t:TA):TE:=λZ H Q=>t Z H λvs H1=>r vs H1 Q
theorem zD(hc:m8 X (.builtin id) r)(hg:Gl X x)(hm:X.mg x=none)(hv:bootBuiltins x=some (.builtin id))(ha:PA X (e::es) t)(hn:x≠"__name__":=by decide)(ig:(x==("__debug__":Str))=false:=by decide)(he:starEach (e::es) X.env=(false,eval e X.env)::starEach es X.env:=by rfl)(gR:(backTo pos (starEach es X.env)).any (·.1)=false:=by rfl):PE X (.Call (.Name x p) (e::es) [] pos) (Ax r t):=by
 intro pins s Z H Q I h;refine cP (O2 I hg hm hv ?_ hn ig);exact PyProof.Rows.callWith_builtin1 (cI (ha pos pins s Z H _ I h) λus s1 ⟨vs,H1,I1,r1,q1⟩=>hc pins s1 Z H1 vs us Q I1 r1 q1) he gR
theorem Q9(hc:m8 X (.type T) r)(hg:Gl X x)(hm:X.mg x=none)(hv:bootBuiltins x=some (.type T))(ha:PA X (e::es) t)(hn:x≠"__name__":=by decide)(ig:(x==("__debug__":Str))=false:=by decide)(he:starEach (e::es) X.env=(false,eval e X.env)::starEach es X.env:=by rfl)(gR:(backTo pos (starEach es X.env)).any (·.1)=false:=by rfl):PE X (.Call (.Name x p) (e::es) [] pos) (Ax r t):=by
 intro pins s Z H Q I h;refine cP (O2 I hg hm hv ?_ hn ig);exact bQ (cI (ha pos pins s Z H _ I h) λus s1 ⟨vs,H1,I1,r1,q1⟩=>hc pins s1 Z H1 vs us Q I1 r1 q1) he gR
end
end L2
namespace HT
open PySem PyProof.Rows
section
variable{prog:Program}{w:World}{A:Around}{E:Value->Shared->Prop}{s:Shared}
def dG(n d:Nat):Option Int->Nat
 |none=>d
 |some v=>if v<0 then(v+(n:Int)).toNat else min v.toNat n
theorem Rz(n d:Nat)(hd:d<=n)(o:Option Int):dG n d o<=n:=by
 cases o with
 |none=>exact hd
 |some v =>
  show(if v<0 then(v+(n:Int)).toNat else min v.toNat n)<=n;by_cases hv:v<0
  ·rw[aJ hv];omega
  ·rw[aF hv];exact Nat.min_le_right _ _
theorem KJ(v:Int)(n d:Nat):(if v<0 then max (v+(n:Int)) 0 else min v (n:Int))=((dG n d (some v):Nat):Int):=by
 show(if v<0 then max (v+(n:Int)) 0 else min v (n:Int))=(((if v<0 then(v+(n:Int)).toNat else min v.toNat n):Nat):Int);by_cases hv:v<0
 ·simp only[if_pos hv];omega
 ·simp only[if_neg hv];omega
theorem aW6(lo hi:Option Int)(n:Nat):Builtin.Slice.sliceAdjust lo hi 1 (n:Int)=(((dG n 0 lo:Nat):Int),((dG n n hi:Nat):Int)):=by
 have h1:¬((1:Int)<0):=by omega
 unfold Builtin.Slice.sliceAdjust;simp only[h1,if_false];refine Prod.ext ?_ ?_
 ·cases lo with
  |none=>rfl
  |some v=>exact KJ v n 0
 ·cases hi with
  |none=>rfl
  |some v=>exact KJ v n n
theorem aS8(i j:Nat):Builtin.Slice.slicePlaces (i:Int) (j:Int) 1=j-i:=by
 unfold Builtin.Slice.slicePlaces;have h1:(1:Int)>0:=by omega
 simp only[h1,if_true,Int.ediv_one];split<;>omega
theorem JV{v:Value}{o:Option Int}{Q:Option Int->Shared->Prop}(p:IsPart v o)(h:Q o s):wpAny (model prog w) A (Builtin.Slice.slicePartIndex v) Q E s:=by
 cases p with
 |none=>exact slicePart_none h
 |int i t=>exact slicePart_int h
theorem V2{sl:Addr}{vl vu:Value}{lo hi:Option Int}{n:Nat}{Q:Int×Int×Nat->Shared->Prop}(hs:s.heap.IsSliceOf sl vl vu .none)(pl:IsPart vl lo)(pu:IsPart vu hi)(h:Q (((dG n 0 lo:Nat):Int),1,dG n n hi-dG n 0 lo) s):wpAny (model prog w) A (Builtin.Slice.sliceApplied (.ref sl) (pure (n:Int))) Q E s:=by
 obtain⟨os,qV,yw,vS⟩:=id hs;unfold Builtin.Slice.sliceApplied Builtin.Slice.sliceFields;refine ag (ag (kS qV vS (x:=vl) rfl (ag (kS qV vS (x:=vu) rfl (ag (kS qV vS (x:=.none) rfl (ax ?_)))))));refine ag (slicePart_none ?_);show wpAny _ _ (if((1:Int)==0)=true then _ else _) _ _ s;rw[aF ∅];refine ag (JV pl (ag (JV pu (ag (ax ?_)))));show wpAny _ _ (match Builtin.Slice.sliceAdjust lo hi 1 (n:Int) with|(lo,hi)=>pure (lo,(1:Int),Builtin.Slice.slicePlaces lo hi 1)) _ _ s;rw[aW6 lo hi n];show wpAny _ _ (pure (((dG n 0 lo:Nat):Int),(1:Int),Builtin.Slice.slicePlaces ((dG n 0 lo:Nat):Int) ((dG n n hi:Nat):Int) 1)) _ _ s;rw[aS8];exact ax h
theorem Vt(xs:Array Value)(i k:Nat):((List.range k).filterMap λ(m:Nat)=>xs[((i:Int)+(m:Int)*1).toNat]?).toArray=((xs.toList.drop i).take k).toArray:=by
 have e:(λ(m:Nat)=>xs[((i:Int)+(m:Int)*1).toNat]?)=λm=>xs[i+m]?:=by
  funext m
  have:((i:Int)+(m:Int)*1).toNat=i+m:=by omega
  rw[this]
 rw[e];have:=pick_run xs i k;rw[List.filterMap_map] at this;have e2:((λx=>xs[x]?) ∘ λx=>i+x)=λm=>xs[i+m]?:=rfl;rw[e2] at this;rw[this]
theorem ZV{t sl:Addr}{items:Array Value}{vl vu:Value}{lo hi:Option Int}{Q:Value->Shared->Prop}(ht:IsTup s.heap t items)(hs:s.heap.IsSliceOf sl vl vu .none)(pl:IsPart vl lo)(pu:IsPart vu hi)(hw:¬(dG items.size 0 lo=0/\dG items.size items.size hi=items.size))(h:Q (.ref s.heap.objs.size) { s with heap:=s.heap.push { cls:=.type "tuple",data:=.seq ((items.toList.drop (dG items.size 0 lo)).take (dG items.size items.size hi-dG items.size 0 lo)).toArray } })(hsz:items.size<=sizeLine):wpAny (model prog w) A (getItem (.ref t) (.ref sl)) Q E s:=by
 have lI:sizeOk (.seq ((items.toList.drop (dG items.size 0 lo)).take (dG items.size items.size hi-dG items.size 0 lo)).toArray):=by
  show((items.toList.drop (dG items.size 0 lo)).take (dG items.size items.size hi-dG items.size 0 lo)).toArray.size<=sizeLine;rw[aK,cZ,lU,bD];omega
 have hj:dG items.size items.size hi<=items.size:=Rz _ _ (ay _) hi;obtain⟨os,qV,yw,vS⟩:=id hs;have BN:s.TypeIs (.ref sl) "slice":=⟨os,qV,yw⟩
 unfold getItem
 try with_reducible refine cy ?_
 first|refine ag (ax ?_)|skip
 refine ag (wpAny_sequenceKey ht.typeIs ∅ ?_);refine ag (fI (name:=Str.ofString "__getitem__") ht.typeIs bT
  (cO bT ht.typeIs entry_tuple_getitem ?_ (args_tuple_getitem _ _)))
 show wpAny _ _ (Builtin.Tuple.tupleItemsOf (.ref t) >>= _) _ _ s;refine ag (tupleItemsOf_ ht ?_);refine ag (fU BN ?_);rw[aJ ∅];refine ag (V2 hs pl pu ?_);have mM:¬((((dG items.size 0 lo:Nat):Int)==0&&(1:Int)==1&&(dG items.size items.size hi-dG items.size 0 lo)==items.size)=true):=by
  intro q;rw[aS,aS] at q;have q1:((dG items.size 0 lo:Nat):Int)=0:=eq_of_beq q.1.1;have q2:dG items.size items.size hi-dG items.size 0 lo=items.size:=eq_of_beq q.2;exact hw ⟨by omega,by omega⟩
 show wpAny _ _ (if(((dG items.size 0 lo:Nat):Int)==0&&(1:Int)==1&&(dG items.size items.size hi-dG items.size 0 lo)==items.size)=true then _ else _) _ _ s;rw[aF mM,Vt]
 first
  |exact wpAny_bind (m:=Builtin.Tuple.tupleExact _) (wpAny_newObj_type (wpAny_pure ⟨_,rfl,wpAny_pure h⟩) lI)
  |exact wpAny_bind (m:=Builtin.Tuple.tupleExact _) (wpAny_newObj_type (wpAny_bind (wpAny_pure (wpAny_pure ⟨_,rfl,wpAny_pure h⟩))) lI)
  |exact wpAny_bind (wpAny_bind (m:=Builtin.Tuple.tupleExact _) (wpAny_newObj_type (wpAny_pure (wpAny_pure ⟨_,rfl,wpAny_pure h⟩)) lI))
  |exact wpAny_bind (wpAny_bind (m:=Builtin.Tuple.tupleExact _) (wpAny_newObj_type (wpAny_pure ⟨_,rfl,wpAny_pure h⟩) lI))
end
end HT
namespace L2
open PySem PySem.Spec PyProof.Rows
variable{X:Cx}{e:Expr}{pos:Pos}{n t':Nat}{α:Type}{a:Addr}{pins:List (Addr×Obj)}{Z:St}{H H':Hp}{s:Shared}{bf:List Value}{o:Option V}{w:World}{A:Around}{E:Value->Shared->Prop}{u:Value}{kvs:List (List Key×V)}{y:V}{P:Program}
noncomputable abbrev TO:=St->Hp->(Option Int->Hp->Prop)->Prop
def PO(X:Cx)(e:Option Expr)(t:TO):Prop :=
 ∀(pins:List (Addr×Obj)) (s:Shared) (Z:St) (H:Hp) (Q:Option Int->Hp->Prop),Inv X pins Z H s->t Z H Q ->
  wpAny (model X.prog X.w) X.A (evalPart e X.env) (λu s'=>∃o H',Inv X pins Z H' s'/\IsPart u o/\Q o H') X.xe s
def UD:TO:=λ_ H Q=>Q none H
def YI(t:TE):TO:=λZ H Q=>t Z H λx H1=>∃i,x=.int i/\Q (some i) H1
section
variable{te:TE}{lo hi:Option Expr}{tl th:TO}{p2:Pos}
theorem zk:PO X none UD:=by
 intro pins s Z H Q I h;rw[evalPart_none];exact ax ⟨none,H,I,.none,h⟩
theorem Lj(h:PE X e te):PO X (some e) (YI te):=by
 intro pins s Z H Q I hw;rw[evalPart_some];refine cI (h pins s Z H _ I hw) λu s1 bq=>?_;obtain⟨x,H1,I1,r1,q1⟩:=bq;obtain⟨i,rfl,q⟩:=q1;obtain⟨t,rfl⟩:=r1;exact⟨some i,H1,I1,.int i t,q⟩
def xK(X:Cx)(r:V->Option Int->Option Int->Hp->VK->Prop):Prop :=
 ∀(pins:List (Addr×Obj)) (s:Shared) (Z:St) (H:Hp) (x:V) (v vl vu:Value) (lo hi:Option Int) (sl:Addr) (Q:VK),Inv X pins Z H s->RelV x v->s.heap.IsSliceOf sl vl vu .none->IsPart vl lo->IsPart vu hi->r x lo hi H Q ->
  ∃T id,typeLookup (.type T) "__getitem__"=pure (some (.builtin id))/\s.TypeIs v T/\wpAny (model X.prog X.w) X.A (getItem v (.ref sl)) (EP X pins Z Q) X.xe s
def Nt(r:V->Option Int->Option Int->Hp->VK->Prop)(te:TE)(tl th:TO):TE:=λZ H Q=>te Z H λx H1=>tl Z H1 λl H2=>th Z H2 λu H3=>r x l u H3 Q
theorem DN{r:V->Option Int->Option Int->Hp->VK->Prop}(hr:xK X r)(he:PE X e te)(hl:PO X lo tl)(hu:PO X hi th):PE X (.Subscript e (.Slice lo hi none p2) pos) (Nt r te tl th):=by
 intro pins s Z H Q I h;refine Subscript_ (cI (he pins s Z H _ I h) λv s1 bq=>?_);obtain⟨x,H1,I1,r1,q1⟩:=bq;refine wpAny_Slice (cI (hl pins s1 Z H1 _ I1 q1) λvl s2 ⟨l,H2,I2,pl,q2⟩=>cI (hu pins s2 Z H2 _ I2 q2) λvu s3 bq=>?_);obtain⟨u,H3,I3,pu,q3⟩:=bq;rw[evalPart_none];refine ax ?_;have I4:Inv X pins Z H3 { s3 with heap:=s3.heap.push { cls:=.type "slice",data:=.fields #[vl,vu,.none] } }:=I3.kept (t':=s3.toks) λb ob q=>aw _ q;obtain⟨T,id,hT,ht,hg⟩:=hr pins { s3 with heap:=s3.heap.push { cls:=.type "slice",data:=.fields #[vl,vu,.none] } } Z H3 x v vl vu l u s3.heap.objs.size Q I4 r1 (Heap.IsSliceOf.new ..) pl pu q3;show wpAny (model X.prog X.w) X.A (subscriptTail e (.Slice lo hi none p2) v (.ref s3.heap.objs.size)) (EP X pins Z Q) X.xe { s3 with heap:=s3.heap.push { cls:=.type "slice",data:=.fields #[vl,vu,.none] } };exact tail_any (ops:=[.ref s3.heap.objs.size,v]) ht hT hg (by with_unfolding_all rfl)
def W6(xs:List V)(lo hi:Option Int):List V:=(xs.drop (HT.dG xs.length 0 lo)).take (HT.dG xs.length xs.length hi-HT.dG xs.length 0 lo)
theorem JZ(xs:List V)(lo hi:Option Int):(W6 xs lo hi).length<=xs.length:=by
 unfold W6;rw[cZ,lU];omega
def Wu(K:PySem.W.Frag):V->Option Int->Option Int->Hp->VK->Prop:=λx lo hi H Q=>∃a xs,x=.ref a/\jB K H a xs /\
 ¬(HT.dG xs.length 0 lo=0/\HT.dG xs.length xs.length hi=xs.length)/\∀p,H p=none->Q (.ref p) (upd H p (.tup (W6 xs lo hi)))
theorem RP:xK X (Wu X.K):=by
 intro pins s Z H x v vl vu lo hi sl Q I rx hs pl pu h;obtain⟨a,xs,rfl,hx,hw,q⟩:=h;cases rx;obtain⟨bf,r,ht,hz⟩:=I.tuple hx;have hlen:bf.toArray.size=xs.length:=by rw[aK];exact r.length.symm
 refine⟨"tuple",_,bT.lookup,ht.typeIs,?_⟩;refine HT.ZV ht hs pl pu (by rw[hlen];exact hw) ?_ (by rw[hlen];exact hz);rw[hlen];refine⟨.ref s.heap.objs.size,_,I.laid (t':=s.toks) (o:=.tup (W6 xs lo hi)) (λb ob q=>aw _ q) (ay _) ?_,rfl,q _ (I.bR.fresh (ay _))⟩;exact⟨aB (JZ xs lo hi) hz,_,(r.drop (HT.dG xs.length 0 lo)).take (HT.dG xs.length xs.length hi-HT.dG xs.length 0 lo),S0.new _ _⟩
theorem Vals.Le{xs:List V}{us:List Value}(r:Vals xs us):us=[]↔xs=[]:=by
 cases r with
 |nil=>simp
 |cons _ _=>simp
end
def kM(n:Nat)(i:Int):Option Nat:=if 0<=i then(if i<n then some i.toNat else none) else if -(n:Int)<=i then some (i+n).toNat else none
def fL{α:Type}(xs:List α)(i:Int):Option α:=(kM xs.length i).bind λj=>xs[j]?
theorem KW{i:Int}{j:Nat}(h:kM n i=some j):seqIndex? i n=some j/\j<n/\-(n:Int)<=i/\i<n:=by
 unfold kM at h;by_cases h0:0<=i
 ·rw[aJ h0] at h;by_cases h1:i<n
  ·rw[aJ h1] at h;have e:i.toNat=j:=aO h;exact⟨by rw[seqIndex_of h0 h1,e],by omega,by omega,h1⟩
  ·rw[aF h1] at h;cases h
 ·rw[aF h0] at h;by_cases h1:-(n:Int)<=i
  ·rw[aJ h1] at h;have e:(i+n).toNat=j:=aO h;exact⟨by rw[seqIndex_neg () h1,e],by omega,h1,by omega⟩
  ·rw[aF h1] at h;cases h
theorem Di{xs:List α}{i:Int}{v:α}(h:fL xs i=some v):∃j,seqIndex? i xs.length=some j/\xs[j]?=some v/\j<xs.length/\-(xs.length:Int)<=i/\i<xs.length:=by
 unfold fL at h;cases e:kM xs.length i with
 |none=>rw[e] at h;cases h
 |some j =>
  rw[e] at h;obtain⟨h1,h2,h3,h4⟩:=KW e;exact⟨j,h1,h,h2,h3,h4⟩
theorem n6{xs:List α}{j:Nat}{v:α}(h:xs[j]?=some v):fL xs (j:Int)=some v:=by
 have hj:j<xs.length:=(aj.mp h).1;have e:kM xs.length (j:Int)=some j:=by
  unfold kM;rw[aJ (),aJ ()];simp
 unfold fL;rw[e];exact h
def Df(b:Expr):Prop:=∀o i,subscripted b false o i=operate [o,i] (getItem o i)
def sN(X:Cx)(r:R2):Prop :=
 ∀(value slice:Expr) (pins:List (Addr×Obj)) (s:Shared) (Z:St) (H:Hp) (x y:V) (v u:Value) (Q:VK),Inv X pins Z H s->RelV x v->RelV y u->r x y H Q ->
  subscripted slice false v u=operate [v,u] (getItem v u)->wpAny (model X.prog X.w) X.A (subscriptTail value slice v u) (EP X pins Z Q) X.xe s
def mR(X:Cx)(id:String)(r:V->List V->Hp->VK->Prop):Prop :=
 ∀(pins:List (Addr×Obj)) (s:Shared) (Z:St) (H:Hp) (x:V) (xs:List V) (v:Value) (us:List Value) (Q:VK),Inv X pins Z H s->RelV x v->Vals xs us->r x xs H Q ->
  wpAny (model X.prog X.w) X.A (call (.builtin id) (v::us)) (EP X pins Z Q) X.xe s
section
variable{a b:Expr}{ta tb:TE}
theorem IP{r:R2}(hr:sN X r)(ha:PE X a ta)(hb:PE X b tb)(hs:Df b):PE X (.Subscript a b pos) (sU r ta tb):=by
 intro pins s Z H Q I h;exact Subscript_ (CV ha hb I h λv u s2 x y H2 I2 rx ry q=>hr a b pins s2 Z H2 x y v u Q I2 rx ry q (hs _ _))
def Wn(K:PySem.W.Frag):R2:=λx y H Q=>∃p xs i v,x=.ref p/\y=.int i/\fM K H p xs/\fL xs i=some v/\Q v H
def Wq(K:PySem.W.Frag):R2:=λx y H Q=>∃p xs i v,x=.ref p/\y=.int i/\jB K H p xs/\fL xs i=some v/\Q v H
def Wo:R2:=λx y H Q=>∃z i c,x=.str z/\y=.int i/\z.length<=sizeLine/\fL z.cps.toList i=some c/\Q (.str ⟨#[c]⟩) H
theorem Tb:sN X (Wn X.K):=by
 intro value slice pins s Z H x y v u Q I rx ry h hs;obtain⟨p,xs,i,z,rfl,rfl,hq,he,q⟩:=h;cases rx;obtain⟨t,rfl⟩:=ry;obtain⟨bf,r,pl,hz⟩:=I.list hq;obtain⟨j,h1,h2,h3,h4,h5⟩:=Di he;obtain⟨w,ew,gw⟩:=r.get h2;have hl:=r.length;have hn:=W0;have fin:EP X pins Z Q w s:=⟨z,H,I,gw,q⟩
 by_cases h0:0<=i
 ·have hj:i.toNat=j:=by
   rw[seqIndex_of h0 h5] at h1;exact aO h1
  exact item_listR pl.isList h0 () (by rw[hj];simpa using ew) fin hs
 ·have hj:(i+(bf.toArray.size:Int)).toNat=j:=by
   rw[seqIndex_neg () h4] at h1;rw[aK,<- hl];exact aO h1
  exact subscriptTail_builtinR (x:=w) pl.isList.typeIs slot_list_getitem.lookup
   (wpAny_getItem_list_neg (Q:=λr s'=>r=w/\EP X pins Z Q r s') pl.isList () (by rw[aK]<;>omega) () (by rw[hj];simpa using ew) ⟨rfl,fin⟩) hs
theorem Zq:sN X (Wq X.K):=by
 intro value slice pins s Z H x y v u Q I rx ry h hs;obtain⟨p,xs,i,z,rfl,rfl,hq,he,q⟩:=h;cases rx;obtain⟨t,rfl⟩:=ry;obtain⟨bf,r,pl,hz⟩:=I.tuple hq;obtain⟨j,h1,h2,h3,h4,h5⟩:=Di he;obtain⟨w,ew,gw⟩:=r.get h2;have hl:=r.length;have hn:=W0;have fin:EP X pins Z Q w s:=⟨z,H,I,gw,q⟩
 exact subscriptTail_builtinR (x:=w) pl.typeIs slot_tuple_getitem.lookup
  (getItem_tuple (j:=j) (Q:=λr s'=>r=w/\EP X pins Z Q r s') pl () () (by rw[aK,<- hl];exact h1) (by simpa using ew) ⟨rfl,fin⟩) hs
theorem Zp:sN X Wo:=by
 intro value slice pins s Z H x y v u Q I rx ry h hs;obtain⟨z,i,c,rfl,rfl,hz,he,q⟩:=h;obtain⟨t,rfl⟩:=rx;obtain⟨t',rfl⟩:=ry;obtain⟨j,h1,h2,h3,h4,h5⟩:=Di he;have hl:z.cps.toList.length=z.length:=by simp[Str.length]
 rw[hl] at h1 h4 h5;have hn:=W0;exact tail_any (typeIs_str s z t) slot_str_getitem.lookup (getItem_str (c:=c) (by
  have e1:decide (i < -(2 ^ 63:Int))=false:=av ();have e2:decide (i>=2 ^ 63)=false:=av ();rw [e1,e2,Bool.or_false]) (by rw [h1];simpa using h2) ⟨.str ⟨#[c]⟩,H,I.tok _,⟨_,rfl⟩,q⟩) hs
theorem aT9(bf:List Value)(n j:Nat)(u:Value):Obj.mapSeq (·.setIfInBounds j u) { cls:=.type "list",data:=.seq bf.toArray n }={ cls:=.type "list",data:=.seq (bf.set j u).toArray n }:=by
 simp[Obj.mapSeq]
theorem Inv.lst{pins:List (Addr×Obj)}{Z:St}{H:Hp}{s:Shared}{p:Addr}{xs:List V}(I:Inv X pins Z H s)(h:H p=some (.lst xs)) :
  ∃(bf:List Value) (n:Nat),Vals xs bf/\s.heap.get? p=some { cls:=.type "list",data:=.seq bf.toArray n }/\xs.length<=sizeLine:=by
 obtain⟨z,bf,n,r,e⟩:=I.bR p _ h;exact⟨bf,n,r,e,z⟩
theorem Inv.ZD{p:Addr}{xs ys:List V}{its':List Value}{n':Nat}{f:Obj->Obj}(I:Inv X pins Z H s)(h:H p=some (.lst xs))(ho:s.heap.get? p=some { cls:=.type "list",data:=.seq bf.toArray n })(hf:f { cls:=.type "list",data:=.seq bf.toArray n }={ cls:=.type "list",data:=.seq its'.toArray n' })(r:Vals ys its')(hz:ys.length<=sizeLine)(t:Nat) :
  Inv X pins Z (upd H p (.lst ys)) { s with heap:=s.heap.update p f,toks:=t }:=by
 have e:(s.heap.update p f).get? p=some { cls:=.type "list",data:=.seq its'.toArray n' }:=by
  rw[bw f ho (by rw[hf]<;>rfl),hf]
 refine I.write (x:=p) (e:=p) (by rw[h];trivial) (.inl rfl) (λb u hb q=>(dh _ _ (cb hb)).trans q) ⟨_,e⟩ ?_;exact⟨hz,its',n',r,e⟩
def Yt:V->V->V->Hp->(Hp->Prop)->Prop:=λo i v H Q=>∃p xs k j,o=.ref p/\i=.int k/\H p=some (.lst xs)/\kM xs.length k=some j/\Q (upd H p (.lst (xs.set j v)))
theorem set_list:CQ X Yt:=by
 intro pins s Z H o i v ov iv u Q I ro ri rv h;obtain⟨p,xs,k,j,rfl,rfl,hp,hj,q⟩:=h;cases ro;obtain⟨t,rfl⟩:=ri;obtain⟨bf,n,r,ho,hz⟩:=I.lst hp;obtain⟨h1,h2,h3,h4⟩:=KW hj;have hl:=r.length;have hn:=W0;have I':Inv X pins Z (upd H p (.lst (xs.set j v))) { s with heap:=s.heap.update p (Obj.mapSeq (·.setIfInBounds j u)) } :=
  I.ZD hp ho (aT9 bf n j u) (r.set rv j) (by rw[mX];exact hz) s.toks
 by_cases h0:0<=k
 ·have hk:k.toNat=j:=by
   rw[seqIndex_of h0 h4] at h1;exact aO h1
  exact PySem.W.ki_setAt ho h0 () (by rw[aK,<- hl];exact h4) (by rw[hk];exact⟨_,I',q⟩)
 ·have hk:(k+(bf.toArray.size:Int)).toNat=j:=by
   rw[seqIndex_neg () h3] at h1;rw[aK,<- hl];exact aO h1
  exact PySem.W.ki_setBack ho () (by rw[aK,<- hl];exact h3) () (by rw[hk];exact⟨_,I',q⟩)
theorem aE6(lo hi:Option Int)(n:Nat):(sliceBounds lo hi none n).1=((HT.dG n 0 lo:Nat):Int)/\(sliceBounds lo hi none n).2.1=((HT.dG n n hi:Nat):Int)/\(sliceBounds lo hi none n).2.2=1:=by
 refine⟨?_,?_,rfl⟩
 ·cases lo with
  |none=>simp[sliceBounds,HT.dG]
  |some i =>
   simp only[sliceBounds,HT.dG,Option.getD_none,show(1:Int)>0 by decide,if_true];by_cases h:i<0
   ·simp only[h,if_true]<;>omega
   ·simp only[h,if_false]<;>omega
 ·cases hi with
  |none=>simp[sliceBounds,HT.dG]
  |some i =>
   simp only[sliceBounds,HT.dG,Option.getD_none,show(1:Int)>0 by decide,if_true];by_cases h:i<0
   ·simp only[h,if_true]<;>omega
   ·simp only[h,if_false]<;>omega
theorem aA7(bf:List Value)(lo hi:Option Int):slicePick bf.toArray lo hi none=((bf.drop (HT.dG bf.length 0 lo)).take (HT.dG bf.length bf.length hi-HT.dG bf.length 0 lo)).toArray:=by
 obtain⟨h1,h2,h3⟩:=aE6 lo hi bf.toArray.size;unfold slicePick;rw[h1,h2,h3];simp only[sliceRange_one,pick_run,List.size_toArray]<;>rfl
def Wt(K:PySem.W.Frag):V->Option Int->Option Int->Hp->VK->Prop:=λx lo hi H Q=>∃a xs,x=.ref a/\fM K H a xs/\∀p,H p=none->Q (.ref p) (upd H p (.lst (W6 xs lo hi)))
theorem Uw:xK X (Wt X.K):=by
 intro pins s Z H x v vl vu lo hi sl Q I rx hs pl pu h;obtain⟨a,xs,rfl,hx,q⟩:=h;cases rx;obtain⟨bf,r,ht,hz⟩:=I.list hx;have hlen:=r.length;refine⟨"list",_,slot_list_getitem.lookup,ht.isList.typeIs,?_⟩;refine wpAny_getItem_list_slice ht.isList hs pl pu .none (by simp) ?_ (by rw[aK]<;>omega);rw[aA7,<- hlen];refine⟨.ref s.heap.objs.size,_,I.laid (t':=s.toks) (o:=.lst (W6 xs lo hi)) (λb ob q=>aw _ q) (ay _) ?_,rfl,q _ (I.bR.fresh (ay _))⟩;exact⟨aB (JZ xs lo hi) hz,_,0,(r.drop (HT.dG xs.length 0 lo)).take (HT.dG xs.length xs.length hi-HT.dG xs.length 0 lo),aG _ rfl⟩
theorem aJ4:m8 X (.builtin "len") (λxs H Q=>∃p ys,xs=[.ref p]/\(fM X.K H p ys\/jB X.K H p ys)/\Q (.int ys.length) H):=by
 intro pins s Z H xs us Q I r h;obtain⟨p,ys,rfl,hq,q⟩:=h;obtain⟨u,rfl,rx⟩:=vals1 r;cases rx;have hn:=W0;rcases hq with hq|hq
 ·obtain⟨bf,r',pl,hz⟩:=I.list hq;have hlen:=r'.length;exact Calls.call_len_list pl.isList (by simp only[List.size_toArray]<;>omega) ⟨.int ys.length,H,I.tok _,⟨s.toks+1,by rw[aK,hlen]⟩,q⟩
 ·obtain⟨bf,r',pl,hz⟩:=I.tuple hq;have hlen:=r'.length;exact len_tuple pl (by simp only[List.size_toArray]<;>omega) ⟨.int ys.length,H,I.tok _,⟨s.toks+1,by rw[aK,hlen]⟩,q⟩
theorem aJ3:m8 X (.builtin "len") (λxs H Q=>∃z,xs=[.str z]/\z.length<=sizeLine/\Q (.int z.length) H):=by
 intro pins s Z H xs us Q I r h;obtain⟨z,rfl,hz,q⟩:=h;obtain⟨u,rfl,t,rfl⟩:=vals1 r;have hn:=W0;exact len_str () ⟨.int z.length,H,I.tok _,⟨_,rfl⟩,q⟩
theorem aJ2:m8 X (.type "list") (λxs H Q=>∃p ys,xs=[.ref p]/\(fM X.K H p ys\/jB X.K H p ys)/\∀l,H l=none->Q (.ref l) (upd H l (.lst ys))):=by
 intro pins s Z H xs us Q I r h;obtain⟨p,ys,rfl,hq,q⟩:=h;obtain⟨u,rfl,rx⟩:=vals1 r;cases rx;have fin:∀(bf:List Value),Vals ys bf->ys.length<=sizeLine->∀(h':Heap) (c':Nat),(∀b o',s.heap.get? b=some o'->h'.get? b=some o') ->
   h'.get? s.heap.objs.size=some { cls:=.type "list",dict:=none,data:=.seq bf.toArray c',slots:=#[] }->EP X pins Z Q (.ref s.heap.objs.size) { s with heap:=h' }:=λbf r' hz h' c' kp e =>
  ⟨.ref s.heap.objs.size,_,I.laid (t':=s.toks) kp (ay _) (show n8 X.prog X.w _ h' _ (.lst ys) from⟨hz,bf,c',r',e⟩),rfl,q _ (I.bR.fresh (ay _))⟩
 rcases hq with hq|hq
 ·obtain⟨bf,r',pl,hz⟩:=I.list hq;have hlen:=r'.length;obtain⟨o,ho,hc,n,hd⟩:=pl.isList;exact call_list_seq p (.inl rfl) ho hc hd (λh' c' kp e=>fin bf r' hz h' c' kp e) (by simp only[List.size_toArray]<;>omega)
 ·obtain⟨bf,r',pl,hz⟩:=I.tuple hq;have hlen:=r'.length;obtain⟨o,ho,hc,n,hd⟩:=pl;exact call_list_seq p (.inr rfl) ho hc hd (λh' c' kp e=>fin bf r' hz h' c' kp e) (by simp only[List.size_toArray]<;>omega)
theorem aB2:m8 X (.type "tuple") (λxs H Q=>∃p ys,xs=[.ref p]/\((fM X.K H p ys/\∀l,H l=none->Q (.ref l) (upd H l (.tup ys)))\/(jB X.K H p ys/\Q (.ref p) H))):=by
 intro pins s Z H xs us Q I r h;obtain⟨p,ys,rfl,h⟩:=h;obtain⟨u,rfl,rx⟩:=vals1 r;cases rx;rcases h with⟨hq,q⟩|⟨hq,q⟩
 ·obtain⟨bf,r',pl,hz⟩:=I.list hq;have hlen:=r'.length;refine call_tuple_list pl.isList (λh' kp=>?_) (by simp only[List.size_toArray]<;>omega);have I1:Inv X pins Z H { s with heap:=h' }:=I.kept (t':=s.toks) kp;have I2:Inv X pins Z (upd H h'.objs.size (.tup ys)) { s with heap:=h'.push { cls:=.type "tuple",data:=.seq bf.toArray } } :=
   I1.laid (t':=s.toks) (λb o e=>aw _ e) (ay _) (show n8 X.prog X.w _ _ _ (.tup ys) from⟨hz,bf,r',S0.new _ _⟩)
  exact⟨.ref h'.objs.size,_,I2,rfl,q _ (I1.bR.fresh (ay _))⟩
 ·obtain⟨bf,r',pl,hz⟩:=I.tuple hq;exact call_tuple_same pl ⟨.ref p,H,I,rfl,q⟩
def nV(K:PySem.W.Frag)(T:String)(x:V)(H:Hp):Prop:=match x with
 |.str _=>T="str"
 |.int _=>T="int"
 |.ref p=>(T="list"/\∃xs,fM K H p xs)\/(T="tuple"/\∃o,K.lookup p=some o/\o.cls=.type "tuple"/\o.dict=none) \/
   (T="dict"/\((∃kvs,H p=some (.dK kvs))\/∃kvs,H p=some (.dT kvs)))\/(T="set"/\∃S n,H p=some (.set S n))
 |_=>False
theorem KG{T:String}{x:V}{v:Value}(I:Inv X pins Z H s)(r:RelV x v)(ty:nV X.K T x H) :
  s.TypeIs v T/\∀a,v=.ref a->∃ob,s.heap.get? a=some ob/\ob.dict=none:=by
 cases x with
 |str z =>
  obtain⟨t,rfl⟩:=r;cases (show T="str" from ty);exact⟨typeIs_str s z t,λ_ e=>nomatch e⟩
 |int i =>
  obtain⟨t,rfl⟩:=r;cases (show T="int" from ty);exact⟨mU s i t,λ_ e=>nomatch e⟩
 |ref p =>
  cases r;rcases ty with⟨rfl,xs,hq⟩|⟨rfl,o,hk,hc,hd⟩|⟨rfl,hk⟩|⟨rfl,S,n,hk⟩
  ·obtain⟨bf,_,pl,_⟩:=I.list hq;refine⟨pl.isList.typeIs,λa e=>?_⟩;cases e;obtain⟨o,n,e,c,hd,_⟩:=pl;exact⟨o,e,hd⟩
  ·refine⟨⟨o,I.hU p o hk,hc⟩,λa e=>?_⟩;cases e;exact⟨o,I.hU _ o hk,hd⟩
  ·have z:∃o,s.heap.get? p=some o/\o.ExactDict:=by
    rcases hk with⟨kvs,hk⟩|⟨kvs,hk⟩
    ·obtain⟨_,_,_,_,o,_,_,e,ex,_⟩:=I.bR p _ hk;exact⟨o,e,ex⟩
    ·obtain⟨_,_,_,_,o,_,_,e,ex,_⟩:=I.bR p _ hk;exact⟨o,e,ex⟩
   obtain⟨o,e,ex⟩:=z;refine⟨⟨o,e,ex.1⟩,λa e2=>?_⟩;cases e2;exact⟨o,e,ex.2.1⟩
  ·obtain⟨o,_,_,_,e,ex,_⟩:=I.bR p _ hk;refine⟨⟨o,e,ex.1⟩,λa e2=>?_⟩;cases e2;exact⟨o,e,ex.2.1⟩
 |_=>exact False.elim ty
def WH(K:PySem.W.Frag)(T:String)(r:V->List V->Hp->VK->Prop)(to:TE):TE:=λZ H Q=>to Z H λx H1=>nV K T x H1/\r x [] H1 Q
def Nw(K:PySem.W.Frag)(T:String)(r:V->List V->Hp->VK->Prop)(to:TE)(t:TA):TE:=λZ H Q=>to Z H λx H1=>nV K T x H1/\t Z H1 λxs H2=>r x xs H2 Q
variable{o:Expr}{es:List Expr}{to:TE}{t:TA}{name:Str}{apos eR:Pos}{T id:String}{r:V->List V->Hp->VK->Prop}
theorem Ra(pa:PlainAttrs T)(slot:Slot T name id)(jK:typeOf (.builtin id)=pure (.type "method_descriptor"))(hm:mR X id r)(ho:PE X o to)(gG:attributeBase o name X.env (eval o X.env)=eval o X.env:=by rfl)(gF:(apos.endLine==eR.line)=true:=by rfl):PE X (.Call (.Attribute o name apos) [] [] eR) (WH X.K T r to):=by
 intro pins s Z H Q I h;refine wpAny_Call_method0_late gG gF (cI (ho pins s Z H _ I h) λv s1 bq=>?_);obtain⟨x,H1,I1,r1,ty,q1⟩:=bq;obtain⟨h1,h2⟩:=KG I1 r1 ty;exact⟨T,id,pa,slot,jK,h1,h2,jQ rfl (PySem.evalArgs_none (hm pins s1 Z H1 x [] v [] Q I1 r1 .nil q1))⟩
theorem Yk(pa:PlainAttrs T)(slot:Slot T name id)(jK:typeOf (.builtin id)=pure (.type "method_descriptor"))(hm:mR X id r)(ho:PE X o to)(ha:PA X (e::es) t)(gG:attributeBase o name X.env (eval o X.env)=eval o X.env:=by rfl)(lA:((backTo eR (starEach (e :: es) X.env)).all (λx=>!x.1) && (backToKw eR (keywordEach [] X.env)).all (λx=>x.1.isSome)
   && decide ((e :: es).length + ([]:List Keyword).length + (if ([]:List Keyword).isEmpty then 0 else 1) < 30))=true:=by rfl)(gF:(apos.endLine==eR.line)=true:=by rfl)(hs:starEach (e::es) X.env=(false,eval e X.env)::starEach es X.env:=by rfl)(fq:(backTo eR (starEach es X.env)).any (·.1)=false:=by rfl) :
  PE X (.Call (.Attribute o name apos) (e::es) [] eR) (Nw X.K T r to t):=by
 intro pins s Z H Q I h;refine wpAny_Call_method_late gG lA gF rfl (cI (ho pins s Z H _ I h) λv s1 bq=>?_);obtain⟨x,H1,I1,r1,ty,q1⟩:=bq;obtain⟨h1,h2⟩:=KG I1 r1 ty;refine⟨T,id,pa,slot,jK,h1,h2,?_⟩;have hA:=ha eR pins s1 Z H1 _ I1 q1;rw[hs] at hA ⊢;refine jQ (by show(false||(backTo eR (starEach es X.env)).any (·.1))=false;rw[fq]<;>rfl) (kZ ?_);exact cI hA λus s2 ⟨vs,H2,I2,r2,q2⟩=>hm pins s2 Z H2 x vs v us Q I2 r1 r2 q2
end
def MM(X:Cx)(id:String)(r:V->List V->Hp->VK->Prop):Prop :=
 ∀(pins:List (Addr×Obj)) (s:Shared) (Z:St) (H:Hp) (x:V) (xs:List V) (v:Value) (us:List Value) (Q:VK),Inv X pins Z H s->RelV x v->Vals xs us->r x xs H Q ->
  wpAny (model X.prog X.w) X.A (call (.builtin id) (v::us)) (EP X pins Z Q) X.xe s
theorem Vals.one{x:V}{us:List Value}(h:Vals [x] us):∃u,us=[u]/\RelV x u:=by
 cases h with
 |cons r h =>
  cases h;exact⟨_,rfl,r⟩
theorem Vals.eraseIdx:∀{xs:List V} {us:List Value} (i:Nat),Vals xs us->Vals (xs.eraseIdx i) (us.eraseIdx i)
 |_,_,_,.nil=>.nil
 |_,_,0,.cons _ t=>t
 |_,_,i+1,.cons r t=>.cons r (Vals.eraseIdx i t)
theorem Vals.rep{xs:List V}{us:List Value}(h:Vals xs us):∀k:Nat,Vals (List.replicate k xs).flatten (List.replicate k us).flatten
 |0=>.nil
 |k+1=>by
  rw[cU,cU,et,et];exact Vals.append h (Vals.rep h k)
theorem Jp{α:Type}:∀(l:List α) (i:Nat),(l.eraseIdx i).length<=l.length
 |[],_=>ay _
 |_::_,0=>gZ _
 |_::r,i+1=>Nat.succ_le_succ (Jp r i)
theorem foldl_rep(bf:List Value):∀(k:Nat) (acc:List Value),
  List.foldl (λx1 x2=>x1++x2) acc.toArray (List.replicate k bf.toArray)=(acc++(List.replicate k bf).flatten).toArray
 |0,acc=>by simp
 |k+1,acc=>by
  have e:acc.toArray++bf.toArray=(acc++bf).toArray:=by simp
  have e2:(acc++bf)++(List.replicate k bf).flatten=acc++(List.replicate (k+1) bf).flatten:=by
   rw[cU,et,fC]
  rw[<- e2,<- foldl_rep bf k (acc++bf),<- e,cU,List.foldl_cons]
section
variable{l:Addr}{xs ys:List V}
theorem Inv.qg{its':List Value}{f:Array Value->Array Value}{t':Nat}(I:Inv X pins Z H s)(hH:H l=some (.lst xs))(e:s.heap.get? l=some { cls:=.type "list",data:=.seq bf.toArray n })(hf:f bf.toArray=its'.toArray)(hv:Vals ys its')(hz:ys.length<=sizeLine) :
  Inv X pins Z (upd H l (.lst ys)) { s with heap:=s.heap.update l (Obj.mapSeq f),toks:=t' }:=by
 have q:=PySem.IsL.update e f;rw[hf] at q;refine I.write (x:=l) (e:=l) (by rw[hH];exact trivial) (.inl rfl) (λb' u hb hu=>(dh s.heap (Obj.mapSeq f) (cb hb)).trans hu) ⟨_,q⟩ ?_;exact⟨hz,its',_,hv,q⟩
theorem Inv.Ji{t':Nat}(I:Inv X pins Z H s)(hv:Vals ys bf)(hz:ys.length<=sizeLine) :
  Inv X pins Z (upd H s.heap.objs.size (.lst ys)) { s with heap:=s.heap.push { cls:=.type "list",data:=.seq bf.toArray },toks:=t' } :=
 I.laid (λ_ _ q=>aw _ q) (ay _) ⟨hz,bf,0,hv,aG _ rfl⟩
theorem Inv.fresh(I:Inv X pins Z H s):H s.heap.objs.size=none:=I.bR.fresh (ay _)
theorem Inv.ph(I:Inv X pins Z H s)(hH:H l=some (.lst xs)):xs.length<=sizeLine/\∃(bf:List Value) (n:Nat),Vals xs bf/\xs.length=bf.length/\s.heap.get? l=some { cls:=.type "list",data:=.seq bf.toArray n }:=by
 obtain⟨z,bf,n,r,e⟩:=I.bR l _ hH;exact⟨z,bf,n,r,r.length,e⟩
theorem Vj(h:n<=sizeLine):Builtin.List.listTooLong n=false:=by
 unfold Builtin.List.listTooLong;exact av ()
end
def Uc:V->List V->Hp->VK->Prop:=λx vs H Q=>∃l xs y,x=.ref l/\vs=[y]/\H l=some (.lst xs)/\xs.length<sizeLine/\Q .bN (upd H l (.lst (xs++[y])))
theorem a24:MM X "list.append" Uc:=by
 intro pins s Z H x vs v us Q I rx rv h;obtain⟨l,xs,y,rfl,rfl,hH,hz,q⟩:=h;cases rx;obtain⟨u,rfl,ru⟩:=rv.one;obtain⟨z,bf,n,r,hl,e⟩:=I.ph hH;refine fG F.slot_list_append ⟨_,e,rfl⟩ F.entry_list_append (F.args_list_append_2 _ _) (PySem.list_append l bf.toArray n u (by rw[aK];omega)) ⟨e,?_⟩;refine⟨.bN,_,I.qg (its':=bf++[u]) hH e (by simp) (r.append (.cons ru .nil)) ?_,rfl,q⟩;rw[bg,je];omega
def Ry:V->List V->Hp->VK->Prop:=λx vs H Q=>∃l xs i k y,x=.ref l/\vs=[.int i]/\H l=some (.lst xs)/\-(2 ^ 63)<=i/\i<2 ^ 63/\seqIndex? i xs.length=some k/\xs[k]?=some y/\Q y (upd H l (.lst (xs.eraseIdx k)))
theorem Vf:MM X "list.pop" Ry:=by
 intro pins s Z H x vs v us Q I rx rv h;obtain⟨l,xs,i,k,y,rfl,rfl,hH,h1,h2,hk,hy,q⟩:=h;cases rx;obtain⟨u,rfl,ru⟩:=rv.one;obtain⟨t,rfl⟩:=ru;obtain⟨z,bf,n,r,hl,e⟩:=I.ph hH;obtain⟨w,hw,gw⟩:=r.get hy;refine fG F.slot_list_pop ⟨_,e,rfl⟩ F.entry_list_pop (F.args_list_pop_2 _ _)
  (MeetsSeq.list_pop_at l bf.toArray n i t k w (fitsIndex_both h1 h2) (by rw[aK,<- hl];exact hk) (by rw[<- jg];exact hw) (by rw[aK];omega)) ⟨e,?_⟩
 refine⟨y,_,I.qg (its':=bf.eraseIdx k) hH e ?_ (r.eraseIdx k) ?_,gw,q⟩
 ·show bf.toArray.eraseIdxIfInBounds k=(bf.eraseIdx k).toArray;rw[List.eraseIdxIfInBounds_toArray]
 ·have:=Jp xs k;omega
def Wm:R2:=λx y H Q=>∃l b xs zs,x=.ref l/\y=.ref b/\H l=some (.lst xs)/\H b=some (.lst zs)/\xs.length+zs.length<=sizeLine/\∀p,H p=none->Q (.ref p) (upd H p (.lst (xs++zs)))
theorem QO:gi X (binaryOp .Add) Wm:=by
 intro pins s Z H x y v u Q I rx ry h;obtain⟨l,b,xs,zs,rfl,rfl,hH,hB,hz,q⟩:=h;cases rx;cases ry;obtain⟨z,bf,n,r,hl,e⟩:=I.ph hH;obtain⟨z2,mj,n2,r2,Hd,e2⟩:=I.ph hB;refine PySem.P.add_list e e2 ?_ (by rw[aK,aK];omega);have ea:bf.toArray++mj.toArray=(bf++mj).toArray:=by simp
 rw[ea];exact⟨.ref _,_,I.Ji (t':=s.toks) (r.append r2) (by rw[bg];omega),rfl,q _ I.fresh⟩
def Wr:R2:=λx y H Q=>∃l k xs,x=.ref l/\y=.int k/\H l=some (.lst xs)/\-(2 ^ 63)<=k/\k<2 ^ 63/\xs.length*k.toNat<=sizeLine /\
 ∀p,H p=none->Q (.ref p) (upd H p (.lst (List.replicate k.toNat xs).flatten))
theorem len_rep(xs:List α)(k:Nat):(List.replicate k xs).flatten.length=k*xs.length:=by
 induction k with
 |zero=>simp
 |succ k ih=>rw[cU,et,bg,ih,Nat.succ_mul,Nat.add_comm]
theorem QT:gi X (binaryOp .Mult) Wr:=by
 intro pins s Z H x y v u Q I rx ry h;obtain⟨l,k,xs,rfl,rfl,hH,h1,h2,hz,q⟩:=h;cases rx;obtain⟨t,rfl⟩:=ry;obtain⟨z,bf,n,r,hl,e⟩:=I.ph hH;have hlen:bf.toArray.size*k.toNat<=sizeLine:=by rw[aK,<- hl];exact hz
 have BD:¬bf.toArray.size*k.toNat>(2 ^ 63-1) / 8:=by
  have:(sizeLine:Nat)<=(2 ^ 63-1) / 8:=by decide
  omega
 have BA:¬(!Builtin.List.listFitsIndex k)=true:=by
  rw[fitsIndex_both h1 h2];exact dO
 have vH:¬Builtin.List.listTooLong (bf.toArray.size*k.toNat)=true:=by
  rw[Vj hlen];exact dO
 have Bl:List.foldl (λx1 x2=>x1++x2) #[] (List.replicate (if bf.toArray.isEmpty=true then 0 else k.toNat) bf.toArray)=(List.replicate k.toNat bf).flatten.toArray:=by
  have f0:∀m:Nat,List.foldl (λx1 x2=>x1++x2) #[] (List.replicate m bf.toArray)=(List.replicate m bf).flatten.toArray:=λm=>by
   have:=foldl_rep bf m [];rw[List.nil_append] at this;exact this
  rw[f0];cases bf with
  |nil=>simp
  |cons a r'=>rw[if_neg (by simp)]
 refine wpAny_binaryOp_repeat_ref (T:="list") (U:="int") ∅ ⟨_,e,rfl⟩ (λs'=>mU s' k t) noFill_list_mul F.fills_int_mul F.slot_int_rmul repeat_list F.slot_int_index.lookup
  (fG F.slot_int_rmul (mU s k t) F.entry_int_rmul (F.args_int_rmul_2 _ _) (int___rmul___int_list k t l bf.toArray n)
   ⟨e,rfl,⟨_,e,rfl⟩,fG F.slot_list_mul ⟨_,e,rfl⟩ F.entry_list_mul (F.args_list_mul_2 _ _) (AutoListH.list___mul___list_int_3 l bf.toArray n k t BA BD vH) ⟨e,?_⟩⟩)
 rw[Bl];exact⟨.ref _,_,I.Ji (t':=s.toks) (r.rep k.toNat) (by rw[len_rep,Nat.mul_comm];exact hz),rfl,q _ I.fresh⟩
section
variable{κ:Type}[DecidableEq κ]
def N1(kvs:List (κ×V))(k:κ):Option V:=(kvs.find? λkv=>decide (kv.1=k)).map (·.2)
def putK(kvs:List (κ×V))(k:κ)(v:V):List (κ×V) :=
 if(kvs.any λkv=>decide (kv.1=k))=true then kvs.map (λkv=>if kv.1=k then(kv.1,v) else kv) else kvs++[(k,v)]
theorem DX{p:κ×V}{r:List (κ×V)}{k:κ}(e:p.1=k):N1 (p::r) k=some p.2:=by simp[N1,List.find?_cons,e]
theorem DW{p:κ×V}{r:List (κ×V)}{k:κ}(e:¬p.1=k):N1 (p::r) k=N1 r k:=by simp[N1,List.find?_cons,e]
theorem Mi(k:κ):∀kvs:List (κ×V),(kvs.any λkv=>decide (kv.1=k))=(N1 kvs k).isSome
 |[]=>rfl
 |p::r=>by
  rw[fS];by_cases e:p.1=k
  ·simp only[DX e,decide_eq_true e,Bool.true_or,Option.isSome_some]
  ·rw[DW e,av e,qr];exact Mi k r
theorem Z0(kvs:List (κ×V))(k:κ)(v:V):(putK kvs k v).length<=kvs.length+1:=by
 unfold putK;split
 ·rw[ae];omega
 ·rw[bg,de,List.length_nil];omega
theorem K1.R8{u:Option Value}(r:K1 o u):o.isSome=u.isSome:=by
 cases o with
 |none=>cases u with
  |none=>rfl
  |some _=>exact(show False from r).elim
 |some _=>cases u with
  |none=>exact(show False from r).elim
  |some _=>rfl
theorem K1.getD{o:Option V}{u:Option Value}{d:V}{d':Value}(r:K1 o u)(rd:RelV d d'):RelV (o.getD d) (u.getD d'):=by
 cases o with
 |none=>cases u with
  |none=>exact rd
  |some _=>exact(show False from r).elim
 |some _=>cases u with
  |none=>exact(show False from r).elim
  |some _=>exact r
theorem KV.val{kvs:List (κ×V)}{vs:List (κ×Value)}(r:KV kvs vs)(k:κ):K1 (N1 kvs k) (valueAt vs k):=by
 unfold KV at r
 induction r with
 |nil=>exact True.intro
 |@cons p q ps qs h t ih =>
  obtain⟨h1,h2⟩:=h;by_cases e:p.1=k
  ·have e':q.1=k:=h1.symm.trans e;have b:valueAt (q::qs) k=some q.2:=by simp[valueAt,List.find?_cons,e']
   rw[DX e,b];exact h2
  ·have e':¬q.1=k:=λz=>e (h1.trans z);have b:valueAt (q::qs) k=valueAt qs k:=by simp[valueAt,List.find?_cons,e']
   rw[DW e,b];exact ih
theorem KV.any{kvs:List (κ×V)}{vs:List (κ×Value)}(r:KV kvs vs)(k:κ):(kvs.any λkv=>decide (kv.1=k))=vs.any λkv=>decide (kv.1=k):=by
 unfold KV at r
 induction r with
 |nil=>rfl
 |cons h t ih=>rw[fS,fS,ih,h.1]
theorem KV.Fx{kvs:List (κ×V)}{vs:List (κ×Value)}(r:KV kvs vs)(k:κ)(ry:RelV y u) :
  KV (kvs.map λkv=>if kv.1=k then(kv.1,y) else kv) (vs.map λkv=>if kv.1=k then(kv.1,u) else kv):=by
 unfold KV at r ⊢
 induction r with
 |nil=>exact .nil
 |@cons p q ps qs h t ih =>
  rw[bh,bh];refine .cons ?_ ih;obtain⟨h1,h2⟩:=h;by_cases e:p.1=k
  ·rw[aJ e,aJ (h1.symm.trans e)];exact⟨h1,ry⟩
  ·rw[aF e,aF (λz=>e (h1.trans z))];exact⟨h1,h2⟩
theorem KV.put{kvs:List (κ×V)}{vs:List (κ×Value)}(r:KV kvs vs)(k:κ)(ry:RelV y u):KV (putK kvs k y) (stored vs k u):=by
 unfold putK stored;rw[r.any k];by_cases e:(vs.any λkv=>decide (kv.1=k))=true
 ·rw[aJ e,aJ e];exact r.Fx k ry
 ·rw[aF e,aF e];exact Paired.snoc r ⟨rfl,ry⟩
theorem KV.keys{kvs:List (κ×V)}{vs:List (κ×Value)}(r:KV kvs vs):kvs.map (·.1)=vs.map (·.1):=by
 unfold KV at r
 induction r with
 |nil=>rfl
 |cons h t ih=>rw[bh,bh,ih,h.1]
theorem KV.length{kvs:List (κ×V)}{vs:List (κ×Value)}(r:KV kvs vs):kvs.length=vs.length:=mF r
end
theorem sE{k:Key}(r:RelV (kV k) u):(u5 P w).is k u=true:=by
 cases k with
 |inl i=>obtain⟨t,e⟩:=(show ∃t,u=Value.int i t from r);subst e;exact aL2 P w i t
 |inr x=>obtain⟨t,e⟩:=(show ∃t,u=Value.str x t from r);subst e;exact aL1 P w x t
theorem Jo{P:Program}{w:World}:∀{ks:List Key} {us:List Value},Vals (ks.map kV) us->ItemsAre (u5 P w) ks us
 |[],_,r=>by rw[uF] at r;cases r;exact .nil
 |k::ks,_,r=>by
  rw[bh] at r;cases r with
  |cons h t=>exact .cons (sE h) (Jo t)
noncomputable abbrev KT(H:Hp):List (List Key×V)->List (List Key×Addr×Value)->Prop:=Paired λp q=>p.1=q.1/\H q.2.1=some (.tup (p.1.map kV))/\RelV p.2 q.2.2
theorem KT.val{xs:List (List Key×Addr×Value)}(r:KT H kvs xs)(k:List Key):K1 (N1 kvs k) ((atKey xs k).map (·.2)):=by
 induction r with
 |nil=>exact True.intro
 |@cons p q ps qs h t ih =>
  obtain⟨h1,_,h2⟩:=h;by_cases e:p.1=k
  ·have e':q.1=k:=h1.symm.trans e;have b:atKey (q::qs) k=some q.2:=by simp[atKey,List.find?_cons,e']
   rw[DX e,b];exact h2
  ·have e':¬q.1=k:=λz=>e (h1.trans z);have b:atKey (q::qs) k=atKey qs k:=by simp[atKey,List.find?_cons,e']
   rw[DW e,b];exact ih
theorem KT.Fx{xs:List (List Key×Addr×Value)}(r:KT H kvs xs)(k:List Key)(ry:RelV y u) :
  KT H (kvs.map λkv=>if kv.1=k then(kv.1,y) else kv) (xs.map (putAt k u)):=by
 induction r with
 |nil=>exact .nil
 |@cons p q ps qs h t ih =>
  rw[bh,bh];refine .cons ?_ ih;obtain⟨h1,h2,h3⟩:=h;unfold putAt;by_cases e:p.1=k
  ·rw[aJ e,aJ (h1.symm.trans e)];exact⟨h1,h2,ry⟩
  ·rw[aF e,aF (λz=>e (h1.trans z))];exact⟨h1,h2,h3⟩
theorem KT.put{xs:List (List Key×Addr×Value)}(r:KT H kvs xs)(k:List Key){b:Addr}(hb:H b=some (.tup (k.map kV)))(ry:RelV y u) :
  KT H (putK kvs k y) (storedH xs k b u):=by
 have e:(kvs.any λkv=>decide (kv.1=k))=(atKey xs k).isSome:=by
  rw[Mi,(r.val k).R8,kU]
 unfold putK storedH;rw[e];by_cases q:(atKey xs k).isSome=true
 ·rw[aJ q,aJ q];exact r.Fx k ry
 ·rw[aF q,aF q];exact Paired.snoc r ⟨rfl,hb,ry⟩
theorem KT.keeps{xs:List (List Key×Addr×Value)}(r:KT H kvs xs)(ht:∀b ys,H b=some (.tup ys)->H' b=some (.tup ys)):KT H' kvs xs :=
 Paired.Jj r λ_ _ z=>⟨z.1,ht _ _ z.2.1,z.2.2⟩
section
variable{h:Heap}
theorem IT{u:HO}(ok:gH P w H h)(e:Rd H a u):n8 P w H h a u:=e.ok ok
theorem sD{kvs:List (Key×V)}(ok:gH P w H h)(e:Rd H a (.dK kvs)):kvs.length<=sizeLine/\(a==sysModules)=false/\∃vs,KV kvs vs/\h.DictOf (u5 P w) a vs :=
 show n8 P w H h a (.dK kvs) from IT ok e
theorem ID{kvs:List (Key×V)}(ok:gH P w H h)(e:H a=some (.dK kvs)):kvs.length<=sizeLine/\(a==sysModules)=false/\∃vs,KV kvs vs/\h.DictOf (u5 P w) a vs:=sD ok (.inl e)
theorem uy{ks:List Key}(ok:gH P w H h)(e:H a=some (.tup (ks.map kV))):(tupleKind (u5 P w)).is h ks a:=by
 obtain⟨_,bf,r,o,h1,h2,⟨n,h3⟩,_⟩:=(show n8 P w H h a (.tup (ks.map kV)) from ok a _ e)
 exact⟨o,bf.toArray,n,h1,h2,h3,by simpa using Jo r⟩
theorem ue(ok:gH P w H h)(e:Rd H a (.dT kvs)):kvs.length<=sizeLine/\(a==sysModules)=false /\
  ∃xs,KT H kvs xs/\h.DictOfH (tupleKind (u5 P w)) a xs:=by
 obtain⟨z,y,xs,r,o,es,ep,h1,h2,h3,h4,h5⟩:=(show n8 P w H h a (.dT kvs) from IT ok e)
 refine⟨z,y,xs,r,o,es,ep,h1,h2,h3,h4,λx hx=>?_,h5⟩;have all:∀{l:List (List Key×V)} {m:List (List Key×Addr×Value)},KT H l m->∀x∈m,(tupleKind (u5 P w)).is h x.1 x.2.1:=by
  intro l m q
  induction q with
  |nil=>intro x hx;exact nomatch hx
  |@cons p q ps qs hq t ih =>
   intro x hx;rcases aH.mp hx with e|hx
   ·subst e;exact uy ok (by rw[<- hq.1];exact hq.2.1)
   ·exact ih x hx
 exact all r x hx
theorem Xw(ok:gH P w H h)(e:H a=some (.dT kvs)):kvs.length<=sizeLine/\(a==sysModules)=false /\
  ∃xs,KT H kvs xs/\h.DictOfH (tupleKind (u5 P w)) a xs:=ue ok (.inl e)
end
def T1(H:Hp)(a:Addr)(y:V)(r:Option V):Prop :=
 (∃kvs k,Rd H a (.dK kvs)/\y=kV k/\r=N1 kvs k)\/∃kvs k b,Rd H a (.dT kvs)/\y=.ref b/\H b=some (.tup (k.map kV))/\r=N1 kvs k
def zF(H:Hp)(a:Addr)(y v:V)(H':Hp):Prop :=
 (∃kvs k,H a=some (.dK kvs)/\y=kV k/\kvs.length<sizeLine/\H'=upd H a (.dK (putK kvs k v))) \/
 ∃kvs k b,H a=some (.dT kvs)/\y=.ref b/\H b=some (.tup (k.map kV))/\kvs.length<sizeLine/\H'=upd H a (.dT (putK kvs k v))
theorem T1.k{H:Hp}{a:Addr}{kvs:List (Key×V)}{k:Key}(e:H a=some (.dK kvs)):T1 H a (kV k) (N1 kvs k):=.inl ⟨kvs,k,.inl e,rfl,rfl⟩
theorem zF.k{H:Hp}{a:Addr}{kvs:List (Key×V)}{k:Key}{v:V}(e:H a=some (.dK kvs))(hl:kvs.length<sizeLine):zF H a (kV k) v (upd H a (.dK (putK kvs k v))):=.inl ⟨kvs,k,e,rfl,hl,rfl⟩
section
variable{v:V}{r:Value}
theorem Inv.big(I:Inv X pins Z H s):sysModules<s.heap.objs.size:=by
 have h:mainGlobals<s.heap.objs.size:=(I.mod.glob.keeps I.bk).lt;exact cX ∅ h
theorem a47{Q:Value->Shared->Prop}(hu:A.units+1<cLine)(I:Inv X pins Z H s)(g:T1 H a y (some v))(ry:RelV y u)(h:∀w' s',Inv X pins Z H s'->RelV v w'->Q w' s') :
  wpAny (model X.prog X.w) A (getItem (.ref a) u) Q E s:=by
 rcases g with⟨kvs,k,e,ey,l⟩|⟨kvs,k,b,e,ey,eb,l⟩
 ·subst ey;obtain⟨z,hd,vs,rel,dd⟩:=sD I.bR e;obtain⟨w',hw,gw⟩:=K1.some_of (v:=v) (o:=valueAt vs k) (by rw[l];exact rel.val k);exact wpAny_getItem_of (sE ry) dd.mapOf hw (h w' _ (I.tok _) gw)
 ·subst ey;cases (show u=Value.ref b from ry);obtain⟨z,hd,xs,rel,dd⟩:=ue I.bR e;obtain⟨w',hw,gw⟩:=K1.some_of (v:=v) (o:=(atKey xs k).map (·.2)) (by rw[l];exact rel.val k);obtain⟨p,hp,vD⟩:=aa.mp hw;refine wpAny_getItem_heap (fF hu) (uy I.bR eb) dd hp ?_;rw[vD];exact h w' _ (I.tok _) gw
theorem VO{Q:Value->Shared->Prop}(hu:A.units+1<cLine)(I:Inv X pins Z H s)(g:T1 H a y o)(ry:RelV y u)(h:∀s',Inv X pins Z H s'->Q (.bool o.isSome) s') :
  wpAny (model X.prog X.w) A (compareOp .In u (.ref a)) Q E s:=by
 rcases g with⟨kvs,k,e,ey,l⟩|⟨kvs,k,b,e,ey,eb,l⟩
 ·subst ey;obtain⟨z,hd,vs,rel,dd⟩:=sD I.bR e;refine wpAny_in_of (sE ry) hd dd.mapOf ?_;rw[<- (rel.val k).R8,<- l];exact h _ (I.tok _)
 ·subst ey;cases (show u=Value.ref b from ry);obtain⟨z,hd,xs,rel,dd⟩:=ue I.bR e;refine wpAny_in_heap (fF hu) (uy I.bR eb) hd dd ?_;have q:=(rel.val k).R8;rw[kU] at q;rw[<- q,<- l];exact h _ (I.tok _)
theorem SM{Q:Value->Shared->Prop}(hu:A.units+1<cLine)(I:Inv X pins Z H s)(g:T1 H a y o)(ry:RelV y u)(h:∀s',Inv X pins Z H s'->Q (.bool (!o.isSome)) s') :
  wpAny (model X.prog X.w) A (compareOp .NotIn u (.ref a)) Q E s:=by
 rcases g with⟨kvs,k,e,ey,l⟩|⟨kvs,k,b,e,ey,eb,l⟩
 ·subst ey;obtain⟨z,hd,vs,rel,dd⟩:=sD I.bR e;refine wpAny_notIn_of (sE ry) hd dd.mapOf ?_;rw[<- (rel.val k).R8,<- l];exact h _ (I.tok _)
 ·subst ey;cases (show u=Value.ref b from ry);obtain⟨z,hd,xs,rel,dd⟩:=ue I.bR e;refine wpAny_notIn_heap (fF hu) (uy I.bR eb) hd dd ?_;have q:=(rel.val k).R8;rw[kU] at q;rw[<- q,<- l];exact h _ (I.tok _)
theorem Dn{h':Heap}{t':Nat}{ob:HO}(I:Inv X pins Z H s)(mu:xP (H a))(hs:Heap.SameBut a s.heap h')(he:∃q,h'.get? a=some q)(new:n8 X.prog X.w (upd H a ob) h' a ob) :
  Inv X pins Z (upd H a ob) { s with heap:=h',toks:=t' } :=
 I.write (x:=a) (e:=a) mu (.inl rfl) (λb q hb z=>(hs.2 b hb).trans z) he new
theorem Mx{h':Heap}{kvs:List (Key×V)}{vs:List (Key×Value)}(z:kvs.length<=sizeLine)(hd:(a==sysModules)=false)(rel:KV kvs vs)(dd:h'.DictOf (u5 P w) a vs) :
  n8 P w H' h' a (.dK kvs):=⟨z,hd,vs,rel,dd⟩
theorem a46{Q:Unit->Shared->Prop}(hu:A.units+1<cLine)(I:Inv X pins Z H s)(g:zF H a y v H')(ry:RelV y u)(rv:RelV v r)(h:∀s',Inv X pins Z H' s'->Q Unit.unit s') :
  wpAny (model X.prog X.w) A (setItem (.ref a) u r) Q E s:=by
 rcases g with⟨kvs,k,e,ey,l,eH⟩|⟨kvs,k,b,e,ey,eb,l,eH⟩
 ·subst ey eH;obtain⟨z,hd,vs,rel,dd⟩:=ID I.bR e;have hz:vs.length<=sizeLine:=by rw[<- rel.length];exact z
  have hl:(putK kvs k v).length<=sizeLine:=by have:=Z0 kvs k v;omega
  refine wpAny_setItem_pairs (hsz:=hz) (sE ry) dd λh' rV hs=>h _ ?_;have he:∃q,h'.get? a=some q:=let ⟨q,_,_,hq,_⟩:=rV;⟨q,hq⟩
  exact Dn I (by rw[e];exact True.intro) hs he (Mx hl hd (rel.put k rv) rV)
 ·subst ey eH;cases (show u=Value.ref b from ry);obtain⟨z,hd,xs,rel,dd⟩:=Xw I.bR e;have hz:xs.length<=sizeLine:=by rw[<- mF rel];exact z
  have hl:(putK kvs k v).length<=sizeLine:=by have:=Z0 kvs k v;omega
  refine wpAny_setItem_heap (hsz:=hz) (fF hu) (uy I.bR eb) dd λh' rV hs=>h _ ?_;obtain⟨q,es,ep,hq,h2,h3,h4,_,h5⟩:=rV;refine Dn I (by rw[e];exact True.intro) hs ⟨q,hq⟩ ⟨hl,hd,_,(rel.put k eb rv).keeps λc ys ec=>?_,q,es,ep,hq,h2,h3,h4,h5⟩;rw[f6 (Ya ec e (λz=>nomatch z))];exact ec
end
section
variable{kvs:List (Key×V)}
theorem Xs{Q:Value->Shared->Prop}(I:Inv X pins Z H s)(e:Rd H a (.dK kvs))(h:∀t s',Inv X pins Z H s'->Q (.int kvs.length t) s'):wpAny (model X.prog X.w) A (call (.builtin "len") [.ref a]) Q E s:=by
 obtain⟨z,hd,vs,rel,dd⟩:=sD I.bR e;refine call_len_dict hd dd (by rw[<- rel.length];rw[kT] at z;omega) ?_;rw[<- rel.length];exact h _ _ (I.tok _)
end
theorem aL7(I:Inv X pins Z H s)(g:T1 H a y o):s.TypeIs (.ref a) "dict":=by
 rcases g with⟨kvs,k,e,_,_⟩|⟨kvs,k,b,e,_,_,_⟩
 ·obtain⟨_,_,vs,_,dd⟩:=sD I.bR e;exact dd.typeIs
 ·obtain⟨_,_,xs,_,dd⟩:=ue I.bR e;exact dd.typeIs
theorem LL(h:Heap)(hb:sysModules<h.objs.size):n8 P w H (h.push { cls:=.type "dict",data:=.dict #[] }) h.objs.size (.dK []) :=
 ⟨bU _,cT.mpr (cb (aP hb)),[],.nil,Heap.DictOf.new h⟩
def Sj:TE:=λ_ H Q=>∀p,H p=none->Q (.ref p) (upd H p (.dK []))
theorem Vo:PE X (.Dict [] [] pos) Sj:=λpins s Z H Q I h =>
 wpAny_Dict_empty ⟨.ref s.heap.objs.size,_,I.laid (a:=s.heap.objs.size) (o:=.dK []) (t':=s.toks) (λ_ _ q=>aw _ q) (ay _) (LL s.heap I.big),rfl,h _ (I.bR.fresh (ay _))⟩
def yT:List (TE×TE)->St->Hp->(List (V×V)->Hp->Prop)->Prop
 |[],_,H,Q=>Q [] H
 |(tk,tv)::r,Z,H,Q=>tk Z H λx H1=>tv Z H1 λy H2=>yT r Z H2 λps H3=>Q ((x,y)::ps) H3
noncomputable abbrev VV:List (V×V)->List (Value×Value)->Prop:=Paired λp q=>RelV p.1 q.1/\RelV p.2 q.2
def xN(X:Cx)(pos:Pos)(keys:List (Option Expr))(values:List Expr)(iE:List (TE×TE)):Prop :=
 ∀(pins:List (Addr×Obj)) (s:Shared) (Z:St) (H:Hp) (Q:List (V×V)->Hp->Prop),Inv X pins Z H s->yT iE Z H Q ->
  wpAny (model X.prog X.w) X.A (evalPairs (pairTrees keys values X.env pos)) (λvs s'=>∃ps H',Inv X pins Z H' s'/\VV ps vs/\Q ps H') X.xe s
theorem TM:xN X pos [] [] []:=λpins s Z H Q I h=>pairTrees_nil_walk ⟨[],H,I,.nil,h⟩
theorem Vv{k v:Expr}{ks:List (Option Expr)}{vs:List Expr}{tk tv:TE}{iE:List (TE×TE)}(hk:PE X k tk)(hv:PE X v tv)(hr:xN X pos ks vs iE) :
  xN X pos (some k::ks) (v::vs) ((tk,tv)::iE):=λpins s Z H Q I h =>
 pairTrees_cons_walk (cI (hk pins s Z H _ I h) λu s1 ⟨x,H1,I1,rx,q1⟩=>cI (hv pins s1 Z H1 _ I1 q1) λw2 s2 ⟨y,H2,I2,ry,q2⟩ =>
  cI (hr pins s2 Z H2 _ I2 q2) λws s3 ⟨ps,H3,I3,rel,q3⟩=>⟨(x,y) :: ps,H3,I3,.cons ⟨rx,ry⟩ rel,q3⟩)
def V7(kvs more:List (Key×V)):List (Key×V):=more.foldl (λacc kv=>putK acc kv.1 kv.2) kvs
theorem KV.merge:∀{more:List (Key×V)} {rs:List (Key×Value)} {kvs:List (Key×V)} {vs:List (Key×Value)},KV more rs->KV kvs vs->KV (V7 kvs more) (merged vs rs):=by
 intro more rs kvs vs r;unfold KV at r
 induction r generalizing kvs vs with
 |nil=>intro q;exact q
 |@cons p q ps qs h t ih =>
  intro r0;have e:KV (putK kvs p.1 p.2) (stored vs q.1 q.2):=by
   have:=r0.put p.1 h.2;rw[<- h.1];exact this
  exact ih e
theorem Ko:∀(more kvs:List (Key×V)),(V7 kvs more).length<=kvs.length+more.length
 |[],kvs=>by show kvs.length<=kvs.length+0;omega
 |p::r,kvs=>by
  have h1:=Ko r (putK kvs p.1 p.2);have h2:=Z0 kvs p.1 p.2;show(V7 (putK kvs p.1 p.2) r).length<=_;rw[de];omega
theorem JE{P:Program}{w:World}:∀{kvs:List (Key×V)} {ws:List (Value×Value)},VV (kvs.map λkv=>(kV kv.1,kv.2)) ws->∃rs,Carries (u5 P w) ws rs/\KV kvs rs
 |[],_,r=>by rw[uF] at r;cases r;exact⟨[],True.intro,.nil⟩
 |p::kvs,_,r=>by
  rw[bh] at r;cases r with
  |@cons a b as bs h t =>
   obtain⟨rs,c,q⟩:=JE (P:=P) (w:=w) t;obtain⟨b1,b2⟩:=b;exact⟨(p.1,b2)::rs,⟨sE h.1,rfl,c⟩,.cons ⟨rfl,h.2⟩ q⟩
def YE(iE:List (TE×TE)):TE:=λZ H Q=>∀p,H p=none->yT iE Z (upd H p (.dK [])) λps H2=>H2 p=some (.dK [])/\∃kvs:List (Key×V),ps=kvs.map (λkv=>(kV kv.1,kv.2))/\kvs.length<=15/\Q (.ref p) (upd H2 p (.dK (V7 [] kvs)))
theorem TC{keys:List (Option Expr)}{values:List Expr}{iE:List (TE×TE)}(h:xN X pos keys values iE)(rq:keys.all (·.isSome)=true)(hl:keys.length=values.length)(h0:keys≠[])(pU:keys.length<=15):PE X (.Dict keys values pos) (YE iE):=by
 intro pins s Z H Q I q;have hn:=I.bR.fresh (ay s.heap.objs.size);have I1:=I.laid (a:=s.heap.objs.size) (o:=.dK []) (h':=s.heap.push { cls:=.type "dict",data:=.dict #[] }) (t':=s.toks) (λ_ _ q=>aw _ q) (ay _) (LL s.heap I.big);refine wpAny_Dict_walk (knd:=u5 X.prog X.w) rq hl h0 pU (cI (h pins _ Z _ _ I1 (q _ hn)) λws s2 bq=>?_);obtain⟨ps,H2,I2,rel,e,kvs,ep,lk,q2⟩:=bq;subst ep;obtain⟨rs,c,rk⟩:=JE (P:=X.prog) (w:=X.w) rel;obtain⟨z,hd,vs0,r0,dd⟩:=ID I2.bR e;cases r0;refine⟨rs,c,dd,λh' rV hs=>⟨.ref s.heap.objs.size,_,?_,rfl,q2⟩⟩;have hz:(V7 [] kvs).length<=sizeLine:=by
  have h1:=Ko kvs [];rw[List.length_nil] at h1;rw[kT];omega
 have he:∃q,h'.get? s.heap.objs.size=some q:=let ⟨q,_,_,hq,_⟩:=rV;⟨q,hq⟩
 exact Dn I2 (by rw[e];exact True.intro) hs he (Mx hz hd (rk.merge .nil) rV)
section
variable{d:V}{r:Value}
theorem Zd{Q:Value->Shared->Prop}(hu:A.units+1<cLine)(I:Inv X pins Z H s)(g:T1 H a y o)(ry:RelV y u)(rd:RelV d r)(h:∀w' s',Inv X pins Z H s'->RelV (o.getD d) w'->Q w' s') :
  wpAny (model X.prog X.w) A (call (.builtin "dict.get") [.ref a,u,r]) Q E s:=by
 rcases g with⟨kvs,k,e,ey,l⟩|⟨kvs,k,b,e,ey,eb,l⟩
 ·subst ey;obtain⟨z,hd,vs,rel,dd⟩:=sD I.bR e;refine call_meetsIn ja dd.typeIs uD (sP _ _ _) (meets_dict_get_default (u5 X.prog X.w) a (sE ry) hd r) ⟨_,dd.mapOf,h _ _ (I.tok _) ?_⟩;rw[l];exact(rel.val k).getD rd
 ·subst ey;cases (show u=Value.ref b from ry);obtain⟨z,hd,xs,rel,dd⟩:=ue I.bR e;refine call_meetsIn ja dd.typeIs uD (sP _ _ _) (meetsH_dict_get_default (tupleKind (u5 X.prog X.w)) a b hd r) ⟨fF hu,k,xs,uy I.bR eb,dd,h _ _ (I.tok _) ?_⟩;rw[l];exact(rel.val k).getD rd
end
end L2
namespace MV
open PySem PySem.W PySem.Calls PyProof.Rows
theorem ZR{P:Params}{h:Heap}:∀(ns:List Int) (vs:List Value),WellAll P h vs (ns.map WData.int)->IntsAre vs ns:=by
 intro ns
 induction ns with
 |nil =>
  intro vs w;rw[uF] at w;cases w;exact .nil
 |cons n ns ih =>
  intro vs w;rw[bh] at w;cases w with
  |cons a b =>
   cases a;exact .cons _ _ (ih _ b)
theorem aZ0{l:OpenLaw}{n:Nat}(hn:l.most=some n){P:Params}{h:Heap}{args:List WData}{vals:List Value}(oJ:l.row.toRowW.claim.pre args=true)(AY:WellAll P h vals args) :
  ∃a vs ns,vals=[Value.ref a]/\args=[WData.list (ns.map WData.int)]/\h.get? a=some { cls:=.type "list",data:=.seq vs.toArray }/\IntsAre vs ns/\ns.length<=n:=by
 have jV:WShape.hasAll [] args [.list .int]=true:=(pre_splitW oJ).1;have hc:l.pre.holds [] { args:=args }=true:=(pre_splitW oJ).2;obtain⟨d,r,rfl,h1,h2⟩:=hasAllW_cons jV;obtain rfl:=hasAllW_nil h2;obtain⟨xs,rfl,h3⟩:=hasW_list h1;obtain⟨ns,rfl⟩:=items_int h3;have hlen:ns.length<=n:=by
  unfold OpenLaw.pre at hc;have h4:(WTm.not (.lt (.lit (.int (n:Int))) (.len (.arg 0)))).holds [] { args:=[.list (ns.map .int)] }=true:=by
   have h4:=(holds_andW hc).1;rw[hn] at h4;exact h4
  have h5:=condW_of h4 (w_not (w_lt w_lit (w_len_list (w_arg rfl))));rw[ae] at h5;refine lR λq=>?_;have q':(n:Int)<((ns.length:Nat):Int):=by omega
  first
   |(rw[au q'] at h5;exact absurd h5 ∅)
   |(simp at h5;omega)
 cases AY with
 |cons w1 w2 =>
  cases w2;cases w1 with
  |list ho rq=>exact⟨_,_,ns,rfl,rfl,ho,ZR ns _ rq,hlen⟩
theorem ZY(l:OpenLaw)(args:List WData):l.row.toRowW.claim.post args (.bool true) args=true :=
 postW_of (r:=l.row.toRowW) (X:=(true==true))
  (show WShape.has [] (.bool true) .bool=true by first|rfl|decide|simp[WShape.has,WShape.arms,WShape.armsAll])
  (show(WTm.eq .res (.lit (.bool true))).value [] { args:=args,res:=some (.bool true),after:=args }=some (.bool (true==true)) from w_eq_bool (w_res rfl) w_lit) rfl
theorem aM1{l:OpenLaw}{n:Nat}{q:Program}{loose:List Str}{XP:(Str->Option Value)->Heap->Prop}{YP:World->Heap->Prop}{d:DefRec}(hn:l.most=some n)(vT:d.params.defaults=[])(call:∀ (w:World) (dz cj:Shared) (mg mb:Str->Option Value) (fa:Addr) (o:Obj) (pm cd doc:Value) (a:Addr) (vs:List Value) (ns:List Int),
   Ground q loose [] XP w dz mg mb cj.heap->YP w cj.heap ->
   cj.heap.get? fa=some o->o.data=.func (docDef d.name d.params d.body d.scope pm cd doc)->cj.heap.CodeRec cd d.name->mg d.name=some (.ref fa) ->
   cj.heap.get? a=some { cls:=.type "list",data:=.seq vs.toArray }->IntsAre vs ns->ns.length<=n->cj.gens=#[] ->
   codeAny (model l.prog w) callerA (.call (.ref fa) ⟨[.ref a],[]⟩) (λr s'=>r=.ok (.ret (.bool true))/\OldK cj.heap s'.heap/\s'.os=cj.os/\AllBare s'.gens) cj) :
  WalkO q loose XP YP l.row.toRowW d [] (λf vs=>PySem.call f vs):=by
 intro w dz cj mg mb G Y fa o pm cd doc dV kV ho hd mq hD hmg hg args vals as oJ OC hrd AY Hc;obtain rfl:dV=.none:=Dflts.none hD vT;obtain rfl:kV=.none:=Dflts.noKw hD;obtain⟨a,vs,ns,rfl,rfl,jo,hints,hlen⟩:=aZ0 hn oJ AY;refine enter_call (hX (call w dz cj mg mb fa o pm cd doc a vs ns G Y ho (fd_plain hd) mq hmg jo hints hlen hg) λr s' hq=>?_);obtain⟨rfl,h2,h3,h4⟩:=hq;exact⟨.inl ⟨.bool true,.bool true,[],rfl,λ_=>rfl,.bool true,ZY l _,λ_=>⟨List.Pairwise.nil,λ_ hm=>(nomatch hm)⟩⟩,h2,h3,h4⟩
end MV
namespace L2
open PySem PySem.Spec PyProof.Rows
variable{w:World}{x qual:Str}{X:Cx}{A:Around}{s:Shared}{elt iter tg:Expr}{ifs:List Expr}{scope:Scope}{pos:Pos}{cl:List (Str×Addr)}{C:Addr}{N':List Str}{d4:List Nat}{fp:List Addr}{g:TG}{tc:TT}{te:TE}
theorem JA:∀{vs:List Value} {ns:List Int},IntsAre vs ns->Vals (ns.map V.int) vs
 |_,_,.nil=>.nil
 |_,_,.cons n t h=>.cons ⟨t,rfl⟩ (JA h)
def zG(H:Hp):Prop:=∀b,H b=none\/∃o xs,H b=some (.jZ o (.lst xs))
theorem Vb{P:Program}{K:PySem.W.Frag}{mg mb:Str->Option Value}{CX:nS}{k:Nat}{fa a:Addr}{fd:FuncData}{sp:Sp}{cj:Shared}{vs:List Value}{ns:List Int}(KX:K.In cj.heap)(qW:cj.heap.Ns mainGlobals mg)(hb:cj.heap.Ns builtinsNs mb)(BG:∀x:Str,x≠"__name__"->mb x=bootBuiltins x)(Bq:cj.heap.NoLimit)(hg:cj.gens=#[])(ha:cj.heap.get? a=some { cls:=.type "list",data:=.seq vs.toArray })(hi:IntsAre vs ns)(hl:ns.length<=sizeLine)(hr:x4 k callerA)(F:∀base:Heap,K.In base->base.Ns mainGlobals mg->iC P w K mg base CX k fa fd [x] sp)(vY:∀(s:Shared) (u:Value),BindsTo s fd ⟨[u],[]⟩ [(x,u)])(tu:∀H:Hp,zG H->fM K H a (ns.map V.int)->sp [.ref a] H (λv _=>v=.bl true) λ_ _ _=>False)(BW:∀H e s',CX [] H cj (λ_ _ _=>False) e s'->False) :
  codeAny (model P w) callerA (.call (.ref fa) ⟨[.ref a],[]⟩) (λr s'=>r=.ok (.ret (.bool true))/\OldK cj.heap s'.heap/\s'.os=cj.os/\AllBare s'.gens) cj:=by
 have rv:=JA hi;have AO:=hi.length;have core:∀H:Hp,zG H->fM K H a (ns.map V.int)->gH P w H cj.heap->(∀b,H b≠none->b=a)->(H a≠none->K.lookup a=none) ->
   codeAny (model P w) callerA (.call (.ref fa) ⟨[.ref a],[]⟩) (λr s'=>r=.ok (.ret (.bool true))/\OldK cj.heap s'.heap/\s'.os=cj.os/\AllBare s'.gens) cj:=by
  intro H hO hS bR hA hK;have P7:∀{b:Addr} {o:Obj},cj.heap.get? b=some o->H b=none->(pb cj.heap H).get? b=some o:=λe n=>UW e n;have vb:∀{b:Addr} {o:Obj} {es:Array DictEntry} {ep:Nat},cj.heap.get? b=some o->o.data=.dict es ep->H b=none:=λ{b o es ep} e d=>by
   cases q:H b with
   |none=>rfl
   |some u =>
    have e':b=a:=hA b (by rw[q];simp);subst e';rw[ha] at e;cases e;have d':Data.seq vs.toArray _=Data.dict es ep:=d;cases d'
  have yi:∀{b:Addr} {m:Str->Option Value},cj.heap.Ns b m->(pb cj.heap H).Ns b m:=λ{b m} ⟨o,es,ep,e,d,r⟩=>⟨o,es,ep,P7 e (vb e d),d,r⟩
  have HG:K.In (pb cj.heap H):=λb o e=>P7 (KX b o e) (by
   cases q:H b with
   |none=>rfl
   |some u =>
    have e':b=a:=hA b (by rw[q];simp);subst e';rw [hK (by rw [q];simp)] at e;cases e)
  have hM:Mod K mg (pb cj.heap H):=⟨HG,yi qW,⟨mb,yi hb,BG⟩,let ⟨mc,h1,h2⟩:=Bq;⟨mc,yi h1,h2⟩⟩
  have e0:se P w K mg (pb cj.heap H) callerA [] cj H:=⟨rfl,hM,λb o e=>To e,Nat.le_of_eq (a38 _ _),trivial,λb hb=>absurd (show b∈([]:List Addr) from hb) (by simp),bR,.of_eq hg⟩
  refine hX ((F _ HG (yi qW)).run callerA [] cj H ⟨[.ref a],[]⟩ [.ref a] [.ref a] _ _ hr e0 (vY cj (.ref a)) (.cons rfl .nil) (tu H hO hS)) λr s' h=>?_;cases r with
  |error e=>exact(BW H e s' h).elim
  |ok fl =>
   cases fl with
   |next=>exact False.elim h
   |brk=>exact False.elim h
   |cont=>exact False.elim h
   |ret u =>
    obtain⟨v,H',os,bare,un,Bh,r',q⟩:=h;have q':v=.bl true:=q;subst q';obtain rfl:u=Value.bool true:=r';refine⟨rfl,OldK.of_keep λb o e=>?_,os,bare⟩;cases q:H b with
    |none=>exact un.keep b o e q (by intro z;exact absurd (show b∈([]:List Addr) from z) (by simp)) (by simp)
    |some u =>
     rcases hO b with z|⟨ob,xs,z⟩
     ·rw[q] at z;cases z
     ·have z2:=un.iB b ob _ z;obtain⟨e1,_⟩:=bR b _ z;obtain⟨e2,_⟩:=Bh b _ z2;rw[e] at e1;cases e1;exact e2
 cases hk:K.lookup a with
 |some o =>
  have e:=KX a o hk;rw[ha] at e;cases e;refine core (λ_=>none) (λ_=>.inl rfl) (.inr ⟨_,vs.toArray,_,hk,rfl,rfl,rfl,by rw[aK,AO];exact hl,by simpa using rv⟩) (λb u z=>by have z':(none:Option HO)=some u:=z;cases z') (λb z=>absurd rfl z) λz=>absurd rfl z
 |none =>
  refine core (λb=>if b=a then some (.jZ { cls:=.type "list",data:=.seq vs.toArray } (.lst (ns.map V.int))) else none) (λb=>?_) (.inl (.inr ⟨{ cls:=.type "list",data:=.seq vs.toArray },aJ rfl⟩)) (λb u z=>?_) (λb z=>?_) λ_=>hk
  ·by_cases hb:b=a
   ·exact .inr ⟨_,_,aJ hb⟩
   ·exact .inl (aF hb)
  ·by_cases hb:b=a
   ·have z':=(aJ hb).symm.trans z;cases z';subst hb;exact⟨ha,by rw[ae];exact hl,vs,_,rv,ha⟩
   ·have z':=(aF hb).symm.trans z;cases z'
  ·by_cases hb:b=a
   ·exact hb
   ·exact absurd (aF hb) z
theorem UI{l:PySem.W.OpenLaw}{n k:Nat}{q:Program}{loose:List Str}{XP:(Str->Option Value)->Heap->Prop}{YP:World->Heap->Prop}{d:DefRec}{K:Params->PySem.W.Frag}{CX:World->nS}{sp:World->Sp}(hn:l.most=some n)(oO:n<=sizeLine)(vT:d.params.defaults=[])(hr:x4 k callerA)(hY:∀(w:World) (h:Heap),YP w h->(K w.params).In h)(F:∀ (w:World) (mg:Str->Option Value) (fa:Addr) (h:Heap),(K w.params).In h->h.Ns mainGlobals mg->mg d.name=some (.ref fa) ->
   ∃fd:FuncData,(∀(s:Shared) (u:Value),BindsTo s fd ⟨[u],[]⟩ [(x,u)]) /\
    ∀ base:Heap,(K w.params).In base->base.Ns mainGlobals mg->iC l.prog w (K w.params) mg base (CX w) k fa fd [x] (sp w))(tu:∀(w:World) (H:Hp) (a:Addr) (ns:List Int),ns.length<=n->zG H->fM (K w.params) H a (ns.map V.int)->sp w [.ref a] H (λv _=>v=.bl true) λ_ _ _=>False)(BW:∀(w:World) (H:Hp) (s:Shared) (e:Value) (s':Shared),CX w [] H s (λ_ _ _=>False) e s'->False) :
  PySem.W.WalkO q loose XP YP l.row.toRowW d [] (λf vs=>PySem.call f vs):=by
 refine MV.aM1 hn vT λw dz cj mg mb fa o pm cd doc a vs ns G Y ho hd mq hmg jo hints hlen hg=>?_;have KX:=hY w _ Y;obtain⟨fd,hb,hF⟩:=F w mg fa _ KX G.T.g hmg;exact Vb KX G.T.g G.T.b G.T.builtins G.T.nolimit hg jo hints (aB hlen oO) hr hF hb (λH hO hS=>tu w H a ns hlen hO hS) λH e s'=>BW w H cj e s'
def E0(s:Stmt):Arguments:=match s with
 |.FunctionDef _ a _ _ _ _ _ _ _ _=>a
 |_=>{ posonlyargs:=[],args:=[],vararg:=none,kwonlyargs:=[],kw_defaults:=[],kwarg:=none,defaults:=[] }
def u4(s:Stmt):List Stmt:=match s with
 |.FunctionDef _ _ b _ _ _ _ _ _ _=>b
 |_=>[]
def s9(s:Stmt):Scope:=match s with
 |.FunctionDef _ _ _ _ _ _ sc _ _ _=>sc
 |_=>{ kind:=.function,names:=[],isGenerator:=false,isCoroutine:=false }
structure ql(K:PySem.W.Frag)(x qual:Str)(st:Stmt)(f:Addr)(fd:FuncData):Prop where
 ex:∃(oc:Value) (od:Option Addr) (kV doc pm:Value) (an:Option Addr) (fY ct:Value) (mL:Array (Option Value)),
  fd=PySem.W.fnOf x qual (E0 st) (u4 st) (s9 st) .none kV doc pm an fY ct/\K.lookup f=some ⟨oc,od,.func fd,mL⟩/\PySem.W.codeIn K fY qual=true
 kp:PySem.W.keepIn K (.ref f)=true
section
variable{K:PySem.W.Frag}
theorem ql.binds{st:Stmt}{f:Addr}{fd:FuncData}{ps:List Str}(F:ql K x qual st f fd)(h:∀(kV doc pm:Value) (an:Option Addr) (fY ct:Value) (us:List Value),us.length=ps.length->bindArgs (PySem.W.fnOf x qual (E0 st) (u4 st) (s9 st) .none kV doc pm an fY ct) ⟨us,[]⟩=pure (ps.zip us)):Binds K fd ps []:=by
 obtain⟨oc,od,kV,doc,pm,an,fY,ct,mL,rfl,lk,mq⟩:=F.ex;exact .all (h kV doc pm an fY ct)
theorem Mz{st:Stmt}{f:Addr}{oc:Value}{od an:Option Addr}{mL:Array (Option Value)}{kV doc pm fY ct:Value}(l:K.lookup f=some ⟨oc,od,.func (PySem.W.fnOf x qual (E0 st) (u4 st) (s9 st) .none kV doc pm an fY ct),mL⟩)(c:PySem.W.codeIn K fY qual=true)(k:PySem.W.keepIn K (.ref f)=true):ql K x qual st f (PySem.W.fnOf x qual (E0 st) (u4 st) (s9 st) .none kV doc pm an fY ct):=⟨⟨oc,od,kV,doc,pm,an,fY,ct,mL,rfl,l,c⟩,k⟩
end
theorem a56:m8 X (.builtin "len") (λxs H Q=>∃a kvs,xs=[V.ref a]/\H a=some (.dK kvs)/\Q (.int kvs.length) H):=by
 intro pins s Z H xs us Q I r h;obtain⟨a,kvs,rfl,ha,q⟩:=h;obtain⟨u,rfl,ru⟩:=vals1 r;cases ru;exact Xs I (.inl ha) λt s' I'=>⟨.int kvs.length,H,I',⟨t,rfl⟩,q⟩
section
variable{prog:Program}{R:Result->Shared->Prop}
theorem aI8{target:Expr}{it acc:Value}{env:Env}(I:Nat->Shared->Prop)(turn:∀ n s,I n s->wpAny (model prog w) A (pyNext it) (λr cj=>match r with
   |none=>R (.ok .next) cj
   | some v=>wpAny (model prog w) A (letOwnedTupleGo target it v) (λ_ cj=>wpAny (model prog w) A (assign target env v) (λ_ gP =>
     wpAny (model prog w) A (forIn ifs true λc r=>if r=true then do let ok <- isTrue c env (eval c env);pure (ForInStep.yield ok) else pure (ForInStep.yield r)) (λok fo =>
      if ok=true then wpAny (model prog w) A (eval elt env) (λx jS =>
       wpAny (model prog w) A (call (.builtin "list.append") [acc,x]) (λ_ ng=>∃ m,m < n/\I m ng) (λ_ _=>False) jS) (notedBy (model prog w) A env λe s'=>R (.error e) s') fo
      else ∃ m,m < n/\I m fo) (λ_ _=>False) gP) (λ_ _=>False) cj) (λ_ _=>False) cj) (λ_ _=>False) s)(n:Nat)(h:I n s) :
  codeAny (model prog w) A (.compLoop (.ListComp elt [⟨target,iter,ifs,0⟩] scope pos) 0 it acc env) R s:=by
 refine codeAny_loop rfl I (λn s hI=>?_) n h;show wpAny _ A ((compTurn (.ListComp elt [⟨target,iter,ifs,0⟩] scope pos) 0 it acc env).onRaise (λx=>do noteFrame x env;theTreesLotGoes x)) _ _ s;refine wpAny_noted ?_;rw[compTurn_list];refine ag (fu (ag (bB (turn n s hI) (λr cj h₁=>?_) λ_ _ h'=>h'.elim)));cases r with
 |none=>exact ax h₁
 |some v =>
  refine ag (bB h₁ (λ_ cj h₁=>?_) λ_ _ h'=>h'.elim);refine ag (bB h₁ (λ_ gP jn=>ag (bB jn (λok fo nv=>?_) λ_ _ h'=>h'.elim)) λ_ _ h'=>h'.elim);cases ok with
  |false=>exact wpAny_pure ⟨rfl,nv⟩
  |true =>
   exact ag (ag (bB nv (λx jS qR=>ag (bB qR (λ_ ng qQ=>ax (ax ⟨rfl,qQ⟩)) λ_ _ h'=>h'.elim)) λ_ _ h'=>h'))
end
def lQ(X:Cx)(es:List Expr)(t:TT):Prop :=
 ∀(pins:List (Addr×Obj)) (s:Shared) (Z:St) (H:Hp) (Q:Bool->Hp->Prop),Inv X pins Z H s->t Z H Q ->
  wpAny (model X.prog X.w) X.A (forIn es true λc r=>if r=true then do let ok <- isTrue c X.env (eval c X.env);pure (ForInStep.yield ok) else pure (ForInStep.yield r)) (TP X pins Z Q) X.xe s
def WT:TT:=λ_ H Q=>Q true H
theorem TZ:lQ X [] WT:=λpins s Z H Q I h=>ax ⟨H,I,h⟩
theorem Ua{c:Expr}{t:TT}(h:PT X c t):lQ X [c] t:=by
 intro pins s Z H Q I q;simp only[List.forIn_cons,List.forIn_nil,if_true];exact ag (ag (bB (h pins s Z H Q I q) (λb s' hb=>ax (ax hb)) λ_ _ x=>x))
def M4(scope:Scope)(cl:List (Str×Addr))(C:Addr):List (Str×Addr):=cellsFrom (C+1) scope.names []++cl
theorem I9:∀(names:List (Str×NameKind)) (n:Nat) (acc:List (Str×Addr)),cellsFrom n names acc=cellsFrom n names []++acc
 |[],_,_=>rfl
 |(y,k)::r,n,acc=>by
  unfold cellsFrom;split
  ·rw[I9 r (n+1) ((y,n)::acc),I9 r (n+1) [(y,n)],fC]
   rfl
  ·exact I9 r n acc
theorem W7{x:Str}{c:Addr}:∀{names:List (Str×NameKind)} {n:Nat},(x,c)∈cellsFrom n names []->(x,NameKind.cell)∈names
 |[],_,h=>by simp[cellsFrom] at h
 |(y,k)::r,n,h=>by
  unfold cellsFrom at h;split at h
  ·rename_i hk;rw[I9] at h;rcases aZ.mp h with z|z
   ·exact bx _ (W7 z)
   ·cases aR.mp z;rw[show k=NameKind.cell from by simpa using hk];exact gL
  ·exact bx _ (W7 h)
theorem K9{α:Type}{x:Str}:∀{a b:List (Str×α)},(a++b).lookup x=(a.lookup x).or (b.lookup x)
 |[],_=>rfl
 |(y,v)::r,b=>by
  rw[List.cons_append,cK,cK];cases x==y
  ·exact K9
  ·rfl
theorem Mr(h:scope.names.lookup x=some .cell\/∃c,cl.lookup x=some c):∃c,(M4 scope cl C).lookup x=some c:=by
 unfold M4;rw[K9];cases e:(cellsFrom (C+1) scope.names []).lookup x with
 |some c=>exact⟨c,rfl⟩
 |none =>
  rcases h with h|h
  ·have q:=dI scope.names (C+1) [] (.inl h);rw[e] at q;cases q
  ·exact h
theorem O9{env:Env}:∀{names:List (Str×NameKind)} {x:Str},names.lookup x=some .cell ->
  (names.map λ(n,k)=>if(k==NameKind.free&&env.scope.kind==.function&&env.kindOf n==some .cell) then(n,NameKind.cell) else(n,k)).lookup x=some .cell
 |[],_,h=>by simp at h
 |(n,k)::r,x,h=>by
  have ih:=@O9 env r x;show List.lookup x ((if(k==NameKind.free&&env.scope.kind==.function&&env.kindOf n==some .cell)=true then(n,NameKind.cell) else(n,k))::_)=_;cases hx:x==n with
  |true =>
   simp only[List.lookup_cons,hx] at h;cases h;simp[List.lookup_cons,hx]
  |false =>
   simp only[List.lookup_cons,hx] at h;by_cases hc:(k==NameKind.free&&env.scope.kind==.function&&env.kindOf n==some .cell)=true
   ·rw[aJ hc];simp only[List.lookup_cons,hx];exact ih h
   ·rw[aF hc];simp only[List.lookup_cons,hx];exact ih h
theorem zp{h:Heap}(ck:CellsOk h (C+1) (cellsFrom (C+1) scope.names [])){c:Addr}(e:(M4 scope cl C).lookup x=some c):C<c\/cl.lookup x=some c:=by
 unfold M4 at e;rw[K9] at e;cases e2:(cellsFrom (C+1) scope.names []).lookup x with
 |some c' =>
  rw[e2] at e;cases e;exact .inl (ck.empty x c (aQ e2)).2
 |none =>
  rw[e2] at e;exact .inr e
theorem Kq{M:Model}{E:Value->Shared->Prop}{globals:Addr}{outer:Env}{Q:Env->Shared->Prop}(hQ:∀ h₁:Heap,h₁.Ns s.heap.objs.size (λ_=>none)->(∀ b o,s.heap.get? b=some o->h₁.get? b=some o)->CellsOk h₁ (s.heap.objs.size + 1) (cellsFrom (s.heap.objs.size + 1) scope.names []) ->
   Q (newEnv scope s.heap.objs.size globals (M4 scope cl s.heap.objs.size) qual none .none (some outer) builtinsNs) { s with heap:=h₁ }) :
  wpAny M A (newFunctionEnv scope globals cl [] qual none .none (some outer)) Q E s:=by
 simp only[newFunctionEnv,Option.isSome_some,if_true];refine ag (wpAny_alloc ?_);refine ag (wpAny_layCells _ (λname kind cells=>by cases OI:kind==NameKind.cell<;>simp[OI]) _ _ _ _ ?_);have ok:=cellsFrom_ok scope.names (s.heap.push { cls:=.type "dict",data:=.dict #[] }) (s.heap.objs.size+1) [] ⟨λ_ _ hm=>(nomatch hm),List.Pairwise.nil⟩ (by rw[eX];exact ay _);rw[eX] at ok;rw[show({ s with heap:=s.heap.push { cls:=.type "dict",data:=.dict #[] } }:Shared).heap.objs.size=s.heap.objs.size+1 from eX ..];rw[List.forIn_nil];refine ag (ax (ax ?_));rw[I9];exact hQ _ ((Heap.Ns.new s.heap (.type "dict")).keeps (pushCells_keeps _ _)) (λb o e=>pushCells_keeps _ _ b o (aw _ e)) ok
def d7(X:Cx)(pins:List (Addr×Obj))(scope:Scope)(N':List Str)(cl:List (Str×Addr))(C:Addr)(s:Shared)(H:Hp)(fp:List Addr):Cx where
 prog:=X.prog
 w:=X.w
 K:=X.K
 mg:=X.mg
 base:=X.base
 A:=X.A
 N:=N'
 dz:=s
 jC:=H
 env:=compEnvC scope (M4 scope cl C) C X.env
 outer:=X.stack
 stack:=X.stack
 ex:=fp
 calm:=true
 fn:=λx=>decide (scope.names.lookup x=some .cell)
 pn:=X.pn++pins
 xe:=λ_ _=>False
structure dD(X:Cx)(scope:Scope)(N':List Str)(d4:List Nat)(cl:List (Str×Addr)):Prop where
 kind:scope.kind=.function
 cells:∀y∈scope.names,y.2=.cell->scope.names.lookup y.1=some .cell
 names:∀y∈scope.names,y.2=.local->scope.names.lookup y.1=some .local
 rX:closureFor scope X.env=pure cl
 cin:∀x c,cl.lookup x=some c->X.env.cells.lookup x=some c
 wV:∀x,scope.names.lookup x=some .free->∃c,cl.lookup x=some c
 nd:N'.Nodup
 QJ:∀(i j:Nat),d4[i]?=some j->∃x,N'[i]?=some x/\X.N[j]?=some x/\scope.names.lookup x=some .free/\(X.env.kindOf x=some .cell\/X.env.kindOf x=some .free)
 CM:d4.length<=N'.length
theorem J1{env:Env}:∀{names:List (Str×NameKind)} {x:Str},names.lookup x=some .free ->
  (names.map λ(n,k)=>if(k==NameKind.free&&env.scope.kind==.function&&env.kindOf n==some .cell) then(n,NameKind.cell) else(n,k)).lookup x=some .cell \/
  (names.map λ(n,k)=>if(k==NameKind.free&&env.scope.kind==.function&&env.kindOf n==some .cell) then(n,NameKind.cell) else(n,k)).lookup x=some .free
 |[],_,h=>by simp at h
 |(n,k)::r,x,h=>by
  have ih:=@J1 env r x;show List.lookup x ((if(k==NameKind.free&&env.scope.kind==.function&&env.kindOf n==some .cell)=true then(n,NameKind.cell) else(n,k))::_)=_\/List.lookup x ((if(k==NameKind.free&&env.scope.kind==.function&&env.kindOf n==some .cell)=true then(n,NameKind.cell) else(n,k))::_)=_;cases hx:x==n with
  |true =>
   simp only[List.lookup_cons,hx] at h;cases h;by_cases hc:(NameKind.free==NameKind.free&&env.scope.kind==.function&&env.kindOf n==some .cell)=true
   ·rw[aJ hc];simp[List.lookup_cons,hx]
   ·rw[aF hc];simp[List.lookup_cons,hx]
  |false =>
   simp only[List.lookup_cons,hx] at h;by_cases hc:(k==NameKind.free&&env.scope.kind==.function&&env.kindOf n==some .cell)=true
   ·rw[aJ hc];simp only[List.lookup_cons,hx];exact ih h
   ·rw[aF hc];simp only[List.lookup_cons,hx];exact ih h
theorem P0{env:Env}:∀{names:List (Str×NameKind)} {x:Str},((names.map λ(n,k)=>if(k==NameKind.free&&env.scope.kind==.function&&env.kindOf n==some .cell) then(n,NameKind.cell) else(n,k)).lookup x=some .cell \/
  (names.map λ(n,k)=>if (k == NameKind.free && env.scope.kind == .function && env.kindOf n == some .cell) then (n,NameKind.cell) else (n,k)).lookup x=some .free)->names.lookup x=some .free \/ names.lookup x=some .cell
 |[],_,h=>by simp at h
 |(n,k)::r,x,h=>by
  have ih:=@P0 env r x;rw[bh] at h;cases hx:x==n with
  |true =>
   simp only[List.lookup_cons,hx];by_cases hc:(k==NameKind.free&&env.scope.kind==.function&&env.kindOf n==some .cell)=true
   ·refine .inl ?_;simp only[Bool.and_eq_true,beq_iff_eq] at hc;rw[hc.1.1]
   ·simp only[if_neg hc,List.lookup_cons,hx] at h;rcases h with h|h
    ·exact .inr h
    ·exact .inl h
  |false =>
   simp only[List.lookup_cons,hx];by_cases hc:(k==NameKind.free&&env.scope.kind==.function&&env.kindOf n==some .cell)=true
   ·simp only[if_pos hc,List.lookup_cons,hx] at h;exact ih h
   ·simp only[if_neg hc,List.lookup_cons,hx] at h;exact ih h
def E9(Z:St)(d4:List Nat)(n:Nat):St:=d4.map (λj=>(Z[j]?).join)++List.replicate (n-d4.length) none
section
variable{pins:List (Addr×Obj)}{Z:St}{H:Hp}
theorem Inv.JG{h1:Heap}{tk:Nat}(I:Inv X pins Z H s)(S:dD X scope N' d4 cl)(hc:X.calm=true)(hf:∀b∈fp,F1 X pins H b)(ho:∀b∈fp,∃o,s.heap.get? b=some o)(hC:s.heap.objs.size<=C)(hn:∃m,h1.Ns C m)(k:∀b o,s.heap.get? b=some o->h1.get? b=some o)(ck:CellsOk h1 (C+1) (cellsFrom (C+1) scope.names [])) :
  Inv (d7 X pins scope N' cl C s H fp) [] (E9 Z d4 N'.length) H { s with heap:=h1,toks:=tk }:=by
 obtain⟨m,hm⟩:=hn;have OG:(relabel scope X.env).kind=.function:=S.kind;have Gx:∀b o,s.heap.get? b=some o->b≠C:=λb o e z=>absurd (aE e) (by rw[z];exact kl.mpr hC);have two:∀{x:Str} {c:Addr},(M4 scope cl C).lookup x=some c->(C<c/\h1.IsCell c none/\(x,c)∈cellsFrom (C+1) scope.names [])\/(cl.lookup x=some c/\(cellsFrom (C+1) scope.names []).lookup x=none):=λ{x c} h=>by
  unfold M4 at h;rw[K9] at h;cases e:(cellsFrom (C+1) scope.names []).lookup x with
  |some c' =>
   rw[e] at h;cases h;have hm:=aQ e;exact .inl ⟨(ck.empty x c hm).2,(ck.empty x c hm).1,hm⟩
  |none =>
   rw[e] at h;exact .inr ⟨h,rfl⟩
 have uW:∀{x:Str} {c:Addr},cl.lookup x=some c->c<s.heap.objs.size:=λ{x c} h=>by
  obtain⟨v,o,e,_⟩:=I.cell x c (S.cin x c h);exact aE e
 have frees:∀{x:Str},scope.names.lookup x=some .free->(M4 scope cl C).lookup x=cl.lookup x:=λ{x} h=>by
  unfold M4;rw[K9];cases e:(cellsFrom (C+1) scope.names []).lookup x with
  |some c' =>
   have:=S.cells _ (W7 (aQ e)) rfl;rw[h] at this;cases this
  |none=>rfl
 refine⟨⟨I.mod,OG,I.ok.glob,I.ok.blt,hC,?_,?_,?_,λ_=>I.ok.hd hc,I.ok.frames,.inl rfl,?_,I.bs,?_,?_,?_,I.stack,I.zl⟩,rfl,I.bare,Un.kept k,⟨m,hm,?_⟩,?_,?_,?_,?_,I.bR.kept k,?_⟩
 ·intro x y c h1 h2;rcases two h1 with⟨l1,_,q1⟩|⟨q1,_⟩<;>rcases two h2 with⟨l2,_,q2⟩|⟨q2,_⟩
  ·exact PySem.name_of_addr ck.apart q1 q2
  ·exact absurd (cX l1 (aA (uW q2) hC)) (bA _)
  ·exact absurd (cX l2 (aA (uW q1) hC)) (bA _)
  ·exact I.ok.inj x y c (S.cin x c q1) (S.cin y c q2)
 ·intro x hx;rcases P0 (env:=X.env) (names:=scope.names) hx with z|z
  ·obtain⟨c,hc⟩:=S.wV x z;exact⟨c,(frees z).trans hc⟩
  ·have q:=dI scope.names (C+1) [] (.inl z);obtain⟨c,hc⟩:=eV.mp q;refine⟨c,?_⟩;show(M4 scope cl C).lookup x=some c;unfold M4;rw[K9,hc]
   rfl
 ·intro x c hf h;have z:scope.names.lookup x=some .cell:=bJ hf;have q:=dI scope.names (C+1) [] (.inl z);rcases two h with⟨l,_⟩|⟨_,e⟩
  ·exact eI (fg hC l)
  ·rw[e] at q;cases q
 ·intro b hb;obtain⟨f0,f1,f2,f3,f4,f5⟩:=hf b hb;obtain⟨o,e⟩:=ho b hb;refine⟨Gx b o e,λx c h=>?_⟩;rcases two h with⟨l,_⟩|⟨q,_⟩
  ·intro z;subst z;exact absurd (cX l (aA (aE e) hC)) (bA _)
  ·exact f4 x c (S.cin x c q)
 ·exact aB I.ok.nP I.sz
 ·intro b o e hb;obtain⟨f0,f1,f2,f3,f4,f5⟩:=hf b hb;rcases f3 with f3|f3
  ·exact I.ok.kA b o e f3
  ·exact absurd (aE (I.ok.bs b o e).1) (kl.mpr f3)
 ·intro b hb z;obtain⟨f0,f1,f2,f3,f4,f5⟩:=hf b hb;rcases aH.mp (I.N6 b z) with z|z
  ·exact f1 z
  ·exact f2 z
 ·intro i x v PV h2 h3;have hi:i<d4.length:=by
   unfold E9 at h2;by_cases hi:i<d4.length
   ·exact hi
   ·rw[bI (by simpa using hi),dC] at h2;split at h2<;>cases h2
  obtain⟨j,hj⟩:∃j,d4[i]?=some j:=⟨_,ai hi⟩
  have hs:Z[j]?=some (some v):=by
   unfold E9 at h2;rw[aD (by simpa using hi),ak,hj] at h2;simp only[Option.map_some] at h2;cases e:Z[j]? with
   |none=>rw[e] at h2;cases h2
   |some a=>rw[e] at h2;exact fV some (aO h2)
  obtain⟨y,Of,Oe,AX,GN⟩:=S.QJ i j hj;have ey:y=x:=by
   have wy:N'[i]?=some x:=PV;rw[Of] at wy;exact aO wy
  subst ey;obtain⟨m0,hm0,hl⟩:=I.loc;obtain ⟨u,ru,hu⟩:=hl j y v Oe hs (by
   rcases GN with z|z
   ·exact .inr (.inl z)
   ·exact .inr (.inr z))
  refine⟨u,ru,.inr ⟨J1 (env:=X.env) (names:=scope.names) AX,?_⟩⟩;rcases hu with⟨z,_⟩|⟨_,c,rh,vV⟩
  ·rcases GN with z'|z'<;>(rw[z'] at z;cases z)
  ·obtain⟨c',hV⟩:=S.wV y AX;have e:=S.cin y c' hV;rw[rh] at e;cases e;obtain⟨o,e1,e2⟩:=vV;exact⟨c,(frees AX).trans hV,o,k _ _ e1,e2⟩
 ·intro x c h;rcases two h with⟨_,q,_⟩|⟨q,_⟩
  ·exact⟨none,q⟩
  ·obtain⟨v,o,e1,e2⟩:=I.cell x c (S.cin x c q);exact⟨v,o,k _ _ e1,e2⟩
 ·exact I.bR.fresh hC
 ·intro x c h;rcases two h with⟨l,_⟩|⟨q,_⟩
  ·exact I.bR.fresh (eI (fg hC l))
  ·exact I.eQ x c (S.cin x c q)
 ·intro p hp;have jW:p∈X.pn++pins:=by simpa[d7] using hp
  obtain⟨p1,p2,p3,p4,p5⟩:=I.pin p jW;refine⟨k _ _ p1,p2,Gx _ _ p1,λz=>?_,p5⟩;rcases aH.mp (I.N6 _ z) with z|z
  ·exact p3 z
  ·exact p4 z
 ·unfold E9;show _=N'.length;rw[bg,ae,jf];have:=S.CM;omega
theorem Inv.LJ{jj:List (Addr×Obj)}{bY:St}{H':Hp}{s':Shared}(I:Inv X pins Z H s)(hf:∀b∈fp,F1 X pins H b)(J:Inv (d7 X pins scope N' cl C s H fp) jj bY H' s'):Inv X pins Z H' s' :=
 I.EB (ch:=fp) J.os J.base J.bR J.bare λb hb=>by
  obtain⟨f0,f1,f2,f3,f4,f5⟩:=hf b hb;exact⟨f3,f1,f4,f5⟩
theorem Inv.YO{D:Addr}{ys:List V}{bf:List Value}{n:Nat}(I:Inv X pins Z H s)(f:F1 X pins H D)(hs:X.dz.heap.objs.size<=D)(hv:Vals ys bf)(hz:ys.length<=sizeLine)(ho:s.heap.get? D=some { cls:=.type "list",data:=.seq bf.toArray n }):Inv X pins Z (upd H D (.lst ys)) s:=by
 obtain⟨f0,f1,f2,f3,f4,f5⟩:=f;have ft:∀b o,X.dz.heap.get? b=some o->b≠D:=λb o e z=>absurd (aE e) (by rw[z];exact kl.mpr hs);have tup:∀b u,H b=some u->upd H D (.lst ys) b=some u:=λb u e=>by rw[f6 (m9 e f0)];exact e
 refine⟨I.ok,I.os,I.bare,⟨?_,?_,?_,I.base.there,?_,?_,?_⟩,I.loc,I.cell,?_,?_,?_,?_,I.len⟩
 ·exact λb o e n1 n2 n3=>I.base.keep b o e n1 n2 n3
 ·exact λb o e n1 n2 n3=>I.base.slot b o e n1 n2 n3
 ·exact λb o e n1 n2=>by rw[f6 (ft b o e)];exact I.base.free b o e n1 n2
 ·exact λb xs e=>tup _ _ (I.base.iL b xs e)
 ·exact λb o u e=>tup _ _ (I.base.iB b o u e)
 ·exact λb ps e=>by
   obtain⟨more,q⟩:=I.base.iM b ps e;exact⟨more,tup _ _ q⟩
 ·rw[f6 f1.symm];exact I.free
 ·exact λx c e=>by rw[f6 (f4 x c e)];exact I.eQ x c e
 ·intro p hp;obtain⟨p1,p2,p3⟩:=I.pin p hp;exact⟨p1,by rw[f6 (f5 p hp)];exact p2,p3⟩
 ·intro a o e;by_cases ha:a=D
  ·subst ha;rw[v7] at e;cases e;exact⟨hz,bf,n,hv,ho⟩
  ·rw[f6 ha] at e;have q:=I.bR a o e;refine q.Y2 (λb u _ h=>h) (λb hb=>tup _ _ hb) (λb xs hb=>tup _ _ hb)
end
def EM(wi:TI)(d4:List Nat)(n:Nat)(g:TG)(tc:TT)(te:TE):TE:=λZ H Q=>wi Z H λJ H1=>∃W:Nat->Nat->List V->St->Hp->Prop,(∃m,W 0 m [] (E9 Z d4 n) H1)/\∀i m ys Z H,W i m ys Z H ->
 (J.stop i H/\∀p,H p=none->Q (.ref p) (upd H p (.lst ys))) \/
 (J.go i H/\ys.length < sizeLine/\∀ x H',J.qu i H x H'->g x Z H' λcA H2=>tc cA H2 λb H3 =>
  if b=true then te cA H3 λy H4=>∃ m',m' < m/\W (i + 1) m' (ys ++ [y]) cA H4 else ∃ m',m' < m/\W (i + 1) m' ys cA H3)
noncomputable abbrev P4(bf:List Value)(n:Nat):Obj:={ cls:=.type "list",data:=.seq bf.toArray n }
section
variable{pins:List (Addr×Obj)}{Z:St}{H:Hp}
theorem JF{it:Addr}{tn:Nat->Heap->Prop}{J:It}{xx:Addr->Shared->Hp->Value->Shared->Prop}{RR:Value->Addr->Result->Shared->Prop}{E:Value->Shared->Prop}{W:Nat->Nat->List V->St->Hp->Prop}{m0:Nat}{Q:VK}(S:dD X scope N' d4 cl)(hc:X.calm=true)(hg:∀C s H,PG (d7 X pins scope N' cl C s H fp) tg g)(ht:∀C s H,lQ (d7 X pins scope N' cl C s H fp) ifs tc)(he:∀C s H,PE ((d7 X pins scope N' cl C s H fp).pA (xx C s H)) elt te)(I:Inv X pins Z H s)(T:Turn X.prog X.w X.K tg J fp it tn)(st:tn 0 s.heap)(hf:∀b∈fp,F1 X pins H b)(w0:W 0 m0 [] (E9 Z d4 N'.length) H)(turn:∀ i m ys Z H,W i m ys Z H->(J.stop i H/\∀ p,H p=none->Q (.ref p) (upd H p (.lst ys))) \/
   (J.go i H/\ys.length < sizeLine/\∀ x H',J.qu i H x H'->g x Z H' λcA H2=>tc cA H2 λb H3 =>
    if b=true then te cA H3 λy H4=>∃ m',m' < m/\W (i + 1) m' (ys ++ [y]) cA H4 else ∃ m',m' < m/\W (i + 1) m' ys cA H3))(BQ:∀D C s' H' m,Inv X pins Z H' s'->Q (.ref D) H'->s'.heap.Ns C m->H' C=none->s.heap.objs.size<=C->RR (.ref D) C (.ok .next) s')(Pe:∀D C e s',s.heap.objs.size<=C->xx C s H e s'->notedBy (model X.prog X.w) X.A (compEnvC scope (M4 scope cl C) C X.env) (λe s'=>RR (.ref D) C (.error e) s') e s') :
  wpAny (model X.prog X.w) X.A (newList []) (λacc fo=>wpAny (model X.prog X.w) X.A (newFunctionEnv scope X.env.globals cl [] X.env.qual none .none (some X.env)) (λmy jS =>
   my.frame=X.env.frame/\codeAny (model X.prog X.w) X.A (.compStart (.ListComp elt [⟨tg,iter,ifs,0⟩] scope pos) 0 (.ref it) acc { my with scope:=relabel scope X.env }) (RR acc my.locals) jS) E fo) E s:=by
 refine dB (Kq λh₁ gX fX nF=>?_);dsimp only at gX fX nF ⊢;generalize rA:s.heap.push { cls:=.type "list",dict:=none,data:=.seq ([]:List Value).toArray }=H2 at gX fX nF ⊢;generalize eD:s.heap.objs.size=D at *;have hC:H2.objs.size=D+1:=by rw[<- rA,eX,eD]
 generalize eC:H2.objs.size=C at *;have wm:D≠C:=by omega
 have lt:∀b o,s.heap.get? b=some o->b<D:=λb o e=>by rw[<- eD];exact aE e
 have qN:D<=C:=by omega
 have pM:∀b o,s.heap.get? b=some o->b≠C:=λb o e=>aP (aA (lt b o e) qN);have nr:∀b o,s.heap.get? b=some o->b≠D:=λb o e=>aP (lt b o e);have old:∀b o,s.heap.get? b=some o->h₁.get? b=some o:=λb o e=>fX b o (rA▸aw _ e);have lB:h₁.get? D=some (P4 [] 0):=fX _ _ (by rw[<- rA,<- eD];exact aG _ rfl);have jo:∀b∈fp,∃o,s.heap.get? b=some o:=λb hb=>by
  obtain⟨o,e,_⟩:=T.obj _ _ st b hb;exact⟨o,e⟩
 have wk:D∉fp:=λhm=>by
  obtain⟨o,e⟩:=jo D hm;exact nr D o e rfl
 have X1:Inv (d7 X pins scope N' cl C s H fp) [] (E9 Z d4 N'.length) H { s with heap:=h₁ } :=
  I.JG S hc hf jo (by rw[eD];omega) ⟨_,gX⟩ old nF
 have uO:tn 0 h₁:=T.keep _ _ _ st λb _ o e=>old b o e;have Cq:∀{H':Hp},(∀b∈fp,H' b=none)->∀b∈fp,F1 (d7 X pins scope N' cl C s H fp) [] H' b:=λhn b hb=>by
  obtain⟨f0,f1,f2,f3,f4,f5⟩:=hf b hb;obtain⟨o,e⟩:=jo b hb;refine⟨hn b hb,?_,?_,.inl hb,λx c q=>(zp nF q).elim (λl z=>absurd (cX (z▸l) (aA (lt b o e) qN)) (bA _)) λq=>f4 x c (S.cin x c q),λp hp=>?_⟩
  ·exact pM b o e
  ·exact λz=>by
    rcases aH.mp (I.N6 b z) with z|z
    ·exact f1 z
    ·exact f2 z
  ·have jW:p∈X.pn++pins:=by simpa[d7] using hp
   exact f5 p jW
 have fD:∀{H':Hp},H' D=none->F1 (d7 X pins scope N' cl C s H fp) [] H' D:=λhn=>by
  refine⟨hn,wm,λz=>?_,.inr (by show s.heap.objs.size<=D;omega),λx c q=>?_,λp hp=>?_⟩
  ·exact absurd (I.xF (a:=D) ()) λmM=>by
    rcases aH.mp (I.N6 D z) with z|z
    ·exact absurd I.lt (by rw[<- z,eD];exact bA _)
    ·exact mM z
  ·rcases zp nF q with l|q
   ·exact λz=>absurd (aA (z▸l) qN) (bA _)
   ·obtain⟨v,o,e,_⟩:=I.cell x c (S.cin x c q);exact nr c o e
  ·have jW:p∈X.pn++pins:=by simpa[d7] using hp
   exact nr _ _ (I.pin p jW).1
 have qK:∀{H':Hp} {s':Shared} {bY:St} {bf:List Value} {n:Nat},Inv (d7 X pins scope N' cl C s H fp) [] bY H' s'->H' D=none->s'.heap.get? D=some (P4 bf n) ->
   Inv (d7 X pins scope N' cl C s H fp) [(D,P4 bf n)] bY H' s':=λ{H' s' bY bf n} J0 hn e=>J0.M7 λp hp=>by
  have z:p=(D,P4 bf n):=by simpa using hp
  subst z;obtain⟨f0,f1,f2,_⟩:=fD hn;exact⟨e,f0,f1,f2,λv z=>nomatch z⟩
 have oj:∀{H':Hp} {bf:List Value} {n:Nat},(∀b∈fp,H' b=none)->∀b∈fp,F1 (d7 X pins scope N' cl C s H fp) [(D,P4 bf n)] H' b:=λ{H' bf n} hn b hb=>by
  obtain⟨f0,f1,f2,f3,f4,f5⟩:=Cq hn b hb;refine⟨f0,f1,f2,f3,f4,λp hp=>?_⟩;have jW:p∈(d7 X pins scope N' cl C s H fp).pn\/p=(D,P4 bf n):=by simpa using hp
  rcases jW with z|z
  ·exact f5 p (dq _ z)
  ·subst z;exact λz=>wk (by rw[show D=b from z];exact hb)
 have loop:∀fo:Shared,fo={ s with heap:=h₁ } ->
   codeAny (model X.prog X.w) X.A (.compLoop (.ListComp elt [⟨tg,iter,ifs,0⟩] scope pos) 0 (.ref it) (.ref D) (compEnvC scope (M4 scope cl C) C X.env)) (RR (.ref D) C) fo:=by
  rintro fo rfl;refine aI8 (λn s'=>∃ i ys bY H' bf nn,Inv (d7 X pins scope N' cl C s H fp) [] bY H' s'/\tn i s'.heap/\(∀ b ∈ fp,H' b=none)/\H' D=none/\Vals ys bf/\ys.length <= sizeLine /\
   s'.heap.get? D=some (P4 bf nn)/\W i n ys bY H') ?_ m0 ⟨0,[],_,H,[],0,X1,uO,λb hb=>(hf b hb).1,I.bR.fresh (),.nil,bU _,lB,w0⟩
  rintro n s3 ⟨i,ys,iK,H3,bf,nn,I3,pK,pZ,d3,v3,z3,o3,w3⟩;have xT:=qK I3 d3 o3;rcases turn i n ys iK H3 w3 with⟨stop,q⟩|⟨go,hz,step⟩
  ·refine cI (T.done (d7 X pins scope N' cl C s H fp) rfl rfl rfl rfl i _ s3 _ H3 _ xT (oj pZ) pK stop) λr s4 ⟨hr,I4⟩=>?_;subst hr;have o4:=(I4.pin (D,P4 bf nn) (by simp)).1;have J4:Inv X pins Z H3 s4:=I.LJ hf I4;have Cr:F1 X pins H3 D:=by
    refine⟨d3,cc (by rw[<- eD];exact I.lt),I.xF (),.inr (by have:=I.sz;omega),λx c q=>?_,λp hp=>?_⟩
    ·obtain⟨v,o,e,_⟩:=I.cell x c q;exact nr c o e
    ·exact nr _ _ (I.pin p hp).1
   obtain⟨mC,Bn,_⟩:=I4.loc;exact BQ D C s4 (upd H3 D (.lst ys)) mC (J4.YO Cr (by have:=I.sz;omega) v3 z3 o4) (q D d3) Bn (by rw[f6 wm.symm];exact I4.free) ()
  ·refine cI (T.item (d7 X pins scope N' cl C s H fp) rfl rfl rfl rfl i _ s3 _ H3 _ xT (oj pZ) pK go) λr s4 ⟨u,hr,h4⟩=>?_;subst hr;refine cI h4 λ_ s5 bq=>?_;obtain⟨x,H5,I5,r5,y5,nh,wC⟩:=bq;have o5:=I5.pin (D,P4 bf nn) (by simp);have xS:=I5.pinned (oj wC) (T.obj _ _ nh);refine cI (hg C s H _ s5 _ H5 x u _ xS r5 (step x H5 y5)) λ_ s6 bq=>?_;obtain⟨lV,H6,I6,q6⟩:=bq;refine cI (ht C s H _ s6 lV H6 _ I6 q6) λok s7 ⟨H7,I7,q7⟩=>?_;have back:∀{uI:St} {H8:Hp} {s8:Shared},Inv (d7 X pins scope N' cl C s H fp) ([(D,P4 bf nn)]++Z8 fp s5.heap) uI H8 s8->(∀b∈fp,H8 b=none)/\tn (i+1) s8.heap/\H8 D=none/\s8.heap.get? D=some (P4 bf nn) :=
    λ{uI H8 s8} I8=>by
     have pf:∀b∈fp,∀o,s5.heap.get? b=some o->s8.heap.get? b=some o/\H8 b=none:=λb hb o e=>by
      have:=I8.pin (b,o) (bu _ (bu _ (T6 hb e)));exact⟨this.1,this.2.1⟩
     have pd:=I8.pin (D,P4 bf nn) (by simp);refine⟨λb hb=>?_,T.keep _ _ _ nh λb hb o e=>(pf b hb o e).1,pd.2.1,pd.1⟩;obtain⟨o,e,_⟩:=T.obj _ _ nh b hb;exact(pf b hb o e).2
   cases ok with
   |false =>
    obtain⟨m',hm,w7⟩:=q7;obtain⟨b1,b2,b3,b4⟩:=back I7;exact⟨m',hm,i+1,ys,lV,H7,bf,nn,I7.M7 λp hp=>absurd hp (by simp),b2,b1,b3,v3,z3,b4,w7⟩
   |true =>
    refine bB (he C s H _ s7 lV H7 _ (I7.pA _) q7) (λxv s8 bq=>?_) λe s' hx=>Pe D C e s' () hx;obtain⟨y,H8,I8,r8,m',hm,w8⟩:=bq;have I8:=I8.Fs;obtain⟨b1,b2,b3,b4⟩:=back I8;refine fG F.slot_list_append ⟨_,b4,rfl⟩ F.entry_list_append (F.args_list_append_2 _ _) (PySem.list_append D bf.toArray nn xv (by rw[aK];have:=v3.length;omega)) ⟨b4,?_⟩;have q:∃n',(s8.heap.update D (Obj.mapSeq (·.push xv))).get? D=some (P4 (bf++[xv]) n'):=by
     have q0:=PySem.IsL.update b4 (·.push xv);have e0:bf.toArray.push xv=(bf++[xv]).toArray:=by simp
     rw[e0] at q0;exact⟨_,q0⟩
    obtain⟨n',q⟩:=q;have FJ:Inv (d7 X pins scope N' cl C s H fp) [] lV H8 s8:=I8.M7 λp hp=>absurd hp (by simp);obtain⟨f0,f1,f2,f3,f4,f5⟩:=fD (H':=H8) b3;have kp:∀b o,b≠D->s8.heap.get? b=some o->(s8.heap.update D (Obj.mapSeq (·.push xv))).get? b=some o:=λb' u hb hu=>(dh s8.heap (Obj.mapSeq (·.push xv)) (cb hb)).trans hu;refine⟨m',hm,i+1,ys++[y],lV,H8,bf++[xv],n',FJ.turned (it:=D) (t':=s8.toks) kp f0 f1 f3 f4 f5,T.keep _ _ _ b2 λb hb o e=>kp b o (λz=>wk (by rw[<- z];exact hb)) e,b1,b3,v3.append (.cons r8 .nil),?_,q,w8⟩;rw[bg,je];omega
 exact⟨rfl,codeAny_compStart_list (loop _ rfl) (T.self _ 0 _ _ _ uO (loop _ rfl))⟩
theorem Inv.IJ{h':Heap}{s2:Shared}{H2:Hp}(I:Inv X pins Z H s)(hC:s2.heap.objs.size<=C)(I2:Inv X pins Z H2 s2)(hn:H C=none)(sb:Heap.SameBut C s.heap h'):Inv X pins Z H { s with heap:=h' }:=by
 have f:=I2.qf (b:=C) (H':=H) hC hn;obtain⟨f0,f1,f2,f3,f4,f5⟩:=f;exact I.turned (t':=s.toks) (λb o hb e=>sb.extBut b o hb e) f0 f1 f3 f4 f5
theorem JI{M:Model}{E:Value->Shared->Prop}{a:Sem Value}{b:Sem Env}{P:Env->Prop}{Q:Value->Env->Shared->Prop}(h:wpAny M A a (λx s1=>wpAny M A b (λy s2=>P y/\Q x y s2) E s1) E s):wpAny M A a (λx s1=>wpAny M A b (λy s2=>Q x y s2) E s1) E s :=
 bB h (λ_ _ h=>bB h (λ_ _ h=>h.2) λ_ _ z=>z) λ_ _ z=>z
theorem Lg{wi:TI}(S:dD X scope N' d4 cl)(hc:X.calm=true)(hi:PI X tg iter wi)(hg:∀pins C s H fp,PG (d7 X pins scope N' cl C s H fp) tg g)(ht:∀pins C s H fp,lQ (d7 X pins scope N' cl C s H fp) ifs tc)(he:∀pins C s H fp,PE (d7 X pins scope N' cl C s H fp) elt te)(hs:∀x,foldedSetIterable iter X.env x=pure x):PE X (.ListComp elt [⟨tg,iter,ifs,0⟩] scope pos) (EM wi d4 N'.length g tc te):=by
 intro pins s Z H Q I h;rw[eval_ListComp];refine iZ (use:=none) rfl hs S.rX S.kind S.names (cI (hi pins s Z H _ I h) λxv cj h₁=>cI h₁ λvt gP jn=>?_);obtain⟨it,fp,tn,J,H2,e,I2,T,lp,f2,W,⟨m0,w0⟩,turn⟩:=jn;subst e;refine JI (JF (xx:=λ_ _ _ _ _=>False) (RR:=λacc C=>compPost (model X.prog X.w) X.A X.xe none (EP X pins Z Q) acc C) S hc (λC s H=>hg pins C s H fp) (λC s H=>ht pins C s H fp) (λC s H=>he pins C s H fp) I2 T lp f2 w0 turn ?_ λ_ _ _ _ _ z=>z.elim);intro D C s' H' m I' q hn hC hsz;exact⟨m,hn,λh' sb=>⟨.ref D,H',I'.IJ hsz I2 hC sb,rfl,q⟩⟩
theorem aK9{uP px:Pos}{wi:TI}{i:Nat}(S:dD X scope N' d4 cl)(hc:X.calm=true)(hi:PI X tg iter wi)(hg:∀pins C s H fp,PG (d7 X pins scope N' cl C s H fp) tg g)(ht:∀pins C s H fp,lQ (d7 X pins scope N' cl C s H fp) ifs tc)(he:∀pins C s H fp,PE (d7 X pins scope N' cl C s H fp) elt te)(hs:∀x,foldedSetIterable iter X.env x=pure x)(hN:X.N.Nodup)(vM:X.N[i]?=some x)(hx:Loc X.env.scope x)(hf:X.fn x=true\/X.env.scope.names.lookup x=some .local) :
  PS X (.Assign [.Name x px] (.ListComp elt [⟨tg,iter,ifs,0⟩] scope pos) uP) (xG (EM wi d4 N'.length g tc te) (uf i)):=by
 intro pins s Z H D I h;have yo:∃b,swapsWith (.ListComp elt [⟨tg,iter,ifs,0⟩] scope pos) (some (.Name x px)) uP.line X.env=pure b:=⟨_,rfl⟩
 obtain⟨b,yo⟩:=yo;cases b with
 |false=>exact Ks hN vM hx (Lg S hc hi hg ht he hs) yo hf pins s Z H D I h
 |true =>
  rw[exec_Assign_Name_used _ _ _ _ yo];refine ag (fu (ag ?_));show wpAny _ X.A (do let _ <- comprehension (.ListComp elt [⟨tg,iter,ifs,0⟩] scope pos) scope X.env _ (newList []) false (eval iter X.env) (some (assign (.Name x px) X.env))) _ _ s;refine ag (bB (iZ (use:=some (assign (.Name x px) X.env)) (Q:=λ_ s'=>SP X pins D .next s') rfl hs S.rX S.kind S.names
   (cI (hi pins s Z H _ I h) λxv cj h₁=>cI h₁ λvt gP jn=>?_)) (λ_ s' hq=>ax (ax hq)) λ_ _ e=>e)
  obtain⟨it,fp,tn,J,H2,e,I2,T,lp,f2,W,⟨m0,w0⟩,turn⟩:=jn;subst e;refine JI (JF (xx:=λ_ _ _ _ _=>False) (Q:=λv H1=>uf i v Z H1 D.nx) (RR:=λacc C=>compPost (model X.prog X.w) X.A X.xe (some (assign (.Name x px) X.env)) (λ_ s'=>SP X pins D .next s') acc C) S hc (λC s H=>hg pins C s H fp) (λC s H=>ht pins C s H fp) (λC s H=>he pins C s H fp) I2 T lp f2 w0 turn ?_ λ_ _ _ _ _ z=>z.elim);intro Dl C s' H' m I' q hn hC hsz;show wpAny _ X.A (assign (.Name x px) X.env (.ref Dl)) _ _ _;refine wpAny_assign_Name (Jz I' hN vM hx (v:=.ref Dl) rfl (λs3 I3 ⟨a,sb,ha⟩=>?_) hf);have Ph:C≠a:=by
   obtain⟨f0,f1,f2,f3,f4,f5⟩:=I2.qf (b:=C) (H':=H') hsz hC;rcases ha with z|z
   ·rw[z];exact f1
   ·exact λz'=>f4 _ _ z z'.symm
  obtain⟨f0,f1,f2,f3,f4,f5⟩:=I2.qf (b:=C) (H':=H') hsz hC;refine⟨m,hn.sameBut sb Ph,λh3 NC=>⟨_,H',I3.turned (t':=s3.toks) (λb o hb e=>NC.extBut b o hb e) f0 f1 f3 f4 f5,q⟩⟩
end
end L2
namespace HT
open PySem PyProof.Rows
section
variable{prog:Program}{w:World}{A:Around}{E:Value->Shared->Prop}{s:Shared}
theorem ZX{t sl:Addr}{items:Array Value}{vl vu:Value}{lo hi:Option Int}{Q:Value->Shared->Prop}(ht:IsTup s.heap t items)(hs:s.heap.IsSliceOf sl vl vu .none)(pl:IsPart vl lo)(pu:IsPart vu hi)(hw:dG items.size 0 lo=0/\dG items.size items.size hi=items.size)(h:Q (.ref t) s):wpAny (model prog w) A (getItem (.ref t) (.ref sl)) Q E s:=by
 obtain⟨os,qV,yw,vS⟩:=id hs;have BN:s.TypeIs (.ref sl) "slice":=⟨os,qV,yw⟩
 unfold getItem
 try with_reducible refine cy ?_
 first|refine ag (ax ?_)|skip
 refine ag (wpAny_sequenceKey ht.typeIs ∅ ?_);refine ag (fI (name:=Str.ofString "__getitem__") ht.typeIs bT
  (cO bT ht.typeIs entry_tuple_getitem ?_ (args_tuple_getitem _ _)))
 show wpAny _ _ (Builtin.Tuple.tupleItemsOf (.ref t) >>= _) _ _ s;refine ag (tupleItemsOf_ ht ?_);refine ag (fU BN ?_);rw[aJ ∅];refine ag (V2 hs pl pu ?_);have AW:((((dG items.size 0 lo:Nat):Int)==0&&(1:Int)==1&&(dG items.size items.size hi-dG items.size 0 lo)==items.size)=true):=by
  rw[hw.1,hw.2];simp
 show wpAny _ _ (if(((dG items.size 0 lo:Nat):Int)==0&&(1:Int)==1&&(dG items.size items.size hi-dG items.size 0 lo)==items.size)=true then _ else _) _ _ s;rw[aJ AW];obtain⟨o,ho,hc,_⟩:=id ht;unfold Builtin.Tuple.tupleIsExact;refine ag (ag (fU ht.typeIs (ax ?_)));rw[aJ ∅]
 first
  |exact wpAny_bind (wpAny_rule (wpAny_bind (wpAny_pure ⟨_,rfl,wpAny_pure h⟩)))
  |exact wpAny_bind (wpAny_rule (wpAny_pure ⟨_,rfl,wpAny_pure h⟩))
  |exact wpAny_bind (wpAny_rule (wpAny_bind (wpAny_pure (wpAny_pure ⟨_,rfl,wpAny_pure h⟩))))
end
end HT
namespace L2
open PySem PySem.Spec PyProof.Rows
section
variable{X:Cx}
def Yu(K:PySem.W.Frag):V->Option Int->Option Int->Hp->VK->Prop:=λx lo hi H Q=>∃a xs,x=.ref a/\jB K H a xs /\
 (W6 xs lo hi=xs->Q (.ref a) H)/\∀p,H p=none->Q (.ref p) (upd H p (.tup (W6 xs lo hi)))
theorem Ux:xK X (Yu X.K):=by
 intro pins s Z H x v vl vu lo hi sl Q I rx hs pl pu h;obtain⟨a,xs,rfl,hx,q0,q⟩:=h;by_cases hw:HT.dG xs.length 0 lo=0/\HT.dG xs.length xs.length hi=xs.length
 ·cases rx;obtain⟨bf,r,ht,hz⟩:=I.tuple hx;have hlen:bf.toArray.size=xs.length:=by rw[aK];exact r.length.symm
  refine⟨"tuple",_,bT.lookup,ht.typeIs,?_⟩;exact HT.ZX ht hs pl pu (by rw[hlen];exact hw) ⟨.ref a,H,I,rfl,q0 (by unfold W6;rw[hw.1,hw.2];simp)⟩
 ·exact RP pins s Z H _ v vl vu lo hi sl Q I rx hs pl pu ⟨a,xs,rfl,hx,hw,q⟩
theorem aL9:m8 X (.builtin "isinstance") (λxs H Q=>∃x t c b,xs=[x,.ty c]/\ic X.K H x t/\PySem.W.kitOne X.K t (.type c)=some b/\Q (.bl b) H):=by
 intro pins s Z H xs us Q I r h;obtain⟨x,t,c,b,rfl,hT,hk,q⟩:=h;obtain⟨u,w',rfl,ru,gw⟩:=vals2 r;cases (show w'=Value.type c from gw);exact a35 I ru hT hk λtk=>⟨.bl b,H,I.tok tk,rfl,q⟩
theorem a58(hc:X.calm=true):m8 X (.builtin "all") (λxs H Q=>∃(a:Addr) (bs:List Bool),xs=[.ref a]/\fM X.K H a (bs.map V.bl)/\Q (.bl (bs.all id)) H):=by
 intro pins s Z H xs us Q I r h;obtain⟨a,bs,rfl,ha,q⟩:=h;obtain⟨u,rfl,ru⟩:=vals1 r;cases ru;obtain⟨bf,rv,p,hz⟩:=I.list ha;refine call_all_walk ?_;refine iT p.isList ?_;have ft:a≠s.heap.objs.size:=by
  obtain⟨o,e,_⟩:=id p.isList;exact aP (aE e)
 have hl:=rv.length;rw[ae] at hl;refine⟨s.heap.objs.size,_,_,_,_,_,λi=>bs.getD i true,rfl,Walks.list (A:=X.A.in1) (I.ok.hd hc) _ a ft bf.toArray,⟨⟨_,aG _ rfl,rfl,rfl⟩,?_⟩,?_,λh' tk k=>?_⟩
 ·obtain⟨o,e,q1⟩:=id p.isList;exact⟨o,aw _ e,q1⟩
 ·intro i v s' Q' E' hP hQ;have hv:bf[i]?=some v:=by simpa using hP
  have hi:i<bs.length:=by rw[hl];exact(aj.mp hv).1
  obtain⟨u',vy,AF⟩:=rv.get (i:=i) (x:=V.bl bs[i]) (by rw[ak,ai hi];rfl);rw[hv] at vy;cases vy;cases (show v=Value.bool bs[i] from AF);refine cG ?_;have:bs.getD i true=bs[i]:=by simp[List.getD,hi]
  dsimp only at hQ;rw[this] at hQ;exact hQ
 ·have e1:(List.range bf.toArray.size).all (λi=>bs.getD i true)=bs.all id:=by
   rw[aK,<- hl];rw[aU];simp only[List.all_eq_true,List.mem_range,id];constructor
   ·intro hh x hx;obtain⟨i,hi,rfl⟩:=bK.mp hx;have:=hh i hi;simpa[List.getD,hi] using this
   ·intro hh i hi;have:=hh bs[i] (cg hi);simpa[List.getD,hi] using this
  rw[e1];exact ⟨.bl (bs.all id),H,I.kept (t':=tk) λb o e=>k b o (by
   intro hb;have:b=s.heap.objs.size:=by simpa using hb
   exact absurd (aE e) (by rw [this];exact bA _)) (aw _ e),rfl,q⟩
end
end L2
namespace HT
open PySem PyProof.Rows
end HT
namespace L2
open PySem PySem.Spec PyProof.Rows
variable{X:Cx}{pos p:Pos}{w:World}{H H':Hp}{Z:St}{s s':Shared}{B:Heap}{ea C:Addr}{a0:Value}{ta:TA}
theorem n8.get{P:Program}{h:Heap}{a:Addr}:∀{o:HO},n8 P w H h a o->∃ob,h.get? a=some ob
 |.lst _,x=>by obtain⟨_,_,_,_,e⟩:=x;exact⟨_,e⟩
 |.tup _,x=>by obtain⟨_,_,_,o,e,_⟩:=x;exact⟨o,e⟩
 |.dK _,x=>by obtain⟨_,_,_,_,o,es,ep,e,_⟩:=x;exact⟨o,e⟩
 |.dT _,x=>by obtain⟨_,_,_,_,o,es,ep,e,_⟩:=x;exact⟨o,e⟩
 |.set _ _,x=>by obtain⟨o,es,ep,t,e,_⟩:=x;exact⟨o,e⟩
 |.ins _ _ _,x=>by obtain⟨_,_,_,e,_⟩:=x;exact⟨_,e⟩
 |.own _,x=>x
 |.xd _,x=>by obtain⟨mA,n,_⟩:=x;obtain⟨od,e,_⟩:=Jr n;exact⟨od,e⟩
 |.mJ _ _,x=>by obtain⟨_,_,_,e⟩:=x;exact⟨_,e⟩
 |.jZ _ _,x=>⟨_,x.1⟩
 |.kh _,x=>⟨_,x⟩
 |.met _ _,x=>⟨_,x⟩
 |.ext _,x=>x.2.1
def Ew(H':Hp)(h0:Heap)(l:List Env)(e:Value)(C:Addr)(h:Heap):Prop :=
 ∃(ea:Addr) (a0:Value) (B:Heap),e=.ref ea/\Heap.FlyingW B l ea (.ref C) a0 h/\∀b o,h.get? b=some o->b∉gh l->(H' b≠none\/∃o0,h0.get? b=some o0)->B.get? b=some o
def js(P:Program)(w:World):nS:=λouter H s E e s'=>∃(C:Addr) (H':Hp),s'.os=s.os/\AllBare s'.gens/\Un (gh outer) [] H H' s.heap s'.heap/\gH P w H' s'.heap/\Ew H' s.heap outer e C s'.heap/\E (.ref C) none H'
section
variable{pins:List (Addr×Obj)}{E:XK}{e:Value}
theorem Inv.flew(I:Inv X pins Z H s)(h:js X.prog X.w X.stack H s E e s'):∃C H',Inv X pins Z H' s'/\Ew H' s.heap X.stack e C s'.heap/\E (.ref C) none H':=by
 obtain⟨C,H',ho,hb,hu,bR,fl,hE⟩:=h;exact⟨C,H',I.EB (ch:=[]) ho hu bR hb (by simp),fl,hE⟩
theorem zq(I:Inv X pins Z H s){b:Addr}(hb:b∈gh X.stack):∃o,s.heap.get? b=some o/\∀vs,o.data≠.fields vs:=(I.stack.mem hb).2
theorem EC{oh:Heap}(I:Inv X pins Z H s)(ei:X.stack=X.env::X.outer)(hex:X.ex=[])(hf:X.env.frame=some X.env.locals)(tm:∀b o,s.heap.get? b=some o->b∉gh X.stack->(H b≠none\/∃o0,X.dz.heap.get? b=some o0)->B.get? b=some o)(sl:∀b∈gh X.stack,∀o,s.heap.get? b=some o->∃sl,oh.get? b=some { o with slots:=sl })(fw:Heap.FlyingW B X.outer ea (.ref C) a0 oh)(hE:E (.ref C) none H):js X.prog X.w X.outer X.jC X.dz E (.ref ea) { s with heap:=oh }:=by
 have qT:∀b,b∈gh X.outer->b∈gh X.stack:=λb hb=>by rw[ei];unfold gh at hb ⊢;rw[eO,hf];exact bx _ hb
 have va:∀b o,X.dz.heap.get? b=some o->b∉gh X.outer->b∉gh X.stack:=λb o e hb z=>by
  rcases aH.mp (I.N6 b z) with z|z
  ·exact absurd (aE e) (by rw[z];exact kl.mpr I.ok.above)
  ·exact hb z
 have oz:∀b u,H b=some u->b∉gh X.stack:=λb u e z=>by rw[I.zl b z] at e;cases e
 have kept:∀b o,s.heap.get? b=some o->b∉gh X.stack->(H b≠none\/∃o0,X.dz.heap.get? b=some o0)->oh.get? b=some o:=λb o e n q=>fw.1 b o (tm b o e n q);have vc:∀b,b∉X.ex:=λb=>by rw[hex];simp
 refine⟨C,H,I.os,I.bare,⟨?_,?_,?_,?_,I.base.iL,I.base.iB,I.base.iM⟩,?_,⟨ea,a0,B,rfl,fw,?_⟩,hE⟩
 ·exact λb o e n1 n2 _=>kept b o (I.base.keep b o e n1 n2 (vc b)) (va b o e n2) (.inr ⟨o,e⟩)
 ·intro b o e n1 n2 _;obtain⟨NA,e1⟩:=I.base.slot b o e n1 n2 (vc b);obtain⟨oA,e2⟩:=sl b (qT b n2) _ e1;exact⟨oA,e2⟩
 ·exact λb o e n1 _=>I.base.free b o e n1 (vc b)
 ·intro b o e _;obtain⟨o1,e1⟩:=I.base.there b o e (vc b);by_cases hb:b∈gh X.stack
  ·obtain⟨oA,e2⟩:=sl b hb _ e1;exact⟨_,e2⟩
  ·exact⟨o1,kept b o1 e1 hb (.inr ⟨o,e⟩)⟩
 ·intro a o e;exact (I.bR a o e).Y2 (λb u hb q=>by
   have jY:∃v,H b=some v:=by
    rcases hb with rfl|hb
    ·exact⟨o,e⟩
    ·exact⟨_,hb⟩
   obtain⟨v,hv⟩:=jY;exact kept b u q (oz b v hv) (.inl (by rw [hv];simp))) (λb hb=>hb) (λb xs hb=>hb)
 ·intro b o e n q;rcases q with q|⟨o0,q⟩
  ·obtain⟨v,hv⟩:=ow.mp q;obtain⟨o1,e1⟩:=(I.bR b v hv).get;have z:=tm b o1 e1 (oz b v hv) (.inl (by rw[hv];simp));have z':=fw.1 b o1 z;have:o=o1:=by
    have e':oh.get? b=some o:=e;rw[z'] at e';exact(aO e').symm
   subst this;exact z
  ·obtain⟨o1,e1⟩:=I.base.there b o0 q (vc b);have z:=tm b o1 e1 (va b o0 q n) (.inr ⟨o0,q⟩);have z':=fw.1 b o1 z;have:o=o1:=by
    have e':oh.get? b=some o:=e;rw[z'] at e';exact(aO e').symm
   subst this;exact z
theorem aH1{h0:Heap}{Ex:Value->Shared->Prop}(I:Inv X pins Z H s)(fl:Ew H h0 X.stack e C s.heap)(PZ:∀b o,X.dz.heap.get? b=some o->∃o',h0.get? b=some o')(ei:X.stack=X.env::X.outer)(hex:X.ex=[])(hf:X.env.frame=some X.env.locals)(hE:E (.ref C) none H):wpAny (model X.prog X.w) X.A (leaving X.env e) (λ_ oB=>js X.prog X.w X.outer X.jC X.dz E e oB) Ex s:=by
 obtain⟨ea,a0,B,rfl,fw,hB⟩:=fl;have fw0:=fw;rw[ei] at fw;refine wpAny_leaves_onW (by rw[I.ok.frames,ei]) hf fw λoh yE us=>?_;refine EC I ei hex hf (λb o e n q=>hB b o e n (q.imp id λ⟨o0,q⟩=>PZ b o0 q)) (λb hb o e=>?_) yE hE;obtain⟨o1,e1,nf⟩:=zq I hb;rw[e] at e1;cases e1;exact us b o e nf
theorem aU5{h':Heap}{vs:List Value}{Ex:Value->Shared->Prop}(I:Inv X pins Z H s)(hx:Heap.MadeExcOf s.heap h' ea (.ref C) vs)(ei:X.stack=X.env::X.outer)(hex:X.ex=[])(hf:X.env.frame=some X.env.locals)(hE:E (.ref C) none H):wpAny (model X.prog X.w) X.A (leaving X.env (.ref ea)) (λ_ oB=>js X.prog X.w X.outer X.jC X.dz E (.ref ea) oB) Ex { s with heap:=h' }:=by
 have tF:=I.stack;rw[ei] at tF;have iS:∀env∈(X.env::X.outer),∀b,env.frame=some b->b∈gh X.stack:=λenv he b hb=>by rw[ei];exact km.mpr ⟨env,he,hb⟩
 refine wpAny_leaves_madeW (s:={ s with heap:=h' }) (base:=PySem.W.hideAll s.heap (gh X.stack)) (h:=s.heap) (by rw[I.ok.frames,ei]) hf (λb o q=>MW _ q) (PySem.W.funFrames_hide tF iS) hx λoh t fw _ _ us=>?_;refine(show js X.prog X.w X.outer X.jC X.dz E (.ref ea) { s with heap:=oh } from EC I ei hex hf (λb o e n _=>FO _ e n) (λb hb o e=>?_) fw hE);obtain⟨o1,e1,nf⟩:=zq I hb;rw[e] at e1;cases e1;exact us b o (hx.keeps b o e) nf
theorem a69{l:List Env}{h0 h h1:Heap}{Pg:Program}(u:Un (gh l) [] H H' h0 h)(ok:gH Pg w H' h)(hB:∀b o,h.get? b=some o->b∉gh l->(H' b≠none\/∃o0,h0.get? b=some o0)->B.get? b=some o)(st:B.StaysIn h1)(us:h.UpToSlots h1)(Hm:∀b∈gh l,H' b=none/\∃o,h.get? b=some o/\∀vs,o.data≠.fields vs):Un (gh l) [] H H' h0 h1/\gH Pg w H' h1/\∀b o,h1.get? b=some o->b∉gh l->(H' b≠none\/∃o0,h0.get? b=some o0)->B.get? b=some o:=by
 have oz:∀b u,H' b=some u->b∉gh l:=λb u e z=>by rw[(Hm b z).1] at e;cases e
 have kept:∀b o,h.get? b=some o->b∉gh l->(H' b≠none\/∃o0,h0.get? b=some o0)->h1.get? b=some o:=λb o e n q=>st b o (hB b o e n q);have HQ:∀b∈gh l,∀o,h.get? b=some o->∃sl,h1.get? b=some { o with slots:=sl }:=λb hb o e=>by
  obtain⟨_,o1,e1,nf⟩:=Hm b hb;rw[e] at e1;cases e1;exact us b o e nf
 refine⟨⟨?_,?_,u.free,?_,u.iL,u.iB,u.iM⟩,?_,?_⟩
 ·exact λb o e n1 n2 n3=>kept b o (u.keep b o e n1 n2 n3) n2 (.inr ⟨o,e⟩)
 ·intro b o e n1 n2 n3;obtain⟨NA,e1⟩:=u.slot b o e n1 n2 n3;obtain⟨oA,e2⟩:=HQ b n2 _ e1;exact⟨oA,e2⟩
 ·intro b o e n;obtain⟨o1,e1⟩:=u.there b o e n;by_cases hb:b∈gh l
  ·obtain⟨oA,e2⟩:=HQ b hb _ e1;exact⟨_,e2⟩
  ·exact⟨o1,kept b o1 e1 hb (.inr ⟨o,e⟩)⟩
 ·intro a o e;exact (ok a o e).Y2 (λb u hb q=>by
   have jY:∃v,H' b=some v:=by
    rcases hb with rfl|hb
    ·exact⟨o,e⟩
    ·exact⟨_,hb⟩
   obtain⟨v,hv⟩:=jY;exact kept b u q (oz b v hv) (.inl (by rw [hv];simp))) (λb hb=>hb) (λb xs hb=>hb)
 ·intro b o e n q;have:∃o1,h.get? b=some o1:=by
   rcases q with q|⟨o0,q⟩
   ·obtain⟨v,hv⟩:=ow.mp q;exact(ok b v hv).get
   ·exact u.there b o0 q (by simp)
  obtain⟨o1,e1⟩:=this;have z:=hB b o1 e1 n q;rw[st b o1 z] at e;cases e;exact z
structure Lies(X:Cx)(H H':Hp)(s:Shared)(B:Heap)(ea C:Addr)(a0:Value)(s':Shared):Prop where
 os:s'.os=s.os
 bare:AllBare s'.gens
 un:Un (gh X.stack) [] H H' s.heap s'.heap
 bR:gH X.prog X.w H' s'.heap
 tm:∀b o,s'.heap.get? b=some o->b∉gh X.stack->(H' b≠none\/∃o0,s.heap.get? b=some o0)->B.get? b=some o
theorem Lies.inv(I:Inv X pins Z H s)(l:Lies X H H' s B ea C a0 s'):Inv X pins Z H' s':=I.EB (ch:=[]) l.os l.un l.bR l.bare (by simp)
theorem leave_held{Ex:Value->Shared->Prop}(I:Inv X pins Z H s)(l:Lies X H H' s B ea C a0 s')(hh:Heap.HeldW B X.stack ea (.ref C) a0 X.env.locals s'.heap)(ei:X.stack=X.env::X.outer)(hex:X.ex=[])(hf:X.env.frame=some X.env.locals)(hE:E (.ref C) none H'):wpAny (model X.prog X.w) X.A (leaving X.env (.ref ea)) (λ_ oB=>js X.prog X.w X.outer X.jC X.dz E (.ref ea) oB) Ex s':=by
 have J:=l.inv I;have By:=hh;rw[ei] at By;unfold leaving;refine ag (wpAny_noteFrame_againW hf By.2.2.2 ?_);refine wpAny_landsW By λoh fl us=>?_;obtain⟨k1,k2,⟨_,_,k3⟩,k4⟩:=fl;refine EC J ei hex hf (λb o e n q=>l.tm b o e n (q.imp id λ⟨o0,q⟩=>I.base.there b o0 q (by rw[hex];simp))) (λb hb o e=>?_) ⟨k1,k2,k3,k4⟩ hE;obtain⟨o1,e1,nf⟩:=zq J hb;rw[e] at e1;cases e1;exact us b o e nf
def yW(X:Cx)(Ξ:XK):Prop:=∀(pins:List (Addr×Obj)) (Z:St) (H:Hp) (s:Shared) (h':Heap) (ea C:Addr) (vs:List Value),Inv X pins Z H s->Heap.MadeExcOf s.heap h' ea (.ref C) vs->Ξ (.ref C) none H->X.xe (.ref ea) { s with heap:=h' }
def xn(X:Cx)(Ξ:XK):Prop:=∀(pins:List (Addr×Obj)) (Z:St) (H H':Hp) (s s':Shared) (B:Heap) (ea C:Addr) (a0:Value),Inv X pins Z H s->Lies X H H' s B ea C a0 s'->Heap.HeldW B X.stack ea (.ref C) a0 X.env.locals s'.heap->Ξ (.ref C) none H'->X.xe (.ref ea) s'
def Sl(C:Addr)(Ξ:XK)(t:TA):TS:=λ_ Z H=>t Z H λvs H1=>vs.length<=sizeLine/\Ξ (.ref C) none H1
theorem Vw{x:Str}{B newId gW:String}{bm:List Value}{np eR:Pos}{ka:Expr}{rest:List Expr}{t:TA}{Ξ:XK}(hc:X.calm=true)(O:OwnCls x C bm newId X.mg X.base)(FB:ExcBaseFacts B newId gW bm)(hg:Gl X x)(ha:PA X (ka::rest) t)(hr:yW X Ξ)(he:starEach (ka::rest) X.env=(false,eval ka X.env)::starEach rest X.env)(fq:(backTo eR (starEach rest X.env)).any (·.1)=false)(hd:(x==("__debug__":Str))=false) :
  PS X (.Raise (some (.Call (.Name x np) (ka::rest) [] eR)) none pos) (Sl C Ξ t):=by
 intro pins s Z H D I h;obtain⟨tl,N,nm,q,bs,hdct,sn,sub,ab,col,dd,k0,k1,k2,k3,k5,mN,hC,hN,yq,T⟩:=O.obj;refine wpAny_Raise_call_subT (C:=C) (nm:=nm) (q:=q) (N:=N) (bs:=bs) (bm:=tl) (hdct:=hdct) (sn:=sn) (sub:=sub) (ab:=ab) (col:=col) (dd:=dd) (k0:=k0) (k1:=k1) (k2:=k2) (k3:=k3) (k5:=k5)
  FB (mN:=mN) (T.hasType FB.hasBase) (I.ok.hd hc) (by rw[he];show(false||(backTo eR (starEach rest X.env)).any (·.1))=false;rw[fq];rfl) yq (P6 I hg O.bound ⟨rfl,?_⟩ hd)
 have h':=ha eR pins s Z H _ I h;rw[he] at h' ⊢;refine kZ (bB h' (λvs gP jn=>?_) λ_ _ y=>y);obtain⟨ws,H1,I1,rv,hz,hE⟩:=jn;exact⟨rfl,by rw[<- rv.length];exact hz,I1.bk _ _ hC,hN.keeps I1.bk,T.keeps I1.bk,λh2 ea hm=>hr pins Z H1 gP h2 ea C vs I1 hm hE⟩
def W8(X:Cx)(pins:List (Addr×Obj))(xe:Value->Shared->Prop):Cx:={ X with pn:=X.pn++pins,xe:=xe }
def H9(X:Cx)(ea:Addr):Cx:={ X with A:=X.A.mark (some (.ref ea)),calm:=false,xe:=λ_ _=>False }
theorem Inv.YN{xe:Value->Shared->Prop}(I:Inv X pins Z H s):Inv (W8 X pins xe) [] Z H s :=
 ⟨⟨I.ok.mod,I.ok.kind,I.ok.glob,I.ok.blt,I.ok.above,I.ok.inj,I.ok.has,I.ok.qd,I.ok.hd,I.ok.frames,I.ok.qx,I.ok.wF,I.ok.bs,I.ok.nP,I.ok.kA,I.ok.lD,I.ok.M3,I.ok.oi⟩,I.os,I.bare,I.base,I.loc,I.cell,I.free,I.eQ,
  λp hp=>I.pin p (by simpa [W8] using hp),I.bR,I.len⟩
theorem Inv.sG{xe:Value->Shared->Prop}{jj:List (Addr×Obj)}(I:Inv (W8 X pins xe) jj Z H s):Inv X pins Z H s :=
 ⟨⟨I.ok.mod,I.ok.kind,I.ok.glob,I.ok.blt,I.ok.above,I.ok.inj,I.ok.has,I.ok.qd,I.ok.hd,I.ok.frames,I.ok.qx,I.ok.wF,I.ok.bs,I.ok.nP,I.ok.kA,I.ok.lD,I.ok.M3,I.ok.oi⟩,I.os,I.bare,I.base,I.loc,I.cell,I.free,I.eQ,
  λp hp=>I.pin p (dq _ hp),I.bR,I.len⟩
theorem Inv.KC(I:Inv X pins Z H s):Inv (H9 X ea) pins Z H s :=
 ⟨⟨I.ok.mod,I.ok.kind,I.ok.glob,I.ok.blt,I.ok.above,I.ok.inj,I.ok.has,I.ok.qd,λz=>(by cases z),I.ok.frames,I.ok.qx,I.ok.wF,I.ok.bs,I.ok.nP,I.ok.kA,I.ok.lD,I.ok.M3,I.ok.oi⟩,I.os,I.bare,I.base,I.loc,I.cell,I.free,I.eQ,I.pin,I.bR,I.len⟩
theorem Inv.uz(J:X.Ok)(I:Inv (H9 X ea) pins Z H s):Inv X pins Z H s :=
 ⟨J,I.os,I.bare,I.base,I.loc,I.cell,I.free,I.eQ,I.pin,I.bR,I.len⟩
theorem SP.sG{xe:Value->Shared->Prop}{D:Ends}{f:Flow}(h:SP (W8 X pins xe) [] D f s):SP X pins D f s:=by
 cases f with
 |next=>obtain⟨a,b,I,q⟩:=h;exact⟨a,b,I.sG,q⟩
 |brk=>obtain⟨a,b,I,q⟩:=h;exact⟨a,b,I.sG,q⟩
 |cont=>obtain⟨a,b,I,q⟩:=h;exact⟨a,b,I.sG,q⟩
 |ret u=>obtain⟨v,a,b,I,r,q⟩:=h;exact⟨v,a,b,I.sG,r,q⟩
theorem SP.uz{ea:Addr}{D:Ends}{f:Flow}(J:X.Ok)(h:SP (H9 X ea) pins D f s):SP X pins D f s:=by
 cases f with
 |next=>obtain⟨a,b,I,q⟩:=h;exact⟨a,b,I.uz J,q⟩
 |brk=>obtain⟨a,b,I,q⟩:=h;exact⟨a,b,I.uz J,q⟩
 |cont=>obtain⟨a,b,I,q⟩:=h;exact⟨a,b,I.uz J,q⟩
 |ret u=>obtain⟨v,a,b,I,r,q⟩:=h;exact⟨v,a,b,I.uz J,r,q⟩
def sy(X:Cx)(D:Ends)(C:Addr)(H:Hp):List ExceptHandler->Prop
 |.ExceptHandler (some (.Name x _)) none (wW::pI) _::rest=>Gl X x/\(x==("__debug__":Str))=false/\∃C' b,X.mg x=some (.ref C')/\PySem.W.exmOne X.K (.ref C) (.ref C')=some b /\
   (if b=true then ∃t:TS,(∀ea,ju (H9 X ea) (wW::pI) t)/\t D (List.replicate X.N.length none) H else sy X D C H rest)
 |[]=>∃Ξ:XK,xn X Ξ/\Ξ (.ref C) none H
 |_=>False
end
section
variable{pins:List (Addr×Obj)}{e:Value}{D:Ends}
def uo(X:Cx)(pins:List (Addr×Obj))(D:Ends)(hs:List ExceptHandler):Value->Shared->Prop:=λe cj =>
 wpAny (model X.prog X.w) X.A (noteFrame e X.env) (λ_ gP=>wpAny (model X.prog X.w) X.A (setFlight e none) (λ_ fo=>wpAny (model X.prog X.w) X.A (handleBy e X.env hs) (SP X pins D) X.xe fo) X.xe gP) X.xe cj
theorem Lies.step{h1:Heap}(I:Inv X pins Z H s)(l:Lies X H H' s B ea C a0 s')(st:B.StaysIn h1)(us:s'.heap.UpToSlots h1):Lies X H H' s B ea C a0 { s' with heap:=h1 }:=by
 have J:=l.inv I;obtain⟨u,ok,ib⟩:=a69 l.un l.bR l.tm st us λb hb=>⟨J.zl b hb,zq J hb⟩
 exact⟨l.os,l.bare,u,ok,ib⟩
theorem aL5{l:List Env}{L:Addr}{cls:Value}{A:Around}{M:Model}{E:Value->Shared->Prop}{Q:Unit->Shared->Prop}(fw:Heap.FlyingW B l ea cls a0 s.heap)(h:∀h',Heap.HeldW B l ea cls a0 L h'->(∀b o,s.heap.get? b=some o->(∀vs,o.data≠.fields vs)->h'.get? b=some o)->Q Unit.unit { s with heap:=h' }):wpAny M A (setFlight (.ref ea) (some L)) Q E s:=by
 obtain⟨f1,f2,f3,oe,vs,T,oT,ts,he,oQ,hd,h1,Ha,Hz,hT,yu,h3⟩:=fw;have vA:3<ts.size:=(Array.getElem?_eq_some_iff.mp h3).1;have other:∀b,b≠T->(s.heap.update T (Obj.mapFields (·.setIfInBounds 3 ((some L).elim Value.none λf=>rawInt f)))).get? b=s.heap.get? b :=
  λb hb=>dh _ _ (cb hb)
 have kB:∀b o,s.heap.get? b=some o->(∀vs,o.data≠.fields vs)->b≠T:=λb o hb vE q=>by
  rw[q,hT] at hb;injection hb with hb;subst hb;exact vE ts yu
 unfold setFlight;refine ag (kS he hd h1 ?_);rw[aJ (show(Value.ref T != Value.none)=true from by simp)];refine dQ hT yu vA (h _ ⟨λb o BE=>(other b λq=>by rw [q,Ha] at BE;cases BE).trans (f1 b o BE),f2,
  f3.of_keeps λb o hb vE=>⟨o,(other b (kB b o hb vE)).trans hb,rfl⟩,?_⟩ λb o hb vE=>(other b (kB b o hb vE)).trans hb)
 exact⟨oe,vs,T,_,_,(other ea (cb Hz)).trans he,oQ,hd,h1,Ha,Hz,bw _ hT (dy (bC yu _)),bC yu _,by simp[vA]⟩
theorem Jn{B:Heap}{ea C:Addr}{a0:Value}(hf:X.env.frame=some X.env.locals):∀(hs:List ExceptHandler) (s':Shared),Inv X pins Z H s->Lies X H H' s B ea C a0 s'->Heap.FlyingW B X.stack ea (.ref C) a0 s'.heap->sy X D C H' hs ->
  wpAny (model X.prog X.w) X.A (handleBy (.ref ea) X.env hs) (SP X pins D) X.xe s'
 |[],s',I,l,fw,t=>by
  obtain⟨Ξ,hh,hE⟩:=t;refine wpAny_handleBy_nil ?_;unfold PySem.passOn;obtain⟨f1,f2,f3,oe,vs,T,oT,ts,he,oQ,hd,h1,_⟩:=id fw;refine ag (kS he hd h1 ?_);rw[aF (by simp),hf];refine ag (aL5 fw λh2 held k=>wpAny_throw ?_);have l2:=l.step I held.1 (λb o hb hn=>⟨o.slots,k b o hb hn⟩);exact hh pins Z H H' s _ B ea C a0 I l2 held hE
 |.ExceptHandler none _ _ _::_,_,_,_,_,t=>t.elim
 |.ExceptHandler (some e) nm bd pos::rest,s',I,l,fw,t=>by
  cases e
  case Name x np =>
   cases nm with
   |some y=>exact t.elim
   |none =>
    cases bd with
    |nil=>exact t.elim
    |cons wW pI =>
     obtain⟨hg,ig,C',b,hm,hx,q⟩:=t;have J:=l.inv I;have JM:Inv (H9 X ea) pins Z H' s':=J.KC;have LT:PySem.W.Looks (model X.prog X.w) s'.heap (typeOf (.ref ea)) (.ref C):=λA Q E s2 k q=>by
      obtain⟨ob,ho,hc⟩:=fw.there;exact wpAny_typeOf_ref (k _ _ ho) (by rw[hc];exact q)
     refine wpAny_handleBy_cons (codeAny_handlers_test ?_) (by intro z;cases z);refine P6 (X:=H9 X ea) JM hg hm ?_ ig;refine(PySem.W.exm_one (M:=model X.prog X.w) J.hU LT hx).here ?_;cases b with
     |false =>
      simp only[Bool.false_eq_true,if_false] at q;exact Jn hf rest s' I l fw q
     |true =>
      simp only[if_true] at q;obtain⟨t,ht,hq⟩:=q;refine codeAny_handlers_suite ?_;refine wpAny_setFlight_noneW fw.1 fw.2.2.1 fw.2.2.2.at λh2 k1 k2 k3 k4=>?_;have l2:=l.step I k1 (λb o hb hn=>⟨o.slots,k4 b o hb hn⟩);have J2:=l2.inv I;have J3:Inv (H9 X ea) pins (List.replicate X.N.length none) H' { s' with heap:=h2 }:=(J2.weak (by rw [jf,J2.len]) λi v z=>by
       rw [dC] at z;split at z <;> cases z).KC
      refine bB (ht ea pins _ _ H' D J3 hq) (λf s2 hf=>hf.uz I.ok) λ_ _ z=>z.elim
  all_goals exact t.elim
theorem Vl{hs:List ExceptHandler}{Ξ:XK}(ei:X.stack=X.env::X.outer)(hf:X.env.frame=some X.env.locals)(hT:∀C H',Ξ (.ref C) none H'->sy X D C H' hs) :
  Passes (js X.prog X.w) (W8 X pins (uo X pins D hs)) Ξ:=by
 intro jj Z H s e s' I0 h;have I:Inv X pins Z H s:=I0.sG;obtain⟨C,H',ho,hb,hu,bR,⟨ea,a0,B,rfl,fw,hB⟩,hE⟩:=h;have l:Lies X H H' s B ea C a0 s':=⟨ho,hb,hu,bR,hB⟩
 have fw:Heap.FlyingW B X.stack ea (.ref C) a0 s'.heap:=fw;show uo X pins D hs (.ref ea) s';unfold uo;have yE:=fw;rw[ei] at yE;refine wpAny_looks_onW (by rw[I.ok.frames,ei]) hf yE λh1 held us=>?_;have l1:=l.step I held.1 us;refine wpAny_landsW held λh2 fl Nm=>?_;have l2:=l1.step I fl.1 Nm;rw[<- ei] at fl;exact Jn hf hs _ I l2 fl (hT C H' hE)
theorem Ru{hs:List ExceptHandler}{h₀:ExceptHandler}{body:List Stmt}{t:Ends->TS}{Ξ:Ends->XK}(ei:X.stack=X.env::X.outer)(hf:X.env.frame=some X.env.locals)(hb:∀pins D,(∀C H',Ξ D (.ref C) none H'->sy X D C H' (h₀::hs))->ju (W8 X pins (uo X pins D (h₀::hs))) body (t D)) :
  PS X (.Try body (h₀::hs) [] [] pos) (λD Z H=>(∀C H',Ξ D (.ref C) none H'->sy X D C H' (h₀::hs))/\t D D Z H):=by
 intro pins s Z H D I ⟨hT,h⟩;refine wpAny_Try_except (bB (hb pins D hT [] s Z H D I.YN h) (λf s1 q=>?_) λe s1 q=>q);have q:=q.sG;cases f with
 |next =>
  obtain⟨bY,H',I',q⟩:=q;exact cI (ke ⟨bY,H',I',q⟩) λ_ _ z=>z
 |brk=>exact q
 |cont=>exact q
 |ret u=>exact q
end
def FI(K:PySem.W.Frag)(a:Addr):It :=
 ⟨λi H=>∃xs x,fM K H a xs/\xs[i]?=some x,λi H v H'=>∃p x,H p=none/\v=.ref p/\(∀xs,fM K H a xs->xs[i]?=some x)/\H'=upd H p (.tup [.int i,x]),λi H=>∃xs,fM K H a xs/\xs.length<=i⟩
theorem aX6{P:Program}{K:PySem.W.Frag}{elts:List Expr}{x1:Nat}{tp:Pos}(a e it:Addr)(Ht:e≠it):Turn P w K (.Tuple elts x1 tp) (FI K a) [e,it] e (λi h=>(∃old,IsEnum h e it i old)/\h.IsListIter it a i) where
 mem:=by simp
 obj:=λi h st b hb=>by
  obtain⟨⟨old,h1⟩,o,h2,c,d⟩:=st;rcases aH.mp hb with z|z
  ·subst z;exact ⟨_,h1,λv z=>by
    have z':Data.fields _=Data.cell v:=z;cases z'⟩
  ·have z:b=it:=by simpa using z
   subst z;exact⟨o,h2,λv z=>by rw[d] at z;cases z⟩
 keep:=λi h h' st k=>by
  obtain⟨⟨old,h1⟩,h2⟩:=st;exact⟨⟨old,k e (by simp) _ h1⟩,h2.at λo x=>k it (by simp) o x⟩
 item:=by
  intro X hP hw hK hc i pins s Z H E I hf st hg;subst hP hw hK;obtain⟨⟨old,h1⟩,h2⟩:=st;obtain⟨xs,x,hq,hx⟩:=hg;obtain⟨bf,rv,p,hz⟩:=I.list hq;obtain⟨u,hu,ru⟩:=rv.get hx;obtain⟨e0,e1,e2,e3,e4,e5⟩:=hf e (by simp);obtain⟨f0,f1,f2,f3,f4,f5⟩:=hf it (by simp);refine wpAny_pyNext_enum_item h1 h2 p.isList (x:=u) (by simpa using hu) Ht λh' pT Bu vz GL lz=>?_;refine⟨_,rfl,wpAny_letOwnedTupleGo_enum pT λwu OP iR=>?_⟩;have iR:Heap.SameBut e h' wu:=iR;have elt:e<s.heap.objs.size:=aE h1;have kp:∀b o,b≠e->b≠it->s.heap.get? b=some o->wu.get? b=some o:=λb o b1 b2 q=>(iR.2 b b1).trans (lz b o b1 b2 q);have hn:H s.heap.objs.size=none:=I.bR.fresh (ay _);have As:wu.get? s.heap.objs.size=some { cls:=.type "tuple",data:=.seq #[.int i s.toks,u] }:=(iR.2 _ (cc elt)).trans vz;have ne:∀b u',H b=some u'->b≠e/\b≠it:=λb u' q=>And.intro (λ(z:b=e)=>by rw[z,e0] at q;cases q) (λ(z:b=it)=>by rw[z,f0] at q;cases q);have bR:gH X.prog X.w (upd H s.heap.objs.size (.tup [.int i,x])) wu:=λb o q=>by
   by_cases hb:b=s.heap.objs.size
   ·subst hb;rw[v7] at q;cases q;exact⟨by show 2<=sizeLine;decide,[.int i s.toks,u],.cons ⟨_,rfl⟩ (.cons ru .nil),_,As,rfl,⟨_,rfl⟩,rfl⟩
   ·rw[f6 hb] at q;refine(I.bR b o q).Y2 (λc v hc q'=>?_) (λc q'=>by rw[f6 (m9 q' hn)];exact q') λc ys q'=>by rw[f6 (m9 q' hn)];exact q'
    rcases hc with z|z
    ·subst z;exact kp _ _ (ne _ _ q).1 (ne _ _ q).2 q'
    ·exact kp _ _ (ne _ _ z).1 (ne _ _ z).2 q'
  have I2:Inv X pins Z (upd H s.heap.objs.size (.tup [.int i,x])) { s with heap:=wu,toks:=s.toks+1 }:=by
   refine I.step (g':=s.gens) (d':=s.drawn) (t':=s.toks+1) (ch:=[e,it]) (λb hb=>?_) (λb o _ _ hb q _=>kp b o (λz=>hb (by simp[z])) (λz=>hb (by simp[z])) q) (λb o _ _ hb q _=>⟨o.slots,kp b o (λz=>hb (by simp[z])) (λz=>hb (by simp[z])) q⟩)
    (λb o _ q n=>by rw[f6 (aP (aE q))];exact n) (λb o hb q=>⟨o,kp b o (λz=>hb (by simp[z])) (λz=>hb (by simp[z])) q⟩)
    (λb ys q=>by rw[f6 (m9 q hn)];exact q) (λb o' ys q=>by rw[f6 (m9 q hn)];exact q) (λb ps q=>⟨#[],by rw[f6 (m9 q hn),q];simp⟩) (λm hm=>?_) bR I.bare
   ·rcases aH.mp hb with z|z
    ·subst z;exact⟨e3,e1,e4,e5⟩
    ·have z:b=it:=by simpa using z
     subst z;exact⟨f3,f1,f4,f5⟩
   ·obtain⟨o,es,ep,ho,r⟩:=hm;exact⟨o,es,ep,kp _ o (cb e1) (cb f1) ho,r⟩
  refine⟨.ref s.heap.objs.size,_,I2,rfl,⟨s.heap.objs.size,x,hn,rfl,λys hy=>by rw[I.DI hy hq];exact hx,rfl⟩,⟨⟨u,by simpa using OP⟩,Bu.at λo y=>(iR.2 it Ht.symm).trans y⟩,λb hb=>?_⟩;have jY:b<s.heap.objs.size:=by
   rcases aH.mp hb with z|z
   ·subst z;exact elt
   ·have z:b=it:=by simpa using z
    subst z;obtain⟨o,h2,_⟩:=h2;exact aE h2
  rw[f6 (aP jY)];exact(hf b hb).1
 done:=by
  intro X hP hw hK hc i pins s Z H E I hf st hg;subst hP hw hK;obtain⟨⟨old,h1⟩,h2⟩:=st;obtain⟨xs,hq,hx⟩:=hg;obtain⟨bf,rv,p,hz⟩:=I.list hq;obtain⟨f0,f1,f2,f3,f4,f5⟩:=hf it (by simp);have hl:=rv.length;exact wpAny_pyNext_enum_end (I.ok.hd hc) h1 h2 p.isList (by simp;omega) λh' eb=>⟨rfl,I.turned (t':=s.toks) (λb o hb e=>eb b o hb e) f0 f1 f3 f4 f5⟩
 self:=λ_ _ _ _ _ st h=>by
  obtain⟨⟨old,h1⟩,h2⟩:=st;exact wpAny_pyIter_enum h1 h
theorem TL{l:Expr}{tp:Pos}{elts:List Expr}{x1:Nat}(hg:Gl X "enumerate")(hm:X.mg "enumerate"=none)(ha:PA X [l] ta)(hs:starEach [l] X.env=[(false,eval l X.env)]) :
  PI X (.Tuple elts x1 tp) (.Call (.Name "enumerate" p) [l] [] pos) (λZ H R=>ta Z H λvs H1=>∃a,vs=[.ref a]/\(∃xs,fM X.K H1 a xs)/\R (FI X.K a) H1):=by
 intro pins s Z H R I h;refine Call_ (O2 I hg hm PyProof.Rows.boot_enumerate (bQ (cI (ha pos pins s Z H _ I h) λus s1 bq=>?_) hs rfl));obtain⟨vs,H1,I1,r1,q1⟩:=bq;obtain⟨a,e,⟨xs,hq⟩,q⟩:=q1;subst e;cases r1 with
 |cons r rr =>
  cases rr;cases r;obtain⟨bf,rv,p,hz⟩:=I1.list hq;refine call_enumerate_list p.isList λh' he hit hsz hk=>wpAny_pyIter_enum he ?_;refine⟨s1.heap.objs.size+1,[s1.heap.objs.size+1,s1.heap.objs.size],_,_,H1,rfl,I1.kept (t':=s1.toks) hk,aX6 a _ _ (by simp),⟨⟨_,he⟩,hit⟩,λb hb=>?_,q⟩;have jY:s1.heap.objs.size<=b:=by
   rcases aH.mp hb with z|z
   ·rw[z];exact gZ _
   ·have z:b=s1.heap.objs.size:=by simpa using z
    rw[z];exact ay _
  exact I1.qf jY (I1.bR.fresh jY)
theorem Yl{e:Expr}{t:TE}(he:PE X e t):PE X (.FormattedValue e (-1) none pos) (λZ H Q=>t Z H λx H1=>(∃i,x=.int i/\i.natAbs.log2<1920/\Q (.str (toString i)) H1)\/∃y,x=.str y/\y.length<=sizeLine/\Q (.str y) H1):=by
 intro pins s Z H Q I h;refine wpAny_FormattedValue_plain (cI (he pins s Z H _ I h) λv s1 bq=>?_);obtain⟨x,H1,I1,r1,q1⟩:=bq;rcases q1 with⟨i,rfl,hd,q⟩|⟨y,rfl,hy,q⟩
 ·obtain⟨t,rfl⟩:=r1;exact wpAny_formatField_int hd ⟨.str _,H1,I1.tok _,⟨_,rfl⟩,q⟩
 ·obtain⟨t,rfl⟩:=r1;exact wpAny_formatField_str ⟨.str _,H1,I1,⟨_,rfl⟩,q⟩ ⟨.str _,H1,I1.tok _,⟨_,rfl⟩,q⟩ hy
inductive uB(X:Cx):List Expr->List TE->Prop
 |nil:uB X [] []
 |cons {e:Expr} {t:TE} {es:List Expr} {ts:List TE} (h:PE X e t) (r:uB X es ts):uB X (e::es) (t::ts)
def zV:List TE->St->Hp->Str->(Str->Hp->Prop)->Prop
 |[],_,H,acc,Q=>Q acc H
 |t::ts,Z,H,acc,Q=>t Z H λx H1=>∃y,x=.str y/\(acc++y).length<=sizeLine/\zV ts Z H1 (acc++y) Q
theorem LU{pins:List (Addr×Obj)}{Z:St}{Q:Str->Hp->Prop}:∀{es:List Expr} {ts:List TE},uB X es ts->∀{s:Shared} {H:Hp} {acc:Str},Inv X pins Z H s->zV ts Z H acc Q ->
  Joins (model X.prog X.w) X.A X.xe (evalEach es X.env) acc (λout s1=>∃H1,Inv X pins Z H1 s1/\Q out H1) s
 |_,_,.nil,s,H,acc,I,h=>⟨H,I,h⟩
 |_,_,.cons he r,s,H,acc,I,h=>by
  rw[arm_evalEach_cons];refine cI (he pins s Z H _ I h) λv s1 bq=>?_;obtain⟨x,H1,I1,r1,y,ey,hy,q1⟩:=bq;subst ey;obtain⟨t,rfl⟩:=r1;exact⟨y,t,rfl,hy,LU r I1 q1⟩
theorem JC{M:Model}{A:Around}{E:Value->Shared->Prop}{Q Q':Str->Shared->Prop}(hq:∀x s,Q x s->Q' x s):∀{l:List (Sem Value)} {acc:Str} {s:Shared},Joins M A E l acc Q s->Joins M A E l acc Q' s
 |[],acc,s,h=>hq _ _ h
 |x::r,acc,s,h=>cI h λv s1 ⟨y,t,e,hz,h1⟩=>⟨y,t,e,hz,JC hq h1⟩
theorem TH{lX lW:Expr}{rest:List Expr}{ts:List TE}(h:uB X (lX::lW::rest) ts):PE X (.JoinedStr (lX::lW::rest) pos) (λZ H Q=>zV ts Z H Str.empty λout H1=>out.length<=sizeLine/\Q (.str out) H1):=by
 intro pins s Z H Q I hw;refine wpAny_JoinedStr (JC (λx s1 ⟨H1,I1,hl,q⟩=>⟨hl,.str x,H1,I1.tok _,⟨_,rfl⟩,q⟩) (LU h I hw))
theorem aU7{lo:Int}{acc:Array Value}{n:Nat}(h:ItemsOf (λi v=>∃t,v=.int (lo+i*1) t) acc n):Vals ((List.range n).map λ(k:Nat)=>V.int (lo+k)) acc.toList:=by
 have hl:acc.toList.length=n:=by
  have:=h.1;simpa using this
 have go:∀(m:Nat) (l:List Value),l.length<=n->m+l.length=n->(∀i v,l[i]?=some v->∃t,v=Value.int (lo+((m+i:Nat):Int)) t)->Vals ((List.range' m l.length).map λ(k:Nat)=>V.int (lo+k)) l:=by
  intro m l
  induction l generalizing m with
  |nil=>intro _ _ _;exact .nil
  |cons x r ih =>
   intro h1 h2 h3;simp only[List.length_cons,List.range'_succ,List.map_cons];refine .cons ?_ (ih (m+1) (by simp at h1;omega) (by simp at h2;omega) λi v hv=>?_)
   ·obtain⟨t,e⟩:=h3 0 x rfl;exact⟨t,by rw[e];simp⟩
   ·obtain⟨t,e⟩:=h3 (i+1) v (by simpa using hv);exact⟨t,by rw[e,show m+(i+1)=m+1+i by omega]⟩
 have:=go 0 acc.toList () () λi v hv=>?_
 ·rw[hl,<- List.range_eq_range'] at this;exact this
 ·have hi:i<n:=by
   have:=(aj.mp hv).1;omega
  have:acc[i]?=some v:=by rw[<- jg];exact hv
  obtain⟨t,e⟩:=h.2 i v this;refine⟨t,?_⟩;rw[e];simp
theorem Km(hc:X.calm=true):m8 X (.type "list") (λxs H Q=>∃a lo hi,xs=[.ref a]/\H a=some (.mJ lo hi)/\(-(2 ^ 62)<=lo/\lo<2 ^ 62/\-(2 ^ 62)<=hi/\hi<2 ^ 62/\hi-lo<=100000)/\∀p,H p=none->Q (.ref p) (upd H p (.lst ((List.range (hi-lo).toNat).map λ(k:Nat)=>V.int (lo+k))))):=by
 intro pins s Z H xs us Q I r h;obtain⟨a,lo,hi,rfl,ha,⟨h1,h2,h3,h4,h5⟩,q⟩:=h;obtain⟨t,u,v,ho⟩:=I.bR a _ ha;cases r with
 |cons r rr =>
 cases rr;cases r;have hn:Builtin.Range.rangeSize lo hi 1=((hi-lo).toNat:Nat):=by rw[rangeSize_one];split<;>omega
 refine call_list_range (n:=(hi-lo).toNat) (I.ok.hd hc) ho (small_one h1 h2 h3 h4) hn () λh' nc acc c hk hS iW=>?_;have hp:H s.heap.objs.size=none:=I.bR.fresh (ay _);refine⟨.ref _,_,I.laid (a:=s.heap.objs.size) (o:=.lst ((List.range (hi-lo).toNat).map λ(k:Nat)=>V.int (lo+k))) (t':=nc) hk (ay _) ⟨?_,acc.toList,c,aU7 iW,by simpa using hS⟩,rfl,q _ hp⟩;rw[ae,hJ];have:(hi-lo).toNat<=100000:=by omega
 exact aB this ∅
theorem a11{a:Expr}(hg:Gl X "range")(hm:X.mg "range"=none)(ha:PA X [a] ta)(hs:starEach [a] X.env=[(false,eval a X.env)]):PE X (.Call (.Name "range" p) [a] [] pos) (λZ H Q=>ta Z H λvs H1=>∃j:Int,vs=[.int j]/\∀q,H1 q=none->Q (.ref q) (upd H1 q (.mJ 0 j))):=by
 intro pins s Z H Q I h;refine cP (O2 I hg hm boot_range (bQ (cI (ha pos pins s Z H _ I h) λus s1 bq=>?_) hs rfl));obtain⟨vs,H1,I1,r1,q1⟩:=bq;obtain⟨j,e,q⟩:=q1;subst e;cases r1 with
 |cons r rr =>
  cases rr;obtain⟨t,rfl⟩:=r;exact call_range_1 ⟨.ref s1.heap.objs.size,_,I1.laid (a:=s1.heap.objs.size) (o:=.mJ 0 j) (λb o e=>aw _ e) (ay _) ⟨_,_,_,aG _ rfl⟩,rfl,q _ (I1.bR.fresh (ay _))⟩
theorem a10{a b:Expr}(hg:Gl X "range")(hm:X.mg "range"=none)(ha:PA X [a,b] ta)(hs:starEach [a,b] X.env=[(false,eval a X.env),(false,eval b X.env)])(iR:starEach [b] X.env=[(false,eval b X.env)]):PE X (.Call (.Name "range" p) [a,b] [] pos) (λZ H Q=>ta Z H λvs H1=>∃i j:Int,vs=[.int i,.int j]/\∀q,H1 q=none->Q (.ref q) (upd H1 q (.mJ i j))):=by
 intro pins s Z H Q I h;refine cP (O2 I hg hm boot_range (bQ (cI (ha pos pins s Z H _ I h) λus s1 bq=>?_) (by rw[hs,iR]) (by rw[iR];rfl)));obtain⟨vs,H1,I1,r1,q1⟩:=bq;obtain⟨i,j,e,q⟩:=q1;subst e;cases r1 with
 |cons r rr =>
  cases rr with
  |cons r' rr =>
   cases rr;obtain⟨t,rfl⟩:=r;obtain⟨t',rfl⟩:=r';exact call_range_2 ⟨.ref s1.heap.objs.size,_,I1.laid (a:=s1.heap.objs.size) (o:=.mJ i j) (λb o e=>aw _ e) (ay _) ⟨_,_,_,aG _ rfl⟩,rfl,q _ (I1.bR.fresh (ay _))⟩
def wY(K:PySem.W.Frag)(P:Params)(a:Addr)(kvs:List (Str×V)):Prop :=
 ∃es n,K.lookup a=some ⟨.type "dict",none,.dict es n,#[]⟩/\PySem.W.KeysLit P es.toList/\(a==sysModules)=false/\∀x,K1 (kvs.lookup x) (findBy Value.isStrOf es x)
theorem MF{kvs:List (Str×V)}(neg:Bool):gi X (compareOp (if neg then .NotIn else .In)) (λx y H Q=>∃a z,y=.ref a/\wY X.K X.w.params a kvs/\x=.str z/\Q (.bl (xor neg (kvs.lookup z).isSome)) H):=by
 intro pins s Z H x y v u Q I rx ry h;obtain⟨a,z,rfl,⟨es,n,hl,hk,lo,hf⟩,rfl,q⟩:=h;obtain⟨t,rfl⟩:=rx;cases ry;have hm:=PySem.W.mapOf_K (prog:=X.prog) (w:=X.w) I.hU hl hk;have e:=hf z;have ee:(findBy Value.isStrOf es z).isSome=(kvs.lookup z).isSome:=by
  cases h1:kvs.lookup z<;>cases h2:findBy Value.isStrOf es z<;>rw[h1,h2] at e<;>first|rfl|exact e.elim
 cases neg
 ·exact wpAny_in_of (strKind_is X.prog X.w z t) lo hm ⟨.bl _,H,I.tok _,by rw[ee];rfl,by simpa using q⟩
 ·exact wpAny_notIn_of (strKind_is X.prog X.w z t) lo hm ⟨.bl _,H,I.tok _,by rw[ee];rfl,by simpa using q⟩
theorem XH{kvs:List (Str×V)}:sN X (λx y H Q=>∃a z v,x=.ref a/\wY X.K X.w.params a kvs/\y=.str z/\kvs.lookup z=some v/\Q v H):=by
 intro value slice pins s Z H x y v u Q I rx ry h hs;obtain⟨a,z,d,rfl,⟨es,n,hl,hk,lo,hf⟩,rfl,hz,q⟩:=h;cases rx;obtain⟨t,rfl⟩:=ry;have hm:=PySem.W.mapOf_K (prog:=X.prog) (w:=X.w) I.hU hl hk;have e:=hf z;rw[hz] at e;cases h2:findBy Value.isStrOf es z with
 |none=>rw[h2] at e;exact e.elim
 |some r =>
  rw[h2] at e;exact tail_any hm.typeIs slot_dict_getitem.lookup (wpAny_getItem_of (strKind_is X.prog X.w z t) hm h2 ⟨d,H,I.tok _,e,q⟩) hs
theorem Ta(hu:X.A.units+1<cLine):sN X (λx y H Q=>∃a v,x=.ref a/\T1 H a y (some v)/\Q v H):=by
 intro value slice pins s Z H x y v u Q I rx ry h hs;obtain⟨a,d,rfl,g,q⟩:=h;cases rx;exact tail_any (aL7 I g) slot_dict_getitem.lookup (a47 hu I g ry λw' s3 I3 gw=>⟨d,H,I3,gw,q⟩) hs
end L2
namespace ST
open PySem PyProof.Rows
variable{xs:Array Nat}{i k j n ep:Nat}{t:SetTable}{h h':Heap}{L:Bool}{es:Array (Int×Value)}{x f:Value}{prog:Program}{w:World}{a I b l:Addr}{ks ns:List Int}{A:Around}{E Q:Value->Shared->Prop}{s:Shared}{pl:List Nat}{α:Type}{r:Rd}{items:Array Value}
noncomputable abbrev kR(xs:Array Nat):Prop:=xs.toList.Pairwise (· < ·)
theorem kR.lt(h:kR xs)(vN:i<k)(hk:k<xs.size):xs.getD i 0<xs.getD k 0:=by
 have:=eL.mp h i k (by simpa using cX vN hk) (by simpa using hk) vN;simp only[Array.getElem_toList] at this;rw[<- dY (h:=cX vN hk),<- dY (h:=hk)];exact this
theorem kR.le(h:kR xs)(vN:i<=k)(hk:k<xs.size):xs.getD i 0<=xs.getD k 0:=by
 rcases Nat.eq_or_lt_of_le vN with e|e
 ·rw[e];exact ay _
 ·exact eI (h.lt e hk)
theorem Dr{xs:Array Nat}{j:Nat}(h:kR xs):∀(fuel lo hi:Nat),hi-lo<=fuel->lo<=hi->hi<=xs.size->(∀i,i<lo->xs.getD i 0<j)->(∀i,hi<=i->i<xs.size->j<=xs.getD i 0) ->
  SetTable.below.go xs j fuel lo hi<=xs.size/\(∀i,i<SetTable.below.go xs j fuel lo hi->xs.getD i 0<j)/\∀i,SetTable.below.go xs j fuel lo hi<=i->i<xs.size->j<=xs.getD i 0
 |0,lo,hi,h1,h2,h3,h4,h5=>by
  unfold SetTable.below.go;have:lo=hi:=by omega
  subst this;exact⟨h3,h4,h5⟩
 |fuel+1,lo,hi,h1,h2,h3,h4,h5=>by
  unfold SetTable.below.go;split
  ·rename_i hl;have hm:(lo+hi) / 2<xs.size:=by omega
   have em:xs.getD ((lo+hi) / 2) j=xs.getD ((lo+hi) / 2) 0:=by simp[Array.getD,hm]
   dsimp only;rw[em];by_cases hc:xs.getD ((lo+hi) / 2) 0<j
   ·rw[aJ hc];exact Dr h fuel _ hi () () h3 (λi iW=>fg (h.le () hm) hc) h5
   ·rw[aF hc];exact Dr h fuel lo _ () () () h4 λi iW hs=>aB (lR hc) (h.le iW hs)
  ·have:lo=hi:=by omega
   subst this;exact⟨h3,h4,h5⟩
theorem U1(j:Nat)(h:kR xs):SetTable.below xs j<=xs.size/\(∀i,i<SetTable.below xs j->xs.getD i 0<j)/\∀i,SetTable.below xs j<=i->i<xs.size->j<=xs.getD i 0 :=
 Dr h _ 0 _ () () (ay _) (λi hi=>absurd hi (Nat.not_lt_zero _)) λi h1 h2=>absurd h2 ()
theorem below_at(h:kR xs)(hi:i<xs.size):SetTable.below xs (xs.getD i 0)=i:=by
 obtain⟨h1,h2,h3⟩:=U1 (xs.getD i 0) h;rcases dn (SetTable.below xs (xs.getD i 0)) i with z|z|z
 ·exact absurd (h3 _ (ay _) ()) (Nat.not_le_of_lt (h.lt z hi))
 ·exact z
 ·exact absurd (h2 i z) (bA _)
theorem aW1(h:kR xs)(hi:i<xs.size):SetTable.below xs (xs.getD i 0+1)=i+1:=by
 obtain⟨h1,h2,h3⟩:=U1 (xs.getD i 0+1) h;rcases dn (SetTable.below xs (xs.getD i 0+1)) (i+1) with z|z|z
 ·have:=h3 i () hi;omega
 ·exact z
 ·have:=h2 (i+1) z;have:=h.lt (fO i) (k:=i+1) ();omega
theorem aW0(h:kR xs):SetTable.below xs 0=0:=by
 obtain⟨_,h2,_⟩:=U1 0 h;rcases M' (SetTable.below xs 0) with z|z
 ·exact z
 ·exact absurd (h2 0 z) (Nat.not_lt_zero _)
theorem getD_mem(hi:i<xs.size):xs[i]?=some (xs.getD i 0):=by simp[Array.getD,hi]
theorem aS0(h:kR t.place)(hs:t.slot j=.empty):j∉t.place.toList:=by
 intro hm;obtain⟨i,hi,e⟩:=bK.mp hm;have iW:i<t.place.size:=by simpa using hi
 have ej:t.place.getD i 0=j:=by rw[<- dY (h:=iW)];simpa using e
 have hb:=below_at h iW;rw[ej] at hb;unfold SetTable.slot at hs;dsimp only at hs;rw[hb,getD_mem iW,ej] at hs;simp at hs
theorem aS5(h:kR xs)(hj:j∉xs.toList):kR (SetTable.insertAt xs (SetTable.below xs j) j):=by
 obtain⟨h1,h2,h3⟩:=U1 j h;show(SetTable.insertAt xs (SetTable.below xs j) j).toList.Pairwise (· < ·);rw[SetTable.toList_insertAt,Ae];have tk:∀a∈xs.toList.take (SetTable.below xs j),a<j:=λa ha=>by
  obtain⟨i,hi,e⟩:=bK.mp ha;rw[cZ] at hi;rw[List.getElem_take] at e;have hs:i<xs.size:=by simp at hi;omega
  have:=h2 i ();rw[<- dY (h:=hs)] at this;simp at e;omega
 have dp:∀b∈xs.toList.drop (SetTable.below xs j),j<b:=λb hb=>by
  obtain⟨i,hi,e⟩:=bK.mp hb;rw[lU] at hi;rw[List.getElem_drop] at e;have hs:SetTable.below xs j+i<xs.size:=by simp at hi;omega
  have:=h3 (SetTable.below xs j+i) () hs;rw[<- dY (h:=hs)] at this;have ft:b≠j:=λz=>hj (by rw[<- z];exact List.mem_of_mem_drop hb);simp at e;omega
 refine⟨h.take,dJ.mpr ⟨dp,h.drop⟩,λa ha b hb=>?_⟩;have mr:=tk a ha;rcases aH.mp hb with z|z
 ·omega
 ·have:=dp b z;omega
theorem aZ3(n:Nat):kR (Array.range n):=by
 show(Array.range n).toList.Pairwise (· < ·);rw[Array.toList_range];exact iH
structure Well(L:Bool)(t:SetTable):Prop where
 yg:kR t.place
 CC:t.dummies=#[]
 led:t.led=L
theorem Vi(hd:t.dummies=#[])(j:Nat):t.slot j≠.dummy:=by
 unfold SetTable.slot;dsimp only;split
 ·intro z;cases z
 ·rw[hd];split
  ·rename_i z;simp[SetTable.has] at z
  ·intro z;cases z
theorem Kf{t:SetTable}(hd:t.dummies=#[]){hashAt:Nat->Int}{h:Int}:∀(fuel:Nat) (p:SetTable.Probe) {j:Nat} {dm:Option Nat},p.dummy=none->SetTable.probe.go t hashAt h fuel p=some (.empty j dm)->t.slot j=.empty/\dm=none
 |0,p,j,dm,_,e=>by simp[SetTable.probe.go] at e
 |fuel+1,p,j,dm,hp,e=>by
  unfold SetTable.probe.go at e;have ad:∀q:SetTable.Probe,q.dummy=none->(t.advance q).dummy=none:=λq hq=>by
   unfold SetTable.advance;split
   ·exact hq
   ·exact hq
  split at e
  ·rename_i hs;cases e;exact⟨hs,hp⟩
  ·rename_i hs;exact absurd hs (Vi hd _)
  ·split at e
   ·cases e
   ·exact Kf hd fuel _ (ad p hp) e
theorem a42(hd:t.dummies=#[]){h:Int}{wd:Bool}(e:t.freeSlot h=some (j,wd)):t.slot j=.empty/\wd=false:=by
 unfold SetTable.freeSlot at e;split at e
 ·rename_i j' dm hp;obtain⟨h1,h2⟩:=Kf hd _ _ rfl hp;subst h2;cases e;exact⟨h1,rfl⟩
 ·cases e
theorem N8(h:Well L t)(n:Nat):Well L (t.standIn n):=⟨aZ3 n,rfl,h.led⟩
theorem aL3{h:Int}(hw:Well L t):Well L (layNew t es h x).2.1/\(layNew t es h x).2.2.1=false:=by
 unfold layNew;split
 ·rename_i slot wd e;obtain⟨h1,h2⟩:=a42 hw.CC e;refine⟨?_,h2⟩;have hd:SetTable.has t.dummies slot=false:=by rw[hw.CC];simp[SetTable.has]
  have w2:Well L (t.put slot).1:=⟨aS5 hw.yg (aS0 hw.yg h1),by simp only[SetTable.put,hd];exact hw.CC,hw.led⟩
  dsimp only;unfold SetTable.orStandIn;split
  ·exact w2
  ·exact N8 w2 _
 ·exact⟨N8 hw _,rfl⟩
theorem a30{mask finger moves:Nat}{led plain:Bool}{hashes:Array Int}{o:Array Nat}(hl:led=L)(e:SetTable.laid mask finger moves led plain hashes=some (t,o)):Well L t:=by
 unfold SetTable.laid at e;cases ho:SetTable.layClean mask hashes with
 |none=>rw[ho] at e;cases e
 |some owner =>
  rw[ho] at e;simp only[Option.bind_eq_bind,Option.bind_some,Option.pure_def,Option.some.injEq,Prod.mk.injEq] at e;obtain⟨rfl,_⟩:=e;refine⟨?_,rfl,hl⟩;show(List.map _ _).toArray.toList.Pairwise (· < ·);rw[List.toList_toArray];have sub:((List.range (mask+1)).filterMap λj=>(owner.getD j none).map (j,·)).map (·.1) |>.Sublist (List.range (mask+1)):=by
   generalize List.range (mask+1)=l
   induction l with
   |nil=>simp
   |cons a r ih =>
    rw[eO];cases owner.getD a none with
    |none=>exact ih.cons a
    |some k=>exact ih.cons_cons a
  exact List.Pairwise.sublist sub iH
theorem aA9(hw:Well L t):Well L (relayAll t es n).2.1:=by
 unfold relayAll;split
 ·rename_i t' order e;dsimp only;split
  ·exact a30 hw.led e
  ·exact N8 hw _
 ·exact N8 hw _
def toI:Value->Int
 |.int k _=>k
 |_=>0
def Led(w:World):Bool:=!(w.params.followText "set-order")
def B0(prog:Program)(w:World)(h:Heap)(a:Addr)(ks:List Int):Prop :=
 ∃o es ep t,h.get? a=some o/\o.ExactSet/\o.data=.set es ep t/\ElemsOf (intKind prog w) es.toList/\(es.toList.map λe=>toI e.2).Perm ks/\ks.Nodup/\es.size<scanBound/\t.fits es.size=true/\Well (Led w) t
theorem B0.at(x:B0 prog w h a ks)(k:∀o,h.get? a=some o->h'.get? a=some o):B0 prog w h' a ks:=by
 obtain⟨o,es,ep,t,e,r⟩:=x;exact⟨o,es,ep,t,k o e,r⟩
theorem zc{e:Int×Value}{es:List (Int×Value)}(h:ElemsOf (intKind prog w) es)(he:e∈es):∃tk,e.2=.int (toI e.2) tk/\e.1=(intKind prog w).hash (toI e.2):=by
 obtain⟨⟨k,h1,h2⟩,_⟩:=h e he;obtain⟨t,ht⟩:=ou (k:=k) (v:=e.2) h1;refine⟨t,by rw[ht];rfl,?_⟩;rw[h2,ht]
 rfl
theorem My{e:Int×Value}{es:List (Int×Value)}(h:ElemsOf (intKind prog w) es)(he:e∈es)(k:Int):(intKind prog w).is k e.2=decide (toI e.2=k):=by
 obtain⟨t,ht,_⟩:=zc h he;show Value.isInt k e.2=_;rw[ht];generalize toI e.2=m;show Value.isInt k (.int m t)=decide (m=k);by_cases z:m=k
 ·subst z;simp[Value.isInt]
 ·rw[av z];cases hv:Value.isInt k (.int m t) with
  |false=>rfl
  |true =>
   obtain⟨t',e'⟩:=ou hv;cases e';exact absurd rfl z
theorem B0.mem{a:Addr}{es:List (Int×Value)}(h:ElemsOf (intKind prog w) es)(hp:(es.map λe=>toI e.2).Perm ks)(k:Int):(es.findIdx? λe=>(intKind prog w).is k e.2).isSome=decide (k∈ks):=by
 rw[aU,dH,<- hp.mem_iff,aL,eV];constructor
 ·rintro⟨i,hi⟩;obtain⟨h1,h2,_⟩:=kL.mp hi;have hm:=cg h1;rw[My h hm] at h2;exact⟨_,hm,bJ h2⟩
 ·rintro⟨e,he,rfl⟩;cases hf:es.findIdx? λe'=>(intKind prog w).is (toI e.2) e'.2 with
  |some i=>exact⟨i,rfl⟩
  |none =>
   have:=List.findIdx?_eq_none_iff.mp hf e he;rw[My h he] at this;simp at this
def F7(ks:List Int)(k:Int):List Int:=if k∈ks then ks else ks++[k]
theorem UN(ks:List Int)(k:Int):(F7 ks k).length<=ks.length+1:=by unfold F7;split<;>simp
theorem Ir{k:Int}{tk:Tok}{Q:Bool->Shared->Prop}(hS:B0 prog w s.heap a ks)(hr:ks.length+1<scanBound)(h:∀h' b,Heap.SameBut a s.heap h'->B0 prog w h' a (F7 ks k)->Q b { s with heap:=h' }):wpAny (model prog w) A (setAddHashed a (.int k tk) ((intKind prog w).hash k)) Q E s:=by
 obtain⟨o,es,ep,t,ho,hx,hd,nD,hp,hn,hb,hf,hw⟩:=hS;have hlen:es.size=ks.length:=by rw[<- hp.length_eq];simp
 have kI:(intKind prog w).is k (.int k tk)=true:=eU _ _ _ _;have gv:∀(b:Bool) (s1:Shared) (Q':Unit->Shared->Prop),Q' Unit.unit s1->wpAny (model prog w) A (match b with|true=>rule "set.scan.the-table-gave-way"|false=>pure Unit.unit) Q' E s1:=λb s1 Q' q=>by
  cases b
  ·exact ax q
  ·exact Ab q
 unfold setAddHashed setAddHashedIn;refine cy (ag (cH ho hd hf ?_));dsimp only;rw[byScan_of rfl hb nD,aJ rfl];unfold setAddByScan;refine ag (ag (Ab (ag (wpAny_setScan_of kI ho hd hf nD ?_))));have hm:=B0.mem (a:=a) nD hp k;cases fK:es.toList.findIdx? (λe=>(intKind prog w).is k e.2) with
 |some j =>
  rw[fK] at hm;have hk:k∈ks:=by simpa using hm.symm
  refine ax (ax ?_);have e0:s={ s with heap:=s.heap }:=rfl;rw[e0];refine h s.heap _ (Heap.SameBut.refl a s.heap) ?_;unfold F7;rw[aJ hk];exact⟨o,es,ep,t,ho,hx,hd,nD,hp,hn,hb,hf,hw⟩
 |none =>
  rw[fK] at hm;have hk:k∉ks:=by simpa using hm.symm
  dsimp only;have p1:=layNew_perm t es ((intKind prog w).hash k) (.int k tk);have f1:=layNew_fits t es ((intKind prog w).hash k) (.int k tk);obtain⟨w1,Ao⟩:=aL3 (es:=es) (h:=(intKind prog w).hash k) (x:=.int k tk) hw;generalize layNew t es ((intKind prog w).hash k) (.int k tk)=R1 at p1 f1 w1 Ao ⊢;obtain⟨gY,t1,wd,Qf⟩:=R1;dsimp only at p1 f1 w1 Ao ⊢;subst Ao;rw[Array.toList_push] at p1;have HW:ElemsOf (intKind prog w) gY.toList:=(nD.push kI rfl).perm p1;have sz1:gY.size=es.size+1:=by rw[<- bD,p1.length_eq];simp
  have k1:(gY.toList.map λe=>toI e.2).Perm (F7 ks k):=by
   unfold F7;rw[aF hk];refine(p1.map _).trans ?_;rw[cC];exact hp.append_right _
  have n1:(F7 ks k).Nodup:=by
   unfold F7;rw[aF hk,cu];exact⟨hn,by simp,λx hx y hy=>by simp at hy;subst hy;exact λz=>hk (z▸hx)⟩
  refine ag (gv _ _ _ ?_);have fin:∀ (t2:SetTable),t2.fits gY.size=true->Well (Led w) t2->wpAny (model prog w) A (do
    storeSet a gY t2
    if(!false&&t2.tooFull)=true then do
      (match(relayAll t2 gY (SetTable.grown gY.size)).2.2 with|true=>rule "set.scan.the-table-gave-way"|false=>pure Unit.unit)
      storeSet a (relayAll t2 gY (SetTable.grown gY.size)).1 (relayAll t2 gY (SetTable.grown gY.size)).2.1
      pure (some true)
     else pure (some true)) (λr s'=>wpAny (model prog w) A (match r with | some added=>pure added | none=>setAddHashedIn a (.int k tk) ((intKind prog w).hash k) 99999) Q E s') E s:=λt2 f2 w2=>by
   have g1:(s.heap.update a (Obj.putSet gY t2)).get? a=some { o with data:=.set gY (ep+1) t2 }:=by
    have:=bw (Obj.putSet gY t2) ho (by rw[putSet_of gY t2 hd];rfl);rw[putSet_of gY t2 hd] at this;exact this
   refine ag (wpAny_storeSet_of ho hd ?_ (fits_of_scanBound ()));have Gi:=cx s.heap a (Obj.putSet gY t2);split
   ·have p2:=relayAll_perm t2 gY (SetTable.grown gY.size);have f3:=relayAll_fits t2 gY (SetTable.grown gY.size);have w3:=aA9 (es:=gY) (n:=SetTable.grown gY.size) w2;generalize relayAll t2 gY (SetTable.grown gY.size)=R2 at p2 f3 w3 ⊢;obtain⟨nN,t3,gv2⟩:=R2;dsimp only at p2 f3 w3 ⊢;have sz2:nN.size=gY.size:=by rw[<- bD,p2.length_eq,bD]
    refine ag (gv _ _ _ ?_);refine ag (wpAny_storeSet_of g1 rfl ?_ (fits_of_scanBound ()));refine ax (ax (h _ _ (Gi.trans (cx _ a _)) ?_));have g2:((s.heap.update a (Obj.putSet gY t2)).update a (Obj.putSet nN t3)).get? a=some { o with data:=.set nN (ep+1+1) t3 }:=by
     have:=bw (Obj.putSet nN t3) g1 (by rw[putSet_of nN t3 rfl];rfl);rw[putSet_of nN t3 rfl] at this;exact this
    exact⟨_,nN,_,t3,g2,hx,rfl,HW.perm p2,(p2.map _).trans k1,n1,by omega,f3,w3⟩
   ·exact ax (ax (h _ _ Gi ⟨_,gY,_,t2,g1,hx,rfl,HW,k1,n1,by omega,f1 |> λ_=>f2,w2⟩))
  split
  ·refine ag (fH (hashByValue_scannable 8 rfl) ?_);exact fin _ f1 w1
  ·refine ag (ax ?_);exact fin _ f1 w1
theorem aI2:entryFor table "set.__iter__"=some Builtin.«frozenset.__iter__» :=
 entryFor_alias (id':="frozenset.__iter__") (by kernel_rfl) rfl (by decide +kernel) (by kernel_rfl)
theorem E8:Slot "set_iterator" "__next__" "set_iterator.__next__" :=
 .of (owner:="set_iterator") (n:="__next__") (by rw[kf,gk];kernel_rfl) (by decide +kernel) (by decide +kernel) (by decide +kernel)
  (by first|exact .inl (by decide +kernel)|exact .inr (by decide +kernel)) (by rw[ik];kernel_rfl)
theorem J':entryFor table "set_iterator.__next__"=some Builtin.«set_iterator.__next__»:=entryFor_of_tree (by kernel_rfl)
theorem Ki(a:Value):argsOk "set_iterator.__next__" ⟨[a],[]⟩:=by
 unfold argsOk
 kernel_rfl
theorem Kl:Slot "set_iterator" "__iter__" "set_iterator.__iter__" :=
 .of (owner:="set_iterator") (n:="__iter__") (by rw[kf,gk];kernel_rfl) (by decide +kernel) (by decide +kernel) (by decide +kernel)
  (by first|exact .inl (by decide +kernel)|exact .inr (by decide +kernel)) (by rw[ik];kernel_rfl)
theorem aL6:entryFor table "set_iterator.__iter__"=some Builtin.«dict_keyiterator.__iter__» :=
 entryFor_alias (id':="dict_keyiterator.__iter__") (by kernel_rfl) rfl (by decide +kernel) (by kernel_rfl)
theorem aJ9(a:Value):argsOk "set_iterator.__iter__" ⟨[a],[]⟩:=by
 unfold argsOk
 kernel_rfl
inductive Rd|text|plain|drawn
structure Lies(h:Heap)(a:Addr)(es:Array (Int×Value))(ep:Nat)(t:SetTable):Prop where
 at_:∃o,h.get? a=some o/\o.cls=.type "set"/\o.data=.set es ep t
 fit:t.fits es.size=true
theorem Lies.at(x:Lies h a es ep t)(k:∀o,h.get? a=some o->h'.get? a=some o):Lies h' a es ep t :=
 ⟨let ⟨o,e,r⟩:=x.at_;⟨o,k o e,r⟩,x.fit⟩
def F8(h:Heap)(I a:Addr)(f:Value)(i n ep:Nat):Prop:=∃o,h.get? I=some o/\o.cls=.type "set_iterator"/\o.data=.fields #[f,rawInt i,.ref a,rawInt n,rawInt ep]
theorem F8.at(x:F8 h I a f i n ep)(k:∀o,h.get? I=some o->h'.get? I=some o):F8 h' I a f i n ep:=let ⟨o,e,r⟩:=x;⟨o,k o e,r⟩
theorem F8.ty(x:F8 s.heap I a f i n ep):s.TypeIs (.ref I) "set_iterator":=let ⟨o,e,c,_⟩:=x;⟨o,e,c⟩
def xh(w:World)(a:Addr)(es:Array (Int×Value))(ep:Nat)(pl:List Nat):Rd->List Value
 |.text=>(pickOrder (w.params.setOrder a ep) es).toList.map (·.2)
 |.plain=>es.toList.map (·.2)
 |.drawn=>pl.map λj=>(es.getD j (0,.none)).2
def slotAt(t:SetTable):Nat->Nat
 |0=>0
 |i+1=>t.place.getD i 0+1
def P8(h:Heap)(t:SetTable)(b:Addr)(pl:List Nat)(i:Nat)(f:Value):Rd->Prop
 |.text=>∃k:Nat,f=rawInt k
 |.plain=>f=rawInt (slotAt t i)
 |.drawn=>f=.ref b/\∃o e,h.get? b=some o/\o.cls=.type "tuple"/\o.data=.seq (pl.map λj=>rawInt (j:Nat)).toArray e
def tU(w:World)(es:Array (Int×Value))(t:SetTable)(pl:List Nat):Rd->Prop
 |.text=>w.params.followText "set-order"=true
 |.plain=>w.params.followText "set-order"=false/\(t.plain=true\/es.size<=1)/\Well true t
 |.drawn=>w.params.followText "set-order"=false/\pl.Perm (List.range es.size)
theorem xo{Q:Bool->Shared->Prop}(h:Q (w.params.followText "set-order") s):wpAny (model prog w) A setsByText Q E s:=by
 unfold setsByText;exact ag (qm (ax h))
theorem Jt(hL:Lies s.heap a es ep t)(ht:w.params.followText "set-order"=true){sl g:Nat}{Q:Option (Value×Nat)->Shared->Prop}(h:Q (((pickOrder (w.params.setOrder a ep) es)[g]?).map λe=>(e.2,sl)) s) :
  wpAny (model prog w) A (setNext a sl g ep) Q E s:=by
 obtain⟨o,ho,_,hd⟩:=hL.at_;unfold setNext;refine ag (cH ho hd hL.fit ?_);refine ag (xo ?_);rw[ht,aJ rfl,aF (by simp)];unfold setWalk;refine ag (ag (cH ho hd hL.fit ?_));refine ag (xo ?_);rw[ht,aJ rfl];exact ag (qm (ax (ax h)))
theorem JP(hL:Lies s.heap a es ep t)(ht:w.params.followText "set-order"=false)(hp:t.plain=true\/es.size<=1)(hl:t.led=true){sl g:Nat}{Q:Option (Value×Nat)->Shared->Prop}(h:Q (match es[SetTable.below t.place sl]?,t.place[SetTable.below t.place sl]? with|some (_,x),some j=>some (x,j+1)|_,_=>none) s):wpAny (model prog w) A (setNext a sl g ep) Q E s:=by
 obtain⟨o,ho,_,hd⟩:=hL.at_;unfold setNext;refine ag (cH ho hd hL.fit ?_);refine ag (xo ?_);rw[ht,aF ∅];show wpAny _ _ (if(!t.plain&&decide (es.size>1))=true then _ else _) _ _ _;rw[aF (by rcases hp with e|e<;>simp[e])];refine ag (fH (a:=Unit.unit) ?_ (ax h));show((if(!t.led&&!es.isEmpty)=true then unsupported "set:maker-not-led" else pure Unit.unit):Sem Unit)=pure Unit.unit;rw[hl]
 rfl
theorem aT5(hL:Lies s.heap a es ep t)(hj:j<es.size)(h:Q (es.getD j (0,.none)).2 s):wpAny (model prog w) A (setNextDrawn a j ep) Q E s:=by
 obtain⟨o,ho,_,hd⟩:=hL.at_;unfold setNextDrawn;refine ag (cH ho hd hL.fit ?_);dsimp only;rw[aF (by simp)];have e:es[j]?=some (es.getD j (0,.none)):=by simp[Array.getD,hj]
 rw[e];exact ax h
theorem Mg(hL:Lies s.heap a es ep t):t.place.size=es.size:=by
 have:=hL.fit;unfold SetTable.fits at this;simp at this;exact this.1
theorem JD(hw:kR t.place)(hi:i<=t.place.size):SetTable.below t.place (slotAt t i)=i:=by
 cases i with
 |zero=>exact aW0 hw
 |succ i=>exact aW1 hw ()
theorem entries{Q:Array (Int×Value)->Shared->Prop}(hL:Lies s.heap a es ep t)(h:Q es s):wpAny (model prog w) A (setEntries a) Q E s:=by
 obtain⟨o,ho,_,hd⟩:=hL.at_;unfold setEntries;exact ag (cH ho hd hL.fit (ax h))
theorem VR{f':Value}(hi:F8 h I a f i n ep)(hx:x=rawInt ((i:Int)+1)):F8 ((h.update I (Obj.mapFields (·.setIfInBounds 0 f'))).update I (Obj.mapFields (·.setIfInBounds 1 x))) I a f' (i+1) n ep:=by
 obtain⟨o,ho,hc,hd⟩:=hi;have h1:=bw (Obj.mapFields (·.setIfInBounds 0 f')) ho (dy (bC hd _));have d1:(Obj.mapFields (·.setIfInBounds 0 f') o).data=.fields #[f',rawInt i,.ref a,rawInt n,rawInt ep]:=by rw[bC hd];simp
 have h2:=bw (Obj.mapFields (·.setIfInBounds 1 x)) h1 (dy (bC d1 _));refine⟨_,h2,(ox ..).trans ((ox ..).trans hc),?_⟩;rw[bC d1];subst hx;simp[rawInt]
theorem VQ(hi:F8 h I a f i n ep)(hx:x=rawInt ((i:Int)+1)):F8 (h.update I (Obj.mapFields (·.setIfInBounds 1 x))) I a f (i+1) n ep:=by
 obtain⟨o,ho,hc,hd⟩:=hi;have h2:=bw (Obj.mapFields (·.setIfInBounds 1 x)) ho (dy (bC hd _));refine⟨_,h2,(ox ..).trans hc,?_⟩;rw[bC hd];subst hx;simp[rawInt]
theorem Ik{f':Value}{m:Sem α}{Q':α->Shared->Prop}(hi:F8 s.heap I a f i n ep)(hx:x=rawInt ((i:Int)+1))(h:∀h',F8 h' I a f' (i+1) n ep->Heap.SameBut I s.heap h'->wpAny (model prog w) A m Q' E { s with heap:=h' }) :
  wpAny (model prog w) A (do setField (.ref I) 0 f';setField (.ref I) 1 x;m) Q' E s:=by
 obtain⟨o,ho,hc,hd⟩:=id hi;refine ag (dQ ho hd (by simp) ?_);have h1:=bw (Obj.mapFields (·.setIfInBounds 0 f')) ho (dy (bC hd _));have d1:(Obj.mapFields (·.setIfInBounds 0 f') o).data=.fields #[f',rawInt i,.ref a,rawInt n,rawInt ep]:=by rw[bC hd];simp
 refine ag (dQ (s:={ s with heap:=_ }) h1 d1 (by simp) ?_);exact h _ (VR hi hx) ((cx ..).trans (cx ..))
theorem Wx{m:Sem α}{Q':α->Shared->Prop}(hi:F8 s.heap I a f i n ep)(hx:x=rawInt ((i:Int)+1))(h:∀h',F8 h' I a f (i+1) n ep->Heap.SameBut I s.heap h'->wpAny (model prog w) A m Q' E { s with heap:=h' }) :
  wpAny (model prog w) A (do setField (.ref I) 1 x;m) Q' E s:=by
 obtain⟨o,ho,hc,hd⟩:=id hi;refine ag (dQ ho hd (by simp) ?_);exact h _ (VQ hi hx) (cx ..)
theorem DP(next:Nat->Nat)(xs:Array α):(pickOrder next xs).toList.Perm xs.toList:=by
 have go:∀(fuel k:Nat) (left:List α) (out:Array α),fuel=left.length->(pickOrder.go next fuel k left out).toList.Perm (out.toList++left):=by
  intro fuel
  induction fuel with
  |zero =>
   intro k left out e;have:left=[]:=dF e.symm;subst this;simp[pickOrder.go]
  |succ n ih =>
   intro k left out e;have eE:next k % left.length<left.length:=MZ _ ()
   unfold pickOrder.go;rw[ai eE];refine(ih _ _ _ (by rw[gM eE];omega)).trans ?_;rw[Array.toList_push,fC];refine List.Perm.append_left _ ?_;have:left.Perm (left[next k % left.length]::left.eraseIdx (next k % left.length)):=by
    rw[lE]
    conv=>lhs;rw[<- jd (next k % left.length) left,cF eE]
    exact List.perm_middle
   exact this.symm
 have:=go xs.size 0 xs.toList #[] (by simp);simpa[pickOrder] using this
theorem next_item{Q:Option Value->Shared->Prop}(hL:Lies s.heap a es ep t)(hr:tU w es t pl r)(hi:F8 s.heap I a f i es.size ep)(hf:P8 s.heap t b pl i f r)(ft:b≠I)(eE:i<es.size)(h:∀v h' f',(xh w a es ep pl r)[i]?=some v->F8 h' I a f' (i+1) es.size ep->P8 h' t b pl (i+1) f' r->Heap.SameBut I s.heap h'->Q (some v) { s with heap:=h' }):wpAny (model prog w) A (pyNext (.ref I)) Q E s:=by
 obtain⟨o,ho,hc,hd⟩:=id hi;unfold pyNext;refine ag (wpAny_attempt (fI (name:=Str.ofString "__next__") hi.ty E8 (cO E8 hi.ty J' ?_ (Ki _))));unfold Builtin.«set_iterator.__next__»;refine ag (ax ?_);refine ag (wpAny_fieldsOf ho hd ?_);dsimp only[rawInt];refine ag (entries hL ?_);rw[aF (by simp)];rw[cv,cv];cases r with
 |text =>
  obtain⟨k,rfl⟩:=hf;dsimp only[rawInt];refine ag (Jt hL hr ?_);have hl:i<(pickOrder (w.params.setOrder a ep) es).size:=by
   have:=(DP (w.params.setOrder a ep) es).length_eq;simp at this;omega
  rw[pF hl];refine Ik hi rfl λh' h1 h2=>ax ⟨_,rfl,ax (h _ _ _ ?_ h1 ⟨_,rfl⟩ h2)⟩;show((pickOrder (w.params.setOrder a ep) es).toList.map (·.2))[i]?=_;simp[hl]
 |plain =>
  obtain⟨r1,r2,r3⟩:=hr;have hs:=Mg hL;obtain rfl:=hf;dsimp only[rawInt];rw[cv];refine ag (JP hL r1 r2 r3.led ?_);rw[JD r3.yg (),pF eE,getD_mem ()];refine Ik hi rfl λh' h1 h2=>ax ⟨_,rfl,ax (h _ _ _ ?_ h1 rfl h2)⟩;show(es.toList.map (·.2))[i]?=_;simp[eE]
 |drawn =>
  obtain⟨r1,r2⟩:=hr;obtain⟨rfl,ob,e,hb,Hx,vZ⟩:=hf;have gR:i<pl.length:=by rw[r2.length_eq];simpa using eE
  dsimp only;refine ag (wpAny_seqItems hb vZ ?_);have hj:pl[i]<es.size:=by
   have:=r2.mem_iff.mp (cg gR);simpa using this
  have e1:(pl.map λj=>rawInt (j:Nat)).toArray[i]?=some (rawInt (pl[i]:Nat)):=by simp[gR]
  dsimp only;rw[e1];dsimp only[rawInt];rw[cv];refine ag (aT5 hL hj ?_);refine Wx hi rfl λh' h1 h2=>ax ⟨_,rfl,ax (h _ _ _ ?_ h1 ⟨rfl,ob,e,by rw[h2.2 b ft];exact hb,Hx,vZ⟩ h2)⟩;show(pl.map λj=>(es.getD j (0,.none)).2)[i]?=_;simp[gR]
theorem DT{Q:Option Value->Shared->Prop}{h0:Heap}(hh:A.handled=none)(PY:Heap.ExtBut I h0 s.heap)(h:∀h',Heap.ExtBut I h0 h'->Q none { s with heap:=h' }) :
  wpAny (model prog w) A.in1 (newExc (.type "StopIteration") [] >>= λe=>(raiseNew e:Sem Fin)) (λfin s'=>∃v,fin=Fin.done (Flow.ret v)/\wpAny (model prog w) A (pure (some v)) Q E s')
   (λe s'=>wpAny (model prog w) A (do
     let x <- isInstance e (Value.type "StopIteration")
     if x=true then pure none else throw e) Q E s') s:=by
 refine ag ?_;simp only[newExc,newTuple];refine ag (dB ?_ (by size_fits));refine ag (m:=firstArgMember _ _) (fH (a:=Value.none) (by first|rfl|(simp only[firstArgMember];rfl)) ?_);refine dB ?_ (by size_fits);simp only[raiseNew];refine ag (wpAny_handled ?_);rw[show A.in1.handled=none from hh];refine ag (ax (wpAny_throw ?_));refine ag (jv (T:="StopIteration") (b:=true) ⟨_,aG _ rfl,rfl⟩ isSubtype_stop ?_);exact ax (h _ ((PY.push _).push _))
theorem next_end{Q:Option Value->Shared->Prop}(hh:A.handled=none)(hL:Lies s.heap a es ep t)(hr:tU w es t pl r)(hi:F8 s.heap I a f es.size es.size ep)(hf:P8 s.heap t b pl es.size f r)(ft:b≠I)(h:∀h',Heap.ExtBut I s.heap h'->Q none { s with heap:=h' }):wpAny (model prog w) A (pyNext (.ref I)) Q E s:=by
 obtain⟨o,ho,hc,hd⟩:=id hi;unfold pyNext;refine ag (wpAny_attempt (fI (name:=Str.ofString "__next__") hi.ty E8 (cO E8 hi.ty J' ?_ (Ki _))));unfold Builtin.«set_iterator.__next__»;refine ag (ax ?_);refine ag (wpAny_fieldsOf ho hd ?_);dsimp only[rawInt];refine ag (entries hL ?_);rw[aF (by simp)];rw[cv,cv];cases r with
 |text =>
  obtain⟨k,rfl⟩:=hf;dsimp only[rawInt];refine ag (Jt hL hr ?_);have hl:(pickOrder (w.params.setOrder a ep) es).size<=es.size:=by
   have:=(DP (w.params.setOrder a ep) es).length_eq;simp at this;omega
  rw[uH hl];refine ag (dQ ho hd (by simp) ?_);exact DT (s:={ s with heap:=_ }) hh (cx ..).extBut h
 |plain =>
  obtain⟨r1,r2,r3⟩:=hr;have hs:=Mg hL;obtain rfl:=hf;dsimp only[rawInt];rw[cv];refine ag (JP hL r1 r2 r3.led ?_);rw[JD r3.yg (),uH (ay _)];refine ag (dQ ho hd (by simp) ?_);exact DT (s:={ s with heap:=_ }) hh (cx ..).extBut h
 |drawn =>
  obtain⟨r1,r2⟩:=hr;obtain⟨rfl,ob,e,hb,Hx,vZ⟩:=hf;have gR:pl.length=es.size:=by rw[r2.length_eq];simp
  dsimp only;refine ag (wpAny_seqItems hb vZ ?_);have e1:(pl.map λj=>rawInt (j:Nat)).toArray[es.size]?=none:=by simp[gR]
  dsimp only;rw[e1];dsimp only[rawInt];refine ag (dQ ho hd (by simp) ?_);have h1:=bw (Obj.mapFields (·.setIfInBounds 0 (Value.int 0 0))) ho (dy (bC hd _));refine ag (dQ (s:={ s with heap:=_ }) h1 (bC hd _) (by simp) ?_);exact DT (s:={ s with heap:=_ }) hh ((cx ..).trans (cx ..)).extBut h
theorem a07{l:List α}(eE:k<l.length):(l[k]::l.eraseIdx k).Perm l:=by
 rw[lE]
 conv=>rhs;rw[<- jd k l,cF eE]
 exact List.perm_middle.symm
theorem JH{α:Type}:∀(n:Nat) (xs:List α) (s:Shared) (Q:List α->Shared->Prop),n=xs.length->(∀ys d,ys.Perm xs->Q ys { s with drawn:=d })->wpAny (model prog w) A (drawOrder n xs) Q E s
 |0,xs,s,Q,e,h=>by
  have:xs=[]:=dF e.symm;subst this;exact ax (h [] s.drawn (List.Perm.refl _))
 |n+1,[],s,Q,e,h=>by simp at e
 |n+1,x::xs,s,Q,e,h=>by
  unfold drawOrder;refine ag ?_;intro Γ p hΓ;refine⟨by simp,?_⟩;generalize (model prog w).w.draws .order (s.drawn.get .order)=k;have eE:k % (x::xs).length<(x::xs).length:=MZ _ (by simp);have go:wpAny (model prog w) A (match (x :: xs)[k % (x :: xs).length]? with
   |some y=>do
    let ys <- drawOrder n ((x::xs).eraseIdx (k % (x::xs).length))
    pure (y::ys)
   | none=>unsupported "internal:drawOrder") Q E { s with drawn:=s.drawn.bump .order }:=by
   rw[ai eE];refine ag (JH n _ _ _ (by rw[gM eE];simp at e ⊢;omega) λys d hp=>ax ?_);exact h _ d ((List.Perm.cons _ hp).trans (a07 eE))
  exact go
theorem L'(hr:tU w es t pl r):(xh w a es ep pl r).Perm (es.toList.map (·.2)):=by
 cases r with
 |text=>exact(DP _ es).map _
 |plain=>exact List.Perm.refl _
 |drawn =>
  refine(hr.2.map _).trans ?_;have:(List.range es.size).map (λj=>(es.getD j (0,.none)).2)=es.toList.map (·.2):=by
   apply ir
   ·simp
   ·intro i h1 h2;simp at h1;simp[Array.getD,h1]
  rw[this]
theorem Lies.ty(hL:Lies s.heap a es ep t):s.TypeIs (.ref a) "set":=let ⟨o,e,c,_⟩:=hL.at_;⟨o,e,c⟩
theorem a80(hL:Lies s.heap a es ep t)(hw:Well (Led w) t)(hz:es.size<=10000)(h:∀r pl b f I h' d',tU w es t pl r->F8 h' I a f 0 es.size ep->P8 h' t b pl 0 f r->b≠I->(b=a\/s.heap.objs.size<=b)->(∀c o,s.heap.get? c=some o->h'.get? c=some o)->s.heap.objs.size<=I->s.heap.objs.size<=h'.objs.size->Q (.ref I) { s with heap:=h',drawn:=d' }) :
  wpAny (model prog w) A (pyIter (.ref a)) Q E s:=by
 obtain⟨o,ho,Bj,hd⟩:=hL.at_;refine wpAny_pyIter_slot hL.ty F.slot_set_iter (cO F.slot_set_iter hL.ty aI2 ?_ (F.args_set_iter_1 _));unfold Builtin.«frozenset.__iter__»;refine ag (ax ?_);unfold Builtin.Frozenset.sizeOf;refine ag (ag (entries hL (ax ?_)));unfold setDrawn;refine ag (ag (cH ho hd hL.fit ?_));refine ag (xo (ax ?_));have eE:=aE ho;have fin:∀(r:Rd) (f:Value) (b:Addr) (pl:List Nat) (h1:Heap) (d1:Drawn),tU w es t pl r->(∀h',(∀c o,h1.get? c=some o->h'.get? c=some o)->P8 h' t b pl 0 f r)->b<h1.objs.size->(b=a\/s.heap.objs.size<=b)->(∀c o,s.heap.get? c=some o->h1.get? c=some o)->s.heap.objs.size<=h1.objs.size ->
   wpAny (model prog w) A.in1 (do
    let e <- setEpoch a
    ret (<- newFields "set_iterator" [f,rawInt 0,.ref a,rawInt es.size,rawInt e])) (λfin s'=>∃ v,fin=Fin.done (Flow.ret v)/\∃ T' r,s'.TypeIs v T'/\typeLookup (.type T') "__next__"=pure (some r)/\Q v s') E { s with heap:=h1,drawn:=d1 }:=λr f b pl h1 d1 hr hf hb BH he hsz=>by
  have tJ:Lies h1 a es ep t:=hL.at λo e=>he a o e;obtain⟨o1,pQ,_,Hw⟩:=tJ.at_;unfold setEpoch;refine ag (ag (cH (s:={ s with heap:=h1,drawn:=d1 }) pQ Hw tJ.fit (ax ?_)));refine ag (dB (ax ⟨_,rfl,"set_iterator",_,⟨_,aG _ rfl,rfl⟩,E8.lookup,?_⟩));refine h r pl b f h1.objs.size _ d1 hr ⟨_,aG _ rfl,rfl,rfl⟩ (hf _ λc o e=>aw _ e) (aP hb) BH (λc o e=>aw _ (he c o e)) hsz (by rw[mE];exact Nat.le_succ_of_le hsz)
 have e0:s={ s with heap:=s.heap,drawn:=s.drawn }:=rfl;cases hT:w.params.followText "set-order" with
 |true =>
  dsimp only[Bool.not_true,Bool.false_and];rw[aF (by simp)];refine ag (ax ?_);rw[e0];exact fin .text (rawInt 0) a [] s.heap s.drawn hT (λh' _=>⟨0,rfl⟩) eE (.inl rfl) (λc o e=>e) (ay _)
 |false =>
  show wpAny _ _ (if(!false&&(!t.plain&&decide (es.size>1)))=true then _ else _ ) _ _ _;by_cases hp:t.plain=true\/es.size<=1
  ·rw[aF (by rcases hp with e|e<;>simp[e])];refine ag (ax ?_);rw[e0];refine fin .plain (rawInt 0) a [] s.heap s.drawn ⟨hT,hp,?_⟩ (λh' _=>rfl) eE (.inl rfl) (λc o e=>e) (ay _);have:Led w=true:=by unfold Led;rw[hT];rfl
   rw[<- this];exact hw
  ·have h1:t.plain=false:=by cases hq:t.plain with|true=>exact absurd (.inl hq) hp|false=>rfl
   have h2:¬es.size<=1:=λz=>hp (.inr z);rw[aJ (by simp[h1];omega)];refine ag (JH _ _ _ _ (hJ).symm λys d hy=>?_);have hl:ys.length=es.size:=by rw[hy.length_eq];simp
   refine ag (dB ?_ (by show(List.map _ ys).toArray.size<=sizeLine;rw[aK,ae,hl];exact aB hz ∅));refine fin .drawn (.ref s.heap.objs.size) s.heap.objs.size ys _ d ⟨hT,hy⟩ (λh' hk=>⟨rfl,_,_,hk _ _ (aG _ rfl),rfl,rfl⟩) (by rw[mE];exact fO _) (.inr (ay _)) (λc o e=>aw _ e) (by rw[mE];exact gZ _)
theorem aY7(hh:A.handled=none)(hr:tU w es t pl r)(ft:b≠I)(Oy:a≠I) :
  Walks prog w A I [I,a,b] [I] es.size (λi v=>(xh w a es ep pl r)[i]?=some v) (λi h=>Lies h a es ep t/\∃f,F8 h I a f i es.size ep/\P8 h t b pl i f r) where
 sub:=λc hc=>by simp at hc;simp[hc]
 frame:=λi h h' st hk=>by
  obtain⟨hL,f,hi,hf⟩:=st;refine⟨hL.at λo e=>hk a (by simp) o e,f,hi.at λo e=>hk I (by simp) o e,?_⟩;cases r with
  |text=>exact hf
  |plain=>exact hf
  |drawn =>
   obtain⟨e1,o,e,h1,h2⟩:=hf;exact⟨e1,o,e,hk b (by simp) o h1,h2⟩
 item:=λi s Q E hi st hQ=>by
  obtain⟨hL,f,hI,hf⟩:=st;exact next_item hL hr hI hf ft hi λv h' f' hv h1 h2 h3=>hQ v h' s.toks hv ⟨hL.at λo e=>by rw[h3.2 a Oy];exact e,f',h1,h2⟩ λc o hc e=>h3.extBut c o (λz=>hc (by simp[z])) e
 done:=λs Q E st hQ=>by
  obtain⟨hL,f,hI,hf⟩:=st;exact next_end hh hL hr hI hf ft λh' he=>hQ h' s.toks λc o hc e=>he c o (λz=>hc (by simp[z])) e
 self:=λi s Q E st hQ=>by
  obtain⟨hL,f,hI,hf⟩:=st;refine wpAny_pyIter_slot hI.ty Kl (cO Kl hI.ty aL6 ?_ (aJ9 _));exact ag (ax (ax ⟨_,rfl,"set_iterator",_,hI.ty,E8.lookup,hQ⟩))
theorem aG8:typeLookup (.type "set") "__len__"=pure (some (.builtin "set.__len__")):=by rw[kf,gk];kernel_rfl
theorem aK7(hh:A.handled=none)(hL:Lies s.heap a es ep t)(hw:Well (Led w) t)(hz:es.size<=10000){Q:List Value->Shared->Prop}(h:∀(vs:List Value) h' d' nc,vs.Perm (es.toList.map (·.2))->(∀c o,s.heap.get? c=some o->h'.get? c=some o)->s.heap.objs.size<=h'.objs.size->s.toks<=nc->Q vs { s with heap:=h',drawn:=d',toks:=nc }) :
  wpAny (model prog w) A (collect (.ref a)) Q E s:=by
 have eE:a<s.heap.objs.size:=let ⟨o,ho,_⟩:=hL.at_;aE ho
 unfold collect;refine ag (wpAny_runValue (dA F.entry_proto_collect ?_));rw[cV F.plain_proto_collect _];show wpAny _ A.in1 (newList [] >>= λl=>again (.builtin "list.__iadd__" ⟨[l,.ref a],[]⟩)) _ _ s;refine ag (dB ?_);refine ax ⟨gI F.plain_list_iadd _,dA F.entry_list_iadd ?_⟩;rw[cV F.plain_list_iadd _];have tJ:Lies (s.heap.push { cls:=.type "list",data:=.seq ([]:List Value).toArray }) a es ep t:=hL.at λo e=>aw _ e;have Pc:(s.heap.push { cls:=.type "list",data:=.seq ([]:List Value).toArray }).get? s.heap.objs.size=some { cls:=.type "list",data:=.seq ([]:List Value).toArray }:=aG _ rfl;have ft:s.heap.objs.size≠a:=cc eE;have h1:Builtin.List.listSameRef (.ref s.heap.objs.size) (.ref a)=false:=by simp[Builtin.List.listSameRef,ft]
 show wpAny _ A.in1 (Builtin.List.listExtendWith (.ref s.heap.objs.size) (.ref a) (.ref s.heap.objs.size)) _ _ _;unfold Builtin.List.listExtendWith;refine ag (fU (Lies.ty (s:={ s with heap:=_ }) tJ) ?_);rw[aF (by rw[h1];decide)];refine ag (a80 (s:={ s with heap:=_ }) tJ hw hz λr pl b f I h2 d2 hr hI hf hb OW he BU h2z=>?_);have rz:Lies h2 a es ep t:=tJ.at λo e=>he a o e;have wc:=he _ _ Pc;refine ag (cy ?_);unfold Builtin.List.listLengthHint;refine ag (wpAny_specialOf (Lies.ty (s:={ s with heap:=h2,drawn:=d2 }) rz) aG8 ?_);generalize Hg:("set.__len__":String)=Oc;dsimp only;rw[show splitId Oc=some ("set","__len__") from by subst Hg;decide +kernel];dsimp only;refine ag (jv (b:=true) (Lies.ty (s:={ s with heap:=h2,drawn:=d2 }) rz) (by rw[ik];kernel_rfl) ?_);rw[aF ∅];subst Hg;rw[aJ (by decide +kernel)];refine ag (fU (Lies.ty (s:={ s with heap:=h2,drawn:=d2 }) rz) ?_);refine ax ?_;rw[aJ (by decide +kernel)];refine ag (Ab ?_);refine ag ?_;show wpAny _ A.in1 (updateSeq s.heap.objs.size (·.push .none) >>= λ_=>updateSeq s.heap.objs.size (·.pop)) _ _ _;refine ag (wpAny_updateSeq (s:={ s with heap:=h2,drawn:=d2 }) wc rfl ?_);have HC:=bw (Obj.mapSeq (·.push Value.none)) wc rfl;refine wpAny_updateSeq (s:={ s with heap:=_,drawn:=d2 }) HC rfl ?_;have Pb:=bw (Obj.mapSeq (·.pop)) HC rfl;have Gv:∀c o,c≠s.heap.objs.size->h2.get? c=some o->((h2.update s.heap.objs.size (Obj.mapSeq (·.push Value.none))).update s.heap.objs.size (Obj.mapSeq (·.pop))).get? c=some o :=
  λc o hc e=>(dh _ _ (cb hc)).trans ((dh _ _ (cb hc)).trans e)
 have tq:s.heap.objs.size<(s.heap.push { cls:=.type "list",data:=.seq ([]:List Value).toArray }).objs.size:=by rw[mE];exact fO _
 have hSI:I≠s.heap.objs.size:=cc (aA tq BU);have hSb:b≠s.heap.objs.size:=by
  rcases OW with z|z
  ·rw[z];exact cb ft
  ·exact cc (aA tq z)
 have W:=(aY7 (prog:=prog) (w:=w) (A:=A.in1) (a:=a) (b:=b) (I:=I) (es:=es) (ep:=ep) (t:=t) (pl:=pl) hh hr hb (aP (aA (cX eE tq) BU))).toS;have st:Lies h2 a es ep t/\∃f,F8 h2 I a f 0 es.size ep/\P8 h2 t b pl 0 f r:=⟨rz,f,hI,hf⟩
 have lp:=W.frame 0 ({ s with heap:=h2,drawn:=d2 }:Shared) _ s.toks st (ay _) λc hc o e=>Gv c o (λz=>by simp at hc;rcases hc with y|y|y<;>simp_all) e;refine ax ⟨gI F.plain_extend_loop _,codeAny_extend_loopS W (aB hz ∅) _ (λz=>by simp at z;rcases z with y|y|y<;>simp_all) _ es.size 0 _ _ _ rfl (bU _) lp Pb (ItemsOf.nil _) λs' xu c' hm nG lB=>?_⟩;show wpAny _ A (load s.heap.objs.size >>= _) _ _ s';refine ag (wpAny_load nG ?_);refine ax ?_;have eS:s'={ s with heap:=s'.heap,drawn:=d2,toks:=s'.toks }:=by
  obtain⟨jW,g',d',nc,uU⟩:=s';have m1:g'=s.gens:=hm.gens;have m2:d'=d2:=hm.drawn;have m3:uU=s.os:=hm.os;subst m1;subst m2;subst m3
  rfl
 have eo:xu.toList=xh w a es ep pl r:=by
  have l1:(xh w a es ep pl r).length=es.size:=by rw[(L' hr).length_eq];simp
  apply ir
  ·rw[l1];simpa using lB.1
  ·intro i h1 h2;have:=lB.2 i xu.toList[i] (by simp at h1 ⊢);dsimp only at this;rw[ai h2] at this;exact(aO this).symm
 rw[eo,eS];refine h _ _ d2 s'.toks (L' hr) (λc o e=>?_) (eI (aE nG)) hm.toks;have hc:c<s.heap.objs.size:=aE e;have n1:c≠s.heap.objs.size:=aP hc;have n2:c≠I:=aP (aA (cX hc tq) BU);exact hm.heap c o (by simp[n1,n2]) (Gv c o n1 (he c o (aw _ e)))
theorem aR7(hh:A.handled=none)(hS:B0 prog w s.heap a ks)(Py:ks.length<64)(h:∀(S:Addr) (vs:List Value) (ns:List Int) e h' d' nc,IntsAre vs ns->ns.Perm ks->ns.Pairwise (·<=·)->h'.get? S=some (seqObj "list" vs.toArray e)->s.heap.objs.size<=S->(∀c o,s.heap.get? c=some o->h'.get? c=some o)->s.toks<=nc->Q (.ref S) { s with heap:=h',drawn:=d',toks:=nc }) :
  wpAny (model prog w) A (call (.builtin "sorted") [.ref a]) Q E s:=by
 obtain⟨o,es,ep,t,ho,hx,hd,nD,hp,hn,hb,hf,hw⟩:=hS;have hL:Lies s.heap a es ep t:=⟨⟨o,ho,hx.1,hd⟩,hf⟩
 have hz:es.size=ks.length:=by rw[<- hp.length_eq];simp
 refine FV kind_sorted plain_sorted entry_sorted (args_sorted1 _) ?_;unfold Builtin.«sorted»;refine ag (m:=checkCount "sorted" 1 1 _) (ax ?_);refine ag (aK7 (A:=A.in1) hh hL hw () λvs h1 d1 Av hv he tq yn=>?_);have hI:IntsAre vs (vs.map toI):=by
  have all:∀v∈vs,∃tk,v=.int (toI v) tk:=λv AZ=>by
   obtain⟨e,vR,rfl⟩:=aL.mp (hv.mem_iff.mp AZ);obtain⟨tk,h1,_⟩:=zc nD vR;exact⟨tk,h1⟩
  clear hv
  induction vs with
  |nil=>exact .nil
  |cons v r ih =>
   obtain⟨tk,e⟩:=all v (by simp);have:=IntsAre.cons (toI v) tk (ih λu hu=>all u (by simp[hu]));rw[<- e] at this;exact this
 have hk:(vs.map toI).Perm ks:=by
  refine(hv.map toI).trans ?_;rw[bz];exact hp
 have hl:vs.length<64:=by rw[hv.length_eq];simp;omega
 refine ag (wpAny_newList (s:={ s with heap:=h1,drawn:=d1,toks:=Av }) ?_);have oK:(h1.push (seqObj "list" vs.toArray 0)).get? h1.objs.size=some (seqObj "list" vs.toArray 0):=aG _ rfl;refine ag (cy (cO (s:={ s with heap:=h1.push (seqObj "list" vs.toArray 0),drawn:=d1,toks:=Av }) slot_list_sort ⟨_,oK,rfl⟩ entry_list_sort (list_sort_tree oK hI hl λout jI a1 a2 a3=>⟨_,rfl,?_⟩) (args_list_sort _)));obtain⟨e,vR⟩:=sortedHeap_at (vs:=vs) (out:=out) oK;refine ax ⟨_,rfl,h h1.objs.size out.toList jI e _ d1 Av a1 (a2.trans hk) a3 vR tq (λc o' e'=>?_) yn⟩;have hc:=aE (he c o' e');rw[sortedHeap_old (aP hc) (by rw[mE];exact Nat.lt_succ_of_lt hc)];exact aw _ (he c o' e')
def i9(ks xs:List Int):List Int:=xs.foldl F7 ks
theorem O8:∀(xs ks:List Int),(i9 ks xs).length<=ks.length+xs.length
 |[],ks=>by simp[i9]
 |x::xs,ks=>by
  have:=O8 xs (F7 ks x);have h2:=UN ks x;show(i9 (F7 ks x) xs).length<=_;simp only[List.length_cons];omega
theorem T7:∀(xs ks:List Int) (k:Int),k∈i9 ks xs↔k∈ks\/k∈xs
 |[],ks,k=>by simp[i9]
 |x::xs,ks,k=>by
  show k∈i9 (F7 ks x) xs↔_;rw[T7 xs];unfold F7;split
  ·rename_i h;constructor
   ·rintro(a|a)
    ·exact .inl a
    ·exact .inr (by simp[a])
   ·rintro(a|a)
    ·exact .inl a
    ·rcases aH.mp a with rfl|b
     ·exact .inl h
     ·exact .inr b
  ·simp[or_assoc]
theorem Eh:∀(xs ks:List Int),ks.Nodup->(i9 ks xs).Nodup
 |[],ks,h=>h
 |x::xs,ks,h=>by
  show(i9 (F7 ks x) xs).Nodup;refine Eh xs _ ?_;unfold F7;split
  ·exact h
  ·rename_i hk;rw[cu];exact⟨h,by simp,λa ha b hb=>by simp at hb;subst hb;exact λz=>hk (z▸ha)⟩
theorem aV1:Well (Led w) (SetTable.fresh 0 0 (Led w)):=⟨by simp[kR,SetTable.fresh],rfl,rfl⟩
theorem Jl(e:h.get? a=some { cls:=.type "set",dict:=none,data:=.set #[] 0 (.fresh 0 0 (Led w)) }):B0 prog w h a [] :=
 ⟨_,#[],0,_,e,⟨rfl,rfl,rfl⟩,rfl,(by intro e he;simp at he),by simp,by simp,by decide,by rfl,aV1⟩
theorem a68{R:Result->Shared->Prop}{fp wr:List Addr}{G:Array GenState->Array GenState->Prop}{P:Nat->Value->Prop}{St:Nat->Shared->Prop}(W:WalksS prog w A.in1 I fp wr G n P St)(HB:a∉fp)(hn:n=ns.length)(hv:∀i v,P i v->∃tk,v=.int (ns.getD i 0) tk)(hb:n+1<scanBound):∀(k i:Nat) (s:Shared),i+k=n->St i s->B0 prog w s.heap a (i9 [] (ns.take i)) ->
   (∀s',Moved (a::wr) G s s'->B0 prog w s'.heap a (i9 [] ns)->R (.ok (.ret .none)) s')->codeAny (model prog w) A (.builtin "set.update.loop" ⟨[.ref a,.ref I],[]⟩) R s:=by
 have hw:a∉wr:=λh=>HB (W.sub _ h);have uN:∀b∈wr,b∈a::wr:=λb hb=>by simp[hb]
 intro k
 induction k with
 |zero =>
  intro i s e st hS hR;obtain rfl:i=n:=by omega
  refine dA jN ?_;rw[cV eM _];unfold Builtin.«set.update.loop»;refine ag (W.done s _ _ st λs' m=>ax (hR s' (m.mono uN) (B0.at ?_ λo e=>m.heap a o hw e)));rw[hn,bH] at hS;exact hS
 |succ k ih =>
  intro i s e st hS hR;have eE:i<ns.length:=by omega
  refine dA jN ?_;rw[cV eM _];unfold Builtin.«set.update.loop»;refine ag (W.item i s _ _ () st λv s' hP mf m=>?_);obtain⟨tk,rfl⟩:=hv i v hP;have nG:=B0.at hS λo e=>m.heap a o hw e;have hl:=O8 (ns.take i) [];rw[cZ] at hl;simp only[List.length_nil] at hl;refine ag (cy ?_);unfold setAdd;refine cy (ag ((intKind prog w).pyHash (k:=ns.getD i 0) (eU _ _ _ _) ?_));refine Ir (s:={ s' with toks:=s'.toks+1 }) nG () λh' bb sb wc=>?_;have e2:F7 (i9 [] (ns.take i)) (ns.getD i 0)=i9 [] (ns.take (i+1)):=by
   unfold i9;rw[bj,List.foldl_append,ai eE];simp[List.getD,eE]
  rw[e2] at wc;refine ax ⟨gI eM _,ih (i+1) _ () (W.frame _ s' _ _ mf (gZ _) λb hb o e=>by rw[sb.2 b λz=>HB (z▸hb)];exact e) wc λs2 m2 h2=>?_⟩;exact hR s2 (Moved.trans W.gtrans ((m.mono uN).then_heap (gZ _) λb o hb e=>by rw[sb.2 b λz=>hb (by rw[z];simp)];exact e) m2) h2
noncomputable abbrev B8(w:World):Obj:={ cls:=.type "set",dict:=none,data:=.set #[] 0 (.fresh 0 0 (Led w)) }
theorem Ld(h:Q (.ref s.heap.objs.size) { s with heap:=s.heap.push (B8 w) }):wpAny (model prog w) A (newSet (.type "set")) Q E s:=by
 unfold newSet;refine ag (xo ?_);exact dB h (bU _)
theorem UR(x:Value)(h:Q (.ref s.heap.objs.size) { s with heap:=s.heap.push (B8 w) }):codeAny (model prog w) A (.call (.builtin "set.__new__") ⟨[.type "set",x],[]⟩) (wants Q E) s:=by
 refine uC (?_:wpAny _ A.in1 (do
  checkBuiltinCall "set.__new__" ⟨[.type "set",x],[]⟩
  again (.builtin "set.__new__" ⟨[.type "set",x],[]⟩)) _ _ s)
 refine ag (fH (F.newCall_set_1 x) (ax ⟨gI F.plain_set_new _,?_⟩));refine dA F.entry_set_new ?_;rw[cV F.plain_set_new _];unfold Builtin.«set.__new__»;have sub:=sub_set_self;refine ag (m:=Builtin.Frozenset.newClass "set" _) ?_;unfold Builtin.Frozenset.newClass;dsimp only;refine ag (fH (a:=true) (by first|rfl|(simp[isType];rfl)) ?_);rw[aF ∅];refine ag (fH sub ?_);rw[aF ∅];refine ax ?_;exact ag (Ld (ax h))
theorem C4{vs:List Value}(h:IntsAre vs ns):vs.length=ns.length:=by
 induction h with
 |nil=>rfl
 |cons n t r ih=>simp[ih]
def xB(h:Heap)(l:Addr)(items:Array Value):Prop:=h.IsList l items\/h.IsTuple l items
theorem xB.lt(x:xB h l items):l<h.objs.size:=by
 rcases x with⟨_,e,_⟩|⟨_,e,_⟩<;>exact aE e
theorem UZ{Q:Fin->Shared->Prop}(hh:A.handled=none)(hS:s.heap.get? a=some (B8 w))(hl:xB s.heap l items)(hi:IntsAre items.toList ns)(hb:items.size+1<scanBound)(ft:a≠l)(h:∀h' tk,B0 prog w h' a (i9 [] ns)->(∀b o,b≠a->s.heap.get? b=some o->h'.get? b=some o)->s.toks<=tk->wpAny (model prog w) A (ret .none) Q E { s with heap:=h',toks:=tk }) :
  wpAny (model prog w) A (Builtin.«set.__init__» ⟨[.ref a,.ref l],[]⟩) Q E s:=by
 have hT:s.TypeIs (.ref a) "set":=⟨_,hS,rfl⟩
 have hLi:Lies s.heap a #[] 0 (SetTable.fresh 0 0 (Led w)):=⟨⟨_,hS,rfl,rfl⟩,rfl⟩
 have eE:=hl.lt;have Hb:l≠s.heap.objs.size:=aP eE;unfold Builtin.«set.__init__» noKeywords;dsimp only;refine ag (fH (a:=Unit.unit) rfl ?_);have nm:∀{Q':String->Shared->Prop},(∀x,Q' x s)->wpAny (model prog w) A (typeNameOfCut 200 (.ref a)) Q' E s:=λ{Q'} q=>by
  unfold typeNameOfCut shownTypeOf;refine ag (ag (fU hT ?_));rw[aF ∅];refine ax (fH (a:="set") ?_ (q _));unfold typeNameCut;dsimp only
  first|(unfold typeName;rw[find?_eq_fast];kernel_rfl)|kernel_rfl
 refine ag (nm λx=>?_);refine ag (m:=checkCount _ 0 1 _) (ax ?_);refine ag (m:=Builtin.Frozenset.addrOf _) (ax ?_);unfold setUsed;refine ag (ag (cH hS rfl rfl (ax ?_)));rw[aF (by show ¬((SetTable.fill (SetTable.fresh 0 0 (Led w)) != 0)=true);unfold SetTable.fill;simp[SetTable.fresh])];unfold Builtin.Frozenset.updateFrom Builtin.Frozenset.isAnySet;obtain⟨c,tG,BO,it,hit,He,St,W,ei⟩:∃c:String,(c="list"\/c="tuple")/\s.TypeIs (.ref l) c/\∃it:Obj,(∀Q':Value->Shared->Prop,Q' (.ref s.heap.objs.size) { s with heap:=s.heap.push it }->wpAny (model prog w) A (pyIter (.ref l)) Q' E s) /\
   (∀b o,s.heap.get? b=some o->(s.heap.push it).get? b=some o)/\∃St:Nat->Shared->Prop,WalksS prog w A.in1 s.heap.objs.size [s.heap.objs.size,l] [s.heap.objs.size] (λa b=>b=a) items.size (λi v=>items[i]?=some v) St/\St 0 { s with heap:=s.heap.push it }:=by
  rcases hl with hl|hl
  ·obtain⟨o,ho,hc,_⟩:=id hl;exact⟨"list",.inl rfl,⟨o,ho,hc⟩,_,λQ' q=>iT hl q,λb o e=>aw _ e,_,(Walks.list (A:=A.in1) hh _ l Hb items).toS,⟨⟨_,aG _ rfl,rfl,rfl⟩,hl.push _⟩⟩
  ·obtain⟨o,ho,hc,_⟩:=id hl;exact⟨"tuple",.inr rfl,⟨o,ho,hc⟩,_,λQ' q=>wpAny_pyIter_tuple hl q,λb o e=>aw _ e,_,(Walks.tuple (A:=A.in1) hh _ l Hb items).toS,⟨⟨_,aG _ rfl,rfl,rfl⟩,hl.push _⟩⟩
 refine ag (ag (ag (jv (b:=false) BO (by rcases tG with rfl|rfl<;>(rw[ik];kernel_rfl)) ?_)));show wpAny (model prog w) A (isInstance (Value.ref l) (Value.type "frozenset")) _ _ _;refine jv (b:=false) BO (by rcases tG with rfl|rfl<;>(rw[ik];kernel_rfl)) ?_;rw[aF ∅];refine ag (fU BO ?_);rw[aF (by rcases tG with rfl|rfl<;>decide)];refine ag (hit _ ?_);refine ag (wpAny_runValue ?_);have OY:a<s.heap.objs.size:=aE hS;have hsz:items.size=ns.length:=by rw[<- bD];exact C4 hi
 refine a68 (a:=a) (ns:=ns) W (by simp only[List.mem_cons,List.not_mem_nil,or_false,not_or];exact⟨aP OY,ft⟩) hsz (λi v hv=>IntsAre.int_at hi i v (by rw[jg];exact hv)) hb items.size 0 _ ()
  ei (Jl (He _ _ hS)) λs' m nG=>?_
 have eS:s'={ s with heap:=s'.heap,toks:=s'.toks }:=by
  obtain⟨jW,g',d',nc,uU⟩:=s';have m1:g'=s.gens:=m.gens;have m2:d'=s.drawn:=m.drawn;have m3:uU=s.os:=m.os;subst m1;subst m2;subst m3
  rfl
 rw[eS];refine ax (h _ _ nG (λb o hb e=>?_) m.toks);exact m.heap b o (by simp only[List.mem_cons,List.not_mem_nil,or_false,not_or];exact⟨hb,aP (aE e)⟩) (He _ _ e)
theorem LC(hh:A.handled=none)(hl:xB s.heap l items)(hi:IntsAre items.toList ns)(hb:items.size+1<scanBound)(h:∀h' tk,B0 prog w h' s.heap.objs.size (i9 [] ns)->(∀b o,s.heap.get? b=some o->h'.get? b=some o)->s.toks<=tk->Q (.ref s.heap.objs.size) { s with heap:=h',toks:=tk }) :
  wpAny (model prog w) A (call (.type "set") [.ref l]) Q E s:=by
 have cs:=F.called_set;obtain⟨_,_,y1⟩:=cs.mro;have y2:=cs.made;have y3:=cs.sub;have y4:=cs.notType;have y5:=cs.canCreate;have y6:=F.typeCall_set_1 (.ref l);refine wpAny_call (uC (?_:wpAny _ _ (callAny (.type "set") _) _ _ _));refine ax ⟨Code.quiet_builtin _ (by decide +kernel),dA F.entry_type_call ?_⟩;rw[Around.under_plain (weight_type_call_type "set" [.ref l] []) rfl]
 repeat (any_goals (first|assumption|wp_step))
 refine hX (UR (.ref l) (E:=E) (Q:=λv s1=>v=.ref s.heap.objs.size/\s1={ s with heap:=s.heap.push (B8 w) }) ⟨rfl,rfl⟩) ?_;rintro(e|fl) s1 hr
 ·exact hr
 cases fl with
 |next=>exact hr
 |brk=>exact hr
 |cont=>exact hr
 |ret v =>
 obtain⟨rfl,rfl⟩:=hr;have hS:(s.heap.push (B8 w)).get? s.heap.objs.size=some (B8 w):=aG _ rfl;have hT:Shared.TypeIs { s with heap:=s.heap.push (B8 w) } (.ref s.heap.objs.size) "set":=⟨_,hS,rfl⟩
 have y7:=cs.init.lookup;have y8:=cs.init.bind (.ref s.heap.objs.size)
 repeat (any_goals (first|assumption|wp_step))
 refine hX (codeAny_call_builtin (R:=wants (λv s2=>v=.none/\∃h' tk,s2={ s with heap:=h',toks:=tk }/\B0 prog w h' s.heap.objs.size (i9 [] ns)/\(∀b o,s.heap.get? b=some o->h'.get? b=some o)/\s.toks<=tk) E) cs.init.plain F.entry_set_init (check_set_init_1 hT ?_)) ?_
 ·have jq:xB (s.heap.push (B8 w)) l items:=hl.imp (·.push _) (·.push _);have OB:=hl.lt;refine UZ (s:={ s with heap:=s.heap.push (B8 w) }) (by simp[hh]) hS jq hi hb (cc OB) λh' tk h1 h2 h3=>ax ⟨rfl,h',tk,rfl,h1,λb o e=>h2 b o (aP (aE e)) (aw _ e),h3⟩
 ·rintro(e|fl) s2 hr
  ·exact hr
  cases fl with
  |next=>exact hr
  |brk=>exact hr
  |cont=>exact hr
  |ret v =>
  obtain⟨rfl,h',tk,rfl,h1,h2,h3⟩:=hr
  repeat (any_goals (first|assumption|wp_step))
  exact h _ _ h1 h2 h3
end ST
namespace L2
open PySem PySem.Spec PyProof.Rows
def su(X:Cx)(a:Addr)(ks:List Int):HO:=.ext λh=>ST.B0 X.prog X.w h a ks
def p8(ns:List Int):List Int:=(ST.i9 [] ns).mergeSort (λa b=>decide (a<=b))
theorem Ej:∀{a b:List Int},a.Perm b->a.Pairwise (·<=·)->b.Pairwise (·<=·)->a=b
 |[],b,h,_,_=>by rw[List.nil_perm.mp h]
 |x::a,[],h,_,_=>absurd h.length_eq (by simp)
 |x::a,y::b,h,h1,h2=>by
  rw[dJ] at h1 h2;have e:x=y:=by
   have m1:=h.mem_iff (a:=y);have m2:=h.mem_iff (a:=x);simp only[List.mem_cons,true_or,true_iff,iff_true] at m1 m2;rcases m1 with z|z
   ·exact z.symm
   ·rcases m2 with z'|z'
    ·exact z'
    ·have:=h1.1 y z;have:=h2.1 x z';omega
  subst e;rw[Ej (h.cons_inv) h1.2 h2.2]
theorem aR9(ns:List Int):(p8 ns).Pairwise (·<=·):=by
 have:=sR (le:=λa b:Int=>decide (a<=b)) (λa b c h1 h2=>by simp at *;omega) (λa b=>by simp;omega) (ST.i9 [] ns);exact this.imp λh=>by simpa using h
theorem T3(ns:List Int):(p8 ns).Perm (ST.i9 [] ns):=FR _ _
theorem W9(ns:List Int):(p8 ns).length<=ns.length:=by
 rw[(T3 ns).length_eq];have:=ST.O8 ns [];simpa using this
section
variable{X:Cx}{pins:List (Addr×Obj)}{Z:St}{H:Hp}{s:Shared}
theorem Inv.draw(I:Inv X pins Z H s)(d:Drawn):Inv X pins Z H { s with drawn:=d } :=
 I.step (g':=s.gens) (t':=s.toks) (d':=d) (ch:=[]) (by simp) (λb o _ _ _ e _=>e) (λb o _ _ _ e _=>⟨o.slots,e⟩) (λb o _ _ e=>e) (λb o _ e=>⟨o,e⟩) (λ_ _ e=>e) (λ_ _ _ e=>e) (λb ps e=>⟨#[],by simp[e]⟩) (λm hm=>hm) I.bR I.bare
theorem Ls{h:Heap}{a:Addr}{ks:List Int}(x:ST.B0 X.prog X.w h a ks):n8 X.prog X.w H h a (su X a ks) :=
 ⟨x,by obtain⟨o,_,_,_,e,_⟩:=x;exact⟨o,e⟩,λh1 h2 y k=>y.at k⟩
theorem JX{ns:List Int}{vs:List Value}(h:IntsAre vs ns):Vals (ns.map V.int) vs:=by
 induction h with
 |nil=>exact .nil
 |cons n t r ih=>exact .cons ⟨t,rfl⟩ ih
theorem w9:∀{ns:List Int} {vs:List Value},Vals (ns.map V.int) vs->IntsAre vs ns
 |[],_,h=>by cases h;exact .nil
 |n::ns,_,h=>by
  cases h with
  |cons r rr =>
   obtain⟨t,rfl⟩:=r;exact .cons n t (w9 rr)
theorem Kj(hc:X.calm=true):m8 X (.type "set") (λxs H Q=>∃a ns,xs=[.ref a]/\fM X.K H a (ns.map V.int)/\ns.length<60/\∀p,H p=none->Q (.ref p) (upd H p (su X p (ST.i9 [] ns)))):=by
 intro pins s Z H xs us Q I r h;obtain⟨a,ns,rfl,hq,hl,q⟩:=h;cases r with
 |cons r rr =>
 cases rr;cases r;obtain⟨bf,rv,p,hz⟩:=I.list hq;have hI:=w9 rv;have hlen:=ST.C4 hI;refine ST.LC (ns:=ns) (I.ok.hd hc) (.inl p.isList) (by simpa using hI) (by rw[aK,hlen];exact aA (Nat.succ_lt_succ hl) ∅) λh' tk hS hk _=>?_;exact⟨.ref _,_,I.laid (a:=s.heap.objs.size) (t':=tk) hk (ay _) (Ls hS),rfl,q _ (I.bR.fresh (ay _))⟩
theorem X8(hc:X.calm=true):m8 X (.builtin "sorted") (λxs H Q=>∃a ns,xs=[.ref a]/\H a=some (su X a (ST.i9 [] ns))/\ns.length<60/\∀p,H p=none->Q (.ref p) (upd H p (.lst ((p8 ns).map V.int)))):=by
 intro pins s Z H xs us Q I r h;obtain⟨a,ns,rfl,ha,hl,q⟩:=h;cases r with
 |cons r rr =>
 cases rr;cases r;have hS:ST.B0 X.prog X.w s.heap a (ST.i9 [] ns):=(I.bR a _ ha).1;have hn:=ST.O8 ns [];simp only[List.length_nil] at hn;refine ST.aR7 (I.ok.hd hc) hS () λS vs jI e h' d' nc h1 h2 h3 h4 h5 h6 _=>?_;have e1:jI=p8 ns:=Ej (h2.trans (T3 ns).symm) h3 (aR9 ns);subst e1;have hz:=W9 ns;exact⟨.ref S,_,(I.laid (a:=S) (o:=.lst ((p8 ns).map V.int)) (t':=nc) h6 h5 ⟨by rw[ae];exact aB hz (aB (eI hl) ∅),vs,e,JX h1,h4⟩).draw d',rfl,q S (I.bR.fresh h5)⟩
end
end L2
namespace ST
open PySem PyProof.Rows
theorem UP{prog:Program}{w:World}{A:Around}{E:Value->Shared->Prop}{s:Shared}{a:Addr}{ks:List Int}{k:Int}{tk:Tok}{Q:Value->Shared->Prop}(hS:B0 prog w s.heap a ks)(hr:ks.length+1<scanBound)(h:∀h',Heap.SameBut a s.heap h'->B0 prog w h' a (F7 ks k)->Q .none { s with heap:=h',toks:=s.toks+1 }):wpAny (model prog w) A (call (.builtin "set.add") [.ref a,.int k tk]) Q E s:=by
 have hT:s.TypeIs (.ref a) "set":=let ⟨o,_,_,_,e,x,_⟩:=hS;⟨o,e,x.1⟩
 refine cO F.slot_set_add hT F.entry_set_add ?_ (F.args_set_add_2 _ _);have go:∀(Q':Fin->Shared->Prop),(∀h',Heap.SameBut a s.heap h'->B0 prog w h' a (F7 ks k)->wpAny (model prog w) A.in1 (ret .none) Q' E { s with heap:=h',toks:=s.toks+1 })->wpAny (model prog w) A.in1 (do let _ <- setAdd a (.int k tk);ret .none) Q' E s:=λQ' q=>by
  unfold setAdd;refine ag (cy (ag ((intKind prog w).pyHash (k:=k) (eU _ _ _ _) ?_)));exact Ir (s:={ s with toks:=s.toks+1 }) hS hr λh' b sb S2=>q h' sb S2
 unfold Builtin.«set.add» Builtin.Frozenset.oneOther;simp only[List.isEmpty_nil,bind_assoc];unfold Builtin.Frozenset.addrOf;refine ag (ax ?_)
 try dsimp only
 refine ag (ax ?_)
 try dsimp only
 exact go _ λh' sb S2=>ax ⟨_,rfl,h h' sb S2⟩
end ST
namespace L2
open PySem PySem.Spec PyProof.Rows
variable{elt iter:Expr}{ifs:List Expr}{scope:Scope}{pos:Pos}
section
variable{prog:Program}{w:World}{A:Around}{R:Result->Shared->Prop}{s:Shared}
theorem aR0(elt target iter:Expr)(ifs:List Expr)(scope:Scope)(pos:Pos)(it acc:Value)(env:Env):compTurn (.SetComp elt [⟨target,iter,ifs,0⟩] scope pos) 0 it acc env=(do
      standAt iter.pos
      match <- pyNext it with
      |none=>pure (.done .next)
      |some v =>
        letOwnedTupleGo target it v
        assign target env v
        let mut ok:=true
        for c in ifs do if ok then ok <- isTrue c env (eval c env)
        if ok then(do let x <- eval elt env;standAt elt.pos;let _ <- call (.builtin "set.add") [acc,x])
        again (.compLoop (.SetComp elt [⟨target,iter,ifs,0⟩] scope pos) 0 it acc env)):=by rfl
theorem aA8{target:Expr}{it acc:Value}{env:Env}(I:Nat->Shared->Prop)(turn:∀ n s,I n s->wpAny (model prog w) A (pyNext it) (λr cj=>match r with
   |none=>R (.ok .next) cj
   | some v=>wpAny (model prog w) A (letOwnedTupleGo target it v) (λ_ cj=>wpAny (model prog w) A (assign target env v) (λ_ gP =>
     wpAny (model prog w) A (forIn ifs true λc r=>if r=true then do let ok <- isTrue c env (eval c env);pure (ForInStep.yield ok) else pure (ForInStep.yield r)) (λok fo =>
      if ok=true then wpAny (model prog w) A (eval elt env) (λx jS =>
       wpAny (model prog w) A (call (.builtin "set.add") [acc,x]) (λ_ ng=>∃ m,m < n/\I m ng) (λ_ _=>False) jS) (λ_ _=>False) fo
      else ∃ m,m < n/\I m fo) (λ_ _=>False) gP) (λ_ _=>False) cj) (λ_ _=>False) cj) (λ_ _=>False) s)(n:Nat)(h:I n s) :
  codeAny (model prog w) A (.compLoop (.SetComp elt [⟨target,iter,ifs,0⟩] scope pos) 0 it acc env) R s:=by
 refine codeAny_loop rfl I (λn s hI=>?_) n h;show wpAny _ A ((compTurn (.SetComp elt [⟨target,iter,ifs,0⟩] scope pos) 0 it acc env).onRaise (λx=>do noteFrame x env;theTreesLotGoes x)) _ _ s;refine wpAny_noted ?_;rw[aR0];refine ag (fu (ag (bB (turn n s hI) (λr cj h₁=>?_) λ_ _ h'=>h'.elim)));cases r with
 |none=>exact ax h₁
 |some v =>
  refine ag (bB h₁ (λ_ cj h₁=>?_) λ_ _ h'=>h'.elim);refine ag (bB h₁ (λ_ gP jn=>ag (bB jn (λok fo nv=>?_) λ_ _ h'=>h'.elim)) λ_ _ h'=>h'.elim);cases ok with
  |false=>exact wpAny_pure ⟨rfl,nv⟩
  |true =>
   exact ag (ag (bB nv (λx jS qR=>ag (fu (ag (bB qR (λ_ ng qQ=>ax (ax ⟨rfl,qQ⟩)) λ_ _ h'=>h'.elim)))) λ_ _ h'=>h'.elim))
theorem aS4{target:Expr}{it acc:Value}{env:Env}(h0:codeAny (model prog w) A (.compLoop (.SetComp elt [⟨target,iter,ifs,0⟩] scope pos) 0 it acc env) R s)(h:wpAny (model prog w) A (pyIter it) (λGJ s'=>codeAny (model prog w) A (.compLoop (.SetComp elt [⟨target,iter,ifs,0⟩] scope pos) 0 GJ acc env) R s') (notedBy (model prog w) A env λx s'=>R (.error x) s') s) :
  codeAny (model prog w) A (.compStart (.SetComp elt [⟨target,iter,ifs,0⟩] scope pos) 0 it acc env) R s:=by
 refine uC (?_:wpAny _ _ ((compStart (.SetComp elt [⟨target,iter,ifs,0⟩] scope pos) 0 it acc env).onRaise (λx=>do noteFrame x env;standAt theWindowsPlace)) _ _ s);refine wpAny_notedAt ?_;unfold compStart;refine ag (qm (wpAny_ite ?_));split
 ·first
   |exact ax ⟨rfl,h0⟩
   |exact ag (ax (ax ⟨rfl,h0⟩))
 ·refine ag (Ab ?_);exact ag (fu (ag (bB h (λGJ s' h'=>ax ⟨rfl,h'⟩) λ_ _ x=>x)))
end
def EY(o:Obj):Prop:=∀v,o.data≠.cell v
def Sm(X:Cx)(wi:TI)(d4:List Nat)(n:Nat)(g:TG)(tc:TT)(te:TE):TE:=λZ H Q=>wi Z H λJ H1=>∃W:Nat->Nat->List Int->St->Hp->Prop,(∃m,W 0 m [] (E9 Z d4 n) H1)/\∀i m ys Z H,W i m ys Z H ->
 (J.stop i H/\∀p,H p=none->Q (.ref p) (upd H p (su X p (ST.i9 [] ys)))) \/
 (J.go i H/\ys.length < 60/\∀ x H',J.qu i H x H'->g x Z H' λcA H2=>tc cA H2 λb H3 =>
  if b=true then te cA H3 λy H4=>∃ k,y=.int k/\∃ m',m' < m/\W (i + 1) m' (ys ++ [k]) cA H4 else ∃ m',m' < m/\W (i + 1) m' ys cA H3)
section
variable{X:Cx}{pins:List (Addr×Obj)}{Z:St}{H:Hp}{s:Shared}
theorem Inv.Sr{D:Addr}{φ:Heap->Prop}(I:Inv X pins Z H s)(f:F1 X pins H D)(hs:X.dz.heap.objs.size<=D)(ho:n8 X.prog X.w (upd H D (.ext φ)) s.heap D (.ext φ)):Inv X pins Z (upd H D (.ext φ)) s:=by
 obtain⟨f0,f1,f2,f3,f4,f5⟩:=f;have ft:∀b o,X.dz.heap.get? b=some o->b≠D:=λb o e z=>absurd (aE e) (by rw[z];exact kl.mpr hs);have tup:∀b u,H b=some u->upd H D (.ext φ) b=some u:=λb u e=>by rw[f6 (m9 e f0)];exact e
 refine⟨I.ok,I.os,I.bare,⟨?_,?_,?_,I.base.there,?_,?_,?_⟩,I.loc,I.cell,?_,?_,?_,?_,I.len⟩
 ·exact λb o e n1 n2 n3=>I.base.keep b o e n1 n2 n3
 ·exact λb o e n1 n2 n3=>I.base.slot b o e n1 n2 n3
 ·exact λb o e n1 n2=>by rw[f6 (ft b o e)];exact I.base.free b o e n1 n2
 ·exact λb xs e=>tup _ _ (I.base.iL b xs e)
 ·exact λb o u e=>tup _ _ (I.base.iB b o u e)
 ·exact λb ps e=>by
   obtain⟨more,q⟩:=I.base.iM b ps e;exact⟨more,tup _ _ q⟩
 ·rw[f6 f1.symm];exact I.free
 ·exact λx c e=>by rw[f6 (f4 x c e)];exact I.eQ x c e
 ·intro p hp;obtain⟨p1,p2,p3⟩:=I.pin p hp;exact⟨p1,by rw[f6 (f5 p hp)];exact p2,p3⟩
 ·intro a o e;by_cases ha:a=D
  ·subst ha;rw[v7] at e;cases e;exact ho
  ·rw[f6 ha] at e;have q:=I.bR a o e;refine q.Y2 (λb u _ h=>h) (λb hb=>tup _ _ hb) (λb xs hb=>tup _ _ hb)
theorem aK8{tg:Expr}{N':List Str}{d4:List Nat}{cl:List (Str×Addr)}{it:Addr}{fp:List Addr}{tn:Nat->Heap->Prop}{J:It}{g:TG}{tc:TT}{te:TE}{RR:Value->Addr->Result->Shared->Prop}{E:Value->Shared->Prop}{W:Nat->Nat->List Int->St->Hp->Prop}{m0:Nat}{Q:VK}(S:dD X scope N' d4 cl)(hc:X.calm=true)(hg:∀C s H,PG (d7 X pins scope N' cl C s H fp) tg g)(ht:∀C s H,lQ (d7 X pins scope N' cl C s H fp) ifs tc)(he:∀C s H,PE (d7 X pins scope N' cl C s H fp) elt te)(I:Inv X pins Z H s)(T:Turn X.prog X.w X.K tg J fp it tn)(st:tn 0 s.heap)(hf:∀b∈fp,F1 X pins H b)(w0:W 0 m0 [] (E9 Z d4 N'.length) H)(turn:∀ i m ys Z H,W i m ys Z H->(J.stop i H/\∀ p,H p=none->Q (.ref p) (upd H p (su X p (ST.i9 [] ys)))) \/
   (J.go i H/\ys.length < 60/\∀ x H',J.qu i H x H'->g x Z H' λcA H2=>tc cA H2 λb H3 =>
    if b=true then te cA H3 λy H4=>∃ k,y=.int k/\∃ m',m' < m/\W (i + 1) m' (ys ++ [k]) cA H4 else ∃ m',m' < m/\W (i + 1) m' ys cA H3))(BQ:∀D C s' H' m,Inv X pins Z H' s'->Q (.ref D) H'->s'.heap.Ns C m->H' C=none->s.heap.objs.size<=C->RR (.ref D) C (.ok .next) s') :
  wpAny (model X.prog X.w) X.A (newSet (.type "set")) (λacc fo=>wpAny (model X.prog X.w) X.A (newFunctionEnv scope X.env.globals cl [] X.env.qual none .none (some X.env)) (λmy jS =>
   codeAny (model X.prog X.w) X.A (.compStart (.SetComp elt [⟨tg,iter,ifs,0⟩] scope pos) 0 (.ref it) acc { my with scope:=relabel scope X.env }) (RR acc my.locals) jS) E fo) E s:=by
 refine ST.Ld (Kq λh₁ gX fX nF=>?_);dsimp only at gX fX nF ⊢;generalize rA:s.heap.push (ST.B8 X.w)=H2 at gX fX nF ⊢;generalize eD:s.heap.objs.size=D at *;have hC:H2.objs.size=D+1:=by rw[<- rA,eX,eD]
 generalize eC:H2.objs.size=C at *;have wm:D≠C:=by omega
 have lt:∀b o,s.heap.get? b=some o->b<D:=λb o e=>by rw[<- eD];exact aE e
 have qN:D<=C:=by omega
 have pM:∀b o,s.heap.get? b=some o->b≠C:=λb o e=>aP (aA (lt b o e) qN);have nr:∀b o,s.heap.get? b=some o->b≠D:=λb o e=>aP (lt b o e);have old:∀b o,s.heap.get? b=some o->h₁.get? b=some o:=λb o e=>fX b o (rA▸aw _ e);have lB:h₁.get? D=some (ST.B8 X.w):=fX _ _ (by rw[<- rA,<- eD];exact aG _ rfl);have jo:∀b∈fp,∃o,s.heap.get? b=some o:=λb hb=>by
  obtain⟨o,e,_⟩:=T.obj _ _ st b hb;exact⟨o,e⟩
 have wk:D∉fp:=λhm=>by
  obtain⟨o,e⟩:=jo D hm;exact nr D o e rfl
 have X1:Inv (d7 X pins scope N' cl C s H fp) [] (E9 Z d4 N'.length) H { s with heap:=h₁ } :=
  I.JG S hc hf jo (by rw[eD];omega) ⟨_,gX⟩ old nF
 have uO:tn 0 h₁:=T.keep _ _ _ st λb _ o e=>old b o e;have Cq:∀{H':Hp},(∀b∈fp,H' b=none)->∀b∈fp,F1 (d7 X pins scope N' cl C s H fp) [] H' b:=λhn b hb=>by
  obtain⟨f0,f1,f2,f3,f4,f5⟩:=hf b hb;obtain⟨o,e⟩:=jo b hb;refine⟨hn b hb,?_,?_,.inl hb,λx c q=>(zp nF q).elim (λl z=>absurd (cX (z▸l) (aA (lt b o e) qN)) (bA _)) λq=>f4 x c (S.cin x c q),λp hp=>?_⟩
  ·exact pM b o e
  ·exact λz=>by
    rcases aH.mp (I.N6 b z) with z|z
    ·exact f1 z
    ·exact f2 z
  ·have jW:p∈X.pn++pins:=by simpa[d7] using hp
   exact f5 p jW
 have fD:∀{H':Hp},H' D=none->F1 (d7 X pins scope N' cl C s H fp) [] H' D:=λhn=>by
  refine⟨hn,wm,λz=>?_,.inr (by show s.heap.objs.size<=D;omega),λx c q=>?_,λp hp=>?_⟩
  ·exact absurd (I.xF (a:=D) ()) λmM=>by
    rcases aH.mp (I.N6 D z) with z|z
    ·exact absurd I.lt (by rw[<- z,eD];exact bA _)
    ·exact mM z
  ·rcases zp nF q with l|q
   ·exact λz=>absurd (aA (z▸l) qN) (bA _)
   ·obtain⟨v,o,e,_⟩:=I.cell x c (S.cin x c q);exact nr c o e
  ·have jW:p∈X.pn++pins:=by simpa[d7] using hp
   exact nr _ _ (I.pin p jW).1
 have qK:∀{H':Hp} {s':Shared} {bY:St} {oD:Obj},EY oD->Inv (d7 X pins scope N' cl C s H fp) [] bY H' s'->H' D=none->s'.heap.get? D=some oD ->
   Inv (d7 X pins scope N' cl C s H fp) [(D,oD)] bY H' s':=λ{H' s' bY oD} jX J0 hn e=>J0.M7 λp hp=>by
  have z:p=(D,oD):=by simpa using hp
  subst z;obtain⟨f0,f1,f2,_⟩:=fD hn;exact⟨e,f0,f1,f2,jX⟩
 have oj:∀{H':Hp} {oD:Obj},(∀b∈fp,H' b=none)->∀b∈fp,F1 (d7 X pins scope N' cl C s H fp) [(D,oD)] H' b:=λ{H' oD} hn b hb=>by
  obtain⟨f0,f1,f2,f3,f4,f5⟩:=Cq hn b hb;refine⟨f0,f1,f2,f3,f4,λp hp=>?_⟩;have jW:p∈(d7 X pins scope N' cl C s H fp).pn\/p=(D,oD):=by simpa using hp
  rcases jW with z|z
  ·exact f5 p (dq _ z)
  ·subst z;exact λz=>wk (by rw[show D=b from z];exact hb)
 have loop:∀fo:Shared,fo={ s with heap:=h₁ } ->
   codeAny (model X.prog X.w) X.A (.compLoop (.SetComp elt [⟨tg,iter,ifs,0⟩] scope pos) 0 (.ref it) (.ref D) (compEnvC scope (M4 scope cl C) C X.env)) (RR (.ref D) C) fo:=by
  rintro fo rfl;refine aA8 (λn s'=>∃ (i:Nat) (ys:List Int) (bY:St) (H':Hp) (oD:Obj),Inv (d7 X pins scope N' cl C s H fp) [] bY H' s'/\tn i s'.heap/\(∀ b ∈ fp,H' b=none)/\H' D=none/\ys.length <= 60/\EY oD /\
   s'.heap.get? D=some oD/\ST.B0 X.prog X.w s'.heap D (ST.i9 [] ys)/\W i n ys bY H') ?_ m0 ⟨0,[],_,H,ST.B8 X.w,X1,uO,λb hb=>(hf b hb).1,I.bR.fresh (),bU _,(λv (z:Data.set _ _ _=_)=>by cases z),lB,ST.Jl lB,w0⟩
  rintro n s3 ⟨i,ys,iK,H3,oD,I3,pK,pZ,d3,z3,c3,o3,S3,w3⟩;have xT:=qK c3 I3 d3 o3;rcases turn i n ys iK H3 w3 with⟨stop,q⟩|⟨go,hz,step⟩
  ·refine cI (T.done (d7 X pins scope N' cl C s H fp) rfl rfl rfl rfl i _ s3 _ H3 _ xT (oj pZ) pK stop) λr s4 ⟨hr,I4⟩=>?_;subst hr;have o4:=(I4.pin (D,oD) (by simp)).1;have J4:Inv X pins Z H3 s4:=I.LJ hf I4;have Cr:F1 X pins H3 D:=by
    refine⟨d3,cc (by rw[<- eD];exact I.lt),I.xF (),.inr (by have:=I.sz;omega),λx c q=>?_,λp hp=>?_⟩
    ·obtain⟨v,o,e,_⟩:=I.cell x c q;exact nr c o e
    ·exact nr _ _ (I.pin p hp).1
   obtain⟨mC,Bn,_⟩:=I4.loc;exact BQ D C s4 (upd H3 D (su X D (ST.i9 [] ys))) mC (J4.Sr Cr (by have:=I.sz;omega) (Ls (S3.at λo e=>by rw[o3] at e;cases e;exact o4))) (q D d3) Bn (by rw[f6 wm.symm];exact I4.free) ()
  ·refine cI (T.item (d7 X pins scope N' cl C s H fp) rfl rfl rfl rfl i _ s3 _ H3 _ xT (oj pZ) pK go) λr s4 ⟨u,hr,h4⟩=>?_;subst hr;refine cI h4 λ_ s5 bq=>?_;obtain⟨x,H5,I5,r5,y5,nh,wC⟩:=bq;have o5:=I5.pin (D,oD) (by simp);have xS:=I5.pinned (oj wC) (T.obj _ _ nh);refine cI (hg C s H _ s5 _ H5 x u _ xS r5 (step x H5 y5)) λ_ s6 bq=>?_;obtain⟨lV,H6,I6,q6⟩:=bq;refine cI (ht C s H _ s6 lV H6 _ I6 q6) λok s7 ⟨H7,I7,q7⟩=>?_;have back:∀{uI:St} {H8:Hp} {s8:Shared},Inv (d7 X pins scope N' cl C s H fp) ([(D,oD)]++Z8 fp s5.heap) uI H8 s8->(∀b∈fp,H8 b=none)/\tn (i+1) s8.heap/\H8 D=none/\s8.heap.get? D=some oD :=
    λ{uI H8 s8} I8=>by
     have pf:∀b∈fp,∀o,s5.heap.get? b=some o->s8.heap.get? b=some o/\H8 b=none:=λb hb o e=>by
      have:=I8.pin (b,o) (bu _ (bu _ (T6 hb e)));exact⟨this.1,this.2.1⟩
     have pd:=I8.pin (D,oD) (by simp);refine⟨λb hb=>?_,T.keep _ _ _ nh λb hb o e=>(pf b hb o e).1,pd.2.1,pd.1⟩;obtain⟨o,e,_⟩:=T.obj _ _ nh b hb;exact(pf b hb o e).2
   cases ok with
   |false =>
    obtain⟨m',hm,w7⟩:=q7;obtain⟨b1,b2,b3,b4⟩:=back I7;exact⟨m',hm,i+1,ys,lV,H7,oD,I7.M7 λp hp=>absurd hp (by simp),b2,b1,b3,z3,c3,b4,S3.at λo e=>by rw[o3] at e;cases e;exact b4,w7⟩
   |true =>
    refine cI (he C s H _ s7 lV H7 _ I7 q7) λxv s8 bq=>?_;obtain⟨y,H8,I8,r8,kk,ey,m',hm,w8⟩:=bq;subst ey;obtain⟨tk,rfl⟩:=r8;obtain⟨b1,b2,b3,b4⟩:=back I8;have S8:ST.B0 X.prog X.w s8.heap D (ST.i9 [] ys):=S3.at λo e=>by rw[o3] at e;cases e;exact b4
    have AQ:=ST.O8 ys [];simp only[List.length_nil] at AQ;refine ST.UP S8 (aA (by omega:_<62) ∅) λh' sb S9=>?_;have e9:ST.F7 (ST.i9 [] ys) kk=ST.i9 [] (ys++[kk]):=by unfold ST.i9;rw[List.foldl_append];rfl
    rw[e9] at S9;obtain⟨o9,es9,ep9,t9,g9,x9,d9,r9⟩:=id S9;have c9:EY o9:=λv z=>by rw[d9] at z;cases z
    have FJ:Inv (d7 X pins scope N' cl C s H fp) [] lV H8 s8:=I8.M7 λp hp=>absurd hp (by simp);obtain⟨f0,f1,f2,f3,f4,f5⟩:=fD (H':=H8) b3;have kp:∀b o,b≠D->s8.heap.get? b=some o->h'.get? b=some o:=λb' u hb hu=>by rw[sb.2 b' hb];exact hu
    refine⟨m',hm,i+1,ys++[kk],lV,H8,o9,FJ.turned (it:=D) (t':=s8.toks+1) kp f0 f1 f3 f4 f5,T.keep _ _ _ b2 λb hb o e=>kp b o (λz=>wk (by rw[<- z];exact hb)) e,b1,b3,?_,c9,g9,S9,w8⟩;rw[bg,je];omega
 exact aS4 (loop _ rfl) (T.self _ 0 _ _ _ uO (loop _ rfl))
theorem Vs{tg:Expr}{N':List Str}{d4:List Nat}{cl:List (Str×Addr)}{wi:TI}{g:TG}{tc:TT}{te:TE}(S:dD X scope N' d4 cl)(hc:X.calm=true)(hi:PI X tg iter wi)(hg:∀pins C s H fp,PG (d7 X pins scope N' cl C s H fp) tg g)(ht:∀pins C s H fp,lQ (d7 X pins scope N' cl C s H fp) ifs tc)(he:∀pins C s H fp,PE (d7 X pins scope N' cl C s H fp) elt te)(hs:∀x,foldedSetIterable iter X.env x=pure x):PE X (.SetComp elt [⟨tg,iter,ifs,0⟩] scope pos) (Sm X wi d4 N'.length g tc te):=by
 intro pins s Z H Q I h;rw[arm_eval_SetComp];refine iZ (use:=none) rfl hs S.rX S.kind S.names (cI (hi pins s Z H _ I h) λxv cj h₁=>cI h₁ λvt gP jn=>?_);obtain⟨it,fp,tn,J,H2,e,I2,T,lp,f2,W,⟨m0,w0⟩,turn⟩:=jn;subst e;refine aK8 (RR:=λacc C=>compPost (model X.prog X.w) X.A X.xe none (EP X pins Z Q) acc C) S hc (λC s H=>hg pins C s H fp) (λC s H=>ht pins C s H fp) (λC s H=>he pins C s H fp) I2 T lp f2 w0 turn ?_;intro D C s' H' m I' q hn hC hsz;exact⟨m,hn,λh' sb=>⟨.ref D,H',I'.IJ hsz I2 hC sb,rfl,q⟩⟩
end
end L2
namespace HT
open PySem PyProof.Rows Builtin
end HT
namespace L2
open PySem PySem.Spec PyProof.Rows
def Tc(sep:Str)(ys:List Str):Nat:=ys.foldl (λn y=>n+y.length+sep.length) 0
end L2
namespace HT
open PySem PyProof.Rows Builtin PySem.SeqAt
section
variable{prog:Program}{w:World}{A:Around}{E:Value->Shared->Prop}{s:Shared}
theorem a20:typeLookup (.type "tuple") (dunderI "add")=pure none:=by
 show typeLookup (.type "tuple") "__iadd__"=pure none;rw[kf,gk];kernel_rfl
theorem UX{t b:Addr}{vs ws:List Value}{Q:Value->Shared->Prop}(ht:IsTup s.heap t vs.toArray)(hb:IsTup s.heap b ws.toArray)(h0:vs=[]->Q (.ref b) s)(h1:ws=[]->Q (.ref t) s)(h2:Q (.ref s.heap.objs.size) { s with heap:=s.heap.push { cls:=.type "tuple",data:=.seq (vs++ws).toArray } })(hsz:vs.length+ws.length<=sizeLine):wpAny (model prog w) A (inplaceOp .Add (.ref t) (.ref b)) Q E s:=by
 obtain⟨⟨cls,dd,data,sl⟩,ho,hc,n,hd⟩:=id ht;obtain⟨⟨QE,CH,data2,oA⟩,oN,vV,n2,hd2⟩:=id hb;simp only at hc hd vV hd2;subst hc hd vV hd2;have e:vs.toArray++ws.toArray=(vs++ws).toArray:=by simp
 refine wpAny_inplaceOp_concat (T:="tuple") ⟨_,ho,rfl⟩ ⟨_,oN,rfl⟩ a20 noFill_tuple_add seq_tuple_add ?_;by_cases hv:vs=[]
 ·subst hv;exact fG qp ⟨_,ho,rfl⟩ oy (mY _ _) (tuple_addW0 t b #[] ws.toArray n n2 dd CH sl oA rfl) ⟨ho,oN,h0 rfl⟩
 by_cases hw:ws=[]
 ·exact fG qp ⟨_,ho,rfl⟩ oy (mY _ _) (tuple_addW1 t b vs.toArray ws.toArray n n2 dd CH sl oA (by simpa using hv) (by simp[hw])) ⟨ho,oN,h1 hw⟩
 ·refine fG qp ⟨_,ho,rfl⟩ oy (mY _ _) (tuple_addW2 t b vs.toArray ws.toArray n n2 dd CH sl oA (by simpa using hv) (by simpa using hw) (by rw[aK,aK];exact hsz)) ⟨ho,oN,?_⟩;rw[e];exact h2
end
end HT
namespace L2
open PySem PySem.Spec PyProof.Rows
section
variable{X:Cx}
def Mt(H:Hp)(ys:List V)(y:V)(n:Nat):Prop:=∃(bs:List Addr) (b:Addr) (ms:List Int),ys=bs.map .ref/\y=.ref b/\H b=some (.lst (ms.map .int))/\(∀c∈bs,∃ns:List Int,H c=some (.lst (ns.map .int))/\ns.length=ms.length) /\
 (∃c,bs[n]?=some c/\H c=some (.lst (ms.map .int)))/\∀(m:Nat) c,m<n->bs[m]?=some c->H c≠some (.lst (ms.map .int))
theorem Jw:∀{bs:List Addr} {us:List Value},Vals (bs.map V.ref) us->us=bs.map Value.ref
 |[],_,.nil=>rfl
 |b::bs,u::us,.cons r t=>by rw[Jw t,show u=.ref b from r];rfl
theorem KS{vs:List Value}{ns:List Int}(h:IntsAre vs ns):∀{i:Nat} (hi:i<vs.length) (hj:i<ns.length),∃t,vs[i]=.int ns[i] t:=by
 induction h with
 |nil=>intro i hi;simp at hi
 |cons _ _ _ ih =>
  intro i hi hj;cases i with
  |zero=>exact⟨_,rfl⟩
  |succ i=>simpa using ih (by simpa using hi) (by simpa using hj)
theorem aV5{pins:List (Addr×Obj)}{Z:St}{H:Hp}{s:Shared}{c b:Addr}{ns ms:List Int}(hu:X.A.units+100<cLine)(I:Inv X pins Z H s)(hc:H c=some (.lst (ns.map .int)))(hb:H b=some (.lst (ms.map .int)))(hl:ns.length=ms.length):SeqAt.EqAt X.A.in1 s (.ref c) (.ref b) (decide (ns=ms)):=by
 by_cases e:c=b
 ·subst e;rw[hc] at hb;have h:ns.map V.int=ms.map V.int:=by injection hb with hb;injection hb
  rw[au ((dM λx y q=>by injection q).mp h)];exact SeqAt.EqAt.same _
 ·obtain⟨_,bf,n,rv,l1,e1⟩:=I.ph hc;obtain⟨_,mj,n2,AE,l2,e2⟩:=I.ph hb;have i1:=w9 rv;have i2:=w9 AE;rw[ae] at l1 l2;have h:=SeqAt.RcAt.lists (A:=X.A.in1) (s:=s) (l:=c) (b:=b) (items:=bf.toArray) (items2:=mj.toArray) (e:=λj=>ns.getD j 0==ms.getD j 0) ⟨_,e1,rfl,n,rfl⟩ ⟨_,e2,rfl,n2,rfl⟩ (by simp;omega) (by show X.A.units+1<_;omega) λj j1 j2=>by
   simp only[List.size_toArray] at j1 j2;obtain⟨t1,q1⟩:=KS i1 j1 ();obtain⟨t2,q2⟩:=KS i2 j2 ();rw[Ag,Ag,q1,q2];simp only[List.getD,List.getElem?_eq_getElem (show j<ns.length by omega),List.getElem?_eq_getElem (show j<ms.length by omega),Option.getD_some];exact SeqAt.EqAt.int_int _ _ _ _
  have hz:(List.range bf.toArray.size).all (λj=>ns.getD j 0==ms.getD j 0)=decide (ns=ms):=by
   by_cases q:ns=ms
   ·subst q;simp
   ·rw[av q];refine lg.mpr λz=>q (ir hl λj j1 j2=>?_);have:=cz.mp z j (aN.mpr (by simp;omega));simpa[List.getD,List.getElem?_eq_getElem j1,List.getElem?_eq_getElem j2] using this
  rw[hz] at h;exact SeqAt.EqAt.of_refs e h
def Ln(K:PySem.W.Frag):V->List V->Hp->VK->Prop:=λx xs H Q=>∃a ys y n,x=.ref a/\xs=[y]/\fM K H a ys/\Mt H ys y n/\n<2 ^ 62/\Q (.int n) H
theorem a23(hu:X.A.units+100<cLine):mR X "list.index" (Ln X.K):=by
 intro pins s Z H x xs v us Q I rx r h;obtain⟨a,ys,y,n,rfl,rfl,hq,W,oO,q⟩:=h;cases rx;cases r with
 |cons ry rr =>
 cases rr;obtain⟨bf,rv,p,hz⟩:=I.list hq;have pt:=p.isList.typeIs;obtain⟨⟨cls,dd,data,sl⟩,k,ho,hc,Hv,hd⟩:=id p;simp only at hc Hv hd;subst hc Hv hd;obtain⟨bs,b,ms,rfl,rfl,hb,yz,⟨c,h1,h2⟩,mM⟩:=W
 ·cases ry;have:=Jw rv;subst this;have iS:n<(bs.map Value.ref).toArray.size:=by
   have:=(aj.mp h1).1;simpa using this
  let e:Value->Bool:=λu=>@decide (∃c,u=.ref c/\H c=some (.lst (ms.map .int))) (Classical.propDecidable _)
  have he:∀{c:Addr},e (.ref c)=true↔H c=some (.lst (ms.map .int)):=λ{c}=>by
   show @decide _ (Classical.propDecidable _)=true↔_;rw[@decide_eq_true_iff _ (Classical.propDecidable _)];exact⟨λ⟨c',z1,z2⟩=>by cases z1;exact z2,λz=>⟨c,rfl,z⟩⟩
  refine fG F.slot_list_index pt F.entry_list_index (F.args_list_index_2 _ _) (SeqAt.list_indexAt a (bs.map Value.ref).toArray k none sl _ e n iS () ?_ λm hm OA=>?_) ⟨ho,λw hw=>?_,⟨.int n,H,I.tok _,⟨_,rfl⟩,q⟩⟩
  ·rw [show (bs.map Value.ref).toArray[n]=.ref c by
    have:=(aj.mp h1).2;simp [this]]
   exact he.mpr h2
  ·have pR:m<bs.length:=by simpa using hm
   rw[show(bs.map Value.ref).toArray[m]=.ref bs[m] by simp];exact lg.mpr λz=>mM m bs[m] OA (ai pR) (he.mp z)
  ·obtain⟨c,hc,rfl⟩:=aL.mp (show w∈bs.map Value.ref by simpa using hw);obtain⟨ns,n1,n2⟩:=yz c hc;rw [show e (.ref c)=decide (ns=ms) by
    by_cases q:ns=ms
    ·subst q;rw[au rfl];exact he.mpr n1
    ·rw[av q];refine lg.mpr λz=>q ?_;have:=he.mp z;rw[n1] at this;have h:ns.map V.int=ms.map V.int:=by injection this with this;injection this
     exact (dM λx y q=>by injection q).mp h]
   exact aV5 hu I n1 hb n2
def CU(K:PySem.W.Frag)(H:Hp)(a:Addr)(xs:List V):Prop :=
 H a=some (.tup xs)\/∃(o:Obj) (bf:Array Value) (n:Nat),K.lookup a=some o/\o.cls=.type "tuple"/\o.dict=none/\o.data=.seq bf n/\bf.size<=sizeLine/\Vals xs bf.toList
theorem CU.sq{K:PySem.W.Frag}{H:Hp}{a:Addr}{xs:List V}(h:CU K H a xs):jB K H a xs:=by
 rcases h with h|⟨o,bf,n,h1,h2,_,h3,h4,h5⟩
 ·exact .inl (.inl h)
 ·exact .inr ⟨o,bf,n,h1,h2,h3,h4,h5⟩
def Sk(K:PySem.W.Frag)(to:TE)(t:TA):TE:=λZ H Q=>to Z H λx H1=>∃a xs,x=.ref a/\fM K H1 a xs/\t Z H1 λys H2=>Ln K x ys H2 Q
theorem Vq{o e:Expr}{es:List Expr}{to:TE}{t:TA}{apos eR:Pos}(hu:X.A.units+100<cLine)(ho:PE X o to)(ha:PA X (e::es) t)(gG:attributeBase o "index" X.env (eval o X.env)=eval o X.env)(lA:((backTo eR (starEach (e :: es) X.env)).all (λx=>!x.1) && (backToKw eR (keywordEach [] X.env)).all (λx=>x.1.isSome)
   && decide ((e :: es).length + ([]:List Keyword).length + (if ([]:List Keyword).isEmpty then 0 else 1) < 30))=true)(gF:(apos.endLine==eR.line)=true)(hs:starEach (e::es) X.env=(false,eval e X.env)::starEach es X.env)(fq:(backTo eR (starEach es X.env)).any (·.1)=false) :
  PE X (.Call (.Attribute o "index" apos) (e::es) [] eR) (Sk X.K to t):=by
 intro pins s Z H Q I h;refine wpAny_Call_method_late gG lA gF rfl (cI (ho pins s Z H _ I h) λv s1 bq=>?_);obtain⟨x,H1,I1,r1,q1⟩:=bq;obtain⟨a,xs,rfl,hq,q1⟩:=q1
 ·cases r1;obtain⟨bf,rv,pl,hz⟩:=I1.list hq;have pt:=pl.isList.typeIs;obtain⟨ob,k,e1,_,e2,_⟩:=id pl;refine⟨"list","list.index",F.plainAttrs_list,F.slot_list_index,F.type_list_index,pt,λb q=>by cases q;exact⟨ob,e1,e2⟩,?_⟩;have hA:=ha eR pins s1 Z H1 _ I1 q1;rw[hs] at hA ⊢;refine jQ (by show(false||(backTo eR (starEach es X.env)).any (·.1))=false;rw[fq]<;>rfl) (kZ ?_);exact cI hA λus s2 ⟨vs,H2,I2,r2,q2⟩=>a23 hu pins s2 Z H2 (.ref a) vs (.ref a) us Q I2 rfl r2 q2
def Ys(K:PySem.W.Frag):V->V->Hp->VK->Prop:=λx y H Q=>(∃i j,x=.int i/\y=.int j/\Q (.int (i+j)) H) \/
 ∃a b xs ys,x=.ref a/\y=.ref b/\jB K H a xs/\jB K H b ys/\xs.length+ys.length<=sizeLine/\(xs=[]->Q (.ref b) H)/\(ys=[]->Q (.ref a) H)/\(∀p,H p=none->Q (.ref p) (upd H p (.tup (xs++ys))))
theorem SV:Jb X .Add (Ys X.K):=by
 rintro pins s Z H x y u v Q I rx ry h;rcases h with h|⟨a,b,xs,ys,rfl,rfl,ha,hb,hz,q0,q1,q2⟩
 ·exact Zj pins s Z H x y u v Q I rx ry h
 ·cases rx;cases ry;obtain⟨bf,r1,p1,_⟩:=I.tuple ha;obtain⟨mj,r2,p2,_⟩:=I.tuple hb;refine HT.UX p1 p2 (λz=>⟨.ref b,H,I,rfl,q0 (r1.Le.mp z)⟩) (λz=>⟨.ref a,H,I,rfl,q1 (r2.Le.mp z)⟩) ?_ (by rw[<- r1.length,<- r2.length];exact hz);refine⟨.ref s.heap.objs.size,_,I.laid (t':=s.toks) (o:=.tup (xs++ys)) (λb ob q=>aw _ q) (ay _) ?_,rfl,q2 _ (I.bR.fresh (ay _))⟩;exact⟨by rw[bg];exact hz,_,r1.append r2,S0.new _ _⟩
end
end L2
namespace ST
open PySem PyProof.Rows
def Spot(k:Int):Prop:=0<=k/\k<8
end ST
namespace L2
open PySem PySem.Spec PyProof.Rows
variable{X:Cx}
end L2
namespace ST
open PySem PyProof.Rows
end ST
namespace L2
open PySem PySem.Spec PyProof.Rows
variable{X:Cx}
theorem Z1{bf:List Value}{ns:List Int}(hi:IntsAre bf ns):∃xs,bf.toArray=intItems xs/\ns=xs.toList.map (·.1):=by
 obtain⟨xs,e⟩:=hi.allInts.items;exact⟨xs,e,by rw[<- hi.numsOf,<- nums_intItems,<- e]⟩
theorem a51(hc:X.calm=true):m8 X (.builtin "sum") (λxs H Q=>∃a,∃ns:List Int,xs=[.ref a]/\fM X.K H a (ns.map V.int)/\Q (.int ns.sum) H):=by
 intro pins s Z H xs us Q I r h;obtain⟨a,ns,rfl,ha,q⟩:=h;obtain⟨u,rfl,ru⟩:=vals1 r;cases ru;obtain⟨bf,rv,p,hz⟩:=I.list ha;obtain⟨xs,e,en⟩:=Z1 (w9 rv);refine sum_intListG (xs:=xs) (I.ok.hd hc) (by rw[<- e];exact p.isList) λh' tk t' k=>⟨.int ns.sum,H,I.kept k,⟨t',?_⟩,q⟩
 rw[preSum_eq,fz (by simp),en]
theorem a54(hc:X.calm=true):m8 X (.builtin "max") (λxs H Q=>∃a,∃(ns:List Int) (M:Int),xs=[.ref a]/\fM X.K H a (ns.map V.int)/\M∈ns/\(∀x∈ns,x<=M)/\Q (.int M) H):=by
 intro pins s Z H xs us Q I r h;obtain⟨a,ns,M,rfl,ha,hm,hM,q⟩:=h;obtain⟨u,rfl,ru⟩:=vals1 r;cases ru;obtain⟨bf,rv,p,hz⟩:=I.list ha;obtain⟨xs,e,en⟩:=Z1 (w9 rv);have hsz:0<xs.size:=by
  have:=fA hm;rw[en,ae,bD] at this;exact this
 refine max_intList (xs:=xs) (I.ok.hd hc) (by rw[<- e];exact p.isList) hsz λv h' tk hv k=>?_;obtain⟨t,rfl⟩:=intItems_at hv;obtain⟨h1,h2⟩:=argBest_gt (numAt xs) (xs.size-1);generalize argBest (λi j=>decide (numAt xs i>numAt xs j)) (xs.size-1)=j0 at *;have m1:numAt xs j0∈ns:=by rw[en,numAt_eq];exact getD_mem (by rw[ae,bD];omega)
 have m2:M<=numAt xs j0:=by
  rw[en] at hm;obtain⟨j,hj,rfl⟩:=mem_getD hm;rw[ae,bD] at hj;rw[<- numAt_eq];exact h2 j ()
 have e2:numAt xs j0=M:=Int.le_antisymm (hM _ m1) m2;exact⟨.int M,H,I.kept k,⟨t,by rw[e2]⟩,q⟩
theorem a52(hc:X.calm=true):m8 X (.builtin "min") (λxs H Q=>∃a,∃(ns:List Int) (M:Int),xs=[.ref a]/\fM X.K H a (ns.map V.int)/\M∈ns/\(∀x∈ns,M<=x)/\Q (.int M) H):=by
 intro pins s Z H xs us Q I r h;obtain⟨a,ns,M,rfl,ha,hm,hM,q⟩:=h;obtain⟨u,rfl,ru⟩:=vals1 r;cases ru;obtain⟨bf,rv,p,hz⟩:=I.list ha;obtain⟨xs,e,en⟩:=Z1 (w9 rv);have hsz:0<xs.size:=by
  have:=fA hm;rw[en,ae,bD] at this;exact this
 refine min_intList (xs:=xs) (I.ok.hd hc) (by rw[<- e];exact p.isList) hsz λv h' tk hv k=>?_;obtain⟨t,rfl⟩:=intItems_at hv;obtain⟨h1,h2⟩:=argBest_lt (numAt xs) (xs.size-1);generalize argBest (λi j=>decide (numAt xs i<numAt xs j)) (xs.size-1)=j0 at *;have m1:numAt xs j0∈ns:=by rw[en,numAt_eq];exact getD_mem (by rw[ae,bD];omega)
 have m2:numAt xs j0<=M:=by
  rw[en] at hm;obtain⟨j,hj,rfl⟩:=mem_getD hm;rw[ae,bD] at hj;rw[<- numAt_eq];exact h2 j ()
 have e2:numAt xs j0=M:=Int.le_antisymm m2 (hM _ m1);exact⟨.int M,H,I.kept k,⟨t,by rw[e2]⟩,q⟩
theorem a57(hc:X.calm=true):m8 X (.builtin "all") (λxs H Q=>∃(a:Addr) (ns:List Int),xs=[.ref a]/\fM X.K H a (ns.map V.int)/\Q (.bl (ns.all λn=>n != 0)) H):=by
 intro pins s Z H xs us Q I r h;obtain⟨a,ns,rfl,ha,q⟩:=h;obtain⟨u,rfl,ru⟩:=vals1 r;cases ru;obtain⟨bf,rv,p,hz⟩:=I.list ha;refine call_all_walk ?_;refine iT p.isList ?_;have ft:a≠s.heap.objs.size:=by
  obtain⟨o,e,_⟩:=id p.isList;exact aP (aE e)
 have hl:=rv.length;rw[ae] at hl;refine⟨s.heap.objs.size,_,_,_,_,_,λi=>ns.getD i 1 != 0,rfl,Walks.list (A:=X.A.in1) (I.ok.hd hc) _ a ft bf.toArray,⟨⟨_,aG _ rfl,rfl,rfl⟩,?_⟩,?_,λh' tk k=>?_⟩
 ·obtain⟨o,e,q1⟩:=id p.isList;exact⟨o,aw _ e,q1⟩
 ·intro i v s' Q' E' hP hQ;have hv:bf[i]?=some v:=by simpa using hP
  have hi:i<ns.length:=by rw[hl];exact(aj.mp hv).1
  obtain⟨u',vy,AF⟩:=rv.get (i:=i) (x:=V.int ns[i]) (by rw[ak,ai hi];rfl);rw[hv] at vy;cases vy;obtain⟨t,rfl⟩:=AF;refine truthy_int ?_;have:ns.getD i 1=ns[i]:=by simp[List.getD,hi]
  dsimp only at hQ;rw[this] at hQ;exact hQ
 ·have e1:(List.range bf.toArray.size).all (λi=>ns.getD i 1 != 0)=ns.all λn=>n != 0:=by
   rw[aK,<- hl];rw[aU];simp only[List.all_eq_true,List.mem_range];constructor
   ·intro hh x hx;obtain⟨i,hi,rfl⟩:=bK.mp hx;have:=hh i hi;simpa[List.getD,hi] using this
   ·intro hh i hi;have:=hh ns[i] (cg hi);simpa[List.getD,hi] using this
  rw[e1];exact ⟨.bl _,H,I.kept (t':=tk) λb o e=>k b o (by
   intro hb;have:b=s.heap.objs.size:=by simpa using hb
   exact absurd (aE e) (by rw [this];exact bA _)) (aw _ e),rfl,q⟩
theorem aB4:m8 X (.builtin "len") (λxs H Q=>∃a,∃ks:List Int,xs=[.ref a]/\H a=some (su X a ks)/\Q (.int ks.length) H):=by
 intro pins s Z H xs us Q I r h;obtain⟨a,ks,rfl,ha,q⟩:=h;obtain⟨u,rfl,ru⟩:=vals1 r;cases ru;have hS:ST.B0 X.prog X.w s.heap a ks:=(I.bR a _ ha).1;obtain⟨o,es,ep,t,e,ex,ed,_,hp,nd,hz,hf,_⟩:=hS;have hl:es.size=ks.length:=by have:=hp.length_eq;simpa using this
 refine call_len_set e ex ed hf (by have:scanBound<2 ^ 62:=∅;omega) ⟨.int ks.length,H,I.tok _,⟨_,by rw[hl]⟩,q⟩
theorem TK{i:Int}{j:Nat}{p pos:Pos}(nE:PySem.W.kdsCode X.K X.env.code=true):PE X (.Set [.Constant (.int i) j p] 0 pos) (λZ H Q=>∀q,H q=none->Q (.ref q) (upd H q (.set (λk=>decide (k=i)) 1))):=by
 intro pins s Z H Q I h;rw[arm_eval_Set];refine ag (fu ?_);refine ag (PySem.W.kds_main I.hU nE λb=>?_);rw[PySem.W.kds_star _ (by rfl),bz];refine PySem.W.kds_core (ts:=(evalEach [Expr.Constant (.int i) j p] X.env).map λt=>do let v <- t;standAt pos;pure v) (by rfl) (by rfl) (by show 1<=30;decide) (by rw[bz];rfl) λled=>?_;refine PySem.W.kds_all pos _ _ _ ?_;show wpAny _ _ (eval (.Constant (.int i) j p) X.env) _ _ _;refine wpAny_Constant_int ?_;refine PySem.W.kds_fill_cons ?_;have Pd:(s.heap.push { cls:=.type "set",dict:=none,data:=.set #[] 0 (.fresh 0 0 led) }).SetOf (intKind X.prog X.w) s.heap.objs.size (λ_=>false) 0:=(setObjOf_fresh led).setOf (aG _ rfl) ∅;unfold setAdd;refine cy (ag ((intKind X.prog X.w).pyHash (k:=i) (eU _ _ _ _) ?_));refine wpAny_setAddHashed_of (knd:=intKind X.prog X.w) (eU _ _ _ _) rfl Pd ∅ λh' Bc nG=>?_;refine PySem.W.kds_fill_nil (by rfl) ?_;have kp:∀b u,s.heap.get? b=some u->h'.get? b=some u:=λb u e=>(Bc.2 b (aP (aE e))).trans (aw _ e);exact⟨.ref s.heap.objs.size,_,I.laid (a:=s.heap.objs.size) (o:=.set (λk=>decide (k=i)) 1) kp (ay _) (by show Heap.SetOf _ _ _ _ _;simpa using nG),rfl,h _ (I.bR.fresh (ay _))⟩
theorem a17:gi X (compareOp .In) (λx y H Q=>∃i a S n,x=.int i/\y=.ref a/\H a=some (.set S n)/\Q (.bl (S i)) H):=by
 intro pins s Z H x y v u Q I rx ry h;obtain⟨i,a,S,n,rfl,rfl,ha,q⟩:=h;obtain⟨t,rfl⟩:=rx;cases ry;exact wpAny_inSet_of (knd:=intKind X.prog X.w) (k:=i) (eU _ _ _ _) rfl (I.bR a _ ha) ⟨.bl (S i),H,I.tok _,rfl,q⟩
theorem aF7:gi X (compareOp .NotIn) (λx y H Q=>∃i a S n,x=.int i/\y=.ref a/\H a=some (.set S n)/\Q (.bl (!S i)) H):=by
 intro pins s Z H x y v u Q I rx ry h;obtain⟨i,a,S,n,rfl,rfl,ha,q⟩:=h;obtain⟨t,rfl⟩:=rx;cases ry;exact wpAny_notInSet_of (knd:=intKind X.prog X.w) (k:=i) (eU _ _ _ _) rfl (I.bR a _ ha) ⟨.bl (!S i),H,I.tok _,rfl,q⟩
theorem aT6:mR X "set.add" (λx xs H Q=>∃a i S n,x=.ref a/\xs=[.int i]/\H a=some (.set S n)/\n+1<4096/\Q .bN (upd H a (.set (λk=>S k||decide (k=i)) (if S i then n else n+1)))):=by
 intro pins s Z H x vs v us Q I rx rv h;obtain⟨a,i,S,n,rfl,rfl,ha,hn,q⟩:=h;cases rx;obtain⟨u,rfl,t,rfl⟩:=rv.one;refine call_set_add (knd:=intKind X.prog X.w) (k:=i) (eU _ _ _ _) rfl (I.bR a _ ha) (show n+1<scanBound from hn) λh' Bc nG=>?_;obtain⟨o,es,ep,tb,ho,_⟩:=id nG;exact⟨.bN,_,I.write (x:=a) (e:=a) (o:=.set (λk=>S k||decide (k=i)) (if S i then n else n+1)) (by rw[ha];trivial) (.inl rfl) (λb u hb e=>(Bc.2 b hb).trans e) ⟨o,ho⟩ nG,rfl,q⟩
def FE(K:PySem.W.Frag)(a:Addr)(n:Nat):It :=
 ⟨λi H=>∃xs x,fM K H a xs/\xs.length=n/\i<n/\xs[n-1-i]?=some x,λi H x H'=>H'=H/\∀xs,fM K H a xs->xs[n-1-i]?=some x,λi H=>n<=i⟩
theorem a72{P:Program}{w:World}{K:PySem.W.Frag}{tg:Expr}(a it:Addr)(n:Nat):Turn P w K tg (FE K a n) [it] it (λi h=>i<=n/\h.IsRevIter it a ((n:Int)-1-(i:Nat))) where
 mem:=by simp
 obj:=λi h st b hb=>by
  have e:b=it:=by simpa using hb
  subst e;obtain⟨o,e,c,d⟩:=st.2;exact⟨o,e,λv z=>by rw[d] at z;cases z⟩
 keep:=λi h h' st k=>⟨st.1,st.2.at λo e=>k it (by simp) o e⟩
 item:=by
  intro X hP hw hK hc i pins s Z H E I hf st hg;subst hP hw hK;obtain⟨xs,x,hq,hn,hi,hx⟩:=hg;obtain⟨bf,rv,p,hz⟩:=I.list hq;obtain⟨u,hu,ru⟩:=rv.get hx;obtain⟨f0,f1,f2,f3,f4,f5⟩:=hf it (by simp);have lp:=st.2;rw[show(n:Int)-1-(i:Nat)=((n-1-i:Nat):Int) by omega] at lp;refine wpAny_pyNext_rev_item lp p.isList (x:=u) (by simpa using hu) λh' mf sb=>?_;have I1:Inv X pins Z H { s with heap:=h' }:=I.turned (t':=s.toks) (λb o hb e=>(sb.2 b hb).trans e) f0 f1 f3 f4 f5;obtain⟨o,e,c,d⟩:=id mf;refine⟨u,rfl,zS (s:={ s with heap:=h' }) e c d ∅ ⟨x,H,I1,ru,⟨rfl,λys hy=>by rw[I.DI hy hq];exact hx⟩,⟨by omega,?_⟩,λb hb=>(hf b hb).1⟩⟩;rw[show(n:Int)-1-((i+1:Nat):Int)=((n-1-i:Nat):Int)-1 by omega];exact mf
 done:=by
  intro X hP hw hK hc i pins s Z H E I hf st hg;subst hP hw hK;obtain⟨f0,f1,f2,f3,f4,f5⟩:=hf it (by simp);have lp:=st.2;have:n<=i:=hg;rw[show(n:Int)-1-(i:Nat)=-1 by have:=st.1;omega] at lp;exact wpAny_pyNext_rev_end (I.ok.hd hc) lp λh' eb=>⟨rfl,I.turned (t':=s.toks) (λb o hb e=>eb b o hb e) f0 f1 f3 f4 f5⟩
 self:=λ_ _ _ _ _ st h=>wpAny_pyIter_revIter st.2 h
theorem boot_reversed:bootBuiltins "reversed"=some (.type "reversed"):=by decide +kernel
theorem Rm{tg l:Expr}{ta:TA}{p pos:Pos}(hg:Gl X "reversed")(hm:X.mg "reversed"=none)(ha:PA X [l] ta)(hs:starEach [l] X.env=[(false,eval l X.env)]) :
  PI X tg (.Call (.Name "reversed" p) [l] [] pos) (λZ H R=>ta Z H λvs H1=>∃a xs,vs=[.ref a]/\fM X.K H1 a xs/\R (FE X.K a xs.length) H1):=by
 intro pins s Z H R I h;refine Call_ (O2 I hg hm boot_reversed (bQ (cI (ha pos pins s Z H _ I h) λus s1 bq=>?_) hs rfl));obtain⟨vs,H1,I1,r1,q1⟩:=bq;obtain⟨a,xs,e,hq,q⟩:=q1;subst e;cases r1 with
 |cons r rr =>
  cases rr;cases r;obtain⟨bf,rv,p,hz⟩:=I1.list hq;refine call_reversed_list p.isList ?_;have hl:=rv.length;have hit:(s1.heap.push (revObj a ((bf.toArray.size:Int)-1))).IsRevIter s1.heap.objs.size a ((xs.length:Int)-1-((0:Nat):Int)):=⟨_,aG _ rfl,rfl,by simp[revObj,hl]⟩
  refine wpAny_pyIter_revIter hit ?_;refine⟨s1.heap.objs.size,[s1.heap.objs.size],_,_,H1,rfl,I1.kept (t':=s1.toks) λb o e=>aw _ e,a72 a _ xs.length,⟨bU _,hit⟩,λb hb=>?_,q⟩;have e:b=s1.heap.objs.size:=by simpa using hb
  subst e;exact I1.qf (ay _) (I1.bR.fresh (ay _))
end L2
namespace ST
open PySem PyProof.Rows
section
variable{prog:Program}{w:World}{A:Around}{E:Value->Shared->Prop}{s:Shared}{a:Addr}
theorem aR8{T:String}{o:Obj}{items:Array Value}{n:Nat}{ns:List Int}(hT:T="list"\/T="tuple")(ho:s.heap.get? a=some o)(hc:o.cls=.type T)(hd:o.data=.seq items n)(hI:IntsAre items.toList ns)(Py:ns.length<60){Q:Value->Shared->Prop}(h:∀(h1:Heap) (vs:List Value) (jI:List Int) e h',(∀b o',s.heap.get? b=some o'->h1.get? b=some o')->IntsAre vs jI->jI.Perm ns->jI.Pairwise (·<=·)->h'.get? h1.objs.size=some (seqObj "list" vs.toArray e)->(∀c o,h1.get? c=some o->h'.get? c=some o)->Q (.ref h1.objs.size) { s with heap:=h' }) :
  wpAny (model prog w) A (call (.builtin "sorted") [.ref a]) Q E s:=by
 have hl:items.toList.length=ns.length:=C4 hI;refine FV kind_sorted plain_sorted entry_sorted (args_sorted1 _) ?_;unfold Builtin.«sorted»;refine ag (m:=checkCount "sorted" 1 1 _) (ax ?_);refine ag (wpAny_collect_seq (A:=A.in1) a hT ho hc hd (λh1 kp=>?_) (by simp at hl;unfold sizeLine;omega));have Hd:items.toList.length<64:=by omega
 generalize items.toList=vs at *;refine ag (wpAny_newList (s:={ s with heap:=h1 }) ?_);have oK:(h1.push (seqObj "list" vs.toArray 0)).get? h1.objs.size=some (seqObj "list" vs.toArray 0):=aG _ rfl;refine ag (cy (cO (s:={ s with heap:=h1.push (seqObj "list" vs.toArray 0) }) slot_list_sort ⟨_,oK,rfl⟩ entry_list_sort (list_sort_tree oK hI Hd λout jI a1 a2 a3=>⟨_,rfl,?_⟩) (args_list_sort _)));obtain⟨e,vR⟩:=sortedHeap_at (vs:=vs) (out:=out) oK;refine ax ⟨_,rfl,h h1 out.toList jI e _ kp a1 a2 a3 vR (λc o' e'=>?_)⟩;have hc:=aE e';rw[sortedHeap_old (aP hc) (by rw[mE];exact Nat.lt_succ_of_lt hc)];exact aw _ e'
end
end ST
namespace L2
open PySem PyProof.Rows
def K2(ns:List Int):List Int:=ns.mergeSort (λa b=>decide (a<=b))
theorem JW(ns:List Int):(K2 ns).Pairwise (·<=·):=by
 have:=sR (le:=λa b:Int=>decide (a<=b)) (λa b c h1 h2=>by simp at *;omega) (λa b=>by simp;omega) ns;exact this.imp λh=>by simpa using h
theorem T4(ns:List Int):(K2 ns).Perm ns:=FR _ _
section
variable{X:Cx}
theorem ZL:m8 X (.builtin "sorted") (λxs H Q=>∃p,∃ns:List Int,xs=[.ref p]/\(fM X.K H p (ns.map V.int)\/jB X.K H p (ns.map V.int))/\ns.length<60/\∀l,H l=none->Q (.ref l) (upd H l (.lst ((K2 ns).map V.int)))):=by
 intro pins s Z H xs us Q I r h;obtain⟨p,ns,rfl,hq,hl,q⟩:=h;obtain⟨u,rfl,rx⟩:=vals1 r;cases rx;obtain⟨T,bf,o,n,hT,r',ho,hc,hd⟩:∃T,∃(bf:List Value) (o:Obj) (n:Nat),(T="list"\/T="tuple")/\Vals (ns.map V.int) bf/\s.heap.get? p=some o/\o.cls=.type T/\o.data=.seq bf.toArray n:=by
  rcases hq with hq|hq
  ·obtain⟨bf,r',pl,_⟩:=I.list hq;obtain⟨o,ho,hc,n,hd⟩:=pl.isList;exact⟨_,bf,o,n,.inl rfl,r',ho,hc,hd⟩
  ·obtain⟨bf,r',⟨o,ho,hc,n,hd⟩,_⟩:=I.tuple hq;exact⟨_,bf,o,n,.inr rfl,r',ho,hc,hd⟩
 refine ST.aR8 hT ho hc hd (w9 r') hl λh1 vs jI e h' kp i1 i2 i3 i4 i5=>?_;have e1:jI=K2 ns:=Ej (i2.trans (T4 ns).symm) i3 (JW ns);subst e1;have I1:Inv X pins Z H { s with heap:=h1 }:=I.kept (t':=s.toks) kp;have hz:(K2 ns).length<=10000:=by rw[(T4 ns).length_eq];omega
 exact⟨.ref h1.objs.size,_,(I1.laid (a:=h1.objs.size) (o:=.lst ((K2 ns).map V.int)) (t':=s.toks) i5 (ay _) ⟨by rw[ae];exact aB hz ∅,vs,e,JX i1,i4⟩),rfl,q _ (I1.bR.fresh (ay _))⟩
end
end L2
namespace ST
open PySem PyProof.Rows
end ST
namespace L2
open PySem PyProof.Rows
section
variable{X:Cx}
theorem Uq{h:Heap}{a:Addr}{ns:List Int}(x:ST.B0 X.prog X.w h a (ST.i9 [] ns)):h.SetOf (intKind X.prog X.w) a (λk=>decide (k∈ns)) (ST.i9 [] ns).length:=by
 obtain⟨o,es,ep,t,ho,hx,hd,nD,hp,hn,hb,hf,hw⟩:=x;refine⟨o,es,ep,t,ho,hx,hd,nD,λk=>?_,hb,hf,by rw[<- hp.length_eq];simp⟩;have mem:k∈ns↔k∈es.toList.map λe=>ST.toI e.2:=by rw[hp.mem_iff,ST.T7];simp
 rw[dH,mem];constructor
 ·intro z;obtain⟨e,he,rfl⟩:=aL.mp z;obtain⟨tk,h1,_⟩:=ST.zc nD he;refine⟨e,he,?_⟩;rw[h1];exact eU _ _ _ _
 ·rintro⟨e,he,z⟩;obtain⟨tk,h1,_⟩:=ST.zc nD he;refine aL.mpr ⟨e,he,?_⟩;have h2:(intKind X.prog X.w).is (ST.toI e.2) e.2=true:=by rw[h1];exact eU _ _ _ _
  exact(intKind X.prog X.w).inj _ _ _ h2 z
theorem aB3(hc:X.calm=true):m8 X (.type "set") (λxs H Q=>∃a ns,xs=[.ref a]/\fM X.K H a (ns.map V.int)/\ns.length<600/\∀p,H p=none->Q (.ref p) (upd H p (.set (λk=>decide (k∈ns)) (ST.i9 [] ns).length))):=by
 intro pins s Z H xs us Q I r h;obtain⟨a,ns,rfl,hq,hl,q⟩:=h;cases r with
 |cons r rr =>
 cases rr;cases r;obtain⟨bf,rv,p,hz⟩:=I.list hq;have hI:=w9 rv;have hlen:=ST.C4 hI;refine ST.LC (ns:=ns) (I.ok.hd hc) (.inl p.isList) (by simpa using hI) (by rw[aK,hlen];exact aA (Nat.succ_lt_succ hl) ∅) λh' tk hS hk _=>?_;exact⟨.ref _,_,I.laid (a:=s.heap.objs.size) (o:=.set (λk=>decide (k∈ns)) (ST.i9 [] ns).length) (t':=tk) hk (ay _) (Uq hS),rfl,q _ (I.bR.fresh (ay _))⟩
end
end L2
namespace L2
open PySem PySem.Spec PyProof.Rows
variable{prog:Program}{w:World}{A:Around}{s:Shared}{X:Cx}
def F5:List Int->List Int->Bool
 |x::xs,y::ys=>if x=y then F5 xs ys else decide (x<y)
 |_,_=>false
theorem ints_get{vs:List Value}{ns:List Int}(h:IntsAre vs ns):∀{i:Nat} (hi:i<ns.length),∃t,vs[i]?=some (.int (ns[i]'hi) t):=by
 induction h with
 |nil=>intro i hi;simp at hi
 |cons _ _ _ ih =>
  intro i hi;cases i with
  |zero=>exact⟨_,rfl⟩
  |succ i=>simpa using ih (by simpa using hi)
section
open PySem.SeqAt
theorem a26(l b:Addr)(vs ws:List Value)(ns ms:List Int)(n n2:Nat)(hv:IntsAre vs ns)(hw:IntsAre ws ms)(hl:ns.length=ms.length)(k:Nat) :
  ∀i:Nat,ns.length-i=k->i<=ns.length->Meets (Builtin.«list.__eq__.loop» ⟨[.ref l,.ref b,rawInt i,rawInt 0],[]⟩)
   (λA R s=>s.heap.get? l=some { cls:=.type "list",data:=.seq vs.toArray n }/\s.heap.get? b=some { cls:=.type "list",data:=.seq ws.toArray n2 } /\
    R (.ok (.ret (.bool (F5 (ns.drop i) (ms.drop i))))) s):=by
 have lv:=hv.length;have lw:=hw.length
 induction k with
 |zero =>
  intro i hk OM prog w A R s h;obtain⟨hp,g,d,tk,os⟩:=s;obtain⟨jL,hb,h⟩:=h;have hi:i=ns.length:=by omega
  wp_walk using bt jL,bt hb
  have tD:vs.toArray[((i:Nat):Int).toNat]?=none:=by simp;omega
  have pS:ws.toArray[((i:Nat):Int).toNat]?=none:=by simp;omega
  have hd:ns.drop i=[]:=by rw[hi];simp
  rw[hd] at h;rw[tD,pS]
  wp_walk using bt jL,bt hb
  show R (.ok (.ret (.bool (decide (vs.toArray.size<ws.toArray.size))))) _;rw[av (by simp;omega)];exact h
 |succ k ih =>
  intro i hk OM prog w A R s h;obtain⟨hp,g,d,tk,os⟩:=s;obtain⟨jL,hb,h⟩:=h;have eE:i<ns.length:=by omega
  have vG:i<ms.length:=by omega
  obtain⟨t1,e1⟩:=ints_get hv eE;obtain⟨t2,e2⟩:=ints_get hw vG
  wp_walk using bt jL,bt hb
  have tD:vs.toArray[((i:Nat):Int).toNat]?=some (.int ns[i] t1):=by simpa using e1
  have pS:ws.toArray[((i:Nat):Int).toNat]?=some (.int ms[i] t2):=by simpa using e2
  have hc:((i:Int)+1)=((i+1:Nat):Int):=by omega
  rw[cF eE,cF vG] at h;simp only[F5] at h;rw[tD,pS];refine ag (SeqAt.EqAt.int_int _ _ _ _ prog w _ _ ?_);by_cases he:ns[i]=ms[i]
  ·rw[aJ he] at h;rw[show(ns[i]==ms[i])=true from ff.mpr he]
   wp_walk
   rw[hc];exact ⟨gI fJ _,dA MeetsSeq3.entry_eq_loop (by
    rw[cV fJ _];exact ih (i + 1) () () prog w A R _ ⟨jL,hb,h⟩)⟩
  ·rw[aF he] at h;rw[show(ns[i]==ms[i])=false from cT.mpr he]
   wp_walk using bt jL,bt hb
   rw[tD,pS];refine ag (richCompare_gives (op:=.Lt) (mU _ _ t1) (mU _ _ t2) F.slot_int_lt F.entry_int_lt (F.args_int_lt_2 _ _) (gives_int_lt _ _ t1 t2) (λx=>nomatch x) ?_);exact ax h
end
section
variable{E:Value->Shared->Prop}
theorem a27(l b:Addr)(vs ws:List Value)(ns ms:List Int)(n n2:Nat)(hv:IntsAre vs ns)(hw:IntsAre ws ms)(hl:ns.length=ms.length) :
  Meets (Builtin.«list.__lt__» ⟨[.ref l,.ref b],[]⟩)
   (λA R s=>s.heap.get? l=some { cls:=.type "list",data:=.seq vs.toArray n }/\s.heap.get? b=some { cls:=.type "list",data:=.seq ws.toArray n2 } /\
    R (.ok (.ret (.bool (F5 ns ms)))) s):=by
 intro prog w A R s h;obtain⟨hp,g,d,tk,os⟩:=s;obtain⟨jL,hb,h⟩:=h;have f3:=AutoSeq1.sub_list_list
 wp_walk using bt jL,bt hb
 exact ⟨gI fJ _,dA MeetsSeq3.entry_eq_loop (by
  rw[cV fJ _];exact a26 l b vs ws ns ms n n2 hv hw hl _ 0 rfl (bU _) prog w A R _ ⟨jL,hb,h⟩)⟩
theorem Vd{l b:Addr}{vs ws:List Value}{ns ms:List Int}{n n2:Nat}{Q:Value->Shared->Prop}(hv:IntsAre vs ns)(hw:IntsAre ws ms)(hl:ns.length=ms.length)(h1:s.heap.get? l=some { cls:=.type "list",data:=.seq vs.toArray n })(h2:s.heap.get? b=some { cls:=.type "list",data:=.seq ws.toArray n2 })(hu:A.units<cLine)(h:Q (.bool (F5 ns ms)) s) :
  wpAny (model prog w) A (richCompare .Lt (.ref l) (.ref b)) Q E s :=
 richCompare_meets_room (op:=.Lt) ⟨_,h1,rfl⟩ ⟨_,h2,rfl⟩ F.slot_list_lt F.entry_list_lt (F.args_list_lt_2 _ _) (a27 l b vs ws ns ms n n2 hv hw hl)
  ⟨h1,h2,show Value.bool (F5 ns ms)≠Value.notImplemented/\Q (.bool (F5 ns ms)) s from⟨(λx=>nomatch x),h⟩⟩ hu
end
end L2
namespace M
open PySem L2
set_option genInjectivity true in
inductive D where
 |bN|bl (b:Bool)|int (i:Int)|str (x:Str)|ty (n:String)|ref (i:Nat)|tup (l:List D)
set_option genInjectivity true in
inductive O where
 |lst (l:List D)|oS (l:List D)
 |dX (kvs:List (Key×D))
 |ins (c:Str) (fs:List (Str×D))
 |set (S:Int->Bool) (n:Nat)
def O.mut:O->Bool
 |.oS _=>false
 |_=>true
def W3:D->Option Key
 |.int i=>some (.inl i)
 |.str x=>some (.inr x)
 |_=>none
def u7(kvs:List (Key×D))(k:Key):Option D:=(kvs.find? λkv=>decide (kv.1=k)).map (·.2)
def putD(kvs:List (Key×D))(k:Key)(v:D):List (Key×D) :=
 if(kvs.any λkv=>decide (kv.1=k))=true then kvs.map (λkv=>if kv.1=k then(kv.1,v) else kv) else kvs++[(k,v)]
def m5(f:Str)(v:D):List (Str×D)->List (Str×D)
 |[]=>[(f,v)]
 |(g,x)::r=>if g=f then(g,v)::r else(g,x)::m5 f v r
def Q4:List D->Str->Option D
 |.tup [.str y,v]::r,x=>if x=y then some v else Q4 r x
 |_::_,_=>none
 |[],_=>none
def X7:List D->Option Str
 |[]=>some Str.empty
 |.str x::r=>(X7 r).map λy=>x++y
 |_=>none
structure Xn where
 cls:Str
noncomputable abbrev G:=List O
noncomputable abbrev S:=List (Option D)
noncomputable abbrev KD:=D->G->Prop
noncomputable abbrev KX:=Xn->G->Prop
noncomputable abbrev iX:KX:=λ_ _=>False
def Fe:Option O->Option (List D)
 |some (.lst l)=>some l
 |some (.oS l)=>some l
 |_=>none
noncomputable abbrev d0(g:G)(a:Nat):Option (List D):=Fe g[a]?
def rd(g:G):Nat->D->Option PyData
 |_,.bN=>some .none
 |_,.bl b=>some (.bool b)
 |_,.int i=>some (.int i)
 |_,.str x=>some (.str x)
 |_,.ty _=>none
 |0,.ref _=>none
 |0,.tup _=>none
 |n+1,.ref a=>match d0 g a with
  |some l=>(l.mapM (rd g n)).map .list
  |none=>none
 |n+1,.tup l=>(l.mapM (rd g n)).map .tuple
def NG(g:G)(l:List D):Option (List PyData):=l.mapM (rd g 6)
def J7(g:G):D->Option (List D)
 |.tup l=>some l
 |.ref a=>d0 g a
 |_=>none
def O4:D->Bool
 |.bN=>true
 |_=>false
def cut{α:Type}(xs:List α)(lo hi:Option Int):List α:=(xs.drop (HT.dG xs.length 0 lo)).take (HT.dG xs.length xs.length hi-HT.dG xs.length 0 lo)
def sk(g:G)(x:D)(c:String):Option Bool:=match x with
 |.bN=>some (c=="NoneType")
 |.bl _=>some (c=="bool"||c=="int")
 |.int _=>some (c=="int")
 |.str _=>some (c=="str")
 |.tup _=>some (c=="tuple")
 |.ref a=>match g[a]? with
  |some (.lst _)=>some (c=="list")
  |_=>none
 |.ty _=>none
def i6(lo:Int)(n:Nat):List D:=(List.range n).map λ(k:Nat)=>.int (lo+k)
def Y1:List D->Option Bool
 |[]=>some true
 |.bl b::r=>(Y1 r).map λc=>b&&c
 |_=>none
inductive Pr where
 |bin (op:Operator)|un (op:UnaryOp)|cmp (op:CmpOp)
 |ix|ji (lo hi:Bool)|rev|tup|lst|oZ
 |len|list|tuple|isin|all|max|min|int|str|jl|kE|sset|Ny|wM
 |HM|wA|nM|fv|mx|fld (f:Str)
 |append|pop|get|index|join|iadd|clear|AG|extend|any|ku|sum|qg|nu|ky|qO|CG|wL|kx (i:Int)
noncomputable abbrev DR:=List D->G->D->G->Prop
def ZT:Operator->Int->Int->Int->Prop
 |.Add,i,j,r=>r=i+j
 |.Sub,i,j,r=>r=i-j
 |.Mult,i,j,r=>rZ i j/\r=i*j
 |.FloorDiv,i,j,r=>CP i j/\r=i / j
 |.Mod,i,j,r=>0<j/\r=i % j
 |.Pow,i,j,r=>Z5 i j/\r=i ^ j.toNat
 |.LShift,i,j,r=>Z5 i j/\r=i*2 ^ j.toNat
 |.BitAnd,i,j,r=>r=Builtin.bitAnd i j
 |.BitOr,i,j,r=>r=Builtin.bitOr i j
 |_,_,_,_=>False
def VH(op:Operator):DR:=λxs g d g' =>
 (∃i j r,xs=[.int i,.int j]/\ZT op i j r/\d=.int r/\g'=g) \/
 (op=.Add/\((∃ a b l m,xs=[.ref a,.ref b]/\g[a]?=some (.lst l)/\g[b]?=some (.lst m)/\l.length + m.length <= 100000/\d=.ref g.length/\g'=g ++ [.lst (l ++ m)]) \/
  (∃ x y,xs=[.str x,.str y]/\x.length + y.length <= 100000/\d=.str (x ++ y)/\g'=g))) \/
 (op=.Mult/\(∃a l n,xs=[.ref a,.int n]/\g[a]?=some (.lst l)/\-(2 ^ 62)<=n/\n<2 ^ 62/\l.length*n.toNat<=100000/\d=.ref g.length/\g'=g++[.lst (List.replicate n.toNat l).flatten]))
def Nn(op:UnaryOp):DR:=λxs g d g'=>op=.USub/\∃i,xs=[.int i]/\d=.int (-i)/\g'=g
def wG(g:G)(x y:D)(b:Bool):Prop :=
 (∃i j,x=.int i/\y=.int j/\b=decide (i=j))\/(∃i j,x=.bl i/\y=.bl j/\b=(i==j))\/(∃i j,x=.str i/\y=.str j/\b=decide (i=j)) \/
 ∃p q,rd g 6 x=some p/\rd g 6 y=some q/\p.canLay0=true/\q.canLay0=true/\b=PyData.eqv p q
def inR(g:G)(x y:D)(b:Bool):Prop :=
 (∃a kvs c,y=.ref a/\g[a]?=some (.dX kvs)/\W3 x=some c/\b=(u7 kvs c).isSome) \/
 ∃l ps p,J7 g y=some l/\NG g l=some ps/\rd g 6 x=some p/\PyData.canLayAll0 ps=true/\p.canLay0=true/\b=(ps.any λq=>PyData.eqv q p)
def Il(g:G)(x y:D)(b:Bool):Prop:=∃a S n i,y=.ref a/\g[a]?=some (.set S n)/\x=.int i/\b=S i
def Jd(g:G)(x y:D)(b:Bool):CmpOp->Prop
 |.Eq=>wG g x y b
 |.NotEq=>wG g x y (!b)
 |.In=>inR g x y b\/Il g x y b
 |.NotIn=>inR g x y (!b)\/Il g x y (!b)
 |.Lt=>(∃i j,x=.int i/\y=.int j/\b=decide (i<j))\/∃a c,∃(ns ms:List Int),x=.ref a/\y=.ref c/\g[a]?=some (.lst (ns.map .int))/\g[c]?=some (.lst (ms.map .int))/\ns.length=ms.length/\b=L2.F5 ns ms
 |.LtE=>∃i j,x=.int i/\y=.int j/\b=decide (i<=j)
 |.Gt=>∃i j,x=.int i/\y=.int j/\b=decide (j<i)
 |.GtE=>∃i j,x=.int i/\y=.int j/\b=decide (j<=i)
 |.Is=>y=.bN/\b=O4 x
 |.IsNot=>y=.bN/\b=!O4 x
def VN(op:CmpOp):DR:=λxs g d g'=>∃x y b,xs=[x,y]/\Jd g x y b op/\d=.bl b/\g'=g
def Ip(g:G)(x:D)(b:Bool):Prop :=
 (x=.bN/\b=false)\/x=.bl b\/(∃i,x=.int i/\b=(i != 0))\/(∃l,x=.tup l/\b=!l.isEmpty)\/∃a l,x=.ref a/\d0 g a=some l/\b=!l.isEmpty
def NZ:DR:=λxs g d g'=>g'=g/\((∃x l i,xs=[x,.int i]/\J7 g x=some l/\fL l i=some d)\/(∃a kvs y c,xs=[.ref a,y]/\g[a]?=some (.dX kvs)/\W3 y=some c/\u7 kvs c=some d) \/
 ∃ x i c,xs=[.str x,.int i]/\x.length <= 100000/\fL x.cps.toList i=some c/\d=.str ⟨#[c]⟩)
def uS(x:D)(lo hi:Option Int)(g:G)(d:D)(g':G):Prop:=(∃l,x=.tup l/\d=.tup (cut l lo hi)/\g'=g)\/∃a l,x=.ref a/\d0 g a=some l/\d=.ref g.length/\g'=g++[.lst (cut l lo hi)]
def WA:Bool->Bool->DR
 |false,false,xs,g,d,g'=>∃x,xs=[x]/\uS x none none g d g'
 |true,false,xs,g,d,g'=>∃x i,xs=[x,.int i]/\uS x (some i) none g d g'
 |false,true,xs,g,d,g'=>∃x j,xs=[x,.int j]/\uS x none (some j) g d g'
 |true,true,xs,g,d,g'=>∃x i j,xs=[x,.int i,.int j]/\uS x (some i) (some j) g d g'
def Wv:DR:=λxs g d g'=>(∃l,xs=[.tup l]/\d=.tup l.reverse/\g'=g)\/∃a l,xs=[.ref a]/\d0 g a=some l/\d=.ref g.length/\g'=g++[.lst l.reverse]
def WV:DR:=λxs g d g'=>xs.length<=1000/\d=.tup xs/\g'=g
def Wa:DR:=λxs g d g'=>xs.length<=1000/\d=.ref g.length/\g'=g++[.lst xs]
def xC:List D->List (Key×D)->Option (List (Key×D))
 |[],kvs=>some kvs
 |k::v::r,kvs=>(W3 k).bind λc=>xC r (putD kvs c v)
 |_,_=>none
def Xu:DR:=λxs g d g'=>xs=[]/\d=.ref g.length/\g'=g++[.dX []]
def V':DR:=λxs g d g'=>g'=g/\((∃x l,xs=[x]/\J7 g x=some l/\d=.int l.length)\/(∃a kvs,xs=[.ref a]/\g[a]?=some (.dX kvs)/\d=.int kvs.length)\/∃x,xs=[.str x]/\x.length<=100000/\d=.int x.length)
def XT:DR:=λxs g d g'=>(∃x l,xs=[x]/\J7 g x=some l/\d=.ref g.length/\g'=g++[.lst l])\/False
def Sv:DR:=λxs g d g'=>∃x l,xs=[x]/\J7 g x=some l/\d=.tup l/\g'=g
def XF:DR:=λxs g d g'=>∃x c b,xs=[x,.ty c]/\c∈["int","bool","str","tuple","list"]/\sk g x c=some b/\d=.bl b/\g'=g
def allR:DR:=λxs g d g'=>∃a l b,xs=[.ref a]/\d0 g a=some l/\(Y1 l=some b\/∃ns:List Int,l=ns.map .int/\b=ns.all λn=>n != 0)/\d=.bl b/\g'=g
def Iu:List D->Option Bool
 |[]=>some false
 |.bl b::r=>(Iu r).map λc=>b||c
 |_=>none
def anyR:DR:=λxs g d g'=>∃a l b,xs=[.ref a]/\d0 g a=some l/\Iu l=some b/\d=.bl b/\g'=g
def RQ:DR:=λxs g d g'=>False\/∃x,∃ns:List Int,xs=[x]/\J7 g x=some (ns.map .int)/\ns.length<60/\d=.ref g.length/\g'=g++[.lst ((K2 ns).map .int)]
def Wb:DR:=λxs g d g'=>g'=g/\((∃i j,xs=[.int i,.int j]/\d=.int (if j>i then j else i))\/∃a,∃(ns:List Int) (M:Int),xs=[.ref a]/\d0 g a=some (ns.map .int)/\M∈ns/\(∀x∈ns,x<=M)/\d=.int M)
def Wc:DR:=λxs g d g'=>g'=g/\((∃i j,xs=[.int i,.int j]/\d=.int (if j<i then j else i))\/(∃a,∃(ns:List Int) (M:Int),xs=[.ref a]/\d0 g a=some (ns.map .int)/\M∈ns/\(∀x∈ns,M<=x)/\d=.int M))
def Yv:DR:=λxs g d g'=>∃a i S n,xs=[.ref a,.int i]/\g[a]?=some (.set S n)/\n+1<4096/\d=.bN/\g'=g.set a (.set (λk=>S k||decide (k=i)) (if S i then n else n+1))
def XS:DR:=λxs g d g'=>∃a,∃ns:List Int,xs=[.ref a]/\d0 g a=some (ns.map .int)/\ns.length<600/\d=.ref g.length/\g'=g++[.set (λk=>decide (k∈ns)) (ST.i9 [] ns).length]
def RA(i:Int):DR:=λxs g d g'=>xs=[]/\d=.ref g.length/\g'=g++[.set (λk=>decide (k=i)) 1]
def WC:DR:=λxs g d g'=>∃a,∃ns:List Int,xs=[.ref a]/\d0 g a=some (ns.map .int)/\d=.int ns.sum/\g'=g
def XU:DR:=λxs g d g'=>∃a,∃ns:List Int,xs=[.ref a]/\d0 g a=some (ns.map .int)/\ns.length<60/\d=.int (ST.i9 [] ns).length/\g'=g
def XG:DR:=λxs g d g'=>∃i j,xs=[.int i,.int j]/\d=.int (i-j)/\g'=g
def VY:DR:=λxs g d g'=>g'=g/\((∃i,xs=[.int i]/\d=.int i)\/∃b,xs=[.bl b]/\d=.int (if b then 1 else 0))
def WB:DR:=λxs g d g'=>(∃i,xs=[.int i]/\i.natAbs.log2<1920/\d=.str (toString i)/\g'=g)\/∃x,xs=[.str x]/\d=.str x/\g'=g
def Zz:DR:=λxs g d g'=>∃j,xs=[.int j]/\-(2 ^ 62)<=j/\j<=100000/\d=.ref g.length/\g'=g++[.lst (i6 0 j.toNat)]
def ZA:DR:=λxs g d g'=>∃i j,xs=[.int i,.int j]/\(-(2 ^ 62)<=i/\i<2 ^ 62/\-(2 ^ 62)<=j/\j<2 ^ 62/\j-i<=100000)/\d=.ref g.length/\g'=g++[.lst (i6 i (j-i).toNat)]
def Yz:DR:=λxs g d g'=>∃a ns,xs=[.ref a]/\d0 g a=some (ns.map .int)/\ns.length<60/\d=.ref g.length/\g'=g++[.lst ((p8 ns).map .int)]
def WD:DR:=λxs g d g'=>∃ns ms:List Int,xs=[.tup (ns.map .int),.tup (ms.map .int)]/\(∀k∈ns,ST.Spot k)/\(∀k∈ms,ST.Spot k)/\ns.length+ms.length<50/\d=.ref g.length/\g'=g++[.lst ((p8 (ns++ms)).map .int)]
def CZ(neg:Bool):DR:=λxs g d g'=>∃kvs x,xs=[.tup kvs,.str x]/\d=.bl (xor neg (Q4 kvs x).isSome)/\g'=g
def Xz:DR:=λxs g d g'=>∃kvs x,xs=[.tup kvs,.str x]/\Q4 kvs x=some d/\g'=g
def Qk:DR:=λxs g d g'=>g'=g/\((∃i,xs=[.int i]/\i.natAbs.log2<1920/\d=.str (toString i))\/∃x,xs=[.str x]/\x.length<=2000/\d=.str x)
def Xy:DR:=λxs g d g'=>∃x,X7 xs=some x/\d=.str x/\g'=g
def VS(f:Str):DR:=λxs g d g'=>∃a c fs,xs=[.ref a]/\g[a]?=some (.ins c fs)/\fs.lookup f=some d/\g'=g
def appendR:DR:=λxs g d g'=>∃a y l,xs=[.ref a,y]/\g[a]?=some (.lst l)/\l.length<100000/\d=.bN/\g'=g.set a (.lst (l++[y]))
def Wk:DR:=λxs g d g'=>∃a i l k,xs=[.ref a,.int i]/\g[a]?=some (.lst l)/\-(2 ^ 63)<=i/\i<2 ^ 63/\seqIndex? i l.length=some k/\l[k]?=some d/\g'=g.set a (.lst (l.eraseIdx k))
def VW:DR:=λxs g d g'=>∃a y z kvs c,xs=[.ref a,y,z]/\g[a]?=some (.dX kvs)/\W3 y=some c/\d=(u7 kvs c).getD z/\g'=g
def EW(g:G)(l:List D)(y:D)(n:Nat):Prop:=∃(bs:List Nat) (b:Nat) (ms:List Int),l=bs.map .ref/\y=.ref b/\g[b]?=some (.lst (ms.map .int))/\(∀c∈bs,∃ns:List Int,g[c]?=some (.lst (ns.map .int))/\ns.length=ms.length) /\
 (∃c,bs[n]?=some c/\g[c]?=some (.lst (ms.map .int)))/\∀(m:Nat) c,m<n->bs[m]?=some c->g[c]?≠some (.lst (ms.map .int))
def Zk:DR:=λxs g d g'=>∃x y l n,xs=[x,y]/\J7 g x=some l/\((∃a,x=.ref a)/\EW g l y n)/\l.length<=100000/\d=.int n/\g'=g
def joinR:DR:=λxs g d g'=>∃sep a ys,xs=[.str sep,.ref a]/\d0 g a=some (ys.map .str)/\Tc sep ys<=100000/\d=.str (Builtin.Str.glued sep ys)/\g'=g
def XD:DR:=λxs g d g'=>(∃i j,xs=[.int i,.int j]/\d=.int (i+j)/\g'=g)\/∃l m,xs=[.tup l,.tup m]/\l.length+m.length<=100000/\d=.tup (l++m)/\g'=g
def Zc:DR:=λxs g d g'=>∃a l,xs=[.ref a]/\g[a]?=some (.lst l)/\d=.bN/\g'=g.set a (.lst [])
def Yp:DR:=λxs g d g'=>∃a l,xs=[.ref a]/\g[a]?=some (.lst (l++[d]))/\g'=g.set a (.lst l)
def SN:DR:=λxs g d g'=>∃a b l m,xs=[.ref a,.ref b]/\g[a]?=some (.lst l)/\g[b]?=some (.lst m)/\l.length+m.length<=100000/\d=.bN/\g'=g.set a (.lst (l++m))
def Ze:DR:=λxs g d g'=>(∃a kvs,xs=[.ref a]/\g[a]?=some (.dX kvs)/\d=.ref g.length/\g'=g++[.dX kvs])\/∃a,∃ks:List Int,xs=[.ref a]/\d0 g a=some (ks.map λk=>.tup [.int k,.bl true])/\ks.length<=1000/\ks.Nodup/\d=.ref g.length/\g'=g++[.dX (ks.map λk=>(.inl k,.bl true))]
def oj(p:Key×Int×Int):Key×D:=(p.1,.tup [.int p.2.1,.int p.2.2])
def XR(n:Int)(p:Key×Int×Int):Bool:=!(decide (p.2.1=n)||decide (p.2.2=n))
def Xt:DR:=λxs g d g'=>∃a n,∃fs:List (Key×Int×Int),xs=[.ref a,.int n]/\g[a]?=some (.dX (fs.map oj))/\fs.length<1000/\(fs.map (·.1)).Nodup/\d=.ref g.length/\g'=g++[.dX ((fs.filter (XR n)).map oj)]
def delD(kvs:List (Key×D))(k:Key):List (Key×D):=kvs.filter λkv=>decide (kv.1≠k)
def Xv:DR:=λxs g d g'=>∃a y kvs c,xs=[.ref a,y]/\g[a]?=some (.dX kvs)/\W3 y=some c/\u7 kvs c=some d/\g'=g.set a (.dX (delD kvs c))
def PR:Pr->DR
 |.CG=>Xt
 |.wL=>Xv
 |.clear=>Zc
 |.any=>anyR
 |.sum=>WC
 |.ky=>Yv
 |.qO=>XS
 |.kx i=>RA i
 |.qg=>XU
 |.nu=>XG
 |.ku=>RQ
 |.extend=>SN
 |.AG=>Yp
 |.wM=>Ze
 |.bin op=>VH op
 |.un op=>Nn op
 |.cmp op=>VN op
 |.ix=>NZ
 |.ji a b=>WA a b
 |.rev=>Wv
 |.tup=>WV
 |.lst=>Wa
 |.oZ=>Xu
 |.len=>V'
 |.list=>XT
 |.tuple=>Sv
 |.isin=>XF
 |.all=>allR
 |.max=>Wb
 |.min=>Wc
 |.int=>VY
 |.str=>WB
 |.jl=>Zz
 |.kE=>ZA
 |.sset=>Yz
 |.Ny=>WD
 |.HM=>CZ false
 |.wA=>CZ true
 |.nM=>Xz
 |.fv=>Qk
 |.mx=>Xy
 |.fld f=>VS f
 |.append=>appendR
 |.pop=>Wk
 |.get=>VW
 |.index=>Zk
 |.join=>joinR
 |.iadd=>XD
def cE(p:Pr)(xs:List D)(g:G)(Q:KD):Prop:=∃d g',PR p xs g d g'/\Q d g'
def tO(g:G)(x y:D)(k:Bool->Prop):Prop:=∃b,wG g x y b/\k b
def qP(g:G)(x y:D)(k:Bool->Prop):Prop:=∃b,inR g x y b/\k b
def qi(g:G)(x:D)(k:Bool->Prop):Prop:=∃b,Ip g x b/\k b
def Wz(x y v:D)(g g':G):Prop:=(∃a i l j,x=.ref a/\y=.int i/\g[a]?=some (.lst l)/\kM l.length i=some j/\g'=g.set a (.lst (l.set j v))) \/
 ∃a kvs c,x=.ref a/\g[a]?=some (.dX kvs)/\W3 y=some c/\kvs.length<100000/\g'=g.set a (.dX (putD kvs c v))
def S1(x y v:D)(g:G)(k:G->Prop):Prop:=∃g',Wz x y v g g'/\k g'
def IV(f:Str)(cs:List Str)(x v:D)(g g':G):Prop:=∃a c fs,x=.ref a/\g[a]?=some (.ins c fs)/\c∈cs/\fs.length<100/\g'=g.set a (.ins c (m5 f v fs))
def xi(f:Str)(cs:List Str)(x v:D)(g:G)(k:G->Prop):Prop:=∃g',IV f cs x v g g'/\k g'
def mh:Pr->D->G->Prop
 |.get,x,g=>∃a kvs,x=.ref a/\g[a]?=some (.dX kvs)
 |.wL,x,g=>∃a kvs,x=.ref a/\g[a]?=some (.dX kvs)
 |.join,x,g=>∃y,x=.str y
 |.ky,x,g=>∃a S n,x=.ref a/\g[a]?=some (.set S n)
 |.index,x,g=>∃a l,x=.ref a/\d0 g a=some l
 |_,x,g=>∃a l,x=.ref a/\d0 g a=some l
inductive IK where
 |fix (l:List D)|lst (a:Nat)|oU (a:Nat)|sX (a n:Nat)
def IK.at:IK->Nat->G->Option (Option D)
 |.fix l,i,_=>some l[i]?
 |.lst a,i,g=>match d0 g a with
  |some l=>some l[i]?
  |none=>none
 |.oU a,i,g=>match d0 g a with
  |some l=>some (l[i]?.map λd=>.tup [.int i,d])
  |none=>none
 |.sX a n,i,g=>match d0 g a with
  |some l=>if l.length=n then some (if i<n then l[n-1-i]? else none) else none
  |none=>none
inductive MT where
 |one (i:Nat)|many (is:List Nat)
def G0:List Nat->List D->S->Option S
 |[],[],Z=>some Z
 |i::is,d::ds,Z=>G0 is ds (Z.set i (some d))
 |_,_,_=>none
def jF(t:MT)(x:D)(Z:S)(k:S->Prop):Prop:=match t with
 |.one i=>k (Z.set i (some x))
 |.many is=>∃l bY,x=.tup l/\G0 is l Z=some bY/\k bY
set_option genInjectivity false in
set_option genSizeOf false in
inductive ME where
 |var (i:Nat)|lit (d:D)
 |nil|cons (a b:ME)|prim (p:Pr) (es:ME)|dU (p:Pr) (o es:ME)|qc (es:ME)
 |chain (o1 o2:CmpOp) (a b c:ME)
 |cQ (a b:ME)|jH (a b:ME)|dE (a:ME)|ite (c a b:ME)
 |call (f:Nat) (es:ME)|make (c:Str) (f:Nat) (es:ME)|kC (m:Str) (cs:List (Str×Nat)) (o es:ME)
 |comp (d4:List Nat) (n:Nat) (tg:MT) (it cond elt:ME)|ia (d4:List Nat) (n:Nat) (tg:MT) (it cond elt:ME)|kz (d4:List Nat) (n:Nat) (tg:MT) (it cond elt:ME)
 |fe (e:ME)|dW (a:ME)|kF (a b:ME)|kG (e:ME)|nX (e:ME)|fm (e:ME)|no
noncomputable abbrev fk:=Nat->List D->G->KD->KX->Prop
def F6(Z:S)(d4:List Nat)(n:Nat):S:=d4.map (λj=>(Z[j]?).join)++List.replicate (n-d4.length) none
def turns(k:IK)(Z:S)(g:G)(fin:S->G->Prop)(turn:D->(S->G->Prop)->S->G->Prop):Prop :=
 ∃W:Nat->Nat->S->G->Prop,(∃m,W 0 m Z g)/\∀i m Z g,W i m Z g->(k.at i g=some none/\fin Z g)\/∃x,k.at i g=some (some x)/\∃N2:S->G->Prop,(∀bY g',N2 bY g'->∃m',m'<m/\W (i+1) m' bY g')/\turn x N2 Z g
def yU(k:IK)(Z:S)(g:G)(fin:List D->G->Prop)(turn:D->(Option D->S->G->Prop)->S->G->Prop):Prop :=
 ∃W:Nat->Nat->List D->S->G->Prop,(∃m,W 0 m [] Z g)/\∀i m ys Z g,W i m ys Z g->(k.at i g=some none/\fin ys g) \/
  ∃x,k.at i g=some (some x)/\ys.length<100000/\turn x (λy bY g'=>∃m',m'<m/\W (i+1) m' (ys++y.toList) bY g') Z g
def Fq(k:IK)(Z:S)(g:G)(fin:List Int->G->Prop)(turn:D->(Option Int->S->G->Prop)->S->G->Prop):Prop :=
 ∃W:Nat->Nat->List Int->S->G->Prop,(∃m,W 0 m [] Z g)/\∀i m ys Z g,W i m ys Z g->(k.at i g=some none/\ys.length<60/\fin ys g) \/
  ∃x,k.at i g=some (some x)/\ys.length<60/\turn x (λy bY g'=>∃m',m'<m/\W (i+1) m' (ys++y.toList) bY g') Z g
mutual
noncomputable def aW(P:fk):ME->S->G->KD->KX->Prop
 |.var i,Z,g,Q,_=>∃d,Z[i]?=some (some d)/\Q d g
 |.lit d,_,g,Q,_=>Q d g
 |.prim p es,Z,g,Q,E=>gs P es Z g (λxs g1=>cE p xs g1 Q) E
 |.dU p o es,Z,g,Q,E=>aW P o Z g (λx g1=>mh p x g1/\gs P es Z g1 (λxs g2=>cE p (x::xs) g2 Q) E) E
 |.qc es,Z,g,Q,E=>gs P es Z (g++[.dX []]) (λxs g1=>∃kvs,xC xs []=some kvs/\xs.length<=30/\g1[g.length]?=some (.dX [])/\Q (.ref g.length) (g1.set g.length (.dX kvs))) E
 |.chain o1 o2 a b c,Z,g,Q,E=>aW P a Z g (λx g1=>aW P b Z g1 (λy g2=>cE (.cmp o1) [x,y] g2 λz g3=>∃t,z=.bl t/\if t=true then aW P c Z g3 (λw g4=>cE (.cmp o2) [y,w] g4 Q) E else Q (.bl false) g3) E) E
 |.cQ a b,Z,g,Q,E=>aW P a Z g (λx g1=>∃t,x=.bl t/\if t=true then aW P b Z g1 Q E else Q (.bl false) g1) E
 |.jH a b,Z,g,Q,E=>aW P a Z g (λx g1=>∃t,x=.bl t/\if t=true then Q (.bl true) g1 else aW P b Z g1 Q E) E
 |.dE a,Z,g,Q,E=>aW P a Z g (λx g1=>∃t,x=.bl t/\Q (.bl (!t)) g1) E
 |.ite c a b,Z,g,Q,E=>dg P c Z g (λt g1=>if t=true then aW P a Z g1 Q E else aW P b Z g1 Q E) E
 |.call f es,Z,g,Q,E=>gs P es Z g (λxs g1=>P f xs g1 Q E) E
 |.make c f es,Z,g,Q,E=>gs P es Z g (λxs g1=>P f (.ref g1.length::xs) (g1++[.ins c []]) (λd g2=>d=.bN/\Q (.ref g1.length) g2) E) E
 |.kC m cs o es,Z,g,Q,E=>aW P o Z g (λx g1=>∃a c fs f,x=.ref a/\g1[a]?=some (.ins c fs)/\fs.lookup m=none/\cs.lookup c=some f/\gs P es Z g1 (λxs g2=>P f (x::xs) g2 Q E) E) E
 |.comp d4 n tg it cond elt,Z,g,Q,E=>gS P it Z g (λk g1=>yU k (F6 Z d4 n) g1 (λys g=>Q (.ref g.length) (g++[.lst ys])) λx N Z g=>jF tg x Z λcA=>dg P cond cA g (λb g3=>if b=true then aW P elt cA g3 (λy g4=>N (some y) cA g4) iX else N none cA g3) iX) E
 |.kz d4 n tg it cond elt,Z,g,Q,E=>gS P it Z g (λk g1=>yU k (F6 Z d4 n) g1 (λys g=>Q (.ref g.length) (g++[.lst ys])) λx N Z g=>jF tg x Z λcA=>dg P cond cA g (λb g3=>if b=true then aW P elt cA g3 (λy g4=>N (some y) cA g4) E else N none cA g3) iX) E
 |.ia d4 n tg it cond elt,Z,g,Q,E=>gS P it Z g (λk g1=>Fq k (F6 Z d4 n) g1 (λys g=>Q (.ref g.length) (g++[.lst ((p8 ys).map .int)])) λx N Z g=>jF tg x Z λcA=>dg P cond cA g (λb g3=>if b=true then aW P elt cA g3 (λy g4=>∃j,y=.int j/\N (some j) cA g4) iX else N none cA g3) iX) E
 |.nil,_,_,_,_=>False
 |.cons _ _,_,_,_,_=>False
 |.fe _,_,_,_,_=>False
 |.dW _,_,_,_,_=>False
 |.kF _ _,_,_,_,_=>False
 |.kG _,_,_,_,_=>False
 |.nX _,_,_,_,_=>False
 |.fm _,_,_,_,_=>False
 |.no,_,_,_,_=>False
noncomputable def gs(P:fk):ME->S->G->(List D->G->Prop)->KX->Prop
 |.nil,_,g,Q,_=>Q [] g
 |.cons a b,Z,g,Q,E=>aW P a Z g (λx g1=>gs P b Z g1 (λxs g2=>Q (x::xs) g2) E) E
 |_,_,_,_,_=>False
noncomputable def dg(P:fk):ME->S->G->(Bool->G->Prop)->KX->Prop
 |.cQ a b,Z,g,Q,E=>dg P a Z g (λt g1=>if t=true then dg P b Z g1 Q E else Q false g1) E
 |.jH a b,Z,g,Q,E=>dg P a Z g (λt g1=>if t=true then Q true g1 else dg P b Z g1 Q E) E
 |.dE a,Z,g,Q,E=>dg P a Z g (λt g1=>Q (!t) g1) E
 |.no,_,g,Q,_=>Q true g
 |.fm e,Z,g,Q,E=>aW P e Z g (λx g1=>qi g1 x λb=>Q b g1) E
 |_,_,_,_,_=>False
noncomputable def gS(P:fk):ME->S->G->(IK->G->Prop)->KX->Prop
 |.fe e,Z,g,R,E=>aW P e Z g (λx g1=>(∃l,x=.tup l/\R (.fix l) g1)\/∃a l,x=.ref a/\d0 g1 a=some l/\R (.lst a) g1) E
 |.dW a,Z,g,R,E=>aW P a Z g (λx g1=>∃j:Int,x=.int j/\-(2 ^ 62)<=j/\j<2 ^ 62/\R (.fix (i6 0 j.toNat)) g1) E
 |.kF a b,Z,g,R,E=>aW P a Z g (λx g1=>aW P b Z g1 (λy g2=>∃i j:Int,x=.int i/\y=.int j/\(-(2 ^ 62)<=i/\i<2 ^ 62/\-(2 ^ 62)<=j/\j<2 ^ 62)/\R (.fix (i6 i (j-i).toNat)) g2) E) E
 |.kG e,Z,g,R,E=>aW P e Z g (λx g1=>∃a l,x=.ref a/\d0 g1 a=some l/\R (.oU a) g1) E
 |.nX e,Z,g,R,E=>aW P e Z g (λx g1=>∃a l,x=.ref a/\d0 g1 a=some l/\R (.sX a l.length) g1) E
 |_,_,_,_,_=>False
end
set_option genInjectivity false in
set_option genSizeOf false in
inductive MS where
 |pass|seq (a b:MS)|expr (e:ME)|set (i:Nat) (e:ME)|lY (t:MT) (e:ME)|eP (o i v:ME)|iP (f:Str) (cs:List Str) (o v:ME)
 |wX (f:Str) (cs:List Str) (o v:ME)|kd (i:Nat) (p:Pr) (v:ME)|qv (o1 i1 o2 i2 e:ME)
 |ifs (c:ME) (a b:MS)|dw (t:MT) (it:ME) (b:MS)|kq (c:ME) (b:MS)|ret (e:ME)|qD|brk|cont
 |raise (x:Str) (es:ME)|pq (b:MS) (hs:List (Str×ME))
structure Ends where
 nx:S->G->Prop
 rt:KD
 bk:S->G->Prop:=λ_ _=>False
 ct:S->G->Prop:=λ_ _=>False
def nU(P:fk)(N:Ends)(Z:S)(E:KX):List (Str×ME)->KX
 |[],x,g=>E x g
 |(y,e)::r,x,g=>if x.cls=y\/y="MintError" then aW P e Z g N.rt iX else nU P N Z E r x g
def wpS(P:fk):MS->Ends->S->G->KX->Prop
 |.pass,N,Z,g,_=>N.nx Z g
 |.seq a b,N,Z,g,E=>wpS P a { N with nx:=λiU g1=>wpS P b N iU g1 E } Z g E
 |.expr e,N,Z,g,E=>aW P e Z g (λ_ g1=>N.nx Z g1) E
 |.set i e,N,Z,g,E=>aW P e Z g (λx g1=>N.nx (Z.set i (some x)) g1) E
 |.lY t e,N,Z,g,E=>aW P e Z g (λx g1=>jF t x Z λiU=>N.nx iU g1) E
 |.eP o i v,N,Z,g,E=>aW P v Z g (λx g1=>aW P o Z g1 (λy g2=>aW P i Z g2 (λz g3=>S1 y z x g3 λg4=>N.nx Z g4) E) E) E
 |.iP f cs o v,N,Z,g,E=>aW P v Z g (λx g1=>aW P o Z g1 (λy g2=>xi f cs y x g2 λg3=>N.nx Z g3) E) E
 |.wX f cs o v,N,Z,g,E=>aW P o Z g (λy g1=>∃a c fs x,y=.ref a/\g1[a]?=some (.ins c fs)/\c∈cs/\fs.lookup f=some x/\aW P v Z g1 (λz g3=>cE .iadd [x,z] g3 λw g4=>∃rO,g4[a]?=some (.ins c rO)/\rO.length<100/\N.nx Z (g4.set a (.ins c (m5 f w rO)))) E) E
 |.qv o1 i1 o2 i2 e,N,Z,g,E=>aW P e Z g (λx g1=>∃u v,x=.tup [u,v]/\aW P o1 Z g1 (λy1 g2=>aW P i1 Z g2 (λz1 g3=>S1 y1 z1 u g3 λg4=>aW P o2 Z g4 (λy2 g5=>aW P i2 Z g5 (λz2 g6=>S1 y2 z2 v g6 λg7=>N.nx Z g7) E) E) E) E) E
 |.kd i p v,N,Z,g,E=>∃x,Z[i]?=some (some x)/\aW P v Z g (λz g1=>cE p [x,z] g1 λw g2=>N.nx (Z.set i (some w)) g2) E
 |.ifs c a b,N,Z,g,E=>dg P c Z g (λt g1=>if t=true then wpS P a N Z g1 E else wpS P b N Z g1 E) E
 |.dw t it b,N,Z,g,E=>gS P it Z g (λk g1=>turns k Z g1 N.nx λx N2 Z g=>jF t x Z λcA=>wpS P b { N with nx:=N2,ct:=N2,bk:=N.nx } cA g E) E
 |.kq c b,N,Z,g,E=>∃W:Nat->S->G->Prop,(∃m,W m Z g)/\∀m Z g,W m Z g->dg P c Z g (λt g1=>if t=true then ∃N2:S->G->Prop,(∀bY g',N2 bY g'->∃m',m'<m/\W m' bY g')/\wpS P b { N with nx:=N2,ct:=N2,bk:=N.nx } Z g1 E else N.nx Z g1) E
 |.ret e,N,Z,g,E=>aW P e Z g N.rt E
 |.qD,N,_,g,_=>N.rt .bN g
 |.brk,N,Z,g,_=>N.bk Z g
 |.cont,N,Z,g,_=>N.ct Z g
 |.raise x es,_,Z,g,E=>gs P es Z g (λvs g1=>vs.length<=1000/\E ⟨x⟩ g1) E
 |.pq b hs,N,Z,g,E=>wpS P b N Z g (nU P N (Z.map λ_=>none) E hs)
structure aX where
 ar:Nat
 n:Nat
 body:MS
def c7(m:aX)(ds:List D):S:=ds.map some++List.replicate (m.n-ds.length) none
def c5(T:Nat->Option aX):Nat->fk
 |0,_,_,_,_,_=>False
 |k+1,f,ds,g,Q,E=>∃m,T f=some m/\ds.length=m.ar/\wpS (c5 T k) m.body ⟨λ_ g'=>Q .bN g',Q,λ_ _=>False,λ_ _=>False⟩ (c7 m ds) g E
end M
namespace M
open PySem L2
variable{g:G}{K:PySem.W.Frag}{H:Hp}{a p:Addr}{vs:List V}{i:Nat}{o:O}{u:HO}{l:List D}
theorem o6{p xs}{Q Q':KD}(h:∀d g,Q d g->Q' d g)(q:cE p xs g Q):cE p xs g Q':=by
 obtain⟨d,g',a,b⟩:=q;exact⟨d,g',a,h _ _ b⟩
theorem aX8{x}{k k':Bool->Prop}(h:∀b,k b->k' b)(q:qi g x k):qi g x k':=by
 obtain⟨b,a,z⟩:=q;exact⟨b,a,h _ z⟩
theorem M6{x y v}{k k':G->Prop}(h:∀g,k g->k' g)(q:S1 x y v g k):S1 x y v g k':=by
 obtain⟨b,a,z⟩:=q;exact⟨b,a,h _ z⟩
theorem aS2{f cs x v}{k k':G->Prop}(h:∀g,k g->k' g)(q:xi f cs x v g k):xi f cs x v g k':=by
 obtain⟨b,a,z⟩:=q;exact⟨b,a,h _ z⟩
theorem x6{t x Z}{k k':S->Prop}(h:∀Z,k Z->k' Z)(q:jF t x Z k):jF t x Z k':=by
 cases t with
 |one i=>exact h _ q
 |many is=>obtain⟨l,bY,a,b,c⟩:=q;exact⟨l,bY,a,b,h _ c⟩
theorem aQ8{k Z g}{fin kJ:S->G->Prop}{turn iD:D->(S->G->Prop)->S->G->Prop}(h:∀Z g,fin Z g->kJ Z g)(h2:∀x N Z g,turn x N Z g->iD x N Z g)(q:turns k Z g fin turn):turns k Z g kJ iD:=by
 obtain⟨W,w0,q⟩:=q;refine⟨W,w0,λi m Z g w=>?_⟩;rcases q i m Z g w with⟨a,b⟩|⟨x,a,N2,b,c⟩
 ·exact .inl ⟨a,h _ _ b⟩
 ·exact .inr ⟨x,a,N2,b,h2 _ _ _ _ c⟩
theorem Kh{k Z g}{fin kJ:List D->G->Prop}{turn iD:D->(Option D->S->G->Prop)->S->G->Prop}(h:∀ys g,fin ys g->kJ ys g)(h2:∀x N Z g,turn x N Z g->iD x N Z g)(q:yU k Z g fin turn):yU k Z g kJ iD:=by
 obtain⟨W,w0,q⟩:=q;refine⟨W,w0,λi m ys Z g w=>?_⟩;rcases q i m ys Z g w with⟨a,b⟩|⟨x,a,b,c⟩
 ·exact .inl ⟨a,h _ _ b⟩
 ·exact .inr ⟨x,a,b,h2 _ _ _ _ c⟩
theorem aK5{k Z g}{fin kJ:List Int->G->Prop}{turn iD:D->(Option Int->S->G->Prop)->S->G->Prop}(h:∀ys g,fin ys g->kJ ys g)(h2:∀x N Z g,turn x N Z g->iD x N Z g)(q:Fq k Z g fin turn):Fq k Z g kJ iD:=by
 obtain⟨W,w0,q⟩:=q;refine⟨W,w0,λi m ys Z g w=>?_⟩;rcases q i m ys Z g w with⟨a,b,c⟩|⟨x,a,b,c⟩
 ·exact .inl ⟨a,b,h _ _ c⟩
 ·exact .inr ⟨x,a,b,h2 _ _ _ _ c⟩
theorem J8{t:Bool}{A B A' B':Prop}(h1:A->A')(h2:B->B')(q:if t=true then A else B):if t=true then A' else B':=by
 cases t
 ·exact h2 q
 ·exact h1 q
def j4(P:fk):Prop:=∀f xs g Q Q' E E',(∀d g,Q d g->Q' d g)->(∀x g,E x g->E' x g)->P f xs g Q E->P f xs g Q' E'
mutual
theorem c6{P:fk}(hP:j4 P):∀(e:ME) (Z:S) (g:G) (Q Q':KD) (E E':KX),(∀d g,Q d g->Q' d g)->(∀x g,E x g->E' x g)->aW P e Z g Q E->aW P e Z g Q' E'
 |.var i,Z,g,Q,Q',E,E',h,hx,q=>by
  obtain⟨d,a,b⟩:=q;exact⟨d,a,h _ _ b⟩
 |.lit d,Z,g,Q,Q',E,E',h,hx,q=>by exact h _ _ q
 |.prim p es,Z,g,Q,Q',E,E',h,hx,q=>by
  exact B6 hP es _ _ _ _ _ _ (λxs g1 q=>o6 h q) hx q
 |.dU p o es,Z,g,Q,Q',E,E',h,hx,q=>by
  exact c6 hP o _ _ _ _ _ _ (λx g1 q=>⟨q.1,B6 hP es _ _ _ _ _ _ (λxs g2 q=>o6 h q) hx q.2⟩) hx q
 |.qc es,Z,g,Q,Q',E,E',h,hx,q=>by
  exact B6 hP es _ _ _ _ _ _ (λxs g1 ⟨kvs,a,b,c,d⟩=>⟨kvs,a,b,c,h _ _ d⟩) hx q
 |.chain o1 o2 a b c,Z,g,Q,Q',E,E',h,hx,q=>by
  refine c6 hP a _ _ _ _ _ _ (λx g1 q=>c6 hP b _ _ _ _ _ _ (λy g2 q=>o6 (λz g3 q=>?_) q) hx q) hx q;obtain⟨t,e,q⟩:=q;exact⟨t,e,J8 (λq=>c6 hP c _ _ _ _ _ _ (λw g4 q=>o6 h q) hx q) (h _ _) q⟩
 |.cQ a b,Z,g,Q,Q',E,E',h,hx,q=>by
  refine c6 hP a _ _ _ _ _ _ (λx g1 q=>?_) hx q;obtain⟨t,e,q⟩:=q;exact⟨t,e,J8 (λq=>c6 hP b _ _ _ _ _ _ h hx q) (h _ _) q⟩
 |.jH a b,Z,g,Q,Q',E,E',h,hx,q=>by
  refine c6 hP a _ _ _ _ _ _ (λx g1 q=>?_) hx q;obtain⟨t,e,q⟩:=q;exact⟨t,e,J8 (h _ _) (λq=>c6 hP b _ _ _ _ _ _ h hx q) q⟩
 |.dE a,Z,g,Q,Q',E,E',h,hx,q=>by
  refine c6 hP a _ _ _ _ _ _ (λx g1 q=>?_) hx q;obtain⟨t,e,q⟩:=q;exact⟨t,e,h _ _ q⟩
 |.ite c a b,Z,g,Q,Q',E,E',h,hx,q=>by
  exact q8 hP c _ _ _ _ _ _ (λt g1 q=>J8 (λq=>c6 hP a _ _ _ _ _ _ h hx q) (λq=>c6 hP b _ _ _ _ _ _ h hx q) q) hx q
 |.call f es,Z,g,Q,Q',E,E',h,hx,q=>by
  exact B6 hP es _ _ _ _ _ _ (λxs g1 q=>hP _ _ _ _ _ _ _ h hx q) hx q
 |.make c f es,Z,g,Q,Q',E,E',h,hx,q=>by
  exact B6 hP es _ _ _ _ _ _ (λxs g1 q=>hP _ _ _ _ _ _ _ (λd g2 q=>⟨q.1,h _ _ q.2⟩) hx q) hx q
 |.kC m cs o es,Z,g,Q,Q',E,E',h,hx,q=>by
  refine c6 hP o _ _ _ _ _ _ (λx g1 q=>?_) hx q;obtain⟨a,c,fs,f,q1,q2,q3,q4,q⟩:=q;exact⟨a,c,fs,f,q1,q2,q3,q4,B6 hP es _ _ _ _ _ _ (λxs g2 q=>hP _ _ _ _ _ _ _ h hx q) hx q⟩
 |.comp d4 n tg it cond elt,Z,g,Q,Q',E,E',h,hx,q=>by
  exact B5 hP it _ _ _ _ _ _ (λk g1 q=>Kh (λys g q=>h _ _ q) (λ_ _ _ _ q=>q) q) hx q
 |.kz d4 n tg it cond elt,Z,g,Q,Q',E,E',h,hx,q=>by
  exact B5 hP it _ _ _ _ _ _ (λk g1 q=>Kh (λys g q=>h _ _ q) (λx N Z g q=>x6 (λcA q=>q8 hP cond _ _ _ _ _ _ (λb g3 q=>by
   cases b
   ·exact q
   ·exact c6 hP elt _ _ _ _ _ _ (λ_ _ z=>z) hx q) (λ_ _ z=>z) q) q) q) hx q
 |.ia d4 n tg it cond elt,Z,g,Q,Q',E,E',h,hx,q=>by
  exact B5 hP it _ _ _ _ _ _ (λk g1 q=>aK5 (λys g q=>h _ _ q) (λ_ _ _ _ q=>q) q) hx q
 |.nil,Z,g,Q,Q',E,E',h,hx,q=>(show False from q).elim
 |.cons _ _,Z,g,Q,Q',E,E',h,hx,q=>(show False from q).elim
 |.fe _,Z,g,Q,Q',E,E',h,hx,q=>(show False from q).elim
 |.dW _,Z,g,Q,Q',E,E',h,hx,q=>(show False from q).elim
 |.kF _ _,Z,g,Q,Q',E,E',h,hx,q=>(show False from q).elim
 |.kG _,Z,g,Q,Q',E,E',h,hx,q|.nX _,Z,g,Q,Q',E,E',h,hx,q=>(show False from q).elim
 |.fm _,Z,g,Q,Q',E,E',h,hx,q=>(show False from q).elim
 |.no,Z,g,Q,Q',E,E',h,hx,q=>(show False from q).elim
theorem B6{P:fk}(hP:j4 P):∀(e:ME) (Z:S) (g:G) (Q Q':List D->G->Prop) (E E':KX),(∀d g,Q d g->Q' d g)->(∀x g,E x g->E' x g)->gs P e Z g Q E->gs P e Z g Q' E'
 |.nil,Z,g,Q,Q',E,E',h,hx,q=>by exact h _ _ q
 |.cons a b,Z,g,Q,Q',E,E',h,hx,q=>by
  exact c6 hP a _ _ _ _ _ _ (λx g1 q=>B6 hP b _ _ _ _ _ _ (λxs g2 q=>h _ _ q) hx q) hx q
 |.var _,Z,g,Q,Q',E,E',h,hx,q|.lit _,Z,g,Q,Q',E,E',h,hx,q|.prim _ _,Z,g,Q,Q',E,E',h,hx,q|.dU _ _ _,Z,g,Q,Q',E,E',h,hx,q|.qc _,Z,g,Q,Q',E,E',h,hx,q|.chain _ _ _ _ _,Z,g,Q,Q',E,E',h,hx,q|.cQ _ _,Z,g,Q,Q',E,E',h,hx,q|.jH _ _,Z,g,Q,Q',E,E',h,hx,q|.dE _,Z,g,Q,Q',E,E',h,hx,q|.ite _ _ _,Z,g,Q,Q',E,E',h,hx,q|.call _ _,Z,g,Q,Q',E,E',h,hx,q
 |.make _ _ _,Z,g,Q,Q',E,E',h,hx,q|.kC _ _ _ _,Z,g,Q,Q',E,E',h,hx,q|.comp _ _ _ _ _ _,Z,g,Q,Q',E,E',h,hx,q|.ia _ _ _ _ _ _,Z,g,Q,Q',E,E',h,hx,q|.kz _ _ _ _ _ _,Z,g,Q,Q',E,E',h,hx,q|.fe _,Z,g,Q,Q',E,E',h,hx,q|.dW _,Z,g,Q,Q',E,E',h,hx,q|.kF _ _,Z,g,Q,Q',E,E',h,hx,q|.kG _,Z,g,Q,Q',E,E',h,hx,q|.nX _,Z,g,Q,Q',E,E',h,hx,q|.fm _,Z,g,Q,Q',E,E',h,hx,q|.no,Z,g,Q,Q',E,E',h,hx,q=>(show False from q).elim
theorem q8{P:fk}(hP:j4 P):∀(e:ME) (Z:S) (g:G) (Q Q':Bool->G->Prop) (E E':KX),(∀d g,Q d g->Q' d g)->(∀x g,E x g->E' x g)->dg P e Z g Q E->dg P e Z g Q' E'
 |.cQ a b,Z,g,Q,Q',E,E',h,hx,q=>by
  exact q8 hP a _ _ _ _ _ _ (λt g1 q=>J8 (λq=>q8 hP b _ _ _ _ _ _ h hx q) (h _ _) q) hx q
 |.jH a b,Z,g,Q,Q',E,E',h,hx,q=>by
  exact q8 hP a _ _ _ _ _ _ (λt g1 q=>J8 (h _ _) (λq=>q8 hP b _ _ _ _ _ _ h hx q) q) hx q
 |.dE a,Z,g,Q,Q',E,E',h,hx,q=>by exact q8 hP a _ _ _ _ _ _ (λt g1 q=>h _ _ q) hx q
 |.no,Z,g,Q,Q',E,E',h,hx,q=>by exact h _ _ q
 |.fm e,Z,g,Q,Q',E,E',h,hx,q=>by exact c6 hP e _ _ _ _ _ _ (λx g1 q=>aX8 (λb q=>h _ _ q) q) hx q
 |.var _,Z,g,Q,Q',E,E',h,hx,q|.lit _,Z,g,Q,Q',E,E',h,hx,q|.prim _ _,Z,g,Q,Q',E,E',h,hx,q|.dU _ _ _,Z,g,Q,Q',E,E',h,hx,q|.qc _,Z,g,Q,Q',E,E',h,hx,q|.chain _ _ _ _ _,Z,g,Q,Q',E,E',h,hx,q|.ite _ _ _,Z,g,Q,Q',E,E',h,hx,q|.call _ _,Z,g,Q,Q',E,E',h,hx,q|.nil,Z,g,Q,Q',E,E',h,hx,q|.cons _ _,Z,g,Q,Q',E,E',h,hx,q
 |.make _ _ _,Z,g,Q,Q',E,E',h,hx,q|.kC _ _ _ _,Z,g,Q,Q',E,E',h,hx,q|.comp _ _ _ _ _ _,Z,g,Q,Q',E,E',h,hx,q|.ia _ _ _ _ _ _,Z,g,Q,Q',E,E',h,hx,q|.kz _ _ _ _ _ _,Z,g,Q,Q',E,E',h,hx,q|.fe _,Z,g,Q,Q',E,E',h,hx,q|.dW _,Z,g,Q,Q',E,E',h,hx,q|.kF _ _,Z,g,Q,Q',E,E',h,hx,q|.kG _,Z,g,Q,Q',E,E',h,hx,q|.nX _,Z,g,Q,Q',E,E',h,hx,q=>(show False from q).elim
theorem B5{P:fk}(hP:j4 P):∀(e:ME) (Z:S) (g:G) (Q Q':IK->G->Prop) (E E':KX),(∀d g,Q d g->Q' d g)->(∀x g,E x g->E' x g)->gS P e Z g Q E->gS P e Z g Q' E'
 |.fe e,Z,g,Q,Q',E,E',h,hx,q=>by
  exact c6 hP e _ _ _ _ _ _ (λx g1 q=>q.imp (λ⟨l,a,b⟩=>⟨l,a,h _ _ b⟩) λ⟨i,l,a,b,c⟩=>⟨i,l,a,b,h _ _ c⟩) hx q
 |.dW a,Z,g,Q,Q',E,E',h,hx,q=>by
  exact c6 hP a _ _ _ _ _ _ (λx g1 ⟨j,a,b,c,d⟩=>⟨j,a,b,c,h _ _ d⟩) hx q
 |.kF a b,Z,g,Q,Q',E,E',h,hx,q=>by
  exact c6 hP a _ _ _ _ _ _ (λx g1 q=>c6 hP b _ _ _ _ _ _ (λy g2 ⟨i,j,a,b,c,d⟩=>⟨i,j,a,b,c,h _ _ d⟩) hx q) hx q
 |.kG e,Z,g,Q,Q',E,E',h,hx,q=>by
  exact c6 hP e _ _ _ _ _ _ (λx g1 ⟨i,l,a,b,c⟩=>⟨i,l,a,b,h _ _ c⟩) hx q
 |.nX e,Z,g,Q,Q',E,E',h,hx,q=>by
  exact c6 hP e _ _ _ _ _ _ (λx g1 ⟨i,l,a,b,c⟩=>⟨i,l,a,b,h _ _ c⟩) hx q
 |.var _,Z,g,Q,Q',E,E',h,hx,q|.lit _,Z,g,Q,Q',E,E',h,hx,q|.prim _ _,Z,g,Q,Q',E,E',h,hx,q|.dU _ _ _,Z,g,Q,Q',E,E',h,hx,q|.qc _,Z,g,Q,Q',E,E',h,hx,q|.chain _ _ _ _ _,Z,g,Q,Q',E,E',h,hx,q|.ite _ _ _,Z,g,Q,Q',E,E',h,hx,q|.call _ _,Z,g,Q,Q',E,E',h,hx,q|.nil,Z,g,Q,Q',E,E',h,hx,q|.cons _ _,Z,g,Q,Q',E,E',h,hx,q
 |.cQ _ _,Z,g,Q,Q',E,E',h,hx,q|.jH _ _,Z,g,Q,Q',E,E',h,hx,q|.dE _,Z,g,Q,Q',E,E',h,hx,q|.fm _,Z,g,Q,Q',E,E',h,hx,q|.no,Z,g,Q,Q',E,E',h,hx,q
 |.make _ _ _,Z,g,Q,Q',E,E',h,hx,q|.kC _ _ _ _,Z,g,Q,Q',E,E',h,hx,q|.comp _ _ _ _ _ _,Z,g,Q,Q',E,E',h,hx,q|.ia _ _ _ _ _ _,Z,g,Q,Q',E,E',h,hx,q|.kz _ _ _ _ _ _,Z,g,Q,Q',E,E',h,hx,q=>(show False from q).elim
end
structure Ends.le(N N':Ends):Prop where
 nx:∀Z g,N.nx Z g->N'.nx Z g
 rt:∀d g,N.rt d g->N'.rt d g
 bk:∀Z g,N.bk Z g->N'.bk Z g
 ct:∀Z g,N.ct Z g->N'.ct Z g
theorem Ml{P:fk}(hP:j4 P){N N':Ends}{E E':KX}(h:N.le N')(hx:∀x g,E x g->E' x g){Z:S}:∀(hs:List (Str×ME)) x g,nU P N Z E hs x g->nU P N' Z E' hs x g
 |[],x,g,q=>hx x g q
 |(y,e)::r,x,g,q=>by
  unfold nU at q ⊢;split
  ·rename_i hh;rw[aJ hh] at q;exact c6 hP e _ _ _ _ _ _ h.rt (λ_ _ z=>z) q
  ·rename_i hh;rw[aF hh] at q;exact Ml hP h hx r x g q
theorem wpS_mono{P:fk}(hP:j4 P):∀(s:MS) (N N':Ends) (Z:S) (g:G) (E E':KX),N.le N'->(∀x g,E x g->E' x g)->wpS P s N Z g E->wpS P s N' Z g E'
 |.pass,N,N',Z,g,E,E',h,hx,q=>h.nx _ _ q
 |.seq a b,N,N',Z,g,E,E',h,hx,q=>wpS_mono hP a { N with nx:=λiU g1=>wpS P b N iU g1 E } { N' with nx:=λiU g1=>wpS P b N' iU g1 E' } _ _ _ _ ⟨λiU g1 q=>wpS_mono hP b _ _ _ _ _ _ h hx q,h.rt,h.bk,h.ct⟩ hx q
 |.expr e,N,N',Z,g,E,E',h,hx,q=>c6 hP e _ _ _ _ _ _ (λx g1 q=>h.nx _ _ q) hx q
 |.set i e,N,N',Z,g,E,E',h,hx,q=>c6 hP e _ _ _ _ _ _ (λx g1 q=>h.nx _ _ q) hx q
 |.lY t e,N,N',Z,g,E,E',h,hx,q=>c6 hP e _ _ _ _ _ _ (λx g1 q=>x6 (λZ q=>h.nx _ _ q) q) hx q
 |.eP o i v,N,N',Z,g,E,E',h,hx,q=>c6 hP v _ _ _ _ _ _ (λx g1 q=>c6 hP o _ _ _ _ _ _ (λy g2 q=>c6 hP i _ _ _ _ _ _ (λz g3 q=>M6 (λg q=>h.nx _ _ q) q) hx q) hx q) hx q
 |.iP f cs o v,N,N',Z,g,E,E',h,hx,q=>c6 hP v _ _ _ _ _ _ (λx g1 q=>c6 hP o _ _ _ _ _ _ (λy g2 q=>aS2 (λg q=>h.nx _ _ q) q) hx q) hx q
 | .wX f cs o v,N,N',Z,g,E,E',h,hx,q=>c6 hP o _ _ _ _ _ _ (λy g1 q=>by
   obtain⟨a,c,fs,x,q1,q2,q3,q4,q⟩:=q;exact ⟨a,c,fs,x,q1,q2,q3,q4,c6 hP v _ _ _ _ _ _ (λz g3 q=>o6 (λw g4 q=>by
    obtain⟨rO,k1,k2,k3⟩:=q;exact ⟨rO,k1,k2,h.nx _ _ k3⟩) q) hx q⟩) hx q
 |.qv o1 i1 o2 i2 e,N,N',Z,g,E,E',h,hx,q=>c6 hP e _ _ _ _ _ _ (λx g1 q=>let ⟨u,v,q1,q⟩:=q;⟨u,v,q1,c6 hP o1 _ _ _ _ _ _ (λy g2 q=>c6 hP i1 _ _ _ _ _ _ (λz g3 q=>M6 (λg4 q=>c6 hP o2 _ _ _ _ _ _ (λy g5 q=>c6 hP i2 _ _ _ _ _ _ (λz g6 q=>M6 (λg q=>h.nx _ _ q) q) hx q) hx q) q) hx q) hx q⟩) hx q
 |.kd i p v,N,N',Z,g,E,E',h,hx,q=>let ⟨x,q1,q⟩:=q;⟨x,q1,c6 hP v _ _ _ _ _ _ (λz g1 q=>o6 (λw g2 q=>h.nx _ _ q) q) hx q⟩
 |.ifs c a b,N,N',Z,g,E,E',h,hx,q=>q8 hP c _ _ _ _ _ _ (λt g1 q=>J8 (λq=>wpS_mono hP a _ _ _ _ _ _ h hx q) (λq=>wpS_mono hP b _ _ _ _ _ _ h hx q) q) hx q
 |.dw t it b,N,N',Z,g,E,E',h,hx,q=>B5 hP it _ _ _ _ _ _ (λk g1 q=>aQ8 h.nx (λx N2 Z g q=>x6 (λcA q=>wpS_mono hP b { N with nx:=N2,ct:=N2,bk:=N.nx } { N' with nx:=N2,ct:=N2,bk:=N'.nx } _ _ _ _ ⟨λ_ _ z=>z,h.rt,h.nx,λ_ _ z=>z⟩ hx q) q) q) hx q
 |.kq c b,N,N',Z,g,E,E',h,hx,q=>by
  obtain⟨W,w0,q⟩:=q;refine⟨W,w0,λm Z g w=>q8 hP c _ _ _ _ _ _ (λt g1 q=>J8 (λq=>?_) (h.nx _ _) q) hx (q m Z g w)⟩;obtain⟨N2,a,q⟩:=q;exact⟨N2,a,wpS_mono hP b { N with nx:=N2,ct:=N2,bk:=N.nx } { N' with nx:=N2,ct:=N2,bk:=N'.nx } _ _ _ _ ⟨λ_ _ z=>z,h.rt,h.nx,λ_ _ z=>z⟩ hx q⟩
 |.ret e,N,N',Z,g,E,E',h,hx,q=>c6 hP e _ _ _ _ _ _ h.rt hx q
 |.qD,N,N',Z,g,E,E',h,hx,q=>h.rt _ _ q
 |.brk,N,N',Z,g,E,E',h,hx,q=>h.bk _ _ q
 |.cont,N,N',Z,g,E,E',h,hx,q=>h.ct _ _ q
 |.raise x es,N,N',Z,g,E,E',h,hx,q=>B6 hP es _ _ _ _ _ _ (λvs g1 q=>⟨q.1,hx _ _ q.2⟩) hx q
 |.pq b hs,N,N',Z,g,E,E',h,hx,q=>wpS_mono hP b _ _ _ _ _ _ h (λx g q=>Ml hP h hx hs x g q) q
theorem a8(T:Nat->Option aX):∀k,j4 (c5 T k)
 |0=>λf xs g Q Q' E E' h hx q=>q.elim
 |k+1=>λf xs g Q Q' E E' h hx q=>by
  obtain⟨m,a,b,q⟩:=q;exact⟨m,a,b,wpS_mono (a8 T k) m.body ⟨λ_ g'=>Q .bN g',Q,λ_ _=>False,λ_ _=>False⟩ _ _ _ _ _ ⟨λ_ _ z=>h _ _ z,h,λ_ _ z=>z,λ_ _ z=>z⟩ hx q⟩
def TupAt(K:PySem.W.Frag)(H:Hp)(a:Addr)(vs:List V):Prop :=
 H a=some (.tup vs)\/∃(o:Obj) (bf:Array Value) (n:Nat),K.lookup a=some o/\o.cls=.type "tuple"/\o.dict=none/\o.data=.seq bf n/\bf.size<=sizeLine/\Vals vs bf.toList
theorem TupAt.d(h:TupAt K H a vs):CU K H a vs:=h
theorem TupAt.sq{K:PySem.W.Frag}{H:Hp}{a:Addr}{vs:List V}(h:TupAt K H a vs):jB K H a vs:=h.d.sq
mutual
inductive d8(K:PySem.W.Frag)(ρ:List Addr)(H:Hp):D->V->Prop
 |bN:d8 K ρ H .bN .bN
 |bl (b:Bool):d8 K ρ H (.bl b) (.bl b)
 |int (i:Int):d8 K ρ H (.int i) (.int i)
 |str (x:Str):d8 K ρ H (.str x) (.str x)
 |ty (n:String):d8 K ρ H (.ty n) (.ty n)
 |ref {i:Nat} {a:Addr} (h:ρ[i]?=some a):d8 K ρ H (.ref i) (.ref a)
 |tup {l:List D} {a:Addr} {vs:List V} (h:TupAt K H a vs) (r:c8 K ρ H l vs):d8 K ρ H (.tup l) (.ref a)
inductive c8(K:PySem.W.Frag)(ρ:List Addr)(H:Hp):List D->List V->Prop
 |nil:c8 K ρ H [] []
 |cons {d:D} {v:V} {ds:List D} {vs:List V} (h:d8 K ρ H d v) (r:c8 K ρ H ds vs):c8 K ρ H (d::ds) (v::vs)
end
structure Ext(ρ:List Addr)(H:Hp)(bL:List Addr)(H':Hp):Prop where
 pre:∃more,bL=ρ++more
 tup:∀a xs,H a=some (.tup xs)->H' a=some (.tup xs)
theorem Ext.refl(ρ:List Addr)(H:Hp):Ext ρ H ρ H:=⟨⟨[],by simp⟩,λ_ _ h=>h⟩
theorem Ext.trans{ρ H bV H1 eY H2}(a:Ext ρ H bV H1)(b:Ext bV H1 eY H2):Ext ρ H eY H2:=by
 obtain⟨⟨m,rfl⟩,t⟩:=a;obtain⟨⟨m',rfl⟩,t'⟩:=b;exact⟨⟨m++m',by simp⟩,λx xs h=>t' _ _ (t _ _ h)⟩
theorem Ext.get{ρ H bL H'}(e:Ext ρ H bL H')(h:ρ[i]?=some a):bL[i]?=some a:=by
 obtain⟨⟨m,rfl⟩,_⟩:=e;rw[aD (aj.mp h).1];exact h
theorem TupAt.ext{K ρ H bL H'}(e:Ext ρ H bL H')(h:TupAt K H a vs):TupAt K H' a vs:=h.elim (λz=>.inl (e.tup _ _ z)) .inr
mutual
theorem d8.ext{K ρ H bL H'}(e:Ext ρ H bL H'):∀{d v},d8 K ρ H d v->d8 K bL H' d v
 |_,_,.bN=>.bN
 |_,_,.bl b=>.bl b
 |_,_,.int i=>.int i
 |_,_,.str x=>.str x
 |_,_,.ty n=>.ty n
 |_,_,.ref h=>.ref (e.get h)
 |_,_,.tup h r=>.tup (h.ext e) (c8.ext e r)
theorem c8.ext{K ρ H bL H'}(e:Ext ρ H bL H'):∀{ds vs},c8 K ρ H ds vs->c8 K bL H' ds vs
 |_,_,.nil=>.nil
 |_,_,.cons h r=>.cons (d8.ext e h) (c8.ext e r)
end
theorem c8.length{K ρ H}{ds:List D}{vs:List V}(h:c8 K ρ H ds vs):ds.length=vs.length:=by
 induction ds generalizing vs with
 |nil=>cases h;rfl
 |cons d ds ih =>
  cases h with
  |cons q r=>simp[ih r]
theorem c8.get{K ρ H}:∀{ds vs} {i:Nat} {d:D},c8 K ρ H ds vs->ds[i]?=some d->∃v,vs[i]?=some v/\d8 K ρ H d v
 |_,_,_,_,.nil,h=>by simp at h
 |_,_,0,_,.cons h _,e=>by simp at e;subst e;exact⟨_,rfl,h⟩
 |_,_,i+1,d,.cons _ r,e=>by
  obtain⟨v,h1,h2⟩:=c8.get (i:=i) (d:=d) r (by simpa using e);exact⟨v,by simpa using h1,h2⟩
theorem c8.set{K ρ H}{d:D}{v:V}(h:d8 K ρ H d v):∀{ds vs} (i:Nat),c8 K ρ H ds vs->c8 K ρ H (ds.set i d) (vs.set i v)
 |_,_,_,.nil=>.nil
 |_,_,0,.cons _ r=>.cons h r
 |_,_,i+1,.cons q r=>.cons q (c8.set h i r)
theorem c8.append{K ρ H}{ds es:List D}{ws:List V}(h:c8 K ρ H ds vs)(s:c8 K ρ H es ws):c8 K ρ H (ds++es) (vs++ws):=by
 induction ds generalizing vs with
 |nil=>cases h;exact s
 |cons d ds ih =>
  cases h with
  |cons q r=>exact .cons q (ih r)
theorem c8.rep{K ρ H}{ds:List D}{vs:List V}(r:c8 K ρ H ds vs):∀n,c8 K ρ H (List.replicate n ds).flatten (List.replicate n vs).flatten
 |0=>.nil
 |n+1=>by
  rw[cU,cU,et,et];exact c8.append r (c8.rep r n)
theorem c8.erase{K ρ H}:∀{ds:List D} {vs:List V} (i:Nat),c8 K ρ H ds vs->c8 K ρ H (ds.eraseIdx i) (vs.eraseIdx i)
 |_,_,_,.nil=>.nil
 |_,_,0,.cons _ r=>r
 |_,_,i+1,.cons q r=>.cons q (c8.erase i r)
theorem c8.take{K ρ H}:∀{ds:List D} {vs:List V} (n:Nat),c8 K ρ H ds vs->c8 K ρ H (ds.take n) (vs.take n)
 |_,_,0,_=>.nil
 |_,_,_+1,.nil=>.nil
 |_,_,n+1,.cons h r=>.cons h (c8.take n r)
theorem c8.drop{K ρ H}:∀{ds:List D} {vs:List V} (n:Nat),c8 K ρ H ds vs->c8 K ρ H (ds.drop n) (vs.drop n)
 |_,_,0,r=>r
 |_,_,_+1,.nil=>.nil
 |_,_,n+1,.cons _ r=>c8.drop n r
theorem c8.cut{K ρ H}{ds:List D}{vs:List V}(r:c8 K ρ H ds vs)(lo hi:Option Int):c8 K ρ H (M.cut ds lo hi) (W6 vs lo hi):=by
 unfold M.cut W6;rw[r.length];exact(r.drop _).take _
theorem c8.ints{K ρ H}:∀{ns:List Int} {vs:List V},c8 K ρ H (ns.map D.int) vs->vs=ns.map V.int
 |[],_,.nil=>rfl
 |_::_,_,.cons h r=>by cases h;rw[c8.ints r];rfl
theorem c8.ofInts{K ρ H}:∀(ns:List Int),c8 K ρ H (ns.map D.int) (ns.map V.int)
 |[]=>.nil
 |n::r=>.cons (.int n) (c8.ofInts r)
def uc(K:PySem.W.Frag)(H:Hp)(a:Addr)(vs:List V):Prop :=
 (∃o,H a=some (.jZ o (.lst vs)))\/∃(o:Obj) (bf:Array Value) (n:Nat),K.lookup a=some o/\o.cls=.type "list"/\o.dict=none/\o.data=.seq bf n/\bf.size<=sizeLine/\Vals vs bf.toList
theorem uc.sq(h:uc K H a vs):fM K H a vs:=h.elim (λ⟨o,z⟩=>.inl (.inr ⟨o,z⟩)) .inr
inductive j9{α:Type}(K:PySem.W.Frag)(ρ:List Addr)(H:Hp):List (α×D)->List (α×V)->Prop
 |nil:j9 K ρ H [] []
 |cons {k:α} {d:D} {v:V} {ds:List (α×D)} {vs:List (α×V)} (h:d8 K ρ H d v) (r:j9 K ρ H ds vs):j9 K ρ H ((k,d)::ds) ((k,v)::vs)
theorem j9.ext{α:Type}{K ρ H bL H'}(e:Ext ρ H bL H'){ds:List (α×D)}{vs:List (α×V)}(h:j9 K ρ H ds vs):j9 K bL H' ds vs:=by
 induction h with
 |nil=>exact .nil
 |cons h r ih=>exact .cons (h.ext e) ih
theorem j9.length{α:Type}{K ρ H}{ds:List (α×D)}{vs:List (α×V)}(h:j9 K ρ H ds vs):ds.length=vs.length:=by
 induction h with
 |nil=>rfl
 |cons h r ih=>simp[ih]
def sx(K:PySem.W.Frag)(ρ:List Addr)(H:Hp):Option D->Option V->Prop
 |some d,some v=>d8 K ρ H d v
 |none,none=>True
 |_,_=>False
theorem j9.val{K ρ H}:∀{ds vs} (k:Key),j9 K ρ H ds vs->sx K ρ H (u7 ds k) (N1 vs k)
 |_,_,k,.nil=>trivial
 |_,_,k,.cons (k:=k') h r=>by
  unfold u7 N1;rw[fb,fb];by_cases e:k'=k
  ·simp only[e,decide_true];exact h
  ·simp only[e,decide_false];exact j9.val k r
theorem j9.Iv{K ρ H}:∀{ds vs} (k:Key),j9 K ρ H ds vs->(ds.any λkv=>decide (kv.1=k))=(vs.any λkv=>decide (kv.1=k))
 |_,_,k,.nil=>rfl
 |_,_,k,.cons h r=>by simp only[List.any_cons,j9.Iv k r]
theorem j9.snoc{K ρ H}{k:Key}{d:D}{v:V}(h:d8 K ρ H d v){ds vs}(t:j9 K ρ H ds vs):j9 K ρ H (ds++[(k,d)]) (vs++[(k,v)]):=by
 induction ds generalizing vs with
 |nil=>cases t;exact .cons h .nil
 |cons d ds ih =>
  cases t with
  |cons q r=>exact .cons q (ih r)
theorem j9.Fi{K ρ H}{k:Key}{d:D}{v:V}(h:d8 K ρ H d v):∀{ds vs},j9 K ρ H ds vs->j9 K ρ H (ds.map λkv=>if kv.1=k then(kv.1,d) else kv) (vs.map λkv=>if kv.1=k then(kv.1,v) else kv)
 |_,_,.nil=>.nil
 |_,_,.cons (k:=k') q r=>by
  simp only[List.map_cons];by_cases e:k'=k
  ·rw[aJ e,aJ e];exact .cons h (j9.Fi h r)
  ·rw[aF e,aF e];exact .cons q (j9.Fi h r)
theorem j9.put{K ρ H}{k:Key}{d:D}{v:V}(h:d8 K ρ H d v){ds vs}(r:j9 K ρ H ds vs):j9 K ρ H (putD ds k d) (putK vs k v):=by
 unfold putD putK;rw[r.Iv k];split
 ·exact r.Fi h
 ·exact r.snoc h
noncomputable abbrev u9(K:PySem.W.Frag)(x:Str)(C:Addr):Prop:=PySem.W.nsIn K mainGlobals x=some (some (.ref C))
theorem j9.look{K ρ H}{ds:List (Str×D)}{vs:List (Str×V)}(f:Str)(h:j9 K ρ H ds vs):sx K ρ H (ds.lookup f) (vs.lookup f):=by
 induction h with
 |nil=>trivial
 |cons h r ih =>
  rename_i k d v ds vs;rw[cK,cK];cases f==k
  ·exact ih
  ·exact h
theorem j9.C2{K ρ H}{f:Str}{d:D}{v:V}(h:d8 K ρ H d v){ds:List (Str×D)}{vs:List (Str×V)}(r:j9 K ρ H ds vs):j9 K ρ H (m5 f d ds) (L2.C2 f v vs):=by
 induction r with
 |nil=>exact .cons h .nil
 |cons q r ih =>
  unfold m5 L2.C2;split
  ·exact .cons h r
  ·exact .cons q ih
theorem JT{f:Str}{d:D}{p:Str->Prop}(hf:p f):∀{ds:List (Str×D)},(∀x∈ds,p x.1)->∀x∈m5 f d ds,p x.1
 |[],_,x,hx=>by
  have:x=(f,d):=by simpa[m5] using hx
  rw[this];exact hf
 |(k,e)::r,h,x,hx=>by
  unfold m5 at hx;split at hx
  ·rcases aH.mp hx with z|z
   ·rw[z];exact h (k,e) (by simp)
   ·exact h x (by simp[z])
  ·rcases aH.mp hx with z|z
   ·rw[z];exact h (k,e) (by simp)
   ·exact JT hf (λy hy=>h y (by simp[hy])) x z
def OH(K:PySem.W.Frag)(ρ:List Addr)(H:Hp):O->HO->Prop
 |.lst l,.lst vs=>c8 K ρ H l vs
 |.dX kvs,.dK vs=>j9 K ρ H kvs vs
 |.set S n,.set S' n'=>S=S'/\n=n'
 |.ins c fs,.ins C _ vs=>u9 K c C/\kj K C/\j9 K ρ H fs vs/\∀x∈fs,E3 K C x.1
 |_,_=>False
theorem OH.ext{K ρ H bL H'}(e:Ext ρ H bL H'){o:O}{u:HO}(h:OH K ρ H o u):OH K bL H' o u:=by
 cases o<;>cases u<;>first|exact h.elim|exact c8.ext e h|exact j9.ext e h|exact⟨h.1,h.2.1,h.2.2.1.ext e,h.2.2.2⟩|exact h
theorem OH.uk{K ρ H}{xs:List V}(h:OH K ρ H o (.tup xs)):False:=by cases o<;>exact h
theorem OH.Yb{K ρ H}{ob:Obj}(h:OH K ρ H o (.jZ ob u)):False:=by cases o<;>exact h
def L6(K:PySem.W.Frag)(ρ:List Addr)(H:Hp)(o:O)(a:Addr):Prop:=match o with
 |.oS l=>∃vs,uc K H a vs/\c8 K ρ H l vs
 |o=>∃u,H a=some u/\OH K ρ H o u
theorem L6.of{K ρ H}(hu:H a=some u)(h:OH K ρ H o u):L6 K ρ H o a:=by
 cases o<;>first|exact⟨u,hu,h⟩|(cases u<;>exact h.elim)
theorem L6.inv{K ρ H}(m:o.mut=true)(h:L6 K ρ H o a):∃u,H a=some u/\OH K ρ H o u:=by
 cases o<;>first|exact h|cases m
theorem L6.lst{K ρ H}{l:List D}{a:Addr}(h:L6 K ρ H (.lst l) a):∃vs,H a=some (.lst vs)/\c8 K ρ H l vs:=by
 obtain⟨u,h1,h2⟩:=h;cases u<;>first|exact⟨_,h1,h2⟩|exact h2.elim
theorem L6.dX{K ρ H}{l:List (Key×D)}{a:Addr}(h:L6 K ρ H (.dX l) a):∃vs,H a=some (.dK vs)/\j9 K ρ H l vs:=by
 obtain⟨u,h1,h2⟩:=h;cases u<;>first|exact⟨_,h1,h2⟩|exact h2.elim
theorem L6.set{K ρ H}{S:Int->Bool}{n:Nat}{a:Addr}(h:L6 K ρ H (.set S n) a):H a=some (.set S n):=by
 obtain⟨u,h1,h2⟩:=h;cases u<;>first|(obtain⟨rfl,rfl⟩:=(show _/\_ from h2);exact h1)|exact h2.elim
theorem L6.ins{K ρ H}{c:Str}{fs:List (Str×D)}{a:Addr}(h:L6 K ρ H (.ins c fs) a):∃C dx vs,H a=some (.ins C dx vs)/\u9 K c C/\kj K C/\j9 K ρ H fs vs/\∀x∈fs,E3 K C x.1:=by
 obtain⟨u,h1,h2⟩:=h;cases u<;>first|exact⟨_,_,_,h1,h2⟩|exact h2.elim
structure Rl(K:PySem.W.Frag)(ρ:List Addr)(g:G)(H:Hp):Prop where
 len:ρ.length=g.length
 obj:∀(i:Nat) o a,g[i]?=some o->ρ[i]?=some a->L6 K ρ H o a
 nd:∀(i j:Nat) o o' a,g[i]?=some o->g[j]?=some o'->o.mut=true->o'.mut=true->ρ[i]?=some a->ρ[j]?=some a->i=j
section
variable{ρ:List Addr}
theorem Rl.lst(R:Rl K ρ g H){i:Nat}{l:List D}{a:Addr}(h:g[i]?=some (.lst l))(ha:ρ[i]?=some a):∃vs,H a=some (.lst vs)/\c8 K ρ H l vs:=(R.obj _ _ _ h ha).lst
theorem Rl.dX(R:Rl K ρ g H){i:Nat}{l:List (Key×D)}{a:Addr}(h:g[i]?=some (.dX l))(ha:ρ[i]?=some a):∃vs,H a=some (.dK vs)/\j9 K ρ H l vs:=(R.obj _ _ _ h ha).dX
theorem Rl.set(R:Rl K ρ g H){i:Nat}{S:Int->Bool}{n:Nat}{a:Addr}(h:g[i]?=some (.set S n))(ha:ρ[i]?=some a):H a=some (.set S n):=(R.obj _ _ _ h ha).set
theorem Rl.ins(R:Rl K ρ g H){i:Nat}{c:Str}{fs:List (Str×D)}{a:Addr}(h:g[i]?=some (.ins c fs))(ha:ρ[i]?=some a):∃C dx vs,H a=some (.ins C dx vs)/\u9 K c C/\kj K C/\j9 K ρ H fs vs/\∀x∈fs,E3 K C x.1:=(R.obj _ _ _ h ha).ins
theorem Rl.items(R:Rl K ρ g H)(h:d0 g i=some l)(ha:ρ[i]?=some a):∃vs,fM K H a vs/\c8 K ρ H l vs:=by
 cases e:g[i]? with
 |none=>rw[d0,e] at h;cases h
 |some o =>
  rw[d0,e] at h;have q:=R.obj _ _ _ e ha;cases o with
  |lst m=>cases h;obtain⟨vs,z,r⟩:=q.lst;exact⟨vs,fM.of z,r⟩
  |oS m=>cases h;obtain⟨vs,z,r⟩:=q;exact⟨vs,z.sq,r⟩
  |_=>cases h
theorem C7{o:HO}(hp:H p=none):Ext ρ H ρ (upd H p o):=⟨⟨[],by simp⟩,λa xs h=>by rw[f6 (m9 h hp)];exact h⟩
theorem uc.upd{p a:Addr}{o:HO}{vs:List V}(h:uc K H a vs)(hp:∀ob u,H p≠some (.jZ ob u)):uc K (upd H p o) a vs:=by
 rcases h with⟨ob,z⟩|z
 ·refine .inl ⟨ob,?_⟩;rw[f6 ?_]
  ·exact z
  ·intro e;subst e;exact hp _ _ z
 ·exact .inr z
theorem L6.upd{p a:Addr}{o:O}{u:HO}{bL:List Addr}(h:L6 K ρ H o a)(ft:o.mut=true->a≠p)(hp:∀ob u,H p≠some (.jZ ob u))(e:Ext ρ H bL (L2.upd H p u)):L6 K bL (L2.upd H p u) o a:=by
 cases hm:o.mut with
 |true =>
  obtain⟨u',h1,h2⟩:=h.inv hm;exact .of (by rw[f6 (ft hm)];exact h1) (h2.ext e)
 |false =>
  cases o<;>first|cases hm|skip
  obtain⟨vs,z,r⟩:=h;exact⟨vs,z.upd hp,r.ext e⟩
theorem Rl.grow{o:HO}(R:Rl K ρ g H)(hp:H p=none):Rl K ρ g (upd H p o):=by
 have e:Ext ρ H ρ (upd H p o):=C7 hp;refine⟨R.len,λi ob a h1 h2=>?_,R.nd⟩;have q:=R.obj _ _ _ h1 h2;refine q.upd (λhm=>?_) (λob u z=>by rw[hp] at z;cases z) e;obtain⟨u,h1,_⟩:=q.inv hm;exact m9 h1 hp
theorem Rl.C0(R:Rl K ρ g H)(p:Addr):(ρ++[p])[g.length]?=some p:=by rw[<- R.len];simp
theorem J9{o:HO}(hp:H p=none):Ext ρ H (ρ++[p]) (upd H p o):=⟨⟨[p],rfl⟩,(C7 (ρ:=ρ) hp).tup⟩
theorem Rl.new(R:Rl K ρ g H)(hp:H p=none)(r:OH K ρ H o u):Rl K (ρ++[p]) (g++[o]) (upd H p u):=by
 have e:Ext ρ H (ρ++[p]) (upd H p u):=J9 hp;have old:∀{i:Nat} {ob:O} {a:Addr},g[i]?=some ob->(ρ++[p])[i]?=some a->ρ[i]?=some a:=λ{i ob a} h1 h2=>by
  rw[aD (by rw[R.len];exact(aj.mp h1).1)] at h2;exact h2
 have split:∀{i:Nat} {ob:O},(g++[o])[i]?=some ob->g[i]?=some ob\/(i=g.length/\ob=o):=λ{i ob} h=>by
  rcases dn i g.length with q|q|q
  ·rw[aD q] at h;exact .inl h
  ·subst q;simp at h;exact .inr ⟨rfl,h.symm⟩
  ·rw[aM (by simp;omega)] at h;cases h
 refine⟨by simp[R.len],λi ob a h1 h2=>?_,λi j o1 o2 a h1 h2 m1 m2 h3 h4=>?_⟩
 ·rcases split h1 with q|⟨rfl,rfl⟩
  ·have z:=R.obj _ _ _ q (old q h2);refine z.upd (λhm=>?_) (λob u z=>by rw[hp] at z;cases z) e;obtain⟨u,h1,_⟩:=z.inv hm;exact m9 h1 hp
  ·rw[R.C0] at h2;cases h2;exact .of v7 (r.ext e)
 ·have nq:∀{i:Nat} {o:O} {a:Addr},g[i]?=some o->o.mut=true->ρ[i]?=some a->a≠p:=λ{i o a} h1 hm h2=>by
   obtain⟨u,z,_⟩:=(R.obj _ _ _ h1 h2).inv hm;exact m9 z hp
  rcases split h1 with q|⟨rfl,_⟩
  ·rcases split h2 with q'|⟨rfl,_⟩
   ·exact R.nd _ _ _ _ _ q q' m1 m2 (old q h3) (old q' h4)
   ·rw[R.C0] at h4;cases h4;exact absurd rfl (nq q m1 (old q h3))
  ·rcases split h2 with q'|⟨rfl,_⟩
   ·rw[R.C0] at h3;cases h3;exact absurd rfl (nq q' m2 (old q' h4))
   ·rfl
theorem Rl.alloc(R:Rl K ρ g H)(hp:H p=none)(r:c8 K ρ H l vs):Rl K (ρ++[p]) (g++[.lst l]) (upd H p (.lst vs)):=R.new hp r
theorem Rl.put{o':O}(R:Rl K ρ g H)(h:g[i]?=some o)(hm:o.mut=true)(ha:ρ[i]?=some a)(r:OH K ρ H o' u) :
  Rl K ρ (g.set i o') (upd H a u)/\Ext ρ H ρ (upd H a u):=by
 obtain⟨u0,z0,Gw⟩:=(R.obj _ _ _ h ha).inv hm;have e:Ext ρ H ρ (upd H a u):=⟨⟨[],by simp⟩,λb xs q=>by rw[f6];exact q;intro z;subst z;rw[z0] at q;cases q;exact Gw.uk⟩
 refine⟨⟨by simp[R.len],λj ob b h1 h2=>?_,λj k o1 o2 b h1 h2 m1 m2 h3 h4=>?_⟩,e⟩
 ·by_cases kP:i=j
  ·subst kP;rw[ha] at h2;cases h2;have hi:i<g.length:=(aj.mp h).1;rw[ba hi] at h1;cases h1;exact .of v7 (r.ext e)
  ·rw[az kP] at h1;refine(R.obj _ _ _ h1 h2).upd (λpR ez=>?_) (λob u z=>by rw[z0] at z;cases z;exact Gw.Yb) e;subst ez;exact kP (R.nd _ _ _ _ _ h h1 hm pR ha h2)
 ·have back:∀{j:Nat} {m:O},(g.set i o')[j]?=some m->m.mut=true->∃m',g[j]?=some m'/\m'.mut=true:=λ{j m} q pR=>by
   by_cases kP:i=j
   ·subst kP;exact⟨o,h,hm⟩
   ·rw[az kP] at q;exact⟨m,q,pR⟩
  obtain⟨_,q1,n1⟩:=back h1 m1;obtain⟨_,q2,n2⟩:=back h2 m2;exact R.nd _ _ _ _ _ q1 q2 n1 n2 h3 h4
theorem Rl.write{l':List D}(R:Rl K ρ g H)(h:g[i]?=some (.lst l))(ha:ρ[i]?=some a)(r:c8 K ρ H l' vs) :
  Rl K ρ (g.set i (.lst l')) (upd H a (.lst vs))/\Ext ρ H ρ (upd H a (.lst vs)):=R.put h rfl ha r
end
structure o8(K:PySem.W.Frag)(ρ:List Addr)(H:Hp)(Z:S)(bZ:St):Prop where
 len:Z.length=bZ.length
 val:∀(i:Nat) d,Z[i]?=some (some d)->∃v,bZ[i]?=some (some v)/\d8 K ρ H d v
section
variable{ρ bL:List Addr}{H':Hp}
theorem o8.ext{Z bZ}(e:Ext ρ H bL H')(r:o8 K ρ H Z bZ):o8 K bL H' Z bZ:=⟨r.len,λi d h=>let ⟨v,a,b⟩:=r.val i d h;⟨v,a,b.ext e⟩⟩
theorem o8.set{Z bZ d v}(r:o8 K ρ H Z bZ)(i:Nat)(h:d8 K ρ H d v):o8 K ρ H (Z.set i (some d)) (bZ.set i (some v)):=by
 refine⟨by simp[r.len],λj e q=>?_⟩;by_cases kP:i=j
 ·subst kP;have hi:i<Z.length:=by
   have:=(aj.mp q).1;simpa using this
  rw[ba hi] at q;cases q;exact⟨v,by rw[ba (by rw[<- r.len];exact hi)],h⟩
 ·rw[az kP] at q ⊢;exact r.val j e q
theorem o8.start{ds vs}{n:Nat}(r:c8 K ρ H ds vs):o8 K ρ H (ds.map some++List.replicate (n-ds.length) none) (vs.map some++List.replicate (n-vs.length) none):=by
 refine⟨by simp[r.length],λi d h=>?_⟩;by_cases hi:i<ds.length
 ·rw[aD (by simpa using hi),ak] at h;cases e:ds[i]? with
  |none=>rw[e] at h;cases h
  |some x =>
   rw[e] at h;cases h;obtain⟨v,h1,h2⟩:=r.get e;refine⟨v,?_,h2⟩;rw[aD (by rw[ae,<- r.length];exact hi),ak,h1]
   rfl
 ·rw[bI (by simpa using hi),dC] at h;split at h<;>cases h
theorem o8.d4{Z bZ}(r:o8 K ρ H Z bZ)(d4:List Nat)(n:Nat):o8 K ρ H (F6 Z d4 n) (E9 bZ d4 n):=by
 refine⟨by simp[F6,E9],λi d h=>?_⟩;unfold F6 at h;unfold E9;by_cases hi:i<d4.length
 ·rw[aD (by simpa using hi),ak,ai hi] at h;rw[aD (by simpa using hi),ak,ai hi];simp only[Option.map_some] at h ⊢;cases e:Z[d4[i]]? with
  |none=>rw[e] at h;cases h
  |some x =>
   rw[e] at h;have hx:x=some d:=aO h;subst hx;obtain⟨v,h1,h2⟩:=r.val _ _ e;exact⟨v,by rw[h1];rfl,h2⟩
 ·rw[bI (by simpa using hi),dC] at h;split at h<;>cases h
end
end M
namespace M
open PySem L2 PySem.Spec PyProof.Rows
variable{g:G}{l:List D}{vs:List V}{b:Bool}{d:D}{X:Cx}{ρ:List Addr}{H:Hp}{Z:L2.St}{s:Shared}{v x:V}
def LQ(K:PySem.W.Frag)(ρ:List Addr)(H:Hp)(Q:VK):KD:=λd g'=>∀bL H' v,Ext ρ H bL H'->Rl K bL g' H'->d8 K bL H' d v->Q v H'
theorem LQ.ext{K ρ H bV H1 Q d g}(e:Ext ρ H bV H1)(h:LQ K ρ H Q d g):LQ K bV H1 Q d g:=λbL H' v e' R r=>h bL H' v (e.trans e') R r
theorem LQ.now{K ρ H Q d g v}(h:LQ K ρ H Q d g)(R:Rl K ρ g H)(r:d8 K ρ H d v):Q v H:=h ρ H v (.refl _ _) R r
theorem LQ.new{K ρ H Q}{p:Addr}(h:LQ K ρ H Q (.ref g.length) (g++[.lst l]))(R:Rl K ρ g H)(hp:H p=none)(r:c8 K ρ H l vs):Q (.ref p) (upd H p (.lst vs)) :=
 h (ρ++[p]) _ _ (J9 hp) (R.alloc hp r) (.ref (R.C0 p))
theorem LQ.tup{K ρ H Q}{g:G}{l:List D}{vs:List V}{p:Addr}(h:LQ K ρ H Q (.tup l) g)(R:Rl K ρ g H)(hp:H p=none)(r:c8 K ρ H l vs):Q (.ref p) (upd H p (.tup vs)) :=
 h ρ _ _ (C7 hp) (R.grow hp) (.tup (.inl v7) (r.ext (C7 hp)))
def r2(K:PySem.W.Frag)(p:Pr):R2:=λx y H Q=>∃d e g ρ,Rl K ρ g H/\d8 K ρ H d x/\d8 K ρ H e y/\cE p [d,e] g (LQ K ρ H Q)
def r1(K:PySem.W.Frag)(p:Pr):V->Hp->VK->Prop:=λx H Q=>∃d g ρ,Rl K ρ g H/\d8 K ρ H d x/\cE p [d] g (LQ K ρ H Q)
def rN(K:PySem.W.Frag)(p:Pr):List V->Hp->VK->Prop:=λxs H Q=>∃ds g ρ,Rl K ρ g H/\c8 K ρ H ds xs/\cE p ds g (LQ K ρ H Q)
theorem u3{n:Nat}(h:n<=100000):n<=sizeLine:=aB h ∅
theorem Dt{n:Nat}(h:n<100000):n<sizeLine:=aA h ∅
theorem d8.k6{K ρ H i v}(h:d8 K ρ H (.int i) v):v=.int i:=by cases h;rfl
theorem d8.F9{K ρ H i v}(h:d8 K ρ H (.str i) v):v=.str i:=by cases h;rfl
theorem d8.O6{K ρ H i v}(h:d8 K ρ H (.bl i) v):v=.bl i:=by cases h;rfl
theorem d8.yQ{K ρ H v}(h:d8 K ρ H .bN v):v=.bN:=by cases h;rfl
theorem d8.YR{K ρ H n v}(h:d8 K ρ H (.ty n) v):v=.ty n:=by cases h;rfl
theorem d8.j7{K ρ H i v}(h:d8 K ρ H (.ref i) v):∃a,v=.ref a/\ρ[i]?=some a:=by cases h;exact⟨_,rfl,by assumption⟩
theorem d8.V0{K ρ H l v}(h:d8 K ρ H (.tup l) v):∃a vs,v=.ref a/\TupAt K H a vs/\c8 K ρ H l vs:=by cases h;exact⟨_,_,rfl,by assumption,by assumption⟩
theorem c8.one{K ρ H d vs}(h:c8 K ρ H [d] vs):∃v,vs=[v]/\d8 K ρ H d v:=by
 cases h with
 |cons r rr=>cases rr;exact⟨_,rfl,r⟩
theorem c8.two{K ρ H d e vs}(h:c8 K ρ H [d,e] vs):∃v w,vs=[v,w]/\d8 K ρ H d v/\d8 K ρ H e w:=by
 cases h with
 |cons r rr=>obtain⟨w,rfl,q⟩:=rr.one;exact⟨_,_,rfl,r,q⟩
theorem E7{a b c:D}(h:[a,b]=[c,d]):a=c/\b=d:=by cases h;exact⟨rfl,rfl⟩
section
theorem QN(op:Operator):gi X (binaryOp op) (r2 X.K (.bin op)):=by
 intro pins s Z H x y v u Q I rx ry h;obtain⟨d,e,g,ρ,R,rd,re,d',g',h,q⟩:=h;rcases h with⟨i,j,r,ex,ha,rfl,rfl⟩|⟨rfl,h⟩|⟨rfl,h⟩
 ·obtain⟨rfl,rfl⟩:=E7 ex;obtain rfl:=rd.k6;obtain rfl:=re.k6;have fin:=q.now R (.int r);cases op<;>first|exact(show False from ha).elim|skip
  ·cases ha;exact QL pins s Z H _ _ v u Q I rx ry ⟨i,j,rfl,rfl,fin⟩
  ·cases ha;exact QV pins s Z H _ _ v u Q I rx ry ⟨i,j,rfl,rfl,fin⟩
  ·obtain⟨hc,rfl⟩:=ha;exact QR pins s Z H _ _ v u Q I rx ry ⟨i,j,rfl,rfl,hc,fin⟩
  ·obtain⟨hc,rfl⟩:=ha;exact QQ pins s Z H _ _ v u Q I rx ry ⟨i,j,rfl,rfl,hc,fin⟩
  ·obtain⟨hc,rfl⟩:=ha;exact QS pins s Z H _ _ v u Q I rx ry ⟨i,j,rfl,rfl,hc,fin⟩
  ·obtain⟨hc,rfl⟩:=ha;exact QU pins s Z H _ _ v u Q I rx ry ⟨i,j,rfl,rfl,hc,fin⟩
  ·cases ha;exact Yg pins s Z H _ _ v u Q I rx ry ⟨i,j,rfl,rfl,fin⟩
  ·cases ha;exact QM pins s Z H _ _ v u Q I rx ry ⟨i,j,rfl,rfl,fin⟩
  ·obtain⟨hc,rfl⟩:=ha;exact Tp pins s Z H _ _ v u Q I rx ry ⟨i,j,rfl,rfl,hc,fin⟩
 ·rcases h with⟨a,b,l,m,ex,ha,hb,hz,rfl,rfl⟩|⟨x',y',ex,hz,rfl,rfl⟩
  ·obtain⟨rfl,rfl⟩:=E7 ex;obtain⟨a',rfl,ra⟩:=rd.j7;obtain⟨b',rfl,rb⟩:=re.j7;obtain⟨vs,z1,rs⟩:=R.lst ha ra;obtain⟨ws,z2,rt⟩:=R.lst hb rb;exact QO pins s Z H _ _ v u Q I rx ry ⟨_,_,vs,ws,rfl,rfl,z1,z2,by rw[<- rs.length,<- rt.length];exact u3 hz,λp hp=>q.new R hp (rs.append rt)⟩
  ·obtain⟨rfl,rfl⟩:=E7 ex;obtain rfl:=rd.F9;obtain rfl:=re.F9;exact aT3 pins s Z H _ _ v u Q I rx ry ⟨_,_,rfl,rfl,u3 hz,q.now R (.str _)⟩
 ·rcases h with⟨a,l,n,ex,ha,h1,h2,hz,rfl,rfl⟩
  obtain⟨rfl,rfl⟩:=E7 ex;obtain⟨a',rfl,ra⟩:=rd.j7;obtain rfl:=re.k6;obtain⟨vs,z1,rs⟩:=R.lst ha ra;exact QT pins s Z H _ _ v u Q I rx ry ⟨_,_,vs,rfl,rfl,z1,by omega,by omega,by rw[<- rs.length];exact u3 hz,λp hp=>q.new R hp (rs.rep _)⟩
theorem Yh(op:UnaryOp):zX X (unaryOp op) (r1 X.K (.un op)):=by
 intro pins s Z H x v Q I rx h;obtain⟨d,g,ρ,R,rd,d',g',⟨rfl,i,ex,rfl,rfl⟩,q⟩:=h;cases ex;obtain rfl:=rd.k6;exact Sw pins s Z H _ v Q I rx ⟨_,rfl,q.now R (.int _)⟩
section
variable{pins:List (Addr×Obj)}
theorem Kg(I:Inv X pins Z H s)(R:Rl X.K ρ g H)(n:Nat)(ih:∀{d:D} {v:V} {u:Value} {p:PyData},rd g n d=some p->d8 X.K ρ H d v->RelV v u->∃as,Reads s.heap u p as/\p.depth<=n):∀{vs:List V} {us:List Value} {ps:List PyData},l.mapM (rd g n)=some ps->c8 X.K ρ H l vs->Vals vs us->∃as,ReadsAll s.heap us ps as/\PyData.depthAll ps<=n:=by
 induction l with
 |nil =>
  intro vs us ps h rs rv;cases rs;cases rv;simp at h;subst h;exact⟨_,.nil,bU _⟩
 |cons d l il =>
  intro vs us ps h rs rv;cases rs with
  |cons iu rs =>
   cases rv with
   |cons ru rv =>
    rw[List.mapM_cons] at h;cases e:rd g n d with
    |none=>rw[e] at h;cases h
    |some p =>
     rw[e] at h;cases e2:l.mapM (rd g n) with
     |none=>rw[e2] at h;cases h
     |some qs =>
      rw[e2] at h;cases h;obtain⟨as,q1,d1⟩:=ih e iu ru;obtain⟨bs,q2,d2⟩:=il e2 rs rv;refine⟨_,.cons q1 q2,?_⟩;simp only[PyData.depthAll];omega
theorem V4(I:Inv X pins Z H s)(R:Rl X.K ρ g H)(n:Nat):∀{d:D} {v:V} {u:Value} {p:PyData},rd g n d=some p->d8 X.K ρ H d v->RelV v u->∃as,Reads s.heap u p as/\p.depth<=n:=by
 induction n with
 |zero =>
  intro d v u p h r ru;cases r with
  |bN=>simp only[rd] at h;cases h;cases ru;exact⟨_,.none,Nat.zero_le _⟩
  |bl b=>simp only[rd] at h;cases h;cases ru;exact⟨_,.bool b,Nat.zero_le _⟩
  |int i=>simp only[rd] at h;cases h;obtain⟨t,rfl⟩:=ru;exact⟨_,.int i t,Nat.zero_le _⟩
  |str x=>simp only[rd] at h;cases h;obtain⟨t,rfl⟩:=ru;exact⟨_,.str x t,Nat.zero_le _⟩
  |_=>simp only[rd] at h;cases h
 |succ n ih =>
  intro d v u p h r ru;cases r with
  |bN=>simp only[rd] at h;cases h;cases ru;exact⟨_,.none,Nat.zero_le _⟩
  |bl b=>simp only[rd] at h;cases h;cases ru;exact⟨_,.bool b,Nat.zero_le _⟩
  |int i=>simp only[rd] at h;cases h;obtain⟨t,rfl⟩:=ru;exact⟨_,.int i t,Nat.zero_le _⟩
  |str x=>simp only[rd] at h;cases h;obtain⟨t,rfl⟩:=ru;exact⟨_,.str x t,Nat.zero_le _⟩
  |ty x=>simp only[rd] at h;cases h
  |ref ha =>
   rename_i i a;simp only[rd] at h;cases e:d0 g i with
   |none=>rw[e] at h;cases h
   |some l =>
    rw[e] at h;dsimp only at h;cases e2:l.mapM (rd g n) with
    |none=>rw[e2] at h;cases h
    |some ps =>
     rw[e2] at h;cases h;cases ru;obtain⟨vs,hq,rs⟩:=R.items e ha;obtain⟨bf,rv,p,hz⟩:=I.list hq;obtain⟨as,q,hd⟩:=Kg I R n ih e2 rs rv;obtain⟨o,ho,hc,k,rg⟩:=p.isList;refine⟨_,.list ho hc rg (by simpa using q),?_⟩;simp only[PyData.depth];omega
  |tup ht rs =>
   rename_i l a vs;simp only[rd] at h;cases e2:l.mapM (rd g n) with
   |none=>rw[e2] at h;cases h
   |some ps =>
    rw[e2] at h;cases h;cases ru;obtain⟨bf,rv,pt,hz⟩:=I.tuple ht.sq;obtain⟨as,q,hd⟩:=Kg I R n ih e2 rs rv;obtain⟨o,ho,hc,k,rg⟩:=id pt;refine⟨_,.tuple ho hc rg (by simpa using q),?_⟩;simp only[PyData.depth];omega
end
end
theorem yZ{α:Type}[BEq α][LawfulBEq α][DecidableEq α](a b:α):decide (a=b)=(a==b):=by
 by_cases e:a=b
 ·subst e;simp
 ·rw[av e];exact(cT.mpr e).symm
theorem xy{K ρ H}{c:Key}(h:W3 d=some c)(r:d8 K ρ H d v):v=kV c:=by
 cases r<;>first|(cases h;rfl)|cases h
theorem sx.some{K ρ H}{o:Option V}{d:D}(h:sx K ρ H (some d) o):∃v,o=some v/\d8 K ρ H d v:=by
 cases o with
 |none=>exact h.elim
 |some v=>exact⟨v,rfl,h⟩
theorem sx.isSome{K ρ H}{o:Option V}{d:Option D}(h:sx K ρ H d o):d.isSome=o.isSome:=by
 cases o<;>cases d<;>first|rfl|exact h.elim
theorem IE{pins:List (Addr×Obj)}{e:D}{y:V}{v u:Value}{Q:VK}(hu:X.A.units+100<cLine)(I:Inv X pins Z H s)(rx:RelV x v)(ry:RelV y u)(R:Rl X.K ρ g H)(iu:d8 X.K ρ H d x)(re:d8 X.K ρ H e y)(h:wG g d e b)(neg:Bool)(q:Q (.bl (xor neg b)) H):wpAny (model X.prog X.w) X.A (compareOp (if neg then .NotEq else .Eq) v u) (EP X pins Z Q) X.xe s:=by
 rcases h with⟨i,j,rfl,rfl,rfl⟩|⟨i,j,rfl,rfl,rfl⟩|⟨i,j,rfl,rfl,rfl⟩|⟨p,p',h1,h2,c1,c2,rfl⟩
 ·obtain rfl:=iu.k6;obtain rfl:=re.k6;cases neg
  ·exact EF pins s Z H _ _ v u Q I rx ry ⟨rfl,by rw[za];simpa[yZ] using q⟩
  ·exact EG pins s Z H _ _ v u Q I rx ry ⟨rfl,by rw[za];simpa[yZ] using q⟩
 ·obtain rfl:=iu.O6;obtain rfl:=re.O6;cases neg
  ·exact EF pins s Z H _ _ v u Q I rx ry ⟨rfl,by rw[yO];simpa using q⟩
  ·exact EG pins s Z H _ _ v u Q I rx ry ⟨rfl,by rw[yO];simpa using q⟩
 ·obtain rfl:=iu.F9;obtain rfl:=re.F9;cases neg
  ·exact EF pins s Z H _ _ v u Q I rx ry ⟨rfl,by rw[zb];simpa[yZ] using q⟩
  ·exact EG pins s Z H _ _ v u Q I rx ry ⟨rfl,by rw[zb];simpa[yZ] using q⟩
 ·obtain⟨as,q1,d1⟩:=V4 I R 6 h1 iu rx;obtain⟨bs,q2,d2⟩:=V4 I R 6 h2 re ry;have hr:X.A.units+min p.depth p'.depth<cLine:=by omega
  cases neg
  ·exact SeqAt.compareEq_reads q1 q2 c1 c2 hr ⟨.bl _,H,I,rfl,by simpa using q⟩
  ·exact SeqAt.compareNe_reads q1 q2 c1 c2 hr ⟨.bl _,H,I,rfl,by simpa using q⟩
theorem in_of{pins:List (Addr×Obj)}{e:D}{y:V}{v u:Value}{Q:VK}(hu:X.A.units+100<cLine)(I:Inv X pins Z H s)(rx:RelV x v)(ry:RelV y u)(R:Rl X.K ρ g H)(iu:d8 X.K ρ H d x)(re:d8 X.K ρ H e y)(h:inR g d e b)(neg:Bool)(q:Q (.bl (xor neg b)) H):wpAny (model X.prog X.w) X.A (compareOp (if neg then .NotIn else .In) v u) (EP X pins Z Q) X.xe s:=by
 rcases h with⟨a,kvs,c,rfl,ha,hc,rfl⟩|⟨l,ps,p,h0,h1,h2,c1,c2,rfl⟩
 ·obtain⟨a',rfl,ra⟩:=re.j7;obtain⟨vs,z,rs⟩:=R.dX ha ra;have:=xy hc iu;subst this;cases ry;rw[(rs.val c).isSome] at q;cases neg
  ·exact VO () I (T1.k z) rx λs' I'=>⟨.bl _,H,I',rfl,by simpa using q⟩
  ·exact SM () I (T1.k z) rx λs' I'=>⟨.bl _,H,I',rfl,by simpa using q⟩
 ·obtain⟨as,q1,d1⟩:=V4 I R 6 h2 iu rx;cases e with
  |tup m =>
   cases h0;have h3:rd g 7 (.tup l)=some (.tuple ps):=by simp only[rd];rw[show l.mapM (rd g 6)=some ps from h1];rfl
   obtain⟨bs,q2,d2⟩:=V4 I R 7 h3 re ry;have hr:X.A.units+1+min (PyData.depthAll ps) p.depth<cLine:=by omega
   cases neg
   ·exact SeqAt.in_tuple_reads q2 q1 c1 c2 hr ⟨.bl _,H,I,rfl,by simpa using q⟩
   ·exact SeqAt.notIn_tuple_reads q2 q1 c1 c2 hr ⟨.bl _,H,I,rfl,by simpa using q⟩
  |ref a =>
   have h3:rd g 7 (.ref a)=some (.list ps):=by
    simp only[rd];rw[show d0 g a=some l from h0];dsimp only;rw[show l.mapM (rd g 6)=some ps from h1]
    rfl
   obtain⟨bs,q2,d2⟩:=V4 I R 7 h3 re ry;have hr:X.A.units+1+min (PyData.depthAll ps) p.depth<cLine:=by omega
   cases neg
   ·exact SeqAt.in_list_reads q2 q1 c1 c2 hr ⟨.bl _,H,I,rfl,by simpa using q⟩
   ·exact SeqAt.notIn_list_reads q2 q1 c1 c2 hr ⟨.bl _,H,I,rfl,by simpa using q⟩
  |_=>cases h0
theorem uA(hu:X.A.units+100<cLine)(op:CmpOp):gi X (compareOp op) (r2 X.K (.cmp op)):=by
 intro pins s Z H x y v u Q I rx ry h;obtain⟨d,e,g,ρ,R,iu,re,d',g',⟨x',y',b,ex,h,rfl,rfl⟩,q⟩:=h;obtain⟨rfl,rfl⟩:=E7 ex;have fin:=q.now R (.bl b);have oG:∀{P:Int->Int->Bool},(∃i j,d=.int i/\e=.int j/\b=P i j)->∃i j,x=.int i/\y=.int j/\b=P i j:=λhh=>by
  obtain⟨i,j,z1,z2,z3⟩:=hh;exact⟨i,j,(z1▸iu).k6,(z2▸re).k6,z3⟩
 cases op
 ·exact IE hu I rx ry R iu re h false (by simpa using fin)
 ·exact IE hu I rx ry R iu re h true (by simpa using fin)
 ·rcases h with h|⟨a,c,ns,ms,rfl,rfl,h1,h2,hl,rfl⟩
  ·obtain⟨i,j,e1,e2,e3⟩:=oG (P:=λi j=>decide (i<j)) h;exact Yf pins s Z H _ _ v u Q I rx ry ⟨i,j,e1,e2,by subst e3;exact fin⟩
  ·obtain⟨a',rfl,ra⟩:=iu.j7;obtain⟨c',rfl,rc⟩:=re.j7;obtain⟨vs,hq,r1⟩:=R.lst h1 ra;obtain⟨ws,Bf,r2⟩:=R.lst h2 rc;have:=r1.ints;subst this;have:=r2.ints;subst this;cases rx;cases ry;obtain⟨_,bf,n,rv,_,e1⟩:=I.ph hq;obtain⟨_,mj,n2,AE,_,e2⟩:=I.ph Bf;exact Vd (w9 rv) (w9 AE) hl e1 e2 () (l6 I fin rfl)
 ·obtain⟨i,j,e1,e2,e3⟩:=oG (P:=λi j=>decide (i<=j)) h;exact Ye pins s Z H _ _ v u Q I rx ry ⟨i,j,e1,e2,by subst e3;exact fin⟩
 ·obtain⟨i,j,e1,e2,e3⟩:=oG (P:=λi j=>decide (j<i)) h;exact Yd pins s Z H _ _ v u Q I rx ry ⟨i,j,e1,e2,by subst e3;exact fin⟩
 ·obtain⟨i,j,e1,e2,e3⟩:=oG (P:=λi j=>decide (j<=i)) h;exact Yc pins s Z H _ _ v u Q I rx ry ⟨i,j,e1,e2,by subst e3;exact fin⟩
 ·obtain⟨rfl,rfl⟩:=(show _/\_ from h)
  obtain rfl:=re.yQ;refine QP pins s Z H _ _ v u Q I rx ry ⟨rfl,?_⟩;have e:O4 d=decide (x=V.bN):=by cases iu<;>simp[O4]
  rw[<- e];exact fin
 ·obtain⟨rfl,rfl⟩:=(show _/\_ from h)
  obtain rfl:=re.yQ;refine Tq pins s Z H _ _ v u Q I rx ry ⟨rfl,?_⟩;have e:O4 d=decide (x=V.bN):=by cases iu<;>simp[O4]
  rw[<- e];exact fin
 ·rcases h with h|⟨a,S,n,i,rfl,ha,rfl,rfl⟩
  ·exact in_of hu I rx ry R iu re h false (by simpa using fin)
  ·obtain⟨a',rfl,ra⟩:=re.j7;obtain rfl:=iu.k6;exact a17 pins s Z H _ _ v u Q I rx ry ⟨i,a',S,n,rfl,rfl,R.set ha ra,fin⟩
 ·rcases h with h|⟨a,S,n,i,rfl,ha,rfl,hb⟩
  ·exact in_of hu I rx ry R iu re h true (by simpa using fin)
  ·obtain⟨a',rfl,ra⟩:=re.j7;obtain rfl:=iu.k6;exact aF7 pins s Z H _ _ v u Q I rx ry ⟨i,a',S,n,rfl,rfl,R.set ha ra,by rw[<- hb,uG];exact fin⟩
theorem empty_eq{K ρ H}(r:c8 K ρ H l vs):l.isEmpty=vs.isEmpty:=by cases r<;>rfl
theorem Ss{K:PySem.W.Frag}(R:Rl K ρ g H)(r:d8 K ρ H d x)(h:Ip g d b):CT K x H b:=by
 rcases h with⟨rfl,rfl⟩|rfl|⟨i,rfl,rfl⟩|⟨l,rfl,rfl⟩|⟨a,l,rfl,hl,rfl⟩
 ·obtain rfl:=r.yQ;rfl
 ·obtain rfl:=r.O6;rfl
 ·obtain rfl:=r.k6;rfl
 ·obtain⟨a,vs,rfl,ht,rs⟩:=r.V0;exact .inr (.inl ⟨_,ht.sq,by rw[empty_eq rs]⟩)
 ·obtain⟨a',rfl,ha⟩:=r.j7;obtain⟨vs,hq,rs⟩:=R.items hl ha;exact .inl ⟨_,hq,by rw[empty_eq rs]⟩
theorem SH{K ρ H}{i:Int}(r:c8 K ρ H l vs)(h:fL l i=some d):∃v,fL vs i=some v/\d8 K ρ H d v:=by
 unfold fL at h ⊢;rw[<- r.length];cases e:kM l.length i with
 |none=>rw[e] at h;cases h
 |some j =>
  rw[e] at h;exact r.get h
theorem xt{K ρ H}{x:D}(R:Rl K ρ g H)(r:d8 K ρ H x v)(h:J7 g x=some l):∃a vs,v=.ref a/\c8 K ρ H l vs/\((∃i,x=.ref i/\ρ[i]?=some a)/\fM K H a vs\/x=.tup l/\TupAt K H a vs):=by
 cases r with
 |tup ht rs=>cases h;exact⟨_,_,rfl,rs,.inr ⟨rfl,ht⟩⟩
 |ref ha=>obtain⟨vs,hq,rs⟩:=R.items h ha;exact⟨_,_,rfl,rs,.inl ⟨⟨_,rfl,ha⟩,hq⟩⟩
 |_=>cases h
theorem XI(hu:X.A.units+100<cLine):sN X (r2 X.K .ix):=by
 intro value slice pins s Z H x y v u Q I rx ry h hs;obtain⟨d,e,g,ρ,R,iu,re,d',g',⟨rfl,h⟩,q⟩:=h;rcases h with⟨x',l,i,ex,hl,ha⟩|⟨a,kvs,y',c,ex,ha,hc,hv⟩|⟨x',i,c,ex,h0,h1,rfl⟩
 ·obtain⟨rfl,rfl⟩:=E7 ex;obtain rfl:=re.k6;obtain⟨a,vs,rfl,rs,h⟩:=xt R iu hl;obtain⟨w,hw,gw⟩:=SH rs ha;rcases h with⟨_,hq⟩|⟨_,ht⟩
  ·exact Tb value slice pins s Z H _ _ v u Q I rx ry ⟨_,_,i,w,rfl,rfl,hq,hw,q.now R gw⟩ hs
  ·exact Zq value slice pins s Z H _ _ v u Q I rx ry ⟨_,_,i,w,rfl,rfl,ht.sq,hw,q.now R gw⟩ hs
 ·obtain⟨rfl,rfl⟩:=E7 ex;obtain⟨a',rfl,ra⟩:=iu.j7;obtain⟨vs,z,rs⟩:=R.dX ha ra;have:=xy hc re;subst this;have q2:=rs.val c;rw[hv] at q2;obtain⟨w,hw,gw⟩:=q2.some;exact Ta () value slice pins s Z H _ _ v u Q I rx ry ⟨_,w,rfl,by have:=T1.k (k:=c) z;rw[hw] at this;exact this,q.now R gw⟩ hs
 ·obtain⟨rfl,rfl⟩:=E7 ex;obtain rfl:=iu.F9;obtain rfl:=re.k6;exact Zp value slice pins s Z H _ _ v u Q I rx ry ⟨x',i,c,rfl,rfl,u3 h0,h1,q.now R (.str _)⟩ hs
def NH(K:PySem.W.Frag):V->Option Int->Option Int->Hp->VK->Prop:=λx lo hi H Q=>∃d g ρ d' g',Rl K ρ g H/\d8 K ρ H d x/\uS d lo hi g d' g'/\LQ K ρ H Q d' g'
theorem EJ:xK X (NH X.K):=by
 intro pins s Z H x v vl vu lo hi sl Q I rx hs pl pu h;obtain⟨d,g,ρ,d',g',R,iu,h,q⟩:=h;rcases h with⟨l,rfl,rfl,rfl⟩|⟨a,l,rfl,hl,rfl,rfl⟩
 ·obtain⟨a,vs,rfl,ht,rs⟩:=iu.V0;refine Ux pins s Z H _ v vl vu lo hi sl Q I rx hs pl pu ⟨_,_,rfl,ht.sq,λz=>?_,λp hp=>q.tup R hp (rs.cut lo hi)⟩;refine q.now R (.tup ht ?_);have:=rs.cut lo hi;rw[z] at this;exact this
 ·obtain⟨a',rfl,ha⟩:=iu.j7;obtain⟨vs,hq,rs⟩:=R.items hl ha;exact Uw pins s Z H _ v vl vu lo hi sl Q I rx hs pl pu ⟨_,_,rfl,hq,λp hp=>q.new R hp (rs.cut lo hi)⟩
def Ws(K:PySem.W.Frag):V->V->V->Hp->(Hp->Prop)->Prop:=λo i v H Q=>∃CD di dv g ρ,Rl K ρ g H/\d8 K ρ H CD o/\d8 K ρ H di i/\d8 K ρ H dv v/\S1 CD di dv g (λg'=>∀bL H',Ext ρ H bL H'->Rl K bL g' H'->Q H')
theorem Fo(hu:X.A.units+100<cLine):CQ X (Ws X.K):=by
 intro pins s Z H o i v ov iv u Q I ro ri rv h;obtain⟨CD,di,dv,g,ρ,R,r1,r2,r3,g',h,q⟩:=h;rcases h with⟨a,i',l,j,rfl,rfl,hl,hj,rfl⟩|⟨a,kvs,c,rfl,ha,hc,hz,rfl⟩
 ·obtain⟨a',rfl,ha⟩:=r1.j7;obtain rfl:=r2.k6;obtain⟨vs,z,rs⟩:=R.lst hl ha;obtain⟨R',e'⟩:=R.write hl ha (rs.set r3 j);exact set_list pins s Z H _ _ _ ov iv u Q I ro ri rv ⟨_,vs,_,j,rfl,rfl,z,by rw[<- rs.length];exact hj,q ρ _ e' R'⟩
 ·obtain⟨a',rfl,ra⟩:=r1.j7;obtain⟨vs,z,rs⟩:=R.dX ha ra;have:=xy hc r2;subst this;obtain⟨R',e'⟩:=R.put (o':=.dX (putD kvs c dv)) (u:=.dK (putK vs c v)) ha rfl ra (rs.put r3);cases ro;exact a46 () I (zF.k z (by rw[<- rs.length];exact Dt hz)) ri rv λs' I'=>⟨_,I',q ρ _ e' R'⟩
theorem Zx:m8 X (.builtin "len") (rN X.K .len):=by
 intro pins s Z H xs us Q I r h;obtain⟨ds,g,ρ,R,rs,d',g',⟨rfl,h⟩,q⟩:=h;rcases h with⟨x,l,rfl,hl,rfl⟩|⟨a,kvs,rfl,ha,rfl⟩|⟨x,rfl,hz,rfl⟩
 ·obtain⟨v,rfl,rv⟩:=rs.one;obtain⟨a,vs,rfl,rl,h⟩:=xt R rv hl;refine aJ4 pins s Z H _ us Q I r ⟨_,_,rfl,?_,by rw[<- rl.length];exact q.now R (.int _)⟩;exact h.imp (λz=>z.2) (λz=>z.2.sq)
 ·obtain⟨v,rfl,rv⟩:=rs.one;obtain⟨a',rfl,ra⟩:=rv.j7;obtain⟨vs,z,rk⟩:=R.dX ha ra;exact a56 pins s Z H _ us Q I r ⟨_,_,rfl,z,by rw[<- rk.length];exact q.now R (.int _)⟩
 ·obtain⟨v,rfl,rv⟩:=rs.one;obtain rfl:=rv.F9;exact aJ3 pins s Z H _ us Q I r ⟨_,rfl,u3 hz,q.now R (.int _)⟩
theorem j9.keys{α:Type}{K ρ H}{ds:List (α×D)}{vs:List (α×V)}(h:j9 K ρ H ds vs):ds.map (·.1)=vs.map (·.1):=by
 induction h with
 |nil=>rfl
 |cons _ _ ih=>rw[bh,bh,ih]
theorem Te(hc:X.calm=true):m8 X (.type "list") (rN X.K .list):=by
 intro pins s Z H xs us Q I r h;obtain⟨ds,g,ρ,R,rs,d',g',⟨x,l,rfl,hl,rfl,rfl⟩|⟨⟨⟩⟩,q⟩:=h;obtain⟨v,rfl,rv⟩:=rs.one;obtain⟨a,vs,rfl,rl,h⟩:=xt R rv hl;exact aJ2 pins s Z H _ us Q I r ⟨_,_,rfl,h.imp (λz=>z.2) (λz=>z.2.sq),λp hp=>q.new R hp rl⟩
theorem a73:m8 X (.type "tuple") (rN X.K .tuple):=by
 intro pins s Z H xs us Q I r h;obtain⟨ds,g,ρ,R,rs,d',g',⟨x,l,rfl,hl,rfl,rfl⟩,q⟩:=h;obtain⟨v,rfl,rv⟩:=rs.one;obtain⟨a,vs,rfl,rl,h⟩:=xt R rv hl;refine aB2 pins s Z H _ us Q I r ⟨a,vs,rfl,?_⟩;exact h.imp (λz=>⟨z.2,λp hp=>q.tup R hp rl⟩) (λz=>⟨z.2.sq,q.now R (.tup z.2 rl)⟩)
theorem SY:m8 X (.builtin "isinstance") (rN X.K .isin):=by
 intro pins s Z H xs us Q I r h;obtain⟨ds,g,ρ,R,rs,d',g',⟨x,c,b,rfl,hc,hb,rfl,rfl⟩,q⟩:=h;obtain⟨v,w,rfl,r1,r2⟩:=rs.two;obtain rfl:=r2.YR;have fin:=q.now R (.bl b);have go:∀(t:Value) (v:V),ic X.K H v t->PySem.W.kitOne X.K t (.type c)=some b->Vals [v,V.ty c] us->wpAny (model X.prog X.w) X.A (call (.builtin "isinstance") us) (EP X pins Z Q) X.xe s :=
  λt v ht hk r=>aL9 pins s Z H _ us Q I r ⟨v,t,c,b,rfl,ht,hk,fin⟩
 simp only[List.mem_cons,List.mem_nil_iff,or_false] at hc;cases r1 with
 |bN=>refine go _ _ .bN ?_ r;cases hb;rcases hc with rfl|rfl|rfl|rfl|rfl<;>rfl
 |bl y=>refine go _ _ (.bl y) ?_ r;cases hb;rcases hc with rfl|rfl|rfl|rfl|rfl<;>rfl
 |int y=>refine go _ _ (.int y) ?_ r;cases hb;rcases hc with rfl|rfl|rfl|rfl|rfl<;>rfl
 |str y=>refine go _ _ (.str y) ?_ r;cases hb;rcases hc with rfl|rfl|rfl|rfl|rfl<;>rfl
 |ty _=>cases hb
 |tup ht rs =>
  cases hb;rcases ht with ht|ht
  ·refine go _ _ (.tup ht) ?_ r;rcases hc with rfl|rfl|rfl|rfl|rfl<;>rfl
  ·obtain⟨o,bf,n,lk,jX,_⟩:=ht;obtain⟨u,w',rfl,ru,gw⟩:=vals2 r;cases (show w'=Value.type c from gw);cases ru;have hk:PySem.W.kitOne X.K (.type "tuple") (.type c)=some (c=="tuple"):=by rcases hc with rfl|rfl|rfl|rfl|rfl<;>rfl
   exact bX MX I.hU ⟨o,I.hU _ _ lk,jX⟩ hk (λz=>nomatch z) λtk=>⟨.bl _,H,I.tok tk,rfl,fin⟩
 |@ref i a ha =>
  have wb:∃m,g'[i]?=some (.lst m)/\b=(c=="list"):=by
   simp only[sk] at hb;split at hb
   ·exact⟨_,by assumption,(aO hb).symm⟩
   ·cases hb
  obtain⟨m,e,rfl⟩:=wb;obtain⟨vs,z,_⟩:=R.lst e ha;refine go _ _ (.lst z) ?_ r;rcases hc with rfl|rfl|rfl|rfl|rfl<;>rfl
theorem aW5:∀{l:List D} {b:Bool},Y1 l=some b->∃bs:List Bool,l=bs.map D.bl/\b=bs.all id:=by
 intro l
 induction l with
 |nil=>intro b h;cases h;exact⟨[],rfl,rfl⟩
 |cons d r ih =>
  intro b h;cases d<;>first|(cases h;done)|skip
  rename_i c;simp only[Y1] at h;cases e:Y1 r with
  |none=>rw[e] at h;cases h
  |some b' =>
   rw[e] at h;cases h;obtain⟨bs,rfl,rfl⟩:=ih e;exact⟨c::bs,rfl,by simp⟩
theorem c8.TV{K ρ H}:∀{bs:List Bool} {vs:List V},c8 K ρ H (bs.map D.bl) vs->vs=bs.map V.bl:=by
 intro bs
 induction bs with
 |nil=>intro vs h;cases h;rfl
 |cons b r ih =>
  intro vs h;cases h with
  |cons h rr=>rw[ih rr,h.O6];rfl
theorem Za(hc:X.calm=true):m8 X (.builtin "all") (rN X.K .all):=by
 intro pins s Z H xs us Q I r h;obtain⟨ds,g,ρ,R,rs,d',g',⟨a,l,b,rfl,hl,hb,rfl,rfl⟩,q⟩:=h;obtain⟨v,rfl,rv⟩:=rs.one;obtain⟨a',rfl,ra⟩:=rv.j7;obtain⟨vs,hq,rs⟩:=R.items hl ra;rcases hb with hb|⟨ns,rfl,rfl⟩
 rotate_left
 ·have:=rs.ints;subst this;exact a57 hc pins s Z H _ us Q I r ⟨_,ns,rfl,hq,q.now R (.bl _)⟩
 obtain⟨bs,rfl,rfl⟩:=aW5 hb;have:=rs.TV;subst this;exact a58 hc pins s Z H _ us Q I r ⟨_,bs,rfl,hq,q.now R (.bl _)⟩
theorem LP{K ρ H}:∀(ns:List Int),c8 K ρ H (ns.map D.int) (ns.map V.int)
 |[]=>.nil
 |_::r=>.cons (.int _) (LP r)
theorem a79(hc:X.calm=true):m8 X (.builtin "sorted") (rN X.K .ku):=by
 intro pins s Z H xs us Q I r h;obtain⟨ds,g,ρ,R,rs,d',g',z|⟨x,ns,rfl,hx,hn,rfl,rfl⟩,q⟩:=h
 rotate_left
 ·obtain⟨v,rfl,rv⟩:=rs.one;obtain⟨a,vs,rfl,rl,h⟩:=xt R rv hx;have:=rl.ints;subst this;exact ZL pins s Z H _ us Q I r ⟨_,ns,rfl,h.imp (λz=>z.2) (λz=>z.2.sq),hn,λp hp=>q (ρ++[p]) _ _ (J9 hp) (R.new hp (o:=.lst ((K2 ns).map .int)) (u:=.lst ((K2 ns).map V.int)) (LP _)) (.ref (R.C0 p))⟩
 exact z.elim
theorem ZF(hc:X.calm=true):m8 X (.builtin "max") (rN X.K .max):=by
 intro pins s Z H xs us Q I r h;obtain⟨ds,g,ρ,R,rs,d',g',⟨rfl,⟨i,j,rfl,rfl⟩|⟨a,ns,M,rfl,hl,h1,h2,rfl⟩⟩,q⟩:=h
 rotate_left
 ·obtain⟨v,rfl,rv⟩:=rs.one;obtain⟨a',rfl,ra⟩:=rv.j7;obtain⟨vs,hq,rs⟩:=R.items hl ra;have:=rs.ints;subst this;exact a54 hc pins s Z H _ us Q I r ⟨_,ns,M,rfl,hq,h1,h2,q.now R (.int _)⟩
 obtain⟨v,w,rfl,r1,r2⟩:=rs.two;obtain rfl:=r1.k6;obtain rfl:=r2.k6;exact a55 hc pins s Z H _ us Q I r ⟨i,j,rfl,q.now R (.int _)⟩
theorem ZG(hc:X.calm=true)(hu:X.A.units+100<cLine):m8 X (.builtin "min") (rN X.K .min):=by
 intro pins s Z H xs us Q I r h;obtain⟨ds,g,ρ,R,rs,d',g',⟨rfl,⟨i,j,rfl,rfl⟩|⟨a,ns,M,rfl,hl,h1,h2,rfl⟩⟩,q⟩:=h
 rotate_left
 ·obtain⟨v,rfl,rv⟩:=rs.one;obtain⟨a',rfl,ra⟩:=rv.j7;obtain⟨vs,hq,rs⟩:=R.items hl ra;have:=rs.ints;subst this;exact a52 hc pins s Z H _ us Q I r ⟨_,ns,M,rfl,hq,h1,h2,q.now R (.int _)⟩
 obtain⟨v,w,rfl,r1,r2⟩:=rs.two;obtain rfl:=r1.k6;obtain rfl:=r2.k6;exact a53 hc pins s Z H _ us Q I r ⟨i,j,rfl,q.now R (.int _)⟩
theorem Sb(hc:X.calm=true):m8 X (.builtin "sum") (rN X.K .sum):=by
 intro pins s Z H xs us Q I r h;obtain⟨ds,g,ρ,R,rs,d',g',h,q⟩:=h;obtain⟨a,ns,rfl,hl,rfl,rfl⟩:=h;obtain⟨v,rfl,rv⟩:=rs.one;obtain⟨a',rfl,ra⟩:=rv.j7;obtain⟨vs,hq,rs⟩:=R.items hl ra;have:=rs.ints;subst this;exact a51 hc pins s Z H _ us Q I r ⟨_,ns,rfl,hq,q.now R (.int _)⟩
theorem Zm:m8 X (.type "int") (rN X.K .int):=by
 intro pins s Z H xs us Q I r h;obtain⟨ds,g,ρ,R,rs,d',g',⟨rfl,h⟩,q⟩:=h;rcases h with⟨i,rfl,rfl⟩|⟨b,rfl,rfl⟩
 ·obtain⟨v,rfl,rv⟩:=rs.one;obtain rfl:=rv.k6;exact Mq pins s Z H _ us Q I r (.inl ⟨i,rfl,q.now R (.int _)⟩)
 ·obtain⟨v,rfl,rv⟩:=rs.one;obtain rfl:=rv.O6;exact Mq pins s Z H _ us Q I r (.inr ⟨b,rfl,q.now R (.int _)⟩)
def rM(K:PySem.W.Frag)(p:Pr):V->List V->Hp->VK->Prop:=λx xs H Q=>∃d ds g ρ,Rl K ρ g H/\d8 K ρ H d x/\c8 K ρ H ds xs/\cE p (d::ds) g (LQ K ρ H Q)
theorem zo{a b:D}{m:List D}(h:a::l=b::m):a=b/\l=m:=by cases h;exact⟨rfl,rfl⟩
theorem a63:mR X "list.append" (rM X.K .append):=by
 intro pins s Z H x xs v us Q I rx r h;obtain⟨d,ds,g,ρ,R,rd,rs,d',g',⟨a,y,l,ex,ha,hz,rfl,rfl⟩,q⟩:=h;obtain⟨rfl,rfl⟩:=zo ex;obtain⟨a',rfl,ra⟩:=rd.j7;obtain⟨w,rfl,gw⟩:=rs.one;obtain⟨vs,z1,rv⟩:=R.lst ha ra;obtain⟨R2,e2⟩:=R.write ha ra (rv.append (.cons gw .nil));exact a24 pins s Z H _ _ v us Q I rx r ⟨_,vs,_,rfl,rfl,z1,by rw[<- rv.length];exact Dt hz,q ρ _ _ e2 R2 .bN⟩
theorem Td(hc:X.calm=true):m8 X (.type "set") (rN X.K .qO):=by
 intro pins s Z H xs us Q I r h;obtain⟨ds,g,ρ,R,rs,d',g',⟨a,ns,rfl,ha,hz,rfl,rfl⟩,q⟩:=h;obtain⟨v,rfl,rv⟩:=rs.one;obtain⟨a',rfl,ra⟩:=rv.j7;obtain⟨vs,z1,rk⟩:=R.items ha ra;obtain rfl:=rk.ints;refine aB3 hc pins s Z H _ us Q I r ⟨a',ns,rfl,z1,hz,λp hp=>?_⟩;exact q (ρ++[p]) _ _ (J9 hp) (R.new hp (o:=.set (λk=>decide (k∈ns)) (ST.i9 [] ns).length) (u:=.set (λk=>decide (k∈ns)) (ST.i9 [] ns).length) ⟨rfl,rfl⟩) (.ref (R.C0 p))
theorem Zi(hu:X.A.units+100<cLine):mR X "dict.get" (rM X.K .get):=by
 intro pins s Z H x xs v us Q I rx r h;obtain⟨d,ds,g,ρ,R,rd,rs,d',g',⟨a,y,z,kvs,c,ex,ha,hc,rfl,rfl⟩,q⟩:=h;obtain⟨rfl,rfl⟩:=zo ex;obtain⟨a',rfl,ra⟩:=rd.j7;obtain⟨w1,w2,rfl,r1,r2⟩:=rs.two;obtain⟨vs,z1,rv⟩:=R.dX ha ra;have:=xy hc r1;subst this;obtain⟨u1,u2,rfl,p1,p2⟩:=vals2 r;cases rx;refine Zd () I (T1.k z1) p1 p2 λw' s4 I4 gw=>⟨_,H,I4,gw,q.now R ?_⟩
 have q:=rv.val c;cases e1:u7 kvs c with
 |none =>
  rw[e1] at q;cases e2:N1 vs c with
  |none=>exact r2
  |some w=>rw[e2] at q;exact q.elim
 |some d' =>
  rw[e1] at q;obtain⟨w,hw,q⟩:=q.some;rw[hw];exact q
theorem Vu:mR X "list.pop" (rM X.K .pop):=by
 intro pins s Z H x xs v us Q I rx r h;obtain⟨d,ds,g,ρ,R,rd,rs,y,g',⟨a,i,l,k,ex,ha,h1,h2,hk,hy,rfl⟩,q⟩:=h;obtain⟨rfl,rfl⟩:=zo ex;obtain⟨a',rfl,ra⟩:=rd.j7;obtain⟨w,rfl,gw⟩:=rs.one;obtain rfl:=gw.k6;obtain⟨vs,z1,rv⟩:=R.lst ha ra;obtain⟨w,hw,gw⟩:=rv.get hy;obtain⟨R2,e2⟩:=R.write ha ra (rv.erase k);exact Vf pins s Z H _ _ v us Q I rx r ⟨_,vs,i,k,w,rfl,rfl,z1,h1,h2,by rw[<- rv.length];exact hk,hw,q ρ _ _ e2 R2 (gw.ext e2)⟩
theorem ty_list(R:Rl X.K ρ g H)(r:d8 X.K ρ H d v)(h:∃a l,d=.ref a/\d0 g a=some l):nV X.K "list" v H:=by
 obtain⟨a,l,rfl,hl⟩:=h;obtain⟨a',rfl,ra⟩:=r.j7;obtain⟨vs,hq,_⟩:=R.items hl ra;exact .inl ⟨rfl,vs,hq⟩
theorem Ue:mR X "set.add" (rM X.K .ky):=by
 intro pins s Z H x xs v us Q I rx r h;obtain⟨d,ds,g,ρ,R,rd,rs,d',g',⟨a,i,S,n,ex,ha,hn,rfl,rfl⟩,q⟩:=h;obtain⟨rfl,rfl⟩:=zo ex;obtain⟨a',rfl,ra⟩:=rd.j7;obtain⟨w,rfl,gw⟩:=rs.one;obtain rfl:=gw.k6;obtain⟨R2,e2⟩:=R.put (o':=.set (λk=>S k||decide (k=i)) (if S i then n else n+1)) (u:=.set (λk=>S k||decide (k=i)) (if S i then n else n+1)) ha rfl ra ⟨rfl,rfl⟩;exact aT6 pins s Z H _ _ v us Q I rx r ⟨_,i,S,n,rfl,rfl,R.set ha ra,hn,q ρ _ _ e2 R2 .bN⟩
theorem ty_set(R:Rl X.K ρ g H)(r:d8 X.K ρ H d v)(h:mh .ky d g):nV X.K "set" v H:=by
 obtain⟨a,S,n,rfl,hl⟩:=h;obtain⟨a',rfl,ra⟩:=r.j7;exact .inr (.inr (.inr ⟨rfl,S,n,R.set hl ra⟩))
theorem ty_dict(R:Rl X.K ρ g H)(r:d8 X.K ρ H d v)(h:mh .get d g):nV X.K "dict" v H:=by
 obtain⟨a,l,rfl,hl⟩:=h;obtain⟨a',rfl,ra⟩:=r.j7;obtain⟨vs,hq,_⟩:=R.dX hl ra;exact .inr (.inr (.inl ⟨rfl,.inl ⟨vs,hq⟩⟩))
noncomputable abbrev ij:=List Str×XK
def LX(K:PySem.W.Frag)(ρ:List Addr)(H:Hp)(Ξ:ij):KX:=λx g'=>∀bL H' C,Ext ρ H bL H'->Rl K bL g' H'->x.cls∈Ξ.1->u9 K x.cls C->Ξ.2 (.ref C) none H'
theorem LX.ext{K:PySem.W.Frag}{bV:List Addr}{H1:Hp}{Ξ:ij}(e:Ext ρ H bV H1){x:Xn}(h:LX K ρ H Ξ x g):LX K bV H1 Ξ x g:=λbL H' C e' R hm c=>h bL H' C (e.trans e') R hm c
noncomputable abbrev oo(ex:List Str):ij:=(ex,λ_ _ _=>False)
def LE(K:PySem.W.Frag)(Ξ:ij)(t:S->G->KD->KX->Prop):TE:=λbZ H Q=>∃Z g ρ,o8 K ρ H Z bZ/\Rl K ρ g H/\t Z g (LQ K ρ H Q) (LX K ρ H Ξ)
def LT(K:PySem.W.Frag)(Ξ:ij)(t:S->G->(Bool->G->Prop)->KX->Prop):TT:=λbZ H Q=>∃Z g ρ,o8 K ρ H Z bZ/\Rl K ρ g H/\t Z g (λb g'=>∀bL H',Ext ρ H bL H'->Rl K bL g' H'->Q b H') (LX K ρ H Ξ)
def LA(K:PySem.W.Frag)(Ξ:ij)(t:S->G->(List D->G->Prop)->KX->Prop):TA:=λbZ H Q=>∃Z g ρ,o8 K ρ H Z bZ/\Rl K ρ g H/\t Z g (λds g'=>∀bL H' vs,Ext ρ H bL H'->Rl K bL g' H'->c8 K bL H' ds vs->Q vs H') (LX K ρ H Ξ)
def Z4(K:PySem.W.Frag)(gp:List Addr)(H0:Hp)(k:IK)(J:It):Prop:=∀ρ g H,Ext gp H0 ρ H->Rl K ρ g H->∀i,(k.at i g=some none->J.stop i H) /\
 ∀d,k.at i g=some (some d)->J.go i H/\∀v H',J.qu i H v H'->Ext ρ H ρ H'/\Rl K ρ g H'/\d8 K ρ H' d v
def LI(K:PySem.W.Frag)(Ξ:ij)(t:S->G->(IK->G->Prop)->KX->Prop):TI:=λbZ H R=>∃Z g ρ,o8 K ρ H Z bZ/\Rl K ρ g H/\t Z g (λk g'=>∀bL H' J,Ext ρ H bL H'->Rl K bL g' H'->Z4 K bL H' k J->R J H') (LX K ρ H Ξ)
def LG(K:PySem.W.Frag)(t:MT):TG:=λv bZ H Q=>∃d Z g ρ,o8 K ρ H Z bZ/\Rl K ρ g H/\d8 K ρ H d v/\jF t d Z (λbY=>∀du,o8 K ρ H bY du->Q du H)
def LN(K:PySem.W.Frag)(ρ:List Addr)(H:Hp)(N:L2.Ends):Ends where
 nx:=λbY g'=>∀bL H' du,Ext ρ H bL H'->Rl K bL g' H'->o8 K bL H' bY du->N.nx du H'
 rt:=LQ K ρ H N.rt
 bk:=λbY g'=>∀bL H' du,Ext ρ H bL H'->Rl K bL g' H'->o8 K bL H' bY du->N.bk du H'
 ct:=λbY g'=>∀bL H' du,Ext ρ H bL H'->Rl K bL g' H'->o8 K bL H' bY du->N.ct du H'
def LS(K:PySem.W.Frag)(Ξ:ij)(t:Ends->S->G->KX->Prop):TS:=λN bZ H=>∃Z g ρ,o8 K ρ H Z bZ/\Rl K ρ g H/\t (LN K ρ H N) Z g (LX K ρ H Ξ)
end M
namespace L2
open PySem PySem.Spec PyProof.Rows
variable{t t':TT}
section
variable{X:Cx}{e:Expr}
theorem PE.imp{t t':TE}(h:PE X e t)(i:∀Z H Q,t' Z H Q->t Z H Q):PE X e t':=λpins s Z H Q I q=>h pins s Z H Q I (i Z H Q q)
theorem PT.imp(h:PT X e t)(i:∀Z H Q,t' Z H Q->t Z H Q):PT X e t':=λpins s Z H Q I q=>h pins s Z H Q I (i Z H Q q)
theorem PW.imp(h:PW X e t)(i:∀Z H Q,t' Z H Q->t Z H Q):PW X e t':=λw pins s Z H Q I q=>h w pins s Z H Q I (i Z H Q q)
theorem PA.imp{es:List Expr}{t t':TA}(h:PA X es t)(i:∀Z H Q,t' Z H Q->t Z H Q):PA X es t':=λp pins s Z H Q I q=>h p pins s Z H Q I (i Z H Q q)
theorem lQ.imp{es:List Expr}(h:lQ X es t)(i:∀Z H Q,t' Z H Q->t Z H Q):lQ X es t':=λpins s Z H Q I q=>h pins s Z H Q I (i Z H Q q)
theorem PI.imp{tg:Expr}{t t':TI}(h:PI X tg e t)(i:∀Z H Q,t' Z H Q->t Z H Q):PI X tg e t':=λpins s Z H Q I q=>h pins s Z H Q I (i Z H Q q)
theorem PG.imp{t t':TG}(h:PG X e t)(i:∀v Z H Q,t' v Z H Q->t v Z H Q):PG X e t':=λpins s Z H v u Q I r q=>h pins s Z H v u Q I r (i v Z H Q q)
theorem PS.imp{st:Stmt}{t t':TS}(h:PS X st t)(i:∀N Z H,t' N Z H->t N Z H):PS X st t':=λpins s Z H N I q=>h pins s Z H N I (i N Z H q)
theorem ju.imp{st:List Stmt}{t t':TS}(h:ju X st t)(i:∀N Z H,t' N Z H->t N Z H):ju X st t':=λpins s Z H N I q=>h pins s Z H N I (i N Z H q)
end
end L2
namespace M
open PySem L2 PySem.Spec PyProof.Rows
variable{Ξ:ij}{P:fk}{op iF:CmpOp}{rest es:List Expr}{iz mo:ME}{p2 q apos jU:Pos}{o:Expr}
section
variable{K:PySem.W.Frag}(hP:j4 P){ρ gp:List Addr}{H H0:Hp}{Z:S}{bZ:L2.St}{g:G}{m:ME}
include hP
theorem fh{Q0:KD}{Q:VK}(s:o8 K ρ H Z bZ)(R:Rl K ρ g H)(e0:Ext gp H0 ρ H)(h:aW P m Z g Q0 (LX K gp H0 Ξ))(k:∀x g1 bV H1 v1,Ext ρ H bV H1->Rl K bV g1 H1->d8 K bV H1 x v1->Q0 x g1->Q v1 H1):LE K Ξ (aW P m) bZ H Q :=
 ⟨Z,g,ρ,s,R,c6 hP m _ _ _ _ _ _ (λx g1 h bV H1 v1 e1 R1 r1=>k x g1 bV H1 v1 e1 R1 r1 h) (λ_ _ z=>LX.ext e0 z) h⟩
theorem kr{Q0:List D->G->Prop}{Q:List V->Hp->Prop}(s:o8 K ρ H Z bZ)(R:Rl K ρ g H)(e0:Ext gp H0 ρ H)(h:gs P m Z g Q0 (LX K gp H0 Ξ))(k:∀x g1 bV H1 v1,Ext ρ H bV H1->Rl K bV g1 H1->c8 K bV H1 x v1->Q0 x g1->Q v1 H1):LA K Ξ (gs P m) bZ H Q :=
 ⟨Z,g,ρ,s,R,B6 hP m _ _ _ _ _ _ (λx g1 h bV H1 v1 e1 R1 r1=>k x g1 bV H1 v1 e1 R1 r1 h) (λ_ _ z=>LX.ext e0 z) h⟩
theorem pH{Q0:Bool->G->Prop}{Q:Bool->Hp->Prop}(s:o8 K ρ H Z bZ)(R:Rl K ρ g H)(e0:Ext gp H0 ρ H)(h:dg P m Z g Q0 (LX K gp H0 Ξ))(k:∀t g1 bV H1,Ext ρ H bV H1->Rl K bV g1 H1->Q0 t g1->Q t H1):LT K Ξ (dg P m) bZ H Q :=
 ⟨Z,g,ρ,s,R,q8 hP m _ _ _ _ _ _ (λt g1 h bV H1 e1 R1=>k t g1 bV H1 e1 R1 h) (λ_ _ z=>LX.ext e0 z) h⟩
theorem sT{ms:MS}{N:L2.Ends}{N0:Ends}(s:o8 K ρ H Z bZ)(R:Rl K ρ g H)(e0:Ext gp H0 ρ H)(h:wpS P ms N0 Z g (LX K gp H0 Ξ))(k:N0.le (LN K ρ H N)):LS K Ξ (wpS P ms) N bZ H :=
 ⟨Z,g,ρ,s,R,wpS_mono hP ms _ _ _ _ _ _ k (λ_ _ z=>LX.ext e0 z) h⟩
end
theorem c8.mJ{K ρ H}(lo:Int)(n:Nat):c8 K ρ H (i6 lo n) ((List.range n).map λ(k:Nat)=>V.int (lo+k)):=by
 unfold i6;have:∀l:List Nat,c8 K ρ H (l.map λ(k:Nat)=>D.int (lo+k)) (l.map λ(k:Nat)=>V.int (lo+k)):=by
  intro l
  induction l with
  |nil=>exact .nil
  |cons x r ih=>exact .cons (.int _) ih
 exact this _
section
variable{X:Cx}(hP:j4 P){a b c e:Expr}{ma mb mc:ME}{pos:Pos}{p:Pr}
include hP
theorem Fn(h:PE X e (sU (r2 X.K p) (LE X.K Ξ (aW P ma)) (LE X.K Ξ (aW P mb)))):PE X e (LE X.K Ξ (aW P (.prim p (.cons ma (.cons mb .nil))))) :=
 h.imp λbZ H Q bq=>by
  obtain⟨Z,g,ρ,s,R,h⟩:=bq;exact fh hP s R (.refl _ _) h λx g1 bV H1 v1 e1 R1 r1 h=>fh hP (s.ext e1) R1 e1 h λy g2 eY H2 v2 e2 R2 r2 h =>
   ⟨x,y,g2,eY,R2,r1.ext e2,r2,o6 (λd g' h=>h.ext (e1.trans e2)) h⟩
theorem RY(h:PT X e (EN (sU (r2 X.K (.cmp op)) (LE X.K Ξ (aW P ma)) (LE X.K Ξ (aW P mb))))):PT X e (LT X.K Ξ (dg P (.fm (.prim (.cmp op) (.cons ma (.cons mb .nil)))))) :=
 h.imp λbZ H Q bq=>by
  obtain⟨Z,g,ρ,s,R,h⟩:=bq;refine fh hP s R (.refl _ _) h λx g1 bV H1 v1 e1 R1 r1 h=>fh hP (s.ext e1) R1 e1 h λy g2 eY H2 v2 e2 R2 r2 h=>?_;obtain⟨d',g',h,q⟩:=h;obtain⟨x',y',t,ex,hc,rfl,rfl⟩:=id h;refine⟨x,y,g',eY,R2,r1.ext e2,r2,_,_,h,λbL H' v e' R' r'=>?_⟩;obtain⟨t',ht,q⟩:=q;rcases ht with⟨z,_⟩|z|⟨i,z,_⟩|⟨l,z,_⟩|⟨a,l,z,_⟩<;>cases z
  exact⟨_,r'.O6,q bL H' (e1.trans (e2.trans e')) R'⟩
theorem Yy{op:UnaryOp}(ha:PE X a (LE X.K Ξ (aW P ma))):PE X (.UnaryOp op a pos) (LE X.K Ξ (aW P (.prim (.un op) (.cons ma .nil)))) :=
 (Yo (Yh op) ha).imp λbZ H Q bq=>by
  obtain⟨Z,g,ρ,s,R,h⟩:=bq;exact fh hP s R (.refl _ _) h λx g1 bV H1 v1 e1 R1 r1 h=>⟨x,g1,bV,R1,r1,o6 (λd g' h=>h.ext e1) h⟩
theorem LD:∀bZ H Q,LE X.K Ξ (aW P (.chain op iF ma mb mc)) bZ H Q->Fp (r2 X.K (.cmp op)) (r2 X.K (.cmp iF)) (LE X.K Ξ (aW P ma)) (LE X.K Ξ (aW P mb)) (LE X.K Ξ (aW P mc)) bZ H Q:=λbZ H Q bq=>by
 obtain⟨Z,g,ρ,s,R,h⟩:=bq;refine fh hP s R (.refl _ _) h λx g1 bV H1 v1 e1 R1 r1 h=>fh hP (s.ext e1) R1 e1 h λy g2 eY H2 v2 e2 R2 r2 h=>?_;refine⟨x,y,g2,eY,R2,r1.ext e2,r2,o6 (λd g3 h jh H3 v3 e3 R3 r3=>?_) h⟩;obtain⟨t,rfl,h⟩:=h;obtain rfl:=r3.O6;refine⟨t,rfl,?_⟩;cases t
 ·exact h jh H3 _ (e1.trans (e2.trans e3)) R3 (.bl _)
 ·exact fh hP (s.ext (e1.trans (e2.trans e3))) R3 (e1.trans (e2.trans e3)) h λz g4 pG H4 v4 e4 R4 r4 h =>
   ⟨y,z,g4,pG,R4,r2.ext (e3.trans e4),r4,o6 (λd g' h=>h.ext (e1.trans (e2.trans (e3.trans e4)))) h⟩
theorem a90(hu:X.A.units+100<cLine)(ha:PE X a (LE X.K Ξ (aW P ma)))(hb:PE X b (LE X.K Ξ (aW P mb)))(hc:PE X c (LE X.K Ξ (aW P mc)))(hm:lastMarks [op,iF] [b,c]=false) :
  PE X (.Compare a [op,iF] [b,c] pos) (LE X.K Ξ (aW P (.chain op iF ma mb mc))):=(Vn (uA hu op) (uA hu iF) ha hb hc hm).imp (LD hP)
theorem UQ{Z:S}{g:G}{Q:Bool->G->Prop}{E:KX}(h:dg P (.fm (.chain op iF ma mb mc)) Z g Q E):aW P (.chain op iF ma mb mc) Z g (λd g'=>∃t,d=.bl t/\Q t g') E:=by
 have one:∀{o:CmpOp} {xs:List D} {g:G},cE (.cmp o) xs g (λd g1=>qi g1 d λb=>Q b g1)->cE (.cmp o) xs g λd g'=>∃t,d=.bl t/\Q t g':=by
  intro o xs g h;obtain⟨d',g',h,t',ht,q⟩:=h;obtain⟨x',y',t,ex,hc,rfl,rfl⟩:=id h;refine⟨_,_,h,t',?_,q⟩;rcases ht with⟨z,_⟩|z|⟨i,z,_⟩|⟨l,z,_⟩|⟨a,l,z,_⟩<;>first|exact z|cases z
 refine c6 hP ma _ _ _ _ _ _ (λx g1 h=>c6 hP mb _ _ _ _ _ _ (λy g2 h=>o6 (λz g3 h=>?_) h) (λ_ _ z=>z) h) (λ_ _ z=>z) h;obtain⟨t,rfl,h⟩:=h;refine⟨t,rfl,?_⟩;cases t
 ·obtain⟨b,hb,q⟩:=(show qi g3 (.bl false) λb=>Q b g3 from h)
  rcases hb with⟨z,_⟩|z|⟨i,z,_⟩|⟨l,z,_⟩|⟨a,l,z,_⟩<;>first|(cases z;exact⟨_,rfl,q⟩)|cases z
 ·exact c6 hP mc _ _ _ _ _ _ (λw g4 h=>one h) (λ_ _ z=>z) h
theorem a78(hu:X.A.units+100<cLine)(ha:PE X a (LE X.K Ξ (aW P ma)))(hb:PE X b (LE X.K Ξ (aW P mb)))(hc:PE X c (LE X.K Ξ (aW P mc)))(hm:lastMarks [op,iF] [b,c]=false) :
  PT X (.Compare a [op,iF] [b,c] pos) (LT X.K Ξ (dg P (.fm (.chain op iF ma mb mc)))) :=
 (Vz (uA hu op) (uA hu iF) ha hb hc hm).imp λbZ H Q ⟨Z,g,ρ,s,R,h⟩ =>
  LD hP bZ H _ (fh hP s R (.refl _ _) (UQ hP h) λx g1 bV H1 v1 e1 R1 r1 h=>by
   obtain⟨t,rfl,h⟩:=h;exact ⟨t,r1.O6,h bV H1 e1 R1⟩)
theorem RB(ha:PE X a (LE X.K Ξ (aW P ma)))(hb:PE X (.BoolOp .And (b::rest) pos) (LE X.K Ξ (aW P mb))):PE X (.BoolOp .And (a::b::rest) pos) (LE X.K Ξ (aW P (.cQ ma mb))) :=
 (QZ ha hb).imp λbZ H Q bq=>by
  obtain⟨Z,g,ρ,s,R,h⟩:=bq;refine fh hP s R (.refl _ _) h λx g1 bV H1 v1 e1 R1 r1 h=>?_;obtain⟨t,rfl,h⟩:=h;refine⟨t,r1.O6,?_⟩;cases t
  ·exact h bV H1 _ e1 R1 (.bl _)
  ·exact fh hP (s.ext e1) R1 e1 h λy g2 eY H2 v2 e2 R2 r2 h=>h eY H2 v2 (e1.trans e2) R2 r2
theorem Yx(ha:PE X a (LE X.K Ξ (aW P ma)))(hb:PE X (.BoolOp .Or (b::rest) pos) (LE X.K Ξ (aW P mb))):PE X (.BoolOp .Or (a::b::rest) pos) (LE X.K Ξ (aW P (.jH ma mb))) :=
 (Yn ha hb).imp λbZ H Q bq=>by
  obtain⟨Z,g,ρ,s,R,h⟩:=bq;refine fh hP s R (.refl _ _) h λx g1 bV H1 v1 e1 R1 r1 h=>?_;obtain⟨t,rfl,h⟩:=h;refine⟨t,r1.O6,?_⟩;cases t
  ·exact fh hP (s.ext e1) R1 e1 h λy g2 eY H2 v2 e2 R2 r2 h=>h eY H2 v2 (e1.trans e2) R2 r2
  ·exact h bV H1 _ e1 R1 (.bl _)
theorem RI(ha:PE X a (LE X.K Ξ (aW P ma))):PE X (.UnaryOp .Not a pos) (LE X.K Ξ (aW P (.dE ma))) :=
 (Rh ha).imp λbZ H Q bq=>by
  obtain⟨Z,g,ρ,s,R,h⟩:=bq;refine fh hP s R (.refl _ _) h λx g1 bV H1 v1 e1 R1 r1 h=>?_;obtain⟨t,rfl,h⟩:=h;exact⟨t,r1.O6,h bV H1 _ e1 R1 (.bl _)⟩
theorem RH(hc:PT X c (LT X.K Ξ (dg P mc)))(ha:PE X a (LE X.K Ξ (aW P ma)))(hb:PE X b (LE X.K Ξ (aW P mb))):PE X (.IfExp c a b pos) (LE X.K Ξ (aW P (.ite mc ma mb))) :=
 (Vp hc ha hb).imp λbZ H Q bq=>by
  obtain⟨Z,g,ρ,s,R,h⟩:=bq;refine pH hP s R (.refl _ _) h λt g1 bV H1 e1 R1 h=>?_;cases t
  ·exact fh hP (s.ext e1) R1 e1 h λy g2 eY H2 v2 e2 R2 r2 h=>h eY H2 v2 (e1.trans e2) R2 r2
  ·exact fh hP (s.ext e1) R1 e1 h λy g2 eY H2 v2 e2 R2 r2 h=>h eY H2 v2 (e1.trans e2) R2 r2
theorem RJ{k:Nat}(h:PA X es (LA X.K Ξ (gs P iz))):PE X (.Tuple es k pos) (LE X.K Ξ (aW P (.prim .tup iz))) :=
 (Rj h).imp λbZ H Q bq=>by
  obtain⟨Z,g,ρ,s,R,h⟩:=bq;refine kr hP s R (.refl _ _) h λds g1 bV H1 vs e1 R1 r1 h=>?_;obtain⟨d',g',⟨hz,rfl,rfl⟩,q⟩:=h;exact⟨by rw[<- r1.length];exact u3 (aB hz ∅),λp hp=>(q.ext e1).tup R1 hp r1⟩
theorem Kv(h:PA X es (LA X.K Ξ (gs P iz))):PE X (.List es pos) (LE X.K Ξ (aW P (.prim .lst iz))) :=
 (Rf h).imp λbZ H Q bq=>by
  obtain⟨Z,g,ρ,s,R,h⟩:=bq;refine kr hP s R (.refl _ _) h λds g1 bV H1 vs e1 R1 r1 h=>?_;obtain⟨d',g',⟨hz,rfl,rfl⟩,q⟩:=h;exact⟨by rw[<- r1.length];exact u3 (aB hz ∅),λp hp=>(q.ext e1).new R1 hp r1⟩
theorem L7:PA X [] (LA X.K Ξ (gs P .nil)) :=
 (Z9 (X:=X)).imp λbZ H Q bq=>by
  obtain⟨Z,g,ρ,s,R,h⟩:=bq;exact h ρ H [] (.refl _ _) R .nil
theorem C8(ha:PE X a (LE X.K Ξ (aW P ma)))(h:PA X es (LA X.K Ξ (gs P iz)))(hs:starEach (a::es) X.env=(false,eval a X.env)::starEach es X.env):PA X (a::es) (LA X.K Ξ (gs P (.cons ma iz))) :=
 (U5 ha h hs).imp λbZ H Q bq=>by
  obtain⟨Z,g,ρ,s,R,h⟩:=bq;exact fh hP s R (.refl _ _) h λx g1 bV H1 v1 e1 R1 r1 h=>kr hP (s.ext e1) R1 e1 h λxs g2 eY H2 vs e2 R2 r2 h=>h eY H2 _ (e1.trans e2) R2 (.cons (r1.ext e2) r2)
theorem a83(ha:PE X a (LE X.K Ξ (aW P ma))):PE X (.Subscript a (.Slice none none none p2) pos) (LE X.K Ξ (aW P (.prim (.ji false false) (.cons ma .nil)))) :=
 (DN EJ ha zk zk).imp λbZ H Q bq=>by
  obtain⟨Z,g,ρ,s,R,h⟩:=bq;refine fh hP s R (.refl _ _) h λx g1 bV H1 v1 e1 R1 r1 h=>?_;obtain⟨d',g',⟨x',ex,h⟩,q⟩:=h;cases ex;exact⟨x,g1,bV,d',g',R1,r1,h,q.ext e1⟩
theorem a81(ha:PE X a (LE X.K Ξ (aW P ma)))(hb:PE X b (LE X.K Ξ (aW P mb))):PE X (.Subscript a (.Slice (some b) none none p2) pos) (LE X.K Ξ (aW P (.prim (.ji true false) (.cons ma (.cons mb .nil))))) :=
 (DN EJ ha (Lj hb) zk).imp λbZ H Q bq=>by
  obtain⟨Z,g,ρ,s,R,h⟩:=bq;refine fh hP s R (.refl _ _) h λx g1 bV H1 v1 e1 R1 r1 h=>fh hP (s.ext e1) R1 e1 h λy g2 eY H2 v2 e2 R2 r2 h=>?_;obtain⟨d',g',⟨x',i,ex,h⟩,q⟩:=h;cases ex;exact⟨i,r2.k6,x,g2,eY,d',g',R2,r1.ext e2,h,q.ext (e1.trans e2)⟩
theorem a82(ha:PE X a (LE X.K Ξ (aW P ma)))(hb:PE X b (LE X.K Ξ (aW P mb))):PE X (.Subscript a (.Slice none (some b) none p2) pos) (LE X.K Ξ (aW P (.prim (.ji false true) (.cons ma (.cons mb .nil))))) :=
 (DN EJ ha zk (Lj hb)).imp λbZ H Q bq=>by
  obtain⟨Z,g,ρ,s,R,h⟩:=bq;refine fh hP s R (.refl _ _) h λx g1 bV H1 v1 e1 R1 r1 h=>fh hP (s.ext e1) R1 e1 h λy g2 eY H2 v2 e2 R2 r2 h=>?_;obtain⟨d',g',⟨x',i,ex,h⟩,q⟩:=h;cases ex;exact⟨i,r2.k6,x,g2,eY,d',g',R2,r1.ext e2,h,q.ext (e1.trans e2)⟩
theorem RZ(ha:PE X a (LE X.K Ξ (aW P ma)))(he:∀whole,isTrue a X.env whole=(do let v <- whole;standAt a.pos;holding [v] (truthy v))):PT X a (LT X.K Ξ (dg P (.fm ma))) :=
 (VA ha he).imp λbZ H Q bq=>by
  obtain⟨Z,g,ρ,s,R,h⟩:=bq;refine fh hP s R (.refl _ _) h λx g1 bV H1 v1 e1 R1 r1 h=>?_;obtain⟨b,h1,h2⟩:=h;exact⟨b,Ss R1 r1 h1,h2 bV H1 e1 R1⟩
theorem RX(ha:PT X a (LT X.K Ξ (dg P ma))):PT X (.UnaryOp .Not a pos) (LT X.K Ξ (dg P (.dE ma))) :=
 (Rv ha).imp λbZ H Q bq=>by
  obtain⟨Z,g,ρ,s,R,h⟩:=bq;exact pH hP s R (.refl _ _) h λt g1 bV H1 e1 R1 h=>h bV H1 e1 R1
theorem Sd(ha:PT X a (LT X.K Ξ (dg P ma)))(hb:PW X (.BoolOp .And (b::rest) pos) (LT X.K Ξ (dg P mb))):PW X (.BoolOp .And (a::b::rest) pos) (LT X.K Ξ (dg P (.cQ ma mb))) :=
 (Rw ha hb).imp λbZ H Q bq=>by
  obtain⟨Z,g,ρ,s,R,h⟩:=bq;refine pH hP s R (.refl _ _) h λt g1 bV H1 e1 R1 h=>?_;cases t
  ·exact h bV H1 e1 R1
  ·exact pH hP (s.ext e1) R1 e1 h λt g2 eY H2 e2 R2 h=>h eY H2 (e1.trans e2) R2
theorem YA(ha:PT X a (LT X.K Ξ (dg P ma)))(hb:PW X (.BoolOp .Or (b::rest) pos) (LT X.K Ξ (dg P mb))):PW X (.BoolOp .Or (a::b::rest) pos) (LT X.K Ξ (dg P (.jH ma mb))) :=
 (Yr ha hb).imp λbZ H Q bq=>by
  obtain⟨Z,g,ρ,s,R,h⟩:=bq;refine pH hP s R (.refl _ _) h λt g1 bV H1 e1 R1 h=>?_;cases t
  ·exact pH hP (s.ext e1) R1 e1 h λt g2 eY H2 e2 R2 h=>h eY H2 (e1.trans e2) R2
  ·exact h bV H1 e1 R1
theorem Uz:lQ X [] (LT X.K Ξ (dg P .no)) :=
 (TZ (X:=X)).imp λbZ H Q bq=>by
  obtain⟨Z,g,ρ,s,R,h⟩:=bq;exact h ρ H (.refl _ _) R
theorem RC{x:Str}{v:Value}(hv:(∃id,v=.builtin id)\/∃T,v=.type T)(hc:m8 X v (rN X.K p))(hg:Gl X x)(hm:X.mg x=none)(hb:bootBuiltins x=some v)(ha:PA X (e::es) (LA X.K Ξ (gs P iz)))(hn:x≠"__name__")(hd:(x==("__debug__":Str))=false)(ei:starEach (e::es) X.env=(false,eval e X.env)::starEach es X.env)(gR:(backTo pos (starEach es X.env)).any (·.1)=false):PE X (.Call (.Name x q) (e::es) [] pos) (LE X.K Ξ (aW P (.prim p iz))):=by
 have base:PE X (.Call (.Name x q) (e::es) [] pos) (Ax (rN X.K p) (LA X.K Ξ (gs P iz))):=by
  rcases hv with⟨id,rfl⟩|⟨T,rfl⟩
  ·exact zD hc hg hm hb ha hn hd ei gR
  ·exact Q9 hc hg hm hb ha hn hd ei gR
 refine base.imp λbZ H Q bq=>?_;obtain⟨Z,g,ρ,s,R,h⟩:=bq;exact kr hP s R (.refl _ _) h λxs g1 bV H1 vs e1 R1 r1 h=>⟨xs,g1,bV,R1,r1,o6 (λd g' h=>h.ext e1) h⟩
theorem Um{T:String}{name:Str}{id:String}(pa:PlainAttrs T)(slot:Slot T name id)(jK:typeOf (.builtin id)=pure (.type "method_descriptor"))(hm:mR X id (rM X.K p))(hk:∀{d:D} {v:V} {g:G} {ρ:List Addr} {H:Hp},Rl X.K ρ g H->d8 X.K ρ H d v->mh p d g->nV X.K T v H)(ho:PE X o (LE X.K Ξ (aW P mo)))(ha:PA X (e::es) (LA X.K Ξ (gs P iz)))(gG:attributeBase o name X.env (eval o X.env)=eval o X.env)(lA:((backTo pos (starEach (e::es) X.env)).all (λx=>!x.1)&&(backToKw pos (keywordEach [] X.env)).all (λx=>x.1.isSome)&&decide ((e::es).length+([]:List Keyword).length+(if([]:List Keyword).isEmpty then 0 else 1)<30))=true)(gF:(apos.endLine==pos.line)=true)(hs:starEach (e::es) X.env=(false,eval e X.env)::starEach es X.env)(fq:(backTo pos (starEach es X.env)).any (·.1)=false) :
  PE X (.Call (.Attribute o name apos) (e::es) [] pos) (LE X.K Ξ (aW P (.dU p mo iz))) :=
 (Yk pa slot jK hm ho ha gG lA gF hs fq).imp λbZ H Q bq=>by
  obtain⟨Z,g,ρ,s,R,h⟩:=bq;exact fh hP s R (.refl _ _) h λx g1 bV H1 v1 e1 R1 r1 h=>⟨hk R1 r1 h.1,kr hP (s.ext e1) R1 e1 h.2 λxs g2 eY H2 ws e2 R2 r2 h =>
   ⟨x,xs,g2,eY,R2,r1.ext e2,r2,o6 (λd g' h=>h.ext (e1.trans e2)) h⟩⟩
theorem a85{T:String}{name:Str}{id:String}(pa:PlainAttrs T)(slot:Slot T name id)(jK:typeOf (.builtin id)=pure (.type "method_descriptor"))(hm:mR X id (rM X.K p))(hk:∀{d:D} {v:V} {g:G} {ρ:List Addr} {H:Hp},Rl X.K ρ g H->d8 X.K ρ H d v->mh p d g->nV X.K T v H)(ho:PE X o (LE X.K Ξ (aW P mo)))(gG:attributeBase o name X.env (eval o X.env)=eval o X.env)(gF:(apos.endLine==pos.line)=true) :
  PE X (.Call (.Attribute o name apos) [] [] pos) (LE X.K Ξ (aW P (.dU p mo .nil))) :=
 (Ra pa slot jK hm ho gG gF).imp λbZ H Q bq=>by
  obtain⟨Z,g,ρ,s,R,h⟩:=bq;exact fh hP s R (.refl _ _) h λx g1 bV H1 v1 e1 R1 r1 h=>⟨hk R1 r1 h.1,x,[],g1,bV,R1,r1,.nil,o6 (λd g' h=>h.ext e1) h.2⟩
omit hP in
theorem Mb{K ρ H}:∀{bs:List Nat} {vs:List V},c8 K ρ H (bs.map .ref) vs->∃cs:List Addr,vs=cs.map .ref/\cs.length=bs.length/\∀(j b c:Nat),bs[j]?=some b->cs[j]?=some c->ρ[b]?=some c
 |[],_,.nil=>⟨[],rfl,rfl,λj b c e=>by simp at e⟩
 |b::bs,_,.cons h t=>by
  obtain⟨c,rfl,rc⟩:=h.j7;obtain⟨cs,rfl,hl,hj⟩:=Mb t;refine⟨c::cs,rfl,by simp[hl],λj b' c' e1 e2=>?_⟩;cases j with
  |zero=>cases e1;cases e2;exact rc
  |succ j=>exact hj j b' c' (by simpa using e1) (by simpa using e2)
omit hP in
theorem aV3{K ρ H g}{l:List D}{vs:List V}{y:D}{w:V}{n:Nat}(R:Rl K ρ g H)(r:c8 K ρ H l vs)(ry:d8 K ρ H y w)(h:EW g l y n):Mt H vs w n:=by
 obtain⟨bs,b,ms,rfl,rfl,hb,yz,⟨c,h1,h2⟩,mM⟩:=h;obtain⟨cs,rfl,hl,hj⟩:=Mb r;obtain⟨b',rfl,rb⟩:=ry.j7;have lst:∀{c c':Nat} {ns:List Int},g[c]?=some (.lst (ns.map .int))->ρ[c]?=some c'->H c'=some (.lst (ns.map .int)):=λ{c c' ns} e1 e2=>by
  obtain⟨vs,hq,r1⟩:=R.lst e1 e2;rw[hq,r1.ints]
 have at_:∀{j c':Nat},cs[j]?=some c'->∃c,bs[j]?=some c/\ρ[c]?=some c':=λ{j c'} e=>by
  have:=(aj.mp e).1;have e2:=ai (show j<bs.length by omega);exact⟨_,e2,hj j _ c' e2 e⟩
 refine⟨cs,b',ms,rfl,rfl,lst hb rb,λc' hV=>?_,?_,λm c' hm e=>?_⟩
 ·obtain⟨j,e⟩:=cw.mp hV;obtain⟨c,e1,e2⟩:=at_ e;obtain⟨ns,n1,n2⟩:=yz c (aC e1);exact⟨ns,lst n1 e2,n2⟩
 ·have:=(aj.mp h1).1;have e:=ai (show n<cs.length by omega);exact⟨_,e,lst h2 (hj n c _ h1 e)⟩
 ·obtain⟨c,e1,e2⟩:=at_ e;obtain⟨ns,n1,_⟩:=yz c (aC e1);rw[lst n1 e2];intro z;have hh:ns.map V.int=ms.map V.int:=by injection z with z;injection z
  have:=(dM λx y q=>by injection q).mp hh;subst this;exact mM m c hm e1 n1
theorem a89(hu:X.A.units+100<cLine)(ho:PE X o (LE X.K Ξ (aW P mo)))(ha:PA X (e::es) (LA X.K Ξ (gs P iz)))(gG:attributeBase o "index" X.env (eval o X.env)=eval o X.env)(lA:((backTo pos (starEach (e::es) X.env)).all (λx=>!x.1)&&(backToKw pos (keywordEach [] X.env)).all (λx=>x.1.isSome)&&decide ((e::es).length+([]:List Keyword).length+(if([]:List Keyword).isEmpty then 0 else 1)<30))=true)(gF:(apos.endLine==pos.line)=true)(hs:starEach (e::es) X.env=(false,eval e X.env)::starEach es X.env)(fq:(backTo pos (starEach es X.env)).any (·.1)=false) :
  PE X (.Call (.Attribute o "index" apos) (e::es) [] pos) (LE X.K Ξ (aW P (.dU .index mo iz))) :=
 (Vq hu ho ha gG lA gF hs fq).imp λbZ H Q bq=>by
  obtain⟨Z,g,ρ,s,R,h⟩:=bq;refine fh hP s R (.refl _ _) h λx g1 bV H1 v1 e1 R1 r1 h=>?_;obtain⟨hk,h⟩:=h;obtain⟨a,l,rfl,hl⟩:=hk
  ·obtain⟨a',rfl,ra⟩:=r1.j7;obtain⟨vs,hq,_⟩:=R1.items hl ra;refine⟨a',vs,rfl,hq,kr hP (s.ext e1) R1 e1 h λxs g2 eY H2 ws e2 R2 r2 h=>?_⟩;obtain⟨d',g',⟨x,y,l',n,ex,hi,W,hz,rfl,rfl⟩,q⟩:=h;cases ex;obtain⟨w,rfl,gw⟩:=r2.one;obtain⟨Ar,Bf,sY⟩:=R2.items (show d0 _ a=some l' from hi) (e2.get ra);obtain⟨_,W⟩:=W
   ·have hn:n<2 ^ 62:=by
     obtain⟨bs,_,_,rfl,_,_,_,⟨_,GL,_⟩,_⟩:=W;have:=(aj.mp GL).1;rw[ae] at hz;omega
    exact⟨a',Ar,w,n,rfl,rfl,Bf,aV3 R2 sY gw W,hn,(q.ext (e1.trans e2)).now R2 (.int n)⟩
theorem a88(hc:X.calm=true)(ha:PE X a (LE X.K Ξ (aW P ma)))(nB:Gl X "list")(nz:X.mg "list"=none)(hg:Gl X "range")(hm:X.mg "range"=none)(hs:starEach [a] X.env=[(false,eval a X.env)]) :
  PE X (.Call (.Name "list" p2) [.Call (.Name "range" q) [a] [] pos] [] jU) (LE X.K Ξ (aW P (.prim .jl (.cons ma .nil)))) :=
 (Q9 (Km hc) nB nz (by first|exact fy|decide +kernel) (U5 (a11 hg hm (C8 hP ha (L7 hP) (by rw[hs];rfl)) hs) Z9)).imp λbZ H Q bq=>by
  obtain⟨Z,g,ρ,s,R,h⟩:=bq;refine kr hP s R (.refl _ _) h λxs g1 bV H1 vs e1 R1 r1 h=>?_;obtain⟨d',g',⟨j,rfl,h1,h2,rfl,rfl⟩,q⟩:=h;obtain⟨v,rfl,rv⟩:=r1.one;obtain rfl:=rv.k6;refine⟨j,rfl,λq' hq=>⟨q',0,j,rfl,v7,⟨by omega,by omega,h1,by omega,by omega⟩,λp hp=>?_⟩⟩;rw[show(j-0).toNat=j.toNat by omega];exact(q.ext (e1.trans (C7 hq))).new (R1.grow hq) hp (c8.mJ 0 _)
theorem a87(hc:X.calm=true)(ha:PE X a (LE X.K Ξ (aW P ma)))(hb:PE X b (LE X.K Ξ (aW P mb)))(nB:Gl X "list")(nz:X.mg "list"=none)(hg:Gl X "range")(hm:X.mg "range"=none)(hs:starEach [a,b] X.env=[(false,eval a X.env),(false,eval b X.env)])(iR:starEach [b] X.env=[(false,eval b X.env)]) :
  PE X (.Call (.Name "list" p2) [.Call (.Name "range" q) [a,b] [] pos] [] jU) (LE X.K Ξ (aW P (.prim .kE (.cons ma (.cons mb .nil))))) :=
 (Q9 (Km hc) nB nz (by first|exact fy|decide +kernel) (U5 (a10 hg hm (C8 hP ha (C8 hP hb (L7 hP) (by rw[iR];rfl)) (by rw[hs,iR])) hs iR) Z9)).imp λbZ H Q bq=>by
  obtain⟨Z,g,ρ,s,R,h⟩:=bq;refine kr hP s R (.refl _ _) h λxs g1 bV H1 vs e1 R1 r1 h=>?_;obtain⟨d',g',⟨i,j,rfl,hb,rfl,rfl⟩,q⟩:=h;obtain⟨v,w,rfl,rv,gw⟩:=r1.two;obtain rfl:=rv.k6;obtain rfl:=gw.k6;exact⟨i,j,rfl,λq' hq=>⟨q',i,j,rfl,v7,hb,λp hp=>(q.ext (e1.trans (C7 hq))).new (R1.grow hq) hp (c8.mJ i _)⟩⟩
theorem Up(hc:X.calm=true)(ha:PE X a (LE X.K Ξ (aW P ma)))(nB:Gl X "sorted")(nz:X.mg "sorted"=none)(hg:Gl X "set")(hm:X.mg "set"=none)(hs:starEach [a] X.env=[(false,eval a X.env)]) :
  PE X (.Call (.Name "sorted" p2) [.Call (.Name "set" q) [a] [] pos] [] jU) (LE X.K Ξ (aW P (.prim .sset (.cons ma .nil)))) :=
 (zD (X8 hc) nB nz (by first|exact hZ|decide +kernel) (U5 (Q9 (Kj hc) hg hm (by first|exact jb|decide +kernel) (C8 hP ha (L7 hP) (by rw[hs];rfl)) ∅ ∅ (by rw[hs];rfl) rfl) Z9)).imp λbZ H Q bq=>by
  obtain⟨Z,g,ρ,s,R,h⟩:=bq;refine kr hP s R (.refl _ _) h λxs g1 bV H1 vs e1 R1 r1 h=>?_;obtain⟨d',g',⟨i,ns,rfl,hl,hz,rfl,rfl⟩,q⟩:=h;obtain⟨v,rfl,rv⟩:=r1.one;obtain⟨a',rfl,ra⟩:=rv.j7;obtain⟨ws,hq,rs⟩:=R1.items hl ra;obtain rfl:=rs.ints;refine⟨_,ns,rfl,hq,hz,λq' ml=>⟨q',ns,rfl,v7,hz,λp hp=>?_⟩⟩;exact(q.ext (e1.trans (C7 ml))).new (R1.grow ml) hp (c8.ofInts _)
theorem Uk(hc:X.calm=true)(ha:PE X a (LE X.K Ξ (aW P ma)))(nB:Gl X "len")(nz:X.mg "len"=none)(hg:Gl X "set")(hm:X.mg "set"=none)(hs:starEach [a] X.env=[(false,eval a X.env)]) :
  PE X (.Call (.Name "len" p2) [.Call (.Name "set" q) [a] [] pos] [] jU) (LE X.K Ξ (aW P (.prim .qg (.cons ma .nil)))) :=
 (zD aB4 nB nz PySem.boot_len (U5 (Q9 (Kj hc) hg hm (by first|exact jb|decide +kernel) (C8 hP ha (L7 hP) (by rw[hs];rfl)) ∅ ∅ (by rw[hs];rfl) rfl) Z9)).imp λbZ H Q bq=>by
  obtain⟨Z,g,ρ,s,R,h⟩:=bq;refine kr hP s R (.refl _ _) h λxs g1 bV H1 vs e1 R1 r1 h=>?_;obtain⟨d',g',⟨i,ns,rfl,hl,hz,rfl,rfl⟩,q⟩:=h;obtain⟨v,rfl,rv⟩:=r1.one;obtain⟨a',rfl,ra⟩:=rv.j7;obtain⟨ws,hq,rs⟩:=R1.items hl ra;obtain rfl:=rs.ints;refine⟨_,ns,rfl,hq,by omega,λq' ml=>⟨q',_,rfl,v7,?_⟩⟩;exact(q.ext (e1.trans (C7 ml))).now (R1.grow ml) (.int _)
theorem Uo{i:Int}{j:Nat}(nE:PySem.W.kdsCode X.K X.env.code=true):PE X (.Set [.Constant (.int i) j q] 0 pos) (LE X.K Ξ (aW P (.prim (.kx i) .nil))) :=
 (TK nE).imp λbZ H Q bq=>by
  obtain⟨Z,g,ρ,s,R,h⟩:=bq;obtain⟨d',g',⟨_,rfl,rfl⟩,q⟩:=h;exact λp hp=>q (ρ++[p]) _ _ (J9 hp) (R.new hp (o:=.set (λk=>decide (k=i)) 1) (u:=.set (λk=>decide (k=i)) 1) ⟨rfl,rfl⟩) (.ref (R.C0 p))
theorem RE{f:Str}(ha:PE X a (LE X.K Ξ (aW P ma)))(hb:attributeBase a f X.env (eval a X.env)=eval a X.env):PE X (.Attribute a f pos) (LE X.K Ξ (aW P (.prim (.fld f) (.cons ma .nil)))) :=
 (Rb ha hb).imp λbZ H Q bq=>by
  obtain⟨Z,g,ρ,s,R,h⟩:=bq;refine fh hP s R (.refl _ _) h λx g1 bV H1 v1 e1 R1 r1 h=>?_;obtain⟨d',g',⟨i,c,fs,ex,hi,hf,rfl⟩,q⟩:=h;cases ex;obtain⟨a',rfl,ra⟩:=r1.j7;obtain⟨C,dx,vs,hH,_,hC,rk,na⟩:=R1.ins hi ra;have lk:=rk.look f;rw[hf] at lk;obtain⟨v,hv,rv⟩:=lk.some;exact⟨a',C,dx,vs,v,rfl,hH,hC,na _ (aQ hf),hv,q bV H1 v e1 R1 rv⟩
end
section
variable{X:Cx}{pos:Pos}
theorem RK{i:Nat}{x:Str}(hN:X.N[i]?=some x)(hv:xJ X.env.scope x)(hd:(x==("__debug__":Str))=false)(mq:(x==("__classdict__":Str))=false):PE X (.Name x pos) (LE X.K Ξ (aW P (.var i))) :=
 (Rk hN hv hd mq).imp λbZ H Q bq=>by
  obtain⟨Z,g,ρ,s,R,h⟩:=bq;obtain⟨d,e,h⟩:=h;obtain⟨v,h1,h2⟩:=s.val _ _ e;exact⟨v,h1,h.now R h2⟩
theorem V3{e:Expr}{d:D}{v:V}(h:PE X e (tC v))(r:∀ρ H,d8 X.K ρ H d v):PE X e (LE X.K Ξ (aW P (.lit d))) :=
 h.imp λbZ H Q bq=>by
  obtain⟨Z,g,ρ,s,R,h⟩:=bq;exact LQ.now h R (r ρ H)
theorem Uh:PE X (.Dict [] [] pos) (LE X.K Ξ (aW P (.prim .oZ .nil))) :=
 (Vo (X:=X)).imp λbZ H Q ⟨Z,g,ρ,s,R,h⟩ p hp=>by
  obtain⟨d',g',⟨_,rfl,rfl⟩,q⟩:=h;exact q (ρ++[p]) _ _ (J9 hp) (R.new hp (o:=.dX []) (u:=.dK []) j9.nil) (.ref (R.C0 p))
end
end M
namespace L2
open PySem PySem.Spec PyProof.Rows
end L2
namespace M
open PySem L2 PySem.Spec PyProof.Rows
variable{K:PySem.W.Frag}{H H0:Hp}{neg:Bool}{a fa C:Addr}{x:Str}{p:Pos}{kvs xs:List D}{k f j:Nat}{fd:FuncData}{ps:List Str}{gp:List Addr}{vs:List V}
inductive qe(K:PySem.W.Frag):List D->List (Str×V)->Prop
 |nil:qe K [] []
 |cons {x:Str} {d:D} {v:V} {ds:List D} {vs:List (Str×V)} (h:∀ρ H,d8 K ρ H d v) (r:qe K ds vs):qe K (.tup [.str x,d]::ds) ((x,v)::vs)
theorem qe.look{ρ:List Addr}{ds vs}(x:Str)(h:qe K ds vs):sx K ρ H (Q4 ds x) (vs.lookup x):=by
 induction h with
 |nil=>trivial
 |cons h r ih =>
  rename_i y d v ds vs;unfold Q4;rw[cK];by_cases e:x=y
  ·rw[aJ e,show(x==y)=true from by simp[e]];exact h ρ H
  ·rw[aF e,show(x==y)=false from by simpa using e];exact ih
def zL(X:Cx)(x:Str)(kvs:List D):Prop:=∃A vs,X.mg x=some (.ref A)/\wY X.K X.w.params A vs/\qe X.K kvs vs
def zR(neg:Bool):Pr:=if neg then .wA else .HM
theorem KR:PR (zR neg)=CZ neg:=by cases neg<;>rfl
theorem aY3(a b c:Str):a++b++c=a++(b++c):=by
 cases a;cases b;cases c;show Str.mk _=Str.mk _;exact fV Str.mk (Nc ..)
theorem Uy(x:Str):x++Str.empty=x:=by cases x;show Str.mk _=_;simp[Str.empty]
theorem Tn(x:Str):Str.empty++x=x:=by cases x;show Str.mk _=_;simp[Str.empty]
section
variable{X:Cx}{Ξ:ij}{P:fk}(hP:j4 P){a c:Expr}{ma:ME}{pos:Pos}
include hP
theorem RG(hg:Gl X x)(hd:(x==("__debug__":Str))=false)(hG:zL X x kvs)(ha:PE X a (LE X.K Ξ (aW P ma)))(hm:behindInMarks (if neg then .NotIn else .In) (.Name x p)=false) :
  PE X (.Compare a [if neg then .NotIn else .In] [.Name x p] pos) (LE X.K Ξ (aW P (.prim (zR neg) (.cons (.lit (.tup kvs)) (.cons ma .nil))))):=by
 obtain⟨A,vs,hmg,hk,gr⟩:=hG;refine(Lf (MF (kvs:=vs) neg) ha (zj (v:=.ref A) hg hmg rfl hd) hm).imp λbZ H Q bq=>?_;obtain⟨Z,g,ρ,s,R,h⟩:=bq;refine fh hP s R (.refl _ _) h λd g1 bV H1 v1 e1 R1 r1 h=>?_;obtain⟨d',g',h,q⟩:=h;rw[KR] at h;obtain⟨jm,z,ex,rfl,rfl⟩:=h;cases ex;obtain rfl:=r1.F9;refine⟨A,z,rfl,hk,rfl,?_⟩;rw[<- (gr.look (ρ:=bV) (H:=H1) z).isSome];exact q bV H1 _ e1 R1 (.bl _)
theorem RU(hg:Gl X x)(hd:(x==("__debug__":Str))=false)(hG:zL X x kvs)(ha:PE X a (LE X.K Ξ (aW P ma)))(hm:behindInMarks (if neg then .NotIn else .In) (.Name x p)=false) :
  PT X (.Compare a [if neg then .NotIn else .In] [.Name x p] pos) (LT X.K Ξ (dg P (.fm (.prim (zR neg) (.cons (.lit (.tup kvs)) (.cons ma .nil)))))):=by
 obtain⟨A,vs,hmg,hk,gr⟩:=hG;refine(Ll (MF (kvs:=vs) neg) ha (zj (v:=.ref A) hg hmg rfl hd) hm).imp λbZ H Q bq=>?_;obtain⟨Z,g,ρ,s,R,h⟩:=bq;refine fh hP s R (.refl _ _) h λd g1 bV H1 v1 e1 R1 r1 h=>?_;obtain⟨d',g',h,t,ht,q⟩:=h;rw[KR] at h;obtain⟨jm,z,ex,rfl,rfl⟩:=h;cases ex;obtain rfl:=r1.F9;refine⟨A,z,rfl,hk,rfl,t,?_,q bV H1 e1 R1⟩;rw[<- (gr.look (ρ:=bV) (H:=H1) z).isSome];rcases ht with⟨z,_⟩|z|⟨i,z,_⟩|⟨l,z,_⟩|⟨a,l,z,_⟩<;>cases z
 rfl
theorem Uj(hg:Gl X x)(hd:(x==("__debug__":Str))=false)(hG:zL X x kvs)(ha:PE X a (LE X.K Ξ (aW P ma)))(hs:Df a):PE X (.Subscript (.Name x p) a pos) (LE X.K Ξ (aW P (.prim .nM (.cons (.lit (.tup kvs)) (.cons ma .nil))))):=by
 obtain⟨A,vs,hmg,hk,gr⟩:=hG;refine(IP (XH (kvs:=vs)) (zj (v:=.ref A) hg hmg rfl hd) ha hs).imp λbZ H Q bq=>?_;obtain⟨Z,g,ρ,s,R,h⟩:=bq;refine fh hP s R (.refl _ _) h λd g1 bV H1 v1 e1 R1 r1 h=>?_;obtain⟨d',g',⟨jm,z,ex,hz,rfl⟩,q⟩:=h;cases ex;obtain rfl:=r1.F9;have lk:=gr.look (ρ:=bV) (H:=H1) z;rw[hz] at lk;obtain⟨w,hw,lk⟩:=lk.some;exact⟨A,z,w,rfl,hk,rfl,hw,q bV H1 _ e1 R1 lk⟩
theorem Yw(ha:PE X a (LE X.K Ξ (aW P ma))):PE X (.FormattedValue a (-1) none pos) (LE X.K Ξ (aW P (.prim .fv (.cons ma .nil)))) :=
 (Yl ha).imp λbZ H Q bq=>by
  obtain⟨Z,g,ρ,s,R,h⟩:=bq;refine fh hP s R (.refl _ _) h λd g1 bV H1 v1 e1 R1 r1 h=>?_;obtain⟨d',g',⟨rfl,h⟩,q⟩:=h;rcases h with⟨i,ex,h1,rfl⟩|⟨z,ex,h1,rfl⟩
  ·cases ex;exact .inl ⟨i,r1.k6,h1,q bV H1 _ e1 R1 (.str _)⟩
  ·cases ex;exact .inr ⟨z,r1.F9,u3 (),q bV H1 _ e1 R1 (.str _)⟩
omit hP in
inductive mS(X:Cx)(Ξ:ij)(P:fk):List Expr->ME->List TE->Prop
 |nil:mS X Ξ P [] .nil []
 |lit {x:Str} {j:Nat} {p:Pos} {es:List Expr} {ms:ME} {ts:List TE} (hx:x.length<=2000) (r:mS X Ξ P es ms ts):mS X Ξ P (.Constant (.str x) j p::es) (.cons (.lit (.str x)) ms) (LE X.K Ξ (aW P (.lit (.str x)))::ts)
 |val {e:Expr} {m:ME} {p:Pos} {es:List Expr} {ms:ME} {ts:List TE} (he:PE X e (LE X.K Ξ (aW P m))) (r:mS X Ξ P es ms ts):mS X Ξ P (.FormattedValue e (-1) none p::es) (.cons (.prim .fv (.cons m .nil)) ms) (LE X.K Ξ (aW P (.prim .fv (.cons m .nil)))::ts)
theorem mS.NM{es ms ts}(h:mS X Ξ P es ms ts):uB X es ts:=by
 induction h with
 |nil=>exact .nil
 |lit hx r ih=>exact .cons (V3 MH λ_ _=>.str _) ih
 |val he r ih=>exact .cons (Yw hP he) ih
theorem mS.join{bZ:L2.St}{Q:Str->Hp->Prop}{es ms ts}(hf:mS X Ξ P es ms ts):∀{Z:S} {g:G} {ρ:List Addr} {H:Hp} {acc:Str},acc.length+2000*es.length<=100000->o8 X.K ρ H Z bZ->Rl X.K ρ g H ->
  gs P ms Z g (λds g1=>∃x,X7 ds=some x/\∀bL H',Ext ρ H bL H'->Rl X.K bL g1 H'->Q (acc++x) H') (LX X.K ρ H Ξ)->zV ts bZ H acc (λout H1=>out.length<=sizeLine/\Q out H1):=by
 have tl:∀{acc y:Str} {ρ:List Addr} {H:Hp} {bV:List Addr} {H1:Hp} {ds:List D} {g1:G},Ext ρ H bV H1->(∃x,X7 (.str y::ds)=some x/\∀bL H',Ext ρ H bL H'->Rl X.K bL g1 H'->Q (acc++x) H')->∃x,X7 ds=some x/\∀bL H',Ext bV H1 bL H'->Rl X.K bL g1 H'->Q (acc++y++x) H':=by
  intro acc y ρ H bV H1 ds g1 e1 h;obtain⟨x,hx,h⟩:=h;simp only[X7] at hx;cases hj:X7 ds with
  |none=>rw[hj] at hx;cases hx
  |some x' =>
   rw[hj] at hx;cases hx;refine⟨x',rfl,λbL H' e' R'=>?_⟩;rw[aY3];exact h bL H' (e1.trans e') R'
 induction hf with
 |nil =>
  intro Z g ρ H acc ha s R h;obtain⟨x,hx,h⟩:=h;cases hx;rw[Uy] at h;exact⟨u3 (by simpa using ha),h ρ H (.refl _ _) R⟩
 |lit hx r ih =>
  rename_i y j p es ms ts;intro Z g ρ H acc ha s R h;refine⟨Z,g,ρ,s,R,?_⟩;intro bV H1 v1 e1 R1 r1;obtain rfl:=r1.F9;have hl:(acc++y).length<=acc.length+2000:=by rw[strLen_append];omega
  simp only[List.length_cons] at ha;exact⟨y,rfl,u3 (),ih () (s.ext e1) R1 (B6 hP _ _ _ _ _ _ _ (λds g1 h=>tl e1 h) (λ_ _ z=>LX.ext e1 z) h)⟩
 |val he r ih =>
  rename_i e m p es ms ts;intro Z g ρ H acc ha s R h;refine⟨Z,g,ρ,s,R,?_⟩;simp only[List.length_cons] at ha;refine c6 hP m _ _ _ _ _ _ (λd g1 h=>?_) (λ_ _ z=>z) h;obtain⟨d',g',⟨rfl,h⟩,q⟩:=h;have hy:∃y,d'=.str y/\y.length<=2000:=by
   rcases h with⟨i,ex,h1,rfl⟩|⟨z,ex,h1,rfl⟩
   ·exact⟨_,rfl,by rw[PySem.ofString_length];have:=int_text_length_le (k:=1920) ∅ h1;omega⟩
   ·exact⟨z,rfl,h1⟩
  obtain⟨y,rfl,hy⟩:=hy;refine⟨_,_,⟨rfl,h⟩,λbV H1 v1 e1 R1 r1=>?_⟩;obtain rfl:=r1.F9;have hl:(acc++y).length<=acc.length+2000:=by rw[strLen_append];omega
  exact⟨y,rfl,u3 (),ih () (s.ext e1) R1 (B6 hP _ _ _ _ _ _ _ (λds g1 h=>tl e1 h) (λ_ _ z=>LX.ext e1 z) q)⟩
theorem Ui{lX lW:Expr}{rest:List Expr}{ms:ME}{ts:List TE}(h:mS X Ξ P (lX::lW::rest) ms ts)(hl:(lX::lW::rest).length<=40):PE X (.JoinedStr (lX::lW::rest) pos) (LE X.K Ξ (aW P (.prim .mx ms))) :=
 (TH (h.NM hP)).imp λbZ H Q bq=>by
  obtain⟨Z,g,ρ,s,R,hw⟩:=bq;refine mS.join hP h (Q:=λout H1=>Q (.str out) H1) (acc:=Str.empty) ?_ s R (B6 hP ms _ _ _ _ _ _ (λds g1 hw=>?_) (λ_ _ z=>z) hw)
  ·have:Str.empty.length=0:=rfl;omega
  ·obtain⟨d',g',⟨x,hx,rfl,rfl⟩,q⟩:=hw;refine⟨x,hx,λbL H' e' R'=>?_⟩;rw[Tn];exact q bL H' _ e' R' (.str _)
omit hP in
def pL(ex:List Str)(K:PySem.W.Frag)(n:Nat)(t:List D->G->KD->KX->Prop):Sp:=λvs H Q E=>vs.length=n/\∃ds g ρ,c8 K ρ H ds vs/\Rl K ρ g H/\t ds g (LQ K ρ H Q) (LX K ρ H (ex,E))
omit hP in
def pB(X:Cx)(P:fk)(ex:List Str)(k f:Nat)(fa:Addr)(fd:FuncData)(ps:List Str):Prop :=
 iC X.prog X.w X.K X.mg X.base (js X.prog X.w) k fa fd ps (pL ex X.K ps.length (P f))/\Binds X.K fd ps []/\∀ds g Q E,P f ds g Q E->ds.length=ps.length
theorem EK{k:Nat}(F:pB X P Ξ.1 k f fa fd ps){ρ:List Addr}{g:G}{Q0:KD}{Q:VK}(e0:Ext gp H0 ρ H)(R:Rl X.K ρ g H)(r:c8 X.K ρ H xs vs)(h:P f xs g Q0 (LX X.K gp H0 Ξ))(k:∀d g',Q0 d g'->LQ X.K ρ H Q d g'):pL Ξ.1 X.K ps.length (P f) (vs++[]) H Q Ξ.2:=by
 rw[fc];exact⟨by rw[<- r.length];exact F.2.2 _ _ _ _ h,xs,g,ρ,r,R,hP _ _ _ _ _ _ _ k (λ_ _ z=>LX.ext e0 z) h⟩
theorem Ug{es:List Expr}{e:Expr}{iz:ME}(hx:Passes (js X.prog X.w) X Ξ.2)(F:pB X P Ξ.1 k f fa fd ps)(hr:x4 k X.A)(hg:Gl X x)(hm:X.mg x=some (.ref fa))(hk:PySem.W.keepIn X.K (.ref fa)=true)(ha:PA X (e::es) (LA X.K Ξ (gs P iz)))(hd:(x==("__debug__":Str))=false)(ei:starEach (e::es) X.env=(false,eval e X.env)::starEach es X.env)(gR:(backTo pos (starEach es X.env)).any (·.1)=false):PE X (.Call (.Name x p) (e::es) [] pos) (LE X.K Ξ (aW P (.call f iz))) :=
 (Tz F.1 hr hg hm hk F.2.1 .nil hx ha hd ei gR).imp λbZ H Q bq=>by
  obtain⟨Z,g,ρ,s,R,h⟩:=bq;exact kr hP s R (.refl _ _) h λxs g1 bV H1 vs e1 R1 r1 h=>EK hP F e1 R1 r1 h λd g' h=>h.ext e1
theorem a91(hx:Passes (js X.prog X.w) X Ξ.2)(F:pB X P Ξ.1 k f fa fd ps)(hr:x4 k X.A)(hg:Gl X x)(hm:X.mg x=some (.ref fa))(hk:PySem.W.keepIn X.K (.ref fa)=true)(hd:(x==("__debug__":Str))=false):PE X (.Call (.Name x p) [] [] pos) (LE X.K Ξ (aW P (.call f .nil))) :=
 (Vm F.1 hr hg hm hk F.2.1 .nil hx hd).imp λbZ H Q bq=>by
  obtain⟨Z,g,ρ,s,R,h⟩:=bq;exact EK hP F (.refl _ _) R .nil h λd g' h=>h
theorem La{c:Str}(F:pB X P Ξ.1 k f fa fd ps)(hC:u9 X.K c C)(hc:kj X.K C){ρ:List Addr}{g1:G}{Q:VK}(e0:Ext gp H0 ρ H)(R:Rl X.K ρ g1 H)(r:c8 X.K ρ H xs vs)(h:P f (.ref g1.length::xs) (g1++[.ins c []]) (λd g2=>d=.bN/\LQ X.K gp H0 Q (.ref g1.length) g2) (LX X.K gp H0 Ξ)):∀x dx,H x=none->H dx=none->dx≠x->pL Ξ.1 X.K ps.length (P f) (.ref x::(vs++[])) (upd (upd H dx (.own x)) x (.ins C dx [])) (λv H2=>v=.bN/\Q (.ref x) H2) Ξ.2:=by
 intro x dx hx BB ft;have nY:upd H dx (.own x) x=none:=by rw[f6 (cb ft)];exact hx
 have R2:=R.grow (o:=.own x) BB;have e2:Ext ρ H ρ (upd H dx (.own x)):=C7 BB;have R3:=R2.new (o:=.ins c []) (u:=.ins C dx []) nY ⟨hC,hc,.nil,λx hx=>absurd hx (by simp)⟩;have e3:Ext ρ (upd H dx (.own x)) (ρ++[x]) (upd (upd H dx (.own x)) x (.ins C dx [])):=J9 nY;have:=EK hP F (e0.trans (e2.trans e3)) R3 (.cons (.ref (R.C0 x)) (r.ext (e2.trans e3))) h (Q:=λv H2=>v=.bN/\Q (.ref x) H2) λd g' q bL H' v e' R' r'=>by
  obtain⟨rfl,q⟩:=q;exact⟨r'.yQ,q bL H' _ (e0.trans (e2.trans (e3.trans e'))) R' (.ref (e'.get (R.C0 x)))⟩
 exact this
theorem Ul{es:List Expr}{e:Expr}{iz:ME}(hx:Passes (js X.prog X.w) X Ξ.2)(F:pB X P Ξ.1 k f fa fd ps)(M:Mk X.K C fa)(hC:u9 X.K x C)(hc:kj X.K C)(hr:x4 (k+1) X.A)(hg:Gl X x)(hm:X.mg x=some (.ref C))(ha:PA X (e::es) (LA X.K Ξ (gs P iz)))(hd:(x==("__debug__":Str))=false)(ei:starEach (e::es) X.env=(false,eval e X.env)::starEach es X.env)(gR:(backTo pos (starEach es X.env)).any (·.1)=false):PE X (.Call (.Name x p) (e::es) [] pos) (LE X.K Ξ (aW P (.make x f iz))) :=
 (TJ M F.1 hr hg hm F.2.1 .nil hx ha hd ei gR).imp λbZ H Q bq=>by
  obtain⟨Z,g,ρ,s,R,h⟩:=bq;exact kr hP s R (.refl _ _) h λxs g1 bV H1 vs e1 R1 r1 h=>La hP F hC hc e1 R1 r1 h
theorem a86(hx:Passes (js X.prog X.w) X Ξ.2)(F:pB X P Ξ.1 k f fa fd ps)(M:Mk X.K C fa)(hC:u9 X.K x C)(hc:kj X.K C)(hr:x4 (k+1) X.A)(hg:Gl X x)(hm:X.mg x=some (.ref C))(hd:(x==("__debug__":Str))=false):PE X (.Call (.Name x p) [] [] pos) (LE X.K Ξ (aW P (.make x f .nil))) :=
 (Vr M F.1 hr hg hm F.2.1 .nil hx hd).imp λbZ H Q bq=>by
  obtain⟨Z,g,ρ,s,R,h⟩:=bq;exact La hP F hC hc (.refl _ _) R .nil h
end
inductive kK(K:PySem.W.Frag)(ρ:List Addr)(H:Hp):List D->List (V×V)->Prop
 |nil:kK K ρ H [] []
 |cons {k d:D} {x y:V} {ds:List D} {ps:List (V×V)} (h1:d8 K ρ H k x) (h2:d8 K ρ H d y) (r:kK K ρ H ds ps):kK K ρ H (k::d::ds) ((x,y)::ps)
theorem Zf{K ρ H}{ps:List (V×V)}(r:kK K ρ H xs ps):∀{acc kvs:List (Key×D)} {accV:List (Key×V)},xC xs acc=some kvs->j9 K ρ H acc accV->∃more:List (Key×V),ps=more.map (λkv=>(kV kv.1,kv.2))/\2*more.length=xs.length/\j9 K ρ H kvs (V7 accV more):=by
 induction r with
 |nil =>
  intro acc kvs accV h ra;cases h;exact⟨[],rfl,rfl,ra⟩
 |cons h1 h2 r ih =>
  rename_i k d x y ds ps;intro acc kvs accV h ra;simp only[xC] at h;cases hk:W3 k with
  |none=>rw[hk] at h;cases h
  |some c =>
   rw[hk] at h;obtain⟨more,e1,e2,r2⟩:=ih (show xC ds (putD acc c d)=some kvs from h) (ra.put h2);have ex:=xy hk h1;subst ex;refine⟨(c,y)::more,by rw[bh,<- e1],by simp only[List.length_cons];omega,r2⟩
section
variable{X:Cx}{Ξ:ij}{P:fk}(hP:j4 P){pos:Pos}
inductive mT(X:Cx)(Ξ:ij)(P:fk):List (Option Expr)->List Expr->ME->List (TE×TE)->Prop
 |nil:mT X Ξ P [] [] .nil []
 |cons {k v:Expr} {ks:List (Option Expr)} {vs:List Expr} {mk mv ms:ME} {iE:List (TE×TE)} (hk:PE X k (LE X.K Ξ (aW P mk))) (hv:PE X v (LE X.K Ξ (aW P mv))) (r:mT X Ξ P ks vs ms iE) :
   mT X Ξ P (some k::ks) (v::vs) (.cons mk (.cons mv ms)) ((LE X.K Ξ (aW P mk),LE X.K Ξ (aW P mv))::iE)
theorem mT.NL{ks vs ms iE}(h:mT X Ξ P ks vs ms iE):xN X pos ks vs iE:=by
 induction h with
 |nil=>exact TM
 |cons hk hv r ih=>exact Vv hk hv ih
theorem mT.len{ks vs ms iE}(h:mT X Ξ P ks vs ms iE):ks.all (·.isSome)=true/\ks.length=vs.length:=by
 induction h with
 |nil=>exact⟨rfl,rfl⟩
 |cons hk hv r ih=>exact⟨by simpa using ih.1,by simp[ih.2]⟩
include hP
theorem mT.pairs{ks vs ms iE}(hd:mT X Ξ P ks vs ms iE):∀{bZ:L2.St} {Z:S} {g:G} {ρ gp:List Addr} {H H0:Hp} {Qd:List D->G->Prop} {Q:List (V×V)->Hp->Prop},o8 X.K ρ H Z bZ->Rl X.K ρ g H->Ext gp H0 ρ H->gs P ms Z g Qd (LX X.K gp H0 Ξ) ->
  (∀ds g' bL H' ps,Ext ρ H bL H'->Rl X.K bL g' H'->kK X.K bL H' ds ps->Qd ds g'->Q ps H')->yT iE bZ H Q:=by
 induction hd with
 |nil =>
  intro bZ Z g ρ gp H H0 Qd Q s R e0 h k;exact k [] g ρ H [] (.refl _ _) R .nil h
 |cons hk hv r ih =>
  intro bZ Z g ρ gp H H0 Qd Q s R e0 h k;refine fh hP s R e0 h λx g1 bV H1 v1 e1 R1 r1 h=>fh hP (s.ext e1) R1 (e0.trans e1) h λy g2 eY H2 v2 e2 R2 r2 h=>?_;refine ih (s.ext (e1.trans e2)) R2 (e0.trans (e1.trans e2)) h λds g' bL H' ps e' R' rp hq=>?_;exact k _ g' bL H' _ (e1.trans (e2.trans e')) R' (.cons (r1.ext (e2.trans e')) (r2.ext e') rp) hq
theorem RD{ks:List (Option Expr)}{vs:List Expr}{ms:ME}{iE:List (TE×TE)}(hd:mT X Ξ P ks vs ms iE)(h0:ks≠[])(pU:ks.length<=15):PE X (.Dict ks vs pos) (LE X.K Ξ (aW P (.qc ms))) :=
 (TC hd.NL hd.len.1 hd.len.2 h0 pU).imp λbZ H Q ⟨Z,g,ρ,s,R,h⟩ p hp=>by
  have e1:Ext ρ H (ρ++[p]) (upd H p (.dK [])):=J9 hp;refine mT.pairs hP hd (s.ext e1) (R.new hp (o:=.dX []) (u:=.dK []) j9.nil) e1 h λds g2 eY H2 ps e2 R2 rp hq=>?_;obtain⟨kvs,hk,hz,hg,q⟩:=hq;have vD:eY[g.length]?=some p:=e2.get (R.C0 p);obtain⟨vs',hv,rv⟩:=R2.dX hg vD;cases rv;obtain⟨more,em,hl,rk⟩:=Zf rp hk (accV:=[]) .nil;refine⟨hv,more,em,by omega,?_⟩;obtain⟨R3,e3⟩:=R2.put (o':=.dX kvs) (u:=.dK (V7 [] more)) hg rfl vD rk;exact q eY _ _ (e1.trans (e2.trans e3)) R3 (.ref vD)
end
theorem XO{l:List D}(ht:TupAt K H0 a vs)(rs:c8 K gp H0 l vs):Z4 K gp H0 (.fix l) (FF K a):=by
 intro ρ g H e R i;have vz:=ht.ext e;have Gk:=rs.ext e;refine⟨λh=>⟨vs,vz.sq,?_⟩,λd h=>?_⟩
 ·simp only[IK.at] at h;have:=dj.mp (aO h);rw[<- Gk.length];exact this
 ·simp only[IK.at] at h;obtain⟨v,hv,rv⟩:=Gk.get (aO h);refine⟨⟨vs,v,vz.sq,hv⟩,λw H' y=>?_⟩;obtain⟨rfl,y⟩:=y;have:=y vs vz.sq;rw[hv] at this;cases this;exact⟨.refl _ _,R,rv⟩
theorem XM(ha:gp[j]?=some a):Z4 K gp H0 (.lst j) (FH K a):=by
 intro ρ g H e R i;have mr:=e.get ha;refine⟨λh=>?_,λd h=>?_⟩
 ·simp only[IK.at] at h;cases el:d0 g j with
  |none=>rw[el] at h;cases h
  |some l =>
   rw[el] at h;obtain⟨vs,hq,rs⟩:=R.items el mr;refine⟨vs,hq,?_⟩;have:=dj.mp (aO h);rw[<- rs.length];exact this
 ·simp only[IK.at] at h;cases el:d0 g j with
  |none=>rw[el] at h;cases h
  |some l =>
   rw[el] at h;obtain⟨vs,hq,rs⟩:=R.items el mr;obtain⟨v,hv,rv⟩:=rs.get (aO h);refine⟨⟨vs,v,hq,hv⟩,λw H' y=>?_⟩;obtain⟨rfl,y⟩:=y;have:=y vs hq;rw[hv] at this;cases this;exact⟨.refl _ _,R,rv⟩
theorem II{lo:Int}{n:Nat}:Z4 K gp H0 (.fix (i6 lo n)) (xR lo n):=by
 unfold i6;intro ρ g H e R i;refine⟨λh=>?_,λd h=>?_⟩
 ·simp only[IK.at] at h;have:=dj.mp (aO h);show n<=i;simpa using this
 ·simp only[IK.at] at h;have h:=aO h;have hi:i<n:=by
   have:=(aj.mp h).1;simpa using this
  rw[ak,bO hi] at h;cases h;refine⟨hi,λw H' y=>?_⟩;obtain⟨rfl,rfl⟩:=y;exact⟨.refl _ _,R,.int _⟩
theorem XN{n:Nat}(ha:gp[j]?=some a):Z4 K gp H0 (.sX j n) (FE K a n):=by
 intro ρ g H e R i;have mr:=e.get ha;refine⟨λh=>?_,λd h=>?_⟩
 ·simp only[IK.at] at h;cases el:d0 g j with
  |none=>rw[el] at h;cases h
  |some l =>
   rw[el] at h;dsimp only at h;by_cases hl:l.length=n
   ·rw[aJ hl] at h;have h:=aO h;by_cases hi:i<n
    ·rw[aJ hi] at h;have:=dj.mp h;omega
    ·exact lR hi
   ·rw[aF hl] at h;cases h
 ·simp only[IK.at] at h;cases el:d0 g j with
  |none=>rw[el] at h;cases h
  |some l =>
   rw[el] at h;dsimp only at h;by_cases hl:l.length=n
   ·rw[aJ hl] at h;have h:=aO h;by_cases hi:i<n
    ·rw[aJ hi] at h;obtain⟨vs,hq,rs⟩:=R.items el mr;obtain⟨v,hv,rv⟩:=rs.get h;refine⟨⟨vs,v,hq,by rw[<- rs.length];exact hl,hi,hv⟩,λw H' y=>?_⟩;obtain⟨rfl,y⟩:=y;have:=y vs hq;rw[hv] at this;cases this;exact⟨.refl _ _,R,rv⟩
    ·rw[aF hi] at h;cases h
   ·rw[aF hl] at h;cases h
theorem XJ(ha:gp[j]?=some a):Z4 K gp H0 (.oU j) (FI K a):=by
 intro ρ g H e R i;have mr:=e.get ha;refine⟨λh=>?_,λd h=>?_⟩
 ·simp only[IK.at] at h;cases el:d0 g j with
  |none=>rw[el] at h;cases h
  |some l =>
   rw[el] at h;obtain⟨vs,hq,rs⟩:=R.items el mr;refine⟨vs,hq,?_⟩;have h:=aO h;rw[Option.map_eq_none_iff] at h;have:=dj.mp h;rw[<- rs.length];exact this
 ·simp only[IK.at] at h;cases el:d0 g j with
  |none=>rw[el] at h;cases h
  |some l =>
   rw[el] at h;obtain⟨vs,hq,rs⟩:=R.items el mr;have h:=aO h;rw[aa] at h;obtain⟨d',hd,rfl⟩:=h;obtain⟨v,hv,rv⟩:=rs.get hd;refine⟨⟨vs,v,hq,hv⟩,λw H' y=>?_⟩;obtain⟨p,x,hp,rfl,y,rfl⟩:=y;have:=y vs hq;rw[hv] at this;cases this;exact⟨C7 hp,R.grow hp,.tup (.inl v7) (.cons (.int _) (.cons (rv.ext (C7 hp)) .nil))⟩
end M
namespace L2
open PySem PySem.Spec PyProof.Rows
theorem Rn{X:Cx}{tg l:Expr}{tl:TE}(hl:PE X l tl):PI X tg l (λZ H R=>tl Z H λx H1=>(∃a,x=.ref a/\(∃xs,fM X.K H1 a xs)/\R (FH X.K a) H1)\/(∃a,x=.ref a/\(∃xs,jB X.K H1 a xs)/\R (FF X.K a) H1)):=by
 intro pins s Z H R I h;refine cI (hl pins s Z H _ I h) λv s1 bq=>?_;obtain⟨x,H1,I1,r1,q1⟩:=bq;rcases q1 with⟨a,e,⟨xs,hq⟩,q⟩|⟨a,e,⟨xs,hq⟩,q⟩
 ·subst e;cases r1;obtain⟨bf,rv,p,hz⟩:=I1.list hq;refine iT p.isList ?_;refine⟨s1.heap.objs.size,[s1.heap.objs.size],_,_,H1,rfl,I1.kept (t':=s1.toks) λb o e=>aw _ e,aX5 a _,⟨_,aG _ rfl,rfl,rfl⟩,λb hb=>?_,q⟩;have e:b=s1.heap.objs.size:=by simpa using hb
  subst e;exact I1.qf (ay _) (I1.bR.fresh (ay _))
 ·subst e;cases r1;obtain⟨bf,rv,p,hz⟩:=I1.tuple hq;refine wpAny_pyIter_tuple (show s1.heap.IsTuple a bf.toArray from p) ?_;refine⟨s1.heap.objs.size,[s1.heap.objs.size],_,_,H1,rfl,I1.kept (t':=s1.toks) λb o e=>aw _ e,aQ9 a _,⟨_,aG _ rfl,rfl,rfl⟩,λb hb=>?_,q⟩;have e:b=s1.heap.objs.size:=by simpa using hb
  subst e;exact I1.qf (ay _) (I1.bR.fresh (ay _))
end L2
namespace M
open PySem L2 PySem.Spec PyProof.Rows
variable{X:Cx}{tg:Expr}{pos p tp:Pos}{i:Nat}{x:Str}{t:MT}{mi:ME}
section
variable{Ξ:ij}{P:fk}(hP:j4 P){a b:Expr}{ma mb:ME}
include hP
theorem RO(ha:PE X a (LE X.K Ξ (aW P ma))):PI X tg a (LI X.K Ξ (gS P (.fe ma))) :=
 (Rn ha).imp λbZ H R bq=>by
  obtain⟨Z,g,ρ,s,Rr,h⟩:=bq;refine fh hP s Rr (.refl _ _) h λx g1 bV H1 v1 e1 R1 r1 h=>?_;rcases h with⟨l,rfl,h⟩|⟨i,l,rfl,hl,h⟩
  ·obtain⟨a',vs,rfl,ht,rs⟩:=r1.V0;exact .inr ⟨_,rfl,⟨_,ht.sq⟩,h bV H1 _ e1 R1 (XO ht rs)⟩
  ·obtain⟨a',rfl,mr⟩:=r1.j7;obtain⟨vs,hq,rs⟩:=R1.items hl mr;exact .inl ⟨_,rfl,⟨_,hq⟩,h bV H1 _ e1 R1 (XM mr)⟩
theorem Ut{elts:List Expr}{x1:Nat}(ha:PE X a (LE X.K Ξ (aW P ma)))(hg:Gl X "enumerate")(hm:X.mg "enumerate"=none)(hs:starEach [a] X.env=[(false,eval a X.env)]):PI X (.Tuple elts x1 tp) (.Call (.Name "enumerate" p) [a] [] pos) (LI X.K Ξ (gS P (.kG ma))) :=
 (TL hg hm (C8 hP ha (L7 hP) (by rw[hs];rfl)) hs).imp λbZ H R bq=>by
  obtain⟨Z,g,ρ,s,Rr,h⟩:=bq;refine kr hP (m:=.cons ma .nil) s Rr (.refl _ _) (Q0:=λxs g1=>∃a l,xs=[.ref a]/\d0 g1 a=some l/\∀bL H' J,Ext ρ H bL H'->Rl X.K bL g1 H'->Z4 X.K bL H' (.oU a) J->R J H') ?_ λxs g1 bV H1 vs e1 R1 r1 h=>?_
  ·skip
   exact c6 hP ma _ _ _ _ _ _ (λx g1 ⟨i,l,e,hl,h⟩=>⟨i,l,by rw[e],hl,h⟩) (λ_ _ z=>z) h
  ·obtain⟨j,l,rfl,hl,h⟩:=h;obtain⟨v,rfl,rv⟩:=r1.one;obtain⟨a',rfl,ra⟩:=rv.j7;obtain⟨vs,hq,rs⟩:=R1.items hl ra;exact⟨_,rfl,⟨_,hq⟩,h bV H1 _ e1 R1 (XJ ra)⟩
theorem RN(ha:PE X a (LE X.K Ξ (aW P ma)))(hg:Gl X "reversed")(hm:X.mg "reversed"=none)(hs:starEach [a] X.env=[(false,eval a X.env)]):PI X tg (.Call (.Name "reversed" p) [a] [] pos) (LI X.K Ξ (gS P (.nX ma))) :=
 (Rm hg hm (C8 hP ha (L7 hP) (by rw[hs];rfl)) hs).imp λbZ H R bq=>by
  obtain⟨Z,g,ρ,s,Rr,h⟩:=bq;refine kr hP (m:=.cons ma .nil) s Rr (.refl _ _) (Q0:=λxs g1=>∃a l,xs=[.ref a]/\d0 g1 a=some l/\∀bL H' J,Ext ρ H bL H'->Rl X.K bL g1 H'->Z4 X.K bL H' (.sX a l.length) J->R J H') ?_ λxs g1 bV H1 vs e1 R1 r1 h=>?_
  ·skip
   exact c6 hP ma _ _ _ _ _ _ (λx g1 ⟨i,l,e,hl,h⟩=>⟨i,l,by rw[e],hl,h⟩) (λ_ _ z=>z) h
  ·obtain⟨j,l,rfl,hl,h⟩:=h;obtain⟨v,rfl,rv⟩:=r1.one;obtain⟨a',rfl,ra⟩:=rv.j7;obtain⟨vs,hq,rs⟩:=R1.items hl ra;exact⟨_,vs,rfl,hq,h bV H1 _ e1 R1 (by rw[rs.length];exact XN ra)⟩
theorem Uu(ha:PE X a (LE X.K Ξ (aW P ma)))(hg:Gl X "range")(hm:X.mg "range"=none)(hs:starEach [a] X.env=[(false,eval a X.env)]):PI X tg (.Call (.Name "range" p) [a] [] pos) (LI X.K Ξ (gS P (.dW ma))) :=
 (a04 hg hm (C8 hP ha (L7 hP) (by rw[hs];rfl)) hs).imp λbZ H R bq=>by
  obtain⟨Z,g,ρ,s,Rr,h⟩:=bq;refine kr hP (m:=.cons ma .nil) s Rr (.refl _ _) (Q0:=λxs g1=>∃j:Int,xs=[.int j]/\-(2 ^ 62)<=j/\j<2 ^ 62/\∀bL H' J,Ext ρ H bL H'->Rl X.K bL g1 H'->Z4 X.K bL H' (.fix (i6 0 j.toNat)) J->R J H') ?_ λxs g1 bV H1 vs e1 R1 r1 h=>?_
  ·skip
   exact c6 hP ma _ _ _ _ _ _ (λx g1 ⟨j,e,h1,h2,h⟩=>⟨j,by rw[e],h1,h2,h⟩) (λ_ _ z=>z) h
  ·obtain⟨j,rfl,h1,h2,h⟩:=h;obtain⟨v,rfl,rv⟩:=r1.one;obtain rfl:=rv.k6;exact⟨_,rfl,h1,h2,h bV H1 _ e1 R1 II⟩
theorem Uv(ha:PE X a (LE X.K Ξ (aW P ma)))(hb:PE X b (LE X.K Ξ (aW P mb)))(hg:Gl X "range")(hm:X.mg "range"=none)(hs:starEach [a,b] X.env=[(false,eval a X.env),(false,eval b X.env)])(iR:starEach [b] X.env=[(false,eval b X.env)]) :
  PI X tg (.Call (.Name "range" p) [a,b] [] pos) (LI X.K Ξ (gS P (.kF ma mb))) :=
 (a03 hg hm (C8 hP ha (C8 hP hb (L7 hP) (by rw[iR];rfl)) (by rw[hs,iR])) hs iR).imp λbZ H R bq=>by
  obtain⟨Z,g,ρ,s,Rr,h⟩:=bq;refine kr hP (m:=.cons ma (.cons mb .nil)) s Rr (.refl _ _) (Q0:=λxs g1=>∃i j:Int,xs=[.int i,.int j]/\(-(2 ^ 62)<=i/\i<2 ^ 62/\-(2 ^ 62)<=j/\j<2 ^ 62)/\∀bL H' J,Ext ρ H bL H'->Rl X.K bL g1 H'->Z4 X.K bL H' (.fix (i6 i (j-i).toNat)) J->R J H') ?_ λxs g1 bV H1 vs e1 R1 r1 h=>?_
  ·skip
   exact c6 hP ma _ _ _ _ _ _ (λx g1 h=>c6 hP mb _ _ _ _ _ _ (λy g2 ⟨i,j,e,e',h1,h⟩=>⟨i,j,by rw[e,e'],h1,h⟩) (λ_ _ z=>z) h) (λ_ _ z=>z) h
  ·obtain⟨i,j,rfl,h1,h⟩:=h;obtain⟨v,w,rfl,rv,gw⟩:=r1.two;obtain rfl:=rv.k6;obtain rfl:=gw.k6;exact⟨_,_,rfl,h1,h bV H1 _ e1 R1 II⟩
end
theorem RL(hN:X.N.Nodup)(hi:X.N[i]?=some x)(hx:Loc X.env.scope x)(hf:X.fn x=true\/X.env.scope.names.lookup x=some .local):PG X (.Name x pos) (LG X.K (.one i)) :=
 (Lh hN hi hx hf).imp λv bZ H Q hq=>by
  obtain⟨d,Z,g,ρ,s,R,r,h⟩:=hq;exact h _ (s.set i r)
inductive fZ(X:Cx):List Expr->List Nat->Prop
 |nil:fZ X [] []
 |cons {x:Str} {p:Pos} {i:Nat} {es:List Expr} {is:List Nat} (hi:X.N[i]?=some x) (hx:Loc X.env.scope x) (hf:X.fn x=true\/X.env.scope.names.lookup x=some .local) (r:fZ X es is):fZ X (.Name x p::es) (i::is)
def Fd:List Nat->qj
 |[]=>Jf
 |i::is=>IF (uf i) (Fd is)
theorem a05(hN:X.N.Nodup){es:List Expr}{is:List Nat}(h:fZ X es is):xO X es (Fd is):=by
 induction h with
 |nil=>exact Li
 |cons hi hx hf r ih=>exact DO (Lh hN hi hx hf) ih rfl
theorem El:∀{es:List Expr} {is:List Nat},fZ X es is->(assignEach es X.env).length=is.length/\(assignEach es X.env).findIdx? (·.1)=none
 |_,_,.nil=>⟨rfl,rfl⟩
 |_,_,.cons (x:=x) (p:=p) (es:=es) hi hx hf r=>by
  obtain⟨h1,h2⟩:=El r;have e:assignEach (.Name x p::es) X.env=(false,assign (.Name x p) X.env)::assignEach es X.env:=rfl;rw[e];refine⟨by simp[h1],?_⟩;rw[List.findIdx?_cons,h2]
  rfl
theorem Jm{K:PySem.W.Frag}{ρ:List Addr}{H:Hp}{k:S->Prop}{Q:L2.St->Hp->Prop}:∀{is:List Nat} {l:List D} {vs:List V} {Z bY:S} {bZ:L2.St},G0 is l Z=some bY->c8 K ρ H l vs->o8 K ρ H Z bZ->(∀du,o8 K ρ H bY du->Q du H)->Fd is vs bZ H Q
 |[],_,_,_,_,_,h,.nil,s,q=>by
  simp only[G0] at h;cases h;exact⟨rfl,q _ s⟩
 |[],_,_,_,_,_,h,.cons _ _,s,q=>by simp only[G0] at h;cases h
 |i::is,_,_,_,_,_,h,.nil,s,q=>by simp only[G0] at h;cases h
 |i::is,_,_,_,_,_,h,.cons r rr,s,q=>by
  simp only[G0] at h;exact⟨_,_,rfl,Jm (k:=k) h rr (s.set i r) q⟩
theorem JU:∀{is:List Nat} {l:List D} {Z bY:S},G0 is l Z=some bY->l.length=is.length
 |[],[],_,_,_=>rfl
 |[],_::_,_,_,h=>by simp only[G0] at h;cases h
 |_::_,[],_,_,h=>by simp only[G0] at h;cases h
 |_::is,_::l,_,_,h=>by simp only[G0] at h;simp[JU h]
theorem Lu{es:List Expr}{is:List Nat}{k:Nat}(hc:X.calm=true)(hN:X.N.Nodup)(hs:fZ X es is):PG X (.Tuple es k pos) (LG X.K (.many is)) :=
 (MI hc (a05 hN hs) (El hs).1 (El hs).2).imp λv bZ H Q bq=>by
  obtain⟨d,Z,g,ρ,s,R,r,h⟩:=bq;obtain⟨l,bY,rfl,e,h⟩:=h;obtain⟨a',vs,rfl,ht,rs⟩:=r.V0;exact⟨_,_,rfl,ht.sq,by rw[<- rs.length];exact JU e,Jm (k:=λ_=>True) e rs s h⟩
theorem LN.ext{K ρ H N bV H1}(e:Ext ρ H bV H1):(LN K ρ H N).le (LN K bV H1 N) :=
 ⟨λZ g h bL H' du e' R s=>h bL H' du (e.trans e') R s,λd g h=>h.ext e,λZ g h bL H' du e' R s=>h bL H' du (e.trans e') R s,λZ g h bL H' du e' R s=>h bL H' du (e.trans e') R s⟩
section
variable{Ξ:ij}{P:fk}(hP:j4 P){a b c:Expr}{ma mb mc:ME}{st:Stmt}{rest:List Stmt}{AM nt:MS}
include hP
theorem Kx:ju X [] (LS X.K Ξ (wpS P .pass)) :=
 (TY (X:=X)).imp λN bZ H ⟨Z,g,ρ,s,R,h⟩=>h ρ H bZ (.refl _ _) R s
theorem Lv(h1:PS X st (LS X.K Ξ (wpS P AM)))(h2:ju X rest (LS X.K Ξ (wpS P nt))):ju X (st::rest) (LS X.K Ξ (wpS P (.seq AM nt))) :=
 (Vy h1 h2).imp λN bZ H ⟨Z,g,ρ,s,R,h⟩ =>
  sT hP s R (.refl _ _) (show wpS P AM { LN X.K ρ H N with nx:=λiU g1=>wpS P nt (LN X.K ρ H N) iU g1 (LX X.K ρ H Ξ) } Z g (LX X.K ρ H Ξ) from h) ⟨λiU g1 h bV H1 Nd e1 R1 s1=>sT hP s1 R1 e1 h (LN.ext e1),λ_ _ z=>z,λ_ _ z=>z,λ_ _ z=>z⟩
theorem UB(ha:PE X a (LE X.K Ξ (aW P ma)))(hs:swapsWith a none pos.line X.env=pure false):PS X (.Expr a pos) (LS X.K Ξ (wpS P (.expr ma))) :=
 (TR ha hs).imp λN bZ H ⟨Z,g,ρ,s,R,h⟩=>fh hP s R (.refl _ _) h λx g1 bV H1 v1 e1 R1 r1 h=>h bV H1 bZ e1 R1 (s.ext e1)
theorem KA(h0:PS X (.Assign [.Name x p] a pos) (xG (LE X.K Ξ (aW P ma)) (uf i))):PS X (.Assign [.Name x p] a pos) (LS X.K Ξ (wpS P (.set i ma))) :=
 h0.imp λN bZ H ⟨Z,g,ρ,s,R,h⟩=>fh hP s R (.refl _ _) h λx g1 bV H1 v1 e1 R1 r1 h=>h bV H1 _ e1 R1 ((s.ext e1).set i r1)
theorem Si(h0:PS X (.Assign [tg] a pos) (xG (LE X.K Ξ (aW P ma)) (LG X.K t))):PS X (.Assign [tg] a pos) (LS X.K Ξ (wpS P (.lY t ma))) :=
 h0.imp λN bZ H ⟨Z,g,ρ,s,R,h⟩=>fh hP s R (.refl _ _) h λx g1 bV H1 v1 e1 R1 r1 h=>⟨x,Z,g1,bV,s.ext e1,R1,r1,x6 (λbY h du s'=>h bV H1 du e1 R1 s') h⟩
theorem a76(hu:X.A.units+100<cLine){o i:Expr}{mo:ME}(ha:PE X a (LE X.K Ξ (aW P ma)))(ho:PE X o (LE X.K Ξ (aW P mo)))(hi:PE X i (LE X.K Ξ (aW P mi)))(hs:swapsWithSole [.Subscript o i tp] a pos.line X.env=pure false)(mr:∀ v,assign (.Subscript o i tp) X.env v=(do
   let ov <- holding [v] (eval o X.env)
   let iv <- holding [v,ov] (eval i X.env)
   standAt tp
   holding [v,ov,iv] (setItem ov iv v)
   release [v,ov,iv] [])):PS X (.Assign [.Subscript o i tp] a pos) (LS X.K Ξ (wpS P (.eP mo mi ma))) :=
 (Fm ha (Fl ho hi (Fo hu) mr) hs).imp λN bZ H ⟨Z,g,ρ,s,R,h⟩ =>
  fh hP s R (.refl _ _) h λx g1 bV H1 v1 e1 R1 r1 h=>fh hP (s.ext e1) R1 e1 h λy g2 eY H2 v2 e2 R2 r2 h=>fh hP (s.ext (e1.trans e2)) R2 (e1.trans e2) h λz g3 jh H3 v3 e3 R3 r3 h =>
   ⟨y,z,x,g3,jh,R3,r2.ext e3,r3,r1.ext (e2.trans e3),M6 (λg4 h pG H4 e4 R4=>h pG H4 bZ (e1.trans (e2.trans (e3.trans e4))) R4 (s.ext (e1.trans (e2.trans (e3.trans e4))))) h⟩
omit hP in
def EX(K:PySem.W.Frag)(f:Str)(cs:List Str):Prop:=∀c C,c∈cs->u9 K c C->E3 K C f
omit hP in
theorem Us{f:Str}{cs:List Str}(hF:EX X.K f cs){ρ:List Addr}{H:Hp}{g g':G}{x v:D}{xv vv:V}(R:Rl X.K ρ g H)(rx:d8 X.K ρ H x xv)(rv:d8 X.K ρ H v vv)(h:IV f cs x v g g') :
  ∃a C dx fs,xv=.ref a/\H a=some (.ins C dx fs)/\kj X.K C/\E3 X.K C f/\fs.length<1000/\Rl X.K ρ g' (upd H a (.ins C dx (C2 f vv fs)))/\Ext ρ H ρ (upd H a (.ins C dx (C2 f vv fs))):=by
 obtain⟨i,c,fs,rfl,hi,hc,hz,rfl⟩:=h;obtain⟨a',rfl,ra⟩:=rx.j7;obtain⟨C,dx,vs,hH,hC,jX,rk,na⟩:=R.ins hi ra;obtain⟨R',e'⟩:=R.put (o':=.ins c (m5 f v fs)) (u:=.ins C dx (C2 f vv vs)) hi rfl ra ⟨hC,jX,rk.C2 rv,JT (p:=λy=>E3 X.K C y) (hF c C hc hC) na⟩;exact⟨a',C,dx,vs,rfl,hH,jX,hF c C hc hC,by rw[<- rk.length];omega,R',e'⟩
theorem UC{f:Str}{cs:List Str}{o:Expr}{mo:ME}(hF:EX X.K f cs)(ho:PE X o (LE X.K Ξ (aW P mo)))(ha:PE X a (LE X.K Ξ (aW P ma)))(hs:swapsWith a (some (.Attribute o f tp)) pos.line X.env=pure false):PS X (.Assign [.Attribute o f tp] a pos) (LS X.K Ξ (wpS P (.iP f cs mo ma))) :=
 (Rp ho ha hs).imp λN bZ H ⟨Z,g,ρ,s,R,h⟩=>fh hP s R (.refl _ _) h λx g1 bV H1 v1 e1 R1 r1 h=>fh hP (s.ext e1) R1 e1 h λy g2 eY H2 v2 e2 R2 r2 h=>by
  obtain⟨g3,h,q⟩:=h;obtain⟨a',C,dx,fs,hx,hH,jX,na,hz,R3,e3⟩:=Us hF R2 r2 (r1.ext e2) h;exact⟨a',C,dx,fs,hx,hH,jX,na,hz,q eY _ bZ (e1.trans (e2.trans e3)) R3 (s.ext (e1.trans (e2.trans e3)))⟩
theorem Sf(hc:X.calm=true)(hu:X.A.units+100<cLine){o1 i1 o2 i2:Expr}{m1 n1 m2 n2:ME}{p1 p2 pt:Pos}{kt:Nat}(pQ:PE X o1 (LE X.K Ξ (aW P m1)))(tD:PE X i1 (LE X.K Ξ (aW P n1)))(oN:PE X o2 (LE X.K Ξ (aW P m2)))(pS:PE X i2 (LE X.K Ξ (aW P n2)))(ha:PE X a (LE X.K Ξ (aW P ma)))(a1:∀ v,assign (.Subscript o1 i1 p1) X.env v=(do
   let ov <- holding [v] (eval o1 X.env)
   let iv <- holding [v,ov] (eval i1 X.env)
   standAt p1
   holding [v,ov,iv] (setItem ov iv v)
   release [v,ov,iv] []))(a2:∀ v,assign (.Subscript o2 i2 p2) X.env v=(do
   let ov <- holding [v] (eval o2 X.env)
   let iv <- holding [v,ov] (eval i2 X.env)
   standAt p2
   holding [v,ov,iv] (setItem ov iv v)
   release [v,ov,iv] []))(hs:swapsWithSole [.Tuple [.Subscript o1 i1 p1,.Subscript o2 i2 p2] kt pt] a pos.line X.env=pure false)(hw:swappedStores [.Tuple [.Subscript o1 i1 p1,.Subscript o2 i2 p2] kt pt] a X.env=pure none) :
  PS X (.Assign [.Tuple [.Subscript o1 i1 p1,.Subscript o2 i2 p2] kt pt] a pos) (LS X.K Ξ (wpS P (.qv m1 n1 m2 n2 ma))):=by
 refine(Fm ha (MI (n:=2) hc (DO (Fl pQ tD (Fo hu) a1) (DO (Fl oN pS (Fo hu) a2) Li))) hs hw).imp λN bZ H bq=>?_;obtain⟨Z,g,ρ,s,R,h⟩:=bq;refine fh hP s R (.refl _ _) h λx g1 bV H1 v1 e1 R1 r1 h=>?_;obtain⟨u,v,rfl,h⟩:=h;obtain⟨b,vs,rfl,ht,rs⟩:=r1.V0;obtain⟨w1,w2,rfl,q1,q2⟩:=rs.two;refine⟨b,[w1,w2],rfl,ht.sq,rfl,w1,[w2],rfl,?_⟩;refine fh hP (s.ext e1) R1 e1 h λy1 g2 eY H2 v2 e2 R2 r2 h=>?_;refine fh hP (s.ext (e1.trans e2)) R2 (e1.trans e2) h λz1 g3 jh H3 v3 e3 R3 r3 h=>?_;refine⟨y1,z1,u,g3,jh,R3,r2.ext e3,r3,q1.ext (e2.trans e3),?_⟩;refine M6 (λg4 h pG H4 e4 R4=>?_) h;refine⟨w2,[],rfl,?_⟩;have qb:=(e1.trans e2).trans (e3.trans e4);refine fh hP (s.ext qb) R4 qb h λy2 g5 ρ5 H5 v5 e5 R5 r5 h=>?_;refine fh hP (s.ext (qb.trans e5)) R5 (qb.trans e5) h λz2 g6 Ng H6 v6 e6 R6 r6 h=>?_;refine⟨y2,z2,v,g6,Ng,R6,r5.ext e6,r6,q2.ext ((e2.trans (e3.trans e4)).trans (e5.trans e6)),?_⟩;refine M6 (λg7 h Nf H7 e7 R7=>?_) h;exact⟨rfl,h Nf H7 bZ (qb.trans (e5.trans (e6.trans e7))) R7 (s.ext (qb.trans (e5.trans (e6.trans e7))))⟩
theorem UA{op:Operator}{p:Pr}(Ou:(op=.Add/\p=.iadd)\/(op=.Sub/\p=.nu))(hN:X.N.Nodup)(hi:X.N[i]?=some x)(hx:Loc X.env.scope x)(hf:X.fn x=true\/X.env.scope.names.lookup x=some .local)(ha:PE X a (LE X.K Ξ (aW P ma))):PS X (.AugAssign (.Name x tp) op a pos) (LS X.K Ξ (wpS P (.kd i p ma))):=by
 have ho:MK X op (r2 X.K p):=by
  intro pins s Z H x y v u Q I rx ry h;obtain⟨d,e,g,ρ,R,rd,re,d',g',hr,q⟩:=h;rcases Ou with⟨rfl,rfl⟩|⟨rfl,rfl⟩
  ·rcases hr with⟨i,j,ex,rfl,rfl⟩|⟨l,m,ex,hz,rfl,rfl⟩
   ·obtain⟨rfl,rfl⟩:=E7 ex;obtain rfl:=rd.k6;obtain rfl:=re.k6;exact SW pins s Z H _ _ v u Q I rx ry ⟨i,j,rfl,rfl,q.now R (.int _)⟩
   ·obtain⟨rfl,rfl⟩:=E7 ex;obtain⟨p1,Nl,rfl,t1,yf⟩:=rd.V0;obtain⟨p2,Ar,rfl,t2,sY⟩:=re.V0;refine SV pins s Z H _ _ v u Q I rx ry (.inr ⟨p1,p2,Nl,Ar,rfl,rfl,t1.sq,t2.sq,by rw[<- yf.length,<- sY.length];exact u3 hz,λz=>?_,λz=>?_,λp hp=>q.tup R hp (yf.append sY)⟩)
    ·subst z;cases yf;exact q.now R (.tup t2 sY)
    ·subst z;cases sY;rw[fc] at q;exact q.now R (.tup t1 yf)
  ·obtain⟨i,j,ex,rfl,rfl⟩:=hr;obtain⟨rfl,rfl⟩:=E7 ex;obtain rfl:=rd.k6;obtain rfl:=re.k6;exact SX pins s Z H _ _ v u Q I rx ry ⟨i,j,rfl,rfl,q.now R (.int _)⟩
 refine(Ro hN hi hx ha ho hf).imp λN bZ H bq=>?_;obtain⟨Z,g,ρ,s,R,h⟩:=bq;obtain⟨xd,Oi,h⟩:=h;obtain⟨xv,hv,rx⟩:=s.val _ _ Oi;refine⟨xv,hv,fh hP s R (.refl _ _) h λz g1 bV H1 v1 e1 R1 r1 h=>?_⟩;refine⟨xd,z,g1,bV,R1,rx.ext e1,r1,o6 (λw g2 q=>?_) h⟩;exact λeY H2 v2 e2 R2 r2=>q eY H2 _ (e1.trans e2) R2 ((s.ext (e1.trans e2)).set i r2)
theorem YB{sa sb:List Stmt}{GC msb:MS}(hc:PT X c (LT X.K Ξ (dg P mc)))(ha:ju X sa (LS X.K Ξ (wpS P GC)))(hb:ju X sb (LS X.K Ξ (wpS P msb))):PS X (.If c sa sb pos) (LS X.K Ξ (wpS P (.ifs mc GC msb))) :=
 (Yq hc ha hb).imp λN bZ H ⟨Z,g,ρ,s,R,h⟩=>pH hP s R (.refl _ _) h λt g1 bV H1 e1 R1 h=>by
  cases t
  ·exact sT hP (s.ext e1) R1 e1 h (LN.ext e1)
  ·exact sT hP (s.ext e1) R1 e1 h (LN.ext e1)
theorem Kz(ha:PE X a (LE X.K Ξ (aW P ma))):PS X (.Return (some a) pos) (LS X.K Ξ (wpS P (.ret ma))) :=
 (Rt ha).imp λN bZ H ⟨Z,g,ρ,s,R,h⟩=>⟨Z,g,ρ,s,R,h⟩
theorem a75{body:List Stmt}{mb:MS}(hp:PassesOwn (model X.prog X.w) X.A X.env X.xe)(hc:PT X c (LT X.K Ξ (dg P mc)))(hb:ju X body (LS X.K Ξ (wpS P mb))):PS X (.While c body [] pos) (LS X.K Ξ (wpS P (.kq mc mb))) :=
 (Vx hp hc hb).imp λN bZ H bq=>by
  obtain⟨Z,g,ρ,s,R,h⟩:=bq;obtain⟨W,⟨m0,w0⟩,h⟩:=h;refine⟨λm du H'=>∃bY g' bL,Ext ρ H bL H'/\o8 X.K bL H' bY du/\Rl X.K bL g' H'/\W m bY g',⟨m0,Z,g,ρ,.refl _ _,s,R,w0⟩,?_⟩;rintro m du H' ⟨bY,g',bL,e1,s',R',w'⟩;refine pH hP s' R' e1 (h m bY g' w') λt g1 bV H1 e2 R1 q=>?_;cases t
  ·exact q bV H1 du (e1.trans e2) R1 (s'.ext e2)
  ·obtain⟨N2,BR,q⟩:=q;refine⟨λko H2=>∃cA g2 eY,Ext ρ H eY H2/\o8 X.K eY H2 cA ko/\Rl X.K eY g2 H2/\N2 cA g2,?_,?_⟩
   ·rintro ko H2 ⟨cA,g2,eY,e3,s2,R2,n2⟩;obtain⟨m',hm,w2⟩:=BR cA g2 n2;exact⟨m',hm,cA,g2,eY,e3,s2,R2,w2⟩
   ·refine sT hP (s'.ext e2) R1 (e1.trans e2) q ⟨?_,?_,?_,?_⟩
    ·exact λiK g3 n3 jh H3 lh e3 R3 s3=>⟨iK,g3,jh,(e1.trans e2).trans e3,s3,R3,n3⟩
    ·exact λd g3 h=>h.ext (e1.trans e2)
    ·exact λiK g3 h jh H3 lh e3 R3 s3=>h jh H3 lh ((e1.trans e2).trans e3) R3 s3
    ·exact λiK g3 n3 jh H3 lh e3 R3 s3=>⟨iK,g3,jh,(e1.trans e2).trans e3,s3,R3,n3⟩
theorem Se{iter:Expr}{body:List Stmt}{mb:MS}(hp:PassesOwn (model X.prog X.w) X.A X.env X.xe)(hc:X.calm=true)(hi:PI X tg iter (LI X.K Ξ (gS P mi)))(hg:PG X tg (LG X.K t))(hb:ju X body (LS X.K Ξ (wpS P mb)))(hs:∀x,foldedSetIterable iter X.env x=pure x):PS X (.For tg iter body [] pos) (LS X.K Ξ (wpS P (.dw t mi mb))) :=
 (Rq hp hc hi hg hb hs).imp λN bZ H bq=>by
  obtain⟨Z,g,ρ,s,R,h⟩:=bq;refine⟨Z,g,ρ,s,R,B5 hP mi _ _ _ _ _ _ (λk g1 h bV H1 J e1 R1 j1=>?_) (λ_ _ z=>z) h⟩;obtain⟨W,⟨m0,w0⟩,h⟩:=h;refine⟨λi m du H'=>∃bY g' bL,Ext bV H1 bL H'/\o8 X.K bL H' bY du/\Rl X.K bL g' H'/\W i m bY g',⟨m0,Z,g1,bV,.refl _ _,s.ext e1,R1,w0⟩,?_⟩;rintro i m du H' ⟨bY,g',bL,e',s',R',w'⟩;obtain⟨vq,vp⟩:=j1 bL g' H' e' R' i;rcases h i m bY g' w' with⟨ek,q⟩|⟨x,ek,N2,BR,q⟩
  ·exact .inl ⟨vq ek,q bL H' du (e1.trans e') R' s'⟩
  ·obtain⟨go,yl⟩:=vp x ek;refine .inr ⟨go,λko H2=>∃cA g2 eY,Ext bV H1 eY H2/\o8 X.K eY H2 cA ko/\Rl X.K eY g2 H2/\N2 cA g2,?_,?_⟩
   ·rintro ko H2 ⟨cA,g2,eY,e2,s2,R2,n2⟩;obtain⟨m',hm,w2⟩:=BR cA g2 n2;exact⟨m',hm,cA,g2,eY,e2,s2,R2,w2⟩
   ·intro v H2 y;obtain⟨e2,R2,r2⟩:=yl v H2 y;refine⟨x,bY,g',bL,s'.ext e2,R2,r2,x6 (λcA q ko s2=>?_) q⟩;refine sT hP s2 R2 (e1.trans (e'.trans e2)) q ⟨?_,?_,?_,?_⟩
    ·exact λiK g3 n3 jh H3 lh e3 R3 s3=>⟨iK,g3,jh,(e'.trans e2).trans e3,s3,R3,n3⟩
    ·exact λd g3 h=>h.ext (e1.trans (e'.trans e2))
    ·exact λiK g3 h jh H3 lh e3 R3 s3=>h jh H3 lh (e1.trans ((e'.trans e2).trans e3)) R3 s3
    ·exact λiK g3 n3 jh H3 lh e3 R3 s3=>⟨iK,g3,jh,(e'.trans e2).trans e3,s3,R3,n3⟩
theorem LK{d4:List Nat}{n:Nat}{jk me:ME}:∀bZ H Q,LE X.K Ξ (aW P (.comp d4 n t mi jk me)) bZ H Q->EM (LI X.K Ξ (gS P mi)) d4 n (LG X.K t) (LT X.K (oo Ξ.1) (dg P jk)) (LE X.K (oo Ξ.1) (aW P me)) bZ H Q:=λbZ H Q bq=>by
 obtain⟨Z,g,ρ,s,R,h⟩:=bq;refine⟨Z,g,ρ,s,R,B5 hP mi _ _ _ _ _ _ (λk g1 h bV H1 J e1 R1 j1=>?_) (λ_ _ z=>z) h⟩;obtain⟨W,⟨m0,w0⟩,h⟩:=h;refine⟨λi m FW du H'=>∃ys bY g' bL,Ext bV H1 bL H'/\o8 X.K bL H' bY du/\Rl X.K bL g' H'/\c8 X.K bL H' ys FW/\W i m ys bY g',⟨m0,[],_,g1,bV,.refl _ _,(s.ext e1).d4 d4 n,R1,.nil,w0⟩,?_⟩;rintro i m FW du H' ⟨ys,bY,g',bL,e',s',R',ry,w'⟩;obtain⟨vq,vp⟩:=j1 bL g' H' e' R' i;rcases h i m ys bY g' w' with⟨ek,q⟩|⟨x,ek,hz,q⟩
 ·exact .inl ⟨vq ek,λp hp=>(q.ext (e1.trans e')).new R' hp ry⟩
 ·obtain⟨go,yl⟩:=vp x ek;refine .inr ⟨go,by rw[<- ry.length];exact Dt hz,λv H2 y=>?_⟩;obtain⟨e2,R2,r2⟩:=yl v H2 y;refine⟨x,bY,g',bL,s'.ext e2,R2,r2,x6 (λcA q ko s2=>?_) q⟩;refine⟨cA,g',bL,s2,R2,q8 hP jk _ _ _ _ _ _ (λb g3 q jh H3 e3 R3=>?_) (λ_ _ z=>z.elim) q⟩;cases b
  ·obtain⟨m',hm,w3⟩:=q;exact⟨m',hm,ys,cA,g3,jh,(e'.trans e2).trans e3,s2.ext e3,R3,(ry.ext e2).ext e3,by simpa using w3⟩
  ·refine⟨cA,g3,jh,s2.ext e3,R3,c6 hP me _ _ _ _ _ _ (λz g4 q pG H4 v4 e4 R4 r4=>?_) (λ_ _ z=>z.elim) q⟩;obtain⟨m',hm,w4⟩:=q;exact⟨m',hm,ys++[z],cA,g4,pG,(e'.trans e2).trans (e3.trans e4),(s2.ext e3).ext e4,R4,(((ry.ext e2).ext e3).ext e4).append (.cons r4 .nil),by simpa using w4⟩
theorem a84{elt iter:Expr}{ifs:List Expr}{scope:Scope}{N':List Str}{d4:List Nat}{cl:List (Str×Addr)}{p2 jU:Pos}{jk me:ME}(S:dD X scope N' d4 cl)(hc:X.calm=true)(hi:PI X tg iter (LI X.K Ξ (gS P mi)))(hg:∀pins C s H fp,PG (d7 X pins scope N' cl C s H fp) tg (LG X.K t))(ht:∀pins C s H fp,lQ (d7 X pins scope N' cl C s H fp) ifs (LT X.K (oo Ξ.1) (dg P jk)))(he:∀pins C s H fp,PE (d7 X pins scope N' cl C s H fp) elt (LE X.K (oo Ξ.1) (aW P me)))(hs:∀x,foldedSetIterable iter X.env x=pure x)(nB:Gl X "sorted")(nz:X.mg "sorted"=none):PE X (.Call (.Name "sorted" p2) [.SetComp elt [⟨tg,iter,ifs,0⟩] scope pos] [] jU) (LE X.K Ξ (aW P (.ia d4 N'.length t mi jk me))) :=
 (zD (X8 hc) nB nz (by first|exact hZ|decide +kernel) (U5 (Vs S hc hi hg ht he hs) Z9)).imp λbZ H Q bq=>by
  obtain⟨Z,g,ρ,s,R,h⟩:=bq;refine⟨Z,g,ρ,s,R,B5 hP mi _ _ _ _ _ _ (λk g1 h bV H1 J e1 R1 j1=>?_) (λ_ _ z=>z) h⟩;obtain⟨W,⟨m0,w0⟩,h⟩:=h;refine⟨λi m ys du H'=>∃bY g' bL,Ext bV H1 bL H'/\o8 X.K bL H' bY du/\Rl X.K bL g' H'/\W i m ys bY g',⟨m0,_,g1,bV,.refl _ _,(s.ext e1).d4 d4 _,R1,w0⟩,?_⟩;rintro i m ys du H' ⟨bY,g',bL,e',s',R',w'⟩;obtain⟨vq,vp⟩:=j1 bL g' H' e' R' i;rcases h i m ys bY g' w' with⟨ek,hz,q⟩|⟨x,ek,hz,q⟩
  ·exact .inl ⟨vq ek,λp hp=>⟨p,ys,rfl,v7,by omega,λp' jW=>(q.ext ((e1.trans e').trans (C7 hp))).new (R'.grow hp) jW (c8.ofInts _)⟩⟩
  ·obtain⟨go,yl⟩:=vp x ek;refine .inr ⟨go,hz,λv H2 y=>?_⟩;obtain⟨e2,R2,r2⟩:=yl v H2 y;refine⟨x,bY,g',bL,s'.ext e2,R2,r2,x6 (λcA q ko s2=>?_) q⟩;refine⟨cA,g',bL,s2,R2,q8 hP jk _ _ _ _ _ _ (λb g3 q jh H3 e3 R3=>?_) (λ_ _ z=>z.elim) q⟩;cases b
   ·obtain⟨m',hm,w3⟩:=q;exact⟨m',hm,cA,g3,jh,(e'.trans e2).trans e3,s2.ext e3,R3,by simpa using w3⟩
   ·refine⟨cA,g3,jh,s2.ext e3,R3,c6 hP me _ _ _ _ _ _ (λz g4 q pG H4 v4 e4 R4 r4=>?_) (λ_ _ z=>z.elim) q⟩;obtain⟨j,rfl,m',hm,w4⟩:=q;obtain rfl:=r4.k6;exact⟨j,rfl,m',hm,cA,g4,pG,(e'.trans e2).trans (e3.trans e4),(s2.ext e3).ext e4,R4,by simpa using w4⟩
end
end M
namespace M
open PySem L2
section
variable{P:fk}(hP:j4 P)
include hP
end
end M
namespace M
open PySem L2 PySem.Spec PyProof.Rows
variable{X:Cx}{Ξ:ij}{P:fk}{x qual:Str}{pos:Pos}{c:i7}{i n k:Nat}{e o b a:Expr}{es args:List Expr}{env:Env}{p:Pr}{f:Addr}{r:CF}{m:ME}{cd:Value}{N:List Str}{scope:Scope}{A:Around}{outer:List Env}{s:Shared}{H:Hp}{E:XK}
section
variable(hP:j4 P)
include hP
theorem a77{C:Addr}{B newId gW:String}{bm:List Value}{np eR:Pos}{ka:Expr}{rest:List Expr}{iz:ME}(hc:X.calm=true)(O:OwnCls x C bm newId X.mg X.base)(FB:ExcBaseFacts B newId gW bm)(hg:Gl X x)(ha:PA X (ka::rest) (LA X.K Ξ (gs P iz)))(hr:yW X Ξ.2)(hx:x∈Ξ.1)(hC:u9 X.K x C)(he:starEach (ka::rest) X.env=(false,eval ka X.env)::starEach rest X.env)(fq:(backTo eR (starEach rest X.env)).any (·.1)=false)(hd:(x==("__debug__":Str))=false):PS X (.Raise (some (.Call (.Name x np) (ka::rest) [] eR)) none pos) (LS X.K Ξ (wpS P (.raise x iz))) :=
 (Vw hc O FB hg ha hr he fq hd).imp λN bZ H bq=>by
  obtain⟨Z,g,ρ,s,R,h⟩:=bq;refine kr hP s R (.refl _ _) h λds g1 bV H1 vs e1 R1 r1 h=>?_;exact⟨by rw[<- r1.length];exact u3 (aB h.1 ∅),h.2 bV H1 C e1 R1 hx hC⟩
def zK(X:Cx)(ex:List Str)(D:L2.Ends)(hs:List ExceptHandler):ij:=(ex,λv _ H=>∃C,v=.ref C/\sy X D C H hs)
inductive mD(X:Cx)(Ξ:ij)(P:fk):List ExceptHandler->List (Str×ME)->Prop
 |nil (hh:xn X Ξ.2):mD X Ξ P [] []
 |cons {y:Str} {C':Addr} {p p1 p2:Pos} {e:Expr} {me:ME} {hs:List ExceptHandler} {ms:List (Str×ME)} (hg:Gl X y) (hd:(y==("__debug__":Str))=false) (hm:X.mg y=some (.ref C'))
   (hx:∀x C,x∈Ξ.1->u9 X.K x C->PySem.W.exmOne X.K (.ref C) (.ref C')=some (decide (x=y\/y="MintError"))) (he:∀ea,PE (H9 X ea) e (LE X.K (oo Ξ.1) (aW P me))) (r:mD X Ξ P hs ms) :
   mD X Ξ P (.ExceptHandler (some (.Name y p)) none [.Return (some e) p1] p2::hs) ((y,me)::ms)
theorem Mh{N:L2.Ends}{ρ bL:List Addr}{H H':Hp}{Z:S}{g:G}{x:Xn}{C:Addr}(hl:Z.length=X.N.length)(e:Ext ρ H bL H')(R:Rl X.K bL g H')(hx:x.cls∈Ξ.1)(hC:u9 X.K x.cls C) :
  ∀{hs:List ExceptHandler} {ms:List (Str×ME)},mD X Ξ P hs ms->nU P (LN X.K ρ H N) (Z.map λ_=>none) (LX X.K ρ H Ξ) ms x g->sy X N C H' hs
 |_,_,.nil hh,q=>⟨Ξ.2,hh,q bL H' C e R hx hC⟩
 |_,_,.cons (me:=me) hg hd hm Oh he r,q=>by
  refine⟨hg,hd,_,_,hm,Oh _ _ hx hC,?_⟩;unfold nU at q;split at q
  ·rename_i ex;rw[aJ (by simpa using ex)];refine⟨LS X.K (oo Ξ.1) (wpS P (.seq (.ret me) .pass)),λea=>Lv (X:=H9 X ea) (Ξ:=oo Ξ.1) hP (Kz (X:=H9 X ea) hP (he ea)) (Kx (X:=H9 X ea) hP),?_⟩;refine⟨Z.map λ_=>none,g,bL,⟨by simp[hl],λi d z=>?_⟩,R,?_⟩
   ·rw[ak] at z;cases e:Z[i]? with
    |none=>rw[e] at z;cases z
    |some y=>rw[e] at z;cases z
   ·skip
    refine c6 hP me _ _ _ _ _ _ (λd g1 h=>?_) (λ_ _ z=>z.elim) q;exact h.ext e
  ·rename_i ex;rw[aF (by simpa using ex)];exact Mh hl e R hx hC r q
theorem Sg{h₀:ExceptHandler}{hs:List ExceptHandler}{ms:List (Str×ME)}{body:List Stmt}{mb:MS}(ei:X.stack=X.env::X.outer)(hf:X.env.frame=some X.env.locals)(hb:∀pins D,ju (W8 X pins (uo X pins D (h₀::hs))) body (LS X.K (zK X Ξ.1 D (h₀::hs)) (wpS P mb)))(hh:mD X Ξ P (h₀::hs) ms):PS X (.Try body (h₀::hs) [] [] pos) (LS X.K Ξ (wpS P (.pq mb ms))):=by
 intro pins s bZ H N I ⟨Z,g,ρ,sr,R,h⟩;refine Ru (t:=λD=>LS X.K (zK X Ξ.1 D (h₀::hs)) (wpS P mb)) (Ξ:=λD=>(zK X Ξ.1 D (h₀::hs)).2) ei hf (λpins D _=>hb pins D) pins s bZ H N I ⟨λC H' ⟨C',e,z⟩=>by cases e;exact z,?_⟩;refine⟨Z,g,ρ,sr,R,wpS_mono hP mb _ _ _ _ _ _ ⟨λ_ _ z=>z,λ_ _ z=>z,λ_ _ z=>z,λ_ _ z=>z⟩ (λx g1 q bL H' C e' R' hm hc=>⟨C,rfl,?_⟩) h⟩;exact Mh (Ξ:=Ξ) hP (sr.len.trans I.len) e' R' hm hc hh q
end
structure i7 where
 N:List Str
 nm:List (Str×NameKind)
 mP:Bool
 fns:List (Str×Nat)
 con:List (Str×D)
 blt:List Str
 exc:List Str
 gd:List (Str×List D)
 cls:List (Str×Nat)
 pN:List (Str×Str×Nat)
 om:List (Str×Str)
 jT:Bool
 jx:Bool
def gT:Expr->Bool
 |.Set ..=>false
 |.Starred ..=>false
 |.Slice ..=>false
 |_=>true
def C3:Expr->Bool
 |.ListComp ..=>false
 |.SetComp ..=>false
 |.DictComp ..=>false
 |_=>true
def uk:Expr->Bool
 |.Tuple ..=>false
 |_=>true
def Ek:Expr->Bool
 |.Name ..=>true
 |.Call ..=>true
 |.Subscript ..=>true
 |.Constant ..=>true
 |.Attribute ..=>true
 |.BinOp ..=>true
 |_=>false
def yS:Expr->Bool
 |.Call (.Name ..) [] ..=>false
 |_=>true
def i7.idx(c:i7)(x:Str):Option Nat:=c.N.findIdx? λy=>decide (y=x)
def i7.uM(c:i7)(x:Str):Bool:=match c.nm.lookup x with
 |some .local=>true
 |some .cell=>true
 |some .free=>true
 |_=>false
def i7.gl(c:i7)(x:Str):Bool:=decide (c.nm.lookup x=some .globalImplicit)
def i7.B9(c:i7)(x:Str):Bool:=decide (c.nm.lookup x=some .local)||decide (c.nm.lookup x=some .cell)
def pj(x:Str):Bool:=(x==("__debug__":Str))==false&&(x==("__classdict__":Str))==false&&decide (x≠"__name__")
def EO:List (Str×String):=[("int","int"),("bool","bool"),("str","str"),("tuple","tuple"),("list","list")]
def Fb:List (Str×Pr):=[("len",.len),("list",.list),("tuple",.tuple),("isinstance",.isin),("all",.all),("max",.max),("min",.min),("int",.int),("sorted",.ku),("sum",.sum),("set",.qO)]
def zh:List (Str×Pr):=[]
def Fj:List (Str×Pr):=[("append",.append),("pop",.pop),("get",.get),("add",.ky)]
def yY:Expr->Option (Str×List Expr)
 |.Call (.Name x _) args [] _=>some (x,args)
 |_=>none
def Iw:Expr->Bool
 |.Tuple ..=>true
 |_=>false
def asName:Expr->Option Str
 |.Name x _=>some x
 |_=>none
def frees(sc:Scope):List Str:=(sc.names.filter λy=>decide (y.2=.free)).map (·.1)
def locals(sc:Scope):List Str:=(sc.names.filter λy=>decide (y.2=.local)||decide (y.2=.cell)).map (·.1)
def i7.inner(c:i7)(sc:Scope):i7:={ c with N:=frees sc++locals sc,nm:=sc.names,mP:=false,jT:=false,jx:=false }
def i7.d4(c:i7)(sc:Scope):List Nat:=(frees sc).map λx=>(c.idx x).getD 0
def i7.Dy(c:i7)(sc:Scope):Bool :=
 decide (sc.kind=.function)&&sc.names.all (λy=>!decide (y.2=.cell)||decide (sc.names.lookup y.1=some .cell))&&sc.names.all (λy=>!decide (y.2=.local)||decide (sc.names.lookup y.1=some .local)) &&
 decide (frees sc++locals sc).Nodup&&(frees sc).all (λx=>(c.idx x).isSome&&decide (sc.names.lookup x=some .free)&&(decide (c.nm.lookup x=some .cell)||decide (c.nm.lookup x=some .free)))
def i7.slot(c:i7)(e:Expr):Option Nat:=(asName e).bind λx=>if c.B9 x then c.idx x else none
def i7.slots(c:i7):List Expr->Option (List Nat)
 |[]=>some []
 |e::r=>(c.slot e).bind λi=>(c.slots r).map λis=>i::is
def i7.tg(c:i7)(e:Expr):Option MT:=((c.slot e).map .one).orElse λ_=>match e with
 |.Tuple es _ _=>(c.slots es).map .many
 |_=>none
def sC:Const->Option D
 |.int i=>some (.int i)
 |.bool b=>some (.bl b)
 |.none=>some .bN
 |.str x=>some (.str x)
 |_=>none
structure CF where
 e:i7->Expr->Option ME
 t:i7->Expr->Option ME
 s:i7->Stmt->Option MS
section
variable(r:CF)(c:i7)
def c1(p:Pr)(a:Expr):Option ME:=(r.e c a).map λm=>.prim p (.cons m .nil)
def c2(p:Pr)(a b:Expr):Option ME:=(r.e c a).bind λma=>(r.e c b).map λmb=>.prim p (.cons ma (.cons mb .nil))
def L5:List Expr->Option ME
 |[]=>some .nil
 |e::es=>if gT e then(r.e c e).bind λm=>(L5 es).map λms=>.cons m ms else none
def Mu:Expr->Option Str
 |.Constant (.str x) _ _=>some x
 |_=>none
def Jc:Expr->Option Expr
 |.FormattedValue e k none _=>if k=-1 then some e else none
 |_=>none
def ud:List Expr->Option ME
 |[]=>some .nil
 |e::es=>((Mu e).bind λx=>if x.length<=2000 then(ud es).map λms=>.cons (.lit (.str x)) ms else none).orElse λ_ =>
   (Jc e).bind λa=>(r.e c a).bind λm=>(ud es).map λms=>.cons (.prim .fv (.cons m .nil)) ms
def xa:List (Option Expr)->List Expr->Option ME
 |[],[]=>some .nil
 |some k::ks,v::vs=>(r.e c k).bind λmk=>(r.e c v).bind λmv=>(xa ks vs).map λms=>.cons mk (.cons mv ms)
 |_,_=>none
def zP(op:BoolOp):List Expr->Option ME
 |[]=>none
 |[a]=>r.e c a
 |a::b::rs=>(r.e c a).bind λma=>(zP op (b::rs)).map λmb=>match op with
  |.And=>.cQ ma mb
  |.Or=>.jH ma mb
def zQ(op:BoolOp):List Expr->Option ME
 |[]=>none
 |[a]=>r.t c a
 |a::b::rs=>(r.t c a).bind λma=>(zQ op (b::rs)).map λmb=>match op with
  |.And=>.cQ ma mb
  |.Or=>.jH ma mb
def Mw:List Expr->Option ME
 |[]=>some .no
 |[e]=>r.t c e
 |_=>none
def x5:List Stmt->Option MS
 |[]=>some .pass
 |s::rs=>(r.s c s).bind λm=>(x5 rs).map λms=>.seq m ms
def EV(x:Str):Option ME :=
 if pj x then(if c.uM x then(c.idx x).map .var else if c.gl x then((c.con.lookup x).map .lit).orElse λ_=>if c.blt.contains x then(EO.lookup x).map λt=>.lit (.ty t) else none else none) else none
def Aj(op:UnaryOp)(a:Expr):Option ME:=if op=.Not then(r.e c a).map .dE else c1 r c (.un op) a
def i7.zI(b:Expr):Option (List D):=(asName b).bind λx=>if c.gl x&&pj x then c.gd.lookup x else none
def VX:CmpOp->Option Bool
 |.In=>some false
 |.NotIn=>some true
 |_=>none
def xI(a:Expr)(ops:List CmpOp)(bs:List Expr):Option ME:=match ops,bs with
 |[op],[b]=>if behindInMarks op b then none else((VX op).bind λneg=>(c.zI b).bind λkvs=>(r.e c a).map λma=>.prim (zR neg) (.cons (.lit (.tup kvs)) (.cons ma .nil))).orElse λ_=>c2 r c (.cmp op) a b
 |[op,iF],[b,d]=>if lastMarks [op,iF] [b,d] then none else(r.e c a).bind λma=>(r.e c b).bind λmb=>(r.e c d).map λmd=>.chain op iF ma mb md
 |_,_=>none
def VG:Expr->Option (Option Expr×Option Expr×Option Expr)
 |.Slice lo hi st _=>some (lo,hi,st)
 |_=>none
def FX(a:Expr):Option Expr->Option Expr->Option Expr->Option ME
 |none,none,none=>c1 r c (.ji false false) a
 |some b,none,none=>c2 r c (.ji true false) a b
 |none,some b,none=>c2 r c (.ji false true) a b
 |_,_,_=>none
def FA(a b:Expr):Option ME:=((VG b).bind λq=>FX r c a q.1 q.2.1 q.2.2).orElse λ_=>if gT b then((c.zI a).bind λkvs=>(r.e c b).map λmb=>.prim .nM (.cons (.lit (.tup kvs)) (.cons mb .nil))).orElse λ_=>c2 r c .ix a b else none
def Ak(x:Str)(e:Expr):Option ME:=(yY e).bind λq =>
 if x="list" && q.1="range" && c.blt.contains "list" && c.blt.contains "range" && c.gl "range" then (match q.2 with
  |[a]=>if gT a then c1 r c .jl a else none
  |[a,b]=>if gT a&&gT b then c2 r c .kE a b else none
  | _=>none)
 else if x="sorted" && q.1="set" && c.blt.contains "sorted" && c.blt.contains "set" && c.gl "set" then (match q.2 with
  |[a]=>if gT a then c1 r c .sset a else none
  | _=>none)
 else if x="len" && q.1="set" && c.blt.contains "len" && c.blt.contains "set" && c.gl "set" then (match q.2 with
  |[a]=>if gT a then c1 r c .qg a else none
  | _=>none)
 else none
def WX(x:Str)(e:Expr):List Expr->Option ME
 |[]=>Ak r c x e
 |_=>none
def Fu(x:Str):Option ME:=if pj x&&c.gl x then((c.fns.lookup x).map λf=>.call f .nil).orElse λ_=>(c.cls.lookup x).map λf=>.make x f .nil else none
def Fv(x:Str)(e:Expr)(es:List Expr):Option ME:=if pj x&&c.gl x then(WX r c x e es).orElse λ_=>(L5 r c (e::es)).bind λms=>((c.fns.lookup x).map λf=>.call f ms).orElse λ_=>((c.cls.lookup x).map λf=>.make x f ms).orElse λ_=>if c.blt.contains x then(Fb.lookup x).map λp=>.prim p ms else none else none
def KI(x:Str):List Expr->Option ME
 |[]=>Fu c x
 |e::es=>Fv r c x e es
def Fw(o:Expr)(m:Str)(apos pos:Pos)(args:List Expr):Option ME :=
 if yS o && (apos.endLine == pos.line) && decide (args.length < 20) then (r.e c o).bind λmo=>(L5 r c args).bind λms=>if m="index" then (if args.isEmpty then none else some (.dU .index mo ms)) else if args.isEmpty && (zh.lookup m).isSome then (zh.lookup m).map λp=>.dU p mo ms else (match Fj.lookup m with
  |some p=>if args.isEmpty then none else some (.dU p mo ms)
  | none=>none) else none
def EU(f:Expr)(args:List Expr)(jz:List Keyword)(pos:Pos):Option ME:=if jz.isEmpty then(match f with
 |.Name x _=>KI r c x args
 |.Attribute o m apos=>Fw r c o m apos pos args
 | _=>none) else none
def xc(tg e:Expr):Option ME:=(((yY e).bind λq =>
  if q.1="enumerate" then (match q.2 with
   |[a]=>if c.gl "enumerate"&&c.blt.contains "enumerate"&&gT a&&Iw tg then(r.e c a).map .kG else none
   | _=>none)
  else if q.1="reversed" then (match q.2 with
   |[a]=>if c.gl "reversed"&&c.blt.contains "reversed"&&gT a then(r.e c a).map .nX else none
   | _=>none)
  else if q.1="range" then (match q.2 with
   |[a]=>if c.gl "range"&&c.blt.contains "range"&&gT a then(r.e c a).map .dW else none
   |[a,b]=>if c.gl "range"&&c.blt.contains "range"&&gT a&&gT b then(r.e c a).bind λma=>(r.e c b).map λmb=>.kF ma mb else none
   | _=>none)
  else none):Option ME).orElse λ_=>if gT e then (r.e c e).map .fe else none
def sJ(elt:Expr)(gens:List Comprehension)(sc:Scope):Option ME:=match gens with
 |[⟨tg,it,ifs,GK⟩]=>if c.Dy sc&&decide (GK=0)&&gT it then((c.inner sc).tg tg).bind λt=>(xc r c tg it).bind λmi=>(Mw r (c.inner sc) ifs).bind λmc=>(r.e (c.inner sc) elt).map λme=>.comp (c.d4 sc) (frees sc++locals sc).length t mi mc me else none
 |_=>none
def VE:Expr->Option Str
 |.Name x _=>some x
 |_=>none
def VF:Expr->Option (Expr×List Comprehension×Scope)
 |.SetComp elt gens sc _=>some (elt,gens,sc)
 |_=>none
def WU:ME->Option ME
 |.comp a n t i k e=>some (.ia a n t i k e)
 |_=>none
def Al(f:Expr)(args:List Expr)(jz:List Keyword):Option ME:=match args with
 |[a]=>if jz.isEmpty&&decide (VE f=some "sorted")&&c.gl "sorted"&&c.blt.contains "sorted" then(VF a).bind λq=>(sJ r c q.1 q.2.1 q.2.2).bind WU else none
 |_=>none
def xZ(f:Expr)(args:List Expr)(jz:List Keyword):Option ME:=(λ(_:i7)=>none) c
def Fz(es:List Expr)(k:Nat):Option ME:=if c.mP&&decide (k=0) then(match es with
 |[.Constant (.int i) _ _]=>some (.prim (.kx i) .nil)
 | _=>none) else none
def IW:Expr->Option ME
 |.Name x _=>EV c x
 |.Constant k _ _=>(sC k).map .lit
 |.BinOp a op b _=>c2 r c (.bin op) a b
 |.UnaryOp op a _=>Aj r c op a
 |.Compare a ops bs _=>xI r c a ops bs
 |.BoolOp op vs _=>zP r c op vs
 |.IfExp t a b _=>(r.t c t).bind λmt=>(r.e c a).bind λma=>(r.e c b).map λmb=>.ite mt ma mb
 |.Tuple es _ _=>(L5 r c es).map (.prim .tup)
 |.List es _=>(L5 r c es).map (.prim .lst)
 |.Subscript a b _=>FA r c a b
 |.Dict ks vs _=>if ks.isEmpty&&vs.isEmpty then some (.prim .oZ .nil) else if decide (ks.length<=15) then(xa r c ks vs).map .qc else none
 |.JoinedStr vs _=>if decide (2<=vs.length)&&decide (vs.length<=40) then(ud r c vs).map (.prim .mx) else none
 |.Attribute o f _=>if yS o then c1 r c (.fld f) o else none
 |.Call f args jz pos=>(Al r c f args jz).orElse λ_=>(xZ c f args jz).orElse λ_=>EU r c f args jz pos
 |.ListComp elt gens sc _=>sJ r c elt gens sc
 |.Set es k _=>Fz c es k
 |_=>none
def stepT:Expr->Option ME
 |.UnaryOp op a _=>if op=.Not then(r.t c a).map .dE else none
 |.BoolOp op vs _=>zQ r c op vs
 |.Compare a ops bs _=>(xI r c a ops bs).map .fm
 |e=>if Ek e then(r.e c e).map .fm else none
def IC:Expr->Option ME
 |.Constant k _ _=>(sC k).map .lit
 |_=>none
def yN:List Expr->Option ME
 |[]=>some .nil
 |e::es=>(IC e).bind λm=>(yN es).map λms=>.cons m ms
def IB:Expr->Option ME
 |.List es _=>(yN es).map (.prim .lst)
 |.Constant k _ _=>(sC k).map .lit
 |_=>none
def Xb:List Stmt->Option Expr
 | [s]=>(match s with
  |.Return e _=>e
  | _=>none)
 |_=>none
def EZ:ExceptHandler->Option (Str×Expr)
 |.ExceptHandler t n b _=>if n.isNone then t.bind λt=>(asName t).bind λy=>(Xb b).map λe=>(y,e) else none
def xb:List ExceptHandler->Option (List (Str×ME))
 |[]=>some []
 |h::hs=>(EZ h).bind λq=>if c.exc.contains q.1&&c.gl q.1&&pj q.1 then(IB q.2).bind λm=>(xb hs).map λms=>(q.1,m)::ms else none
def Dh(e f:Option Expr):Option (Str×Expr×List Expr):=if f.isNone then e.bind λe=>(yY e).bind λq=>q.2.head?.map λa=>(q.1,a,q.2.tail) else none
def i7.CY(f:Str):List Str:=(c.om.filter λy=>decide (y.1=f)).map (·.2)
def yL:List Expr->Option (Expr×Expr×Expr×Expr)
 |[.Subscript o1 i1 _,.Subscript o2 i2 _]=>some (o1,i1,o2,i2)
 |_=>none
def Ii(tg e:Expr):Option MS:=match tg with
 |.Name x _=>if c.B9 x then(c.idx x).bind λi=>(r.e c e).map λm=>.set i m else none
 |.Tuple es _ _=>(yL es).elim (if uk e&&C3 e then(c.slots es).bind λis=>(r.e c e).map λm=>.lY (.many is) m else none) λq=>if C3 e&&gT q.2.1&&gT q.2.2.2 then(r.e c q.1).bind λm1=>(r.e c q.2.1).bind λn1=>(r.e c q.2.2.1).bind λm2=>(r.e c q.2.2.2).bind λn2=>(r.e c e).map λm=>.qv m1 n1 m2 n2 m else none
 |.Subscript o i _=>if gT i&&C3 e then(r.e c o).bind λmo=>(r.e c i).bind λmi=>(r.e c e).map λm=>.eP mo mi m else none
 |.Attribute o f _=>(r.e c o).bind λmo=>(r.e c e).map λm=>.iP f (c.CY f) mo m
 |_=>none
def Iy:Operator->Option Pr
 |.Add=>some .iadd
 |.Sub=>some .nu
 |_=>none
def toR(e:Expr)(m:ME):ME:=(λ(_:i7)=>m) c
def IX:Stmt->Option MS
 |.Expr e _=>if C3 e then(r.e c e).map .expr else none
 | .Assign Aw e _=>(match Aw with
  |[tg]=>Ii r c tg e
  | _=>none)
 | .AugAssign tg op e _=>(match tg with
  |.Name x _=>if c.B9 x then(Iy op).bind λp=>(c.idx x).bind λi=>(r.e c e).map λm=>.kd i p m else none
  | _=>none)
 |.If t a b _=>(r.t c t).bind λmt=>(x5 r c a).bind λma=>(x5 r c b).map λmb=>.ifs mt ma mb
 |.For tg it body oV _=>if c.mP&&(oV.isEmpty&&gT it) then(c.tg tg).bind λt=>(xc r c tg it).bind λmi=>(x5 r c body).map λmb=>.dw t mi mb else none
 |.While t body oV _=>if c.mP&&oV.isEmpty then(r.t c t).bind λmt=>(x5 r c body).map λmb=>.kq mt mb else none
 | .Return e _=>(match e with
  |some e=>(r.e c e).map λm=>.ret (toR c e m)
  | none=>some .qD)
 |.Pass _=>some .pass
 |.Raise e f _=>(Dh e f).bind λq=>if c.jT&&c.exc.contains q.1&&c.gl q.1&&pj q.1 then(L5 r c (q.2.1::q.2.2)).map (.raise q.1) else none
 |.Try body hs el fi _=>if c.jx&&!hs.isEmpty&&el.isEmpty&&fi.isEmpty then(x5 r { c with jT:=false,jx:=false } body).bind λmb=>(xb c hs).map λms=>.pq mb ms else none
 |_=>none
end
def comp:Nat->CF
 |0=>⟨λ_ _=>none,λ_ _=>none,λ_ _=>none⟩
 |n+1=>⟨IW (comp n),stepT (comp n),λc s=>(IX (comp n) c s).orElse λ_=>some (.expr .no)⟩
structure ie(X:Cx)(c:i7)(P:fk)(Ξ:ij):Prop where
 N:X.N=c.N
 nd:c.N.Nodup
 loc:∀x,c.nm.lookup x=some .local->X.env.scope.names.lookup x=some .local
 yJ:∀x,c.nm.lookup x=some .cell->X.env.scope.names.lookup x=some .cell
 Cp:∀x,c.nm.lookup x=some .free->X.env.scope.names.lookup x=some .cell\/X.env.scope.names.lookup x=some .free
 HL:∀x,c.nm.lookup x=some .globalImplicit->X.env.scope.names.lookup x=some .globalImplicit
 cells:∀x,(c.nm.lookup x=some .cell\/c.nm.lookup x=some .free)->∃a,X.env.cells.lookup x=some a
 mP:∀x,c.nm.lookup x=some .cell->X.fn x=true
 calm:X.calm=true
 units:X.A.units+100<cLine
 own:c.mP=true->PassesOwn (model X.prog X.w) X.A X.env X.xe
 mono:j4 P
 con:∀x d,c.con.lookup x=some d->∃v u,X.mg x=some u/\RelV v u/\∀ρ H,d8 X.K ρ H d v
 blt:∀x,c.blt.contains x=true->X.mg x=none
 fns:∀x f,c.fns.lookup x=some f->∃k fa fd ps,pB X P Ξ.1 k f fa fd ps/\x4 k X.A/\X.mg x=some (.ref fa)/\PySem.W.keepIn X.K (.ref fa)=true
 cls:∀x f,c.cls.lookup x=some f->∃k C fa fd ps,pB X P Ξ.1 k f fa fd ps/\x4 (k+1) X.A/\X.mg x=some (.ref C)/\u9 X.K x C/\kj X.K C/\Mk X.K C fa
 pN:∀m y f C,(m,y,f)∈c.pN->u9 X.K y C->∃k fa fd ps,Meth X.K C m fa/\pB X P Ξ.1 k f fa fd ps/\x4 k X.A
 om:∀f y C,(f,y)∈c.om->u9 X.K y C->E3 X.K C f
 yF:Ξ.1=c.exc
 pass:Passes (js X.prog X.w) X Ξ.2
 jT:c.jT=true->yW X Ξ.2
 jx:c.jx=true->X.stack=X.env::X.outer/\X.env.frame=some X.env.locals/\xn X Ξ.2
 exc:∀x,c.exc.contains x=true->∃C,X.mg x=some (.ref C)/\u9 X.K x C/\∃B newId gW bm,OwnCls x C bm newId X.mg X.base/\ExcBaseFacts B newId gW bm
 Ct:∀x y C C',c.exc.contains x=true->c.exc.contains y=true->u9 X.K x C->u9 X.K y C'->PySem.W.exmOne X.K (.ref C) (.ref C')=some (decide (x=y\/y="MintError"))
 wB:∀x kvs,c.gd.lookup x=some kvs->zL X x kvs
 code:c.mP=true->PySem.W.kdsCode X.K X.env.code=true
theorem SU(h:c.idx x=some i):c.N[i]?=some x:=by
 unfold i7.idx at h;rw[kL] at h;obtain⟨h1,h2,_⟩:=h;rw[ai h1,bJ h2]
theorem ie.YT(C:ie X c P Ξ)(h:c.uM x=true):xJ X.env.scope x:=by
 unfold i7.uM at h;split at h
 ·rename_i e;exact .inl (C.loc x e)
 ·rename_i e;exact .inr (.inl (C.yJ x e))
 ·rename_i e;rcases C.Cp x e with z|z
  ·exact .inr (.inl z)
  ·exact .inr (.inr z)
 ·cases h
theorem ie.B7(C:ie X c P Ξ)(h:c.gl x=true):Gl X x:=C.HL x (bJ h)
theorem ie.B9(C:ie X c P Ξ){x:Str}(h:c.B9 x=true):Loc X.env.scope x/\(X.fn x=true\/X.env.scope.names.lookup x=some .local):=by
 unfold i7.B9 at h;rw[dk] at h;rcases h with h|h
 ·have:=C.loc x (bJ h);exact⟨.inl this,.inr this⟩
 ·exact⟨.inr (C.yJ x (bJ h)),.inl (C.mP x (bJ h))⟩
theorem ie.sj(C:ie X c P Ξ)(h:c.idx x=some i):X.N[i]?=some x:=by rw[C.N];exact SU h
theorem ie.tj(C:ie X c P Ξ):X.N.Nodup:=by rw[C.N];exact C.nd
theorem Em(h:asName e=some x):∃p,e=.Name x p:=by
 cases e<;>first|(cases h;exact⟨_,rfl⟩)|cases h
theorem Md(h:c.slot e=some i):∃x p,e=.Name x p/\c.B9 x=true/\c.idx x=some i:=by
 unfold i7.slot at h;obtain⟨x,hx,h2⟩:=ao.mp h;obtain⟨p,rfl⟩:=Em hx;split at h2
 ·exact⟨x,p,rfl,by assumption,h2⟩
 ·cases h2
theorem ie.slots(C:ie X c P Ξ):∀{es:List Expr} {is:List Nat},c.slots es=some is->fZ X es is:=by
 intro es
 induction es with
 |nil=>intro is h;cases h;exact .nil
 |cons e r ih =>
  intro is h;unfold i7.slots at h;obtain⟨i,hi,h⟩:=ao.mp h;obtain⟨is',hs,rfl⟩:=aa.mp h;obtain⟨x,p,rfl,hl,hx⟩:=Md hi;exact .cons (C.sj hx) (C.B9 hl).1 (C.B9 hl).2 (ih hs)
theorem orElse_some{α:Type}{a:Option α}{b:Unit->Option α}{m:α}(h:a.orElse b=some m):a=some m\/b Unit.unit=some m:=by
 cases a with
 |none=>exact .inr h
 |some x=>exact .inl h
theorem ie.Io(C:ie X c P Ξ){tg:Expr}{t:MT}(h:c.tg tg=some t):PG X tg (LG X.K t):=by
 unfold i7.tg at h;rcases orElse_some h with h|h
 ·obtain⟨i,hi,rfl⟩:=aa.mp h;obtain⟨x,p,rfl,hl,hx⟩:=Md hi;exact RL C.tj (C.sj hx) (C.B9 hl).1 (C.B9 hl).2
 ·cases tg<;>first|(cases h;done)|skip
  obtain⟨is,hs,rfl⟩:=aa.mp (show(c.slots _).map MT.many=some t from h);exact Lu C.calm C.tj (C.slots hs)
theorem n4(h:gT e=true):starEach (e::es) env=(false,eval e env)::starEach es env:=by
 cases e<;>first|rfl|cases h
theorem zC(h:gT e=true):∀x,foldedSetIterable e env x=pure x:=by
 intro x;cases e<;>first|rfl|cases h
theorem MD(h:gT e=true):Df e:=by
 intro o i;cases e<;>first|rfl|cases h
theorem Dx{i:Expr}{tp:Pos}(h:gT i=true):∀v,assign (.Subscript o i tp) env v=(do
      let ov <- holding [v] (eval o env)
      let iv <- holding [v,ov] (eval i env)
      standAt tp
      holding [v,ov,iv] (setItem ov iv v)
      release [v,ov,iv] []):=by
  intro v;cases i<;>first|rfl|cases h
theorem Ei{t:Option Expr}(h:C3 e=true):swapsWith e t n env=pure false:=by
 cases e<;>first|rfl|cases h
theorem Vh{p:Pos}(h:uk e=true):swappedStores [.Tuple es k p] e env=pure none:=by
 cases e<;>first|rfl|cases h
theorem a02(h:Ek e=true):∀whole,isTrue e env whole=(do let v <- whole;standAt e.pos;holding [v] (truthy v)):=by
 intro w;cases e<;>first|rfl|cases h
theorem Z3{q:Str×List Expr}(h:yY e=some q):∃p pos,e=.Call (.Name q.1 p) q.2 [] pos:=by
 cases e<;>first|(cases h;done)|skip
 rename_i f as jz pos;cases f<;>first|(cases h;done)|skip
 cases jz<;>first|(cases h;done)|skip
 cases h;exact⟨_,_,rfl⟩
theorem a61(h:Iw e=true):∃es k p,e=.Tuple es k p:=by
 cases e<;>first|exact⟨_,_,_,rfl⟩|cases h
theorem LO{kvs:List D}(h:c.zI b=some kvs):∃x p,b=.Name x p/\c.gl x=true/\pj x=true/\c.gd.lookup x=some kvs:=by
 unfold i7.zI at h;obtain⟨x,hx,h2⟩:=ao.mp h;obtain⟨p,rfl⟩:=Em hx;split at h2
 ·rename_i hc;rw[aS] at hc;exact⟨x,p,rfl,hc.1,hc.2,h2⟩
 ·cases h2
theorem P7{f:Str}(h:yS o=true):attributeBase o f env (eval o env)=eval o env:=by
 cases o<;>first|rfl|skip
 rename_i f as jz pos;cases f<;>first|rfl|skip
 cases as with
 |nil=>cases h
 |cons=>rfl
theorem Dm{env:Env}:∀(names:List (Str×NameKind)) (acc:List (Str×Addr)),(∀y∈names,y.2=.free->∃a,env.cells.lookup y.1=some a)->(∀x a,acc.lookup x=some a->env.cells.lookup x=some a) ->
  ∃ cl,(forIn names acc λ(y:Str × NameKind) (cs:List (Str × Addr))=>(match y with
   |(name,kind)=>if(kind==NameKind.free)=true then do
     let __do_lift <- cellOf env name
     pure (ForInStep.yield ((name,__do_lift)::cs))
    else pure (ForInStep.yield cs):Sem (ForInStep (List (Str × Addr)))))=pure cl/\(∀ x a,cl.lookup x=some a->env.cells.lookup x=some a)/\(∀ y ∈ names,y.2=.free->∃ a,cl.lookup y.1=some a)/\∀ x a,acc.lookup x=some a->∃ a',cl.lookup x=some a'
 |[],acc,_,h2=>⟨acc,rfl,h2,λy hy=>absurd hy (by simp),λx a h=>⟨a,h⟩⟩
 |(n,k)::r,acc,h1,h2=>by
  rw[List.forIn_cons];by_cases hk:k=.free
  ·subst hk;obtain⟨a,ha⟩:=h1 (n,.free) (by simp) rfl;have hc:cellOf env n=pure a:=by unfold cellOf;rw[ha]
   obtain ⟨cl,e,q1,q2,q3⟩:=Dm r ((n,a) :: acc) (λy hy=>h1 y (by simp [hy])) (λx b hb=>by
    rw[cK] at hb;cases hx:x==n with
    |true=>rw[hx] at hb;cases hb;rw[eq_of_beq hx];exact ha
    | false=>rw [hx] at hb;exact h2 x b hb)
   refine⟨cl,?_,q1,λy hy hf=>?_,λx b hb=>?_⟩
   ·simp only[beq_self_eq_true,if_true,hc];exact e
   ·rcases aH.mp hy with z|z
    ·subst z;exact q3 n a (by simp[List.lookup_cons])
    ·exact q2 y z hf
   ·cases hx:x==n with
    |true=>exact q3 x a (by rw[cK,hx])
    |false=>exact q3 x b (by rw[cK,hx];exact hb)
  ·have hb:(k==NameKind.free)=false:=by simpa using hk
   obtain⟨cl,e,q1,q2,q3⟩:=Dm r acc (λy hy=>h1 y (by simp[hy])) h2;refine⟨cl,?_,q1,λy hy hf=>?_,q3⟩
   ·simp only[hb,Bool.false_eq_true,if_false];exact e
   ·rcases aH.mp hy with z|z
    ·subst z;exact absurd hf hk
    ·exact q2 y z hf
theorem a12{P:Program}{w:World}:Passes (js P w) X (λ_ _ _=>False):=λ_ _ _ _ _ _ _ h=>by
 obtain⟨_,_,_,_,_,_,_,z⟩:=h;exact z.elim
theorem T2{env:Env}:∀{names:List (Str×NameKind)} {x:Str},names.lookup x=some .globalImplicit ->
  (names.map λ(n,k)=>if(k==NameKind.free&&env.scope.kind==.function&&env.kindOf n==some .cell) then(n,NameKind.cell) else(n,k)).lookup x=some .globalImplicit
 |[],_,h=>by simp at h
 |(n,k)::r,x,h=>by
  have ih:=@T2 env r x;show List.lookup x ((if(k==NameKind.free&&env.scope.kind==.function&&env.kindOf n==some .cell)=true then(n,NameKind.cell) else(n,k))::_)=_;cases hx:x==n with
  |true =>
   simp only[List.lookup_cons,hx] at h;cases h;simp[List.lookup_cons,hx]
  |false =>
   simp only[List.lookup_cons,hx] at h;by_cases hc:(k==NameKind.free&&env.scope.kind==.function&&env.kindOf n==some .cell)=true
   ·rw[aJ hc];simp only[List.lookup_cons,hx];exact ih h
   ·rw[aF hc];simp only[List.lookup_cons,hx];exact ih h
theorem ie.comp(C:ie X c P Ξ){sc:Scope}(h:c.Dy sc=true):∃cl,dD X sc (frees sc++locals sc) (c.d4 sc) cl/\∀pins A s H fp,ie (d7 X pins sc (frees sc++locals sc) cl A s H fp) (c.inner sc) P (oo Ξ.1):=by
 unfold i7.Dy at h;simp only[Bool.and_eq_true,decide_eq_true_eq,List.all_eq_true] at h;obtain⟨⟨⟨⟨h1,h2⟩,h3⟩,h4⟩,h5⟩:=h;have nC:∀x,sc.names.lookup x=some .free->x∈frees sc:=λx hx=>by
  unfold frees;exact aL.mpr ⟨(x,.free),bo.mpr ⟨aQ hx,by simp⟩,rfl⟩
 have fr:∀x∈frees sc,(∃i,c.idx x=some i)/\sc.names.lookup x=some .free/\(c.nm.lookup x=some .cell\/c.nm.lookup x=some .free):=λx hx=>by
  have:=h5 x hx;rw[eV,dk] at this;simp only[decide_eq_true_eq] at this;exact⟨this.1.1,this.1.2,this.2⟩
 have rY:∀y∈sc.names,y.2=.free->∃a,X.env.cells.lookup y.1=some a:=λy hy hf=>by
  have hm:y.1∈frees sc:=aL.mpr ⟨y,bo.mpr ⟨hy,by simp[hf]⟩,rfl⟩;exact C.cells y.1 (fr y.1 hm).2.2
 obtain⟨cl,e,q1,q2,_⟩:=Dm sc.names [] rY (λx a h=>by simp at h);have h2:∀y∈sc.names,y.2=.cell->sc.names.lookup y.1=some .cell:=λy hy hl=>by
  have:=h2 y hy;rw[dk] at this;simp only[Bool.not_eq_true',decide_eq_false_iff_not,decide_eq_true_eq] at this;exact this.resolve_left λz=>z hl
 refine⟨cl,⟨h1,h2,λy hy hl=>?_,?_,q1,λx hx=>q2 (x,.free) (aQ hx) rfl,h4,λi j kP=>?_,?_⟩,λpins A s H fp=>?_⟩
 ·have:=h3 y hy;rw[dk] at this;simp only[Bool.not_eq_true',decide_eq_false_iff_not,decide_eq_true_eq] at this;exact this.resolve_left λz=>z hl
 ·simp only[closureFor];rw[e]
  rfl
 ·unfold i7.d4 at kP;rw[ak] at kP;cases ex:(frees sc)[i]? with
  |none=>rw[ex] at kP;cases kP
  |some x =>
   rw[ex] at kP;have hx:x∈frees sc:=aC ex;obtain⟨⟨k,hk⟩,hl,hc⟩:=fr x hx;have hj:k=j:=by
    have:=aO kP;dsimp only at this;rw[hk] at this;exact this
   subst hj;refine⟨x,?_,C.sj hk,hl,?_⟩
   ·rw[aD (aj.mp ex).1];exact ex
   ·rcases hc with z|z
    ·exact .inl (C.yJ x z)
    ·exact C.Cp x z
 ·unfold i7.d4;rw[ae,bg];omega
 ·refine⟨rfl,h4,λx hx=>lookup_relabel_local hx,λx hx=>?_,λx hx=>J1 hx,λx hx=>T2 hx,λx hx=>?_,λx _=>?_,rfl,C.units,(λ_=>PassesOwn.never),C.mono,C.con,C.blt,C.fns,C.cls,C.pN,C.om,C.yF,a12,(λz=>by cases z),(λz=>by cases z),C.exc,C.Ct,C.wB,(λz=>by cases z)⟩
  ·exact O9 hx
  ·rcases hx with hx|hx
   ·exact Mr (.inl hx)
   ·exact Mr (.inr (q2 (x,.free) (aQ hx) rfl))
  ·exact au ‹_›
theorem K3(h:pj x=true):(x==("__debug__":Str))=false/\(x==("__classdict__":Str))=false/\x≠"__name__":=by
 unfold pj at h;simp only[Bool.and_eq_true,decide_eq_true_eq,beq_iff_eq] at h;exact⟨h.1.1,h.1.2,h.2⟩
theorem a70{t:String}(h:EO.lookup x=some t):bootBuiltins x=some (.type t):=by
 have hm:=aQ h;simp only[EO,List.mem_cons,List.mem_nil_iff,or_false] at hm;rcases hm with z|z|z|z|z<;>(cases z;first|exact xW|exact PyProof.Rows.boot_bool|exact PyProof.Rows.boot_str|exact sQ|exact fy|decide +kernel|rfl)
theorem a59(hc:X.calm=true)(hu:X.A.units+100<cLine)(h:Fb.lookup x=some p):∃v,((∃id,v=.builtin id)\/∃T,v=.type T)/\bootBuiltins x=some v/\m8 X v (rN X.K p):=by
 have hm:=aQ h;simp only[Fb,List.mem_cons,List.mem_nil_iff,or_false] at hm;rcases hm with z|z|z|z|z|z|z|z|z|z|z
 ·cases z;exact⟨.builtin "len",.inl ⟨_,rfl⟩,PySem.boot_len,Zx⟩
 ·cases z;exact⟨.type "list",.inr ⟨_,rfl⟩,by first|exact fy|decide +kernel,Te hc⟩
 ·cases z;exact⟨.type "tuple",.inr ⟨_,rfl⟩,by first|exact sQ|decide +kernel,a73⟩
 ·cases z;exact⟨.builtin "isinstance",.inl ⟨_,rfl⟩,by first|exact PyProof.Rows.boot_isinstance|decide +kernel,SY⟩
 ·cases z;exact⟨.builtin "all",.inl ⟨_,rfl⟩,by first|exact PyProof.Rows.boot_all|decide +kernel,Za hc⟩
 ·cases z;exact⟨.builtin "max",.inl ⟨_,rfl⟩,by first|exact PyProof.Rows.boot_max|decide +kernel,ZF hc⟩
 ·cases z;exact⟨.builtin "min",.inl ⟨_,rfl⟩,by first|exact PyProof.Rows.boot_min|decide +kernel,ZG hc hu⟩
 ·cases z;exact⟨.type "int",.inr ⟨_,rfl⟩,by first|exact xW|decide +kernel,Zm⟩
 ·cases z;exact⟨.builtin "sorted",.inl ⟨_,rfl⟩,by first|exact hZ|decide +kernel,a79 hc⟩
 ·cases z;exact⟨.builtin "sum",.inl ⟨_,rfl⟩,by first|exact PyProof.Rows.boot_sum|decide +kernel,Sb hc⟩
 ·cases z;exact⟨.type "set",.inr ⟨_,rfl⟩,by first|exact jb|decide +kernel,Td hc⟩
theorem aT7(h:zh.lookup x=some p):∃T id,PlainAttrs T/\Slot T x id/\typeOf (.builtin id)=pure (.type "method_descriptor")/\mR X id (rM X.K p) /\
  ∀{d:D} {v:V} {g:G} {ρ:List Addr} {H:Hp},Rl X.K ρ g H->d8 X.K ρ H d v->mh p d g->nV X.K T v H:=by
 cases h
theorem a25(hu:X.A.units+100<cLine)(h:Fj.lookup x=some p):∃T id,PlainAttrs T/\Slot T x id/\typeOf (.builtin id)=pure (.type "method_descriptor")/\mR X id (rM X.K p) /\
  ∀{d:D} {v:V} {g:G} {ρ:List Addr} {H:Hp},Rl X.K ρ g H->d8 X.K ρ H d v->mh p d g->nV X.K T v H:=by
 have hm:=aQ h;simp only[Fj,List.mem_cons,List.mem_nil_iff,or_false] at hm;rcases hm with z|z|z|z
 ·cases z;exact⟨_,_,sO,PySem.F.slot_list_append,PySem.F.type_list_append,a63,λR r h=>ty_list R r h⟩
 ·cases z;exact⟨_,_,sO,PySem.F.slot_list_pop,PySem.F.type_list_pop,Vu,λR r h=>ty_list R r h⟩
 ·cases z;exact⟨_,_,PySem.F.plainAttrs_dict,ja,PySem.F.type_dict_get,Zi hu,λR r h=>ty_dict R r h⟩
 ·cases z;exact⟨_,_,PySem.F.plainAttrs_set,PySem.F.slot_set_add,PySem.F.type_set_add,Ue,λR r h=>ty_set R r h⟩
theorem Mf{pos:Pos}{env:Env}:∀{es:List Expr},(∀e∈es,gT e=true)->(backTo pos (starEach es env)).all (λx=>!x.1)=true
 |[],_=>rfl
 |e::es,h=>by
  rw[n4 (h e (by simp))];have ih:=Mf (pos:=pos) (env:=env) (es:=es) λx hx=>h x (by simp[hx]);unfold backTo at ih ⊢;rw[bh,List.all_cons,ih]
  rfl
theorem V1{pos:Pos}{env:Env}:∀{es:List Expr},(∀e∈es,gT e=true)->(backTo pos (starEach es env)).any (·.1)=false
 |[],_=>rfl
 |e::es,h=>by
  rw[n4 (h e (by simp))];have ih:=V1 (pos:=pos) (env:=env) (es:=es) λx hx=>h x (by simp[hx]);unfold backTo at ih ⊢;rw[bh,fS,ih]
  rfl
theorem DG:∀{es:List Expr} {m:ME},L5 r c es=some m->∀e∈es,gT e=true:=by
 intro es
 induction es with
 |nil=>intro m _ e he;exact absurd he (by simp)
 |cons a es ih =>
  intro m h e he;unfold L5 at h;split at h
  ·obtain⟨m1,h1,h⟩:=ao.mp h;obtain⟨m2,h2,_⟩:=aa.mp h;rcases aH.mp he with z|z
   ·rw[z];assumption
   ·exact ih h2 e z
  ·cases h
theorem aW3(h:Mu a=some x):∃j p,a=.Constant (.str x) j p:=by
 cases a with
 |Constant k j p=>cases k with
  |str y=>cases h;exact⟨_,_,rfl⟩
  |_=>cases h
 |_=>cases h
theorem UO(h:Jc a=some e):∃p,a=.FormattedValue e (-1) none p:=by
 cases a with
 |FormattedValue v k f p=>cases f with
  |none =>
   have h2:(if k=-1 then some v else none)=some e:=h;split at h2
   ·rename_i hk;cases h2;rw[hk];exact⟨_,rfl⟩
   ·cases h2
  |some _=>cases h
 |_=>cases h
structure qk(P:fk)(r:CF):Prop where
 e:∀X c Ξ,ie X c P Ξ->∀e m,r.e c e=some m->PE X e (LE X.K Ξ (aW P m))
 t:∀X c Ξ,ie X c P Ξ->∀e m,r.t c e=some m->PT X e (LT X.K Ξ (dg P m))
 s:∀X c Ξ,ie X c P Ξ->∀st m,r.s c st=some m->PS X st (LS X.K Ξ (wpS P m))
section
variable(S:qk P r)(C:ie X c P Ξ)
include S C
theorem uq(h:c1 r c p a=some m):∃ma,PE X a (LE X.K Ξ (aW P ma))/\m=.prim p (.cons ma .nil):=by
 obtain⟨ma,ha,rfl⟩:=aa.mp h;exact⟨ma,S.e X c Ξ C _ _ ha,rfl⟩
theorem ur(h:c2 r c p a b=some m):∃ma mb,PE X a (LE X.K Ξ (aW P ma))/\PE X b (LE X.K Ξ (aW P mb))/\m=.prim p (.cons ma (.cons mb .nil)):=by
 obtain⟨ma,ha,h⟩:=ao.mp h;obtain⟨mb,hb,rfl⟩:=aa.mp h;exact⟨ma,mb,S.e X c Ξ C _ _ ha,S.e X c Ξ C _ _ hb,rfl⟩
theorem vf:∀{es:List Expr} {m:ME},L5 r c es=some m->PA X es (LA X.K Ξ (gs P m)):=by
 intro es
 induction es with
 |nil=>intro m h;cases h;exact L7 C.mono
 |cons a es ih =>
  intro m h;unfold L5 at h;split at h
  ·rename_i bR;obtain⟨m1,h1,h⟩:=ao.mp h;obtain⟨m2,h2,rfl⟩:=aa.mp h;exact C8 C.mono (S.e X c Ξ C _ _ h1) (ih h2) (n4 bR)
  ·cases h
theorem NS:∀{es:List Expr} {m:ME},ud r c es=some m->∃ts,mS X Ξ P es m ts:=by
 intro es
 induction es with
 |nil=>intro m h;cases h;exact⟨_,.nil⟩
 |cons a es ih =>
  intro m h;unfold ud at h;rcases orElse_some h with h1|h1
  ·obtain⟨x,hx,h2⟩:=ao.mp h1;obtain⟨j,p,rfl⟩:=aW3 hx;split at h2
   ·obtain⟨m2,h3,rfl⟩:=aa.mp h2;obtain⟨ts,F⟩:=ih h3;exact⟨_,.lit (by assumption) F⟩
   ·cases h2
  ·obtain⟨x,hx,h2⟩:=ao.mp h1;obtain⟨m1,h3,h4⟩:=ao.mp h2;obtain⟨m2,h5,rfl⟩:=aa.mp h4;obtain⟨p,rfl⟩:=UO hx;obtain⟨ts,F⟩:=ih h5;exact⟨_,.val (S.e X c Ξ C _ _ h3) F⟩
theorem NU:∀{ks:List (Option Expr)} {vs:List Expr} {m:ME},xa r c ks vs=some m->∃iE,mT X Ξ P ks vs m iE:=by
 intro ks
 induction ks with
 |nil=>intro vs m h;cases vs<;>first|(cases h;exact⟨_,.nil⟩)|cases h
 |cons k ks ih =>
  intro vs m h;cases k<;>first|(cases h;done)|skip
  cases vs<;>first|(cases h;done)|skip
  unfold xa at h;obtain⟨m1,h1,h⟩:=ao.mp h;obtain⟨m2,h2,h⟩:=ao.mp h;obtain⟨m3,h3,rfl⟩:=aa.mp h;obtain⟨iE,D⟩:=ih h3;exact⟨_,.cons (S.e X c Ξ C _ _ h1) (S.e X c Ξ C _ _ h2) D⟩
theorem NV{op:BoolOp}:∀{vs:List Expr} {m:ME},zP r c op vs=some m->PE X (.BoolOp op vs pos) (LE X.K Ξ (aW P m)):=by
 intro vs
 induction vs with
 |nil=>intro m h;cases h
 |cons a vs ih =>
  intro m h;cases vs with
  |nil=>exact Ri (S.e X c Ξ C _ _ h)
  |cons b vs =>
   unfold zP at h;obtain⟨m1,h1,h⟩:=ao.mp h;obtain⟨m2,h2,rfl⟩:=aa.mp h;cases op
   ·exact RB C.mono (S.e X c Ξ C _ _ h1) (ih h2)
   ·exact Yx C.mono (S.e X c Ξ C _ _ h1) (ih h2)
theorem NP{op:BoolOp}:∀{vs:List Expr} {m:ME},zQ r c op vs=some m->PW X (.BoolOp op vs pos) (LT X.K Ξ (dg P m)):=by
 intro vs
 induction vs with
 |nil=>intro m h;cases h
 |cons a vs ih =>
  intro m h;cases vs with
  |nil =>
   cases op
   ·exact Ub (S.t X c Ξ C _ _ h)
   ·exact Rx (S.t X c Ξ C _ _ h)
  |cons b vs =>
   unfold zQ at h;obtain⟨m1,h1,h⟩:=ao.mp h;obtain⟨m2,h2,rfl⟩:=aa.mp h;cases op
   ·exact Sd C.mono (S.t X c Ξ C _ _ h1) (ih h2)
   ·exact YA C.mono (S.t X c Ξ C _ _ h1) (ih h2)
theorem Wh(h:Mw r c es=some m):lQ X es (LT X.K Ξ (dg P m)):=by
 rcases es with _|⟨e,_|⟨_,_⟩⟩
 ·cases h;exact Uz C.mono
 ·exact Ua (S.t X c Ξ C _ _ h)
 ·cases h
theorem tW:∀{Ge:List Stmt} {m:MS},x5 r c Ge=some m->ju X Ge (LS X.K Ξ (wpS P m)):=by
 intro es
 induction es with
 |nil=>intro m h;cases h;exact Kx C.mono
 |cons a es ih =>
  intro m h;unfold x5 at h;obtain⟨m1,h1,h⟩:=ao.mp h;obtain⟨m2,h2,rfl⟩:=aa.mp h;exact Lv C.mono (S.s X c Ξ C _ _ h1) (ih h2)
end
theorem Y4{t:Expr}(h:C3 e=true):swapsWithSole [t] e n env=pure false:=by
 show swapsWith e (some t) n env=pure false;exact Ei h
theorem ie.pq(C:ie X c P Ξ)(ei:X.stack=X.env::X.outer)(hf:X.env.frame=some X.env.locals)(pins:List (Addr×Obj))(D:L2.Ends)(hs:List ExceptHandler) :
  ie (W8 X pins (uo X pins D hs)) { c with jT:=false,jx:=false } P (zK X Ξ.1 D hs) :=
 ⟨C.N,C.nd,C.loc,C.yJ,C.Cp,C.HL,C.cells,C.mP,C.calm,C.units,(λ_=>PassesOwn.looking),C.mono,C.con,C.blt,C.fns,C.cls,C.pN,C.om,C.yF,Vl ei hf λC H' ⟨C',e,z⟩=>(by cases e;exact z),(λz=>by cases z),(λz=>by cases z),C.exc,C.Ct,C.wB,C.code⟩
section
variable(S:qk P r)(C:ie X c P Ξ){d:Expr}
include C
theorem QK(h:EV c x=some m):PE X (.Name x pos) (LE X.K Ξ (aW P m)):=by
 unfold EV at h;split at h
 ·rename_i ig;obtain⟨d1,d2,d3⟩:=K3 ig;split at h
  ·rename_i hv;obtain⟨i,hi,rfl⟩:=aa.mp h;exact RK (C.sj hi) (C.YT hv) d1 d2
  ·split at h
   ·rename_i hg;rcases orElse_some h with h|h
    ·obtain⟨d,hd,rfl⟩:=aa.mp h;obtain⟨v,u,hm,r,rr⟩:=C.con x d hd;exact V3 (zj (C.B7 hg) hm r d1) rr
    ·split at h
     ·rename_i hb;obtain⟨t,ht,rfl⟩:=aa.mp h;exact V3 (v:=.ty t) (Tx (C.B7 hg) (C.blt x hb) (a70 ht) rfl d3 d1) λ_ _=>.ty t
     ·cases h
   ·cases h
 ·cases h
omit C in
theorem AK{k:Const}{j:Nat}{d:D}(h:sC k=some d):PE X (.Constant k j pos) (LE X.K Ξ (aW P (.lit d))):=by
 cases k<;>first|(cases h;done)|skip
 ·cases h;exact V3 Rg λ_ _=>.bN
 ·cases h;exact V3 Yj λ_ _=>.bl _
 ·cases h;exact V3 Rc λ_ _=>.int _
 ·cases h;exact V3 MH λ_ _=>.str _
include S
theorem Wi{op:UnaryOp}(h:Aj r c op a=some m):PE X (.UnaryOp op a pos) (LE X.K Ξ (aW P m)):=by
 unfold Aj at h;split at h
 ·rename_i ho;subst ho;obtain⟨ma,ha,rfl⟩:=aa.mp h;exact RI C.mono (S.e X c Ξ C _ _ ha)
 ·obtain⟨ma,ha,rfl⟩:=uq S C h;exact Yy C.mono ha
theorem IL{ops:List CmpOp}{bs:List Expr}(h:xI r c a ops bs=some m):PE X (.Compare a ops bs pos) (LE X.K Ξ (aW P m))/\PT X (.Compare a ops bs pos) (LT X.K Ξ (dg P (.fm m))):=by
 unfold xI at h;split at h
 ·rename_i op b;split at h
  ·cases h
  ·rename_i hm;have hm:behindInMarks op b=false:=by simpa using hm
   rcases orElse_some h with h|h
   ·obtain⟨neg,hn,h⟩:=ao.mp h;obtain⟨kvs,hk,h⟩:=ao.mp h;obtain⟨ma,ha,rfl⟩:=aa.mp h;obtain⟨x,p,rfl,hg,hd,hk⟩:=LO hk;have ho:op=if neg then .NotIn else .In:=by cases op<;>cases hn<;>rfl
    subst ho;exact⟨RG C.mono (C.B7 hg) (K3 hd).1 (C.wB x kvs hk) (S.e X c Ξ C _ _ ha) hm,RU C.mono (C.B7 hg) (K3 hd).1 (C.wB x kvs hk) (S.e X c Ξ C _ _ ha) hm⟩
   ·obtain⟨ma,mb,ha,hb,rfl⟩:=ur S C h;exact⟨Fn C.mono (Lf (uA C.units op) ha hb hm),RY C.mono (Ll (uA C.units op) ha hb hm)⟩
 ·split at h
  ·cases h
  ·rename_i hm;obtain⟨ma,ha,h⟩:=ao.mp h;obtain⟨mb,hb,h⟩:=ao.mp h;obtain⟨md,hd,rfl⟩:=aa.mp h;exact⟨a90 C.mono C.units (S.e X c Ξ C _ _ ha) (S.e X c Ξ C _ _ hb) (S.e X c Ξ C _ _ hd) (by simpa using hm),a78 C.mono C.units (S.e X c Ξ C _ _ ha) (S.e X c Ξ C _ _ hb) (S.e X c Ξ C _ _ hd) (by simpa using hm)⟩
 ·cases h
theorem Wf{lo hi st:Option Expr}{p2:Pos}(h:FX r c a lo hi st=some m):PE X (.Subscript a (.Slice lo hi st p2) pos) (LE X.K Ξ (aW P m)):=by
 cases lo<;>cases hi<;>cases st<;>first|(cases h;done)|skip
 ·obtain⟨ma,ha,rfl⟩:=uq S C h;exact a83 C.mono ha
 ·obtain⟨ma,mb,ha,hb,rfl⟩:=ur S C h;exact a82 C.mono ha hb
 ·obtain⟨ma,mb,ha,hb,rfl⟩:=ur S C h;exact a81 C.mono ha hb
theorem X'(h:FA r c a b=some m):PE X (.Subscript a b pos) (LE X.K Ξ (aW P m)):=by
 unfold FA at h;rcases orElse_some h with h|h
 ·obtain⟨q,hq,h⟩:=ao.mp h;have eb:∃p,b=.Slice q.1 q.2.1 q.2.2 p:=by cases b<;>first|(cases hq;exact⟨_,rfl⟩)|cases hq
  obtain⟨p,rfl⟩:=eb;exact Wf S C h
 ·split at h
  ·rename_i hb;rcases orElse_some h with h|h
   ·obtain⟨kvs,hk,h⟩:=ao.mp h;obtain⟨mb,jY,rfl⟩:=aa.mp h;obtain⟨x,p,rfl,hg,hd,hk⟩:=LO hk;exact Uj C.mono (C.B7 hg) (K3 hd).1 (C.wB x kvs hk) (S.e X c Ξ C _ _ jY) (MD hb)
   ·obtain⟨ma,mb,ha,jY,rfl⟩:=ur S C h;exact Fn C.mono (IP (XI C.units) ha jY (MD hb))
  ·cases h
theorem Wg{px:Pos}(hg:c.gl x=true)(h:Ak r c x e=some m):PE X (.Call (.Name x px) [e] [] pos) (LE X.K Ξ (aW P m)):=by
 unfold Ak at h;obtain⟨q,hq,h'⟩:=ao.mp h;clear h;have h:=h';clear h';obtain⟨p,pos',rfl⟩:=Z3 hq;obtain⟨y,as⟩:=q;dsimp only at h ⊢;split at h
 ·rename_i hc;simp only[Bool.and_eq_true,decide_eq_true_eq] at hc;obtain⟨⟨⟨⟨rfl,rfl⟩,hl⟩,hr⟩,tE⟩:=hc;rcases as with _|⟨a,_|⟨b,_|⟨_,_⟩⟩⟩
  ·cases h
  ·dsimp only at h;split at h
   ·rename_i ho;obtain⟨ma,ha,rfl⟩:=uq S C h;exact a88 C.mono C.calm ha (C.B7 hg) (C.blt _ hl) (C.B7 tE) (C.blt _ hr) (n4 ho)
   ·cases h
  ·dsimp only at h;split at h
   ·rename_i ho;rw[aS] at ho;obtain⟨ma,mb,ha,hb,rfl⟩:=ur S C h;exact a87 C.mono C.calm ha hb (C.B7 hg) (C.blt _ hl) (C.B7 tE) (C.blt _ hr) (by rw[n4 ho.1,n4 ho.2];rfl) (n4 ho.2)
   ·cases h
  ·cases h
 ·split at h
  ·rename_i hc;simp only[Bool.and_eq_true,decide_eq_true_eq] at hc;obtain⟨⟨⟨⟨rfl,rfl⟩,hl⟩,hr⟩,tE⟩:=hc;rcases as with _|⟨a,_|⟨_,_⟩⟩
   ·cases h
   ·dsimp only at h;split at h
    ·rename_i ho;obtain⟨ma,ha,rfl⟩:=uq S C h;exact Up C.mono C.calm ha (C.B7 hg) (C.blt _ hl) (C.B7 tE) (C.blt _ hr) (n4 ho)
    ·cases h
   ·cases h
  ·split at h
   ·rename_i hc;simp only[Bool.and_eq_true,decide_eq_true_eq] at hc;obtain⟨⟨⟨⟨rfl,rfl⟩,hl⟩,hr⟩,tE⟩:=hc;rcases as with _|⟨a,_|⟨_,_⟩⟩
    ·cases h
    ·dsimp only at h;split at h
     ·rename_i ho;obtain⟨ma,ha,rfl⟩:=uq S C h;exact Uk C.mono C.calm ha (C.B7 hg) (C.blt _ hl) (C.B7 tE) (C.blt _ hr) (n4 ho)
     ·cases h
    ·cases h
   ·cases h
theorem Tj{px:Pos}(h:KI r c x args=some m):PE X (.Call (.Name x px) args [] pos) (LE X.K Ξ (aW P m)):=by
 cases args with
 |nil =>
  have h2:Fu c x=some m:=h;unfold Fu at h2;split at h2
  ·rename_i ig;rw[aS] at ig;rcases orElse_some h2 with h2|h2
   ·obtain⟨f,hf,rfl⟩:=aa.mp h2;obtain⟨k,fa,fd,ps,F,hr,hm,hk⟩:=C.fns x f hf;exact a91 C.mono C.pass F hr (C.B7 ig.2) hm hk (K3 ig.1).1
   obtain⟨f,hf,rfl⟩:=aa.mp h2;obtain⟨k,C',fa,fd,ps,F,hr,hm,hC,jX,M⟩:=C.cls x f hf;exact a86 C.mono C.pass F M hC jX hr (C.B7 ig.2) hm (K3 ig.1).1
  ·cases h2
 |cons e es =>
  have h0:Fv r c x e es=some m:=h;clear h;have h:=h0;clear h0;unfold Fv at h;split at h
  ·rename_i ig;rw[aS] at ig;obtain⟨d1,d2,d3⟩:=K3 ig.1;rcases orElse_some h with h|h
   ·cases es with
    |nil=>exact Wg S C ig.2 h
    |cons _ _=>cases h
   ·obtain⟨ms,tB,h⟩:=ao.mp h;have ok:=DG tB;have pa:=vf S C tB;have ei:=n4 (env:=X.env) (es:=es) (ok e (by simp));have gR:=V1 (pos:=pos) (env:=X.env) (es:=es) λz hz=>ok z (by simp[hz]);rcases orElse_some h with h|h
    ·obtain⟨f,hf,rfl⟩:=aa.mp h;obtain⟨k,fa,fd,ps,F,hr,hm,hk⟩:=C.fns x f hf;exact Ug C.mono C.pass F hr (C.B7 ig.2) hm hk pa d1 ei gR
    ·rcases orElse_some h with h|h
     ·obtain⟨f,hf,rfl⟩:=aa.mp h;obtain⟨k,C',fa,fd,ps,F,hr,hm,hC,jX,M⟩:=C.cls x f hf;exact Ul C.mono C.pass F M hC jX hr (C.B7 ig.2) hm pa d1 ei gR
     ·split at h
      ·rename_i hb;obtain⟨p,hp,rfl⟩:=aa.mp h;obtain⟨v,hv,BG,hc⟩:=a59 (X:=X) C.calm C.units hp;exact RC C.mono hv hc (C.B7 ig.2) (C.blt x hb) BG pa d3 d1 ei gR
      ·cases h
  ·cases h
theorem Ti{mt:Str}{apos:Pos}(h:Fw r c o mt apos pos args=some m):PE X (.Call (.Attribute o mt apos) args [] pos) (LE X.K Ξ (aW P m)):=by
 unfold Fw at h;split at h
 ·rename_i hc;simp only[Bool.and_eq_true,decide_eq_true_eq] at hc;obtain⟨⟨hb,hl⟩,hn⟩:=hc;obtain⟨mo,ho,h⟩:=ao.mp h;obtain⟨ms,tB,h⟩:=ao.mp h;have ok:=DG tB;have pa:=vf S C tB;have po:=S.e X c Ξ C _ _ ho;have hf:methodCallForm args.length (backTo pos (starEach args X.env)) (backToKw pos (keywordEach [] X.env))=true:=by
   unfold methodCallForm;rw[Mf ok];have:args.length+0<30:=by omega
   show(true&&true&&decide (args.length+0<30))=true;rw[au this]
   rfl
  by_cases vM:mt="index"
  ·subst vM;rw[aJ rfl] at h;cases args with
   |nil=>cases h
   |cons e es =>
    cases h;exact a89 C.mono C.units po pa (P7 hb) hf hl (n4 (env:=X.env) (es:=es) (ok e (by simp))) (V1 (pos:=pos) (env:=X.env) (es:=es) λz hz=>ok z (by simp[hz]))
  rw[aF vM] at h;cases args with
  |nil =>
   cases tB;by_cases h0:(zh.lookup mt).isSome=true
   ·rw[aJ (by rw[h0];rfl)] at h;obtain⟨p,hp,rfl⟩:=aa.mp h;obtain⟨T,id,AH,sl,ty,AL,hk⟩:=aT7 (X:=X) hp;exact a85 C.mono AH sl ty AL hk po (P7 hb) hl
   rw[aF (by rw[aS];exact λz=>h0 z.2)] at h;split at h
   ·cases h
   ·cases h
  |cons e es =>
   have ei:=n4 (env:=X.env) (es:=es) (ok e (by simp));have gR:=V1 (pos:=pos) (env:=X.env) (es:=es) λz hz=>ok z (by simp[hz]);rw[aF (by simp)] at h;split at h
   ·rename_i p hp;cases h;obtain⟨T,id,AH,sl,ty,AL,hk⟩:=a25 (X:=X) C.units hp;exact Um C.mono AH sl ty AL hk po pa (P7 hb) hf hl ei gR
   ·cases h
 ·cases h
theorem GB{tg:Expr}(h:xc r c tg e=some m):PI X tg e (LI X.K Ξ (gS P m)):=by
 unfold xc at h;rcases orElse_some h with h|h
 ·obtain⟨q,hq,h'⟩:=ao.mp h;rename_i h0;clear h h0;have h:=h';clear h';obtain⟨p,pos',rfl⟩:=Z3 hq;obtain⟨y,as⟩:=q;dsimp only at h ⊢;split at h
  ·rename_i hy;subst hy;rcases as with _|⟨a,_|⟨_,_⟩⟩
   ·cases h
   ·dsimp only at h;split at h
    ·rename_i hc;simp only[Bool.and_eq_true] at hc;obtain⟨⟨⟨hg,hb⟩,ho⟩,ht⟩:=hc;obtain⟨ma,ha,rfl⟩:=aa.mp h;obtain⟨es,k,tp,rfl⟩:=a61 ht;exact Ut C.mono (S.e X c Ξ C _ _ ha) (C.B7 hg) (C.blt _ hb) (n4 ho)
    ·cases h
   ·cases h
  ·split at h
   ·rename_i hy;subst hy;rcases as with _|⟨a,_|⟨_,_⟩⟩
    ·cases h
    ·dsimp only at h;split at h
     ·rename_i hc;simp only[Bool.and_eq_true] at hc;obtain⟨⟨hg,hb⟩,ho⟩:=hc;obtain⟨ma,ha,rfl⟩:=aa.mp h;exact RN C.mono (S.e X c Ξ C _ _ ha) (C.B7 hg) (C.blt _ hb) (n4 ho)
     ·cases h
    ·cases h
   split at h
   ·rename_i hy;subst hy;rcases as with _|⟨a,_|⟨b,_|⟨_,_⟩⟩⟩
    ·cases h
    ·dsimp only at h;split at h
     ·rename_i hc;simp only[Bool.and_eq_true] at hc;obtain⟨⟨hg,hb⟩,ho⟩:=hc;obtain⟨ma,ha,rfl⟩:=aa.mp h;exact Uu C.mono (S.e X c Ξ C _ _ ha) (C.B7 hg) (C.blt _ hb) (n4 ho)
     ·cases h
    ·dsimp only at h;split at h
     ·rename_i hc;simp only[Bool.and_eq_true] at hc;obtain⟨⟨⟨hg,hb⟩,ho⟩,oN⟩:=hc;obtain⟨ma,ha,h⟩:=ao.mp h;obtain⟨mb,jY,rfl⟩:=aa.mp h;exact Uv C.mono (S.e X c Ξ C _ _ ha) (S.e X c Ξ C _ _ jY) (C.B7 hg) (C.blt _ hb) (by rw[n4 ho,n4 oN];rfl) (n4 oN)
     ·cases h
    ·cases h
   ·cases h
 ·split at h
  ·obtain⟨ma,ha,rfl⟩:=aa.mp h;exact RO C.mono (S.e X c Ξ C _ _ ha)
  ·cases h
theorem Dw{elt:Expr}{gens:List Comprehension}{sc:Scope}(h:sJ r c elt gens sc=some m):∃tg it ifs t mi mc me cl,gens=[⟨tg,it,ifs,0⟩]/\m=.comp (c.d4 sc) (frees sc++locals sc).length t mi mc me/\gT it=true /\
  dD X sc (frees sc++locals sc) (c.d4 sc) cl/\PI X tg it (LI X.K Ξ (gS P mi))/\(∀pins A s H fp,PG (d7 X pins sc (frees sc++locals sc) cl A s H fp) tg (LG X.K t)) /\
   (∀pins A s H fp,lQ (d7 X pins sc (frees sc++locals sc) cl A s H fp) ifs (LT X.K (oo Ξ.1) (dg P mc)))/\(∀pins A s H fp,PE (d7 X pins sc (frees sc++locals sc) cl A s H fp) elt (LE X.K (oo Ξ.1) (aW P me))):=by
 unfold sJ at h;rcases gens with _|⟨⟨tg,it,ifs,GK⟩,_|⟨_,_⟩⟩
 ·cases h
 ·dsimp only at h;split at h
  ·rename_i hs;simp only[Bool.and_eq_true,decide_eq_true_eq] at hs;obtain⟨⟨hs,rfl⟩,hit⟩:=hs;obtain⟨t,h1,h⟩:=ao.mp h;obtain⟨mi,h2,h⟩:=ao.mp h;obtain⟨mc,h3,h⟩:=ao.mp h;obtain⟨me,h4,rfl⟩:=aa.mp h;obtain⟨cl,Sc,I⟩:=C.comp hs;exact⟨tg,it,ifs,t,mi,mc,me,cl,rfl,rfl,hit,Sc,GB S C h2,λpins A s H fp=>(I pins A s H fp).Io h1,λpins A s H fp=>Wh S (I pins A s H fp) h3,λpins A s H fp=>S.e _ _ _ (I pins A s H fp) elt me h4⟩
  ·cases h
 ·cases h
omit S in
theorem We{f:Expr}{jz:List Keyword}(h:xZ c f args jz=some m):PE X (.Call f args jz pos) (LE X.K Ξ (aW P m)):=by
 unfold xZ at h;cases h
theorem NT:∀e m,IW r c e=some m->PE X e (LE X.K Ξ (aW P m)):=by
 intro e m h;cases e with
 |Name x p=>exact QK C h
 |Constant k j p =>
  obtain⟨d,hd,rfl⟩:=aa.mp (show(sC k).map ME.lit=some m from h);exact AK hd
 |BinOp a op b p =>
  obtain⟨ma,mb,ha,hb,rfl⟩:=ur S C h;exact Fn C.mono (Ym (QN op) ha hb)
 |UnaryOp op a p=>exact Wi S C h
 |Compare a ops bs p=>exact(IL S C h).1
 |BoolOp op vs p=>exact NV S C h
 |IfExp t a b p =>
  obtain⟨mt,ht,h⟩:=ao.mp h;obtain⟨ma,ha,h⟩:=ao.mp h;obtain⟨mb,hb,rfl⟩:=aa.mp h;exact RH C.mono (S.t X c Ξ C _ _ ht) (S.e X c Ξ C _ _ ha) (S.e X c Ξ C _ _ hb)
 |Tuple es k p =>
  obtain⟨ma,ha,rfl⟩:=aa.mp h;exact RJ C.mono (vf S C ha)
 |List es p =>
  obtain⟨ma,ha,rfl⟩:=aa.mp h;exact Kv C.mono (vf S C ha)
 |Subscript a b p=>exact X' S C h
 |Dict ks vs p =>
  have h2:(if ks.isEmpty&&vs.isEmpty then some (ME.prim .oZ .nil) else if decide (ks.length<=15) then(xa r c ks vs).map .qc else none)=some m:=h;split at h2
  ·rename_i hc;cases ks<;>cases vs<;>first|(cases hc;done)|skip
   cases h2;exact Uh
  ·rename_i hc;split at h2
   ·rename_i hl;obtain⟨ms,hm,rfl⟩:=aa.mp h2;obtain⟨iE,D⟩:=NU S C hm;refine RD C.mono D (λz=>hc ?_) (bJ hl);have:=D.len.2;subst z;cases vs<;>first|rfl|cases this
   ·cases h2
 |JoinedStr vs p =>
  have h2:(if decide (2<=vs.length)&&decide (vs.length<=40) then(ud r c vs).map (ME.prim .mx) else none)=some m:=h;split at h2
  ·rename_i hc;simp only[Bool.and_eq_true,decide_eq_true_eq] at hc;obtain⟨ms,hm,rfl⟩:=aa.mp h2;obtain⟨ts,F⟩:=NS S C hm;rcases vs with _|⟨v1,_|⟨v2,vs⟩⟩
   ·simp at hc
   ·simp at hc
   ·exact Ui C.mono F hc.2
  ·cases h2
 |Attribute o f p =>
  have h2:(if yS o then c1 r c (.fld f) o else none)=some m:=h;split at h2
  ·rename_i hb;obtain⟨ma,ha,rfl⟩:=uq S C h2;exact RE C.mono ha (P7 hb)
  ·cases h2
 |Call f args jz pos =>
  have h1:((Al r c f args jz).orElse λ_=>(xZ c f args jz).orElse λ_=>EU r c f args jz pos)=some m:=h;rcases orElse_some h1 with h2|h2
  ·unfold Al at h2;rcases args with _|⟨a,_|⟨_,_⟩⟩
   ·cases h2
   ·dsimp only at h2;split at h2
    ·rename_i hk;simp only[Bool.and_eq_true,decide_eq_true_eq] at hk;obtain⟨⟨⟨hk,hf⟩,nB⟩,hb⟩:=hk;cases jz<;>first|(cases hk;done)|skip
     obtain⟨q,hq,h3⟩:=ao.mp h2;obtain⟨m1,h4,h5⟩:=ao.mp h3;cases f<;>first|(cases hf;done)|skip
     cases a<;>first|(cases hq;done)|skip
     cases hf;cases hq;obtain⟨tg,it,ifs,t,mi,mc,me,cl,eg,rfl,hit,Sc,q1,q2,q3,q4⟩:=Dw S C h4;dsimp only at eg;subst eg;cases h5;exact a84 C.mono Sc C.calm q1 q2 q3 q4 (zC hit) (C.B7 nB) (C.blt _ hb)
    ·cases h2
   ·cases h2
  clear h h1;rcases orElse_some h2 with h3|h3
  ·exact We C h3
  clear h2;unfold EU at h3;split at h3
  ·rename_i hk;cases jz<;>first|(cases hk;done)|skip
   cases f with
   |Name x p=>exact Tj S C h3
   |Attribute o a p=>exact Ti S C h3
   |_=>cases h3
  ·cases h3
 |Set es k p =>
  have h2:Fz c es k=some m:=h;unfold Fz at h2;split at h2
  ·rename_i hc;rw[aS] at hc;obtain rfl:=bJ hc.2;split at h2
   ·cases h2;exact Uo C.mono (C.code hc.1)
   ·cases h2
  ·cases h2
 |ListComp elt gens sc p =>
  obtain⟨tg,it,ifs,t,mi,mc,me,cl,rfl,rfl,hit,Sc,q1,q2,q3,q4⟩:=Dw S C h;exact(Lg Sc C.calm q1 q2 q3 q4 (zC hit)).imp λZ H Q h=>LK C.mono Z H Q h
 |_=>cases h
theorem NQ:∀e m,stepT r c e=some m->PT X e (LT X.K Ξ (dg P m)):=by
 intro e m h;have plain:∀{e:Expr} {m:ME},(if Ek e then(r.e c e).map ME.fm else none)=some m->PT X e (LT X.K Ξ (dg P m)):=λ{e m} h=>by
  split at h
  ·rename_i hp;obtain⟨ma,ha,rfl⟩:=aa.mp h;exact RZ C.mono (S.e X c Ξ C _ _ ha) (a02 hp)
  ·cases h
 cases e with
 |UnaryOp op a p =>
  have h2:(if op=.Not then(r.t c a).map ME.dE else none)=some m:=h;split at h2
  ·rename_i ho;subst ho;obtain⟨ma,ha,rfl⟩:=aa.mp h2;exact RX C.mono (S.t X c Ξ C _ _ ha)
  ·cases h2
 |BoolOp op vs p=>exact(NP S C h).pt
 |Compare a ops bs p =>
  obtain⟨ma,ha,rfl⟩:=aa.mp (show(xI r c a ops bs).map ME.fm=some m from h);exact(IL S C ha).2
 |_=>exact plain h
end
section
theorem LH(h:IC e=some m):PE X e (LE X.K Ξ (aW P m))/\gT e=true:=by
 cases e<;>first|(cases h;done)|skip
 obtain⟨d,hd,rfl⟩:=aa.mp (show(sC _).map ME.lit=some m from h);exact⟨AK hd,rfl⟩
theorem a49(hP:j4 P):∀{es:List Expr} {m:ME},yN es=some m->PA X es (LA X.K Ξ (gs P m)):=by
 intro es
 induction es with
 |nil=>intro m h;cases h;exact L7 hP
 |cons e es ih =>
  intro m h;unfold yN at h;obtain⟨m1,h1,h⟩:=ao.mp h;obtain⟨m2,h2,rfl⟩:=aa.mp h;exact C8 hP (LH h1).1 (ih h2) (n4 (LH (X:=X) (Ξ:=Ξ) (P:=P) h1).2)
theorem UT(hP:j4 P)(h:IB e=some m):PE X e (LE X.K Ξ (aW P m)):=by
 cases e<;>first|(cases h;done)|skip
 ·obtain⟨d,hd,rfl⟩:=aa.mp (show(sC _).map ME.lit=some m from h);exact AK hd
 ·obtain⟨ms,hm,rfl⟩:=aa.mp h;exact Kv hP (a49 hP hm)
theorem aW4{h:ExceptHandler}{q:Str×Expr}(hq:EZ h=some q):∃p p1 p2,h=.ExceptHandler (some (.Name q.1 p)) none [.Return (some q.2) p1] p2:=by
 obtain⟨t,n,b,p0⟩:=h;unfold EZ at hq;cases n with
 |some _=>cases hq
 |none =>
  obtain⟨t,rfl,hq⟩:=ao.mp (show t.bind _=some q from hq);obtain⟨y,hy,hq⟩:=ao.mp hq;obtain⟨e,he,rfl⟩:=aa.mp hq;obtain⟨p,rfl⟩:=Em hy;rcases b with _|⟨s,_|⟨_,_⟩⟩
  ·cases he
  ·cases s<;>first|(cases he;done)|(cases he;exact⟨_,_,_,rfl⟩)
  ·cases he
theorem US(C:ie X c P Ξ)(Bw:xn X Ξ.2):∀{hs:List ExceptHandler} {ms:List (Str×ME)},xb c hs=some ms->mD X Ξ P hs ms:=by
 intro hs
 induction hs with
 |nil=>intro ms h;cases h;exact .nil Bw
 |cons hd hs ih =>
  intro ms h;unfold xb at h;obtain⟨q,hq,h'⟩:=ao.mp h;clear h;have h:=h';clear h';obtain⟨p,p1,p2,rfl⟩:=aW4 hq;obtain⟨y,e⟩:=q;dsimp only at h ⊢;split at h
  ·rename_i hc;simp only[Bool.and_eq_true] at hc;obtain⟨m,h1,h⟩:=ao.mp h;obtain⟨GD,h2,rfl⟩:=aa.mp h;obtain⟨C',hm,hi,_⟩:=C.exc y hc.1.1;refine .cons (C.B7 hc.1.2) (K3 hc.2).1 hm (λx C1 hx h1=>C.Ct x y C1 C' ?_ hc.1.1 h1 hi) (λea=>UT (X:=H9 X ea) C.mono h1) (ih h2);rw[C.yF] at hx;simpa using hx
  ·cases h
theorem aM2{e f:Option Expr}{q:Str×Expr×List Expr}(h:Dh e f=some q):f=none/\∃p p',e=some (.Call (.Name q.1 p) (q.2.1::q.2.2) [] p'):=by
 unfold Dh at h;cases f with
 |some _=>cases h
 |none =>
  obtain⟨t,rfl,h⟩:=ao.mp (show e.bind _=some q from h);obtain⟨z,hz,h⟩:=ao.mp h;obtain⟨p,p',rfl⟩:=Z3 hz;obtain⟨x,as⟩:=z;cases as with
  |nil=>cases h
  |cons a as=>cases h;exact⟨rfl,_,_,rfl⟩
theorem Sa{o1 i1 o2 i2:Expr}{p1 p2 p:Pos}:swappedStores [.Tuple [.Subscript o1 i1 p1,.Subscript o2 i2 p2] k p] e env=pure none:=by
 cases e<;>first|rfl|skip
 unfold swappedStores;show(if _ then _ else _)=_;split
 ·rfl
 show(if _ then _ else _)=_;split
 ·rfl
 rfl
theorem SQ(C:ie X c P Ξ){f:Str}:EX X.K f (c.CY f):=λy C' h hC=>by
 unfold i7.CY at h;obtain⟨⟨f',y'⟩,h1,h2⟩:=aL.mp h;obtain⟨h3,h4⟩:=bo.mp h1;cases h2;have:f'=f:=by simpa using h4
 subst this;exact C.om f' y' C' h3 hC
variable(S:qk P r)(C:ie X c P Ξ)
include S C
theorem XZ{tg:Expr}{m:MS}(hS:∀e m,r.e c e=some m->C3 e=false->∃elt gens sc p,e=.ListComp elt gens sc p/\∃r',qk P r'/\sJ r' c elt gens sc=some m)(hT:∀a b k p m,r.e c (.Tuple [a,b] k p)=some m->∃r' ms,qk P r'/\L5 r' c [a,b]=some ms/\m=.prim .tup ms)(h:Ii r c tg e=some m):PS X (.Assign [tg] e pos) (LS X.K Ξ (wpS P m)):=by
 cases tg with
 |Name x px =>
  have h2:(if c.B9 x then(c.idx x).bind λi=>(r.e c e).map λm=>MS.set i m else none)=some m:=h;split at h2
  ·rename_i hl;obtain⟨i,hi,h2⟩:=ao.mp h2;obtain⟨me,he,rfl⟩:=aa.mp h2;cases hn:C3 e with
   |true=>exact KA C.mono (Ks C.tj (C.sj hi) (C.B9 hl).1 (S.e X c Ξ C _ _ he) (Ei hn) (C.B9 hl).2)
   |false =>
    obtain⟨elt,gens,sc,p,rfl,r',S',hx⟩:=hS e me he hn;obtain⟨tg,it,ifs,t,mi,mc,me,cl,rfl,rfl,hit,Sc,q1,q2,q3,q4⟩:=Dw S' C hx;refine KA C.mono ?_;exact(aK9 Sc C.calm q1 q2 q3 q4 (zC hit) C.tj (C.sj hi) (C.B9 hl).1 (C.B9 hl).2).imp λN Z H h=>LK C.mono Z H _ h
  ·cases h2
 |Tuple es k pt =>
  have h0:((yL es).elim (if uk e&&C3 e then(c.slots es).bind λis=>(r.e c e).map λm=>MS.lY (.many is) m else none) λq=>if C3 e&&gT q.2.1&&gT q.2.2.2 then(r.e c q.1).bind λm1=>(r.e c q.2.1).bind λn1=>(r.e c q.2.2.1).bind λm2=>(r.e c q.2.2.2).bind λn2=>(r.e c e).map λm=>MS.qv m1 n1 m2 n2 m else none)=some m:=h;cases hq:yL es with
  |some q =>
   rw[hq] at h0;dsimp only[Option.elim] at h0;split at h0
   ·rename_i hc;simp only[Bool.and_eq_true] at hc;obtain⟨⟨hn,k1⟩,k2⟩:=hc;unfold yL at hq;split at hq
    ·cases hq;obtain⟨m1,h1,h0⟩:=ao.mp h0;obtain⟨n1,h2,h0⟩:=ao.mp h0;obtain⟨m2,h3,h0⟩:=ao.mp h0;obtain⟨n2,h4,h0⟩:=ao.mp h0;obtain⟨me,he,rfl⟩:=aa.mp h0;exact Sf C.mono C.calm C.units (S.e X c Ξ C _ _ h1) (S.e X c Ξ C _ _ h2) (S.e X c Ξ C _ _ h3) (S.e X c Ξ C _ _ h4) (S.e X c Ξ C _ _ he) (Dx k1) (Dx k2) (Y4 hn) Sa
    ·cases hq
   ·cases h0
  |none =>
  rw[hq] at h0;have h2:(if uk e&&C3 e then(c.slots es).bind λis=>(r.e c e).map λm=>MS.lY (.many is) m else none)=some m:=h0;split at h2
  ·rename_i hn;rw[aS] at hn;obtain⟨is,hs,h2⟩:=ao.mp h2;obtain⟨me,he,rfl⟩:=aa.mp h2;exact Si C.mono (Fm (S.e X c Ξ C _ _ he) (Lu C.calm C.tj (C.slots hs)) (Y4 hn.2) (Vh hn.1))
  ·cases h2
 |Subscript o i pt =>
  have h2:(if gT i&&C3 e then(r.e c o).bind λmo=>(r.e c i).bind λmi=>(r.e c e).map λm=>MS.eP mo mi m else none)=some m:=h;split at h2
  ·rename_i hn;rw[aS] at hn;obtain⟨mo,ho,h2⟩:=ao.mp h2;obtain⟨mi,hi,h2⟩:=ao.mp h2;obtain⟨me,he,rfl⟩:=aa.mp h2;exact a76 C.mono C.units (S.e X c Ξ C _ _ he) (S.e X c Ξ C _ _ ho) (S.e X c Ξ C _ _ hi) (Y4 hn.2) (Dx hn.1)
  ·cases h2
 |Attribute o f pt =>
  obtain⟨mo,ho,h⟩:=ao.mp h;obtain⟨me,he,rfl⟩:=aa.mp h;exact UC C.mono (SQ C) (S.e X c Ξ C _ _ ho) (S.e X c Ξ C _ _ he) (by cases e<;>rfl)
 |_=>cases h
theorem NR(hS:∀e m,r.e c e=some m->C3 e=false->∃elt gens sc p,e=.ListComp elt gens sc p/\∃r',qk P r'/\sJ r' c elt gens sc=some m)(hT:∀a b k p m,r.e c (.Tuple [a,b] k p)=some m->∃r' ms,qk P r'/\L5 r' c [a,b]=some ms/\m=.prim .tup ms) :
  ∀st m,IX r c st=some m->PS X st (LS X.K Ξ (wpS P m)):=by
 intro st m h;have hP:=C.mono;cases st with
 |AugAssign tg op e p =>
  cases tg with
  |Name x tp =>
   have h2:(if c.B9 x then(Iy op).bind λp=>(c.idx x).bind λi=>(r.e c e).map λm=>MS.kd i p m else none)=some m:=h;split at h2
   ·rename_i hl;obtain⟨p,hp,h2⟩:=ao.mp h2;obtain⟨i,hi,h2⟩:=ao.mp h2;obtain⟨me,he,rfl⟩:=aa.mp h2;refine UA C.mono ?_ C.tj (C.sj hi) (C.B9 hl).1 (C.B9 hl).2 (S.e X c Ξ C _ _ he);cases op<;>first|(cases hp;done)|skip
    ·cases hp;exact .inl ⟨rfl,rfl⟩
    ·cases hp;exact .inr ⟨rfl,rfl⟩
   ·cases h2
  |_=>cases h
 |Expr e p =>
  have h2:(if C3 e then(r.e c e).map MS.expr else none)=some m:=h;split at h2
  ·rename_i hn;obtain⟨me,he,rfl⟩:=aa.mp h2;exact UB hP (S.e X c Ξ C _ _ he) (Ei hn)
  ·cases h2
 |Assign Aw e p =>
  rcases Aw with _|⟨tg,_|⟨_,_⟩⟩
  ·cases h
  ·exact XZ S C hS hT h
  ·cases h
 |If t a b p =>
  obtain⟨mt,ht,h⟩:=ao.mp h;obtain⟨ma,ha,h⟩:=ao.mp h;obtain⟨mb,hb,rfl⟩:=aa.mp h;exact YB hP (S.t X c Ξ C _ _ ht) (tW S C ha) (tW S C hb)
 |For tg it body oV p =>
  have h2:(if c.mP&&(oV.isEmpty&&gT it) then(c.tg tg).bind λt=>(xc r c tg it).bind λmi=>(x5 r c body).map λmb=>MS.dw t mi mb else none)=some m:=h;split at h2
  ·rename_i hc;rw[aS,aS] at hc;cases oV<;>first|(cases hc.2.1;done)|skip
   obtain⟨t,h1,h2⟩:=ao.mp h2;obtain⟨mi,h3,h2⟩:=ao.mp h2;obtain⟨mb,h4,rfl⟩:=aa.mp h2;exact Se hP (C.own hc.1) C.calm (GB S C h3) (C.Io h1) (tW S C h4) (zC hc.2.2)
  ·cases h2
 |While t body oV p =>
  have h2:(if c.mP&&oV.isEmpty then(r.t c t).bind λmt=>(x5 r c body).map λmb=>MS.kq mt mb else none)=some m:=h;split at h2
  ·rename_i hc;rw[aS] at hc;cases oV<;>first|(cases hc.2;done)|skip
   obtain⟨mt,h1,h2⟩:=ao.mp h2;obtain⟨mb,h4,rfl⟩:=aa.mp h2;exact a75 hP (C.own hc.1) (S.t X c Ξ C _ _ h1) (tW S C h4)
  ·cases h2
 |Return e p =>
  cases e with
  |none=>cases h;exact(TX (X:=X)).imp λN bZ H ⟨Z,g,ρ,s,R,h⟩=>LQ.now h R .bN
  |some e =>
   obtain⟨me,he,rfl⟩:=aa.mp (show(r.e c e).map (λm=>MS.ret (toR c e m))=some m from h);refine Kz hP ?_;exact S.e X c Ξ C _ _ he
 |Raise e f p =>
  obtain⟨q,hq,h2⟩:=ao.mp h;clear h;obtain⟨rfl,px,p2,rfl⟩:=aM2 hq;obtain⟨x,e,es⟩:=q;dsimp only at h2 ⊢;split at h2
  ·rename_i hc;simp only[Bool.and_eq_true] at hc;obtain⟨ma,ha,rfl⟩:=aa.mp h2;have ok:=DG ha;obtain⟨C',hm,hi,B,nI,iI,bm,O,FB⟩:=C.exc x hc.1.1.2;exact a77 hP C.calm O FB (C.B7 hc.1.2) (vf S C ha) (C.jT hc.1.1.1) (by rw[C.yF];simpa using hc.1.1.2) hi (n4 (ok e (by simp))) (V1 λz hz=>ok z (by simp[hz])) (K3 hc.2).1
  ·cases h2
 |Try body hs el fi p =>
  have h2:(if c.jx&&!hs.isEmpty&&el.isEmpty&&fi.isEmpty then(x5 r { c with jT:=false,jx:=false } body).bind λmb=>(xb c hs).map λms=>MS.pq mb ms else none)=some m:=h;split at h2
  ·rename_i hc;simp only[Bool.and_eq_true] at hc;obtain⟨⟨⟨ht,hh⟩,he⟩,hf⟩:=hc;cases el<;>first|(cases he;done)|skip
   cases fi<;>first|(cases hf;done)|skip
   cases hs<;>first|(cases hh;done)|skip
   obtain⟨mb,h1,h2⟩:=ao.mp h2;obtain⟨ms,h3,rfl⟩:=aa.mp h2;obtain⟨ei,hf,Bw⟩:=C.jx ht;exact Sg hP ei hf (λpins D=>tW S (C.pq ei hf pins D _) h1) (US C Bw h3)
  ·cases h2
 |Pass p=>cases h;exact(TU (X:=X)).imp λN bZ H ⟨Z,g,ρ,s,R,h⟩=>h ρ H bZ (.refl _ _) R s
 |_=>cases h
end
theorem aL8(h:(comp (n+1)).e c e=some m)(hn:C3 e=false):∃elt gens sc p,e=.ListComp elt gens sc p/\sJ (comp n) c elt gens sc=some m:=by
 cases e<;>first|(cases hn;done)|(cases h;done)|exact⟨_,_,_,_,rfl,h⟩
theorem snd:∀n,(∀k,k<=n->qk P (comp k)):=by
 intro n
 induction n with
 |zero =>
  intro k hk;obtain rfl:=Nat.le_zero.mp hk;exact⟨λ_ _ _ _ _ _ h=>(by cases h),λ_ _ _ _ _ _ h=>(by cases h),λ_ _ _ _ _ _ h=>(by cases h)⟩
 |succ n ih =>
  intro k hk;rcases gy k (n+1) with eE|hge
  ·exact ih k ()
  obtain rfl:k=n+1:=by omega
  have I:=ih n (ay n);refine⟨λX c Ξ C e m h=>NT I C e m h,λX c Ξ C e m h=>NQ I C e m h,λX c Ξ C st m h=>?_⟩;rcases orElse_some h with h|h
  rotate_left
  ·cases h;exact λpins s Z H D I q=>by obtain⟨_,_,_,_,_,z⟩:=q;exact(show False from z).elim
  refine NR I C (λe m he hn=>?_) (λa b k p m he=>?_) st m h
  ·cases n with
   |zero=>cases he
   |succ n =>
    obtain⟨elt,gens,sc,p,rfl,hx⟩:=aL8 he hn;exact⟨_,_,_,_,rfl,comp n,ih n (),hx⟩
  ·cases n with
   |zero=>cases he
   |succ n =>
    obtain⟨ms,hm,rfl⟩:=aa.mp (show(L5 (comp n) c [a,b]).map (ME.prim .tup)=some m from he);exact⟨comp n,ms,ih n (),hm,rfl⟩
structure pC where
 nm:Str
 qn:Str
 N:List Str
 ps:List Str
 st:Stmt
def i7.at(c:i7)(d:pC):i7:={ c with N:=d.N,nm:=(s9 d.st).names,mP:=true,jT:=true,jx:=true }
structure jM(K:PySem.W.Frag)(c:i7)(d:pC)(m:aX)(f:Addr)(fd:FuncData):Prop where
 fn:ql K d.nm d.qn d.st f fd
 bi:Binds K fd d.ps []
 sc:iY d.N d.ps (s9 d.st)
 co:x5 (comp 60) (c.at d) (u4 d.st)=some m.body
 ar:m.ar=d.ps.length
 nn:m.n=d.N.length
structure nQ(w:World)(K:PySem.W.Frag)(mg:Str->Option Value)(c:i7)(T:Nat->Option aX):Prop where
 fns:∀x i,c.fns.lookup x=some i->∃d m f fd,T i=some m/\jM K c d m f fd/\mg x=some (.ref f)
 cls:∀x i,c.cls.lookup x=some i->∃C d m f fd,T i=some m/\jM K c d m f fd/\mg x=some (.ref C)/\u9 K x C/\kj K C/\Mk K C f
 pN:∀x y i C,(x,y,i)∈c.pN->u9 K y C->∃d m f fd,T i=some m/\jM K c d m f fd/\Meth K C x f
 om:∀f y C,(f,y)∈c.om->u9 K y C->E3 K C f
 con:∀x d,c.con.lookup x=some d->∃v u,mg x=some u/\RelV v u/\∀ρ H,d8 K ρ H d v
 blt:∀x,c.blt.contains x=true->mg x=none
 Cu:∀x,c.exc.contains x=true->∃C,mg x=some (.ref C)/\u9 K x C/\∀base:Heap,K.In base->base.Ns mainGlobals mg->∃B newId gW bm,OwnCls x C bm newId mg base/\ExcBaseFacts B newId gW bm
 Cs:∀x y C C',c.exc.contains x=true->c.exc.contains y=true->u9 K x C->u9 K y C'->PySem.W.exmOne K (.ref C) (.ref C')=some (decide (x=y\/y="MintError"))
 rL:∀x kvs,c.gd.lookup x=some kvs->∃A vs,mg x=some (.ref A)/\wY K w.params A vs/\qe K kvs vs
section
variable{Pg:Program}{w:World}{K:PySem.W.Frag}{mg:Str->Option Value}{base:Heap}{T:Nat->Option aX}
theorem Zr{q:Str}(h:PySem.W.codeIn K cd q=true):PySem.W.kdsCode K cd=true:=by
 unfold PySem.W.codeIn at h;unfold PySem.W.kdsCode;split at h
 ·dsimp only;split at h
  ·rename_i e;rw[e]
  ·cases h
 ·cases h
theorem Tw:Passes (js Pg w) (oY (js Pg w) Pg w K mg base N qual scope f cd A outer s H E) E:=λpins Z H1 s1 e s' I h=>by
 obtain⟨C,H',J,fl,hE⟩:=I.flew h;exact aH1 J fl (λb o q=>I.base.there b o q (by intro z;cases z)) rfl rfl rfl hE
theorem a96:yW (oY (js Pg w) Pg w K mg base N qual scope f cd A outer s H E) E:=λpins Z H1 s1 h' ea C vs I hm hE =>
 aU5 I hm rfl rfl rfl hE
theorem SS:xn (oY (js Pg w) Pg w K mg base N qual scope f cd A outer s H E) E:=λpins Z H1 H2 s1 s2 B ea C a0 I l hh hE =>
 leave_held I l hh rfl rfl rfl hE
theorem Dk{m:aX}(hT:T i=some m){ds:List D}{g:G}{Q:KD}{E:KX}(h:c5 T k i ds g Q E):ds.length=m.ar:=by
 cases k with
 |zero=>exact h.elim
 |succ k =>
  obtain⟨m',e,h,_⟩:=h;rw[hT] at e;cases e;exact h
theorem YZ(nW:K.In base)(wz:base.Ns mainGlobals mg)(A:nQ w K mg c T):∀(k i:Nat) d m f fd,T i=some m->jM K c d m f fd->iC Pg w K mg base (js Pg w) (2*k) f fd d.ps (pL c.exc K d.ps.length (c5 T k i)):=by
 intro k
 induction k with
 |zero =>
  intro i d m f fd hm O;refine⟨λvs H Q E h=>h.1,λA outer s H args us vs Q E _ _ _ _ h=>?_⟩;obtain⟨_,_,_,_,_,_,q⟩:=h;exact q.elim
 |succ k ih =>
  intro i d m f fd hm O;obtain⟨oc,od,kV,doc,pm,an,fY,ct,mL,rfl,lk,mq⟩:=O.fn.ex;refine Xx (k:=2*k+1) lk mq O.sc (λvs H Q E h=>h.1) (λA0 outer s H vs Q E hr h=>?_);obtain⟨hl,xs,g,ρ,rs,R,q⟩:=h;have C:ie (oY (js Pg w) Pg w K mg base d.N d.qn (s9 d.st) f fY A0 outer s H E) (c.at d) (c5 T k) (c.exc,E):=by
   refine⟨rfl,O.sc.nd,λx h=>h,λx h=>h,λx h=>.inr h,λx h=>h,λx h=>?_,λ_ _=>rfl,rfl,?_,(λ_=>PassesOwn.leaving),a8 T k,A.con,A.blt,λx j hj=>?_,λx j hj=>?_,λx y j C' hj hC=>?_,A.om,rfl,Tw,λ_=>a96,λ_=>⟨rfl,rfl,SS⟩,λx hx=>?_,A.Cs,A.rL,λ_=>Zr mq⟩
   ·rcases h with h|h
    ·exact DF h
    ·exact absurd rfl (O.sc.nk _ (aQ h))
   ·have:=hr.un;show(A0.deeper _).units+100<cLine;omega
   ·obtain⟨d',m',f',qa,hT,O',hmg⟩:=A.fns x j hj;exact⟨2*k,f',qa,d'.ps,⟨ih j d' m' f' qa hT O',O'.bi,λIb g' Q' E' h'=>(Dk hT h').trans O'.ar⟩,hr.mono (),hmg,O'.fn.kp⟩
   ·obtain⟨C',d',m',f',qa,hT,O',hmg,hC,jX,M⟩:=A.cls x j hj;exact⟨2*k,C',f',qa,d'.ps,⟨ih j d' m' f' qa hT O',O'.bi,λIb g' Q' E' h'=>(Dk hT h').trans O'.ar⟩,hr,hmg,hC,jX,M⟩
   ·obtain⟨d',m',f',qa,hT,O',M⟩:=A.pN x y j C' hj hC;exact⟨2*k,f',qa,d'.ps,M,⟨ih j d' m' f' qa hT O',O'.bi,λIb g' Q' E' h'=>(Dk hT h').trans O'.ar⟩,hr.mono ()⟩
   ·obtain⟨C,h1,h2,h3⟩:=A.Cu x hx;exact⟨C,h1,h2,h3 base nW wz⟩
  refine⟨_,tW (snd (P:=c5 T k) 60 60 (ay _)) C O.co,?_⟩;obtain⟨m',e,q1,q⟩:=q;rw[hm] at e;cases e;refine⟨c7 m xs,g,ρ,?_,R,wpS_mono (a8 T k) m.body ⟨λ_ g'=>LQ K ρ H Q .bN g',LQ K ρ H Q,λ_ _=>False,λ_ _=>False⟩ _ _ _ _ _ ⟨λZ g' h bL H' du e R' s'=>h bL H' _ e R' .bN,λd g' h=>h,λ_ _ h=>h.elim,λ_ _ h=>h.elim⟩ (λ_ _ z=>z) q⟩;have:=o8.start (n:=d.N.length) rs;unfold c7 L2.start;rw[O.nn];exact this
theorem Zw{L k0:Nat}{a:Addr}{ns:List Int}(hO:zG H)(hS:fM K H a (ns.map V.int))(h:c5 T k0 L [.ref 0] [.oS (ns.map .int)] (λd _=>d=.bl true) iX) :
  pL exc K 1 (c5 T k0 L) [.ref a] H (λv _=>v=.bl true) λ_ _ _=>False:=by
 refine⟨rfl,[.ref 0],[.oS (ns.map .int)],[a],.cons (.ref rfl) .nil,⟨rfl,λi o b h1 h2=>?_,λi j l m b h1 h2 m1=>?_⟩,a8 T k0 _ _ _ _ _ _ _ (λd g' e bL H' v _ _ r=>?_) (λ_ _ z=>z.elim) h⟩
 ·cases i with
  |zero =>
   cases h1;cases h2;refine⟨_,?_,c8.ofInts ns⟩;rcases hS with(z|⟨o,z⟩)|z
   ·rcases hO a with q|⟨o,xs,q⟩
    ·rw[z] at q;cases q
    ·rw[z] at q;cases q
   ·exact .inl ⟨o,z⟩
   ·exact .inr z
  |succ i=>simp at h1
 ·cases i with
  |zero=>cases h1;cases m1
  |succ i=>simp at h1
 ·subst e;cases r
  rfl
end
end M
namespace M
open PySem L2
variable{P:fk}{g:G}{Q:Bool->G->Prop}{E:KX}{N:Ends}{a i n:Nat}{b:Bool}{c f:Str}{o cond elt:ME}{x y d v:D}{j:Int}{l:List D}{ns:List Int}{A B:Prop}{kvs:List (Key×D)}{k:Key}{kg:G->Prop}{d4:List Nat}{R:IK->G->Prop}
section
variable{Z:S}{Q:KD}{a b c:ME}{x y:MS}{p:Pr}
theorem q9(h:N.nx Z g):wpS P .pass N Z g E:=h
theorem xj(h:wpS P x ⟨λiU g1=>wpS P y N iU g1 E,N.rt,N.bk,N.ct⟩ Z g E):wpS P (.seq x y) N Z g E:=h
theorem Q6(h:wpS P x N Z g E):wpS P (.seq x .pass) N Z g E:=h
theorem Sx(h:aW P a Z g (λ_ g1=>N.nx Z g1) E):wpS P (.expr a) N Z g E:=h
theorem xk(h:aW P a Z g (λx g1=>N.nx (Z.set i (some x)) g1) E):wpS P (.set i a) N Z g E:=h
theorem YX{t:MT}(h:aW P a Z g (λx g1=>jF t x Z λiU=>N.nx iU g1) E):wpS P (.lY t a) N Z g E:=h
theorem Lx{i:ME}(h:aW P a Z g (λx g1=>aW P o Z g1 (λy g2=>aW P i Z g2 (λz g3=>S1 y z x g3 λg4=>N.nx Z g4) E) E) E):wpS P (.eP o i a) N Z g E:=h
theorem SD{cs:List Str}(h:aW P a Z g (λx g1=>aW P o Z g1 (λy g2=>xi f cs y x g2 λg3=>N.nx Z g3) E) E):wpS P (.iP f cs o a) N Z g E:=h
theorem ER(h:dg P c Z g (λt g1=>if t=true then wpS P x N Z g1 E else wpS P y N Z g1 E) E):wpS P (.ifs c x y) N Z g E:=h
theorem ES(h:aW P a Z g N.rt E):wpS P (.ret a) N Z g E:=h
theorem UG{x:Str}(h:gs P a Z g (λvs g1=>vs.length<=1000/\E ⟨x⟩ g1) E):wpS P (.raise x a) N Z g E:=h
theorem YW{hs:List (Str×ME)}(h:wpS P x N Z g (nU P N (Z.map λ_=>none) E hs)):wpS P (.pq x hs) N Z g E:=h
theorem XA{x:Xn}{y:Str}{e:ME}{r:List (Str×ME)}(hx:x.cls=y)(h:aW P e Z g N.rt iX):nU P N Z E ((y,e)::r) x g:=by unfold nU;rw[aJ (.inl hx)];exact h
theorem w_var(e:Z[i]?=some (some d))(h:Q d g):aW P (.var i) Z g Q E:=by exact⟨d,e,h⟩
theorem w_lit(h:Q d g):aW P (.lit d) Z g Q E:=h
theorem SA(h:gs P a Z g (λxs g1=>cE p xs g1 Q) E):aW P (.prim p a) Z g Q E:=h
theorem WW(h:cE p [] g Q):aW P (.prim p .nil) Z g Q E:=by exact h
theorem xH(h:aW P a Z g (λx g1=>cE p [x] g1 Q) E):aW P (.prim p (.cons a .nil)) Z g Q E:=by exact h
theorem sv(h:aW P a Z g (λx g1=>aW P b Z g1 (λy g2=>cE p [x,y] g2 Q) E) E):aW P (.prim p (.cons a (.cons b .nil))) Z g Q E:=by exact h
theorem UE{o1 o2:CmpOp}(h:aW P a Z g (λx g1=>aW P b Z g1 (λy g2=>cE (.cmp o1) [x,y] g2 λz g3=>∃t,z=.bl t/\if t=true then aW P c Z g3 (λw g4=>cE (.cmp o2) [y,w] g4 Q) E else Q (.bl false) g3) E) E):aW P (.chain o1 o2 a b c) Z g Q E:=h
theorem w_and(h:aW P a Z g (λx g1=>∃t,x=.bl t/\if t=true then aW P b Z g1 Q E else Q (.bl false) g1) E):aW P (.cQ a b) Z g Q E:=h
theorem w_or(h:aW P a Z g (λx g1=>∃t,x=.bl t/\if t=true then Q (.bl true) g1 else aW P b Z g1 Q E) E):aW P (.jH a b) Z g Q E:=h
theorem w_not(h:aW P a Z g (λx g1=>∃t,x=.bl t/\Q (.bl (!t)) g1) E):aW P (.dE a) Z g Q E:=h
theorem w_ite(h:dg P c Z g (λt g1=>if t=true then aW P a Z g1 Q E else aW P b Z g1 Q E) E):aW P (.ite c a b) Z g Q E:=h
theorem yV{f:Nat}(h:gs P a Z g (λxs g1=>P f xs g1 Q E) E):aW P (.call f a) Z g Q E:=h
theorem Sy{f:Nat}{c:Str}(h:gs P a Z g (λxs g1=>P f (.ref g1.length::xs) (g1++[.ins c []]) (λd g2=>d=.bN/\Q (.ref g1.length) g2) E) E):aW P (.make c f a) Z g Q E:=h
theorem Sz(h:aW P o Z g (λx g1=>mh p x g1/\gs P a Z g1 (λxs g2=>cE p (x::xs) g2 Q) E) E):aW P (.dU p o a) Z g Q E:=h
theorem zW{Q:List D->G->Prop}(h:Q [] g):gs P .nil Z g Q E:=h
theorem U9{Q:List D->G->Prop}(h:aW P a Z g (λx g1=>gs P b Z g1 (λxs g2=>Q (x::xs) g2) E) E):gs P (.cons a b) Z g Q E:=h
theorem SE{Q:Bool->G->Prop}(h:dg P a Z g (λt g1=>if t=true then dg P b Z g1 Q E else Q false g1) E):dg P (.cQ a b) Z g Q E:=h
theorem YV{Q:Bool->G->Prop}(h:dg P a Z g (λt g1=>if t=true then Q true g1 else dg P b Z g1 Q E) E):dg P (.jH a b) Z g Q E:=h
theorem SF{Q:Bool->G->Prop}(h:dg P a Z g (λt g1=>Q (!t) g1) E):dg P (.dE a) Z g Q E:=h
theorem xl{Q:Bool->G->Prop}(h:Q true g):dg P .no Z g Q E:=h
theorem ET{Q:Bool->G->Prop}(h:aW P a Z g (λx g1=>qi g1 x λb=>Q b g1) E):dg P (.fm a) Z g Q E:=h
end
section
variable{Q:KD}{i:Int}{kb:Bool->Prop}{t s:Bool}{m:List D}
theorem WY(h:Q (.int (i+j)) g):cE (.bin .Add) [.int i,.int j] g Q:=⟨_,_,.inl ⟨i,j,_,rfl,rfl,rfl,rfl⟩,h⟩
theorem WZ(h:Q (.int (i-j)) g):cE (.bin .Sub) [.int i,.int j] g Q:=⟨_,_,.inl ⟨i,j,_,rfl,rfl,rfl,rfl⟩,h⟩
theorem U2(c:rZ i j)(h:Q (.int (i*j)) g):cE (.bin .Mult) [.int i,.int j] g Q:=⟨_,_,.inl ⟨i,j,_,rfl,⟨c,rfl⟩,rfl,rfl⟩,h⟩
theorem Q5(c:0<j)(h:Q (.int (i % j)) g):cE (.bin .Mod) [.int i,.int j] g Q:=⟨_,_,.inl ⟨i,j,_,rfl,⟨c,rfl⟩,rfl,rfl⟩,h⟩
theorem zM(c:CP i j)(h:Q (.int (i / j)) g):cE (.bin .FloorDiv) [.int i,.int j] g Q:=⟨_,_,.inl ⟨i,j,_,rfl,⟨c,rfl⟩,rfl,rfl⟩,h⟩
theorem YY(h1:0<j)(h2:j<1073741824)(h:Q (.int (i / j)) g):cE (.bin .FloorDiv) [.int i,.int j] g Q:=zM ⟨h1,h2⟩ h
theorem zN(c:Z5 i j)(h:Q (.int (i ^ j.toNat)) g):cE (.bin .Pow) [.int i,.int j] g Q:=⟨_,_,.inl ⟨i,j,_,rfl,⟨c,rfl⟩,rfl,rfl⟩,h⟩
theorem sA{i j:Nat}(hi:g[i]?=some (.lst l))(hj:g[j]?=some (.lst m))(hl:l.length+m.length<=100000)(h:Q (.ref g.length) (g++[.lst (l++m)])):cE (.bin .Add) [.ref i,.ref j] g Q:=⟨_,_,.inr (.inl ⟨rfl,.inl ⟨i,j,l,m,rfl,hi,hj,hl,rfl,rfl⟩⟩),h⟩
theorem Xc{i:Nat}{n:Int}(hi:g[i]?=some (.lst l))(h1:-(2 ^ 62)<=n)(h2:n<2 ^ 62)(hl:l.length*n.toNat<=100000)(h:Q (.ref g.length) (g++[.lst (List.replicate n.toNat l).flatten])):cE (.bin .Mult) [.ref i,.int n] g Q:=⟨_,_,.inr (.inr ⟨rfl,⟨i,l,n,rfl,hi,h1,h2,hl,rfl,rfl⟩⟩),h⟩
theorem YS(h:Q (.int (-i)) g):cE (.un .USub) [.int i] g Q:=⟨_,_,⟨rfl,i,rfl,rfl,rfl⟩,h⟩
theorem S7{op:CmpOp}(hb:Jd g x y b op)(h:Q (.bl b) g):cE (.cmp op) [x,y] g Q:=⟨_,_,⟨x,y,b,rfl,hb,rfl,rfl⟩,h⟩
theorem VM(h:Q (.bl (decide (i<j))) g):cE (.cmp .Lt) [.int i,.int j] g Q:=S7 (.inl ⟨i,j,rfl,rfl,rfl⟩) h
theorem Xp{b:Nat}{ms:List Int}(ha:g[a]?=some (.lst (ns.map .int)))(hb:g[b]?=some (.lst (ms.map .int)))(hl:ns.length=ms.length)(h:Q (.bl (L2.F5 ns ms)) g):cE (.cmp .Lt) [.ref a,.ref b] g Q:=S7 (.inr ⟨a,b,ns,ms,rfl,rfl,ha,hb,hl,rfl⟩) h
theorem VL(h:Q (.bl (decide (i<=j))) g):cE (.cmp .LtE) [.int i,.int j] g Q:=S7 ⟨i,j,rfl,rfl,rfl⟩ h
theorem VJ(h:Q (.bl (decide (j<i))) g):cE (.cmp .Gt) [.int i,.int j] g Q:=S7 ⟨i,j,rfl,rfl,rfl⟩ h
theorem VI(h:Q (.bl (decide (j<=i))) g):cE (.cmp .GtE) [.int i,.int j] g Q:=S7 ⟨i,j,rfl,rfl,rfl⟩ h
theorem CW(h:tO g x y λb=>Q (.bl b) g):cE (.cmp .Eq) [x,y] g Q:=let ⟨_,hb,h⟩:=h;S7 hb h
theorem zH(h:tO g x y λb=>Q (.bl (!b)) g):cE (.cmp .NotEq) [x,y] g Q:=let ⟨b,hb,h⟩:=h;S7 (b:=!b) (show wG g x y (!(!b)) from by rw[uG];exact hb) h
theorem sf(h:qP g x y λb=>Q (.bl b) g):cE (.cmp .In) [x,y] g Q:=let ⟨_,hb,h⟩:=h;S7 (.inl hb) h
theorem Xh{S:Int->Bool}(hg:g[a]?=some (.set S n))(h:Q (.bl (S i)) g):cE (.cmp .In) [.int i,.ref a] g Q:=S7 (.inr ⟨a,S,n,i,rfl,hg,rfl,rfl⟩) h
theorem X9(h:qP g x y λb=>Q (.bl (!b)) g):cE (.cmp .NotIn) [x,y] g Q:=let ⟨b,hb,h⟩:=h;S7 (b:=!b) (.inl (show inR g x y (!(!b)) from by rw[uG];exact hb)) h
theorem IQ(h:kb (decide (i=j))):tO g (.int i) (.int j) kb:=⟨_,.inl ⟨i,j,rfl,rfl,rfl⟩,h⟩
theorem Ih(h:kb (t==s)):tO g (.bl t) (.bl s) kb:=⟨_,.inr (.inl ⟨t,s,rfl,rfl,rfl⟩),h⟩
theorem IS{x y:Str}(h:kb (decide (x=y))):tO g (.str x) (.str y) kb:=⟨_,.inr (.inr (.inl ⟨x,y,rfl,rfl,rfl⟩)),h⟩
theorem Xe(h:Q (.bl (decide (i=j))) g):cE (.cmp .Eq) [.int i,.int j] g Q:=CW (IQ h)
theorem IA(h:Q (.bl (!decide (i=j))) g):cE (.cmp .NotEq) [.int i,.int j] g Q:=zH (IQ h)
theorem Xd(h:Q (.bl (t==s)) g):cE (.cmp .Eq) [.bl t,.bl s] g Q:=CW (Ih h)
theorem Xq(h:Q (.bl (!(t==s))) g):cE (.cmp .NotEq) [.bl t,.bl s] g Q:=zH (Ih h)
theorem Xf{p q:Str}(h:Q (.bl (decide (p=q))) g):cE (.cmp .Eq) [.str p,.str q] g Q:=CW (IS h)
theorem Xr{p q:Str}(h:Q (.bl (!decide (p=q))) g):cE (.cmp .NotEq) [.str p,.str q] g Q:=zH (IS h)
theorem si(h:Q (.bl (O4 d)) g):cE (.cmp .Is) [d,.bN] g Q:=S7 ⟨rfl,rfl⟩ h
theorem Iz(h:Q (.bl (!O4 d)) g):cE (.cmp .IsNot) [d,.bN] g Q:=S7 ⟨rfl,rfl⟩ h
theorem Xi(h:Q (.bl true) g):cE (.cmp .Is) [.bN,.bN] g Q:=si h
theorem Xk(h:Q (.bl false) g):cE (.cmp .Is) [.int i,.bN] g Q:=si h
theorem Xj(h:Q (.bl false) g):cE (.cmp .Is) [.bl t,.bN] g Q:=si h
theorem Xm{x:Str}(h:Q (.bl false) g):cE (.cmp .Is) [.str x,.bN] g Q:=si h
theorem Xo(h:Q (.bl false) g):cE (.cmp .Is) [.tup l,.bN] g Q:=si h
theorem Xl(h:Q (.bl false) g):cE (.cmp .Is) [.ref n,.bN] g Q:=si h
theorem Xg(h:Q (.bl false) g):cE (.cmp .IsNot) [.bN,.bN] g Q:=Iz h
theorem Im(h:kb t):qi g (.bl t) kb:=⟨t,.inr (.inl rfl),h⟩
theorem YK(h:kb (i != 0)):qi g (.int i) kb:=⟨_,.inr (.inr (.inl ⟨i,rfl,rfl⟩)),h⟩
theorem Dj{p:Bool->Prop}(h:p t):∃s,D.bl t=D.bl s/\p s:=⟨t,rfl,h⟩
theorem Zl{p:Int->Prop}(h:p i):∃s,D.int i=D.int s/\p s:=⟨i,rfl,h⟩
theorem if2{c:Prop}[Decidable c](h1:c->A)(h2:¬c->B):if decide c=true then A else B:=by
 by_cases h:c
 ·rw[aJ (au h)];exact h1 h
 ·rw[aF (by rw[av h];decide)];exact h2 h
theorem lG(h:A):if true=true then A else B:=by rw[aJ rfl];exact h
theorem pe(h:B):if false=true then A else B:=by rw[aF ∅];exact h
theorem Jg(h:A):if(!false)=true then A else B:=by rw[aJ (show(!false)=true from rfl)];exact h
theorem Jh(h:B):if(!true)=true then A else B:=by rw[aF ∅];exact h
theorem dP(hb:b=false)(h:B):if b=true then A else B:=by rw[hb];exact pe h
theorem fj(hb:b=true)(h:A):if b=true then A else B:=by rw[hb];exact lG h
theorem k8(hl:d0 g a=some l)(h2:fL l i=some d)(h:Q d g):cE .ix [.ref a,.int i] g Q:=⟨_,_,⟨rfl,.inl ⟨_,l,i,rfl,hl,h2⟩⟩,h⟩
theorem x3(h2:fL l i=some d)(h:Q d g):cE .ix [.tup l,.int i] g Q:=⟨_,_,⟨rfl,.inl ⟨_,l,i,rfl,rfl,h2⟩⟩,h⟩
theorem tV{i:Nat}(hg:g[i]?=some (.dX kvs))(hk:W3 y=some k)(hv:u7 kvs k=some v)(h:Q v g):cE .ix [.ref i,y] g Q:=⟨_,_,⟨rfl,.inr (.inl ⟨i,kvs,y,k,rfl,hg,hk,hv⟩)⟩,h⟩
theorem Q1(hl:g[a]?=some (.lst l))(hn:kM l.length i=some n)(h:kg (g.set a (.lst (l.set n v)))):S1 (.ref a) (.int i) v g kg:=⟨_,.inl ⟨a,i,l,n,rfl,rfl,hl,hn,rfl⟩,h⟩
theorem IU{i:Nat}(hg:g[i]?=some (.dX kvs))(hk:W3 y=some k)(hl:kvs.length<100000)(h:kg (g.set i (.dX (putD kvs k v)))):S1 (.ref i) y v g kg:=⟨_,.inr ⟨i,kvs,k,rfl,hg,hk,hl,rfl⟩,h⟩
theorem sI{cs:List Str}{fs:List (Str×D)}(hg:g[a]?=some (.ins c fs))(hc:c∈cs)(hl:fs.length<100)(h:kg (g.set a (.ins c (m5 f v fs)))):xi f cs (.ref a) v g kg:=⟨_,⟨a,c,fs,rfl,hg,hc,hl,rfl⟩,h⟩
theorem W5{fs:List (Str×D)}(hg:g[a]?=some (.ins c fs))(hf:fs.lookup f=some d)(h:Q d g):cE (.fld f) [.ref a] g Q:=⟨_,_,⟨a,c,fs,rfl,hg,hf,rfl⟩,h⟩
theorem a7(h:g[a]?=some (.lst l)):d0 g a=some l:=by simp only[d0,h,Fe]
theorem a34(h:g[a]?=some (.oS l)):d0 g a=some l:=by simp only[d0,h,Fe]
theorem y9(hl:d0 g a=some l)(h:Q (.int l.length) g):cE .len [.ref a] g Q:=⟨_,_,⟨rfl,.inl ⟨_,l,rfl,hl,rfl⟩⟩,h⟩
theorem Kw(hl:d0 g a=some l)(h:Q (.ref g.length) (g++[.lst (cut l (some i) none)])):cE (.ji true false) [.ref a,.int i] g Q:=⟨_,_,⟨_,i,rfl,.inr ⟨a,l,rfl,hl,rfl,rfl⟩⟩,h⟩
theorem N9(hl:d0 g a=some l)(h:Q (.ref g.length) (g++[.lst (cut l none (some i))])):cE (.ji false true) [.ref a,.int i] g Q:=⟨_,_,⟨_,i,rfl,.inr ⟨a,l,rfl,hl,rfl,rfl⟩⟩,h⟩
theorem EI(hl:l.length<=1000)(h:Q (.tup l) g):cE .tup l g Q:=⟨_,_,⟨hl,rfl,rfl⟩,h⟩
theorem EH(hl:l.length<=1000)(h:Q (.ref g.length) (g++[.lst l])):cE .lst l g Q:=⟨_,_,⟨hl,rfl,rfl⟩,h⟩
theorem uh(hl:d0 g a=some l)(h:Q (.ref g.length) (g++[.lst l])):cE .list [.ref a] g Q:=⟨_,_,.inl ⟨_,l,rfl,hl,rfl,rfl⟩,h⟩
theorem YQ(hl:d0 g a=some l)(h:Q (.tup l) g):cE .tuple [.ref a] g Q:=⟨_,_,⟨_,l,rfl,hl,rfl,rfl⟩,h⟩
theorem gJ{c:String}(hc:c∈["int","bool","str","tuple","list"])(hb:sk g d c=some b)(h:Q (.bl b) g):cE .isin [d,.ty c] g Q:=⟨_,_,⟨d,c,b,rfl,hc,hb,rfl,rfl⟩,h⟩
theorem O0{i:Nat}(hg:g[i]?=some (.lst l))(hl:l.length<100000)(h:Q .bN (g.set i (.lst (l++[y])))):cE .append [.ref i,y] g Q:=⟨_,_,⟨i,y,l,rfl,hg,hl,rfl,rfl⟩,h⟩
theorem XX{i j:Nat}{n:Int}(hg:g[i]?=some (.lst l))(hn:n=j)(hj:l[j]?=some y)(hl:l.length<100000)(h:Q y (g.set i (.lst (l.eraseIdx j)))):cE .pop [.ref i,.int n] g Q:=by
 have eE:=(aj.mp hj).1;refine⟨_,_,⟨i,n,l,j,rfl,hg,by omega,by omega,?_,hj,rfl⟩,h⟩;rw[hn];exact PySem.StrLaws.seqIndex_nonneg () () |>.trans (by simp)
theorem EE{i:Nat}{z:D}(hg:g[i]?=some (.dX kvs))(hk:W3 y=some k)(h:Q ((u7 kvs k).getD z) g):cE .get [.ref i,y,z] g Q:=⟨_,_,⟨i,y,z,kvs,k,rfl,hg,hk,rfl,rfl⟩,h⟩
theorem ZH(hl:d0 g a=some l):mh .index (.ref a) g:=⟨a,l,rfl,hl⟩
theorem XW(hl:d0 g a=some l)(W:EW g l y n)(hz:l.length<=100000)(h:Q (.int n) g):cE .index [.ref a,y] g Q:=⟨_,_,⟨_,y,l,n,rfl,hl,⟨⟨a,rfl⟩,W⟩,hz,rfl,rfl⟩,h⟩
theorem MA(h:Q (.int (i+j)) g):cE .iadd [.int i,.int j] g Q:=⟨_,_,.inl ⟨i,j,rfl,rfl,rfl⟩,h⟩
theorem Tv{i:Nat}(hl:d0 g i=some (ns.map .int))(hz:ns.length<60)(h:Q (.ref g.length) (g++[.lst ((K2 ns).map .int)])):cE .ku [.ref i] g Q:=⟨_,_,.inr ⟨_,ns,rfl,hl,hz,rfl,rfl⟩,h⟩
theorem V6{i:Nat}(hg:g[i]?=some (.lst l)):mh .append (.ref i) g:=⟨i,l,rfl,a7 hg⟩
theorem ZI{i:Nat}(hg:g[i]?=some (.lst l)):mh .pop (.ref i) g:=⟨i,l,rfl,a7 hg⟩
theorem Wd{i:Nat}{l:List (Key×D)}(hg:g[i]?=some (.dX l)):mh .get (.ref i) g:=⟨i,l,rfl,hg⟩
theorem AN(h1:-(2 ^ 62)<=j)(h2:j<=100000)(h:Q (.ref g.length) (g++[.lst (i6 0 j.toNat)])):cE .jl [.int j] g Q:=⟨_,_,⟨j,rfl,h1,h2,rfl,rfl⟩,h⟩
theorem NX(h1:-(2 ^ 62)<=i/\i<2 ^ 62/\-(2 ^ 62)<=j/\j<2 ^ 62/\j-i<=100000)(h:Q (.ref g.length) (g++[.lst (i6 i (j-i).toNat)])):cE .kE [.int i,.int j] g Q:=⟨_,_,⟨i,j,rfl,h1,rfl,rfl⟩,h⟩
theorem QY(hl:d0 g a=some (ns.map .int))(hz:ns.length<60)(h:Q (.ref g.length) (g++[.lst ((p8 ns).map .int)])):cE .sset [.ref a] g Q:=⟨_,_,⟨a,ns,rfl,hl,hz,rfl,rfl⟩,h⟩
theorem oZ(h:Q (.ref g.length) (g++[.dX []])):cE .oZ [] g Q:=⟨_,_,⟨rfl,rfl,rfl⟩,h⟩
theorem max2(h:Q (.int (if j>i then j else i)) g):cE .max [.int i,.int j] g Q:=⟨_,_,⟨rfl,.inl ⟨i,j,rfl,rfl⟩⟩,h⟩
theorem XY{M:Int}(hl:d0 g a=some (ns.map .int))(h1:M∈ns)(h2:∀x∈ns,x<=M)(h:Q (.int M) g):cE .max [.ref a] g Q:=⟨_,_,⟨rfl,.inr ⟨a,ns,M,rfl,hl,h1,h2,rfl⟩⟩,h⟩
theorem ZE{S:Int->Bool}(hg:g[a]?=some (.set S n))(hn:n+1<4096)(h:Q .bN (g.set a (.set (λk=>S k||decide (k=i)) (if S i then n else n+1)))):cE .ky [.ref a,.int i] g Q:=⟨_,_,⟨a,i,S,n,rfl,hg,hn,rfl,rfl⟩,h⟩
theorem Th{S:Int->Bool}(hg:g[a]?=some (.set S n)):mh .ky (.ref a) g:=⟨a,S,n,rfl,hg⟩
theorem Tu(h:Q (.ref g.length) (g++[.set (λk=>decide (k=i)) 1])):cE (.kx i) [] g Q:=⟨_,_,⟨rfl,rfl,rfl⟩,h⟩
theorem YU{Z:S}{o1 i1 o2 i2 e:ME}(h:aW P e Z g (λx g1=>∃u v,x=.tup [u,v]/\aW P o1 Z g1 (λy1 g2=>aW P i1 Z g2 (λz1 g3=>S1 y1 z1 u g3 λg4=>aW P o2 Z g4 (λy2 g5=>aW P i2 Z g5 (λz2 g6=>S1 y2 z2 v g6 λg7=>N.nx Z g7) E) E) E) E) E):wpS P (.qv o1 i1 o2 i2 e) N Z g E:=h
theorem EL(hl:d0 g a=some (ns.map .int))(h:Q (.int ns.sum) g):cE .sum [.ref a] g Q:=⟨_,_,⟨a,ns,rfl,hl,rfl,rfl⟩,h⟩
theorem ZC(hl:d0 g a=some (ns.map .int))(hz:ns.length<60)(h:Q (.int (ST.i9 [] ns).length) g):cE .qg [.ref a] g Q:=⟨_,_,⟨a,ns,rfl,hl,hz,rfl,rfl⟩,h⟩
theorem Xa(hl:d0 g a=some (ns.map .int))(h:Q (.bl (ns.all λn=>n != 0)) g):cE .all [.ref a] g Q:=⟨_,_,⟨a,_,_,rfl,hl,.inr ⟨ns,rfl,rfl⟩,rfl,rfl⟩,h⟩
theorem Ez(c:Z5 i j)(h:Q (.int (i*2 ^ j.toNat)) g):cE (.bin .LShift) [.int i,.int j] g Q:=⟨_,_,.inl ⟨i,j,_,rfl,⟨c,rfl⟩,rfl,rfl⟩,h⟩
theorem wZ(h:Q (.int (Builtin.bitAnd i j)) g):cE (.bin .BitAnd) [.int i,.int j] g Q:=⟨_,_,.inl ⟨i,j,_,rfl,rfl,rfl,rfl⟩,h⟩
theorem VC(h:Q (.int (Builtin.bitOr i j)) g):cE (.bin .BitOr) [.int i,.int j] g Q:=⟨_,_,.inl ⟨i,j,_,rfl,rfl,rfl,rfl⟩,h⟩
theorem Ft{Z:S}{i:Nat}{p:Pr}{v:ME}(e:Z[i]?=some (some x))(h:aW P v Z g (λz g1=>cE p [x,z] g1 λw g2=>N.nx (Z.set i (some w)) g2) E):wpS P (.kd i p v) N Z g E:=⟨x,e,h⟩
theorem Zn(h:Q (.int (i-j)) g):cE .nu [.int i,.int j] g Q:=⟨_,_,⟨i,j,rfl,rfl,rfl⟩,h⟩
theorem min2(h:Q (.int (if j<i then j else i)) g):cE .min [.int i,.int j] g Q:=⟨_,_,⟨rfl,.inl ⟨i,j,rfl,rfl⟩⟩,h⟩
theorem XE{v:Bool}(h:Q (.int (if v then 1 else 0)) g):cE .int [.bl v] g Q:=⟨_,_,⟨rfl,.inr ⟨v,rfl,rfl⟩⟩,h⟩
theorem IG{kvs:List D}{x:Str}(hv:Q4 kvs x=some v)(h:Q v g):cE .nM [.tup kvs,.str x] g Q:=⟨_,_,⟨kvs,x,rfl,hv,rfl⟩,h⟩
theorem VP(hi:i.natAbs.log2<1920)(h:Q (.str (toString i)) g):cE .fv [.int i] g Q:=⟨_,_,⟨rfl,.inl ⟨i,rfl,hi,rfl⟩⟩,h⟩
theorem QX{x:Str}(hx:X7 l=some x)(h:Q (.str x) g):cE .mx l g Q:=⟨_,_,⟨x,hx,rfl,rfl⟩,h⟩
theorem zO{i:Nat}{v:Bool}(hl:d0 g i=some l)(hv:Y1 l=some v)(h:Q (.bl v) g):cE .all [.ref i] g Q:=⟨_,_,⟨i,l,v,rfl,hl,.inl hv,rfl,rfl⟩,h⟩
theorem f7{i:Nat}{Z:S}{k:S->Prop}(h:k (Z.set i (some x))):jF (.one i) x Z k:=h
theorem B4{is:List Nat}{Z bY:S}{k:S->Prop}(e:G0 is l Z=some bY)(h:k bY):jF (.many is) (.tup l) Z k:=⟨l,bY,rfl,e,h⟩
end
theorem Y0:∀(bs:List Bool),Y1 (bs.map D.bl)=some (bs.all id):=by
 intro bs
 induction bs with
 |nil=>rfl
 |cons b r ih=>simp[Y1,ih]
theorem call_of{T:Nat->Option aX}{k f:Nat}{m:aX}{ds:List D}{Q:KD}(hT:T f=some m)(hl:ds.length=m.ar)(h:wpS (c5 T k) m.body ⟨λ_ g'=>Q .bN g',Q,λ_ _=>False,λ_ _=>False⟩ (c7 m ds) g E):c5 T (k+1) f ds g Q E:=⟨m,hT,hl,h⟩
def IK.Is(k:IK)(l:List D)(g:G):Prop:=∀i,k.at i g=some l[i]?
theorem n5:(IK.fix l).Is l g:=λ_=>rfl
theorem m7(h:d0 g a=some l):(IK.lst a).Is l g:=λi=>by simp only[IK.at,h]
def lM(l:List D):List D:=l.mapIdx λi d=>.tup [.int i,d]
theorem ux(h:d0 g a=some l):(IK.oU a).Is (lM l) g:=λi=>by
 simp only[IK.at,h,lM,List.getElem?_mapIdx]
theorem Zo(h:d0 g a=some l):(IK.sX a l.length).Is l.reverse g:=λi=>by
 simp only[IK.at,h,if_true];by_cases hi:i<l.length
 ·rw[aJ hi,List.getElem?_reverse hi]
 ·rw[aF hi,aM (by simpa using hi)]
theorem L4(l:List D):(lM l).length=l.length:=by simp[lM]
theorem U7(h:(lM l)[i]?=some x):∃d,l[i]?=some d/\x=.tup [.int i,d]:=by
 rw[lM,List.getElem?_mapIdx,aa] at h;obtain⟨d,h1,h2⟩:=h;exact⟨d,h1,h2.symm⟩
theorem t8{lo:Int}(h:(i6 lo n)[i]?=some x):i<n/\x=.int (lo+i):=by
 unfold i6 at h;have hi:i<n:=by
  have:=(aj.mp h).1;simpa using this
 rw[ak,bO hi] at h;cases h;exact⟨hi,rfl⟩
theorem j6(lo:Int)(n:Nat):(i6 lo n).length=n:=by simp[i6]
section
variable{Z:S}{it a c:ME}{s:MS}{t:MT}{Q:KD}
theorem a71{k:IK}{fin:S->G->Prop}{turn:D->(S->G->Prop)->S->G->Prop}(I:Nat->S->G->Prop)(hk:∀i Z g,I i Z g->k.Is l g)(h0:I 0 Z g)(hs:∀i x Z g,l[i]?=some x->I i Z g->turn x (I (i+1)) Z g)(hd:∀Z g,I l.length Z g->fin Z g):turns k Z g fin turn:=by
 refine⟨λi m Z g=>m=l.length-i/\i<=l.length/\I i Z g,⟨l.length,by simp,bU _,h0⟩,?_⟩;rintro i m Z g ⟨rfl,hi,p⟩;rw[hk i Z g p i];by_cases eE:i<l.length
 ·rw[ai eE];exact .inr ⟨_,rfl,I (i+1),λbY g' p'=>⟨l.length-(i+1),by omega,rfl,eE,p'⟩,hs i l[i] Z g (ai eE) p⟩
 ·have e:i=l.length:=by omega
  subst e;rw[aM (ay _)];exact .inl ⟨rfl,hd Z g p⟩
inductive xV(P:fk)(t:MT)(s:MS)(N:Ends)(E:KX)(Z:S)(k:IK)(g1:G):Prop
 |mk (l:List D) (I:Nat->S->G->Prop) (hk:∀i Z g,I i Z g->k.Is l g) (h0:I 0 Z g1)
   (hs:∀i x Z g,l[i]?=some x->I i Z g->jF t x Z λcA=>wpS P s ⟨I (i+1),N.rt,N.nx,I (i+1)⟩ cA g E) (hd:∀Z g,I l.length Z g->N.nx Z g):xV P t s N E Z k g1
theorem p6(hP:j4 P)(h:gS P it Z g (xV P t s N E Z) E):wpS P (.dw t it s) N Z g E :=
 B5 hP it _ _ _ _ _ _ (λk g1 hq=>by obtain⟨l,I,hk,h0,hs,hd⟩:=hq;exact a71 I hk h0 hs hd) (λ_ _ z=>z) h
inductive CompI(P:fk)(t:MT)(cond elt:ME)(E:KX)(Q:KD)(Z:S)(k:IK)(g1:G):Prop
 |mk (l:List D) (I:Nat->List D->S->G->Prop) (hl:l.length<=1000) (hk:∀i ys Z g,I i ys Z g->k.Is l g/\ys.length<=i) (h0:I 0 [] Z g1)
   (hs:∀i x ys Z g,l[i]?=some x->I i ys Z g->jF t x Z λcA=>dg P cond cA g (λc g3=>if c=true then aW P elt cA g3 (λy g4=>I (i+1) (ys++[y]) cA g4) E else I (i+1) ys cA g3) iX)
   (hd:∀ys Z g,I l.length ys Z g->Q (.ref g.length) (g++[.lst ys])):CompI P t cond elt E Q Z k g1
theorem E6(hP:j4 P)(h:gS P it Z g (CompI P t cond elt iX Q (F6 Z d4 n)) E):aW P (.comp d4 n t it cond elt) Z g Q E:=by
 refine B5 hP it _ _ _ _ _ _ (λk g1 h=>?_) (λ_ _ z=>z) h;obtain⟨l,I,hl,hk,h0,hs,hd⟩:=h;refine⟨λi m ys Z g=>m=l.length-i/\i<=l.length/\I i ys Z g,⟨l.length,by simp,bU _,h0⟩,?_⟩;rintro i m ys Z g ⟨rfl,hi,p⟩;obtain⟨lz,hy⟩:=hk i ys Z g p;rw[lz i];by_cases eE:i<l.length
 ·rw[ai eE];refine .inr ⟨_,rfl,by omega,x6 (λcA q=>q8 hP cond _ _ _ _ _ _ (λc g3 q=>?_) (λ_ _ z=>z) q) (hs i l[i] ys Z g (ai eE) p)⟩;cases c
  ·exact⟨l.length-(i+1),by omega,rfl,eE,by simpa using(show I (i+1) ys cA g3 from q)⟩
  ·exact c6 hP elt _ _ _ _ _ _ (λy g4 q=>⟨l.length-(i+1),by omega,rfl,eE,by simpa using q⟩) (λ_ _ z=>z) q
 ·have e:i=l.length:=by omega
  subst e;rw[aM (ay _)];exact .inl ⟨rfl,hd ys Z g p⟩
inductive xM(P:fk)(t:MT)(cond elt:ME)(Q:KD)(Z:S)(k:IK)(g1:G):Prop
 |mk (l:List D) (I:Nat->List Int->S->G->Prop) (hl:l.length<60) (hk:∀i ys Z g,I i ys Z g->k.Is l g/\ys.length<=i) (h0:I 0 [] Z g1)
   (hs:∀i x ys Z g,l[i]?=some x->I i ys Z g->jF t x Z λcA=>dg P cond cA g (λc g3=>if c=true then aW P elt cA g3 (λy g4=>∃j,y=.int j/\I (i+1) (ys++[j]) cA g4) iX else I (i+1) ys cA g3) iX)
   (hd:∀ys Z g,I l.length ys Z g->Q (.ref g.length) (g++[.lst ((p8 ys).map .int)])):xM P t cond elt Q Z k g1
theorem UH(hP:j4 P)(h:gS P it Z g (xM P t cond elt Q (F6 Z d4 n)) E):aW P (.ia d4 n t it cond elt) Z g Q E:=by
 refine B5 hP it _ _ _ _ _ _ (λk g1 h=>?_) (λ_ _ z=>z) h;obtain⟨l,I,hl,hk,h0,hs,hd⟩:=h;refine⟨λi m ys Z g=>m=l.length-i/\i<=l.length/\I i ys Z g,⟨l.length,by simp,bU _,h0⟩,?_⟩;rintro i m ys Z g ⟨rfl,hi,p⟩;obtain⟨lz,hy⟩:=hk i ys Z g p;rw[lz i];by_cases eE:i<l.length
 ·rw[ai eE];refine .inr ⟨_,rfl,by omega,x6 (λcA q=>q8 hP cond _ _ _ _ _ _ (λc g3 q=>?_) (λ_ _ z=>z) q) (hs i l[i] ys Z g (ai eE) p)⟩;cases c
  ·exact⟨l.length-(i+1),by omega,rfl,eE,by simpa using(show I (i+1) ys cA g3 from q)⟩
  ·refine c6 hP elt _ _ _ _ _ _ (λy g4 q=>?_) (λ_ _ z=>z) q;obtain⟨j,e,q⟩:=q;exact⟨j,e,l.length-(i+1),by omega,rfl,eE,by simpa using q⟩
 ·have e:i=l.length:=by omega
  subst e;rw[aM (ay _)];exact .inl ⟨rfl,by omega,hd ys Z g p⟩
theorem aQ6(hP:j4 P)(h:aW P a Z g (λx g1=>∃j:Nat,x=.int j/\j<=1000/\∃I:Nat->List D->S->G->Prop,I 0 [] (F6 Z d4 n) g1/\(∀i ys Z g,I i ys Z g->ys.length<=i) /\
      (∀(i:Nat) ys Z g,i<j->I i ys Z g->jF t (.int i) Z λcA=>dg P cond cA g (λc g3=>if c=true then aW P elt cA g3 (λy g4=>I (i+1) (ys++[y]) cA g4) iX else I (i+1) ys cA g3) iX) /\
      ∀ ys Z g,I j ys Z g->Q (.ref g.length) (g ++ [.lst ys])) E):aW P (.comp d4 n t (.dW a) cond elt) Z g Q E:=by
  refine E6 hP ?_;refine c6 hP a _ _ _ _ _ _ (λx g1 h=>?_) (λ_ _ z=>z) h;obtain⟨j,rfl,hj,I,h0,hz,hs,hd⟩:=h;refine⟨j,rfl,by omega,by omega,_,I,by rw[j6];simpa using hj,λi ys Z g p=>⟨n5,hz i ys Z g p⟩,h0,λi x ys Z g hx p=>?_,λys Z g p=>hd ys Z g (by rw[j6] at p;simpa using p)⟩;obtain⟨hi,rfl⟩:=t8 hx;rw[show(0:Int)+(i:Int)=i by omega];exact hs i ys Z g (by simpa using hi) p
theorem aQ5(hP:j4 P)(h:aW P a Z g (λx g1=>∃l,x=.tup l/\l.length<=1000/\∃I:Nat->List D->S->G->Prop,I 0 [] (F6 Z d4 n) g1/\(∀i ys Z g,I i ys Z g->ys.length<=i) /\
      (∀(i:Nat) x ys Z g,l[i]?=some x->I i ys Z g->jF t x Z λcA=>dg P cond cA g (λc g3=>if c=true then aW P elt cA g3 (λy g4=>I (i+1) (ys++[y]) cA g4) iX else I (i+1) ys cA g3) iX) /\
      ∀ ys Z g,I l.length ys Z g->Q (.ref g.length) (g ++ [.lst ys])) E):aW P (.comp d4 n t (.fe a) cond elt) Z g Q E:=by
  refine E6 hP ?_;refine c6 hP a _ _ _ _ _ _ (λx g1 h=>?_) (λ_ _ z=>z) h;obtain⟨l,rfl,hj,I,h0,hz,hs,hd⟩:=h;exact .inl ⟨l,rfl,_,I,hj,λi ys Z g p=>⟨n5,hz i ys Z g p⟩,h0,hs,hd⟩
theorem Ly(I:Nat->S->G->Prop)(m0:Nat)(h0:I m0 Z g)(hs:∀m Z g,I m Z g->dg P c Z g (λt g1=>if t=true then wpS P s ⟨λbY g'=>∃m',m'<m/\I m' bY g',N.rt,N.nx,λbY g'=>∃m',m'<m/\I m' bY g'⟩ Z g1 E else N.nx Z g1) E)(hP:j4 P):wpS P (.kq c s) N Z g E:=by
 refine⟨I,⟨m0,h0⟩,λm Z g p=>q8 hP c _ _ _ _ _ _ (λt g1 q=>?_) (λ_ _ z=>z) (hs m Z g p)⟩;cases t
 ·exact q
 ·exact⟨_,λ_ _ z=>z,q⟩
theorem M1(hP:j4 P)(h:aW P a Z g (λx g1=>∃j:Int,x=.int j/\-(2 ^ 62)<=j/\j<2 ^ 62/\R (.fix (i6 0 j.toNat)) g1) E):gS P (.dW a) Z g R E:=h
theorem vw(hP:j4 P)(h:aW P a Z g (λx g1=>∃l,x=.tup l/\R (.fix l) g1) E):gS P (.fe a) Z g R E:=by
 exact c6 hP a _ _ _ _ _ _ (λx g1 h=>.inl h) (λ_ _ z=>z) h
theorem kO(hP:j4 P)(h:aW P a Z g (λx g1=>∃i l,x=.ref i/\d0 g1 i=some l/\R (.lst i) g1) E):gS P (.fe a) Z g R E:=by
 exact c6 hP a _ _ _ _ _ _ (λx g1 h=>.inr h) (λ_ _ z=>z) h
theorem Od(h:aW P a Z g (λx g1=>∃i l,x=.ref i/\d0 g1 i=some l/\R (.sX i l.length) g1) E):gS P (.nX a) Z g R E:=h
theorem vx(h:aW P a Z g (λx g1=>∃i l,x=.ref i/\d0 g1 i=some l/\R (.oU i) g1) E):gS P (.kG a) Z g R E:=h
end
end M
namespace M
open PySem L2 PySem.Spec PyProof.Rows
variable{K:PySem.W.Frag}{x:Str}{C:Addr}
structure RF where
 id:Nat
 nm:Str
 N:List Str
 k:Nat
 i:Nat
 m:aX
structure RM where
 id:Nat
 cl:Str
 nm:Str
 qn:Str
 N:List Str
 k:Nat
 i:Nat
 j:Nat
 m:aX
def RF.d(tp:Nat->Stmt)(r:RF):pC:=⟨r.nm,r.nm,r.N,r.N.take r.k,tp r.i⟩
def RM.d(mt:Nat->Nat->Stmt)(r:RM):pC:=⟨r.nm,r.qn,r.N,r.N.take r.k,mt r.i r.j⟩
def tY(F:List RF)(M:List RM)(i:Nat):Option aX:=match F.find? λr=>Nat.beq r.id i with
 |some r=>some r.m
 |none=>(M.find? λr=>Nat.beq r.id i).map (·.m)
section
variable(tp:Nat->Stmt)(mt:Nat->Nat->Stmt)(K:PySem.W.Frag)
def PF:List RF->Prop
 |[]=>True
 |r::l=>(∃f fd,PySem.W.nsIn K mainGlobals r.nm=some (some (.ref f))/\ql K r.nm r.nm (tp r.i) f fd)/\PF l
def PM:List RM->Prop
 |[]=>True
 |r::l=>(∃C f fd,PySem.W.nsIn K mainGlobals r.cl=some (some (.ref C))/\Meth K C r.nm f/\ql K r.nm r.qn (mt r.i r.j) f fd)/\PM l
def PC:List (Str×Nat)->Prop
 |[]=>True
 |r::l=>(∃C,PySem.W.nsIn K mainGlobals r.1=some (some (.ref C))/\kj K C/\PySem.W.makesIn K C=true/\PySem.W.keepIn K (.ref C)=true)/\PC l
def PA:List (Str×Str)->Prop
 |[]=>True
 |r::l=>(∃C,PySem.W.nsIn K mainGlobals r.2=some (some (.ref C))/\PySem.W.findIn K (.ref C) r.1=some none)/\PA l
def PB:List Str->Prop
 |[]=>True
 |r::l=>PySem.W.nsIn K mainGlobals r=some none/\PB l
def PX:List Str->Prop
 |[]=>True
 |r::l=>(∃C,PySem.W.nsIn K mainGlobals r=some (some (.ref C))/\PySem.W.excIn K C [.type "ValueError",.type "Exception",.type "BaseException",.type "object"] "ValueError.__new__"=true)/\PX l
def BF:List RF->Prop
 |[]=>True
 |r::l=>(∀(kV doc pm:Value) (an:Option Addr) (fY ct:Value) (us:List Value),us.length=(r.N.take r.k).length->bindArgs (PySem.W.fnOf r.nm r.nm (E0 (tp r.i)) (u4 (tp r.i)) (s9 (tp r.i)) .none kV doc pm an fY ct) ⟨us,[]⟩=pure ((r.N.take r.k).zip us))/\BF l
def BM:List RM->Prop
 |[]=>True
 |r::l=>(∀(kV doc pm:Value) (an:Option Addr) (fY ct:Value) (us:List Value),us.length=(r.N.take r.k).length->bindArgs (PySem.W.fnOf r.nm r.qn (E0 (mt r.i r.j)) (u4 (mt r.i r.j)) (s9 (mt r.i r.j)) .none kV doc pm an fY ct) ⟨us,[]⟩=pure ((r.N.take r.k).zip us))/\BM l
def YF(c:i7):List RF->Prop
 |[]=>True
 |r::l=>x5 (comp 60) (c.at (r.d tp)) (u4 (tp r.i))=some r.m.body/\YF c l
def YM(c:i7):List RM->Prop
 |[]=>True
 |r::l=>x5 (comp 60) (c.at (r.d mt)) (u4 (mt r.i r.j))=some r.m.body/\YM c l
end
section
variable{tp:Nat->Stmt}{mt:Nat->Nat->Stmt}{c:i7}{id k i j:Nat}{cl nm qn:Str}{N:List Str}{m:aX}{f:Addr}{oc kV doc pm fY ct:Value}{od an:Option Addr}{mL:Array (Option Value)}
theorem PF.nil:PF tp K []:=trivial
theorem PF.cons{l:List RF}(a:PySem.W.nsIn K mainGlobals nm=some (some (.ref f)))(lk:K.lookup f=some ⟨oc,od,.func (PySem.W.fnOf nm nm (E0 (tp i)) (u4 (tp i)) (s9 (tp i)) .none kV doc pm an fY ct),mL⟩)(cd:PySem.W.codeIn K fY nm=true)(kp:PySem.W.keepIn K (.ref f)=true)(h:PF tp K l):PF tp K (⟨id,nm,N,k,i,m⟩::l):=⟨⟨f,_,a,Mz lk cd kp⟩,h⟩
theorem PM.nil:PM mt K []:=trivial
theorem PM.cons{l:List RM}(c0:PySem.W.nsIn K mainGlobals cl=some (some (.ref C)))(a:PySem.W.findIn K (.ref C) nm=some (some (.ref f)))(af:PySem.W.isFn K (.ref f)=true)(lk:K.lookup f=some ⟨oc,od,.func (PySem.W.fnOf nm qn (E0 (mt i j)) (u4 (mt i j)) (s9 (mt i j)) .none kV doc pm an fY ct),mL⟩)(cd:PySem.W.codeIn K fY qn=true)(kp:PySem.W.keepIn K (.ref f)=true)(h:PM mt K l):PM mt K (⟨id,cl,nm,qn,N,k,i,j,m⟩::l):=⟨⟨C,f,_,c0,⟨a,af,kp⟩,Mz lk cd kp⟩,h⟩
theorem PC.nil:PC K []:=trivial
theorem PC.cons{l:List (Str×Nat)}(cn:PySem.W.nsIn K mainGlobals x=some (some (.ref C)))(cp:PySem.W.plainGet K C Str.empty=true)(QG:PySem.W.hasDictIn K C=true)(QC:PySem.W.plainOver K C=true)(QB:PySem.W.findIn K (.ref C) "__setattr__"=some (some (.builtin "object.__setattr__")))(QD:PySem.W.makesIn K C=true)(QF:PySem.W.keepIn K (.ref C)=true)(h:PC K l):PC K ((x,i)::l):=⟨⟨C,cn,⟨cp,QG,QC,QB⟩,QD,QF⟩,h⟩
theorem PA.nil:PA K []:=trivial
theorem PA.cons{l:List (Str×Str)}(cn:PySem.W.nsIn K mainGlobals x=some (some (.ref C)))(fl:PySem.W.findIn K (.ref C) nm=some none)(h:PA K l):PA K ((nm,x)::l):=⟨⟨C,cn,fl⟩,h⟩
theorem PB.nil:PB K []:=trivial
theorem PB.cons{l:List Str}(cn:PySem.W.nsIn K mainGlobals x=some none)(h:PB K l):PB K (x::l):=⟨cn,h⟩
theorem PX.nil:PX K []:=trivial
theorem PX.cons{l:List Str}(cn:PySem.W.nsIn K mainGlobals x=some (some (.ref C)))(q:PySem.W.excIn K C [.type "ValueError",.type "Exception",.type "BaseException",.type "object"] "ValueError.__new__"=true)(h:PX K l):PX K (x::l):=⟨⟨C,cn,q⟩,h⟩
theorem FZ{P:List Value->Prop}{n:Nat}(h:∀a vs,vs.length=n->P (a::vs))(us:List Value)(hl:us.length=n+1):P us:=by
 cases us with
 |nil=>cases hl
 |cons a vs=>exact h a vs (Nat.succ.inj hl)
theorem FY{P:List Value->Prop}(h:P [])(us:List Value)(hl:us.length=0):P us:=by
 cases ip.mp hl;exact h
theorem BF.nil:BF tp []:=trivial
theorem BF.cons{l:List RF}(h:∀(kV doc pm:Value) (an:Option Addr) (fY ct:Value) (us:List Value),us.length=(N.take k).length->bindArgs (PySem.W.fnOf nm nm (E0 (tp i)) (u4 (tp i)) (s9 (tp i)) .none kV doc pm an fY ct) ⟨us,[]⟩=pure ((N.take k).zip us))(h2:BF tp l):BF tp (⟨id,nm,N,k,i,m⟩::l):=⟨h,h2⟩
theorem BM.nil:BM mt []:=trivial
theorem BM.cons{l:List RM}(h:∀(kV doc pm:Value) (an:Option Addr) (fY ct:Value) (us:List Value),us.length=(N.take k).length->bindArgs (PySem.W.fnOf nm qn (E0 (mt i j)) (u4 (mt i j)) (s9 (mt i j)) .none kV doc pm an fY ct) ⟨us,[]⟩=pure ((N.take k).zip us))(h2:BM mt l):BM mt (⟨id,cl,nm,qn,N,k,i,j,m⟩::l):=⟨h,h2⟩
theorem YF.nil:YF tp c []:=trivial
theorem YF.cons{l:List RF}(h:x5 (comp 60) (c.at ⟨nm,nm,N,N.take k,tp i⟩) (u4 (tp i))=some m.body)(h2:YF tp c l):YF tp c (⟨id,nm,N,k,i,m⟩::l):=⟨h,h2⟩
theorem YM.nil:YM mt c []:=trivial
theorem YM.cons{l:List RM}(h:x5 (comp 60) (c.at ⟨nm,qn,N,N.take k,mt i j⟩) (u4 (mt i j))=some m.body)(h2:YM mt c l):YM mt c (⟨id,cl,nm,qn,N,k,i,j,m⟩::l):=⟨h,h2⟩
theorem YF.get:∀{l:List RF},YF tp c l->∀r∈l,x5 (comp 60) (c.at (r.d tp)) (u4 (tp r.i))=some r.m.body
 |_::_,h,r,hr=>(aH.mp hr).elim (λz=>z▸h.1) (YF.get h.2 r)
theorem YM.get:∀{l:List RM},YM mt c l->∀r∈l,x5 (comp 60) (c.at (r.d mt)) (u4 (mt r.i r.j))=some r.m.body
 |_::_,h,r,hr=>(aH.mp hr).elim (λz=>z▸h.1) (YM.get h.2 r)
theorem PF.get:∀{l:List RF},PF tp K l->∀r∈l,∃f fd,PySem.W.nsIn K mainGlobals r.nm=some (some (.ref f))/\ql K r.nm r.nm (tp r.i) f fd
 |_::_,h,r,hr=>(aH.mp hr).elim (λz=>z▸h.1) (PF.get h.2 r)
theorem PM.get:∀{l:List RM},PM mt K l->∀r∈l,∃C f fd,PySem.W.nsIn K mainGlobals r.cl=some (some (.ref C))/\Meth K C r.nm f/\ql K r.nm r.qn (mt r.i r.j) f fd
 |_::_,h,r,hr=>(aH.mp hr).elim (λz=>z▸h.1) (PM.get h.2 r)
theorem PC.get:∀{l:List (Str×Nat)},PC K l->∀r∈l,∃C,PySem.W.nsIn K mainGlobals r.1=some (some (.ref C))/\kj K C/\PySem.W.makesIn K C=true/\PySem.W.keepIn K (.ref C)=true
 |_::_,h,r,hr=>(aH.mp hr).elim (λz=>z▸h.1) (PC.get h.2 r)
theorem PA.get:∀{l:List (Str×Str)},PA K l->∀r∈l,∃C,PySem.W.nsIn K mainGlobals r.2=some (some (.ref C))/\PySem.W.findIn K (.ref C) r.1=some none
 |_::_,h,r,hr=>(aH.mp hr).elim (λz=>z▸h.1) (PA.get h.2 r)
theorem PB.get:∀{l:List Str},PB K l->∀r∈l,PySem.W.nsIn K mainGlobals r=some none
 |_::_,h,r,hr=>(aH.mp hr).elim (λz=>z▸h.1) (PB.get h.2 r)
theorem PX.get:∀{l:List Str},PX K l->∀r∈l,∃C,PySem.W.nsIn K mainGlobals r=some (some (.ref C))/\PySem.W.excIn K C [.type "ValueError",.type "Exception",.type "BaseException",.type "object"] "ValueError.__new__"=true
 |_::_,h,r,hr=>(aH.mp hr).elim (λz=>z▸h.1) (PX.get h.2 r)
theorem BF.get:∀{l:List RF},BF tp l->∀r∈l,∀(kV doc pm:Value) (an:Option Addr) (fY ct:Value) (us:List Value),us.length=(r.N.take r.k).length->bindArgs (PySem.W.fnOf r.nm r.nm (E0 (tp r.i)) (u4 (tp r.i)) (s9 (tp r.i)) .none kV doc pm an fY ct) ⟨us,[]⟩=pure ((r.N.take r.k).zip us)
 |_::_,h,r,hr=>(aH.mp hr).elim (λz=>z▸h.1) (BF.get h.2 r)
theorem BM.get:∀{l:List RM},BM mt l->∀r∈l,∀(kV doc pm:Value) (an:Option Addr) (fY ct:Value) (us:List Value),us.length=(r.N.take r.k).length->bindArgs (PySem.W.fnOf r.nm r.qn (E0 (mt r.i r.j)) (u4 (mt r.i r.j)) (s9 (mt r.i r.j)) .none kV doc pm an fY ct) ⟨us,[]⟩=pure ((r.N.take r.k).zip us)
 |_::_,h,r,hr=>(aH.mp hr).elim (λz=>z▸h.1) (BM.get h.2 r)
end
def ye(N P:List Str)(sc:Scope):Bool:=decide (sc.kind=.function)&&!sc.isCoroutine&&!sc.isGenerator&&decide N.Nodup&&decide (N.take P.length=P)&&P.all (λx=>decide (sc.names.lookup x=some .local)||decide (sc.names.lookup x=some .cell))&&sc.names.all λy=>decide (y.2≠.free)
theorem Ku{N P:List Str}{sc:Scope}(h:ye N P sc=true):iY N P sc:=by
 unfold ye at h;simp only[Bool.and_eq_true,decide_eq_true_eq,Bool.not_eq_true',List.all_eq_true,Bool.or_eq_true] at h;obtain⟨⟨⟨⟨⟨⟨h1,h2⟩,h3⟩,h4⟩,h5⟩,h6⟩,h7⟩:=h;exact⟨h1,h2,h3,h4,h5,h6,h7⟩
theorem a13{h₀:Heap}{mg:Str->Option Value}{Iq:List Value}{newId:String}(X:K.In h₀)(G:h₀.Ns mainGlobals mg)(e:PySem.W.nsIn K mainGlobals x=some (some (.ref C)))(q:PySem.W.excIn K C Iq newId=true):PyProof.Rows.OwnCls x C Iq newId mg h₀:=by
 refine⟨bW X G e,?_⟩;unfold PySem.W.excIn at q;split at q
 ·rename_i dd cd sl ho;split at q
  ·rename_i C' bm k0 k1 k2 k3 n k5 hm hs;simp only[Bool.and_eq_true,beq_iff_eq,Bool.not_eq_true'] at q;obtain⟨⟨⟨⟨⟨z1,z2⟩,vU⟩,ht⟩,bR⟩,yq⟩:=q;subst z1;subst z2;obtain⟨nm,bs,mro,ns,qn,hd,sn,sub,ab,col,del⟩:=cd;dsimp only at hm vU bR yq;subst hm vU;have pP:sl=#[k0,k1,k2,k3,some (.builtin n),k5]:=by
    obtain⟨l⟩:=sl;simp only at hs;rw[hs]
   subst pP;exact⟨bm,ns,nm,qn,bs,hd,sn,sub,ab,col,dd,k0,k1,k2,k3,k5,_,X _ _ ho,.of_isNs (PySem.W.isNs_of_in X bR),PySem.W.nsMap_none_of_in X bR yq,PySem.W.tail_of_in X ht⟩
  ·cases q
 ·cases q
def U8(K:PySem.W.Frag)(x:Str):Addr:=match PySem.W.nsIn K mainGlobals x with
 |some (some (.ref C))=>C
 |_=>0
def KO(K:PySem.W.Frag)(exc:List Str):Bool:=exc.all λx=>exc.all λy=>decide (PySem.W.exmOne K (.ref (U8 K x)) (.ref (U8 K y))=some (decide (x=y\/y="MintError")))
theorem Zg{exc:List Str}(h:KO K exc=true){y:Str}{C':Addr}(hx:exc.contains x=true)(hy:exc.contains y=true)(hC:u9 K x C)(BX:u9 K y C'):PySem.W.exmOne K (.ref C) (.ref C')=some (decide (x=y\/y="MintError")):=by
 have h1:=cz.mp h x (by simpa using hx);have h2:=bJ (cz.mp h1 y (by simpa using hy));have e1:U8 K x=C:=by unfold U8;rw[show PySem.W.nsIn K mainGlobals x=_ from hC]
 have e2:U8 K y=C':=by unfold U8;rw[show PySem.W.nsIn K mainGlobals y=_ from BX]
 rw[e1,e2] at h2;exact h2
theorem Dp{α:Type}{f:α->Nat}:∀{l:List α},(l.map f).Nodup->∀r∈l,l.find? (λx=>Nat.beq (f x) (f r))=some r
 |y::l,nd,r,hr=>by
  rw[bh,cS] at nd;rcases aH.mp hr with rfl|hr
  ·rw[List.find?_cons_of_pos];exact Nat.beq_refl _
  ·rw[List.find?_cons_of_neg]
   ·exact Dp nd.2 r hr
   ·intro z;exact nd.1 (aL.mpr ⟨r,hr,(jc z).symm⟩)
theorem SO{α β:Type}{f:α->Nat}{g:β->Nat}{l:List α}{r:β}(h:g r∉l.map f):l.find? (λx=>Nat.beq (f x) (g r))=none:=by
 rw[kn];intro x hx z;exact h (aL.mpr ⟨x,hx,jc z⟩)
section
variable{w:World}{h₀:Heap}{mg:Str->Option Value}{c:i7}{F:List RF}{M:List RM}{tp:Nat->Stmt}{mt:Nat->Nat->Stmt}
structure lP(K:PySem.W.Frag)(c:i7)(F:List RF)(M:List RM)(tp:Nat->Stmt)(mt:Nat->Nat->Stmt):Prop where
 qF:PF tp K F
 qM:PM mt K M
 qC:PC K c.cls
 qA:PA K c.om
 qB:PB K c.blt
 qX:PX K c.exc
 xm:KO K c.exc=true
structure lO(c:i7)(F:List RF)(M:List RM)(tp:Nat->Stmt)(mt:Nat->Nat->Stmt):Prop where
 cf:c.fns=F.map λr=>(r.nm,r.id)
 cm:c.pN=M.map λr=>(r.nm,r.cl,r.id)
 ci:c.cls.all (λy=>M.any λr=>decide (r.cl=y.1)&&decide (r.nm="__init__")&&Nat.beq r.id y.2)=true
 nd:(F.map (·.id)++M.map (·.id)).Nodup
 sF:F.all (λr=>ye r.N (r.N.take r.k) (s9 (tp r.i))&&decide (r.m.ar=(r.N.take r.k).length)&&decide (r.m.n=r.N.length))=true
 sM:M.all (λr=>ye r.N (r.N.take r.k) (s9 (mt r.i r.j))&&decide (r.m.ar=(r.N.take r.k).length)&&decide (r.m.n=r.N.length))=true
 oF:YF tp c F
 oM:YM mt c M
 bF:BF tp F
 bM:BM mt M
theorem Lp(I:lP K c F M tp mt)(X:lO c F M tp mt)(r:RF)(hr:r∈F):∃f fd,jM K c (r.d tp) r.m f fd/\PySem.W.nsIn K mainGlobals r.nm=some (some (.ref f))/\tY F M r.id=some r.m:=by
 obtain⟨f,fd,a,q⟩:=I.qF.get r hr;have s:=cz.mp X.sF r hr;simp only[Bool.and_eq_true,decide_eq_true_eq] at s;have o:=X.oF.get r hr;refine⟨f,fd,⟨q,q.binds (X.bF.get r hr),Ku s.1.1,o,s.1.2,s.2⟩,a,?_⟩;unfold tY;rw[Dp (f:=(·.id)) (cu.mp X.nd).1 r hr]
theorem Lq(I:lP K c F M tp mt)(X:lO c F M tp mt)(r:RM)(hr:r∈M):∃C f fd,jM K c (r.d mt) r.m f fd/\PySem.W.nsIn K mainGlobals r.cl=some (some (.ref C))/\Meth K C r.nm f/\tY F M r.id=some r.m:=by
 obtain⟨C,f,fd,a,q1,q⟩:=I.qM.get r hr;have s:=cz.mp X.sM r hr;simp only[Bool.and_eq_true,decide_eq_true_eq] at s;have o:=X.oM.get r hr;refine⟨C,f,fd,⟨q,q.binds (X.bM.get r hr),Ku s.1.1,o,s.1.2,s.2⟩,a,q1,?_⟩;have nd:=cu.mp X.nd;unfold tY;rw[SO (f:=λr:RF=>r.id) (g:=λr:RM=>r.id) (r:=r) (λz=>nd.2.2 _ z _ (aL.mpr ⟨r,hr,rfl⟩) rfl),Dp (f:=λr:RM=>r.id) nd.2.1 r hr]
 rfl
theorem So(I:lP K c F M tp mt)(Y:lO c F M tp mt)(X:K.In h₀)(G:h₀.Ns mainGlobals mg)(con:∀x d,c.con.lookup x=some d->∃v u,mg x=some u/\RelV v u/\∀ρ H,d8 K ρ H d v)(rL:∀x kvs,c.gd.lookup x=some kvs->∃A vs,mg x=some (.ref A)/\wY K w.params A vs/\qe K kvs vs):nQ w K mg c (tY F M):=by
 refine⟨λx i hx=>?_,λx i hx=>?_,λx y i C hx hC=>?_,λf y C hx hC=>?_,con,λx hx=>?_,λx hx=>?_,λx y C C' hx hy hC BX=>Zg I.xm hx hy hC BX,rL⟩
 ·have hm:=aQ hx;rw[Y.cf] at hm;obtain⟨r,hr,e⟩:=aL.mp hm;cases e;obtain⟨f,fd,O,a,t⟩:=Lp I Y r hr;exact⟨_,_,f,fd,t,O,bW X G a⟩
 ·have hm:=aQ hx;have h1:=cz.mp Y.ci _ hm;obtain⟨r,hr,e⟩:=aV.mp h1;simp only[Bool.and_eq_true,decide_eq_true_eq] at e;obtain⟨⟨e1,e2⟩,e3⟩:=e;have e3:=jc e3;obtain⟨C,f,fd,O,a,q,t⟩:=Lq I Y r hr;obtain⟨C',a',hc,mk,kp⟩:=I.qC.get _ hm;rw[e1] at a;cases a.symm.trans a';rw[e2] at q;rw[e3] at t;exact⟨C,_,_,f,fd,t,O,bW X G a,a,hc,⟨mk,q.at_,q.fn,kp⟩⟩
 ·rw[Y.cm] at hx;obtain⟨r,hr,e⟩:=aL.mp hx;cases e;obtain⟨C',f,fd,O,a,q,t⟩:=Lq I Y r hr;cases a.symm.trans hC;exact⟨_,_,f,fd,t,O,q⟩
 ·obtain⟨C',a,q⟩:=I.qA.get _ hx;cases a.symm.trans hC;exact q
 ·exact PySem.W.mg_none_of X G (I.qB.get x (by simpa using hx))
 ·obtain⟨C,a,q⟩:=I.qX.get x (by simpa using hx);exact⟨_,bW X G a,a,λbase nW wz=>⟨_,_,_,_,a13 nW wz a q,PySem.F.excBase_ValueError⟩⟩
end
end M
namespace M
open PySem L2
variable{g g' g0:G}{i j n k a b r c p hl:Nat}{o d4 H bs:List Nat}{P:fk}{Q:KD}{E:KX}{N:Ends}{ms ns M:List Int}{l:List D}{m f v:Int}{α β:Type}{x:D}{o':O}{kvs:List (Key×D)}{cs:List b7}{rs:List eK}{t:MT}{it elt:ME}{w:RW}
set_option hygiene false
local macro_rules|`(tactic|walk_at"w1")=>`(tactic|with_reducible first|refine Q6 ?_|refine xj ?_|refine xk ?_|refine ES ?_|refine Sx ?_|refine YX ?_|refine Lx ?_|refine SD ?_|refine ER ?_|refine q9 ?_|refine Ap ?_|(refine w_var (d:=?_) ?_ ?_;rotate_left;·with_unfolding_all rfl)|refine w_lit ?_|refine sv ?_|refine xH ?_|refine WW ?_|refine SA ?_|refine UE ?_|refine w_and ?_|refine w_or ?_|refine w_not ?_|refine w_ite ?_|refine yV ?_|refine Sy ?_|refine yb ?_|refine zW ?_|refine U9 ?_|refine SE ?_|refine YV ?_|refine SF ?_|refine xl ?_|refine ET ?_|refine WY ?_|refine WZ ?_|refine YS ?_|refine VM ?_|refine VL ?_|refine VJ ?_|refine VI ?_|refine Xe ?_|refine IA ?_|refine Xd ?_|refine Xq ?_|refine Xf ?_|refine Xi ?_|refine Xk ?_|refine Xj ?_|refine Xm ?_|refine Xo ?_|refine Xl ?_|refine si ?_|refine Xg ?_|refine Ig ?_|refine Ic ?_|refine Ie ?_|refine Iz ?_|refine Im ?_|refine Dj ?_|refine Zl ?_|refine lG ?_|refine pe ?_|refine Jg ?_|refine Jh ?_|refine GH ?_|refine AD ?_|refine Ay ?_|refine Az ?_|refine Gm ?_|refine GF ?_|refine Ga ?_)
local macro_rules|`(tactic|walk_at"w2")=>`(tactic|repeat(with_reducible first|walk_at "w1"|refine EI (by simp) ?_|refine EH (by simp) ?_|refine k8 (a7 (by assumption)) (by with_unfolding_all rfl) ?_|refine y9 (a7 (by assumption)) ?_|refine zN (by unfold Z5;decide) ?_))
local macro_rules|`(tactic|walk_at"w3")=>`(tactic|repeat(with_reducible first|walk_at "w1"|refine EI (by simp) ?_|refine EH (by simp) ?_|refine k8 (a7 (by assumption)) (by with_unfolding_all rfl) ?_|refine y9 (a7 (by assumption)) ?_|refine zN (by unfold Z5;decide) ?_|refine And.intro (show List.length _ <= 1000 from by simp) ?_|refine B4 (by with_unfolding_all rfl) ?_|refine f7 ?_|refine x3 (by with_unfolding_all rfl) ?_))
local macro_rules|`(tactic|walk_at"")=>`(tactic|repeat(with_reducible first|walk_at "w1"|refine UG ?_|refine YW ?_|refine Sz ?_|refine Xr ?_|refine YK ?_|refine Gb ?_|refine max2 ?_|refine min2 ?_|refine XE ?_|refine oZ ?_|refine Qg ?_|refine HN ?_|refine EI (by simp) ?_|refine EH (by simp) ?_|refine k8 (a7 (by assumption)) (by with_unfolding_all rfl) ?_|refine y9 (a7 (by assumption)) ?_|refine zN (by unfold Z5;decide) ?_|refine And.intro (show List.length _ <= 1000 from by simp) ?_|refine B4 (by with_unfolding_all rfl) ?_|refine f7 ?_|refine x3 (by with_unfolding_all rfl) ?_|refine And.intro (V6 (by assumption)) ?_|refine And.intro (ZI (by assumption)) ?_|refine And.intro (Wd (by assumption)) ?_|refine Q5 (by decide) ?_|refine YY (by decide) (by decide) ?_|refine vx ?_))
set_option hygiene true
abbrev eT(a:ME):ME:=.cons a .nil
abbrev cW(a b:ME):ME:=.cons a (.cons b .nil)
abbrev gO(a b c:ME):ME:=.cons a (.cons b (.cons c .nil))
abbrev jR(a b c d:ME):ME:=.cons a (.cons b (.cons c (.cons d .nil)))
abbrev qt(a b c d e:ME):ME:=.cons a (.cons b (.cons c (.cons d (.cons e .nil))))
abbrev HJ(a b c d e f:ME):ME:=.cons a (.cons b (.cons c (.cons d (.cons e (.cons f .nil)))))
abbrev P'(a b c d e f g:ME):ME:=.cons a (.cons b (.cons c (.cons d (.cons e (.cons f (.cons g .nil))))))
abbrev cY(o:PySem.CmpOp)(a b:ME):ME:=.fm (.prim (.cmp o) (.cons a (.cons b .nil)))
abbrev cB(a b:ME):ME:=.prim .ix (.cons a (.cons b .nil))
abbrev aY(a:Int):ME:=.lit (.int a)
abbrev gb(a:PySem.Str):ME:=.lit (.str a)
abbrev cJ(p:Pr)(a:ME):ME:=.prim p (.cons a .nil)
abbrev br(p:Pr)(a b:ME):ME:=.prim p (.cons a (.cons b .nil))
abbrev aI:ME:=.var 0
abbrev aT:ME:=.var 1
abbrev fQ:ME:=.var 10
abbrev vn:ME:=.var 11
abbrev iG:ME:=.var 12
abbrev lF:ME:=.var 13
abbrev pO:ME:=.var 15
abbrev vm:ME:=.var 16
abbrev bc:ME:=.var 2
abbrev bp:ME:=.var 3
abbrev bE:ME:=.var 4
abbrev cN:ME:=.var 5
abbrev dZ:ME:=.var 6
abbrev eZ:ME:=.var 7
abbrev gU:ME:=.var 8
abbrev lx:ME:=.var 9
def E1:aX:=⟨2,5,(.seq (.ifs (.cQ (cY .Lt (cB aI (aY 2)) aT) (cY .Lt (cB aI (aY 1)) (cJ .len (cB aI (aY 0))))) (.seq (.set 2 (cB (cB aI (aY 0)) (cB aI (aY 1)))) (.seq (.eP aI (aY 1) (br (.bin .Add) (cB aI (aY 1)) (aY 1))) (.seq (.eP aI (aY 2) (aY 0)) (.seq (.ifs (cY .GtE bc (br (.bin .Pow) (aY 10) (aY 18))) (.seq (.eP aI (aY 2) bc) .pass) (.seq (.eP aI (aY 3) (br (.bin .Mod) (br (.bin .Add) (br (.bin .Add) (br (.bin .Mult) (cB aI (aY 3)) (aY 48271)) (br (.bin .Mult) (br (.bin .Mod) bc (aY 2147483629)) (aY 69621))) (aY 12345)) (aY 2147483647))) .pass)) .pass)))) .pass) (.seq (.ifs (cY .GtE (cB aI (aY 2)) aT) (.seq (.set 3 (br (.bin .Mod) (cB aI (aY 2)) aT)) (.seq (.eP aI (aY 2) (br (.bin .FloorDiv) (cB aI (aY 2)) aT)) (.seq (.ret bp) .pass))) .pass) (.seq (.set 4 (cB aI (aY 3))) (.seq (.eP aI (aY 3) (br (.bin .Mod) (br (.bin .Add) (br (.bin .Add) (br (.bin .Mult) (br (.bin .Mod) (br (.bin .Mult) bE bE) (aY 2147483629)) (aY 5)) (br (.bin .Mult) bE (aY 16811))) (aY 2531011)) (aY 2147483647))) (.seq (.ret (br (.bin .Mod) (br (.bin .Add) (br (.bin .FloorDiv) (cB aI (aY 3)) (aY 59)) (br (.bin .Mult) (br (.bin .Mod) (cB aI (aY 3)) (aY 8191)) (aY 31))) aT)) .pass)))))⟩
def qh:aX:=⟨1,2,(.seq (.set 1 (.call 4 (cW aI (br (.bin .Pow) (aY 10) (aY 9))))) (.seq (.ifs (cY .Eq (.call 4 (cW aI (aY 2))) (aY 0)) (.seq (.set 1 (br (.bin .Add) aT (br (.bin .Pow) (aY 10) (aY 25)))) .pass) .pass) (.seq (.ifs (cY .Eq (.call 4 (cW aI (aY 2))) (aY 0)) (.seq (.ret (br (.bin .Sub) (cJ (.un .USub) (aY 1)) aT)) .pass) .pass) (.seq (.ret aT) .pass))))⟩
structure f9(g:G)(d:Nat):Prop where
 ex:∃(s:Nat) (p b r:Int) (xs:List Int),g[d]?=some (.lst [.ref s,.int p,.int b,.int r])/\g[s]?=some (.lst (xs.map .int))/\s<d/\0<=p/\0<=b/\0<=r/\r<2147483647
structure Gr(d:Nat)(g g':G):Prop where
 len:g.length<=g'.length
 old:∀i,i≠d->i<g.length->g'[i]?=g[i]?
theorem Gr.refl(d:Nat)(g:G):Gr d g g:=⟨ay _,λ_ _ _=>rfl⟩
theorem Gr.trans{d:Nat}{g g1 g2:G}(a:Gr d g g1)(b:Gr d g1 g2):Gr d g g2:=⟨aB a.len b.len,λi h1 h2=>(b.old i h1 (aA h2 a.len)).trans (a.old i h1 h2)⟩
theorem Gr.set(d:Nat)(g:G)(o:O):Gr d g (g.set d o):=⟨by simp,λi h1 h2=>az (cb h1)⟩
theorem Gr.snoc(d:Nat)(g:G)(o:O):Gr d g (g++[o]):=⟨by simp,λi h1 h2=>aD h2⟩
theorem Gr.at{d:Nat}(h:Gr d g g'){o:O}(hi:i≠d)(e:g[i]?=some o):g'[i]?=some o:=(h.old i hi (aj.mp e).1).trans e
theorem k9{o:O}(h:g[i]?=some o):i<g.length:=(aj.mp h).1
theorem f9.lt{d:Nat}(h:f9 g d):d<g.length:=by
 obtain⟨_,_,_,_,_,e,_⟩:=h.ex;exact k9 e
theorem f9.snoc{d:Nat}(h:f9 g d)(o:O):f9 (g++[o]) d:=by
 obtain⟨s,p,b,r,xs,e1,e2,q⟩:=h.ex;exact⟨s,p,b,r,xs,by rw[aD (k9 e1)];exact e1,by rw[aD (k9 e2)];exact e2,q⟩
def j8:MS->MS
 |.seq _ b=>b
 |x=>x
theorem Fc{i j:Int}(h1:-(2 ^ 64)<i)(h2:i<2 ^ 64):rZ i j:=.inl ⟨h1,h2⟩
theorem uu{i j:Int}(h1:-(2 ^ 64)<j)(h2:j<2 ^ 64):rZ i j:=.inr ⟨h1,h2⟩
theorem aZ5{d:Nat}{n:Int}{c2:Option D}(hN:N.rt=Q)(D0:f9 g d)(hn:0<n)(oO:n<1073741824)(h:∀r g',0<=r->r<n->f9 g' d->Gr d g g'->Q (.int r) g'):wpS P (j8 E1.body) N [some (.ref d),some (.int n),c2,none,none] g E:=by
 obtain⟨s,p,b,r,xs,e1,e2,oH,hp,hb,hr,oa⟩:=D0.ex;have eE:=k9 e1;subst hN;dsimp[E1,j8];walk_at "w2";refine if2 (λc=>?_) (λc=>?_)
 ·walk_at "w2";refine Q5 hn ?_;walk_at "w2";refine zM ⟨hn,oO⟩ ?_;walk_at "w2";refine Q1 e1 (by with_unfolding_all rfl) ?_;walk_at "w2";refine h _ _ (dS _ ()) (df _ hn) ⟨s,p,b / n,r,xs,?_,?_,oH,hp,Int.ediv_nonneg hb (),hr,oa⟩ (Gr.set d g _)
  ·rw[ba eE];rfl
  ·rw[az (cc oH)];exact e2
 ·walk_at "w2";have Gp:-(2 ^ 64)<r/\r<2 ^ 64:=⟨by omega,by omega⟩
  refine U2 (Fc Gp.1 Gp.2) ?_;walk_at "w2";refine Q5 ∅ ?_;walk_at "w2";refine U2 (uu ∅ ∅) ?_;walk_at "w2";refine U2 (uu ∅ ∅) ?_;walk_at "w2";refine Q5 ∅ ?_;walk_at "w2";refine Q1 e1 (by with_unfolding_all rfl) ?_;generalize fK:(r*r % 2147483629*5+r*16811+2531011) % 2147483647=r';have q0:0<=r':=by rw[<- fK];exact dS _ ∅
  have q1:r'<2147483647:=by rw[<- fK];exact df _ ∅
  have Qy:(g.set d (.lst [.ref s,.int p,.int b,.int r']))[d]?=some (.lst [.ref s,.int p,.int b,.int r']):=ba eE;show wpS P _ _ _ (g.set d (.lst [.ref s,.int p,.int b,.int r'])) E;walk_at "w2";refine zM ⟨by decide,by decide⟩ ?_;walk_at "w2";refine Q5 ∅ ?_;walk_at "w2";refine U2 (uu ∅ ∅) ?_;walk_at "w2";refine Q5 hn ?_;walk_at "w2";refine h _ _ (dS _ ()) (df _ hn) ⟨s,p,b,r',xs,Qy,?_,oH,hp,hb,q0,q1⟩ (Gr.set d g _);rw[az (cc oH)];exact e2
theorem d6{T:Nat->Option aX}(hT:T 4=some E1){d:Nat}{n:Int}(D0:f9 g d)(hn:0<n)(oO:n<1073741824)(h:∀r g',0<=r->r<n->f9 g' d->Gr d g g'->Q (.int r) g'):c5 T (k+1) 4 [.ref d,.int n] g Q E:=by
 obtain⟨s,p,b,r,xs,e1,e2,oH,hp,hb,hr,oa⟩:=D0.ex;have eE:=k9 e1;refine call_of hT rfl ?_;have tail:∀(g':G) (c2:Option D),f9 g' d->Gr d g g'->wpS (c5 T k) (j8 E1.body) ⟨λ_ g'=>Q .bN g',Q,λ_ _=>False,λ_ _=>False⟩ [some (.ref d),some (.int n),c2,none,none] g' E :=
  λg' c2 D1 gr=>aZ5 rfl D1 hn oO λr g2 a b c e=>h r g2 a b c (gr.trans e)
 dsimp[E1,c7,List.replicate];walk_at "w2";refine if2 (λc=>?_) (λc=>?_)
 ·walk_at "w2";refine if2 (λc'=>?_) (λc'=>?_)
  ·walk_at "w2";have jW:p.toNat<xs.length:=by
    rw[ae] at c';omega
   have ea:fL (xs.map D.int) p=some (.int xs[p.toNat]):=by
    have:=n6 (xs:=xs.map D.int) (j:=p.toNat) (v:=.int xs[p.toNat]) (by rw[ak,ai jW];rfl)
    rwa [show((p.toNat:Nat):Int)=p by omega] at this
   refine k8 (a7 e2) ea ?_;generalize xs[p.toNat]=cell;walk_at "w2";refine Q1 e1 (by with_unfolding_all rfl) ?_;have f1:(g.set d (.lst [.ref s,.int (p+1),.int b,.int r]))[d]?=some (.lst [.ref s,.int (p+1),.int b,.int r]):=ba eE;show wpS (c5 T k) _ _ _ (g.set d (.lst [.ref s,.int (p+1),.int b,.int r])) E;walk_at "w2";refine Q1 f1 (by with_unfolding_all rfl) ?_;rw[gz];have f2:(g.set d (.lst [.ref s,.int (p+1),.int 0,.int r]))[d]?=some (.lst [.ref s,.int (p+1),.int 0,.int r]):=ba eE;show wpS (c5 T k) _ _ _ (g.set d (.lst [.ref s,.int (p+1),.int 0,.int r])) E;walk_at "w2";refine if2 (λc2=>?_) (λc2=>?_)
   ·walk_at "w2";refine Q1 f2 (by with_unfolding_all rfl) ?_;rw[gz];refine tail _ _ ⟨s,p+1,cell,r,xs,ba eE,by rw[az (cc oH)];exact e2,oH,by omega,?_,hr,oa⟩ (Gr.set d g _);have:(10:Int) ^ (18:Int).toNat<=cell:=c2;have HI:(0:Int)<=10 ^ (18:Int).toNat:=by decide
    omega
   ·walk_at "w2";refine U2 (uu ∅ ∅) ?_;walk_at "w2";refine Q5 ∅ ?_;walk_at "w2";refine U2 (uu ∅ ∅) ?_;walk_at "w2";refine Q5 ∅ ?_;walk_at "w2";refine Q1 f2 (by with_unfolding_all rfl) ?_;rw[gz];exact tail _ _ ⟨s,p+1,0,_,xs,ba eE,by rw[az (cc oH)];exact e2,oH,by omega,by decide,dS _ ∅,df _ ∅⟩ (Gr.set d g _)
  ·walk_at "w1";exact tail _ _ D0 (Gr.refl _ _)
 ·walk_at "w1";walk_at "w1";exact tail _ _ D0 (Gr.refl _ _)
theorem Zh{T:Nat->Option aX}(hT:T 4=some E1)(Pa:T 5=some qh){d:Nat}(D0:f9 g d)(h:∀r g',f9 g' d->Gr d g g'->Q (.int r) g'):c5 T (k+2) 5 [.ref d] g Q E:=by
 refine call_of Pa rfl ?_;dsimp[qh,c7,List.replicate];walk_at "w2";refine d6 hT D0 ∅ ∅ λr1 g1 _ _ D1 G1=>?_;walk_at "w2";refine d6 hT D1 ∅ ∅ λr2 g2 _ _ D2 G2=>?_;walk_at "w2";have MN:=G1.trans G2;have last:∀(x:Int),wpS (c5 T (k+1)) (j8 (j8 qh.body)) ⟨λ_ g'=>Q .bN g',Q,λ_ _=>False,λ_ _=>False⟩ [some (.ref d),some (.int x)] g2 E:=λx=>by
  dsimp[qh,j8];walk_at "w2";refine d6 hT D2 ∅ ∅ λr3 g3 _ _ D3 G3=>?_;walk_at "w2";refine if2 (λc=>?_) (λc=>?_)
  ·walk_at "w2";exact h _ _ D3 (MN.trans G3)
  ·walk_at "w2";exact h _ _ D3 (MN.trans G3)
 refine if2 (λc=>?_) (λc=>?_)
 ·refine Q6 ?_;refine xk ?_;refine sv ?_;walk_at "w1";refine sv ?_;walk_at "w1";walk_at "w1";refine zN (by unfold Z5;decide) ?_;walk_at "w1";exact last _
 ·exact last _
def Ee:aX:=⟨1,1,(.seq (.ret (.cQ (br .isin aI (.lit (.ty "int"))) (.dE (br .isin aI (.lit (.ty "bool")))))) .pass)⟩
def Y6:aX:=⟨3,3,(.seq (.ret (.cQ (.call 38 (eT aI)) (.chain .LtE .LtE aT aI bc))) .pass)⟩
structure NF(T:Nat->Option aX):Prop where
 nf:T 1=some Y6
 is:T 38=some Ee
def K8:aX:=⟨1,3,(.seq (.set 1 (aY 0)) (.seq (.dw (.one 2) (.fe aI) (.seq (.ifs (.dE (.fm (.call 1 (gO bc aT (aY 7))))) (.seq (.ret (.lit (.bl false))) .pass) .pass) (.seq (.set 1 (br (.bin .Add) bc (aY 1))) .pass))) (.seq (.ret (.lit (.bl true))) .pass)))⟩
def zT:aX:=⟨1,1,(.seq (.ret (.prim .lst (jR (cJ .list (br (.ji false true) aI (aY 63))) (aY 0) (aY 0) (aY 29)))) .pass)⟩
def xE:aX:=⟨1,1,(.seq (.ret (.cQ (br .isin aI (.lit (.ty "int"))) (.dE (br .isin aI (.lit (.ty "bool")))))) .pass)⟩
def F4:aX:=⟨2,2,(.seq (.ifs (cY .Is aT (.lit .bN)) (.seq (.ret (br (.cmp .Is) aI (.lit .bN))) .pass) .pass) (.seq (.ifs (.fm (br .isin aT (.lit (.ty "bool")))) (.seq (.ret (.cQ (br .isin aI (.lit (.ty "bool"))) (br (.cmp .Eq) aI aT))) .pass) .pass) (.seq (.ifs (.fm (br .isin aT (.lit (.ty "int")))) (.seq (.ret (.cQ (.call 6 (eT aI)) (br (.cmp .Eq) aI aT))) .pass) .pass) (.seq (.ifs (.fm (br .isin aT (.lit (.ty "str")))) (.seq (.ret (.cQ (br .isin aI (.lit (.ty "str"))) (br (.cmp .Eq) aI aT))) .pass) .pass) (.seq (.ifs (.jH (cY .NotEq (br .isin aT (.lit (.ty "tuple"))) (br .isin aI (.lit (.ty "tuple")))) (cY .NotEq (br .isin aT (.lit (.ty "list"))) (br .isin aI (.lit (.ty "list"))))) (.seq (.ret (.lit (.bl false))) .pass) .pass) (.seq (.ifs (cY .NotEq (cJ .len aI) (cJ .len aT)) (.seq (.ret (.lit (.bl false))) .pass) .pass) (.seq (.ret (cJ .all (.comp [1,0] 4 (.one 3) (.dW (cJ .len aT)) .no (.call 7 (cW (cB aT bp) (cB aI bp)))))) .pass)))))))⟩
theorem R0{g:G}{n:Nat}:∀ms:List Int,(ms.map D.int).mapM (rd g n)=some (ms.map PyData.int)
 |[]=>rfl
 |m::r=>by
  rw[bh,List.mapM_cons,R0 r];cases n<;>rfl
theorem lay_ints:∀ms:List Int,PyData.canLayAll0 (ms.map PyData.int)=true
 |[]=>by simp[PyData.canLayAll0]
 |m::r=>by simp[PyData.canLayAll0,PyData.canLay0,lay_ints r]
theorem Ka:∀ms ns:List Int,PyData.eqvAll (ms.map PyData.int) (ns.map PyData.int)=decide (ms=ns)
 |[],[]=>by simp[PyData.eqvAll]
 |[],_::_=>by simp[PyData.eqvAll]
 |_::_,[]=>by simp[PyData.eqvAll]
 |m::r,n::q=>by
  simp only[List.map_cons,PyData.eqvAll,PyData.eqv,Ka r q];by_cases h:m=n
  ·subst h;simp
  ·simp[h]
theorem DY{i:Int}{k:Bool->Prop}(h:k (ms.any λm=>m==i)):qP g (.int i) (.tup (ms.map .int)) k:=by
 refine⟨_,.inr ⟨_,_,_,rfl,R0 ms,rfl,lay_ints ms,by simp[PyData.canLay0],rfl⟩,?_⟩;rw[kY];exact h
theorem a43{k:Bool->Prop}(ha:d0 g a=some (ms.map .int))(hb:d0 g b=some (ns.map .int))(h:k (decide (ms=ns))):tO g (.ref a) (.ref b) k:=by
 refine⟨_,.inr (.inr (.inr ⟨.list (ms.map .int),.list (ns.map .int),?_,?_,?_,?_,rfl⟩)),?_⟩
 ·simp only[rd];rw[ha];dsimp only;rw[R0];rfl
 ·simp only[rd];rw[hb];dsimp only;rw[R0];rfl
 ·simp[PyData.canLay0,lay_ints]
 ·simp[PyData.canLay0,lay_ints]
 ·simp only[PyData.eqv,Ka];exact h
section
variable{T:Nat->Option aX}{d:Nat}
theorem Kk(h1:NF T){i:Int}(h:Q (.bl true) g):c5 T (k+1) 38 [.int i] g Q E:=by
 refine call_of h1.is rfl ?_;dsimp[Ee,c7,List.replicate];walk_at "w2";refine gJ (c:="int") (b:=true) ∅ rfl ?_;walk_at "w2";refine gJ (c:="bool") (b:=false) ∅ rfl ?_;walk_at "w2";exact h
theorem x8(h1:NF T){i l:Int}(h:Q (.bl (decide (l<=i)&&decide (i<=m))) g):c5 T (k+2) 1 [.int i,.int l,.int m] g Q E:=by
 refine call_of h1.nf rfl ?_;dsimp[Y6,c7,List.replicate];walk_at "w2";refine Kk h1 ?_;walk_at "w2";refine if2 (λc=>?_) (λc=>?_)
 ·rw[au c] at h;walk_at "w2";exact h
 ·rw[av c] at h;exact h
def gm:Int->List Int->Bool
 |_,[]=>true
 |l,x::r=>(decide (l<=x)&&decide (x<=7))&&gm (x+1) r
theorem Kn(h1:NF T)(h2:T 2=some K8)(h:Q (.bl (gm 0 ms)) g):c5 T (k+3) 2 [.tup (ms.map .int)] g Q E:=by
 refine call_of h2 rfl ?_;dsimp[K8,c7,List.replicate];walk_at "w2";refine p6 (a8 T _) (vw (a8 T _) ?_);walk_at "w2";refine⟨_,rfl,_,λi Z g'=>g'=g/\∃(l:Int) (z:Option D),Z=[some (.tup (ms.map .int)),some (.int l),z]/\gm 0 ms=gm l (ms.drop i),λ_ _ _ _=>n5,⟨rfl,0,none,rfl,rfl⟩,λi x Z g' hx p=>?_,λZ g' p=>?_⟩
 ·obtain⟨rfl,l,z,rfl,e⟩:=p;rw[ak] at hx;cases em:ms[i]? with
  |none=>rw[em] at hx;cases hx
  |some m =>
   rw[em] at hx;cases hx;have hi:=(aj.mp em).1;have ed:ms.drop i=m::ms.drop (i+1):=by
    rw[cF hi]
    congr 1
    exact(aj.mp em).2
   rw[ed] at e;simp only[gm] at e;show wpS _ _ _ _ _ _;walk_at "w2";refine x8 h1 ?_;walk_at "w2";cases hc:(decide (l<=m)&&decide (m<=7)) with
   |true =>
    rw[hc,qq] at e;show wpS _ _ _ _ _ _;walk_at "w2";exact⟨rfl,m+1,some (.int m),rfl,e⟩
   |false =>
    rw[hc,Bool.false_and] at e;rw[e] at h;show wpS _ _ _ _ _ _;walk_at "w2";exact h
 ·obtain⟨rfl,l,z,rfl,e⟩:=p;rw[fB (by simp)] at e;simp only[gm] at e;rw[e] at h;show wpS _ _ _ _ _ _;walk_at "w2";exact h
theorem Tr(h3:T 3=some zT)(hg:g[a]?=some (.oS (ns.map .int)))(h:∀d g',f9 g' d->g.length<=d->(∀i,i<g.length->g'[i]?=g[i]?)->Q (.ref d) g'):c5 T (k+1) 3 [.ref a] g Q E:=by
 refine call_of h3 rfl ?_;dsimp[zT,c7,List.replicate];walk_at "w2";refine N9 (a34 hg) ?_;walk_at "w2";refine uh (l:=cut (ns.map D.int) none (some 63)) (a7 (by simp)) ?_;walk_at "w2";have ec:cut (ns.map D.int) none (some 63)=(cut ns none (some 63)).map D.int:=by
  unfold cut;simp[List.map_take,List.map_drop]
 refine h _ _ ⟨g.length+1,0,0,29,cut ns none (some 63),?_,?_,?_,by decide,by decide,by decide,by decide⟩ (by simp) (λi hi=>?_)
 ·simp
 ·rw[<- ec];simp
 ·simp
 ·simp[List.getElem?_append,hi,Nat.lt_of_lt_of_le hi (by omega:g.length<=g.length+1),Nat.lt_of_lt_of_le hi (by omega:g.length<=g.length+1+1)]
end
theorem IH:∀{ms:List Int} {l:Int},ms.Pairwise (· < ·)->(∀m∈ms,l<=m/\m<=7)->gm l ms=true
 |[],_,_,_=>rfl
 |m::r,l,hp,h=>by
  obtain⟨h1,h2⟩:=dJ.mp hp;have hm:=h m (by simp);simp only[gm];rw[au hm.1,au hm.2,IH h2 λx hx=>⟨by have:=h1 x hx;omega,(h x (by simp[hx])).2⟩]
  rfl
theorem M5{l:List α}{r:Int}(h0:0<=r)(h1:r<l.length):∃v,fL l r=some v/\v∈l:=by
 have hi:r.toNat<l.length:=by omega
 refine⟨l[r.toNat],?_,cg hi⟩;have:=n6 (xs:=l) (j:=r.toNat) (v:=l[r.toNat]) (ai hi)
 rwa [show((r.toNat:Nat):Int)=r by omega] at this
section
variable{T:Nat->Option aX}
theorem KZ(h7:T 7=some F4){a b:Bool}(h:Q (.bl (a==b)) g):c5 T (k+1) 7 [.bl a,.bl b] g Q E:=by
 refine call_of h7 rfl ?_;dsimp[F4,c7,List.replicate];walk_at "w2";walk_at "w2";refine gJ (c:="bool") (b:=true) ∅ rfl ?_;walk_at "w2";refine gJ (c:="bool") (b:=true) ∅ rfl ?_;walk_at "w2";exact h
end
def E2:aX:=⟨1,8,(.seq (.lY (.many [1,2,3,4,5]) aI) (.seq (.set 6 (.cQ (.call 1 (gO aT (aY 1) (aY 99))) (.call 2 (eT bc)))) (.seq (.set 7 (.cQ (.call 1 (gO bp (aY 1) (aY 99))) (.call 2 (eT bE)))) (.seq (.ret (.cQ dZ (.cQ eZ (.call 1 (gO cN (aY 0) (aY 9999)))))) .pass))))⟩
structure b7 where
 lo:Int
 lm:List Int
 up:Int
 um:List Int
 yr:Int
def b7.d(c:b7):D:=.tup [.int c.lo,.tup (c.lm.map .int),.int c.up,.tup (c.um.map .int),.int c.yr]
def v9(c:b7):Bool:=((decide (1<=c.lo)&&decide (c.lo<=99))&&gm 0 c.lm)&&(((decide (1<=c.up)&&decide (c.up<=99))&&gm 0 c.um)&&(decide (0<=c.yr)&&decide (c.yr<=9999)))
section
variable{T:Nat->Option aX}{d:Nat}
theorem aH8(h1:NF T)(h2:T 2=some K8)(tM:T 12=some E2){c:b7}(h:Q (.bl (v9 c)) g):c5 T (k+4) 12 [c.d] g Q E:=by
 refine call_of tM rfl ?_;dsimp[E2,c7,List.replicate,b7.d];walk_at "w3";refine x8 h1 ?_;have s1:∀b:Bool,b=((decide (1<=c.lo)&&decide (c.lo<=99))&&gm 0 c.lm)->wpS (c5 T (k+3)) (j8 (j8 E2.body)) ⟨λ_ g'=>Q .bN g',Q,λ_ _=>False,λ_ _=>False⟩ [some c.d,some (.int c.lo),some (.tup (c.lm.map .int)),some (.int c.up),some (.tup (c.um.map .int)),some (.int c.yr),some (.bl b),none] g E:=by
  intro b hb;dsimp[E2,j8];walk_at "w3";refine x8 h1 ?_;have s2:∀b':Bool,b'=((decide (1<=c.up)&&decide (c.up<=99))&&gm 0 c.um)->wpS (c5 T (k+3)) (j8 (j8 (j8 E2.body))) ⟨λ_ g'=>Q .bN g',Q,λ_ _=>False,λ_ _=>False⟩ [some c.d,some (.int c.lo),some (.tup (c.lm.map .int)),some (.int c.up),some (.tup (c.um.map .int)),some (.int c.yr),some (.bl b),some (.bl b')] g E:=by
   intro b' jY;dsimp[E2,j8];have e:v9 c=(b&&(b'&&(decide (0<=c.yr)&&decide (c.yr<=9999)))):=by unfold v9;rw[hb,jY]
   rw[e] at h;walk_at "w3";cases b
   ·exact pe h
   ·refine lG ?_;walk_at "w3";cases b'
    ·exact pe h
    ·refine lG ?_;walk_at "w3";exact x8 h1 h
  refine Dj ?_;cases hc:(decide (1<=c.up)&&decide (c.up<=99)) with
  |false=>exact pe (s2 false (by rw[hc];rfl))
  |true =>
   refine lG ?_;walk_at "w1";walk_at "w1";walk_at "w1";walk_at "w1";exact Kn h1 h2 (s2 _ (by rw[hc];rfl))
 refine Dj ?_;cases hc:(decide (1<=c.lo)&&decide (c.lo<=99)) with
 |false=>exact pe (s1 false (by rw[hc];rfl))
 |true =>
  refine lG ?_;walk_at "w1";walk_at "w1";walk_at "w1";walk_at "w1";exact Kn h1 h2 (s1 _ (by rw[hc];rfl))
end
def V8:aX:=⟨2,5,(.seq (.set 2 (cJ .list aT)) (.seq (.set 3 (.prim .lst .nil)) (.seq (.dw (.one 4) (.dW (cJ .len aT)) (.seq (.expr (.dU .append bp (eT (.dU .pop bc (eT (.call 4 (cW aI (cJ .len bc)))))))) .pass)) (.seq (.ret bp) .pass))))⟩
theorem JR{α:Type}:∀{l:List α} {j:Nat} (h:j<l.length),(l[j]::l.eraseIdx j).Perm l
 |a::r,0,_=>by simp
 |a::r,j+1,h=>by
  simp only[List.getElem_cons_succ,List.eraseIdx_cons_succ];exact(List.Perm.swap _ _ _).trans ((JR (l:=r) (j:=j) (by simpa using h)).cons a)
theorem Gr.F2{d x:Nat}{o:O}(h:Gr d g g')(hx:g.length<=x):Gr d g (g'.set x o):=⟨by simp[h.len],λi h1 h2=>by rw[az ()];exact h.old i h1 h2⟩
theorem f9.F2{d x:Nat}{o:O}(h:f9 g d)(hx:d<x):f9 (g.set x o) d:=by
 obtain⟨s,p,b,r,xs,e1,e2,hs,q⟩:=h.ex;exact⟨s,p,b,r,xs,by rw[az ()];exact e1,by rw[az ()];exact e2,hs,q⟩
theorem a9{o:O}:(g++[o])[g.length]?=some o:=by simp
theorem n9{o:O}(h:g[i]?=some o):(g++[o'])[i]?=some o:=by rw[aD (k9 h)];exact h
theorem get_set{o:O}(h:g[i]?=some o):(g.set i o')[i]?=some o':=ba (k9 h)
theorem d5{o:O}(h:g[i]?=some o)(hn:j≠i):(g.set j o')[i]?=some o:=by rw[az hn];exact h
section
variable{T:Nat->Option aX}{d:Nat}
theorem Y3(h4:T 4=some E1)(BZ:T 21=some V8)(ha:g[a]?=some (.lst l))(hl:l.length<=1000)(hd:a≠d)(D0:f9 g d)(h:∀(l':List D) b g',l'.Perm l->g'[b]?=some (.lst l')->g.length<=b->f9 g' d->Gr d g g'->Q (.ref b) g'):c5 T (k+2) 21 [.ref d,.ref a] g Q E:=by
 refine call_of BZ rfl ?_;dsimp[V8,c7,List.replicate];left;refine uh (a7 ha) ?_;left;have dl:=D0.lt;refine p6 (a8 T _) (M1 (a8 T _) ?_);left;have yC:(g++[O.lst l]++[O.lst []])[a]?=some (.lst l):=n9 (n9 ha);refine y9 (a7 yC) ?_;refine ⟨_,rfl,by omega,by omega,i6 0 l.length,λi Z g'=>∃ left found w,Z=[some (.ref d),some (.ref a),some (.ref g.length),some (.ref (g.length + 1)),w]/\(left ++ found).Perm l/\left.length + i=l.length/\g'[g.length]?=some (.lst left)/\g'[g.length + 1]?=some (.lst found)/\f9 g' d/\Gr d g g',
  λi Z g p=>n5,?_,λi x Z g' hx p=>?_,λZ g' p=>?_⟩
 ·refine⟨l,[],none,?_,by simp,by simp,?_,?_,(D0.snoc _).snoc _,(Gr.snoc _ _ _).trans (Gr.snoc _ _ _)⟩
  ·simp
  ·exact n9 a9
  ·have:=a9 (g:=g++[O.lst l]) (o:=O.lst []);simpa using this
 ·obtain⟨left,found,w,rfl,hp,hn,e1,e2,D1,G1⟩:=p;obtain⟨hi,rfl⟩:=t8 hx;show wpS _ _ _ _ _ _;left;refine d6 (n:=(left.length:Int)) h4 D1 () () λr g2 r0 r1 D2 G2=>?_;have f1:=G2.at () e1;have f2:=G2.at () e2;have hr:r.toNat<left.length:=by omega
  left;refine XX (j:=r.toNat) f1 () (ai hr) () ?_;left;refine O0 (d5 f2 ()) ?_ ?_
  ·have:=hp.length_eq;simp at this;omega
  left;refine⟨_,_,_,rfl,?_,?_,d5 (get_set f1) (),get_set (d5 f2 ()),(D2.F2 ()).F2 (),((G1.trans G2).F2 ()).F2 ()⟩
  ·refine List.Perm.trans ?_ hp;have:=JR hr;refine List.Perm.trans ?_ (List.Perm.append_right found this);simp only[List.cons_append];rw[<- fC];exact(List.perm_append_singleton _ _)
  ·rw[gM hr];omega
 ·obtain⟨left,found,w,rfl,hp,hn,e1,e2,D1,G1⟩:=p;show wpS _ _ _ _ _ _;left;rw[j6] at hn;have:left=[]:=dF ();subst this;exact h _ _ _ (by simpa using hp) e2 () D1 G1
end
def zt:aX:=⟨1,5,(.seq (.set 1 (.prim .lst (P' (.prim .tup .nil) (cJ .tup (aY 0)) (br .tup (aY 0) (aY 1)) (cJ .tup (aY 1)) (.prim .tup (gO (aY 0) (aY 1) (aY 2))) (.prim .tup (jR (aY 0) (aY 1) (aY 2) (aY 7))) (cJ .tup (aY 2))))) (.seq (.set 2 (cB aT (.call 4 (cW aI (cB (br .tup (aY 4) (aY 7)) (cJ .int (br (.cmp .Eq) (.call 4 (cW aI (aY 4))) (aY 0)))))))) (.seq (.set 3 (cB aT (.call 4 (cW aI (aY 5))))) (.seq (.set 4 (cB (.prim .lst (HJ (aY 0) (aY 0) (aY 1400) (aY 1400) (aY 1401) (aY 1))) (.call 4 (cW aI (aY 6))))) (.seq (.ret (.prim .tup (qt (br (.bin .Add) (aY 1) (.call 4 (cW aI (aY 3)))) bc (br (.bin .Add) (aY 1) (.call 4 (cW aI (aY 4)))) bp bE))) .pass)))))⟩
def K5:aX:=⟨4,4,(.seq (.ifs (.jH (cY .Eq (cJ .len aT) (aY 0)) (.cQ (cY .Lt (cJ .len aT) bp) (cY .Eq (.call 4 (cW aI (aY 3))) (aY 0)))) (.seq (.expr (.dU .append aT (eT bc))) (.seq (.ret (br (.bin .Add) bc (aY 1))) .pass)) .pass) (.seq (.ifs (cY .Eq (.call 4 (cW aI (aY 5))) (aY 0)) (.seq (.eP aT (.call 4 (cW aI (cJ .len aT))) bc) (.seq (.ret (br (.bin .Add) bc (aY 1))) .pass)) .pass) (.seq (.ret bc) .pass)))⟩
structure jD(c:b7):Prop where
 good:v9 c=true
 l8:c.lm.length<=8
 u8:c.um.length<=8
theorem jD.mk'{lo up yr:Int}{lm um:List Int}(h1:1<=lo)(h2:lo<=99)(h3:1<=up)(h4:up<=99)(h5:0<=yr)(h6:yr<=9999)(h7:gm 0 lm=true)(h8:gm 0 um=true)(h9:lm.length<=8)(HI:um.length<=8):jD ⟨lo,lm,up,um,yr⟩:=by
 refine⟨?_,h9,HI⟩;simp only[v9,h7,h8,decide_eq_true h1,decide_eq_true h2,decide_eq_true h3,decide_eq_true h4,decide_eq_true h5,decide_eq_true h6]
 rfl
theorem jD.inv{c:b7}(h:jD c):(1<=c.lo/\c.lo<=99)/\gm 0 c.lm=true/\(1<=c.up/\c.up<=99)/\gm 0 c.um=true/\0<=c.yr/\c.yr<=9999:=by
 have:=h.good;unfold v9 at this;simp only[Bool.and_eq_true,decide_eq_true_eq] at this;obtain⟨⟨⟨a,b⟩,e⟩,⟨⟨c',d⟩,f⟩,p,q⟩:=this;exact⟨⟨a,b⟩,e,⟨c',d⟩,f,p,q⟩
def Q2:List (List Int):=[[],[0],[0,1],[1],[0,1,2],[0,1,2,7],[2]]
theorem Tg:∀ms∈Q2,gm 0 ms=true/\ms.length<=8:=by decide
theorem Lc{r:Int}(h0:0<=r)(h7:r<7):∃ms,fL (Q2.map λms=>D.tup (ms.map .int)) r=some (.tup (ms.map .int))/\gm 0 ms=true/\ms.length<=8:=by
 obtain⟨v,hv,hm⟩:=M5 (l:=Q2.map λms=>D.tup (ms.map .int)) h0 (by simpa[Q2] using h7);obtain⟨ms,h1,rfl⟩:=aL.mp hm;exact⟨ms,hv,Tg ms h1⟩
section
variable{T:Nat->Option aX}{d:Nat}
theorem aM3(h4:T 4=some E1)(PN:T 22=some zt)(D0:f9 g d)(h:∀c g',jD c->f9 g' d->Gr d g g'->Q c.d g'):c5 T (k+2) 22 [.ref d] g Q E:=by
 refine call_of PN rfl ?_;dsimp[zt,c7,List.replicate];have dl:=D0.lt;left;have D1:=D0.snoc (.lst (Q2.map λms=>D.tup (ms.map .int)));have G1:=Gr.snoc d g (.lst (Q2.map λms=>D.tup (ms.map .int)));have e1:(g++[O.lst (Q2.map λms=>D.tup (ms.map .int))])[g.length]?=some (.lst (Q2.map λms=>D.tup (ms.map .int))):=a9;show c5 _ _ _ _ (g++[O.lst (Q2.map λms=>D.tup (ms.map .int))]) _ _;generalize g++[O.lst (Q2.map λms=>D.tup (ms.map .int))]=g1 at *;refine d6 h4 D1 ∅ ∅ λr g2 r0 r1 D2 G2=>?_;left;have e2:=G2.at () e1;have hn:∃n:Int,fL [D.int 4,D.int 7] (if decide (r=0)=true then 1 else 0)=some (.int n)/\0<n/\n<=7:=by
  by_cases hr:r=0
  ·exact⟨7,by rw[au hr];rfl,by decide,by decide⟩
  ·exact⟨4,by rw[av hr];rfl,by decide,by decide⟩
 obtain⟨n,en,n0,n7⟩:=hn;refine x3 en ?_;left;refine d6 h4 D2 n0 () λr3 g3 iQ iV D3 G3=>?_;have e3:=G3.at () e2;obtain⟨lm,el,gl,ll⟩:=Lc iQ ();refine k8 (a7 e3) el ?_;left;refine d6 h4 D3 ∅ ∅ λr4 g4 qE sZ D4 G4=>?_;have e4:=G4.at () e3;obtain⟨um,eu,gu,lu⟩:=Lc qE ();refine k8 (a7 e4) eu ?_;left;have e5:(g4++[O.lst [.int 0,.int 0,.int 1400,.int 1400,.int 1401,.int 1]])[g4.length]?=some (.lst [.int 0,.int 0,.int 1400,.int 1400,.int 1401,.int 1]):=a9;refine d6 h4 (D4.snoc _) ∅ ∅ λr5 g5 lr lq D5 G5=>?_;have e6:=G5.at (by have:=D4.lt;omega) e5;obtain⟨v,hv,hm⟩:=M5 (l:=[D.int 0,.int 0,.int 1400,.int 1400,.int 1401,.int 1]) lr (by simpa using lq);have hy:∃y:Int,v=.int y/\0<=y/\y<=9999:=by
  simp only[List.mem_cons,List.mem_nil_iff,or_false] at hm;rcases hm with rfl|rfl|rfl|rfl|rfl|rfl<;>exact⟨_,rfl,by decide,by decide⟩
 obtain⟨y,rfl,y0,y1⟩:=hy;refine k8 (a7 e6) hv ?_;left;refine d6 h4 D5 ∅ ∅ λr6 g6 Gs Gq D6 G6=>?_;left;refine d6 h4 D6 ∅ ∅ λr7 g7 r70 r71 D7 G7=>?_;left;exact h ⟨1+r6,lm,1+r7,um,y⟩ _ (jD.mk' () () () () y0 y1 gl gu ll lu) D7 (G1.trans (G2.trans (G3.trans (G4.trans ((Gr.snoc _ _ _).trans (G5.trans (G6.trans G7)))))))
def Ey(l:List D)(f:Int):Prop:=∃ns:List Int,l=ns.map .int/\∀n∈ns,1<=n/\n<f
theorem aY8(h4:T 4=some E1)(wt:T 23=some K5)(ha:g[a]?=some (.lst l))(hl:l.length<1000)(hs:Ey l f)(f1:1<=f)(hd:d<a)(D0:f9 g d)(h:∀(l':List D) (f':Int) g',l'≠[]->l'.length<=l.length+1->Ey l' f'->f<=f'->f'<=f+1->g'[a]?=some (.lst l')->f9 g' d->(∀i,i≠d->i≠a->i<g.length->g'[i]?=g[i]?)->g.length<=g'.length->Q (.int f') g'):c5 T (k+2) 23 [.ref d,.ref a,.int f,.int v] g Q E:=by
 refine call_of wt rfl ?_;have dl:=D0.lt;obtain⟨ns,rfl,qW⟩:=id hs;have app:∀g':G,g'[a]?=some (.lst (ns.map D.int))->f9 g' d->Gr d g g'->wpS (c5 T (k+1)) (.seq (.expr (.dU .append (.var 1) (.cons (.var 2) .nil))) (.seq (.ret (.prim (.bin .Add) (.cons (.var 2) (.cons (.lit (.int 1)) .nil)))) .pass)) ⟨λiU g1=>wpS (c5 T (k+1)) (j8 K5.body) ⟨λ_ g'=>Q .bN g',Q,λ_ _=>False,λ_ _=>False⟩ iU g1 E,Q,λ_ _=>False,λ_ _=>False⟩ [some (.ref d),some (.ref a),some (.int f),some (.int v)] g' E:=by
  intro g' e D1 G1;left;refine O0 e (by simp at hl ⊢;omega) ?_;left;refine h _ _ _ (by simp) (by simp) ⟨ns++[f],by simp,λn hn=>?_⟩ () () (get_set e) (D1.F2 hd) (λi h1 h2 h3=>?_) (by simp[G1.len])
  ·rcases aZ.mp hn with z|z
   ·have:=qW n z;omega
   ·simp at z;omega
  ·rw[az (cb h2)];exact G1.old i h1 h3
 have rest:∀g':G,g'[a]?=some (.lst (ns.map D.int))->ns≠[]->f9 g' d->Gr d g g'->wpS (c5 T (k+1)) (j8 K5.body) ⟨λ_ g'=>Q .bN g',Q,λ_ _=>False,λ_ _=>False⟩ [some (.ref d),some (.ref a),some (.int f),some (.int v)] g' E:=by
  intro g' e ft D1 G1;dsimp[K5,j8];left;refine d6 h4 D1 ∅ ∅ λr g2 r0 r1 D2 G2=>?_;have e2:=G2.at () e;have hlen:0<ns.length:=FT.mpr ft;left;refine if2 (λc=>?_) (λc=>?_)
  ·left;rw[ae];refine d6 h4 D2 () (by simp at hl;omega) λr3 g3 iQ iV D3 G3=>?_;have e3:=G3.at () e2;have hj:kM (ns.map D.int).length r3=some r3.toNat:=by
    unfold kM;rw[aJ iQ,aJ (by rw[ae];exact iV)]
   refine Q1 e3 hj ?_;left;refine h _ _ _ (by simp[ft]) (by simp) ⟨ns.set r3.toNat f,by simp,λn hn=>?_⟩ () () (get_set e3) (D3.F2 hd) (λi h1 h2 h3=>?_) (by simp[((G1.trans G2).trans G3).len])
   ·rcases pD hn with z|z
    ·have:=qW n z;omega
    ·omega
   ·rw[az (cb h2)];exact((G1.trans G2).trans G3).old i h1 h3
  ·left;exact h _ _ _ (by simp[ft]) (by simp) hs () () e2 D2 (λi h1 h2 h3=>(G1.trans G2).old i h1 h3) (G1.trans G2).len
 dsimp[K5,c7,List.replicate];left;refine if2 (λc=>?_) (λc=>?_)
 ·refine lG ?_;exact app g ha D0 (Gr.refl _ _)
 ·have ft:ns≠[]:=λz=>c (by rw[z];rfl);left;refine if2 (λc2=>?_) (λc2=>?_)
  ·left;refine d6 h4 D0 ∅ ∅ λr g2 r0 r1 D2 G2=>?_;left;refine if2 (λc3=>?_) (λc3=>?_)
   ·exact app g2 (G2.at () ha) D2 G2
   ·walk_at "w1";exact rest g2 (G2.at () ha) ft D2 G2
  ·walk_at "w1";walk_at "w1";exact rest g ha ft D0 (Gr.refl _ _)
end
def K4:aX:=⟨3,17,(.seq (.set 3 (.prim .lst .nil)) (.seq (.set 4 (aY 1)) (.seq (.set 5 (.prim .oZ .nil)) (.seq (.set 6 (cB (.prim .lst (gO (aY 0) (aY 1) (aY 1350))) (.call 4 (cW aI (aY 3))))) (.seq (.set 7 (br (.bin .Add) (aY 1) (.call 4 (cW aI (aY 96))))) (.seq (.set 8 (br (.bin .Add) (aY 2) (.call 4 (cW aI (aY 4))))) (.seq (.set 9 (br .max (aY 0) (br (.bin .Sub) (.call 4 (cW aI (aY 9))) (aY 6)))) (.seq (.set 10 (.prim .lst .nil)) (.seq (.dw (.one 11) (.dW aT) (.seq (.set 4 (.call 23 (jR aI bp bE bc))) (.seq (.set 12 (br .tup (cB bp (.call 4 (cW aI (cJ .len bp)))) (br (.bin .Add) (aY 50) (.call 4 (cW aI (br (.bin .Add) (aY 2) bc)))))) (.seq (.dw (.one 13) (.fe iG) (.seq (.ifs (cY .Eq (.call 4 (cW aI gU)) (aY 0)) (.seq (.set 14 (.call 4 (cW aI (aY 8)))) (.seq (.eP cN lF (cJ .tuple (.comp [13,14,5] 5 (.one 4) (.dW (aY 8)) (.jH (cY .Eq bE aT) (cY .In bE (.dU .get bc (cW aI (.prim .tup .nil))))) bE))) .pass)) .pass) .pass)) (.seq (.ifs (cY .Eq (.call 4 (cW aI (aY 5))) (aY 0)) (.seq (.set 6 (br .min (aY 9999) (br (.bin .Add) (br (.bin .Add) dZ (aY 1)) (.call 4 (cW aI (aY 9)))))) .pass) .pass) (.seq (.set 15 (.comp [9,7] 4 (.one 3) (.fe iG) .no (br (.bin .Add) (br (.bin .Add) (aY 1) aI) (br (.bin .Mod) (br (.bin .Mult) bp aT) (aY 97))))) (.seq (.set 16 (br (.bin .Mult) dZ (cJ .int (br (.cmp .Gt) (.call 4 (cW aI (aY 4))) (aY 0))))) (.seq (.expr (.dU .append fQ (eT (.prim .tup (qt (cB pO (aY 0)) (.dU .get cN (cW (cB iG (aY 0)) (.prim .tup .nil))) (cB pO (aY 1)) (.dU .get cN (cW (cB iG (aY 1)) (.prim .tup .nil))) vm))))) .pass)))))))) (.seq (.ret fQ) .pass))))))))))⟩
def oX(kvs:List (Key×D)):Prop:=∀k v,u7 kvs k=some v->∃ms:List Int,v=.tup (ms.map .int)/\gm 0 ms=true/\ms.length<=8
theorem a67(kvs:List (Key×D))(k k':Key)(v:D):u7 (putD kvs k v) k'=if k'=k then some v else u7 kvs k':=by
 unfold putD;split
 ·rename_i rn;have go:∀l:List (Key×D),u7 (l.map λkv=>if kv.1=k then(kv.1,v) else kv) k'=if k'=k then(if(l.any λkv=>decide (kv.1=k))=true then some v else none) else u7 l k':=by
   intro l
   induction l with
   |nil=>simp[u7]
   |cons p r ih =>
    obtain⟨pk,pv⟩:=p;by_cases e:pk=k
    ·subst e;by_cases e2:k'=pk
     ·subst e2;simp[u7]
     ·have:¬pk=k':=λz=>e2 z.symm;unfold u7 at ih ⊢;simp[this,e2] at ih ⊢;exact ih
    ·by_cases e2:k'=k
     ·subst e2;unfold u7 at ih ⊢;rw[fS,show decide (pk=k')=false from av e,qr];simp[e] at ih ⊢;exact ih
     ·unfold u7 at ih ⊢;simp only[List.map_cons,e,if_false,List.find?_cons];by_cases e3:pk=k'
      ·simp[e3,e2]
      ·simp[e3];simp[e2] at ih;simp[e2];exact ih
  rw[go,rn]
  rfl
 ·rename_i rn;unfold u7;rw[kX];by_cases e:k'=k
  ·subst e;have:kvs.find? (λkv=>decide (kv.1=k'))=none:=by
    rw[kn];intro x hx hd;exact rn (aV.mpr ⟨x,hx,hd⟩)
   rw[this];simp
  ·have:¬k=k':=λz=>e z.symm;simp[this,e]
theorem a99(kvs:List (Key×D))(k:Key)(v:D):(putD kvs k v).length<=kvs.length+1:=by
 unfold putD;split<;>simp
theorem oX.put{k:Key}(h:oX kvs)(h1:gm 0 ms=true)(h2:ms.length<=8):oX (putD kvs k (.tup (ms.map .int))):=λk' v hv=>by
 rw[a67] at hv;split at hv
 ·cases hv;exact⟨ms,rfl,h1,h2⟩
 ·exact h k' v hv
theorem oX.get(h:oX kvs)(k:Key):∃ms:List Int,(u7 kvs k).getD (.tup [])=.tup (ms.map .int)/\gm 0 ms=true/\ms.length<=8:=by
 cases e:u7 kvs k with
 |none=>exact⟨[],rfl,rfl,by simp⟩
 |some v=>obtain⟨ms,rfl,h1,h2⟩:=h k v e;exact⟨ms,rfl,h1,h2⟩
theorem a40(p:Int->Bool):gm 0 (((List.range 8).map λ(n:Nat)=>(n:Int)).filter p)=true/\(((List.range 8).map λ(n:Nat)=>(n:Int)).filter p).length<=8:=by
 refine⟨IH (List.Pairwise.filter _ ∅) λm hm=>?_,aB (bP _ _) ∅⟩;have:=(bo.mp hm).1;revert this;revert m;intro m _ hm;simp at hm;obtain⟨a,ha,rfl⟩:=hm;omega
theorem List.ZW{l:List α}{x:α}(h:l[i]?=some x):l.set i x=l:=by
 apply cR;intro j;by_cases e:i=j
 ·subst e;rw[ba (aj.mp h).1];exact h.symm
 ·rw[az e]
section
variable{T:Nat->Option aX}{d:Nat}
def Mj:MS:=match K4.body with
 |.seq _ (.seq _ (.seq _ (.seq _ (.seq _ (.seq _ (.seq _ (.seq _ (.seq (.dw _ _ (.seq _ (.seq _ (.seq (.dw _ _ b) _)))) _))))))))=>b
 |x=>x
theorem UK(h4:T 4=some E1){w0:Nat}{key wr:Int}{Z:S}(hw:g[w0]?=some (.dX kvs))(W:oX kvs)(hk:kvs.length<1000)(hr:0<wr)(oa:wr<1000)(hd:d<w0)(D0:f9 g d)(s0:Z[0]?=some (some (.ref d)))(s5:Z[5]?=some (some (.ref w0)))(s8:Z[8]?=some (some (.int wr)))(ND:Z[13]?=some (some (.int key)))(sl:Z.length=17)(h:∀z jm g',g'[w0]?=some (.dX jm)->oX jm->jm.length<=kvs.length+1->f9 g' d->(∀i,i≠d->i≠w0->i<g.length->g'[i]?=g[i]?)->g.length<=g'.length->N.nx (Z.set 14 z) g'):wpS (c5 T (k+1)) Mj N Z g E:=by
 obtain⟨mG,qb⟩:∃z,Z[14]?=some z:=⟨_,ai ()⟩
 dsimp[Mj,K4];refine Q6 (ER (ET (sv (yV (U9 (w_var s0 (U9 (w_var s8 (zW ?_)))))))));refine d6 h4 D0 hr () λr g2 r0 r1 D2 G2=>?_;have dl:=D0.lt;left;refine if2 (λc=>?_) (λc=>?_)
 ·refine xj (xk (yV (U9 (w_var s0 (U9 (w_lit (zW ?_)))))));refine d6 h4 D2 ∅ ∅ λr3 g3 iQ iV D3 G3=>?_;have e3:=(G2.trans G3).at () hw;have t0:(Z.set 14 (some (.int r3)))[0]?=some (some (.ref d)):=by rw[az ∅];exact s0
  have t5:(Z.set 14 (some (.int r3)))[5]?=some (some (.ref w0)):=by rw[az ∅];exact s5
  have Gd:(Z.set 14 (some (.int r3)))[13]?=some (some (.int key)):=by rw[az ∅];exact ND
  have Nx:(Z.set 14 (some (.int r3)))[14]?=some (some (.int r3)):=ba ();obtain⟨ms,em,_,_⟩:=W.get (.inl key);refine Q6 (Lx (xH ?_));refine aQ6 (a8 T _) (w_lit ⟨8,rfl,by decide,λi ys bY g'=>g'=g3/\ys.length<=i/\(∃z w,bY=[some (.int key),some (.int r3),some (.ref w0),z,w])/\ys=((((List.range i).map λ(n:Nat)=>(n:Int)).filter λs=>decide (s=r3)||ms.any λm=>m==s).map D.int),⟨rfl,by simp,⟨none,none,?_⟩,rfl⟩,λi ys Z g' p=>p.2.1,λi ys bY g' hi p=>?_,λys bY g' p=>?_⟩)
  ·simp[F6,Gd,Nx,t5,List.replicate]
  ·obtain⟨rfl,hl,⟨z,w,rfl⟩,e⟩:=p;have er:(List.range (i+1)).map (λ(n:Nat)=>(n:Int))=(List.range i).map (λ(n:Nat)=>(n:Int))++[(i:Int)]:=by rw[dR];simp
   have yes:(decide ((i:Int)=r3)||ms.any λm=>m==(i:Int))=true->aW (c5 T (k+1)) (.var 4) [some (.int key),some (.int r3),some (.ref w0),z,some (.int i)] g' (λy g4=>g4=g'/\(ys++[y]).length<=i+1/\(∃z' w',[some (.int key),some (.int r3),some (.ref w0),z,some (D.int i)]=[some (.int key),some (.int r3),some (.ref w0),z',w'])/\(ys++[y])=((((List.range (i+1)).map λ(n:Nat)=>(n:Int)).filter λs=>decide (s=r3)||ms.any λm=>m==s).map D.int)) iX:=λhc=>by
    left;refine⟨rfl,by simp;omega,⟨_,_,rfl⟩,?_⟩;rw[er,dN,cC,<- e];simp[hc]
   show dg _ _ _ _ _ _;left;refine if2 (λc1=>?_) (λc1=>?_)
   ·refine lG ?_;exact yes (by rw[au c1];rfl)
   ·left;refine EE e3 (k:=.inl key) rfl ?_;rw[em];left;refine sf (DY ?_);left;cases hc:(ms.any λm=>m==(i:Int)) with
    |true =>
     refine lG ?_;exact yes (by rw[hc];simp)
    |false =>
     refine pe ?_;refine⟨rfl,by omega,⟨_,_,rfl⟩,?_⟩;rw[er,dN,cC,<- e];simp[hc,c1]
  ·obtain⟨rfl,hl,_,e⟩:=p;subst e;refine YQ (a7 a9) ?_;obtain⟨f1,f2⟩:=a40 λs=>decide (s=r3)||ms.any λm=>m==s
   refine w_var t5 (w_var Gd ?_);refine IU (n9 e3) (k:=.inl key) rfl () ?_;refine h _ _ _ (get_set (n9 e3)) (W.put f1 f2) (a99 _ _ _) ((D3.snoc _).F2 hd) (λi h1 h2 h3=>?_) ?_
   ·rw[az (cb h2),aD (aA h3 (G2.trans G3).len)];exact(G2.trans G3).old i h1 h3
   ·have:=(G2.trans G3).len;simp;omega
 ·refine q9 ?_;have e2:=G2.at () hw;have:=h mG kvs g2 e2 W () D2 (λi h1 h2 h3=>G2.old i h1 h3) G2.len
  rwa [List.ZW qb] at this
end
section
variable{T:Nat->Option aX}{d:Nat}
def N4:MS:=match K4.body with
 |.seq _ (.seq _ (.seq _ (.seq _ (.seq _ (.seq _ (.seq _ (.seq _ (.seq (.dw _ _ b) _))))))))=>b
 |x=>x
structure jr(d s0 w0 f0 i:Nat)(g:G)(f y:Int):Prop where
 Gh:∃l,g[s0]?=some (.lst l)/\Ey l f/\l.length<=i
 fr:1<=f/\f<=1+i
 Nk:∃kvs,g[w0]?=some (.dX kvs)/\oX kvs/\kvs.length<=2*i
 found:∃cs:List b7,g[f0]?=some (.lst (cs.map b7.d))/\cs.length=i/\∀c∈cs,jD c
 year:0<=y/\y<=9999
 dr:f9 g d
theorem aK6{s0 w0 f0 n0:Nat}{n y st wr sh:Int}{ya Nj Ni Nh An Am:Option D}(h4:T 4=some E1)(wt:T 23=some K5)(S:jr d s0 w0 f0 i g f y)(hi:i<=100)(hv:1<=v/\v<=100)(ei:1<=st/\st<=96)(jJ:0<wr/\wr<1000)(jV:0<=sh/\sh<=2)(o1:d<n0)(o2:n0<=s0)(o3:s0<w0)(o4:w0<f0)(h:∀f' y' uL nT mG uK uJ g',jr d s0 w0 f0 (i+1) g' f' y'->(∀j,j≠d->j<n0->g'[j]?=g[j]?)->g.length<=g'.length->N.nx [some (.ref d),some (.int n),some (.int v),some (.ref s0),some (.int f'),some (.ref w0),some (.int y'),some (.int st),some (.int wr),some (.int sh),some (.ref f0),ya,uL,nT,mG,uK,uJ] g') :
  wpS (c5 T (k+2)) N4 N [some (.ref d),some (.int n),some (.int v),some (.ref s0),some (.int f),some (.ref w0),some (.int y),some (.int st),some (.int wr),some (.int sh),some (.ref f0),ya,Nj,Ni,Nh,An,Am] g E:=by
 obtain⟨⟨l,es,hs,hl⟩,⟨f1,f2⟩,⟨kvs,ew,W,hk⟩,⟨cs,ef,hc,hg⟩,⟨y0,y1⟩,D0⟩:=S;have lf:=k9 ef;dsimp[N4,K4];left;refine aY8 h4 wt es () hs f1 () D0 λl1 f' g1 ft jq GQ f3 f5 gY D1 oE gQ=>?_;have HU:g1[w0]?=some (.dX kvs):=(oE w0 () () (k9 ew)).trans ew;have HZ:g1[f0]?=some (.lst (cs.map b7.d)):=(oE f0 () () lf).trans ef;left;have gf:0<l1.length:=FT.mpr ft;refine d6 (n:=(l1.length:Int)) h4 D1 () () λr2 g2 iy iw D2 G2=>?_;have nN:=G2.at () gY;have HS:=G2.at () HU;have HY:=G2.at () HZ;obtain⟨x,hx,hm⟩:=M5 (l:=l1) iy iw;obtain⟨ns,rfl,qW⟩:=id GQ;obtain⟨k1,OK,rfl⟩:=aL.mp hm;refine k8 (a7 nN) hx ?_;left;refine d6 (n:=2+v) h4 D2 () () λr3 g3 iQ iV D3 G3=>?_;have Cw:=G3.at () nN;have HR:=G3.at () HS;have CA:=G3.at () HY;left;have kb1:=qW k1 OK;have uY:∀j,j≠d->j<n0->g3[j]?=g[j]?:=λj a b=>by
  have lj:j<g.length:=by omega
  rw[G3.old j a (by have:=G2.len;(clear hi hv ei jJ jV o1 hl f1 f2 hk hc y0 y1 f3 f5 iy jq gf iw iQ iV kb1 a lj;omega)),G2.old j a (),oE j a () lj]
 have iA:g.length<=g3.length:=by have:=G2.len;have:=G3.len;(clear hi hv ei jJ jV o1 o2 o3 o4 hl f1 f2 hk hc y0 y1 lf f3 f5 iy jq gf iw iQ iV kb1;omega)
 refine p6 (a8 T _) (vw (a8 T _) ?_);left;refine ⟨_,rfl,_,λj Z g'=>∃ jm nT mG,Z=[some (.ref d),some (.int n),some (.int v),some (.ref s0),some (.int f'),some (.ref w0),some (.int y),some (.int st),some (.int wr),some (.int sh),some (.ref f0),ya,some (.tup [.int k1,.int (50 + r3)]),nT,mG,An,Am]/\g'[w0]?=some (.dX jm)/\oX jm/\jm.length <= 2 * i + j/\f9 g' d/\(∀ j,j ≠ d->j ≠ w0->j < g3.length->g'[j]?=g3[j]?)/\g3.length <= g'.length,
  λ_ _ _ _=>n5,⟨kvs,_,_,rfl,HR,W,by omega,D3,λ_ _ _ _=>rfl,ay _⟩,λj x Z g' hx p=>?_,λZ g' p=>?_⟩
 ·obtain⟨jm,nT,mG,rfl,Qn,W',lz,D',AI,vj⟩:=p;have kI:∃key:Int,x=.int key/\j<2:=by
   match j,hx with
   |0,hx=>cases hx;exact⟨_,rfl,by decide⟩
   |1,hx=>cases hx;exact⟨_,rfl,by decide⟩
   |j+2,hx=>simp at hx
  obtain⟨key,rfl,hj⟩:=kI;show wpS _ _ _ _ _ _;refine UK (k:=k+1) h4 Qn W' (by(clear hv ei jJ jV o1 o2 o3 o4 hl f1 f2 hk y0 y1 lf f3 f5 gQ iy jq gf iw iQ iV kb1 iA vj;omega)) jJ.1 jJ.2 () D' rfl rfl rfl rfl rfl λz AR Qi e2 W2 OJ D2' qL vi=>?_;exact⟨AR,_,_,rfl,e2,W2,by(clear hi hv ei jJ jV o1 o2 o3 o4 hl f1 f2 hk y0 y1 lf f3 f5 gQ iy jq gf iw iQ iV kb1 iA vj hj vi;omega),D2',λj a b c=>(qL j a b ()).trans (AI j a b c),by(clear hi hv ei jJ jV o1 o2 o3 o4 hl f1 f2 hk hc y0 y1 lf f3 f5 gQ iy jq gf iw iQ iV kb1 iA lz hj OJ;omega)⟩
 obtain⟨vo,nT,mG,rfl,Qm,W4,ly,D4,oC,gE⟩:=p;have Qq:g'[s0]?=some (.lst (ns.map D.int)):=(oC s0 () () (k9 Cw)).trans Cw;have Qt:g'[f0]?=some (.lst (cs.map b7.d)):=(oC f0 () () (k9 CA)).trans CA;have uX:∀j,j≠d->j<n0->g'[j]?=g[j]?:=λj a b=>(oC j a () (by(clear hi hv ei jJ jV o1 hl f1 f2 hk hc y0 y1 f3 f5 gQ iy jq gf iw iQ iV kb1 ly gE a;omega))).trans (uY j a b);clear oC uY G2 G3 gY HU HZ nN HS HY Cw HR CA oE;have ly:vo.length<=2*(i+1):=by simp at ly;(clear hi hv ei jJ jV o1 o2 o3 o4 hl f1 f2 hk y0 y1 lf f3 f5 gQ iy jq gf iw iQ iV kb1 iA gE;omega)
 show wpS _ _ _ _ _ _;left;refine d6 h4 D4 ∅ ∅ λr5 g5 lr lq D5 G5=>?_;left;have tail:∀(y':Int) (g6:G),0<=y'->y'<=9999->f9 g6 d->Gr d g' g6->wpS (c5 T (k+2)) (j8 (j8 (j8 (j8 N4)))) N [some (.ref d),some (.int n),some (.int v),some (.ref s0),some (.int f'),some (.ref w0),some (.int y'),some (.int st),some (.int wr),some (.int sh),some (.ref f0),ya,some (.tup [.int k1,.int (50+r3)]),nT,mG,An,Am] g6 E:=by
  intro y' g6 mI mH D6 G6;have Qp:=G6.at () Qq;have Ql:=G6.at () Qm;have yG:=G6.at () Qt;dsimp[N4,K4,j8];left;refine aQ5 (a8 T _) ?_;left;refine⟨_,rfl,by simp,λj ys Z g7=>g7=g6/\(∃z w,Z=[some (.int sh),some (.int st),z,w])/\ys=([k1,50+r3].take j).map (λkey=>D.int (1+sh+key*st % 97)),⟨rfl,⟨none,none,rfl⟩,rfl⟩,λj ys Z g7 p=>?_,λj x ys Z g7 hx p=>?_,λys Z g7 p=>?_⟩
  ·obtain⟨rfl,_,rfl⟩:=p;simp;omega
  ·obtain⟨rfl,⟨z,w,rfl⟩,rfl⟩:=p;have kI:∃key:Int,x=.int key/\([k1,50+r3].take j).map (λkey=>D.int (1+sh+key*st % 97))++[D.int (1+sh+key*st % 97)]=([k1,50+r3].take (j+1)).map (λkey=>D.int (1+sh+key*st % 97)):=by
    match j,hx with
    |0,hx=>cases hx;exact⟨_,rfl,rfl⟩
    |1,hx=>cases hx;exact⟨_,rfl,rfl⟩
    |j+2,hx=>simp at hx
   obtain⟨key,rfl,he⟩:=kI;show dg _ _ _ _ _ _;left;refine U2 (uu () ()) ?_;left;exact⟨rfl,⟨_,_,rfl⟩,he⟩
  obtain⟨rfl,_,rfl⟩:=p;have eN:(g7++[O.lst [D.int (1+sh+k1*st % 97),D.int (1+sh+(50+r3)*st % 97)]])[g7.length]?=some (.lst [D.int (1+sh+k1*st % 97),D.int (1+sh+(50+r3)*st % 97)]):=a9;show wpS _ _ _ _ (g7++[O.lst [D.int (1+sh+k1*st % 97),D.int (1+sh+(50+r3)*st % 97)]]) _;left;refine d6 h4 (D6.snoc _) ∅ ∅ λr8 g8 nj ni D8 G8=>?_;have l7:=D6.lt;have eN8:=G8.at () eN;have Qo:=G8.at () (n9 Qp);have Cv:=G8.at () (n9 Ql);have HX:=G8.at () (n9 yG);left;refine U2 (Fc () ()) ?_;left;obtain⟨lm,el,gl,ll⟩:=W4.get (.inl k1);obtain⟨um,eu,gu,lu⟩:=W4.get (.inl (50+r3));refine EE Cv (k:=.inl k1) rfl ?_;rw[el];left;refine EE Cv (k:=.inl (50+r3)) rfl ?_;rw[eu];left;refine O0 HX (by simp;omega) ?_;generalize jK:y'*(if decide (0<r8)=true then 1 else 0)=ty;have lZ:0<=ty/\ty<=9999:=by
   rw[<- jK];split<;>simp<;>omega
  left;refine h f' y' _ _ _ _ _ _ ⟨⟨_,d5 Qo (),GQ,by(clear hi hv ei jJ jV o1 o2 o3 o4 f1 f2 hk y0 y1 lf f3 f5 gQ iy gf iw iQ iV kb1 iA gE ly lr lq mI mH nj ni l7 ll lu jK lZ;omega)⟩,⟨by omega,by(clear hi hv ei jJ jV o1 o2 o3 o4 hl f1 hk y0 y1 lf gQ iy jq gf iw iQ iV kb1 iA gE ly lr lq mI mH nj ni l7 ll lu jK lZ;omega)⟩,⟨vo,d5 Cv (),W4,ly⟩,⟨cs++[⟨1+sh+k1*st % 97,lm,1+sh+(50+r3)*st % 97,um,ty⟩],?_,by simp[hc],?_⟩,⟨mI,mH⟩,D8.F2 ()⟩ (λj a b=>?_) ?_
  ·rw[get_set HX];simp[b7.d]
  ·intro c hV;rcases aZ.mp hV with z|z
   ·exact hg c z
   ·simp at z;subst z;have m1:=dS (k1*st) (show(97:Int)≠0 by decide);have m2:=df (k1*st) (show(0:Int)<97 by decide);have m3:=dS ((50+r3)*st) (show(97:Int)≠0 by decide);have m4:=df ((50+r3)*st) (show(0:Int)<97 by decide);exact jD.mk' (by(clear hi hv ei jJ o1 o2 o3 o4 hl f1 f2 hk hc y0 y1 lf f3 f5 gQ iy jq gf iw iQ iV kb1 iA gE ly lr lq mI mH nj ni l7 ll lu jK lZ m2 m3 m4;omega)) (by(clear hi hv ei jJ o1 o2 o3 o4 hl f1 f2 hk hc y0 y1 lf f3 f5 gQ iy jq gf iw iQ iV kb1 iA gE ly lr lq mI mH nj ni l7 ll lu jK lZ m2 m3 m4;omega)) (by(clear hi hv ei jJ o1 o2 o3 o4 hl f1 f2 hk hc y0 y1 lf f3 f5 gQ iy jq gf iw iQ iV kb1 iA gE ly lr lq mI mH nj ni l7 ll lu jK lZ m1 m2 m4;omega)) (by(clear hi hv ei jJ o1 o2 o3 o4 hl f1 f2 hk hc y0 y1 lf f3 f5 gQ iy jq gf iw iQ iV kb1 iA gE ly lr lq mI mH nj ni l7 ll lu jK lZ m1 m2 m4;omega)) lZ.1 lZ.2 gl gu ll lu
  ·have lj:j<g'.length:=by(clear hi hv ei jJ jV o1 hl f1 f2 hk hc y0 y1 f3 f5 gQ iy jq gf iw iQ iV kb1 ly lr lq mI mH nj ni l7 ll lu jK lZ a;omega)
   rw[az (by(clear hi hv ei jJ jV o1 hl f1 f2 hk hc y0 y1 lf f3 f5 gQ iy jq gf iw iQ iV kb1 iA gE ly lr lq mI mH nj ni l7 ll lu jK lZ a lj;omega)),G8.old j a (by have:=G6.len;simp;(clear hi hv ei jJ jV o1 o2 o3 o4 hl f1 f2 hk hc y0 y1 lf f3 f5 gQ iy jq gf iw iQ iV kb1 iA gE ly lr lq mI mH nj ni l7 ll lu jK lZ a b;omega)),aD (by have:=G6.len;(clear hi hv ei jJ jV o1 o2 o3 o4 hl f1 f2 hk hc y0 y1 lf f3 f5 gQ iy jq gf iw iQ iV kb1 iA gE ly lr lq mI mH nj ni l7 ll lu jK lZ a b;omega)),G6.old j a lj];exact uX j a b
  ·have:=G6.len;have:=G8.len;simp at this ⊢
   (clear hi hv ei jJ jV o1 o2 o3 o4 hl f1 f2 hk hc y0 y1 lf f3 f5 gQ iy jq gf iw iQ iV kb1 ly lr lq mI mH nj ni l7 ll lu jK lZ;omega)
 refine if2 (λc=>?_) (λc=>?_)
 ·left;refine d6 h4 D5 ∅ ∅ λr6 g6 Gs Gq D6 G6=>?_;left;generalize Og:(if y+1+r6<9999 then y+1+r6 else 9999)=y';have:0<=y'/\y'<=9999:=by rw[<- Og];split<;>omega
  exact tail y' g6 this.1 this.2 D6 (G5.trans G6)
 ·refine q9 ?_;exact tail y g5 y0 y1 D5 G5
theorem aY2(h4:T 4=some E1)(wt:T 23=some K5)(PL:T 24=some K4){n:Int}(hn:0<=n/\n<=100)(hv:1<=v/\v<=100)(D0:f9 g d)(h:∀(cs:List b7) a g',(cs.length:Int)=n->(∀c∈cs,jD c)->g'[a]?=some (.lst (cs.map b7.d))->g.length<=a->f9 g' d->Gr d g g'->Q (.ref a) g'):c5 T (k+3) 24 [.ref d,.int n,.int v] g Q E:=by
 refine call_of PL rfl ?_;dsimp[K4,c7,List.replicate];have dl:=D0.lt;left;have D1:f9 (g++[O.lst []]++[O.dX []]++[O.lst [.int 0,.int 1,.int 1350]]) d:=((D0.snoc _).snoc _).snoc _;have G1:Gr d g (g++[O.lst []]++[O.dX []]++[O.lst [.int 0,.int 1,.int 1350]]):=((Gr.snoc _ _ _).trans (Gr.snoc _ _ _)).trans (Gr.snoc _ _ _);have e0:(g++[O.lst []]++[O.dX []]++[O.lst [.int 0,.int 1,.int 1350]])[g.length]?=some (.lst []):=n9 (n9 a9);have e1:(g++[O.lst []]++[O.dX []]++[O.lst [.int 0,.int 1,.int 1350]])[(g++[O.lst []]).length]?=some (.dX []):=n9 a9;have e2:(g++[O.lst []]++[O.dX []]++[O.lst [.int 0,.int 1,.int 1350]])[(g++[O.lst []]++[O.dX []]).length]?=some (.lst [.int 0,.int 1,.int 1350]):=a9;have n1:(g++[O.lst []]).length=g.length+1:=by simp
 have n2:(g++[O.lst []]++[O.dX []]).length=g.length+2:=by simp
 rw[n1] at e1 ⊢;rw[n2] at e2 ⊢;generalize g++[O.lst []]++[O.dX []]++[O.lst [.int 0,.int 1,.int 1350]]=g1 at *;refine d6 h4 D1 ∅ ∅ λr2 g2 iy iw D2 G2=>?_;have QA:=G2.at () e0;have rS:=G2.at () e1;have Qw:=G2.at () e2;obtain⟨x,hx,hm⟩:=M5 (l:=[D.int 0,.int 1,.int 1350]) iy (by simpa using iw);have hy:∃y:Int,x=.int y/\0<=y/\y<=9999:=by
  simp only[List.mem_cons,List.mem_nil_iff,or_false] at hm;rcases hm with rfl|rfl|rfl<;>exact⟨_,rfl,by decide,by decide⟩
 obtain⟨y,rfl,y0,y1⟩:=hy;refine k8 (a7 Qw) hx ?_;left;refine d6 h4 D2 ∅ ∅ λr3 g3 iQ iV D3 G3=>?_;left;refine d6 h4 D3 ∅ ∅ λr4 g4 qE sZ D4 G4=>?_;left;refine d6 h4 D4 ∅ ∅ λr5 g5 lr lq D5 G5=>?_;have zZ:=G3.trans (G4.trans G5);have Qz:=zZ.at () QA;have wJ:=zZ.at () rS;have l5:=(G1.trans (G2.trans zZ)).len;have lw:=k9 wJ;left;generalize jV:(if r5-6>0 then r5-6 else 0)=sh;have Gg:0<=sh/\sh<=2:=by rw[<- jV];split<;>omega
 have yI:(g5++[O.lst []])[g5.length]?=some (.lst []):=a9;refine p6 (a8 T _) (M1 (a8 T _) ?_);left;refine ⟨by omega,by omega,i6 0 n.toNat,λi Z g'=>∃ f' y' Ai uL nT mG uK uJ,Z=[some (.ref d),some (.int n),some (.int v),some (.ref g.length),some (.int f'),some (.ref (g.length + 1)),some (.int y'),some (.int (1 + r3)),some (.int (2 + r4)),some (.int sh),some (.ref g5.length),Ai,uL,nT,mG,uK,uJ]/\jr d g.length (g.length + 1) g5.length i g' f' y'/\Gr d g g',
  λ_ _ _ _=>n5,⟨1,y,none,none,none,none,none,none,rfl,⟨⟨[],n9 Qz,⟨[],rfl,by simp⟩,by simp⟩,⟨by omega,by omega⟩,⟨[],n9 wJ,(λk v hv=>by cases hv),by simp⟩,⟨[],yI,rfl,by simp⟩,⟨y0,y1⟩,D5.snoc _⟩,(G1.trans (G2.trans zZ)).trans (Gr.snoc _ _ _)⟩,λi x Z g' hx p=>?_,λZ g' p=>?_⟩
 ·obtain⟨f',y',Ai,uL,nT,mG,uK,uJ,rfl,S,G'⟩:=p;obtain⟨hi,rfl⟩:=t8 hx;show wpS _ N4 _ _ _ _;refine aK6 (n0:=g.length) h4 wt S () hv ⟨by omega,by omega⟩ ⟨by omega,by omega⟩ Gg dl (ay _) () () λf2 y2 a b c e f g2 S2 qL vi=>?_;exact⟨f2,y2,_,_,_,_,_,_,rfl,S2,⟨by have:=G'.len;(clear hn hv dl iy iw y0 y1 iQ iV qE sZ lr lq l5 lw jV Gg hi;omega),λj h1 h2=>(qL j h1 h2).trans (G'.old j h1 h2)⟩⟩
 ·obtain⟨f',y',Ai,uL,nT,mG,uK,uJ,rfl,S,G'⟩:=p;show wpS _ _ _ _ _ _;left;obtain⟨cs,ef,hc,hg⟩:=S.found;rw[j6] at hc;exact h cs _ _ () hg ef () S.dr G'
end
def ze:aX:=⟨2,8,(.seq (.set 2 (br .kE (aY 1) (br (.bin .Add) (br (.bin .Add) (br (.bin .FloorDiv) aT (aY 2)) (br (.bin .Mod) aT (aY 2))) (aY 1)))) (.seq (.set 3 (br (.bin .Add) bc (br (.ji false true) (.call 21 (cW aI bc)) (br (.bin .FloorDiv) aT (aY 2))))) (.seq (.set 4 (.call 4 (cW aI (aY 3)))) (.seq (.set 5 (.prim .lst .nil)) (.seq (.dw (.one 6) (.dW aT) (.seq (.set 7 (cB (.prim .lst (gO (br (.bin .Add) (aY 1000) dZ) (aY 0) (br (.bin .Add) (aY 1) (br (.bin .FloorDiv) (br (.bin .Mult) (aY 2) dZ) (br .max (aY 1) aT))))) bE)) (.seq (.expr (.dU .append cN (eT (.prim .tup (qt (cB bp dZ) (.prim .tup .nil) (br (.bin .Add) (aY 1) (.call 4 (cW aI (aY 9)))) (.prim .tup .nil) eZ))))) .pass))) (.seq (.ret cN) .pass))))))⟩
def T8:aX:=⟨2,9,(.seq (.set 2 (.call 4 (cW aI (br (.bin .Add) aT (aY 1))))) (.seq (.set 3 (br (.bin .Add) (aY 1) (.call 4 (cW aI (aY 3))))) (.seq (.set 4 (.call 4 (cW aI (aY 5)))) (.seq (.ifs (cY .Eq bE (aY 0)) (.seq (.ret (br .tup (.comp [0] 3 (.one 2) (.dW bc) .no (.call 22 (eT aI))) bp)) .pass) .pass) (.seq (.ifs (cY .Eq bE (aY 4)) (.seq (.set 3 (br (.bin .Add) (aY 1) (.call 4 (cW aI (aY 6))))) .pass) .pass) (.seq (.set 5 (.ite (cY .Eq bE (aY 4)) (.call 25 (cW aI bc)) (.call 24 (gO aI bc bp)))) (.seq (.set 5 (.comp [5] 3 (.one 2) (.fe (.call 21 (cW aI (cJ .jl bc)))) .no (cB aI bc))) (.seq (.ifs (.cQ (cY .Eq bE (aY 1)) (cY .Gt bc (aY 0))) (.seq (.set 6 (.call 4 (cW aI bc))) (.seq (.set 7 (cB cN dZ)) (.seq (.set 8 (cB cN (.call 4 (cW aI bc)))) (.seq (.eP cN dZ (.prim .tup (qt (cB eZ (aY 0)) (cB gU (aY 1)) (cB gU (aY 2)) (cB eZ (aY 3)) (cB (.prim .lst (gO (cB eZ (aY 4)) (cB gU (aY 4)) (aY 9999))) (.call 4 (cW aI (aY 3))))))) .pass)))) .pass) (.seq (.ifs (cY .Eq bE (aY 2)) (.seq (.set 3 (aY 1)) .pass) .pass) (.seq (.ret (br .tup cN bp)) .pass))))))))))⟩
theorem KU{p:Int->Prop}:∀{l:List D},(∀x∈l,∃i:Int,x=.int i/\p i)->∃ns:List Int,l=ns.map .int/\∀i∈ns,p i
 |[],_=>⟨[],rfl,by simp⟩
 |x::r,h=>by
  obtain⟨i,rfl,hi⟩:=h x (by simp);obtain⟨ns,rfl,hn⟩:=KU (l:=r) λy hy=>h y (by simp[hy]);exact⟨i::ns,rfl,λj hj=>(aH.mp hj).elim (λz=>z▸hi) (hn j)⟩
theorem Lo{lo:Int}(h:x∈i6 lo n):∃i:Int,x=.int i/\lo<=i/\i<lo+n:=by
 unfold i6 at h;obtain⟨k,hk,rfl⟩:=aL.mp h;exact⟨_,rfl,by omega,by have:=aN.mp hk;omega⟩
theorem R9{l:List α}(h:n<=l.length):cut l none (some (n:Int))=l.take n:=by
 have:¬((n:Int)<0):=by omega
 unfold cut HT.dG;simp[this]
theorem SI{r:Int}(h0:0<=r)(h1:r<ns.length):∃i∈ns,fL (ns.map D.int) r=some (.int i):=by
 obtain⟨v,hv,hm⟩:=M5 (l:=ns.map D.int) h0 (by simpa using h1);obtain⟨i,hi,rfl⟩:=aL.mp hm;exact⟨i,hi,hv⟩
theorem DE{r:Int}(h0:0<=r)(h1:r<cs.length):∃c∈cs,fL (cs.map b7.d) r=some c.d:=by
 obtain⟨v,hv,hm⟩:=M5 (l:=cs.map b7.d) h0 (by simpa using h1);obtain⟨i,hi,rfl⟩:=aL.mp hm;exact⟨i,hi,hv⟩
section
variable{T:Nat->Option aX}{d:Nat}
theorem a15(h4:T 4=some E1)(BZ:T 21=some V8)(PK:T 25=some ze){n:Int}(hn:0<=n/\n<=100)(D0:f9 g d)(h:∀(cs:List b7) a g',(cs.length:Int)=n->(∀c∈cs,jD c)->g'[a]?=some (.lst (cs.map b7.d))->g.length<=a->f9 g' d->Gr d g g'->Q (.ref a) g'):c5 T (k+3) 25 [.ref d,.int n] g Q E:=by
 refine call_of PK rfl ?_;dsimp[ze,c7,List.replicate];have dl:=D0.lt;left;refine NX (i:=1) (j:=n / 2+n % 2+1) () ?_;left;have hh:∃hf:Nat,(n / 2+n % 2+1-1).toNat=hf/\(hf:Int)=n / 2+n % 2/\hf<=50:=⟨_,rfl,by omega,by omega⟩
 obtain⟨hf,Bx,hh2,Hh⟩:=hh;rw[Bx];have e1:(g++[O.lst (i6 1 hf)])[g.length]?=some (.lst (i6 1 hf)):=a9;refine Y3 h4 BZ e1 (by rw[j6];omega) () (D0.snoc _) λl' b g2 hp e2 hb D2 G2=>?_;have rS:=G2.at () e1;left;refine N9 (a7 e2) ?_;have hle:l'.length=hf:=by rw[hp.length_eq,j6]
 have hc:cut l' none (some (n / 2))=l'.take (n / 2).toNat:=by
  have:=R9 (l:=l') (n:=(n / 2).toNat) ()
  rwa [show(((n / 2).toNat:Nat):Int)=n / 2 by omega] at this
 rw[hc];refine sA (n9 rS) a9 (by rw[j6,cZ];omega) ?_;obtain⟨rl,er,hr⟩:=KU (p:=λi=>1<=i/\i<=50) (l:=i6 1 hf++l'.take (n / 2).toNat) λx hx=>by
  have qS:x∈i6 1 hf:=by
   rcases aZ.mp hx with z|z
   ·exact z
   ·exact hp.mem_iff.mp (jw z)
  obtain⟨i,rfl,h1,h2⟩:=Lo qS;exact⟨i,rfl,h1,by omega⟩
 have GS:(rl.length:Int)=n:=by
  have:=fV List.length er;rw[bg,j6,cZ,ae] at this;omega
 rw[er];have D3:=(D2.snoc (.lst (l'.take (n / 2).toNat))).snoc (.lst (rl.map D.int));have G3:=(Gr.snoc d g (.lst (i6 1 hf))).trans (G2.trans ((Gr.snoc d g2 (.lst (l'.take (n / 2).toNat))).trans (Gr.snoc d _ (.lst (rl.map D.int)))));have e3:(g2++[O.lst (l'.take (n / 2).toNat)]++[O.lst (rl.map D.int)])[(g2++[O.lst (l'.take (n / 2).toNat)]).length]?=some (.lst (rl.map D.int)):=a9;have l3:g.length+1<=(g2++[O.lst (l'.take (n / 2).toNat)]).length:=by have:=G2.len;simp at this ⊢;omega
 generalize (g2++[O.lst (l'.take (n / 2).toNat)]).length=Gj at *;generalize g2++[O.lst (l'.take (n / 2).toNat)]++[O.lst (rl.map D.int)]=g3 at *;left;refine d6 h4 D3 ∅ ∅ λr4 g4 qE sZ D4 G4=>?_;have e4:=G4.at () e3;left;have MQ:=G3.trans G4;have l4:=MQ.len;have e5:(g4++[O.lst []])[g4.length]?=some (.lst ([].map b7.d)):=a9;have GG:=k9 e4;refine p6 (a8 T _) (M1 (a8 T _) ?_);left;refine ⟨by omega,by omega,i6 0 n.toNat,λi Z g'=>∃ cs z6 z7,Z=[some (.ref d),some (.int n),some (.ref g.length),some (.ref Gj),some (.int r4),some (.ref g4.length),z6,z7]/\cs.length=i/\(∀ c ∈ cs,jD c)/\g'[g4.length]?=some (.lst (cs.map b7.d))/\g'[Gj]?=some (.lst (rl.map D.int))/\f9 g' d/\Gr d g g',
  λ_ _ _ _=>n5,⟨[],none,none,rfl,rfl,by simp,e5,n9 e4,D4.snoc _,MQ.trans (Gr.snoc _ _ _)⟩,λi x Z g' hx p=>?_,λZ g' p=>?_⟩
 ·obtain⟨cs,z6,z7,rfl,hc,hg,ef,erw,D',G'⟩:=p;obtain⟨hi,rfl⟩:=t8 hx;show wpS _ _ _ _ _ _;left;refine U2 (Fc ∅ ∅) ?_;left;refine zM ⟨by split<;>omega,by split<;>omega⟩ ?_;left;obtain⟨yv,hy,AV⟩:∃yv:Int,fL [D.int (1000+(0+(i:Int))),D.int 0,D.int (1+2*(0+(i:Int)) / (if n>1 then n else 1))] r4=some (.int yv)/\0<=yv/\yv<=9999:=by
   have dv0:0<=2*(0+(i:Int)) / (if n>1 then n else 1):=Int.ediv_nonneg () (by split<;>omega);have dv1:2*(0+(i:Int)) / (if n>1 then n else 1)<=2*(0+(i:Int)):=Int.ediv_le_self _ ();have:r4=0\/r4=1\/r4=2:=by omega
   rcases this with rfl|rfl|rfl
   ·exact⟨_,rfl,by omega,by(clear dl Bx Hh hb l3 l4 GG hc qE sZ;omega)⟩
   ·exact⟨_,rfl,by omega,by omega⟩
   ·exact⟨_,rfl,by omega,by omega⟩
  refine k8 (a7 a9) hy ?_;left;obtain⟨lo,Hc,Bo⟩:=SI (ns:=rl) (r:=0+(i:Int)) () (by(clear hn dl Bx Hh hb l3 qE sZ l4 GG AV;omega));have lf:=k9 ef;refine And.intro (V6 (n9 ef)) ?_;left;refine k8 (a7 (n9 erw)) Bo ?_;left;refine d6 h4 (D'.snoc _) ∅ ∅ λr6 g6 Gs Gq D6 G6=>?_;have yG:=G6.at () (n9 ef);have Qr:=G6.at () (n9 erw);left;refine O0 yG (by simp;omega) ?_;left;have hlb:=hr lo Hc;refine⟨cs++[⟨lo,[],1+r6,[],yv⟩],_,_,rfl,by simp[hc],?_,?_,d5 Qr (),D6.F2 (),(G'.trans ((Gr.snoc _ _ _).trans G6)).F2 ()⟩
  ·intro c hV;rcases aZ.mp hV with z|z
   ·exact hg c z
   ·simp at z;subst z;exact jD.mk' () () () () AV.1 AV.2 rfl rfl (by simp) (by simp)
  ·rw[get_set yG];simp[b7.d]
 ·obtain⟨cs,z6,z7,rfl,hc,hg,ef,erw,D',G'⟩:=p;show wpS _ _ _ _ _ _;left;rw[j6] at hc;exact h cs _ _ () hg ef () D' G'
end
section
variable{T:Nat->Option aX}{d:Nat}
structure LF(T:Nat->Option aX):Prop where
 pull:T 4=some E1
 order:T 21=some V8
 any:T 22=some zt
 qz:T 23=some K5
 qw:T 24=some K4
 opened:T 25=some ze
 list:T 26=some T8
theorem aU6(hT:LF T){n:Int}(hn:0<=n/\n<=99)(D0:f9 g d)(h:∀(cs:List b7) a (v:Int) g',(cs.length:Int)<=n->(∀c∈cs,jD c)->g'[a]?=some (.lst (cs.map b7.d))->g.length<=a->1<=v->v<=6->f9 g' d->Gr d g g'->Q (.tup [.ref a,.int v]) g'):c5 T (k+4) 26 [.ref d,.int n] g Q E:=by
 refine call_of hT.list rfl ?_;dsimp[T8,c7,List.replicate];have dl:=D0.lt;left;refine d6 (n:=n+1) hT.pull D0 () () λm g1 m0 m1 D1 G1=>?_;left;refine d6 hT.pull D1 ∅ ∅ λr2 g2 iy iw D2 G2=>?_;left;refine d6 hT.pull D2 ∅ ∅ λway g3 w0 w1 D3 G3=>?_;have Aa:=G1.trans (G2.trans G3);have l3:=Aa.len;left;refine if2 (λc=>?_) (λc=>?_)
 ·left;refine E6 (a8 T _) (M1 (a8 T _) ?_);left;refine⟨by omega,by omega,i6 0 m.toNat,λi ys Z g'=>∃cs z1 z2,ys=cs.map b7.d/\cs.length=i/\(∀c∈cs,jD c)/\Z=[some (.ref d),z1,z2]/\f9 g' d/\Gr d g g',by rw[j6];omega,λi ys Z g' p=>⟨n5,?_⟩,⟨[],none,none,rfl,rfl,by simp,rfl,D3,Aa⟩,λi x ys Z g' hx p=>?_,λys Z g' p=>?_⟩
  ·obtain⟨cs,z1,z2,rfl,hc,_⟩:=p;simp[hc]
  ·obtain⟨cs,z1,z2,rfl,hc,hg,rfl,D',G'⟩:=p;show dg _ _ _ _ _ _;left;refine aM3 hT.pull hT.any D' λc0 g4 gc D4 G4=>?_;refine⟨cs++[c0],_,_,by simp,by simp[hc],λc1 rh=>?_,rfl,D4,G'.trans G4⟩;rcases aZ.mp rh with z|z
   ·exact hg c1 z
   ·simp at z;subst z;exact gc
  ·obtain⟨cs,z1,z2,rfl,hc,hg,rfl,D',G'⟩:=p;rw[j6] at hc;left;exact h cs _ _ _ () hg a9 G'.len () () (D'.snoc _) (G'.trans (Gr.snoc _ _ _))
 have tail:∀(v:Int) (g4:G),1<=v->v<=6->f9 g4 d->Gr d g g4->wpS (c5 T (k+3)) (j8 (j8 (j8 (j8 (j8 T8.body))))) ⟨λ_ g'=>Q .bN g',Q,λ_ _=>False,λ_ _=>False⟩ [some (.ref d),some (.int n),some (.int m),some (.int v),some (.int way),none,none,none,none] g4 E:=by
  intro v g4 v0 v1 D4 G4;dsimp[T8,j8];have after:∀(cs:List b7) a g5,(cs.length:Int)=m->(∀c∈cs,jD c)->g5[a]?=some (.lst (cs.map b7.d))->g4.length<=a->f9 g5 d->Gr d g4 g5->wpS (c5 T (k+3)) (j8 (j8 (j8 (j8 (j8 (j8 T8.body)))))) ⟨λ_ g'=>Q .bN g',Q,λ_ _=>False,λ_ _=>False⟩ [some (.ref d),some (.int n),some (.int m),some (.int v),some (.int way),some (.ref a),none,none,none] g5 E:=by
   intro cs a g5 hc hg ea la D5 G5;have MP:=G4.trans G5;have l4:=G4.len;dsimp[T8,j8];left;refine E6 (a8 T _) (kO (a8 T _) ?_);left;refine AN () () ?_;left;have e6:(g5++[O.lst (i6 0 m.toNat)])[g5.length]?=some (.lst (i6 0 m.toNat)):=a9;have l5:=D5.lt;refine Y3 hT.pull hT.order e6 (by rw[j6];omega) () (D5.snoc _) λl' b g7 hp eb lb D7 G7=>?_;have Qu:=G7.at () (n9 ea);have jL:l'.length=m.toNat:=by rw[hp.length_eq,j6]
   refine⟨b,l',rfl,a7 eb,l',λi ys Z g'=>∃jA z1 z2,ys=jA.map b7.d/\jA.length=i/\(∀c∈jA,jD c)/\Z=[some (.ref a),z1,z2]/\g'=g7,by omega,λi ys Z g' p=>?_,⟨[],none,none,rfl,rfl,by simp,rfl,rfl⟩,λi x ys Z g' hx p=>?_,λys Z g' p=>?_⟩
   ·obtain⟨jA,z1,z2,rfl,hV,_,_,rfl⟩:=p;exact⟨m7 (a7 eb),by simp[hV]⟩
   ·obtain⟨jA,z1,z2,rfl,hV,oP,rfl,rfl⟩:=p;obtain⟨j,rfl,j0,j1⟩:=Lo (hp.mem_iff.mp (aC hx));show dg _ _ _ _ _ _;left;obtain⟨c0,yy,e0⟩:=DE (cs:=cs) j0 ();refine k8 (a7 Qu) e0 ?_;refine⟨jA++[c0],_,_,by simp,by simp[hV],λc1 rh=>?_,rfl,rfl⟩;rcases aZ.mp rh with z|z
    ·exact oP c1 z
    ·simp at z;subst z;exact hg c1 yy
   ·obtain⟨jA,z1,z2,rfl,hV,oP,rfl,rfl⟩:=p;have e8:(g'++[O.lst (jA.map b7.d)])[g'.length]?=some (.lst (jA.map b7.d)):=a9;have D8:=D7.snoc (.lst (jA.map b7.d));have G8:=(MP.trans ((Gr.snoc d g5 (.lst (i6 0 m.toNat))).trans G7)).trans (Gr.snoc d g' (.lst (jA.map b7.d)));have l8:g.length<=g'.length:=(MP.trans ((Gr.snoc d g5 (.lst (i6 0 m.toNat))).trans G7)).len;have fin:∀(tR:List b7) z6 z7 z8 g9,(tR.length:Int)=m->(∀c∈tR,jD c)->g9[g'.length]?=some (.lst (tR.map b7.d))->f9 g9 d->Gr d g g9->wpS (c5 T (k+3)) (j8 (j8 (j8 (j8 (j8 (j8 (j8 (j8 T8.body)))))))) ⟨λ_ g'=>Q .bN g',Q,λ_ _=>False,λ_ _=>False⟩ [some (.ref d),some (.int n),some (.int m),some (.int v),some (.int way),some (.ref g'.length),z6,z7,z8] g9 E:=by
     intro tR z6 z7 z8 g9 vV Hk e9 D9 G9;dsimp[T8,j8];left;refine if2 (λc=>?_) (λc=>?_)
     ·left;exact h tR _ _ _ () Hk e9 l8 () () D9 G9
     ·left;exact h tR _ _ _ () Hk e9 l8 v0 v1 D9 G9
    show wpS _ _ _ _ (g'++[O.lst (jA.map b7.d)]) _;have pR:(jA.length:Int)=m:=by omega
    have ym:=D7.lt;generalize hg8:g'++[O.lst (jA.map b7.d)]=g8 at *;left;refine if2 (λc1=>?_) (λc1=>?_)
    ·left;refine if2 (λc2=>?_) (λc2=>?_)
     ·left;refine d6 (n:=m) hT.pull D8 c2 () λr g9 r0 r1 D9 G9=>?_;have e9:=G9.at () e8;obtain⟨c0,yy,e0⟩:=DE (cs:=jA) r0 (by(clear hn dl m0 m1 iy iw w0 w1 l3 c v0 v1 la l4 l5 lb jL hV l8 ym c1 c2 r0;omega));left;refine k8 (a7 e9) e0 ?_;left;refine d6 (n:=m) hT.pull D9 c2 () λr' HP yh Gu MR MO=>?_;have rT:=MO.at () e9;obtain⟨c3,yx,e3⟩:=DE (cs:=jA) yh (by(clear hn dl m0 m1 iy iw w0 w1 l3 c v0 v1 la l4 l5 lb jL hV l8 ym c1 c2 r0 r1 yh;omega));refine k8 (a7 rT) e3 ?_;dsimp only[b7.d];left;refine d6 hT.pull (MR.snoc _) ∅ ∅ λr'' g11 qH qG D11 FK=>?_;have GI:=MR.lt;have Qx:=FK.at () (a9 (g:=HP) (o:=.lst [.int c0.yr,.int c3.yr,.int 9999]));have wK:=FK.at () (n9 (o':=.lst [.int c0.yr,.int c3.yr,.int 9999]) rT);obtain⟨x,hx,hm⟩:=M5 (l:=[D.int c0.yr,.int c3.yr,.int 9999]) qH (by simpa using qG);obtain⟨a1,a2,a3,a4,a5,a6⟩:=(oP c0 yy).inv;obtain⟨b1,b2,b3,b4,b5,b6⟩:=(oP c3 yx).inv;have hy:∃y:Int,x=.int y/\0<=y/\y<=9999:=by
       simp only[List.mem_cons,List.mem_nil_iff,or_false] at hm;rcases hm with rfl|rfl|rfl
       ·exact⟨_,rfl,a5,a6⟩
       ·exact⟨_,rfl,b5,b6⟩
       ·exact⟨_,rfl,by decide,by decide⟩
      obtain⟨y,rfl,y0,y1⟩:=hy;refine k8 (a7 Qx) hx ?_;left;have hj:kM (jA.map b7.d).length r=some r.toNat:=by
       unfold kM;rw[aJ r0,aJ (by rw[ae];(clear hn dl m0 m1 iy iw w0 w1 l3 c v0 v1 la l4 l5 lb jL hV l8 ym c1 c2 r0 yh Gu qH qG GI a1 a3 a5 a6 b1 b3 b5 b6 y0 y1;omega))]
      refine Q1 wK hj ?_;have gr:jD ⟨c0.lo,c3.lm,c3.up,c0.um,y⟩:=jD.mk' a1.1 a1.2 b3.1 b3.2 y0 y1 b2 a4 (oP c3 yx).l8 (oP c0 yy).u8;refine fin (jA.set r.toNat ⟨c0.lo,c3.lm,c3.up,c0.um,y⟩) _ _ _ _ (by simp;(clear hn dl m0 m1 iy iw w0 w1 l3 c v0 v1 la l4 l5 lb jL hV l8 ym c1 c2 r0 r1 yh Gu qH qG GI a1 a3 a5 a6 b1 b3 b5 b6 y0 y1;omega)) (λc4 OV=>?_) ?_ (D11.F2 ()) ((G8.trans (G9.trans (MO.trans ((Gr.snoc _ _ _).trans FK)))).F2 l8)
      ·rcases pD OV with z|z
       ·exact oP c4 z
       ·rw[z];exact gr
      ·rw[get_set wK,List.map_set]
       rfl
     ·refine q9 ?_;exact fin jA _ _ _ _ pR oP e8 D8 G8
    ·exact fin jA _ _ _ _ pR oP e8 D8 G8
  left;refine if2 (λc=>?_) (λc=>?_)
  ·left;refine a15 hT.pull hT.order hT.opened ⟨m0,by omega⟩ D4 λcs a g5 hc hg ea la D5 G5=>?_;exact after cs a g5 hc hg ea la D5 G5
  ·left;refine aY2 hT.pull hT.qz hT.qw ⟨m0,by omega⟩ ⟨v0,by omega⟩ D4 λcs a g5 hc hg ea la D5 G5=>?_;exact after cs a g5 hc hg ea la D5 G5
 left;refine if2 (λc=>?_) (λc=>?_)
 ·left;refine d6 hT.pull D3 ∅ ∅ λr4 g4 qE sZ D4 G4=>?_;walk_at "w1";walk_at "w1";exact tail _ _ () () D4 (Aa.trans G4)
 ·refine q9 ?_;exact tail _ _ () () D3 Aa
end
def J5:aX:=⟨1,1,(.seq (.ifs (.dE (.fm (.call 1 (gO aI (aY 1) (aY 9))))) (.seq (.raise "BadAnvils" (eT (gb "there are from one to nine anvils"))) .pass) .pass) .pass)⟩
def xg:aX:=⟨2,2,(.seq (.ifs (cY .Eq (.call 4 (cW aI (aY 12))) (aY 7)) (.seq (.ret (.call 5 (eT aI))) .pass) .pass) (.seq (.ret (br (.bin .Sub) (.call 4 (cW aI (br (.bin .Add) aT (aY 4)))) (aY 2))) .pass))⟩
def zg:aX:=⟨2,2,(.seq (.ret (cJ .all (.comp [1] 3 (.one 2) (.fe aI) .no (br (.cmp .In) bc aI)))) .pass)⟩
def Eo:aX:=⟨1,1,(.seq (.ifs (.dE (.fm (.call 12 (eT aI)))) (.seq (.raise "BadCoin" (eT (gb "it is no coin"))) .pass) .pass) .pass)⟩
def Y8:aX:=⟨1,2,(.seq (.ifs (cY .Gt (cJ .len aI) (aY 9)) (.seq (.raise "TooMany" (eT (gb "at most nine coins are asked about at once"))) .pass) .pass) (.seq (.dw (.one 1) (.fe aI) (.seq (.expr (.call 39 (eT aT))) .pass)) .pass))⟩
def T9:aX:=⟨1,1,(.seq (.ifs (cY .NotIn aI (.lit (.tup [(.str "lower"),(.str "upper")]))) (.seq (.raise "BadSide" (eT (gb "a side is lower or upper"))) .pass) .pass) .pass)⟩
def Ec:aX:=⟨1,1,(.seq (.expr (.call 40 (eT aI))) (.seq (.ret (br .nM (.lit (.tup [(.tup [(.str "lower"),(.int 0)]),(.tup [(.str "upper"),(.int 2)])])) aI)) .pass))⟩
noncomputable abbrev MU(T:Nat->Option aX):Prop:=T 18=some Y8/\T 39=some Eo
noncomputable abbrev FN(T:Nat->Option aX):Prop:=T 19=some Ec/\T 40=some T9
def zx:aX:=⟨2,2,(.seq (.ret (br (.cmp .Eq) (cJ .len (.comp [1] 3 (.one 2) (.fe aI) (cY .NotIn bc aI) bc)) (aY 0))) .pass)⟩
structure Ex(g g':G):Prop where
 len:g.length<=g'.length
 old:∀i,i<g.length->g'[i]?=g[i]?
theorem Ex.refl(g:G):Ex g g:=⟨ay _,λ_ _=>rfl⟩
theorem Ex.trans{g g1 g2:G}(a:Ex g g1)(b:Ex g1 g2):Ex g g2:=⟨aB a.len b.len,λi h=>(b.old i (aA h a.len)).trans (a.old i h)⟩
theorem Ex.snoc(g:G)(o:O):Ex g (g++[o]):=⟨by simp,λi h=>aD h⟩
theorem Ex.at(h:Ex g g'){o:O}(e:g[i]?=some o):g'[i]?=some o:=(h.old i (k9 e)).trans e
theorem Ex.gr(h:Ex g g')(d:Nat):Gr d g g':=⟨h.len,λi _ h2=>h.old i h2⟩
theorem Ex.draw{d:Nat}(h:Ex g g')(D0:f9 g d):f9 g' d:=by
 obtain⟨s,p,b,r,xs,e1,e2,q⟩:=D0.ex;exact⟨s,p,b,r,xs,h.at e1,h.at e2,q⟩
inductive E5(g:G):Nat->D->D->Prop
 |bN {n:Nat}:E5 g n .bN .bN
 |bl {n:Nat} (b:Bool):E5 g n (.bl b) (.bl b)
 |int {n:Nat} (i:Int):E5 g n (.int i) (.int i)
 |str {n:Nat} (x:Str):E5 g n (.str x) (.str x)
 |tup {n:Nat} {l m:List D} (hl:l.length=m.length) (h:∀(i:Nat) x y,l[i]?=some x->m[i]?=some y->E5 g n x y) (hz:m.length<=1000):E5 g (n+1) (.tup l) (.tup m)
 |lst {n a b:Nat} {l m:List D} (ha:g[a]?=some (.lst l)) (hb:g[b]?=some (.lst m)) (hl:l.length=m.length) (h:∀(i:Nat) x y,l[i]?=some x->m[i]?=some y->E5 g n x y) (hz:m.length<=1000):E5 g (n+1) (.ref a) (.ref b)
theorem E5.ex(e:Ex g g'){y:D}(h:E5 g n x y):E5 g' n x y:=by
 induction h with
 |bN=>exact .bN
 |bl b=>exact .bl b
 |int i=>exact .int i
 |str x=>exact .str x
 |tup hl h hz ih=>exact .tup hl ih hz
 |lst ha hb hl h hz ih=>exact .lst (e.at ha) (e.at hb) hl ih hz
section
variable{T:Nat->Option aX}
theorem yR(h6:T 6=some xE){i:Int}(h:Q (.bl true) g):c5 T (k+1) 6 [.int i] g Q E:=by
 refine call_of h6 rfl ?_;dsimp[xE,c7,List.replicate];left;refine gJ (c:="int") (b:=true) ∅ rfl ?_;left;refine gJ (c:="bool") (b:=false) ∅ rfl ?_;left;exact h
def KY:MS:=match F4.body with
 |.seq _ (.seq _ (.seq _ (.seq _ (.seq _ b))))=>b
 |x=>x
theorem X6(h6:T 6=some xE)(h7:T 7=some F4):∀(n:Nat) {k:Nat} {g:G} {x y:D} {Q:KD} {E:KX},E5 g n x y->(∀g',Ex g g'->Q (.bl true) g')->c5 T (k+n+2) 7 [x,y] g Q E:=by
 have uT:∀(n:Nat),(∀{k:Nat} {g:G} {x y:D} {Q:KD} {E:KX},E5 g n x y->(∀g',Ex g g'->Q (.bl true) g')->c5 T (k+n+2) 7 [x,y] g Q E) ->
   ∀{k:Nat} {g:G} {x y:D} {l m:List D} {Q:KD} {E:KX},(∀g',Ex g g'->J7 g' x=some l)->(∀g',Ex g g'->J7 g' y=some m)->l.length=m.length->m.length<=1000->(∀(i:Nat) x y,l[i]?=some x->m[i]?=some y->E5 g n x y)->(∀g',Ex g g'->Q (.bl true) g') ->
   wpS (c5 T (k+n+2)) KY ⟨λ_ g'=>Q .bN g',Q,λ_ _=>False,λ_ _=>False⟩ [some x,some y] g E:=by
  intro n ih k g x y l m Q E hx hy hl hz hs hQ;have len:∀(z:D) (l:List D) (g':G) (Q':KD),J7 g' z=some l->Q' (.int l.length) g'->cE .len [z] g' Q':=λz l g' Q' e q=>⟨_,_,⟨rfl,.inl ⟨z,l,rfl,e,rfl⟩⟩,q⟩
  dsimp[KY,F4];refine xj (ER (ET (sv (xH (w_var rfl (len _ _ _ _ (hx g (Ex.refl g)) ?_))))));refine xH (w_var rfl (len _ _ _ _ (hy g (Ex.refl g)) ?_));refine IA ?_;rw[hl,au rfl];left;refine E6 (a8 T _) (M1 (a8 T _) ?_);refine xH (w_var rfl (len _ _ _ _ (hy g (Ex.refl g)) ?_));refine⟨_,rfl,by omega,by omega,i6 0 m.length,λi ys Z g'=>∃z w,ys=List.replicate i (.bl true)/\Z=[some y,some x,z,w]/\Ex g g',by rw[j6];exact hz,λi ys Z g' p=>⟨n5,?_⟩,⟨none,none,rfl,rfl,Ex.refl g⟩,λi z ys Z g' hz p=>?_,λys Z g' p=>?_⟩
  ·obtain⟨z,w,rfl,_⟩:=p;simp
  ·obtain⟨z,w,rfl,rfl,e⟩:=p;obtain⟨hi,rfl⟩:=t8 hz;have h1:l[i]?=some l[i]:=ai ();have h2:m[i]?=some m[i]:=ai hi;have a1:fL l (0+(i:Int))=some l[i]:=by rw[cM];exact n6 h1
   have a2:fL m (0+(i:Int))=some m[i]:=by rw[cM];exact n6 h2
   show dg _ _ _ _ _ _;refine xl (lG (yV (U9 (sv (w_var rfl (w_var rfl ⟨_,_,⟨rfl,.inl ⟨_,l,_,rfl,hx g' e,a1⟩⟩,?_⟩))))));refine U9 (sv (w_var rfl (w_var rfl ⟨_,_,⟨rfl,.inl ⟨_,m,_,rfl,hy g' e,a2⟩⟩,?_⟩)));refine zW (ih ((hs i _ _ h1 h2).ex e) λg2 e2=>?_);exact⟨_,_,by rw[List.replicate_succ'],rfl,e.trans e2⟩
  ·obtain⟨z,w,rfl,rfl,e⟩:=p;refine zO (a7 a9) (v:=true) ?_ (hQ _ (e.trans (Ex.snoc _ _)));have:List.replicate (i6 0 m.length).length (D.bl true)=(List.replicate (i6 0 m.length).length true).map D.bl:=by simp
   rw[this,Y0];simp
 intro n
 induction n with
 |zero =>
  intro k g x y Q E h hQ;have h0:=hQ g (Ex.refl g);cases h with
  |bN =>
   refine call_of h7 rfl ?_;dsimp[F4,c7,List.replicate];left;exact h0
  |bl b=>exact KZ h7 (by simpa using h0)
  |int i =>
   refine call_of h7 rfl ?_;dsimp[F4,c7,List.replicate];left
   try show wpS _ _ _ _ _ _
   left;refine gJ (c:="bool") (b:=false) ∅ rfl ?_;left;refine gJ (c:="int") (b:=true) ∅ rfl ?_;left;refine yR h6 ?_;left;simpa using h0
  |str x =>
   refine call_of h7 rfl ?_;dsimp[F4,c7,List.replicate];left
   try show wpS _ _ _ _ _ _
   left;refine gJ (c:="bool") (b:=false) ∅ rfl ?_;left;refine gJ (c:="int") (b:=false) ∅ rfl ?_;left;refine gJ (c:="str") (b:=true) ∅ rfl ?_;left;refine gJ (c:="str") (b:=true) ∅ rfl ?_;left;simpa using h0
 |succ n ih =>
  intro k g x y Q E h hQ;have h0:=hQ g (Ex.refl g);cases h with
  |bN =>
   refine call_of h7 rfl ?_;dsimp[F4,c7,List.replicate];left;exact h0
  |bl b=>exact KZ h7 (by simpa using h0)
  |int i =>
   refine call_of h7 rfl ?_;dsimp[F4,c7,List.replicate];left
   try show wpS _ _ _ _ _ _
   left;refine gJ (c:="bool") (b:=false) ∅ rfl ?_;left;refine gJ (c:="int") (b:=true) ∅ rfl ?_;left;refine yR h6 ?_;left;simpa using h0
  |str x =>
   refine call_of h7 rfl ?_;dsimp[F4,c7,List.replicate];left
   try show wpS _ _ _ _ _ _
   left;refine gJ (c:="bool") (b:=false) ∅ rfl ?_;left;refine gJ (c:="int") (b:=false) ∅ rfl ?_;left;refine gJ (c:="str") (b:=true) ∅ rfl ?_;left;refine gJ (c:="str") (b:=true) ∅ rfl ?_;left;simpa using h0
  |@tup _ l m hl hs hz =>
   refine call_of h7 rfl ?_;have body:=uT n ih (k:=k) (x:=.tup l) (y:=.tup m) (E:=E) (λ_ _=>rfl) (λ_ _=>rfl) hl hz hs hQ;dsimp[F4,c7,List.replicate];left
   try show wpS _ _ _ _ _ _
   left;refine gJ (c:="bool") (b:=false) ∅ rfl ?_;left;refine gJ (c:="int") (b:=false) ∅ rfl ?_;left;refine gJ (c:="str") (b:=false) ∅ rfl ?_;left;refine gJ (c:="tuple") (b:=true) ∅ rfl ?_;left;refine gJ (c:="tuple") (b:=true) ∅ rfl ?_;left;refine dP rfl ?_;left;refine gJ (c:="list") (b:=false) ∅ rfl ?_;left;refine gJ (c:="list") (b:=false) ∅ rfl ?_;left;refine dP rfl (q9 ?_);exact body
  |@lst _ a b l m ha hb hl hs hz =>
   refine call_of h7 rfl ?_;have body:=uT n ih (k:=k) (x:=.ref a) (y:=.ref b) (E:=E) (λg' e=>a7 (e.at ha)) (λg' e=>a7 (e.at hb)) hl hz hs hQ;have ta:∀c,sk g (.ref a) c=some (c=="list"):=λc=>by simp only[sk,ha]
   have tb:∀c,sk g (.ref b) c=some (c=="list"):=λc=>by simp only[sk,hb]
   dsimp[F4,c7,List.replicate];left
   try show wpS _ _ _ _ _ _
   left;refine gJ (c:="bool") (b:=false) ∅ (tb _) ?_;left;refine gJ (c:="int") (b:=false) ∅ (tb _) ?_;left;refine gJ (c:="str") (b:=false) ∅ (tb _) ?_;left;refine gJ (c:="tuple") (b:=false) ∅ (tb _) ?_;left;refine gJ (c:="tuple") (b:=false) ∅ (ta _) ?_;left;refine dP rfl ?_;left;refine gJ (c:="list") (b:=true) ∅ (tb _) ?_;left;refine gJ (c:="list") (b:=true) ∅ (ta _) ?_;left;refine dP rfl (q9 ?_);exact body
end
def jE(a b:List Int):Bool:=a.all λs=>b.any λm=>m==s
section
variable{T:Nat->Option aX}{d:Nat}
theorem JB(pU:T 15=some zg){a b:List Int}(ha:a.length<=1000)(h:∀g',Ex g g'->Q (.bl (jE a b)) g'):c5 T (k+1) 15 [.tup (a.map .int),.tup (b.map .int)] g Q E:=by
 refine call_of pU rfl ?_;dsimp[zg,c7,List.replicate];left;refine E6 (a8 T _) (vw (a8 T _) ?_);left;refine⟨_,rfl,_,λi ys Z g'=>∃z w,ys=((a.take i).map λs=>b.any λm=>m==s).map D.bl/\Z=[some (.tup (b.map .int)),z,w]/\g'=g,by simpa using ha,λi ys Z g' p=>⟨n5,?_⟩,⟨none,none,rfl,rfl,rfl⟩,λi x ys Z g' hx p=>?_,λys Z g' p=>?_⟩
 ·obtain⟨z,w,rfl,_⟩:=p;simp;omega
 ·obtain⟨z,w,rfl,rfl,rfl⟩:=p;rw[ak,aa] at hx;obtain⟨s,hs,rfl⟩:=hx;show dg _ _ _ _ _ _;left;refine sf (DY ?_);refine⟨_,_,?_,rfl,rfl⟩;have hi:=(aj.mp hs)
  rw[bj,hs];simp
 ·obtain⟨z,w,rfl,rfl,rfl⟩:=p;refine zO (a7 a9) (Y0 _) ?_;have e:((a.take (a.map D.int).length).map λs=>b.any λm=>m==s).all id=jE a b:=by
   rw[ae,bH];simp[jE,List.all_map]
  rw[e];exact h _ (Ex.snoc _ _)
theorem aU4(Ca:T 17=some zx){a b:List Int}(ha:a.length<=1000)(h:∀g',Ex g g'->Q (.bl (jE a b)) g'):c5 T (k+1) 17 [.tup (a.map .int),.tup (b.map .int)] g Q E:=by
 refine call_of Ca rfl ?_;dsimp[zx,c7,List.replicate];left;refine E6 (a8 T _) (vw (a8 T _) ?_);left;refine⟨_,rfl,_,λi ys Z g'=>∃z w,ys=((a.take i).filter λs=>!(b.any λm=>m==s)).map D.int/\ys.length<=i/\Z=[some (.tup (b.map .int)),z,w]/\g'=g,by simpa using ha,λi ys Z g' p=>⟨n5,?_⟩,⟨none,none,rfl,by simp,rfl,rfl⟩,λi x ys Z g' hx p=>?_,λys Z g' p=>?_⟩
 ·obtain⟨z,w,_,h1,_⟩:=p;exact h1
 ·obtain⟨z,w,e,hl,rfl,rfl⟩:=p;rw[ak,aa] at hx;obtain⟨s,hs,rfl⟩:=hx;show dg _ _ _ _ _ _;left;refine X9 (DY ?_);left;cases hc:(b.any λm=>m==s) with
  |true =>
   refine pe ⟨_,_,?_,by omega,rfl,rfl⟩;rw[bj,hs,e];simp[hc]
  |false =>
   refine lG (w_var rfl ⟨_,_,?_,by simp;omega,rfl,rfl⟩);rw[bj,hs,e];simp[hc]
 ·obtain⟨z,w,e,hl,rfl,rfl⟩:=p;rw[ae,bH] at e;refine y9 (a7 a9) ?_;left;have e2:decide ((ys.length:Int)=0)=jE a b:=by
   rw[e,ae,aU,dH];unfold jE;rw[cz];constructor
   ·intro h0 s hs;have h1:(a.filter λs=>!(b.any λm=>m==s))=[]:=dF ();rw[iJ] at h1;have:=h1 s hs;simpa using this
   ·intro h0;have h1:(a.filter λs=>!(b.any λm=>m==s))=[]:=by
     rw[iJ];intro s hs;simpa using h0 s hs
    rw[h1]
    rfl
  rw[e2];exact h _ (Ex.snoc _ _)
theorem UY{x:Str}{kb:Bool->Prop}(hx:PyData.strOk x=true)(h:kb (decide (x="lower")||decide (x="upper"))):qP g (.str x) (.tup [.str "lower",.str "upper"]) kb:=by
 refine⟨_,.inr ⟨_,[.str "lower",.str "upper"],.str x,rfl,rfl,rfl,by simp only[PyData.canLayAll0,PyData.canLay0,Bool.and_true];decide +kernel,by simp only[PyData.canLay0];exact hx,rfl⟩,?_⟩;have e:∀y:Str,PyData.eqv (.str y) (.str x)=decide (x=y):=λy=>by
  simp only[PyData.eqv];rw[aU,ff,dH];exact eq_comm
 simp only[List.any_cons,List.any_nil,Bool.or_false,e];exact h
theorem aB1(PH:T 40=some T9){x:Str}(ho:PyData.strOk x=true)(h1:x="lower"\/x="upper"->Q .bN g)(h3:x≠"lower"->x≠"upper"->E ⟨"BadSide"⟩ g):c5 T (k+1) 40 [.str x] g Q E:=by
 refine call_of PH rfl ?_;dsimp[T9,c7,List.replicate];left;refine X9 (UY ho ?_);left;by_cases e:x="lower"\/x="upper"
 ·refine dP (by rw[Bool.not_eq_false',dk,dH,dH];exact e) ?_;left;exact h1 e
 ·refine fj (by rw[fE,Bool.or_eq_false_iff,bG,bG];exact not_or.mp e) ?_;left;exact h3 (λz=>e (.inl z)) (λz=>e (.inr z))
theorem K0(lL:FN T){x:Str}(ho:PyData.strOk x=true)(h1:x="lower"->Q (.int 0) g)(h2:x="upper"->Q (.int 2) g)(h3:x≠"lower"->x≠"upper"->E ⟨"BadSide"⟩ g):c5 T (k+2) 19 [.str x] g Q E:=by
 refine call_of lL.1 rfl ?_;dsimp[Ec,c7,List.replicate];left;refine aB1 lL.2 ho (λhx=>?_) h3;left;by_cases e1:x="lower"
 ·have el:Q4 [.tup [.str "lower",.int 0],.tup [.str "upper",.int 2]] x=some (.int 0):=by simp[Q4,e1]
  refine IG el ?_;exact h1 e1
 ·have e2:x="upper":=hx.resolve_left e1;have el:Q4 [.tup [.str "lower",.int 0],.tup [.str "upper",.int 2]] x=some (.int 2):=by simp[Q4,e1];simp[e2]
  refine IG el ?_;exact h2 e2
def CB(c:b7):Prop:=c.lm.length<=8/\c.um.length<=8
theorem Kr(h1:NF T)(h2:T 2=some K8)(tM:T 12=some E2)(wx:MU T)(ha:g[a]?=some (.lst (cs.map b7.d)))(hz:cs.length<=1000)(hm:9<cs.length->E ⟨"TooMany"⟩ g)(hb:cs.length<=9->cs.all v9=false->E ⟨"BadCoin"⟩ g)(h:cs.length<=9->cs.all v9=true->Q .bN g):c5 T (k+6) 18 [.ref a] g Q E:=by
 refine call_of wx.1 rfl ?_;dsimp[Y8,c7,List.replicate];left;rw[ae];refine if2 (λc=>?_) (λc=>?_)
 ·left;exact hm ()
 have h9:cs.length<=9:=by omega
 left;refine p6 (a8 T _) (kO (a8 T _) ?_);left;refine⟨a,_,rfl,a7 ha,cs.map b7.d,λi Z g'=>∃z,Z=[some (.ref a),z]/\g'=g/\(cs.take i).all v9=true,λi Z g' p=>?_,⟨none,rfl,rfl,by simp⟩,λi x Z g' hx p=>?_,λZ g' p=>?_⟩
 ·obtain⟨z,rfl,rfl,_⟩:=p;exact m7 (a7 ha)
 ·obtain⟨z,rfl,rfl,hg⟩:=p;rw[ak,aa] at hx;obtain⟨c,hc,rfl⟩:=hx;refine f7 ?_
  try show wpS _ _ _ _ _ _
  left;refine call_of wx.2 rfl ?_;dsimp[Eo,c7,List.replicate];left;refine aH8 h1 h2 tM ?_;left;cases e:v9 c with
  |true =>
   left;refine⟨_,rfl,rfl,?_⟩;rw[bj,hc];simp[hg,e]
  |false =>
   refine Jg ?_;left;refine hb h9 ?_;rw[List.all_eq_false];exact⟨c,aC hc,by rw[e];decide⟩
 ·obtain⟨z,rfl,rfl,hg⟩:=p;rw[ae,bH] at hg;exact h h9 hg
end
def C5(f:Int)(c:b7):Int:=if f=0 then c.lo else c.up
def so(f:Int)(c:b7):List Int:=if f=0 then c.lm else c.um
theorem CB.NW{c:b7}(h:CB c)(f:Int):(so f c).length<=1000:=by
 unfold so;split
 ·have:=h.1;omega
 ·have:=h.2;omega
theorem O7(hf:f=0\/f=2)(c:b7):fL [D.int c.lo,D.tup (c.lm.map .int),D.int c.up,D.tup (c.um.map .int),D.int c.yr] f=some (.int (C5 f c)):=by
 rcases hf with rfl|rfl<;>rfl
theorem Mv(hf:f=0\/f=2)(c:b7):fL [D.int c.lo,D.tup (c.lm.map .int),D.int c.up,D.tup (c.um.map .int),D.int c.yr] (f+1)=some (.tup ((so f c).map .int)):=by
 rcases hf with rfl|rfl<;>rfl
theorem a28(ha:g[a]?=some (.lst l))(hb:g[b]?=some (.lst l))(h:∀x∈l,(∃i,x=.int i)\/∃y,x=.str y)(hz:l.length<=1000):E5 g 1 (.ref a) (.ref b):=by
 refine .lst ha hb rfl (λi x y hx hy=>?_) hz;rw[hx] at hy;cases hy;rcases h x (aC hx) with⟨j,rfl⟩|⟨y,rfl⟩
 ·exact .int _
 ·exact .str _
def cD:b7:=⟨0,[],0,[],0⟩
noncomputable abbrev bS(cs:List b7)(i:Nat):b7:=cs.getD i cD
theorem F0{c:b7}(h:cs[i]?=some c):bS cs i=c:=by simp[bS,List.getD,h]
inductive RW where
 |fR|lower|upper
def RW.s:RW->Str
 |.fR=>"coin"
 |.lower=>"lower"
 |.upper=>"upper"
structure eK where
 w:RW
 x:Int
 y:Int
def eK.d(r:eK):D:=.tup [.str r.w.s,.int r.x,.int r.y]
def meant(cs:List b7)(w:RW)(x:Int)(i:Nat):Bool:=match w with
 |.fR=>decide ((i:Int)=x)
 |.lower=>decide ((bS cs i).lo=x)
 |.upper=>decide ((bS cs i).up=x)
def jG(cs:List b7)(w:RW)(x:Int):List Nat:=(List.range cs.length).filter (meant cs w x)
def b9(l:List Nat):List D:=l.map λ(i:Nat)=>D.int i
def pJ(l:List Nat):Nat:=(l.map (2 ^ ·)).sum
def iO(n:Nat)(p:Nat->Bool):Nat:=pJ ((List.range n).filter p)
theorem Me(n:Nat)(p:Nat->Bool):iO (n+1) p=iO n p+if p n=true then 2 ^ n else 0:=by
 unfold iO pJ;rw[dR,dN,cC,List.sum_append]
 congr 1
 cases h:p n<;>simp[List.filter_cons,h]
theorem RT(n:Nat)(p:Nat->Bool):iO n p<2 ^ n:=by
 induction n with
 |zero=>simp[iO,pJ]
 |succ n ih =>
  rw[Me,uE];split<;>omega
theorem Lw(n:Nat)(p:Nat->Bool)(i:Nat):(iO n p).testBit i=(decide (i<n)&&p i):=by
 induction n with
 |zero=>simp[iO,pJ]
 |succ n ih =>
  have hl:=RT n p;rw[Me];by_cases hp:p n=true
  ·rw[aJ hp,Nat.add_comm];rcases dn i n with h|h|h
   ·rw[Nat.testBit_two_pow_add_gt h,ih,au h,au ()]
   ·subst h;rw[Nat.testBit_two_pow_add_eq,ih];simp[hp]
   ·rw[Nat.testBit_lt_two_pow (aA (show 2 ^ n+iO n p<2 ^ (n+1) by rw[uE];omega) (fW () h)),av ()]
    rfl
  ·rw[aF hp,Nat.add_zero,ih];by_cases h:i=n
   ·subst h;simp[hp]
   ·rw[show decide (i<n)=decide (i<n+1) from fN.mpr ()]
theorem Dg(a b:Nat):Builtin.bitAnd (a:Int) (b:Int)=((a &&& b:Nat):Int):=by
 unfold Builtin.bitAnd;rw[au (Na a),au (Na b)];simp
theorem QW(a b:Nat):Builtin.bitOr (a:Int) (b:Int)=((a |||b:Nat):Int):=by
 unfold Builtin.bitOr Builtin.bitAnd;have h1:∀x:Nat,decide (0<=Builtin.bitNot (x:Int))=false:=λx=>by unfold Builtin.bitNot;exact av ()
 have h2:∀x:Nat,Builtin.bitNot (Builtin.bitNot (x:Int))=x:=λx=>by unfold Builtin.bitNot;omega
 rw[h1,h1];simp only[h2];simp
theorem Zb(a b:Nat):((a &&& b:Nat)≠0)↔∃i,a.testBit i=true/\b.testBit i=true:=by
 constructor
 ·intro h;obtain⟨i,hi⟩:=Nat.exists_testBit_of_ne_zero h;rw[Nat.testBit_and,aS] at hi;exact⟨i,hi⟩
 ·rintro⟨i,h1,h2⟩ e;have:(a &&& b).testBit i=true:=by rw[Nat.testBit_and,h1,h2];rfl
  rw[e,Nat.zero_testBit] at this;cases this
theorem yX(s n:Nat)(p:Nat->Bool):((((s &&& iO n p:Nat):Int) != 0)=(List.range n).any λi=>s.testBit i&&p i):=by
 rw[aU,bne_iff_ne,aV];have:(((s &&& iO n p:Nat):Int)≠0)↔((s &&& iO n p:Nat)≠0):=by omega
 rw[this,Zb];constructor
 ·rintro⟨i,h1,h2⟩;rw[Lw,aS,cq] at h2;exact⟨i,aN.mpr h2.1,by rw[h1,h2.2];rfl⟩
 ·rintro⟨i,h1,h2⟩;rw[aS] at h2;exact⟨i,h2.1,by rw[Lw,au (aN.mp h1),h2.2];rfl⟩
def mw(a b:b7):Bool:=(decide (a.lo=b.lo)&&!jE a.lm b.lm)||(decide (a.up=b.up)&&!jE a.um b.um)
def kD(a b:b7):Bool:=decide (0<b.yr)&&decide (b.yr<a.yr)
def L8(cs:List b7)(S:Nat->Bool)(p:Nat):Bool:=(List.range cs.length).any λi=>S i&&mw (bS cs i) (bS cs p)
def L1(cs:List b7)(S:Nat->Bool)(p:Nat):Bool:=(List.range cs.length).any λi=>S i&&kD (bS cs i) (bS cs p)
def pz(cs:List b7)(S:Nat->Bool)(p:Nat)(d:Int):Bool :=
 ((List.range cs.length).any λi=>(S i||decide (i=p))&&decide ((bS cs i).lo=d))&&((List.range cs.length).any λi=>!S i&&decide ((bS cs i).lo=d))
def tZ(cs:List b7)(S:Nat->Bool)(p:Nat):Nat:=((p8 (cs.map b7.lo)).filter (pz cs S p)).length
def T5(cs:List b7)(rs:List eK)(S:Nat->Bool)(p:Nat):Bool:=rs.all λr=>!meant cs r.w r.y p||(List.range cs.length).any λi=>S i&&meant cs r.w r.x i
def fault(cs:List b7)(v:Int)(rs:List eK)(S:Nat->Bool)(p:Nat):Str :=
 if L8 cs S p=true then "wear" else if L1 cs S p=true then "year" else if v<tZ cs S p then "anvil" else if T5 cs rs S p=true then "" else "rule"
def tN(x:Str):D:=if x="" then .bN else .str x
theorem Kb{S S':Nat->Bool}(h:∀i,i<cs.length->S i=S' i):fault cs v rs S p=fault cs v rs S' p:=by
 have a:∀f:Nat->Bool->Bool,((List.range cs.length).any λi=>f i (S i))=(List.range cs.length).any λi=>f i (S' i):=λf=>by
  rw[aU,aV,aV];constructor
  ·rintro⟨i,h1,h2⟩;exact⟨i,h1,by rw[<- h i (aN.mp h1)];exact h2⟩
  ·rintro⟨i,h1,h2⟩;exact⟨i,h1,by rw[h i (aN.mp h1)];exact h2⟩
 have b1:L8 cs S p=L8 cs S' p:=a λi t=>t&&mw (bS cs i) (bS cs p);have b2:L1 cs S p=L1 cs S' p:=a λi t=>t&&kD (bS cs i) (bS cs p);have b3:pz cs S p=pz cs S' p:=by
  funext d
  unfold pz;rw[a λi t=>(t||decide (i=p))&&decide ((bS cs i).lo=d),a λi t=>!t&&decide ((bS cs i).lo=d)]
 have b4:T5 cs rs S p=T5 cs rs S' p:=by
  unfold T5
  congr 1
  funext r
  rw[a λi t=>t&&meant cs r.w r.x i]
 unfold fault tZ;rw[b1,b2,b3,b4]
def X3:aX:=⟨3,4,(.seq (.ifs (.dE (.fm (.call 38 (eT bc)))) (.seq (.ret (.prim .lst .nil)) .pass) .pass) (.seq (.ifs (cY .Eq aT (gb "coin")) (.seq (.ret (.comp [2] 3 (.one 2) (.dW (cJ .len aI)) (cY .Eq bc aI) bc)) .pass) .pass) (.seq (.set 3 (.call 19 (eT aT))) (.seq (.ret (.comp [3,2] 5 (.many [3,4]) (.kG aI) (cY .Eq (cB bE aI) aT) bp)) .pass))))⟩
def Du:aX:=⟨2,3,(.seq (.expr (.call 18 (eT aI))) (.seq (.set 2 (.call 19 (eT aT))) (.seq (.ret (.ia [2] 3 (.one 2) (.fe aI) .no (cB bc aI))) .pass)))⟩
def Ed:aX:=⟨2,5,(.seq (.lY (.many [2,3,4]) aT) (.seq (.ifs (.jH (cY .NotIn bc (.lit (.tup [(.str "coin"),(.str "lower"),(.str "upper")]))) (cY .Eq bp bE)) (.seq (.ret (.lit (.bl false))) .pass) .pass) (.seq (.ret (.cQ (br (.cmp .NotEq) (.call 74 (gO aI bc bp)) (.prim .lst .nil)) (br (.cmp .NotEq) (.call 74 (gO aI bc bE)) (.prim .lst .nil)))) .pass)))⟩
def Y7:aX:=⟨2,4,(.seq (.dw (.many [2,3]) (.kG aT) (.seq (.ifs (.dE (.fm (.call 88 (cW aI bp)))) (.seq (.raise "BadRule" (eT (.prim .mx (gO (gb "rule ") (cJ .fv bc) (gb " is none for these coins"))))) .pass) .pass) .pass)) .pass)⟩
def zy:aX:=⟨1,1,(.seq (.ret (cJ .sum (.comp [] 2 (.one 1) (.fe aI) .no (br (.bin .LShift) (aY 1) aT)))) .pass)⟩
def X2:aX:=⟨2,2,(.seq (.ret (br (.bin .BitOr) aI (br (.bin .LShift) (aY 1) aT))) .pass)⟩
def Ef:aX:=⟨2,4,(.seq (.dw (.one 2) (.fe (.lit (.tup [(.str "lower"),(.str "upper")]))) (.seq (.set 3 (.call 19 (eT bc))) (.seq (.ifs (.cQ (cY .Eq (cB aI bp) (cB aT bp)) (.dE (.fm (.call 15 (cW (cB aI (br (.bin .Add) bp (aY 1))) (cB aT (br (.bin .Add) bp (aY 1)))))))) (.seq (.ret (.lit (.bl true))) .pass) .pass) .pass))) (.seq (.ret (.lit (.bl false))) .pass))⟩
def Fg:aX:=⟨2,2,(.seq (.ret (.chain .Lt .Lt (aY 0) (cB aT (aY 4)) (cB aI (aY 4)))) .pass)⟩
def Y5:aX:=⟨1,1,(.seq (.ret (.comp [0] 3 (.one 2) (.fe aI) .no (.call 90 (eT (.comp [2] 4 (.many [2,3]) (.kG aI) (.fm (.call 92 (cW bp aI))) bc))))) .pass)⟩
def V9:aX:=⟨1,1,(.seq (.ret (.comp [0] 3 (.one 2) (.fe aI) .no (.call 90 (eT (.comp [2] 4 (.many [2,3]) (.kG aI) (.fm (.call 93 (cW bp aI))) bc))))) .pass)⟩
def Ep:aX:=⟨1,1,(.seq (.ret (.comp [0] 3 (.one 2) (.fe (.call 20 (cW aI (gb "lower")))) .no (.call 90 (eT (.call 74 (gO aI (gb "lower") bc)))))) .pass)⟩
def S5:aX:=⟨2,8,(.seq (.set 2 (.comp [] 2 (.one 1) (.fe aI) .no (.prim .lst .nil))) (.seq (.dw (.many [3,4,5]) (.fe aT) (.seq (.set 6 (.call 90 (eT (.call 74 (gO aI bp bE))))) (.seq (.dw (.one 7) (.fe (.call 74 (gO aI bp cN))) (.seq (.ifs (cY .NotIn dZ (cB bc eZ)) (.seq (.expr (.dU .append (cB bc eZ) (eT dZ))) .pass) .pass) .pass)) .pass))) (.seq (.ret bc) .pass)))⟩
def Q3:aX:=⟨3,3,(.seq (.expr (.call 18 (eT aI))) (.seq (.expr (.call 42 (eT aT))) (.seq (.expr (.call 89 (cW aI bc))) .pass)))⟩
def Eb:aX:=⟨3,3,(.seq (.expr (.call 98 (gO aI aT bc))) (.seq (.ret (.make "Bounds" 113 (gO aI aT bc))) .pass))⟩
def Er:aX:=⟨3,5,(.seq (.set 3 (.call 91 (cW aT bc))) (.seq (.set 4 (br (.bin .Sub) (cJ (.fld "full") aI) aT)) (.seq (.ret (cJ .len (.comp [4,3] 4 (.one 3) (.fe (cJ (.fld "lower_dies") aI)) (.cQ (.fm (br (.bin .BitAnd) bp aT)) (.fm (br (.bin .BitAnd) bp aI))) bp))) .pass)))⟩
def Eu:aX:=⟨3,3,(.seq (.ifs (.fm (br (.bin .BitAnd) aT (cB (cJ (.fld "worn_by_place") aI) bc))) (.seq (.ret (gb "wear")) .pass) .pass) (.seq (.ifs (.fm (br (.bin .BitAnd) aT (cB (cJ (.fld "later_by_place") aI) bc))) (.seq (.ret (gb "year")) .pass) .pass) (.seq (.ifs (cY .Gt (.call 100 (gO aI aT bc)) (cJ (.fld "room") aI)) (.seq (.ret (gb "anvil")) .pass) .pass) (.seq (.ifs (.dE (.fm (cJ .all (.comp [1] 3 (.one 2) (.fe (cB (cJ (.fld "needed_by_place") aI) bc)) .no (br (.bin .BitAnd) aI bc))))) (.seq (.ret (gb "rule")) .pass) .pass) (.seq (.ret (.lit .bN)) .pass)))))⟩
def Y9:aX:=⟨4,4,(.seq (.iP "size" ["Bounds"] aI (cJ .len aT)) (.seq (.iP "full" ["Bounds"] aI (br (.bin .Sub) (br (.bin .LShift) (aY 1) (cJ .len aT)) (aY 1))) (.seq (.iP "room" ["Bounds"] aI bc) (.seq (.iP "worn_by_place" ["Bounds"] aI (.call 94 (eT aT))) (.seq (.iP "later_by_place" ["Bounds"] aI (.call 95 (eT aT))) (.seq (.iP "lower_dies" ["Bounds"] aI (.call 96 (eT aT))) (.seq (.iP "needed_by_place" ["Bounds"] aI (.call 97 (cW aT bp))) .pass)))))))⟩
section
variable{Z:S}{c:ME}
theorem A9(hP:j4 P)(Sh:S->Prop)(p:Nat->Bool)(w:Nat->D){k:IK}(hk:∀g',Ex g g'->k.Is l g')(hl:l.length<=1000)(h0:Sh (F6 Z d4 n))(hs:∀i d Z g',l[i]?=some d->Ex g g'->Sh Z->jF t d Z λcA=>dg P c cA g' (λb g3=>b=p i/\Ex g g3/\if b=true then aW P elt cA g3 (λy g4=>y=w i/\Ex g g4/\Sh cA) iX else Sh cA) iX)(hd:∀g',Ex g g'->Q (.ref g'.length) (g'++[.lst (((List.range l.length).filter p).map w)]))(hi:∀R:IK->G->Prop,R k g->gS P it Z g R E):aW P (.comp d4 n t it c elt) Z g Q E:=by
 refine E6 hP (hi _ ?_);refine⟨l,λi ys Z g'=>Ex g g'/\ys=((List.range i).filter p).map w/\Sh Z,hl,λi ys Z g' q=>⟨hk _ q.1,?_⟩,⟨Ex.refl _,rfl,h0⟩,λi x ys Z g' hx q=>?_,λys Z g' q=>?_⟩
 ·obtain⟨_,rfl,_⟩:=q;rw[ae];exact aB (bP _ _) (by simp)
 ·obtain⟨e1,rfl,sh⟩:=q;refine x6 (λcA q=>q8 hP c _ _ _ _ _ _ (λb g3 q=>?_) (λ_ _ z=>z) q) (hs i x Z g' hx e1 sh);obtain⟨rfl,e3,q⟩:=q;have ef:((List.range (i+1)).filter p).map w=((List.range i).filter p).map w++if p i=true then[w i] else[]:=by
   rw[dR,dN,cC]
   congr 1
   cases z:p i<;>simp only[List.filter_cons,z,List.filter_nil]<;>rfl
  cases hp:p i with
  |true =>
   rw[hp] at q ef;rw[aJ rfl] at q ⊢;refine c6 hP elt _ _ _ _ _ _ (λy g4 q=>?_) (λ_ _ z=>z) q;obtain⟨rfl,e4,sh⟩:=q;exact⟨e4,by rw[ef];rfl,sh⟩
  |false =>
   rw[hp] at q ef;rw[aF ∅] at q ⊢;exact⟨e3,by rw[ef];simp,q⟩
 ·obtain⟨e1,rfl,sh⟩:=q;exact hd g' e1
theorem comp_map(hP:j4 P)(Sh:S->Prop)(w:Nat->D){k:IK}(hk:∀g',Ex g g'->k.Is l g')(hl:l.length<=1000)(h0:Sh (F6 Z d4 n))(hs:∀i d Z g',l[i]?=some d->Ex g g'->Sh Z->jF t d Z λcA=>aW P elt cA g' (λy g4=>y=w i/\Ex g g4/\Sh cA) iX)(hd:∀g',Ex g g'->Q (.ref g'.length) (g'++[.lst ((List.range l.length).map w)]))(hi:∀R:IK->G->Prop,R k g->gS P it Z g R E):aW P (.comp d4 n t it .no elt) Z g Q E:=by
 refine A9 hP Sh (λ_=>true) w hk hl h0 (λi d Z g' hx e sh=>x6 (λcA q=>xl ⟨rfl,e,?_⟩) (hs i d Z g' hx e sh)) (λg' e=>?_) hi
 ·exact lG q
 ·have:=hd g' e
  rwa [show(List.range l.length).filter (λ_=>true)=List.range l.length from jP.mpr λ_ _=>rfl]
theorem O3(hP:j4 P){o:ME}(hl:d0 g a=some l)(h:∀Q:KD,Q (.ref a) g->aW P o Z g Q E):∀R:IK->G->Prop,R (.lst a) g->gS P (.fe o) Z g R E:=λR r=>kO hP (h _ ⟨a,l,rfl,hl,r⟩)
theorem Dc{o:ME}(hl:d0 g a=some l)(h:∀Q:KD,Q (.ref a) g->aW P o Z g Q E):∀R:IK->G->Prop,R (.oU a) g->gS P (.kG o) Z g R E:=λR r=>vx (h _ ⟨a,l,rfl,hl,r⟩)
theorem xD(hP:j4 P){o:ME}(hj:j<=1000)(h:∀Q:KD,Q (.int (j:Nat)) g->aW P o Z g Q E):∀R:IK->G->Prop,R (.fix (i6 0 j)) g->gS P (.dW o) Z g R E:=λR r=>M1 hP (h _ ⟨j,rfl,by omega,by omega,by simpa using r⟩)
end
theorem zr(l:List Nat):b9 l=(l.map λ(i:Nat)=>(i:Int)).map D.int:=by simp[b9]
structure TB0(T:Nat->Option aX):Prop where
 nf:NF T
 h2:T 2=some K8
 tM:T 12=some E2
 wx:MU T
 lL:FN T
 pU:T 15=some zg
 PQ:T 20=some Du
 rB:T 74=some X3
 Pw:T 88=some Ed
 Pu:T 89=some Y7
 tL:T 90=some zy
 mO:T 91=some X2
 Pt:T 92=some Ef
 Pq:T 93=some Fg
 Pp:T 94=some Y5
 Po:T 95=some V9
 Pn:T 96=some Ep
 Pm:T 97=some S5
 Co:T 100=some Er
 Cn:T 101=some Eu
 Cf:T 113=some Y9
structure TB(T:Nat->Option aX):Prop extends TB0 T where
 wo:T 42=some J5
 BY:T 98=some Q3
 Pl:T 99=some Eb
instance{T:Nat->Option aX}:CoeOut (TB T) (TB0 T):=⟨TB.toTB0⟩
section
variable{T:Nat->Option aX}{d:Nat}
theorem ZQ(h1:NF T)(wo:T 42=some J5){i:Int}(h:1<=i->i<=9->Q .bN g)(hn:¬(1<=i/\i<=9)->E ⟨"BadAnvils"⟩ g):c5 T (k+3) 42 [.int i] g Q E:=by
 refine call_of wo rfl ?_;dsimp[J5,c7,List.replicate];left;refine x8 (k:=k) h1 ?_;left;by_cases hi:1<=i/\i<=9
 ·rw[au hi.1,au hi.2];left;exact h hi.1 hi.2
 ·have:(decide (1<=i)&&decide (i<=9))=false:=by
   rw[xY,bG,bG];omega
  rw[this];left;exact hn hi
theorem Q8(h1:NF T)(lL:FN T)(rB:T 74=some X3){x:Int}(ha:g[a]?=some (.lst (cs.map b7.d)))(hz:cs.length<=1000)(h:∀g' b,Ex g g'->g.length<=b->g'[b]?=some (.lst (b9 (jG cs w x)))->Q (.ref b) g'):c5 T (k+3) 74 [.ref a,.str w.s,.int x] g Q E:=by
 refine call_of rB rfl ?_;dsimp[X3,c7,List.replicate];left;refine Kk (k:=k+1) h1 ?_;left;have fld:∀f:Int,(f=0\/f=2)->(∀i c,cs[i]?=some c->meant cs w x i=decide (C5 f c=x))->aW (c5 T (k+2)) (.comp [3,2] 5 (.many [3,4]) (.kG (.var 0)) (.fm (.prim (.cmp .Eq) (.cons (.prim .ix (.cons (.var 4) (.cons (.var 0) .nil))) (.cons (.var 1) .nil)))) (.var 3)) [some (.ref a),some (.str w.s),some (.int x),some (.int f)] g Q E:=λf hf hm=>by
  refine A9 (a8 T _) (λZ=>∃z2 z3 z4,Z=[some (.int f),some (.int x),z2,z3,z4]) (meant cs w x) (λi=>.int (i:Nat)) (l:=lM (cs.map b7.d)) (λg' e=>ux (a7 (e.at ha))) (by rw[L4];simpa using hz) ⟨none,none,none,rfl⟩ (λi d Z g' hx e sh=>?_) (λg' e=>?_) (Dc (a7 ha) λQ q=>w_var (d:=.ref a) rfl q)
  ·obtain⟨z2,z3,z4,rfl⟩:=sh;obtain⟨dd,hd,rfl⟩:=U7 hx;rw[ak,aa] at hd;obtain⟨c,hc,rfl⟩:=hd;refine B4 rfl ?_
   try show dg _ _ _ _ _ _
   left;refine x3 (O7 hf c) ?_;left;rw[hm i c hc];refine⟨rfl,e,?_⟩;refine if2 (λ_=>?_) (λ_=>?_)
   ·left;exact⟨rfl,e,_,_,_,rfl⟩
   ·exact⟨_,_,_,rfl⟩
  ·rw[L4,ae];exact h _ _ (e.trans (Ex.snoc _ _)) e.len a9
 cases w with
 |fR =>
  refine fj (by decide +kernel) ?_;left;refine A9 (a8 T _) (λZ=>∃z1 z2,Z=[some (.int x),z1,z2]) (meant cs .fR x) (λi=>.int (i:Nat)) (l:=i6 0 cs.length) (λg' e=>n5) (by rw[j6];exact hz) ⟨none,none,rfl⟩ (λi d Z g' hx e sh=>?_) (λg' e=>?_) (xD (a8 T _) hz λQ q=>?_)
  ·obtain⟨z2,z3,rfl⟩:=sh;obtain⟨hi,rfl⟩:=t8 hx;rw[cM];refine f7 ?_
   try show dg _ _ _ _ _ _
   left;refine⟨rfl,e,?_⟩;refine if2 (λ_=>?_) (λ_=>?_)
   ·left;exact⟨rfl,e,_,_,rfl⟩
   ·exact⟨_,_,rfl⟩
  ·rw[j6];exact h _ _ (e.trans (Ex.snoc _ _)) e.len a9
  ·left;rw[ae];exact q
 |lower =>
  refine dP (by decide +kernel) ?_;left;refine K0 (k:=k) lL (by decide +kernel) (λ_=>?_) (λz=>absurd z (by decide +kernel)) (λz=>absurd rfl z);left;exact fld 0 (.inl rfl) λi c hc=>by simp only[meant,F0 hc];rfl
 |upper =>
  refine dP (by decide +kernel) ?_;left;refine K0 (k:=k) lL (by decide +kernel) (λz=>absurd z (by decide +kernel)) (λ_=>?_) (λ_ z=>absurd rfl z);left;exact fld 2 (.inr rfl) λi c hc=>by simp only[meant,F0 hc];rfl
theorem P9(tL:T 90=some zy){l:List Nat}(ha:g[a]?=some (.lst (b9 l)))(hz:l.length<=1000)(hl:∀i∈l,i<=1000)(h:∀g',Ex g g'->Q (.int (pJ l:Nat)) g'):c5 T (k+1) 90 [.ref a] g Q E:=by
 refine call_of tL rfl ?_;dsimp[zy,c7,List.replicate];left;refine comp_map (a8 T _) (λZ=>∃z0 z1,Z=[z0,z1]) (λi=>.int ((2 ^ (l.getD i 0):Nat):Int)) (l:=b9 l) (k:=.lst a) (λg' e=>m7 (a7 (e.at ha))) (by simpa[b9] using hz) ⟨none,none,rfl⟩ (λi d Z g' hx e sh=>?_) (λg' e=>?_) (O3 (a8 T _) (a7 ha) λQ q=>w_var (d:=.ref a) rfl q)
 ·obtain⟨z0,z1,rfl⟩:=sh;rw[b9,ak,aa] at hx;obtain⟨j,hj,rfl⟩:=hx;refine f7 ?_
  try show aW _ _ _ _ _ _
  left;have:=hl j (aC hj);refine Ez ⟨by omega,by omega,by decide⟩ ?_;refine⟨?_,e,_,_,rfl⟩;simp[List.getD,hj]
 ·refine EL (ns:=(List.range l.length).map λi=>((2 ^ (l.getD i 0):Nat):Int)) (a7 (by rw[bz];simpa[b9] using a9)) ?_;have:((List.range l.length).map λi=>((2 ^ (l.getD i 0):Nat):Int)).sum=(pJ l:Nat):=by
   have e2:(List.range l.length).map (λi=>((2 ^ (l.getD i 0):Nat):Int))=(l.map (2 ^ ·)).map λ(n:Nat)=>(n:Int):=by
    refine cR λi=>?_;rw[ak,ak,ak];by_cases hi:i<l.length
    ·rw[bO hi,ai hi];simp[List.getD,hi]
    ·rw[aM (by simpa using hi),aM ()]
     rfl
   rw[e2];unfold pJ;generalize l.map (2 ^ ·)=m
   induction m with
   |nil=>rfl
   |cons x r ih=>simp[ih]
  rw[this];exact h _ (e.trans (Ex.snoc _ _))
theorem u6(mO:T 91=some X2){s:Nat}(hp:p<=1000)(h:Q (.int ((s |||2 ^ p:Nat):Int)) g):c5 T (k+1) 91 [.int (s:Nat),.int (p:Nat)] g Q E:=by
 refine call_of mO rfl ?_;dsimp[X2,c7,List.replicate];left;refine Ez ⟨by omega,by omega,by decide⟩ ?_;left;refine VC ?_;have e:(1:Int)*2 ^ ((p:Nat):Int).toNat=((2 ^ p:Nat):Int):=by simp
 rw[e,QW];exact h
end
section
variable{T:Nat->Option aX}{d:Nat}
theorem KH{c:b7}(h:CB c):c.lm.length<=1000/\c.um.length<=1000:=⟨aB h.1 ∅,aB h.2 ∅⟩
theorem aG1(hT:TB0 T){c e:b7}(hc:CB c)(h:∀g',Ex g g'->Q (.bl (mw c e)) g'):c5 T (k+3) 92 [c.d,e.d] g Q E:=by
 refine call_of hT.Pt rfl ?_;dsimp[Ef,c7,List.replicate];left;refine p6 (a8 T _) (vw (a8 T _) ?_);left;refine⟨_,rfl,_,λi Z g'=>Ex g g'/\(∃z2 z3,Z=[some c.d,some e.d,z2,z3])/\(1<=i->(decide (c.lo=e.lo)&&!jE c.lm e.lm)=false)/\(2<=i->(decide (c.up=e.up)&&!jE c.um e.um)=false),λ_ _ _ _=>n5,⟨Ex.refl _,⟨none,none,rfl⟩,λz=>absurd z (),λz=>absurd z ()⟩,λi x Z g' hx q=>?_,λZ g' q=>?_⟩
 ·obtain⟨e1,⟨z2,z3,rfl⟩,q1,q2⟩:=q;refine f7 ?_
  try show wpS _ _ _ _ _ _
  match i,hx with
  |0,hx =>
   cases hx;left;refine K0 (k:=k) hT.lL (by decide +kernel) (λ_=>?_) (λz=>absurd z (by decide +kernel)) (λz=>absurd rfl z);left;refine x3 (l:=[.int c.lo,.tup (c.lm.map .int),.int c.up,.tup (c.um.map .int),.int c.yr]) rfl ?_;left;refine x3 (l:=[.int e.lo,.tup (e.lm.map .int),.int e.up,.tup (e.um.map .int),.int e.yr]) rfl ?_;left;refine if2 (λh1=>?_) (λh1=>?_)
   ·left;refine x3 (l:=[.int c.lo,.tup (c.lm.map .int),.int c.up,.tup (c.um.map .int),.int c.yr]) rfl ?_;left;refine x3 (l:=[.int e.lo,.tup (e.lm.map .int),.int e.up,.tup (e.um.map .int),.int e.yr]) rfl ?_;left;refine JB (k:=k+1) hT.pU (KH hc).1 λg2 e2=>?_;left;cases hw:jE c.lm e.lm with
    |false =>
     left;have:mw c e=true:=by unfold mw;rw[au h1,hw];rfl
     rw[<- this];exact h _ (e1.trans e2)
    |true =>
     left;exact⟨e1.trans e2,⟨_,_,rfl⟩,λ_=>by rw[au h1];rfl,λz=>absurd z ()⟩
   ·left;exact⟨e1,⟨_,_,rfl⟩,λ_=>by rw[av h1];rfl,λz=>absurd z ()⟩
  |1,hx =>
   cases hx;left;refine K0 (k:=k) hT.lL (by decide +kernel) (λz=>absurd z (by decide +kernel)) (λ_=>?_) (λ_ z=>absurd rfl z);left;refine x3 (l:=[.int c.lo,.tup (c.lm.map .int),.int c.up,.tup (c.um.map .int),.int c.yr]) rfl ?_;left;refine x3 (l:=[.int e.lo,.tup (e.lm.map .int),.int e.up,.tup (e.um.map .int),.int e.yr]) rfl ?_;left;refine if2 (λh1=>?_) (λh1=>?_)
   ·left;refine x3 (l:=[.int c.lo,.tup (c.lm.map .int),.int c.up,.tup (c.um.map .int),.int c.yr]) rfl ?_;left;refine x3 (l:=[.int e.lo,.tup (e.lm.map .int),.int e.up,.tup (e.um.map .int),.int e.yr]) rfl ?_;left;refine JB (k:=k+1) hT.pU (KH hc).2 λg2 e2=>?_;left;cases hw:jE c.um e.um with
    |false =>
     left;have:mw c e=true:=by unfold mw;rw[au h1,hw];simp
     rw[<- this];exact h _ (e1.trans e2)
    |true =>
     left;exact⟨e1.trans e2,⟨_,_,rfl⟩,λ_=>q1 (),λ_=>by rw[au h1];rfl⟩
   ·left;exact⟨e1,⟨_,_,rfl⟩,λ_=>q1 (),λ_=>by rw[av h1];rfl⟩
  |i+2,hx=>simp at hx
 ·obtain⟨e1,⟨z2,z3,rfl⟩,q1,q2⟩:=q
  try show wpS _ _ _ _ _ _
  left;have:mw c e=false:=by unfold mw;rw[q1 ∅,q2 ∅];rfl
  rw[<- this];exact h _ e1
theorem U'(hT:TB0 T){c e:b7}(h:Q (.bl (kD c e)) g):c5 T (k+1) 93 [c.d,e.d] g Q E:=by
 refine call_of hT.Pq rfl ?_;dsimp[Fg,c7,List.replicate];left;refine x3 (l:=[.int e.lo,.tup (e.lm.map .int),.int e.up,.tup (e.um.map .int),.int e.yr]) rfl ?_;left;refine if2 (λh1=>?_) (λh1=>?_)
 ·left;refine x3 (l:=[.int c.lo,.tup (c.lm.map .int),.int c.up,.tup (c.um.map .int),.int c.yr]) rfl ?_;left;have:kD c e=decide (e.yr<c.yr):=by unfold kD;rw[au h1];rfl
  rw[<- this];exact h
 ·have:kD c e=false:=by unfold kD;rw[av h1];rfl
  rw[<- this];exact h
def sV(cs:List b7)(q:b7->b7->Bool):List D:=(List.range cs.length).map λi=>.int ((iO cs.length λj=>q (bS cs j) (bS cs i):Nat):Int)
theorem xr{q:Nat->Bool}:∀i∈(List.range cs.length).filter q,i<cs.length:=λi hi=>aN.mp (bo.mp hi).1
theorem E4{n:Nat}{q:Nat->Bool}:((List.range n).filter q).length<=n:=aB (bP _ _) (by simp)
theorem UM(hT:TB0 T)(ha:g[a]?=some (.lst (cs.map b7.d)))(hz:cs.length<=9)(hB:∀c∈cs,CB c)(h:∀g' b,Ex g g'->g.length<=b->g'[b]?=some (.lst (sV cs mw))->Q (.ref b) g'):c5 T (k+4) 94 [.ref a] g Q E:=by
 refine call_of hT.Pp rfl ?_;dsimp[Y5,c7,List.replicate];left;refine comp_map (a8 T _) (λZ=>∃z1 z2,Z=[some (.ref a),z1,z2]) (λi=>.int ((iO cs.length λj=>mw (bS cs j) (bS cs i):Nat):Int)) (l:=cs.map b7.d) (k:=.lst a) (λg' e=>m7 (a7 (e.at ha))) (by simp;omega) ⟨none,none,rfl⟩ (λi d Z g' hx e sh=>?_) (λg' e=>?_) (O3 (a8 T _) (a7 ha) λQ q=>w_var (d:=.ref a) rfl q)
 ·obtain⟨z1,z2,rfl⟩:=sh;rw[ak,aa] at hx;obtain⟨c,hc,rfl⟩:=hx;refine f7 ?_
  try show aW _ _ _ _ _ _
  left;refine A9 (a8 T _) (λZ=>∃z1 z2 z3,Z=[some c.d,z1,z2,z3]) (λj=>mw (bS cs j) (bS cs i)) (λi=>.int (i:Nat)) (l:=lM (cs.map b7.d)) (k:=.oU a) (λg2 e2=>ux (a7 ((e.trans e2).at ha))) (by rw[L4];simp;omega) ⟨none,none,none,rfl⟩ (λj d Z g2 hx e2 sh=>?_) (λg2 e2=>?_) (Dc (a7 (e.at ha)) λQ q=>w_var (d:=.ref a) rfl q)
  ·obtain⟨z1,z2,z3,rfl⟩:=sh;obtain⟨dd,hd,rfl⟩:=U7 hx;rw[ak,aa] at hd;obtain⟨c',hV,rfl⟩:=hd;refine B4 rfl ?_
   try show dg _ _ _ _ _ _
   left;refine aG1 (k:=k) hT (hB c' (aC hV)) λg3 e3=>?_;left;refine⟨by simp only[F0 hV,F0 hc],e2.trans e3,?_⟩;cases mw c' c with
   |true =>
    refine fj rfl ?_;left;exact⟨rfl,e2.trans e3,_,_,_,rfl⟩
   |false=>exact dP rfl ⟨_,_,_,rfl⟩
  ·left;refine P9 (k:=k+2) hT.tL (l:=(List.range cs.length).filter λj=>mw (bS cs j) (bS cs i)) (by have:=a9 (g:=g2) (o:=.lst (((List.range (lM (cs.map b7.d)).length).filter λj=>mw (bS cs j) (bS cs i)).map λi=>D.int (i:Nat)));rw[L4,ae] at this ⊢;exact this) (aB E4 ()) (λj hj=>by have:=xr j hj;omega) λg3 e3=>?_;exact⟨rfl,(e.trans (e2.trans (Ex.snoc _ _))).trans e3,_,_,rfl⟩
 ·refine h _ _ (e.trans (Ex.snoc _ _)) e.len ?_;rw[a9,ae]
  rfl
theorem a29(hT:TB0 T)(ha:g[a]?=some (.lst (cs.map b7.d)))(hz:cs.length<=9)(h:∀g' b,Ex g g'->g.length<=b->g'[b]?=some (.lst (sV cs kD))->Q (.ref b) g'):c5 T (k+4) 95 [.ref a] g Q E:=by
 refine call_of hT.Po rfl ?_;dsimp[V9,c7,List.replicate];left;refine comp_map (a8 T _) (λZ=>∃z1 z2,Z=[some (.ref a),z1,z2]) (λi=>.int ((iO cs.length λj=>kD (bS cs j) (bS cs i):Nat):Int)) (l:=cs.map b7.d) (k:=.lst a) (λg' e=>m7 (a7 (e.at ha))) (by simp;omega) ⟨none,none,rfl⟩ (λi d Z g' hx e sh=>?_) (λg' e=>?_) (O3 (a8 T _) (a7 ha) λQ q=>w_var (d:=.ref a) rfl q)
 ·obtain⟨z1,z2,rfl⟩:=sh;rw[ak,aa] at hx;obtain⟨c,hc,rfl⟩:=hx;refine f7 ?_
  try show aW _ _ _ _ _ _
  left;refine A9 (a8 T _) (λZ=>∃z1 z2 z3,Z=[some c.d,z1,z2,z3]) (λj=>kD (bS cs j) (bS cs i)) (λi=>.int (i:Nat)) (l:=lM (cs.map b7.d)) (k:=.oU a) (λg2 e2=>ux (a7 ((e.trans e2).at ha))) (by rw[L4];simp;omega) ⟨none,none,none,rfl⟩ (λj d Z g2 hx e2 sh=>?_) (λg2 e2=>?_) (Dc (a7 (e.at ha)) λQ q=>w_var (d:=.ref a) rfl q)
  ·obtain⟨z1,z2,z3,rfl⟩:=sh;obtain⟨dd,hd,rfl⟩:=U7 hx;rw[ak,aa] at hd;obtain⟨c',hV,rfl⟩:=hd;refine B4 rfl ?_
   try show dg _ _ _ _ _ _
   left;refine U' (k:=k+2) hT ?_;left;refine⟨by simp only[F0 hV,F0 hc],e2,?_⟩;cases kD c' c with
   |true =>
    refine fj rfl ?_;left;exact⟨rfl,e2,_,_,_,rfl⟩
   |false=>exact dP rfl ⟨_,_,_,rfl⟩
  ·left;refine P9 (k:=k+2) hT.tL (l:=(List.range cs.length).filter λj=>kD (bS cs j) (bS cs i)) (by have:=a9 (g:=g2) (o:=.lst (((List.range (lM (cs.map b7.d)).length).filter λj=>kD (bS cs j) (bS cs i)).map λi=>D.int (i:Nat)));rw[L4,ae] at this ⊢;exact this) (aB E4 ()) (λj hj=>by have:=xr j hj;omega) λg3 e3=>?_;exact⟨rfl,(e.trans (e2.trans (Ex.snoc _ _))).trans e3,_,_,rfl⟩
 ·refine h _ _ (e.trans (Ex.snoc _ _)) e.len ?_;rw[a9,ae]
  rfl
theorem UU(hT:TB0 T)(ha:g[a]?=some (.lst (cs.map b7.d)))(hz:cs.length<=9)(hg:cs.all v9=true)(h:Q (.ref g.length) (g++[.lst ((p8 (cs.map b7.lo)).map .int)])):c5 T (k+7) 20 [.ref a,.str "lower"] g Q E:=by
 refine call_of hT.PQ rfl ?_;dsimp[Du,c7,List.replicate];left;refine Kr (k:=k) hT.nf hT.h2 hT.tM hT.wx ha () (λz=>by omega) (λ_ z=>by rw[hg] at z;cases z) λ_ _=>?_;left;refine K0 (k:=k+4) hT.lL (by decide +kernel) (λ_=>?_) (λz=>absurd z (by decide +kernel)) (λz=>absurd rfl z);left;refine UH (a8 T _) (kO (a8 T _) ?_);left;refine⟨a,_,rfl,a7 ha,cs.map b7.d,λi ys Z g'=>∃z w,ys=(cs.take i).map b7.lo/\Z=[some (.int 0),z,w]/\g'=g,by simp;omega,λi ys Z g' p=>?_,⟨none,none,rfl,rfl,rfl⟩,λi c ys Z g' hx p=>?_,λys Z g' p=>?_⟩
 ·obtain⟨z,w,rfl,rfl,rfl⟩:=p;exact⟨m7 (a7 ha),by simp;omega⟩
 ·obtain⟨z,w,rfl,rfl,rfl⟩:=p;rw[ak,aa] at hx;obtain⟨c,hc,rfl⟩:=hx;show dg _ _ _ _ _ _;left;refine x3 (l:=[.int c.lo,.tup (c.lm.map .int),.int c.up,.tup (c.um.map .int),.int c.yr]) rfl ?_;refine⟨_,rfl,_,_,?_,rfl,rfl⟩;rw[bj,hc];simp
 ·obtain⟨z,w,rfl,rfl,rfl⟩:=p;rw[ae,bH];exact h
def Z2(cs:List b7):List D:=(p8 (cs.map b7.lo)).map λd=>.int ((iO cs.length (meant cs .lower d):Nat):Int)
theorem aB0(hT:TB0 T)(ha:g[a]?=some (.lst (cs.map b7.d)))(hz:cs.length<=9)(hg:cs.all v9=true)(h:∀g' b,Ex g g'->g.length<=b->g'[b]?=some (.lst (Z2 cs))->Q (.ref b) g'):c5 T (k+8) 96 [.ref a] g Q E:=by
 refine call_of hT.Pn rfl ?_;dsimp[Ep,c7,List.replicate];left;have Bp:(p8 (cs.map b7.lo)).length<=9:=aB (W9 _) (by simpa using hz);unfold Z2 at h;refine E6 (a8 T _) (kO (a8 T _) ?_);left;refine UU (k:=k) hT ha hz hg ?_;have e0:=Ex.snoc g (O.lst ((p8 (cs.map b7.lo)).map .int));have hb:=a9 (g:=g) (o:=O.lst ((p8 (cs.map b7.lo)).map .int));generalize p8 (cs.map b7.lo)=ds at *;generalize g++[O.lst (ds.map .int)]=g1 at *;refine⟨_,_,rfl,a7 hb,ds.map .int,λi ys Z g'=>Ex g1 g'/\ys=(ds.take i).map (λd=>.int ((iO cs.length (meant cs .lower d):Nat):Int))/\∃z1 z2,Z=[some (.ref a),z1,z2],by simp;omega,λi ys Z g' q=>⟨m7 (a7 (q.1.at hb)),?_⟩,⟨Ex.refl _,rfl,none,none,rfl⟩,λi x ys Z g' hx q=>?_,λys Z g' q=>?_⟩
 ·obtain⟨_,rfl,_⟩:=q;simp;omega
 ·obtain⟨e1,rfl,z1,z2,rfl⟩:=q;rw[ak,aa] at hx;obtain⟨dd,hd,rfl⟩:=hx;refine f7 ?_
  try show dg _ _ _ _ _ _
  left;refine Q8 (k:=k+4) hT.nf hT.lL hT.rB (w:=.lower) ((e0.trans e1).at ha) () λg2 b2 e2 _ wb=>?_;left;refine P9 (k:=k+6) hT.tL wb (aB E4 ()) (λj hj=>by have:=xr j hj;omega) λg3 e3=>?_;refine⟨e1.trans (e2.trans e3),?_,_,_,rfl⟩;rw[bj,hd];simp[iO,jG]
 ·obtain⟨e1,rfl,z1,z2,rfl⟩:=q;rw[ae,bH];exact h _ _ (e0.trans (e1.trans (Ex.snoc _ _))) (aB e0.len e1.len) a9
end
theorem M8{i:Int}{k:Bool->Prop}(ha:d0 g a=some (ms.map .int))(h:k (ms.any λm=>m==i)):qP g (.int i) (.ref a) k:=by
 refine⟨_,.inr ⟨_,_,_,ha,R0 ms,rfl,lay_ints ms,by simp[PyData.canLay0],rfl⟩,?_⟩;rw[kY];exact h
theorem xw{l:List Nat}{k:Bool->Prop}(ha:g[a]?=some (.lst (b9 l)))(h:k (decide (i∈l))):qP g (.int (i:Nat)) (.ref a) k:=by
 refine M8 (ms:=l.map λ(i:Nat)=>(i:Int)) (by rw[<- zr];exact a7 ha) ?_;have:((l.map λ(i:Nat)=>(i:Int)).any λm=>m==(i:Int))=decide (i∈l):=by
  rw[aU,aV,cq];constructor
  ·rintro⟨x,hx,e⟩;obtain⟨j,hj,rfl⟩:=aL.mp hx;rw[ff] at e;rw[show i=j by omega];exact hj
  ·exact λhi=>⟨_,aL.mpr ⟨i,hi,rfl⟩,by simp⟩
 rw[this];exact h
structure nR(g:G)(nb lo n:Nat)(B:Nat->Nat)(F:Nat->Nat->Prop):Prop where
 ex:∃as:List Nat,g[nb]?=some (.lst (as.map .ref))/\as.length=n/\as.Nodup/\(∀a∈as,lo<=a/\a≠nb)/\∀i a,as[i]?=some a->∃ms:List Nat,g[a]?=some (.lst (b9 ms))/\ms.length<=B i/\∀m,m∈ms↔F i m
theorem nR.at{g g':G}{nb lo n:Nat}{B:Nat->Nat}{F:Nat->Nat->Prop}(h:nR g nb lo n B F)(e:Ex g g'):nR g' nb lo n B F:=by
 obtain⟨as,h1,h2,h3,h4,h5⟩:=h.ex;refine⟨⟨as,e.at h1,h2,h3,h4,λi a hi=>?_⟩⟩;obtain⟨ms,m1,m2⟩:=h5 i a hi;exact⟨ms,e.at m1,m2⟩
theorem nR.imp{nb lo:Nat}{B B':Nat->Nat}{F F':Nat->Nat->Prop}(h:nR g nb lo n B F)(hB:∀i,i<n->B i<=B' i)(hF:∀i m,i<n->(F i m↔F' i m)):nR g nb lo n B' F' :=
 let ⟨as,h1,h2,h3,h4,h5⟩:=h.ex
 ⟨⟨as,h1,h2,h3,h4,λi a hi=>let ⟨ms,m1,m2,m3⟩:=h5 i a hi
  have iW:i<n:=by rw[<- h2];exact(aj.mp hi).1
  ⟨ms,m1,aB m2 (hB i iW),λm=>(m3 m).trans (hF i m iW)⟩⟩⟩
def uj(cs:List b7)(rs:List eK)(i m:Nat):Prop:=∃r∈rs,meant cs r.w r.y i=true/\m=iO cs.length (meant cs r.w r.x)
def w5(rs:List eK):List D:=rs.map eK.d
theorem Ju{l:List α}(h:l.Nodup){a:α}(hi:l[i]?=some a)(hj:l[j]?=some a):i=j:=by
 obtain⟨h1,e1⟩:=aj.mp hi;obtain⟨h2,e2⟩:=aj.mp hj;exact(iq h).mp (e1.trans e2.symm)
section
variable{T:Nat->Option aX}{d:Nat}
theorem a21(hT:TB0 T)(ha:g[a]?=some (.lst (cs.map b7.d)))(hz:cs.length<=9)(hc:g[c]?=some (.lst (w5 rs)))(hr:rs.length<=900)(h:∀g' b,Ex g g'->g.length<=b->nR g' b g.length cs.length (λ_=>rs.length) (uj cs rs)->Q (.ref b) g'):c5 T (k+4) 97 [.ref a,.ref c] g Q E:=by
 refine call_of hT.Pm rfl ?_;dsimp[S5,c7,List.replicate];left;refine E6 (a8 T _) (kO (a8 T _) ?_);left;refine⟨a,_,rfl,a7 ha,cs.map b7.d,λi ys Z g'=>Ex g g'/\(∃as:List Nat,ys=as.map .ref/\as.length=i/\as.Nodup/\∀b∈as,g.length<=b/\g'[b]?=some (.lst []))/\∃z0 z1,Z=[z0,z1],by simp;omega,λi ys Z g' q=>⟨m7 (a7 (q.1.at ha)),?_⟩,⟨Ex.refl _,⟨[],rfl,rfl,by simp,by simp⟩,none,none,rfl⟩,λi x ys Z g' hx q=>?_,λys Z g' q=>?_⟩
 ·obtain⟨_,⟨as,rfl,rfl,_⟩,_⟩:=q;simp
 ·obtain⟨e1,⟨as,rfl,hl,nd,hA⟩,z0,z1,rfl⟩:=q;refine f7 ?_
  try show dg _ _ _ _ _ _
  left;refine⟨e1.trans (Ex.snoc _ _),⟨as++[g'.length],by simp,by simp[hl],?_,λb hb=>?_⟩,_,_,rfl⟩
  ·rw[cu];exact⟨nd,by simp,λx hx y hy=>by cases aR.mp hy;exact aP (k9 (hA x hx).2)⟩
  ·rcases aZ.mp hb with hb|hb
   ·exact⟨(hA b hb).1,(Ex.snoc _ _).at (hA b hb).2⟩
   ·cases aR.mp hb;exact⟨e1.len,a9⟩
 ·obtain⟨e1,⟨as,rfl,hl,nd,hA⟩,z0,z1,rfl⟩:=q;rw[ae] at hl;left;have e2:=e1.trans (Ex.snoc g' (O.lst (as.map D.ref)));have lo:=e1.len;have N0:nR (g'++[O.lst (as.map D.ref)]) g'.length g.length cs.length (λ_=>0) (uj cs []):=⟨⟨as,a9,hl,nd,λb hb=>⟨(hA b hb).1,aP (k9 (hA b hb).2)⟩,λi b hb=>⟨[],(Ex.snoc _ _).at (hA b (aC hb)).2,by simp,λm=>⟨λz=>absurd z (by simp),λ⟨r,hr,_⟩=>absurd hr (by simp)⟩⟩⟩⟩
  generalize g'++[O.lst (as.map D.ref)]=g1 at *;generalize g'.length=nb at *;refine p6 (a8 T _) (kO (a8 T _) ?_);left;refine⟨c,_,rfl,a7 (e2.at hc),w5 rs,λi Z g'=>Ex g g'/\nR g' nb g.length cs.length (λ_=>i) (uj cs (rs.take i))/\∃z3 z4 z5 z6 z7,Z=[some (.ref a),some (.ref c),some (.ref nb),z3,z4,z5,z6,z7],λi Z g' q=>m7 (a7 (q.1.at hc)),⟨e2,N0,none,none,none,none,none,rfl⟩,λi x Z g' hx q=>?_,λZ g' q=>?_⟩
  ·obtain⟨e3,N3,z3,z4,z5,z6,z7,rfl⟩:=q;rw[w5,ak,aa] at hx;obtain⟨r,fK,rfl⟩:=hx;have hi:i<rs.length:=(aj.mp fK).1;refine B4 (l:=[.str r.w.s,.int r.x,.int r.y]) rfl ?_
   try show wpS _ _ _ _ _ _
   left;refine Q8 (k:=k) hT.nf hT.lL hT.rB (e3.at ha) () λg4 b4 e4 _ yA=>?_;left;refine P9 (k:=k+2) hT.tL yA (aB E4 ()) (λj hj=>by have:=xr j hj;omega) λg5 e5=>?_;left;have yI:=e3.trans (e4.trans e5);have N5:=N3.at (e4.trans e5);have ef:pJ (jG cs r.w r.x)=iO cs.length (meant cs r.w r.x):=rfl;rw[ef];generalize iO cs.length (meant cs r.w r.x)=first at *
   refine p6 (a8 T _) (kO (a8 T _) ?_);left;refine Q8 (k:=k) hT.nf hT.lL hT.rB (yI.at ha) () λg6 b6 e6 hb6 GZ=>?_;refine⟨b6,_,rfl,a7 GZ,b9 (jG cs r.w r.y),λj Z g'=>Ex g g'/\g'[b6]?=some (.lst (b9 (jG cs r.w r.y)))/\nR g' nb g.length cs.length (λq=>i+if q∈(jG cs r.w r.y).take j then 1 else 0) (λq m=>uj cs (rs.take i) q m\/(q∈(jG cs r.w r.y).take j/\m=first))/\(∀as:List Nat,g'[nb]?=some (.lst (as.map .ref))->b6∉as)/\∃z7,Z=[some (.ref a),some (.ref c),some (.ref nb),some (.str r.w.s),some (.int r.x),some (.int r.y),some (.int (first:Nat)),z7],λj Z g' q=>m7 (a7 q.2.1),⟨yI.trans e6,GZ,(N5.at e6).imp (λq _=>by simp) (λq m _=>by simp),?_,z7,rfl⟩,λj x Z g' hx q=>?_,λZ g' q=>?_⟩
   ·intro yP h' hm;obtain⟨ub,h1,h2,h3,h4,h5⟩:=N5.ex;have:=(e6.at h1).symm.trans h';have e':ub=yP:=by
     have h0:ub.map D.ref=yP.map D.ref:=by injection this with w;injection w
     exact(dM (λx y z=>by injection z)).mp h0
    subst e';obtain⟨i',iW⟩:=cw.mp hm;obtain⟨ms,m1,_⟩:=h5 i' b6 iW;have:=k9 m1;omega
   ·obtain⟨e7,p7,N7,yk,z7,rfl⟩:=q;rw[b9,ak,aa] at hx;obtain⟨q,hq,rfl⟩:=hx;have GX:q<cs.length:=xr q (aC hq);have Ox:q∉(jG cs r.w r.y).take j:=λz=>by
     obtain⟨j',Bt⟩:=cw.mp z;have hl:j'<j:=by
      have:=(aj.mp Bt).1;simp at this;omega
     rw[eW hl] at Bt;have NO:(jG cs r.w r.y).Nodup:=eJ.filter _;have:=Ju NO Bt hq;omega
    have tk:(jG cs r.w r.y).take (j+1)=(jG cs r.w r.y).take j++[q]:=by rw[bj,hq];rfl
    obtain⟨xf,h1,h2,h3,h4,h5⟩:=N7.ex;have Oq:q<xf.length:=by omega
    have tH:=ai Oq;generalize xf[q]=aq at tH;obtain⟨ms,m1,m2,m3⟩:=h5 q aq tH;have gq:fL (xf.map D.ref) (q:Int)=some (.ref aq):=n6 (by rw[ak,tH];rfl);refine f7 ?_
    try show wpS _ _ _ _ _ _
    left;refine k8 (a7 h1) gq ?_;refine X9 (xw m1 ?_);left;by_cases iS:first∈ms
    ·refine dP (by simp[iS]) ?_;left;refine⟨e7,p7,N7.imp (λq' _=>?_) (λq' m _=>?_),yk,_,rfl⟩
     ·rw[tk];simp only[List.mem_append,List.mem_singleton];by_cases z:q'∈(jG cs r.w r.y).take j
      ·simp[z]
      ·simp[z]
     ·rw[tk];simp only[List.mem_append,List.mem_singleton];constructor
      ·rintro(z|⟨z1,z2⟩)
       ·exact .inl z
       ·exact .inr ⟨.inl z1,z2⟩
      ·rintro(z|⟨z1|z1,z2⟩)
       ·exact .inl z
       ·exact .inr ⟨z1,z2⟩
       ·subst z1 z2;exact(m3 m).mp iS
    ·refine fj (by simp[iS]) ?_;left;refine k8 (a7 h1) gq ?_
     try refine⟨V6 m1,?_⟩
     left;rw[aF Ox] at m2;refine O0 m1 (by simp[b9];omega) ?_;left;have nA:=aC tH;have ft:=(h4 aq nA).2;have Oz:aq≠b6:=λz=>yk xf h1 (z▸nA);have HK:=d5 (o':=O.lst (b9 ms++[D.int (first:Nat)])) h1 ft;refine⟨⟨by simp;exact e7.len,λi' iW=>by rw[az (by have:=(h4 aq nA).1;omega)];exact e7.old i' iW⟩,d5 p7 Oz,⟨⟨xf,HK,h2,h3,h4,λi' b hb=>?_⟩⟩,λyP h'=>?_,_,rfl⟩
     ·by_cases yt:i'=q
      ·subst yt;have:b=aq:=by rw[tH] at hb;injection hb with z;exact z.symm
       subst this;refine⟨ms++[first],by rw[get_set m1];simp[b9],?_,λm=>?_⟩
       ·rw[tk];simp;omega
       ·rw[aZ,aR,m3 m,tk];simp only[List.mem_append,List.mem_singleton];constructor
        ·rintro((z|⟨z1,z2⟩)|z)
         ·exact .inl z
         ·exact .inr ⟨.inl z1,z2⟩
         ·exact .inr ⟨.inr trivial,z⟩
        ·rintro(z|⟨z1|z1,z2⟩)
         ·exact .inl (.inl z)
         ·exact .inl (.inr ⟨z1,z2⟩)
         ·exact .inr z2
      ·have BH:aq≠b:=λz=>yt (Ju h3 hb (z▸tH));obtain⟨GD,k1,k2,k3⟩:=h5 i' b hb;refine⟨GD,d5 k1 BH,?_,λm=>(k3 m).trans ?_⟩
       ·rw[tk];simpa[yt] using k2
       ·rw[tk];simp[yt]
     ·rw[HK] at h';exact yk yP (h1.trans h')
   ·obtain⟨e7,p7,N7,yk,z7,rfl⟩:=q;rw[b9,ae,bH] at N7
    try show wpS _ _ _ _ _ _
    left;refine⟨e7,N7.imp (λq _=>by split<;>omega) (λq m hq=>?_),_,_,_,_,_,rfl⟩;have tk:rs.take (i+1)=rs.take i++[r]:=by rw[bj,fK];rfl
    unfold uj;rw[tk];simp only[List.mem_append,List.mem_singleton];constructor
    ·rintro(⟨r',h1,h2⟩|⟨h1,h2⟩)
     ·exact⟨r',.inl h1,h2⟩
     ·exact⟨r,.inr rfl,(bo.mp h1).2,by rw[h2];exact ef.symm⟩
    ·rintro⟨r',h1|h1,h2,h3⟩
     ·exact .inl ⟨r',h1,h2,h3⟩
     ·subst h1;exact .inr ⟨bo.mpr ⟨aN.mpr hq,h2⟩,by rw[h3];exact ef⟩
  ·obtain⟨e3,N3,z3,z4,z5,z6,z7,rfl⟩:=q;rw[w5,ae,bH] at N3
   try show wpS _ _ _ _ _ _
   left;exact h _ _ e3 lo N3
end
def v8(cs:List b7)(r:eK):Bool:=!decide (r.x=r.y)&&(!(jG cs r.w r.x).isEmpty&&!(jG cs r.w r.y).isEmpty)
theorem in_words{kb:Bool->Prop}(h:kb true):qP g (.str w.s) (.tup [.str "coin",.str "lower",.str "upper"]) kb:=by
 refine⟨_,.inr ⟨_,[.str "coin",.str "lower",.str "upper"],.str w.s,rfl,rfl,rfl,by simp only[PyData.canLayAll0,PyData.canLay0,Bool.and_true];decide +kernel,by simp only[PyData.canLay0];cases w<;>decide +kernel,rfl⟩,?_⟩;have:([PyData.str "coin",PyData.str "lower",PyData.str "upper"].any λq=>PyData.eqv q (.str w.s))=true:=by
  simp only[List.any_cons,List.any_nil,PyData.eqv];cases w<;>decide +kernel
 rw[this];exact h
theorem ne_nil{l:List Nat}(ha:g[a]?=some (.lst (b9 l)))(hb:g[b]?=some (.lst []))(h:Q (.bl (!l.isEmpty)) g):cE (.cmp .NotEq) [.ref a,.ref b] g Q:=by
 refine zH (a43 (ms:=l.map λ(i:Nat)=>(i:Int)) (ns:=[]) (by rw[<- zr];exact a7 ha) (a7 hb) ?_);have:decide ((l.map λ(i:Nat)=>(i:Int))=[])=l.isEmpty:=by cases l<;>simp
 rw[this];exact h
structure Bd(g:G)(b:Nat)(cs:List b7)(v:Int)(rs:List eK):Prop where
 ex:∃w l d nb,g[b]?=some (.ins "Bounds" [("size",.int cs.length),("full",.int ((2 ^ cs.length-1:Nat):Int)),("room",.int v),("worn_by_place",.ref w),("later_by_place",.ref l),("lower_dies",.ref d),("needed_by_place",.ref nb)]) /\
  g[w]?=some (.lst (sV cs mw))/\g[l]?=some (.lst (sV cs kD))/\g[d]?=some (.lst (Z2 cs))/\nR g nb 0 cs.length (λ_=>rs.length) (uj cs rs)
theorem Bd.at{g g':G}{b:Nat}{cs:List b7}{v:Int}{rs:List eK}(h:Bd g b cs v rs)(e:Ex g g'):Bd g' b cs v rs:=by
 obtain⟨w,l,d,nb,h1,h2,h3,h4,h5⟩:=h.ex;exact⟨⟨w,l,d,nb,e.at h1,e.at h2,e.at h3,e.at h4,h5.at e⟩⟩
theorem aV4(l:List α)(z:α)(q:α->Bool):((List.range l.length).filter λi=>q (l.getD i z)).length=(l.filter q).length:=by
 have e:l=(List.range l.length).map λi=>l.getD i z:=by
  refine cR λi=>?_;rw[ak];by_cases hi:i<l.length
  ·rw[bO hi,ai hi];simp[List.getD,hi]
  ·rw[aM (),aM (by simpa using hi)]
   rfl
 conv=>rhs;rw[e,List.filter_map,ae]
 rfl
theorem Lz{q:Nat->Bool}{s:Nat}{S:Nat->Bool}(h:∀i,i<n->s.testBit i=S i):((Builtin.bitAnd ((iO n q:Nat):Int) (s:Nat)) != 0)=(List.range n).any λi=>S i&&q i:=by
 rw[Dg,Nat.and_comm,yX,aU,aV,aV];constructor
 ·rintro⟨i,h1,h2⟩;exact⟨i,h1,by rw[<- h i (aN.mp h1)];exact h2⟩
 ·rintro⟨i,h1,h2⟩;exact⟨i,h1,by rw[h i (aN.mp h1)];exact h2⟩
theorem Vc{s:Nat}(h:s<2 ^ n)(hi:i<n):(2 ^ n-1-s).testBit i=!s.testBit i:=by
 rw[show 2 ^ n-1-s=2 ^ n-(s+1) by omega,Nat.testBit_two_pow_sub_succ h,au hi]
 rfl
theorem P1(s p i:Nat):(s |||2 ^ p).testBit i=(s.testBit i||decide (i=p)):=by
 rw[Nat.testBit_or,Nat.testBit_two_pow]
 congr 1
 exact fN.mpr eq_comm
theorem U3{s:Nat}(h:s<2 ^ n)(hp:p<n):s |||2 ^ p<2 ^ n:=Nat.or_lt_two_pow h (Nat.pow_lt_pow_right () hp)
section
variable{T:Nat->Option aX}{d:Nat}
theorem aH7(hT:TB0 T){r:eK}(ha:g[a]?=some (.lst (cs.map b7.d)))(hz:cs.length<=1000)(h:∀g',Ex g g'->Q (.bl (v8 cs r)) g'):c5 T (k+4) 88 [.ref a,r.d] g Q E:=by
 refine call_of hT.Pw rfl ?_;dsimp[Ed,c7,List.replicate];left;refine B4 (l:=[.str r.w.s,.int r.x,.int r.y]) rfl ?_;left;refine X9 (in_words ?_);left;refine if2 (λh1=>?_) (λh1=>?_)
 ·left;have:v8 cs r=false:=by unfold v8;rw[au h1];rfl
  rw[<- this];exact h _ (Ex.refl _)
 ·left;refine Q8 (k:=k) hT.nf hT.lL hT.rB ha hz λg1 b1 e1 _ rm=>?_;left;refine ne_nil ((Ex.snoc _ _).at rm) a9 ?_;left;cases h2:(jG cs r.w r.x).isEmpty with
  |true =>
   refine dP rfl ?_;have:v8 cs r=false:=by unfold v8;rw[av h1,h2];rfl
   rw[<- this];exact h _ (e1.trans (Ex.snoc _ _))
  |false =>
   refine fj rfl ?_;left;refine Q8 (k:=k) hT.nf hT.lL hT.rB ((e1.trans (Ex.snoc _ _)).at ha) hz λg2 b2 e2 _ wb=>?_;left;refine ne_nil ((Ex.snoc _ _).at wb) a9 ?_;have:v8 cs r=!(jG cs r.w r.y).isEmpty:=by unfold v8;rw[av h1,h2];rfl
   rw[<- this];exact h _ ((e1.trans (Ex.snoc _ _)).trans (e2.trans (Ex.snoc _ _)))
theorem ZN(hT:TB0 T)(ha:g[a]?=some (.lst (cs.map b7.d)))(hz:cs.length<=1000)(hc:g[c]?=some (.lst (w5 rs)))(hr:rs.length<=900)(h:rs.all (v8 cs)=true->∀g',Ex g g'->Q .bN g')(hn:rs.all (v8 cs)=false->∀g',Ex g g'->E ⟨"BadRule"⟩ g'):c5 T (k+5) 89 [.ref a,.ref c] g Q E:=by
 refine call_of hT.Pu rfl ?_;dsimp[Y7,c7,List.replicate];left;refine p6 (a8 T _) (vx ?_);left;refine⟨c,_,rfl,a7 hc,lM (w5 rs),λi Z g'=>Ex g g'/\(∃z2 z3,Z=[some (.ref a),some (.ref c),z2,z3])/\(rs.take i).all (v8 cs)=true,λi Z g' q=>ux (a7 (q.1.at hc)),⟨Ex.refl _,⟨none,none,rfl⟩,rfl⟩,λi x Z g' hx q=>?_,λZ g' q=>?_⟩
 ·obtain⟨e1,⟨z2,z3,rfl⟩,q⟩:=q;obtain⟨dd,hd,rfl⟩:=U7 hx;rw[w5,ak,aa] at hd;obtain⟨r,fK,rfl⟩:=hd;have tk:rs.take (i+1)=rs.take i++[r]:=by rw[bj,fK];rfl
  refine B4 rfl ?_
  try show wpS _ _ _ _ _ _
  left;refine aH7 (k:=k) hT (e1.at ha) hz λg2 e2=>?_;left;cases hg:v8 cs r with
  |true =>
   left;exact⟨e1.trans e2,⟨_,_,rfl⟩,by rw[tk,List.all_append,q];simp[hg]⟩
  |false =>
   left;have hi:i<rs.length:=(aj.mp fK).1;refine VP ?_ ?_
   ·have:(i:Int).natAbs<2 ^ 10:=by rw[Nb];omega
    rw[Nb] at this ⊢;by_cases h0:i=0
    ·subst h0;decide
    ·exact cX ((Nat.log2_lt h0).mpr this) ∅
   left;refine QX rfl ?_;left;refine hn ?_ _ (e1.trans e2);rw[List.all_eq_false];exact⟨r,aC fK,by rw[hg];decide⟩
 ·obtain⟨e1,⟨z2,z3,rfl⟩,q⟩:=q;rw[L4,w5,ae,bH] at q;exact h q _ e1
theorem ZM(hT:TB0 T)(wo:T 42=some J5)(BY:T 98=some Q3)(ha:g[a]?=some (.lst (cs.map b7.d)))(hz:cs.length<=1000)(hc:g[c]?=some (.lst (w5 rs)))(hr:rs.length<=900)(hm:9<cs.length->E ⟨"TooMany"⟩ g)(hb:cs.length<=9->cs.all v9=false->E ⟨"BadCoin"⟩ g)(hv:cs.length<=9->cs.all v9=true->¬(1<=v/\v<=9)->E ⟨"BadAnvils"⟩ g)(hw:cs.length<=9->cs.all v9=true->1<=v/\v<=9->rs.all (v8 cs)=false->∀g',Ex g g'->E ⟨"BadRule"⟩ g')(h:cs.length<=9->cs.all v9=true->1<=v/\v<=9->rs.all (v8 cs)=true->∀g',Ex g g'->Q .bN g'):c5 T (k+7) 98 [.ref a,.int v,.ref c] g Q E:=by
 refine call_of BY rfl ?_;dsimp[Q3,c7,List.replicate];left;refine Kr (k:=k) hT.nf hT.h2 hT.tM hT.wx ha hz hm hb λh9 hg=>?_;left;refine ZQ (k:=k+3) hT.nf wo (λv1 v2=>?_) (hv h9 hg);left;exact ZN (k:=k+1) hT ha hz hc hr (h h9 hg ⟨v1,v2⟩) (hw h9 hg ⟨v1,v2⟩)
theorem Lm{f:Str}(fs:List (Str×D)):(m5 f x fs).length<=fs.length+1:=by
 induction fs with
 |nil=>simp[m5]
 |cons y r ih =>
  unfold m5;split<;>simp
  exact ih
theorem Z7{f:Str}{fs:List (Str×D)}(h:fs.length+1<n):(m5 f x fs).length<n:=fg (Lm fs) h
theorem Z6{f:Str}{fs:List (Str×D)}{m:Nat}(h:fs.length+(m+1)<n):(m5 f x fs).length+m<n:=by
 have:=Lm (f:=f) (x:=x) fs;omega
def f3(n:Nat)(v:Int):List (Str×D):=[("size",.int n),("full",.int ((2 ^ n-1:Nat):Int)),("room",.int v)]
theorem uv(n:Nat)(v:Int):(f3 n v).length=3:=rfl
theorem ZK(hT:TB0 T)(ha:g[a]?=some (.lst (cs.map b7.d)))(hz:cs.length<=9)(hg:cs.all v9=true)(hB:∀c∈cs,CB c)(hc:g[c]?=some (.lst (w5 rs)))(hr:rs.length<=900)(hb:g[b]?=some (.ins "Bounds" []))(h:∀g',g.length<=g'.length->(∀i,i<g.length->i≠b->g'[i]?=g[i]?)->Bd g' b cs v rs->Q .bN g'):c5 T (k+9) 113 [.ref b,.ref a,.int v,.ref c] g Q E:=by
 refine call_of hT.Cf rfl ?_;dsimp[Y9,c7,List.replicate];have ve:b≠a:=λz=>by subst z;rw[ha] at hb;cases hb
 have yj:b≠c:=λz=>by subst z;rw[hc] at hb;cases hb
 have lb:=k9 hb;left;refine sI hb (by simp) (by simp) ?_;left;have tI:=d5 (o':=O.ins "Bounds" (m5 "size" (.int (cs.map b7.d).length) [])) ha ve;refine y9 (a7 tI) ?_;left;refine Ez ⟨by omega,by simp;omega,by decide⟩ ?_;left;refine sI (get_set hb) (by simp) (by first|(simp;done)|(refine Z7 ?_;repeat (first|(rw[uv];omega)|(simp;done)|refine Z6 ?_))) ?_;rw[gz];left;refine sI (get_set hb) (by simp) (by first|(simp;done)|(refine Z7 ?_;repeat (first|(rw[uv];omega)|(simp;done)|refine Z6 ?_))) ?_;rw[gz];have e0:m5 "room" (.int v) (m5 "full" (.int (1*2 ^ Int.toNat ((cs.map b7.d).length:Int)-1)) (m5 "size" (.int (cs.map b7.d).length) []))=(f3 cs.length v):=by
  have:(1*2 ^ Int.toNat ((cs.map b7.d).length:Int)-1:Int)=((2 ^ cs.length-1:Nat):Int):=by
   rw[ae,cv,Int.one_mul];have:=gK (n:=cs.length);rw[Int.natCast_sub this];simp
  rw[this,ae]
  rfl
 simp only[e0];have kp:∀(g1:G) (o:O),Ex (g.set b o) g1->(∀i,i<g.length->i≠b->g1[i]?=g[i]?)/\g.length<=g1.length:=λg1 o e=>⟨λi hi hn=>by rw[e.old i (by simpa using hi),az (cb hn)],by have:=e.len;simpa using this⟩
 generalize ho:O.ins "Bounds" (f3 cs.length v)=o1;have rm:=get_set (o':=o1) hb;have tI:=d5 (o':=o1) ha ve;have rh:=d5 (o':=o1) hc yj;have k1:=kp _ o1 (Ex.refl _);generalize g.set b o1=g1 at *;subst ho;left;refine UM (k:=k+4) hT tI hz hB λg2 w e2 hw1 hw=>?_;left;refine sI (e2.at rm) (by simp) (by rw[uv];omega) ?_;have lw:w≠b:=λz=>by have:=k9 rm;omega
 have wa:=get_set (o':=O.ins "Bounds" (m5 "worn_by_place" (.ref w) (f3 cs.length v))) (e2.at rm);have GO:=d5 (o':=O.ins "Bounds" (m5 "worn_by_place" (.ref w) (f3 cs.length v))) hw lw.symm;have yB:=d5 (o':=O.ins "Bounds" (m5 "worn_by_place" (.ref w) (f3 cs.length v))) (e2.at tI) ve;have yx:=d5 (o':=O.ins "Bounds" (m5 "worn_by_place" (.ref w) (f3 cs.length v))) (e2.at rh) yj;have k3:(∀i,i<g.length->i≠b->(g2.set b (O.ins "Bounds" (m5 "worn_by_place" (.ref w) (f3 cs.length v))))[i]?=g[i]?)/\g.length<=(g2.set b (O.ins "Bounds" (m5 "worn_by_place" (.ref w) (f3 cs.length v)))).length:=⟨λi hi hn=>by rw[az (cb hn),e2.old i (by have:=k1.2;omega)];exact k1.1 i hi hn,by simp;have:=e2.len;have:=k1.2;omega⟩
 generalize g2.set b (O.ins "Bounds" (m5 "worn_by_place" (.ref w) (f3 cs.length v)))=g3 at *;left;refine a29 (k:=k+4) hT yB hz λg4 l e4 jq hl=>?_;left;refine sI (e4.at wa) (by simp) (by first|(simp;done)|(refine Z7 ?_;repeat (first|(rw[uv];omega)|(simp;done)|refine Z6 ?_))) ?_;have ll:l≠b:=λz=>by have:=k9 wa;omega
 generalize ho:O.ins "Bounds" (m5 "later_by_place" (.ref l) (m5 "worn_by_place" (.ref w) (f3 cs.length v)))=o5;have BJ:=get_set (o':=o5) (e4.at wa);have Om:=d5 (o':=o5) (e4.at GO) lw.symm;have OE:=d5 (o':=o5) hl ll.symm;have Hy:=d5 (o':=o5) (e4.at yB) ve;have OU:=d5 (o':=o5) (e4.at yx) yj;have k5:(∀i,i<g.length->i≠b->(g4.set b o5)[i]?=g[i]?)/\g.length<=(g4.set b o5).length:=⟨λi hi hn=>by rw[az (cb hn),e4.old i (by have:=k3.2;omega)];exact k3.1 i hi hn,by simp;have:=e4.len;have:=k3.2;omega⟩
 generalize g4.set b o5=g5 at *;subst ho;left;refine aB0 (k:=k) hT Hy hz hg λg6 dd e6 Hw hd=>?_;left;refine sI (e6.at BJ) (by simp) (by first|(simp;done)|(refine Z7 ?_;repeat (first|(rw[uv];omega)|(simp;done)|refine Z6 ?_))) ?_;have ld:dd≠b:=λz=>by have:=k9 BJ;omega
 generalize ho:O.ins "Bounds" (m5 "lower_dies" (.ref dd) (m5 "later_by_place" (.ref l) (m5 "worn_by_place" (.ref w) (f3 cs.length v))))=o7;have BI:=get_set (o':=o7) (e6.at BJ);have Ol:=d5 (o':=o7) (e6.at Om) lw.symm;have OD:=d5 (o':=o7) (e6.at OE) ll.symm;have OR:=d5 (o':=o7) hd ld.symm;have OZ:=d5 (o':=o7) (e6.at Hy) ve;have OT:=d5 (o':=o7) (e6.at OU) yj;have k7:(∀i,i<g.length->i≠b->(g6.set b o7)[i]?=g[i]?)/\g.length<=(g6.set b o7).length:=⟨λi hi hn=>by rw[az (cb hn),e6.old i (by have:=k5.2;omega)];exact k5.1 i hi hn,by simp;have:=e6.len;have:=k5.2;omega⟩
 generalize g6.set b o7=g7 at *;subst ho;left;refine a21 (k:=k+4) hT OZ hz OT hr λg8 nb e8 hn1 hn=>?_;left;refine sI (e8.at BI) (by simp) (by first|(simp;done)|(refine Z7 ?_;repeat (first|(rw[uv];omega)|(simp;done)|refine Z6 ?_))) ?_;have lb7:=k9 BI;have ln:nb≠b:=λz=>by omega
 generalize ho:O.ins "Bounds" (m5 "needed_by_place" (.ref nb) (m5 "lower_dies" (.ref dd) (m5 "later_by_place" (.ref l) (m5 "worn_by_place" (.ref w) (f3 cs.length v)))))=o9;refine h _ (by simp;have:=e8.len;have:=k7.2;omega) (λi hi hn=>by rw[az (cb hn),e8.old i (by have:=k7.2;omega)];exact k7.1 i hi hn) ⟨⟨w,l,dd,nb,?_,d5 (e8.at Ol) lw.symm,d5 (e8.at OD) ll.symm,d5 (e8.at OR) ld.symm,?_⟩⟩
 ·rw[get_set (e8.at BI),<- ho]
  rfl
 ·obtain⟨as,q1,q2,q3,q4,q5⟩:=hn.ex;exact⟨⟨as,d5 q1 ln.symm,q2,q3,λx hx=>⟨by omega,(q4 x hx).2⟩,λi x hx=>let ⟨ms,m1,m2⟩:=q5 i x hx;⟨ms,d5 m1 (λz=>by have:=(q4 x (aC hx)).1;omega),m2⟩⟩⟩
end
section
variable{T:Nat->Option aX}{d:Nat}
theorem aJ5(hT:TB T)(ha:g[a]?=some (.lst (cs.map b7.d)))(hz:cs.length<=1000)(hB:∀c∈cs,CB c)(hc:g[c]?=some (.lst (w5 rs)))(hr:rs.length<=900)(hm:9<cs.length->E ⟨"TooMany"⟩ g)(hb:cs.length<=9->cs.all v9=false->E ⟨"BadCoin"⟩ g)(hv:cs.length<=9->cs.all v9=true->¬(1<=v/\v<=9)->E ⟨"BadAnvils"⟩ g)(hw:cs.length<=9->cs.all v9=true->1<=v/\v<=9->rs.all (v8 cs)=false->∀g',Ex g g'->E ⟨"BadRule"⟩ g')(h:cs.length<=9->cs.all v9=true->1<=v/\v<=9->rs.all (v8 cs)=true->∀g' b,Ex g g'->g.length<=b->Bd g' b cs v rs->Q (.ref b) g'):c5 T (k+10) 99 [.ref a,.int v,.ref c] g Q E:=by
 refine call_of hT.Pl rfl ?_;dsimp[Eb,c7,List.replicate];left;refine ZM (k:=k+2) hT.toTB0 hT.wo hT.BY ha hz hc hr hm hb hv hw λh9 hg hv hR g1 e1=>?_;left;have x1:=Ex.snoc g1 (O.ins "Bounds" []);refine ZK (k:=k) hT (x1.at (e1.at ha)) h9 hg hB (x1.at (e1.at hc)) hr a9 λg2 l2 o2 B2=>?_;refine⟨rfl,h h9 hg hv hR g2 _ ⟨by have:=e1.len;simp at l2;omega,λi hi=>?_⟩ e1.len B2⟩;have:=e1.len;rw[o2 i (by simp;omega) (),x1.old i ()];exact e1.old i hi
theorem JY(hT:TB T)(ha:g[a]?=some (.lst (cs.map b7.d)))(hz:cs.length<=9)(hg:cs.all v9=true)(hB:∀c∈cs,CB c)(hv:1<=v/\v<=9)(hc:g[c]?=some (.lst (w5 rs)))(hr:rs.length<=900)(hR:rs.all (v8 cs)=true)(h:∀g' b,Ex g g'->g.length<=b->Bd g' b cs v rs->Q (.ref b) g'):c5 T (k+10) 99 [.ref a,.int v,.ref c] g Q E :=
 aJ5 hT ha () hB hc hr (λz=>by omega) (λ_ z=>by rw[hg] at z;cases z) (λ_ _ z=>absurd hv z) (λ_ _ _ z=>by rw[hR] at z;cases z) λ_ _ _ _=>h
theorem ZO(hT:TB0 T)(B:Bd g b cs v rs)(hz:cs.length<=9){s:Nat}(hs:s<2 ^ cs.length)(hp:p<cs.length)(h:∀g',Ex g g'->Q (.int (tZ cs s.testBit p:Nat)) g'):c5 T (k+2) 100 [.ref b,.int (s:Nat),.int (p:Nat)] g Q E:=by
 refine call_of hT.Co rfl ?_;dsimp[Er,c7,List.replicate];obtain⟨w,l,dd,nb,h1,h2,h3,h4,h5⟩:=B.ex;left;refine u6 (k:=k) hT.mO () ?_;left;refine W5 h1 rfl ?_;left;have e1:((2 ^ cs.length-1:Nat):Int)-(s:Nat)=((2 ^ cs.length-1-s:Nat):Int):=by omega
 rw[e1];have Bp:(p8 (cs.map b7.lo)).length<=9:=aB (W9 _) (by simpa using hz);have Hu:(Z2 cs).length=(p8 (cs.map b7.lo)).length:=by simp[Z2]
 refine A9 (a8 T _) (λZ=>∃z2 z3,Z=[some (.int ((2 ^ cs.length-1-s:Nat):Int)),some (.int ((s |||2 ^ p:Nat):Int)),z2,z3]) (λi=>pz cs s.testBit p ((p8 (cs.map b7.lo)).getD i 0)) (λi=>(Z2 cs).getD i .bN) (l:=Z2 cs) (k:=.lst dd) (λg' e=>m7 (a7 (e.at h4))) (by rw[Hu];omega) ⟨none,none,rfl⟩ (λi x Z g' hx e sh=>?_) (λg' e=>?_) (O3 (a8 T _) (a7 h4) λQ q=>?_)
 ·obtain⟨z2,z3,rfl⟩:=sh;have qS:=hx;rw[Z2,ak,aa] at qS;obtain⟨nO,hd,rfl⟩:=qS;have eg:(p8 (cs.map b7.lo)).getD i 0=nO:=by simp[List.getD,hd]
  refine f7 ?_
  try show dg _ _ _ _ _ _
  left;refine wZ ?_;left;have b1:=Lz (n:=cs.length) (q:=meant cs .lower nO) (s:=s |||2 ^ p) (S:=λi=>s.testBit i||decide (i=p)) (λi _=>P1 s p i);have b2:=Lz (n:=cs.length) (q:=meant cs .lower nO) (s:=2 ^ cs.length-1-s) (S:=λi=>!s.testBit i) (λi hi=>Vc hs hi);rw[b1,eg];have hu:pz cs s.testBit p nO=(((List.range cs.length).any λi=>(s.testBit i||decide (i=p))&&meant cs .lower nO i)&&(List.range cs.length).any λi=>!s.testBit i&&meant cs .lower nO i):=rfl;rw[hu];cases (List.range cs.length).any λi=>(s.testBit i||decide (i=p))&&meant cs .lower nO i with
  |false =>
   refine dP rfl ?_;exact⟨rfl,e,dP rfl ⟨_,_,rfl⟩⟩
  |true =>
   refine fj rfl ?_;left;refine wZ ?_;left;rw[b2,qq];refine⟨rfl,e,?_⟩;cases (List.range cs.length).any λi=>!s.testBit i&&meant cs .lower nO i with
   |false=>exact dP rfl ⟨_,_,rfl⟩
   |true =>
    refine fj rfl ?_;left;refine⟨?_,e,_,_,rfl⟩;simp[List.getD,hx]
 ·refine y9 (a7 a9) ?_;have:(((List.range (Z2 cs).length).filter λi=>pz cs s.testBit p ((p8 (cs.map b7.lo)).getD i 0)).map λi=>(Z2 cs).getD i .bN).length=tZ cs s.testBit p:=by
   rw[ae,Hu,aV4 (p8 (cs.map b7.lo)) 0 (pz cs s.testBit p)]
   rfl
  rw[this];exact h _ (e.trans (Ex.snoc _ _))
 ·left;exact W5 h1 rfl q
theorem Ky{q:b7->b7->Bool}(hp:p<cs.length):fL (sV cs q) (p:Int)=some (.int ((iO cs.length λj=>q (bS cs j) (bS cs p):Nat):Int)):=n6 (by rw[sV,ak,bO hp];rfl)
theorem LB{s:Nat}{q:Nat->Bool}:((Builtin.bitAnd (s:Nat) ((iO n q:Nat):Int)) != 0)=(List.range n).any λi=>s.testBit i&&q i:=by rw[Dg,yX]
theorem Kp(hT:TB0 T)(B:Bd g b cs v rs)(hz:cs.length<=9)(hr:rs.length<=900){s:Nat}(hs:s<2 ^ cs.length)(hp:p<cs.length)(h:∀g',Ex g g'->Q (tN (fault cs v rs s.testBit p)) g'):c5 T (k+3) 101 [.ref b,.int (s:Nat),.int (p:Nat)] g Q E:=by
 refine call_of hT.Cn rfl ?_;dsimp[Eu,c7,List.replicate];obtain⟨w,l,dd,nb,h1,h2,h3,h4,h5⟩:=B.ex;left;refine W5 h1 rfl ?_;left;refine k8 (a7 h2) (Ky hp) ?_;refine wZ ?_;left;rw[LB];cases c1:(List.range cs.length).any λi=>s.testBit i&&mw (bS cs i) (bS cs p) with
 |true =>
  refine fj rfl ?_;left;have:fault cs v rs s.testBit p="wear":=by unfold fault L8;rw[aJ c1]
  rw[this] at h;exact h _ (Ex.refl _)
 |false =>
 refine dP rfl ?_;left;refine W5 h1 rfl ?_;left;refine k8 (a7 h3) (Ky hp) ?_;refine wZ ?_;left;rw[LB];cases c2:(List.range cs.length).any λi=>s.testBit i&&kD (bS cs i) (bS cs p) with
 |true =>
  refine fj rfl ?_;left;have:fault cs v rs s.testBit p="year":=by unfold fault L8 L1;rw[aF (by rw[c1];decide),aJ c2]
  rw[this] at h;exact h _ (Ex.refl _)
 |false =>
 refine dP rfl ?_;left;refine ZO (k:=k) hT B hz hs hp λg2 e2=>?_;left;refine W5 (e2.at h1) rfl ?_;left;refine if2 (λc3=>?_) (λc3=>?_)
 ·left;have:fault cs v rs s.testBit p="anvil":=by unfold fault L8 L1;rw[aF (by rw[c1];decide),aF (by rw[c2];decide),aJ c3]
  rw[this] at h;exact h _ e2
 left;obtain⟨as,q1,q2,q3,q4,q5⟩:=h5.ex;have Ot:p<as.length:=by omega
 have BK:=ai Ot;generalize as[p]=ap at BK;obtain⟨ms,m1,m2,m3⟩:=q5 p ap BK;refine comp_map (a8 T _) (λZ=>∃z1 z2,Z=[some (.int (s:Nat)),z1,z2]) (λi=>.int ((s &&& ms.getD i 0:Nat):Int)) (l:=b9 ms) (k:=.lst ap) (λg' e=>m7 (a7 ((e2.trans e).at m1))) (by simp[b9];omega) ⟨none,none,rfl⟩ (λi x Z g' hx e sh=>?_) (λg' e=>?_) (O3 (a8 T _) (a7 (e2.at m1)) λQ q=>?_)
 ·obtain⟨z1,z2,rfl⟩:=sh;rw[b9,ak,aa] at hx;obtain⟨m,hm,rfl⟩:=hx;refine f7 ?_
  try show aW _ _ _ _ _ _
  left;refine wZ ?_;refine⟨?_,e,_,_,rfl⟩;rw[Dg];simp[List.getD,hm]
 ·refine Xa (ns:=(List.range (b9 ms).length).map λi=>((s &&& ms.getD i 0:Nat):Int)) (a7 (by rw[bz];exact a9)) ?_;have en:(((List.range (b9 ms).length).map λi=>((s &&& ms.getD i 0:Nat):Int)).all λn=>n != 0)=T5 cs rs s.testBit p:=by
   rw[aU,cz];unfold T5;rw[cz];constructor
   ·intro hA r hr;cases Bm:meant cs r.w r.y p with
    |false=>rfl
    |true =>
     have hm:=(m3 (iO cs.length (meant cs r.w r.x))).mpr ⟨r,hr,Bm,rfl⟩;obtain⟨i,hi⟩:=cw.mp hm;have Hf:=(aj.mp hi).1;have:=hA ((s &&& iO cs.length (meant cs r.w r.x):Nat):Int) (aL.mpr ⟨i,aN.mpr (by simpa[b9] using Hf),by simp[List.getD,hi]⟩);rw[yX] at this;exact this
   ·intro hA x hx;obtain⟨i,hi,rfl⟩:=aL.mp hx;have hi:i<ms.length:=by simpa[b9] using hi
    have hm:ms.getD i 0∈ms:=by simp[List.getD,hi]
    obtain⟨r,hr,Bm,em⟩:=(m3 _).mp hm;have:=hA r hr;rw[Bm,Bool.not_true,qr] at this;rw[em,yX];exact this
  rw[en];left;cases c4:T5 cs rs s.testBit p with
  |true =>
   left;have:fault cs v rs s.testBit p="":=by unfold fault L8 L1;rw[aF (by rw[c1];decide),aF (by rw[c2];decide),aF c3,aJ c4]
   rw[this] at h;exact h _ (e2.trans (e.trans (Ex.snoc _ _)))
  |false =>
   left;have:fault cs v rs s.testBit p="rule":=by unfold fault L8 L1;rw[aF (by rw[c1];decide),aF (by rw[c2];decide),aF c3,aF (by rw[c4];decide)]
   rw[this] at h;exact h _ (e2.trans (e.trans (Ex.snoc _ _)))
 ·left;refine W5 (e2.at h1) rfl ?_;left;exact k8 (a7 (e2.at q1)) (n6 (by rw[ak,BK];rfl)) q
end
def ui:aX:=⟨2,5,(.seq (.set 2 (cB (.prim .lst (jR (gb "coin") (gb "coin") (gb "lower") (gb "upper"))) (.call 4 (cW aI (aY 4))))) (.seq (.set 3 (cJ .jl (cJ .len aT))) (.seq (.ifs (cY .Eq bc (gb "lower")) (.seq (.set 3 (cJ .sset (.comp [] 2 (.one 1) (.fe aT) .no (cB aT (aY 0))))) .pass) .pass) (.seq (.ifs (cY .Eq bc (gb "upper")) (.seq (.set 3 (cJ .sset (.comp [] 2 (.one 1) (.fe aT) .no (cB aT (aY 2))))) .pass) .pass) (.seq (.ifs (cY .Lt (cJ .len bp) (aY 2)) (.seq (.ret (.lit .bN)) .pass) .pass) (.seq (.set 4 (.call 4 (cW aI (cJ .len bp)))) (.seq (.ret (.prim .tup (gO bc (cB bp bE) (cB bp (br (.bin .Mod) (br (.bin .Add) (br (.bin .Add) bE (aY 1)) (.call 4 (cW aI (br (.bin .Sub) (cJ .len bp) (aY 1))))) (cJ .len bp)))))) .pass)))))))⟩
def Fh:aX:=⟨2,5,(.seq (.set 2 (.prim .lst .nil)) (.seq (.dw (.one 3) (.dW (cB (.prim .lst (HJ (aY 0) (aY 0) (aY 1) (aY 1) (aY 2) (aY 4))) (.call 4 (cW aI (aY 6))))) (.seq (.set 4 (.call 105 (cW aI aT))) (.seq (.ifs (cY .IsNot bE (.lit .bN)) (.seq (.expr (.dU .append bc (eT bE))) .pass) .pass) .pass))) (.seq (.ret bc) .pass)))⟩
def Eg:aX:=⟨4,8,(.seq (.lY (.many [4,5,6]) bp) (.seq (.ifs (cY .Eq bE (gb "coin")) (.seq (.ret (.jH (br (.cmp .NotEq) bc dZ) (br (.cmp .In) cN aT))) .pass) .pass) (.seq (.set 7 (.ite (cY .Eq bE (gb "lower")) (aY 0) (aY 2))) (.seq (.ret (.jH (br (.cmp .NotEq) (cB (cB aI bc) eZ) dZ) (br (.cmp .In) cN (.comp [7,0] 4 (.one 3) (.fe aT) .no (cB (cB aT bp) aI))))) .pass))))⟩
def xp:aX:=⟨5,10,(.seq (.set 5 (cB aI bE)) (.seq (.dw (.one 6) (.fe bp) (.seq (.dw (.one 7) (.fe (br .lst (aY 0) (aY 2))) (.seq (.ifs (.cQ (cY .Eq (cB (cB aI dZ) eZ) (cB cN eZ)) (.dE (.fm (.call 17 (cW (cB (cB aI dZ) (br (.bin .Add) eZ (aY 1))) (cB cN (br (.bin .Add) eZ (aY 1)))))))) (.seq (.ret (gb "wear")) .pass) .pass) .pass)) .pass)) (.seq (.ifs (.cQ (cY .Gt (cB cN (aY 4)) (aY 0)) (cY .Gt (cJ .max (br (.bin .Add) (cJ .lst (aY 0)) (.comp [0] 3 (.one 2) (.fe bp) .no (cB (cB aI bc) (aY 4))))) (cB cN (aY 4)))) (.seq (.ret (gb "year")) .pass) .pass) (.seq (.set 8 (br (.bin .Add) (.comp [0] 3 (.one 2) (.fe bp) .no (cB (cB aI bc) (aY 0))) (cJ .lst (cB cN (aY 0))))) (.seq (.set 9 (.comp [3,0] 4 (.one 3) (.dW (cJ .len aI)) (cY .NotIn bp aI) (cB (cB aT bp) (aY 0)))) (.seq (.ifs (cY .Gt (cJ .qg (.comp [9] 3 (.one 2) (.fe gU) (cY .In bc aI) bc)) aT) (.seq (.ret (gb "anvil")) .pass) .pass) (.seq (.ifs (.dE (.fm (cJ .all (.comp [3,0,4] 5 (.one 4) (.fe bc) .no (.call 107 (jR aT aI bc bE)))))) (.seq (.ret (gb "rule")) .pass) .pass) (.seq (.ret (gb "")) .pass))))))))⟩
def xq:aX:=⟨2,4,(.seq (.lY (.many [2,3]) (.call 26 (cW aI aT))) (.seq (.ret (.prim .tup (gO bc bp (.call 106 (cW aI bc))))) .pass))⟩
structure TBR(T:Nat->Option aX):Prop where
 lf:LF T
 Ck:T 105=some ui
 Cj:T 106=some Fh
structure oq(T:Nat->Option aX):Prop extends TBR T where
 Ca:T 17=some zx
 Ci:T 107=some Eg
 Cg:T 108=some xp
 oR:T 110=some xq
instance{T:Nat->Option aX}:CoeOut (oq T) (TBR T):=⟨oq.toTBR⟩
theorem MJ{x:Int}(hi:i<cs.length)(h:meant cs w x i=true):(jG cs w x).isEmpty=false:=by
 cases e:jG cs w x with
 |nil =>
  have:i∈jG cs w x:=bo.mpr ⟨aN.mpr hi,h⟩;rw[e] at this;cases this
 |cons _ _=>rfl
section
variable{T:Nat->Option aX}{d:Nat}
theorem Js{ns:List Int}{x:Int}:x∈p8 ns↔x∈ns:=by
 rw[(T3 ns).mem_iff,ST.T7];simp
theorem LY(ns:List Int):(p8 ns).Nodup:=(T3 ns).nodup_iff.mpr (ST.Eh _ _ (by simp))
theorem Jy(hT:TBR T)(D0:f9 g d){L:List Int}{sL:Nat}(hN:N.rt=Q)(hL:g[sL]?=some (.lst (L.map .int)))(hd:sL≠d)(nd:L.Nodup)(hl:L.length<=9)(hm:∀x∈L,(jG cs w x).isEmpty=false)(h:∀g',f9 g' d->Gr d g g'->Q .bN g'/\∀r,v8 cs r=true->Q r.d g'):wpS (c5 T (k+1)) (match ui.body with|.seq _ (.seq _ (.seq _ (.seq _ b)))=>b|x=>x) N [some (.ref d),some (.ref a),some (.str w.s),some (.ref sL),none] g E:=by
 subst hN;dsimp[ui];left;refine if2 (λh2=>?_) (λh2=>?_)
 ·left;exact(h g D0 (Gr.refl _ _)).1
 rw[ae] at h2;left;refine d6 (k:=k) hT.lf.pull D0 (by rw[ae];omega) (by rw[ae];omega) λr1 g1 h0 h1 D1 G1=>?_;rw[ae] at h1;left;obtain⟨j,rfl⟩:∃j:Nat,r1=j:=⟨r1.toNat,by omega⟩
 have hj:j<L.length:=by omega
 have gj:fL (L.map D.int) (j:Int)=some (.int L[j]):=n6 (by rw[ak,ai hj];rfl);refine k8 (a7 (G1.at hd hL)) gj ?_;left;refine y9 (a7 (G1.at hd hL)) ?_;left;refine d6 (k:=k) hT.lf.pull D1 (by rw[ae];omega) (by rw[ae];omega) λr2 g2 k0 k1 D2 G2=>?_;rw[ae] at k1;left;have rz:=(G1.trans G2).at hd hL;refine y9 (a7 rz) ?_;left;refine Q5 (by rw[ae];omega) ?_;obtain⟨j2,rfl⟩:∃j:Nat,r2=j:=⟨r2.toNat,by omega⟩
 have em:((j:Int)+1+(j2:Nat)) % ((L.map D.int).length:Nat)=(((j+1+j2) % L.length:Nat):Int):=by rw[ae,Int.natCast_emod,show((j+1+j2:Nat):Int)=(j:Int)+1+(j2:Nat) by omega]
 rw[em];have qZ:(j+1+j2) % L.length<L.length:=MZ _ ();have ft:(j+1+j2) % L.length≠j:=by
  by_cases hc:j+1+j2<L.length
  ·rw[Nat.mod_eq_of_lt hc];omega
  ·rw[Nat.mod_eq_sub_mod (),Nat.mod_eq_of_lt ()];omega
 generalize (j+1+j2) % L.length=j3 at *;have Qc:fL (L.map D.int) (j3:Int)=some (.int L[j3]):=n6 (by rw[ak,ai qZ];rfl);refine k8 (a7 rz) Qc ?_;left;refine(h g2 D2 (G1.trans G2)).2 ⟨w,L[j],L[j3]⟩ ?_;unfold v8;rw[hm _ (cg hj),hm _ (cg qZ),av (λz=>ft ((iq nd).mp z).symm)]
 rfl
theorem Ud(hT:TBR T)(ha:g[a]?=some (.lst (cs.map b7.d)))(hz:cs.length<=9)(hd:d<a)(D0:f9 g d)(h:∀g',f9 g' d->Gr d g g'->Q .bN g'/\∀r,v8 cs r=true->Q r.d g'):c5 T (k+2) 105 [.ref d,.ref a] g Q E:=by
 refine call_of hT.Ck rfl ?_;dsimp[ui,c7,List.replicate];left;refine d6 (k:=k) hT.lf.pull (D0.snoc _) ∅ ∅ λr0 g1 h0 h1 D1 G1=>?_;have FL:=(Gr.snoc d g _).trans G1;have tI:=FL.at (cc hd) ha;have l1:=FL.len;have dl:=D0.lt;have hw:∃w:RW,fL [D.str "coin",D.str "coin",D.str "lower",D.str "upper"] r0=some (.str w.s):=by
  obtain⟨j,rfl⟩:∃j:Nat,r0=j:=⟨r0.toNat,by omega⟩
  have:j=0\/j=1\/j=2\/j=3:=by omega
  rcases this with rfl|rfl|rfl|rfl
  ·exact⟨.fR,rfl⟩
  ·exact⟨.fR,rfl⟩
  ·exact⟨.lower,rfl⟩
  ·exact⟨.upper,rfl⟩
 obtain⟨w,hw⟩:=hw;left;refine k8 (a7 (G1.at (cc dl) a9)) hw ?_;left;refine AN () (by simp;omega) ?_;left;have e2:=Ex.snoc g1 (O.lst (i6 0 (Int.toNat ((cs.map b7.d).length:Nat))));have oa:=a9 (g:=g1) (o:=O.lst (i6 0 (Int.toNat ((cs.map b7.d).length:Nat))));generalize g1++[O.lst (i6 0 (Int.toNat ((cs.map b7.d).length:Nat)))]=g2 at *;have yC:=e2.at tI;have D2:=e2.draw D1;have G2:=FL.trans (e2.gr d);have fld:∀(f:Int) (w:RW) (N:Ends),(f=0\/f=2)->(∀i c,cs[i]?=some c->∀x,meant cs w x i=decide (C5 f c=x))->N.rt=Q->aW (c5 T (k+1)) (.prim .sset (.cons (.comp [] 2 (.one 1) (.fe (.var 1)) .no (.prim .ix (.cons (.var 1) (.cons (.lit (.int f)) .nil)))) .nil)) [some (.ref d),some (.ref a),some (.str w.s),some (.ref g1.length),none] g2 (λx g3=>wpS (c5 T (k+1)) (match ui.body with|.seq _ (.seq _ (.seq _ (.seq _ b)))=>b|x=>x) N [some (.ref d),some (.ref a),some (.str w.s),some x,none] g3 E) E:=λf w N hf hm hN=>by
  left;refine comp_map (a8 T _) (λZ=>∃z0 z1,Z=[z0,z1]) (λi=>.int (C5 f (bS cs i))) (l:=cs.map b7.d) (k:=.lst a) (λg' e=>m7 (a7 (e.at yC))) (by simp;omega) ⟨none,none,rfl⟩ (λi x Z g' hx e sh=>?_) (λg' e=>?_) (O3 (a8 T _) (a7 yC) λQ q=>w_var (d:=.ref a) rfl q)
  ·obtain⟨z0,z1,rfl⟩:=sh;rw[ak,aa] at hx;obtain⟨c,hc,rfl⟩:=hx;refine f7 ?_
   try show aW _ _ _ _ _ _
   left;refine x3 (O7 hf c) ?_;exact⟨by rw[F0 hc],e,_,_,rfl⟩
  ·refine QY (ns:=(List.range cs.length).map λi=>C5 f (bS cs i)) (a7 (by rw[bz];rw[a9,ae];rfl)) (by simp;omega) ?_;have e3:=(e.trans (Ex.snoc g' (O.lst ((List.range (cs.map b7.d).length).map λi=>D.int (C5 f (bS cs i)))))).trans (Ex.snoc _ (O.lst ((p8 ((List.range cs.length).map λi=>C5 f (bS cs i))).map .int)));have Bp:(p8 ((List.range cs.length).map λi=>C5 f (bS cs i))).length<=9:=aB (W9 _) (by simpa using hz);refine Jy (k:=k) hT (e3.draw D2) hN a9 (by have:=D2.lt;have:=e.len;simp;omega) (LY _) Bp (λx hx=>?_) λg4 D4 G4=>h g4 D4 (G2.trans ((e3.gr d).trans G4));rw[Js] at hx;obtain⟨i,hi,rfl⟩:=aL.mp hx;have hi:=aN.mp hi;have hc:=ai hi;refine MJ hi ?_;rw[hm i _ hc,F0 hc];exact au rfl
 cases w with
 |fR =>
  refine dP (by decide +kernel) ?_;left;refine dP (by decide +kernel) ?_
  try refine q9 ?_
  have er:i6 0 (Int.toNat ((cs.map b7.d).length:Nat))=((List.range cs.length).map λ(i:Nat)=>(i:Int)).map D.int:=by
   simp[i6]
  refine Jy (k:=k) hT (w:=.fR) (L:=(List.range cs.length).map λ(i:Nat)=>(i:Int)) D2 rfl (by rw[<- er];exact oa) () ?_ (by simpa using hz) (λx hx=>?_) λg4 D4 G4=>h g4 D4 (G2.trans G4)
  ·exact kW.mpr (eJ.imp λh e=>h ())
  ·obtain⟨i,hi,rfl⟩:=aL.mp hx;exact MJ (aN.mp hi) (au rfl)
 |lower =>
  refine fj (by decide +kernel) ?_;refine Q6 ?_;refine xk ?_;refine c6 (a8 T _) _ _ _ _ _ _ _ (λx g3 q=>?_) (λ_ _ z=>z) (fld 0 .lower ⟨λ_ g'=>Q .bN g',Q,λ_ _=>False,λ_ _=>False⟩ (.inl rfl) (λi c hc x=>by simp only[meant,F0 hc];rfl) rfl);refine xj ?_;left;refine dP (by decide +kernel) ?_
  try refine q9 ?_
  exact q
 |upper =>
  refine dP (by decide +kernel) ?_;left;refine fj (by decide +kernel) ?_;refine Q6 ?_;refine xk ?_;exact fld 2 .upper _ (.inr rfl) (λi c hc x=>by simp only[meant,F0 hc];rfl) rfl
end
section
variable{T:Nat->Option aX}{d:Nat}
theorem a93(hT:TBR T)(ha:g[a]?=some (.lst (cs.map b7.d)))(hz:cs.length<=9)(hd:d<a)(D0:f9 g d)(h:∀(rs:List eK) b g',rs.length<=4->rs.all (v8 cs)=true->g'[b]?=some (.lst (w5 rs))->g.length<=b->f9 g' d->Gr d g g'->Q (.ref b) g'):c5 T (k+3) 106 [.ref d,.ref a] g Q E:=by
 refine call_of hT.Cj rfl ?_;dsimp[Fh,c7,List.replicate];left;have dl:=D0.lt;have e1:=Ex.snoc g (O.lst []);have Hs:=a9 (g:=g) (o:=O.lst []);have D1:=D0.snoc (O.lst []);generalize g++[O.lst []]=g1 at *;refine p6 (a8 T _) (M1 (a8 T _) ?_);left;refine d6 (k:=k+1) hT.lf.pull (D1.snoc _) ∅ ∅ λr0 g2 h0 h1 D2 G2=>?_;have l1:=k9 Hs;have hw:∃j:Nat,j<=4/\fL [D.int 0,D.int 0,D.int 1,D.int 1,D.int 2,D.int 4] r0=some (.int (j:Nat)):=by
  obtain⟨j,rfl⟩:∃j:Nat,r0=j:=⟨r0.toNat,by omega⟩
  have:j=0\/j=1\/j=2\/j=3\/j=4\/j=5:=by omega
  rcases this with rfl|rfl|rfl|rfl|rfl|rfl
  ·exact⟨0,by decide,rfl⟩
  ·exact⟨0,by decide,rfl⟩
  ·exact⟨1,by decide,rfl⟩
  ·exact⟨1,by decide,rfl⟩
  ·exact⟨2,by decide,rfl⟩
  ·exact⟨4,by decide,rfl⟩
 obtain⟨j,hj,hw⟩:=hw;refine k8 (a7 (G2.at () a9)) hw ?_;refine⟨j,rfl,by omega,by omega,_,λi Z g'=>f9 g' d/\Gr d g g'/\(∃rs:List eK,rs.length<=i/\rs.all (v8 cs)=true/\g'[g.length]?=some (.lst (w5 rs)))/\∃z3 z4,Z=[some (.ref d),some (.ref a),some (.ref g.length),z3,z4],λ_ _ _ _=>n5,⟨D2,(e1.gr d).trans ((Gr.snoc d g1 _).trans G2),⟨[],by simp,rfl,((Gr.snoc d g1 _).trans G2).at () Hs⟩,none,none,rfl⟩,λi x Z g' hx q=>?_,λZ g' q=>?_⟩
 ·obtain⟨D3,G3,⟨rs,hl,hA,hF⟩,z3,z4,rfl⟩:=q;obtain⟨hi,rfl⟩:=t8 hx;have hi:i<j:=by simpa using hi
  refine f7 ?_
  try show wpS _ _ _ _ _ _
  left;have yB:=G3.at (cc hd) ha;refine Ud (k:=k) hT yB hz hd D3 λg4 D4 G4=>⟨?_,λr hr=>?_⟩
  ·left;exact⟨D4,G3.trans G4,⟨rs,by omega,hA,G4.at () hF⟩,_,_,rfl⟩
  ·left;refine fj rfl ?_;left;have BV:=G4.at () hF
   try refine⟨V6 BV,?_⟩
   left;refine O0 BV (by simp[w5];omega) ?_;left;refine⟨D4.F2 (),(G3.trans G4).F2 (ay _),⟨rs++[r],by simp;omega,by rw[List.all_append,hA];simp[hr],?_⟩,_,_,rfl⟩;rw[get_set BV];simp[w5]
 ·obtain⟨D3,G3,⟨rs,hl,hA,hF⟩,z3,z4,rfl⟩:=q;rw[j6] at hl
  try show wpS _ _ _ _ _ _
  left;exact h rs _ _ (by simp at hl;omega) hA hF (ay _) D3 G3
theorem a95(hT:TBR T)(oR:T 110=some xq){n:Int}(hn:0<=n/\n<=9)(D0:f9 g d)(h:∀(cs:List b7) (rs:List eK) a c (v:Int) g',(cs.length:Int)<=n->(∀c∈cs,jD c)->g'[a]?=some (.lst (cs.map b7.d))->g.length<=a->rs.length<=4->rs.all (v8 cs)=true->g'[c]?=some (.lst (w5 rs))->g.length<=c->a≠c->1<=v->v<=6->f9 g' d->Gr d g g'->Q (.tup [.ref a,.int v,.ref c]) g'):c5 T (k+5) 110 [.ref d,.int n] g Q E:=by
 refine call_of oR rfl ?_;dsimp[xq,c7,List.replicate];left;refine aU6 (k:=k) hT.lf ⟨hn.1,by omega⟩ D0 λcs a v g1 hl hg ha BL v1 v2 D1 G1=>?_;refine B4 rfl ?_
 try show wpS _ _ _ _ _ _
 left;have dl:=D0.lt;refine a93 (k:=k+1) hT ha () () D1 λrs c g2 hr hR hc jX D2 G2=>?_;left;exact h cs rs a c v g2 hl hg (G2.at () ha) BL hr hR hc (aB G1.len jX) (aP (aA (k9 ha) jX)) v1 v2 D2 (G1.trans G2)
theorem SG{x:Int}:((H.map λ(i:Nat)=>(i:Int)).any λm=>m==x)=H.any λi=>decide ((i:Int)=x):=by
 rw[kY]
 rfl
theorem yK(hH:∀i∈H,i<n)(q:Nat->Bool):((List.range n).any λi=>decide (i∈H)&&q i)=H.any q:=by
 rw[aU,aV,aV];constructor
 ·rintro⟨i,_,h⟩;rw[aS,cq] at h;exact⟨i,h.1,h.2⟩
 ·rintro⟨i,h1,h2⟩;exact⟨i,aN.mpr (hH i h1),by rw[au h1,h2];rfl⟩
theorem M9(hi:i<cs.length):fL (cs.map b7.d) (i:Int)=some (bS cs i).d:=n6 (by rw[ak,ai hi,F0 (ai hi)];rfl)
theorem aF0(hT:oq T){r:eK}(ha:g[a]?=some (.lst (cs.map b7.d)))(hh:g[hl]?=some (.lst (b9 H)))(hH:∀i∈H,i<cs.length)(wj:H.length<=50)(hp:p<cs.length)(h:∀g',Ex g g'->Q (.bl (!meant cs r.w r.y p||(List.range cs.length).any λi=>decide (i∈H)&&meant cs r.w r.x i)) g'):c5 T (k+1) 107 [.ref a,.ref hl,.int (p:Nat),r.d] g Q E:=by
 refine call_of hT.Ci rfl ?_;dsimp[Eg,c7,List.replicate];simp only[yK hH] at h;left;refine B4 (l:=[.str r.w.s,.int r.x,.int r.y]) rfl ?_;left;have nO:∀(w:RW) (f:Int),(f=0\/f=2)->(∀i x,meant cs w x i=decide (C5 f (bS cs i)=x))->(∀g',Ex g g'->Q (.bl (!meant cs w r.y p||H.any λi=>meant cs w r.x i)) g')->aW (c5 T k) (.jH (.prim (.cmp .NotEq) (.cons (.prim .ix (.cons (.prim .ix (.cons (.var 0) (.cons (.var 2) .nil))) (.cons (.var 7) .nil))) (.cons (.var 6) .nil))) (.prim (.cmp .In) (.cons (.var 5) (.cons (.comp [7,0] 4 (.one 3) (.fe (.var 1)) .no (.prim .ix (.cons (.prim .ix (.cons (.var 1) (.cons (.var 3) .nil))) (.cons (.var 0) .nil)))) .nil)))) [some (.ref a),some (.ref hl),some (.int (p:Nat)),some r.d,some (.str w.s),some (.int r.x),some (.int r.y),some (.int f)] g Q E:=λw f hf hm h=>by
  left;refine k8 (a7 ha) (M9 hp) ?_;left;refine x3 (O7 hf _) ?_;left;rw[hm] at h;by_cases c1:C5 f (bS cs p)=r.y
  ·refine dP (by rw[au c1];rfl) ?_;left;refine comp_map (a8 T _) (λZ=>∃z2 z3,Z=[some (.int f),some (.ref a),z2,z3]) (λi=>.int (C5 f (bS cs (H.getD i 0)))) (l:=b9 H) (k:=.lst hl) (λg' e=>m7 (a7 (e.at hh))) (by simp[b9];omega) ⟨none,none,rfl⟩ (λi x Z g' hx e sh=>?_) (λg' e=>?_) (O3 (a8 T _) (a7 hh) λQ q=>w_var (d:=.ref hl) rfl q)
   ·obtain⟨z2,z3,rfl⟩:=sh;rw[b9,ak,aa] at hx;obtain⟨j,hj,rfl⟩:=hx;refine f7 ?_
    try show aW _ _ _ _ _ _
    left;refine k8 (a7 (e.at ha)) (M9 (hH j (aC hj))) ?_;left;refine x3 (O7 hf _) ?_;exact⟨by simp[List.getD,hj],e,_,_,rfl⟩
   ·refine sf (M8 (ms:=(List.range (b9 H).length).map λi=>C5 f (bS cs (H.getD i 0))) (a7 (by rw[bz];exact a9)) ?_);have e2:(((List.range (b9 H).length).map λi=>C5 f (bS cs (H.getD i 0))).any λm=>m==r.x)=(H.any λi=>meant cs w r.x i):=by
     rw[kY,aU,aV,aV];constructor
     ·rintro⟨i,hi,h1⟩;have hi:i<H.length:=by simpa[b9] using hi
      refine⟨H[i],cg hi,?_⟩;rw[hm];simpa[List.getD,hi] using h1
     ·rintro⟨j,hj,h1⟩;obtain⟨i,hi,rfl⟩:=bK.mp hj;refine⟨i,by simpa[b9] using hi,?_⟩;rw[hm] at h1;simpa[List.getD,hi] using h1
    rw[e2];simp only[decide_eq_true c1,Bool.not_true,Bool.false_or] at h;exact h _ (e.trans (Ex.snoc _ _))
  ·refine fj (by rw[av c1];rfl) ?_;have:=h _ (Ex.refl _);rw[av c1] at this;exact this
 obtain⟨w,x,y⟩:=r;cases w with
 |fR =>
  refine fj (show decide (RW.fR.s="coin")=true from by decide +kernel) ?_;left;by_cases c1:((p:Nat):Int)=y
  ·refine dP (by rw[au c1];rfl) ?_;left;refine sf (M8 (ms:=H.map λ(i:Nat)=>(i:Int)) (by rw[<- zr];exact a7 hh) ?_);rw[SG];have:=h _ (Ex.refl _);rw[show meant cs .fR y p=true from au c1] at this;exact this
  ·refine fj (by rw[av c1];rfl) ?_;have:=h _ (Ex.refl _);rw[show meant cs .fR y p=false from av c1] at this;exact this
 |lower =>
  refine dP (show decide (RW.lower.s="coin")=false from by decide +kernel) ?_;left;refine fj (show decide (RW.lower.s="lower")=true from by decide +kernel) ?_;refine w_lit (Q6 (ES ?_));exact nO .lower 0 (.inl rfl) (λi x=>rfl) h
 |upper =>
  refine dP (show decide (RW.upper.s="coin")=false from by decide +kernel) ?_;left;refine dP (show decide (RW.upper.s="lower")=false from by decide +kernel) ?_;refine w_lit (Q6 (ES ?_));exact nO .upper 2 (.inr rfl) (λi x=>rfl) h
end
theorem JJ:∀{ns:List Int},ns≠[]->∃M∈ns,∀x∈ns,x<=M
 |[],h=>absurd rfl h
 |[x],_=>⟨x,by simp,by simp⟩
 |x::y::r,_=>by
  obtain⟨M,h1,h2⟩:=JJ (ns:=y::r) (by simp);by_cases h:x<=M
  ·refine⟨M,bx _ h1,λz hz=>?_⟩;rcases aH.mp hz with rfl|hz
   ·exact h
   ·exact h2 z hz
  ·refine⟨x,by simp,λz hz=>?_⟩;rcases aH.mp hz with rfl|hz
   ·exact Int.le_refl _
   ·have:=h2 z hz;omega
theorem a92{l m:List Int}(hl:l.Nodup)(hm:m.Nodup)(h:∀x,x∈l↔x∈m):l.length=m.length:=((List.perm_ext_iff_of_nodup hl hm).mpr h).length_eq
noncomputable abbrev fT(H:List Nat):Nat->Bool:=λi=>decide (i∈H)
def fTail(n:Nat):MS->MS
 |.seq a b=>match n with
  |0=>.seq a b
  |n+1=>fTail n b
 |x=>x
section
variable{T:Nat->Option aX}{d:Nat}
theorem JK(hT:oq T)(hN:N.rt=Q){z6 z7:Option D}(ha:g[a]?=some (.lst (cs.map b7.d)))(hz:cs.length<=9)(hc:g[c]?=some (.lst (w5 rs)))(hr:rs.length<=900)(hh:g[hl]?=some (.lst (b9 H)))(hH:∀i∈H,i<cs.length)(wj:H.length<=50)(hp:p<cs.length)(w1:L8 cs (fT H) p=false)(w2:L1 cs (fT H) p=false)(h:∀g',Ex g g'->Q (.str (fault cs v rs (fT H) p)) g') :
  wpS (c5 T (k+1)) (fTail 3 xp.body) N [some (.ref a),some (.int v),some (.ref c),some (.ref hl),some (.int (p:Nat)),some (bS cs p).d,z6,z7,none,none] g E:=by
 subst hN;dsimp[xp,fTail];left;refine comp_map (a8 T _) (λZ=>∃z1 z2,Z=[some (.ref a),z1,z2]) (λi=>.int (bS cs (H.getD i 0)).lo) (l:=b9 H) (k:=.lst hl) (λg' e=>m7 (a7 (e.at hh))) (by simp[b9];omega) ⟨none,none,rfl⟩ (λi x Z g' hx e sh=>?_) (λg1 e1=>?_) (O3 (a8 T _) (a7 hh) λQ q=>w_var (d:=.ref hl) rfl q)
 ·obtain⟨z1,z2,rfl⟩:=sh;rw[b9,ak,aa] at hx;obtain⟨j,hj,rfl⟩:=hx;refine f7 ?_
  try show aW _ _ _ _ _ _
  left;refine k8 (a7 (e.at ha)) (M9 (hH j (aC hj))) ?_;left;refine x3 (O7 (.inl rfl) _) ?_;exact⟨by simp[List.getD,hj,C5],e,_,_,rfl⟩
 have e2:=e1.trans (Ex.snoc g1 (O.lst ((List.range (b9 H).length).map λi=>D.int (bS cs (H.getD i 0)).lo)));have eh:(List.range (b9 H).length).map (λi=>D.int (bS cs (H.getD i 0)).lo)=(H.map λi=>(bS cs i).lo).map D.int:=by
  rw[bz];refine cR λi=>?_;rw[ak,ak];by_cases hi:i<H.length
  ·rw[bO (by simpa[b9] using hi),ai hi];simp[List.getD,hi]
  ·rw[aM (by simpa[b9] using hi),aM ()]
   rfl
 rw[eh] at e2 ⊢;have h2:=a9 (g:=g1) (o:=O.lst ((H.map λi=>(bS cs i).lo).map D.int));generalize g1++[O.lst ((H.map λi=>(bS cs i).lo).map D.int)]=g2 at *;left;refine x3 (O7 (.inl rfl) _) ?_;left;have e3:=Ex.snoc g2 (O.lst [D.int (C5 0 (bS cs p))]);refine sA (e3.at h2) a9 (by simp;omega) ?_;have e4:=(e2.trans e3).trans (Ex.snoc _ (O.lst ((H.map λi=>(bS cs i).lo).map D.int++[D.int (C5 0 (bS cs p))])));have h4:=a9 (g:=g2++[O.lst [D.int (C5 0 (bS cs p))]]) (o:=O.lst ((H.map λi=>(bS cs i).lo).map D.int++[D.int (C5 0 (bS cs p))]));have Qs:(H.map λi=>(bS cs i).lo).map D.int++[D.int (C5 0 (bS cs p))]=((H.map λi=>(bS cs i).lo)++[(bS cs p).lo]).map D.int:=by simp[C5]
 rw[Qs] at e4 h4 ⊢;generalize Bv:(H.map λi=>(bS cs i).lo)++[(bS cs p).lo]=fK at *;have lhr:fK.length<=51:=by rw[<- Bv];simp;omega
 generalize g2++[O.lst [D.int (C5 0 (bS cs p))]]=g3 at *;generalize g3++[O.lst (fK.map D.int)]=g4 at *;generalize g3.length=ah at *;left;refine A9 (a8 T _) (λZ=>∃z2 z3,Z=[some (.ref hl),some (.ref a),z2,z3]) (λi=>!decide (i∈H)) (λi=>.int (bS cs i).lo) (l:=i6 0 cs.length) (λg' e=>n5) (by rw[j6];omega) ⟨none,none,rfl⟩ (λi d Z g' hx e sh=>?_) (λg5 e5=>?_) (xD (a8 T _) (by omega:cs.length<=1000) λQ q=>?_)
 ·obtain⟨z2,z3,rfl⟩:=sh;obtain⟨hi,rfl⟩:=t8 hx;rw[cM];refine f7 ?_
  try show dg _ _ _ _ _ _
  left;refine X9 (xw ((e4.trans e).at hh) ?_);left;refine⟨rfl,e,?_⟩;by_cases vO:i∈H
  ·rw[au vO];exact dP rfl ⟨_,_,rfl⟩
  ·rw[av vO];refine fj rfl ?_;left;refine k8 (a7 ((e4.trans e).at ha)) (M9 hi) ?_;left;refine x3 (O7 (.inl rfl) _) ?_;exact⟨rfl,e,_,_,rfl⟩
 rotate_left
 ·left;refine y9 (a7 (e4.at ha)) ?_;rw[ae];exact q
 have e6:=e5.trans (Ex.snoc g5 (O.lst (((List.range (i6 0 cs.length).length).filter λi=>!decide (i∈H)).map λi=>D.int (bS cs i).lo)));have h6:=a9 (g:=g5) (o:=O.lst (((List.range (i6 0 cs.length).length).filter λi=>!decide (i∈H)).map λi=>D.int (bS cs i).lo));have el:(((List.range (i6 0 cs.length).length).filter λi=>!decide (i∈H)).map λi=>D.int (bS cs i).lo)=(((List.range cs.length).filter λi=>!decide (i∈H)).map λi=>(bS cs i).lo).map D.int:=by
  rw[j6,bz]
  rfl
 rw[el] at e6 h6 ⊢;generalize eE:(((List.range cs.length).filter λi=>!decide (i∈H)).map λi=>(bS cs i).lo)=lt' at *;generalize g5++[O.lst (lt'.map D.int)]=g6 at *;generalize g5.length=al at *;left;refine A9 (a8 T _) (λZ=>∃z1 z2,Z=[some (.ref al),z1,z2]) (λi=>decide (fK.getD i 0∈lt')) (λi=>.int (fK.getD i 0)) (l:=fK.map D.int) (k:=.lst ah) (λg' e=>m7 (a7 ((e6.trans e).at h4))) (by simp;omega) ⟨none,none,rfl⟩ (λi d Z g' hx e sh=>?_) (λg7 e7=>?_) (O3 (a8 T _) (a7 (e6.at h4)) λQ q=>w_var (d:=.ref ah) rfl q)
 ·obtain⟨z1,z2,rfl⟩:=sh;rw[ak,aa] at hx;obtain⟨x,hx,rfl⟩:=hx;have ex:fK.getD i 0=x:=by simp[List.getD,hx]
  refine f7 ?_
  try show dg _ _ _ _ _ _
  left;refine sf (M8 (a7 (e.at h6)) ?_);left;have ed:(lt'.any λm=>m==x)=decide (x∈lt'):=by
   rw[aU,aV,cq];exact⟨λ⟨y,hy,e⟩=>(ff.mp e)▸hy,λhy=>⟨x,hy,by simp⟩⟩
  rw[ed,ex];refine⟨rfl,e,?_⟩;refine if2 (λ_=>?_) (λ_=>?_)
  ·left;exact⟨rfl,e,_,_,rfl⟩
  ·exact⟨_,_,rfl⟩
 have es:((List.range (fK.map D.int).length).filter λi=>decide (fK.getD i 0∈lt')).map (λi=>D.int (fK.getD i 0))=(((List.range fK.length).filter λi=>decide (fK.getD i 0∈lt')).map λi=>fK.getD i 0).map D.int:=by
  rw[bz,ae]
  rfl
 have e8:=e7.trans (Ex.snoc g7 (O.lst (((List.range (fK.map D.int).length).filter λi=>decide (fK.getD i 0∈lt')).map λi=>D.int (fK.getD i 0))));refine ZC (ns:=((List.range fK.length).filter λi=>decide (fK.getD i 0∈lt')).map λi=>fK.getD i 0) (a7 (by rw[es];exact a9)) (by rw[ae];exact fg E4 ()) ?_;generalize g7++[O.lst (((List.range (fK.map D.int).length).filter λi=>decide (fK.getD i 0∈lt')).map λi=>D.int (fK.getD i 0))]=g8 at *;have en:(ST.i9 [] (((List.range fK.length).filter λi=>decide (fK.getD i 0∈lt')).map λi=>fK.getD i 0)).length=tZ cs (fT H) p:=by
  unfold tZ;refine a92 (ST.Eh _ _ (by simp)) ((LY _).filter _) λx=>?_;rw[ST.T7,bo,Js];unfold pz;rw[aS,aV,aV];simp only[List.not_mem_nil,false_or,List.mem_map,List.mem_filter,List.mem_range,Bool.and_eq_true,decide_eq_true_eq,Bool.or_eq_true,Bool.not_eq_true',decide_eq_false_iff_not];constructor
  ·rintro⟨i,⟨hi,hx⟩,rfl⟩;have hm:fK.getD i 0∈fK:=by simp[List.getD,hi]
   generalize fK.getD i 0=x at *;rw[<- eE] at hx;simp only[List.mem_map,List.mem_filter,List.mem_range,Bool.not_eq_true',decide_eq_false_iff_not] at hx;rw[<- Bv] at hm;obtain⟨j,⟨rf,Bs⟩,qZ⟩:=hx;have nY:∃q,q<cs.length/\(q∈H\/q=p)/\(bS cs q).lo=x:=by
    rcases aZ.mp hm with hm|hm
    ·obtain⟨q,hq,e⟩:=aL.mp hm;exact⟨q,hH q hq,.inl hq,e⟩
    ·exact⟨p,hp,.inr rfl,(aR.mp hm).symm⟩
   obtain⟨q,q1,q2,q3⟩:=nY;refine⟨⟨bS cs j,?_,qZ⟩,⟨q,q1,q2,q3⟩,j,rf,Bs,qZ⟩;rw[F0 (ai rf)];exact cg rf
  ·rintro⟨_,⟨q,q1,q2,q3⟩,j,rf,Bs,qZ⟩;have hm:x∈fK:=by
    rw[<- Bv];rcases q2 with q2|q2
    ·exact dq _ (aL.mpr ⟨q,q2,q3⟩)
    ·subst q2;exact bu _ (by rw[q3];simp)
   obtain⟨i,hi,e⟩:=bK.mp hm;refine⟨i,⟨hi,?_⟩,by simp[List.getD,hi,e]⟩;rw[show fK.getD i 0=x by simp[List.getD,hi,e],<- eE];simp only[List.mem_map,List.mem_filter,List.mem_range,Bool.not_eq_true',decide_eq_false_iff_not];exact⟨j,⟨rf,Bs⟩,qZ⟩
 rw[en];left;have tP:=(e4.trans e6).trans e8;refine if2 (λc3=>?_) (λc3=>?_)
 ·left;have:fault cs v rs (fT H) p="anvil":=by unfold fault;rw[aF (by rw[w1];decide),aF (by rw[w2];decide),aJ c3]
  rw[this] at h;exact h _ tP
 left;refine comp_map (a8 T _) (λZ=>∃z3 z4,Z=[some (.ref hl),some (.ref a),some (.int (p:Nat)),z3,z4]) (λi=>.bl (!meant cs (rs.getD i ⟨.fR,0,0⟩).w (rs.getD i ⟨.fR,0,0⟩).y p||(List.range cs.length).any λj=>decide (j∈H)&&meant cs (rs.getD i ⟨.fR,0,0⟩).w (rs.getD i ⟨.fR,0,0⟩).x j)) (l:=w5 rs) (k:=.lst c) (λg' e=>m7 (a7 ((tP.trans e).at hc))) (by simp[w5];omega) ⟨none,none,rfl⟩ (λi x Z g' hx e sh=>?_) (λg9 e9=>?_) (O3 (a8 T _) (a7 (tP.at hc)) λQ q=>w_var (d:=.ref c) rfl q)
 ·obtain⟨z3,z4,rfl⟩:=sh;rw[w5,ak,aa] at hx;obtain⟨r,oa,rfl⟩:=hx;refine f7 ?_
  try show aW _ _ _ _ _ _
  left;refine aF0 (k:=k) hT ((tP.trans e).at ha) ((tP.trans e).at hh) hH wj hp λHP rT=>?_;exact⟨by simp[List.getD,oa],e.trans rT,_,_,rfl⟩
 have eb:((List.range (w5 rs).length).map λi=>D.bl (!meant cs (rs.getD i ⟨.fR,0,0⟩).w (rs.getD i ⟨.fR,0,0⟩).y p||(List.range cs.length).any λj=>decide (j∈H)&&meant cs (rs.getD i ⟨.fR,0,0⟩).w (rs.getD i ⟨.fR,0,0⟩).x j))=(rs.map λr=>!meant cs r.w r.y p||(List.range cs.length).any λj=>decide (j∈H)&&meant cs r.w r.x j).map D.bl:=by
  rw[bz];refine cR λi=>?_;rw[ak,ak];by_cases hi:i<rs.length
  ·rw[bO (by simpa[w5] using hi),ai hi];simp[List.getD,hi]
  ·rw[aM (by simpa[w5] using hi),aM ()]
   rfl
 rw[eb];refine zO (a7 a9) (Y0 _) ?_;have eN:(rs.map λr=>!meant cs r.w r.y p||(List.range cs.length).any λj=>decide (j∈H)&&meant cs r.w r.x j).all id=T5 cs rs (fT H) p:=by
  rw[List.all_map]
  rfl
 rw[eN];left;have rT:=tP.trans (e9.trans (Ex.snoc g9 (O.lst ((rs.map λr=>!meant cs r.w r.y p||(List.range cs.length).any λj=>decide (j∈H)&&meant cs r.w r.x j).map D.bl))));cases c4:T5 cs rs (fT H) p with
 |true =>
  left;have:fault cs v rs (fT H) p="":=by unfold fault;rw[aF (by rw[w1];decide),aF (by rw[w2];decide),aF c3,aJ c4]
  rw[this] at h;exact h _ rT
 |false =>
  left;have:fault cs v rs (fT H) p="rule":=by unfold fault;rw[aF (by rw[w1];decide),aF (by rw[w2];decide),aF c3,aF (by rw[c4];decide)]
  rw[this] at h;exact h _ rT
end
section
variable{T:Nat->Option aX}{d:Nat}
theorem EA(c:b7):fL [D.int c.lo,D.tup (c.lm.map .int),D.int c.up,D.tup (c.um.map .int),D.int c.yr] 4=some (.int c.yr):=rfl
theorem UL(hi:i∈H)(hH:∀i∈H,i<cs.length)(h:mw (bS cs i) (bS cs p)=true):fault cs v rs (fT H) p="wear":=by
 unfold fault;rw[aJ];unfold L8;rw[yK hH,aV];exact⟨i,hi,h⟩
theorem Ea(hT:oq T)(hB:∀c∈cs,CB c)(ha:g[a]?=some (.lst (cs.map b7.d)))(hz:cs.length<=9)(hc:g[c]?=some (.lst (w5 rs)))(hr:rs.length<=900)(hh:g[hl]?=some (.lst (b9 H)))(hH:∀i∈H,i<cs.length)(wj:H.length<=50)(hp:p<cs.length)(h:∀g',Ex g g'->Q (.str (fault cs v rs (fT H) p)) g'):c5 T (k+2) 108 [.ref a,.int v,.ref c,.ref hl,.int (p:Nat)] g Q E:=by
 refine call_of hT.Cg rfl ?_;have Pk:∀i,i<cs.length->CB (bS cs i):=λi hi=>by rw[F0 (ai hi)];exact hB _ (cg hi)
 dsimp[xp,c7,List.replicate];left;refine k8 (a7 ha) (M9 hp) ?_;left;refine p6 (a8 T _) (kO (a8 T _) ?_);left;refine⟨hl,_,rfl,a7 hh,b9 H,λt Z g'=>Ex g g'/\(∀i∈H.take t,mw (bS cs i) (bS cs p)=false)/\∃z6 z7,Z=[some (.ref a),some (.int v),some (.ref c),some (.ref hl),some (.int (p:Nat)),some (bS cs p).d,z6,z7,none,none],λi Z g' q=>m7 (a7 (q.1.at hh)),⟨Ex.refl _,by simp,none,none,rfl⟩,λt x Z g' hx q=>?_,λZ g' q=>?_⟩
 ·obtain⟨e1,q,z6,z7,rfl⟩:=q;rw[b9,ak,aa] at hx;obtain⟨i,hi,rfl⟩:=hx;have vO:=aC hi;have iS:=hH i vO;refine f7 ?_
  try show wpS _ _ _ _ _ _
  left;refine p6 (a8 T _) (kO (a8 T _) ?_);left;have e2:=e1.trans (Ex.snoc g' (O.lst [D.int 0,D.int 2]));have h2:=a9 (g:=g') (o:=O.lst [D.int 0,D.int 2]);generalize g'++[O.lst [D.int 0,D.int 2]]=g2 at *;refine⟨_,_,rfl,a7 h2,[D.int 0,D.int 2],λj Z g3=>Ex g2 g3/\(1<=j->(decide ((bS cs i).lo=(bS cs p).lo)&&!jE (bS cs i).lm (bS cs p).lm)=false)/\(2<=j->(decide ((bS cs i).up=(bS cs p).up)&&!jE (bS cs i).um (bS cs p).um)=false)/\∃z7,Z=[some (.ref a),some (.int v),some (.ref c),some (.ref hl),some (.int (p:Nat)),some (bS cs p).d,some (.int (i:Nat)),z7,none,none],λj Z g3 q=>m7 (a7 (q.1.at h2)),⟨Ex.refl _,λz=>absurd z (),λz=>absurd z (),z7,rfl⟩,λj x Z g3 hx q=>?_,λZ g3 q=>?_⟩
  ·obtain⟨e3,q1,q2,z7,rfl⟩:=q;have hf:∃f:Int,(f=0\/f=2)/\x=.int f/\(f=0↔j=0)/\j<2:=by
    match j,hx with
    |0,hx=>cases hx;exact⟨0,.inl rfl,rfl,by simp,by omega⟩
    |1,hx=>cases hx;exact⟨2,.inr rfl,rfl,by simp,by omega⟩
    |j+2,hx=>simp at hx
   obtain⟨f,hf,rfl,Ho,hj⟩:=hf;have tQ:=e2.trans e3;refine f7 ?_
   try show wpS _ _ _ _ _ _
   left;refine k8 (a7 (tQ.at ha)) (M9 iS) ?_;left;refine x3 (O7 hf _) ?_;left;refine x3 (O7 hf _) ?_;left;have fin:∀g4,Ex g3 g4->(decide (C5 f (bS cs i)=C5 f (bS cs p))&&!jE (so f (bS cs i)) (so f (bS cs p)))=false->(Ex g2 g4/\(1<=j+1->(decide ((bS cs i).lo=(bS cs p).lo)&&!jE (bS cs i).lm (bS cs p).lm)=false)/\(2<=j+1->(decide ((bS cs i).up=(bS cs p).up)&&!jE (bS cs i).um (bS cs p).um)=false)/\∃z7,([some (.ref a),some (.int v),some (.ref c),some (.ref hl),some (.int (p:Nat)),some (bS cs p).d,some (.int (i:Nat)),some (.int f),none,none]:S)=[some (.ref a),some (.int v),some (.ref c),some (.ref hl),some (.int (p:Nat)),some (bS cs p).d,some (.int (i:Nat)),z7,none,none]):=λg4 e4 hw=>by
    refine⟨e3.trans e4,λ_=>?_,λz=>?_,_,rfl⟩
    ·by_cases h0:j=0
     ·rw[Ho.mpr h0] at hw;exact hw
     ·exact q1 ()
    ·have:¬f=0:=λw=>by have:=Ho.mp w;omega
     have f2:f=2:=hf.resolve_left this;rw[f2] at hw;exact hw
   refine if2 (λh1=>?_) (λh1=>?_)
   ·left;refine k8 (a7 (tQ.at ha)) (M9 iS) ?_;left;refine x3 (Mv hf _) ?_;left;refine x3 (Mv hf _) ?_;left;refine aU4 (k:=k) hT.Ca ((Pk i iS).NW f) λg4 e4=>?_;left;cases hw:jE (so f (bS cs i)) (so f (bS cs p)) with
    |false =>
     left;have:mw (bS cs i) (bS cs p)=true:=by
      unfold mw;rcases hf with rfl|rfl
      ·rw[au (show(bS cs i).lo=(bS cs p).lo from h1),show jE (bS cs i).lm (bS cs p).lm=false from hw];rfl
      ·rw[au (show(bS cs i).up=(bS cs p).up from h1),show jE (bS cs i).um (bS cs p).um=false from hw];simp
     rw[UL vO hH this] at h;exact h _ (tQ.trans e4)
    |true =>
     left;exact fin g4 e4 (by rw[hw];simp)
   ·left;exact fin g3 (Ex.refl _) (by rw[av h1];rfl)
  ·obtain⟨e3,q1,q2,z7,rfl⟩:=q
   try show wpS _ _ _ _ _ _
   try left
   refine⟨e2.trans e3,λi' iW=>?_,_,_,rfl⟩;rw[bj,hi] at iW;rcases aZ.mp iW with iW|iW
   ·exact q i' iW
   ·have:i'=i:=by simpa using iW
    subst this;unfold mw;rw[q1 ∅,q2 ∅]
    rfl
 ·obtain⟨e1,q,z6,z7,rfl⟩:=q;rw[b9,ae,bH] at q;have w1:L8 cs (fT H) p=false:=by
   unfold L8;rw[yK hH,List.any_eq_false];exact λi hi=>by rw[q i hi];decide
  try show wpS _ _ _ _ _ _
  refine xj ?_;left;refine x3 (EA _) ?_;left;have vk:L1 cs (fT H) p=(decide (0<(bS cs p).yr)&&H.any λi=>decide ((bS cs p).yr<(bS cs i).yr)):=by
   unfold L1;rw[yK hH,aU,aV,aS,aV];constructor
   ·rintro⟨i,h1,h2⟩;unfold kD at h2;rw[aS] at h2;exact⟨h2.1,i,h1,h2.2⟩
   ·rintro⟨h1,i,h2,h3⟩;exact⟨i,h2,by unfold kD;rw[h1,h3];rfl⟩
  refine if2 (λc1=>?_) (λc1=>?_)
  ·left;have e2:=e1.trans (Ex.snoc g' (O.lst [D.int 0]));have h2:=a9 (g:=g') (o:=O.lst [D.int 0]);generalize g'++[O.lst [D.int 0]]=g2 at *;generalize g'.length=z0 at *;refine comp_map (a8 T _) (λZ=>∃z1 z2,Z=[some (.ref a),z1,z2]) (λi=>.int (bS cs (H.getD i 0)).yr) (l:=b9 H) (k:=.lst hl) (λg' e=>m7 (a7 ((e2.trans e).at hh))) (by simp[b9];omega) ⟨none,none,rfl⟩ (λi x Z g' hx e sh=>?_) (λg3 e3=>?_) (O3 (a8 T _) (a7 (e2.at hh)) λQ q=>w_var (d:=.ref hl) rfl q)
   ·obtain⟨z1,z2,rfl⟩:=sh;rw[b9,ak,aa] at hx;obtain⟨j,hj,rfl⟩:=hx;refine f7 ?_
    try show aW _ _ _ _ _ _
    left;refine k8 (a7 ((e2.trans e).at ha)) (M9 (hH j (aC hj))) ?_;left;refine x3 (EA _) ?_;exact⟨by simp[List.getD,hj],e,_,_,rfl⟩
   have ey:(List.range (b9 H).length).map (λi=>D.int (bS cs (H.getD i 0)).yr)=(H.map λi=>(bS cs i).yr).map D.int:=by
    rw[bz];refine cR λi=>?_;rw[ak,ak];by_cases hi:i<H.length
    ·rw[bO (by simpa[b9] using hi),ai hi];simp[List.getD,hi]
    ·rw[aM (by simpa[b9] using hi),aM ()]
     rfl
   rw[ey];have e4:=e3.trans (Ex.snoc g3 (O.lst ((H.map λi=>(bS cs i).yr).map D.int)));refine sA (e4.at h2) a9 (by simp;omega) ?_;have e5:=e4.trans (Ex.snoc _ (O.lst ([D.int 0]++(H.map λi=>(bS cs i).yr).map D.int)));obtain⟨M,m1,m2⟩:=JJ (ns:=0::H.map λi=>(bS cs i).yr) (by simp);refine XY (ns:=0::H.map λi=>(bS cs i).yr) (a7 a9) m1 m2 ?_;left;refine x3 (EA _) ?_;left;have em:decide ((bS cs p).yr<M)=L1 cs (fT H) p:=by
    rw[vk,au c1,qq,aU,cq,aV];constructor
    ·intro hM;rcases aH.mp m1 with rfl|hm
     ·omega
     ·obtain⟨i,hi,rfl⟩:=aL.mp hm;exact⟨i,hi,au hM⟩
    ·rintro⟨i,hi,h1⟩;have:=m2 _ (bx _ (aL.mpr ⟨i,hi,rfl⟩));have:=bJ h1;omega
   rw[em];cases w2:L1 cs (fT H) p with
   |true =>
    left;have:fault cs v rs (fT H) p="year":=by unfold fault;rw[aF (by rw[w1];decide),aJ w2]
    rw[this] at h;exact h _ (e2.trans e5)
   |false =>
    refine dP rfl ?_;refine q9 ?_;have rR:=e2.trans e5;exact JK (k:=k) hT rfl (rR.at ha) hz (rR.at hc) hr (rR.at hh) hH wj hp w1 w2 λg6 e6=>h g6 (rR.trans e6)
  ·refine dP rfl ?_;refine q9 ?_;have w2:L1 cs (fT H) p=false:=by rw[vk,av c1];rfl
   exact JK (k:=k) hT rfl (e1.at ha) hz (e1.at hc) hr (e1.at hh) hH wj hp w1 w2 λg6 e6=>h g6 (e1.trans e6)
end
def zu:aX:=⟨3,3,(.seq (.ret (.cQ (br (.cmp .NotEq) (.call 91 (cW aT bc)) aT) (br (.cmp .Is) (.call 101 (gO aI aT bc)) (.lit .bN)))) .pass)⟩
def Es:aX:=⟨2,2,(.seq (.ret (.comp [0,1] 4 (.one 3) (.dW (cJ (.fld "size") aI)) (.fm (.call 115 (gO aI aT bp))) bp)) .pass)⟩
def C6(cs:List b7)(v:Int)(rs:List eK)(s p:Nat):Bool:=!s.testBit p&&decide (fault cs v rs s.testBit p="")
def i8(cs:List b7)(v:Int)(rs:List eK)(s:Nat):List Nat:=(List.range cs.length).filter (C6 cs v rs s)
theorem LR(x:Str):O4 (tN x)=decide (x=""):=by
 unfold tN;by_cases h:x=""
 ·rw[aJ h,au h];rfl
 ·rw[aF h,av h];rfl
theorem Yi{s:Nat}:decide (((s |||2 ^ p:Nat):Int)=(s:Nat))=s.testBit p:=by
 rw[aU,cq];constructor
 ·intro h;have h:s |||2 ^ p=s:=by omega
  have:=P1 s p p;rw[h] at this;rw[this];simp
 ·intro h;have:s |||2 ^ p=s:=Ad λi=>by
   rw[P1];by_cases hi:i=p
   ·subst hi;rw[h];rfl
   ·rw[av hi,Bool.or_false]
  rw[this]
structure TF(T:Nat->Option aX):Prop where
 rH:T 115=some zu
 Ce:T 116=some Es
section
variable{T:Nat->Option aX}{d:Nat}
theorem aV2(hT:TB0 T)(rH:T 115=some zu)(B:Bd g b cs v rs)(hz:cs.length<=9)(hr:rs.length<=900){s:Nat}(hs:s<2 ^ cs.length)(hp:p<cs.length)(h:∀g',Ex g g'->Q (.bl (C6 cs v rs s p)) g'):c5 T (k+4) 115 [.ref b,.int (s:Nat),.int (p:Nat)] g Q E:=by
 refine call_of rH rfl ?_;dsimp[zu,c7,List.replicate];left;refine u6 (k:=k+2) hT.mO () ?_;left;rw[Yi];cases hb:s.testBit p with
 |true =>
  refine dP rfl ?_;have:C6 cs v rs s p=false:=by unfold C6;rw[hb];rfl
  rw[this] at h;exact h _ (Ex.refl _)
 |false =>
  refine fj rfl ?_;left;refine Kp (k:=k) hT B hz hr hs hp λg1 e1=>?_;left;have:C6 cs v rs s p=O4 (tN (fault cs v rs s.testBit p)):=by unfold C6;rw[hb,LR];rfl
  rw[this] at h;exact h _ e1
theorem O5(hT:TB0 T)(hF:TF T)(B:Bd g b cs v rs)(hz:cs.length<=9)(hr:rs.length<=900){s:Nat}(hs:s<2 ^ cs.length)(h:∀g' l,Ex g g'->g.length<=l->g'[l]?=some (.lst (b9 (i8 cs v rs s)))->Q (.ref l) g'):c5 T (k+5) 116 [.ref b,.int (s:Nat)] g Q E:=by
 refine call_of hF.Ce rfl ?_;dsimp[Es,c7,List.replicate];obtain⟨w,l,dd,nb,h1,h2,h3,h4,h5⟩:=B.ex;left;refine A9 (a8 T _) (λZ=>∃z2 z3,Z=[some (.ref b),some (.int (s:Nat)),z2,z3]) (C6 cs v rs s) (λi=>.int (i:Nat)) (l:=i6 0 cs.length) (λg' e=>n5) (by rw[j6];omega) ⟨none,none,rfl⟩ (λi d Z g' hx e sh=>?_) (λg' e=>?_) (xD (a8 T _) (by omega:cs.length<=1000) λQ q=>?_)
 ·obtain⟨z2,z3,rfl⟩:=sh;obtain⟨hi,rfl⟩:=t8 hx;rw[cM];refine f7 ?_
  try show dg _ _ _ _ _ _
  left;refine aV2 (k:=k) hT hF.rH (B.at e) hz hr hs hi λg2 e2=>?_;left;refine⟨rfl,e.trans e2,?_⟩;cases C6 cs v rs s i with
  |true =>
   refine fj rfl ?_;left;exact⟨rfl,e.trans e2,_,_,rfl⟩
  |false=>exact dP rfl ⟨_,_,rfl⟩
 ·rw[j6];exact h _ _ (e.trans (Ex.snoc _ _)) e.len a9
 ·left;exact W5 h1 rfl q
end
def O1:aX:=⟨2,4,(.seq (.ifs (cY .NotEq (cJ .len aT) aI) (.seq (.ret (br .tup (gb "many") (cJ .len aT))) .pass) .pass) (.seq (.dw (.many [2,3]) (.kG aT) (.seq (.ifs (.dE (.fm (.call 1 (gO bp (aY 0) (br (.bin .Sub) aI (aY 1)))))) (.seq (.ret (br .tup (gb "stranger") bc)) .pass) .pass) (.seq (.ifs (cY .In bp (br (.ji false true) aT bc)) (.seq (.ret (br .tup (gb "twice") bc)) .pass) .pass) .pass))) (.seq (.ret (.lit .bN)) .pass)))⟩
def DJ:aX:=⟨2,7,(.seq (.set 2 (.call 102 (cW (cJ (.fld "size") aI) aT))) (.seq (.ifs (cY .IsNot bc (.lit .bN)) (.seq (.ret bc) .pass) .pass) (.seq (.set 3 (aY 0)) (.seq (.dw (.many [4,5]) (.kG aT) (.seq (.set 6 (.call 101 (gO aI bp cN))) (.seq (.ifs (cY .IsNot dZ (.lit .bN)) (.seq (.ret (br .tup dZ bE)) .pass) .pass) (.seq (.set 3 (.call 91 (cW bp cN))) .pass)))) (.seq (.ret (.lit .bN)) .pass)))))⟩
def X5:aX:=⟨4,6,(.seq (.ifs (cY .NotEq (cJ .len bp) (cJ .len aI)) (.seq (.ret (br .tup (gb "many") (cJ .len bp))) .pass) .pass) (.seq (.dw (.one 4) (.dW (cJ .len bp)) (.seq (.ifs (.dE (.fm (.chain .LtE .Lt (aY 0) (cB bp bE) (cJ .len aI)))) (.seq (.ret (br .tup (gb "stranger") bE)) .pass) .pass) (.seq (.ifs (cY .In (cB bp bE) (br (.ji false true) bp bE)) (.seq (.ret (br .tup (gb "twice") bE)) .pass) .pass) .pass))) (.seq (.dw (.one 4) (.dW (cJ .len bp)) (.seq (.set 5 (.call 108 (qt aI aT bc (br (.ji false true) bp bE) (cB bp bE)))) (.seq (.ifs (cY .NotEq cN (gb "")) (.seq (.ret (br .tup cN bE)) .pass) .pass) .pass))) (.seq (.ret (.lit .bN)) .pass))))⟩
def F3:aX:=⟨4,9,(.seq (.set 4 (cJ .len aT)) (.seq (.ifs (.cQ (cY .Gt bE (aY 0)) (cY .Eq (.call 4 (cW aI (aY 3))) (aY 0))) (.seq (.ret (.call 21 (cW aI (cJ .jl bE)))) .pass) .pass) (.seq (.set 5 (.prim .lst .nil)) (.seq (.dw (.one 6) (.dW bE) (.seq (.set 7 (.comp [2,1,5,3] 6 (.one 5) (.dW bE) (.cQ (cY .NotIn cN bc) (cY .Eq (.call 108 (qt aT aI bp bc cN)) (gb ""))) cN)) (.seq (.set 8 (.ite (cY .Gt (cJ .len eZ) (aY 0)) eZ (.comp [5] 3 (.one 2) (.dW bE) (cY .NotIn bc aI) bc))) (.seq (.expr (.dU .append cN (eT (cB gU (.call 4 (cW aI (cJ .len gU))))))) .pass)))) (.seq (.ret cN) .pass)))))⟩
def J6:aX:=⟨3,8,(.seq (.set 3 (.call 4 (cW aI (aY 9)))) (.seq (.set 4 (.call 4 (cW aI (br (.bin .Add) (cJ .len aT) (aY 1))))) (.seq (.set 5 (.call 4 (cW aI (br (.bin .Add) (cJ .len aT) (aY 1))))) (.seq (.set 6 (.call 36 (cW aI bc))) (.seq (.ifs (cY .Eq bp (aY 0)) (.seq (.ret (br (.bin .Add) (br (.bin .Add) (br (.ji false true) aT bE) (cJ .lst dZ)) (br (.ji true false) aT bE))) .pass) .pass) (.seq (.ifs (cY .Eq bp (aY 1)) (.seq (.ret (br (.bin .Add) (br (.ji false true) aT bE) (br (.ji true false) aT (br (.bin .Add) bE (aY 1))))) .pass) .pass) (.seq (.ifs (.cQ (cY .Eq bp (aY 2)) (cY .Lt bE (cJ .len aT))) (.seq (.ret (br (.bin .Add) (br (.bin .Add) (br (.ji false true) aT bE) (cJ .lst dZ)) (br (.ji true false) aT (br (.bin .Add) bE (aY 1))))) .pass) .pass) (.seq (.ifs (.cQ (cY .Eq bp (aY 3)) (.cQ (cY .Lt bE (cJ .len aT)) (cY .Lt cN (cJ .len aT)))) (.seq (.ret (br (.bin .Add) (br (.bin .Add) (br (.ji false true) aT bE) (cJ .lst (cB aT cN))) (br (.ji true false) aT (br (.bin .Add) bE (aY 1))))) .pass) .pass) (.seq (.ifs (.cQ (cY .Eq bp (aY 4)) (.cQ (cY .Lt bE (cJ .len aT)) (cY .Lt cN (cJ .len aT)))) (.seq (.set 7 (cJ .list aT)) (.seq (.qv eZ bE eZ cN (br .tup (cB eZ cN) (cB eZ bE))) (.seq (.ret eZ) .pass))) .pass) (.seq (.ret aT) .pass))))))))))⟩
theorem zd{f:Nat->Option α}:(List.range (i+1)).findSome? f=none↔(List.range i).findSome? f=none/\f i=none:=by
 rw[dR,xX];cases (List.range i).findSome? f<;>simp
theorem uw{f:Nat->Option α}{r:α}(h:(List.range i).findSome? f=none)(hi:i<n)(hr:f i=some r):(List.range n).findSome? f=some r:=by
 have e:List.range n=List.range i++(List.range (n-i)).map (i+·):=by
  rw[<- List.range_add]
  congr 1
  omega
 obtain⟨m,hm⟩:∃m,n-i=m+1:=⟨n-i-1,by omega⟩
 rw[e,xX,h,hm,List.range_succ_eq_map];simp[hr]
def jy(n:Nat)(ns:List Int)(i:Nat):Option (Str×Nat):=if 0<=ns.getD i 0/\ns.getD i 0<n then(if ns.getD i 0∈ns.take i then some ("twice",i) else none) else some ("stranger",i)
def w6(ns:List Int)(i:Nat):List Nat:=(ns.take i).map Int.toNat
def kQ(cs:List b7)(v:Int)(rs:List eK)(ns:List Int)(i:Nat):Option (Str×Nat):=if fault cs v rs (fT (w6 ns i)) (ns.getD i 0).toNat="" then none else some (fault cs v rs (fT (w6 ns i)) (ns.getD i 0).toNat,i)
def pairF:Option (Str×Nat)->D
 |some (w,i)=>.tup [.str w,.int i]
 |none=>.bN
def S4(cs:List b7)(v:Int)(rs:List eK)(ns:List Int):Option (Str×Nat) :=
 if ns.length=cs.length then((List.range ns.length).findSome? (jy cs.length ns)).orElse λ_=>(List.range ns.length).findSome? (kQ cs v rs ns) else some ("many",ns.length)
theorem getD_at{x:Int}(h:ns[i]?=some x):ns.getD i 0=x:=by simp[List.getD,h]
theorem sH(h:(List.range ns.length).findSome? (jy n ns)=none)(hi:i<ns.length):(0<=ns.getD i 0/\ns.getD i 0<n)/\ns.getD i 0∉ns.take i:=by
 have:=eG.mp h i (aN.mpr hi);unfold jy at this;split at this
 ·rename_i h1;split at this
  ·cases this
  ·rename_i h2;exact⟨h1,h2⟩
 ·cases this
theorem TQ(h:(List.range ns.length).findSome? (jy n ns)=none):∀j∈w6 ns i,j<n:=by
 intro j hj;obtain⟨x,hx,rfl⟩:=aL.mp hj;obtain⟨k,hk,rfl⟩:=bK.mp (jw hx);have:=(sH h hk).1;rw[getD_at (ai hk)] at this;omega
theorem ZZ(h:(List.range ns.length).findSome? (jy n ns)=none):(ns.take i).map D.int=b9 (w6 ns i):=by
 unfold b9 w6;rw[bz];refine gn λx hx=>?_;obtain⟨k,hk,rfl⟩:=bK.mp (jw hx);have:=(sH h hk).1;rw[getD_at (ai hk)] at this;show D.int ns[k]=D.int ((ns[k].toNat:Nat):Int);rw[Int.toNat_of_nonneg this.1]
theorem Z'(hi:i<ns.length):w6 ns (i+1)=w6 ns i++[(ns.getD i 0).toNat]:=by
 unfold w6;rw[bj,ai hi,getD_at (ai hi),cC]
 rfl
theorem Lb{l:List Int}{x:Int}:(l.any λm=>m==x)=decide (x∈l):=by
 rw[aU,aV,cq];exact⟨λ⟨y,hy,e⟩=>(ff.mp e)▸hy,λhy=>⟨x,hy,by simp⟩⟩
theorem KL{l:List α}:cut l (some (n:Int)) none=l.drop n:=by
 have:¬((n:Int)<0):=by omega
 unfold cut HT.dG;simp[this];by_cases h:n<=l.length
 ·rw[Nat.min_eq_left h,fz (by simp)]
 ·rw[Nat.min_eq_right (),fB (ay _),fB ()];simp
structure TO(T:Nat->Option aX):Prop where
 rK:T 102=some O1
 Cm:T 103=some DJ
section
variable{T:Nat->Option aX}{d:Nat}
theorem ZU(h1:NF T)(rK:T 102=some O1)(hr:g[r]?=some (.lst (ns.map .int)))(hz:ns.length<=100)(h:∀g',Ex g g'->Q (pairF (if ns.length=n then(List.range ns.length).findSome? (jy n ns) else some ("many",ns.length))) g'):c5 T (k+3) 102 [.int (n:Nat),.ref r] g Q E:=by
 refine call_of rK rfl ?_;dsimp[O1,c7,List.replicate];left;rw[ae];by_cases hn:ns.length=n
 ·rw[aJ hn] at h;refine dP (by rw[au ()];rfl) ?_;left;refine p6 (a8 T _) (vx ?_);left;refine⟨r,_,rfl,a7 hr,lM (ns.map .int),λi Z g'=>Ex g g'/\(List.range i).findSome? (jy n ns)=none/\∃z2 z3,Z=[some (.int (n:Nat)),some (.ref r),z2,z3],λi Z g' q=>ux (a7 (q.1.at hr)),⟨Ex.refl _,rfl,none,none,rfl⟩,λi x Z g' hx q=>?_,λZ g' q=>?_⟩
  ·obtain⟨e1,q,z2,z3,rfl⟩:=q;obtain⟨dd,hd,rfl⟩:=U7 hx;rw[ak,aa] at hd;obtain⟨x,nY,rfl⟩:=hd;have hi:i<ns.length:=(aj.mp nY).1;have hg:=getD_at nY;refine B4 rfl ?_
   try show wpS _ _ _ _ _ _
   left;refine x8 (k:=k) h1 ?_;left;by_cases hs:0<=x/\x<n
   ·rw[au hs.1,au (show x<=(n:Int)-1 by omega)];refine dP rfl ?_;left;refine N9 (a7 (e1.at hr)) ?_;rw[R9 (by rw[ae];omega),<- cL];refine sf (M8 (a7 a9) ?_);rw[Lb];left;refine if2 (λht=>?_) (λht=>?_)
    ·left;rw[uw q hi (show jy n ns i=some (("twice":Str),i) by unfold jy;rw[hg,aJ hs,aJ ht])] at h;exact h _ (e1.trans (Ex.snoc _ _))
    ·left;exact⟨e1.trans (Ex.snoc _ _),zd.mpr ⟨q,by unfold jy;rw[hg,aJ hs,aF ht]⟩,_,_,rfl⟩
   ·have:(decide (0<=x)&&decide (x<=(n:Int)-1))=false:=by
     rw[xY,bG,bG];omega
    rw[this];left;rw[uw q hi (show jy n ns i=some (("stranger":Str),i) by unfold jy;rw[hg,aF hs])] at h;exact h _ e1
  ·obtain⟨e1,q,z2,z3,rfl⟩:=q;rw[L4,ae] at q;rw[q] at h
   try show wpS _ _ _ _ _ _
   left;exact h _ e1
 ·rw[aF hn] at h;refine fj (by rw[av ()];rfl) ?_;left;rw[ae];exact h _ (Ex.refl _)
theorem DH{o:Option (Str×Nat)}:O4 (pairF o)=o.isNone:=by cases o<;>rfl
theorem Kc(hT:TB0 T)(hO:TO T)(B:Bd g b cs v rs)(hz:cs.length<=9)(hR:rs.length<=900)(hr:g[r]?=some (.lst (ns.map .int)))(hl:ns.length<=100)(h:∀g',Ex g g'->Q (pairF (S4 cs v rs ns)) g'):c5 T (k+4) 103 [.ref b,.ref r] g Q E:=by
 refine call_of hO.Cm rfl ?_;dsimp[DJ,c7,List.replicate];obtain⟨w0,l0,dd,nb,f1,f2,f3,f4,f5⟩:=B.ex;left;refine W5 f1 rfl ?_;left;refine ZU (k:=k) hT.nf hO.rK hr hl λg1 e1=>?_;left;rw[DH];unfold S4 at h;by_cases hn:ns.length=cs.length
 ·rw[aJ hn] at h ⊢;cases hp:(List.range ns.length).findSome? (jy cs.length ns) with
  |some x =>
   refine fj rfl ?_;left;rw[hp] at h;exact h _ e1
  |none =>
   refine dP rfl ?_;left;rw[hp] at h;have B1:=B.at e1;refine p6 (a8 T _) (vx ?_);left;refine⟨r,_,rfl,a7 (e1.at hr),lM (ns.map .int),λi Z g'=>Ex g1 g'/\(List.range i).findSome? (kQ cs v rs ns)=none/\∃(s:Nat) (z4 z5 z6:Option D),s<2 ^ cs.length/\(∀j,s.testBit j=fT (w6 ns i) j)/\Z=[some (.ref b),some (.ref r),some .bN,some (.int (s:Nat)),z4,z5,z6],λi Z g' q=>ux (a7 ((e1.trans q.1).at hr)),⟨Ex.refl _,rfl,0,none,none,none,mV _,λj=>by simp[w6],rfl⟩,λi x Z g' hx q=>?_,λZ g' q=>?_⟩
   ·obtain⟨e2,q,s,z4,z5,z6,hs,hb,rfl⟩:=q;obtain⟨d2,hd,rfl⟩:=U7 hx;rw[ak,aa] at hd;obtain⟨x,nY,rfl⟩:=hd;have hi:i<ns.length:=(aj.mp nY).1;have hg:=getD_at nY;have iS:=sH hp hi;rw[hg] at iS;obtain⟨p,rfl⟩:∃p:Nat,x=p:=⟨x.toNat,by omega⟩
    have mn:p<cs.length:=by omega
    refine B4 rfl ?_
    try show wpS _ _ _ _ _ _
    left;refine Kp (k:=k) hT (B1.at e2) hz hR hs mn λg3 e3=>?_;left;have ef:fault cs v rs s.testBit p=fault cs v rs (fT (w6 ns i)) p:=Kb λj _=>hb j;rw[ef];have vP:kQ cs v rs ns i=if fault cs v rs (fT (w6 ns i)) p="" then none else some (fault cs v rs (fT (w6 ns i)) p,i):=by unfold kQ;rw[hg];rfl
    generalize fault cs v rs (fT (w6 ns i)) p=fx at *;rw[LR];by_cases nZ:fx=""
    ·refine dP (by rw[au nZ];rfl) ?_;left;refine u6 (k:=k+2) hT.mO () ?_;left;refine⟨e2.trans e3,zd.mpr ⟨q,by rw[vP,aJ nZ]⟩,_,_,_,_,U3 hs mn,λj=>?_,rfl⟩;rw[P1,hb,Z' hi,hg];rw[aU];simp only[Bool.or_eq_true,decide_eq_true_eq,List.mem_append,List.mem_singleton,Int.toNat_natCast]
    ·refine fj (by rw[av nZ];rfl) ?_;left;have h2:=uw q hi (show kQ cs v rs ns i=some (fx,i) by rw[vP,aF nZ]);have ew:tN fx=.str fx:=by unfold tN;rw[aF nZ]
     rw[ew];rw[show(Option.none.orElse λ_:Unit=>(List.range ns.length).findSome? (kQ cs v rs ns))=some (fx,i) from h2] at h;exact h _ (e1.trans (e2.trans e3))
   ·obtain⟨e2,q,s,z4,z5,z6,hs,hb,rfl⟩:=q;rw[L4,ae] at q;rw[show(Option.none.orElse λ_:Unit=>(List.range ns.length).findSome? (kQ cs v rs ns))=none from q] at h
    try show wpS _ _ _ _ _ _
    left;exact h _ (e1.trans e2)
 ·rw[aF hn] at h ⊢;refine fj rfl ?_;left;exact h _ e1
theorem V5(hT:oq T)(nJ:T 109=some X5)(hB:∀c∈cs,CB c)(ha:g[a]?=some (.lst (cs.map b7.d)))(hz:cs.length<=9)(hc:g[c]?=some (.lst (w5 rs)))(hR:rs.length<=900)(hr:g[r]?=some (.lst (ns.map .int)))(h:∀g',Ex g g'->Q (pairF (S4 cs v rs ns)) g'):c5 T (k+3) 109 [.ref a,.int v,.ref c,.ref r] g Q E:=by
 refine call_of nJ rfl ?_;dsimp[X5,c7,List.replicate];left;rw[ae,ae];unfold S4 at h;by_cases hn:ns.length=cs.length
 ·rw[aJ hn] at h;have hz2:ns.length<=9:=by omega
  have DC:∀{i:Nat},i<ns.length->fL (ns.map D.int) (i:Int)=some (.int (ns.getD i 0)):=λ{i} hi=>n6 (by rw[ak,ai hi,getD_at (ai hi)];rfl);refine dP (by rw[au ()];rfl) ?_;left;refine p6 (a8 T _) (M1 (a8 T _) ?_);left;refine⟨by omega,by simp;omega,i6 0 ns.length,λi Z g'=>Ex g g'/\(List.range i).findSome? (jy cs.length ns)=none/\∃z4,Z=[some (.ref a),some (.int v),some (.ref c),some (.ref r),z4,none],λ_ _ _ _=>by simp only[List.length_map,Int.toNat_natCast];exact n5,⟨Ex.refl _,rfl,none,rfl⟩,λi x Z g' hx q=>?_,λZ g' q=>?_⟩
  ·obtain⟨e1,q,z4,rfl⟩:=q;obtain⟨hi,rfl⟩:=t8 hx;rw[cM];refine f7 ?_
   try show wpS _ _ _ _ _ _
   left;refine k8 (a7 (e1.at hr)) (DC hi) ?_;left;have gR:jy cs.length ns i=if 0<=ns.getD i 0/\ns.getD i 0<cs.length then(if ns.getD i 0∈ns.take i then some (("twice":Str),i) else none) else some (("stranger":Str),i):=rfl
   have str:¬(0<=ns.getD i 0/\ns.getD i 0<cs.length)->Q (.tup [.str "stranger",.int (i:Nat)]) g':=λhs=>by
    rw[uw q hi (show jy cs.length ns i=some (("stranger":Str),i) by rw[gR,aF hs])] at h;exact h _ e1
   refine if2 (λs1=>?_) (λs1=>?_)
   ·left;refine y9 (a7 (e1.at ha)) ?_;rw[ae];left;by_cases s2:ns.getD i 0<(cs.length:Nat)
    rotate_left
    ·refine fj (by rw[av s2];rfl) ?_;left;exact str λz=>s2 z.2
    refine dP (by rw[au s2];rfl) ?_;left;refine k8 (a7 (e1.at hr)) (DC hi) ?_;left;refine N9 (a7 (e1.at hr)) ?_;rw[R9 (by rw[ae];omega),<- cL];refine sf (M8 (a7 a9) ?_);rw[Lb];left;refine if2 (λht=>?_) (λht=>?_)
    ·left;rw[uw q hi (show jy cs.length ns i=some (("twice":Str),i) by rw[gR,aJ ⟨s1,s2⟩,aJ ht])] at h;exact h _ (e1.trans (Ex.snoc _ _))
    ·left;exact⟨e1.trans (Ex.snoc _ _),zd.mpr ⟨q,by rw[gR,aJ ⟨s1,s2⟩,aF ht]⟩,_,rfl⟩
   ·left;exact str λz=>s1 z.1
  ·obtain⟨e1,hp,z4,rfl⟩:=q;rw[j6] at hp;rw[hp] at h
   try show wpS _ _ _ _ _ _
   left;refine p6 (a8 T _) (M1 (a8 T _) ?_);left;refine y9 (a7 (e1.at hr)) ?_;refine⟨_,rfl,by omega,by simp;omega,i6 0 ns.length,λi Z g'=>Ex g g'/\(List.range i).findSome? (kQ cs v rs ns)=none/\∃z4 z5,Z=[some (.ref a),some (.int v),some (.ref c),some (.ref r),z4,z5],λ_ _ _ _=>by simp only[List.length_map,Int.toNat_natCast];exact n5,⟨e1,rfl,_,_,rfl⟩,λi x Z g' hx q=>?_,λZ g' q=>?_⟩
   ·obtain⟨e2,q,z4,z5,rfl⟩:=q;obtain⟨hi,rfl⟩:=t8 hx;rw[cM];have iS:=sH hp hi;have Hi:(ns.getD i 0)=(((ns.getD i 0).toNat:Nat):Int):=by omega
    refine f7 ?_
    try show wpS _ _ _ _ _ _
    left;refine N9 (a7 (e2.at hr)) ?_;rw[R9 (by rw[ae];omega),<- cL,ZZ hp];left;have e3:=e2.trans (Ex.snoc g' (O.lst (b9 (w6 ns i))));refine k8 (a7 (e3.at hr)) (DC hi) ?_;left;rw[Hi];refine Ea (k:=k) hT hB (e3.at ha) hz (e3.at hc) hR a9 (TQ hp) (by unfold w6;simp;omega) () λg4 e4=>?_;left;have vP:kQ cs v rs ns i=if fault cs v rs (fT (w6 ns i)) (ns.getD i 0).toNat="" then none else some (fault cs v rs (fT (w6 ns i)) (ns.getD i 0).toNat,i):=rfl
    generalize fault cs v rs (fT (w6 ns i)) (ns.getD i 0).toNat=fx at *;by_cases nZ:fx=""
    ·refine dP (by rw[au nZ];rfl) ?_;left;exact⟨e3.trans e4,zd.mpr ⟨q,by rw[vP,aJ nZ]⟩,_,_,rfl⟩
    ·refine fj (by rw[av nZ];rfl) ?_;left;have h2:=uw q hi (show kQ cs v rs ns i=some (fx,i) by rw[vP,aF nZ]);rw[show(Option.none.orElse λ_:Unit=>(List.range ns.length).findSome? (kQ cs v rs ns))=some (fx,i) from h2] at h;exact h _ (e3.trans e4)
   ·obtain⟨e2,q,z4,z5,rfl⟩:=q;rw[j6] at q;rw[show(Option.none.orElse λ_:Unit=>(List.range ns.length).findSome? (kQ cs v rs ns))=none from q] at h
    try show wpS _ _ _ _ _ _
    left;exact h _ e2
 ·rw[aF hn] at h;refine fj (by rw[av ()];rfl) ?_;left;rw[ae];exact h _ (Ex.refl _)
end
theorem MC:∀{l m:List Nat},l.Nodup->(∀x∈l,x∈m)->l.length<=m.length
 |[],m,_,_=>bU _
 |x::r,m,nd,h=>by
  rw[cS] at nd;have:=MC (l:=r) (m:=m.erase x) nd.2 λy hy=>(Af λz=>nd.1 (by rw[<- z];exact hy)).mpr (h y (by simp[hy]));have hx:=h x (by simp);rw[qo hx] at this;have:=fA hx;simp;omega
structure Ask(g:G)(a c:Nat)(cs:List b7)(v:Int)(rs:List eK):Prop where
 ha:g[a]?=some (.lst (cs.map b7.d))
 hz:cs.length<=9
 hG:∀c∈cs,jD c
 hv:1<=v/\v<=9
 hc:g[c]?=some (.lst (w5 rs))
 hr:rs.length<=900
 hR:rs.all (v8 cs)=true
section
variable{T:Nat->Option aX}{d:Nat}
theorem Ask.at(h:Ask g a c cs v rs)(e:Ex g g'):Ask g' a c cs v rs:=⟨e.at h.ha,h.hz,h.hG,h.hv,e.at h.hc,h.hr,h.hR⟩
theorem Ask.gr(h:Ask g a c cs v rs)(e:Gr d g g')(h1:a≠d)(h2:c≠d):Ask g' a c cs v rs:=⟨e.at h1 h.ha,h.hz,h.hG,h.hv,e.at h2 h.hc,h.hr,h.hR⟩
theorem Ask.hB(h:Ask g a c cs v rs):∀c∈cs,CB c:=λc hc=>⟨(h.hG c hc).l8,(h.hG c hc).u8⟩
theorem Ask.good(h:Ask g a c cs v rs):cs.all v9=true:=cz.mpr λc hc=>(h.hG c hc).good
theorem En(hT:TB T)(A:Ask g a c cs v rs)(h:∀g' b,Ex g g'->g.length<=b->Bd g' b cs v rs->Q (.ref b) g'):c5 T (k+10) 99 [.ref a,.int v,.ref c] g Q E:=JY hT A.ha A.hz A.good A.hB A.hv A.hc A.hr A.hR h
theorem Vg(h4:T 4=some E1)(h5:T 5=some qh)(wq:T 36=some xg){j:Int}(hj:0<=j/\j<=1000)(D0:f9 g d)(h:∀(v:Int) g',f9 g' d->Gr d g g'->Q (.int v) g'):c5 T (k+3) 36 [.ref d,.int j] g Q E:=by
 refine call_of wq rfl ?_;dsimp[xg,c7,List.replicate];left;refine d6 (k:=k+1) h4 D0 ∅ ∅ λr g1 _ _ D1 G1=>?_;left;refine if2 (λ_=>?_) (λ_=>?_)
 ·left;exact Zh (k:=k) h4 h5 D1 λr g2 D2 G2=>h r g2 D2 (G1.trans G2)
 ·left;refine d6 (k:=k+1) h4 D1 () () λr g2 _ _ D2 G2=>?_;left;exact h _ _ D2 (G1.trans G2)
theorem a08{f:α->β}{l m:List β}(h:l.Perm m):∀R:List α,m=R.map f->∃L:List α,L.Perm R/\l=L.map f:=by
 induction h with
 |nil=>exact λR e=>⟨R,.refl _,e⟩
 |cons x _ ih =>
  intro R e;cases R with
  |nil=>cases e
  |cons r R =>
   rw[bh] at e;injection e with e1 e2;obtain⟨L,h1,h2⟩:=ih R e2;exact⟨r::L,h1.cons _,by rw[e1,h2];rfl⟩
 |swap x y t =>
  intro R e
  match R,e with
  |r1::r2::R,e =>
   simp only[List.map_cons,List.cons.injEq] at e;obtain⟨rfl,rfl,rfl⟩:=e;exact⟨r2::r1::R,.swap _ _ _,rfl⟩
 |trans _ _ Oa AU =>
  intro R e;obtain⟨K,h1,h2⟩:=AU R e;obtain⟨L,h3,h4⟩:=Oa K h2;exact⟨L,h3.trans h1,h4⟩
theorem ZP(hT:oq T)(nH:T 111=some F3)(A:Ask g a c cs v rs)(h1:d<a)(h2:d<c)(D0:f9 g d)(h:∀(L:List Nat) b g',L.length=cs.length->L.Nodup->(∀j∈L,j<cs.length)->g'[b]?=some (.lst (b9 L))->g.length<=b->f9 g' d->Gr d g g'->Q (.ref b) g'):c5 T (k+3) 111 [.ref d,.ref a,.int v,.ref c] g Q E:=by
 refine call_of nH rfl ?_;dsimp[F3,c7,List.replicate];have ha:=A.ha;have hz:=A.hz;have dl:=D0.lt;left;have go:∀(N:Ends) (E:KX) g1,N.rt=Q->f9 g1 d->Gr d g g1->wpS (c5 T (k+2)) (match F3.body with|.seq _ (.seq _ b)=>b|x=>x) N [some (.ref d),some (.ref a),some (.int v),some (.ref c),some (.int ((cs.map b7.d).length:Nat)),none,none,none,none] g1 E:=by
  intro N E g1 hN D1 G1;subst hN;dsimp[F3];left;have A1:=A.gr G1 () ();have A2:=A1.at (Ex.snoc g1 (O.lst []));have D2:=D1.snoc (O.lst []);have G2:=G1.trans (Gr.snoc d g1 (O.lst []));have oa:=a9 (g:=g1) (o:=O.lst []);have l1:=G1.len;generalize g1++[O.lst []]=g2 at *;generalize g1.length=rr at *;refine p6 (a8 T _) (M1 (a8 T _) ?_);left;refine⟨by omega,by simp;omega,i6 0 cs.length,λi Z g'=>f9 g' d/\Gr d g g'/\Ask g' a c cs v rs/\(∃H:List Nat,H.length=i/\H.Nodup/\(∀j∈H,j<cs.length)/\g'[rr]?=some (.lst (b9 H)))/\∃z6 z7 z8,Z=[some (.ref d),some (.ref a),some (.int v),some (.ref c),some (.int ((cs.map b7.d).length:Nat)),some (.ref rr),z6,z7,z8],λ_ _ _ _=>by simp only[List.length_map,Int.toNat_natCast];exact n5,⟨D2,G2,A2,⟨[],rfl,by simp,by simp,oa⟩,none,none,none,rfl⟩,λi x Z g' hx q=>?_,λZ g' q=>?_⟩
  ·obtain⟨D3,G3,A3,⟨H,hl,nd,hH,qU⟩,z6,z7,z8,rfl⟩:=q;obtain⟨hi,rfl⟩:=t8 hx;rw[cM];refine f7 ?_
   try show wpS _ _ _ _ _ _
   left;refine A9 (a8 T _) (λZ=>∃z4 z5,Z=[some (.int v),some (.ref a),some (.ref rr),some (.ref c),z4,z5]) (λj=>!decide (j∈H)&&decide (fault cs v rs (fT H) j="")) (λj=>.int (j:Nat)) (l:=i6 0 cs.length) (k:=.fix (i6 0 cs.length)) (λg' e=>n5) (by rw[j6];omega) ⟨none,none,rfl⟩ (λj d Z g4 hx e sh=>?_) (λg4 e4=>?_) (xD (a8 T _) (by omega:cs.length<=1000) λQ q=>w_var (d:=.int (cs.length:Nat)) (by simp) q)
   ·obtain⟨z4,z5,rfl⟩:=sh;obtain⟨hj,rfl⟩:=t8 hx;rw[cM];refine f7 ?_
    try show dg _ _ _ _ _ _
    left;refine X9 (xw (e.at qU) ?_);left;by_cases vK:j∈H
    ·rw[au vK];refine dP rfl ?_;exact⟨rfl,e,dP rfl ⟨_,_,rfl⟩⟩
    ·rw[av vK];refine fj rfl ?_;left;have A4:=A3.at e;refine Ea (k:=k) hT A4.hB A4.ha hz A4.hc A4.hr (e.at qU) hH () hj λg5 e5=>?_;left;refine⟨rfl,e.trans e5,?_⟩;refine if2 (λ_=>?_) (λ_=>?_)
     ·left;exact⟨rfl,e.trans e5,_,_,rfl⟩
     ·exact⟨_,_,rfl⟩
   left;rw[j6];have e5:=e4.trans (Ex.snoc g4 (O.lst (((List.range cs.length).filter λj=>!decide (j∈H)&&decide (fault cs v rs (fT H) j="")).map λj=>D.int (j:Nat))));have Bz:=a9 (g:=g4) (o:=O.lst (((List.range cs.length).filter λj=>!decide (j∈H)&&decide (fault cs v rs (fT H) j="")).map λj=>D.int (j:Nat)));have gl:d<g4.length:=by have:=e4.len;have:=D3.lt;omega
   generalize g4++[O.lst (((List.range cs.length).filter λj=>!decide (j∈H)&&decide (fault cs v rs (fT H) j="")).map λj=>D.int (j:Nat))]=g5 at *;generalize g4.length=gg at *;have lH:H.length<cs.length:=by omega
   have last:∀(N:Ends) (E:KX) (z7:Option D) (x:Nat) (L:List Nat) g6,Ex g5 g6->g6[x]?=some (.lst (b9 L))->d<x->0<L.length->L.length<=9->(∀j∈L,j<cs.length/\j∉H)->(∀z7 z8 g',(f9 g' d/\Gr d g g'/\Ask g' a c cs v rs/\(∃H:List Nat,H.length=i+1/\H.Nodup/\(∀j∈H,j<cs.length)/\g'[rr]?=some (.lst (b9 H))))->N.nx [some (.ref d),some (.ref a),some (.int v),some (.ref c),some (.int ((cs.map b7.d).length:Nat)),some (.ref rr),some (.int (i:Nat)),z7,z8] g')->wpS (c5 T (k+2)) (.seq (.expr (.dU .append (.var 5) (.cons (.prim .ix (.cons (.var 8) (.cons (.call 4 (.cons (.var 0) (.cons (.prim .len (.cons (.var 8) .nil)) .nil))) .nil))) .nil))) .pass) N [some (.ref d),some (.ref a),some (.int v),some (.ref c),some (.int ((cs.map b7.d).length:Nat)),some (.ref rr),some (.int (i:Nat)),z7,some (.ref x)] g6 E:=by
    intro N E z7 x L g6 e6 Oj BB L0 L9 hL hN;have yH:=e5.trans e6;have Oo:=yH.at qU;left;have il:(b9 L).length=L.length:=by simp[b9]
    rw[il];refine d6 (k:=k+1) hT.lf.pull (yH.draw D3) () () λq g7 q0 q1 D7 G7=>?_;left;obtain⟨j,rfl⟩:∃j:Nat,q=j:=⟨q.toNat,by omega⟩
    have hj:j<L.length:=by omega
    refine k8 (a7 (G7.at () Oj)) (d:=D.int ((L[j]:Nat):Int)) (n6 (by rw[b9,ak,ai hj];rfl)) ?_;left;have GW:=G7.at (show rr≠d by omega) Oo;refine O0 GW (by simp[b9];omega) ?_;left;have hq:=hL _ (cg hj);have G37:=(G3.trans (yH.gr d)).trans G7;refine hN _ _ _ ⟨D7.F2 (),G37.F2 (),?_,H++[L[j]],by simp;omega,?_,λq ml=>?_,?_⟩
    ·have A7:=(A3.at yH).gr G7 () ();have n1:rr≠a:=λz=>by have:=A3.ha;rw[<- z,qU] at this;have eE:=k9 A.ha;omega
     have n2:rr≠c:=λz=>by have eE:=k9 A.hc;omega
     exact⟨d5 A7.ha n1,A7.hz,A7.hG,A7.hv,d5 A7.hc n2,A7.hr,A7.hR⟩
    ·rw[cu];exact⟨nd,by simp,λx hx y hy=>by cases aR.mp hy;exact λz=>hq.2 (z▸hx)⟩
    ·rcases aZ.mp ml with z|z
     ·exact hH q z
     ·cases aR.mp z;exact hq.1
    ·rw[get_set GW];simp[b9]
   refine y9 (a7 Bz) ?_;left;have il:(((List.range cs.length).filter λj=>!decide (j∈H)&&decide (fault cs v rs (fT H) j="")).map λj=>D.int (j:Nat)).length=((List.range cs.length).filter λj=>!decide (j∈H)&&decide (fault cs v rs (fT H) j="")).length:=by simp
   rw[il];refine if2 (λc0=>?_) (λc0=>?_)
   ·refine w_var (d:=.ref gg) rfl ?_;refine last _ _ _ gg ((List.range cs.length).filter λj=>!decide (j∈H)&&decide (fault cs v rs (fT H) j="")) g5 (Ex.refl _) Bz gl () (aB E4 ()) (λj hj=>?_) (λz7 z8 g' q=>⟨q.1,q.2.1,q.2.2.1,q.2.2.2,_,_,_,rfl⟩);obtain⟨h1,h2⟩:=bo.mp hj;rw[aS,fE,bG] at h2;exact⟨aN.mp h1,h2.1⟩
   ·refine A9 (a8 T _) (λZ=>∃z1 z2,Z=[some (.ref rr),z1,z2]) (λj=>!decide (j∈H)) (λj=>.int (j:Nat)) (l:=i6 0 cs.length) (k:=.fix (i6 0 cs.length)) (λg' e=>n5) (by rw[j6];omega) ⟨none,none,rfl⟩ (λj d Z g6 hx e sh=>?_) (λg6 e6=>?_) (xD (a8 T _) (by omega:cs.length<=1000) λQ q=>w_var (d:=.int (cs.length:Nat)) (by simp) q)
    ·obtain⟨z1,z2,rfl⟩:=sh;obtain⟨hj,rfl⟩:=t8 hx;rw[cM];refine f7 ?_
     try show dg _ _ _ _ _ _
     left;refine X9 (xw ((e5.trans e).at qU) ?_);left;refine⟨rfl,e,?_⟩;by_cases vK:j∈H
     ·rw[au vK];exact dP rfl ⟨_,_,rfl⟩
     ·rw[av vK];refine fj rfl ?_;left;exact⟨rfl,e,_,_,rfl⟩
    ·rw[j6];have ne:0<((List.range cs.length).filter λj=>!decide (j∈H)).length:=by
      rcases M' ((List.range cs.length).filter λj=>!decide (j∈H)).length with z|z
      ·exfalso;have z:=ip.mp z;have sub:∀j,j<cs.length->j∈H:=λj hj=>by
        refine pE λhn=>?_;have:j∈(List.range cs.length).filter λj=>!decide (j∈H):=bo.mpr ⟨aN.mpr hj,by simp[hn]⟩;rw[z] at this;cases this
       have p:(List.range cs.length).length<=H.length:=MC eJ λj hj=>sub j (aN.mp hj);rw[hJ] at p;omega
      ·exact z
     refine last _ _ _ g6.length ((List.range cs.length).filter λj=>!decide (j∈H)) _ (e6.trans (Ex.snoc _ _)) a9 (by have:=e6.len;have:=k9 Bz;omega) ne (aB E4 ()) (λj hj=>?_) (λz7 z8 g' q=>⟨q.1,q.2.1,q.2.2.1,q.2.2.2,_,_,_,rfl⟩);obtain⟨h1,h2⟩:=bo.mp hj;rw[fE,bG] at h2;exact⟨aN.mp h1,h2⟩
  ·obtain⟨D3,G3,A3,⟨H,hl,nd,hH,qU⟩,z6,z7,z8,rfl⟩:=q;rw[j6] at hl
   try show wpS _ _ _ _ _ _
   left;exact h H _ _ hl nd hH qU () D3 G3
 by_cases h0:(0:Int)<((cs.map b7.d).length:Nat)
 ·refine fj (au h0) ?_;left;refine d6 (k:=k+1) hT.lf.pull D0 ∅ ∅ λq g1 _ _ D1 G1=>?_;left;refine if2 (λ_=>?_) (λ_=>?_)
  ·left;refine AN () (by simp;omega) ?_;have l1:=G1.len;refine Y3 (k:=k) hT.lf.pull hT.lf.order a9 (by rw[j6];simp;omega) () (D1.snoc _) λl' b g2 hp hb OX D2 G2=>?_;obtain⟨L,p1,rfl⟩:=a08 hp (f:=λi:Nat=>D.int i) (List.range cs.length) (by simp[i6]);exact h L b g2 (by rw[p1.length_eq];simp) (p1.nodup_iff.mpr eJ) (λj hj=>aN.mp (p1.mem_iff.mp hj)) hb (by simp at OX;omega) D2 ((G1.trans (Gr.snoc _ _ _)).trans G2)
  ·refine q9 ?_;exact go _ _ g1 rfl D1 G1
 ·refine dP (av h0) ?_;refine dP rfl ?_;refine q9 ?_;exact go _ _ g rfl D0 (Gr.refl _ _)
theorem aA6(hT:oq T)(nH:T 111=some F3)(A:Ask g a c cs v rs)(h1:d<a)(h2:d<c)(D0:f9 g d)(h:∀(ns:List Int) b g',ns.length=cs.length->g'[b]?=some (.lst (ns.map .int))->g.length<=b->f9 g' d->Gr d g g'->Q (.ref b) g'):c5 T (k+3) 111 [.ref d,.ref a,.int v,.ref c] g Q E :=
 ZP hT nH A h1 h2 D0 λL b g' l1 _ _ hb=>h (L.map λ(i:Nat)=>(i:Int)) b g' (by simpa using l1) (by rw[<- zr];exact hb)
end
def FG(n:Nat)(F:Nat->List Nat):Prop:=∀s p,p∈F s->p<n/\s.testBit p=false
def M0(n:Nat)(F:Nat->List Nat):Nat->Nat->List (List Nat)
 |0,s=>if s=2 ^ n-1 then[[]] else[]
 |f+1,s=>if s=2 ^ n-1 then[[]] else(F s).flatMap λp=>(M0 n F f (s |||2 ^ p)).map (p::·)
def j5(n:Nat)(F:Nat->List Nat)(s:Nat):List (List Nat):=M0 n F (2 ^ n) s
theorem zU{s:Nat}(h:s.testBit p=false):s<s |||2 ^ p:=by
 have h1:s<=s |||2 ^ p:=Nat.left_le_or
 have h2:s |||2 ^ p≠s:=λe=>by
  have:=P1 s p p;rw[e,h] at this;simp at this
 omega
theorem L3{l:List α}{f g:α->List β}(h:∀x∈l,f x=g x):l.flatMap f=l.flatMap g:=by
 induction l with
 |nil=>rfl
 |cons a r ih=>rw[dt,dt,h a (by simp),ih λx hx=>h x (by simp[hx])]
theorem JQ{n:Nat}{F:Nat->List Nat}(hF:FG n F):∀(f s:Nat),s<2 ^ n->2 ^ n-1-s<=f->M0 n F f s=M0 n F (f+1) s
 |0,s,hs,hf=>by
  have e:s=2 ^ n-1:=by omega
  simp only[M0];rw[aJ e,aJ e]
 |f+1,s,hs,hf=>by
  rw[M0,M0];by_cases e:s=2 ^ n-1
  ·rw[aJ e,aJ e]
  ·rw[aF e,aF e];refine L3 λp hp=>?_;have:=hF s p hp;rw[JQ hF f (s |||2 ^ p) (U3 hs this.1) (by have:=zU this.2;omega)]
theorem X0{F:Nat->List Nat}{s:Nat}(h:s=2 ^ n-1):j5 n F s=[[]]:=by
 unfold j5;obtain⟨m,hm⟩:∃m,2 ^ n=m+1:=⟨2 ^ n-1,by have:=gK (n:=n);omega⟩
 rw[hm,M0,aJ h]
theorem zi{F:Nat->List Nat}(hF:FG n F){s:Nat}(hs:s<2 ^ n)(h:s≠2 ^ n-1):j5 n F s=(F s).flatMap λp=>(j5 n F (s |||2 ^ p)).map (p::·):=by
 unfold j5;obtain⟨m,hm⟩:∃m,2 ^ n=m+1:=⟨2 ^ n-1,by have:=gK (n:=n);omega⟩
 conv=>lhs;rw[hm,M0,aF h]
 refine L3 λp hp=>?_;have:=hF s p hp;rw[hm,<- JQ hF m (s |||2 ^ p) (U3 hs this.1) ()]
theorem UJ{F:Nat->List Nat}(hF:FG n F){s:Nat}(hs:s<2 ^ n)(h:s≠2 ^ n-1):(j5 n F s).length=((F s).map λp=>(j5 n F (s |||2 ^ p)).length).sum:=by
 rw[zi hF hs h,FU];simp[Function.comp_def]
inductive ki(F:Nat->List Nat):Nat->Prop
 |zero:ki F 0
 |step {s p:Nat} (h:ki F s) (hp:p∈F s):ki F (s |||2 ^ p)
theorem ki.lt{F:Nat->List Nat}(hF:FG n F){s:Nat}(h:ki F s):s<2 ^ n:=by
 induction h with
 |zero=>exact mV _
 |step h hp ih=>exact U3 ih (hF _ _ hp).1
theorem C9(cs:List b7)(v:Int)(rs:List eK):FG cs.length (i8 cs v rs):=λs p hp=>by
 obtain⟨h1,h2⟩:=bo.mp hp;unfold C6 at h2;rw[aS,fE] at h2;exact⟨aN.mp h1,h2.1⟩
theorem JL{f:α->List β}{l:List α}{x:α}(hx:l[j]?=some x)(m:Nat):(l.flatMap f)[((l.take j).flatMap f).length+m]?=((l.drop j).flatMap f)[m]?/\(l.drop j).flatMap f=f x++(l.drop (j+1)).flatMap f:=by
 have e:l.flatMap f=(l.take j).flatMap f++(l.drop j).flatMap f:=by rw[<- jO,jd]
 have hj:j<l.length:=(aj.mp hx).1;have ed:l.drop j=x::l.drop (j+1):=by
  rw[cF hj]
  congr 1
  exact(aj.mp hx).2
 constructor
 ·rw[e,bI ()]
  congr 1
  omega
 ·rw[ed,dt]
noncomputable abbrev kN(j:Nat):Key:=.inl (j:Int)
theorem a98{c:Key}:u7 (putD kvs c x) c=some x:=by
 unfold u7 putD;by_cases h:(kvs.any λkv=>decide (kv.1=c))=true
 ·rw[aJ h]
  induction kvs with
  |nil=>cases h
  |cons kv r ih =>
   rw[bh,fb];by_cases hk:kv.1=c
   ·rw[aJ hk];simp[hk]
   ·rw[aF hk];simp only[hk,decide_false];refine ih ?_;rw[fS,dk] at h;exact h.resolve_left (by simp[hk])
 ·rw[aF h,kX];have:kvs.find? (λkv=>decide (kv.1=c))=none:=by
   rw[kn];exact λkv hk hc=>h (aV.mpr ⟨kv,hk,hc⟩)
  rw[this];simp
theorem aZ4{c c':Key}(hn:c≠c'):u7 (putD kvs c x) c'=u7 kvs c':=by
 unfold u7 putD;by_cases h:(kvs.any λkv=>decide (kv.1=c))=true
 ·rw[aJ h];clear h
  induction kvs with
  |nil=>rfl
  |cons kv r ih =>
   rw[bh,fb,fb];by_cases hk:kv.1=c
   ·rw[aJ hk];have:kv.1≠c':=λz=>hn (hk.symm.trans z);simp only[this,decide_false];exact ih
   ·rw[aF hk];by_cases lz:kv.1=c'
    ·simp only[lz,decide_true]
    ·simp only[lz,decide_false];exact ih
 ·rw[aF h,kX];have:[(c,x)].find? (λkv=>decide (kv.1=c'))=none:=by simp[hn]
  rw[this];simp
theorem a97{c:Key}:(putD kvs c x).length<=kvs.length+1:=by
 unfold putD;split<;>simp
theorem XQ{i:Nat}(h:i≠j):kN i≠kN j:=λz=>h (by have:(i:Int)=j:=Sum.inl.inj z;omega)
def K6:aX:=⟨1,5,(.seq (.set 1 (.prim (.kx 0) .nil)) (.seq (.set 2 (.prim .lst .nil)) (.seq (.dw (.one 3) (.dW (br (.bin .Add) (cJ (.fld "full") aI) (aY 1))) (.seq (.ifs (cY .In bp aT) (.seq (.expr (.dU .append bc (eT bp))) (.seq (.dw (.one 4) (.fe (.call 116 (cW aI bp))) (.seq (.expr (.dU .ky aT (eT (.call 91 (cW bp bE))))) .pass)) .pass)) .pass) .pass)) (.seq (.ret bc) .pass))))⟩
def Dv:aX:=⟨1,3,(.seq (.set 1 (.prim .oZ .nil)) (.seq (.dw (.one 2) (.nX (.call 117 (eT aI))) (.seq (.ifs (cY .Eq bc (cJ (.fld "full") aI)) (.seq (.eP aT bc (aY 1)) .pass) (.seq (.eP aT bc (cJ .sum (.comp [2,1] 4 (.one 3) (.fe (.call 116 (cW aI bc))) .no (cB aT (.call 91 (cW aI bp)))))) .pass)) .pass)) (.seq (.ret aT) .pass)))⟩
def zf:aX:=⟨4,7,(.seq (.set 4 (.call 116 (cW aI bc))) (.seq (.set 5 bp) (.seq (.set 6 (aY 0)) (.seq (.kq (cY .GtE cN (cB aT (.call 91 (cW bc (cB bE dZ))))) (.seq (.kd 5 .nu (cB aT (.call 91 (cW bc (cB bE dZ))))) (.seq (.kd 6 .iadd (aY 1)) .pass))) (.seq (.ret (br .tup (cB bE dZ) cN)) .pass)))))⟩
def P5:aX:=⟨3,7,(.seq (.set 3 (.prim .lst .nil)) (.seq (.set 4 (aY 0)) (.seq (.set 5 bc) (.seq (.kq (cY .NotEq bE (cJ (.fld "full") aI)) (.seq (.lY (.many [6,5]) (.call 122 (jR aI aT bE cN))) (.seq (.expr (.dU .append bp (eT dZ))) (.seq (.set 4 (.call 91 (cW bE dZ))) .pass)))) (.seq (.ret bp) .pass)))))⟩
def zw:aX:=⟨3,3,(.seq (.ret (cB (.call 121 (eT (.call 99 (gO aI aT bc)))) (aY 0))) .pass)⟩
theorem xA:∀{l m:List Nat},l.Nodup->(∀x∈l,x∈m)->l.length<=m.length
 |[],m,_,_=>bU _
 |x::r,m,nd,h=>by
  rw[cS] at nd;have:=xA (l:=r) (m:=m.erase x) nd.2 λy hy=>(Af λz=>nd.1 (by rw[<- z];exact hy)).mpr (h y (by simp[hy]));have hx:=h x (by simp);rw[qo hx] at this;have:=fA hx;simp;omega
section
variable{Z:S}
inductive xQ(P:fk)(t:MT)(elt:ME)(Q:KD)(Z:S)(k:IK)(g1:G):Prop
 |mk (l:List D) (Sh:S->Prop) (w:Nat->D) (hk:∀g',Ex g1 g'->k.Is l g') (hl:l.length<=1000) (h0:Sh Z)
   (hs:∀i d Z g',l[i]?=some d->Ex g1 g'->Sh Z->jF t d Z λcA=>aW P elt cA g' (λy g4=>y=w i/\Ex g1 g4/\Sh cA) iX) (hd:∀g',Ex g1 g'->Q (.ref g'.length) (g'++[.lst ((List.range l.length).map w)])):xQ P t elt Q Z k g1
theorem a48(hP:j4 P)(h:gS P it Z g (xQ P t elt Q (F6 Z d4 n)) E):aW P (.comp d4 n t it .no elt) Z g Q E:=by
 refine E6 hP (B5 hP it _ _ _ _ _ _ (λk g1 h=>?_) (λ_ _ z=>z) h);obtain⟨l,Sh,w,hk,hl,h0,hs,hd⟩:=h;refine⟨l,λi ys Z g'=>Ex g1 g'/\ys=(List.range i).map w/\Sh Z,hl,λi ys Z g' q=>⟨hk _ q.1,by rw[q.2.1];simp⟩,⟨Ex.refl _,rfl,h0⟩,λi x ys Z g' hx q=>?_,λys Z g' q=>?_⟩
 ·obtain⟨e1,rfl,sh⟩:=q;refine x6 (λcA q=>xl (lG (c6 hP elt _ _ _ _ _ _ (λy g4 q=>?_) (λ_ _ z=>z) q))) (hs i x Z g' hx e1 sh);obtain⟨rfl,e4,sh⟩:=q;exact⟨e4,by rw[dR,cC];rfl,sh⟩
 ·obtain⟨e1,rfl,sh⟩:=q;exact hd g' e1
end
def oW(g:G)(sd n:Nat)(K:List Nat):Prop:=∃S m,g[sd]?=some (.set S m)/\m=K.length/\K.Nodup/\(∀j∈K,j<2 ^ n)/\∀k:Int,S k=true↔∃j∈K,k=(j:Nat)
theorem oW.at{g g':G}{sd n:Nat}{K:List Nat}(h:oW g sd n K)(e:Ex g g'):oW g' sd n K:=let ⟨S,m,h1,h2⟩:=h;⟨S,m,e.at h1,h2⟩
theorem oW.size{sd:Nat}{K:List Nat}(h:oW g sd n K):K.length<=2 ^ n:=by
 obtain⟨S,m,_,_,nd,lt,_⟩:=h;have:=xA (m:=List.range (2 ^ n)) nd λx hx=>aN.mpr (lt x hx);simpa using this
structure TW(T:Nat->Option aX):Prop where
 rG:T 117=some K6
 Cd:T 121=some Dv
structure Wy(g:G)(w:Nat)(cs:List b7)(v:Int)(rs:List eK):Prop where
 ex:∃kvs,g[w]?=some (.dX kvs)/\∀s,ki (i8 cs v rs) s->u7 kvs (kN s)=some (.int ((j5 cs.length (i8 cs v rs) s).length:Nat))
theorem Wy.at{g g':G}{w:Nat}{cs:List b7}{v:Int}{rs:List eK}(h:Wy g w cs v rs)(e:Ex g g'):Wy g' w cs v rs:=let ⟨kvs,h1,h2⟩:=h.ex;⟨⟨kvs,e.at h1,h2⟩⟩
theorem aT8{l:List Nat}(hl:l.Pairwise (· > ·)){s x:Nat}(hi:l[i]?=some s)(hx:x∈l)(h:s<x):x∈l.take i:=by
 obtain⟨j,hj,rfl⟩:=bK.mp hx;obtain⟨iW,rfl⟩:=aj.mp hi;have OL:j<i:=by
  rcases dn j i with z|z|z
  ·exact z
  ·subst z;omega
  ·have:=eL.mp hl i j iW hj z;omega
 exact cw.mpr ⟨j,by rw[eW OL,ai hj]⟩
theorem De(h:n<=9):1<=2 ^ n/\2 ^ n<=512:=⟨gK,fW () h⟩
section
variable{T:Nat->Option aX}{d:Nat}
theorem aS7(hT:TB0 T)(hF:TF T)(rG:T 117=some K6)(B:Bd g b cs v rs)(hz:cs.length<=9)(hr:rs.length<=900)(h:∀(L:List Nat) l g',Ex g g'->g.length<=l->g'[l]?=some (.lst (b9 L))->L.Pairwise (· < ·)->(∀s,s∈L↔ki (i8 cs v rs) s)->L.length<=512->Q (.ref l) g'):c5 T (k+6) 117 [.ref b] g Q E:=by
 refine call_of rG rfl ?_;dsimp[K6,c7,List.replicate];have jt:=C9 cs v rs;generalize og:i8 cs v rs=F at *;obtain⟨w0,l0,dd,nb,f1,f2,f3,f4,f5⟩:=B.ex;have p2:=De hz;left;refine Tu ?_;have s1:oW (g++[O.set (λk=>decide (k=0)) 1]) g.length cs.length [0]:=⟨_,_,a9,rfl,by simp,by simp;omega,λk=>by simp⟩
 have e1:=Ex.snoc g (O.set (λk=>decide (k=0)) 1);generalize g++[O.set (λk=>decide (k=0)) 1]=g1 at *;left;have e2:=e1.trans (Ex.snoc g1 (O.lst []));have s2:=s1.at (Ex.snoc g1 (O.lst []));have t2:=a9 (g:=g1) (o:=O.lst []);have l1:g.length<g1.length:=by obtain⟨_,_,z,_⟩:=s1;exact k9 z
 generalize g1++[O.lst []]=g2 at *;generalize g1.length=tl at *;refine p6 (a8 T _) (M1 (a8 T _) ?_);left;refine W5 (e2.at f1) rfl ?_;left;have en:((2 ^ cs.length-1:Nat):Int)+1=((2 ^ cs.length:Nat):Int):=by omega
 rw[en];refine⟨by omega,by omega,i6 0 (2 ^ cs.length),λt Z g'=>Ex g g'/\(∃K,oW g' g.length cs.length K/\∀j,j∈K↔j=0\/∃s p,s<t/\ki F s/\p∈F s/\j=s |||2 ^ p)/\(∃L,g'[tl]?=some (.lst (b9 L))/\L.Pairwise (· < ·)/\(∀s,s∈L↔s<t/\ki F s)/\L.length<=t)/\∃z3 z4,Z=[some (.ref b),some (.ref g.length),some (.ref tl),z3,z4],λ_ _ _ _=>by rw[cv];exact n5,⟨e2,⟨[0],s2,λj=>by simp⟩,⟨[],t2,by simp,by simp,by simp⟩,none,none,rfl⟩,λt x Z g' hx q=>?_,λZ g' q=>?_⟩
 ·obtain⟨e3,⟨K,s3,hK⟩,⟨L,t3,pw,hL,BS⟩,z3,z4,rfl⟩:=q;obtain⟨ht,rfl⟩:=t8 hx;rw[cM];have nA:t∈K↔ki F t:=by
   rw[hK];constructor
   ·rintro(rfl|⟨s,p,_,h2,h3,rfl⟩)
    ·exact .zero
    ·exact .step h2 h3
   ·intro h;cases h with
    |zero=>exact .inl rfl
    |step h hp=>exact .inr ⟨_,_,zU (jt _ _ hp).2,h,hp,rfl⟩
  refine f7 ?_
  try show wpS _ _ _ _ _ _
  left;obtain⟨S,m,sg,sm,snd,slt,sS⟩:=id s3;refine Xh sg ?_;left;have HA:S (t:Nat)=true↔ki F t:=by
   rw[sS,<- nA];exact⟨λ⟨j,hj,e⟩=>by rw[show t=j by omega];exact hj,λz=>⟨t,z,rfl⟩⟩
  cases hb:S (t:Nat) with
  |false =>
   have mM:¬ki F t:=λz=>by rw[HA.mpr z] at hb;cases hb
   refine dP rfl ?_;left;refine⟨e3,⟨K,s3,λj=>(hK j).trans ⟨?_,?_⟩⟩,⟨L,t3,pw,λs=>(hL s).trans ⟨λz=>⟨by omega,z.2⟩,λz=>⟨?_,z.2⟩⟩,by omega⟩,_,_,rfl⟩
   ·rintro(z|⟨s,p,h1,h2⟩)
    ·exact .inl z
    ·exact .inr ⟨s,p,by omega,h2⟩
   ·rintro(z|⟨s,p,h1,h2,h3⟩)
    ·exact .inl z
    ·refine .inr ⟨s,p,?_,h2,h3⟩;rcases gy s t with y|y
     ·exact y
     ·exact absurd (show ki F t by rw[show t=s by omega];exact h2) mM
   ·rcases gy s t with y|y
    ·exact y
    ·exact absurd (show ki F t by rw[show t=s by omega];exact z.2) mM
  |true =>
   have hR:=HA.mp hb;refine fj rfl ?_;left;refine O0 t3 (by simp[b9];omega) ?_;have Nz:tl≠g.length:=by omega
   have s4:oW (g'.set tl (.lst (b9 L++[D.int (t:Nat)]))) g.length cs.length K:=⟨S,m,d5 sg Nz,sm,snd,slt,sS⟩
   have t4:(g'.set tl (.lst (b9 L++[D.int (t:Nat)])))[tl]?=some (.lst (b9 (L++[t]))):=by rw[get_set t3];simp[b9]
   have e4:Ex g (g'.set tl (.lst (b9 L++[D.int (t:Nat)]))):=⟨by simp;exact e3.len,λi hi=>by rw[az ()];exact e3.old i hi⟩
   generalize g'.set tl (.lst (b9 L++[D.int (t:Nat)]))=g4 at *;left;refine p6 (a8 T _) (kO (a8 T _) ?_);left;refine O5 (k:=k) hT hF (B.at e4) hz hr ht λg5 fl e5 Hn h5=>?_;rw[og] at h5;have l4:tl<g4.length:=k9 t4;refine⟨fl,_,rfl,a7 h5,b9 (F t),λj Z g'=>Ex g g'/\g'[fl]?=some (.lst (b9 (F t)))/\g'[tl]?=some (.lst (b9 (L++[t])))/\(∃K',oW g' g.length cs.length K'/\∀x,x∈K'↔x∈K\/∃p∈(F t).take j,x=t |||2 ^ p)/\∃z4,Z=[some (.ref b),some (.ref g.length),some (.ref tl),some (.int (t:Nat)),z4],λj Z g' q=>m7 (a7 q.2.1),⟨e4.trans e5,h5,e5.at t4,⟨K,s4.at e5,λx=>by simp⟩,z4,rfl⟩,λj x Z g' hx q=>?_,λZ g' q=>?_⟩
   ·obtain⟨e6,h6,t6,⟨K',s6,tK⟩,z4,rfl⟩:=q;rw[b9,ak,aa] at hx;obtain⟨p,hp,rfl⟩:=hx;have ny:=aC hp;have mn:=(jt _ _ ny)
    have tk:(F t).take (j+1)=(F t).take j++[p]:=by rw[bj,hp];rfl
    obtain⟨S6,m6,yd,Gf,uQ,uR,sW⟩:=id s6;refine f7 ?_
    try show wpS _ _ _ _ _ _
    left;refine⟨Th yd,?_⟩;left;refine u6 (k:=k+4) hT.mO () ?_;left;have hsz:=s6.size;refine ZE yd () ?_;left;have eE:=U3 ht mn.1;refine⟨⟨by simp;exact e6.len,λi hi=>by rw[az ()];exact e6.old i hi⟩,d5 h6 (by have:=e4.len;omega),d5 t6 (),?_,_,rfl⟩;by_cases iS:S6 ((t |||2 ^ p:Nat):Int)=true
    ·refine⟨K',⟨_,_,get_set yd,by rw[aJ iS];exact Gf,uQ,uR,λk=>?_⟩,λx=>?_⟩
     ·rw[dk,cq];constructor
      ·rintro(z|z)
       ·exact(sW k).mp z
       ·subst z;exact(sW _).mp iS
      ·exact λz=>.inl ((sW k).mpr z)
     ·rw[tK x,tk];simp only[List.mem_append,List.mem_singleton];constructor
      ·rintro(z|⟨q,z1,z2⟩)
       ·exact .inl z
       ·exact .inr ⟨q,.inl z1,z2⟩
      ·rintro(z|⟨q,z1|z1,z2⟩)
       ·exact .inl z
       ·exact .inr ⟨q,z1,z2⟩
       ·subst z1 z2;obtain⟨y,y1,y2⟩:=(sW _).mp iS;rw[<- tK,show(t |||2 ^ q)=y by omega];exact y1
    ·have Bk:(t |||2 ^ p)∉K':=λz=>iS ((sW _).mpr ⟨_,z,rfl⟩);refine⟨K'++[t |||2 ^ p],⟨_,_,get_set yd,by rw[aF iS];simp[Gf],?_,λy hy=>?_,λk=>?_⟩,λx=>?_⟩
     ·rw[cu];exact⟨uQ,by simp,λx hx y hy=>by cases aR.mp hy;exact λz=>Bk (z▸hx)⟩
     ·rcases aZ.mp hy with z|z
      ·exact uR y z
      ·cases aR.mp z;exact eE
     ·rw[dk,cq,sW];simp only[List.mem_append,List.mem_singleton];constructor
      ·rintro(⟨y,y1,y2⟩|z)
       ·exact⟨y,.inl y1,y2⟩
       ·exact⟨_,.inr rfl,z⟩
      ·rintro⟨y,y1|y1,y2⟩
       ·exact .inl ⟨y,y1,y2⟩
       ·subst y1;exact .inr y2
     ·rw[aZ,aR,tK x,tk];simp only[List.mem_append,List.mem_singleton];constructor
      ·rintro((z|⟨q,z1,z2⟩)|z)
       ·exact .inl z
       ·exact .inr ⟨q,.inl z1,z2⟩
       ·exact .inr ⟨p,.inr rfl,z⟩
      ·rintro(z|⟨q,z1|z1,z2⟩)
       ·exact .inl (.inl z)
       ·exact .inl (.inr ⟨q,z1,z2⟩)
       ·subst z1;exact .inr z2
   ·obtain⟨e6,h6,t6,⟨K',s6,tK⟩,z4,rfl⟩:=q;rw[b9,ae,bH] at tK
    try show wpS _ _ _ _ _ _
    left;refine⟨e6,⟨K',s6,λj=>(tK j).trans ?_⟩,⟨L++[t],t6,?_,λs=>?_,by simp;omega⟩,_,_,rfl⟩
    ·rw[hK j];constructor
     ·rintro((z|⟨s,p,h1,h2⟩)|⟨p,h1,h2⟩)
      ·exact .inl z
      ·exact .inr ⟨s,p,by omega,h2⟩
      ·exact .inr ⟨t,p,by omega,hR,h1,h2⟩
     ·rintro(z|⟨s,p,h1,h2,h3,h4⟩)
      ·exact .inl (.inl z)
      ·rcases gy s t with y|y
       ·exact .inl (.inr ⟨s,p,y,h2,h3,h4⟩)
       ·have:s=t:=by omega
        subst this;exact .inr ⟨p,h3,h4⟩
    ·rw[Ae];exact⟨pw,by simp,λx hx y hy=>by cases aR.mp hy;exact((hL x).mp hx).1⟩
    ·rw[aZ,aR,hL s];constructor
     ·rintro(z|z)
      ·exact⟨by omega,z.2⟩
      ·subst z;exact⟨by omega,hR⟩
     ·rintro⟨z1,z2⟩;rcases gy s t with y|y
      ·exact .inl ⟨y,z2⟩
      ·exact .inr ()
 ·obtain⟨e3,⟨K,s3,hK⟩,⟨L,t3,pw,hL,BS⟩,z3,z4,rfl⟩:=q;rw[j6] at hL BS
  try show wpS _ _ _ _ _ _
  left;exact h L tl g' e3 () t3 pw (λs=>(hL s).trans ⟨λz=>z.2,λz=>⟨z.lt jt,z⟩⟩) ()
theorem Dz(hT:TB0 T)(hF:TF T)(hW:TW T)(B:Bd g b cs v rs)(hz:cs.length<=9)(hr:rs.length<=900)(h:∀w g',Ex g g'->g.length<=w->Wy g' w cs v rs->Q (.ref w) g'):c5 T (k+7) 121 [.ref b] g Q E:=by
 refine call_of hW.Cd rfl ?_;dsimp[Dv,c7,List.replicate];have jt:=C9 cs v rs;generalize og:i8 cs v rs=F at *;obtain⟨w0,l0,dd,nb,f1,f2,f3,f4,f5⟩:=B.ex;have p2:=De hz;left;have e1:=Ex.snoc g (O.dX []);have w1:=a9 (g:=g) (o:=O.dX []);generalize g++[O.dX []]=g1 at *;refine p6 (a8 T _) (Od ?_);left;refine aS7 (k:=k) hT hF hW.rG (B.at e1) hz hr λL l g2 e2 hl h2 pw hL BS=>?_;rw[og] at hL;have lw:=k9 w1;have NK:L.reverse.Pairwise (· > ·):=List.pairwise_reverse.mpr pw;have AS:(b9 L).length=L.length:=by simp[b9]
 refine⟨l,_,rfl,a7 h2,(b9 L).reverse,λi Z g'=>Ex g g'/\g'[l]?=some (.lst (b9 L))/\(∃kvs,g'[g.length]?=some (.dX kvs)/\kvs.length<=i/\∀s∈L.reverse.take i,u7 kvs (kN s)=some (.int ((j5 cs.length F s).length:Nat)))/\∃z2,Z=[some (.ref b),some (.ref g.length),z2],λi Z g' q=>Zo (a7 q.2.1),⟨e1.trans e2,h2,⟨[],e2.at w1,by simp,by simp⟩,none,rfl⟩,λi x Z g' hx q=>?_,λZ g' q=>?_⟩
 ·obtain⟨e3,h3,⟨kvs,w3,hk,vI⟩,z2,rfl⟩:=q;rw[b9,<- List.map_reverse,ak,aa] at hx;obtain⟨s,hs,rfl⟩:=hx;have Hf:i<L.length:=by have:=(aj.mp hs).1;simpa using this
  have GP:ki F s:=(hL s).mp (lS.mp (aC hs));have pP:=GP.lt jt;have tk:L.reverse.take (i+1)=L.reverse.take i++[s]:=by rw[bj,hs];rfl
  have fin:∀(N:Ends) g4 z2,Ex g' g4->(∀g5,(Ex g g5/\g5[l]?=some (.lst (b9 L))/\(∃kvs,g5[g.length]?=some (.dX kvs)/\kvs.length<=i+1/\∀s∈L.reverse.take (i+1),u7 kvs (kN s)=some (.int ((j5 cs.length F s).length:Nat)))/\∃z2,([some (.ref b),some (.ref g.length),z2]:S)=[some (.ref b),some (.ref g.length),z2])->N.nx [some (.ref b),some (.ref g.length),z2] g5)->S1 (.ref g.length) (.int (s:Nat)) (.int ((j5 cs.length F s).length:Nat)) g4 λg5=>N.nx [some (.ref b),some (.ref g.length),z2] g5:=λN g4 z2 e4 hN=>by
   refine IU (e4.at w3) rfl () ?_;refine hN _ ⟨⟨by simp;exact(e3.trans e4).len,λj hj=>by rw[az ()];exact(e3.trans e4).old j hj⟩,d5 (e4.at h3) (),⟨_,get_set (e4.at w3),aB a97 (),λs' GR=>?_⟩,z2,rfl⟩;rw[tk] at GR;by_cases Bb:s'=s
   ·subst Bb;exact a98
   ·refine(aZ4 (XQ (cb Bb))).trans (vI s' ?_);rcases aZ.mp GR with z|z
    ·exact z
    ·exact absurd (aR.mp z) Bb
  refine f7 ?_
  try show wpS _ _ _ _ _ _
  left;refine W5 (e3.at f1) rfl ?_;left;have ed:decide (((s:Nat):Int)=((2 ^ cs.length-1:Nat):Int))=decide (s=2 ^ cs.length-1):=fN.mpr ();rw[ed];refine if2 (λc1=>?_) (λc1=>?_)
  ·left;have e1:(1:Int)=((j5 cs.length F s).length:Nat):=by rw[X0 c1];rfl
   rw[e1];exact fin _ _ _ (Ex.refl _) λg5 z=>⟨z.1,z.2.1,z.2.2.1,_,rfl⟩
  ·left;refine a48 (a8 T _) (kO (a8 T _) ?_);left;refine O5 (k:=k+1) hT hF (B.at e3) hz hr pP λg4 fl e4 Hn h4=>?_;rw[og] at h4;refine⟨fl,_,rfl,a7 h4,b9 (F s),λZ=>∃z2 z3,Z=[some (.int (s:Nat)),some (.ref g.length),z2,z3],λi=>.int ((j5 cs.length F (s |||2 ^ ((F s).getD i 0))).length:Nat),λg' e=>m7 (a7 (e.at h4)),?_,⟨none,none,rfl⟩,λj d Z g5 hx e5 sh=>?_,λg5 e5=>?_⟩
   ·have:(F s).length<=cs.length:=by rw[<- og];exact E4
    simp[b9];omega
   ·obtain⟨z2,z3,rfl⟩:=sh;rw[b9,ak,aa] at hx;obtain⟨p,hp,rfl⟩:=hx;have ny:=aC hp;have mn:=jt _ _ ny;refine f7 ?_
    try show aW _ _ _ _ _ _
    left;refine u6 (k:=k+5) hT.mO () ?_;have hv:u7 kvs (kN (s |||2 ^ p))=some (.int ((j5 cs.length F (s |||2 ^ p)).length:Nat)):=by
     refine vI _ (aT8 NK hs (lS.mpr ((hL _).mpr (.step GP ny))) (zU mn.2))
    refine tV ((e4.trans e5).at w3) rfl hv ?_;exact⟨by simp[List.getD,hp],e5,_,_,rfl⟩
   ·have el:(List.range (b9 (F s)).length).map (λi=>D.int ((j5 cs.length F (s |||2 ^ ((F s).getD i 0))).length:Nat))=(((F s).map λp=>(j5 cs.length F (s |||2 ^ p)).length).map λ(n:Nat)=>(n:Int)).map D.int:=by
     refine cR λi=>?_;rw[ak,ak,ak,ak];by_cases hi:i<(F s).length
     ·rw[bO (by simpa[b9] using hi),ai hi];simp[List.getD,hi]
     ·rw[aM (by simpa[b9] using hi),aM ()]
      rfl
    rw[el];refine EL (a7 a9) ?_;have es:(((F s).map λp=>(j5 cs.length F (s |||2 ^ p)).length).map λ(n:Nat)=>(n:Int)).sum=((j5 cs.length F s).length:Nat):=by
     rw[UJ jt pP c1];generalize (F s).map (λp=>(j5 cs.length F (s |||2 ^ p)).length)=m
     induction m with
     |nil=>rfl
     |cons x r ih=>simp[ih]
    rw[es];left;exact fin _ _ _ (e4.trans (e5.trans (Ex.snoc _ _))) λg6 z=>⟨z.1,z.2.1,z.2.2.1,_,rfl⟩
 ·obtain⟨e3,h3,⟨kvs,w3,hk,vI⟩,z2,rfl⟩:=q;rw[List.length_reverse,AS,fz (by simp)] at vI
  try show wpS _ _ _ _ _ _
  left;refine h _ _ e3 (ay _) ⟨⟨kvs,w3,λs hs=>?_⟩⟩;rw[og] at hs ⊢;exact vI s (lS.mpr ((hL s).mpr hs))
end
structure TN(T:Nat->Option aX):Prop where
 rF:T 122=some zf
 Cc:T 123=some P5
section
variable{T:Nat->Option aX}{d:Nat}{w:Nat}
theorem aL4(hT:TB T)(hF:TF T)(hW:TW T)(rE:T 126=some zw)(ha:g[a]?=some (.lst (cs.map b7.d)))(hz:cs.length<=9)(hg:cs.all v9=true)(hB:∀c∈cs,CB c)(hv:1<=v/\v<=9)(hc:g[c]?=some (.lst (w5 rs)))(hr:rs.length<=900)(hR:rs.all (v8 cs)=true)(h:∀g',Ex g g'->Q (.int ((j5 cs.length (i8 cs v rs) 0).length:Nat)) g'):c5 T (k+11) 126 [.ref a,.int v,.ref c] g Q E:=by
 refine call_of rE rfl ?_;dsimp[zw,c7,List.replicate];left;refine JY (k:=k) hT ha hz hg hB hv hc hr hR λg1 b e1 _ B=>?_;left;refine Dz (k:=k+3) hT hF hW B hz hr λw g2 e2 _ W=>?_;left;obtain⟨kvs,w1,w2⟩:=W.ex;exact tV w1 rfl (w2 0 .zero) (h _ (e1.trans e2))
theorem aR5(hT:TB0 T)(hF:TF T)(rF:T 122=some zf)(B:Bd g b cs v rs)(W:Wy g w cs v rs)(hz:cs.length<=9)(hr:rs.length<=900){s m:Nat}(hs:ki (i8 cs v rs) s)(ft:s≠2 ^ cs.length-1)(hm:m<(j5 cs.length (i8 cs v rs) s).length)(h:∀(p l:Nat) g',Ex g g'->p∈i8 cs v rs s->l<(j5 cs.length (i8 cs v rs) (s |||2 ^ p)).length->(j5 cs.length (i8 cs v rs) s)[m]?=((j5 cs.length (i8 cs v rs) (s |||2 ^ p))[l]?).map (p::·)->Q (.tup [.int (p:Nat),.int (l:Nat)]) g'):c5 T (k+6) 122 [.ref b,.ref w,.int (s:Nat),.int (m:Nat)] g Q E:=by
 refine call_of rF rfl ?_;dsimp[zf,c7,List.replicate];have jt:=C9 cs v rs;have pP:=hs.lt jt;have eo:=zi jt pP ft;left;refine O5 (k:=k) hT hF B hz hr pP λg1 ch e1 _ lJ=>?_;generalize og:i8 cs v rs=F at *;obtain⟨kvs,w1,w2⟩:=W.ex;rw[og] at w2;left;generalize Hq:(λp=>(j5 cs.length F (s |||2 ^ p)).map (p::·))=f at *;have wD:∀p,(f p).length=(j5 cs.length F (s |||2 ^ p)).length:=λp=>by rw[<- Hq];simp
 rw[eo] at hm;have NN:0<(F s).length:=by
  cases hl:F s with
  |nil=>rw[hl] at hm;simp at hm
  |cons _ _=>simp
 refine Ly (λmm Z g'=>Ex g1 g'/\∃j lf:Nat,Z=[some (.ref b),some (.ref w),some (.int (s:Nat)),some (.int (m:Nat)),some (.ref ch),some (.int (lf:Nat)),some (.int (j:Nat))]/\j<(F s).length/\mm=(F s).length-j/\m=(((F s).take j).flatMap f).length+lf/\lf<(((F s).drop j).flatMap f).length) _ ⟨Ex.refl _,0,m,rfl,NN,rfl,by simp,by simpa using hm⟩ (λmm Z g' q=>?_) (a8 T _);obtain⟨e2,j,lf,rfl,hj,rfl,nz,qY⟩:=q;have hx:=ai hj;generalize (F s)[j]=p at hx;have ny:=aC hx;have mn:=jt _ _ ny;have hv:u7 kvs (kN (s |||2 ^ p))=some (.int ((f p).length:Nat)):=by rw[wD];exact w2 _ (.step hs ny)
 have DD:fL (b9 (F s)) (j:Int)=some (.int (p:Nat)):=n6 (by rw[b9,ak,hx];rfl);have sp:=JL (f:=f) hx lf;have rS:=e1.trans e2;left;refine k8 (a7 (e2.at lJ)) DD ?_;left;refine u6 (k:=k+4) hT.mO () ?_;refine tV (rS.at w1) rfl hv ?_;left;by_cases hc:(f p).length<=lf
 ·refine fj (au ()) ?_;left;refine Ft rfl ?_;left;refine k8 (a7 (e2.at lJ)) DD ?_;left;refine u6 (k:=k+4) hT.mO () ?_;refine tV (rS.at w1) rfl hv ?_;refine Zn ?_;left;refine Ft rfl ?_;left;refine MA ?_;have tk:(F s).take (j+1)=(F s).take j++[p]:=by rw[bj,hx];rfl
  rw[sp.2,bg] at qY;have rf:j+1<(F s).length:=by
   rcases gy (j+1) (F s).length with z|z
   ·exact z
   ·rw[fB z] at qY;simp at qY;omega
  refine⟨_,?_,e2,j+1,lf-(f p).length,?_,rf,rfl,?_,by omega⟩
  ·omega
  ·have e1:((lf:Nat):Int)-((f p).length:Nat)=((lf-(f p).length:Nat):Int):=by omega
   have e2:((j:Nat):Int)+1=((j+1:Nat):Int):=by omega
   rw[e1,e2]
   rfl
  ·rw[tk,jO,bg,dt,List.flatMap_nil,fc];omega
 ·refine dP (av ()) ?_;left;refine k8 (a7 (e2.at lJ)) DD ?_;left;refine h p lf g' rS ny (by rw[wD] at hc;omega) ?_;rw[eo,nz,sp.1,sp.2,aD (),<- Hq];simp
theorem aL0(hT:TB0 T)(hF:TF T)(hN:TN T)(B:Bd g b cs v rs)(W:Wy g w cs v rs)(hz:cs.length<=9)(hr:rs.length<=900){m:Nat}(hm:(j5 cs.length (i8 cs v rs) 0)[m]?=some o)(h:∀l g',Ex g g'->g.length<=l->g'[l]?=some (.lst (b9 o))->Q (.ref l) g'):c5 T (k+7) 123 [.ref b,.ref w,.int (m:Nat)] g Q E:=by
 refine call_of hN.Cc rfl ?_;dsimp[P5,c7,List.replicate];have jt:=C9 cs v rs;obtain⟨w0,l0,dd,nb,f1,f2,f3,f4,f5⟩:=B.ex;have p2:=De hz;left;have e1:=Ex.snoc g (O.lst []);have h1:=a9 (g:=g) (o:=O.lst []);generalize g++[O.lst []]=g1 at *;refine Ly (λmm Z g'=>Ex g g'/\∃(s lf:Nat) (p:List Nat) (z6:Option D),Z=[some (.ref b),some (.ref w),some (.int (m:Nat)),some (.ref g.length),some (.int (s:Nat)),some (.int (lf:Nat)),z6]/\mm=2 ^ cs.length-s/\ki (i8 cs v rs) s/\lf<(j5 cs.length (i8 cs v rs) s).length/\some o=((j5 cs.length (i8 cs v rs) s)[lf]?).map (p++·)/\g'[g.length]?=some (.lst (b9 p))/\p.length<=s) _ ⟨e1,0,m,[],none,rfl,rfl,.zero,(aj.mp hm).1,by rw[hm];rfl,h1,by simp⟩ (λmm Z g' q=>?_) (a8 T _);obtain⟨e2,s,lf,p,z6,rfl,rfl,hs,qY,ho,hp,gR⟩:=q;have pP:=hs.lt jt;left;refine W5 (e2.at f1) rfl ?_;left;have ed:decide (((s:Nat):Int)=((2 ^ cs.length-1:Nat):Int))=decide (s=2 ^ cs.length-1):=fN.mpr ();rw[ed];by_cases ft:s=2 ^ cs.length-1
 ·refine dP (by rw[au ft];rfl) ?_;left;rw[X0 ft] at qY ho;have:lf=0:=by simp at qY;omega
  subst this;have:o=p:=by simpa using ho
  subst this;exact h _ _ e2 (ay _) hp
 ·refine fj (by rw[av ft];rfl) ?_;left;refine aR5 (k:=k) hT hF hN.rF (B.at e2) (W.at e2) hz hr hs ft qY λq l g3 e3 hq hl Ov=>?_;refine B4 rfl ?_
  try show wpS _ _ _ _ _ _
  have GX:=jt _ _ hq;have Bg:=e3.at hp;left
  try refine⟨V6 Bg,?_⟩
  left;refine O0 Bg (by simp[b9];omega) ?_;left;refine u6 (k:=k+5) hT.mO () ?_;left;have Hi:=zU GX.2;have tQ:=e2.trans e3;refine⟨_,?_,⟨by simp;exact tQ.len,λi hi=>by rw[az ()];exact tQ.old i hi⟩,s |||2 ^ q,l,p++[q],_,rfl,rfl,.step hs hq,hl,?_,?_,by simp;omega⟩
  ·omega
  ·rw[ho,Ov];simp[Option.map_map,Function.comp_def]
  ·rw[get_set Bg];simp[b9]
end
def U0:aX:=⟨3,8,(.seq (.set 3 (cJ .lst (.prim .lst .nil))) (.seq (.dw (.one 4) (.dW (cJ .len aI)) (.seq (.set 5 (.prim .lst .nil)) (.seq (.dw (.one 6) (.fe bp) (.seq (.dw (.one 7) (.dW (cJ .len aI)) (.seq (.ifs (.cQ (cY .NotIn eZ dZ) (cY .Eq (.call 108 (qt aI aT bc dZ eZ)) (gb ""))) (.seq (.expr (.dU .append cN (eT (br (.bin .Add) dZ (cJ .lst eZ))))) .pass) .pass) .pass)) .pass)) (.seq (.set 3 cN) .pass)))) (.seq (.ret bp) .pass)))⟩
def fP(r:List Nat):Nat:=r.foldl (λs p=>s |||2 ^ p) 0
theorem DS(r:List Nat)(p:Nat):fP (r++[p])=fP r |||2 ^ p:=by simp[fP,List.foldl_append]
theorem U4(r:List Nat)(i:Nat):(fP r).testBit i=decide (i∈r):=by
 have:∀(r:List Nat) (s:Nat),(r.foldl (λs p=>s |||2 ^ p) s).testBit i=(s.testBit i||decide (i∈r)):=by
  intro r
  induction r with
  |nil=>intro s;simp
  |cons p r ih =>
   intro s;rw[List.foldl_cons,ih,P1,Bool.or_assoc,aU];simp
 rw[fP,this];simp
theorem RS:∀{r:List Nat},(∀i∈r,i<n)->fP r<2 ^ n:=λ{r} h=>by
 have:∀(r:List Nat) (s:Nat),(∀i∈r,i<n)->s<2 ^ n->r.foldl (λs p=>s |||2 ^ p) s<2 ^ n:=by
  intro r
  induction r with
  |nil=>intro s _ hs;exact hs
  |cons p r ih=>intro s h hs;exact ih _ (λi hi=>h i (by simp[hi])) (U3 hs (h p (by simp)))
 exact this r 0 h (mV _)
def p9(F:Nat->List Nat):Nat->List (List Nat)
 |0=>[[]]
 |t+1=>(p9 F t).flatMap λr=>(F (fP r)).map λp=>r++[p]
theorem Q7{n:Nat}{F:Nat->List Nat}(hF:FG n F):∀{t:Nat} {r:List Nat},r∈p9 F t->r.length=t/\r.Nodup/\∀i∈r,i<n
 |0,r,h=>by
  cases aR.mp h;simp
 |t+1,r,h=>by
  obtain⟨r0,h0,h1⟩:=lT.mp h;obtain⟨p,hp,rfl⟩:=aL.mp h1;obtain⟨g1,g2,g3⟩:=Q7 hF h0;have mn:=hF _ _ hp;rw[U4] at mn;refine⟨by simp[g1],?_,λi hi=>?_⟩
  ·rw[cu];exact⟨g2,by simp,λx hx y hy=>by cases aR.mp hy;exact λz=>(by simpa using mn.2:p∉r0) (z▸hx)⟩
  ·rcases aZ.mp hi with z|z
   ·exact g3 i z
   ·cases aR.mp z;exact mn.1
theorem Y'{r:List Nat}(h:r.Nodup)(hl:r.length=n)(hr:∀i∈r,i<n)(hi:i<n):i∈r:=by
 refine pE λhn=>?_;have:=xA (l:=i::r) (m:=List.range n) (cS.mpr ⟨hn,h⟩) λx hx=>by
  rcases aH.mp hx with rfl|hx
  ·exact aN.mpr hi
  ·exact aN.mpr (hr x hx)
 simp at this;omega
theorem DQ{r:List Nat}(h:r.Nodup)(hr:∀i∈r,i<n):fP r=2 ^ n-1↔r.length=n:=by
 constructor
 ·intro e;have:∀i,i<n->i∈r:=λi hi=>by
   have:=U4 r i;rw[e,gx,au hi] at this;exact bJ this.symm
  have h1:=xA (l:=List.range n) (m:=r) eJ λi hi=>this i (aN.mp hi);have h2:=xA (l:=r) (m:=List.range n) h λi hi=>aN.mpr (hr i hi);simp at h1 h2;omega
 ·intro hl;refine Ad λi=>?_;rw[U4,gx];refine fN.mpr ⟨hr i,λhi=>Y' h hl hr hi⟩
theorem Jx{n:Nat}{F:Nat->List Nat}(hF:FG n F):∀{t:Nat},t<=n->(p9 F t).flatMap (λr=>(j5 n F (fP r)).map (r++·))=j5 n F 0
 |0,_=>by simp[p9,fP]
 |t+1,ht=>by
  rw[<- Jx hF (show t<=n by omega),p9,List.flatMap_assoc];refine L3 λr hr=>?_;obtain⟨g1,g2,g3⟩:=Q7 hF hr;have ft:fP r≠2 ^ n-1:=λz=>by have:=(DQ g2 g3).mp z;omega
  rw[zi hF (RS g3) ft,List.map_flatMap,List.flatMap_map];refine L3 λp hp=>?_;rw[DS,bz];refine gn λo _=>?_;simp
theorem P2{F:Nat->List Nat}(hF:FG n F):p9 F n=j5 n F 0:=by
 rw[<- Jx hF (ay n)];have:∀(l:List (List Nat)),(∀r∈l,r∈p9 F n)->l.flatMap (λr=>(j5 n F (fP r)).map (r++·))=l:=by
  intro l
  induction l with
  |nil=>intro _;rfl
  |cons r l ih =>
   intro h;obtain⟨g1,g2,g3⟩:=Q7 hF (h r (by simp));rw[dt,ih λx hx=>h x (by simp[hx]),X0 ((DQ g2 g3).mpr g1)];simp
 exact(this _ λ_ h=>h).symm
theorem Dq{α β:Type}{f:α->List β}{m:Nat}:∀{l:List α},(∀x∈l,(f x).length<=m)->(l.flatMap f).length<=l.length*m
 |[],_=>by simp
 |x::r,h=>by
  rw[dt,bg,de,Nat.succ_mul];have h1:=h x (by simp);have h2:=Dq (l:=r) λy hy=>h y (by simp[hy]);omega
theorem zE{n:Nat}{F:Nat->List Nat}(hF:∀s,(F s).length<=n):∀t,(p9 F t).length<=n ^ t
 |0=>by simp[p9]
 |t+1=>by
  rw[p9,uE];refine aB (Dq (m:=n) λr _=>by rw[ae];exact hF _) ?_;exact Ac _ (zE hF t)
structure mz(g:G)(l:Nat)(X:List (List Nat)):Prop where
 ex:∃bs:List Nat,g[l]?=some (.lst (bs.map .ref))/\bs.length=X.length/\(∀b∈bs,b≠l)/\∀(i:Nat) (o:List Nat),X[i]?=some o->∃b:Nat,bs[i]?=some b/\g[b]?=some (.lst (b9 o))
theorem mz.at{g g':G}{l:Nat}{X:List (List Nat)}(h:mz g l X)(e:Ex g g'):mz g' l X :=
 let ⟨bs,h1,h2,h3,h4⟩:=h.ex
 ⟨⟨bs,e.at h1,h2,h3,λi o hi=>let ⟨b,b1,b2⟩:=h4 i o hi;⟨b,b1,e.at b2⟩⟩⟩
theorem mz.add{l:Nat}{X:List (List Nat)}{m:List D}(h:mz g l X)(hm:g[l]?=some (.lst m))(hb:g[b]?=some (.lst (b9 o)))(hn:b≠l):mz (g.set l (.lst (m++[.ref b]))) l (X++[o]):=by
 obtain⟨bs,h1,h2,h3,h4⟩:=h.ex;have e:m=bs.map .ref:=by rw[h1] at hm;injection hm with z;injection z with z;exact z.symm
 refine⟨⟨bs++[b],by rw[get_set hm,e];simp,by simp[h2],λx hx=>?_,λi o' hi=>?_⟩⟩
 ·rcases aZ.mp hx with z|z
  ·exact h3 x z
  ·cases aR.mp z;exact hn
 ·rcases dn i X.length with z|z|z
  ·rw[aD z] at hi;obtain⟨b',b1,b2⟩:=h4 i o' hi;exact⟨b',by rw[aD ()];exact b1,d5 b2 (cb (h3 b' (aC b1)))⟩
  ·subst z;have:o'=o:=by simpa using hi.symm
   subst this;exact⟨b,by rw[bI ()];simp[h2],d5 hb (cb hn)⟩
  ·rw[aM (by simp;omega)] at hi;cases hi
section
variable{T:Nat->Option aX}{d:Nat}
theorem aB5(hT:oq T)(rC:T 150=some U0)(hB:∀c∈cs,CB c)(ha:g[a]?=some (.lst (cs.map b7.d)))(hz:cs.length<=5)(hc:g[c]?=some (.lst (w5 rs)))(hr:rs.length<=900)(h:∀l g',Ex g g'->g.length<=l->mz g' l (j5 cs.length (i8 cs v rs) 0)->Q (.ref l) g'):c5 T (k+3) 150 [.ref a,.int v,.ref c] g Q E:=by
 refine call_of rC rfl ?_;dsimp[U0,c7,List.replicate];have jt:=C9 cs v rs;rw[<- P2 jt] at h;have HH:∀s,(i8 cs v rs s).length<=cs.length:=λs=>E4;generalize og:i8 cs v rs=F at *;have rl:∀t,t<=cs.length->(p9 F t).length<=3125:=λt ht=>by
  refine aB (zE HH t) (aB (FQ hz t) ?_);exact aB (fW () (show t<=5 by omega)) ∅
 left;have e1:=(Ex.snoc g (O.lst [])).trans (Ex.snoc _ (O.lst [D.ref g.length]));have R1:mz ((g ++ [O.lst []]) ++ [O.lst [D.ref g.length]]) (g ++ [O.lst []]).length (p9 F 0):=⟨⟨[g.length],a9,rfl,by simp,λi o hi=>by
  match i,hi with
  |0,hi=>cases hi;exact⟨g.length,rfl,(Ex.snoc _ _).at a9⟩
  | i + 1,hi=>simp [p9] at hi⟩⟩
 have l1:g.length<=(g++[O.lst []]).length:=by simp
 generalize (g++[O.lst []])++[O.lst [D.ref g.length]]=g1 at *;generalize (g++[O.lst []]).length=r0 at *;refine p6 (a8 T _) (M1 (a8 T _) ?_);left;refine y9 (a7 (e1.at ha)) ?_;refine⟨_,rfl,by omega,by simp;omega,i6 0 cs.length,λt Z g'=>Ex g g'/\∃(l:Nat) (z4 z5 z6 z7:Option D),g.length<=l/\mz g' l (p9 F t)/\Z=[some (.ref a),some (.int v),some (.ref c),some (.ref l),z4,z5,z6,z7],λ_ _ _ _=>by simp only[List.length_map,Int.toNat_natCast];exact n5,⟨e1,r0,none,none,none,none,l1,R1,rfl⟩,λt x Z g' hx q=>?_,λZ g' q=>?_⟩
 ·obtain⟨e2,l,z4,z5,z6,z7,hl,R2,rfl⟩:=q;obtain⟨ht,rfl⟩:=t8 hx;refine f7 ?_
  try show wpS _ _ _ _ _ _
  left;obtain⟨as,JN,ub,as3,ZS⟩:=R2.ex;have e3:=Ex.snoc g' (O.lst []);have h3:=a9 (g:=g') (o:=O.lst []);have N3:mz (g'++[O.lst []]) g'.length []:=⟨⟨[],a9,rfl,by simp,λi o hi=>by simp at hi⟩⟩
  generalize g'++[O.lst []]=g3 at *;have ll:g.length<=g'.length:=e2.len;refine p6 (a8 T _) (kO (a8 T _) ?_);left;refine⟨l,_,rfl,a7 (e3.at JN),as.map .ref,λi Z g4=>Ex g' g4/\mz g4 g'.length (((p9 F t).take i).flatMap λr=>(F (fP r)).map λp=>r++[p])/\∃z6 z7,Z=[some (.ref a),some (.int v),some (.ref c),some (.ref l),some (.int (0+(t:Nat))),some (.ref g'.length),z6,z7],λi Z g4 q=>m7 (a7 (q.1.at JN)),⟨e3,N3,z6,z7,rfl⟩,λi x Z g4 hx q=>?_,λZ g4 q=>?_⟩
  ·obtain⟨e4,R4,z6,z7,rfl⟩:=q;rw[ak,aa] at hx;obtain⟨ra,GV,rfl⟩:=hx;have hi:i<(p9 F t).length:=by rw[<- ub];exact(aj.mp GV).1
   have yp:=ai hi;generalize (p9 F t)[i]=ro at yp;obtain⟨rb,GU,oI⟩:=ZS i ro yp;have:rb=ra:=by rw[GV] at GU;injection GU with z;exact z.symm
   subst this;obtain⟨Qj,Qi,Qh⟩:=Q7 jt (aC yp);have hS:∀j,j<cs.length->fT ro j=(fP ro).testBit j:=λj _=>(U4 ro j).symm;have GS:rb<g'.length:=k9 oI;have Nq:(p9 F t).take (i+1)=(p9 F t).take i++[ro]:=by rw[bj,yp];rfl
   have size:(((p9 F t).take i).flatMap λr=>(F (fP r)).map λp=>r++[p]).length<=3125*5:=by
    refine aB (Dq (m:=5) λr _=>by rw[ae];exact aB (HH _) hz) ?_;refine Ac _ ?_;rw[cZ];have:=rl t ();omega
   refine f7 ?_
   try show wpS _ _ _ _ _ _
   left;refine p6 (a8 T _) (M1 (a8 T _) ?_);left;have Qv:=e2.trans e4;refine y9 (a7 (Qv.at ha)) ?_;refine⟨_,rfl,by omega,by simp;omega,i6 0 cs.length,λj Z g5=>Ex g' g5/\mz g5 g'.length ((((p9 F t).take i).flatMap λr=>(F (fP r)).map λp=>r++[p])++((List.range j).filter (C6 cs v rs (fP ro))).map λp=>ro++[p])/\∃z7,Z=[some (.ref a),some (.int v),some (.ref c),some (.ref l),some (.int (0+(t:Nat))),some (.ref g'.length),some (.ref rb),z7],λ_ _ _ _=>by simp only[List.length_map,Int.toNat_natCast];exact n5,⟨e4,by simpa using R4,z7,rfl⟩,λj x Z g5 hx q=>?_,λZ g5 q=>?_⟩
   ·obtain⟨e5,R5,z7,rfl⟩:=q;obtain⟨hj,rfl⟩:=t8 hx;rw[cM];have rR:=e2.trans e5;have es:(List.range (j+1)).filter (C6 cs v rs (fP ro))=(List.range j).filter (C6 cs v rs (fP ro))++if C6 cs v rs (fP ro) j=true then[j] else[]:=by
     rw[dR,dN]
     congr 1
     cases z:C6 cs v rs (fP ro) j<;>simp only[List.filter_cons,z,List.filter_nil]<;>rfl
    have skip:C6 cs v rs (fP ro) j=false->∀g6,Ex g5 g6->mz g6 g'.length ((((p9 F t).take i).flatMap λr=>(F (fP r)).map λp=>r++[p])++((List.range (j+1)).filter (C6 cs v rs (fP ro))).map λp=>ro++[p]):=λhz g6 e6=>by
     rw[es,hz,aF ∅,fc];exact R5.at e6
    refine f7 ?_
    try show wpS _ _ _ _ _ _
    left;refine X9 (xw (e5.at oI) ?_);left;have vX:=U4 ro j;by_cases iS:j∈ro
    ·rw[au iS];refine dP rfl ?_;left;refine⟨e5,skip ?_ _ (Ex.refl _),_,rfl⟩;unfold C6;rw[vX,au iS]
     rfl
    ·rw[av iS];refine fj rfl ?_;left;refine Ea (k:=k) hT hB (rR.at ha) () (rR.at hc) hr (e5.at oI) Qh () hj λg6 e6=>?_;rw[Kb hS];left;have Hr:C6 cs v rs (fP ro) j=decide (fault cs v rs (fP ro).testBit j=""):=by unfold C6;rw[vX,av iS];rfl
     refine if2 (λc1=>?_) (λc1=>?_)
     ·left;have R6:=R5.at e6;obtain⟨bs,b1,b2,b3,b4⟩:=R6.ex;refine⟨V6 b1,?_⟩;left;have vB:=(e5.trans e6).at oI;have s7:=a9 (g:=g6) (o:=O.lst [D.int (j:Nat)]);refine sA ((Ex.snoc _ _).at vB) s7 (by simp[b9];omega) ?_;have e8:=(Ex.snoc g6 (O.lst [D.int (j:Nat)])).trans (Ex.snoc _ (O.lst (b9 ro++[D.int (j:Nat)])));have s8:=a9 (g:=g6++[O.lst [D.int (j:Nat)]]) (o:=O.lst (b9 ro++[D.int (j:Nat)]));have l8:g'.length<(g6++[O.lst [D.int (j:Nat)]]).length:=by have:=e5.len;have:=e6.len;simp;(clear hz hr l1 hl ht ub ll hi Qj GS size hj b2;omega)
      generalize (g6++[O.lst [D.int (j:Nat)]])++[O.lst (b9 ro++[D.int (j:Nat)])]=g8 at *;generalize (g6++[O.lst [D.int (j:Nat)]]).length=nb at *;left;have bl:bs.length<=20000:=by
       rw[b2,bg,ae];have:=@E4 j (C6 cs v rs (fP ro));omega
      refine O0 (e8.at b1) (by simp;omega) ?_;left;have wH:=e5.trans (e6.trans e8);refine⟨⟨by simp;exact wH.len,λq hq=>by rw[az ()];exact wH.old q hq⟩,?_,_,rfl⟩;have:=(R6.at e8).add (e8.at b1) (b:=nb) (o:=ro++[j]) (by rw[s8];simp[b9]) ();rw[es,aJ (by rw[Hr];exact au c1),cC,<- fC];exact this
     ·left;exact⟨e5.trans e6,skip (by rw[Hr];exact av c1) _ e6,_,rfl⟩
   ·obtain⟨e5,R5,z7,rfl⟩:=q;rw[j6] at R5
    try show wpS _ _ _ _ _ _
    try left
    refine⟨e5,?_,_,_,rfl⟩;rw[Nq,jO];have:(List.range cs.length).filter (C6 cs v rs (fP ro))=F (fP ro):=by rw[<- og];rfl
    rw[this] at R5;simpa using R5
  ·obtain⟨e4,R4,z6,z7,rfl⟩:=q;rw[ae,ub,bH] at R4
   try show wpS _ _ _ _ _ _
   left;exact⟨e2.trans e4,g'.length,_,_,_,_,ll,R4,rfl⟩
 ·obtain⟨e2,l,z4,z5,z6,z7,hl,R2,rfl⟩:=q;rw[j6] at R2
  try show wpS _ _ _ _ _ _
  left;exact h l g' e2 hl R2
end
theorem Jv{F:Nat->List Nat}(hF:FG n F)(h:o∈j5 n F 0):o.length=n/\o.Nodup/\∀i∈o,i<n:=by
 rw[<- P2 hF] at h;exact Q7 hF h
def many(cs:List b7)(v:Int)(rs:List eK):Nat:=(j5 cs.length (i8 cs v rs) 0).length
theorem RV(l:List Nat):(fP l).testBit=fT l:=funext λi=>U4 l i
theorem DM{F:Nat->List Nat}:∀{t:Nat} {r:List Nat},r∈p9 F t↔r.length=t/\∀i p,r[i]?=some p->p∈F (fP (r.take i))
 |0,r=>by
  constructor
  ·intro h;cases aR.mp h;exact⟨rfl,λi p e=>by simp at e⟩
  ·rintro⟨h,_⟩;cases ip.mp h;exact aR.mpr rfl
 |t+1,r=>by
  show r∈(p9 F t).flatMap (λr=>(F (fP r)).map λp=>r++[p])↔_;rw[lT];constructor
  ·rintro⟨r0,h0,h1⟩;obtain⟨p,hp,rfl⟩:=aL.mp h1;obtain⟨hl,hs⟩:=DM.mp h0;refine⟨by simp[hl],λi q e=>?_⟩;by_cases hi:i<r0.length
   ·rw[aD hi] at e;rw[List.take_append_of_le_length ()];exact hs i q e
   ·have pS:i=r0.length:=by
     have:=(aj.mp e).1;simp at this;omega
    subst pS;rw[bI (ay _),Nat.sub_self] at e;cases e;rw[List.take_left' rfl];exact hp
  ·rintro⟨hl,hs⟩;have ht:t<r.length:=by omega
   refine⟨r.take t,DM.mpr ⟨by simp;omega,λi p e=>?_⟩,?_⟩
   ·have hi:i<t:=by
     have:=(aj.mp e).1;simp at this;omega
    rw[eW hi] at e;rw[List.take_take,Nat.min_eq_left ()];exact hs i p e
   ·refine aL.mpr ⟨r[t],hs t _ (ai ht),?_⟩;have e:=bj (l:=r) (i:=t);rw[ai ht,fz ()] at e;exact e.symm
structure mB(cs:List b7)(v:Int)(rs:List eK)(o:List Nat):Prop where
 len:o.length=cs.length
 st:∀i p,o[i]?=some p->p<cs.length/\p∉o.take i/\fault cs v rs (fT (o.take i)) p=""
theorem zz{l:List Nat}:p∈i8 cs v rs (fP l)↔p<cs.length/\p∉l/\fault cs v rs (fT l) p="":=by
 unfold i8 C6;rw[bo,aN,RV,aS,cq,fE,bG]
theorem DL:o∈j5 cs.length (i8 cs v rs) 0↔mB cs v rs o:=by
 rw[<- P2 (C9 cs v rs),DM];exact⟨λh=>⟨h.1,λi p e=>zz.mp (h.2 i p e)⟩,λh=>⟨h.len,λi p e=>zz.mpr (h.st i p e)⟩⟩
theorem mB.nd(h:mB cs v rs o):o.Nodup:=(Jv (C9 cs v rs) (DL.mpr h)).2.1
theorem mB.lt(h:mB cs v rs o):∀i∈o,i<cs.length:=(Jv (C9 cs v rs) (DL.mpr h)).2.2
theorem mB.none(h:mB cs v rs o):S4 cs v rs (o.map λ(i:Nat)=>(i:Int))=none:=by
 have gD:∀i,i<o.length->∃p,o[i]?=some p/\(o.map λ(i:Nat)=>(i:Int)).getD i 0=(p:Nat):=λi hi=>⟨o[i],ai hi,getD_at (by rw[ak,ai hi];rfl)⟩
 unfold S4;rw[aJ (by rw[ae,h.len])];have p1:(List.range (o.map λ(i:Nat)=>(i:Int)).length).findSome? (jy cs.length (o.map λ(i:Nat)=>(i:Int)))=Option.none:=by
  rw[eG];intro i hi;rw[aN,ae] at hi;obtain⟨p,e1,e2⟩:=gD i hi;obtain⟨h1,h2,_⟩:=h.st i p e1;unfold jy;rw[e2,aJ ⟨by omega,by omega⟩,aF];rw[<- cL];intro z;obtain⟨q,hq,e⟩:=aL.mp z;exact h2 ((by omega:q=p)▸hq)
 have p2:(List.range (o.map λ(i:Nat)=>(i:Int)).length).findSome? (kQ cs v rs (o.map λ(i:Nat)=>(i:Int)))=Option.none:=by
  rw[eG];intro i hi;rw[aN,ae] at hi;obtain⟨p,e1,e2⟩:=gD i hi;obtain⟨_,_,h3⟩:=h.st i p e1;unfold kQ;have:w6 (o.map λ(i:Nat)=>(i:Int)) i=o.take i:=by
   unfold w6;rw[<- cL,bz];exact(gn λ_ _=>rfl).trans (List.map_id _)
  rw[e2,this,cv,aJ h3]
 rw[p1,p2]
 rfl
theorem IM{l:List α}(nd:l.Nodup){u w:Nat}{x:α}(h1:l[u]?=some x)(h2:l[w]?=some x):u=w:=by
 obtain⟨a1,a2⟩:=aj.mp h1;obtain⟨b1,b2⟩:=aj.mp h2;exact(iq (h₀:=a1) (h₁:=b1) nd).mp (a2.trans b2.symm)
theorem Lr{F:Nat->List Nat}(hF:∀s,(F s).Nodup):∀t,(p9 F t).Nodup
 |0=>by simp[p9]
 |t+1=>by
  show((p9 F t).flatMap λr=>(F (fP r)).map λp=>r++[p]).Nodup;have ih:=Lr hF t;generalize p9 F t=X at ih
  induction X with
  |nil=>simp
  |cons r X AU =>
   rw[cS] at ih;rw[dt,cu];refine⟨(kW.mpr ((hF _).imp λh z=>h (by simpa using z))),AU ih.2,λa ha b hb z=>?_⟩;obtain⟨p,_,rfl⟩:=aL.mp ha;obtain⟨r2,h2,h3⟩:=lT.mp hb;obtain⟨q,_,rfl⟩:=aL.mp h3;have:=(List.append_inj' z rfl).1;exact ih.1 (this▸h2)
theorem Tt:(j5 cs.length (i8 cs v rs) 0).Nodup:=by
 rw[<- P2 (C9 cs v rs)];exact Lr (λs=>eJ.sublist List.filter_sublist) _
theorem Tf(hz:cs.length<=9):many cs v rs<1073741824:=by
 unfold many;rw[<- P2 (C9 cs v rs)];have h1:=zE (n:=cs.length) (F:=i8 cs v rs) (λs=>by unfold i8;exact aB (bP _ _) (by simp)) cs.length;have h2:cs.length ^ cs.length<=387420489:=by
  have:∀n,n<=9->n ^ n<=387420489:=by decide
  exact this _ hz
 omega
def X4:aX:=⟨4,6,(.seq (.set 4 (.call 99 (gO aI aT bc))) (.seq (.set 5 (.call 121 (eT bE))) (.seq (.ifs (.dE (.fm (.call 1 (gO bp (aY 0) (br (.bin .Sub) (cB cN (aY 0)) (aY 1)))))) (.seq (.raise "BadNumber" (eT (gb "no order has that number"))) .pass) .pass) (.seq (.ret (.call 123 (gO bE cN bp))) .pass))))⟩
def K7:aX:=⟨4,10,(.seq (.set 4 (.call 99 (gO aI aT bc))) (.seq (.ifs (cY .IsNot (.call 103 (cW bE bp)) (.lit .bN)) (.seq (.ret (.lit .bN)) .pass) .pass) (.seq (.set 5 (.call 121 (eT bE))) (.seq (.set 6 (aY 0)) (.seq (.set 7 (aY 0)) (.seq (.dw (.one 8) (.fe bp) (.seq (.set 9 (.comp [8] 3 (.one 2) (.fe (.call 116 (cW bE eZ))) (cY .Lt bc aI) bc)) (.seq (.kd 6 .iadd (cJ .sum (.comp [7,5] 4 (.one 3) (.fe lx) .no (cB aT (.call 91 (cW aI bp)))))) (.seq (.set 7 (.call 91 (cW eZ gU))) .pass)))) (.seq (.ret dZ) .pass)))))))⟩
section
variable{Z:S}{c:ME}
theorem aV7(hP:j4 P)(h:gS P it Z g (λk g1=>∃(l:List D) (Sh:S->Prop) (p:Nat->Bool) (w:Nat->D),(∀g',Ex g1 g'->k.Is l g')/\l.length<=1000/\Sh (F6 Z d4 n) /\
      (∀ i d Z g',l[i]?=some d->Ex g1 g'->Sh Z->jF t d Z λcA=>dg P c cA g' (λb g3=>b=p i/\Ex g1 g3/\if b=true then aW P elt cA g3 (λy g4=>y=w i/\Ex g1 g4/\Sh cA) iX else Sh cA) iX)/\∀ g',Ex g1 g'->Q (.ref g'.length) (g' ++ [.lst (((List.range l.length).filter p).map w)])) E):aW P (.comp d4 n t it c elt) Z g Q E:=by
  refine E6 hP (B5 hP it _ _ _ _ _ _ (λk g1 h=>?_) (λ_ _ z=>z) h);obtain⟨l,Sh,p,w,hk,hl,h0,hs,hd⟩:=h;refine⟨l,λi ys Z g'=>Ex g1 g'/\ys=((List.range i).filter p).map w/\Sh Z,hl,λi ys Z g' q=>⟨hk _ q.1,?_⟩,⟨Ex.refl _,rfl,h0⟩,λi x ys Z g' hx q=>?_,λys Z g' q=>?_⟩
  · obtain⟨_,rfl,_⟩:=q;rw[ae];exact aB (bP _ _) (by simp)
  · obtain⟨e1,rfl,sh⟩:=q;refine x6 (λcA q=>q8 hP c _ _ _ _ _ _ (λb g3 q=>?_) (λ_ _ z=>z) q) (hs i x Z g' hx e1 sh);obtain⟨rfl,e3,q⟩:=q;have ef:((List.range (i+1)).filter p).map w=((List.range i).filter p).map w++if p i=true then[w i] else[]:=by
      rw[dR,dN,cC]
      congr 1
      cases z:p i<;>simp only[List.filter_cons,z,List.filter_nil]<;>rfl
    cases hp:p i with
    |true =>
      rw[hp] at q ef;rw[aJ rfl] at q ⊢;refine c6 hP elt _ _ _ _ _ _ (λy g4 q=>?_) (λ_ _ z=>z) q;obtain⟨rfl,e4,sh⟩:=q;exact⟨e4,by rw[ef];rfl,sh⟩
    |false =>
      rw[hp] at q ef;rw[aF ∅] at q ⊢;exact⟨e3,by rw[ef];simp,q⟩
  · obtain⟨e1,rfl,sh⟩:=q;exact hd g' e1
end
theorem LM(q:α->Bool)(f:α->D)(d:α)(l:List α):((List.range l.length).filter λi=>q (l.getD i d)).map (λi=>f (l.getD i d))=(l.filter q).map f:=by
 have e:(List.range l.length).map (λi=>l.getD i d)=l:=by
  refine cR λi=>?_;rw[ak];by_cases hi:i<l.length
  ·rw[bO hi,Option.map_some,gN,ai hi]
   rfl
  ·rw[aM (by simpa using hi),aM ()]
   rfl
 have h:(((List.range l.length).map λi=>l.getD i d).filter q).map f=(l.filter q).map f:=by rw[e]
 rw[List.filter_map,bz] at h;exact h
theorem Ob{b:Bool}{A B:Prop}(h1:b=true->A)(h2:b=false->B):if b=true then A else B:=by
 cases b
 ·exact h2 rfl
 ·exact h1 rfl
theorem C4(o:List Nat):(b9 o).length=o.length:=by unfold b9;simp
theorem ints_map(o:List Nat):b9 o=(o.map λ(i:Nat)=>(i:Int)).map D.int:=by unfold b9;rw[bz];rfl
theorem mB.Gn{cs:List b7}{v:Int}{rs:List eK}{o:List Nat}(h:mB cs v rs o):∀i,i<=o.length->ki (i8 cs v rs) (fP (o.take i))
 |0,_=>by
  rw[List.take_zero];exact .zero
 |i+1,hi=>by
  have hl:i<o.length:=by omega
  have e:=bj (l:=o) (i:=i);rw[ai hl] at e;rw[e,show(some o[i]).toList=[o[i]] from rfl,DS];exact .step (h.Gn i ()) (zz.mpr (h.st i _ (ai hl)))
theorem KP{p:Nat}:∀{l:List Nat} {j:Nat},l.Pairwise (· < ·)->l[j]?=some p->l.filter (λq=>decide (q<p))=l.take j
 |x::l,0,h,e=>by
  cases e;rw[List.take_zero,iJ];intro q hq;rcases aH.mp hq with z|z
  ·subst z;simp
  ·have:=(dJ.mp h).1 q z;simp;omega
 |x::l,j+1,h,e=>by
  have e':l[j]?=some p:=by simpa using e
  have:=(dJ.mp h).1 p (aC e');rw[List.filter_cons_of_pos (by simpa using this),KP (dJ.mp h).2 e',List.take_succ_cons]
theorem KQ(s:Nat):(i8 cs v rs s).Pairwise (· < ·):=iH.filter _
theorem Ts{F:Nat->List Nat}(hF:FG n F)(hL:∀s,(F s).Pairwise (· < ·)){s:Nat}(hs:s<2 ^ n)(hp:p∈F s)(h:s≠2 ^ n-1)(t:Nat)(u:List Nat)(e:(j5 n F (s |||2 ^ p))[t]?=some u) :
  (j5 n F s)[(((F s).filter λq=>decide (q<p)).map λq=>(j5 n F (s |||2 ^ q)).length).sum+t]?=some (p::u):=by
 obtain⟨j,hj⟩:=cw.mp hp;rw[zi hF hs h,KP (hL s) hj];have el:(((F s).take j).map λq=>(j5 n F (s |||2 ^ q)).length).sum=(((F s).take j).flatMap λp=>(j5 n F (s |||2 ^ p)).map (p::·)).length:=by
  rw[FU];exact fV List.sum (gn λq _=>(ae ..).symm)
 obtain⟨h1,h2⟩:=JL (f:=λp=>(j5 n F (s |||2 ^ p)).map (p::·)) hj t;rw[el,h1,h2];have ht:=(aj.mp e).1;rw[aD (by rw[ae];exact ht),ak,e]
 rfl
theorem LV:∀l:List Int,L2.F5 l l=false
 |[]=>rfl
 |x::l=>by unfold L2.F5;rw[aJ rfl];exact LV l
noncomputable abbrev iN(o:List Nat):List Int:=o.map λ(i:Nat)=>(i:Int)
theorem Jq{n:Nat}{F:Nat->List Nat}(hL:∀s,(F s).Pairwise (· < ·)):∀f s,(M0 n F f s).Pairwise λa b=>L2.F5 (iN a) (iN b)=true
 |0,s=>by
  unfold M0;split<;>simp
 |f+1,s=>by
  unfold M0;split
  ·simp
  refine List.pairwise_flatMap.mpr ⟨λp _=>?_,(hL s).imp λ{p q} hpq x hx y hy=>?_⟩
  ·refine kW.mpr ((Jq hL f _).imp λ{a b} h=>?_);show L2.F5 (_::_) (_::_)=true;unfold L2.F5;rw[aJ rfl];exact h
  ·obtain⟨x',_,rfl⟩:=aL.mp hx;obtain⟨y',_,rfl⟩:=aL.mp hy;show L2.F5 ((p:Int)::_) ((q:Int)::_)=true;unfold L2.F5;rw[aF ()];exact au ()
theorem Zy{a b:List Nat}(hi:(j5 cs.length (i8 cs v rs) 0)[i]?=some a)(hj:(j5 cs.length (i8 cs v rs) 0)[j]?=some b)(h:i<j):L2.F5 (iN a) (iN b)=true:=by
 obtain⟨h1,rfl⟩:=aj.mp hi;obtain⟨h2,rfl⟩:=aj.mp hj;exact eL.mp (Jq KQ _ _) i j h1 h2 h
theorem Vk(h:S4 cs v rs ns=none):∃o,ns=iN o/\mB cs v rs o:=by
 unfold S4 at h;split at h
 case isFalse=>cases h
 rename_i hl;have h1:(List.range ns.length).findSome? (jy cs.length ns)=none:=by
  cases z:(List.range ns.length).findSome? (jy cs.length ns) with
  |none=>rfl
  |some y=>rw[z] at h;cases h
 rw[h1] at h;have h2:(List.range ns.length).findSome? (kQ cs v rs ns)=none:=h;have en:ns=iN (ns.map Int.toNat):=by
  refine ir (by simp[iN]) λi i1 i2=>?_;obtain⟨⟨q,_⟩,_⟩:=sH h1 i1;rw[getD_at (ai i1)] at q;simp[iN];omega
 refine⟨ns.map Int.toNat,en,by rw[ae,hl],λi p e=>?_⟩;rw[ak,aa] at e;obtain⟨x,hx,rfl⟩:=e;have hi:=(aj.mp hx).1;obtain⟨⟨q1,q2⟩,q3⟩:=sH h1 hi;rw[getD_at hx] at q1 q2 q3;have hf:=eG.mp h2 i (aN.mpr hi);unfold kQ at hf;rw[getD_at hx] at hf;have hf:fault cs v rs (fT (w6 ns i)) x.toNat="":=by
  by_cases w:fault cs v rs (fT (w6 ns i)) x.toNat=""
  ·exact w
  ·rw[aF w] at hf;cases hf
 refine⟨by omega,λz=>q3 ?_,by rw[<- cL];exact hf⟩;rw[<- cL] at z;obtain⟨y,hy,e⟩:=aL.mp z;obtain⟨k,hk⟩:=cw.mp hy;have lz:=List.getElem?_take ..▸hk;split at lz
 case isFalse=>cases lz
 have OF:=(aj.mp lz).1;have:=(sH h1 OF).1.1;rw[getD_at lz] at this;rw[show x=y by omega];exact hy
section
variable{T:Nat->Option aX}{d:Nat}
theorem a00(hT:TB T)(hF:TF T)(hW:TW T)(hN:TN T)(rD:T 127=some X4)(A:Ask g a c cs v rs)(hb:¬(0<=m/\m<many cs v rs)->∀g',Ex g g'->E ⟨"BadNumber"⟩ g')(h:∀(i:Nat) o l g',m=(i:Nat)->(j5 cs.length (i8 cs v rs) 0)[i]?=some o->Ex g g'->g.length<=l->g'[l]?=some (.lst (b9 o))->Q (.ref l) g'):c5 T (k+11) 127 [.ref a,.int v,.ref c,.int m] g Q E:=by
 refine call_of rD rfl ?_;dsimp[X4,c7,List.replicate];left;refine En (k:=k) hT A λg1 b e1 _ B=>?_;left;refine Dz (k:=k+3) hT hF hW B A.hz A.hr λw g2 e2 _ W=>?_;left;obtain⟨kvs,w1,w2⟩:=W.ex;refine tV w1 rfl (w2 0 .zero) ?_;left;unfold many at hb;refine x8 (k:=k+8) hT.nf ?_;left;by_cases hm:0<=m/\m<((j5 cs.length (i8 cs v rs) 0).length:Nat)
 ·obtain⟨i,rfl⟩:=Int.eq_ofNat_of_zero_le hm.1;have hi:i<(j5 cs.length (i8 cs v rs) 0).length:=by omega
  refine dP (by rw[au (),au ()];rfl) ?_;left;have e:=ai hi;exact aL0 (k:=k+3) hT hF hN (m:=i) (B.at e2) W A.hz A.hr e λl g3 e3 hl h3=>h i _ l g3 rfl e (e1.trans (e2.trans e3)) (aB (e1.trans e2).len hl) h3
 ·refine fj ?_ ?_
  ·by_cases h0:0<=m
   ·rw[au h0,av ()]
    rfl
   ·rw[av h0]
    rfl
  ·left;exact hb hm _ (e1.trans e2)
theorem aF4(hT:TB T)(hO:TO T)(lC:T 128=some K7)(A:Ask g a c cs v rs)(hr:g[r]?=some (.lst (ns.map .int)))(hl:ns.length<=100)(hn:S4 cs v rs ns≠none)(h:∀g',Ex g g'->Q .bN g'):c5 T (k+11) 128 [.ref a,.int v,.ref c,.ref r] g Q E:=by
 refine call_of lC rfl ?_;dsimp[K7,c7,List.replicate];left;refine En (k:=k) hT A λg1 b e1 _ B=>?_;left;refine Kc (k:=k+6) hT hO B A.hz A.hr (e1.at hr) hl λg2 e2=>?_;left;rw[DH];cases z:S4 cs v rs ns with
 |none=>exact absurd z hn
 |some y =>
  refine fj rfl ?_;left;exact h _ (e1.trans e2)
theorem JS(hT:TB T)(hF:TF T)(hW:TW T)(hO:TO T)(lC:T 128=some K7)(A:Ask g a c cs v rs)(ho:mB cs v rs o)(hr:g[r]?=some (.lst (b9 o)))(h:∀(n:Nat) g',(j5 cs.length (i8 cs v rs) 0)[n]?=some o->Ex g g'->Q (.int (n:Nat)) g'):c5 T (k+11) 128 [.ref a,.int v,.ref c,.ref r] g Q E:=by
 refine call_of lC rfl ?_;dsimp[K7,c7,List.replicate];have hz:=A.hz;left;refine En (k:=k) hT A λg1 b e1 _ B=>?_;left;have r1:=e1.at hr;rw[ints_map] at r1;refine Kc (k:=k+6) hT hO B A.hz A.hr r1 (by rw[ae,ho.len];omega) λg2 e2=>?_;rw[ho.none];left;refine dP rfl ?_;left;refine Dz (k:=k+3) hT hF hW (B.at e2) A.hz A.hr λw g3 e3 GO W=>?_;left;have Ia:=e1.trans (e2.trans e3);have r3:=Ia.at hr;have B3:=B.at (e2.trans e3);obtain⟨kvs,w1,w2⟩:=W.ex;have jt:=C9 cs v rs;refine p6 (a8 T _) (kO (a8 T _) ?_);left;refine⟨r,_,rfl,a7 r3,b9 o,λi Z g'=>Ex g3 g'/\∃z8 z9,∃n:Nat,(∀(t:Nat) u,(j5 cs.length (i8 cs v rs) (fP (o.take i)))[t]?=some u->(j5 cs.length (i8 cs v rs) 0)[n+t]?=some (o.take i++u))/\Z=[some (.ref a),some (.int v),some (.ref c),some (.ref r),some (.ref b),some (.ref w),some (.int (n:Nat)),some (.int ((fP (o.take i):Nat):Int)),z8,z9],λi Z g' q=>m7 (a7 (q.1.at r3)),⟨Ex.refl _,_,_,0,λt u e=>by rw[Nat.zero_add];exact e,rfl⟩,λi x Z g' hx q=>?_,λZ g' q=>?_⟩
 ·obtain⟨e4,z8,z9,n,hn,rfl⟩:=q;rw[b9,ak,aa] at hx;obtain⟨p,hp,rfl⟩:=hx;have hi:i<o.length:=(aj.mp hp).1;have hR:=ho.Gn i ();have ny:=zz.mpr (ho.st i p hp);have mn:=(ho.st i p hp).1;have hs:=hR.lt jt;have HV:fP (o.take (i+1))=fP (o.take i) |||2 ^ p:=by
   rw[bj,hp,show(some p).toList=[p] from rfl,DS]
  have hlen:=ho.len;generalize hsx:fP (o.take i)=s at *;refine f7 ?_
  try show wpS _ _ _ _ _ _
  left;refine aV7 (a8 T _) (kO (a8 T _) ?_);left;refine O5 (k:=k+5) hT hF (B3.at e4) hz A.hr hs λg5 fl e5 Hn h5=>?_;refine⟨fl,_,rfl,a7 h5,b9 (i8 cs v rs s),λZ=>∃z1 z2,Z=[some (.int (p:Nat)),z1,z2],λi=>decide ((i8 cs v rs s).getD i 0<p),λi=>.int (((i8 cs v rs s).getD i 0:Nat):Int),λg' e=>m7 (a7 (e.at h5)),?_,⟨none,none,rfl⟩,λj y Z g6 hy e6 sh=>?_,λg6 e6=>?_⟩
  ·rw[C4];have:(i8 cs v rs s).length<=cs.length:=by unfold i8;exact aB (bP _ _) (by simp)
   omega
  ·obtain⟨z1,z2,rfl⟩:=sh;rw[b9,ak,aa] at hy;obtain⟨q,hq,rfl⟩:=hy;have eq:(i8 cs v rs s).getD j 0=q:=by rw[gN,hq];rfl
   dsimp only;rw[eq];refine f7 ?_
   try show dg _ _ _ _ _ _
   left;refine⟨by simp,e6,?_⟩;refine Ob (λ_=>?_) (λ_=>⟨_,_,rfl⟩);left;exact⟨rfl,e6,_,_,rfl⟩
  rw[C4,LM (λq=>decide (q<p)) (λq=>D.int ((q:Nat):Int)) 0];have e7:=e4.trans (e5.trans (e6.trans (Ex.snoc g6 (O.lst (((i8 cs v rs s).filter λq=>decide (q<p)).map λq=>D.int ((q:Nat):Int))))));have h7:=a9 (g:=g6) (o:=O.lst (((i8 cs v rs s).filter λq=>decide (q<p)).map λq=>D.int ((q:Nat):Int)));generalize g6++[O.lst (((i8 cs v rs s).filter λq=>decide (q<p)).map λq=>D.int ((q:Nat):Int))]=g7 at *;generalize g6.length=lf at *;have qT:∀q∈(i8 cs v rs s).filter (λq=>decide (q<p)),q∈i8 cs v rs s:=λq hq=>(bo.mp hq).1;have Ba:=Ts jt KQ hs ny;have ON:((i8 cs v rs s).filter λq=>decide (q<p)).length<=9:=by
   have:(i8 cs v rs s).length<=cs.length:=by unfold i8;exact aB (bP _ _) (by simp)
   exact aB (bP _ _) ()
  have ft:s≠2 ^ cs.length-1:=λz=>by
   have hb:=(jt _ _ ny).2;rw[z,gx,au mn] at hb;cases hb
  generalize (i8 cs v rs s).filter (λq=>decide (q<p))=L at *;left;refine Ft rfl ?_;left;refine comp_map (a8 T _) (λZ=>∃z2 z3,Z=[some (.int (s:Nat)),some (.ref w),z2,z3]) (λj=>.int ((j5 cs.length (i8 cs v rs) (s |||2 ^ (L.getD j 0))).length:Nat)) (l:=L.map λq=>D.int ((q:Nat):Int)) (k:=.lst lf) (λg' e=>m7 (a7 (e.at h7))) (by rw[ae];omega) ⟨none,none,rfl⟩ (λj x Z g' hx e sh=>?_) (λg8 e8=>?_) (O3 (a8 T _) (a7 h7) λQ q=>w_var (d:=.ref lf) rfl q)
  ·obtain⟨z2,z3,rfl⟩:=sh;rw[ak,aa] at hx;obtain⟨q,hq,rfl⟩:=hx;have eq:L.getD j 0=q:=by rw[gN,hq];rfl
   rw[eq];have GY:=qT q (aC hq);refine f7 ?_
   try show aW _ _ _ _ _ _
   left;refine u6 (k:=k+9) hT.mO (by have:=(jt _ _ GY).1;omega) ?_;refine tV ((e7.trans e).at w1) rfl (w2 _ (.step hR GY)) ?_;exact⟨rfl,e,_,_,rfl⟩
  have el:(List.range (L.map λq=>D.int ((q:Nat):Int)).length).map (λj=>D.int ((j5 cs.length (i8 cs v rs) (s |||2 ^ (L.getD j 0))).length:Nat))=((L.map λq=>(j5 cs.length (i8 cs v rs) (s |||2 ^ q)).length).map λ(n:Nat)=>(n:Int)).map D.int:=by
   have:=LM (λ_:Nat=>true) (λq=>D.int ((j5 cs.length (i8 cs v rs) (s |||2 ^ q)).length:Nat)) 0 L;rw[ae,bz,bz];rw[jP.mpr (λ_ _=>rfl),jP.mpr (λ_ _=>rfl)] at this;exact this
  rw[el];refine EL (a7 a9) ?_;have es:∀m:List Nat,(m.map λ(n:Nat)=>(n:Int)).sum=((m.sum:Nat):Int):=λm=>by
   induction m with
   |nil=>rfl
   |cons x r ih=>simp[ih]
  rw[es];refine MA ?_;left;refine u6 (k:=k+9) hT.mO () ?_;left;refine⟨e7.trans (e8.trans (Ex.snoc _ _)),some (.int (p:Nat)),some (.ref lf),n+(L.map λq=>(j5 cs.length (i8 cs v rs) (s |||2 ^ q)).length).sum,?_,?_⟩
  ·rw[HV];intro t u e;rw[Nat.add_assoc,hn _ _ (Ba ft t u e),bj,hp];exact fV some (List.append_cons ..)
  ·rw[HV]
   rfl
 ·obtain⟨e4,z8,z9,n,hn,rfl⟩:=q;rw[C4,bH] at hn;have vQ:fP o=2 ^ cs.length-1:=(DQ ho.nd ho.lt).mpr ho.len;rw[X0 vQ] at hn
  try show wpS _ _ _ _ _ _
  left;have:=hn 0 [] rfl;rw[Nat.add_zero,fc] at this;exact h n _ this (Ia.trans e4)
end
theorem MB(h:p<n):kM n (p:Int)=some p:=by
 unfold kM;simp;omega
section
variable{T:Nat->Option aX}{d:Nat}
theorem aM0(h4:T 4=some E1)(h5:T 5=some qh)(wq:T 36=some xg)(rJ:T 112=some J6)(hn:n<=900)(hr:g[r]?=some (.lst (ns.map .int)))(hl:ns.length<=900)(hd:d<r)(D0:f9 g d)(h:∀(jI:List Int) b g',jI.length<=ns.length+1->g'[b]?=some (.lst (jI.map .int))->b≠d->f9 g' d->Gr d g g'->Q (.ref b) g'):c5 T (k+4) 112 [.ref d,.ref r,.int (n:Nat)] g Q E:=by
 refine call_of rJ rfl ?_;dsimp[J6,c7,List.replicate];left;have dl:=D0.lt;refine d6 (k:=k+2) h4 D0 ∅ ∅ λw g1 _ _ D1 G1=>?_;left;refine y9 (a7 (G1.at () hr)) ?_;rw[ae];left;refine d6 (k:=k+2) h4 D1 () () λp g2 p0 p1 D2 G2=>?_;left;refine y9 (a7 ((G1.trans G2).at () hr)) ?_;rw[ae];left;refine d6 (k:=k+2) h4 D2 () () λq g3 q0 q1 D3 G3=>?_;left;refine Vg (k:=k) h4 h5 wq ⟨by omega,by omega⟩ D3 λodd g4 D4 G4=>?_;have xU:=((G1.trans G2).trans G3).trans G4;have vC:=xU.at () hr;have gl:=xU.len;clear G1 G2 G3 G4 D1 D2 D3;obtain⟨p,rfl⟩:∃n:Nat,p=n:=⟨p.toNat,by omega⟩
 obtain⟨q,rfl⟩:∃n:Nat,q=n:=⟨q.toNat,by omega⟩
 have pl:p<=ns.length:=by omega
 have fin:∀(jI:List Int) g',jI.length<=ns.length+1->Ex g4 g'->g4.length<=g'.length->Q (.ref g'.length) (g'++[.lst (jI.map .int)]):=λjI g' hl e _=>h jI _ _ hl a9 () (e.draw D4 |>.snoc _) ((xU.trans (e.gr d)).trans (Gr.snoc _ _ _));have gE:=a7 vC;have three:∀(E:KX) (x:Int) (m:Nat) (i:Int),i=m->p<=m->m<=p+1->∀(o:Int) g5,Ex g4 g5->cE (.bin .Add) [.ref g5.length,.ref (g5.length+1)] ((g5++[.lst ((ns.take p).map .int)])++[.lst [.int x]]) (λy g6=>cE (.ji true false) [.ref r,.int i] g6 λz g7=>cE (.bin .Add) [y,z] g7 Q):=λE x m i hi h1 h2 o g5 e5=>by
  subst hi;have s1:=(Ex.snoc (g5++[.lst ((ns.take p).map D.int)]) (O.lst [.int x])).at (a9 (g:=g5) (o:=O.lst ((ns.take p).map D.int)));have s2:=a9 (g:=g5++[O.lst ((ns.take p).map D.int)]) (o:=O.lst [D.int x]);have e6:=(e5.trans (Ex.snoc g5 (O.lst ((ns.take p).map D.int)))).trans (Ex.snoc _ (O.lst [D.int x]));rw[bg] at s2;refine sA s1 s2 (by simp;omega) ?_;have e7:=e6.trans (Ex.snoc _ (O.lst ((ns.take p).map D.int++[D.int x])));have s7:=a9 (g:=(g5++[O.lst ((ns.take p).map D.int)])++[O.lst [D.int x]]) (o:=O.lst ((ns.take p).map D.int++[D.int x]));generalize ((g5++[O.lst ((ns.take p).map D.int)])++[O.lst [D.int x]])++[O.lst ((ns.take p).map D.int++[D.int x])]=g7 at *;refine Kw (a7 (e7.at vC)) ?_;rw[KL,<- List.map_drop];refine sA ((Ex.snoc _ _).at s7) a9 (by simp;omega) ?_;have:(ns.take p).map D.int++[D.int x]++(ns.drop m).map D.int=(ns.take p++[x]++ns.drop m).map D.int:=by simp
  rw[this];exact fin _ _ (by simp;omega) (e7.trans (Ex.snoc _ _)) (e7.trans (Ex.snoc _ _)).len
 left;refine if2 (λw0=>?_) (λw0=>?_)
 ·left;refine N9 gE ?_;rw[R9 (by rw[ae];omega),<- cL];left;have:=three E odd p (p:Nat) rfl (ay _) () 0 g4 (Ex.refl _);have e1:(g4++[O.lst ((ns.take p).map D.int)]).length=g4.length+1:=by simp
  rw[e1];refine o6 (λy g6 z=>?_) this;left;exact z
 left;refine if2 (λw1=>?_) (λw1=>?_)
 ·left;refine N9 gE ?_;rw[R9 (by rw[ae];omega),<- cL];left;have e6:=Ex.snoc g4 (O.lst ((ns.take p).map D.int));refine Kw (a7 (e6.at vC)) ?_;rw[show((p:Nat):Int)+1=((p+1:Nat):Int) by omega,KL,<- List.map_drop];refine sA ((Ex.snoc _ _).at a9) a9 (by simp;omega) ?_;rw[<- cC];exact fin _ _ (by simp;omega) (e6.trans (Ex.snoc _ _)) (e6.trans (Ex.snoc _ _)).len
 left;have same:Q (.ref r) g4:=h ns r g4 () vC () D4 xU;by_cases w2:w=2/\(p:Int)<(ns.length:Nat)
 ·refine fj (au w2.1) ?_;left;refine fj (by rw[ae];exact au w2.2) ?_;left;refine N9 gE ?_;rw[R9 (by rw[ae];omega),<- cL];left;have:=three E odd (p+1) ((p:Nat)+1) () () () 0 g4 (Ex.refl _);have e1:(g4++[O.lst ((ns.take p).map D.int)]).length=g4.length+1:=by simp
  rw[e1];refine o6 (λy g6 z=>?_) this;left;exact z
 have tail:∀(N:Ends) (E:KX),N.rt=Q->wpS (c5 T (k+3)) (match J6.body with|.seq _ (.seq _ (.seq _ (.seq _ (.seq _ (.seq _ (.seq _ b))))))=>b|x=>x) N [some (.ref d),some (.ref r),some (.int (n:Nat)),some (.int w),some (.int (p:Nat)),some (.int (q:Nat)),some (.int odd),none] g4 E:=by
  intro N E hN;subst hN;dsimp[J6];left;have last:∀(N':Ends) (E:KX),N'.rt=N.rt->wpS (c5 T (k+3)) (match J6.body with|.seq _ (.seq _ (.seq _ (.seq _ (.seq _ (.seq _ (.seq _ (.seq _ b)))))))=>b|x=>x) N' [some (.ref d),some (.ref r),some (.int (n:Nat)),some (.int w),some (.int (p:Nat)),some (.int (q:Nat)),some (.int odd),none] g4 E:=by
   intro N' E hN;dsimp[J6];left;rw[hN];have rQ:∀(FD:Ends) (E:KX),FD.rt=N.rt->wpS (c5 T (k+3)) (.seq (.ret (.var 1)) .pass) FD [some (.ref d),some (.ref r),some (.int (n:Nat)),some (.int w),some (.int (p:Nat)),some (.int (q:Nat)),some (.int odd),none] g4 E:=by
    intro FD E hN;left;rw[hN];exact same
   by_cases w4:w=4
   ·refine fj (au w4) ?_;left;by_cases c1:(p:Int)<(ns.length:Nat)
    ·refine fj (by rw[ae];exact au c1) ?_;left;by_cases c2:(q:Int)<(ns.length:Nat)
     ·refine fj (by rw[ae];exact au c2) ?_;left
      try refine uh gE ?_
      have s5:=a9 (g:=g4) (o:=O.lst (ns.map D.int));have e5:=Ex.snoc g4 (O.lst (ns.map D.int));generalize g4++[O.lst (ns.map D.int)]=g5 at *;have hp:p<ns.length:=by omega
      have hq:q<ns.length:=by omega
      have ap:fL (ns.map D.int) (p:Int)=some (.int ns[p]):=n6 (by rw[ak,ai hp];rfl);have aq:fL (ns.map D.int) (q:Int)=some (.int ns[q]):=n6 (by rw[ak,ai hq];rfl);left;refine YU ?_;left;refine k8 (a7 s5) aq ?_;left;refine k8 (a7 s5) ap ?_;left;refine⟨_,_,rfl,?_⟩;left;refine Q1 s5 (n:=p) (by rw[ae];exact MB hp) ?_;left;refine Q1 (get_set s5) (n:=q) (by rw[mX,ae];exact MB hq) ?_;rw[gz];left;have el:((ns.map D.int).set p (.int ns[q])).set q (.int ns[p])=((ns.set p ns[q]).set q ns[p]).map D.int:=by simp[List.map_set]
      rw[el];refine h ((ns.set p ns[q]).set q ns[p]) g4.length _ (by simp) (get_set s5) () ((e5.draw D4).F2 ()) ((xU.trans (e5.gr d)).F2 gl)
     ·refine dP (by rw[ae];exact av c2) ?_;refine q9 ?_;exact rQ _ _ hN
    ·refine dP (by rw[ae];exact av c1) ?_;refine dP rfl ?_;refine q9 ?_;exact rQ _ _ hN
   ·refine dP (av w4) ?_;refine dP rfl ?_;refine q9 ?_;exact rQ _ _ hN
  by_cases w3:w=3
  ·refine fj (au w3) ?_;left;by_cases c1:(p:Int)<(ns.length:Nat)
   ·refine fj (by rw[ae];exact au c1) ?_;left;by_cases c2:(q:Int)<(ns.length:Nat)
    ·refine fj (by rw[ae];exact au c2) ?_;left;refine N9 gE ?_;rw[R9 (by rw[ae];omega),<- cL];left;have hq:q<ns.length:=by omega
     have aq:fL (ns.map D.int) (q:Int)=some (.int ns[q]):=n6 (by rw[ak,ai hq];rfl);refine k8 (a7 ((Ex.snoc _ _).at vC)) aq ?_;left;have:=three E ns[q] (p+1) ((p:Nat)+1) () () () 0 g4 (Ex.refl _);have e1:(g4++[O.lst ((ns.take p).map D.int)]).length=g4.length+1:=by simp
     rw[e1];refine o6 (λy g6 z=>?_) this;left;exact z
    ·refine dP (by rw[ae];exact av c2) ?_;refine q9 ?_;exact last _ _ rfl
   ·refine dP (by rw[ae];exact av c1) ?_;refine dP rfl ?_;refine q9 ?_;exact last _ _ rfl
  ·refine dP (av w3) ?_;refine dP rfl ?_;refine q9 ?_;exact last _ _ rfl
 by_cases Aq:w=2
 ·refine fj (au Aq) ?_;left;refine dP (by rw[ae];exact av λz=>w2 ⟨Aq,z⟩) ?_;refine q9 ?_;exact tail _ _ rfl
 ·refine dP (av Aq) ?_;refine dP rfl ?_;refine q9 ?_;exact tail _ _ rfl
end
def ED:aX:=⟨1,1,(.seq (.ret (.cQ (br .isin aI (.lit (.ty "list"))) (cJ .all (.comp [] 2 (.one 1) (.fe aI) .no (.call 6 (eT aT)))))) .pass)⟩
def DK:aX:=⟨1,1,(.seq (.ret (.cQ (br .isin aI (.lit (.ty "list"))) (.cQ (br (.cmp .Eq) (cJ .len aI) (aY 1)) (br (.cmp .Eq) (cB aI (aY 0)) (gb "refused"))))) .pass)⟩
def Et:aX:=⟨4,4,(.seq (.ret (.cQ (.call 86 (eT aI)) (br (.cmp .Is) (.call 109 (jR aT bc bp aI)) (.lit .bN)))) .pass)⟩
def Ff:aX:=⟨4,4,(.seq (.pq (.seq (.ret (.call 127 (jR aI aT bc bp))) .pass) [("BadNumber",(.prim .lst (.cons (.lit (.str "refused")) .nil)))]) .pass)⟩
def Dd:aX:=⟨1,14,(.seq (.set 1 (.call 3 (eT aI))) (.seq (.lY (.many [2,3,4]) (.call 110 (cW aT (aY 9)))) (.seq (.set 5 (.call 126 (gO bc bp bE))) (.seq (.ifs (.jH (.dE (.fm (.call 6 (eT cN)))) (cY .Lt cN (aY 0))) (.seq (.ret (.lit (.bl false))) .pass) .pass) (.seq (.set 6 (.call 4 (cW aT (br (.bin .Pow) (aY 10) (aY 9))))) (.seq (.dw (.one 7) (.fe (.prim .lst (jR (cJ (.un .USub) (aY 1)) cN (br (.bin .Sub) (cJ (.un .USub) (aY 1)) dZ) (br (.bin .Add) cN dZ)))) (.seq (.ifs (.dE (.fm (.call 44 (eT (.call 30 (jR bc bp bE eZ)))))) (.seq (.ret (.lit (.bl false))) .pass) .pass) .pass)) (.seq (.set 8 (br (.bin .Mult) (cJ .ku (.prim .lst (jR (aY 0) (br (.bin .Sub) cN (aY 1)) (.call 4 (cW aT (br .max (aY 1) cN))) (br (.bin .Mod) dZ (br .max (aY 1) cN))))) (cJ .int (br (.cmp .Gt) cN (aY 0))))) (.seq (.set 9 (.comp [3,2,4] 5 (.one 4) (.fe gU) .no (.call 30 (jR aT aI bc bE)))) (.seq (.dw (.one 10) (.dW (cJ .len gU)) (.seq (.ifs (.dE (.fm (.call 151 (jR (cB lx fQ) bc bp bE)))) (.seq (.ret (.lit (.bl false))) .pass) .pass) (.seq (.ifs (.dE (.fm (.call 7 (cW (.call 128 (jR bc bp bE (cJ .list (cB lx fQ)))) (cB gU fQ))))) (.seq (.ret (.lit (.bl false))) .pass) .pass) (.seq (.ifs (.cQ (cY .Gt fQ (aY 0)) (cY .NotEq (br (.cmp .Lt) (cB gU (br (.bin .Sub) fQ (aY 1))) (cB gU fQ)) (br (.cmp .Lt) (cB lx (br (.bin .Sub) fQ (aY 1))) (cB lx fQ)))) (.seq (.ret (.lit (.bl false))) .pass) .pass) .pass)))) (.seq (.dw (.one 10) (.dW (cJ .len gU)) (.seq (.set 11 (cJ .list (cB lx fQ))) (.seq (.expr (.dU .append (cB lx fQ) (eT (aY 0)))) (.seq (.ifs (.dE (.fm (.call 7 (cW (.call 30 (jR bc bp bE (cB gU fQ))) vn)))) (.seq (.ret (.lit (.bl false))) .pass) .pass) .pass)))) (.seq (.set 12 (.call 112 (gO aT (.call 111 (jR aT bc bp bE)) (cJ .len bc)))) (.seq (.set 13 (.call 128 (jR bc bp bE (cJ .list iG)))) (.seq (.ifs (cY .IsNot (.call 109 (jR bc bp bE iG)) (.lit .bN)) (.seq (.ret (br (.cmp .Is) lF (.lit .bN))) .pass) .pass) (.seq (.ifs (.cQ (cY .LtE (cJ .len bc) (aY 5)) (.dE (.fm (.call 7 (cW lF (.dU .index (.call 150 (gO bc bp bE)) (eT iG))))))) (.seq (.ret (.lit (.bl false))) .pass) .pass) (.seq (.ret (.call 7 (cW (.call 30 (jR bc bp bE lF)) iG))) .pass)))))))))))))))⟩
structure zY(T:Nat->Option aX):Prop where
 tb:TB T
 kh:oq T
 tf:TF T
 tw:TW T
 tn:TN T
 to:TO T
 h3:T 3=some zT
 h5:T 5=some qh
 h6:T 6=some xE
 h7:T 7=some F4
 PU:T 11=some Dd
 PJ:T 30=some Ff
 wq:T 36=some xg
 PD:T 44=some DK
 Px:T 86=some ED
 nJ:T 109=some X5
 oR:T 110=some xq
 nH:T 111=some F3
 rJ:T 112=some J6
 rE:T 126=some zw
 rD:T 127=some X4
 lC:T 128=some K7
 rC:T 150=some U0
 Cb:T 151=some Et
noncomputable abbrev mQ(cs:List b7)(v:Int)(rs:List eK):List (List Nat):=j5 cs.length (i8 cs v rs) 0
theorem MG(h1:(mQ cs v rs)[i]?=some o)(h2:(mQ cs v rs)[j]?=some o):i=j:=IM Tt h1 h2
theorem U6(h:(mQ cs v rs)[i]?=some o):mB cs v rs o:=DL.mp (aC h)
theorem LW(ha:g[a]?=some (.lst (b9 o)))(hb:g[b]?=some (.lst (b9 o)))(hz:o.length<=1000):E5 g 1 (.ref a) (.ref b):=a28 ha hb (λx hx=>by
 obtain⟨j,_,rfl⟩:=aL.mp hx;exact .inl ⟨_,rfl⟩) (by rw [C4];exact hz)
section
variable{T:Nat->Option aX}{d:Nat}
theorem zm(hT:zY T)(A:Ask g a c cs v rs)(hb:¬(0<=m/\m<many cs v rs)->∀g' l,Ex g g'->g'[l]?=some (.lst [.str "refused"])->Q (.ref l) g')(h:∀(i:Nat) o l g',m=(i:Nat)->(mQ cs v rs)[i]?=some o->Ex g g'->g.length<=l->g'[l]?=some (.lst (b9 o))->Q (.ref l) g'):c5 T (k+12) 30 [.ref a,.int v,.ref c,.int m] g Q E:=by
 refine call_of hT.PJ rfl ?_;dsimp[Ff,c7,List.replicate];left;refine a00 (k:=k) hT.tb hT.tf hT.tw hT.tn hT.rD A (λhm g1 e1=>?_) h;refine XA rfl ?_;left;exact hb hm _ _ (e1.trans (Ex.snoc _ _)) a9
theorem aS6(hT:zY T)(hi:g[i]?=some (.lst [.str "refused"]))(h:Q (.bl true) g):c5 T (k+1) 44 [.ref i] g Q E:=by
 refine call_of hT.PD rfl ?_;dsimp[DK,c7,List.replicate];left;refine gJ (c:="list") (b:=true) ∅ (show(match g[i]? with|some (.lst _)=>some ("list"=="list")|_=>none)=some true by rw[hi];rfl) ?_;left;refine fj rfl ?_;left;exact h
theorem SR(hT:zY T)(A:Ask g a c cs v rs)(ho:mB cs v rs o)(hr:g[r]?=some (.lst (b9 o)))(h:∀g',Ex g g'->Q (.bl true) g'):c5 T (k+4) 151 [.ref r,.ref a,.int v,.ref c] g Q E:=by
 have hz:=A.hz;have hl:=ho.len;refine call_of hT.Cb rfl ?_;dsimp[Et,c7,List.replicate];left;refine call_of hT.Px rfl ?_;dsimp[ED,c7,List.replicate];left;refine gJ (c:="list") (b:=true) ∅ (show(match g[r]? with|some (.lst _)=>some ("list"=="list")|_=>none)=some true by rw[hr];rfl) ?_;left;refine comp_map (a8 T _) (λZ=>∃z0 z1,Z=[z0,z1]) (λ_=>.bl true) (l:=b9 o) (k:=.lst r) (λg' e=>m7 (a7 (e.at hr))) (by rw[C4];omega) ⟨none,none,rfl⟩ (λi x Z g' hx e sh=>?_) (λg' e=>?_) (O3 (a8 T _) (a7 hr) λQ q=>w_var (d:=.ref r) rfl q)
 ·obtain⟨z0,z1,rfl⟩:=sh;obtain⟨j,_,rfl⟩:=aL.mp (aC hx);refine f7 ?_
  try show aW _ _ _ _ _ _
  left;exact yR hT.h6 ⟨rfl,e,_,_,rfl⟩
 ·refine zO (v:=true) (a7 a9) ?_ ?_
  ·rw[show(List.range (b9 o).length).map (λ_=>D.bl true)=(List.replicate (b9 o).length true).map D.bl by rw[List.map_const',hJ,List.map_replicate],Y0];simp
  have e1:=e.trans (Ex.snoc g' (O.lst ((List.range (b9 o).length).map λ_=>D.bl true)));generalize g'++[_]=g1 at *;left;have r1:=e1.at hr;rw[ints_map] at r1;refine V5 (k:=k) hT.kh hT.nJ A.hB (e1.at A.ha) A.hz (e1.at A.hc) A.hr r1 λg2 e2=>?_;rw[ho.none];left;exact h _ (e1.trans e2)
structure ot(g0 g:G)(cs:List b7)(v:Int)(rs:List eK)(M:List Int)(l:Nat)(bs:List Nat)(t:Nat):Prop where
 ex:Ex g0 g
 l0:g0.length<=l
 hl:g[l]?=some (.lst (bs.map .ref))
 len:bs.length=M.length
 lo:∀b∈bs,g0.length<=b/\b<l
 nd:bs.Nodup
 at_:∀(j b:Nat),t<=j->bs[j]?=some b->∃(i:Nat) (o:List Nat),M[j]?=some (i:Int)/\(mQ cs v rs)[i]?=some o/\g[b]?=some (.lst (b9 o))
theorem ot.up{l t:Nat}(h:ot g0 g cs v rs M l bs t)(e:Ex g g'):ot g0 g' cs v rs M l bs t :=
 ⟨h.ex.trans e,h.l0,e.at h.hl,h.len,h.lo,h.nd,λj b hj hb=>let ⟨i,o,h1,h2,h3⟩:=h.at_ j b hj hb;⟨i,o,h1,h2,e.at h3⟩⟩
theorem ot.get{l t:Nat}(h:ot g0 g cs v rs M l bs t)(hj:j<M.length)(ht:t<=j):∃(b i:Nat) (o:List Nat),bs[j]?=some b/\M[j]?=some (i:Int)/\(mQ cs v rs)[i]?=some o/\g[b]?=some (.lst (b9 o)):=by
 have e:=ai (show j<bs.length by rw[h.len];exact hj);obtain⟨i,o,h1,h2,h3⟩:=h.at_ j _ ht e;exact⟨_,i,o,e,h1,h2,h3⟩
theorem ot.put{l:Nat}{x:O}(h:ot g0 g cs v rs M l bs j)(hb:bs[j]?=some b):ot g0 (g.set b x) cs v rs M l bs (j+1):=by
 obtain⟨b1,b2⟩:=h.lo b (aC hb);refine⟨⟨by rw[mX];exact h.ex.len,λq hq=>by rw[az ()];exact h.ex.old q hq⟩,h.l0,d5 h.hl (),h.len,h.lo,h.nd,λi b' hi jY=>?_⟩;obtain⟨n,o,h1,h2,h3⟩:=h.at_ i b' () jY;refine⟨n,o,h1,h2,d5 h3 λe=>?_⟩;subst e;have:=IM h.nd hb jY;omega
theorem Va(hT:zY T):c5 T (k+13) 11 [.ref 0] [.oS (ns.map .int)] (λd _=>d=.bl true) iX:=by
 refine call_of hT.PU rfl ?_;dsimp[Dd,c7,List.replicate];left;refine Tr (k:=k+11) hT.h3 (a:=0) (ns:=ns) rfl λd g D1 _ _=>?_;left;have dl:=D1.lt;refine a95 (k:=k+7) hT.kh.toTBR hT.oR ⟨by decide,by decide⟩ D1 λcs rs a c v g2 hl hG ha BL hr hR hc jX hac v1 v2 D2 G2=>?_;refine B4 rfl ?_
 try show wpS _ _ _ _ _ _
 have A2:Ask g2 a c cs v rs:=⟨ha,by omega,hG,⟨v1,by omega⟩,hc,by omega,hR⟩
 have hz:cs.length<=9:=by omega
 have da:d<a:=by omega
 have dc:d<c:=by omega
 clear ha hc BL jX G2 dl hl;left;refine aL4 (k:=k+1) hT.tb hT.tf hT.tw hT.rE A2.ha A2.hz A2.good A2.hB A2.hv A2.hc A2.hr hR λg3 e3=>?_;have A3:=A2.at e3;have D3:=e3.draw D2;left;refine yR (k:=k+11) hT.h6 ?_;have hN:=Tf (v:=v) (rs:=rs) hz;have hM:many cs v rs=(mQ cs v rs).length:=rfl;left;refine dP (by simp) ?_;left;refine d6 (k:=k+11) hT.kh.lf.pull D3 ∅ ∅ λf g4 f0 f1 D4 G4=>?_;have A4:=A3.gr G4 () ();clear A2 A3 D2 D3 e3 G4;left;refine p6 (a8 T _) (kO (a8 T _) ?_);left;have e5:=Ex.snoc g4 (O.lst [.int (-1),.int (many cs v rs:Nat),.int (-1-f),.int ((many cs v rs:Nat)+f)]);have h5:=a9 (g:=g4) (o:=O.lst [.int (-1),.int (many cs v rs:Nat),.int (-1-f),.int ((many cs v rs:Nat)+f)]);refine⟨_,_,rfl,a7 h5,_,λt Z g'=>Ex g4 g'/\g'[g4.length]?=some (O.lst [.int (-1),.int (many cs v rs:Nat),.int (-1-f),.int ((many cs v rs:Nat)+f)])/\∃z7,Z=[some (.ref 0),some (.ref d),some (.ref a),some (.int v),some (.ref c),some (.int (many cs v rs:Nat)),some (.int f),z7,none,none,none,none,none,none],λt Z g' q=>m7 (a7 q.2.1),⟨e5,h5,none,rfl⟩,λt x Z g' hx q=>?_,λZ g' q=>?_⟩
 ·obtain⟨e6,h6,z7,rfl⟩:=q;obtain⟨m,rfl,hm⟩:∃m:Int,x=.int m/\¬(0<=m/\m<many cs v rs):=by
   have qS:=aC hx;simp only[List.mem_cons,List.mem_nil_iff,or_false] at qS;rcases qS with rfl|rfl|rfl|rfl<;>exact⟨_,rfl,by omega⟩
  refine f7 ?_
  try show wpS _ _ _ _ _ _
  left;refine zm (k:=k) hT (A4.at e6) (λ_ g7 l e7 h7=>?_) (λi o l g7 hi ho _ _ _=>absurd ⟨by omega,?_⟩ hm)
  ·left;refine aS6 (k:=k+11) hT h7 ?_;left;exact⟨e6.trans e7,e7.at h6,_,rfl⟩
  ·have:=(aj.mp ho).1;omega
 obtain⟨e6,_,z7,rfl⟩:=q
 try show wpS _ _ _ _ _ _
 have A6:=A4.at e6;have D6:=e6.draw D4;clear h5 e5 A4 D4 e6;left;refine d6 (k:=k+11) hT.kh.lf.pull D6 (by split<;>omega) (by split<;>omega) λp g7 p0 p1 D7 G7=>?_;have A7:=A6.gr G7 () ();clear A6 D6 G7;left;refine Q5 (by split<;>omega) ?_;left;have e8:=Ex.snoc g7 (O.lst [.int 0,.int ((many cs v rs:Nat)-1),.int p,.int (f % if(many cs v rs:Int)>1 then(many cs v rs:Int) else 1)]);refine Tv (ns:=[0,(many cs v rs:Nat)-1,p,f % if(many cs v rs:Int)>1 then(many cs v rs:Int) else 1]) (a7 a9) (by simp) ?_;have hs:∀x∈K2 [0,(many cs v rs:Int)-1,p,f % if(many cs v rs:Int)>1 then(many cs v rs:Int) else 1],0<many cs v rs->0<=x/\x<many cs v rs:=λx hx h0=>by
  have hx:=(T4 _).mem_iff.mp hx;have f2:=dS f (show(if(many cs v rs:Int)>1 then(many cs v rs:Int) else 1)≠0 by split<;>omega);have f3:=df f (show 0<(if(many cs v rs:Int)>1 then(many cs v rs:Int) else 1) by split<;>omega);simp only[List.mem_cons,List.mem_nil_iff,or_false] at hx;have:(if(many cs v rs:Int)>1 then(many cs v rs:Int) else 1)<=many cs v rs:=by split<;>omega
  rcases hx with rfl|rfl|rfl|rfl<;>omega
 have iR:=JW [0,(many cs v rs:Int)-1,p,f % if(many cs v rs:Int)>1 then(many cs v rs:Int) else 1];have Be:=(T4 [0,(many cs v rs:Int)-1,p,f % if(many cs v rs:Int)>1 then(many cs v rs:Int) else 1]).length_eq;have Be:(K2 [0,(many cs v rs:Int)-1,p,f % if(many cs v rs:Int)>1 then(many cs v rs:Int) else 1]).length=4:=Be;generalize K2 [0,(many cs v rs:Int)-1,p,f % if(many cs v rs:Int)>1 then(many cs v rs:Int) else 1]=S at *;generalize g7++[_]=g8 at *;have e9:=Ex.snoc g8 (O.lst (S.map .int));have h9:=a9 (g:=g8) (o:=O.lst (S.map .int));generalize g8++[_]=g9 at *;generalize g8.length=l9 at *;left;have BP:(0<(many cs v rs:Int))↔0<many cs v rs:=by omega
 refine Xc h9 (by split<;>decide) (by split<;>decide) (by rw[ae];split<;>simp<;>omega) ?_;obtain⟨M,HF,Pf,HE,HD⟩:∃M:List Int,(List.replicate (Int.toNat (if decide (0<(many cs v rs:Int))=true then 1 else 0)) (S.map D.int)).flatten=M.map .int/\M.length<=4/\(∀x∈M,0<=x/\x<many cs v rs)/\M.Pairwise (·<=·):=by
  by_cases h0:0<many cs v rs
  ·refine⟨S,?_,by omega,λx hx=>hs x hx h0,iR⟩;rw[au (BP.mpr h0)];simp
  ·refine⟨[],?_,by simp,by simp,by simp⟩;rw[av λz=>h0 (BP.mp z)];simp
 rw[HF];have eA:=Ex.snoc g9 (O.lst (M.map .int));have hA:=a9 (g:=g9) (o:=O.lst (M.map .int));have eA:=e8.trans (e9.trans eA);have AA:=A7.at eA;have DA:=eA.draw D7;clear hs iR Be e8 e9 h9 HF BP A7 D7 eA;generalize g9++[_]=gA at *;generalize g9.length=m at *;left;refine E6 (a8 T _) (O3 (a8 T _) (a7 hA) (λQ q=>w_var rfl q) _ ?_);refine⟨M.map .int,λi ys Z g'=>∃bs:List Nat,ys=bs.map .ref/\bs.length=i/\Ex gA g'/\bs.Nodup/\(∀b∈bs,gA.length<=b/\b<g'.length)/\(∀(j b:Nat),bs[j]?=some b->∃(i:Nat) (o:List Nat),M[j]?=some (i:Int)/\(mQ cs v rs)[i]?=some o/\g'[b]?=some (.lst (b9 o)))/\∃z3 z4,Z=[some (.int v),some (.ref a),some (.ref c),z3,z4],by rw[ae];omega,λi ys Z g' q=>?_,⟨[],rfl,rfl,Ex.refl _,by simp,by simp,by simp,none,none,rfl⟩,λi x ys Z g' hx q=>?_,λys Z g' q=>?_⟩
 ·obtain⟨bs,rfl,h1,h2,_⟩:=q;exact⟨m7 (a7 (h2.at hA)),by rw[ae];omega⟩
 ·obtain⟨bs,rfl,h1,h2,h3,h4,h5,z3,z4,rfl⟩:=q;rw[ak,aa] at hx;obtain⟨x,hx,rfl⟩:=hx;refine f7 (xl (lG ?_));left;refine zm (k:=k) hT (AA.at h2) (λz=>absurd (HE x (aC hx)) z) λn o l g1 hn ho e1 hl jq=>?_;subst hn;refine⟨bs++[l],by simp,by simp[h1],h2.trans e1,?_,λb hb=>?_,λj b hb=>?_,_,_,rfl⟩
  ·refine cu.mpr ⟨h3,by simp,λu hu w hw e=>?_⟩;cases aR.mp hw;have:=(h4 u hu).2;omega
  ·have:=e1.len;rcases aZ.mp hb with z|z
   ·have:=h4 b z;omega
   ·cases aR.mp z;have:=h2.len;have:=k9 jq;omega
  ·rcases dn j bs.length with w|w|w
   ·rw[aD w] at hb;obtain⟨i',o',q1,q2,q3⟩:=h5 j b hb;exact⟨i',o',q1,q2,e1.at q3⟩
   ·rw[w,bI (ay _)] at hb;simp at hb;subst hb;exact⟨n,o,by rw[w,h1];exact hx,ho,jq⟩
   ·rw[aM (by simp;omega)] at hb;cases hb
 obtain⟨bs,rfl,h1,h2,h3,h4,h5,_⟩:=q;rw[ae] at h1;have eB:=Ex.snoc g' (O.lst (bs.map .ref));have R:ot gA (g'++[O.lst (bs.map .ref)]) cs v rs M g'.length bs 0:=⟨h2.trans eB,h2.len,a9,h1,λb hb=>h4 b hb,h3,λj b _ hb=>let ⟨i,o,q1,q2,q3⟩:=h5 j b hb;⟨i,o,q1,q2,eB.at q3⟩⟩
 clear h1 h2 h3 h4 h5 eB;generalize g'++[_]=gB at *;generalize g'.length=l at *;clear HE;left;have AB:=AA.at R.ex;have DB:=R.ex.draw DA;refine p6 (a8 T _) (M1 (a8 T _) ?_);left;refine y9 (a7 (R.ex.at hA)) ?_;rw[ae];have rl:(i6 0 M.length).length=M.length:=by simp[i6]
 refine⟨_,rfl,by omega,by omega,i6 0 M.length,λi Z g'=>Ex gB g'/\∃zA,Z=[some (.ref 0),some (.ref d),some (.ref a),some (.int v),some (.ref c),some (.int (many cs v rs:Nat)),some (.int f),z7,some (.ref m),some (.ref l),zA,none,none,none],λi Z g' q=>n5,⟨Ex.refl _,none,rfl⟩,λi x Z g' hx q=>?_,λZ g' q=>?_⟩
 ·obtain⟨e1,zA,rfl⟩:=q;obtain⟨hi,rfl⟩:=t8 hx;rw[show(0:Int)+(i:Nat)=(i:Nat) by omega];have R1:=R.up e1;obtain⟨b,n,o,hb,wg,ho,hg⟩:=R1.get hi (bU _);have ua:fL (bs.map D.ref) (i:Nat)=some (.ref b):=n6 (by rw[ak,hb];rfl);have yM:fL (M.map D.int) (i:Nat)=some (.int (n:Nat)):=n6 (by rw[ak,wg];rfl);refine f7 ?_
  try show wpS _ _ _ _ _ _
  left;refine k8 (a7 R1.hl) ua ?_;left;refine SR (k:=k+8) hT (AB.at e1) (U6 ho) hg λg2 e2=>?_;have R2:=R1.up e2;left;refine k8 (a7 R2.hl) ua ?_;left;refine uh (a7 (e2.at hg)) ?_;left;have e3:=Ex.snoc g2 (O.lst (b9 o));refine JS (k:=k+1) hT.tb hT.tf hT.tw hT.to hT.lC ((AB.at e1).at (e2.trans e3)) (U6 ho) a9 λn' g4 vF e4=>?_;cases MG vF ho;have R4:=R2.up (e3.trans e4);left;refine k8 (a7 (R4.ex.at hA)) yM ?_;left;refine X6 hT.h6 hT.h7 0 (k:=k+10) (.int _) λg5 e5=>?_;have R5:=R4.up e5;have wJ:=e1.trans (e2.trans (e3.trans (e4.trans e5)));clear e1 e2 e3 e4 e5 R1 R2 R4 hg;left;by_cases i0:i=0
  ·subst i0;refine dP (by simp) ?_;left;exact⟨wJ,_,rfl⟩
  ·refine fj (by simp;omega) ?_;obtain⟨j,rfl⟩:∃j,i=j+1:=⟨i-1,by omega⟩
   obtain⟨b1,n1,o1,rm,we,pQ,Hl⟩:=R5.get (show j<M.length by omega) (bU _);obtain⟨n2,o2,q1,q2,hg⟩:=R5.at_ (j+1) b (bU _) hb;rw[wg] at q1;have q1:n=n2:=by injection q1 with q1;omega
   subst q1;rw[ho] at q2;cases q2;have ej:((j+1:Nat):Int)-1=(j:Nat):=by omega
   left;rw[ej];refine k8 (a7 (R5.ex.at hA)) (n6 (by rw[ak,we];rfl)) ?_;left;refine k8 (a7 (R5.ex.at hA)) yM ?_;left;rw[ej];refine k8 (a7 R5.hl) (n6 (by rw[ak,rm];rfl)) ?_;left;refine k8 (a7 R5.hl) ua ?_;left;rw[ints_map] at hg Hl;refine Xp Hl hg (by rw[ae,ae,(U6 ho).len,(U6 pQ).len]) ?_;have hle:n1<=n:=by
    obtain⟨w1,w2⟩:=aj.mp wg;obtain⟨w3,w4⟩:=aj.mp we;have:=eL.mp HD j (j+1) w3 w1 ();omega
   have hq:L2.F5 (iN o1) (iN o)=decide ((n1:Int)<(n:Int)):=by
    by_cases w:n1<n
    ·rw[au ()];exact Zy pQ ho w
    ·have:n1=n:=by omega
     subst this;rw[ho] at pQ;cases pQ;rw[av ()];exact LV _
   rw[show L2.F5 (o1.map λ(i:Nat)=>(i:Int)) (o.map λ(i:Nat)=>(i:Int))=_ from hq];left;refine dP (by simp) ?_;left;exact⟨wJ,_,rfl⟩
 obtain⟨e1,zA,rfl⟩:=q
 try show wpS _ _ _ _ _ _
 have R1:=R.up e1;clear HD AB DB R e1;left;refine p6 (a8 T _) (M1 (a8 T _) ?_);left;refine y9 (a7 (R1.ex.at hA)) ?_;rw[ae];refine⟨_,rfl,by omega,by omega,i6 0 M.length,λi Z g'=>ot gA g' cs v rs M l bs i/\∃zA zB,Z=[some (.ref 0),some (.ref d),some (.ref a),some (.int v),some (.ref c),some (.int (many cs v rs:Nat)),some (.int f),z7,some (.ref m),some (.ref l),zA,zB,none,none],λi Z g' q=>n5,⟨R1,_,_,rfl⟩,λi x Z g' hx q=>?_,λZ g' q=>?_⟩
 ·obtain⟨R2,zA,zB,rfl⟩:=q;obtain⟨hi,rfl⟩:=t8 hx;rw[show(0:Int)+(i:Nat)=(i:Nat) by omega];obtain⟨b,n,o,hb,wg,ho,hg⟩:=R2.get hi (ay _);have ua:fL (bs.map D.ref) (i:Nat)=some (.ref b):=n6 (by rw[ak,hb];rfl);have yM:fL (M.map D.int) (i:Nat)=some (.int (n:Nat)):=n6 (by rw[ak,wg];rfl);have ol:=(U6 ho).len;refine f7 ?_
  try show wpS _ _ _ _ _ _
  left;refine k8 (a7 R2.hl) ua ?_;left;refine uh (a7 hg) ?_;left;have eC:=Ex.snoc g' (O.lst (b9 o));have hC:=a9 (g:=g') (o:=O.lst (b9 o));have bl:=k9 hg;have R3:=R2.up eC;have Hj:=eC.at hg;generalize g'++[_]=gC at *;generalize g'.length=kp at *;refine k8 (a7 R3.hl) ua ?_
  try refine⟨V6 Hj,?_⟩
  left;refine O0 Hj (by rw[C4];omega) ?_;have R4:=R3.put (x:=O.lst (b9 o++[.int 0])) hb;have Pj:=d5 (o':=O.lst (b9 o++[.int 0])) hC (show b≠kp by omega);generalize gC.set b _=gD at *;left;refine k8 (a7 (R4.ex.at hA)) yM ?_;left;have eE:=(aj.mp ho).1;refine zm (k:=k) hT (AA.at R4.ex) (λz=>absurd ⟨by omega,by omega⟩ z) λn' o' l' g5 vF kH e5 _ jL=>?_;have:n=n':=by omega
  subst this;rw[ho] at kH;cases kH;left;refine X6 hT.h6 hT.h7 1 (k:=k+9) (LW jL (e5.at Pj) ()) λg6 e6=>?_;left;exact⟨R4.up (e5.trans e6),_,_,rfl⟩
 obtain⟨R2,zA,zB,rfl⟩:=q
 try show wpS _ _ _ _ _ _
 have A2:=AA.at R2.ex;have D2:=R2.ex.draw DA;clear R1 R2 AA DA hA Pf;left;refine aA6 (k:=k+9) hT.kh hT.nH A2 da dc D2 λjI b0 g3 hl3 wa hgb D3 G3=>?_;have A3:=A2.gr G3 () ();have d3:=D2.lt;clear A2 G3;left;refine y9 (a7 A3.ha) ?_;rw[ae];left;refine aM0 (k:=k+8) hT.kh.lf.pull hT.h5 hT.wq hT.rJ (n:=cs.length) () wa () () D3 λms b g4 hl4 yA vZ D4 G4=>?_;have A4:=A3.gr G4 () ();clear A3 G4 D4 D3 D2;left;refine uh (a7 yA) ?_;left;have e5:=Ex.snoc g4 (O.lst (ms.map .int));have h5:=a9 (g:=g4) (o:=O.lst (ms.map .int));have A5:=A4.at e5;have b5:=e5.at yA;generalize g4++[_]=g5 at *;generalize g4.length=l5 at *;by_cases hF:S4 cs v rs ms=none
 case neg =>
  refine aF4 (k:=k+1) hT.tb hT.to hT.lC A5 h5 () hF λg6 e6=>?_;left;refine V5 (k:=k+9) hT.kh hT.nJ A5.hB (e6.at A5.ha) A5.hz (e6.at A5.hc) A5.hr (e6.at b5) λg7 e7=>?_;left;rw[DH];cases z:S4 cs v rs ms with
  |none=>exact absurd z hF
  |some y =>
   refine fj rfl ?_;left
   rfl
 obtain⟨o,rfl,ho⟩:=Vk hF;have ol:=ho.len;have Pz:g5[l5]?=some (.lst (b9 o)):=by rw[ints_map];exact h5
 have ZJ:g5[b]?=some (.lst (b9 o)):=by rw[ints_map];exact b5
 refine JS (k:=k+1) hT.tb hT.tf hT.tw hT.to hT.lC A5 ho Pz λn g6 hn e6=>?_;have hn:(mQ cs v rs)[n]?=some o:=hn;left;refine V5 (k:=k+9) hT.kh hT.nJ A5.hB (e6.at A5.ha) A5.hz (e6.at A5.hc) A5.hr (e6.at b5) λg7 e7=>?_;rw[ho.none];left;refine dP rfl ?_;have wI:=e6.trans e7;have fin:∀(N:Ends) (g8:G) (E:KX),Ex g7 g8->(N.rt=λd _=>d=D.bl true)->wpS (c5 T (k+12)) (.seq (.ret (.call 7 (.cons (.call 30 (.cons (.var 2) (.cons (.var 3) (.cons (.var 4) (.cons (.var 13) .nil))))) (.cons (.var 12) .nil)))) .pass) N
   [some (.ref 0),some (.ref d),some (.ref a),some (.int v),some (.ref c),some (.int (many cs v rs:Nat)),some (.int f),z7,some (.ref m),some (.ref l),zA,zB,some (.ref b),some (.int (n:Nat))] g8 E:=by
  intro N g8 E e8 hN;have wH:=wI.trans e8;left;have eE:=(aj.mp hn).1;refine zm (k:=k) hT (A5.at wH) (λz=>absurd ⟨by omega,by omega⟩ z) λn' o' l' g9 vF kH e9 _ jL=>?_;have:n=n':=by omega
  subst this;rw[hn] at kH;cases kH;left;refine X6 hT.h6 hT.h7 1 (k:=k+9) (LW jL ((wH.trans e9).at ZJ) ()) λg6 e6=>?_;rw[hN]
 left;refine y9 (a7 (wI.at A5.ha)) ?_;rw[ae];left;refine if2 (λh5c=>?_) (λ_=>?_)
 rotate_left
 ·refine pe (q9 ?_);exact fin _ g7 _ (Ex.refl _) rfl
 left;refine aB5 (k:=k+9) hT.kh hT.rC A5.hB (wI.at A5.ha) () (wI.at A5.hc) A5.hr λl8 g8 e8 _ W=>?_;obtain⟨Sq,w1,w2,w3,w4⟩:=W.ex;refine⟨ZH (a7 w1),?_⟩;left;have b8:=(wI.trans e8).at b5;refine XW (n:=n) (a7 w1) ⟨Sq,b,iN o,rfl,rfl,b8,λc' hV=>?_,?_,λq c' hq hV=>?_⟩ ?_ ?_
 ·obtain⟨j,hj⟩:=cw.mp hV;have Br:=(aj.mp hj).1;have ej:=ai (show j<(mQ cs v rs).length by rw[<- w2];exact Br);obtain⟨b',q1,q2⟩:=w4 j _ ej;rw[hj] at q1;cases q1;rw[ints_map] at q2;exact⟨_,q2,by rw[ae,ae,(U6 ej).len,ol]⟩
 ·obtain⟨b',q1,q2⟩:=w4 n o hn;rw[ints_map] at q2;exact⟨b',q1,q2⟩
 ·have Br:=(aj.mp hV).1;have ej:=ai (show q<(mQ cs v rs).length by rw[<- w2];exact Br);obtain⟨b',q1,q2⟩:=w4 q _ ej;rw[hV] at q1;cases q1;rw[q2,ints_map];intro z;have z:(iN (mQ cs v rs)[q]).map D.int=(iN o).map D.int:=by injection z with z;injection z
  have z:=(dM λx y q=>by injection q).mp z;have z:=(dM λ(x y:Nat) (q:(x:Int)=y)=>by omega).mp z;rw[z] at ej;have:=MG ej hn;omega
 ·rw[ae,w2];have r1:=zE (F:=i8 cs v rs) (n:=cs.length) (λs=>aB (bP _ _) (by simp)) cs.length;rw[P2 (C9 cs v rs)] at r1;have r2:=FQ (show cs.length<=5 by omega) cs.length;have r3:=fW (show 0<5 by decide) (show cs.length<=5 by omega);exact aB r1 (aB r2 (aB r3 ∅))
 left;refine X6 hT.h6 hT.h7 0 (k:=k+10) (.int _) λg9 e9=>?_;refine Im (Jh (q9 ?_));exact fin _ g9 _ (e8.trans e9) rfl
end
end M
namespace Lk
open PySem L2 M
def top(i:Nat):Stmt:=PySem.Challenge.pw_trussel_k15_whole_orders_by_number.main.body.getD i (.Pass ⟨0,0,0,0⟩)
def SK:Stmt->List Stmt
 |.ClassDef (body:=b) ..=>b
 |_=>[]
def Jk(i j:Nat):Stmt:=(SK (top i)).getD j (.Pass ⟨0,0,0,0⟩)
def F:List RF:=[⟨38,"is_number",["thing"],1,10,Ee⟩,⟨1,"number_from",["number","least","most"],3,11,Y6⟩,⟨2,"good_marks",["marks","least","spot"],1,12,K8⟩,⟨15,"within",["one","other"],2,13,zg⟩,⟨12,"good_coin",["coin","lower","lower_marks","upper","upper_marks","year","good_lower","good_upper"],1,20,E2⟩,⟨39,"check_coin",["coin"],1,21,Eo⟩,⟨18,"check_coins",["coins","coin"],1,22,Y8⟩,⟨40,"check_side",["side"],1,23,T9⟩,⟨19,"die_field",["side"],1,24,Ec⟩,⟨74,"places_of",["coins","word","thing","field"],3,25,X3⟩,⟨20,"dies_of",["coins","side","field"],2,26,Du⟩,⟨42,"check_anvils",["anvils"],1,31,J5⟩,⟨88,"good_rule",["coins","rule","word","one","other"],2,32,Ed⟩,⟨89,"check_rules",["coins","rules","at","rule"],2,33,Y7⟩,⟨90,"stand_of",["places"],1,34,zy⟩,⟨91,"with_coin",["stand","place"],2,35,X2⟩,⟨92,"more_worn",["one","other","side","field"],2,36,Ef⟩,⟨93,"later",["one","other"],2,37,Fg⟩,⟨94,"worn_stands",["coins"],1,38,Y5⟩,⟨95,"later_stands",["coins"],1,39,V9⟩,⟨96,"die_stands",["coins"],1,40,Ep⟩,⟨97,"needed_stands",["coins","rules","needed","word","one","other","first","place"],2,41,S5⟩,⟨98,"check_asked",["coins","anvils","rules"],3,43,Q3⟩,⟨99,"bounds_of",["coins","anvils","rules"],3,44,Eb⟩,⟨100,"dies_in_use",["bounds","stand","place","struck","left"],3,45,Er⟩,⟨101,"next_fault",["bounds","stand","place"],3,46,Eu⟩,⟨102,"places_fault",["many","order","at","place"],2,47,O1⟩,⟨103,"fault_of",["bounds","order","fault","stand","at","place","word"],2,48,DJ⟩,⟨115,"follows",["bounds","stand","place"],3,50,zu⟩,⟨116,"followers",["bounds","stand"],2,51,Es⟩,⟨117,"reached_stands",["bounds","led_to","told","stand","place"],1,52,K6⟩,⟨121,"ways_on",["bounds","ways","stand"],1,54,Dv⟩,⟨122,"step_on",["bounds","ways","stand","number","choices","left","at"],4,55,zf⟩,⟨123,"numbered_order",["bounds","ways","number","order","stand","left","place"],3,56,P5⟩,⟨126,"how_many",["coins","anvils","rules"],3,57,zw⟩,⟨127,"order_of",["coins","anvils","rules","number","bounds","ways"],4,58,X4⟩,⟨128,"number_of",["coins","anvils","rules","order","bounds","ways","number","stand","place","lesser"],4,59,K7⟩,⟨3,"_law_open",["_law_script"],1,61,zT⟩,⟨4,"_law_pull",["_law_draw","_law_total_of","_law_cell","_law_got","_law_seed"],2,62,E1⟩,⟨5,"_law_far",["_law_draw","_law_number"],1,63,qh⟩,⟨36,"_law_near",["_law_draw","_law_total_of"],2,64,xg⟩,⟨6,"_law_num",["_law_found"],1,65,xE⟩,⟨86,"_law_nums",["_law_found"],1,66,ED⟩,⟨7,"_law_like",["_law_found","_law_due"],2,67,F4⟩,⟨21,"_law_order_of",["_law_draw","_law_numbers","_law_left","_law_found","_law_step"],2,68,V8⟩,⟨44,"_law_refused",["_law_found"],1,69,DK⟩,⟨17,"_law_within",["_law_one","_law_other"],2,70,zx⟩,⟨22,"_law_any_coin",["_law_draw","_law_menu","_law_lower","_law_upper","_law_year"],1,71,zt⟩,⟨23,"_law_seated",["_law_draw","_law_seats","_law_fresh","_law_anvils"],4,72,K5⟩,⟨24,"_law_struck",["_law_draw","_law_size","_law_anvils","_law_seats","_law_fresh","_law_worn","_law_year","_law_step","_law_wear","_law_shift","_law_found","_law_k","_law_keys","_law_key","_law_spot","_law_named","_law_told_year"],3,73,K4⟩,⟨25,"_law_opened",["_law_draw","_law_size","_law_dies","_law_row","_law_held","_law_found","_law_k","_law_year"],2,74,ze⟩,⟨26,"_law_list",["_law_draw","_law_most","_law_size","_law_anvils","_law_way","_law_found","_law_at","_law_coin","_law_other"],2,75,T8⟩,⟨105,"_law_rule",["_law_draw","_law_coins","_law_word","_law_some","_law_at"],2,76,ui⟩,⟨106,"_law_rules",["_law_draw","_law_coins","_law_found","_law_k","_law_rule_here"],2,77,Fh⟩,⟨107,"_law_rule_kept",["_law_coins","_law_ahead","_law_place","_law_rule_here","_law_word","_law_one","_law_other","_law_at"],4,78,Eg⟩,⟨108,"_law_fault",["_law_coins","_law_anvils","_law_rules_here","_law_ahead","_law_place","_law_coin","_law_there","_law_at","_law_here","_law_later"],5,79,xp⟩,⟨109,"_law_order_due",["_law_coins","_law_anvils","_law_rules_here","_law_row","_law_k","_law_word"],4,80,X5⟩,⟨150,"_law_all_orders",["_law_coins","_law_anvils","_law_rules_here","_law_rows","_law_step","_law_longer","_law_row","_law_place"],3,81,U0⟩,⟨151,"_law_good_order",["_law_found","_law_coins","_law_anvils","_law_rules_here"],4,82,Et⟩,⟨110,"_law_ready",["_law_draw","_law_most","_law_coins","_law_anvils"],2,83,xq⟩,⟨111,"_law_some_order",["_law_draw","_law_coins","_law_anvils","_law_rules_here","_law_size","_law_row","_law_step","_law_good","_law_rest"],4,84,F3⟩,⟨112,"_law_bent_row",["_law_draw","_law_row","_law_size","_law_way","_law_at","_law_to","_law_odd","_law_bent"],3,85,J6⟩,⟨30,"_law_asked",["_law_coins","_law_anvils","_law_rules_here","_law_number"],4,86,Ff⟩,⟨11,"law",["_law_script","_law_draw","_law_coins","_law_anvils","_law_rules_here","_law_total","_law_far_here","_law_number","_law_numbers","_law_rows","_law_k","_law_kept","_law_row","_law_found"],1,87,Dd⟩]
def Ms:List RM:=[⟨113,"Bounds","__init__","Bounds.__init__",["self","coins","anvils","rules"],4,42,0,Y9⟩]
def con:List (Str×D):=[("LAST_SPOT",.int 7),("MOST_COINS",.int 9),("LAST_DIE",.int 99),("LAST_YEAR",.int 9999),("SIDES",.tup [(.str "lower"),(.str "upper")]),("MOST_ANVILS",.int 9),("RULE_WORDS",.tup [(.str "coin"),(.str "lower"),(.str "upper")]),("YEAR_FIELD",.int 4)]
def gd:List (Str×List D):=[("DIE_FIELDS",[.tup [.str "lower",.int 0],.tup [.str "upper",.int 2]])]
def exc:List Str:=["BadAnvils","BadCoin","BadNumber","BadRule","BadSide","TooMany"]
def c0:i7:=⟨[],[],true,F.map λr=>(r.nm,r.id),con,["len","enumerate","list","tuple","isinstance","all","range","int","bool","str","max","min","sorted","set","sum","reversed"],exc,gd,[("Bounds",113)],Ms.map λr=>(r.nm,r.cl,r.id),[("size","Bounds"),("full","Bounds"),("room","Bounds"),("worn_by_place","Bounds"),("later_by_place","Bounds"),("lower_dies","Bounds"),("needed_by_place","Bounds")],true,true⟩
noncomputable abbrev T:Nat->Option aX:=tY F Ms
theorem tx:lO c0 F Ms top Jk:=by
 refine⟨rfl,rfl,by decide +kernel,by decide +kernel,by decide +kernel,by decide +kernel,?_,?_,?_,?_⟩
 all_goals
  repeat first
   |exact BF.nil
   |exact BM.nil
   |exact YF.nil
   |exact YM.nil
   |refine YF.cons (by kernel_rfl) ?_
   |refine YM.cons (by kernel_rfl) ?_
   |refine BF.cons (λ_ _ _ _ _ _=>(by(repeat refine FZ λ_=>?_);exact FY rfl)) ?_
   |refine BM.cons (λ_ _ _ _ _ _=>(by(repeat refine FZ λ_=>?_);exact FY rfl)) ?_
inductive tS:List DictEntry->List (Str×V)->Prop
 |nil:tS [] []
 |cons {h:Int} {x:Str} {t:Tok} {u:Value} {v:V} {es:List DictEntry} {vs:List (Str×V)} (r:RelV v u) (q:tS es vs):tS (⟨h,.str x t,u⟩::es) ((x,v)::vs)
theorem tS.find{es vs}(x:Str)(h:tS es vs):K1 (vs.lookup x) (findBy Value.isStrOf es.toArray x):=by
 induction h with
 |nil=>trivial
 |cons r q ih =>
  rename_i h y t u v es vs;unfold findBy at ih ⊢;rw[List.find?_toArray] at ih ⊢;rw[fb,cK];by_cases e:x=y
  ·rw[show(x==y)=true from by simp[e],show Value.isStrOf x (.str y t)=true from by simp[Value.isStrOf,e]];exact r
  ·rw[show(x==y)=false from by simpa using e,show Value.isStrOf x (.str y t)=false from by simp[Value.isStrOf];exact λz=>e (z.symm)];exact ih
theorem all_mk{l:PySem.W.OpenLaw}{w:World}{K:PySem.W.Frag}{h:Heap}{mg:Str->Option Value}{fa:Addr}{CO CN yD:Addr}{t0 t1 t2 t3 wU wR t5 wQ wO wN t7 pY pX pW pV:Tok}{CJ:Array (Option Value)}{CL:Nat}{CI:Array (Option Value)}{CK:Nat}{Qb:Nat}{nL nK:Int}(X:K.In h)(G:h.Ns mainGlobals mg)(OO:mg "law"=some (.ref fa))(I:lP K c0 F Ms top Jk)(e0:PySem.W.nsIn K mainGlobals "LAST_SPOT"=some (some (Value.int 7 t0)))(e1:PySem.W.nsIn K mainGlobals "MOST_COINS"=some (some (Value.int 9 t1)))(e2:PySem.W.nsIn K mainGlobals "LAST_DIE"=some (some (Value.int 99 t2)))(e3:PySem.W.nsIn K mainGlobals "LAST_YEAR"=some (some (Value.int 9999 t3)))(e4:PySem.W.nsIn K mainGlobals "SIDES"=some (some (.ref CO)))(QI:K.lookup CO=some ⟨.type "tuple",none,.seq #[Value.str "lower" wU,Value.str "upper" wR] CL,CJ⟩)(e5:PySem.W.nsIn K mainGlobals "MOST_ANVILS"=some (some (Value.int 9 t5)))(e6:PySem.W.nsIn K mainGlobals "RULE_WORDS"=some (some (.ref CN)))(QH:K.lookup CN=some ⟨.type "tuple",none,.seq #[Value.str "coin" wQ,Value.str "lower" wO,Value.str "upper" wN] CK,CI⟩)(e7:PySem.W.nsIn K mainGlobals "YEAR_FIELD"=some (some (Value.int 4 t7)))(g0:PySem.W.nsIn K mainGlobals "DIE_FIELDS"=some (some (.ref yD)))(Qe:K.lookup yD=some ⟨.type "dict",none,.dict #[⟨nL,Value.str "lower" pY,Value.int 0 pX⟩,⟨nK,Value.str "upper" pW,Value.int 2 pV⟩] Qb,#[]⟩)(qJ:nL=PyData.keyHash w.params "lower")(qI:nK=PyData.keyHash w.params "upper")(Qa:(yD==sysModules)=false)
  : ∃fd:FuncData,(∀(s:Shared) (v:Value),BindsTo s fd ⟨[v],[]⟩ [("_law_script",v)])/\∀base:Heap,K.In base->base.Ns mainGlobals mg->iC l.prog w K mg base (js l.prog w) 80 fa fd ["_law_script"] (pL exc K 1 (c5 T 40 11)):=by
 have A:nQ w K mg c0 T:=by
  refine So I tx X G (λx d hx=>?_) (λx kvs hx=>?_)
  ·have hm:=aQ hx;simp only[c0,con,List.mem_cons,List.mem_nil_iff,or_false] at hm;rcases hm with z|z|z|z|z|z|z|z
   ·cases z;exact⟨(.int 7),_,bW X G e0,⟨_,rfl⟩,λ_ _=>.int _⟩
   ·cases z;exact⟨(.int 9),_,bW X G e1,⟨_,rfl⟩,λ_ _=>.int _⟩
   ·cases z;exact⟨(.int 99),_,bW X G e2,⟨_,rfl⟩,λ_ _=>.int _⟩
   ·cases z;exact⟨(.int 9999),_,bW X G e3,⟨_,rfl⟩,λ_ _=>.int _⟩
   ·cases z;exact⟨.ref CO,_,bW X G e4,rfl,λ_ _=>.tup (vs:=[.str "lower",.str "upper"]) (.inr ⟨_,_,_,QI,rfl,rfl,rfl,(by show 2<=sizeLine;decide),.cons ⟨_,rfl⟩ (.cons ⟨_,rfl⟩ (.nil))⟩) (.cons (.str _) (.cons (.str _) (.nil)))⟩
   ·cases z;exact⟨(.int 9),_,bW X G e5,⟨_,rfl⟩,λ_ _=>.int _⟩
   ·cases z;exact⟨.ref CN,_,bW X G e6,rfl,λ_ _=>.tup (vs:=[.str "coin",.str "lower",.str "upper"]) (.inr ⟨_,_,_,QH,rfl,rfl,rfl,(by show 3<=sizeLine;decide),.cons ⟨_,rfl⟩ (.cons ⟨_,rfl⟩ (.cons ⟨_,rfl⟩ (.nil)))⟩) (.cons (.str _) (.cons (.str _) (.cons (.str _) (.nil))))⟩
   ·cases z;exact⟨(.int 4),_,bW X G e7,⟨_,rfl⟩,λ_ _=>.int _⟩
  ·have hm:=aQ hx;simp only[c0,gd,List.mem_cons,List.mem_nil_iff,or_false] at hm;have z:=hm
   ·cases z;have er:tS [⟨nL,Value.str "lower" pY,Value.int 0 pX⟩,⟨nK,Value.str "upper" pW,Value.int 2 pV⟩] [("lower",.int 0),("upper",.int 2)]:=.cons (v:=.int 0) ⟨_,rfl⟩ (.cons (v:=.int 2) ⟨_,rfl⟩ (.nil));exact⟨yD,_,bW X G g0,⟨_,_,Qe,⟨⟨_,_,rfl,qJ⟩,⟨⟨_,_,rfl,qI⟩,True.intro⟩⟩,Qa,λx=>er.find x⟩,.cons (λ_ _=>.int _) (.cons (λ_ _=>.int _) (.nil))⟩
 obtain⟨f,fd,O,a,t⟩:=Lp I tx _ (aC (i:=63) rfl);cases OO.symm.trans (bW X G a);obtain⟨oc,od,kV,doc,pm,an,fY,ct,mL,rfl,lk,mq⟩:=O.fn.ex;exact⟨_,λs v=>.of_eq rfl,λbase nW wz=>YZ nW wz A 40 11 _ _ fa _ rfl O⟩
theorem walk{l:PySem.W.OpenLaw}{q:Program}{loose:List Str}{XP:(Str->Option Value)->Heap->Prop}{YP:World->Heap->Prop}{d:DefRec}{K:Params->PySem.W.Frag}(hn:l.most=some 63)(vT:d.params.defaults=[])(hY:∀(w:World) (h:Heap),YP w h->(K w.params).In h)(F:∀ (w:World) (mg:Str->Option Value) (fa:Addr) (h:Heap),(K w.params).In h->h.Ns mainGlobals mg->mg d.name=some (.ref fa) ->
   ∃ fd:FuncData,(∀ (s:Shared) (u:Value),BindsTo s fd ⟨[u],[]⟩ [("_law_script",u)])/\∀ base:Heap,(K w.params).In base->base.Ns mainGlobals mg->iC l.prog w (K w.params) mg base (js l.prog w) 80 fa fd ["_law_script"] (pL exc (K w.params) 1 (c5 T 40 11))) :
  PySem.W.WalkO q loose XP YP l.row.toRowW d [] (λf vs=>PySem.call f vs) :=
 L2.UI (n:=63) (k:=80) (x:="_law_script") (CX:=λw=>js l.prog w) (sp:=λw=>pL exc (K w.params) 1 (c5 T 40 11)) hn ∅ vT ⟨rfl,by decide,by decide⟩ hY F (λw H a ns hl hO hS=>Zw hO hS (Va (k:=27) ⟨⟨⟨⟨rfl,rfl⟩,rfl,rfl,⟨rfl,rfl⟩,⟨rfl,rfl⟩,rfl,rfl,rfl,rfl,rfl,rfl,rfl,rfl,rfl,rfl,rfl,rfl,rfl,rfl,rfl,rfl⟩,rfl,rfl,rfl⟩,⟨⟨⟨rfl,rfl,rfl,rfl,rfl,rfl,rfl⟩,rfl,rfl⟩,rfl,rfl,rfl,rfl⟩,⟨rfl,rfl⟩,⟨rfl,rfl⟩,⟨rfl,rfl⟩,⟨rfl,rfl⟩,rfl,rfl,rfl,rfl,rfl,rfl,rfl,rfl,rfl,rfl,rfl,rfl,rfl,rfl,rfl,rfl,rfl,rfl⟩)) λ_ _ _ _ _ ⟨_,_,_,_,_,_,_,z⟩=>z
end Lk
end _X
open _X
open PySem PySem.W PyProof.Rows
set_option maxRecDepth 100000 in
set_option maxHeartbeats 0 in
theorem PySem.Challenge.cw_trussel_k15_whole_orders_by_number_holds : PySem.Challenge.rw_trussel_k15_whole_orders_by_number.Holds := by
 w_on;o_law;k_head;(case hw=>w_witness2)
 k_fill
 refine Lk.walk (l:=PySem.Challenge.rw_trussel_k15_whole_orders_by_number) rfl rfl (fun w h Y=>PySem.W.kIn_of Y) ?F
 case F =>
  intro w mg fa h KX G hmg
  refine' Lk.all_mk KX G hmg ⟨?zz1,?zz2,?zz3,?zz4,?zz5,?zz6,?zz7⟩ ?_ ?_ ?_ ?_ ?_ ?_ ?_ ?_ ?_ ?_ ?_ ?_ ?_ ?_ ?_
  (case zz1=>repeat' first | (with_reducible show _=_;k_is) | exact M.PF.nil | apply M.PF.cons)
  (case zz2=>repeat' first | (with_reducible show _=_;k_is) | exact M.PM.nil | apply M.PM.cons)
  (case zz3=>repeat' first | (with_reducible show _=_;k_is) | exact M.PC.nil | apply M.PC.cons)
  (case zz4=>repeat' first | (with_reducible show _=_;k_is) | exact M.PA.nil | apply M.PA.cons)
  (case zz5=>repeat' first | (with_reducible show _=_;k_is) | exact M.PB.nil | apply M.PB.cons)
  (case zz6=>repeat' first | (with_reducible show _=_;first | (with_reducible show PySem.W.excIn _ _ _ _=true;k_exc) | k_is) | exact M.PX.nil | apply M.PX.cons)
  (case zz7=>kernel_rfl)
  all_goals try (with_reducible show _=_;k_is)
  all_goals try ((with_reducible show _=_);rfl)
#print axioms PySem.Challenge.cw_trussel_k15_whole_orders_by_number_holds
