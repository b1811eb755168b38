import PyProof.Rows.All
import Wide.All
import OpenK.AllK
import Wide.FinOn
import Lean
import PyProof.EqAt
import PyProof.EqKinds
import PyProof.TupleCall
import PySem.Challenge.RW_trussel_k06_stages_of_dies
set_option Elab.async false
set_option linter.all false
set_option maxRecDepth 100000
set_option maxHeartbeats 4000000
set_option genInjectivity false
set_option bootstrap.genMatcherCode false
set_option genSizeOf false
local macro_rules|`(def $i:declId $s:optDeclSig $v:declVal)=>`(noncomputable def $i:declId $s:optDeclSig $v:declVal)
structure PySem.W.Fast:Prop where(tw12341147776197146338 tw6026985007589095805 tw6515648313100269785 tw4923793232387418128 tw7954829973823628559 tw3777830193426393830 tw10919392182889541051 tw12513468719671726199 tw5024350817301455334 tw5095785885391910646 tw1784989397224479978 tw13571195456669211735 tw2401522828974775038 tw363058436939980710 tw1878626921114889911 tw13026666713295651034 tw6353498694666587380 tw4278124451868789593 tw12736036567353703116 tw17694543603021804241 tw3311185060843113143 tw11087101216133618496 tw4070095708000576158 tw10899737841157630875 tw2005099375743074249 tw4565703978280780595 tw8243526441672809212 tw11801282942670131905 tw16847694448153432220 tw5792564678184590375 tw7204340818231959614 tw9585920643359817596 tw17662449400703786989 tw15580888284606263001 tw1598413590074901980 tw18360821457855099176 tw16904347092376527713 tw14633171103916727993 tw2599776455559303432 tw11305631841468091170 tw7742342185079286130 tw15767471036513712464 tw15120029739218931813 tw8771491540877708970 tw16378720128312784929 tw17992384418996540028 tw10221570804741062725 tw5451487604887644429 tw4634193694151587661 tw14384815441642186484 tw9534403983843649862 tw11830471198892691610 tw16442879002135713741 tw6216844171549651714 tw985833162675185374 tw6315602977472337734 tw3433165568599632469 tw17473340042856922500 tw12933295583940554653 tw14226195711849016386 tw3322656995529983826 tw8455228229258513579 tw1949776237115284719 tw3380605543717623689 tw6375087168555752741 tw14112156221585646255 tw8301193548825866260 tw12468978324067973441 tw15856981975847380959 tw5930714969150847486 tw2893842385418806373 tw15170076049278575335 tw11219455853550767449 tw14706729706304258437 tw6434709610487386136 tw1204903922427490942 tw8560494701763034785 tw14575074202373971175 tw4540915001939678268 tw13772013792971264091 tw9174589738614228338 tw7649467975949251495 tw2850869334784368753 tw2424333842015066710 tw11481705381510252745 tw3647782507340235015 tw10677017814855213278 tw13393776964358319864 tw5040378677406810911 tw13745661021276180461 tw15865228557186150543 tw13547188507256806566 tw12338267679902290881 tw14695027269321160102 tw5706418096405781850 tw15317989349316566204 tw18196114283846688473 tw8974617220144487608 tw2982377944531119023 tw3181574314291714100 tw7067359389367747839 tw3802291463212924809 tw16193075704460341130 tw13088216729554155061 tw9175388239841095267 tw15125169496245679098 tw818027792768078804 tw212547345611348066 tw7044392964689287070 tw5239064362712200807 tw10167063901271638991 tw2104335900705111421 tw2887948224242673671 tw17156024371260321296 tw7125812318752801409 tw3547680078634151446 tw17171551445238145909 tw14886227173657688038 tw5981990084038862013 tw8774341403350533786 tw14077556875604297909 tw8961558648829176241 tw10126783057516782145 tw15542283659971879574 tw17984139480703827075 tw13976870450778408946 tw17200249180548043280 tw2754334779790678884 tw16296509319732416758 tw12555509026695858690 tw17750816073430962254 tw12997858213238450294 tw2753683162485233755 tw15975734731310751196 tw15452041869672285585 tw10089337885109258151 tw11131315703445169921 tw3128886396293974395 tw4289325357997744492 tw11452775207377267779 tw13180786635714623403 tw184137340520992923 tw13310325103247378652 tw9480789956441342348 tw2310426356875528244 tw2642779479882079690 tw7230276397611080557:True)
namespace _X
local macro_rules|`(tactic|left)=>`(tactic|walk_at"")
local macro_rules|`(())=>`(by omega)
local macro_rules|`(∅)=>`(by decide)
local macro_rules|`(tactic|omega)=>`(tactic|lia)
def BA:=@List.perm_singleton
def BB:=@List.mergeSort_perm
def BC:=@List.map_congr_left
def BD:=@List.length_pos_iff
def BE:=@List.getElem_of_mem
def Bx:=@PySem.W.hideAll_get
def By:=@PySem.W.callWith_K0
def Bz:=@List.replicate_succ
def Ij:=@PySem.wpAny_standAt
def Ik:=@PySem.wpAny_newList
def Il:=@PySem.wpAny_comprehension_free
def Im:=@PySem.W.of_hideAll
def Io:=@PySem.W.kitx_tuple
def Ip:=@PySem.W.callWith_K
def Iq:=@Nat.not_lt
def Ir:=@Nat.lt_of_le_of_ne
def Iu:=@Int.natCast_nonneg
def Iv:=@Array.forIn_toList
def YB:=@PySem.list_append
def YC:=@PySem.W.kitx_list
def YD:=@PySem.W.kitx_dict
def YE:=@Nat.le_succ_of_le
def YG:=@List.filter_congr
def YH:=@Bool.not_eq_true'
def ZA:=@Nat.le_add_right
def ZC:=@List.perm_middle
def ZD:=@List.length_drop
def ZE:=@List.ext_getElem
def ZF:=@List.any_eq_true
def ZG:=@PySem.Calls.callWith_builtin
def Zw:=@PySem.seqIndex_neg
def Zx:=@PySem.call_meetsIn
def Zy:=@PySem.IsL.update
def Zz:=@Nat.succ_lt_succ
def aA:=@List.getElem?_append_left
def aB:=@if_neg
def aC:=@List.mem_of_getElem?
def aD:=@Nat.ne_of_lt
def aE:=@Nat.le_trans
def aF:=@Option.some.inj
def aG:=@List.size_toArray
def aH:=@List.getElem?_set_self
def aI:=@List.mem_cons_of_mem
def aJ:=@if_pos
def aK:=@PySem.mem_of_lookup
def aL:=@List.mem_cons_self
def aN:=@PySem.Heap.get?_update_self
def aO:=@PySem.Heap.SameBut.update
def aQ:=@decide_eq_true
def aR:=@decide_eq_false
def aT:=@List.mem_append
def aU:=@PySem.wpAny_setState_of
def aW:=@of_decide_eq_true
def aX:=@Array.length_toList
def aY:=@PySem.Obj.data_mapFields
def aZ:=@List.map_cons
def aa:=@PySem.wpAny_bind
def ae:=@Option.map_eq_some_iff
def af:=@PySem.wpAny_pure
def ag:=@Option.bind_eq_some_iff
def ah:=@PySem.Heap.get?_push_of_some
def ai:=@List.length_map
def aj:=@Nat.le_refl
def ak:=@List.getElem?_eq_getElem
def ao:=@PySem.Heap.lt_size
def aq:=@List.getElem?_map
def au:=@List.getElem?_set_ne
def av:=@List.mem_cons
def aw:=@PySem.Heap.get?_push_size
def ax:=@Nat.lt_of_lt_of_le
def ay:=@List.getElem?_eq_some_iff
def az:=@List.mem_map
def bA:=@Nat.lt_irrefl
def bD:=@List.map_map
def bE:=@List.length_take
def bG:=@Nat.zero_le
def bH:=@List.eq_nil_of_length_eq_zero
def bJ:=@PySem.Heap.get?_update_other
def bK:=@PySem.wpAny_mono
def bN:=@PySem.wpAny_truthy_bool
def bO:=@List.pairwise_cons
def bR:=@Bool.and_eq_true
def bS:=@PyProof.Rows.callWith_type1
def bT:=@PySem.codeAny_builtin
def bV:=@PySem.wpAny_Call_Name_kw
def bW:=@Ne.symm
def bX:=@Nat.le_of_lt
def bY:=@List.getElem?_append_right
def bZ:=@List.find?_cons
def ba:=@Bool.false_ne_true
def bc:=@List.map_append
def bf:=@PySem.wpAny_holding
def bg:=@decide_eq_true_iff
def bo:=@List.length_filter_le
def br:=@Bool.eq_iff_iff
def bt:=@List.mem_append_right
def bu:=@Nat.ne_of_gt
def bw:=@List.mem_singleton
def bx:=@List.filter_append
def bz:=@PySem.W.kia_one
def cA:=@List.mem_filter
def cB:=@PySem.wpAny_setField
def cC:=@PyProof.Rows.F.plain_set_update_loop
def cE:=@PyProof.Rows.F.entry_set_update_loop
def cF:=@List.getElem_mem
def cG:=@List.all_eq_true
def cH:=@PySem.F.slot_dict_keyiterator_next
def cK:=@Array.getElem_eq_getD
def cM:=@PySem.sizeLine_eq
def cO:=@PySem.wpAny_call_entry
def cP:=@List.getElem?_eq_none_iff
def cQ:=@Array.getElem?_eq_getElem
def cR:=@Int.emod_nonneg
def cT:=@PySem.tupleKind_room_in1
def cU:=@List.pairwise_map
def cW:=@beq_eq_false_iff_ne
def cX:=@List.filterMap_cons
def cY:=@decide_eq_false_iff_not
def cZ:=@List.take_succ
def cc:=@PySem.wpAny_newObj_type
def cg:=@List.getElem?_eq_none
def cj:=@Array.getElem?_toList
def cq:=@Int.emod_lt_of_pos
def cu:=@PySem.W.mg_of
def cv:=@Nat.lt_trans
def cw:=@PySem.Obj.isFreed_of_fields
def cx:=@List.mem_iff_getElem
def cy:=@List.mem_append_left
def cz:=@Int.toNat_natCast
def dC:=@PySem.wpAny_of_eq
def dD:=@List.nodup_append
def dE:=@List.length_range
def dF:=@Array.toList_push
def dH:=@PySem.wpAny_typeOf
def dM:=@congrArg
def dN:=@List.mem_range
def dO:=@Array.mem_toList_iff
def dP:=@PySem.Paired.length
def dS:=@List.drop_eq_getElem_cons
def dU:=@PySem.isSubtype_type
def dW:=@Option.isSome_iff_exists
def dZ:=@Nat.not_lt_zero
def da:=@List.lookup_cons
def dc:=@List.length_eq_zero_iff
def df:=@List.getElem?_replicate
def dk:=@PySem.W.cellsFrom_some
def dn:=@List.length_append
def dq:=@List.find?_eq_none
def dt:=@List.drop_eq_nil_of_le
def du:=@PySem.wpAny_isInstance
def eG:=@PySem.codeAny_mono
def eP:=@PySem.plainId_quiet
def eQ:=@bne_self_eq_false
def eV:=@PySem.wpAny_callSpecial?_slot
def eX:=@List.filter_cons
def eY:=@PySem.wpAny_pyIter_list
def ee:=@List.range_succ
def ei:=@List.nodup_cons
def fA:=@PySem.Around.under_plainId
def fI:=@PySem.wpAny_passesOwn
def fJ:=@List.mem_of_find?_eq_some
def fO:=@Nat.lt_trichotomy
def fP:=@Nat.lt_succ_of_lt
def fQ:=@List.reverse_cons
def fR:=@List.ext_getElem?
def fS:=@List.append_assoc
def fV:=@List.cons.inj
def fW:=@Bool.true_and
def fg:=@List.getElem?_range
def fm:=@Nat.le_of_eq
def fz:=@List.length_eraseIdx_of_lt
def gC:=@List.take_length
def gF:=@PySem.Heap.size_push
def gN:=@beq_iff_eq
def gO:=@Nat.zero_add
def gP:=@List.take_of_length_le
def gQ:=@List.pairwise_lt_range
def gR:=@List.filter_eq_nil_iff
def gS:=@Array.getElem?_eq_none
def gx:=@PySem.wpAny_rule
def gy:=@Nat.lt_succ_self
def hV:=@PySem.wpAny_storeSet_of
def hW:=@PySem.wpAny_dictEntries
def hX:=@PySem.Obj.cls_mapFields
def hZ:=@Bool.or_eq_true
def iG:=@PySem.boot_len
def iH:=@List.mem_of_mem_drop
def iJ:=@List.Pairwise.filter
def iK:=@PySem.Heap.size_update
def iL:=@Bool.false_and
def ig:=@PySem.wpAny_attempt
def ij:=@PySem.F.slot_dict_get
def ik:=@Nat.eq_of_beq_eq_true
def ip:=@List.eq_nil_or_concat
def iq:=@List.concat_eq_append
def jE:=@List.findIdx?_eq_some_iff_getElem
def jJ:=@PySem.wpAny_seqItems
def jK:=@PySem.wpAny_runValue
def jL:=@PySem.wpAny_fieldsOf
def jM:=@Option.isSome_map
def jN:=@Int.zero_add
def jc:=@PySem.intKind_is
def jd:=@PySem.SetTable.insertAt_perm
def jk:=@PySem.wpAny_updateSeq
def jr:=@Nat.lt_of_le_of_lt
def js:=@List.mem_filterMap
def jt:=@Bool.not_eq_false'
def kO:=@Nat.le_succ
def ka:=@PySem.putSet_of
def kc:=@List.eraseIdx_eq_take_drop_succ
def kn:=@decide_eq_decide
def kq:=@List.length_cons
def lA:=@PySem.wpAny_pyIter_tuple
def lB:=@PySem.call_meets
def lC:=@PySem.F.slot_dict_setdefault
def lD:=@List.of_mem_zip
def lE:=@List.find?_some
def mR:=@PySem.wpAny_pyIter_slot
def mS:=@PySem.slot_dict_getitem
def mT:=@Option.ne_none_iff_exists'
def mU:=@Nat.mod_lt
def mV:=@List.perm_append_singleton
def mW:=@List.mapM_cons
def mX:=@PySem.F.plain_list_iadd
def mY:=@Array.size_map
def mZ:=@Array.getElem?_eq_some_iff
def oY:=@PySem.wpAny_forIn_list
def oZ:=@List.any_cons
def om:=@List.pairwise_iff_getElem
def oo:=@List.mem_or_eq_of_mem_set
def pb:=@PySem.F.args_dict_keyiterator_next_1
def qD:=@PySem.wpAny_typeNameOfWhole_keyiter
def qE:=@PySem.F.plainAttrs_list
def qG:=@PySem.F.plainAttrs_dict
def qH:=@PySem.F.args_dict_get_3
def qI:=@PyProof.Rows.boot_tuple
def qJ:=@List.pairwise_mergeSort
def qK:=@PySem.F.entry_dict_keyiterator_next
def rQ:=@PySem.wpAny_specialOf
def rR:=@PySem.wpAny_execs_nil
def rS:=@PySem.wpAny_dictEpoch
def rT:=@PyProof.Rows.listUpdate_at
def rV:=@PySem.codeAny_of_tree
def rW:=@PySem.F.entry_dict_get
def rX:=@PyProof.Rows.boot_list
def rY:=@List.set_set
def vf:=@PyProof.Rows.size_push'
def vg:=@PyProof.Rows.boot_set
def vh:=@PyProof.Rows.boot_int
def vi:=@List.take_append_drop
def vj:=@List.length_singleton
def vk:=@List.length_replicate
def vm:=@Array.mem_of_getElem?
def xf:=@PySem.wpAny_call
def xg:=@PySem.Walks.list
def xh:=@List.range_eq_range'
def xi:=@List.pairwise_append
def xj:=@List.mem_of_mem_take
def xk:=@PySem.Calls.Name_function_global
def xn:=@Bool.or_eq_false_iff
namespace L2
open PySem PySem.Spec PyProof.Rows
variable{xs vs:List V}{us:List Value}{H H':Hp}{a b f C dx:Addr}{o:HO}{u:Value}{P:Program}{w:World}{h h' base:Heap}{α:Type}{x:Str}{e c tg:Expr}{X:Cx}{pins:List (Addr×Obj)}{Z:St}{s:Shared}{t' i k:Nat}{ch fp:List Addr}{N ps:List Str}{M:Model}{A:Around}{E Q:Value->Shared->Prop}{v:V}{t:TA}{ta tb te:TE}{pos p:Pos}{op:CmpOp}{K:PySem.W.Frag}{es:List Expr}{r:R2}{fd:FuncData}{CX:mr}{sp:Sp}
noncomputable abbrev Key:=Sum Int Str
def M3:Key->Value->Bool
 |.inl k,v=>Value.isInt k v
 |.inr x,v=>Value.isStrOf x v
def Rw(w:World):Key->Int
 |.inl k=>hashInt k
 |.inr x=>hashStr w x
theorem k9:∀{k:Key} {v:Value},M3 k v=true->(∃i t,k=Sum.inl i/\v=Value.int i t)\/(∃x t,k=Sum.inr x/\v=Value.str x t)
 |.inl i,v,h=>by
  obtain⟨t,e⟩:=Value.isInt_shape h;exact .inl ⟨i,t,rfl,e⟩
 |.inr x,v,h=>by
  obtain⟨t,e⟩:=Value.isStrOf_shape h;exact .inr ⟨x,t,rfl,e⟩
theorem VD(i:Int)(t:Tok):M3 (.inl i) (.int i t)=true:=by simp[M3,Value.isInt]
theorem VE(x:Str)(t:Tok):M3 (.inr x) (.str x t)=true:=by simp[M3,Value.isStrOf]
theorem Ox(a b:Int):decide ((Sum.inl a:Key)=Sum.inl b)=(a==b):=by
 by_cases e:a=b
 ·subst e;simp
 ·have h:¬(Sum.inl a:Key)=Sum.inl b:=λq=>e (Sum.inl.inj q);rw[aR h];exact(cW.mpr e).symm
theorem OA(a b:Str):decide ((Sum.inr a:Key)=Sum.inr b)=decide (a=b):=by
 simp
theorem Oy(a:Int)(b:Str):decide ((Sum.inl a:Key)=Sum.inr b)=false:=aR (λq=>nomatch q)
theorem Oz(a:Str)(b:Int):decide ((Sum.inr a:Key)=Sum.inl b)=false:=aR (λq=>nomatch q)
def i9(prog:Program)(w:World):PySem.KeyKind prog w Key where
 is:=M3
 hash:=Rw w
 inj:=λv a b ha hb=>by
  rcases k9 ha with⟨i,t,rfl,rfl⟩|⟨x,t,rfl,rfl⟩
  ·rcases k9 hb with⟨j,u,rfl,e⟩|⟨y,u,rfl,e⟩
   ·injection e with e1 _;rw[e1]
   ·exact nomatch e
  ·rcases k9 hb with⟨j,u,rfl,e⟩|⟨y,u,rfl,e⟩
   ·exact nomatch e
   ·injection e with e1 _;rw[e1]
 byValue:=λk v h=>by
  rcases k9 h with⟨i,t,rfl,rfl⟩|⟨x,t,rfl,rfl⟩<;>rfl
 pyHash:=λhv h=>by
  rcases k9 hv with⟨i,t,rfl,rfl⟩|⟨x,t,rfl,rfl⟩
  ·exact wpAny_pyHash_int h
  ·exact wpAny_pyHash_str h
 eqBool:=λhu hv h=>by
  rcases k9 hu with⟨i,t,rfl,rfl⟩|⟨x,t,rfl,rfl⟩
  ·rcases k9 hv with⟨j,u,rfl,rfl⟩|⟨y,u,rfl,rfl⟩
   ·rw[Ox] at h;exact wpAny_eqBool_int h
   ·rw[Oy] at h;exact SeqAt.EqAt.int_str i t y u _ _ _ _ h
  ·rcases k9 hv with⟨j,u,rfl,rfl⟩|⟨y,u,rfl,rfl⟩
   ·rw[Oz] at h;exact SeqAt.EqAt.str_int x t j u _ _ _ _ h
   ·rw[OA] at h;exact wpAny_eqBool_str h
 «strs»:=λk x t v h=>by
  rcases k9 h with⟨i,u,rfl,e⟩|⟨y,u,rfl,e⟩
  ·exact nomatch e
  ·injection e with e1 _;subst e1;cases v<;>rfl
theorem WS(prog:Program)(w:World)(k:Key)(v:Value):(i9 prog w).is k v=M3 k v:=rfl
theorem Sy(prog:Program)(w:World)(i:Int)(t:Tok):(i9 prog w).is (.inl i) (.int i t)=true:=VD i t
theorem Sz(prog:Program)(w:World)(x:Str)(t:Tok):(i9 prog w).is (.inr x) (.str x t)=true:=VE x t
set_option genInjectivity true in
inductive V where
 |bq|bl (b:Bool)|int (i:Int)|str (x:Str)|kj (b:Array UInt8)|qa (b:UInt64)|ref (a:Addr)|ty (n:String)
 deriving DecidableEq
def RelV:V->Value->Prop
 |.bq,u=>u=Value.none
 |.bl b,u=>u=Value.bool b
 |.int i,u=>∃t,u=Value.int i t
 |.str x,u=>∃t,u=Value.str x t
 |.kj b,u=>∃t,u=Value.bytes b t
 |.qa b,u=>∃t,u=Value.float b t
 |.ref a,u=>u=Value.ref a
 |.ty n,u=>u=Value.type n
noncomputable abbrev Vals:List V->List Value->Prop:=Paired RelV
theorem Vals.length{xs:List V}{us:List Value}(r:Vals xs us):xs.length=us.length:=dP r
theorem Vals.get:∀{xs:List V} {us:List Value} {i:Nat} {x:V},Vals xs us->xs[i]?=some x->∃u,us[i]?=some u/\RelV x u
 |_,_,_,_,.nil,e=>by simp at e
 |_,_,0,_,.cons r _,e=>by simp at e;subst e;exact⟨_,rfl,r⟩
 |_,_,i+1,x,.cons _ t,e=>by
  obtain⟨u,h1,h2⟩:=Vals.get t (by simpa using e);exact⟨u,by simpa using h1,h2⟩
theorem Vals.set{x:V}{u:Value}(r:RelV x u):∀{xs:List V} {us:List Value} (i:Nat),Vals xs us->Vals (xs.set i x) (us.set i u)
 |_,_,_,.nil=>.nil
 |_,_,0,.cons _ t=>.cons r t
 |_,_,i+1,.cons q t=>.cons q (Vals.set r i t)
theorem Vals.append{ys:List V}{ws:List Value}(h:Vals xs us)(s:Vals ys ws):Vals (xs++ys) (us++ws):=by
 induction h with
 |nil=>exact s
 |cons r t ih=>exact .cons r ih
theorem Vals.take:∀{xs:List V} {us:List Value} (n:Nat),Vals xs us->Vals (xs.take n) (us.take n)
 |_,_,0,_=>.nil
 |_,_,_+1,.nil=>.nil
 |_,_,n+1,.cons r t=>.cons r (Vals.take n t)
theorem Vals.drop:∀{xs:List V} {us:List Value} (n:Nat),Vals xs us->Vals (xs.drop n) (us.drop n)
 |_,_,0,r=>r
 |_,_,_+1,.nil=>.nil
 |_,_,n+1,.cons _ t=>Vals.drop n t
def A4:Option V->Option Value->Prop
 |some v,some u=>RelV v u
 |none,none=>True
 |_,_=>False
def KV{κ:Type}:List (κ×V)->List (κ×Value)->Prop:=Paired λ(p:κ×V) (q:κ×Value)=>p.1=q.1/\RelV p.2 q.2
def kV:Key->V
 |.inl i=>.int i
 |.inr x=>.str x
inductive HO where
 |lst (xs:List V)
 |tup (xs:List V)
 |dK (kvs:List (Key×V))|dT (kvs:List (List Key×V))
 |set (S:Int->Bool) (n:Nat)
 |ins (C dx:Addr) (fs:List (Str×V))
 |own (x:Addr)
 |xd (fs:List (Str×V))
 |met (f x:Addr)
 |kX (lo hi:Int)
 |jh (o:Obj) (u:HO)
 |oq (ps:Array Value)
 |ext (φ:Heap->Prop)
noncomputable abbrev Hp:=Addr->Option HO
def upd(H:Hp)(a:Addr)(o:HO):Hp:=λb=>if b=a then some o else H b
theorem m9:upd H a o a=some o:=by unfold upd;rw[aJ rfl]
theorem f9(h:b≠a):upd H a o b=H b:=by unfold upd;rw[aB h]
theorem M'{u:HO}(h:H a=some o)(h':H b=some u)(d:o≠u):a≠b:=by
 intro e;subst e;rw[h] at h';exact d (aF h')
theorem j7(h:H a=some o)(h':H b=none):a≠b:=by
 intro e;simp_all
def S4(h:Heap)(a:Addr)(items:Array Value):Prop:=∃o,h.get? a=some o/\o.cls=.type "tuple"/\(∃n,o.data=.seq items n)/\o.dict=none
theorem S4.tup{h:Heap}{a:Addr}{items:Array Value}(x:S4 h a items):IsTup h a items:=let ⟨o,e,c,d,_⟩:=x;⟨o,e,c,d⟩
theorem S4.new(h:Heap)(items:Array Value):S4 (h.push { cls:=.type "tuple",data:=.seq items }) h.objs.size items:=⟨_,aw _ rfl,rfl,⟨_,rfl⟩,rfl⟩
section
variable(P:Program)(w:World)
def j5(H:Hp)(h:Heap)(a:Addr):HO->Prop
 |.lst xs=>xs.length<=sizeLine/\∃(aV:List Value) (n:Nat),Vals xs aV/\h.get? a=some { cls:=.type "list",data:=.seq aV.toArray n }
 |.tup xs=>xs.length<=sizeLine/\∃aV:List Value,Vals xs aV/\S4 h a aV.toArray
 |.dK kvs=>kvs.length<=sizeLine/\(a==sysModules)=false/\∃vs,KV kvs vs/\h.DictOf (i9 P w) a vs
 |.dT kvs=>kvs.length<=sizeLine/\(a==sysModules)=false/\∃xs:List (List Key×Addr×Value),
   Paired (λ(p:List Key×V) (q:List Key×Addr×Value)=>p.1=q.1/\H q.2.1=some (.tup (p.1.map kV))/\RelV p.2 q.2.2) kvs xs /\
   ∃o es ep,h.get? a=some o/\o.ExactDict/\o.data=.dict es ep/\es.toList=xs.map (entryOfKey (tupleKind (i9 P w)))/\(xs.map (·.1)).Nodup
 |.set S n=>h.SetOf (intKind P w) a S n
 |.ins C dx fs=>H dx=some (.own a)/\fs.length<=1000/\dx≠a/\h.get? a=some (PySem.W.instObj C dx) /\
   ∃mA,h.Ns1 dx mA/\(∀f,A4 (fs.lookup f) (mA f))/\PySem.Within mA (fs.map (·.1))
 |.own _=>∃o,h.get? a=some o
 |.xd fs=>∃mA,h.Ns1 a mA/\∀f,A4 (fs.lookup f) (mA f)
 |.kX lo hi=>∃t u v,h.get? a=some { cls:=.type "range",data:=.fields #[.int lo t,.int hi u,.int 1 v] }
 |.jh o u=>h.get? a=some o/\j5 H h a u
 |.oq ps=>h.get? a=some { cls:=.none,data:=.fields ps }
 |.met f x=>h.get? a=some (PySem.W.methodObj (.ref f) (.ref x))
 |.ext φ=>φ h/\(∃o,h.get? a=some o)/\∀h1 h2:Heap,φ h1->(∀o,h1.get? a=some o->h2.get? a=some o)->φ h2
def fx(H:Hp)(h:Heap):Prop:=∀a o,H a=some o->j5 P w H h a o
end
theorem j5.lt(x:j5 P w H h a o):a<h.objs.size:=by
 cases o with
 |lst xs=>obtain⟨_,_,_,_,e⟩:=x;exact ao e
 |tup xs=>obtain⟨_,_,_,p⟩:=x;exact p.tup.lt
 |dK kvs=>obtain⟨_,_,_,_,o,_,_,e,_⟩:=x;exact ao e
 |dT kvs=>obtain⟨_,_,_,_,o,_,_,e,_⟩:=x;exact ao e
 |set S n=>obtain⟨o,_,_,_,e,_⟩:=x;exact ao e
 |ins C dx fs=>obtain⟨_,_,_,e,_⟩:=x;exact ao e
 |own y=>obtain⟨_,e⟩:=x;exact ao e
 |xd fs=>obtain⟨_,⟨_,_,_,e,_⟩,_⟩:=x;exact ao e
 |kX lo hi=>obtain⟨_,_,_,e⟩:=x;exact ao e
 |jh ob u=>obtain⟨e,_⟩:=x;exact ao e
 |oq ps=>exact ao (show h.get? a=some _ from x)
 |met f y=>exact ao (show h.get? a=some _ from x)
 |ext φ=>obtain⟨_,⟨_,e⟩,_⟩:=x;exact ao e
theorem Paired.AG{β:Type}{F G:α->β->Prop}{tm:List α}{tj:List β}(h:Paired F tm tj)(f:∀a b,F a b->G a b):Paired G tm tj:=by
 induction h with
 |nil=>exact .nil
 |cons r t ih=>exact .cons (f _ _ r) ih
theorem j5.F3(x:j5 P w H h a o)(k:∀b u,(b=a\/H b=some (.own a))->h.get? b=some u->h'.get? b=some u)(ho:∀b,H b=some (.own a)->H' b=some (.own a))(ht:∀b xs,H b=some (.tup xs)->H' b=some (.tup xs)):j5 P w H' h' a o:=by
 induction o with
 |lst xs=>obtain⟨z,aV,n,r,e⟩:=x;exact⟨z,aV,n,r,k _ _ (.inl rfl) e⟩
 |tup xs=>obtain⟨z,aV,r,ob,e,c⟩:=x;exact⟨z,aV,r,ob,k _ _ (.inl rfl) e,c⟩
 |dK kvs=>obtain⟨z,y,vs,r,ob,es,ep,e,c⟩:=x;exact⟨z,y,vs,r,ob,es,ep,k _ _ (.inl rfl) e,c⟩
 |dT kvs =>
  obtain⟨z,y,xs,r,ob,es,ep,e,c⟩:=x;exact⟨z,y,xs,Paired.AG r λp q z=>⟨z.1,ht _ _ z.2.1,z.2.2⟩,ob,es,ep,k _ _ (.inl rfl) e,c⟩
 |set S n=>obtain⟨ob,es,ep,t,e,c⟩:=x;exact⟨ob,es,ep,t,k _ _ (.inl rfl) e,c⟩
 |ins C dx fs =>
  obtain⟨d,z,ne,e,mA,⟨od,es,ep,e2,c⟩,r⟩:=x;exact⟨ho _ d,z,ne,k _ _ (.inl rfl) e,mA,⟨od,es,ep,k _ _ (.inr d) e2,c⟩,r⟩
 |own y=>obtain⟨ob,e⟩:=x;exact⟨ob,k _ _ (.inl rfl) e⟩
 |xd fs=>obtain⟨mA,⟨od,es,ep,e,c⟩,r⟩:=x;exact⟨mA,⟨od,es,ep,k _ _ (.inl rfl) e,c⟩,r⟩
 |kX lo hi=>obtain⟨t,u,v,e⟩:=x;exact⟨t,u,v,k _ _ (.inl rfl) e⟩
 |jh ob u ih=>obtain⟨e,q⟩:=x;exact⟨k _ _ (.inl rfl) e,ih q⟩
 |oq ps =>
  have e:=x;exact k a _ (.inl rfl) e
 |met f y =>
  have e:=x;exact k a _ (.inl rfl) e
 |ext φ=>obtain⟨p,⟨o,e⟩,st⟩:=x;exact⟨st _ _ p λo q=>k _ _ (.inl rfl) q,⟨o,k _ _ (.inl rfl) e⟩,st⟩
theorem fx.lt(x:fx P w H h)(e:H a=some o):a<h.objs.size:=(x a o e).lt
theorem fx.fresh(x:fx P w H h)(e:h.objs.size<=a):H a=none:=by
 cases q:H a with
 |none=>rfl
 |some u=>exact absurd (ax (x.lt q) e) (bA _)
theorem fx.kept(x:fx P w H h)(k:∀b u,h.get? b=some u->h'.get? b=some u):fx P w H h':=λa o e =>
 (x a o e).F3 (λb u _ q=>k b u q) (λ_ q=>q) λ_ _ q=>q
theorem fx.laid(x:fx P w H h)(k:∀b u,h.get? b=some u->h'.get? b=some u)(hp:h.objs.size<=a)(new:j5 P w (upd H a o) h' a o):fx P w (upd H a o) h':=λb u e=>by
 have hn:=x.fresh hp;by_cases hb:b=a
 ·subst hb;rw[m9] at e;simp_all
 ·rw[f9 hb] at e;exact(x b u e).F3 (λc v _ q=>k c v q) (λc q=>by rw[f9 (j7 q hn)];exact q) λc xs q=>by rw[f9 (j7 q hn)];exact q
def Rd(H:Hp)(a:Addr)(u:HO):Prop:=H a=some u\/∃o,H a=some (.jh o u)
theorem Rd.ok{u:HO}(r:Rd H a u)(x:fx P w H h):j5 P w H h a u:=by
 rcases r with r|⟨o,r⟩
 ·exact x a u r
 ·obtain⟨_,q⟩:=x a _ r;exact q
def va:Option HO->Prop
 |some (.lst _)=>True
 |some (.dK _)=>True
 |some (.dT _)=>True
 |some (.set _ _)=>True
 |some (.ins _ _ _)=>True
 |some (.ext _)=>True
 |_=>False
section
variable{x e:Addr}{o':HO}
theorem fx.write(ok:fx P w H h)(mu:va (H x))(he:e=x\/H e=some (.own x))(k:∀b u,b≠e->h.get? b=some u->h'.get? b=some u)(pT:∃u,h'.get? e=some u)(new:j5 P w (upd H x o') h' x o'):fx P w (upd H x o') h':=λb u q=>by
 have sS:∀c y,H c=some (.own y)->c≠x:=λc y r z=>by subst z;rw[r] at mu;exact mu
 have xQ:∀c xs,H c=some (.tup xs)->c≠x:=λc xs r z=>by subst z;rw[r] at mu;exact mu
 by_cases hb:b=x
 ·subst hb;rw[m9] at q;cases q;exact new
 ·rw[f9 hb] at q;by_cases rj:b=e
  ·have q':H b=some (.own x):=by
    rcases he with z|z
    ·exact absurd (rj.trans z) hb
    ·rw[rj];exact z
   rw[q] at q';cases q';obtain⟨v,hv⟩:=pT;exact⟨v,by rw[rj];exact hv⟩
  ·refine(ok b u q).F3 (λc v hc r=>k c v ?_ r) (λc r=>by rw[f9 (sS c b r)];exact r) λc xs r=>by rw[f9 (xQ c xs r)];exact r
   rcases hc with rfl|hc
   ·exact rj
   ·rintro rfl;rcases he with z|z
    ·exact sS c b hc z
    ·rw[hc] at z;cases z;exact hb rfl
end
structure Un(fs ex:List Addr)(H H':Hp)(h h':Heap):Prop where
 keep:∀b o,h.get? b=some o->H b=none->b∉fs->b∉ex->h'.get? b=some o
 slot:∀b o,h.get? b=some o->H b=none->b∈fs->b∉ex->∃sl,h'.get? b=some { o with slots:=sl }
 free:∀b o,h.get? b=some o->H b=none->b∉ex->H' b=none
 there:∀b o,h.get? b=some o->b∉ex->∃o',h'.get? b=some o'
 ir:∀b xs,H b=some (.tup xs)->H' b=some (.tup xs)
 hU:∀b o u,H b=some (.jh o u)->H' b=some (.jh o u)
 iu:∀b ps,H b=some (.oq ps)->∃more,H' b=some (.oq (ps++more))
section
variable{fs ex:List Addr}{H1:Hp}{h1:Heap}{x e:Addr}
theorem Un.any(u:Un fs ex H H1 h h1){ob:Obj}(q:h.get? b=some ob)(n:H b=none)(hx:b∉ex):∃sl,h1.get? b=some { ob with slots:=sl }:=by
 by_cases hb:b∈fs
 ·exact u.slot b ob q n hb hx
 ·exact⟨ob.slots,u.keep b ob q n hb hx⟩
theorem Un.kept(k:∀b u,h.get? b=some u->h'.get? b=some u):Un fs ex H H h h' :=
 ⟨λb ob q _ _ _=>k b ob q,λb ob q _ _ _=>⟨ob.slots,k b ob q⟩,λ_ _ _ n _=>n,λb ob q _=>⟨ob,k b ob q⟩,λ_ _ q=>q,λ_ _ _ q=>q,λ_ ps q=>⟨#[],by rw[q];simp⟩⟩
theorem Un.refl:Un fs ex H H h h:=Un.kept λ_ _ q=>q
theorem Un.laid(k:∀b u,h.get? b=some u->h'.get? b=some u)(hp:h.objs.size<=a)(hn:H a=none):Un fs ex H (upd H a o) h h' where
 keep:=λb u q _ _ _=>k b u q
 slot:=λb u q _ _ _=>⟨u.slots,k b u q⟩
 free:=λb u q n _=>by rw[f9 (aD (ax (ao q) hp))];exact n
 there:=λb u q _=>⟨u,k b u q⟩
 ir:=λb xs q=>by rw[f9 (j7 q hn)];exact q
 hU:=λb u xs q=>by rw[f9 (j7 q hn)];exact q
 iu:=λb ps q=>⟨#[],by rw[f9 (j7 q hn),q];simp⟩
theorem Un.write(mu:va (H x))(he:e=x\/H e=some (.own x))(k:∀b u,b≠e->h.get? b=some u->h'.get? b=some u)(pT:∃u,h'.get? e=some u):Un fs ex H (upd H x o) h h':=by
 have hx:∀b,H b=none->b≠x:=λb n z=>by subst z;rw[n] at mu;exact mu
 have hb:∀b,H b=none->b≠e:=λb n z=>by
  simp_all
 have hm:∀b u,H b=some u->¬va (some u)->b≠x:=λb u q nm z=>by simp_all
 refine ⟨λb u q n _ _=>k b u (hb b n) q,λb u q n _ _=>⟨u.slots,k b u (hb b n) q⟩,λb u q n _=>by rw [f9 (hx b n)];exact n,λb u q _=>?_,
  λb xs q=>by rw [f9 (hm b _ q λz=>z)];exact q,λb u xs q=>by rw [f9 (hm b _ q λz=>z)];exact q,λb ps q=>⟨#[],by rw [f9 (hm b _ q λz=>z),q];simp⟩⟩
 by_cases rj:b=e
 ·simp_all
 ·exact⟨u,k b u rj q⟩
end
def nj(h:Heap)(H:Hp):List Addr:=(List.range h.objs.size).filter λa=>(H a).isSome
def U1(h:Heap)(H:Hp):Heap:=PySem.W.hideAll h (nj h H)
theorem Vu(h:Heap)(H:Hp):(U1 h H).objs.size=h.objs.size:=PySem.W.hideAll_size _ _
theorem TR{o:Obj}(e:h.get? b=some o)(n:H b=none):(U1 h H).get? b=some o :=
 Bx _ e λhm=>by
  have q:=(cA.mp hm).2;rw[n] at q;simp at q
theorem Xt{o:Obj}(e:(U1 h H).get? b=some o):h.get? b=some o/\H b=none:=by
 have e':=Im (nj h H) e;refine⟨e',?_⟩;cases q:H b with
 |none=>rfl
 |some x =>
  have hm:b∈nj h H:=cA.mpr ⟨dN.mpr (ao e'),by simp[q]⟩;have z:(U1 h H).get? b=none:=PySem.W.hideAll_none (nj h H) hm
  simp_all
structure Mod(K:PySem.W.Frag)(mg:Str->Option Value)(base:Heap):Prop where
 mB:K.In base
 glob:base.Ns mainGlobals mg
 blt:∃mb,base.Ns builtinsNs mb/\∀x:Str,x≠"__name__"->mb x=bootBuiltins x
 nolimit:base.NoLimit
structure Cx where
 prog:Program
 w:World
 K:PySem.W.Frag
 mg:Str->Option Value
 base:Heap
 A:Around
 N:List Str
 cV:Shared
 iU:Hp
 env:Env
 outer:List Env
 stack:List Env
 ex:List Addr
 fn:Str->Bool
 calm:Bool
 pn:List (Addr×Obj)
 xe:Value->Shared->Prop
 sg:Option (List (Option V)):=none
def Cx.Nd(X:Cx):Prop:=X.N.Nodup/\X.sg=none
def fk(l:List Env):List Addr:=l.filterMap (·.frame)
noncomputable abbrev Cx.fs(X:Cx):List Addr:=fk X.outer
def wY(sc:Scope)(x:Str):Prop:=sc.names.lookup x=some .local\/sc.names.lookup x=some .cell\/sc.names.lookup x=some .free
def Loc(sc:Scope)(x:Str):Prop:=sc.names.lookup x=some .local\/sc.names.lookup x=some .cell
def Look(env:Env)(h:Heap)(m:Str->Option Value)(x:Str)(u:Value):Prop :=
 (env.kindOf x=some .local/\m x=some u)\/((env.kindOf x=some .cell\/env.kindOf x=some .free)/\∃c,env.cells.lookup x=some c/\h.IsCell c (some u))
structure Cx.Ok(X:Cx):Prop where
 mod:Mod X.K X.mg X.base
 kind:X.env.scope.kind=.function
 glob:X.env.globals=mainGlobals
 blt:X.env.builtins=builtinsNs
 above:X.cV.heap.objs.size<=X.env.locals
 inj:∀x y c,X.env.cells.lookup x=some c->X.env.cells.lookup y=some c->x=y
 has:∀x,(X.env.kindOf x=some .cell\/X.env.kindOf x=some .free)->∃c,X.env.cells.lookup x=some c
 oR:∀x c,X.fn x=true->X.env.cells.lookup x=some c->X.cV.heap.objs.size<=c
 hd:X.calm=true->X.A.handled=none
 frames:X.A.frames=some X.stack
 pA:X.stack=X.outer\/(X.stack=X.env::X.outer/\X.env.frame=some X.env.locals)
 uz:∀b∈X.ex,b≠X.env.locals/\∀x c,X.env.cells.lookup x=some c->c≠b
 bs:∀b o,X.base.get? b=some o->X.cV.heap.get? b=some o/\X.iU b=none
 ml:X.base.objs.size<=X.cV.heap.objs.size
 jw:∀b o,X.base.get? b=some o->b∉X.ex
 jZ:∀b∈X.ex,b∉X.fs
 E0:X.cV.heap.FunFrames X.base X.outer
 mK:∀b∈X.fs,X.iU b=none
structure Inv(X:Cx)(pins:List (Addr×Obj))(Z:List (Option V))(H:Hp)(s:Shared):Prop where
 ok:X.Ok
 os:s.os=X.cV.os
 bare:AllBare s.gens
 base:Un X.fs X.ex X.iU H X.cV.heap s.heap
 loc:∃m,s.heap.Ns X.env.locals m/\∀(i:Nat) (x:Str) (v:V),X.N[i]?=some x->Z[i]?=some (some v)->wY X.env.scope x->∃u,RelV v u/\Look X.env s.heap m x u
 cell:∀x c,X.env.cells.lookup x=some c->∃v,s.heap.IsCell c v
 free:H X.env.locals=none
 eF:∀x c,X.env.cells.lookup x=some c->H c=none
 pin:∀p∈X.pn++pins,s.heap.get? p.1=some p.2/\H p.1=none/\p.1≠X.env.locals/\p.1∉X.fs/\∀v,p.2.data≠.cell v
 bB:fx X.prog X.w H s.heap
 len:Z.length=X.N.length
 sg:∀cL,X.sg=some cL->Z=cL
section
variable{Z:List (Option V)}
theorem Cx.Ok.RI(ok:X.Ok){o:Obj}(e:X.base.get? b=some o):b∉X.fs:=λhb=>by
 have:=(ok.E0.mem hb).1
 simp_all
theorem Inv.bs(I:Inv X pins Z H s):∀b o,X.base.get? b=some o->s.heap.get? b=some o/\H b=none:=λb o e =>
 ⟨I.base.keep b o (I.ok.bs b o e).1 (I.ok.bs b o e).2 (I.ok.RI e) (I.ok.jw b o e),I.base.free b o (I.ok.bs b o e).1 (I.ok.bs b o e).2 (I.ok.jw b o e)⟩
theorem Inv.bk(I:Inv X pins Z H s):∀b o,X.base.get? b=some o->s.heap.get? b=some o:=λb o e=>(I.bs b o e).1
theorem Inv.mod(I:Inv X pins Z H s):Mod X.K X.mg X.base:=I.ok.mod
theorem Inv.gj(I:Inv X pins Z H s):X.K.In s.heap:=I.ok.mod.mB.keeps I.bk
theorem Inv.lt(I:Inv X pins Z H s):X.env.locals<s.heap.objs.size:=let ⟨_,hn,_⟩:=I.loc;hn.lt
theorem Inv.sz(I:Inv X pins Z H s):X.cV.heap.objs.size<=s.heap.objs.size:=aE I.ok.above (bX I.lt)
theorem Inv.AH(I:Inv X pins Z H s)(h:s.heap.objs.size<=a):a∉X.fs:=λhb=>by
 obtain⟨_,o,ho,_⟩:=I.ok.E0.mem hb;exact absurd (ax (ao ho) (aE I.sz h)) (bA _)
theorem Inv.qf(I:Inv X pins Z H s):∀x c,X.env.cells.lookup x=some c->c≠X.env.locals:=λx c e z=>by
 obtain⟨v,o,ho,hd⟩:=I.cell x c e;obtain⟨m,⟨o',es,ep,kJ,nR,_⟩,_⟩:=I.loc
 simp_all
theorem Inv.E0(I:Inv X pins Z H s):s.heap.FunFrames X.base X.outer:=by
 have all:∀(l:List Env),(∀b∈fk l,b∈X.fs)->X.cV.heap.FunFrames X.base l->s.heap.FunFrames X.base l:=by
  intro l
  induction l with
  |nil=>intro _ _;trivial
  |cons env r ih =>
   intro hs hl;obtain⟨hk,⟨L,o,hf,hn,ho,hd⟩,hr⟩:=hl;have hL:=hs L (by unfold fk;rw[cX,hf];exact aL);obtain⟨sl,e⟩:=I.base.slot L o ho (I.ok.mK L hL) hL λz=>I.ok.jZ L z hL;exact⟨hk,⟨L,_,hf,hn,e,hd⟩,ih (λb hb=>hs b (by unfold fk;rw[cX,hf];exact aI _ hb)) hr⟩
 exact all X.outer (λ_ hb=>hb) I.ok.E0
theorem Inv.stack(I:Inv X pins Z H s):s.heap.FunFrames X.base X.stack:=by
 rcases I.ok.pA with e|⟨e,hf⟩
 ·rw[e];exact I.E0
 ·rw[e];obtain⟨m,hn,_⟩:=I.loc;refine .cons (by rw[I.ok.kind];decide) hf hn ?_ I.E0;exact Heap.get?_none_of_le (aE I.ok.ml I.ok.above)
theorem Inv.N4(I:Inv X pins Z H s):∀b∈fk X.stack,b∈X.env.locals::X.fs:=λb hb=>by
 rcases I.ok.pA with e|⟨e,hf⟩
 ·rw[e] at hb;exact aI _ hb
 ·rw[e] at hb;unfold fk at hb;rw[cX,hf] at hb;exact hb
theorem Inv.Y9(I:Inv X pins Z H s):∀b∈fk X.stack,H b=none:=λb hb=>by
 rcases av.mp (I.N4 b hb) with e|hb
 ·rw[e];exact I.free
 ·obtain⟨_,o,ho,_⟩:=I.ok.E0.mem hb;exact I.base.free b o ho (I.ok.mK b hb) λz=>I.ok.jZ b z hb
theorem Inv.step{g':Array GenState}{t':Nat}{d':Drawn}{ch:List Addr}(I:Inv X pins Z H s)(kh:∀b∈ch,(b∈X.ex\/X.cV.heap.objs.size<=b)/\b≠X.env.locals/\(∀x c,X.env.cells.lookup x=some c->c≠b)/\∀p∈X.pn++pins,p.1≠b)(keep:∀b o,b≠X.env.locals->b∉X.fs->b∉ch->s.heap.get? b=some o->H b=none->h'.get? b=some o)(slot:∀b o,b≠X.env.locals->b∈X.fs->b∉ch->s.heap.get? b=some o->H b=none->∃sl,h'.get? b=some { o with slots:=sl })(free:∀b o,b∉ch->s.heap.get? b=some o->H b=none->H' b=none)(there:∀b o,b∉ch->s.heap.get? b=some o->∃o',h'.get? b=some o')(ir:∀b xs,H b=some (.tup xs)->H' b=some (.tup xs))(hU:∀b o u,H b=some (.jh o u)->H' b=some (.jh o u))(iu:∀b ps,H b=some (.oq ps)->∃more,H' b=some (.oq (ps++more)))(ns:∀m,s.heap.Ns X.env.locals m->h'.Ns X.env.locals m)(bB:fx X.prog X.w H' h')(hg:AllBare g') :
  Inv X pins Z H' { s with heap:=h',gens:=g',drawn:=d',toks:=t' }:=by
 have Ck:∀b o,X.cV.heap.get? b=some o->b≠X.env.locals:=λb o e=>aD (ax (ao e) I.ok.above);have qR:∀b o,X.cV.heap.get? b=some o->b∉X.ex->b∉ch:=λb o e hx hb=>by
  rcases(kh b hb).1 with z|z
  ·exact hx z
  ·exact absurd (ax (ao e) z) (bA _)
 have cellK:∀x c,X.env.cells.lookup x=some c->∀v,s.heap.IsCell c v->h'.IsCell c v:=λx c e v bp=>by
  obtain⟨o,ho,hd⟩:=bp;have sY:c∉ch:=λz=>(kh c z).2.2.1 x c e rfl;by_cases hc:c∈X.fs
  ·obtain⟨sl,q⟩:=slot c o (I.qf x c e) hc sY ho (I.eF x c e);exact⟨_,q,hd⟩
  ·exact⟨o,keep c o (I.qf x c e) hc sY ho (I.eF x c e),hd⟩
 refine⟨I.ok,I.os,hg,⟨λb o e n hb hx=>?_,λb o e n hb hx=>?_,λb o e n hx=>?_,λb o e hx=>?_,λb xs e=>ir b xs (I.base.ir b xs e),λb o xs e=>hU b o xs (I.base.hU b o xs e),λb ps e=>?_⟩,?_,λx c e=>?_,?_,λx c e=>?_,λp hp=>?_,bB,I.len,I.sg⟩
 ·exact keep b o (Ck b o e) hb (qR b o e hx) (I.base.keep b o e n hb hx) (I.base.free b o e n hx)
 ·obtain⟨sl,e1⟩:=I.base.slot b o e n hb hx;obtain⟨IT,e2⟩:=slot b _ (Ck b o e) hb (qR b o e hx) e1 (I.base.free b o e n hx);exact⟨IT,e2⟩
 ·obtain⟨o',e1⟩:=I.base.there b o e hx;exact free b o' (qR b o e hx) e1 (I.base.free b o e n hx)
 ·obtain⟨o',e1⟩:=I.base.there b o e hx;exact there b o' (qR b o e hx) e1
 ·obtain⟨m1,e1⟩:=I.base.iu b ps e;obtain⟨m2,e2⟩:=iu b _ e1;exact⟨m1++m2,by rw[e2,Array.append_assoc]⟩
 ·obtain⟨m,hn,hl⟩:=I.loc;refine⟨m,ns m hn,λi x v e1 e2 e3=>?_⟩;obtain⟨u,r,l⟩:=hl i x v e1 e2 e3;refine⟨u,r,?_⟩;rcases l with l|⟨k,c,e,z⟩
  ·exact .inl l
  ·exact .inr ⟨k,c,e,cellK x c e _ z⟩
 ·obtain⟨v,z⟩:=I.cell x c e;exact⟨v,cellK x c e v z⟩
 ·obtain⟨m,⟨o,_,_,ho,_⟩,_⟩:=I.loc;exact free _ o (λz=>(kh _ z).2.1 rfl) ho I.free
 ·obtain⟨v,o,ho,hd⟩:=I.cell x c e;exact free c o (λz=>(kh c z).2.2.1 x c e rfl) ho (I.eF x c e)
 ·obtain⟨e,n,ne,nf,d⟩:=I.pin p hp;have sY:p.1∉ch:=λz=>(kh p.1 z).2.2.2 p hp rfl;exact⟨keep p.1 p.2 ne nf sY e n,free p.1 p.2 sY e n,ne,nf,d⟩
theorem Inv.un{t':Nat}(I:Inv X pins Z H s)(u:Un X.fs [] H H' s.heap h')(bB:fx X.prog X.w H' h'):Inv X pins Z H' { s with heap:=h',toks:=t' }:=by
 obtain⟨m,⟨o,es,ep,ho,r⟩,_⟩:=id I.loc;obtain⟨sl,hL⟩:=u.any ho I.free (by simp);exact I.step (g':=s.gens) (d':=s.drawn) (ch:=[]) (λ_ z=>nomatch z) (λb o _ hb _ e n=>u.keep b o e n hb (by simp)) (λb o _ hb _ e n=>u.slot b o e n hb (by simp)) (λb o _ e n=>u.free b o e n (by simp)) (λb o _ e=>u.there b o e (by simp)) u.ir u.hU u.iu (λm' hm=>by
  obtain⟨o',iT,mf,kJ,r'⟩:=hm;rw[ho] at kJ;cases kJ;exact ⟨_,iT,mf,hL,r'⟩) bB I.bare
theorem Inv.call{g':Array GenState}{t':Nat}{d':Drawn}(I:Inv X pins Z H s)(u:Un (fk X.stack) ch H H' s.heap h')(bB:fx X.prog X.w H' h')(hg:AllBare g')(kh:∀b∈ch,(b∈X.ex\/X.cV.heap.objs.size<=b)/\b≠X.env.locals/\(∀x c,X.env.cells.lookup x=some c->c≠b)/\∀p∈X.pn++pins,p.1≠b) :
  Inv X pins Z H' { s with heap:=h',gens:=g',drawn:=d',toks:=t' }:=by
 obtain⟨m,⟨o,es,ep,ho,r⟩,_⟩:=id I.loc;obtain⟨sl,hL⟩:=u.any ho I.free λz=>(kh _ z).2.1 rfl;exact I.step kh (λb o hL hb hc e n=>u.keep b o e n (λz=>(av.mp (I.N4 b z)).elim hL hb) hc) (λb o _ _ hc e n=>u.any e n hc) (λb o hc e n=>u.free b o e n hc) (λb o hc e=>u.there b o e hc) u.ir u.hU u.iu (λm' hm=>by
  obtain⟨o',iT,mf,kJ,r'⟩:=hm;rw[ho] at kJ;cases kJ;exact ⟨_,iT,mf,hL,r'⟩) bB hg
theorem Inv.turned{t':Nat}{it:Addr}(I:Inv X pins Z H s)(k:∀b o,b≠it->s.heap.get? b=some o->h'.get? b=some o)(hn:H it=none)(hL:it≠X.env.locals)(h1:it∈X.ex\/X.cV.heap.objs.size<=it)(h2:∀x c,X.env.cells.lookup x=some c->c≠it)(h3:∀p∈X.pn++pins,p.1≠it):Inv X pins Z H { s with heap:=h',toks:=t' }:=by
 have Cj:∀b u,H b=some u->b≠it:=λb u e z=>by simp_all
 refine I.step (g':=s.gens) (d':=s.drawn) (ch:=[it]) (λb hb=>?_) (λb o _ _ hc e _=>k b o (λz=>hc (by simp[z])) e) (λb o _ _ hc e _=>⟨o.slots,k b o (λz=>hc (by simp[z])) e⟩) (λ_ _ _ _ n=>n)
  (λb o hc e=>⟨o,k b o (λz=>hc (by simp[z])) e⟩) (λ_ _ e=>e) (λ_ _ _ e=>e) (λb ps e=>⟨#[],by rw[e];simp⟩) (λm hm=>?_) (λb u e=>?_) I.bare
 ·have e:b=it:=by simpa using hb
  subst e;exact⟨h1,hL,h2,h3⟩
 ·obtain⟨o,es,ep,ho,r⟩:=hm;exact⟨o,es,ep,k _ o (bW hL) ho,r⟩
 ·refine(I.bB b u e).F3 (λc v hc q=>k c v ?_ q) (λ_ q=>q) λ_ _ q=>q;rcases hc with z|z
  ·rw[z];exact Cj b u e
  ·exact Cj c _ z
theorem Inv.tok(I:Inv X pins Z H s)(t:Nat):Inv X pins Z H { s with toks:=t }:=I.un (h':=s.heap) (t':=t) Un.refl I.bB
theorem Inv.kept{t':Nat}(I:Inv X pins Z H s)(k:∀b u,s.heap.get? b=some u->h'.get? b=some u):Inv X pins Z H { s with heap:=h',toks:=t' }:=I.un (Un.kept k) (I.bB.kept k)
theorem Inv.laid{a:Addr}{o:HO}{t':Nat}(I:Inv X pins Z H s)(k:∀b u,s.heap.get? b=some u->h'.get? b=some u)(hp:s.heap.objs.size<=a)(new:j5 X.prog X.w (upd H a o) h' a o) :
  Inv X pins Z (upd H a o) { s with heap:=h',toks:=t' }:=I.un (Un.laid k hp (I.bB.fresh hp)) (I.bB.laid k hp new)
theorem Inv.write{x e:Addr}{o:HO}{t':Nat}(I:Inv X pins Z H s)(mu:va (H x))(he:e=x\/H e=some (.own x))(k:∀b u,b≠e->s.heap.get? b=some u->h'.get? b=some u)(pT:∃u,h'.get? e=some u)(new:j5 X.prog X.w (upd H x o) h' x o):Inv X pins Z (upd H x o) { s with heap:=h',toks:=t' }:=I.un (Un.write mu he k pT) (I.bB.write mu he k pT new)
theorem Inv.weak{cb:List (Option V)}(hs:X.sg=none)(I:Inv X pins Z H s)(hl:cb.length=Z.length)(w:∀(i:Nat) v,cb[i]?=some (some v)->Z[i]?=some (some v)):Inv X pins cb H s :=
 ⟨I.ok,I.os,I.bare,I.base,let ⟨m,hn,tV⟩:=I.loc;⟨m,hn,λi x v e1 e2 e3=>tV i x v e1 (w i v e2) e3⟩,I.cell,I.free,I.eF,I.pin,I.bB,hl.trans I.len,λ_ z=>by simp_all⟩
theorem Inv.Q8{fb:List (Addr×Obj)}(I:Inv X pins Z H s)(h:∀p∈fb,s.heap.get? p.1=some p.2/\H p.1=none/\p.1≠X.env.locals/\p.1∉X.fs/\∀v,p.2.data≠.cell v):Inv X fb Z H s :=
 ⟨I.ok,I.os,I.bare,I.base,I.loc,I.cell,I.free,I.eF,λp hp=>(aT.mp hp).elim (λz=>I.pin p (cy _ z)) (h p),I.bB,I.len,I.sg⟩
theorem EV(hN:N.Nodup){j:Nat}(a:N[i]?=some x)(b:N[j]?=some x):i=j:=by
 obtain⟨h1,e1⟩:=ay.mp a;obtain⟨h2,e2⟩:=ay.mp b;exact(List.getElem_inj hN).mp (e1.trans e2.symm)
theorem FK{Q:Unit->Shared->Prop}(I:Inv X pins Z H s)(hN:X.Nd)(hi:X.N[i]?=some x)(hx:Loc X.env.scope x)(r:RelV v u)(h:∀s',Inv X pins (Z.set i (some v)) H s'->(∃a,Heap.SameBut a s.heap s'.heap/\(a=X.env.locals\/X.env.cells.lookup x=some a))->Q Unit.unit s')(hf:X.fn x=true\/X.env.scope.names.lookup x=some .local:=by first|exact .inl rfl|exact .inr rfl|assumption):wpAny M A (storeName X.env x u) Q E s:=by
 obtain⟨m,hn,hl⟩:=id I.loc;have nS:(X.env.scope.kind==.class||(X.env.scope.kind==.module&&X.env.locals != X.env.globals))=false:=by rw[I.ok.kind];rfl
 have tX:i<Z.length:=by rw[I.len];exact(ay.mp hi).1
 have qf:=I.qf;have tracked:∀{a:Addr} {h':Heap},(∃o,s.heap.get? a=some o/\H a=none)->Heap.SameBut a s.heap h'->fx X.prog X.w H h':=λ{a h'} ha hs b ob e=>by
  obtain⟨_,_,oH⟩:=ha;refine(I.bB b ob e).F3 (λc w' hc q=>(hs.2 c ?_).trans q) (λ_ q=>q) λ_ _ q=>q;rintro rfl;rcases hc with rfl|hc
  ·rw[oH] at e;cases e
  ·rw[oH] at hc;cases hc
 rcases hx with hk|hk
 ·refine wpAny_storeName_local hk hn (λh' qY hs=>?_) nS;obtain⟨oL,_,_,tR,_⟩:=id hn;refine h _ ⟨I.ok,I.os,I.bare,⟨λb o e n hb hx=>?_,λb o e n hb hx=>?_,I.base.free,λb o e hx=>?_,I.base.ir,I.base.hU,I.base.iu⟩,⟨_,qY,λj y v' e1 e2 e3=>?_⟩,λy c e=>?_,I.free,I.eF,λp hp=>?_,tracked ⟨oL,tR,I.free⟩ hs,by simpa using I.len,λ_ z=>by rw[hN.2] at z;cases z⟩ ⟨_,hs,.inl rfl⟩
  ·exact(hs.2 b (aD (ax (ao e) I.ok.above))).trans (I.base.keep b o e n hb hx)
  ·obtain⟨sl,e1⟩:=I.base.slot b o e n hb hx;exact⟨sl,(hs.2 b (aD (ax (ao e) I.ok.above))).trans e1⟩
  ·obtain⟨o',e1⟩:=I.base.there b o e hx;exact⟨o',(hs.2 b (aD (ax (ao e) I.ok.above))).trans e1⟩
  ·by_cases hj:j=i
   ·subst hj;rw[hi] at e1;cases e1;rw[aH tX] at e2;cases e2;exact⟨u,r,.inl ⟨hk,by simp⟩⟩
   ·rw[au (bW hj)] at e2;obtain⟨u',r',q⟩:=hl j y v' e1 e2 e3;refine⟨u',r',?_⟩;rcases q with⟨k,e⟩|⟨k,c,e,z⟩
    ·refine .inl ⟨k,?_⟩;have:y≠x:=λe=>hj (EV hN.1 e1 (e▸hi));simp[this,e]
    ·exact .inr ⟨k,c,e,z.sameBut hs (qf y c e)⟩
  ·obtain⟨w',z⟩:=I.cell y c e;exact⟨w',z.sameBut hs (qf y c e)⟩
  ·obtain⟨e,n,ne,nf,d⟩:=I.pin p hp;exact⟨(hs.2 p.1 ne).trans e,n,ne,nf,d⟩
 ·have rg:X.fn x=true:=by
   simp_all
  obtain⟨c,hc⟩:=I.ok.has x (.inl hk);obtain⟨w',z⟩:=I.cell x c hc;refine wpAny_storeName_cell I.ok.kind hk hc z (λh' iR hs=>?_);obtain⟨oc,yo,yn⟩:=id z;refine h { s with heap:=h' } ⟨I.ok,I.os,I.bare,⟨λb o e n hb hx=>?_,λb o e n hb hx=>?_,I.base.free,λb o e hx=>?_,I.base.ir,I.base.hU,I.base.iu⟩,⟨m,hn.sameBut hs (bW (qf x c hc)),λj y v' e1 e2 e3=>?_⟩,λy c' e=>?_,I.free,I.eF,λp hp=>?_,tracked ⟨oc,yo,I.eF x c hc⟩ hs,by simpa using I.len,λ_ z=>by rw[hN.2] at z;cases z⟩ ⟨c,hs,.inr hc⟩
  ·exact(hs.2 b (aD (ax (ao e) (I.ok.oR x c rg hc)))).trans (I.base.keep b o e n hb hx)
  ·obtain⟨sl,e1⟩:=I.base.slot b o e n hb hx;exact⟨sl,(hs.2 b (aD (ax (ao e) (I.ok.oR x c rg hc)))).trans e1⟩
  ·obtain⟨o',e1⟩:=I.base.there b o e hx;exact⟨o',(hs.2 b (aD (ax (ao e) (I.ok.oR x c rg hc)))).trans e1⟩
  ·by_cases hj:j=i
   ·subst hj;rw[hi] at e1;cases e1;rw[aH tX] at e2;cases e2;exact⟨u,r,.inr ⟨.inl hk,c,hc,iR⟩⟩
   ·rw[au (bW hj)] at e2;obtain⟨u',r',q⟩:=hl j y v' e1 e2 e3;refine⟨u',r',?_⟩;rcases q with q|⟨k,c',e,z'⟩
    ·exact .inl q
    ·refine .inr ⟨k,c',e,z'.sameBut hs ?_⟩;rintro rfl;exact hj (EV hN.1 e1 (I.ok.inj _ _ _ e hc▸hi))
  ·by_cases mH:c'=c
   ·subst mH;exact⟨_,iR⟩
   ·obtain⟨w2,z2⟩:=I.cell y c' e;exact⟨w2,z2.sameBut hs mH⟩
  ·obtain⟨e,n,ne,nf,d⟩:=I.pin p hp;refine⟨(hs.2 p.1 ?_).trans e,n,ne,nf,d⟩;intro q;rw[q,yo] at e;have q':=aF e;exact d w' (by rw[<- q'];exact yn)
theorem Fg{Q:Unit->Shared->Prop}(I:Inv X pins Z H s)(hN:X.Nd)(hi:X.N[i]?=some x)(hx:Loc X.env.scope x)(r:RelV v u)(h:∀s',Inv X pins (Z.set i (some v)) H s'->Q Unit.unit s')(hf:X.fn x=true\/X.env.scope.names.lookup x=some .local:=by first|exact .inl rfl|exact .inr rfl|assumption):wpAny M A (storeName X.env x u) Q E s :=
 FK I hN hi hx r (λs' I' _=>h s' I') hf
theorem Inv.AQ{s':Shared}(I:Inv X pins Z H s)(ho:s'.os=s.os)(u:Un (fk X.stack) ch H H' s.heap s'.heap)(bB:fx X.prog X.w H' s'.heap)(hg:AllBare s'.gens)(kh:∀b∈ch,(b∈X.ex\/X.cV.heap.objs.size<=b)/\b≠X.env.locals/\(∀x c,X.env.cells.lookup x=some c->c≠b)/\∀p∈X.pn++pins,p.1≠b):Inv X pins Z H' s':=by
 obtain⟨h',g',d',t',o'⟩:=s';have e:o'=s.os:=ho;subst e;exact I.call (g':=g') (t':=t') (d':=d') u bB hg kh
end
noncomputable abbrev XK:=Value->Option Addr->Hp->Prop
noncomputable abbrev St:=List (Option V)
noncomputable abbrev VK:=V->Hp->Prop
noncomputable abbrev TE:=St->Hp->VK->Prop
noncomputable abbrev TT:=St->Hp->(Bool->Hp->Prop)->Prop
noncomputable abbrev TA:=St->Hp->(List V->Hp->Prop)->Prop
structure Ends where
 nx:St->Hp->Prop
 rt:VK
 bk:St->Hp->Prop:=λ_ _=>False
 ct:St->Hp->Prop:=λ_ _=>False
noncomputable abbrev TS:=Ends->St->Hp->Prop
def EP(X:Cx)(pins:List (Addr×Obj))(Z:St)(Q:VK)(u:Value)(s':Shared):Prop:=∃v H',Inv X pins Z H' s'/\RelV v u/\Q v H'
def TP(X:Cx)(pins:List (Addr×Obj))(Z:St)(Q:Bool->Hp->Prop)(b:Bool)(s':Shared):Prop:=∃H',Inv X pins Z H' s'/\Q b H'
def AP(X:Cx)(pins:List (Addr×Obj))(Z:St)(Q:List V->Hp->Prop)(us:List Value)(s':Shared):Prop:=∃vs H',Inv X pins Z H' s'/\Vals vs us/\Q vs H'
def SP(X:Cx)(pins:List (Addr×Obj))(D:Ends)(f:Flow)(s':Shared):Prop :=
 match f with
 |.next=>∃cb H',Inv X pins cb H' s'/\D.nx cb H'
 |.brk=>∃cb H',Inv X pins cb H' s'/\D.bk cb H'
 |.cont=>∃cb H',Inv X pins cb H' s'/\D.ct cb H'
 |.ret u=>∃v cb H',Inv X pins cb H' s'/\RelV v u/\D.rt v H'
def PE(X:Cx)(e:Expr)(t:TE):Prop :=
 ∀(pins:List (Addr×Obj)) (s:Shared) (Z:St) (H:Hp) (Q:VK),Inv X pins Z H s->t Z H Q->wpAny (model X.prog X.w) X.A (eval e X.env) (EP X pins Z Q) X.xe s
def PT(X:Cx)(e:Expr)(t:TT):Prop :=
 ∀(pins:List (Addr×Obj)) (s:Shared) (Z:St) (H:Hp) (Q:Bool->Hp->Prop),Inv X pins Z H s->t Z H Q->wpAny (model X.prog X.w) X.A (isTrue e X.env (eval e X.env)) (TP X pins Z Q) X.xe s
def PW(X:Cx)(e:Expr)(t:TT):Prop :=
 ∀(whole:Sem Value) (pins:List (Addr×Obj)) (s:Shared) (Z:St) (H:Hp) (Q:Bool->Hp->Prop),Inv X pins Z H s->t Z H Q->wpAny (model X.prog X.w) X.A (isTrue e X.env whole) (TP X pins Z Q) X.xe s
theorem PW.pt{t:TT}(h:PW X e t):PT X e t:=h _
def PA(X:Cx)(es:List Expr)(t:TA):Prop :=
 ∀(pos:Pos) (pins:List (Addr×Obj)) (s:Shared) (Z:St) (H:Hp) (Q:List V->Hp->Prop),Inv X pins Z H s->t Z H Q->wpAny (model X.prog X.w) X.A (spliced (backTo pos (starEach es X.env))) (AP X pins Z Q) X.xe s
def PS(X:Cx)(st:Stmt)(t:TS):Prop :=
 ∀(pins:List (Addr×Obj)) (s:Shared) (Z:St) (H:Hp) (D:Ends),Inv X pins Z H s->t D Z H->wpAny (model X.prog X.w) X.A (exec st X.env) (SP X pins D) X.xe s
def iZ(X:Cx)(st:List Stmt)(t:TS):Prop :=
 ∀(pins:List (Addr×Obj)) (s:Shared) (Z:St) (H:Hp) (D:Ends),Inv X pins Z H s->t D Z H->wpAny (model X.prog X.w) X.A (execs st X.env) (SP X pins D) X.xe s
theorem cJ{t:Sem α}{Q Q':α->Shared->Prop}(h:wpAny M A t Q E s)(hQ:∀a s,Q a s->Q' a s):wpAny M A t Q' E s:=bK h hQ λ_ _ x=>x
section
theorem bin{a b:Expr}(ha:PE X a ta)(hb:PE X b tb){R:V->V->Hp->Prop}(I:Inv X pins Z H s)(h:ta Z H λx H1=>tb Z H1 λy H2=>R x y H2){Q:α->Shared->Prop}{f:Value->Value->Sem α}(hf:∀v u s2 x y H2,Inv X pins Z H2 s2->RelV x v->RelV y u->R x y H2->wpAny (model X.prog X.w) X.A (f v u) Q X.xe s2) :
  wpAny (model X.prog X.w) X.A (eval a X.env) (λv bC=>wpAny (model X.prog X.w) X.A (eval b X.env) (λu fB=>wpAny (model X.prog X.w) X.A (f v u) Q X.xe fB) X.xe bC) X.xe s:=by
 refine cJ (ha pins s Z H _ I h) λv s1 bp=>?_;obtain⟨x,H1,I1,r1,q1⟩:=bp;refine cJ (hb pins s1 Z H1 _ I1 q1) λu s2 bp=>?_;obtain⟨y,H2,I2,r2,q2⟩:=bp;exact hf v u s2 x y H2 I2 r1 r2 q2
def LM(i:Nat):TE:=λZ H Q=>∃v,Z[i]?=some (some v)/\Q v H
def tC(v:V):TE:=λ_ H Q=>Q v H
theorem Pn(hN:X.N[i]?=some x)(hv:wY X.env.scope x)(hd:(x==("__debug__":Str))=false:=by decide)(kL:(x==("__classdict__":Str))=false:=by decide):PE X (.Name x pos) (LM i):=by
 intro pins s Z H Q I h;obtain⟨v,e,h⟩:=h;obtain⟨m,hn,hl⟩:=I.loc;obtain⟨u,r,l⟩:=hl i x v hN e hv;have fin:EP X pins Z Q u s:=⟨v,H,I,r,h⟩
 rcases l with⟨hk,hm⟩|⟨hk,c,hc,oI⟩
 ·exact wpAny_Name (wpAny_loadName_local I.ok.kind hk hn hm fin) hd
 ·rcases hk with hk|hk
  ·exact wpAny_Name (wpAny_loadName_cell I.ok.kind hk hc oI fin) hd
  ·exact wpAny_Name (wpAny_loadName_free I.ok.kind hk hc oI fin kL) hd
theorem GI{i j pos}:PE X (.Constant (.int i) j pos) (tC (.int i)):=λ_ _ _ H _ I h=>wpAny_Constant_int ⟨.int i,H,I.tok _,⟨_,rfl⟩,h⟩
theorem Nk{b j pos}:PE X (.Constant (.bool b) j pos) (tC (.bl b)):=λ_ _ _ H _ I h=>Constant_bool ⟨.bl b,H,I,rfl,h⟩
theorem Ph{j pos}:PE X (.Constant .none j pos) (tC .bq):=λ_ _ _ H _ I h=>Constant_none ⟨.bq,H,I,rfl,h⟩
theorem Pl{x j pos}:PE X (.Constant (.str x) j pos) (tC (.str x)):=λ_ _ _ H _ I h=>Calls.Constant_str ⟨.str x,H,I.tok _,⟨_,rfl⟩,h⟩
def Gl(X:Cx)(x:Str):Prop:=X.env.kindOf x=some .globalImplicit
theorem K2(I:Inv X pins Z H s)(hg:Gl X x)(hm:X.mg x=some u)(h:Q u s)(hd:(x==("__debug__":Str))=false:=by decide):wpAny (model X.prog X.w) X.A (eval (.Name x pos) X.env) Q E s :=
 xk I.ok.kind hg (Calls.loadGlobal_global (by rw[I.ok.glob];exact I.mod.glob.keeps I.bk) hm h) hd
theorem C5(I:Inv X pins Z H s)(hg:Gl X x)(hm:X.mg x=none)(hv:bootBuiltins x=some u)(h:Q u s)(hn:x≠"__name__":=by decide)(hd:(x==("__debug__":Str))=false:=by decide):wpAny (model X.prog X.w) X.A (eval (.Name x pos) X.env) Q E s:=by
 obtain⟨mb,h1,h2⟩:=I.mod.blt;exact xk I.ok.kind hg (Calls.loadGlobal_builtin (by rw[I.ok.glob];exact I.mod.glob.keeps I.bk) hm (by rw[I.ok.blt];exact h1.keeps I.bk) ((h2 x hn).trans hv) h) hd
theorem Eo(hg:Gl X x)(hm:X.mg x=some u)(r:RelV v u)(hd:(x==("__debug__":Str))=false:=by decide):PE X (.Name x pos) (tC v) :=
 λ_ _ _ H _ I h=>K2 I hg hm ⟨v,H,I,r,h⟩ hd
theorem Xz(hg:Gl X x)(hm:X.mg x=none)(hv:bootBuiltins x=some u)(r:RelV v u)(hn:x≠"__name__":=by decide)(hd:(x==("__debug__":Str))=false:=by decide):PE X (.Name x pos) (tC v) :=
 λ_ _ _ H _ I h=>C5 I hg hm hv ⟨v,H,I,r,h⟩ hn hd
def IM(ta tb:TE)(k:Int->Int->Hp->Prop):St->Hp->Prop:=λZ H=>ta Z H λx H1=>tb Z H1 λy H2=>∃i j,x=.int i/\y=.int j/\k i j H2
variable{a b:Expr}
def PC(X:Cx)(op:CmpOp)(a b:Expr)(t:TE):Prop :=
 ∀(pins:List (Addr×Obj)) (s:Shared) (Z:St) (H:Hp) (Q:VK),Inv X pins Z H s->t Z H Q ->
  wpAny (model X.prog X.w) X.A (eval a X.env) (λv bC=>wpAny (model X.prog X.w) X.A (eval b X.env) (λu fB=>wpAny (model X.prog X.w) X.A (compareOp op v u) (EP X pins Z Q) X.xe fB) X.xe bC) X.xe s
def Eg(p:Int->Int->Bool)(ta tb:TE):TE:=λZ H Q=>IM ta tb (λi j H2=>Q (.bl (p i j)) H2) Z H
noncomputable abbrev BR:TE->TE->TE:=Eg λi j=>decide (j<i)
theorem Pa{p:Int->Int->Bool}(ha:PE X a ta)(hb:PE X b tb)(rule:∀(i j:Int) (t u:Tok) (Q:Value->Shared->Prop) (s:Shared),Q (.bool (p i j)) s->wpAny (model X.prog X.w) X.A (compareOp op (.int i t) (.int j u)) Q X.xe s):PC X op a b (Eg p ta tb):=by
 intro pins s Z H Q I h;refine bin ha hb I h λv u s2 x y H2 I2 rx ry q=>?_;obtain⟨i,j,rfl,rfl,q⟩:=q;obtain⟨t,rfl⟩:=rx;obtain⟨t',rfl⟩:=ry;exact rule i j t t' _ s2 ⟨.bl _,H2,I2,rfl,q⟩
theorem Nj(ha:PE X a ta)(hb:PE X b tb):PC X .Gt a b (BR ta tb):=Pa ha hb λ_ _ _ _ _ _ h=>gt_int h
def tB(t:TE):TT:=λZ H Q=>t Z H λx H1=>∃c,x=.bl c/\Q c H1
theorem Pd{t:TE}(h:PC X op a b t)(h1:behindInMarks op b=false:=by first|exact lL _ ∅ ∅|rfl):PE X (.Compare a [op] [b] pos) t:=λpins s Z H Q I hw=>wpAny_Compare1 (h pins s Z H Q I hw) h1
theorem Py{t:TE}(h:PC X op a b t)(h1:behindInMarks op b=false:=by first|exact lL _ ∅ ∅|rfl):PT X (.Compare a [op] [b] pos) (tB t):=by
 intro pins s Z H Q I hw;refine wpAny_isTrue_Compare1 (cJ (h pins s Z H _ I hw) λv s1 h1=>cJ h1 λu s2 h2=>cJ h2 λc s3 bp=>?_) h1;obtain⟨x,H1,I1,r1,q1⟩:=bp;obtain⟨d,rfl,q⟩:=q1;cases r1;exact bN ⟨H1,I1,q⟩
variable{tA vy:TT}{rest:List Expr}
def Si(t u:TT):TT:=λZ H Q=>t Z H λc H1=>if c=true then u Z H1 Q else Q false H1
def II(t u:TT):TT:=λZ H Q=>t Z H λc H1=>if c=true then Q true H1 else u Z H1 Q
def LD(t:TT):TT:=λZ H Q=>t Z H λc H1=>Q (!c) H1
theorem XQ(ha:PT X a tA):PW X (.BoolOp .And [a] pos) tA:=by
 intro wh pins s Z H Q I h;refine isTrue_and (cJ (ha pins s Z H Q I h) λc s1 e=>?_);cases c with
 |true=>exact isTrue_and_nil e
 |false=>exact e
theorem PH(ha:PT X a tA):PW X (.BoolOp .Or [a] pos) tA:=by
 intro wh pins s Z H Q I h;refine isTrue_or (cJ (ha pins s Z H Q I h) λc s1 e=>?_);cases c with
 |false=>exact isTrue_or_nil e
 |true=>exact e
theorem PD(ha:PT X a tA)(hb:PW X (.BoolOp .And (b::rest) pos) vy):PW X (.BoolOp .And (a::b::rest) pos) (Si tA vy):=by
 intro wh pins s Z H Q I h;refine isTrue_and (cJ (ha pins s Z H _ I h) λc s1 ⟨H1,I1,q1⟩=>?_);cases c with
 |true=>exact hb wh pins s1 Z H1 Q I1 q1
 |false=>exact⟨H1,I1,q1⟩
theorem Nt(ha:PT X a tA)(hb:PW X (.BoolOp .Or (b::rest) pos) vy):PW X (.BoolOp .Or (a::b::rest) pos) (II tA vy):=by
 intro wh pins s Z H Q I h;refine isTrue_or (cJ (ha pins s Z H _ I h) λc s1 ⟨H1,I1,q1⟩=>?_);cases c with
 |true=>exact⟨H1,I1,q1⟩
 |false=>exact hb wh pins s1 Z H1 Q I1 q1
theorem Pz(ha:PT X a tA):PT X (.UnaryOp .Not a pos) (LD tA):=by
 intro pins s Z H Q I h;exact isTrue_not (ha pins s Z H (λc H1=>Q (!c) H1) I h)
def ND(ta tb:TE):TE:=λZ H Q=>ta Z H λx H1=>∃c,x=.bl c/\if c=true then tb Z H1 Q else Q (.bl false) H1
def LH(ta tb:TE):TE:=λZ H Q=>ta Z H λx H1=>∃c,x=.bl c/\if c=true then Q (.bl true) H1 else tb Z H1 Q
def NH(ta:TE):TE:=λZ H Q=>ta Z H λx H1=>∃c,x=.bl c/\Q (.bl (!c)) H1
theorem Pk{op}{t:TE}(h:PE X a t):PE X (.BoolOp op [a] pos) t:=λpins s Z H Q I hw=>BoolOp_one (h pins s Z H Q I hw)
theorem Pb(ha:PE X a ta)(hb:PE X (.BoolOp .And (b::rest) pos) tb):PE X (.BoolOp .And (a::b::rest) pos) (ND ta tb):=by
 intro pins s Z H Q I h;refine BoolOp_and (cJ (ha pins s Z H _ I h) λv s1 bp=>?_);obtain⟨x,H1,I1,r1,q1⟩:=bp;obtain⟨c,rfl,q1⟩:=q1;cases r1;refine bN ?_;cases c with
 |true=>exact hb pins s1 Z H1 Q I1 q1
 |false=>exact⟨.bl false,H1,I1,rfl,q1⟩
theorem Nn(ha:PE X a ta)(hb:PE X (.BoolOp .Or (b::rest) pos) tb):PE X (.BoolOp .Or (a::b::rest) pos) (LH ta tb):=by
 intro pins s Z H Q I h;refine BoolOp_or (cJ (ha pins s Z H _ I h) λv s1 bp=>?_);obtain⟨x,H1,I1,r1,q1⟩:=bp;obtain⟨c,rfl,q1⟩:=q1;cases r1;refine bN ?_;cases c with
 |false=>exact hb pins s1 Z H1 Q I1 q1
 |true=>exact⟨.bl true,H1,I1,rfl,q1⟩
theorem Pj(ha:PE X a ta):PE X (.UnaryOp .Not a pos) (NH ta):=by
 intro pins s Z H Q I h;refine UnaryOp_ (cJ (ha pins s Z H _ I h) λv s1 bp=>?_);obtain⟨x,H1,I1,r1,q1⟩:=bp;obtain⟨c,rfl,q1⟩:=q1;cases r1;exact not_of (bN ⟨.bl (!c),H1,I1,rfl,q1⟩)
def IJ(t:TT)(ta tb:TE):TE:=λZ H Q=>t Z H λc H1=>if c=true then ta Z H1 Q else tb Z H1 Q
theorem Uo(hc:PT X c tA)(ha:PE X a ta)(hb:PE X b tb):PE X (.IfExp c a b pos) (IJ tA ta tb):=by
 intro pins s Z H Q I h;refine wpAny_IfExp (cJ (hc pins s Z H _ I h) λd s1 ⟨H1,I1,q1⟩=>?_);cases d with
 |true=>exact ha pins s1 Z H1 Q I1 q1
 |false=>exact hb pins s1 Z H1 Q I1 q1
end
def fu(K:PySem.W.Frag)(H:Hp)(a:Addr)(xs:List V):Prop :=
 Rd H a (.lst xs) \/
  ∃(o:Obj) (aV:Array Value) (n:Nat),K.lookup a=some o/\o.cls=.type "list"/\o.dict=none/\o.data=.seq aV n/\aV.size<=sizeLine/\Vals xs aV.toList
def gM(K:PySem.W.Frag)(H:Hp)(a:Addr)(xs:List V):Prop :=
 Rd H a (.tup xs) \/
  ∃(o:Obj) (aV:Array Value) (n:Nat),K.lookup a=some o/\o.cls=.type "tuple"/\o.data=.seq aV n/\aV.size<=sizeLine/\Vals xs aV.toList
def QX:Value->Option V
 |.none=>some .bq
 |.bool b=>some (.bl b)
 |.int i _=>some (.int i)
 |.str x _=>some (.str x)
 |.bytes b _=>some (.kj b)
 |.float b _=>some (.qa b)
 |.ref a=>some (.ref a)
 |.type n=>some (.ty n)
 |_=>none
theorem RelV.abs{x:V}(r:RelV x u):QX u=some x:=by
 cases x with
 |bq=>cases r;rfl
 |bl _=>cases r;rfl
 |int _=>obtain⟨t,rfl⟩:=r;rfl
 |str _=>obtain⟨t,rfl⟩:=r;rfl
 |kj _=>obtain⟨t,rfl⟩:=r;rfl
 |qa _=>obtain⟨t,rfl⟩:=r;rfl
 |ref _=>cases r;rfl
 |ty _=>cases r;rfl
theorem RelV.inj{x y:V}{u:Value}(r:RelV x u)(q:RelV y u):x=y:=aF (r.abs.symm.trans q.abs)
theorem Vals.inj{xs ys:List V}{us:List Value}(h:Vals xs us)(h':Vals ys us):xs=ys:=by
 induction h generalizing ys with
 |nil=>cases h';rfl
 |cons r t ih =>
  cases h' with
  |cons r' t'=>rw[r.inj r',ih t']
section
variable{ys:List V}
theorem fu.of(h:H a=some (.lst xs)):fu K H a xs:=.inl (.inl h)
theorem Inv.list(I:Inv X pins Z H s)(h:fu X.K H a xs):∃aV:List Value,Vals xs aV/\PlainL s.heap a aV.toArray/\xs.length<=sizeLine:=by
 rcases h with h|⟨o,aV,n,hk,hc,hd,hs,hz,r⟩
 ·obtain⟨z,aV,n,r,e⟩:=h.ok I.bB;exact⟨aV,r,⟨_,n,e,rfl,rfl,rfl⟩,z⟩
 ·refine⟨aV.toList,r,⟨o,n,I.gj a o hk,hc,hd,by simpa using hs⟩,?_⟩;have e:=r.length
  grind
theorem Inv.tuple(I:Inv X pins Z H s)(h:gM X.K H a xs):∃aV:List Value,Vals xs aV/\IsTup s.heap a aV.toArray/\xs.length<=sizeLine:=by
 rcases h with h|⟨o,aV,n,hk,hc,hs,hz,r⟩
 ·obtain⟨z,aV,r,p⟩:=h.ok I.bB;exact⟨aV,r,p.tup,z⟩
 ·refine⟨aV.toList,r,⟨o,I.gj a o hk,hc,n,by simpa using hs⟩,?_⟩;have e:=r.length;simp only[Array.length_toList] at e;omega
theorem Inv.ER(I:Inv X pins Z H s)(h:fu X.K H a xs)(h':fu X.K H a ys):xs=ys:=by
 obtain⟨aV,r,⟨o,n,e,_,_,d⟩,_⟩:=I.list h;obtain⟨its',r',⟨o',n',e',_,_,d'⟩,_⟩:=I.list h';rw[e] at e';cases e';rw[d] at d';injection d' with d1 _;have:aV=its':=by simpa using dM Array.toList d1
 subst this;exact r.inj r'
theorem Inv.Wl(I:Inv X pins Z H s)(h:gM X.K H a xs)(h':gM X.K H a ys):xs=ys:=by
 obtain⟨aV,r,⟨o,e,_,n,d⟩,_⟩:=I.tuple h;obtain⟨its',r',⟨o',e',_,n',d'⟩,_⟩:=I.tuple h';rw[e] at e';cases e';rw[d] at d';injection d' with d1 _;have:aV=its':=by simpa using dM Array.toList d1
 subst this;exact r.inj r'
end
noncomputable abbrev Cx.S5(X:Cx)(E:Value->Shared->Prop):Cx:={ X with xe:=E }
theorem Cx.Ok.S5{X:Cx}(ok:X.Ok)(E:Value->Shared->Prop):(X.S5 E).Ok :=
 ⟨ok.mod,ok.kind,ok.glob,ok.blt,ok.above,ok.inj,ok.has,ok.oR,ok.hd,ok.frames,ok.pA,ok.uz,ok.bs,ok.ml,ok.jw,ok.jZ,ok.E0,ok.mK⟩
theorem Cx.Ok.zV(ok:(X.S5 E).Ok):X.Ok :=
 ⟨ok.mod,ok.kind,ok.glob,ok.blt,ok.above,ok.inj,ok.has,ok.oR,ok.hd,ok.frames,ok.pA,ok.uz,ok.bs,ok.ml,ok.jw,ok.jZ,ok.E0,ok.mK⟩
theorem Inv.S5(I:Inv X pins Z H s)(E:Value->Shared->Prop):Inv (X.S5 E) pins Z H s:=⟨I.ok.S5 E,I.os,I.bare,I.base,I.loc,I.cell,I.free,I.eF,I.pin,I.bB,I.len,I.sg⟩
theorem Inv.zV(I:Inv (X.S5 E) pins Z H s):Inv X pins Z H s:=⟨I.ok.zV,I.os,I.bare,I.base,I.loc,I.cell,I.free,I.eF,I.pin,I.bB,I.len,I.sg⟩
section
variable{st:Stmt}{rest:List Stmt}{t u:TS}
def HX:TS:=λD Z H=>D.nx Z H
def LK(t u:TS):TS:=λD Z H=>t { D with nx:=u D } Z H
theorem XI:iZ X [] HX:=λ_ _ Z H _ I h=>rR ⟨Z,H,I,h⟩
theorem Uu(h1:PS X st t)(h2:iZ X rest u):iZ X (st::rest) (LK t u):=by
 intro pins s Z H D I h;refine wpAny_execs_cons (cJ (h1 pins s Z H { D with nx:=u D } I h) λf s1 q=>?_);cases f with
 |next =>
  obtain⟨cb,H',I',q⟩:=q;exact h2 pins s1 cb H' D I' q
 |ret v=>exact q
 |brk=>exact q
 |cont=>exact q
theorem XG:PS X (.Pass pos) HX:=λ_ _ Z H _ I h=>wpAny_Pass ⟨Z,H,I,h⟩
theorem Inv.quiet(I:Inv X pins Z H s):interactive X.env=false:=by simp[interactive,I.ok.kind]
def NG(te:TE):TS:=λD Z H=>te Z H λ_ H1=>D.nx Z H1
theorem XF(he:PE X e te)(hs:swapsWith e none pos.line X.env=pure false:=by rfl):PS X (.Expr e pos) (NG te):=by
 intro pins s Z H D I h;exact wpAny_Expr_any (cJ (he pins s Z H _ I h) λv s1 ⟨x,H1,I1,r1,q1⟩=>⟨Z,H1,I1,q1⟩) I.quiet hs
def LJ(te:TE):TS:=λD Z H=>te Z H D.rt
theorem Pw(he:PE X e te):PS X (.Return (some e) pos) (LJ te):=by
 intro pins s Z H D I h;exact wpAny_Return_some (cJ (he pins s Z H _ I h) λv s1 ⟨x,H1,I1,r1,q1⟩=>⟨x,Z,H1,I1,r1,q1⟩)
def NJ:TS:=λD _ H=>D.rt .bq H
theorem XH:PS X (.Return none pos) NJ:=λ_ _ Z H _ I h=>wpAny_Return_none ⟨.bq,Z,H,I,rfl,h⟩
def LB(c:TT)(t u:TS):TS:=λD Z H=>c Z H λb H1=>if b=true then t D Z H1 else u D Z H1
theorem Nr{a b:List Stmt}{tc:TT}(hc:PT X c tc)(ha:iZ X a t)(hb:iZ X b u):PS X (.If c a b pos) (LB tc t u):=by
 intro pins s Z H D I h;refine wpAny_If (cJ (hc pins s Z H _ I h) λd s1 ⟨H1,I1,q1⟩=>?_);cases d with
 |true=>exact ha pins s1 Z H1 D I1 q1
 |false=>exact hb pins s1 Z H1 D I1 q1
end
noncomputable abbrev TG:=V->St->Hp->(St->Hp->Prop)->Prop
noncomputable abbrev oU:=List V->St->Hp->(St->Hp->Prop)->Prop
def PG(X:Cx)(target:Expr)(t:TG):Prop :=
 ∀(pins:List (Addr×Obj)) (s:Shared) (Z:St) (H:Hp) (v:V) (u:Value) (Q:St->Hp->Prop),Inv X pins Z H s->RelV v u->t v Z H Q ->
  wpAny (model X.prog X.w) X.A (assign target X.env u) (λ_ s'=>∃cb H',Inv X pins cb H' s'/\Q cb H') X.xe s
def uZ(X:Cx)(ts:List Expr)(t:oU):Prop :=
 ∀(pins:List (Addr×Obj)) (s:Shared) (Z:St) (H:Hp) (vs:List V) (us:List Value) (Q:St->Hp->Prop),Inv X pins Z H s->Vals vs us->t vs Z H Q ->
  wpAny (model X.prog X.w) X.A (assignInOrder ((assignEach ts X.env).map (·.2)) us) (λ_ s'=>∃cb H',Inv X pins cb H' s'/\Q cb H') X.xe s
noncomputable abbrev B3:=V->V->V->Hp->(Hp->Prop)->Prop
def Bn(X:Cx)(t:B3):Prop :=
 ∀(pins:List (Addr×Obj)) (s:Shared) (Z:St) (H:Hp) (o i v:V) (ov iv u:Value) (Q:Hp->Prop),Inv X pins Z H s->RelV o ov->RelV i iv->RelV v u->t o i v H Q ->
  wpAny (model X.prog X.w) X.A (setItem ov iv u) (λ_ s'=>∃H',Inv X pins Z H' s'/\Q H') X.xe s
def Z4(i:Nat):TG:=λv Z H Q=>Q (Z.set i (some v)) H
theorem Er(hN:X.Nd)(hi:X.N[i]?=some x)(hx:Loc X.env.scope x)(hf:X.fn x=true\/X.env.scope.names.lookup x=some .local:=by first|exact .inl rfl|exact .inr rfl|assumption):PG X (.Name x pos) (Z4 i):=by
 intro pins s Z H v u Q I r h;exact wpAny_assign_Name (Fg I hN hi hx r (λs' I'=>⟨_,H,I',h⟩) hf)
def DS:oU:=λvs Z H Q=>vs=[]/\Q Z H
def HD(t:TG)(u:oU):oU:=λvs Z H Q=>∃v r,vs=v::r/\t v Z H λcb H'=>u r cb H' Q
theorem XD:uZ X [] DS:=by
 intro pins s Z H vs us Q I r h;obtain⟨e,h⟩:=h;exact assignInOrder_nil ⟨Z,H,I,h⟩
theorem Ur{t:TG}{u:oU}(h1:PG X e t)(h2:uZ X es u)(hs:(assignEach (e::es) X.env).map (·.2)=assign e X.env::(assignEach es X.env).map (·.2):=by rfl):uZ X (e::es) (HD t u):=by
 intro pins s Z H vs us Q I r h;obtain⟨v,vr,e1,h⟩:=h;subst e1;cases r with
 |cons r rr =>
  rw[hs];refine assignInOrder_cons (cJ (h1 pins s Z H _ _ _ I r h) λ_ s1 bp=>?_);obtain⟨iM,H1,I1,q1⟩:=bp;exact h2 pins s1 iM H1 _ _ Q I1 rr q1
def Rp(K:PySem.W.Frag)(n:Nat)(t:oU):TG:=λv Z H Q=>∃a xs,v=.ref a/\gM K H a xs/\xs.length=n/\t xs Z H Q
theorem Pp{t:oU}{n:Nat}(hc:X.calm=true)(h:uZ X es t)(hn:(assignEach es X.env).length=n:=by rfl)(dz:(assignEach es X.env).findIdx? (·.1)=none:=by rfl):PG X (.Tuple es k pos) (Rp X.K n t):=by
 intro pins s Z H v u Q I r hw;obtain⟨a,xs,e1,hq,hl,hw⟩:=hw;subst e1;cases r;obtain⟨aV,rv,ht,hz⟩:=I.tuple hq;refine assign_Tuple_tuple (I.ok.hd hc) ht (by simp[hn,<- hl,rv.length]) dz λh' hx=>?_;have I1:=I.kept (t':=s.toks) λb o e=>hx b o (aD (ao e)) e;exact h pins _ Z H xs _ Q I1 (by simpa using rv) hw
def Ro(to ti:TE)(t:B3):TG:=λv Z H Q=>to Z H λo H1=>ti Z H1 λi H2=>t o i v H2 λH3=>Q Z H3
theorem Po{o i:Expr}{to ti:TE}{t:B3}(ho:PE X o to)(hi:PE X i ti)(hs:Bn X t)(ha:∀ v,assign (.Subscript o i pos) X.env v=(do
   let ov <- holding [v] (eval o X.env)
   let iv <- holding [v,ov] (eval i X.env)
   standAt pos
   holding [v,ov,iv] (setItem ov iv v)
   release [v,ov,iv] []):=by intro _;rfl):PG X (.Subscript o i pos) (Ro to ti t):=by
 intro pins s Z H v u Q I r h;rw[ha];refine aa (bf (cJ (ho pins s Z H _ I h) λov s1 bp=>?_));obtain⟨x,H1,I1,r1,q1⟩:=bp;refine aa (bf (cJ (hi pins s1 Z H1 _ I1 q1) λiv s2 bp=>?_));obtain⟨y,H2,I2,r2,q2⟩:=bp;refine aa (Ij (aa (bf (cJ (hs pins s2 Z H2 x y v ov iv u _ I2 r1 r2 r q2) λ_ s3 ⟨H3,I3,q3⟩=>?_))));exact wpAny_release ⟨Z,H3,I3,q3⟩
def uS(te:TE)(g:TG):TS:=λD Z H=>te Z H λx H1=>g x Z H1 D.nx
theorem GJ{g:TG}(he:PE X e te)(hg:PG X tg g)(hs:swapsWithSole [tg] e pos.line X.env=pure false:=by rfl)(hw:swappedStores [tg] e X.env=pure none:=by rfl)(h1:(assignEach [tg] X.env).map (·.2)=[assign tg X.env]:=by rfl):PS X (.Assign [tg] e pos) (uS te g):=by
 intro pins s Z H D I h;refine wpAny_Assign_stores (cJ (he pins s Z H _ I h) λv s1 bp=>?_) hs hw;obtain⟨x,H1,I1,r1,q1⟩:=bp;rw[h1];exact cJ (hg pins s1 Z H1 x v _ I1 r1 q1) λ_ s2 q=>q
theorem GK{pos':Pos}(hN:X.Nd)(hi:X.N[i]?=some x)(hx:Loc X.env.scope x)(he:PE X e te)(hs:swapsWith e (some (.Name x pos')) pos.line X.env=pure false:=by rfl)(hf:X.fn x=true\/X.env.scope.names.lookup x=some .local:=by first|exact .inl rfl|exact .inr rfl|assumption) :
  PS X (.Assign [.Name x pos'] e pos) (uS te (Z4 i)):=by
 intro pins s Z H D I h;refine wpAny_Assign_Name (cJ (he pins s Z H _ I h) λv s1 bp=>?_) hs;obtain⟨y,H1,I1,r1,q1⟩:=bp;exact Fg I1 hN hi hx r1 (λs2 I2=>⟨_,H1,I2,q1⟩) hf
structure It where
 go:Nat->Hp->Prop
 qL:Nat->Hp->V->Hp->Prop
 stop:Nat->Hp->Prop
def C0(X:Cx)(pins:List (Addr×Obj))(H:Hp)(b:Addr):Prop :=
 H b=none/\b≠X.env.locals/\b∉X.fs/\(b∈X.ex\/X.cV.heap.objs.size<=b)/\(∀x c,X.env.cells.lookup x=some c->c≠b)/\∀p∈X.pn++pins,p.1≠b
theorem Inv.qu(I:Inv X pins Z H s)(hb:s.heap.objs.size<=b)(hn:H' b=none):C0 X pins H' b:=by
 refine⟨hn,bu (ax I.lt hb),I.AH hb,.inr (aE I.sz hb),λx c e z=>?_,λp hp z=>?_⟩
 ·obtain⟨v,q⟩:=I.cell x c e;exact absurd (ax q.lt (by simp_all)) (bA _)
 ·exact absurd (ax (ao (I.pin p hp).1) (by simp_all)) (bA _)
structure Turn(P:Program)(w:World)(K:PySem.W.Frag)(tg:Expr)(J:It)(fp:List Addr)(it:Addr)(tn:Nat->Heap->Prop):Prop where
 mem:it∈fp
 obj:∀i h,tn i h->∀b∈fp,∃o,h.get? b=some o/\∀v,o.data≠.cell v
 keep:∀i h h',tn i h->(∀b∈fp,∀o,h.get? b=some o->h'.get? b=some o)->tn i h'
 item:∀(X:Cx),X.prog=P->X.w=w->X.K=K->X.calm=true->∀(i:Nat) (pins:List (Addr×Obj)) (s:Shared) (Z:St) (H:Hp) (E:Value->Shared->Prop),Inv X pins Z H s->(∀b∈fp,C0 X pins H b)->tn i s.heap->J.go i H ->
  wpAny (model P w) X.A (pyNext (.ref it)) (λr s1=>∃ u,r=some u /\
   wpAny (model P w) X.A (letOwnedTupleGo tg (.ref it) u) (λ_ s2=>∃ x H',Inv X pins Z H' s2/\RelV x u/\J.qL i H x H'/\tn (i + 1) s2.heap/\∀ b ∈ fp,H' b=none) E s1) E s
 done:∀(X:Cx),X.prog=P->X.w=w->X.K=K->X.calm=true->∀(i:Nat) (pins:List (Addr×Obj)) (s:Shared) (Z:St) (H:Hp) (E:Value->Shared->Prop),Inv X pins Z H s->(∀b∈fp,C0 X pins H b)->tn i s.heap->J.stop i H ->
  wpAny (model P w) X.A (pyNext (.ref it)) (λr s1=>r=none/\Inv X pins Z H s1) E s
 self:∀(A:Around) (i:Nat) (s:Shared) (Q:Value->Shared->Prop) (E:Value->Shared->Prop),tn i s.heap->Q (.ref it) s->wpAny (model P w) A (pyIter (.ref it)) Q E s
noncomputable abbrev TI:=St->Hp->(It->Hp->Prop)->Prop
def HY(X:Cx)(pins:List (Addr×Obj))(Z:St)(tg:Expr)(R:It->Hp->Prop)(vE:Value)(s2:Shared):Prop :=
 ∃(it:Addr) (fp:List Addr) (tn:Nat->Heap->Prop) (J:It) (H':Hp),vE=.ref it/\Inv X pins Z H' s2/\Turn X.prog X.w X.K tg J fp it tn/\tn 0 s2.heap/\(∀b∈fp,C0 X pins H' b)/\R J H'
def PI(X:Cx)(tg iter:Expr)(wi:TI):Prop :=
 ∀(pins:List (Addr×Obj)) (s:Shared) (Z:St) (H:Hp) (R:It->Hp->Prop),Inv X pins Z H s->wi Z H R ->
  wpAny (model X.prog X.w) X.A (eval iter X.env) (λv s1=>wpAny (model X.prog X.w) X.A (pyIter v) (HY X pins Z tg R) X.xe s1) X.xe s
theorem AX{it:Addr}{o:Obj}{n:String}{vs:Array Value}{Q:Unit->Shared->Prop}(ho:s.heap.get? it=some o)(hc:o.cls=.type n)(hd:o.data=.fields vs)(hn:["enumerate","zip","dict_itemiterator","dict_reverseitemiterator","odict_iterator","itertools.zip_longest","itertools.pairwise"].contains n=false)(hQ:Q Unit.unit s):wpAny M A (letOwnedTupleGo tg (.ref it) u) Q E s:=by
  cases tg<;>first
    |exact af hQ
    | (cases u <;> first
        |exact af hQ
        | (refine aa (wpAny_load ho ?_)
           rw[hc,hd];show wpAny M A (if(["enumerate","zip","dict_itemiterator","dict_reverseitemiterator","odict_iterator","itertools.zip_longest","itertools.pairwise"].contains n&&vs[0]?==some (rawInt _))=true then _ else _) Q E s;rw[aB (by intro h;rw[hn,iL] at h;cases h)];exact af hQ))
def Bt(K:PySem.W.Frag)(a:Addr):It :=
 ⟨λi H=>∃xs x,fu K H a xs/\xs[i]?=some x,λi H x H'=>H'=H/\∀xs,fu K H a xs->xs[i]?=some x,λi H=>∃xs,fu K H a xs/\xs.length<=i⟩
def Bs(K:PySem.W.Frag)(a:Addr):It :=
 ⟨λi H=>∃xs x,gM K H a xs/\xs[i]?=some x,λi H x H'=>H'=H/\∀xs,gM K H a xs->xs[i]?=some x,λi H=>∃xs,gM K H a xs/\xs.length<=i⟩
def vb(lo:Int)(n:Nat):It:=⟨λi _=>i<n,λi H x H'=>H'=H/\x=.int (lo+i),λi _=>n<=i⟩
theorem Wn(a it:Addr):Turn P w K tg (Bt K a) [it] it (λi h=>h.IsListIter it a i) where
 mem:=by simp
 obj:=λi h st b hb=>by
  have e:b=it:=by simpa using hb
  subst e;obtain⟨o,e,c,d⟩:=st;exact⟨o,e,λv z=>by simp_all⟩
 keep:=λi h h' st k=>st.at λo e=>k it (by simp) o e
 item:=by
  intro X hP hw hK hc i pins s Z H E I hf st hg;subst hP hw hK;obtain⟨xs,x,hq,hx⟩:=hg;obtain⟨aV,rv,p,hz⟩:=I.list hq;obtain⟨u,hu,ru⟩:=rv.get hx;obtain⟨f0,f1,f2,f3,f4,f5⟩:=hf it (by simp);refine wpAny_pyNext_list_item st p.isList (by simpa using hu) λh' kW sb=>?_;have I1:=I.turned (t':=s.toks) (λb o hb e=>(sb.2 b hb).trans e) f0 f1 f3 f4 f5;obtain⟨o,e,c,d⟩:=id kW;exact⟨u,rfl,AX e c d ∅ ⟨x,H,I1,ru,⟨rfl,λys hy=>by rw[I.ER hy hq];exact hx⟩,kW,λb hb=>(hf b hb).1⟩⟩
 done:=by
  intro X hP hw hK hc i pins s Z H E I hf st hg;subst hP hw hK;obtain⟨xs,hq,hx⟩:=hg;obtain⟨aV,rv,p,hz⟩:=I.list hq;obtain⟨f0,f1,f2,f3,f4,f5⟩:=hf it (by simp);have hl:=rv.length;exact wpAny_pyNext_list_end (I.ok.hd hc) st p.isList (by simp;omega) λh' eb=>⟨rfl,I.turned (t':=s.toks) (λb o hb e=>eb b o hb e) f0 f1 f3 f4 f5⟩
 self:=λ_ _ _ _ _ st h=>wpAny_pyIter_listiter st h
theorem Xb(a it:Addr):Turn P w K tg (Bs K a) [it] it (λi h=>h.IsTupleIter it a i) where
 mem:=by simp
 obj:=λi h st b hb=>by
  have e:b=it:=by simpa using hb
  subst e;obtain⟨o,e,c,d⟩:=st;exact⟨o,e,λv z=>by simp_all⟩
 keep:=λi h h' st k=>st.at λo e=>k it (by simp) o e
 item:=by
  intro X hP hw hK hc i pins s Z H E I hf st hg;subst hP hw hK;obtain⟨xs,x,hq,hx⟩:=hg;obtain⟨aV,rv,p,hz⟩:=I.tuple hq;obtain⟨u,hu,ru⟩:=rv.get hx;obtain⟨f0,f1,f2,f3,f4,f5⟩:=hf it (by simp);refine wpAny_pyNext_tuple_item st (show s.heap.IsTuple a aV.toArray from p) (by simpa using hu) λh' kW sb=>?_;have I1:=I.turned (t':=s.toks) (λb o hb e=>(sb.2 b hb).trans e) f0 f1 f3 f4 f5;obtain⟨o,e,c,d⟩:=id kW;exact⟨u,rfl,AX e c d ∅ ⟨x,H,I1,ru,⟨rfl,λys hy=>by rw[I.Wl hy hq];exact hx⟩,kW,λb hb=>(hf b hb).1⟩⟩
 done:=by
  intro X hP hw hK hc i pins s Z H E I hf st hg;subst hP hw hK;obtain⟨xs,hq,hx⟩:=hg;obtain⟨aV,rv,p,hz⟩:=I.tuple hq;obtain⟨f0,f1,f2,f3,f4,f5⟩:=hf it (by simp);have hl:=rv.length;exact wpAny_pyNext_tuple_end (I.ok.hd hc) st (show s.heap.IsTuple a aV.toArray from p) (by simp;omega) λh' eb=>⟨rfl,I.turned (t':=s.toks) (λb o hb e=>eb b o hb e) f0 f1 f3 f4 f5⟩
 self:=λ_ _ _ _ _ st h=>wpAny_pyIter_tupleiter st h
theorem Xa(it:Addr)(lo:Int)(n:Nat):Turn P w K tg (vb lo n) [it] it (λi h=>IsRangeIter h it (lo+(i:Nat)*1) ((n:Int)-(i:Nat)) 1) where
 mem:=by simp
 obj:=λi h st b hb=>by
  have e:b=it:=by simpa using hb
  subst e;exact ⟨_,st,λv z=>by
   have z':Data.fields _=Data.cell v:=z;cases z'⟩
 keep:=λi h h' st k=>k it (by simp) _ st
 item:=by
  intro X hP hw hK hc i pins s Z H E I hf st hg;subst hP hw hK;obtain⟨f0,f1,f2,f3,f4,f5⟩:=hf it (by simp);have W:=Walks.range (prog:=X.prog) (w:=X.w) (I.ok.hd hc) it lo 1 n;refine W.item i s _ _ hg st λv h' tk hv kW kk=>?_;obtain⟨t,rfl⟩:=hv;have I1:Inv X pins Z H { s with heap:=h',toks:=tk }:=I.turned (λb o hb e=>kk b o (by simpa using hb) e) f0 f1 f3 f4 f5;refine⟨_,rfl,AX kW rfl rfl ∅ ⟨.int (lo+i),H,I1,⟨t,?_⟩,⟨rfl,rfl⟩,kW,λb hb=>(hf b hb).1⟩⟩;rw[Int.mul_one]
 done:=by
  intro X hP hw hK hc i pins s Z H E I hf st hg;subst hP hw hK;obtain⟨f0,f1,f2,f3,f4,f5⟩:=hf it (by simp);exact wpAny_pyNext_range_end (I.ok.hd hc) st (by have:n<=i:=hg;omega) λh' eb=>⟨rfl,I.turned (t':=s.toks) (λb o hb e=>eb b o hb e) f0 f1 f3 f4 f5⟩
 self:=λ_ _ _ _ _ st h=>wpAny_pyIter_rangeiter st h
theorem EZ{R:It->Hp->Prop}{lo hi:Int}{t u v:Tok}{tk:Nat}(I:Inv X pins Z H s)(h1:-(2 ^ 62)<=lo)(h2:lo<2 ^ 62)(h3:-(2 ^ 62)<=hi)(h4:hi<2 ^ 62)(q:R (vb lo (hi-lo).toNat) H):wpAny (model X.prog X.w) X.A (pyIter (.ref s.heap.objs.size)) (HY X pins Z tg R) E { s with heap:=s.heap.push { cls:=.type "range",data:=.fields #[.int lo t,.int hi u,.int 1 v] },toks:=tk }:=by
 refine wpAny_pyIter_range (IsRange.new ..) (small_one h1 h2 h3 h4) ?_;have I1:Inv X pins Z H { s with heap:=s.heap.push { cls:=.type "range",data:=.fields #[.int lo t,.int hi u,.int 1 v] },toks:=tk }:=I.kept λb o e=>ah _ e;refine ⟨(s.heap.push { cls:=.type "range",data:=.fields #[.int lo t,.int hi u,.int 1 v] }).objs.size,[(s.heap.push { cls:=.type "range",data:=.fields #[.int lo t,.int hi u,.int 1 v] }).objs.size],_,_,H,rfl,
  I1.kept (t':=tk) λb o e=>ah _ e,Xa _ lo (hi - lo).toNat,?_,λb hb=>?_,q⟩
 ·have e1:lo+((0:Nat):Int)*1=lo:=by simp
  have e2:(((hi-lo).toNat:Nat):Int)-((0:Nat):Int)=Builtin.Range.rangeSize lo hi 1:=by rw[rangeSize_one];split<;>omega
  rw[e1,e2];exact aw _ rfl
 ·have e:b=(s.heap.push { cls:=.type "range",data:=.fields #[.int lo t,.int hi u,.int 1 v] }).objs.size:=by simpa using hb
  subst e;exact I1.qu (aj _) (I1.bB.fresh (aj _))
def Mz(ta:TA):TI:=λZ H R=>ta Z H λvs H1=>∃j:Int,vs=[.int j]/\-(2 ^ 62)<=j/\j<2 ^ 62/\R (vb 0 j.toNat) H1
def MA(ta:TA):TI:=λZ H R=>ta Z H λvs H1=>∃i j:Int,vs=[.int i,.int j]/\(-(2 ^ 62)<=i/\i<2 ^ 62/\-(2 ^ 62)<=j/\j<2 ^ 62)/\R (vb i (j-i).toNat) H1
theorem VU{a:Expr}{ta:TA}(hg:Gl X "range")(hm:X.mg "range"=none)(ha:PA X [a] ta)(hs:starEach [a] X.env=[(false,eval a X.env)]:=by rfl):PI X tg (.Call (.Name "range" p) [a] [] pos) (Mz ta):=by
 intro pins s Z H R I h;refine Call_ (C5 I hg hm boot_range (bS (cJ (ha pos pins s Z H _ I h) λus s1 bp=>?_) hs rfl));obtain⟨vs,H1,I1,r1,q1⟩:=bp;obtain⟨j,e,q1,q2,q⟩:=q1;subst e;cases r1 with
 |cons r rr =>
  cases rr;obtain⟨t,rfl⟩:=r;exact call_range_1 (EZ I1 () () q1 q2 (by simpa using q))
theorem VV{a b:Expr}{ta:TA}(hg:Gl X "range")(hm:X.mg "range"=none)(ha:PA X [a,b] ta)(hs:starEach [a,b] X.env=[(false,eval a X.env),(false,eval b X.env)]:=by rfl)(iD:starEach [b] X.env=[(false,eval b X.env)]:=by rfl) :
  PI X tg (.Call (.Name "range" p) [a,b] [] pos) (MA ta):=by
 intro pins s Z H R I h;refine Call_ (C5 I hg hm boot_range (bS (cJ (ha pos pins s Z H _ I h) λus s1 bp=>?_) (by rw[hs,iD]) (by rw[iD];rfl)));obtain⟨vs,H1,I1,r1,q1⟩:=bp;obtain⟨i,j,e,⟨q1,q2,q3,q4⟩,q⟩:=q1;subst e;cases r1 with
 |cons r rr =>
  cases rr with
  |cons r' rr =>
   cases rr;obtain⟨t,rfl⟩:=r;obtain⟨t',rfl⟩:=r';exact call_range_2 (EZ I1 q1 q2 q3 q4 q)
def Lz(wi:TI)(g:TG)(tb:TS):TS:=λD Z H=>wi Z H λJ H1=>∃W:Nat->Nat->St->Hp->Prop,(∃m,W 0 m Z H1)/\∀i m Z H,W i m Z H ->
 (J.stop i H/\D.nx Z H)\/(J.go i H/\∃N:St->Hp->Prop,(∀cb H',N cb H'->∃m',m'<m/\W (i+1) m' cb H')/\∀x H',J.qL i H x H'->g x Z H' λcS H2=>tb { D with nx:=N,ct:=N,bk:=D.nx } cS H2)
def W7(fp:List Addr)(h:Heap):List (Addr×Obj):=fp.filterMap λb=>(h.get? b).map λo=>(b,o)
theorem T6{o:Obj}(hb:b∈fp)(e:h.get? b=some o):(b,o)∈W7 fp h:=js.mpr ⟨b,hb,by rw[e];rfl⟩
theorem VL{p:Addr×Obj}(hp:p∈W7 fp h):p.1∈fp/\h.get? p.1=some p.2:=by
 obtain⟨b,hb,e⟩:=js.mp hp;cases q:h.get? b with
 |none=>simp_all
 |some o =>
  rw[q] at e;have e':=aF e;subst e';exact⟨hb,q⟩
theorem Inv.pinned(I:Inv X pins Z H s)(hf:∀b∈fp,C0 X pins H b)(ho:∀b∈fp,∃o,s.heap.get? b=some o/\∀v,o.data≠.cell v):Inv X (pins++W7 fp s.heap) Z H s :=
 I.Q8 λp hp=>(aT.mp hp).elim (λz=>I.pin p (bt _ z)) λz=>by
  obtain⟨hb,e⟩:=VL z;obtain⟨f0,f1,f2,_⟩:=hf p.1 hb;obtain⟨o,e',d⟩:=ho p.1 hb;rw[e] at e';cases e';exact⟨e,f0,f1,f2,d⟩
theorem Inv.Ay{pl:List (Addr×Obj)}(I:Inv X (pins++pl) Z H s):Inv X pins Z H s:=I.Q8 λp hp=>I.pin p (bt _ (cy _ hp))
theorem Pu{iter:Expr}{body:List Stmt}{wi:TI}{g:TG}{tb:TS}(hp:PassesOwn (model X.prog X.w) X.A X.env X.xe)(hc:X.calm=true)(hi:PI X tg iter wi)(hg:PG X tg g)(hb:iZ X body tb)(hs:∀x,foldedSetIterable iter X.env x=pure x:=by intro _;rfl):PS X (.For tg iter body [] pos) (Lz wi g tb):=by
 intro pins s Z H D I h;refine wpAny_For (cJ (hi pins s Z H _ I h) λv s1 h1=>cJ h1 λvE s2 h2=>?_) hs;obtain⟨it,fp,tn,J,H2,e,I2,T,nt,f2,W,⟨m0,w0⟩,turn⟩:=h2;subst e;have pB:∀{H':Hp},(∀b∈fp,H' b=none)->∀b∈fp,C0 X pins H' b:=λhn b hb=>⟨hn b hb,(f2 b hb).2⟩
 refine codeAny_forLoop_any (λn s'=>∃i cb H',Inv X pins cb H' s'/\tn i s'.heap/\(∀b∈fp,H' b=none)/\W i n cb H') ?_ m0 ⟨0,Z,H2,I2,nt,λb hb=>(f2 b hb).1,w0⟩;rintro n s3 ⟨i,kr,H3,I3,sx,ux,w3⟩;rcases turn i n kr H3 w3 with⟨stop,qn⟩|⟨go,N,hN,step⟩
 ·refine fI hp (cJ (T.done X rfl rfl rfl hc i pins s3 kr H3 X.xe I3 (pB ux) sx stop) λr s4 ⟨hr,I4⟩=>?_);subst hr;exact rR ⟨kr,H3,I4,qn⟩
 ·refine fI hp (cJ (T.item X rfl rfl rfl hc i pins s3 kr H3 X.xe I3 (pB ux) sx go) λr s4 ⟨u,hr,h4⟩=>?_);subst hr;refine fI hp (cJ h4 λ_ s5 bp=>?_);obtain⟨x,H5,I5,r5,y5,pC,zh⟩:=bp;have Bv:=I5.pinned (pB zh) (T.obj _ _ pC);refine fI hp (cJ (hg _ s5 kr H5 x u _ Bv r5 (step x H5 y5)) λ_ s6 bp=>?_);obtain⟨pj,H6,I6,q6⟩:=bp;refine fI hp (cJ (hb _ s6 pj H6 _ I6 q6) λf s7 q7=>?_);have again:∀{lF:St} {H7:Hp},Inv X (pins++W7 fp s5.heap) lF H7 s7->N lF H7->∃m,m<n/\∃i cb H',Inv X pins cb H' s7/\tn i s7.heap/\(∀b∈fp,H' b=none)/\W i m cb H':=λ{lF H7} I7 n7=>by
   obtain⟨m',hm,w7⟩:=hN lF H7 n7;refine⟨m',hm,i+1,lF,H7,I7.Ay,T.keep _ _ _ pC λb hb o e=>(I7.pin (b,o) (bt _ (bt _ (T6 hb e)))).1,λb hb=>?_,w7⟩;obtain⟨o,e,d⟩:=T.obj _ _ pC b hb;exact(I7.pin (b,o) (bt _ (bt _ (T6 hb e)))).2.1
  cases f with
  |next=>obtain⟨lF,H7,I7,n7⟩:=q7;exact again I7 n7
  |cont=>obtain⟨lF,H7,I7,n7⟩:=q7;exact again I7 n7
  |brk=>obtain⟨lF,H7,I7,q7⟩:=q7;exact⟨lF,H7,I7.Ay,q7⟩
  |ret v=>obtain⟨x7,lF,H7,I7,r7,q7⟩:=q7;exact⟨x7,lF,H7,I7.Ay,r7,q7⟩
noncomputable abbrev R2:=V->V->Hp->VK->Prop
def fG(X:Cx)(f:Value->Value->Sem Value)(r:R2):Prop :=
 ∀(pins:List (Addr×Obj)) (s:Shared) (Z:St) (H:Hp) (x y:V) (v u:Value) (Q:VK),Inv X pins Z H s->RelV x v->RelV y u->r x y H Q ->
  wpAny (model X.prog X.w) X.A (f v u) (EP X pins Z Q) X.xe s
def wZ(X:Cx)(f:Value->Sem Value)(r:V->Hp->VK->Prop):Prop :=
 ∀(pins:List (Addr×Obj)) (s:Shared) (Z:St) (H:Hp) (x:V) (v:Value) (Q:VK),Inv X pins Z H s->RelV x v->r x H Q ->
  wpAny (model X.prog X.w) X.A (f v) (EP X pins Z Q) X.xe s
def j8(X:Cx)(f:Value)(r:List V->Hp->VK->Prop):Prop :=
 ∀(pins:List (Addr×Obj)) (s:Shared) (Z:St) (H:Hp) (xs:List V) (us:List Value) (Q:VK),Inv X pins Z H s->Vals xs us->r xs H Q ->
  wpAny (model X.prog X.w) X.A (call f us) (EP X pins Z Q) X.xe s
def QW(X:Cx)(r:V->Hp->(Bool->Hp->Prop)->Prop):Prop :=
 ∀(pins:List (Addr×Obj)) (s:Shared) (Z:St) (H:Hp) (x:V) (v:Value) (Q:Bool->Hp->Prop),Inv X pins Z H s->RelV x v->r x H Q ->
  wpAny (model X.prog X.w) X.A (truthy v) (TP X pins Z Q) X.xe s
def qN(r:R2)(ta tb:TE):TE:=λZ H Q=>ta Z H λx H1=>tb Z H1 λy H2=>r x y H2 Q
def IG(r:V->Hp->VK->Prop)(ta:TE):TE:=λZ H Q=>ta Z H λx H1=>r x H1 Q
def rI(C:Int->Int->Prop)(g:Int->Int->V):R2:=λx y H Q=>∃i j,x=.int i/\y=.int j/\C i j/\Q (g i j) H
def mz(g:Int->Int->V):R2:=λx y H Q=>∃i j,x=.int i/\y=.int j/\Q (g i j) H
def rU(g:Int->V):V->Hp->VK->Prop:=λx H Q=>∃i,x=.int i/\Q (g i) H
section
variable{a b:Expr}
theorem Bq(ha:PE X a ta)(hb:PE X b tb){R:V->V->Hp->Prop}(I:Inv X pins Z H s)(h:ta Z H λx H1=>tb Z H1 λy H2=>R x y H2){f:Value->Value->Sem Value}(hf:∀v u s2 x y H2,Inv X pins Z H2 s2->RelV x v->RelV y u->R x y H2->wpAny (model X.prog X.w) X.A (f v u) Q X.xe s2) :
  wpAny (model X.prog X.w) X.A (eval a X.env) (λv bC=>wpAny (model X.prog X.w) X.A (eval b X.env) (λu fB=>wpAny (model X.prog X.w) X.A (f v u) Q X.xe fB) X.xe bC) X.xe s:=by
 refine cJ (ha pins s Z H _ I h) λv s1 bp=>?_;obtain⟨x,H1,I1,r1,q1⟩:=bp;refine cJ (hb pins s1 Z H1 _ I1 q1) λu s2 bp=>?_;obtain⟨y,H2,I2,r2,q2⟩:=bp;exact hf v u s2 x y H2 I2 r1 r2 q2
theorem Nm{op:Operator}(ho:fG X (binaryOp op) r)(ha:PE X a ta)(hb:PE X b tb):PE X (.BinOp a op b pos) (qN r ta tb):=by
 intro pins s Z H Q I h;exact wpAny_BinOp (Bq ha hb I h λv u s2 x y H2 I2 rx ry q=>ho pins s2 Z H2 x y v u Q I2 rx ry q)
theorem Np{op:UnaryOp}{r:V->Hp->VK->Prop}(ho:wZ X (unaryOp op) r)(ha:PE X a ta):PE X (.UnaryOp op a pos) (IG r ta):=by
 intro pins s Z H Q I h;exact UnaryOp_ (cJ (ha pins s Z H _ I h) λv s1 ⟨x,H1,I1,r1,q1⟩=>ho pins s1 Z H1 x v Q I1 r1 q1)
theorem sO{f:Value->Value->Sem Value}{C:Int->Int->Prop}{g:Int->Int->Int}(rule:∀(i j:Int) (t u:Tok) (s:Shared) (Q:Value->Shared->Prop) (E:Value->Shared->Prop),C i j->Q (.int (g i j) s.toks) { s with toks:=s.toks+1 }->wpAny (model X.prog X.w) X.A (f (.int i t) (.int j u)) Q E s) :
  fG X f (rI C λi j=>.int (g i j)):=by
 intro pins s Z H x y v u Q I rx ry h;obtain⟨i,j,rfl,rfl,hc,q⟩:=h;obtain⟨t,rfl⟩:=rx;obtain⟨t',rfl⟩:=ry;exact rule i j t t' s _ _ hc ⟨.int (g i j),H,I.tok _,⟨_,rfl⟩,q⟩
theorem wV{f:Value->Value->Sem Value}{g:Int->Int->Int}(rule:∀(i j:Int) (t u:Tok) (s:Shared) (Q:Value->Shared->Prop) (E:Value->Shared->Prop),Q (.int (g i j) s.toks) { s with toks:=s.toks+1 }->wpAny (model X.prog X.w) X.A (f (.int i t) (.int j u)) Q E s) :
  fG X f (mz λi j=>.int (g i j)):=by
 intro pins s Z H x y v u Q I rx ry h;obtain⟨i,j,rfl,rfl,q⟩:=h;obtain⟨t,rfl⟩:=rx;obtain⟨t',rfl⟩:=ry;exact rule i j t t' s _ _ ⟨.int (g i j),H,I.tok _,⟨_,rfl⟩,q⟩
theorem wU{f:Value->Value->Sem Value}{g:Int->Int->Bool}(rule:∀(i j:Int) (t u:Tok) (s:Shared) (Q:Value->Shared->Prop) (E:Value->Shared->Prop),Q (.bool (g i j)) s->wpAny (model X.prog X.w) X.A (f (.int i t) (.int j u)) Q E s) :
  fG X f (mz λi j=>.bl (g i j)):=by
 intro pins s Z H x y v u Q I rx ry h;obtain⟨i,j,rfl,rfl,q⟩:=h;obtain⟨t,rfl⟩:=rx;obtain⟨t',rfl⟩:=ry;exact rule i j t t' s _ _ ⟨.bl (g i j),H,I,rfl,q⟩
def Bm(i j:Int):Prop:=0<j/\j<1073741824
def V0(i j:Int):Prop:=0<=j/\j<=1000000/\i.natAbs<2 ^ 64
def qj(i j:Int):Prop:=(-(2 ^ 64)<i/\i<2 ^ 64)\/(-(2 ^ 64)<j/\j<2 ^ 64)
theorem qj.ok{i j:Int}(h:qj i j):IntMulOk i j:=by
 rcases h with⟨h1,h2⟩|⟨h1,h2⟩
 ·exact .of_left (intBits_le_64 h1 h2)
 ·exact .of_right (intBits_le_64 h1 h2)
theorem OP:fG X (binaryOp .Add) (mz λi j=>.int (i+j)):=wV λ_ _ _ _ _ _ _ q=>add_int q
theorem OZ:fG X (binaryOp .Sub) (mz λi j=>.int (i-j)):=wV λ_ _ _ _ _ _ _ q=>sub_int q
theorem OV:fG X (binaryOp .Mult) (rI qj λi j=>.int (i*j)):=sO λ_ _ _ _ _ _ _ hc q=>mul_int q hc.ok
theorem Xv:fG X (binaryOp .FloorDiv) (rI Bm λi j=>.int (i / j)):=sO λi j _ _ _ _ _ hc q=>by
 have h1:=hc.1;have h2:=hc.2;exact floordiv_int () (by rw[Int.fdiv_eq_ediv_of_nonneg i ()];exact q) (.inl (PyProof.noPylong_small ()))
theorem OU:fG X (binaryOp .Mod) (rI (λ_ j=>0<j) λi j=>.int (i % j)):=sO λi j _ _ _ _ _ hc q=>by
 exact mod_int' () (by rw[Int.fmod_eq_emod_of_nonneg i ()];exact q)
theorem OW:fG X (binaryOp .Pow) (rI V0 λi j=>.int (i ^ j.toNat)):=sO λ_ _ _ _ _ _ _ hc q=>pow_int_small hc.1 hc.2.1 hc.2.2 q
theorem OY:fG X (binaryOp .LShift) (rI V0 λi j=>.int (i*2 ^ j.toNat)):=sO λ_ _ _ _ _ _ _ hc q=>lshift_int_small hc.1 hc.2.1 hc.2.2 q
theorem OQ:fG X (binaryOp .BitAnd) (mz λi j=>.int (Builtin.bitAnd i j)):=wV λ_ _ _ _ _ _ _ q=>and_int q
theorem Nh:fG X (binaryOp .BitOr) (mz λi j=>.int (Builtin.bitOr i j)):=wV λ_ _ _ _ _ _ _ q=>or_int q
theorem IF{f:Value->Sem Value}{g:Int->Int}(rule:∀(i:Int) (t:Tok) (s:Shared) (Q:Value->Shared->Prop) (E:Value->Shared->Prop),Q (.int (g i) s.toks) { s with toks:=s.toks+1 }->wpAny (model X.prog X.w) X.A (f (.int i t)) Q E s) :
  wZ X f (rU λi=>.int (g i)):=by
 intro pins s Z H x v Q I rx h;obtain⟨i,rfl,q⟩:=h;obtain⟨t,rfl⟩:=rx;exact rule i t s _ _ ⟨.int (g i),H,I.tok _,⟨_,rfl⟩,q⟩
theorem Qw:wZ X (unaryOp .USub) (rU λi=>.int (-i)):=IF λ_ _ _ _ _ q=>neg_int q
end
def Ed:V->V->Bool
 |.bq,.bq=>true|.bq,.int _=>true|.int _,.bq=>true|.bq,.bl _=>true|.bl _,.bq=>true|.bq,.str _=>true|.str _,.bq=>true
 |.int _,.int _=>true|.bl _,.bl _=>true|.str _,.str _=>true|.kj _,.kj _=>true
 |.int _,.str _=>true|.str _,.int _=>true|.bl _,.str _=>true|.str _,.bl _=>true
 |_,_=>false
def IZ:R2:=λx y H Q=>Ed x y=true/\Q (.bl (decide (x=y))) H
def IY:R2:=λx y H Q=>Ed x y=true/\Q (.bl (!decide (x=y))) H
theorem Hh{i j:Int}:decide (V.int i=V.int j)=(i==j):=by
 rw[br];simp
theorem wA{i j:Bool}:decide (V.bl i=V.bl j)=(i==j):=by
 rw[br];simp
theorem Hi{i j:Str}:decide (V.str i=V.str j)=(i==j):=by
 rw[br];simp
theorem Hg{i j:Array UInt8}:decide (V.kj i=V.kj j)=(i.toList==j.toList):=by
 rw[br];simp
section
variable{a b:Expr}{tc:TE}
theorem i6{Q:VK}{k k':Bool}(I:Inv X pins Z H s)(q:Q (.bl k) H)(e:k=k'):EP X pins Z Q (.bool k') s:=by
 subst e;exact⟨.bl k,H,I,rfl,q⟩
theorem Ba:fG X (compareOp .Eq) IZ:=by
 intro pins s Z H x y v u Q I rx ry h;obtain⟨hs,q⟩:=h;cases x with
 |bq =>
  cases rx;cases y with
  |bq=>cases ry;exact PySem.EqNone.eq_none_none (i6 I q (by simp))
  |bl j=>cases ry;exact PySem.EqNone.eq_none_bool (i6 I q (by simp))
  |int j=>obtain⟨t',rfl⟩:=ry;exact PySem.EqNone.eq_none_int (i6 I q (by simp))
  |str j=>obtain⟨t',rfl⟩:=ry;exact PySem.EqNone.eq_none_str (i6 I q (by simp))
  |_=>exact absurd (show false=true from hs) Bool.false_ne_true
 |bl i =>
  cases rx;cases y with
  |bq=>cases ry;exact PySem.EqNone.eq_bool_none (i6 I q (by simp))
  |bl j=>cases ry;exact eq_bool (i6 I q wA)
  |str j=>obtain⟨t',rfl⟩:=ry;exact PySem.EqMixed.eq_bool_str (i6 I q (by simp))
  |_=>exact absurd (show false=true from hs) Bool.false_ne_true
 |int i =>
  obtain⟨t,rfl⟩:=rx;cases y with
  |bq=>cases ry;exact PySem.EqNone.eq_int_none (i6 I q (by simp))
  |int j=>obtain⟨t',rfl⟩:=ry;exact eq_int (i6 I q Hh)
  |str j=>obtain⟨t',rfl⟩:=ry;exact PySem.EqMixed.eq_int_str (i6 I q (by simp))
  |_=>exact absurd (show false=true from hs) Bool.false_ne_true
 |str i =>
  obtain⟨t,rfl⟩:=rx;cases y with
  |bq=>cases ry;exact PySem.EqNone.eq_str_none (i6 I q (by simp))
  |bl j=>cases ry;exact PySem.EqMixed.eq_str_bool (i6 I q (by simp))
  |int j=>obtain⟨t',rfl⟩:=ry;exact PySem.EqMixed.eq_str_int (i6 I q (by simp))
  |str j=>obtain⟨t',rfl⟩:=ry;exact eq_str (i6 I q Hi)
  |_=>exact absurd (show false=true from hs) Bool.false_ne_true
 |kj i =>
  obtain⟨t,rfl⟩:=rx;cases y with
  |kj j=>obtain⟨t',rfl⟩:=ry;exact PySem.W.eq_bytes (i6 I q Hg)
  |_=>exact absurd (show false=true from hs) Bool.false_ne_true
 |_=>cases y<;>exact absurd (show false=true from hs) ba
theorem Bb:fG X (compareOp .NotEq) IY:=by
 intro pins s Z H x y v u Q I rx ry h;obtain⟨hs,q⟩:=h;cases x with
 |bq =>
  cases rx;cases y with
  |bq=>cases ry;exact PySem.EqNone.ne_none_none (i6 I q (by simp))
  |bl j=>cases ry;exact PySem.EqNone.ne_none_bool (i6 I q (by simp))
  |int j=>obtain⟨t',rfl⟩:=ry;exact PySem.EqNone.ne_none_int (i6 I q (by simp))
  |str j=>obtain⟨t',rfl⟩:=ry;exact PySem.EqNone.ne_none_str (i6 I q (by simp))
  |_=>exact absurd (show false=true from hs) Bool.false_ne_true
 |bl i =>
  cases rx;cases y with
  |bq=>cases ry;exact PySem.EqNone.ne_bool_none (i6 I q (by simp))
  |bl j=>cases ry;exact ne_bool (i6 I q (congrArg not wA))
  |str j=>obtain⟨t',rfl⟩:=ry;exact PySem.EqMixed.ne_bool_str (i6 I q (by simp))
  |_=>exact absurd (show false=true from hs) Bool.false_ne_true
 |int i =>
  obtain⟨t,rfl⟩:=rx;cases y with
  |bq=>cases ry;exact PySem.EqNone.ne_int_none (i6 I q (by simp))
  |int j=>obtain⟨t',rfl⟩:=ry;exact ne_int (i6 I q (congrArg not Hh))
  |str j=>obtain⟨t',rfl⟩:=ry;exact PySem.EqMixed.ne_int_str (i6 I q (by simp))
  |_=>exact absurd (show false=true from hs) Bool.false_ne_true
 |str i =>
  obtain⟨t,rfl⟩:=rx;cases y with
  |bq=>cases ry;exact PySem.EqNone.ne_str_none (i6 I q (by simp))
  |bl j=>cases ry;exact PySem.EqMixed.ne_str_bool (i6 I q (by simp))
  |int j=>obtain⟨t',rfl⟩:=ry;exact PySem.EqMixed.ne_str_int (i6 I q (by simp))
  |str j=>obtain⟨t',rfl⟩:=ry;exact ne_str (i6 I q (congrArg not Hi))
  |_=>exact absurd (show false=true from hs) Bool.false_ne_true
 |kj i =>
  obtain⟨t,rfl⟩:=rx;cases y with
  |kj j=>obtain⟨t',rfl⟩:=ry;exact PySem.W.ne_bytes (i6 I q (congrArg not Hg))
  |_=>exact absurd (show false=true from hs) Bool.false_ne_true
 |_=>cases y<;>exact absurd (show false=true from hs) ba
theorem Ng:fG X (compareOp .Lt) (mz λi j=>.bl (decide (i<j))):=wU λ_ _ _ _ _ _ _ q=>lt_int q
theorem Nf:fG X (compareOp .LtE) (mz λi j=>.bl (decide (i<=j))):=wU λ_ _ _ _ _ _ _ q=>le_int q
theorem Nc:fG X (compareOp .Gt) (mz λi j=>.bl (decide (j<i))):=wU λ_ _ _ _ _ _ _ q=>gt_int q
theorem Nb:fG X (compareOp .GtE) (mz λi j=>.bl (decide (j<=i))):=wU λ_ _ _ _ _ _ _ q=>ge_int q
theorem OT:fG X (compareOp .Is) (λx y H Q=>y=.bq/\Q (.bl (decide (x=.bq))) H):=by
 intro pins s Z H x y v u Q I rx ry h;obtain⟨rfl,q⟩:=h;cases ry;refine is_none_gen (i6 I q ?_);cases x<;>first
  |(cases rx;rfl)
  |(obtain⟨t,rfl⟩:=rx;rfl)
theorem Xw:fG X (compareOp .IsNot) (λx y H Q=>y=.bq/\Q (.bl (!decide (x=.bq))) H):=by
 intro pins s Z H x y v u Q I rx ry h;obtain⟨rfl,q⟩:=h;cases ry;refine isnot_none_gen (i6 I q ?_);cases x<;>first
  |(cases rx;rfl)
  |(obtain⟨t,rfl⟩:=rx;rfl)
theorem XB(ho:fG X (compareOp op) r)(ha:PE X a ta)(hb:PE X b tb)(hm:behindInMarks op b=false):PE X (.Compare a [op] [b] pos) (qN r ta tb):=by
 intro pins s Z H Q I h;exact wpAny_Compare1 (Bq ha hb I h λv u s2 x y H2 I2 rx ry q=>ho pins s2 Z H2 x y v u Q I2 rx ry q) hm
def Bg(t:TE):TT:=λZ H Q=>t Z H λx H'=>∃k,x=.bl k/\Q k H'
theorem XJ(ho:fG X (compareOp op) r)(ha:PE X a ta)(hb:PE X b tb)(hm:behindInMarks op b=false):PT X (.Compare a [op] [b] pos) (Bg (qN r ta tb)):=by
 intro pins s Z H Q I h;refine wpAny_isTrue_Compare1 (cJ (ha pins s Z H _ I h) λv s1 ⟨x,H1,I1,r1,q1⟩=>cJ (hb pins s1 Z H1 _ I1 q1) λu s2 ⟨y,H2,I2,r2,q2⟩ =>
  cJ (ho pins s2 Z H2 x y v u _ I2 r1 r2 q2) λc s3 ⟨z,H3,I3,r3,k,e,q3⟩=>?_) hm
 subst e;cases r3;exact bN ⟨H3,I3,q3⟩
def zS(r r':R2)(ta tb tc:TE):TE:=λZ H Q=>ta Z H λx H1=>tb Z H1 λy H2=>r x y H2 λz H3=>∃k,z=.bl k /\
 (if k=true then tc Z H3 λw' H4=>r' y w' H4 Q else Q (.bl false) H3)
theorem Uk{gJ:CmpOp}{r':R2}(ho:fG X (compareOp op) r)(kJ:fG X (compareOp gJ) r')(ha:PE X a ta)(hb:PE X b tb)(hc:PE X c tc)(hm:lastMarks [op,gJ] [b,c]=false:=by with_unfolding_all rfl):PE X (.Compare a [op,gJ] [b,c] pos) (zS r r' ta tb tc):=by
 intro pins s Z H Q I h;refine Compare_chain (cJ (ha pins s Z H _ I h) λv s1 ⟨x,H1,I1,r1,q1⟩=>chain_link (cJ (hb pins s1 Z H1 _ I1 q1) λu s2 ⟨y,H2,I2,r2,q2⟩ =>
  cJ (ho pins s2 Z H2 x y v u _ I2 r1 r2 q2) λd s3 ⟨z,H3,I3,r3,k,e,q3⟩=>?_)) hm
 subst e;cases r3;refine bN ?_;cases k with
 |false=>exact ite_ff ⟨.bl false,H3,I3,rfl,q3⟩
 |true=>exact ite_tt (chain_last (cJ (hc pins s3 Z H3 _ I3 q3) λw' s4 ⟨z',H4,I4,r4,q4⟩=>kJ pins s4 Z H4 y z' u w' Q I4 r2 r4 q4))
theorem Uv{gJ:CmpOp}{r':R2}(ho:fG X (compareOp op) r)(kJ:fG X (compareOp gJ) r')(ha:PE X a ta)(hb:PE X b tb)(hc:PE X c tc)(hm:lastMarks [op,gJ] [b,c]=false:=by with_unfolding_all rfl):PT X (.Compare a [op,gJ] [b,c] pos) (Bg (zS r r' ta tb tc)):=by
 intro pins s Z H Q I h;refine isTrue_chain (cJ (ha pins s Z H _ I h) λv s1 ⟨x,H1,I1,r1,q1⟩=>test_link (cJ (hb pins s1 Z H1 _ I1 q1) λu s2 ⟨y,H2,I2,r2,q2⟩ =>
  cJ (ho pins s2 Z H2 x y v u _ I2 r1 r2 q2) λd s3 ⟨z,H3,I3,r3,k,e,q3⟩=>?_)) hm
 subst e;cases r3;refine bN ?_;cases k with
 |false =>
  obtain⟨k',e',q'⟩:=q3;cases e';exact ite_ff ⟨H3,I3,q'⟩
 |true =>
  refine ite_tt (test_last (cJ (hc pins s3 Z H3 _ I3 q3) λw' s4 ⟨z',H4,I4,r4,q4⟩=>cJ (kJ pins s4 Z H4 y z' u w' _ I4 r2 r4 q4) λd' s5 bp=>?_));obtain⟨z2,H5,I5,r5,k2,e2,q5⟩:=bp;subst e2;cases r5;exact bN ⟨H5,I5,q5⟩
def Bo(K:PySem.W.Frag)(x:V)(H:Hp)(k:Bool):Prop :=
 match x with
 |.bq=>k=false
 |.bl b=>k=b
 |.int i=>k=(i != 0)
 |.str y=>y.length<=sizeLine/\k=((y.length:Int) != 0)
 |.kj y=>y.size<=sizeLine/\k=((y.size:Int) != 0)
 |.ref p=>(∃xs,fu K H p xs/\k=!xs.isEmpty)\/(∃xs,gM K H p xs/\k=!xs.isEmpty)\/∃kvs,H p=some (.dK kvs)/\k=!kvs.isEmpty
 |_=>False
theorem WE{κ:Type}{kvs:List (κ×V)}{vs:List (κ×Value)}(r:KV kvs vs):(!vs.isEmpty)=!kvs.isEmpty:=by
 cases r<;>rfl
theorem FW{aV:List Value}(r:Vals xs aV):(!aV.toArray.isEmpty)=!xs.isEmpty:=by
 cases r<;>simp
theorem wB:(sizeLine:Nat)<2 ^ 63:=by rw[cM];decide
theorem Qt:QW X (λx H Q=>∃k,Bo X.K x H k/\Q k H):=by
 intro pins s Z H x v Q I rx h;obtain⟨k,e,q⟩:=h;have hs:=cM;cases x with
 |bq =>
  cases rx;have e':=e;subst e';exact truthy_none ⟨H,I,q⟩
 |bl b =>
  cases rx;have e':=e;subst e';exact bN ⟨H,I,q⟩
 |int i =>
  obtain⟨t,rfl⟩:=rx;have e':=e;subst e';exact PySem.P.truthy_int ⟨H,I,q⟩
 |str y =>
  obtain⟨t,rfl⟩:=rx;obtain⟨hy,e'⟩:=e;subst e';exact PySem.P.truthy_str () ⟨H,I.tok _,q⟩
 |kj y =>
  obtain⟨t,rfl⟩:=rx;obtain⟨hy,e'⟩:=e;subst e';exact PySem.W.truthy_bytes () ⟨H,I.tok _,q⟩
 |ref p =>
  cases rx;have e':=e;rcases e' with⟨xs,hx,e'⟩|⟨xs,hx,e'⟩|⟨kvs,hx,e'⟩
  ·subst e';obtain⟨aV,r,pl,hz⟩:=I.list hx;have hlen:=r.length;exact wpAny_truthy_list pl.isList (by simp only[List.size_toArray];omega) ⟨H,I.tok _,by rw[FW r];exact q⟩
  ·subst e';obtain⟨aV,r,pl,hz⟩:=I.tuple hx;have hlen:=r.length;exact truthy_tuple pl (by simp only[List.size_toArray];omega) ⟨H,I.tok _,by rw[FW r];exact q⟩
  ·subst e';obtain⟨hz,hS,vs,r,m⟩:=I.bB p _ hx;have hlen:=dP r;exact wpAny_truthy_dict hS m () ⟨H,I.tok _,by rw[WE r];exact q⟩
 |_=>exact(show False from e).elim
theorem Uw(ha:PE X a ta)(he:∀whole,isTrue a X.env whole=(do let v <- whole;standAt a.pos;holding [v] (truthy v))) :
  PT X a (λZ H Q=>ta Z H λx H'=>∃k,Bo X.K x H' k/\Q k H'):=by
 intro pins s Z H Q I h;exact isTrue_plain (cJ (ha pins s Z H _ I h) λv s1 ⟨x,H1,I1,r1,q1⟩=>Qt pins s1 Z H1 x v Q I1 r1 q1) (he _)
theorem vals1{x:V}(r:Vals [x] us):∃u,us=[u]/\RelV x u:=by
 cases r with
 |cons r1 r2=>cases r2;exact⟨_,rfl,r1⟩
theorem vals2{x y:V}(r:Vals [x,y] us):∃u w',us=[u,w']/\RelV x u/\RelV y w':=by
 cases r with
 |cons r1 r2 =>
  cases r2 with
  |cons r3 r4=>cases r4;exact⟨_,_,rfl,r1,r3⟩
theorem Vf(hc:X.calm=true):j8 X (.builtin "max") (λxs H Q=>∃i j,xs=[.int i,.int j]/\Q (.int (if j>i then j else i)) H):=by
 intro pins s Z H xs us Q I r h;obtain⟨i,j,rfl,q⟩:=h;obtain⟨u,w',rfl,⟨t,rfl⟩,⟨t',rfl⟩⟩:=vals2 r;refine max_two_ints (I.ok.hd hc) λh' tk k=>⟨_,H,I.kept k,?_,q⟩
 by_cases hj:j>i
 ·rw[aJ hj,aJ hj];exact⟨_,rfl⟩
 ·rw[aB hj,aB hj];exact⟨_,rfl⟩
theorem Vh(hc:X.calm=true):j8 X (.builtin "min") (λxs H Q=>∃i j,xs=[.int i,.int j]/\Q (.int (if j<i then j else i)) H):=by
 intro pins s Z H xs us Q I r h;obtain⟨i,j,rfl,q⟩:=h;obtain⟨u,w',rfl,⟨t,rfl⟩,⟨t',rfl⟩⟩:=vals2 r;refine min_two_ints (I.ok.hd hc) λh' tk k=>⟨_,H,I.kept k,?_,q⟩
 by_cases hj:j<i
 ·rw[aJ hj,aJ hj];exact⟨_,rfl⟩
 ·rw[aB hj,aB hj];exact⟨_,rfl⟩
theorem Ft:j8 X (.type "int") (λxs H Q=>(∃i,xs=[.int i]/\Q (.int i) H)\/∃k,xs=[.bl k]/\Q (.int (if k then 1 else 0)) H):=by
 intro pins s Z H xs us Q I r h;rcases h with⟨i,rfl,q⟩|⟨k,rfl,q⟩
 ·obtain⟨u,rfl,t,rfl⟩:=vals1 r;exact call_int_int ⟨.int i,H,I,⟨_,rfl⟩,q⟩
 ·obtain⟨u,rfl,r1⟩:=vals1 r;cases r1;exact call_int_bool ⟨.int (if k then 1 else 0),H,I.tok _,⟨_,rfl⟩,q⟩
end
structure rD(h:Heap)(x dx C:Addr)(mA:Str->Option Value):Prop where
 obj:h.get? x=some (PySem.W.instObj C dx)
 ns:h.Ns1 dx mA
 ne:dx≠x
theorem FD{mA:Str->Option Value}(n:h.Ns1 dx mA):∃od,h.get? dx=some od/\∀name,PySem.W.lookIn name od=some (mA name):=by
 obtain⟨o,es,ep,ho,hd,hk,_,hm⟩:=n;refine⟨o,ho,λname=>?_⟩;have e:=hm name;unfold nsFind findBy at e;rw[<- Array.find?_toList] at e;unfold PySem.W.lookIn;rw[hd];dsimp only;split
 ·rename_i y q;rw[q] at e;exact dM some e
 ·rename_i q;rw[q] at e;have a:es.toList.any (·.refKey)=false:=by
   rw[List.any_eq_false];intro y hy;obtain⟨z,t,fZ⟩:=hk y (dO.mp hy);simp[DictEntry.refKey,fZ]
  have a':¬es.toList.any (·.refKey)=true:=by rw[a];exact ba
  rw[aB a'];exact dM some e
theorem rD.look{x:Addr}{mA:Str->Option Value}(I:rD h x dx C mA):∃od,PySem.W.InstAt h x (PySem.W.instObj C dx) C (some od)/\∀name,PySem.W.lookIn name od=some (mA name) :=
 let ⟨od,ho,hl⟩:=FD I.ns
 ⟨od,⟨I.obj,rfl,rfl,ho⟩,hl⟩
section
variable{prog:Program}{x:Addr}{mA:Str->Option Value}{name:Str}{v:Value}
theorem get_map{expr:Bool}(X:K.In s.heap)(I:rD s.heap x dx C mA)(hg:PySem.W.plainGet K C name=true)(hh:PySem.W.hasDictIn K C=true)(ha:PySem.W.findIn K (.ref C) name=some none)(hv:mA name=some v)(tM:PySem.W.handedIn v=true)(h:Q v { s with toks:=s.toks+1 }) :
  wpAny (model prog w) A (getAttr (.ref x) name expr) Q E s:=by
 obtain⟨od,J,hl⟩:=I.look;exact PySem.W.get_value X J (PySem.W.plainGet_of hg).1 (PySem.W.findObj_own hh ha rfl (by rw[hl,hv])) tM h
theorem Ye{ns:List Str}{Q:Unit->Shared->Prop}(X:K.In s.heap)(I:rD s.heap x dx C mA)(hs:PySem.W.findIn K (.ref C) "__setattr__"=some (some (.builtin "object.__setattr__")))(hp:PySem.W.plainOver K C=true)(ht:PySem.W.takerIn K C name=some none)(hh:PySem.W.hasDictIn K C=true)(hw:PySem.Within mA ns)(iQ:ns.length<=sizeLine)(h:∀h',rD h' x dx C (λy=>if y=name then some v else mA y)->Heap.SameBut dx s.heap h'->Q Unit.unit { s with heap:=h',toks:=s.toks+2 }) :
  wpAny (model prog w) A (setAttr (.ref x) name v) Q E s:=by
 obtain⟨od,J,hl⟩:=I.look;refine PySem.W.set_plain X J hs (PySem.W.osa_open X J hp ht λb=>?_);obtain⟨cd,hc,nR⟩:=PySem.W.any_some hh;have hx:=I.obj;refine aa (af (aa (aa (wpAny_loadPart hx (aa (PySem.W.Looks.here (PySem.W.looks_clsIn X hc) ?_))))));rw[nR];refine af (aa (af (aa ?_)));refine wpAny_nsSet1 I.ns λh' oB iD=>?_;obtain⟨oD,Zp,Zq,JG,Ka,Kc⟩:=oB.count (PySem.Within.cons name v hw);refine aa (wpAny_lookBehind JG (by rw[Ka];exact pastItsLine_dict (aE Kc (by grind))) ?_);exact af (h _ ⟨(iD.2 _ (bW I.ne)).trans I.obj,oB,I.ne⟩ iD)
theorem Ua{R:Result->Shared->Prop}{vs:List Value}{kw:List (Str×Value)}(X:K.In s.heap)(hm:PySem.W.makesIn K C=true)(hi:PySem.W.findIn K (.ref C) "__init__"=some (some (.ref f)))(hf:PySem.W.typeIn K (.ref f)=some (.type "function"))(h:codeAny (model prog w) (A.under (.builtin "type.__call__" ⟨.ref C :: vs,kw⟩)) (.call (.ref f) ⟨.ref (s.heap.objs.size + 1) :: vs,kw⟩) (PySem.W.InitBack (s.heap.objs.size + 1) R)
   { s with heap:=(s.heap.push PySem.W.emptyDict).push (PySem.W.instObj C s.heap.objs.size) }) :
  codeAny (model prog w) A (.call (.ref C) ⟨vs,kw⟩) R s:=by
 exact PySem.W.make_core (PySem.W.makes_of X hm) (PySem.W.looks_findIn X hi) (λself=>PySem.W.bind_fn X self hf) (.inl rfl) h
end
def p8(f:Str)(v:V):List (Str×V)->List (Str×V)
 |[]=>[(f,v)]
 |(g,x)::r=>if g=f then(g,v)::r else(g,x)::p8 f v r
theorem Gk(f g:Str)(v:V):∀fs:List (Str×V),(p8 f v fs).lookup g=if g=f then some v else fs.lookup g
 |[]=>by
  show List.lookup g [(f,v)]=_;by_cases h:g=f
  ·have hb:=gN.mpr h;simp only[List.lookup,hb,if_pos h]
  ·have hb:=cW.mpr h;simp only[List.lookup,hb,if_neg h]
 |(k,x)::r=>by
  have ih:=Gk f g v r;rw[show p8 f v ((k,x)::r)=(if k=f then(k,v)::r else(k,x)::p8 f v r) from rfl];by_cases hk:k=f
  ·rw[aJ hk];by_cases h:g=k
   ·have hb:=gN.mpr h;simp only[List.lookup,hb,if_pos (h.trans hk)]
   ·have hb:=cW.mpr h;simp only[List.lookup,hb,if_neg (λe:g=f=>h (e.trans hk.symm))]
  ·rw[aB hk];by_cases h:g=k
   ·have hb:=gN.mpr h;simp only[List.lookup,hb,if_neg (λe:g=f=>hk (h.symm.trans e))]
   ·have hb:=cW.mpr h;simp only[List.lookup,hb];exact ih
theorem X3(f:Str)(v:V):∀fs:List (Str×V),f∈(p8 f v fs).map (·.1)/\∀g,g∈fs.map (·.1)->g∈(p8 f v fs).map (·.1)
 |[]=>⟨by simp[p8],λg h=>by simp at h⟩
 |(k,x)::r=>by
  obtain⟨i1,i2⟩:=X3 f v r;rw[show p8 f v ((k,x)::r)=(if k=f then(k,v)::r else(k,x)::p8 f v r) from rfl];by_cases hk:k=f
  ·rw[aJ hk]
   grind
  ·rw[aB hk];refine⟨?_,λg h=>?_⟩
   ·exact aI _ i1
   ·rcases av.mp h with e|e
    ·exact av.mpr (.inl e)
    ·exact aI _ (i2 g e)
theorem Gi(f:Str)(v:V):∀fs:List (Str×V),(p8 f v fs).length<=fs.length+1
 |[]=>by simp[p8]
 |(k,x)::r=>by
  have ih:=Gi f v r;rw[show p8 f v ((k,x)::r)=(if k=f then(k,v)::r else(k,x)::p8 f v r) from rfl]
  grind
theorem A4.some_of{o:Option Value}(r:A4 (some v) o):∃u,o=some u/\RelV v u:=by
 cases o with
 |none=>exact(show False from r).elim
 |some u=>exact⟨u,rfl,r⟩
theorem Vt(r:RelV v u):PySem.W.handedIn u=true:=by
 cases v with
 |bq=>cases (show u=Value.none from r);rfl
 |bl b=>cases (show u=Value.bool b from r);rfl
 |int i=>obtain⟨t,e⟩:=(show ∃t,u=Value.int i t from r);cases e;rfl
 |str x=>obtain⟨t,e⟩:=(show ∃t,u=Value.str x t from r);cases e;rfl
 |kj b=>obtain⟨t,e⟩:=(show ∃t,u=Value.bytes b t from r);cases e;rfl
 |qa b=>obtain⟨t,e⟩:=(show ∃t,u=Value.float b t from r);cases e;rfl
 |ref a=>cases (show u=Value.ref a from r);rfl
 |ty n=>cases (show u=Value.type n from r);rfl
section
variable{fs:List (Str×V)}
theorem Am(bB:fx P w H h)(e:H a=some (.ins C dx fs)):∃mA,rD h a dx C mA/\(∀f,A4 (fs.lookup f) (mA f))/\PySem.Within mA (fs.map (·.1))/\fs.length<=1000/\H dx=some (.own a):=by
 obtain⟨d,z,ne,ob,mA,n,r,q⟩:=(show j5 P w H h a (.ins C dx fs) from bB a _ e)
 exact⟨mA,⟨ob,n,ne⟩,r,q,z,d⟩
end
structure jq(K:PySem.W.Frag)(C:Addr):Prop where
 pg:PySem.W.plainGet K C Str.empty=true
 hd:PySem.W.hasDictIn K C=true
 po:PySem.W.plainOver K C=true
 sa:PySem.W.findIn K (.ref C) "__setattr__"=some (some (.builtin "object.__setattr__"))
theorem jq.get(c:jq K C)(f:Str):PySem.W.plainGet K C f=true:=c.pg
def w5(K:PySem.W.Frag)(C:Addr)(f:Str):Prop:=PySem.W.findIn K (.ref C) f=some none
theorem w5.NL{f:Str}(n:w5 K C f):PySem.W.takerIn K C f=some none:=by
 unfold PySem.W.takerIn;rw[show PySem.W.findIn K (.ref C) f=some none from n]
 rfl
structure Meth(K:PySem.W.Frag)(C:Addr)(m:Str)(f:Addr):Prop where
 at_:PySem.W.findIn K (.ref C) m=some (some (.ref f))
 fn:PySem.W.isFn K (.ref f)=true
 kp:PySem.W.keepIn K (.ref f)=true
section
variable{fs:List (Str×V)}{f:Str}
theorem WC{b:Bool}(I:Inv X pins Z H s)(e:H a=some (.ins C dx fs))(c:jq X.K C)(n:w5 X.K C f)(l:fs.lookup f=some v)(h:∀u s',Inv X pins Z H s'->RelV v u->Q u s'):wpAny (model X.prog X.w) A (getAttr (.ref a) f b) Q E s:=by
 obtain⟨mA,O,r,_,_,_⟩:=Am I.bB e;obtain⟨u,hu,ru⟩:=A4.some_of (by rw[<- l];exact r f);exact get_map I.gj O (c.get f) c.hd n hu (Vt ru) (h u _ (I.tok _) ru)
theorem WW{y:V}{Q:Unit->Shared->Prop}(I:Inv X pins Z H s)(e:H a=some (.ins C dx fs))(c:jq X.K C)(n:w5 X.K C f)(hl:fs.length<1000)(ry:RelV y u)(h:∀s',Inv X pins Z (upd H a (.ins C dx (p8 f y fs))) s'->Q Unit.unit s'):wpAny (model X.prog X.w) A (setAttr (.ref a) f u) Q E s:=by
 obtain⟨mA,O,r,wi,_,ho⟩:=Am I.bB e;have hz:(fs.map (·.1)).length<=sizeLine:=by rw[ai,cM];omega
 refine Ye I.gj O c.sa c.po n.NL c.hd wi hz λh' O' sb=>h _ ?_;have hd:∃o,h'.get? dx=some o:=let ⟨o,_,_,e',_⟩:=O'.ns;⟨o,e'⟩
 refine I.write (by rw[e];exact True.intro) (.inr ho) (λb q hb z=>(sb.2 b hb).trans z) hd ?_;refine⟨by rw[f9 O.ne];exact ho,?_,O.ne,O'.obj,_,O'.ns,λg=>?_,λg hg=>?_⟩
 ·have:=Gi f y fs;omega
 ·show A4 ((p8 f y fs).lookup g) (if g=f then some u else mA g);rw[Gk];by_cases q:g=f
  ·rw[aJ q,aJ q];exact ry
  ·rw[aB q,aB q];exact r g
 ·by_cases q:g=f
  ·rw[q];exact(X3 f y fs).1
  ·refine(X3 f y fs).2 g (wi g λz=>hg ?_);show(if g=f then some u else mA g)=none;rw[aB q];exact z
theorem Inv.made(I:Inv X pins Z H s):Inv X pins Z (upd (upd H s.heap.objs.size (.own (s.heap.objs.size+1))) (s.heap.objs.size+1) (.ins C s.heap.objs.size []))
  { s with heap:=(s.heap.push PySem.W.emptyDict).push (PySem.W.instObj C s.heap.objs.size) }:=by
 have e1:(s.heap.push PySem.W.emptyDict).get? s.heap.objs.size=some PySem.W.emptyDict:=aw s.heap rfl;have e2:((s.heap.push PySem.W.emptyDict).push (PySem.W.instObj C s.heap.objs.size)).get? (s.heap.objs.size+1)=some (PySem.W.instObj C s.heap.objs.size):=by
  have:=aw (s.heap.push PySem.W.emptyDict) (o:=PySem.W.instObj C s.heap.objs.size) rfl
  rwa [gF] at this
 have e3:(s.heap.push PySem.W.emptyDict).Ns s.heap.objs.size (λ_=>none):=⟨PySem.W.emptyDict,#[],_,e1,rfl,(λe he=>absurd he (by simp)),λ_=>rfl⟩
 have I1:=I.laid (o:=.own (s.heap.objs.size+1)) (h':=s.heap.push PySem.W.emptyDict) (t':=s.toks) (λb u q=>ah _ q) (aj _) ⟨_,e1⟩;refine I1.laid (t':=s.toks) (λb u q=>ah _ q) (fm (gF _ _)) ?_;have ne:s.heap.objs.size≠s.heap.objs.size+1:=aD (gy _);refine⟨by rw[f9 ne,m9],bG _,ne,e2,λ_=>none,(Heap.Ns1.of_empty e3).at λo q=>ah _ q,λ_=>True.intro,λy hy=>absurd rfl hy⟩
theorem QE{prog:Program}{env:Env}(hb:attributeBase e f env (eval e env)=eval e env)(h:wpAny (model prog w) A (eval e env) (λo bC=>wpAny (model prog w) A (getAttr o f true) Q E bC) E s):wpAny (model prog w) A (eval (.Attribute e f pos) env) Q E s :=
 Attribute_any_ h (by rw[arm_eval_Attribute,hb])
end
def Ly(K:PySem.W.Frag)(ta:TE)(f:Str):TE:=λZ H Q=>ta Z H λx H1=>∃a C dx fs v,x=.ref a/\H1 a=some (.ins C dx fs)/\jq K C/\w5 K C f/\fs.lookup f=some v/\Q v H1
def RY(K:PySem.W.Frag)(ta tv:TE)(f:Str):TS:=λD Z H=>tv Z H λy H1=>ta Z H1 λx H2=>∃a C dx fs,x=.ref a/\H2 a=some (.ins C dx fs)/\jq K C/\w5 K C f/\fs.length<1000 /\
 D.nx Z (upd H2 a (.ins C dx (p8 f y fs)))
section
variable{o value:Expr}{f:Str}{pos':Pos}{tv:TE}
theorem Pe(he:PE X e ta)(hb:attributeBase e f X.env (eval e X.env)=eval e X.env):PE X (.Attribute e f pos) (Ly X.K ta f):=by
 intro pins s Z H Q I h;refine QE hb (cJ (he pins s Z H _ I h) λu s1 bp=>?_);obtain⟨x,H1,I1,rx,a,C,dx,fs,v,ex,ea,c,n,l,q⟩:=bp;subst ex;obtain rfl:u=Value.ref a:=rx;exact WC I1 ea c n l λu' s2 I2 ru=>⟨v,H1,I2,ru,q⟩
theorem Pt(ha:PE X o ta)(hv:PE X value tv)(hs:swapsWith value (some (.Attribute o f pos')) pos.line X.env=pure false):PS X (.Assign [.Attribute o f pos'] value pos) (RY X.K ta tv f):=by
 intro pins s Z H D I h;refine plainObj_wpAny_Assign_Attribute (cJ (hv pins s Z H _ I h) λu s1 ⟨y,H1,I1,ry,q⟩=>cJ (ha pins s1 Z H1 _ I1 q) λov s2 bp=>?_) hs;obtain⟨x,H2,I2,rx,a,C,dx,fs,ex,ea,c,n,l,q2⟩:=bp;subst ex;obtain rfl:ov=Value.ref a:=rx;exact WW I2 ea c n l ry λs3 I3=>⟨Z,_,I3,q2⟩
end
section
variable{c:Value}{b:Bool}
inductive gb(K:PySem.W.Frag)(H:Hp):V->Value->Prop where
 |bq:gb K H .bq (.type "NoneType")
 |bl (x:Bool):gb K H (.bl x) (.type "bool")
 |int (i:Int):gb K H (.int i) (.type "int")
 |str (x:Str):gb K H (.str x) (.type "str")
 |qa (x:UInt64):gb K H (.qa x) (.type "float")
 |lst {a:Addr} {xs:List V} (e:H a=some (.lst xs)):gb K H (.ref a) (.type "list")
 |jh {a:Addr} {o:Obj} {xs:List V} (e:H a=some (.jh o (.lst xs))):gb K H (.ref a) (.type "list")
 |tup {a:Addr} {xs:List V} (e:H a=some (.tup xs)):gb K H (.ref a) (.type "tuple")
 |dK {a:Addr} {kvs:List (Key×V)} (e:H a=some (.dK kvs)):gb K H (.ref a) (.type "dict")
 |dT {a:Addr} {kvs:List (List Key×V)} (e:H a=some (.dT kvs)):gb K H (.ref a) (.type "dict")
 |ins {a C dx:Addr} {fs:List (Str×V)} (e:H a=some (.ins C dx fs)) (cl:jq K C) (ha:PySem.W.findIn K (.ref C) "__class__"=some (some (.builtin "object.__class__")))
   (hn:PySem.W.specialIn K (.builtin "object.__class__") "__get__"=some (some (.builtin "getset_descriptor.__get__"))) (tN:PySem.W.takesIn K (.builtin "object.__class__")=some true)
   (hm:PySem.W.mroIn K C (.type "object")=some true):gb K H (.ref a) (.ref C)
theorem VB{x:V}{t:Value}(I:Inv X pins Z H s)(rx:RelV x u)(ty:gb X.K H x t)(e:PySem.W.kitOne X.K t c=some b)(h:∀tk,Q (.bool b) { s with toks:=tk }) :
  wpAny (model X.prog X.w) A (call (.builtin "isinstance") [u,c]) Q E s:=by
 cases ty with
 |bq=>cases (show u=Value.none from rx);exact bz PySem.W.kitx_none I.gj True.intro e (λz=>nomatch z) h
 |bl y=>cases (show u=Value.bool y from rx);exact bz PySem.W.kitx_bool I.gj True.intro e (λz=>nomatch z) h
 |int i=>obtain⟨t,q⟩:=(show ∃t,u=Value.int i t from rx);cases q;exact bz PySem.W.kitx_int I.gj True.intro e (λz=>nomatch z) h
 |str y=>obtain⟨t,q⟩:=(show ∃t,u=Value.str y t from rx);cases q;exact bz PySem.W.kitx_str I.gj True.intro e (λz=>nomatch z) h
 |qa y=>obtain⟨t,q⟩:=(show ∃t,u=Value.float y t from rx);cases q;exact bz PySem.W.kitx_float I.gj True.intro e (λz=>nomatch z) h
 |@lst a xs ea =>
  cases (show u=Value.ref a from rx);obtain⟨_,_,n,_,h1⟩:=(show j5 X.prog X.w H s.heap a (.lst xs) from I.bB a _ ea)
  exact bz YC I.gj ⟨_,h1,rfl⟩ e (λz=>nomatch z) h
 |@jh a ob xs ea =>
  cases (show u=Value.ref a from rx);obtain⟨_,_,_,n,_,h1⟩:=(show j5 X.prog X.w H s.heap a (.jh ob (.lst xs)) from I.bB a _ ea)
  exact bz YC I.gj ⟨_,h1,rfl⟩ e (λz=>nomatch z) h
 |@tup a xs ea =>
  cases (show u=Value.ref a from rx);obtain⟨_,_,_,p⟩:=(show j5 X.prog X.w H s.heap a (.tup xs) from I.bB a _ ea)
  obtain⟨o,h1,h2,_⟩:=p;exact bz Io I.gj ⟨o,h1,h2⟩ e (λz=>nomatch z) h
 |@dK a kvs ea =>
  cases (show u=Value.ref a from rx);obtain⟨_,_,vs,_,p⟩:=(show j5 X.prog X.w H s.heap a (.dK kvs) from I.bB a _ ea)
  obtain⟨o,es,ep,h1,h2,_⟩:=p;exact bz YD I.gj ⟨o,h1,h2.1⟩ e (λz=>nomatch z) h
 |@dT a kvs ea =>
  cases (show u=Value.ref a from rx);obtain⟨_,_,xs,_,o,es,ep,h1,h2,_⟩:=(show j5 X.prog X.w H s.heap a (.dT kvs) from I.bB a _ ea)
  exact bz YD I.gj ⟨o,h1,h2.1⟩ e (λz=>nomatch z) h
 |@ins a C dx fs ea cl ha hn tN hm =>
  cases (show u=Value.ref a from rx);obtain⟨mA,O,_⟩:=Am I.bB ea;obtain⟨od,J,_⟩:=O.look;exact bz (PySem.W.kitx_own (cl.get _) cl.hd ha hn tN hm) I.gj J e (λz=>nomatch z) h
end
structure n8(k:Nat)(A:Around):Prop where
 hd:A.handled=none
 dp:A.depth+3*k+5<recursionLimit
 un:A.units+16*k+200<cLine
theorem n8.mono{j:Nat}(r:n8 k A)(h:j<=k):n8 j A:=⟨r.hd,by have:=r.dp;omega,by have:=r.un;omega⟩
theorem n8.deeper{k:Nat}{A:Around}(r:n8 (k+1) A)(env:Env):n8 k (A.deeper env) :=
 ⟨r.hd,by have:=r.dp;show A.depth+1+3*k+5<_;omega,by have:=r.un;show A.units+3+16*k+200<_;omega⟩
theorem WN{kw:List (Str×Value)}:(A.under (.builtin "type.__call__" ⟨.ref C::us,kw⟩)).depth=A.depth+1:=by
 rfl
theorem WO{kw:List (Str×Value)}:(A.under (.builtin "type.__call__" ⟨.ref C::us,kw⟩)).units=A.units+1:=by
 rfl
theorem n8.make(r:n8 (k+1) A)(C:Addr)(us:List Value)(kw:List (Str×Value)):n8 k (A.under (.builtin "type.__call__" ⟨.ref C::us,kw⟩)) :=
 ⟨r.hd,by have:=r.dp;rw[WN];omega,by have:=r.un;rw[WO];omega⟩
theorem n8.depth{k:Nat}{A:Around}(r:n8 k A):A.depth<recursionLimit:=by have:=r.dp;omega
def rJ:TA:=λ_ H Q=>Q [] H
def wu(ta:TE)(tr:TA):TA:=λZ H Q=>ta Z H λx H1=>tr Z H1 λxs H2=>Q (x::xs) H2
theorem K7:PA X [] rJ:=λ_ _ _ _ H Q I h=>Calls.spliced_nil ⟨[],H,I,.nil,h⟩
theorem E5(ha:PE X e te)(hr:PA X es t)(hs:starEach (e::es) X.env=(false,eval e X.env)::starEach es X.env:=by rfl):PA X (e::es) (wu te t):=by
 intro pos pins s Z H Q I h;rw[hs];show wpAny _ _ (spliced ((false,eval e X.env)::backTo pos (starEach es X.env))) _ _ s;refine Calls.spliced_cons (cJ (ha pins s Z H _ I h) λu s1 bp=>?_);obtain⟨x,H1,I1,r1,q1⟩:=bp;exact cJ (hr pos pins s1 Z H1 _ I1 q1) λus s2 ⟨xs,H2,I2,r2,q2⟩=>⟨x::xs,H2,I2,.cons r1 r2,q2⟩
def LL(t:TA):TE:=λZ H Q=>t Z H λxs H1=>xs.length<=sizeLine/\∀p,H1 p=none->Q (.ref p) (upd H1 p (.tup xs))
def LC(t:TA):TE:=λZ H Q=>t Z H λxs H1=>xs.length<=sizeLine/\∀p,H1 p=none->Q (.ref p) (upd H1 p (.lst xs))
theorem Pm{x1}(h:PA X es t):PE X (.Tuple es x1 pos) (LL t):=by
 intro pins s Z H Q I hq;refine wpAny_Tuple_spliced (cJ (h pos pins s Z H _ I hq) λus s1 ⟨xs,H1,I1,r,z,q⟩=>⟨by rw[<- r.length];exact z,?_⟩);have hf:=I1.bB.fresh (aj _);refine⟨.ref s1.heap.objs.size,upd H1 s1.heap.objs.size (.tup xs),I1.laid (t':=s1.toks) (λb u e=>ah _ e) (aj _) ?_,rfl,q _ hf⟩;exact⟨z,us,r,⟨_,aw _ rfl,rfl,⟨_,rfl⟩,rfl⟩⟩
theorem Pf(h:PA X es t):PE X (.List es pos) (LC t):=by
 intro pins s Z H Q I hq;refine wpAny_List_spliced (cJ (h pos pins s Z H _ I hq) λus s1 ⟨xs,H1,I1,r,z,q⟩=>⟨by rw[<- r.length];exact z,?_⟩);have hf:=I1.bB.fresh (aj _);refine⟨.ref s1.heap.objs.size,upd H1 s1.heap.objs.size (.lst xs),I1.laid (t':=s1.toks) (λb u e=>ah _ e) (aj _) ?_,rfl,q _ hf⟩;exact⟨z,us,0,r,aw _ rfl⟩
noncomputable abbrev Sp:=List V->Hp->VK->XK->Prop
noncomputable abbrev mr:=List Env->Hp->Shared->XK->Value->Shared->Prop
structure qk(P:Program)(w:World)(K:PySem.W.Frag)(mg:Str->Option Value)(base:Heap)(A:Around)(outer:List Env)(s:Shared)(H:Hp):Prop where
 frames:A.frames=some outer
 mod:Mod K mg base
 bs:∀b o,base.get? b=some o->s.heap.get? b=some o/\H b=none
 ml:base.objs.size<=s.heap.objs.size
 E0:s.heap.FunFrames base outer
 mK:∀b∈fk outer,H b=none
 bB:fx P w H s.heap
 bare:AllBare s.gens
def CE(outer:List Env)(P:Program)(w:World)(H:Hp)(s:Shared)(Q:VK)(u:Value)(s':Shared):Prop :=
 ∃v H',s'.os=s.os/\AllBare s'.gens/\Un (fk outer) [] H H' s.heap s'.heap/\fx P w H' s'.heap/\RelV v u/\Q v H'
def CR(CX:mr)(outer:List Env)(P:Program)(w:World)(H:Hp)(s:Shared)(Q:VK)(E:XK)(r:Result)(s':Shared):Prop :=
 match r with
 |.ok (.ret u)=>CE outer P w H s Q u s'
 |.ok _=>False
 |.error e=>CX outer H s E e s'
structure gH(P:Program)(w:World)(K:PySem.W.Frag)(mg:Str->Option Value)(base:Heap)(CX:mr)(k:Nat)(f:Addr)(fd:FuncData)(ps:List Str)(sp:Sp):Prop where
 len:∀vs H Q E,sp vs H Q E->vs.length=ps.length
 run:∀(A:Around) (outer:List Env) (s:Shared) (H:Hp) (args:Args) (us:List Value) (vs:List V) (Q:VK) (E:XK),n8 k A->qk P w K mg base A outer s H->BindsTo s fd args (ps.zip us)->Vals vs us->sp vs H Q E ->
  codeAny (model P w) A (.call (.ref f) args) (CR CX outer P w H s Q E) s
theorem qk.make{mg:Str->Option Value}{outer:List Env}(e:qk P w K mg base A outer s H)(C:Addr)(us:List Value)(kw:List (Str×Value)) :
  qk P w K mg base (A.under (.builtin "type.__call__" ⟨.ref C::us,kw⟩)) outer s H:=⟨by first|exact e.frames|(simpa[Around.under,Code.envs,Code.isFrame,pushEnvs] using e.frames),e.mod,e.bs,e.ml,e.E0,e.mK,e.bB,e.bare⟩
section
variable{s':Shared}
theorem Inv.DP(I:Inv X pins Z H s):qk X.prog X.w X.K X.mg X.base X.A X.stack s H :=
 ⟨I.ok.frames,I.ok.mod,I.bs,aE I.ok.ml I.sz,I.stack,I.Y9,I.bB,I.bare⟩
theorem Inv.after{Q:VK}(I:Inv X pins Z H s)(h:CE X.stack X.prog X.w H s Q u s'):EP X pins Z Q u s':=by
 obtain⟨v,H',os,bare,un,bB,r,q⟩:=h;obtain⟨hh,g,d,t,nC⟩:=s';obtain rfl:nC=s.os:=os;exact⟨v,H',I.call (h':=hh) (g':=g) (d':=d) (t':=t) un bB bare (λb z=>absurd z (by simp)),r,q⟩
end
def HV(sp:Sp)(jo:List V)(E:XK)(t:TA):TE:=λZ H Q=>t Z H λvs H1=>sp (vs++jo) H1 Q E
def HW(C:Addr)(sp:Sp)(jo:List V)(E:XK)(t:TA):TE:=λZ H Q=>t Z H λvs H1=>∀x dx,H1 x=none->H1 dx=none->dx≠x ->
 sp (.ref x::(vs++jo)) (upd (upd H1 dx (.own x)) x (.ins C dx [])) (λv H2=>v=.bq/\Q (.ref x) H2) E
def Binds(K:PySem.W.Frag)(fd:FuncData)(ps:List Str)(ds:List Value):Prop :=
 ∀(s:Shared) (us:List Value),K.In s.heap->(us++ds).length=ps.length->BindsTo s fd ⟨us,[]⟩ (ps.zip (us++ds))
theorem Binds.all(h:∀us:List Value,us.length=ps.length->bindArgs fd ⟨us,[]⟩=pure (ps.zip us)):Binds K fd ps []:=λs us _ hl=>by
 rw[List.append_nil] at hl ⊢;exact .of_eq (h us hl)
def Passes(CX:mr)(X:Cx)(E:XK):Prop:=∀(pins:List (Addr×Obj)) (Z:St) (H:Hp) (s:Shared) (e:Value) (s':Shared),Inv X pins Z H s->CX X.stack H s E e s'->X.xe e s'
section
variable{jo:List V}{ds:List Value}{E:XK}
theorem GN{Q:VK}(F:gH X.prog X.w X.K X.mg X.base CX k f fd ps sp)(hr:n8 k X.A)(hb:Binds X.K fd ps ds)(hd:Vals jo ds)(hx:Passes CX X E)(I:Inv X pins Z H s)(r:Vals vs us)(h:sp (vs++jo) H Q E):wpAny (model X.prog X.w) X.A (call (.ref f) us) (EP X pins Z Q) X.xe s:=by
 have r2:=r.append hd;have hl:(us++ds).length=ps.length:=by rw[<- r2.length];exact F.len _ _ _ _ h
 refine xf (eG (F.run X.A X.stack s H ⟨us,[]⟩ (us++ds) (vs++jo) Q E hr I.DP (hb s us I.gj hl) r2 h) λr s' hq=>?_);cases r with
 |error e=>exact hx pins Z H s e s' I hq
 |ok fl =>
  cases fl with
  |ret u=>exact I.after hq
  |next=>exact False.elim hq
  |brk=>exact False.elim hq
  |cont=>exact False.elim hq
theorem XA(F:gH X.prog X.w X.K X.mg X.base CX k f fd ps sp)(hr:n8 k X.A)(hg:Gl X x)(hm:X.mg x=some (.ref f))(hk:PySem.W.keepIn X.K (.ref f)=true)(hb:Binds X.K fd ps ds)(hd:Vals jo ds)(hx:Passes CX X E)(ha:PA X (e::es) t)(gp:(x==("__debug__":Str))=false:=by decide)(he:starEach (e::es) X.env=(false,eval e X.env)::starEach es X.env:=by rfl)(fN:(backTo pos (starEach es X.env)).any (·.1)=false:=by rfl) :
  PE X (.Call (.Name x p) (e::es) [] pos) (HV sp jo E t):=by
 intro pins s Z H Q I h;refine bV (K2 I hg hm ?_ gp);refine Ip I.ok.mod.mB hk (cJ (ha pos pins s Z H _ I h) λus s1 ⟨vs,H1,I1,r,q⟩=>⟨I1.gj,?_⟩) he fN;exact GN F hr hb hd hx I1 r q
theorem Uj(F:gH X.prog X.w X.K X.mg X.base CX k f fd ps sp)(hr:n8 k X.A)(hg:Gl X x)(hm:X.mg x=some (.ref f))(hk:PySem.W.keepIn X.K (.ref f)=true)(hb:Binds X.K fd ps ds)(hd:Vals jo ds)(hx:Passes CX X E)(gp:(x==("__debug__":Str))=false:=by decide):PE X (.Call (.Name x p) [] [] pos) (HV sp jo E rJ):=by
 intro pins s Z H Q I h;refine bV (K2 I hg hm ?_ gp);exact By I.gj hk (GN (us:=[]) F hr hb hd hx I .nil h)
structure Mk(K:PySem.W.Frag)(C f:Addr):Prop where
 makes:PySem.W.makesIn K C=true
 init:PySem.W.findIn K (.ref C) "__init__"=some (some (.ref f))
 fn:PySem.W.isFn K (.ref f)=true
 kp:PySem.W.keepIn K (.ref C)=true
theorem Fd{Q:VK}(M:Mk X.K C f)(F:gH X.prog X.w X.K X.mg X.base CX k f fd ps sp)(hr:n8 (k+1) X.A)(hb:Binds X.K fd ps ds)(hd:Vals jo ds)(hx:Passes CX X E)(I:Inv X pins Z H s)(r:Vals vs us)(h:∀x dx,H x=none->H dx=none->dx≠x->sp (.ref x::(vs++jo)) (upd (upd H dx (.own x)) x (.ins C dx [])) (λv H2=>v=.bq/\Q (.ref x) H2) E) :
  wpAny (model X.prog X.w) X.A (call (.ref C) us) (EP X pins Z Q) X.xe s:=by
 have hq:=h (s.heap.objs.size+1) s.heap.objs.size (I.bB.fresh (kO _)) (I.bB.fresh (aj _)) (aD (gy _));have I2:=Inv.made (C:=C) I;have r2:Vals (V.ref (s.heap.objs.size+1)::(vs++jo)) (Value.ref (s.heap.objs.size+1)::(us++ds)):=.cons rfl (r.append hd);have hl:(Value.ref (s.heap.objs.size+1)::us++ds).length=ps.length:=by
  have e:=r2.length;rw[F.len _ _ _ _ hq] at e;exact e.symm
 refine xf (Ua I.gj M.makes M.init (gN.mp M.fn) (eG (F.run _ X.stack _ _ ⟨Value.ref (s.heap.objs.size + 1) :: us,[]⟩ (Value.ref (s.heap.objs.size + 1) :: (us ++ ds)) _ _ E (hr.make C us [])
  (I2.DP.make C us []) (hb _ (Value.ref (s.heap.objs.size + 1) :: us) I2.gj hl) r2 hq) λr s' kH=>?_))
 cases r with
 |error e=>exact hx pins Z _ _ e s' I2 kH
 |ok fl =>
  cases fl with
  |ret u =>
   obtain⟨v,H',I3,rv,ev,q3⟩:=I2.after kH;subst ev;exact⟨rv,⟨V.ref (s.heap.objs.size+1),H',I3,rfl,q3⟩⟩
  |next=>exact False.elim kH
  |brk=>exact False.elim kH
  |cont=>exact False.elim kH
theorem XC(M:Mk X.K C f)(F:gH X.prog X.w X.K X.mg X.base CX k f fd ps sp)(hr:n8 (k+1) X.A)(hg:Gl X x)(hm:X.mg x=some (.ref C))(hb:Binds X.K fd ps ds)(hd:Vals jo ds)(hx:Passes CX X E)(ha:PA X (e::es) t)(gp:(x==("__debug__":Str))=false:=by decide)(he:starEach (e::es) X.env=(false,eval e X.env)::starEach es X.env:=by rfl)(fN:(backTo pos (starEach es X.env)).any (·.1)=false:=by rfl) :
  PE X (.Call (.Name x p) (e::es) [] pos) (HW C sp jo E t):=by
 intro pins s Z H Q I h;refine bV (K2 I hg hm ?_ gp);refine Ip I.ok.mod.mB M.kp (cJ (ha pos pins s Z H _ I h) λus s1 ⟨vs,H1,I1,r,q⟩=>⟨I1.gj,?_⟩) he fN;exact Fd M F hr hb hd hx I1 r q
theorem Up(M:Mk X.K C f)(F:gH X.prog X.w X.K X.mg X.base CX k f fd ps sp)(hr:n8 (k+1) X.A)(hg:Gl X x)(hm:X.mg x=some (.ref C))(hb:Binds X.K fd ps ds)(hd:Vals jo ds)(hx:Passes CX X E)(gp:(x==("__debug__":Str))=false:=by decide):PE X (.Call (.Name x p) [] [] pos) (HW C sp jo E rJ):=by
 intro pins s Z H Q I h;refine bV (K2 I hg hm ?_ gp);exact By I.gj M.kp (Fd (us:=[]) M F hr hb hd hx I .nil h)
end
structure ie(N P:List Str)(sc:Scope):Prop where
 kind:sc.kind=.function
 co:sc.isCoroutine=false
 gen:sc.isGenerator=false
 nd:N.Nodup
 pre:N.take P.length=P
 par:∀x∈P,sc.names.lookup x=some .local\/sc.names.lookup x=some .cell
 lK:∀y∈sc.names,y.2≠.free
theorem Fs{kindOf:Str->Option NameKind}{x:Str}:∀{binds:List (Str×Value)} {m:Str->Option Value},(∀v,(x,v)∉binds)->bindL kindOf binds m x=m x
 |[],_,_=>rfl
 |(n,v)::r,m,h=>by
  unfold bindL;rw[Fs λw hw=>h w (aI _ hw)];split
  ·have:x≠n:=by rintro rfl;exact h v aL
   simp[this]
  ·rfl
theorem Fp{kindOf:Str->Option NameKind}{x:Str}:∀{binds:List (Str×Value)} {m:Str->Option Value},(∀v,(x,v)∉binds)->bindC kindOf binds m x=m x
 |[],_,_=>rfl
 |(n,v)::r,m,h=>by
  unfold bindC;rw[Fp λw hw=>h w (aI _ hw)];split
  ·rfl
  ·have:x≠n:=by rintro rfl;exact h v aL
   simp[this]
theorem Fq{kindOf:Str->Option NameKind}{x:Str}{v:Value}:∀{P:List Str} {vs:List Value} {i:Nat} {m:Str->Option Value},P.Nodup->P[i]?=some x->vs[i]?=some v->kindOf x=some .local ->
  bindL kindOf (P.zip vs) m x=some v
 |[],_,_,_,_,h,_,_=>by simp at h
 |_::_,[],_,_,_,_,h,_=>by simp at h
 |p::P,w::vs,0,m,nd,h1,h2,hk=>by
  simp at h1 h2;subst h1;subst h2;show bindL kindOf ((p,w)::P.zip vs) m p=_;unfold bindL;rw[Fs λv hv=>(ei.mp nd).1 (lD hv).1,aJ hk];simp
 |p::P,w::vs,i+1,m,nd,h1,h2,hk=>by
  unfold bindL;exact Fq (ei.mp nd).2 (by simpa using h1) (by simpa using h2) hk
theorem Fo{kindOf:Str->Option NameKind}{x:Str}{v:Value}:∀{P:List Str} {vs:List Value} {i:Nat} {m:Str->Option Value},P.Nodup->P[i]?=some x->vs[i]?=some v->kindOf x≠some .local ->
  bindC kindOf (P.zip vs) m x=some v
 |[],_,_,_,_,h,_,_=>by simp at h
 |_::_,[],_,_,_,_,h,_=>by simp at h
 |p::P,w::vs,0,m,nd,h1,h2,hk=>by
  simp at h1 h2;subst h1;subst h2;show bindC kindOf ((p,w)::P.zip vs) m p=_;unfold bindC;rw[Fp λv hv=>(ei.mp nd).1 (lD hv).1,aB hk];simp
 |p::P,w::vs,i+1,m,nd,h1,h2,hk=>by
  unfold bindC;exact Fo (ei.mp nd).2 (by simpa using h1) (by simpa using h2) hk
def start(N:List Str)(vs:List V):St:=vs.map some++List.replicate (N.length-vs.length) none
def U3(CX:mr)(P:Program)(w:World)(K:PySem.W.Frag)(mg:Str->Option Value)(base:Heap)(N:List Str)(qual:Str)(scope:Scope)(f:Addr)(cd:Value)(A:Around)(outer:List Env)(s:Shared)(H:Hp)(E:XK):Cx where
 prog:=P
 w:=w
 K:=K
 mg:=mg
 base:=base
 A:=A.deeper (envOfC qual scope s.heap.objs.size f cd)
 N:=N
 cV:=s
 iU:=H
 env:=envOfC qual scope s.heap.objs.size f cd
 outer:=outer
 stack:=envOfC qual scope s.heap.objs.size f cd::outer
 ex:=[]
 calm:=true
 fn:=λ_=>true
 pn:=[]
 xe:=λe s'=>wpAny (model P w) (A.deeper (envOfC qual scope s.heap.objs.size f cd)) (leaving (envOfC qual scope s.heap.objs.size f cd) e) (λ_ ny=>CX outer H s E e ny) (λe' ny=>CX outer H s E e' ny) s'
theorem Aq{sc:Scope}{n:Nat}(h:sc.names.lookup x=some .cell):∃c,(cellsFrom n sc.names []).lookup x=some c:=by
 have q:=dk sc.names n [] (.inl h);exact dW.mp q
theorem Vz{mg:Str->Option Value}{qual:Str}{scope:Scope}{cd:Value}{outer:List Env}{s1:Shared}{E:XK}(S:ie N ps scope)(hd:A.handled=none)(e0:qk P w K mg base A outer s H)(hl:vs.length=ps.length)(r:Vals vs us)(x:InCallC s s.heap.objs.size (bindL (envOfC qual scope s.heap.objs.size f cd).kindOf (ps.zip us) λ_=>none) (cellsFrom (s.heap.objs.size+1) scope.names []) (bindC (envOfC qual scope s.heap.objs.size f cd).kindOf (ps.zip us) λ_=>none) s1) :
  Inv (U3 CX P w K mg base N qual scope f cd A outer s H E) [] (start N vs) H s1:=by
 have fN:ps.length<=N.length:=by have:=dM List.length S.pre;grind
 obtain⟨h1,tk,rfl,hk⟩:=x.done;have sU:∀b:Addr,b∉(U3 CX P w K mg base N qual scope f cd A outer s H E).ex:=λb z=>absurd (show b∈([]:List Addr) from z) (by simp);refine ⟨⟨e0.mod,S.kind,rfl,rfl,aj _,λy z c h1 h2=>?_,λy hy=>?_,λy c _ h=>?_,λ_=>hd,Around.frames_deeper e0.frames,.inr ⟨rfl,rfl⟩,λb z=>absurd z (sU b),e0.bs,e0.ml,λb _ _=>sU b,λb z=>absurd z (sU b),e0.E0,e0.mK⟩,
  rfl,e0.bare,Un.kept hk,⟨_,x.toInCall.ns,λi y v h1 h2 h3=>?_⟩,λy c h=>⟨_,x.cell y c h⟩,e0.bB.fresh (aj _),λy c h=>?_,λp hp=>absurd (show p ∈ ([]:List (Addr × Obj)) from hp) (by simp),e0.bB.kept hk,?_,λcL z=>absurd (show (none:Option (List (Option V)))=some cL from z) (by simp)⟩
 ·exact name_of_addr x.apart (aK h1) (aK h2)
 ·rcases hy with hy|hy
  ·exact Aq hy
  ·exact absurd rfl (S.lK _ (aK hy))
 ·exact bX (x.above y c (aK h))
 ·have hi:i<vs.length:=by
   unfold start at h2;by_cases hi:i<vs.length
   ·exact hi
   ·rw[bY (by simpa using hi)] at h2;rw[df] at h2
    simp_all
  have ha:vs[i]?=some v:=by
   unfold start at h2;rw[aA (by simpa using hi),aq] at h2;cases e:vs[i]? with
   |none=>rw[e] at h2;cases h2
   |some a=>rw[e] at h2;cases h2;rfl
  obtain⟨u,hu,rv⟩:=r.get ha;have hp:ps[i]?=some y:=by
   rw[<- S.pre,List.getElem?_take_of_lt ()];exact h1
  have Cm:ps.Nodup:=by rw[<- S.pre];exact S.nd.sublist (List.take_sublist _ _)
  refine⟨u,rv,?_⟩;rcases S.par y (aC hp) with k|k
  ·exact .inl ⟨k,Fq Cm hp hu k⟩
  ·obtain⟨c,e⟩:=Aq k;refine .inr ⟨.inl k,c,e,?_⟩;have q:=x.cell y c e;rw[Fo Cm hp hu (by show scope.names.lookup y≠_;rw[k];decide)] at q;exact q
 ·exact e0.bB.fresh (bX (x.above y c (aK h)))
 ·unfold start;show _=N.length
  simp_all
theorem Mw{mg:Str->Option Value}{name qual:Str}{params:Arguments}{body:List Stmt}{scope:Scope}{dV kV doc pm ft ct oc:Value}{an od:Option Addr}{lJ:Array (Option Value)}(lk:K.lookup f=some ⟨oc,od,.func (PySem.W.fnOf name qual params body scope dV kV doc pm an ft ct),lJ⟩)(kL:PySem.W.codeIn K ft qual=true)(S:ie N ps scope)(len:∀vs H Q E,sp vs H Q E->vs.length=ps.length)(uf:∀ (A:Around) (outer:List Env) (s:Shared) (H:Hp) (vs:List V) (Q:VK) (E:XK),n8 k (A.deeper (envOfC qual scope s.heap.objs.size f ft))->sp vs H Q E ->
   ∃ t,iZ (U3 CX P w K mg base N qual scope f ft A outer s H E) body t/\t { nx:=λ_ H'=>Q .bq H',rt:=Q } (start N vs) H) :
  gH P w K mg base CX (k+1) f (PySem.W.fnOf name qual params body scope dV kV doc pm an ft ct) ps sp:=by
 refine⟨len,λA outer s H args us vs Q E hr e0 hb r qW=>?_⟩;have hl:=len _ _ _ _ qW;have KX:=e0.mod.mB.keeps λb o e=>(e0.bs b o e).1;have lim:=e0.mod.nolimit.keeps λb o e=>(e0.bs b o e).1;have tW:∀y∈ps.zip us,scope.names.lookup y.1=some .local\/(scope.names.lookup y.1=some .cell/\((cellsFrom (s.heap.objs.size+1) scope.names []).lookup y.1).isSome=true):=λ⟨n,v⟩ hy=>by
  rcases S.par n (lD hy).1 with q|q
  ·exact .inl q
  ·exact .inr ⟨q,dk _ _ _ (.inl q)⟩
 refine codeAny_call_function hr.depth (KX _ _ lk) rfl S.co S.gen rfl (PySem.W.codeRec_of KX kL) (hb _ _ _ _ ?_);refine wpAny_newFunctionEnv_cells S.kind tW λenv he s1 x=>?_;subst he;refine⟨lim.keeps x.toInCall.keep,codeAny_func ?_⟩;obtain⟨t,ht,hq⟩:=uf A outer s H vs Q E (hr.deeper _) qW;have I:Inv (U3 CX P w K mg base N qual scope f ft A outer s H E) [] (start N vs) H s1:=Vz S hr.hd e0 hl r x;refine bK (ht [] s1 (start N vs) H _ I hq) (λfl s' hs=>?_) λe s' hs=>hs;have fin:∀{cb:St} {H':Hp} {v:V} {u:Value},Inv (U3 CX P w K mg base N qual scope f ft A outer s H E) [] cb H' s'->RelV v u->Q v H'->CE outer P w H s Q u s' :=
  λ{cb H' v u} J rv q=>⟨v,H',J.os,J.bare,J.base,J.bB,rv,q⟩
 cases fl with
 |ret u =>
  obtain⟨v,cb,H',J,rv,q⟩:=hs;exact fin J rv q
 |next =>
  obtain⟨cb,H',J,q⟩:=hs;exact fin (v:=V.bq) J rfl q
 |brk =>
  obtain⟨_,_,_,q⟩:=hs
  simp_all
 |cont =>
  obtain⟨_,_,_,q⟩:=hs
  simp_all
section
variable{id T:String}{r:List V->Hp->VK->Prop}
def qO(r:List V->Hp->VK->Prop)(t:TA):TE:=λZ H Q=>t Z H λvs H1=>r vs H1 Q
theorem T2(hc:j8 X (.builtin id) r)(hg:Gl X x)(hm:X.mg x=none)(hv:bootBuiltins x=some (.builtin id))(ha:PA X (e::es) t)(hn:x≠"__name__":=by decide)(gp:(x==("__debug__":Str))=false:=by decide)(he:starEach (e::es) X.env=(false,eval e X.env)::starEach es X.env:=by rfl)(fN:(backTo pos (starEach es X.env)).any (·.1)=false:=by rfl):PE X (.Call (.Name x p) (e::es) [] pos) (qO r t):=by
 intro pins s Z H Q I h;refine bV (C5 I hg hm hv ?_ hn gp);exact PyProof.Rows.callWith_builtin1 (cJ (ha pos pins s Z H _ I h) λus s1 ⟨vs,H1,I1,r1,q1⟩=>hc pins s1 Z H1 vs us Q I1 r1 q1) he fN
theorem E4(hc:j8 X (.type T) r)(hg:Gl X x)(hm:X.mg x=none)(hv:bootBuiltins x=some (.type T))(ha:PA X (e::es) t)(hn:x≠"__name__":=by decide)(gp:(x==("__debug__":Str))=false:=by decide)(he:starEach (e::es) X.env=(false,eval e X.env)::starEach es X.env:=by rfl)(fN:(backTo pos (starEach es X.env)).any (·.1)=false:=by rfl):PE X (.Call (.Name x p) (e::es) [] pos) (qO r t):=by
 intro pins s Z H Q I h;refine bV (C5 I hg hm hv ?_ hn gp);exact bS (cJ (ha pos pins s Z H _ I h) λus s1 ⟨vs,H1,I1,r1,q1⟩=>hc pins s1 Z H1 vs us Q I1 r1 q1) he fN
end
end L2
namespace HT
open PySem PyProof.Rows
def iV(n d:Nat):Option Int->Nat
 |none=>d
 |some v=>if v<0 then(v+(n:Int)).toNat else min v.toNat n
end HT
namespace L2
open PySem PySem.Spec PyProof.Rows
variable{X:Cx}{e:Expr}{pos:Pos}{n t':Nat}{α:Type}{a:Addr}{pins:List (Addr×Obj)}{Z:St}{H H':Hp}{s:Shared}{aV:List Value}{o:Option V}{w:World}{A:Around}{E:Value->Shared->Prop}{u:Value}{kvs:List (List Key×V)}{y:V}{P:Program}
noncomputable abbrev TO:=St->Hp->(Option Int->Hp->Prop)->Prop
def PO(X:Cx)(e:Option Expr)(t:TO):Prop :=
 ∀(pins:List (Addr×Obj)) (s:Shared) (Z:St) (H:Hp) (Q:Option Int->Hp->Prop),Inv X pins Z H s->t Z H Q ->
  wpAny (model X.prog X.w) X.A (evalPart e X.env) (λu s'=>∃o H',Inv X pins Z H' s'/\IsPart u o/\Q o H') X.xe s
def Yp:TO:=λ_ H Q=>Q none H
def NI(t:TE):TO:=λZ H Q=>t Z H λx H1=>∃i,x=.int i/\Q (some i) H1
section
variable{te:TE}{lo hi:Option Expr}{tl th:TO}{p2:Pos}
theorem Es:PO X none Yp:=by
 intro pins s Z H Q I h;exact af ⟨none,H,I,.none,h⟩
theorem Et(h:PE X e te):PO X (some e) (NI te):=by
 intro pins s Z H Q I hw;refine cJ (h pins s Z H _ I hw) λu s1 bp=>?_;obtain⟨x,H1,I1,r1,q1⟩:=bp;obtain⟨i,rfl,q⟩:=q1;obtain⟨t,rfl⟩:=r1;exact⟨some i,H1,I1,.int i t,q⟩
def Br(X:Cx)(r:V->Option Int->Option Int->Hp->VK->Prop):Prop :=
 ∀(pins:List (Addr×Obj)) (s:Shared) (Z:St) (H:Hp) (x:V) (v vl vu:Value) (lo hi:Option Int) (sl:Addr) (Q:VK),Inv X pins Z H s->RelV x v->s.heap.IsSliceOf sl vl vu .none->IsPart vl lo->IsPart vu hi->r x lo hi H Q ->
  ∃T id,typeLookup (.type T) "__getitem__"=pure (some (.builtin id))/\s.TypeIs v T/\wpAny (model X.prog X.w) X.A (getItem v (.ref sl)) (EP X pins Z Q) X.xe s
def IH(r:V->Option Int->Option Int->Hp->VK->Prop)(te:TE)(tl th:TO):TE:=λZ H Q=>te Z H λx H1=>tl Z H1 λl H2=>th Z H2 λu H3=>r x l u H3 Q
theorem EY{r:V->Option Int->Option Int->Hp->VK->Prop}(hr:Br X r)(he:PE X e te)(hl:PO X lo tl)(hu:PO X hi th):PE X (.Subscript e (.Slice lo hi none p2) pos) (IH r te tl th):=by
 intro pins s Z H Q I h;refine Subscript_ (cJ (he pins s Z H _ I h) λv s1 bp=>?_);obtain⟨x,H1,I1,r1,q1⟩:=bp;refine wpAny_Slice (cJ (hl pins s1 Z H1 _ I1 q1) λvl s2 ⟨l,H2,I2,pl,q2⟩=>cJ (hu pins s2 Z H2 _ I2 q2) λvu s3 bp=>?_);obtain⟨u,H3,I3,pu,q3⟩:=bp;refine af ?_;have I4:Inv X pins Z H3 { s3 with heap:=s3.heap.push { cls:=.type "slice",data:=.fields #[vl,vu,.none] } }:=I3.kept (t':=s3.toks) λb ob q=>ah _ q;obtain⟨T,id,hT,ht,hg⟩:=hr pins { s3 with heap:=s3.heap.push { cls:=.type "slice",data:=.fields #[vl,vu,.none] } } Z H3 x v vl vu l u s3.heap.objs.size Q I4 r1 (Heap.IsSliceOf.new ..) pl pu q3;exact tail_any ht hT hg (by rfl)
def uN(xs:List V)(lo hi:Option Int):List V:=(xs.drop (HT.iV xs.length 0 lo)).take (HT.iV xs.length xs.length hi-HT.iV xs.length 0 lo)
theorem Sq(xs:List V)(lo hi:Option Int):(uN xs lo hi).length<=xs.length:=by
 unfold uN;rw[bE,ZD];omega
end
def jS(n:Nat)(i:Int):Option Nat:=if 0<=i then(if i<n then some i.toNat else none) else if -(n:Int)<=i then some (i+n).toNat else none
def fU{α:Type}(xs:List α)(i:Int):Option α:=(jS xs.length i).bind λj=>xs[j]?
theorem Hq{i:Int}{j:Nat}(h:jS n i=some j):seqIndex? i n=some j/\j<n/\-(n:Int)<=i/\i<n:=by
 unfold jS at h;by_cases h0:0<=i
 ·rw[aJ h0] at h;by_cases h1:i<n
  ·rw[aJ h1] at h;have e:=aF h;exact⟨by rw[seqIndex_of h0 h1,e],by omega,by omega,h1⟩
  simp_all
 ·rw[aB h0] at h;by_cases h1:-(n:Int)<=i
  ·rw[aJ h1] at h;have e:=aF h;exact⟨by rw[Zw () h1,e],by omega,h1,by omega⟩
  simp_all
theorem He{xs:List α}{i:Int}{v:α}(h:fU xs i=some v):∃j,seqIndex? i xs.length=some j/\xs[j]?=some v/\j<xs.length/\-(xs.length:Int)<=i/\i<xs.length:=by
 unfold fU at h;cases e:jS xs.length i with
 |none=>simp_all
 |some j =>
  rw[e] at h;obtain⟨h1,h2,h3,h4⟩:=Hq e;exact⟨j,h1,h,h2,h3,h4⟩
theorem t6{xs:List α}{j:Nat}{v:α}(h:xs[j]?=some v):fU xs (j:Int)=some v:=by
 have hj:=(ay.mp h).1;have e:jS xs.length (j:Int)=some j:=by
  unfold jS
  simp_all
 unfold fU;rw[e];exact h
def Aa(b:Expr):Prop:=∀o i,subscripted b false o i=operate [o,i] (getItem o i)
def qy(X:Cx)(r:R2):Prop :=
 ∀(value slice:Expr) (pins:List (Addr×Obj)) (s:Shared) (Z:St) (H:Hp) (x y:V) (v u:Value) (Q:VK),Inv X pins Z H s->RelV x v->RelV y u->r x y H Q ->
  subscripted slice false v u=operate [v,u] (getItem v u)->wpAny (model X.prog X.w) X.A (subscriptTail value slice v u) (EP X pins Z Q) X.xe s
def mQ(X:Cx)(id:String)(r:V->List V->Hp->VK->Prop):Prop :=
 ∀(pins:List (Addr×Obj)) (s:Shared) (Z:St) (H:Hp) (x:V) (xs:List V) (v:Value) (us:List Value) (Q:VK),Inv X pins Z H s->RelV x v->Vals xs us->r x xs H Q ->
  wpAny (model X.prog X.w) X.A (call (.builtin id) (v::us)) (EP X pins Z Q) X.xe s
section
variable{a b:Expr}{ta tb:TE}
theorem HK{r:R2}(hr:qy X r)(ha:PE X a ta)(hb:PE X b tb)(hs:Aa b):PE X (.Subscript a b pos) (qN r ta tb):=by
 intro pins s Z H Q I h;exact Subscript_ (Bq ha hb I h λv u s2 x y H2 I2 rx ry q=>hr a b pins s2 Z H2 x y v u Q I2 rx ry q (hs _ _))
def RQ(K:PySem.W.Frag):R2:=λx y H Q=>∃p xs i v,x=.ref p/\y=.int i/\fu K H p xs/\fU xs i=some v/\Q v H
def RS(K:PySem.W.Frag):R2:=λx y H Q=>∃p xs i v,x=.ref p/\y=.int i/\gM K H p xs/\fU xs i=some v/\Q v H
theorem QU:qy X (RQ X.K):=by
 intro value slice pins s Z H x y v u Q I rx ry h hs;obtain⟨p,xs,i,z,rfl,rfl,hq,he,q⟩:=h;cases rx;obtain⟨t,rfl⟩:=ry;obtain⟨aV,r,pl,hz⟩:=I.list hq;obtain⟨j,h1,h2,h3,h4,h5⟩:=He he;obtain⟨w,ew,fj⟩:=r.get h2;have hl:=r.length;have hn:=wB;have fin:EP X pins Z Q w s:=⟨z,H,I,fj,q⟩
 by_cases h0:0<=i
 ·have hj:i.toNat=j:=by
   rw[seqIndex_of h0 h5] at h1;exact aF h1
  exact item_listR pl.isList h0 () (by rw[hj];simpa using ew) fin hs
 ·have hj:(i+(aV.toArray.size:Int)).toNat=j:=by
   rw[Zw () h4] at h1;rw[aG,<- hl];exact aF h1
  exact subscriptTail_builtinR pl.isList.typeIs slot_list_getitem.lookup
   (wpAny_getItem_list_neg pl.isList () (by rw[aG]<;>omega) () (by rw[hj];simpa using ew) ⟨rfl,fin⟩) hs
theorem Ou:qy X (RS X.K):=by
 intro value slice pins s Z H x y v u Q I rx ry h hs;obtain⟨p,xs,i,z,rfl,rfl,hq,he,q⟩:=h;cases rx;obtain⟨t,rfl⟩:=ry;obtain⟨aV,r,pl,hz⟩:=I.tuple hq;obtain⟨j,h1,h2,h3,h4,h5⟩:=He he;obtain⟨w,ew,fj⟩:=r.get h2;have hl:=r.length;have hn:=wB;have fin:EP X pins Z Q w s:=⟨z,H,I,fj,q⟩
 exact subscriptTail_builtinR pl.typeIs slot_tuple_getitem.lookup
  (getItem_tuple pl () () (by rw[aG,<- hl];exact h1) (by simpa using ew) ⟨rfl,fin⟩) hs
theorem WQ(aV:List Value)(n j:Nat)(u:Value):Obj.mapSeq (·.setIfInBounds j u) { cls:=.type "list",data:=.seq aV.toArray n }={ cls:=.type "list",data:=.seq (aV.set j u).toArray n }:=by
 simp[Obj.mapSeq]
theorem Inv.lst{pins:List (Addr×Obj)}{Z:St}{H:Hp}{s:Shared}{p:Addr}{xs:List V}(I:Inv X pins Z H s)(h:H p=some (.lst xs)) :
  ∃(aV:List Value) (n:Nat),Vals xs aV/\s.heap.get? p=some { cls:=.type "list",data:=.seq aV.toArray n }/\xs.length<=sizeLine:=by
 obtain⟨z,aV,n,r,e⟩:=I.bB p _ h;exact⟨aV,n,r,e,z⟩
theorem Inv.OF{p:Addr}{xs ys:List V}{its':List Value}{n':Nat}{f:Obj->Obj}(I:Inv X pins Z H s)(h:H p=some (.lst xs))(ho:s.heap.get? p=some { cls:=.type "list",data:=.seq aV.toArray n })(hf:f { cls:=.type "list",data:=.seq aV.toArray n }={ cls:=.type "list",data:=.seq its'.toArray n' })(r:Vals ys its')(hz:ys.length<=sizeLine)(t:Nat) :
  Inv X pins Z (upd H p (.lst ys)) { s with heap:=s.heap.update p f,toks:=t }:=by
 have e:(s.heap.update p f).get? p=some { cls:=.type "list",data:=.seq its'.toArray n' }:=by
  rw[aN f ho (by rw[hf]<;>rfl),hf]
 refine I.write (by rw[h];trivial) (.inl rfl) (λb u hb q=>(bJ _ _ (bW hb)).trans q) ⟨_,e⟩ ?_;exact⟨hz,its',n',r,e⟩
def Nu:V->V->V->Hp->(Hp->Prop)->Prop:=λo i v H Q=>∃p xs k j,o=.ref p/\i=.int k/\H p=some (.lst xs)/\jS xs.length k=some j/\Q (upd H p (.lst (xs.set j v)))
theorem set_list:Bn X Nu:=by
 intro pins s Z H o i v ov iv u Q I ro ri rv h;obtain⟨p,xs,k,j,rfl,rfl,hp,hj,q⟩:=h;cases ro;obtain⟨t,rfl⟩:=ri;obtain⟨aV,n,r,ho,hz⟩:=I.lst hp;obtain⟨h1,h2,h3,h4⟩:=Hq hj;have hl:=r.length;have hn:=wB;have I':Inv X pins Z (upd H p (.lst (xs.set j v))) { s with heap:=s.heap.update p (Obj.mapSeq (·.setIfInBounds j u)) } :=
  I.OF hp ho (WQ aV n j u) (r.set rv j) (by rw[List.length_set];exact hz) s.toks
 by_cases h0:0<=k
 ·have hk:k.toNat=j:=by
   rw[seqIndex_of h0 h4] at h1;exact aF h1
  exact PySem.W.ki_setAt ho h0 () (by rw[aG,<- hl];exact h4) (by rw[hk];exact⟨_,I',q⟩)
 ·have hk:(k+(aV.toArray.size:Int)).toNat=j:=by
   rw[Zw () h3] at h1;rw[aG,<- hl];exact aF h1
  exact PySem.W.ki_setBack ho () (by rw[aG,<- hl];exact h3) () (by rw[hk];exact⟨_,I',q⟩)
theorem Ta(lo hi:Option Int)(n:Nat):(sliceBounds lo hi none n).1=((HT.iV n 0 lo:Nat):Int)/\(sliceBounds lo hi none n).2.1=((HT.iV n n hi:Nat):Int)/\(sliceBounds lo hi none n).2.2=1:=by
 refine⟨?_,?_,rfl⟩
 ·cases lo with
  |none=>rfl
  |some i =>
   simp only[sliceBounds,HT.iV,Option.getD_none,show(1:Int)>0 by decide,if_true]
   grind
 ·cases hi with
  |none=>rfl
  |some i =>
   simp only[sliceBounds,HT.iV,Option.getD_none,show(1:Int)>0 by decide,if_true]
   grind
theorem Tp(aV:List Value)(lo hi:Option Int):slicePick aV.toArray lo hi none=((aV.drop (HT.iV aV.length 0 lo)).take (HT.iV aV.length aV.length hi-HT.iV aV.length 0 lo)).toArray:=by
 obtain⟨h1,h2,h3⟩:=Ta lo hi aV.toArray.size;unfold slicePick;rw[h1,h2,h3];simp only[sliceRange_one,pick_run,List.size_toArray]<;>rfl
def RV(K:PySem.W.Frag):V->Option Int->Option Int->Hp->VK->Prop:=λx lo hi H Q=>∃a xs,x=.ref a/\fu K H a xs/\∀p,H p=none->Q (.ref p) (upd H p (.lst (uN xs lo hi)))
theorem Yk:Br X (RV X.K):=by
 intro pins s Z H x v vl vu lo hi sl Q I rx hs pl pu h;obtain⟨a,xs,rfl,hx,q⟩:=h;cases rx;obtain⟨aV,r,ht,hz⟩:=I.list hx;have hlen:=r.length;refine⟨"list",_,slot_list_getitem.lookup,ht.isList.typeIs,?_⟩;refine wpAny_getItem_list_slice ht.isList hs pl pu .none (by simp) ?_ (by grind);rw[Tp,<- hlen];refine⟨.ref s.heap.objs.size,_,I.laid (t':=s.toks) (λb ob q=>ah _ q) (aj _) ?_,rfl,q _ (I.bB.fresh (aj _))⟩;exact⟨aE (Sq xs lo hi) hz,_,0,(r.drop (HT.iV xs.length 0 lo)).take (HT.iV xs.length xs.length hi-HT.iV xs.length 0 lo),aw _ rfl⟩
def Du:V->V->Bool
 |.bq,.bq=>true
 |.bl a,.bl b=>a==b
 |.bl a,.int b=>(if a then 1 else 0)==b
 |.int a,.bl b=>a==(if b then 1 else 0)
 |.int a,.int b=>a==b
 |.str a,.str b=>a==b
 |_,_=>false
theorem SN:j8 X (.builtin "len") (λxs H Q=>∃p ys,xs=[.ref p]/\(fu X.K H p ys\/gM X.K H p ys)/\Q (.int ys.length) H):=by
 intro pins s Z H xs us Q I r h;obtain⟨p,ys,rfl,hq,q⟩:=h;obtain⟨u,rfl,rx⟩:=vals1 r;cases rx;have hn:=wB;rcases hq with hq|hq
 ·obtain⟨aV,r',pl,hz⟩:=I.list hq;have hlen:=r'.length;exact Calls.call_len_list pl.isList (by simp only[List.size_toArray]<;>omega) ⟨.int ys.length,H,I.tok _,⟨s.toks+1,by rw[aG,hlen]⟩,q⟩
 ·obtain⟨aV,r',pl,hz⟩:=I.tuple hq;have hlen:=r'.length;exact len_tuple pl (by simp only[List.size_toArray]<;>omega) ⟨.int ys.length,H,I.tok _,⟨s.toks+1,by rw[aG,hlen]⟩,q⟩
theorem SO:j8 X (.type "list") (λxs H Q=>∃p ys,xs=[.ref p]/\(fu X.K H p ys\/gM X.K H p ys)/\∀l,H l=none->Q (.ref l) (upd H l (.lst ys))):=by
 intro pins s Z H xs us Q I r h;obtain⟨p,ys,rfl,hq,q⟩:=h;obtain⟨u,rfl,rx⟩:=vals1 r;cases rx;have fin:∀(aV:List Value),Vals ys aV->ys.length<=sizeLine->∀(h':Heap) (c':Nat),(∀b o',s.heap.get? b=some o'->h'.get? b=some o') ->
   h'.get? s.heap.objs.size=some { cls:=.type "list",dict:=none,data:=.seq aV.toArray c',slots:=#[] }->EP X pins Z Q (.ref s.heap.objs.size) { s with heap:=h' }:=λaV r' hz h' c' kp e =>
  ⟨.ref s.heap.objs.size,_,I.laid (t':=s.toks) kp (aj _) (show j5 X.prog X.w _ h' _ (.lst ys) from⟨hz,aV,c',r',e⟩),rfl,q _ (I.bB.fresh (aj _))⟩
 rcases hq with hq|hq
 ·obtain⟨aV,r',pl,hz⟩:=I.list hq;have hlen:=r'.length;obtain⟨o,ho,hc,n,hd⟩:=pl.isList;exact call_list_seq p (.inl rfl) ho hc hd (λh' c' kp e=>fin aV r' hz h' c' kp e) (by simp_all)
 ·obtain⟨aV,r',pl,hz⟩:=I.tuple hq;have hlen:=r'.length;obtain⟨o,ho,hc,n,hd⟩:=pl;exact call_list_seq p (.inr rfl) ho hc hd (λh' c' kp e=>fin aV r' hz h' c' kp e) (by simp_all)
theorem Th:j8 X (.type "tuple") (λxs H Q=>∃p ys,xs=[.ref p]/\((fu X.K H p ys/\∀l,H l=none->Q (.ref l) (upd H l (.tup ys)))\/(gM X.K H p ys/\Q (.ref p) H))):=by
 intro pins s Z H xs us Q I r h;obtain⟨p,ys,rfl,h⟩:=h;obtain⟨u,rfl,rx⟩:=vals1 r;cases rx;rcases h with⟨hq,q⟩|⟨hq,q⟩
 ·obtain⟨aV,r',pl,hz⟩:=I.list hq;have hlen:=r'.length;refine call_tuple_list pl.isList (λh' kp=>?_) (by simp_all);have I1:=I.kept (t':=s.toks) kp;have I2:Inv X pins Z (upd H h'.objs.size (.tup ys)) { s with heap:=h'.push { cls:=.type "tuple",data:=.seq aV.toArray } } :=
   I1.laid (t':=s.toks) (λb o e=>ah _ e) (aj _) (show j5 X.prog X.w _ _ _ (.tup ys) from⟨hz,aV,r',S4.new _ _⟩)
  exact⟨.ref h'.objs.size,_,I2,rfl,q _ (I1.bB.fresh (aj _))⟩
 ·obtain⟨aV,r',pl,hz⟩:=I.tuple hq;exact call_tuple_same pl ⟨.ref p,H,I,rfl,q⟩
def mx(K:PySem.W.Frag)(T:String)(x:V)(H:Hp):Prop:=match x with
 |.str _=>T="str"
 |.int _=>T="int"
 |.ref p=>(T="list"/\∃xs,fu K H p xs)\/(T="tuple"/\∃o,K.lookup p=some o/\o.cls=.type "tuple"/\o.dict=none) \/
   (T="dict"/\((∃kvs,H p=some (.dK kvs))\/(∃kvs,H p=some (.dT kvs))\/∃φ,H p=some (.ext φ)/\∀h,φ h->∃o,h.get? p=some o/\o.ExactDict))\/(T="set"/\∃S n,H p=some (.set S n))
 |_=>False
theorem Ha{T:String}{x:V}{v:Value}(I:Inv X pins Z H s)(r:RelV x v)(ty:mx X.K T x H) :
  s.TypeIs v T/\∀a,v=.ref a->∃ob,s.heap.get? a=some ob/\ob.dict=none:=by
 cases x with
 |str z =>
  obtain⟨t,rfl⟩:=r;cases (show T="str" from ty);exact⟨typeIs_str s z t,λ_ e=>nomatch e⟩
 |int i =>
  obtain⟨t,rfl⟩:=r;cases (show T="int" from ty);exact⟨typeIs_int s i t,λ_ e=>nomatch e⟩
 |ref p =>
  cases r;rcases ty with⟨rfl,xs,hq⟩|⟨rfl,o,hk,hc,hd⟩|⟨rfl,hk⟩|⟨rfl,S,n,hk⟩
  ·obtain⟨aV,_,pl,_⟩:=I.list hq;refine⟨pl.isList.typeIs,λa e=>?_⟩;cases e;obtain⟨o,n,e,c,hd,_⟩:=pl;exact⟨o,e,hd⟩
  ·refine⟨⟨o,I.gj p o hk,hc⟩,λa e=>?_⟩;cases e;exact⟨o,I.gj _ o hk,hd⟩
  ·have z:∃o,s.heap.get? p=some o/\o.ExactDict:=by
    rcases hk with⟨kvs,hk⟩|⟨kvs,hk⟩|⟨φ,hk,hd⟩
    ·obtain⟨_,_,_,_,o,_,_,e,ex,_⟩:=I.bB p _ hk;exact⟨o,e,ex⟩
    ·obtain⟨_,_,_,_,o,_,_,e,ex,_⟩:=I.bB p _ hk;exact⟨o,e,ex⟩
    ·exact hd _ (I.bB p _ hk).1
   obtain⟨o,e,ex⟩:=z;refine⟨⟨o,e,ex.1⟩,λa e2=>?_⟩;cases e2;exact⟨o,e,ex.2.1⟩
  ·obtain⟨o,_,_,_,e,ex,_⟩:=I.bB p _ hk;refine⟨⟨o,e,ex.1⟩,λa e2=>?_⟩;cases e2;exact⟨o,e,ex.2.1⟩
 |_=>exact False.elim ty
def Lx(K:PySem.W.Frag)(T:String)(r:V->List V->Hp->VK->Prop)(to:TE):TE:=λZ H Q=>to Z H λx H1=>mx K T x H1/\r x [] H1 Q
def IL(K:PySem.W.Frag)(T:String)(r:V->List V->Hp->VK->Prop)(to:TE)(t:TA):TE:=λZ H Q=>to Z H λx H1=>mx K T x H1/\t Z H1 λxs H2=>r x xs H2 Q
variable{o:Expr}{es:List Expr}{to:TE}{t:TA}{name:Str}{apos ff:Pos}{T id:String}{r:V->List V->Hp->VK->Prop}
theorem Pc(pa:PlainAttrs T)(slot:Slot T name id)(iW:typeOf (.builtin id)=pure (.type "method_descriptor"))(hm:mQ X id r)(ho:PE X o to)(iz:attributeBase o name X.env (eval o X.env)=eval o X.env:=by rfl)(iy:(apos.endLine==ff.line)=true:=by rfl):PE X (.Call (.Attribute o name apos) [] [] ff) (Lx X.K T r to):=by
 intro pins s Z H Q I h;refine wpAny_Call_method0_late iz iy (cJ (ho pins s Z H _ I h) λv s1 bp=>?_);obtain⟨x,H1,I1,r1,ty,q1⟩:=bp;obtain⟨h1,h2⟩:=Ha I1 r1 ty;exact⟨T,id,pa,slot,iW,h1,h2,ZG rfl (PySem.evalArgs_none (hm pins s1 Z H1 x [] v [] Q I1 r1 .nil q1))⟩
theorem Nl(pa:PlainAttrs T)(slot:Slot T name id)(iW:typeOf (.builtin id)=pure (.type "method_descriptor"))(hm:mQ X id r)(ho:PE X o to)(ha:PA X (e::es) t)(iz:attributeBase o name X.env (eval o X.env)=eval o X.env:=by rfl)(pS:((backTo ff (starEach (e :: es) X.env)).all (λx=>!x.1) && (backToKw ff (keywordEach [] X.env)).all (λx=>x.1.isSome)
   && decide ((e :: es).length + ([]:List Keyword).length + (if ([]:List Keyword).isEmpty then 0 else 1) < 30))=true:=by rfl)(iy:(apos.endLine==ff.line)=true:=by rfl)(hs:starEach (e::es) X.env=(false,eval e X.env)::starEach es X.env:=by rfl)(fM:(backTo ff (starEach es X.env)).any (·.1)=false:=by rfl) :
  PE X (.Call (.Attribute o name apos) (e::es) [] ff) (IL X.K T r to t):=by
 intro pins s Z H Q I h;refine wpAny_Call_method_late iz pS iy rfl (cJ (ho pins s Z H _ I h) λv s1 bp=>?_);obtain⟨x,H1,I1,r1,ty,q1⟩:=bp;obtain⟨h1,h2⟩:=Ha I1 r1 ty;refine⟨T,id,pa,slot,iW,h1,h2,?_⟩;have hA:=ha ff pins s1 Z H1 _ I1 q1;rw[hs] at hA ⊢;refine ZG (by show(false||(backTo ff (starEach es X.env)).any (·.1))=false;rw[fM]<;>rfl) (Calls.evalArgs_plain ?_);exact cJ hA λus s2 ⟨vs,H2,I2,r2,q2⟩=>hm pins s2 Z H2 x vs v us Q I2 r1 r2 q2
end
def HZ(X:Cx)(id:String)(r:V->List V->Hp->VK->Prop):Prop :=
 ∀(pins:List (Addr×Obj)) (s:Shared) (Z:St) (H:Hp) (x:V) (xs:List V) (v:Value) (us:List Value) (Q:VK),Inv X pins Z H s->RelV x v->Vals xs us->r x xs H Q ->
  wpAny (model X.prog X.w) X.A (call (.builtin id) (v::us)) (EP X pins Z Q) X.xe s
theorem Vals.one{x:V}{us:List Value}(h:Vals [x] us):∃u,us=[u]/\RelV x u:=by
 cases h with
 |cons r h =>
  cases h;exact⟨_,rfl,r⟩
theorem Vals.zero:∀{us:List Value},Vals [] us->us=[]
 |_,.nil=>rfl
theorem Vals.eraseIdx:∀{xs:List V} {us:List Value} (i:Nat),Vals xs us->Vals (xs.eraseIdx i) (us.eraseIdx i)
 |_,_,_,.nil=>.nil
 |_,_,0,.cons _ t=>t
 |_,_,i+1,.cons r t=>.cons r (Vals.eraseIdx i t)
theorem Vals.reverse{xs:List V}{us:List Value}(h:Vals xs us):Vals xs.reverse us.reverse:=by
 induction h with
 |nil=>exact .nil
 |cons r t ih=>rw[fQ,fQ];exact Vals.append ih (.cons r .nil)
theorem Vals.rep{xs:List V}{us:List Value}(h:Vals xs us):∀k:Nat,Vals (List.replicate k xs).flatten (List.replicate k us).flatten
 |0=>.nil
 |k+1=>by
  exact Vals.append h (Vals.rep h k)
theorem FC{α:Type}:∀(l:List α) (i:Nat),(l.eraseIdx i).length<=l.length
 |[],_=>aj _
 |_::_,0=>kO _
 |_::r,i+1=>Nat.succ_le_succ (FC r i)
theorem foldl_rep(aV:List Value):∀(k:Nat) (acc:List Value),
  List.foldl (λx1 x2=>x1++x2) acc.toArray (List.replicate k aV.toArray)=(acc++(List.replicate k aV).flatten).toArray
 |0,acc=>by simp
 |k+1,acc=>by
  have e:acc.toArray++aV.toArray=(acc++aV).toArray:=by simp
  have e2:(acc++aV)++(List.replicate k aV).flatten=acc++(List.replicate (k+1) aV).flatten:=by
   rw[Bz,List.flatten_cons,fS]
  rw[<- e2,<- foldl_rep aV k (acc++aV),<- e,Bz,List.foldl_cons]
section
variable{l:Addr}{xs ys:List V}
theorem Inv.rH{its':List Value}{f:Array Value->Array Value}{t':Nat}(I:Inv X pins Z H s)(hH:H l=some (.lst xs))(e:s.heap.get? l=some { cls:=.type "list",data:=.seq aV.toArray n })(hf:f aV.toArray=its'.toArray)(hv:Vals ys its')(hz:ys.length<=sizeLine) :
  Inv X pins Z (upd H l (.lst ys)) { s with heap:=s.heap.update l (Obj.mapSeq f),toks:=t' }:=by
 have q:=Zy e f;rw[hf] at q;refine I.write (by rw[hH];exact trivial) (.inl rfl) (λb' u hb hu=>(bJ s.heap (Obj.mapSeq f) (bW hb)).trans hu) ⟨_,q⟩ ?_;exact⟨hz,its',_,hv,q⟩
theorem Inv.DZ{t':Nat}(I:Inv X pins Z H s)(hv:Vals ys aV)(hz:ys.length<=sizeLine) :
  Inv X pins Z (upd H s.heap.objs.size (.lst ys)) { s with heap:=s.heap.push { cls:=.type "list",data:=.seq aV.toArray },toks:=t' } :=
 I.laid (λ_ _ q=>ah _ q) (aj _) ⟨hz,aV,0,hv,aw _ rfl⟩
theorem Inv.fresh(I:Inv X pins Z H s):H s.heap.objs.size=none:=I.bB.fresh (aj _)
theorem Inv.uO(I:Inv X pins Z H s)(hH:H l=some (.lst xs)):xs.length<=sizeLine/\∃(aV:List Value) (n:Nat),Vals xs aV/\xs.length=aV.length/\s.heap.get? l=some { cls:=.type "list",data:=.seq aV.toArray n }:=by
 obtain⟨z,aV,n,r,e⟩:=I.bB l _ hH;exact⟨z,aV,n,r,r.length,e⟩
theorem Uh(h:n<=sizeLine):Builtin.List.listTooLong n=false:=by
 unfold Builtin.List.listTooLong
 simp_all
end
def XR:V->List V->Hp->VK->Prop:=λx vs H Q=>∃l xs y,x=.ref l/\vs=[y]/\H l=some (.lst xs)/\xs.length<sizeLine/\Q .bq (upd H l (.lst (xs++[y])))
theorem VJ:HZ X "list.append" XR:=by
 intro pins s Z H x vs v us Q I rx rv h;obtain⟨l,xs,y,rfl,rfl,hH,hz,q⟩:=h;cases rx;obtain⟨u,rfl,ru⟩:=rv.one;obtain⟨z,aV,n,r,hl,e⟩:=I.uO hH;refine lB F.slot_list_append ⟨_,e,rfl⟩ F.entry_list_append (F.args_list_append_2 _ _) (YB l aV.toArray n u (by grind)) ⟨e,?_⟩;refine⟨.bq,_,I.rH (its':=aV++[u]) hH e (by simp) (r.append (.cons ru .nil)) ?_,rfl,q⟩
 grind
def PJ:V->List V->Hp->VK->Prop:=λx vs H Q=>∃l xs i k y,x=.ref l/\vs=[.int i]/\H l=some (.lst xs)/\-(2 ^ 63)<=i/\i<2 ^ 63/\seqIndex? i xs.length=some k/\xs[k]?=some y/\Q y (upd H l (.lst (xs.eraseIdx k)))
theorem Ud:HZ X "list.pop" PJ:=by
 intro pins s Z H x vs v us Q I rx rv h;obtain⟨l,xs,i,k,y,rfl,rfl,hH,h1,h2,hk,hy,q⟩:=h;cases rx;obtain⟨u,rfl,ru⟩:=rv.one;obtain⟨t,rfl⟩:=ru;obtain⟨z,aV,n,r,hl,e⟩:=I.uO hH;obtain⟨w,hw,fj⟩:=r.get hy;refine lB F.slot_list_pop ⟨_,e,rfl⟩ F.entry_list_pop (F.args_list_pop_2 _ _)
  (MeetsSeq.list_pop_at l aV.toArray n i t k w (fitsIndex_both h1 h2) (by rw[aG,<- hl];exact hk) (by simp_all) (by rw[aG];omega)) ⟨e,?_⟩
 refine⟨y,_,I.rH (its':=aV.eraseIdx k) hH e ?_ (r.eraseIdx k) ?_,fj,q⟩
 ·simp
 ·have:=FC xs k;omega
def RP:R2:=λx y H Q=>∃l b xs zs,x=.ref l/\y=.ref b/\H l=some (.lst xs)/\H b=some (.lst zs)/\xs.length+zs.length<=sizeLine/\∀p,H p=none->Q (.ref p) (upd H p (.lst (xs++zs)))
theorem OS:fG X (binaryOp .Add) RP:=by
 intro pins s Z H x y v u Q I rx ry h;obtain⟨l,b,xs,zs,rfl,rfl,hH,hB,hz,q⟩:=h;cases rx;cases ry;obtain⟨z,aV,n,r,hl,e⟩:=I.uO hH;obtain⟨z2,tI,n2,r2,CJ,e2⟩:=I.uO hB;refine PySem.P.add_list e e2 ?_ (by rw[aG,aG];omega);have ea:aV.toArray++tI.toArray=(aV++tI).toArray:=by simp
 rw[ea];exact⟨.ref _,_,I.DZ (t':=s.toks) (r.append r2) (by rw[dn];omega),rfl,q _ I.fresh⟩
def RT:R2:=λx y H Q=>∃l k xs,x=.ref l/\y=.int k/\H l=some (.lst xs)/\-(2 ^ 63)<=k/\k<2 ^ 63/\xs.length*k.toNat<=sizeLine /\
 ∀p,H p=none->Q (.ref p) (upd H p (.lst (List.replicate k.toNat xs).flatten))
theorem len_rep(xs:List α)(k:Nat):(List.replicate k xs).flatten.length=k*xs.length:=by
 simp
theorem OX:fG X (binaryOp .Mult) RT:=by
 intro pins s Z H x y v u Q I rx ry h;obtain⟨l,k,xs,rfl,rfl,hH,h1,h2,hz,q⟩:=h;cases rx;obtain⟨t,rfl⟩:=ry;obtain⟨z,aV,n,r,hl,e⟩:=I.uO hH;have hlen:aV.toArray.size*k.toNat<=sizeLine:=by rw[aG,<- hl];exact hz
 have yH:¬aV.toArray.size*k.toNat>(2 ^ 63-1) / 8:=by
  have:(sizeLine:Nat)<=(2 ^ 63-1) / 8:=by decide
  omega
 have yF:¬(!Builtin.List.listFitsIndex k)=true:=by
  rw[fitsIndex_both h1 h2];exact ba
 have tU:¬Builtin.List.listTooLong (aV.toArray.size*k.toNat)=true:=by
  rw[Uh hlen];exact ba
 have yp:List.foldl (λx1 x2=>x1++x2) #[] (List.replicate (if aV.toArray.isEmpty=true then 0 else k.toNat) aV.toArray)=(List.replicate k.toNat aV).flatten.toArray:=by
  have f0:∀m:Nat,List.foldl (λx1 x2=>x1++x2) #[] (List.replicate m aV.toArray)=(List.replicate m aV).flatten.toArray:=λm=>by
   have:=foldl_rep aV m []
   simp_all
  rw[f0];cases aV with
  |nil=>simp
  |cons a r'=>rfl
 refine wpAny_binaryOp_repeat_ref ∅ ⟨_,e,rfl⟩ (λs'=>typeIs_int s' k t) noFill_list_mul F.fills_int_mul F.slot_int_rmul repeat_list F.slot_int_index.lookup
  (lB F.slot_int_rmul (typeIs_int s k t) F.entry_int_rmul (F.args_int_rmul_2 _ _) (int___rmul___int_list k t l aV.toArray n)
   ⟨e,rfl,⟨_,e,rfl⟩,lB F.slot_list_mul ⟨_,e,rfl⟩ F.entry_list_mul (F.args_list_mul_2 _ _) (AutoListH.list___mul___list_int_3 l aV.toArray n k t yF yH tU) ⟨e,?_⟩⟩)
 rw[yp];exact⟨.ref _,_,I.DZ (t':=s.toks) (r.rep k.toNat) (by rw[len_rep,Nat.mul_comm];exact hz),rfl,q _ I.fresh⟩
section
variable{κ:Type}[DecidableEq κ]
def F2(kvs:List (κ×V))(k:κ):Option V:=(kvs.find? λkv=>decide (kv.1=k)).map (·.2)
def putK(kvs:List (κ×V))(k:κ)(v:V):List (κ×V) :=
 if(kvs.any λkv=>decide (kv.1=k))=true then kvs.map (λkv=>if kv.1=k then(kv.1,v) else kv) else kvs++[(k,v)]
def we(kvs:List (κ×V))(k:κ):List (κ×V):=kvs.filter λkv=>decide (kv.1≠k)
theorem AA{p:κ×V}{r:List (κ×V)}{k:κ}(e:p.1=k):F2 (p::r) k=some p.2:=by simp[F2,List.find?_cons,e]
theorem Az{p:κ×V}{r:List (κ×V)}{k:κ}(e:¬p.1=k):F2 (p::r) k=F2 r k:=by simp[F2,List.find?_cons,e]
theorem Fl(k:κ):∀kvs:List (κ×V),(kvs.any λkv=>decide (kv.1=k))=(F2 kvs k).isSome
 |[]=>rfl
 |p::r=>by
  rw[oZ];by_cases e:p.1=k
  ·simp only[AA e,decide_eq_true e,Bool.true_or,Option.isSome_some]
  ·rw[Az e,aR e,Bool.false_or];exact Fl k r
theorem Gj(kvs:List (κ×V))(k:κ)(v:V):(putK kvs k v).length<=kvs.length+1:=by
 unfold putK;split
 ·simp
 simp
theorem A4.L0{u:Option Value}(r:A4 o u):o.isSome=u.isSome:=by
 cases o with
 |none=>cases u with
  |none=>rfl
  |some _=>exact(show False from r).elim
 |some _=>cases u with
  |none=>exact(show False from r).elim
  |some _=>rfl
theorem A4.getD{o:Option V}{u:Option Value}{d:V}{d':Value}(r:A4 o u)(rd:RelV d d'):RelV (o.getD d) (u.getD d'):=by
 cases o with
 |none=>cases u with
  |none=>exact rd
  |some _=>exact(show False from r).elim
 |some _=>cases u with
  |none=>exact(show False from r).elim
  |some _=>exact r
theorem KV.val{kvs:List (κ×V)}{vs:List (κ×Value)}(r:KV kvs vs)(k:κ):A4 (F2 kvs k) (valueAt vs k):=by
 induction r with
 |nil=>exact True.intro
 |@cons p q ps qs h t ih =>
  obtain⟨h1,h2⟩:=h;by_cases e:p.1=k
  ·have e':=h1.symm.trans e;have b:valueAt (q::qs) k=some q.2:=by simp[valueAt,List.find?_cons,e']
   rw[AA e,b];exact h2
  ·have e':¬q.1=k:=λz=>e (h1.trans z);have b:valueAt (q::qs) k=valueAt qs k:=by simp[valueAt,List.find?_cons,e']
   rw[Az e,b];exact ih
theorem KV.any{kvs:List (κ×V)}{vs:List (κ×Value)}(r:KV kvs vs)(k:κ):(kvs.any λkv=>decide (kv.1=k))=vs.any λkv=>decide (kv.1=k):=by
 induction r with
 |nil=>rfl
 |cons h t ih=>simp_all
theorem KV.AI{kvs:List (κ×V)}{vs:List (κ×Value)}(r:KV kvs vs)(k:κ)(ry:RelV y u) :
  KV (kvs.map λkv=>if kv.1=k then(kv.1,y) else kv) (vs.map λkv=>if kv.1=k then(kv.1,u) else kv):=by
 induction r with
 |nil=>exact .nil
 |@cons p q ps qs h t ih =>
  rw[aZ,aZ];refine .cons ?_ ih;obtain⟨h1,h2⟩:=h;by_cases e:p.1=k
  ·rw[aJ e,aJ (h1.symm.trans e)];exact⟨h1,ry⟩
  ·rw[aB e,aB (λz=>e (h1.trans z))];exact⟨h1,h2⟩
theorem KV.put{kvs:List (κ×V)}{vs:List (κ×Value)}(r:KV kvs vs)(k:κ)(ry:RelV y u):KV (putK kvs k y) (stored vs k u):=by
 unfold putK stored;rw[r.any k];by_cases e:(vs.any λkv=>decide (kv.1=k))=true
 ·rw[aJ e,aJ e];exact r.AI k ry
 ·rw[aB e,aB e];exact Paired.snoc r ⟨rfl,ry⟩
theorem KV.drop{kvs:List (κ×V)}{vs:List (κ×Value)}(r:KV kvs vs)(k:κ):KV (we kvs k) (without vs k):=by
 unfold we without
 induction r with
 |nil=>exact .nil
 |@cons p q ps qs h t ih =>
  obtain⟨h1,h2⟩:=h;rw[eX,eX];by_cases e:p.1=k
  ·have a:¬decide (p.1≠k)=true:=by simp[e]
   have b:¬decide (q.1≠k)=true:=by simp[h1.symm.trans e]
   rw[aB a,aB b];exact ih
  ·have e':¬q.1=k:=λz=>e (h1.trans z);have a:decide (p.1≠k)=true:=by simp[e]
   have b:decide (q.1≠k)=true:=by simp[e']
   rw[aJ a,aJ b];exact .cons ⟨h1,h2⟩ ih
theorem KV.keys{kvs:List (κ×V)}{vs:List (κ×Value)}(r:KV kvs vs):kvs.map (·.1)=vs.map (·.1):=by
 induction r with
 |nil=>rfl
 |cons h t ih=>simp_all
theorem KV.length{kvs:List (κ×V)}{vs:List (κ×Value)}(r:KV kvs vs):kvs.length=vs.length:=dP r
end
theorem Z3{k:Key}(r:RelV (kV k) u):(i9 P w).is k u=true:=by
 cases k with
 |inl i=>obtain⟨t,e⟩:=(show ∃t,u=Value.int i t from r);subst e;exact Sy P w i t
 |inr x=>obtain⟨t,e⟩:=(show ∃t,u=Value.str x t from r);subst e;exact Sz P w x t
theorem X6{P:Program}{w:World}:∀{ks:List Key} {us:List Value},Vals (ks.map kV) us->ItemsAre (i9 P w) ks us
 |[],_,r=>by cases r;exact .nil
 |k::ks,_,r=>by
  cases r with
  |cons h t=>exact .cons (Z3 h) (X6 t)
noncomputable abbrev KT(H:Hp):List (List Key×V)->List (List Key×Addr×Value)->Prop:=Paired λp q=>p.1=q.1/\H q.2.1=some (.tup (p.1.map kV))/\RelV p.2 q.2.2
theorem KT.val{xs:List (List Key×Addr×Value)}(r:KT H kvs xs)(k:List Key):A4 (F2 kvs k) ((atKey xs k).map (·.2)):=by
 induction r with
 |nil=>exact True.intro
 |@cons p q ps qs h t ih =>
  obtain⟨h1,_,h2⟩:=h;by_cases e:p.1=k
  ·have e':=h1.symm.trans e;have b:atKey (q::qs) k=some q.2:=by simp[atKey,List.find?_cons,e']
   rw[AA e,b];exact h2
  ·have e':¬q.1=k:=λz=>e (h1.trans z);have b:atKey (q::qs) k=atKey qs k:=by simp[atKey,List.find?_cons,e']
   rw[Az e,b];exact ih
theorem KT.AI{xs:List (List Key×Addr×Value)}(r:KT H kvs xs)(k:List Key)(ry:RelV y u) :
  KT H (kvs.map λkv=>if kv.1=k then(kv.1,y) else kv) (xs.map (putAt k u)):=by
 induction r with
 |nil=>exact .nil
 |@cons p q ps qs h t ih =>
  rw[aZ,aZ];refine .cons ?_ ih;obtain⟨h1,h2,h3⟩:=h;unfold putAt;by_cases e:p.1=k
  ·rw[aJ e,aJ (h1.symm.trans e)];exact⟨h1,h2,ry⟩
  ·rw[aB e,aB (λz=>e (h1.trans z))];exact⟨h1,h2,h3⟩
theorem KT.put{xs:List (List Key×Addr×Value)}(r:KT H kvs xs)(k:List Key){b:Addr}(hb:H b=some (.tup (k.map kV)))(ry:RelV y u) :
  KT H (putK kvs k y) (storedH xs k b u):=by
 have e:(kvs.any λkv=>decide (kv.1=k))=(atKey xs k).isSome:=by
  rw[Fl,(r.val k).L0,jM]
 unfold putK storedH;rw[e];by_cases q:(atKey xs k).isSome=true
 ·rw[aJ q,aJ q];exact r.AI k ry
 ·rw[aB q,aB q];exact Paired.snoc r ⟨rfl,hb,ry⟩
theorem KT.keeps{xs:List (List Key×Addr×Value)}(r:KT H kvs xs)(ht:∀b ys,H b=some (.tup ys)->H' b=some (.tup ys)):KT H' kvs xs :=
 Paired.AG r λ_ _ z=>⟨z.1,ht _ _ z.2.1,z.2.2⟩
section
variable{h:Heap}
theorem HN{u:HO}(ok:fx P w H h)(e:Rd H a u):j5 P w H h a u:=e.ok ok
theorem Z7{kvs:List (Key×V)}(ok:fx P w H h)(e:Rd H a (.dK kvs)):kvs.length<=sizeLine/\(a==sysModules)=false/\∃vs,KV kvs vs/\h.DictOf (i9 P w) a vs :=
 show j5 P w H h a (.dK kvs) from HN ok e
theorem HA{kvs:List (Key×V)}(ok:fx P w H h)(e:H a=some (.dK kvs)):kvs.length<=sizeLine/\(a==sysModules)=false/\∃vs,KV kvs vs/\h.DictOf (i9 P w) a vs:=Z7 ok (.inl e)
theorem R7{ks:List Key}(ok:fx P w H h)(e:H a=some (.tup (ks.map kV))):(tupleKind (i9 P w)).is h ks a:=by
 obtain⟨_,aV,r,o,h1,h2,⟨n,h3⟩,_⟩:=(show j5 P w H h a (.tup (ks.map kV)) from ok a _ e)
 exact⟨o,aV.toArray,n,h1,h2,h3,by simpa using X6 r⟩
theorem Z6(ok:fx P w H h)(e:Rd H a (.dT kvs)):kvs.length<=sizeLine/\(a==sysModules)=false /\
  ∃xs,KT H kvs xs/\h.DictOfH (tupleKind (i9 P w)) a xs:=by
 obtain⟨z,y,xs,r,o,es,ep,h1,h2,h3,h4,h5⟩:=(show j5 P w H h a (.dT kvs) from HN ok e)
 refine⟨z,y,xs,r,o,es,ep,h1,h2,h3,h4,λx hx=>?_,h5⟩;have all:∀{l:List (List Key×V)} {m:List (List Key×Addr×Value)},KT H l m->∀x∈m,(tupleKind (i9 P w)).is h x.1 x.2.1:=by
  intro l m q
  induction q with
  |nil=>simp
  |@cons p q ps qs hq t ih =>
   intro x hx;rcases av.mp hx with e|hx
   ·exact R7 ok (by simp_all)
   ·exact ih x hx
 exact all r x hx
theorem Mu(ok:fx P w H h)(e:H a=some (.dT kvs)):kvs.length<=sizeLine/\(a==sysModules)=false /\
  ∃xs,KT H kvs xs/\h.DictOfH (tupleKind (i9 P w)) a xs:=Z6 ok (.inl e)
end
def L5(H:Hp)(a:Addr)(y:V)(r:Option V):Prop :=
 (∃kvs k,Rd H a (.dK kvs)/\y=kV k/\r=F2 kvs k)\/∃kvs k b,Rd H a (.dT kvs)/\y=.ref b/\H b=some (.tup (k.map kV))/\r=F2 kvs k
def wN(H:Hp)(a:Addr)(y v:V)(H':Hp):Prop :=
 (∃kvs k,H a=some (.dK kvs)/\y=kV k/\kvs.length<sizeLine/\H'=upd H a (.dK (putK kvs k v))) \/
 ∃kvs k b,H a=some (.dT kvs)/\y=.ref b/\H b=some (.tup (k.map kV))/\kvs.length<sizeLine/\H'=upd H a (.dT (putK kvs k v))
theorem L5.k{H:Hp}{a:Addr}{kvs:List (Key×V)}{k:Key}(e:H a=some (.dK kvs)):L5 H a (kV k) (F2 kvs k):=.inl ⟨kvs,k,.inl e,rfl,rfl⟩
theorem wN.k{H:Hp}{a:Addr}{kvs:List (Key×V)}{k:Key}{v:V}(e:H a=some (.dK kvs))(hl:kvs.length<sizeLine):wN H a (kV k) v (upd H a (.dK (putK kvs k v))):=.inl ⟨kvs,k,e,rfl,hl,rfl⟩
section
variable{v:V}{r:Value}
theorem Inv.big(I:Inv X pins Z H s):sysModules<s.heap.objs.size:=by
 have h:=(I.mod.glob.keeps I.bk).lt;exact cv ∅ h
theorem Vk{Q:Value->Shared->Prop}(hu:A.units+1<cLine)(I:Inv X pins Z H s)(g:L5 H a y (some v))(ry:RelV y u)(h:∀w' s',Inv X pins Z H s'->RelV v w'->Q w' s') :
  wpAny (model X.prog X.w) A (getItem (.ref a) u) Q E s:=by
 rcases g with⟨kvs,k,e,ey,l⟩|⟨kvs,k,b,e,ey,eb,l⟩
 ·subst ey;obtain⟨z,hd,vs,rel,dd⟩:=Z7 I.bB e;obtain⟨w',hw,fj⟩:=A4.some_of (by rw[l];exact rel.val k);exact wpAny_getItem_of (Z3 ry) dd.mapOf hw (h w' _ (I.tok _) fj)
 ·subst ey;cases (show u=Value.ref b from ry);obtain⟨z,hd,xs,rel,dd⟩:=Z6 I.bB e;obtain⟨w',hw,fj⟩:=A4.some_of (by rw[l];exact rel.val k);obtain⟨p,hp,vK⟩:=ae.mp hw;refine wpAny_getItem_heap (cT hu) (R7 I.bB eb) dd hp ?_;rw[vK];exact h w' _ (I.tok _) fj
theorem Rj{Q:Value->Shared->Prop}(hu:A.units+1<cLine)(I:Inv X pins Z H s)(g:L5 H a y o)(ry:RelV y u)(h:∀s',Inv X pins Z H s'->Q (.bool o.isSome) s') :
  wpAny (model X.prog X.w) A (compareOp .In u (.ref a)) Q E s:=by
 rcases g with⟨kvs,k,e,ey,l⟩|⟨kvs,k,b,e,ey,eb,l⟩
 ·subst ey;obtain⟨z,hd,vs,rel,dd⟩:=Z7 I.bB e;refine wpAny_in_of (Z3 ry) hd dd.mapOf ?_;rw[<- (rel.val k).L0,<- l];exact h _ (I.tok _)
 ·subst ey;cases (show u=Value.ref b from ry);obtain⟨z,hd,xs,rel,dd⟩:=Z6 I.bB e;refine wpAny_in_heap (cT hu) (R7 I.bB eb) hd dd ?_;have q:=(rel.val k).L0;rw[jM] at q;rw[<- q,<- l];exact h _ (I.tok _)
theorem QH{Q:Value->Shared->Prop}(hu:A.units+1<cLine)(I:Inv X pins Z H s)(g:L5 H a y o)(ry:RelV y u)(h:∀s',Inv X pins Z H s'->Q (.bool (!o.isSome)) s') :
  wpAny (model X.prog X.w) A (compareOp .NotIn u (.ref a)) Q E s:=by
 rcases g with⟨kvs,k,e,ey,l⟩|⟨kvs,k,b,e,ey,eb,l⟩
 ·subst ey;obtain⟨z,hd,vs,rel,dd⟩:=Z7 I.bB e;refine wpAny_notIn_of (Z3 ry) hd dd.mapOf ?_;rw[<- (rel.val k).L0,<- l];exact h _ (I.tok _)
 ·subst ey;cases (show u=Value.ref b from ry);obtain⟨z,hd,xs,rel,dd⟩:=Z6 I.bB e;refine wpAny_notIn_heap (cT hu) (R7 I.bB eb) hd dd ?_;have q:=(rel.val k).L0;rw[jM] at q;rw[<- q,<- l];exact h _ (I.tok _)
theorem Ag{h':Heap}{t':Nat}{ob:HO}(I:Inv X pins Z H s)(mu:va (H a))(hs:Heap.SameBut a s.heap h')(he:∃q,h'.get? a=some q)(new:j5 X.prog X.w (upd H a ob) h' a ob) :
  Inv X pins Z (upd H a ob) { s with heap:=h',toks:=t' } :=
 I.write mu (.inl rfl) (λb q hb z=>(hs.2 b hb).trans z) he new
theorem Of{h':Heap}{kvs:List (Key×V)}{vs:List (Key×Value)}(z:kvs.length<=sizeLine)(hd:(a==sysModules)=false)(rel:KV kvs vs)(dd:h'.DictOf (i9 P w) a vs) :
  j5 P w H' h' a (.dK kvs):=⟨z,hd,vs,rel,dd⟩
theorem Vl{Q:Unit->Shared->Prop}(hu:A.units+1<cLine)(I:Inv X pins Z H s)(g:wN H a y v H')(ry:RelV y u)(rv:RelV v r)(h:∀s',Inv X pins Z H' s'->Q Unit.unit s') :
  wpAny (model X.prog X.w) A (setItem (.ref a) u r) Q E s:=by
 rcases g with⟨kvs,k,e,ey,l,eH⟩|⟨kvs,k,b,e,ey,eb,l,eH⟩
 ·subst ey eH;obtain⟨z,hd,vs,rel,dd⟩:=HA I.bB e;have hz:vs.length<=sizeLine:=by rw[<- rel.length];exact z
  have hl:(putK kvs k v).length<=sizeLine:=by have:=Gj kvs k v;omega
  refine wpAny_setItem_pairs (Z3 ry) dd λh' qe hs=>h _ ?_;have he:∃q,h'.get? a=some q:=let ⟨q,_,_,hq,_⟩:=qe;⟨q,hq⟩
  exact Ag I (by rw[e];exact True.intro) hs he (Of hl hd (rel.put k rv) qe)
 ·subst ey eH;cases (show u=Value.ref b from ry);obtain⟨z,hd,xs,rel,dd⟩:=Mu I.bB e;have hz:xs.length<=sizeLine:=by rw[<- dP rel];exact z
  have hl:(putK kvs k v).length<=sizeLine:=by have:=Gj kvs k v;omega
  refine wpAny_setItem_heap (cT hu) (R7 I.bB eb) dd λh' qe hs=>h _ ?_;obtain⟨q,es,ep,hq,h2,h3,h4,_,h5⟩:=qe;refine Ag I (by rw[e];exact True.intro) hs ⟨q,hq⟩ ⟨hl,hd,_,(rel.put k eb rv).keeps λc ys ec=>?_,q,es,ep,hq,h2,h3,h4,h5⟩;rw[f9 (M' ec e (λz=>nomatch z))];exact ec
end
theorem Sr(I:Inv X pins Z H s)(g:L5 H a y o):s.TypeIs (.ref a) "dict":=by
 rcases g with⟨kvs,k,e,_,_⟩|⟨kvs,k,b,e,_,_,_⟩
 ·obtain⟨_,_,vs,_,dd⟩:=Z7 I.bB e;exact dd.typeIs
 ·obtain⟨_,_,xs,_,dd⟩:=Z6 I.bB e;exact dd.typeIs
theorem TF(h:Heap)(hb:sysModules<h.objs.size):j5 P w H (h.push { cls:=.type "dict",data:=.dict #[] }) h.objs.size (.dK []) :=
 ⟨bG _,cW.mpr (bW (aD hb)),[],.nil,Heap.DictOf.new h⟩
def Qo:TE:=λ_ H Q=>∀p,H p=none->Q (.ref p) (upd H p (.dK []))
theorem Ul:PE X (.Dict [] [] pos) Qo:=λpins s Z H Q I h =>
 wpAny_Dict_empty ⟨.ref s.heap.objs.size,_,I.laid (t':=s.toks) (λ_ _ q=>ah _ q) (aj _) (TF s.heap I.big),rfl,h _ (I.bB.fresh (aj _))⟩
section
variable{d:V}{r:Value}
theorem Od{Q:Value->Shared->Prop}(hu:A.units+1<cLine)(I:Inv X pins Z H s)(g:L5 H a y o)(ry:RelV y u)(rd:RelV d r)(h:∀w' s',Inv X pins Z H s'->RelV (o.getD d) w'->Q w' s') :
  wpAny (model X.prog X.w) A (call (.builtin "dict.get") [.ref a,u,r]) Q E s:=by
 rcases g with⟨kvs,k,e,ey,l⟩|⟨kvs,k,b,e,ey,eb,l⟩
 ·subst ey;obtain⟨z,hd,vs,rel,dd⟩:=Z7 I.bB e;refine Zx ij dd.typeIs rW (qH _ _ _) (meets_dict_get_default (i9 X.prog X.w) a (Z3 ry) hd r) ⟨_,dd.mapOf,h _ _ (I.tok _) ?_⟩;rw[l];exact(rel.val k).getD rd
 ·subst ey;cases (show u=Value.ref b from ry);obtain⟨z,hd,xs,rel,dd⟩:=Z6 I.bB e;refine Zx ij dd.typeIs rW (qH _ _ _) (meetsH_dict_get_default (tupleKind (i9 X.prog X.w)) a b hd r) ⟨cT hu,k,xs,R7 I.bB eb,dd,h _ _ (I.tok _) ?_⟩;rw[l];exact(rel.val k).getD rd
end
end L2
namespace Ii
open PySem PySem.W PySem.Calls PyProof.Rows
theorem Tv{P:Params}{h:Heap}:∀(ns:List Int) (vs:List Value),WellAll P h vs (ns.map WData.int)->IntsAre vs ns:=by
 intro ns
 induction ns with
 |nil =>
  intro vs w;cases w;exact .nil
 |cons n ns ih =>
  intro vs w;cases w with
  |cons a b =>
   cases a;exact .cons _ _ (ih _ b)
theorem Wc{l:OpenLaw}{n:Nat}(hn:l.most=some n){P:Params}{h:Heap}{args:List WData}{vals:List Value}(nJ:l.row.toRowW.claim.pre args=true)(yg:WellAll P h vals args) :
  ∃a vs ns,vals=[Value.ref a]/\args=[WData.list (ns.map WData.int)]/\h.get? a=some { cls:=.type "list",data:=.seq vs.toArray }/\IntsAre vs ns/\ns.length<=n:=by
 have jn:WShape.hasAll [] args [.list .int]=true:=(pre_splitW nJ).1;have hc:l.pre.holds [] { args:=args }=true:=(pre_splitW nJ).2;obtain⟨d,r,rfl,h1,h2⟩:=hasAllW_cons jn;obtain rfl:=hasAllW_nil h2;obtain⟨xs,rfl,h3⟩:=hasW_list h1;obtain⟨ns,rfl⟩:=items_int h3;have hlen:ns.length<=n:=by
  have h4:(WTm.not (.lt (.lit (.int (n:Int))) (.len (.arg 0)))).holds [] { args:=[.list (ns.map .int)] }=true:=by
   have h4:=(holds_andW hc).1;rw[hn] at h4;exact h4
  have h5:=condW_of h4 (w_not (w_lt w_lit (w_len_list (w_arg rfl))))
  simp_all
 cases yg with
 |cons w1 w2 =>
  cases w2;cases w1 with
  |list ho iA=>exact⟨_,_,ns,rfl,rfl,ho,Tv ns _ iA,hlen⟩
theorem VX(l:OpenLaw)(args:List WData):l.row.toRowW.claim.post args (.bool true) args=true :=
 postW_of
  (show WShape.has [] (.bool true) .bool=true by rfl)
  (show(WTm.eq .res (.lit (.bool true))).value [] { args:=args,res:=some (.bool true),after:=args }=some (.bool (true==true)) from w_eq_bool (w_res rfl) w_lit) rfl
theorem Sm{l:OpenLaw}{n:Nat}{q:Program}{loose:List Str}{XP:(Str->Option Value)->Heap->Prop}{YP:World->Heap->Prop}{d:DefRec}(hn:l.most=some n)(uc:d.params.defaults=[])(call:∀ (w:World) (cV bC:Shared) (mg mb:Str->Option Value) (fa:Addr) (o:Obj) (pm cd doc:Value) (a:Addr) (vs:List Value) (ns:List Int),
   Ground q loose [] XP w cV mg mb bC.heap->YP w bC.heap ->
   bC.heap.get? fa=some o->o.data=.func (docDef d.name d.params d.body d.scope pm cd doc)->bC.heap.CodeRec cd d.name->mg d.name=some (.ref fa) ->
   bC.heap.get? a=some { cls:=.type "list",data:=.seq vs.toArray }->IntsAre vs ns->ns.length<=n->bC.gens=#[] ->
   codeAny (model l.prog w) callerA (.call (.ref fa) ⟨[.ref a],[]⟩) (λr s'=>r=.ok (.ret (.bool true))/\OldK bC.heap s'.heap/\s'.os=bC.os/\AllBare s'.gens) bC) :
  WalkO q loose XP YP l.row.toRowW d [] (λf vs=>PySem.call f vs):=by
 intro w cV bC mg mb G Y fa o pm cd doc dV kV ho hd kL hD hmg hg args vals as nJ JO YY yg CI;obtain rfl:dV=.none:=Dflts.none hD uc;obtain rfl:kV=.none:=Dflts.noKw hD;obtain⟨a,vs,ns,rfl,rfl,jW,hints,hlen⟩:=Wc hn nJ yg;refine enter_call (eG (call w cV bC mg mb fa o pm cd doc a vs ns G Y ho (fd_plain hd) kL hmg jW hints hlen hg) λr s' hq=>?_);obtain⟨rfl,h2,h3,h4⟩:=hq;exact⟨.inl ⟨.bool true,.bool true,[],rfl,λ_=>rfl,.bool true,VX l _,λ_=>⟨List.Pairwise.nil,λ_ hm=>(nomatch hm)⟩⟩,h2,h3,h4⟩
end Ii
namespace L2
open PySem PySem.Spec PyProof.Rows
variable{w:World}{x qual:Str}{X:Cx}{A:Around}{s:Shared}{elt iter tg:Expr}{ifs:List Expr}{scope:Scope}{pos:Pos}{cl:List (Str×Addr)}{C:Addr}{N':List Str}{d7:List Nat}{fp:List Addr}{g:TG}{tc:TT}{te:TE}
theorem FL:∀{vs:List Value} {ns:List Int},IntsAre vs ns->Vals (ns.map V.int) vs
 |_,_,.nil=>.nil
 |_,_,.cons n t h=>.cons ⟨t,rfl⟩ (FL h)
def wO(H:Hp):Prop:=∀b,H b=none\/∃o xs,H b=some (.jh o (.lst xs))
theorem TY{P:Program}{K:PySem.W.Frag}{mg mb:Str->Option Value}{CX:mr}{k:Nat}{fa a:Addr}{fd:FuncData}{sp:Sp}{bC:Shared}{vs:List Value}{ns:List Int}(KX:K.In bC.heap)(nK:bC.heap.Ns mainGlobals mg)(hb:bC.heap.Ns builtinsNs mb)(yJ:∀x:Str,x≠"__name__"->mb x=bootBuiltins x)(yx:bC.heap.NoLimit)(hg:bC.gens=#[])(ha:bC.heap.get? a=some { cls:=.type "list",data:=.seq vs.toArray })(hi:IntsAre vs ns)(hl:ns.length<=sizeLine)(hr:n8 k callerA)(F:∀base:Heap,K.In base->base.Ns mainGlobals mg->gH P w K mg base CX k fa fd [x] sp)(ug:∀(s:Shared) (u:Value),BindsTo s fd ⟨[u],[]⟩ [(x,u)])(qW:∀H:Hp,wO H->fu K H a (ns.map V.int)->sp [.ref a] H (λv _=>v=.bl true) λ_ _ _=>False)(yS:∀H e s',CX [] H bC (λ_ _ _=>False) e s'->False) :
  codeAny (model P w) callerA (.call (.ref fa) ⟨[.ref a],[]⟩) (λr s'=>r=.ok (.ret (.bool true))/\OldK bC.heap s'.heap/\s'.os=bC.os/\AllBare s'.gens) bC:=by
 have rv:=FL hi;have Jk:=hi.length;have core:∀H:Hp,wO H->fu K H a (ns.map V.int)->fx P w H bC.heap->(∀b,H b≠none->b=a)->(H a≠none->K.lookup a=none) ->
   codeAny (model P w) callerA (.call (.ref fa) ⟨[.ref a],[]⟩) (λr s'=>r=.ok (.ret (.bool true))/\OldK bC.heap s'.heap/\s'.os=bC.os/\AllBare s'.gens) bC:=by
  intro H hO hS bB hA hK;have M9:∀{b:Addr} {o:Obj},bC.heap.get? b=some o->H b=none->(U1 bC.heap H).get? b=some o:=λe n=>TR e n;have sU:∀{b:Addr} {o:Obj} {es:Array DictEntry} {ep:Nat},bC.heap.get? b=some o->o.data=.dict es ep->H b=none:=λ{b o es ep} e d=>by
   grind
  have vB:∀{b:Addr} {m:Str->Option Value},bC.heap.Ns b m->(U1 bC.heap H).Ns b m:=λ{b m} ⟨o,es,ep,e,d,r⟩=>⟨o,es,ep,M9 e (sU e d),d,r⟩
  have Dd:K.In (U1 bC.heap H):=λb o e=>M9 (KX b o e) (by
   grind)
  have hM:Mod K mg (U1 bC.heap H):=⟨Dd,vB nK,⟨mb,vB hb,yJ⟩,let ⟨mc,h1,h2⟩:=yx;⟨mc,vB h1,h2⟩⟩
  have e0:qk P w K mg (U1 bC.heap H) callerA [] bC H:=⟨rfl,hM,λb o e=>Xt e,fm (Vu _ _),trivial,λb hb=>absurd (show b∈([]:List Addr) from hb) (by simp),bB,.of_eq hg⟩
  refine eG ((F _ Dd (vB nK)).run callerA [] bC H ⟨[.ref a],[]⟩ [.ref a] [.ref a] _ _ hr e0 (ug bC (.ref a)) (.cons rfl .nil) (qW H hO hS)) λr s' h=>?_;cases r with
  |error e=>exact(yS H e s' h).elim
  |ok fl =>
   cases fl with
   |next=>exact False.elim h
   |brk=>exact False.elim h
   |cont=>exact False.elim h
   |ret u =>
    obtain⟨v,H',os,bare,un,ym,r',q⟩:=h;have q':=q;subst q';obtain rfl:u=Value.bool true:=r';refine⟨rfl,OldK.of_keep λb o e=>?_,os,bare⟩;cases q:H b with
    |none=>exact un.keep b o e q (by intro z;exact absurd (show b∈([]:List Addr) from z) (by simp)) (by simp)
    |some u =>
     rcases hO b with z|⟨ob,xs,z⟩
     ·simp_all
     ·have z2:=un.hU b ob _ z;obtain⟨e1,_⟩:=bB b _ z;obtain⟨e2,_⟩:=ym b _ z2
      simp_all
 cases hk:K.lookup a with
 |some o =>
  have e:=KX a o hk;rw[ha] at e;cases e;refine core (λ_=>none) (λ_=>.inl rfl) (.inr ⟨_,vs.toArray,_,hk,rfl,rfl,rfl,by simp_all,by simpa using rv⟩) (λb u z=>by simp_all) (λb z=>absurd rfl z) λz=>absurd rfl z
 |none =>
  refine core (λb=>if b=a then some (.jh { cls:=.type "list",data:=.seq vs.toArray } (.lst (ns.map V.int))) else none) (λb=>?_) (.inl (.inr ⟨{ cls:=.type "list",data:=.seq vs.toArray },aJ rfl⟩)) (λb u z=>?_) (λb z=>?_) λ_=>hk
  ·by_cases hb:b=a
   ·exact .inr ⟨_,_,aJ hb⟩
   ·exact .inl (aB hb)
  ·by_cases hb:b=a
   ·have z':=(aJ hb).symm.trans z;cases z';subst hb;exact⟨ha,by rw[ai];exact hl,vs,_,rv,ha⟩
   simp_all
  ·by_cases hb:b=a
   ·exact hb
   ·exact absurd (aB hb) z
theorem Ys{l:PySem.W.OpenLaw}{n k:Nat}{q:Program}{loose:List Str}{XP:(Str->Option Value)->Heap->Prop}{YP:World->Heap->Prop}{d:DefRec}{K:Params->PySem.W.Frag}{CX:World->mr}{sp:World->Sp}(hn:l.most=some n)(oB:n<=sizeLine)(uc:d.params.defaults=[])(hr:n8 k callerA)(hY:∀(w:World) (h:Heap),YP w h->(K w.params).In h)(F:∀ (w:World) (mg:Str->Option Value) (fa:Addr) (h:Heap),(K w.params).In h->h.Ns mainGlobals mg->mg d.name=some (.ref fa) ->
   ∃fd:FuncData,(∀(s:Shared) (u:Value),BindsTo s fd ⟨[u],[]⟩ [(x,u)]) /\
    ∀ base:Heap,(K w.params).In base->base.Ns mainGlobals mg->gH l.prog w (K w.params) mg base (CX w) k fa fd [x] (sp w))(qW:∀(w:World) (H:Hp) (a:Addr) (ns:List Int),ns.length<=n->wO H->fu (K w.params) H a (ns.map V.int)->sp w [.ref a] H (λv _=>v=.bl true) λ_ _ _=>False)(yS:∀(w:World) (H:Hp) (s:Shared) (e:Value) (s':Shared),CX w [] H s (λ_ _ _=>False) e s'->False) :
  PySem.W.WalkO q loose XP YP l.row.toRowW d [] (λf vs=>PySem.call f vs):=by
 refine Ii.Sm hn uc λw cV bC mg mb fa o pm cd doc a vs ns G Y ho hd kL hmg jW hints hlen hg=>?_;have KX:=hY w _ Y;obtain⟨fd,hb,hF⟩:=F w mg fa _ KX G.T.g hmg;exact TY KX G.T.g G.T.b G.T.builtins G.T.nolimit hg jW hints (aE hlen oB) hr hF hb (λH hO hS=>qW w H a ns hlen hO hS) λH e s'=>yS w H bC e s'
def y9(s:Stmt):Arguments:=match s with
 |.FunctionDef _ a _ _ _ _ _ _ _ _=>a
 |_=>{ posonlyargs:=[],args:=[],vararg:=none,kwonlyargs:=[],kw_defaults:=[],kwarg:=none,defaults:=[] }
def n6(s:Stmt):List Stmt:=match s with
 |.FunctionDef _ _ b _ _ _ _ _ _ _=>b
 |_=>[]
def m8(s:Stmt):Scope:=match s with
 |.FunctionDef _ _ _ _ _ _ sc _ _ _=>sc
 |_=>{ kind:=.function,names:=[],isGenerator:=false,isCoroutine:=false }
structure oX(K:PySem.W.Frag)(x qual:Str)(st:Stmt)(f:Addr)(fd:FuncData):Prop where
 ex:∃(oc:Value) (od:Option Addr) (kV doc pm:Value) (an:Option Addr) (ft ct:Value) (lJ:Array (Option Value)),
  fd=PySem.W.fnOf x qual (y9 st) (n6 st) (m8 st) .none kV doc pm an ft ct/\K.lookup f=some ⟨oc,od,.func fd,lJ⟩/\PySem.W.codeIn K ft qual=true
 kp:PySem.W.keepIn K (.ref f)=true
section
variable{K:PySem.W.Frag}
theorem oX.binds{st:Stmt}{f:Addr}{fd:FuncData}{ps:List Str}(F:oX K x qual st f fd)(h:∀(kV doc pm:Value) (an:Option Addr) (ft ct:Value) (us:List Value),us.length=ps.length->bindArgs (PySem.W.fnOf x qual (y9 st) (n6 st) (m8 st) .none kV doc pm an ft ct) ⟨us,[]⟩=pure (ps.zip us)):Binds K fd ps []:=by
 obtain⟨oc,od,kV,doc,pm,an,ft,ct,lJ,rfl,lk,kL⟩:=F.ex;exact .all (h kV doc pm an ft ct)
theorem Oi{st:Stmt}{f:Addr}{oc:Value}{od an:Option Addr}{lJ:Array (Option Value)}{kV doc pm ft ct:Value}(l:K.lookup f=some ⟨oc,od,.func (PySem.W.fnOf x qual (y9 st) (n6 st) (m8 st) .none kV doc pm an ft ct),lJ⟩)(c:PySem.W.codeIn K ft qual=true)(k:PySem.W.keepIn K (.ref f)=true):oX K x qual st f (PySem.W.fnOf x qual (y9 st) (n6 st) (m8 st) .none kV doc pm an ft ct):=⟨⟨oc,od,kV,doc,pm,an,ft,ct,lJ,rfl,l,c⟩,k⟩
end
section
variable{prog:Program}{R:Result->Shared->Prop}
theorem SQ{target:Expr}{it acc:Value}{env:Env}(I:Nat->Shared->Prop)(turn:∀ n s,I n s->wpAny (model prog w) A (pyNext it) (λr bC=>match r with
   |none=>R (.ok .next) bC
   | some v=>wpAny (model prog w) A (letOwnedTupleGo target it v) (λ_ bC=>wpAny (model prog w) A (assign target env v) (λ_ fB =>
     wpAny (model prog w) A (forIn ifs true λc r=>if r=true then do let ok <- isTrue c env (eval c env);pure (ForInStep.yield ok) else pure (ForInStep.yield r)) (λok gU =>
      if ok=true then wpAny (model prog w) A (eval elt env) (λx kC =>
       wpAny (model prog w) A (call (.builtin "list.append") [acc,x]) (λ_ kB=>∃ m,m < n/\I m kB) (λ_ _=>False) kC) (notedBy (model prog w) A env λe s'=>R (.error e) s') gU
      else ∃ m,m < n/\I m gU) (λ_ _=>False) fB) (λ_ _=>False) bC) (λ_ _=>False) bC) (λ_ _=>False) s)(n:Nat)(h:I n s) :
  codeAny (model prog w) A (.compLoop (.ListComp elt [⟨target,iter,ifs,0⟩] scope pos) 0 it acc env) R s:=by
 refine codeAny_loop rfl I (λn s hI=>?_) n h;show wpAny _ A ((compTurn (.ListComp elt [⟨target,iter,ifs,0⟩] scope pos) 0 it acc env).onRaise (λx=>do noteFrame x env;theTreesLotGoes x)) _ _ s;refine wpAny_noted ?_;rw[compTurn_list];refine aa (Ij (aa (bK (turn n s hI) (λr bC dY=>?_) λ_ _ h'=>h'.elim)));cases r with
 |none=>exact af dY
 |some v =>
  refine aa (bK dY (λ_ bC dY=>?_) λ_ _ h'=>h'.elim);refine aa (bK dY (λ_ fB jU=>aa (bK jU (λok gU tK=>?_) λ_ _ h'=>h'.elim)) λ_ _ h'=>h'.elim);cases ok with
  |false=>exact wpAny_pure ⟨rfl,tK⟩
  |true =>
   exact aa (aa (bK tK (λx kC yc=>aa (bK yc (λ_ kB yb=>af (af ⟨rfl,yb⟩)) λ_ _ h'=>h'.elim)) λ_ _ h'=>h'))
end
def ly(X:Cx)(es:List Expr)(t:TT):Prop :=
 ∀(pins:List (Addr×Obj)) (s:Shared) (Z:St) (H:Hp) (Q:Bool->Hp->Prop),Inv X pins Z H s->t Z H Q ->
  wpAny (model X.prog X.w) X.A (forIn es true λc r=>if r=true then do let ok <- isTrue c X.env (eval c X.env);pure (ForInStep.yield ok) else pure (ForInStep.yield r)) (TP X pins Z Q) X.xe s
def LO:TT:=λ_ H Q=>Q true H
theorem XM:ly X [] LO:=λpins s Z H Q I h=>af ⟨H,I,h⟩
theorem XN{c:Expr}{t:TT}(h:PT X c t):ly X [c] t:=by
 intro pins s Z H Q I q;exact aa (aa (bK (h pins s Z H Q I q) (λb s' hb=>af (af hb)) λ_ _ x=>x))
def E2(scope:Scope)(cl:List (Str×Addr))(C:Addr):List (Str×Addr):=cellsFrom (C+1) scope.names []++cl
theorem x9:∀(names:List (Str×NameKind)) (n:Nat) (acc:List (Str×Addr)),cellsFrom n names acc=cellsFrom n names []++acc
 |[],_,_=>rfl
 |(y,k)::r,n,acc=>by
  unfold cellsFrom;split
  ·rw[x9 r (n+1) ((y,n)::acc),x9 r (n+1) [(y,n)],fS]
   rfl
  ·exact x9 r n acc
theorem O1{x:Str}{c:Addr}:∀{names:List (Str×NameKind)} {n:Nat},(x,c)∈cellsFrom n names []->(x,NameKind.cell)∈names
 |[],_,h=>by simp[cellsFrom] at h
 |(y,k)::r,n,h=>by
  unfold cellsFrom at h;split at h
  ·rw[x9] at h;rcases aT.mp h with z|z
   ·exact aI _ (O1 z)
   grind
  ·exact aI _ (O1 h)
theorem F7{α:Type}:∀{a b:List (Str×α)},(a++b).lookup x=(a.lookup x).or (b.lookup x)
 |[],_=>rfl
 |(y,v)::r,b=>by
  grind
theorem Fu(h:scope.names.lookup x=some .cell\/∃c,cl.lookup x=some c):∃c,(E2 scope cl C).lookup x=some c:=by
 unfold E2;rw[F7];cases e:(cellsFrom (C+1) scope.names []).lookup x with
 |some c=>exact⟨c,rfl⟩
 |none =>
  rcases h with h|h
  ·have q:=dk scope.names (C+1) [] (.inl h);rw[e] at q;cases q
  ·exact h
theorem J0{env:Env}:∀{names:List (Str×NameKind)} {x:Str},names.lookup x=some .cell ->
  (names.map λ(n,k)=>if(k==NameKind.free&&env.scope.kind==.function&&env.kindOf n==some .cell) then(n,NameKind.cell) else(n,k)).lookup x=some .cell
 |[],_,h=>by simp at h
 |(n,k)::r,x,h=>by
  have ih:=@J0 env r x;show List.lookup x ((if(k==NameKind.free&&env.scope.kind==.function&&env.kindOf n==some .cell)=true then(n,NameKind.cell) else(n,k))::_)=_;cases hx:x==n with
  |true =>
   simp only[List.lookup_cons,hx] at h
   simp_all
  |false =>
   simp only[List.lookup_cons,hx] at h;by_cases hc:(k==NameKind.free&&env.scope.kind==.function&&env.kindOf n==some .cell)=true
   ·rw[aJ hc];simp only[List.lookup_cons,hx];exact ih h
   ·rw[aB hc];simp only[List.lookup_cons,hx];exact ih h
theorem EM{h:Heap}(ck:CellsOk h (C+1) (cellsFrom (C+1) scope.names [])){c:Addr}(e:(E2 scope cl C).lookup x=some c):C<c\/cl.lookup x=some c:=by
 unfold E2 at e;rw[F7] at e;cases e2:(cellsFrom (C+1) scope.names []).lookup x with
 |some c' =>
  rw[e2] at e;cases e;exact .inl (ck.empty x c (aK e2)).2
 |none =>
  rw[e2] at e;exact .inr e
theorem Tq{M:Model}{E:Value->Shared->Prop}{globals:Addr}{outer:Env}{Q:Env->Shared->Prop}(hQ:∀ dY:Heap,dY.Ns s.heap.objs.size (λ_=>none)->(∀ b o,s.heap.get? b=some o->dY.get? b=some o)->CellsOk dY (s.heap.objs.size + 1) (cellsFrom (s.heap.objs.size + 1) scope.names []) ->
   Q (newEnv scope s.heap.objs.size globals (E2 scope cl s.heap.objs.size) qual none .none (some outer) builtinsNs) { s with heap:=dY }) :
  wpAny M A (newFunctionEnv scope globals cl [] qual none .none (some outer)) Q E s:=by
 simp only[newFunctionEnv,Option.isSome_some,if_true];refine aa (wpAny_alloc ?_);refine aa (wpAny_layCells _ (λname kind cells=>by rfl) _ _ _ _ ?_);have ok:=cellsFrom_ok scope.names (s.heap.push { cls:=.type "dict",data:=.dict #[] }) (s.heap.objs.size+1) [] ⟨λ_ _ hm=>(nomatch hm),List.Pairwise.nil⟩ (by simp);rw[gF] at ok;rw[show({ s with heap:=s.heap.push { cls:=.type "dict",data:=.dict #[] } }:Shared).heap.objs.size=s.heap.objs.size+1 from gF ..];refine aa (af (af ?_));rw[x9];exact hQ _ ((Heap.Ns.new s.heap (.type "dict")).keeps (pushCells_keeps _ _)) (λb o e=>pushCells_keeps _ _ b o (ah _ e)) ok
def i5(X:Cx)(pins:List (Addr×Obj))(scope:Scope)(N':List Str)(cl:List (Str×Addr))(C:Addr)(s:Shared)(H:Hp)(fp:List Addr):Cx where
 prog:=X.prog
 w:=X.w
 K:=X.K
 mg:=X.mg
 base:=X.base
 A:=X.A
 N:=N'
 cV:=s
 iU:=H
 env:=compEnvC scope (E2 scope cl C) C X.env
 outer:=X.stack
 stack:=X.stack
 ex:=fp
 calm:=true
 fn:=λx=>decide (scope.names.lookup x=some .cell)
 pn:=X.pn++pins
 xe:=λ_ _=>False
structure dR(X:Cx)(scope:Scope)(N':List Str)(d7:List Nat)(cl:List (Str×Addr)):Prop where
 kind:scope.kind=.function
 cells:∀y∈scope.names,y.2=.cell->scope.names.lookup y.1=some .cell
 names:∀y∈scope.names,y.2=.local->scope.names.lookup y.1=some .local
 uI:closureFor scope X.env=pure cl
 cin:∀x c,cl.lookup x=some c->X.env.cells.lookup x=some c
 uJ:∀x,scope.names.lookup x=some .free->∃c,cl.lookup x=some c
 nd:N'.Nodup
 Lw:∀(i j:Nat),d7[i]?=some j->∃x,N'[i]?=some x/\X.N[j]?=some x/\scope.names.lookup x=some .free/\(X.env.kindOf x=some .cell\/X.env.kindOf x=some .free)
 zD:d7.length<=N'.length
theorem A2{env:Env}:∀{names:List (Str×NameKind)} {x:Str},names.lookup x=some .free ->
  (names.map λ(n,k)=>if(k==NameKind.free&&env.scope.kind==.function&&env.kindOf n==some .cell) then(n,NameKind.cell) else(n,k)).lookup x=some .cell \/
  (names.map λ(n,k)=>if(k==NameKind.free&&env.scope.kind==.function&&env.kindOf n==some .cell) then(n,NameKind.cell) else(n,k)).lookup x=some .free
 |[],_,h=>by simp at h
 |(n,k)::r,x,h=>by
  have ih:=@A2 env r x;show List.lookup x ((if(k==NameKind.free&&env.scope.kind==.function&&env.kindOf n==some .cell)=true then(n,NameKind.cell) else(n,k))::_)=_\/List.lookup x ((if(k==NameKind.free&&env.scope.kind==.function&&env.kindOf n==some .cell)=true then(n,NameKind.cell) else(n,k))::_)=_;cases hx:x==n with
  |true =>
   simp only[List.lookup_cons,hx] at h;cases h;by_cases hc:(NameKind.free==NameKind.free&&env.scope.kind==.function&&env.kindOf n==some .cell)=true
   ·rw[aJ hc];simp[List.lookup_cons,hx]
   ·rw[aB hc];simp[List.lookup_cons,hx]
  |false =>
   simp only[List.lookup_cons,hx] at h;by_cases hc:(k==NameKind.free&&env.scope.kind==.function&&env.kindOf n==some .cell)=true
   ·rw[aJ hc];simp only[List.lookup_cons,hx];exact ih h
   ·rw[aB hc];simp only[List.lookup_cons,hx];exact ih h
theorem J1{env:Env}:∀{names:List (Str×NameKind)} {x:Str},((names.map λ(n,k)=>if(k==NameKind.free&&env.scope.kind==.function&&env.kindOf n==some .cell) then(n,NameKind.cell) else(n,k)).lookup x=some .cell \/
  (names.map λ(n,k)=>if (k == NameKind.free && env.scope.kind == .function && env.kindOf n == some .cell) then (n,NameKind.cell) else (n,k)).lookup x=some .free)->names.lookup x=some .free \/ names.lookup x=some .cell
 |[],_,h=>by simp at h
 |(n,k)::r,x,h=>by
  have ih:=@J1 env r x;rw[aZ] at h;cases hx:x==n with
  |true =>
   simp only[List.lookup_cons,hx];by_cases hc:(k==NameKind.free&&env.scope.kind==.function&&env.kindOf n==some .cell)=true
   ·refine .inl ?_;simp only[Bool.and_eq_true,beq_iff_eq] at hc;rw[hc.1.1]
   ·simp only[if_neg hc,List.lookup_cons,hx] at h;rcases h with h|h
    ·exact .inr h
    ·exact .inl h
  |false =>
   simp only[List.lookup_cons,hx];by_cases hc:(k==NameKind.free&&env.scope.kind==.function&&env.kindOf n==some .cell)=true
   ·simp only[if_pos hc,List.lookup_cons,hx] at h;exact ih h
   ·simp only[if_neg hc,List.lookup_cons,hx] at h;exact ih h
def B2(Z:St)(d7:List Nat)(n:Nat):St:=d7.map (λj=>(Z[j]?).join)++List.replicate (n-d7.length) none
section
variable{pins:List (Addr×Obj)}{Z:St}{H:Hp}
theorem Inv.Wz{h1:Heap}{tk:Nat}(I:Inv X pins Z H s)(S:dR X scope N' d7 cl)(hc:X.calm=true)(hf:∀b∈fp,C0 X pins H b)(ho:∀b∈fp,∃o,s.heap.get? b=some o)(hC:s.heap.objs.size<=C)(hn:∃m,h1.Ns C m)(k:∀b o,s.heap.get? b=some o->h1.get? b=some o)(ck:CellsOk h1 (C+1) (cellsFrom (C+1) scope.names [])) :
  Inv (i5 X pins scope N' cl C s H fp) [] (B2 Z d7 N'.length) H { s with heap:=h1,toks:=tk }:=by
 obtain⟨m,hm⟩:=hn;have JQ:=S.kind;have Ci:∀b o,s.heap.get? b=some o->b≠C:=λb o e z=>absurd (ao e) (by simp_all);have two:∀{x:Str} {c:Addr},(E2 scope cl C).lookup x=some c->(C<c/\h1.IsCell c none/\(x,c)∈cellsFrom (C+1) scope.names [])\/(cl.lookup x=some c/\(cellsFrom (C+1) scope.names []).lookup x=none):=λ{x c} h=>by
  unfold E2 at h;rw[F7] at h;cases e:(cellsFrom (C+1) scope.names []).lookup x with
  |some c' =>
   rw[e] at h;cases h;have hm:=aK e;exact .inl ⟨(ck.empty x c hm).2,(ck.empty x c hm).1,hm⟩
  |none =>
   rw[e] at h;exact .inr ⟨h,rfl⟩
 have sP:∀{x:Str} {c:Addr},cl.lookup x=some c->c<s.heap.objs.size:=λ{x c} h=>by
  obtain⟨v,o,e,_⟩:=I.cell x c (S.cin x c h);exact ao e
 have frees:∀{x:Str},scope.names.lookup x=some .free->(E2 scope cl C).lookup x=cl.lookup x:=λ{x} h=>by
  unfold E2;rw[F7];cases e:(cellsFrom (C+1) scope.names []).lookup x with
  |some c' =>
   have:=S.cells _ (O1 (aK e)) rfl
   simp_all
  |none=>rfl
 refine⟨⟨I.mod,JQ,I.ok.glob,I.ok.blt,hC,?_,?_,?_,λ_=>I.ok.hd hc,I.ok.frames,.inl rfl,?_,I.bs,?_,?_,?_,I.stack,I.Y9⟩,rfl,I.bare,Un.kept k,⟨m,hm,?_⟩,?_,?_,?_,?_,I.bB.kept k,?_,λcL z=>absurd (show(none:Option (List (Option V)))=some cL from z) (by simp)⟩
 ·intro x y c h1 h2;rcases two h1 with⟨l1,_,q1⟩|⟨q1,_⟩<;>rcases two h2 with⟨l2,_,q2⟩|⟨q2,_⟩
  ·exact PySem.name_of_addr ck.apart q1 q2
  ·exact absurd (cv l1 (ax (sP q2) hC)) (bA _)
  ·exact absurd (cv l2 (ax (sP q1) hC)) (bA _)
  ·exact I.ok.inj x y c (S.cin x c q1) (S.cin y c q2)
 ·intro x hx;rcases J1 hx with z|z
  ·obtain⟨c,hc⟩:=S.uJ x z;exact⟨c,(frees z).trans hc⟩
  ·have q:=dk scope.names (C+1) [] (.inl z);obtain⟨c,hc⟩:=dW.mp q;refine⟨c,?_⟩;show(E2 scope cl C).lookup x=some c;unfold E2;rw[F7,hc]
   rfl
 ·intro x c hf h;have z:=aW hf;have q:=dk scope.names (C+1) [] (.inl z);rcases two h with⟨l,_⟩|⟨_,e⟩
  ·exact bX (jr hC l)
  simp_all
 ·intro b hb;obtain⟨f0,f1,f2,f3,f4,f5⟩:=hf b hb;obtain⟨o,e⟩:=ho b hb;refine⟨Ci b o e,λx c h=>?_⟩;rcases two h with⟨l,_⟩|⟨q,_⟩
  ·intro z;subst z;exact absurd (cv l (ax (ao e) hC)) (bA _)
  ·exact f4 x c (S.cin x c q)
 ·exact aE I.ok.ml I.sz
 ·intro b o e hb;obtain⟨f0,f1,f2,f3,f4,f5⟩:=hf b hb;rcases f3 with f3|f3
  ·exact I.ok.jw b o e f3
  ·exact absurd (ao (I.ok.bs b o e).1) (Iq.mpr f3)
 ·intro b hb z;obtain⟨f0,f1,f2,f3,f4,f5⟩:=hf b hb;rcases av.mp (I.N4 b z) with z|z
  ·exact f1 z
  ·exact f2 z
 ·intro i x v uu h2 h3;have hi:i<d7.length:=by
   unfold B2 at h2;by_cases hi:i<d7.length
   ·exact hi
   ·rw[bY (by simpa using hi),df] at h2
    simp_all
  obtain⟨j,hj⟩:∃j,d7[i]?=some j:=⟨_,ak hi⟩
  have hs:Z[j]?=some (some v):=by
   unfold B2 at h2;rw[aA (by simpa using hi),aq,hj] at h2;simp only[Option.map_some] at h2;cases e:Z[j]? with
   |none=>rw[e] at h2;cases h2
   |some a=>rw[e] at h2;exact dM some (aF h2)
  obtain⟨y,Ju,Jt,yf,Js⟩:=S.Lw i j hj;have ey:y=x:=by
   have ur:N'[i]?=some x:=uu;rw[Ju] at ur;exact aF ur
  subst ey;obtain⟨m0,CH,hl⟩:=I.loc;obtain ⟨u,ru,hu⟩:=hl j y v Jt hs (by
   rcases Js with z|z
   ·exact .inr (.inl z)
   ·exact .inr (.inr z))
  refine⟨u,ru,.inr ⟨A2 yf,?_⟩⟩;rcases hu with⟨z,_⟩|⟨_,c,ue,CU⟩
  ·simp_all
  ·obtain⟨c',iR⟩:=S.uJ y yf;have e:=S.cin y c' iR;rw[ue] at e;cases e;obtain⟨o,e1,e2⟩:=CU;exact⟨c,(frees yf).trans iR,o,k _ _ e1,e2⟩
 ·intro x c h;rcases two h with⟨_,q,_⟩|⟨q,_⟩
  ·exact⟨none,q⟩
  ·obtain⟨v,o,e1,e2⟩:=I.cell x c (S.cin x c q);exact⟨v,o,k _ _ e1,e2⟩
 ·exact I.bB.fresh hC
 ·intro x c h;rcases two h with⟨l,_⟩|⟨q,_⟩
  ·exact I.bB.fresh (bX (jr hC l))
  ·exact I.eF x c (S.cin x c q)
 ·intro p hp;have kI:p∈X.pn++pins:=by simpa[i5] using hp
  obtain⟨p1,p2,p3,p4,p5⟩:=I.pin p kI;refine⟨k _ _ p1,p2,Ci _ _ p1,λz=>?_,p5⟩;rcases av.mp (I.N4 _ z) with z|z
  ·exact p3 z
  ·exact p4 z
 ·unfold B2;show _=N'.length;rw[dn,ai,vk];have:=S.zD;omega
theorem Inv.TC{fb:List (Addr×Obj)}{cb:St}{H':Hp}{s':Shared}(I:Inv X pins Z H s)(hf:∀b∈fp,C0 X pins H b)(J:Inv (i5 X pins scope N' cl C s H fp) fb cb H' s'):Inv X pins Z H' s' :=
 I.AQ (ch:=fp) J.os J.base J.bB J.bare λb hb=>by
  obtain⟨f0,f1,f2,f3,f4,f5⟩:=hf b hb;exact⟨f3,f1,f4,f5⟩
theorem Inv.NN{D:Addr}{ys:List V}{aV:List Value}{n:Nat}(I:Inv X pins Z H s)(f:C0 X pins H D)(hs:X.cV.heap.objs.size<=D)(hv:Vals ys aV)(hz:ys.length<=sizeLine)(ho:s.heap.get? D=some { cls:=.type "list",data:=.seq aV.toArray n }):Inv X pins Z (upd H D (.lst ys)) s:=by
 obtain⟨f0,f1,f2,f3,f4,f5⟩:=f;have eL:∀b o,X.cV.heap.get? b=some o->b≠D:=λb o e z=>absurd (ao e) (by rw[z];exact Iq.mpr hs);have tup:∀b u,H b=some u->upd H D (.lst ys) b=some u:=λb u e=>by rw[f9 (j7 e f0)];exact e
 refine⟨I.ok,I.os,I.bare,⟨?_,?_,?_,I.base.there,?_,?_,?_⟩,I.loc,I.cell,?_,?_,?_,?_,I.len,I.sg⟩
 ·exact λb o e n1 n2 n3=>I.base.keep b o e n1 n2 n3
 ·exact λb o e n1 n2 n3=>I.base.slot b o e n1 n2 n3
 ·exact λb o e n1 n2=>by rw[f9 (eL b o e)];exact I.base.free b o e n1 n2
 ·exact λb xs e=>tup _ _ (I.base.ir b xs e)
 ·exact λb o u e=>tup _ _ (I.base.hU b o u e)
 ·exact λb ps e=>by
   obtain⟨more,q⟩:=I.base.iu b ps e;exact⟨more,tup _ _ q⟩
 ·rw[f9 f1.symm];exact I.free
 ·exact λx c e=>by rw[f9 (f4 x c e)];exact I.eF x c e
 ·intro p hp;obtain⟨p1,p2,p3⟩:=I.pin p hp;exact⟨p1,by rw[f9 (f5 p hp)];exact p2,p3⟩
 ·intro a o e;by_cases ha:a=D
  ·subst ha;rw[m9] at e;cases e;exact⟨hz,aV,n,hv,ho⟩
  ·rw[f9 ha] at e;have q:=I.bB a o e;refine q.F3 (λb u _ h=>h) (λb hb=>tup _ _ hb) (λb xs hb=>tup _ _ hb)
end
def Bf(wi:TI)(d7:List Nat)(n:Nat)(g:TG)(tc:TT)(te:TE):TE:=λZ H Q=>wi Z H λJ H1=>∃W:Nat->Nat->List V->St->Hp->Prop,(∃m,W 0 m [] (B2 Z d7 n) H1)/\∀i m ys Z H,W i m ys Z H ->
 (J.stop i H/\∀p,H p=none->Q (.ref p) (upd H p (.lst ys))) \/
 (J.go i H/\ys.length < sizeLine/\∀ x H',J.qL i H x H'->g x Z H' λcS H2=>tc cS H2 λb H3 =>
  if b=true then te cS H3 λy H4=>∃ m',m' < m/\W (i + 1) m' (ys ++ [y]) cS H4 else ∃ m',m' < m/\W (i + 1) m' ys cS H3)
noncomputable abbrev RJ(aV:List Value)(n:Nat):Obj:={ cls:=.type "list",data:=.seq aV.toArray n }
section
variable{pins:List (Addr×Obj)}{Z:St}{H:Hp}
structure Ib(X:Cx)(n0:Nat){α:Type}(K:Addr->α->Heap->Obj->Prop)(fin:Addr->α->HO):Prop where
 nc:∀{a y h o},K a y h o->∀v,o.data≠.cell v
 get:∀{a y h o},K a y h o->h.get? a=some o
 F3:∀{a y h h' o},K a y h o->h'.get? a=some o->K a y h' o
 done:∀{pins Z H s a y o},n0<=a->Inv X pins Z H s->C0 X pins H a->X.cV.heap.objs.size<=a->K a y s.heap o->Inv X pins Z (upd H a (fin a y)) s
theorem UZ{α:Type}{K:Addr->α->Heap->Obj->Prop}{fin:Addr->α->HO}{y0:α}{o0:Obj}{Bd:α->Prop}{tb:α->St->Hp->(α->Hp->Prop)->Prop}{body:(Shared->Prop)->Shared->Prop}{LP:Shared->Prop}{it:Addr}{tn:Nat->Heap->Prop}{J:It}{R:Result->Shared->Prop}{W:Nat->Nat->α->St->Hp->Prop}{m0:Nat}{Q:VK}{dY:Heap}{env:Env}(G:Ib X s.heap.objs.size K fin)(S:dR X scope N' d7 cl)(hc:X.calm=true)(hg:PG (i5 X pins scope N' cl C s H fp) tg g)(ht:ly (i5 X pins scope N' cl C s H fp) ifs tc)(I:Inv X pins Z H s)(T:Turn X.prog X.w X.K tg J fp it tn)(st:tn 0 s.heap)(hf:∀b∈fp,C0 X pins H b)(w0:W 0 m0 y0 (B2 Z d7 N'.length) H)(turn:∀ i m y Z H,W i m y Z H->(J.stop i H/\∀ p,H p=none->Q (.ref p) (upd H p (fin p y))) \/
   (J.go i H/\Bd y/\∀ x H',J.qL i H x H'->g x Z H' λcS H2=>tc cS H2 λb H3 =>
    if b=true then tb y cS H3 λy' H4=>∃ m',m' < m/\W (i + 1) m' y' cS H4 else ∃ m',m' < m/\W (i + 1) m' y cS H3))(yP:∀s' H' m,Inv X pins Z H' s'->Q (.ref s.heap.objs.size) H'->s'.heap.Ns C m->H' C=none->s.heap.objs.size<=C->R (.ok .next) s')(nK:∃m,dY.Ns C m)(Cz:∀b o,(s.heap.push o0).get? b=some o->dY.get? b=some o)(lg:CellsOk dY (C+1) (cellsFrom (C+1) scope.names []))(eC:s.heap.objs.size+1=C)(k0:K s.heap.objs.size y0 dY o0)(ev:(i5 X pins scope N' cl C s H fp).env=env)(yM:∀ y o fb cb H' s' (P:α->Hp->Prop) (R':Shared->Prop),Bd y->K s.heap.objs.size y s'.heap o->(∀ {vn H8 s8},Inv (i5 X pins scope N' cl C s H fp) fb vn H8 s8->s8.heap.get? s.heap.objs.size=some o)->Inv (i5 X pins scope N' cl C s H fp) fb cb H' s'->tb y cb H' P ->
   (∀ s8 H8 y' h' t' o',Inv (i5 X pins scope N' cl C s H fp) fb cb H8 s8->P y' H8->(∀ b u,b ≠ s.heap.objs.size->s8.heap.get? b=some u->h'.get? b=some u)->K s.heap.objs.size y' h' o'->R' { s8 with heap:=h',toks:=t' })->body R' s')(lp:∀ (I:Nat->Shared->Prop),(∀ n s,I n s->wpAny (model X.prog X.w) X.A (pyNext (.ref it)) (λr bC=>match r with
   |none=>R (.ok .next) bC
   | some v=>wpAny (model X.prog X.w) X.A (letOwnedTupleGo tg (.ref it) v) (λ_ bC=>wpAny (model X.prog X.w) X.A (assign tg env v) (λ_ fB =>
     wpAny (model X.prog X.w) X.A (forIn ifs true λc r=>if r=true then do let ok <- isTrue c env (eval c env);pure (ForInStep.yield ok) else pure (ForInStep.yield r)) (λok gU =>
      if ok=true then body (λkB=>∃ m,m < n/\I m kB) gU else ∃ m,m < n/\I m gU) (λ_ _=>False) fB) (λ_ _=>False) bC) (λ_ _=>False) bC) (λ_ _=>False) s)->∀ n,I n { s with heap:=dY }->LP { s with heap:=dY }) :
  tn 0 dY/\LP { s with heap:=dY }:=by
 subst ev;generalize Kq:s.heap.push o0=H2 at Cz;generalize eD:s.heap.objs.size=D at *;have Dg:D≠C:=by omega
 have lt:∀b o,s.heap.get? b=some o->b<D:=λb o e=>by rw[<- eD];exact ao e
 have vD:D<=C:=by omega
 have qR:∀b o,s.heap.get? b=some o->b≠C:=λb o e=>aD (ax (lt b o e) vD);have sW:∀b o,s.heap.get? b=some o->b≠D:=λb o e=>aD (lt b o e);have old:∀b o,s.heap.get? b=some o->dY.get? b=some o:=λb o e=>Cz b o (Kq▸ah _ e);have jW:∀b∈fp,∃o,s.heap.get? b=some o:=λb hb=>by
  obtain⟨o,e,_⟩:=T.obj _ _ st b hb;exact⟨o,e⟩
 have Df:D∉fp:=λhm=>by
  obtain⟨o,e⟩:=jW D hm;exact sW D o e rfl
 have X1:Inv (i5 X pins scope N' cl C s H fp) [] (B2 Z d7 N'.length) H { s with heap:=dY } :=
  I.Wz S hc hf jW (by rw[eD];omega) nK old lg
 have BV:=T.keep _ _ _ st λb _ o e=>old b o e;have KR:∀{H':Hp},(∀b∈fp,H' b=none)->∀b∈fp,C0 (i5 X pins scope N' cl C s H fp) [] H' b:=λhn b hb=>by
  obtain⟨f0,f1,f2,f3,f4,f5⟩:=hf b hb;obtain⟨o,e⟩:=jW b hb;refine⟨hn b hb,?_,?_,.inl hb,λx c q=>(EM lg q).elim (λl z=>absurd (cv (z▸l) (ax (lt b o e) vD)) (bA _)) λq=>f4 x c (S.cin x c q),λp hp=>?_⟩
  ·exact qR b o e
  ·exact λz=>by
    rcases av.mp (I.N4 b z) with z|z
    ·exact f1 z
    ·exact f2 z
  ·have kI:p∈X.pn++pins:=by simpa[i5] using hp
   exact f5 p kI
 have fD:∀{H':Hp},H' D=none->C0 (i5 X pins scope N' cl C s H fp) [] H' D:=λhn=>by
  refine⟨hn,Dg,λz=>?_,.inr (by show s.heap.objs.size<=D;omega),λx c q=>?_,λp hp=>?_⟩
  ·exact absurd (I.AH (a:=D) ()) λJI=>by
    rcases av.mp (I.N4 D z) with z|z
    ·exact absurd I.lt (by rw[<- z,eD];exact bA _)
    ·exact JI z
  ·rcases EM lg q with l|q
   ·exact λz=>absurd (ax (z▸l) vD) (bA _)
   ·obtain⟨v,o,e,_⟩:=I.cell x c (S.cin x c q);exact sW c o e
  ·have kI:p∈X.pn++pins:=by simpa[i5] using hp
   exact sW _ _ (I.pin p kI).1
 refine⟨BV,lp (λn s'=>∃(i:Nat) (y:α) (cb:St) (H':Hp) (o:Obj),Inv (i5 X pins scope N' cl C s H fp) [] cb H' s'/\tn i s'.heap/\(∀b∈fp,H' b=none)/\H' D=none/\K D y s'.heap o/\W i n y cb H') ?_ m0 ⟨0,y0,_,H,o0,X1,BV,λb hb=>(hf b hb).1,I.bB.fresh (),k0,w0⟩⟩;rintro n s3 ⟨i,y,kr,H3,o,I3,sx,ux,d3,k3,w3⟩;have Ia:Inv (i5 X pins scope N' cl C s H fp) [(D,o)] kr H3 s3:=I3.Q8 λp hp=>by
  have z:p=(D,o):=by simpa using hp
  subst z;obtain⟨f0,f1,f2,_⟩:=fD d3;exact⟨G.get k3,f0,f1,f2,G.nc k3⟩
 have rq:∀{H':Hp},(∀b∈fp,H' b=none)->∀b∈fp,C0 (i5 X pins scope N' cl C s H fp) [(D,o)] H' b:=λ{H'} hn b hb=>by
  obtain⟨f0,f1,f2,f3,f4,f5⟩:=KR hn b hb;refine⟨f0,f1,f2,f3,f4,λp hp=>?_⟩;have kI:p∈(i5 X pins scope N' cl C s H fp).pn\/p=(D,o):=by simpa using hp
  rcases kI with z|z
  ·exact f5 p (cy _ z)
  ·subst z;exact λz=>Df (by rw[show D=b from z];exact hb)
 rcases turn i n y kr H3 w3 with⟨stop,q⟩|⟨go,hz,step⟩
 ·refine cJ (T.done (i5 X pins scope N' cl C s H fp) rfl rfl rfl rfl i _ s3 _ H3 _ Ia (rq ux) sx stop) λr s4 ⟨hr,I4⟩=>?_;subst hr;have J4:=I.TC hf I4;have KS:C0 X pins H3 D:=by
   refine⟨d3,bu (by rw[<- eD];exact I.lt),I.AH (),.inr (by have:=I.sz;omega),λx c q=>?_,λp hp=>?_⟩
   ·obtain⟨v,o,e,_⟩:=I.cell x c q;exact sW c o e
   ·exact sW _ _ (I.pin p hp).1
  obtain⟨mC,JN,_⟩:=I4.loc;exact yP s4 _ mC (G.done (aj _) J4 KS (by have:=I.sz;omega) (G.F3 k3 (I4.pin (D,o) (by simp)).1)) (q D d3) JN (by rw[f9 Dg.symm];exact I4.free) vD
 ·refine cJ (T.item (i5 X pins scope N' cl C s H fp) rfl rfl rfl rfl i _ s3 _ H3 _ Ia (rq ux) sx go) λr s4 ⟨u,hr,h4⟩=>?_;subst hr;refine cJ h4 λ_ s5 bp=>?_;obtain⟨x,H5,I5,r5,y5,pC,zh⟩:=bp;have Bv:=I5.pinned (rq zh) (T.obj _ _ pC);refine cJ (hg _ s5 _ H5 x u _ Bv r5 (step x H5 y5)) λ_ s6 bp=>?_;obtain⟨pj,H6,I6,q6⟩:=bp;refine cJ (ht _ s6 pj H6 _ I6 q6) λok s7 ⟨H7,I7,q7⟩=>?_;have back:∀{vn:St} {H8:Hp} {s8:Shared},Inv (i5 X pins scope N' cl C s H fp) ([(D,o)]++W7 fp s5.heap) vn H8 s8->(∀b∈fp,H8 b=none)/\tn (i+1) s8.heap/\H8 D=none/\s8.heap.get? D=some o :=
   λ{vn H8 s8} I8=>by
    have pf:∀b∈fp,∀o,s5.heap.get? b=some o->s8.heap.get? b=some o/\H8 b=none:=λb hb o e=>by
     have:=I8.pin (b,o) (bt _ (bt _ (T6 hb e)));exact⟨this.1,this.2.1⟩
    have pd:=I8.pin (D,o) (by simp);refine⟨λb hb=>?_,T.keep _ _ _ pC λb hb o e=>(pf b hb o e).1,pd.2.1,pd.1⟩;obtain⟨o,e,_⟩:=T.obj _ _ pC b hb;exact(pf b hb o e).2
  cases ok with
  |false =>
   obtain⟨m',hm,w7⟩:=q7;obtain⟨b1,b2,b3,b4⟩:=back I7;exact⟨m',hm,i+1,y,pj,H7,o,I7.Q8 λp hp=>absurd hp (by simp),b2,b1,b3,G.F3 k3 b4,w7⟩
  |true =>
   refine yM y o _ pj H7 s7 _ _ hz (G.F3 k3 (back I7).2.2.2) (λI8=>(back I8).2.2.2) I7 q7 λs8 H8 y' h' t' o' I8 ⟨m',hm,w8⟩ kp k8=>?_;obtain⟨b1,b2,b3,b4⟩:=back I8;have Yy:Inv (i5 X pins scope N' cl C s H fp) [] pj H8 s8:=I8.Q8 λp hp=>absurd hp (by simp);obtain⟨f0,f1,f2,f3,f4,f5⟩:=fD (H':=H8) b3;exact⟨m',hm,i+1,y',pj,H8,o',Yy.turned (t':=t') (λb o hb e=>kp b o hb e) f0 f1 f3 f4 f5,T.keep _ _ _ b2 λb hb o e=>kp b o (λz=>Df (by rw[<- z];exact hb)) e,b1,b3,k8,w8⟩
def KL(a:Addr)(ys:List V)(h:Heap)(o:Obj):Prop:=∃aV n,Vals ys aV/\ys.length<=sizeLine/\o=RJ aV n/\h.get? a=some o
theorem TM{n0:Nat}:Ib X n0 KL λ_ ys=>.lst ys where
 nc:=λ⟨_,_,_,_,e,_⟩ v z=>by subst e;cases z
 get:=λ⟨_,_,_,_,_,e⟩=>e
 F3:=λ⟨aV,n,h1,h2,h3,_⟩ e=>⟨aV,n,h1,h2,h3,e⟩
 done:=λ_ I f hs ⟨aV,n,h1,h2,h3,e⟩=>I.NN f hs h1 h2 (h3▸e)
theorem FR{it:Addr}{tn:Nat->Heap->Prop}{J:It}{xx:Addr->Shared->Hp->Value->Shared->Prop}{RR:Value->Addr->Result->Shared->Prop}{E:Value->Shared->Prop}{W:Nat->Nat->List V->St->Hp->Prop}{m0:Nat}{Q:VK}(S:dR X scope N' d7 cl)(hc:X.calm=true)(hg:∀C s H,PG (i5 X pins scope N' cl C s H fp) tg g)(ht:∀C s H,ly (i5 X pins scope N' cl C s H fp) ifs tc)(he:∀C s H,PE ((i5 X pins scope N' cl C s H fp).S5 (xx C s H)) elt te)(I:Inv X pins Z H s)(T:Turn X.prog X.w X.K tg J fp it tn)(st:tn 0 s.heap)(hf:∀b∈fp,C0 X pins H b)(w0:W 0 m0 [] (B2 Z d7 N'.length) H)(turn:∀ i m ys Z H,W i m ys Z H->(J.stop i H/\∀ p,H p=none->Q (.ref p) (upd H p (.lst ys))) \/
   (J.go i H/\ys.length < sizeLine/\∀ x H',J.qL i H x H'->g x Z H' λcS H2=>tc cS H2 λb H3 =>
    if b=true then te cS H3 λy H4=>∃ m',m' < m/\W (i + 1) m' (ys ++ [y]) cS H4 else ∃ m',m' < m/\W (i + 1) m' ys cS H3))(yP:∀D C s' H' m,Inv X pins Z H' s'->Q (.ref D) H'->s'.heap.Ns C m->H' C=none->s.heap.objs.size<=C->RR (.ref D) C (.ok .next) s')(Km:∀D C e s',s.heap.objs.size<=C->xx C s H e s'->notedBy (model X.prog X.w) X.A (compEnvC scope (E2 scope cl C) C X.env) (λe s'=>RR (.ref D) C (.error e) s') e s') :
  wpAny (model X.prog X.w) X.A (newList []) (λacc gU=>wpAny (model X.prog X.w) X.A (newFunctionEnv scope X.env.globals cl [] X.env.qual none .none (some X.env)) (λqg kC =>
   qg.frame=X.env.frame/\codeAny (model X.prog X.w) X.A (.compStart (.ListComp elt [⟨tg,iter,ifs,0⟩] scope pos) 0 (.ref it) acc { qg with scope:=relabel scope X.env }) (RR acc qg.locals) kC) E gU) E s:=by
 refine cc (Tq λdY pR lP lg=>?_);have eC:(s.heap.push { cls:=.type "list",dict:=none,data:=.seq ([]:List Value).toArray }).objs.size=s.heap.objs.size+1:=gF ..
 replace eC:=eC.symm
 generalize (s.heap.push { cls:=.type "list",dict:=none,data:=.seq ([]:List Value).toArray }).objs.size=C at *;refine (λL=>⟨rfl,codeAny_compStart_list L.2 (T.self _ 0 _ _ _ L.1 L.2)⟩) (UZ (tb:=λys Z H P=>te Z H λy H'=>P (ys ++ [y]) H')
  (body:=λP gU=>wpAny (model X.prog X.w) X.A (eval elt (compEnvC scope (E2 scope cl C) C X.env)) (λx kC=>wpAny (model X.prog X.w) X.A (call (.builtin "list.append") [.ref s.heap.objs.size,x]) (λ_ kB=>P kB) (λ_ _=>False) kC) (notedBy (model X.prog X.w) X.A (compEnvC scope (E2 scope cl C) C X.env) λe s'=>RR (.ref s.heap.objs.size) C (.error e) s') gU)
  TM S hc (hg C s H) (ht C s H) I T st hf w0 turn (λs' H' m=>yP _ C s' H' m) ⟨_,pR⟩ lP lg eC ⟨[],0,.nil,bG _,rfl,lP _ _ (aw _ rfl)⟩ rfl (λys o fb cb H' s' P R' hz k hb I' q hR=>?_) (λI turn n h=>SQ I turn n h))
 ·refine bK (he C s H _ s' cb H' _ (I'.S5 _) q) (λxv s8 bp=>?_) λe s' hx=>Km _ C e s' () hx;obtain⟨y,H8,I8,r8,q8⟩:=bp;have I8:=I8.zV;obtain⟨aV,nn,v3,z3,rfl,_⟩:=k;have b4:=hb I8;refine lB F.slot_list_append ⟨_,b4,rfl⟩ F.entry_list_append (F.args_list_append_2 _ _) (YB _ aV.toArray nn xv (by rw[aG];have:=v3.length;omega)) ⟨b4,?_⟩;have q0:=Zy b4 (·.push xv);rw[show aV.toArray.push xv=(aV++[xv]).toArray by simp] at q0;exact hR s8 H8 _ _ s8.toks _ I8 q8 (λb' u hb hu=>(bJ s8.heap (Obj.mapSeq (·.push xv)) (bW hb)).trans hu) ⟨_,_,v3.append (.cons r8 .nil),by rw[dn,vj];omega,rfl,q0⟩
theorem Inv.MP{h':Heap}{s2:Shared}{H2:Hp}(I:Inv X pins Z H s)(hC:s2.heap.objs.size<=C)(I2:Inv X pins Z H2 s2)(hn:H C=none)(sb:Heap.SameBut C s.heap h'):Inv X pins Z H { s with heap:=h' }:=by
 have f:=I2.qu (H':=H) hC hn;obtain⟨f0,f1,f2,f3,f4,f5⟩:=f;exact I.turned (t':=s.toks) (λb o hb e=>sb.extBut b o hb e) f0 f1 f3 f4 f5
theorem FU{M:Model}{E:Value->Shared->Prop}{a:Sem Value}{b:Sem Env}{P:Env->Prop}{Q:Value->Env->Shared->Prop}(h:wpAny M A a (λx s1=>wpAny M A b (λy s2=>P y/\Q x y s2) E s1) E s):wpAny M A a (λx s1=>wpAny M A b (λy s2=>Q x y s2) E s1) E s :=
 bK h (λ_ _ h=>bK h (λ_ _ h=>h.2) λ_ _ z=>z) λ_ _ z=>z
theorem En{wi:TI}(S:dR X scope N' d7 cl)(hc:X.calm=true)(hi:PI X tg iter wi)(hg:∀pins C s H fp,PG (i5 X pins scope N' cl C s H fp) tg g)(ht:∀pins C s H fp,ly (i5 X pins scope N' cl C s H fp) ifs tc)(he:∀pins C s H fp,PE (i5 X pins scope N' cl C s H fp) elt te)(hs:∀x,foldedSetIterable iter X.env x=pure x):PE X (.ListComp elt [⟨tg,iter,ifs,0⟩] scope pos) (Bf wi d7 N'.length g tc te):=by
 intro pins s Z H Q I h;refine Il rfl hs S.uI S.kind S.names (cJ (hi pins s Z H _ I h) λxv bC dY=>cJ dY λvE fB jU=>?_);obtain⟨it,fp,tn,J,H2,e,I2,T,nt,f2,W,⟨m0,w0⟩,turn⟩:=jU;subst e;refine FU (FR S hc (λC s H=>hg pins C s H fp) (λC s H=>ht pins C s H fp) (λC s H=>he pins C s H fp) I2 T nt f2 w0 turn ?_ λ_ _ _ _ _ z=>z.elim);intro D C s' H' m I' q hn hC iQ;exact⟨m,hn,λh' sb=>⟨.ref D,H',I'.MP iQ I2 hC sb,rfl,q⟩⟩
theorem SA{sy px:Pos}{wi:TI}{i:Nat}(S:dR X scope N' d7 cl)(hc:X.calm=true)(hi:PI X tg iter wi)(hg:∀pins C s H fp,PG (i5 X pins scope N' cl C s H fp) tg g)(ht:∀pins C s H fp,ly (i5 X pins scope N' cl C s H fp) ifs tc)(he:∀pins C s H fp,PE (i5 X pins scope N' cl C s H fp) elt te)(hs:∀x,foldedSetIterable iter X.env x=pure x)(hN:X.Nd)(tY:X.N[i]?=some x)(hx:Loc X.env.scope x)(hf:X.fn x=true\/X.env.scope.names.lookup x=some .local) :
  PS X (.Assign [.Name x px] (.ListComp elt [⟨tg,iter,ifs,0⟩] scope pos) sy) (uS (Bf wi d7 N'.length g tc te) (Z4 i)):=by
 intro pins s Z H D I h;have vH:∃b,swapsWith (.ListComp elt [⟨tg,iter,ifs,0⟩] scope pos) (some (.Name x px)) sy.line X.env=pure b:=⟨_,rfl⟩
 obtain⟨b,vH⟩:=vH;cases b with
 |false=>exact GK hN tY hx (En S hc hi hg ht he hs) vH hf pins s Z H D I h
 |true =>
  rw[exec_Assign_Name_used _ _ _ _ vH];refine aa (Ij (aa ?_));refine aa (bK (Il rfl hs S.uI S.kind S.names
   (cJ (hi pins s Z H _ I h) λxv bC dY=>cJ dY λvE fB jU=>?_)) (λ_ s' hq=>af (af hq)) λ_ _ e=>e)
  obtain⟨it,fp,tn,J,H2,e,I2,T,nt,f2,W,⟨m0,w0⟩,turn⟩:=jU;subst e;refine FU (FR (Q:=λv H1=>Z4 i v Z H1 D.nx) S hc (λC s H=>hg pins C s H fp) (λC s H=>ht pins C s H fp) (λC s H=>he pins C s H fp) I2 T nt f2 w0 turn ?_ λ_ _ _ _ _ z=>z.elim);intro Dl C s' H' m I' q hn hC iQ;refine wpAny_assign_Name (FK I' hN tY hx (v:=.ref Dl) rfl (λs3 I3 ⟨a,sb,ha⟩=>?_) hf);have Kr:C≠a:=by
   obtain⟨f0,f1,f2,f3,f4,f5⟩:=I2.qu (H':=H') iQ hC;rcases ha with z|z
   ·rw[z];exact f1
   ·exact λz'=>f4 _ _ z z'.symm
  obtain⟨f0,f1,f2,f3,f4,f5⟩:=I2.qu (H':=H') iQ hC;refine⟨m,hn.sameBut sb Kr,λh3 IU=>⟨_,H',I3.turned (t':=s3.toks) (λb o hb e=>IU.extBut b o hb e) f0 f1 f3 f4 f5,q⟩⟩
end
end L2
namespace HT
open PySem PyProof.Rows
end HT
namespace L2
open PySem PySem.Spec PyProof.Rows
section
variable{X:Cx}
theorem Sn:j8 X (.builtin "isinstance") (λxs H Q=>∃x t c b,xs=[x,.ty c]/\gb X.K H x t/\PySem.W.kitOne X.K t (.type c)=some b/\Q (.bl b) H):=by
 intro pins s Z H xs us Q I r h;obtain⟨x,t,c,b,rfl,hT,hk,q⟩:=h;obtain⟨u,w',rfl,ru,fj⟩:=vals2 r;cases (show w'=Value.type c from fj);exact VB I ru hT hk λtk=>⟨.bl b,H,I.tok tk,rfl,q⟩
theorem Vd(hc:X.calm=true):j8 X (.builtin "all") (λxs H Q=>∃(a:Addr) (bs:List Bool),xs=[.ref a]/\fu X.K H a (bs.map V.bl)/\Q (.bl (bs.all id)) H):=by
 intro pins s Z H xs us Q I r h;obtain⟨a,bs,rfl,ha,q⟩:=h;obtain⟨u,rfl,ru⟩:=vals1 r;cases ru;obtain⟨aV,rv,p,hz⟩:=I.list ha;refine call_all_walk ?_;refine eY p.isList ?_;have eL:a≠s.heap.objs.size:=by
  obtain⟨o,e,_⟩:=id p.isList;exact aD (ao e)
 have hl:=rv.length;rw[ai] at hl;refine⟨s.heap.objs.size,_,_,_,_,_,λi=>bs.getD i true,rfl,xg (A:=X.A.in1) (I.ok.hd hc) _ a eL aV.toArray,⟨⟨_,aw _ rfl,rfl,rfl⟩,?_⟩,?_,λh' tk k=>?_⟩
 ·obtain⟨o,e,q1⟩:=id p.isList;exact⟨o,ah _ e,q1⟩
 ·intro i v s' Q' E' hP hQ;have hv:aV[i]?=some v:=by simpa using hP
  have hi:i<bs.length:=by rw[hl];exact(ay.mp hv).1
  obtain⟨u',pN,xI⟩:=rv.get (by rw[aq,ak hi];rfl);rw[hv] at pN;cases pN;cases (show v=Value.bool bs[i] from xI);refine bN ?_;have:bs.getD i true=bs[i]:=by simp[List.getD,hi]
  dsimp only at hQ;rw[this] at hQ;exact hQ
 ·have e1:(List.range aV.toArray.size).all (λi=>bs.getD i true)=bs.all id:=by
   rw[aG,<- hl];rw[br];simp only[List.all_eq_true,List.mem_range,id];constructor
   ·intro hh x hx;obtain⟨i,hi,rfl⟩:=cx.mp hx;have:=hh i hi;simpa[List.getD,hi] using this
   ·intro hh i hi;have:=hh bs[i] (cF hi);simpa[List.getD,hi] using this
  rw[e1];exact ⟨.bl (bs.all id),H,I.kept (t':=tk) λb o e=>k b o (by
   intro hb;have:b=s.heap.objs.size:=by simpa using hb
   exact absurd (ao e) (by rw [this];exact bA _)) (ah _ e),rfl,q⟩
end
end L2
namespace HT
open PySem PyProof.Rows
end HT
namespace L2
open PySem PySem.Spec PyProof.Rows
variable{X:Cx}{pos p:Pos}{w:World}{H H':Hp}{Z:St}{s s':Shared}{B:Heap}{ea C:Addr}{a0:Value}{ta:TA}
theorem j5.get{P:Program}{h:Heap}{a:Addr}:∀{o:HO},j5 P w H h a o->∃ob,h.get? a=some ob
 |.lst _,x=>by obtain⟨_,_,_,_,e⟩:=x;exact⟨_,e⟩
 |.tup _,x=>by obtain⟨_,_,_,o,e,_⟩:=x;exact⟨o,e⟩
 |.dK _,x=>by obtain⟨_,_,_,_,o,es,ep,e,_⟩:=x;exact⟨o,e⟩
 |.dT _,x=>by obtain⟨_,_,_,_,o,es,ep,e,_⟩:=x;exact⟨o,e⟩
 |.set _ _,x=>by obtain⟨o,es,ep,t,e,_⟩:=x;exact⟨o,e⟩
 |.ins _ _ _,x=>by obtain⟨_,_,_,e,_⟩:=x;exact⟨_,e⟩
 |.own _,x=>x
 |.xd _,x=>by obtain⟨mA,n,_⟩:=x;obtain⟨od,e,_⟩:=FD n;exact⟨od,e⟩
 |.kX _ _,x=>by obtain⟨_,_,_,e⟩:=x;exact⟨_,e⟩
 |.jh _ _,x=>⟨_,x.1⟩
 |.oq _,x=>⟨_,x⟩
 |.met _ _,x=>⟨_,x⟩
 |.ext _,x=>x.2.1
def AK(H':Hp)(h0:Heap)(l:List Env)(e:Value)(C:Addr)(h:Heap):Prop :=
 ∃(ea:Addr) (a0:Value) (B:Heap),e=.ref ea/\Heap.FlyingW B l ea (.ref C) a0 h/\∀b o,h.get? b=some o->b∉fk l->(H' b≠none\/∃o0,h0.get? b=some o0)->B.get? b=some o
def iC(P:Program)(w:World):mr:=λouter H s E e s'=>∃(C:Addr) (H':Hp),s'.os=s.os/\AllBare s'.gens/\Un (fk outer) [] H H' s.heap s'.heap/\fx P w H' s'.heap/\AK H' s.heap outer e C s'.heap/\E (.ref C) none H'
section
variable{pins:List (Addr×Obj)}{E:XK}{e:Value}
theorem Inv.flew(I:Inv X pins Z H s)(h:iC X.prog X.w X.stack H s E e s'):∃C H',Inv X pins Z H' s'/\AK H' s.heap X.stack e C s'.heap/\E (.ref C) none H':=by
 obtain⟨C,H',ho,hb,hu,bB,fl,hE⟩:=h;exact⟨C,H',I.AQ ho hu bB hb (by simp),fl,hE⟩
theorem U2(I:Inv X pins Z H s){b:Addr}(hb:b∈fk X.stack):∃o,s.heap.get? b=some o/\∀vs,o.data≠.fields vs:=(I.stack.mem hb).2
theorem AU{mJ:Heap}(I:Inv X pins Z H s)(dz:X.stack=X.env::X.outer)(hex:X.ex=[])(hf:X.env.frame=some X.env.locals)(qU:∀b o,s.heap.get? b=some o->b∉fk X.stack->(H b≠none\/∃o0,X.cV.heap.get? b=some o0)->B.get? b=some o)(sl:∀b∈fk X.stack,∀o,s.heap.get? b=some o->∃sl,mJ.get? b=some { o with slots:=sl })(fw:Heap.FlyingW B X.outer ea (.ref C) a0 mJ)(hE:E (.ref C) none H):iC X.prog X.w X.outer X.iU X.cV E (.ref ea) { s with heap:=mJ }:=by
 have yj:∀b,b∈fk X.outer->b∈fk X.stack:=λb hb=>by rw[dz];unfold fk at hb ⊢;rw[cX,hf];exact aI _ hb
 have sT:∀b o,X.cV.heap.get? b=some o->b∉fk X.outer->b∉fk X.stack:=λb o e hb z=>by
  rcases av.mp (I.N4 b z) with z|z
  ·exact absurd (ao e) (by rw[z];exact Iq.mpr I.ok.above)
  ·exact hb z
 have nj:∀b u,H b=some u->b∉fk X.stack:=λb u e z=>by rw[I.Y9 b z] at e;cases e
 have kept:∀b o,s.heap.get? b=some o->b∉fk X.stack->(H b≠none\/∃o0,X.cV.heap.get? b=some o0)->mJ.get? b=some o:=λb o e n q=>fw.1 b o (qU b o e n q);have sV:∀b,b∉X.ex:=λb=>by rw[hex];simp
 refine⟨C,H,I.os,I.bare,⟨?_,?_,?_,?_,I.base.ir,I.base.hU,I.base.iu⟩,?_,⟨ea,a0,B,rfl,fw,?_⟩,hE⟩
 ·exact λb o e n1 n2 _=>kept b o (I.base.keep b o e n1 n2 (sV b)) (sT b o e n2) (.inr ⟨o,e⟩)
 ·intro b o e n1 n2 _;obtain⟨IS,e1⟩:=I.base.slot b o e n1 n2 (sV b);obtain⟨sD,e2⟩:=sl b (yj b n2) _ e1;exact⟨sD,e2⟩
 ·exact λb o e n1 _=>I.base.free b o e n1 (sV b)
 ·intro b o e _;obtain⟨o1,e1⟩:=I.base.there b o e (sV b);by_cases hb:b∈fk X.stack
  ·obtain⟨sD,e2⟩:=sl b hb _ e1;exact⟨_,e2⟩
  ·exact⟨o1,kept b o1 e1 hb (.inr ⟨o,e⟩)⟩
 ·intro a o e;exact (I.bB a o e).F3 (λb u hb q=>by
   have jH:∃v,H b=some v:=by
    rcases hb with rfl|hb
    ·exact⟨o,e⟩
    ·exact⟨_,hb⟩
   obtain⟨v,hv⟩:=jH;exact kept b u q (nj b v hv) (.inl (by rw [hv];simp))) (λb hb=>hb) (λb xs hb=>hb)
 ·intro b o e n q;rcases q with q|⟨o0,q⟩
  ·obtain⟨v,hv⟩:=mT.mp q;obtain⟨o1,e1⟩:=(I.bB b v hv).get;have z:=qU b o1 e1 (nj b v hv) (.inl (by rw[hv];simp));have z':=fw.1 b o1 z;have:o=o1:=by
    have e':mJ.get? b=some o:=e;rw[z'] at e';exact(aF e').symm
   subst this;exact z
  ·obtain⟨o1,e1⟩:=I.base.there b o0 q (sV b);have z:=qU b o1 e1 (sT b o0 q n) (.inr ⟨o0,q⟩);have z':=fw.1 b o1 z;have:o=o1:=by
    have e':mJ.get? b=some o:=e;rw[z'] at e';exact(aF e').symm
   subst this;exact z
theorem SU{h0:Heap}{Ex:Value->Shared->Prop}(I:Inv X pins Z H s)(fl:AK H h0 X.stack e C s.heap)(Kz:∀b o,X.cV.heap.get? b=some o->∃o',h0.get? b=some o')(dz:X.stack=X.env::X.outer)(hex:X.ex=[])(hf:X.env.frame=some X.env.locals)(hE:E (.ref C) none H):wpAny (model X.prog X.w) X.A (leaving X.env e) (λ_ ny=>iC X.prog X.w X.outer X.iU X.cV E e ny) Ex s:=by
 obtain⟨ea,a0,B,rfl,fw,hB⟩:=fl;rw[dz] at fw;refine wpAny_leaves_onW (by rw[I.ok.frames,dz]) hf fw λmJ vT us=>?_;refine AU I dz hex hf (λb o e n q=>hB b o e n (q.imp id λ⟨o0,q⟩=>Kz b o0 q)) (λb hb o e=>?_) vT hE;obtain⟨o1,e1,nf⟩:=U2 I hb;rw[e] at e1;cases e1;exact us b o e nf
theorem WL{h':Heap}{vs:List Value}{Ex:Value->Shared->Prop}(I:Inv X pins Z H s)(hx:Heap.MadeExcOf s.heap h' ea (.ref C) vs)(dz:X.stack=X.env::X.outer)(hex:X.ex=[])(hf:X.env.frame=some X.env.locals)(hE:E (.ref C) none H):wpAny (model X.prog X.w) X.A (leaving X.env (.ref ea)) (λ_ ny=>iC X.prog X.w X.outer X.iU X.cV E (.ref ea) ny) Ex { s with heap:=h' }:=by
 have rg:=I.stack;rw[dz] at rg;have JT:∀env∈(X.env::X.outer),∀b,env.frame=some b->b∈fk X.stack:=λenv he b hb=>by rw[dz];exact js.mpr ⟨env,he,hb⟩
 refine wpAny_leaves_madeW (by rw[I.ok.frames,dz]) hf (λb o q=>Im _ q) (PySem.W.funFrames_hide rg JT) hx λmJ t fw _ _ us=>?_;refine(show iC X.prog X.w X.outer X.iU X.cV E (.ref ea) { s with heap:=mJ } from AU I dz hex hf (λb o e n _=>Bx _ e n) (λb hb o e=>?_) fw hE);obtain⟨o1,e1,nf⟩:=U2 I hb;rw[e] at e1;cases e1;exact us b o (hx.keeps b o e) nf
theorem UU{l:List Env}{h0 h h1:Heap}{Pg:Program}(u:Un (fk l) [] H H' h0 h)(ok:fx Pg w H' h)(hB:∀b o,h.get? b=some o->b∉fk l->(H' b≠none\/∃o0,h0.get? b=some o0)->B.get? b=some o)(st:B.StaysIn h1)(us:h.UpToSlots h1)(CP:∀b∈fk l,H' b=none/\∃o,h.get? b=some o/\∀vs,o.data≠.fields vs):Un (fk l) [] H H' h0 h1/\fx Pg w H' h1/\∀b o,h1.get? b=some o->b∉fk l->(H' b≠none\/∃o0,h0.get? b=some o0)->B.get? b=some o:=by
 have nj:∀b u,H' b=some u->b∉fk l:=λb u e z=>by rw[(CP b z).1] at e;cases e
 have kept:∀b o,h.get? b=some o->b∉fk l->(H' b≠none\/∃o0,h0.get? b=some o0)->h1.get? b=some o:=λb o e n q=>st b o (hB b o e n q);have Dp:∀b∈fk l,∀o,h.get? b=some o->∃sl,h1.get? b=some { o with slots:=sl }:=λb hb o e=>by
  obtain⟨_,o1,e1,nf⟩:=CP b hb;rw[e] at e1;cases e1;exact us b o e nf
 refine⟨⟨?_,?_,u.free,?_,u.ir,u.hU,u.iu⟩,?_,?_⟩
 ·exact λb o e n1 n2 n3=>kept b o (u.keep b o e n1 n2 n3) n2 (.inr ⟨o,e⟩)
 ·intro b o e n1 n2 n3;obtain⟨IS,e1⟩:=u.slot b o e n1 n2 n3;obtain⟨sD,e2⟩:=Dp b n2 _ e1;exact⟨sD,e2⟩
 ·intro b o e n;obtain⟨o1,e1⟩:=u.there b o e n;by_cases hb:b∈fk l
  ·obtain⟨sD,e2⟩:=Dp b hb _ e1;exact⟨_,e2⟩
  ·exact⟨o1,kept b o1 e1 hb (.inr ⟨o,e⟩)⟩
 ·intro a o e;exact (ok a o e).F3 (λb u hb q=>by
   have jH:∃v,H' b=some v:=by
    rcases hb with rfl|hb
    ·exact⟨o,e⟩
    ·exact⟨_,hb⟩
   obtain⟨v,hv⟩:=jH;exact kept b u q (nj b v hv) (.inl (by rw [hv];simp))) (λb hb=>hb) (λb xs hb=>hb)
 ·intro b o e n q;have:∃o1,h.get? b=some o1:=by
   rcases q with q|⟨o0,q⟩
   ·obtain⟨v,hv⟩:=mT.mp q;exact(ok b v hv).get
   ·exact u.there b o0 q (by simp)
  obtain⟨o1,e1⟩:=this;have z:=hB b o1 e1 n q;rw[st b o1 z] at e;cases e;exact z
structure Lies(X:Cx)(H H':Hp)(s:Shared)(B:Heap)(ea C:Addr)(a0:Value)(s':Shared):Prop where
 os:s'.os=s.os
 bare:AllBare s'.gens
 un:Un (fk X.stack) [] H H' s.heap s'.heap
 bB:fx X.prog X.w H' s'.heap
 qU:∀b o,s'.heap.get? b=some o->b∉fk X.stack->(H' b≠none\/∃o0,s.heap.get? b=some o0)->B.get? b=some o
theorem Lies.inv(I:Inv X pins Z H s)(l:Lies X H H' s B ea C a0 s'):Inv X pins Z H' s':=I.AQ l.os l.un l.bB l.bare (by simp)
theorem leave_held{Ex:Value->Shared->Prop}(I:Inv X pins Z H s)(l:Lies X H H' s B ea C a0 s')(hh:Heap.HeldW B X.stack ea (.ref C) a0 X.env.locals s'.heap)(dz:X.stack=X.env::X.outer)(hex:X.ex=[])(hf:X.env.frame=some X.env.locals)(hE:E (.ref C) none H'):wpAny (model X.prog X.w) X.A (leaving X.env (.ref ea)) (λ_ ny=>iC X.prog X.w X.outer X.iU X.cV E (.ref ea) ny) Ex s':=by
 have J:=l.inv I;have yC:=hh;rw[dz] at yC;refine aa (wpAny_noteFrame_againW hf yC.2.2.2 ?_);refine wpAny_landsW yC λmJ fl us=>?_;obtain⟨k1,k2,⟨_,_,k3⟩,k4⟩:=fl;refine AU J dz hex hf (λb o e n q=>l.qU b o e n (q.imp id λ⟨o0,q⟩=>I.base.there b o0 q (by rw[hex];simp))) (λb hb o e=>?_) ⟨k1,k2,k3,k4⟩ hE;obtain⟨o1,e1,nf⟩:=U2 J hb;rw[e] at e1;cases e1;exact us b o e nf
def Z9(X:Cx)(Ξ:XK):Prop:=∀(pins:List (Addr×Obj)) (Z:St) (H:Hp) (s:Shared) (h':Heap) (ea C:Addr) (vs:List Value),Inv X pins Z H s->Heap.MadeExcOf s.heap h' ea (.ref C) vs->Ξ (.ref C) none H->X.xe (.ref ea) { s with heap:=h' }
def Y4(X:Cx)(Ξ:XK):Prop:=∀(pins:List (Addr×Obj)) (Z:St) (H H':Hp) (s s':Shared) (B:Heap) (ea C:Addr) (a0:Value),Inv X pins Z H s->Lies X H H' s B ea C a0 s'->Heap.HeldW B X.stack ea (.ref C) a0 X.env.locals s'.heap->Ξ (.ref C) none H'->X.xe (.ref ea) s'
def Qq(C:Addr)(Ξ:XK)(t:TA):TS:=λ_ Z H=>t Z H λvs H1=>vs.length<=sizeLine/\Ξ (.ref C) none H1
theorem Ut{x:Str}{B newId fL:String}{bm:List Value}{np ff:Pos}{ji:Expr}{rest:List Expr}{t:TA}{Ξ:XK}(hc:X.calm=true)(O:OwnCls x C bm newId X.mg X.base)(FB:ExcBaseFacts B newId fL bm)(hg:Gl X x)(ha:PA X (ji::rest) t)(hr:Z9 X Ξ)(he:starEach (ji::rest) X.env=(false,eval ji X.env)::starEach rest X.env)(fM:(backTo ff (starEach rest X.env)).any (·.1)=false)(hd:(x==("__debug__":Str))=false) :
  PS X (.Raise (some (.Call (.Name x np) (ji::rest) [] ff)) none pos) (Qq C Ξ t):=by
 intro pins s Z H D I h;obtain⟨tl,N,nm,q,bs,hdct,sn,sub,ab,col,dd,k0,k1,k2,k3,k5,mN,hC,hN,vL,T⟩:=O.obj;refine wpAny_Raise_call_subT (nm:=nm) (q:=q) (N:=N) (bs:=bs) (hdct:=hdct) (sn:=sn) (sub:=sub) (ab:=ab) (col:=col) (dd:=dd) (k0:=k0) (k1:=k1) (k2:=k2) (k3:=k3) (k5:=k5)
  FB (T.hasType FB.hasBase) (I.ok.hd hc) (by rw[he];show(false||(backTo ff (starEach rest X.env)).any (·.1))=false;rw[fM];rfl) vL (K2 I hg O.bound ⟨rfl,?_⟩ hd)
 have h':=ha ff pins s Z H _ I h;rw[he] at h' ⊢;refine Calls.evalArgs_plain (bK h' (λvs fB jU=>?_) λ_ _ y=>y);obtain⟨ws,H1,I1,rv,hz,hE⟩:=jU;exact⟨rfl,by rw[<- rv.length];exact hz,I1.bk _ _ hC,hN.keeps I1.bk,T.keeps I1.bk,λh2 ea hm=>hr pins Z H1 fB h2 ea C vs I1 hm hE⟩
def O4(X:Cx)(pins:List (Addr×Obj))(xe:Value->Shared->Prop)(o:Option St:=none):Cx:={ X with pn:=X.pn++pins,xe:=xe,sg:=o }
def C4(X:Cx)(ea:Addr):Cx:={ X with A:=X.A.mark (some (.ref ea)),calm:=false,xe:=λ_ _=>False,sg:=none }
theorem Inv.NM{xe:Value->Shared->Prop}{o:Option St}(ho:∀τ,o=some τ->Z=τ)(I:Inv X pins Z H s):Inv (O4 X pins xe o) [] Z H s :=
 ⟨⟨I.ok.mod,I.ok.kind,I.ok.glob,I.ok.blt,I.ok.above,I.ok.inj,I.ok.has,I.ok.oR,I.ok.hd,I.ok.frames,I.ok.pA,I.ok.uz,I.ok.bs,I.ok.ml,I.ok.jw,I.ok.jZ,I.ok.E0,I.ok.mK⟩,I.os,I.bare,I.base,I.loc,I.cell,I.free,I.eF,
  λp hp=>I.pin p (by simpa [O4] using hp),I.bB,I.len,ho⟩
theorem Inv.T3{xe:Value->Shared->Prop}{o:Option St}{fb:List (Addr×Obj)}(hs:X.sg=none)(I:Inv (O4 X pins xe o) fb Z H s):Inv X pins Z H s :=
 ⟨⟨I.ok.mod,I.ok.kind,I.ok.glob,I.ok.blt,I.ok.above,I.ok.inj,I.ok.has,I.ok.oR,I.ok.hd,I.ok.frames,I.ok.pA,I.ok.uz,I.ok.bs,I.ok.ml,I.ok.jw,I.ok.jZ,I.ok.E0,I.ok.mK⟩,I.os,I.bare,I.base,I.loc,I.cell,I.free,I.eF,
  λp hp=>I.pin p (cy _ hp),I.bB,I.len,λ_ z=>by simp_all⟩
theorem Inv.GZ(I:Inv X pins Z H s):Inv (C4 X ea) pins Z H s :=
 ⟨⟨I.ok.mod,I.ok.kind,I.ok.glob,I.ok.blt,I.ok.above,I.ok.inj,I.ok.has,I.ok.oR,λz=>(by cases z),I.ok.frames,I.ok.pA,I.ok.uz,I.ok.bs,I.ok.ml,I.ok.jw,I.ok.jZ,I.ok.E0,I.ok.mK⟩,I.os,I.bare,I.base,I.loc,I.cell,I.free,I.eF,I.pin,I.bB,I.len,λcL z=>absurd (show(none:Option St)=some cL from z) (by simp)⟩
theorem Inv.R0(hs:X.sg=none)(J:X.Ok)(I:Inv (C4 X ea) pins Z H s):Inv X pins Z H s :=
 ⟨J,I.os,I.bare,I.base,I.loc,I.cell,I.free,I.eF,I.pin,I.bB,I.len,λ_ z=>by simp_all⟩
theorem SP.T3{xe:Value->Shared->Prop}{o:Option St}{D:Ends}{f:Flow}(hs:X.sg=none)(h:SP (O4 X pins xe o) [] D f s):SP X pins D f s:=by
 cases f with
 |next=>obtain⟨a,b,I,q⟩:=h;exact⟨a,b,I.T3 hs,q⟩
 |brk=>obtain⟨a,b,I,q⟩:=h;exact⟨a,b,I.T3 hs,q⟩
 |cont=>obtain⟨a,b,I,q⟩:=h;exact⟨a,b,I.T3 hs,q⟩
 |ret u=>obtain⟨v,a,b,I,r,q⟩:=h;exact⟨v,a,b,I.T3 hs,r,q⟩
theorem SP.R0{ea:Addr}{D:Ends}{f:Flow}(hs:X.sg=none)(J:X.Ok)(h:SP (C4 X ea) pins D f s):SP X pins D f s:=by
 cases f with
 |next=>obtain⟨a,b,I,q⟩:=h;exact⟨a,b,I.R0 hs J,q⟩
 |brk=>obtain⟨a,b,I,q⟩:=h;exact⟨a,b,I.R0 hs J,q⟩
 |cont=>obtain⟨a,b,I,q⟩:=h;exact⟨a,b,I.R0 hs J,q⟩
 |ret u=>obtain⟨v,a,b,I,r,q⟩:=h;exact⟨v,a,b,I.R0 hs J,r,q⟩
def U9(X:Cx)(D:Ends)(cL:St)(C:Addr)(H:Hp):List ExceptHandler->Prop
 |.ExceptHandler (some (.Name x _)) none (uK::ot) _::rest=>Gl X x/\(x==("__debug__":Str))=false/\∃C' b,X.mg x=some (.ref C')/\PySem.W.exmOne X.K (.ref C) (.ref C')=some b /\
   (if b=true then ∃t:TS,(∀ea,iZ (C4 X ea) (uK::ot) t)/\t D cL H else U9 X D cL C H rest)
 |[]=>∃Ξ:XK,Y4 X Ξ/\Ξ (.ref C) none H
 |_=>False
end
section
variable{pins:List (Addr×Obj)}{e:Value}{D:Ends}
def wx(X:Cx)(pins:List (Addr×Obj))(D:Ends)(hs:List ExceptHandler):Value->Shared->Prop:=λe bC =>
 wpAny (model X.prog X.w) X.A (noteFrame e X.env) (λ_ fB=>wpAny (model X.prog X.w) X.A (setFlight e none) (λ_ gU=>wpAny (model X.prog X.w) X.A (handleBy e X.env hs) (SP X pins D) X.xe gU) X.xe fB) X.xe bC
theorem Lies.step{h1:Heap}(I:Inv X pins Z H s)(l:Lies X H H' s B ea C a0 s')(st:B.StaysIn h1)(us:s'.heap.UpToSlots h1):Lies X H H' s B ea C a0 { s' with heap:=h1 }:=by
 have J:=l.inv I;obtain⟨u,ok,ib⟩:=UU l.un l.bB l.qU st us λb hb=>⟨J.Y9 b hb,U2 J hb⟩
 exact⟨l.os,l.bare,u,ok,ib⟩
theorem Sv{l:List Env}{L:Addr}{cls:Value}{A:Around}{M:Model}{E:Value->Shared->Prop}{Q:Unit->Shared->Prop}(fw:Heap.FlyingW B l ea cls a0 s.heap)(h:∀h',Heap.HeldW B l ea cls a0 L h'->(∀b o,s.heap.get? b=some o->(∀vs,o.data≠.fields vs)->h'.get? b=some o)->Q Unit.unit { s with heap:=h' }):wpAny M A (setFlight (.ref ea) (some L)) Q E s:=by
 obtain⟨f1,f2,f3,oe,vs,T,oT,ts,he,nS,hd,h1,JL,Dc,hT,vO,h3⟩:=fw;have tP:=(mZ.mp h3).1;have other:∀b,b≠T->(s.heap.update T (Obj.mapFields (·.setIfInBounds 3 ((some L).elim Value.none λf=>rawInt f)))).get? b=s.heap.get? b :=
  λb hb=>bJ _ _ (bW hb)
 have jx:∀b o,s.heap.get? b=some o->(∀vs,o.data≠.fields vs)->b≠T:=λb o hb tS q=>by
  rw[q,hT] at hb;injection hb with hb;subst hb;exact tS ts vO
 refine aa (wpAny_field he hd h1 ?_);refine cB hT vO tP (h _ ⟨λb o Kf=>(other b λq=>by simp_all).trans (f1 b o Kf),f2,
  f3.of_keeps λb o hb tS=>⟨o,(other b (jx b o hb tS)).trans hb,rfl⟩,?_⟩ λb o hb tS=>(other b (jx b o hb tS)).trans hb)
 exact⟨oe,vs,T,_,_,(other ea (bW Dc)).trans he,nS,hd,h1,JL,Dc,aN _ hT (cw (aY vO _)),aY vO _,by simp[tP]⟩
theorem Fw{B:Heap}{ea C:Addr}{a0:Value}{cL:St}(mE:X.sg=none)(hf:X.env.frame=some X.env.locals)(vM:cL.length=Z.length)(vG:∀(i:Nat) v,cL[i]?=some (some v)->Z[i]?=some (some v)):∀(hs:List ExceptHandler) (s':Shared),Inv X pins Z H s->Lies X H H' s B ea C a0 s'->Heap.FlyingW B X.stack ea (.ref C) a0 s'.heap->U9 X D cL C H' hs ->
  wpAny (model X.prog X.w) X.A (handleBy (.ref ea) X.env hs) (SP X pins D) X.xe s'
 |[],s',I,l,fw,t=>by
  obtain⟨Ξ,hh,hE⟩:=t;refine wpAny_handleBy_nil ?_;obtain⟨f1,f2,f3,oe,vs,T,oT,ts,he,nS,hd,h1,_⟩:=id fw;refine aa (wpAny_field he hd h1 ?_);rw[aB (by simp),hf];refine aa (Sv fw λh2 held k=>wpAny_throw ?_);have l2:=l.step I held.1 (λb o hb hn=>⟨o.slots,k b o hb hn⟩);exact hh pins Z H H' s _ B ea C a0 I l2 held hE
 |.ExceptHandler none _ _ _::_,_,_,_,_,t=>t.elim
 |.ExceptHandler (some e) nm bd pos::rest,s',I,l,fw,t=>by
  cases e
  case Name x np =>
   cases nm with
   |some y=>exact t.elim
   |none =>
    cases bd with
    |nil=>exact t.elim
    |cons uK ot =>
     obtain⟨hg,gp,C',b,hm,hx,q⟩:=t;have J:=l.inv I;have JM:Inv (C4 X ea) pins Z H' s':=J.GZ;have LT:PySem.W.Looks (model X.prog X.w) s'.heap (typeOf (.ref ea)) (.ref C):=λA Q E s2 k q=>by
      obtain⟨ob,ho,hc⟩:=fw.there;exact wpAny_typeOf_ref (k _ _ ho) (by rw[hc];exact q)
     refine wpAny_handleBy_cons (codeAny_handlers_test ?_) (by intro z;cases z);refine K2 JM hg hm ?_ gp;refine(PySem.W.exm_one J.gj LT hx).here ?_;cases b with
     |false =>
      exact Fw mE hf vM vG rest s' I l fw q
     |true =>
      obtain⟨t,ht,hq⟩:=q;refine codeAny_handlers_suite ?_;refine wpAny_setFlight_noneW fw.1 fw.2.2.1 fw.2.2.2.at λh2 k1 k2 k3 k4=>?_;have l2:=l.step I k1 (λb o hb hn=>⟨o.slots,k4 b o hb hn⟩);have J2:=l2.inv I;have J3:Inv (C4 X ea) pins cL H' { s' with heap:=h2 }:=(Inv.weak mE J2 vM vG).GZ;refine bK (ht ea pins _ _ H' D J3 hq) (λf s2 hf=>hf.R0 mE I.ok) λ_ _ z=>z.elim
  all_goals exact t.elim
theorem Ui{hs:List ExceptHandler}{Ξ:XK}{o:Option St}{cL:St}(mE:X.sg=none)(dz:X.stack=X.env::X.outer)(hf:X.env.frame=some X.env.locals)(yd:∀Z:St,Z.length=X.N.length->(∀τ,o=some τ->Z=τ)->cL.length=Z.length/\∀(i:Nat) v,cL[i]?=some (some v)->Z[i]?=some (some v))(hT:∀C H',Ξ (.ref C) none H'->U9 X D cL C H' hs) :
  Passes (iC X.prog X.w) (O4 X pins (wx X pins D hs) o) Ξ:=by
 intro fb Z H s e s' I0 h;have I:=I0.T3 mE;obtain⟨vM,vG⟩:=yd Z I.len I0.sg;obtain⟨C,H',ho,hb,hu,bB,⟨ea,a0,B,rfl,fw,hB⟩,hE⟩:=h;have l:Lies X H H' s B ea C a0 s':=⟨ho,hb,hu,bB,hB⟩
 have fw:Heap.FlyingW B X.stack ea (.ref C) a0 s'.heap:=fw;have vT:=fw;rw[dz] at vT;refine wpAny_looks_onW (by rw[I.ok.frames,dz]) hf vT λh1 held us=>?_;have l1:=l.step I held.1 us;refine wpAny_landsW held λh2 fl ID=>?_;have l2:=l1.step I fl.1 ID;rw[<- dz] at fl;exact Fw mE hf vM vG hs _ I l2 fl (hT C H' hE)
theorem Px{hs:List ExceptHandler}{h₀:ExceptHandler}{body:List Stmt}{t:Ends->St->TS}{Ξ:Ends->St->XK}(f:St->Option St)(z:St->St)(hz:∀Z τ,f Z=some τ->Z=τ)(mE:X.sg=none)(hb:∀pins D Z,(∀C H',Ξ D Z (.ref C) none H'->U9 X D (z Z) C H' (h₀::hs))->iZ (O4 X pins (wx X pins D (h₀::hs)) (f Z)) body (t D Z)) :
  PS X (.Try body (h₀::hs) [] [] pos) (λD Z H=>(∀C H',Ξ D Z (.ref C) none H'->U9 X D (z Z) C H' (h₀::hs))/\t D Z D Z H):=by
 intro pins s Z H D I ⟨hT,h⟩;refine wpAny_Try_except (bK (hb pins D Z hT [] s Z H D (I.NM (hz Z)) h) (λf s1 q=>?_) λe s1 q=>q);have q:=q.T3 mE;cases f with
 |next =>
  obtain⟨cb,H',I',q⟩:=q;exact cJ (rR ⟨cb,H',I',q⟩) λ_ _ z=>z
 |brk=>exact q
 |cont=>exact q
 |ret u=>exact q
end
def Bu(K:PySem.W.Frag)(a:Addr):It :=
 ⟨λi H=>∃xs x,fu K H a xs/\xs[i]?=some x,λi H v H'=>∃p x,H p=none/\v=.ref p/\(∀xs,fu K H a xs->xs[i]?=some x)/\H'=upd H p (.tup [.int i,x]),λi H=>∃xs,fu K H a xs/\xs.length<=i⟩
theorem Wm{P:Program}{K:PySem.W.Frag}{elts:List Expr}{x1:Nat}{tp:Pos}(a e it:Addr)(CQ:e≠it):Turn P w K (.Tuple elts x1 tp) (Bu K a) [e,it] e (λi h=>(∃old,IsEnum h e it i old)/\h.IsListIter it a i) where
 mem:=by simp
 obj:=λi h st b hb=>by
  obtain⟨⟨old,h1⟩,o,h2,c,d⟩:=st;rcases av.mp hb with z|z
  ·subst z;exact ⟨_,h1,λv z=>by
    have z':Data.fields _=Data.cell v:=z;cases z'⟩
  ·have z:b=it:=by simpa using z
   subst z;exact⟨o,h2,λv z=>by rw[d] at z;cases z⟩
 keep:=λi h h' st k=>by
  obtain⟨⟨old,h1⟩,h2⟩:=st;exact⟨⟨old,k e (by simp) _ h1⟩,h2.at λo x=>k it (by simp) o x⟩
 item:=by
  intro X hP hw hK hc i pins s Z H E I hf st hg;subst hP hw hK;obtain⟨⟨old,h1⟩,h2⟩:=st;obtain⟨xs,x,hq,hx⟩:=hg;obtain⟨aV,rv,p,hz⟩:=I.list hq;obtain⟨u,hu,ru⟩:=rv.get hx;obtain⟨e0,e1,e2,e3,e4,e5⟩:=hf e (by simp);obtain⟨f0,f1,f2,f3,f4,f5⟩:=hf it (by simp);refine wpAny_pyNext_enum_item h1 h2 p.isList (by simpa using hu) CQ λh' pT nN tO YV oC=>?_;refine⟨_,rfl,wpAny_letOwnedTupleGo_enum pT λvR nQ iD=>?_⟩;have iD:Heap.SameBut e h' vR:=iD;have elt:=ao h1;have kp:∀b o,b≠e->b≠it->s.heap.get? b=some o->vR.get? b=some o:=λb o b1 b2 q=>(iD.2 b b1).trans (oC b o b1 b2 q);have hn:=I.bB.fresh (aj _);have xB:=(iD.2 _ (bu elt)).trans tO;have ne:∀b u',H b=some u'->b≠e/\b≠it:=λb u' q=>And.intro (λz=>by simp_all) (λz=>by simp_all);have bB:fx X.prog X.w (upd H s.heap.objs.size (.tup [.int i,x])) vR:=λb o q=>by
   by_cases hb:b=s.heap.objs.size
   ·subst hb;rw[m9] at q;cases q;exact⟨by show 2<=sizeLine;decide,[.int i s.toks,u],.cons ⟨_,rfl⟩ (.cons ru .nil),_,xB,rfl,⟨_,rfl⟩,rfl⟩
   ·rw[f9 hb] at q;refine(I.bB b o q).F3 (λc v hc q'=>?_) (λc q'=>by rw[f9 (j7 q' hn)];exact q') λc ys q'=>by rw[f9 (j7 q' hn)];exact q'
    rcases hc with z|z
    ·subst z;exact kp _ _ (ne _ _ q).1 (ne _ _ q).2 q'
    ·exact kp _ _ (ne _ _ z).1 (ne _ _ z).2 q'
  have I2:Inv X pins Z (upd H s.heap.objs.size (.tup [.int i,x])) { s with heap:=vR,toks:=s.toks+1 }:=by
   refine I.step (g':=s.gens) (d':=s.drawn) (t':=s.toks+1) (ch:=[e,it]) (λb hb=>?_) (λb o _ _ hb q _=>kp b o (λz=>hb (by simp[z])) (λz=>hb (by simp[z])) q) (λb o _ _ hb q _=>⟨o.slots,kp b o (λz=>hb (by simp[z])) (λz=>hb (by simp[z])) q⟩)
    (λb o _ q n=>by rw[f9 (aD (ao q))];exact n) (λb o hb q=>⟨o,kp b o (λz=>hb (by simp[z])) (λz=>hb (by simp[z])) q⟩)
    (λb ys q=>by rw[f9 (j7 q hn)];exact q) (λb o' ys q=>by rw[f9 (j7 q hn)];exact q) (λb ps q=>⟨#[],by rw[f9 (j7 q hn),q];simp⟩) (λm hm=>?_) bB I.bare
   ·rcases av.mp hb with z|z
    ·subst z;exact⟨e3,e1,e4,e5⟩
    ·have z:b=it:=by simpa using z
     subst z;exact⟨f3,f1,f4,f5⟩
   ·obtain⟨o,es,ep,ho,r⟩:=hm;exact⟨o,es,ep,kp _ o (bW e1) (bW f1) ho,r⟩
  refine⟨.ref s.heap.objs.size,_,I2,rfl,⟨s.heap.objs.size,x,hn,rfl,λys hy=>by rw[I.ER hy hq];exact hx,rfl⟩,⟨⟨u,by simpa using nQ⟩,nN.at λo y=>(iD.2 it CQ.symm).trans y⟩,λb hb=>?_⟩;have jH:b<s.heap.objs.size:=by
   rcases av.mp hb with z|z
   ·subst z;exact elt
   ·have z:b=it:=by simpa using z
    subst z;obtain⟨o,h2,_⟩:=h2;exact ao h2
  rw[f9 (aD jH)];exact(hf b hb).1
 done:=by
  intro X hP hw hK hc i pins s Z H E I hf st hg;subst hP hw hK;obtain⟨⟨old,h1⟩,h2⟩:=st;obtain⟨xs,hq,hx⟩:=hg;obtain⟨aV,rv,p,hz⟩:=I.list hq;obtain⟨f0,f1,f2,f3,f4,f5⟩:=hf it (by simp);have hl:=rv.length;exact wpAny_pyNext_enum_end (I.ok.hd hc) h1 h2 p.isList (by simp;omega) λh' eb=>⟨rfl,I.turned (t':=s.toks) (λb o hb e=>eb b o hb e) f0 f1 f3 f4 f5⟩
 self:=λ_ _ _ _ _ st h=>by
  obtain⟨⟨old,h1⟩,h2⟩:=st;exact wpAny_pyIter_enum h1 h
theorem XE{l:Expr}{tp:Pos}{elts:List Expr}{x1:Nat}(hg:Gl X "enumerate")(hm:X.mg "enumerate"=none)(ha:PA X [l] ta)(hs:starEach [l] X.env=[(false,eval l X.env)]) :
  PI X (.Tuple elts x1 tp) (.Call (.Name "enumerate" p) [l] [] pos) (λZ H R=>ta Z H λvs H1=>∃a,vs=[.ref a]/\(∃xs,fu X.K H1 a xs)/\R (Bu X.K a) H1):=by
 intro pins s Z H R I h;refine Call_ (C5 I hg hm PyProof.Rows.boot_enumerate (bS (cJ (ha pos pins s Z H _ I h) λus s1 bp=>?_) hs rfl));obtain⟨vs,H1,I1,r1,q1⟩:=bp;obtain⟨a,e,⟨xs,hq⟩,q⟩:=q1;subst e;cases r1 with
 |cons r rr =>
  cases rr;cases r;obtain⟨aV,rv,p,hz⟩:=I1.list hq;refine call_enumerate_list p.isList λh' he hit iQ hk=>wpAny_pyIter_enum he ?_;refine⟨s1.heap.objs.size+1,[s1.heap.objs.size+1,s1.heap.objs.size],_,_,H1,rfl,I1.kept (t':=s1.toks) hk,Wm a _ _ (by simp),⟨⟨_,he⟩,hit⟩,λb hb=>?_,q⟩;have jH:s1.heap.objs.size<=b:=by
   rcases av.mp hb with z|z
   ·simp_all
   simp_all
  exact I1.qu jH (I1.bB.fresh jH)
theorem WG{lo:Int}{acc:Array Value}{n:Nat}(h:ItemsOf (λi v=>∃t,v=.int (lo+i*1) t) acc n):Vals ((List.range n).map λ(k:Nat)=>V.int (lo+k)) acc.toList:=by
 have hl:acc.toList.length=n:=by
  have:=h.1;omega
 have go:∀(m:Nat) (l:List Value),l.length<=n->m+l.length=n->(∀i v,l[i]?=some v->∃t,v=Value.int (lo+((m+i:Nat):Int)) t)->Vals ((List.range' m l.length).map λ(k:Nat)=>V.int (lo+k)) l:=by
  intro m l
  induction l generalizing m with
  |nil=>intro _ _ _;exact .nil
  |cons x r ih =>
   intro h1 h2 h3;refine .cons ?_ (ih (m+1) (by simp at h1;omega) (by simp at h2;omega) λi v hv=>?_)
   ·obtain⟨t,e⟩:=h3 0 x rfl;exact⟨t,by rw[e];simp⟩
   ·obtain⟨t,e⟩:=h3 (i+1) v (by simpa using hv)
    grind
 have:=go 0 acc.toList () () λi v hv=>?_
 ·rw[hl,<- xh] at this;exact this
 ·have:acc[i]?=some v:=by rw[<- cj];exact hv
  obtain⟨t,e⟩:=h.2 i v this;refine⟨t,?_⟩;rw[e];simp
theorem V2(hc:X.calm=true):j8 X (.type "list") (λxs H Q=>∃a lo hi,xs=[.ref a]/\H a=some (.kX lo hi)/\(-(2 ^ 62)<=lo/\lo<2 ^ 62/\-(2 ^ 62)<=hi/\hi<2 ^ 62/\hi-lo<=100000)/\∀p,H p=none->Q (.ref p) (upd H p (.lst ((List.range (hi-lo).toNat).map λ(k:Nat)=>V.int (lo+k))))):=by
 intro pins s Z H xs us Q I r h;obtain⟨a,lo,hi,rfl,ha,⟨h1,h2,h3,h4,h5⟩,q⟩:=h;obtain⟨t,u,v,ho⟩:=I.bB a _ ha;cases r with
 |cons r rr =>
 cases rr;cases r;have hn:Builtin.Range.rangeSize lo hi 1=((hi-lo).toNat:Nat):=by rw[rangeSize_one];split<;>omega
 refine call_list_range (I.ok.hd hc) ho (small_one h1 h2 h3 h4) hn () λh' ia acc c hk hS nO=>?_;have hp:=I.bB.fresh (aj _);refine⟨.ref _,_,I.laid (o:=.lst ((List.range (hi-lo).toNat).map λ(k:Nat)=>V.int (lo+k))) (t':=ia) hk (aj _) ⟨?_,acc.toList,c,WG nO,by simpa using hS⟩,rfl,q _ hp⟩;rw[ai,dE];have:(hi-lo).toNat<=100000:=by omega
 exact aE this ∅
theorem VQ{a:Expr}(hg:Gl X "range")(hm:X.mg "range"=none)(ha:PA X [a] ta)(hs:starEach [a] X.env=[(false,eval a X.env)]):PE X (.Call (.Name "range" p) [a] [] pos) (λZ H Q=>ta Z H λvs H1=>∃j:Int,vs=[.int j]/\∀q,H1 q=none->Q (.ref q) (upd H1 q (.kX 0 j))):=by
 intro pins s Z H Q I h;refine bV (C5 I hg hm boot_range (bS (cJ (ha pos pins s Z H _ I h) λus s1 bp=>?_) hs rfl));obtain⟨vs,H1,I1,r1,q1⟩:=bp;obtain⟨j,e,q⟩:=q1;subst e;cases r1 with
 |cons r rr =>
  cases rr;obtain⟨t,rfl⟩:=r;exact call_range_1 ⟨.ref s1.heap.objs.size,_,I1.laid (o:=.kX 0 j) (λb o e=>ah _ e) (aj _) ⟨_,_,_,aw _ rfl⟩,rfl,q _ (I1.bB.fresh (aj _))⟩
theorem VR{a b:Expr}(hg:Gl X "range")(hm:X.mg "range"=none)(ha:PA X [a,b] ta)(hs:starEach [a,b] X.env=[(false,eval a X.env),(false,eval b X.env)])(iD:starEach [b] X.env=[(false,eval b X.env)]):PE X (.Call (.Name "range" p) [a,b] [] pos) (λZ H Q=>ta Z H λvs H1=>∃i j:Int,vs=[.int i,.int j]/\∀q,H1 q=none->Q (.ref q) (upd H1 q (.kX i j))):=by
 intro pins s Z H Q I h;refine bV (C5 I hg hm boot_range (bS (cJ (ha pos pins s Z H _ I h) λus s1 bp=>?_) (by rw[hs,iD]) (by rw[iD];rfl)));obtain⟨vs,H1,I1,r1,q1⟩:=bp;obtain⟨i,j,e,q⟩:=q1;subst e;cases r1 with
 |cons r rr =>
  cases rr with
  |cons r' rr =>
   cases rr;obtain⟨t,rfl⟩:=r;obtain⟨t',rfl⟩:=r';exact call_range_2 ⟨.ref s1.heap.objs.size,_,I1.laid (o:=.kX i j) (λb o e=>ah _ e) (aj _) ⟨_,_,_,aw _ rfl⟩,rfl,q _ (I1.bB.fresh (aj _))⟩
def vZ(K:PySem.W.Frag)(P:Params)(a:Addr)(kvs:List (Str×V)):Prop :=
 ∃es n,K.lookup a=some ⟨.type "dict",none,.dict es n,#[]⟩/\PySem.W.KeysLit P es.toList/\(a==sysModules)=false/\∀x,A4 (kvs.lookup x) (findBy Value.isStrOf es x)
theorem MH{kvs:List (Str×V)}:qy X (λx y H Q=>∃a z v,x=.ref a/\vZ X.K X.w.params a kvs/\y=.str z/\kvs.lookup z=some v/\Q v H):=by
 intro value slice pins s Z H x y v u Q I rx ry h hs;obtain⟨a,z,d,rfl,⟨es,n,hl,hk,lo,hf⟩,rfl,hz,q⟩:=h;cases rx;obtain⟨t,rfl⟩:=ry;have hm:=PySem.W.mapOf_K (prog:=X.prog) I.gj hl hk;have e:=hf z;rw[hz] at e;cases h2:findBy Value.isStrOf es z with
 |none=>rw[h2] at e;exact e.elim
 |some r =>
  rw[h2] at e;exact tail_any hm.typeIs mS.lookup (wpAny_getItem_of (strKind_is X.prog X.w z t) hm h2 ⟨d,H,I.tok _,e,q⟩) hs
theorem QT(hu:X.A.units+1<cLine):qy X (λx y H Q=>∃a v,x=.ref a/\L5 H a y (some v)/\Q v H):=by
 intro value slice pins s Z H x y v u Q I rx ry h hs;obtain⟨a,d,rfl,g,q⟩:=h;cases rx;exact tail_any (Sr I g) mS.lookup (Vk hu I g ry λw' s3 I3 fj=>⟨d,H,I3,fj,q⟩) hs
end L2
namespace ST
open PySem PyProof.Rows
variable{xs:Array Nat}{i k j n ep:Nat}{t:SetTable}{h h':Heap}{L:Bool}{es:Array (Int×Value)}{x f:Value}{prog:Program}{w:World}{a I b l:Addr}{ks ns:List Int}{A:Around}{E Q:Value->Shared->Prop}{s:Shared}{pl:List Nat}{α:Type}{r:Rd}{items:Array Value}
noncomputable abbrev iY(xs:Array Nat):Prop:=xs.toList.Pairwise (· < ·)
theorem iY.lt(h:iY xs)(tZ:i<k)(hk:k<xs.size):xs.getD i 0<xs.getD k 0:=by
 have:=om.mp h i k (by simpa using cv tZ hk) (by simpa using hk) tZ;rw[<- cK (h:=cv tZ hk),<- cK (h:=hk)];exact this
theorem iY.le(h:iY xs)(tZ:i<=k)(hk:k<xs.size):xs.getD i 0<=xs.getD k 0:=by
 rcases Nat.eq_or_lt_of_le tZ with e|e
 ·rw[e];exact aj _
 ·exact bX (h.lt e hk)
theorem Ak{xs:Array Nat}{j:Nat}(h:iY xs):∀(fuel lo hi:Nat),hi-lo<=fuel->lo<=hi->hi<=xs.size->(∀i,i<lo->xs.getD i 0<j)->(∀i,hi<=i->i<xs.size->j<=xs.getD i 0) ->
  SetTable.below.go xs j fuel lo hi<=xs.size/\(∀i,i<SetTable.below.go xs j fuel lo hi->xs.getD i 0<j)/\∀i,SetTable.below.go xs j fuel lo hi<=i->i<xs.size->j<=xs.getD i 0
 |0,lo,hi,h1,h2,h3,h4,h5=>by
  have:lo=hi:=by omega
  subst this;exact⟨h3,h4,h5⟩
 |fuel+1,lo,hi,h1,h2,h3,h4,h5=>by
  unfold SetTable.below.go;split
  ·have hm:(lo+hi) / 2<xs.size:=by omega
   have em:xs.getD ((lo+hi) / 2) j=xs.getD ((lo+hi) / 2) 0:=by simp[Array.getD,hm]
   dsimp only;rw[em];by_cases hc:xs.getD ((lo+hi) / 2) 0<j
   ·rw[aJ hc];exact Ak h fuel _ hi () () h3 (λi nO=>jr (h.le () hm) hc) h5
   ·rw[aB hc];exact Ak h fuel lo _ () () () h4 λi nO hs=>aE (Nat.le_of_not_lt hc) (h.le nO hs)
  ·have:lo=hi:=by omega
   subst this;exact⟨h3,h4,h5⟩
theorem M5(j:Nat)(h:iY xs):SetTable.below xs j<=xs.size/\(∀i,i<SetTable.below xs j->xs.getD i 0<j)/\∀i,SetTable.below xs j<=i->i<xs.size->j<=xs.getD i 0 :=
 Ak h _ 0 _ () () (aj _) (λi hi=>absurd hi (dZ _)) λi h1 h2=>absurd h2 ()
theorem below_at(h:iY xs)(hi:i<xs.size):SetTable.below xs (xs.getD i 0)=i:=by
 obtain⟨h1,h2,h3⟩:=M5 (xs.getD i 0) h;rcases fO (SetTable.below xs (xs.getD i 0)) i with z|z|z
 ·exact absurd (h3 _ (aj _) ()) (Nat.not_le_of_lt (h.lt z hi))
 ·exact z
 ·exact absurd (h2 i z) (bA _)
theorem Wt(h:iY xs)(hi:i<xs.size):SetTable.below xs (xs.getD i 0+1)=i+1:=by
 obtain⟨h1,h2,h3⟩:=M5 (xs.getD i 0+1) h;rcases fO (SetTable.below xs (xs.getD i 0+1)) (i+1) with z|z|z
 ·have:=h3 i () hi;omega
 ·exact z
 ·have:=h2 (i+1) z;have:=h.lt (gy i) (k:=i+1) ();omega
theorem Wu(h:iY xs):SetTable.below xs 0=0:=by
 obtain⟨_,h2,_⟩:=M5 0 h;rcases Nat.eq_zero_or_pos (SetTable.below xs 0) with z|z
 ·exact z
 ·exact absurd (h2 0 z) (dZ _)
theorem getD_mem(hi:i<xs.size):xs[i]?=some (xs.getD i 0):=by simp[Array.getD,hi]
theorem Ge(h:iY t.place)(hs:t.slot j=.empty):j∉t.place.toList:=by
 intro hm;obtain⟨i,hi,e⟩:=cx.mp hm;have nO:i<t.place.size:=by simpa using hi
 have ej:t.place.getD i 0=j:=by rw[<- cK];simpa using e
 have hb:=below_at h nO;rw[ej] at hb;unfold SetTable.slot at hs;dsimp only at hs;rw[hb,getD_mem nO,ej] at hs;simp at hs
theorem Gb(h:iY xs)(hj:j∉xs.toList):iY (SetTable.insertAt xs (SetTable.below xs j) j):=by
 obtain⟨h1,h2,h3⟩:=M5 j h;show(SetTable.insertAt xs (SetTable.below xs j) j).toList.Pairwise (· < ·);rw[SetTable.toList_insertAt,xi];have tk:∀a∈xs.toList.take (SetTable.below xs j),a<j:=λa ha=>by
  obtain⟨i,hi,e⟩:=cx.mp ha;rw[bE] at hi;have hs:i<xs.size:=by omega
  have:=h2 i ()
  simp_all
 have dp:∀b∈xs.toList.drop (SetTable.below xs j),j<b:=λb hb=>by
  obtain⟨i,hi,e⟩:=cx.mp hb;have hs:SetTable.below xs j+i<xs.size:=by grind
  have:=h3 (SetTable.below xs j+i) () hs;rw[<- cK (h:=hs)] at this;have eL:b≠j:=λz=>hj (by rw[<- z];exact iH hb);simp at e;omega
 refine⟨h.take,bO.mpr ⟨dp,h.drop⟩,λa ha b hb=>?_⟩;have lU:=tk a ha
 grind
theorem V'(n:Nat):iY (Array.range n):=by
 show(Array.range n).toList.Pairwise (· < ·);rw[Array.toList_range];exact gQ
structure Well(L:Bool)(t:SetTable):Prop where
 nz:iY t.place
 mj:t.dummies=#[]
 led:t.led=L
theorem EU(hd:t.dummies=#[])(j:Nat):t.slot j≠.dummy:=by
 unfold SetTable.slot;dsimp only;split
 ·simp
 ·rw[hd];split
  ·rename_i z;simp[SetTable.has] at z
  simp
theorem Gs{t:SetTable}(hd:t.dummies=#[]){hashAt:Nat->Int}{h:Int}:∀(fuel:Nat) (p:SetTable.Probe) {j:Nat} {dm:Option Nat},p.dummy=none->SetTable.probe.go t hashAt h fuel p=some (.empty j dm)->t.slot j=.empty/\dm=none
 |0,p,j,dm,_,e=>by simp[SetTable.probe.go] at e
 |fuel+1,p,j,dm,hp,e=>by
  unfold SetTable.probe.go at e;have ad:∀q:SetTable.Probe,q.dummy=none->(t.advance q).dummy=none:=λq hq=>by
   unfold SetTable.advance;split
   ·exact hq
   ·exact hq
  split at e
  ·simp_all
  ·rename_i hs;exact absurd hs (EU hd _)
  ·split at e
   ·cases e
   ·exact Gs hd fuel _ (ad p hp) e
theorem Vq(hd:t.dummies=#[]){h:Int}{wd:Bool}(e:t.freeSlot h=some (j,wd)):t.slot j=.empty/\wd=false:=by
 unfold SetTable.freeSlot at e;split at e
 ·rename_i j' dm hp;obtain⟨h1,h2⟩:=Gs hd _ _ rfl hp;subst h2;cases e;exact⟨h1,rfl⟩
 ·cases e
theorem F4(h:Well L t)(n:Nat):Well L (t.standIn n):=⟨V' n,rfl,h.led⟩
theorem Sx{h:Int}(hw:Well L t):Well L (layNew t es h x).2.1/\(layNew t es h x).2.2.1=false:=by
 unfold layNew;split
 ·rename_i slot wd e;obtain⟨h1,h2⟩:=Vq hw.mj e;refine⟨?_,h2⟩;have hd:SetTable.has t.dummies slot=false:=by rw[hw.mj];rfl
  have w2:Well L (t.put slot).1:=⟨Gb hw.nz (Ge hw.nz h1),by simp only[SetTable.put,hd];exact hw.mj,hw.led⟩
  dsimp only;unfold SetTable.orStandIn;split
  ·exact w2
  ·exact F4 w2 _
 ·exact⟨F4 hw _,rfl⟩
theorem Fz{mask finger moves:Nat}{led plain:Bool}{hashes:Array Int}{o:Array Nat}(hl:led=L)(e:SetTable.laid mask finger moves led plain hashes=some (t,o)):Well L t:=by
 unfold SetTable.laid at e;cases ho:SetTable.layClean mask hashes with
 |none=>rw[ho] at e;cases e
 |some owner =>
  rw[ho] at e;simp only[Option.bind_eq_bind,Option.bind_some,Option.pure_def,Option.some.injEq,Prod.mk.injEq] at e;obtain⟨rfl,_⟩:=e;refine⟨?_,rfl,hl⟩;show(List.map _ _).toArray.toList.Pairwise (· < ·);rw[List.toList_toArray];have sub:((List.range (mask+1)).filterMap λj=>(owner.getD j none).map (j,·)).map (·.1) |>.Sublist (List.range (mask+1)):=by
   generalize List.range (mask+1)=l
   induction l with
   |nil=>simp
   |cons a r ih =>
    rw[cX];cases owner.getD a none with
    |none=>exact ih.cons a
    |some k=>exact ih.cons_cons a
  exact List.Pairwise.sublist sub gQ
theorem To(hw:Well L t):Well L (relayAll t es n).2.1:=by
 unfold relayAll;split
 ·rename_i t' order e;dsimp only;split
  ·exact Fz hw.led e
  ·exact F4 hw _
 ·exact F4 hw _
def toI:Value->Int
 |.int k _=>k
 |_=>0
def Led(w:World):Bool:=!(w.params.followText "set-order")
def q9(prog:Program)(w:World)(h:Heap)(a:Addr)(ks:List Int):Prop :=
 ∃o es ep t,h.get? a=some o/\o.ExactSet/\o.data=.set es ep t/\ElemsOf (intKind prog w) es.toList/\(es.toList.map λe=>toI e.2).Perm ks/\ks.Nodup/\es.size<scanBound/\t.fits es.size=true/\Well (Led w) t
theorem q9.at(x:q9 prog w h a ks)(k:∀o,h.get? a=some o->h'.get? a=some o):q9 prog w h' a ks:=by
 obtain⟨o,es,ep,t,e,r⟩:=x;exact⟨o,es,ep,t,k o e,r⟩
theorem Z5{e:Int×Value}{es:List (Int×Value)}(h:ElemsOf (intKind prog w) es)(he:e∈es):∃tk,e.2=.int (toI e.2) tk/\e.1=(intKind prog w).hash (toI e.2):=by
 obtain⟨⟨k,h1,h2⟩,_⟩:=h e he;obtain⟨t,ht⟩:=Value.isInt_shape h1;refine⟨t,by rw[ht];rfl,?_⟩;rw[h2,ht]
 rfl
theorem GA{e:Int×Value}{es:List (Int×Value)}(h:ElemsOf (intKind prog w) es)(he:e∈es)(k:Int):(intKind prog w).is k e.2=decide (toI e.2=k):=by
 obtain⟨t,ht,_⟩:=Z5 h he;rw[ht]
 rfl
theorem q9.mem{a:Addr}{es:List (Int×Value)}(h:ElemsOf (intKind prog w) es)(hp:(es.map λe=>toI e.2).Perm ks)(k:Int):(es.findIdx? λe=>(intKind prog w).is k e.2).isSome=decide (k∈ks):=by
 rw[br,bg,<- hp.mem_iff,az,dW];constructor
 ·rintro⟨i,hi⟩;obtain⟨h1,h2,_⟩:=jE.mp hi;have hm:=cF h1;rw[GA h hm] at h2;exact⟨_,hm,aW h2⟩
 ·rintro⟨e,he,rfl⟩;cases hf:es.findIdx? λe'=>(intKind prog w).is (toI e.2) e'.2 with
  |some i=>exact⟨i,rfl⟩
  |none =>
   have:=List.findIdx?_eq_none_iff.mp hf e he;rw[GA h he] at this;simp at this
def I9(ks:List Int)(k:Int):List Int:=if k∈ks then ks else ks++[k]
theorem Yv(ks:List Int)(k:Int):(I9 ks k).length<=ks.length+1:=by unfold I9;split<;>simp
theorem L'{k:Int}{tk:Tok}{Q:Bool->Shared->Prop}(hS:q9 prog w s.heap a ks)(hr:ks.length+1<scanBound)(h:∀h' b,Heap.SameBut a s.heap h'->q9 prog w h' a (I9 ks k)->Q b { s with heap:=h' }):wpAny (model prog w) A (setAddHashed a (.int k tk) ((intKind prog w).hash k)) Q E s:=by
 obtain⟨o,es,ep,t,ho,hx,hd,lS,hp,hn,hb,hf,hw⟩:=hS;have hlen:es.size=ks.length:=by rw[<- hp.length_eq];simp
 have fZ:(intKind prog w).is k (.int k tk)=true:=jc _ _ _ _;have gv:∀(b:Bool) (s1:Shared) (Q':Unit->Shared->Prop),Q' Unit.unit s1->wpAny (model prog w) A (match b with|true=>rule "set.scan.the-table-gave-way"|false=>pure Unit.unit) Q' E s1:=λb s1 Q' q=>by
  cases b
  ·exact af q
  ·exact gx q
 refine bf (aa (aU ho hd hf ?_));dsimp only;rw[byScan_of rfl hb lS,aJ rfl];refine aa (aa (gx (aa (wpAny_setScan_of fZ ho hd hf lS ?_))));have hm:=q9.mem (a:=a) lS hp k;cases vJ:es.toList.findIdx? (λe=>(intKind prog w).is k e.2) with
 |some j =>
  have hk:k∈ks:=by simp_all
  refine af (af ?_);refine h s.heap _ (Heap.SameBut.refl a s.heap) ?_;unfold I9;rw[aJ hk];exact⟨o,es,ep,t,ho,hx,hd,lS,hp,hn,hb,hf,hw⟩
 |none =>
  rw[vJ] at hm;have hk:k∉ks:=by simpa using hm.symm
  have p1:=layNew_perm t es ((intKind prog w).hash k) (.int k tk);have f1:=layNew_fits t es ((intKind prog w).hash k) (.int k tk);obtain⟨w1,BK⟩:=Sx hw;generalize layNew t es ((intKind prog w).hash k) (.int k tk)=R1 at p1 f1 w1 BK ⊢;obtain⟨eU,t1,wd,KI⟩:=R1;subst BK;rw[dF] at p1;have Dv:=(lS.push fZ rfl).perm p1;have YK:eU.size=es.size+1:=by rw[<- aX,p1.length_eq];simp
  have k1:(eU.toList.map λe=>toI e.2).Perm (I9 ks k):=by
   unfold I9;rw[aB hk];refine(p1.map _).trans ?_;rw[bc];exact hp.append_right _
  have n1:(I9 ks k).Nodup:=by
   unfold I9;rw[aB hk,dD];exact⟨hn,by simp,λx hx y hy=>by grind⟩
  refine aa (gv _ _ _ ?_);have fin:∀ (t2:SetTable),t2.fits eU.size=true->Well (Led w) t2->wpAny (model prog w) A (do
    storeSet a eU t2
    if(!false&&t2.tooFull)=true then do
      (match(relayAll t2 eU (SetTable.grown eU.size)).2.2 with|true=>rule "set.scan.the-table-gave-way"|false=>pure Unit.unit)
      storeSet a (relayAll t2 eU (SetTable.grown eU.size)).1 (relayAll t2 eU (SetTable.grown eU.size)).2.1
      pure (some true)
     else pure (some true)) (λr s'=>wpAny (model prog w) A (match r with | some added=>pure added | none=>setAddHashedIn a (.int k tk) ((intKind prog w).hash k) 99999) Q E s') E s:=λt2 f2 w2=>by
   have g1:(s.heap.update a (Obj.putSet eU t2)).get? a=some { o with data:=.set eU (ep+1) t2 }:=by
    have:=aN (Obj.putSet eU t2) ho (by rw[ka eU t2 hd];rfl);rw[ka eU t2 hd] at this;exact this
   refine aa (hV ho hd ?_ (fits_of_scanBound ()));have qP:=aO s.heap a (Obj.putSet eU t2);split
   ·have p2:=relayAll_perm t2 eU (SetTable.grown eU.size);have f3:=relayAll_fits t2 eU (SetTable.grown eU.size);have w3:=To (es:=eU) (n:=SetTable.grown eU.size) w2;generalize relayAll t2 eU (SetTable.grown eU.size)=R2 at p2 f3 w3 ⊢;obtain⟨jI,t3,Zk⟩:=R2;dsimp only at p2 f3 w3 ⊢;have xE:jI.size=eU.size:=by rw[<- aX,p2.length_eq,aX]
    refine aa (gv _ _ _ ?_);refine aa (hV g1 rfl ?_ (fits_of_scanBound ()));refine af (af (h _ _ (qP.trans (aO _ a _)) ?_));have g2:((s.heap.update a (Obj.putSet eU t2)).update a (Obj.putSet jI t3)).get? a=some { o with data:=.set jI (ep+1+1) t3 }:=by
     have:=aN (Obj.putSet jI t3) g1 (by rfl);exact this
    exact⟨_,jI,_,t3,g2,hx,rfl,Dv.perm p2,(p2.map _).trans k1,n1,by omega,f3,w3⟩
   ·exact af (af (h _ _ qP ⟨_,eU,_,t2,g1,hx,rfl,Dv,k1,n1,by omega,f1 |> λ_=>f2,w2⟩))
  split
  ·refine aa (dC (hashByValue_scannable 8 rfl) ?_);exact fin _ f1 w1
  ·refine aa (af ?_);exact fin _ f1 w1
theorem SR:entryFor table "set.__iter__"=some Builtin.«frozenset.__iter__» :=
 entryFor_alias (id':="frozenset.__iter__") (by kernel_rfl) rfl (by decide +kernel) (by kernel_rfl)
theorem v5:Slot "set_iterator" "__next__" "set_iterator.__next__" :=
 .of (owner:="set_iterator") (n:="__next__") (by rw[typeLookup_type,builtinLookup_eq_fast];kernel_rfl) (by decide +kernel) (by decide +kernel) (by decide +kernel)
  (by first|exact .inl (by decide +kernel)|exact .inr (by decide +kernel)) (by rw[dU];kernel_rfl)
theorem Gh:entryFor table "set_iterator.__next__"=some Builtin.«set_iterator.__next__»:=entryFor_of_tree (by kernel_rfl)
theorem Y0(a:Value):argsOk "set_iterator.__next__" ⟨[a],[]⟩:=by
 unfold argsOk
 kernel_rfl
theorem W0:Slot "set_iterator" "__iter__" "set_iterator.__iter__" :=
 .of (owner:="set_iterator") (n:="__iter__") (by rw[typeLookup_type,builtinLookup_eq_fast];kernel_rfl) (by decide +kernel) (by decide +kernel) (by decide +kernel)
  (by first|exact .inl (by decide +kernel)|exact .inr (by decide +kernel)) (by rw[dU];kernel_rfl)
theorem Ss:entryFor table "set_iterator.__iter__"=some Builtin.«dict_keyiterator.__iter__» :=
 entryFor_alias (id':="dict_keyiterator.__iter__") (by kernel_rfl) rfl (by decide +kernel) (by kernel_rfl)
theorem SK(a:Value):argsOk "set_iterator.__iter__" ⟨[a],[]⟩:=by
 unfold argsOk
 kernel_rfl
inductive Rd|text|plain|drawn
structure Lies(h:Heap)(a:Addr)(es:Array (Int×Value))(ep:Nat)(t:SetTable):Prop where
 at_:∃o,h.get? a=some o/\o.cls=.type "set"/\o.data=.set es ep t
 fit:t.fits es.size=true
theorem Lies.at(x:Lies h a es ep t)(k:∀o,h.get? a=some o->h'.get? a=some o):Lies h' a es ep t :=
 ⟨let ⟨o,e,r⟩:=x.at_;⟨o,k o e,r⟩,x.fit⟩
def x5(h:Heap)(I a:Addr)(f:Value)(i n ep:Nat):Prop:=∃o,h.get? I=some o/\o.cls=.type "set_iterator"/\o.data=.fields #[f,rawInt i,.ref a,rawInt n,rawInt ep]
theorem x5.at(x:x5 h I a f i n ep)(k:∀o,h.get? I=some o->h'.get? I=some o):x5 h' I a f i n ep:=let ⟨o,e,r⟩:=x;⟨o,k o e,r⟩
theorem x5.ty(x:x5 s.heap I a f i n ep):s.TypeIs (.ref I) "set_iterator":=let ⟨o,e,c,_⟩:=x;⟨o,e,c⟩
def uW(w:World)(a:Addr)(es:Array (Int×Value))(ep:Nat)(pl:List Nat):Rd->List Value
 |.text=>(pickOrder (w.params.setOrder a ep) es).toList.map (·.2)
 |.plain=>es.toList.map (·.2)
 |.drawn=>pl.map λj=>(es.getD j (0,.none)).2
def slotAt(t:SetTable):Nat->Nat
 |0=>0
 |i+1=>t.place.getD i 0+1
def K3(h:Heap)(t:SetTable)(b:Addr)(pl:List Nat)(i:Nat)(f:Value):Rd->Prop
 |.text=>∃k:Nat,f=rawInt k
 |.plain=>f=rawInt (slotAt t i)
 |.drawn=>f=.ref b/\∃o e,h.get? b=some o/\o.cls=.type "tuple"/\o.data=.seq (pl.map λj=>rawInt (j:Nat)).toArray e
def rE(w:World)(es:Array (Int×Value))(t:SetTable)(pl:List Nat):Rd->Prop
 |.text=>w.params.followText "set-order"=true
 |.plain=>w.params.followText "set-order"=false/\(t.plain=true\/es.size<=1)/\Well true t
 |.drawn=>w.params.followText "set-order"=false/\pl.Perm (List.range es.size)
theorem X9{Q:Bool->Shared->Prop}(h:Q (w.params.followText "set-order") s):wpAny (model prog w) A setsByText Q E s:=by
 exact aa (wpAny_askSetting (af h))
theorem FE(hL:Lies s.heap a es ep t)(ht:w.params.followText "set-order"=true){sl g:Nat}{Q:Option (Value×Nat)->Shared->Prop}(h:Q (((pickOrder (w.params.setOrder a ep) es)[g]?).map λe=>(e.2,sl)) s) :
  wpAny (model prog w) A (setNext a sl g ep) Q E s:=by
 obtain⟨o,ho,_,hd⟩:=hL.at_;refine aa (aU ho hd hL.fit ?_);refine aa (X9 ?_);rw[ht,aJ rfl,aB (by simp)];refine aa (aa (aU ho hd hL.fit ?_));refine aa (X9 ?_);rw[ht,aJ rfl];exact aa (wpAny_askSetting (af (af h)))
theorem FY(hL:Lies s.heap a es ep t)(ht:w.params.followText "set-order"=false)(hp:t.plain=true\/es.size<=1)(hl:t.led=true){sl g:Nat}{Q:Option (Value×Nat)->Shared->Prop}(h:Q (match es[SetTable.below t.place sl]?,t.place[SetTable.below t.place sl]? with|some (_,x),some j=>some (x,j+1)|_,_=>none) s):wpAny (model prog w) A (setNext a sl g ep) Q E s:=by
 obtain⟨o,ho,_,hd⟩:=hL.at_;refine aa (aU ho hd hL.fit ?_);refine aa (X9 ?_);rw[ht,aB ∅];show wpAny _ _ (if(!t.plain&&decide (es.size>1))=true then _ else _) _ _ _;rw[aB (by rcases hp with e|e<;>simp[e])];refine aa (dC (a:=Unit.unit) ?_ (af h));show((if(!t.led&&!es.isEmpty)=true then unsupported "set:maker-not-led" else pure Unit.unit):Sem Unit)=pure Unit.unit;rw[hl]
 rfl
theorem WT(hL:Lies s.heap a es ep t)(hj:j<es.size)(h:Q (es.getD j (0,.none)).2 s):wpAny (model prog w) A (setNextDrawn a j ep) Q E s:=by
 obtain⟨o,ho,_,hd⟩:=hL.at_;refine aa (aU ho hd hL.fit ?_);dsimp only;rw[aB (by simp)];have e:es[j]?=some (es.getD j (0,.none)):=by simp_all
 rw[e];exact af h
theorem Fh(hL:Lies s.heap a es ep t):t.place.size=es.size:=by
 have:=hL.fit;unfold SetTable.fits at this;simp at this;exact this.1
theorem FQ(hw:iY t.place)(hi:i<=t.place.size):SetTable.below t.place (slotAt t i)=i:=by
 cases i with
 |zero=>exact Wu hw
 |succ i=>exact Wt hw ()
theorem entries{Q:Array (Int×Value)->Shared->Prop}(hL:Lies s.heap a es ep t)(h:Q es s):wpAny (model prog w) A (setEntries a) Q E s:=by
 obtain⟨o,ho,_,hd⟩:=hL.at_;exact aa (aU ho hd hL.fit (af h))
theorem Rm{f':Value}(hi:x5 h I a f i n ep)(hx:x=rawInt ((i:Int)+1)):x5 ((h.update I (Obj.mapFields (·.setIfInBounds 0 f'))).update I (Obj.mapFields (·.setIfInBounds 1 x))) I a f' (i+1) n ep:=by
 obtain⟨o,ho,hc,hd⟩:=hi;have h1:=aN (Obj.mapFields (·.setIfInBounds 0 f')) ho (cw (aY hd _));have d1:(Obj.mapFields (·.setIfInBounds 0 f') o).data=.fields #[f',rawInt i,.ref a,rawInt n,rawInt ep]:=by rw[aY hd];simp
 have h2:=aN (Obj.mapFields (·.setIfInBounds 1 x)) h1 (cw (aY d1 _));refine⟨_,h2,(hX ..).trans ((hX ..).trans hc),?_⟩;rw[aY d1]
 simp_all
theorem Rk(hi:x5 h I a f i n ep)(hx:x=rawInt ((i:Int)+1)):x5 (h.update I (Obj.mapFields (·.setIfInBounds 1 x))) I a f (i+1) n ep:=by
 obtain⟨o,ho,hc,hd⟩:=hi;have h2:=aN (Obj.mapFields (·.setIfInBounds 1 x)) ho (cw (aY hd _));refine⟨_,h2,(hX ..).trans hc,?_⟩;rw[aY hd];subst hx;simp[rawInt]
theorem Ee{f':Value}{m:Sem α}{Q':α->Shared->Prop}(hi:x5 s.heap I a f i n ep)(hx:x=rawInt ((i:Int)+1))(h:∀h',x5 h' I a f' (i+1) n ep->Heap.SameBut I s.heap h'->wpAny (model prog w) A m Q' E { s with heap:=h' }) :
  wpAny (model prog w) A (do setField (.ref I) 0 f';setField (.ref I) 1 x;m) Q' E s:=by
 obtain⟨o,ho,hc,hd⟩:=id hi;refine aa (cB ho hd (by simp) ?_);have h1:=aN (Obj.mapFields (·.setIfInBounds 0 f')) ho (cw (aY hd _));have d1:(Obj.mapFields (·.setIfInBounds 0 f') o).data=.fields #[f',rawInt i,.ref a,rawInt n,rawInt ep]:=by rw[aY hd];simp
 refine aa (cB h1 d1 (by simp) ?_);exact h _ (Rm hi hx) ((aO ..).trans (aO ..))
theorem Sa{m:Sem α}{Q':α->Shared->Prop}(hi:x5 s.heap I a f i n ep)(hx:x=rawInt ((i:Int)+1))(h:∀h',x5 h' I a f (i+1) n ep->Heap.SameBut I s.heap h'->wpAny (model prog w) A m Q' E { s with heap:=h' }) :
  wpAny (model prog w) A (do setField (.ref I) 1 x;m) Q' E s:=by
 obtain⟨o,ho,hc,hd⟩:=id hi;refine aa (cB ho hd (by simp) ?_);exact h _ (Rk hi hx) (aO ..)
theorem Aw(next:Nat->Nat)(xs:Array α):(pickOrder next xs).toList.Perm xs.toList:=by
 have go:∀(fuel k:Nat) (left:List α) (out:Array α),fuel=left.length->(pickOrder.go next fuel k left out).toList.Perm (out.toList++left):=by
  intro fuel
  induction fuel with
  |zero =>
   intro k left out e;have:=bH e.symm;subst this;simp[pickOrder.go]
  |succ n ih =>
   intro k left out e;have et:next k % left.length<left.length:=mU _ ()
   unfold pickOrder.go;rw[ak et];refine(ih _ _ _ (by rw[fz et];omega)).trans ?_;rw[dF,fS];refine List.Perm.append_left _ ?_;have:left.Perm (left[next k % left.length]::left.eraseIdx (next k % left.length)):=by
    rw[kc]
    conv=>lhs;rw[<- vi (next k % left.length) left,dS et]
    exact ZC
   exact this.symm
 have:=go xs.size 0 xs.toList #[] (by simp);simpa[pickOrder] using this
theorem next_item{Q:Option Value->Shared->Prop}(hL:Lies s.heap a es ep t)(hr:rE w es t pl r)(hi:x5 s.heap I a f i es.size ep)(hf:K3 s.heap t b pl i f r)(eL:b≠I)(et:i<es.size)(h:∀v h' f',(uW w a es ep pl r)[i]?=some v->x5 h' I a f' (i+1) es.size ep->K3 h' t b pl (i+1) f' r->Heap.SameBut I s.heap h'->Q (some v) { s with heap:=h' }):wpAny (model prog w) A (pyNext (.ref I)) Q E s:=by
 obtain⟨o,ho,hc,hd⟩:=id hi;refine aa (ig (eV hi.ty v5 (cO v5 hi.ty Gh ?_ (Y0 _))));refine aa (af ?_);refine aa (jL ho hd ?_);refine aa (entries hL ?_);rw[aB (by simp)];rw[cz,cz];cases r with
 |text =>
  obtain⟨k,rfl⟩:=hf;refine aa (FE hL hr ?_);have hl:i<(pickOrder (w.params.setOrder a ep) es).size:=by
   have:=(Aw (w.params.setOrder a ep) es).length_eq
   simp_all
  rw[cQ hl];refine Ee hi rfl λh' h1 h2=>af ⟨_,rfl,af (h _ _ _ ?_ h1 ⟨_,rfl⟩ h2)⟩;show((pickOrder (w.params.setOrder a ep) es).toList.map (·.2))[i]?=_;simp[hl]
 |plain =>
  obtain⟨r1,r2,r3⟩:=hr;have hs:=Fh hL;obtain rfl:=hf;dsimp only[rawInt];rw[cz];refine aa (FY hL r1 r2 r3.led ?_);rw[FQ r3.nz (),cQ et,getD_mem ()];refine Ee hi rfl λh' h1 h2=>af ⟨_,rfl,af (h _ _ _ ?_ h1 rfl h2)⟩;show(es.toList.map (·.2))[i]?=_;simp[et]
 |drawn =>
  obtain⟨r1,r2⟩:=hr;obtain⟨rfl,ob,e,hb,CV,vP⟩:=hf;have fN:i<pl.length:=by rw[r2.length_eq];simpa using et
  refine aa (jJ hb vP ?_);have hj:pl[i]<es.size:=by
   have:=r2.mem_iff.mp (cF fN)
   simp_all
  have e1:(pl.map λj=>rawInt (j:Nat)).toArray[i]?=some (rawInt (pl[i]:Nat)):=by simp[fN]
  dsimp only;rw[e1];refine aa (WT hL hj ?_);refine Sa hi rfl λh' h1 h2=>af ⟨_,rfl,af (h _ _ _ ?_ h1 ⟨rfl,ob,e,by rw[h2.2 b eL];exact hb,CV,vP⟩ h2)⟩;show(pl.map λj=>(es.getD j (0,.none)).2)[i]?=_;simp[fN]
theorem S7{Q:Option Value->Shared->Prop}{h0:Heap}(hh:A.handled=none)(Kx:Heap.ExtBut I h0 s.heap)(h:∀h',Heap.ExtBut I h0 h'->Q none { s with heap:=h' }) :
  wpAny (model prog w) A.in1 (newExc (.type "StopIteration") [] >>= λe=>(raiseNew e:Sem Fin)) (λfin s'=>∃v,fin=Fin.done (Flow.ret v)/\wpAny (model prog w) A (pure (some v)) Q E s')
   (λe s'=>wpAny (model prog w) A (do
     let x <- isInstance e (Value.type "StopIteration")
     if x=true then pure none else throw e) Q E s') s:=by
 refine aa ?_;refine aa (cc ?_ (by size_fits));refine aa (dC (a:=Value.none) (by rfl) ?_);refine cc ?_ (by size_fits);refine aa (wpAny_handled ?_);rw[show A.in1.handled=none from hh];refine aa (af (wpAny_throw ?_));refine aa (du ⟨_,aw _ rfl,rfl⟩ isSubtype_stop ?_);exact af (h _ ((Kx.push _).push _))
theorem next_end{Q:Option Value->Shared->Prop}(hh:A.handled=none)(hL:Lies s.heap a es ep t)(hr:rE w es t pl r)(hi:x5 s.heap I a f es.size es.size ep)(hf:K3 s.heap t b pl es.size f r)(eL:b≠I)(h:∀h',Heap.ExtBut I s.heap h'->Q none { s with heap:=h' }):wpAny (model prog w) A (pyNext (.ref I)) Q E s:=by
 obtain⟨o,ho,hc,hd⟩:=id hi;refine aa (ig (eV hi.ty v5 (cO v5 hi.ty Gh ?_ (Y0 _))));refine aa (af ?_);refine aa (jL ho hd ?_);refine aa (entries hL ?_);rw[aB (by simp)];rw[cz,cz];cases r with
 |text =>
  obtain⟨k,rfl⟩:=hf;refine aa (FE hL hr ?_);have hl:(pickOrder (w.params.setOrder a ep) es).size<=es.size:=by
   have:=(Aw (w.params.setOrder a ep) es).length_eq
   grind
  rw[gS hl];refine aa (cB ho hd (by simp) ?_);exact S7 hh (aO ..).extBut h
 |plain =>
  obtain⟨r1,r2,r3⟩:=hr;have hs:=Fh hL;obtain rfl:=hf;dsimp only[rawInt];rw[cz];refine aa (FY hL r1 r2 r3.led ?_);rw[FQ r3.nz (),gS (aj _)];refine aa (cB ho hd (by simp) ?_);exact S7 hh (aO ..).extBut h
 |drawn =>
  obtain⟨r1,r2⟩:=hr;obtain⟨rfl,ob,e,hb,CV,vP⟩:=hf;have fN:pl.length=es.size:=by rw[r2.length_eq];simp
  refine aa (jJ hb vP ?_);have e1:(pl.map λj=>rawInt (j:Nat)).toArray[es.size]?=none:=by simp[fN]
  dsimp only;rw[e1];refine aa (cB ho hd (by simp) ?_);have h1:=aN (Obj.mapFields (·.setIfInBounds 0 (Value.int 0 0))) ho (cw (aY hd _));refine aa (cB h1 (aY hd _) (by simp) ?_);exact S7 hh ((aO ..).trans (aO ..)).extBut h
theorem VS{l:List α}(et:k<l.length):(l[k]::l.eraseIdx k).Perm l:=by
 rw[kc]
 conv=>rhs;rw[<- vi k l,dS et]
 exact ZC.symm
theorem FT{α:Type}:∀(n:Nat) (xs:List α) (s:Shared) (Q:List α->Shared->Prop),n=xs.length->(∀ys d,ys.Perm xs->Q ys { s with drawn:=d })->wpAny (model prog w) A (drawOrder n xs) Q E s
 |0,xs,s,Q,e,h=>by
  have:=bH e.symm;subst this;exact af (h [] s.drawn (List.Perm.refl _))
 |n+1,[],s,Q,e,h=>by simp at e
 |n+1,x::xs,s,Q,e,h=>by
  refine aa ?_;intro Γ p YU;refine⟨by simp,?_⟩;generalize (model prog w).w.draws .order (s.drawn.get .order)=k;have et:k % (x::xs).length<(x::xs).length:=mU _ (by simp);have go:wpAny (model prog w) A (match (x :: xs)[k % (x :: xs).length]? with
   |some y=>do
    let ys <- drawOrder n ((x::xs).eraseIdx (k % (x::xs).length))
    pure (y::ys)
   | none=>unsupported "internal:drawOrder") Q E { s with drawn:=s.drawn.bump .order }:=by
   rw[ak et];refine aa (FT n _ _ _ (by rw[fz et];omega) λys d hp=>af ?_);exact h _ d ((List.Perm.cons _ hp).trans (VS et))
  exact go
theorem EW(hr:rE w es t pl r):(uW w a es ep pl r).Perm (es.toList.map (·.2)):=by
 cases r with
 |text=>exact(Aw _ es).map _
 |plain=>rfl
 |drawn =>
  refine(hr.2.map _).trans ?_;have:(List.range es.size).map (λj=>(es.getD j (0,.none)).2)=es.toList.map (·.2):=by
   apply ZE
   ·simp
   simp_all
  rw[this]
theorem Lies.ty(hL:Lies s.heap a es ep t):s.TypeIs (.ref a) "set":=let ⟨o,e,c,_⟩:=hL.at_;⟨o,e,c⟩
theorem UL(hL:Lies s.heap a es ep t)(hw:Well (Led w) t)(hz:es.size<=10000)(h:∀r pl b f I h' d',rE w es t pl r->x5 h' I a f 0 es.size ep->K3 h' t b pl 0 f r->b≠I->(b=a\/s.heap.objs.size<=b)->(∀c o,s.heap.get? c=some o->h'.get? c=some o)->s.heap.objs.size<=I->s.heap.objs.size<=h'.objs.size->Q (.ref I) { s with heap:=h',drawn:=d' }) :
  wpAny (model prog w) A (pyIter (.ref a)) Q E s:=by
 obtain⟨o,ho,yo,hd⟩:=hL.at_;refine mR hL.ty F.slot_set_iter (cO F.slot_set_iter hL.ty SR ?_ (F.args_set_iter_1 _));refine aa (af ?_);refine aa (aa (entries hL (af ?_)));refine aa (aa (aU ho hd hL.fit ?_));refine aa (X9 (af ?_));have et:=ao ho;have fin:∀(r:Rd) (f:Value) (b:Addr) (pl:List Nat) (h1:Heap) (d1:Drawn),rE w es t pl r->(∀h',(∀c o,h1.get? c=some o->h'.get? c=some o)->K3 h' t b pl 0 f r)->b<h1.objs.size->(b=a\/s.heap.objs.size<=b)->(∀c o,s.heap.get? c=some o->h1.get? c=some o)->s.heap.objs.size<=h1.objs.size ->
   wpAny (model prog w) A.in1 (do
    let e <- setEpoch a
    ret (<- newFields "set_iterator" [f,rawInt 0,.ref a,rawInt es.size,rawInt e])) (λfin s'=>∃ v,fin=Fin.done (Flow.ret v)/\∃ T' r,s'.TypeIs v T'/\typeLookup (.type T') "__next__"=pure (some r)/\Q v s') E { s with heap:=h1,drawn:=d1 }:=λr f b pl h1 d1 hr hf hb Kg he iQ=>by
  have mI:=hL.at λo e=>he a o e;obtain⟨o1,JH,_,Kb⟩:=mI.at_;refine aa (aa (aU JH Kb mI.fit (af ?_)));refine aa (cc (af ⟨_,rfl,"set_iterator",_,⟨_,aw _ rfl,rfl⟩,v5.lookup,?_⟩));refine h r pl b f h1.objs.size _ d1 hr ⟨_,aw _ rfl,rfl,rfl⟩ (hf _ λc o e=>ah _ e) (aD hb) Kg (λc o e=>ah _ (he c o e)) iQ (by rw[vf];exact YE iQ)
 cases hT:w.params.followText "set-order" with
 |true =>
  refine aa (af ?_);exact fin .text (rawInt 0) a [] s.heap s.drawn hT (λh' _=>⟨0,rfl⟩) et (.inl rfl) (λc o e=>e) (aj _)
 |false =>
  show wpAny _ _ (if(!false&&(!t.plain&&decide (es.size>1)))=true then _ else _ ) _ _ _;by_cases hp:t.plain=true\/es.size<=1
  ·rw[aB (by rcases hp with e|e<;>simp[e])];refine aa (af ?_);refine fin .plain (rawInt 0) a [] s.heap s.drawn ⟨hT,hp,?_⟩ (λh' _=>rfl) et (.inl rfl) (λc o e=>e) (aj _);have:Led w=true:=by unfold Led;rw[hT];rfl
   simp_all
  ·rw[aJ (by grind)];refine aa (FT _ _ _ _ (dE).symm λys d hy=>?_);have hl:ys.length=es.size:=by rw[hy.length_eq];simp
   refine aa (cc ?_ (by show(List.map _ ys).toArray.size<=sizeLine;rw[aG,ai,hl];exact aE hz ∅));refine fin .drawn (.ref s.heap.objs.size) s.heap.objs.size ys _ d ⟨hT,hy⟩ (λh' hk=>⟨rfl,_,_,hk _ _ (aw _ rfl),rfl,rfl⟩) (by simp) (.inr (aj _)) (λc o e=>ah _ e) (by simp)
theorem We(hh:A.handled=none)(hr:rE w es t pl r)(eL:b≠I)(JK:a≠I) :
  Walks prog w A I [I,a,b] [I] es.size (λi v=>(uW w a es ep pl r)[i]?=some v) (λi h=>Lies h a es ep t/\∃f,x5 h I a f i es.size ep/\K3 h t b pl i f r) where
 sub:=λc hc=>by simp_all
 frame:=λi h h' st hk=>by
  obtain⟨hL,f,hi,hf⟩:=st;refine⟨hL.at λo e=>hk a (by simp) o e,f,hi.at λo e=>hk I (by simp) o e,?_⟩;cases r with
  |text=>exact hf
  |plain=>exact hf
  |drawn =>
   obtain⟨e1,o,e,h1,h2⟩:=hf;exact⟨e1,o,e,hk b (by simp) o h1,h2⟩
 item:=λi s Q E hi st hQ=>by
  obtain⟨hL,f,hI,hf⟩:=st;exact next_item hL hr hI hf eL hi λv h' f' hv h1 h2 h3=>hQ v h' s.toks hv ⟨hL.at λo e=>by rw[h3.2 a JK];exact e,f',h1,h2⟩ λc o hc e=>h3.extBut c o (λz=>hc (by simp[z])) e
 done:=λs Q E st hQ=>by
  obtain⟨hL,f,hI,hf⟩:=st;exact next_end hh hL hr hI hf eL λh' he=>hQ h' s.toks λc o hc e=>he c o (λz=>hc (by simp[z])) e
 self:=λi s Q E st hQ=>by
  obtain⟨hL,f,hI,hf⟩:=st;refine mR hI.ty W0 (cO W0 hI.ty Ss ?_ (SK _));exact aa (af (af ⟨_,rfl,"set_iterator",_,hI.ty,v5.lookup,hQ⟩))
theorem SW:typeLookup (.type "set") "__len__"=pure (some (.builtin "set.__len__")):=by rfl
theorem SF(hh:A.handled=none)(hL:Lies s.heap a es ep t)(hw:Well (Led w) t)(hz:es.size<=10000){Q:List Value->Shared->Prop}(h:∀(vs:List Value) h' d' ia,vs.Perm (es.toList.map (·.2))->(∀c o,s.heap.get? c=some o->h'.get? c=some o)->s.heap.objs.size<=h'.objs.size->s.toks<=ia->Q vs { s with heap:=h',drawn:=d',toks:=ia }) :
  wpAny (model prog w) A (collect (.ref a)) Q E s:=by
 have et:=let ⟨o,ho,_⟩:=hL.at_;ao ho
 refine aa (jK (bT F.entry_proto_collect ?_));refine aa (cc ?_);refine af ⟨eP mX _,bT F.entry_list_iadd ?_⟩;have mI:Lies (s.heap.push { cls:=.type "list",data:=.seq ([]:List Value).toArray }) a es ep t:=hL.at λo e=>ah _ e;have yO:(s.heap.push { cls:=.type "list",data:=.seq ([]:List Value).toArray }).get? s.heap.objs.size=some { cls:=.type "list",data:=.seq ([]:List Value).toArray }:=aw _ rfl;have eL:=bu et;have h1:Builtin.List.listSameRef (.ref s.heap.objs.size) (.ref a)=false:=by simp[Builtin.List.listSameRef,eL]
 show wpAny _ A.in1 (Builtin.List.listExtendWith (.ref s.heap.objs.size) (.ref a) (.ref s.heap.objs.size)) _ _ _;refine aa (dH (Lies.ty mI) ?_);rw[aB (by rw[h1];decide)];refine aa (UL mI hw hz λr pl b f I h2 d2 hr hI hf hb Ke he yQ Zj=>?_);have nT:=mI.at λo e=>he a o e;have lV:=he _ _ yO;refine aa (bf ?_);refine aa (rQ (Lies.ty nT) SW ?_);generalize ua:("set.__len__":String)=ya;dsimp only;rw[show splitId ya=some ("set","__len__") from by subst ua;decide +kernel];refine aa (du (b:=true) (Lies.ty nT) (by rfl) ?_);rw[aB ∅];subst ua;rw[aJ (by decide +kernel)];refine aa (dH (Lies.ty nT) ?_);refine af ?_;rw[aJ (by decide +kernel)];refine aa (gx ?_);refine aa ?_;refine aa (jk lV rfl ?_);have ui:=aN (Obj.mapSeq (·.push Value.none)) lV rfl;refine jk (s:={ s with heap:=_,drawn:=d2 }) ui rfl ?_;have yN:=aN (Obj.mapSeq (·.pop)) ui rfl;have sN:∀c o,c≠s.heap.objs.size->h2.get? c=some o->((h2.update s.heap.objs.size (Obj.mapSeq (·.push Value.none))).update s.heap.objs.size (Obj.mapSeq (·.pop))).get? c=some o :=
  λc o hc e=>(bJ _ _ (bW hc)).trans ((bJ _ _ (bW hc)).trans e)
 have jV:s.heap.objs.size<(s.heap.push { cls:=.type "list",data:=.seq ([]:List Value).toArray }).objs.size:=by simp
 have Kl:=bu (ax jV yQ);have Zf:b≠s.heap.objs.size:=by
  rcases Ke with z|z
  ·rw[z];exact bW eL
  ·exact bu (ax jV z)
 have W:=(We (prog:=prog) (A:=A.in1) (ep:=ep) hh hr hb (aD (ax (cv et jV) yQ))).toS;have st:Lies h2 a es ep t/\∃f,x5 h2 I a f 0 es.size ep/\K3 h2 t b pl 0 f r:=⟨nT,f,hI,hf⟩
 have nt:=W.frame 0 ({ s with heap:=h2,drawn:=d2 }:Shared) _ s.toks st (aj _) λc hc o e=>sN c o (λz=>by simp at hc;rcases hc with y|y|y<;>simp_all) e;refine af ⟨eP F.plain_extend_loop _,codeAny_extend_loopS W (aE hz ∅) _ (λz=>by simp at z;rcases z with y|y|y<;>simp_all) _ es.size 0 _ _ _ rfl (bG _) nt yN (ItemsOf.nil _) λs' qi c' hm jY lT=>?_⟩;refine aa (wpAny_load jY ?_);refine af ?_;have eS:s'={ s with heap:=s'.heap,drawn:=d2,toks:=s'.toks }:=by
  obtain⟨kI,g',d',ia,nC⟩:=s';have m1:g'=s.gens:=hm.gens;have m2:d'=d2:=hm.drawn;have m3:nC=s.os:=hm.os
  grind
 have eo:qi.toList=uW w a es ep pl r:=by
  have l1:(uW w a es ep pl r).length=es.size:=by rw[(EW hr).length_eq];simp
  apply ZE
  ·rw[l1];simpa using lT.1
  ·intro i h1 h2;have:=lT.2 i qi.toList[i] (by simp at h1 ⊢);dsimp only at this;rw[ak h2] at this;exact(aF this).symm
 rw[eo,eS];refine h _ _ d2 s'.toks (EW hr) (λc o e=>?_) (bX (ao jY)) hm.toks;have hc:=ao e;have n1:=aD hc;have n2:=aD (ax (cv hc jV) yQ);exact hm.heap c o (by simp[n1,n2]) (sN c o n1 (he c o (ah _ e)))
theorem WZ(hh:A.handled=none)(hS:q9 prog w s.heap a ks)(Zi:ks.length<64)(h:∀(S:Addr) (vs:List Value) (ns:List Int) e h' d' ia,IntsAre vs ns->ns.Perm ks->ns.Pairwise (·<=·)->h'.get? S=some (seqObj "list" vs.toArray e)->s.heap.objs.size<=S->(∀c o,s.heap.get? c=some o->h'.get? c=some o)->s.toks<=ia->Q (.ref S) { s with heap:=h',drawn:=d',toks:=ia }) :
  wpAny (model prog w) A (call (.builtin "sorted") [.ref a]) Q E s:=by
 obtain⟨o,es,ep,t,ho,hx,hd,lS,hp,hn,hb,hf,hw⟩:=hS;have hL:Lies s.heap a es ep t:=⟨⟨o,ho,hx.1,hd⟩,hf⟩
 have hz:es.size=ks.length:=by rw[<- hp.length_eq];simp
 refine Calls.call_function_entry kind_sorted plain_sorted entry_sorted (args_sorted1 _) ?_;unfold Builtin.«sorted»;refine aa (m:=checkCount "sorted" 1 1 _) (af ?_);refine aa (SF (A:=A.in1) hh hL hw () λvs h1 d1 su hv he jV tN=>?_);have hI:IntsAre vs (vs.map toI):=by
  have all:∀v∈vs,∃tk,v=.int (toI v) tk:=λv tM=>by
   obtain⟨e,mG,rfl⟩:=az.mp (hv.mem_iff.mp tM);obtain⟨tk,h1,_⟩:=Z5 lS mG;exact⟨tk,h1⟩
  clear hv
  induction vs with
  |nil=>exact .nil
  |cons v r ih =>
   obtain⟨tk,e⟩:=all v (by simp);have:=IntsAre.cons (toI v) tk (ih λu hu=>all u (by simp[hu]));rw[<- e] at this;exact this
 have hk:(vs.map toI).Perm ks:=by
  refine(hv.map toI).trans ?_;rw[bD];exact hp
 have hl:vs.length<64:=by rw[hv.length_eq];simp;omega
 refine aa (Ik (s:={ s with heap:=h1,drawn:=d1,toks:=su }) ?_);have tR:(h1.push (seqObj "list" vs.toArray 0)).get? h1.objs.size=some (seqObj "list" vs.toArray 0):=aw _ rfl;refine aa (bf (cO (s:={ s with heap:=h1.push (seqObj "list" vs.toArray 0),drawn:=d1,toks:=su }) slot_list_sort ⟨_,tR,rfl⟩ entry_list_sort (list_sort_tree tR hI hl λout xR a1 a2 a3=>⟨_,rfl,?_⟩) (args_list_sort _)));obtain⟨e,mG⟩:=sortedHeap_at (vs:=vs) (out:=out) tR;refine af ⟨_,rfl,h h1.objs.size out.toList xR e _ d1 su a1 (a2.trans hk) a3 mG jV (λc o' e'=>?_) tN⟩;have hc:=ao (he c o' e');rw[sortedHeap_old (aD hc) (by rw[vf];exact fP hc)];exact ah _ (he c o' e')
def j6(ks xs:List Int):List Int:=xs.foldl I9 ks
theorem M6:∀(xs ks:List Int),(j6 ks xs).length<=ks.length+xs.length
 |[],ks=>by simp[j6]
 |x::xs,ks=>by
  have:=M6 xs (I9 ks x);have h2:=Yv ks x;show(j6 (I9 ks x) xs).length<=_
  grind
theorem FX:∀(xs ks:List Int) (k:Int),k∈j6 ks xs↔k∈ks\/k∈xs
 |[],ks,k=>by simp[j6]
 |x::xs,ks,k=>by
  show k∈j6 (I9 ks x) xs↔_;rw[FX xs];unfold I9;split
  ·rename_i h;constructor
   ·rintro(a|a)
    ·exact .inl a
    ·exact .inr (by simp[a])
   ·rintro(a|a)
    ·exact .inl a
    ·rcases av.mp a with rfl|b
     ·exact .inl h
     ·exact .inr b
  ·simp[or_assoc]
theorem WB:Well (Led w) (SetTable.fresh 0 0 (Led w)):=⟨by simp[iY,SetTable.fresh],rfl,rfl⟩
theorem Vr(e:h.get? a=some { cls:=.type "set",dict:=none,data:=.set #[] 0 (.fresh 0 0 (Led w)) }):q9 prog w h a [] :=
 ⟨_,#[],0,_,e,⟨rfl,rfl,rfl⟩,rfl,(by intro e he;simp at he),by simp,by simp,by decide,by rfl,WB⟩
theorem UW{R:Result->Shared->Prop}{fp wr:List Addr}{G:Array GenState->Array GenState->Prop}{P:Nat->Value->Prop}{St:Nat->Shared->Prop}(W:WalksS prog w A.in1 I fp wr G n P St)(uh:a∉fp)(hn:n=ns.length)(hv:∀i v,P i v->∃tk,v=.int (ns.getD i 0) tk)(hb:n+1<scanBound):∀(k i:Nat) (s:Shared),i+k=n->St i s->q9 prog w s.heap a (j6 [] (ns.take i)) ->
   (∀s',Moved (a::wr) G s s'->q9 prog w s'.heap a (j6 [] ns)->R (.ok (.ret .none)) s')->codeAny (model prog w) A (.builtin "set.update.loop" ⟨[.ref a,.ref I],[]⟩) R s:=by
 have hw:a∉wr:=λh=>uh (W.sub _ h);have lG:∀b∈wr,b∈a::wr:=λb hb=>by simp[hb]
 intro k
 induction k with
 |zero =>
  intro i s e st hS hR;obtain rfl:i=n:=by omega
  refine bT cE ?_;refine aa (W.done s _ _ st λs' m=>af (hR s' (m.mono lG) (q9.at ?_ λo e=>m.heap a o hw e)))
  simp_all
 |succ k ih =>
  intro i s e st hS hR;have et:i<ns.length:=by omega
  refine bT cE ?_;refine aa (W.item i s _ _ () st λv s' hP kW m=>?_);obtain⟨tk,rfl⟩:=hv i v hP;have jY:=q9.at hS λo e=>m.heap a o hw e;have hl:=M6 (ns.take i) [];rw[bE] at hl;simp only[List.length_nil] at hl;refine aa (bf ?_);refine bf (aa ((intKind prog w).pyHash (k:=ns.getD i 0) (jc _ _ _ _) ?_));refine L' (s:={ s' with toks:=s'.toks+1 }) jY () λh' bb sb lV=>?_;have e2:I9 (j6 [] (ns.take i)) (ns.getD i 0)=j6 [] (ns.take (i+1)):=by
   unfold j6;rw[cZ,List.foldl_append,ak et];simp[List.getD,et]
  rw[e2] at lV;refine af ⟨eP cC _,ih (i+1) _ () (W.frame _ s' _ _ kW (kO _) λb hb o e=>by rw[sb.2 b λz=>uh (z▸hb)];exact e) lV λs2 m2 h2=>?_⟩;exact hR s2 (Moved.trans W.gtrans ((m.mono lG).then_heap (kO _) λb o hb e=>by rw[sb.2 b λz=>hb (by rw[z];simp)];exact e) m2) h2
noncomputable abbrev m6(w:World):Obj:={ cls:=.type "set",dict:=none,data:=.set #[] 0 (.fresh 0 0 (Led w)) }
theorem Xr(h:Q (.ref s.heap.objs.size) { s with heap:=s.heap.push (m6 w) }):wpAny (model prog w) A (newSet (.type "set")) Q E s:=by
 refine aa (X9 ?_);exact cc h (bG _)
theorem EJ(x:Value)(h:Q (.ref s.heap.objs.size) { s with heap:=s.heap.push (m6 w) }):codeAny (model prog w) A (.call (.builtin "set.__new__") ⟨[.type "set",x],[]⟩) (wants Q E) s:=by
 refine rV (?_:wpAny _ A.in1 (do
  checkBuiltinCall "set.__new__" ⟨[.type "set",x],[]⟩
  again (.builtin "set.__new__" ⟨[.type "set",x],[]⟩)) _ _ s)
 refine aa (dC (F.newCall_set_1 x) (af ⟨eP F.plain_set_new _,?_⟩));refine bT F.entry_set_new ?_;have sub:=sub_set_self;refine aa ?_;refine aa (dC (by rfl) ?_);refine aa (dC sub ?_);refine af ?_;exact aa (Xr (af h))
theorem N9{vs:List Value}(h:IntsAre vs ns):vs.length=ns.length:=by
 induction h with
 |nil=>rfl
 |cons n t r ih=>simp[ih]
def Y3(h:Heap)(l:Addr)(items:Array Value):Prop:=h.IsList l items\/h.IsTuple l items
theorem Y3.lt(x:Y3 h l items):l<h.objs.size:=by
 rcases x with⟨_,e,_⟩|⟨_,e,_⟩<;>exact ao e
theorem TV{Q:Fin->Shared->Prop}(hh:A.handled=none)(hS:s.heap.get? a=some (m6 w))(hl:Y3 s.heap l items)(hi:IntsAre items.toList ns)(hb:items.size+1<scanBound)(eL:a≠l)(h:∀h' tk,q9 prog w h' a (j6 [] ns)->(∀b o,b≠a->s.heap.get? b=some o->h'.get? b=some o)->s.toks<=tk->wpAny (model prog w) A (ret .none) Q E { s with heap:=h',toks:=tk }) :
  wpAny (model prog w) A (Builtin.«set.__init__» ⟨[.ref a,.ref l],[]⟩) Q E s:=by
 have hT:s.TypeIs (.ref a) "set":=⟨_,hS,rfl⟩
 have et:=hl.lt;have tT:=aD et;refine aa (dC rfl ?_);have nm:∀{Q':String->Shared->Prop},(∀x,Q' x s)->wpAny (model prog w) A (typeNameOfCut 200 (.ref a)) Q' E s:=λ{Q'} q=>by
  refine aa (aa (dH hT ?_));refine af (dC (a:="set") ?_ (q _))
  rfl
 refine aa (nm λx=>?_);refine aa (af ?_);refine aa (af ?_);refine aa (aa (aU hS rfl rfl (af ?_)));rw[aB (by unfold SetTable.fill;simp[SetTable.fresh])];unfold Builtin.Frozenset.updateFrom Builtin.Frozenset.isAnySet;obtain⟨c,mH,pW,it,hit,qZ,St,W,dz⟩:∃c:String,(c="list"\/c="tuple")/\s.TypeIs (.ref l) c/\∃it:Obj,(∀Q':Value->Shared->Prop,Q' (.ref s.heap.objs.size) { s with heap:=s.heap.push it }->wpAny (model prog w) A (pyIter (.ref l)) Q' E s) /\
   (∀b o,s.heap.get? b=some o->(s.heap.push it).get? b=some o)/\∃St:Nat->Shared->Prop,WalksS prog w A.in1 s.heap.objs.size [s.heap.objs.size,l] [s.heap.objs.size] (λa b=>b=a) items.size (λi v=>items[i]?=some v) St/\St 0 { s with heap:=s.heap.push it }:=by
  rcases hl with hl|hl
  ·obtain⟨o,ho,hc,_⟩:=id hl;exact⟨"list",.inl rfl,⟨o,ho,hc⟩,_,λQ' q=>eY hl q,λb o e=>ah _ e,_,(xg (A:=A.in1) hh _ l tT items).toS,⟨⟨_,aw _ rfl,rfl,rfl⟩,hl.push _⟩⟩
  ·obtain⟨o,ho,hc,_⟩:=id hl;exact⟨"tuple",.inr rfl,⟨o,ho,hc⟩,_,λQ' q=>lA hl q,λb o e=>ah _ e,_,(Walks.tuple (A:=A.in1) hh _ l tT items).toS,⟨⟨_,aw _ rfl,rfl,rfl⟩,hl.push _⟩⟩
 refine aa (aa (aa (du (b:=false) pW (by rcases mH with rfl|rfl<;>(rw[dU];kernel_rfl)) ?_)));refine du (b:=false) pW (by rcases mH with rfl|rfl<;>(rw[dU];kernel_rfl)) ?_;rw[aB ∅];refine aa (dH pW ?_);rw[aB (by rcases mH with rfl|rfl<;>decide)];refine aa (hit _ ?_);refine aa (jK ?_);have yL:=ao hS;have iQ:items.size=ns.length:=by exact N9 hi
 refine UW W (by simp only[List.mem_cons,List.not_mem_nil,or_false,not_or];exact⟨aD yL,eL⟩) iQ (λi v hv=>IntsAre.int_at hi i v (by rw[cj];exact hv)) hb items.size 0 _ ()
  dz (Vr (qZ _ _ hS)) λs' m jY=>?_
 have eS:s'={ s with heap:=s'.heap,toks:=s'.toks }:=by
  obtain⟨kI,g',d',ia,nC⟩:=s';have m1:g'=s.gens:=m.gens;have m2:d'=s.drawn:=m.drawn;have m3:nC=s.os:=m.os
  simp_all
 rw[eS];refine af (h _ _ jY (λb o hb e=>?_) m.toks);exact m.heap b o (by simp only[List.mem_cons,List.not_mem_nil,or_false,not_or];exact⟨hb,aD (ao e)⟩) (qZ _ _ e)
theorem EF(hh:A.handled=none)(hl:Y3 s.heap l items)(hi:IntsAre items.toList ns)(hb:items.size+1<scanBound)(h:∀h' tk,q9 prog w h' s.heap.objs.size (j6 [] ns)->(∀b o,s.heap.get? b=some o->h'.get? b=some o)->s.toks<=tk->Q (.ref s.heap.objs.size) { s with heap:=h',toks:=tk }) :
  wpAny (model prog w) A (call (.type "set") [.ref l]) Q E s:=by
 have cs:=F.called_set;obtain⟨_,_,y1⟩:=cs.mro;have y2:=cs.made;have y3:=cs.sub;have y6:=F.typeCall_set_1 (.ref l);refine xf (rV (?_:wpAny _ _ (callAny (.type "set") _) _ _ _));refine af ⟨Code.quiet_builtin _ (by decide +kernel),bT F.entry_type_call ?_⟩;rw[Around.under_plain (weight_type_call_type "set" [.ref l] []) rfl]
 repeat (any_goals (first|assumption|wp_step))
 refine eG (EJ (.ref l) (E:=E) (Q:=λv s1=>v=.ref s.heap.objs.size/\s1={ s with heap:=s.heap.push (m6 w) }) ⟨rfl,rfl⟩) ?_;rintro(e|fl) s1 hr
 ·exact hr
 cases fl with
 |next=>exact hr
 |brk=>exact hr
 |cont=>exact hr
 |ret v =>
 obtain⟨rfl,rfl⟩:=hr;have hS:(s.heap.push (m6 w)).get? s.heap.objs.size=some (m6 w):=aw _ rfl;have hT:Shared.TypeIs { s with heap:=s.heap.push (m6 w) } (.ref s.heap.objs.size) "set":=⟨_,hS,rfl⟩
 have y7:=cs.init.lookup;have y8:=cs.init.bind (.ref s.heap.objs.size)
 repeat (any_goals (first|assumption|wp_step))
 refine eG (codeAny_call_builtin (R:=wants (λv s2=>v=.none/\∃h' tk,s2={ s with heap:=h',toks:=tk }/\q9 prog w h' s.heap.objs.size (j6 [] ns)/\(∀b o,s.heap.get? b=some o->h'.get? b=some o)/\s.toks<=tk) E) cs.init.plain F.entry_set_init (check_set_init_1 hT ?_)) ?_
 ·have iX:Y3 (s.heap.push (m6 w)) l items:=hl.imp (·.push _) (·.push _);have yw:=hl.lt;refine TV (by simp[hh]) hS iX hi hb (bu yw) λh' tk h1 h2 h3=>af ⟨rfl,h',tk,rfl,h1,λb o e=>h2 b o (aD (ao e)) (ah _ e),h3⟩
 ·rintro(e|fl) s2 hr
  ·exact hr
  cases fl with
  |next=>exact hr
  |brk=>exact hr
  |cont=>exact hr
  |ret v =>
  obtain⟨rfl,h',tk,rfl,h1,h2,h3⟩:=hr
  repeat (any_goals (first|assumption|wp_step))
  exact h _ _ h1 h2 h3
end ST
namespace L2
open PySem PySem.Spec PyProof.Rows
def wW(X:Cx)(a:Addr)(ks:List Int):HO:=.ext λh=>ST.q9 X.prog X.w h a ks
def L9(ns:List Int):List Int:=(ST.j6 [] ns).mergeSort (λa b=>decide (a<=b))
theorem FG:∀{a b:List Int},a.Perm b->a.Pairwise (·<=·)->b.Pairwise (·<=·)->a=b
 |[],b,h,_,_=>by simp_all
 |x::a,[],h,_,_=>absurd h.length_eq (by simp)
 |x::a,y::b,h,h1,h2=>by
  rw[bO] at h1 h2;have e:x=y:=by
   have m1:=h.mem_iff (a:=y);have m2:=h.mem_iff (a:=x);simp only[List.mem_cons,true_or,true_iff,iff_true] at m1 m2;rcases m1 with z|z
   ·exact z.symm
   ·grind
  subst e;rw[FG (h.cons_inv) h1.2 h2.2]
theorem WY(ns:List Int):(L9 ns).Pairwise (·<=·):=by
 have:=qJ (le:=λa b:Int=>decide (a<=b)) (λa b c h1 h2=>by simp at *;omega) (λa b=>by simp;omega) (ST.j6 [] ns);exact this.imp λh=>by simpa using h
theorem Gf(ns:List Int):(L9 ns).Perm (ST.j6 [] ns):=BB _ _
theorem Wh(ns:List Int):(L9 ns).length<=ns.length:=by
 rw[(Gf ns).length_eq];have:=ST.M6 ns []
 simp_all
section
variable{X:Cx}{pins:List (Addr×Obj)}{Z:St}{H:Hp}{s:Shared}
theorem Inv.draw(I:Inv X pins Z H s)(d:Drawn):Inv X pins Z H { s with drawn:=d } :=
 I.step (g':=s.gens) (t':=s.toks) (d':=d) (ch:=[]) (by simp) (λb o _ _ _ e _=>e) (λb o _ _ _ e _=>⟨o.slots,e⟩) (λb o _ _ e=>e) (λb o _ e=>⟨o,e⟩) (λ_ _ e=>e) (λ_ _ _ e=>e) (λb ps e=>⟨#[],by simp[e]⟩) (λm hm=>hm) I.bB I.bare
theorem Yc{h:Heap}{a:Addr}{ks:List Int}(x:ST.q9 X.prog X.w h a ks):j5 X.prog X.w H h a (wW X a ks) :=
 ⟨x,by obtain⟨o,_,_,_,e,_⟩:=x;exact⟨o,e⟩,λh1 h2 y k=>y.at k⟩
theorem Xd{ns:List Int}{vs:List Value}(h:IntsAre vs ns):Vals (ns.map V.int) vs:=by
 induction h with
 |nil=>exact .nil
 |cons n t r ih=>exact .cons ⟨t,rfl⟩ ih
theorem M4:∀{ns:List Int} {vs:List Value},Vals (ns.map V.int) vs->IntsAre vs ns
 |[],_,h=>by cases h;exact .nil
 |n::ns,_,h=>by
  cases h with
  |cons r rr =>
   obtain⟨t,rfl⟩:=r;exact .cons n t (M4 rr)
theorem X8(hc:X.calm=true):j8 X (.type "set") (λxs H Q=>∃a ns,xs=[.ref a]/\fu X.K H a (ns.map V.int)/\ns.length<60/\∀p,H p=none->Q (.ref p) (upd H p (wW X p (ST.j6 [] ns)))):=by
 intro pins s Z H xs us Q I r h;obtain⟨a,ns,rfl,hq,hl,q⟩:=h;cases r with
 |cons r rr =>
 cases rr;cases r;obtain⟨aV,rv,p,hz⟩:=I.list hq;have hI:=M4 rv;have hlen:=ST.N9 hI;refine ST.EF (ns:=ns) (I.ok.hd hc) (.inl p.isList) (by simpa using hI) (by rw[aG,hlen];exact ax (Zz hl) ∅) λh' tk hS hk _=>?_;exact⟨.ref _,_,I.laid (a:=s.heap.objs.size) (t':=tk) hk (aj _) (Yc hS),rfl,q _ (I.bB.fresh (aj _))⟩
theorem Tu(hc:X.calm=true):j8 X (.builtin "sorted") (λxs H Q=>∃a ns,xs=[.ref a]/\H a=some (wW X a (ST.j6 [] ns))/\ns.length<60/\∀p,H p=none->Q (.ref p) (upd H p (.lst ((L9 ns).map V.int)))):=by
 intro pins s Z H xs us Q I r h;obtain⟨a,ns,rfl,ha,hl,q⟩:=h;cases r with
 |cons r rr =>
 cases rr;cases r;have hS:ST.q9 X.prog X.w s.heap a (ST.j6 [] ns):=(I.bB a _ ha).1;have hn:=ST.M6 ns [];simp only[List.length_nil] at hn;refine ST.WZ (I.ok.hd hc) hS () λS vs xR e h' d' ia h1 h2 h3 h4 h5 h6 _=>?_;have e1:xR=L9 ns:=FG (h2.trans (Gf ns).symm) h3 (WY ns);subst e1;have hz:=Wh ns;exact⟨.ref S,_,(I.laid (a:=S) (o:=.lst ((L9 ns).map V.int)) (t':=ia) h6 h5 ⟨by rw[ai];exact aE hz (aE (bX hl) ∅),vs,e,Xd h1,h4⟩).draw d',rfl,q S (I.bB.fresh h5)⟩
end
end L2
namespace ST
open PySem PyProof.Rows
end ST
namespace L2
open PySem PySem.Spec PyProof.Rows
end L2
namespace HT
open PySem PyProof.Rows Builtin
end HT
namespace L2
open PySem PySem.Spec PyProof.Rows
def Xf(sep:Str)(ys:List Str):Nat:=ys.foldl (λn y=>n+y.length+sep.length) 0
end L2
namespace HT
open PySem PyProof.Rows Builtin PySem.SeqAt
end HT
namespace L2
open PySem PySem.Spec PyProof.Rows
def Bp(K:PySem.W.Frag)(H:Hp)(a:Addr)(xs:List V):Prop :=
 H a=some (.tup xs)\/∃(o:Obj) (aV:Array Value) (n:Nat),K.lookup a=some o/\o.cls=.type "tuple"/\o.dict=none/\o.data=.seq aV n/\aV.size<=sizeLine/\Vals xs aV.toList
theorem Bp.sq{K:PySem.W.Frag}{H:Hp}{a:Addr}{xs:List V}(h:Bp K H a xs):gM K H a xs:=by
 rcases h with h|⟨o,aV,n,h1,h2,_,h3,h4,h5⟩
 ·exact .inl (.inl h)
 ·exact .inr ⟨o,aV,n,h1,h2,h3,h4,h5⟩
end L2
namespace ST
open PySem PyProof.Rows
def Spot(k:Int):Prop:=0<=k/\k<8
structure Own(mask:Nat)(owner:Array (Option Nat))(pre:List Int):Prop where
 sz:owner.size=mask+1
 fwd:∀(i:Nat) (k:Int),pre[i]?=some k->owner[k.toNat]?=some (some i)
 bwd:∀(j i:Nat),owner[j]?=some (some i)->pre[i]?=some (j:Int)
section
variable{prog:Program}{w:World}{a:Addr}
def QV(prog:Program)(w:World)(h:Heap)(a:Addr)(ks:List Int):Prop :=
 ∃o es ep t,h.get? a=some o/\o.ExactSet/\o.data=.set es ep t/\ElemsOf (intKind prog w) es.toList/\(es.toList.map λe=>toI e.2).Perm ks/\ks.Nodup/\es.size<scanBound/\t.fits es.size=true/\Well (Led w) t/\(ks=[]->7<=t.mask)
theorem q9.toV{h:Heap}{ks:List Int}(x:q9 prog w h a ks)(hn:ks≠[]):QV prog w h a ks:=by
 obtain⟨o,es,ep,t,h1,h2,h3,h4,h5,h6,h7,h8,h9⟩:=x;exact⟨o,es,ep,t,h1,h2,h3,h4,h5,h6,h7,h8,h9,λz=>absurd z hn⟩
theorem above:∀n,n<300->7<SetTable.sizeAbove n/\n<SetTable.sizeAbove n/\SetTable.sizeAbove n<=sizeLine:=by decide +kernel
end
end ST
namespace L2
open PySem PySem.Spec PyProof.Rows
variable{X:Cx}
end L2
namespace ST
open PySem PyProof.Rows
theorem Tj:typeLookup (.type "dict") "__len__"=pure (some (.builtin "dict.__len__")):=by rfl
end ST
namespace L2
open PySem PySem.Spec PyProof.Rows
variable{X:Cx}
theorem Sw{aV:List Value}{ns:List Int}(hi:IntsAre aV ns):∃xs,aV.toArray=intItems xs/\ns=xs.toList.map (·.1):=by
 obtain⟨xs,e⟩:=hi.allInts.items;exact⟨xs,e,by rw[<- hi.numsOf,<- nums_intItems,<- e]⟩
theorem Vg(hc:X.calm=true):j8 X (.builtin "max") (λxs H Q=>∃a,∃(ns:List Int) (M:Int),xs=[.ref a]/\fu X.K H a (ns.map V.int)/\M∈ns/\(∀x∈ns,x<=M)/\Q (.int M) H):=by
 intro pins s Z H xs us Q I r h;obtain⟨a,ns,M,rfl,ha,hm,hM,q⟩:=h;obtain⟨u,rfl,ru⟩:=vals1 r;cases ru;obtain⟨aV,rv,p,hz⟩:=I.list ha;obtain⟨xs,e,en⟩:=Sw (M4 rv);have iQ:0<xs.size:=by
  have:=List.length_pos_of_mem hm
  simp_all
 refine max_intList (xs:=xs) (I.ok.hd hc) (by rw[<- e];exact p.isList) iQ λv h' tk hv k=>?_;obtain⟨t,rfl⟩:=intItems_at hv;obtain⟨h1,h2⟩:=argBest_gt (numAt xs) (xs.size-1);generalize argBest (λi j=>decide (numAt xs i>numAt xs j)) (xs.size-1)=j0 at *;have m1:numAt xs j0∈ns:=by rw[en,numAt_eq];exact getD_mem (by rw[ai,aX];omega)
 have m2:M<=numAt xs j0:=by
  rw[en] at hm;obtain⟨j,hj,rfl⟩:=mem_getD hm;rw[ai,aX] at hj;rw[<- numAt_eq];exact h2 j ()
 have e2:numAt xs j0=M:=Int.le_antisymm (hM _ m1) m2;exact⟨.int M,H,I.kept k,⟨t,by rw[e2]⟩,q⟩
theorem Ve(hc:X.calm=true):j8 X (.builtin "all") (λxs H Q=>∃(a:Addr) (ns:List Int),xs=[.ref a]/\fu X.K H a (ns.map V.int)/\Q (.bl (ns.all λn=>n != 0)) H):=by
 intro pins s Z H xs us Q I r h;obtain⟨a,ns,rfl,ha,q⟩:=h;obtain⟨u,rfl,ru⟩:=vals1 r;cases ru;obtain⟨aV,rv,p,hz⟩:=I.list ha;refine call_all_walk ?_;refine eY p.isList ?_;have eL:a≠s.heap.objs.size:=by
  obtain⟨o,e,_⟩:=id p.isList;exact aD (ao e)
 have hl:=rv.length;rw[ai] at hl;refine⟨s.heap.objs.size,_,_,_,_,_,λi=>ns.getD i 1 != 0,rfl,xg (A:=X.A.in1) (I.ok.hd hc) _ a eL aV.toArray,⟨⟨_,aw _ rfl,rfl,rfl⟩,?_⟩,?_,λh' tk k=>?_⟩
 ·obtain⟨o,e,q1⟩:=id p.isList;exact⟨o,ah _ e,q1⟩
 ·intro i v s' Q' E' hP hQ;have hv:aV[i]?=some v:=by simpa using hP
  have hi:i<ns.length:=by rw[hl];exact(ay.mp hv).1
  obtain⟨u',pN,xI⟩:=rv.get (i:=i) (x:=V.int ns[i]) (by rw[aq,ak hi];rfl);rw[hv] at pN;cases pN;obtain⟨t,rfl⟩:=xI;refine truthy_int ?_;have:ns.getD i 1=ns[i]:=by simp[List.getD,hi]
  dsimp only at hQ;rw[this] at hQ;exact hQ
 ·have e1:(List.range aV.toArray.size).all (λi=>ns.getD i 1 != 0)=ns.all λn=>n != 0:=by
   rw[aG,<- hl];rw[br];simp only[List.all_eq_true,List.mem_range];constructor
   ·intro hh x hx;obtain⟨i,hi,rfl⟩:=cx.mp hx;have:=hh i hi;simpa[List.getD,hi] using this
   ·intro hh i hi;have:=hh ns[i] (cF hi);simpa[List.getD,hi] using this
  rw[e1];exact ⟨.bl _,H,I.kept (t':=tk) λb o e=>k b o (by
   intro hb;have:b=s.heap.objs.size:=by simpa using hb
   exact absurd (ao e) (by rw [this];exact bA _)) (ah _ e),rfl,q⟩
theorem Te:j8 X (.builtin "len") (λxs H Q=>∃a,∃ks:List Int,xs=[.ref a]/\H a=some (wW X a ks)/\Q (.int ks.length) H):=by
 intro pins s Z H xs us Q I r h;obtain⟨a,ks,rfl,ha,q⟩:=h;obtain⟨u,rfl,ru⟩:=vals1 r;cases ru;have hS:ST.q9 X.prog X.w s.heap a ks:=(I.bB a _ ha).1;obtain⟨o,es,ep,t,e,ex,ed,_,hp,nd,hz,hf,_⟩:=hS;have hl:es.size=ks.length:=by have:=hp.length_eq;simpa using this
 refine call_len_set e ex ed hf (by have:scanBound<2 ^ 62:=∅;omega) ⟨.int ks.length,H,I.tok _,⟨_,by rw[hl]⟩,q⟩
theorem VM:fG X (compareOp .In) (λx y H Q=>∃i a S n,x=.int i/\y=.ref a/\H a=some (.set S n)/\Q (.bl (S i)) H):=by
 intro pins s Z H x y v u Q I rx ry h;obtain⟨i,a,S,n,rfl,rfl,ha,q⟩:=h;obtain⟨t,rfl⟩:=rx;cases ry;exact wpAny_inSet_of (jc _ _ _ _) rfl (I.bB a _ ha) ⟨.bl (S i),H,I.tok _,rfl,q⟩
theorem SY:fG X (compareOp .NotIn) (λx y H Q=>∃i a S n,x=.int i/\y=.ref a/\H a=some (.set S n)/\Q (.bl (!S i)) H):=by
 intro pins s Z H x y v u Q I rx ry h;obtain⟨i,a,S,n,rfl,rfl,ha,q⟩:=h;obtain⟨t,rfl⟩:=rx;cases ry;exact wpAny_notInSet_of (jc _ _ _ _) rfl (I.bB a _ ha) ⟨.bl (!S i),H,I.tok _,rfl,q⟩
end L2
namespace ST
open PySem PyProof.Rows
end ST
namespace L2
open PySem PyProof.Rows
def Nz(ns:List Int):List Int:=ns.mergeSort (λa b=>decide (a<=b))
section
variable{X:Cx}
theorem FN:∀{ks:List Key} {l:List Value},l.length=ks.length->(∀(i:Nat) v,l[i]?=some v->∃k,ks[i]?=some k/\M3 k v=true)->Vals (ks.map kV) l
 |[],[],_,_=>.nil
 |k::ks,v::l,hl,h=>by
  obtain⟨k',e,hk⟩:=h 0 v rfl;cases e;refine .cons ?_ (FN (by simpa using hl) λi v e=>h (i+1) v e);rcases k9 hk with⟨i,t,rfl,rfl⟩|⟨x,t,rfl,rfl⟩<;>exact⟨t,rfl⟩
theorem Tr(hc:X.calm=true):j8 X (.type "list") (λxs H Q=>∃a kvs,xs=[.ref a]/\H a=some (.dK kvs)/\kvs.length<=10000/\∀p,H p=none->Q (.ref p) (upd H p (.lst ((kvs.map (·.1)).map kV)))):=by
 intro pins s Z H xs us Q I r h;obtain⟨a,kvs,rfl,ha,hl,q⟩:=h;obtain⟨u,rfl,rx⟩:=vals1 r;cases rx;obtain⟨_,hd,vs,kv,hD⟩:=HA I.bB ha;obtain⟨ep,hA⟩:=hD.dictAt;have CJ:vs.length<=10000:=by rw[<- kv.length];exact hl
 refine PySem.W.kdl_call (PySem.W.kdl_dict (kvs:=vs) (ep:=ep) hd) (I.ok.hd hc) hA (aE CJ ∅) λh' tk acc c k1 k2 k3=>?_;have hv:Vals ((kvs.map (·.1)).map kV) acc.toList:=by
  refine FN (by rw[aX,k3.1,ai,kv.length]) λi v e=>?_;obtain⟨k,x,e1,e2⟩:=k3.2 i v (by simpa using e);exact⟨k,by rw[kv.keys,aq,e1];rfl,e2⟩
 exact⟨.ref s.heap.objs.size,_,(I.laid (a:=s.heap.objs.size) (o:=.lst ((kvs.map (·.1)).map kV)) (t':=tk) k1 (aj _) ⟨by rw[ai,ai];exact aE hl ∅,acc.toList,c,hv,by simpa using k2⟩),rfl,q _ (I.bB.fresh (aj _))⟩
end
end L2
namespace ST
open PySem PyProof.Rows
end ST
namespace L2
open PySem PyProof.Rows
section
variable{X:Cx}
theorem Yd{h:Heap}{a:Addr}{ns:List Int}(x:ST.q9 X.prog X.w h a (ST.j6 [] ns)):h.SetOf (intKind X.prog X.w) a (λk=>decide (k∈ns)) (ST.j6 [] ns).length:=by
 obtain⟨o,es,ep,t,ho,hx,hd,lS,hp,hn,hb,hf,hw⟩:=x;refine⟨o,es,ep,t,ho,hx,hd,lS,λk=>?_,hb,hf,by rw[<- hp.length_eq];simp⟩;have mem:k∈ns↔k∈es.toList.map λe=>ST.toI e.2:=by rw[hp.mem_iff,ST.FX];simp
 rw[bg,mem];constructor
 ·intro z;obtain⟨e,he,rfl⟩:=az.mp z;obtain⟨tk,h1,_⟩:=ST.Z5 lS he;refine⟨e,he,?_⟩;rw[h1];exact jc _ _ _ _
 ·rintro⟨e,he,z⟩;obtain⟨tk,h1,_⟩:=ST.Z5 lS he;refine az.mpr ⟨e,he,?_⟩;have h2:(intKind X.prog X.w).is (ST.toI e.2) e.2=true:=by rw[h1];exact jc _ _ _ _
  exact(intKind X.prog X.w).inj _ _ _ h2 z
theorem Tf(hc:X.calm=true):j8 X (.type "set") (λxs H Q=>∃a ns,xs=[.ref a]/\fu X.K H a (ns.map V.int)/\ns.length<600/\∀p,H p=none->Q (.ref p) (upd H p (.set (λk=>decide (k∈ns)) (ST.j6 [] ns).length))):=by
 intro pins s Z H xs us Q I r h;obtain⟨a,ns,rfl,hq,hl,q⟩:=h;cases r with
 |cons r rr =>
 cases rr;cases r;obtain⟨aV,rv,p,hz⟩:=I.list hq;have hI:=M4 rv;have hlen:=ST.N9 hI;refine ST.EF (I.ok.hd hc) (.inl p.isList) (by simpa using hI) (by rw[aG,hlen];exact ax (Zz hl) ∅) λh' tk hS hk _=>?_;exact⟨.ref _,_,I.laid (o:=.set (λk=>decide (k∈ns)) (ST.j6 [] ns).length) (t':=tk) hk (aj _) (Yd hS),rfl,q _ (I.bB.fresh (aj _))⟩
end
end L2
namespace L2
open PySem PySem.Spec PyProof.Rows
variable{prog:Program}{w:World}{A:Around}{s:Shared}{X:Cx}
theorem R6{P:Program}{k:Key}{u:Value}(h:(i9 P w).is k u=true):RelV (kV k) u:=by
 rw[WS] at h;rcases k9 h with⟨j,t,e1,e2⟩|⟨x,t,e1,e2⟩
 ·subst e1 e2;exact⟨t,rfl⟩
 ·subst e1 e2;exact⟨t,rfl⟩
theorem KV.at{kvs:List (Key×V)}{vs:List (Key×Value)}(r:KV kvs vs):∀{i:Nat} {k:Key} {x:V},kvs[i]?=some (k,x)->∃u,vs[i]?=some (k,u)/\RelV x u:=by
 unfold KV at r
 induction r with
 |nil=>intro i k x h;simp at h
 |cons h r ih =>
  intro i k x e;cases i with
  |zero =>
   simp at e;subst e;obtain⟨h1,h2⟩:=h;exact ⟨_,by
    show some _=some (k,_);have uu:k=_:=h1;rw [uu],h2⟩
  |succ i=>simpa using ih (by simpa using e)
end L2
namespace ST
open PySem PyProof.Rows
open SetTable (Probe)
variable{i:Nat}{t:SetTable}
def qr(t:SetTable):Nat->Probe->Probe
 |0,p=>p
 |n+1,p=>qr t n (t.advance p)
theorem EE(t:SetTable):∀(a b:Nat) (p:Probe),qr t (a+b) p=qr t b (qr t a p)
 |0,b,p=>by rw[gO];rfl
 |a+1,b,p=>by rw[Nat.succ_add];exact EE t a b (t.advance p)
def qS(mask i q:Nat):Nat:=(i*5+1+q / 32) % (mask+1)
theorem GO{mask:Nat}:SetTable.runEnd mask i-i<=9:=by unfold SetTable.runEnd;split<;>omega
theorem Fc{t:SetTable}:∀(m:Nat) (p:Probe),p.more=m->∃q,qr t (m+1) p=q/\q.j=qS t.mask p.i p.perturb/\q.i=qS t.mask p.i p.perturb/\q.perturb=p.perturb / 32/\q.more<=9
 |0,p,hm=>by
  refine⟨_,rfl,?_⟩;show(t.advance p).j=_/\(t.advance p).i=_/\(t.advance p).perturb=_/\(t.advance p).more<=9;unfold SetTable.advance;rw[aB ()];exact⟨rfl,rfl,rfl,GO⟩
 |m+1,p,hm=>by
  have e:t.advance p={ p with j:=p.j+1,more:=p.more-1 }:=by unfold SetTable.advance;rw[aJ ()]
  obtain⟨q,h1,h2⟩:=Fc (t:=t) m (t.advance p) (by rw[e];show p.more-1=m;omega);refine⟨q,h1,?_⟩;rw[e] at h2;exact h2
def jA(mask:Nat):Nat->Nat->Nat->Nat
 |0,i,_=>i
 |c+1,i,q=>jA mask c (qS mask i q) (q / 32)
theorem Ao(mask:Nat):∀(a b i q:Nat),jA mask (a+b) i q=jA mask b (jA mask a i q) (q / 32 ^ a)
 |0,b,i,q=>by rw[gO,Nat.pow_zero,Nat.div_one];rfl
 |a+1,b,i,q=>by
  rw[Nat.succ_add];show jA mask (a+b) (qS mask i q) (q / 32)=jA mask b (jA mask a (qS mask i q) (q / 32)) (q / 32 ^ (a+1));rw[Ao mask a b,Nat.div_div_eq_div_mul,Nat.pow_succ,Nat.mul_comm 32]
theorem HI{t:SetTable}:∀(c:Nat) (p:Probe),p.more<=9->p.j=p.i->∃k,k<=10*c/\(qr t k p).j=jA t.mask c p.i p.perturb
 |0,p,_,h=>⟨0,aj _,h⟩
 |c+1,p,hm,h=>by
  obtain⟨q,e,h1,h2,h3,h4⟩:=Fc (t:=t) p.more p rfl;obtain⟨k,hk,z⟩:=HI (t:=t) c q h4 (h1.trans h2.symm);refine⟨p.more+1+k,by omega,?_⟩;rw[EE,e,z,h2,h3]
  rfl
theorem Oc:∀i,i<8->∀x,x<8->∃c,c<8/\jA 7 c i 0=x:=by decide +kernel
theorem QG:∀i,i<32->∀x,x<32->∃c,c<32/\jA 31 c i 0=x:=by decide +kernel
theorem GD{mask:Nat}:∀(c i q:Nat),i<=mask->jA mask c i q<=mask
 |0,i,q,h=>h
 |c+1,i,q,_=>GD c _ _ (by unfold qS;have:=mU (i*5+1+q / 32) (show 0<mask+1 by omega);omega)
theorem cover{mask q x:Nat}(hm:mask=7\/mask=31)(hi:i<=mask)(hq:q<2 ^ 64)(hx:x<=mask):∃c,c<=13+mask/\jA mask c i q=x:=by
 have h0:q / 32 ^ 13=0:=Nat.div_eq_of_lt (cv hq ∅);have hl:=GD 13 i q hi;rcases hm with rfl|rfl
 ·obtain⟨c,hc,e⟩:=Oc (jA 7 13 i q) () x ();exact⟨13+c,by omega,by rw[Ao,h0,e]⟩
 ·obtain⟨c,hc,e⟩:=QG (jA 31 13 i q) () x ();exact⟨13+c,by omega,by rw[Ao,h0,e]⟩
def Reach(t:SetTable)(k:Nat)(p:Probe):Prop:=∃m,m<=k/\t.slot (qr t m p).j=.empty
theorem Reach.next{k:Nat}{p:Probe}(h:Reach t k p)(hn:t.slot p.j≠.empty):∃k',k=k'+1/\Reach t k' (t.advance p):=by
 obtain⟨m,hm,e⟩:=h;cases m with
 |zero=>exact absurd e hn
 |succ m=>exact⟨k-1,by omega,m,by omega,e⟩
theorem FJ{x:Nat}(hd:t.dummies=#[])(h:x∉t.place.toList):t.slot x=.empty:=by
 unfold SetTable.slot;dsimp only;split
 ·rename_i z;have z':t.place[SetTable.below t.place x]?=some x:=by simpa using z
  exact absurd (dO.mpr (vm z')) h
 ·rw[hd];split
  ·rename_i z;simp[SetTable.has] at z
  ·rfl
theorem Su{l:List Nat}{m:Nat}(h:l.length<=m):∃x,x<=m/\x∉l:=by
 by_cases q:∃x,x<=m/\x∉l
 ·exact q
 ·exfalso;have sub:List.range (m+1) ⊆ l:=λx hx=>by
   rw[dN] at hx;exact Classical.byContradiction λz=>q ⟨x,by omega,z⟩
  have:=List.nodup_range.length_le_of_subset sub;rw[dE] at this;omega
theorem SE{h:Int}(hm:t.mask=7\/t.mask=31)(hd:t.dummies=#[])(hz:t.place.size<=t.mask):Reach t (10*(13+t.mask)) (t.probeStart h):=by
 obtain⟨x,hx,hn⟩:=Su (l:=t.place.toList) (m:=t.mask) (by simpa using hz);have hi:SetTable.bits h % (t.mask+1)<=t.mask:=by have:=mU (SetTable.bits h) (show 0<t.mask+1 by omega);omega
 have hb:SetTable.bits h<2 ^ 64:=by
  unfold SetTable.bits;have:=cq h (show(0:Int)<2 ^ 64 by decide);have:=cR h (show(2 ^ 64:Int)≠0 by decide);omega
 obtain⟨c,hc,e⟩:=cover hm hi hb hx;obtain⟨k,hk,z⟩:=HI (t:=t) c (t.probeStart h) (show SetTable.runEnd t.mask _-_<=9 from GO) rfl;refine⟨k,by omega,?_⟩;rw[z,show jA t.mask c (t.probeStart h).i (t.probeStart h).perturb=x from e];exact FJ hd hn
theorem Fn{p:Probe}(h:p.dummy=none):(t.advance p).dummy=none:=by
 unfold SetTable.advance;split
 ·exact h
 ·exact h
theorem FI{t:SetTable}(hd:t.dummies=#[]){hashAt:Nat->Int}{h:Int}:∀(fuel k:Nat) (p:Probe),k<fuel->Reach t k p->p.dummy=none ->
  (∃j,SetTable.probe.go t hashAt h fuel p=some (.empty j none)/\t.slot j=.empty/\(∀i',t.slot p.j=.live i'->hashAt i'≠h)/\(t.slot p.j=.empty->j=p.j)) \/
  ∃j i next k',SetTable.probe.go t hashAt h fuel p=some (.candidate j i next)/\t.slot j=.live i/\hashAt i=h/\k'<k/\Reach t k' next/\next.dummy=none/\(∀i',t.slot p.j=.live i'->hashAt i'=h->i'=i)/\t.slot p.j≠.empty
 |0,k,p,hk,_,_=>absurd hk (dZ _)
 |fuel+1,k,p,hk,R,hp=>by
  unfold SetTable.probe.go;cases hs:t.slot p.j with
  |empty=>exact .inl ⟨_,by rw[hp],hs,(λi' z=>by cases z),λ_=>rfl⟩
  |dummy=>exact absurd hs (EU hd _)
  |live i =>
   obtain⟨k',rfl,R'⟩:=R.next (by rw[hs];intro z;cases z);dsimp only;by_cases c:hashAt i=h
   ·rw[aJ (by simpa using c)];exact .inr ⟨_,i,_,k',rfl,hs,c,by omega,R',Fn hp,(λi' z _=>by cases z;rfl),λz=>by cases z⟩
   ·rw[aB (by simpa using c)];have c':∀i',SetTable.Slot.live i=.live i'->hashAt i'≠h:=λi' z=>by cases z;exact c
    rcases FI hd (hashAt:=hashAt) fuel k' (t.advance p) () R' (Fn hp) with⟨j,q1,q2,_⟩|⟨j,i',nx,k2,e,a,b,c2,R2,d2,_⟩
    ·exact .inl ⟨j,q1,q2,c',λz=>by cases z⟩
    ·exact .inr ⟨j,i',nx,k2,e,a,b,by omega,R2,d2,(λi3 z q=>absurd q (c' i3 z)),λz=>by cases z⟩
theorem Wf{j:Nat}(h:t.slot j=.live i):t.place[i]?=some j:=by
 unfold SetTable.slot at h;dsimp only at h;split at h
 ·rename_i z;cases h;simpa using z
 ·split at h<;>cases h
section
variable{prog:Program}{w:World}{K:Type}[DecidableEq K]{knd:KeyKind prog w K}{A:Around}{E:Value->Shared->Prop}{s:Shared}
def iF(knd:KeyKind prog w K)(h:Heap)(e:Int×Value)(ks:List K):Prop:=∃b,e.2=.ref b/\IsTupleKey knd h ks b/\e.1=tupleKeyHash knd ks
theorem Ww(n:Nat){v:Value}(h:carriedByValue v=true):ofAClassStatement n v=pure false:=by
 cases v<;>first|rfl|(unfold ofAClassStatement;rfl)|simp[carriedByValue] at h
theorem EH{ks:List K}{b:Addr}{n:Nat}{Q:Bool->Shared->Prop}(hk:IsTupleKey knd s.heap ks b)(h:Q false s):wpAny (model prog w) A (ofAClassStatement (n+1) (.ref b)) Q E s:=by
 have hT:=hk.typeIs;obtain⟨o,items,m,ho,_,hd,hi⟩:=hk;unfold ofAClassStatement;refine aa (dH hT ?_);dsimp only;rw[aJ (by rfl)];refine aa (af ?_);simp only[Bool.not_true,Bool.false_eq_true,if_false];refine aa (jJ ho hd ?_);dsimp only;refine aa ?_;rw[<- Iv];refine oY _ (λrest r s'=>r.1=none/\s'=s/\∀v∈rest,carriedByValue v=true) _ ?_ ?_ _ _ ⟨rfl,rfl,hi.byValue⟩
 ·rintro v rest r s' ⟨hr,rfl,iA⟩;rw[Ww _ (iA v aL)];refine aa (af ?_);simp only[Bool.false_eq_true,if_false];exact af ⟨rfl,rfl,λu pN=>iA u (aI _ pN)⟩
 ·rintro⟨r1,r2⟩ s' ⟨hr,rfl,_⟩;simp only at hr;subst hr;exact af h
theorem Ya{kx:List K}{b:Addr}(hx:IsTupleKey knd s.heap kx b){Q:Bool->Shared->Prop}{l:List Value}(hl:∀v∈l,∃ks c,v=.ref c/\IsTupleKey knd s.heap ks c)(h:Q false s) :
  wpAny (model prog w) A (searchCouldBeSeen (.ref b) l) Q E s:=by
 unfold searchCouldBeSeen;refine aa ?_;refine oY _ (λrest r s'=>r.1=none/\s'=s/\∀v∈rest,∃ks c,v=.ref c/\IsTupleKey knd s.heap ks c) _ ?_ ?_ _ _ ⟨rfl,rfl,hl⟩
 ·rintro v rest r s' ⟨hr,rfl,iA⟩;obtain⟨ks,c,rfl,hk⟩:=iA v aL;dsimp only;split
  ·exact af ⟨rfl,rfl,λu hu=>iA u (aI _ hu)⟩
  ·refine aa (wpAny_eqIsQuiet_tuple hx ?_);simp only[Bool.not_true,Bool.false_eq_true,if_false];refine aa (wpAny_eqIsQuiet_tuple hk ?_);simp only[Bool.not_true,Bool.false_eq_true,if_false];refine aa (EH hx ?_);simp only[Bool.false_eq_true,if_false];refine aa (EH hk ?_);simp only[Bool.false_eq_true,if_false];exact af ⟨rfl,rfl,λu hu=>iA u (aI _ hu)⟩
 ·rintro⟨r1,r2⟩ s' ⟨hr,rfl,_⟩;simp only at hr;subst hr;exact af h
end
section
variable{prog:Program}{w:World}{K:Type}[DecidableEq K]{knd:KeyKind prog w K}{A:Around}{E:Value->Shared->Prop}{s:Shared}
theorem W5{a b:Addr}{o:Obj}{es:Array (Int×Value)}{ep:Nat}{t:SetTable}{kx:List K}(hu:A.units<cLine)(ho:s.heap.get? a=some o)(hd:o.data=.set es ep t)(hf:t.fits es.size=true)(dm:t.dummies=#[])(gw:t.gaveWay=false)(hx:IsTupleKey knd s.heap kx b)(kM:∀e∈es.toList,∃ks,iF knd s.heap e ks) :
  ∀(fuel k:Nat) (p:Option Probe) {Q:SetFound->Shared->Prop},k<fuel->k<10*SetTable.turns t.mask->Reach t k (p.getD (t.probeStart (tupleKeyHash knd kx)))->(p.getD (t.probeStart (tupleKeyHash knd kx))).dummy=none ->
   ((∃e∈es.toList,iF knd s.heap e kx)->Q (.there none) s) ->
   (∀j,t.slot j=.empty->(∀i e,t.slot (p.getD (t.probeStart (tupleKeyHash knd kx))).j=.live i->es[i]?=some e->¬iF knd s.heap e kx)->(t.slot (p.getD (t.probeStart (tupleKeyHash knd kx))).j=.empty->j=(p.getD (t.probeStart (tupleKeyHash knd kx))).j)->Q (.free j false) s) ->
   wpAny (model prog w) A (setSearchFrom a (.ref b) (tupleKeyHash knd kx) true fuel p) Q E s
 |0,k,p,Q,hk,_,_,_,_,_=>absurd hk (dZ _)
 |fuel+1,k,p,Q,hk,yy,R,hp,h1,h2=>by
  unfold setSearchFrom;refine aa (aU ho hd hf ?_);dsimp only;rw[gw];simp only[Bool.false_eq_true,if_false];generalize YZ:p.getD (t.probeStart (tupleKeyHash knd kx))=q at *;have pm:=FI dm (hashAt:=λi=>((es[i]?).map (·.1)).getD 0) (h:=tupleKeyHash knd kx) _ k q yy R hp;generalize hM:SetTable.probe t _ _ q=M;rcases pm with⟨j,em,hj,hn,dz⟩|⟨j,i,next,k',em,hj,hi,oC,R',nR,hn,eL⟩
  ·obtain rfl:M=some (.empty j none):=hM.symm.trans em;dsimp only;refine af (h2 j hj (λi e hl he te=>hn i hl ?_) dz);obtain⟨c,_,_,z⟩:=te;rw[he,<- z]
   rfl
  ·obtain rfl:M=some (.candidate j i next):=hM.symm.trans em;dsimp only;have iQ:i<es.size:=by
    have:=(mZ.mp (Wf hj)).1;simp only[SetTable.fits,Bool.and_eq_true,beq_iff_eq] at hf;omega
   obtain⟨⟨eh,ev⟩,he⟩:∃e,es[i]?=some e:=⟨_,cQ iQ⟩
   have hm:(eh,ev)∈es.toList:=dO.mpr (vm he);obtain⟨ks,c,hc,lg,kh⟩:=kM _ hm;dsimp only at hc kh;subst hc;by_cases hl:t.led=true
   ·rw[hl];simp only[Bool.not_true,Bool.false_eq_true,if_false];rw[he];dsimp only;refine aa (bf (wpAny_eqBool_tuple hu lg hx ?_));refine aa (aU ho hd hf ?_);dsimp only;by_cases hq:ks=kx
    ·rw[aQ hq];simp only[Bool.and_self,if_true];exact af (h1 ⟨_,hm,c,rfl,hq▸lg,hq▸kh⟩)
    ·rw[aR hq];simp only[Bool.and_false,Bool.false_eq_true,if_false];have sm:t.sameMemory t.moves t.mask=some true:=by unfold SetTable.sameMemory;simp
     rw[sm];dsimp only;rw[aJ rfl,hj];dsimp only;rw[he];dsimp only;refine aa ?_;unfold isSame;dsimp only;rw[aJ (by simp)];refine af ?_;simp only[if_true];refine aa (af ?_);dsimp only;refine W5 hu ho hd hf dm gw hx kM fuel k' (some next) () () R' nR h1 λj' vN qY _=>h2 j' vN (λi2 e2 hl nQ te=>?_) ?_
     ·have:i2=i:=hn i2 hl (by obtain⟨c2,_,_,z⟩:=te;rw[nQ,<- z];rfl);subst this;rw[he] at nQ;cases nQ;obtain⟨c2,z1,z2,_⟩:=te;cases z1;exact hq (lg.inj z2)
     ·exact λz=>absurd z eL
   ·rw[Bool.eq_false_iff.mpr hl];simp only[Bool.not_false,if_true];refine aa (Ya hx (λv hv=>?_) ?_)
    ·obtain⟨e',mG,rfl⟩:=az.mp hv;have:=dO.mpr (Array.mem_filter.mp (dO.mp mG)).1;obtain⟨Jm,c',iR,oC,_⟩:=kM e' this;exact⟨Jm,c',iR,oC⟩
    ·simp only[Bool.false_eq_true,if_false];rw[he];dsimp only;refine aa (bf (wpAny_eqBool_tuple hu lg hx ?_));refine aa (aU ho hd hf ?_);dsimp only;by_cases hq:ks=kx
     ·rw[aQ hq];simp only[Bool.and_self,if_true];exact af (h1 ⟨_,hm,c,rfl,hq▸lg,hq▸kh⟩)
     ·rw[aR hq];simp only[Bool.and_false,Bool.false_eq_true,if_false];have sm:t.sameMemory t.moves t.mask=some true:=by unfold SetTable.sameMemory;simp
      rw[sm];dsimp only;rw[aJ rfl,hj];dsimp only;rw[he];dsimp only;refine aa ?_;unfold isSame;dsimp only;rw[aJ (by simp)];refine af ?_;simp only[if_true];refine aa (af ?_);dsimp only;refine W5 hu ho hd hf dm gw hx kM fuel k' (some next) () () R' nR h1 λj' vN qY _=>h2 j' vN (λi2 e2 hl nQ te=>?_) ?_
      ·have:i2=i:=hn i2 hl (by obtain⟨c2,_,_,z⟩:=te;rw[nQ,<- z];rfl);subst this;rw[he] at nQ;cases nQ;obtain⟨c2,z1,z2,_⟩:=te;cases z1;exact hq (lg.inj z2)
      ·exact λz=>absurd z eL
end
end ST
namespace ST
open PySem PyProof.Rows
variable{t:SetTable}{n ep:Nat}{prog:Program}{w:World}{K:Type}{A:Around}{s:Shared}{b a:Addr}{h h':Heap}{o:Obj}{es:Array (Int×Value)}{wr bs:List Addr}
theorem Hn{mask:Nat}{owner:Array (Option Nat)}:∀(fuel c i q:Nat),c<fuel->(owner.getD (jA mask c i q) (some 0)).isNone=true ->
  ∃j,SetTable.layClean.free mask owner fuel i q=some j/\(owner.getD j (some 0)).isNone=true
 |0,c,i,q,hc,_=>absurd hc (dZ _)
 |fuel+1,c,i,q,hc,h=>by
  unfold SetTable.layClean.free;cases hf:(List.range (SetTable.runEnd mask i+1-i)).find? λk=>(owner.getD (i+k) (some 0)).isNone with
  |some k=>exact⟨_,rfl,by simpa using List.find?_some hf⟩
  |none =>
   cases c with
   |zero =>
    have:=dq.mp hf 0 (dN.mpr (by unfold SetTable.runEnd;split<;>omega));exact absurd h (by simpa[jA] using this)
   |succ c=>exact Hn fuel c _ _ () h
theorem GB{k:Nat}:∀{l:List (Option Nat)} {j:Nat},l[j]?=some none->((l.set j (some k)).filterMap id).Perm (k::l.filterMap id)
 |[],j,h=>by simp at h
 |x::r,0,h=>by
  obtain rfl:x=none:=by simpa using h
  rw[List.set_cons_zero];exact .refl _
 |x::r,j+1,h=>by
  rw[List.set_cons_succ];have ih:=GB (k:=k) (l:=r) (j:=j) (by simpa using h);cases x with
  |none=>exact ih
  |some y=>exact(ih.cons y).trans (.swap _ _ _)
theorem getD_none{owner:Array (Option Nat)}{j:Nat}(h:(owner.getD j (some 0)).isNone=true):j<owner.size/\owner.toList[j]?=some none:=by
 by_cases hj:j<owner.size
 ·refine⟨hj,?_⟩;rw[<- cK (h:=hj)] at h;rw[cj,cQ hj];cases hx:owner[j] with
  |none=>rfl
  |some y=>rw[hx] at h;cases h
 ·simp[Array.getD,hj] at h
theorem Wg{owner:Array (Option Nat)}(h:(owner.toList.filterMap id).length<owner.size):∃x,x<owner.size/\(owner.getD x (some 0)).isNone=true:=by
 by_cases q:∃x,x<owner.size/\(owner.getD x (some 0)).isNone=true
 ·exact q
 ·exfalso;have all:∀y∈owner.toList,y.isSome=true:=λy hy=>by
   obtain⟨x,hx,e⟩:=cx.mp hy;have nG:x<owner.size:=by simpa using hx
   cases y with
   |some z=>rfl
   |none =>
    refine absurd ⟨x,nG,?_⟩ q;rw[<- cK (h:=nG)];have:owner[x]=none:=by simpa using e
    rw[this]
    rfl
  have:∀l:List (Option Nat),(∀y∈l,y.isSome=true)->(l.filterMap id).length=l.length:=by
   intro l
   induction l with
   |nil=>intro _;rfl
   |cons y r ih =>
    intro hl;have hy:=hl y (by simp);cases y with
    |none=>cases hy
    |some z=>exact dM (·+1) (ih λu hu=>hl u (by simp[hu]))
  have:=this _ all;rw[this] at h;simp at h
theorem EO:∀(hs:List Int) (owner:Array (Option Nat)) (k:Nat),owner.size=32->(owner.toList.filterMap id).Perm (List.range k)->k+hs.length<=31 ->
  ∃jR,hs.foldl (λacc h=>do let (owner,k) <- acc;let j <- SetTable.layClean.free 31 owner (SetTable.turns 31) (SetTable.bits h % (31+1)) (SetTable.bits h);pure (owner.setIfInBounds j (some k),k+1)) (some (owner,k))=some (jR,k+hs.length)/\jR.size=32/\(jR.toList.filterMap id).Perm (List.range (k+hs.length))
 |[],owner,k,hz,hp,_=>⟨owner,rfl,hz,hp⟩
 |h::r,owner,k,hz,hp,hk=>by
  rw[kq] at hk ⊢;obtain⟨x,hx,hn⟩:=Wg (owner:=owner) (by rw[hp.length_eq,dE];omega);have hb:SetTable.bits h<2 ^ 64:=by
   unfold SetTable.bits;have:=cq h (show(0:Int)<2 ^ 64 by decide);have:=cR h (show(2 ^ 64:Int)≠0 by decide);omega
  obtain⟨c,hc,e⟩:=cover (mask:=31) (i:=SetTable.bits h % (31+1)) (q:=SetTable.bits h) (x:=x) (.inr rfl) () hb ();obtain⟨j,hj,yz⟩:=Hn (mask:=31) (owner:=owner) (SetTable.turns 31) c (SetTable.bits h % (31+1)) (SetTable.bits h) (by unfold SetTable.turns;omega) (by rw[e];exact hn);obtain⟨g1,g2⟩:=getD_none yz;rw[List.foldl_cons];have st:(do let (owner,k) <- some (owner,k);let j <- SetTable.layClean.free 31 owner (SetTable.turns 31) (SetTable.bits h % (31+1)) (SetTable.bits h);pure (owner.setIfInBounds j (some k),k+1):Option (Array (Option Nat)×Nat))=some (owner.setIfInBounds j (some k),k+1):=by
   show(SetTable.layClean.free 31 owner (SetTable.turns 31) (SetTable.bits h % (31+1)) (SetTable.bits h)).bind _=_;rw[hj]
   rfl
  rw[st];have pp:((owner.setIfInBounds j (some k)).toList.filterMap id).Perm (List.range (k+1)):=by
   rw[Array.toList_setIfInBounds,ee];exact((GB g2).trans (hp.cons k)).trans (mV k _).symm
  obtain⟨o',q1,q2,q3⟩:=EO r (owner.setIfInBounds j (some k)) (k+1) (by rw[Array.size_setIfInBounds];exact hz) pp ();exact⟨o',by rw[q1,show k+1+r.length=k+(r.length+1) by omega],q2,by rw[show k+(r.length+1)=k+1+r.length by omega];exact q3⟩
theorem ES(owner:Array (Option Nat)):∀(n i:Nat) (l:List (Option Nat)),l=owner.toList.drop i->l.length=n->(((List.range' i n).filterMap λj=>(owner.getD j none).map (j,·)).map (·.2))=l.filterMap id
 |0,i,l,_,hl=>by
  obtain rfl:=dc.mp hl
  rfl
 |n+1,i,l,e,hl=>by
  cases l with
  |nil=>simp at hl
  |cons y r =>
   have hi:owner.getD i none=y:=by
    have:owner.toList[i]?=some y:=by
     have:=dM (λz=>z[0]?) e;simp only[List.getElem?_cons_zero,List.getElem?_drop,Nat.add_zero] at this;exact this.symm
    rw[cj] at this;simp[Array.getD_eq_getD_getElem?,this]
   have hr:r=owner.toList.drop (i+1):=by
    have:=dM List.tail e;rw[List.tail_drop] at this;exact this
   have ih:=ES owner n (i+1) r hr (by simpa using hl);rw[List.range'_succ,cX,hi];cases y with
   |none=>exact ih
   |some k=>exact dM (k::·) ih
theorem VZ{hs:Array Int}(hw:SetTable.sizeAbove n=32)(hz:hs.size<=31) :
  ∃t' order,t.relaid hs n=some (t',order)/\t'.mask=31/\Well t.led t'/\t'.place.size=hs.size/\order.toList.Perm (List.range hs.size):=by
 obtain⟨ow,e1,e2,e3⟩:=EO hs.toList (Array.replicate (31+1) none) 0 (by simp) (by rw[Array.toList_replicate];decide) (by simpa using hz);have el:SetTable.layClean 31 hs=some ow:=by
  unfold SetTable.layClean;rw[<- Array.foldl_toList];rw[show(hs.toList.foldl _ (some (Array.replicate (31+1) none,0)))=some (ow,0+hs.toList.length) from e1]
  rfl
 have er:t.relaid hs n=SetTable.laid 31 t.finger (t.movedTo 31) t.led t.plain hs:=by
  unfold SetTable.relaid;rw[hw]
 have e4:t.relaid hs n=some ({ mask:=31,place:=(((List.range (31+1)).filterMap λj=>(ow.getD j none).map (j,·)).map (·.1)).toArray,dummies:=#[],finger:=t.finger,led:=t.led,moves:=t.movedTo 31,plain:=t.plain },(((List.range (31+1)).filterMap λj=>(ow.getD j none).map (j,·)).map (·.2)).toArray):=by
  rw[er];unfold SetTable.laid;rw[el]
  rfl
 have ls:=ES ow (31+1) 0 ow.toList rfl (by simpa using e2);rw[<- xh] at ls;rw[gO] at e3;have hp:(((List.range (31+1)).filterMap λj=>(ow.getD j none).map (j,·)).map (·.2)).Perm (List.range hs.size):=by rw[ls];simpa using e3
 refine⟨_,_,e4,rfl,Fz rfl (er▸e4),?_,by simpa using hp⟩;have:=hp.length_eq;rw[ai,dE] at this;simp only[List.size_toArray,List.length_map];exact this
section
variable[DecidableEq K]{knd:KeyKind prog w K}{E:Value->Shared->Prop}
structure qx(knd:KeyKind prog w K)(h:Heap)(a:Addr)(o:Obj)(es:Array (Int×Value))(ep:Nat)(t:SetTable):Prop where
 at_:h.get? a=some o
 ex:o.ExactSet
 data:o.data=.set es ep t
 kM:∀e∈es.toList,∃ks,iF knd h e ks
 fits:t.fits es.size=true
 nz:iY t.place
 mj:t.dummies=#[]
 mm:t.mask=7\/t.mask=31
 room:5*es.size<3*t.mask
 zero:es.size=0->t.mask=7
 one:es.size=1->∃e,es=#[e]/\t.mask=7/\t.place=#[SetTable.bits e.1 % 8]
theorem TQ{k:K}(hk:∀k v,knd.is k v=true->(∃i t,v=.int i t)\/∃x t,v=.str x t){v:Value}(h:knd.is k v=true)(n:Nat):∃b,hashByValue n v=pure b:=by
 rcases hk k v h with⟨i,t,rfl⟩|⟨x,t,rfl⟩
 ·exact⟨true,by unfold hashByValue;rfl⟩
 ·exact⟨false,by unfold hashByValue;rfl⟩
theorem Ol(hk:∀k v,knd.is k v=true->(∃i t,v=.int i t)\/∃x t,v=.str x t){kx:List K}(hx:IsTupleKey knd s.heap kx b){Q:Bool->Shared->Prop}(h:∀r,Q r s):wpAny (model prog w) A (hashByValue (n+1) (.ref b)) Q E s:=by
 have hT:=hx.typeIs;obtain⟨o,items,m,ho,_,hd,hi⟩:=hx;unfold hashByValue;refine aa (rQ hT F.slot_tuple_hash.lookup ?_);dsimp only;refine aa (jJ ho hd ?_);dsimp only[Option.getD];refine aa ?_;rw[<- Iv];have all:∀v∈items.toList,∀n,∃b,hashByValue n v=pure b:=by
  generalize items.toList=l at hi;intro v hv n
  induction hi with
  |nil=>simp at hv
  |@cons k v' ks vs h1 _ ih =>
   rcases av.mp hv with rfl|hv
   ·exact TQ hk h1 n
   ·exact ih hv
 refine oY _ (λrest r s'=>s'=s/\∀v∈rest,∀n,∃b,hashByValue n v=pure b) _ ?_ ?_ _ _ ⟨rfl,all⟩
 ·rintro v rest r s' ⟨rfl,iA⟩;obtain⟨b,e⟩:=iA v aL n;rw[e];refine aa (af ?_);cases b
  ·simp only[Bool.not_false,if_true];exact af (af (h false))
  ·simp only[Bool.not_true,Bool.false_eq_true,if_false];exact af ⟨rfl,λu hu=>iA u (aI _ hu)⟩
 ·rintro⟨r1,r2⟩ s' ⟨rfl,_⟩;dsimp only;cases r1<;>exact af (h _)
end
section
variable[DecidableEq K]{knd:KeyKind prog w K}{E:Value->Shared->Prop}
theorem Fx{ks:List K}{c:Addr}(x:IsTupleKey knd h ks c)(ho:h.get? a=some o)(hd:o.data=.set es ep t)(hs:Heap.SameBut a h h'):IsTupleKey knd h' ks c:=by
 obtain⟨o',items,n,kJ,hc,nR,hi⟩:=x;have eL:c≠a:=by
  rintro rfl;obtain rfl:o'=o:=aF (kJ.symm.trans ho);rw[hd] at nR;exact nomatch nR
 exact⟨o',items,n,(hs.2 c eL).trans kJ,hc,nR,hi⟩
theorem iF.keeps{ks:List K}{e:Int×Value}(x:iF knd h e ks)(ho:h.get? a=some o)(hd:o.data=.set es ep t)(hs:Heap.SameBut a h h'):iF knd h' e ks:=by
 obtain⟨b,e1,e2,e3⟩:=x;exact⟨b,e1,Fx e2 ho hd hs,e3⟩
theorem UN{x:Nat}(h:t.place=#[x]):t.slot x=.live 0:=by
 unfold SetTable.slot;have hr:iY t.place:=by rw[h];exact List.pairwise_singleton _ _
 have hb:=below_at (xs:=t.place) hr (i:=0) (by rw[h];exact Nat.zero_lt_one);have e:t.place.getD 0 0=x:=by rw[h];rfl
 rw[e] at hb;dsimp only;rw[hb,h];simp
theorem LZ(nM:∀k v,knd.is k v=true->(∃i t,v=.int i t)\/∃x t,v=.str x t)(hu:A.units<cLine){kx:List K}(S:qx knd s.heap a o es ep t)(hx:IsTupleKey knd s.heap kx b)(hz:es.size<=17){Q:Bool->Shared->Prop}(h1:(∃e∈es.toList,iF knd s.heap e kx)->Q false s)(h2:(es.size=1->¬ ∃e∈es.toList,iF knd s.heap e kx)->∀h' o' iT mf t',Heap.SameBut a s.heap h'->qx knd h' a o' iT mf t'->iT.toList.Perm (es.toList++[(tupleKeyHash knd kx,.ref b)])->Q true { s with heap:=h' }) :
  wpAny (model prog w) A (setAddHashed a (.ref b) (tupleKeyHash knd kx)) Q E s:=by
 have CD:t.place.size=es.size:=by
  have:=S.fits;simp only[SetTable.fits,Bool.and_eq_true,beq_iff_eq] at this;exact this.1
 have Y':t.mask<=31/\7<=t.mask:=by rcases S.mm with z|z<;>omega
 have YW:=S.room;unfold setAddHashed setAddHashedIn;refine bf (aa (aU S.at_ S.data S.fits ?_));dsimp only;rw[show byScan (.ref b) es=false from rfl];simp only[Bool.false_eq_true,if_false];unfold setSearch;have gw:t.gaveWay=false:=by unfold SetTable.gaveWay;rcases S.mm with z|z<;>rw[z]<;>rfl
 have R:=SE (h:=tupleKeyHash knd kx) S.mm S.mj ();refine aa (W5 hu S.at_ S.data S.fits S.mj gw hx S.kM 100000 (10*(13+t.mask)) none () (by unfold SetTable.turns;omega) R rfl (λh=>?_) (λj hj hn dz=>?_))
 ·dsimp only;exact af (h1 h)
 dsimp only;refine aa (aU S.at_ S.data S.fits ?_);dsimp only;have JJ:=Ge S.nz hj;have yG:(t.put j).1.dummies=#[]:=by
  unfold SetTable.put;dsimp only;rw[S.mj];simp[SetTable.has]
 have fN:(t.put j).1.place=SetTable.insertAt t.place (SetTable.below t.place j) j:=rfl;have lR:(t.put j).1.mask=t.mask:=rfl;have vK:(t.put j).2=SetTable.below t.place j:=rfl;have pQ:es.size=1->¬ ∃e∈es.toList,iF knd s.heap e kx:=λh he=>by
  obtain⟨e,rfl,hm,JE⟩:=S.one h;obtain⟨e',mG,te⟩:=he;obtain rfl:e'=e:=by simpa using mG
  have hb:e'.1=tupleKeyHash knd kx:=te.choose_spec.2.2;refine hn 0 e' ?_ rfl te;show t.slot (SetTable.bits (tupleKeyHash knd kx) % (t.mask+1))=_;rw[hm,<- hb];exact UN JE
 have qY:=h2 pQ;have pL:=jd es (t.put j).2 (tupleKeyHash knd kx,Value.ref b);rw[dF] at pL;have oA:(SetTable.insertAt es (t.put j).2 (tupleKeyHash knd kx,Value.ref b)).size=es.size+1:=by
  rw[<- aX,pL.length_eq];simp
 have yq:∀e∈(SetTable.insertAt es (t.put j).2 (tupleKeyHash knd kx,Value.ref b)).toList,∃ks,iF knd s.heap e ks:=λe he=>by
  rcases aT.mp (pL.mem_iff.mp he) with z|z
  ·exact S.kM e z
  ·cases bw.mp z;exact⟨kx,b,rfl,hx,rfl⟩
 have fin:∀ t2:SetTable,t2.mask=t.mask->t2.place=(t.put j).1.place->t2.dummies=#[]->wpAny (model prog w) A (do
   storeSet a (SetTable.insertAt es (t.put j).2 (tupleKeyHash knd kx,Value.ref b)) t2
   if(!false&&t2.tooFull)=true then do
    setRelay a (SetTable.grown (es.size+1))
    pure true
   else pure true) Q E s:=λt2 f1 f2 f3=>by
  have Cf:t2.place.size=es.size+1:=by
   have:=(jd t.place (SetTable.below t.place j) j).length_eq;rw[f2,fN];simpa[CD] using this
  have uy:t2.fits (SetTable.insertAt es (t.put j).2 (tupleKeyHash knd kx,Value.ref b)).size=true:=by
   unfold SetTable.fits SetTable.fill;rw[f3,Cf,oA,f1];simp;omega
  have xJ:iY t2.place:=by rw[f2,fN];exact Gb S.nz JJ
  have xE:(SetTable.insertAt es (t.put j).2 (tupleKeyHash knd kx,Value.ref b)).size<=sizeLine:=by rw[oA,cM];omega
  refine aa (hV S.at_ S.data ?_ xE);have qP:=aO s.heap a (Obj.putSet (SetTable.insertAt es (t.put j).2 (tupleKeyHash knd kx,Value.ref b)) t2);have g1:(s.heap.update a (Obj.putSet (SetTable.insertAt es (t.put j).2 (tupleKeyHash knd kx,Value.ref b)) t2)).get? a=some { o with data:=.set (SetTable.insertAt es (t.put j).2 (tupleKeyHash knd kx,Value.ref b)) (ep+1) t2 }:=by
   have:=aN (Obj.putSet (SetTable.insertAt es (t.put j).2 (tupleKeyHash knd kx,Value.ref b)) t2) S.at_ (by rw[ka _ t2 S.data];rfl);rw[ka _ t2 S.data] at this;exact this
  generalize J':SetTable.insertAt es (t.put j).2 (tupleKeyHash knd kx,Value.ref b)=eU at *;have uB:∀h',Heap.SameBut a s.heap h'->∀iT:Array (Int×Value),iT.toList.Perm eU.toList->∀e∈iT.toList,∃ks,iF knd h' e ks:=λh' hs iT hp e he=>by
   obtain⟨ks,te⟩:=yq e (hp.mem_iff.mp he);exact⟨ks,te.keeps S.at_ S.data hs⟩
  have tf:t2.tooFull=decide (3*t.mask<=5*(es.size+1)):=by
   unfold SetTable.tooFull SetTable.fill;rw[f3,Cf,f1];simp;omega
  rw[tf];by_cases full:3*t.mask<=5*(es.size+1)
  ·rw[aQ full];simp only[Bool.not_false,Bool.and_self,if_true];have m7:t.mask=7:=by rcases S.mm with z|z<;>omega
   have n5:es.size=4:=by omega
   have oE:SetTable.grown (es.size+1)=20:=by rw[n5];rfl
   rw[oE];unfold setRelay;refine aa (aa (aU g1 rfl uy ?_));dsimp only;rw[aB (by rw[cM];decide)];obtain⟨t3,order,e3,m3,w3,p3,o3⟩:=VZ (t:=t2) (hs:=eU.map (·.1)) (n:=20) ∅ (by rw[mY,oA];omega);rw[mY,oA] at p3 o3;have op:(order.filterMap (eU[·]?)).toList.Perm eU.toList:=by
    rw[Array.toList_filterMap];refine(o3.filterMap _).trans (.of_eq ?_);rw[<- oA];exact filterMap_getElem?_range eU
   have oz:(order.filterMap (eU[·]?)).size=eU.size:=by rw[<- aX,op.length_eq,aX]
   rw[e3];refine aa ?_;show wpAny _ _ (do
    let iT:=order.filterMap (eU[·]?)
    if iT.size != eU.size then unsupported "internal:set-table-lost-an-element"
    pure (iT,t3)) _ _ _
   dsimp only;rw[oz,aB (by simp)];refine af ?_;dsimp only;refine hV g1 rfl ?_ (by rw[oz];exact xE);refine af ?_;generalize JZ:order.filterMap (eU[·]?)=jI at *;have g2:((s.heap.update a (Obj.putSet eU t2)).update a (Obj.putSet jI t3)).get? a=some { o with data:=.set jI (ep+1+1) t3 }:=by
    have:=aN (Obj.putSet jI t3) g1 (by rw[ka jI t3 rfl];rfl);rw[ka jI t3 rfl] at this;exact this
   have BY:=qP.trans (aO (s.heap.update a (Obj.putSet eU t2)) a (Obj.putSet jI t3));refine qY _ _ _ _ _ BY ⟨g2,(show Obj.ExactSet _ from S.ex),rfl,uB _ BY _ op,?_,w3.nz,w3.mj,.inr m3,by rw[oz,oA,m3];omega,λh=>by omega,λh=>by omega⟩ (op.trans pL);unfold SetTable.fits SetTable.fill;rw[w3.mj,p3,oz,oA,m3];simp;omega
  ·rw[aR full];simp only[Bool.not_false,Bool.and_false,Bool.false_eq_true,if_false];refine af (qY _ _ _ _ _ qP ⟨g1,(show Obj.ExactSet _ from S.ex),rfl,uB _ qP _ (.refl _),uy,xJ,f3,by rw[f1];exact S.mm,by rw[oA,f1];omega,λh=>by omega,λh=>?_⟩ pL);have z0:es.size=0:=by omega
   have e0:es.toList=[]:=dc.mp (by simpa using z0);have p0:t.place.toList=[]:=dc.mp (by simpa using CD.trans z0);have m7:=S.zero z0;have JS:j=SetTable.bits (tupleKeyHash knd kx) % 8:=by
    have:=dz (FJ S.mj (by rw[p0];simp));rw[this];show SetTable.bits (tupleKeyHash knd kx) % (t.mask+1)=_;rw[m7]
   rw[e0] at pL;have l1:=BA.mp pL;have l2:=(jd t.place (SetTable.below t.place j) j)
   rw[dF,p0] at l2;have l3:=BA.mp l2;refine⟨(tupleKeyHash knd kx,.ref b),Array.ext' l1,f1.trans m7,?_⟩;rw[f2,fN];refine Array.ext' ?_;rw[l3,JS]
 by_cases pl:(t.put j).1.plain=true
 ·rw[aJ pl];refine aa (Ol nM hx λr=>?_);cases r
  ·exact fin _ rfl rfl yG
  ·exact fin _ rfl rfl yG
 ·rw[aB pl];refine aa (af ?_);exact fin _ rfl rfl yG
end
section
variable[DecidableEq K]{knd:KeyKind prog w K}{E:Value->Shared->Prop}
theorem X4{ks:List K}{c:Addr}(x:IsTupleKey knd h ks c)(k:∀o,h.get? c=some o->h'.get? c=some o):IsTupleKey knd h' ks c:=by
 obtain⟨o,items,n,ho,r⟩:=x;exact⟨o,items,n,k o ho,r⟩
structure B3(knd:KeyKind prog w K)(h:Heap)(a:Addr)(wr:List Addr)(ks:List (List K))(o:Obj)(es:Array (Int×Value))(ep:Nat)(t:SetTable):Prop where
 s:qx knd h a o es ep t
 mem:∀e∈es.toList,∃k∈ks,iF knd h e k
 out:∀e∈es.toList,∀b,e.2=.ref b->b∉wr
 sz:es.size<=ks.length
 z0:es.size=0->ks=[]
 z1:es.size=1->∀k∈ks,∀e∈es.toList,iF knd h e k
 z2:2<=es.size->∃x∈ks,∃y∈ks,x≠y
theorem iF.at{ks:List K}{e:Int×Value}(x:iF knd h e ks)(k:∀b,e.2=.ref b->∀o,h.get? b=some o->h'.get? b=some o):iF knd h' e ks:=by
 obtain⟨b,e1,e2,e3⟩:=x;exact⟨b,e1,X4 e2 (k b e1),e3⟩
theorem B3.at{h h':Heap}{a:Addr}{wr:List Addr}{ks:List (List K)}{o:Obj}{es:Array (Int×Value)}{ep:Nat}{t:SetTable}(x:B3 knd h a wr ks o es ep t)(ha:a∉wr)(k:∀b o,b∉wr->h.get? b=some o->h'.get? b=some o):B3 knd h' a wr ks o es ep t:=by
 have g:∀e∈es.toList,∀k,iF knd h e k->iF knd h' e k:=λe he k' te=>te.at λb hb o=>k b o (x.out e he b hb);exact ⟨⟨k a o ha x.s.at_,x.s.ex,x.s.data,λe he=>let ⟨ks,te⟩:=x.s.kM e he;⟨ks,g e he ks te⟩,x.s.fits,x.s.nz,x.s.mj,x.s.mm,x.s.room,x.s.zero,x.s.one⟩,
  λe he=>let ⟨k',hk,te⟩:=x.mem e he;⟨k',hk,g e he k' te⟩,x.out,x.sz,x.z0,λh1 k' hk e he=>g e he k' (x.z1 h1 k' hk e he),x.z2⟩
theorem B3.mixed{ks:List (List K)}(x:B3 knd h a wr ks o es ep t):1<es.size↔∃x∈ks,∃y∈ks,x≠y:=by
 refine⟨x.z2,λ⟨p,hp,q,hq,eL⟩=>?_⟩;by_cases h0:es.size=0
 ·rw[x.z0 h0] at hp;simp at hp
 by_cases h1:es.size=1
 ·obtain⟨e,rfl,_⟩:=x.s.one h1;obtain⟨b,e1,e2,_⟩:=x.z1 h1 p hp e (by simp);obtain⟨c,c1,c2,_⟩:=x.z1 h1 q hq e (by simp);rw[e1] at c1;cases c1;exact absurd (e2.inj c2) eL
 omega
theorem QY(nM:∀k v,knd.is k v=true->(∃i t,v=.int i t)\/∃x t,v=.str x t)(hu:A.units<cLine){ks:List (List K)}{kx:List K}(S:B3 knd s.heap a wr ks o es ep t)(hx:IsTupleKey knd s.heap kx b)(hb:b∉wr)(hz:ks.length<=17){Q:Bool->Shared->Prop}(h:∀r h' o' iT mf t',Heap.SameBut a s.heap h'->B3 knd h' a wr (ks++[kx]) o' iT mf t'->Q r { s with heap:=h' }):wpAny (model prog w) A (setAddHashed a (.ref b) (tupleKeyHash knd kx)) Q E s:=by
 have hs:=S.sz;refine LZ nM hu S.s hx () (λhh=>?_) (λpQ h' o' iT mf t' sb S' pm=>?_)
 ·have e0:s={ s with heap:=s.heap }:=rfl;rw[e0];obtain⟨e,he,te⟩:=hh;refine h _ s.heap o es ep t (Heap.SameBut.refl a s.heap) ⟨S.s,λe he=>let ⟨k,hk,te⟩:=S.mem e he;⟨k,by simp[hk],te⟩,S.out,by simp;omega,λh0=>?_,λh1 k hk e' mG=>?_,λh2=>?_⟩
  ·rw[dc.mp (show es.toList.length=0 by simpa using h0)] at he;simp at he
  ·rcases aT.mp hk with hk|hk
   ·exact S.z1 h1 k hk e' mG
   ·cases bw.mp hk;obtain⟨e2,rfl,_⟩:=S.s.one h1;have q1:e=e2:=by simpa using he
    have q2:e'=e2:=by simpa using mG
    rw[q2,<- q1];exact te
  ·obtain⟨x,hx,y,hy,eL⟩:=S.z2 h2;exact⟨x,by simp[hx],y,by simp[hy],eL⟩
 ·have kp:∀e k,iF knd s.heap e k->iF knd h' e k:=λe k te=>te.keeps S.s.at_ S.s.data sb;have nG:=Fx hx S.s.at_ S.s.data sb;have new:iF knd h' (tupleKeyHash knd kx,.ref b) kx:=⟨b,rfl,nG,rfl⟩
  have iQ:iT.size=es.size+1:=by
   have:=pm.length_eq;simpa using this
  have ms:∀e∈iT.toList,e∈es.toList\/e=(tupleKeyHash knd kx,.ref b):=λe he=>by
   rcases aT.mp (pm.mem_iff.mp he) with z|z
   ·exact .inl z
   ·exact .inr (bw.mp z)
  refine h _ h' o' iT mf t' sb ⟨S',λe he=>?_,λe he c hc=>?_,by simp;omega,λh0=>by omega,λh1 k hk e he=>?_,λh2=>?_⟩
  ·rcases ms e he with z|rfl
   ·obtain⟨k,hk,te⟩:=S.mem e z;exact⟨k,by simp[hk],kp _ _ te⟩
   ·exact⟨kx,by simp,new⟩
  ·rcases ms e he with z|rfl
   ·exact S.out e z c hc
   ·cases hc;exact hb
  ·have k0:=S.z0 ();rw[k0] at hk;have e0:es.toList=[]:=dc.mp (by rw[aX];omega);rcases ms e he with z|rfl
   ·rw[e0] at z;simp at z
   ·obtain rfl:k=kx:=by simpa using hk
    exact new
  ·by_cases c1:es.size=1
   ·obtain⟨e,rfl,_⟩:=S.s.one c1;obtain⟨k,hk,te⟩:=S.mem e (by simp);exact⟨k,by simp[hk],kx,by simp,λz=>pQ c1 ⟨e,by simp,z▸te⟩⟩
   ·obtain⟨x,hx,y,hy,eL⟩:=S.z2 ();exact⟨x,by simp[hx],y,by simp[hy],eL⟩
theorem WA{L:Bool}(e:h.get? a=some { cls:=.type "set",dict:=none,data:=.set #[] 0 (.fresh 0 0 L) }):B3 knd h a wr ([]:List (List K)) { cls:=.type "set",dict:=none,data:=.set #[] 0 (.fresh 0 0 L) } #[] 0 (.fresh 0 0 L) :=
 ⟨⟨e,⟨rfl,rfl,rfl⟩,rfl,by intro e he;simp at he,rfl,by simp[iY,SetTable.fresh],rfl,.inl rfl,(by show 5*0<3*7;decide),λ_=>rfl,λh=>by simp at h⟩,by intro e he;simp at he,by intro e he;simp at he,aj _,λ_=>rfl,λh=>by simp at h,λh=>by simp at h⟩
end
section
variable[DecidableEq K]{knd:KeyKind prog w K}{E:Value->Shared->Prop}
def qq(b:Bool)(a:Addr)(h:Heap):Prop:=∃o es ep t,h.get? a=some o/\o.ExactSet/\o.data=.set es ep t/\t.fits es.size=true/\es.size<=17/\decide (1<es.size)=b
theorem B3.setM{ks:List (List K)}{b:Bool}(x:B3 knd h a wr ks o es ep t)(hz:ks.length<=17)(hb:b=true↔∃x∈ks,∃y∈ks,x≠y):qq b a h:=by
 have:=x.sz;refine⟨o,es,ep,t,x.s.at_,x.s.ex,x.s.data,x.s.fits,by omega,?_⟩;cases b
 ·rw[cY,x.mixed,<- hb];exact ba
 ·rw[decide_eq_true_eq,x.mixed,<- hb]
theorem Wo(nM:∀k v,knd.is k v=true->(∃i t,v=.int i t)\/∃x t,v=.str x t)(hu:A.in1.units<cLine){R:Result->Shared->Prop}{I:Addr}{fp:List Addr}{G:Array GenState->Array GenState->Prop}{P:Nat->Value->Prop}{St:Nat->Shared->Prop}(W:WalksS prog w A.in1 I fp wr G n P St)(uh:a∉fp){ks:List (List K)}(hn:n=ks.length)(Ze:bs.length=n)(hv:∀(i:Nat) v,P i v->∀b,bs[i]?=some b->v=.ref b)(pP:∀b∈bs,b∉a::wr)(hb:n<=17):∀(k i:Nat) (s:Shared),i+k=n->St i s->(∃o es ep t,B3 knd s.heap a wr (ks.take i) o es ep t)->(∀(i:Nat) b k,bs[i]?=some b->ks[i]?=some k->IsTupleKey knd s.heap k b) ->
   (∀s',Moved (a::wr) G s s'->(∃o es ep t,B3 knd s'.heap a wr ks o es ep t)->R (.ok (.ret .none)) s')->codeAny (model prog w) A (.builtin "set.update.loop" ⟨[.ref a,.ref I],[]⟩) R s:=by
 have hw:a∉wr:=λh=>uh (W.sub _ h);have lG:∀b∈wr,b∈a::wr:=λb hb=>by simp[hb]
 intro k
 induction k with
 |zero =>
  intro i s e st hS hK hR;obtain rfl:i=n:=by omega
  refine bT cE ?_;rw[fA cC _];unfold Builtin.«set.update.loop»;obtain⟨o,es,ep,t,hS⟩:=hS;refine aa (W.done s _ _ st λs' m=>af (hR s' (m.mono lG) ⟨o,es,ep,t,B3.at ?_ hw λb o hb e=>m.heap b o hb e⟩));rw[hn,gC] at hS;exact hS
 |succ k ih =>
  intro i s e st hS hK hR;have et:i<ks.length:=by omega
  obtain⟨b,yI⟩:∃b,bs[i]?=some b:=⟨_,ak ()⟩
  obtain⟨kx,CL⟩:∃k,ks[i]?=some k:=⟨_,ak et⟩
  have JF:=pP b (aC yI);obtain⟨o,es,ep,t,hS⟩:=hS;refine bT cE ?_;rw[fA cC _];unfold Builtin.«set.update.loop»;refine aa (W.item i s _ _ () st λv s' hP kW m=>?_);obtain rfl:=hv i v hP b yI;have jY:=hS.at hw λc o hc e=>m.heap c o hc e;have De:∀(i:Nat) b k,bs[i]?=some b->ks[i]?=some k->IsTupleKey knd s'.heap k b:=λi b k h1 h2=>X4 (hK i b k h1 h2) λo e=>m.heap b o (λz=>pP b (aC h1) (by simp[z])) e;have hl:(ks.take i).length<=17:=by rw[bE];omega
  have hx:=De i b kx yI CL;refine aa (bf ?_);unfold setAdd;refine bf (aa (wpAny_pyHash_tuple hu hx ?_));refine QY (s:={ s' with toks:=s'.toks+(kx.length+1) }) nM hu jY hx (λz=>JF (by simp[z])) hl λr h' o' iT mf t' sb lV=>?_;have e2:ks.take i++[kx]=ks.take (i+1):=by rw[cZ,CL];rfl
  rw[e2] at lV;have Ko:∀(i:Nat) b k,bs[i]?=some b->ks[i]?=some k->IsTupleKey knd h' k b:=λi b k h1 h2=>X4 (De i b k h1 h2) λo e=>by rw[sb.2 b λz=>pP b (aC h1) (by simp[z])];exact e
  refine af ⟨eP cC _,ih (i+1) _ () (W.frame _ s' _ _ kW (ZA _ _) λb hb o e=>by rw[sb.2 b λz=>uh (z▸hb)];exact e) ⟨_,_,_,_,lV⟩ Ko λs2 m2 h2=>?_⟩;exact hR s2 (Moved.trans W.gtrans ((m.mono lG).then_heap (ZA _ _) λb o hb e=>by rw[sb.2 b λz=>hb (by rw[z];simp)];exact e) m2) h2
theorem Vw(nM:∀k v,knd.is k v=true->(∃i t,v=.int i t)\/∃x t,v=.str x t)(hu:A.in1.units<cLine){l:Addr}{items:Array Value}{ks:List (List K)}{b:Bool}{Q:Fin->Shared->Prop}(hh:A.handled=none)(hS:s.heap.get? a=some (m6 w))(hl:Y3 s.heap l items)(hi:items.toList=bs.map .ref)(nL:ks.length=bs.length)(hK:∀(i:Nat) b k,bs[i]?=some b->ks[i]?=some k->IsTupleKey knd s.heap k b)(hb:ks.length<=17)(hm:b=true↔∃x∈ks,∃y∈ks,x≠y)(eL:a≠l)(h:∀h' tk,qq b a h'->(∀b o,b≠a->s.heap.get? b=some o->h'.get? b=some o)->s.toks<=tk->wpAny (model prog w) A (ret .none) Q E { s with heap:=h',toks:=tk }) :
  wpAny (model prog w) A (Builtin.«set.__init__» ⟨[.ref a,.ref l],[]⟩) Q E s:=by
 have hT:s.TypeIs (.ref a) "set":=⟨_,hS,rfl⟩
 have Zg:Lies s.heap a #[] 0 (SetTable.fresh 0 0 (Led w)):=⟨⟨_,hS,rfl,rfl⟩,rfl⟩
 have et:=hl.lt;have tT:l≠s.heap.objs.size:=aD et;unfold Builtin.«set.__init__» noKeywords;dsimp only;refine aa (dC (a:=Unit.unit) rfl ?_);have nm:∀{Q':String->Shared->Prop},(∀x,Q' x s)->wpAny (model prog w) A (typeNameOfCut 200 (.ref a)) Q' E s:=λ{Q'} q=>by
  unfold typeNameOfCut shownTypeOf;refine aa (aa (dH hT ?_));rw[aB ∅];refine af (dC (a:="set") ?_ (q _));unfold typeNameCut;dsimp only
  first|(unfold typeName;rw[find?_eq_fast];kernel_rfl)|kernel_rfl
 refine aa (nm λx=>?_);refine aa (m:=checkCount _ 0 1 _) (af ?_);refine aa (m:=Builtin.Frozenset.addrOf _) (af ?_);unfold setUsed;refine aa (aa (aU hS rfl rfl (af ?_)));rw[aB (by show ¬((SetTable.fill (SetTable.fresh 0 0 (Led w)) != 0)=true);unfold SetTable.fill;simp[SetTable.fresh])];unfold Builtin.Frozenset.updateFrom Builtin.Frozenset.isAnySet;obtain⟨c,mH,pW,it,hit,qZ,St,W,dz⟩:∃c:String,(c="list"\/c="tuple")/\s.TypeIs (.ref l) c/\∃it:Obj,(∀Q':Value->Shared->Prop,Q' (.ref s.heap.objs.size) { s with heap:=s.heap.push it }->wpAny (model prog w) A (pyIter (.ref l)) Q' E s) /\
   (∀b o,s.heap.get? b=some o->(s.heap.push it).get? b=some o)/\∃St:Nat->Shared->Prop,WalksS prog w A.in1 s.heap.objs.size [s.heap.objs.size,l] [s.heap.objs.size] (λa b=>b=a) items.size (λi v=>items[i]?=some v) St/\St 0 { s with heap:=s.heap.push it }:=by
  rcases hl with hl|hl
  ·obtain⟨o,ho,hc,_⟩:=id hl;exact⟨"list",.inl rfl,⟨o,ho,hc⟩,_,λQ' q=>eY hl q,λb o e=>ah _ e,_,(xg (A:=A.in1) hh _ l tT items).toS,⟨⟨_,aw _ rfl,rfl,rfl⟩,hl.push _⟩⟩
  ·obtain⟨o,ho,hc,_⟩:=id hl;exact⟨"tuple",.inr rfl,⟨o,ho,hc⟩,_,λQ' q=>lA hl q,λb o e=>ah _ e,_,(Walks.tuple (A:=A.in1) hh _ l tT items).toS,⟨⟨_,aw _ rfl,rfl,rfl⟩,hl.push _⟩⟩
 refine aa (aa (aa (du (b:=false) pW (by rcases mH with rfl|rfl<;>(rw[dU];kernel_rfl)) ?_)));show wpAny (model prog w) A (isInstance (Value.ref l) (Value.type "frozenset")) _ _ _;refine du (b:=false) pW (by rcases mH with rfl|rfl<;>(rw[dU];kernel_rfl)) ?_;rw[aB ∅];refine aa (dH pW ?_);rw[aB (by rcases mH with rfl|rfl<;>decide)];refine aa (hit _ ?_);refine aa (jK ?_);have yL:a<s.heap.objs.size:=ao hS;have iQ:items.size=ks.length:=by rw[<- aX,hi,ai,nL]
 have Kh:∀c∈bs,c≠a/\c≠s.heap.objs.size:=λc hc=>by
  obtain⟨i,nO,rfl⟩:=cx.mp hc;obtain⟨o,aV,n,ho,kK,hd,_⟩:=hK i _ (ks[i]'()) (ak nO) (ak _);refine⟨λz=>?_,aD (ao ho)⟩;rw[z,hS] at ho;cases ho;cases hd
 refine Wo (knd:=knd) nM hu (a:=a) (ks:=ks) (bs:=bs) W (by simp only [List.mem_cons,List.not_mem_nil,or_false,not_or];exact ⟨aD yL,eL⟩) iQ (by rw [iQ,nL]) (λi v hv c hc=>by
  have:items.toList[i]?=some v:=by rw[cj];exact hv
  rw[hi,aq,hc] at this;cases this
  rfl) (λc hc=>by simp only [List.mem_cons,List.not_mem_nil,or_false,not_or];exact Kh c hc) () items.size 0 _ ()
  dz ⟨_,_,_,_,WA (qZ _ _ hS)⟩ (λi c k h1 h2=>X4 (hK i c k h1 h2) λo e=>qZ c o e) λs' m jY=>?_
 obtain⟨o',iT,mf,t',jY⟩:=jY;have eS:s'={ s with heap:=s'.heap,toks:=s'.toks }:=by
  obtain⟨kI,g',d',ia,nC⟩:=s';have m1:g'=s.gens:=m.gens;have m2:d'=s.drawn:=m.drawn;have m3:nC=s.os:=m.os;subst m1;subst m2;subst m3
  rfl
 rw[eS];refine af (h _ _ (jY.setM hb hm) (λb o hb e=>?_) m.toks);exact m.heap b o (by simp only[List.mem_cons,List.not_mem_nil,or_false,not_or];exact⟨hb,aD (ao e)⟩) (qZ _ _ e)
theorem Vi(nM:∀k v,knd.is k v=true->(∃i t,v=.int i t)\/∃x t,v=.str x t)(hu:A.units+100<cLine){l:Addr}{items:Array Value}{ks:List (List K)}{b:Bool}{Q:Value->Shared->Prop}(hh:A.handled=none)(hl:Y3 s.heap l items)(hi:items.toList=bs.map .ref)(nL:ks.length=bs.length)(hK:∀(i:Nat) b k,bs[i]?=some b->ks[i]?=some k->IsTupleKey knd s.heap k b)(hb:ks.length<=17)(hm:b=true↔∃x∈ks,∃y∈ks,x≠y)(h:∀h' tk,qq b s.heap.objs.size h'->(∀b o,s.heap.get? b=some o->h'.get? b=some o)->s.toks<=tk->Q (.ref s.heap.objs.size) { s with heap:=h',toks:=tk }) :
  wpAny (model prog w) A (call (.type "set") [.ref l]) Q E s:=by
 have cs:=F.called_set;obtain⟨_,_,y1⟩:=cs.mro;have y2:=cs.made;have y3:=cs.sub;have y4:=cs.notType;have y5:=cs.canCreate;have y6:=F.typeCall_set_1 (.ref l);refine xf (rV (?_:wpAny _ _ (callAny (.type "set") _) _ _ _));refine af ⟨Code.quiet_builtin _ (by decide +kernel),bT F.entry_type_call ?_⟩;rw[Around.under_plain (weight_type_call_type "set" [.ref l] []) rfl]
 repeat (any_goals (first|assumption|wp_step))
 refine eG (EJ (.ref l) (E:=E) (Q:=λv s1=>v=.ref s.heap.objs.size/\s1={ s with heap:=s.heap.push (m6 w) }) ⟨rfl,rfl⟩) ?_;rintro(e|fl) s1 hr
 ·exact hr
 cases fl with
 |next=>exact hr
 |brk=>exact hr
 |cont=>exact hr
 |ret v =>
 obtain⟨rfl,rfl⟩:=hr;have hS:(s.heap.push (m6 w)).get? s.heap.objs.size=some (m6 w):=aw _ rfl;have hT:Shared.TypeIs { s with heap:=s.heap.push (m6 w) } (.ref s.heap.objs.size) "set":=⟨_,hS,rfl⟩
 have y7:=cs.init.lookup;have y8:=cs.init.bind (.ref s.heap.objs.size)
 repeat (any_goals (first|assumption|wp_step))
 refine eG (codeAny_call_builtin (R:=wants (λv s2=>v=.none/\∃h' tk,s2={ s with heap:=h',toks:=tk }/\qq b s.heap.objs.size h'/\(∀b o,s.heap.get? b=some o->h'.get? b=some o)/\s.toks<=tk) E) cs.init.plain F.entry_set_init (check_set_init_1 hT ?_)) ?_
 ·have iX:Y3 (s.heap.push (m6 w)) l items:=hl.imp (·.push _) (·.push _);have yw:=hl.lt;refine Vw (knd:=knd) (s:={ s with heap:=s.heap.push (m6 w) }) nM (show A.units+1+1+1<cLine by omega) (by simp[hh]) hS iX hi nL (λi c k h1 h2=>X4 (hK i c k h1 h2) λo e=>ah _ e) hb hm (bu yw) λh' tk h1 h2 h3=>af ⟨rfl,h',tk,rfl,h1,λb o e=>h2 b o (aD (ao e)) (ah _ e),h3⟩
 ·rintro(e|fl) s2 hr
  ·exact hr
  cases fl with
  |next=>exact hr
  |brk=>exact hr
  |cont=>exact hr
  |ret v =>
  obtain⟨rfl,h',tk,rfl,h1,h2,h3⟩:=hr
  repeat (any_goals (first|assumption|wp_step))
  exact h _ _ h1 h2 h3
end
end ST
namespace L2
open PySem PySem.Spec PyProof.Rows
def setM(b:Bool)(a:Addr):HO:=.ext (ST.qq b a)
theorem Yb{P:Program}{w:World}{h:Heap}{H:Hp}{a:Addr}{b:Bool}(x:ST.qq b a h):j5 P w H h a (setM b a) :=
 ⟨x,by obtain⟨o,_,_,_,e,_⟩:=x;exact⟨o,e⟩,λh1 h2 ⟨o,es,ep,t,e,r⟩ k=>⟨o,es,ep,t,k o e,r⟩⟩
theorem Uc{P:Program}{w:World}(k:Key)(v:Value)(h:(i9 P w).is k v=true):(∃i t,v=.int i t)\/∃x t,v=.str x t:=by
 rcases k9 (show M3 k v=true from h) with⟨i,t,_,e⟩|⟨x,t,_,e⟩
 ·exact .inl ⟨i,t,e⟩
 ·exact .inr ⟨x,t,e⟩
theorem FO:∀{bs:List Addr} {vs:List Value},Vals (bs.map V.ref) vs->vs=bs.map .ref
 |[],_,h=>by cases h;rfl
 |b::r,_,h=>by
  cases h with
  |cons q rr =>
   rw[FO rr];cases q
   rfl
def J8{α:Type}[DecidableEq α](ks:List α):Bool:=ks.any λx=>ks.any λy=>decide (x≠y)
theorem N7{α:Type}[DecidableEq α]{ks:List α}:J8 ks=true↔∃x∈ks,∃y∈ks,x≠y:=by
 unfold J8;simp only[List.any_eq_true,decide_eq_true_eq]
section
variable{X:Cx}{pins:List (Addr×Obj)}{Z:St}{H:Hp}{s:Shared}
theorem Td:j8 X (.builtin "len") (λxs H Q=>∃a b,xs=[.ref a]/\H a=some (setM b a)/\∀n:Nat,decide (1<n)=b->Q (.int n) H):=by
 intro pins s Z H xs us Q I r h;obtain⟨a,b,rfl,ha,q⟩:=h;obtain⟨u,rfl,ru⟩:=vals1 r;cases ru;have hS:ST.qq b a s.heap:=(I.bB a _ ha).1;obtain⟨o,es,ep,t,e,ex,ed,hf,hz,hb⟩:=hS;refine call_len_set e ex ed hf (by have:(17:Nat)<2 ^ 62:=∅;omega) ⟨.int es.size,H,I.tok _,⟨_,rfl⟩,q _ hb⟩
end
end L2
namespace ST
open PySem PyProof.Rows
variable{d:Addr}
section
variable{prog:Program}{w:World}{K:Type}[DecidableEq K]{knd:HeapKind prog w K}{A:Around}{E:Value->Shared->Prop}{s:Shared}
theorem XO{h:Heap}{b:Addr}{o:Obj}{es:Array DictEntry}{ep:Nat}{xs:List (K×Addr×Value)}{k:K}{v:Value}(go:h.get? d=some o)(ex:o.ExactDict)(dat:o.data=.dict es ep)(ents:es.toList=xs.map (entryOfKey knd))(tF:∀x∈xs,knd.is h x.1 x.2.1)(nd:(xs.map (·.1)).Nodup)(hb:knd.is h k b)(no:k∉xs.map (·.1)) :
  (h.update d (Obj.mapDictKeys (·.push ⟨knd.hash k,.ref b,v⟩))).DictOfH knd d (xs++[(k,b,v)]):=by
 have sb:Heap.SameBut d h (h.update d (Obj.mapDictKeys (·.push ⟨knd.hash k,.ref b,v⟩))):=.update ..;have dm:=Obj.data_mapDictKeys dat (·.push ⟨knd.hash k,.ref b,v⟩);refine⟨_,_,_,aN _ go (Obj.isFreed_of_dict dm),ex.mapDictKeys _,dm,?_,List.forall_mem_append.mpr ⟨λx m=>knd.keeps (tF x m) go dat sb,λx m=>?_⟩,?_⟩
 ·rw[dF,ents,bc]
  rfl
 ·obtain rfl:=bw.mp m;exact knd.keeps hb go dat sb
 ·rw[bc];exact dD.mpr ⟨nd,by simp,λp hp q hq z=>no (by have e:=bw.mp hq;dsimp only at e;rw[<- e,<- z];exact hp)⟩
theorem SG{a:Addr}{xs:List (K×Addr×Value)}{k:K}{v:Value}{Q:Value->Shared->Prop}(hu:knd.room A)(fZ:knd.is s.heap k a)(hm:s.heap.DictOfH knd d xs)(h1:∀p,atKey xs k=some p->Q p.2 { s with toks:=s.toks+knd.draws k })(h2:atKey xs k=none->∀h',h'.DictOfH knd d (xs++[(k,a,v)])->Heap.SameBut d s.heap h'->Q v { s with heap:=h',toks:=s.toks+knd.draws k })(iQ:xs.length<=sizeLine):wpAny (model prog w) A (dictSetDefault d (.ref a) v) Q E s:=by
 obtain⟨o,es,ep,go,ex,dat,ents,tF,nd⟩:=hm;have ez:es.size<=sizeLine:=by rw[size_of_entries ents];exact iQ
 refine bf (aa (knd.pyHash hu fZ (aa (wpAny_dictFind_heap (s:={ s with toks:=s.toks+knd.draws k }) hu fZ go dat ents tF nd (λno=>?_) λj p hj=>?_))))
 ·exact aa (gx (aa (wpAny_updateDictKeys (hz:=ez) (s:={ s with toks:=s.toks+knd.draws k }) go dat (af (h2 (atKey_none_of_get no) _ (XO go ex dat ents tF nd fZ (not_mem_keys_of_get no)) (.update ..))))))
 ·refine aa (hW (s:={ s with toks:=s.toks+knd.draws k }) go dat ?_);rw[entry_at ents j,hj];exact aa (gx (af (h1 p (atKey_of_get nd hj))))
theorem Tn{a:Addr}(hd:(d==sysModules)=false)(dflt:Value) :
  MeetsIn prog w (Builtin.«dict.setdefault» ⟨[.ref d,.ref a,dflt],[]⟩) (λA R s=>knd.room A.in1/\∃ k xs,knd.is s.heap k a/\s.heap.DictOfH knd d xs/\xs.length <= sizeLine /\
   (∀p,atKey xs k=some p->R (.ok (.ret p.2)) { s with toks:=s.toks+knd.draws k }) /\
   (atKey xs k=none->∀ h',h'.DictOfH knd d (xs ++ [(k,a,dflt)])->Heap.SameBut d s.heap h'->R (.ok (.ret dflt)) { s with heap:=h',toks:=s.toks + knd.draws k })) :=
 .of_wp λA R s ⟨hu,k,xs,fZ,hm,hz,h1,h2⟩=>by
  unfold Builtin.«dict.setdefault»;refine aa ?_;unfold Builtin.Dict.keyAndDefault;refine aa (wpAny_notOrdered_dict hm.typeIs ?_);show wpAny _ _ (pure (d,Value.ref a,some dflt)) _ _ s;refine af ?_;show wpAny _ _ (if(d==sysModules)=true then _ else(dictSetDefault d (.ref a) dflt >>= _)) _ _ s;rw[aB (by rw[hd];exact ba)];exact aa (SG hu fZ hm (λp hp=>af ⟨p.2,rfl,h1 p hp⟩) (λhn h' mF JC=>af ⟨dflt,rfl,h2 hn h' mF JC⟩) hz)
end
end ST
namespace L2
open PySem PySem.Spec PyProof.Rows
end L2
namespace ST
open PySem PyProof.Rows
variable{d a:Addr}{es:Array DictEntry}{ep:Nat}{s:Shared}{prog:Program}{w:World}{A:Around}{kz:List Int}
def B4(h:Heap)(d:Addr)(es:Array DictEntry)(ep:Nat):Prop:=∃o,h.get? d=some o/\o.ExactDict/\o.data=.dict es ep
theorem B4.at{h h':Heap}(x:B4 h d es ep)(k:∀o,h.get? d=some o->h'.get? d=some o):B4 h' d es ep:=let ⟨o,e,r⟩:=x;⟨o,k o e,r⟩
theorem B4.push{h:Heap}{d:Addr}{es:Array DictEntry}{ep:Nat}(x:B4 h d es ep)(o:Obj):B4 (h.push o) d es ep:=x.at λ_ e=>ah _ e
theorem B4.ty(x:B4 s.heap d es ep):s.TypeIs (.ref d) "dict":=let ⟨o,e,c,_⟩:=x;⟨o,e,c.1⟩
section
variable{E:Value->Shared->Prop}{I:Addr}{i:Nat}
theorem TX{Q:Value->Shared->Prop}(nm:(d==sysModules)=false)(R:B4 s.heap d es ep)(h:Q (.ref s.heap.objs.size) { s with heap:=s.heap.push { cls:=.type "dict_keyiterator",data:=.fields #[.ref d,.int 0 0,.int es.size 0,.int ep 0] } }):wpAny (model prog w) A (pyIter (.ref d)) Q E s:=by
 have ty:=R.ty;obtain⟨o,go,ex,dat⟩:=R;refine mR ty F.slot_dict_iter (cO F.slot_dict_iter ty F.entry_dict_iter ?_ (F.args_dict_iter_1 _));unfold Builtin.«dict.__iter__» Builtin.Dict.dictSlotNone;refine aa (aa (wpAny_notOrdered_dict ty (af ?_)));unfold Builtin.Dict.showsAll;refine aa (m:=Builtin.Dict.addrOf (.ref d)) (af ?_);rw[nm];simp only[Bool.false_eq_true,if_false];refine aa (af (aa (hW go dat (aa (rS go dat (aa (cc (af ⟨_,rfl,"dict_keyiterator",_,⟨_,aw _ rfl,rfl⟩,cH.lookup,?_⟩))))))));exact h
theorem Ue{e:DictEntry}{Q:Option Value->Shared->Prop}(hit:s.heap.IsKeyIter I d i es.size ep)(R:B4 s.heap d es ep)(he:es[i]?=some e)(hQ:∀h',h'.IsKeyIter I d (i+1) es.size ep->Heap.SameBut I s.heap h'->Q (some e.key) { s with heap:=h' }):wpAny (model prog w) A (pyNext (.ref I)) Q E s:=by
 have my:=hit.typeIs;obtain⟨oi,gi,ci,di⟩:=id hit;obtain⟨od,gd,xd,dd⟩:=R;refine aa (ig (eV (name:="__next__") my cH (cO cH my qK ?_ (pb _))));have nm:∀{Q':Nat->Shared->Prop} {E':Value->Shared->Prop} {s':Shared},s'.TypeIs (.ref I) "dict_keyiterator"->Q' 0 s'->wpAny (model prog w) A.in1 (typeNameOfWhole (.ref I) >>= λn=>pure (if Builtin.Dict_items.ownsTuple n=true then 2 else 0)) Q' E' s':=λ{Q' E' s'} ty q =>
  aa (qD ty (af (by rw[aB ∅];exact q)))
 refine aa (af (aa (aa (nm my (aa (jL gi di ?_))))));show wpAny (model prog w) A.in1 (if(Value.ref d==Value.none)=true then _ else _) _ _ _;rw[aB (show ¬(Value.ref d==Value.none)=true from ba)];refine aa (m:=Builtin.Dict_items.addrOf (.ref d)) (af (aa (hW gd dd ?_)));rw[aB (by rw[eQ];exact ba)];refine aa (m:=Builtin.Dict_items.addrOf (.ref d)) (af (aa (rS gd dd ?_)));rw[aB (by rw[eQ];exact ba)];refine af ?_;dsimp only;rw[aB (Int.not_lt.mpr (Iu i)),cz,he];refine aa (nm my (aa (wpAny_isOneOf_keyiter my (aa (cB gi di (by simp) ?_)))));have nN:(s.heap.update I (Obj.mapFields (·.setIfInBounds 1 (rawInt ((i:Int)+1))))).IsKeyIter I d (i+1) es.size ep :=
  ⟨_,aN _ gi (cw (aY di _)),(hX ..).trans ci,by rw[aY di];simp[rawInt]⟩
 refine aa (bf (aa (wpAny_isOneOf_keyiter (s:={ s with heap:=_ }) nN.typeIs (af (af ⟨_,rfl,af (hQ _ nN (aO ..))⟩)))))
theorem QK{Q:Option Value->Shared->Prop}(hh:A.handled=none)(hit:s.heap.IsKeyIter I d es.size es.size ep)(R:B4 s.heap d es ep)(hQ:∀h',Heap.ExtBut I s.heap h'->Q none { s with heap:=h' }):wpAny (model prog w) A (pyNext (.ref I)) Q E s:=by
 have my:=hit.typeIs;obtain⟨oi,gi,ci,di⟩:=id hit;obtain⟨od,gd,xd,dd⟩:=R;refine aa (ig (eV (name:="__next__") my cH (cO cH my qK ?_ (pb _))));have nm:∀{Q':Nat->Shared->Prop} {E':Value->Shared->Prop} {s':Shared},s'.TypeIs (.ref I) "dict_keyiterator"->Q' 0 s'->wpAny (model prog w) A.in1 (typeNameOfWhole (.ref I) >>= λn=>pure (if Builtin.Dict_items.ownsTuple n=true then 2 else 0)) Q' E' s':=λ{Q' E' s'} ty q =>
  aa (qD ty (af (by rw[aB ∅];exact q)))
 refine aa (af (aa (aa (nm my (aa (jL gi di ?_))))));show wpAny (model prog w) A.in1 (if(Value.ref d==Value.none)=true then _ else _) _ _ _;rw[aB (show ¬(Value.ref d==Value.none)=true from ba)];refine aa (m:=Builtin.Dict_items.addrOf (.ref d)) (af (aa (hW gd dd ?_)));rw[aB (by rw[eQ];exact ba)];refine aa (m:=Builtin.Dict_items.addrOf (.ref d)) (af (aa (rS gd dd ?_)));rw[aB (by rw[eQ];exact ba)];refine af ?_;dsimp only;rw[aB (Int.not_lt.mpr (Iu es.size)),cz,gS (aj _)];refine aa (nm my (aa (cB gi di (by simp) ?_)));exact S7 hh (aO ..).extBut hQ
theorem QS{h h':Heap}{n:Nat}(x:h.IsKeyIter I d i n ep)(k:∀o,h.get? I=some o->h'.get? I=some o):h'.IsKeyIter I d i n ep:=let ⟨o,e,r⟩:=x;⟨o,k o e,r⟩
theorem Wq(hh:A.handled=none)(eL:d≠I):Walks prog w A I [I,d] [I] es.size (λi v=>∃e,es[i]?=some e/\v=e.key) (λi h=>h.IsKeyIter I d i es.size ep/\B4 h d es ep) where
 sub:=λb hb=>av.mpr ((av.mp hb).imp id λz=>absurd z List.not_mem_nil)
 frame:=λ_ _ _ st hk=>⟨QS st.1 λo e=>hk I (by simp) o e,st.2.at λo e=>hk d (by simp) o e⟩
 item:=λi s Q E hi st hQ=>by
  obtain⟨e,he⟩:∃e,es[i]?=some e:=⟨_,cQ hi⟩
  exact Ue st.1 st.2 he λh' hit sb=>hQ _ h' s.toks ⟨e,he,rfl⟩ ⟨hit,st.2.at λo q=>by rw[sb.2 d eL];exact q⟩ λb o hb q=>by rw[sb.2 b λz=>hb (by simp[z])];exact q
 done:=λs Q E st hQ=>QK hh st.1 st.2 λh' x=>hQ h' s.toks λb o hb q=>x b o (λz=>hb (by simp[z])) q
 self:=λ_ _ _ _ st hQ=>wpAny_pyIter_keyiter st.1 hQ
end
section
variable{E:Value->Shared->Prop}
theorem SD(hh:A.handled=none)(hd:(a==sysModules)=false)(hm:B4 s.heap a es ep)(hz:es.size<=10000){Q:List Value->Shared->Prop}(h:∀(vs:List Value) h' ia,vs.length=es.size->(∀(i:Nat) v,vs[i]?=some v->∃e,es[i]?=some e/\v=e.key)->(∀c o,s.heap.get? c=some o->h'.get? c=some o)->s.heap.objs.size<=h'.objs.size->s.toks<=ia->Q vs { s with heap:=h',toks:=ia }) :
  wpAny (model prog w) A (collect (.ref a)) Q E s:=by
 have et:a<s.heap.objs.size:=let ⟨_,e,_⟩:=hm;ao e
 unfold collect;refine aa (jK (bT F.entry_proto_collect ?_));rw[fA F.plain_proto_collect _];show wpAny _ A.in1 (newList [] >>= λl=>again (.builtin "list.__iadd__" ⟨[l,.ref a],[]⟩)) _ _ s;refine aa (cc ?_);refine af ⟨eP mX _,bT F.entry_list_iadd ?_⟩;rw[fA mX _];have mI:=B4.push hm { cls:=.type "list",data:=.seq ([]:List Value).toArray };have yO:(s.heap.push { cls:=.type "list",data:=.seq ([]:List Value).toArray }).get? s.heap.objs.size=some { cls:=.type "list",data:=.seq ([]:List Value).toArray }:=aw _ rfl;have eL:s.heap.objs.size≠a:=bu et;have h1:Builtin.List.listSameRef (.ref s.heap.objs.size) (.ref a)=false:=by simp[Builtin.List.listSameRef,eL]
 show wpAny _ A.in1 (Builtin.List.listExtendWith (.ref s.heap.objs.size) (.ref a) (.ref s.heap.objs.size)) _ _ _;unfold Builtin.List.listExtendWith;refine aa (dH (s:={ s with heap:=_ }) mI.ty ?_);rw[aB (by rw[h1];decide)];refine aa (TX (s:={ s with heap:=_ }) hd mI ?_);have jV:s.heap.objs.size<(s.heap.push { cls:=.type "list",data:=.seq ([]:List Value).toArray }).objs.size:=by rw[vf];exact gy _
 have Kp:((s.heap.push { cls:=.type "list",data:=.seq ([]:List Value).toArray }).push { cls:=.type "dict_keyiterator",data:=.fields #[.ref a,.int 0 0,.int es.size 0,.int ep 0] }).IsKeyIter (s.heap.push { cls:=.type "list",data:=.seq ([]:List Value).toArray }).objs.size a 0 es.size ep:=⟨_,aw _ rfl,rfl,rfl⟩
 have nT:=B4.push mI { cls:=.type "dict_keyiterator",data:=.fields #[.ref a,.int 0 0,.int es.size 0,.int ep 0] };have he:∀c o,(s.heap.push { cls:=.type "list",data:=.seq ([]:List Value).toArray }).get? c=some o->((s.heap.push { cls:=.type "list",data:=.seq ([]:List Value).toArray }).push { cls:=.type "dict_keyiterator",data:=.fields #[.ref a,.int 0 0,.int es.size 0,.int ep 0] }).get? c=some o:=λc o e=>ah _ e;have lV:=he _ _ yO;generalize ((s.heap.push { cls:=.type "list",data:=.seq ([]:List Value).toArray }).push { cls:=.type "dict_keyiterator",data:=.fields #[.ref a,.int 0 0,.int es.size 0,.int ep 0] })=h2 at *;generalize Zh:(s.heap.push { cls:=.type "list",data:=.seq ([]:List Value).toArray }).objs.size=I at *;refine aa (bf ?_);unfold Builtin.List.listLengthHint;refine aa (rQ (s:={ s with heap:=h2 }) nT.ty Tj ?_);generalize ua:("dict.__len__":String)=ya;dsimp only;rw[show splitId ya=some ("dict","__len__") from by subst ua;decide +kernel];dsimp only;refine aa (du (s:={ s with heap:=h2 }) (b:=true) nT.ty (by rw[dU];kernel_rfl) ?_);rw[aB ∅];subst ua;rw[aJ (by decide +kernel)];refine aa (dH (s:={ s with heap:=h2 }) nT.ty ?_);refine af ?_;rw[aJ (by decide +kernel)];refine aa (gx ?_);refine aa ?_;show wpAny _ A.in1 (updateSeq s.heap.objs.size (·.push .none) >>= λ_=>updateSeq s.heap.objs.size (·.pop)) _ _ _;refine aa (jk (s:={ s with heap:=h2 }) lV rfl ?_);have ui:=aN (Obj.mapSeq (·.push Value.none)) lV rfl;refine jk (s:={ s with heap:=_ }) ui rfl ?_;have yN:=aN (Obj.mapSeq (·.pop)) ui rfl;have sN:∀c o,c≠s.heap.objs.size->h2.get? c=some o->((h2.update s.heap.objs.size (Obj.mapSeq (·.push Value.none))).update s.heap.objs.size (Obj.mapSeq (·.pop))).get? c=some o :=
  λc o hc e=>(bJ _ _ (bW hc)).trans ((bJ _ _ (bW hc)).trans e)
 have Kl:I≠s.heap.objs.size:=bu jV;have Ki:a≠I:=aD (cv et jV);have W:=(Wq (prog:=prog) (w:=w) (A:=A.in1) (I:=I) (es:=es) (ep:=ep) hh Ki).toS;have st:h2.IsKeyIter I a 0 es.size ep/\B4 h2 a es ep:=⟨Kp,nT⟩
 have nt:=W.frame 0 ({ s with heap:=h2 }:Shared) _ s.toks st (aj _) λc hc o e=>sN c o (λz=>by simp at hc;rcases hc with y|y<;>simp_all) e;refine af ⟨eP F.plain_extend_loop _,codeAny_extend_loopS W (aE hz ∅) _ (λz=>by simp at z;rcases z with y|y<;>simp_all) _ es.size 0 _ _ _ rfl (bG _) nt yN (ItemsOf.nil _) λs' qi c' hm jY lT=>?_⟩;show wpAny _ A (load s.heap.objs.size >>= _) _ _ s';refine aa (wpAny_load jY ?_);refine af ?_;have eS:s'={ s with heap:=s'.heap,toks:=s'.toks }:=by
  obtain⟨kI,g',d',ia,nC⟩:=s';have m1:g'=s.gens:=hm.gens;have m2:d'=s.drawn:=hm.drawn;have m3:nC=s.os:=hm.os;subst m1;subst m2;subst m3
  rfl
 rw[eS];refine h _ _ s'.toks (by simpa using lT.1) (λi v hv=>lT.2 i v (by simpa using hv)) (λc o e=>?_) (bX (ao jY)) hm.toks;have hc:c<s.heap.objs.size:=ao e;have n1:c≠s.heap.objs.size:=aD hc;have n2:c≠I:=aD (cv hc jV);exact hm.heap c o (by simp[n1,n2]) (sN c o n1 (he c o (ah _ e)))
end
section
variable{E:Value->Shared->Prop}{kS:Addr}{vs:List Value}{keys:Array Value}{e e1:Nat}{P:PySem.Fin->Shared->Prop}
noncomputable abbrev uL(a b:Addr)(h h':Heap):Prop:=∀c o,c≠a->c≠b->h.get? c=some o->h'.get? c=some o
theorem WJ{st:SortSt}(gk:s.heap.get? kS=some (seqObj "list" keys e))(ga:s.heap.get? a=some (seqObj "list" #[] e1))(rf:kS≠a)(zk:keys.size<=100)(zs:(arrOf st).size<=100)(hf:failedOf st=none)(h:∀h' c,uL a kS s.heap h'->h'.get? a=some (seqObj "list" ((arrOf st).map (·.2)) c)->h'.objs.size=s.heap.objs.size->P (.done (.ret .none)) { s with heap:=h' }):wpAny (model prog w) A (ksk_tail a false e1 (.ref kS) st) P E s:=by
 have u1:=aO s.heap kS (Obj.mapSeq λ_=>(#[]:Array Value));have rp:(s.heap.update kS (Obj.mapSeq λ_=>(#[]:Array Value))).get? a=some (seqObj "list" #[] e1):=by rw[u1.2 a (bW rf)];exact ga
 have u2:=aO (s.heap.update kS (Obj.mapSeq λ_=>(#[]:Array Value))) a (Obj.mapSeq λ_=>(arrOf st).map (·.2));have zm:((arrOf st).map (·.2)).size<=100:=by rw[mY];exact zs
 have lO:100<=sizeLine:=by rw[cM];decide
 unfold ksk_tail;dsimp only;refine aa (rT gk rfl ?_ (aE zk lO) (bG _));refine aa (wpAny_letGo (aa (seqEpoch_at rp rfl ?_)));refine aa (rT rp rfl ?_ (bG _) (YE (aE zm lO)));rw[hf,eQ];simp only[Bool.false_eq_true,if_false];refine af (h _ _ (λc o n1 n2 q=>?_) (get?_update_seq rp λ_=>(arrOf st).map (·.2)) (by rw[iK,iK]));rw[u2.2 c n1,u1.2 c n2];exact q
theorem VF(gk:s.heap.get? kS=some (seqObj "list" keys e))(ga:s.heap.get? a=some (seqObj "list" #[] e1))(rf:kS≠a)(hk:IntsAre keys.toList kz)(hlen:kz.length=vs.length)(rn:vs.length<=60)(h:∀h' out c,uL a kS s.heap h'->h'.get? a=some (seqObj "list" out c)->h'.objs.size=s.heap.objs.size->KskOut false kz vs out.toList->P (.done (.ret .none)) { s with heap:=h' }):wpAny (model prog w) A (ksk_end a false vs.toArray e1 (.ref kS) keys) P E s:=by
 have zk:keys.size=vs.length:=by rw[<- hlen,<- N9 hk,aX]
 have zp:(keys.zip vs.toArray).size=vs.length:=by rw[Array.size_zip,zk,aG,Nat.min_self]
 unfold ksk_end;dsimp only;simp only[Bool.false_eq_true,if_false];have go:∀st:SortSt,(arrOf st).Perm (keys.zip vs.toArray)->failedOf st=none->SortedTo (arrOf st) (arrOf st).size->wpAny (model prog w) A (ksk_tail a false e1 (.ref kS) st) P E s:=λst pm hf so =>
  WJ gk ga rf () (by rw[pm.size_eq];omega) hf λh' c b2 g' z=>h h' _ c b2 g' z (ksk_out (b:=false) hk pm so)
 by_cases two:vs.toArray.size<2
 ·rw[aJ two,aJ two];refine aa (af ?_);rw[StateT.run_pure];refine aa (af (go _ (Array.Perm.refl _) rfl λi j jX hj=>?_));have vN:j<(keys.zip vs.toArray).size:=hj;rw[aG] at two;obtain rfl:i=j:=by omega
  exact Int.le_refl _
 ·rw[aB two,aB two];rw[aG] at two;rw[ksk_kind hk ()];refine aa (af ?_);refine aa (bK (wpS_sortRuns (a₀:=keys.zip vs.toArray) (Q:=λ_ st=>(arrOf st).Perm (keys.zip vs.toArray)/\failedOf st=none/\SortedTo (arrOf st) (keys.zip vs.toArray).size) (ksk_intKeys hk) ⟨Array.Perm.refl _,rfl,rfl,rfl⟩ () () λst p1 p2 p3=>⟨p1,p2,p3⟩) (λr s' q=>?_) λ_ _ z=>z);obtain⟨⟨⟩,st⟩:=r;obtain⟨rfl,p1,p2,p3⟩:=q;exact go st p1 p2 (by rw[p1.size_eq];exact p3)
end
section
variable{E:Value->Shared->Prop}{kS:Addr}{vs:List Value}{e1:Nat}{P:PySem.Fin->Shared->Prop}
theorem WH{f:Value}(gk:s.heap.get? kS=some (seqObj "list" #[] 0))(ga:s.heap.get? a=some (seqObj "list" #[] e1))(rf:kS≠a)(hlen:kz.length=vs.length)(rn:vs.length<=60)(turn:∀(i:Nat) v k,vs[i]?=some v->kz[i]?=some k->∀(h':Heap) (tk:Nat),uL a kS s.heap h'->wpAny (model prog w) A (call f [v]) (λr s2=>∃t ia,r=.int k t/\s2={ s with heap:=h',toks:=ia }) (λ_ _=>False) { s with heap:=h',toks:=tk })(h:∀h' tk out c,uL a kS s.heap h'->h'.get? a=some (seqObj "list" out c)->h'.objs.size=s.heap.objs.size->KskOut false kz vs out.toList->P (.done (.ret .none)) { s with heap:=h',toks:=tk }):wpAny (model prog w) A (ksk_rest a f false vs.toArray e1 (.ref kS)) P E s:=by
 have lO:100<=sizeLine:=by rw[cM];decide
 unfold ksk_rest;refine aa (gx ?_);rw[List.forIn_toArray];refine aa (ksk_fold (λn s'=>∃ h' tk ks c,s'={ s with heap:=h',toks:=tk }/\uL a kS s.heap h'/\h'.objs.size=s.heap.objs.size/\h'.get? kS=some (seqObj "list" ks c)/\h'.get? a=some (seqObj "list" #[] e1)/\IntsAre ks.toList (kz.take n)) vs 0 s
  ⟨s.heap,s.toks,#[],0,rfl,λ_ _ _ _ q=>q,rfl,gk,ga,.nil⟩ (λj v s' hv q=>?_) λs' q=>?_)
 ·rw[gO] at q ⊢;obtain⟨h',tk,ks,c,rfl,b2,hz,uw,ze,hk⟩:=q;have hj:j<vs.length:=(ay.mp hv).1;obtain⟨k,CK⟩:∃k,kz[j]?=some k:=⟨_,ak ()⟩
  have zk:ks.size<=60:=by
   have:=N9 hk;rw[aX,bE] at this;omega
  refine aa (ig (bK (turn j v k hv CK h' tk b2) (λr s2 q=>?_) λ_ _ z=>z.elim));obtain⟨t,ia,rfl,rfl⟩:=q;dsimp only;have u:=aO h' kS (Obj.mapSeq (·.push (.int k t)));refine aa (rT uw rfl ?_ () (by rw[Array.size_push];omega));refine af ⟨rfl,_,ia,ks.push (.int k t),_,rfl,λc o n1 n2 q=>?_,by rw[iK];exact hz,get?_update_seq uw (·.push (.int k t)),?_,?_⟩
  ·rw[u.2 c n2];exact b2 c o n1 n2 q
  ·rw[u.2 a (bW rf)];exact ze
  ·rw[dF,cZ,CK];exact ksk_snoc hk
 ·rw[gO] at q;obtain⟨h',tk,ks,c,rfl,b2,hz,uw,ze,hk⟩:=q;rw[gP ()] at hk;refine aa (listItems_at uw rfl ?_);exact VF (s:={ s with heap:=h',toks:=tk }) uw ze rf hk hlen rn λh2 out c' b3 g' z ko=>h h2 tk out c' (λc o n1 n2 q=>b3 c o n1 n2 (b2 c o n1 n2 q)) g' (z.trans hz) ko
theorem WI{f:Value}{n:Nat}(ga:s.heap.get? a=some (seqObj "list" vs.toArray n))(hlen:kz.length=vs.length)(rn:vs.length<=60)(turn:∀(i:Nat) v k,vs[i]?=some v->kz[i]?=some k->∀(h':Heap) (tk:Nat),(∀c o,c≠a->s.heap.get? c=some o->h'.get? c=some o)->wpAny (model prog w) A (call f [v]) (λr s2=>∃t ia,r=.int k t/\s2={ s with heap:=h',toks:=ia }) (λ_ _=>False) { s with heap:=h',toks:=tk })(h:∀h' tk out c,(∀c o,c≠a->s.heap.get? c=some o->h'.get? c=some o)->h'.get? a=some (seqObj "list" out c)->s.heap.objs.size<=h'.objs.size->KskOut false kz vs out.toList->P (.done (.ret .none)) { s with heap:=h',toks:=tk }):wpAny (model prog w) A (ksk_tree a f false) P E s:=by
 have lO:100<=sizeLine:=by rw[cM];decide
 have ha:a<s.heap.objs.size:=ao ga;have u:=aO s.heap a (Obj.mapSeq λ_=>(#[]:Array Value));have rp:=get?_update_seq ga λ_=>(#[]:Array Value)
 have Jr:(s.heap.update a (Obj.mapSeq λ_=>(#[]:Array Value))).objs.size=s.heap.objs.size:=iK ..;have tH:∀c o,c≠a->s.heap.get? c=some o->(s.heap.update a (Obj.mapSeq λ_=>(#[]:Array Value))).get? c=some o:=λc o n q=>by rw[u.2 c n];exact q
 unfold ksk_tree;refine aa (listItems_at ga rfl ?_);refine aa (rT ga rfl ?_ (by rw[aG];omega) (bG _));refine aa (seqEpoch_at rp rfl ?_);refine aa (wpAny_newTuple ?_ (by show vs.length<=_;omega));refine aa (Ik ?_ (bG _));refine bf ?_;generalize s.heap.update a (Obj.mapSeq λ_=>(#[]:Array Value))=h0 at *;have z1:(h0.push (seqObj "tuple" vs.toArray 0)).objs.size=s.heap.objs.size+1:=by rw[vf,Jr]
 have keep:∀c o,c≠a->s.heap.get? c=some o->((h0.push (seqObj "tuple" vs.toArray 0)).push (seqObj "list" #[] 0)).get? c=some o:=λc o n q=>ah _ (ah _ (tH c o n q));refine WH (s:={ s with heap:=(h0.push (seqObj "tuple" vs.toArray 0)).push (seqObj "list" #[] 0) }) (kS:=(h0.push (seqObj "tuple" vs.toArray 0)).objs.size) (aw _ rfl) (ah _ (ah _ rp)) (bu (by rw[z1];exact fP ha)) hlen rn (λi v k hv hk h' tk b2=>?_) λh' tk out c b2 g' z ko=>?_
 ·exact turn i v k hv hk h' tk λc o n q=>b2 c o n (aD (by rw[z1];exact fP (ao q))) (keep c o n q)
 ·refine h h' tk out c (λc o n q=>b2 c o n (aD (by rw[z1];exact fP (ao q))) (keep c o n q)) g' ?_ ko;rw[z,vf,z1];omega
end
section
variable{E:Value->Shared->Prop}
theorem Tb{Q:Value->Shared->Prop}(hh:A.handled=none)(hd:(a==sysModules)=false)(hm:B4 s.heap a es ep)(rn:es.size<=60)(hlen:kz.length=es.size)(turn:∀(i:Nat) (e:DictEntry) k,es[i]?=some e->kz[i]?=some k->∀s':Shared,(∀c o,s.heap.get? c=some o->s'.heap.get? c=some o)->wpAny (model prog w) A.in1.in1 (call (.builtin "len") [e.key]) (λr s2=>∃t ia,r=.int k t/\s2={ s' with toks:=ia }) (λ_ _=>False) s')(h:∀D h' tk out c,(∀c o,s.heap.get? c=some o->h'.get? c=some o)->h'.get? D=some (seqObj "list" out c)->s.heap.objs.size<=D->KskOut false kz (es.toList.map (·.key)) out.toList->Q (.ref D) { s with heap:=h',toks:=tk }) :
  wpAny (model prog w) A (call (.builtin "sorted") [.ref a] [("key",.builtin "len")]) Q E s:=by
 have lO:100<=sizeLine:=by rw[cM];decide
 refine call_function_entry_kw kind_sorted plain_sorted entry_sorted (ksk_s1 _ _) ?_;unfold Builtin.«sorted»;refine aa (m:=checkCount "sorted" 1 1 _) (af ?_);refine aa (SD (A:=A.in1) hh hd hm () λvs h1 su yh hv he jV tN=>?_);have Jz:vs=es.toList.map (·.key):=by
  refine fR λi=>?_;rw[aq,cj (xs:=es)];cases hi:vs[i]? with
  |some v =>
   obtain⟨e,h1,h2⟩:=hv i v hi;rw[h1,h2]
   rfl
  |none =>
   have:es[i]?=none:=by
    rw[Array.getElem?_eq_none_iff,<- yh];exact cP.mp hi
   rw[this]
   rfl
 refine aa (Ik ?_ ());have gn:(h1.push (seqObj "list" vs.toArray 0)).get? h1.objs.size=some (seqObj "list" vs.toArray 0):=aw _ rfl;have keep:∀c o,s.heap.get? c=some o->(h1.push (seqObj "list" vs.toArray 0)).get? c=some o:=λc o q=>ah _ (he c o q);refine aa (bf (wpAny_call_entry_kw slot_list_sort ⟨_,gn,rfl⟩ entry_list_sort ?body (ksk_l1 _ _)))
 case body =>
  show wpAny (model prog w) A.in1.in1 (Builtin.«list.sort» ⟨[.ref h1.objs.size],[(Str.ofString "key",.builtin "len")]⟩) _ _ _;rw[ksk_t4];refine WI (s:={ s with heap:=h1.push (seqObj "list" vs.toArray 0),toks:=su }) gn (hlen.trans yh.symm) (by rw[yh];exact rn) (λi v k hi hk h' tk kp=>?_) λh' tk out c kp g' z ko=>⟨_,rfl,af ⟨_,rfl,?_⟩⟩
  ·obtain⟨e,uu,rfl⟩:=hv i v hi;exact turn i e k uu hk _ λc o q=>kp c o (aD (ax (ao q) jV)) (keep c o q)
  ·exact h h1.objs.size h' tk out c (λc o q=>kp c o (aD (ax (ao q) jV)) (keep c o q)) g' jV (Jz▸ko)
end
end ST
namespace L2
open PySem PySem.Spec PyProof.Rows
variable{X:Cx}{h:Heap}{a:Addr}{kvs:DX}{P P':Program}{w w':World}
theorem FF{α β:Type}(g:α->β){q ps:List β}(h:q.Perm ps):∀{l:List α},q=l.map g->∃l':List α,l'.Perm l/\ps=l'.map g:=by
 induction h with
 |nil =>
  intro l e;exact⟨l,.refl _,e⟩
 |cons x _ ih =>
  intro l e;cases l with
  |nil=>cases e
  |cons y r =>
   rw[aZ] at e;obtain⟨e1,e2⟩:=fV e;obtain⟨l',p,e3⟩:=ih e2;exact⟨y::l',p.cons y,by rw[aZ,<- e1,<- e3]⟩
 |swap x y t =>
  intro l e
  match l,e with
  |u::v::r,e =>
   rw[aZ,aZ] at e;obtain⟨e1,e2⟩:=fV e;obtain⟨e3,e4⟩:=fV e2;exact⟨v::u::r,.swap _ _ _,by rw[aZ,aZ,<- e1,<- e3,<- e4]⟩
 |trans _ _ Jq Jp =>
  intro l e;obtain⟨l1,p1,e1⟩:=Jq e;obtain⟨l2,p2,e2⟩:=Jp e1;exact⟨l2,p2.trans p1,e2⟩
theorem V5:∀(bs:List Addr),Vals (bs.map V.ref) (bs.map .ref)
 |[]=>.nil
 |b::r=>.cons rfl (V5 r)
noncomputable abbrev DX:=List (List Key×Addr×V)
def oa(P:Program)(w:World)(a:Addr)(kvs:DX)(h:Heap):Prop:=(a==sysModules)=false/\kvs.length<=1000 /\
 ∃o es ep,∃xs:List (List Key×Addr×Value),h.get? a=some o/\o.ExactDict/\o.data=.dict es ep/\es.toList=xs.map (entryOfKey (tupleKind (i9 P w)))/\Paired (λp q=>p.1=q.1/\p.2.1=q.2.1/\RelV p.2.2 q.2.2) kvs xs/\(xs.map (·.1)).Nodup
def mh(X:Cx)(a:Addr)(kvs:DX):HO:=.ext (oa X.prog X.w a kvs)
theorem Gz{H:Hp}(x:oa X.prog X.w a kvs h):j5 X.prog X.w H h a (mh X a kvs) :=
 ⟨x,by obtain⟨_,_,o,_,_,_,e,_⟩:=x;exact⟨o,e⟩,λh1 h2 ⟨n,z,o,es,ep,xs,e,r⟩ k=>⟨n,z,o,es,ep,xs,k o e,r⟩⟩
def mP(kvs:DX)(k:List Key):Option V:=(kvs.find? λp=>decide (p.1=k)).map (·.2.2)
section
variable{pins:List (Addr×Obj)}{Z:St}{H:Hp}{s:Shared}{b:Addr}{k:List Key}{x:V}{r:Value}{A:Around}{E:Value->Shared->Prop}
theorem Y7(I:Inv X pins Z H s)(e:gM X.K H b (k.map kV)):(tupleKind (i9 X.prog X.w)).is s.heap k b:=by
 obtain⟨aV,rv,⟨o,h1,h2,n,h3⟩,_⟩:=I.tuple e;exact⟨o,aV.toArray,n,h1,h2,h3,by simpa using X6 rv⟩
theorem Hd{xs:List (List Key×Addr×Value)}(rel:Paired (λ(p:List Key×Addr×V) (q:List Key×Addr×Value)=>p.1=q.1/\p.2.1=q.2.1/\RelV p.2.2 q.2.2) kvs xs):A4 (mP kvs k) ((atKey xs k).map (·.2)):=by
 unfold mP atKey
 induction rel with
 |nil=>trivial
 |@cons p q l m h _ ih =>
  rw[bZ,bZ,<- h.1];by_cases c:p.1=k
  ·rw[aQ c];exact h.2.2
  ·rw[aR c];exact ih
theorem Ah{xs:List (List Key×Addr×Value)}(rel:Paired (λ(p:List Key×Addr×V) (q:List Key×Addr×Value)=>p.1=q.1/\p.2.1=q.2.1/\RelV p.2.2 q.2.2) kvs xs):xs.map (λq=>(q.1,q.2.1))=kvs.map (λp=>(p.1,p.2.1)):=by
 induction rel with
 |nil=>rfl
 |cons h _ ih=>rw[aZ,aZ,ih,h.1,h.2.1]
theorem AV(I:Inv X pins Z H s)(e:H a=some (mh X a kvs))(hk:∀p∈kvs,gM X.K H p.2.1 (p.1.map kV)):(a==sysModules)=false/\kvs.length<=1000/\∃xs:List (List Key×Addr×Value),Paired (λp q=>p.1=q.1/\p.2.1=q.2.1/\RelV p.2.2 q.2.2) kvs xs/\s.heap.DictOfH (tupleKind (i9 X.prog X.w)) a xs:=by
 obtain⟨nm,z,o,es,ep,xs,g,ex,dat,ents,rel,nd⟩:=(I.bB a _ e).1;refine⟨nm,z,xs,rel,o,es,ep,g,ex,dat,ents,λq hq=>?_,nd⟩;have:(q.1,q.2.1)∈xs.map (λq=>(q.1,q.2.1)):=az.mpr ⟨q,hq,rfl⟩;rw[Ah rel] at this;obtain⟨p,hp,e2⟩:=az.mp this;have e3:p.1=q.1/\p.2.1=q.2.1:=by simpa using e2
 rw[<- e3.1,<- e3.2];exact Y7 I (hk p hp)
theorem QJ{xs:List (List Key×Addr×Value)}(rv:RelV x r)(rel:Paired (λ(p:List Key×Addr×V) (q:List Key×Addr×Value)=>p.1=q.1/\p.2.1=q.2.1/\RelV p.2.2 q.2.2) kvs xs):Paired (λ(p:List Key×Addr×V) (q:List Key×Addr×Value)=>p.1=q.1/\p.2.1=q.2.1/\RelV p.2.2 q.2.2) (kvs++[(k,b,x)]) (xs++[(k,b,r)]):=by
 induction rel with
 |nil=>exact .cons ⟨rfl,rfl,rv⟩ .nil
 |cons h _ ih=>exact .cons h ih
theorem Og{xs:List (List Key×Addr×Value)}(nm:(a==sysModules)=false)(hz:kvs.length<1000)(dd:h.DictOfH (tupleKind (i9 X.prog X.w)) a (xs++[(k,b,r)]))(rel:Paired (λ(p:List Key×Addr×V) (q:List Key×Addr×Value)=>p.1=q.1/\p.2.1=q.2.1/\RelV p.2.2 q.2.2) kvs xs)(rv:RelV x r):oa X.prog X.w a (kvs++[(k,b,x)]) h:=by
 obtain⟨o,es,ep,g,ex,dat,ents,_,nd⟩:=dd;refine⟨nm,by rw[dn,vj];omega,o,es,ep,_,g,ex,dat,ents,QJ rv rel,nd⟩
theorem Vm{Q:Value->Shared->Prop}(hu:A.units+1<cLine)(I:Inv X pins Z H s)(e:H a=some (mh X a kvs))(hk:∀p∈kvs,gM X.K H p.2.1 (p.1.map kV))(eb:gM X.K H b (k.map kV))(rv:RelV x r)(hz:kvs.length<1000)(h1:∀v,mP kvs k=some v->∀w' s',Inv X pins Z H s'->RelV v w'->Q w' s')(h2:mP kvs k=none->∀s',Inv X pins Z (upd H a (mh X a (kvs++[(k,b,x)]))) s'->Q r s'):wpAny (model X.prog X.w) A (call (.builtin "dict.setdefault") [.ref a,.ref b,r]) Q E s:=by
 obtain⟨nm,_,xs,rel,dd⟩:=AV I e hk;have hl:xs.length<=sizeLine:=by rw[<- dP rel,cM];omega
 have hv:=Hd (k:=k) rel;refine Zx lC dd.typeIs PySem.F.entry_dict_setdefault (PySem.F.args_dict_setdefault_3 _ _ _) (ST.Tn nm r) ⟨cT hu,k,xs,Y7 I eb,dd,hl,λp hp=>?_,λhn h' qe hs=>?_⟩
 ·rw[hp] at hv;cases hq:mP kvs k with
  |none=>rw[hq] at hv;exact hv.elim
  |some v =>
   rw[hq] at hv;exact h1 v hq _ _ (I.tok _) hv
 ·have hq:mP kvs k=none:=by
   cases hq:mP kvs k with
   |none=>rfl
   |some v=>rw[hq,hn] at hv;exact hv.elim
  refine h2 hq _ (Ag I (by rw[e];exact True.intro) hs (let ⟨o,_,_,g,_⟩:=qe;⟨o,g⟩) (Gz (Og nm hz qe rel rv)))
theorem MG(hu:X.A.units+1<cLine):qy X (λx y H Q=>∃a b kvs k v,x=.ref a/\y=.ref b/\H a=some (mh X a kvs)/\(∀p∈kvs,gM X.K H p.2.1 (p.1.map kV))/\gM X.K H b (k.map kV)/\mP kvs k=some v/\Q v H):=by
 intro value slice pins s Z H x y v u Q I rx ry h hs;obtain⟨a,b,kvs,k,d,rfl,rfl,e,hk,eb,hd,q⟩:=h;cases rx;cases ry;obtain⟨nm,_,xs,rel,dd⟩:=AV I e hk;have hv:=Hd (k:=k) rel;rw[hd] at hv;cases ha:atKey xs k with
 |none=>rw[ha] at hv;exact hv.elim
 |some p =>
  rw[ha] at hv;exact tail_any dd.typeIs mS.lookup (wpAny_getItem_heap (cT hu) (Y7 I eb) dd ha ⟨d,H,I.tok _,hv,q⟩) hs
end
section
variable{o:Expr}{td:TE}{p p2 kp pos:Pos}
def Qp(X:Cx):TE:=λ_ H Q=>∀p,H p=none->Q (.ref p) (upd H p (mh X p []))
theorem Um:PE X (.Dict [] [] pos) (Qp X):=λpins s Z H Q I h=>by
 have big:=I.big;refine wpAny_Dict_empty ⟨.ref s.heap.objs.size,_,I.laid (a:=s.heap.objs.size) (o:=mh X s.heap.objs.size []) (t':=s.toks) (λ_ _ q=>ah _ q) (aj _) (Gz ⟨?_,bG _,_,#[],0,[],aw _ rfl,⟨rfl,rfl,rfl⟩,rfl,rfl,.nil,List.nodup_nil⟩),rfl,h _ (I.bB.fresh (aj _))⟩;exact cW.mpr (bu big)
def PK(X:Cx):List V->Hp->VK->Prop:=λvs H Q=>∃a kvs,vs=[.ref a]/\H a=some (mh X a kvs)/\(∀p∈kvs,gM X.K H p.2.1 (p.1.map kV))/\kvs.length<=60/\∀D,∀kvs':DX,H D=none->kvs'.Perm kvs->kvs'.Pairwise (λx y=>x.1.length<=y.1.length)->Q (.ref D) (upd H D (.lst (kvs'.map λp=>V.ref p.2.1)))
theorem Uq(hc:X.calm=true)(ho:PE X o td)(yD:Gl X "sorted")(lR:X.mg "sorted"=none)(jG:Gl X "len")(jF:X.mg "len"=none)(he:starEach [o] X.env=[(false,eval o X.env)]) :
  PE X (.Call (.Name "sorted" p) [o] [⟨some "key",.Name "len" p2,kp⟩] pos) (qO (PK X) (wu td rJ)):=by
 intro pins s Z H Q I h;refine bV (C5 I yD lR PyProof.Rows.boot_sorted ?_);refine PyProof.Rows.callWith_kw (cJ ((E5 ho K7 (by rw[he];rfl)) pos pins s Z H _ I h) λus s1 q=>?_) (by rw[he];rfl) (by rw[he];rfl);obtain⟨vs,H1,I1,r1,a,kvs,rfl,ha,nL,hz,q⟩:=q;obtain⟨u,rfl,ru⟩:=vals1 r1;cases ru;refine PyProof.Rows.kws_cons (C5 I1 jG jF iG (PyProof.Rows.kws_nil ?_));obtain⟨nm,_,xs,rel,dd⟩:=AV I1 ha nL;have lx:kvs.length=xs.length:=dP rel;have kk:=Ah rel;obtain⟨od,es,ep,gd,xd,Lu,ents,tF,nd⟩:=id dd;have ez:es.size=xs.length:=size_of_entries ents;have pr:∀x∈xs,gM X.K H1 x.2.1 (x.1.map kV):=λx hx=>by
  have:(x.1,x.2.1)∈xs.map (λq=>(q.1,q.2.1)):=az.mpr ⟨x,hx,rfl⟩;rw[kk] at this;obtain⟨y,hy,e2⟩:=az.mp this;have e3:y.1=x.1/\y.2.1=x.2.1:=by simpa using e2
  rw[<- e3.1,<- e3.2];exact nL y hy
 show wpAny (model X.prog X.w) X.A (call (.builtin "sorted") [.ref a] [("key",.builtin "len")]) _ _ s1;refine ST.Tb (es:=es) (ep:=ep) (kz:=xs.map λx=>(x.1.length:Int)) (I1.ok.hd hc) nm ⟨od,gd,xd,Lu⟩ () (by rw[ai];omega) (λi e k hi hk s' kp=>?_) λD h' tk out c kp g' hD ko=>?_
 ·have hx:(xs.map (entryOfKey (tupleKind (i9 X.prog X.w))))[i]?=some e:=by rw[<- ents,cj];exact hi
  rw[aq,ae] at hx hk;obtain⟨x,hx,rfl⟩:=hx;obtain⟨x',nG,rfl⟩:=hk;rw[hx] at nG;cases nG;obtain⟨aV,rv,⟨o',g1,g2,n,g3⟩,zl⟩:=I1.tuple (pr x (aC hx));have hl:aV.toArray.size=x.1.length:=by rw[aG,<- rv.length,ai]
  refine PyProof.Rows.len_tuple (items:=aV.toArray) ⟨o',kp _ _ g1,g2,n,g3⟩ (by rw[hl];rw[ai] at zl;rw[cM] at zl;omega) ⟨_,_,by rw[hl],rfl⟩
 ·obtain⟨ps,p1,p2,p3⟩:=ko;have ev:es.toList.map (·.key)=xs.map λx=>Value.ref x.2.1:=by rw[ents,bD];rfl
  rw[ev] at p1;have KU:(xs.map λx=>(x.1.length:Int)).zip (xs.map λx=>Value.ref x.2.1)=xs.map λx=>((x.1.length:Int),Value.ref x.2.1):=by
   rw[List.zip_map',]
  rw[KU] at p1;obtain⟨ys,q1,rfl⟩:=FF _ p1.symm rfl;obtain⟨kvs',q2,q3⟩:=FF (λp:List Key×Addr×V=>(p.1,p.2.1)) ((q1.map λq:List Key×Addr×Value=>(q.1,q.2.1)).symm) kk;have qo:out.toList=kvs'.map λp=>Value.ref p.2.1:=by
   rw[p2,bD];have:=dM (List.map λz:List Key×Addr=>Value.ref z.2) q3;rw[bD,bD] at this;exact this
  have qp:kvs'.Pairwise (λx y=>x.1.length<=y.1.length):=by
   have h1:(ys.map λq=>(q.1,q.2.1)).Pairwise (λx y:List Key×Addr=>x.1.length<=y.1.length):=by
    rw[cU] at p3 ⊢;refine p3.imp λ{u v} r=>?_;simpa using r
   rw[q3,cU] at h1;exact h1
  have ql:kvs'.length=kvs.length:=q2.length_eq;have eo:out=(kvs'.map λp=>Value.ref p.2.1).toArray:=by rw[<- qo]
  have vr:Vals (kvs'.map λp=>V.ref p.2.1) (kvs'.map λp=>Value.ref p.2.1):=by
   have:=V5 (kvs'.map λp=>p.2.1)
   rwa [bD,bD] at this
  exact⟨.ref D,_,I1.laid (a:=D) (o:=.lst (kvs'.map λp=>V.ref p.2.1)) (t':=tk) kp hD ⟨by rw[ai,cM];omega,kvs'.map λp=>Value.ref p.2.1,c,vr,by rw[g',eo]⟩,rfl,q D kvs' (I1.bB.fresh hD) q2 qp⟩
end
theorem Tg(hc:X.calm=true)(hu:X.A.units+100<cLine):j8 X (.type "set") (λxs H Q=>∃a,∃bs:List Addr,∃ks:List (List Key),xs=[.ref a]/\fu X.K H a (bs.map V.ref)/\ks.length=bs.length/\(∀(i:Nat) b k,bs[i]?=some b->ks[i]?=some k->gM X.K H b (k.map kV))/\ks.length<=17 /\
  ∀ p,H p=none->Q (.ref p) (upd H p (setM (J8 ks) p))):=by
 intro pins s Z H xs us Q I r h;obtain⟨a,bs,ks,rfl,hq,nL,hK,hl,q⟩:=h;cases r with
 |cons r rr =>
 cases rr;cases r;obtain⟨aV,rv,p,hz⟩:=I.list hq;have hI:=FO rv;subst hI;refine ST.Vi (knd:=i9 X.prog X.w) (ks:=ks) (bs:=bs) Uc hu (I.ok.hd hc) (.inl p.isList) (by simp) nL (λi b k h1 h2=>Y7 I (hK i b k h1 h2)) hl (N7 (ks:=ks)) λh' tk hS hk _=>?_;exact⟨.ref _,_,I.laid (a:=s.heap.objs.size) (t':=tk) hk (aj _) (Yb hS),rfl,q _ (I.bB.fresh (aj _))⟩
theorem Vy(k:List Int):tupleKeyHash (i9 P w) (k.map Sum.inl)=tupleKeyHash (i9 P' w') (k.map Sum.inl):=by
 unfold tupleKeyHash;simp only[List.map_map]
 rfl
theorem Hk(hk:∀p∈kvs,∃k:List Int,p.1=k.map Sum.inl)(x:oa P w a kvs h):oa P' w' a kvs h:=by
 obtain⟨n,z,o,es,ep,xs,e,ex,dat,ents,rel,nd⟩:=x;refine⟨n,z,o,es,ep,xs,e,ex,dat,ents.trans (BC λq hq=>?_),rel,nd⟩;have:(q.1,q.2.1)∈xs.map (λq=>(q.1,q.2.1)):=az.mpr ⟨q,hq,rfl⟩;rw[Ah rel] at this;obtain⟨p,hp,e2⟩:=az.mp this;have e3:p.1=q.1/\p.2.1=q.2.1:=by simpa using e2
 obtain⟨k,hk⟩:=hk p hp;unfold entryOfKey;rw[<- e3.1,hk];exact dM (λz=>(⟨z,_,_⟩:DictEntry)) (Vy k)
theorem Mv(hk:∀p∈kvs,∃k:List Int,p.1=k.map Sum.inl):oa P w a kvs=oa P' w' a kvs :=
 funext λ_=>propext ⟨Hk hk,Hk hk⟩
end L2
namespace M
open PySem L2
set_option genInjectivity true in
inductive D where
 |bq|bl (b:Bool)|int (i:Int)|str (x:Str)|ty (n:String)|ref (i:Nat)|tup (l:List D)
set_option genInjectivity true in
inductive O where
 |lst (l:List D)|nY (l:List D)
 |eO (kvs:List (Key×D))
 |ins (c:Str) (fs:List (Str×D))
 |set (S:Int->Bool) (n:Nat)
 |gq (kvs:List (List Int×D))
def O.mut:O->Bool
 |.nY _=>false
 |_=>true
def X5:D->Option Key
 |.int i=>some (.inl i)
 |.str x=>some (.inr x)
 |_=>none
def u3(kvs:List (Key×D))(k:Key):Option D:=(kvs.find? λkv=>decide (kv.1=k)).map (·.2)
def putD(kvs:List (Key×D))(k:Key)(v:D):List (Key×D) :=
 if(kvs.any λkv=>decide (kv.1=k))=true then kvs.map (λkv=>if kv.1=k then(kv.1,v) else kv) else kvs++[(k,v)]
def u7(k:List Int):D:=.tup (k.map .int)
def P8(kvs:List (List Int×D))(k:List Int):Option D:=(kvs.find? λkv=>decide (kv.1=k)).map (·.2)
def O7(f:Str)(v:D):List (Str×D)->List (Str×D)
 |[]=>[(f,v)]
 |(g,x)::r=>if g=f then(g,v)::r else(g,x)::O7 f v r
def K5:List D->Str->Option D
 |.tup [.str y,v]::r,x=>if x=y then some v else K5 r x
 |_::_,_=>none
 |[],_=>none
def HH:List D->Option Str
 |[]=>some Str.empty
 |.str x::r=>(HH r).map λy=>x++y
 |_=>none
structure Xn where
 cls:Str
noncomputable abbrev G:=List O
noncomputable abbrev S:=List (Option D)
noncomputable abbrev KD:=D->G->Prop
noncomputable abbrev KX:=Xn->G->Prop
noncomputable abbrev ja:KX:=λ_ _=>False
def zN:Option O->Option (List D)
 |some (.lst l)=>some l
 |some (.nY l)=>some l
 |_=>none
noncomputable abbrev c8(g:G)(a:Nat):Option (List D):=zN g[a]?
def rd(g:G):Nat->D->Option PyData
 |_,.bq=>some .none
 |_,.bl b=>some (.bool b)
 |_,.int i=>some (.int i)
 |_,.str x=>some (.str x)
 |_,.ty _=>none
 |0,.ref _=>none
 |0,.tup _=>none
 |n+1,.ref a=>match c8 g a with
  |some l=>(l.mapM (rd g n)).map .list
  |none=>none
 |n+1,.tup l=>(l.mapM (rd g n)).map .tuple
def IW(g:G)(l:List D):Option (List PyData):=l.mapM (rd g 6)
def B0(g:G):D->Option (List D)
 |.tup l=>some l
 |.ref a=>c8 g a
 |_=>none
def P2:D->Bool
 |.bq=>true
 |_=>false
def cut{α:Type}(xs:List α)(lo hi:Option Int):List α:=(xs.drop (HT.iV xs.length 0 lo)).take (HT.iV xs.length xs.length hi-HT.iV xs.length 0 lo)
def U0(g:G)(x:D)(c:String):Option Bool:=match x with
 |.bq=>some (c=="NoneType")
 |.bl _=>some (c=="bool"||c=="int")
 |.int _=>some (c=="int")
 |.str _=>some (c=="str")
 |.tup _=>some (c=="tuple")
 |.ref a=>match g[a]? with
  |some (.lst _)=>some (c=="list")
  |_=>none
 |.ty _=>none
def k6(lo:Int)(n:Nat):List D:=(List.range n).map λ(k:Nat)=>.int (lo+k)
def P5:List D->Option Bool
 |[]=>some true
 |.bl b::r=>(P5 r).map λc=>b&&c
 |_=>none
inductive Pr where
 |bin (op:Operator)|un (op:UnaryOp)|cmp (op:CmpOp)
 |ix|kE (lo hi:Bool)|rev|tup|lst|Q5
 |len|list|tuple|isin|all|max|min|int|str|jz|jy|sset|IQ|uF
 |KG|zc|lZ|fv|zf|fld (f:Str)
 |append|pop|get|index|join|iadd|clear|xM|extend|any|sA|sum|rH|xZ|sH|pK|zA|uE|sG (i:Int)|nv|ju|mixed
noncomputable abbrev DR:=List D->G->D->G->Prop
def SX:Operator->Int->Int->Int->Prop
 |.Add,i,j,r=>r=i+j
 |.Sub,i,j,r=>r=i-j
 |.Mult,i,j,r=>qj i j/\r=i*j
 |.FloorDiv,i,j,r=>Bm i j/\r=i / j
 |.Mod,i,j,r=>0<j/\r=i % j
 |.Pow,i,j,r=>V0 i j/\r=i ^ j.toNat
 |.LShift,i,j,r=>V0 i j/\r=i*2 ^ j.toNat
 |.BitAnd,i,j,r=>r=Builtin.bitAnd i j
 |.BitOr,i,j,r=>r=Builtin.bitOr i j
 |_,_,_,_=>False
def Rb(op:Operator):DR:=λxs g d g' =>
 (∃i j r,xs=[.int i,.int j]/\SX op i j r/\d=.int r/\g'=g) \/
 (op=.Add/\((∃ a b l m,xs=[.ref a,.ref b]/\g[a]?=some (.lst l)/\g[b]?=some (.lst m)/\l.length + m.length <= 100000/\d=.ref g.length/\g'=g ++ [.lst (l ++ m)]) \/
  False)) \/
 (op=.Mult/\(∃a l n,xs=[.ref a,.int n]/\g[a]?=some (.lst l)/\-(2 ^ 62)<=n/\n<2 ^ 62/\l.length*n.toNat<=100000/\d=.ref g.length/\g'=g++[.lst (List.replicate n.toNat l).flatten]))
def IE(op:UnaryOp):DR:=λxs g d g'=>op=.USub/\∃i,xs=[.int i]/\d=.int (-i)/\g'=g
def uA(g:G)(x y:D)(b:Bool):Prop :=
 (∃i j,x=.int i/\y=.int j/\b=decide (i=j))\/(∃i j,x=.bl i/\y=.bl j/\b=(i==j))\/(∃i j,x=.str i/\y=.str j/\b=decide (i=j)) \/
 ∃p q,rd g 6 x=some p/\rd g 6 y=some q/\p.canLay0=true/\q.canLay0=true/\b=PyData.eqv p q
def inR(g:G)(x y:D)(b:Bool):Prop :=
 (∃a kvs c,y=.ref a/\g[a]?=some (.eO kvs)/\X5 x=some c/\b=(u3 kvs c).isSome) \/
 ∃l ps p,B0 g y=some l/\IW g l=some ps/\rd g 6 x=some p/\PyData.canLayAll0 ps=true/\p.canLay0=true/\b=(ps.any λq=>PyData.eqv q p)
def Ef(g:G)(x y:D)(b:Bool):Prop:=∃a S n i,y=.ref a/\g[a]?=some (.set S n)/\x=.int i/\b=S i
def DO(g:G)(x y:D)(b:Bool):CmpOp->Prop
 |.Eq=>uA g x y b
 |.NotEq=>uA g x y (!b)
 |.In=>inR g x y b\/Ef g x y b
 |.NotIn=>inR g x y (!b)\/Ef g x y (!b)
 |.Lt=>∃i j,x=.int i/\y=.int j/\b=decide (i<j)
 |.LtE=>∃i j,x=.int i/\y=.int j/\b=decide (i<=j)
 |.Gt=>∃i j,x=.int i/\y=.int j/\b=decide (j<i)
 |.GtE=>∃i j,x=.int i/\y=.int j/\b=decide (j<=i)
 |.Is=>y=.bq/\b=P2 x
 |.IsNot=>y=.bq/\b=!P2 x
def Ri(op:CmpOp):DR:=λxs g d g'=>∃x y b,xs=[x,y]/\DO g x y b op/\d=.bl b/\g'=g
def Ei(g:G)(x:D)(b:Bool):Prop :=
 (x=.bq/\b=false)\/x=.bl b\/(∃i,x=.int i/\b=(i != 0))\/(∃l,x=.tup l/\b=!l.isEmpty)\/∃a l,x=.ref a/\c8 g a=some l/\b=!l.isEmpty
def Jo:DR:=λxs g d g'=>g'=g/\((∃x l i,xs=[x,.int i]/\B0 g x=some l/\fU l i=some d)\/(∃a kvs y c,xs=[.ref a,y]/\g[a]?=some (.eO kvs)/\X5 y=some c/\u3 kvs c=some d) \/
 (∃a kvs k,xs=[.ref a,u7 k]/\g[a]?=some (.gq kvs)/\P8 kvs k=some d) \/
 False)
def sC(x:D)(lo hi:Option Int)(g:G)(d:D)(g':G):Prop:=False\/∃a l,x=.ref a/\c8 g a=some l/\d=.ref g.length/\g'=g++[.lst (cut l lo hi)]
def Sd:Bool->Bool->DR
 |false,false,xs,g,d,g'=>∃x,xs=[x]/\sC x none none g d g'
 |true,false,xs,g,d,g'=>∃x i,xs=[x,.int i]/\sC x (some i) none g d g'
 |false,true,xs,g,d,g'=>∃x j,xs=[x,.int j]/\sC x none (some j) g d g'
 |true,true,xs,g,d,g'=>∃x i j,xs=[x,.int i,.int j]/\sC x (some i) (some j) g d g'
def RX:DR:=λxs g d g'=>(∃l,xs=[.tup l]/\d=.tup l.reverse/\g'=g)\/∃a l,xs=[.ref a]/\c8 g a=some l/\d=.ref g.length/\g'=g++[.lst l.reverse]
def LU:DR:=λxs g d g'=>xs.length<=1000/\d=.tup xs/\g'=g
def Ry:DR:=λxs g d g'=>xs.length<=1000/\d=.ref g.length/\g'=g++[.lst xs]
def Mq:DR:=λxs g d g'=>xs=[]/\d=.ref g.length/\(g'=g++[.eO []]\/g'=g++[.gq []])
def RZ:DR:=λxs g d g'=>∃a kvs k v,xs=[.ref a,u7 k,v]/\g[a]?=some (.gq kvs)/\kvs.length<1000/\((P8 kvs k=some d/\g'=g)\/(P8 kvs k=none/\d=v/\g'=g.set a (.gq (kvs++[(k,v)]))))
def Qg:DR:=λxs g d g'=>∃a,∃kvs kvs':List (List Int×D),xs=[.ref a]/\g[a]?=some (.gq kvs)/\kvs.length<=60/\kvs'.Perm kvs/\kvs'.Pairwise (λx y=>x.1.length<y.1.length)/\d=.ref g.length/\g'=g++[.lst (kvs'.map λp=>u7 p.1)]
def OL:DR:=λxs g d g'=>∃a,∃ks:List (List Int),xs=[.ref a]/\c8 g a=some (ks.map u7)/\ks.length<=17/\d=.bl (J8 ks)/\g'=g
def Rx:DR:=λxs g d g'=>g'=g/\((∃x l,xs=[x]/\B0 g x=some l/\d=.int l.length)\/False\/False)
def kD:Key->D
 |.inl i=>.int i
 |.inr x=>.str x
def MR:DR:=λxs g d g'=>(∃x l,xs=[x]/\B0 g x=some l/\d=.ref g.length/\g'=g++[.lst l])\/∃a kvs,xs=[.ref a]/\g[a]?=some (.eO kvs)/\kvs.length<=10000/\d=.ref g.length/\g'=g++[.lst ((kvs.map (·.1)).map kD)]
def Qu:DR:=λxs g d g'=>∃x l,xs=[x]/\B0 g x=some l/\d=.tup l/\g'=g
def MD:DR:=λxs g d g'=>∃x c b,xs=[x,.ty c]/\c∈["int","bool","str","tuple","list"]/\U0 g x c=some b/\d=.bl b/\g'=g
def allR:DR:=λxs g d g'=>∃a l b,xs=[.ref a]/\c8 g a=some l/\(P5 l=some b\/∃ns:List Int,l=ns.map .int/\b=ns.all λn=>n != 0)/\d=.bl b/\g'=g
def Hu:List D->Option Bool
 |[]=>some false
 |.bl b::r=>(Hu r).map λc=>b||c
 |_=>none
def anyR:DR:=λxs g d g'=>∃a l b,xs=[.ref a]/\c8 g a=some l/\Hu l=some b/\d=.bl b/\g'=g
def Qf:DR:=λxs g d g'=>False\/∃x,∃ns:List Int,xs=[x]/\B0 g x=some (ns.map .int)/\ns.length<60/\d=.ref g.length/\g'=g++[.lst ((Nz ns).map .int)]
def Rz:DR:=λxs g d g'=>g'=g/\((∃i j,xs=[.int i,.int j]/\d=.int (if j>i then j else i))\/∃a,∃(ns:List Int) (M:Int),xs=[.ref a]/\c8 g a=some (ns.map .int)/\M∈ns/\(∀x∈ns,x<=M)/\d=.int M)
def RA:DR:=λxs g d g'=>g'=g/\((∃i j,xs=[.int i,.int j]/\d=.int (if j<i then j else i))\/False)
def Nv:DR:=λxs g d g'=>∃a i S n,xs=[.ref a,.int i]/\g[a]?=some (.set S n)/\n+1<4096/\d=.bq/\g'=g.set a (.set (λk=>S k||decide (k=i)) (if S i then n else n+1))
def MN:DR:=λxs g d g'=>∃a,∃ns:List Int,xs=[.ref a]/\c8 g a=some (ns.map .int)/\ns.length<600/\d=.ref g.length/\g'=g++[.set (λk=>decide (k∈ns)) (ST.j6 [] ns).length]
def PN(i:Int):DR:=λxs g d g'=>xs=[]/\d=.ref g.length/\g'=g++[.set (λk=>decide (k=i)) 1]
def Sf:DR:=λxs g d g'=>∃a,∃ns:List Int,xs=[.ref a]/\c8 g a=some (ns.map .int)/\d=.int ns.sum/\g'=g
def MU:DR:=λxs g d g'=>∃a,∃ns:List Int,xs=[.ref a]/\c8 g a=some (ns.map .int)/\ns.length<60/\d=.int (ST.j6 [] ns).length/\g'=g
def MF:DR:=λxs g d g'=>∃i j,xs=[.int i,.int j]/\d=.int (i-j)/\g'=g
def Ru:DR:=λxs g d g'=>g'=g/\((∃i,xs=[.int i]/\d=.int i)\/∃b,xs=[.bl b]/\d=.int (if b then 1 else 0))
def Se:DR:=λxs g d g'=>(∃i,xs=[.int i]/\i.natAbs.log2<1920/\d=.str (toString i)/\g'=g)\/∃x,xs=[.str x]/\d=.str x/\g'=g
def OD:DR:=λxs g d g'=>∃j,xs=[.int j]/\-(2 ^ 62)<=j/\j<=100000/\d=.ref g.length/\g'=g++[.lst (k6 0 j.toNat)]
def OE:DR:=λxs g d g'=>∃i j,xs=[.int i,.int j]/\(-(2 ^ 62)<=i/\i<2 ^ 62/\-(2 ^ 62)<=j/\j<2 ^ 62/\j-i<=100000)/\d=.ref g.length/\g'=g++[.lst (k6 i (j-i).toNat)]
def NA:DR:=λxs g d g'=>∃a ns,xs=[.ref a]/\c8 g a=some (ns.map .int)/\ns.length<60/\d=.ref g.length/\g'=g++[.lst ((L9 ns).map .int)]
def Sg:DR:=λxs g d g'=>∃ns ms:List Int,xs=[.tup (ns.map .int),.tup (ms.map .int)]/\(∀k∈ns,ST.Spot k)/\(∀k∈ms,ST.Spot k)/\ns.length+ms.length<50/\d=.ref g.length/\g'=g++[.lst ((L9 (ns++ms)).map .int)]
def DV(neg:Bool):DR:=λxs g d g'=>∃kvs x,xs=[.tup kvs,.str x]/\d=.bl (xor neg (K5 kvs x).isSome)/\g'=g
def My:DR:=λxs g d g'=>∃kvs x,xs=[.tup kvs,.str x]/\K5 kvs x=some d/\g'=g
def KP:DR:=λxs g d g'=>g'=g/\((∃i,xs=[.int i]/\i.natAbs.log2<1920/\d=.str (toString i))\/∃x,xs=[.str x]/\x.length<=2000/\d=.str x)
def Mx:DR:=λxs g d g'=>∃x,HH xs=some x/\d=.str x/\g'=g
def Rn(f:Str):DR:=λxs g d g'=>∃a c fs,xs=[.ref a]/\g[a]?=some (.ins c fs)/\fs.lookup f=some d/\g'=g
def appendR:DR:=λxs g d g'=>∃a y l,xs=[.ref a,y]/\g[a]?=some (.lst l)/\l.length<100000/\d=.bq/\g'=g.set a (.lst (l++[y]))
def RO:DR:=λxs g d g'=>∃a i l k,xs=[.ref a,.int i]/\g[a]?=some (.lst l)/\-(2 ^ 63)<=i/\i<2 ^ 63/\seqIndex? i l.length=some k/\l[k]?=some d/\g'=g.set a (.lst (l.eraseIdx k))
def Rq:DR:=λxs g d g'=>∃a y z kvs c,xs=[.ref a,y,z]/\g[a]?=some (.eO kvs)/\X5 y=some c/\d=(u3 kvs c).getD z/\g'=g
def HC:D->Bool
 |.bq=>true
 |.bl _=>true
 |.int _=>true
 |.str _=>true
 |_=>false
def toV:D->V
 |.bl b=>.bl b
 |.int i=>.int i
 |.str x=>.str x
 |_=>.bq
def NW(l:List D)(y:D)(n:Nat):Prop:=l.all HC=true/\HC y=true/\(∃z,l[n]?=some z/\Du (toV z) (toV y)=true)/\∀(m:Nat) z,m<n->l[m]?=some z->Du (toV z) (toV y)=false
def NX(g:G)(l:List D)(y:D)(n:Nat):Prop:=∃(bs:List Nat) (b:Nat) (ms:List Int),l=bs.map .ref/\y=.ref b/\g[b]?=some (.lst (ms.map .int))/\(∀c∈bs,∃ns:List Int,g[c]?=some (.lst (ns.map .int))/\ns.length=ms.length) /\
 (∃c,bs[n]?=some c/\g[c]?=some (.lst (ms.map .int)))/\∀(m:Nat) c,m<n->bs[m]?=some c->g[c]?≠some (.lst (ms.map .int))
def Om:DR:=λxs g d g'=>∃x y l n,xs=[x,y]/\B0 g x=some l/\(NW l y n\/((∃a,x=.ref a)/\NX g l y n))/\l.length<=100000/\d=.int n/\g'=g
def joinR:DR:=λxs g d g'=>∃sep a ys,xs=[.str sep,.ref a]/\c8 g a=some (ys.map .str)/\Xf sep ys<=100000/\d=.str (Builtin.Str.glued sep ys)/\g'=g
def MB:DR:=λxs g d g'=>(∃i j,xs=[.int i,.int j]/\d=.int (i+j)/\g'=g)\/∃l m,xs=[.tup l,.tup m]/\l.length+m.length<=100000/\d=.tup (l++m)/\g'=g
def Ob:DR:=λxs g d g'=>∃a l,xs=[.ref a]/\g[a]?=some (.lst l)/\d=.bq/\g'=g.set a (.lst [])
def Nq:DR:=λxs g d g'=>∃a l,xs=[.ref a]/\g[a]?=some (.lst (l++[d]))/\g'=g.set a (.lst l)
def QL:DR:=λxs g d g'=>∃a b l m,xs=[.ref a,.ref b]/\g[a]?=some (.lst l)/\g[b]?=some (.lst m)/\l.length+m.length<=100000/\d=.bq/\g'=g.set a (.lst (l++m))
def Oe:DR:=λxs g d g'=>False\/∃a,∃ks:List Int,xs=[.ref a]/\c8 g a=some (ks.map λk=>.tup [.int k,.bl true])/\ks.length<=1000/\ks.Nodup/\d=.ref g.length/\g'=g++[.eO (ks.map λk=>(.inl k,.bl true))]
def rq(p:Key×Int×Int):Key×D:=(p.1,.tup [.int p.2.1,.int p.2.2])
def MM(n:Int)(p:Key×Int×Int):Bool:=!(decide (p.2.1=n)||decide (p.2.2=n))
def Mp:DR:=λxs g d g'=>∃a n,∃fs:List (Key×Int×Int),xs=[.ref a,.int n]/\g[a]?=some (.eO (fs.map rq))/\fs.length<1000/\(fs.map (·.1)).Nodup/\d=.ref g.length/\g'=g++[.eO ((fs.filter (MM n)).map rq)]
def delD(kvs:List (Key×D))(k:Key):List (Key×D):=kvs.filter λkv=>decide (kv.1≠k)
def Mt:DR:=λxs g d g'=>∃a y kvs c,xs=[.ref a,y]/\g[a]?=some (.eO kvs)/\X5 y=some c/\u3 kvs c=some d/\g'=g.set a (.eO (delD kvs c))
def PR:Pr->DR
 |.zA=>Mp
 |.uE=>Mt
 |.nv=>RZ
 |.ju=>Qg
 |.mixed=>OL
 |.clear=>Ob
 |.any=>anyR
 |.sum=>Sf
 |.sH=>Nv
 |.pK=>MN
 |.sG i=>PN i
 |.rH=>MU
 |.xZ=>MF
 |.sA=>Qf
 |.extend=>QL
 |.xM=>Nq
 |.uF=>Oe
 |.bin op=>Rb op
 |.un op=>IE op
 |.cmp op=>Ri op
 |.ix=>Jo
 |.kE a b=>Sd a b
 |.rev=>RX
 |.tup=>LU
 |.lst=>Ry
 |.Q5=>Mq
 |.len=>Rx
 |.list=>MR
 |.tuple=>Qu
 |.isin=>MD
 |.all=>allR
 |.max=>Rz
 |.min=>RA
 |.int=>Ru
 |.str=>Se
 |.jz=>OD
 |.jy=>OE
 |.sset=>NA
 |.IQ=>Sg
 |.KG=>DV false
 |.zc=>DV true
 |.lZ=>My
 |.fv=>KP
 |.zf=>Mx
 |.fld f=>Rn f
 |.append=>appendR
 |.pop=>RO
 |.get=>Rq
 |.index=>Om
 |.join=>joinR
 |.iadd=>MB
def cI(p:Pr)(xs:List D)(g:G)(Q:KD):Prop:=∃d g',PR p xs g d g'/\Q d g'
def qb(g:G)(x y:D)(k:Bool->Prop):Prop:=∃b,uA g x y b/\k b
def tJ(g:G)(x y:D)(k:Bool->Prop):Prop:=∃b,inR g x y b/\k b
def V7(g:G)(x:D)(k:Bool->Prop):Prop:=∃b,Ei g x b/\k b
def Sb(x y v:D)(g g':G):Prop:=(∃a i l j,x=.ref a/\y=.int i/\g[a]?=some (.lst l)/\jS l.length i=some j/\g'=g.set a (.lst (l.set j v))) \/
 ∃a kvs c,x=.ref a/\g[a]?=some (.eO kvs)/\X5 y=some c/\kvs.length<100000/\g'=g.set a (.eO (putD kvs c v))
def T1(x y v:D)(g:G)(k:G->Prop):Prop:=∃g',Sb x y v g g'/\k g'
def HQ(f:Str)(cs:List Str)(x v:D)(g g':G):Prop:=∃a c fs,x=.ref a/\g[a]?=some (.ins c fs)/\c∈cs/\fs.length<100/\g'=g.set a (.ins c (O7 f v fs))
def Bc(f:Str)(cs:List Str)(x v:D)(g:G)(k:G->Prop):Prop:=∃g',HQ f cs x v g g'/\k g'
def kZ:Pr->D->G->Prop
 |.get,x,g=>∃a kvs,x=.ref a/\g[a]?=some (.eO kvs)
 |.nv,x,g=>∃a kvs,x=.ref a/\g[a]?=some (.gq kvs)
 |.uE,x,g=>∃a kvs,x=.ref a/\g[a]?=some (.eO kvs)
 |.join,x,g=>∃y,x=.str y
 |.sH,x,g=>∃a S n,x=.ref a/\g[a]?=some (.set S n)
 |.index,x,g=>(∃l,x=.tup l)\/∃a l,x=.ref a/\c8 g a=some l
 |_,x,g=>∃a l,x=.ref a/\c8 g a=some l
inductive IK where
 |fix (l:List D)|lst (a:Nat)|qc (a:Nat)|Ca (a n:Nat)
def IK.at:IK->Nat->G->Option (Option D)
 |.fix l,i,_=>some l[i]?
 |.lst a,i,g=>match c8 g a with
  |some l=>some l[i]?
  |none=>none
 |.qc a,i,g=>match c8 g a with
  |some l=>some (l[i]?.map λd=>.tup [.int i,d])
  |none=>none
 |.Ca a n,i,g=>match c8 g a with
  |some l=>if l.length=n then some (if i<n then l[n-1-i]? else none) else none
  |none=>none
inductive MT where
 |one (i:Nat)|many (is:List Nat)
def K6:List Nat->List D->S->Option S
 |[],[],Z=>some Z
 |i::is,d::ds,Z=>K6 is ds (Z.set i (some d))
 |_,_,_=>none
def jl(t:MT)(x:D)(Z:S)(k:S->Prop):Prop:=match t with
 |.one i=>k (Z.set i (some x))
 |.many is=>∃l cb,x=.tup l/\K6 is l Z=some cb/\k cb
set_option genInjectivity false in
set_option genSizeOf false in
inductive ME where
 |var (i:Nat)|lit (d:D)
 |nil|cons (a b:ME)|prim (p:Pr) (es:ME)|eI (p:Pr) (o es:ME)
 |chain (o1 o2:CmpOp) (a b c:ME)
 |dI (a b:ME)|jm (a b:ME)|dQ (a:ME)|ite (c a b:ME)
 |call (f:Nat) (es:ME)|make (c:Str) (f:Nat) (es:ME)
 |comp (d7:List Nat) (n:Nat) (tg:MT) (it cond elt:ME)|jv (d7:List Nat) (n:Nat) (tg:MT) (it cond elt:ME)
 |gL (e:ME)|eK (a:ME)|jB (a b:ME)|kG (e:ME)|qT (e:ME)|fh (e:ME)|no
noncomputable abbrev eT:=Nat->List D->G->KD->KX->Prop
def C8(Z:S)(d7:List Nat)(n:Nat):S:=d7.map (λj=>(Z[j]?).join)++List.replicate (n-d7.length) none
def turns(k:IK)(Z:S)(g:G)(fin:S->G->Prop)(turn:D->(S->G->Prop)->S->G->Prop):Prop :=
 ∃W:Nat->Nat->S->G->Prop,(∃m,W 0 m Z g)/\∀i m Z g,W i m Z g->(k.at i g=some none/\fin Z g)\/∃x,k.at i g=some (some x)/\∃N2:S->G->Prop,(∀cb g',N2 cb g'->∃m',m'<m/\W (i+1) m' cb g')/\turn x N2 Z g
def zT(k:IK)(Z:S)(g:G)(fin:List D->G->Prop)(turn:D->(Option D->S->G->Prop)->S->G->Prop):Prop :=
 ∃W:Nat->Nat->List D->S->G->Prop,(∃m,W 0 m [] Z g)/\∀i m ys Z g,W i m ys Z g->(k.at i g=some none/\fin ys g) \/
  ∃x,k.at i g=some (some x)/\ys.length<100000/\turn x (λy cb g'=>∃m',m'<m/\W (i+1) m' (ys++y.toList) cb g') Z g
def zU(k:IK)(Z:S)(g:G)(fin:List Int->G->Prop)(turn:D->(Option Int->S->G->Prop)->S->G->Prop):Prop :=
 ∃W:Nat->Nat->List Int->S->G->Prop,(∃m,W 0 m [] Z g)/\∀i m ys Z g,W i m ys Z g->(k.at i g=some none/\ys.length<60/\fin ys g) \/
  ∃x,k.at i g=some (some x)/\ys.length<60/\turn x (λy cb g'=>∃m',m'<m/\W (i+1) m' (ys++y.toList) cb g') Z g
mutual
noncomputable def aS(P:eT):ME->S->G->KD->KX->Prop
 |.var i,Z,g,Q,_=>∃d,Z[i]?=some (some d)/\Q d g
 |.lit d,_,g,Q,_=>Q d g
 |.prim p es,Z,g,Q,E=>fT P es Z g (λxs g1=>cI p xs g1 Q) E
 |.eI p o es,Z,g,Q,E=>aS P o Z g (λx g1=>kZ p x g1/\fT P es Z g1 (λxs g2=>cI p (x::xs) g2 Q) E) E
 |.chain o1 o2 a b c,Z,g,Q,E=>aS P a Z g (λx g1=>aS P b Z g1 (λy g2=>cI (.cmp o1) [x,y] g2 λz g3=>∃t,z=.bl t/\if t=true then aS P c Z g3 (λw g4=>cI (.cmp o2) [y,w] g4 Q) E else Q (.bl false) g3) E) E
 |.dI a b,Z,g,Q,E=>aS P a Z g (λx g1=>∃t,x=.bl t/\if t=true then aS P b Z g1 Q E else Q (.bl false) g1) E
 |.jm a b,Z,g,Q,E=>aS P a Z g (λx g1=>∃t,x=.bl t/\if t=true then Q (.bl true) g1 else aS P b Z g1 Q E) E
 |.dQ a,Z,g,Q,E=>aS P a Z g (λx g1=>∃t,x=.bl t/\Q (.bl (!t)) g1) E
 |.ite c a b,Z,g,Q,E=>dG P c Z g (λt g1=>if t=true then aS P a Z g1 Q E else aS P b Z g1 Q E) E
 |.call f es,Z,g,Q,E=>fT P es Z g (λxs g1=>P f xs g1 Q E) E
 |.make c f es,Z,g,Q,E=>fT P es Z g (λxs g1=>P f (.ref g1.length::xs) (g1++[.ins c []]) (λd g2=>d=.bq/\Q (.ref g1.length) g2) E) E
 |.comp d7 n tg it cond elt,Z,g,Q,E=>gT P it Z g (λk g1=>zT k (C8 Z d7 n) g1 (λys g=>Q (.ref g.length) (g++[.lst ys])) λx N Z g=>jl tg x Z λcS=>dG P cond cS g (λb g3=>if b=true then aS P elt cS g3 (λy g4=>N (some y) cS g4) ja else N none cS g3) ja) E
 |.jv d7 n tg it cond elt,Z,g,Q,E=>gT P it Z g (λk g1=>zU k (C8 Z d7 n) g1 (λys g=>Q (.ref g.length) (g++[.lst ((L9 ys).map .int)])) λx N Z g=>jl tg x Z λcS=>dG P cond cS g (λb g3=>if b=true then aS P elt cS g3 (λy g4=>∃j,y=.int j/\N (some j) cS g4) ja else N none cS g3) ja) E
 |.nil,_,_,_,_=>False
 |.cons _ _,_,_,_,_=>False
 |.gL _,_,_,_,_=>False
 |.eK _,_,_,_,_=>False
 |.jB _ _,_,_,_,_=>False
 |.kG _,_,_,_,_=>False
 |.qT _,_,_,_,_=>False
 |.fh _,_,_,_,_=>False
 |.no,_,_,_,_=>False
noncomputable def fT(P:eT):ME->S->G->(List D->G->Prop)->KX->Prop
 |.nil,_,g,Q,_=>Q [] g
 |.cons a b,Z,g,Q,E=>aS P a Z g (λx g1=>fT P b Z g1 (λxs g2=>Q (x::xs) g2) E) E
 |_,_,_,_,_=>False
noncomputable def dG(P:eT):ME->S->G->(Bool->G->Prop)->KX->Prop
 |.dI a b,Z,g,Q,E=>dG P a Z g (λt g1=>if t=true then dG P b Z g1 Q E else Q false g1) E
 |.jm a b,Z,g,Q,E=>dG P a Z g (λt g1=>if t=true then Q true g1 else dG P b Z g1 Q E) E
 |.dQ a,Z,g,Q,E=>dG P a Z g (λt g1=>Q (!t) g1) E
 |.no,_,g,Q,_=>Q true g
 |.fh e,Z,g,Q,E=>aS P e Z g (λx g1=>V7 g1 x λb=>Q b g1) E
 |_,_,_,_,_=>False
noncomputable def gT(P:eT):ME->S->G->(IK->G->Prop)->KX->Prop
 |.gL e,Z,g,R,E=>aS P e Z g (λx g1=>(∃l,x=.tup l/\R (.fix l) g1)\/∃a l,x=.ref a/\c8 g1 a=some l/\R (.lst a) g1) E
 |.eK a,Z,g,R,E=>aS P a Z g (λx g1=>∃j:Int,x=.int j/\-(2 ^ 62)<=j/\j<2 ^ 62/\R (.fix (k6 0 j.toNat)) g1) E
 |.jB a b,Z,g,R,E=>aS P a Z g (λx g1=>aS P b Z g1 (λy g2=>∃i j:Int,x=.int i/\y=.int j/\(-(2 ^ 62)<=i/\i<2 ^ 62/\-(2 ^ 62)<=j/\j<2 ^ 62)/\R (.fix (k6 i (j-i).toNat)) g2) E) E
 |.kG e,Z,g,R,E=>aS P e Z g (λx g1=>∃a l,x=.ref a/\c8 g1 a=some l/\R (.qc a) g1) E
 |.qT e,Z,g,R,E=>aS P e Z g (λx g1=>∃a l,x=.ref a/\c8 g1 a=some l/\R (.Ca a l.length) g1) E
 |_,_,_,_,_=>False
end
set_option genInjectivity false in
set_option genSizeOf false in
inductive MS where
 |pass|seq (a b:MS)|expr (e:ME)|set (i:Nat) (e:ME)|ni (t:MT) (e:ME)|eM (o i v:ME)|nu (f:Str) (cs:List Str) (o v:ME)
 |uM (i:Nat) (p:Pr) (v:ME)|vz (o1 i1 o2 i2 e:ME)
 |ifs (c:ME) (a b:MS)|fE (t:MT) (it:ME) (b:MS)|sk (c:ME) (b:MS)|ret (e:ME)|pE|brk|cont
 |raise (x:Str) (es:ME)|S6 (b:MS) (hs:List (Str×ME))
structure Ends where
 nx:S->G->Prop
 rt:KD
 bk:S->G->Prop:=λ_ _=>False
 ct:S->G->Prop:=λ_ _=>False
def ky(P:eT)(N:Ends)(Z:S)(E:KX):List (Str×ME)->KX
 |[],x,g=>E x g
 |(y,e)::r,x,g=>if x.cls=y\/y="MintError" then aS P e Z g N.rt ja else ky P N Z E r x g
def wpS(P:eT):MS->Ends->S->G->KX->Prop
 |.pass,N,Z,g,_=>N.nx Z g
 |.seq a b,N,Z,g,E=>wpS P a { N with nx:=λiM g1=>wpS P b N iM g1 E } Z g E
 |.expr e,N,Z,g,E=>aS P e Z g (λ_ g1=>N.nx Z g1) E
 |.set i e,N,Z,g,E=>aS P e Z g (λx g1=>N.nx (Z.set i (some x)) g1) E
 |.ni t e,N,Z,g,E=>aS P e Z g (λx g1=>jl t x Z λiM=>N.nx iM g1) E
 |.eM o i v,N,Z,g,E=>aS P v Z g (λx g1=>aS P o Z g1 (λy g2=>aS P i Z g2 (λz g3=>T1 y z x g3 λg4=>N.nx Z g4) E) E) E
 |.nu f cs o v,N,Z,g,E=>aS P v Z g (λx g1=>aS P o Z g1 (λy g2=>Bc f cs y x g2 λg3=>N.nx Z g3) E) E
 |.vz o1 i1 o2 i2 e,N,Z,g,E=>aS P e Z g (λx g1=>∃u v,x=.tup [u,v]/\aS P o1 Z g1 (λy1 g2=>aS P i1 Z g2 (λz1 g3=>T1 y1 z1 u g3 λg4=>aS P o2 Z g4 (λy2 g5=>aS P i2 Z g5 (λz2 g6=>T1 y2 z2 v g6 λg7=>N.nx Z g7) E) E) E) E) E
 |.uM i p v,N,Z,g,E=>∃x,Z[i]?=some (some x)/\aS P v Z g (λz g1=>cI p [x,z] g1 λw g2=>N.nx (Z.set i (some w)) g2) E
 |.ifs c a b,N,Z,g,E=>dG P c Z g (λt g1=>if t=true then wpS P a N Z g1 E else wpS P b N Z g1 E) E
 |.fE t it b,N,Z,g,E=>gT P it Z g (λk g1=>turns k Z g1 N.nx λx N2 Z g=>jl t x Z λcS=>wpS P b { N with nx:=N2,ct:=N2,bk:=N.nx } cS g E) E
 |.sk c b,N,Z,g,E=>∃W:Nat->S->G->Prop,(∃m,W m Z g)/\∀m Z g,W m Z g->dG P c Z g (λt g1=>if t=true then ∃N2:S->G->Prop,(∀cb g',N2 cb g'->∃m',m'<m/\W m' cb g')/\wpS P b { N with nx:=N2,ct:=N2,bk:=N.nx } Z g1 E else N.nx Z g1) E
 |.ret e,N,Z,g,E=>aS P e Z g N.rt E
 |.pE,N,_,g,_=>N.rt .bq g
 |.brk,N,Z,g,_=>N.bk Z g
 |.cont,N,Z,g,_=>N.ct Z g
 |.raise x es,_,Z,g,E=>fT P es Z g (λvs g1=>vs.length<=1000/\E ⟨x⟩ g1) E
 |.S6 b hs,N,Z,g,E=>wpS P b N Z g (ky P N (Z.map λ_=>none) E hs)
structure bj where
 ar:Nat
 n:Nat
 body:MS
def d4(m:bj)(ds:List D):S:=ds.map some++List.replicate (m.n-ds.length) none
def b9(T:Nat->Option bj):Nat->eT
 |0,_,_,_,_,_=>False
 |k+1,f,ds,g,Q,E=>∃m,T f=some m/\ds.length=m.ar/\wpS (b9 T k) m.body ⟨λ_ g'=>Q .bq g',Q,λ_ _=>False,λ_ _=>False⟩ (d4 m ds) g E
end M
namespace M
open PySem L2
variable{g:G}{K:PySem.W.Frag}{H:Hp}{a p:Addr}{vs:List V}{i:Nat}{m:DX}{o:O}{u:HO}
theorem o5{p xs}{Q Q':KD}(h:∀d g,Q d g->Q' d g)(q:cI p xs g Q):cI p xs g Q':=by
 obtain⟨d,g',a,b⟩:=q;exact⟨d,g',a,h _ _ b⟩
theorem Wk{x}{k k':Bool->Prop}(h:∀b,k b->k' b)(q:V7 g x k):V7 g x k':=by
 obtain⟨b,a,z⟩:=q;exact⟨b,a,h _ z⟩
theorem O6{x y v}{k k':G->Prop}(h:∀g,k g->k' g)(q:T1 x y v g k):T1 x y v g k':=by
 obtain⟨b,a,z⟩:=q;exact⟨b,a,h _ z⟩
theorem WX{f cs x v}{k k':G->Prop}(h:∀g,k g->k' g)(q:Bc f cs x v g k):Bc f cs x v g k':=by
 obtain⟨b,a,z⟩:=q;exact⟨b,a,h _ z⟩
theorem w9{t x Z}{k k':S->Prop}(h:∀Z,k Z->k' Z)(q:jl t x Z k):jl t x Z k':=by
 cases t with
 |one i=>exact h _ q
 |many is=>obtain⟨l,cb,a,b,c⟩:=q;exact⟨l,cb,a,b,h _ c⟩
theorem Xc{k Z g}{fin jD:S->G->Prop}{turn gI:D->(S->G->Prop)->S->G->Prop}(h:∀Z g,fin Z g->jD Z g)(h2:∀x N Z g,turn x N Z g->gI x N Z g)(q:turns k Z g fin turn):turns k Z g jD gI:=by
 obtain⟨W,w0,q⟩:=q;refine⟨W,w0,λi m Z g w=>?_⟩;rcases q i m Z g w with⟨a,b⟩|⟨x,a,N2,b,c⟩
 ·exact .inl ⟨a,h _ _ b⟩
 ·exact .inr ⟨x,a,N2,b,h2 _ _ _ _ c⟩
theorem SI{k Z g}{fin jD:List D->G->Prop}{turn gI:D->(Option D->S->G->Prop)->S->G->Prop}(h:∀ys g,fin ys g->jD ys g)(h2:∀x N Z g,turn x N Z g->gI x N Z g)(q:zT k Z g fin turn):zT k Z g jD gI:=by
 obtain⟨W,w0,q⟩:=q;refine⟨W,w0,λi m ys Z g w=>?_⟩;rcases q i m ys Z g w with⟨a,b⟩|⟨x,a,b,c⟩
 ·exact .inl ⟨a,h _ _ b⟩
 ·exact .inr ⟨x,a,b,h2 _ _ _ _ c⟩
theorem SJ{k Z g}{fin jD:List Int->G->Prop}{turn gI:D->(Option Int->S->G->Prop)->S->G->Prop}(h:∀ys g,fin ys g->jD ys g)(h2:∀x N Z g,turn x N Z g->gI x N Z g)(q:zU k Z g fin turn):zU k Z g jD gI:=by
 obtain⟨W,w0,q⟩:=q;refine⟨W,w0,λi m ys Z g w=>?_⟩;rcases q i m ys Z g w with⟨a,b,c⟩|⟨x,a,b,c⟩
 ·exact .inl ⟨a,b,h _ _ c⟩
 ·exact .inr ⟨x,a,b,h2 _ _ _ _ c⟩
theorem B1{t:Bool}{A B A' B':Prop}(h1:A->A')(h2:B->B')(q:if t=true then A else B):if t=true then A' else B':=by
 cases t
 ·exact h2 q
 ·exact h1 q
def i4(P:eT):Prop:=∀f xs g Q Q' E E',(∀d g,Q d g->Q' d g)->(∀x g,E x g->E' x g)->P f xs g Q E->P f xs g Q' E'
mutual
theorem b7{P:eT}(hP:i4 P):∀(e:ME) (Z:S) (g:G) (Q Q':KD) (E E':KX),(∀d g,Q d g->Q' d g)->(∀x g,E x g->E' x g)->aS P e Z g Q E->aS P e Z g Q' E'
 |.var i,Z,g,Q,Q',E,E',h,hx,q=>by
  obtain⟨d,a,b⟩:=q;exact⟨d,a,h _ _ b⟩
 |.lit d,Z,g,Q,Q',E,E',h,hx,q=>by exact h _ _ q
 |.prim p es,Z,g,Q,Q',E,E',h,hx,q=>by
  exact C9 hP es _ _ _ _ _ _ (λxs g1 q=>o5 h q) hx q
 |.eI p o es,Z,g,Q,Q',E,E',h,hx,q=>by
  exact b7 hP o _ _ _ _ _ _ (λx g1 q=>⟨q.1,C9 hP es _ _ _ _ _ _ (λxs g2 q=>o5 h q) hx q.2⟩) hx q
 |.chain o1 o2 a b c,Z,g,Q,Q',E,E',h,hx,q=>by
  refine b7 hP a _ _ _ _ _ _ (λx g1 q=>b7 hP b _ _ _ _ _ _ (λy g2 q=>o5 (λz g3 q=>?_) q) hx q) hx q;obtain⟨t,e,q⟩:=q;exact⟨t,e,B1 (λq=>b7 hP c _ _ _ _ _ _ (λw g4 q=>o5 h q) hx q) (h _ _) q⟩
 |.dI a b,Z,g,Q,Q',E,E',h,hx,q=>by
  refine b7 hP a _ _ _ _ _ _ (λx g1 q=>?_) hx q;obtain⟨t,e,q⟩:=q;exact⟨t,e,B1 (λq=>b7 hP b _ _ _ _ _ _ h hx q) (h _ _) q⟩
 |.jm a b,Z,g,Q,Q',E,E',h,hx,q=>by
  refine b7 hP a _ _ _ _ _ _ (λx g1 q=>?_) hx q;obtain⟨t,e,q⟩:=q;exact⟨t,e,B1 (h _ _) (λq=>b7 hP b _ _ _ _ _ _ h hx q) q⟩
 |.dQ a,Z,g,Q,Q',E,E',h,hx,q=>by
  refine b7 hP a _ _ _ _ _ _ (λx g1 q=>?_) hx q;obtain⟨t,e,q⟩:=q;exact⟨t,e,h _ _ q⟩
 |.ite c a b,Z,g,Q,Q',E,E',h,hx,q=>by
  exact o7 hP c _ _ _ _ _ _ (λt g1 q=>B1 (λq=>b7 hP a _ _ _ _ _ _ h hx q) (λq=>b7 hP b _ _ _ _ _ _ h hx q) q) hx q
 |.call f es,Z,g,Q,Q',E,E',h,hx,q=>by
  exact C9 hP es _ _ _ _ _ _ (λxs g1 q=>hP _ _ _ _ _ _ _ h hx q) hx q
 |.make c f es,Z,g,Q,Q',E,E',h,hx,q=>by
  exact C9 hP es _ _ _ _ _ _ (λxs g1 q=>hP _ _ _ _ _ _ _ (λd g2 q=>⟨q.1,h _ _ q.2⟩) hx q) hx q
 |.comp d7 n tg it cond elt,Z,g,Q,Q',E,E',h,hx,q=>by
  exact A7 hP it _ _ _ _ _ _ (λk g1 q=>SI (λys g q=>h _ _ q) (λ_ _ _ _ q=>q) q) hx q
 |.jv d7 n tg it cond elt,Z,g,Q,Q',E,E',h,hx,q=>by
  exact A7 hP it _ _ _ _ _ _ (λk g1 q=>SJ (λys g q=>h _ _ q) (λ_ _ _ _ q=>q) q) hx q
 |.nil,Z,g,Q,Q',E,E',h,hx,q=>(show False from q).elim
 |.cons _ _,Z,g,Q,Q',E,E',h,hx,q=>(show False from q).elim
 |.gL _,Z,g,Q,Q',E,E',h,hx,q=>(show False from q).elim
 |.eK _,Z,g,Q,Q',E,E',h,hx,q=>(show False from q).elim
 |.jB _ _,Z,g,Q,Q',E,E',h,hx,q=>(show False from q).elim
 |.kG _,Z,g,Q,Q',E,E',h,hx,q|.qT _,Z,g,Q,Q',E,E',h,hx,q=>(show False from q).elim
 |.fh _,Z,g,Q,Q',E,E',h,hx,q=>(show False from q).elim
 |.no,Z,g,Q,Q',E,E',h,hx,q=>(show False from q).elim
theorem C9{P:eT}(hP:i4 P):∀(e:ME) (Z:S) (g:G) (Q Q':List D->G->Prop) (E E':KX),(∀d g,Q d g->Q' d g)->(∀x g,E x g->E' x g)->fT P e Z g Q E->fT P e Z g Q' E'
 |.nil,Z,g,Q,Q',E,E',h,hx,q=>by exact h _ _ q
 |.cons a b,Z,g,Q,Q',E,E',h,hx,q=>by
  exact b7 hP a _ _ _ _ _ _ (λx g1 q=>C9 hP b _ _ _ _ _ _ (λxs g2 q=>h _ _ q) hx q) hx q
 |.var _,Z,g,Q,Q',E,E',h,hx,q|.lit _,Z,g,Q,Q',E,E',h,hx,q|.prim _ _,Z,g,Q,Q',E,E',h,hx,q|.eI _ _ _,Z,g,Q,Q',E,E',h,hx,q|.chain _ _ _ _ _,Z,g,Q,Q',E,E',h,hx,q|.dI _ _,Z,g,Q,Q',E,E',h,hx,q|.jm _ _,Z,g,Q,Q',E,E',h,hx,q|.dQ _,Z,g,Q,Q',E,E',h,hx,q|.ite _ _ _,Z,g,Q,Q',E,E',h,hx,q|.call _ _,Z,g,Q,Q',E,E',h,hx,q
 |.make _ _ _,Z,g,Q,Q',E,E',h,hx,q|.comp _ _ _ _ _ _,Z,g,Q,Q',E,E',h,hx,q|.jv _ _ _ _ _ _,Z,g,Q,Q',E,E',h,hx,q|.gL _,Z,g,Q,Q',E,E',h,hx,q|.eK _,Z,g,Q,Q',E,E',h,hx,q|.jB _ _,Z,g,Q,Q',E,E',h,hx,q|.kG _,Z,g,Q,Q',E,E',h,hx,q|.qT _,Z,g,Q,Q',E,E',h,hx,q|.fh _,Z,g,Q,Q',E,E',h,hx,q|.no,Z,g,Q,Q',E,E',h,hx,q=>(show False from q).elim
theorem o7{P:eT}(hP:i4 P):∀(e:ME) (Z:S) (g:G) (Q Q':Bool->G->Prop) (E E':KX),(∀d g,Q d g->Q' d g)->(∀x g,E x g->E' x g)->dG P e Z g Q E->dG P e Z g Q' E'
 |.dI a b,Z,g,Q,Q',E,E',h,hx,q=>by
  exact o7 hP a _ _ _ _ _ _ (λt g1 q=>B1 (λq=>o7 hP b _ _ _ _ _ _ h hx q) (h _ _) q) hx q
 |.jm a b,Z,g,Q,Q',E,E',h,hx,q=>by
  exact o7 hP a _ _ _ _ _ _ (λt g1 q=>B1 (h _ _) (λq=>o7 hP b _ _ _ _ _ _ h hx q) q) hx q
 |.dQ a,Z,g,Q,Q',E,E',h,hx,q=>by exact o7 hP a _ _ _ _ _ _ (λt g1 q=>h _ _ q) hx q
 |.no,Z,g,Q,Q',E,E',h,hx,q=>by exact h _ _ q
 |.fh e,Z,g,Q,Q',E,E',h,hx,q=>by exact b7 hP e _ _ _ _ _ _ (λx g1 q=>Wk (λb q=>h _ _ q) q) hx q
 |.var _,Z,g,Q,Q',E,E',h,hx,q|.lit _,Z,g,Q,Q',E,E',h,hx,q|.prim _ _,Z,g,Q,Q',E,E',h,hx,q|.eI _ _ _,Z,g,Q,Q',E,E',h,hx,q|.chain _ _ _ _ _,Z,g,Q,Q',E,E',h,hx,q|.ite _ _ _,Z,g,Q,Q',E,E',h,hx,q|.call _ _,Z,g,Q,Q',E,E',h,hx,q|.nil,Z,g,Q,Q',E,E',h,hx,q|.cons _ _,Z,g,Q,Q',E,E',h,hx,q
 |.make _ _ _,Z,g,Q,Q',E,E',h,hx,q|.comp _ _ _ _ _ _,Z,g,Q,Q',E,E',h,hx,q|.jv _ _ _ _ _ _,Z,g,Q,Q',E,E',h,hx,q|.gL _,Z,g,Q,Q',E,E',h,hx,q|.eK _,Z,g,Q,Q',E,E',h,hx,q|.jB _ _,Z,g,Q,Q',E,E',h,hx,q|.kG _,Z,g,Q,Q',E,E',h,hx,q|.qT _,Z,g,Q,Q',E,E',h,hx,q=>(show False from q).elim
theorem A7{P:eT}(hP:i4 P):∀(e:ME) (Z:S) (g:G) (Q Q':IK->G->Prop) (E E':KX),(∀d g,Q d g->Q' d g)->(∀x g,E x g->E' x g)->gT P e Z g Q E->gT P e Z g Q' E'
 |.gL e,Z,g,Q,Q',E,E',h,hx,q=>by
  exact b7 hP e _ _ _ _ _ _ (λx g1 q=>q.imp (λ⟨l,a,b⟩=>⟨l,a,h _ _ b⟩) λ⟨i,l,a,b,c⟩=>⟨i,l,a,b,h _ _ c⟩) hx q
 |.eK a,Z,g,Q,Q',E,E',h,hx,q=>by
  exact b7 hP a _ _ _ _ _ _ (λx g1 ⟨j,a,b,c,d⟩=>⟨j,a,b,c,h _ _ d⟩) hx q
 |.jB a b,Z,g,Q,Q',E,E',h,hx,q=>by
  exact b7 hP a _ _ _ _ _ _ (λx g1 q=>b7 hP b _ _ _ _ _ _ (λy g2 ⟨i,j,a,b,c,d⟩=>⟨i,j,a,b,c,h _ _ d⟩) hx q) hx q
 |.kG e,Z,g,Q,Q',E,E',h,hx,q=>by
  exact b7 hP e _ _ _ _ _ _ (λx g1 ⟨i,l,a,b,c⟩=>⟨i,l,a,b,h _ _ c⟩) hx q
 |.qT e,Z,g,Q,Q',E,E',h,hx,q=>by
  exact b7 hP e _ _ _ _ _ _ (λx g1 ⟨i,l,a,b,c⟩=>⟨i,l,a,b,h _ _ c⟩) hx q
 |.var _,Z,g,Q,Q',E,E',h,hx,q|.lit _,Z,g,Q,Q',E,E',h,hx,q|.prim _ _,Z,g,Q,Q',E,E',h,hx,q|.eI _ _ _,Z,g,Q,Q',E,E',h,hx,q|.chain _ _ _ _ _,Z,g,Q,Q',E,E',h,hx,q|.ite _ _ _,Z,g,Q,Q',E,E',h,hx,q|.call _ _,Z,g,Q,Q',E,E',h,hx,q|.nil,Z,g,Q,Q',E,E',h,hx,q|.cons _ _,Z,g,Q,Q',E,E',h,hx,q
 |.dI _ _,Z,g,Q,Q',E,E',h,hx,q|.jm _ _,Z,g,Q,Q',E,E',h,hx,q|.dQ _,Z,g,Q,Q',E,E',h,hx,q|.fh _,Z,g,Q,Q',E,E',h,hx,q|.no,Z,g,Q,Q',E,E',h,hx,q
 |.make _ _ _,Z,g,Q,Q',E,E',h,hx,q|.comp _ _ _ _ _ _,Z,g,Q,Q',E,E',h,hx,q|.jv _ _ _ _ _ _,Z,g,Q,Q',E,E',h,hx,q=>(show False from q).elim
end
structure Ends.le(N N':Ends):Prop where
 nx:∀Z g,N.nx Z g->N'.nx Z g
 rt:∀d g,N.rt d g->N'.rt d g
 bk:∀Z g,N.bk Z g->N'.bk Z g
 ct:∀Z g,N.ct Z g->N'.ct Z g
theorem Fm{P:eT}(hP:i4 P){N N':Ends}{E E':KX}(h:N.le N')(hx:∀x g,E x g->E' x g){Z:S}:∀(hs:List (Str×ME)) x g,ky P N Z E hs x g->ky P N' Z E' hs x g
 |[],x,g,q=>hx x g q
 |(y,e)::r,x,g,q=>by
  unfold ky at q ⊢;split
  ·rename_i hh;rw[aJ hh] at q;exact b7 hP e _ _ _ _ _ _ h.rt (λ_ _ z=>z) q
  ·rename_i hh;rw[aB hh] at q;exact Fm hP h hx r x g q
theorem wpS_mono{P:eT}(hP:i4 P):∀(s:MS) (N N':Ends) (Z:S) (g:G) (E E':KX),N.le N'->(∀x g,E x g->E' x g)->wpS P s N Z g E->wpS P s N' Z g E'
 |.pass,N,N',Z,g,E,E',h,hx,q=>h.nx _ _ q
 |.seq a b,N,N',Z,g,E,E',h,hx,q=>wpS_mono hP a { N with nx:=λiM g1=>wpS P b N iM g1 E } { N' with nx:=λiM g1=>wpS P b N' iM g1 E' } _ _ _ _ ⟨λiM g1 q=>wpS_mono hP b _ _ _ _ _ _ h hx q,h.rt,h.bk,h.ct⟩ hx q
 |.expr e,N,N',Z,g,E,E',h,hx,q=>b7 hP e _ _ _ _ _ _ (λx g1 q=>h.nx _ _ q) hx q
 |.set i e,N,N',Z,g,E,E',h,hx,q=>b7 hP e _ _ _ _ _ _ (λx g1 q=>h.nx _ _ q) hx q
 |.ni t e,N,N',Z,g,E,E',h,hx,q=>b7 hP e _ _ _ _ _ _ (λx g1 q=>w9 (λZ q=>h.nx _ _ q) q) hx q
 |.eM o i v,N,N',Z,g,E,E',h,hx,q=>b7 hP v _ _ _ _ _ _ (λx g1 q=>b7 hP o _ _ _ _ _ _ (λy g2 q=>b7 hP i _ _ _ _ _ _ (λz g3 q=>O6 (λg q=>h.nx _ _ q) q) hx q) hx q) hx q
 |.nu f cs o v,N,N',Z,g,E,E',h,hx,q=>b7 hP v _ _ _ _ _ _ (λx g1 q=>b7 hP o _ _ _ _ _ _ (λy g2 q=>WX (λg q=>h.nx _ _ q) q) hx q) hx q
 |.vz o1 i1 o2 i2 e,N,N',Z,g,E,E',h,hx,q=>b7 hP e _ _ _ _ _ _ (λx g1 q=>let ⟨u,v,q1,q⟩:=q;⟨u,v,q1,b7 hP o1 _ _ _ _ _ _ (λy g2 q=>b7 hP i1 _ _ _ _ _ _ (λz g3 q=>O6 (λg4 q=>b7 hP o2 _ _ _ _ _ _ (λy g5 q=>b7 hP i2 _ _ _ _ _ _ (λz g6 q=>O6 (λg q=>h.nx _ _ q) q) hx q) hx q) q) hx q) hx q⟩) hx q
 |.uM i p v,N,N',Z,g,E,E',h,hx,q=>let ⟨x,q1,q⟩:=q;⟨x,q1,b7 hP v _ _ _ _ _ _ (λz g1 q=>o5 (λw g2 q=>h.nx _ _ q) q) hx q⟩
 |.ifs c a b,N,N',Z,g,E,E',h,hx,q=>o7 hP c _ _ _ _ _ _ (λt g1 q=>B1 (λq=>wpS_mono hP a _ _ _ _ _ _ h hx q) (λq=>wpS_mono hP b _ _ _ _ _ _ h hx q) q) hx q
 |.fE t it b,N,N',Z,g,E,E',h,hx,q=>A7 hP it _ _ _ _ _ _ (λk g1 q=>Xc h.nx (λx N2 Z g q=>w9 (λcS q=>wpS_mono hP b { N with nx:=N2,ct:=N2,bk:=N.nx } { N' with nx:=N2,ct:=N2,bk:=N'.nx } _ _ _ _ ⟨λ_ _ z=>z,h.rt,h.nx,λ_ _ z=>z⟩ hx q) q) q) hx q
 |.sk c b,N,N',Z,g,E,E',h,hx,q=>by
  obtain⟨W,w0,q⟩:=q;refine⟨W,w0,λm Z g w=>o7 hP c _ _ _ _ _ _ (λt g1 q=>B1 (λq=>?_) (h.nx _ _) q) hx (q m Z g w)⟩;obtain⟨N2,a,q⟩:=q;exact⟨N2,a,wpS_mono hP b { N with nx:=N2,ct:=N2,bk:=N.nx } { N' with nx:=N2,ct:=N2,bk:=N'.nx } _ _ _ _ ⟨λ_ _ z=>z,h.rt,h.nx,λ_ _ z=>z⟩ hx q⟩
 |.ret e,N,N',Z,g,E,E',h,hx,q=>b7 hP e _ _ _ _ _ _ h.rt hx q
 |.pE,N,N',Z,g,E,E',h,hx,q=>h.rt _ _ q
 |.brk,N,N',Z,g,E,E',h,hx,q=>h.bk _ _ q
 |.cont,N,N',Z,g,E,E',h,hx,q=>h.ct _ _ q
 |.raise x es,N,N',Z,g,E,E',h,hx,q=>C9 hP es _ _ _ _ _ _ (λvs g1 q=>⟨q.1,hx _ _ q.2⟩) hx q
 |.S6 b hs,N,N',Z,g,E,E',h,hx,q=>wpS_mono hP b _ _ _ _ _ _ h (λx g q=>Fm hP h hx hs x g q) q
theorem a9(T:Nat->Option bj):∀k,i4 (b9 T k)
 |0=>λf xs g Q Q' E E' h hx q=>q.elim
 |k+1=>λf xs g Q Q' E E' h hx q=>by
  obtain⟨m,a,b,q⟩:=q;exact⟨m,a,b,wpS_mono (a9 T k) m.body ⟨λ_ g'=>Q .bq g',Q,λ_ _=>False,λ_ _=>False⟩ _ _ _ _ _ ⟨λ_ _ z=>h _ _ z,h,λ_ _ z=>z,λ_ _ z=>z⟩ hx q⟩
def TupAt(K:PySem.W.Frag)(H:Hp)(a:Addr)(vs:List V):Prop :=
 H a=some (.tup vs)\/∃(o:Obj) (aV:Array Value) (n:Nat),K.lookup a=some o/\o.cls=.type "tuple"/\o.dict=none/\o.data=.seq aV n/\aV.size<=sizeLine/\Vals vs aV.toList
theorem TupAt.d(h:TupAt K H a vs):Bp K H a vs:=h
theorem TupAt.sq{K:PySem.W.Frag}{H:Hp}{a:Addr}{vs:List V}(h:TupAt K H a vs):gM K H a vs:=h.d.sq
mutual
inductive c9(K:PySem.W.Frag)(ρ:List Addr)(H:Hp):D->V->Prop
 |bq:c9 K ρ H .bq .bq
 |bl (b:Bool):c9 K ρ H (.bl b) (.bl b)
 |int (i:Int):c9 K ρ H (.int i) (.int i)
 |str (x:Str):c9 K ρ H (.str x) (.str x)
 |ty (n:String):c9 K ρ H (.ty n) (.ty n)
 |ref {i:Nat} {a:Addr} (h:ρ[i]?=some a):c9 K ρ H (.ref i) (.ref a)
 |tup {l:List D} {a:Addr} {vs:List V} (h:TupAt K H a vs) (r:b0 K ρ H l vs):c9 K ρ H (.tup l) (.ref a)
inductive b0(K:PySem.W.Frag)(ρ:List Addr)(H:Hp):List D->List V->Prop
 |nil:b0 K ρ H [] []
 |cons {d:D} {v:V} {ds:List D} {vs:List V} (h:c9 K ρ H d v) (r:b0 K ρ H ds vs):b0 K ρ H (d::ds) (v::vs)
end
structure Ext(ρ:List Addr)(H:Hp)(bQ:List Addr)(H':Hp):Prop where
 pre:∃more,bQ=ρ++more
 tup:∀a xs,H a=some (.tup xs)->H' a=some (.tup xs)
theorem Ext.refl(ρ:List Addr)(H:Hp):Ext ρ H ρ H:=⟨⟨[],by simp⟩,λ_ _ h=>h⟩
theorem Ext.trans{ρ H bU H1 fc H2}(a:Ext ρ H bU H1)(b:Ext bU H1 fc H2):Ext ρ H fc H2:=by
 obtain⟨⟨m,rfl⟩,t⟩:=a;obtain⟨⟨m',rfl⟩,t'⟩:=b;exact⟨⟨m++m',by simp⟩,λx xs h=>t' _ _ (t _ _ h)⟩
theorem Ext.get{ρ H bQ H'}(e:Ext ρ H bQ H')(h:ρ[i]?=some a):bQ[i]?=some a:=by
 obtain⟨⟨m,rfl⟩,_⟩:=e;rw[aA (ay.mp h).1];exact h
theorem TupAt.ext{K ρ H bQ H'}(e:Ext ρ H bQ H')(h:TupAt K H a vs):TupAt K H' a vs:=h.elim (λz=>.inl (e.tup _ _ z)) .inr
mutual
theorem c9.ext{K ρ H bQ H'}(e:Ext ρ H bQ H'):∀{d v},c9 K ρ H d v->c9 K bQ H' d v
 |_,_,.bq=>.bq
 |_,_,.bl b=>.bl b
 |_,_,.int i=>.int i
 |_,_,.str x=>.str x
 |_,_,.ty n=>.ty n
 |_,_,.ref h=>.ref (e.get h)
 |_,_,.tup h r=>.tup (h.ext e) (b0.ext e r)
theorem b0.ext{K ρ H bQ H'}(e:Ext ρ H bQ H'):∀{ds vs},b0 K ρ H ds vs->b0 K bQ H' ds vs
 |_,_,.nil=>.nil
 |_,_,.cons h r=>.cons (c9.ext e h) (b0.ext e r)
end
theorem b0.length{K ρ H}{ds:List D}{vs:List V}(h:b0 K ρ H ds vs):ds.length=vs.length:=by
 induction ds generalizing vs with
 |nil=>cases h;rfl
 |cons d ds ih =>
  cases h with
  |cons q r=>simp[ih r]
theorem b0.get{K ρ H}:∀{ds vs} {i:Nat} {d:D},b0 K ρ H ds vs->ds[i]?=some d->∃v,vs[i]?=some v/\c9 K ρ H d v
 |_,_,_,_,.nil,h=>by simp at h
 |_,_,0,_,.cons h _,e=>by simp at e;subst e;exact⟨_,rfl,h⟩
 |_,_,i+1,d,.cons _ r,e=>by
  obtain⟨v,h1,h2⟩:=b0.get r (by simpa using e);exact⟨v,by simpa using h1,h2⟩
theorem b0.set{K ρ H}{d:D}{v:V}(h:c9 K ρ H d v):∀{ds vs} (i:Nat),b0 K ρ H ds vs->b0 K ρ H (ds.set i d) (vs.set i v)
 |_,_,_,.nil=>.nil
 |_,_,0,.cons _ r=>.cons h r
 |_,_,i+1,.cons q r=>.cons q (b0.set h i r)
theorem b0.append{K ρ H}{ds es:List D}{ws:List V}(h:b0 K ρ H ds vs)(s:b0 K ρ H es ws):b0 K ρ H (ds++es) (vs++ws):=by
 induction ds generalizing vs with
 |nil=>cases h;exact s
 |cons d ds ih =>
  cases h with
  |cons q r=>exact .cons q (ih r)
theorem b0.rep{K ρ H}{ds:List D}{vs:List V}(r:b0 K ρ H ds vs):∀n,b0 K ρ H (List.replicate n ds).flatten (List.replicate n vs).flatten
 |0=>.nil
 |n+1=>by
  exact b0.append r (b0.rep r n)
theorem b0.erase{K ρ H}:∀{ds:List D} {vs:List V} (i:Nat),b0 K ρ H ds vs->b0 K ρ H (ds.eraseIdx i) (vs.eraseIdx i)
 |_,_,_,.nil=>.nil
 |_,_,0,.cons _ r=>r
 |_,_,i+1,.cons q r=>.cons q (b0.erase i r)
theorem b0.take{K ρ H}:∀{ds:List D} {vs:List V} (n:Nat),b0 K ρ H ds vs->b0 K ρ H (ds.take n) (vs.take n)
 |_,_,0,_=>.nil
 |_,_,_+1,.nil=>.nil
 |_,_,n+1,.cons h r=>.cons h (b0.take n r)
theorem b0.drop{K ρ H}:∀{ds:List D} {vs:List V} (n:Nat),b0 K ρ H ds vs->b0 K ρ H (ds.drop n) (vs.drop n)
 |_,_,0,r=>r
 |_,_,_+1,.nil=>.nil
 |_,_,n+1,.cons _ r=>b0.drop n r
theorem b0.reverse{K ρ H}:∀{ds:List D} {vs:List V},b0 K ρ H ds vs->b0 K ρ H ds.reverse vs.reverse
 |_,_,.nil=>.nil
 |_,_,.cons h r=>by
  rw[fQ,fQ];exact b0.append (b0.reverse r) (.cons h .nil)
theorem b0.cut{K ρ H}{ds:List D}{vs:List V}(r:b0 K ρ H ds vs)(lo hi:Option Int):b0 K ρ H (M.cut ds lo hi) (uN vs lo hi):=by
 unfold M.cut uN;rw[r.length];exact(r.drop _).take _
theorem b0.ints{K ρ H}:∀{ns:List Int} {vs:List V},b0 K ρ H (ns.map D.int) vs->vs=ns.map V.int
 |[],_,.nil=>rfl
 |_::_,_,.cons h r=>by cases h;rw[b0.ints r];rfl
theorem b0.ofInts{K ρ H}:∀(ns:List Int),b0 K ρ H (ns.map D.int) (ns.map V.int)
 |[]=>.nil
 |n::r=>.cons (.int n) (b0.ofInts r)
def rO(K:PySem.W.Frag)(H:Hp)(a:Addr)(vs:List V):Prop :=
 (∃o,H a=some (.jh o (.lst vs)))\/∃(o:Obj) (aV:Array Value) (n:Nat),K.lookup a=some o/\o.cls=.type "list"/\o.dict=none/\o.data=.seq aV n/\aV.size<=sizeLine/\Vals vs aV.toList
theorem rO.sq(h:rO K H a vs):fu K H a vs:=h.elim (λ⟨o,z⟩=>.inl (.inr ⟨o,z⟩)) .inr
inductive f7{α:Type}(K:PySem.W.Frag)(ρ:List Addr)(H:Hp):List (α×D)->List (α×V)->Prop
 |nil:f7 K ρ H [] []
 |cons {k:α} {d:D} {v:V} {ds:List (α×D)} {vs:List (α×V)} (h:c9 K ρ H d v) (r:f7 K ρ H ds vs):f7 K ρ H ((k,d)::ds) ((k,v)::vs)
theorem f7.ext{α:Type}{K ρ H bQ H'}(e:Ext ρ H bQ H'){ds:List (α×D)}{vs:List (α×V)}(h:f7 K ρ H ds vs):f7 K bQ H' ds vs:=by
 induction h with
 |nil=>exact .nil
 |cons h r ih=>exact .cons (h.ext e) ih
theorem f7.drop{K ρ H}{ds:List (Key×D)}{vs:List (Key×V)}(k:Key)(h:f7 K ρ H ds vs):f7 K ρ H (delD ds k) (we vs k):=by
 unfold delD we
 induction h with
 |nil=>exact .nil
 |cons h r ih =>
  rw[eX,eX];split
  ·exact .cons h ih
  ·exact ih
theorem f7.get{α:Type}{K ρ H}{ds:List (α×D)}{vs:List (α×V)}(h:f7 K ρ H ds vs):∀{i:Nat} {k:α} {d:D},ds[i]?=some (k,d)->∃v,vs[i]?=some (k,v)/\c9 K ρ H d v:=by
 induction h with
 |nil=>intro i k d e;simp at e
 |cons h r ih =>
  intro i k d e;cases i with
  |zero=>simp at e;obtain⟨rfl,rfl⟩:=e;exact⟨_,rfl,h⟩
  |succ i=>simpa using ih (by simpa using e)
theorem f7.length{α:Type}{K ρ H}{ds:List (α×D)}{vs:List (α×V)}(h:f7 K ρ H ds vs):ds.length=vs.length:=by
 induction h with
 |nil=>rfl
 |cons h r ih=>simp[ih]
def P7(K:PySem.W.Frag)(ρ:List Addr)(H:Hp):Option D->Option V->Prop
 |some d,some v=>c9 K ρ H d v
 |none,none=>True
 |_,_=>False
theorem f7.val{K ρ H}:∀{ds vs} (k:Key),f7 K ρ H ds vs->P7 K ρ H (u3 ds k) (F2 vs k)
 |_,_,k,.nil=>trivial
 |_,_,k,.cons (k:=k') h r=>by
  unfold u3 F2;rw[bZ,bZ];by_cases e:k'=k
  ·simp only[e,decide_true];exact h
  ·simp only[e,decide_false];exact f7.val k r
theorem f7.Hv{K ρ H}:∀{ds vs} (k:Key),f7 K ρ H ds vs->(ds.any λkv=>decide (kv.1=k))=(vs.any λkv=>decide (kv.1=k))
 |_,_,k,.nil=>rfl
 |_,_,k,.cons h r=>by simp only[List.any_cons,f7.Hv k r]
theorem f7.snoc{K ρ H}{k:Key}{d:D}{v:V}(h:c9 K ρ H d v){ds vs}(t:f7 K ρ H ds vs):f7 K ρ H (ds++[(k,d)]) (vs++[(k,v)]):=by
 induction ds generalizing vs with
 |nil=>cases t;exact .cons h .nil
 |cons d ds ih =>
  cases t with
  |cons q r=>exact .cons q (ih r)
theorem f7.zO{K ρ H}{k:Key}{d:D}{v:V}(h:c9 K ρ H d v):∀{ds vs},f7 K ρ H ds vs->f7 K ρ H (ds.map λkv=>if kv.1=k then(kv.1,d) else kv) (vs.map λkv=>if kv.1=k then(kv.1,v) else kv)
 |_,_,.nil=>.nil
 |_,_,.cons (k:=k') q r=>by
  simp only[List.map_cons];by_cases e:k'=k
  ·rw[aJ e,aJ e];exact .cons h (f7.zO h r)
  ·rw[aB e,aB e];exact .cons q (f7.zO h r)
theorem f7.put{K ρ H}{k:Key}{d:D}{v:V}(h:c9 K ρ H d v){ds vs}(r:f7 K ρ H ds vs):f7 K ρ H (putD ds k d) (putK vs k v):=by
 unfold putD putK;rw[r.Hv k];split
 ·exact r.zO h
 ·exact r.snoc h
noncomputable abbrev m5(K:PySem.W.Frag)(x:Str)(C:Addr):Prop:=PySem.W.nsIn K mainGlobals x=some (some (.ref C))
theorem f7.look{K ρ H}{ds:List (Str×D)}{vs:List (Str×V)}(f:Str)(h:f7 K ρ H ds vs):P7 K ρ H (ds.lookup f) (vs.lookup f):=by
 induction h with
 |nil=>trivial
 |cons h r ih =>
  rename_i k d v ds vs;rw[da,da];cases f==k
  ·exact ih
  ·exact h
theorem f7.p8{K ρ H}{f:Str}{d:D}{v:V}(h:c9 K ρ H d v){ds:List (Str×D)}{vs:List (Str×V)}(r:f7 K ρ H ds vs):f7 K ρ H (O7 f d ds) (L2.p8 f v vs):=by
 induction r with
 |nil=>exact .cons h .nil
 |cons q r ih =>
  unfold O7 L2.p8;split
  ·exact .cons h r
  ·exact .cons q ih
theorem Ga{f:Str}{d:D}{p:Str->Prop}(hf:p f):∀{ds:List (Str×D)},(∀x∈ds,p x.1)->∀x∈O7 f d ds,p x.1
 |[],_,x,hx=>by
  have:x=(f,d):=by simpa[O7] using hx
  simp_all
 |(k,e)::r,h,x,hx=>by
  unfold O7 at hx;split at hx
  ·rcases av.mp hx with z|z
   ·rw[z];exact h (k,e) (by simp)
   ·exact h x (by simp[z])
  ·rcases av.mp hx with z|z
   ·rw[z];exact h (k,e) (by simp)
   ·exact Ga hf (λy hy=>h y (by simp[hy])) x z
def DN(K:PySem.W.Frag)(ρ:List Addr)(H:Hp)(p:List Int×D)(q:List Key×Addr×V):Prop:=q.1=p.1.map Sum.inl/\TupAt K H q.2.1 (q.1.map kV)/\c9 K ρ H p.2 q.2.2
noncomputable abbrev p7(K:PySem.W.Frag)(ρ:List Addr)(H:Hp):List (List Int×D)->DX->Prop:=Paired (DN K ρ H)
theorem p7.ext{K ρ H bQ H'}(e:Ext ρ H bQ H'){l:List (List Int×D)}{m:DX}(r:p7 K ρ H l m):p7 K bQ H' l m:=L2.Paired.AG r λ_ _ h=>⟨h.1,h.2.1.ext e,h.2.2.ext e⟩
theorem p7.ints{K ρ H}{l:List (List Int×D)}(r:p7 K ρ H l m):∀q∈m,∃k:List Int,q.1=k.map Sum.inl:=by
 induction r with
 |nil=>intro q h;cases h
 |cons h _ ih=>exact λq z=>(av.mp z).elim (λe=>e▸⟨_,h.1⟩) (ih q)
theorem p7.sq{K ρ H}{l:List (List Int×D)}{m:DX}(r:p7 K ρ H l m):∀q∈m,gM K H q.2.1 (q.1.map kV):=by
 induction r with
 |nil=>intro q h;cases h
 |cons h _ ih=>exact λq z=>(av.mp z).elim (λe=>e▸h.2.1.sq) (ih q)
theorem Al{a b:List Int}:(a.map Sum.inl:List Key)=b.map Sum.inl↔a=b:=⟨λh=>(List.map_inj_right λ_ _ h=>Sum.inl.inj h).mp h,λh=>by rw[h]⟩
theorem p7.val{K ρ H}{l:List (List Int×D)}(r:p7 K ρ H l m)(k:List Int):P7 K ρ H (P8 l k) (mP m (k.map Sum.inl)):=by
 unfold P8 mP
 induction r with
 |nil=>trivial
 |@cons p q _ _ h _ ih =>
  rw[bZ,bZ,h.1];by_cases c:p.1=k
  ·rw[aQ c,aQ (Al.mpr c)];exact h.2.2
  ·rw[aR c,aR λz=>c (Al.mp z)];exact ih
theorem p7.snoc{K ρ H}{l:List (List Int×D)}{p:List Int×D}{q:List Key×Addr×V}(r:p7 K ρ H l m)(h:DN K ρ H p q):p7 K ρ H (l++[p]) (m++[q]):=by
 induction r with
 |nil=>exact .cons h .nil
 |cons h _ ih=>exact .cons h ih
def OH(K:PySem.W.Frag)(ρ:List Addr)(H:Hp)(a:Addr):O->HO->Prop
 |.gq kvs,.ext φ=>∃P w dx,φ=oa P w a dx/\p7 K ρ H kvs dx
 |.lst l,.lst vs=>b0 K ρ H l vs
 |.eO kvs,.dK vs=>f7 K ρ H kvs vs
 |.set S n,.set S' n'=>S=S'/\n=n'
 |.ins c fs,.ins C _ vs=>m5 K c C/\jq K C/\f7 K ρ H fs vs/\∀x∈fs,w5 K C x.1
 |_,_=>False
theorem OH.ext{K ρ H bQ H'}{b:Addr}(e:Ext ρ H bQ H'){o:O}{u:HO}(h:OH K ρ H b o u):OH K bQ H' b o u:=by
 cases o<;>cases u<;>first|exact h.elim|(obtain⟨P,w,dx,z,r⟩:=h;exact⟨P,w,dx,z,r.ext e⟩)|exact b0.ext e h|exact f7.ext e h|exact⟨h.1,h.2.1,h.2.2.1.ext e,h.2.2.2⟩|exact h
theorem OH.Z0{K ρ H}{b:Addr}{xs:List V}(h:OH K ρ H b o (.tup xs)):False:=by cases o<;>exact h
theorem OH.Na{K ρ H}{b:Addr}{ob:Obj}(h:OH K ρ H b o (.jh ob u)):False:=by cases o<;>exact h
def A5(K:PySem.W.Frag)(ρ:List Addr)(H:Hp)(o:O)(a:Addr):Prop:=match o with
 |.nY l=>∃vs,rO K H a vs/\b0 K ρ H l vs
 |o=>∃u,H a=some u/\OH K ρ H a o u
theorem A5.of{K ρ H}(hu:H a=some u)(h:OH K ρ H a o u):A5 K ρ H o a:=by
 cases o<;>first|exact⟨u,hu,h⟩|(cases u<;>exact h.elim)
theorem A5.inv{K ρ H}(m:o.mut=true)(h:A5 K ρ H o a):∃u,H a=some u/\OH K ρ H a o u:=by
 cases o<;>first|exact h|cases m
theorem A5.lst{K ρ H}{l:List D}{a:Addr}(h:A5 K ρ H (.lst l) a):∃vs,H a=some (.lst vs)/\b0 K ρ H l vs:=by
 obtain⟨u,h1,h2⟩:=h;cases u<;>first|exact⟨_,h1,h2⟩|exact h2.elim
theorem A5.eO{K ρ H}{l:List (Key×D)}{a:Addr}(h:A5 K ρ H (.eO l) a):∃vs,H a=some (.dK vs)/\f7 K ρ H l vs:=by
 obtain⟨u,h1,h2⟩:=h;cases u<;>first|exact⟨_,h1,h2⟩|exact h2.elim
theorem A5.gq{K ρ H}{l:List (List Int×D)}{a:Addr}(h:A5 K ρ H (.gq l) a):∃P w dx,H a=some (.ext (oa P w a dx))/\p7 K ρ H l dx:=by
 obtain⟨u,h1,h2⟩:=h;cases u<;>first|(obtain⟨P,w,dx,rfl,r⟩:=h2;exact⟨P,w,dx,h1,r⟩)|exact h2.elim
theorem A5.set{K ρ H}{S:Int->Bool}{n:Nat}{a:Addr}(h:A5 K ρ H (.set S n) a):H a=some (.set S n):=by
 obtain⟨u,h1,h2⟩:=h;cases u<;>first|(obtain⟨rfl,rfl⟩:=(show _/\_ from h2);exact h1)|exact h2.elim
theorem A5.ins{K ρ H}{c:Str}{fs:List (Str×D)}{a:Addr}(h:A5 K ρ H (.ins c fs) a):∃C dx vs,H a=some (.ins C dx vs)/\m5 K c C/\jq K C/\f7 K ρ H fs vs/\∀x∈fs,w5 K C x.1:=by
 obtain⟨u,h1,h2⟩:=h;cases u<;>first|exact⟨_,_,_,h1,h2⟩|exact h2.elim
structure Rl(K:PySem.W.Frag)(ρ:List Addr)(g:G)(H:Hp):Prop where
 len:ρ.length=g.length
 obj:∀(i:Nat) o a,g[i]?=some o->ρ[i]?=some a->A5 K ρ H o a
 nd:∀(i j:Nat) o o' a,g[i]?=some o->g[j]?=some o'->o.mut=true->o'.mut=true->ρ[i]?=some a->ρ[j]?=some a->i=j
section
variable{ρ:List Addr}
theorem Rl.lst(R:Rl K ρ g H){i:Nat}{l:List D}{a:Addr}(h:g[i]?=some (.lst l))(ha:ρ[i]?=some a):∃vs,H a=some (.lst vs)/\b0 K ρ H l vs:=(R.obj _ _ _ h ha).lst
theorem Rl.gq(R:Rl K ρ g H)(X:Cx){i:Nat}{l:List (List Int×D)}{a:Addr}(h:g[i]?=some (.gq l))(ha:ρ[i]?=some a):∃dx,H a=some (mh X a dx)/\p7 K ρ H l dx:=by
 obtain⟨P,w,dx,z,r⟩:=(R.obj _ _ _ h ha).gq;rw[Mv (P':=X.prog) (w':=X.w) r.ints] at z;exact⟨dx,z,r⟩
theorem Rl.eO(R:Rl K ρ g H){i:Nat}{l:List (Key×D)}{a:Addr}(h:g[i]?=some (.eO l))(ha:ρ[i]?=some a):∃vs,H a=some (.dK vs)/\f7 K ρ H l vs:=(R.obj _ _ _ h ha).eO
theorem Rl.set(R:Rl K ρ g H){i:Nat}{S:Int->Bool}{n:Nat}{a:Addr}(h:g[i]?=some (.set S n))(ha:ρ[i]?=some a):H a=some (.set S n):=(R.obj _ _ _ h ha).set
theorem Rl.ins(R:Rl K ρ g H){i:Nat}{c:Str}{fs:List (Str×D)}{a:Addr}(h:g[i]?=some (.ins c fs))(ha:ρ[i]?=some a):∃C dx vs,H a=some (.ins C dx vs)/\m5 K c C/\jq K C/\f7 K ρ H fs vs/\∀x∈fs,w5 K C x.1:=(R.obj _ _ _ h ha).ins
theorem Rl.items(R:Rl K ρ g H){l:List D}(h:c8 g i=some l)(ha:ρ[i]?=some a):∃vs,fu K H a vs/\b0 K ρ H l vs:=by
 cases e:g[i]? with
 |none=>rw[c8,e] at h;cases h
 |some o =>
  rw[c8,e] at h;have q:=R.obj _ _ _ e ha;cases o with
  |lst m=>cases h;obtain⟨vs,z,r⟩:=q.lst;exact⟨vs,fu.of z,r⟩
  |nY m=>cases h;obtain⟨vs,z,r⟩:=q;exact⟨vs,z.sq,r⟩
  |_=>cases h
theorem t4{o:HO}(hp:H p=none):Ext ρ H ρ (upd H p o):=⟨⟨[],by simp⟩,λa xs h=>by rw[f9 (j7 h hp)];exact h⟩
theorem rO.upd{p a:Addr}{o:HO}{vs:List V}(h:rO K H a vs)(hp:∀ob u,H p≠some (.jh ob u)):rO K (upd H p o) a vs:=by
 rcases h with⟨ob,z⟩|z
 ·refine .inl ⟨ob,?_⟩;rw[f9 ?_]
  ·exact z
  ·intro e;subst e;exact hp _ _ z
 ·exact .inr z
theorem A5.upd{p a:Addr}{o:O}{u:HO}{bQ:List Addr}(h:A5 K ρ H o a)(eL:o.mut=true->a≠p)(hp:∀ob u,H p≠some (.jh ob u))(e:Ext ρ H bQ (L2.upd H p u)):A5 K bQ (L2.upd H p u) o a:=by
 cases hm:o.mut with
 |true =>
  obtain⟨u',h1,h2⟩:=h.inv hm;exact .of (by rw[f9 (eL hm)];exact h1) (h2.ext e)
 |false =>
  cases o<;>first|cases hm|skip
  obtain⟨vs,z,r⟩:=h;exact⟨vs,z.upd hp,r.ext e⟩
theorem Rl.grow{o:HO}(R:Rl K ρ g H)(hp:H p=none):Rl K ρ g (upd H p o):=by
 have e:Ext ρ H ρ (upd H p o):=t4 hp;refine⟨R.len,λi ob a h1 h2=>?_,R.nd⟩;have q:=R.obj _ _ _ h1 h2;refine q.upd (λhm=>?_) (λob u z=>by simp_all) e;obtain⟨u,h1,_⟩:=q.inv hm;exact j7 h1 hp
theorem Rl.u5(R:Rl K ρ g H)(p:Addr):(ρ++[p])[g.length]?=some p:=by rw[<- R.len];simp
theorem E1{o:HO}(hp:H p=none):Ext ρ H (ρ++[p]) (upd H p o):=⟨⟨[p],rfl⟩,(t4 (ρ:=ρ) hp).tup⟩
theorem Rl.new(R:Rl K ρ g H)(hp:H p=none)(r:OH K ρ H p o u):Rl K (ρ++[p]) (g++[o]) (upd H p u):=by
 have e:Ext ρ H (ρ++[p]) (upd H p u):=E1 hp;have old:∀{i:Nat} {ob:O} {a:Addr},g[i]?=some ob->(ρ++[p])[i]?=some a->ρ[i]?=some a:=λ{i ob a} h1 h2=>by
  rw[aA (by rw[R.len];exact(ay.mp h1).1)] at h2;exact h2
 have split:∀{i:Nat} {ob:O},(g++[o])[i]?=some ob->g[i]?=some ob\/(i=g.length/\ob=o):=λ{i ob} h=>by
  rcases fO i g.length with q|q|q
  ·rw[aA q] at h;exact .inl h
  ·subst q;simp at h;exact .inr ⟨rfl,h.symm⟩
  ·rw[cg (by simp;omega)] at h;cases h
 refine⟨by simp[R.len],λi ob a h1 h2=>?_,λi j o1 o2 a h1 h2 m1 m2 h3 h4=>?_⟩
 ·rcases split h1 with q|⟨rfl,rfl⟩
  ·have z:=R.obj _ _ _ q (old q h2);refine z.upd (λhm=>?_) (λob u z=>by rw[hp] at z;cases z) e;obtain⟨u,h1,_⟩:=z.inv hm;exact j7 h1 hp
  ·rw[R.u5] at h2;cases h2;exact .of m9 (r.ext e)
 ·have nq:∀{i:Nat} {o:O} {a:Addr},g[i]?=some o->o.mut=true->ρ[i]?=some a->a≠p:=λ{i o a} h1 hm h2=>by
   obtain⟨u,z,_⟩:=(R.obj _ _ _ h1 h2).inv hm;exact j7 z hp
  rcases split h1 with q|⟨rfl,_⟩
  ·rcases split h2 with q'|⟨rfl,_⟩
   ·exact R.nd _ _ _ _ _ q q' m1 m2 (old q h3) (old q' h4)
   ·rw[R.u5] at h4;cases h4;exact absurd rfl (nq q m1 (old q h3))
  ·rcases split h2 with q'|⟨rfl,_⟩
   ·rw[R.u5] at h3;cases h3;exact absurd rfl (nq q' m2 (old q' h4))
   ·rfl
theorem Rl.alloc{l:List D}(R:Rl K ρ g H)(hp:H p=none)(r:b0 K ρ H l vs):Rl K (ρ++[p]) (g++[.lst l]) (upd H p (.lst vs)):=R.new hp r
theorem Rl.put{o':O}(R:Rl K ρ g H)(h:g[i]?=some o)(hm:o.mut=true)(ha:ρ[i]?=some a)(r:OH K ρ H a o' u) :
  Rl K ρ (g.set i o') (upd H a u)/\Ext ρ H ρ (upd H a u):=by
 obtain⟨u0,z0,Cg⟩:=(R.obj _ _ _ h ha).inv hm;have e:Ext ρ H ρ (upd H a u):=⟨⟨[],by simp⟩,λb xs q=>by rw[f9];exact q;intro z;subst z;rw[z0] at q;cases q;exact Cg.Z0⟩
 refine⟨⟨by simp[R.len],λj ob b h1 h2=>?_,λj k o1 o2 b h1 h2 m1 m2 h3 h4=>?_⟩,e⟩
 ·by_cases jX:i=j
  ·subst jX;rw[ha] at h2;cases h2;have hi:i<g.length:=(ay.mp h).1;rw[aH hi] at h1;cases h1;exact .of m9 (r.ext e)
  ·rw[au jX] at h1;refine(R.obj _ _ _ h1 h2).upd (λmF ez=>?_) (λob u z=>by rw[z0] at z;cases z;exact Cg.Na) e;subst ez;exact jX (R.nd _ _ _ _ _ h h1 hm mF ha h2)
 ·have back:∀{j:Nat} {m:O},(g.set i o')[j]?=some m->m.mut=true->∃m',g[j]?=some m'/\m'.mut=true:=λ{j m} q mF=>by
   by_cases jX:i=j
   ·subst jX;exact⟨o,h,hm⟩
   ·rw[au jX] at q;exact⟨m,q,mF⟩
  obtain⟨_,q1,n1⟩:=back h1 m1;obtain⟨_,q2,n2⟩:=back h2 m2;exact R.nd _ _ _ _ _ q1 q2 n1 n2 h3 h4
theorem Rl.write{l l':List D}(R:Rl K ρ g H)(h:g[i]?=some (.lst l))(ha:ρ[i]?=some a)(r:b0 K ρ H l' vs) :
  Rl K ρ (g.set i (.lst l')) (upd H a (.lst vs))/\Ext ρ H ρ (upd H a (.lst vs)):=R.put h rfl ha r
end
structure l6(K:PySem.W.Frag)(ρ:List Addr)(H:Hp)(Z:S)(bP:St):Prop where
 len:Z.length=bP.length
 val:∀(i:Nat) d,Z[i]?=some (some d)->∃v,bP[i]?=some (some v)/\c9 K ρ H d v
section
variable{ρ bQ:List Addr}{H':Hp}
theorem l6.ext{Z bP}(e:Ext ρ H bQ H')(r:l6 K ρ H Z bP):l6 K bQ H' Z bP:=⟨r.len,λi d h=>let ⟨v,a,b⟩:=r.val i d h;⟨v,a,b.ext e⟩⟩
theorem l6.set{Z bP d v}(r:l6 K ρ H Z bP)(i:Nat)(h:c9 K ρ H d v):l6 K ρ H (Z.set i (some d)) (bP.set i (some v)):=by
 refine⟨by simp[r.len],λj e q=>?_⟩;by_cases jX:i=j
 ·subst jX;have hi:i<Z.length:=by
   have:=(ay.mp q).1
   simp_all
  rw[aH hi] at q;cases q;exact⟨v,by rw[aH (by rw[<- r.len];exact hi)],h⟩
 ·rw[au jX] at q ⊢;exact r.val j e q
theorem l6.start{ds vs}{n:Nat}(r:b0 K ρ H ds vs):l6 K ρ H (ds.map some++List.replicate (n-ds.length) none) (vs.map some++List.replicate (n-vs.length) none):=by
 refine⟨by simp[r.length],λi d h=>?_⟩;by_cases hi:i<ds.length
 ·rw[aA (by simpa using hi),aq] at h;cases e:ds[i]? with
  |none=>rw[e] at h;cases h
  |some x =>
   rw[e] at h;cases h;obtain⟨v,h1,h2⟩:=r.get e;refine⟨v,?_,h2⟩;rw[aA (by rw[ai,<- r.length];exact hi),aq,h1]
   rfl
 ·rw[bY (by simpa using hi),df] at h;split at h<;>cases h
theorem l6.d7{Z bP}(r:l6 K ρ H Z bP)(d7:List Nat)(n:Nat):l6 K ρ H (C8 Z d7 n) (B2 bP d7 n):=by
 refine⟨by simp[C8,B2],λi d h=>?_⟩;unfold C8 at h;unfold B2;by_cases hi:i<d7.length
 ·rw[aA (by simpa using hi),aq,ak hi] at h;rw[aA (by simpa using hi),aq,ak hi];simp only[Option.map_some] at h ⊢;cases e:Z[d7[i]]? with
  |none=>simp_all
  |some x =>
   rw[e] at h;have hx:=aF h;subst hx;obtain⟨v,h1,h2⟩:=r.val _ _ e;exact⟨v,by rw[h1];rfl,h2⟩
 ·rw[bY (by simpa using hi),df] at h;split at h<;>cases h
end
end M
namespace M
open PySem L2 PySem.Spec PyProof.Rows
variable{g:G}{l:List D}{vs:List V}{b:Bool}{d:D}{X:Cx}{ρ:List Addr}{H:Hp}{Z:L2.St}{s:Shared}{v x:V}
def LQ(K:PySem.W.Frag)(ρ:List Addr)(H:Hp)(Q:VK):KD:=λd g'=>∀bQ H' v,Ext ρ H bQ H'->Rl K bQ g' H'->c9 K bQ H' d v->Q v H'
theorem LQ.ext{K ρ H bU H1 Q d g}(e:Ext ρ H bU H1)(h:LQ K ρ H Q d g):LQ K bU H1 Q d g:=λbQ H' v e' R r=>h bQ H' v (e.trans e') R r
theorem LQ.now{K ρ H Q d g v}(h:LQ K ρ H Q d g)(R:Rl K ρ g H)(r:c9 K ρ H d v):Q v H:=h ρ H v (.refl _ _) R r
theorem LQ.new{K ρ H Q}{p:Addr}(h:LQ K ρ H Q (.ref g.length) (g++[.lst l]))(R:Rl K ρ g H)(hp:H p=none)(r:b0 K ρ H l vs):Q (.ref p) (upd H p (.lst vs)) :=
 h (ρ++[p]) _ _ (E1 hp) (R.alloc hp r) (.ref (R.u5 p))
theorem LQ.tup{K ρ H Q}{g:G}{l:List D}{vs:List V}{p:Addr}(h:LQ K ρ H Q (.tup l) g)(R:Rl K ρ g H)(hp:H p=none)(r:b0 K ρ H l vs):Q (.ref p) (upd H p (.tup vs)) :=
 h ρ _ _ (t4 hp) (R.grow hp) (.tup (.inl m9) (r.ext (t4 hp)))
def r2(K:PySem.W.Frag)(p:Pr):R2:=λx y H Q=>∃d e g ρ,Rl K ρ g H/\c9 K ρ H d x/\c9 K ρ H e y/\cI p [d,e] g (LQ K ρ H Q)
def r1(K:PySem.W.Frag)(p:Pr):V->Hp->VK->Prop:=λx H Q=>∃d g ρ,Rl K ρ g H/\c9 K ρ H d x/\cI p [d] g (LQ K ρ H Q)
def rN(K:PySem.W.Frag)(p:Pr):List V->Hp->VK->Prop:=λxs H Q=>∃ds g ρ,Rl K ρ g H/\b0 K ρ H ds xs/\cI p ds g (LQ K ρ H Q)
theorem F8{n:Nat}(h:n<=100000):n<=sizeLine:=aE h ∅
theorem An{n:Nat}(h:n<100000):n<sizeLine:=ax h ∅
theorem c9.j3{K ρ H i v}(h:c9 K ρ H (.int i) v):v=.int i:=by cases h;rfl
theorem c9.zR{K ρ H i v}(h:c9 K ρ H (.str i) v):v=.str i:=by cases h;rfl
theorem c9.H9{K ρ H i v}(h:c9 K ρ H (.bl i) v):v=.bl i:=by cases h;rfl
theorem c9.wF{K ρ H v}(h:c9 K ρ H .bq v):v=.bq:=by cases h;rfl
theorem c9.NP{K ρ H n v}(h:c9 K ρ H (.ty n) v):v=.ty n:=by cases h;rfl
theorem c9.i8{K ρ H i v}(h:c9 K ρ H (.ref i) v):∃a,v=.ref a/\ρ[i]?=some a:=by cases h;exact⟨_,rfl,by assumption⟩
theorem c9.wJ{K ρ H l v}(h:c9 K ρ H (.tup l) v):∃a vs,v=.ref a/\TupAt K H a vs/\b0 K ρ H l vs:=by cases h;exact⟨_,_,rfl,by assumption,by assumption⟩
theorem b0.one{K ρ H d vs}(h:b0 K ρ H [d] vs):∃v,vs=[v]/\c9 K ρ H d v:=by
 cases h with
 |cons r rr=>cases rr;exact⟨_,rfl,r⟩
theorem b0.two{K ρ H d e vs}(h:b0 K ρ H [d,e] vs):∃v w,vs=[v,w]/\c9 K ρ H d v/\c9 K ρ H e w:=by
 cases h with
 |cons r rr=>obtain⟨w,rfl,q⟩:=rr.one;exact⟨_,_,rfl,r,q⟩
theorem J5{a b c:D}(h:[a,b]=[c,d]):a=c/\b=d:=by cases h;exact⟨rfl,rfl⟩
section
theorem OR(op:Operator):fG X (binaryOp op) (r2 X.K (.bin op)):=by
 intro pins s Z H x y v u Q I rx ry h;obtain⟨d,e,g,ρ,R,rd,re,d',g',h,q⟩:=h;rcases h with⟨i,j,r,ex,ha,rfl,rfl⟩|⟨rfl,h⟩|⟨rfl,h⟩
 ·obtain⟨rfl,rfl⟩:=J5 ex;obtain rfl:=rd.j3;obtain rfl:=re.j3;have fin:=q.now R (.int r);cases op<;>first|exact(show False from ha).elim|skip
  ·cases ha;exact OP pins s Z H _ _ v u Q I rx ry ⟨i,j,rfl,rfl,fin⟩
  ·cases ha;exact OZ pins s Z H _ _ v u Q I rx ry ⟨i,j,rfl,rfl,fin⟩
  ·obtain⟨hc,rfl⟩:=ha;exact OV pins s Z H _ _ v u Q I rx ry ⟨i,j,rfl,rfl,hc,fin⟩
  ·obtain⟨hc,rfl⟩:=ha;exact OU pins s Z H _ _ v u Q I rx ry ⟨i,j,rfl,rfl,hc,fin⟩
  ·obtain⟨hc,rfl⟩:=ha;exact OW pins s Z H _ _ v u Q I rx ry ⟨i,j,rfl,rfl,hc,fin⟩
  ·obtain⟨hc,rfl⟩:=ha;exact OY pins s Z H _ _ v u Q I rx ry ⟨i,j,rfl,rfl,hc,fin⟩
  ·cases ha;exact Nh pins s Z H _ _ v u Q I rx ry ⟨i,j,rfl,rfl,fin⟩
  ·cases ha;exact OQ pins s Z H _ _ v u Q I rx ry ⟨i,j,rfl,rfl,fin⟩
  ·obtain⟨hc,rfl⟩:=ha;exact Xv pins s Z H _ _ v u Q I rx ry ⟨i,j,rfl,rfl,hc,fin⟩
 ·rcases h with⟨a,b,l,m,ex,ha,hb,hz,rfl,rfl⟩|z
  ·obtain⟨rfl,rfl⟩:=J5 ex;obtain⟨a',rfl,ra⟩:=rd.i8;obtain⟨b',rfl,rb⟩:=re.i8;obtain⟨vs,z1,rs⟩:=R.lst ha ra;obtain⟨ws,z2,rt⟩:=R.lst hb rb;exact OS pins s Z H _ _ v u Q I rx ry ⟨_,_,vs,ws,rfl,rfl,z1,z2,by rw[<- rs.length,<- rt.length];exact F8 hz,λp hp=>q.new R hp (rs.append rt)⟩
  ·exact z.elim
 ·rcases h with⟨a,l,n,ex,ha,h1,h2,hz,rfl,rfl⟩
  obtain⟨rfl,rfl⟩:=J5 ex;obtain⟨a',rfl,ra⟩:=rd.i8;obtain rfl:=re.j3;obtain⟨vs,z1,rs⟩:=R.lst ha ra;exact OX pins s Z H _ _ v u Q I rx ry ⟨_,_,vs,rfl,rfl,z1,by omega,by omega,by rw[<- rs.length];exact F8 hz,λp hp=>q.new R hp (rs.rep _)⟩
theorem Ni(op:UnaryOp):wZ X (unaryOp op) (r1 X.K (.un op)):=by
 intro pins s Z H x v Q I rx h;obtain⟨d,g,ρ,R,rd,d',g',⟨rfl,i,ex,rfl,rfl⟩,q⟩:=h;cases ex;obtain rfl:=rd.j3;exact Qw pins s Z H _ v Q I rx ⟨_,rfl,q.now R (.int _)⟩
section
variable{pins:List (Addr×Obj)}
theorem Gu(I:Inv X pins Z H s)(R:Rl X.K ρ g H)(n:Nat)(ih:∀{d:D} {v:V} {u:Value} {p:PyData},rd g n d=some p->c9 X.K ρ H d v->RelV v u->∃as,Reads s.heap u p as/\p.depth<=n):∀{vs:List V} {us:List Value} {ps:List PyData},l.mapM (rd g n)=some ps->b0 X.K ρ H l vs->Vals vs us->∃as,ReadsAll s.heap us ps as/\PyData.depthAll ps<=n:=by
 induction l with
 |nil =>
  intro vs us ps h rs rv;cases rs;cases rv;simp at h;subst h;exact⟨_,.nil,bG _⟩
 |cons d l il =>
  intro vs us ps h rs rv;cases rs with
  |cons gW rs =>
   cases rv with
   |cons ru rv =>
    rw[mW] at h;cases e:rd g n d with
    |none=>simp_all
    |some p =>
     rw[e] at h;cases e2:l.mapM (rd g n) with
     |none=>rw[e2] at h;cases h
     |some qs =>
      rw[e2] at h;cases h;obtain⟨as,q1,d1⟩:=ih e gW ru;obtain⟨bs,q2,d2⟩:=il e2 rs rv;refine⟨_,.cons q1 q2,?_⟩;simp only[PyData.depthAll];omega
theorem N5(I:Inv X pins Z H s)(R:Rl X.K ρ g H)(n:Nat):∀{d:D} {v:V} {u:Value} {p:PyData},rd g n d=some p->c9 X.K ρ H d v->RelV v u->∃as,Reads s.heap u p as/\p.depth<=n:=by
 induction n with
 |zero =>
  intro d v u p h r ru;cases r with
  |bq=>simp only[rd] at h;cases h;cases ru;exact⟨_,.none,Nat.zero_le _⟩
  |bl b=>simp only[rd] at h;cases h;cases ru;exact⟨_,.bool b,Nat.zero_le _⟩
  |int i=>simp only[rd] at h;cases h;obtain⟨t,rfl⟩:=ru;exact⟨_,.int i t,Nat.zero_le _⟩
  |str x=>simp only[rd] at h;cases h;obtain⟨t,rfl⟩:=ru;exact⟨_,.str x t,Nat.zero_le _⟩
  |_=>simp only[rd] at h;cases h
 |succ n ih =>
  intro d v u p h r ru;cases r with
  |bq=>simp only[rd] at h;cases h;cases ru;exact⟨_,.none,Nat.zero_le _⟩
  |bl b=>simp only[rd] at h;cases h;cases ru;exact⟨_,.bool b,Nat.zero_le _⟩
  |int i=>simp only[rd] at h;cases h;obtain⟨t,rfl⟩:=ru;exact⟨_,.int i t,Nat.zero_le _⟩
  |str x=>simp only[rd] at h;cases h;obtain⟨t,rfl⟩:=ru;exact⟨_,.str x t,Nat.zero_le _⟩
  |ty x=>simp only[rd] at h;cases h
  |ref ha =>
   rename_i i a;simp only[rd] at h;cases e:c8 g i with
   |none=>simp_all
   |some l =>
    rw[e] at h;dsimp only at h;cases e2:l.mapM (rd g n) with
    |none=>simp_all
    |some ps =>
     rw[e2] at h;cases h;cases ru;obtain⟨vs,hq,rs⟩:=R.items e ha;obtain⟨aV,rv,p,hz⟩:=I.list hq;obtain⟨as,q,hd⟩:=Gu I R n ih e2 rs rv;obtain⟨o,ho,hc,k,pU⟩:=p.isList;refine⟨_,.list ho hc pU (by simpa using q),?_⟩;simp only[PyData.depth];omega
  |tup ht rs =>
   rename_i l a vs;simp only[rd] at h;cases e2:l.mapM (rd g n) with
   |none=>simp_all
   |some ps =>
    rw[e2] at h;cases h;cases ru;obtain⟨aV,rv,pt,hz⟩:=I.tuple ht.sq;obtain⟨as,q,hd⟩:=Gu I R n ih e2 rs rv;obtain⟨o,ho,hc,k,pU⟩:=id pt;refine⟨_,.tuple ho hc pU (by simpa using q),?_⟩;simp only[PyData.depth];omega
end
end
theorem R6{K ρ H}{c:Key}(h:X5 d=some c)(r:c9 K ρ H d v):v=kV c:=by
 cases r<;>first|(cases h;rfl)|cases h
theorem P7.some{K ρ H}{o:Option V}{d:D}(h:P7 K ρ H (some d) o):∃v,o=some v/\c9 K ρ H d v:=by
 cases o with
 |none=>exact h.elim
 |some v=>exact⟨v,rfl,h⟩
theorem P7.isSome{K ρ H}{o:Option V}{d:Option D}(h:P7 K ρ H d o):d.isSome=o.isSome:=by
 cases o<;>cases d<;>first|rfl|exact h.elim
theorem HB{pins:List (Addr×Obj)}{e:D}{y:V}{v u:Value}{Q:VK}(hu:X.A.units+100<cLine)(I:Inv X pins Z H s)(rx:RelV x v)(ry:RelV y u)(R:Rl X.K ρ g H)(gW:c9 X.K ρ H d x)(re:c9 X.K ρ H e y)(h:uA g d e b)(neg:Bool)(q:Q (.bl (xor neg b)) H):wpAny (model X.prog X.w) X.A (compareOp (if neg then .NotEq else .Eq) v u) (EP X pins Z Q) X.xe s:=by
 rcases h with⟨i,j,rfl,rfl,rfl⟩|⟨i,j,rfl,rfl,rfl⟩|⟨i,j,rfl,rfl,rfl⟩|⟨p,p',h1,h2,c1,c2,rfl⟩
 ·obtain rfl:=gW.j3;obtain rfl:=re.j3;cases neg
  ·exact Ba pins s Z H _ _ v u Q I rx ry ⟨rfl,by simp_all⟩
  ·exact Bb pins s Z H _ _ v u Q I rx ry ⟨rfl,by simp_all⟩
 ·obtain rfl:=gW.H9;obtain rfl:=re.H9;cases neg
  ·exact Ba pins s Z H _ _ v u Q I rx ry ⟨rfl,by rw[wA];simpa using q⟩
  ·exact Bb pins s Z H _ _ v u Q I rx ry ⟨rfl,by rw[wA];simpa using q⟩
 ·obtain rfl:=gW.zR;obtain rfl:=re.zR;cases neg
  ·exact Ba pins s Z H _ _ v u Q I rx ry ⟨rfl,by simp_all⟩
  ·exact Bb pins s Z H _ _ v u Q I rx ry ⟨rfl,by simp_all⟩
 ·obtain⟨as,q1,d1⟩:=N5 I R 6 h1 gW rx;obtain⟨bs,q2,d2⟩:=N5 I R 6 h2 re ry;have hr:X.A.units+min p.depth p'.depth<cLine:=by omega
  cases neg
  ·exact SeqAt.compareEq_reads q1 q2 c1 c2 hr ⟨.bl _,H,I,rfl,by simpa using q⟩
  ·exact SeqAt.compareNe_reads q1 q2 c1 c2 hr ⟨.bl _,H,I,rfl,by simpa using q⟩
theorem in_of{pins:List (Addr×Obj)}{e:D}{y:V}{v u:Value}{Q:VK}(hu:X.A.units+100<cLine)(I:Inv X pins Z H s)(rx:RelV x v)(ry:RelV y u)(R:Rl X.K ρ g H)(gW:c9 X.K ρ H d x)(re:c9 X.K ρ H e y)(h:inR g d e b)(neg:Bool)(q:Q (.bl (xor neg b)) H):wpAny (model X.prog X.w) X.A (compareOp (if neg then .NotIn else .In) v u) (EP X pins Z Q) X.xe s:=by
 rcases h with⟨a,kvs,c,rfl,ha,hc,rfl⟩|⟨l,ps,p,h0,h1,h2,c1,c2,rfl⟩
 ·obtain⟨a',rfl,ra⟩:=re.i8;obtain⟨vs,z,rs⟩:=R.eO ha ra;have:=R6 hc gW;subst this;cases ry;rw[(rs.val c).isSome] at q;cases neg
  ·exact Rj () I (L5.k z) rx λs' I'=>⟨.bl _,H,I',rfl,by simpa using q⟩
  ·exact QH () I (L5.k z) rx λs' I'=>⟨.bl _,H,I',rfl,by simpa using q⟩
 ·obtain⟨as,q1,d1⟩:=N5 I R 6 h2 gW rx;cases e with
  |tup m =>
   cases h0;have h3:rd g 7 (.tup l)=some (.tuple ps):=by simp only[rd];rw[show l.mapM (rd g 6)=some ps from h1];rfl
   obtain⟨bs,q2,d2⟩:=N5 I R 7 h3 re ry;have hr:X.A.units+1+min (PyData.depthAll ps) p.depth<cLine:=by omega
   cases neg
   ·exact SeqAt.in_tuple_reads q2 q1 c1 c2 hr ⟨.bl _,H,I,rfl,by simpa using q⟩
   ·exact SeqAt.notIn_tuple_reads q2 q1 c1 c2 hr ⟨.bl _,H,I,rfl,by simpa using q⟩
  |ref a =>
   have h3:rd g 7 (.ref a)=some (.list ps):=by
    simp only[rd];rw[show c8 g a=some l from h0];dsimp only;rw[show l.mapM (rd g 6)=some ps from h1]
    rfl
   obtain⟨bs,q2,d2⟩:=N5 I R 7 h3 re ry;have hr:X.A.units+1+min (PyData.depthAll ps) p.depth<cLine:=by omega
   cases neg
   ·exact SeqAt.in_list_reads q2 q1 c1 c2 hr ⟨.bl _,H,I,rfl,by simpa using q⟩
   ·exact SeqAt.notIn_list_reads q2 q1 c1 c2 hr ⟨.bl _,H,I,rfl,by simpa using q⟩
  |_=>cases h0
theorem Q9(hu:X.A.units+100<cLine)(op:CmpOp):fG X (compareOp op) (r2 X.K (.cmp op)):=by
 intro pins s Z H x y v u Q I rx ry h;obtain⟨d,e,g,ρ,R,gW,re,d',g',⟨x',y',b,ex,h,rfl,rfl⟩,q⟩:=h;obtain⟨rfl,rfl⟩:=J5 ex;have fin:=q.now R (.bl b);have nF:∀{P:Int->Int->Bool},(∃i j,d=.int i/\e=.int j/\b=P i j)->∃i j,x=.int i/\y=.int j/\b=P i j:=λhh=>by
  obtain⟨i,j,z1,z2,z3⟩:=hh;exact⟨i,j,(z1▸gW).j3,(z2▸re).j3,z3⟩
 cases op
 ·exact HB hu I rx ry R gW re h false (by simpa using fin)
 ·exact HB hu I rx ry R gW re h true (by simpa using fin)
 ·obtain⟨i,j,e1,e2,e3⟩:=nF (P:=λi j=>decide (i<j)) h;exact Ng pins s Z H _ _ v u Q I rx ry ⟨i,j,e1,e2,by subst e3;exact fin⟩
 ·obtain⟨i,j,e1,e2,e3⟩:=nF (P:=λi j=>decide (i<=j)) h;exact Nf pins s Z H _ _ v u Q I rx ry ⟨i,j,e1,e2,by subst e3;exact fin⟩
 ·obtain⟨i,j,e1,e2,e3⟩:=nF (P:=λi j=>decide (j<i)) h;exact Nc pins s Z H _ _ v u Q I rx ry ⟨i,j,e1,e2,by subst e3;exact fin⟩
 ·obtain⟨i,j,e1,e2,e3⟩:=nF (P:=λi j=>decide (j<=i)) h;exact Nb pins s Z H _ _ v u Q I rx ry ⟨i,j,e1,e2,by subst e3;exact fin⟩
 ·obtain⟨rfl,rfl⟩:=(show _/\_ from h)
  obtain rfl:=re.wF;refine OT pins s Z H _ _ v u Q I rx ry ⟨rfl,?_⟩;have e:P2 d=decide (x=V.bq):=by cases gW<;>simp[P2]
  rw[<- e];exact fin
 ·obtain⟨rfl,rfl⟩:=(show _/\_ from h)
  obtain rfl:=re.wF;refine Xw pins s Z H _ _ v u Q I rx ry ⟨rfl,?_⟩;have e:P2 d=decide (x=V.bq):=by cases gW<;>simp[P2]
  rw[<- e];exact fin
 ·rcases h with h|⟨a,S,n,i,rfl,ha,rfl,rfl⟩
  ·exact in_of hu I rx ry R gW re h false (by simpa using fin)
  ·obtain⟨a',rfl,ra⟩:=re.i8;obtain rfl:=gW.j3;exact VM pins s Z H _ _ v u Q I rx ry ⟨i,a',S,n,rfl,rfl,R.set ha ra,fin⟩
 ·rcases h with h|⟨a,S,n,i,rfl,ha,rfl,hb⟩
  ·exact in_of hu I rx ry R gW re h true (by simpa using fin)
  ·obtain⟨a',rfl,ra⟩:=re.i8;obtain rfl:=gW.j3;exact SY pins s Z H _ _ v u Q I rx ry ⟨i,a',S,n,rfl,rfl,R.set ha ra,by rw[<- hb,Bool.not_not];exact fin⟩
theorem empty_eq{K ρ H}(r:b0 K ρ H l vs):l.isEmpty=vs.isEmpty:=by cases r<;>rfl
theorem Qs{K:PySem.W.Frag}(R:Rl K ρ g H)(r:c9 K ρ H d x)(h:Ei g d b):Bo K x H b:=by
 rcases h with⟨rfl,rfl⟩|rfl|⟨i,rfl,rfl⟩|⟨l,rfl,rfl⟩|⟨a,l,rfl,hl,rfl⟩
 ·obtain rfl:=r.wF;rfl
 ·obtain rfl:=r.H9;rfl
 ·obtain rfl:=r.j3;rfl
 ·obtain⟨a,vs,rfl,ht,rs⟩:=r.wJ;exact .inr (.inl ⟨_,ht.sq,by rw[empty_eq rs]⟩)
 ·obtain⟨a',rfl,ha⟩:=r.i8;obtain⟨vs,hq,rs⟩:=R.items hl ha;exact .inl ⟨_,hq,by rw[empty_eq rs]⟩
theorem QC{K ρ H}{i:Int}(r:b0 K ρ H l vs)(h:fU l i=some d):∃v,fU vs i=some v/\c9 K ρ H d v:=by
 unfold fU at h ⊢;rw[<- r.length];cases e:jS l.length i with
 |none=>simp_all
 |some j =>
  rw[e] at h;exact r.get h
theorem wH{K ρ H}{x:D}(R:Rl K ρ g H)(r:c9 K ρ H x v)(h:B0 g x=some l):∃a vs,v=.ref a/\b0 K ρ H l vs/\((∃i,x=.ref i/\ρ[i]?=some a)/\fu K H a vs\/x=.tup l/\TupAt K H a vs):=by
 cases r with
 |tup ht rs=>cases h;exact⟨_,_,rfl,rs,.inr ⟨rfl,ht⟩⟩
 |ref ha=>obtain⟨vs,hq,rs⟩:=R.items h ha;exact⟨_,_,rfl,rs,.inl ⟨⟨_,rfl,ha⟩,hq⟩⟩
 |_=>cases h
theorem As{K ρ H}{k:List Int}(r:c9 K ρ H (u7 k) v):∃b,v=.ref b/\TupAt K H b ((k.map Sum.inl:List Key).map kV):=by
 obtain⟨b,vs,rfl,t,rs⟩:=r.wJ;obtain rfl:=rs.ints;exact⟨b,rfl,by rwa [bD]⟩
theorem MI(hu:X.A.units+100<cLine):qy X (r2 X.K .ix):=by
 intro value slice pins s Z H x y v u Q I rx ry h hs;obtain⟨d,e,g,ρ,R,gW,re,d',g',⟨rfl,h⟩,q⟩:=h;rcases h with⟨x',l,i,ex,hl,ha⟩|⟨a,kvs,y',c,ex,ha,hc,hv⟩|⟨a,kvs,k,ex,ha,hv⟩|z
 ·obtain⟨rfl,rfl⟩:=J5 ex;obtain rfl:=re.j3;obtain⟨a,vs,rfl,rs,h⟩:=wH R gW hl;obtain⟨w,hw,fj⟩:=QC rs ha;rcases h with⟨_,hq⟩|⟨_,ht⟩
  ·exact QU value slice pins s Z H _ _ v u Q I rx ry ⟨_,_,i,w,rfl,rfl,hq,hw,q.now R fj⟩ hs
  ·exact Ou value slice pins s Z H _ _ v u Q I rx ry ⟨_,_,i,w,rfl,rfl,ht.sq,hw,q.now R fj⟩ hs
 ·obtain⟨rfl,rfl⟩:=J5 ex;obtain⟨a',rfl,ra⟩:=gW.i8;obtain⟨vs,z,rs⟩:=R.eO ha ra;have:=R6 hc re;subst this;have q2:=rs.val c;rw[hv] at q2;obtain⟨w,hw,fj⟩:=q2.some;exact QT () value slice pins s Z H _ _ v u Q I rx ry ⟨_,w,rfl,by have:=L5.k (k:=c) z;rw[hw] at this;exact this,q.now R fj⟩ hs
 ·obtain⟨rfl,rfl⟩:=J5 ex;obtain⟨a',rfl,ra⟩:=gW.i8;obtain⟨dx,z,rs⟩:=R.gq X ha ra;obtain⟨b,rfl,eb⟩:=As re;have q2:=rs.val k;rw[hv] at q2;obtain⟨w,hw,fj⟩:=q2.some;exact MG () value slice pins s Z H _ _ v u Q I rx ry ⟨_,b,dx,_,w,rfl,rfl,z,rs.sq,eb.sq,hw,q.now R fj⟩ hs
 ·exact z.elim
def IX(K:PySem.W.Frag):V->Option Int->Option Int->Hp->VK->Prop:=λx lo hi H Q=>∃d g ρ d' g',Rl K ρ g H/\c9 K ρ H d x/\sC d lo hi g d' g'/\LQ K ρ H Q d' g'
theorem HR:Br X (IX X.K):=by
 intro pins s Z H x v vl vu lo hi sl Q I rx hs pl pu h;obtain⟨d,g,ρ,d',g',R,gW,h,q⟩:=h;rcases h with z|⟨a,l,rfl,hl,rfl,rfl⟩
 ·exact z.elim
 ·obtain⟨a',rfl,ha⟩:=gW.i8;obtain⟨vs,hq,rs⟩:=R.items hl ha;exact Yk pins s Z H _ v vl vu lo hi sl Q I rx hs pl pu ⟨_,_,rfl,hq,λp hp=>q.new R hp (rs.cut lo hi)⟩
def RU(K:PySem.W.Frag):V->V->V->Hp->(Hp->Prop)->Prop:=λo i v H Q=>∃zz di dv g ρ,Rl K ρ g H/\c9 K ρ H zz o/\c9 K ρ H di i/\c9 K ρ H dv v/\T1 zz di dv g (λg'=>∀bQ H',Ext ρ H bQ H'->Rl K bQ g' H'->Q H')
theorem Qc(hu:X.A.units+100<cLine):Bn X (RU X.K):=by
 intro pins s Z H o i v ov iv u Q I ro ri rv h;obtain⟨zz,di,dv,g,ρ,R,r1,r2,r3,g',h,q⟩:=h;rcases h with⟨a,i',l,j,rfl,rfl,hl,hj,rfl⟩|⟨a,kvs,c,rfl,ha,hc,hz,rfl⟩
 ·obtain⟨a',rfl,ha⟩:=r1.i8;obtain rfl:=r2.j3;obtain⟨vs,z,rs⟩:=R.lst hl ha;obtain⟨R',e'⟩:=R.write hl ha (rs.set r3 j);exact set_list pins s Z H _ _ _ ov iv u Q I ro ri rv ⟨_,vs,_,j,rfl,rfl,z,by rw[<- rs.length];exact hj,q ρ _ e' R'⟩
 ·obtain⟨a',rfl,ra⟩:=r1.i8;obtain⟨vs,z,rs⟩:=R.eO ha ra;have:=R6 hc r2;subst this;obtain⟨R',e'⟩:=R.put (o':=.eO (putD kvs c dv)) (u:=.dK (putK vs c v)) ha rfl ra (rs.put r3);cases ro;exact Vl () I (wN.k z (by rw[<- rs.length];exact An hz)) ri rv λs' I'=>⟨_,I',q ρ _ e' R'⟩
theorem OC:j8 X (.builtin "len") (rN X.K .len):=by
 intro pins s Z H xs us Q I r h;obtain⟨ds,g,ρ,R,rs,d',g',⟨rfl,h⟩,q⟩:=h;rcases h with⟨x,l,rfl,hl,rfl⟩|z|z
 ·obtain⟨v,rfl,rv⟩:=rs.one;obtain⟨a,vs,rfl,rl,h⟩:=wH R rv hl;refine SN pins s Z H _ us Q I r ⟨_,_,rfl,?_,by rw[<- rl.length];exact q.now R (.int _)⟩;exact h.imp (λz=>z.2) (λz=>z.2.sq)
 ·exact z.elim
 ·exact z.elim
theorem Au{K ρ H}:∀(ks:List Key),b0 K ρ H (ks.map kD) (ks.map kV)
 |[]=>.nil
 |.inl _::r=>.cons (.int _) (Au r)
 |.inr _::r=>.cons (.str _) (Au r)
theorem f7.keys{α:Type}{K ρ H}{ds:List (α×D)}{vs:List (α×V)}(h:f7 K ρ H ds vs):ds.map (·.1)=vs.map (·.1):=by
 induction h with
 |nil=>rfl
 |cons _ _ ih=>simp_all
theorem Xj(hc:X.calm=true):j8 X (.type "list") (rN X.K .list):=by
 intro pins s Z H xs us Q I r h;obtain⟨ds,g,ρ,R,rs,d',g',⟨x,l,rfl,hl,rfl,rfl⟩|⟨a,kvs,rfl,ha,hn,rfl,rfl⟩,q⟩:=h
 rotate_left
 ·obtain⟨v,rfl,rv⟩:=rs.one;obtain⟨a',rfl,ra⟩:=rv.i8;obtain⟨vs,z,rk⟩:=R.eO ha ra;exact Tr hc pins s Z H _ us Q I r ⟨_,vs,rfl,z,by rw[<- rk.length];exact hn,λp hp=>q (ρ++[p]) _ _ (E1 hp) (R.new hp (by rw[rk.keys];exact Au _)) (.ref (R.u5 p))⟩
 obtain⟨v,rfl,rv⟩:=rs.one;obtain⟨a,vs,rfl,rl,h⟩:=wH R rv hl;exact SO pins s Z H _ us Q I r ⟨_,_,rfl,h.imp (λz=>z.2) (λz=>z.2.sq),λp hp=>q.new R hp rl⟩
theorem US:j8 X (.type "tuple") (rN X.K .tuple):=by
 intro pins s Z H xs us Q I r h;obtain⟨ds,g,ρ,R,rs,d',g',⟨x,l,rfl,hl,rfl,rfl⟩,q⟩:=h;obtain⟨v,rfl,rv⟩:=rs.one;obtain⟨a,vs,rfl,rl,h⟩:=wH R rv hl;refine Th pins s Z H _ us Q I r ⟨a,vs,rfl,?_⟩;exact h.imp (λz=>⟨z.2,λp hp=>q.tup R hp rl⟩) (λz=>⟨z.2.sq,q.now R (.tup z.2 rl)⟩)
theorem QR:j8 X (.builtin "isinstance") (rN X.K .isin):=by
 intro pins s Z H xs us Q I r h;obtain⟨ds,g,ρ,R,rs,d',g',⟨x,c,b,rfl,hc,hb,rfl,rfl⟩,q⟩:=h;obtain⟨v,w,rfl,r1,r2⟩:=rs.two;obtain rfl:=r2.NP;have fin:=q.now R (.bl b);have go:∀(t:Value) (v:V),gb X.K H v t->PySem.W.kitOne X.K t (.type c)=some b->Vals [v,V.ty c] us->wpAny (model X.prog X.w) X.A (call (.builtin "isinstance") us) (EP X pins Z Q) X.xe s :=
  λt v ht hk r=>Sn pins s Z H _ us Q I r ⟨v,t,c,b,rfl,ht,hk,fin⟩
 simp only[List.mem_cons,List.mem_nil_iff,or_false] at hc;cases r1 with
 |bq=>refine go _ _ .bq ?_ r;cases hb;rcases hc with rfl|rfl|rfl|rfl|rfl<;>rfl
 |bl y=>refine go _ _ (.bl y) ?_ r;cases hb;rcases hc with rfl|rfl|rfl|rfl|rfl<;>rfl
 |int y=>refine go _ _ (.int y) ?_ r;cases hb;rcases hc with rfl|rfl|rfl|rfl|rfl<;>rfl
 |str y=>refine go _ _ (.str y) ?_ r;cases hb;rcases hc with rfl|rfl|rfl|rfl|rfl<;>rfl
 |ty _=>cases hb
 |tup ht rs =>
  cases hb;rcases ht with ht|ht
  ·refine go _ _ (.tup ht) ?_ r;rcases hc with rfl|rfl|rfl|rfl|rfl<;>rfl
  ·obtain⟨o,aV,n,lk,kK,_⟩:=ht;obtain⟨u,w',rfl,ru,fj⟩:=vals2 r;cases (show w'=Value.type c from fj);cases ru;have hk:PySem.W.kitOne X.K (.type "tuple") (.type c)=some (c=="tuple"):=by rcases hc with rfl|rfl|rfl|rfl|rfl<;>rfl
   exact bz Io I.gj ⟨o,I.gj _ _ lk,kK⟩ hk (λz=>nomatch z) λtk=>⟨.bl _,H,I.tok tk,rfl,fin⟩
 |@ref i a ha =>
  have yK:∃m,g'[i]?=some (.lst m)/\b=(c=="list"):=by
   simp only[U0] at hb;split at hb
   ·exact⟨_,by assumption,(aF hb).symm⟩
   ·cases hb
  obtain⟨m,e,rfl⟩:=yK;obtain⟨vs,z,_⟩:=R.lst e ha;refine go _ _ (.lst z) ?_ r;rcases hc with rfl|rfl|rfl|rfl|rfl<;>rfl
theorem Wr:∀{l:List D} {b:Bool},P5 l=some b->∃bs:List Bool,l=bs.map D.bl/\b=bs.all id:=by
 intro l
 induction l with
 |nil=>intro b h;cases h;exact⟨[],rfl,rfl⟩
 |cons d r ih =>
  intro b h;cases d<;>first|(cases h;done)|skip
  rename_i c;simp only[P5] at h;cases e:P5 r with
  |none=>simp_all
  |some b' =>
   rw[e] at h;cases h;obtain⟨bs,rfl,rfl⟩:=ih e;exact⟨c::bs,rfl,by simp⟩
theorem b0.Ow{K ρ H}:∀{bs:List Bool} {vs:List V},b0 K ρ H (bs.map D.bl) vs->vs=bs.map V.bl:=by
 intro bs
 induction bs with
 |nil=>intro vs h;cases h;rfl
 |cons b r ih =>
  intro vs h;cases h with
  |cons h rr=>rw[ih rr,h.H9];rfl
theorem Oa(hc:X.calm=true):j8 X (.builtin "all") (rN X.K .all):=by
 intro pins s Z H xs us Q I r h;obtain⟨ds,g,ρ,R,rs,d',g',⟨a,l,b,rfl,hl,hb,rfl,rfl⟩,q⟩:=h;obtain⟨v,rfl,rv⟩:=rs.one;obtain⟨a',rfl,ra⟩:=rv.i8;obtain⟨vs,hq,rs⟩:=R.items hl ra;rcases hb with hb|⟨ns,rfl,rfl⟩
 rotate_left
 ·have:=rs.ints;subst this;exact Ve hc pins s Z H _ us Q I r ⟨_,ns,rfl,hq,q.now R (.bl _)⟩
 obtain⟨bs,rfl,rfl⟩:=Wr hb;have:=rs.Ow;subst this;exact Vd hc pins s Z H _ us Q I r ⟨_,bs,rfl,hq,q.now R (.bl _)⟩
theorem OJ(hc:X.calm=true):j8 X (.builtin "max") (rN X.K .max):=by
 intro pins s Z H xs us Q I r h;obtain⟨ds,g,ρ,R,rs,d',g',⟨rfl,⟨i,j,rfl,rfl⟩|⟨a,ns,M,rfl,hl,h1,h2,rfl⟩⟩,q⟩:=h
 rotate_left
 ·obtain⟨v,rfl,rv⟩:=rs.one;obtain⟨a',rfl,ra⟩:=rv.i8;obtain⟨vs,hq,rs⟩:=R.items hl ra;have:=rs.ints;subst this;exact Vg hc pins s Z H _ us Q I r ⟨_,ns,M,rfl,hq,h1,h2,q.now R (.int _)⟩
 obtain⟨v,w,rfl,r1,r2⟩:=rs.two;obtain rfl:=r1.j3;obtain rfl:=r2.j3;exact Vf hc pins s Z H _ us Q I r ⟨i,j,rfl,q.now R (.int _)⟩
theorem OK(hc:X.calm=true)(hu:X.A.units+100<cLine):j8 X (.builtin "min") (rN X.K .min):=by
 intro pins s Z H xs us Q I r h;obtain⟨ds,g,ρ,R,rs,d',g',⟨rfl,⟨i,j,rfl,rfl⟩|z⟩,q⟩:=h
 rotate_left
 ·exact z.elim
 obtain⟨v,w,rfl,r1,r2⟩:=rs.two;obtain rfl:=r1.j3;obtain rfl:=r2.j3;exact Vh hc pins s Z H _ us Q I r ⟨i,j,rfl,q.now R (.int _)⟩
theorem Oq:j8 X (.type "int") (rN X.K .int):=by
 intro pins s Z H xs us Q I r h;obtain⟨ds,g,ρ,R,rs,d',g',⟨rfl,h⟩,q⟩:=h;rcases h with⟨i,rfl,rfl⟩|⟨b,rfl,rfl⟩
 ·obtain⟨v,rfl,rv⟩:=rs.one;obtain rfl:=rv.j3;exact Ft pins s Z H _ us Q I r (.inl ⟨i,rfl,q.now R (.int _)⟩)
 ·obtain⟨v,rfl,rv⟩:=rs.one;obtain rfl:=rv.H9;exact Ft pins s Z H _ us Q I r (.inr ⟨b,rfl,q.now R (.int _)⟩)
def rM(K:PySem.W.Frag)(p:Pr):V->List V->Hp->VK->Prop:=λx xs H Q=>∃d ds g ρ,Rl K ρ g H/\c9 K ρ H d x/\b0 K ρ H ds xs/\cI p (d::ds) g (LQ K ρ H Q)
theorem U4{a b:D}{m:List D}(h:a::l=b::m):a=b/\l=m:=by cases h;exact⟨rfl,rfl⟩
theorem U':mQ X "list.append" (rM X.K .append):=by
 intro pins s Z H x xs v us Q I rx r h;obtain⟨d,ds,g,ρ,R,rd,rs,d',g',⟨a,y,l,ex,ha,hz,rfl,rfl⟩,q⟩:=h;obtain⟨rfl,rfl⟩:=U4 ex;obtain⟨a',rfl,ra⟩:=rd.i8;obtain⟨w,rfl,fj⟩:=rs.one;obtain⟨vs,z1,rv⟩:=R.lst ha ra;obtain⟨R2,e2⟩:=R.write ha ra (rv.append (.cons fj .nil));exact VJ pins s Z H _ _ v us Q I rx r ⟨_,vs,_,rfl,rfl,z1,by rw[<- rv.length];exact An hz,q ρ _ _ e2 R2 .bq⟩
theorem Xg(hc:X.calm=true):j8 X (.type "set") (rN X.K .pK):=by
 intro pins s Z H xs us Q I r h;obtain⟨ds,g,ρ,R,rs,d',g',⟨a,ns,rfl,ha,hz,rfl,rfl⟩,q⟩:=h;obtain⟨v,rfl,rv⟩:=rs.one;obtain⟨a',rfl,ra⟩:=rv.i8;obtain⟨vs,z1,rk⟩:=R.items ha ra;obtain rfl:=rk.ints;refine Tf hc pins s Z H _ us Q I r ⟨a',ns,rfl,z1,hz,λp hp=>?_⟩;exact q (ρ++[p]) _ _ (E1 hp) (R.new hp ⟨rfl,rfl⟩) (.ref (R.u5 p))
theorem Oj(hu:X.A.units+100<cLine):mQ X "dict.get" (rM X.K .get):=by
 intro pins s Z H x xs v us Q I rx r h;obtain⟨d,ds,g,ρ,R,rd,rs,d',g',⟨a,y,z,kvs,c,ex,ha,hc,rfl,rfl⟩,q⟩:=h;obtain⟨rfl,rfl⟩:=U4 ex;obtain⟨a',rfl,ra⟩:=rd.i8;obtain⟨w1,w2,rfl,r1,r2⟩:=rs.two;obtain⟨vs,z1,rv⟩:=R.eO ha ra;have:=R6 hc r1;subst this;obtain⟨u1,u2,rfl,p1,p2⟩:=vals2 r;cases rx;refine Od () I (L5.k z1) p1 p2 λw' s4 I4 fj=>⟨_,H,I4,fj,q.now R ?_⟩
 have q:=rv.val c;cases e1:u3 kvs c with
 |none =>
  rw[e1] at q;cases e2:F2 vs c with
  |none=>exact r2
  |some w=>rw[e2] at q;exact q.elim
 |some d' =>
  rw[e1] at q;obtain⟨w,hw,q⟩:=q.some
  simp_all
theorem Us:mQ X "list.pop" (rM X.K .pop):=by
 intro pins s Z H x xs v us Q I rx r h;obtain⟨d,ds,g,ρ,R,rd,rs,y,g',⟨a,i,l,k,ex,ha,h1,h2,hk,hy,rfl⟩,q⟩:=h;obtain⟨rfl,rfl⟩:=U4 ex;obtain⟨a',rfl,ra⟩:=rd.i8;obtain⟨w,rfl,fj⟩:=rs.one;obtain rfl:=fj.j3;obtain⟨vs,z1,rv⟩:=R.lst ha ra;obtain⟨w,hw,fj⟩:=rv.get hy;obtain⟨R2,e2⟩:=R.write ha ra (rv.erase k);exact Ud pins s Z H _ _ v us Q I rx r ⟨_,vs,i,k,w,rfl,rfl,z1,h1,h2,by rw[<- rv.length];exact hk,hw,q ρ _ _ e2 R2 (fj.ext e2)⟩
theorem b0.strs{K ρ H}{ys:List Str}(h:b0 K ρ H (ys.map D.str) vs):vs=ys.map V.str:=by
 induction ys generalizing vs with
 |nil=>cases h;rfl
 |cons y ys ih =>
  cases h with
  |cons q r=>cases q;rw[ih r];rfl
theorem ty_list(R:Rl X.K ρ g H)(r:c9 X.K ρ H d v)(h:∃a l,d=.ref a/\c8 g a=some l):mx X.K "list" v H:=by
 obtain⟨a,l,rfl,hl⟩:=h;obtain⟨a',rfl,ra⟩:=r.i8;obtain⟨vs,hq,_⟩:=R.items hl ra;exact .inl ⟨rfl,vs,hq⟩
theorem PL(hu:X.A.units+100<cLine):mQ X "dict.setdefault" (rM X.K .nv):=by
 intro pins s Z H x xs v us Q I rx r h;obtain⟨d,ds,g,ρ,R,rd,rs,d',g',⟨a,kvs,k,y,ex,ha,hz,h⟩,q⟩:=h;obtain⟨rfl,rfl⟩:=U4 ex;obtain⟨a',rfl,ra⟩:=rd.i8;obtain⟨w1,w2,rfl,r1,r2⟩:=rs.two;obtain⟨dx,z,rv⟩:=R.gq X ha ra;obtain⟨b,rfl,eb⟩:=As r1;obtain⟨u1,u2,rfl,p1,p2⟩:=vals2 r;cases rx;cases p1;have hv:=rv.val k;refine Vm () I z rv.sq eb.sq p2 (by rw[<- dP rv];exact hz) (λw hw w' s' I' fj=>?_) λhn s' I'=>?_
 ·rcases h with⟨h1,rfl⟩|⟨h1,_⟩
  ·rw[h1,hw] at hv;exact⟨w,H,I',fj,q.now R hv⟩
  ·rw[h1,hw] at hv;exact hv.elim
 ·rcases h with⟨h1,_⟩|⟨_,rfl,rfl⟩
  ·rw[h1,hn] at hv;exact hv.elim
  ·obtain⟨R2,e2⟩:=R.put (o':=.gq (kvs++[(k,d')])) (u:=mh X a' (dx++[(k.map Sum.inl,b,w2)])) ha rfl ra ⟨_,_,_,rfl,rv.snoc ⟨rfl,eb,r2⟩⟩;exact⟨w2,_,I',p2,q ρ _ _ e2 R2 (r2.ext e2)⟩
theorem Qv(R:Rl X.K ρ g H)(r:c9 X.K ρ H d v)(h:kZ .nv d g):mx X.K "dict" v H:=by
 obtain⟨a,l,rfl,hl⟩:=h;obtain⟨a',rfl,ra⟩:=r.i8;obtain⟨dx,hq,_⟩:=R.gq X hl ra;exact .inr (.inr (.inl ⟨rfl,.inr (.inr ⟨_,hq,λh ⟨_,_,o,_,_,_,e,ex,_⟩=>⟨o,e,ex⟩⟩)⟩))
theorem ty_dict(R:Rl X.K ρ g H)(r:c9 X.K ρ H d v)(h:kZ .get d g):mx X.K "dict" v H:=by
 obtain⟨a,l,rfl,hl⟩:=h;obtain⟨a',rfl,ra⟩:=r.i8;obtain⟨vs,hq,_⟩:=R.eO hl ra;exact .inr (.inr (.inl ⟨rfl,.inl ⟨vs,hq⟩⟩))
noncomputable abbrev gs:=List Str×XK
def LX(K:PySem.W.Frag)(ρ:List Addr)(H:Hp)(Ξ:gs):KX:=λx g'=>∀bQ H' C,Ext ρ H bQ H'->Rl K bQ g' H'->x.cls∈Ξ.1->m5 K x.cls C->Ξ.2 (.ref C) none H'
theorem LX.ext{K:PySem.W.Frag}{bU:List Addr}{H1:Hp}{Ξ:gs}(e:Ext ρ H bU H1){x:Xn}(h:LX K ρ H Ξ x g):LX K bU H1 Ξ x g:=λbQ H' C e' R hm c=>h bQ H' C (e.trans e') R hm c
noncomputable abbrev oS(ex:List Str):gs:=(ex,λ_ _ _=>False)
def LE(K:PySem.W.Frag)(Ξ:gs)(t:S->G->KD->KX->Prop):TE:=λbP H Q=>∃Z g ρ,l6 K ρ H Z bP/\Rl K ρ g H/\t Z g (LQ K ρ H Q) (LX K ρ H Ξ)
def LT(K:PySem.W.Frag)(Ξ:gs)(t:S->G->(Bool->G->Prop)->KX->Prop):TT:=λbP H Q=>∃Z g ρ,l6 K ρ H Z bP/\Rl K ρ g H/\t Z g (λb g'=>∀bQ H',Ext ρ H bQ H'->Rl K bQ g' H'->Q b H') (LX K ρ H Ξ)
def LA(K:PySem.W.Frag)(Ξ:gs)(t:S->G->(List D->G->Prop)->KX->Prop):TA:=λbP H Q=>∃Z g ρ,l6 K ρ H Z bP/\Rl K ρ g H/\t Z g (λds g'=>∀bQ H' vs,Ext ρ H bQ H'->Rl K bQ g' H'->b0 K bQ H' ds vs->Q vs H') (LX K ρ H Ξ)
def Y2(K:PySem.W.Frag)(gg:List Addr)(H0:Hp)(k:IK)(J:It):Prop:=∀ρ g H,Ext gg H0 ρ H->Rl K ρ g H->∀i,(k.at i g=some none->J.stop i H) /\
 ∀d,k.at i g=some (some d)->J.go i H/\∀v H',J.qL i H v H'->Ext ρ H ρ H'/\Rl K ρ g H'/\c9 K ρ H' d v
def LI(K:PySem.W.Frag)(Ξ:gs)(t:S->G->(IK->G->Prop)->KX->Prop):TI:=λbP H R=>∃Z g ρ,l6 K ρ H Z bP/\Rl K ρ g H/\t Z g (λk g'=>∀bQ H' J,Ext ρ H bQ H'->Rl K bQ g' H'->Y2 K bQ H' k J->R J H') (LX K ρ H Ξ)
def LG(K:PySem.W.Frag)(t:MT):TG:=λv bP H Q=>∃d Z g ρ,l6 K ρ H Z bP/\Rl K ρ g H/\c9 K ρ H d v/\jl t d Z (λcb=>∀dA,l6 K ρ H cb dA->Q dA H)
def LN(K:PySem.W.Frag)(ρ:List Addr)(H:Hp)(N:L2.Ends):Ends where
 nx:=λcb g'=>∀bQ H' dA,Ext ρ H bQ H'->Rl K bQ g' H'->l6 K bQ H' cb dA->N.nx dA H'
 rt:=LQ K ρ H N.rt
 bk:=λcb g'=>∀bQ H' dA,Ext ρ H bQ H'->Rl K bQ g' H'->l6 K bQ H' cb dA->N.bk dA H'
 ct:=λcb g'=>∀bQ H' dA,Ext ρ H bQ H'->Rl K bQ g' H'->l6 K bQ H' cb dA->N.ct dA H'
def LS(K:PySem.W.Frag)(Ξ:gs)(t:Ends->S->G->KX->Prop):TS:=λN bP H=>∃Z g ρ,l6 K ρ H Z bP/\Rl K ρ g H/\t (LN K ρ H N) Z g (LX K ρ H Ξ)
end M
namespace L2
open PySem PySem.Spec PyProof.Rows
variable{t t':TT}
section
variable{X:Cx}{e:Expr}
theorem PE.imp{t t':TE}(h:PE X e t)(i:∀Z H Q,t' Z H Q->t Z H Q):PE X e t':=λpins s Z H Q I q=>h pins s Z H Q I (i Z H Q q)
theorem PT.imp(h:PT X e t)(i:∀Z H Q,t' Z H Q->t Z H Q):PT X e t':=λpins s Z H Q I q=>h pins s Z H Q I (i Z H Q q)
theorem PW.imp(h:PW X e t)(i:∀Z H Q,t' Z H Q->t Z H Q):PW X e t':=λw pins s Z H Q I q=>h w pins s Z H Q I (i Z H Q q)
theorem PA.imp{es:List Expr}{t t':TA}(h:PA X es t)(i:∀Z H Q,t' Z H Q->t Z H Q):PA X es t':=λp pins s Z H Q I q=>h p pins s Z H Q I (i Z H Q q)
theorem ly.imp{es:List Expr}(h:ly X es t)(i:∀Z H Q,t' Z H Q->t Z H Q):ly X es t':=λpins s Z H Q I q=>h pins s Z H Q I (i Z H Q q)
theorem PI.imp{tg:Expr}{t t':TI}(h:PI X tg e t)(i:∀Z H Q,t' Z H Q->t Z H Q):PI X tg e t':=λpins s Z H Q I q=>h pins s Z H Q I (i Z H Q q)
theorem PG.imp{t t':TG}(h:PG X e t)(i:∀v Z H Q,t' v Z H Q->t v Z H Q):PG X e t':=λpins s Z H v u Q I r q=>h pins s Z H v u Q I r (i v Z H Q q)
theorem PS.imp{st:Stmt}{t t':TS}(h:PS X st t)(i:∀N Z H,t' N Z H->t N Z H):PS X st t':=λpins s Z H N I q=>h pins s Z H N I (i N Z H q)
theorem iZ.imp{st:List Stmt}{t t':TS}(h:iZ X st t)(i:∀N Z H,t' N Z H->t N Z H):iZ X st t':=λpins s Z H N I q=>h pins s Z H N I (i N Z H q)
end
end L2
namespace M
open PySem L2 PySem.Spec PyProof.Rows
variable{Ξ:gs}{P:eT}{Z:S}{g:G}{m:DX}{X:Cx}{a:Expr}{ma ic:ME}{pos p2 q gZ:Pos}{op gJ:CmpOp}{rest es:List Expr}
section
variable{K:PySem.W.Frag}(hP:i4 P){ρ gg:List Addr}{H H0:Hp}{bP:L2.St}{m:ME}
include hP
theorem fe{Q0:KD}{Q:VK}(s:l6 K ρ H Z bP)(R:Rl K ρ g H)(e0:Ext gg H0 ρ H)(h:aS P m Z g Q0 (LX K gg H0 Ξ))(k:∀x g1 bU H1 v1,Ext ρ H bU H1->Rl K bU g1 H1->c9 K bU H1 x v1->Q0 x g1->Q v1 H1):LE K Ξ (aS P m) bP H Q :=
 ⟨Z,g,ρ,s,R,b7 hP m _ _ _ _ _ _ (λx g1 h bU H1 v1 e1 R1 r1=>k x g1 bU H1 v1 e1 R1 r1 h) (λ_ _ z=>LX.ext e0 z) h⟩
theorem jO{Q0:List D->G->Prop}{Q:List V->Hp->Prop}(s:l6 K ρ H Z bP)(R:Rl K ρ g H)(e0:Ext gg H0 ρ H)(h:fT P m Z g Q0 (LX K gg H0 Ξ))(k:∀x g1 bU H1 v1,Ext ρ H bU H1->Rl K bU g1 H1->b0 K bU H1 x v1->Q0 x g1->Q v1 H1):LA K Ξ (fT P m) bP H Q :=
 ⟨Z,g,ρ,s,R,C9 hP m _ _ _ _ _ _ (λx g1 h bU H1 v1 e1 R1 r1=>k x g1 bU H1 v1 e1 R1 r1 h) (λ_ _ z=>LX.ext e0 z) h⟩
theorem pq{Q0:Bool->G->Prop}{Q:Bool->Hp->Prop}(s:l6 K ρ H Z bP)(R:Rl K ρ g H)(e0:Ext gg H0 ρ H)(h:dG P m Z g Q0 (LX K gg H0 Ξ))(k:∀t g1 bU H1,Ext ρ H bU H1->Rl K bU g1 H1->Q0 t g1->Q t H1):LT K Ξ (dG P m) bP H Q :=
 ⟨Z,g,ρ,s,R,o7 hP m _ _ _ _ _ _ (λt g1 h bU H1 e1 R1=>k t g1 bU H1 e1 R1 h) (λ_ _ z=>LX.ext e0 z) h⟩
theorem sv{ms:MS}{N:L2.Ends}{N0:Ends}(s:l6 K ρ H Z bP)(R:Rl K ρ g H)(e0:Ext gg H0 ρ H)(h:wpS P ms N0 Z g (LX K gg H0 Ξ))(k:N0.le (LN K ρ H N)):LS K Ξ (wpS P ms) N bP H :=
 ⟨Z,g,ρ,s,R,wpS_mono hP ms _ _ _ _ _ _ k (λ_ _ z=>LX.ext e0 z) h⟩
end
theorem b0.kX{K ρ H}(lo:Int)(n:Nat):b0 K ρ H (k6 lo n) ((List.range n).map λ(k:Nat)=>V.int (lo+k)):=by
 have:∀l:List Nat,b0 K ρ H (l.map λ(k:Nat)=>D.int (lo+k)) (l.map λ(k:Nat)=>V.int (lo+k)):=by
  intro l
  induction l with
  |nil=>exact .nil
  |cons x r ih=>exact .cons (.int _) ih
 exact this _
section
variable(hP:i4 P){b c e:Expr}{mb mc:ME}{p:Pr}
include hP
theorem zQ(h:PE X e (qN (r2 X.K p) (LE X.K Ξ (aS P ma)) (LE X.K Ξ (aS P mb)))):PE X e (LE X.K Ξ (aS P (.prim p (.cons ma (.cons mb .nil))))) :=
 h.imp λbP H Q bp=>by
  obtain⟨Z,g,ρ,s,R,h⟩:=bp;exact fe hP s R (.refl _ _) h λx g1 bU H1 v1 e1 R1 r1 h=>fe hP (s.ext e1) R1 e1 h λy g2 fc H2 v2 e2 R2 r2 h =>
   ⟨x,y,g2,fc,R2,r1.ext e2,r2,o5 (λd g' h=>h.ext (e1.trans e2)) h⟩
theorem Qi(h:PT X e (Bg (qN (r2 X.K (.cmp op)) (LE X.K Ξ (aS P ma)) (LE X.K Ξ (aS P mb))))):PT X e (LT X.K Ξ (dG P (.fh (.prim (.cmp op) (.cons ma (.cons mb .nil)))))) :=
 h.imp λbP H Q bp=>by
  obtain⟨Z,g,ρ,s,R,h⟩:=bp;refine fe hP s R (.refl _ _) h λx g1 bU H1 v1 e1 R1 r1 h=>fe hP (s.ext e1) R1 e1 h λy g2 fc H2 v2 e2 R2 r2 h=>?_;obtain⟨d',g',h,q⟩:=h;obtain⟨x',y',t,ex,hc,rfl,rfl⟩:=id h;refine⟨x,y,g',fc,R2,r1.ext e2,r2,_,_,h,λbQ H' v e' R' r'=>?_⟩;obtain⟨t',ht,q⟩:=q;rcases ht with⟨z,_⟩|z|⟨i,z,_⟩|⟨l,z,_⟩|⟨a,l,z,_⟩<;>cases z
  exact⟨_,r'.H9,q bQ H' (e1.trans (e2.trans e')) R'⟩
theorem Nx{op:UnaryOp}(ha:PE X a (LE X.K Ξ (aS P ma))):PE X (.UnaryOp op a pos) (LE X.K Ξ (aS P (.prim (.un op) (.cons ma .nil)))) :=
 (Np (Ni op) ha).imp λbP H Q bp=>by
  obtain⟨Z,g,ρ,s,R,h⟩:=bp;exact fe hP s R (.refl _ _) h λx g1 bU H1 v1 e1 R1 r1 h=>⟨x,g1,bU,R1,r1,o5 (λd g' h=>h.ext e1) h⟩
theorem EG:∀bP H Q,LE X.K Ξ (aS P (.chain op gJ ma mb mc)) bP H Q->zS (r2 X.K (.cmp op)) (r2 X.K (.cmp gJ)) (LE X.K Ξ (aS P ma)) (LE X.K Ξ (aS P mb)) (LE X.K Ξ (aS P mc)) bP H Q:=λbP H Q bp=>by
 obtain⟨Z,g,ρ,s,R,h⟩:=bp;refine fe hP s R (.refl _ _) h λx g1 bU H1 v1 e1 R1 r1 h=>fe hP (s.ext e1) R1 e1 h λy g2 fc H2 v2 e2 R2 r2 h=>?_;refine⟨x,y,g2,fc,R2,r1.ext e2,r2,o5 (λd g3 h kP H3 v3 e3 R3 r3=>?_) h⟩;obtain⟨t,rfl,h⟩:=h;obtain rfl:=r3.H9;refine⟨t,rfl,?_⟩;cases t
 ·exact h kP H3 _ (e1.trans (e2.trans e3)) R3 (.bl _)
 ·exact fe hP (s.ext (e1.trans (e2.trans e3))) R3 (e1.trans (e2.trans e3)) h λz g4 rZ H4 v4 e4 R4 r4 h =>
   ⟨y,z,g4,rZ,R4,r2.ext (e3.trans e4),r4,o5 (λd g' h=>h.ext (e1.trans (e2.trans (e3.trans e4)))) h⟩
theorem UB(hu:X.A.units+100<cLine)(ha:PE X a (LE X.K Ξ (aS P ma)))(hb:PE X b (LE X.K Ξ (aS P mb)))(hc:PE X c (LE X.K Ξ (aS P mc)))(hm:lastMarks [op,gJ] [b,c]=false) :
  PE X (.Compare a [op,gJ] [b,c] pos) (LE X.K Ξ (aS P (.chain op gJ ma mb mc))):=(Uk (Q9 hu op) (Q9 hu gJ) ha hb hc hm).imp (EG hP)
theorem Tw{Q:Bool->G->Prop}{E:KX}(h:dG P (.fh (.chain op gJ ma mb mc)) Z g Q E):aS P (.chain op gJ ma mb mc) Z g (λd g'=>∃t,d=.bl t/\Q t g') E:=by
 have one:∀{o:CmpOp} {xs:List D} {g:G},cI (.cmp o) xs g (λd g1=>V7 g1 d λb=>Q b g1)->cI (.cmp o) xs g λd g'=>∃t,d=.bl t/\Q t g':=by
  intro o xs g h;obtain⟨d',g',h,t',ht,q⟩:=h;obtain⟨x',y',t,ex,hc,rfl,rfl⟩:=id h;refine⟨_,_,h,t',?_,q⟩;rcases ht with⟨z,_⟩|z|⟨i,z,_⟩|⟨l,z,_⟩|⟨a,l,z,_⟩<;>first|exact z|cases z
 refine b7 hP ma _ _ _ _ _ _ (λx g1 h=>b7 hP mb _ _ _ _ _ _ (λy g2 h=>o5 (λz g3 h=>?_) h) (λ_ _ z=>z) h) (λ_ _ z=>z) h;obtain⟨t,rfl,h⟩:=h;refine⟨t,rfl,?_⟩;cases t
 ·obtain⟨b,hb,q⟩:=(show V7 g3 (.bl false) λb=>Q b g3 from h)
  rcases hb with⟨z,_⟩|z|⟨i,z,_⟩|⟨l,z,_⟩|⟨a,l,z,_⟩<;>first|(cases z;exact⟨_,rfl,q⟩)|cases z
 ·exact b7 hP mc _ _ _ _ _ _ (λw g4 h=>one h) (λ_ _ z=>z) h
theorem UO(hu:X.A.units+100<cLine)(ha:PE X a (LE X.K Ξ (aS P ma)))(hb:PE X b (LE X.K Ξ (aS P mb)))(hc:PE X c (LE X.K Ξ (aS P mc)))(hm:lastMarks [op,gJ] [b,c]=false) :
  PT X (.Compare a [op,gJ] [b,c] pos) (LT X.K Ξ (dG P (.fh (.chain op gJ ma mb mc)))) :=
 (Uv (Q9 hu op) (Q9 hu gJ) ha hb hc hm).imp λbP H Q ⟨Z,g,ρ,s,R,h⟩ =>
  EG hP bP H _ (fe hP s R (.refl _ _) (Tw hP h) λx g1 bU H1 v1 e1 R1 r1 h=>by
   obtain⟨t,rfl,h⟩:=h;exact ⟨t,r1.H9,h bU H1 e1 R1⟩)
theorem PQ(ha:PE X a (LE X.K Ξ (aS P ma)))(hb:PE X (.BoolOp .And (b::rest) pos) (LE X.K Ξ (aS P mb))):PE X (.BoolOp .And (a::b::rest) pos) (LE X.K Ξ (aS P (.dI ma mb))) :=
 (Pb ha hb).imp λbP H Q bp=>by
  obtain⟨Z,g,ρ,s,R,h⟩:=bp;refine fe hP s R (.refl _ _) h λx g1 bU H1 v1 e1 R1 r1 h=>?_;obtain⟨t,rfl,h⟩:=h;refine⟨t,r1.H9,?_⟩;cases t
  ·exact h bU H1 _ e1 R1 (.bl _)
  ·exact fe hP (s.ext e1) R1 e1 h λy g2 fc H2 v2 e2 R2 r2 h=>h fc H2 v2 (e1.trans e2) R2 r2
theorem Nw(ha:PE X a (LE X.K Ξ (aS P ma)))(hb:PE X (.BoolOp .Or (b::rest) pos) (LE X.K Ξ (aS P mb))):PE X (.BoolOp .Or (a::b::rest) pos) (LE X.K Ξ (aS P (.jm ma mb))) :=
 (Nn ha hb).imp λbP H Q bp=>by
  obtain⟨Z,g,ρ,s,R,h⟩:=bp;refine fe hP s R (.refl _ _) h λx g1 bU H1 v1 e1 R1 r1 h=>?_;obtain⟨t,rfl,h⟩:=h;refine⟨t,r1.H9,?_⟩;cases t
  ·exact fe hP (s.ext e1) R1 e1 h λy g2 fc H2 v2 e2 R2 r2 h=>h fc H2 v2 (e1.trans e2) R2 r2
  ·exact h bU H1 _ e1 R1 (.bl _)
theorem PZ(ha:PE X a (LE X.K Ξ (aS P ma))):PE X (.UnaryOp .Not a pos) (LE X.K Ξ (aS P (.dQ ma))) :=
 (Pj ha).imp λbP H Q bp=>by
  obtain⟨Z,g,ρ,s,R,h⟩:=bp;refine fe hP s R (.refl _ _) h λx g1 bU H1 v1 e1 R1 r1 h=>?_;obtain⟨t,rfl,h⟩:=h;exact⟨t,r1.H9,h bU H1 _ e1 R1 (.bl _)⟩
theorem PY(hc:PT X c (LT X.K Ξ (dG P mc)))(ha:PE X a (LE X.K Ξ (aS P ma)))(hb:PE X b (LE X.K Ξ (aS P mb))):PE X (.IfExp c a b pos) (LE X.K Ξ (aS P (.ite mc ma mb))) :=
 (Uo hc ha hb).imp λbP H Q bp=>by
  obtain⟨Z,g,ρ,s,R,h⟩:=bp;refine pq hP s R (.refl _ _) h λt g1 bU H1 e1 R1 h=>?_;cases t
  ·exact fe hP (s.ext e1) R1 e1 h λy g2 fc H2 v2 e2 R2 r2 h=>h fc H2 v2 (e1.trans e2) R2 r2
  ·exact fe hP (s.ext e1) R1 e1 h λy g2 fc H2 v2 e2 R2 r2 h=>h fc H2 v2 (e1.trans e2) R2 r2
theorem Qa{k:Nat}(h:PA X es (LA X.K Ξ (fT P ic))):PE X (.Tuple es k pos) (LE X.K Ξ (aS P (.prim .tup ic))) :=
 (Pm h).imp λbP H Q bp=>by
  obtain⟨Z,g,ρ,s,R,h⟩:=bp;refine jO hP s R (.refl _ _) h λds g1 bU H1 vs e1 R1 r1 h=>?_;obtain⟨d',g',⟨hz,rfl,rfl⟩,q⟩:=h;exact⟨by rw[<- r1.length];exact F8 (aE hz ∅),λp hp=>(q.ext e1).tup R1 hp r1⟩
theorem GQ(h:PA X es (LA X.K Ξ (fT P ic))):PE X (.List es pos) (LE X.K Ξ (aS P (.prim .lst ic))) :=
 (Pf h).imp λbP H Q bp=>by
  obtain⟨Z,g,ρ,s,R,h⟩:=bp;refine jO hP s R (.refl _ _) h λds g1 bU H1 vs e1 R1 r1 h=>?_;obtain⟨d',g',⟨hz,rfl,rfl⟩,q⟩:=h;exact⟨by rw[<- r1.length];exact F8 (aE hz ∅),λp hp=>(q.ext e1).new R1 hp r1⟩
theorem F5:PA X [] (LA X.K Ξ (fT P .nil)) :=
 (K7).imp λbP H Q bp=>by
  obtain⟨Z,g,ρ,s,R,h⟩:=bp;exact h ρ H [] (.refl _ _) R .nil
theorem v7(ha:PE X a (LE X.K Ξ (aS P ma)))(h:PA X es (LA X.K Ξ (fT P ic)))(hs:starEach (a::es) X.env=(false,eval a X.env)::starEach es X.env):PA X (a::es) (LA X.K Ξ (fT P (.cons ma ic))) :=
 (E5 ha h hs).imp λbP H Q bp=>by
  obtain⟨Z,g,ρ,s,R,h⟩:=bp;exact fe hP s R (.refl _ _) h λx g1 bU H1 v1 e1 R1 r1 h=>jO hP (s.ext e1) R1 e1 h λxs g2 fc H2 vs e2 R2 r2 h=>h fc H2 _ (e1.trans e2) R2 (.cons (r1.ext e2) r2)
theorem UJ(ha:PE X a (LE X.K Ξ (aS P ma)))(hb:PE X b (LE X.K Ξ (aS P mb))):PE X (.Subscript a (.Slice (some b) none none p2) pos) (LE X.K Ξ (aS P (.prim (.kE true false) (.cons ma (.cons mb .nil))))) :=
 (EY HR ha (Et hb) Es).imp λbP H Q bp=>by
  obtain⟨Z,g,ρ,s,R,h⟩:=bp;refine fe hP s R (.refl _ _) h λx g1 bU H1 v1 e1 R1 r1 h=>fe hP (s.ext e1) R1 e1 h λy g2 fc H2 v2 e2 R2 r2 h=>?_;obtain⟨d',g',⟨x',i,ex,h⟩,q⟩:=h;cases ex;exact⟨i,r2.j3,x,g2,fc,d',g',R2,r1.ext e2,h,q.ext (e1.trans e2)⟩
theorem UI(ha:PE X a (LE X.K Ξ (aS P ma)))(hb:PE X b (LE X.K Ξ (aS P mb))):PE X (.Subscript a (.Slice none (some b) none p2) pos) (LE X.K Ξ (aS P (.prim (.kE false true) (.cons ma (.cons mb .nil))))) :=
 (EY HR ha Es (Et hb)).imp λbP H Q bp=>by
  obtain⟨Z,g,ρ,s,R,h⟩:=bp;refine fe hP s R (.refl _ _) h λx g1 bU H1 v1 e1 R1 r1 h=>fe hP (s.ext e1) R1 e1 h λy g2 fc H2 v2 e2 R2 r2 h=>?_;obtain⟨d',g',⟨x',i,ex,h⟩,q⟩:=h;cases ex;exact⟨i,r2.j3,x,g2,fc,d',g',R2,r1.ext e2,h,q.ext (e1.trans e2)⟩
theorem Qj(ha:PE X a (LE X.K Ξ (aS P ma)))(he:∀whole,isTrue a X.env whole=(do let v <- whole;standAt a.pos;holding [v] (truthy v))):PT X a (LT X.K Ξ (dG P (.fh ma))) :=
 (Uw ha he).imp λbP H Q bp=>by
  obtain⟨Z,g,ρ,s,R,h⟩:=bp;refine fe hP s R (.refl _ _) h λx g1 bU H1 v1 e1 R1 r1 h=>?_;obtain⟨b,h1,h2⟩:=h;exact⟨b,Qs R1 r1 h1,h2 bU H1 e1 R1⟩
theorem Qh(ha:PT X a (LT X.K Ξ (dG P ma))):PT X (.UnaryOp .Not a pos) (LT X.K Ξ (dG P (.dQ ma))) :=
 (Pz ha).imp λbP H Q bp=>by
  obtain⟨Z,g,ρ,s,R,h⟩:=bp;exact pq hP s R (.refl _ _) h λt g1 bU H1 e1 R1 h=>h bU H1 e1 R1
theorem Qk(ha:PT X a (LT X.K Ξ (dG P ma)))(hb:PW X (.BoolOp .And (b::rest) pos) (LT X.K Ξ (dG P mb))):PW X (.BoolOp .And (a::b::rest) pos) (LT X.K Ξ (dG P (.dI ma mb))) :=
 (PD ha hb).imp λbP H Q bp=>by
  obtain⟨Z,g,ρ,s,R,h⟩:=bp;refine pq hP s R (.refl _ _) h λt g1 bU H1 e1 R1 h=>?_;cases t
  ·exact h bU H1 e1 R1
  ·exact pq hP (s.ext e1) R1 e1 h λt g2 fc H2 e2 R2 h=>h fc H2 (e1.trans e2) R2
theorem NB(ha:PT X a (LT X.K Ξ (dG P ma)))(hb:PW X (.BoolOp .Or (b::rest) pos) (LT X.K Ξ (dG P mb))):PW X (.BoolOp .Or (a::b::rest) pos) (LT X.K Ξ (dG P (.jm ma mb))) :=
 (Nt ha hb).imp λbP H Q bp=>by
  obtain⟨Z,g,ρ,s,R,h⟩:=bp;refine pq hP s R (.refl _ _) h λt g1 bU H1 e1 R1 h=>?_;cases t
  ·exact pq hP (s.ext e1) R1 e1 h λt g2 fc H2 e2 R2 h=>h fc H2 (e1.trans e2) R2
  ·exact h bU H1 e1 R1
theorem Ym:ly X [] (LT X.K Ξ (dG P .no)) :=
 (XM).imp λbP H Q bp=>by
  obtain⟨Z,g,ρ,s,R,h⟩:=bp;exact h ρ H (.refl _ _) R
theorem PU{x:Str}{v:Value}(hv:(∃id,v=.builtin id)\/∃T,v=.type T)(hc:j8 X v (rN X.K p))(hg:Gl X x)(hm:X.mg x=none)(hb:bootBuiltins x=some v)(ha:PA X (e::es) (LA X.K Ξ (fT P ic)))(hn:x≠"__name__")(hd:(x==("__debug__":Str))=false)(dz:starEach (e::es) X.env=(false,eval e X.env)::starEach es X.env)(fN:(backTo pos (starEach es X.env)).any (·.1)=false):PE X (.Call (.Name x q) (e::es) [] pos) (LE X.K Ξ (aS P (.prim p ic))):=by
 have base:PE X (.Call (.Name x q) (e::es) [] pos) (qO (rN X.K p) (LA X.K Ξ (fT P ic))):=by
  rcases hv with⟨id,rfl⟩|⟨T,rfl⟩
  ·exact T2 hc hg hm hb ha hn hd dz fN
  ·exact E4 hc hg hm hb ha hn hd dz fN
 refine base.imp λbP H Q bp=>?_;obtain⟨Z,g,ρ,s,R,h⟩:=bp;exact jO hP s R (.refl _ _) h λxs g1 bU H1 vs e1 R1 r1 h=>⟨xs,g1,bU,R1,r1,o5 (λd g' h=>h.ext e1) h⟩
theorem XZ{o:Expr}{mo:ME}{T:String}{name:Str}{id:String}{apos:Pos}(pa:PlainAttrs T)(slot:Slot T name id)(iW:typeOf (.builtin id)=pure (.type "method_descriptor"))(hm:mQ X id (rM X.K p))(hk:∀{d:D} {v:V} {g:G} {ρ:List Addr} {H:Hp},Rl X.K ρ g H->c9 X.K ρ H d v->kZ p d g->mx X.K T v H)(ho:PE X o (LE X.K Ξ (aS P mo)))(ha:PA X (e::es) (LA X.K Ξ (fT P ic)))(iz:attributeBase o name X.env (eval o X.env)=eval o X.env)(pS:((backTo pos (starEach (e::es) X.env)).all (λx=>!x.1)&&(backToKw pos (keywordEach [] X.env)).all (λx=>x.1.isSome)&&decide ((e::es).length+([]:List Keyword).length+(if([]:List Keyword).isEmpty then 0 else 1)<30))=true)(iy:(apos.endLine==pos.line)=true)(hs:starEach (e::es) X.env=(false,eval e X.env)::starEach es X.env)(fM:(backTo pos (starEach es X.env)).any (·.1)=false) :
  PE X (.Call (.Attribute o name apos) (e::es) [] pos) (LE X.K Ξ (aS P (.eI p mo ic))) :=
 (Nl pa slot iW hm ho ha iz pS iy hs fM).imp λbP H Q bp=>by
  obtain⟨Z,g,ρ,s,R,h⟩:=bp;exact fe hP s R (.refl _ _) h λx g1 bU H1 v1 e1 R1 r1 h=>⟨hk R1 r1 h.1,jO hP (s.ext e1) R1 e1 h.2 λxs g2 fc H2 ws e2 R2 r2 h =>
   ⟨x,xs,g2,fc,R2,r1.ext e2,r2,o5 (λd g' h=>h.ext (e1.trans e2)) h⟩⟩
theorem UG{o:Expr}{mo:ME}{T:String}{name:Str}{id:String}{apos:Pos}(pa:PlainAttrs T)(slot:Slot T name id)(iW:typeOf (.builtin id)=pure (.type "method_descriptor"))(hm:mQ X id (rM X.K p))(hk:∀{d:D} {v:V} {g:G} {ρ:List Addr} {H:Hp},Rl X.K ρ g H->c9 X.K ρ H d v->kZ p d g->mx X.K T v H)(ho:PE X o (LE X.K Ξ (aS P mo)))(iz:attributeBase o name X.env (eval o X.env)=eval o X.env)(iy:(apos.endLine==pos.line)=true) :
  PE X (.Call (.Attribute o name apos) [] [] pos) (LE X.K Ξ (aS P (.eI p mo .nil))) :=
 (Pc pa slot iW hm ho iz iy).imp λbP H Q bp=>by
  obtain⟨Z,g,ρ,s,R,h⟩:=bp;exact fe hP s R (.refl _ _) h λx g1 bU H1 v1 e1 R1 r1 h=>⟨hk R1 r1 h.1,x,[],g1,bU,R1,r1,.nil,o5 (λd g' h=>h.ext e1) h.2⟩
theorem UC(hc:X.calm=true)(ha:PE X a (LE X.K Ξ (aS P ma)))(jG:Gl X "list")(jF:X.mg "list"=none)(hg:Gl X "range")(hm:X.mg "range"=none)(hs:starEach [a] X.env=[(false,eval a X.env)]) :
  PE X (.Call (.Name "list" p2) [.Call (.Name "range" q) [a] [] pos] [] gZ) (LE X.K Ξ (aS P (.prim .jz (.cons ma .nil)))) :=
 (E4 (V2 hc) jG jF (by rfl) (E5 (VQ hg hm (v7 hP ha (F5 hP) (by rw[hs];rfl)) hs) K7)).imp λbP H Q bp=>by
  obtain⟨Z,g,ρ,s,R,h⟩:=bp;refine jO hP s R (.refl _ _) h λxs g1 bU H1 vs e1 R1 r1 h=>?_;obtain⟨d',g',⟨j,rfl,h1,h2,rfl,rfl⟩,q⟩:=h;obtain⟨v,rfl,rv⟩:=r1.one;obtain rfl:=rv.j3;refine⟨j,rfl,λq' hq=>⟨q',0,j,rfl,m9,⟨by omega,by omega,h1,by omega,by omega⟩,λp hp=>?_⟩⟩;rw[show(j-0).toNat=j.toNat by omega];exact(q.ext (e1.trans (t4 hq))).new (R1.grow hq) hp (b0.kX 0 _)
theorem UD(hc:X.calm=true)(ha:PE X a (LE X.K Ξ (aS P ma)))(hb:PE X b (LE X.K Ξ (aS P mb)))(jG:Gl X "list")(jF:X.mg "list"=none)(hg:Gl X "range")(hm:X.mg "range"=none)(hs:starEach [a,b] X.env=[(false,eval a X.env),(false,eval b X.env)])(iD:starEach [b] X.env=[(false,eval b X.env)]) :
  PE X (.Call (.Name "list" p2) [.Call (.Name "range" q) [a,b] [] pos] [] gZ) (LE X.K Ξ (aS P (.prim .jy (.cons ma (.cons mb .nil))))) :=
 (E4 (V2 hc) jG jF (by rfl) (E5 (VR hg hm (v7 hP ha (v7 hP hb (F5 hP) (by rw[iD];rfl)) (by rw[hs,iD])) hs iD) K7)).imp λbP H Q bp=>by
  obtain⟨Z,g,ρ,s,R,h⟩:=bp;refine jO hP s R (.refl _ _) h λxs g1 bU H1 vs e1 R1 r1 h=>?_;obtain⟨d',g',⟨i,j,rfl,hb,rfl,rfl⟩,q⟩:=h;obtain⟨v,w,rfl,rv,fj⟩:=r1.two;obtain rfl:=rv.j3;obtain rfl:=fj.j3;exact⟨i,j,rfl,λq' hq=>⟨q',i,j,rfl,m9,hb,λp hp=>(q.ext (e1.trans (t4 hq))).new (R1.grow hq) hp (b0.kX i _)⟩⟩
theorem X'(hc:X.calm=true)(ha:PE X a (LE X.K Ξ (aS P ma)))(jG:Gl X "sorted")(jF:X.mg "sorted"=none)(hg:Gl X "set")(hm:X.mg "set"=none)(hs:starEach [a] X.env=[(false,eval a X.env)]) :
  PE X (.Call (.Name "sorted" p2) [.Call (.Name "set" q) [a] [] pos] [] gZ) (LE X.K Ξ (aS P (.prim .sset (.cons ma .nil)))) :=
 (T2 (Tu hc) jG jF (by rfl) (E5 (E4 (X8 hc) hg hm (by rfl) (v7 hP ha (F5 hP) (by rw[hs];rfl)) ∅ ∅ (by rw[hs];rfl) rfl) K7)).imp λbP H Q bp=>by
  obtain⟨Z,g,ρ,s,R,h⟩:=bp;refine jO hP s R (.refl _ _) h λxs g1 bU H1 vs e1 R1 r1 h=>?_;obtain⟨d',g',⟨i,ns,rfl,hl,hz,rfl,rfl⟩,q⟩:=h;obtain⟨v,rfl,rv⟩:=r1.one;obtain⟨a',rfl,ra⟩:=rv.i8;obtain⟨ws,hq,rs⟩:=R1.items hl ra;obtain rfl:=rs.ints;refine⟨_,ns,rfl,hq,hz,λq' kH=>⟨q',ns,rfl,m9,hz,λp hp=>?_⟩⟩;exact(q.ext (e1.trans (t4 kH))).new (R1.grow kH) hp (b0.ofInts _)
theorem XX(hc:X.calm=true)(ha:PE X a (LE X.K Ξ (aS P ma)))(jG:Gl X "len")(jF:X.mg "len"=none)(hg:Gl X "set")(hm:X.mg "set"=none)(hs:starEach [a] X.env=[(false,eval a X.env)]) :
  PE X (.Call (.Name "len" p2) [.Call (.Name "set" q) [a] [] pos] [] gZ) (LE X.K Ξ (aS P (.prim .rH (.cons ma .nil)))) :=
 (T2 Te jG jF iG (E5 (E4 (X8 hc) hg hm (by rfl) (v7 hP ha (F5 hP) (by rw[hs];rfl)) ∅ ∅ (by rw[hs];rfl) rfl) K7)).imp λbP H Q bp=>by
  obtain⟨Z,g,ρ,s,R,h⟩:=bp;refine jO hP s R (.refl _ _) h λxs g1 bU H1 vs e1 R1 r1 h=>?_;obtain⟨d',g',⟨i,ns,rfl,hl,hz,rfl,rfl⟩,q⟩:=h;obtain⟨v,rfl,rv⟩:=r1.one;obtain⟨a',rfl,ra⟩:=rv.i8;obtain⟨ws,hq,rs⟩:=R1.items hl ra;obtain rfl:=rs.ints;refine⟨_,ns,rfl,hq,by omega,λq' kH=>⟨q',_,rfl,m9,?_⟩⟩;exact(q.ext (e1.trans (t4 kH))).now (R1.grow kH) (.int _)
theorem PV{f:Str}(ha:PE X a (LE X.K Ξ (aS P ma)))(hb:attributeBase a f X.env (eval a X.env)=eval a X.env):PE X (.Attribute a f pos) (LE X.K Ξ (aS P (.prim (.fld f) (.cons ma .nil)))) :=
 (Pe ha hb).imp λbP H Q bp=>by
  obtain⟨Z,g,ρ,s,R,h⟩:=bp;refine fe hP s R (.refl _ _) h λx g1 bU H1 v1 e1 R1 r1 h=>?_;obtain⟨d',g',⟨i,c,fs,ex,hi,hf,rfl⟩,q⟩:=h;cases ex;obtain⟨a',rfl,ra⟩:=r1.i8;obtain⟨C,dx,vs,hH,_,hC,rk,na⟩:=R1.ins hi ra;have lk:=rk.look f;rw[hf] at lk;obtain⟨v,hv,rv⟩:=lk.some;exact⟨a',C,dx,vs,v,rfl,hH,hC,na _ (aK hf),hv,q bU H1 v e1 R1 rv⟩
end
theorem Qb{i:Nat}{x:Str}(hN:X.N[i]?=some x)(hv:wY X.env.scope x)(hd:(x==("__debug__":Str))=false)(kL:(x==("__classdict__":Str))=false):PE X (.Name x pos) (LE X.K Ξ (aS P (.var i))) :=
 (Pn hN hv hd kL).imp λbP H Q bp=>by
  obtain⟨Z,g,ρ,s,R,h⟩:=bp;obtain⟨d,e,h⟩:=h;obtain⟨v,h1,h2⟩:=s.val _ _ e;exact⟨v,h1,h.now R h2⟩
theorem Q7{e:Expr}{d:D}{v:V}(h:PE X e (tC v))(r:∀ρ H,c9 X.K ρ H d v):PE X e (LE X.K Ξ (aS P (.lit d))) :=
 h.imp λbP H Q bp=>by
  obtain⟨Z,g,ρ,s,R,h⟩:=bp;exact LQ.now h R (r ρ H)
theorem XU:PE X (.Dict [] [] pos) (LE X.K Ξ (aS P (.prim .Q5 .nil))):=λpins s0 bP H Q I bp=>by
 obtain⟨Z,g,ρ,s,R,d',g',⟨_,rfl,hg⟩,q⟩:=bp;rcases hg with rfl|rfl
 ·exact Ul (X:=X) pins s0 bP H Q I λp hp=>q (ρ++[p]) _ _ (E1 hp) (R.new hp (o:=.eO []) (u:=.dK []) f7.nil) (.ref (R.u5 p))
 ·exact Um (X:=X) pins s0 bP H Q I λp hp=>q (ρ++[p]) _ _ (E1 hp) (R.new hp (o:=.gq []) (u:=mh X p []) ⟨_,_,_,rfl,.nil⟩) (.ref (R.u5 p))
section
variable(hP:i4 P)
theorem Wa{K ρ H}{l:List (List Int×D)}{m':DX}(p:m'.Perm m)(r:p7 K ρ H l m):∃l',l'.Perm l/\p7 K ρ H l' m':=by
 induction p generalizing l with
 |nil=>cases r;exact⟨_,.refl _,.nil⟩
 |@cons x m1 m2 _ ih =>
  cases r with
  |cons h r=>obtain⟨l',p,r⟩:=ih r;exact⟨_,p.cons _,.cons h r⟩
 |@swap x y m1 =>
  cases r with
  |cons h r=>cases r with
   |cons h2 r=>exact⟨_,.swap _ _ _,.cons h2 (.cons h r)⟩
 |@trans _ m2 _ _ _ i1 i2=>obtain⟨l1,p1,r1⟩:=i2 r;obtain⟨l2,p2,r2⟩:=i1 r1;exact⟨l2,p2.trans p1,r2⟩
theorem Ep{α:Type}{f:α->Nat}:∀{l m:List α},l.Perm m->l.Pairwise (λx y=>f x<=f y)->m.Pairwise (λx y=>f x<f y)->l=m
 |[],m,p,_,_=>(List.nil_perm.mp p).symm▸rfl
 |x::l,[],p,_,_=>by cases List.perm_nil.mp p
 |x::l,y::m,p,h1,h2=>by
  rw[bO] at h1 h2;have:x=y:=by
   rcases av.mp (p.subset (aL (a:=x))) with e|e
   ·exact e
   ·rcases av.mp (p.symm.subset (aL (a:=y))) with e2|e2
    ·exact e2.symm
    ·have:=h1.1 _ e2;have:=h2.1 _ e;omega
  subst this;rw[Ep (List.Perm.cons_inv p) h1.2 h2.2]
theorem Uz{K ρ H}{l:List (List Int×D)}(r:p7 K ρ H l m)(h:m.Pairwise (λx y=>x.1.length<=y.1.length)):l.Pairwise (λx y=>x.1.length<=y.1.length):=by
 have e:l.map (λp=>p.1.length)=m.map (λq=>q.1.length):=by
  clear h
  induction r with
  |nil=>rfl
  |cons h _ ih=>rw[List.map_cons,List.map_cons,ih,h.1,List.length_map]
 have z:(m.map λq=>q.1.length).Pairwise (·<=·):=cU.mpr h;rw[<- e] at z;exact cU.mp z
theorem Wb{K ρ H}{l:List (List Int×D)}(r:p7 K ρ H l m):b0 K ρ H (l.map λp=>u7 p.1) (m.map λq=>V.ref q.2.1):=by
 induction r with
 |nil=>exact .nil
 |@cons p q _ _ h _ ih =>
  refine .cons (.tup (vs:=p.1.map V.int) ?_ (.ofInts _)) ih;have:=h.2.1;rw[h.1,bD] at this;exact this
theorem Fy{K ρ H}:∀{ks:List (List Int)} {vs:List V},b0 K ρ H (ks.map u7) vs->∃bs:List Addr,vs=bs.map V.ref/\bs.length=ks.length/\∀(i:Nat) b k,bs[i]?=some b->ks[i]?=some k->TupAt K H b ((k.map Sum.inl:List Key).map kV)
 |[],_,.nil=>⟨[],rfl,rfl,λi b k h=>by simp at h⟩
 |k::ks,_,.cons h r=>by
  obtain⟨b,rfl,t⟩:=As h;obtain⟨bs,rfl,e,q⟩:=Fy r;refine⟨b::bs,rfl,by rw[kq,kq,e],λi b' k' h1 h2=>?_⟩;cases i with
  |zero=>cases h1;cases h2;exact t
  |succ i=>exact q i b' k' h1 h2
theorem Ub(ks:List (List Int)):J8 (ks.map λk=>(k.map Sum.inl:List Key))=J8 ks:=by
 rw[br,N7,N7];constructor
 ·rintro⟨_,h1,_,h2,h3⟩;obtain⟨x,hx,rfl⟩:=az.mp h1;obtain⟨y,hy,rfl⟩:=az.mp h2;exact⟨x,hx,y,hy,λe=>h3 (by rw[e])⟩
 ·rintro⟨x,hx,y,hy,h⟩;exact⟨_,az.mpr ⟨x,hx,rfl⟩,_,az.mpr ⟨y,hy,rfl⟩,λe=>h (Al.mp e)⟩
def GY(X:Cx)(t:TE):TE:=BR (qO (λxs H Q=>∃a b,xs=[.ref a]/\H a=some (setM b a)/\∀n:Nat,decide (1<n)=b->Q (.int n) H) (wu (qO (λxs H Q=>∃a,∃bs:List Addr,∃ks:List (List Key),xs=[.ref a]/\fu X.K H a (bs.map V.ref)/\ks.length=bs.length/\(∀(i:Nat) b k,bs[i]?=some b->ks[i]?=some k->gM X.K H b (k.map kV))/\ks.length<=17 /\
  ∀ p,H p=none->Q (.ref p) (upd H p (setM (J8 ks) p))) (wu t rJ)) rJ)) (tC (.int 1))
include hP
theorem UK{kp:Pos}(hc:X.calm=true)(ha:PE X a (LE X.K Ξ (aS P ma)))(yD:Gl X "sorted")(lR:X.mg "sorted"=none)(jG:Gl X "len")(jF:X.mg "len"=none)(hs:starEach [a] X.env=[(false,eval a X.env)]) :
  PE X (.Call (.Name "sorted" q) [a] [⟨some "key",.Name "len" p2,kp⟩] pos) (LE X.K Ξ (aS P (.prim .ju (.cons ma .nil)))) :=
 (Uq hc ha yD lR jG jF hs).imp λbP H Q bp=>by
  obtain⟨Z,g,ρ,s,R,h⟩:=bp;refine fe hP s R (.refl _ _) h λx g1 bU H1 v e1 R1 rv h=>?_;obtain⟨d',g',⟨i,kvs,kvs',ex,hl,hz,hp,hw,rfl,rfl⟩,q⟩:=h;obtain rfl:=(fV ex).1;obtain⟨a',rfl,ra⟩:=rv.i8;obtain⟨dx,z,rs⟩:=R1.gq X hl ra;refine⟨a',dx,rfl,z,rs.sq,by rw[<- dP rs];exact hz,λD Zs hD pm pw=>?_⟩;obtain⟨l',p1,r1⟩:=Wa pm rs;obtain rfl:=Ep (f:=λp:List Int×M.D=>p.1.length) (p1.trans hp.symm) (Uz r1 pw) hw;exact(q.ext e1).new R1 hD (Wb r1)
theorem EX{nB:Pos}{j:Nat}(hc:X.calm=true)(hu:X.A.units+100<cLine)(ha:PE X a (LE X.K Ξ (aS P ma)))(jG:Gl X "len")(jF:X.mg "len"=none)(hg:Gl X "set")(hm:X.mg "set"=none)(hs:starEach [a] X.env=[(false,eval a X.env)]) :
  PC X .Gt (.Call (.Name "len" p2) [.Call (.Name "set" q) [a] [] pos] [] gZ) (.Constant (.int 1) j nB) (GY X (LE X.K Ξ (aS P ma))) :=
 Nj (T2 Td jG jF iG (E5 (E4 (Tg hc hu) hg hm (by first|exact vg|decide +kernel) (E5 ha K7 (by rw[hs];rfl)) ∅ ∅ (by rw[hs];rfl) rfl) K7)) GI
theorem ET{ρ:List Addr}{bP:L2.St}{H:Hp}{Q0:KD}{Q:VK}(s:l6 X.K ρ H Z bP)(R:Rl X.K ρ g H)(h:aS P (.prim .mixed (.cons ma .nil)) Z g Q0 (LX X.K ρ H Ξ))(k:∀b g1 bU H1,Ext ρ H bU H1->Rl X.K bU g1 H1->Q0 (.bl b) g1->Q (.bl b) H1):GY X (LE X.K Ξ (aS P ma)) bP H Q:=by
 refine fe hP s R (.refl _ _) h λx g1 bU H1 v e1 R1 rv h=>?_;obtain⟨d',g',⟨i,ks,ex,hl,hz,rfl,rfl⟩,q⟩:=h;obtain rfl:=(fV ex).1;obtain⟨a',rfl,ra⟩:=rv.i8;obtain⟨vs,hq,rs⟩:=R1.items hl ra;obtain⟨bs,rfl,e,ht⟩:=Fy rs;refine⟨a',bs,ks.map λk=>(k.map Sum.inl:List Key),rfl,hq,by rw[ai,e],λi b k h1 h2=>?_,by rw[ai];exact hz,λp hp=>⟨p,_,rfl,m9,λn hn=>⟨n,1,rfl,rfl,?_⟩⟩⟩
 ·rw[aq,ae] at h2;obtain⟨k',h2,rfl⟩:=h2;exact(ht i b k' h1 h2).sq
 ·rw[Ub] at hn ⊢;have e3:decide ((1:Int)<(n:Int))=J8 ks:=by rw[<- hn];exact kn.mpr ()
  show Q (.bl (decide ((1:Int)<(n:Int)))) _;rw[e3];exact k _ _ _ _ (e1.trans (t4 hp)) (R1.grow hp) q
theorem UH{nB sL:Pos}{j:Nat}(hc:X.calm=true)(hu:X.A.units+100<cLine)(ha:PE X a (LE X.K Ξ (aS P ma)))(jG:Gl X "len")(jF:X.mg "len"=none)(hg:Gl X "set")(hm:X.mg "set"=none)(hs:starEach [a] X.env=[(false,eval a X.env)]) :
  PE X (.Compare (.Call (.Name "len" p2) [.Call (.Name "set" q) [a] [] pos] [] gZ) [.Gt] [.Constant (.int 1) j nB] sL) (LE X.K Ξ (aS P (.prim .mixed (.cons ma .nil)))) /\
  PT X (.Compare (.Call (.Name "len" p2) [.Call (.Name "set" q) [a] [] pos] [] gZ) [.Gt] [.Constant (.int 1) j nB] sL) (LT X.K Ξ (dG P (.fh (.prim .mixed (.cons ma .nil))))) :=
 ⟨(Pd (EX hP hc hu ha jG jF hg hm hs) rfl).imp λbP H Q ⟨Z,g,ρ,s,R,h⟩=>ET hP s R h λb g1 bU H1 e1 R1 q=>q bU H1 _ e1 R1 (.bl b),
  (Py (EX hP hc hu ha jG jF hg hm hs) rfl).imp λbP H Q ⟨Z,g,ρ,s,R,h⟩=>ET (Q:=λx H'=>∃c,x=.bl c/\Q c H') hP s R h λb g1 bU H1 e1 R1 ⟨t,ht,q⟩=>by
   rcases ht with⟨z,_⟩|z|⟨i,z,_⟩|⟨l,z,_⟩|⟨a,l,z,_⟩<;>cases z
   exact ⟨b,rfl,q bU H1 e1 R1⟩⟩
end
end M
namespace L2
open PySem PySem.Spec PyProof.Rows
end L2
namespace M
open PySem L2 PySem.Spec PyProof.Rows
variable{K:PySem.W.Frag}{H H0:Hp}{a fa C:Addr}{x:Str}{p:Pos}{k f:Nat}{fd:FuncData}{ps:List Str}{gg:List Addr}{vs:List V}
inductive Y5(K:PySem.W.Frag):List D->List (Str×V)->Prop
 |nil:Y5 K [] []
 |cons {x:Str} {d:D} {v:V} {ds:List D} {vs:List (Str×V)} (h:∀ρ H,c9 K ρ H d v) (r:Y5 K ds vs):Y5 K (.tup [.str x,d]::ds) ((x,v)::vs)
theorem Y5.look{ρ:List Addr}{ds vs}(x:Str)(h:Y5 K ds vs):P7 K ρ H (K5 ds x) (vs.lookup x):=by
 induction h with
 |nil=>trivial
 |cons h r ih =>
  rename_i y d v ds vs;unfold K5;rw[da];by_cases e:x=y
  ·rw[aJ e,show(x==y)=true from by simp[e]];exact h ρ H
  ·rw[aB e,show(x==y)=false from by simpa using e];exact ih
def Ht(X:Cx)(x:Str)(kvs:List D):Prop:=∃A vs,X.mg x=some (.ref A)/\vZ X.K X.w.params A vs/\Y5 X.K kvs vs
section
variable{X:Cx}{Ξ:gs}{P:eT}(hP:i4 P){a c:Expr}{ma:ME}{pos:Pos}
include hP
theorem XW{kvs:List D}(hg:Gl X x)(hd:(x==("__debug__":Str))=false)(hG:Ht X x kvs)(ha:PE X a (LE X.K Ξ (aS P ma)))(hs:Aa a):PE X (.Subscript (.Name x p) a pos) (LE X.K Ξ (aS P (.prim .lZ (.cons (.lit (.tup kvs)) (.cons ma .nil))))):=by
 obtain⟨A,vs,hmg,hk,gr⟩:=hG;refine(HK (MH (kvs:=vs)) (Eo (v:=.ref A) hg hmg rfl hd) ha hs).imp λbP H Q bp=>?_;obtain⟨Z,g,ρ,s,R,h⟩:=bp;refine fe hP s R (.refl _ _) h λd g1 bU H1 v1 e1 R1 r1 h=>?_;obtain⟨d',g',⟨kvs',z,ex,hz,rfl⟩,q⟩:=h;cases ex;obtain rfl:=r1.zR;have lk:=gr.look (ρ:=bU) (H:=H1) z;rw[hz] at lk;obtain⟨w,hw,lk⟩:=lk.some;exact⟨A,z,w,rfl,hk,rfl,hw,q bU H1 _ e1 R1 lk⟩
omit hP in
def ou(ex:List Str)(K:PySem.W.Frag)(n:Nat)(t:List D->G->KD->KX->Prop):Sp:=λvs H Q E=>vs.length=n/\∃ds g ρ,b0 K ρ H ds vs/\Rl K ρ g H/\t ds g (LQ K ρ H Q) (LX K ρ H (ex,E))
omit hP in
def oh(X:Cx)(P:eT)(ex:List Str)(k f:Nat)(fa:Addr)(fd:FuncData)(ps:List Str):Prop :=
 gH X.prog X.w X.K X.mg X.base (iC X.prog X.w) k fa fd ps (ou ex X.K ps.length (P f))/\Binds X.K fd ps []/\∀ds g Q E,P f ds g Q E->ds.length=ps.length
theorem Be{k:Nat}(F:oh X P Ξ.1 k f fa fd ps){ρ:List Addr}{g:G}{xs:List D}{Q0:KD}{Q:VK}(e0:Ext gg H0 ρ H)(R:Rl X.K ρ g H)(r:b0 X.K ρ H xs vs)(h:P f xs g Q0 (LX X.K gg H0 Ξ))(k:∀d g',Q0 d g'->LQ X.K ρ H Q d g'):ou Ξ.1 X.K ps.length (P f) (vs++[]) H Q Ξ.2:=by
 rw[List.append_nil];exact⟨by rw[<- r.length];exact F.2.2 _ _ _ _ h,xs,g,ρ,r,R,hP _ _ _ _ _ _ _ k (λ_ _ z=>LX.ext e0 z) h⟩
theorem XT{es:List Expr}{e:Expr}{ic:ME}(hx:Passes (iC X.prog X.w) X Ξ.2)(F:oh X P Ξ.1 k f fa fd ps)(hr:n8 k X.A)(hg:Gl X x)(hm:X.mg x=some (.ref fa))(hk:PySem.W.keepIn X.K (.ref fa)=true)(ha:PA X (e::es) (LA X.K Ξ (fT P ic)))(hd:(x==("__debug__":Str))=false)(dz:starEach (e::es) X.env=(false,eval e X.env)::starEach es X.env)(fN:(backTo pos (starEach es X.env)).any (·.1)=false):PE X (.Call (.Name x p) (e::es) [] pos) (LE X.K Ξ (aS P (.call f ic))) :=
 (XA F.1 hr hg hm hk F.2.1 .nil hx ha hd dz fN).imp λbP H Q bp=>by
  obtain⟨Z,g,ρ,s,R,h⟩:=bp;exact jO hP s R (.refl _ _) h λxs g1 bU H1 vs e1 R1 r1 h=>Be hP F e1 R1 r1 h λd g' h=>h.ext e1
theorem UA(hx:Passes (iC X.prog X.w) X Ξ.2)(F:oh X P Ξ.1 k f fa fd ps)(hr:n8 k X.A)(hg:Gl X x)(hm:X.mg x=some (.ref fa))(hk:PySem.W.keepIn X.K (.ref fa)=true)(hd:(x==("__debug__":Str))=false):PE X (.Call (.Name x p) [] [] pos) (LE X.K Ξ (aS P (.call f .nil))) :=
 (Uj F.1 hr hg hm hk F.2.1 .nil hx hd).imp λbP H Q bp=>by
  obtain⟨Z,g,ρ,s,R,h⟩:=bp;exact Be hP F (.refl _ _) R .nil h λd g' h=>h
theorem Hs{c:Str}(F:oh X P Ξ.1 k f fa fd ps)(hC:m5 X.K c C)(hc:jq X.K C){ρ:List Addr}{g1:G}{xs:List D}{Q:VK}(e0:Ext gg H0 ρ H)(R:Rl X.K ρ g1 H)(r:b0 X.K ρ H xs vs)(h:P f (.ref g1.length::xs) (g1++[.ins c []]) (λd g2=>d=.bq/\LQ X.K gg H0 Q (.ref g1.length) g2) (LX X.K gg H0 Ξ)):∀x dx,H x=none->H dx=none->dx≠x->ou Ξ.1 X.K ps.length (P f) (.ref x::(vs++[])) (upd (upd H dx (.own x)) x (.ins C dx [])) (λv H2=>v=.bq/\Q (.ref x) H2) Ξ.2:=by
 intro x dx hx CS eL;have Cw:upd H dx (.own x) x=none:=by rw[f9 (bW eL)];exact hx
 have R2:=R.grow (o:=.own x) CS;have e2:Ext ρ H ρ (upd H dx (.own x)):=t4 CS;have R3:=R2.new (o:=.ins c []) (u:=.ins C dx []) Cw ⟨hC,hc,.nil,λx hx=>absurd hx (by simp)⟩;have e3:Ext ρ (upd H dx (.own x)) (ρ++[x]) (upd (upd H dx (.own x)) x (.ins C dx [])):=E1 Cw;have:=Be hP F (e0.trans (e2.trans e3)) R3 (.cons (.ref (R.u5 x)) (r.ext (e2.trans e3))) h (Q:=λv H2=>v=.bq/\Q (.ref x) H2) λd g' q bQ H' v e' R' r'=>by
  obtain⟨rfl,q⟩:=q;exact⟨r'.wF,q bQ H' _ (e0.trans (e2.trans (e3.trans e'))) R' (.ref (e'.get (R.u5 x)))⟩
 exact this
theorem XY{es:List Expr}{e:Expr}{ic:ME}(hx:Passes (iC X.prog X.w) X Ξ.2)(F:oh X P Ξ.1 k f fa fd ps)(M:Mk X.K C fa)(hC:m5 X.K x C)(hc:jq X.K C)(hr:n8 (k+1) X.A)(hg:Gl X x)(hm:X.mg x=some (.ref C))(ha:PA X (e::es) (LA X.K Ξ (fT P ic)))(hd:(x==("__debug__":Str))=false)(dz:starEach (e::es) X.env=(false,eval e X.env)::starEach es X.env)(fN:(backTo pos (starEach es X.env)).any (·.1)=false):PE X (.Call (.Name x p) (e::es) [] pos) (LE X.K Ξ (aS P (.make x f ic))) :=
 (XC M F.1 hr hg hm F.2.1 .nil hx ha hd dz fN).imp λbP H Q bp=>by
  obtain⟨Z,g,ρ,s,R,h⟩:=bp;exact jO hP s R (.refl _ _) h λxs g1 bU H1 vs e1 R1 r1 h=>Hs hP F hC hc e1 R1 r1 h
theorem UE(hx:Passes (iC X.prog X.w) X Ξ.2)(F:oh X P Ξ.1 k f fa fd ps)(M:Mk X.K C fa)(hC:m5 X.K x C)(hc:jq X.K C)(hr:n8 (k+1) X.A)(hg:Gl X x)(hm:X.mg x=some (.ref C))(hd:(x==("__debug__":Str))=false):PE X (.Call (.Name x p) [] [] pos) (LE X.K Ξ (aS P (.make x f .nil))) :=
 (Up M F.1 hr hg hm F.2.1 .nil hx hd).imp λbP H Q bp=>by
  obtain⟨Z,g,ρ,s,R,h⟩:=bp;exact Hs hP F hC hc (.refl _ _) R .nil h
end
inductive mq(K:PySem.W.Frag)(ρ:List Addr)(H:Hp):List D->List (V×V)->Prop
 |nil:mq K ρ H [] []
 |cons {k d:D} {x y:V} {ds:List D} {ps:List (V×V)} (h1:c9 K ρ H k x) (h2:c9 K ρ H d y) (r:mq K ρ H ds ps):mq K ρ H (k::d::ds) ((x,y)::ps)
section
variable{X:Cx}{Ξ:gs}{P:eT}(hP:i4 P)
inductive ve(X:Cx)(Ξ:gs)(P:eT):List (Option Expr)->List Expr->ME->List (TE×TE)->Prop
 |nil:ve X Ξ P [] [] .nil []
 |cons {k v:Expr} {ks:List (Option Expr)} {vs:List Expr} {mk mv ms:ME} {vx:List (TE×TE)} (hk:PE X k (LE X.K Ξ (aS P mk))) (hv:PE X v (LE X.K Ξ (aS P mv))) (r:ve X Ξ P ks vs ms vx) :
   ve X Ξ P (some k::ks) (v::vs) (.cons mk (.cons mv ms)) ((LE X.K Ξ (aS P mk),LE X.K Ξ (aS P mv))::vx)
theorem ve.len{ks vs ms vx}(h:ve X Ξ P ks vs ms vx):ks.all (·.isSome)=true/\ks.length=vs.length:=by
 induction h with
 |nil=>exact⟨rfl,rfl⟩
 |cons hk hv r ih=>exact⟨by simpa using ih.1,by simp[ih.2]⟩
include hP
end
theorem ML{l:List D}(ht:TupAt K H0 a vs)(rs:b0 K gg H0 l vs):Y2 K gg H0 (.fix l) (Bs K a):=by
 intro ρ g H e R i;have tO:=ht.ext e;have sI:=rs.ext e;refine⟨λh=>⟨vs,tO.sq,?_⟩,λd h=>?_⟩
 ·have:=cP.mp (aF h);rw[<- sI.length];exact this
 ·obtain⟨v,hv,rv⟩:=sI.get (aF h);refine⟨⟨vs,v,tO.sq,hv⟩,λw H' y=>?_⟩;obtain⟨rfl,y⟩:=y;have:=y vs tO.sq;rw[hv] at this;cases this;exact⟨.refl _ _,R,rv⟩
theorem MK{j:Nat}(ha:gg[j]?=some a):Y2 K gg H0 (.lst j) (Bt K a):=by
 intro ρ g H e R i;have lU:=e.get ha;refine⟨λh=>?_,λd h=>?_⟩
 ·simp only[IK.at] at h;cases el:c8 g j with
  |none=>simp_all
  |some l =>
   rw[el] at h;obtain⟨vs,hq,rs⟩:=R.items el lU;refine⟨vs,hq,?_⟩;have:=cP.mp (aF h);rw[<- rs.length];exact this
 ·simp only[IK.at] at h;cases el:c8 g j with
  |none=>simp_all
  |some l =>
   rw[el] at h;obtain⟨vs,hq,rs⟩:=R.items el lU;obtain⟨v,hv,rv⟩:=rs.get (aF h);refine⟨⟨vs,v,hq,hv⟩,λw H' y=>?_⟩;obtain⟨rfl,y⟩:=y;have:=y vs hq;rw[hv] at this;cases this;exact⟨.refl _ _,R,rv⟩
theorem HG{lo:Int}{n:Nat}:Y2 K gg H0 (.fix (k6 lo n)) (vb lo n):=by
 unfold k6;intro ρ g H e R i;refine⟨λh=>?_,λd h=>?_⟩
 ·have:=cP.mp (aF h);show n<=i;simpa using this
 ·have h:=aF h;have hi:i<n:=by
   have:=(ay.mp h).1
   simp_all
  rw[aq,fg hi] at h;cases h;refine⟨hi,λw H' y=>?_⟩;obtain⟨rfl,rfl⟩:=y;exact⟨.refl _ _,R,.int _⟩
theorem MJ{j:Nat}(ha:gg[j]?=some a):Y2 K gg H0 (.qc j) (Bu K a):=by
 intro ρ g H e R i;have lU:=e.get ha;refine⟨λh=>?_,λd h=>?_⟩
 ·simp only[IK.at] at h;cases el:c8 g j with
  |none=>rw[el] at h;cases h
  |some l =>
   rw[el] at h;obtain⟨vs,hq,rs⟩:=R.items el lU;refine⟨vs,hq,?_⟩;have h:=aF h;rw[Option.map_eq_none_iff] at h;have:=cP.mp h;rw[<- rs.length];exact this
 ·simp only[IK.at] at h;cases el:c8 g j with
  |none=>simp_all
  |some l =>
   rw[el] at h;obtain⟨vs,hq,rs⟩:=R.items el lU;have h:=aF h;rw[ae] at h;obtain⟨d',hd,rfl⟩:=h;obtain⟨v,hv,rv⟩:=rs.get hd;refine⟨⟨vs,v,hq,hv⟩,λw H' y=>?_⟩;obtain⟨p,x,hp,rfl,y,rfl⟩:=y;have:=y vs hq;rw[hv] at this;cases this;exact⟨t4 hp,R.grow hp,.tup (.inl m9) (.cons (.int _) (.cons (rv.ext (t4 hp)) .nil))⟩
end M
namespace L2
open PySem PySem.Spec PyProof.Rows
theorem Pq{X:Cx}{tg l:Expr}{tl:TE}(hl:PE X l tl):PI X tg l (λZ H R=>tl Z H λx H1=>(∃a,x=.ref a/\(∃xs,fu X.K H1 a xs)/\R (Bt X.K a) H1)\/(∃a,x=.ref a/\(∃xs,gM X.K H1 a xs)/\R (Bs X.K a) H1)):=by
 intro pins s Z H R I h;refine cJ (hl pins s Z H _ I h) λv s1 bp=>?_;obtain⟨x,H1,I1,r1,q1⟩:=bp;rcases q1 with⟨a,e,⟨xs,hq⟩,q⟩|⟨a,e,⟨xs,hq⟩,q⟩
 ·subst e;cases r1;obtain⟨aV,rv,p,hz⟩:=I1.list hq;refine eY p.isList ?_;refine⟨s1.heap.objs.size,[s1.heap.objs.size],_,_,H1,rfl,I1.kept (t':=s1.toks) λb o e=>ah _ e,Wn a _,⟨_,aw _ rfl,rfl,rfl⟩,λb hb=>?_,q⟩;have e:b=s1.heap.objs.size:=by simpa using hb
  subst e;exact I1.qu (aj _) (I1.bB.fresh (aj _))
 ·subst e;cases r1;obtain⟨aV,rv,p,hz⟩:=I1.tuple hq;refine lA (show s1.heap.IsTuple a aV.toArray from p) ?_;refine⟨s1.heap.objs.size,[s1.heap.objs.size],_,_,H1,rfl,I1.kept (t':=s1.toks) λb o e=>ah _ e,Xb a _,⟨_,aw _ rfl,rfl,rfl⟩,λb hb=>?_,q⟩;have e:b=s1.heap.objs.size:=by simpa using hb
  subst e;exact I1.qu (aj _) (I1.bB.fresh (aj _))
end L2
namespace M
open PySem L2 PySem.Spec PyProof.Rows
variable{X:Cx}{pos p tp:Pos}{t:MT}{mi:ME}
section
variable{Ξ:gs}{P:eT}(hP:i4 P){a b tg:Expr}{ma mb:ME}
include hP
theorem Qe(ha:PE X a (LE X.K Ξ (aS P ma))):PI X tg a (LI X.K Ξ (gT P (.gL ma))) :=
 (Pq ha).imp λbP H R bp=>by
  obtain⟨Z,g,ρ,s,Rr,h⟩:=bp;refine fe hP s Rr (.refl _ _) h λx g1 bU H1 v1 e1 R1 r1 h=>?_;rcases h with⟨l,rfl,h⟩|⟨i,l,rfl,hl,h⟩
  ·obtain⟨a',vs,rfl,ht,rs⟩:=r1.wJ;exact .inr ⟨_,rfl,⟨_,ht.sq⟩,h bU H1 _ e1 R1 (ML ht rs)⟩
  ·obtain⟨a',rfl,lU⟩:=r1.i8;obtain⟨vs,hq,rs⟩:=R1.items hl lU;exact .inl ⟨_,rfl,⟨_,hq⟩,h bU H1 _ e1 R1 (MK lU)⟩
theorem Yg{elts:List Expr}{x1:Nat}(ha:PE X a (LE X.K Ξ (aS P ma)))(hg:Gl X "enumerate")(hm:X.mg "enumerate"=none)(hs:starEach [a] X.env=[(false,eval a X.env)]):PI X (.Tuple elts x1 tp) (.Call (.Name "enumerate" p) [a] [] pos) (LI X.K Ξ (gT P (.kG ma))) :=
 (XE hg hm (v7 hP ha (F5 hP) (by rw[hs];rfl)) hs).imp λbP H R bp=>by
  obtain⟨Z,g,ρ,s,Rr,h⟩:=bp;refine jO hP s Rr (.refl _ _) (Q0:=λxs g1=>∃a l,xs=[.ref a]/\c8 g1 a=some l/\∀bQ H' J,Ext ρ H bQ H'->Rl X.K bQ g1 H'->Y2 X.K bQ H' (.qc a) J->R J H') ?_ λxs g1 bU H1 vs e1 R1 r1 h=>?_
  ·exact b7 hP ma _ _ _ _ _ _ (λx g1 ⟨i,l,e,hl,h⟩=>⟨i,l,by rw[e],hl,h⟩) (λ_ _ z=>z) h
  ·obtain⟨j,l,rfl,hl,h⟩:=h;obtain⟨v,rfl,rv⟩:=r1.one;obtain⟨a',rfl,ra⟩:=rv.i8;obtain⟨vs,hq,rs⟩:=R1.items hl ra;exact⟨_,rfl,⟨_,hq⟩,h bU H1 _ e1 R1 (MJ ra)⟩
theorem Yh(ha:PE X a (LE X.K Ξ (aS P ma)))(hg:Gl X "range")(hm:X.mg "range"=none)(hs:starEach [a] X.env=[(false,eval a X.env)]):PI X tg (.Call (.Name "range" p) [a] [] pos) (LI X.K Ξ (gT P (.eK ma))) :=
 (VU hg hm (v7 hP ha (F5 hP) (by rw[hs];rfl)) hs).imp λbP H R bp=>by
  obtain⟨Z,g,ρ,s,Rr,h⟩:=bp;refine jO hP s Rr (.refl _ _) (Q0:=λxs g1=>∃j:Int,xs=[.int j]/\-(2 ^ 62)<=j/\j<2 ^ 62/\∀bQ H' J,Ext ρ H bQ H'->Rl X.K bQ g1 H'->Y2 X.K bQ H' (.fix (k6 0 j.toNat)) J->R J H') ?_ λxs g1 bU H1 vs e1 R1 r1 h=>?_
  ·exact b7 hP ma _ _ _ _ _ _ (λx g1 ⟨j,e,h1,h2,h⟩=>⟨j,by rw[e],h1,h2,h⟩) (λ_ _ z=>z) h
  ·obtain⟨j,rfl,h1,h2,h⟩:=h;obtain⟨v,rfl,rv⟩:=r1.one;obtain rfl:=rv.j3;exact⟨_,rfl,h1,h2,h bU H1 _ e1 R1 HG⟩
theorem Yi(ha:PE X a (LE X.K Ξ (aS P ma)))(hb:PE X b (LE X.K Ξ (aS P mb)))(hg:Gl X "range")(hm:X.mg "range"=none)(hs:starEach [a,b] X.env=[(false,eval a X.env),(false,eval b X.env)])(iD:starEach [b] X.env=[(false,eval b X.env)]) :
  PI X tg (.Call (.Name "range" p) [a,b] [] pos) (LI X.K Ξ (gT P (.jB ma mb))) :=
 (VV hg hm (v7 hP ha (v7 hP hb (F5 hP) (by rw[iD];rfl)) (by rw[hs,iD])) hs iD).imp λbP H R bp=>by
  obtain⟨Z,g,ρ,s,Rr,h⟩:=bp;refine jO hP s Rr (.refl _ _) (Q0:=λxs g1=>∃i j:Int,xs=[.int i,.int j]/\(-(2 ^ 62)<=i/\i<2 ^ 62/\-(2 ^ 62)<=j/\j<2 ^ 62)/\∀bQ H' J,Ext ρ H bQ H'->Rl X.K bQ g1 H'->Y2 X.K bQ H' (.fix (k6 i (j-i).toNat)) J->R J H') ?_ λxs g1 bU H1 vs e1 R1 r1 h=>?_
  ·exact b7 hP ma _ _ _ _ _ _ (λx g1 h=>b7 hP mb _ _ _ _ _ _ (λy g2 ⟨i,j,e,e',h1,h⟩=>⟨i,j,by rw[e,e'],h1,h⟩) (λ_ _ z=>z) h) (λ_ _ z=>z) h
  ·obtain⟨i,j,rfl,h1,h⟩:=h;obtain⟨v,w,rfl,rv,fj⟩:=r1.two;obtain rfl:=rv.j3;obtain rfl:=fj.j3;exact⟨_,_,rfl,h1,h bU H1 _ e1 R1 HG⟩
end
theorem Qd{i:Nat}{x:Str}(hN:X.Nd)(hi:X.N[i]?=some x)(hx:Loc X.env.scope x)(hf:X.fn x=true\/X.env.scope.names.lookup x=some .local):PG X (.Name x pos) (LG X.K (.one i)) :=
 (Er hN hi hx hf).imp λv bP H Q hq=>by
  obtain⟨d,Z,g,ρ,s,R,r,h⟩:=hq;exact h _ (s.set i r)
inductive eZ(X:Cx):List Expr->List Nat->Prop
 |nil:eZ X [] []
 |cons {x:Str} {p:Pos} {i:Nat} {es:List Expr} {is:List Nat} (hi:X.N[i]?=some x) (hx:Loc X.env.scope x) (hf:X.fn x=true\/X.env.scope.names.lookup x=some .local) (r:eZ X es is):eZ X (.Name x p::es) (i::is)
def zM:List Nat->oU
 |[]=>DS
 |i::is=>HD (Z4 i) (zM is)
theorem VT(hN:X.Nd){es:List Expr}{is:List Nat}(h:eZ X es is):uZ X es (zM is):=by
 induction h with
 |nil=>exact XD
 |cons hi hx hf r ih=>exact Ur (Er hN hi hx hf) ih rfl
theorem V9:∀{es:List Expr} {is:List Nat},eZ X es is->(assignEach es X.env).length=is.length/\(assignEach es X.env).findIdx? (·.1)=none
 |_,_,.nil=>⟨rfl,rfl⟩
 |_,_,.cons (x:=x) (p:=p) (es:=es) hi hx hf r=>by
  obtain⟨h1,h2⟩:=V9 r;have e:assignEach (.Name x p::es) X.env=(false,assign (.Name x p) X.env)::assignEach es X.env:=rfl;rw[e];refine⟨by simp[h1],?_⟩;rw[List.findIdx?_cons,h2]
  rfl
theorem Fv{K:PySem.W.Frag}{ρ:List Addr}{H:Hp}{k:S->Prop}{Q:L2.St->Hp->Prop}:∀{is:List Nat} {l:List D} {vs:List V} {Z cb:S} {bP:L2.St},K6 is l Z=some cb->b0 K ρ H l vs->l6 K ρ H Z bP->(∀dA,l6 K ρ H cb dA->Q dA H)->zM is vs bP H Q
 |[],_,_,_,_,_,h,.nil,s,q=>by
  cases h;exact⟨rfl,q _ s⟩
 |[],_,_,_,_,_,h,.cons _ _,s,q=>by cases h
 |i::is,_,_,_,_,_,h,.nil,s,q=>by cases h
 |i::is,_,_,_,_,_,h,.cons r rr,s,q=>by
  exact⟨_,_,rfl,Fv (k:=k) h rr (s.set i r) q⟩
theorem Gd:∀{is:List Nat} {l:List D} {Z cb:S},K6 is l Z=some cb->l.length=is.length
 |[],[],_,_,_=>rfl
 |[],_::_,_,_,h=>by simp only[K6] at h;cases h
 |_::_,[],_,_,h=>by simp only[K6] at h;cases h
 |_::is,_::l,_,_,h=>by simp only[K6] at h;simp[Gd h]
theorem Ez{es:List Expr}{is:List Nat}{k:Nat}(hc:X.calm=true)(hN:X.Nd)(hs:eZ X es is):PG X (.Tuple es k pos) (LG X.K (.many is)) :=
 (Pp hc (VT hN hs) (V9 hs).1 (V9 hs).2).imp λv bP H Q bp=>by
  obtain⟨d,Z,g,ρ,s,R,r,h⟩:=bp;obtain⟨l,cb,rfl,e,h⟩:=h;obtain⟨a',vs,rfl,ht,rs⟩:=r.wJ;exact⟨_,_,rfl,ht.sq,by rw[<- rs.length];exact Gd e,Fv (k:=λ_=>True) e rs s h⟩
theorem LN.ext{K ρ H N bU H1}(e:Ext ρ H bU H1):(LN K ρ H N).le (LN K bU H1 N) :=
 ⟨λZ g h bQ H' dA e' R s=>h bQ H' dA (e.trans e') R s,λd g h=>h.ext e,λZ g h bQ H' dA e' R s=>h bQ H' dA (e.trans e') R s,λZ g h bQ H' dA e' R s=>h bQ H' dA (e.trans e') R s⟩
section
variable{Ξ:gs}{P:eT}(hP:i4 P){a b c tg:Expr}{ma mb mc:ME}{st:Stmt}{rest:List Stmt}{xU lM:MS}
include hP
theorem GV:iZ X [] (LS X.K Ξ (wpS P .pass)) :=
 (XI).imp λN bP H ⟨Z,g,ρ,s,R,h⟩=>h ρ H bP (.refl _ _) R s
theorem EA(h1:PS X st (LS X.K Ξ (wpS P xU)))(h2:iZ X rest (LS X.K Ξ (wpS P lM))):iZ X (st::rest) (LS X.K Ξ (wpS P (.seq xU lM))) :=
 (Uu h1 h2).imp λN bP H ⟨Z,g,ρ,s,R,h⟩ =>
  sv hP s R (.refl _ _) (show wpS P xU { LN X.K ρ H N with nx:=λiM g1=>wpS P lM (LN X.K ρ H N) iM g1 (LX X.K ρ H Ξ) } Z g (LX X.K ρ H Ξ) from h) ⟨λiM g1 h bU H1 Iw e1 R1 s1=>sv hP s1 R1 e1 h (LN.ext e1),λ_ _ z=>z,λ_ _ z=>z,λ_ _ z=>z⟩
theorem Yn(ha:PE X a (LE X.K Ξ (aS P ma)))(hs:swapsWith a none pos.line X.env=pure false):PS X (.Expr a pos) (LS X.K Ξ (wpS P (.expr ma))) :=
 (XF ha hs).imp λN bP H ⟨Z,g,ρ,s,R,h⟩=>fe hP s R (.refl _ _) h λx g1 bU H1 v1 e1 R1 r1 h=>h bU H1 bP e1 R1 (s.ext e1)
theorem GX{i:Nat}{x:Str}(h0:PS X (.Assign [.Name x p] a pos) (uS (LE X.K Ξ (aS P ma)) (Z4 i))):PS X (.Assign [.Name x p] a pos) (LS X.K Ξ (wpS P (.set i ma))) :=
 h0.imp λN bP H ⟨Z,g,ρ,s,R,h⟩=>fe hP s R (.refl _ _) h λx g1 bU H1 v1 e1 R1 r1 h=>h bU H1 _ e1 R1 ((s.ext e1).set i r1)
theorem Qn(h0:PS X (.Assign [tg] a pos) (uS (LE X.K Ξ (aS P ma)) (LG X.K t))):PS X (.Assign [tg] a pos) (LS X.K Ξ (wpS P (.ni t ma))) :=
 h0.imp λN bP H ⟨Z,g,ρ,s,R,h⟩=>fe hP s R (.refl _ _) h λx g1 bU H1 v1 e1 R1 r1 h=>⟨x,Z,g1,bU,s.ext e1,R1,r1,w9 (λcb h dA s'=>h bU H1 dA e1 R1 s') h⟩
theorem UR(hu:X.A.units+100<cLine){o i:Expr}{mo:ME}(ha:PE X a (LE X.K Ξ (aS P ma)))(ho:PE X o (LE X.K Ξ (aS P mo)))(hi:PE X i (LE X.K Ξ (aS P mi)))(hs:swapsWithSole [.Subscript o i tp] a pos.line X.env=pure false)(lU:∀ v,assign (.Subscript o i tp) X.env v=(do
   let ov <- holding [v] (eval o X.env)
   let iv <- holding [v,ov] (eval i X.env)
   standAt tp
   holding [v,ov,iv] (setItem ov iv v)
   release [v,ov,iv] [])):PS X (.Assign [.Subscript o i tp] a pos) (LS X.K Ξ (wpS P (.eM mo mi ma))) :=
 (GJ ha (Po ho hi (Qc hu) lU) hs).imp λN bP H ⟨Z,g,ρ,s,R,h⟩ =>
  fe hP s R (.refl _ _) h λx g1 bU H1 v1 e1 R1 r1 h=>fe hP (s.ext e1) R1 e1 h λy g2 fc H2 v2 e2 R2 r2 h=>fe hP (s.ext (e1.trans e2)) R2 (e1.trans e2) h λz g3 kP H3 v3 e3 R3 r3 h =>
   ⟨y,z,x,g3,kP,R3,r2.ext e3,r3,r1.ext (e2.trans e3),O6 (λg4 h rZ H4 e4 R4=>h rZ H4 bP (e1.trans (e2.trans (e3.trans e4))) R4 (s.ext (e1.trans (e2.trans (e3.trans e4))))) h⟩
omit hP in
def zF(K:PySem.W.Frag)(f:Str)(cs:List Str):Prop:=∀c C,c∈cs->m5 K c C->w5 K C f
omit hP in
theorem Yf{f:Str}{cs:List Str}(hF:zF X.K f cs){ρ:List Addr}{H:Hp}{g g':G}{x v:D}{xv vv:V}(R:Rl X.K ρ g H)(rx:c9 X.K ρ H x xv)(rv:c9 X.K ρ H v vv)(h:HQ f cs x v g g') :
  ∃a C dx fs,xv=.ref a/\H a=some (.ins C dx fs)/\jq X.K C/\w5 X.K C f/\fs.length<1000/\Rl X.K ρ g' (upd H a (.ins C dx (p8 f vv fs)))/\Ext ρ H ρ (upd H a (.ins C dx (p8 f vv fs))):=by
 obtain⟨i,c,fs,rfl,hi,hc,hz,rfl⟩:=h;obtain⟨a',rfl,ra⟩:=rx.i8;obtain⟨C,dx,vs,hH,hC,kK,rk,na⟩:=R.ins hi ra;obtain⟨R',e'⟩:=R.put (o':=.ins c (O7 f v fs)) (u:=.ins C dx (p8 f vv vs)) hi rfl ra ⟨hC,kK,rk.p8 rv,Ga (hF c C hc hC) na⟩;exact⟨a',C,dx,vs,rfl,hH,kK,hF c C hc hC,by rw[<- rk.length];omega,R',e'⟩
theorem Yo{f:Str}{cs:List Str}{o:Expr}{mo:ME}(hF:zF X.K f cs)(ho:PE X o (LE X.K Ξ (aS P mo)))(ha:PE X a (LE X.K Ξ (aS P ma)))(hs:swapsWith a (some (.Attribute o f tp)) pos.line X.env=pure false):PS X (.Assign [.Attribute o f tp] a pos) (LS X.K Ξ (wpS P (.nu f cs mo ma))) :=
 (Pt ho ha hs).imp λN bP H ⟨Z,g,ρ,s,R,h⟩=>fe hP s R (.refl _ _) h λx g1 bU H1 v1 e1 R1 r1 h=>fe hP (s.ext e1) R1 e1 h λy g2 fc H2 v2 e2 R2 r2 h=>by
  obtain⟨g3,h,q⟩:=h;obtain⟨a',C,dx,fs,hx,hH,kK,na,hz,R3,e3⟩:=Yf hF R2 r2 (r1.ext e2) h;exact⟨a',C,dx,fs,hx,hH,kK,na,hz,q fc _ bP (e1.trans (e2.trans e3)) R3 (s.ext (e1.trans (e2.trans e3)))⟩
theorem NC{sa sb:List Stmt}{Co msb:MS}(hc:PT X c (LT X.K Ξ (dG P mc)))(ha:iZ X sa (LS X.K Ξ (wpS P Co)))(hb:iZ X sb (LS X.K Ξ (wpS P msb))):PS X (.If c sa sb pos) (LS X.K Ξ (wpS P (.ifs mc Co msb))) :=
 (Nr hc ha hb).imp λN bP H ⟨Z,g,ρ,s,R,h⟩=>pq hP s R (.refl _ _) h λt g1 bU H1 e1 R1 h=>by
  cases t
  ·exact sv hP (s.ext e1) R1 e1 h (LN.ext e1)
  ·exact sv hP (s.ext e1) R1 e1 h (LN.ext e1)
theorem GW(ha:PE X a (LE X.K Ξ (aS P ma))):PS X (.Return (some a) pos) (LS X.K Ξ (wpS P (.ret ma))) :=
 (Pw ha).imp λN bP H ⟨Z,g,ρ,s,R,h⟩=>⟨Z,g,ρ,s,R,h⟩
theorem Ql{iter:Expr}{body:List Stmt}{mb:MS}(hp:PassesOwn (model X.prog X.w) X.A X.env X.xe)(hc:X.calm=true)(hi:PI X tg iter (LI X.K Ξ (gT P mi)))(hg:PG X tg (LG X.K t))(hb:iZ X body (LS X.K Ξ (wpS P mb)))(hs:∀x,foldedSetIterable iter X.env x=pure x):PS X (.For tg iter body [] pos) (LS X.K Ξ (wpS P (.fE t mi mb))) :=
 (Pu hp hc hi hg hb hs).imp λN bP H bp=>by
  obtain⟨Z,g,ρ,s,R,h⟩:=bp;refine⟨Z,g,ρ,s,R,A7 hP mi _ _ _ _ _ _ (λk g1 h bU H1 J e1 R1 j1=>?_) (λ_ _ z=>z) h⟩;obtain⟨W,⟨m0,w0⟩,h⟩:=h;refine⟨λi m dA H'=>∃cb g' bQ,Ext bU H1 bQ H'/\l6 X.K bQ H' cb dA/\Rl X.K bQ g' H'/\W i m cb g',⟨m0,Z,g1,bU,.refl _ _,s.ext e1,R1,w0⟩,?_⟩;rintro i m dA H' ⟨cb,g',bQ,e',s',R',w'⟩;obtain⟨xY,xX⟩:=j1 bQ g' H' e' R' i;rcases h i m cb g' w' with⟨ek,q⟩|⟨x,ek,N2,Kn,q⟩
  ·exact .inl ⟨xY ek,q bQ H' dA (e1.trans e') R' s'⟩
  ·obtain⟨go,yl⟩:=xX x ek;refine .inr ⟨go,λng H2=>∃cS g2 fc,Ext bU H1 fc H2/\l6 X.K fc H2 cS ng/\Rl X.K fc g2 H2/\N2 cS g2,?_,?_⟩
   ·rintro ng H2 ⟨cS,g2,fc,e2,s2,R2,n2⟩;obtain⟨m',hm,w2⟩:=Kn cS g2 n2;exact⟨m',hm,cS,g2,fc,e2,s2,R2,w2⟩
   ·intro v H2 y;obtain⟨e2,R2,r2⟩:=yl v H2 y;refine⟨x,cb,g',bQ,s'.ext e2,R2,r2,w9 (λcS q ng s2=>?_) q⟩;refine sv hP s2 R2 (e1.trans (e'.trans e2)) q ⟨?_,?_,?_,?_⟩
    ·exact λkr g3 n3 kP H3 ph e3 R3 s3=>⟨kr,g3,kP,(e'.trans e2).trans e3,s3,R3,n3⟩
    ·exact λd g3 h=>h.ext (e1.trans (e'.trans e2))
    ·exact λkr g3 h kP H3 ph e3 R3 s3=>h kP H3 ph (e1.trans ((e'.trans e2).trans e3)) R3 s3
    ·exact λkr g3 n3 kP H3 ph e3 R3 s3=>⟨kr,g3,kP,(e'.trans e2).trans e3,s3,R3,n3⟩
theorem EL{d7:List Nat}{n:Nat}{lN me:ME}:∀bP H Q,LE X.K Ξ (aS P (.comp d7 n t mi lN me)) bP H Q->Bf (LI X.K Ξ (gT P mi)) d7 n (LG X.K t) (LT X.K (oS Ξ.1) (dG P lN)) (LE X.K (oS Ξ.1) (aS P me)) bP H Q:=λbP H Q bp=>by
 obtain⟨Z,g,ρ,s,R,h⟩:=bp;refine⟨Z,g,ρ,s,R,A7 hP mi _ _ _ _ _ _ (λk g1 h bU H1 J e1 R1 j1=>?_) (λ_ _ z=>z) h⟩;obtain⟨W,⟨m0,w0⟩,h⟩:=h;refine⟨λi m BH dA H'=>∃ys cb g' bQ,Ext bU H1 bQ H'/\l6 X.K bQ H' cb dA/\Rl X.K bQ g' H'/\b0 X.K bQ H' ys BH/\W i m ys cb g',⟨m0,[],_,g1,bU,.refl _ _,(s.ext e1).d7 d7 n,R1,.nil,w0⟩,?_⟩;rintro i m BH dA H' ⟨ys,cb,g',bQ,e',s',R',ry,w'⟩;obtain⟨xY,xX⟩:=j1 bQ g' H' e' R' i;rcases h i m ys cb g' w' with⟨ek,q⟩|⟨x,ek,hz,q⟩
 ·exact .inl ⟨xY ek,λp hp=>(q.ext (e1.trans e')).new R' hp ry⟩
 ·obtain⟨go,yl⟩:=xX x ek;refine .inr ⟨go,by rw[<- ry.length];exact An hz,λv H2 y=>?_⟩;obtain⟨e2,R2,r2⟩:=yl v H2 y;refine⟨x,cb,g',bQ,s'.ext e2,R2,r2,w9 (λcS q ng s2=>?_) q⟩;refine⟨cS,g',bQ,s2,R2,o7 hP lN _ _ _ _ _ _ (λb g3 q kP H3 e3 R3=>?_) (λ_ _ z=>z.elim) q⟩;cases b
  ·obtain⟨m',hm,w3⟩:=q;exact⟨m',hm,ys,cS,g3,kP,(e'.trans e2).trans e3,s2.ext e3,R3,(ry.ext e2).ext e3,by simpa using w3⟩
  ·refine⟨cS,g3,kP,s2.ext e3,R3,b7 hP me _ _ _ _ _ _ (λz g4 q rZ H4 v4 e4 R4 r4=>?_) (λ_ _ z=>z.elim) q⟩;obtain⟨m',hm,w4⟩:=q;exact⟨m',hm,ys++[z],cS,g4,rZ,(e'.trans e2).trans (e3.trans e4),(s2.ext e3).ext e4,R4,(((ry.ext e2).ext e3).ext e4).append (.cons r4 .nil),by simpa using w4⟩
end
end M
namespace M
open PySem L2
section
variable{P:eT}(hP:i4 P)
include hP
end
end M
namespace M
open PySem L2 PySem.Spec PyProof.Rows
variable{X:Cx}{Ξ:gs}{P:eT}{x qual:Str}{pos:Pos}{c:f6}{i n:Nat}{e o b:Expr}{es args:List Expr}{env:Env}{p:Pr}{f:Addr}{r:CF}{m:ME}{cd:Value}{N:List Str}{scope:Scope}{A:Around}{outer:List Env}{s:Shared}{H:Hp}{E:XK}
section
variable(hP:i4 P)
include hP
theorem UQ{C:Addr}{B newId fL:String}{bm:List Value}{np ff:Pos}{ji:Expr}{rest:List Expr}{ic:ME}(hc:X.calm=true)(O:OwnCls x C bm newId X.mg X.base)(FB:ExcBaseFacts B newId fL bm)(hg:Gl X x)(ha:PA X (ji::rest) (LA X.K Ξ (fT P ic)))(hr:Z9 X Ξ.2)(hx:x∈Ξ.1)(hC:m5 X.K x C)(he:starEach (ji::rest) X.env=(false,eval ji X.env)::starEach rest X.env)(fM:(backTo ff (starEach rest X.env)).any (·.1)=false)(hd:(x==("__debug__":Str))=false):PS X (.Raise (some (.Call (.Name x np) (ji::rest) [] ff)) none pos) (LS X.K Ξ (wpS P (.raise x ic))) :=
 (Ut hc O FB hg ha hr he fM hd).imp λN bP H bp=>by
  obtain⟨Z,g,ρ,s,R,h⟩:=bp;refine jO hP s R (.refl _ _) h λds g1 bU H1 vs e1 R1 r1 h=>?_;exact⟨by rw[<- r1.length];exact F8 (aE h.1 ∅),h.2 bU H1 C e1 R1 hx hC⟩
def wX(X:Cx)(ex:List Str)(D:L2.Ends)(cL:L2.St)(hs:List ExceptHandler):gs:=(ex,λv _ H=>∃C,v=.ref C/\U9 X D cL C H hs)
inductive kN(X:Cx)(Ξ:gs)(P:eT):List ExceptHandler->List (Str×ME)->Prop
 |nil (hh:Y4 X Ξ.2):kN X Ξ P [] []
 |cons {y:Str} {C':Addr} {p p1 p2:Pos} {e:Expr} {me:ME} {hs:List ExceptHandler} {ms:List (Str×ME)} (hg:Gl X y) (hd:(y==("__debug__":Str))=false) (hm:X.mg y=some (.ref C'))
   (hx:∀x C,x∈Ξ.1->m5 X.K x C->PySem.W.exmOne X.K (.ref C) (.ref C')=some (decide (x=y\/y="MintError"))) (he:∀ea,PE (C4 X ea) e (LE X.K (oS Ξ.1) (aS P me))) (r:kN X Ξ P hs ms) :
   kN X Ξ P (.ExceptHandler (some (.Name y p)) none [.Return (some e) p1] p2::hs) ((y,me)::ms)
theorem Fi{N:L2.Ends}{ρ bQ:List Addr}{H H':Hp}{Z:S}{g:G}{x:Xn}{C:Addr}(hl:Z.length=X.N.length)(e:Ext ρ H bQ H')(R:Rl X.K bQ g H')(hx:x.cls∈Ξ.1)(hC:m5 X.K x.cls C) :
  ∀{hs:List ExceptHandler} {ms:List (Str×ME)},kN X Ξ P hs ms->ky P (LN X.K ρ H N) (Z.map λ_=>none) (LX X.K ρ H Ξ) ms x g->U9 X N (List.replicate X.N.length none) C H' hs
 |_,_,.nil hh,q=>⟨Ξ.2,hh,q bQ H' C e R hx hC⟩
 |_,_,.cons (me:=me) hg hd hm Jw he r,q=>by
  refine⟨hg,hd,_,_,hm,Jw _ _ hx hC,?_⟩;unfold ky at q;split at q
  ·rename_i ex;rw[aJ (by simpa using ex)];refine⟨LS X.K (oS Ξ.1) (wpS P (.seq (.ret me) .pass)),λea=>EA (X:=C4 X ea) (Ξ:=oS Ξ.1) hP (GW (X:=C4 X ea) hP (he ea)) (GV (X:=C4 X ea) hP),?_⟩;refine⟨Z.map λ_=>none,g,bQ,⟨by simp[hl],λi d z=>?_⟩,R,?_⟩
   ·simp_all
   ·refine b7 hP me _ _ _ _ _ _ (λd g1 h=>?_) (λ_ _ z=>z.elim) q;exact h.ext e
  ·rename_i ex;rw[aB (by simpa using ex)];exact Fi hl e R hx hC r q
theorem Qm{h₀:ExceptHandler}{hs:List ExceptHandler}{ms:List (Str×ME)}{body:List Stmt}{mb:MS}(mE:X.sg=none)(hb:∀pins D,iZ (O4 X pins (wx X pins D (h₀::hs))) body (LS X.K (wX X Ξ.1 D (List.replicate X.N.length none) (h₀::hs)) (wpS P mb)))(hh:kN X Ξ P (h₀::hs) ms):PS X (.Try body (h₀::hs) [] [] pos) (LS X.K Ξ (wpS P (.S6 mb ms))):=by
 intro pins s bP H N I ⟨Z,g,ρ,sr,R,h⟩;refine Px (t:=λD _=>LS X.K (wX X Ξ.1 D (List.replicate X.N.length none) (h₀::hs)) (wpS P mb)) (Ξ:=λD _=>(wX X Ξ.1 D (List.replicate X.N.length none) (h₀::hs)).2) (λ_=>none) (λ_=>List.replicate X.N.length none) (λ_ _ z=>by cases z) mE (λpins D _ _=>hb pins D) pins s bP H N I ⟨λC H' ⟨C',e,z⟩=>by simp_all,?_⟩;refine⟨Z,g,ρ,sr,R,wpS_mono hP mb _ _ _ _ _ _ ⟨λ_ _ z=>z,λ_ _ z=>z,λ_ _ z=>z,λ_ _ z=>z⟩ (λx g1 q bQ H' C e' R' hm hc=>⟨C,rfl,?_⟩) h⟩;exact Fi (Ξ:=Ξ) hP (sr.len.trans I.len) e' R' hm hc hh q
end
structure f6 where
 N:List Str
 nm:List (Str×NameKind)
 nZ:Bool
 fns:List (Str×Nat)
 con:List (Str×D)
 blt:List Str
 exc:List Str
 gd:List (Str×List D)
 cls:List (Str×Nat)
 ox:List (Str×Str×Nat)
 mL:List (Str×Str)
 je:Bool
 iN:Bool
 wr:Bool:=true
def fH:Expr->Bool
 |.Set ..=>false
 |.Starred ..=>false
 |.Slice ..=>false
 |_=>true
def p9:Expr->Bool
 |.ListComp ..=>false
 |.SetComp ..=>false
 |.DictComp ..=>false
 |_=>true
def Z0:Expr->Bool
 |.Tuple ..=>false
 |_=>true
def W6:Expr->Bool
 |.Name ..=>true
 |.Call ..=>true
 |.Subscript ..=>true
 |.Constant ..=>true
 |.Attribute ..=>true
 |.BinOp ..=>true
 |_=>false
def wG:Expr->Bool
 |.Call (.Name ..) [] ..=>false
 |_=>true
def f6.idx(c:f6)(x:Str):Option Nat:=c.N.findIdx? λy=>decide (y=x)
def f6.xA(c:f6)(x:Str):Bool:=match c.nm.lookup x with
 |some .local=>true
 |some .cell=>true
 |some .free=>true
 |_=>false
def f6.gl(c:f6)(x:Str):Bool:=decide (c.nm.lookup x=some .globalImplicit)
def f6.x4(c:f6)(x:Str):Bool:=decide (c.nm.lookup x=some .local)||decide (c.nm.lookup x=some .cell)
def T5(x:Str):Bool:=(x==("__debug__":Str))==false&&(x==("__classdict__":Str))==false&&decide (x≠"__name__")
def Bh:List (Str×String):=[("int","int"),("bool","bool"),("str","str"),("tuple","tuple"),("list","list")]
def zH:List (Str×Pr):=[("len",.len),("list",.list),("tuple",.tuple),("isinstance",.isin),("all",.all),("max",.max),("min",.min),("int",.int),("set",.pK)]
def Z1:List (Str×Pr):=[]
def zP:List (Str×Pr):=[("append",.append),("pop",.pop),("get",.get),("setdefault",.nv)]
def N1:Expr->Option (Str×List Expr)
 |.Call (.Name x _) args [] _=>some (x,args)
 |_=>none
def Hw:Expr->Bool
 |.Tuple ..=>true
 |_=>false
def asName:Expr->Option Str
 |.Name x _=>some x
 |_=>none
def frees(sc:Scope):List Str:=(sc.names.filter λy=>decide (y.2=.free)).map (·.1)
def locals(sc:Scope):List Str:=(sc.names.filter λy=>decide (y.2=.local)||decide (y.2=.cell)).map (·.1)
def f6.inner(c:f6)(sc:Scope):f6:={ c with N:=frees sc++locals sc,nm:=sc.names,nZ:=false,je:=false,iN:=false,wr:=true }
def f6.d7(c:f6)(sc:Scope):List Nat:=(frees sc).map λx=>(c.idx x).getD 0
def f6.Ap(c:f6)(sc:Scope):Bool :=
 decide (sc.kind=.function)&&sc.names.all (λy=>!decide (y.2=.cell)||decide (sc.names.lookup y.1=some .cell))&&sc.names.all (λy=>!decide (y.2=.local)||decide (sc.names.lookup y.1=some .local)) &&
 decide (frees sc++locals sc).Nodup&&(frees sc).all (λx=>(c.idx x).isSome&&decide (sc.names.lookup x=some .free)&&(decide (c.nm.lookup x=some .cell)||decide (c.nm.lookup x=some .free)))
def f6.slot(c:f6)(e:Expr):Option Nat:=(asName e).bind λx=>if c.x4 x then c.idx x else none
def f6.slots(c:f6):List Expr->Option (List Nat)
 |[]=>some []
 |e::r=>(c.slot e).bind λi=>(c.slots r).map λis=>i::is
def f6.tg(c:f6)(e:Expr):Option MT:=((c.slot e).map .one).orElse λ_=>match e with
 |.Tuple es _ _=>(c.slots es).map .many
 |_=>none
def U5:Const->Option D
 |.int i=>some (.int i)
 |.bool b=>some (.bl b)
 |.none=>some .bq
 |.str x=>some (.str x)
 |_=>none
structure CF where
 e:f6->Expr->Option ME
 t:f6->Expr->Option ME
 s:f6->Stmt->Option MS
section
variable(r:CF)(c:f6)
def c1(p:Pr)(a:Expr):Option ME:=(r.e c a).map λm=>.prim p (.cons m .nil)
def c2(p:Pr)(a b:Expr):Option ME:=(r.e c a).bind λma=>(r.e c b).map λmb=>.prim p (.cons ma (.cons mb .nil))
def B8:List Expr->Option ME
 |[]=>some .nil
 |e::es=>if fH e then(r.e c e).bind λm=>(B8 es).map λms=>.cons m ms else none
def AR(op:BoolOp):List Expr->Option ME
 |[]=>none
 |[a]=>r.e c a
 |a::b::rs=>(r.e c a).bind λma=>(AR op (b::rs)).map λmb=>match op with
  |.And=>.dI ma mb
  |.Or=>.jm ma mb
def AS(op:BoolOp):List Expr->Option ME
 |[]=>none
 |[a]=>r.t c a
 |a::b::rs=>(r.t c a).bind λma=>(AS op (b::rs)).map λmb=>match op with
  |.And=>.dI ma mb
  |.Or=>.jm ma mb
def Gw:List Expr->Option ME
 |[]=>some .no
 |[e]=>r.t c e
 |_=>none
def t9:List Stmt->Option MS
 |[]=>some .pass
 |s::rs=>(r.s c s).bind λm=>(t9 rs).map λms=>.seq m ms
def Bl(x:Str):Option ME :=
 if T5 x then(if c.xA x then(c.idx x).map .var else if c.gl x then((c.con.lookup x).map .lit).orElse λ_=>if c.blt.contains x then(Bh.lookup x).map λt=>.lit (.ty t) else none else none) else none
def xp(op:UnaryOp)(a:Expr):Option ME:=if op=.Not then(r.e c a).map .dQ else c1 r c (.un op) a
def f6.DT(b:Expr):Option (List D):=(asName b).bind λx=>if c.gl x&&T5 x then c.gd.lookup x else none
def HF:CmpOp->Expr->Bool
 |.Gt,.Constant (.int i) _ _=>decide (i=1)
 |_,_=>false
def wt:List Expr->Option Expr
 |[x]=>some x
 |_=>none
def AJ(op:CmpOp)(a b:Expr):Option ME:=if HF op b&&c.gl "len"&&c.blt.contains "len"&&c.gl "set"&&c.blt.contains "set" then(N1 a).bind λq=>(wt q.2).bind λz=>(N1 z).bind λw=>(wt w.2).bind λe=>if decide (q.1="len")&&decide (w.1="set")&&fH e then c1 r c .mixed e else none else none
def uT(a:Expr)(ops:List CmpOp)(bs:List Expr):Option ME:=match ops,bs with
 |[op],[b]=>if behindInMarks op b then none else(AJ r c op a b).orElse λ_=>c2 r c (.cmp op) a b
 |[op,gJ],[b,d]=>if lastMarks [op,gJ] [b,d] then none else(r.e c a).bind λma=>(r.e c b).bind λmb=>(r.e c d).map λmd=>.chain op gJ ma mb md
 |_,_=>none
def Ra:Expr->Option (Option Expr×Option Expr×Option Expr)
 |.Slice lo hi st _=>some (lo,hi,st)
 |_=>none
def BJ(a:Expr):Option Expr->Option Expr->Option Expr->Option ME
 |some b,none,none=>c2 r c (.kE true false) a b
 |none,some b,none=>c2 r c (.kE false true) a b
 |_,_,_=>none
def Ek(a b:Expr):Option ME:=((Ra b).bind λq=>BJ r c a q.1 q.2.1 q.2.2).orElse λ_=>if fH b then((c.DT a).bind λkvs=>(r.e c b).map λmb=>.prim .lZ (.cons (.lit (.tup kvs)) (.cons mb .nil))).orElse λ_=>c2 r c .ix a b else none
def BI(x:Str)(e:Expr):Option ME:=(N1 e).bind λq =>
 if x="list" && q.1="range" && c.blt.contains "list" && c.blt.contains "range" && c.gl "range" then (match q.2 with
  |[a]=>if fH a then c1 r c .jz a else none
  |[a,b]=>if fH a&&fH b then c2 r c .jy a b else none
  | _=>none)
 else if x="sorted" && q.1="set" && c.blt.contains "sorted" && c.blt.contains "set" && c.gl "set" then (match q.2 with
  |[a]=>if fH a then c1 r c .sset a else none
  | _=>none)
 else if x="len" && q.1="set" && c.blt.contains "len" && c.blt.contains "set" && c.gl "set" then (match q.2 with
  |[a]=>if fH a then c1 r c .rH a else none
  | _=>none)
 else none
def LV(x:Str)(e:Expr):List Expr->Option ME
 |[]=>BI r c x e
 |_=>none
def zX(x:Str):Option ME:=if T5 x&&c.gl x then((c.fns.lookup x).map λf=>.call f .nil).orElse λ_=>(c.cls.lookup x).map λf=>.make x f .nil else none
def zY(x:Str)(e:Expr)(es:List Expr):Option ME:=if T5 x&&c.gl x then(LV r c x e es).orElse λ_=>(B8 r c (e::es)).bind λms=>((c.fns.lookup x).map λf=>.call f ms).orElse λ_=>((c.cls.lookup x).map λf=>.make x f ms).orElse λ_=>if c.blt.contains x then(zH.lookup x).map λp=>.prim p ms else none else none
def Hb(x:Str):List Expr->Option ME
 |[]=>zX c x
 |e::es=>zY r c x e es
def zZ(o:Expr)(m:Str)(apos pos:Pos)(args:List Expr):Option ME :=
 if wG o && (apos.endLine == pos.line) && decide (args.length < 20) then (r.e c o).bind λmo=>(B8 r c args).bind λms=>if m="index" then none else if args.isEmpty && (Z1.lookup m).isSome then (Z1.lookup m).map λp=>.eI p mo ms else (match zP.lookup m with
  |some p=>if args.isEmpty then none else some (.eI p mo ms)
  | none=>none) else none
def Bk(f:Expr)(args:List Expr)(gK:List Keyword)(pos:Pos):Option ME:=if gK.isEmpty then(match f with
 |.Name x _=>Hb r c x args
 |.Attribute o m apos=>zZ r c o m apos pos args
 | _=>none) else none
def uU(tg e:Expr):Option ME:=(((N1 e).bind λq =>
  if q.1="enumerate" then (match q.2 with
   |[a]=>if c.gl "enumerate"&&c.blt.contains "enumerate"&&fH a&&Hw tg then(r.e c a).map .kG else none
   | _=>none)
  else if q.1="range" then (match q.2 with
   |[a]=>if c.gl "range"&&c.blt.contains "range"&&fH a then(r.e c a).map .eK else none
   |[a,b]=>if c.gl "range"&&c.blt.contains "range"&&fH a&&fH b then(r.e c a).bind λma=>(r.e c b).map λmb=>.jB ma mb else none
   | _=>none)
  else none):Option ME).orElse λ_=>if fH e then (r.e c e).map .gL else none
def Y6(elt:Expr)(gens:List Comprehension)(sc:Scope):Option ME:=match gens with
 |[⟨tg,it,ifs,Cs⟩]=>if c.Ap sc&&decide (Cs=0)&&fH it then((c.inner sc).tg tg).bind λt=>(uU r c tg it).bind λmi=>(Gw r (c.inner sc) ifs).bind λmc=>(r.e (c.inner sc) elt).map λme=>.comp (c.d7 sc) (frees sc++locals sc).length t mi mc me else none
 |_=>none
def QZ:Expr->Option Str
 |.Name x _=>some x
 |_=>none
def EN:List Keyword->Bool
 |[⟨some k,.Name x _,_⟩]=>decide (k="key")&&decide (x="len")
 |_=>false
def wM(f:Expr)(args:List Expr)(gK:List Keyword):Option ME:=if EN gK&&decide (QZ f=some "sorted")&&c.gl "sorted"&&c.blt.contains "sorted"&&c.gl "len"&&c.blt.contains "len" then(wt args).bind λa=>if fH a then c1 r c .ju a else none else none
def xq(f:Expr)(args:List Expr)(gK:List Keyword):Option ME:=(λ(_:CF) (_:f6)=>none) r c
def vp(f:Expr)(args:List Expr)(gK:List Keyword):Option ME:=(λ(_:f6)=>none) c
def HS:Expr->Option ME
 |.Name x _=>Bl c x
 |.Constant k _ _=>(U5 k).map .lit
 |.BinOp a op b _=>c2 r c (.bin op) a b
 |.UnaryOp op a _=>xp r c op a
 |.Compare a ops bs _=>uT r c a ops bs
 |.BoolOp op vs _=>AR r c op vs
 |.IfExp t a b _=>(r.t c t).bind λmt=>(r.e c a).bind λma=>(r.e c b).map λmb=>.ite mt ma mb
 |.Tuple es _ _=>(B8 r c es).map (.prim .tup)
 |.List es _=>(B8 r c es).map (.prim .lst)
 |.Subscript a b _=>Ek r c a b
 |.Dict ks vs _=>if ks.isEmpty&&vs.isEmpty then some (.prim .Q5 .nil) else none
 |.Attribute o f _=>if wG o then c1 r c (.fld f) o else none
 |.Call f args gK pos=>(wM r c f args gK).orElse λ_=>(xq r c f args gK).orElse λ_=>(vp c f args gK).orElse λ_=>Bk r c f args gK pos
 |.ListComp elt gens sc _=>Y6 r c elt gens sc
 |_=>none
def stepT:Expr->Option ME
 |.UnaryOp op a _=>if op=.Not then(r.t c a).map .dQ else none
 |.BoolOp op vs _=>AS r c op vs
 |.Compare a ops bs _=>(uT r c a ops bs).map .fh
 |e=>if W6 e then(r.e c e).map .fh else none
def Hz:Expr->Option ME
 |.Constant k _ _=>(U5 k).map .lit
 |_=>none
def zK:List Expr->Option ME
 |[]=>some .nil
 |e::es=>(Hz e).bind λm=>(zK es).map λms=>.cons m ms
def Hy:Expr->Option ME
 |.List es _=>(zK es).map (.prim .lst)
 |.Constant k _ _=>(U5 k).map .lit
 |_=>none
def Ma:List Stmt->Option Expr
 | [s]=>(match s with
  |.Return e _=>e
  | _=>none)
 |_=>none
def Gv:ExceptHandler->Option (Str×Expr)
 |.ExceptHandler t n b _=>if n.isNone then t.bind λt=>(asName t).bind λy=>(Ma b).map λe=>(y,e) else none
def wc:List ExceptHandler->Option (List (Str×ME))
 |[]=>some []
 |h::hs=>(Gv h).bind λq=>if c.exc.contains q.1&&c.gl q.1&&T5 q.1 then(Hy q.2).bind λm=>(wc hs).map λms=>(q.1,m)::ms else none
def Hc(e f:Option Expr):Option (Str×Expr×List Expr):=if f.isNone then e.bind λe=>(N1 e).bind λq=>q.2.head?.map λa=>(q.1,a,q.2.tail) else none
def f6.DQ(f:Str):List Str:=(c.mL.filter λy=>decide (y.1=f)).map (·.2)
def zG:List Expr->Option (Expr×Expr×Expr×Expr)
 |_=>none
def Ec(tg e:Expr):Option MS:=match tg with
 |.Name x _=>if c.x4 x then(c.idx x).bind λi=>(r.e c e).map λm=>.set i m else none
 |.Tuple es _ _=>(zG es).elim (if Z0 e&&p9 e then(c.slots es).bind λis=>(r.e c e).map λm=>.ni (.many is) m else none) λq=>if p9 e&&fH q.2.1&&fH q.2.2.2 then(r.e c q.1).bind λm1=>(r.e c q.2.1).bind λn1=>(r.e c q.2.2.1).bind λm2=>(r.e c q.2.2.2).bind λn2=>(r.e c e).map λm=>.vz m1 n1 m2 n2 m else none
 |.Subscript o i _=>if fH i&&p9 e then(r.e c o).bind λmo=>(r.e c i).bind λmi=>(r.e c e).map λm=>.eM mo mi m else none
 |.Attribute o f _=>(r.e c o).bind λmo=>(r.e c e).map λm=>.nu f (c.DQ f) mo m
 |_=>none
def toR(e:Expr)(m:ME):ME:=(λ(_:f6)=>m) c
def HU:Stmt->Option MS
 |.Expr e _=>if p9 e then(r.e c e).map .expr else none
 | .Assign xD e _=>(match xD with
  |[tg]=>Ec r c tg e
  | _=>none)
 |.If t a b _=>(r.t c t).bind λmt=>(t9 r c a).bind λma=>(t9 r c b).map λmb=>.ifs mt ma mb
 |.For tg it body kM _=>if c.nZ&&(kM.isEmpty&&fH it) then(c.tg tg).bind λt=>(uU r c tg it).bind λmi=>(t9 r c body).map λmb=>.fE t mi mb else none
 | .Return e _=>(match e with
  |some e=>(r.e c e).map λm=>.ret (toR c e m)
  | none=>some .pE)
 |.Pass _=>some .pass
 |.Raise e f _=>(Hc e f).bind λq=>if c.je&&c.exc.contains q.1&&c.gl q.1&&T5 q.1 then(B8 r c (q.2.1::q.2.2)).map (.raise q.1) else none
 |.Try body hs el fi _=>if c.iN&&!hs.isEmpty&&el.isEmpty&&fi.isEmpty then(t9 r { c with je:=false,iN:=false,wr:=true } body).bind λmb=>(wc c hs).map λms=>.S6 mb ms else none
 |_=>none
end
def comp:Nat->CF
 |0=>⟨λ_ _=>none,λ_ _=>none,λ_ _=>none⟩
 |n+1=>⟨HS (comp n),stepT (comp n),λc s=>(HU (comp n) c s).orElse λ_=>some (.expr .no)⟩
structure gf(X:Cx)(c:f6)(P:eT)(Ξ:gs):Prop where
 N:X.N=c.N
 nd:c.N.Nodup
 loc:∀x,c.nm.lookup x=some .local->X.env.scope.names.lookup x=some .local
 vY:∀x,c.nm.lookup x=some .cell->X.env.scope.names.lookup x=some .cell
 zg:∀x,c.nm.lookup x=some .free->X.env.scope.names.lookup x=some .cell\/X.env.scope.names.lookup x=some .free
 Dm:∀x,c.nm.lookup x=some .globalImplicit->X.env.scope.names.lookup x=some .globalImplicit
 cells:∀x,(c.nm.lookup x=some .cell\/c.nm.lookup x=some .free)->∃a,X.env.cells.lookup x=some a
 nZ:∀x,c.nm.lookup x=some .cell->X.fn x=true
 calm:X.calm=true
 units:X.A.units+100<cLine
 own:c.nZ=true->PassesOwn (model X.prog X.w) X.A X.env X.xe
 mono:i4 P
 con:∀x d,c.con.lookup x=some d->∃v u,X.mg x=some u/\RelV v u/\∀ρ H,c9 X.K ρ H d v
 blt:∀x,c.blt.contains x=true->X.mg x=none
 fns:∀x f,c.fns.lookup x=some f->∃k fa fd ps,oh X P Ξ.1 k f fa fd ps/\n8 k X.A/\X.mg x=some (.ref fa)/\PySem.W.keepIn X.K (.ref fa)=true
 cls:∀x f,c.cls.lookup x=some f->∃k C fa fd ps,oh X P Ξ.1 k f fa fd ps/\n8 (k+1) X.A/\X.mg x=some (.ref C)/\m5 X.K x C/\jq X.K C/\Mk X.K C fa
 ox:∀m y f C,(m,y,f)∈c.ox->m5 X.K y C->∃k fa fd ps,Meth X.K C m fa/\oh X P Ξ.1 k f fa fd ps/\n8 k X.A
 mL:∀f y C,(f,y)∈c.mL->m5 X.K y C->w5 X.K C f
 vU:Ξ.1=c.exc
 pass:Passes (iC X.prog X.w) X Ξ.2
 je:c.je=true->Z9 X Ξ.2
 iN:c.iN=true->X.stack=X.env::X.outer/\X.env.frame=some X.env.locals/\Y4 X Ξ.2
 exc:∀x,c.exc.contains x=true->∃C,X.mg x=some (.ref C)/\m5 X.K x C/\∃B newId fL bm,OwnCls x C bm newId X.mg X.base/\ExcBaseFacts B newId fL bm
 zj:∀x y C C',c.exc.contains x=true->c.exc.contains y=true->m5 X.K x C->m5 X.K y C'->PySem.W.exmOne X.K (.ref C) (.ref C')=some (decide (x=y\/y="MintError"))
 zd:∀x kvs,c.gd.lookup x=some kvs->Ht X x kvs
 code:c.nZ=true->PySem.W.kdsCode X.K X.env.code=true
 sgn:c.wr=true->X.sg=none
theorem QQ(h:c.idx x=some i):c.N[i]?=some x:=by
 unfold f6.idx at h;rw[jE] at h;obtain⟨h1,h2,_⟩:=h;rw[ak h1,aW h2]
theorem gf.NR(C:gf X c P Ξ)(h:c.xA x=true):wY X.env.scope x:=by
 unfold f6.xA at h;split at h
 ·rename_i e;exact .inl (C.loc x e)
 ·rename_i e;exact .inr (.inl (C.vY x e))
 ·rename_i e;rcases C.zg x e with z|z
  ·exact .inr (.inl z)
  ·exact .inr (.inr z)
 ·cases h
theorem gf.o9(C:gf X c P Ξ)(h:c.gl x=true):Gl X x:=C.Dm x (aW h)
theorem gf.x4(C:gf X c P Ξ){x:Str}(h:c.x4 x=true):Loc X.env.scope x/\(X.fn x=true\/X.env.scope.names.lookup x=some .local):=by
 unfold f6.x4 at h;rw[hZ] at h;rcases h with h|h
 ·have:=C.loc x (aW h);exact⟨.inl this,.inr this⟩
 ·exact⟨.inr (C.vY x (aW h)),.inl (C.nZ x (aW h))⟩
theorem gf.rG(C:gf X c P Ξ)(h:c.idx x=some i):X.N[i]?=some x:=by rw[C.N];exact QQ h
theorem gf.sX(C:gf X c P Ξ)(hw:c.wr=true):X.Nd:=⟨by rw[C.N];exact C.nd,C.sgn hw⟩
theorem U7(h:asName e=some x):∃p,e=.Name x p:=by
 cases e<;>first|(cases h;exact⟨_,rfl⟩)|cases h
theorem Fe(h:c.slot e=some i):∃x p,e=.Name x p/\c.x4 x=true/\c.idx x=some i:=by
 obtain⟨x,hx,h2⟩:=ag.mp h;obtain⟨p,rfl⟩:=U7 hx;split at h2
 ·exact⟨x,p,rfl,by assumption,h2⟩
 ·cases h2
theorem gf.slots(C:gf X c P Ξ):∀{es:List Expr} {is:List Nat},c.slots es=some is->eZ X es is:=by
 intro es
 induction es with
 |nil=>intro is h;cases h;exact .nil
 |cons e r ih =>
  intro is h;obtain⟨i,hi,h⟩:=ag.mp h;obtain⟨YT,hs,rfl⟩:=ae.mp h;obtain⟨x,p,rfl,hl,hx⟩:=Fe hi;exact .cons (C.rG hx) (C.x4 hl).1 (C.x4 hl).2 (ih hs)
theorem orElse_some{α:Type}{a:Option α}{b:Unit->Option α}{m:α}(h:a.orElse b=some m):a=some m\/b Unit.unit=some m:=by
 cases a with
 |none=>exact .inr h
 |some x=>exact .inl h
theorem gf.Eh(C:gf X c P Ξ)(hw:c.wr=true){tg:Expr}{t:MT}(h:c.tg tg=some t):PG X tg (LG X.K t):=by
 rcases orElse_some h with h|h
 ·obtain⟨i,hi,rfl⟩:=ae.mp h;obtain⟨x,p,rfl,hl,hx⟩:=Fe hi;exact Qd (C.sX hw) (C.rG hx) (C.x4 hl).1 (C.x4 hl).2
 ·cases tg<;>first|(cases h;done)|skip
  obtain⟨is,hs,rfl⟩:=ae.mp (show(c.slots _).map MT.many=some t from h);exact Ez C.calm (C.sX hw) (C.slots hs)
theorem j2(h:fH e=true):starEach (e::es) env=(false,eval e env)::starEach es env:=by
 cases e<;>first|rfl|cases h
theorem Av(h:fH e=true):∀x,foldedSetIterable e env x=pure x:=by
 intro x;cases e<;>first|rfl|cases h
theorem GH(h:fH e=true):Aa e:=by
 intro o i;cases e<;>first|rfl|cases h
theorem Xu{i:Expr}{tp:Pos}(h:fH i=true):∀v,assign (.Subscript o i tp) env v=(do
      let ov <- holding [v] (eval o env)
      let iv <- holding [v,ov] (eval i env)
      standAt tp
      holding [v,ov,iv] (setItem ov iv v)
      release [v,ov,iv] []):=by
  intro v;cases i<;>first|rfl|cases h
theorem W8{t:Option Expr}(h:p9 e=true):swapsWith e t n env=pure false:=by
 cases e<;>first|rfl|cases h
theorem Ug{k:Nat}{p:Pos}(h:Z0 e=true):swappedStores [.Tuple es k p] e env=pure none:=by
 cases e<;>first|rfl|cases h
theorem VW(h:W6 e=true):∀whole,isTrue e env whole=(do let v <- whole;standAt e.pos;holding [v] (truthy v)):=by
 intro w;cases e<;>first|rfl|cases h
theorem C7{q:Str×List Expr}(h:N1 e=some q):∃p pos,e=.Call (.Name q.1 p) q.2 [] pos:=by
 cases e<;>first|(cases h;done)|skip
 rename_i f as gK pos;cases f<;>first|(cases h;done)|skip
 cases gK<;>first|(cases h;done)|skip
 cases h;exact⟨_,_,rfl⟩
theorem Va(h:Hw e=true):∃es k p,e=.Tuple es k p:=by
 cases e<;>first|exact⟨_,_,_,rfl⟩|cases h
theorem TN{kvs:List D}(h:c.DT b=some kvs):∃x p,b=.Name x p/\c.gl x=true/\T5 x=true/\c.gd.lookup x=some kvs:=by
 obtain⟨x,hx,h2⟩:=ag.mp h;obtain⟨p,rfl⟩:=U7 hx;split at h2
 ·rename_i hc;rw[bR] at hc;exact⟨x,p,rfl,hc.1,hc.2,h2⟩
 ·cases h2
theorem M9{f:Str}(h:wG o=true):attributeBase o f env (eval o env)=eval o env:=by
 cases o<;>first|rfl|skip
 rename_i f as gK pos;cases f<;>first|rfl|skip
 cases as with
 |nil=>cases h
 |cons=>rfl
theorem Ac{env:Env}:∀(names:List (Str×NameKind)) (acc:List (Str×Addr)),(∀y∈names,y.2=.free->∃a,env.cells.lookup y.1=some a)->(∀x a,acc.lookup x=some a->env.cells.lookup x=some a) ->
  ∃ cl,(forIn names acc λ(y:Str × NameKind) (cs:List (Str × Addr))=>(match y with
   |(name,kind)=>if(kind==NameKind.free)=true then do
     let __do_lift <- cellOf env name
     pure (ForInStep.yield ((name,__do_lift)::cs))
    else pure (ForInStep.yield cs):Sem (ForInStep (List (Str × Addr)))))=pure cl/\(∀ x a,cl.lookup x=some a->env.cells.lookup x=some a)/\(∀ y ∈ names,y.2=.free->∃ a,cl.lookup y.1=some a)/\∀ x a,acc.lookup x=some a->∃ a',cl.lookup x=some a'
 |[],acc,_,h2=>⟨acc,rfl,h2,λy hy=>absurd hy (by simp),λx a h=>⟨a,h⟩⟩
 |(n,k)::r,acc,h1,h2=>by
  rw[List.forIn_cons];by_cases hk:k=.free
  ·subst hk;obtain⟨a,ha⟩:=h1 (n,.free) (by simp) rfl;have hc:cellOf env n=pure a:=by unfold cellOf;rw[ha]
   obtain ⟨cl,e,q1,q2,q3⟩:=Ac r ((n,a) :: acc) (λy hy=>h1 y (by simp [hy])) (λx b hb=>by
    rw[da] at hb;cases hx:x==n with
    |true=>simp_all
    | false=>rw [hx] at hb;exact h2 x b hb)
   refine⟨cl,?_,q1,λy hy hf=>?_,λx b hb=>?_⟩
   ·simp only[beq_self_eq_true,if_true,hc];exact e
   ·rcases av.mp hy with z|z
    ·subst z;exact q3 n a (by simp)
    ·exact q2 y z hf
   ·cases hx:x==n with
    |true=>exact q3 x a (by rw[da,hx])
    |false=>exact q3 x b (by rw[da,hx];exact hb)
  ·have hb:(k==NameKind.free)=false:=by simpa using hk
   obtain⟨cl,e,q1,q2,q3⟩:=Ac r acc (λy hy=>h1 y (by simp[hy])) h2;refine⟨cl,?_,q1,λy hy hf=>?_,q3⟩
   ·simp only[hb,Bool.false_eq_true,if_false];exact e
   ·rcases av.mp hy with z|z
    ·simp_all
    ·exact q2 y z hf
theorem VP{P:Program}{w:World}:Passes (iC P w) X (λ_ _ _=>False):=λ_ _ _ _ _ _ _ h=>by
 obtain⟨_,_,_,_,_,_,_,z⟩:=h;exact z.elim
theorem L6{env:Env}:∀{names:List (Str×NameKind)} {x:Str},names.lookup x=some .globalImplicit ->
  (names.map λ(n,k)=>if(k==NameKind.free&&env.scope.kind==.function&&env.kindOf n==some .cell) then(n,NameKind.cell) else(n,k)).lookup x=some .globalImplicit
 |[],_,h=>by simp at h
 |(n,k)::r,x,h=>by
  have ih:=@L6 env r x;show List.lookup x ((if(k==NameKind.free&&env.scope.kind==.function&&env.kindOf n==some .cell)=true then(n,NameKind.cell) else(n,k))::_)=_;cases hx:x==n with
  |true =>
   simp only[List.lookup_cons,hx] at h;cases h;simp[List.lookup_cons,hx]
  |false =>
   simp only[List.lookup_cons,hx] at h;by_cases hc:(k==NameKind.free&&env.scope.kind==.function&&env.kindOf n==some .cell)=true
   ·rw[aJ hc];simp only[List.lookup_cons,hx];exact ih h
   ·rw[aB hc];simp only[List.lookup_cons,hx];exact ih h
theorem gf.comp(C:gf X c P Ξ){sc:Scope}(h:c.Ap sc=true):∃cl,dR X sc (frees sc++locals sc) (c.d7 sc) cl/\∀pins A s H fp,gf (i5 X pins sc (frees sc++locals sc) cl A s H fp) (c.inner sc) P (oS Ξ.1):=by
 unfold f6.Ap at h;simp only[Bool.and_eq_true,decide_eq_true_eq,List.all_eq_true] at h;obtain⟨⟨⟨⟨h1,h2⟩,h3⟩,h4⟩,h5⟩:=h;have fr:∀x∈frees sc,(∃i,c.idx x=some i)/\sc.names.lookup x=some .free/\(c.nm.lookup x=some .cell\/c.nm.lookup x=some .free):=λx hx=>by
  have:=h5 x hx;rw[dW,hZ] at this;simp only[decide_eq_true_eq] at this;exact⟨this.1.1,this.1.2,this.2⟩
 have qh:∀y∈sc.names,y.2=.free->∃a,X.env.cells.lookup y.1=some a:=λy hy hf=>by
  have hm:y.1∈frees sc:=az.mpr ⟨y,cA.mpr ⟨hy,by simp[hf]⟩,rfl⟩;exact C.cells y.1 (fr y.1 hm).2.2
 obtain⟨cl,e,q1,q2,_⟩:=Ac sc.names [] qh (λx a h=>by simp at h);have h2:∀y∈sc.names,y.2=.cell->sc.names.lookup y.1=some .cell:=λy hy hl=>by
  have:=h2 y hy
  simp_all
 refine⟨cl,⟨h1,h2,λy hy hl=>?_,?_,q1,λx hx=>q2 (x,.free) (aK hx) rfl,h4,λi j jX=>?_,?_⟩,λpins A s H fp=>?_⟩
 ·grind
 ·simp only[closureFor];rw[e]
  rfl
 ·unfold f6.d7 at jX;rw[aq] at jX;cases ex:(frees sc)[i]? with
  |none=>simp_all
  |some x =>
   rw[ex] at jX;have hx:=aC ex;obtain⟨⟨k,hk⟩,hl,hc⟩:=fr x hx;have hj:k=j:=by
    have:=aF jX;dsimp only at this;rw[hk] at this;exact this
   subst hj;refine⟨x,?_,C.rG hk,hl,?_⟩
   ·rw[aA (ay.mp ex).1];exact ex
   ·rcases hc with z|z
    ·exact .inl (C.vY x z)
    ·exact C.zg x z
 ·unfold f6.d7;simp
 ·refine⟨rfl,h4,λx hx=>lookup_relabel_local hx,λx hx=>?_,λx hx=>A2 hx,λx hx=>L6 hx,λx hx=>?_,λx _=>?_,rfl,C.units,(λ_=>PassesOwn.never),C.mono,C.con,C.blt,C.fns,C.cls,C.ox,C.mL,C.vU,VP,(λz=>by cases z),(λz=>by cases z),C.exc,C.zj,C.zd,(λz=>by cases z),λ_=>rfl⟩
  ·exact J0 hx
  ·rcases hx with hx|hx
   ·exact Fu (.inl hx)
   ·exact Fu (.inr (q2 (x,.free) (aK hx) rfl))
  ·exact aQ ‹_›
theorem J7(h:T5 x=true):(x==("__debug__":Str))=false/\(x==("__classdict__":Str))=false/\x≠"__name__":=by
 unfold T5 at h;simp only[Bool.and_eq_true,decide_eq_true_eq,beq_iff_eq] at h;exact⟨h.1.1,h.1.2,h.2⟩
theorem UT{t:String}(h:Bh.lookup x=some t):bootBuiltins x=some (.type t):=by
 have hm:=aK h;simp only[Bh,List.mem_cons,List.mem_nil_iff,or_false] at hm;rcases hm with z|z|z|z|z<;>(cases z;first|exact vh|exact PyProof.Rows.boot_bool|exact PyProof.Rows.boot_str|exact qI|exact rX|decide +kernel|rfl)
theorem Vc(hc:X.calm=true)(hu:X.A.units+100<cLine)(h:zH.lookup x=some p):∃v,((∃id,v=.builtin id)\/∃T,v=.type T)/\bootBuiltins x=some v/\j8 X v (rN X.K p):=by
 have hm:=aK h;simp only[zH,List.mem_cons,List.mem_nil_iff,or_false] at hm;rcases hm with z|z|z|z|z|z|z|z|z
 ·cases z;exact⟨.builtin "len",.inl ⟨_,rfl⟩,iG,OC⟩
 ·cases z;exact⟨.type "list",.inr ⟨_,rfl⟩,by first|exact rX|decide +kernel,Xj hc⟩
 ·cases z;exact⟨.type "tuple",.inr ⟨_,rfl⟩,by first|exact qI|decide +kernel,US⟩
 ·cases z;exact⟨.builtin "isinstance",.inl ⟨_,rfl⟩,by first|exact PyProof.Rows.boot_isinstance|decide +kernel,QR⟩
 ·cases z;exact⟨.builtin "all",.inl ⟨_,rfl⟩,by first|exact PyProof.Rows.boot_all|decide +kernel,Oa hc⟩
 ·cases z;exact⟨.builtin "max",.inl ⟨_,rfl⟩,by first|exact PyProof.Rows.boot_max|decide +kernel,OJ hc⟩
 ·cases z;exact⟨.builtin "min",.inl ⟨_,rfl⟩,by first|exact PyProof.Rows.boot_min|decide +kernel,OK hc hu⟩
 ·cases z;exact⟨.type "int",.inr ⟨_,rfl⟩,by first|exact vh|decide +kernel,Oq⟩
 ·cases z;exact⟨.type "set",.inr ⟨_,rfl⟩,by first|exact vg|decide +kernel,Xg hc⟩
theorem WR(h:Z1.lookup x=some p):∃T id,PlainAttrs T/\Slot T x id/\typeOf (.builtin id)=pure (.type "method_descriptor")/\mQ X id (rM X.K p) /\
  ∀{d:D} {v:V} {g:G} {ρ:List Addr} {H:Hp},Rl X.K ρ g H->c9 X.K ρ H d v->kZ p d g->mx X.K T v H:=by
 cases h
theorem VI(hu:X.A.units+100<cLine)(h:zP.lookup x=some p):∃T id,PlainAttrs T/\Slot T x id/\typeOf (.builtin id)=pure (.type "method_descriptor")/\mQ X id (rM X.K p) /\
  ∀{d:D} {v:V} {g:G} {ρ:List Addr} {H:Hp},Rl X.K ρ g H->c9 X.K ρ H d v->kZ p d g->mx X.K T v H:=by
 have hm:=aK h;simp only[zP,List.mem_cons,List.mem_nil_iff,or_false] at hm;rcases hm with z|z|z|z
 ·cases z;exact⟨_,_,qE,PySem.F.slot_list_append,PySem.F.type_list_append,U',λR r h=>ty_list R r h⟩
 ·cases z;exact⟨_,_,qE,PySem.F.slot_list_pop,PySem.F.type_list_pop,Us,λR r h=>ty_list R r h⟩
 ·cases z;exact⟨_,_,qG,ij,PySem.F.type_dict_get,Oj hu,λR r h=>ty_dict R r h⟩
 ·cases z;exact⟨_,_,qG,lC,PySem.F.type_dict_setdefault,PL hu,λR r h=>Qv R r h⟩
theorem Ff{pos:Pos}{env:Env}:∀{es:List Expr},(∀e∈es,fH e=true)->(backTo pos (starEach es env)).all (λx=>!x.1)=true
 |[],_=>rfl
 |e::es,h=>by
  rw[j2 (h e (by simp))];have ih:=Ff (pos:=pos) (env:=env) (es:=es) λx hx=>h x (by simp[hx]);unfold backTo at ih ⊢;rw[aZ,List.all_cons,ih]
  rfl
theorem S8{pos:Pos}{env:Env}:∀{es:List Expr},(∀e∈es,fH e=true)->(backTo pos (starEach es env)).any (·.1)=false
 |[],_=>rfl
 |e::es,h=>by
  rw[j2 (h e (by simp))];have ih:=S8 (pos:=pos) (env:=env) (es:=es) λx hx=>h x (by simp[hx]);unfold backTo at ih ⊢;rw[aZ,oZ,ih]
  rfl
theorem Ar:∀{es:List Expr} {m:ME},B8 r c es=some m->∀e∈es,fH e=true:=by
 intro es
 induction es with
 |nil=>intro m _ e he;simp_all
 |cons a es ih =>
  intro m h e he;unfold B8 at h;split at h
  ·obtain⟨m1,h1,h⟩:=ag.mp h;obtain⟨m2,h2,_⟩:=ae.mp h;rcases av.mp he with z|z
   ·rw[z];assumption
   ·exact ih h2 e z
  ·cases h
structure oV(P:eT)(r:CF):Prop where
 e:∀X c Ξ,gf X c P Ξ->∀e m,r.e c e=some m->PE X e (LE X.K Ξ (aS P m))
 t:∀X c Ξ,gf X c P Ξ->∀e m,r.t c e=some m->PT X e (LT X.K Ξ (dG P m))
 s:∀X c Ξ,gf X c P Ξ->c.wr=true->∀st m,r.s c st=some m->PS X st (LS X.K Ξ (wpS P m))
section
variable(S:oV P r)(C:gf X c P Ξ){a:Expr}
include S C
theorem O2(h:c1 r c p a=some m):∃ma,PE X a (LE X.K Ξ (aS P ma))/\m=.prim p (.cons ma .nil):=by
 obtain⟨ma,ha,rfl⟩:=ae.mp h;exact⟨ma,S.e X c Ξ C _ _ ha,rfl⟩
theorem S1(h:c2 r c p a b=some m):∃ma mb,PE X a (LE X.K Ξ (aS P ma))/\PE X b (LE X.K Ξ (aS P mb))/\m=.prim p (.cons ma (.cons mb .nil)):=by
 obtain⟨ma,ha,h⟩:=ag.mp h;obtain⟨mb,hb,rfl⟩:=ae.mp h;exact⟨ma,mb,S.e X c Ξ C _ _ ha,S.e X c Ξ C _ _ hb,rfl⟩
theorem sZ:∀{es:List Expr} {m:ME},B8 r c es=some m->PA X es (LA X.K Ξ (fT P m)):=by
 intro es
 induction es with
 |nil=>intro m h;cases h;exact F5 C.mono
 |cons a es ih =>
  intro m h;unfold B8 at h;split at h
  ·rename_i bB;obtain⟨m1,h1,h⟩:=ag.mp h;obtain⟨m2,h2,rfl⟩:=ae.mp h;exact v7 C.mono (S.e X c Ξ C _ _ h1) (ih h2) (j2 bB)
  ·cases h
theorem Jh{op:BoolOp}:∀{vs:List Expr} {m:ME},AR r c op vs=some m->PE X (.BoolOp op vs pos) (LE X.K Ξ (aS P m)):=by
 intro vs
 induction vs with
 |nil=>intro m h;cases h
 |cons a vs ih =>
  intro m h;cases vs with
  |nil=>exact Pk (S.e X c Ξ C _ _ h)
  |cons b vs =>
   obtain⟨m1,h1,h⟩:=ag.mp h;obtain⟨m2,h2,rfl⟩:=ae.mp h;cases op
   ·exact PQ C.mono (S.e X c Ξ C _ _ h1) (ih h2)
   ·exact Nw C.mono (S.e X c Ξ C _ _ h1) (ih h2)
theorem Jd{op:BoolOp}:∀{vs:List Expr} {m:ME},AS r c op vs=some m->PW X (.BoolOp op vs pos) (LT X.K Ξ (dG P m)):=by
 intro vs
 induction vs with
 |nil=>intro m h;cases h
 |cons a vs ih =>
  intro m h;cases vs with
  |nil =>
   cases op
   ·exact XQ (S.t X c Ξ C _ _ h)
   ·exact PH (S.t X c Ξ C _ _ h)
  |cons b vs =>
   obtain⟨m1,h1,h⟩:=ag.mp h;obtain⟨m2,h2,rfl⟩:=ae.mp h;cases op
   ·exact Qk C.mono (S.t X c Ξ C _ _ h1) (ih h2)
   ·exact NB C.mono (S.t X c Ξ C _ _ h1) (ih h2)
theorem RG(h:Gw r c es=some m):ly X es (LT X.K Ξ (dG P m)):=by
 rcases es with _|⟨e,_|⟨_,_⟩⟩
 ·cases h;exact Ym C.mono
 ·exact XN (S.t X c Ξ C _ _ h)
 ·cases h
theorem uR(hw:c.wr=true):∀{BU:List Stmt} {m:MS},t9 r c BU=some m->iZ X BU (LS X.K Ξ (wpS P m)):=by
 intro es
 induction es with
 |nil=>intro m h;cases h;exact GV C.mono
 |cons a es ih =>
  intro m h;obtain⟨m1,h1,h⟩:=ag.mp h;obtain⟨m2,h2,rfl⟩:=ae.mp h;exact EA C.mono (S.s X c Ξ C hw _ _ h1) (ih h2)
end
theorem Gn{t:Expr}(h:p9 e=true):swapsWithSole [t] e n env=pure false:=by
 exact W8 h
theorem gf.S6(C:gf X c P Ξ)(hw:c.wr=true)(dz:X.stack=X.env::X.outer)(hf:X.env.frame=some X.env.locals)(pins:List (Addr×Obj))(D:L2.Ends)(hs:List ExceptHandler){o:Option L2.St}{cL:L2.St}{w:Bool}(yd:∀Z:L2.St,Z.length=X.N.length->(∀τ,o=some τ->Z=τ)->cL.length=Z.length/\∀(i:Nat) v,cL[i]?=some (some v)->Z[i]?=some (some v))(ho:w=true->o=none) :
  gf (O4 X pins (wx X pins D hs) o) { c with je:=false,iN:=false,wr:=w } P (wX X Ξ.1 D cL hs) :=
 ⟨C.N,C.nd,C.loc,C.vY,C.zg,C.Dm,C.cells,C.nZ,C.calm,C.units,(λ_=>PassesOwn.looking),C.mono,C.con,C.blt,C.fns,C.cls,C.ox,C.mL,C.vU,Ui (C.sgn hw) dz hf yd λC H' ⟨C',e,z⟩=>(by simp_all),(λz=>by cases z),(λz=>by cases z),C.exc,C.zj,C.zd,C.code,ho⟩
section
variable(S:oV P r)(C:gf X c P Ξ){a d:Expr}
include C
theorem OO(h:Bl c x=some m):PE X (.Name x pos) (LE X.K Ξ (aS P m)):=by
 unfold Bl at h;split at h
 ·rename_i gp;obtain⟨d1,d2,d3⟩:=J7 gp;split at h
  ·rename_i hv;obtain⟨i,hi,rfl⟩:=ae.mp h;exact Qb (C.rG hi) (C.NR hv) d1 d2
  ·split at h
   ·rename_i hg;rcases orElse_some h with h|h
    ·obtain⟨d,hd,rfl⟩:=ae.mp h;obtain⟨v,u,hm,r,rr⟩:=C.con x d hd;exact Q7 (Eo (C.o9 hg) hm r d1) rr
    ·split at h
     ·rename_i hb;obtain⟨t,ht,rfl⟩:=ae.mp h;exact Q7 (v:=.ty t) (Xz (C.o9 hg) (C.blt x hb) (UT ht) rfl d3 d1) λ_ _=>.ty t
     ·cases h
   ·cases h
 ·cases h
omit C in
theorem xS{k:Const}{j:Nat}{d:D}(h:U5 k=some d):PE X (.Constant k j pos) (LE X.K Ξ (aS P (.lit d))):=by
 cases k<;>first|(cases h;done)|skip
 ·cases h;exact Q7 Ph λ_ _=>.bq
 ·cases h;exact Q7 Nk λ_ _=>.bl _
 ·cases h;exact Q7 GI λ_ _=>.int _
 ·cases h;exact Q7 Pl λ_ _=>.str _
include S
theorem RH{op:UnaryOp}(h:xp r c op a=some m):PE X (.UnaryOp op a pos) (LE X.K Ξ (aS P m)):=by
 unfold xp at h;split at h
 ·rename_i ho;subst ho;obtain⟨ma,ha,rfl⟩:=ae.mp h;exact PZ C.mono (S.e X c Ξ C _ _ ha)
 ·obtain⟨ma,ha,rfl⟩:=O2 S C h;exact Nx C.mono ha
omit S C in
theorem VA{op:CmpOp}(h:HF op b=true):op=.Gt/\∃j p,b=.Constant (.int 1) j p:=by
 cases op<;>first|(cases h;done)|skip
 cases b<;>first|(cases h;done)|skip
 rename_i k j p;cases k<;>first|(cases h;done)|skip
 obtain rfl:=aW (show decide (_=(1:Int))=true from h);exact⟨rfl,_,_,rfl⟩
omit S C in
theorem V8{l:List Expr}{x:Expr}(h:wt l=some x):l=[x]:=by
 rcases l with _|⟨a,_|⟨_,_⟩⟩<;>cases h
 rfl
theorem MY{op:CmpOp}(h:AJ r c op a b=some m):PE X (.Compare a [op] [b] pos) (LE X.K Ξ (aS P m))/\PT X (.Compare a [op] [b] pos) (LT X.K Ξ (dG P (.fh m))):=by
 unfold AJ at h;split at h
 ·rename_i hc;simp only[Bool.and_eq_true] at hc;obtain⟨⟨⟨⟨h1,h2⟩,h3⟩,h4⟩,h5⟩:=hc;obtain⟨rfl,j,p,rfl⟩:=VA h1;obtain⟨q,hq,k1⟩:=ag.mp h;obtain⟨z,hz,k2⟩:=ag.mp k1;obtain⟨w,hw,k3⟩:=ag.mp k2;obtain⟨e,he,k4⟩:=ag.mp k3;clear k1 k2 k3 h;have h:=k4;clear k4;obtain⟨q1,q2⟩:=q;obtain⟨w1,w2⟩:=w;obtain rfl:=V8 hz;obtain rfl:=V8 he;obtain⟨p1,p2,rfl⟩:=C7 hw;obtain⟨p3,p4,rfl⟩:=C7 hq;split at h
  ·rename_i ho;simp only[Bool.and_eq_true,decide_eq_true_eq] at ho;obtain⟨⟨rfl,rfl⟩,ho⟩:=ho;obtain⟨ma,ha,rfl⟩:=O2 S C h;exact UH C.mono C.calm C.units ha (C.o9 h2) (C.blt _ h3) (C.o9 h4) (C.blt _ h5) (j2 ho)
  ·cases h
 ·cases h
theorem HJ{ops:List CmpOp}{bs:List Expr}(h:uT r c a ops bs=some m):PE X (.Compare a ops bs pos) (LE X.K Ξ (aS P m))/\PT X (.Compare a ops bs pos) (LT X.K Ξ (dG P (.fh m))):=by
 unfold uT at h;split at h
 ·rename_i op b;split at h
  ·cases h
  ·rename_i hm;have hm:behindInMarks op b=false:=by simpa using hm
   rcases orElse_some h with h|h
   ·exact MY S C h
   obtain⟨ma,mb,ha,hb,rfl⟩:=S1 S C h;exact⟨zQ C.mono (XB (Q9 C.units op) ha hb hm),Qi C.mono (XJ (Q9 C.units op) ha hb hm)⟩
 ·split at h
  ·cases h
  ·rename_i hm;obtain⟨ma,ha,h⟩:=ag.mp h;obtain⟨mb,hb,h⟩:=ag.mp h;obtain⟨md,hd,rfl⟩:=ae.mp h;exact⟨UB C.mono C.units (S.e X c Ξ C _ _ ha) (S.e X c Ξ C _ _ hb) (S.e X c Ξ C _ _ hd) (by simpa using hm),UO C.mono C.units (S.e X c Ξ C _ _ ha) (S.e X c Ξ C _ _ hb) (S.e X c Ξ C _ _ hd) (by simpa using hm)⟩
 ·cases h
theorem RD{lo hi st:Option Expr}{p2:Pos}(h:BJ r c a lo hi st=some m):PE X (.Subscript a (.Slice lo hi st p2) pos) (LE X.K Ξ (aS P m)):=by
 cases lo<;>cases hi<;>cases st<;>first|(cases h;done)|skip
 ·obtain⟨ma,mb,ha,hb,rfl⟩:=S1 S C h;exact UI C.mono ha hb
 ·obtain⟨ma,mb,ha,hb,rfl⟩:=S1 S C h;exact UJ C.mono ha hb
theorem MZ(h:Ek r c a b=some m):PE X (.Subscript a b pos) (LE X.K Ξ (aS P m)):=by
 rcases orElse_some h with h|h
 ·obtain⟨q,hq,h⟩:=ag.mp h;have eb:∃p,b=.Slice q.1 q.2.1 q.2.2 p:=by cases b<;>first|(cases hq;exact⟨_,rfl⟩)|cases hq
  obtain⟨p,rfl⟩:=eb;exact RD S C h
 ·split at h
  ·rename_i hb;rcases orElse_some h with h|h
   ·obtain⟨kvs,hk,h⟩:=ag.mp h;obtain⟨mb,jH,rfl⟩:=ae.mp h;obtain⟨x,p,rfl,hg,hd,hk⟩:=TN hk;exact XW C.mono (C.o9 hg) (J7 hd).1 (C.zd x kvs hk) (S.e X c Ξ C _ _ jH) (GH hb)
   ·obtain⟨ma,mb,ha,jH,rfl⟩:=S1 S C h;exact zQ C.mono (HK (MI C.units) ha jH (GH hb))
  ·cases h
theorem RE{px:Pos}(hg:c.gl x=true)(h:BI r c x e=some m):PE X (.Call (.Name x px) [e] [] pos) (LE X.K Ξ (aS P m)):=by
 obtain⟨q,hq,h'⟩:=ag.mp h;clear h;have h:=h';clear h';obtain⟨p,pos',rfl⟩:=C7 hq;obtain⟨y,as⟩:=q;dsimp only at h ⊢;split at h
 ·rename_i hc;simp only[Bool.and_eq_true,decide_eq_true_eq] at hc;obtain⟨⟨⟨⟨rfl,rfl⟩,hl⟩,hr⟩,oE⟩:=hc;rcases as with _|⟨a,_|⟨b,_|⟨_,_⟩⟩⟩
  ·cases h
  ·dsimp only at h;split at h
   ·rename_i ho;obtain⟨ma,ha,rfl⟩:=O2 S C h;exact UC C.mono C.calm ha (C.o9 hg) (C.blt _ hl) (C.o9 oE) (C.blt _ hr) (j2 ho)
   ·cases h
  ·dsimp only at h;split at h
   ·rename_i ho;rw[bR] at ho;obtain⟨ma,mb,ha,hb,rfl⟩:=S1 S C h;exact UD C.mono C.calm ha hb (C.o9 hg) (C.blt _ hl) (C.o9 oE) (C.blt _ hr) (by rw[j2 ho.1,j2 ho.2];rfl) (j2 ho.2)
   ·cases h
  ·cases h
 ·split at h
  ·rename_i hc;simp only[Bool.and_eq_true,decide_eq_true_eq] at hc;obtain⟨⟨⟨⟨rfl,rfl⟩,hl⟩,hr⟩,oE⟩:=hc;rcases as with _|⟨a,_|⟨_,_⟩⟩
   ·cases h
   ·dsimp only at h;split at h
    ·rename_i ho;obtain⟨ma,ha,rfl⟩:=O2 S C h;exact X' C.mono C.calm ha (C.o9 hg) (C.blt _ hl) (C.o9 oE) (C.blt _ hr) (j2 ho)
    ·cases h
   ·cases h
  ·split at h
   ·rename_i hc;simp only[Bool.and_eq_true,decide_eq_true_eq] at hc;obtain⟨⟨⟨⟨rfl,rfl⟩,hl⟩,hr⟩,oE⟩:=hc;rcases as with _|⟨a,_|⟨_,_⟩⟩
    ·cases h
    ·dsimp only at h;split at h
     ·rename_i ho;obtain⟨ma,ha,rfl⟩:=O2 S C h;exact XX C.mono C.calm ha (C.o9 hg) (C.blt _ hl) (C.o9 oE) (C.blt _ hr) (j2 ho)
     ·cases h
    ·cases h
   ·cases h
theorem Xp{px:Pos}(h:Hb r c x args=some m):PE X (.Call (.Name x px) args [] pos) (LE X.K Ξ (aS P m)):=by
 cases args with
 |nil =>
  have h2:zX c x=some m:=h;unfold zX at h2;split at h2
  ·rename_i gp;rw[bR] at gp;rcases orElse_some h2 with h2|h2
   ·obtain⟨f,hf,rfl⟩:=ae.mp h2;obtain⟨k,fa,fd,ps,F,hr,hm,hk⟩:=C.fns x f hf;exact UA C.mono C.pass F hr (C.o9 gp.2) hm hk (J7 gp.1).1
   obtain⟨f,hf,rfl⟩:=ae.mp h2;obtain⟨k,C',fa,fd,ps,F,hr,hm,hC,kK,M⟩:=C.cls x f hf;exact UE C.mono C.pass F M hC kK hr (C.o9 gp.2) hm (J7 gp.1).1
  ·cases h2
 |cons e es =>
  have h0:zY r c x e es=some m:=h;clear h;have h:=h0;clear h0;unfold zY at h;split at h
  ·rename_i gp;rw[bR] at gp;obtain⟨d1,d2,d3⟩:=J7 gp.1;rcases orElse_some h with h|h
   ·cases es with
    |nil=>exact RE S C gp.2 h
    |cons _ _=>cases h
   ·obtain⟨ms,lR,h⟩:=ag.mp h;have ok:=Ar lR;have pa:=sZ S C lR;have dz:=j2 (env:=X.env) (es:=es) (ok e (by simp));have fN:=S8 (pos:=pos) (env:=X.env) (es:=es) λz hz=>ok z (by simp[hz]);rcases orElse_some h with h|h
    ·obtain⟨f,hf,rfl⟩:=ae.mp h;obtain⟨k,fa,fd,ps,F,hr,hm,hk⟩:=C.fns x f hf;exact XT C.mono C.pass F hr (C.o9 gp.2) hm hk pa d1 dz fN
    ·rcases orElse_some h with h|h
     ·obtain⟨f,hf,rfl⟩:=ae.mp h;obtain⟨k,C',fa,fd,ps,F,hr,hm,hC,kK,M⟩:=C.cls x f hf;exact XY C.mono C.pass F M hC kK hr (C.o9 gp.2) hm pa d1 dz fN
     ·split at h
      ·rename_i hb;obtain⟨p,hp,rfl⟩:=ae.mp h;obtain⟨v,hv,yJ,hc⟩:=Vc C.calm C.units hp;exact PU C.mono hv hc (C.o9 gp.2) (C.blt x hb) yJ pa d3 d1 dz fN
      ·cases h
  ·cases h
theorem Xo{mt:Str}{apos:Pos}(h:zZ r c o mt apos pos args=some m):PE X (.Call (.Attribute o mt apos) args [] pos) (LE X.K Ξ (aS P m)):=by
 unfold zZ at h;split at h
 ·rename_i hc;simp only[Bool.and_eq_true,decide_eq_true_eq] at hc;obtain⟨⟨hb,hl⟩,hn⟩:=hc;obtain⟨mo,ho,h⟩:=ag.mp h;obtain⟨ms,lR,h⟩:=ag.mp h;have ok:=Ar lR;have pa:=sZ S C lR;have po:=S.e X c Ξ C _ _ ho;have hf:methodCallForm args.length (backTo pos (starEach args X.env)) (backToKw pos (keywordEach [] X.env))=true:=by
   unfold methodCallForm;rw[Ff ok];have:args.length+0<30:=by omega
   show(true&&true&&decide (args.length+0<30))=true;rw[aQ this]
   rfl
  by_cases tY:mt="index"
  ·subst tY;rw[aJ rfl] at h;cases h
  rw[aB tY] at h;cases args with
  |nil =>
   cases lR;by_cases h0:(Z1.lookup mt).isSome=true
   ·rw[aJ (by rw[h0];rfl)] at h;obtain⟨p,hp,rfl⟩:=ae.mp h;obtain⟨T,id,xN,sl,ty,xT,hk⟩:=WR (X:=X) hp;exact UG C.mono xN sl ty xT hk po (M9 hb) hl
   rw[aB (by rw[bR];exact λz=>h0 z.2)] at h;split at h
   ·cases h
   ·cases h
  |cons e es =>
   have dz:=j2 (env:=X.env) (es:=es) (ok e (by simp));have fN:=S8 (pos:=pos) (env:=X.env) (es:=es) λz hz=>ok z (by simp[hz]);rw[aB (by simp)] at h;split at h
   ·rename_i p hp;cases h;obtain⟨T,id,xN,sl,ty,xT,hk⟩:=VI (X:=X) C.units hp;exact XZ C.mono xN sl ty xT hk po pa (M9 hb) hf hl dz fN
   ·cases h
 ·cases h
theorem Cn{tg:Expr}(h:uU r c tg e=some m):PI X tg e (LI X.K Ξ (gT P m)):=by
 unfold uU at h;rcases orElse_some h with h|h
 ·obtain⟨q,hq,h'⟩:=ag.mp h;rename_i h0;clear h h0;have h:=h';clear h';obtain⟨p,pos',rfl⟩:=C7 hq;obtain⟨y,as⟩:=q;dsimp only at h ⊢;split at h
  ·rename_i hy;subst hy;rcases as with _|⟨a,_|⟨_,_⟩⟩
   ·cases h
   ·dsimp only at h;split at h
    ·rename_i hc;simp only[Bool.and_eq_true] at hc;obtain⟨⟨⟨hg,hb⟩,ho⟩,ht⟩:=hc;obtain⟨ma,ha,rfl⟩:=ae.mp h;obtain⟨es,k,tp,rfl⟩:=Va ht;exact Yg C.mono (S.e X c Ξ C _ _ ha) (C.o9 hg) (C.blt _ hb) (j2 ho)
    ·cases h
   ·cases h
  ·split at h
   ·rename_i hy;subst hy;rcases as with _|⟨a,_|⟨b,_|⟨_,_⟩⟩⟩
    ·cases h
    ·dsimp only at h;split at h
     ·rename_i hc;simp only[Bool.and_eq_true] at hc;obtain⟨⟨hg,hb⟩,ho⟩:=hc;obtain⟨ma,ha,rfl⟩:=ae.mp h;exact Yh C.mono (S.e X c Ξ C _ _ ha) (C.o9 hg) (C.blt _ hb) (j2 ho)
     ·cases h
    ·dsimp only at h;split at h
     ·rename_i hc;simp only[Bool.and_eq_true] at hc;obtain⟨⟨⟨hg,hb⟩,ho⟩,CG⟩:=hc;obtain⟨ma,ha,h⟩:=ag.mp h;obtain⟨mb,jH,rfl⟩:=ae.mp h;exact Yi C.mono (S.e X c Ξ C _ _ ha) (S.e X c Ξ C _ _ jH) (C.o9 hg) (C.blt _ hb) (by rw[j2 ho,j2 CG];rfl) (j2 CG)
     ·cases h
    ·cases h
   ·cases h
 ·split at h
  ·obtain⟨ma,ha,rfl⟩:=ae.mp h;exact Qe C.mono (S.e X c Ξ C _ _ ha)
  ·cases h
theorem Em{elt:Expr}{gens:List Comprehension}{sc:Scope}(h:Y6 r c elt gens sc=some m):∃tg it ifs t mi mc me cl,gens=[⟨tg,it,ifs,0⟩]/\m=.comp (c.d7 sc) (frees sc++locals sc).length t mi mc me/\fH it=true /\
  dR X sc (frees sc++locals sc) (c.d7 sc) cl/\PI X tg it (LI X.K Ξ (gT P mi))/\(∀pins A s H fp,PG (i5 X pins sc (frees sc++locals sc) cl A s H fp) tg (LG X.K t)) /\
   (∀pins A s H fp,ly (i5 X pins sc (frees sc++locals sc) cl A s H fp) ifs (LT X.K (oS Ξ.1) (dG P mc)))/\(∀pins A s H fp,PE (i5 X pins sc (frees sc++locals sc) cl A s H fp) elt (LE X.K (oS Ξ.1) (aS P me))):=by
 unfold Y6 at h;rcases gens with _|⟨⟨tg,it,ifs,Cs⟩,_|⟨_,_⟩⟩
 ·cases h
 ·dsimp only at h;split at h
  ·rename_i hs;simp only[Bool.and_eq_true,decide_eq_true_eq] at hs;obtain⟨⟨hs,rfl⟩,hit⟩:=hs;obtain⟨t,h1,h⟩:=ag.mp h;obtain⟨mi,h2,h⟩:=ag.mp h;obtain⟨mc,h3,h⟩:=ag.mp h;obtain⟨me,h4,rfl⟩:=ae.mp h;obtain⟨cl,Sc,I⟩:=C.comp hs;exact⟨tg,it,ifs,t,mi,mc,me,cl,rfl,rfl,hit,Sc,Cn S C h2,λpins A s H fp=>(I pins A s H fp).Eh rfl h1,λpins A s H fp=>RG S (I pins A s H fp) h3,λpins A s H fp=>S.e _ _ _ (I pins A s H fp) elt me h4⟩
  ·cases h
 ·cases h
theorem Xq{f:Expr}{gK:List Keyword}(h:wM r c f args gK=some m):PE X (.Call f args gK pos) (LE X.K Ξ (aS P m)):=by
 unfold wM at h;split at h
 ·rename_i hc;simp only[Bool.and_eq_true,decide_eq_true_eq] at hc;obtain⟨⟨⟨⟨⟨h0,h1⟩,h2⟩,h3⟩,h4⟩,h5⟩:=hc;obtain⟨a,ha,k⟩:=ag.mp h;clear h;have h:=k;clear k;obtain rfl:=V8 ha;split at h
  ·rename_i ho;obtain⟨ma,ha,rfl⟩:=O2 S C h;unfold EN at h0;split at h0
   ·simp only[Bool.and_eq_true,decide_eq_true_eq] at h0;obtain⟨rfl,rfl⟩:=h0;cases f<;>first|(cases h1;done)|skip
    cases h1;exact UK C.mono C.calm ha (C.o9 h2) (C.blt _ h3) (C.o9 h4) (C.blt _ h5) (j2 ho)
   ·cases h0
  ·cases h
 ·cases h
omit S in
theorem RC{f:Expr}{gK:List Keyword}(h:vp c f args gK=some m):PE X (.Call f args gK pos) (LE X.K Ξ (aS P m)):=by
 unfold vp at h;cases h
theorem Jg:∀e m,HS r c e=some m->PE X e (LE X.K Ξ (aS P m)):=by
 intro e m h;cases e with
 |Name x p=>exact OO C h
 |Constant k j p =>
  obtain⟨d,hd,rfl⟩:=ae.mp (show(U5 k).map ME.lit=some m from h);exact xS hd
 |BinOp a op b p =>
  obtain⟨ma,mb,ha,hb,rfl⟩:=S1 S C h;exact zQ C.mono (Nm (OR op) ha hb)
 |UnaryOp op a p=>exact RH S C h
 |Compare a ops bs p=>exact(HJ S C h).1
 |BoolOp op vs p=>exact Jh S C h
 |IfExp t a b p =>
  obtain⟨mt,ht,h⟩:=ag.mp h;obtain⟨ma,ha,h⟩:=ag.mp h;obtain⟨mb,hb,rfl⟩:=ae.mp h;exact PY C.mono (S.t X c Ξ C _ _ ht) (S.e X c Ξ C _ _ ha) (S.e X c Ξ C _ _ hb)
 |Tuple es k p =>
  obtain⟨ma,ha,rfl⟩:=ae.mp h;exact Qa C.mono (sZ S C ha)
 |List es p =>
  obtain⟨ma,ha,rfl⟩:=ae.mp h;exact GQ C.mono (sZ S C ha)
 |Subscript a b p=>exact MZ S C h
 |Dict ks vs p =>
  have h2:(if ks.isEmpty&&vs.isEmpty then some (ME.prim .Q5 .nil) else none)=some m:=h;split at h2
  ·rename_i hc;cases ks<;>cases vs<;>first|(cases hc;done)|skip
   cases h2;exact XU
  ·cases h2
 |Attribute o f p =>
  have h2:(if wG o then c1 r c (.fld f) o else none)=some m:=h;split at h2
  ·rename_i hb;obtain⟨ma,ha,rfl⟩:=O2 S C h2;exact PV C.mono ha (M9 hb)
  ·cases h2
 |Call f args gK pos =>
  rcases orElse_some (show((wM r c f args gK).orElse λ_=>(xq r c f args gK).orElse λ_=>(vp c f args gK).orElse λ_=>Bk r c f args gK pos)=some m from h) with hk|h1
  ·exact Xq S C hk
  rcases orElse_some h1 with h2|h2
  ·unfold xq at h2;cases h2
  clear h h1;rcases orElse_some h2 with h3|h3
  ·exact RC C h3
  clear h2;unfold Bk at h3;split at h3
  ·rename_i hk;cases gK<;>first|(cases hk;done)|skip
   cases f with
   |Name x p=>exact Xp S C h3
   |Attribute o a p=>exact Xo S C h3
   |_=>cases h3
  ·cases h3
 |ListComp elt gens sc p =>
  obtain⟨tg,it,ifs,t,mi,mc,me,cl,rfl,rfl,hit,Sc,q1,q2,q3,q4⟩:=Em S C h;exact(En Sc C.calm q1 q2 q3 q4 (Av hit)).imp λZ H Q h=>EL C.mono Z H Q h
 |_=>cases h
theorem Je:∀e m,stepT r c e=some m->PT X e (LT X.K Ξ (dG P m)):=by
 intro e m h;have plain:∀{e:Expr} {m:ME},(if W6 e then(r.e c e).map ME.fh else none)=some m->PT X e (LT X.K Ξ (dG P m)):=λ{e m} h=>by
  split at h
  ·rename_i hp;obtain⟨ma,ha,rfl⟩:=ae.mp h;exact Qj C.mono (S.e X c Ξ C _ _ ha) (VW hp)
  ·cases h
 cases e with
 |UnaryOp op a p =>
  have h2:(if op=.Not then(r.t c a).map ME.dQ else none)=some m:=h;split at h2
  ·rename_i ho;subst ho;obtain⟨ma,ha,rfl⟩:=ae.mp h2;exact Qh C.mono (S.t X c Ξ C _ _ ha)
  ·cases h2
 |BoolOp op vs p=>exact(Jd S C h).pt
 |Compare a ops bs p =>
  obtain⟨ma,ha,rfl⟩:=ae.mp (show(uT r c a ops bs).map ME.fh=some m from h);exact(HJ S C ha).2
 |_=>exact plain h
end
section
theorem EK(h:Hz e=some m):PE X e (LE X.K Ξ (aS P m))/\fH e=true:=by
 cases e<;>first|(cases h;done)|skip
 obtain⟨d,hd,rfl⟩:=ae.mp (show(U5 _).map ME.lit=some m from h);exact⟨xS hd,rfl⟩
theorem Vj(hP:i4 P):∀{es:List Expr} {m:ME},zK es=some m->PA X es (LA X.K Ξ (fT P m)):=by
 intro es
 induction es with
 |nil=>intro m h;cases h;exact F5 hP
 |cons e es ih =>
  intro m h;obtain⟨m1,h1,h⟩:=ag.mp h;obtain⟨m2,h2,rfl⟩:=ae.mp h;exact v7 hP (EK h1).1 (ih h2) (j2 (EK (X:=X) (Ξ:=Ξ) (P:=P) h1).2)
theorem TB(hP:i4 P)(h:Hy e=some m):PE X e (LE X.K Ξ (aS P m)):=by
 cases e<;>first|(cases h;done)|skip
 ·obtain⟨d,hd,rfl⟩:=ae.mp (show(U5 _).map ME.lit=some m from h);exact xS hd
 ·obtain⟨ms,hm,rfl⟩:=ae.mp h;exact GQ hP (Vj hP hm)
theorem Ws{h:ExceptHandler}{q:Str×Expr}(hq:Gv h=some q):∃p p1 p2,h=.ExceptHandler (some (.Name q.1 p)) none [.Return (some q.2) p1] p2:=by
 obtain⟨t,n,b,p0⟩:=h;cases n with
 |some _=>cases hq
 |none =>
  obtain⟨t,rfl,hq⟩:=ag.mp (show t.bind _=some q from hq);obtain⟨y,hy,hq⟩:=ag.mp hq;obtain⟨e,he,rfl⟩:=ae.mp hq;obtain⟨p,rfl⟩:=U7 hy;rcases b with _|⟨s,_|⟨_,_⟩⟩
  ·cases he
  ·cases s<;>first|(cases he;done)|(cases he;exact⟨_,_,_,rfl⟩)
  ·cases he
theorem Tz(C:gf X c P Ξ)(yA:Y4 X Ξ.2):∀{hs:List ExceptHandler} {ms:List (Str×ME)},wc c hs=some ms->kN X Ξ P hs ms:=by
 intro hs
 induction hs with
 |nil=>intro ms h;cases h;exact .nil yA
 |cons hd hs ih =>
  intro ms h;obtain⟨q,hq,h'⟩:=ag.mp h;clear h;have h:=h';clear h';obtain⟨p,p1,p2,rfl⟩:=Ws hq;obtain⟨y,e⟩:=q;dsimp only at h ⊢;split at h
  ·rename_i hc;simp only[Bool.and_eq_true] at hc;obtain⟨m,h1,h⟩:=ag.mp h;obtain⟨YQ,h2,rfl⟩:=ae.mp h;obtain⟨C',hm,hi,_⟩:=C.exc y hc.1.1;refine .cons (C.o9 hc.1.2) (J7 hc.2).1 hm (λx C1 hx h1=>C.zj x y C1 C' ?_ hc.1.1 h1 hi) (λea=>TB C.mono h1) (ih h2);rw[C.vU] at hx;simpa using hx
  ·cases h
theorem Sk{e f:Option Expr}{q:Str×Expr×List Expr}(h:Hc e f=some q):f=none/\∃p p',e=some (.Call (.Name q.1 p) (q.2.1::q.2.2) [] p'):=by
 cases f with
 |some _=>cases h
 |none =>
  obtain⟨t,rfl,h⟩:=ag.mp (show e.bind _=some q from h);obtain⟨z,hz,h⟩:=ag.mp h;obtain⟨p,p',rfl⟩:=C7 hz;obtain⟨x,as⟩:=z;cases as with
  |nil=>cases h
  |cons a as=>cases h;exact⟨rfl,_,_,rfl⟩
theorem QO(C:gf X c P Ξ){f:Str}:zF X.K f (c.DQ f):=λy C' h hC=>by
 obtain⟨⟨f',y'⟩,h1,h2⟩:=az.mp h;obtain⟨h3,h4⟩:=cA.mp h1;cases h2;have:f'=f:=by simpa using h4
 subst this;exact C.mL f' y' C' h3 hC
variable(S:oV P r)(C:gf X c P Ξ)
include S C
theorem MX{tg:Expr}{m:MS}(hw:c.wr=true)(hS:∀e m,r.e c e=some m->p9 e=false->∃elt gens sc p,e=.ListComp elt gens sc p/\∃r',oV P r'/\Y6 r' c elt gens sc=some m)(hT:∀a b k p m,r.e c (.Tuple [a,b] k p)=some m->∃r' ms,oV P r'/\B8 r' c [a,b]=some ms/\m=.prim .tup ms)(h:Ec r c tg e=some m):PS X (.Assign [tg] e pos) (LS X.K Ξ (wpS P m)):=by
 cases tg with
 |Name x px =>
  have h2:(if c.x4 x then(c.idx x).bind λi=>(r.e c e).map λm=>MS.set i m else none)=some m:=h;split at h2
  ·rename_i hl;obtain⟨i,hi,h2⟩:=ag.mp h2;obtain⟨me,he,rfl⟩:=ae.mp h2;cases hn:p9 e with
   |true=>exact GX C.mono (GK (C.sX hw) (C.rG hi) (C.x4 hl).1 (S.e X c Ξ C _ _ he) (W8 hn) (C.x4 hl).2)
   |false =>
    obtain⟨elt,gens,sc,p,rfl,r',S',hx⟩:=hS e me he hn;obtain⟨tg,it,ifs,t,mi,mc,me,cl,rfl,rfl,hit,Sc,q1,q2,q3,q4⟩:=Em S' C hx;refine GX C.mono ?_;exact(SA Sc C.calm q1 q2 q3 q4 (Av hit) (C.sX hw) (C.rG hi) (C.x4 hl).1 (C.x4 hl).2).imp λN Z H h=>EL C.mono Z H _ h
  ·cases h2
 |Tuple es k pt =>
  have h0:((zG es).elim (if Z0 e&&p9 e then(c.slots es).bind λis=>(r.e c e).map λm=>MS.ni (.many is) m else none) λq=>if p9 e&&fH q.2.1&&fH q.2.2.2 then(r.e c q.1).bind λm1=>(r.e c q.2.1).bind λn1=>(r.e c q.2.2.1).bind λm2=>(r.e c q.2.2.2).bind λn2=>(r.e c e).map λm=>MS.vz m1 n1 m2 n2 m else none)=some m:=h;cases hq:zG es with
  |some q =>
   rw[hq] at h0;dsimp only[Option.elim] at h0;split at h0
   ·cases hq
   ·cases h0
  |none =>
  rw[hq] at h0;have h2:(if Z0 e&&p9 e then(c.slots es).bind λis=>(r.e c e).map λm=>MS.ni (.many is) m else none)=some m:=h0;split at h2
  ·rename_i hn;rw[bR] at hn;obtain⟨is,hs,h2⟩:=ag.mp h2;obtain⟨me,he,rfl⟩:=ae.mp h2;exact Qn C.mono (GJ (S.e X c Ξ C _ _ he) (Ez C.calm (C.sX hw) (C.slots hs)) (Gn hn.2) (Ug hn.1))
  ·cases h2
 |Subscript o i pt =>
  have h2:(if fH i&&p9 e then(r.e c o).bind λmo=>(r.e c i).bind λmi=>(r.e c e).map λm=>MS.eM mo mi m else none)=some m:=h;split at h2
  ·rename_i hn;rw[bR] at hn;obtain⟨mo,ho,h2⟩:=ag.mp h2;obtain⟨mi,hi,h2⟩:=ag.mp h2;obtain⟨me,he,rfl⟩:=ae.mp h2;exact UR C.mono C.units (S.e X c Ξ C _ _ he) (S.e X c Ξ C _ _ ho) (S.e X c Ξ C _ _ hi) (Gn hn.2) (Xu hn.1)
  ·cases h2
 |Attribute o f pt =>
  obtain⟨mo,ho,h⟩:=ag.mp h;obtain⟨me,he,rfl⟩:=ae.mp h;exact Yo C.mono (QO C) (S.e X c Ξ C _ _ ho) (S.e X c Ξ C _ _ he) (by cases e<;>rfl)
 |_=>cases h
theorem Jf(hw:c.wr=true)(hS:∀e m,r.e c e=some m->p9 e=false->∃elt gens sc p,e=.ListComp elt gens sc p/\∃r',oV P r'/\Y6 r' c elt gens sc=some m)(hT:∀a b k p m,r.e c (.Tuple [a,b] k p)=some m->∃r' ms,oV P r'/\B8 r' c [a,b]=some ms/\m=.prim .tup ms) :
  ∀st m,HU r c st=some m->PS X st (LS X.K Ξ (wpS P m)):=by
 intro st m h;have hP:=C.mono;cases st with
 |Expr e p =>
  have h2:(if p9 e then(r.e c e).map MS.expr else none)=some m:=h;split at h2
  ·rename_i hn;obtain⟨me,he,rfl⟩:=ae.mp h2;exact Yn hP (S.e X c Ξ C _ _ he) (W8 hn)
  ·cases h2
 |Assign xD e p =>
  rcases xD with _|⟨tg,_|⟨_,_⟩⟩
  ·cases h
  ·exact MX S C hw hS hT h
  ·cases h
 |If t a b p =>
  obtain⟨mt,ht,h⟩:=ag.mp h;obtain⟨ma,ha,h⟩:=ag.mp h;obtain⟨mb,hb,rfl⟩:=ae.mp h;exact NC hP (S.t X c Ξ C _ _ ht) (uR S C hw ha) (uR S C hw hb)
 |For tg it body kM p =>
  have h2:(if c.nZ&&(kM.isEmpty&&fH it) then(c.tg tg).bind λt=>(uU r c tg it).bind λmi=>(t9 r c body).map λmb=>MS.fE t mi mb else none)=some m:=h;split at h2
  ·rename_i hc;rw[bR,bR] at hc;cases kM<;>first|(cases hc.2.1;done)|skip
   obtain⟨t,h1,h2⟩:=ag.mp h2;obtain⟨mi,h3,h2⟩:=ag.mp h2;obtain⟨mb,h4,rfl⟩:=ae.mp h2;exact Ql hP (C.own hc.1) C.calm (Cn S C h3) (C.Eh hw h1) (uR S C hw h4) (Av hc.2.2)
  ·cases h2
 |Return e p =>
  cases e with
  |none=>cases h;exact(XH (X:=X)).imp λN bP H ⟨Z,g,ρ,s,R,h⟩=>LQ.now h R .bq
  |some e =>
   obtain⟨me,he,rfl⟩:=ae.mp (show(r.e c e).map (λm=>MS.ret (toR c e m))=some m from h);refine GW hP ?_;exact S.e X c Ξ C _ _ he
 |Raise e f p =>
  obtain⟨q,hq,h2⟩:=ag.mp h;clear h;obtain⟨rfl,px,p2,rfl⟩:=Sk hq;obtain⟨x,e,es⟩:=q;dsimp only at h2 ⊢;split at h2
  ·rename_i hc;simp only[Bool.and_eq_true] at hc;obtain⟨ma,ha,rfl⟩:=ae.mp h2;have ok:=Ar ha;obtain⟨C',hm,hi,B,nI,iI,bm,O,FB⟩:=C.exc x hc.1.1.2;exact UQ hP C.calm O FB (C.o9 hc.1.2) (sZ S C ha) (C.je hc.1.1.1) (by rw[C.vU];simpa using hc.1.1.2) hi (j2 (ok e (by simp))) (S8 λz hz=>ok z (by simp[hz])) (J7 hc.2).1
  ·cases h2
 |Try body hs el fi p =>
  have h2:(if c.iN&&!hs.isEmpty&&el.isEmpty&&fi.isEmpty then(t9 r { c with je:=false,iN:=false,wr:=true } body).bind λmb=>(wc c hs).map λms=>MS.S6 mb ms else none)=some m:=h;split at h2
  ·rename_i hc;simp only[Bool.and_eq_true] at hc;obtain⟨⟨⟨ht,hh⟩,he⟩,hf⟩:=hc;cases el<;>first|(cases he;done)|skip
   cases fi<;>first|(cases hf;done)|skip
   cases hs<;>first|(cases hh;done)|skip
   obtain⟨dz,hf,yA⟩:=C.iN ht
   ·obtain⟨mb,h1,h2⟩:=ag.mp h2;obtain⟨ms,h3,rfl⟩:=ae.mp h2;refine Qm hP (C.sgn hw) (λpins D=>uR S (C.S6 hw dz hf pins D _ (λZ hl _=>⟨by rw[vk,hl],λi v z=>?_⟩) λ_=>rfl) rfl h1) (Tz C yA h3);rw[df] at z;split at z<;>cases z
  ·cases h2
 |Pass p=>cases h;exact(XG (X:=X)).imp λN bP H ⟨Z,g,ρ,s,R,h⟩=>h ρ H bP (.refl _ _) R s
 |_=>cases h
end
theorem So(h:(comp (n+1)).e c e=some m)(hn:p9 e=false):∃elt gens sc p,e=.ListComp elt gens sc p/\Y6 (comp n) c elt gens sc=some m:=by
 cases e<;>first|(cases hn;done)|(cases h;done)|exact⟨_,_,_,_,rfl,h⟩
theorem snd:∀n,(∀k,k<=n->oV P (comp k)):=by
 intro n
 induction n with
 |zero =>
  intro k hk;obtain rfl:=Nat.le_zero.mp hk;exact⟨λ_ _ _ _ _ _ h=>(by cases h),λ_ _ _ _ _ _ h=>(by cases h),λ_ _ _ _ _ _ _ h=>(by cases h)⟩
 |succ n ih =>
  intro k hk;rcases Nat.lt_or_ge k (n+1) with et|Zc
  ·grind
  obtain rfl:k=n+1:=by omega
  have I:=ih n (aj n);refine⟨λX c Ξ C e m h=>Jg I C e m h,λX c Ξ C e m h=>Je I C e m h,λX c Ξ C hw st m h=>?_⟩;rcases orElse_some h with h|h
  rotate_left
  ·cases h;exact λpins s Z H D I q=>by obtain⟨_,_,_,_,_,z⟩:=q;exact(show False from z).elim
  refine Jf I C hw (λe m he hn=>?_) (λa b k p m he=>?_) st m h
  ·cases n with
   |zero=>cases he
   |succ n =>
    obtain⟨elt,gens,sc,p,rfl,hx⟩:=So he hn;exact⟨_,_,_,_,rfl,comp n,ih n (),hx⟩
  ·cases n with
   |zero=>cases he
   |succ n =>
    obtain⟨ms,hm,rfl⟩:=ae.mp (show(B8 (comp n) c [a,b]).map (ME.prim .tup)=some m from he);exact⟨comp n,ms,ih n (),hm,rfl⟩
structure oj where
 nm:Str
 qn:Str
 N:List Str
 ps:List Str
 st:Stmt
def f6.at(c:f6)(d:oj):f6:={ c with N:=d.N,nm:=(m8 d.st).names,nZ:=true,je:=true,iN:=true,wr:=true }
structure jb(K:PySem.W.Frag)(c:f6)(d:oj)(m:bj)(f:Addr)(fd:FuncData):Prop where
 fn:oX K d.nm d.qn d.st f fd
 bi:Binds K fd d.ps []
 sc:ie d.N d.ps (m8 d.st)
 co:t9 (comp 60) (c.at d) (n6 d.st)=some m.body
 ar:m.ar=d.ps.length
 nn:m.n=d.N.length
structure mn(w:World)(K:PySem.W.Frag)(mg:Str->Option Value)(c:f6)(T:Nat->Option bj):Prop where
 fns:∀x i,c.fns.lookup x=some i->∃d m f fd,T i=some m/\jb K c d m f fd/\mg x=some (.ref f)
 cls:∀x i,c.cls.lookup x=some i->∃C d m f fd,T i=some m/\jb K c d m f fd/\mg x=some (.ref C)/\m5 K x C/\jq K C/\Mk K C f
 ox:∀x y i C,(x,y,i)∈c.ox->m5 K y C->∃d m f fd,T i=some m/\jb K c d m f fd/\Meth K C x f
 mL:∀f y C,(f,y)∈c.mL->m5 K y C->w5 K C f
 con:∀x d,c.con.lookup x=some d->∃v u,mg x=some u/\RelV v u/\∀ρ H,c9 K ρ H d v
 blt:∀x,c.blt.contains x=true->mg x=none
 zo:∀x,c.exc.contains x=true->∃C,mg x=some (.ref C)/\m5 K x C/\∀base:Heap,K.In base->base.Ns mainGlobals mg->∃B newId fL bm,OwnCls x C bm newId mg base/\ExcBaseFacts B newId fL bm
 zi:∀x y C C',c.exc.contains x=true->c.exc.contains y=true->m5 K x C->m5 K y C'->PySem.W.exmOne K (.ref C) (.ref C')=some (decide (x=y\/y="MintError"))
 pZ:∀x kvs,c.gd.lookup x=some kvs->∃A vs,mg x=some (.ref A)/\vZ K w.params A vs/\Y5 K kvs vs
section
variable{Pg:Program}{w:World}{K:PySem.W.Frag}{mg:Str->Option Value}{base:Heap}{T:Nat->Option bj}
theorem Ov{q:Str}(h:PySem.W.codeIn K cd q=true):PySem.W.kdsCode K cd=true:=by
 unfold PySem.W.codeIn at h;unfold PySem.W.kdsCode;split at h
 ·dsimp only;split at h
  ·rename_i e;rw[e]
  ·cases h
 ·cases h
theorem Xy:Passes (iC Pg w) (U3 (iC Pg w) Pg w K mg base N qual scope f cd A outer s H E) E:=λpins Z H1 s1 e s' I h=>by
 obtain⟨C,H',J,fl,hE⟩:=I.flew h;exact SU J fl (λb o q=>I.base.there b o q (by intro z;cases z)) rfl rfl rfl hE
theorem Uy:Z9 (U3 (iC Pg w) Pg w K mg base N qual scope f cd A outer s H E) E:=λpins Z H1 s1 h' ea C vs I hm hE =>
 WL I hm rfl rfl rfl hE
theorem QP:Y4 (U3 (iC Pg w) Pg w K mg base N qual scope f cd A outer s H E) E:=λpins Z H1 H2 s1 s2 B ea C a0 I l hh hE =>
 leave_held I l hh rfl rfl rfl hE
theorem Ab{k:Nat}{m:bj}(hT:T i=some m){ds:List D}{g:G}{Q:KD}{E:KX}(h:b9 T k i ds g Q E):ds.length=m.ar:=by
 cases k with
 |zero=>exact h.elim
 |succ k =>
  obtain⟨m',e,h,_⟩:=h
  simp_all
theorem NZ(mB:K.In base)(uv:base.Ns mainGlobals mg)(A:mn w K mg c T):∀(k i:Nat) d m f fd,T i=some m->jb K c d m f fd->gH Pg w K mg base (iC Pg w) (2*k) f fd d.ps (ou c.exc K d.ps.length (b9 T k i)):=by
 intro k
 induction k with
 |zero =>
  intro i d m f fd hm O;refine⟨λvs H Q E h=>h.1,λA outer s H args us vs Q E _ _ _ _ h=>?_⟩;obtain⟨_,_,_,_,_,_,q⟩:=h;exact q.elim
 |succ k ih =>
  intro i d m f fd hm O;obtain⟨oc,od,kV,doc,pm,an,ft,ct,lJ,rfl,lk,kL⟩:=O.fn.ex;refine Mw (k:=2*k+1) lk kL O.sc (λvs H Q E h=>h.1) (λA0 outer s H vs Q E hr h=>?_);obtain⟨hl,xs,g,ρ,rs,R,q⟩:=h;have C:gf (U3 (iC Pg w) Pg w K mg base d.N d.qn (m8 d.st) f ft A0 outer s H E) (c.at d) (b9 T k) (c.exc,E):=by
   refine⟨rfl,O.sc.nd,λx h=>h,λx h=>h,λx h=>.inr h,λx h=>h,λx h=>?_,λ_ _=>rfl,rfl,?_,(λ_=>PassesOwn.leaving),a9 T k,A.con,A.blt,λx j hj=>?_,λx j hj=>?_,λx y j C' hj hC=>?_,A.mL,rfl,Xy,λ_=>Uy,λ_=>⟨rfl,rfl,QP⟩,λx hx=>?_,A.zi,A.pZ,λ_=>Ov kL,λ_=>rfl⟩
   ·rcases h with h|h
    ·exact Aq h
    ·exact absurd rfl (O.sc.lK _ (aK h))
   ·have:=hr.un;show(A0.deeper _).units+100<cLine;omega
   ·obtain⟨d',m',f',oQ,hT,O',hmg⟩:=A.fns x j hj;exact⟨2*k,f',oQ,d'.ps,⟨ih j d' m' f' oQ hT O',O'.bi,λDI g' Q' E' h'=>(Ab hT h').trans O'.ar⟩,hr.mono (),hmg,O'.fn.kp⟩
   ·obtain⟨C',d',m',f',oQ,hT,O',hmg,hC,kK,M⟩:=A.cls x j hj;exact⟨2*k,C',f',oQ,d'.ps,⟨ih j d' m' f' oQ hT O',O'.bi,λDI g' Q' E' h'=>(Ab hT h').trans O'.ar⟩,hr,hmg,hC,kK,M⟩
   ·obtain⟨d',m',f',oQ,hT,O',M⟩:=A.ox x y j C' hj hC;exact⟨2*k,f',oQ,d'.ps,M,⟨ih j d' m' f' oQ hT O',O'.bi,λDI g' Q' E' h'=>(Ab hT h').trans O'.ar⟩,hr.mono ()⟩
   ·obtain⟨C,h1,h2,h3⟩:=A.zo x hx;exact⟨C,h1,h2,h3 base mB uv⟩
  refine⟨_,uR (snd 60 60 (aj _)) C rfl O.co,?_⟩;obtain⟨m',e,q1,q⟩:=q;rw[hm] at e;cases e;refine⟨d4 m xs,g,ρ,?_,R,wpS_mono (a9 T k) m.body ⟨λ_ g'=>LQ K ρ H Q .bq g',LQ K ρ H Q,λ_ _=>False,λ_ _=>False⟩ _ _ _ _ _ ⟨λZ g' h bQ H' dA e R' s'=>h bQ H' _ e R' .bq,λd g' h=>h,λ_ _ h=>h.elim,λ_ _ h=>h.elim⟩ (λ_ _ z=>z) q⟩;have:=l6.start (n:=d.N.length) rs;unfold d4 L2.start;rw[O.nn];exact this
theorem OB{L k0:Nat}{a:Addr}{ns:List Int}(hO:wO H)(hS:fu K H a (ns.map V.int))(h:b9 T k0 L [.ref 0] [.nY (ns.map .int)] (λd _=>d=.bl true) ja) :
  ou exc K 1 (b9 T k0 L) [.ref a] H (λv _=>v=.bl true) λ_ _ _=>False:=by
 refine⟨rfl,[.ref 0],[.nY (ns.map .int)],[a],.cons (.ref rfl) .nil,⟨rfl,λi o b h1 h2=>?_,λi j l m b h1 h2 m1=>?_⟩,a9 T k0 _ _ _ _ _ _ _ (λd g' e bQ H' v _ _ r=>?_) (λ_ _ z=>z.elim) h⟩
 ·cases i with
  |zero =>
   cases h1;cases h2;refine⟨_,?_,b0.ofInts ns⟩;rcases hS with(z|⟨o,z⟩)|z
   ·rcases hO a with q|⟨o,xs,q⟩
    ·simp_all
    simp_all
   ·exact .inl ⟨o,z⟩
   ·exact .inr z
  |succ i=>simp at h1
 ·cases i with
  |zero=>cases h1;cases m1
  |succ i=>simp at h1
 ·subst e;cases r
  rfl
end
end M
namespace M
open PySem L2
variable{Z:S}{g:G}{Q:Bool->G->Prop}{E:KX}{a i n:Nat}{b:Bool}{o cond elt:ME}{x y d v:D}{j:Int}{l:List D}{A B:Prop}{kvs:List (List Int×D)}{k:List Int}{d7:List Nat}{R:IK->G->Prop}
section
variable{P:eT}{Q:KD}{N:Ends}{a b c:ME}{x y:MS}{p:Pr}
theorem F1(h:N.nx Z g):wpS P .pass N Z g E:=h
theorem uX(h:wpS P x ⟨λiM g1=>wpS P y N iM g1 E,N.rt,N.bk,N.ct⟩ Z g E):wpS P (.seq x y) N Z g E:=h
theorem wL(h:wpS P x N Z g E):wpS P (.seq x .pass) N Z g E:=h
theorem Qx(h:aS P a Z g (λ_ g1=>N.nx Z g1) E):wpS P (.expr a) N Z g E:=h
theorem uY(h:aS P a Z g (λx g1=>N.nx (Z.set i (some x)) g1) E):wpS P (.set i a) N Z g E:=h
theorem NV{t:MT}(h:aS P a Z g (λx g1=>jl t x Z λiM=>N.nx iM g1) E):wpS P (.ni t a) N Z g E:=h
theorem EC{i:ME}(h:aS P a Z g (λx g1=>aS P o Z g1 (λy g2=>aS P i Z g2 (λz g3=>T1 y z x g3 λg4=>N.nx Z g4) E) E) E):wpS P (.eM o i a) N Z g E:=h
theorem Bi(h:dG P c Z g (λt g1=>if t=true then wpS P x N Z g1 E else wpS P y N Z g1 E) E):wpS P (.ifs c x y) N Z g E:=h
theorem NS(h:aS P a Z g N.rt E):wpS P (.ret a) N Z g E:=h
theorem Yr{x:Str}(h:fT P a Z g (λvs g1=>vs.length<=1000/\E ⟨x⟩ g1) E):wpS P (.raise x a) N Z g E:=h
theorem NU{hs:List (Str×ME)}(h:wpS P x N Z g (ky P N (Z.map λ_=>none) E hs)):wpS P (.S6 x hs) N Z g E:=h
theorem wg{x:Xn}{y:Str}{e:ME}{r:List (Str×ME)}(hx:x.cls=y)(h:aS P e Z g N.rt ja):ky P N Z E ((y,e)::r) x g:=by unfold ky;rw[aJ (.inl hx)];exact h
theorem R8{x:Xn}{y:Str}{e:ME}{r:List (Str×ME)}(hx:¬(x.cls=y\/y="MintError"))(h:ky P N Z E r x g):ky P N Z E ((y,e)::r) x g:=by unfold ky;rw[aB hx];exact h
theorem w_var(e:Z[i]?=some (some d))(h:Q d g):aS P (.var i) Z g Q E:=by exact⟨d,e,h⟩
theorem w_lit(h:Q d g):aS P (.lit d) Z g Q E:=h
theorem Qy(h:fT P a Z g (λxs g1=>cI p xs g1 Q) E):aS P (.prim p a) Z g Q E:=h
theorem Ej(h:cI p [] g Q):aS P (.prim p .nil) Z g Q E:=by exact h
theorem rL(h:aS P a Z g (λx g1=>cI p [x] g1 Q) E):aS P (.prim p (.cons a .nil)) Z g Q E:=by exact h
theorem qw(h:aS P a Z g (λx g1=>aS P b Z g1 (λy g2=>cI p [x,y] g2 Q) E) E):aS P (.prim p (.cons a (.cons b .nil))) Z g Q E:=by exact h
theorem Yq{o1 o2:CmpOp}(h:aS P a Z g (λx g1=>aS P b Z g1 (λy g2=>cI (.cmp o1) [x,y] g2 λz g3=>∃t,z=.bl t/\if t=true then aS P c Z g3 (λw g4=>cI (.cmp o2) [y,w] g4 Q) E else Q (.bl false) g3) E) E):aS P (.chain o1 o2 a b c) Z g Q E:=h
theorem w_and(h:aS P a Z g (λx g1=>∃t,x=.bl t/\if t=true then aS P b Z g1 Q E else Q (.bl false) g1) E):aS P (.dI a b) Z g Q E:=h
theorem w_not(h:aS P a Z g (λx g1=>∃t,x=.bl t/\Q (.bl (!t)) g1) E):aS P (.dQ a) Z g Q E:=h
theorem w_ite(h:dG P c Z g (λt g1=>if t=true then aS P a Z g1 Q E else aS P b Z g1 Q E) E):aS P (.ite c a b) Z g Q E:=h
theorem wK{f:Nat}(h:fT P a Z g (λxs g1=>P f xs g1 Q E) E):aS P (.call f a) Z g Q E:=h
theorem zW(h:aS P o Z g (λx g1=>kZ p x g1/\fT P a Z g1 (λxs g2=>cI p (x::xs) g2 Q) E) E):aS P (.eI p o a) Z g Q E:=h
theorem wy{Q:List D->G->Prop}(h:Q [] g):fT P .nil Z g Q E:=h
theorem N3{Q:List D->G->Prop}(h:aS P a Z g (λx g1=>fT P b Z g1 (λxs g2=>Q (x::xs) g2) E) E):fT P (.cons a b) Z g Q E:=h
theorem Qz{Q:Bool->G->Prop}(h:dG P a Z g (λt g1=>if t=true then dG P b Z g1 Q E else Q false g1) E):dG P (.dI a b) Z g Q E:=h
theorem NT{Q:Bool->G->Prop}(h:dG P a Z g (λt g1=>if t=true then Q true g1 else dG P b Z g1 Q E) E):dG P (.jm a b) Z g Q E:=h
theorem QA{Q:Bool->G->Prop}(h:dG P a Z g (λt g1=>Q (!t) g1) E):dG P (.dQ a) Z g Q E:=h
theorem wz{Q:Bool->G->Prop}(h:Q true g):dG P .no Z g Q E:=h
theorem Bj{Q:Bool->G->Prop}(h:aS P a Z g (λx g1=>V7 g1 x λb=>Q b g1) E):dG P (.fh a) Z g Q E:=h
end
section
variable{Q:KD}{i:Int}{kb:Bool->Prop}{t s:Bool}{m:List D}
theorem LW(h:Q (.int (i+j)) g):cI (.bin .Add) [.int i,.int j] g Q:=⟨_,_,.inl ⟨i,j,_,rfl,rfl,rfl,rfl⟩,h⟩
theorem LY(h:Q (.int (i-j)) g):cI (.bin .Sub) [.int i,.int j] g Q:=⟨_,_,.inl ⟨i,j,_,rfl,rfl,rfl,rfl⟩,h⟩
theorem M7(c:qj i j)(h:Q (.int (i*j)) g):cI (.bin .Mult) [.int i,.int j] g Q:=⟨_,_,.inl ⟨i,j,_,rfl,⟨c,rfl⟩,rfl,rfl⟩,h⟩
theorem P6(c:0<j)(h:Q (.int (i % j)) g):cI (.bin .Mod) [.int i,.int j] g Q:=⟨_,_,.inl ⟨i,j,_,rfl,⟨c,rfl⟩,rfl,rfl⟩,h⟩
theorem wa(c:Bm i j)(h:Q (.int (i / j)) g):cI (.bin .FloorDiv) [.int i,.int j] g Q:=⟨_,_,.inl ⟨i,j,_,rfl,⟨c,rfl⟩,rfl,rfl⟩,h⟩
theorem NY(h1:0<j)(h2:j<1073741824)(h:Q (.int (i / j)) g):cI (.bin .FloorDiv) [.int i,.int j] g Q:=wa ⟨h1,h2⟩ h
theorem wb(c:V0 i j)(h:Q (.int (i ^ j.toNat)) g):cI (.bin .Pow) [.int i,.int j] g Q:=⟨_,_,.inl ⟨i,j,_,rfl,⟨c,rfl⟩,rfl,rfl⟩,h⟩
theorem AN{i j:Nat}(hi:g[i]?=some (.lst l))(hj:g[j]?=some (.lst m))(hl:l.length+m.length<=100000)(h:Q (.ref g.length) (g++[.lst (l++m)])):cI (.bin .Add) [.ref i,.ref j] g Q:=⟨_,_,.inr (.inl ⟨rfl,.inl ⟨i,j,l,m,rfl,hi,hj,hl,rfl,rfl⟩⟩),h⟩
theorem Mb{i:Nat}{n:Int}(hi:g[i]?=some (.lst l))(h1:-(2 ^ 62)<=n)(h2:n<2 ^ 62)(hl:l.length*n.toNat<=100000)(h:Q (.ref g.length) (g++[.lst (List.replicate n.toNat l).flatten])):cI (.bin .Mult) [.ref i,.int n] g Q:=⟨_,_,.inr (.inr ⟨rfl,⟨i,l,n,rfl,hi,h1,h2,hl,rfl,rfl⟩⟩),h⟩
theorem NQ(h:Q (.int (-i)) g):cI (.un .USub) [.int i] g Q:=⟨_,_,⟨rfl,i,rfl,rfl,rfl⟩,h⟩
theorem Q6{op:CmpOp}(hb:DO g x y b op)(h:Q (.bl b) g):cI (.cmp op) [x,y] g Q:=⟨_,_,⟨x,y,b,rfl,hb,rfl,rfl⟩,h⟩
theorem Rh(h:Q (.bl (decide (i<j))) g):cI (.cmp .Lt) [.int i,.int j] g Q:=Q6 ⟨i,j,rfl,rfl,rfl⟩ h
theorem Rg(h:Q (.bl (decide (i<=j))) g):cI (.cmp .LtE) [.int i,.int j] g Q:=Q6 ⟨i,j,rfl,rfl,rfl⟩ h
theorem Rf(h:Q (.bl (decide (j<i))) g):cI (.cmp .Gt) [.int i,.int j] g Q:=Q6 ⟨i,j,rfl,rfl,rfl⟩ h
theorem Rc(h:Q (.bl (decide (j<=i))) g):cI (.cmp .GtE) [.int i,.int j] g Q:=Q6 ⟨i,j,rfl,rfl,rfl⟩ h
theorem wQ(h:qb g x y λb=>Q (.bl b) g):cI (.cmp .Eq) [x,y] g Q:=let ⟨_,hb,h⟩:=h;Q6 hb h
theorem wR(h:qb g x y λb=>Q (.bl (!b)) g):cI (.cmp .NotEq) [x,y] g Q:=let ⟨b,hb,h⟩:=h;Q6 (show uA g x y (!(!b)) from by simp_all) h
theorem AD(h:tJ g x y λb=>Q (.bl b) g):cI (.cmp .In) [x,y] g Q:=let ⟨_,hb,h⟩:=h;Q6 (.inl hb) h
theorem AO(h:tJ g x y λb=>Q (.bl (!b)) g):cI (.cmp .NotIn) [x,y] g Q:=let ⟨b,hb,h⟩:=h;Q6 (.inl (show inR g x y (!(!b)) from by simp_all)) h
theorem HL(h:kb (decide (i=j))):qb g (.int i) (.int j) kb:=⟨_,.inl ⟨i,j,rfl,rfl,rfl⟩,h⟩
theorem Eb(h:kb (t==s)):qb g (.bl t) (.bl s) kb:=⟨_,.inr (.inl ⟨t,s,rfl,rfl,rfl⟩),h⟩
theorem HM{x y:Str}(h:kb (decide (x=y))):qb g (.str x) (.str y) kb:=⟨_,.inr (.inr (.inl ⟨x,y,rfl,rfl,rfl⟩)),h⟩
theorem Md(h:Q (.bl (decide (i=j))) g):cI (.cmp .Eq) [.int i,.int j] g Q:=wQ (HL h)
theorem Hx(h:Q (.bl (!decide (i=j))) g):cI (.cmp .NotEq) [.int i,.int j] g Q:=wR (HL h)
theorem Mc(h:Q (.bl (t==s)) g):cI (.cmp .Eq) [.bl t,.bl s] g Q:=wQ (Eb h)
theorem Mn(h:Q (.bl (!(t==s))) g):cI (.cmp .NotEq) [.bl t,.bl s] g Q:=wR (Eb h)
theorem Me{p q:Str}(h:Q (.bl (decide (p=q))) g):cI (.cmp .Eq) [.str p,.str q] g Q:=wQ (HM h)
theorem Mo{p q:Str}(h:Q (.bl (!decide (p=q))) g):cI (.cmp .NotEq) [.str p,.str q] g Q:=wR (HM h)
theorem qt(h:Q (.bl (P2 d)) g):cI (.cmp .Is) [d,.bq] g Q:=Q6 ⟨rfl,rfl⟩ h
theorem Mm(h:Q (.bl (!P2 d)) g):cI (.cmp .IsNot) [d,.bq] g Q:=Q6 ⟨rfl,rfl⟩ h
theorem Mf(h:Q (.bl true) g):cI (.cmp .Is) [.bq,.bq] g Q:=qt h
theorem Mh(h:Q (.bl false) g):cI (.cmp .Is) [.int i,.bq] g Q:=qt h
theorem Mg(h:Q (.bl false) g):cI (.cmp .Is) [.bl t,.bq] g Q:=qt h
theorem Mj{x:Str}(h:Q (.bl false) g):cI (.cmp .Is) [.str x,.bq] g Q:=qt h
theorem Ml(h:Q (.bl false) g):cI (.cmp .Is) [.tup l,.bq] g Q:=qt h
theorem Mi(h:Q (.bl false) g):cI (.cmp .Is) [.ref n,.bq] g Q:=qt h
theorem LR(h:kb t):V7 g (.bl t) kb:=⟨t,.inr (.inl rfl),h⟩
theorem NK{i:Nat}(hl:c8 g i=some l)(h:kb (!l.isEmpty)):V7 g (.ref i) kb:=⟨_,.inr (.inr (.inr (.inr ⟨i,l,rfl,hl,rfl⟩))),h⟩
theorem Z8{p:Bool->Prop}(h:p t):∃s,D.bl t=D.bl s/\p s:=⟨t,rfl,h⟩
theorem Oo{p:Int->Prop}(h:p i):∃s,D.int i=D.int s/\p s:=⟨i,rfl,h⟩
theorem if2{c:Prop}[Decidable c](h1:c->A)(h2:¬c->B):if decide c=true then A else B:=by
 simp_all
theorem jT(h:A):if true=true then A else B:=by rw[aJ rfl];exact h
theorem Q3(h:B):if false=true then A else B:=by rw[aB ∅];exact h
theorem AE(h:A):if(!false)=true then A else B:=by exact h
theorem DW(h:B):if(!true)=true then A else B:=by rw[aB ∅];exact h
theorem Rt{c:Prop}[Decidable c](h1:c->B)(h2:¬c->A):if(!decide c)=true then A else B:=by
 by_cases h:c
 ·rw[aQ h];exact DW (h1 h)
 ·rw[aR h];exact AE (h2 h)
theorem ke(hb:b=false)(h:B):if b=true then A else B:=by rw[hb];exact Q3 h
theorem mD(hb:b=true)(h:A):if b=true then A else B:=by rw[hb];exact jT h
theorem k7(hl:c8 g a=some l)(h2:fU l i=some d)(h:Q d g):cI .ix [.ref a,.int i] g Q:=⟨_,_,⟨rfl,.inl ⟨_,l,i,rfl,hl,h2⟩⟩,h⟩
theorem B9(h2:fU l i=some d)(h:Q d g):cI .ix [.tup l,.int i] g Q:=⟨_,_,⟨rfl,.inl ⟨_,l,i,rfl,rfl,h2⟩⟩,h⟩
theorem O5{kg:G->Prop}(hl:g[a]?=some (.lst l))(hn:jS l.length i=some n)(h:kg (g.set a (.lst (l.set n v)))):T1 (.ref a) (.int i) v g kg:=⟨_,.inl ⟨a,i,l,n,rfl,rfl,hl,hn,rfl⟩,h⟩
theorem Ny{i:Nat}{kvs:List (Key×D)}{k:Key}{kg:G->Prop}(hg:g[i]?=some (.eO kvs))(hk:X5 y=some k)(hl:kvs.length<100000)(h:kg (g.set i (.eO (putD kvs k v)))):T1 (.ref i) y v g kg:=⟨_,.inr ⟨i,kvs,k,rfl,hg,hk,hl,rfl⟩,h⟩
theorem a7(h:g[a]?=some (.lst l)):c8 g a=some l:=by simp only[c8,h,zN]
theorem VC(h:g[a]?=some (.nY l)):c8 g a=some l:=by simp only[c8,h,zN]
theorem uV(hl:c8 g a=some l)(h:Q (.int l.length) g):cI .len [.ref a] g Q:=⟨_,_,⟨rfl,.inl ⟨_,l,rfl,hl,rfl⟩⟩,h⟩
theorem MO(h:Q (.int l.length) g):cI .len [.tup l] g Q:=⟨_,_,⟨rfl,.inl ⟨_,l,rfl,rfl,rfl⟩⟩,h⟩
theorem GS(hl:c8 g a=some l)(h:Q (.ref g.length) (g++[.lst (cut l (some i) none)])):cI (.kE true false) [.ref a,.int i] g Q:=⟨_,_,⟨_,i,rfl,.inr ⟨a,l,rfl,hl,rfl,rfl⟩⟩,h⟩
theorem wI(hl:c8 g a=some l)(h:Q (.ref g.length) (g++[.lst (cut l none (some i))])):cI (.kE false true) [.ref a,.int i] g Q:=⟨_,_,⟨_,i,rfl,.inr ⟨a,l,rfl,hl,rfl,rfl⟩⟩,h⟩
theorem wq(hl:l.length<=1000)(h:Q (.tup l) g):cI .tup l g Q:=⟨_,_,⟨hl,rfl,rfl⟩,h⟩
theorem wo(hl:l.length<=1000)(h:Q (.ref g.length) (g++[.lst l])):cI .lst l g Q:=⟨_,_,⟨hl,rfl,rfl⟩,h⟩
theorem AY(hl:c8 g a=some l)(h:Q (.ref g.length) (g++[.lst l])):cI .list [.ref a] g Q:=⟨_,_,.inl ⟨_,l,rfl,hl,rfl,rfl⟩,h⟩
theorem MV(h:Q (.ref g.length) (g++[.lst l])):cI .list [.tup l] g Q:=⟨_,_,.inl ⟨_,l,rfl,rfl,rfl,rfl⟩,h⟩
theorem NO(hl:c8 g a=some l)(h:Q (.tup l) g):cI .tuple [.ref a] g Q:=⟨_,_,⟨_,l,rfl,hl,rfl,rfl⟩,h⟩
theorem fy{c:String}(hc:c∈["int","bool","str","tuple","list"])(hb:U0 g d c=some b)(h:Q (.bl b) g):cI .isin [d,.ty c] g Q:=⟨_,_,⟨d,c,b,rfl,hc,hb,rfl,rfl⟩,h⟩
theorem K4{i:Nat}(hg:g[i]?=some (.lst l))(hl:l.length<100000)(h:Q .bq (g.set i (.lst (l++[y])))):cI .append [.ref i,y] g Q:=⟨_,_,⟨i,y,l,rfl,hg,hl,rfl,rfl⟩,h⟩
theorem MW{i j:Nat}{n:Int}(hg:g[i]?=some (.lst l))(hn:n=j)(hj:l[j]?=some y)(hl:l.length<100000)(h:Q y (g.set i (.lst (l.eraseIdx j)))):cI .pop [.ref i,.int n] g Q:=by
 have et:=(ay.mp hj).1;refine⟨_,_,⟨i,n,l,j,rfl,hg,by omega,by omega,?_,hj,rfl⟩,h⟩;rw[hn];exact PySem.StrLaws.seqIndex_nonneg () () |>.trans (by simp)
theorem AZ{i:Nat}{kvs:List (Key×D)}{z:D}{k:Key}(hg:g[i]?=some (.eO kvs))(hk:X5 y=some k)(h:Q ((u3 kvs k).getD z) g):cI .get [.ref i,y,z] g Q:=⟨_,_,⟨i,y,z,kvs,k,rfl,hg,hk,rfl,rfl⟩,h⟩
theorem W9{i:Nat}(hg:g[i]?=some (.lst l)):kZ .append (.ref i) g:=⟨i,l,rfl,a7 hg⟩
theorem OM{i:Nat}(hg:g[i]?=some (.lst l)):kZ .pop (.ref i) g:=⟨i,l,rfl,a7 hg⟩
theorem RB{i:Nat}{l:List (Key×D)}(hg:g[i]?=some (.eO l)):kZ .get (.ref i) g:=⟨i,l,rfl,hg⟩
theorem Jj(h1:-(2 ^ 62)<=j)(h2:j<=100000)(h:Q (.ref g.length) (g++[.lst (k6 0 j.toNat)])):cI .jz [.int j] g Q:=⟨_,_,⟨j,rfl,h1,h2,rfl,rfl⟩,h⟩
theorem Ji(h1:-(2 ^ 62)<=i/\i<2 ^ 62/\-(2 ^ 62)<=j/\j<2 ^ 62/\j-i<=100000)(h:Q (.ref g.length) (g++[.lst (k6 i (j-i).toNat)])):cI .jy [.int i,.int j] g Q:=⟨_,_,⟨i,j,rfl,h1,rfl,rfl⟩,h⟩
theorem Mr(h:Q (.ref g.length) (g++[.gq []])):cI .Q5 [] g Q:=⟨_,_,⟨rfl,rfl,.inr rfl⟩,h⟩
theorem OG(hg:g[a]?=some (.gq kvs))(hz:kvs.length<1000)(hn:P8 kvs k=none)(h:Q v (g.set a (.gq (kvs++[(k,v)])))):cI .nv [.ref a,u7 k,v] g Q:=⟨_,_,⟨a,kvs,k,v,rfl,hg,hz,.inr ⟨hn,rfl,rfl⟩⟩,h⟩
theorem OI(hg:g[a]?=some (.gq kvs))(hz:kvs.length<1000)(hn:P8 kvs k=some d)(h:Q d g):cI .nv [.ref a,u7 k,v] g Q:=⟨_,_,⟨a,kvs,k,v,rfl,hg,hz,.inl ⟨hn,rfl⟩⟩,h⟩
theorem ON(hg:g[a]?=some (.gq kvs)):kZ .nv (.ref a) g:=⟨a,kvs,rfl,hg⟩
theorem Ot(hg:g[a]?=some (.gq kvs))(hv:P8 kvs k=some v)(h:Q v g):cI .ix [.ref a,u7 k] g Q:=⟨_,_,⟨rfl,.inr (.inr (.inl ⟨a,kvs,k,rfl,hg,hv⟩))⟩,h⟩
theorem Yl{kvs':List (List Int×D)}(hg:g[a]?=some (.gq kvs))(hz:kvs.length<=60)(hp:kvs'.Perm kvs)(hw:kvs'.Pairwise (λx y=>x.1.length<y.1.length))(h:Q (.ref g.length) (g++[.lst (kvs'.map λp=>u7 p.1)])):cI .ju [.ref a] g Q:=⟨_,_,⟨a,kvs,kvs',rfl,hg,hz,hp,hw,rfl,rfl⟩,h⟩
theorem Xm{ks:List (List Int)}(hl:c8 g a=some (ks.map u7))(hz:ks.length<=17)(h:Q (.bl (J8 ks)) g):cI .mixed [.ref a] g Q:=⟨_,_,⟨a,ks,rfl,hl,hz,rfl,rfl⟩,h⟩
theorem Q5(h:Q (.ref g.length) (g++[.eO []])):cI .Q5 [] g Q:=⟨_,_,⟨rfl,rfl,.inl rfl⟩,h⟩
theorem max2(h:Q (.int (if j>i then j else i)) g):cI .max [.int i,.int j] g Q:=⟨_,_,⟨rfl,.inl ⟨i,j,rfl,rfl⟩⟩,h⟩
theorem min2(h:Q (.int (if j<i then j else i)) g):cI .min [.int i,.int j] g Q:=⟨_,_,⟨rfl,.inl ⟨i,j,rfl,rfl⟩⟩,h⟩
theorem MC{v:Bool}(h:Q (.int (if v then 1 else 0)) g):cI .int [.bl v] g Q:=⟨_,_,⟨rfl,.inr ⟨v,rfl,rfl⟩⟩,h⟩
theorem HE{kvs:List D}{x:Str}(hv:K5 kvs x=some v)(h:Q v g):cI .lZ [.tup kvs,.str x] g Q:=⟨_,_,⟨kvs,x,rfl,hv,rfl⟩,h⟩
theorem AM{i:Nat}{v:Bool}(hl:c8 g i=some l)(hv:P5 l=some v)(h:Q (.bl v) g):cI .all [.ref i] g Q:=⟨_,_,⟨i,l,v,rfl,hl,.inl hv,rfl,rfl⟩,h⟩
theorem x8{i:Nat}{k:S->Prop}(h:k (Z.set i (some x))):jl (.one i) x Z k:=h
theorem Y8{is:List Nat}{cb:S}{k:S->Prop}(e:K6 is l Z=some cb)(h:k cb):jl (.many is) (.tup l) Z k:=⟨l,cb,rfl,e,h⟩
end
theorem Y1:∀(bs:List Bool),P5 (bs.map D.bl)=some (bs.all id):=by
 intro bs
 induction bs with
 |nil=>rfl
 |cons b r ih=>simp[P5,ih]
theorem call_of{T:Nat->Option bj}{k f:Nat}{m:bj}{ds:List D}{Q:KD}(hT:T f=some m)(hl:ds.length=m.ar)(h:wpS (b9 T k) m.body ⟨λ_ g'=>Q .bq g',Q,λ_ _=>False,λ_ _=>False⟩ (d4 m ds) g E):b9 T (k+1) f ds g Q E:=⟨m,hT,hl,h⟩
def IK.Is(k:IK)(l:List D)(g:G):Prop:=∀i,k.at i g=some l[i]?
theorem t8:(IK.fix l).Is l g:=λ_=>rfl
theorem F9(h:c8 g a=some l):(IK.lst a).Is l g:=λi=>by simp only[IK.at,h]
def qd(l:List D):List D:=l.mapIdx λi d=>.tup [.int i,d]
theorem GC(h:c8 g a=some l):(IK.qc a).Is (qd l) g:=λi=>by
 simp only[IK.at,h,qd,List.getElem?_mapIdx]
theorem Ai(l:List D):(qd l).length=l.length:=by simp[qd]
theorem Hl(h:(qd l)[i]?=some x):∃d,l[i]?=some d/\x=.tup [.int i,d]:=by
 rw[qd,List.getElem?_mapIdx,ae] at h;obtain⟨d,h1,h2⟩:=h;exact⟨d,h1,h2.symm⟩
theorem E3{lo:Int}(h:(k6 lo n)[i]?=some x):i<n/\x=.int (lo+i):=by
 unfold k6 at h;have hi:i<n:=by
  have:=(ay.mp h).1;simpa using this
 rw[aq,fg hi] at h;cases h;exact⟨hi,rfl⟩
theorem l0(lo:Int)(n:Nat):(k6 lo n).length=n:=by simp[k6]
section
variable{P:eT}{N:Ends}{it a c:ME}{s:MS}{t:MT}{Q:KD}
theorem Fj{k:IK}{fin:S->G->Prop}{turn:D->(S->G->Prop)->S->G->Prop}(I:Nat->S->G->Prop)(hk:∀i Z g,I i Z g->k.Is l g)(h0:I 0 Z g)(hs:∀i x Z g,l[i]?=some x->I i Z g->turn x (I (i+1)) Z g)(hd:∀Z g,I l.length Z g->fin Z g):turns k Z g fin turn:=by
 refine⟨λi m Z g=>m=l.length-i/\i<=l.length/\I i Z g,⟨l.length,by simp,bG _,h0⟩,?_⟩;rintro i m Z g ⟨rfl,hi,p⟩;rw[hk i Z g p i];by_cases et:i<l.length
 ·rw[ak et];exact .inr ⟨_,rfl,I (i+1),λcb g' p'=>⟨l.length-(i+1),by omega,rfl,et,p'⟩,hs i l[i] Z g (ak et) p⟩
 ·have e:i=l.length:=by omega
  subst e;rw[cg (aj _)];exact .inl ⟨rfl,hd Z g p⟩
inductive vd(P:eT)(t:MT)(s:MS)(N:Ends)(E:KX)(Z:S)(k:IK)(g1:G):Prop
 |mk (l:List D) (I:Nat->S->G->Prop) (hk:∀i Z g,I i Z g->k.Is l g) (h0:I 0 Z g1)
   (hs:∀i x Z g,l[i]?=some x->I i Z g->jl t x Z λcS=>wpS P s ⟨I (i+1),N.rt,N.nx,I (i+1)⟩ cS g E) (hd:∀Z g,I l.length Z g->N.nx Z g):vd P t s N E Z k g1
theorem L7(hP:i4 P)(h:gT P it Z g (vd P t s N E Z) E):wpS P (.fE t it s) N Z g E :=
 A7 hP it _ _ _ _ _ _ (λk g1 hq=>by obtain⟨l,I,hk,h0,hs,hd⟩:=hq;exact Fj I hk h0 hs hd) (λ_ _ z=>z) h
theorem V4(hn:(n:Int)<2 ^ 62)(I:Nat->S->G->Prop)(h0:I 0 Z g)(hs:∀(i:Nat) Z g,i<n->I i Z g->jl t (.int i) Z λcS=>wpS P s ⟨I (i+1),N.rt,N.nx,I (i+1)⟩ cS g E)(hd:∀Z g,I n Z g->N.nx Z g):wpS P (.fE t (.eK (.lit (.int n))) s) N Z g E:=by
 refine⟨n,rfl,by omega,hn,Fj (l:=k6 0 n) I (λ_ _ _ _=>t8) h0 (λi x Z g hx p=>?_) (λZ g p=>hd Z g (by rw[l0] at p;exact p))⟩;obtain⟨hi,rfl⟩:=E3 hx;have:=hs i Z g hi p;rw[show(0:Int)+(i:Int)=i by omega];exact this
inductive CompI(P:eT)(t:MT)(cond elt:ME)(E:KX)(Q:KD)(Z:S)(k:IK)(g1:G):Prop
 |mk (l:List D) (I:Nat->List D->S->G->Prop) (hl:l.length<=1000) (hk:∀i ys Z g,I i ys Z g->k.Is l g/\ys.length<=i) (h0:I 0 [] Z g1)
   (hs:∀i x ys Z g,l[i]?=some x->I i ys Z g->jl t x Z λcS=>dG P cond cS g (λc g3=>if c=true then aS P elt cS g3 (λy g4=>I (i+1) (ys++[y]) cS g4) E else I (i+1) ys cS g3) ja)
   (hd:∀ys Z g,I l.length ys Z g->Q (.ref g.length) (g++[.lst ys])):CompI P t cond elt E Q Z k g1
theorem C3(hP:i4 P)(h:gT P it Z g (CompI P t cond elt ja Q (C8 Z d7 n)) E):aS P (.comp d7 n t it cond elt) Z g Q E:=by
 refine A7 hP it _ _ _ _ _ _ (λk g1 h=>?_) (λ_ _ z=>z) h;obtain⟨l,I,hl,hk,h0,hs,hd⟩:=h;refine⟨λi m ys Z g=>m=l.length-i/\i<=l.length/\I i ys Z g,⟨l.length,by simp,bG _,h0⟩,?_⟩;rintro i m ys Z g ⟨rfl,hi,p⟩;obtain⟨oC,hy⟩:=hk i ys Z g p;rw[oC i];by_cases et:i<l.length
 ·rw[ak et];refine .inr ⟨_,rfl,by omega,w9 (λcS q=>o7 hP cond _ _ _ _ _ _ (λc g3 q=>?_) (λ_ _ z=>z) q) (hs i l[i] ys Z g (ak et) p)⟩;cases c
  ·exact⟨l.length-(i+1),by omega,rfl,et,by simpa using(show I (i+1) ys cS g3 from q)⟩
  ·exact b7 hP elt _ _ _ _ _ _ (λy g4 q=>⟨l.length-(i+1),by omega,rfl,et,by simpa using q⟩) (λ_ _ z=>z) q
 ·have e:i=l.length:=by omega
  subst e;rw[cg (aj _)];exact .inl ⟨rfl,hd ys Z g p⟩
theorem Gg(hP:i4 P)(h:aS P a Z g (λx g1=>∃j:Nat,x=.int j/\j<=1000/\∃I:Nat->List D->S->G->Prop,I 0 [] (C8 Z d7 n) g1/\(∀i ys Z g,I i ys Z g->ys.length<=i) /\
      (∀(i:Nat) ys Z g,i<j->I i ys Z g->jl t (.int i) Z λcS=>dG P cond cS g (λc g3=>if c=true then aS P elt cS g3 (λy g4=>I (i+1) (ys++[y]) cS g4) ja else I (i+1) ys cS g3) ja) /\
      ∀ ys Z g,I j ys Z g->Q (.ref g.length) (g ++ [.lst ys])) E):aS P (.comp d7 n t (.eK a) cond elt) Z g Q E:=by
  refine C3 hP ?_;refine b7 hP a _ _ _ _ _ _ (λx g1 h=>?_) (λ_ _ z=>z) h;obtain⟨j,rfl,hj,I,h0,hz,hs,hd⟩:=h;refine⟨j,rfl,by omega,by omega,_,I,by rw[l0];simpa using hj,λi ys Z g p=>⟨t8,hz i ys Z g p⟩,h0,λi x ys Z g hx p=>?_,λys Z g p=>hd ys Z g (by rw[l0] at p;simpa using p)⟩;obtain⟨hi,rfl⟩:=E3 hx;rw[show(0:Int)+(i:Int)=i by omega];exact hs i ys Z g (by simpa using hi) p
theorem Xe(hP:i4 P)(h:aS P a Z g (λx g1=>∃l,x=.tup l/\l.length<=1000/\∃I:Nat->List D->S->G->Prop,I 0 [] (C8 Z d7 n) g1/\(∀i ys Z g,I i ys Z g->ys.length<=i) /\
      (∀(i:Nat) x ys Z g,l[i]?=some x->I i ys Z g->jl t x Z λcS=>dG P cond cS g (λc g3=>if c=true then aS P elt cS g3 (λy g4=>I (i+1) (ys++[y]) cS g4) ja else I (i+1) ys cS g3) ja) /\
      ∀ ys Z g,I l.length ys Z g->Q (.ref g.length) (g ++ [.lst ys])) E):aS P (.comp d7 n t (.gL a) cond elt) Z g Q E:=by
  refine C3 hP ?_;refine b7 hP a _ _ _ _ _ _ (λx g1 h=>?_) (λ_ _ z=>z) h;obtain⟨l,rfl,hj,I,h0,hz,hs,hd⟩:=h;exact .inl ⟨l,rfl,_,I,hj,λi ys Z g p=>⟨t8,hz i ys Z g p⟩,h0,hs,hd⟩
theorem rF(hP:i4 P)(h:aS P a Z g (λx g1=>∃j:Int,x=.int j/\-(2 ^ 62)<=j/\j<2 ^ 62/\R (.fix (k6 0 j.toNat)) g1) E):gT P (.eK a) Z g R E:=h
theorem vF(hP:i4 P)(h:aS P a Z g (λx g1=>∃l,x=.tup l/\R (.fix l) g1) E):gT P (.gL a) Z g R E:=by
 exact b7 hP a _ _ _ _ _ _ (λx g1 h=>.inl h) (λ_ _ z=>z) h
theorem pM(hP:i4 P)(h:aS P a Z g (λx g1=>∃i l,x=.ref i/\c8 g1 i=some l/\R (.lst i) g1) E):gT P (.gL a) Z g R E:=by
 exact b7 hP a _ _ _ _ _ _ (λx g1 h=>.inr h) (λ_ _ z=>z) h
theorem Ct(h:aS P a Z g (λx g1=>∃i l,x=.ref i/\c8 g1 i=some l/\R (.qc i) g1) E):gT P (.kG a) Z g R E:=h
end
end M
namespace M
open PySem L2 PySem.Spec PyProof.Rows
variable{K:PySem.W.Frag}{x:Str}{C:Addr}
structure RF where
 id:Nat
 nm:Str
 N:List Str
 k:Nat
 i:Nat
 m:bj
structure RM where
 id:Nat
 cl:Str
 nm:Str
 qn:Str
 N:List Str
 k:Nat
 i:Nat
 j:Nat
 m:bj
def RF.d(tp:Nat->Stmt)(r:RF):oj:=⟨r.nm,r.nm,r.N,r.N.take r.k,tp r.i⟩
def RM.d(mt:Nat->Nat->Stmt)(r:RM):oj:=⟨r.nm,r.qn,r.N,r.N.take r.k,mt r.i r.j⟩
def rK(F:List RF)(M:List RM)(i:Nat):Option bj:=match F.find? λr=>Nat.beq r.id i with
 |some r=>some r.m
 |none=>(M.find? λr=>Nat.beq r.id i).map (·.m)
section
variable(tp:Nat->Stmt)(mt:Nat->Nat->Stmt)(K:PySem.W.Frag)
def PF:List RF->Prop
 |[]=>True
 |r::l=>(∃f fd,PySem.W.nsIn K mainGlobals r.nm=some (some (.ref f))/\oX K r.nm r.nm (tp r.i) f fd)/\PF l
def PM:List RM->Prop
 |[]=>True
 |r::l=>(∃C f fd,PySem.W.nsIn K mainGlobals r.cl=some (some (.ref C))/\Meth K C r.nm f/\oX K r.nm r.qn (mt r.i r.j) f fd)/\PM l
def PC:List (Str×Nat)->Prop
 |[]=>True
 |r::l=>(∃C,PySem.W.nsIn K mainGlobals r.1=some (some (.ref C))/\jq K C/\PySem.W.makesIn K C=true/\PySem.W.keepIn K (.ref C)=true)/\PC l
def PA:List (Str×Str)->Prop
 |[]=>True
 |r::l=>(∃C,PySem.W.nsIn K mainGlobals r.2=some (some (.ref C))/\PySem.W.findIn K (.ref C) r.1=some none)/\PA l
def PB:List Str->Prop
 |[]=>True
 |r::l=>PySem.W.nsIn K mainGlobals r=some none/\PB l
def PX:List Str->Prop
 |[]=>True
 |r::l=>(∃C,PySem.W.nsIn K mainGlobals r=some (some (.ref C))/\PySem.W.excIn K C [.type "ValueError",.type "Exception",.type "BaseException",.type "object"] "ValueError.__new__"=true)/\PX l
def BF:List RF->Prop
 |[]=>True
 |r::l=>(∀(kV doc pm:Value) (an:Option Addr) (ft ct:Value) (us:List Value),us.length=(r.N.take r.k).length->bindArgs (PySem.W.fnOf r.nm r.nm (y9 (tp r.i)) (n6 (tp r.i)) (m8 (tp r.i)) .none kV doc pm an ft ct) ⟨us,[]⟩=pure ((r.N.take r.k).zip us))/\BF l
def BM:List RM->Prop
 |[]=>True
 |r::l=>(∀(kV doc pm:Value) (an:Option Addr) (ft ct:Value) (us:List Value),us.length=(r.N.take r.k).length->bindArgs (PySem.W.fnOf r.nm r.qn (y9 (mt r.i r.j)) (n6 (mt r.i r.j)) (m8 (mt r.i r.j)) .none kV doc pm an ft ct) ⟨us,[]⟩=pure ((r.N.take r.k).zip us))/\BM l
def YF(c:f6):List RF->Prop
 |[]=>True
 |r::l=>t9 (comp 60) (c.at (r.d tp)) (n6 (tp r.i))=some r.m.body/\YF c l
def YM(c:f6):List RM->Prop
 |[]=>True
 |r::l=>t9 (comp 60) (c.at (r.d mt)) (n6 (mt r.i r.j))=some r.m.body/\YM c l
end
section
variable{tp:Nat->Stmt}{mt:Nat->Nat->Stmt}{c:f6}{id k i j:Nat}{cl nm qn:Str}{N:List Str}{m:bj}{f:Addr}{oc kV doc pm ft ct:Value}{od an:Option Addr}{lJ:Array (Option Value)}
theorem PF.nil:PF tp K []:=trivial
theorem PF.cons{l:List RF}(a:PySem.W.nsIn K mainGlobals nm=some (some (.ref f)))(lk:K.lookup f=some ⟨oc,od,.func (PySem.W.fnOf nm nm (y9 (tp i)) (n6 (tp i)) (m8 (tp i)) .none kV doc pm an ft ct),lJ⟩)(cd:PySem.W.codeIn K ft nm=true)(kp:PySem.W.keepIn K (.ref f)=true)(h:PF tp K l):PF tp K (⟨id,nm,N,k,i,m⟩::l):=⟨⟨f,_,a,Oi lk cd kp⟩,h⟩
theorem PM.nil:PM mt K []:=trivial
theorem PC.nil:PC K []:=trivial
theorem PA.nil:PA K []:=trivial
theorem PB.nil:PB K []:=trivial
theorem PB.cons{l:List Str}(cn:PySem.W.nsIn K mainGlobals x=some none)(h:PB K l):PB K (x::l):=⟨cn,h⟩
theorem PX.nil:PX K []:=trivial
theorem PX.cons{l:List Str}(cn:PySem.W.nsIn K mainGlobals x=some (some (.ref C)))(q:PySem.W.excIn K C [.type "ValueError",.type "Exception",.type "BaseException",.type "object"] "ValueError.__new__"=true)(h:PX K l):PX K (x::l):=⟨⟨C,cn,q⟩,h⟩
theorem BN{P:List Value->Prop}{n:Nat}(h:∀a vs,vs.length=n->P (a::vs))(us:List Value)(hl:us.length=n+1):P us:=by
 cases us with
 |nil=>cases hl
 |cons a vs=>exact h a vs (Nat.succ.inj hl)
theorem BL{P:List Value->Prop}(h:P [])(us:List Value)(hl:us.length=0):P us:=by
 simp_all
theorem BF.nil:BF tp []:=trivial
theorem BF.cons{l:List RF}(h:∀(kV doc pm:Value) (an:Option Addr) (ft ct:Value) (us:List Value),us.length=(N.take k).length->bindArgs (PySem.W.fnOf nm nm (y9 (tp i)) (n6 (tp i)) (m8 (tp i)) .none kV doc pm an ft ct) ⟨us,[]⟩=pure ((N.take k).zip us))(h2:BF tp l):BF tp (⟨id,nm,N,k,i,m⟩::l):=⟨h,h2⟩
theorem BM.nil:BM mt []:=trivial
theorem YF.nil:YF tp c []:=trivial
theorem YF.cons{l:List RF}(h:t9 (comp 60) (c.at ⟨nm,nm,N,N.take k,tp i⟩) (n6 (tp i))=some m.body)(h2:YF tp c l):YF tp c (⟨id,nm,N,k,i,m⟩::l):=⟨h,h2⟩
theorem YM.nil:YM mt c []:=trivial
theorem YF.get:∀{l:List RF},YF tp c l->∀r∈l,t9 (comp 60) (c.at (r.d tp)) (n6 (tp r.i))=some r.m.body
 |_::_,h,r,hr=>(av.mp hr).elim (λz=>z▸h.1) (YF.get h.2 r)
theorem YM.get:∀{l:List RM},YM mt c l->∀r∈l,t9 (comp 60) (c.at (r.d mt)) (n6 (mt r.i r.j))=some r.m.body
 |_::_,h,r,hr=>(av.mp hr).elim (λz=>z▸h.1) (YM.get h.2 r)
theorem PF.get:∀{l:List RF},PF tp K l->∀r∈l,∃f fd,PySem.W.nsIn K mainGlobals r.nm=some (some (.ref f))/\oX K r.nm r.nm (tp r.i) f fd
 |_::_,h,r,hr=>(av.mp hr).elim (λz=>z▸h.1) (PF.get h.2 r)
theorem PM.get:∀{l:List RM},PM mt K l->∀r∈l,∃C f fd,PySem.W.nsIn K mainGlobals r.cl=some (some (.ref C))/\Meth K C r.nm f/\oX K r.nm r.qn (mt r.i r.j) f fd
 |_::_,h,r,hr=>(av.mp hr).elim (λz=>z▸h.1) (PM.get h.2 r)
theorem PC.get:∀{l:List (Str×Nat)},PC K l->∀r∈l,∃C,PySem.W.nsIn K mainGlobals r.1=some (some (.ref C))/\jq K C/\PySem.W.makesIn K C=true/\PySem.W.keepIn K (.ref C)=true
 |_::_,h,r,hr=>(av.mp hr).elim (λz=>z▸h.1) (PC.get h.2 r)
theorem PA.get:∀{l:List (Str×Str)},PA K l->∀r∈l,∃C,PySem.W.nsIn K mainGlobals r.2=some (some (.ref C))/\PySem.W.findIn K (.ref C) r.1=some none
 |_::_,h,r,hr=>(av.mp hr).elim (λz=>z▸h.1) (PA.get h.2 r)
theorem PB.get:∀{l:List Str},PB K l->∀r∈l,PySem.W.nsIn K mainGlobals r=some none
 |_::_,h,r,hr=>(av.mp hr).elim (λz=>z▸h.1) (PB.get h.2 r)
theorem PX.get:∀{l:List Str},PX K l->∀r∈l,∃C,PySem.W.nsIn K mainGlobals r=some (some (.ref C))/\PySem.W.excIn K C [.type "ValueError",.type "Exception",.type "BaseException",.type "object"] "ValueError.__new__"=true
 |_::_,h,r,hr=>(av.mp hr).elim (λz=>z▸h.1) (PX.get h.2 r)
theorem BF.get:∀{l:List RF},BF tp l->∀r∈l,∀(kV doc pm:Value) (an:Option Addr) (ft ct:Value) (us:List Value),us.length=(r.N.take r.k).length->bindArgs (PySem.W.fnOf r.nm r.nm (y9 (tp r.i)) (n6 (tp r.i)) (m8 (tp r.i)) .none kV doc pm an ft ct) ⟨us,[]⟩=pure ((r.N.take r.k).zip us)
 |_::_,h,r,hr=>(av.mp hr).elim (λz=>z▸h.1) (BF.get h.2 r)
theorem BM.get:∀{l:List RM},BM mt l->∀r∈l,∀(kV doc pm:Value) (an:Option Addr) (ft ct:Value) (us:List Value),us.length=(r.N.take r.k).length->bindArgs (PySem.W.fnOf r.nm r.qn (y9 (mt r.i r.j)) (n6 (mt r.i r.j)) (m8 (mt r.i r.j)) .none kV doc pm an ft ct) ⟨us,[]⟩=pure ((r.N.take r.k).zip us)
 |_::_,h,r,hr=>(av.mp hr).elim (λz=>z▸h.1) (BM.get h.2 r)
end
def vA(N P:List Str)(sc:Scope):Bool:=decide (sc.kind=.function)&&!sc.isCoroutine&&!sc.isGenerator&&decide N.Nodup&&decide (N.take P.length=P)&&P.all (λx=>decide (sc.names.lookup x=some .local)||decide (sc.names.lookup x=some .cell))&&sc.names.all λy=>decide (y.2≠.free)
theorem GP{N P:List Str}{sc:Scope}(h:vA N P sc=true):ie N P sc:=by
 unfold vA at h;simp only[Bool.and_eq_true,decide_eq_true_eq,Bool.not_eq_true',List.all_eq_true,Bool.or_eq_true] at h;obtain⟨⟨⟨⟨⟨⟨h1,h2⟩,h3⟩,h4⟩,h5⟩,h6⟩,h7⟩:=h;exact⟨h1,h2,h3,h4,h5,h6,h7⟩
theorem VO{h₀:Heap}{mg:Str->Option Value}{DU:List Value}{newId:String}(X:K.In h₀)(G:h₀.Ns mainGlobals mg)(e:PySem.W.nsIn K mainGlobals x=some (some (.ref C)))(q:PySem.W.excIn K C DU newId=true):PyProof.Rows.OwnCls x C DU newId mg h₀:=by
 refine⟨cu X G e,?_⟩;unfold PySem.W.excIn at q;split at q
 ·rename_i dd cd sl ho;split at q
  ·rename_i C' bm k0 k1 k2 k3 n k5 hm hs;simp only[Bool.and_eq_true,beq_iff_eq,Bool.not_eq_true'] at q;obtain⟨⟨⟨⟨⟨z1,z2⟩,ud⟩,ht⟩,bB⟩,vL⟩:=q;subst z1;subst z2;obtain⟨nm,bs,mro,ns,qn,hd,sn,sub,ab,col,del⟩:=cd;dsimp only at hm ud bB vL;subst hm ud;have JB:sl=#[k0,k1,k2,k3,some (.builtin n),k5]:=by
    obtain⟨l⟩:=sl;simp only at hs;rw[hs]
   subst JB;exact⟨bm,ns,nm,qn,bs,hd,sn,sub,ab,col,dd,k0,k1,k2,k3,k5,_,X _ _ ho,.of_isNs (PySem.W.isNs_of_in X bB),PySem.W.nsMap_none_of_in X bB vL,PySem.W.tail_of_in X ht⟩
  ·cases q
 ·cases q
def M8(K:PySem.W.Frag)(x:Str):Addr:=match PySem.W.nsIn K mainGlobals x with
 |some (some (.ref C))=>C
 |_=>0
def Hm(K:PySem.W.Frag)(exc:List Str):Bool:=exc.all λx=>exc.all λy=>decide (PySem.W.exmOne K (.ref (M8 K x)) (.ref (M8 K y))=some (decide (x=y\/y="MintError")))
theorem Oh{exc:List Str}(h:Hm K exc=true){y:Str}{C':Addr}(hx:exc.contains x=true)(hy:exc.contains y=true)(hC:m5 K x C)(Dh:m5 K y C'):PySem.W.exmOne K (.ref C) (.ref C')=some (decide (x=y\/y="MintError")):=by
 have h1:=cG.mp h x (by simpa using hx);have h2:=aW (cG.mp h1 y (by simpa using hy));have e1:M8 K x=C:=by unfold M8;simp_all
 have e2:M8 K y=C':=by unfold M8;simp_all
 rw[e1,e2] at h2;exact h2
theorem Aj{α:Type}{f:α->Nat}:∀{l:List α},(l.map f).Nodup->∀r∈l,l.find? (λx=>Nat.beq (f x) (f r))=some r
 |y::l,nd,r,hr=>by
  rw[aZ,ei] at nd;rcases av.mp hr with rfl|hr
  ·rw[List.find?_cons_of_pos];exact Nat.beq_refl _
  ·rw[List.find?_cons_of_neg]
   ·exact Aj nd.2 r hr
   ·intro z;exact nd.1 (az.mpr ⟨r,hr,(ik z).symm⟩)
theorem QN{α β:Type}{f:α->Nat}{g:β->Nat}{l:List α}{r:β}(h:g r∉l.map f):l.find? (λx=>Nat.beq (f x) (g r))=none:=by
 rw[dq];intro x hx z;exact h (az.mpr ⟨x,hx,ik z⟩)
section
variable{w:World}{h₀:Heap}{mg:Str->Option Value}{c:f6}{F:List RF}{M:List RM}{tp:Nat->Stmt}{mt:Nat->Nat->Stmt}
structure km(K:PySem.W.Frag)(c:f6)(F:List RF)(M:List RM)(tp:Nat->Stmt)(mt:Nat->Nat->Stmt):Prop where
 qF:PF tp K F
 qM:PM mt K M
 qC:PC K c.cls
 qA:PA K c.mL
 qB:PB K c.blt
 qX:PX K c.exc
 xm:Hm K c.exc=true
structure kl(c:f6)(F:List RF)(M:List RM)(tp:Nat->Stmt)(mt:Nat->Nat->Stmt):Prop where
 cf:c.fns=F.map λr=>(r.nm,r.id)
 cm:c.ox=M.map λr=>(r.nm,r.cl,r.id)
 ci:c.cls.all (λy=>M.any λr=>decide (r.cl=y.1)&&decide (r.nm="__init__")&&Nat.beq r.id y.2)=true
 nd:(F.map (·.id)++M.map (·.id)).Nodup
 sF:F.all (λr=>vA r.N (r.N.take r.k) (m8 (tp r.i))&&decide (r.m.ar=(r.N.take r.k).length)&&decide (r.m.n=r.N.length))=true
 sM:M.all (λr=>vA r.N (r.N.take r.k) (m8 (mt r.i r.j))&&decide (r.m.ar=(r.N.take r.k).length)&&decide (r.m.n=r.N.length))=true
 oF:YF tp c F
 oM:YM mt c M
 bF:BF tp F
 bM:BM mt M
theorem Ew(I:km K c F M tp mt)(X:kl c F M tp mt)(r:RF)(hr:r∈F):∃f fd,jb K c (r.d tp) r.m f fd/\PySem.W.nsIn K mainGlobals r.nm=some (some (.ref f))/\rK F M r.id=some r.m:=by
 obtain⟨f,fd,a,q⟩:=I.qF.get r hr;have s:=cG.mp X.sF r hr;simp only[Bool.and_eq_true,decide_eq_true_eq] at s;have o:=X.oF.get r hr;refine⟨f,fd,⟨q,q.binds (X.bF.get r hr),GP s.1.1,o,s.1.2,s.2⟩,a,?_⟩;unfold rK;rw[Aj (dD.mp X.nd).1 r hr]
theorem Ey(I:km K c F M tp mt)(X:kl c F M tp mt)(r:RM)(hr:r∈M):∃C f fd,jb K c (r.d mt) r.m f fd/\PySem.W.nsIn K mainGlobals r.cl=some (some (.ref C))/\Meth K C r.nm f/\rK F M r.id=some r.m:=by
 obtain⟨C,f,fd,a,q1,q⟩:=I.qM.get r hr;have s:=cG.mp X.sM r hr;simp only[Bool.and_eq_true,decide_eq_true_eq] at s;have o:=X.oM.get r hr;refine⟨C,f,fd,⟨q,q.binds (X.bM.get r hr),GP s.1.1,o,s.1.2,s.2⟩,a,q1,?_⟩;have nd:=dD.mp X.nd;unfold rK;rw[QN (λz=>nd.2.2 _ z _ (az.mpr ⟨r,hr,rfl⟩) rfl),Aj nd.2.1 r hr]
 rfl
theorem Qr(I:km K c F M tp mt)(Y:kl c F M tp mt)(X:K.In h₀)(G:h₀.Ns mainGlobals mg)(con:∀x d,c.con.lookup x=some d->∃v u,mg x=some u/\RelV v u/\∀ρ H,c9 K ρ H d v)(pZ:∀x kvs,c.gd.lookup x=some kvs->∃A vs,mg x=some (.ref A)/\vZ K w.params A vs/\Y5 K kvs vs):mn w K mg c (rK F M):=by
 refine⟨λx i hx=>?_,λx i hx=>?_,λx y i C hx hC=>?_,λf y C hx hC=>?_,con,λx hx=>?_,λx hx=>?_,λx y C C' hx hy hC Dh=>Oh I.xm hx hy hC Dh,pZ⟩
 ·have hm:=aK hx;rw[Y.cf] at hm;obtain⟨r,hr,e⟩:=az.mp hm;cases e;obtain⟨f,fd,O,a,t⟩:=Ew I Y r hr;exact⟨_,_,f,fd,t,O,cu X G a⟩
 ·have hm:=aK hx;have h1:=cG.mp Y.ci _ hm;obtain⟨r,hr,e⟩:=ZF.mp h1;simp only[Bool.and_eq_true,decide_eq_true_eq] at e;obtain⟨⟨e1,e2⟩,e3⟩:=e;have e3:=ik e3;obtain⟨C,f,fd,O,a,q,t⟩:=Ey I Y r hr;obtain⟨C',a',hc,mk,kp⟩:=I.qC.get _ hm;rw[e1] at a;cases a.symm.trans a';rw[e2] at q;rw[e3] at t;exact⟨C,_,_,f,fd,t,O,cu X G a,a,hc,⟨mk,q.at_,q.fn,kp⟩⟩
 ·rw[Y.cm] at hx;obtain⟨r,hr,e⟩:=az.mp hx;cases e;obtain⟨C',f,fd,O,a,q,t⟩:=Ey I Y r hr;cases a.symm.trans hC;exact⟨_,_,f,fd,t,O,q⟩
 ·obtain⟨C',a,q⟩:=I.qA.get _ hx;cases a.symm.trans hC;exact q
 ·exact PySem.W.mg_none_of X G (I.qB.get x (by simpa using hx))
 ·obtain⟨C,a,q⟩:=I.qX.get x (by simpa using hx);exact⟨_,cu X G a,a,λbase mB uv=>⟨_,_,_,_,VO mB uv a q,PySem.F.excBase_ValueError⟩⟩
end
end M
namespace M
open PySem L2
variable{g g':G}{i n k a b lo p:Nat}{o o':O}{P:List Nat}{Q:KD}{E:KX}{N:Ends}{ms ns:List Int}{l:List D}{m:Nat->List Int}{α:Type}{r f v:Int}{c:a8}{x:Str}{kvs:List (Key×D)}{cs:List a8}{w:RW}
set_option hygiene false
local macro_rules|`(tactic|walk_at"w1")=>`(tactic|with_reducible first|refine wL ?_|refine uX ?_|refine uY ?_|refine NS ?_|refine Qx ?_|refine NV ?_|refine EC ?_|refine xu ?_|refine Bi ?_|refine F1 ?_|refine xw ?_|(refine w_var (d:=?_) ?_ ?_;rotate_left;·with_unfolding_all rfl)|refine w_lit ?_|refine qw ?_|refine rL ?_|refine Ej ?_|refine Qy ?_|refine Yq ?_|refine w_and ?_|refine w_or ?_|refine w_not ?_|refine w_ite ?_|refine wK ?_|refine xy ?_|refine vw ?_|refine wy ?_|refine N3 ?_|refine Qz ?_|refine NT ?_|refine QA ?_|refine wz ?_|refine Bj ?_|refine LW ?_|refine LY ?_|refine NQ ?_|refine Rh ?_|refine Rg ?_|refine Rf ?_|refine Rc ?_|refine Md ?_|refine Hx ?_|refine Mc ?_|refine Mn ?_|refine Me ?_|refine Mf ?_|refine Mh ?_|refine Mg ?_|refine Mj ?_|refine Ml ?_|refine Mi ?_|refine qt ?_|refine DM ?_|refine DL ?_|refine DJ ?_|refine DK ?_|refine Mm ?_|refine LR ?_|refine Z8 ?_|refine Oo ?_|refine jT ?_|refine Q3 ?_|refine AE ?_|refine DW ?_|refine MO ?_|refine xH ?_|refine xF ?_|refine xG ?_|refine Cb ?_|refine MV ?_|refine BO ?_)
local macro_rules|`(tactic|walk_at"w2")=>`(tactic|repeat(with_reducible first|walk_at "w1"|refine wq (by simp) ?_|refine wo (by simp) ?_|refine k7 (a7 (by assumption)) (by with_unfolding_all rfl) ?_|refine uV (a7 (by assumption)) ?_|refine wb (by unfold V0;decide) ?_))
local macro_rules|`(tactic|walk_at"w3")=>`(tactic|repeat(with_reducible first|walk_at "w1"|refine wq (by simp) ?_|refine wo (by simp) ?_|refine k7 (a7 (by assumption)) (by with_unfolding_all rfl) ?_|refine uV (a7 (by assumption)) ?_|refine wb (by unfold V0;decide) ?_|refine And.intro (show List.length _ <= 1000 from by simp) ?_|refine Y8 (by with_unfolding_all rfl) ?_|refine x8 ?_|refine B9 (by with_unfolding_all rfl) ?_))
local macro_rules|`(tactic|walk_at"")=>`(tactic|repeat(with_reducible first|walk_at "w1"|refine Yr ?_|refine NU ?_|refine zW ?_|refine Mo ?_|refine BQ ?_|refine BP ?_|refine max2 ?_|refine min2 ?_|refine MC ?_|refine Q5 ?_|refine KJ ?_|refine Dn ?_|refine wq (by simp) ?_|refine wo (by simp) ?_|refine k7 (a7 (by assumption)) (by with_unfolding_all rfl) ?_|refine uV (a7 (by assumption)) ?_|refine wb (by unfold V0;decide) ?_|refine And.intro (show List.length _ <= 1000 from by simp) ?_|refine Y8 (by with_unfolding_all rfl) ?_|refine x8 ?_|refine B9 (by with_unfolding_all rfl) ?_|refine And.intro (W9 (by assumption)) ?_|refine And.intro (OM (by assumption)) ?_|refine And.intro (RB (by assumption)) ?_|refine P6 (by decide) ?_|refine NY (by decide) (by decide) ?_|refine Ct ?_))
set_option hygiene true
abbrev ku(a:ME):ME:=.cons a .nil
abbrev vt(a b:ME):ME:=.cons a (.cons b .nil)
abbrev si(a b c:ME):ME:=.cons a (.cons b (.cons c .nil))
abbrev sj(a b c d:ME):ME:=.cons a (.cons b (.cons c (.cons d .nil)))
abbrev nh(a b c d e:ME):ME:=.cons a (.cons b (.cons c (.cons d (.cons e .nil))))
abbrev BG(a b c d e f:ME):ME:=.cons a (.cons b (.cons c (.cons d (.cons e (.cons f .nil)))))
abbrev Iy(a b c d e f g:ME):ME:=.cons a (.cons b (.cons c (.cons d (.cons e (.cons f (.cons g .nil))))))
abbrev iS(f:Nat)(a:ME):ME:=.call f (.cons a .nil)
abbrev dB(f:Nat)(a b:ME):ME:=.call f (.cons a (.cons b .nil))
abbrev kF(f:Nat)(a b c:ME):ME:=.call f (.cons a (.cons b (.cons c .nil)))
abbrev Jc(f:Nat)(a b c d:ME):ME:=.call f (.cons a (.cons b (.cons c (.cons d .nil))))
abbrev dJ(o:PySem.CmpOp)(a b:ME):ME:=.fh (.prim (.cmp o) (.cons a (.cons b .nil)))
abbrev eW(a:ME)(b c:MS):MS:=.seq (.ifs a b .pass) c
abbrev nX(t:MT)(a:ME)(b c:MS):MS:=.seq (.fE t a b) c
abbrev cN(a b:ME):ME:=.prim .ix (.cons a (.cons b .nil))
abbrev aP(a:Int):ME:=.lit (.int a)
abbrev iP(a:PySem.Str):ME:=.lit (.str a)
abbrev dX(p:Pr)(a:ME):ME:=.prim p (.cons a .nil)
abbrev bI(p:Pr)(a b:ME):ME:=.prim p (.cons a (.cons b .nil))
abbrev dj(a:ME):MS:=.seq (.ret a) .pass
abbrev fo(a:MS):MS:=.seq a .pass
abbrev pY(a b:MS):MS:=.seq a b
abbrev dy(n:Nat)(a:ME)(b:MS):MS:=.seq (.set n a) b
abbrev aM:ME:=.var 0
abbrev bh:ME:=.var 1
abbrev iw:ME:=.var 10
abbrev kd:ME:=.var 12
abbrev tE:ME:=.var 13
abbrev oy:ME:=.var 15
abbrev tD:ME:=.var 16
abbrev bL:ME:=.var 2
abbrev dh:ME:=.var 3
abbrev dg:ME:=.var 4
abbrev eJ:ME:=.var 5
abbrev fC:ME:=.var 6
abbrev fY:ME:=.var 7
abbrev jf:ME:=.var 8
abbrev tw:ME:=.var 9
abbrev vo(a:ME)(b:MS):MS:=.seq (.expr a) b
def p6:bj:=⟨2,5,(eW (.dI (dJ .Lt (cN aM (aP 2)) bh) (dJ .Lt (cN aM (aP 1)) (dX .len (cN aM (aP 0))))) (dy 2 (cN (cN aM (aP 0)) (cN aM (aP 1))) (pY (.eM aM (aP 1) (bI (.bin .Add) (cN aM (aP 1)) (aP 1))) (pY (.eM aM (aP 2) (aP 0)) (fo (.ifs (dJ .GtE bL (bI (.bin .Pow) (aP 10) (aP 18))) (fo (.eM aM (aP 2) bL)) (fo (.eM aM (aP 3) (bI (.bin .Mod) (bI (.bin .Add) (bI (.bin .Add) (bI (.bin .Mult) (cN aM (aP 3)) (aP 48271)) (bI (.bin .Mult) (bI (.bin .Mod) bL (aP 2147483629)) (aP 69621))) (aP 12345)) (aP 2147483647))))))))) (eW (dJ .GtE (cN aM (aP 2)) bh) (dy 3 (bI (.bin .Mod) (cN aM (aP 2)) bh) (pY (.eM aM (aP 2) (bI (.bin .FloorDiv) (cN aM (aP 2)) bh)) (dj dh))) (dy 4 (cN aM (aP 3)) (pY (.eM aM (aP 3) (bI (.bin .Mod) (bI (.bin .Add) (bI (.bin .Add) (bI (.bin .Mult) (bI (.bin .Mod) (bI (.bin .Mult) dg dg) (aP 2147483629)) (aP 5)) (bI (.bin .Mult) dg (aP 16811))) (aP 2531011)) (aP 2147483647))) (dj (bI (.bin .Mod) (bI (.bin .Add) (bI (.bin .FloorDiv) (cN aM (aP 3)) (aP 59)) (bI (.bin .Mult) (bI (.bin .Mod) (cN aM (aP 3)) (aP 8191)) (aP 31))) bh))))))⟩
def T7:bj:=⟨1,2,(dy 1 (dB 4 aM (bI (.bin .Pow) (aP 10) (aP 9))) (eW (dJ .Eq (dB 4 aM (aP 2)) (aP 0)) (fo (.set 1 (bI (.bin .Add) bh (bI (.bin .Pow) (aP 10) (aP 25))))) (eW (dJ .Eq (dB 4 aM (aP 2)) (aP 0)) (dj (bI (.bin .Sub) (dX (.un .USub) (aP 1)) bh)) (dj bh))))⟩
structure d9(g:G)(d:Nat):Prop where
 ex:∃(s:Nat) (p b r:Int) (xs:List Int),g[d]?=some (.lst [.ref s,.int p,.int b,.int r])/\g[s]?=some (.lst (xs.map .int))/\s<d/\0<=p/\0<=b/\0<=r/\r<2147483647
structure Gr(d:Nat)(g g':G):Prop where
 len:g.length<=g'.length
 old:∀i,i≠d->i<g.length->g'[i]?=g[i]?
theorem Gr.refl(d:Nat)(g:G):Gr d g g:=⟨aj _,λ_ _ _=>rfl⟩
theorem Gr.trans{d:Nat}{g g1 g2:G}(a:Gr d g g1)(b:Gr d g1 g2):Gr d g g2:=⟨aE a.len b.len,λi h1 h2=>(b.old i h1 (ax h2 a.len)).trans (a.old i h1 h2)⟩
theorem Gr.set(d:Nat)(g:G)(o:O):Gr d g (g.set d o):=⟨by simp,λi h1 h2=>au (bW h1)⟩
theorem Gr.snoc(d:Nat)(g:G)(o:O):Gr d g (g++[o]):=⟨by simp,λi h1 h2=>aA h2⟩
theorem Gr.at{d:Nat}(h:Gr d g g')(hi:i≠d)(e:g[i]?=some o):g'[i]?=some o:=(h.old i hi (ay.mp e).1).trans e
theorem j9(h:g[i]?=some o):i<g.length:=(ay.mp h).1
theorem d9.lt{d:Nat}(h:d9 g d):d<g.length:=by
 obtain⟨_,_,_,_,_,e,_⟩:=h.ex;exact j9 e
theorem d9.snoc{d:Nat}(h:d9 g d)(o:O):d9 (g++[o]) d:=by
 obtain⟨s,p,b,r,xs,e1,e2,q⟩:=h.ex;exact⟨s,p,b,r,xs,by rw[aA (j9 e1)];exact e1,by rw[aA (j9 e2)];exact e2,q⟩
def d8:MS->MS
 |.seq _ b=>b
 |x=>x
theorem zJ{i j:Int}(h1:-(2 ^ 64)<i)(h2:i<2 ^ 64):qj i j:=.inl ⟨h1,h2⟩
theorem R9{i j:Int}(h1:-(2 ^ 64)<j)(h2:j<2 ^ 64):qj i j:=.inr ⟨h1,h2⟩
theorem VY{P:eT}{d:Nat}{n:Int}{c2:Option D}(hN:N.rt=Q)(D0:d9 g d)(hn:0<n)(oB:n<1073741824)(h:∀r g',0<=r->r<n->d9 g' d->Gr d g g'->Q (.int r) g'):wpS P (d8 p6.body) N [some (.ref d),some (.int n),c2,none,none] g E:=by
 obtain⟨s,p,b,r,xs,e1,e2,nH,hp,hb,hr,vI⟩:=D0.ex;have et:=j9 e1;subst hN;dsimp[p6,d8];walk_at "w2";refine if2 (λc=>?_) (λc=>?_)
 ·walk_at "w2";refine P6 hn ?_;walk_at "w2";refine wa ⟨hn,oB⟩ ?_;walk_at "w2";refine O5 e1 (by rfl) ?_;walk_at "w2";refine h _ _ (cR _ ()) (cq _ hn) ⟨s,p,b / n,r,xs,?_,?_,nH,hp,Int.ediv_nonneg hb (),hr,vI⟩ (Gr.set d g _)
  ·rw[aH et];rfl
  ·rw[au (bu nH)];exact e2
 ·walk_at "w2";have Cc:-(2 ^ 64)<r/\r<2 ^ 64:=⟨by omega,by omega⟩
  refine M7 (zJ Cc.1 Cc.2) ?_;refine P6 ∅ ?_;refine M7 (R9 ∅ ∅) ?_;walk_at "w2";refine M7 (R9 ∅ ∅) ?_;walk_at "w2";refine P6 ∅ ?_;walk_at "w2";refine O5 e1 (by rfl) ?_;generalize vJ:(r*r % 2147483629*5+r*16811+2531011) % 2147483647=r';have q0:0<=r':=by rw[<- vJ];exact cR _ ∅
  have q1:r'<2147483647:=by rw[<- vJ];exact cq _ ∅
  have Lp:(g.set d (.lst [.ref s,.int p,.int b,.int r']))[d]?=some (.lst [.ref s,.int p,.int b,.int r']):=aH et;show wpS P _ _ _ (g.set d (.lst [.ref s,.int p,.int b,.int r'])) E;walk_at "w2";refine wa ⟨by decide,by decide⟩ ?_;walk_at "w2";refine P6 ∅ ?_;refine M7 (R9 ∅ ∅) ?_;walk_at "w2";refine P6 hn ?_;refine h _ _ (cR _ ()) (cq _ hn) ⟨s,p,b,r',xs,Lp,?_,nH,hp,hb,q0,q1⟩ (Gr.set d g _);rw[au (bu nH)];exact e2
theorem c7{T:Nat->Option bj}(hT:T 4=some p6){d:Nat}{n:Int}(D0:d9 g d)(hn:0<n)(oB:n<1073741824)(h:∀r g',0<=r->r<n->d9 g' d->Gr d g g'->Q (.int r) g'):b9 T (k+1) 4 [.ref d,.int n] g Q E:=by
 obtain⟨s,p,b,r,xs,e1,e2,nH,hp,hb,hr,vI⟩:=D0.ex;have et:=j9 e1;refine call_of hT rfl ?_;have tail:∀(g':G) (c2:Option D),d9 g' d->Gr d g g'->wpS (b9 T k) (d8 p6.body) ⟨λ_ g'=>Q .bq g',Q,λ_ _=>False,λ_ _=>False⟩ [some (.ref d),some (.int n),c2,none,none] g' E :=
  λg' c2 D1 gr=>VY rfl D1 hn oB λr g2 a b c e=>h r g2 a b c (gr.trans e)
 dsimp[p6,d4,List.replicate];walk_at "w2";refine if2 (λc=>?_) (λc=>?_)
 ·walk_at "w2";refine if2 (λc'=>?_) (λc'=>?_)
  ·walk_at "w2";have kI:p.toNat<xs.length:=by
    rw[ai] at c';omega
   have ea:fU (xs.map D.int) p=some (.int xs[p.toNat]):=by
    have:=t6 (xs:=xs.map D.int) (by rw[aq,ak kI];rfl)
    rwa [show((p.toNat:Nat):Int)=p by omega] at this
   refine k7 (a7 e2) ea ?_;generalize xs[p.toNat]=cell;walk_at "w2";refine O5 e1 (by rfl) ?_;have f1:(g.set d (.lst [.ref s,.int (p+1),.int b,.int r]))[d]?=some (.lst [.ref s,.int (p+1),.int b,.int r]):=aH et;walk_at "w2";refine O5 f1 (by rfl) ?_;rw[rY];have f2:(g.set d (.lst [.ref s,.int (p+1),.int 0,.int r]))[d]?=some (.lst [.ref s,.int (p+1),.int 0,.int r]):=aH et;show wpS (b9 T k) _ _ _ (g.set d (.lst [.ref s,.int (p+1),.int 0,.int r])) E;walk_at "w2";refine if2 (λc2=>?_) (λc2=>?_)
   ·walk_at "w2";refine O5 f2 (by rfl) ?_;rw[rY];refine tail _ _ ⟨s,p+1,cell,r,xs,aH et,by rw[au (bu nH)];exact e2,nH,by omega,?_,hr,vI⟩ (Gr.set d g _);have Dj:(0:Int)<=10 ^ (18:Int).toNat:=by decide
    omega
   ·walk_at "w2";refine M7 (R9 ∅ ∅) ?_;walk_at "w2";refine P6 ∅ ?_;refine M7 (R9 ∅ ∅) ?_;walk_at "w2";refine P6 ∅ ?_;walk_at "w2";refine O5 f2 (by rfl) ?_;rw[rY];exact tail _ _ ⟨s,p+1,0,_,xs,aH et,by rw[au (bu nH)];exact e2,nH,by omega,by decide,cR _ ∅,cq _ ∅⟩ (Gr.set d g _)
  ·exact tail _ _ D0 (Gr.refl _ _)
 ·exact tail _ _ D0 (Gr.refl _ _)
theorem zL{T:Nat->Option bj}(hT:T 4=some p6)(Kk:T 5=some T7){d:Nat}(D0:d9 g d)(h:∀r g',d9 g' d->Gr d g g'->Q (.int r) g'):b9 T (k+2) 5 [.ref d] g Q E:=by
 refine call_of Kk rfl ?_;dsimp[T7,d4,List.replicate];walk_at "w2";refine c7 hT D0 ∅ ∅ λr1 g1 _ _ D1 G1=>?_;walk_at "w2";refine c7 hT D1 ∅ ∅ λr2 g2 _ _ D2 G2=>?_;walk_at "w2";have Ic:=G1.trans G2;have last:∀(x:Int),wpS (b9 T (k+1)) (d8 (d8 T7.body)) ⟨λ_ g'=>Q .bq g',Q,λ_ _=>False,λ_ _=>False⟩ [some (.ref d),some (.int x)] g2 E:=λx=>by
  dsimp[T7,d8];walk_at "w2";refine c7 hT D2 ∅ ∅ λr3 g3 _ _ D3 G3=>?_;walk_at "w2";refine if2 (λc=>?_) (λc=>?_)
  ·walk_at "w2";exact h _ _ D3 (Ic.trans G3)
  ·walk_at "w2";exact h _ _ D3 (Ic.trans G3)
 refine if2 (λc=>?_) (λc=>?_)
 ·refine wL ?_;refine uY ?_;refine qw ?_;walk_at "w1";refine qw ?_;walk_at "w1";walk_at "w1";refine wb (by unfold V0;decide) ?_;walk_at "w1";exact last _
 ·exact last _
def X0:bj:=⟨1,1,(dj (.dI (bI .isin aM (.lit (.ty "int"))) (.dQ (bI .isin aM (.lit (.ty "bool"))))))⟩
def P9:bj:=⟨3,3,(dj (.dI (iS 38 aM) (.chain .LtE .LtE bh aM bL)))⟩
structure NF(T:Nat->Option bj):Prop where
 nf:T 1=some P9
 is:T 38=some X0
def x3:bj:=⟨1,3,(dy 1 (aP 0) (nX (.one 2) (.gL aM) (eW (.dQ (.fh (kF 1 bL bh (aP 7)))) (dj (.lit (.bl false))) (fo (.set 1 (bI (.bin .Add) bL (aP 1))))) (dj (.lit (.bl true)))))⟩
def wk:bj:=⟨1,1,(dj (.prim .lst (sj (dX .list (bI (.kE false true) aM (aP 63))) (aP 0) (aP 0) (aP 29))))⟩
def uQ:bj:=⟨1,1,(dj (.dI (bI .isin aM (.lit (.ty "int"))) (.dQ (bI .isin aM (.lit (.ty "bool"))))))⟩
def A6:bj:=⟨2,2,(eW (dJ .Is bh (.lit .bq)) (dj (bI (.cmp .Is) aM (.lit .bq))) (eW (.fh (bI .isin bh (.lit (.ty "bool")))) (dj (.dI (bI .isin aM (.lit (.ty "bool"))) (bI (.cmp .Eq) aM bh))) (eW (.fh (bI .isin bh (.lit (.ty "int")))) (dj (.dI (iS 6 aM) (bI (.cmp .Eq) aM bh))) (eW (.fh (bI .isin bh (.lit (.ty "str")))) (dj (.dI (bI .isin aM (.lit (.ty "str"))) (bI (.cmp .Eq) aM bh))) (eW (.jm (dJ .NotEq (bI .isin bh (.lit (.ty "tuple"))) (bI .isin aM (.lit (.ty "tuple")))) (dJ .NotEq (bI .isin bh (.lit (.ty "list"))) (bI .isin aM (.lit (.ty "list"))))) (dj (.lit (.bl false))) (eW (dJ .NotEq (dX .len aM) (dX .len bh)) (dj (.lit (.bl false))) (dj (dX .all (.comp [1,0] 4 (.one 3) (.eK (dX .len bh)) .no (dB 7 (cN bh dh) (cN aM dh)))))))))))⟩
def K0:bj:=⟨1,1,(dj (bI (.cmp .Eq) (dX .list aM) (.comp [0] 3 (.one 2) (.eK (aP 8)) (dJ .In bL aM) bL)))⟩
theorem K8{g:G}{n:Nat}:∀ms:List Int,(ms.map D.int).mapM (rd g n)=some (ms.map PyData.int)
 |[]=>rfl
 |m::r=>by
  rw[aZ,mW,K8 r];cases n<;>rfl
theorem lay_ints:∀ms:List Int,PyData.canLayAll0 (ms.map PyData.int)=true
 |[]=>by rfl
 |m::r=>by simp[PyData.canLayAll0,PyData.canLay0,lay_ints r]
theorem Q4:∀ms ns:List Int,PyData.eqvAll (ms.map PyData.int) (ns.map PyData.int)=decide (ms=ns)
 |[],[]=>by rfl
 |[],_::_=>by rfl
 |_::_,[]=>by rfl
 |m::r,n::q=>by
  simp only[List.map_cons,PyData.eqvAll,PyData.eqv,Q4 r q];by_cases h:m=n
  ·subst h;simp
  ·simp[h]
theorem P4{i:Int}{k:Bool->Prop}(h:k (ms.any λm=>m==i)):tJ g (.int i) (.tup (ms.map .int)) k:=by
 refine⟨_,.inr ⟨_,_,_,rfl,K8 ms,rfl,lay_ints ms,by rfl,rfl⟩,?_⟩;rw[List.any_map];exact h
theorem Vn{k:Bool->Prop}(ha:c8 g a=some (ms.map .int))(hb:c8 g b=some (ns.map .int))(h:k (decide (ms=ns))):qb g (.ref a) (.ref b) k:=by
 refine⟨_,.inr (.inr (.inr ⟨.list (ms.map .int),.list (ns.map .int),?_,?_,?_,?_,rfl⟩)),?_⟩
 ·simp only[rd];rw[ha];dsimp only;rw[K8];rfl
 ·simp only[rd];rw[hb];dsimp only;rw[K8];rfl
 ·simp[PyData.canLay0,lay_ints]
 ·simp[PyData.canLay0,lay_ints]
 ·simp only[PyData.eqv,Q4];exact h
section
variable{T:Nat->Option bj}{d:Nat}
theorem X7(h1:NF T){i:Int}(h:Q (.bl true) g):b9 T (k+1) 38 [.int i] g Q E:=by
 refine call_of h1.is rfl ?_;dsimp[X0,d4,List.replicate];walk_at "w2";refine fy (b:=true) ∅ rfl ?_;walk_at "w2";refine fy ∅ rfl ?_;walk_at "w2";exact h
theorem B5(h1:NF T){i l m:Int}(h:Q (.bl (decide (l<=i)&&decide (i<=m))) g):b9 T (k+2) 1 [.int i,.int l,.int m] g Q E:=by
 refine call_of h1.nf rfl ?_;dsimp[P9,d4,List.replicate];walk_at "w2";refine X7 h1 ?_;walk_at "w2";refine if2 (λc=>?_) (λc=>?_)
 ·rw[aQ c] at h;walk_at "w2";exact h
 ·rw[aR c] at h;exact h
def gm:Int->List Int->Bool
 |_,[]=>true
 |l,x::r=>(decide (l<=x)&&decide (x<=7))&&gm (x+1) r
theorem V1(h1:NF T)(h2:T 2=some x3)(h:Q (.bl (gm 0 ms)) g):b9 T (k+3) 2 [.tup (ms.map .int)] g Q E:=by
 refine call_of h2 rfl ?_;refine L7 (a9 T _) (vF (a9 T _) ?_);walk_at "w2";refine⟨_,rfl,_,λi Z g'=>g'=g/\∃(l:Int) (z:Option D),Z=[some (.tup (ms.map .int)),some (.int l),z]/\gm 0 ms=gm l (ms.drop i),λ_ _ _ _=>t8,⟨rfl,0,none,rfl,rfl⟩,λi x Z g' hx p=>?_,λZ g' p=>?_⟩
 ·obtain⟨rfl,l,z,rfl,e⟩:=p;rw[aq] at hx;cases em:ms[i]? with
  |none=>rw[em] at hx;cases hx
  |some m =>
   rw[em] at hx;cases hx;have hi:=(ay.mp em).1;have ed:ms.drop i=m::ms.drop (i+1):=by
    rw[dS hi]
    congr 1
    exact(ay.mp em).2
   rw[ed] at e;simp only[gm] at e;show wpS _ _ _ _ _ _;walk_at "w2";refine B5 h1 ?_;walk_at "w2";cases hc:(decide (l<=m)&&decide (m<=7)) with
   |true =>
    rw[hc,fW] at e;walk_at "w2";exact⟨rfl,m+1,some (.int m),rfl,e⟩
   |false =>
    rw[hc,iL] at e;rw[e] at h;exact h
 ·obtain⟨rfl,l,z,rfl,e⟩:=p;rw[dt (by simp)] at e;rw[e] at h;exact h
theorem Xx(h3:T 3=some wk)(hg:g[a]?=some (.nY (ns.map .int)))(h:∀d g',d9 g' d->g.length<=d->(∀i,i<g.length->g'[i]?=g[i]?)->Q (.ref d) g'):b9 T (k+1) 3 [.ref a] g Q E:=by
 refine call_of h3 rfl ?_;dsimp[wk,d4,List.replicate];walk_at "w2";refine wI (VC hg) ?_;refine AY (l:=cut (ns.map D.int) none (some 63)) (a7 (by simp)) ?_;walk_at "w2";have ec:cut (ns.map D.int) none (some 63)=(cut ns none (some 63)).map D.int:=by
  unfold cut;simp[List.map_take,List.map_drop]
 refine h _ _ ⟨g.length+1,0,0,29,cut ns none (some 63),?_,?_,?_,by decide,by decide,by decide,by decide⟩ (by simp) (λi hi=>?_)
 ·simp
 ·rw[<- ec];simp
 ·simp
 ·simp[List.getElem?_append,hi,Nat.lt_of_lt_of_le hi (by omega:g.length<=g.length+1),Nat.lt_of_lt_of_le hi (by omega:g.length<=g.length+1+1)]
theorem Gm(h8:T 8=some K0)(h:∀g',Gr d g g'->(d9 g d->d9 g' d)->Q (.bl (decide (ms=((List.range 8).map λ(n:Nat)=>(n:Int)).filter λs=>ms.any λm=>m==s))) g'):b9 T (k+1) 8 [.tup (ms.map .int)] g Q E:=by
 refine call_of h8 rfl ?_;dsimp[K0,d4,List.replicate];walk_at "w2";refine Gg (a9 T _) ?_;walk_at "w2";refine⟨8,rfl,by decide,λi ys Z g'=>g'=g++[.lst (ms.map .int)]/\ys.length<=i/\(∃z w,Z=[some (.tup (ms.map .int)),z,w])/\ys=((((List.range i).map λ(n:Nat)=>(n:Int)).filter λs=>ms.any λm=>m==s).map D.int),⟨rfl,by simp,⟨none,none,rfl⟩,rfl⟩,λi ys Z g' p=>p.2.1,λi ys Z g' hi p=>?_,λys Z g' p=>?_⟩
 ·obtain⟨rfl,hl,⟨z,w,rfl⟩,e⟩:=p;show dG _ _ _ _ _ _;walk_at "w2";refine AD (P4 ?_);walk_at "w2";have er:(List.range (i+1)).map (λ(n:Nat)=>(n:Int))=(List.range i).map (λ(n:Nat)=>(n:Int))++[(i:Int)]:=by rw[ee];simp
  cases hc:(ms.any λm=>m==(i:Int)) with
  |true =>
   refine jT ?_;walk_at "w2";refine⟨rfl,by simp;omega,⟨_,_,rfl⟩,?_⟩;rw[er,bx,bc,<- e];simp[hc]
  |false =>
   refine Q3 ?_;refine⟨rfl,by omega,⟨_,_,rfl⟩,?_⟩;rw[er,bx,bc,<- e];simp[hc]
 ·obtain⟨rfl,hl,_,e⟩:=p;rw[e];refine wQ (Vn (ms:=ms) (a7 (by simp)) (a7 (by simp;rfl)) ?_);exact h _ ((Gr.snoc d g _).trans (Gr.snoc d _ _)) λD0=>(D0.snoc _).snoc _
end
theorem Ae{β:Type}(f:α->β)(l:List α)(lo hi:Option Int):cut (l.map f) lo hi=(cut l lo hi).map f:=by
 unfold cut;simp[List.map_take,List.map_drop]
theorem Hf(l:List α)(lo hi:Option Int):(cut l lo hi).length<=l.length:=by
 unfold cut;rw[bE,ZD];omega
theorem AW:∀{ms:List Int} {l:Int},ms.Pairwise (· < ·)->(∀m∈ms,l<=m/\m<=7)->gm l ms=true
 |[],_,_,_=>rfl
 |m::r,l,hp,h=>by
  obtain⟨h1,h2⟩:=bO.mp hp;have hm:=h m (by simp);simp only[gm];rw[aQ hm.1,aQ hm.2,AW h2 λx hx=>⟨by have:=h1 x hx;omega,(h x (by simp[hx])).2⟩]
  rfl
theorem n4{l:List α}(h0:0<=r)(h1:r<l.length):∃v,fU l r=some v/\v∈l:=by
 have hi:r.toNat<l.length:=by omega
 refine⟨l[r.toNat],?_,cF hi⟩;have:=t6 (ak hi)
 rwa [show((r.toNat:Nat):Int)=r by omega] at this
section
variable{T:Nat->Option bj}
theorem Hr(h7:T 7=some A6){a b:Bool}(h:Q (.bl (a==b)) g):b9 T (k+1) 7 [.bl a,.bl b] g Q E:=by
 refine call_of h7 rfl ?_;dsimp[A6,d4,List.replicate];walk_at "w2";walk_at "w2";refine fy (c:="bool") (b:=true) ∅ rfl ?_;walk_at "w2";refine fy (c:="bool") (b:=true) ∅ rfl ?_;walk_at "w2";exact h
end
theorem O9(ms:List Int):gm 0 ms=decide (ms=((List.range 8).map λ(n:Nat)=>(n:Int)).filter λs=>ms.any λm=>m==s):=by
 rw[br,bg];constructor
 ·intro h;have key:∀(ms:List Int) (l:Int),gm l ms=true->ms.Pairwise (· < ·)/\∀m∈ms,l<=m/\m<=7:=by
   intro ms
   induction ms with
   |nil=>intro l _;exact⟨List.Pairwise.nil,by simp⟩
   |cons m r ih =>
    intro l h;simp only[gm,Bool.and_eq_true,decide_eq_true_eq] at h;obtain⟨⟨h1,h2⟩,h3⟩:=h;obtain⟨p1,p2⟩:=ih (m+1) h3;refine⟨bO.mpr ⟨λx hx=>by have:=p2 x hx;omega,p1⟩,λx hx=>?_⟩;rcases av.mp hx with z|z
    ·subst z;exact⟨h1,h2⟩
    ·have:=p2 x z;omega
  obtain⟨p1,p2⟩:=key ms 0 h;have uniq:∀(xs ys:List Int),xs.Pairwise (· < ·)->ys.Pairwise (· < ·)->(∀z,z∈xs↔z∈ys)->xs=ys:=by
   intro xs
   induction xs with
   |nil =>
    intro ys _ _ h;cases ys with
    |nil=>rfl
    |cons y r=>exact absurd ((h y).mpr (by simp)) (by simp)
   |cons x xs ih =>
    intro ys hx hy h;cases ys with
    |nil=>exact absurd ((h x).mp (by simp)) (by simp)
    |cons y ys =>
     obtain⟨a1,a2⟩:=bO.mp hx;obtain⟨b1,b2⟩:=bO.mp hy;have KW:x=y:=by
      rcases av.mp ((h x).mp (by simp)) with z|z
      ·exact z
      ·rcases av.mp ((h y).mpr (by simp)) with w|w
       ·exact w.symm
       ·have:=b1 x z;have:=a1 y w;omega
     subst KW
     congr 1
     refine ih ys a2 b2 λz=>⟨λhz=>?_,λhz=>?_⟩
     ·rcases av.mp ((h z).mp (by simp[hz])) with w|w
      ·subst w;exact absurd (a1 z hz) ()
      ·exact w
     ·rcases av.mp ((h z).mpr (by simp[hz])) with w|w
      ·subst w;exact absurd (b1 z hz) ()
      ·exact w
  refine uniq _ _ p1 ?_ λz=>?_
  ·refine iJ _ ?_
   decide
  ·simp only[List.mem_filter,List.any_eq_true,beq_iff_eq,exists_eq_right,List.mem_map,List.mem_range];refine⟨λhz=>⟨⟨z.toNat,by have:=p2 z hz;omega,by have:=p2 z hz;omega⟩,hz⟩,λhz=>hz.2⟩
 ·intro h;rw[h];refine AW ?_ λm hm=>?_
  ·refine iJ _ ?_
   decide
  ·obtain⟨hm,_⟩:=cA.mp hm;obtain⟨n,hn,rfl⟩:=az.mp hm;have:=dN.mp hn;omega
def o6:bj:=⟨1,8,(pY (.ni (.many [1,2,3,4,5]) aM) (dy 6 (.dI (kF 1 bh (aP 1) (aP 99)) (iS 2 bL)) (dy 7 (.dI (kF 1 dh (aP 1) (aP 99)) (iS 2 dg)) (dj (.dI fC (.dI fY (kF 1 eJ (aP 0) (aP 9999))))))))⟩
def E8:bj:=⟨1,1,(eW (.jm (.dQ (.fh (.chain .LtE .LtE (aP 1) (cN aM (aP 0)) (aP 99)))) (.jm (.dQ (.fh (.chain .LtE .LtE (aP 1) (cN aM (aP 2)) (aP 99)))) (.dQ (.fh (.chain .LtE .LtE (aP 0) (cN aM (aP 4)) (aP 9999)))))) (dj (.lit (.bl false))) (dj (.dI (iS 8 (cN aM (aP 1))) (iS 8 (cN aM (aP 3))))))⟩
def K9:bj:=⟨2,10,(dy 2 (dB 4 aM (aP 12)) (pY (.ni (.many [3,4,5,6,7]) bh) (dy 8 (cN (.prim .lst (BG (bI .tup (aP 1) (aP 0)) (bI .tup (aP 3) (aP 3)) (dX .tup (aP 8)) (bI .tup (dX (.un .USub) (aP 1)) (aP 2)) (bI .tup (aP 0) (aP 9)) (bI .tup (aP 7) (bI (.bin .Pow) (aP 10) (aP 20))))) (dB 4 aM (aP 6))) (dy 9 (cN (.prim .lst (sj (aP 0) (aP 100) (dX (.un .USub) (aP 1)) (iS 5 aM))) (dB 4 aM (aP 4))) (eW (dJ .Eq bL (aP 0)) (dj (.prim .tup (nh tw dg eJ fC fY))) (eW (dJ .Eq bL (aP 1)) (dj (.prim .tup (nh dh jf eJ fC fY))) (eW (dJ .Eq bL (aP 2)) (dj (.prim .tup (nh dh dg tw fC fY))) (eW (dJ .Eq bL (aP 3)) (dj (.prim .tup (nh dh dg eJ jf fY))) (eW (dJ .Eq bL (aP 4)) (dj (.prim .tup (nh dh dg eJ fC (cN (.prim .lst (sj (dX (.un .USub) (aP 1)) (aP 10000) (aP 9999) (iS 5 aM))) (dB 4 aM (aP 4)))))) (dj bh))))))))))⟩
structure a8 where
 lo:Int
 lm:List Int
 up:Int
 um:List Int
 yr:Int
def a8.d(c:a8):D:=.tup [.int c.lo,.tup (c.lm.map .int),.int c.up,.tup (c.um.map .int),.int c.yr]
def j4(c:a8):Bool:=((decide (1<=c.lo)&&decide (c.lo<=99))&&gm 0 c.lm)&&(((decide (1<=c.up)&&decide (c.up<=99))&&gm 0 c.um)&&(decide (0<=c.yr)&&decide (c.yr<=9999)))
section
variable{T:Nat->Option bj}{d:Nat}
theorem SS(h1:NF T)(h2:T 2=some x3)(nW:T 12=some o6)(h:Q (.bl (j4 c)) g):b9 T (k+4) 12 [c.d] g Q E:=by
 refine call_of nW rfl ?_;dsimp[o6,d4,List.replicate,a8.d];walk_at "w3";refine B5 h1 ?_;have s1:∀b:Bool,b=((decide (1<=c.lo)&&decide (c.lo<=99))&&gm 0 c.lm)->wpS (b9 T (k+3)) (d8 (d8 o6.body)) ⟨λ_ g'=>Q .bq g',Q,λ_ _=>False,λ_ _=>False⟩ [some c.d,some (.int c.lo),some (.tup (c.lm.map .int)),some (.int c.up),some (.tup (c.um.map .int)),some (.int c.yr),some (.bl b),none] g E:=by
  intro b hb;dsimp[o6,d8];walk_at "w3";refine B5 h1 ?_;have s2:∀b':Bool,b'=((decide (1<=c.up)&&decide (c.up<=99))&&gm 0 c.um)->wpS (b9 T (k+3)) (d8 (d8 (d8 o6.body))) ⟨λ_ g'=>Q .bq g',Q,λ_ _=>False,λ_ _=>False⟩ [some c.d,some (.int c.lo),some (.tup (c.lm.map .int)),some (.int c.up),some (.tup (c.um.map .int)),some (.int c.yr),some (.bl b),some (.bl b')] g E:=by
   intro b' jH;dsimp[o6,d8];have e:j4 c=(b&&(b'&&(decide (0<=c.yr)&&decide (c.yr<=9999)))):=by unfold j4;rw[hb,jH]
   rw[e] at h;walk_at "w3";cases b
   ·exact Q3 h
   ·refine jT ?_;walk_at "w3";cases b'
    ·exact Q3 h
    ·refine jT ?_;walk_at "w3";exact B5 h1 h
  refine Z8 ?_;cases hc:(decide (1<=c.up)&&decide (c.up<=99)) with
  |false=>exact Q3 (s2 false (by rw[hc];rfl))
  |true =>
   refine jT ?_;walk_at "w1";walk_at "w1";walk_at "w1";walk_at "w1";exact V1 h1 h2 (s2 _ (by rw[hc];rfl))
 refine Z8 ?_;cases hc:(decide (1<=c.lo)&&decide (c.lo<=99)) with
 |false=>exact Q3 (s1 false (by rw[hc];rfl))
 |true =>
  refine jT ?_;walk_at "w1";walk_at "w1";walk_at "w1";walk_at "w1";exact V1 h1 h2 (s1 _ (by rw[hc];rfl))
theorem Wx(h8:T 8=some K0)(uq:T 13=some E8)(h:∀g',Gr d g g'->(d9 g d->d9 g' d)->Q (.bl (j4 c)) g'):b9 T (k+2) 13 [c.d] g Q E:=by
 refine call_of uq rfl ?_;have no:j4 c=false->Q (.bl false) g:=λe=>by
  have:=h g (Gr.refl _ _) id
  rwa [e] at this
 dsimp[E8,d4,List.replicate,a8.d];walk_at "w3";have fin:j4 c=(gm 0 c.lm&&gm 0 c.um)->wpS (b9 T (k+1)) (d8 E8.body) ⟨λ_ g'=>Q .bq g',Q,λ_ _=>False,λ_ _=>False⟩ [some c.d] g E:=λe=>by
  dsimp[E8,d8,a8.d];walk_at "w3";refine Gm h8 (d:=d) λg1 G1 D1=>?_;rw[<- O9];refine Z8 ?_;have h':=h;rw[e] at h';cases hl:gm 0 c.lm with
  |false =>
   rw[hl,iL] at h';exact Q3 (h' g1 G1 D1)
  |true =>
   rw[hl,fW] at h';refine jT ?_;walk_at "w3";refine Gm h8 (d:=d) λg2 G2 D2=>?_;rw[<- O9];exact h' g2 (G1.trans G2) λz=>D2 (D1 z)
 have out:j4 c=false->wpS (b9 T (k+1)) (.seq (.ret (.lit (.bl false))) .pass) ⟨λiM g1=>wpS (b9 T (k+1)) (d8 E8.body) ⟨λ_ g'=>Q .bq g',Q,λ_ _=>False,λ_ _=>False⟩ iM g1 E,Q,λ_ _=>False,λ_ _=>False⟩ [some c.d] g E:=λe=>by
  walk_at "w3";exact no e
 refine if2 (λc1=>?_) (λc1=>?_)
 ·walk_at "w3";cases c2:decide (c.lo<=99) with
  |false=>exact out (by unfold j4;rw[c2];simp)
  |true =>
   walk_at "w3";refine if2 (λc3=>?_) (λc3=>?_)
   ·walk_at "w3";cases c4:decide (c.up<=99) with
    |false=>exact out (by unfold j4;rw[c4];simp)
    |true =>
     walk_at "w3";refine if2 (λc5=>?_) (λc5=>?_)
     ·walk_at "w3";cases c6:decide (c.yr<=9999) with
      |false=>exact out (by unfold j4;rw[c6];simp)
      |true=>exact fin (by unfold j4;rw[aQ c1,c2,aQ c3,c4,aQ c5,c6];simp)
     ·walk_at "w3";exact no (by unfold j4;rw[aR c5];simp)
   ·walk_at "w3";exact no (by unfold j4;rw[aR c3];simp)
 ·walk_at "w3";exact no (by unfold j4;rw[aR c1];simp)
end
def N8:bj:=⟨2,5,(dy 2 (dX .list bh) (dy 3 (.prim .lst .nil) (nX (.one 4) (.eK (dX .len bh)) (fo (.expr (.eI .append dh (ku (.eI .pop bL (ku (dB 4 aM (dX .len bL)))))))) (dj dh))))⟩
theorem F'{α:Type}:∀{l:List α} {j:Nat} (h:j<l.length),(l[j]::l.eraseIdx j).Perm l
 |a::r,0,_=>by simp
 |a::r,j+1,h=>by
  simp only[List.getElem_cons_succ,List.eraseIdx_cons_succ];exact(List.Perm.swap _ _ _).trans ((F' (by simpa using h)).cons a)
theorem Gr.J6{d x:Nat}(h:Gr d g g')(hx:g.length<=x):Gr d g (g'.set x o):=⟨by simp[h.len],λi h1 h2=>by rw[au ()];exact h.old i h1 h2⟩
theorem d9.J6{d x:Nat}(h:d9 g d)(hx:d<x):d9 (g.set x o) d:=by
 obtain⟨s,p,b,r,xs,e1,e2,hs,q⟩:=h.ex;exact⟨s,p,b,r,xs,by rw[au ()];exact e1,by rw[au ()];exact e2,hs,q⟩
theorem b8:(g++[o])[g.length]?=some o:=by simp
theorem d6(h:g[i]?=some o):(g++[o'])[i]?=some o:=by rw[aA (j9 h)];exact h
theorem get_set(h:g[i]?=some o):(g.set i o')[i]?=some o':=aH (j9 h)
theorem F0{j:Nat}(h:g[i]?=some o)(hn:j≠i):(g.set j o')[i]?=some o:=by rw[au hn];exact h
section
variable{T:Nat->Option bj}{d:Nat}
theorem Gp(h4:T 4=some p6)(zb:T 21=some N8)(ha:g[a]?=some (.lst l))(hl:l.length<=1000)(hd:a≠d)(D0:d9 g d)(h:∀(l':List D) b g',l'.Perm l->g'[b]?=some (.lst l')->g.length<=b->d9 g' d->Gr d g g'->Q (.ref b) g'):b9 T (k+2) 21 [.ref d,.ref a] g Q E:=by
 refine call_of zb rfl ?_;dsimp[N8,d4,List.replicate];left;refine AY (a7 ha) ?_;left;have dl:=D0.lt;refine L7 (a9 T _) (rF (a9 T _) ?_);left;have rm:(g++[O.lst l]++[O.lst []])[a]?=some (.lst l):=d6 (d6 ha);refine uV (a7 rm) ?_;refine ⟨_,rfl,by omega,by omega,k6 0 l.length,λi Z g'=>∃ left found w,Z=[some (.ref d),some (.ref a),some (.ref g.length),some (.ref (g.length + 1)),w]/\(left ++ found).Perm l/\left.length + i=l.length/\g'[g.length]?=some (.lst left)/\g'[g.length + 1]?=some (.lst found)/\d9 g' d/\Gr d g g',
  λi Z g p=>t8,?_,λi x Z g' hx p=>?_,λZ g' p=>?_⟩
 ·refine⟨l,[],none,?_,by simp,by simp,?_,?_,(D0.snoc _).snoc _,(Gr.snoc _ _ _).trans (Gr.snoc _ _ _)⟩
  ·simp
  ·exact d6 b8
  ·have:=b8 (g:=g++[O.lst l]) (o:=O.lst []);simpa using this
 ·obtain⟨left,found,w,rfl,hp,hn,e1,e2,D1,G1⟩:=p;obtain⟨hi,rfl⟩:=E3 hx;left;refine c7 h4 D1 () () λr g2 r0 r1 D2 G2=>?_;have f1:=G2.at () e1;have f2:=G2.at () e2;have hr:r.toNat<left.length:=by omega
  left;refine MW f1 () (ak hr) () ?_;left;refine K4 (F0 f2 ()) ?_ ?_
  ·have:=hp.length_eq;simp at this;omega
  left;refine⟨_,_,_,rfl,?_,?_,F0 (get_set f1) (),get_set (F0 f2 ()),(D2.J6 ()).J6 (),((G1.trans G2).J6 ()).J6 ()⟩
  ·refine List.Perm.trans ?_ hp;have:=F' hr;refine List.Perm.trans ?_ (List.Perm.append_right found this);simp only[List.cons_append];rw[<- fS];exact(mV _ _)
  ·rw[fz hr];omega
 ·obtain⟨left,found,w,rfl,hp,hn,e1,e2,D1,G1⟩:=p;left;rw[l0] at hn;have:left=[]:=bH ();subst this;exact h _ _ _ (by simpa using hp) e2 () D1 G1
end
def T9:bj:=⟨1,5,(dy 1 (.prim .lst (Iy (.prim .tup .nil) (dX .tup (aP 0)) (bI .tup (aP 0) (aP 1)) (dX .tup (aP 1)) (.prim .tup (si (aP 0) (aP 1) (aP 2))) (.prim .tup (sj (aP 0) (aP 1) (aP 2) (aP 7))) (dX .tup (aP 2)))) (dy 2 (cN bh (dB 4 aM (cN (bI .tup (aP 4) (aP 7)) (dX .int (bI (.cmp .Eq) (dB 4 aM (aP 4)) (aP 0)))))) (dy 3 (cN bh (dB 4 aM (aP 5))) (dy 4 (cN (.prim .lst (BG (aP 0) (aP 0) (aP 1400) (aP 1400) (aP 1401) (aP 1))) (dB 4 aM (aP 6))) (dj (.prim .tup (nh (bI (.bin .Add) (aP 1) (dB 4 aM (aP 3))) bL (bI (.bin .Add) (aP 1) (dB 4 aM (aP 4))) dh dg)))))))⟩
def B7:bj:=⟨4,4,(eW (.jm (dJ .Eq (dX .len bh) (aP 0)) (.dI (dJ .Lt (dX .len bh) dh) (dJ .Eq (dB 4 aM (aP 3)) (aP 0)))) (vo (.eI .append bh (ku bL)) (dj (bI (.bin .Add) bL (aP 1)))) (eW (dJ .Eq (dB 4 aM (aP 5)) (aP 0)) (pY (.eM bh (dB 4 aM (dX .len bh)) bL) (dj (bI (.bin .Add) bL (aP 1)))) (dj bL)))⟩
structure jj(c:a8):Prop where
 good:j4 c=true
 l8:c.lm.length<=8
 u8:c.um.length<=8
theorem jj.mk'{lo up yr:Int}{lm um:List Int}(h1:1<=lo)(h2:lo<=99)(h3:1<=up)(h4:up<=99)(h5:0<=yr)(h6:yr<=9999)(h7:gm 0 lm=true)(h8:gm 0 um=true)(h9:lm.length<=8)(Dj:um.length<=8):jj ⟨lo,lm,up,um,yr⟩:=by
 refine⟨?_,h9,Dj⟩;simp only[j4,h7,h8,decide_eq_true h1,decide_eq_true h2,decide_eq_true h3,decide_eq_true h4,decide_eq_true h5,decide_eq_true h6]
 rfl
theorem jj.inv(h:jj c):(1<=c.lo/\c.lo<=99)/\gm 0 c.lm=true/\(1<=c.up/\c.up<=99)/\gm 0 c.um=true/\0<=c.yr/\c.yr<=9999:=by
 have:=h.good;unfold j4 at this;simp only[Bool.and_eq_true,decide_eq_true_eq] at this;obtain⟨⟨⟨a,b⟩,e⟩,⟨⟨c',d⟩,f⟩,p,q⟩:=this;exact⟨⟨a,b⟩,e,⟨c',d⟩,f,p,q⟩
def O8:List (List Int):=[[],[0],[0,1],[1],[0,1,2],[0,1,2,7],[2]]
theorem Xk:∀ms∈O8,gm 0 ms=true/\ms.length<=8:=by decide
theorem El(h0:0<=r)(h7:r<7):∃ms,fU (O8.map λms=>D.tup (ms.map .int)) r=some (.tup (ms.map .int))/\gm 0 ms=true/\ms.length<=8:=by
 obtain⟨v,hv,hm⟩:=n4 (l:=O8.map λms=>D.tup (ms.map .int)) h0 (by simpa[O8] using h7);obtain⟨ms,h1,rfl⟩:=az.mp hm;exact⟨ms,hv,Xk ms h1⟩
section
variable{T:Nat->Option bj}{d:Nat}
theorem Sj(h4:T 4=some p6)(Kv:T 22=some T9)(D0:d9 g d)(h:∀c g',jj c->d9 g' d->Gr d g g'->Q c.d g'):b9 T (k+2) 22 [.ref d] g Q E:=by
 refine call_of Kv rfl ?_;dsimp[T9,d4,List.replicate];have dl:=D0.lt;left;have D1:=D0.snoc (.lst (O8.map λms=>D.tup (ms.map .int)));have G1:=Gr.snoc d g (.lst (O8.map λms=>D.tup (ms.map .int)));have e1:(g++[O.lst (O8.map λms=>D.tup (ms.map .int))])[g.length]?=some (.lst (O8.map λms=>D.tup (ms.map .int))):=b8;refine c7 h4 D1 ∅ ∅ λr g2 r0 r1 D2 G2=>?_;left;have e2:=G2.at () e1;have hn:∃n:Int,fU [D.int 4,D.int 7] (if decide (r=0)=true then 1 else 0)=some (.int n)/\0<n/\n<=7:=by
  by_cases hr:r=0
  ·exact⟨7,by rw[aQ hr];rfl,by decide,by decide⟩
  ·exact⟨4,by rw[aR hr];rfl,by decide,by decide⟩
 obtain⟨n,en,n0,n7⟩:=hn;refine B9 en ?_;left;refine c7 h4 D2 n0 () λr3 g3 gh gG D3 G3=>?_;have e3:=G3.at () e2;obtain⟨lm,el,gl,ll⟩:=El gh ();refine k7 (a7 e3) el ?_;left;refine c7 h4 D3 ∅ ∅ λr4 g4 pF qQ D4 G4=>?_;have e4:=G4.at () e3;obtain⟨um,eu,gu,lu⟩:=El pF ();refine k7 (a7 e4) eu ?_;left;have e5:(g4++[O.lst [.int 0,.int 0,.int 1400,.int 1400,.int 1401,.int 1]])[g4.length]?=some (.lst [.int 0,.int 0,.int 1400,.int 1400,.int 1401,.int 1]):=b8;refine c7 h4 (D4.snoc _) ∅ ∅ λr5 g5 jQ jP D5 G5=>?_;have e6:=G5.at (by have:=D4.lt;omega) e5;obtain⟨v,hv,hm⟩:=n4 (l:=[D.int 0,.int 0,.int 1400,.int 1400,.int 1401,.int 1]) jQ (by simpa using jP);have hy:∃y:Int,v=.int y/\0<=y/\y<=9999:=by
  simp only[List.mem_cons,List.mem_nil_iff,or_false] at hm;rcases hm with rfl|rfl|rfl|rfl|rfl|rfl<;>exact⟨_,rfl,by decide,by decide⟩
 obtain⟨y,rfl,y0,y1⟩:=hy;refine k7 (a7 e6) hv ?_;left;refine c7 h4 D5 ∅ ∅ λr6 g6 Ce Cd D6 G6=>?_;left;refine c7 h4 D6 ∅ ∅ λr7 g7 YO YN D7 G7=>?_;left;exact h ⟨1+r6,lm,1+r7,um,y⟩ _ (jj.mk' () () () () y0 y1 gl gu ll lu) D7 (G1.trans (G2.trans (G3.trans (G4.trans ((Gr.snoc _ _ _).trans (G5.trans (G6.trans G7)))))))
def AL(l:List D)(f:Int):Prop:=∃ns:List Int,l=ns.map .int/\∀n∈ns,1<=n/\n<f
theorem Wd(h4:T 4=some p6)(uk:T 23=some B7)(ha:g[a]?=some (.lst l))(hl:l.length<1000)(hs:AL l f)(f1:1<=f)(hd:d<a)(D0:d9 g d)(h:∀(l':List D) (f':Int) g',l'≠[]->l'.length<=l.length+1->AL l' f'->f<=f'->f'<=f+1->g'[a]?=some (.lst l')->d9 g' d->(∀i,i≠d->i≠a->i<g.length->g'[i]?=g[i]?)->g.length<=g'.length->Q (.int f') g'):b9 T (k+2) 23 [.ref d,.ref a,.int f,.int v] g Q E:=by
 refine call_of uk rfl ?_;obtain⟨ns,rfl,nK⟩:=id hs;have app:∀g':G,g'[a]?=some (.lst (ns.map D.int))->d9 g' d->Gr d g g'->wpS (b9 T (k+1)) (.seq (.expr (.eI .append (.var 1) (.cons (.var 2) .nil))) (.seq (.ret (.prim (.bin .Add) (.cons (.var 2) (.cons (.lit (.int 1)) .nil)))) .pass)) ⟨λiM g1=>wpS (b9 T (k+1)) (d8 B7.body) ⟨λ_ g'=>Q .bq g',Q,λ_ _=>False,λ_ _=>False⟩ iM g1 E,Q,λ_ _=>False,λ_ _=>False⟩ [some (.ref d),some (.ref a),some (.int f),some (.int v)] g' E:=by
  intro g' e D1 G1;left;refine K4 e () ?_;left;refine h _ _ _ (by simp) (by simp) ⟨ns++[f],by simp,λn hn=>?_⟩ () () (get_set e) (D1.J6 hd) (λi h1 h2 h3=>?_) (by simp[G1.len])
  ·rcases aT.mp hn with z|z
   ·have:=nK n z;omega
   ·simp at z;omega
  ·rw[au (bW h2)];exact G1.old i h1 h3
 have rest:∀g':G,g'[a]?=some (.lst (ns.map D.int))->ns≠[]->d9 g' d->Gr d g g'->wpS (b9 T (k+1)) (d8 B7.body) ⟨λ_ g'=>Q .bq g',Q,λ_ _=>False,λ_ _=>False⟩ [some (.ref d),some (.ref a),some (.int f),some (.int v)] g' E:=by
  intro g' e eL D1 G1;dsimp[B7,d8];left;refine c7 h4 D1 ∅ ∅ λr g2 r0 r1 D2 G2=>?_;have e2:=G2.at () e;have hlen:=BD.mpr eL;left;refine if2 (λc=>?_) (λc=>?_)
  ·left;rw[ai];refine c7 h4 D2 () (by simp at hl;omega) λr3 g3 gh gG D3 G3=>?_;have e3:=G3.at () e2;have hj:jS (ns.map D.int).length r3=some r3.toNat:=by
    unfold jS;rw[aJ gh,aJ (by rw[ai];exact gG)]
   refine O5 e3 hj ?_;left;refine h _ _ _ (by simp[eL]) (by simp) ⟨ns.set r3.toNat f,by simp,λn hn=>?_⟩ () () (get_set e3) (D3.J6 hd) (λi h1 h2 h3=>?_) (by simp[((G1.trans G2).trans G3).len])
   ·rcases oo hn with z|z
    ·have:=nK n z;omega
    ·omega
   ·rw[au (bW h2)];exact((G1.trans G2).trans G3).old i h1 h3
  ·left;exact h _ _ _ (by simp[eL]) (by simp) hs () () e2 D2 (λi h1 h2 h3=>(G1.trans G2).old i h1 h3) (G1.trans G2).len
 dsimp[B7,d4,List.replicate];left;refine if2 (λc=>?_) (λc=>?_)
 ·refine jT ?_;exact app g ha D0 (Gr.refl _ _)
 ·have eL:ns≠[]:=λz=>c (by rw[z];rfl);left;refine if2 (λc2=>?_) (λc2=>?_)
  ·left;refine c7 h4 D0 ∅ ∅ λr g2 r0 r1 D2 G2=>?_;left;refine if2 (λc3=>?_) (λc3=>?_)
   ·exact app g2 (G2.at () ha) D2 G2
   ·exact rest g2 (G2.at () ha) eL D2 G2
  ·exact rest g ha eL D0 (Gr.refl _ _)
end
def E6:bj:=⟨3,17,(dy 3 (.prim .lst .nil) (dy 4 (aP 1) (dy 5 (.prim .Q5 .nil) (dy 6 (cN (.prim .lst (si (aP 0) (aP 1) (aP 1350))) (dB 4 aM (aP 3))) (dy 7 (bI (.bin .Add) (aP 1) (dB 4 aM (aP 96))) (dy 8 (bI (.bin .Add) (aP 2) (dB 4 aM (aP 4))) (dy 9 (bI .max (aP 0) (bI (.bin .Sub) (dB 4 aM (aP 9)) (aP 6))) (dy 10 (.prim .lst .nil) (nX (.one 11) (.eK bh) (dy 4 (Jc 23 aM dh dg bL) (dy 12 (bI .tup (cN dh (dB 4 aM (dX .len dh))) (bI (.bin .Add) (aP 50) (dB 4 aM (bI (.bin .Add) (aP 2) bL)))) (nX (.one 13) (.gL kd) (fo (.ifs (dJ .Eq (dB 4 aM jf) (aP 0)) (dy 14 (dB 4 aM (aP 8)) (fo (.eM eJ tE (dX .tuple (.comp [13,14,5] 5 (.one 4) (.eK (aP 8)) (.jm (dJ .Eq dg bh) (dJ .In dg (.eI .get bL (vt aM (.prim .tup .nil))))) dg))))) .pass)) (eW (dJ .Eq (dB 4 aM (aP 5)) (aP 0)) (fo (.set 6 (bI .min (aP 9999) (bI (.bin .Add) (bI (.bin .Add) fC (aP 1)) (dB 4 aM (aP 9)))))) (dy 15 (.comp [9,7] 4 (.one 3) (.gL kd) .no (bI (.bin .Add) (bI (.bin .Add) (aP 1) aM) (bI (.bin .Mod) (bI (.bin .Mult) dh bh) (aP 97)))) (dy 16 (bI (.bin .Mult) fC (dX .int (bI (.cmp .Gt) (dB 4 aM (aP 4)) (aP 0)))) (fo (.expr (.eI .append iw (ku (.prim .tup (nh (cN oy (aP 0)) (.eI .get eJ (vt (cN kd (aP 0)) (.prim .tup .nil))) (cN oy (aP 1)) (.eI .get eJ (vt (cN kd (aP 1)) (.prim .tup .nil))) tD)))))))))))) (dj iw))))))))))⟩
def U8(kvs:List (Key×D)):Prop:=∀k v,u3 kvs k=some v->∃ms:List Int,v=.tup (ms.map .int)/\gm 0 ms=true/\ms.length<=8
theorem UX(kvs:List (Key×D))(k k':Key)(v:D):u3 (putD kvs k v) k'=if k'=k then some v else u3 kvs k':=by
 unfold putD;split
 ·rename_i pV;have go:∀l:List (Key×D),u3 (l.map λkv=>if kv.1=k then(kv.1,v) else kv) k'=if k'=k then(if(l.any λkv=>decide (kv.1=k))=true then some v else none) else u3 l k':=by
   intro l
   induction l with
   |nil=>simp[u3]
   |cons p r ih =>
    obtain⟨pk,pv⟩:=p;by_cases e:pk=k
    ·subst e;by_cases e2:k'=pk
     ·subst e2;simp[u3]
     ·have:¬pk=k':=λz=>e2 z.symm;unfold u3 at ih ⊢;simp[this,e2] at ih ⊢;exact ih
    ·by_cases e2:k'=k
     ·subst e2;unfold u3 at ih ⊢;rw[oZ,show decide (pk=k')=false from aR e,Bool.false_or];simp[e] at ih ⊢;exact ih
     ·unfold u3 at ih ⊢;simp only[List.map_cons,e,if_false,List.find?_cons];by_cases e3:pk=k'
      ·simp[e3,e2]
      ·simp[e3];simp[e2] at ih;simp[e2];exact ih
  rw[go,pV]
  rfl
 ·rename_i pV;unfold u3;rw[List.find?_append];by_cases e:k'=k
  ·subst e;have:kvs.find? (λkv=>decide (kv.1=k'))=none:=by
    rw[dq];intro x hx hd;exact pV (ZF.mpr ⟨x,hx,hd⟩)
   rw[this];simp
  ·have:¬k=k':=λz=>e z.symm;simp[this,e]
theorem Ux(kvs:List (Key×D))(k:Key)(v:D):(putD kvs k v).length<=kvs.length+1:=by
 unfold putD;split<;>simp
theorem U8.put{k:Key}(h:U8 kvs)(h1:gm 0 ms=true)(h2:ms.length<=8):U8 (putD kvs k (.tup (ms.map .int))):=λk' v hv=>by
 rw[UX] at hv;split at hv
 ·cases hv;exact⟨ms,rfl,h1,h2⟩
 ·exact h k' v hv
theorem U8.get(h:U8 kvs)(k:Key):∃ms:List Int,(u3 kvs k).getD (.tup [])=.tup (ms.map .int)/\gm 0 ms=true/\ms.length<=8:=by
 cases e:u3 kvs k with
 |none=>exact⟨[],rfl,rfl,by simp⟩
 |some v=>obtain⟨ms,rfl,h1,h2⟩:=h k v e;exact⟨ms,rfl,h1,h2⟩
theorem Vs(p:Int->Bool):gm 0 (((List.range 8).map λ(n:Nat)=>(n:Int)).filter p)=true/\(((List.range 8).map λ(n:Nat)=>(n:Int)).filter p).length<=8:=by
 refine⟨AW (iJ _ ∅) λm hm=>?_,aE (bo _ _) ∅⟩;have:=(cA.mp hm).1;revert this;revert m;intro m _ hm;simp at hm;obtain⟨a,ha,rfl⟩:=hm;omega
theorem List.W3{l:List α}{x:α}(h:l[i]?=some x):l.set i x=l:=by
 apply fR;intro j;by_cases e:i=j
 ·subst e;rw[aH (ay.mp h).1];exact h.symm
 ·rw[au e]
section
variable{T:Nat->Option bj}{d:Nat}
def UY:MS:=match E6.body with
 |.seq _ (.seq _ (.seq _ (.seq _ (.seq _ (.seq _ (.seq _ (.seq _ (.seq (.fE _ _ (.seq _ (.seq _ (.seq (.fE _ _ b) _)))) _))))))))=>b
 |x=>x
theorem Yt(h4:T 4=some p6){w0:Nat}{key wr:Int}{Z:S}(hw:g[w0]?=some (.eO kvs))(W:U8 kvs)(hk:kvs.length<1000)(hr:0<wr)(vI:wr<1000)(hd:d<w0)(D0:d9 g d)(s0:Z[0]?=some (some (.ref d)))(s5:Z[5]?=some (some (.ref w0)))(s8:Z[8]?=some (some (.int wr)))(IV:Z[13]?=some (some (.int key)))(sl:Z.length=17)(h:∀z kvs' g',g'[w0]?=some (.eO kvs')->U8 kvs'->kvs'.length<=kvs.length+1->d9 g' d->(∀i,i≠d->i≠w0->i<g.length->g'[i]?=g[i]?)->g.length<=g'.length->N.nx (Z.set 14 z) g'):wpS (b9 T (k+1)) UY N Z g E:=by
 obtain⟨kQ,Ln⟩:∃z,Z[14]?=some z:=⟨_,ak ()⟩
 refine wL (Bi (Bj (qw (wK (N3 (w_var s0 (N3 (w_var s8 (wy ?_)))))))));refine c7 h4 D0 hr () λr g2 r0 r1 D2 G2=>?_;left;refine if2 (λc=>?_) (λc=>?_)
 ·refine uX (uY (wK (N3 (w_var s0 (N3 (w_lit (wy ?_)))))));refine c7 h4 D2 ∅ ∅ λr3 g3 gh gG D3 G3=>?_;have e3:=(G2.trans G3).at () hw;have t5:(Z.set 14 (some (.int r3)))[5]?=some (some (.ref w0)):=by rw[au ∅];exact s5
  have BS:(Z.set 14 (some (.int r3)))[13]?=some (some (.int key)):=by rw[au ∅];exact IV
  have IP:(Z.set 14 (some (.int r3)))[14]?=some (some (.int r3)):=aH ();obtain⟨ms,em,_,_⟩:=W.get (.inl key);refine wL (EC (rL ?_));refine Gg (a9 T _) (w_lit ⟨8,rfl,by decide,λi ys cb g'=>g'=g3/\ys.length<=i/\(∃z w,cb=[some (.int key),some (.int r3),some (.ref w0),z,w])/\ys=((((List.range i).map λ(n:Nat)=>(n:Int)).filter λs=>decide (s=r3)||ms.any λm=>m==s).map D.int),⟨rfl,by simp,⟨none,none,?_⟩,rfl⟩,λi ys Z g' p=>p.2.1,λi ys cb g' hi p=>?_,λys cb g' p=>?_⟩)
  ·simp[C8,BS,IP,t5,List.replicate]
  ·obtain⟨rfl,hl,⟨z,w,rfl⟩,e⟩:=p;have er:(List.range (i+1)).map (λ(n:Nat)=>(n:Int))=(List.range i).map (λ(n:Nat)=>(n:Int))++[(i:Int)]:=by rw[ee];simp
   have yes:(decide ((i:Int)=r3)||ms.any λm=>m==(i:Int))=true->aS (b9 T (k+1)) (.var 4) [some (.int key),some (.int r3),some (.ref w0),z,some (.int i)] g' (λy g4=>g4=g'/\(ys++[y]).length<=i+1/\(∃z' w',[some (.int key),some (.int r3),some (.ref w0),z,some (D.int i)]=[some (.int key),some (.int r3),some (.ref w0),z',w'])/\(ys++[y])=((((List.range (i+1)).map λ(n:Nat)=>(n:Int)).filter λs=>decide (s=r3)||ms.any λm=>m==s).map D.int)) ja:=λhc=>by
    left;refine⟨rfl,by simp;omega,⟨_,_,rfl⟩,?_⟩;rw[er,bx,bc,<- e];simp[hc]
   left;refine if2 (λc1=>?_) (λc1=>?_)
   ·refine jT ?_;exact yes (by rw[aQ c1];rfl)
   ·left;refine AZ e3 (k:=.inl key) rfl ?_;rw[em];refine AD (P4 ?_);left;cases hc:(ms.any λm=>m==(i:Int)) with
    |true =>
     refine jT ?_;exact yes (by rw[hc];simp)
    |false =>
     refine Q3 ?_;refine⟨rfl,by omega,⟨_,_,rfl⟩,?_⟩;rw[er,bx,bc,<- e];simp[hc,c1]
  ·obtain⟨rfl,hl,_,e⟩:=p;subst e;refine NO (a7 b8) ?_;obtain⟨f1,f2⟩:=Vs λs=>decide (s=r3)||ms.any λm=>m==s
   refine w_var t5 (w_var BS ?_);refine Ny (d6 e3) (k:=.inl key) rfl () ?_;refine h _ _ _ (get_set (d6 e3)) (W.put f1 f2) (Ux _ _ _) ((D3.snoc _).J6 hd) (λi h1 h2 h3=>?_) ?_
   ·rw[au (bW h2),aA (ax h3 (G2.trans G3).len)];exact(G2.trans G3).old i h1 h3
   ·have:=(G2.trans G3).len;simp;omega
 ·refine F1 ?_;have e2:=G2.at () hw;have:=h kQ kvs g2 e2 W () D2 (λi h1 h2 h3=>G2.old i h1 h3) G2.len
  rwa [List.W3 Ln] at this
end
section
variable{T:Nat->Option bj}{d:Nat}
def L8:MS:=match E6.body with
 |.seq _ (.seq _ (.seq _ (.seq _ (.seq _ (.seq _ (.seq _ (.seq _ (.seq (.fE _ _ b) _))))))))=>b
 |x=>x
structure iB(d s0 w0 f0 i:Nat)(g:G)(f y:Int):Prop where
 BX:∃l,g[s0]?=some (.lst l)/\AL l f/\l.length<=i
 fr:1<=f/\f<=1+i
 IC:∃kvs,g[w0]?=some (.eO kvs)/\U8 kvs/\kvs.length<=2*i
 found:∃cs:List a8,g[f0]?=some (.lst (cs.map a8.d))/\cs.length=i/\∀c∈cs,jj c
 year:0<=y/\y<=9999
 dr:d9 g d
theorem SH{s0 w0 f0 n0:Nat}{n y st wr sh:Int}{vq IB IA Iz xt xr:Option D}(h4:T 4=some p6)(uk:T 23=some B7)(S:iB d s0 w0 f0 i g f y)(hi:i<=100)(hv:1<=v/\v<=100)(dz:1<=st/\st<=96)(jg:0<wr/\wr<1000)(jn:0<=sh/\sh<=2)(o1:d<n0)(o2:n0<=s0)(o3:s0<w0)(o4:w0<f0)(h:∀f' y' sf mw kQ se sd g',iB d s0 w0 f0 (i+1) g' f' y'->(∀j,j≠d->j<n0->g'[j]?=g[j]?)->g.length<=g'.length->N.nx [some (.ref d),some (.int n),some (.int v),some (.ref s0),some (.int f'),some (.ref w0),some (.int y'),some (.int st),some (.int wr),some (.int sh),some (.ref f0),vq,sf,mw,kQ,se,sd] g') :
  wpS (b9 T (k+2)) L8 N [some (.ref d),some (.int n),some (.int v),some (.ref s0),some (.int f),some (.ref w0),some (.int y),some (.int st),some (.int wr),some (.int sh),some (.ref f0),vq,IB,IA,Iz,xt,xr] g E:=by
 obtain⟨⟨l,es,hs,hl⟩,⟨f1,f2⟩,⟨kvs,ew,W,hk⟩,⟨cs,ef,hc,hg⟩,⟨y0,y1⟩,D0⟩:=S;have lf:=j9 ef;dsimp[L8,E6];left;refine Wd h4 uk es () hs f1 () D0 λl1 f' g1 eL iX CA f3 f5 eU D1 nE fK=>?_;have Ds:g1[w0]?=some (.eO kvs):=(nE w0 () () (j9 ew)).trans ew;have Dz:g1[f0]?=some (.lst (cs.map a8.d)):=(nE f0 () () lf).trans ef;left;have fq:0<l1.length:=BD.mpr eL;refine c7 (n:=(l1.length:Int)) h4 D1 () () λr2 g2 gY gX D2 G2=>?_;have jI:=G2.at () eU;have Dr:=G2.at () Ds;have Dy:=G2.at () Dz;obtain⟨x,hx,hm⟩:=n4 (l:=l1) gY gX;obtain⟨ns,rfl,nK⟩:=id CA;obtain⟨k1,JR,rfl⟩:=az.mp hm;refine k7 (a7 jI) hx ?_;left;refine c7 (n:=2+v) h4 D2 () () λr3 g3 gh gG D3 G3=>?_;have zr:=G3.at () jI;have Dq:=G3.at () Dr;have zt:=G3.at () Dy;left;have kb1:=nK k1 JR;have sR:∀j,j≠d->j<n0->g3[j]?=g[j]?:=λj a b=>by
  have lj:j<g.length:=by omega
  rw[G3.old j a (by have:=G2.len;(clear hi hv dz jg jn o1 hl f1 f2 hk hc y0 y1 f3 f5 gY iX fq gX gh gG kb1 a lj;omega)),G2.old j a (),nE j a () lj]
 have hJ:g.length<=g3.length:=by have:=G2.len;have:=G3.len;(clear hi hv dz jg jn o1 o2 o3 o4 hl f1 f2 hk hc y0 y1 lf f3 f5 gY iX fq gX gh gG kb1;omega)
 refine L7 (a9 T _) (vF (a9 T _) ?_);left;refine ⟨_,rfl,_,λj Z g'=>∃ kvs' mw kQ,Z=[some (.ref d),some (.int n),some (.int v),some (.ref s0),some (.int f'),some (.ref w0),some (.int y),some (.int st),some (.int wr),some (.int sh),some (.ref f0),vq,some (.tup [.int k1,.int (50 + r3)]),mw,kQ,xt,xr]/\g'[w0]?=some (.eO kvs')/\U8 kvs'/\kvs'.length <= 2 * i + j/\d9 g' d/\(∀ j,j ≠ d->j ≠ w0->j < g3.length->g'[j]?=g3[j]?)/\g3.length <= g'.length,
  λ_ _ _ _=>t8,⟨kvs,_,_,rfl,Dq,W,by omega,D3,λ_ _ _ _=>rfl,aj _⟩,λj x Z g' hx p=>?_,λZ g' p=>?_⟩
 ·obtain⟨kvs',mw,kQ,rfl,K',W',oC,D',xO,tu⟩:=p;have fZ:∃key:Int,x=.int key/\j<2:=by
   match j,hx with
   |0,hx=>cases hx;exact⟨_,rfl,by decide⟩
   |1,hx=>cases hx;exact⟨_,rfl,by decide⟩
   |j+2,hx=>simp at hx
  obtain⟨key,rfl,hj⟩:=fZ;show wpS _ _ _ _ _ _;refine Yt (k:=k+1) h4 K' W' (by(clear hv dz jg jn o1 o2 o3 o4 hl f1 f2 hk y0 y1 lf f3 f5 fK gY iX fq gX gh gG kb1 hJ tu;omega)) jg.1 jg.2 () D' rfl rfl rfl rfl rfl λz xW Zm e2 W2 yy Yz pJ tq=>?_;exact⟨xW,_,_,rfl,e2,W2,by(clear hi hv dz jg jn o1 o2 o3 o4 hl f1 f2 hk y0 y1 lf f3 f5 fK gY iX fq gX gh gG kb1 hJ tu hj tq;omega),Yz,λj a b c=>(pJ j a b ()).trans (xO j a b c),by(clear hi hv dz jg jn o1 o2 o3 o4 hl f1 f2 hk hc y0 y1 lf f3 f5 fK gY iX fq gX gh gG kb1 hJ oC hj yy;omega)⟩
 obtain⟨tG,mw,kQ,rfl,KZ,W4,kf,D4,nD,iO⟩:=p;have Lc:g'[s0]?=some (.lst (ns.map D.int)):=(nD s0 () () (j9 zr)).trans zr;have Lf:g'[f0]?=some (.lst (cs.map a8.d)):=(nD f0 () () (j9 zt)).trans zt;have sQ:∀j,j≠d->j<n0->g'[j]?=g[j]?:=λj a b=>(nD j a () (by(clear hi hv dz jg jn o1 hl f1 f2 hk hc y0 y1 f3 f5 fK gY iX fq gX gh gG kb1 kf iO a;omega))).trans (sR j a b);clear nD sR G2 G3 eU Ds Dz jI Dr Dy zr Dq zt nE;have kf:tG.length<=2*(i+1):=by omega
 show wpS _ _ _ _ _ _;left;refine c7 h4 D4 ∅ ∅ λr5 g5 jQ jP D5 G5=>?_;left;have tail:∀(y':Int) (g6:G),0<=y'->y'<=9999->d9 g6 d->Gr d g' g6->wpS (b9 T (k+2)) (d8 (d8 (d8 (d8 L8)))) N [some (.ref d),some (.int n),some (.int v),some (.ref s0),some (.int f'),some (.ref w0),some (.int y'),some (.int st),some (.int wr),some (.int sh),some (.ref f0),vq,some (.tup [.int k1,.int (50+r3)]),mw,kQ,xt,xr] g6 E:=by
  intro y' g6 kU kT D6 G6;have Lb:=G6.at () Lc;have KY:=G6.at () KZ;have vV:=G6.at () Lf;dsimp[L8,E6,d8];left;refine Xe (a9 T _) ?_;left;refine⟨_,rfl,by simp,λj ys Z g7=>g7=g6/\(∃z w,Z=[some (.int sh),some (.int st),z,w])/\ys=([k1,50+r3].take j).map (λkey=>D.int (1+sh+key*st % 97)),⟨rfl,⟨none,none,rfl⟩,rfl⟩,λj ys Z g7 p=>?_,λj x ys Z g7 hx p=>?_,λys Z g7 p=>?_⟩
  ·obtain⟨rfl,_,rfl⟩:=p;simp;omega
  ·obtain⟨rfl,⟨z,w,rfl⟩,rfl⟩:=p;have fZ:∃key:Int,x=.int key/\([k1,50+r3].take j).map (λkey=>D.int (1+sh+key*st % 97))++[D.int (1+sh+key*st % 97)]=([k1,50+r3].take (j+1)).map (λkey=>D.int (1+sh+key*st % 97)):=by
    match j,hx with
    |0,hx=>cases hx;exact⟨_,rfl,rfl⟩
    |1,hx=>cases hx;exact⟨_,rfl,rfl⟩
    |j+2,hx=>simp at hx
   obtain⟨key,rfl,he⟩:=fZ;show dG _ _ _ _ _ _;left;refine M7 (R9 () ()) ?_;left;exact⟨rfl,⟨_,_,rfl⟩,he⟩
  obtain⟨rfl,_,rfl⟩:=p;have eN:(g7++[O.lst [D.int (1+sh+k1*st % 97),D.int (1+sh+(50+r3)*st % 97)]])[g7.length]?=some (.lst [D.int (1+sh+k1*st % 97),D.int (1+sh+(50+r3)*st % 97)]):=b8;show wpS _ _ _ _ (g7++[O.lst [D.int (1+sh+k1*st % 97),D.int (1+sh+(50+r3)*st % 97)]]) _;left;refine c7 h4 (D6.snoc _) ∅ ∅ λr8 g8 lI lH D8 G8=>?_;have l7:=D6.lt;have Zr:=G8.at () eN;have La:=G8.at () (d6 Lb);have zq:=G8.at () (d6 KY);have Dx:=G8.at () (d6 vV);left;refine M7 (zJ () ()) ?_;left;obtain⟨lm,el,gl,ll⟩:=W4.get (.inl k1);obtain⟨um,eu,gu,lu⟩:=W4.get (.inl (50+r3));refine AZ zq (k:=.inl k1) rfl ?_;rw[el];left;refine AZ zq (k:=.inl (50+r3)) rfl ?_;rw[eu];left;refine K4 Dx (by simp;omega) ?_;generalize iW:y'*(if decide (0<r8)=true then 1 else 0)=ty;have kA:0<=ty/\ty<=9999:=by
   rw[<- iW];split<;>simp<;>omega
  left;refine h f' y' _ _ _ _ _ _ ⟨⟨_,F0 La (),CA,by(clear hi hv dz jg jn o1 o2 o3 o4 f1 f2 hk y0 y1 lf f3 f5 fK gY fq gX gh gG kb1 hJ iO kf jQ jP kU kT lI lH l7 ll lu iW kA;omega)⟩,⟨by omega,by(clear hi hv dz jg jn o1 o2 o3 o4 hl f1 hk y0 y1 lf fK gY iX fq gX gh gG kb1 hJ iO kf jQ jP kU kT lI lH l7 ll lu iW kA;omega)⟩,⟨tG,F0 zq (),W4,kf⟩,⟨cs++[⟨1+sh+k1*st % 97,lm,1+sh+(50+r3)*st % 97,um,ty⟩],?_,by simp[hc],?_⟩,⟨kU,kT⟩,D8.J6 ()⟩ (λj a b=>?_) ?_
  ·rw[get_set Dx];simp[a8.d]
  ·intro c iR;rcases aT.mp iR with z|z
   ·exact hg c z
   ·simp at z;subst z;have m1:=cR (k1*st) (show(97:Int)≠0 by decide);have m2:=cq (k1*st) (show(0:Int)<97 by decide);have m3:=cR ((50+r3)*st) (show(97:Int)≠0 by decide);have m4:=cq ((50+r3)*st) (show(0:Int)<97 by decide);exact jj.mk' (by(clear hi hv dz jg o1 o2 o3 o4 hl f1 f2 hk hc y0 y1 lf f3 f5 fK gY iX fq gX gh gG kb1 hJ iO kf jQ jP kU kT lI lH l7 ll lu iW kA m2 m3 m4;omega)) (by(clear hi hv dz jg o1 o2 o3 o4 hl f1 f2 hk hc y0 y1 lf f3 f5 fK gY iX fq gX gh gG kb1 hJ iO kf jQ jP kU kT lI lH l7 ll lu iW kA m2 m3 m4;omega)) (by(clear hi hv dz jg o1 o2 o3 o4 hl f1 f2 hk hc y0 y1 lf f3 f5 fK gY iX fq gX gh gG kb1 hJ iO kf jQ jP kU kT lI lH l7 ll lu iW kA m1 m2 m4;omega)) (by(clear hi hv dz jg o1 o2 o3 o4 hl f1 f2 hk hc y0 y1 lf f3 f5 fK gY iX fq gX gh gG kb1 hJ iO kf jQ jP kU kT lI lH l7 ll lu iW kA m1 m2 m4;omega)) kA.1 kA.2 gl gu ll lu
  ·have lj:j<g'.length:=by(clear hi hv dz jg jn o1 hl f1 f2 hk hc y0 y1 f3 f5 fK gY iX fq gX gh gG kb1 kf jQ jP kU kT lI lH l7 ll lu iW kA a;omega)
   rw[au (by(clear hi hv dz jg jn o1 hl f1 f2 hk hc y0 y1 lf f3 f5 fK gY iX fq gX gh gG kb1 hJ iO kf jQ jP kU kT lI lH l7 ll lu iW kA a lj;omega)),G8.old j a (by have:=G6.len;simp;(clear hi hv dz jg jn o1 o2 o3 o4 hl f1 f2 hk hc y0 y1 lf f3 f5 fK gY iX fq gX gh gG kb1 hJ iO kf jQ jP kU kT lI lH l7 ll lu iW kA a b;omega)),aA (by have:=G6.len;(clear hi hv dz jg jn o1 o2 o3 o4 hl f1 f2 hk hc y0 y1 lf f3 f5 fK gY iX fq gX gh gG kb1 hJ iO kf jQ jP kU kT lI lH l7 ll lu iW kA a b;omega)),G6.old j a lj];exact sQ j a b
  ·have:=G6.len;have:=G8.len;simp at this ⊢
   (clear hi hv dz jg jn o1 o2 o3 o4 hl f1 f2 hk hc y0 y1 lf f3 f5 fK gY iX fq gX gh gG kb1 kf jQ jP kU kT lI lH l7 ll lu iW kA;omega)
 refine if2 (λc=>?_) (λc=>?_)
 ·left;refine c7 h4 D5 ∅ ∅ λr6 g6 Ce Cd D6 G6=>?_;left;generalize Jv:(if y+1+r6<9999 then y+1+r6 else 9999)=y';have:0<=y'/\y'<=9999:=by rw[<- Jv];split<;>omega
  exact tail y' g6 this.1 this.2 D6 (G5.trans G6)
 ·refine F1 ?_;exact tail y g5 y0 y1 D5 G5
theorem Wj(h4:T 4=some p6)(uk:T 23=some B7)(Ku:T 24=some E6){n:Int}(hn:0<=n/\n<=100)(hv:1<=v/\v<=100)(D0:d9 g d)(h:∀(cs:List a8) a g',(cs.length:Int)=n->(∀c∈cs,jj c)->g'[a]?=some (.lst (cs.map a8.d))->g.length<=a->d9 g' d->Gr d g g'->Q (.ref a) g'):b9 T (k+3) 24 [.ref d,.int n,.int v] g Q E:=by
 refine call_of Ku rfl ?_;dsimp[E6,d4,List.replicate];have dl:=D0.lt;left;have D1:d9 (g++[O.lst []]++[O.eO []]++[O.lst [.int 0,.int 1,.int 1350]]) d:=((D0.snoc _).snoc _).snoc _;have G1:Gr d g (g++[O.lst []]++[O.eO []]++[O.lst [.int 0,.int 1,.int 1350]]):=((Gr.snoc _ _ _).trans (Gr.snoc _ _ _)).trans (Gr.snoc _ _ _);have e0:(g++[O.lst []]++[O.eO []]++[O.lst [.int 0,.int 1,.int 1350]])[g.length]?=some (.lst []):=d6 (d6 b8);have e1:(g++[O.lst []]++[O.eO []]++[O.lst [.int 0,.int 1,.int 1350]])[(g++[O.lst []]).length]?=some (.eO []):=d6 b8;have e2:(g++[O.lst []]++[O.eO []]++[O.lst [.int 0,.int 1,.int 1350]])[(g++[O.lst []]++[O.eO []]).length]?=some (.lst [.int 0,.int 1,.int 1350]):=b8;have n1:(g++[O.lst []]).length=g.length+1:=by simp
 have n2:(g++[O.lst []]++[O.eO []]).length=g.length+2:=by simp
 rw[n1] at e1 ⊢;refine c7 h4 D1 ∅ ∅ λr2 g2 gY gX D2 G2=>?_;have Lr:=G2.at () e0;have mM:=G2.at () e1;have Lm:=G2.at () e2;obtain⟨x,hx,hm⟩:=n4 (l:=[D.int 0,.int 1,.int 1350]) gY (by simpa using gX);have hy:∃y:Int,x=.int y/\0<=y/\y<=9999:=by
  simp only[List.mem_cons,List.mem_nil_iff,or_false] at hm;rcases hm with rfl|rfl|rfl<;>exact⟨_,rfl,by decide,by decide⟩
 obtain⟨y,rfl,y0,y1⟩:=hy;refine k7 (a7 Lm) hx ?_;left;refine c7 h4 D2 ∅ ∅ λr3 g3 gh gG D3 G3=>?_;left;refine c7 h4 D3 ∅ ∅ λr4 g4 pF qQ D4 G4=>?_;left;refine c7 h4 D4 ∅ ∅ λr5 g5 jQ jP D5 G5=>?_;have xa:=G3.trans (G4.trans G5);have Lq:=xa.at () Lr;have DG:=xa.at () mM;have l5:=(G1.trans (G2.trans xa)).len;have lw:=j9 DG;left;generalize jn:(if r5-6>0 then r5-6 else 0)=sh;have BW:0<=sh/\sh<=2:=by rw[<- jn];split<;>omega
 have Ll:(g5++[O.lst []])[g5.length]?=some (.lst []):=b8;refine L7 (a9 T _) (rF (a9 T _) ?_);left;refine ⟨by omega,by omega,k6 0 n.toNat,λi Z g'=>∃ f' y' xo sf mw kQ se sd,Z=[some (.ref d),some (.int n),some (.int v),some (.ref g.length),some (.int f'),some (.ref (g.length + 1)),some (.int y'),some (.int (1 + r3)),some (.int (2 + r4)),some (.int sh),some (.ref g5.length),xo,sf,mw,kQ,se,sd]/\iB d g.length (g.length + 1) g5.length i g' f' y'/\Gr d g g',
  λ_ _ _ _=>t8,⟨1,y,none,none,none,none,none,none,rfl,⟨⟨[],d6 Lq,⟨[],rfl,by simp⟩,by simp⟩,⟨by omega,by omega⟩,⟨[],d6 DG,(λk v hv=>by cases hv),by simp⟩,⟨[],Ll,rfl,by simp⟩,⟨y0,y1⟩,D5.snoc _⟩,(G1.trans (G2.trans xa)).trans (Gr.snoc _ _ _)⟩,λi x Z g' hx p=>?_,λZ g' p=>?_⟩
 ·obtain⟨f',y',xo,sf,mw,kQ,se,sd,rfl,S,G'⟩:=p;obtain⟨hi,rfl⟩:=E3 hx;refine SH (n0:=g.length) h4 uk S () hv ⟨by omega,by omega⟩ ⟨by omega,by omega⟩ BW dl (aj _) () () λf2 y2 a b c e f g2 S2 pJ tq=>?_;exact⟨f2,y2,_,_,_,_,_,_,rfl,S2,⟨by have:=G'.len;(clear hn hv dl gY gX y0 y1 gh gG pF qQ jQ jP l5 lw jn BW hi;omega),λj h1 h2=>(pJ j h1 h2).trans (G'.old j h1 h2)⟩⟩
 ·obtain⟨f',y',xo,sf,mw,kQ,se,sd,rfl,S,G'⟩:=p;left;obtain⟨cs,ef,hc,hg⟩:=S.found;rw[l0] at hc;exact h cs _ _ () hg ef () S.dr G'
end
def Z2:bj:=⟨2,8,(dy 2 (bI .jy (aP 1) (bI (.bin .Add) (bI (.bin .Add) (bI (.bin .FloorDiv) bh (aP 2)) (bI (.bin .Mod) bh (aP 2))) (aP 1))) (dy 3 (bI (.bin .Add) bL (bI (.kE false true) (dB 21 aM bL) (bI (.bin .FloorDiv) bh (aP 2)))) (dy 4 (dB 4 aM (aP 3)) (dy 5 (.prim .lst .nil) (nX (.one 6) (.eK bh) (dy 7 (cN (.prim .lst (si (bI (.bin .Add) (aP 1000) fC) (aP 0) (bI (.bin .Add) (aP 1) (bI (.bin .FloorDiv) (bI (.bin .Mult) (aP 2) fC) (bI .max (aP 1) bh))))) dg) (fo (.expr (.eI .append eJ (ku (.prim .tup (nh (cN dh fC) (.prim .tup .nil) (bI (.bin .Add) (aP 1) (dB 4 aM (aP 9))) (.prim .tup .nil) fY))))))) (dj eJ))))))⟩
def M0:bj:=⟨2,9,(dy 2 (dB 4 aM (bI (.bin .Add) bh (aP 1))) (dy 3 (bI (.bin .Add) (aP 1) (dB 4 aM (aP 3))) (dy 4 (dB 4 aM (aP 5)) (eW (dJ .Eq dg (aP 0)) (dj (bI .tup (.comp [0] 3 (.one 2) (.eK bL) .no (iS 22 aM)) dh)) (eW (dJ .Eq dg (aP 4)) (fo (.set 3 (bI (.bin .Add) (aP 1) (dB 4 aM (aP 6))))) (dy 5 (.ite (dJ .Eq dg (aP 4)) (dB 25 aM bL) (kF 24 aM bL dh)) (dy 5 (.comp [5] 3 (.one 2) (.gL (dB 21 aM (dX .jz bL))) .no (cN aM bL)) (eW (.dI (dJ .Eq dg (aP 1)) (dJ .Gt bL (aP 0))) (dy 6 (dB 4 aM bL) (dy 7 (cN eJ fC) (dy 8 (cN eJ (dB 4 aM bL)) (fo (.eM eJ fC (.prim .tup (nh (cN fY (aP 0)) (cN jf (aP 1)) (cN jf (aP 2)) (cN fY (aP 3)) (cN (.prim .lst (si (cN fY (aP 4)) (cN jf (aP 4)) (aP 9999))) (dB 4 aM (aP 3)))))))))) (eW (dJ .Eq dg (aP 2)) (fo (.set 3 (aP 1))) (dj (bI .tup eJ dh)))))))))))⟩
theorem Ho{p:Int->Prop}:∀{l:List D},(∀x∈l,∃i:Int,x=.int i/\p i)->∃ns:List Int,l=ns.map .int/\∀i∈ns,p i
 |[],_=>⟨[],rfl,by simp⟩
 |x::r,h=>by
  obtain⟨i,rfl,hi⟩:=h x (by simp);obtain⟨ns,rfl,hn⟩:=Ho (l:=r) λy hy=>h y (by simp[hy]);exact⟨i::ns,rfl,λj hj=>(av.mp hj).elim (λz=>z▸hi) (hn j)⟩
theorem Eu{lo:Int}{x:D}(h:x∈k6 lo n):∃i:Int,x=.int i/\lo<=i/\i<lo+n:=by
 obtain⟨k,hk,rfl⟩:=az.mp h;exact⟨_,rfl,by omega,by have:=dN.mp hk;omega⟩
theorem Af{l:List α}{lo hi:Option Int}{x:α}(h:x∈cut l lo hi):x∈l:=by
 unfold cut at h;exact iH (xj h)
theorem Gx{l:List α}(h:n<=l.length):cut l none (some (n:Int))=l.take n:=by
 have:¬((n:Int)<0):=by omega
 unfold cut HT.iV;simp[this]
theorem QD(h0:0<=r)(h1:r<ns.length):∃i∈ns,fU (ns.map D.int) r=some (.int i):=by
 obtain⟨v,hv,hm⟩:=n4 (l:=ns.map D.int) h0 (by simpa using h1);obtain⟨i,hi,rfl⟩:=az.mp hm;exact⟨i,hi,hv⟩
theorem U6(h0:0<=r)(h1:r<cs.length):∃c∈cs,fU (cs.map a8.d) r=some c.d:=by
 obtain⟨v,hv,hm⟩:=n4 (l:=cs.map a8.d) h0 (by simpa using h1);obtain⟨i,hi,rfl⟩:=az.mp hm;exact⟨i,hi,hv⟩
section
variable{T:Nat->Option bj}{d:Nat}
theorem VN(h4:T 4=some p6)(zb:T 21=some N8)(Kt:T 25=some Z2){n:Int}(hn:0<=n/\n<=100)(D0:d9 g d)(h:∀(cs:List a8) a g',(cs.length:Int)=n->(∀c∈cs,jj c)->g'[a]?=some (.lst (cs.map a8.d))->g.length<=a->d9 g' d->Gr d g g'->Q (.ref a) g'):b9 T (k+3) 25 [.ref d,.int n] g Q E:=by
 refine call_of Kt rfl ?_;dsimp[Z2,d4,List.replicate];have dl:=D0.lt;left;refine Ji (i:=1) (j:=n / 2+n % 2+1) () ?_;left;have hh:∃hf:Nat,(n / 2+n % 2+1-1).toNat=hf/\(hf:Int)=n / 2+n % 2/\hf<=50:=⟨_,rfl,by omega,by omega⟩
 obtain⟨hf,yB,Zb,CN⟩:=hh;rw[yB];have e1:(g++[O.lst (k6 1 hf)])[g.length]?=some (.lst (k6 1 hf)):=b8;refine Gp h4 zb e1 (by rw[l0];omega) () (D0.snoc _) λl' b g2 hp e2 hb D2 G2=>?_;have mM:=G2.at () e1;left;refine wI (a7 e2) ?_;have hle:l'.length=hf:=by rw[hp.length_eq,l0]
 have hc:cut l' none (some (n / 2))=l'.take (n / 2).toNat:=by
  have:=Gx (l:=l') (n:=(n / 2).toNat) ()
  rwa [show(((n / 2).toNat:Nat):Int)=n / 2 by omega] at this
 rw[hc];refine AN (d6 mM) b8 (by rw[l0,bE];omega) ?_;obtain⟨rl,er,hr⟩:=Ho (p:=λi=>1<=i/\i<=50) (l:=k6 1 hf++l'.take (n / 2).toNat) λx hx=>by
  have nG:x∈k6 1 hf:=by
   rcases aT.mp hx with z|z
   ·exact z
   ·exact hp.mem_iff.mp (xj z)
  obtain⟨i,rfl,h1,h2⟩:=Eu nG;exact⟨i,rfl,h1,by omega⟩
 have YX:(rl.length:Int)=n:=by
  have:=dM List.length er;rw[dn,l0,bE,ai] at this;omega
 rw[er];have D3:=(D2.snoc (.lst (l'.take (n / 2).toNat))).snoc (.lst (rl.map D.int));have G3:=(Gr.snoc d g (.lst (k6 1 hf))).trans (G2.trans ((Gr.snoc d g2 (.lst (l'.take (n / 2).toNat))).trans (Gr.snoc d _ (.lst (rl.map D.int)))));have e3:(g2++[O.lst (l'.take (n / 2).toNat)]++[O.lst (rl.map D.int)])[(g2++[O.lst (l'.take (n / 2).toNat)]).length]?=some (.lst (rl.map D.int)):=b8;have l3:g.length+1<=(g2++[O.lst (l'.take (n / 2).toNat)]).length:=by have:=G2.len;simp at this ⊢;omega
 generalize (g2++[O.lst (l'.take (n / 2).toNat)]).length=BZ at *;left;refine c7 h4 D3 ∅ ∅ λr4 g4 pF qQ D4 G4=>?_;have e4:=G4.at () e3;left;have vc:=G3.trans G4;have l4:=vc.len;have e5:(g4++[O.lst []])[g4.length]?=some (.lst ([].map a8.d)):=b8;have Cr:=j9 e4;refine L7 (a9 T _) (rF (a9 T _) ?_);left;refine ⟨by omega,by omega,k6 0 n.toNat,λi Z g'=>∃ cs z6 z7,Z=[some (.ref d),some (.int n),some (.ref g.length),some (.ref BZ),some (.int r4),some (.ref g4.length),z6,z7]/\cs.length=i/\(∀ c ∈ cs,jj c)/\g'[g4.length]?=some (.lst (cs.map a8.d))/\g'[BZ]?=some (.lst (rl.map D.int))/\d9 g' d/\Gr d g g',
  λ_ _ _ _=>t8,⟨[],none,none,rfl,rfl,by simp,e5,d6 e4,D4.snoc _,vc.trans (Gr.snoc _ _ _)⟩,λi x Z g' hx p=>?_,λZ g' p=>?_⟩
 ·obtain⟨cs,z6,z7,rfl,hc,hg,ef,erw,D',G'⟩:=p;obtain⟨hi,rfl⟩:=E3 hx;left;refine M7 (zJ ∅ ∅) ?_;left;refine wa ⟨by split<;>omega,by split<;>omega⟩ ?_;left;obtain⟨yv,hy,ye⟩:∃yv:Int,fU [D.int (1000+(0+(i:Int))),D.int 0,D.int (1+2*(0+(i:Int)) / (if n>1 then n else 1))] r4=some (.int yv)/\0<=yv/\yv<=9999:=by
   have Zu:0<=2*(0+(i:Int)) / (if n>1 then n else 1):=Int.ediv_nonneg () (by split<;>omega);have Zt:2*(0+(i:Int)) / (if n>1 then n else 1)<=2*(0+(i:Int)):=Int.ediv_le_self _ ();have:r4=0\/r4=1\/r4=2:=by omega
   rcases this with rfl|rfl|rfl
   ·exact⟨_,rfl,by omega,by(clear dl yB CN hb l3 l4 Cr hc pF qQ;omega)⟩
   ·exact⟨_,rfl,by omega,by omega⟩
   ·exact⟨_,rfl,by omega,by omega⟩
  refine k7 (a7 b8) hy ?_;left;obtain⟨lo,CI,yu⟩:=QD (ns:=rl) (r:=0+(i:Int)) () (by(clear hn dl yB CN hb l3 pF qQ l4 Cr ye;omega));refine And.intro (W9 (d6 ef)) ?_;left;refine k7 (a7 (d6 erw)) yu ?_;left;refine c7 h4 (D'.snoc _) ∅ ∅ λr6 g6 Ce Cd D6 G6=>?_;have vV:=G6.at () (d6 ef);have rz:=G6.at () (d6 erw);left;refine K4 vV (by simp;omega) ?_;have Za:=hr lo CI;refine⟨cs++[⟨lo,[],1+r6,[],yv⟩],_,_,rfl,by simp[hc],?_,?_,F0 rz (),D6.J6 (),(G'.trans ((Gr.snoc _ _ _).trans G6)).J6 ()⟩
  ·intro c iR;rcases aT.mp iR with z|z
   ·exact hg c z
   ·simp at z;subst z;exact jj.mk' () () () () ye.1 ye.2 rfl rfl (by simp) (by simp)
  ·rw[get_set vV];simp[a8.d]
 ·obtain⟨cs,z6,z7,rfl,hc,hg,ef,erw,D',G'⟩:=p;left;rw[l0] at hc;exact h cs _ _ () hg ef () D' G'
end
section
variable{T:Nat->Option bj}{d:Nat}
structure LF(T:Nat->Option bj):Prop where
 pull:T 4=some p6
 order:T 21=some N8
 any:T 22=some T9
 pD:T 23=some B7
 pz:T 24=some E6
 opened:T 25=some Z2
 list:T 26=some M0
theorem WK(hT:LF T){n:Int}(hn:0<=n/\n<=99)(D0:d9 g d)(h:∀(cs:List a8) a (v:Int) g',(cs.length:Int)<=n->(∀c∈cs,jj c)->g'[a]?=some (.lst (cs.map a8.d))->g.length<=a->1<=v->v<=6->d9 g' d->Gr d g g'->Q (.tup [.ref a,.int v]) g'):b9 T (k+4) 26 [.ref d,.int n] g Q E:=by
 refine call_of hT.list rfl ?_;dsimp[M0,d4,List.replicate];have dl:=D0.lt;left;refine c7 (n:=n+1) hT.pull D0 () () λm g1 m0 m1 D1 G1=>?_;left;refine c7 hT.pull D1 ∅ ∅ λr2 g2 gY gX D2 G2=>?_;left;refine c7 hT.pull D2 ∅ ∅ λway g3 w0 w1 D3 G3=>?_;have xb:=G1.trans (G2.trans G3);have l3:=xb.len;left;refine if2 (λc=>?_) (λc=>?_)
 ·left;refine C3 (a9 T _) (rF (a9 T _) ?_);left;refine⟨by omega,by omega,k6 0 m.toNat,λi ys Z g'=>∃cs z1 z2,ys=cs.map a8.d/\cs.length=i/\(∀c∈cs,jj c)/\Z=[some (.ref d),z1,z2]/\d9 g' d/\Gr d g g',by rw[l0];omega,λi ys Z g' p=>⟨t8,?_⟩,⟨[],none,none,rfl,rfl,by simp,rfl,D3,xb⟩,λi x ys Z g' hx p=>?_,λys Z g' p=>?_⟩
  ·obtain⟨cs,z1,z2,rfl,hc,_⟩:=p;simp[hc]
  ·obtain⟨cs,z1,z2,rfl,hc,hg,rfl,D',G'⟩:=p;left;refine Sj hT.pull hT.any D' λc0 g4 gc D4 G4=>?_;refine⟨cs++[c0],_,_,by simp,by simp[hc],λc1 ue=>?_,rfl,D4,G'.trans G4⟩;rcases aT.mp ue with z|z
   ·exact hg c1 z
   ·simp at z;subst z;exact gc
  ·obtain⟨cs,z1,z2,rfl,hc,hg,rfl,D',G'⟩:=p;rw[l0] at hc;left;exact h cs _ _ _ () hg b8 G'.len () () (D'.snoc _) (G'.trans (Gr.snoc _ _ _))
 have tail:∀(v:Int) (g4:G),1<=v->v<=6->d9 g4 d->Gr d g g4->wpS (b9 T (k+3)) (d8 (d8 (d8 (d8 (d8 M0.body))))) ⟨λ_ g'=>Q .bq g',Q,λ_ _=>False,λ_ _=>False⟩ [some (.ref d),some (.int n),some (.int m),some (.int v),some (.int way),none,none,none,none] g4 E:=by
  intro v g4 v0 v1 D4 G4;dsimp[M0,d8];have after:∀(cs:List a8) a g5,(cs.length:Int)=m->(∀c∈cs,jj c)->g5[a]?=some (.lst (cs.map a8.d))->g4.length<=a->d9 g5 d->Gr d g4 g5->wpS (b9 T (k+3)) (d8 (d8 (d8 (d8 (d8 (d8 M0.body)))))) ⟨λ_ g'=>Q .bq g',Q,λ_ _=>False,λ_ _=>False⟩ [some (.ref d),some (.int n),some (.int m),some (.int v),some (.int way),some (.ref a),none,none,none] g5 E:=by
   intro cs a g5 hc hg ea la D5 G5;have Ig:=G4.trans G5;have l4:=G4.len;dsimp[M0,d8];left;refine C3 (a9 T _) (pM (a9 T _) ?_);left;refine Jj () () ?_;left;have e6:(g5++[O.lst (k6 0 m.toNat)])[g5.length]?=some (.lst (k6 0 m.toNat)):=b8;have l5:=D5.lt;refine Gp hT.pull hT.order e6 (by rw[l0];omega) () (D5.snoc _) λl' b g7 hp eb lb D7 G7=>?_;have Li:=G7.at () (d6 ea);have tV:l'.length=m.toNat:=by rw[hp.length_eq,l0]
   refine⟨b,l',rfl,a7 eb,l',λi ys Z g'=>∃iE z1 z2,ys=iE.map a8.d/\iE.length=i/\(∀c∈iE,jj c)/\Z=[some (.ref a),z1,z2]/\g'=g7,by omega,λi ys Z g' p=>?_,⟨[],none,none,rfl,rfl,by simp,rfl,rfl⟩,λi x ys Z g' hx p=>?_,λys Z g' p=>?_⟩
   ·obtain⟨iE,z1,z2,rfl,iR,_,_,rfl⟩:=p;exact⟨F9 (a7 eb),by simp[iR]⟩
   ·obtain⟨iE,z1,z2,rfl,iR,nP,rfl,rfl⟩:=p;obtain⟨j,rfl,j0,j1⟩:=Eu (hp.mem_iff.mp (aC hx));left;obtain⟨c0,rh,e0⟩:=U6 (cs:=cs) j0 ();refine k7 (a7 Li) e0 ?_;refine⟨iE++[c0],_,_,by simp,by simp[iR],λc1 ue=>?_,rfl,rfl⟩;rcases aT.mp ue with z|z
    ·exact nP c1 z
    ·simp at z;subst z;exact hg c1 rh
   ·obtain⟨iE,z1,z2,rfl,iR,nP,rfl,rfl⟩:=p;have e8:(g'++[O.lst (iE.map a8.d)])[g'.length]?=some (.lst (iE.map a8.d)):=b8;have D8:=D7.snoc (.lst (iE.map a8.d));have G8:=(Ig.trans ((Gr.snoc d g5 (.lst (k6 0 m.toNat))).trans G7)).trans (Gr.snoc d g' (.lst (iE.map a8.d)));have l8:g.length<=g'.length:=(Ig.trans ((Gr.snoc d g5 (.lst (k6 0 m.toNat))).trans G7)).len;have fin:∀(rA:List a8) z6 z7 z8 g9,(rA.length:Int)=m->(∀c∈rA,jj c)->g9[g'.length]?=some (.lst (rA.map a8.d))->d9 g9 d->Gr d g g9->wpS (b9 T (k+3)) (d8 (d8 (d8 (d8 (d8 (d8 (d8 (d8 M0.body)))))))) ⟨λ_ g'=>Q .bq g',Q,λ_ _=>False,λ_ _=>False⟩ [some (.ref d),some (.int n),some (.int m),some (.int v),some (.int way),some (.ref g'.length),z6,z7,z8] g9 E:=by
     intro rA z6 z7 z8 g9 CU CO e9 D9 G9;dsimp[M0,d8];left;refine if2 (λc=>?_) (λc=>?_)
     ·left;exact h rA _ _ _ () CO e9 l8 () () D9 G9
     ·left;exact h rA _ _ _ () CO e9 l8 v0 v1 D9 G9
    have mF:(iE.length:Int)=m:=by omega
    have xV:=D7.lt;left;refine if2 (λc1=>?_) (λc1=>?_)
    ·left;refine if2 (λc2=>?_) (λc2=>?_)
     ·left;refine c7 (n:=m) hT.pull D8 c2 () λr g9 r0 r1 D9 G9=>?_;have e9:=G9.at () e8;obtain⟨c0,rh,e0⟩:=U6 (cs:=iE) r0 (by(clear hn dl m0 m1 gY gX w0 w1 l3 c v0 v1 la l4 l5 lb tV iR l8 xV c1 c2 r0;omega));left;refine k7 (a7 e9) e0 ?_;left;refine c7 (n:=m) hT.pull D9 c2 () λr' KO sJ xK Ih Ie=>?_;have DH:=Ie.at () e9;obtain⟨c3,CT,e3⟩:=U6 (cs:=iE) sJ (by(clear hn dl m0 m1 gY gX w0 w1 l3 c v0 v1 la l4 l5 lb tV iR l8 xV c1 c2 r0 r1 sJ;omega));refine k7 (a7 DH) e3 ?_;dsimp only[a8.d];left;refine c7 hT.pull (Ih.snoc _) ∅ ∅ λJb Zn nA pG YA Bw=>?_;have Jl:=Ih.lt;have Lo:=Bw.at () (b8 (g:=KO) (o:=.lst [.int c0.yr,.int c3.yr,.int 9999]));have uD:=Bw.at () (d6 (o':=.lst [.int c0.yr,.int c3.yr,.int 9999]) DH);obtain⟨x,hx,hm⟩:=n4 (l:=[D.int c0.yr,.int c3.yr,.int 9999]) nA ();obtain⟨a1,a2,a3,a4,a5,a6⟩:=(nP c0 rh).inv;obtain⟨b1,b2,b3,b4,b5,b6⟩:=(nP c3 CT).inv;have hy:∃y:Int,x=.int y/\0<=y/\y<=9999:=by
       simp only[List.mem_cons,List.mem_nil_iff,or_false] at hm;rcases hm with rfl|rfl|rfl
       ·exact⟨_,rfl,a5,a6⟩
       ·exact⟨_,rfl,b5,b6⟩
       ·exact⟨_,rfl,by decide,by decide⟩
      obtain⟨y,rfl,y0,y1⟩:=hy;refine k7 (a7 Lo) hx ?_;left;have hj:jS (iE.map a8.d).length r=some r.toNat:=by
       unfold jS;rw[aJ r0,aJ (by rw[ai];(clear hn dl m0 m1 gY gX w0 w1 l3 c v0 v1 la l4 l5 lb tV iR l8 xV c1 c2 r0 sJ xK nA pG Jl a1 a3 a5 a6 b1 b3 b5 b6 y0 y1;omega))]
      refine O5 uD hj ?_;have gr:jj ⟨c0.lo,c3.lm,c3.up,c0.um,y⟩:=jj.mk' a1.1 a1.2 b3.1 b3.2 y0 y1 b2 a4 (nP c3 CT).l8 (nP c0 rh).u8;refine fin (iE.set r.toNat ⟨c0.lo,c3.lm,c3.up,c0.um,y⟩) _ _ _ _ (by simp;omega) (λc4 Kd=>?_) ?_ (YA.J6 ()) ((G8.trans (G9.trans (Ie.trans ((Gr.snoc _ _ _).trans Bw)))).J6 l8)
      ·rcases oo Kd with z|z
       ·exact nP c4 z
       ·rw[z];exact gr
      ·rw[get_set uD,List.map_set]
       rfl
     ·refine F1 ?_;exact fin iE _ _ _ _ mF nP e8 D8 G8
    ·exact fin iE _ _ _ _ mF nP e8 D8 G8
  left;refine if2 (λc=>?_) (λc=>?_)
  ·left;refine VN hT.pull hT.order hT.opened ⟨m0,by omega⟩ D4 λcs a g5 hc hg ea la D5 G5=>?_;exact after cs a g5 hc hg ea la D5 G5
  ·left;refine Wj hT.pull hT.pD hT.pz ⟨m0,by omega⟩ ⟨v0,by omega⟩ D4 λcs a g5 hc hg ea la D5 G5=>?_;exact after cs a g5 hc hg ea la D5 G5
 left;refine if2 (λc=>?_) (λc=>?_)
 ·left;refine c7 hT.pull D3 ∅ ∅ λr4 g4 pF qQ D4 G4=>?_;walk_at "w1";exact tail _ _ () () D4 (xb.trans G4)
 ·refine F1 ?_;exact tail _ _ () () D3 xb
end
def wj:bj:=⟨2,2,(eW (dJ .Eq (dB 4 aM (aP 12)) (aP 7)) (dj (iS 5 aM)) (dj (bI (.bin .Sub) (dB 4 aM (bI (.bin .Add) bh (aP 4))) (aP 2))))⟩
def B6:bj:=⟨2,2,(dj (dX .all (.comp [1] 3 (.one 2) (.gL aM) .no (bI (.cmp .In) bL aM))))⟩
def T8:bj:=⟨1,1,(fo (.ifs (.dQ (.fh (iS 12 aM))) (fo (.raise "BadCoin" (ku (iP "it is no coin")))) .pass))⟩
def Q2:bj:=⟨1,2,(eW (dJ .Gt (dX .len aM) (aP 9)) (fo (.raise "TooMany" (ku (iP "at most nine coins are asked about at once")))) (fo (.fE (.one 1) (.gL aM) (fo (.expr (iS 39 bh))))))⟩
def M1:bj:=⟨1,1,(fo (.ifs (dJ .NotIn aM (.lit (.tup [(.str "lower"),(.str "upper")]))) (fo (.raise "BadSide" (ku (iP "a side is lower or upper")))) .pass))⟩
def X2:bj:=⟨1,1,(vo (iS 40 aM) (dj (bI .lZ (.lit (.tup [(.tup [(.str "lower"),(.int 0)]),(.tup [(.str "upper"),(.int 2)])])) aM)))⟩
noncomputable abbrev xc(T:Nat->Option bj):Prop:=T 18=some Q2/\T 39=some T8
noncomputable abbrev qz(T:Nat->Option bj):Prop:=T 19=some X2/\T 40=some M1
def K1:bj:=⟨2,2,(dj (bI (.cmp .Eq) (dX .len (.comp [1] 3 (.one 2) (.gL aM) (dJ .NotIn bL aM) bL)) (aP 0)))⟩
def E9:bj:=⟨2,3,(eW (.dI (dJ .Gt (dX .len bh) (aP 0)) (dJ .Eq (dB 4 aM (aP 4)) (aP 0))) (dy 2 (dB 4 aM (dX .len bh)) (fo (.set 1 (bI (.bin .Add) (bI (.bin .Add) (bI (.kE false true) bh bL) (dX .lst (dB 14 aM (cN bh bL)))) (bI (.kE true false) bh (bI (.bin .Add) bL (aP 1))))))) (eW (.dI (dJ .Gt (dX .len bh) (aP 0)) (dJ .Eq (dB 4 aM (aP 8)) (aP 0))) (fo (.set 1 (bI (.kE false true) (bI (.bin .Mult) bh (aP 10)) (cN (.prim .lst (si (aP 10) (aP 11) (aP 9))) (dB 4 aM (aP 3)))))) (dj bh)))⟩
def P1:bj:=⟨1,1,(eW (dJ .Gt (dX .len aM) (aP 9)) (dj (iP "TooMany")) (eW (.dQ (.fh (dX .all (.comp [] 2 (.one 1) (.gL aM) .no (iS 13 bh))))) (dj (iP "BadCoin")) (dj (iP ""))))⟩
structure Ex(g g':G):Prop where
 len:g.length<=g'.length
 old:∀i,i<g.length->g'[i]?=g[i]?
theorem Ex.refl(g:G):Ex g g:=⟨aj _,λ_ _=>rfl⟩
theorem Ex.trans{g g1 g2:G}(a:Ex g g1)(b:Ex g1 g2):Ex g g2:=⟨aE a.len b.len,λi h=>(b.old i (ax h a.len)).trans (a.old i h)⟩
theorem Ex.snoc(g:G)(o:O):Ex g (g++[o]):=⟨by simp,λi h=>aA h⟩
theorem Ex.at(h:Ex g g')(e:g[i]?=some o):g'[i]?=some o:=(h.old i (j9 e)).trans e
theorem Ex.draw{d:Nat}(h:Ex g g')(D0:d9 g d):d9 g' d:=by
 obtain⟨s,p,b,r,xs,e1,e2,q⟩:=D0.ex;exact⟨s,p,b,r,xs,h.at e1,h.at e2,q⟩
inductive u9(g:G):Nat->D->D->Prop
 |bq {n:Nat}:u9 g n .bq .bq
 |bl {n:Nat} (b:Bool):u9 g n (.bl b) (.bl b)
 |int {n:Nat} (i:Int):u9 g n (.int i) (.int i)
 |str {n:Nat} (x:Str):u9 g n (.str x) (.str x)
 |tup {n:Nat} {l m:List D} (hl:l.length=m.length) (h:∀(i:Nat) x y,l[i]?=some x->m[i]?=some y->u9 g n x y) (hz:m.length<=1000):u9 g (n+1) (.tup l) (.tup m)
 |lst {n a b:Nat} {l m:List D} (ha:g[a]?=some (.lst l)) (hb:g[b]?=some (.lst m)) (hl:l.length=m.length) (h:∀(i:Nat) x y,l[i]?=some x->m[i]?=some y->u9 g n x y) (hz:m.length<=1000):u9 g (n+1) (.ref a) (.ref b)
theorem u9.ex(e:Ex g g'){x y:D}(h:u9 g n x y):u9 g' n x y:=by
 induction h with
 |bq=>exact .bq
 |bl b=>exact .bl b
 |int i=>exact .int i
 |str x=>exact .str x
 |tup hl h hz ih=>exact .tup hl ih hz
 |lst ha hb hl h hz ih=>exact .lst (e.at ha) (e.at hb) hl ih hz
section
variable{T:Nat->Option bj}
theorem GG(h6:T 6=some uQ){i:Int}(h:Q (.bl true) g):b9 T (k+1) 6 [.int i] g Q E:=by
 refine call_of h6 rfl ?_;dsimp[uQ,d4,List.replicate];left;refine fy (b:=true) ∅ rfl ?_;left;refine fy ∅ rfl ?_;left;exact h
def Xi:MS:=match A6.body with
 |.seq _ (.seq _ (.seq _ (.seq _ (.seq _ b))))=>b
 |x=>x
theorem VH(h6:T 6=some uQ)(h7:T 7=some A6):∀(n:Nat) {k:Nat} {g:G} {x y:D} {Q:KD} {E:KX},u9 g n x y->(∀g',Ex g g'->Q (.bl true) g')->b9 T (k+n+2) 7 [x,y] g Q E:=by
 have sE:∀(n:Nat),(∀{k:Nat} {g:G} {x y:D} {Q:KD} {E:KX},u9 g n x y->(∀g',Ex g g'->Q (.bl true) g')->b9 T (k+n+2) 7 [x,y] g Q E) ->
   ∀{k:Nat} {g:G} {x y:D} {l m:List D} {Q:KD} {E:KX},(∀g',Ex g g'->B0 g' x=some l)->(∀g',Ex g g'->B0 g' y=some m)->l.length=m.length->m.length<=1000->(∀(i:Nat) x y,l[i]?=some x->m[i]?=some y->u9 g n x y)->(∀g',Ex g g'->Q (.bl true) g') ->
   wpS (b9 T (k+n+2)) Xi ⟨λ_ g'=>Q .bq g',Q,λ_ _=>False,λ_ _=>False⟩ [some x,some y] g E:=by
  intro n ih k g x y l m Q E hx hy hl hz hs hQ;have len:∀(z:D) (l:List D) (g':G) (Q':KD),B0 g' z=some l->Q' (.int l.length) g'->cI .len [z] g' Q':=λz l g' Q' e q=>⟨_,_,⟨rfl,.inl ⟨z,l,rfl,e,rfl⟩⟩,q⟩
  refine uX (Bi (Bj (qw (rL (w_var rfl (len _ _ _ _ (hx g (Ex.refl g)) ?_))))));refine rL (w_var rfl (len _ _ _ _ (hy g (Ex.refl g)) ?_));refine Hx ?_;rw[hl,aQ rfl];left;refine C3 (a9 T _) (rF (a9 T _) ?_);refine rL (w_var rfl (len _ _ _ _ (hy g (Ex.refl g)) ?_));refine⟨_,rfl,by omega,by omega,k6 0 m.length,λi ys Z g'=>∃z w,ys=List.replicate i (.bl true)/\Z=[some y,some x,z,w]/\Ex g g',by rw[l0];exact hz,λi ys Z g' p=>⟨t8,?_⟩,⟨none,none,rfl,rfl,Ex.refl g⟩,λi z ys Z g' hz p=>?_,λys Z g' p=>?_⟩
  ·obtain⟨z,w,rfl,_⟩:=p;simp
  ·obtain⟨z,w,rfl,rfl,e⟩:=p;obtain⟨hi,rfl⟩:=E3 hz;have h1:l[i]?=some l[i]:=ak ();have h2:=ak hi;have a1:fU l (0+(i:Int))=some l[i]:=by rw[jN];exact t6 h1
   have a2:fU m (0+(i:Int))=some m[i]:=by rw[jN];exact t6 h2
   show dG _ _ _ _ _ _;refine wz (jT (wK (N3 (qw (w_var rfl (w_var rfl ⟨_,_,⟨rfl,.inl ⟨_,l,_,rfl,hx g' e,a1⟩⟩,?_⟩))))));refine N3 (qw (w_var rfl (w_var rfl ⟨_,_,⟨rfl,.inl ⟨_,m,_,rfl,hy g' e,a2⟩⟩,?_⟩)));refine wy (ih ((hs i _ _ h1 h2).ex e) λg2 e2=>?_);exact⟨_,_,by rw[List.replicate_succ'],rfl,e.trans e2⟩
  ·obtain⟨z,w,rfl,rfl,e⟩:=p;refine AM (a7 b8) ?_ (hQ _ (e.trans (Ex.snoc _ _)));have:List.replicate (k6 0 m.length).length (D.bl true)=(List.replicate (k6 0 m.length).length true).map D.bl:=by simp
   rw[this,Y1];simp
 intro n
 induction n with
 |zero =>
  intro k g x y Q E h hQ;have h0:=hQ g (Ex.refl g);cases h with
  |bq =>
   refine call_of h7 rfl ?_;dsimp[A6,d4,List.replicate];left;exact h0
  |bl b=>exact Hr h7 (by simpa using h0)
  |int i =>
   refine call_of h7 rfl ?_;dsimp[A6,d4,List.replicate];left;refine fy (c:="bool") (b:=false) ∅ rfl ?_;left;refine fy (c:="int") (b:=true) ∅ rfl ?_;left;refine GG h6 ?_;left;simpa using h0
  |str x =>
   refine call_of h7 rfl ?_;dsimp[A6,d4,List.replicate];left;refine fy (c:="bool") (b:=false) ∅ rfl ?_;left;refine fy (c:="int") (b:=false) ∅ rfl ?_;left;refine fy (c:="str") (b:=true) ∅ rfl ?_;left;refine fy (c:="str") (b:=true) ∅ rfl ?_;left;simpa using h0
 |succ n ih =>
  intro k g x y Q E h hQ;have h0:=hQ g (Ex.refl g);cases h with
  |bq =>
   refine call_of h7 rfl ?_;dsimp[A6,d4,List.replicate];left;exact h0
  |bl b=>exact Hr h7 (by simpa using h0)
  |int i =>
   refine call_of h7 rfl ?_;dsimp[A6,d4,List.replicate];left;refine fy (c:="bool") (b:=false) ∅ rfl ?_;left;refine fy (c:="int") (b:=true) ∅ rfl ?_;left;refine GG h6 ?_;left;simpa using h0
  |str x =>
   refine call_of h7 rfl ?_;dsimp[A6,d4,List.replicate];left;refine fy (c:="bool") (b:=false) ∅ rfl ?_;left;refine fy (c:="int") (b:=false) ∅ rfl ?_;left;refine fy (c:="str") (b:=true) ∅ rfl ?_;left;refine fy (c:="str") (b:=true) ∅ rfl ?_;left;simpa using h0
  |@tup _ l m hl hs hz =>
   refine call_of h7 rfl ?_;have body:=sE n ih (k:=k) (x:=.tup l) (y:=.tup m) (E:=E) (λ_ _=>rfl) (λ_ _=>rfl) hl hz hs hQ;dsimp[A6,d4,List.replicate];left;refine fy (c:="bool") (b:=false) ∅ rfl ?_;left;refine fy (c:="int") (b:=false) ∅ rfl ?_;left;refine fy (c:="str") (b:=false) ∅ rfl ?_;left;refine fy (c:="tuple") (b:=true) ∅ rfl ?_;left;refine fy (c:="tuple") (b:=true) ∅ rfl ?_;left;refine ke rfl ?_;left;refine fy (c:="list") (b:=false) ∅ rfl ?_;left;refine fy (c:="list") (b:=false) ∅ rfl ?_;left;refine ke rfl (F1 ?_);exact body
  |@lst _ a b l m ha hb hl hs hz =>
   refine call_of h7 rfl ?_;have body:=sE n ih (k:=k) (x:=.ref a) (y:=.ref b) (E:=E) (λg' e=>a7 (e.at ha)) (λg' e=>a7 (e.at hb)) hl hz hs hQ;have ta:∀c,U0 g (.ref a) c=some (c=="list"):=λc=>by simp only[U0,ha]
   have tb:∀c,U0 g (.ref b) c=some (c=="list"):=λc=>by simp only[U0,hb]
   dsimp[A6,d4,List.replicate];left;refine fy (c:="bool") (b:=false) ∅ (tb _) ?_;left;refine fy (c:="int") (b:=false) ∅ (tb _) ?_;left;refine fy (c:="str") (b:=false) ∅ (tb _) ?_;left;refine fy (c:="tuple") (b:=false) ∅ (tb _) ?_;left;refine fy (c:="tuple") (b:=false) ∅ (ta _) ?_;left;refine ke rfl ?_;left;refine fy (c:="list") (b:=true) ∅ (tb _) ?_;left;refine fy (c:="list") (b:=true) ∅ (ta _) ?_;left;refine ke rfl (F1 ?_);exact body
end
theorem Ex.RK(h:Gr g.length g g'):Ex g g':=⟨h.len,λi hi=>h.old i () hi⟩
def fX(a b:List Int):Bool:=a.all λs=>b.any λm=>m==s
section
variable{T:Nat->Option bj}{d:Nat}
theorem FP(ki:T 15=some B6){a b:List Int}(ha:a.length<=1000)(h:∀g',Ex g g'->Q (.bl (fX a b)) g'):b9 T (k+1) 15 [.tup (a.map .int),.tup (b.map .int)] g Q E:=by
 refine call_of ki rfl ?_;dsimp[B6,d4,List.replicate];left;refine C3 (a9 T _) (vF (a9 T _) ?_);left;refine⟨_,rfl,_,λi ys Z g'=>∃z w,ys=((a.take i).map λs=>b.any λm=>m==s).map D.bl/\Z=[some (.tup (b.map .int)),z,w]/\g'=g,by simpa using ha,λi ys Z g' p=>⟨t8,?_⟩,⟨none,none,rfl,rfl,rfl⟩,λi x ys Z g' hx p=>?_,λys Z g' p=>?_⟩
 ·obtain⟨z,w,rfl,_⟩:=p;simp;omega
 ·obtain⟨z,w,rfl,rfl,rfl⟩:=p;rw[aq,ae] at hx;obtain⟨s,hs,rfl⟩:=hx;left;refine AD (P4 ?_);refine⟨_,_,?_,rfl,rfl⟩;rw[cZ,hs];simp
 ·obtain⟨z,w,rfl,rfl,rfl⟩:=p;refine AM (a7 b8) (Y1 _) ?_;have e:((a.take (a.map D.int).length).map λs=>b.any λm=>m==s).all id=fX a b:=by
   simp[fX,List.all_map]
  rw[e];exact h _ (Ex.snoc _ _)
theorem WM(pX:T 17=some K1){a b:List Int}(ha:a.length<=1000)(h:∀g',Ex g g'->Q (.bl (fX a b)) g'):b9 T (k+1) 17 [.tup (a.map .int),.tup (b.map .int)] g Q E:=by
 refine call_of pX rfl ?_;dsimp[K1,d4,List.replicate];left;refine C3 (a9 T _) (vF (a9 T _) ?_);left;refine⟨_,rfl,_,λi ys Z g'=>∃z w,ys=((a.take i).filter λs=>!(b.any λm=>m==s)).map D.int/\ys.length<=i/\Z=[some (.tup (b.map .int)),z,w]/\g'=g,by simpa using ha,λi ys Z g' p=>⟨t8,?_⟩,⟨none,none,rfl,by simp,rfl,rfl⟩,λi x ys Z g' hx p=>?_,λys Z g' p=>?_⟩
 ·obtain⟨z,w,_,h1,_⟩:=p;exact h1
 ·obtain⟨z,w,e,hl,rfl,rfl⟩:=p;rw[aq,ae] at hx;obtain⟨s,hs,rfl⟩:=hx;left;refine AO (P4 ?_);left;cases hc:(b.any λm=>m==s) with
  |true =>
   refine Q3 ⟨_,_,?_,by omega,rfl,rfl⟩;rw[cZ,hs,e];simp[hc]
  |false =>
   refine jT (w_var rfl ⟨_,_,?_,by simp;omega,rfl,rfl⟩);rw[cZ,hs,e];simp[hc]
 ·obtain⟨z,w,e,hl,rfl,rfl⟩:=p;rw[ai,gC] at e;refine uV (a7 b8) ?_;left;have e2:decide ((ys.length:Int)=0)=fX a b:=by
   rw[e,ai,br,bg];unfold fX;rw[cG];constructor
   ·intro h0 s hs;have h1:(a.filter λs=>!(b.any λm=>m==s))=[]:=bH ();rw[gR] at h1;have:=h1 s hs;simpa using this
   ·intro h0;have h1:(a.filter λs=>!(b.any λm=>m==s))=[]:=by
     rw[gR];intro s hs;simpa using h0 s hs
    rw[h1]
    rfl
  rw[e2];exact h _ (Ex.snoc _ _)
theorem TU{kb:Bool->Prop}(hx:PyData.strOk x=true)(h:kb (decide (x="lower")||decide (x="upper"))):tJ g (.str x) (.tup [.str "lower",.str "upper"]) kb:=by
 refine⟨_,.inr ⟨_,[.str "lower",.str "upper"],.str x,rfl,rfl,rfl,by decide +kernel,by exact hx,rfl⟩,?_⟩;have e:∀y:Str,PyData.eqv (.str y) (.str x)=decide (x=y):=λy=>by
  simp only[PyData.eqv];rw[br,gN,bg];exact eq_comm
 simp only[List.any_cons,List.any_nil,Bool.or_false,e];exact h
theorem Ti(Ks:T 40=some M1)(ho:PyData.strOk x=true)(h1:x="lower"\/x="upper"->Q .bq g)(h3:x≠"lower"->x≠"upper"->E ⟨"BadSide"⟩ g):b9 T (k+1) 40 [.str x] g Q E:=by
 refine call_of Ks rfl ?_;dsimp[M1,d4,List.replicate];left;refine AO (TU ho ?_);left;by_cases e:x="lower"\/x="upper"
 ·refine ke (by rw[jt,hZ,bg,bg];exact e) ?_;exact h1 e
 ·refine mD (by rw[YH,xn,cY,cY];exact not_or.mp e) ?_;left;exact h3 (λz=>e (.inl z)) (λz=>e (.inr z))
theorem O0(jC:qz T)(ho:PyData.strOk x=true)(h1:x="lower"->Q (.int 0) g)(h2:x="upper"->Q (.int 2) g)(h3:x≠"lower"->x≠"upper"->E ⟨"BadSide"⟩ g):b9 T (k+2) 19 [.str x] g Q E:=by
 refine call_of jC.1 rfl ?_;dsimp[X2,d4,List.replicate];left;refine Ti jC.2 ho (λhx=>?_) h3;left;by_cases e1:x="lower"
 ·have el:K5 [.tup [.str "lower",.int 0],.tup [.str "upper",.int 2]] x=some (.int 0):=by simp[K5,e1]
  refine HE el ?_;exact h1 e1
 ·have e2:=hx.resolve_left e1;have el:K5 [.tup [.str "lower",.int 0],.tup [.str "upper",.int 2]] x=some (.int 2):=by simp[K5,e1];simp[e2]
  refine HE el ?_;exact h2 e2
def CB(c:a8):Prop:=c.lm.length<=8/\c.um.length<=8
theorem Ts(h1:NF T)(h2:T 2=some x3)(nW:T 12=some o6)(oJ:xc T)(ha:g[a]?=some (.lst (cs.map a8.d)))(hz:cs.length<=1000)(hm:9<cs.length->E ⟨"TooMany"⟩ g)(hb:cs.length<=9->cs.all j4=false->E ⟨"BadCoin"⟩ g)(h:cs.length<=9->cs.all j4=true->Q .bq g):b9 T (k+6) 18 [.ref a] g Q E:=by
 refine call_of oJ.1 rfl ?_;dsimp[Q2,d4,List.replicate];left;rw[ai];refine if2 (λc=>?_) (λc=>?_)
 ·left;exact hm ()
 have h9:cs.length<=9:=by omega
 left;refine L7 (a9 T _) (pM (a9 T _) ?_);left;refine⟨a,_,rfl,a7 ha,cs.map a8.d,λi Z g'=>∃z,Z=[some (.ref a),z]/\g'=g/\(cs.take i).all j4=true,λi Z g' p=>?_,⟨none,rfl,rfl,by simp⟩,λi x Z g' hx p=>?_,λZ g' p=>?_⟩
 ·obtain⟨z,rfl,rfl,_⟩:=p;exact F9 (a7 ha)
 ·obtain⟨z,rfl,rfl,hg⟩:=p;rw[aq,ae] at hx;obtain⟨c,hc,rfl⟩:=hx;refine x8 ?_;left;refine call_of oJ.2 rfl ?_;dsimp[T8,d4,List.replicate];left;refine SS h1 h2 nW ?_;left;cases e:j4 c with
  |true =>
   refine⟨_,rfl,rfl,?_⟩;rw[cZ,hc];simp[hg,e]
  |false =>
   refine AE ?_;left;refine hb h9 ?_;rw[List.all_eq_false];exact⟨c,aC hc,by rw[e];decide⟩
 ·obtain⟨z,rfl,rfl,hg⟩:=p;rw[ai,gC] at hg;exact h h9 hg
def wordOf(cs:List a8):Str:=if 9<cs.length then "TooMany" else if cs.all j4=true then "" else "BadCoin"
theorem SV(h8:T 8=some K0)(uq:T 13=some E8)(yZ:T 28=some P1)(ha:g[a]?=some (.lst (cs.map a8.d)))(hz:cs.length<=1000)(h:∀g',Ex g g'->Q (.str (wordOf cs)) g'):b9 T (k+3) 28 [.ref a] g Q E:=by
 refine call_of yZ rfl ?_;dsimp[P1,d4,List.replicate];left;rw[ai];refine if2 (λc=>?_) (λc=>?_)
 ·left;have:=h g (Ex.refl g);unfold wordOf at this
  rwa [aJ ()] at this
 have h9:¬9<cs.length:=by omega
 left;refine C3 (a9 T _) (pM (a9 T _) ?_);left;refine⟨a,_,rfl,a7 ha,cs.map a8.d,λi ys Z g'=>∃z w,ys=((cs.take i).map j4).map D.bl/\Z=[z,w]/\Ex g g',by simpa using hz,λi ys Z g' p=>?_,⟨none,none,rfl,rfl,Ex.refl g⟩,λi x ys Z g' hx p=>?_,λys Z g' p=>?_⟩
 ·obtain⟨z,w,rfl,rfl,e⟩:=p;exact⟨F9 (a7 (e.at ha)),by simp;omega⟩
 ·obtain⟨z,w,rfl,rfl,e⟩:=p;rw[aq,ae] at hx;obtain⟨c,hc,rfl⟩:=hx;left;refine Wx (d:=g'.length) h8 uq λg2 G2 _=>?_;refine⟨_,_,?_,rfl,e.trans (Ex.RK G2)⟩;rw[cZ,hc];simp
 ·obtain⟨z,w,rfl,rfl,e⟩:=p;refine AM (a7 b8) (Y1 _) ?_;have eb:((cs.take (cs.map a8.d).length).map j4).all id=cs.all j4:=by
   rw[ai,gC,List.all_map]
   rfl
  rw[eb];have h':=h _ (e.trans (Ex.snoc _ (.lst (((cs.take (cs.map a8.d).length).map j4).map D.bl))));unfold wordOf at h';rw[aB h9] at h';cases hc:cs.all j4 with
  |true =>
   rw[hc,aJ rfl] at h';left;exact h'
  |false =>
   rw[hc,aB ∅] at h';left;exact h'
end
section
variable{T:Nat->Option bj}{d:Nat}
theorem Tc(h4:T 4=some p6)(h5:T 5=some T7)(uo:T 14=some K9)(hB:CB c)(D0:d9 g d)(h:∀(c':a8) g',CB c'->d9 g' d->Gr d g g'->Q c'.d g'):b9 T (k+3) 14 [.ref d,c.d] g Q E:=by
 refine call_of uo rfl ?_;dsimp[K9,d4,List.replicate,a8.d];left;refine c7 h4 D0 ∅ ∅ λway g1 _ _ D1 G1=>?_;left;refine c7 h4 (D1.snoc _) ∅ ∅ λr g2 r0 r1 D2 G2=>?_;have e2:=G2.at (i:=g1.length) (by have:=D1.lt;omega) (o:=.lst ([[1,0],[3,3],[8],[-1,2],[0,9],[7,10 ^ 20]].map λl=>D.tup (l.map D.int))) (by simp);obtain⟨v,hv,hm⟩:=n4 (l:=[[1,0],[3,3],[8],[-1,2],[0,9],[7,10 ^ 20]].map λl=>D.tup (l.map D.int)) r0 (by simpa using r1);obtain⟨odd,ho,rfl⟩:=az.mp hm;have tQ:odd.length<=8:=by
  simp only[List.mem_cons,List.mem_nil_iff,or_false] at ho;rcases ho with rfl|rfl|rfl|rfl|rfl|rfl<;>decide
 refine k7 (a7 e2) hv ?_;left;refine zL h4 h5 D2 λf g3 D3 G3=>?_;left;refine c7 h4 (D3.snoc _) ∅ ∅ λr' g4 sJ xK D4 G4=>?_;have e4:=G4.at (i:=g3.length) (by have:=D3.lt;omega) (o:=.lst ([0,100,-1,f].map D.int)) (by simp);obtain⟨v',tM,mF⟩:=n4 (l:=[0,100,-1,f].map D.int) sJ (by simpa using xK);obtain⟨num,_,rfl⟩:=az.mp mF;refine k7 (a7 e4) tM ?_;have G:=G1.trans ((Gr.snoc _ _ _).trans (G2.trans (G3.trans ((Gr.snoc _ _ _).trans G4))));left;refine if2 (λ_=>?_) (λ_=>?_)
 ·left;exact h ⟨num,c.lm,c.up,c.um,c.yr⟩ g4 hB D4 G
 left;refine if2 (λ_=>?_) (λ_=>?_)
 ·left;exact h ⟨c.lo,odd,c.up,c.um,c.yr⟩ g4 ⟨tQ,hB.2⟩ D4 G
 left;refine if2 (λ_=>?_) (λ_=>?_)
 ·left;exact h ⟨c.lo,c.lm,num,c.um,c.yr⟩ g4 hB D4 G
 left;refine if2 (λ_=>?_) (λ_=>?_)
 ·left;exact h ⟨c.lo,c.lm,c.up,odd,c.yr⟩ g4 ⟨hB.1,tQ⟩ D4 G
 left;refine if2 (λ_=>?_) (λ_=>?_)
 ·left;refine zL h4 h5 D4 λf' g5 D5 G5=>?_;left;refine c7 h4 (D5.snoc _) ∅ ∅ λJb g6 nA pG D6 G6=>?_;have e6:=G6.at (i:=g5.length) (by have:=D5.lt;omega) (o:=.lst ([-1,10000,9999,f'].map D.int)) (by simp);obtain⟨YI,yi,yt⟩:=n4 (l:=[-1,10000,9999,f'].map D.int) nA (by simpa using pG);obtain⟨xP,_,rfl⟩:=az.mp yt;refine k7 (a7 e6) yi ?_;left;exact h ⟨c.lo,c.lm,c.up,c.um,xP⟩ g6 hB D6 (G.trans (G5.trans ((Gr.snoc _ _ _).trans G6)))
 left;exact h c g4 hB D4 G
theorem Gy{l:List α}:cut l (some (n:Int)) none=l.drop n:=by
 have:¬((n:Int)<0):=by omega
 unfold cut HT.iV;simp[this];by_cases h:n<=l.length
 ·rw[Nat.min_eq_left h,gP (by simp)]
 ·rw[Nat.min_eq_right (),dt (aj _),dt ()];simp
theorem SM(h4:T 4=some p6)(h5:T 5=some T7)(uo:T 14=some K9)(za:T 27=some E9)(ha:g[a]?=some (.lst (cs.map a8.d)))(hB:∀c∈cs,CB c)(hz:cs.length<=9)(hd:d<a)(D0:d9 g d)(h:∀(iE:List a8) b g',(∀c∈iE,CB c)->iE.length<=11->g'[b]?=some (.lst (iE.map a8.d))->(b=a\/g.length<=b)->d9 g' d->Gr d g g'->Q (.ref b) g'):b9 T (k+4) 27 [.ref d,.ref a] g Q E:=by
 refine call_of za rfl ?_;have dl:=D0.lt;have rest:∀(mO:List a8) b z g1,(∀c∈mO,CB c)->mO.length<=9->g1[b]?=some (.lst (mO.map a8.d))->(b=a\/g.length<=b)->d9 g1 d->Gr d g g1->wpS (b9 T (k+3)) (d8 E9.body) ⟨λ_ g'=>Q .bq g',Q,λ_ _=>False,λ_ _=>False⟩ [some (.ref d),some (.ref b),z] g1 E:=by
  intro mO b z g1 yT jV eb hb D1 G1;have lb:d<b:=by rcases hb with z|z<;>omega
  dsimp[E9,d8];left;rw[ai];refine if2 (λc=>?_) (λc=>?_)
  ·left;refine c7 h4 D1 ∅ ∅ λr g2 r0 r1 D2 G2=>?_;have DE:=G2.at () eb;left;refine if2 (λc=>?_) (λc=>?_)
   ·left;refine Mb DE ∅ ∅ (by simp;omega) ?_;left;have D3:=(D2.snoc (.lst (List.replicate (Int.toNat 10) (mO.map a8.d)).flatten)).snoc (.lst [.int 10,.int 11,.int 9]);refine c7 h4 D3 ∅ ∅ λr3 g3 gh gG D4 G4=>?_;have l2:=D2.lt;have e5:=G4.at (by simp;omega) (b8);have e6:=G4.at () (d6 (o':=.lst [.int 10,.int 11,.int 9]) (b8));obtain⟨x,hx,hm⟩:=n4 (l:=[D.int 10,.int 11,.int 9]) gh (by simpa using gG);have hn:∃n:Nat,x=.int n/\n<=11:=by
     simp only[List.mem_cons,List.mem_nil_iff,or_false] at hm;rcases hm with rfl|rfl|rfl
     ·exact⟨10,rfl,by decide⟩
     ·exact⟨11,rfl,by decide⟩
     ·exact⟨9,rfl,by decide⟩
    obtain⟨n,rfl,hn⟩:=hn;refine k7 (a7 e5) hx ?_;left;refine wI (a7 e6) ?_;have er:(List.replicate (Int.toNat 10) (mO.map a8.d)).flatten=((List.replicate 10 mO).flatten).map a8.d:=by
     rw[List.map_flatten,List.map_replicate]
     rfl
    rw[er,Ae];have lc:(cut (List.replicate 10 mO).flatten none (some (n:Int))).length<=11:=by
     unfold cut;rw[bE];have:HT.iV (List.replicate 10 mO).flatten.length (List.replicate 10 mO).flatten.length (some (n:Int))<=n:=by
      have h0:¬((n:Int)<0):=by omega
      simp only[HT.iV,h0,if_false];omega
     omega
    left;refine h _ _ _ (λc hc=>?_) lc b8 (.inr ?_) (D4.snoc _) ((G1.trans (G2.trans ((Gr.snoc _ _ _).trans ((Gr.snoc _ _ _).trans G4)))).trans (Gr.snoc _ _ _))
    ·have:=Af hc;obtain⟨l,hl,hc⟩:=List.mem_flatten.mp this;rw[List.eq_of_mem_replicate hl] at hc;exact yT c hc
    ·exact(G1.trans (G2.trans ((Gr.snoc _ _ _).trans ((Gr.snoc _ _ _).trans G4)))).len
   ·left;exact h _ _ _ yT () DE hb D2 (G1.trans G2)
  ·left;exact h _ _ _ yT () eb hb D1 G1
 dsimp[E9,d4,List.replicate];left;rw[ai];refine if2 (λc=>?_) (λc=>?_)
 ·left;refine c7 h4 D0 ∅ ∅ λr g2 r0 r1 D2 G2=>?_;have uC:=G2.at () ha;left;refine if2 (λc=>?_) (λc=>?_)
  ·left;rw[ai];refine c7 h4 D2 () () λr3 g3 gh gG D3 G3=>?_;have zv:=G3.at () uC;left;refine wI (a7 zv) ?_;left;obtain⟨c0,rh,e0⟩:=U6 gh gG;refine k7 (a7 (d6 zv)) e0 ?_;left;refine Tc h4 h5 uo (hB c0 rh) (D3.snoc _) λc' g4 iR D4 G4=>?_;left;have l3:=D3.lt;have f1:=G4.at () (b8);have Lj:=G4.at () (d6 (o':=.lst (cut (cs.map a8.d) none (some r3))) zv);rw[Ae] at f1;have YS:=Hf cs none (some r3);have YR:=Hf cs (some (r3+1)) none;refine AN (d6 f1) b8 (by simp;omega) ?_;left;refine GS (a7 (d6 (d6 Lj))) ?_;rw[Ae];refine AN (d6 b8) b8 (by simp;omega) ?_;have er:List.map a8.d (cut cs none (some r3))++[c'.d]++List.map a8.d (cut cs (some (r3+1)) none)=(cut cs none (some r3)++[c']++cut cs (some (r3+1)) none).map a8.d:=by simp
   rw[er];walk_at "w1";walk_at "w1";have vc:=G2.trans (G3.trans ((Gr.snoc _ _ _).trans G4));have Ja:∃n:Nat,r3=n:=⟨r3.toNat,by omega⟩
   obtain⟨n3,rfl⟩:=Ja;have l9:(cut cs none (some (n3:Int))++[c']++cut cs (some ((n3:Int)+1)) none).length<=9:=by
    rw[Gx (),show((n3:Int)+1)=((n3+1:Nat):Int) by omega,Gy];simp;omega
   refine rest _ _ _ _ (λc hc=>?_) l9 b8 (.inr ?_) ((((D4.snoc _).snoc _).snoc _).snoc _) (vc.trans ((Gr.snoc _ _ _).trans ((Gr.snoc _ _ _).trans ((Gr.snoc _ _ _).trans (Gr.snoc _ _ _)))))
   ·rcases aT.mp hc with z|z
    ·rcases aT.mp z with z|z
     ·exact hB c (Af z)
     ·simp at z;subst z;exact iR
    ·exact hB c (Af z)
   ·have:=vc.len;simp;omega
  ·refine F1 ?_;exact rest _ _ _ _ hB hz uC (.inl rfl) D2 G2
 ·walk_at "w1";refine F1 ?_;exact rest _ _ _ _ hB hz ha (.inl rfl) D0 (Gr.refl _ _)
end
def t7:bj:=⟨3,5,(eW (dJ .NotEq (cN aM bL) (cN bh bL)) (dj (.lit (.bl false))) (dy 3 (cN aM (bI (.bin .Add) bL (aP 1))) (dy 4 (cN bh (bI (.bin .Add) bL (aP 1))) (dj (.dI (.dQ (dB 15 dh dg)) (.dQ (dB 15 dg dh)))))))⟩
def u6:bj:=⟨3,6,(nX (.many [3,4]) (.kG bh) (fo (.fE (.one 5) (.gL (bI (.kE true false) bh (bI (.bin .Add) dh (aP 1)))) (fo (.ifs (.fh (kF 31 (cN aM dg) (cN aM eJ) bL)) (dj (bI .tup dg eJ)) .pass)))) (dj (.lit .bq)))⟩
def A3(f:Int)(c:a8):Int:=if f=0 then c.lo else c.up
def v8(f:Int)(c:a8):List Int:=if f=0 then c.lm else c.um
def T4(f:Int)(c e:a8):Bool:=decide (A3 f c=A3 f e)&&(!fX (v8 f c) (v8 f e)&&!fX (v8 f e) (v8 f c))
def F6(cs:List a8)(f:Int)(i j:Nat):Bool:=match cs[i]?,cs[j]? with
 |some c,some e=>T4 f c e
 |_,_=>false
def n9(p:Nat->Nat->Bool):List Nat->Option (Nat×Nat)
 |[]=>none
 |i::r=>match r.find? (p i) with
  |some j=>some (i,j)
  |none=>n9 p r
def pairD:Option (Nat×Nat)->D
 |some (i,j)=>.tup [.int i,.int j]
 |none=>.bq
theorem CB.Cp(h:CB c)(f:Int):(v8 f c).length<=1000:=by
 unfold v8;split
 ·have:=h.1;omega
 ·have:=h.2;omega
theorem S3(hf:f=0\/f=2)(c:a8):fU [D.int c.lo,D.tup (c.lm.map .int),D.int c.up,D.tup (c.um.map .int),D.int c.yr] f=some (.int (A3 f c)):=by
 rcases hf with rfl|rfl<;>rfl
theorem O3(hf:f=0\/f=2)(c:a8):fU [D.int c.lo,D.tup (c.lm.map .int),D.int c.up,D.tup (c.um.map .int),D.int c.yr] (f+1)=some (.tup ((v8 f c).map .int)):=by
 rcases hf with rfl|rfl<;>rfl
section
variable{T:Nat->Option bj}{d:Nat}
theorem Tt(ki:T 15=some B6)(lW:T 31=some t7)(hf:f=0\/f=2){e:a8}(hc:CB c)(he:CB e)(h:∀g',Ex g g'->Q (.bl (T4 f c e)) g'):b9 T (k+2) 31 [c.d,e.d,.int f] g Q E:=by
 refine call_of lW rfl ?_;dsimp[t7,d4,List.replicate,a8.d];left;refine B9 (S3 hf c) ?_;left;refine B9 (S3 hf e) ?_;left;refine Rt (λc1=>?_) (λc1=>?_)
 ·left;refine B9 (O3 hf c) ?_;left;refine B9 (O3 hf e) ?_;left;refine FP ki (hc.Cp f) λg1 e1=>?_;left;have hh:∀g',Ex g g'->Q (.bl (!fX (v8 f c) (v8 f e)&&!fX (v8 f e) (v8 f c))) g':=λg' e'=>by
   have:=h g' e';unfold T4 at this
   rwa [aQ c1,fW] at this
  cases w1:fX (v8 f c) (v8 f e) with
  |true =>
   rw[w1] at hh;left;exact hh g1 e1
  |false =>
   rw[w1] at hh;left;refine FP ki (he.Cp f) λg2 e2=>?_;left;exact hh g2 (e1.trans e2)
 ·left;have:=h g (Ex.refl g);unfold T4 at this
  rwa [aR c1,iL] at this
end
def a8.py(c:a8):PyData:=.tuple [.int c.lo,.tuple (c.lm.map .int),.int c.up,.tuple (c.um.map .int),.int c.yr]
theorem XS(c:a8):rd g (n+2) c.d=some c.py:=by
 unfold a8.d a8.py;simp only[rd,List.mapM_cons,List.mapM_nil,K8]
 rfl
theorem Fb(h:c8 g a=some (cs.map a8.d)):rd g 6 (.ref a)=some (.list (cs.map a8.py)):=by
 simp only[rd];rw[h];dsimp only;have:(cs.map a8.d).mapM (rd g 5)=some (cs.map a8.py):=by
  clear h
  induction cs with
  |nil=>rfl
  |cons c r ih =>
   rw[aZ,mW,XS (n:=3) c];simp[ih]
 rw[this]
 rfl
theorem TZ(c:a8):c.py.canLay0=true:=by
 unfold a8.py;simp[PyData.canLay0,PyData.canLayAll0,lay_ints]
theorem FA(cs:List a8):(PyData.list (cs.map a8.py)).canLay0=true:=by
 simp only[PyData.canLay0]
 induction cs with
 |nil=>rfl
 |cons c r ih=>simp[PyData.canLayAll0,TZ,ih]
theorem TL(ms:List Int):PyData.eqvAll (ms.map PyData.int) (ms.map PyData.int)=true:=by rw[Q4];simp
theorem TK(c:a8):PyData.eqv c.py c.py=true:=by
 unfold a8.py;simp[PyData.eqv,PyData.eqvAll,TL]
theorem Vo(cs:List a8):PyData.eqv (.list (cs.map a8.py)) (.list (cs.map a8.py))=true:=by
 simp only[PyData.eqv]
 induction cs with
 |nil=>rfl
 |cons c r ih=>simp[PyData.eqvAll,TK,ih]
theorem TJ{k:Bool->Prop}(ha:g[a]?=some (.lst (cs.map a8.d)))(hb:g[b]?=some (.lst (cs.map a8.d)))(h:k true):qb g (.ref a) (.ref b) k:=by
 refine⟨_,.inr (.inr (.inr ⟨_,_,Fb (a7 ha),Fb (a7 hb),FA cs,FA cs,rfl⟩)),?_⟩;rw[Vo];exact h
def wm:bj:=⟨1,1,(eW (dJ .Eq (dB 4 aM (aP 14)) (aP 9)) (dj (cN (.prim .lst (sj (iP "") (iP "Lower") (iP "both") (iP "upper "))) (dB 4 aM (aP 4)))) (dj (cN (bI .lst (iP "lower") (iP "upper")) (dB 4 aM (aP 2)))))⟩
section
variable{T:Nat->Option bj}{d:Nat}
theorem Yj(h4:T 4=some p6)(yY:T 29=some wm)(D0:d9 g d)(h:∀x g',PyData.strOk x=true->d9 g' d->Gr d g g'->Q (.str x) g'):b9 T (k+2) 29 [.ref d] g Q E:=by
 refine call_of yY rfl ?_;dsimp[wm,d4,List.replicate];left;refine c7 h4 D0 ∅ ∅ λr g1 _ _ D1 G1=>?_;left;refine if2 (λc=>?_) (λc=>?_)
 ·left;refine c7 h4 (D1.snoc _) ∅ ∅ λr g2 r0 r1 D2 G2=>?_;have e2:=G2.at (i:=g1.length) (by have:=D1.lt;omega) (o:=.lst (([("":Str),("Lower":Str),("both":Str),("upper ":Str)]:List Str).map D.str)) (by simp);obtain⟨v,hv,hm⟩:=n4 (l:=([("":Str),("Lower":Str),("both":Str),("upper ":Str)]:List Str).map D.str) r0 (by simpa using r1);obtain⟨x,hx,rfl⟩:=az.mp hm;refine k7 (a7 e2) hv ?_;left;refine h x g2 ?_ D2 (G1.trans ((Gr.snoc _ _ _).trans G2));simp only[List.mem_cons,List.mem_nil_iff,or_false] at hx;rcases hx with rfl|rfl|rfl|rfl<;>decide +kernel
 ·left;refine c7 h4 (D1.snoc _) ∅ ∅ λr g2 r0 r1 D2 G2=>?_;have e2:=G2.at (i:=g1.length) (by have:=D1.lt;omega) (o:=.lst (([("lower":Str),("upper":Str)]:List Str).map D.str)) (by simp);obtain⟨v,hv,hm⟩:=n4 (l:=([("lower":Str),("upper":Str)]:List Str).map D.str) r0 (by simpa using r1);obtain⟨x,hx,rfl⟩:=az.mp hm;refine k7 (a7 e2) hv ?_;left;refine h x g2 ?_ D2 (G1.trans ((Gr.snoc _ _ _).trans G2));simp only[List.mem_cons,List.mem_nil_iff,or_false] at hx;rcases hx with rfl|rfl<;>decide +kernel
end
theorem Vv{kb:Bool->Prop}(ha:g[a]?=some (.lst [.str "lower",.str "upper"]))(hx:PyData.strOk x=true)(h:kb (decide (x="lower")||decide (x="upper"))):tJ g (.str x) (.ref a) kb:=by
 refine⟨_,.inr ⟨_,[.str "lower",.str "upper"],.str x,a7 ha,rfl,rfl,by simp only[PyData.canLayAll0,PyData.canLay0,Bool.and_true];decide +kernel,by simp only[PyData.canLay0];exact hx,rfl⟩,?_⟩;have e:∀y:Str,PyData.eqv (.str y) (.str x)=decide (x=y):=λy=>by
  simp only[PyData.eqv];rw[br,gN,bg];exact eq_comm
 simp only[List.any_cons,List.any_nil,Bool.or_false,e];exact h
theorem VG(ha:g[a]?=some (.lst l))(hb:g[b]?=some (.lst l))(h:∀x∈l,(∃i,x=.int i)\/∃y,x=.str y)(hz:l.length<=1000):u9 g 1 (.ref a) (.ref b):=by
 refine .lst ha hb rfl (λi x y hx hy=>?_) hz;rw[hx] at hy;cases hy;rcases h x (aC hx) with⟨j,rfl⟩|⟨y,rfl⟩
 ·exact .int _
 ·exact .str _
def cD:a8:=⟨0,[],0,[],0⟩
noncomputable abbrev fF(cs:List a8)(i:Nat):a8:=cs.getD i cD
theorem zI(h:cs[i]?=some c):fF cs i=c:=by simp[fF,List.getD,h]
inductive RW where
 |og|lower|upper
def RW.s:RW->Str
 |.og=>"coin"
 |.lower=>"lower"
 |.upper=>"upper"
def meant(cs:List a8)(w:RW)(x:Int)(i:Nat):Bool:=match w with
 |.og=>decide ((i:Int)=x)
 |.lower=>decide ((fF cs i).lo=x)
 |.upper=>decide ((fF cs i).up=x)
def kY(cs:List a8)(w:RW)(x:Int):List Nat:=(List.range cs.length).filter (meant cs w x)
def d0(l:List Nat):List D:=l.map λ(i:Nat)=>D.int i
def w6:bj:=⟨3,4,(eW (.dQ (.fh (iS 38 bL))) (dj (.prim .lst .nil)) (eW (dJ .Eq bh (iP "coin")) (dj (.comp [2] 3 (.one 2) (.eK (dX .len aM)) (dJ .Eq bL aM) bL)) (dy 3 (iS 19 bh) (dj (.comp [3,2] 5 (.many [3,4]) (.kG aM) (dJ .Eq (cN dg aM) bh) dh)))))⟩
section
variable{P:eT}{Z:S}{t:MT}{it c elt:ME}{d7:List Nat}
theorem L3(hP:i4 P)(Sh:S->Prop)(p:Nat->Bool)(w:Nat->D){k:IK}(hk:∀g',Ex g g'->k.Is l g')(hl:l.length<=1000)(h0:Sh (C8 Z d7 n))(hs:∀i d Z g',l[i]?=some d->Ex g g'->Sh Z->jl t d Z λcS=>dG P c cS g' (λb g3=>b=p i/\Ex g g3/\if b=true then aS P elt cS g3 (λy g4=>y=w i/\Ex g g4/\Sh cS) ja else Sh cS) ja)(hd:∀g',Ex g g'->Q (.ref g'.length) (g'++[.lst (((List.range l.length).filter p).map w)]))(hi:∀R:IK->G->Prop,R k g->gT P it Z g R E):aS P (.comp d7 n t it c elt) Z g Q E:=by
 refine C3 hP (hi _ ?_);refine⟨l,λi ys Z g'=>Ex g g'/\ys=((List.range i).filter p).map w/\Sh Z,hl,λi ys Z g' q=>⟨hk _ q.1,?_⟩,⟨Ex.refl _,rfl,h0⟩,λi x ys Z g' hx q=>?_,λys Z g' q=>?_⟩
 ·obtain⟨_,rfl,_⟩:=q;rw[ai];exact aE (bo _ _) (by simp)
 ·obtain⟨e1,rfl,sh⟩:=q;refine w9 (λcS q=>o7 hP c _ _ _ _ _ _ (λb g3 q=>?_) (λ_ _ z=>z) q) (hs i x Z g' hx e1 sh);obtain⟨rfl,e3,q⟩:=q;have ef:((List.range (i+1)).filter p).map w=((List.range i).filter p).map w++if p i=true then[w i] else[]:=by
   rw[ee,bx,bc];cases z:p i<;>simp only[List.filter_cons,z,List.filter_nil]<;>rfl
  cases hp:p i with
  |true =>
   rw[hp] at q ef;refine b7 hP elt _ _ _ _ _ _ (λy g4 q=>?_) (λ_ _ z=>z) q;obtain⟨rfl,e4,sh⟩:=q;exact⟨e4,by rw[ef];rfl,sh⟩
  |false =>
   simp_all
 ·obtain⟨e1,rfl,sh⟩:=q;exact hd g' e1
theorem comp_map(hP:i4 P)(Sh:S->Prop)(w:Nat->D){k:IK}(hk:∀g',Ex g g'->k.Is l g')(hl:l.length<=1000)(h0:Sh (C8 Z d7 n))(hs:∀i d Z g',l[i]?=some d->Ex g g'->Sh Z->jl t d Z λcS=>aS P elt cS g' (λy g4=>y=w i/\Ex g g4/\Sh cS) ja)(hd:∀g',Ex g g'->Q (.ref g'.length) (g'++[.lst ((List.range l.length).map w)]))(hi:∀R:IK->G->Prop,R k g->gT P it Z g R E):aS P (.comp d7 n t it .no elt) Z g Q E:=by
 refine L3 hP Sh (λ_=>true) w hk hl h0 (λi d Z g' hx e sh=>w9 (λcS q=>wz ⟨rfl,e,?_⟩) (hs i d Z g' hx e sh)) (λg' e=>?_) hi
 ·exact jT q
 ·have:=hd g' e
  rwa [show(List.range l.length).filter (λ_=>true)=List.range l.length from List.filter_eq_self.mpr λ_ _=>rfl]
theorem AF(hP:i4 P){o:ME}(hl:c8 g a=some l)(h:∀Q:KD,Q (.ref a) g->aS P o Z g Q E):∀R:IK->G->Prop,R (.lst a) g->gT P (.gL o) Z g R E:=λR r=>pM hP (h _ ⟨a,l,rfl,hl,r⟩)
theorem Rv{o:ME}(hl:c8 g a=some l)(h:∀Q:KD,Q (.ref a) g->aS P o Z g Q E):∀R:IK->G->Prop,R (.qc a) g->gT P (.kG o) Z g R E:=λR r=>Ct (h _ ⟨a,l,rfl,hl,r⟩)
theorem DY(hP:i4 P){j:Nat}{o:ME}(hj:j<=1000)(h:∀Q:KD,Q (.int (j:Nat)) g->aS P o Z g Q E):∀R:IK->G->Prop,R (.fix (k6 0 j)) g->gT P (.eK o) Z g R E:=λR r=>rF hP (h _ ⟨j,rfl,by omega,by omega,by simpa using r⟩)
end
section
variable{T:Nat->Option bj}{d:Nat}
theorem FH(h1:NF T)(jC:qz T)(lh:T 74=some w6){x:Int}(ha:g[a]?=some (.lst (cs.map a8.d)))(hz:cs.length<=1000)(h:∀g' b,Ex g g'->g.length<=b->g'[b]?=some (.lst (d0 (kY cs w x)))->Q (.ref b) g'):b9 T (k+3) 74 [.ref a,.str w.s,.int x] g Q E:=by
 refine call_of lh rfl ?_;dsimp[w6,d4,List.replicate];left;refine X7 h1 ?_;left;have fld:∀f:Int,(f=0\/f=2)->(∀i c,cs[i]?=some c->meant cs w x i=decide (A3 f c=x))->aS (b9 T (k+2)) (.comp [3,2] 5 (.many [3,4]) (.kG (.var 0)) (.fh (.prim (.cmp .Eq) (.cons (.prim .ix (.cons (.var 4) (.cons (.var 0) .nil))) (.cons (.var 1) .nil)))) (.var 3)) [some (.ref a),some (.str w.s),some (.int x),some (.int f)] g Q E:=λf hf hm=>by
  refine L3 (a9 T _) (λZ=>∃z2 z3 z4,Z=[some (.int f),some (.int x),z2,z3,z4]) (meant cs w x) (λi=>.int (i:Nat)) (λg' e=>GC (a7 (e.at ha))) (by rw[Ai];simpa using hz) ⟨none,none,none,rfl⟩ (λi d Z g' hx e sh=>?_) (λg' e=>?_) (Rv (a7 ha) λQ q=>w_var rfl q)
  ·obtain⟨z2,z3,z4,rfl⟩:=sh;obtain⟨dd,hd,rfl⟩:=Hl hx;rw[aq,ae] at hd;obtain⟨c,hc,rfl⟩:=hd;refine Y8 rfl ?_;left;refine B9 (S3 hf c) ?_;left;rw[hm i c hc];refine⟨rfl,e,?_⟩;refine if2 (λ_=>?_) (λ_=>?_)
   ·left;exact⟨rfl,e,_,_,_,rfl⟩
   ·exact⟨_,_,_,rfl⟩
  ·rw[Ai,ai];exact h _ _ (e.trans (Ex.snoc _ _)) e.len b8
 cases w with
 |og =>
  refine mD (by decide +kernel) ?_;left;refine L3 (a9 T _) (λZ=>∃z1 z2,Z=[some (.int x),z1,z2]) (meant cs .og x) (λi=>.int (i:Nat)) (λg' e=>t8) (by rw[l0];exact hz) ⟨none,none,rfl⟩ (λi d Z g' hx e sh=>?_) (λg' e=>?_) (DY (a9 T _) hz λQ q=>?_)
  ·obtain⟨z2,z3,rfl⟩:=sh;obtain⟨hi,rfl⟩:=E3 hx;rw[jN];refine x8 ?_;left;refine⟨rfl,e,?_⟩;refine if2 (λ_=>?_) (λ_=>?_)
   ·left;exact⟨rfl,e,_,_,rfl⟩
   ·exact⟨_,_,rfl⟩
  ·rw[l0];exact h _ _ (e.trans (Ex.snoc _ _)) e.len b8
  ·left;rw[ai];exact q
 |lower =>
  refine ke (by decide +kernel) ?_;left;refine O0 jC (by decide +kernel) (λ_=>?_) (λz=>absurd z (by decide +kernel)) (λz=>absurd rfl z);exact fld 0 (.inl rfl) λi c hc=>by simp only[meant,zI hc];rfl
 |upper =>
  refine ke (by decide +kernel) ?_;left;refine O0 jC (by decide +kernel) (λz=>absurd z (by decide +kernel)) (λ_=>?_) (λ_ z=>absurd rfl z);exact fld 2 (.inr rfl) λi c hc=>by simp only[meant,zI hc];rfl
end
theorem V3{a b:List Int}:fX a b=true↔∀x∈a,x∈b:=by
 unfold fX;simp only[List.all_eq_true,List.any_eq_true,beq_iff_eq,exists_eq_right]
theorem ED{a b:List Int}(ha:gm 0 a=true)(hb:gm 0 b=true)(h:fX a b=true):a.Sublist b:=by
 have ea:=aW ((O9 a).symm.trans ha);have eb:=aW ((O9 b).symm.trans hb);have h:=V3.mp h;have key:∀F:List Int,(F.filter λs=>a.any λm=>m==s).Sublist (F.filter λs=>b.any λm=>m==s):=λF=>by
  have:(F.filter λs=>a.any λm=>m==s)=(F.filter λs=>b.any λm=>m==s).filter λs=>a.any λm=>m==s:=by
   rw[List.filter_filter];refine YG λx _=>?_;rw[br,bR];simp only[List.any_eq_true,beq_iff_eq,exists_eq_right];exact⟨λz=>⟨z,h x z⟩,λz=>z.1⟩
  rw[this];exact List.filter_sublist
 have k:=key ((List.range 8).map λ(n:Nat)=>(n:Int));rw[<- ea,<- eb] at k;exact k
theorem AB(a:List Int):fX a a=true:=V3.mpr λ_ h=>h
theorem QB{a b c:List Int}(h1:fX a b=true)(h2:fX b c=true):fX a c=true:=V3.mpr λx h=>V3.mp h2 x (V3.mp h1 x h)
theorem FZ{p:Nat->Nat->Bool}:∀{l:List Nat},n9 p l=none↔l.Pairwise λi j=>p i j=false
 |[]=>⟨λ_=>.nil,λ_=>rfl⟩
 |i::r=>by
  rw[bO,<- FZ,n9];cases e:r.find? (p i) with
  |some j =>
   refine⟨λh=>(nomatch h),λh=>?_⟩;have h1:=h.1 j (fJ e);rw[lE e] at h1;cases h1
  |none =>
   rw[dq] at e;exact⟨λh=>⟨λj hj=>by simpa using e j hj,h⟩,λh=>h.2⟩
section
def N6(m:Nat->List Int)(i j:Nat):Bool:=!fX (m i) (m j)&&!fX (m j) (m i)
def i7(m:Nat->List Int)(P:List Nat)(n:Nat):List Nat:=P.filter λp=>decide ((m p).length=n)
def A1(m:Nat->List Int)(P:List Nat)(n:Nat):List Nat:=(List.range n).filter λs=>!(i7 m P s).isEmpty
def o8(m:Nat->List Int)(P:List Nat)(n:Nat):List (List Nat):=(A1 m P n).map (i7 m P)
def C2(m:Nat->List Int)(P:List Nat)(n:Nat):Prop:=∀p∈P,∀q∈P,(m p).length<=(m q).length->(m q).length<n->fX (m p) (m q)=true
theorem v9:p∈i7 m P n↔p∈P/\(m p).length=n:=by
 unfold i7;rw[cA,bg]
theorem R5{s:Nat}:s∈A1 m P n↔s<n/\∃p∈P,(m p).length=s:=by
 unfold A1;rw[cA,dN];refine and_congr_right λ_=>?_;cases e:i7 m P s with
 |nil=>exact⟨λh=>(nomatch h),λ⟨p,h1,h2⟩=>by have:=v9.mpr ⟨h1,h2⟩;rw[e] at this;cases this⟩
 |cons p r=>exact⟨λ_=>⟨p,v9.mp (by rw[e];exact aL)⟩,λ_=>rfl⟩
theorem GR:(A1 m P n).Pairwise (· < ·):=gQ.filter _
theorem UM:A1 m P (n+1)=A1 m P n++if(i7 m P n).isEmpty=true then[] else[n]:=by
 unfold A1;rw[ee,bx,eX,List.filter_nil];cases (i7 m P n).isEmpty<;>rfl
variable(hG:∀p∈P,gm 0 (m p)=true)
include hG
theorem Ad(h8:∀p∈P,(m p).length<n):C2 m P n↔n9 (N6 m) P=none:=by
 rw[FZ,om];constructor
 ·intro h i j hi hj _;have p1:=cF hi;have p2:=cF hj;unfold N6;rcases Nat.le_total (m P[i]).length (m P[j]).length with c|c
  ·rw[h _ p1 _ p2 c (h8 _ p2)];rfl
  ·rw[h _ p2 _ p1 c (h8 _ p1),Bool.not_true,Bool.and_false]
 ·intro h p hp q hq c _;obtain⟨i,hi,rfl⟩:=BE hp;obtain⟨j,hj,rfl⟩:=BE hq;have w:N6 m P[i] P[j]=false:=by
   rcases fO i j with c|c|c
   ·exact h i j hi hj c
   ·subst c;unfold N6;rw[AB];rfl
   ·have:=h j i hj hi c;unfold N6 at this ⊢;rw[Bool.and_comm];exact this
  cases w1:fX (m P[i]) (m P[j]) with
  |true=>rfl
  |false =>
   unfold N6 at w;rw[w1,Bool.not_false,fW,jt] at w;have s:=ED (hG _ hq) (hG _ hp) w;rw[s.eq_of_length (Nat.le_antisymm s.length_le c),AB] at w1;cases w1
theorem Ax{q:Nat}(hp:p∈P)(hq:q∈P)(e:(m p).length=(m q).length)(h:fX (m p) (m q)=true):m p=m q:=(ED (hG p hp) (hG q hq) h).eq_of_length e
theorem Xl(hn:n<k)(h:J8 ((i7 m P n).map m)=true):¬C2 m P k:=λhc=>by
 obtain⟨x,hx,y,hy,e⟩:=N7.mp h;obtain⟨p,hp,rfl⟩:=az.mp hx;obtain⟨q,hq,rfl⟩:=az.mp hy;have p1:=v9.mp hp;have q1:=v9.mp hq;have le:(m p).length=(m q).length:=by rw[p1.2,q1.2]
 exact e (Ax hG p1.1 q1.1 le (hc p p1.1 q q1.1 (fm le) ()))
omit hG in
theorem GF(h:J8 ((i7 m P n).map m)=false){q:Nat}(hp:p∈i7 m P n)(hq:q∈i7 m P n):m p=m q:=by
 refine Decidable.byContradiction λe=>?_;rw[N7.mpr ⟨_,az.mpr ⟨p,hp,rfl⟩,_,az.mpr ⟨q,hq,rfl⟩,e⟩] at h;cases h
omit hG in
theorem EI{h0:Nat}{t:List Nat}(hc:C2 m P n)(e:i7 m P n=h0::t)(hx:J8 ((i7 m P n).map m)=false)(hl:∀s∈(A1 m P n).getLast?,∃q∈P,(m q).length=s/\fX (m q) (m h0)=true):C2 m P (n+1):=by
 have m0:h0∈i7 m P n:=by rw[e];exact aL
 intro p hp q hq c1 c2;by_cases c3:(m q).length<n
 ·exact hc p hp q hq c1 c3
 ·have kH:q∈i7 m P n:=v9.mpr ⟨hq,by omega⟩;rw[GF hx kH m0];by_cases c4:(m p).length=n
  ·rw[GF hx (v9.mpr ⟨hp,c4⟩) m0];exact AB _
  ·have ps:(m p).length∈A1 m P n:=R5.mpr ⟨by omega,p,hp,rfl⟩;rcases ip (A1 m P n) with z|⟨pre,s,z⟩
   ·rw[z] at ps;cases ps
   ·rw[iq] at z;have hs:s∈(A1 m P n).getLast?:=by rw[z];simp
    obtain⟨u,hu,rfl,hw⟩:=hl s hs;have le:(m p).length<=(m u).length:=by
     have pw:=GR (m:=m) (P:=P) (n:=n);rw[z] at pw ps;rcases aT.mp ps with z2|z2
     ·exact bX ((xi.mp pw).2.2 _ z2 _ (by simp))
     ·exact fm (by simpa using z2)
    have us:(m u).length∈A1 m P n:=by rw[z];simp
    exact QB (hc p hp u hu le (R5.mp us).1) hw
omit hG in
theorem cmp_none(hc:C2 m P n)(e:i7 m P n=[]):C2 m P (n+1):=λp hp q hq c1 c2=>hc p hp q hq c1 (by
 refine Ir () λz=>?_;have:=v9.mpr ⟨hq,z⟩;rw[e] at this;cases this)
theorem Yu{u h0:Nat}(hn:n<k)(hu:u∈P)(lu:(m u).length<n)(h:h0∈i7 m P n)(hw:fX (m u) (m h0)=false):¬C2 m P k:=λhc=>by
 have:=v9.mp h;rw[hc u hu h0 this.1 () ()] at hw;cases hw
omit hG in
theorem Tx:C2 m P 0:=λ_ _ _ _ _ h=>absurd h (dZ _)
end
theorem GL:∀{l m:List Nat},l.Pairwise (· < ·)->m.Pairwise (· < ·)->(∀x,x∈l↔x∈m)->l=m
 |[],[],_,_,_=>rfl
 |[],y::m,_,_,h=>absurd ((h y).mpr aL) (by simp)
 |x::l,[],_,_,h=>absurd ((h x).mp aL) (by simp)
 |x::l,y::m,h1,h2,h=>by
  rw[bO] at h1 h2;have e:x=y:=by
   rcases av.mp ((h x).mp aL) with z|z
   ·exact z
   ·rcases av.mp ((h y).mpr aL) with w|w
    ·exact w.symm
    ·have:=h1.1 _ w;have:=h2.1 _ z;omega
  subst e;rw[GL h1.2 h2.2 λz=>?_];constructor
  ·intro hz;rcases av.mp ((h z).mp (aI _ hz)) with w|w
   ·have:=h1.1 z hz;omega
   ·exact w
  ·intro hz;rcases av.mp ((h z).mpr (aI _ hz)) with w|w
   ·have:=h2.1 z hz;omega
   ·exact w
def A9:bj:=⟨3,3,(fo (.ifs (.dQ (.fh (kF 74 aM bh bL))) (fo (.raise "NoDie" (ku (iP "no coin is of that die")))) .pass))⟩
def E7:bj:=⟨3,7,(vo (iS 18 aM) (dy 3 (iS 19 bh) (vo (kF 75 aM bh bL) (dy 4 (kF 74 aM bh bL) (eW (dJ .IsNot (kF 32 aM dg dh) (.lit .bq)) (dj (.lit .bq)) (dy 5 (.prim .Q5 .nil) (nX (.one 6) (.gL dg) (fo (.expr (.eI .append (.eI .nv eJ (vt (cN (cN aM fC) (bI (.bin .Add) dh (aP 1))) (.prim .lst .nil))) (ku fC)))) (dj (.comp [5] 3 (.one 2) (.gL (dX .ju eJ)) .no (cN aM bL))))))))))⟩
def P0:bj:=⟨2,2,(eW (.jm (dJ .Eq (dX .len bh) (aP 0)) (dJ .Eq (dB 4 aM (aP 10)) (aP 4))) (dj (dB 36 aM (bI (.bin .Add) (aP 3) (dX .len bh)))) (dj (cN bh (dB 4 aM (dX .len bh)))))⟩
def wC:bj:=⟨3,3,(fo (.S6 (dj (kF 35 aM bh bL)) [("TooMany",(.prim .lst (.cons (.lit (.str "TooMany")) .nil))),("BadCoin",(.prim .lst (.cons (.lit (.str "BadCoin")) .nil))),("BadSide",(.prim .lst (.cons (.lit (.str "BadSide")) .nil))),("NoDie",(.prim .lst (.cons (.lit (.str "NoDie")) .nil)))]))⟩
def Q1:bj:=⟨3,9,(dy 3 (.ite (dJ .Eq bh (iP "lower")) (aP 0) (aP 2)) (dy 4 (.comp [3,0,2] 5 (.one 4) (.eK (dX .len aM)) (dJ .Eq (cN (cN bh dg) aM) bL) dg) (eW (dJ .NotIn bh (bI .lst (iP "lower") (iP "upper"))) (dj (dX .lst (iP "BadSide"))) (eW (dJ .Eq (dX .len dg) (aP 0)) (dj (dX .lst (iP "NoDie"))) (dy 5 (.prim .lst .nil) (nX (.one 6) (.eK (aP 9)) (dy 7 (.comp [3,0,6] 5 (.one 4) (.gL dg) (dJ .Eq (dX .len (cN (cN bh dg) (bI (.bin .Add) aM (aP 1)))) bL) dg) (eW (.fh (dX .mixed (.comp [3,0] 4 (.one 3) (.gL fY) .no (cN (cN bh dh) (bI (.bin .Add) aM (aP 1)))))) (dj (.lit .bq)) (fo (.ifs (dJ .Gt (dX .len fY) (aP 0)) (dy 8 (.ite (dJ .Gt (dX .len eJ) (aP 0)) (cN (cN aM (cN (cN eJ (dX (.un .USub) (aP 1))) (aP 0))) (bI (.bin .Add) dh (aP 1))) (.prim .tup .nil)) (eW (.dQ (.fh (dB 17 jf (cN (cN aM (cN fY (aP 0))) (bI (.bin .Add) dh (aP 1)))))) (dj (.lit .bq)) (fo (.expr (.eI .append eJ (ku fY)))))) .pass)))) (dj eJ)))))))⟩
def uP:bj:=⟨1,11,(dy 1 (iS 3 aM) (nX (.one 2) (.eK (aP 4)) (dy 3 (dB 27 bh (cN (dB 26 bh (aP 9)) (aP 0))) (dy 4 (iS 29 bh) (dy 5 (dB 37 bh (.comp [4] 3 (.one 2) (.gL dh) .no (cN bL (.ite (dJ .Eq aM (iP "lower")) (aP 0) (aP 2))))) (dy 6 (iS 28 dh) (dy 7 (.ite (dJ .NotEq fC (iP "")) (dX .lst fC) (kF 34 dh dg eJ)) (dy 8 (dX .list dh) (fo (.fE (.one 9) (.eK (aP 2)) (dy 10 (kF 30 jf dg eJ) (eW (.jm (dJ .NotEq jf dh) (.dQ (.fh (dB 7 iw fY)))) (dj (.lit (.bl false))) (fo (.ifs (dJ .IsNot iw (.lit .bq)) (eW (.fh (bI .isin (cN iw (aP 0)) (.lit (.ty "list")))) (fo (.expr (.eI .append (cN iw (aP 0)) (ku (aP 9))))) (fo (.expr (.eI .append iw (ku (.prim .lst .nil)))))) .pass)))))))))))) (dj (.lit (.bl true)))))⟩
theorem Ex.qv{g1:G}(e:Ex g g1)(h:g.length<=n):Ex g (g1.set n o):=⟨by rw[List.length_set];exact e.len,λq hq=>by rw[au ()];exact e.old q hq⟩
theorem Hj{l:List α}{x:α}(h:l[i]?=some x):l.drop i=x::l.drop (i+1):=by
 obtain⟨hi,rfl⟩:=ay.mp h;exact dS hi
theorem WD(l:List Nat)(n:Nat):cut (d0 l) (some (n:Int)) none=d0 (l.drop n):=by
 rw[Gy];unfold d0;rw[List.map_drop]
theorem L1{l:List Nat}{d:D}(h:(d0 l)[i]?=some d):∃p:Nat,l[i]?=some p/\d=.int p:=by
 unfold d0 at h;rw[aq,ae] at h;obtain⟨p,h,rfl⟩:=h;exact⟨p,h,rfl⟩
def cp(cs:List a8)(f:Int)(p:Nat):List Int:=v8 f (fF cs p)
def eR(cs:List a8)(f:Int)(v:Int):List Nat:=(List.range cs.length).filter λi=>decide (A3 f (fF cs i)=v)
inductive rP where
 |word (w:Str)|bq|rows (S:List (List Nat))
def x6(g:G)(lo:Nat):rP->D->Prop
 |.word w,v=>∃a,v=.ref a/\lo<=a/\g[a]?=some (.lst [.str w])
 |.bq,v=>v=.bq
 |.rows S,v=>∃a,∃rs:List Nat,v=.ref a/\lo<=a/\g[a]?=some (.lst (rs.map .ref))/\rs.length=S.length/\∀(j:Nat) r s,rs[j]?=some r->S[j]?=some s->lo<=r/\g[r]?=some (.lst (d0 s))
def part6(cs:List a8)(f:Int)(v:Int):rP:=if eR cs f v=[] then .word "NoDie" else if n9 (N6 (cp cs f)) (eR cs f v)=none then .rows (o8 (cp cs f) (eR cs f v) 9) else .bq
def L4(cs:List a8)(x:Str)(v:Int):rP:=if x="lower" then part6 cs 0 v else if x="upper" then part6 cs 2 v else .word "BadSide"
def r9(cs:List a8)(x:Str)(v:Int):rP:=if wordOf cs="" then L4 cs x v else .word (wordOf cs)
theorem J9(h:p∈eR cs f v):p<cs.length/\A3 f (fF cs p)=v:=by
 unfold eR at h;rw[cA,dN,bg] at h;exact h
theorem RL(cs:List a8)(v:Int):kY cs .lower v=eR cs 0 v:=rfl
theorem RN(cs:List a8)(v:Int):kY cs .upper v=eR cs 2 v:=rfl
theorem C6(h:p<cs.length):cs[p]?=some (fF cs p):=by
 rw[ak h];simp[fF,List.getD,h]
theorem FV{α:Type}{p q:α->Bool}:∀{l:List α},(∀x∈l,p x=q x)->l.find? p=l.find? q
 |[],_=>rfl
 |x::l,h=>by rw[bZ,bZ,h x aL,FV λy hy=>h y (aI _ hy)]
theorem Gq{p q:Nat->Nat->Bool}:∀{l:List Nat},(∀i∈l,∀j∈l,p i j=q i j)->n9 p l=n9 q l
 |[],_=>rfl
 |i::r,h=>by
  have e:r.find? (p i)=r.find? (q i):=FV λj hj=>h i aL j (aI _ hj);rw[n9,n9,e,Gq λa ha b hb=>h a (aI _ ha) b (aI _ hb)]
theorem Xs:n9 (F6 cs f) (eR cs f v)=n9 (N6 (cp cs f)) (eR cs f v):=Gq λi hi j hj=>by
 have h1:=J9 hi;have h2:=J9 hj;unfold F6 T4 N6 cp;rw[C6 h1.1,C6 h2.1];show(decide (A3 f (fF cs i)=A3 f (fF cs j))&&_)=_;rw[aQ (by rw[h1.2,h2.2]),fW]
section
variable{T:Nat->Option bj}{d:Nat}
theorem WV(ki:T 15=some B6)(lW:T 31=some t7)(nV:T 32=some u6)(hf:f=0\/f=2)(ha:g[a]?=some (.lst (cs.map a8.d)))(hb:g[b]?=some (.lst (d0 P)))(hB:∀c∈cs,CB c)(hP:∀p∈P,p<cs.length)(hz:P.length<=100)(h:∀g',Ex g g'->Q (pairD (n9 (F6 cs f) P)) g'):b9 T (k+3) 32 [.ref a,.ref b,.int f] g Q E:=by
 refine call_of nV rfl ?_;dsimp[u6,d4,List.replicate];left;refine L7 (a9 T _) ?_;left;refine⟨b,_,rfl,a7 hb,qd (d0 P),λi Z g'=>∃z3 z4 z5,Z=[some (.ref a),some (.ref b),some (.int f),z3,z4,z5]/\Ex g g'/\n9 (F6 cs f) P=n9 (F6 cs f) (P.drop i),λi Z g' p=>?_,⟨none,none,none,rfl,Ex.refl g,rfl⟩,λi x Z g' hx p=>?_,λZ g' p=>?_⟩
 ·obtain⟨z3,z4,z5,rfl,e,_⟩:=p;exact GC (a7 (e.at hb))
 ·obtain⟨z3,z4,z5,rfl,e,hp⟩:=p;obtain⟨y,hy,rfl⟩:=Hl hx;obtain⟨p,lQ,rfl⟩:=L1 hy;refine Y8 rfl ?_;rw[Hj lQ] at hp;have lp:=hP p (aC lQ)
  try show wpS _ _ _ _ _ _
  left;refine L7 (a9 T _) (pM (a9 T _) ?_);left;refine GS (a7 (e.at hb)) ?_;rw[show((i:Int)+1)=((i+1:Nat):Int) by omega,WD];refine⟨_,_,rfl,a7 b8,d0 (P.drop (i+1)),λj Z g2=>∃z5,Z=[some (.ref a),some (.ref b),some (.int f),some (.int i),some (.int p),z5]/\Ex (g'++[O.lst (d0 (P.drop (i+1)))]) g2/\(P.drop (i+1)).find? (F6 cs f p)=((P.drop (i+1)).drop j).find? (F6 cs f p),λj Z g2 p=>?_,⟨_,rfl,Ex.refl _,rfl⟩,λj x Z g2 hx p=>?_,λZ g2 p=>?_⟩
  ·obtain⟨z5,rfl,e2,_⟩:=p;exact F9 (a7 (e2.at b8))
  ·obtain⟨z5,rfl,e2,hj⟩:=p;obtain⟨q,hq,rfl⟩:=L1 hx;have lq:=hP q (iH (aC hq));have uC:=e2.at (d6 (e.at ha));have c1:=C6 lp;have c2:=C6 lq;have a1:fU (cs.map a8.d) (p:Int)=some (fF cs p).d:=t6 (by rw[aq,c1];rfl);have a2:fU (cs.map a8.d) (q:Int)=some (fF cs q).d:=t6 (by rw[aq,c2];rfl);have eo:F6 cs f p q=T4 f (fF cs p) (fF cs q):=by unfold F6;rw[c1,c2]
   rw[Hj hq,bZ,eo] at hj
   try show wpS _ _ _ _ _ _
   left;refine k7 (a7 uC) a1 ?_;left;refine k7 (a7 uC) a2 ?_;left;refine Tt ki lW hf (hB _ (aC c1)) (hB _ (aC c2)) λg3 e3=>?_;left;cases ho:T4 f (fF cs p) (fF cs q) with
   |true =>
    rw[ho] at hj;simp only[n9,hj] at hp;left;have:=h g3 (e.trans ((Ex.snoc _ _).trans (e2.trans e3)));rw[hp] at this;exact this
   |false =>
    rw[ho] at hj;left;exact⟨_,rfl,e2.trans e3,hj⟩
  ·obtain⟨z5,rfl,e2,hj⟩:=p;rw[show(d0 (P.drop (i+1))).length=(P.drop (i+1)).length by simp[d0],dt (aj _)] at hj;simp only[n9,hj,List.find?_nil] at hp;show ∃z3,_;exact⟨_,_,_,rfl,e.trans ((Ex.snoc _ _).trans e2),hp⟩
 ·obtain⟨z3,z4,z5,rfl,e,hp⟩:=p;rw[Ai,show(d0 P).length=P.length by simp[d0],dt (aj _)] at hp
  try show wpS _ _ _ _ _ _
  left;have:=h g' e;rw[hp] at this;exact this
theorem Wv(h1:NF T)(jC:qz T)(lh:T 74=some w6)(nU:T 75=some A9)(ha:g[a]?=some (.lst (cs.map a8.d)))(hz:cs.length<=1000)(h:kY cs w v≠[]->∀g',Ex g g'->Q .bq g')(hn:kY cs w v=[]->∀g',Ex g g'->E ⟨"NoDie"⟩ g'):b9 T (k+4) 75 [.ref a,.str w.s,.int v] g Q E:=by
 refine call_of nU rfl ?_;dsimp[A9,d4,List.replicate];left;refine FH (k:=k) h1 jC lh ha hz λg1 b e1 l1 hb=>?_;left;refine NK (a7 hb) ?_;have hl:(d0 (kY cs w v)).isEmpty=(kY cs w v).isEmpty:=by unfold d0;cases kY cs w v<;>rfl
 rw[hl];by_cases e:kY cs w v=[]
 ·refine mD (by rw[e];rfl) ?_;left;exact hn e g1 e1
 ·refine ke (by cases q:kY cs w v with|nil=>exact absurd q e|cons _ _=>rfl) ?_;left;exact h e g1 e1
end
structure Dw(m:Nat->List Int)(b:Nat)(g:G)(Q:List Nat)(l:List (List Int×Nat)):Prop where
 dict:g[b]?=some (.gq (l.map λx=>(x.1,D.ref x.2)))
 nk:(l.map (·.1)).Nodup
 nr:(l.map (·.2)).Nodup
 el:∀x∈l,b<x.2/\g[x.2]?=some (.lst (d0 (Q.filter λp=>decide (m p=x.1))))/\∃p∈Q,m p=x.1
 all:∀p∈Q,∃x∈l,x.1=m p
 len:l.length<=Q.length
theorem wD{α β:Type}{f:α->β}:∀{l:List α},(l.map f).Nodup->∀{x y},x∈l->y∈l->f x=f y->x=y
 |a::l,h,x,y,hx,hy,e=>by
  rw[aZ,ei] at h;rcases av.mp hx with q1|q1<;>rcases av.mp hy with q2|q2
  ·rw[q1,q2]
  ·rw[q1] at e;exact absurd (az.mpr ⟨y,q2,e.symm⟩) h.1
  ·rw[q2] at e;exact absurd (az.mpr ⟨x,q1,e⟩) h.1
  ·exact wD h.2 q1 q2 e
theorem QM{l:List (List Int×Nat)}{x:List Int×Nat}(nk:(l.map (·.1)).Nodup)(hx:x∈l):(l.find? λy=>decide (y.1=x.1))=some x:=by
 cases e:l.find? λy=>decide (y.1=x.1) with
 |none=>exact absurd (aQ (rfl:x.1=x.1)) (dq.mp e x hx)
 |some y =>
  have:=aW (lE (p:=λy:List Int×Nat=>decide (y.1=x.1)) e);rw[wD nk (fJ e) hx this]
theorem Vx(l m:List Nat):d0 (l++m)=d0 l++d0 m:=bc
theorem Dw.old{Q:List Nat}{l:List (List Int×Nat)}{x:List Int×Nat}(h:Dw m b g Q l)(hx:x∈l)(e:x.1=m p) :
  Dw m b ((g++[O.lst []]).set x.2 (.lst (d0 (Q.filter λp=>decide (m p=x.1))++[.int p]))) (Q++[p]) l:=by
 have bl:=j9 h.dict;have h0:=h.el x hx;have xl:=j9 h0.2.1;refine⟨?_,h.nk,h.nr,λy hy=>?_,λq hq=>?_,by rw[dn];have:=h.len;omega⟩
 ·rw[au ()];exact d6 h.dict
 ·have h1:=h.el y hy;refine⟨h1.1,?_,let ⟨q,a,c⟩:=h1.2.2;⟨q,cy _ a,c⟩⟩;by_cases c:y=x
  ·subst c;rw[aH (by simp;omega),bx,Vx];simp only[List.filter_cons,e,decide_true,if_true,List.filter_nil]
   rfl
  ·rw[au λz=>c (wD h.nr hy hx z.symm),d6 h1.2.1,bx];have:m p≠y.1:=λz=>c (wD h.nk hy hx (z.symm.trans e.symm));simp[List.filter_cons,this]
 ·rcases aT.mp hq with z|z
  ·exact h.all q z
  ·rw[bw.mp z];exact⟨x,hx,e⟩
theorem Dw.new{Q:List Nat}{l:List (List Int×Nat)}(h:Dw m b g Q l)(hn:∀x∈l,x.1≠m p) :
  Dw m b (((g++[O.lst []]).set b (.gq ((l.map λx=>(x.1,D.ref x.2))++[(m p,.ref g.length)]))).set g.length (.lst ([]++[.int p]))) (Q++[p]) (l++[(m p,g.length)]):=by
 have bl:=j9 h.dict;refine⟨?_,?_,?_,λy hy=>?_,λq hq=>?_,by simp;exact h.len⟩
 ·rw[au (),aH (by simp;omega),bc]
  rfl
 ·rw[bc,dD];refine⟨h.nk,by simp,λa ha c hc=>?_⟩;obtain⟨x,hx,rfl⟩:=az.mp ha;have:c=m p:=by simpa using hc
  rw[this];exact hn x hx
 ·rw[bc,dD];refine⟨h.nr,by simp,λa ha c hc=>?_⟩;obtain⟨x,hx,rfl⟩:=az.mp ha;have:c=g.length:=by simpa using hc
  rw[this];exact aD (j9 (h.el x hx).2.1)
 ·rcases aT.mp hy with z|z
  ·have h1:=h.el y z;have yl:=j9 h1.2.1;refine⟨h1.1,?_,let ⟨q,a,c⟩:=h1.2.2;⟨q,cy _ a,c⟩⟩;rw[au (),au (by have:=h1.1;omega),d6 h1.2.1,bx];have:m p≠y.1:=(hn y z).symm;simp[List.filter_cons,this]
  ·rw[bw.mp z];refine⟨bl,?_,p,by simp,rfl⟩;rw[aH (by simp),bx];have:Q.filter (λq=>decide (m q=m p))=[]:=by
    rw[gR];intro q hq hd;obtain⟨x,hx,e⟩:=h.all q hq;exact hn x hx (e.trans (aW hd))
   simp only[this,List.filter_cons,decide_true,if_true,List.filter_nil]
   rfl
 ·rcases aT.mp hq with z|z
  ·obtain⟨x,hx,e⟩:=h.all q z;exact⟨x,cy _ hx,e⟩
  ·rw[bw.mp z];exact⟨_,bt _ (bw.mpr rfl),rfl⟩
theorem V6(l:List (List Int×Nat))(k:List Int):P8 (l.map λx=>(x.1,D.ref x.2)) k=(l.find? λx=>decide (x.1=k)).map λx=>D.ref x.2:=by
 unfold P8;rw[List.find?_map,Option.map_map]
 rfl
def A8(l:List (List Int×Nat)):List (List Int×Nat):=l.mergeSort λx y=>decide (x.1.length<=y.1.length)
theorem u4(l:List (List Int×Nat)):(A8 l).Perm l:=BB _ _
theorem GU{l:List (List Int×Nat)}(h:Dw m b g P l)(hG:∀p∈P,gm 0 (m p)=true)(h8:∀p∈P,(m p).length<n)(hc:C2 m P n):(A8 l).Pairwise λx y=>x.1.length<y.1.length:=by
 have h1:(A8 l).Pairwise λx y=>decide (x.1.length<=y.1.length)=true:=qJ (λa b c h1 h2=>by simp at *;omega) (λa b=>by simp;omega) l;have h2:((A8 l).map (·.1)).Nodup:=((u4 l).map _).nodup_iff.mpr h.nk;have h3:(A8 l).Pairwise λx y=>x.1≠y.1:=cU.mp h2;refine(h1.and h3).imp_of_mem λ{x y} hx hy r=>Ir (aW r.1) λz=>r.2 ?_;obtain⟨_,_,p,hp,e1⟩:=h.el x ((u4 l).subset hx);obtain⟨_,_,q,hq,e2⟩:=h.el y ((u4 l).subset hy);rw[<- e1,<- e2] at z ⊢;exact Ax hG hp hq z (hc p hp q hq (fm z) (h8 q hq))
theorem EB{l:List (List Int×Nat)}(h:Dw m b g P l)(hG:∀p∈P,gm 0 (m p)=true)(h8:∀p∈P,(m p).length<n)(hc:C2 m P n):o8 m P n=(A8 l).map λx=>P.filter λp=>decide (m p=x.1):=by
 have e:A1 m P n=(A8 l).map λx=>x.1.length:=by
  refine GL GR (cU.mpr (GU h hG h8 hc)) λs=>?_;rw[R5,az];constructor
  ·rintro⟨_,p,hp,rfl⟩;obtain⟨x,hx,e⟩:=h.all p hp;exact⟨x,(u4 l).symm.subset hx,by rw[e]⟩
  ·rintro⟨x,hx,rfl⟩;obtain⟨_,_,p,hp,e⟩:=h.el x ((u4 l).subset hx);rw[<- e];exact⟨h8 p hp,p,hp,rfl⟩
 unfold o8;rw[e,bD];refine BC λx hx=>?_;obtain⟨_,_,p,hp,e⟩:=h.el x ((u4 l).subset hx);show i7 m P x.1.length=_;unfold i7;refine YG λq hq=>kn.mpr ?_;rw[<- e];exact⟨λz=>Ax hG hq hp z (hc q hq p hp (fm z) (h8 p hp)),λz=>by rw[z]⟩
section
variable{P:eT}{Z:S}{t:MT}{it elt:ME}{d7:List Nat}
inductive oW(P:eT)(t:MT)(elt:ME)(Q:KD)(Z:S)(k:IK)(g1:G):Prop
 |mk (l:List D) (Sh:S->Prop) (w:Nat->D) (hk:∀g',Ex g1 g'->k.Is l g') (hl:l.length<=1000) (h0:Sh Z)
   (hs:∀i d Z g',l[i]?=some d->Ex g1 g'->Sh Z->jl t d Z λcS=>aS P elt cS g' (λy g4=>y=w i/\Ex g1 g4/\Sh cS) ja) (hd:∀g',Ex g1 g'->Q (.ref g'.length) (g'++[.lst ((List.range l.length).map w)])):oW P t elt Q Z k g1
theorem Wy(hP:i4 P)(h:gT P it Z g (oW P t elt Q (C8 Z d7 n)) E):aS P (.comp d7 n t it .no elt) Z g Q E:=by
 refine C3 hP (A7 hP it _ _ _ _ _ _ (λk g1 h=>?_) (λ_ _ z=>z) h);obtain⟨l,Sh,w,hk,hl,h0,hs,hd⟩:=h;refine⟨l,λi ys Z g'=>Ex g1 g'/\ys=(List.range i).map w/\Sh Z,hl,λi ys Z g' q=>⟨hk _ q.1,by rw[q.2.1];simp⟩,⟨Ex.refl _,rfl,h0⟩,λi x ys Z g' hx q=>?_,λys Z g' q=>?_⟩
 ·obtain⟨e1,rfl,sh⟩:=q;refine w9 (λcS q=>wz (jT (b7 hP elt _ _ _ _ _ _ (λy g4 q=>?_) (λ_ _ z=>z) q))) (hs i x Z g' hx e1 sh);obtain⟨rfl,e4,sh⟩:=q;exact⟨e4,by rw[ee,bc];rfl,sh⟩
 ·obtain⟨e1,rfl,sh⟩:=q;exact hd g' e1
end
section
variable{T:Nat->Option bj}{d:Nat}
theorem UP(h1:NF T)(jC:qz T)(ki:T 15=some B6)(lW:T 31=some t7)(nV:T 32=some u6)(lh:T 74=some w6)(nU:T 75=some A9)(hf:f=0\/f=2)(hw:kY cs w v=eR cs f v)(ha:g[a]?=some (.lst (cs.map a8.d)))(hg:cs.all j4=true)(hB:∀c∈cs,CB c)(hz:cs.length<=9)(hn:eR cs f v=[]->∀g',Ex g g'->E ⟨"NoDie"⟩ g')(h:eR cs f v≠[]->∀g' v',Ex g g'->x6 g' g.length (part6 cs f v) v'->Q v' g') :
  wpS (b9 T (k+4)) (match E7.body with|.seq _ (.seq _ b)=>b|x=>x) ⟨λ_ g'=>Q .bq g',Q,λ_ _=>False,λ_ _=>False⟩ [some (.ref a),some (.str w.s),some (.int v),some (.int f),none,none,none] g E:=by
 dsimp[E7];left;refine Wv (k:=k) h1 jC lh nU (w:=w) ha () (λhp g1 e1=>?_) (λhp=>hn (hw▸hp));rw[hw] at hp;left;refine FH (k:=k+1) h1 jC lh (w:=w) (e1.at ha) () λg2 b e2 l2 hb=>?_;rw[hw] at hb;left;have rm:=e2.at (e1.at ha);have pl:(eR cs f v).length<=9:=aE (bo _ _) (by simpa using hz);refine WV (k:=k+1) ki lW nV hf rm hb hB (λp hp=>(J9 hp).1) () λg3 e3=>?_;rw[Xs];have vX:=e1.trans (e2.trans e3);cases ho:n9 (N6 (cp cs f)) (eR cs f v) with
 |some q =>
  obtain⟨i,j⟩:=q;left;refine h hp g3 .bq vX ?_;unfold part6;rw[aB hp,ho,aB (by simp)]
  rfl
 |none =>
  walk_at "w3";refine Mr ?_;walk_at "w3";have hP:∀p∈eR cs f v,p<cs.length:=λp hp=>(J9 hp).1;have hG:∀p∈eR cs f v,gm 0 (cp cs f p)=true/\(cp cs f p).length<9:=λp hp=>by
   have m:=aC (C6 (hP p hp));have c:=hB _ m;have q:=cG.mp hg _ m;unfold j4 at q;simp only[Bool.and_eq_true] at q;unfold cp v8;split
   ·exact⟨q.1.2,by have:=c.1;omega⟩
   ·exact⟨q.2.1.2,by have:=c.2;omega⟩
  have zy:=e3.at hb;have Kj:=e3.at rm;have Zv:=j9 zy;have hc:C2 (cp cs f) (eR cs f v) 9:=(Ad (λp hp=>(hG p hp).1) λp hp=>(hG p hp).2).mpr ho;have hh:∀g' v',Ex g g'->x6 g' g.length (.rows (o8 (cp cs f) (eR cs f v) 9)) v'->Q v' g':=λg' v' e q=>h hp g' v' e (by unfold part6;rw[aB hp,aJ ho];exact q);have rB:∀{p:Nat},p∈eR cs f v->fU (cs.map a8.d) (p:Int)=some (fF cs p).d:=λ{p} hp=>t6 (by rw[aq,C6 (hP p hp)];rfl);refine L7 (a9 T _) (pM (a9 T _) ?_);walk_at "w3";refine⟨b,_,rfl,a7 (d6 zy),d0 (eR cs f v),λi Z g'=>∃z6 l,Z=[some (.ref a),some (.str w.s),some (.int v),some (.int f),some (.ref b),some (.ref g3.length),z6]/\Ex g3 g'/\Dw (cp cs f) g3.length g' ((eR cs f v).take i) l,λi Z g' p=>?_,⟨none,[],rfl,Ex.snoc _ _,⟨b8,by simp,by simp,λx hx=>by simp at hx,λx hx=>by simp at hx,by simp⟩⟩,λi x Z g' hx p=>?_,λZ g' p=>?_⟩
  ·obtain⟨z6,l,rfl,e,_⟩:=p;exact F9 (a7 (e.at zy))
  ·obtain⟨z6,l,rfl,e,dw⟩:=p;obtain⟨p,lQ,rfl⟩:=L1 hx;have pm:=aC lQ;refine x8 ?_;have vQ:=e.at Kj;have tk:(eR cs f v).take (i+1)=(eR cs f v).take i++[p]:=by rw[List.take_add_one,lQ];rfl
   have lz:l.length<1000:=by
    have:=dw.len;rw[bE] at this;omega
   try show wpS _ _ _ _ _ _
   walk_at "w3";refine zW (zW ?_);walk_at "w3";refine⟨ON dw.dict,?_⟩;walk_at "w3";refine k7 (a7 vQ) (rB pm) ?_;walk_at "w3";refine B9 (O3 hf _) ?_;walk_at "w3";have fin:∀g5 l',Ex g3 g5->Dw (cp cs f) g3.length g5 ((eR cs f v).take (i+1)) l'->∃z6 l,[some (D.ref a),some (.str w.s),some (.int v),some (.int f),some (.ref b),some (.ref g3.length),some (.int (p:Nat))]=[some (.ref a),some (.str w.s),some (.int v),some (.int f),some (.ref b),some (.ref g3.length),z6]/\Ex g3 g5/\Dw (cp cs f) g3.length g5 ((eR cs f v).take (i+1)) l:=λg5 l' e5 d5=>⟨_,l',rfl,e5,d5⟩
   have fl:∀k:List Int,(d0 (((eR cs f v).take i).filter λq=>decide (cp cs f q=k))).length<100000:=λk=>by
    have h1:=bo (λq=>decide (cp cs f q=k)) ((eR cs f v).take i);rw[bE] at h1;unfold d0;rw[ai];omega
   cases ub:l.find? λx=>decide (x.1=cp cs f p) with
   |some x =>
    have hx:=fJ ub;have hk:x.1=cp cs f p:=aW (lE (p:=λx:List Int×Nat=>decide (x.1=cp cs f p)) ub);have hr:=dw.el x hx;refine OI (k:=cp cs f p) (d6 dw.dict) (by rw[ai];exact lz) (by rw[V6,ub];rfl) ?_;refine⟨W9 (d6 hr.2.1),?_⟩;walk_at "w3";refine K4 (d6 hr.2.1) (fl _) ?_;refine fin _ l ((e.trans (Ex.snoc _ _)).qv (bX hr.1)) ?_;rw[tk];exact dw.old hx hk
   |none =>
    have hn:∀x∈l,x.1≠cp cs f p:=λx hx=>by simpa using dq.mp ub x hx
    have bl:=j9 dw.dict;refine OG (k:=cp cs f p) (d6 dw.dict) (by rw[ai];exact lz) (by rw[V6,ub];rfl) ?_;have hs:((g'++[O.lst []]).set g3.length (.gq ((l.map λx=>(x.1,D.ref x.2))++[(cp cs f p,.ref g'.length)])))[g'.length]?=some (.lst []):=by
     rw[au ()];exact b8
    refine⟨W9 hs,?_⟩;walk_at "w3";refine K4 hs (by simp) ?_;refine fin _ (l++[(cp cs f p,g'.length)]) (((e.trans (Ex.snoc _ _)).qv (aj _)).qv (bX bl)) ?_;rw[tk];exact dw.new hn
  ·obtain⟨z6,l,rfl,e,dw⟩:=p;rw[show(d0 (eR cs f v)).length=(eR cs f v).length by simp[d0],gP (aj _)] at dw
   try show wpS _ _ _ _ _ _
   walk_at "w3";refine Wy (a9 T _) (pM (a9 T _) ?_);walk_at "w3";have yR:∀p∈eR cs f v,gm 0 (cp cs f p)=true:=λp hp=>(hG p hp).1;have h8:∀p∈eR cs f v,(cp cs f p).length<9:=λp hp=>(hG p hp).2;have ll:=dw.len;have sl:(A8 l).length=l.length:=(u4 l).length_eq;refine Yl (kvs':=(A8 l).map λx=>(x.1,D.ref x.2)) dw.dict (by rw[ai];omega) ((u4 l).map _) (cU.mpr (GU dw yR h8 hc)) ?_;refine⟨_,_,rfl,a7 b8,.mk _ (λZ=>∃z1 z2,Z=[some (.ref g3.length),z1,z2]) (λi=>((A8 l).map λx=>D.ref x.2).getD i .bq) (λg1 e1=>F9 (a7 (e1.at b8))) (by rw[ai,ai];omega) ⟨none,none,rfl⟩ (λi d Z g1 hx e1 sh=>?_) (λg1 e1=>?_)⟩
   ·obtain⟨z1,z2,rfl⟩:=sh;rw[bD,aq,ae] at hx;obtain⟨x,Cv,rfl⟩:=hx;refine x8 ?_
    try show aS _ _ _ _ _ _
    walk_at "w3";refine Ot (k:=x.1) (v:=.ref x.2) (e1.at (d6 dw.dict)) (by rw[V6,QM dw.nk ((u4 l).subset (aC Cv))];rfl) ?_;exact⟨by simp[List.getD,Cv],e1,_,_,rfl⟩
   ·have er:((List.range (((A8 l).map λx=>(x.1,D.ref x.2)).map λp=>u7 p.1).length).map λi=>((A8 l).map λx=>D.ref x.2).getD i .bq)=((A8 l).map (·.2)).map D.ref:=by
     refine fR λi=>?_;rw[aq,aq,aq];by_cases hi:i<(A8 l).length
     ·rw[fg (by simpa using hi),ak hi];simp[List.getD,hi]
     ·rw[cg (by simpa using hi),cg ()]
      rfl
    rw[er];have e5:=(Ex.snoc g' (O.lst (((A8 l).map λx=>(x.1,D.ref x.2)).map λp=>u7 p.1))).trans e1;have eg:=vX.trans (e.trans (e5.trans (Ex.snoc _ (O.lst (((A8 l).map (·.2)).map D.ref)))));have gl:g.length<=g1.length:=(vX.trans (e.trans e5)).len;refine hh _ _ eg ⟨g1.length,(A8 l).map (·.2),rfl,gl,b8,by rw[EB dw yR h8 hc,ai,ai],λj r s hr hs=>?_⟩;rw[aq,ae] at hr;obtain⟨x,Cu,rfl⟩:=hr;rw[EB dw yR h8 hc,aq,Cu] at hs;cases hs;obtain⟨h1,h2,_⟩:=dw.el x ((u4 l).subset (aC Cu));exact⟨by have:=vX.len;omega,d6 (e5.at h2)⟩
theorem Wi(h1:NF T)(h2:T 2=some x3)(nW:T 12=some o6)(oJ:xc T)(jC:qz T)(ki:T 15=some B6)(lW:T 31=some t7)(nV:T 32=some u6)(uj:T 35=some E7)(lh:T 74=some w6)(nU:T 75=some A9)(hx:PyData.strOk x=true)(ha:g[a]?=some (.lst (cs.map a8.d)))(hB:∀c∈cs,CB c)(hz:cs.length<=1000)(he:∀w g' ,r9 cs x v=.word w->Ex g g'->E ⟨w⟩ g')(h:∀g' v',(∀w,r9 cs x v≠.word w)->Ex g g'->x6 g' g.length (r9 cs x v) v'->Q v' g'):b9 T (k+7) 35 [.ref a,.str x,.int v] g Q E:=by
 refine call_of uj rfl ?_;dsimp[E7,d4,List.replicate];walk_at "w3";refine Ts (k:=k) h1 h2 nW oJ ha hz (λhm=>?_) (λh9 hb=>?_) (λh9 hg=>?_)
 ·exact he "TooMany" g (by unfold r9;rw[show wordOf cs="TooMany" by unfold wordOf;rw[aJ hm],aB ∅]) (Ex.refl g)
 ·exact he "BadCoin" g (by unfold r9;rw[show wordOf cs="BadCoin" by unfold wordOf;rw[aB (),aB (by rw[hb];decide)],aB ∅]) (Ex.refl g)
 ·have Jy:r9 cs x v=L4 cs x v:=by unfold r9;rw[show wordOf cs="" by unfold wordOf;rw[aB (),aJ hg],aJ rfl]
  rw[Jy] at he h;have part:∀f:Int,(f=0\/f=2)->∀w:RW,kY cs w v=eR cs f v->x=w.s->L4 cs x v=part6 cs f v->wpS (b9 T (k+6)) (match E7.body with|.seq _ (.seq _ b)=>b|x=>x) ⟨λ_ g'=>Q .bq g',Q,λ_ _=>False,λ_ _=>False⟩ [some (.ref a),some (.str x),some (.int v),some (.int f),none,none,none] g E:=λf hf w hw e2 e3=>by
   rw[e3] at he h;subst e2;refine UP (k:=k+2) h1 jC ki lW nV lh nU hf hw ha hg hB h9 (λhp g' e=>?_) (λhp g' v' e q=>?_)
   ·exact he _ _ (by unfold part6;rw[aJ hp]) e
   ·refine h g' v' (λw=>?_) e q;unfold part6;rw[aB hp];split<;>exact λz=>nomatch z
  walk_at "w3";refine O0 (k:=k+4) jC hx (λe=>?_) (λe=>?_) (λe1 e2=>?_)
  ·exact part 0 (.inl rfl) .lower (RL cs v) e (by unfold L4;rw[aJ e])
  ·exact part 2 (.inr rfl) .upper (RN cs v) e (by unfold L4;rw[e,aB ∅,aJ rfl])
  ·exact he _ g (by unfold L4;rw[aB e1,aB e2]) (Ex.refl g)
theorem Vb(h1:NF T)(h2:T 2=some x3)(nW:T 12=some o6)(oJ:xc T)(jC:qz T)(ki:T 15=some B6)(yX:T 30=some wC)(lW:T 31=some t7)(nV:T 32=some u6)(uj:T 35=some E7)(lh:T 74=some w6)(nU:T 75=some A9)(hx:PyData.strOk x=true)(ha:g[a]?=some (.lst (cs.map a8.d)))(hB:∀c∈cs,CB c)(hz:cs.length<=1000)(h:∀g' v',Ex g g'->x6 g' g.length (r9 cs x v) v'->Q v' g'):b9 T (k+8) 30 [.ref a,.str x,.int v] g Q E:=by
 refine call_of yX rfl ?_;dsimp[wC,d4,List.replicate];left;refine Wi (k:=k) h1 h2 nW oJ jC ki lW nV uj lh nU hx ha hB hz (λw g' hw e=>?_) (λg' v' _ e q=>h g' v' e q);have fin:Q (.ref g'.length) (g'++[O.lst [.str w]]):=h _ _ (e.trans (Ex.snoc _ _)) (by rw[hw];exact⟨_,rfl,e.len,b8⟩);have hh:w="TooMany"\/w="BadCoin"\/w="BadSide"\/w="NoDie":=by
  unfold r9 L4 part6 wordOf at hw
  repeat' split at hw
  all_goals first|(exact absurd rfl (by assumption))|(cases hw;simp)|cases hw
 rcases hh with rfl|rfl|rfl|rfl
 ·refine wg rfl ?_;left;exact fin
 ·refine R8 ∅ (wg rfl ?_);left;exact fin
 ·refine R8 ∅ (R8 ∅ (wg rfl ?_));left;exact fin
 ·refine R8 ∅ (R8 ∅ (R8 ∅ (wg rfl ?_)));left;exact fin
end
theorem Yw{l:List α}{x:α}:fU (l++[x]) (-1)=some x:=by
 simp[fU,jS,seqIndex?];rw[aJ ()];show(l++[x])[(-1+((l.length:Int)+1)).toNat]?=some x;rw[show(-1+((l.length:Int)+1)).toNat=l.length by omega];simp
theorem range_getD(P:List Nat):(List.range P.length).map (λi=>P.getD i 0)=P:=by
 refine fR λi=>?_;rw[aq];by_cases hi:i<P.length
 ·rw[fg hi,ak hi];simp[List.getD,hi]
 ·rw[cg (by simpa using hi),cg ()]
  rfl
theorem Vp(P:List Nat)(q:Nat->Bool):((List.range P.length).filter λi=>q (P.getD i 0)).map (λi=>D.int (P.getD i 0))=d0 (P.filter q):=by
 conv=>rhs;rw[<- range_getD P]
 unfold d0;rw[List.filter_map,bD]
 rfl
theorem map_getD{β:Type}(P:List Nat)(w:Nat->β):(List.range P.length).map (λi=>w (P.getD i 0))=P.map w:=by
 conv=>rhs;rw[<- range_getD P]
 rw[bD]
 rfl
section
variable{T:Nat->Option bj}{d:Nat}
theorem TH(pX:T 17=some K1)(hf:f=0\/f=2)(ha:g[a]?=some (.lst (cs.map a8.d)))(hb:g[b]?=some (.lst (d0 P)))(hP:∀p∈P,p<cs.length/\gm 0 (cp cs f p)=true/\(cp cs f p).length<9)(hz:P.length<=9)(h0:P≠[])(h:∀g' v',Ex g g'->x6 g' g.length (if n9 (N6 (cp cs f)) P=none then .rows (o8 (cp cs f) P 9) else .bq) v'->Q v' g') :
  wpS (b9 T (k+1)) (match Q1.body with|.seq _ (.seq _ (.seq _ (.seq _ b)))=>b|x=>x) ⟨λ_ g'=>Q .bq g',Q,λ_ _=>False,λ_ _=>False⟩ [some (.ref a),some (.str x),some (.int v),some (.int f),some (.ref b),none,none,none,none] g E:=by
 have hG:∀p∈P,gm 0 (cp cs f p)=true:=λp hp=>(hP p hp).2.1;have h8:∀p∈P,(cp cs f p).length<9:=λp hp=>(hP p hp).2.2;have bq:∀g',Ex g g'->¬C2 (cp cs f) P 9->Q .bq g':=λg' e hc=>h g' .bq e (by rw[aB λz=>hc ((Ad hG h8).mpr z)];rfl);have rB:∀{p:Nat},p∈P->fU (cs.map a8.d) (p:Int)=some (fF cs p).d:=λ{p} hp=>t6 (by rw[aq,C6 (hP p hp).1];rfl);dsimp[Q1];left;refine V4 (n:=9) ∅ (λs Z g'=>∃z6 z7 z8,∃rs:List Nat,Z=[some (.ref a),some (.str x),some (.int v),some (.int f),some (.ref b),some (.ref g.length),z6,z7,z8]/\Ex g g'/\g'[g.length]?=some (.lst (rs.map .ref))/\rs.length=(o8 (cp cs f) P s).length/\(∀(j:Nat) r t,rs[j]?=some r->(o8 (cp cs f) P s)[j]?=some t->g.length<r/\g'[r]?=some (.lst (d0 t)))/\C2 (cp cs f) P s) ⟨none,none,none,[],rfl,Ex.snoc _ _,b8,rfl,λj r t hr=>by simp at hr,Tx⟩ (λs Z g' hs p=>?_) (λZ g' p=>?_)
 ·obtain⟨z6,z7,z8,rs,rfl,e,er,el,hr,hc⟩:=p;refine x8 ?_;have vQ:=e.at ha;have CW:=e.at hb;have gl:=j9 er
  try show wpS _ _ _ _ _ _
  refine uX (uY (L3 (a9 T _) (λZ=>∃z1 z2,Z=[some (.int f),some (.ref a),some (.int s),z1,z2]) (λi=>decide ((cp cs f (P.getD i 0)).length=s)) (λi=>.int (P.getD i 0)) (l:=d0 P) (k:=.lst b) (λg2 e2=>F9 (a7 (e2.at CW))) (by simp[d0];omega) ⟨none,none,rfl⟩ (λi d Z g2 hx e2 sh=>?_) (λg2 e2=>?_) (AF (a9 T _) (a7 CW) λQ q=>w_var (d:=.ref b) rfl q)))
  ·obtain⟨z1,z2,rfl⟩:=sh;obtain⟨p,lQ,rfl⟩:=L1 hx;have pm:=aC lQ;have pe:P.getD i 0=p:=by simp[List.getD,lQ]
   refine x8 ?_
   try show dG _ _ _ _ _ _
   left;refine k7 (a7 (e2.at vQ)) (rB pm) ?_;left;refine B9 (O3 hf _) ?_;left;have de:decide (((List.map D.int (v8 f (fF cs p))).length:Int)=(s:Int))=decide ((cp cs f (P.getD i 0)).length=s):=by
    rw[pe,ai];exact kn.mpr (by unfold cp;omega)
   rw[de];refine⟨rfl,e2,?_⟩;refine if2 (λ_=>?_) (λ_=>?_)
   ·left;exact⟨by rw[pe],e2,_,_,rfl⟩
   ·exact⟨_,_,rfl⟩
  ·rw[show(d0 P).length=P.length by simp[d0],Vp P λp=>decide ((cp cs f p).length=s),show P.filter (λp=>decide ((cp cs f p).length=s))=i7 (cp cs f) P s from rfl];have e4:=e.trans (e2.trans (Ex.snoc g2 (O.lst (d0 (i7 (cp cs f) P s)))));have hh:(g2++[O.lst (d0 (i7 (cp cs f) P s))])[g2.length]?=some (.lst (d0 (i7 (cp cs f) P s))):=b8;have CZ:=(Ex.snoc g2 (O.lst (d0 (i7 (cp cs f) P s)))).at (e2.at vQ);have Ld:=(Ex.snoc g2 (O.lst (d0 (i7 (cp cs f) P s)))).at (e2.at er);have yk:∀(j:Nat) r t,rs[j]?=some r->(o8 (cp cs f) P s)[j]?=some t->g.length<r/\(g2++[O.lst (d0 (i7 (cp cs f) P s))])[r]?=some (.lst (d0 t)):=λj r t h1 h2=>let ⟨u,w⟩:=hr j r t h1 h2;⟨u,(Ex.snoc g2 _).at (e2.at w)⟩
   have KN:g.length<g2.length:=ax gl e2.len;have Dk:∀p∈i7 (cp cs f) P s,p∈P/\(cp cs f p).length=s:=λp hp=>v9.mp hp;have gz:(i7 (cp cs f) P s).length<=9:=aE (bo _ _) hz;generalize Zd:g2++[O.lst (d0 (i7 (cp cs f) P s))]=g3 at *
   try show wpS _ _ _ _ _ _
   left;refine comp_map (a9 T _) (λZ=>∃z0 z1,Z=[some (.int f),some (.ref a),z0,z1]) (λi=>u7 (cp cs f ((i7 (cp cs f) P s).getD i 0))) (l:=d0 (i7 (cp cs f) P s)) (k:=.lst g2.length) (λg5 e5=>F9 (a7 (e5.at hh))) (by simp[d0];omega) ⟨none,none,rfl⟩ (λi d Z g5 hx e5 sh=>?_) (λg5 e5=>?_) (AF (a9 T _) (a7 hh) λQ q=>w_var (d:=.ref g2.length) rfl q)
   ·obtain⟨z1,z2,rfl⟩:=sh;obtain⟨p,lQ,rfl⟩:=L1 hx;have pm:=(Dk p (aC lQ)).1;refine x8 ?_
    try show aS _ _ _ _ _ _
    left;refine k7 (a7 (e5.at CZ)) (rB pm) ?_;left;refine B9 (O3 hf _) ?_;exact⟨by simp[List.getD,lQ,u7,cp],e5,_,_,rfl⟩
   ·rw[show(d0 (i7 (cp cs f) P s)).length=(i7 (cp cs f) P s).length by simp[d0],map_getD (i7 (cp cs f) P s) λp=>u7 (cp cs f p)];have e6:=e5.trans (Ex.snoc g5 (O.lst ((i7 (cp cs f) P s).map λp=>u7 (cp cs f p))));have CH:(g5++[O.lst ((i7 (cp cs f) P s).map λp=>u7 (cp cs f p))])[g5.length]?=some (.lst (((i7 (cp cs f) P s).map (cp cs f)).map u7)):=by rw[b8,bD];rfl
    generalize g5++[O.lst ((i7 (cp cs f) P s).map λp=>u7 (cp cs f p))]=g6 at *;refine Xm (a7 CH) (by rw[ai];omega) ?_;have zx:=e4.trans e6;walk_at "w1";cases hm:J8 ((i7 (cp cs f) P s).map (cp cs f)) with
    |true =>
     left;exact bq _ zx (Xl hG hs hm)
    |false =>
     have CM:=e6.at hh;have rz:=e6.at Ld;have CY:=e6.at CZ;have sz:=UM (m:=cp cs f) (P:=P) (n:=s);left;rw[show(d0 (i7 (cp cs f) P s)).length=(i7 (cp cs f) P s).length by simp[d0]];cases oG:i7 (cp cs f) P s with
     |nil =>
      refine ke (by rfl) ?_;rw[oG] at sz;have ss:o8 (cp cs f) P (s+1)=o8 (cp cs f) P s:=by unfold o8;rw[sz];simp
      left;refine⟨_,_,_,rs,rfl,zx,rz,by rw[ss];exact el,λj r t h1 h2=>?_,cmp_none hc oG⟩;rw[ss] at h2;obtain⟨u,w⟩:=yk j r t h1 h2;exact⟨u,e6.at w⟩
     |cons u0 tl =>
      refine mD (by simp) ?_;have um:u0∈i7 (cp cs f) P s:=by rw[oG];exact aL
      have up:=(Dk u0 um).1;have ss:o8 (cp cs f) P (s+1)=o8 (cp cs f) P s++[i7 (cp cs f) P s]:=by unfold o8;rw[sz,oG];simp[oG]
      have Zl:=j9 rz;have YL:rs.length<=9:=by
       have h1:=bo (λs=>!(i7 (cp cs f) P s).isEmpty) (List.range s);rw[dE] at h1;rw[el];unfold o8 A1;rw[ai];omega
      have fin:∀(L:List Int) (N:Ends),L.length<=1000->(fX L (cp cs f u0)=true->C2 (cp cs f) P (s+1))->(fX L (cp cs f u0)=false->¬C2 (cp cs f) P 9)->N.rt=Q ->
        (∀Z g',(∃z6 z7 z8,∃rs:List Nat,Z=[some (.ref a),some (.str x),some (.int v),some (.int f),some (.ref b),some (.ref g.length),z6,z7,z8]/\Ex g g'/\g'[g.length]?=some (.lst (rs.map .ref))/\rs.length=(o8 (cp cs f) P (s+1)).length/\(∀(j:Nat) r t,rs[j]?=some r->(o8 (cp cs f) P (s+1))[j]?=some t->g.length<r/\g'[r]?=some (.lst (d0 t)))/\C2 (cp cs f) P (s+1))->N.nx Z g') ->
        wpS (b9 T (k+1)) (match Q1.body with|.seq _ (.seq _ (.seq _ (.seq _ (.seq _ (.seq (.fE _ _ (.seq _ (.seq _ (.seq (.ifs _ (.seq _ b) _) _)))) _)))))=>b|x=>x) N [some (.ref a),some (.str x),some (.int v),some (.int f),some (.ref b),some (.ref g.length),some (.int s),some (.ref g2.length),some (.tup (L.map .int))] g6 E:=by
       intro L N hL w1 w2 hq hN;dsimp[Q1];left;refine k7 (a7 CM) (by rw[oG];exact t6 (j:=0) rfl) ?_;left;refine k7 (a7 CY) (rB up) ?_;left;refine B9 (O3 hf _) ?_;left;refine WM (k:=k) pX hL λg7 e7=>?_;walk_at "w1";have Dt:=e7.at rz;have JV:=e7.at CM;have JD:∀(j:Nat) r t,rs[j]?=some r->(o8 (cp cs f) P s)[j]?=some t->g.length<r/\g7[r]?=some (.lst (d0 t)):=λj r t h1 h2=>let ⟨u,w⟩:=yk j r t h1 h2;⟨u,e7.at (e6.at w)⟩
       have DF:=zx.trans e7;cases tL:fX L (v8 f (fF cs u0)) with
       |false =>
        left;rw[hq];exact bq _ DF (w2 tL)
       |true =>
        left;refine K4 Dt (by rw[ai];omega) ?_;refine hN _ _ ⟨_,_,_,rs++[g2.length],rfl,DF.qv (aj _),?_,by rw[ss];simp[el],λj r t h1 h2=>?_,w1 tL⟩
        ·rw[aH (j9 Dt),bc]
         rfl
        ·rw[ss] at h2;by_cases hj:j<rs.length
         ·rw[aA hj] at h1;rw[aA ()] at h2;obtain⟨u,w⟩:=JD j r t h1 h2;exact⟨u,by rw[au ()];exact w⟩
         ·have yz:j=rs.length:=by
           have:=(ay.mp h1).1;simp at this;omega
          subst yz;rw[bY (aj _),Nat.sub_self] at h1;rw[el,bY (aj _),Nat.sub_self] at h2;cases h1;cases h2;exact⟨KN,by rw[au ()];exact JV⟩
      left;rcases ip (A1 (cp cs f) P s) with z|⟨pre,s0,z⟩
      ·have r0:rs=[]:=bH (by rw[el];unfold o8;rw[z];rfl);refine ke (by rw[r0];rfl) (Ej (wq (by simp) ?_));refine fin [] _ (by simp) (λ_=>EI hc oG hm λt ht=>by rw[z] at ht;simp at ht) (λh=>by simp[fX] at h) ?_ ?_
       ·rfl
       ·exact λ_ _ q=>q
      ·rw[iq] at z;rcases ip rs with r0|⟨sI,r,r0⟩
       ·rw[r0] at el;unfold o8 at el;rw[z] at el;simp at el
       rw[iq] at r0;have Le:sI.length=pre.length:=by rw[r0] at el;unfold o8 at el;rw[z] at el;simpa using el
       have pO:=yk sI.length r (i7 (cp cs f) P s0) (by rw[r0];simp) (by unfold o8;rw[z,Le];simp);have Ky:=e6.at pO.2;have CC:=R5.mp (show s0∈A1 (cp cs f) P s by rw[z];simp);refine mD (by rw[r0];simp) ?_;left;refine k7 (a7 rz) (by rw[r0,bc];exact Yw) ?_;left;cases yE:i7 (cp cs f) P s0 with
       |nil =>
        obtain⟨_,p,hp,e0⟩:=CC;have:=v9.mpr ⟨hp,e0⟩;rw[yE] at this;cases this
       |cons q0 YJ =>
        have qm:=v9.mp (show q0∈i7 (cp cs f) P s0 by rw[yE];exact aL);refine k7 (a7 Ky) (by rw[yE];exact t6 (j:=0) rfl) ?_;left;refine k7 (a7 CY) (rB qm.1) ?_;left;refine B9 (O3 hf _) ?_;refine fin (v8 f (fF cs q0)) _ (by have:=h8 q0 qm.1;unfold cp at this;omega) (λh=>EI hc oG hm λt ht=>by
         rw[z] at ht;have:s0=t:=by simpa using ht
         subst this;exact ⟨q0,qm.1,qm.2,h⟩) (λh=>Yu hG hs qm.1 (by rw [qm.2];exact CC.1) um h) ?_ ?_
        ·rfl
        ·exact λ_ _ q=>q
 ·obtain⟨z6,z7,z8,rs,rfl,e,er,el,hr,hc⟩:=p
  try show wpS _ _ _ _ _ _
  left;refine h g' _ e ?_;rw[aJ ((Ad hG h8).mp hc)];exact⟨_,rs,rfl,aj _,er,el,λj r t h1 h2=>let ⟨a,b⟩:=hr j r t h1 h2;⟨bX a,b⟩⟩
end
theorem x6.mono{vC:Nat}(h:lo<=vC):∀{A:rP} {v:D},x6 g vC A v->x6 g lo A v
 |.word _,_,⟨a,e,l,q⟩=>⟨a,e,aE h l,q⟩
 |.bq,_,q=>q
 |.rows _,_,⟨a,rs,e,l,q,z,r⟩=>⟨a,rs,e,aE h l,q,z,λj x s h1 h2=>let ⟨u,w⟩:=r j x s h1 h2;⟨aE h u,w⟩⟩
section
variable{T:Nat->Option bj}{d:Nat}
theorem QI(pX:T 17=some K1)(yW:T 34=some Q1)(hx:PyData.strOk x=true)(ha:g[a]?=some (.lst (cs.map a8.d)))(hg:cs.all j4=true)(hB:∀c∈cs,CB c)(hz:cs.length<=9)(h:∀g' v',Ex g g'->x6 g' g.length (L4 cs x v) v'->Q v' g'):b9 T (k+2) 34 [.ref a,.str x,.int v] g Q E:=by
 refine call_of yW rfl ?_;dsimp[Q1,d4,List.replicate];have rest:∀f:Int,(f=0\/f=2)->((x="lower"/\f=0)\/(x≠"lower"/\f=2))->wpS (b9 T (k+1)) (match Q1.body with|.seq _ b=>b|x=>x) ⟨λ_ g'=>Q .bq g',Q,λ_ _=>False,λ_ _=>False⟩ [some (.ref a),some (.str x),some (.int v),some (.int f),none,none,none,none,none] g E:=by
  intro f hf Jx;dsimp[Q1];refine uX (uY (L3 (a9 T _) (λZ=>∃z1 z2,Z=[some (.int f),some (.ref a),some (.int v),z1,z2]) (λi=>decide (A3 f (fF cs i)=v)) (λi=>.int (i:Nat)) (l:=k6 0 cs.length) (λg' e=>t8) (by rw[l0];omega) ⟨none,none,rfl⟩ (λi d Z g' hr e sh=>?_) (λg' e=>?_) (DY (a9 T _) () λQ q=>?_)))
  ·obtain⟨z1,z2,rfl⟩:=sh;obtain⟨hi,rfl⟩:=E3 hr;rw[jN];have hc:=C6 hi;refine x8 ?_
   try show dG _ _ _ _ _ _
   left;refine k7 (a7 (e.at ha)) (t6 (by rw[aq,hc];rfl)) ?_;left;refine B9 (S3 hf _) ?_;left;refine⟨rfl,e,?_⟩;refine if2 (λ_=>?_) (λ_=>?_)
   ·left;exact⟨rfl,e,_,_,rfl⟩
   ·exact⟨_,_,rfl⟩
  ·rw[l0];have e1:=e.trans (Ex.snoc g' (O.lst (d0 (eR cs f v))));have hb:(g'++[O.lst (d0 (eR cs f v))])[g'.length]?=some (.lst (d0 (eR cs f v))):=b8;rw[show(((List.range cs.length).filter λi=>decide (A3 f (fF cs i)=v)).map λ(i:Nat)=>D.int i)=d0 (eR cs f v) from rfl];generalize g'++[O.lst (d0 (eR cs f v))]=g1 at *
   try show wpS _ _ _ _ _ _
   left;have e2:Ex g1 (g1++[O.lst [.str "lower",.str "upper"]]):=Ex.snoc _ _;refine AO (Vv b8 hx ?_);have yK:=e2.at hb;have rm:=e2.at (e1.at ha);have mM:=e1.trans e2;generalize g1++[O.lst [.str "lower",.str "upper"]]=g2 at *;walk_at "w1";by_cases hs:x="lower"\/x="upper"
   ·refine ke (by rw[jt,hZ,bg,bg];exact hs) ?_;have ea:L4 cs x v=part6 cs f v:=by
     unfold L4;rcases Jx with⟨rfl,rfl⟩|⟨h1,rfl⟩
     ·rw[aJ rfl]
     ·rw[aB h1,aJ (hs.resolve_left h1)]
    rw[ea] at h;left;by_cases hp:eR cs f v=[]
    ·refine mD (by rw[hp];rfl) ?_;left;refine h _ _ (mM.trans (Ex.snoc _ _)) ?_;unfold part6;rw[aJ hp];exact⟨_,rfl,mM.len,b8⟩
    ·refine ke (by rw[show(d0 (eR cs f v)).length=(eR cs f v).length by simp[d0]];cases q:eR cs f v with|nil=>exact absurd q hp|cons _ _=>simp;omega) ?_;refine TH pX hf rm yK (λp hp=>?_) (aE (bo _ _) (by simpa using hz)) hp λg3 v' e3 q=>?_
     ·have m:=aC (C6 (J9 hp).1);have c:=hB _ m;have q:=cG.mp hg _ m;unfold j4 at q;simp only[Bool.and_eq_true] at q;refine⟨(J9 hp).1,?_⟩;unfold cp v8;split
      ·exact⟨q.1.2,by have:=c.1;omega⟩
      ·exact⟨q.2.1.2,by have:=c.2;omega⟩
     ·refine h g3 v' (mM.trans e3) ?_;unfold part6;rw[aB hp];exact q.mono mM.len
   ·refine mD (by rw[YH,xn,cY,cY];exact not_or.mp hs) ?_;left;refine h _ _ (mM.trans (Ex.snoc _ _)) ?_;unfold L4;rw[aB (not_or.mp hs).1,aB (not_or.mp hs).2];exact⟨_,rfl,mM.len,b8⟩
  ·left;rw[ai];exact q
 left;refine if2 (λc=>?_) (λc=>?_)
 ·walk_at "w1";exact rest 0 (.inl rfl) (.inl ⟨c,rfl⟩)
 ·walk_at "w1";exact rest 2 (.inr rfl) (.inr ⟨c,rfl⟩)
end
structure Yx(T:Nat->Option bj):Prop where
 nf:NF T
 lf:LF T
 h2:T 2=some x3
 h3:T 3=some wk
 h5:T 5=some T7
 h6:T 6=some uQ
 h7:T 7=some A6
 h8:T 8=some K0
 Kw:T 11=some uP
 nW:T 12=some o6
 uq:T 13=some E8
 uo:T 14=some K9
 ki:T 15=some B6
 pX:T 17=some K1
 oJ:xc T
 jC:qz T
 za:T 27=some E9
 yZ:T 28=some P1
 yY:T 29=some wm
 yX:T 30=some wC
 lW:T 31=some t7
 nV:T 32=some u6
 yW:T 34=some Q1
 uj:T 35=some E7
 yV:T 36=some wj
 yU:T 37=some P0
 lh:T 74=some w6
 nU:T 75=some A9
theorem x6.ex(e:Ex g g'):∀{A:rP} {v:D},x6 g lo A v->x6 g' lo A v
 |.word _,_,⟨a,e1,l,q⟩=>⟨a,e1,l,e.at q⟩
 |.bq,_,q=>q
 |.rows _,_,⟨a,rs,e1,l,q,z,r⟩=>⟨a,rs,e1,l,e.at q,z,λj x s h1 h2=>let ⟨u,w⟩:=r j x s h1 h2;⟨u,e.at w⟩⟩
theorem HP{S:List (List Nat)}(hB:∀c∈cs,CB c)(h:r9 cs x v=.rows S):S≠[]/\S.length<=9/\∀s∈S,s.length<=cs.length:=by
 have part:∀f:Int,part6 cs f v=.rows S->S≠[]/\S.length<=9/\∀s∈S,s.length<=cs.length:=by
  intro f h;unfold part6 at h;split at h
  ·cases h
  rename_i hp;split at h
  ·cases h;refine⟨?_,?_,λs hs=>?_⟩
   ·cases e:eR cs f v with
    |nil=>exact absurd e hp
    |cons p r =>
     have pm:p∈eR cs f v:=by rw[e];exact aL
     have c:=hB _ (aC (C6 (J9 pm).1));have hs:(cp cs f p).length ∈ A1 (cp cs f) (eR cs f v) 9:=R5.mpr ⟨by
      unfold cp v8;split
      ·have:=c.1;omega
      ·have:=c.2;omega,p,pm,rfl⟩
     rw[e] at hs;intro z;unfold o8 at z;rw[List.map_eq_nil_iff.mp z] at hs;cases hs
   ·unfold o8 A1;rw[ai];exact aE (bo _ _) (by simp)
   ·unfold o8 at hs;obtain⟨n,_,rfl⟩:=az.mp hs;exact aE (bo _ _) (aE (bo _ _) (by simp))
  ·cases h
 unfold r9 at h;split at h
 ·unfold L4 at h;split at h
  ·exact part 0 h
  ·split at h
   ·exact part 2 h
   ·cases h
 ·cases h
theorem MQ{vC:Nat}(hB:∀c∈cs,CB c)(hz:cs.length<=1000){p q:D}(h1:x6 g lo (r9 cs x v) p)(h2:x6 g vC (r9 cs x v) q):u9 g 2 p q:=by
 cases e:r9 cs x v with
 |word w =>
  rw[e] at h1 h2;obtain⟨a,rfl,_,ha⟩:=h1;obtain⟨b,rfl,_,hb⟩:=h2;refine .lst ha hb rfl (λi x y hx hy=>?_) (by simp);rw[hx] at hy;cases hy;rw[bw.mp (aC hx)];exact .str _
 |bq =>
  rw[e] at h1 h2;cases h1;cases h2;exact .bq
 |rows S =>
  obtain⟨_,s9,sl⟩:=HP hB e;rw[e] at h1 h2;obtain⟨a,rs,rfl,_,ha,la,ra⟩:=h1;obtain⟨b,ts,rfl,_,hb,lb,rb⟩:=h2;refine .lst ha hb (by rw[ai,ai,la,lb]) (λi x y hx hy=>?_) (by rw[ai,lb];omega);rw[aq,ae] at hx hy;obtain⟨r,hr,rfl⟩:=hx;obtain⟨t,ht,rfl⟩:=hy;have hi:i<S.length:=by rw[<- la];exact(ay.mp hr).1
  have hs:=ak hi;refine VG (ra i r _ hr hs).2 (rb i t _ ht hs).2 (λz hz=>?_) ?_
  ·obtain⟨n,_,rfl⟩:=az.mp hz;exact .inl ⟨_,rfl⟩
  ·have:=sl _ (cF hi);unfold d0;rw[ai];omega
section
variable{T:Nat->Option bj}{d:Nat}
theorem WU(h4:T 4=some p6)(h5:T 5=some T7)(yV:T 36=some wj)(yU:T 37=some P0)(hi:g[i]?=some (.lst (ns.map .int)))(hd:d<i)(hz:ns.length<=900)(D0:d9 g d)(h:∀(v:Int) g',d9 g' d->Gr d g g'->Q (.int v) g'):b9 T (k+4) 37 [.ref d,.ref i] g Q E:=by
 have near:∀{g1:G} {j:Int},(0<=j/\j<=1000)->d9 g1 d->Gr d g g1->b9 T (k+3) 36 [.ref d,.int j] g1 Q E:=by
  intro g1 j hj D0 G0;refine call_of yV rfl ?_;dsimp[wj,d4,List.replicate];left;refine c7 h4 D0 ∅ ∅ λr g1 _ _ D1 G1=>?_;left;refine if2 (λ_=>?_) (λ_=>?_)
  ·left;exact zL h4 h5 D1 λf g2 D2 G2=>h _ _ D2 (G0.trans (G1.trans G2))
  ·left;refine c7 h4 D1 () () λr g2 _ _ D2 G2=>?_;left;exact h _ _ D2 (G0.trans (G1.trans G2))
 refine call_of yU rfl ?_;dsimp[P0,d4,List.replicate];left;rw[ai];refine if2 (λc=>?_) (λc=>?_)
 ·left;exact near (by rw[ai];omega) D0 (Gr.refl d g)
 ·left;refine c7 h4 D0 ∅ ∅ λr g1 _ _ D1 G1=>?_;have JU:=G1.at () hi;left;refine if2 (λ_=>?_) (λ_=>?_)
  ·left;exact near (by rw[ai];omega) D1 G1
  ·left;rw[ai];refine c7 h4 D1 () () λr2 g2 r0 r1 D2 G2=>?_;obtain⟨y,hy,hm⟩:=n4 (l:=ns.map D.int) r0 (by rw[ai];exact r1);obtain⟨v,_,rfl⟩:=az.mp hm;refine k7 (a7 (G2.at () JU)) hy ?_;left;exact h v g2 D2 (G1.trans G2)
theorem Xh(hT:Yx T):b9 T (k+9) 11 [.ref 0] [.nY (ns.map .int)] (λd _=>d=.bl true) ja:=by
 refine call_of hT.Kw rfl ?_;dsimp[uP,d4,List.replicate];left;refine Xx hT.h3 (a:=0) (ns:=ns) rfl λd g D0 _ _=>?_;left;refine V4 (n:=4) ∅ (λi Z g=>d9 g d/\∃z2 z3 z4 z5 z6 z7 z8 z9 kR,Z=[some (.ref 0),some (.ref d),z2,z3,z4,z5,z6,z7,z8,z9,kR]) ⟨D0,none,none,none,none,none,none,none,none,none,rfl⟩ (λi Z g hi p=>?_) (λZ g p=>?_)
 ·obtain⟨D1,z2,z3,z4,z5,z6,z7,z8,z9,kR,rfl⟩:=p
  try show wpS _ _ _ _ _ _
  left;refine WK (k:=k+4) hT.lf ⟨by decide,by decide⟩ D1 λcs a v g2 hc hg ea la _ _ D2 G2=>?_;have dl:=D1.lt;left;refine SM (k:=k+4) hT.lf.pull hT.h5 hT.uo hT.za ea (λc hc=>⟨(hg c hc).l8,(hg c hc).u8⟩) () () D2 λcs b g3 hB hz eb hb D3 G3=>?_;have bd:b≠d:=by
   have:=D2.lt;rcases hb with rfl|hb<;>omega
  left;refine Yj (k:=k+6) hT.lf.pull hT.yY D3 λx g4 hx D4 G4=>?_;have zu:=G4.at bd eb;obtain⟨f,JY,JX⟩:∃f:Int,(x="lower"->f=0)/\(x≠"lower"->f=2):=by
   by_cases c:x="lower"
   ·exact⟨0,λ_=>rfl,λz=>absurd c z⟩
   ·exact⟨2,λz=>absurd z c,λ_=>rfl⟩
  left;refine comp_map (a9 T _) (λZ=>∃z1 z2,Z=[some (.str x),z1,z2]) (λi=>.int (A3 f (fF cs i))) (l:=cs.map a8.d) (k:=.lst b) (λg' e=>F9 (a7 (e.at zu))) (by rw[ai];omega) ⟨none,none,rfl⟩ (λi d Z g' hx e sh=>?_) (λg5 e5=>?_) (AF (a9 T _) (a7 zu) λQ q=>w_var (d:=.ref b) rfl q)
  ·obtain⟨z1,z2,rfl⟩:=sh;rw[aq,ae] at hx;obtain⟨c,hc,rfl⟩:=hx;have pe:fF cs i=c:=zI hc;refine x8 ?_
   try show aS _ _ _ _ _ _
   left;refine if2 (λc1=>?_) (λc1=>?_)
   ·left;refine B9 (S3 (.inl rfl) c) ?_;exact⟨by rw[pe,JY c1],e,_,_,rfl⟩
   ·left;refine B9 (S3 (.inr rfl) c) ?_;exact⟨by rw[pe,JX c1],e,_,_,rfl⟩
  ·have el:((List.range (cs.map a8.d).length).map λi=>D.int (A3 f (fF cs i)))=((List.range cs.length).map λi=>A3 f (fF cs i)).map .int:=by rw[ai,bD];rfl
   rw[el];have e6:=e5.trans (Ex.snoc g5 (O.lst (((List.range cs.length).map λi=>A3 f (fF cs i)).map .int)));have JP:(g5++[O.lst (((List.range cs.length).map λi=>A3 f (fF cs i)).map .int)])[g5.length]?=some (.lst (((List.range cs.length).map λi=>A3 f (fF cs i)).map .int)):=b8;have D5:=(Ex.snoc g5 (O.lst (((List.range cs.length).map λi=>A3 f (fF cs i)).map .int))).draw (e5.draw D4);have Ls:=(e5.draw D4).lt;have Lh:=e6.at zu;generalize g5++[O.lst (((List.range cs.length).map λi=>A3 f (fF cs i)).map .int)]=g6 at *;left;refine WU (k:=k+4) hT.lf.pull hT.h5 hT.yV hT.yU JP Ls (by simp;omega) D5 λv g7 D7 G7=>?_;have DD:=G7.at bd Lh;left;refine SV (k:=k+5) hT.h8 hT.uq hT.yZ DD () λg8 e8=>?_;have DC:=e8.at DD;have D8:=e8.draw D7;left;have fin:∀(N:Ends) (u:D) (gA:G) (z8 z9 kR:Option D),N.rt=(λd _=>d=.bl true)->(∀Z g',d9 g' d->(∃z2 z3 z4 z5 z6 z7 z8 z9 kR,Z=[some (D.ref 0),some (.ref d),z2,z3,z4,z5,z6,z7,z8,z9,kR])->N.nx Z g')->Ex g8 gA->x6 gA 0 (r9 cs x v) u ->
     wpS (b9 T (k+8)) (match uP.body with|.seq _ (.seq (.fE _ _ (.seq _ (.seq _ (.seq _ (.seq _ (.seq _ b)))))) _)=>b|x=>x) N [some (.ref 0),some (.ref d),some (.int i),some (.ref b),some (.str x),some (.int v),some (.str (wordOf cs)),some u,z8,z9,kR] gA ja:=by
    intro N u gA z8 z9 kR hq hN eA hu;dsimp[uP];left;have DA:=eA.at DC;refine AY (a7 DA) ?_;left;have eB:=Ex.snoc gA (O.lst (cs.map a8.d));have Di:(gA++[O.lst (cs.map a8.d)])[gA.length]?=some (.lst (cs.map a8.d)):=b8;have Lg:=eB.at DA;have JA:=hu.ex eB;have DB:=eB.draw (eA.draw D8);generalize gA++[O.lst (cs.map a8.d)]=gB at *;refine V4 (n:=2) ∅ (λj Z g'=>Ex gB g'/\∃z9 kR,Z=[some (.ref 0),some (.ref d),some (.int i),some (.ref b),some (.str x),some (.int v),some (.str (wordOf cs)),some u,some (.ref gA.length),z9,kR]) ⟨Ex.refl _,_,_,rfl⟩ (λj Z g' hj p=>?_) (λZ g' p=>?_)
    ·obtain⟨eC,z9,kR,rfl⟩:=p;refine x8 ?_
     try show wpS _ _ _ _ _ _
     left;refine Vb (k:=k) hT.nf hT.h2 hT.nW hT.oJ hT.jC hT.ki hT.yX hT.lW hT.nV hT.uj hT.lh hT.nU hx (eC.at Di) hB () λgD w eD Cy=>?_;have vW:=eC.trans eD;left;refine wR (TJ (vW.at Di) (vW.at Lg) ?_);left;refine VH hT.h6 hT.h7 2 (k:=k+4) (MQ hB () Cy (JA.ex vW)) λgE eE=>?_;have zw:=vW.trans eE;have gl:=eC.len;have qV:=Cy.ex eE;left;cases hA:r9 cs x v with
     |bq =>
      rw[hA] at qV;obtain rfl:w=.bq:=qV;refine ke rfl ?_;left;exact⟨zw,_,_,rfl⟩
     |word w' =>
      rw[hA] at qV;obtain⟨p,rfl,lp,hp⟩:=qV;refine mD rfl ?_;left;refine fy ∅ (b:=false) rfl ?_;left;refine K4 (d6 hp) (by simp) ?_;exact⟨(zw.trans (Ex.snoc _ _)).qv (),_,_,rfl⟩
     |rows S =>
      obtain⟨S0,S9,Sl⟩:=HP hB hA;rw[hA] at qV;obtain⟨p,rs,rfl,lp,hp,Cq,hr⟩:=qV;cases rs with
      |nil=>exact absurd (bH Cq.symm) S0
      |cons r0 rs =>
      cases S with
      |nil=>exact absurd rfl S0
      |cons s0 S =>
      obtain⟨lr,pO⟩:=hr 0 r0 s0 rfl rfl;have eL:r0≠p:=λz=>by
       rw[z,hp] at pO;have:=aF pO;cases s0<;>simp[d0] at this
      refine mD rfl ?_;left;have hI:U0 gE (.ref r0) "list"=some true:=by simp[U0,pO]
      have i0:fU ((r0::rs).map D.ref) 0=some (.ref r0):=t6 (j:=0) rfl;refine k7 (a7 hp) i0 ?_;left;refine fy ∅ hI ?_;left;refine k7 (a7 hp) i0 ?_;refine⟨W9 pO,?_⟩;left;refine K4 pO (by have:=Sl s0 aL;unfold d0;rw[ai];omega) ?_;have vK:(gE.set r0 (.lst (d0 s0++[.int 9])))[p]?=some (.lst ((r0::rs).map .ref)):=by rw[au eL];exact hp
      left;refine K4 (d6 vK) (by rw[ai,Cq];omega) ?_;exact⟨((zw.qv ()).trans (Ex.snoc _ _)).qv (),_,_,rfl⟩
    ·obtain⟨eC,z9,kR,rfl⟩:=p
     try show wpS _ _ _ _ _ _
     left;exact hN _ _ (eC.draw DB) ⟨_,_,_,_,_,_,_,_,_,rfl⟩
   by_cases hw:wordOf cs=""
   ·refine ke (by rw[aQ hw];rfl) ?_;left;have hg:cs.length<=9/\cs.all j4=true:=by
     unfold wordOf at hw;split at hw
     ·exact absurd hw ∅
     ·split at hw
      ·rename_i h1 h2;exact⟨by omega,h2⟩
      ·exact absurd hw ∅
    refine QI (k:=k+6) hT.pX hT.yW hx DC hg.2 hB hg.1 λg9 u e9 hu=>?_;refine fin _ u g9 _ _ _ ?_ ?_ e9 ?_
    ·rfl
    ·exact λZ g' D z=>⟨D,z⟩
    ·unfold r9;rw[aJ hw];exact hu.mono (bG _)
   ·refine mD (by rw[aR hw];rfl) ?_;refine rL (w_var (d:=.str (wordOf cs)) rfl (wo (by simp) ?_));refine fin _ (.ref g8.length) (g8++[O.lst [.str (wordOf cs)]]) _ _ _ ?_ ?_ (Ex.snoc _ _) ?_
    ·rfl
    ·exact λZ g' D z=>⟨D,z⟩
    ·unfold r9;rw[aB hw];exact⟨_,rfl,bG _,b8⟩
 ·obtain⟨_,z2,z3,z4,z5,z6,z7,z8,z9,kR,rfl⟩:=p
  try show wpS _ _ _ _ _ _
  left
  rfl
end
end M
namespace Lk
open PySem L2 M
def top(i:Nat):Stmt:=PySem.Challenge.pw_trussel_k06_stages_of_dies.main.body.getD i (.Pass ⟨0,0,0,0⟩)
def QF:Stmt->List Stmt
 |.ClassDef (body:=b) ..=>b
 |_=>[]
def Ea(i j:Nat):Stmt:=(QF (top i)).getD j (.Pass ⟨0,0,0,0⟩)
def F:List RF:=[⟨38,"is_number",["thing"],1,8,X0⟩,⟨1,"number_from",["number","least","most"],3,9,P9⟩,⟨2,"good_marks",["marks","least","spot"],1,10,x3⟩,⟨15,"within",["one","other"],2,11,B6⟩,⟨12,"good_coin",["coin","lower","lower_marks","upper","upper_marks","year","good_lower","good_upper"],1,18,o6⟩,⟨39,"check_coin",["coin"],1,19,T8⟩,⟨18,"check_coins",["coins","coin"],1,20,Q2⟩,⟨40,"check_side",["side"],1,21,M1⟩,⟨19,"die_field",["side"],1,22,X2⟩,⟨74,"places_of",["coins","word","thing","field"],3,23,w6⟩,⟨75,"check_die",["coins","side","die"],3,24,A9⟩,⟨31,"two_at_odds",["one","other","field","one_marks","other_marks"],3,25,t7⟩,⟨32,"pair_at_odds",["coins","places","field","at","one","other"],3,26,u6⟩,⟨35,"stages",["coins","side","die","field","places","by_marks","place"],3,27,E7⟩,⟨3,"_law_open",["_law_script"],1,29,wk⟩,⟨4,"_law_pull",["_law_draw","_law_total_of","_law_cell","_law_got","_law_seed"],2,30,p6⟩,⟨5,"_law_far",["_law_draw","_law_number"],1,31,T7⟩,⟨36,"_law_near",["_law_draw","_law_total_of"],2,32,wj⟩,⟨6,"_law_num",["_law_found"],1,33,uQ⟩,⟨7,"_law_like",["_law_found","_law_due_here"],2,34,A6⟩,⟨21,"_law_order_of",["_law_draw","_law_numbers","_law_left","_law_found","_law_step"],2,35,N8⟩,⟨17,"_law_within",["_law_one","_law_other"],2,36,K1⟩,⟨8,"_law_marks_ok",["_law_marks"],1,37,K0⟩,⟨13,"_law_coin_ok",["_law_coin"],1,38,E8⟩,⟨22,"_law_any_coin",["_law_draw","_law_menu","_law_lower","_law_upper","_law_year"],1,39,T9⟩,⟨23,"_law_seated",["_law_draw","_law_seats","_law_fresh","_law_anvils"],4,40,B7⟩,⟨24,"_law_struck",["_law_draw","_law_size","_law_anvils","_law_seats","_law_fresh","_law_worn","_law_year","_law_step","_law_wear","_law_shift","_law_found","_law_k","_law_keys","_law_key","_law_spot","_law_named","_law_told_year"],3,41,E6⟩,⟨25,"_law_opened",["_law_draw","_law_size","_law_dies","_law_row","_law_held","_law_found","_law_k","_law_year"],2,42,Z2⟩,⟨26,"_law_list",["_law_draw","_law_most","_law_size","_law_anvils","_law_way","_law_found","_law_at","_law_coin","_law_other"],2,43,M0⟩,⟨14,"_law_bent_coin",["_law_draw","_law_coin","_law_way","_law_lower","_law_lower_marks","_law_upper","_law_upper_marks","_law_year","_law_odd","_law_number"],2,44,K9⟩,⟨27,"_law_bent_list",["_law_draw","_law_coins","_law_at"],2,45,E9⟩,⟨28,"_law_list_word",["_law_coins"],1,46,P1⟩,⟨37,"_law_number_of",["_law_draw","_law_numbers"],2,47,P0⟩,⟨29,"_law_side",["_law_draw"],1,48,wm⟩,⟨30,"_law_asked",["_law_coins","_law_side_here","_law_die"],3,49,wC⟩,⟨34,"_law_due",["_law_coins","_law_side_here","_law_die","_law_at","_law_some","_law_found","_law_size","_law_here","_law_last"],3,50,Q1⟩,⟨11,"law",["_law_script","_law_draw","_law_turn","_law_coins","_law_side_here","_law_die","_law_word","_law_due_here","_law_handed","_law_step","_law_found"],1,51,uP⟩]
def Ms:List RM:=[]
def con:List (Str×D):=[("LAST_SPOT",.int 7),("MOST_COINS",.int 9),("LAST_DIE",.int 99),("LAST_YEAR",.int 9999),("SIDES",.tup [(.str "lower"),(.str "upper")])]
def gd:List (Str×List D):=[("DIE_FIELDS",[.tup [.str "lower",.int 0],.tup [.str "upper",.int 2]])]
def exc:List Str:=["BadCoin","BadSide","NoDie","TooMany"]
def c0:f6:=⟨[],[],true,F.map λr=>(r.nm,r.id),con,["len","enumerate","list","tuple","isinstance","all","range","int","bool","str","max","min","sorted","set"],exc,gd,[],Ms.map λr=>(r.nm,r.cl,r.id),[],true,true,true⟩
noncomputable abbrev T:Nat->Option bj:=rK F Ms
theorem tx:kl c0 F Ms top Ea:=by
 refine⟨rfl,rfl,by decide +kernel,by decide +kernel,by decide +kernel,by decide +kernel,?_,?_,?_,?_⟩
 all_goals
  repeat first
   |exact BF.nil
   |exact BM.nil
   |exact YF.nil
   |exact YM.nil
   |refine YF.cons (by kernel_rfl) ?_
   |refine YM.cons (by kernel_rfl) ?_
   |refine BF.cons (λ_ _ _ _ _ _=>(by(repeat refine BN λ_=>?_);exact BL rfl)) ?_
   |refine BM.cons (λ_ _ _ _ _ _=>(by(repeat refine BN λ_=>?_);exact BL rfl)) ?_
inductive rC:List DictEntry->List (Str×V)->Prop
 |nil:rC [] []
 |cons {h:Int} {x:Str} {t:Tok} {u:Value} {v:V} {es:List DictEntry} {vs:List (Str×V)} (r:RelV v u) (q:rC es vs):rC (⟨h,.str x t,u⟩::es) ((x,v)::vs)
theorem rC.find{es vs}(x:Str)(h:rC es vs):A4 (vs.lookup x) (findBy Value.isStrOf es.toArray x):=by
 induction h with
 |nil=>trivial
 |cons r q ih =>
  rename_i h y t u v es vs;unfold findBy at ih ⊢;rw[List.find?_toArray] at ih ⊢;rw[bZ,da];by_cases e:x=y
  ·rw[show(x==y)=true from by simp[e],show Value.isStrOf x (.str y t)=true from by simp[Value.isStrOf,e]];exact r
  ·rw[show(x==y)=false from by simpa using e,show Value.isStrOf x (.str y t)=false from by simp[Value.isStrOf];exact λz=>e (z.symm)];exact ih
theorem all_mk{l:PySem.W.OpenLaw}{w:World}{K:PySem.W.Frag}{h:Heap}{mg:Str->Option Value}{fa:Addr}{zE vS:Addr}{t0 t1 t2 t3 uH uG oP oO oN oK:Tok}{zB:Array (Option Value)}{zC:Nat}{KC:Nat}{lY lX:Int}(X:K.In h)(G:h.Ns mainGlobals mg)(JW:mg "law"=some (.ref fa))(I:km K c0 F Ms top Ea)(e0:PySem.W.nsIn K mainGlobals "LAST_SPOT"=some (some (Value.int 7 t0)))(e1:PySem.W.nsIn K mainGlobals "MOST_COINS"=some (some (Value.int 9 t1)))(e2:PySem.W.nsIn K mainGlobals "LAST_DIE"=some (some (Value.int 99 t2)))(e3:PySem.W.nsIn K mainGlobals "LAST_YEAR"=some (some (Value.int 9999 t3)))(e4:PySem.W.nsIn K mainGlobals "SIDES"=some (some (.ref zE)))(Lv:K.lookup zE=some ⟨.type "tuple",none,.seq #[Value.str "lower" uH,Value.str "upper" uG] zC,zB⟩)(g0:PySem.W.nsIn K mainGlobals "DIE_FIELDS"=some (some (.ref vS)))(KH:K.lookup vS=some ⟨.type "dict",none,.dict #[⟨lY,Value.str "lower" oP,Value.int 0 oO⟩,⟨lX,Value.str "upper" oN,Value.int 2 oK⟩] KC,#[]⟩)(pI:lY=PyData.keyHash w.params "lower")(pH:lX=PyData.keyHash w.params "upper")(KA:(vS==sysModules)=false)
  : ∃fd:FuncData,(∀(s:Shared) (v:Value),BindsTo s fd ⟨[v],[]⟩ [("_law_script",v)])/\∀base:Heap,K.In base->base.Ns mainGlobals mg->gH l.prog w K mg base (iC l.prog w) 80 fa fd ["_law_script"] (ou exc K 1 (b9 T 40 11)):=by
 have A:mn w K mg c0 T:=by
  refine Qr I tx X G (λx d hx=>?_) (λx kvs hx=>?_)
  ·have hm:=aK hx;simp only[c0,con,List.mem_cons,List.mem_nil_iff,or_false] at hm;rcases hm with z|z|z|z|z
   ·cases z;exact⟨(.int 7),_,cu X G e0,⟨_,rfl⟩,λ_ _=>.int _⟩
   ·cases z;exact⟨(.int 9),_,cu X G e1,⟨_,rfl⟩,λ_ _=>.int _⟩
   ·cases z;exact⟨(.int 99),_,cu X G e2,⟨_,rfl⟩,λ_ _=>.int _⟩
   ·cases z;exact⟨(.int 9999),_,cu X G e3,⟨_,rfl⟩,λ_ _=>.int _⟩
   ·cases z;exact⟨.ref zE,_,cu X G e4,rfl,λ_ _=>.tup (vs:=[.str "lower",.str "upper"]) (.inr ⟨_,_,_,Lv,rfl,rfl,rfl,(by show 2<=sizeLine;decide),.cons ⟨_,rfl⟩ (.cons ⟨_,rfl⟩ (.nil))⟩) (.cons (.str _) (.cons (.str _) (.nil)))⟩
  ·have hm:=aK hx;simp only[c0,gd,List.mem_cons,List.mem_nil_iff,or_false] at hm;have z:=hm
   ·cases z;have er:rC [⟨lY,Value.str "lower" oP,Value.int 0 oO⟩,⟨lX,Value.str "upper" oN,Value.int 2 oK⟩] [("lower",.int 0),("upper",.int 2)]:=.cons (v:=.int 0) ⟨_,rfl⟩ (.cons (v:=.int 2) ⟨_,rfl⟩ (.nil));exact⟨vS,_,cu X G g0,⟨_,_,KH,⟨⟨_,_,rfl,pI⟩,⟨⟨_,_,rfl,pH⟩,True.intro⟩⟩,KA,λx=>er.find x⟩,.cons (λ_ _=>.int _) (.cons (λ_ _=>.int _) (.nil))⟩
 obtain⟨f,fd,O,a,t⟩:=Ew I tx _ (aC (i:=36) rfl);cases JW.symm.trans (cu X G a);obtain⟨oc,od,kV,doc,pm,an,ft,ct,lJ,rfl,lk,kL⟩:=O.fn.ex;exact⟨_,λs v=>.of_eq rfl,λbase mB uv=>NZ mB uv A 40 11 _ _ fa _ rfl O⟩
theorem walk{l:PySem.W.OpenLaw}{q:Program}{loose:List Str}{XP:(Str->Option Value)->Heap->Prop}{YP:World->Heap->Prop}{d:DefRec}{K:Params->PySem.W.Frag}(hn:l.most=some 63)(uc:d.params.defaults=[])(hY:∀(w:World) (h:Heap),YP w h->(K w.params).In h)(F:∀ (w:World) (mg:Str->Option Value) (fa:Addr) (h:Heap),(K w.params).In h->h.Ns mainGlobals mg->mg d.name=some (.ref fa) ->
   ∃ fd:FuncData,(∀ (s:Shared) (u:Value),BindsTo s fd ⟨[u],[]⟩ [("_law_script",u)])/\∀ base:Heap,(K w.params).In base->base.Ns mainGlobals mg->gH l.prog w (K w.params) mg base (iC l.prog w) 80 fa fd ["_law_script"] (ou exc (K w.params) 1 (b9 T 40 11))) :
  PySem.W.WalkO q loose XP YP l.row.toRowW d [] (λf vs=>PySem.call f vs) :=
 L2.Ys (n:=63) (k:=80) (x:="_law_script") (CX:=λw=>iC l.prog w) (sp:=λw=>ou exc (K w.params) 1 (b9 T 40 11)) hn ∅ uc ⟨rfl,by decide,by decide⟩ hY F (λw H a ns hl hO hS=>OB hO hS (Xh (k:=31) ⟨⟨rfl,rfl⟩,⟨rfl,rfl,rfl,rfl,rfl,rfl,rfl⟩,rfl,rfl,rfl,rfl,rfl,rfl,rfl,rfl,rfl,rfl,rfl,rfl,⟨rfl,rfl⟩,⟨rfl,rfl⟩,rfl,rfl,rfl,rfl,rfl,rfl,rfl,rfl,rfl,rfl,rfl,rfl⟩)) λ_ _ _ _ _ ⟨_,_,_,_,_,_,_,z⟩=>z
end Lk
end _X
open _X
open PySem PySem.W PyProof.Rows
set_option maxRecDepth 100000 in
set_option maxHeartbeats 0 in
theorem PySem.Challenge.cw_trussel_k06_stages_of_dies_holds : PySem.Challenge.rw_trussel_k06_stages_of_dies.Holds := by
 w_on;o_law;k_head;(case hw=>w_witness2)
 k_fill
 refine Lk.walk (l:=PySem.Challenge.rw_trussel_k06_stages_of_dies) rfl rfl (fun w h Y=>PySem.W.kIn_of Y) ?F
 case F =>
  intro w mg fa h KX G hmg
  refine' Lk.all_mk KX G hmg ⟨?zz1,?zz2,?zz3,?zz4,?zz5,?zz6,?zz7⟩ ?_ ?_ ?_ ?_ ?_ ?_ ?_ ?_ ?_ ?_ ?_
  (case zz1=>repeat' first | (with_reducible show _=_;k_is) | exact M.PF.nil | apply M.PF.cons)
  (case zz2=>repeat' first | (with_reducible show _=_;k_is) | exact M.PM.nil | apply M.PM.cons)
  (case zz3=>repeat' first | (with_reducible show _=_;(first | k_is | kernel_rfl)) | exact M.PC.nil | apply M.PC.cons)
  (case zz4=>repeat' first | (with_reducible show _=_;k_is) | exact M.PA.nil | apply M.PA.cons)
  (case zz5=>repeat' first | (with_reducible show _=_;k_is) | exact M.PB.nil | apply M.PB.cons)
  (case zz6=>repeat' first | (with_reducible show _=_;first | (with_reducible show PySem.W.excIn _ _ _ _=true;k_exc) | k_is) | exact M.PX.nil | apply M.PX.cons)
  (case zz7=>kernel_rfl)
  all_goals try (with_reducible show _=_;k_is)
  all_goals try ((with_reducible show _=_);rfl)
#print axioms PySem.Challenge.cw_trussel_k06_stages_of_dies_holds
