import PyProof.Rows.All
import Wide.All
import OpenK.AllK
import Wide.FinOn
import Lean
import PyProof.EqAt
import PyProof.EqKinds
import PyProof.TupleCall
import PySem.Challenge.RW_trussel_k23_whole_an_order_or_a_paper
set_option Elab.async false
set_option linter.all false
set_option maxRecDepth 100000
set_option maxHeartbeats 4000000
set_option genInjectivity false
set_option bootstrap.genMatcherCode false
set_option genSizeOf false
local macro_rules|`(def $i:declId $s:optDeclSig $v:declVal)=>`(noncomputable def $i:declId $s:optDeclSig $v:declVal)
structure PySem.W.Fast:Prop where(tw11686635563154181621 tw9204990649386725981 tw4884347006566635849 tw6642644233808944624 tw16451593330809362871 tw3527049794374147091 tw7779308978379659858 tw8704218558381886596 tw12550625670109221465 tw5657579703616077071 tw7385987742678949568 tw17001274703157312200 tw12773442803161787595 tw11190217456385324832 tw3197171531684067331 tw8201903752147098209 tw12265290268334788970 tw8649179060657481352 tw15151511655233905822 tw9035739224855655530 tw434775736329970217 tw6834319790311806316 tw15362471512720862748 tw12584756265325075703 tw15689622766035824099 tw13872754293942455940 tw8107786447433053402 tw15597865757246708285 tw14874489620213236222 tw6185782114917915628 tw7346124418201803104 tw9061534160644264949 tw778402400631375882 tw8689173389680251703 tw16953296704990345062 tw3333123073100787556 tw4670870430410173974 tw6853563673763413456 tw1879080598164714327 tw13138312493659495539 tw12238780203392514396 tw18214154844165883168 tw8178860908623907842 tw2628083116044544273 tw3890192671265814562 tw8843387699103963202 tw5453868344005521151 tw14660288540043710999 tw15506809427384131491 tw18006784960740538101 tw7869881039888855053 tw1663703403940400579 tw12815258483645807184 tw1948060434443939314 tw3309486906234259376 tw16799637349598900192 tw18351852345311876942 tw15133272918934426936 tw7346989980587730285 tw9802446681370934447 tw2431598586155105215 tw16881166837256474049 tw9900703445981815177 tw15653561549148281297 tw9892260087849086576 tw14583387414037856230 tw5448736437899755347 tw12169895696764440655 tw3498908051287250875 tw4389942335413092400 tw5843390153630673248 tw17177351497432832326 tw2869150674127054446 tw9764010547639378772 tw9170685282649073224 tw8124091328574260229 tw5665390395332786557 tw3642763669381981367 tw9329500690512731544 tw707883763683921813 tw13006439594631938266 tw6290705199519473635 tw7202736357146926902 tw11662346553761508556 tw10615276434576667814 tw7805929139656569695 tw4293711539929298324 tw2489045852868396403 tw14669007216068885530 tw11975521383072751502 tw17526218034625352027 tw15994202397031901766 tw10800813386506593077 tw3584905034817615680 tw14079775547340145071 tw13830805110843113566 tw17733959714833083326 tw5499596087403928950 tw7722381759818200759 tw6810269639650799235 tw5597651731547040615 tw12462714908194448518 tw11571331776632335072 tw9813963110448965420 tw4173054413511102827 tw4320778145855590656 tw12064494985577627134 tw13517167302290218763 tw15939815266026915107 tw2530644088438371610 tw10980185919966890771 tw1306332095715225616 tw9125483004471338251 tw1774625726709655316 tw13803458230653798199 tw4136990650184364325 tw15062635672051165748 tw9461121976832315011 tw9284658022210257575 tw5833463013896241648 tw3529592041736404599 tw8277546599340331372 tw7036578631588630626 tw10912078196687347559 tw8853155663177546202 tw10146204428465564798 tw16175436377538539551 tw17003924324634302190 tw2141312157989086628 tw17678726978117446523 tw2816533591829250112:True)
namespace _X
local macro_rules|`(tactic|left)=>`(tactic|walk_at"")
local macro_rules|`(())=>`(by omega)
local macro_rules|`(∅)=>`(by decide)
local macro_rules|`(tactic|omega)=>`(tactic|lia)
def Er:=@PySem.W.callWith_K0
def Es:=@List.reverse_append
def Et:=@List.mergeSort_perm
def Eu:=@List.length_pos_iff
def Ew:=@List.flatMap_append
def Ey:=@PySem.Calls.call_function_entry
def LD:=@PySem.wpAny_newList
def LH:=@PySem.W.kitx_tuple
def LJ:=@PySem.W.callWith_K
def LK:=@Nat.not_lt
def LL:=@Nat.mod_lt
def LM:=@List.ne_nil_of_mem
def LO:=@List.mem_filterMap
def LP:=@List.getElem?_take
def aA:=@PyProof.Rows.wpS_bind
def aB:=@PySem.Heap.get?_push_size
def aC:=@Nat.le_trans
def aD:=@if_neg
def aE:=@decide_eq_false
def aF:=@List.mem_of_getElem?
def aG:=@PyProof.Rows.wpS_pure
def aH:=@List.mem_map
def aI:=@List.mem_cons
def aJ:=@if_pos
def aK:=@Nat.ne_of_lt
def aL:=@List.getElem?_append_left
def aN:=@Option.some.inj
def aO:=@List.mem_append_right
def aP:=@List.getElem?_eq_none
def aQ:=@List.mem_singleton
def aR:=@List.mem_append
def aS:=@PySem.mem_of_lookup
def aT:=@Bool.and_eq_true
def aU:=@Bool.eq_iff_iff
def aV:=@List.any_eq_true
def aW:=@List.pairwise_append
def aX:=@List.mem_range
def aZ:=@List.size_toArray
def aa:=@Option.map_eq_some_iff
def ab:=@PySem.wpAny_bind
def ae:=@List.getElem?_eq_getElem
def ag:=@List.getElem?_map
def ai:=@List.length_map
def aj:=@PySem.Heap.get?_push_of_some
def ak:=@Option.bind_eq_some_iff
def ao:=@PySem.wpAny_pure
def au:=@List.getElem?_eq_some_iff
def av:=@Nat.le_refl
def aw:=@decide_eq_true
def ax:=@PySem.Heap.lt_size
def ay:=@Nat.lt_of_lt_of_le
def az:=@List.getElem?_set_ne
def bA:=@Array.toList_append
def bC:=@List.mem_cons_of_mem
def bD:=@decide_eq_true_iff
def bE:=@List.length_append
def bG:=@List.take_append_drop
def bH:=@List.mem_filter
def bJ:=@PySem.wpAny_mono
def bK:=@Nat.lt_irrefl
def bL:=@decide_eq_true_eq
def bN:=@PyProof.Rows.callWith_type1
def bO:=@Nat.ne_of_gt
def bP:=@List.ext_getElem?
def bQ:=@List.append_assoc
def bS:=@PySem.wpAny_holding
def bT:=@PySem.Heap.SameBut.update
def bW:=@Array.perm_iff_toList_perm
def bX:=@PySem.W.kia_one
def bY:=@List.take_length
def bZ:=@List.map_map
def bf:=@List.getElem?_set_self
def bg:=@List.mem_iff_getElem
def bo:=@of_decide_eq_true
def br:=@beq_iff_eq
def bu:=@List.take_succ
def bw:=@PySem.Heap.get?_update_self
def bx:=@List.mem_append_left
def cC:=@PySem.W.mg_of
def cE:=@List.nodup_append
def cF:=@List.getElem?_append_right
def cG:=@Array.length_toList
def cI:=@Nat.le_succ
def cJ:=@List.pairwise_iff_getElem
def cK:=@PySem.wpAny_truthy_bool
def cL:=@PySem.wpAny_setState_of
def cM:=@List.length_take
def cN:=@List.all_eq_true
def cO:=@Nat.lt_trans
def cP:=@List.map_cons
def cS:=@PySem.wpAny_Call_Name_kw
def cT:=@decide_eq_false_iff_not
def cV:=@List.take_of_length_le
def cW:=@decide_eq_decide
def cX:=@List.mem_reverse
def cY:=@Nat.lt_of_le_of_lt
def cZ:=@List.pairwise_cons
def cb:=@PySem.Obj.data_mapFields
def cg:=@List.getElem?_range
def cj:=@Nat.zero_le
def cv:=@getElem?_pos
def cw:=@Int.le_of_lt
def cy:=@List.getElem_mem
def cz:=@Ne.symm
def dB:=@PyProof.Rows.wpS_forRange
def dD:=@PySem.codeAny_builtin
def dE:=@beq_eq_false_iff_ne
def dG:=@PySem.wpAny_newObj_type
def dH:=@List.lookup_cons
def dN:=@List.eq_nil_of_length_eq_zero
def dO:=@PySem.W.cellsFrom_some
def dP:=@Int.emod_lt_of_pos
def dU:=@PySem.wpAny_call_entry
def dW:=@List.nodup_cons
def dX:=@List.map_append
def dZ:=@List.Perm.append_left
def da:=@List.mem_cons_self
def de:=@List.getElem?_eq_none_iff
def df:=@List.drop_eq_getElem_cons
def dg:=@List.append_nil
def dh:=@Bool.or_eq_true
def du:=@List.mem_of_mem_take
def dw:=@Int.toNat_natCast
def dy:=@Array.toList_push
def eE:=@PySem.wpAny_passesOwn
def eF:=@PySem.Obj.isFreed_of_fields
def eG:=@Nat.le_of_lt
def eI:=@Int.zero_add
def eJ:=@List.map_congr_left
def eK:=@List.filterMap_cons
def eQ:=@PySem.wpAny_setField
def eR:=@PySem.wpAny_of_eq
def eT:=@PySem.intKind_is
def eU:=@Option.isSome_iff_exists
def eV:=@List.getElem?_take_of_lt
def eW:=@PySem.Heap.size_push
def eZ:=@Nat.two_pow_pos
def ei:=@PySem.wpAny_rule
def et:=@PySem.Heap.get?_update_other
def fA:=@List.Perm.append_right
def fB:=@Int.le_trans
def fC:=@PySem.F.slot_list_getattribute
def fH:=@PySem.tupleKind_room_in1
def fM:=@List.pairwise_reverse
def fN:=@List.mem_iff_getElem?
def fO:=@Array.getElem_eq_getD
def fP:=@Array.getElem?_toList
def fT:=@PySem.wpAny_pyIter_list
def fU:=@PySem.isSubtype_type
def fV:=@Int.le_refl
def fb:=@List.range_succ
def fc:=@List.find?_cons
def fe:=@Int.emod_nonneg
def ff:=@PySem.wpAny_isInstance
def fg:=@Nat.one_le_two_pow
def fh:=@List.filter_append
def fi:=@List.getElem?_replicate
def fo:=@PySem.wpAny_standAt
def fq:=@Nat.lt_trichotomy
def ft:=@Nat.lt_or_ge
def fy:=@Nat.le_of_eq
def fz:=@List.flatMap_cons
def gA:=@List.findSome?_eq_none_iff
def gB:=@List.drop_drop
def gC:=@Int.not_lt
def gO:=@Option.isSome_map
def gP:=@Nat.lt_succ_of_lt
def gQ:=@List.reverse_cons
def gR:=@Array.size_append
def gW:=@PySem.wpAny_typeOf
def gX:=@PySem.codeAny_mono
def gn:=@PySem.plainId_quiet
def gz:=@List.length_eraseIdx_of_lt
def iA:=@List.drop_eq_nil_of_le
def iL:=@Array.size_push
def iV:=@PySem.wpAny_comprehension_free
def iW:=@PySem.F.slot_dict_get
def iX:=@Nat.eq_of_beq_eq_true
def iY:=@List.perm_append_comm
def iZ:=@List.length_filter_le
def ie:=@congrArg
def ig:=@List.mem_flatMap
def ij:=@List.length_eq_zero_iff
def ik:=@List.filter_cons
def iz:=@List.set_set
def jB:=@PyProof.Rows.K_mirror_equal
def jJ:=@PyProof.Rows.F.entry_set_update_loop
def jV:=@List.map_take
def jW:=@List.any_cons
def jX:=@Bool.true_and
def js:=@Nat.pow_le_pow_right
def jt:=@Array.toList_reverse
def ju:=@Array.toList_extract
def kF:=@List.findIdx?_eq_some_iff_getElem
def kM:=@List.take_sublist
def kO:=@List.reverse_perm
def kP:=@List.pairwise_map
def kQ:=@List.find?_append
def kR:=@List.any_map
def kS:=@Bool.not_eq_true'
def kc:=@List.map_inj_right
def ke:=@List.find?_eq_none
def kf:=@Bool.false_ne_true
def lS:=@Nat.lt_succ_self
def lT:=@List.nodup_range
def lU:=@List.getElem_inj
def lV:=@List.cons_ne_nil
def lr:=@List.eraseIdx_eq_take_drop_succ
def mB:=@PySem.wpAny_attempt
def mD:=@Sum.inl.inj
def mE:=@PySem.Paired.length
def mQ:=@Nat.min_le_left
def mR:=@Nat.min_eq_left
def mS:=@List.of_mem_zip
def mT:=@Array.Perm.refl
def my:=@PyProof.Rows.wpS_modify
def mz:=@PyProof.Rows.wpS_get
def nU:=@Nat.testBit_two_pow_sub_one
def oq:=@PySem.Obj.cls_mapFields
def ot:=@List.Perm.refl
def ou:=@Array.getElem?_eq_some_iff
def pA:=@Array.getElem?_eq_getElem
def pj:=@PyProof.Rows.wpS_lift
def pq:=@List.mem_or_eq_of_mem_set
def pz:=@List.exists_mem_of_ne_nil
def qf:=@PySem.wpAny_askSetting
def qg:=@Bool.false_or
def rX:=@PySem.sizeLine_eq
def rY:=@PySem.F.plainAttrs_list
def rZ:=@PySem.F.args_dict_get_3
def se:=@PyProof.Rows.boot_tuple
def sf:=@List.pairwise_mergeSort
def tW:=@PySem.wpAny_execs_nil
def tX:=@PySem.codeAny_of_tree
def tY:=@PySem.F.entry_dict_get
def tZ:=@PyProof.Rows.boot_list
def ua:=@List.pairwise_lt_range
def ub:=@List.length_pos_of_mem
def uc:=@List.filter_eq_nil_iff
def ud:=@Array.getElem?_eq_none
def wU:=@PyProof.Rows.boot_int
def wV:=@Nat.or_mod_two_eq_one
def wW:=@List.findSome?_append
def zc:=@PySem.Walks.list
def zd:=@Nat.pow_lt_pow_right
def ze:=@Nat.eq_of_testBit_eq
def zf:=@List.mem_of_mem_drop
def zg:=@List.getElem?_append
def zh:=@PySem.Calls.Name_function_global
namespace L2
open PySem PySem.Spec PyProof.Rows
variable{xs vs:List V}{us:List Value}{H H':Hp}{a b f C dx:Addr}{o:HO}{u:Value}{P:Program}{w:World}{h h' base:Heap}{α:Type}{x:Str}{e c tg:Expr}{X:Cx}{pins:List (Addr×Obj)}{U:St}{s:Shared}{t' i k:Nat}{ch fp:List Addr}{N ps:List Str}{M:Model}{A:Around}{E Q:Value->Shared->Prop}{v:V}{t:TA}{ta tb te:TE}{pos pos' p:Pos}{K:PySem.W.Frag}{es:List Expr}{op:CmpOp}{body:List Stmt}{r:R2}{fd:FuncData}{CX:nT}{sp:Sp}
noncomputable abbrev Key:=Sum Int Str
def S5:Key->Value->Bool
 |.inl k,v=>Value.isInt k v
 |.inr x,v=>Value.isStrOf x v
def Vs(w:World):Key->Int
 |.inl k=>hashInt k
 |.inr x=>hashStr w x
theorem t8:∀{k:Key} {v:Value},S5 k v=true->(∃i t,k=Sum.inl i/\v=Value.int i t)\/(∃x t,k=Sum.inr x/\v=Value.str x t)
 |.inl i,v,h=>by
  obtain⟨t,e⟩:=Value.isInt_shape (k:=i) (v:=v) h;exact .inl ⟨i,t,rfl,e⟩
 |.inr x,v,h=>by
  obtain⟨t,e⟩:=Value.isStrOf_shape (x:=x) (v:=v) h;exact .inr ⟨x,t,rfl,e⟩
theorem YT(i:Int)(t:Tok):S5 (.inl i) (.int i t)=true:=by simp[S5,Value.isInt]
theorem YU(x:Str)(t:Tok):S5 (.inr x) (.str x t)=true:=by simp[S5,Value.isStrOf]
theorem QE(a b:Int):decide ((Sum.inl a:Key)=Sum.inl b)=(a==b):=by
 by_cases e:a=b
 ·subst e;simp
 ·have h:¬(Sum.inl a:Key)=Sum.inl b:=λq=>e (mD q);rw[aE h];exact(dE.mpr e).symm
theorem QH(a b:Str):decide ((Sum.inr a:Key)=Sum.inr b)=decide (a=b):=by
 simp
theorem QF(a:Int)(b:Str):decide ((Sum.inl a:Key)=Sum.inr b)=false:=aE (λq=>nomatch q)
theorem QG(a:Str)(b:Int):decide ((Sum.inr a:Key)=Sum.inl b)=false:=aE (λq=>nomatch q)
def l9(prog:Program)(w:World):PySem.KeyKind prog w Key where
 is:=S5
 hash:=Vs w
 inj:=λv a b ha hb=>by
  rcases t8 ha with⟨i,t,rfl,rfl⟩|⟨x,t,rfl,rfl⟩
  ·rcases t8 hb with⟨j,u,rfl,e⟩|⟨y,u,rfl,e⟩
   ·injection e with e1 _;rw[e1]
   ·exact nomatch e
  ·rcases t8 hb with⟨j,u,rfl,e⟩|⟨y,u,rfl,e⟩
   ·exact nomatch e
   ·injection e with e1 _;rw[e1]
 byValue:=λk v h=>by
  rcases t8 h with⟨i,t,rfl,rfl⟩|⟨x,t,rfl,rfl⟩<;>rfl
 pyHash:=λhv h=>by
  rcases t8 hv with⟨i,t,rfl,rfl⟩|⟨x,t,rfl,rfl⟩
  ·exact wpAny_pyHash_int h
  ·exact wpAny_pyHash_str h
 eqBool:=λhu hv h=>by
  rcases t8 hu with⟨i,t,rfl,rfl⟩|⟨x,t,rfl,rfl⟩
  ·rcases t8 hv with⟨j,u,rfl,rfl⟩|⟨y,u,rfl,rfl⟩
   ·rw[QE] at h;exact wpAny_eqBool_int h
   ·rw[QF] at h;exact SeqAt.EqAt.int_str i t y u _ _ _ _ h
  ·rcases t8 hv with⟨j,u,rfl,rfl⟩|⟨y,u,rfl,rfl⟩
   ·rw[QG] at h;exact SeqAt.EqAt.str_int x t j u _ _ _ _ h
   ·rw[QH] at h;exact wpAny_eqBool_str h
 «strs»:=λk x t v h=>by
  rcases t8 h with⟨i,u,rfl,e⟩|⟨y,u,rfl,e⟩
  ·exact nomatch e
  ·injection e with e1 _;subst e1;cases v<;>rfl
theorem ZR(prog:Program)(w:World)(k:Key)(v:Value):(l9 prog w).is k v=S5 k v:=rfl
theorem T5(prog:Program)(w:World)(i:Int)(t:Tok):(l9 prog w).is (.inl i) (.int i t)=true:=YT i t
theorem aF3(prog:Program)(w:World)(x:Str)(t:Tok):(l9 prog w).is (.inr x) (.str x t)=true:=YU x t
set_option genInjectivity true in
inductive V where
 |bR|bl (b:Bool)|int (i:Int)|str (x:Str)|lO (b:Array UInt8)|rC (b:UInt64)|ref (a:Addr)|ty (n:String)
 deriving DecidableEq
def RelV:V->Value->Prop
 |.bR,u=>u=Value.none
 |.bl b,u=>u=Value.bool b
 |.int i,u=>∃t,u=Value.int i t
 |.str x,u=>∃t,u=Value.str x t
 |.lO b,u=>∃t,u=Value.bytes b t
 |.rC b,u=>∃t,u=Value.float b t
 |.ref a,u=>u=Value.ref a
 |.ty n,u=>u=Value.type n
noncomputable abbrev Vals:List V->List Value->Prop:=Paired RelV
theorem Vals.length{xs:List V}{us:List Value}(r:Vals xs us):xs.length=us.length:=mE r
theorem Vals.get:∀{xs:List V} {us:List Value} {i:Nat} {x:V},Vals xs us->xs[i]?=some x->∃u,us[i]?=some u/\RelV x u
 |_,_,_,_,.nil,e=>by simp at e
 |_,_,0,_,.cons r _,e=>by simp at e;subst e;exact⟨_,rfl,r⟩
 |_,_,i+1,x,.cons _ t,e=>by
  obtain⟨u,h1,h2⟩:=Vals.get (i:=i) (x:=x) t (by simpa using e);exact⟨u,by simpa using h1,h2⟩
theorem Vals.set{x:V}{u:Value}(r:RelV x u):∀{xs:List V} {us:List Value} (i:Nat),Vals xs us->Vals (xs.set i x) (us.set i u)
 |_,_,_,.nil=>.nil
 |_,_,0,.cons _ t=>.cons r t
 |_,_,i+1,.cons q t=>.cons q (Vals.set r i t)
theorem Vals.append{ys:List V}{ws:List Value}(h:Vals xs us)(s:Vals ys ws):Vals (xs++ys) (us++ws):=by
 induction h with
 |nil=>exact s
 |cons r t ih=>exact .cons r ih
theorem Vals.take:∀{xs:List V} {us:List Value} (n:Nat),Vals xs us->Vals (xs.take n) (us.take n)
 |_,_,0,_=>.nil
 |_,_,_+1,.nil=>.nil
 |_,_,n+1,.cons r t=>.cons r (Vals.take n t)
theorem Vals.drop:∀{xs:List V} {us:List Value} (n:Nat),Vals xs us->Vals (xs.drop n) (us.drop n)
 |_,_,0,r=>r
 |_,_,_+1,.nil=>.nil
 |_,_,n+1,.cons _ t=>Vals.drop n t
def E8:Option V->Option Value->Prop
 |some v,some u=>RelV v u
 |none,none=>True
 |_,_=>False
def KV{κ:Type}:List (κ×V)->List (κ×Value)->Prop:=Paired λ(p:κ×V) (q:κ×Value)=>p.1=q.1/\RelV p.2 q.2
def kV:Key->V
 |.inl i=>.int i
 |.inr x=>.str x
inductive HO where
 |lst (xs:List V)
 |tup (xs:List V)
 |dK (kvs:List (Key×V))|dT (kvs:List (List Key×V))
 |set (S:Int->Bool) (n:Nat)
 |ins (C dx:Addr) (fs:List (Str×V))
 |own (x:Addr)
 |xd (fs:List (Str×V))
 |met (f x:Addr)
 |mI (lo hi:Int)
 |jR (o:Obj) (u:HO)
 |ly (ps:Array Value)
 |ext (φ:Heap->Prop)
noncomputable abbrev Hp:=Addr->Option HO
def upd(H:Hp)(a:Addr)(o:HO):Hp:=λb=>if b=a then some o else H b
theorem u4:upd H a o a=some o:=by unfold upd;rw[aJ rfl]
theorem d8(h:b≠a):upd H a o b=H b:=by unfold upd;rw[aD h]
theorem Xj{u:HO}(h:H a=some o)(h':H b=some u)(d:o≠u):a≠b:=by
 intro e;subst e;rw[h] at h';exact d (aN h')
theorem m9(h:H a=some o)(h':H b=none):a≠b:=by
 intro e;simp_all
def W8(h:Heap)(a:Addr)(items:Array Value):Prop:=∃o,h.get? a=some o/\o.cls=.type "tuple"/\(∃n,o.data=.seq items n)/\o.dict=none
theorem W8.tup{h:Heap}{a:Addr}{items:Array Value}(x:W8 h a items):IsTup h a items:=let ⟨o,e,c,d,_⟩:=x;⟨o,e,c,d⟩
theorem W8.new(h:Heap)(items:Array Value):W8 (h.push { cls:=.type "tuple",data:=.seq items }) h.objs.size items:=⟨_,aB _ rfl,rfl,⟨_,rfl⟩,rfl⟩
section
variable(P:Program)(w:World)
def n6(H:Hp)(h:Heap)(a:Addr):HO->Prop
 |.lst xs=>xs.length<=sizeLine/\∃(bt:List Value) (n:Nat),Vals xs bt/\h.get? a=some { cls:=.type "list",data:=.seq bt.toArray n }
 |.tup xs=>xs.length<=sizeLine/\∃bt:List Value,Vals xs bt/\W8 h a bt.toArray
 |.dK kvs=>kvs.length<=sizeLine/\(a==sysModules)=false/\∃vs,KV kvs vs/\h.DictOf (l9 P w) a vs
 |.dT kvs=>kvs.length<=sizeLine/\(a==sysModules)=false/\∃xs:List (List Key×Addr×Value),
   Paired (λ(p:List Key×V) (q:List Key×Addr×Value)=>p.1=q.1/\H q.2.1=some (.tup (p.1.map kV))/\RelV p.2 q.2.2) kvs xs /\
   ∃o es ep,h.get? a=some o/\o.ExactDict/\o.data=.dict es ep/\es.toList=xs.map (entryOfKey (tupleKind (l9 P w)))/\(xs.map (·.1)).Nodup
 |.set S n=>h.SetOf (intKind P w) a S n
 |.ins C dx fs=>H dx=some (.own a)/\fs.length<=1000/\dx≠a/\h.get? a=some (PySem.W.instObj C dx) /\
   ∃mA,h.Ns1 dx mA/\(∀f,E8 (fs.lookup f) (mA f))/\PySem.Within mA (fs.map (·.1))
 |.own _=>∃o,h.get? a=some o
 |.xd fs=>∃mA,h.Ns1 a mA/\∀f,E8 (fs.lookup f) (mA f)
 |.mI lo hi=>∃t u v,h.get? a=some { cls:=.type "range",data:=.fields #[.int lo t,.int hi u,.int 1 v] }
 |.jR o u=>h.get? a=some o/\n6 H h a u
 |.ly ps=>h.get? a=some { cls:=.none,data:=.fields ps }
 |.met f x=>h.get? a=some (PySem.W.methodObj (.ref f) (.ref x))
 |.ext φ=>φ h/\(∃o,h.get? a=some o)/\∀h1 h2:Heap,φ h1->(∀o,h1.get? a=some o->h2.get? a=some o)->φ h2
def gH(H:Hp)(h:Heap):Prop:=∀a o,H a=some o->n6 P w H h a o
end
theorem n6.lt(x:n6 P w H h a o):a<h.objs.size:=by
 cases o with
 |lst xs=>obtain⟨_,_,_,_,e⟩:=x;exact ax e
 |tup xs=>obtain⟨_,_,_,p⟩:=x;exact p.tup.lt
 |dK kvs=>obtain⟨_,_,_,_,o,_,_,e,_⟩:=x;exact ax e
 |dT kvs=>obtain⟨_,_,_,_,o,_,_,e,_⟩:=x;exact ax e
 |set S n=>obtain⟨o,_,_,_,e,_⟩:=x;exact ax e
 |ins C dx fs=>obtain⟨_,_,_,e,_⟩:=x;exact ax e
 |own y=>obtain⟨_,e⟩:=x;exact ax e
 |xd fs=>obtain⟨_,⟨_,_,_,e,_⟩,_⟩:=x;exact ax e
 |mI lo hi=>obtain⟨_,_,_,e⟩:=x;exact ax e
 |jR ob u=>obtain⟨e,_⟩:=x;exact ax e
 |ly ps=>exact ax (show h.get? a=some _ from x)
 |met f y=>exact ax (show h.get? a=some _ from x)
 |ext φ=>obtain⟨_,⟨_,e⟩,_⟩:=x;exact ax e
theorem Paired.Hh{β:Type}{F G:α->β->Prop}{uN:List α}{uM:List β}(h:Paired F uN uM)(f:∀a b,F a b->G a b):Paired G uN uM:=by
 induction h with
 |nil=>exact .nil
 |cons r t ih=>exact .cons (f _ _ r) ih
theorem n6.X4(x:n6 P w H h a o)(k:∀b u,(b=a\/H b=some (.own a))->h.get? b=some u->h'.get? b=some u)(ho:∀b,H b=some (.own a)->H' b=some (.own a))(ht:∀b xs,H b=some (.tup xs)->H' b=some (.tup xs)):n6 P w H' h' a o:=by
 induction o with
 |lst xs=>obtain⟨z,bt,n,r,e⟩:=x;exact⟨z,bt,n,r,k _ _ (.inl rfl) e⟩
 |tup xs=>obtain⟨z,bt,r,ob,e,c⟩:=x;exact⟨z,bt,r,ob,k _ _ (.inl rfl) e,c⟩
 |dK kvs=>obtain⟨z,y,vs,r,ob,es,ep,e,c⟩:=x;exact⟨z,y,vs,r,ob,es,ep,k _ _ (.inl rfl) e,c⟩
 |dT kvs =>
  obtain⟨z,y,xs,r,ob,es,ep,e,c⟩:=x;exact⟨z,y,xs,Paired.Hh r λp q z=>⟨z.1,ht _ _ z.2.1,z.2.2⟩,ob,es,ep,k _ _ (.inl rfl) e,c⟩
 |set S n=>obtain⟨ob,es,ep,t,e,c⟩:=x;exact⟨ob,es,ep,t,k _ _ (.inl rfl) e,c⟩
 |ins C dx fs =>
  obtain⟨d,z,ne,e,mA,⟨od,es,ep,e2,c⟩,r⟩:=x;exact⟨ho _ d,z,ne,k _ _ (.inl rfl) e,mA,⟨od,es,ep,k _ _ (.inr d) e2,c⟩,r⟩
 |own y=>obtain⟨ob,e⟩:=x;exact⟨ob,k _ _ (.inl rfl) e⟩
 |xd fs=>obtain⟨mA,⟨od,es,ep,e,c⟩,r⟩:=x;exact⟨mA,⟨od,es,ep,k _ _ (.inl rfl) e,c⟩,r⟩
 |mI lo hi=>obtain⟨t,u,v,e⟩:=x;exact⟨t,u,v,k _ _ (.inl rfl) e⟩
 |jR ob u ih=>obtain⟨e,q⟩:=x;exact⟨k _ _ (.inl rfl) e,ih q⟩
 |ly ps =>
  have e:h.get? a=some { cls:=.none,data:=.fields ps }:=x;exact k a _ (.inl rfl) e
 |met f y =>
  have e:h.get? a=some (PySem.W.methodObj (.ref f) (.ref y)):=x;exact k a _ (.inl rfl) e
 |ext φ=>obtain⟨p,⟨o,e⟩,st⟩:=x;exact⟨st _ _ p λo q=>k _ _ (.inl rfl) q,⟨o,k _ _ (.inl rfl) e⟩,st⟩
theorem gH.lt(x:gH P w H h)(e:H a=some o):a<h.objs.size:=(x a o e).lt
theorem gH.fresh(x:gH P w H h)(e:h.objs.size<=a):H a=none:=by
 cases q:H a with
 |none=>rfl
 |some u=>exact absurd (ay (x.lt q) e) (bK _)
theorem gH.kept(x:gH P w H h)(k:∀b u,h.get? b=some u->h'.get? b=some u):gH P w H h':=λa o e =>
 (x a o e).X4 (λb u _ q=>k b u q) (λ_ q=>q) λ_ _ q=>q
theorem gH.laid(x:gH P w H h)(k:∀b u,h.get? b=some u->h'.get? b=some u)(hp:h.objs.size<=a)(new:n6 P w (upd H a o) h' a o):gH P w (upd H a o) h':=λb u e=>by
 have hn:=x.fresh hp;by_cases hb:b=a
 ·subst hb;rw[u4] at e;simp_all
 ·rw[d8 hb] at e;exact(x b u e).X4 (λc v _ q=>k c v q) (λc q=>by rw[d8 (m9 q hn)];exact q) λc xs q=>by rw[d8 (m9 q hn)];exact q
def Rd(H:Hp)(a:Addr)(u:HO):Prop:=H a=some u\/∃o,H a=some (.jR o u)
theorem Rd.ok{u:HO}(r:Rd H a u)(x:gH P w H h):n6 P w H h a u:=by
 rcases r with r|⟨o,r⟩
 ·exact x a u r
 ·obtain⟨_,q⟩:=x a _ r;exact q
def wK:Option HO->Prop
 |some (.lst _)=>True
 |some (.dK _)=>True
 |some (.dT _)=>True
 |some (.set _ _)=>True
 |some (.ins _ _ _)=>True
 |some (.ext _)=>True
 |_=>False
section
variable{x e:Addr}{o':HO}
theorem gH.write(ok:gH P w H h)(mu:wK (H x))(he:e=x\/H e=some (.own x))(k:∀b u,b≠e->h.get? b=some u->h'.get? b=some u)(qQ:∃u,h'.get? e=some u)(new:n6 P w (upd H x o') h' x o'):gH P w (upd H x o') h':=λb u q=>by
 have uG:∀c y,H c=some (.own y)->c≠x:=λc y r z=>by subst z;rw[r] at mu;exact mu
 have zG:∀c xs,H c=some (.tup xs)->c≠x:=λc xs r z=>by subst z;rw[r] at mu;exact mu
 by_cases hb:b=x
 ·subst hb;rw[u4] at q;cases q;exact new
 ·rw[d8 hb] at q;by_cases sP:b=e
  ·have q':H b=some (.own x):=by
    rcases he with z|z
    ·exact absurd (sP.trans z) hb
    ·rw[sP];exact z
   rw[q] at q';cases q';obtain⟨v,hv⟩:=qQ;exact⟨v,by rw[sP];exact hv⟩
  ·refine(ok b u q).X4 (λc v hc r=>k c v ?_ r) (λc r=>by rw[d8 (uG c b r)];exact r) λc xs r=>by rw[d8 (zG c xs r)];exact r
   rcases hc with rfl|hc
   ·exact sP
   ·rintro rfl;rcases he with z|z
    ·exact uG c b hc z
    ·rw[hc] at z;cases z;exact hb rfl
end
structure Un(fs ex:List Addr)(H H':Hp)(h h':Heap):Prop where
 keep:∀b o,h.get? b=some o->H b=none->b∉fs->b∉ex->h'.get? b=some o
 slot:∀b o,h.get? b=some o->H b=none->b∈fs->b∉ex->∃sl,h'.get? b=some { o with slots:=sl }
 free:∀b o,h.get? b=some o->H b=none->b∉ex->H' b=none
 there:∀b o,h.get? b=some o->b∉ex->∃o',h'.get? b=some o'
 ja:∀b xs,H b=some (.tup xs)->H' b=some (.tup xs)
 iJ:∀b o u,H b=some (.jR o u)->H' b=some (.jR o u)
 jb:∀b ps,H b=some (.ly ps)->∃more,H' b=some (.ly (ps++more))
section
variable{fs ex:List Addr}{H1:Hp}{h1:Heap}{x e:Addr}
theorem Un.any(u:Un fs ex H H1 h h1){ob:Obj}(q:h.get? b=some ob)(n:H b=none)(hx:b∉ex):∃sl,h1.get? b=some { ob with slots:=sl }:=by
 by_cases hb:b∈fs
 ·exact u.slot b ob q n hb hx
 ·exact⟨ob.slots,u.keep b ob q n hb hx⟩
theorem Un.kept(k:∀b u,h.get? b=some u->h'.get? b=some u):Un fs ex H H h h' :=
 ⟨λb ob q _ _ _=>k b ob q,λb ob q _ _ _=>⟨ob.slots,k b ob q⟩,λ_ _ _ n _=>n,λb ob q _=>⟨ob,k b ob q⟩,λ_ _ q=>q,λ_ _ _ q=>q,λ_ ps q=>⟨#[],by rw[q];simp⟩⟩
theorem Un.refl:Un fs ex H H h h:=Un.kept λ_ _ q=>q
theorem Un.laid(k:∀b u,h.get? b=some u->h'.get? b=some u)(hp:h.objs.size<=a)(hn:H a=none):Un fs ex H (upd H a o) h h' where
 keep:=λb u q _ _ _=>k b u q
 slot:=λb u q _ _ _=>⟨u.slots,k b u q⟩
 free:=λb u q n _=>by rw[d8 (aK (ay (ax q) hp))];exact n
 there:=λb u q _=>⟨u,k b u q⟩
 ja:=λb xs q=>by rw[d8 (m9 q hn)];exact q
 iJ:=λb u xs q=>by rw[d8 (m9 q hn)];exact q
 jb:=λb ps q=>⟨#[],by rw[d8 (m9 q hn),q];simp⟩
theorem Un.write(mu:wK (H x))(he:e=x\/H e=some (.own x))(k:∀b u,b≠e->h.get? b=some u->h'.get? b=some u)(qQ:∃u,h'.get? e=some u):Un fs ex H (upd H x o) h h':=by
 have hx:∀b,H b=none->b≠x:=λb n z=>by subst z;rw[n] at mu;exact mu
 have hb:∀b,H b=none->b≠e:=λb n z=>by
  simp_all
 have hm:∀b u,H b=some u->¬wK (some u)->b≠x:=λb u q nm z=>by simp_all
 refine ⟨λb u q n _ _=>k b u (hb b n) q,λb u q n _ _=>⟨u.slots,k b u (hb b n) q⟩,λb u q n _=>by rw [d8 (hx b n)];exact n,λb u q _=>?_,
  λb xs q=>by rw [d8 (hm b _ q λz=>z)];exact q,λb u xs q=>by rw [d8 (hm b _ q λz=>z)];exact q,λb ps q=>⟨#[],by rw [d8 (hm b _ q λz=>z),q];simp⟩⟩
 by_cases sP:b=e
 ·simp_all
 ·exact⟨u,k b u sP q⟩
end
def qj(h:Heap)(H:Hp):List Addr:=(List.range h.objs.size).filter λa=>(H a).isSome
def Z5(h:Heap)(H:Hp):Heap:=PySem.W.hideAll h (qj h H)
theorem YO(h:Heap)(H:Hp):(Z5 h H).objs.size=h.objs.size:=PySem.W.hideAll_size _ _
theorem a48{o:Obj}(e:h.get? b=some o)(n:H b=none):(Z5 h H).get? b=some o :=
 PySem.W.hideAll_get _ e λhm=>by
  have q:(H b).isSome=true:=(bH.mp hm).2;rw[n] at q;simp at q
theorem Tx{o:Obj}(e:(Z5 h H).get? b=some o):h.get? b=some o/\H b=none:=by
 have e':h.get? b=some o:=PySem.W.of_hideAll (qj h H) e;refine⟨e',?_⟩;cases q:H b with
 |none=>rfl
 |some x =>
  have hm:b∈qj h H:=bH.mpr ⟨aX.mpr (ax e'),by simp[q]⟩;have z:(Z5 h H).get? b=none:=PySem.W.hideAll_none (qj h H) hm
  simp_all
structure Mod(K:PySem.W.Frag)(mg:Str->Option Value)(base:Heap):Prop where
 qz:K.In base
 glob:base.Ns mainGlobals mg
 blt:∃mb,base.Ns builtinsNs mb/\∀x:Str,x≠"__name__"->mb x=bootBuiltins x
 nolimit:base.NoLimit
structure Cx where
 prog:Program
 w:World
 K:PySem.W.Frag
 mg:Str->Option Value
 base:Heap
 A:Around
 N:List Str
 dJ:Shared
 lq:Hp
 env:Env
 outer:List Env
 stack:List Env
 ex:List Addr
 fn:Str->Bool
 calm:Bool
 pn:List (Addr×Obj)
 xe:Value->Shared->Prop
 sg:Option (List (Option V)):=none
def Cx.Nd(X:Cx):Prop:=X.N.Nodup/\X.sg=none
def iS(l:List Env):List Addr:=l.filterMap (·.frame)
noncomputable abbrev Cx.fs(X:Cx):List Addr:=iS X.outer
def wG(sc:Scope)(x:Str):Prop:=sc.names.lookup x=some .local\/sc.names.lookup x=some .cell\/sc.names.lookup x=some .free
def Loc(sc:Scope)(x:Str):Prop:=sc.names.lookup x=some .local\/sc.names.lookup x=some .cell
def Look(env:Env)(h:Heap)(m:Str->Option Value)(x:Str)(u:Value):Prop :=
 (env.kindOf x=some .local/\m x=some u)\/((env.kindOf x=some .cell\/env.kindOf x=some .free)/\∃c,env.cells.lookup x=some c/\h.IsCell c (some u))
structure Cx.Ok(X:Cx):Prop where
 mod:Mod X.K X.mg X.base
 kind:X.env.scope.kind=.function
 glob:X.env.globals=mainGlobals
 blt:X.env.builtins=builtinsNs
 above:X.dJ.heap.objs.size<=X.env.locals
 inj:∀x y c,X.env.cells.lookup x=some c->X.env.cells.lookup y=some c->x=y
 has:∀x,(X.env.kindOf x=some .cell\/X.env.kindOf x=some .free)->∃c,X.env.cells.lookup x=some c
 vW:∀x c,X.fn x=true->X.env.cells.lookup x=some c->X.dJ.heap.objs.size<=c
 hd:X.calm=true->X.A.handled=none
 frames:X.A.frames=some X.stack
 xg:X.stack=X.outer\/(X.stack=X.env::X.outer/\X.env.frame=some X.env.locals)
 GF:∀b∈X.ex,b≠X.env.locals/\∀x c,X.env.cells.lookup x=some c->c≠b
 bs:∀b o,X.base.get? b=some o->X.dJ.heap.get? b=some o/\X.lq b=none
 pV:X.base.objs.size<=X.dJ.heap.objs.size
 nh:∀b o,X.base.get? b=some o->b∉X.ex
 oR:∀b∈X.ex,b∉X.fs
 O2:X.dJ.heap.FunFrames X.base X.outer
 rB:∀b∈X.fs,X.lq b=none
structure Inv(X:Cx)(pins:List (Addr×Obj))(U:List (Option V))(H:Hp)(s:Shared):Prop where
 ok:X.Ok
 os:s.os=X.dJ.os
 bare:AllBare s.gens
 base:Un X.fs X.ex X.lq H X.dJ.heap s.heap
 loc:∃m,s.heap.Ns X.env.locals m/\∀(i:Nat) (x:Str) (v:V),X.N[i]?=some x->U[i]?=some (some v)->wG X.env.scope x->∃u,RelV v u/\Look X.env s.heap m x u
 cell:∀x c,X.env.cells.lookup x=some c->∃v,s.heap.IsCell c v
 free:H X.env.locals=none
 fY:∀x c,X.env.cells.lookup x=some c->H c=none
 pin:∀p∈X.pn++pins,s.heap.get? p.1=some p.2/\H p.1=none/\p.1≠X.env.locals/\p.1∉X.fs/\∀v,p.2.data≠.cell v
 cu:gH X.prog X.w H s.heap
 len:U.length=X.N.length
 sg:∀jC,X.sg=some jC->U=jC
section
variable{U:List (Option V)}
theorem Cx.Ok.VE(ok:X.Ok){o:Obj}(e:X.base.get? b=some o):b∉X.fs:=λhb=>by
 have:=(ok.O2.mem hb).1
 simp_all
theorem Inv.bs(I:Inv X pins U H s):∀b o,X.base.get? b=some o->s.heap.get? b=some o/\H b=none:=λb o e =>
 ⟨I.base.keep b o (I.ok.bs b o e).1 (I.ok.bs b o e).2 (I.ok.VE e) (I.ok.nh b o e),I.base.free b o (I.ok.bs b o e).1 (I.ok.bs b o e).2 (I.ok.nh b o e)⟩
theorem Inv.bk(I:Inv X pins U H s):∀b o,X.base.get? b=some o->s.heap.get? b=some o:=λb o e=>(I.bs b o e).1
theorem Inv.mod(I:Inv X pins U H s):Mod X.K X.mg X.base:=I.ok.mod
theorem Inv.hX(I:Inv X pins U H s):X.K.In s.heap:=I.ok.mod.qz.keeps I.bk
theorem Inv.lt(I:Inv X pins U H s):X.env.locals<s.heap.objs.size:=let ⟨_,hn,_⟩:=I.loc;hn.lt
theorem Inv.sz(I:Inv X pins U H s):X.dJ.heap.objs.size<=s.heap.objs.size:=aC I.ok.above (eG I.lt)
theorem Inv.wF(I:Inv X pins U H s)(h:s.heap.objs.size<=a):a∉X.fs:=λhb=>by
 obtain⟨_,o,ho,_⟩:=I.ok.O2.mem hb;exact absurd (ay (ax ho) (aC I.sz h)) (bK _)
theorem Inv.rF(I:Inv X pins U H s):∀x c,X.env.cells.lookup x=some c->c≠X.env.locals:=λx c e z=>by
 obtain⟨v,o,ho,hd⟩:=I.cell x c e;obtain⟨m,⟨o',es,ep,nY,Gb,_⟩,_⟩:=I.loc
 simp_all
theorem Inv.O2(I:Inv X pins U H s):s.heap.FunFrames X.base X.outer:=by
 have all:∀(l:List Env),(∀b∈iS l,b∈X.fs)->X.dJ.heap.FunFrames X.base l->s.heap.FunFrames X.base l:=by
  intro l
  induction l with
  |nil=>intro _ _;trivial
  |cons env r ih =>
   intro hs hl;obtain⟨hk,⟨L,o,hf,hn,ho,hd⟩,hr⟩:=hl;have hL:L∈X.fs:=hs L (by unfold iS;rw[eK,hf];exact da);obtain⟨sl,e⟩:=I.base.slot L o ho (I.ok.rB L hL) hL λz=>I.ok.oR L z hL;exact⟨hk,⟨L,_,hf,hn,e,hd⟩,ih (λb hb=>hs b (by unfold iS;rw[eK,hf];exact bC _ hb)) hr⟩
 exact all X.outer (λ_ hb=>hb) I.ok.O2
theorem Inv.stack(I:Inv X pins U H s):s.heap.FunFrames X.base X.stack:=by
 rcases I.ok.xg with e|⟨e,hf⟩
 ·rw[e];exact I.O2
 ·rw[e];obtain⟨m,hn,_⟩:=I.loc;refine .cons (by rw[I.ok.kind];decide) hf hn ?_ I.O2;exact Heap.get?_none_of_le (aC I.ok.pV I.ok.above)
theorem Inv.K1(I:Inv X pins U H s):∀b∈iS X.stack,b∈X.env.locals::X.fs:=λb hb=>by
 rcases I.ok.xg with e|⟨e,hf⟩
 ·rw[e] at hb;exact bC _ hb
 ·rw[e] at hb;unfold iS at hb;rw[eK,hf] at hb;exact hb
theorem Inv.Cf(I:Inv X pins U H s):∀b∈iS X.stack,H b=none:=λb hb=>by
 rcases aI.mp (I.K1 b hb) with e|hb
 ·rw[e];exact I.free
 ·obtain⟨_,o,ho,_⟩:=I.ok.O2.mem hb;exact I.base.free b o ho (I.ok.rB b hb) λz=>I.ok.oR b z hb
theorem Inv.step{g':Array GenState}{t':Nat}{d':Drawn}{ch:List Addr}(I:Inv X pins U H s)(lF:∀b∈ch,(b∈X.ex\/X.dJ.heap.objs.size<=b)/\b≠X.env.locals/\(∀x c,X.env.cells.lookup x=some c->c≠b)/\∀p∈X.pn++pins,p.1≠b)(keep:∀b o,b≠X.env.locals->b∉X.fs->b∉ch->s.heap.get? b=some o->H b=none->h'.get? b=some o)(slot:∀b o,b≠X.env.locals->b∈X.fs->b∉ch->s.heap.get? b=some o->H b=none->∃sl,h'.get? b=some { o with slots:=sl })(free:∀b o,b∉ch->s.heap.get? b=some o->H b=none->H' b=none)(there:∀b o,b∉ch->s.heap.get? b=some o->∃o',h'.get? b=some o')(ja:∀b xs,H b=some (.tup xs)->H' b=some (.tup xs))(iJ:∀b o u,H b=some (.jR o u)->H' b=some (.jR o u))(jb:∀b ps,H b=some (.ly ps)->∃more,H' b=some (.ly (ps++more)))(ns:∀m,s.heap.Ns X.env.locals m->h'.Ns X.env.locals m)(cu:gH X.prog X.w H' h')(hg:AllBare g') :
  Inv X pins U H' { s with heap:=h',gens:=g',drawn:=d',toks:=t' }:=by
 have Fb:∀b o,X.dJ.heap.get? b=some o->b≠X.env.locals:=λb o e=>aK (ay (ax e) I.ok.above);have pE:∀b o,X.dJ.heap.get? b=some o->b∉X.ex->b∉ch:=λb o e hx hb=>by
  rcases(lF b hb).1 with z|z
  ·exact hx z
  ·exact absurd (ay (ax e) z) (bK _)
 have cellK:∀x c,X.env.cells.lookup x=some c->∀v,s.heap.IsCell c v->h'.IsCell c v:=λx c e v bB=>by
  obtain⟨o,ho,hd⟩:=bB;have uK:c∉ch:=λz=>(lF c z).2.2.1 x c e rfl;by_cases hc:c∈X.fs
  ·obtain⟨sl,q⟩:=slot c o (I.rF x c e) hc uK ho (I.fY x c e);exact⟨_,q,hd⟩
  ·exact⟨o,keep c o (I.rF x c e) hc uK ho (I.fY x c e),hd⟩
 refine⟨I.ok,I.os,hg,⟨λb o e n hb hx=>?_,λb o e n hb hx=>?_,λb o e n hx=>?_,λb o e hx=>?_,λb xs e=>ja b xs (I.base.ja b xs e),λb o xs e=>iJ b o xs (I.base.iJ b o xs e),λb ps e=>?_⟩,?_,λx c e=>?_,?_,λx c e=>?_,λp hp=>?_,cu,I.len,I.sg⟩
 ·exact keep b o (Fb b o e) hb (pE b o e hx) (I.base.keep b o e n hb hx) (I.base.free b o e n hx)
 ·obtain⟨sl,e1⟩:=I.base.slot b o e n hb hx;obtain⟨Ml,e2⟩:=slot b _ (Fb b o e) hb (pE b o e hx) e1 (I.base.free b o e n hx);exact⟨Ml,e2⟩
 ·obtain⟨o',e1⟩:=I.base.there b o e hx;exact free b o' (pE b o e hx) e1 (I.base.free b o e n hx)
 ·obtain⟨o',e1⟩:=I.base.there b o e hx;exact there b o' (pE b o e hx) e1
 ·obtain⟨m1,e1⟩:=I.base.jb b ps e;obtain⟨m2,e2⟩:=jb b _ e1;exact⟨m1++m2,by rw[e2,Array.append_assoc]⟩
 ·obtain⟨m,hn,hl⟩:=I.loc;refine⟨m,ns m hn,λi x v e1 e2 e3=>?_⟩;obtain⟨u,r,l⟩:=hl i x v e1 e2 e3;refine⟨u,r,?_⟩;rcases l with l|⟨k,c,e,z⟩
  ·exact .inl l
  ·exact .inr ⟨k,c,e,cellK x c e _ z⟩
 ·obtain⟨v,z⟩:=I.cell x c e;exact⟨v,cellK x c e v z⟩
 ·obtain⟨m,⟨o,_,_,ho,_⟩,_⟩:=I.loc;exact free _ o (λz=>(lF _ z).2.1 rfl) ho I.free
 ·obtain⟨v,o,ho,hd⟩:=I.cell x c e;exact free c o (λz=>(lF c z).2.2.1 x c e rfl) ho (I.fY x c e)
 ·obtain⟨e,n,ne,nf,d⟩:=I.pin p hp;have uK:p.1∉ch:=λz=>(lF p.1 z).2.2.2 p hp rfl;exact⟨keep p.1 p.2 ne nf uK e n,free p.1 p.2 uK e n,ne,nf,d⟩
theorem Inv.un{t':Nat}(I:Inv X pins U H s)(u:Un X.fs [] H H' s.heap h')(cu:gH X.prog X.w H' h'):Inv X pins U H' { s with heap:=h',toks:=t' }:=by
 obtain⟨m,⟨o,es,ep,ho,r⟩,_⟩:=id I.loc;obtain⟨sl,hL⟩:=u.any ho I.free (by simp);exact I.step (g':=s.gens) (d':=s.drawn) (ch:=[]) (λ_ z=>nomatch z) (λb o _ hb _ e n=>u.keep b o e n hb (by simp)) (λb o _ hb _ e n=>u.slot b o e n hb (by simp)) (λb o _ e n=>u.free b o e n (by simp)) (λb o _ e=>u.there b o e (by simp)) u.ja u.iJ u.jb (λm' hm=>by
  obtain⟨o',oV,Bi,nY,r'⟩:=hm;rw[ho] at nY;cases nY;exact ⟨_,oV,Bi,hL,r'⟩) cu I.bare
theorem Inv.call{g':Array GenState}{t':Nat}{d':Drawn}(I:Inv X pins U H s)(u:Un (iS X.stack) ch H H' s.heap h')(cu:gH X.prog X.w H' h')(hg:AllBare g')(lF:∀b∈ch,(b∈X.ex\/X.dJ.heap.objs.size<=b)/\b≠X.env.locals/\(∀x c,X.env.cells.lookup x=some c->c≠b)/\∀p∈X.pn++pins,p.1≠b) :
  Inv X pins U H' { s with heap:=h',gens:=g',drawn:=d',toks:=t' }:=by
 obtain⟨m,⟨o,es,ep,ho,r⟩,_⟩:=id I.loc;obtain⟨sl,hL⟩:=u.any ho I.free λz=>(lF _ z).2.1 rfl;exact I.step (ch:=ch) lF (λb o hL hb hc e n=>u.keep b o e n (λz=>(aI.mp (I.K1 b z)).elim hL hb) hc) (λb o _ _ hc e n=>u.any e n hc) (λb o hc e n=>u.free b o e n hc) (λb o hc e=>u.there b o e hc) u.ja u.iJ u.jb (λm' hm=>by
  obtain⟨o',oV,Bi,nY,r'⟩:=hm;rw[ho] at nY;cases nY;exact ⟨_,oV,Bi,hL,r'⟩) cu hg
theorem Inv.turned{t':Nat}{it:Addr}(I:Inv X pins U H s)(k:∀b o,b≠it->s.heap.get? b=some o->h'.get? b=some o)(hn:H it=none)(hL:it≠X.env.locals)(h1:it∈X.ex\/X.dJ.heap.objs.size<=it)(h2:∀x c,X.env.cells.lookup x=some c->c≠it)(h3:∀p∈X.pn++pins,p.1≠it):Inv X pins U H { s with heap:=h',toks:=t' }:=by
 have EZ:∀b u,H b=some u->b≠it:=λb u e z=>by simp_all
 refine I.step (g':=s.gens) (d':=s.drawn) (ch:=[it]) (λb hb=>?_) (λb o _ _ hc e _=>k b o (λz=>hc (by simp[z])) e) (λb o _ _ hc e _=>⟨o.slots,k b o (λz=>hc (by simp[z])) e⟩) (λ_ _ _ _ n=>n)
  (λb o hc e=>⟨o,k b o (λz=>hc (by simp[z])) e⟩) (λ_ _ e=>e) (λ_ _ _ e=>e) (λb ps e=>⟨#[],by rw[e];simp⟩) (λm hm=>?_) (λb u e=>?_) I.bare
 ·have e:b=it:=by simpa using hb
  subst e;exact⟨h1,hL,h2,h3⟩
 ·obtain⟨o,es,ep,ho,r⟩:=hm;exact⟨o,es,ep,k _ o (cz hL) ho,r⟩
 ·refine(I.cu b u e).X4 (λc v hc q=>k c v ?_ q) (λ_ q=>q) λ_ _ q=>q;rcases hc with z|z
  ·rw[z];exact EZ b u e
  ·exact EZ c _ z
theorem Inv.tok(I:Inv X pins U H s)(t:Nat):Inv X pins U H { s with toks:=t }:=I.un (h':=s.heap) (t':=t) Un.refl I.cu
theorem Inv.kept{t':Nat}(I:Inv X pins U H s)(k:∀b u,s.heap.get? b=some u->h'.get? b=some u):Inv X pins U H { s with heap:=h',toks:=t' }:=I.un (Un.kept k) (I.cu.kept k)
theorem Inv.laid{a:Addr}{o:HO}{t':Nat}(I:Inv X pins U H s)(k:∀b u,s.heap.get? b=some u->h'.get? b=some u)(hp:s.heap.objs.size<=a)(new:n6 X.prog X.w (upd H a o) h' a o) :
  Inv X pins U (upd H a o) { s with heap:=h',toks:=t' }:=I.un (Un.laid k hp (I.cu.fresh hp)) (I.cu.laid k hp new)
theorem Inv.write{x e:Addr}{o:HO}{t':Nat}(I:Inv X pins U H s)(mu:wK (H x))(he:e=x\/H e=some (.own x))(k:∀b u,b≠e->s.heap.get? b=some u->h'.get? b=some u)(qQ:∃u,h'.get? e=some u)(new:n6 X.prog X.w (upd H x o) h' x o):Inv X pins U (upd H x o) { s with heap:=h',toks:=t' }:=I.un (Un.write mu he k qQ) (I.cu.write mu he k qQ new)
theorem Inv.J5{lz:List (Addr×Obj)}(I:Inv X pins U H s)(h:∀p∈lz,s.heap.get? p.1=some p.2/\H p.1=none/\p.1≠X.env.locals/\p.1∉X.fs/\∀v,p.2.data≠.cell v):Inv X lz U H s :=
 ⟨I.ok,I.os,I.bare,I.base,I.loc,I.cell,I.free,I.fY,λp hp=>(aR.mp hp).elim (λz=>I.pin p (bx _ z)) (h p),I.cu,I.len,I.sg⟩
theorem KA(hN:N.Nodup){j:Nat}(a:N[i]?=some x)(b:N[j]?=some x):i=j:=by
 obtain⟨h1,e1⟩:=au.mp a;obtain⟨h2,e2⟩:=au.mp b;exact(lU hN).mp (e1.trans e2.symm)
theorem Io{Q:Unit->Shared->Prop}(I:Inv X pins U H s)(hN:X.Nd)(hi:X.N[i]?=some x)(hx:Loc X.env.scope x)(r:RelV v u)(h:∀s',Inv X pins (U.set i (some v)) H s'->(∃a,Heap.SameBut a s.heap s'.heap/\(a=X.env.locals\/X.env.cells.lookup x=some a))->Q Unit.unit s')(hf:X.fn x=true\/X.env.scope.names.lookup x=some .local:=by first|exact .inl rfl|exact .inr rfl|assumption):wpAny M A (storeName X.env x u) Q E s:=by
 obtain⟨m,hn,hl⟩:=id I.loc;have As:(X.env.scope.kind==.class||(X.env.scope.kind==.module&&X.env.locals != X.env.globals))=false:=by rw[I.ok.kind];rfl
 have vk:i<U.length:=by rw[I.len];exact(au.mp hi).1
 have rF:=I.rF;have tracked:∀{a:Addr} {h':Heap},(∃o,s.heap.get? a=some o/\H a=none)->Heap.SameBut a s.heap h'->gH X.prog X.w H h':=λ{a h'} ha hs b ob e=>by
  obtain⟨_,_,nC⟩:=ha;refine(I.cu b ob e).X4 (λc w' hc q=>(hs.2 c ?_).trans q) (λ_ q=>q) λ_ _ q=>q;rintro rfl;rcases hc with rfl|hc
  ·rw[nC] at e;cases e
  ·rw[nC] at hc;cases hc
 rcases hx with hk|hk
 ·refine wpAny_storeName_local hk hn (λh' Nw hs=>?_) As;obtain⟨oL,_,_,oC,_⟩:=id hn;refine h _ ⟨I.ok,I.os,I.bare,⟨λb o e n hb hx=>?_,λb o e n hb hx=>?_,I.base.free,λb o e hx=>?_,I.base.ja,I.base.iJ,I.base.jb⟩,⟨_,Nw,λj y v' e1 e2 e3=>?_⟩,λy c e=>?_,I.free,I.fY,λp hp=>?_,tracked ⟨oL,oC,I.free⟩ hs,by simpa using I.len,λ_ z=>by rw[hN.2] at z;cases z⟩ ⟨_,hs,.inl rfl⟩
  ·exact(hs.2 b (aK (ay (ax e) I.ok.above))).trans (I.base.keep b o e n hb hx)
  ·obtain⟨sl,e1⟩:=I.base.slot b o e n hb hx;exact⟨sl,(hs.2 b (aK (ay (ax e) I.ok.above))).trans e1⟩
  ·obtain⟨o',e1⟩:=I.base.there b o e hx;exact⟨o',(hs.2 b (aK (ay (ax e) I.ok.above))).trans e1⟩
  ·by_cases hj:j=i
   ·subst hj;rw[hi] at e1;cases e1;rw[bf vk] at e2;cases e2;exact⟨u,r,.inl ⟨hk,by simp⟩⟩
   ·rw[az (cz hj)] at e2;obtain⟨u',r',q⟩:=hl j y v' e1 e2 e3;refine⟨u',r',?_⟩;rcases q with⟨k,e⟩|⟨k,c,e,z⟩
    ·refine .inl ⟨k,?_⟩;have:y≠x:=λe=>hj (KA hN.1 e1 (e▸hi));simp[this,e]
    ·exact .inr ⟨k,c,e,z.sameBut hs (rF y c e)⟩
  ·obtain⟨w',z⟩:=I.cell y c e;exact⟨w',z.sameBut hs (rF y c e)⟩
  ·obtain⟨e,n,ne,nf,d⟩:=I.pin p hp;exact⟨(hs.2 p.1 ne).trans e,n,ne,nf,d⟩
 ·have Aq:X.fn x=true:=by
   simp_all
  obtain⟨c,hc⟩:=I.ok.has x (.inl hk);obtain⟨w',z⟩:=I.cell x c hc;refine wpAny_storeName_cell I.ok.kind hk hc z (λh' jq hs=>?_);obtain⟨oc,Aa,zZ⟩:=id z;refine h { s with heap:=h' } ⟨I.ok,I.os,I.bare,⟨λb o e n hb hx=>?_,λb o e n hb hx=>?_,I.base.free,λb o e hx=>?_,I.base.ja,I.base.iJ,I.base.jb⟩,⟨m,hn.sameBut hs (cz (rF x c hc)),λj y v' e1 e2 e3=>?_⟩,λy c' e=>?_,I.free,I.fY,λp hp=>?_,tracked ⟨oc,Aa,I.fY x c hc⟩ hs,by simpa using I.len,λ_ z=>by rw[hN.2] at z;cases z⟩ ⟨c,hs,.inr hc⟩
  ·exact(hs.2 b (aK (ay (ax e) (I.ok.vW x c Aq hc)))).trans (I.base.keep b o e n hb hx)
  ·obtain⟨sl,e1⟩:=I.base.slot b o e n hb hx;exact⟨sl,(hs.2 b (aK (ay (ax e) (I.ok.vW x c Aq hc)))).trans e1⟩
  ·obtain⟨o',e1⟩:=I.base.there b o e hx;exact⟨o',(hs.2 b (aK (ay (ax e) (I.ok.vW x c Aq hc)))).trans e1⟩
  ·by_cases hj:j=i
   ·subst hj;rw[hi] at e1;cases e1;rw[bf vk] at e2;cases e2;exact⟨u,r,.inr ⟨.inl hk,c,hc,jq⟩⟩
   ·rw[az (cz hj)] at e2;obtain⟨u',r',q⟩:=hl j y v' e1 e2 e3;refine⟨u',r',?_⟩;rcases q with q|⟨k,c',e,z'⟩
    ·exact .inl q
    ·refine .inr ⟨k,c',e,z'.sameBut hs ?_⟩;rintro rfl;exact hj (KA hN.1 e1 (I.ok.inj _ _ _ e hc▸hi))
  ·by_cases sO:c'=c
   ·subst sO;exact⟨_,jq⟩
   ·obtain⟨w2,z2⟩:=I.cell y c' e;exact⟨w2,z2.sameBut hs sO⟩
  ·obtain⟨e,n,ne,nf,d⟩:=I.pin p hp;refine⟨(hs.2 p.1 ?_).trans e,n,ne,nf,d⟩;intro q;rw[q,Aa] at e;have q':oc=p.2:=aN e;exact d w' (by rw[<- q'];exact zZ)
theorem Cu{Q:Unit->Shared->Prop}(I:Inv X pins U H s)(hN:X.Nd)(hi:X.N[i]?=some x)(hx:Loc X.env.scope x)(r:RelV v u)(h:∀s',Inv X pins (U.set i (some v)) H s'->Q Unit.unit s')(hf:X.fn x=true\/X.env.scope.names.lookup x=some .local:=by first|exact .inl rfl|exact .inr rfl|assumption):wpAny M A (storeName X.env x u) Q E s :=
 Io I hN hi hx r (λs' I' _=>h s' I') hf
theorem Inv.KN{s':Shared}(I:Inv X pins U H s)(ho:s'.os=s.os)(u:Un (iS X.stack) ch H H' s.heap s'.heap)(cu:gH X.prog X.w H' s'.heap)(hg:AllBare s'.gens)(lF:∀b∈ch,(b∈X.ex\/X.dJ.heap.objs.size<=b)/\b≠X.env.locals/\(∀x c,X.env.cells.lookup x=some c->c≠b)/\∀p∈X.pn++pins,p.1≠b):Inv X pins U H' s':=by
 obtain⟨h',g',d',t',o'⟩:=s';have e:o'=s.os:=ho;subst e;exact I.call (g':=g') (t':=t') (d':=d') u cu hg lF
end
noncomputable abbrev XK:=Value->Option Addr->Hp->Prop
noncomputable abbrev St:=List (Option V)
noncomputable abbrev VK:=V->Hp->Prop
noncomputable abbrev TE:=St->Hp->VK->Prop
noncomputable abbrev TT:=St->Hp->(Bool->Hp->Prop)->Prop
noncomputable abbrev TA:=St->Hp->(List V->Hp->Prop)->Prop
structure Ends where
 nx:St->Hp->Prop
 rt:VK
 bk:St->Hp->Prop:=λ_ _=>False
 ct:St->Hp->Prop:=λ_ _=>False
noncomputable abbrev TS:=Ends->St->Hp->Prop
def EP(X:Cx)(pins:List (Addr×Obj))(U:St)(Q:VK)(u:Value)(s':Shared):Prop:=∃v H',Inv X pins U H' s'/\RelV v u/\Q v H'
def TP(X:Cx)(pins:List (Addr×Obj))(U:St)(Q:Bool->Hp->Prop)(b:Bool)(s':Shared):Prop:=∃H',Inv X pins U H' s'/\Q b H'
def AP(X:Cx)(pins:List (Addr×Obj))(U:St)(Q:List V->Hp->Prop)(us:List Value)(s':Shared):Prop:=∃vs H',Inv X pins U H' s'/\Vals vs us/\Q vs H'
def SP(X:Cx)(pins:List (Addr×Obj))(D:Ends)(f:Flow)(s':Shared):Prop :=
 match f with
 |.next=>∃cc H',Inv X pins cc H' s'/\D.nx cc H'
 |.brk=>∃cc H',Inv X pins cc H' s'/\D.bk cc H'
 |.cont=>∃cc H',Inv X pins cc H' s'/\D.ct cc H'
 |.ret u=>∃v cc H',Inv X pins cc H' s'/\RelV v u/\D.rt v H'
def PE(X:Cx)(e:Expr)(t:TE):Prop :=
 ∀(pins:List (Addr×Obj)) (s:Shared) (U:St) (H:Hp) (Q:VK),Inv X pins U H s->t U H Q->wpAny (model X.prog X.w) X.A (eval e X.env) (EP X pins U Q) X.xe s
def PT(X:Cx)(e:Expr)(t:TT):Prop :=
 ∀(pins:List (Addr×Obj)) (s:Shared) (U:St) (H:Hp) (Q:Bool->Hp->Prop),Inv X pins U H s->t U H Q->wpAny (model X.prog X.w) X.A (isTrue e X.env (eval e X.env)) (TP X pins U Q) X.xe s
def PW(X:Cx)(e:Expr)(t:TT):Prop :=
 ∀(whole:Sem Value) (pins:List (Addr×Obj)) (s:Shared) (U:St) (H:Hp) (Q:Bool->Hp->Prop),Inv X pins U H s->t U H Q->wpAny (model X.prog X.w) X.A (isTrue e X.env whole) (TP X pins U Q) X.xe s
theorem PW.pt{t:TT}(h:PW X e t):PT X e t:=h _
def PA(X:Cx)(es:List Expr)(t:TA):Prop :=
 ∀(pos:Pos) (pins:List (Addr×Obj)) (s:Shared) (U:St) (H:Hp) (Q:List V->Hp->Prop),Inv X pins U H s->t U H Q->wpAny (model X.prog X.w) X.A (spliced (backTo pos (starEach es X.env))) (AP X pins U Q) X.xe s
def PS(X:Cx)(st:Stmt)(t:TS):Prop :=
 ∀(pins:List (Addr×Obj)) (s:Shared) (U:St) (H:Hp) (D:Ends),Inv X pins U H s->t D U H->wpAny (model X.prog X.w) X.A (exec st X.env) (SP X pins D) X.xe s
def jU(X:Cx)(st:List Stmt)(t:TS):Prop :=
 ∀(pins:List (Addr×Obj)) (s:Shared) (U:St) (H:Hp) (D:Ends),Inv X pins U H s->t D U H->wpAny (model X.prog X.w) X.A (execs st X.env) (SP X pins D) X.xe s
theorem cU{t:Sem α}{Q Q':α->Shared->Prop}(h:wpAny M A t Q E s)(hQ:∀a s,Q a s->Q' a s):wpAny M A t Q' E s:=bJ h hQ λ_ _ x=>x
section
theorem bin{a b:Expr}(ha:PE X a ta)(hb:PE X b tb){R:V->V->Hp->Prop}(I:Inv X pins U H s)(h:ta U H λx H1=>tb U H1 λy H2=>R x y H2){Q:α->Shared->Prop}{f:Value->Value->Sem α}(hf:∀v u s2 x y H2,Inv X pins U H2 s2->RelV x v->RelV y u->R x y H2->wpAny (model X.prog X.w) X.A (f v u) Q X.xe s2) :
  wpAny (model X.prog X.w) X.A (eval a X.env) (λv bU=>wpAny (model X.prog X.w) X.A (eval b X.env) (λu gY=>wpAny (model X.prog X.w) X.A (f v u) Q X.xe gY) X.xe bU) X.xe s:=by
 refine cU (ha pins s U H _ I h) λv s1 bB=>?_;obtain⟨x,H1,I1,r1,q1⟩:=bB;refine cU (hb pins s1 U H1 _ I1 q1) λu s2 bB=>?_;obtain⟨y,H2,I2,r2,q2⟩:=bB;exact hf v u s2 x y H2 I2 r1 r2 q2
def Wg(i:Nat):TE:=λU H Q=>∃v,U[i]?=some (some v)/\Q v H
def tC(v:V):TE:=λ_ H Q=>Q v H
theorem Rz(hN:X.N[i]?=some x)(hv:wG X.env.scope x)(hd:(x==("__debug__":Str))=false:=by decide)(mq:(x==("__classdict__":Str))=false:=by decide):PE X (.Name x pos) (Wg i):=by
 intro pins s U H Q I h;obtain⟨v,e,h⟩:=h;obtain⟨m,hn,hl⟩:=I.loc;obtain⟨u,r,l⟩:=hl i x v hN e hv;have fin:EP X pins U Q u s:=⟨v,H,I,r,h⟩
 rcases l with⟨hk,hm⟩|⟨hk,c,hc,lG⟩
 ·exact wpAny_Name (wpAny_loadName_local I.ok.kind hk hn hm fin) hd
 ·rcases hk with hk|hk
  ·exact wpAny_Name (wpAny_loadName_cell I.ok.kind hk hc lG fin) hd
  ·exact wpAny_Name (wpAny_loadName_free I.ok.kind hk hc lG fin mq) hd
theorem Rq{i j pos}:PE X (.Constant (.int i) j pos) (tC (.int i)):=λ_ _ _ H _ I h=>wpAny_Constant_int ⟨.int i,H,I.tok _,⟨_,rfl⟩,h⟩
theorem Xt{b j pos}:PE X (.Constant (.bool b) j pos) (tC (.bl b)):=λ_ _ _ H _ I h=>Constant_bool ⟨.bl b,H,I,rfl,h⟩
theorem Ru{j pos}:PE X (.Constant .none j pos) (tC .bR):=λ_ _ _ H _ I h=>Constant_none ⟨.bR,H,I,rfl,h⟩
theorem Rx{x j pos}:PE X (.Constant (.str x) j pos) (tC (.str x)):=λ_ _ _ H _ I h=>Calls.Constant_str ⟨.str x,H,I.tok _,⟨_,rfl⟩,h⟩
def Gl(X:Cx)(x:Str):Prop:=X.env.kindOf x=some .globalImplicit
theorem V8(I:Inv X pins U H s)(hg:Gl X x)(hm:X.mg x=some u)(h:Q u s)(hd:(x==("__debug__":Str))=false:=by decide):wpAny (model X.prog X.w) X.A (eval (.Name x pos) X.env) Q E s :=
 zh I.ok.kind hg (Calls.loadGlobal_global (by rw[I.ok.glob];exact I.mod.glob.keeps I.bk) hm h) hd
theorem K7(I:Inv X pins U H s)(hg:Gl X x)(hm:X.mg x=none)(hv:bootBuiltins x=some u)(h:Q u s)(hn:x≠"__name__":=by decide)(hd:(x==("__debug__":Str))=false:=by decide):wpAny (model X.prog X.w) X.A (eval (.Name x pos) X.env) Q E s:=by
 obtain⟨mb,h1,h2⟩:=I.mod.blt;exact zh I.ok.kind hg (Calls.loadGlobal_builtin (by rw[I.ok.glob];exact I.mod.glob.keeps I.bk) hm (by rw[I.ok.blt];exact h1.keeps I.bk) ((h2 x hn).trans hv) h) hd
theorem Kb(hg:Gl X x)(hm:X.mg x=some u)(r:RelV v u)(hd:(x==("__debug__":Str))=false:=by decide):PE X (.Name x pos) (tC v) :=
 λ_ _ _ H _ I h=>V8 I hg hm ⟨v,H,I,r,h⟩ hd
theorem TQ(hg:Gl X x)(hm:X.mg x=none)(hv:bootBuiltins x=some u)(r:RelV v u)(hn:x≠"__name__":=by decide)(hd:(x==("__debug__":Str))=false:=by decide):PE X (.Name x pos) (tC v) :=
 λ_ _ _ H _ I h=>K7 I hg hm hv ⟨v,H,I,r,h⟩ hn hd
variable{a b:Expr}
variable{tA xc:TT}{rest:List Expr}
def VV(t u:TT):TT:=λU H Q=>t U H λc H1=>if c=true then u U H1 Q else Q false H1
def Me(t u:TT):TT:=λU H Q=>t U H λc H1=>if c=true then Q true H1 else u U H1 Q
def Wb(t:TT):TT:=λU H Q=>t U H λc H1=>Q (!c) H1
theorem Uk(ha:PT X a tA):PW X (.BoolOp .And [a] pos) tA:=by
 intro wh pins s U H Q I h;refine isTrue_and (cU (ha pins s U H Q I h) λc s1 e=>?_);cases c with
 |true=>exact isTrue_and_nil e
 |false=>exact e
theorem RN(ha:PT X a tA):PW X (.BoolOp .Or [a] pos) tA:=by
 intro wh pins s U H Q I h;refine isTrue_or (cU (ha pins s U H Q I h) λc s1 e=>?_);cases c with
 |false=>exact isTrue_or_nil e
 |true=>exact e
theorem RL(ha:PT X a tA)(hb:PW X (.BoolOp .And (b::rest) pos) xc):PW X (.BoolOp .And (a::b::rest) pos) (VV tA xc):=by
 intro wh pins s U H Q I h;refine isTrue_and (cU (ha pins s U H _ I h) λc s1 ⟨H1,I1,q1⟩=>?_);cases c with
 |true=>exact hb wh pins s1 U H1 Q I1 q1
 |false=>exact⟨H1,I1,q1⟩
theorem Px(ha:PT X a tA)(hb:PW X (.BoolOp .Or (b::rest) pos) xc):PW X (.BoolOp .Or (a::b::rest) pos) (Me tA xc):=by
 intro wh pins s U H Q I h;refine isTrue_or (cU (ha pins s U H _ I h) λc s1 ⟨H1,I1,q1⟩=>?_);cases c with
 |true=>exact⟨H1,I1,q1⟩
 |false=>exact hb wh pins s1 U H1 Q I1 q1
theorem RK(ha:PT X a tA):PT X (.UnaryOp .Not a pos) (Wb tA):=by
 intro pins s U H Q I h;exact isTrue_not (ha pins s U H (λc H1=>Q (!c) H1) I h)
def PQ(ta tb:TE):TE:=λU H Q=>ta U H λx H1=>∃c,x=.bl c/\if c=true then tb U H1 Q else Q (.bl false) H1
def Wc(ta tb:TE):TE:=λU H Q=>ta U H λx H1=>∃c,x=.bl c/\if c=true then Q (.bl true) H1 else tb U H1 Q
def PX(ta:TE):TE:=λU H Q=>ta U H λx H1=>∃c,x=.bl c/\Q (.bl (!c)) H1
theorem Rw{op}{t:TE}(h:PE X a t):PE X (.BoolOp op [a] pos) t:=λpins s U H Q I hw=>BoolOp_one (h pins s U H Q I hw)
theorem Rn(ha:PE X a ta)(hb:PE X (.BoolOp .And (b::rest) pos) tb):PE X (.BoolOp .And (a::b::rest) pos) (PQ ta tb):=by
 intro pins s U H Q I h;refine BoolOp_and (cU (ha pins s U H _ I h) λv s1 bB=>?_);obtain⟨x,H1,I1,r1,q1⟩:=bB;obtain⟨c,rfl,q1⟩:=q1;cases r1;refine cK ?_;cases c with
 |true=>exact hb pins s1 U H1 Q I1 q1
 |false=>exact⟨.bl false,H1,I1,rfl,q1⟩
theorem Pq(ha:PE X a ta)(hb:PE X (.BoolOp .Or (b::rest) pos) tb):PE X (.BoolOp .Or (a::b::rest) pos) (Wc ta tb):=by
 intro pins s U H Q I h;refine BoolOp_or (cU (ha pins s U H _ I h) λv s1 bB=>?_);obtain⟨x,H1,I1,r1,q1⟩:=bB;obtain⟨c,rfl,q1⟩:=q1;cases r1;refine cK ?_;cases c with
 |false=>exact hb pins s1 U H1 Q I1 q1
 |true=>exact⟨.bl true,H1,I1,rfl,q1⟩
theorem Rv(ha:PE X a ta):PE X (.UnaryOp .Not a pos) (PX ta):=by
 intro pins s U H Q I h;refine UnaryOp_ (cU (ha pins s U H _ I h) λv s1 bB=>?_);obtain⟨x,H1,I1,r1,q1⟩:=bB;obtain⟨c,rfl,q1⟩:=q1;cases r1;exact not_of (cK ⟨.bl (!c),H1,I1,rfl,q1⟩)
def Mf(t:TT)(ta tb:TE):TE:=λU H Q=>t U H λc H1=>if c=true then ta U H1 Q else tb U H1 Q
theorem a29(hc:PT X c tA)(ha:PE X a ta)(hb:PE X b tb):PE X (.IfExp c a b pos) (Mf tA ta tb):=by
 intro pins s U H Q I h;refine wpAny_IfExp (cU (hc pins s U H _ I h) λd s1 ⟨H1,I1,q1⟩=>?_);cases d with
 |true=>exact ha pins s1 U H1 Q I1 q1
 |false=>exact hb pins s1 U H1 Q I1 q1
end
def fS(K:PySem.W.Frag)(H:Hp)(a:Addr)(xs:List V):Prop :=
 Rd H a (.lst xs) \/
  ∃(o:Obj) (bt:Array Value) (n:Nat),K.lookup a=some o/\o.cls=.type "list"/\o.dict=none/\o.data=.seq bt n/\bt.size<=sizeLine/\Vals xs bt.toList
def jT(K:PySem.W.Frag)(H:Hp)(a:Addr)(xs:List V):Prop :=
 Rd H a (.tup xs) \/
  ∃(o:Obj) (bt:Array Value) (n:Nat),K.lookup a=some o/\o.cls=.type "tuple"/\o.data=.seq bt n/\bt.size<=sizeLine/\Vals xs bt.toList
def U':Value->Option V
 |.none=>some .bR
 |.bool b=>some (.bl b)
 |.int i _=>some (.int i)
 |.str x _=>some (.str x)
 |.bytes b _=>some (.lO b)
 |.float b _=>some (.rC b)
 |.ref a=>some (.ref a)
 |.type n=>some (.ty n)
 |_=>none
theorem RelV.abs{x:V}(r:RelV x u):U' u=some x:=by
 cases x with
 |bR=>cases r;rfl
 |bl _=>cases r;rfl
 |int _=>obtain⟨t,rfl⟩:=r;rfl
 |str _=>obtain⟨t,rfl⟩:=r;rfl
 |lO _=>obtain⟨t,rfl⟩:=r;rfl
 |rC _=>obtain⟨t,rfl⟩:=r;rfl
 |ref _=>cases r;rfl
 |ty _=>cases r;rfl
theorem RelV.inj{x y:V}{u:Value}(r:RelV x u)(q:RelV y u):x=y:=aN (r.abs.symm.trans q.abs)
theorem Vals.inj{xs ys:List V}{us:List Value}(h:Vals xs us)(h':Vals ys us):xs=ys:=by
 induction h generalizing ys with
 |nil=>cases h';rfl
 |cons r t ih =>
  cases h' with
  |cons r' t'=>rw[r.inj r',ih t']
section
variable{ys:List V}
theorem fS.of(h:H a=some (.lst xs)):fS K H a xs:=.inl (.inl h)
theorem Inv.list(I:Inv X pins U H s)(h:fS X.K H a xs):∃bt:List Value,Vals xs bt/\PlainL s.heap a bt.toArray/\xs.length<=sizeLine:=by
 rcases h with h|⟨o,bt,n,hk,hc,hd,hs,hz,r⟩
 ·obtain⟨z,bt,n,r,e⟩:=h.ok I.cu;exact⟨bt,r,⟨_,n,e,rfl,rfl,rfl⟩,z⟩
 ·refine⟨bt.toList,r,⟨o,n,I.hX a o hk,hc,hd,by simpa using hs⟩,?_⟩;have e:=r.length
  grind
theorem Inv.tuple(I:Inv X pins U H s)(h:jT X.K H a xs):∃bt:List Value,Vals xs bt/\IsTup s.heap a bt.toArray/\xs.length<=sizeLine:=by
 rcases h with h|⟨o,bt,n,hk,hc,hs,hz,r⟩
 ·obtain⟨z,bt,r,p⟩:=h.ok I.cu;exact⟨bt,r,p.tup,z⟩
 ·refine⟨bt.toList,r,⟨o,I.hX a o hk,hc,n,by simpa using hs⟩,?_⟩;have e:=r.length;simp only[Array.length_toList] at e;omega
theorem Inv.Ck(I:Inv X pins U H s)(h:fS X.K H a xs)(h':fS X.K H a ys):xs=ys:=by
 obtain⟨bt,r,⟨o,n,e,_,_,d⟩,_⟩:=I.list h;obtain⟨its',r',⟨o',n',e',_,_,d'⟩,_⟩:=I.list h';rw[e] at e';cases e';rw[d] at d';injection d' with d1 _;have:bt=its':=by simpa using ie Array.toList d1
 subst this;exact r.inj r'
theorem Inv.Zv(I:Inv X pins U H s)(h:jT X.K H a xs)(h':jT X.K H a ys):xs=ys:=by
 obtain⟨bt,r,⟨o,e,_,n,d⟩,_⟩:=I.tuple h;obtain⟨its',r',⟨o',e',_,n',d'⟩,_⟩:=I.tuple h';rw[e] at e';cases e';rw[d] at d';injection d' with d1 _;have:bt=its':=by simpa using ie Array.toList d1
 subst this;exact r.inj r'
end
noncomputable abbrev Cx.X0(X:Cx)(E:Value->Shared->Prop):Cx:={ X with xe:=E }
theorem Cx.Ok.X0{X:Cx}(ok:X.Ok)(E:Value->Shared->Prop):(X.X0 E).Ok :=
 ⟨ok.mod,ok.kind,ok.glob,ok.blt,ok.above,ok.inj,ok.has,ok.vW,ok.hd,ok.frames,ok.xg,ok.GF,ok.bs,ok.pV,ok.nh,ok.oR,ok.O2,ok.rB⟩
theorem Cx.Ok.BC(ok:(X.X0 E).Ok):X.Ok :=
 ⟨ok.mod,ok.kind,ok.glob,ok.blt,ok.above,ok.inj,ok.has,ok.vW,ok.hd,ok.frames,ok.xg,ok.GF,ok.bs,ok.pV,ok.nh,ok.oR,ok.O2,ok.rB⟩
theorem Inv.X0(I:Inv X pins U H s)(E:Value->Shared->Prop):Inv (X.X0 E) pins U H s:=⟨I.ok.X0 E,I.os,I.bare,I.base,I.loc,I.cell,I.free,I.fY,I.pin,I.cu,I.len,I.sg⟩
theorem Inv.BC(I:Inv (X.X0 E) pins U H s):Inv X pins U H s:=⟨I.ok.BC,I.os,I.bare,I.base,I.loc,I.cell,I.free,I.fY,I.pin,I.cu,I.len,I.sg⟩
section
variable{st:Stmt}{rest:List Stmt}{t u:TS}
def Lo:TS:=λD U H=>D.nx U H
def We(t u:TS):TS:=λD U H=>t { D with nx:=u D } U H
theorem Ue:jU X [] Lo:=λ_ _ U H _ I h=>tW ⟨U,H,I,h⟩
theorem a22(h1:PS X st t)(h2:jU X rest u):jU X (st::rest) (We t u):=by
 intro pins s U H D I h;refine wpAny_execs_cons (cU (h1 pins s U H { D with nx:=u D } I h) λf s1 q=>?_);cases f with
 |next =>
  obtain⟨cc,H',I',q⟩:=q;exact h2 pins s1 cc H' D I' q
 |ret v=>exact q
 |brk=>exact q
 |cont=>exact q
theorem Uc:PS X (.Pass pos) Lo:=λ_ _ U H _ I h=>wpAny_Pass ⟨U,H,I,h⟩
theorem Inv.quiet(I:Inv X pins U H s):interactive X.env=false:=by simp[interactive,I.ok.kind]
def PV(te:TE):TS:=λD U H=>te U H λ_ H1=>D.nx U H1
theorem Ub(he:PE X e te)(hs:swapsWith e none pos.line X.env=pure false:=by rfl):PS X (.Expr e pos) (PV te):=by
 intro pins s U H D I h;exact wpAny_Expr_any (cU (he pins s U H _ I h) λv s1 ⟨x,H1,I1,r1,q1⟩=>⟨U,H1,I1,q1⟩) I.quiet hs
def Wd(te:TE):TS:=λD U H=>te U H D.rt
theorem RJ(he:PE X e te):PS X (.Return (some e) pos) (Wd te):=by
 intro pins s U H D I h;exact wpAny_Return_some (cU (he pins s U H _ I h) λv s1 ⟨x,H1,I1,r1,q1⟩=>⟨x,U,H1,I1,r1,q1⟩)
def PZ:TS:=λD _ H=>D.rt .bR H
theorem Ud:PS X (.Return none pos) PZ:=λ_ _ U H _ I h=>wpAny_Return_none ⟨.bR,U,H,I,rfl,h⟩
def V'(c:TT)(t u:TS):TS:=λD U H=>c U H λb H1=>if b=true then t D U H1 else u D U H1
theorem Pw{a b:List Stmt}{tc:TT}(hc:PT X c tc)(ha:jU X a t)(hb:jU X b u):PS X (.If c a b pos) (V' tc t u):=by
 intro pins s U H D I h;refine wpAny_If (cU (hc pins s U H _ I h) λd s1 ⟨H1,I1,q1⟩=>?_);cases d with
 |true=>exact ha pins s1 U H1 D I1 q1
 |false=>exact hb pins s1 U H1 D I1 q1
end
noncomputable abbrev TG:=V->St->Hp->(St->Hp->Prop)->Prop
noncomputable abbrev qb:=List V->St->Hp->(St->Hp->Prop)->Prop
def PG(X:Cx)(target:Expr)(t:TG):Prop :=
 ∀(pins:List (Addr×Obj)) (s:Shared) (U:St) (H:Hp) (v:V) (u:Value) (Q:St->Hp->Prop),Inv X pins U H s->RelV v u->t v U H Q ->
  wpAny (model X.prog X.w) X.A (assign target X.env u) (λ_ s'=>∃cc H',Inv X pins cc H' s'/\Q cc H') X.xe s
def wI(X:Cx)(ts:List Expr)(t:qb):Prop :=
 ∀(pins:List (Addr×Obj)) (s:Shared) (U:St) (H:Hp) (vs:List V) (us:List Value) (Q:St->Hp->Prop),Inv X pins U H s->Vals vs us->t vs U H Q ->
  wpAny (model X.prog X.w) X.A (assignInOrder ((assignEach ts X.env).map (·.2)) us) (λ_ s'=>∃cc H',Inv X pins cc H' s'/\Q cc H') X.xe s
noncomputable abbrev DU:=V->V->V->Hp->(Hp->Prop)->Prop
def DT(X:Cx)(t:DU):Prop :=
 ∀(pins:List (Addr×Obj)) (s:Shared) (U:St) (H:Hp) (o i v:V) (ov iv u:Value) (Q:Hp->Prop),Inv X pins U H s->RelV o ov->RelV i iv->RelV v u->t o i v H Q ->
  wpAny (model X.prog X.w) X.A (setItem ov iv u) (λ_ s'=>∃H',Inv X pins U H' s'/\Q H') X.xe s
noncomputable abbrev Ef:=V->V->Hp->VK->Prop
def Lv(X:Cx)(op:Operator)(t:Ef):Prop :=
 ∀(pins:List (Addr×Obj)) (s:Shared) (U:St) (H:Hp) (x y:V) (v u:Value) (Q:VK),Inv X pins U H s->RelV x v->RelV y u->t x y H Q ->
  wpAny (model X.prog X.w) X.A (inplaceOp op v u) (EP X pins U Q) X.xe s
def tO(i:Nat):TG:=λv U H Q=>Q (U.set i (some v)) H
theorem Kc(hN:X.Nd)(hi:X.N[i]?=some x)(hx:Loc X.env.scope x)(hf:X.fn x=true\/X.env.scope.names.lookup x=some .local:=by first|exact .inl rfl|exact .inr rfl|assumption):PG X (.Name x pos) (tO i):=by
 intro pins s U H v u Q I r h;exact wpAny_assign_Name (Cu I hN hi hx r (λs' I'=>⟨_,H,I',h⟩) hf)
def Hd:qb:=λvs U H Q=>vs=[]/\Q U H
def KR(t:TG)(u:qb):qb:=λvs U H Q=>∃v r,vs=v::r/\t v U H λcc H'=>u r cc H' Q
theorem TY:wI X [] Hd:=by
 intro pins s U H vs us Q I r h;obtain⟨e,h⟩:=h;exact assignInOrder_nil ⟨U,H,I,h⟩
theorem a26{t:TG}{u:qb}(h1:PG X e t)(h2:wI X es u)(hs:(assignEach (e::es) X.env).map (·.2)=assign e X.env::(assignEach es X.env).map (·.2):=by rfl):wI X (e::es) (KR t u):=by
 intro pins s U H vs us Q I r h;obtain⟨v,vr,e1,h⟩:=h;subst e1;cases r with
 |cons r rr =>
  rw[hs];refine assignInOrder_cons (cU (h1 pins s U H _ _ _ I r h) λ_ s1 bB=>?_);obtain⟨iM,H1,I1,q1⟩:=bB;exact h2 pins s1 iM H1 _ _ Q I1 rr q1
def Vo(K:PySem.W.Frag)(n:Nat)(t:qb):TG:=λv U H Q=>∃a xs,v=.ref a/\jT K H a xs/\xs.length=n/\t xs U H Q
theorem RB{t:qb}{n:Nat}(hc:X.calm=true)(h:wI X es t)(hn:(assignEach es X.env).length=n:=by rfl)(fR:(assignEach es X.env).findIdx? (·.1)=none:=by rfl):PG X (.Tuple es k pos) (Vo X.K n t):=by
 intro pins s U H v u Q I r hw;obtain⟨a,xs,e1,hq,hl,hw⟩:=hw;subst e1;cases r;obtain⟨bt,rv,ht,hz⟩:=I.tuple hq;refine assign_Tuple_tuple (I.ok.hd hc) ht (by simp[hn,<- hl,rv.length]) fR λh' hx=>?_;have I1:Inv X pins U H { s with heap:=h' }:=I.kept (t':=s.toks) λb o e=>hx b o (aK (ax e)) e;exact h pins _ U H xs _ Q I1 (by simpa using rv) hw
def Vn(to ti:TE)(t:DU):TG:=λv U H Q=>to U H λo H1=>ti U H1 λi H2=>t o i v H2 λH3=>Q U H3
theorem RA{o i:Expr}{to ti:TE}{t:DU}(ho:PE X o to)(hi:PE X i ti)(hs:DT X t)(ha:∀ v,assign (.Subscript o i pos) X.env v=(do
   let ov <- holding [v] (eval o X.env)
   let iv <- holding [v,ov] (eval i X.env)
   standAt pos
   holding [v,ov,iv] (setItem ov iv v)
   release [v,ov,iv] []):=by intro _;rfl):PG X (.Subscript o i pos) (Vn to ti t):=by
 intro pins s U H v u Q I r h;rw[ha];refine ab (bS (cU (ho pins s U H _ I h) λov s1 bB=>?_));obtain⟨x,H1,I1,r1,q1⟩:=bB;refine ab (bS (cU (hi pins s1 U H1 _ I1 q1) λiv s2 bB=>?_));obtain⟨y,H2,I2,r2,q2⟩:=bB;refine ab (fo (ab (bS (cU (hs pins s2 U H2 x y v ov iv u _ I2 r1 r2 r q2) λ_ s3 ⟨H3,I3,q3⟩=>?_))));exact wpAny_release ⟨U,H3,I3,q3⟩
def vX(te:TE)(g:TG):TS:=λD U H=>te U H λx H1=>g x U H1 D.nx
theorem JD{g:TG}(he:PE X e te)(hg:PG X tg g)(hs:swapsWithSole [tg] e pos.line X.env=pure false:=by rfl)(hw:swappedStores [tg] e X.env=pure none:=by rfl)(h1:(assignEach [tg] X.env).map (·.2)=[assign tg X.env]:=by rfl):PS X (.Assign [tg] e pos) (vX te g):=by
 intro pins s U H D I h;refine wpAny_Assign_stores (cU (he pins s U H _ I h) λv s1 bB=>?_) hs hw;obtain⟨x,H1,I1,r1,q1⟩:=bB;rw[h1];exact cU (hg pins s1 U H1 x v _ I1 r1 q1) λ_ s2 q=>q
theorem JE(hN:X.Nd)(hi:X.N[i]?=some x)(hx:Loc X.env.scope x)(he:PE X e te)(hs:swapsWith e (some (.Name x pos')) pos.line X.env=pure false:=by rfl)(hf:X.fn x=true\/X.env.scope.names.lookup x=some .local:=by first|exact .inl rfl|exact .inr rfl|assumption) :
  PS X (.Assign [.Name x pos'] e pos) (vX te (tO i)):=by
 intro pins s U H D I h;refine wpAny_Assign_Name (cU (he pins s U H _ I h) λv s1 bB=>?_) hs;obtain⟨y,H1,I1,r1,q1⟩:=bB;exact Cu I1 hN hi hx r1 (λs2 I2=>⟨_,H1,I2,q1⟩) hf
def VW(i:Nat)(te:TE)(ti:Ef):TS:=λD U H=>∃x,U[i]?=some (some x)/\te U H λy H1=>ti x y H1 λz H2=>D.nx (U.set i (some z)) H2
theorem RG{op:Operator}{ti:Ef}(hN:X.Nd)(hi:X.N[i]?=some x)(hx:Loc X.env.scope x)(he:PE X e te)(ho:Lv X op ti)(hf:X.fn x=true\/X.env.scope.names.lookup x=some .local:=by first|exact .inl rfl|exact .inr rfl|assumption) :
  PS X (.AugAssign (.Name x pos') op e pos) (VW i te ti):=by
 intro pins s U H D I h;obtain⟨v,e1,h⟩:=h;obtain⟨m,hn,hl⟩:=I.loc;have uj:wG X.env.scope x:=by rcases hx with k|k;exact .inl k;exact .inr (.inl k)
 obtain⟨u,r,l⟩:=hl i x v hi e1 uj;refine wpAny_AugAssign_Name ?_;have go:wpAny (model X.prog X.w) X.A (eval e X.env) (λw gY=>wpAny (model X.prog X.w) X.A (inplaceOp op u w) (λr fI=>wpAny (model X.prog X.w) X.A (storeName X.env x r) (λ_=>SP X pins D .next) X.xe fI) X.xe gY) X.xe s:=by
  refine cU (he pins s U H _ I h) λw s1 bB=>?_;obtain⟨y,H1,I1,r1,q1⟩:=bB;refine cU (ho pins s1 U H1 v y u w _ I1 r r1 q1) λz s2 bB=>?_;obtain⟨zv,H2,I2,r2,q2⟩:=bB;exact Cu I2 hN hi hx r2 (λs3 I3=>⟨_,H2,I3,q2⟩) hf
 rcases l with⟨hk,hm⟩|⟨hk,c,hc,lG⟩
 ·exact wpAny_loadName_local I.ok.kind hk hn hm go
 ·rcases hk with hk|hk
  ·exact wpAny_loadName_cell I.ok.kind hk hc lG go
  ·rcases hx with k|k
   ·have:X.env.scope.names.lookup x=some .free:=hk;rw[k] at this;cases this
   ·have:X.env.scope.names.lookup x=some .free:=hk;rw[k] at this;cases this
def SE(c:TT)(tb:TS):TS:=λD U H=>∃W:Nat->St->Hp->Prop,(∃m,W m U H)/\∀m U H,W m U H ->
 c U H λb H1=>if b=true then ∃N:St->Hp->Prop,(∀cc H',N cc H'->∃m',m'<m/\W m' cc H')/\tb { D with nx:=N,ct:=N,bk:=D.nx } U H1 else D.nx U H1
theorem a23{tc:TT}{tb:TS}(hp:PassesOwn (model X.prog X.w) X.A X.env X.xe)(hc:PT X c tc)(hb:jU X body tb):PS X (.While c body [] pos) (SE tc tb):=by
 intro pins s U H D I h;obtain⟨W,⟨m0,w0⟩,turn⟩:=h;refine wpAny_While (codeAny_whileLoop (λn s'=>∃cc H',Inv X pins cc H' s'/\W n cc H') ?_ m0 ⟨U,H,I,w0⟩);rintro n s1 ⟨iM,H1,I1,w1⟩;refine eE hp (cU (hc pins s1 iM H1 _ I1 (turn n iM H1 w1)) λb s2 ⟨H2,I2,q2⟩=>?_);cases b with
 |true =>
  obtain⟨N,hN,q2⟩:=q2;refine eE hp (cU (hb pins s2 iM H2 _ I2 q2) λf s3 q3=>?_);cases f with
  |next =>
   obtain⟨iB,H3,I3,n3⟩:=q3;obtain⟨m',hm,w3⟩:=hN iB H3 n3;exact⟨m',hm,iB,H3,I3,w3⟩
  |cont =>
   obtain⟨iB,H3,I3,n3⟩:=q3;obtain⟨m',hm,w3⟩:=hN iB H3 n3;exact⟨m',hm,iB,H3,I3,w3⟩
  |brk=>exact q3
  |ret v=>exact q3
 |false =>
  exact tW ⟨iM,H2,I2,q2⟩
structure It where
 go:Nat->Hp->Prop
 qi:Nat->Hp->V->Hp->Prop
 stop:Nat->Hp->Prop
def C2(X:Cx)(pins:List (Addr×Obj))(H:Hp)(b:Addr):Prop :=
 H b=none/\b≠X.env.locals/\b∉X.fs/\(b∈X.ex\/X.dJ.heap.objs.size<=b)/\(∀x c,X.env.cells.lookup x=some c->c≠b)/\∀p∈X.pn++pins,p.1≠b
theorem Inv.pX(I:Inv X pins U H s)(hb:s.heap.objs.size<=b)(hn:H' b=none):C2 X pins H' b:=by
 refine⟨hn,bO (ay I.lt hb),I.wF hb,.inr (aC I.sz hb),λx c e z=>?_,λp hp z=>?_⟩
 ·obtain⟨v,q⟩:=I.cell x c e;exact absurd (ay q.lt (by simp_all)) (bK _)
 ·exact absurd (ay (ax (I.pin p hp).1) (by simp_all)) (bK _)
structure Turn(P:Program)(w:World)(K:PySem.W.Frag)(tg:Expr)(J:It)(fp:List Addr)(it:Addr)(tn:Nat->Heap->Prop):Prop where
 mem:it∈fp
 obj:∀i h,tn i h->∀b∈fp,∃o,h.get? b=some o/\∀v,o.data≠.cell v
 keep:∀i h h',tn i h->(∀b∈fp,∀o,h.get? b=some o->h'.get? b=some o)->tn i h'
 item:∀(X:Cx),X.prog=P->X.w=w->X.K=K->X.calm=true->∀(i:Nat) (pins:List (Addr×Obj)) (s:Shared) (U:St) (H:Hp) (E:Value->Shared->Prop),Inv X pins U H s->(∀b∈fp,C2 X pins H b)->tn i s.heap->J.go i H ->
  wpAny (model P w) X.A (pyNext (.ref it)) (λr s1=>∃ u,r=some u /\
   wpAny (model P w) X.A (letOwnedTupleGo tg (.ref it) u) (λ_ s2=>∃ x H',Inv X pins U H' s2/\RelV x u/\J.qi i H x H'/\tn (i + 1) s2.heap/\∀ b ∈ fp,H' b=none) E s1) E s
 done:∀(X:Cx),X.prog=P->X.w=w->X.K=K->X.calm=true->∀(i:Nat) (pins:List (Addr×Obj)) (s:Shared) (U:St) (H:Hp) (E:Value->Shared->Prop),Inv X pins U H s->(∀b∈fp,C2 X pins H b)->tn i s.heap->J.stop i H ->
  wpAny (model P w) X.A (pyNext (.ref it)) (λr s1=>r=none/\Inv X pins U H s1) E s
 self:∀(A:Around) (i:Nat) (s:Shared) (Q:Value->Shared->Prop) (E:Value->Shared->Prop),tn i s.heap->Q (.ref it) s->wpAny (model P w) A (pyIter (.ref it)) Q E s
noncomputable abbrev TI:=St->Hp->(It->Hp->Prop)->Prop
def Lw(X:Cx)(pins:List (Addr×Obj))(U:St)(tg:Expr)(R:It->Hp->Prop)(va:Value)(s2:Shared):Prop :=
 ∃(it:Addr) (fp:List Addr) (tn:Nat->Heap->Prop) (J:It) (H':Hp),va=.ref it/\Inv X pins U H' s2/\Turn X.prog X.w X.K tg J fp it tn/\tn 0 s2.heap/\(∀b∈fp,C2 X pins H' b)/\R J H'
def PI(X:Cx)(tg iter:Expr)(wi:TI):Prop :=
 ∀(pins:List (Addr×Obj)) (s:Shared) (U:St) (H:Hp) (R:It->Hp->Prop),Inv X pins U H s->wi U H R ->
  wpAny (model X.prog X.w) X.A (eval iter X.env) (λv s1=>wpAny (model X.prog X.w) X.A (pyIter v) (Lw X pins U tg R) X.xe s1) X.xe s
theorem yg{it:Addr}{o:Obj}{n:String}{vs:Array Value}{Q:Unit->Shared->Prop}(ho:s.heap.get? it=some o)(hc:o.cls=.type n)(hd:o.data=.fields vs)(hn:["enumerate","zip","dict_itemiterator","dict_reverseitemiterator","odict_iterator","itertools.zip_longest","itertools.pairwise"].contains n=false)(hQ:Q Unit.unit s):wpAny M A (letOwnedTupleGo tg (.ref it) u) Q E s:=by
  cases tg<;>first
    |exact ao hQ
    | (cases u <;> first
        |exact ao hQ
        | (refine ab (wpAny_load ho ?_)
           rw[hc,hd];show wpAny M A (if(["enumerate","zip","dict_itemiterator","dict_reverseitemiterator","odict_iterator","itertools.zip_longest","itertools.pairwise"].contains n&&vs[0]?==some (rawInt _))=true then _ else _) Q E s;rw[aD (by intro h;rw[hn,Bool.false_and] at h;cases h)];exact ao hQ))
def Ej(K:PySem.W.Frag)(a:Addr):It :=
 ⟨λi H=>∃xs x,fS K H a xs/\xs[i]?=some x,λi H x H'=>H'=H/\∀xs,fS K H a xs->xs[i]?=some x,λi H=>∃xs,fS K H a xs/\xs.length<=i⟩
def Ei(K:PySem.W.Frag)(a:Addr):It :=
 ⟨λi H=>∃xs x,jT K H a xs/\xs[i]?=some x,λi H x H'=>H'=H/\∀xs,jT K H a xs->xs[i]?=some x,λi H=>∃xs,jT K H a xs/\xs.length<=i⟩
def wM(lo:Int)(n:Nat):It:=⟨λi _=>i<n,λi H x H'=>H'=H/\x=.int (lo+i),λi _=>n<=i⟩
theorem Zx(a it:Addr):Turn P w K tg (Ej K a) [it] it (λi h=>h.IsListIter it a i) where
 mem:=by simp
 obj:=λi h st b hb=>by
  have e:b=it:=by simpa using hb
  subst e;obtain⟨o,e,c,d⟩:=st;exact⟨o,e,λv z=>by simp_all⟩
 keep:=λi h h' st k=>st.at λo e=>k it (by simp) o e
 item:=by
  intro X hP hw hK hc i pins s U H E I hf st hg;subst hP hw hK;obtain⟨xs,x,hq,hx⟩:=hg;obtain⟨bt,rv,p,hz⟩:=I.list hq;obtain⟨u,hu,ru⟩:=rv.get hx;obtain⟨f0,f1,f2,f3,f4,f5⟩:=hf it (by simp);refine wpAny_pyNext_list_item st p.isList (x:=u) (by simpa using hu) λh' ba sb=>?_;have I1:Inv X pins U H { s with heap:=h' }:=I.turned (t':=s.toks) (λb o hb e=>(sb.2 b hb).trans e) f0 f1 f3 f4 f5;obtain⟨o,e,c,d⟩:=id ba;exact⟨u,rfl,yg (s:={ s with heap:=h' }) e c d ∅ ⟨x,H,I1,ru,⟨rfl,λys hy=>by rw[I.Ck hy hq];exact hx⟩,ba,λb hb=>(hf b hb).1⟩⟩
 done:=by
  intro X hP hw hK hc i pins s U H E I hf st hg;subst hP hw hK;obtain⟨xs,hq,hx⟩:=hg;obtain⟨bt,rv,p,hz⟩:=I.list hq;obtain⟨f0,f1,f2,f3,f4,f5⟩:=hf it (by simp);have hl:=rv.length;exact wpAny_pyNext_list_end (I.ok.hd hc) st p.isList (by simp;omega) λh' eb=>⟨rfl,I.turned (t':=s.toks) (λb o hb e=>eb b o hb e) f0 f1 f3 f4 f5⟩
 self:=λ_ _ _ _ _ st h=>wpAny_pyIter_listiter st h
theorem aK1(a it:Addr):Turn P w K tg (Ei K a) [it] it (λi h=>h.IsTupleIter it a i) where
 mem:=by simp
 obj:=λi h st b hb=>by
  have e:b=it:=by simpa using hb
  subst e;obtain⟨o,e,c,d⟩:=st;exact⟨o,e,λv z=>by simp_all⟩
 keep:=λi h h' st k=>st.at λo e=>k it (by simp) o e
 item:=by
  intro X hP hw hK hc i pins s U H E I hf st hg;subst hP hw hK;obtain⟨xs,x,hq,hx⟩:=hg;obtain⟨bt,rv,p,hz⟩:=I.tuple hq;obtain⟨u,hu,ru⟩:=rv.get hx;obtain⟨f0,f1,f2,f3,f4,f5⟩:=hf it (by simp);refine wpAny_pyNext_tuple_item st (show s.heap.IsTuple a bt.toArray from p) (x:=u) (by simpa using hu) λh' ba sb=>?_;have I1:Inv X pins U H { s with heap:=h' }:=I.turned (t':=s.toks) (λb o hb e=>(sb.2 b hb).trans e) f0 f1 f3 f4 f5;obtain⟨o,e,c,d⟩:=id ba;exact⟨u,rfl,yg (s:={ s with heap:=h' }) e c d ∅ ⟨x,H,I1,ru,⟨rfl,λys hy=>by rw[I.Zv hy hq];exact hx⟩,ba,λb hb=>(hf b hb).1⟩⟩
 done:=by
  intro X hP hw hK hc i pins s U H E I hf st hg;subst hP hw hK;obtain⟨xs,hq,hx⟩:=hg;obtain⟨bt,rv,p,hz⟩:=I.tuple hq;obtain⟨f0,f1,f2,f3,f4,f5⟩:=hf it (by simp);have hl:=rv.length;exact wpAny_pyNext_tuple_end (I.ok.hd hc) st (show s.heap.IsTuple a bt.toArray from p) (by simp;omega) λh' eb=>⟨rfl,I.turned (t':=s.toks) (λb o hb e=>eb b o hb e) f0 f1 f3 f4 f5⟩
 self:=λ_ _ _ _ _ st h=>wpAny_pyIter_tupleiter st h
theorem aK3(it:Addr)(lo:Int)(n:Nat):Turn P w K tg (wM lo n) [it] it (λi h=>IsRangeIter h it (lo+(i:Nat)*1) ((n:Int)-(i:Nat)) 1) where
 mem:=by simp
 obj:=λi h st b hb=>by
  have e:b=it:=by simpa using hb
  subst e;exact ⟨_,st,λv z=>by
   have z':Data.fields _=Data.cell v:=z;cases z'⟩
 keep:=λi h h' st k=>k it (by simp) _ st
 item:=by
  intro X hP hw hK hc i pins s U H E I hf st hg;subst hP hw hK;obtain⟨f0,f1,f2,f3,f4,f5⟩:=hf it (by simp);have W:=Walks.range (prog:=X.prog) (w:=X.w) (I.ok.hd hc) it lo 1 n;refine W.item i s _ _ hg st λv h' tk hv ba kk=>?_;obtain⟨t,rfl⟩:=hv;have I1:Inv X pins U H { s with heap:=h',toks:=tk }:=I.turned (λb o hb e=>kk b o (by simpa using hb) e) f0 f1 f3 f4 f5;refine⟨_,rfl,yg (s:={ s with heap:=h',toks:=tk }) (n:="range_iterator") ba rfl rfl ∅ ⟨.int (lo+i),H,I1,⟨t,?_⟩,⟨rfl,rfl⟩,ba,λb hb=>(hf b hb).1⟩⟩;rw[Int.mul_one]
 done:=by
  intro X hP hw hK hc i pins s U H E I hf st hg;subst hP hw hK;obtain⟨f0,f1,f2,f3,f4,f5⟩:=hf it (by simp);exact wpAny_pyNext_range_end (I.ok.hd hc) st (by have:n<=i:=hg;omega) λh' eb=>⟨rfl,I.turned (t':=s.toks) (λb o hb e=>eb b o hb e) f0 f1 f3 f4 f5⟩
 self:=λ_ _ _ _ _ st h=>wpAny_pyIter_rangeiter st h
theorem HA{R:It->Hp->Prop}{lo hi:Int}{t u v:Tok}{tk:Nat}(I:Inv X pins U H s)(h1:-(2 ^ 62)<=lo)(h2:lo<2 ^ 62)(h3:-(2 ^ 62)<=hi)(h4:hi<2 ^ 62)(q:R (wM lo (hi-lo).toNat) H):wpAny (model X.prog X.w) X.A (pyIter (.ref s.heap.objs.size)) (Lw X pins U tg R) E { s with heap:=s.heap.push { cls:=.type "range",data:=.fields #[.int lo t,.int hi u,.int 1 v] },toks:=tk }:=by
 refine wpAny_pyIter_range (IsRange.new ..) (small_one h1 h2 h3 h4) ?_;have I1:Inv X pins U H { s with heap:=s.heap.push { cls:=.type "range",data:=.fields #[.int lo t,.int hi u,.int 1 v] },toks:=tk }:=I.kept λb o e=>aj _ e;refine ⟨(s.heap.push { cls:=.type "range",data:=.fields #[.int lo t,.int hi u,.int 1 v] }).objs.size,[(s.heap.push { cls:=.type "range",data:=.fields #[.int lo t,.int hi u,.int 1 v] }).objs.size],_,_,H,rfl,
  I1.kept (t':=tk) λb o e=>aj _ e,aK3 _ lo (hi - lo).toNat,?_,λb hb=>?_,q⟩
 ·have e1:lo+((0:Nat):Int)*1=lo:=by simp
  have e2:(((hi-lo).toNat:Nat):Int)-((0:Nat):Int)=Builtin.Range.rangeSize lo hi 1:=by rw[rangeSize_one];split<;>omega
  rw[e1,e2];exact aB _ rfl
 ·have e:b=(s.heap.push { cls:=.type "range",data:=.fields #[.int lo t,.int hi u,.int 1 v] }).objs.size:=by simpa using hb
  subst e;exact I1.pX (av _) (I1.cu.fresh (av _))
def WN(ta:TA):TI:=λU H R=>ta U H λvs H1=>∃j:Int,vs=[.int j]/\-(2 ^ 62)<=j/\j<2 ^ 62/\R (wM 0 j.toNat) H1
def WO(ta:TA):TI:=λU H R=>ta U H λvs H1=>∃i j:Int,vs=[.int i,.int j]/\(-(2 ^ 62)<=i/\i<2 ^ 62/\-(2 ^ 62)<=j/\j<2 ^ 62)/\R (wM i (j-i).toNat) H1
theorem Zh{a:Expr}{ta:TA}(hg:Gl X "range")(hm:X.mg "range"=none)(ha:PA X [a] ta)(hs:starEach [a] X.env=[(false,eval a X.env)]:=by rfl):PI X tg (.Call (.Name "range" p) [a] [] pos) (WN ta):=by
 intro pins s U H R I h;refine Call_ (K7 I hg hm boot_range (bN (cU (ha pos pins s U H _ I h) λus s1 bB=>?_) hs rfl));obtain⟨vs,H1,I1,r1,q1⟩:=bB;obtain⟨j,e,q1,q2,q⟩:=q1;subst e;cases r1 with
 |cons r rr =>
  cases rr;obtain⟨t,rfl⟩:=r;exact call_range_1 (HA I1 () () q1 q2 (by simpa using q))
theorem Zi{a b:Expr}{ta:TA}(hg:Gl X "range")(hm:X.mg "range"=none)(ha:PA X [a,b] ta)(hs:starEach [a,b] X.env=[(false,eval a X.env),(false,eval b X.env)]:=by rfl)(gi:starEach [b] X.env=[(false,eval b X.env)]:=by rfl) :
  PI X tg (.Call (.Name "range" p) [a,b] [] pos) (WO ta):=by
 intro pins s U H R I h;refine Call_ (K7 I hg hm boot_range (bN (cU (ha pos pins s U H _ I h) λus s1 bB=>?_) (by rw[hs,gi]) (by rw[gi];rfl)));obtain⟨vs,H1,I1,r1,q1⟩:=bB;obtain⟨i,j,e,⟨q1,q2,q3,q4⟩,q⟩:=q1;subst e;cases r1 with
 |cons r rr =>
  cases rr with
  |cons r' rr =>
   cases rr;obtain⟨t,rfl⟩:=r;obtain⟨t',rfl⟩:=r';exact call_range_2 (HA I1 q1 q2 q3 q4 q)
def VZ(wi:TI)(g:TG)(tb:TS):TS:=λD U H=>wi U H λJ H1=>∃W:Nat->Nat->St->Hp->Prop,(∃m,W 0 m U H1)/\∀i m U H,W i m U H ->
 (J.stop i H/\D.nx U H)\/(J.go i H/\∃N:St->Hp->Prop,(∀cc H',N cc H'->∃m',m'<m/\W (i+1) m' cc H')/\∀x H',J.qi i H x H'->g x U H' λcH H2=>tb { D with nx:=N,ct:=N,bk:=D.nx } cH H2)
def V2(fp:List Addr)(h:Heap):List (Addr×Obj):=fp.filterMap λb=>(h.get? b).map λo=>(b,o)
theorem P2{o:Obj}(hb:b∈fp)(e:h.get? b=some o):(b,o)∈V2 fp h:=LO.mpr ⟨b,hb,by rw[e];rfl⟩
theorem Y'{p:Addr×Obj}(hp:p∈V2 fp h):p.1∈fp/\h.get? p.1=some p.2:=by
 obtain⟨b,hb,e⟩:=LO.mp hp;cases q:h.get? b with
 |none=>simp_all
 |some o =>
  rw[q] at e;have e':(b,o)=p:=aN e;subst e';exact⟨hb,q⟩
theorem Inv.pinned(I:Inv X pins U H s)(hf:∀b∈fp,C2 X pins H b)(ho:∀b∈fp,∃o,s.heap.get? b=some o/\∀v,o.data≠.cell v):Inv X (pins++V2 fp s.heap) U H s :=
 I.J5 λp hp=>(aR.mp hp).elim (λz=>I.pin p (aO _ z)) λz=>by
  obtain⟨hb,e⟩:=Y' z;obtain⟨f0,f1,f2,_⟩:=hf p.1 hb;obtain⟨o,e',d⟩:=ho p.1 hb;rw[e] at e';cases e';exact⟨e,f0,f1,f2,d⟩
theorem Inv.Cv{pl:List (Addr×Obj)}(I:Inv X (pins++pl) U H s):Inv X pins U H s:=I.J5 λp hp=>I.pin p (aO _ (bx _ hp))
theorem RI{iter:Expr}{wi:TI}{g:TG}{tb:TS}(hp:PassesOwn (model X.prog X.w) X.A X.env X.xe)(hc:X.calm=true)(hi:PI X tg iter wi)(hg:PG X tg g)(hb:jU X body tb)(hs:∀x,foldedSetIterable iter X.env x=pure x:=by intro _;rfl):PS X (.For tg iter body [] pos) (VZ wi g tb):=by
 intro pins s U H D I h;refine wpAny_For (cU (hi pins s U H _ I h) λv s1 h1=>cU h1 λva s2 h2=>?_) hs;obtain⟨it,fp,tn,J,H2,e,I2,T,fZ,f2,W,⟨m0,w0⟩,turn⟩:=h2;subst e;have ql:∀{H':Hp},(∀b∈fp,H' b=none)->∀b∈fp,C2 X pins H' b:=λhn b hb=>⟨hn b hb,(f2 b hb).2⟩
 refine codeAny_forLoop_any (λn s'=>∃i cc H',Inv X pins cc H' s'/\tn i s'.heap/\(∀b∈fp,H' b=none)/\W i n cc H') ?_ m0 ⟨0,U,H2,I2,fZ,λb hb=>(f2 b hb).1,w0⟩;rintro n s3 ⟨i,iB,H3,I3,jo,pT,w3⟩;rcases turn i n iB H3 w3 with⟨stop,qn⟩|⟨go,N,hN,step⟩
 ·refine eE hp (cU (T.done X rfl rfl rfl hc i pins s3 iB H3 X.xe I3 (ql pT) jo stop) λr s4 ⟨hr,I4⟩=>?_);subst hr;exact tW ⟨iB,H3,I4,qn⟩
 ·refine eE hp (cU (T.item X rfl rfl rfl hc i pins s3 iB H3 X.xe I3 (ql pT) jo go) λr s4 ⟨u,hr,h4⟩=>?_);subst hr;refine eE hp (cU h4 λ_ s5 bB=>?_);obtain⟨x,H5,I5,r5,y5,lZ,vI⟩:=bB;have wN:=I5.pinned (ql vI) (T.obj _ _ lZ);refine eE hp (cU (hg _ s5 iB H5 x u _ wN r5 (step x H5 y5)) λ_ s6 bB=>?_);obtain⟨lW,H6,I6,q6⟩:=bB;refine eE hp (cU (hb _ s6 lW H6 _ I6 q6) λf s7 q7=>?_);have again:∀{mU:St} {H7:Hp},Inv X (pins++V2 fp s5.heap) mU H7 s7->N mU H7->∃m,m<n/\∃i cc H',Inv X pins cc H' s7/\tn i s7.heap/\(∀b∈fp,H' b=none)/\W i m cc H':=λ{mU H7} I7 n7=>by
   obtain⟨m',hm,w7⟩:=hN mU H7 n7;refine⟨m',hm,i+1,mU,H7,I7.Cv,T.keep _ _ _ lZ λb hb o e=>(I7.pin (b,o) (aO _ (aO _ (P2 hb e)))).1,λb hb=>?_,w7⟩;obtain⟨o,e,d⟩:=T.obj _ _ lZ b hb;exact(I7.pin (b,o) (aO _ (aO _ (P2 hb e)))).2.1
  cases f with
  |next=>obtain⟨mU,H7,I7,n7⟩:=q7;exact again I7 n7
  |cont=>obtain⟨mU,H7,I7,n7⟩:=q7;exact again I7 n7
  |brk=>obtain⟨mU,H7,I7,q7⟩:=q7;exact⟨mU,H7,I7.Cv,q7⟩
  |ret v=>obtain⟨x7,mU,H7,I7,r7,q7⟩:=q7;exact⟨x7,mU,H7,I7.Cv,r7,q7⟩
noncomputable abbrev R2:=V->V->Hp->VK->Prop
def gw(X:Cx)(f:Value->Value->Sem Value)(r:R2):Prop :=
 ∀(pins:List (Addr×Obj)) (s:Shared) (U:St) (H:Hp) (x y:V) (v u:Value) (Q:VK),Inv X pins U H s->RelV x v->RelV y u->r x y H Q ->
  wpAny (model X.prog X.w) X.A (f v u) (EP X pins U Q) X.xe s
def yZ(X:Cx)(f:Value->Sem Value)(r:V->Hp->VK->Prop):Prop :=
 ∀(pins:List (Addr×Obj)) (s:Shared) (U:St) (H:Hp) (x:V) (v:Value) (Q:VK),Inv X pins U H s->RelV x v->r x H Q ->
  wpAny (model X.prog X.w) X.A (f v) (EP X pins U Q) X.xe s
def l6(X:Cx)(f:Value)(r:List V->Hp->VK->Prop):Prop :=
 ∀(pins:List (Addr×Obj)) (s:Shared) (U:St) (H:Hp) (xs:List V) (us:List Value) (Q:VK),Inv X pins U H s->Vals xs us->r xs H Q ->
  wpAny (model X.prog X.w) X.A (call f us) (EP X pins U Q) X.xe s
def UY(X:Cx)(r:V->Hp->(Bool->Hp->Prop)->Prop):Prop :=
 ∀(pins:List (Addr×Obj)) (s:Shared) (U:St) (H:Hp) (x:V) (v:Value) (Q:Bool->Hp->Prop),Inv X pins U H s->RelV x v->r x H Q ->
  wpAny (model X.prog X.w) X.A (truthy v) (TP X pins U Q) X.xe s
def sk(r:R2)(ta tb:TE):TE:=λU H Q=>ta U H λx H1=>tb U H1 λy H2=>r x y H2 Q
def Mc(r:V->Hp->VK->Prop)(ta:TE):TE:=λU H Q=>ta U H λx H1=>r x H1 Q
def rI(C:Int->Int->Prop)(g:Int->Int->V):R2:=λx y H Q=>∃i j,x=.int i/\y=.int j/\C i j/\Q (g i j) H
def mJ(g:Int->Int->V):R2:=λx y H Q=>∃i j,x=.int i/\y=.int j/\Q (g i j) H
def rU(g:Int->V):V->Hp->VK->Prop:=λx H Q=>∃i,x=.int i/\Q (g i) H
section
variable{a b:Expr}
theorem DY(ha:PE X a ta)(hb:PE X b tb){R:V->V->Hp->Prop}(I:Inv X pins U H s)(h:ta U H λx H1=>tb U H1 λy H2=>R x y H2){f:Value->Value->Sem Value}(hf:∀v u s2 x y H2,Inv X pins U H2 s2->RelV x v->RelV y u->R x y H2->wpAny (model X.prog X.w) X.A (f v u) Q X.xe s2) :
  wpAny (model X.prog X.w) X.A (eval a X.env) (λv bU=>wpAny (model X.prog X.w) X.A (eval b X.env) (λu gY=>wpAny (model X.prog X.w) X.A (f v u) Q X.xe gY) X.xe bU) X.xe s:=by
 refine cU (ha pins s U H _ I h) λv s1 bB=>?_;obtain⟨x,H1,I1,r1,q1⟩:=bB;refine cU (hb pins s1 U H1 _ I1 q1) λu s2 bB=>?_;obtain⟨y,H2,I2,r2,q2⟩:=bB;exact hf v u s2 x y H2 I2 r1 r2 q2
theorem Pp{op:Operator}(ho:gw X (binaryOp op) r)(ha:PE X a ta)(hb:PE X b tb):PE X (.BinOp a op b pos) (sk r ta tb):=by
 intro pins s U H Q I h;exact wpAny_BinOp (DY ha hb I h λv u s2 x y H2 I2 rx ry q=>ho pins s2 U H2 x y v u Q I2 rx ry q)
theorem Pt{op:UnaryOp}{r:V->Hp->VK->Prop}(ho:yZ X (unaryOp op) r)(ha:PE X a ta):PE X (.UnaryOp op a pos) (Mc r ta):=by
 intro pins s U H Q I h;exact UnaryOp_ (cU (ha pins s U H _ I h) λv s1 ⟨x,H1,I1,r1,q1⟩=>ho pins s1 U H1 x v Q I1 r1 q1)
theorem uC{f:Value->Value->Sem Value}{C:Int->Int->Prop}{g:Int->Int->Int}(rule:∀(i j:Int) (t u:Tok) (s:Shared) (Q:Value->Shared->Prop) (E:Value->Shared->Prop),C i j->Q (.int (g i j) s.toks) { s with toks:=s.toks+1 }->wpAny (model X.prog X.w) X.A (f (.int i t) (.int j u)) Q E s) :
  gw X f (rI C λi j=>.int (g i j)):=by
 intro pins s U H x y v u Q I rx ry h;obtain⟨i,j,rfl,rfl,hc,q⟩:=h;obtain⟨t,rfl⟩:=rx;obtain⟨t',rfl⟩:=ry;exact rule i j t t' s _ _ hc ⟨.int (g i j),H,I.tok _,⟨_,rfl⟩,q⟩
theorem tJ{f:Value->Value->Sem Value}{g:Int->Int->Int}(rule:∀(i j:Int) (t u:Tok) (s:Shared) (Q:Value->Shared->Prop) (E:Value->Shared->Prop),Q (.int (g i j) s.toks) { s with toks:=s.toks+1 }->wpAny (model X.prog X.w) X.A (f (.int i t) (.int j u)) Q E s) :
  gw X f (mJ λi j=>.int (g i j)):=by
 intro pins s U H x y v u Q I rx ry h;obtain⟨i,j,rfl,rfl,q⟩:=h;obtain⟨t,rfl⟩:=rx;obtain⟨t',rfl⟩:=ry;exact rule i j t t' s _ _ ⟨.int (g i j),H,I.tok _,⟨_,rfl⟩,q⟩
theorem yW{f:Value->Value->Sem Value}{g:Int->Int->Bool}(rule:∀(i j:Int) (t u:Tok) (s:Shared) (Q:Value->Shared->Prop) (E:Value->Shared->Prop),Q (.bool (g i j)) s->wpAny (model X.prog X.w) X.A (f (.int i t) (.int j u)) Q E s) :
  gw X f (mJ λi j=>.bl (g i j)):=by
 intro pins s U H x y v u Q I rx ry h;obtain⟨i,j,rfl,rfl,q⟩:=h;obtain⟨t,rfl⟩:=rx;obtain⟨t',rfl⟩:=ry;exact rule i j t t' s _ _ ⟨.bl (g i j),H,I,rfl,q⟩
def DS(i j:Int):Prop:=0<j/\j<1073741824
def oZ(i j:Int):Prop:=0<=j/\j<=1000000/\i.natAbs<2 ^ 64
def rJ(i j:Int):Prop:=(-(2 ^ 64)<i/\i<2 ^ 64)\/(-(2 ^ 64)<j/\j<2 ^ 64)
theorem rJ.ok{i j:Int}(h:rJ i j):IntMulOk i j:=by
 rcases h with⟨h1,h2⟩|⟨h1,h2⟩
 ·exact .of_left (intBits_le_64 h1 h2)
 ·exact .of_right (intBits_le_64 h1 h2)
theorem QY:gw X (binaryOp .Add) (mJ λi j=>.int (i+j)):=tJ λ_ _ _ _ _ _ _ q=>add_int q
theorem Rj:gw X (binaryOp .Sub) (mJ λi j=>.int (i-j)):=tJ λ_ _ _ _ _ _ _ q=>sub_int q
theorem Rg:gw X (binaryOp .Mult) (rI rJ λi j=>.int (i*j)):=uC λ_ _ _ _ _ _ _ hc q=>mul_int q hc.ok
theorem TC:gw X (binaryOp .FloorDiv) (rI DS λi j=>.int (i / j)):=uC λi j _ _ _ _ _ hc q=>by
 have h1:(0:Int)<j:=hc.1;have h2:j<1073741824:=hc.2;exact floordiv_int () (by rw[Int.fdiv_eq_ediv_of_nonneg i ()];exact q) (.inl (PyProof.noPylong_small ()))
theorem Rf:gw X (binaryOp .Mod) (rI (λ_ j=>0<j) λi j=>.int (i % j)):=uC λi j _ _ _ _ _ hc q=>by
 exact mod_int' () (by rw[Int.fmod_eq_emod_of_nonneg i ()];exact q)
theorem Rh:gw X (binaryOp .Pow) (rI oZ λi j=>.int (i ^ j.toNat)):=uC λ_ _ _ _ _ _ _ hc q=>pow_int_small hc.1 hc.2.1 hc.2.2 q
theorem Ri:gw X (binaryOp .LShift) (rI oZ λi j=>.int (i*2 ^ j.toNat)):=uC λ_ _ _ _ _ _ _ hc q=>lshift_int_small hc.1 hc.2.1 hc.2.2 q
theorem QZ:gw X (binaryOp .BitAnd) (mJ λi j=>.int (Builtin.bitAnd i j)):=tJ λ_ _ _ _ _ _ _ q=>and_int q
theorem Xq:gw X (binaryOp .BitOr) (mJ λi j=>.int (Builtin.bitOr i j)):=tJ λ_ _ _ _ _ _ _ q=>or_int q
theorem Tg:gw X (inplaceOp .Add) (mJ λi j=>.int (i+j)):=tJ λ_ _ _ _ _ _ _ q=>iadd_int q
theorem Th:gw X (inplaceOp .Sub) (mJ λi j=>.int (i-j)):=tJ λ_ _ _ _ _ _ _ q=>isub_int q
theorem Mb{f:Value->Sem Value}{g:Int->Int}(rule:∀(i:Int) (t:Tok) (s:Shared) (Q:Value->Shared->Prop) (E:Value->Shared->Prop),Q (.int (g i) s.toks) { s with toks:=s.toks+1 }->wpAny (model X.prog X.w) X.A (f (.int i t)) Q E s) :
  yZ X f (rU λi=>.int (g i)):=by
 intro pins s U H x v Q I rx h;obtain⟨i,rfl,q⟩:=h;obtain⟨t,rfl⟩:=rx;exact rule i t s _ _ ⟨.int (g i),H,I.tok _,⟨_,rfl⟩,q⟩
theorem SK:yZ X (unaryOp .USub) (rU λi=>.int (-i)):=Mb λ_ _ _ _ _ q=>neg_int q
end
def Hm:V->V->Bool
 |.bR,.bR=>true|.bR,.int _=>true|.int _,.bR=>true|.bR,.bl _=>true|.bl _,.bR=>true|.bR,.str _=>true|.str _,.bR=>true
 |.int _,.int _=>true|.bl _,.bl _=>true|.str _,.str _=>true|.lO _,.lO _=>true
 |.int _,.str _=>true|.str _,.int _=>true|.bl _,.str _=>true|.str _,.bl _=>true
 |_,_=>false
def Mt:R2:=λx y H Q=>Hm x y=true/\Q (.bl (decide (x=y))) H
def Mr:R2:=λx y H Q=>Hm x y=true/\Q (.bl (!decide (x=y))) H
theorem JS{i j:Int}:decide (V.int i=V.int j)=(i==j):=by
 rw[aU];simp
theorem yy{i j:Bool}:decide (V.bl i=V.bl j)=(i==j):=by
 rw[aU];simp
theorem JT{i j:Str}:decide (V.str i=V.str j)=(i==j):=by
 rw[aU];simp
theorem JR{i j:Array UInt8}:decide (V.lO i=V.lO j)=(i.toList==j.toList):=by
 rw[aU];simp
section
variable{a b:Expr}{tc:TE}
theorem j8{Q:VK}{k k':Bool}(I:Inv X pins U H s)(q:Q (.bl k) H)(e:k=k'):EP X pins U Q (.bool k') s:=by
 subst e;exact⟨.bl k,H,I,rfl,q⟩
theorem Dk:gw X (compareOp .Eq) Mt:=by
 intro pins s U H x y v u Q I rx ry h;obtain⟨hs,q⟩:=h;cases x with
 |bR =>
  cases rx;cases y with
  |bR=>cases ry;exact PySem.EqNone.eq_none_none (j8 I q (by simp))
  |bl j=>cases ry;exact PySem.EqNone.eq_none_bool (j8 I q (by simp))
  |int j=>obtain⟨t',rfl⟩:=ry;exact PySem.EqNone.eq_none_int (j8 I q (by simp))
  |str j=>obtain⟨t',rfl⟩:=ry;exact PySem.EqNone.eq_none_str (j8 I q (by simp))
  |_=>exact absurd (show false=true from hs) Bool.false_ne_true
 |bl i =>
  cases rx;cases y with
  |bR=>cases ry;exact PySem.EqNone.eq_bool_none (j8 I q (by simp))
  |bl j=>cases ry;exact eq_bool (j8 I q yy)
  |str j=>obtain⟨t',rfl⟩:=ry;exact PySem.EqMixed.eq_bool_str (j8 I q (by simp))
  |_=>exact absurd (show false=true from hs) Bool.false_ne_true
 |int i =>
  obtain⟨t,rfl⟩:=rx;cases y with
  |bR=>cases ry;exact PySem.EqNone.eq_int_none (j8 I q (by simp))
  |int j=>obtain⟨t',rfl⟩:=ry;exact eq_int (j8 I q JS)
  |str j=>obtain⟨t',rfl⟩:=ry;exact PySem.EqMixed.eq_int_str (j8 I q (by simp))
  |_=>exact absurd (show false=true from hs) Bool.false_ne_true
 |str i =>
  obtain⟨t,rfl⟩:=rx;cases y with
  |bR=>cases ry;exact PySem.EqNone.eq_str_none (j8 I q (by simp))
  |bl j=>cases ry;exact PySem.EqMixed.eq_str_bool (j8 I q (by simp))
  |int j=>obtain⟨t',rfl⟩:=ry;exact PySem.EqMixed.eq_str_int (j8 I q (by simp))
  |str j=>obtain⟨t',rfl⟩:=ry;exact eq_str (j8 I q JT)
  |_=>exact absurd (show false=true from hs) Bool.false_ne_true
 |lO i =>
  obtain⟨t,rfl⟩:=rx;cases y with
  |lO j=>obtain⟨t',rfl⟩:=ry;exact PySem.W.eq_bytes (j8 I q JR)
  |_=>exact absurd (show false=true from hs) Bool.false_ne_true
 |_=>cases y<;>exact absurd (show false=true from hs) kf
theorem Dm:gw X (compareOp .NotEq) Mr:=by
 intro pins s U H x y v u Q I rx ry h;obtain⟨hs,q⟩:=h;cases x with
 |bR =>
  cases rx;cases y with
  |bR=>cases ry;exact PySem.EqNone.ne_none_none (j8 I q (by simp))
  |bl j=>cases ry;exact PySem.EqNone.ne_none_bool (j8 I q (by simp))
  |int j=>obtain⟨t',rfl⟩:=ry;exact PySem.EqNone.ne_none_int (j8 I q (by simp))
  |str j=>obtain⟨t',rfl⟩:=ry;exact PySem.EqNone.ne_none_str (j8 I q (by simp))
  |_=>exact absurd (show false=true from hs) Bool.false_ne_true
 |bl i =>
  cases rx;cases y with
  |bR=>cases ry;exact PySem.EqNone.ne_bool_none (j8 I q (by simp))
  |bl j=>cases ry;exact ne_bool (j8 I q (congrArg not yy))
  |str j=>obtain⟨t',rfl⟩:=ry;exact PySem.EqMixed.ne_bool_str (j8 I q (by simp))
  |_=>exact absurd (show false=true from hs) Bool.false_ne_true
 |int i =>
  obtain⟨t,rfl⟩:=rx;cases y with
  |bR=>cases ry;exact PySem.EqNone.ne_int_none (j8 I q (by simp))
  |int j=>obtain⟨t',rfl⟩:=ry;exact ne_int (j8 I q (congrArg not JS))
  |str j=>obtain⟨t',rfl⟩:=ry;exact PySem.EqMixed.ne_int_str (j8 I q (by simp))
  |_=>exact absurd (show false=true from hs) Bool.false_ne_true
 |str i =>
  obtain⟨t,rfl⟩:=rx;cases y with
  |bR=>cases ry;exact PySem.EqNone.ne_str_none (j8 I q (by simp))
  |bl j=>cases ry;exact PySem.EqMixed.ne_str_bool (j8 I q (by simp))
  |int j=>obtain⟨t',rfl⟩:=ry;exact PySem.EqMixed.ne_str_int (j8 I q (by simp))
  |str j=>obtain⟨t',rfl⟩:=ry;exact ne_str (j8 I q (congrArg not JT))
  |_=>exact absurd (show false=true from hs) Bool.false_ne_true
 |lO i =>
  obtain⟨t,rfl⟩:=rx;cases y with
  |lO j=>obtain⟨t',rfl⟩:=ry;exact PySem.W.ne_bytes (j8 I q (congrArg not JR))
  |_=>exact absurd (show false=true from hs) Bool.false_ne_true
 |_=>cases y<;>exact absurd (show false=true from hs) kf
theorem Xp:gw X (compareOp .Lt) (mJ λi j=>.bl (decide (i<j))):=yW λ_ _ _ _ _ _ _ q=>lt_int q
theorem Xo:gw X (compareOp .LtE) (mJ λi j=>.bl (decide (i<=j))):=yW λ_ _ _ _ _ _ _ q=>le_int q
theorem Xm:gw X (compareOp .Gt) (mJ λi j=>.bl (decide (j<i))):=yW λ_ _ _ _ _ _ _ q=>gt_int q
theorem Xl:gw X (compareOp .GtE) (mJ λi j=>.bl (decide (j<=i))):=yW λ_ _ _ _ _ _ _ q=>ge_int q
theorem Rc:gw X (compareOp .Is) (λx y H Q=>y=.bR/\Q (.bl (decide (x=.bR))) H):=by
 intro pins s U H x y v u Q I rx ry h;obtain⟨rfl,q⟩:=h;cases ry;refine is_none_gen (j8 I q ?_);cases x<;>first
  |(cases rx;rfl)
  |(obtain⟨t,rfl⟩:=rx;rfl)
theorem TH:gw X (compareOp .IsNot) (λx y H Q=>y=.bR/\Q (.bl (!decide (x=.bR))) H):=by
 intro pins s U H x y v u Q I rx ry h;obtain⟨rfl,q⟩:=h;cases ry;refine isnot_none_gen (j8 I q ?_);cases x<;>first
  |(cases rx;rfl)
  |(obtain⟨t,rfl⟩:=rx;rfl)
theorem TU(ho:gw X (compareOp op) r)(ha:PE X a ta)(hb:PE X b tb)(hm:behindInMarks op b=false):PE X (.Compare a [op] [b] pos) (sk r ta tb):=by
 intro pins s U H Q I h;exact wpAny_Compare1 (DY ha hb I h λv u s2 x y H2 I2 rx ry q=>ho pins s2 U H2 x y v u Q I2 rx ry q) hm
def Dv(t:TE):TT:=λU H Q=>t U H λx H'=>∃k,x=.bl k/\Q k H'
theorem Ug(ho:gw X (compareOp op) r)(ha:PE X a ta)(hb:PE X b tb)(hm:behindInMarks op b=false):PT X (.Compare a [op] [b] pos) (Dv (sk r ta tb)):=by
 intro pins s U H Q I h;refine wpAny_isTrue_Compare1 (cU (ha pins s U H _ I h) λv s1 ⟨x,H1,I1,r1,q1⟩=>cU (hb pins s1 U H1 _ I1 q1) λu s2 ⟨y,H2,I2,r2,q2⟩ =>
  cU (ho pins s2 U H2 x y v u _ I2 r1 r2 q2) λc s3 ⟨z,H3,I3,r3,k,e,q3⟩=>?_) hm
 subst e;cases r3;exact cK ⟨H3,I3,q3⟩
def Bz(r r':R2)(ta tb tc:TE):TE:=λU H Q=>ta U H λx H1=>tb U H1 λy H2=>r x y H2 λz H3=>∃k,z=.bl k /\
 (if k=true then tc U H3 λw' H4=>r' y w' H4 Q else Q (.bl false) H3)
theorem a31{iw:CmpOp}{r':R2}(ho:gw X (compareOp op) r)(nY:gw X (compareOp iw) r')(ha:PE X a ta)(hb:PE X b tb)(hc:PE X c tc)(hm:lastMarks [op,iw] [b,c]=false:=by with_unfolding_all rfl):PE X (.Compare a [op,iw] [b,c] pos) (Bz r r' ta tb tc):=by
 intro pins s U H Q I h;refine Compare_chain (cU (ha pins s U H _ I h) λv s1 ⟨x,H1,I1,r1,q1⟩=>chain_link (cU (hb pins s1 U H1 _ I1 q1) λu s2 ⟨y,H2,I2,r2,q2⟩ =>
  cU (ho pins s2 U H2 x y v u _ I2 r1 r2 q2) λd s3 ⟨z,H3,I3,r3,k,e,q3⟩=>?_)) hm
 subst e;cases r3;refine cK ?_;cases k with
 |false=>exact ite_ff ⟨.bl false,H3,I3,rfl,q3⟩
 |true=>exact ite_tt (chain_last (cU (hc pins s3 U H3 _ I3 q3) λw' s4 ⟨z',H4,I4,r4,q4⟩=>nY pins s4 U H4 y z' u w' Q I4 r2 r4 q4))
theorem a21{iw:CmpOp}{r':R2}(ho:gw X (compareOp op) r)(nY:gw X (compareOp iw) r')(ha:PE X a ta)(hb:PE X b tb)(hc:PE X c tc)(hm:lastMarks [op,iw] [b,c]=false:=by with_unfolding_all rfl):PT X (.Compare a [op,iw] [b,c] pos) (Dv (Bz r r' ta tb tc)):=by
 intro pins s U H Q I h;refine isTrue_chain (cU (ha pins s U H _ I h) λv s1 ⟨x,H1,I1,r1,q1⟩=>test_link (cU (hb pins s1 U H1 _ I1 q1) λu s2 ⟨y,H2,I2,r2,q2⟩ =>
  cU (ho pins s2 U H2 x y v u _ I2 r1 r2 q2) λd s3 ⟨z,H3,I3,r3,k,e,q3⟩=>?_)) hm
 subst e;cases r3;refine cK ?_;cases k with
 |false =>
  obtain⟨k',e',q'⟩:=q3;cases e';exact ite_ff ⟨H3,I3,q'⟩
 |true =>
  refine ite_tt (test_last (cU (hc pins s3 U H3 _ I3 q3) λw' s4 ⟨z',H4,I4,r4,q4⟩=>cU (nY pins s4 U H4 y z' u w' _ I4 r2 r4 q4) λd' s5 bB=>?_));obtain⟨z2,H5,I5,r5,k2,e2,q5⟩:=bB;subst e2;cases r5;exact cK ⟨H5,I5,q5⟩
def DV(K:PySem.W.Frag)(x:V)(H:Hp)(k:Bool):Prop :=
 match x with
 |.bR=>k=false
 |.bl b=>k=b
 |.int i=>k=(i != 0)
 |.str y=>y.length<=sizeLine/\k=((y.length:Int) != 0)
 |.lO y=>y.size<=sizeLine/\k=((y.size:Int) != 0)
 |.ref p=>(∃xs,fS K H p xs/\k=!xs.isEmpty)\/(∃xs,jT K H p xs/\k=!xs.isEmpty)\/∃kvs,H p=some (.dK kvs)/\k=!kvs.isEmpty
 |_=>False
theorem ZI{κ:Type}{kvs:List (κ×V)}{vs:List (κ×Value)}(r:KV kvs vs):(!vs.isEmpty)=!kvs.isEmpty:=by
 cases r<;>rfl
theorem IF{bt:List Value}(r:Vals xs bt):(!bt.toArray.isEmpty)=!xs.isEmpty:=by
 cases r<;>simp
theorem yA:(sizeLine:Nat)<2 ^ 63:=by rw[rX];decide
theorem SI:UY X (λx H Q=>∃k,DV X.K x H k/\Q k H):=by
 intro pins s U H x v Q I rx h;obtain⟨k,e,q⟩:=h;have hs:sizeLine=16777216:=rX;cases x with
 |bR =>
  cases rx;have e':k=false:=e;subst e';exact truthy_none ⟨H,I,q⟩
 |bl b =>
  cases rx;have e':k=b:=e;subst e';exact cK ⟨H,I,q⟩
 |int i =>
  obtain⟨t,rfl⟩:=rx;have e':k=(i != 0):=e;subst e';exact PySem.P.truthy_int ⟨H,I,q⟩
 |str y =>
  obtain⟨t,rfl⟩:=rx;obtain⟨hy,e'⟩:y.length<=sizeLine/\k=((y.length:Int) != 0):=e;subst e';exact PySem.P.truthy_str () ⟨H,I.tok _,q⟩
 |lO y =>
  obtain⟨t,rfl⟩:=rx;obtain⟨hy,e'⟩:y.size<=sizeLine/\k=((y.size:Int) != 0):=e;subst e';exact PySem.W.truthy_bytes () ⟨H,I.tok _,q⟩
 |ref p =>
  cases rx;have e':(∃xs,fS X.K H p xs/\k=!xs.isEmpty)\/(∃xs,jT X.K H p xs/\k=!xs.isEmpty)\/∃kvs,H p=some (.dK kvs)/\k=!kvs.isEmpty:=e;rcases e' with⟨xs,hx,e'⟩|⟨xs,hx,e'⟩|⟨kvs,hx,e'⟩
  ·subst e';obtain⟨bt,r,pl,hz⟩:=I.list hx;have hlen:=r.length;exact wpAny_truthy_list pl.isList (by simp only[List.size_toArray];omega) ⟨H,I.tok _,by rw[IF r];exact q⟩
  ·subst e';obtain⟨bt,r,pl,hz⟩:=I.tuple hx;have hlen:=r.length;exact truthy_tuple pl (by simp only[List.size_toArray];omega) ⟨H,I.tok _,by rw[IF r];exact q⟩
  ·subst e';obtain⟨hz,hS,vs,r,m⟩:kvs.length<=sizeLine/\(p==sysModules)=false/\∃vs,KV kvs vs/\s.heap.DictOf (l9 X.prog X.w) p vs:=I.cu p _ hx;have hlen:kvs.length=vs.length:=mE r;exact wpAny_truthy_dict hS m () ⟨H,I.tok _,by rw[ZI r];exact q⟩
 |_=>exact(show False from e).elim
theorem a20(ha:PE X a ta)(he:∀whole,isTrue a X.env whole=(do let v <- whole;standAt a.pos;holding [v] (truthy v))) :
  PT X a (λU H Q=>ta U H λx H'=>∃k,DV X.K x H' k/\Q k H'):=by
 intro pins s U H Q I h;exact isTrue_plain (cU (ha pins s U H _ I h) λv s1 ⟨x,H1,I1,r1,q1⟩=>SI pins s1 U H1 x v Q I1 r1 q1) (he _)
theorem vals1{x:V}(r:Vals [x] us):∃u,us=[u]/\RelV x u:=by
 cases r with
 |cons r1 r2=>cases r2;exact⟨_,rfl,r1⟩
theorem vals2{x y:V}(r:Vals [x,y] us):∃u w',us=[u,w']/\RelV x u/\RelV y w':=by
 cases r with
 |cons r1 r2 =>
  cases r2 with
  |cons r3 r4=>cases r4;exact⟨_,_,rfl,r1,r3⟩
theorem YB(hc:X.calm=true):l6 X (.builtin "max") (λxs H Q=>∃i j,xs=[.int i,.int j]/\Q (.int (if j>i then j else i)) H):=by
 intro pins s U H xs us Q I r h;obtain⟨i,j,rfl,q⟩:=h;obtain⟨u,w',rfl,⟨t,rfl⟩,⟨t',rfl⟩⟩:=vals2 r;refine max_two_ints (I.ok.hd hc) λh' tk k=>⟨_,H,I.kept k,?_,q⟩
 by_cases hj:j>i
 ·rw[aJ hj,aJ hj];exact⟨_,rfl⟩
 ·rw[aD hj,aD hj];exact⟨_,rfl⟩
theorem YD(hc:X.calm=true):l6 X (.builtin "min") (λxs H Q=>∃i j,xs=[.int i,.int j]/\Q (.int (if j<i then j else i)) H):=by
 intro pins s U H xs us Q I r h;obtain⟨i,j,rfl,q⟩:=h;obtain⟨u,w',rfl,⟨t,rfl⟩,⟨t',rfl⟩⟩:=vals2 r;refine min_two_ints (I.ok.hd hc) λh' tk k=>⟨_,H,I.kept k,?_,q⟩
 by_cases hj:j<i
 ·rw[aJ hj,aJ hj];exact⟨_,rfl⟩
 ·rw[aD hj,aD hj];exact⟨_,rfl⟩
theorem HS:l6 X (.type "int") (λxs H Q=>(∃i,xs=[.int i]/\Q (.int i) H)\/∃k,xs=[.bl k]/\Q (.int (if k then 1 else 0)) H):=by
 intro pins s U H xs us Q I r h;rcases h with⟨i,rfl,q⟩|⟨k,rfl,q⟩
 ·obtain⟨u,rfl,t,rfl⟩:=vals1 r;exact call_int_int ⟨.int i,H,I,⟨_,rfl⟩,q⟩
 ·obtain⟨u,rfl,r1⟩:=vals1 r;cases r1;exact call_int_bool ⟨.int (if k then 1 else 0),H,I.tok _,⟨_,rfl⟩,q⟩
end
structure tE(h:Heap)(x dx C:Addr)(mA:Str->Option Value):Prop where
 obj:h.get? x=some (PySem.W.instObj C dx)
 ns:h.Ns1 dx mA
 ne:dx≠x
theorem Ia{mA:Str->Option Value}(n:h.Ns1 dx mA):∃od,h.get? dx=some od/\∀name,PySem.W.lookIn name od=some (mA name):=by
 obtain⟨o,es,ep,ho,hd,hk,_,hm⟩:=n;refine⟨o,ho,λname=>?_⟩;have e:=hm name;unfold nsFind findBy at e;rw[<- Array.find?_toList] at e;unfold PySem.W.lookIn;rw[hd];dsimp only;split
 ·rename_i y q;rw[q] at e;exact ie some e
 ·rename_i q;rw[q] at e;have a:es.toList.any (·.refKey)=false:=by
   rw[List.any_eq_false];intro y hy;obtain⟨z,t,gf⟩:=hk y (Array.mem_toList_iff.mp hy);simp[DictEntry.refKey,gf]
  have a':¬es.toList.any (·.refKey)=true:=by rw[a];exact kf
  rw[aD a'];exact ie some e
theorem tE.look{x:Addr}{mA:Str->Option Value}(I:tE h x dx C mA):∃od,PySem.W.InstAt h x (PySem.W.instObj C dx) C (some od)/\∀name,PySem.W.lookIn name od=some (mA name) :=
 let ⟨od,ho,hl⟩:=Ia I.ns
 ⟨od,⟨I.obj,rfl,rfl,ho⟩,hl⟩
section
variable{prog:Program}{x:Addr}{mA:Str->Option Value}{name:Str}{v:Value}
theorem get_map{expr:Bool}(X:K.In s.heap)(I:tE s.heap x dx C mA)(hg:PySem.W.plainGet K C name=true)(hh:PySem.W.hasDictIn K C=true)(ha:PySem.W.findIn K (.ref C) name=some none)(hv:mA name=some v)(zT:PySem.W.handedIn v=true)(h:Q v { s with toks:=s.toks+1 }) :
  wpAny (model prog w) A (getAttr (.ref x) name expr) Q E s:=by
 obtain⟨od,J,hl⟩:=I.look;exact PySem.W.get_value X J (PySem.W.plainGet_of hg).1 (PySem.W.findObj_own hh ha rfl (by rw[hl,hv])) zT h
theorem UA{ns:List Str}{Q:Unit->Shared->Prop}(X:K.In s.heap)(I:tE s.heap x dx C mA)(hs:PySem.W.findIn K (.ref C) "__setattr__"=some (some (.builtin "object.__setattr__")))(hp:PySem.W.plainOver K C=true)(ht:PySem.W.takerIn K C name=some none)(hh:PySem.W.hasDictIn K C=true)(hw:PySem.Within mA ns)(hsz:ns.length<=sizeLine)(h:∀h',tE h' x dx C (λy=>if y=name then some v else mA y)->Heap.SameBut dx s.heap h'->Q Unit.unit { s with heap:=h',toks:=s.toks+2 }) :
  wpAny (model prog w) A (setAttr (.ref x) name v) Q E s:=by
 obtain⟨od,J,hl⟩:=I.look;refine PySem.W.set_plain X J hs (PySem.W.osa_open (s:={ s with toks:=s.toks+1 }) (r:=none) X J hp ht λb=>?_);obtain⟨cd,hc,Gb⟩:=PySem.W.any_some hh;have hx:s.heap.get? x=some ⟨.ref C,some dx,.plain,#[]⟩:=I.obj;refine ab (ao (ab (ab (wpAny_loadPart hx (ab (PySem.W.Looks.here (s:={ s with toks:=s.toks+1 }) (PySem.W.looks_clsIn X hc) ?_))))));rw[Gb];refine ao (a:=some dx) (ab (ao (ab ?_)));refine wpAny_nsSet1 (s:={ s with toks:=s.toks+1 }) I.ns λh' mN gi=>?_;obtain⟨oD,esD,epD,Nt,NL,NN⟩:=mN.count (PySem.Within.cons name v hw);refine ab (wpAny_lookBehind Nt (by rw[NL];exact pastItsLine_dict (aC NN (by grind))) ?_);exact ao (h _ ⟨(gi.2 _ (cz I.ne)).trans I.obj,mN,I.ne⟩ gi)
theorem a37{R:Result->Shared->Prop}{vs:List Value}{kw:List (Str×Value)}(X:K.In s.heap)(hm:PySem.W.makesIn K C=true)(hi:PySem.W.findIn K (.ref C) "__init__"=some (some (.ref f)))(hf:PySem.W.typeIn K (.ref f)=some (.type "function"))(h:codeAny (model prog w) (A.under (.builtin "type.__call__" ⟨.ref C :: vs,kw⟩)) (.call (.ref f) ⟨.ref (s.heap.objs.size + 1) :: vs,kw⟩) (PySem.W.InitBack (s.heap.objs.size + 1) R)
   { s with heap:=(s.heap.push PySem.W.emptyDict).push (PySem.W.instObj C s.heap.objs.size) }) :
  codeAny (model prog w) A (.call (.ref C) ⟨vs,kw⟩) R s:=by
 exact PySem.W.make_core (PySem.W.makes_of X hm) (PySem.W.looks_findIn X hi) (λself=>PySem.W.bind_fn X self hf) (.inl rfl) h
end
def A1(f:Str)(v:V):List (Str×V)->List (Str×V)
 |[]=>[(f,v)]
 |(g,x)::r=>if g=f then(g,v)::r else(g,x)::A1 f v r
theorem Jb(f g:Str)(v:V):∀fs:List (Str×V),(A1 f v fs).lookup g=if g=f then some v else fs.lookup g
 |[]=>by
  show List.lookup g [(f,v)]=_;by_cases h:g=f
  ·have hb:(g==f)=true:=br.mpr h;simp only[List.lookup,hb,if_pos h]
  ·have hb:(g==f)=false:=dE.mpr h;simp only[List.lookup,hb,if_neg h]
 |(k,x)::r=>by
  have ih:=Jb f g v r;rw[show A1 f v ((k,x)::r)=(if k=f then(k,v)::r else(k,x)::A1 f v r) from rfl];by_cases hk:k=f
  ·rw[aJ hk];by_cases h:g=k
   ·have hb:(g==k)=true:=br.mpr h;simp only[List.lookup,hb,if_pos (h.trans hk)]
   ·have hb:(g==k)=false:=dE.mpr h;simp only[List.lookup,hb,if_neg (λe:g=f=>h (e.trans hk.symm))]
  ·rw[aD hk];by_cases h:g=k
   ·have hb:(g==k)=true:=br.mpr h;simp only[List.lookup,hb,if_neg (λe:g=f=>hk (h.symm.trans e))]
   ·have hb:(g==k)=false:=dE.mpr h;simp only[List.lookup,hb];exact ih
theorem CA(f:Str)(v:V):∀fs:List (Str×V),f∈(A1 f v fs).map (·.1)/\∀g,g∈fs.map (·.1)->g∈(A1 f v fs).map (·.1)
 |[]=>⟨by simp[A1],λg h=>by simp at h⟩
 |(k,x)::r=>by
  obtain⟨i1,i2⟩:=CA f v r;rw[show A1 f v ((k,x)::r)=(if k=f then(k,v)::r else(k,x)::A1 f v r) from rfl];by_cases hk:k=f
  ·rw[aJ hk]
   grind
  ·rw[aD hk];refine⟨?_,λg h=>?_⟩
   ·exact bC _ i1
   ·rcases aI.mp h with e|e
    ·exact aI.mpr (.inl e)
    ·exact bC _ (i2 g e)
theorem IZ(f:Str)(v:V):∀fs:List (Str×V),(A1 f v fs).length<=fs.length+1
 |[]=>by simp[A1]
 |(k,x)::r=>by
  have ih:=IZ f v r;rw[show A1 f v ((k,x)::r)=(if k=f then(k,v)::r else(k,x)::A1 f v r) from rfl]
  grind
theorem E8.some_of{o:Option Value}(r:E8 (some v) o):∃u,o=some u/\RelV v u:=by
 cases o with
 |none=>exact(show False from r).elim
 |some u=>exact⟨u,rfl,r⟩
theorem YN(r:RelV v u):PySem.W.handedIn u=true:=by
 cases v with
 |bR=>cases (show u=Value.none from r);rfl
 |bl b=>cases (show u=Value.bool b from r);rfl
 |int i=>obtain⟨t,e⟩:=(show ∃t,u=Value.int i t from r);cases e;rfl
 |str x=>obtain⟨t,e⟩:=(show ∃t,u=Value.str x t from r);cases e;rfl
 |lO b=>obtain⟨t,e⟩:=(show ∃t,u=Value.bytes b t from r);cases e;rfl
 |rC b=>obtain⟨t,e⟩:=(show ∃t,u=Value.float b t from r);cases e;rfl
 |ref a=>cases (show u=Value.ref a from r);rfl
 |ty n=>cases (show u=Value.type n from r);rfl
section
variable{fs:List (Str×V)}
theorem BW(cu:gH P w H h)(e:H a=some (.ins C dx fs)):∃mA,tE h a dx C mA/\(∀f,E8 (fs.lookup f) (mA f))/\PySem.Within mA (fs.map (·.1))/\fs.length<=1000/\H dx=some (.own a):=by
 obtain⟨d,z,ne,ob,mA,n,r,q⟩:=(show n6 P w H h a (.ins C dx fs) from cu a _ e)
 exact⟨mA,⟨ob,n,ne⟩,r,q,z,d⟩
end
structure jn(K:PySem.W.Frag)(C:Addr):Prop where
 pg:PySem.W.plainGet K C Str.empty=true
 hd:PySem.W.hasDictIn K C=true
 po:PySem.W.plainOver K C=true
 sa:PySem.W.findIn K (.ref C) "__setattr__"=some (some (.builtin "object.__setattr__"))
theorem jn.get(c:jn K C)(f:Str):PySem.W.plainGet K C f=true:=c.pg
def B3(K:PySem.W.Frag)(C:Addr)(f:Str):Prop:=PySem.W.findIn K (.ref C) f=some none
theorem B3.Qa{f:Str}(n:B3 K C f):PySem.W.takerIn K C f=some none:=by
 unfold PySem.W.takerIn;rw[show PySem.W.findIn K (.ref C) f=some none from n]
 rfl
structure Meth(K:PySem.W.Frag)(C:Addr)(m:Str)(f:Addr):Prop where
 at_:PySem.W.findIn K (.ref C) m=some (some (.ref f))
 fn:PySem.W.isFn K (.ref f)=true
 kp:PySem.W.keepIn K (.ref f)=true
section
variable{fs:List (Str×V)}{f:Str}
theorem ZH{b:Bool}(I:Inv X pins U H s)(e:H a=some (.ins C dx fs))(c:jn X.K C)(n:B3 X.K C f)(l:fs.lookup f=some v)(h:∀u s',Inv X pins U H s'->RelV v u->Q u s'):wpAny (model X.prog X.w) A (getAttr (.ref a) f b) Q E s:=by
 obtain⟨mA,O,r,_,_,_⟩:=BW I.cu e;obtain⟨u,hu,ru⟩:=E8.some_of (v:=v) (o:=mA f) (by rw[<- l];exact r f);exact get_map I.hX O (c.get f) c.hd n hu (YN ru) (h u _ (I.tok _) ru)
theorem ZX{y:V}{Q:Unit->Shared->Prop}(I:Inv X pins U H s)(e:H a=some (.ins C dx fs))(c:jn X.K C)(n:B3 X.K C f)(hl:fs.length<1000)(ry:RelV y u)(h:∀s',Inv X pins U (upd H a (.ins C dx (A1 f y fs))) s'->Q Unit.unit s'):wpAny (model X.prog X.w) A (setAttr (.ref a) f u) Q E s:=by
 obtain⟨mA,O,r,wi,_,ho⟩:=BW I.cu e;have hz:(fs.map (·.1)).length<=sizeLine:=by rw[ai,rX];omega
 refine UA I.hX O c.sa c.po n.Qa c.hd wi hz λh' O' sb=>h _ ?_;have hd:∃o,h'.get? dx=some o:=let ⟨o,_,_,e',_⟩:=O'.ns;⟨o,e'⟩
 refine I.write (x:=a) (e:=dx) (by rw[e];exact True.intro) (.inr ho) (λb q hb z=>(sb.2 b hb).trans z) hd ?_;refine⟨by rw[d8 O.ne];exact ho,?_,O.ne,O'.obj,_,O'.ns,λg=>?_,λg hg=>?_⟩
 ·have:=IZ f y fs;omega
 ·show E8 ((A1 f y fs).lookup g) (if g=f then some u else mA g);rw[Jb];by_cases q:g=f
  ·rw[aJ q,aJ q];exact ry
  ·rw[aD q,aD q];exact r g
 ·by_cases q:g=f
  ·rw[q];exact(CA f y fs).1
  ·refine(CA f y fs).2 g (wi g λz=>hg ?_);show(if g=f then some u else mA g)=none;rw[aD q];exact z
theorem Inv.made(I:Inv X pins U H s):Inv X pins U (upd (upd H s.heap.objs.size (.own (s.heap.objs.size+1))) (s.heap.objs.size+1) (.ins C s.heap.objs.size []))
  { s with heap:=(s.heap.push PySem.W.emptyDict).push (PySem.W.instObj C s.heap.objs.size) }:=by
 have e1:(s.heap.push PySem.W.emptyDict).get? s.heap.objs.size=some PySem.W.emptyDict:=aB s.heap rfl;have e2:((s.heap.push PySem.W.emptyDict).push (PySem.W.instObj C s.heap.objs.size)).get? (s.heap.objs.size+1)=some (PySem.W.instObj C s.heap.objs.size):=by
  have:=aB (s.heap.push PySem.W.emptyDict) (o:=PySem.W.instObj C s.heap.objs.size) rfl
  rwa [eW] at this
 have e3:(s.heap.push PySem.W.emptyDict).Ns s.heap.objs.size (λ_=>none):=⟨PySem.W.emptyDict,#[],_,e1,rfl,(λe he=>absurd he (by simp)),λ_=>rfl⟩
 have I1:=I.laid (a:=s.heap.objs.size) (o:=.own (s.heap.objs.size+1)) (h':=s.heap.push PySem.W.emptyDict) (t':=s.toks) (λb u q=>aj _ q) (av _) ⟨_,e1⟩;refine I1.laid (a:=s.heap.objs.size+1) (o:=.ins C s.heap.objs.size []) (t':=s.toks) (λb u q=>aj _ q) (fy (eW _ _)) ?_;have ne:s.heap.objs.size≠s.heap.objs.size+1:=aK (lS _);refine⟨by rw[d8 ne,u4],cj _,ne,e2,λ_=>none,(Heap.Ns1.of_empty e3).at λo q=>aj _ q,λ_=>True.intro,λy hy=>absurd rfl hy⟩
theorem SY{prog:Program}{env:Env}(hb:attributeBase e f env (eval e env)=eval e env)(h:wpAny (model prog w) A (eval e env) (λo bU=>wpAny (model prog w) A (getAttr o f true) Q E bU) E s):wpAny (model prog w) A (eval (.Attribute e f pos) env) Q E s :=
 Attribute_any_ h (by rw[arm_eval_Attribute,hb])
end
def VY(K:PySem.W.Frag)(ta:TE)(f:Str):TE:=λU H Q=>ta U H λx H1=>∃a C dx fs v,x=.ref a/\H1 a=some (.ins C dx fs)/\jn K C/\B3 K C f/\fs.lookup f=some v/\Q v H1
def VN(K:PySem.W.Frag)(ta tv:TE)(f:Str):TS:=λD U H=>tv U H λy H1=>ta U H1 λx H2=>∃a C dx fs,x=.ref a/\H2 a=some (.ins C dx fs)/\jn K C/\B3 K C f/\fs.length<1000 /\
 D.nx U (upd H2 a (.ins C dx (A1 f y fs)))
section
variable{o value:Expr}{f:Str}{tv:TE}
theorem Rp(he:PE X e ta)(hb:attributeBase e f X.env (eval e X.env)=eval e X.env):PE X (.Attribute e f pos) (VY X.K ta f):=by
 intro pins s U H Q I h;refine SY hb (cU (he pins s U H _ I h) λu s1 bB=>?_);obtain⟨x,H1,I1,rx,a,C,dx,fs,v,ex,ea,c,n,l,q⟩:=bB;subst ex;obtain rfl:u=Value.ref a:=rx;exact ZH I1 ea c n l λu' s2 I2 ru=>⟨v,H1,I2,ru,q⟩
theorem RH(ha:PE X o ta)(hv:PE X value tv)(hs:swapsWith value (some (.Attribute o f pos')) pos.line X.env=pure false):PS X (.Assign [.Attribute o f pos'] value pos) (VN X.K ta tv f):=by
 intro pins s U H D I h;refine plainObj_wpAny_Assign_Attribute (cU (hv pins s U H _ I h) λu s1 ⟨y,H1,I1,ry,q⟩=>cU (ha pins s1 U H1 _ I1 q) λov s2 bB=>?_) hs;obtain⟨x,H2,I2,rx,a,C,dx,fs,ex,ea,c,n,l,q2⟩:=bB;subst ex;obtain rfl:ov=Value.ref a:=rx;exact ZX I2 ea c n l ry λs3 I3=>⟨U,_,I3,q2⟩
end
section
variable{c:Value}{b:Bool}
inductive hV(K:PySem.W.Frag)(H:Hp):V->Value->Prop where
 |bR:hV K H .bR (.type "NoneType")
 |bl (x:Bool):hV K H (.bl x) (.type "bool")
 |int (i:Int):hV K H (.int i) (.type "int")
 |str (x:Str):hV K H (.str x) (.type "str")
 |rC (x:UInt64):hV K H (.rC x) (.type "float")
 |lst {a:Addr} {xs:List V} (e:H a=some (.lst xs)):hV K H (.ref a) (.type "list")
 |jR {a:Addr} {o:Obj} {xs:List V} (e:H a=some (.jR o (.lst xs))):hV K H (.ref a) (.type "list")
 |tup {a:Addr} {xs:List V} (e:H a=some (.tup xs)):hV K H (.ref a) (.type "tuple")
 |dK {a:Addr} {kvs:List (Key×V)} (e:H a=some (.dK kvs)):hV K H (.ref a) (.type "dict")
 |dT {a:Addr} {kvs:List (List Key×V)} (e:H a=some (.dT kvs)):hV K H (.ref a) (.type "dict")
 |ins {a C dx:Addr} {fs:List (Str×V)} (e:H a=some (.ins C dx fs)) (cl:jn K C) (ha:PySem.W.findIn K (.ref C) "__class__"=some (some (.builtin "object.__class__")))
   (hn:PySem.W.specialIn K (.builtin "object.__class__") "__get__"=some (some (.builtin "getset_descriptor.__get__"))) (ve:PySem.W.takesIn K (.builtin "object.__class__")=some true)
   (hm:PySem.W.mroIn K C (.type "object")=some true):hV K H (.ref a) (.ref C)
theorem YR{x:V}{t:Value}(I:Inv X pins U H s)(rx:RelV x u)(ty:hV X.K H x t)(e:PySem.W.kitOne X.K t c=some b)(h:∀tk,Q (.bool b) { s with toks:=tk }) :
  wpAny (model X.prog X.w) A (call (.builtin "isinstance") [u,c]) Q E s:=by
 cases ty with
 |bR=>cases (show u=Value.none from rx);exact bX PySem.W.kitx_none I.hX True.intro e (λz=>nomatch z) h
 |bl y=>cases (show u=Value.bool y from rx);exact bX PySem.W.kitx_bool I.hX True.intro e (λz=>nomatch z) h
 |int i=>obtain⟨t,q⟩:=(show ∃t,u=Value.int i t from rx);cases q;exact bX PySem.W.kitx_int I.hX True.intro e (λz=>nomatch z) h
 |str y=>obtain⟨t,q⟩:=(show ∃t,u=Value.str y t from rx);cases q;exact bX PySem.W.kitx_str I.hX True.intro e (λz=>nomatch z) h
 |rC y=>obtain⟨t,q⟩:=(show ∃t,u=Value.float y t from rx);cases q;exact bX PySem.W.kitx_float I.hX True.intro e (λz=>nomatch z) h
 |@lst a xs ea =>
  cases (show u=Value.ref a from rx);obtain⟨_,_,n,_,h1⟩:=(show n6 X.prog X.w H s.heap a (.lst xs) from I.cu a _ ea)
  exact bX PySem.W.kitx_list I.hX ⟨_,h1,rfl⟩ e (λz=>nomatch z) h
 |@jR a ob xs ea =>
  cases (show u=Value.ref a from rx);obtain⟨_,_,_,n,_,h1⟩:=(show n6 X.prog X.w H s.heap a (.jR ob (.lst xs)) from I.cu a _ ea)
  exact bX PySem.W.kitx_list I.hX ⟨_,h1,rfl⟩ e (λz=>nomatch z) h
 |@tup a xs ea =>
  cases (show u=Value.ref a from rx);obtain⟨_,_,_,p⟩:=(show n6 X.prog X.w H s.heap a (.tup xs) from I.cu a _ ea)
  obtain⟨o,h1,h2,_⟩:=p;exact bX LH I.hX ⟨o,h1,h2⟩ e (λz=>nomatch z) h
 |@dK a kvs ea =>
  cases (show u=Value.ref a from rx);obtain⟨_,_,vs,_,p⟩:=(show n6 X.prog X.w H s.heap a (.dK kvs) from I.cu a _ ea)
  obtain⟨o,es,ep,h1,h2,_⟩:=p;exact bX PySem.W.kitx_dict I.hX ⟨o,h1,h2.1⟩ e (λz=>nomatch z) h
 |@dT a kvs ea =>
  cases (show u=Value.ref a from rx);obtain⟨_,_,xs,_,o,es,ep,h1,h2,_⟩:=(show n6 X.prog X.w H s.heap a (.dT kvs) from I.cu a _ ea)
  exact bX PySem.W.kitx_dict I.hX ⟨o,h1,h2.1⟩ e (λz=>nomatch z) h
 |@ins a C dx fs ea cl ha hn ve hm =>
  cases (show u=Value.ref a from rx);obtain⟨mA,O,_⟩:=BW I.cu ea;obtain⟨od,J,_⟩:=O.look;exact bX (PySem.W.kitx_own (cl.get _) cl.hd ha hn ve hm) I.hX J e (λz=>nomatch z) h
end
structure v7(k:Nat)(A:Around):Prop where
 hd:A.handled=none
 dp:A.depth+3*k+5<recursionLimit
 un:A.units+16*k+200<cLine
theorem v7.mono{j:Nat}(r:v7 k A)(h:j<=k):v7 j A:=⟨r.hd,by have:=r.dp;omega,by have:=r.un;omega⟩
theorem v7.deeper{k:Nat}{A:Around}(r:v7 (k+1) A)(env:Env):v7 k (A.deeper env) :=
 ⟨r.hd,by have:=r.dp;show A.depth+1+3*k+5<_;omega,by have:=r.un;show A.units+3+16*k+200<_;omega⟩
theorem ZM{kw:List (Str×Value)}:(A.under (.builtin "type.__call__" ⟨.ref C::us,kw⟩)).depth=A.depth+1:=by
 rfl
theorem ZN{kw:List (Str×Value)}:(A.under (.builtin "type.__call__" ⟨.ref C::us,kw⟩)).units=A.units+1:=by
 rfl
theorem v7.make(r:v7 (k+1) A)(C:Addr)(us:List Value)(kw:List (Str×Value)):v7 k (A.under (.builtin "type.__call__" ⟨.ref C::us,kw⟩)) :=
 ⟨r.hd,by have:=r.dp;rw[ZM];omega,by have:=r.un;rw[ZN];omega⟩
theorem v7.depth{k:Nat}{A:Around}(r:v7 k A):A.depth<recursionLimit:=by have:=r.dp;omega
def CQ:TA:=λ_ H Q=>Q [] H
def PU(ta:TE)(tr:TA):TA:=λU H Q=>ta U H λx H1=>tr U H1 λxs H2=>Q (x::xs) H2
theorem V3:PA X [] CQ:=λ_ _ _ _ H Q I h=>Calls.spliced_nil ⟨[],H,I,.nil,h⟩
theorem Q3(ha:PE X e te)(hr:PA X es t)(hs:starEach (e::es) X.env=(false,eval e X.env)::starEach es X.env:=by rfl):PA X (e::es) (PU te t):=by
 intro pos pins s U H Q I h;rw[hs];show wpAny _ _ (spliced ((false,eval e X.env)::backTo pos (starEach es X.env))) _ _ s;refine Calls.spliced_cons (cU (ha pins s U H _ I h) λu s1 bB=>?_);obtain⟨x,H1,I1,r1,q1⟩:=bB;exact cU (hr pos pins s1 U H1 _ I1 q1) λus s2 ⟨xs,H2,I2,r2,q2⟩=>⟨x::xs,H2,I2,.cons r1 r2,q2⟩
def Wf(t:TA):TE:=λU H Q=>t U H λxs H1=>xs.length<=sizeLine/\∀p,H1 p=none->Q (.ref p) (upd H1 p (.tup xs))
def Wa(t:TA):TE:=λU H Q=>t U H λxs H1=>xs.length<=sizeLine/\∀p,H1 p=none->Q (.ref p) (upd H1 p (.lst xs))
theorem Ry{x1}(h:PA X es t):PE X (.Tuple es x1 pos) (Wf t):=by
 intro pins s U H Q I hq;refine wpAny_Tuple_spliced (cU (h pos pins s U H _ I hq) λus s1 ⟨xs,H1,I1,r,z,q⟩=>⟨by rw[<- r.length];exact z,?_⟩);have hf:H1 s1.heap.objs.size=none:=I1.cu.fresh (av _);refine⟨.ref s1.heap.objs.size,upd H1 s1.heap.objs.size (.tup xs),I1.laid (t':=s1.toks) (λb u e=>aj _ e) (av _) ?_,rfl,q _ hf⟩;exact⟨z,us,r,⟨_,aB _ rfl,rfl,⟨_,rfl⟩,rfl⟩⟩
theorem Rt(h:PA X es t):PE X (.List es pos) (Wa t):=by
 intro pins s U H Q I hq;refine wpAny_List_spliced (cU (h pos pins s U H _ I hq) λus s1 ⟨xs,H1,I1,r,z,q⟩=>⟨by rw[<- r.length];exact z,?_⟩);have hf:H1 s1.heap.objs.size=none:=I1.cu.fresh (av _);refine⟨.ref s1.heap.objs.size,upd H1 s1.heap.objs.size (.lst xs),I1.laid (t':=s1.toks) (λb u e=>aj _ e) (av _) ?_,rfl,q _ hf⟩;exact⟨z,us,0,r,aB _ rfl⟩
noncomputable abbrev Sp:=List V->Hp->VK->XK->Prop
noncomputable abbrev nT:=List Env->Hp->Shared->XK->Value->Shared->Prop
structure rK(P:Program)(w:World)(K:PySem.W.Frag)(mg:Str->Option Value)(base:Heap)(A:Around)(outer:List Env)(s:Shared)(H:Hp):Prop where
 frames:A.frames=some outer
 mod:Mod K mg base
 bs:∀b o,base.get? b=some o->s.heap.get? b=some o/\H b=none
 pV:base.objs.size<=s.heap.objs.size
 O2:s.heap.FunFrames base outer
 rB:∀b∈iS outer,H b=none
 cu:gH P w H s.heap
 bare:AllBare s.gens
def CE(outer:List Env)(P:Program)(w:World)(H:Hp)(s:Shared)(Q:VK)(u:Value)(s':Shared):Prop :=
 ∃v H',s'.os=s.os/\AllBare s'.gens/\Un (iS outer) [] H H' s.heap s'.heap/\gH P w H' s'.heap/\RelV v u/\Q v H'
def CR(CX:nT)(outer:List Env)(P:Program)(w:World)(H:Hp)(s:Shared)(Q:VK)(E:XK)(r:Result)(s':Shared):Prop :=
 match r with
 |.ok (.ret u)=>CE outer P w H s Q u s'
 |.ok _=>False
 |.error e=>CX outer H s E e s'
structure ir(P:Program)(w:World)(K:PySem.W.Frag)(mg:Str->Option Value)(base:Heap)(CX:nT)(k:Nat)(f:Addr)(fd:FuncData)(ps:List Str)(sp:Sp):Prop where
 len:∀vs H Q E,sp vs H Q E->vs.length=ps.length
 run:∀(A:Around) (outer:List Env) (s:Shared) (H:Hp) (args:Args) (us:List Value) (vs:List V) (Q:VK) (E:XK),v7 k A->rK P w K mg base A outer s H->BindsTo s fd args (ps.zip us)->Vals vs us->sp vs H Q E ->
  codeAny (model P w) A (.call (.ref f) args) (CR CX outer P w H s Q E) s
theorem rK.make{mg:Str->Option Value}{outer:List Env}(e:rK P w K mg base A outer s H)(C:Addr)(us:List Value)(kw:List (Str×Value)) :
  rK P w K mg base (A.under (.builtin "type.__call__" ⟨.ref C::us,kw⟩)) outer s H:=⟨by first|exact e.frames|(simpa[Around.under,Code.envs,Code.isFrame,pushEnvs] using e.frames),e.mod,e.bs,e.pV,e.O2,e.rB,e.cu,e.bare⟩
section
variable{s':Shared}
theorem Inv.Hb(I:Inv X pins U H s):rK X.prog X.w X.K X.mg X.base X.A X.stack s H :=
 ⟨I.ok.frames,I.ok.mod,I.bs,aC I.ok.pV I.sz,I.stack,I.Cf,I.cu,I.bare⟩
theorem Inv.after{Q:VK}(I:Inv X pins U H s)(h:CE X.stack X.prog X.w H s Q u s'):EP X pins U Q u s':=by
 obtain⟨v,H',os,bare,un,cu,r,q⟩:=h;obtain⟨hh,g,d,t,qv⟩:=s';obtain rfl:qv=s.os:=os;exact⟨v,H',I.call (h':=hh) (g':=g) (d':=d) (t':=t) (ch:=[]) un cu bare (λb z=>absurd z (by simp)),r,q⟩
end
def Lm(sp:Sp)(jS:List V)(E:XK)(t:TA):TE:=λU H Q=>t U H λvs H1=>sp (vs++jS) H1 Q E
def Ln(C:Addr)(sp:Sp)(jS:List V)(E:XK)(t:TA):TE:=λU H Q=>t U H λvs H1=>∀x dx,H1 x=none->H1 dx=none->dx≠x ->
 sp (.ref x::(vs++jS)) (upd (upd H1 dx (.own x)) x (.ins C dx [])) (λv H2=>v=.bR/\Q (.ref x) H2) E
def Binds(K:PySem.W.Frag)(fd:FuncData)(ps:List Str)(ds:List Value):Prop :=
 ∀(s:Shared) (us:List Value),K.In s.heap->(us++ds).length=ps.length->BindsTo s fd ⟨us,[]⟩ (ps.zip (us++ds))
theorem Binds.all(h:∀us:List Value,us.length=ps.length->bindArgs fd ⟨us,[]⟩=pure (ps.zip us)):Binds K fd ps []:=λs us _ hl=>by
 rw[dg] at hl ⊢;exact .of_eq (h us hl)
def Passes(CX:nT)(X:Cx)(E:XK):Prop:=∀(pins:List (Addr×Obj)) (U:St) (H:Hp) (s:Shared) (e:Value) (s':Shared),Inv X pins U H s->CX X.stack H s E e s'->X.xe e s'
section
variable{jS:List V}{ds:List Value}{E:XK}
theorem JG{Q:VK}(F:ir X.prog X.w X.K X.mg X.base CX k f fd ps sp)(hr:v7 k X.A)(hb:Binds X.K fd ps ds)(hd:Vals jS ds)(hx:Passes CX X E)(I:Inv X pins U H s)(r:Vals vs us)(h:sp (vs++jS) H Q E):wpAny (model X.prog X.w) X.A (call (.ref f) us) (EP X pins U Q) X.xe s:=by
 have r2:Vals (vs++jS) (us++ds):=r.append hd;have hl:(us++ds).length=ps.length:=by rw[<- r2.length];exact F.len _ _ _ _ h
 refine wpAny_call (gX (F.run X.A X.stack s H ⟨us,[]⟩ (us++ds) (vs++jS) Q E hr I.Hb (hb s us I.hX hl) r2 h) λr s' hq=>?_);cases r with
 |error e=>exact hx pins U H s e s' I hq
 |ok fl =>
  cases fl with
  |ret u=>exact I.after hq
  |next=>exact False.elim hq
  |brk=>exact False.elim hq
  |cont=>exact False.elim hq
theorem TR(F:ir X.prog X.w X.K X.mg X.base CX k f fd ps sp)(hr:v7 k X.A)(hg:Gl X x)(hm:X.mg x=some (.ref f))(hk:PySem.W.keepIn X.K (.ref f)=true)(hb:Binds X.K fd ps ds)(hd:Vals jS ds)(hx:Passes CX X E)(ha:PA X (e::es) t)(hZ:(x==("__debug__":Str))=false:=by decide)(he:starEach (e::es) X.env=(false,eval e X.env)::starEach es X.env:=by rfl)(gF:(backTo pos (starEach es X.env)).any (·.1)=false:=by rfl) :
  PE X (.Call (.Name x p) (e::es) [] pos) (Lm sp jS E t):=by
 intro pins s U H Q I h;refine cS (V8 I hg hm ?_ hZ);refine LJ (h₀:=X.base) I.ok.mod.qz hk (cU (ha pos pins s U H _ I h) λus s1 ⟨vs,H1,I1,r,q⟩=>⟨I1.hX,?_⟩) he gF;exact JG F hr hb hd hx I1 r q
theorem a32(F:ir X.prog X.w X.K X.mg X.base CX k f fd ps sp)(hr:v7 k X.A)(hg:Gl X x)(hm:X.mg x=some (.ref f))(hk:PySem.W.keepIn X.K (.ref f)=true)(hb:Binds X.K fd ps ds)(hd:Vals jS ds)(hx:Passes CX X E)(hZ:(x==("__debug__":Str))=false:=by decide):PE X (.Call (.Name x p) [] [] pos) (Lm sp jS E CQ):=by
 intro pins s U H Q I h;refine cS (V8 I hg hm ?_ hZ);exact Er I.hX hk (JG (us:=[]) F hr hb hd hx I .nil h)
structure Mk(K:PySem.W.Frag)(C f:Addr):Prop where
 makes:PySem.W.makesIn K C=true
 init:PySem.W.findIn K (.ref C) "__init__"=some (some (.ref f))
 fn:PySem.W.isFn K (.ref f)=true
 kp:PySem.W.keepIn K (.ref C)=true
theorem HC{Q:VK}(M:Mk X.K C f)(F:ir X.prog X.w X.K X.mg X.base CX k f fd ps sp)(hr:v7 (k+1) X.A)(hb:Binds X.K fd ps ds)(hd:Vals jS ds)(hx:Passes CX X E)(I:Inv X pins U H s)(r:Vals vs us)(h:∀x dx,H x=none->H dx=none->dx≠x->sp (.ref x::(vs++jS)) (upd (upd H dx (.own x)) x (.ins C dx [])) (λv H2=>v=.bR/\Q (.ref x) H2) E) :
  wpAny (model X.prog X.w) X.A (call (.ref C) us) (EP X pins U Q) X.xe s:=by
 have hq:=h (s.heap.objs.size+1) s.heap.objs.size (I.cu.fresh (cI _)) (I.cu.fresh (av _)) (aK (lS _));have I2:=Inv.made (C:=C) I;have r2:Vals (V.ref (s.heap.objs.size+1)::(vs++jS)) (Value.ref (s.heap.objs.size+1)::(us++ds)):=.cons rfl (r.append hd);have hl:(Value.ref (s.heap.objs.size+1)::us++ds).length=ps.length:=by
  have e:=r2.length;rw[F.len _ _ _ _ hq] at e;exact e.symm
 refine wpAny_call (a37 (f:=f) I.hX M.makes M.init (br.mp M.fn) (gX (F.run _ X.stack _ _ ⟨Value.ref (s.heap.objs.size + 1) :: us,[]⟩ (Value.ref (s.heap.objs.size + 1) :: (us ++ ds)) _ _ E (hr.make C us [])
  (I2.Hb.make C us []) (hb _ (Value.ref (s.heap.objs.size + 1) :: us) I2.hX hl) r2 hq) λr s' nv=>?_))
 cases r with
 |error e=>exact hx pins U _ _ e s' I2 nv
 |ok fl =>
  cases fl with
  |ret u =>
   obtain⟨v,H',I3,rv,ev,q3⟩:=I2.after nv;subst ev;exact⟨rv,⟨V.ref (s.heap.objs.size+1),H',I3,rfl,q3⟩⟩
  |next=>exact False.elim nv
  |brk=>exact False.elim nv
  |cont=>exact False.elim nv
theorem TV(M:Mk X.K C f)(F:ir X.prog X.w X.K X.mg X.base CX k f fd ps sp)(hr:v7 (k+1) X.A)(hg:Gl X x)(hm:X.mg x=some (.ref C))(hb:Binds X.K fd ps ds)(hd:Vals jS ds)(hx:Passes CX X E)(ha:PA X (e::es) t)(hZ:(x==("__debug__":Str))=false:=by decide)(he:starEach (e::es) X.env=(false,eval e X.env)::starEach es X.env:=by rfl)(gF:(backTo pos (starEach es X.env)).any (·.1)=false:=by rfl) :
  PE X (.Call (.Name x p) (e::es) [] pos) (Ln C sp jS E t):=by
 intro pins s U H Q I h;refine cS (V8 I hg hm ?_ hZ);refine LJ (h₀:=X.base) I.ok.mod.qz M.kp (cU (ha pos pins s U H _ I h) λus s1 ⟨vs,H1,I1,r,q⟩=>⟨I1.hX,?_⟩) he gF;exact HC M F hr hb hd hx I1 r q
theorem a28(M:Mk X.K C f)(F:ir X.prog X.w X.K X.mg X.base CX k f fd ps sp)(hr:v7 (k+1) X.A)(hg:Gl X x)(hm:X.mg x=some (.ref C))(hb:Binds X.K fd ps ds)(hd:Vals jS ds)(hx:Passes CX X E)(hZ:(x==("__debug__":Str))=false:=by decide):PE X (.Call (.Name x p) [] [] pos) (Ln C sp jS E CQ):=by
 intro pins s U H Q I h;refine cS (V8 I hg hm ?_ hZ);exact Er I.hX M.kp (HC (us:=[]) M F hr hb hd hx I .nil h)
end
structure iU(N P:List Str)(sc:Scope):Prop where
 kind:sc.kind=.function
 co:sc.isCoroutine=false
 gen:sc.isGenerator=false
 nd:N.Nodup
 pre:N.take P.length=P
 par:∀x∈P,sc.names.lookup x=some .local\/sc.names.lookup x=some .cell
 ng:∀y∈sc.names,y.2≠.free
theorem HQ{kindOf:Str->Option NameKind}{x:Str}:∀{binds:List (Str×Value)} {m:Str->Option Value},(∀v,(x,v)∉binds)->bindL kindOf binds m x=m x
 |[],_,_=>rfl
 |(n,v)::r,m,h=>by
  unfold bindL;rw[HQ λw hw=>h w (bC _ hw)];split
  ·have:x≠n:=by rintro rfl;exact h v da
   simp[this]
  ·rfl
theorem HN{kindOf:Str->Option NameKind}{x:Str}:∀{binds:List (Str×Value)} {m:Str->Option Value},(∀v,(x,v)∉binds)->bindC kindOf binds m x=m x
 |[],_,_=>rfl
 |(n,v)::r,m,h=>by
  unfold bindC;rw[HN λw hw=>h w (bC _ hw)];split
  ·rfl
  ·have:x≠n:=by rintro rfl;exact h v da
   simp[this]
theorem HP{kindOf:Str->Option NameKind}{x:Str}{v:Value}:∀{P:List Str} {vs:List Value} {i:Nat} {m:Str->Option Value},P.Nodup->P[i]?=some x->vs[i]?=some v->kindOf x=some .local ->
  bindL kindOf (P.zip vs) m x=some v
 |[],_,_,_,_,h,_,_=>by simp at h
 |_::_,[],_,_,_,_,h,_=>by simp at h
 |p::P,w::vs,0,m,nd,h1,h2,hk=>by
  simp at h1 h2;subst h1;subst h2;show bindL kindOf ((p,w)::P.zip vs) m p=_;unfold bindL;rw[HQ λv hv=>(dW.mp nd).1 (mS hv).1,aJ hk];simp
 |p::P,w::vs,i+1,m,nd,h1,h2,hk=>by
  unfold bindL;exact HP (i:=i) (dW.mp nd).2 (by simpa using h1) (by simpa using h2) hk
theorem HM{kindOf:Str->Option NameKind}{x:Str}{v:Value}:∀{P:List Str} {vs:List Value} {i:Nat} {m:Str->Option Value},P.Nodup->P[i]?=some x->vs[i]?=some v->kindOf x≠some .local ->
  bindC kindOf (P.zip vs) m x=some v
 |[],_,_,_,_,h,_,_=>by simp at h
 |_::_,[],_,_,_,_,h,_=>by simp at h
 |p::P,w::vs,0,m,nd,h1,h2,hk=>by
  simp at h1 h2;subst h1;subst h2;show bindC kindOf ((p,w)::P.zip vs) m p=_;unfold bindC;rw[HN λv hv=>(dW.mp nd).1 (mS hv).1,aD hk];simp
 |p::P,w::vs,i+1,m,nd,h1,h2,hk=>by
  unfold bindC;exact HM (i:=i) (dW.mp nd).2 (by simpa using h1) (by simpa using h2) hk
def start(N:List Str)(vs:List V):St:=vs.map some++List.replicate (N.length-vs.length) none
def rL(CX:nT)(P:Program)(w:World)(K:PySem.W.Frag)(mg:Str->Option Value)(base:Heap)(N:List Str)(qual:Str)(scope:Scope)(f:Addr)(cd:Value)(A:Around)(outer:List Env)(s:Shared)(H:Hp)(E:XK):Cx where
 prog:=P
 w:=w
 K:=K
 mg:=mg
 base:=base
 A:=A.deeper (envOfC qual scope s.heap.objs.size f cd)
 N:=N
 dJ:=s
 lq:=H
 env:=envOfC qual scope s.heap.objs.size f cd
 outer:=outer
 stack:=envOfC qual scope s.heap.objs.size f cd::outer
 ex:=[]
 calm:=true
 fn:=λ_=>true
 pn:=[]
 xe:=λe s'=>wpAny (model P w) (A.deeper (envOfC qual scope s.heap.objs.size f cd)) (leaving (envOfC qual scope s.heap.objs.size f cd) e) (λ_ uz=>CX outer H s E e uz) (λe' uz=>CX outer H s E e' uz) s'
theorem Ci{sc:Scope}{n:Nat}(h:sc.names.lookup x=some .cell):∃c,(cellsFrom n sc.names []).lookup x=some c:=by
 have q:=dO sc.names n [] (.inl h);exact eU.mp q
theorem YQ{mg:Str->Option Value}{qual:Str}{scope:Scope}{cd:Value}{outer:List Env}{s1:Shared}{E:XK}(S:iU N ps scope)(hd:A.handled=none)(e0:rK P w K mg base A outer s H)(hl:vs.length=ps.length)(r:Vals vs us)(x:InCallC s s.heap.objs.size (bindL (envOfC qual scope s.heap.objs.size f cd).kindOf (ps.zip us) λ_=>none) (cellsFrom (s.heap.objs.size+1) scope.names []) (bindC (envOfC qual scope s.heap.objs.size f cd).kindOf (ps.zip us) λ_=>none) s1) :
  Inv (rL CX P w K mg base N qual scope f cd A outer s H E) [] (start N vs) H s1:=by
 have gF:ps.length<=N.length:=by have:=ie List.length S.pre;grind
 obtain⟨h1,tk,rfl,hk⟩:=x.done;have uI:∀b:Addr,b∉(rL CX P w K mg base N qual scope f cd A outer s H E).ex:=λb z=>absurd (show b∈([]:List Addr) from z) (by simp);refine ⟨⟨e0.mod,S.kind,rfl,rfl,av _,λy z c h1 h2=>?_,λy hy=>?_,λy c _ h=>?_,λ_=>hd,Around.frames_deeper e0.frames,.inr ⟨rfl,rfl⟩,λb z=>absurd z (uI b),e0.bs,e0.pV,λb _ _=>uI b,λb z=>absurd z (uI b),e0.O2,e0.rB⟩,
  rfl,e0.bare,Un.kept hk,⟨_,x.toInCall.ns,λi y v h1 h2 h3=>?_⟩,λy c h=>⟨_,x.cell y c h⟩,e0.cu.fresh (av _),λy c h=>?_,λp hp=>absurd (show p ∈ ([]:List (Addr × Obj)) from hp) (by simp),e0.cu.kept hk,?_,λjC z=>absurd (show (none:Option (List (Option V)))=some jC from z) (by simp)⟩
 ·exact name_of_addr x.apart (aS h1) (aS h2)
 ·rcases hy with hy|hy
  ·exact Ci hy
  ·exact absurd rfl (S.ng _ (aS hy))
 ·exact eG (x.above y c (aS h))
 ·have hi:i<vs.length:=by
   unfold start at h2;by_cases hi:i<vs.length
   ·exact hi
   ·rw[cF (by simpa using hi)] at h2;rw[fi] at h2
    simp_all
  have ha:vs[i]?=some v:=by
   unfold start at h2;rw[aL (by simpa using hi),ag] at h2;cases e:vs[i]? with
   |none=>rw[e] at h2;cases h2
   |some a=>rw[e] at h2;cases h2;rfl
  obtain⟨u,hu,rv⟩:=r.get ha;have hp:ps[i]?=some y:=by
   rw[<- S.pre,eV ()];exact h1
  have Fc:ps.Nodup:=by rw[<- S.pre];exact S.nd.sublist (kM _ _)
  refine⟨u,rv,?_⟩;rcases S.par y (aF hp) with k|k
  ·exact .inl ⟨k,HP Fc hp hu k⟩
  ·obtain⟨c,e⟩:=Ci (n:=s.heap.objs.size+1) k;refine .inr ⟨.inl k,c,e,?_⟩;have q:=x.cell y c e;rw[HM Fc hp hu (by show scope.names.lookup y≠_;rw[k];decide)] at q;exact q
 ·exact e0.cu.fresh (eG (x.above y c (aS h)))
 ·unfold start;show _=N.length
  simp_all
theorem WK{mg:Str->Option Value}{name qual:Str}{params:Arguments}{scope:Scope}{dV kV doc pm fW ct oc:Value}{an od:Option Addr}{mK:Array (Option Value)}(lk:K.lookup f=some ⟨oc,od,.func (PySem.W.fnOf name qual params body scope dV kV doc pm an fW ct),mK⟩)(mq:PySem.W.codeIn K fW qual=true)(S:iU N ps scope)(len:∀vs H Q E,sp vs H Q E->vs.length=ps.length)(vp:∀ (A:Around) (outer:List Env) (s:Shared) (H:Hp) (vs:List V) (Q:VK) (E:XK),v7 k (A.deeper (envOfC qual scope s.heap.objs.size f fW))->sp vs H Q E ->
   ∃ t,jU (rL CX P w K mg base N qual scope f fW A outer s H E) body t/\t { nx:=λ_ H'=>Q .bR H',rt:=Q } (start N vs) H) :
  ir P w K mg base CX (k+1) f (PySem.W.fnOf name qual params body scope dV kV doc pm an fW ct) ps sp:=by
 refine⟨len,λA outer s H args us vs Q E hr e0 hb r sG=>?_⟩;have hl:=len _ _ _ _ sG;have KX:K.In s.heap:=e0.mod.qz.keeps λb o e=>(e0.bs b o e).1;have lim:s.heap.NoLimit:=e0.mod.nolimit.keeps λb o e=>(e0.bs b o e).1;have vj:∀y∈ps.zip us,scope.names.lookup y.1=some .local\/(scope.names.lookup y.1=some .cell/\((cellsFrom (s.heap.objs.size+1) scope.names []).lookup y.1).isSome=true):=λ⟨n,v⟩ hy=>by
  rcases S.par n (mS hy).1 with q|q
  ·exact .inl q
  ·exact .inr ⟨q,dO _ _ _ (.inl q)⟩
 refine codeAny_call_function hr.depth (KX _ _ lk) rfl S.co S.gen rfl (PySem.W.codeRec_of KX mq) (hb _ _ _ _ ?_);refine wpAny_newFunctionEnv_cells S.kind vj λenv he s1 x=>?_;subst he;refine⟨lim.keeps x.toInCall.keep,codeAny_func ?_⟩;obtain⟨t,ht,hq⟩:=vp A outer s H vs Q E (hr.deeper _) sG;have I:Inv (rL CX P w K mg base N qual scope f fW A outer s H E) [] (start N vs) H s1:=YQ S hr.hd e0 hl r x;refine bJ (ht [] s1 (start N vs) H _ I hq) (λfl s' hs=>?_) λe s' hs=>hs;have fin:∀{cc:St} {H':Hp} {v:V} {u:Value},Inv (rL CX P w K mg base N qual scope f fW A outer s H E) [] cc H' s'->RelV v u->Q v H'->CE outer P w H s Q u s' :=
  λ{cc H' v u} J rv q=>⟨v,H',J.os,J.bare,J.base,J.cu,rv,q⟩
 cases fl with
 |ret u =>
  obtain⟨v,cc,H',J,rv,q⟩:=hs;exact fin J rv q
 |next =>
  obtain⟨cc,H',J,q⟩:=hs;exact fin (v:=V.bR) (u:=Value.none) J rfl q
 |brk =>
  obtain⟨_,_,_,q⟩:=hs
  simp_all
 |cont =>
  obtain⟨_,_,_,q⟩:=hs
  simp_all
section
variable{id T:String}{r:List V->Hp->VK->Prop}
def zt(r:List V->Hp->VK->Prop)(t:TA):TE:=λU H Q=>t U H λvs H1=>r vs H1 Q
theorem X8(hc:l6 X (.builtin id) r)(hg:Gl X x)(hm:X.mg x=none)(hv:bootBuiltins x=some (.builtin id))(ha:PA X (e::es) t)(hn:x≠"__name__":=by decide)(hZ:(x==("__debug__":Str))=false:=by decide)(he:starEach (e::es) X.env=(false,eval e X.env)::starEach es X.env:=by rfl)(gF:(backTo pos (starEach es X.env)).any (·.1)=false:=by rfl):PE X (.Call (.Name x p) (e::es) [] pos) (zt r t):=by
 intro pins s U H Q I h;refine cS (K7 I hg hm hv ?_ hn hZ);exact PyProof.Rows.callWith_builtin1 (cU (ha pos pins s U H _ I h) λus s1 ⟨vs,H1,I1,r1,q1⟩=>hc pins s1 U H1 vs us Q I1 r1 q1) he gF
theorem N4(hc:l6 X (.type T) r)(hg:Gl X x)(hm:X.mg x=none)(hv:bootBuiltins x=some (.type T))(ha:PA X (e::es) t)(hn:x≠"__name__":=by decide)(hZ:(x==("__debug__":Str))=false:=by decide)(he:starEach (e::es) X.env=(false,eval e X.env)::starEach es X.env:=by rfl)(gF:(backTo pos (starEach es X.env)).any (·.1)=false:=by rfl):PE X (.Call (.Name x p) (e::es) [] pos) (zt r t):=by
 intro pins s U H Q I h;refine cS (K7 I hg hm hv ?_ hn hZ);exact bN (cU (ha pos pins s U H _ I h) λus s1 ⟨vs,H1,I1,r1,q1⟩=>hc pins s1 U H1 vs us Q I1 r1 q1) he gF
end
end L2
namespace HT
open PySem PyProof.Rows
def jM(n d:Nat):Option Int->Nat
 |none=>d
 |some v=>if v<0 then(v+(n:Int)).toNat else min v.toNat n
end HT
namespace L2
open PySem PySem.Spec PyProof.Rows
variable{X:Cx}{e:Expr}{pos:Pos}{n t':Nat}{a:Addr}{pins:List (Addr×Obj)}{U:St}{H H':Hp}{s:Shared}{bt:List Value}{o:Option V}{w:World}{A:Around}{E:Value->Shared->Prop}{u:Value}{kvs:List (List Key×V)}{y:V}{P:Program}
noncomputable abbrev TO:=St->Hp->(Option Int->Hp->Prop)->Prop
def PO(X:Cx)(e:Option Expr)(t:TO):Prop :=
 ∀(pins:List (Addr×Obj)) (s:Shared) (U:St) (H:Hp) (Q:Option Int->Hp->Prop),Inv X pins U H s->t U H Q ->
  wpAny (model X.prog X.w) X.A (evalPart e X.env) (λu s'=>∃o H',Inv X pins U H' s'/\IsPart u o/\Q o H') X.xe s
def UN:TO:=λ_ H Q=>Q none H
def PY(t:TE):TO:=λU H Q=>t U H λx H1=>∃i,x=.int i/\Q (some i) H1
section
variable{te:TE}{lo hi:Option Expr}{tl th:TO}{p2:Pos}
theorem Kd:PO X none UN:=by
 intro pins s U H Q I h;exact ao ⟨none,H,I,.none,h⟩
theorem Ke(h:PE X e te):PO X (some e) (PY te):=by
 intro pins s U H Q I hw;refine cU (h pins s U H _ I hw) λu s1 bB=>?_;obtain⟨x,H1,I1,r1,q1⟩:=bB;obtain⟨i,rfl,q⟩:=q1;obtain⟨t,rfl⟩:=r1;exact⟨some i,H1,I1,.int i t,q⟩
def Eg(X:Cx)(r:V->Option Int->Option Int->Hp->VK->Prop):Prop :=
 ∀(pins:List (Addr×Obj)) (s:Shared) (U:St) (H:Hp) (x:V) (v vl vu:Value) (lo hi:Option Int) (sl:Addr) (Q:VK),Inv X pins U H s->RelV x v->s.heap.IsSliceOf sl vl vu .none->IsPart vl lo->IsPart vu hi->r x lo hi H Q ->
  ∃T id,typeLookup (.type T) "__getitem__"=pure (some (.builtin id))/\s.TypeIs v T/\wpAny (model X.prog X.w) X.A (getItem v (.ref sl)) (EP X pins U Q) X.xe s
def Md(r:V->Option Int->Option Int->Hp->VK->Prop)(te:TE)(tl th:TO):TE:=λU H Q=>te U H λx H1=>tl U H1 λl H2=>th U H2 λu H3=>r x l u H3 Q
theorem Hy{r:V->Option Int->Option Int->Hp->VK->Prop}(hr:Eg X r)(he:PE X e te)(hl:PO X lo tl)(hu:PO X hi th):PE X (.Subscript e (.Slice lo hi none p2) pos) (Md r te tl th):=by
 intro pins s U H Q I h;refine Subscript_ (cU (he pins s U H _ I h) λv s1 bB=>?_);obtain⟨x,H1,I1,r1,q1⟩:=bB;refine wpAny_Slice (cU (hl pins s1 U H1 _ I1 q1) λvl s2 ⟨l,H2,I2,pl,q2⟩=>cU (hu pins s2 U H2 _ I2 q2) λvu s3 bB=>?_);obtain⟨u,H3,I3,pu,q3⟩:=bB;refine ao ?_;have I4:Inv X pins U H3 { s3 with heap:=s3.heap.push { cls:=.type "slice",data:=.fields #[vl,vu,.none] } }:=I3.kept (t':=s3.toks) λb ob q=>aj _ q;obtain⟨T,id,hT,ht,hg⟩:=hr pins { s3 with heap:=s3.heap.push { cls:=.type "slice",data:=.fields #[vl,vu,.none] } } U H3 x v vl vu l u s3.heap.objs.size Q I4 r1 (Heap.IsSliceOf.new ..) pl pu q3;exact tail_any (ops:=[.ref s3.heap.objs.size,v]) ht hT hg (by rfl)
def tH(xs:List V)(lo hi:Option Int):List V:=(xs.drop (HT.jM xs.length 0 lo)).take (HT.jM xs.length xs.length hi-HT.jM xs.length 0 lo)
theorem aF8(xs:List V)(lo hi:Option Int):(tH xs lo hi).length<=xs.length:=by
 unfold tH;rw[cM,List.length_drop];omega
end
def kY(n:Nat)(i:Int):Option Nat:=if 0<=i then(if i<n then some i.toNat else none) else if -(n:Int)<=i then some (i+n).toNat else none
def gs{α:Type}(xs:List α)(i:Int):Option α:=(kY xs.length i).bind λj=>xs[j]?
theorem JW{i:Int}{j:Nat}(h:kY n i=some j):seqIndex? i n=some j/\j<n/\-(n:Int)<=i/\i<n:=by
 unfold kY at h;by_cases h0:0<=i
 ·rw[aJ h0] at h;by_cases h1:i<n
  ·rw[aJ h1] at h;have e:i.toNat=j:=aN h;exact⟨by rw[seqIndex_of h0 h1,e],by omega,by omega,h1⟩
  simp_all
 ·rw[aD h0] at h;by_cases h1:-(n:Int)<=i
  ·rw[aJ h1] at h;have e:(i+n).toNat=j:=aN h;exact⟨by rw[seqIndex_neg () h1,e],by omega,h1,by omega⟩
  simp_all
theorem JO{α:Type}{xs:List α}{i:Int}{v:α}(h:gs xs i=some v):∃j,seqIndex? i xs.length=some j/\xs[j]?=some v/\j<xs.length/\-(xs.length:Int)<=i/\i<xs.length:=by
 unfold gs at h;cases e:kY xs.length i with
 |none=>simp_all
 |some j =>
  rw[e] at h;obtain⟨h1,h2,h3,h4⟩:=JW e;exact⟨j,h1,h,h2,h3,h4⟩
theorem C1{α:Type}{xs:List α}{j:Nat}{v:α}(h:xs[j]?=some v):gs xs (j:Int)=some v:=by
 have hj:j<xs.length:=(au.mp h).1;have e:kY xs.length (j:Int)=some j:=by
  unfold kY
  simp_all
 unfold gs;rw[e];exact h
def BK(b:Expr):Prop:=∀o i,subscripted b false o i=operate [o,i] (getItem o i)
def tU(X:Cx)(r:R2):Prop :=
 ∀(value slice:Expr) (pins:List (Addr×Obj)) (s:Shared) (U:St) (H:Hp) (x y:V) (v u:Value) (Q:VK),Inv X pins U H s->RelV x v->RelV y u->r x y H Q ->
  subscripted slice false v u=operate [v,u] (getItem v u)->wpAny (model X.prog X.w) X.A (subscriptTail value slice v u) (EP X pins U Q) X.xe s
def nS(X:Cx)(id:String)(r:V->List V->Hp->VK->Prop):Prop :=
 ∀(pins:List (Addr×Obj)) (s:Shared) (U:St) (H:Hp) (x:V) (xs:List V) (v:Value) (us:List Value) (Q:VK),Inv X pins U H s->RelV x v->Vals xs us->r x xs H Q ->
  wpAny (model X.prog X.w) X.A (call (.builtin id) (v::us)) (EP X pins U Q) X.xe s
section
variable{a b:Expr}{ta tb:TE}
theorem Lb{r:R2}(hr:tU X r)(ha:PE X a ta)(hb:PE X b tb)(hs:BK b):PE X (.Subscript a b pos) (sk r ta tb):=by
 intro pins s U H Q I h;exact Subscript_ (DY ha hb I h λv u s2 x y H2 I2 rx ry q=>hr a b pins s2 U H2 x y v u Q I2 rx ry q (hs _ _))
def VH(K:PySem.W.Frag):R2:=λx y H Q=>∃p xs i v,x=.ref p/\y=.int i/\fS K H p xs/\gs xs i=some v/\Q v H
def VI(K:PySem.W.Frag):R2:=λx y H Q=>∃p xs i v,x=.ref p/\y=.int i/\jT K H p xs/\gs xs i=some v/\Q v H
theorem Tn:tU X (VH X.K):=by
 intro value slice pins s U H x y v u Q I rx ry h hs;obtain⟨p,xs,i,z,rfl,rfl,hq,he,q⟩:=h;cases rx;obtain⟨t,rfl⟩:=ry;obtain⟨bt,r,pl,hz⟩:=I.list hq;obtain⟨j,h1,h2,h3,h4,h5⟩:=JO he;obtain⟨w,ew,gp⟩:=r.get h2;have hl:=r.length;have hn:=yA;have fin:EP X pins U Q w s:=⟨z,H,I,gp,q⟩
 by_cases h0:0<=i
 ·have hj:i.toNat=j:=by
   rw[seqIndex_of h0 h5] at h1;exact aN h1
  exact item_listR pl.isList h0 () (by rw[hj];simpa using ew) fin hs
 ·have hj:(i+(bt.toArray.size:Int)).toNat=j:=by
   rw[seqIndex_neg () h4] at h1;rw[aZ,<- hl];exact aN h1
  exact subscriptTail_builtinR (x:=w) pl.isList.typeIs slot_list_getitem.lookup
   (wpAny_getItem_list_neg (Q:=λr s'=>r=w/\EP X pins U Q r s') pl.isList () (by rw[aZ]<;>omega) () (by rw[hj];simpa using ew) ⟨rfl,fin⟩) hs
theorem QC:tU X (VI X.K):=by
 intro value slice pins s U H x y v u Q I rx ry h hs;obtain⟨p,xs,i,z,rfl,rfl,hq,he,q⟩:=h;cases rx;obtain⟨t,rfl⟩:=ry;obtain⟨bt,r,pl,hz⟩:=I.tuple hq;obtain⟨j,h1,h2,h3,h4,h5⟩:=JO he;obtain⟨w,ew,gp⟩:=r.get h2;have hl:=r.length;have hn:=yA;have fin:EP X pins U Q w s:=⟨z,H,I,gp,q⟩
 exact subscriptTail_builtinR (x:=w) pl.typeIs slot_tuple_getitem.lookup
  (getItem_tuple (j:=j) (Q:=λr s'=>r=w/\EP X pins U Q r s') pl () () (by rw[aZ,<- hl];exact h1) (by simpa using ew) ⟨rfl,fin⟩) hs
theorem ZO(bt:List Value)(n j:Nat)(u:Value):Obj.mapSeq (·.setIfInBounds j u) { cls:=.type "list",data:=.seq bt.toArray n }={ cls:=.type "list",data:=.seq (bt.set j u).toArray n }:=by
 simp[Obj.mapSeq]
theorem Inv.lst{pins:List (Addr×Obj)}{U:St}{H:Hp}{s:Shared}{p:Addr}{xs:List V}(I:Inv X pins U H s)(h:H p=some (.lst xs)) :
  ∃(bt:List Value) (n:Nat),Vals xs bt/\s.heap.get? p=some { cls:=.type "list",data:=.seq bt.toArray n }/\xs.length<=sizeLine:=by
 obtain⟨z,bt,n,r,e⟩:=I.cu p _ h;exact⟨bt,n,r,e,z⟩
theorem Inv.QO{p:Addr}{xs ys:List V}{its':List Value}{n':Nat}{f:Obj->Obj}(I:Inv X pins U H s)(h:H p=some (.lst xs))(ho:s.heap.get? p=some { cls:=.type "list",data:=.seq bt.toArray n })(hf:f { cls:=.type "list",data:=.seq bt.toArray n }={ cls:=.type "list",data:=.seq its'.toArray n' })(r:Vals ys its')(hz:ys.length<=sizeLine)(t:Nat) :
  Inv X pins U (upd H p (.lst ys)) { s with heap:=s.heap.update p f,toks:=t }:=by
 have e:(s.heap.update p f).get? p=some { cls:=.type "list",data:=.seq its'.toArray n' }:=by
  rw[bw f ho (by rw[hf]<;>rfl),hf]
 refine I.write (x:=p) (e:=p) (by rw[h];trivial) (.inl rfl) (λb u hb q=>(et _ _ (cz hb)).trans q) ⟨_,e⟩ ?_;exact⟨hz,its',n',r,e⟩
def Py:V->V->V->Hp->(Hp->Prop)->Prop:=λo i v H Q=>∃p xs k j,o=.ref p/\i=.int k/\H p=some (.lst xs)/\kY xs.length k=some j/\Q (upd H p (.lst (xs.set j v)))
theorem set_list:DT X Py:=by
 intro pins s U H o i v ov iv u Q I ro ri rv h;obtain⟨p,xs,k,j,rfl,rfl,hp,hj,q⟩:=h;cases ro;obtain⟨t,rfl⟩:=ri;obtain⟨bt,n,r,ho,hz⟩:=I.lst hp;obtain⟨h1,h2,h3,h4⟩:=JW hj;have hl:=r.length;have hn:=yA;have I':Inv X pins U (upd H p (.lst (xs.set j v))) { s with heap:=s.heap.update p (Obj.mapSeq (·.setIfInBounds j u)) } :=
  I.QO hp ho (ZO bt n j u) (r.set rv j) (by rw[List.length_set];exact hz) s.toks
 by_cases h0:0<=k
 ·have hk:k.toNat=j:=by
   rw[seqIndex_of h0 h4] at h1;exact aN h1
  exact PySem.W.ki_setAt ho h0 () (by rw[aZ,<- hl];exact h4) (by rw[hk];exact⟨_,I',q⟩)
 ·have hk:(k+(bt.toArray.size:Int)).toNat=j:=by
   rw[seqIndex_neg () h3] at h1;rw[aZ,<- hl];exact aN h1
  exact PySem.W.ki_setBack ho () (by rw[aZ,<- hl];exact h3) () (by rw[hk];exact⟨_,I',q⟩)
theorem Xx(lo hi:Option Int)(n:Nat):(sliceBounds lo hi none n).1=((HT.jM n 0 lo:Nat):Int)/\(sliceBounds lo hi none n).2.1=((HT.jM n n hi:Nat):Int)/\(sliceBounds lo hi none n).2.2=1:=by
 refine⟨?_,?_,rfl⟩
 ·cases lo with
  |none=>rfl
  |some i =>
   simp only[sliceBounds,HT.jM,Option.getD_none,show(1:Int)>0 by decide,if_true]
   grind
 ·cases hi with
  |none=>rfl
  |some i =>
   simp only[sliceBounds,HT.jM,Option.getD_none,show(1:Int)>0 by decide,if_true]
   grind
theorem XH(bt:List Value)(lo hi:Option Int):slicePick bt.toArray lo hi none=((bt.drop (HT.jM bt.length 0 lo)).take (HT.jM bt.length bt.length hi-HT.jM bt.length 0 lo)).toArray:=by
 obtain⟨h1,h2,h3⟩:=Xx lo hi bt.toArray.size;unfold slicePick;rw[h1,h2,h3];simp only[sliceRange_one,pick_run,List.size_toArray]<;>rfl
def VL(K:PySem.W.Frag):V->Option Int->Option Int->Hp->VK->Prop:=λx lo hi H Q=>∃a xs,x=.ref a/\fS K H a xs/\∀p,H p=none->Q (.ref p) (upd H p (.lst (tH xs lo hi)))
theorem UH:Eg X (VL X.K):=by
 intro pins s U H x v vl vu lo hi sl Q I rx hs pl pu h;obtain⟨a,xs,rfl,hx,q⟩:=h;cases rx;obtain⟨bt,r,ht,hz⟩:=I.list hx;have hlen:=r.length;refine⟨"list",_,slot_list_getitem.lookup,ht.isList.typeIs,?_⟩;refine wpAny_getItem_list_slice ht.isList hs pl pu .none (by simp) ?_ (by grind);rw[XH,<- hlen];refine⟨.ref s.heap.objs.size,_,I.laid (t':=s.toks) (o:=.lst (tH xs lo hi)) (λb ob q=>aj _ q) (av _) ?_,rfl,q _ (I.cu.fresh (av _))⟩;exact⟨aC (aF8 xs lo hi) hz,_,0,(r.drop (HT.jM xs.length 0 lo)).take (HT.jM xs.length xs.length hi-HT.jM xs.length 0 lo),aB _ rfl⟩
def GJ:V->V->Bool
 |.bR,.bR=>true
 |.bl a,.bl b=>a==b
 |.bl a,.int b=>(if a then 1 else 0)==b
 |.int a,.bl b=>a==(if b then 1 else 0)
 |.int a,.int b=>a==b
 |.str a,.str b=>a==b
 |_,_=>false
theorem aD5:l6 X (.builtin "len") (λxs H Q=>∃p ys,xs=[.ref p]/\(fS X.K H p ys\/jT X.K H p ys)/\Q (.int ys.length) H):=by
 intro pins s U H xs us Q I r h;obtain⟨p,ys,rfl,hq,q⟩:=h;obtain⟨u,rfl,rx⟩:=vals1 r;cases rx;have hn:=yA;rcases hq with hq|hq
 ·obtain⟨bt,r',pl,hz⟩:=I.list hq;have hlen:=r'.length;exact Calls.call_len_list pl.isList (by simp only[List.size_toArray]<;>omega) ⟨.int ys.length,H,I.tok _,⟨s.toks+1,by rw[aZ,hlen]⟩,q⟩
 ·obtain⟨bt,r',pl,hz⟩:=I.tuple hq;have hlen:=r'.length;exact len_tuple pl (by simp only[List.size_toArray]<;>omega) ⟨.int ys.length,H,I.tok _,⟨s.toks+1,by rw[aZ,hlen]⟩,q⟩
theorem aD4:l6 X (.type "list") (λxs H Q=>∃p ys,xs=[.ref p]/\(fS X.K H p ys\/jT X.K H p ys)/\∀l,H l=none->Q (.ref l) (upd H l (.lst ys))):=by
 intro pins s U H xs us Q I r h;obtain⟨p,ys,rfl,hq,q⟩:=h;obtain⟨u,rfl,rx⟩:=vals1 r;cases rx;have fin:∀(bt:List Value),Vals ys bt->ys.length<=sizeLine->∀(h':Heap) (c':Nat),(∀b o',s.heap.get? b=some o'->h'.get? b=some o') ->
   h'.get? s.heap.objs.size=some { cls:=.type "list",dict:=none,data:=.seq bt.toArray c',slots:=#[] }->EP X pins U Q (.ref s.heap.objs.size) { s with heap:=h' }:=λbt r' hz h' c' kp e =>
  ⟨.ref s.heap.objs.size,_,I.laid (t':=s.toks) kp (av _) (show n6 X.prog X.w _ h' _ (.lst ys) from⟨hz,bt,c',r',e⟩),rfl,q _ (I.cu.fresh (av _))⟩
 rcases hq with hq|hq
 ·obtain⟨bt,r',pl,hz⟩:=I.list hq;have hlen:=r'.length;obtain⟨o,ho,hc,n,hd⟩:=pl.isList;exact call_list_seq p (.inl rfl) ho hc hd (λh' c' kp e=>fin bt r' hz h' c' kp e) (by simp_all)
 ·obtain⟨bt,r',pl,hz⟩:=I.tuple hq;have hlen:=r'.length;obtain⟨o,ho,hc,n,hd⟩:=pl;exact call_list_seq p (.inr rfl) ho hc hd (λh' c' kp e=>fin bt r' hz h' c' kp e) (by simp_all)
theorem XA:l6 X (.type "tuple") (λxs H Q=>∃p ys,xs=[.ref p]/\((fS X.K H p ys/\∀l,H l=none->Q (.ref l) (upd H l (.tup ys)))\/(jT X.K H p ys/\Q (.ref p) H))):=by
 intro pins s U H xs us Q I r h;obtain⟨p,ys,rfl,h⟩:=h;obtain⟨u,rfl,rx⟩:=vals1 r;cases rx;rcases h with⟨hq,q⟩|⟨hq,q⟩
 ·obtain⟨bt,r',pl,hz⟩:=I.list hq;have hlen:=r'.length;refine call_tuple_list pl.isList (λh' kp=>?_) (by simp_all);have I1:Inv X pins U H { s with heap:=h' }:=I.kept (t':=s.toks) kp;have I2:Inv X pins U (upd H h'.objs.size (.tup ys)) { s with heap:=h'.push { cls:=.type "tuple",data:=.seq bt.toArray } } :=
   I1.laid (t':=s.toks) (λb o e=>aj _ e) (av _) (show n6 X.prog X.w _ _ _ (.tup ys) from⟨hz,bt,r',W8.new _ _⟩)
  exact⟨.ref h'.objs.size,_,I2,rfl,q _ (I1.cu.fresh (av _))⟩
 ·obtain⟨bt,r',pl,hz⟩:=I.tuple hq;exact call_tuple_same pl ⟨.ref p,H,I,rfl,q⟩
def nW(K:PySem.W.Frag)(T:String)(x:V)(H:Hp):Prop:=match x with
 |.str _=>T="str"
 |.int _=>T="int"
 |.ref p=>(T="list"/\∃xs,fS K H p xs)\/(T="tuple"/\∃o,K.lookup p=some o/\o.cls=.type "tuple"/\o.dict=none) \/
   (T="dict"/\((∃kvs,H p=some (.dK kvs))\/∃kvs,H p=some (.dT kvs)))\/(T="set"/\∃S n,H p=some (.set S n))
 |_=>False
theorem JK{T:String}{x:V}{v:Value}(I:Inv X pins U H s)(r:RelV x v)(ty:nW X.K T x H) :
  s.TypeIs v T/\∀a,v=.ref a->∃ob,s.heap.get? a=some ob/\ob.dict=none:=by
 cases x with
 |str z =>
  obtain⟨t,rfl⟩:=r;cases (show T="str" from ty);exact⟨typeIs_str s z t,λ_ e=>nomatch e⟩
 |int i =>
  obtain⟨t,rfl⟩:=r;cases (show T="int" from ty);exact⟨typeIs_int s i t,λ_ e=>nomatch e⟩
 |ref p =>
  cases r;rcases ty with⟨rfl,xs,hq⟩|⟨rfl,o,hk,hc,hd⟩|⟨rfl,hk⟩|⟨rfl,S,n,hk⟩
  ·obtain⟨bt,_,pl,_⟩:=I.list hq;refine⟨pl.isList.typeIs,λa e=>?_⟩;cases e;obtain⟨o,n,e,c,hd,_⟩:=pl;exact⟨o,e,hd⟩
  ·refine⟨⟨o,I.hX p o hk,hc⟩,λa e=>?_⟩;cases e;exact⟨o,I.hX _ o hk,hd⟩
  ·have z:∃o,s.heap.get? p=some o/\o.ExactDict:=by
    rcases hk with⟨kvs,hk⟩|⟨kvs,hk⟩
    ·obtain⟨_,_,_,_,o,_,_,e,ex,_⟩:=I.cu p _ hk;exact⟨o,e,ex⟩
    ·obtain⟨_,_,_,_,o,_,_,e,ex,_⟩:=I.cu p _ hk;exact⟨o,e,ex⟩
   obtain⟨o,e,ex⟩:=z;refine⟨⟨o,e,ex.1⟩,λa e2=>?_⟩;cases e2;exact⟨o,e,ex.2.1⟩
  ·obtain⟨o,_,_,_,e,ex,_⟩:=I.cu p _ hk;refine⟨⟨o,e,ex.1⟩,λa e2=>?_⟩;cases e2;exact⟨o,e,ex.2.1⟩
 |_=>exact False.elim ty
def VX(K:PySem.W.Frag)(T:String)(r:V->List V->Hp->VK->Prop)(to:TE):TE:=λU H Q=>to U H λx H1=>nW K T x H1/\r x [] H1 Q
def Mg(K:PySem.W.Frag)(T:String)(r:V->List V->Hp->VK->Prop)(to:TE)(t:TA):TE:=λU H Q=>to U H λx H1=>nW K T x H1/\t U H1 λxs H2=>r x xs H2 Q
variable{o:Expr}{es:List Expr}{to:TE}{t:TA}{name:Str}{apos jA:Pos}{T id:String}{r:V->List V->Hp->VK->Prop}
theorem Ro(pa:PlainAttrs T)(slot:Slot T name id)(jF:typeOf (.builtin id)=pure (.type "method_descriptor"))(hm:nS X id r)(ho:PE X o to)(jl:attributeBase o name X.env (eval o X.env)=eval o X.env:=by rfl)(ji:(apos.endLine==jA.line)=true:=by rfl):PE X (.Call (.Attribute o name apos) [] [] jA) (VX X.K T r to):=by
 intro pins s U H Q I h;refine wpAny_Call_method0_late jl ji (cU (ho pins s U H _ I h) λv s1 bB=>?_);obtain⟨x,H1,I1,r1,ty,q1⟩:=bB;obtain⟨h1,h2⟩:=JK I1 r1 ty;exact⟨T,id,pa,slot,jF,h1,h2,Calls.callWith_builtin rfl (PySem.evalArgs_none (hm pins s1 U H1 x [] v [] Q I1 r1 .nil q1))⟩
theorem Xu(pa:PlainAttrs T)(slot:Slot T name id)(jF:typeOf (.builtin id)=pure (.type "method_descriptor"))(hm:nS X id r)(ho:PE X o to)(ha:PA X (e::es) t)(jl:attributeBase o name X.env (eval o X.env)=eval o X.env:=by rfl)(qP:((backTo jA (starEach (e :: es) X.env)).all (λx=>!x.1) && (backToKw jA (keywordEach [] X.env)).all (λx=>x.1.isSome)
   && decide ((e :: es).length + ([]:List Keyword).length + (if ([]:List Keyword).isEmpty then 0 else 1) < 30))=true:=by rfl)(ji:(apos.endLine==jA.line)=true:=by rfl)(hs:starEach (e::es) X.env=(false,eval e X.env)::starEach es X.env:=by rfl)(lg:(backTo jA (starEach es X.env)).any (·.1)=false:=by rfl) :
  PE X (.Call (.Attribute o name apos) (e::es) [] jA) (Mg X.K T r to t):=by
 intro pins s U H Q I h;refine wpAny_Call_method_late jl qP ji rfl (cU (ho pins s U H _ I h) λv s1 bB=>?_);obtain⟨x,H1,I1,r1,ty,q1⟩:=bB;obtain⟨h1,h2⟩:=JK I1 r1 ty;refine⟨T,id,pa,slot,jF,h1,h2,?_⟩;have hA:=ha jA pins s1 U H1 _ I1 q1;rw[hs] at hA ⊢;refine Calls.callWith_builtin (by show(false||(backTo jA (starEach es X.env)).any (·.1))=false;rw[lg]<;>rfl) (Calls.evalArgs_plain ?_);exact cU hA λus s2 ⟨vs,H2,I2,r2,q2⟩=>hm pins s2 U H2 x vs v us Q I2 r1 r2 q2
end
def Lx(X:Cx)(id:String)(r:V->List V->Hp->VK->Prop):Prop :=
 ∀(pins:List (Addr×Obj)) (s:Shared) (U:St) (H:Hp) (x:V) (xs:List V) (v:Value) (us:List Value) (Q:VK),Inv X pins U H s->RelV x v->Vals xs us->r x xs H Q ->
  wpAny (model X.prog X.w) X.A (call (.builtin id) (v::us)) (EP X pins U Q) X.xe s
theorem Vals.one{x:V}{us:List Value}(h:Vals [x] us):∃u,us=[u]/\RelV x u:=by
 cases h with
 |cons r h =>
  cases h;exact⟨_,rfl,r⟩
theorem Vals.zero:∀{us:List Value},Vals [] us->us=[]
 |_,.nil=>rfl
theorem Vals.eraseIdx:∀{xs:List V} {us:List Value} (i:Nat),Vals xs us->Vals (xs.eraseIdx i) (us.eraseIdx i)
 |_,_,_,.nil=>.nil
 |_,_,0,.cons _ t=>t
 |_,_,i+1,.cons r t=>.cons r (Vals.eraseIdx i t)
theorem Vals.reverse{xs:List V}{us:List Value}(h:Vals xs us):Vals xs.reverse us.reverse:=by
 induction h with
 |nil=>exact .nil
 |cons r t ih=>rw[gQ,gQ];exact Vals.append ih (.cons r .nil)
theorem HY{α:Type}:∀(l:List α) (i:Nat),(l.eraseIdx i).length<=l.length
 |[],_=>av _
 |_::_,0=>cI _
 |_::r,i+1=>Nat.succ_le_succ (HY r i)
section
variable{l:Addr}{xs ys:List V}
theorem Inv.pZ{its':List Value}{f:Array Value->Array Value}{t':Nat}(I:Inv X pins U H s)(hH:H l=some (.lst xs))(e:s.heap.get? l=some { cls:=.type "list",data:=.seq bt.toArray n })(hf:f bt.toArray=its'.toArray)(hv:Vals ys its')(hz:ys.length<=sizeLine) :
  Inv X pins U (upd H l (.lst ys)) { s with heap:=s.heap.update l (Obj.mapSeq f),toks:=t' }:=by
 have q:=PySem.IsL.update e f;rw[hf] at q;refine I.write (x:=l) (e:=l) (by rw[hH];exact trivial) (.inl rfl) (λb' u hb hu=>(et s.heap (Obj.mapSeq f) (cz hb)).trans hu) ⟨_,q⟩ ?_;exact⟨hz,its',_,hv,q⟩
theorem Inv.Vu{t':Nat}(I:Inv X pins U H s)(hv:Vals ys bt)(hz:ys.length<=sizeLine) :
  Inv X pins U (upd H s.heap.objs.size (.lst ys)) { s with heap:=s.heap.push { cls:=.type "list",data:=.seq bt.toArray },toks:=t' } :=
 I.laid (λ_ _ q=>aj _ q) (av _) ⟨hz,bt,0,hv,aB _ rfl⟩
theorem Inv.fresh(I:Inv X pins U H s):H s.heap.objs.size=none:=I.cu.fresh (av _)
theorem Inv.yU(I:Inv X pins U H s)(hH:H l=some (.lst xs)):xs.length<=sizeLine/\∃(bt:List Value) (n:Nat),Vals xs bt/\xs.length=bt.length/\s.heap.get? l=some { cls:=.type "list",data:=.seq bt.toArray n }:=by
 obtain⟨z,bt,n,r,e⟩:=I.cu l _ hH;exact⟨z,bt,n,r,r.length,e⟩
end
def Ul:V->List V->Hp->VK->Prop:=λx vs H Q=>∃l xs y,x=.ref l/\vs=[y]/\H l=some (.lst xs)/\xs.length<sizeLine/\Q .bR (upd H l (.lst (xs++[y])))
theorem YY:Lx X "list.append" Ul:=by
 intro pins s U H x vs v us Q I rx rv h;obtain⟨l,xs,y,rfl,rfl,hH,hz,q⟩:=h;cases rx;obtain⟨u,rfl,ru⟩:=rv.one;obtain⟨z,bt,n,r,hl,e⟩:=I.yU hH;refine call_meets F.slot_list_append ⟨_,e,rfl⟩ F.entry_list_append (F.args_list_append_2 _ _) (PySem.list_append l bt.toArray n u (by grind)) ⟨e,?_⟩;refine⟨.bR,_,I.pZ (its':=bt++[u]) hH e (by simp) (r.append (.cons ru .nil)) ?_,rfl,q⟩
 grind
def RO:V->List V->Hp->VK->Prop:=λx vs H Q=>∃l xs i k y,x=.ref l/\vs=[.int i]/\H l=some (.lst xs)/\-(2 ^ 63)<=i/\i<2 ^ 63/\seqIndex? i xs.length=some k/\xs[k]?=some y/\Q y (upd H l (.lst (xs.eraseIdx k)))
theorem a35:Lx X "list.pop" RO:=by
 intro pins s U H x vs v us Q I rx rv h;obtain⟨l,xs,i,k,y,rfl,rfl,hH,h1,h2,hk,hy,q⟩:=h;cases rx;obtain⟨u,rfl,ru⟩:=rv.one;obtain⟨t,rfl⟩:=ru;obtain⟨z,bt,n,r,hl,e⟩:=I.yU hH;obtain⟨w,hw,gp⟩:=r.get hy;refine call_meets F.slot_list_pop ⟨_,e,rfl⟩ F.entry_list_pop (F.args_list_pop_2 _ _)
  (MeetsSeq.list_pop_at l bt.toArray n i t k w (fitsIndex_both h1 h2) (by rw[aZ,<- hl];exact hk) (by simp_all) (by rw[aZ];omega)) ⟨e,?_⟩
 refine⟨y,_,I.pZ (its':=bt.eraseIdx k) hH e ?_ (r.eraseIdx k) ?_,gp,q⟩
 ·simp
 ·have:=HY xs k;omega
def VG:R2:=λx y H Q=>∃l b xs zs,x=.ref l/\y=.ref b/\H l=some (.lst xs)/\H b=some (.lst zs)/\xs.length+zs.length<=sizeLine/\∀p,H p=none->Q (.ref p) (upd H p (.lst (xs++zs)))
theorem Rb:gw X (binaryOp .Add) VG:=by
 intro pins s U H x y v u Q I rx ry h;obtain⟨l,b,xs,zs,rfl,rfl,hH,hB,hz,q⟩:=h;cases rx;cases ry;obtain⟨z,bt,n,r,hl,e⟩:=I.yU hH;obtain⟨z2,qD,n2,r2,oh,e2⟩:=I.yU hB;refine PySem.P.add_list e e2 ?_ (by rw[aZ,aZ];omega);have ea:bt.toArray++qD.toArray=(bt++qD).toArray:=by simp
 rw[ea];exact⟨.ref _,_,I.Vu (t':=s.toks) (r.append r2) (by rw[bE];omega),rfl,q _ I.fresh⟩
section
variable{κ:Type}[DecidableEq κ]
def K0(kvs:List (κ×V))(k:κ):Option V:=(kvs.find? λkv=>decide (kv.1=k)).map (·.2)
def putK(kvs:List (κ×V))(k:κ)(v:V):List (κ×V) :=
 if(kvs.any λkv=>decide (kv.1=k))=true then kvs.map (λkv=>if kv.1=k then(kv.1,v) else kv) else kvs++[(k,v)]
def ye(kvs:List (κ×V))(k:κ):List (κ×V):=kvs.filter λkv=>decide (kv.1≠k)
theorem Cy{p:κ×V}{r:List (κ×V)}{k:κ}(e:p.1=k):K0 (p::r) k=some p.2:=by simp[K0,List.find?_cons,e]
theorem Cw{p:κ×V}{r:List (κ×V)}{k:κ}(e:¬p.1=k):K0 (p::r) k=K0 r k:=by simp[K0,List.find?_cons,e]
theorem HK(k:κ):∀kvs:List (κ×V),(kvs.any λkv=>decide (kv.1=k))=(K0 kvs k).isSome
 |[]=>rfl
 |p::r=>by
  rw[jW];by_cases e:p.1=k
  ·simp only[Cy e,decide_eq_true e,Bool.true_or,Option.isSome_some]
  ·rw[Cw e,aE e,qg];exact HK k r
theorem Ja(kvs:List (κ×V))(k:κ)(v:V):(putK kvs k v).length<=kvs.length+1:=by
 unfold putK;split
 ·simp
 simp
theorem E8.N9{u:Option Value}(r:E8 o u):o.isSome=u.isSome:=by
 cases o with
 |none=>cases u with
  |none=>rfl
  |some _=>exact(show False from r).elim
 |some _=>cases u with
  |none=>exact(show False from r).elim
  |some _=>rfl
theorem E8.getD{o:Option V}{u:Option Value}{d:V}{d':Value}(r:E8 o u)(rd:RelV d d'):RelV (o.getD d) (u.getD d'):=by
 cases o with
 |none=>cases u with
  |none=>exact rd
  |some _=>exact(show False from r).elim
 |some _=>cases u with
  |none=>exact(show False from r).elim
  |some _=>exact r
theorem KV.val{kvs:List (κ×V)}{vs:List (κ×Value)}(r:KV kvs vs)(k:κ):E8 (K0 kvs k) (valueAt vs k):=by
 induction r with
 |nil=>exact True.intro
 |@cons p q ps qs h t ih =>
  obtain⟨h1,h2⟩:=h;by_cases e:p.1=k
  ·have e':q.1=k:=h1.symm.trans e;have b:valueAt (q::qs) k=some q.2:=by simp[valueAt,List.find?_cons,e']
   rw[Cy e,b];exact h2
  ·have e':¬q.1=k:=λz=>e (h1.trans z);have b:valueAt (q::qs) k=valueAt qs k:=by simp[valueAt,List.find?_cons,e']
   rw[Cw e,b];exact ih
theorem KV.any{kvs:List (κ×V)}{vs:List (κ×Value)}(r:KV kvs vs)(k:κ):(kvs.any λkv=>decide (kv.1=k))=vs.any λkv=>decide (kv.1=k):=by
 induction r with
 |nil=>rfl
 |cons h t ih=>simp_all
theorem KV.Ee{kvs:List (κ×V)}{vs:List (κ×Value)}(r:KV kvs vs)(k:κ)(ry:RelV y u) :
  KV (kvs.map λkv=>if kv.1=k then(kv.1,y) else kv) (vs.map λkv=>if kv.1=k then(kv.1,u) else kv):=by
 induction r with
 |nil=>exact .nil
 |@cons p q ps qs h t ih =>
  rw[cP,cP];refine .cons ?_ ih;obtain⟨h1,h2⟩:=h;by_cases e:p.1=k
  ·rw[aJ e,aJ (h1.symm.trans e)];exact⟨h1,ry⟩
  ·rw[aD e,aD (λz=>e (h1.trans z))];exact⟨h1,h2⟩
theorem KV.put{kvs:List (κ×V)}{vs:List (κ×Value)}(r:KV kvs vs)(k:κ)(ry:RelV y u):KV (putK kvs k y) (stored vs k u):=by
 unfold putK stored;rw[r.any k];by_cases e:(vs.any λkv=>decide (kv.1=k))=true
 ·rw[aJ e,aJ e];exact r.Ee k ry
 ·rw[aD e,aD e];exact Paired.snoc r ⟨rfl,ry⟩
theorem KV.drop{kvs:List (κ×V)}{vs:List (κ×Value)}(r:KV kvs vs)(k:κ):KV (ye kvs k) (without vs k):=by
 unfold ye without
 induction r with
 |nil=>exact .nil
 |@cons p q ps qs h t ih =>
  obtain⟨h1,h2⟩:=h;rw[ik,ik];by_cases e:p.1=k
  ·have a:¬decide (p.1≠k)=true:=by simp[e]
   have b:¬decide (q.1≠k)=true:=by simp[h1.symm.trans e]
   rw[aD a,aD b];exact ih
  ·have e':¬q.1=k:=λz=>e (h1.trans z);have a:decide (p.1≠k)=true:=by simp[e]
   have b:decide (q.1≠k)=true:=by simp[e']
   rw[aJ a,aJ b];exact .cons ⟨h1,h2⟩ ih
theorem KV.keys{kvs:List (κ×V)}{vs:List (κ×Value)}(r:KV kvs vs):kvs.map (·.1)=vs.map (·.1):=by
 induction r with
 |nil=>rfl
 |cons h t ih=>simp_all
theorem KV.length{kvs:List (κ×V)}{vs:List (κ×Value)}(r:KV kvs vs):kvs.length=vs.length:=mE r
end
theorem tP{k:Key}(r:RelV (kV k) u):(l9 P w).is k u=true:=by
 cases k with
 |inl i=>obtain⟨t,e⟩:=(show ∃t,u=Value.int i t from r);subst e;exact T5 P w i t
 |inr x=>obtain⟨t,e⟩:=(show ∃t,u=Value.str x t from r);subst e;exact aF3 P w x t
theorem HX{P:Program}{w:World}:∀{ks:List Key} {us:List Value},Vals (ks.map kV) us->ItemsAre (l9 P w) ks us
 |[],_,r=>by cases r;exact .nil
 |k::ks,_,r=>by
  cases r with
  |cons h t=>exact .cons (tP h) (HX t)
noncomputable abbrev KT(H:Hp):List (List Key×V)->List (List Key×Addr×Value)->Prop:=Paired λp q=>p.1=q.1/\H q.2.1=some (.tup (p.1.map kV))/\RelV p.2 q.2.2
theorem KT.val{xs:List (List Key×Addr×Value)}(r:KT H kvs xs)(k:List Key):E8 (K0 kvs k) ((atKey xs k).map (·.2)):=by
 induction r with
 |nil=>exact True.intro
 |@cons p q ps qs h t ih =>
  obtain⟨h1,_,h2⟩:=h;by_cases e:p.1=k
  ·have e':q.1=k:=h1.symm.trans e;have b:atKey (q::qs) k=some q.2:=by simp[atKey,List.find?_cons,e']
   rw[Cy e,b];exact h2
  ·have e':¬q.1=k:=λz=>e (h1.trans z);have b:atKey (q::qs) k=atKey qs k:=by simp[atKey,List.find?_cons,e']
   rw[Cw e,b];exact ih
theorem KT.Ee{xs:List (List Key×Addr×Value)}(r:KT H kvs xs)(k:List Key)(ry:RelV y u) :
  KT H (kvs.map λkv=>if kv.1=k then(kv.1,y) else kv) (xs.map (putAt k u)):=by
 induction r with
 |nil=>exact .nil
 |@cons p q ps qs h t ih =>
  rw[cP,cP];refine .cons ?_ ih;obtain⟨h1,h2,h3⟩:=h;unfold putAt;by_cases e:p.1=k
  ·rw[aJ e,aJ (h1.symm.trans e)];exact⟨h1,h2,ry⟩
  ·rw[aD e,aD (λz=>e (h1.trans z))];exact⟨h1,h2,h3⟩
theorem KT.put{xs:List (List Key×Addr×Value)}(r:KT H kvs xs)(k:List Key){b:Addr}(hb:H b=some (.tup (k.map kV)))(ry:RelV y u) :
  KT H (putK kvs k y) (storedH xs k b u):=by
 have e:(kvs.any λkv=>decide (kv.1=k))=(atKey xs k).isSome:=by
  rw[HK,(r.val k).N9,gO]
 unfold putK storedH;rw[e];by_cases q:(atKey xs k).isSome=true
 ·rw[aJ q,aJ q];exact r.Ee k ry
 ·rw[aD q,aD q];exact Paired.snoc r ⟨rfl,hb,ry⟩
theorem KT.keeps{xs:List (List Key×Addr×Value)}(r:KT H kvs xs)(ht:∀b ys,H b=some (.tup ys)->H' b=some (.tup ys)):KT H' kvs xs :=
 Paired.Hh r λ_ _ z=>⟨z.1,ht _ _ z.2.1,z.2.2⟩
section
variable{h:Heap}
theorem Le{u:HO}(ok:gH P w H h)(e:Rd H a u):n6 P w H h a u:=e.ok ok
theorem tM{kvs:List (Key×V)}(ok:gH P w H h)(e:Rd H a (.dK kvs)):kvs.length<=sizeLine/\(a==sysModules)=false/\∃vs,KV kvs vs/\h.DictOf (l9 P w) a vs :=
 show n6 P w H h a (.dK kvs) from Le ok e
theorem KO{kvs:List (Key×V)}(ok:gH P w H h)(e:H a=some (.dK kvs)):kvs.length<=sizeLine/\(a==sysModules)=false/\∃vs,KV kvs vs/\h.DictOf (l9 P w) a vs:=tM ok (.inl e)
theorem W0{ks:List Key}(ok:gH P w H h)(e:H a=some (.tup (ks.map kV))):(tupleKind (l9 P w)).is h ks a:=by
 obtain⟨_,bt,r,o,h1,h2,⟨n,h3⟩,_⟩:=(show n6 P w H h a (.tup (ks.map kV)) from ok a _ e)
 exact⟨o,bt.toArray,n,h1,h2,h3,by simpa using HX r⟩
theorem tN(ok:gH P w H h)(e:Rd H a (.dT kvs)):kvs.length<=sizeLine/\(a==sysModules)=false /\
  ∃xs,KT H kvs xs/\h.DictOfH (tupleKind (l9 P w)) a xs:=by
 obtain⟨z,y,xs,r,o,es,ep,h1,h2,h3,h4,h5⟩:=(show n6 P w H h a (.dT kvs) from Le ok e)
 refine⟨z,y,xs,r,o,es,ep,h1,h2,h3,h4,λx hx=>?_,h5⟩;have all:∀{l:List (List Key×V)} {m:List (List Key×Addr×Value)},KT H l m->∀x∈m,(tupleKind (l9 P w)).is h x.1 x.2.1:=by
  intro l m q
  induction q with
  |nil=>simp
  |@cons p q ps qs hq t ih =>
   intro x hx;rcases aI.mp hx with e|hx
   ·exact W0 ok (by simp_all)
   ·exact ih x hx
 exact all r x hx
theorem WJ(ok:gH P w H h)(e:H a=some (.dT kvs)):kvs.length<=sizeLine/\(a==sysModules)=false /\
  ∃xs,KT H kvs xs/\h.DictOfH (tupleKind (l9 P w)) a xs:=tN ok (.inl e)
end
def O5(H:Hp)(a:Addr)(y:V)(r:Option V):Prop :=
 (∃kvs k,Rd H a (.dK kvs)/\y=kV k/\r=K0 kvs k)\/∃kvs k b,Rd H a (.dT kvs)/\y=.ref b/\H b=some (.tup (k.map kV))/\r=K0 kvs k
def yP(H:Hp)(a:Addr)(y v:V)(H':Hp):Prop :=
 (∃kvs k,H a=some (.dK kvs)/\y=kV k/\kvs.length<sizeLine/\H'=upd H a (.dK (putK kvs k v))) \/
 ∃kvs k b,H a=some (.dT kvs)/\y=.ref b/\H b=some (.tup (k.map kV))/\kvs.length<sizeLine/\H'=upd H a (.dT (putK kvs k v))
theorem O5.k{H:Hp}{a:Addr}{kvs:List (Key×V)}{k:Key}(e:H a=some (.dK kvs)):O5 H a (kV k) (K0 kvs k):=.inl ⟨kvs,k,.inl e,rfl,rfl⟩
theorem yP.k{H:Hp}{a:Addr}{kvs:List (Key×V)}{k:Key}{v:V}(e:H a=some (.dK kvs))(hl:kvs.length<sizeLine):yP H a (kV k) v (upd H a (.dK (putK kvs k v))):=.inl ⟨kvs,k,e,rfl,hl,rfl⟩
section
variable{v:V}{r:Value}
theorem Inv.big(I:Inv X pins U H s):sysModules<s.heap.objs.size:=by
 have h:mainGlobals<s.heap.objs.size:=(I.mod.glob.keeps I.bk).lt;exact cO ∅ h
theorem YH{Q:Value->Shared->Prop}(hu:A.units+1<cLine)(I:Inv X pins U H s)(g:O5 H a y (some v))(ry:RelV y u)(h:∀w' s',Inv X pins U H s'->RelV v w'->Q w' s') :
  wpAny (model X.prog X.w) A (getItem (.ref a) u) Q E s:=by
 rcases g with⟨kvs,k,e,ey,l⟩|⟨kvs,k,b,e,ey,eb,l⟩
 ·subst ey;obtain⟨z,hd,vs,rel,dd⟩:=tM I.cu e;obtain⟨w',hw,gp⟩:=E8.some_of (v:=v) (o:=valueAt vs k) (by rw[l];exact rel.val k);exact wpAny_getItem_of (tP ry) dd.mapOf hw (h w' _ (I.tok _) gp)
 ·subst ey;cases (show u=Value.ref b from ry);obtain⟨z,hd,xs,rel,dd⟩:=tN I.cu e;obtain⟨w',hw,gp⟩:=E8.some_of (v:=v) (o:=(atKey xs k).map (·.2)) (by rw[l];exact rel.val k);obtain⟨p,hp,zX⟩:=aa.mp hw;refine wpAny_getItem_heap (fH hu) (W0 I.cu eb) dd hp ?_;rw[zX];exact h w' _ (I.tok _) gp
theorem Vj{Q:Value->Shared->Prop}(hu:A.units+1<cLine)(I:Inv X pins U H s)(g:O5 H a y o)(ry:RelV y u)(h:∀s',Inv X pins U H s'->Q (.bool o.isSome) s') :
  wpAny (model X.prog X.w) A (compareOp .In u (.ref a)) Q E s:=by
 rcases g with⟨kvs,k,e,ey,l⟩|⟨kvs,k,b,e,ey,eb,l⟩
 ·subst ey;obtain⟨z,hd,vs,rel,dd⟩:=tM I.cu e;refine wpAny_in_of (tP ry) hd dd.mapOf ?_;rw[<- (rel.val k).N9,<- l];exact h _ (I.tok _)
 ·subst ey;cases (show u=Value.ref b from ry);obtain⟨z,hd,xs,rel,dd⟩:=tN I.cu e;refine wpAny_in_heap (fH hu) (W0 I.cu eb) hd dd ?_;have q:=(rel.val k).N9;rw[gO] at q;rw[<- q,<- l];exact h _ (I.tok _)
theorem Tb{Q:Value->Shared->Prop}(hu:A.units+1<cLine)(I:Inv X pins U H s)(g:O5 H a y o)(ry:RelV y u)(h:∀s',Inv X pins U H s'->Q (.bool (!o.isSome)) s') :
  wpAny (model X.prog X.w) A (compareOp .NotIn u (.ref a)) Q E s:=by
 rcases g with⟨kvs,k,e,ey,l⟩|⟨kvs,k,b,e,ey,eb,l⟩
 ·subst ey;obtain⟨z,hd,vs,rel,dd⟩:=tM I.cu e;refine wpAny_notIn_of (tP ry) hd dd.mapOf ?_;rw[<- (rel.val k).N9,<- l];exact h _ (I.tok _)
 ·subst ey;cases (show u=Value.ref b from ry);obtain⟨z,hd,xs,rel,dd⟩:=tN I.cu e;refine wpAny_notIn_heap (fH hu) (W0 I.cu eb) hd dd ?_;have q:=(rel.val k).N9;rw[gO] at q;rw[<- q,<- l];exact h _ (I.tok _)
theorem JQ{h':Heap}{t':Nat}{ob:HO}(I:Inv X pins U H s)(mu:wK (H a))(hs:Heap.SameBut a s.heap h')(he:∃q,h'.get? a=some q)(new:n6 X.prog X.w (upd H a ob) h' a ob) :
  Inv X pins U (upd H a ob) { s with heap:=h',toks:=t' } :=
 I.write (x:=a) (e:=a) mu (.inl rfl) (λb q hb z=>(hs.2 b hb).trans z) he new
theorem Jw{h':Heap}{kvs:List (Key×V)}{vs:List (Key×Value)}(z:kvs.length<=sizeLine)(hd:(a==sysModules)=false)(rel:KV kvs vs)(dd:h'.DictOf (l9 P w) a vs) :
  n6 P w H' h' a (.dK kvs):=⟨z,hd,vs,rel,dd⟩
theorem YI{Q:Unit->Shared->Prop}(hu:A.units+1<cLine)(I:Inv X pins U H s)(g:yP H a y v H')(ry:RelV y u)(rv:RelV v r)(h:∀s',Inv X pins U H' s'->Q Unit.unit s') :
  wpAny (model X.prog X.w) A (setItem (.ref a) u r) Q E s:=by
 rcases g with⟨kvs,k,e,ey,l,eH⟩|⟨kvs,k,b,e,ey,eb,l,eH⟩
 ·subst ey eH;obtain⟨z,hd,vs,rel,dd⟩:=KO I.cu e;have hz:vs.length<=sizeLine:=by rw[<- rel.length];exact z
  have hl:(putK kvs k v).length<=sizeLine:=by have:=Ja kvs k v;omega
  refine wpAny_setItem_pairs (hsz:=hz) (tP ry) dd λh' xX hs=>h _ ?_;have he:∃q,h'.get? a=some q:=let ⟨q,_,_,hq,_⟩:=xX;⟨q,hq⟩
  exact JQ I (by rw[e];exact True.intro) hs he (Jw hl hd (rel.put k rv) xX)
 ·subst ey eH;cases (show u=Value.ref b from ry);obtain⟨z,hd,xs,rel,dd⟩:=WJ I.cu e;have hz:xs.length<=sizeLine:=by rw[<- mE rel];exact z
  have hl:(putK kvs k v).length<=sizeLine:=by have:=Ja kvs k v;omega
  refine wpAny_setItem_heap (hsz:=hz) (fH hu) (W0 I.cu eb) dd λh' xX hs=>h _ ?_;obtain⟨q,es,ep,hq,h2,h3,h4,_,h5⟩:=xX;refine JQ I (by rw[e];exact True.intro) hs ⟨q,hq⟩ ⟨hl,hd,_,(rel.put k eb rv).keeps λc ys ec=>?_,q,es,ep,hq,h2,h3,h4,h5⟩;rw[d8 (Xj ec e (λz=>nomatch z))];exact ec
end
theorem aF7(I:Inv X pins U H s)(g:O5 H a y o):s.TypeIs (.ref a) "dict":=by
 rcases g with⟨kvs,k,e,_,_⟩|⟨kvs,k,b,e,_,_,_⟩
 ·obtain⟨_,_,vs,_,dd⟩:=tM I.cu e;exact dd.typeIs
 ·obtain⟨_,_,xs,_,dd⟩:=tN I.cu e;exact dd.typeIs
theorem a52(h:Heap)(hb:sysModules<h.objs.size):n6 P w H (h.push { cls:=.type "dict",data:=.dict #[] }) h.objs.size (.dK []) :=
 ⟨cj _,dE.mpr (cz (aK hb)),[],.nil,Heap.DictOf.new h⟩
def Sz:TE:=λ_ H Q=>∀p,H p=none->Q (.ref p) (upd H p (.dK []))
theorem a30:PE X (.Dict [] [] pos) Sz:=λpins s U H Q I h =>
 wpAny_Dict_empty ⟨.ref s.heap.objs.size,_,I.laid (a:=s.heap.objs.size) (o:=.dK []) (t':=s.toks) (λ_ _ q=>aj _ q) (av _) (a52 s.heap I.big),rfl,h _ (I.cu.fresh (av _))⟩
def QU(kvs more:List (Key×V)):List (Key×V):=more.foldl (λacc kv=>putK acc kv.1 kv.2) kvs
theorem KV.merge:∀{more:List (Key×V)} {rs:List (Key×Value)} {kvs:List (Key×V)} {vs:List (Key×Value)},KV more rs->KV kvs vs->KV (QU kvs more) (merged vs rs):=by
 intro more rs kvs vs r
 induction r generalizing kvs vs with
 |nil=>intro q;exact q
 |@cons p q ps qs h t ih =>
  intro r0;have e:KV (putK kvs p.1 p.2) (stored vs q.1 q.2):=by
   have:=r0.put p.1 h.2;rw[<- h.1];exact this
  exact ih e
section
variable{d:V}{r:Value}
theorem Qr{Q:Value->Shared->Prop}(hu:A.units+1<cLine)(I:Inv X pins U H s)(g:O5 H a y o)(ry:RelV y u)(rd:RelV d r)(h:∀w' s',Inv X pins U H s'->RelV (o.getD d) w'->Q w' s') :
  wpAny (model X.prog X.w) A (call (.builtin "dict.get") [.ref a,u,r]) Q E s:=by
 rcases g with⟨kvs,k,e,ey,l⟩|⟨kvs,k,b,e,ey,eb,l⟩
 ·subst ey;obtain⟨z,hd,vs,rel,dd⟩:=tM I.cu e;refine call_meetsIn iW dd.typeIs tY (rZ _ _ _) (meets_dict_get_default (l9 X.prog X.w) a (tP ry) hd r) ⟨_,dd.mapOf,h _ _ (I.tok _) ?_⟩;rw[l];exact(rel.val k).getD rd
 ·subst ey;cases (show u=Value.ref b from ry);obtain⟨z,hd,xs,rel,dd⟩:=tN I.cu e;refine call_meetsIn iW dd.typeIs tY (rZ _ _ _) (meetsH_dict_get_default (tupleKind (l9 X.prog X.w)) a b hd r) ⟨fH hu,k,xs,W0 I.cu eb,dd,h _ _ (I.tok _) ?_⟩;rw[l];exact(rel.val k).getD rd
end
end L2
namespace LC
open PySem PySem.W PySem.Calls PyProof.Rows
theorem Ya{P:Params}{h:Heap}:∀(ns:List Int) (vs:List Value),WellAll P h vs (ns.map WData.int)->IntsAre vs ns:=by
 intro ns
 induction ns with
 |nil =>
  intro vs w;cases w;exact .nil
 |cons n ns ih =>
  intro vs w;cases w with
  |cons a b =>
   cases a;exact .cons _ _ (ih _ b)
theorem Zq{l:OpenLaw}{n:Nat}(hn:l.most=some n){P:Params}{h:Heap}{args:List WData}{vals:List Value}(oB:l.row.toRowW.claim.pre args=true)(zS:WellAll P h vals args) :
  ∃a vs ns,vals=[Value.ref a]/\args=[WData.list (ns.map WData.int)]/\h.get? a=some { cls:=.type "list",data:=.seq vs.toArray }/\IntsAre vs ns/\ns.length<=n:=by
 have jZ:WShape.hasAll [] args [.list .int]=true:=(pre_splitW oB).1;have hc:l.pre.holds [] { args:=args }=true:=(pre_splitW oB).2;obtain⟨d,r,rfl,h1,h2⟩:=hasAllW_cons jZ;obtain rfl:=hasAllW_nil h2;obtain⟨xs,rfl,h3⟩:=hasW_list h1;obtain⟨ns,rfl⟩:=items_int h3;have hlen:ns.length<=n:=by
  have h4:(WTm.not (.lt (.lit (.int (n:Int))) (.len (.arg 0)))).holds [] { args:=[.list (ns.map .int)] }=true:=by
   have h4:=(holds_andW hc).1;rw[hn] at h4;exact h4
  have h5:=condW_of h4 (w_not (w_lt w_lit (w_len_list (w_arg rfl))))
  simp_all
 cases zS with
 |cons w1 w2 =>
  cases w2;cases w1 with
  |list ho jz=>exact⟨_,_,ns,rfl,rfl,ho,Ya ns _ jz,hlen⟩
theorem Zk(l:OpenLaw)(args:List WData):l.row.toRowW.claim.post args (.bool true) args=true :=
 postW_of (r:=l.row.toRowW) (X:=(true==true))
  (show WShape.has [] (.bool true) .bool=true by rfl)
  (show(WTm.eq .res (.lit (.bool true))).value [] { args:=args,res:=some (.bool true),after:=args }=some (.bool (true==true)) from w_eq_bool (w_res rfl) w_lit) rfl
theorem aG1{l:OpenLaw}{n:Nat}{q:Program}{loose:List Str}{XP:(Str->Option Value)->Heap->Prop}{YP:World->Heap->Prop}{d:DefRec}(hn:l.most=some n)(vo:d.params.defaults=[])(call:∀ (w:World) (dJ bU:Shared) (mg mb:Str->Option Value) (fa:Addr) (o:Obj) (pm cd doc:Value) (a:Addr) (vs:List Value) (ns:List Int),
   Ground q loose [] XP w dJ mg mb bU.heap->YP w bU.heap ->
   bU.heap.get? fa=some o->o.data=.func (docDef d.name d.params d.body d.scope pm cd doc)->bU.heap.CodeRec cd d.name->mg d.name=some (.ref fa) ->
   bU.heap.get? a=some { cls:=.type "list",data:=.seq vs.toArray }->IntsAre vs ns->ns.length<=n->bU.gens=#[] ->
   codeAny (model l.prog w) callerA (.call (.ref fa) ⟨[.ref a],[]⟩) (λr s'=>r=.ok (.ret (.bool true))/\OldK bU.heap s'.heap/\s'.os=bU.os/\AllBare s'.gens) bU) :
  WalkO q loose XP YP l.row.toRowW d [] (λf vs=>PySem.call f vs):=by
 intro w dJ bU mg mb G Y fa o pm cd doc dV kV ho hd mq hD hmg hg args vals as oB NA hrd zS vg;obtain rfl:dV=.none:=Dflts.none hD vo;obtain rfl:kV=.none:=Dflts.noKw hD;obtain⟨a,vs,ns,rfl,rfl,jg,hints,hlen⟩:=Zq hn oB zS;refine enter_call (gX (call w dJ bU mg mb fa o pm cd doc a vs ns G Y ho (fd_plain hd) mq hmg jg hints hlen hg) λr s' hq=>?_);obtain⟨rfl,h2,h3,h4⟩:=hq;exact⟨.inl ⟨.bool true,.bool true,[],rfl,λ_=>rfl,.bool true,Zk l _,λ_=>⟨List.Pairwise.nil,λ_ hm=>(nomatch hm)⟩⟩,h2,h3,h4⟩
end LC
namespace L2
open PySem PySem.Spec PyProof.Rows
variable{x:Str}
theorem Ip:∀{vs:List Value} {ns:List Int},IntsAre vs ns->Vals (ns.map V.int) vs
 |_,_,.nil=>.nil
 |_,_,.cons n t h=>.cons ⟨t,rfl⟩ (Ip h)
def yQ(H:Hp):Prop:=∀b,H b=none\/∃o xs,H b=some (.jR o (.lst xs))
theorem a40{P:Program}{w:World}{K:PySem.W.Frag}{mg mb:Str->Option Value}{CX:nT}{k:Nat}{fa a:Addr}{fd:FuncData}{sp:Sp}{bU:Shared}{vs:List Value}{ns:List Int}(KX:K.In bU.heap)(qJ:bU.heap.Ns mainGlobals mg)(hb:bU.heap.Ns builtinsNs mb)(Au:∀x:Str,x≠"__name__"->mb x=bootBuiltins x)(Aj:bU.heap.NoLimit)(hg:bU.gens=#[])(ha:bU.heap.get? a=some { cls:=.type "list",data:=.seq vs.toArray })(hi:IntsAre vs ns)(hl:ns.length<=sizeLine)(hr:v7 k callerA)(F:∀base:Heap,K.In base->base.Ns mainGlobals mg->ir P w K mg base CX k fa fd [x] sp)(vq:∀(s:Shared) (u:Value),BindsTo s fd ⟨[u],[]⟩ [(x,u)])(sG:∀H:Hp,yQ H->fS K H a (ns.map V.int)->sp [.ref a] H (λv _=>v=.bl true) λ_ _ _=>False)(AD:∀H e s',CX [] H bU (λ_ _ _=>False) e s'->False) :
  codeAny (model P w) callerA (.call (.ref fa) ⟨[.ref a],[]⟩) (λr s'=>r=.ok (.ret (.bool true))/\OldK bU.heap s'.heap/\s'.os=bU.os/\AllBare s'.gens) bU:=by
 have rv:=Ip hi;have MN:=hi.length;have core:∀H:Hp,yQ H->fS K H a (ns.map V.int)->gH P w H bU.heap->(∀b,H b≠none->b=a)->(H a≠none->K.lookup a=none) ->
   codeAny (model P w) callerA (.call (.ref fa) ⟨[.ref a],[]⟩) (λr s'=>r=.ok (.ret (.bool true))/\OldK bU.heap s'.heap/\s'.os=bU.os/\AllBare s'.gens) bU:=by
  intro H hO hS cu hA hK;have Q4:∀{b:Addr} {o:Obj},bU.heap.get? b=some o->H b=none->(Z5 bU.heap H).get? b=some o:=λe n=>a48 e n;have uI:∀{b:Addr} {o:Obj} {es:Array DictEntry} {ep:Nat},bU.heap.get? b=some o->o.data=.dict es ep->H b=none:=λ{b o es ep} e d=>by
   grind
  have xm:∀{b:Addr} {m:Str->Option Value},bU.heap.Ns b m->(Z5 bU.heap H).Ns b m:=λ{b m} ⟨o,es,ep,e,d,r⟩=>⟨o,es,ep,Q4 e (uI e d),d,r⟩
  have Gs:K.In (Z5 bU.heap H):=λb o e=>Q4 (KX b o e) (by
   grind)
  have hM:Mod K mg (Z5 bU.heap H):=⟨Gs,xm qJ,⟨mb,xm hb,Au⟩,let ⟨mc,h1,h2⟩:=Aj;⟨mc,xm h1,h2⟩⟩
  have e0:rK P w K mg (Z5 bU.heap H) callerA [] bU H:=⟨rfl,hM,λb o e=>Tx e,fy (YO _ _),trivial,λb hb=>absurd (show b∈([]:List Addr) from hb) (by simp),cu,.of_eq hg⟩
  refine gX ((F _ Gs (xm qJ)).run callerA [] bU H ⟨[.ref a],[]⟩ [.ref a] [.ref a] _ _ hr e0 (vq bU (.ref a)) (.cons rfl .nil) (sG H hO hS)) λr s' h=>?_;cases r with
  |error e=>exact(AD H e s' h).elim
  |ok fl =>
   cases fl with
   |next=>exact False.elim h
   |brk=>exact False.elim h
   |cont=>exact False.elim h
   |ret u =>
    obtain⟨v,H',os,bare,un,zY,r',q⟩:=h;have q':v=.bl true:=q;subst q';obtain rfl:u=Value.bool true:=r';refine⟨rfl,OldK.of_keep λb o e=>?_,os,bare⟩;cases q:H b with
    |none=>exact un.keep b o e q (by intro z;exact absurd (show b∈([]:List Addr) from z) (by simp)) (by simp)
    |some u =>
     rcases hO b with z|⟨ob,xs,z⟩
     ·simp_all
     ·have z2:=un.iJ b ob _ z;obtain⟨e1,_⟩:=cu b _ z;obtain⟨e2,_⟩:=zY b _ z2
      simp_all
 cases hk:K.lookup a with
 |some o =>
  have e:=KX a o hk;rw[ha] at e;cases e;refine core (λ_=>none) (λ_=>.inl rfl) (.inr ⟨_,vs.toArray,_,hk,rfl,rfl,rfl,by simp_all,by simpa using rv⟩) (λb u z=>by simp_all) (λb z=>absurd rfl z) λz=>absurd rfl z
 |none =>
  refine core (λb=>if b=a then some (.jR { cls:=.type "list",data:=.seq vs.toArray } (.lst (ns.map V.int))) else none) (λb=>?_) (.inl (.inr ⟨{ cls:=.type "list",data:=.seq vs.toArray },aJ rfl⟩)) (λb u z=>?_) (λb z=>?_) λ_=>hk
  ·by_cases hb:b=a
   ·exact .inr ⟨_,_,aJ hb⟩
   ·exact .inl (aD hb)
  ·by_cases hb:b=a
   ·have z':=(aJ hb).symm.trans z;cases z';subst hb;exact⟨ha,by rw[ai];exact hl,vs,_,rv,ha⟩
   simp_all
  ·by_cases hb:b=a
   ·exact hb
   ·exact absurd (aD hb) z
theorem UQ{l:PySem.W.OpenLaw}{n k:Nat}{q:Program}{loose:List Str}{XP:(Str->Option Value)->Heap->Prop}{YP:World->Heap->Prop}{d:DefRec}{K:Params->PySem.W.Frag}{CX:World->nT}{sp:World->Sp}(hn:l.most=some n)(mN:n<=sizeLine)(vo:d.params.defaults=[])(hr:v7 k callerA)(hY:∀(w:World) (h:Heap),YP w h->(K w.params).In h)(F:∀ (w:World) (mg:Str->Option Value) (fa:Addr) (h:Heap),(K w.params).In h->h.Ns mainGlobals mg->mg d.name=some (.ref fa) ->
   ∃fd:FuncData,(∀(s:Shared) (u:Value),BindsTo s fd ⟨[u],[]⟩ [(x,u)]) /\
    ∀ base:Heap,(K w.params).In base->base.Ns mainGlobals mg->ir l.prog w (K w.params) mg base (CX w) k fa fd [x] (sp w))(sG:∀(w:World) (H:Hp) (a:Addr) (ns:List Int),ns.length<=n->yQ H->fS (K w.params) H a (ns.map V.int)->sp w [.ref a] H (λv _=>v=.bl true) λ_ _ _=>False)(AD:∀(w:World) (H:Hp) (s:Shared) (e:Value) (s':Shared),CX w [] H s (λ_ _ _=>False) e s'->False) :
  PySem.W.WalkO q loose XP YP l.row.toRowW d [] (λf vs=>PySem.call f vs):=by
 refine LC.aG1 hn vo λw dJ bU mg mb fa o pm cd doc a vs ns G Y ho hd mq hmg jg hints hlen hg=>?_;have KX:=hY w _ Y;obtain⟨fd,hb,hF⟩:=F w mg fa _ KX G.T.g hmg;exact a40 KX G.T.g G.T.b G.T.builtins G.T.nolimit hg jg hints (aC hlen mN) hr hF hb (λH hO hS=>sG w H a ns hlen hO hS) λH e s'=>AD w H bU e s'
def A9(s:Stmt):Arguments:=match s with
 |.FunctionDef _ a _ _ _ _ _ _ _ _=>a
 |_=>{ posonlyargs:=[],args:=[],vararg:=none,kwonlyargs:=[],kw_defaults:=[],kwarg:=none,defaults:=[] }
def p6(s:Stmt):List Stmt:=match s with
 |.FunctionDef _ _ b _ _ _ _ _ _ _=>b
 |_=>[]
def o6(s:Stmt):Scope:=match s with
 |.FunctionDef _ _ _ _ _ _ sc _ _ _=>sc
 |_=>{ kind:=.function,names:=[],isGenerator:=false,isCoroutine:=false }
structure qe(K:PySem.W.Frag)(x qual:Str)(st:Stmt)(f:Addr)(fd:FuncData):Prop where
 ex:∃(oc:Value) (od:Option Addr) (kV doc pm:Value) (an:Option Addr) (fW ct:Value) (mK:Array (Option Value)),
  fd=PySem.W.fnOf x qual (A9 st) (p6 st) (o6 st) .none kV doc pm an fW ct/\K.lookup f=some ⟨oc,od,.func fd,mK⟩/\PySem.W.codeIn K fW qual=true
 kp:PySem.W.keepIn K (.ref f)=true
section
variable{K:PySem.W.Frag}
theorem qe.binds{qual:Str}{st:Stmt}{f:Addr}{fd:FuncData}{ps:List Str}(F:qe K x qual st f fd)(h:∀(kV doc pm:Value) (an:Option Addr) (fW ct:Value) (us:List Value),us.length=ps.length->bindArgs (PySem.W.fnOf x qual (A9 st) (p6 st) (o6 st) .none kV doc pm an fW ct) ⟨us,[]⟩=pure (ps.zip us)):Binds K fd ps []:=by
 obtain⟨oc,od,kV,doc,pm,an,fW,ct,mK,rfl,lk,mq⟩:=F.ex;exact .all (h kV doc pm an fW ct)
theorem Jy{qual:Str}{st:Stmt}{f:Addr}{oc:Value}{od an:Option Addr}{mK:Array (Option Value)}{kV doc pm fW ct:Value}(l:K.lookup f=some ⟨oc,od,.func (PySem.W.fnOf x qual (A9 st) (p6 st) (o6 st) .none kV doc pm an fW ct),mK⟩)(c:PySem.W.codeIn K fW qual=true)(k:PySem.W.keepIn K (.ref f)=true):qe K x qual st f (PySem.W.fnOf x qual (A9 st) (p6 st) (o6 st) .none kV doc pm an fW ct):=⟨⟨oc,od,kV,doc,pm,an,fW,ct,mK,rfl,l,c⟩,k⟩
end
end L2
namespace TS
open PySem PyProof.Rows
def GA:Bool->Keyed->Array Keyed->Nat->Nat->Nat->StateT SortSt Sem (Option Nat):=sortPriv% PySem.Builtin.gallop
def MJ:Array Keyed->Array Keyed->StateT SortSt Sem (Array Keyed):=sortPriv% PySem.Builtin.mergeLo
def MK:Array Keyed->Array Keyed->StateT SortSt Sem (Array Keyed):=sortPriv% PySem.Builtin.mergeHi
noncomputable abbrev kn(p:Keyed):Int:=numOf p.1
def IK(p:Keyed):Prop:=∃n t,p.1=.int n t
section
variable{prog:Program}{w:World}{A:Around}{E:Value->Shared->Prop}{s:Shared}
theorem yi{st:SortSt}{x y:Keyed}{Q:Option Bool->SortSt->Prop}(hk:kindOf st=oneType')(hx:IK x)(hy:IK y)(h:Q (some (decide (kn x<kn y))) st) :
  wpS (model prog w) A E s (lt' x y) Q st:=by
 obtain⟨a,t,ha⟩:=hx;obtain⟨b,u,hb⟩:=hy;rw[lt'_eq];refine aA (mz ?_);rw[hk,keyLt'_oneType,ha,hb];refine aA (pj (mB (oneLt_int ⟨rfl,?_⟩)));have:kn x=a/\kn y=b:=by unfold kn;rw[ha,hb];exact⟨rfl,rfl⟩
 rw[this.1,this.2] at h;exact aG h
theorem v8{st:SortSt}{xs:Array Keyed}{i:Nat}{p:Keyed}{Q:Keyed->SortSt->Prop}(h1:xs[i]?=some p)(h:Q p st):wpS (model prog w) A E s (elem' xs i) Q st:=by
 rw[elem'_eq,h1];exact aG h
theorem d6{M:Model}{U α:Type}{c:Prop}[Decidable c]{x y:StateT U Sem α}{Q:α->U->Prop}{st:U}(h1:c->wpS M A E s x Q st)(h2:¬c->wpS M A E s y Q st):wpS M A E s (if c then x else y) Q st:=by
 by_cases h:c
 ·rw[aJ h];exact h1 h
 ·rw[aD h];exact h2 h
def fJ(left:Bool)(key p:Keyed):Bool:=if left then decide (kn p<kn key) else !decide (kn key<kn p)
theorem yx{st:SortSt}{left:Bool}{key p:Keyed}{arr:Array Keyed}{i:Nat}{Q:Option Bool->SortSt->Prop}(hk:kindOf st=oneType')(gf:IK key)(hp:arr[i]?=some p)(hi:IK p)(h:Q (some (fJ left key p)) st) :
  wpS (model prog w) A E s (elem' arr i >>= λx=>if left=true then lt' x key else lt' key x >>= λr=>pure (r.map λb=>!b)) Q st:=by
 refine aA (v8 hp ?_);cases left
 ·exact aA (yi hk gf hi (aG h))
 ·exact yi hk hi gf h
theorem Qt{st:SortSt}{left:Bool}{key:Keyed}{arr:Array Keyed}{base n hint:Nat}{f:Nat->Keyed}{Q:Option Nat->SortSt->Prop}(hk:kindOf st=oneType')(gf:IK key)(hf:∀i,i<n->arr[base+i]?=some (f i)/\IK (f i))(hm:∀i j,i<=j->j<n->fJ left key (f j)=true->fJ left key (f i)=true)(hh:hint<n)(h:∀k,k<=n->(∀i,i<k->fJ left key (f i)=true)->(∀i,k<=i->i<n->fJ left key (f i)=false)->Q (some k) st):wpS (model prog w) A E s (GA left key arr base n hint) Q st:=by
 have og:∀i j,i<=j->j<n->fJ left key (f i)=false->fJ left key (f j)=false:=λi j a b c=>by
  cases e:fJ left key (f j) with
  |false=>rfl
  |true=>rw[hm i j a b e] at c;omega
 refine aA ?_;refine yx hk gf (hf hint hh).1 (hf hint hh).2 ?_;have last:∀lo hi:Nat,lo<=hi->hi<=n->(∀i,i<lo->fJ left key (f i)=true)->(∀i,hi<=i->i<n->fJ left key (f i)=false)->∀(F:Nat->Option (Option Nat)×Nat×Nat->StateT SortSt Sem (ForInStep (Option (Option Nat)×Nat×Nat))),
   (F=λ_ c=>if c.2.1 >= c.2.2 then pure (.done (none,c.2.1,c.2.2)) else (elem' arr (base + (c.2.1 + (c.2.2 - c.2.1) / 2)) >>= λx=>if left=true then lt' x key else lt' key x >>= λr=>pure (r.map λb=>!b)) >>= λr=>match r with
    |some more=>if more=true then pure (.yield (none,c.2.1+(c.2.2-c.2.1) / 2+1,c.2.2)) else pure (.yield (none,c.2.1,c.2.1+(c.2.2-c.2.1) / 2))
    | x=>pure (.done (some none,c.2.1,c.2.2))) ->
   wpS (model prog w) A E s (forIn [0:n] (none,lo,hi) F) (λc ba=>ba=st/\c.1=none/\Q (some c.2.2) st) st:=by
  intro lo hi h1 h2 h3 h4 F e;subst e;refine dB (I:=λx c ba=>ba=st/\c.1=none/\c.2.1<=c.2.2/\c.2.2<=n/\c.2.2-c.2.1<=n-x/\(∀i,i<c.2.1->fJ left key (f i)=true)/\(∀i,c.2.2<=i->i<n->fJ left key (f i)=false)) ?_ ?_ ⟨rfl,rfl,h1,h2,by grind,h3,h4⟩
  ·rintro x ⟨c1,l,r⟩ ba _ hx ⟨rfl,rfl,q1,q2,q3,q4,q5⟩;dsimp only at q1 q2 q3 q4 q5 ⊢;by_cases kH:l>=r
   ·rw[aJ kH];have:l=r:=by omega
    subst this;exact aG ⟨rfl,rfl,h l q2 q4 q5⟩
   ·rw[aD kH];have nZ:l+(r-l) / 2<n:=by omega
    refine aA (yx hk gf (hf _ nZ).1 (hf _ nZ).2 ?_);cases e:fJ left key (f (l+(r-l) / 2)) with
    |true=>exact aG ⟨rfl,rfl,by dsimp only;omega,q2,by grind,λi hi=>hm i _ (Nat.le_of_lt_succ hi) nZ e,q5⟩
    |false=>exact aG ⟨rfl,rfl,by simp,by grind,by dsimp only;omega,q4,λi hi hn=>og _ i hi hn e⟩
  ·rintro⟨c1,l,r⟩ ba ⟨rfl,rfl,q1,q2,q3,q4,q5⟩;dsimp only at q1 q2 q3 q4 q5;have:l=r:=by omega
   subst this;exact⟨rfl,rfl,h l q2 q4 q5⟩
 cases e0:fJ left key (f hint) with
 |true =>
  refine aA (wpS_mono (dB (I:=λx (c:Option (Option Nat) × Nat × Nat) ba=>ba=st/\c.1=none/\c.2.1 < c.2.2/\hint + c.2.1 < n/\x < c.2.2/\fJ left key (f (hint + c.2.1))=true)
   (Q:=λc ba=>ba=st/\c.1=none/\c.2.1 < c.2.2/\hint + c.2.1 < n/\fJ left key (f (hint + c.2.1))=true/\(c.2.2 >= n - hint \/ fJ left key (f (hint + c.2.2))=false)) ?_ ?_ ⟨rfl,rfl,by decide,hh,by decide,e0⟩) ?_)
  ·rintro x ⟨c1,l,r⟩ ba _ hx ⟨rfl,rfl,q1,q2,q3,q4⟩;by_cases kH:r>=n-hint
   ·rw[aJ kH];exact aG ⟨rfl,rfl,q1,q2,q4,.inl kH⟩
   ·rw[aD kH];have nZ:hint+r<n:=by omega
    refine aA (yx hk gf (hf _ nZ).1 (hf _ nZ).2 ?_);cases e:fJ left key (f (hint+r)) with
    |true=>exact aG ⟨rfl,rfl,by grind,nZ,by grind,e⟩
    |false=>exact aG ⟨rfl,rfl,q1,q2,q4,.inr e⟩
  ·grind
  ·rintro⟨c1,l,r⟩ ba ⟨rfl,rfl,q1,q2,q3,q4⟩;dsimp only at q1 q2 q3 q4 ⊢;refine aA (wpS_mono (last (hint+l+1) (hint+min r (n-hint)) () () (λi hi=>hm i _ (Nat.le_of_lt_succ hi) q2 q3) ?_ _ rfl) ?_)
   ·intro i h1 h2;rcases q4 with q4|q4
    ·omega
    ·exact og (hint+r) i () h2 q4
   ·rintro⟨c1,l,r⟩ ba ⟨rfl,rfl,q⟩;exact aG q
 |false =>
  refine aA (wpS_mono (dB (I:=λx (c:Option (Option Nat) × Nat × Nat) ba=>ba=st/\c.1=none/\c.2.1 < c.2.2/\c.2.1 <= hint/\x < c.2.2/\fJ left key (f (hint - c.2.1))=false)
   (Q:=λc ba=>ba=st/\c.1=none/\c.2.1 < c.2.2/\c.2.1 <= hint/\fJ left key (f (hint - c.2.1))=false/\(c.2.2 >= hint + 1 \/ fJ left key (f (hint - c.2.2))=true)) ?_ ?_ ⟨rfl,rfl,by decide,cj _,by decide,e0⟩) ?_)
  ·rintro x ⟨c1,l,r⟩ ba _ hx ⟨rfl,rfl,q1,q2,q3,q4⟩;by_cases kH:r>=hint+1
   ·rw[aJ kH];exact aG ⟨rfl,rfl,q1,q2,q4,.inl kH⟩
   ·rw[aD kH];have nZ:hint-r<n:=by omega
    refine aA (yx hk gf (hf _ nZ).1 (hf _ nZ).2 ?_);cases e:fJ left key (f (hint-r)) with
    |true=>exact aG ⟨rfl,rfl,q1,q2,q4,.inr e⟩
    |false=>exact aG ⟨rfl,rfl,by grind,by grind,by grind,e⟩
  ·rintro⟨c1,l,r⟩ ba ⟨rfl,rfl,q1,q2,q3,q4⟩;exact⟨rfl,rfl,q1,q2,q4,.inl (by grind)⟩
  ·rintro⟨c1,l,r⟩ ba ⟨rfl,rfl,q1,q2,q3,q4⟩;dsimp only at q1 q2 q3 q4 ⊢;refine aA (wpS_mono (last (hint+1-min r (hint+1)) (hint-l) () () ?_ (λi hi hn=>og _ i hi hn q3) _ rfl) ?_)
   ·intro i h1;rcases q4 with q4|q4
    ·omega
    ·exact hm i (hint-r) () () q4
   ·rintro⟨c1,l,r⟩ ba ⟨rfl,rfl,q⟩;exact aG q
theorem a61{left:Bool}{key p q:Keyed}(h:kn p<=kn q)(hq:fJ left key q=true):fJ left key p=true:=by
 unfold fJ at hq ⊢
 grind
theorem tI{st:SortSt}{left:Bool}{key:Keyed}{xs:Array Keyed}{base n hint:Nat}{Q:Option Nat->SortSt->Prop}(hk:kindOf st=oneType')(gf:IK key)(gG:∀p∈xs.toList,IK p)(hs:∀i j (hj:j<xs.size) (iI:i<=j),base<=i->j<base+n->kn xs[i]<=kn xs[j])(hn:base+n<=xs.size)(hh:hint<n)(h:∀k,k<=n->(∀p∈(xs.toList.drop base).take k,fJ left key p=true)->(∀p∈(xs.toList.drop (base+k)).take (n-k),fJ left key p=false)->Q (some k) st):wpS (model prog w) A E s (GA left key xs base n hint) Q st:=by
 refine Qt (f:=λt=>(xs[base+t]?).getD key) hk gf (λt ht=>?_) (λu v ml hv hq=>a61 ?_ hq) hh λk hk kz lD=>h k hk ?_ ?_
 ·rw[cv xs (base+t) ()];exact⟨rfl,gG _ (by simp)⟩
 ·rw[cv xs (base+u) (),cv xs (base+v) ()]
  simp_all
 ·intro p hp;obtain⟨t,ht,rfl⟩:=bg.mp hp;simp only[List.length_take,List.length_drop,Array.length_toList] at ht;have:=kz t ();rw[cv xs (base+t) ()] at this;simpa using this
 ·intro p hp;obtain⟨t,ht,rfl⟩:=bg.mp hp;simp only[List.length_take,List.length_drop,Array.length_toList] at ht;have:=lD (k+t) () ();rw[cv xs (base+(k+t)) ()] at this;simpa[Nat.add_assoc] using this
end
section
variable{r:Keyed->Keyed->Prop}{all o x y u v:List Keyed}
structure MI(r:Keyed->Keyed->Prop)(all o x y:List Keyed):Prop where
 pm:(o++(x++y)).Perm all
 so:o.Pairwise r
 sx:x.Pairwise r
 sy:y.Pairwise r
 cr:∀p∈o,∀q,q∈x\/q∈y->r p q
 hl:∀q∈y,∀z,x.getLast?=some z->r q z
theorem MI.x1(h:MI r all o (u++v) y)(c:∀p∈u,∀q∈y,r p q)(ne:v≠[]):MI r all (o++u) v y:=by
 obtain⟨a1,a2,a3⟩:=aW.mp h.sx;refine⟨by have:=h.pm;simp_all,aW.mpr ⟨h.so,a1,λp hp q hq=>h.cr p hp q (.inl (bx _ hq))⟩,a2,h.sy,λp hp q hq=>?_,λq hq z hz=>h.hl q hq z ?_⟩
 ·rcases aR.mp hp with hp|hp
  ·exact h.cr p hp q (hq.imp (aO _) id)
  ·rcases hq with hq|hq
   ·exact a3 p hp q hq
   ·exact c p hp q hq
 simp_all
theorem MI.y1(h:MI r all o y (u++v))(c:∀p∈u,∀q∈y,r p q):MI r all (o++u) y v:=by
 obtain⟨a1,a2,a3⟩:=aW.mp h.sy;refine⟨?_,aW.mpr ⟨h.so,a1,λp hp q hq=>h.cr p hp q (.inr (bx _ hq))⟩,h.sx,a2,λp hp q hq=>?_,λq hq z hz=>h.hl q (aO _ hq) z hz⟩
 ·refine List.Perm.trans ?_ h.pm;rw[bQ];refine dZ _ ?_;rw[<- bQ,<- bQ];exact fA _ iY
 ·rcases aR.mp hp with hp|hp
  ·exact h.cr p hp q (hq.imp id (aO _))
  ·rcases hq with hq|hq
   ·exact c p hp q hq
   ·exact a3 p hp q hq
def Fn(r:Keyed->Keyed->Prop)(all z:List Keyed):Prop:=z.Perm all/\z.Pairwise r
theorem MI.e1(h:MI r all o x []):Fn r all (o++x):=by
 refine⟨by have:=h.pm;simpa using this,aW.mpr ⟨h.so,h.sx,λp hp q hq=>h.cr p hp q (.inl hq)⟩⟩
theorem MI.e0(h:MI r all o x y)(c:∀p∈x,∀q∈y,r p q):Fn r all (o++(x++y)) :=
 ⟨h.pm,aW.mpr ⟨h.so,aW.mpr ⟨h.sx,h.sy,c⟩,λp hp q hq=>h.cr p hp q (aR.mp hq)⟩⟩
theorem MI.e2{z:Keyed}(h:MI r all o [z] y):Fn r all (o++(y++[z])):=by
 refine⟨List.Perm.trans (dZ _ iY) h.pm,aW.mpr ⟨h.so,aW.mpr ⟨h.sy,h.sx,λp hp q hq=>?_⟩,λp hp q hq=>?_⟩⟩
 ·rw[aQ] at hq;subst hq;exact h.hl p hp q rfl
 ·exact h.cr p hp q ((aR.mp hq).symm)
theorem MI.len(h:MI r all o x y):o.length+x.length+y.length=all.length:=by
 have:=h.pm.length_eq;grind
theorem MI.hx{p q:Keyed}(h:MI r all o (p::x) y)(tr:∀a b c,r a b->r b c->r a c)(c:r q p):∀z∈p::x,r q z:=by
 intro z hz;rcases aI.mp hz with rfl|hz
 ·exact c
 ·exact tr _ _ _ c ((cZ.mp h.sx).1 z hz)
theorem MI.hy{p q:Keyed}(h:MI r all o y (p::x))(tr:∀a b c,r a b->r b c->r a c)(c:r q p):∀z∈p::x,r q z:=by
 intro z hz;rcases aI.mp hz with rfl|hz
 ·exact c
 ·exact tr _ _ _ c ((cZ.mp h.sy).1 z hz)
def Sm(st ba:SortSt):Prop:=kindOf ba=kindOf st/\arrOf ba=arrOf st/\pendingOf ba=pendingOf st/\failedOf ba=failedOf st
theorem dc{xs:Array Keyed}{i:Nat}(h:i<xs.size):xs.toList.drop i=xs[i]::xs.toList.drop (i+1):=by
 rw[df (by simpa using h)];simp
theorem ex(o':Array Keyed)(xs:Array Keyed)(i k:Nat):(o'++xs.extract i (i+k)).toList=o'.toList++(xs.toList.drop i).take k:=by
 simp
theorem dk(l:List Keyed)(i k:Nat):l.drop i=(l.drop i).take k++l.drop (i+k):=by
 rw[<- gB,bG]
theorem DX{k p:Keyed}(h:fJ false k p=true):kn p<=kn k:=by
 unfold fJ at h;grind
theorem yc{k p:Keyed}(h:fJ false k p=false):kn k<kn p:=by
 unfold fJ at h;simpa using h
theorem yR{k p:Keyed}(h:fJ true k p=true):kn p<kn k:=by
 unfold fJ at h;simpa using h
theorem CZ{k p:Keyed}(h:fJ true k p=false):kn k<=kn p:=by
 unfold fJ at h;grind
theorem dt{xs:Array Keyed}{i n:Nat}(h:xs.size-i<=n):(xs.toList.drop i).take n=xs.toList.drop i:=cV (by simp;omega)
end
section
variable{prog:Program}{w:World}{A:Around}{E:Value->Shared->Prop}{s:Shared}
def VQ:Nat->StateT SortSt Sem Unit:=sortPriv% PySem.Builtin.setMinGallop
theorem Sm.trans{a b c:SortSt}(h:Sm a b)(q:Sm b c):Sm a c:=⟨q.1.trans h.1,q.2.1.trans h.2.1,q.2.2.1.trans h.2.2.1,q.2.2.2.trans h.2.2.2⟩
theorem yo{st:SortSt}{g:Nat}{Q:Unit->SortSt->Prop}(h:∀ba,Sm st ba->Q Unit.unit ba):wpS (model prog w) A E s (VQ g) Q st:=my (h _ ⟨rfl,rfl,rfl,rfl⟩)
def fs{β U:Type}(Q I:β->U->Prop):ForInStep β->U->Prop
 |.done c,st=>Q c st
 |.yield c,st=>I c st
theorem forR{M:Model}{U β:Type}{a b:Nat}{f:Nat->β->StateT U Sem (ForInStep β)}(I:Nat->β->U->Prop){Q:β->U->Prop}(hs:∀i c st,a<=i->i<b->I i c st->wpS M A E s (f i c) (fs Q (I (i+1))) st)(hd:∀c st,I (max a b) c st->Q c st){c:β}{st:U}(h:I a c st):wpS M A E s (forIn [a:b] c f) Q st :=
 dB I (λi c st h1 h2 h3=>wpS_mono (hs i c st h1 h2 h3) λr ba hq=>by cases r<;>exact hq) hd h
noncomputable abbrev le(p q:Keyed):Prop:=kn p<=kn q
theorem yh:∀a b c,le a b->le b c->le a c:=λ_ _ _=>fB
theorem wy{xs:Array Keyed}(h:xs.toList.Pairwise le){u v:Nat}(hv:v<xs.size)(ml:u<=v):kn xs[u]<=kn xs[v]:=by
 by_cases e:u=v
 ·subst e;exact fV _
 ·have:=cJ.mp h u v (by simp;omega) (by simpa using hv) ();simpa using this
section
variable{st ba:SortSt}{a b o:Array Keyed}{i j n k:Nat}{p q:Keyed}
structure LI(st:SortSt)(a b:Array Keyed)(n:Nat)(o:Array Keyed)(i j:Nat)(ba:SortSt):Prop where
 sm:Sm st ba
 mi:MI le (a.toList++b.toList) o.toList (a.toList.drop i) (b.toList.drop j)
 hi:i+1<a.size
 hj:j<b.size
 ho:n<o.size
theorem dq{xs:Array Keyed}{i:Nat}{p:Keyed}(h:xs[i]?=some p):xs.toList.drop i=p::xs.toList.drop (i+1):=by
 obtain⟨hi,rfl⟩:=ou.mp h;exact dc hi
theorem dn{xs:Array Keyed}{i:Nat}(h:xs.size<=i):xs.toList.drop i=[]:=iA (by simpa using h)
theorem sZ(xs:Array Keyed)(i:Nat):(xs.extract i xs.size).toList=xs.toList.drop i:=by
 rw[ju,List.extract_eq_drop_take,dt (av _)]
theorem JZ{xs:Array Keyed}{i:Nat}(h:i<xs.size):xs.toList.drop i≠[]:=by simp_all
theorem fD(hm:MI le (a.toList++b.toList) o.toList (a.toList.drop i) (b.toList.drop j))(h:b.size<=j):Fn le (a.toList++b.toList) (o++a.extract i a.size++b.extract j b.size).toList:=by
 rw[bA,bA,sZ,sZ,dn h,dg];rw[dn h] at hm;exact hm.e1
theorem fL(hm:MI le (a.toList++b.toList) o.toList (a.toList.drop i) (b.toList.drop j))(h:i+1=a.size):Fn le (a.toList++b.toList) (o++b.extract j b.size++a.extract i a.size).toList:=by
 have e:a.toList.drop i=[a[i]]:=by rw[dc (),dn ()]
 rw[bA,bA,sZ,sZ,bQ,e];rw[e] at hm;exact hm.e2
theorem LI.y(h:LI st a b n o i j ba)(hp:a[i]?=some p)(hq:b[j]?=some q)(hc:kn q<=kn p) :
  (j+1=b.size->Fn le (a.toList++b.toList) (o.push q++a.extract i a.size++b.extract (j+1) b.size).toList)/\(¬j+1=b.size->LI st a b (n+1) (o.push q) i (j+1) ba):=by
 have hm:MI le (a.toList++b.toList) (o.push q).toList (a.toList.drop i) (b.toList.drop (j+1)):=by
  have hm:=h.mi;rw[dq hp] at hm ⊢;rw[dq hq] at hm;rw[dy];exact hm.y1 (u:=[q]) λu hu z hz=>by rw[aQ] at hu;subst hu;exact hm.hx yh hc z hz
 have hj:=h.hj;exact⟨λe=>fD hm (fy e.symm),λe=>⟨h.sm,hm,h.hi,by omega,by rw[iL];have:=h.ho;omega⟩⟩
theorem LI.x(h:LI st a b n o i j ba)(hp:a[i]?=some p)(hq:b[j]?=some q)(hc:kn p<=kn q) :
  (i+1+1=a.size->Fn le (a.toList++b.toList) (o.push p++b.extract j b.size++a.extract (i+1) a.size).toList)/\(¬i+1+1=a.size->LI st a b (n+1) (o.push p) (i+1) j ba):=by
 have hm:MI le (a.toList++b.toList) (o.push p).toList (a.toList.drop (i+1)) (b.toList.drop j):=by
  have hm:=h.mi;rw[dq hq] at hm ⊢;rw[dq hp] at hm;rw[dy];exact hm.x1 (u:=[p]) (λu hu z hz=>by rw[aQ] at hu;subst hu;exact hm.hy yh hc z hz) (JZ h.hi)
 have hi:=h.hi;exact⟨λe=>fL hm e,λe=>⟨h.sm,hm,by omega,h.hj,by rw[iL];have:=h.ho;omega⟩⟩
theorem LI.gx(h:LI st a b n o i j ba)(hq:b[j]?=some q)(h1:k<=a.size-i)(h2:∀p∈(a.toList.drop i).take k,fJ false q p=true)(h3:∀p∈(a.toList.drop (i+k)).take (a.size-i-k),fJ false q p=false) :
  (i+k+1=a.size->Fn le (a.toList++b.toList) (o++a.extract i (i+k)++b.extract j b.size++a.extract (i+k) a.size).toList) /\
  (i+k=a.size->Fn le (a.toList++b.toList) (o++a.extract i (i+k)++a.extract (i+k) a.size++b.extract j b.size).toList) /\
  (¬i+k+1=a.size->¬i+k=a.size->LI st a b n (o++a.extract i (i+k)) (i+k) j ba)/\∀p,a[i+k]?=some p->kn q<=kn p:=by
 have hi:=h.hi;have XY:∀p∈(a.toList.drop i).take k,∀q∈b.toList.drop j,le p q:=λp hp q xA=>by
  have hm:=h.mi;rw[dq hq] at xA hm;exact hm.hy yh (DX (h2 p hp)) q xA
 have M2:i+k<a.size->MI le (a.toList++b.toList) (o++a.extract i (i+k)).toList (a.toList.drop (i+k)) (b.toList.drop j):=λdF=>by
  have hm:=h.mi;rw[dk a.toList i k] at hm;rw[ex];exact hm.x1 XY (JZ dF)
 refine⟨λe=>fL (M2 ()) e,λe=>?_,λe1 e2=>⟨h.sm,M2 (),by omega,h.hj,by rw[gR];have:=h.ho;omega⟩,λp hp=>cw (yc (h3 p ?_))⟩
 ·rw[bA,bA,ex,sZ,sZ,dn (fy e.symm),dt (),dg,bQ];rw[dt ()] at XY;exact h.mi.e0 XY
 ·rw[dt (),dq hp];exact da ..
theorem LI.gy(h:LI st a b n o i j ba)(hp:a[i]?=some p)(h1:k<=b.size-j)(h2:∀q∈(b.toList.drop j).take k,fJ true p q=true)(h3:∀q∈(b.toList.drop (j+k)).take (b.size-j-k),fJ true p q=false) :
  (j+k=b.size->Fn le (a.toList++b.toList) (o++b.extract j (j+k)++a.extract i a.size++b.extract (j+k) b.size).toList) /\
  (¬j+k=b.size->LI st a b n (o++b.extract j (j+k)) i (j+k) ba)/\∀q,b[j+k]?=some q->kn p<=kn q:=by
 have hj:=h.hj;have hm:MI le (a.toList++b.toList) (o++b.extract j (j+k)).toList (a.toList.drop i) (b.toList.drop (j+k)):=by
  have hm:=h.mi;rw[dk b.toList j k] at hm;rw[ex];refine hm.y1 λq hq z hz=>?_;rw[dq hp] at hz hm;exact hm.hx yh (cw (yR (h2 q hq))) z hz
 refine⟨λe=>fD hm (fy e.symm),λe=>⟨h.sm,hm,h.hi,by omega,by rw[gR];have:=h.ho;omega⟩,λq hq=>CZ (h3 q ?_)⟩;rw[dt (),dq hq];exact da ..
theorem LI.ex(h:LI st a b n o i j ba)(gG:∀p∈a.toList++b.toList,IK p):∃p q,a[i]?=some p/\b[j]?=some q/\IK p/\IK q:=by
 have hi:=h.hi;have hj:=h.hj;exact⟨a[i],b[j],by simp,by simp,gG _ (bx _ (by simp)),gG _ (aO _ (by simp))⟩
theorem LI.uw(h:LI st a b n o i j ba){fZ:SortSt}(q:Sm ba fZ):LI st a b n o i j fZ:=⟨h.sm.trans q,h.mi,h.hi,h.hj,h.ho⟩
theorem LI.wk(h:LI st a b n o i j ba){m:Nat}(hm:m<=n):LI st a b m o i j ba:=⟨h.sm,h.mi,h.hi,h.hj,cY hm h.ho⟩
theorem LI.full(h:LI st a b (a.size+b.size) o i j ba):False:=by
 have h1:=h.mi.len;have h2:=h.ho
 grind
def LR(st:SortSt)(a b:Array Keyed)(n:Nat)(Q:Array Keyed->SortSt->Prop)(r:Option (Array Keyed))(o:Array Keyed)(i j:Nat)(ba:SortSt):Prop:=match r with
 |some z=>Q z ba
 |none=>LI st a b n o i j ba
end
noncomputable abbrev nQ:Array Keyed->SortSt->Prop:=λ_ _=>False
theorem QR{st:SortSt}{a b:Array Keyed}{Q:Array Keyed->SortSt->Prop}(hk:kindOf st=oneType')(gG:∀p∈a.toList++b.toList,IK p)(ha:0<a.size)(hb:0<b.size)(h0:MI le (a.toList++b.toList) [] a.toList b.toList)(hf:∀p∈a.toList,kn b[0]<=kn p)(h:∀z ba,Sm st ba->Fn le (a.toList++b.toList) z.toList->Q z ba):wpS (model prog w) A E s (MJ a b) Q st:=by
  have IA:∀p∈a.toList,IK p:=λp hp=>gG p (bx _ hp);have IB:∀p∈b.toList,IK p:=λp hp=>gG p (aO _ hp);have SA:∀x n u v (hv:v<a.size) (ml:u<=v),x<=u->v<x+n->kn a[u]<=kn a[v]:=λ_ _ u v hv ml _ _=>wy h0.sx hv ml;have SB:∀x n u v (hv:v<b.size) (ml:u<=v),x<=u->v<x+n->kn b[u]<=kn b[v]:=λ_ _ u v hv ml _ _=>wy h0.sy hv ml;have h1:MI le (a.toList++b.toList) (#[b[0]]:Array Keyed).toList (a.toList.drop 0) (b.toList.drop 1):=by
    have:b.toList=[b[0]]++b.toList.drop 1:=by have:=dc hb;simpa using this
    refine MI.y1 (o:=[]) (by rw[<- this];exact h0) ?_;intro p hp q hq;rw[aQ] at hp;subst hp;exact hf q hq
  have s0:Sm st st:=⟨rfl,rfl,rfl,rfl⟩
  refine aA (pj (ei ⟨rfl,?_⟩));refine aA (v8 (p:=b[0]) (by simp[hb]) ?_);refine d6 (λe=>aG (h _ st s0 (fD h1 (fy (eq_of_beq e).symm)))) λe=>?_;refine d6 (λe2=>aG (h _ st s0 (fL h1 (eq_of_beq e2)))) λe2=>?_;have e:¬1=b.size:=λz=>e (br.mpr z);have e2:¬0+1=a.size:=λz=>e2 (br.mpr z);refine aA (mz ?_);refine aA (wpS_mono (forR (I:=λn (c:Option (Array Keyed)×Array Keyed×Nat×Nat×Nat)=>LR st a b n nQ c.1 c.2.1 c.2.2.1 c.2.2.2.1) (Q:=λc=>LR st a b (a.size+b.size) Q c.1 c.2.1 c.2.2.1 c.2.2.2.1) ?_ ?_ (show LI st a b 0 #[b[0]] 0 1 st from⟨s0,h1,by omega,by omega,by simp⟩)) ?_)
  · rintro n ⟨c1,o,i,j,mg⟩ fm _ hn hL;cases c1 with
    |some z=>exact hL.elim
    |none =>
    refine aA (wpS_mono (forR (I:=λx (c:Option (Array Keyed)×Array Keyed×Nat×Nat×Nat×Nat)=>LR st a b (n+x) nQ c.1 c.2.1 c.2.2.1 c.2.2.2.1) (Q:=λc=>LR st a b (n+1) Q c.1 c.2.1 c.2.2.1 c.2.2.2.1) ?_ ?_ hL) ?_)
    · rintro x ⟨c1,o,i,j,ac,bc⟩ fm _ _ hL;cases c1 with
      |some z=>exact hL.elim
      |none =>
      obtain⟨p,q,hp,hq,ip,iq⟩:=hL.ex gG;refine aA (v8 hq (aA (v8 hp (aA (yi (hL.sm.1.trans hk) iq ip ?_)))));refine d6 (λhc=>aA (v8 hq ?_)) (λhc=>aA (v8 hp ?_))
      · have Y:=hL.y hp hq (cw (bo hc));refine d6 (λe=>aG (h _ _ hL.sm (Y.1 (eq_of_beq e)))) λe=>?_;have Z:=Y.2 λz=>e (br.mpr z);exact d6 (λ_=>aG (Z.wk ())) (λ_=>aG Z)
      · have Y:=hL.x hp hq (gC.mp λz=>hc (aw z));refine d6 (λe=>aG (h _ _ hL.sm (Y.1 (eq_of_beq e)))) λe=>?_;have Z:=Y.2 λz=>e (br.mpr z);exact d6 (λ_=>aG (Z.wk ())) (λ_=>aG Z)
    · rintro⟨c1,o,i,j,ac,bc⟩ fm hL;cases c1 with
      |some z=>exact hL.elim
      |none=>exact LI.wk hL ()
    · rintro⟨c1,o,i,j,ac,bc⟩ fm hL;cases c1 with
      |some z=>exact aG hL
      |none =>
      refine aA (pj (ei ⟨rfl,?_⟩));refine aA (wpS_mono (forR (I:=λx (c:Option (Array Keyed)×Array Keyed×Nat×Nat×Nat×Nat×Nat)=>LR st a b (n+1) nQ c.1 c.2.1 c.2.2.1 c.2.2.2.1) (Q:=λc=>LR st a b (n+1) Q c.1 c.2.1 c.2.2.1 c.2.2.2.1) ?_ ?_ hL) ?_)
      · rintro x ⟨c1,o,i,j,mg,ac,bc⟩ fm _ _ hL;cases c1 with
        |some z=>exact hL.elim
        |none =>
        replace hL:LI st a b (n+1) o i j fm:=hL
        lift_lets
        intro s1 out s2 ia s3 ib s4 MH s5 Ye UB Fs jp;have e1:o=out:=rfl;have e2:i=ia:=rfl;have e3:j=ib:=rfl;have e4:j+1=Fs:=rfl
        clear_value out ia ib Fs
        subst e1 e2 e3 e4;have J:∀u m,wpS (model prog w) A E s (jp u m) (fs (λc=>LR st a b (n+1) Q c.1 c.2.1 c.2.2.1 c.2.2.2.1) (λc=>LR st a b (n+1) nQ c.1 c.2.1 c.2.2.1 c.2.2.2.1)) fm:=by
          intro u m;refine aA (yo (g:=m) λfZ gi=>?_)
          replace hL:=hL.uw gi
          obtain⟨p,q,hp,hq,ip,iq⟩:=hL.ex gG;refine aA (v8 hq ?_);refine aA (tI (hL.sm.1.trans hk) iq IA (SA _ _) (by grind) (by have:=hL.hi;omega) λk lE kz lD=>?_);have G:=hL.gx hq lE kz lD;clear lE kz lD hp ip;dsimp -zeta -zetaHave only
          lift_lets
          intro Yd uX zE ia2;have J2:∀u o i,LI st a b (n+1) o i j fZ->(∀p,a[i]?=some p->kn q<=kn p)->wpS (model prog w) A E s (uX u o i) (fs (λc=>LR st a b (n+1) Q c.1 c.2.1 c.2.2.1 c.2.2.2.1) (λc=>LR st a b (n+1) nQ c.1 c.2.1 c.2.2.1 c.2.2.2.1)) fZ:=by
            intro u o i hL hc;obtain⟨p,q2,hp,_,ip,_⟩:=hL.ex gG;have Y:=hL.y hp hq (hc p hp);refine aA (v8 hq ?_);refine d6 (λe=>aG (h _ _ hL.sm (Y.1 (eq_of_beq e)))) λe=>?_;have Z:=Y.2 λz=>e (br.mpr z);refine aA (v8 hp ?_);refine aA (tI (hL.sm.1.trans hk) ip IB (SB _ _) (by have:=Z.hj;omega) (by have:=Z.hj;omega) λk lE kz lD=>?_);have G:=Z.gy hp lE kz lD;dsimp -zeta -zetaHave only
            lift_lets
            intro Uz uW zD ib3;have J3:∀u o j,LI st a b (n+1) o i j fZ->(∀q,b[j]?=some q->kn p<=kn q)->wpS (model prog w) A E s (uW u o j) (fs (λc=>LR st a b (n+1) Q c.1 c.2.1 c.2.2.1 c.2.2.2.1) (λc=>LR st a b (n+1) nQ c.1 c.2.1 c.2.2.1 c.2.2.2.1)) fZ:=by
              intro u o j hL hc;obtain⟨p2,q,_,hq,_,_⟩:=hL.ex gG;have Y:=hL.x hp hq (hc q hq);refine aA (v8 hp ?_);refine d6 (λe=>aG (h _ _ hL.sm (Y.1 (eq_of_beq e)))) λe=>?_;have Z:=Y.2 λz=>e (br.mpr z);exact d6 (λ_=>aG (Z.wk (cI _))) (λ_=>aG (Z.wk (cI _)))
            clear_value uW
            refine d6 (λ_=>d6 (λe=>aG (h _ _ hL.sm (G.1 (eq_of_beq e)))) λe=>J3 _ _ _ ((G.2.1 λz=>e (br.mpr z)).wk (cI _)) G.2.2) (λe=>J3 _ _ _ (Z.wk (cI _)) ?_)
            simp_all
          clear_value uX
          refine d6 (λ_=>d6 (λe=>aG (h _ _ hL.sm (G.1 (eq_of_beq e)))) λe=>d6 (λe2=>aG (h _ _ hL.sm (G.2.1 (eq_of_beq e2)))) λe2=>J2 _ _ _ (G.2.2.1 (λz=>e (br.mpr z)) (λz=>e2 (br.mpr z))) G.2.2.2) (λe=>J2 _ _ _ hL ?_)
          simp_all
        clear_value jp
        exact d6 (λ_=>J _ _) (λ_=>J _ _)
      · rintro⟨c1,o,i,j,mg,ac,bc⟩ fm hL;cases c1 with
        |some z=>exact hL.elim
        |none=>exact hL
      · rintro⟨c1,o,i,j,mg,ac,bc⟩ fm hL;cases c1 with
        |some z=>exact aG hL
        |none=>exact aA (yo λfZ gi=>aG (LI.uw hL gi))
  · rintro⟨c1,o,i,j,mg⟩ fm hL;cases c1 with
    |some z=>exact hL.elim
    |none=>exact LI.wk hL ()
  · rintro⟨c1,o,i,j,mg⟩ fm hL;cases c1 with
    |some z=>exact aG hL
    |none=>exact(LI.full hL).elim
end
section
variable{prog:Program}{w:World}{A:Around}{E:Value->Shared->Prop}{s:Shared}
noncomputable abbrev ge(p q:Keyed):Prop:=kn q<=kn p
theorem yf:∀a b c,ge a b->ge b c->ge a c:=λ_ _ _ h1 h2=>fB h2 h1
def rt(xs:Array Keyed)(n:Nat):List Keyed:=(xs.toList.take n).reverse
theorem Dr{xs:Array Keyed}{n:Nat}(h:n<xs.size):rt xs (n+1)=xs[n]::rt xs n:=by
 unfold rt;rw[List.take_succ_eq_append_getElem (by simpa using h),Es];simp
theorem JF{xs:Array Keyed}{n:Nat}{p:Keyed}(h:p∈rt xs n):p∈xs.toList:=du (cX.mp h)
theorem Bw(xs:Array Keyed){k n:Nat}(h:k<=n):rt xs n=((xs.toList.drop k).take (n-k)).reverse++rt xs k:=by
 unfold rt;rw[<- Es]
 congr 1
 have:=bG k (xs.toList.take n);rw[List.take_take,List.drop_take,mR h] at this;exact this.symm
theorem Ds(o xs:Array Keyed)(k n:Nat):(o++(xs.extract k n).reverse).toList=o.toList++((xs.toList.drop k).take (n-k)).reverse:=by
 simp
theorem tT(xs:Array Keyed)(n:Nat):(xs.extract 0 n).toList=(rt xs n).reverse:=by
 simp[rt]
theorem Fn.rev{all l:List Keyed}(h:Fn ge all l):Fn le all l.reverse:=⟨(kO l).trans h.1,fM.mpr h.2⟩
theorem Pz{xs:Array Keyed}{i:Nat}(h:0<i)(hi:i<xs.size):rt xs i≠[]:=by
 obtain⟨i,rfl⟩:∃m,i=m+1:=⟨i-1,by omega⟩
 rw[Dr ()];exact lV _ _
theorem wt(xs:Array Keyed):rt xs xs.size=xs.toList.reverse:=by unfold rt;rw[cV (by simp)]
section
variable{st ba:SortSt}{a b o:Array Keyed}{na nb n t:Nat}{p q:Keyed}
theorem X7{xs:Array Keyed}{n:Nat}{p:Keyed}(h0:0<n)(h:xs[n-1]?=some p):rt xs n=p::rt xs (n-1):=by
 obtain⟨n,rfl⟩:∃m,n=m+1:=⟨n-1,by omega⟩
 obtain⟨hi,rfl⟩:=ou.mp h;exact Dr hi
theorem yY(xs:Array Keyed):rt xs 0=[]:=by simp[rt]
structure HI(st:SortSt)(a b:Array Keyed)(n:Nat)(na nb:Nat)(o:Array Keyed)(ba:SortSt):Prop where
 sm:Sm st ba
 mi:MI ge (a.toList++b.toList) o.toList (rt b nb) (rt a na)
 b1:1<nb
 b2:nb<=b.size
 a1:0<na
 a2:na<=a.size
 ho:n<o.size
theorem hD(hm:MI ge (a.toList++b.toList) o.toList (rt b nb) (rt a na))(h:na=0):Fn le (a.toList++b.toList) (a.extract 0 na++b.extract 0 nb++o.reverse).toList:=by
 subst h;rw[bA,bA,jt,tT,tT,yY];simpa using hm.e1.rev
theorem hL(hm:MI ge (a.toList++b.toList) o.toList (rt b nb) (rt a na))(h:nb=1)(hb:0<b.size):Fn le (a.toList++b.toList) (b.extract 0 nb++a.extract 0 na++o.reverse).toList:=by
 subst h;have e:rt b 1=[b[0]]:=by rw[Dr hb,yY]
 rw[e] at hm;rw[bA,bA,jt,tT,tT,e];simpa using hm.e2.rev
theorem HI.y(h:HI st a b n na nb o ba)(hp:a[na-1]?=some p)(hq:b[nb-1]?=some q)(hc:kn q<=kn p) :
  (na-1=0->Fn le (a.toList++b.toList) (a.extract 0 (na-1)++b.extract 0 nb++(o.push p).reverse).toList)/\(¬na-1=0->HI st a b (n+1) (na-1) nb (o.push p) ba):=by
 have h1:=h.b1;have h2:=h.a2;have hm:MI ge (a.toList++b.toList) (o.push p).toList (rt b nb) (rt a (na-1)):=by
  have hm:=h.mi;rw[X7 () hq] at hm ⊢;rw[X7 h.a1 hp] at hm;rw[dy];exact hm.y1 (u:=[p]) λu hu z hz=>by rw[aQ] at hu;subst hu;exact hm.hx yf hc z hz
 exact⟨λe=>hD hm e,λe=>⟨h.sm,hm,h1,h.b2,by omega,by omega,by rw[iL];have:=h.ho;omega⟩⟩
theorem HI.x(h:HI st a b n na nb o ba)(hp:a[na-1]?=some p)(hq:b[nb-1]?=some q)(hc:kn p<=kn q) :
  (nb-1=1->Fn le (a.toList++b.toList) (b.extract 0 (nb-1)++a.extract 0 na++(o.push q).reverse).toList)/\(¬nb-1=1->HI st a b (n+1) na (nb-1) (o.push q) ba):=by
 have h1:=h.b1;have h2:=h.b2;have hm:MI ge (a.toList++b.toList) (o.push q).toList (rt b (nb-1)) (rt a na):=by
  have hm:=h.mi;rw[X7 h.a1 hp] at hm ⊢;rw[X7 () hq] at hm;rw[dy];exact hm.x1 (u:=[q]) (λu hu z hz=>by rw[aQ] at hu;subst hu;exact hm.hy yf hc z hz) (Pz () ())
 exact⟨λe=>hL hm e (),λe=>⟨h.sm,hm,by omega,by omega,h.a1,h.a2,by rw[iL];have:=h.ho;omega⟩⟩
theorem HI.gy(h:HI st a b n na nb o ba)(hq:b[nb-1]?=some q)(h1:t<=na)(h2:∀p∈(a.toList.drop 0).take t,fJ false q p=true)(h3:∀p∈(a.toList.drop (0+t)).take (na-t),fJ false q p=false) :
  (t=0->Fn le (a.toList++b.toList) (a.extract 0 t++b.extract 0 nb++(o++(a.extract t na).reverse).reverse).toList)/\(¬t=0->HI st a b n t nb (o++(a.extract t na).reverse) ba)/\∀p,0<t->a[t-1]?=some p->kn p<=kn q:=by
 have h4:=h.b1;have h5:=h.a2;rw[Nat.zero_add] at h3;have hm:MI ge (a.toList++b.toList) (o++(a.extract t na).reverse).toList (rt b nb) (rt a t):=by
  have hm:=h.mi;rw[Bw a h1] at hm;rw[Ds];refine hm.y1 λp hp z hz=>?_;rw[X7 () hq] at hz hm;exact hm.hx yf (cw (yc (h3 p (cX.mp hp)))) z hz
 refine⟨λe=>hD hm e,λe=>⟨h.sm,hm,h4,h.b2,by omega,by omega,by rw[gR];have:=h.ho;omega⟩,λp h0 hp=>DX (h2 p ?_)⟩;have:=X7 h0 hp;exact cX.mp (show p∈rt a t by rw[this];exact da ..)
theorem HI.gx(h:HI st a b n na nb o ba)(hp:a[na-1]?=some p)(h1:t<=nb)(h2:∀q∈(b.toList.drop 0).take t,fJ true p q=true)(h3:∀q∈(b.toList.drop (0+t)).take (nb-t),fJ true p q=false) :
  (t=1->Fn le (a.toList++b.toList) (b.extract 0 t++a.extract 0 na++(o++(b.extract t nb).reverse).reverse).toList)/\(t=0->Fn le (a.toList++b.toList) (a.extract 0 na++b.extract 0 t++(o++(b.extract t nb).reverse).reverse).toList) /\
  (¬t=1->¬t=0->HI st a b n na t (o++(b.extract t nb).reverse) ba)/\∀q,0<t->b[t-1]?=some q->kn q<=kn p:=by
 have h4:=h.b1;have h5:=h.b2;rw[Nat.zero_add] at h3;have Y2:∀p∈((b.toList.drop t).take (nb-t)).reverse,∀q∈rt a na,ge p q:=λq hq z hz=>by
  have hm:=h.mi;rw[X7 h.a1 hp] at hz hm;exact hm.hy yf (CZ (h3 q (cX.mp hq))) z hz
 have hm:0<t->MI ge (a.toList++b.toList) (o++(b.extract t nb).reverse).toList (rt b t) (rt a na):=λh0=>by
  have hm:=h.mi;rw[Bw b h1] at hm;rw[Ds];refine hm.x1 Y2 λe=>?_;have:=ie List.length e;simp only[rt,List.length_reverse,List.length_take,Array.length_toList,List.length_nil] at this;omega
 refine⟨λe=>hL (hm ()) e (),λe=>?_,λe1 e2=>⟨h.sm,hm (),by omega,by omega,h.a1,h.a2,by rw[gR];have:=h.ho;omega⟩,λq h0 hq=>cw (yR (h2 q ?_))⟩
 ·subst e;have hm:=h.mi;rw[Bw b h1,yY,dg] at hm;have:=(hm.e0 Y2).rev;rw[bA,bA,jt,Ds,tT,tT,yY]
  simp_all
 ·have:=X7 h0 hq;exact cX.mp (show q∈rt b t by rw[this];exact da ..)
theorem HI.ex(h:HI st a b n na nb o ba)(gG:∀p∈a.toList++b.toList,IK p):∃p q,a[na-1]?=some p/\b[nb-1]?=some q/\IK p/\IK q:=by
 have h1:=h.b1;have h2:=h.b2;have h3:=h.a1;have h4:=h.a2;have h5:na-1<a.size:=by omega
 have h6:nb-1<b.size:=by omega
 exact⟨a[na-1],b[nb-1],cv a (na-1) h5,cv b (nb-1) h6,gG _ (bx _ (by simp)),gG _ (aO _ (by simp))⟩
theorem HI.uw(h:HI st a b n na nb o ba){fZ:SortSt}(q:Sm ba fZ):HI st a b n na nb o fZ:=⟨h.sm.trans q,h.mi,h.b1,h.b2,h.a1,h.a2,h.ho⟩
theorem HI.wk(h:HI st a b n na nb o ba){m:Nat}(hm:m<=n):HI st a b m na nb o ba:=⟨h.sm,h.mi,h.b1,h.b2,h.a1,h.a2,cY hm h.ho⟩
theorem HI.full(h:HI st a b (a.size+b.size) na nb o ba):False:=by
 have h1:=h.mi.len;have h2:=h.ho;simp only[List.length_append,Array.length_toList] at h1;omega
def HR(st:SortSt)(a b:Array Keyed)(n:Nat)(Q:Array Keyed->SortSt->Prop)(r:Option (Array Keyed))(na nb:Nat)(o:Array Keyed)(ba:SortSt):Prop:=match r with
 |some z=>Q z ba
 |none=>HI st a b n na nb o ba
end
theorem QQ{st:SortSt}{a b:Array Keyed}{Q:Array Keyed->SortSt->Prop}(hk:kindOf st=oneType')(gG:∀p∈a.toList++b.toList,IK p)(ha:0<a.size)(hb:0<b.size)(sa:a.toList.Pairwise le)(sb:b.toList.Pairwise le)(h0:MI ge (a.toList++b.toList) [] (rt b b.size) (rt a a.size))(hf:∀p∈b.toList,kn p<=kn a[a.size-1])(h:∀z ba,Sm st ba->Fn le (a.toList++b.toList) z.toList->Q z ba):wpS (model prog w) A E s (MK a b) Q st:=by
  have IA:∀p∈a.toList,IK p:=λp hp=>gG p (bx _ hp);have IB:∀p∈b.toList,IK p:=λp hp=>gG p (aO _ hp);have SA:∀x n u v (hv:v<a.size) (ml:u<=v),x<=u->v<x+n->kn a[u]<=kn a[v]:=λ_ _ u v hv ml _ _=>wy sa hv ml;have SB:∀x n u v (hv:v<b.size) (ml:u<=v),x<=u->v<x+n->kn b[u]<=kn b[v]:=λ_ _ u v hv ml _ _=>wy sb hv ml;have sI:a[a.size-1]?=some a[a.size-1]:=cv _ _ _;have h1:MI ge (a.toList++b.toList) (#[a[a.size-1]]:Array Keyed).toList (rt b b.size) (rt a (a.size-1)):=by
    rw[X7 ha sI] at h0;refine MI.y1 (o:=[]) (u:=[a[a.size-1]]) h0 ?_;intro p hp q hq;rw[aQ] at hp;subst hp;exact hf q (JF hq)
  have s0:Sm st st:=⟨rfl,rfl,rfl,rfl⟩
  refine aA (pj (ei ⟨rfl,?_⟩));refine aA (v8 sI ?_);refine d6 (λe=>aG (h _ st s0 (hD h1 (eq_of_beq e)))) λe=>?_;refine d6 (λe2=>aG (h _ st s0 (hL h1 (eq_of_beq e2) hb))) λe2=>?_;have e:¬a.size-1=0:=λz=>e (br.mpr z);have e2:¬b.size=1:=λz=>e2 (br.mpr z);refine aA (mz ?_);refine aA (wpS_mono (forR (I:=λn (c:Option (Array Keyed)×Nat×Nat×Array Keyed×Nat)=>HR st a b n nQ c.1 c.2.1 c.2.2.1 c.2.2.2.1) (Q:=λc=>HR st a b (a.size+b.size) Q c.1 c.2.1 c.2.2.1 c.2.2.2.1) ?_ ?_ (show HI st a b 0 (a.size-1) b.size #[a[a.size-1]] st from⟨s0,h1,by omega,by omega,by omega,by omega,by simp⟩)) ?_)
  · rintro n ⟨c1,na,nb,o,mg⟩ fm _ hn hL;cases c1 with
    |some z=>exact hL.elim
    |none =>
    refine aA (wpS_mono (forR (I:=λx (c:Option (Array Keyed)×Nat×Nat×Array Keyed×Nat×Nat)=>HR st a b (n+x) nQ c.1 c.2.1 c.2.2.1 c.2.2.2.1) (Q:=λc=>HR st a b (n+1) Q c.1 c.2.1 c.2.2.1 c.2.2.2.1) ?_ ?_ hL) ?_)
    · rintro x ⟨c1,na,nb,o,ac,bc⟩ fm _ _ hL;cases c1 with
      |some z=>exact hL.elim
      |none =>
      obtain⟨p,q,hp,hq,ip,iq⟩:=hL.ex gG;refine aA (v8 hq (aA (v8 hp (aA (yi (hL.sm.1.trans hk) iq ip ?_)))));refine d6 (λhc=>aA (v8 hp ?_)) (λhc=>aA (v8 hq ?_))
      · have Y:=hL.y hp hq (cw (bo hc));refine d6 (λe=>aG (h _ _ hL.sm (Y.1 (eq_of_beq e)))) λe=>?_;have Z:=Y.2 λz=>e (br.mpr z);exact d6 (λ_=>aG (Z.wk ())) (λ_=>aG Z)
      · have Y:=hL.x hp hq (gC.mp λz=>hc (aw z));refine d6 (λe=>aG (h _ _ hL.sm (Y.1 (eq_of_beq e)))) λe=>?_;have Z:=Y.2 λz=>e (br.mpr z);exact d6 (λ_=>aG (Z.wk ())) (λ_=>aG Z)
    · rintro⟨c1,na,nb,o,ac,bc⟩ fm hL;cases c1 with
      |some z=>exact hL.elim
      |none=>exact HI.wk hL ()
    · rintro⟨c1,na,nb,o,ac,bc⟩ fm hL;cases c1 with
      |some z=>exact aG hL
      |none =>
      refine aA (pj (ei ⟨rfl,?_⟩));refine aA (wpS_mono (forR (I:=λx (c:Option (Array Keyed)×Nat×Nat×Array Keyed×Nat×Nat×Nat)=>HR st a b (n+1) nQ c.1 c.2.1 c.2.2.1 c.2.2.2.1) (Q:=λc=>HR st a b (n+1) Q c.1 c.2.1 c.2.2.1 c.2.2.2.1) ?_ ?_ hL) ?_)
      · rintro x ⟨c1,na,nb,o,mg,ac,bc⟩ fm _ _ hL;cases c1 with
        |some z=>exact hL.elim
        |none =>
        replace hL:HI st a b (n+1) na nb o fm:=hL
        lift_lets
        intro s1 Ff s2 Fe s3 out s4 MH s5 Ye UB Fd jp;have e1:na=Ff:=rfl;have e2:nb=Fe:=rfl;have e3:o=out:=rfl;have e4:nb-1=Fd:=rfl
        clear_value Ff Fe out Fd
        subst e1 e2 e3 e4;have J:∀u m,wpS (model prog w) A E s (jp u m) (fs (λc=>HR st a b (n+1) Q c.1 c.2.1 c.2.2.1 c.2.2.2.1) (λc=>HR st a b (n+1) nQ c.1 c.2.1 c.2.2.1 c.2.2.2.1)) fm:=by
          intro u m;refine aA (yo (g:=m) λfZ gi=>?_)
          replace hL:=hL.uw gi
          obtain⟨p,q,hp,hq,ip,iq⟩:=hL.ex gG;refine aA (v8 hq ?_);refine aA (tI (hL.sm.1.trans hk) iq IA (SA _ _) (by have:=hL.a2;omega) (by have:=hL.a1;omega) λk lE kz lD=>?_);have G:=hL.gy hq lE kz lD;clear kz lD hp ip;dsimp -zeta -zetaHave only
          lift_lets
          intro k2 Yd uX zE na2;have J2:∀u na o,HI st a b (n+1) na nb o fZ->(∀p,0<na->a[na-1]?=some p->kn p<=kn q)->wpS (model prog w) A E s (uX u na o) (fs (λc=>HR st a b (n+1) Q c.1 c.2.1 c.2.2.1 c.2.2.2.1) (λc=>HR st a b (n+1) nQ c.1 c.2.1 c.2.2.1 c.2.2.2.1)) fZ:=by
            intro u na o hL hc;obtain⟨p,q2,hp,_,ip,_⟩:=hL.ex gG;have Y:=hL.x hp hq (hc p hL.a1 hp);refine aA (v8 hq ?_);refine d6 (λe=>aG (h _ _ hL.sm (Y.1 (eq_of_beq e)))) λe=>?_;have Z:=Y.2 λz=>e (br.mpr z);refine aA (v8 hp ?_);refine aA (tI (hL.sm.1.trans hk) ip IB (SB _ _) (by have:=Z.b2;omega) (by have:=Z.b1;omega) λk lE kz lD=>?_);have G:=Z.gx hp lE kz lD;dsimp -zeta -zetaHave only
            lift_lets
            intro k3 Uz uW zD nb3;have J3:∀u nb o,HI st a b (n+1) na nb o fZ->(∀q,0<nb->b[nb-1]?=some q->kn q<=kn p)->wpS (model prog w) A E s (uW u nb o) (fs (λc=>HR st a b (n+1) Q c.1 c.2.1 c.2.2.1 c.2.2.2.1) (λc=>HR st a b (n+1) nQ c.1 c.2.1 c.2.2.1 c.2.2.2.1)) fZ:=by
              intro u nb o hL hc;obtain⟨p2,q,_,hq,_,_⟩:=hL.ex gG;have Y:=hL.y hp hq (hc q (by have:=hL.b1;omega) hq);refine aA (v8 hp ?_);refine d6 (λe=>aG (h _ _ hL.sm (Y.1 (eq_of_beq e)))) λe=>?_;have Z:=Y.2 λz=>e (br.mpr z);exact d6 (λ_=>aG (Z.wk (cI _))) (λ_=>aG (Z.wk (cI _)))
            clear_value uW
            refine d6 (λ_=>d6 (λe=>aG (h _ _ hL.sm (G.1 (eq_of_beq e)))) λe=>d6 (λe2=>aG (h _ _ hL.sm (G.2.1 (eq_of_beq e2)))) λe2=>J3 _ _ _ ((G.2.2.1 (λz=>e (br.mpr z)) (λz=>e2 (br.mpr z))).wk (cI _)) G.2.2.2) (λe=>J3 _ _ _ (Z.wk (cI _)) ?_);have e:k=nb-1:=by omega
            subst e;exact G.2.2.2
          clear_value uX
          refine d6 (λ_=>d6 (λe=>aG (h _ _ hL.sm (G.1 (eq_of_beq e)))) λe=>J2 _ _ _ (G.2.1 (λz=>e (br.mpr z))) G.2.2) (λe=>J2 _ _ _ hL ?_);have e:k=na:=by omega
          subst e;exact G.2.2
        clear_value jp
        exact d6 (λ_=>J _ _) (λ_=>J _ _)
      · rintro⟨c1,na,nb,o,mg,ac,bc⟩ fm hL;cases c1 with
        |some z=>exact hL.elim
        |none=>exact hL
      · rintro⟨c1,na,nb,o,mg,ac,bc⟩ fm hL;cases c1 with
        |some z=>exact aG hL
        |none=>exact aA (yo λfZ gi=>aG (HI.uw hL gi))
  · rintro⟨c1,na,nb,o,mg⟩ fm hL;cases c1 with
    |some z=>exact hL.elim
    |none=>exact HI.wk hL ()
  · rintro⟨c1,na,nb,o,mg⟩ fm hL;cases c1 with
    |some z=>exact aG hL
    |none=>exact(HI.full hL).elim
end
def seg(l:List Keyed)(s n:Nat):List Keyed:=(l.drop s).take n
theorem A7{l:List Keyed}{s n:Nat}(h:s+n<=l.length):(seg l s n).length=n:=by simp[seg];omega
theorem U7(l:List Keyed)(s n k:Nat):(seg l s n)[k]?=if k<n then l[s+k]? else none:=by
 unfold seg;rw[LP];split<;>simp
theorem Ce(l:List Keyed)(s n m:Nat):seg l s (n+m)=seg l s n++seg l (s+n) m:=by
 unfold seg;rw[List.take_add,gB]
theorem CO{l l':List Keyed}{s n:Nat}(h:∀k,s<=k->k<s+n->l'[k]?=l[k]?):seg l' s n=seg l s n:=by
 apply bP;intro k;rw[U7,U7]
 grind
def put(l:List Keyed)(s:Nat)(m:List Keyed):List Keyed:=l.take s++(m++l.drop (s+m.length))
theorem L7{l:List Keyed}{s:Nat}{m:List Keyed}(h:s+m.length<=l.length)(k:Nat):(put l s m)[k]?=if s<=k/\k<s+m.length then m[k-s]? else l[k]?:=by
 unfold put;rw[zg,cM,mR ()];by_cases h1:k<s
 ·rw[aJ h1,aD (),LP,aJ h1]
 ·rw[aD h1,zg];by_cases h2:k-s<m.length
  ·rw[aJ h2,aJ ()]
  ·rw[aD h2,aD (),List.getElem?_drop];congr 1;omega
theorem Uj{l:List Keyed}{s:Nat}{m:List Keyed}(h:s+m.length<=l.length):seg (put l s m) s m.length=m:=by
 apply bP;intro k;rw[U7,L7 h];by_cases hk:k<m.length
 ·grind
 simp_all
theorem a18{l:List Keyed}{s:Nat}{m:List Keyed}(h:m.Perm (seg l s m.length)):(put l s m).Perm l:=by
 have e:l=l.take s++(seg l s m.length++l.drop (s+m.length)):=by
  unfold seg;rw[<- gB,bG,bG]
 conv=>rhs;rw[e]
 exact dZ _ (fA _ h)
theorem Hz:∀(m:List Keyed) (s j:Nat) (a:Array Keyed),s+j+m.length<=a.size->((m.zipIdx j).foldl (λa (p:Keyed×Nat)=>a.setIfInBounds (s+p.2) p.1) a).toList=put a.toList (s+j) m
 |[],s,j,a,h=>by simp[put]
 |p::m,s,j,a,h=>by
  rw[List.zipIdx_cons,List.foldl_cons,Hz m s (j+1) _ (by grind)];have h1:s+j+(p::m).length<=a.toList.length:=by simpa using h
  have h2:s+(j+1)+m.length<=(a.setIfInBounds (s+j) p).toList.length:=by grind
  apply bP;intro k;rw[L7 h1,L7 h2];simp only[Array.toList_setIfInBounds,List.getElem?_set,List.length_cons,Array.length_toList] at h ⊢;by_cases h3:s+(j+1)<=k/\k<s+(j+1)+m.length
  ·rw[aJ h3,aJ (),show k-(s+j)=(k-(s+(j+1)))+1 by omega,List.getElem?_cons_succ]
  ·rw[aD h3];by_cases e:s+j=k
   ·subst e;rw[aJ rfl,aJ (),aJ (),Nat.sub_self];rfl
   ·rw[aD e,aD ()]
theorem a15{l z:List Keyed}{s k r:Nat}(h:s+k+z.length+r<=l.length):put l (s+k) z=put l s (seg l s k++(z++seg l (s+k+z.length) r)):=by
 have e:(seg l s k++(z++seg l (s+k+z.length) r)).length=k+z.length+r:=by
  rw[bE,bE,A7 (),A7 ()];omega
 have e2:l.drop (s+k+z.length)=seg l (s+k+z.length) r++l.drop (s+(k+z.length+r)):=by
  unfold seg;rw[show s+(k+z.length+r)=s+k+z.length+r by omega,<- gB (i:=r),bG]
 unfold put;rw[e,List.take_add,e2];simp only[seg,List.append_assoc]
theorem Tt{a1 a2 b1 b2 m:List Keyed}(sa:(a1++a2).Pairwise le)(sb:(b1++b2).Pairwise le)(hm:Fn le (a2++b1) m)(h1:∀p∈a1,∀q∈b1++b2,le p q)(h2:∀p∈a2,∀q∈b2,le p q):(a1++(m++b2)).Pairwise le:=by
 obtain⟨x1,x2,x3⟩:=aW.mp sa;obtain⟨y1,y2,y3⟩:=aW.mp sb;have mm:∀p∈m,p∈a2\/p∈b1:=λp hp=>aR.mp (hm.1.mem_iff.mp hp);refine aW.mpr ⟨x1,aW.mpr ⟨hm.2,y2,λp hp q hq=>?_⟩,λp hp q hq=>?_⟩
 ·rcases mm p hp with hp|hp
  ·exact h2 p hp q hq
  ·exact y3 p hp q hq
 ·rcases aR.mp hq with hq|hq
  ·rcases mm q hq with hq|hq
   ·exact x3 p hp q hq
   ·exact h1 p hp q (bx _ hq)
  ·exact h1 p hp q (aO _ hq)
def Fi:Nat->StateT SortSt Sem Bool:=sortPriv% PySem.Builtin.mergeAt
section
variable{prog:Program}{w:World}{A:Around}{E:Value->Shared->Prop}{s:Shared}
theorem UW{U:Type}{M:Model}{x st:U}{Q:PUnit->U->Prop}(h:Q ⟨⟩ x):wpS M A E s (set x:StateT U Sem PUnit) Q st:=by
 exact ao ⟨rfl,h⟩
theorem QP{st:SortSt}{i sa na pw sb nb sC:Nat}{Q:Bool->SortSt->Prop}(hk:kindOf st=oneType')(Ar:failedOf st=none)(gG:∀p∈(arrOf st).toList,IK p)(e1:(pendingOf st)[i]?=some (sa,na,pw))(e2:(pendingOf st)[i+1]?=some (sb,nb,sC))(OQ:sb=sa+na)(hn:sb+nb<=(arrOf st).size)(OA:0<na)(h0b:0<nb)(ha:(seg (arrOf st).toList sa na).Pairwise le)(hb:(seg (arrOf st).toList sb nb).Pairwise le)(h:∀ ba m,m.length=na + nb->m.Pairwise le->m.Perm (seg (arrOf st).toList sa (na + nb))->kindOf ba=oneType'->failedOf ba=none->(arrOf ba).toList=put (arrOf st).toList sa m ->
   pendingOf ba=((pendingOf st).setIfInBounds i (sa,na + nb,pw)).eraseIdxIfInBounds (i + 1)->Q true ba):wpS (model prog w) A E s (Fi i) Q st:=by
 obtain⟨kd,X,pd,mg,fl⟩:=st;dsimp only[arrOf,kindOf,pendingOf,failedOf] at *;subst hk Ar;refine aA (mz ?_);rw[e1,e2];refine aA (m:=set _) (UW ?_);have hsz:X.toList.length=X.size:=by simp
 have sQ:sb<X.size:=by omega
 refine aA (v8 (p:=X[sb]) (cv _ sb sQ) ?_);have IX:∀t (ht:t<X.size),IK X[t]:=λt ht=>gG _ (by simp);have xh:∀u n,u+n<=X.size->(seg X.toList u n).Pairwise le->∀i j (hj:j<X.size) (iI:i<=j),u<=i->j<u+n->kn X[i]<=kn X[j]:=by
  intro u n hun hp i j hj iI h1 h2;by_cases e:i=j
  ·subst e;exact fV _
  ·have l1:=A7 (l:=X.toList) (s:=u) (n:=n) ();have:=cJ.mp hp (i-u) (j-u) () () ();simp only[seg,List.getElem_take,List.getElem_drop,show u+(i-u)=i by omega,show u+(j-u)=j by omega,Array.getElem_toList] at this;exact this
 refine aA (tI (xs:=X) rfl (IX sb sQ) gG (xh sa na () ha) () OA λk lE kz lD=>?_);have ea:seg X.toList sa na=seg X.toList sa k++seg X.toList (sa+k) (na-k):=by rw[<- Ce];congr 1;omega
 have vL:seg X.toList sa (na+nb)=seg X.toList sa na++seg X.toList sb nb:=by rw[Ce,OQ]
 have hZ:∀q∈seg X.toList sb nb,kn X[sb]<=kn q:=by
  intro q hq;obtain⟨t,ht,rfl⟩:=bg.mp hq;rw[A7 ()] at ht;simp only[seg,List.getElem_take,List.getElem_drop,Array.getElem_toList];exact xh sb nb hn hb sb (sb+t) () () () ()
 have X1:∀p∈seg X.toList sa k,∀q∈seg X.toList sb nb,le p q:=λp hp q hq=>fB (DX (kz p hp)) (hZ q hq);have keep:(∀p∈seg X.toList (sa+k) (na-k),∀q∈seg X.toList sb nb,le p q)->∀ba,kindOf ba=oneType'->failedOf ba=none->arrOf ba=X->pendingOf ba=(pd.setIfInBounds i (sa,na+nb,pw)).eraseIdxIfInBounds (i+1)->Q true ba:=by
  intro hc ba g1 g2 g3 g4;have l2:(seg X.toList sa (na+nb)).length=na+nb:=A7 ();refine h ba (seg X.toList sa (na+nb)) l2 ?_ (ot _) g1 g2 ?_ g4
  ·rw[vL];refine aW.mpr ⟨ha,hb,λp hp q hq=>?_⟩;rw[ea] at hp;rcases aR.mp hp with hp|hp
   ·exact X1 p hp q hq
   ·exact hc p hp q hq
  ·show(arrOf ba).toList=_;rw[g3];unfold put;rw[l2];unfold seg;rw[<- gB,bG,bG]
 refine d6 (λhe=>?_) (λhe=>?_)
 ·have he:na-k=0:=by simpa using he
  refine aG (keep (λp hp=>?_) _ rfl rfl rfl rfl);rw[he] at hp;simp[seg] at hp
 have FH:0<na-k:=by simp at he;omega
 rw[show sa+k+(na-k)-1=sb-1 by omega];have sI:sb-1<X.size:=by omega
 refine aA (v8 (p:=X[sb-1]) (cv X (sb-1) sI) ?_);refine aA (tI (xs:=X) rfl (IX _ sI) gG (xh sb nb hn hb) hn () λt ht1 Fw Ng=>?_);have xK:∀p∈seg X.toList (sa+k) (na-k),kn p<=kn X[sb-1]:=by
  intro q hq;obtain⟨u,hu,rfl⟩:=bg.mp hq;rw[A7 ()] at hu;simp only[seg,List.getElem_take,List.getElem_drop,Array.getElem_toList];exact xh sa na () ha (sa+k+u) (sb-1) sI () () ()
 have eb:seg X.toList sb nb=seg X.toList sb t++seg X.toList (sb+t) (nb-t):=by rw[<- Ce];congr 1;omega
 have X2:∀p∈seg X.toList (sa+k) (na-k),∀q∈seg X.toList (sb+t) (nb-t),le p q:=λp hp q hq=>fB (xK p hp) (CZ (Ng q hq));dsimp only;refine d6 (λhe=>?_) (λhe=>?_)
 ·have he:t=0:=by simpa using he
  subst he;refine aG (keep (λp hp q hq=>?_) _ rfl rfl rfl rfl);exact X2 p hp q hq
 have ht:0<t:=by grind
 have oT:(X.extract (sa+k) sb).toList=seg X.toList (sa+k) (na-k):=by
  rw[ju,List.extract_eq_drop_take];congr 1;omega
 have oS:(X.extract sb (sb+t)).toList=seg X.toList sb t:=by
  rw[ju,List.extract_eq_drop_take];congr 1;omega
 rw[ea] at ha;rw[eb] at hb;have s1:=(aW.mp ha).2.1;have s2:=(aW.mp hb).1;have z1:(X.extract (sa+k) sb).size=na-k:=by simp;omega
 have z2:(X.extract sb (sb+t)).size=t:=by simp;omega
 have sub:∀u n p,p∈seg X.toList u n->IK p:=λu n p hp=>gG p (zf (du hp));have Fq:∀p∈(X.extract (sa+k) sb).toList++(X.extract sb (sb+t)).toList,IK p:=by
  rw[oT,oS];intro p hp;rcases aR.mp hp with hp|hp
  ·exact sub _ _ p hp
  ·exact sub _ _ p hp
 have y0:∀h,kn ((X.extract sb (sb+t))[0]'h)=kn X[sb]:=λh=>by simp
 have xl:∀h,kn ((X.extract (sa+k) sb)[(X.extract (sa+k) sb).size-1]'h)=kn X[sb-1]:=λh=>by
  simp only[Array.getElem_extract];congr 2;omega
 have lst:∀z,(seg X.toList (sa+k) (na-k)).getLast?=some z->kn z=kn X[sb-1]:=by
  intro z hz;rw[List.getLast?_eq_getElem?,A7 (),U7,aJ (),show sa+k+(na-k-1)=sb-1 by omega,ae ()] at hz;cases hz;simp
 refine d6 (λhc=>?_) (λhc=>?_);refine aA (QR rfl Fq () () ⟨ot _,List.Pairwise.nil,by rw[oT];exact s1,by rw[oS];exact s2,λp hp=>absurd hp List.not_mem_nil,λq hq z hz=>?_⟩ (λp hp=>?_) λz ba hs hz=>?_)
 ·rw[oT] at hz;rw[oS] at hq;show kn q<=kn z;rw[lst z hz];exact cw (yR (Fw q hq))
 ·rw[oT] at hp;rw[y0];exact cw (yc (lD p hp))
 rotate_left
 refine aA (QQ rfl Fq () () (by rw[oT];exact s1) (by rw[oS];exact s2) ⟨?_,List.Pairwise.nil,?_,?_,λp hp=>absurd hp List.not_mem_nil,λq hq z hz=>?_⟩ (λp hp=>?_) λz ba hs hz=>?_)
 ·rw[wt,wt,List.nil_append];exact(List.Perm.append (kO _) (kO _)).trans iY
 ·rw[wt,oS];exact fM.mpr s2
 ·rw[wt,oT];exact fM.mpr s1
 ·have hq:=JF hq;rw[oT] at hq;rw[wt,List.getLast?_reverse,oS,List.head?_eq_getElem?,U7,aJ ht,ae ()] at hz;cases hz;exact cw (by simpa using yc (lD q hq))
 ·rw[oS] at hp;rw[xl];exact cw (yR (Fw p hp))
 all_goals
  refine aA (my (aA (mz (aG ?_))));show Q (failedOf ba).isNone _;rw[hs.2.2.2];have MW:z.toList.length=na-k+t:=by rw[hz.1.length_eq,bE,oT,oS,A7 (),A7 ()]
  rw[oT,oS] at hz;have hA:(seg X.toList sa k).length=k:=A7 ();have hB:(seg X.toList (sb+t) (nb-t)).length=nb-t:=A7 ();refine h _ (seg X.toList sa k++(z.toList++seg X.toList (sb+t) (nb-t))) (by rw[bE,bE,hA,hB];omega) (Tt ha hb hz (by rw[<- eb];exact X1) X2) ?_ hs.1 hs.2.2.2 ?_ hs.2.2.1
  ·rw[vL,ea,eb,bQ];refine dZ _ ?_;rw[<- bQ];exact fA _ hz.1
  ·have:=Hz z.toList (sa+k) 0 (arrOf ba) (by rw[hs.2.1];show sa+k+0+_<=X.size;omega);refine Eq.trans this ?_;rw[hs.2.1];have:=a15 (l:=X.toList) (z:=z.toList) (s:=sa) (k:=k) (r:=nb-t) ();rw[show sa+k+z.toList.length=sb+t by omega] at this;exact this
end
structure Nr(st ba:SortSt)(lo hi:Nat):Prop where
 kd:kindOf ba=oneType'
 fl:failedOf ba=none
 pd:pendingOf ba=pendingOf st
 pm:(arrOf ba).Perm (arrOf st)
 out:∀k,k<lo\/hi<=k->(arrOf ba)[k]?=(arrOf st)[k]?
theorem Nr.arr{st ba:SortSt}{lo hi:Nat}(h:Nr st ba lo hi){xs:Array Keyed}(hp:xs.Perm (arrOf ba))(ho:∀k,k<lo\/hi<=k->xs[k]?=(arrOf ba)[k]?):Nr st (setArr ba xs) lo hi :=
 ⟨h.kd,h.fl,h.pd,hp.trans h.pm,λk hk=>(ho k hk).trans (h.out k hk)⟩
def SB(xs:Array Keyed)(lo m:Nat):Prop:=∀i j,lo<=i->i<=j->j<lo+m->K xs i<=K xs j
def ND(xs:Array Keyed)(lo m:Nat):Prop:=∀i j,lo<=i->i<=j->j<lo+m->K xs j<=K xs i
theorem SB.one(xs:Array Keyed)(lo:Nat):SB xs lo 1:=λi j a b c=>by
 grind
theorem SB.more{xs:Array Keyed}{lo x:Nat}(h:SB xs lo x)(h0:0<x)(hc:¬K xs (lo+x)<K xs (lo+x-1)):SB xs lo (x+1):=by
 intro i j h1 h2 h3;by_cases hj:j<lo+x
 ·exact h i j h1 h2 hj
 ·have:j=lo+x:=by omega
  subst this;by_cases hi:i=lo+x
  ·subst hi;exact fV _
  ·exact fB (h i (lo+x-1) h1 () ()) (gC.mp hc)
theorem ND.more{xs:Array Keyed}{lo x:Nat}(h:ND xs lo x)(h0:0<x)(hc:K xs (lo+x)<=K xs (lo+x-1)):ND xs lo (x+1):=by
 intro i j h1 h2 h3;by_cases hj:j<lo+x
 ·exact h i j h1 h2 hj
 ·have:j=lo+x:=by omega
  subst this;by_cases hi:i=lo+x
  ·subst hi;exact fV _
  ·exact fB hc (h i (lo+x-1) h1 () ())
theorem ND.same{xs ys:Array Keyed}{lo m:Nat}(h:ND xs lo m)(hk:∀k,K ys k=K xs k):ND ys lo m:=λi j a b c=>by rw[hk,hk];exact h i j a b c
section
variable{prog:Program}{w:World}{A:Around}{E:Value->Shared->Prop}{s:Shared}
theorem GY{xs:Array Keyed}{i:Nat}(hi:i<xs.size)(hk:IK xs[i]):∃t q,xs[i]?=some (.int (K xs i) t,q):=by
 obtain⟨n,t,e⟩:=hk;refine⟨t,xs[i].2,?_⟩;have e2:xs[i]?=some xs[i]:=cv _ i hi;have e3:xs[i]=(.int n t,xs[i].2):=Prod.ext e rfl;unfold K;rw[e2,e3]
 rfl
theorem uO{st:SortSt}{i j:Nat}{Q:Option Bool->SortSt->Prop}(hk:kindOf st=oneType')(h0:∀p∈(arrOf st).toList,IK p)(hi:i<(arrOf st).size)(hj:j<(arrOf st).size)(h:Q (some (decide (K (arrOf st) i<K (arrOf st) j))) st) :
  wpS (model prog w) A E s (ltAt' i j) Q st:=by
 obtain⟨t,p,e1⟩:=GY hi (h0 _ (by simp));obtain⟨u,q,e2⟩:=GY hj (h0 _ (by simp));exact wpS_ltAt hk e1 e2 h
theorem Qn{st:SortSt}{lo n ok:Nat}{Q:Bool->SortSt->Prop}(hk:kindOf st=oneType')(hf:failedOf st=none)(h0:∀p∈(arrOf st).toList,IK p)(hn:lo+n<=(arrOf st).size)(cu:ok<=n)(hs:SB (arrOf st) lo ok)(h:∀ba,Nr st ba lo (lo+n)->SB (arrOf ba) lo n->Q true ba):wpS (model prog w) A E s (binarySort' lo n ok) Q st:=by
 refine aA (wpS_mono (dB (I:=λk (c:Option Bool × Unit) ba=>c=(none,Unit.unit)/\Nr st ba lo (lo + n)/\SB (arrOf ba) lo (min k n))
  (Q:=λc ba=>c=(none,Unit.unit)/\Nr st ba lo (lo + n)/\SB (arrOf ba) lo n) ?_ ?_ ⟨rfl,⟨hk,hf,rfl,mT _,λ_ _=>rfl⟩,?_⟩) ?_)
 ·rintro k c ba hak hkn ⟨rfl,hN,hU⟩;rw[show min k n=k by omega] at hU;have hsz:(arrOf ba).size=(arrOf st).size:=hN.pm.size_eq;have sY:∀p∈(arrOf ba).toList,IK p:=λp hp=>h0 p ((bW.mp hN.pm).mem_iff.mp hp);refine aA (wpS_mono (dB (I:=λx (c:Option Bool × Nat × Nat) gZ=>gZ=ba/\c.1=none/\c.2.1 <= c.2.2/\c.2.2 <= k/\c.2.2 - c.2.1 <= k - x /\
    (∀ i,lo <= i->i < lo + c.2.1->K (arrOf ba) i <= K (arrOf ba) (lo + k))/\(∀ i,lo + c.2.2 <= i->i < lo + k->K (arrOf ba) (lo + k) < K (arrOf ba) i))
   (Q:=λc gZ=>gZ=ba/\c.1=none/\c.2.1<=k/\(∀i,lo<=i->i<lo+c.2.1->K (arrOf ba) i<=K (arrOf ba) (lo+k))/\(∀i,lo+c.2.1<=i->i<lo+k->K (arrOf ba) (lo+k)<K (arrOf ba) i)) ?_ ?_
   ⟨rfl,rfl,cj _,av _,av _,λi h1 h2=>absurd h2 (by grind),λi h1 h2=>absurd h2 (by grind)⟩) ?_)
  ·rintro x ⟨c1,l,r⟩ gZ _ hx ⟨rfl,rfl,q1,q2,q3,q4,q5⟩;dsimp only at q1 q2 q3 q4 q5;refine d6 (λkH=>?_) (λkH=>?_)
   ·have:l=r:=by grind
    subst this;exact aG ⟨rfl,rfl,q2,q4,q5⟩
   ·have kH:l<r:=by simp_all
    refine aA (uO hN.kd sY () (by grind) ?_);refine d6 (λhc=>?_) (λhc=>?_)
    ·have hc:=bo hc;exact aG ⟨rfl,rfl,by grind,by dsimp only;omega,by dsimp only;omega,q4,λi h1 h2=>Int.lt_of_lt_of_le hc (hU _ _ () h1 h2)⟩
    ·have hc:=gC.mp λz=>hc (aw z);exact aG ⟨rfl,rfl,by grind,q2,by dsimp only;omega,λi h1 h2=>fB (hU i (lo+(l+r) / 2) h1 (by grind) ()) hc,q5⟩
  ·grind
  ·rintro⟨c1,l,r⟩ gZ ⟨rfl,rfl,q1,q2,q3⟩;dsimp only at q1 q2 q3 ⊢;have Al:lo+k<(arrOf gZ).size:=by omega
   refine aA (my (aG ⟨rfl,hN.arr (bubble_perm _ (lo+k) (lo+k-(lo+l))) (λt ht=>?_),?_⟩))
   ·show(bubble (arrOf gZ) (lo+k) (lo+k-(lo+l)))[t]?=_;rw[getElem?_bubble Al _ (),aD (),aD ()]
   ·intro i j h1 iI hj;show K (bubble (arrOf gZ) (lo+k) (lo+k-(lo+l))) i<=K (bubble (arrOf gZ) (lo+k) (lo+k-(lo+l))) j;rw[K_bubble Al (),K_bubble Al (),show lo+k-(lo+k-(lo+l))=lo+l by omega]
    repeat' split
    all_goals first
     |(exfalso;omega)
     |exact fV _
     |exact q2 _ () ()
     |exact cw (q3 _ () ())
     |exact hU _ _ () () ()
 ·rintro c ba ⟨rfl,hN,hU⟩;refine⟨rfl,hN,?_⟩
  grind
 ·intro i j h1 iI hj;by_cases e:ok=0
  ·grind
  ·exact hs i j h1 iI ()
 ·rintro c ba ⟨rfl,hN,hU⟩;exact aG (h ba hN hU)
theorem Nr.xq{st ba:SortSt}{lo hi i j:Nat}(h:Nr st ba lo hi)(h1:lo<=i)(h2:j<=hi)(h3:j<=(arrOf ba).size):Nr st (setArr ba (mirror (arrOf ba) i j ((j-i) / 2))) lo hi :=
 h.arr (mirror_perm _ _ _ _) λk hk=>by rw[getElem?_mirror_all h3,aD ()]
theorem RP{st:SortSt}{lo gE:Nat}{Q:Option Nat->SortSt->Prop}(hk:kindOf st=oneType')(hf:failedOf st=none)(h0:∀p∈(arrOf st).toList,IK p)(hn:lo+gE<=(arrOf st).size)(h1:1<=gE)(h:∀m ba,Nr st ba lo (lo+gE)->1<=m->m<=gE->SB (arrOf ba) lo m->Q (some m) ba):wpS (model prog w) A E s (countRun' lo gE) Q st:=by
 have asc:∀ba n,Nr st ba lo (lo+gE)->1<=n->n<=gE->SB (arrOf ba) lo n->∀(F:Nat->Option (Option Nat)×Nat->StateT SortSt Sem (ForInStep (Option (Option Nat)×Nat))),
   (F=λ_ c=>ltAt' (lo + c.2) (lo + c.2 - 1) >>= λr=>match r with
    |some b=>if b=true then pure (.done (none,c.2)) else pure (.yield (none,c.2+1))
    | x=>pure (.done (some none,c.2))) ->
   wpS (model prog w) A E s (forIn [n:gE] (none,n) F) (λc gZ=>gZ=ba/\c.1=none/\1<=c.2/\c.2<=gE/\SB (arrOf ba) lo c.2/\(c.2=gE\/K (arrOf ba) (lo+c.2)<K (arrOf ba) (lo+c.2-1))) ba:=by
  intro ba n hN h2 h3 hs F e;subst e;have hsz:(arrOf ba).size=(arrOf st).size:=hN.pm.size_eq;have sY:∀p∈(arrOf ba).toList,IK p:=λp hp=>h0 p ((bW.mp hN.pm).mem_iff.mp hp);refine dB (I:=λx c gZ=>gZ=ba/\c=(none,x)/\1<=x/\SB (arrOf ba) lo x) ?_ ?_ ⟨rfl,rfl,h2,hs⟩
  ·rintro x c gZ Gf Fu ⟨rfl,rfl,q1,q2⟩;refine aA (uO hN.kd sY () () ?_);refine d6 (λhc=>?_) (λhc=>?_)
   ·exact aG ⟨rfl,rfl,q1,by grind,q2,.inr (bo hc)⟩
   ·exact aG ⟨rfl,rfl,by omega,q2.more () λz=>hc (aw z)⟩
  grind
 have N0:Nr st st lo (lo+gE):=⟨hk,hf,rfl,mT _,λ_ _=>rfl⟩
 refine aA (wpS_mono (asc st 1 N0 (av _) h1 (SB.one _ _) _ rfl) ?_);rintro⟨c1,n⟩ fm ⟨rfl,rfl,xC,mN,hs,FE⟩;dsimp only at xC mN hs FE ⊢;refine d6 (λhe=>aG (h n fm N0 xC mN hs)) (λhe=>?_);have hnn:n<gE:=by grind
 have dF:K (arrOf fm) (lo+n)<K (arrOf fm) (lo+n-1):=FE.resolve_left ();refine d6 (λhg=>?_) (λhg=>?_);refine aA (uO hk h0 () () ?_);refine d6 (λhc=>aG (h n fm N0 xC mN hs)) (λhc=>?_);have hc:=gC.mp λz=>hc (aw z);have jz:∀k,lo<=k->k<lo+n->K (arrOf fm) k=K (arrOf fm) (lo+n-1):=by
  intro k lE kz;have a1:=hs lo k (av _) lE kz;have a2:=hs k (lo+n-1) lE () ();omega
 refine aA (wpS_reverse ?_);have hN:=N0.xq (i:=lo) (j:=lo+n) (av _) () ();have hD:ND (arrOf (setArr fm (mirror (arrOf fm) lo (lo+n) ((lo+n-lo) / 2)))) lo (n+1):=by
  refine ND.more (x:=n) (ND.same (xs:=arrOf fm) (λi j a b c=>?_) λk=>jB () jz k) () ?_
  ·rw[jz i a (),jz j () c];exact fV _
  ·rw[jB () jz,jB () jz];exact cw dF
 rotate_left
 have Ac:n=1:=by omega
 subst Ac;have hN:=N0;have hD:ND (arrOf fm) lo (1+1):=ND.more (x:=1) (λi j a b c=>by grind) ∅ (cw dF)
 all_goals
  refine aA (pj (ei ⟨rfl,?_⟩));refine aA (wpS_mono (dB (I:=λx (c:Option (Option Nat) × Nat × Nat) ba=>c.1=none/\c.2.1=x/\Nr fm ba lo (lo + gE)/\ND (arrOf ba) lo x/\c.2.2 + 1 <= x/\∀ i,lo + x - (c.2.2 + 1) <= i->i < lo + x->K (arrOf ba) i=K (arrOf ba) (lo + x - 1))
   (Q:=λc ba=>c.1=none/\1<=c.2.1/\c.2.1<=gE/\Nr fm ba lo (lo+gE)/\ND (arrOf ba) lo c.2.1/\c.2.2+1<=c.2.1/\∀i,lo+c.2.1-(c.2.2+1)<=i->i<lo+c.2.1->K (arrOf ba) i=K (arrOf ba) (lo+c.2.1-1)) ?_ ?_
   ⟨rfl,rfl,hN,hD,by dsimp only;omega,λi a b=>by dsimp only at a;congr 1;omega⟩) ?_)
  ·rintro x ⟨c1,c2,q⟩ ba Gf Fu ⟨rfl,rfl,lI,hU,hq,kI⟩;dsimp only at Gf Fu hU hq kI ⊢;have hsz:(arrOf ba).size=(arrOf fm).size:=lI.pm.size_eq;have sY:∀p∈(arrOf ba).toList,IK p:=λp hp=>h0 p ((bW.mp lI.pm).mem_iff.mp hp);refine aA (uO lI.kd sY (by rw[hsz];omega) (by rw[hsz];omega) ?_);refine d6 (λhc=>?_) (λhc=>?_)
   ·have hm:=hU.more () (cw (bo hc));refine d6 (λhg=>?_) (λhg=>?_)
    ·exact aA (wpS_reverse (aG ⟨rfl,rfl,lI.xq () () (by rw[hsz];omega),hm.same λk=>jB (by rw[hsz];omega) kI k,by dsimp only;omega,λi a b=>by dsimp only at a;congr 1;omega⟩))
    ·exact aG ⟨rfl,rfl,lI,hm,by dsimp only;omega,λi a b=>by dsimp only at a;congr 1;omega⟩
   ·have hc:=gC.mp λz=>hc (aw z);refine aA (uO lI.kd sY (by rw[hsz];omega) (by rw[hsz];omega) ?_);refine d6 (λhd=>aG ⟨rfl,by dsimp only;omega,by dsimp only;omega,lI,hU,hq,kI⟩) (λhd=>?_);have hd:=gC.mp λz=>hd (aw z);refine aG ⟨rfl,rfl,lI,hU.more () hd,by dsimp only;omega,λi a b=>?_⟩;rw[show lo+(c2+1)-1=lo+c2 by omega];by_cases e:i=lo+c2
    ·rw[e]
    ·rw[kI i (by dsimp only at a;omega) ()];omega
  ·rintro⟨c1,c2,q⟩ ba ⟨rfl,e2,lI,hU,hq,kI⟩;dsimp only at e2;have e3:c2=gE:=by omega
   rw[<- e2] at hU hq kI;exact⟨rfl,by dsimp only;omega,by dsimp only;omega,lI,hU,hq,kI⟩
  ·rintro⟨c1,n,q⟩ ba ⟨rfl,qK,FJ,lI,hU,hq,kI⟩;dsimp only at qK FJ hU hq kI ⊢;have hsz:(arrOf ba).size=(arrOf fm).size:=lI.pm.size_eq;refine d6 (λhg=>aA (wpS_reverse ?_)) (λhg=>?_);have pM:=lI.xq (i:=lo+n-(q+1)) (j:=lo+n) () () (by rw[hsz];omega);have gi:ND (arrOf (setArr ba (mirror (arrOf ba) (lo+n-(q+1)) (lo+n) ((lo+n-(lo+n-(q+1))) / 2)))) lo n:=hU.same λk=>jB (by rw[hsz];omega) kI k;generalize setArr ba (mirror (arrOf ba) (lo+n-(q+1)) (lo+n) ((lo+n-(lo+n-(q+1))) / 2))=jo at pM gi ⊢
   rotate_left
   have pM:=lI;have gi:=hU
   all_goals
    have hsz2:=pM.pm.size_eq;refine aA (wpS_reverse ?_);have sT:=pM.xq (i:=lo) (j:=lo+n) (av _) () ();refine aA (wpS_mono (asc _ n sT qK FJ (λi j a b c=>?_) _ rfl) ?_)
    ·show K (mirror _ lo (lo+n) _) i<=K (mirror _ lo (lo+n) _) j;rw[K_mirror (),K_mirror (),aJ (),aJ ()];exact gi _ _ () () ()
    ·rintro⟨c1,m⟩ st4 ⟨rfl,rfl,q1,q2,q3,_⟩;exact aG (h m _ sT q1 q2 q3)
end
def Ch(l:List Keyed):List (Nat×Nat×Nat)->Nat->Nat->Prop
 |[],a,b=>a=b
 |(s,n,_)::r,a,b=>s=a/\0<n/\(seg l a n).Pairwise le/\Ch l r (a+n) b
theorem Ch.le{l:List Keyed}:∀{p:List (Nat×Nat×Nat)} {a b:Nat},Ch l p a b->a+p.length<=b
 |[],a,b,h=>fy h
 |(s,n,w)::r,a,b,⟨_,h1,_,h2⟩=>by have:=Ch.le h2;simp only[List.length_cons];omega
theorem Ch.congr{l l':List Keyed}:∀{p:List (Nat×Nat×Nat)} {a b:Nat},Ch l p a b->(∀k,a<=k->k<b->l'[k]?=l[k]?)->Ch l' p a b
 |[],a,b,h,_=>h
 |(s,n,w)::r,a,b,⟨h0,h1,h2,h3⟩,hc=>by
  have:=Ch.le h3;exact⟨h0,h1,by rw[CO λk a b=>hc k a ()];exact h2,Ch.congr h3 λk a b=>hc k () b⟩
theorem Ch.push{l:List Keyed}{n w:Nat}:∀{p:List (Nat×Nat×Nat)} {a b:Nat},Ch l p a b->0<n->(seg l b n).Pairwise TS.le->Ch l (p++[(b,n,w)]) a (b+n)
 |[],a,b,h,h1,h2=>by cases h;exact⟨rfl,h1,h2,rfl⟩
 |(s,m,v)::r,a,b,⟨g0,g1,g2,g3⟩,h1,h2=>⟨g0,g1,g2,Ch.push g3 h1 h2⟩
theorem Ch.pow{l:List Keyed}{f:Nat×Nat×Nat->Nat×Nat×Nat}(hf:∀x,(f x).1=x.1/\(f x).2.1=x.2.1):∀{p:List (Nat×Nat×Nat)} {a b i:Nat},Ch l p a b->Ch l (p.modify i f) a b
 |[],a,b,i,h=>by simpa using h
 |(s,m,v)::r,a,b,0,⟨g0,g1,g2,g3⟩=>by
  obtain⟨x,y⟩:∃z,f (s,m,v)=(s,m,z):=⟨(f (s,m,v)).2.2,Prod.ext (hf _).1 (Prod.ext (hf _).2 rfl)⟩
  rw[List.modify_zero_cons,y];exact⟨g0,g1,g2,g3⟩
 |(s,m,v)::r,a,b,i+1,⟨g0,g1,g2,g3⟩=>by exact⟨g0,g1,g2,Ch.pow hf g3⟩
theorem Ch.merge{l:List Keyed}{b sa na pw sb nb sC:Nat}:∀{i:Nat} {p:List (Nat×Nat×Nat)} {a:Nat},Ch l p a b->p[i]?=some (sa,na,pw)->p[i+1]?=some (sb,nb,sC)->a<=sa/\sb=sa+na/\0<na/\0<nb/\sb+nb<=b/\(seg l sa na).Pairwise TS.le/\(seg l sb nb).Pairwise TS.le /\
  ∀m,m.length=na+nb->m.Pairwise TS.le->b<=l.length->Ch (put l sa m) ((p.set i (sa,na+nb,pw)).eraseIdx (i+1)) a b
 |0,(s,n,w)::(s',n',w')::r,a,⟨g0,g1,g2,g3,g4,g5,g6⟩,e1,e2=>by
  simp only[List.getElem?_cons_zero,List.getElem?_cons_succ,Nat.zero_add,Option.some.injEq,Prod.mk.injEq] at e1 e2;obtain⟨rfl,rfl,rfl⟩:=e1;obtain⟨rfl,rfl,rfl⟩:=e2;subst g0;have:=Ch.le g6;subst g3;refine⟨av _,rfl,g1,g4,by omega,g2,g5,λm hm hs hb=>?_⟩;have hl:s+m.length<=l.length:=by omega
  refine⟨rfl,by omega,by rw[<- hm,Uj hl];exact hs,?_⟩;rw[<- Nat.add_assoc];exact Ch.congr g6 λk h1 h2=>by rw[L7 hl,aD ()]
 |i+1,(s,n,w)::r,a,⟨g0,g1,g2,g3⟩,e1,e2=>by
  obtain⟨h1,h2,h3,h4,h5,h6,h7,h8⟩:=Ch.merge g3 e1 e2;refine⟨by omega,h2,h3,h4,h5,h6,h7,λm hm hs hb=>?_⟩;refine⟨g0,g1,?_,h8 m hm hs hb⟩;rw[CO (l:=l) (l':=put l sa m) λk h1 h2=>by rw[L7 (),aD ()]];exact g2
theorem SB.seg{xs:Array Keyed}{lo n:Nat}(hn:lo+n<=xs.size)(h:SB xs lo n):(seg xs.toList lo n).Pairwise le:=by
 rw[cJ];intro i j hi hj iI;rw[A7 (by simpa using hn)] at hi hj;have:=h (lo+i) (lo+j) () () ();rw[K_eq (),K_eq ()] at this;simpa[TS.seg] using this
section
variable{prog:Program}{w:World}{A:Around}{E:Value->Shared->Prop}{s:Shared}
structure Go(a₀:Array Keyed)(st:SortSt)(lo:Nat):Prop where
 kd:kindOf st=oneType'
 fl:failedOf st=none
 pm:(arrOf st).Perm a₀
 ch:Ch (arrOf st).toList (pendingOf st).toList 0 lo
theorem Km{a₀:Array Keyed}{st:SortSt}{lo i:Nat}{Q:Bool->SortSt->Prop}(h0:∀p∈a₀.toList,IK p)(hG:Go a₀ st lo)(vg:lo<=a₀.size)(hi:i+1<(pendingOf st).size)(h:∀ba,Go a₀ ba lo->(pendingOf ba).size+1=(pendingOf st).size->(∀k,lo<=k->(arrOf ba).toList[k]?=(arrOf st).toList[k]?)->Q true ba):wpS (model prog w) A E s (Fi i) Q st:=by
 obtain⟨sa,na,pw,e1⟩:∃sa na pw,(pendingOf st)[i]?=some (sa,na,pw):=⟨_,_,_,cv _ i ()⟩
 obtain⟨sb,nb,sC,e2⟩:∃sb nb sC,(pendingOf st)[i+1]?=some (sb,nb,sC):=⟨_,_,_,cv _ (i+1) hi⟩
 obtain⟨g1,g2,g3,g4,g5,g6,g7,g8⟩:=hG.ch.merge (i:=i) (by simpa using e1) (by simpa using e2);have hsz:=hG.pm.size_eq;have hl:(arrOf st).toList.length=a₀.size:=by simpa using hsz
 refine QP hG.kd hG.fl (λp hp=>h0 p ((bW.mp hG.pm).mem_iff.mp hp)) e1 e2 g2 () g3 g4 g6 g7 λba m m1 m2 m3 m4 m5 m6 m7=>h ba ⟨m4,m5,?_,?_⟩ ?_ ?_
 ·refine Array.Perm.trans (bW.mpr ?_) hG.pm;rw[m6];exact a18 (by rw[m1];exact m3)
 ·simp_all
 ·rw[m7,<- cG,Array.toList_eraseIdxIfInBounds,List.length_eraseIdx,Array.toList_setIfInBounds,List.length_set,cG,aJ hi];omega
 ·intro k hk;rw[m6,L7 (),aD ()]
theorem MR{c:Prop}[Decidable c]{n:Nat}(h:1<n):(if c then n-2-1 else n-2)+1<n:=by split<;>omega
theorem Go.near{a₀:Array Keyed}{st ba:SortSt}{lo hi:Nat}(h:Go a₀ st lo)(hN:Nr st ba lo hi):Go a₀ ba lo :=
 ⟨hN.kd,hN.fl,hN.pm.trans h.pm,by rw[hN.pd];exact h.ch.congr λk _ hk=>by rw[fP,fP];exact hN.out k (.inl hk)⟩
theorem Uo{a₀:Array Keyed}{st:SortSt}{Q:Unit->SortSt->Prop}(h0:∀p∈a₀.toList,IK p)(hG:Go a₀ st 0)(h2:0<a₀.size)(h:∀ba,(arrOf ba).Perm a₀->failedOf ba=none->(arrOf ba).toList.Pairwise le->Q Unit.unit ba):wpS (model prog w) A E s sortRuns' Q st:=by
 refine aA (mz ?_);have hsz:∀ba lo,Go a₀ ba lo->(arrOf ba).size=a₀.size:=λba lo h=>h.pm.size_eq;have e0:=hsz st 0 hG;refine aA (wpS_mono (dB (I:=λx (c:Option Unit × Nat) ba=>c.1=none/\Go a₀ ba c.2/\c.2 <= a₀.size/\x <= c.2)
  (Q:=λc ba=>c.1=none/\Go a₀ ba a₀.size) ?_ ?_ ⟨rfl,hG,cj _,cj _⟩) ?_)
 ·rintro x ⟨c1,lo⟩ fm _ hx ⟨rfl,oK,vg,hxl⟩;rw[e0];refine d6 (λkH=>aG ⟨rfl,?_⟩) (λkH=>?_)
  ·grind
  have z1:=hsz fm lo oK;have i1:∀p∈(arrOf fm).toList,IK p:=λp hp=>h0 p ((bW.mp oK.pm).mem_iff.mp hp);refine aA (RP oK.kd oK.fl i1 () (by grind) λm fZ hN Ny Nx hs=>?_);dsimp only at hN Nx hs ⊢;have z2:(arrOf fZ).size=a₀.size:=hN.pm.size_eq.trans z1;have i2:∀p∈(arrOf fZ).toList,IK p:=λp hp=>i1 p ((bW.mp hN.pm).mem_iff.mp hp);have fin:∀jo n,Go a₀ jo lo->0<n->lo+n<=a₀.size->(seg (arrOf jo).toList lo n).Pairwise le->(λc ba=>c.1=none/\Go a₀ ba c.2/\c.2<=a₀.size/\x+1<=c.2:Option Unit×Nat->SortSt->Prop) (none,lo+n) (setPending jo ((pendingOf jo).push (lo,n,0))):=by
   intro jo n hG h1 h2 h3;refine⟨rfl,⟨hG.kd,hG.fl,hG.pm,?_⟩,h2,by grind⟩;rw[dy];exact hG.ch.push h1 h3
  refine d6 (λhc=>?_) (λhc=>?_);refine aA (pj (ei ⟨rfl,?_⟩));refine aA (Qn hN.kd hN.fl i2 () () hs λjo sT Fy=>?_);have hc:m<minRun' a₀.size a₀.size 0:=hc;have qK:lo+min (a₀.size-lo) (minRun' a₀.size a₀.size 0)<=a₀.size:=by omega
  have hq:=Fy.seg (by rw[sT.pm.size_eq,z2];exact qK);have Ad:0<min (a₀.size-lo) (minRun' a₀.size a₀.size 0):=by omega
  have xO:=(oK.near hN).near sT;clear sT Fy hN hs i2 z2;change Go a₀ jo lo at xO
  rotate_left
  have Ad:0<m:=Ny;have xO:=oK.near hN;have qK:lo+m<=a₀.size:=by omega
  have hq:=hs.seg ();clear hN hs i2 z2;generalize fZ=jo at *
  all_goals
   refine aA (mz ?_);cases hb:(pendingOf jo).back? with
   |none=>exact aA (my (aG (fin jo _ xO Ad qK hq)))
   |some q =>
    obtain⟨s1,n1,p1⟩:=q;refine aA (wpS_mono (dB (I:=λ_ (c:Option Unit × Unit) ba=>c=(none,Unit.unit)/\Go a₀ ba lo/\∀ k,lo <= k->(arrOf ba).toList[k]?=(arrOf jo).toList[k]?)
     (Q:=λc ba=>c=(none,Unit.unit)/\Go a₀ ba lo/\∀ k,lo <= k->(arrOf ba).toList[k]?=(arrOf jo).toList[k]?) ?_ (λ_ _ z=>z) ⟨rfl,xO,λ_ _=>rfl⟩) ?_)
    ·rintro y c ba _ _ ⟨rfl,kJ,jk⟩;refine aA (mz ?_);by_cases hp:(pendingOf ba).size>1
     ·rw[aJ hp,cv (pendingOf ba) ((pendingOf ba).size-2) ()];exact d6 (λ_=>aG ⟨rfl,kJ,jk⟩) λ_=>aA (Km h0 kJ vg (show(pendingOf ba).size-2+1<(pendingOf ba).size by omega) λlZ g1 g2 g3=>aG ⟨rfl,g1,λk hk=>(g3 k hk).trans (jk k hk)⟩)
     ·rw[aD hp];exact aG ⟨rfl,kJ,jk⟩
    ·rintro c ba ⟨rfl,kJ,jk⟩;refine aA (my (aA (my (aG (fin (setPending ba ((pendingOf ba).modify ((pendingOf ba).size-1) _)) _ ⟨kJ.kd,kJ.fl,kJ.pm,?_⟩ Ad qK ?_)))))
     ·show Ch _ ((pendingOf ba).modify _ _).toList 0 lo;rw[Array.toList_modify];refine Ch.pow ?_ kJ.ch;exact λx=>⟨rfl,rfl⟩
     ·show(seg (arrOf ba).toList lo _).Pairwise le;rw[CO λk h1 _=>jk k h1];exact hq
 ·grind
 ·rintro⟨c1,lo⟩ fm ⟨rfl,oK⟩;rw[e0];refine aA (wpS_mono (dB (I:=λx (c:Option Unit × Unit) ba=>c=(none,Unit.unit)/\Go a₀ ba a₀.size/\(pendingOf ba).size <= max 1 (a₀.size - x))
   (Q:=λc ba=>c=(none,Unit.unit)/\Go a₀ ba a₀.size/\(pendingOf ba).size <= 1) ?_ ?_ ⟨rfl,oK,?_⟩) ?_)
  ·rintro y c ba _ hy ⟨rfl,kJ,jk⟩;refine aA (mz ?_);refine d6 (λhp=>aG ⟨rfl,kJ,hp⟩) λhp=>?_;have hp:1<(pendingOf ba).size:=Nat.lt_of_not_le hp;refine aA (Km h0 kJ (av _) ?_ λlZ g1 g2 g3=>aG ⟨rfl,g1,by omega⟩);exact MR hp
  ·simp
  ·have:=oK.ch.le
   grind
  ·rintro c ba ⟨rfl,kJ,jk⟩;refine aG (h ba kJ.pm kJ.fl ?_);have hc:=kJ.ch
   match hp:(pendingOf ba).toList with
   |[]=>rw[hp] at hc;exact absurd (show 0=a₀.size from hc) ()
   |[(s1,n1,w1)] =>
    rw[hp] at hc;obtain⟨q1,q2,q3,q4⟩:=hc;have q4:0+n1=a₀.size:=q4;have e:seg (arrOf ba).toList 0 n1=(arrOf ba).toList:=by
     have:=kJ.pm.size_eq;unfold seg;rw[List.drop_zero,cV (by simp;omega)]
    simp_all
   |_::_::_ =>
    have:(pendingOf ba).toList.length<=1:=by simpa using jk
    rw[hp] at this;simp at this
theorem HE{a:Addr}{vs:List Value}{ns:List Int}{n:Nat}{P:Fin->Shared->Prop}(ho:s.heap.get? a=some (seqObj "list" vs.toArray n))(hI:IntsAre vs ns)(hl:vs.length<=100000)(h:∀(out:Array Value) (ko:List Int),IntsAre out.toList ko->ko.Perm ns->ko.Pairwise (·<=·)->P (.done (.ret .none)) { s with heap:=sortedHeap s.heap a vs out }):wpAny (model prog w) A (Builtin.«list.sort» ⟨[.ref a],[]⟩) P E s:=by
 by_cases xP:vs.length<64
 ·exact list_sort_tree ho hI xP h
 rw[list_sort_plain];have ha:=ax ho;refine ab (listItems_at ho rfl (ab (listUpdate_at ho rfl ?_)));have pJ:=get?_update_seq ho (λ_=>#[]);refine ab (seqEpoch_at pJ rfl (ab (wpAny_newTuple (ab (LD (bS ?_))))));have FF:(((s.heap.update a (Obj.mapSeq λ_=>#[])).push (seqObj "tuple" vs.toArray 0)).push (seqObj "list" #[] 0)).get? a=some (seqObj "list" #[] (if((λ_=>#[]) vs.toArray:Array Value).size==vs.toArray.size then n else n+1)):=by
  rw[Heap.get?_push_ne _ _ _ (by rw[size_push',Heap.size_update];exact aK (gP ha)),Heap.get?_push_ne _ _ _ (by rw[Heap.size_update];exact aK ha)];exact pJ
 obtain⟨v1,v2,r,rfl⟩:∃v1 v2 r,vs=v1::v2::r:=by
  match vs,xP with
  |[],h=>simp at h
  |[_],h=>simp at h
  |x::y::r,_=>exact⟨x,y,r,rfl⟩
 rw[keyKind_ints hI];refine ab (ao (ab (bJ (Uo (a₀:=pairsOf (v1::v2::r)) (Q:=λ_ ba=>(arrOf ba).Perm (pairsOf (v1::v2::r))/\failedOf ba=none/\(arrOf ba).toList.Pairwise le) hI.intKeys ⟨rfl,rfl,mT _,rfl⟩ (by rw[pairsOf_size];simp) λba a1 a2 a3=>⟨a1,a2,a3⟩) ?_ λ_ _ e=>e)));rintro⟨⟨⟩,ba⟩ s' ⟨rfl,hp,hf,hs⟩;refine ab (seqEpoch_at FF rfl (ab (listUpdate_at FF rfl ?_ (hsz2:=?_))))
 ·rw[hf];simp only[bne_self_eq_false,Bool.false_eq_true,if_false];obtain⟨ko,q1,q2,q3⟩:=sorted_out hI hp λi j iI hj=>by
   have e:=hp.size_eq;rw[K_eq (),K_eq ()];exact wy hs () iI
  exact ao (h _ ko q1 q2 q3)
 ·rw[Array.size_map,hp.size_eq,pairsOf_size,rX];omega
end
end TS
namespace L2
open PySem PySem.Spec PyProof.Rows
variable{A:Around}{s:Shared}{elt iter tg:Expr}{ifs:List Expr}{scope:Scope}{pos:Pos}{X:Cx}{x:Str}{cl:List (Str×Addr)}{C:Addr}{N':List Str}{c8:List Nat}{fp:List Addr}{g:TG}{tc:TT}{te:TE}
section
variable{prog:Program}{w:World}{R:Result->Shared->Prop}
theorem aC9{target:Expr}{it acc:Value}{env:Env}(I:Nat->Shared->Prop)(turn:∀ n s,I n s->wpAny (model prog w) A (pyNext it) (λr bU=>match r with
   |none=>R (.ok .next) bU
   | some v=>wpAny (model prog w) A (letOwnedTupleGo target it v) (λ_ bU=>wpAny (model prog w) A (assign target env v) (λ_ gY =>
     wpAny (model prog w) A (forIn ifs true λc r=>if r=true then do let ok <- isTrue c env (eval c env);pure (ForInStep.yield ok) else pure (ForInStep.yield r)) (λok fI =>
      if ok=true then wpAny (model prog w) A (eval elt env) (λx jL =>
       wpAny (model prog w) A (call (.builtin "list.append") [acc,x]) (λ_ mV=>∃ m,m < n/\I m mV) (λ_ _=>False) jL) (notedBy (model prog w) A env λe s'=>R (.error e) s') fI
      else ∃ m,m < n/\I m fI) (λ_ _=>False) gY) (λ_ _=>False) bU) (λ_ _=>False) bU) (λ_ _=>False) s)(n:Nat)(h:I n s) :
  codeAny (model prog w) A (.compLoop (.ListComp elt [⟨target,iter,ifs,0⟩] scope pos) 0 it acc env) R s:=by
 refine codeAny_loop rfl I (λn s hI=>?_) n h;show wpAny _ A ((compTurn (.ListComp elt [⟨target,iter,ifs,0⟩] scope pos) 0 it acc env).onRaise (λx=>do noteFrame x env;theTreesLotGoes x)) _ _ s;refine wpAny_noted ?_;rw[compTurn_list];refine ab (fo (ab (bJ (turn n s hI) (λr bU dR=>?_) λ_ _ h'=>h'.elim)));cases r with
 |none=>exact ao dR
 |some v =>
  refine ab (bJ dR (λ_ bU dR=>?_) λ_ _ h'=>h'.elim);refine ab (bJ dR (λ_ gY jP=>ab (bJ jP (λok fI nu=>?_) λ_ _ h'=>h'.elim)) λ_ _ h'=>h'.elim);cases ok with
  |false=>exact wpAny_pure ⟨rfl,nu⟩
  |true =>
   exact ab (ab (bJ nu (λx jL qI=>ab (bJ qI (λ_ mV qH=>ao (ao ⟨rfl,qH⟩)) λ_ _ h'=>h'.elim)) λ_ _ h'=>h'))
end
def lR(X:Cx)(es:List Expr)(t:TT):Prop :=
 ∀(pins:List (Addr×Obj)) (s:Shared) (U:St) (H:Hp) (Q:Bool->Hp->Prop),Inv X pins U H s->t U H Q ->
  wpAny (model X.prog X.w) X.A (forIn es true λc r=>if r=true then do let ok <- isTrue c X.env (eval c X.env);pure (ForInStep.yield ok) else pure (ForInStep.yield r)) (TP X pins U Q) X.xe s
def Wh:TT:=λ_ H Q=>Q true H
theorem Uh:lR X [] Wh:=λpins s U H Q I h=>ao ⟨H,I,h⟩
theorem Ui{c:Expr}{t:TT}(h:PT X c t):lR X [c] t:=by
 intro pins s U H Q I q;exact ab (ab (bJ (h pins s U H Q I q) (λb s' hb=>ao (ao hb)) λ_ _ x=>x))
def I9(scope:Scope)(cl:List (Str×Addr))(C:Addr):List (Str×Addr):=cellsFrom (C+1) scope.names []++cl
theorem C8:∀(names:List (Str×NameKind)) (n:Nat) (acc:List (Str×Addr)),cellsFrom n names acc=cellsFrom n names []++acc
 |[],_,_=>rfl
 |(y,k)::r,n,acc=>by
  unfold cellsFrom;split
  ·rw[C8 r (n+1) ((y,n)::acc),C8 r (n+1) [(y,n)],bQ]
   rfl
  ·exact C8 r n acc
theorem R0{x:Str}{c:Addr}:∀{names:List (Str×NameKind)} {n:Nat},(x,c)∈cellsFrom n names []->(x,NameKind.cell)∈names
 |[],_,h=>by simp[cellsFrom] at h
 |(y,k)::r,n,h=>by
  unfold cellsFrom at h;split at h
  ·rw[C8] at h;rcases aR.mp h with z|z
   ·exact bC _ (R0 z)
   grind
  ·exact bC _ (R0 h)
theorem K6{α:Type}:∀{a b:List (Str×α)},(a++b).lookup x=(a.lookup x).or (b.lookup x)
 |[],_=>rfl
 |(y,v)::r,b=>by
  grind
theorem HU(h:scope.names.lookup x=some .cell\/∃c,cl.lookup x=some c):∃c,(I9 scope cl C).lookup x=some c:=by
 unfold I9;rw[K6];cases e:(cellsFrom (C+1) scope.names []).lookup x with
 |some c=>exact⟨c,rfl⟩
 |none =>
  rcases h with h|h
  ·have q:=dO scope.names (C+1) [] (.inl h);rw[e] at q;cases q
  ·exact h
theorem L4{env:Env}:∀{names:List (Str×NameKind)} {x:Str},names.lookup x=some .cell ->
  (names.map λ(n,k)=>if(k==NameKind.free&&env.scope.kind==.function&&env.kindOf n==some .cell) then(n,NameKind.cell) else(n,k)).lookup x=some .cell
 |[],_,h=>by simp at h
 |(n,k)::r,x,h=>by
  have ih:=@L4 env r x;show List.lookup x ((if(k==NameKind.free&&env.scope.kind==.function&&env.kindOf n==some .cell)=true then(n,NameKind.cell) else(n,k))::_)=_;cases hx:x==n with
  |true =>
   simp only[List.lookup_cons,hx] at h
   simp_all
  |false =>
   simp only[List.lookup_cons,hx] at h;by_cases hc:(k==NameKind.free&&env.scope.kind==.function&&env.kindOf n==some .cell)=true
   ·rw[aJ hc];simp only[List.lookup_cons,hx];exact ih h
   ·rw[aD hc];simp only[List.lookup_cons,hx];exact ih h
theorem Z7{h:Heap}(ck:CellsOk h (C+1) (cellsFrom (C+1) scope.names [])){c:Addr}(e:(I9 scope cl C).lookup x=some c):C<c\/cl.lookup x=some c:=by
 unfold I9 at e;rw[K6] at e;cases e2:(cellsFrom (C+1) scope.names []).lookup x with
 |some c' =>
  rw[e2] at e;cases e;exact .inl (ck.empty x c (aS e2)).2
 |none =>
  rw[e2] at e;exact .inr e
theorem Js{M:Model}{E:Value->Shared->Prop}{globals:Addr}{qual:Str}{outer:Env}{Q:Env->Shared->Prop}(hQ:∀ dR:Heap,dR.Ns s.heap.objs.size (λ_=>none)->(∀ b o,s.heap.get? b=some o->dR.get? b=some o)->CellsOk dR (s.heap.objs.size + 1) (cellsFrom (s.heap.objs.size + 1) scope.names []) ->
   Q (newEnv scope s.heap.objs.size globals (I9 scope cl s.heap.objs.size) qual none .none (some outer) builtinsNs) { s with heap:=dR }) :
  wpAny M A (newFunctionEnv scope globals cl [] qual none .none (some outer)) Q E s:=by
 simp only[newFunctionEnv,Option.isSome_some,if_true];refine ab (wpAny_alloc ?_);refine ab (wpAny_layCells _ (λname kind cells=>by rfl) _ _ _ _ ?_);have ok:=cellsFrom_ok scope.names (s.heap.push { cls:=.type "dict",data:=.dict #[] }) (s.heap.objs.size+1) [] ⟨λ_ _ hm=>(nomatch hm),List.Pairwise.nil⟩ (by simp);rw[eW] at ok;rw[show({ s with heap:=s.heap.push { cls:=.type "dict",data:=.dict #[] } }:Shared).heap.objs.size=s.heap.objs.size+1 from eW ..];refine ab (ao (ao ?_));rw[C8];exact hQ _ ((Heap.Ns.new s.heap (.type "dict")).keeps (pushCells_keeps _ _)) (λb o e=>pushCells_keeps _ _ b o (aj _ e)) ok
def d0(X:Cx)(pins:List (Addr×Obj))(scope:Scope)(N':List Str)(cl:List (Str×Addr))(C:Addr)(s:Shared)(H:Hp)(fp:List Addr):Cx where
 prog:=X.prog
 w:=X.w
 K:=X.K
 mg:=X.mg
 base:=X.base
 A:=X.A
 N:=N'
 dJ:=s
 lq:=H
 env:=compEnvC scope (I9 scope cl C) C X.env
 outer:=X.stack
 stack:=X.stack
 ex:=fp
 calm:=true
 fn:=λx=>decide (scope.names.lookup x=some .cell)
 pn:=X.pn++pins
 xe:=λ_ _=>False
structure dI(X:Cx)(scope:Scope)(N':List Str)(c8:List Nat)(cl:List (Str×Addr)):Prop where
 kind:scope.kind=.function
 cells:∀y∈scope.names,y.2=.cell->scope.names.lookup y.1=some .cell
 names:∀y∈scope.names,y.2=.local->scope.names.lookup y.1=some .local
 rG:closureFor scope X.env=pure cl
 cin:∀x c,cl.lookup x=some c->X.env.cells.lookup x=some c
 vV:∀x,scope.names.lookup x=some .free->∃c,cl.lookup x=some c
 nd:N'.Nodup
 Po:∀(i j:Nat),c8[i]?=some j->∃x,N'[i]?=some x/\X.N[j]?=some x/\scope.names.lookup x=some .free/\(X.env.kindOf x=some .cell\/X.env.kindOf x=some .free)
 Bs:c8.length<=N'.length
theorem C9{env:Env}:∀{names:List (Str×NameKind)} {x:Str},names.lookup x=some .free ->
  (names.map λ(n,k)=>if(k==NameKind.free&&env.scope.kind==.function&&env.kindOf n==some .cell) then(n,NameKind.cell) else(n,k)).lookup x=some .cell \/
  (names.map λ(n,k)=>if(k==NameKind.free&&env.scope.kind==.function&&env.kindOf n==some .cell) then(n,NameKind.cell) else(n,k)).lookup x=some .free
 |[],_,h=>by simp at h
 |(n,k)::r,x,h=>by
  have ih:=@C9 env r x;show List.lookup x ((if(k==NameKind.free&&env.scope.kind==.function&&env.kindOf n==some .cell)=true then(n,NameKind.cell) else(n,k))::_)=_\/List.lookup x ((if(k==NameKind.free&&env.scope.kind==.function&&env.kindOf n==some .cell)=true then(n,NameKind.cell) else(n,k))::_)=_;cases hx:x==n with
  |true =>
   simp only[List.lookup_cons,hx] at h;cases h;by_cases hc:(NameKind.free==NameKind.free&&env.scope.kind==.function&&env.kindOf n==some .cell)=true
   ·rw[aJ hc];simp[List.lookup_cons,hx]
   ·rw[aD hc];simp[List.lookup_cons,hx]
  |false =>
   simp only[List.lookup_cons,hx] at h;by_cases hc:(k==NameKind.free&&env.scope.kind==.function&&env.kindOf n==some .cell)=true
   ·rw[aJ hc];simp only[List.lookup_cons,hx];exact ih h
   ·rw[aD hc];simp only[List.lookup_cons,hx];exact ih h
theorem L5{env:Env}:∀{names:List (Str×NameKind)} {x:Str},((names.map λ(n,k)=>if(k==NameKind.free&&env.scope.kind==.function&&env.kindOf n==some .cell) then(n,NameKind.cell) else(n,k)).lookup x=some .cell \/
  (names.map λ(n,k)=>if (k == NameKind.free && env.scope.kind == .function && env.kindOf n == some .cell) then (n,NameKind.cell) else (n,k)).lookup x=some .free)->names.lookup x=some .free \/ names.lookup x=some .cell
 |[],_,h=>by simp at h
 |(n,k)::r,x,h=>by
  have ih:=@L5 env r x;rw[cP] at h;cases hx:x==n with
  |true =>
   simp only[List.lookup_cons,hx];by_cases hc:(k==NameKind.free&&env.scope.kind==.function&&env.kindOf n==some .cell)=true
   ·refine .inl ?_;simp only[Bool.and_eq_true,beq_iff_eq] at hc;rw[hc.1.1]
   ·simp only[if_neg hc,List.lookup_cons,hx] at h;rcases h with h|h
    ·exact .inr h
    ·exact .inl h
  |false =>
   simp only[List.lookup_cons,hx];by_cases hc:(k==NameKind.free&&env.scope.kind==.function&&env.kindOf n==some .cell)=true
   ·simp only[if_pos hc,List.lookup_cons,hx] at h;exact ih h
   ·simp only[if_neg hc,List.lookup_cons,hx] at h;exact ih h
def B9(U:St)(c8:List Nat)(n:Nat):St:=c8.map (λj=>(U[j]?).join)++List.replicate (n-c8.length) none
section
variable{pins:List (Addr×Obj)}{U:St}{H:Hp}
theorem Inv.Iy{h1:Heap}{tk:Nat}(I:Inv X pins U H s)(S:dI X scope N' c8 cl)(hc:X.calm=true)(hf:∀b∈fp,C2 X pins H b)(ho:∀b∈fp,∃o,s.heap.get? b=some o)(hC:s.heap.objs.size<=C)(hn:∃m,h1.Ns C m)(k:∀b o,s.heap.get? b=some o->h1.get? b=some o)(ck:CellsOk h1 (C+1) (cellsFrom (C+1) scope.names [])) :
  Inv (d0 X pins scope N' cl C s H fp) [] (B9 U c8 N'.length) H { s with heap:=h1,toks:=tk }:=by
 obtain⟨m,hm⟩:=hn;have NB:(relabel scope X.env).kind=.function:=S.kind;have EY:∀b o,s.heap.get? b=some o->b≠C:=λb o e z=>absurd (ax e) (by simp_all);have two:∀{x:Str} {c:Addr},(I9 scope cl C).lookup x=some c->(C<c/\h1.IsCell c none/\(x,c)∈cellsFrom (C+1) scope.names [])\/(cl.lookup x=some c/\(cellsFrom (C+1) scope.names []).lookup x=none):=λ{x c} h=>by
  unfold I9 at h;rw[K6] at h;cases e:(cellsFrom (C+1) scope.names []).lookup x with
  |some c' =>
   rw[e] at h;cases h;have hm:=aS e;exact .inl ⟨(ck.empty x c hm).2,(ck.empty x c hm).1,hm⟩
  |none =>
   rw[e] at h;exact .inr ⟨h,rfl⟩
 have uD:∀{x:Str} {c:Addr},cl.lookup x=some c->c<s.heap.objs.size:=λ{x c} h=>by
  obtain⟨v,o,e,_⟩:=I.cell x c (S.cin x c h);exact ax e
 have frees:∀{x:Str},scope.names.lookup x=some .free->(I9 scope cl C).lookup x=cl.lookup x:=λ{x} h=>by
  unfold I9;rw[K6];cases e:(cellsFrom (C+1) scope.names []).lookup x with
  |some c' =>
   have:=S.cells _ (R0 (aS e)) rfl
   simp_all
  |none=>rfl
 refine⟨⟨I.mod,NB,I.ok.glob,I.ok.blt,hC,?_,?_,?_,λ_=>I.ok.hd hc,I.ok.frames,.inl rfl,?_,I.bs,?_,?_,?_,I.stack,I.Cf⟩,rfl,I.bare,Un.kept k,⟨m,hm,?_⟩,?_,?_,?_,?_,I.cu.kept k,?_,λjC z=>absurd (show(none:Option (List (Option V)))=some jC from z) (by simp)⟩
 ·intro x y c h1 h2;rcases two h1 with⟨l1,_,q1⟩|⟨q1,_⟩<;>rcases two h2 with⟨l2,_,q2⟩|⟨q2,_⟩
  ·exact PySem.name_of_addr ck.apart q1 q2
  ·exact absurd (cO l1 (ay (uD q2) hC)) (bK _)
  ·exact absurd (cO l2 (ay (uD q1) hC)) (bK _)
  ·exact I.ok.inj x y c (S.cin x c q1) (S.cin y c q2)
 ·intro x hx;rcases L5 (env:=X.env) (names:=scope.names) hx with z|z
  ·obtain⟨c,hc⟩:=S.vV x z;exact⟨c,(frees z).trans hc⟩
  ·have q:=dO scope.names (C+1) [] (.inl z);obtain⟨c,hc⟩:=eU.mp q;refine⟨c,?_⟩;show(I9 scope cl C).lookup x=some c;unfold I9;rw[K6,hc]
   rfl
 ·intro x c hf h;have z:scope.names.lookup x=some .cell:=bo hf;have q:=dO scope.names (C+1) [] (.inl z);rcases two h with⟨l,_⟩|⟨_,e⟩
  ·exact eG (cY hC l)
  simp_all
 ·intro b hb;obtain⟨f0,f1,f2,f3,f4,f5⟩:=hf b hb;obtain⟨o,e⟩:=ho b hb;refine⟨EY b o e,λx c h=>?_⟩;rcases two h with⟨l,_⟩|⟨q,_⟩
  ·intro z;subst z;exact absurd (cO l (ay (ax e) hC)) (bK _)
  ·exact f4 x c (S.cin x c q)
 ·exact aC I.ok.pV I.sz
 ·intro b o e hb;obtain⟨f0,f1,f2,f3,f4,f5⟩:=hf b hb;rcases f3 with f3|f3
  ·exact I.ok.nh b o e f3
  ·exact absurd (ax (I.ok.bs b o e).1) (LK.mpr f3)
 ·intro b hb z;obtain⟨f0,f1,f2,f3,f4,f5⟩:=hf b hb;rcases aI.mp (I.K1 b z) with z|z
  ·exact f1 z
  ·exact f2 z
 ·intro i x v AZ h2 h3;have hi:i<c8.length:=by
   unfold B9 at h2;by_cases hi:i<c8.length
   ·exact hi
   ·rw[cF (by simpa using hi),fi] at h2
    simp_all
  obtain⟨j,hj⟩:∃j,c8[i]?=some j:=⟨_,ae hi⟩
  have hs:U[j]?=some (some v):=by
   unfold B9 at h2;rw[aL (by simpa using hi),ag,hj] at h2;simp only[Option.map_some] at h2;cases e:U[j]? with
   |none=>rw[e] at h2;cases h2
   |some a=>rw[e] at h2;exact ie some (aN h2)
  obtain⟨y,MZ,MY,zR,MX⟩:=S.Po i j hj;have ey:y=x:=by
   have vH:N'[i]?=some x:=AZ;rw[MZ] at vH;exact aN vH
  subst ey;obtain⟨m0,hm0,hl⟩:=I.loc;obtain ⟨u,ru,hu⟩:=hl j y v MY hs (by
   rcases MX with z|z
   ·exact .inr (.inl z)
   ·exact .inr (.inr z))
  refine⟨u,ru,.inr ⟨C9 (env:=X.env) (names:=scope.names) zR,?_⟩⟩;rcases hu with⟨z,_⟩|⟨_,c,qS,Gd⟩
  ·simp_all
  ·obtain⟨c',jq⟩:=S.vV y zR;have e:=S.cin y c' jq;rw[qS] at e;cases e;obtain⟨o,e1,e2⟩:=Gd;exact⟨c,(frees zR).trans jq,o,k _ _ e1,e2⟩
 ·intro x c h;rcases two h with⟨_,q,_⟩|⟨q,_⟩
  ·exact⟨none,q⟩
  ·obtain⟨v,o,e1,e2⟩:=I.cell x c (S.cin x c q);exact⟨v,o,k _ _ e1,e2⟩
 ·exact I.cu.fresh hC
 ·intro x c h;rcases two h with⟨l,_⟩|⟨q,_⟩
  ·exact I.cu.fresh (eG (cY hC l))
  ·exact I.fY x c (S.cin x c q)
 ·intro p hp;have iP:p∈X.pn++pins:=by simpa[d0] using hp
  obtain⟨p1,p2,p3,p4,p5⟩:=I.pin p iP;refine⟨k _ _ p1,p2,EY _ _ p1,λz=>?_,p5⟩;rcases aI.mp (I.K1 _ z) with z|z
  ·exact p3 z
  ·exact p4 z
 ·unfold B9;show _=N'.length;rw[bE,ai,List.length_replicate];have:=S.Bs;omega
theorem Inv.Kw{lz:List (Addr×Obj)}{cc:St}{H':Hp}{s':Shared}(I:Inv X pins U H s)(hf:∀b∈fp,C2 X pins H b)(J:Inv (d0 X pins scope N' cl C s H fp) lz cc H' s'):Inv X pins U H' s' :=
 I.KN (ch:=fp) J.os J.base J.cu J.bare λb hb=>by
  obtain⟨f0,f1,f2,f3,f4,f5⟩:=hf b hb;exact⟨f3,f1,f4,f5⟩
theorem Inv.Qb{D:Addr}{ys:List V}{bt:List Value}{n:Nat}(I:Inv X pins U H s)(f:C2 X pins H D)(hs:X.dJ.heap.objs.size<=D)(hv:Vals ys bt)(hz:ys.length<=sizeLine)(ho:s.heap.get? D=some { cls:=.type "list",data:=.seq bt.toArray n }):Inv X pins U (upd H D (.lst ys)) s:=by
 obtain⟨f0,f1,f2,f3,f4,f5⟩:=f;have fF:∀b o,X.dJ.heap.get? b=some o->b≠D:=λb o e z=>absurd (ax e) (by rw[z];exact LK.mpr hs);have tup:∀b u,H b=some u->upd H D (.lst ys) b=some u:=λb u e=>by rw[d8 (m9 e f0)];exact e
 refine⟨I.ok,I.os,I.bare,⟨?_,?_,?_,I.base.there,?_,?_,?_⟩,I.loc,I.cell,?_,?_,?_,?_,I.len,I.sg⟩
 ·exact λb o e n1 n2 n3=>I.base.keep b o e n1 n2 n3
 ·exact λb o e n1 n2 n3=>I.base.slot b o e n1 n2 n3
 ·exact λb o e n1 n2=>by rw[d8 (fF b o e)];exact I.base.free b o e n1 n2
 ·exact λb xs e=>tup _ _ (I.base.ja b xs e)
 ·exact λb o u e=>tup _ _ (I.base.iJ b o u e)
 ·exact λb ps e=>by
   obtain⟨more,q⟩:=I.base.jb b ps e;exact⟨more,tup _ _ q⟩
 ·rw[d8 f1.symm];exact I.free
 ·exact λx c e=>by rw[d8 (f4 x c e)];exact I.fY x c e
 ·intro p hp;obtain⟨p1,p2,p3⟩:=I.pin p hp;exact⟨p1,by rw[d8 (f5 p hp)];exact p2,p3⟩
 ·intro a o e;by_cases ha:a=D
  ·subst ha;rw[u4] at e;cases e;exact⟨hz,bt,n,hv,ho⟩
  ·rw[d8 ha] at e;have q:=I.cu a o e;refine q.X4 (λb u _ h=>h) (λb hb=>tup _ _ hb) (λb xs hb=>tup _ _ hb)
end
def Du(wi:TI)(c8:List Nat)(n:Nat)(g:TG)(tc:TT)(te:TE):TE:=λU H Q=>wi U H λJ H1=>∃W:Nat->Nat->List V->St->Hp->Prop,(∃m,W 0 m [] (B9 U c8 n) H1)/\∀i m ys U H,W i m ys U H ->
 (J.stop i H/\∀p,H p=none->Q (.ref p) (upd H p (.lst ys))) \/
 (J.go i H/\ys.length < sizeLine/\∀ x H',J.qi i H x H'->g x U H' λcH H2=>tc cH H2 λb H3 =>
  if b=true then te cH H3 λy H4=>∃ m',m' < m/\W (i + 1) m' (ys ++ [y]) cH H4 else ∃ m',m' < m/\W (i + 1) m' ys cH H3)
noncomputable abbrev O0(bt:List Value)(n:Nat):Obj:={ cls:=.type "list",data:=.seq bt.toArray n }
section
variable{pins:List (Addr×Obj)}{U:St}{H:Hp}
theorem Iw{it:Addr}{tn:Nat->Heap->Prop}{J:It}{xx:Addr->Shared->Hp->Value->Shared->Prop}{RR:Value->Addr->Result->Shared->Prop}{E:Value->Shared->Prop}{W:Nat->Nat->List V->St->Hp->Prop}{m0:Nat}{Q:VK}(S:dI X scope N' c8 cl)(hc:X.calm=true)(hg:∀C s H,PG (d0 X pins scope N' cl C s H fp) tg g)(ht:∀C s H,lR (d0 X pins scope N' cl C s H fp) ifs tc)(he:∀C s H,PE ((d0 X pins scope N' cl C s H fp).X0 (xx C s H)) elt te)(I:Inv X pins U H s)(T:Turn X.prog X.w X.K tg J fp it tn)(st:tn 0 s.heap)(hf:∀b∈fp,C2 X pins H b)(w0:W 0 m0 [] (B9 U c8 N'.length) H)(turn:∀ i m ys U H,W i m ys U H->(J.stop i H/\∀ p,H p=none->Q (.ref p) (upd H p (.lst ys))) \/
   (J.go i H/\ys.length < sizeLine/\∀ x H',J.qi i H x H'->g x U H' λcH H2=>tc cH H2 λb H3 =>
    if b=true then te cH H3 λy H4=>∃ m',m' < m/\W (i + 1) m' (ys ++ [y]) cH H4 else ∃ m',m' < m/\W (i + 1) m' ys cH H3))(Az:∀D C s' H' m,Inv X pins U H' s'->Q (.ref D) H'->s'.heap.Ns C m->H' C=none->s.heap.objs.size<=C->RR (.ref D) C (.ok .next) s')(Oa:∀D C e s',s.heap.objs.size<=C->xx C s H e s'->notedBy (model X.prog X.w) X.A (compEnvC scope (I9 scope cl C) C X.env) (λe s'=>RR (.ref D) C (.error e) s') e s') :
  wpAny (model X.prog X.w) X.A (newList []) (λacc fI=>wpAny (model X.prog X.w) X.A (newFunctionEnv scope X.env.globals cl [] X.env.qual none .none (some X.env)) (λmx jL =>
   mx.frame=X.env.frame/\codeAny (model X.prog X.w) X.A (.compStart (.ListComp elt [⟨tg,iter,ifs,0⟩] scope pos) 0 (.ref it) acc { mx with scope:=relabel scope X.env }) (RR acc mx.locals) jL) E fI) E s:=by
 refine dG (Js λdR jh gM oJ=>?_);generalize qX:s.heap.push { cls:=.type "list",dict:=none,data:=.seq ([]:List Value).toArray }=H2 at jh gM oJ ⊢;generalize eD:s.heap.objs.size=D at *;have hC:H2.objs.size=D+1:=by rw[<- qX,eW,eD]
 generalize eC:H2.objs.size=C at *;have vB:D≠C:=by omega
 have lt:∀b o,s.heap.get? b=some o->b<D:=λb o e=>by rw[<- eD];exact ax e
 have qy:D<=C:=by omega
 have pE:∀b o,s.heap.get? b=some o->b≠C:=λb o e=>aK (ay (lt b o e) qy);have ni:∀b o,s.heap.get? b=some o->b≠D:=λb o e=>aK (lt b o e);have old:∀b o,s.heap.get? b=some o->dR.get? b=some o:=λb o e=>gM b o (qX▸aj _ e);have lh:dR.get? D=some (O0 [] 0):=gM _ _ (by rw[<- qX,<- eD];exact aB _ rfl);have jg:∀b∈fp,∃o,s.heap.get? b=some o:=λb hb=>by
  obtain⟨o,e,_⟩:=T.obj _ _ st b hb;exact⟨o,e⟩
 have vA:D∉fp:=λhm=>by
  obtain⟨o,e⟩:=jg D hm;exact ni D o e rfl
 have X1:Inv (d0 X pins scope N' cl C s H fp) [] (B9 U c8 N'.length) H { s with heap:=dR } :=
  I.Iy S hc hf jg (by rw[eD];omega) ⟨_,jh⟩ old oJ
 have fm:tn 0 dR:=T.keep _ _ _ st λb _ o e=>old b o e;have Be:∀{H':Hp},(∀b∈fp,H' b=none)->∀b∈fp,C2 (d0 X pins scope N' cl C s H fp) [] H' b:=λhn b hb=>by
  obtain⟨f0,f1,f2,f3,f4,f5⟩:=hf b hb;obtain⟨o,e⟩:=jg b hb;refine⟨hn b hb,?_,?_,.inl hb,λx c q=>(Z7 oJ q).elim (λl z=>absurd (cO (z▸l) (ay (lt b o e) qy)) (bK _)) λq=>f4 x c (S.cin x c q),λp hp=>?_⟩
  ·exact pE b o e
  ·exact λz=>by
    rcases aI.mp (I.K1 b z) with z|z
    ·exact f1 z
    ·exact f2 z
  ·have iP:p∈X.pn++pins:=by simpa[d0] using hp
   exact f5 p iP
 have fD:∀{H':Hp},H' D=none->C2 (d0 X pins scope N' cl C s H fp) [] H' D:=λhn=>by
  refine⟨hn,vB,λz=>?_,.inr (by show s.heap.objs.size<=D;omega),λx c q=>?_,λp hp=>?_⟩
  ·exact absurd (I.wF (a:=D) ()) λpK=>by
    rcases aI.mp (I.K1 D z) with z|z
    ·exact absurd I.lt (by simp_all)
    ·exact pK z
  ·rcases Z7 oJ q with l|q
   ·exact λz=>absurd (ay (z▸l) qy) (bK _)
   ·obtain⟨v,o,e,_⟩:=I.cell x c (S.cin x c q);exact ni c o e
  ·have iP:p∈X.pn++pins:=by simpa[d0] using hp
   exact ni _ _ (I.pin p iP).1
 have qu:∀{H':Hp} {s':Shared} {cc:St} {bt:List Value} {n:Nat},Inv (d0 X pins scope N' cl C s H fp) [] cc H' s'->H' D=none->s'.heap.get? D=some (O0 bt n) ->
   Inv (d0 X pins scope N' cl C s H fp) [(D,O0 bt n)] cc H' s':=λ{H' s' cc bt n} J0 hn e=>J0.J5 λp hp=>by
  have z:p=(D,O0 bt n):=by simpa using hp
  subst z;obtain⟨f0,f1,f2,_⟩:=fD hn;exact⟨e,f0,f1,f2,λv z=>nomatch z⟩
 have oo:∀{H':Hp} {bt:List Value} {n:Nat},(∀b∈fp,H' b=none)->∀b∈fp,C2 (d0 X pins scope N' cl C s H fp) [(D,O0 bt n)] H' b:=λ{H' bt n} hn b hb=>by
  obtain⟨f0,f1,f2,f3,f4,f5⟩:=Be hn b hb;refine⟨f0,f1,f2,f3,f4,λp hp=>?_⟩;have iP:p∈(d0 X pins scope N' cl C s H fp).pn\/p=(D,O0 bt n):=by simpa using hp
  rcases iP with z|z
  ·exact f5 p (bx _ z)
  ·subst z;exact λz=>vA (by rw[show D=b from z];exact hb)
 have loop:∀fI:Shared,fI={ s with heap:=dR } ->
   codeAny (model X.prog X.w) X.A (.compLoop (.ListComp elt [⟨tg,iter,ifs,0⟩] scope pos) 0 (.ref it) (.ref D) (compEnvC scope (I9 scope cl C) C X.env)) (RR (.ref D) C) fI:=by
  rintro fI rfl;refine aC9 (λn s'=>∃ i ys cc H' bt nn,Inv (d0 X pins scope N' cl C s H fp) [] cc H' s'/\tn i s'.heap/\(∀ b ∈ fp,H' b=none)/\H' D=none/\Vals ys bt/\ys.length <= sizeLine /\
   s'.heap.get? D=some (O0 bt nn)/\W i n ys cc H') ?_ m0 ⟨0,[],_,H,[],0,X1,fm,λb hb=>(hf b hb).1,I.cu.fresh (),.nil,cj _,lh,w0⟩
  rintro n s3 ⟨i,ys,iB,H3,bt,nn,I3,jo,pT,d3,v3,z3,o3,w3⟩;have wO:=qu I3 d3 o3;rcases turn i n ys iB H3 w3 with⟨stop,q⟩|⟨go,hz,step⟩
  ·refine cU (T.done (d0 X pins scope N' cl C s H fp) rfl rfl rfl rfl i _ s3 _ H3 _ wO (oo pT) jo stop) λr s4 ⟨hr,I4⟩=>?_;subst hr;have o4:=(I4.pin (D,O0 bt nn) (by simp)).1;have J4:Inv X pins U H3 s4:=I.Kw hf I4;have Bf:C2 X pins H3 D:=by
    refine⟨d3,bO (by rw[<- eD];exact I.lt),I.wF (),.inr (by have:=I.sz;omega),λx c q=>?_,λp hp=>?_⟩
    ·obtain⟨v,o,e,_⟩:=I.cell x c q;exact ni c o e
    ·exact ni _ _ (I.pin p hp).1
   obtain⟨mC,Ag,_⟩:=I4.loc;exact Az D C s4 (upd H3 D (.lst ys)) mC (J4.Qb Bf (by have:=I.sz;omega) v3 z3 o4) (q D d3) Ag (by rw[d8 vB.symm];exact I4.free) ()
  ·refine cU (T.item (d0 X pins scope N' cl C s H fp) rfl rfl rfl rfl i _ s3 _ H3 _ wO (oo pT) jo go) λr s4 ⟨u,hr,h4⟩=>?_;subst hr;refine cU h4 λ_ s5 bB=>?_;obtain⟨x,H5,I5,r5,y5,lZ,vI⟩:=bB;have wN:=I5.pinned (oo vI) (T.obj _ _ lZ);refine cU (hg C s H _ s5 _ H5 x u _ wN r5 (step x H5 y5)) λ_ s6 bB=>?_;obtain⟨lW,H6,I6,q6⟩:=bB;refine cU (ht C s H _ s6 lW H6 _ I6 q6) λok s7 ⟨H7,I7,q7⟩=>?_;have back:∀{ue:St} {H8:Hp} {s8:Shared},Inv (d0 X pins scope N' cl C s H fp) ([(D,O0 bt nn)]++V2 fp s5.heap) ue H8 s8->(∀b∈fp,H8 b=none)/\tn (i+1) s8.heap/\H8 D=none/\s8.heap.get? D=some (O0 bt nn) :=
    λ{ue H8 s8} I8=>by
     have pf:∀b∈fp,∀o,s5.heap.get? b=some o->s8.heap.get? b=some o/\H8 b=none:=λb hb o e=>by
      have:=I8.pin (b,o) (aO _ (aO _ (P2 hb e)));exact⟨this.1,this.2.1⟩
     have pd:=I8.pin (D,O0 bt nn) (by simp);refine⟨λb hb=>?_,T.keep _ _ _ lZ λb hb o e=>(pf b hb o e).1,pd.2.1,pd.1⟩;obtain⟨o,e,_⟩:=T.obj _ _ lZ b hb;exact(pf b hb o e).2
   cases ok with
   |false =>
    obtain⟨m',hm,w7⟩:=q7;obtain⟨b1,b2,b3,b4⟩:=back I7;exact⟨m',hm,i+1,ys,lW,H7,bt,nn,I7.J5 λp hp=>absurd hp (by simp),b2,b1,b3,v3,z3,b4,w7⟩
   |true =>
    refine bJ (he C s H _ s7 lW H7 _ (I7.X0 _) q7) (λxv s8 bB=>?_) λe s' hx=>Oa D C e s' () hx;obtain⟨y,H8,I8,r8,m',hm,w8⟩:=bB;have I8:=I8.BC;obtain⟨b1,b2,b3,b4⟩:=back I8;refine call_meets F.slot_list_append ⟨_,b4,rfl⟩ F.entry_list_append (F.args_list_append_2 _ _) (PySem.list_append D bt.toArray nn xv (by rw[aZ];have:=v3.length;omega)) ⟨b4,?_⟩;have q:∃n',(s8.heap.update D (Obj.mapSeq (·.push xv))).get? D=some (O0 (bt++[xv]) n'):=by
     have q0:=PySem.IsL.update b4 (·.push xv);have e0:bt.toArray.push xv=(bt++[xv]).toArray:=by simp
     rw[e0] at q0;exact⟨_,q0⟩
    obtain⟨n',q⟩:=q;have El:Inv (d0 X pins scope N' cl C s H fp) [] lW H8 s8:=I8.J5 λp hp=>absurd hp (by simp);obtain⟨f0,f1,f2,f3,f4,f5⟩:=fD (H':=H8) b3;have kp:∀b o,b≠D->s8.heap.get? b=some o->(s8.heap.update D (Obj.mapSeq (·.push xv))).get? b=some o:=λb' u hb hu=>(et s8.heap (Obj.mapSeq (·.push xv)) (cz hb)).trans hu;refine⟨m',hm,i+1,ys++[y],lW,H8,bt++[xv],n',El.turned (it:=D) (t':=s8.toks) kp f0 f1 f3 f4 f5,T.keep _ _ _ b2 λb hb o e=>kp b o (λz=>vA (by rw[<- z];exact hb)) e,b1,b3,v3.append (.cons r8 .nil),?_,q,w8⟩;rw[bE,List.length_singleton];omega
 exact⟨rfl,codeAny_compStart_list (loop _ rfl) (T.self _ 0 _ _ _ fm (loop _ rfl))⟩
theorem Inv.KZ{h':Heap}{s2:Shared}{H2:Hp}(I:Inv X pins U H s)(hC:s2.heap.objs.size<=C)(I2:Inv X pins U H2 s2)(hn:H C=none)(sb:Heap.SameBut C s.heap h'):Inv X pins U H { s with heap:=h' }:=by
 have f:=I2.pX (b:=C) (H':=H) hC hn;obtain⟨f0,f1,f2,f3,f4,f5⟩:=f;exact I.turned (t':=s.toks) (λb o hb e=>sb.extBut b o hb e) f0 f1 f3 f4 f5
theorem IC{M:Model}{E:Value->Shared->Prop}{a:Sem Value}{b:Sem Env}{P:Env->Prop}{Q:Value->Env->Shared->Prop}(h:wpAny M A a (λx s1=>wpAny M A b (λy s2=>P y/\Q x y s2) E s1) E s):wpAny M A a (λx s1=>wpAny M A b (λy s2=>Q x y s2) E s1) E s :=
 bJ h (λ_ _ h=>bJ h (λ_ _ h=>h.2) λ_ _ z=>z) λ_ _ z=>z
theorem Ka{wi:TI}(S:dI X scope N' c8 cl)(hc:X.calm=true)(hi:PI X tg iter wi)(hg:∀pins C s H fp,PG (d0 X pins scope N' cl C s H fp) tg g)(ht:∀pins C s H fp,lR (d0 X pins scope N' cl C s H fp) ifs tc)(he:∀pins C s H fp,PE (d0 X pins scope N' cl C s H fp) elt te)(hs:∀x,foldedSetIterable iter X.env x=pure x):PE X (.ListComp elt [⟨tg,iter,ifs,0⟩] scope pos) (Du wi c8 N'.length g tc te):=by
 intro pins s U H Q I h;refine iV (use:=none) rfl hs S.rG S.kind S.names (cU (hi pins s U H _ I h) λxv bU dR=>cU dR λva gY jP=>?_);obtain⟨it,fp,tn,J,H2,e,I2,T,fZ,f2,W,⟨m0,w0⟩,turn⟩:=jP;subst e;refine IC (Iw (xx:=λ_ _ _ _ _=>False) (RR:=λacc C=>compPost (model X.prog X.w) X.A X.xe none (EP X pins U Q) acc C) S hc (λC s H=>hg pins C s H fp) (λC s H=>ht pins C s H fp) (λC s H=>he pins C s H fp) I2 T fZ f2 w0 turn ?_ λ_ _ _ _ _ z=>z.elim);intro D C s' H' m I' q hn hC hsz;exact⟨m,hn,λh' sb=>⟨.ref D,H',I'.KZ hsz I2 hC sb,rfl,q⟩⟩
theorem aF1{uu px:Pos}{wi:TI}{i:Nat}(S:dI X scope N' c8 cl)(hc:X.calm=true)(hi:PI X tg iter wi)(hg:∀pins C s H fp,PG (d0 X pins scope N' cl C s H fp) tg g)(ht:∀pins C s H fp,lR (d0 X pins scope N' cl C s H fp) ifs tc)(he:∀pins C s H fp,PE (d0 X pins scope N' cl C s H fp) elt te)(hs:∀x,foldedSetIterable iter X.env x=pure x)(hN:X.Nd)(vm:X.N[i]?=some x)(hx:Loc X.env.scope x)(hf:X.fn x=true\/X.env.scope.names.lookup x=some .local) :
  PS X (.Assign [.Name x px] (.ListComp elt [⟨tg,iter,ifs,0⟩] scope pos) uu) (vX (Du wi c8 N'.length g tc te) (tO i)):=by
 intro pins s U H D I h;have xw:∃b,swapsWith (.ListComp elt [⟨tg,iter,ifs,0⟩] scope pos) (some (.Name x px)) uu.line X.env=pure b:=⟨_,rfl⟩
 obtain⟨b,xw⟩:=xw;cases b with
 |false=>exact JE hN vm hx (Ka S hc hi hg ht he hs) xw hf pins s U H D I h
 |true =>
  rw[exec_Assign_Name_used _ _ _ _ xw];refine ab (fo (ab ?_));refine ab (bJ (iV (use:=some (assign (.Name x px) X.env)) (Q:=λ_ s'=>SP X pins D .next s') rfl hs S.rG S.kind S.names
   (cU (hi pins s U H _ I h) λxv bU dR=>cU dR λva gY jP=>?_)) (λ_ s' hq=>ao (ao hq)) λ_ _ e=>e)
  obtain⟨it,fp,tn,J,H2,e,I2,T,fZ,f2,W,⟨m0,w0⟩,turn⟩:=jP;subst e;refine IC (Iw (xx:=λ_ _ _ _ _=>False) (Q:=λv H1=>tO i v U H1 D.nx) (RR:=λacc C=>compPost (model X.prog X.w) X.A X.xe (some (assign (.Name x px) X.env)) (λ_ s'=>SP X pins D .next s') acc C) S hc (λC s H=>hg pins C s H fp) (λC s H=>ht pins C s H fp) (λC s H=>he pins C s H fp) I2 T fZ f2 w0 turn ?_ λ_ _ _ _ _ z=>z.elim);intro Dl C s' H' m I' q hn hC hsz;refine wpAny_assign_Name (Io I' hN vm hx (v:=.ref Dl) rfl (λs3 I3 ⟨a,sb,ha⟩=>?_) hf);have Oc:C≠a:=by
   obtain⟨f0,f1,f2,f3,f4,f5⟩:=I2.pX (b:=C) (H':=H') hsz hC;rcases ha with z|z
   ·rw[z];exact f1
   ·exact λz'=>f4 _ _ z z'.symm
  obtain⟨f0,f1,f2,f3,f4,f5⟩:=I2.pX (b:=C) (H':=H') hsz hC;refine⟨m,hn.sameBut sb Oc,λh3 Mm=>⟨_,H',I3.turned (t':=s3.toks) (λb o hb e=>Mm.extBut b o hb e) f0 f1 f3 f4 f5,q⟩⟩
end
end L2
namespace HT
open PySem PyProof.Rows
end HT
namespace L2
open PySem PySem.Spec PyProof.Rows
section
variable{X:Cx}
theorem aG0:l6 X (.builtin "isinstance") (λxs H Q=>∃x t c b,xs=[x,.ty c]/\hV X.K H x t/\PySem.W.kitOne X.K t (.type c)=some b/\Q (.bl b) H):=by
 intro pins s U H xs us Q I r h;obtain⟨x,t,c,b,rfl,hT,hk,q⟩:=h;obtain⟨u,w',rfl,ru,gp⟩:=vals2 r;cases (show w'=Value.type c from gp);exact YR I ru hT hk λtk=>⟨.bl b,H,I.tok tk,rfl,q⟩
theorem Yz(hc:X.calm=true):l6 X (.builtin "all") (λxs H Q=>∃(a:Addr) (bs:List Bool),xs=[.ref a]/\fS X.K H a (bs.map V.bl)/\Q (.bl (bs.all id)) H):=by
 intro pins s U H xs us Q I r h;obtain⟨a,bs,rfl,ha,q⟩:=h;obtain⟨u,rfl,ru⟩:=vals1 r;cases ru;obtain⟨bt,rv,p,hz⟩:=I.list ha;refine call_all_walk ?_;refine fT p.isList ?_;have fF:a≠s.heap.objs.size:=by
  obtain⟨o,e,_⟩:=id p.isList;exact aK (ax e)
 have hl:=rv.length;rw[ai] at hl;refine⟨s.heap.objs.size,_,_,_,_,_,λi=>bs.getD i true,rfl,zc (A:=X.A.in1) (I.ok.hd hc) _ a fF bt.toArray,⟨⟨_,aB _ rfl,rfl,rfl⟩,?_⟩,?_,λh' tk k=>?_⟩
 ·obtain⟨o,e,q1⟩:=id p.isList;exact⟨o,aj _ e,q1⟩
 ·intro i v s' Q' E' hP hQ;have hv:bt[i]?=some v:=by simpa using hP
  have hi:i<bs.length:=by rw[hl];exact(au.mp hv).1
  obtain⟨u',vd,zy⟩:=rv.get (i:=i) (x:=V.bl bs[i]) (by rw[ag,ae hi];rfl);rw[hv] at vd;cases vd;cases (show v=Value.bool bs[i] from zy);refine cK ?_;have:bs.getD i true=bs[i]:=by simp[List.getD,hi]
  dsimp only at hQ;rw[this] at hQ;exact hQ
 ·have e1:(List.range bt.toArray.size).all (λi=>bs.getD i true)=bs.all id:=by
   rw[aZ,<- hl];rw[aU];simp only[List.all_eq_true,List.mem_range,id];constructor
   ·intro hh x hx;obtain⟨i,hi,rfl⟩:=bg.mp hx;have:=hh i hi;simpa[List.getD,hi] using this
   ·intro hh i hi;have:=hh bs[i] (cy hi);simpa[List.getD,hi] using this
  rw[e1];exact ⟨.bl (bs.all id),H,I.kept (t':=tk) λb o e=>k b o (by
   intro hb;have:b=s.heap.objs.size:=by simpa using hb
   exact absurd (ax e) (by rw [this];exact bK _)) (aj _ e),rfl,q⟩
end
end L2
namespace HT
open PySem PyProof.Rows
end HT
namespace L2
open PySem PySem.Spec PyProof.Rows
variable{X:Cx}{pos p:Pos}{H:Hp}{U:St}{s s':Shared}{ta:TA}
theorem n6.get{P:Program}{w:World}{h:Heap}{a:Addr}:∀{o:HO},n6 P w H h a o->∃ob,h.get? a=some ob
 |.lst _,x=>by obtain⟨_,_,_,_,e⟩:=x;exact⟨_,e⟩
 |.tup _,x=>by obtain⟨_,_,_,o,e,_⟩:=x;exact⟨o,e⟩
 |.dK _,x=>by obtain⟨_,_,_,_,o,es,ep,e,_⟩:=x;exact⟨o,e⟩
 |.dT _,x=>by obtain⟨_,_,_,_,o,es,ep,e,_⟩:=x;exact⟨o,e⟩
 |.set _ _,x=>by obtain⟨o,es,ep,t,e,_⟩:=x;exact⟨o,e⟩
 |.ins _ _ _,x=>by obtain⟨_,_,_,e,_⟩:=x;exact⟨_,e⟩
 |.own _,x=>x
 |.xd _,x=>by obtain⟨mA,n,_⟩:=x;obtain⟨od,e,_⟩:=Ia n;exact⟨od,e⟩
 |.mI _ _,x=>by obtain⟨_,_,_,e⟩:=x;exact⟨_,e⟩
 |.jR _ _,x=>⟨_,x.1⟩
 |.ly _,x=>⟨_,x⟩
 |.met _ _,x=>⟨_,x⟩
 |.ext _,x=>x.2.1
def CT(H':Hp)(h0:Heap)(l:List Env)(e:Value)(C:Addr)(h:Heap):Prop :=
 ∃(ea:Addr) (a0:Value) (B:Heap),e=.ref ea/\Heap.FlyingW B l ea (.ref C) a0 h/\∀b o,h.get? b=some o->b∉iS l->(H' b≠none\/∃o0,h0.get? b=some o0)->B.get? b=some o
def kE(P:Program)(w:World):nT:=λouter H s E e s'=>∃(C:Addr) (H':Hp),s'.os=s.os/\AllBare s'.gens/\Un (iS outer) [] H H' s.heap s'.heap/\gH P w H' s'.heap/\CT H' s.heap outer e C s'.heap/\E (.ref C) none H'
section
variable{pins:List (Addr×Obj)}{E:XK}{e:Value}
theorem Inv.flew(I:Inv X pins U H s)(h:kE X.prog X.w X.stack H s E e s'):∃C H',Inv X pins U H' s'/\CT H' s.heap X.stack e C s'.heap/\E (.ref C) none H':=by
 obtain⟨C,H',ho,hb,hu,cu,fl,hE⟩:=h;exact⟨C,H',I.KN (ch:=[]) ho hu cu hb (by simp),fl,hE⟩
theorem a50(I:Inv X pins U H s){b:Addr}(hb:b∈iS X.stack):∃o,s.heap.get? b=some o/\∀vs,o.data≠.fields vs:=(I.stack.mem hb).2
theorem WE{rq:Heap}{B:Heap}{ea C:Addr}{a0:Value}(I:Inv X pins U H s)(fR:X.stack=X.env::X.outer)(hex:X.ex=[])(hf:X.env.frame=some X.env.locals)(zN:∀b o,s.heap.get? b=some o->b∉iS X.stack->(H b≠none\/∃o0,X.dJ.heap.get? b=some o0)->B.get? b=some o)(sl:∀b∈iS X.stack,∀o,s.heap.get? b=some o->∃sl,rq.get? b=some { o with slots:=sl })(fw:Heap.FlyingW B X.outer ea (.ref C) a0 rq)(hE:E (.ref C) none H):kE X.prog X.w X.outer X.lq X.dJ E (.ref ea) { s with heap:=rq }:=by
 have zU:∀b,b∈iS X.outer->b∈iS X.stack:=λb hb=>by rw[fR];unfold iS at hb ⊢;rw[eK,hf];exact bC _ hb
 have uH:∀b o,X.dJ.heap.get? b=some o->b∉iS X.outer->b∉iS X.stack:=λb o e hb z=>by
  rcases aI.mp (I.K1 b z) with z|z
  ·exact absurd (ax e) (by rw[z];exact LK.mpr I.ok.above)
  ·exact hb z
 have qj:∀b u,H b=some u->b∉iS X.stack:=λb u e z=>by rw[I.Cf b z] at e;cases e
 have kept:∀b o,s.heap.get? b=some o->b∉iS X.stack->(H b≠none\/∃o0,X.dJ.heap.get? b=some o0)->rq.get? b=some o:=λb o e n q=>fw.1 b o (zN b o e n q);have uJ:∀b,b∉X.ex:=λb=>by rw[hex];simp
 refine⟨C,H,I.os,I.bare,⟨?_,?_,?_,?_,I.base.ja,I.base.iJ,I.base.jb⟩,?_,⟨ea,a0,B,rfl,fw,?_⟩,hE⟩
 ·exact λb o e n1 n2 _=>kept b o (I.base.keep b o e n1 n2 (uJ b)) (uH b o e n2) (.inr ⟨o,e⟩)
 ·intro b o e n1 n2 _;obtain⟨sl1,e1⟩:=I.base.slot b o e n1 n2 (uJ b);obtain⟨EL,e2⟩:=sl b (zU b n2) _ e1;exact⟨EL,e2⟩
 ·exact λb o e n1 _=>I.base.free b o e n1 (uJ b)
 ·intro b o e _;obtain⟨o1,e1⟩:=I.base.there b o e (uJ b);by_cases hb:b∈iS X.stack
  ·obtain⟨EL,e2⟩:=sl b hb _ e1;exact⟨_,e2⟩
  ·exact⟨o1,kept b o1 e1 hb (.inr ⟨o,e⟩)⟩
 ·intro a o e;exact (I.cu a o e).X4 (λb u hb q=>by
   have lH:∃v,H b=some v:=by
    rcases hb with rfl|hb
    ·exact⟨o,e⟩
    ·exact⟨_,hb⟩
   obtain⟨v,hv⟩:=lH;exact kept b u q (qj b v hv) (.inl (by rw [hv];simp))) (λb hb=>hb) (λb xs hb=>hb)
 ·intro b o e n q;rcases q with q|⟨o0,q⟩
  ·obtain⟨v,hv⟩:=Option.ne_none_iff_exists'.mp q;obtain⟨o1,e1⟩:=(I.cu b v hv).get;have z:=zN b o1 e1 (qj b v hv) (.inl (by rw[hv];simp));have z':=fw.1 b o1 z;have:o=o1:=by
    have e':rq.get? b=some o:=e;rw[z'] at e';exact(aN e').symm
   subst this;exact z
  ·obtain⟨o1,e1⟩:=I.base.there b o0 q (uJ b);have z:=zN b o1 e1 (uH b o0 q n) (.inr ⟨o0,q⟩);have z':=fw.1 b o1 z;have:o=o1:=by
    have e':rq.get? b=some o:=e;rw[z'] at e';exact(aN e').symm
   subst this;exact z
theorem aB6{h0:Heap}{C:Addr}{Ex:Value->Shared->Prop}(I:Inv X pins U H s)(fl:CT H h0 X.stack e C s.heap)(Oz:∀b o,X.dJ.heap.get? b=some o->∃o',h0.get? b=some o')(fR:X.stack=X.env::X.outer)(hex:X.ex=[])(hf:X.env.frame=some X.env.locals)(hE:E (.ref C) none H):wpAny (model X.prog X.w) X.A (leaving X.env e) (λ_ uz=>kE X.prog X.w X.outer X.lq X.dJ E e uz) Ex s:=by
 obtain⟨ea,a0,B,rfl,fw,hB⟩:=fl;rw[fR] at fw;refine wpAny_leaves_onW (by rw[I.ok.frames,fR]) hf fw λrq OK us=>?_;refine WE I fR hex hf (λb o e n q=>hB b o e n (q.imp id λ⟨o0,q⟩=>Oz b o0 q)) (λb hb o e=>?_) OK hE;obtain⟨o1,e1,nf⟩:=a50 I hb;rw[e] at e1;cases e1;exact us b o e nf
end
def Ek(K:PySem.W.Frag)(a:Addr):It :=
 ⟨λi H=>∃xs x,fS K H a xs/\xs[i]?=some x,λi H v H'=>∃p x,H p=none/\v=.ref p/\(∀xs,fS K H a xs->xs[i]?=some x)/\H'=upd H p (.tup [.int i,x]),λi H=>∃xs,fS K H a xs/\xs.length<=i⟩
theorem Zw{P:Program}{w:World}{K:PySem.W.Frag}{elts:List Expr}{x1:Nat}{tp:Pos}(a e it:Addr)(FY:e≠it):Turn P w K (.Tuple elts x1 tp) (Ek K a) [e,it] e (λi h=>(∃old,IsEnum h e it i old)/\h.IsListIter it a i) where
 mem:=by simp
 obj:=λi h st b hb=>by
  obtain⟨⟨old,h1⟩,o,h2,c,d⟩:=st;rcases aI.mp hb with z|z
  ·subst z;exact ⟨_,h1,λv z=>by
    have z':Data.fields _=Data.cell v:=z;cases z'⟩
  ·have z:b=it:=by simpa using z
   subst z;exact⟨o,h2,λv z=>by rw[d] at z;cases z⟩
 keep:=λi h h' st k=>by
  obtain⟨⟨old,h1⟩,h2⟩:=st;exact⟨⟨old,k e (by simp) _ h1⟩,h2.at λo x=>k it (by simp) o x⟩
 item:=by
  intro X hP hw hK hc i pins s U H E I hf st hg;subst hP hw hK;obtain⟨⟨old,h1⟩,h2⟩:=st;obtain⟨xs,x,hq,hx⟩:=hg;obtain⟨bt,rv,p,hz⟩:=I.list hq;obtain⟨u,hu,ru⟩:=rv.get hx;obtain⟨e0,e1,e2,e3,e4,e5⟩:=hf e (by simp);obtain⟨f0,f1,f2,f3,f4,f5⟩:=hf it (by simp);refine wpAny_pyNext_enum_item h1 h2 p.isList (x:=u) (by simpa using hu) FY λh' qQ An pG vc oi=>?_;refine⟨_,rfl,wpAny_letOwnedTupleGo_enum qQ λvE NI gi=>?_⟩;have gi:Heap.SameBut e h' vE:=gi;have elt:e<s.heap.objs.size:=ax h1;have kp:∀b o,b≠e->b≠it->s.heap.get? b=some o->vE.get? b=some o:=λb o b1 b2 q=>(gi.2 b b1).trans (oi b o b1 b2 q);have hn:H s.heap.objs.size=none:=I.cu.fresh (av _);have zp:vE.get? s.heap.objs.size=some { cls:=.type "tuple",data:=.seq #[.int i s.toks,u] }:=(gi.2 _ (bO elt)).trans pG;have ne:∀b u',H b=some u'->b≠e/\b≠it:=λb u' q=>And.intro (λ(z:b=e)=>by simp_all) (λ(z:b=it)=>by simp_all);have cu:gH X.prog X.w (upd H s.heap.objs.size (.tup [.int i,x])) vE:=λb o q=>by
   by_cases hb:b=s.heap.objs.size
   ·subst hb;rw[u4] at q;cases q;exact⟨by show 2<=sizeLine;decide,[.int i s.toks,u],.cons ⟨_,rfl⟩ (.cons ru .nil),_,zp,rfl,⟨_,rfl⟩,rfl⟩
   ·rw[d8 hb] at q;refine(I.cu b o q).X4 (λc v hc q'=>?_) (λc q'=>by rw[d8 (m9 q' hn)];exact q') λc ys q'=>by rw[d8 (m9 q' hn)];exact q'
    rcases hc with z|z
    ·subst z;exact kp _ _ (ne _ _ q).1 (ne _ _ q).2 q'
    ·exact kp _ _ (ne _ _ z).1 (ne _ _ z).2 q'
  have I2:Inv X pins U (upd H s.heap.objs.size (.tup [.int i,x])) { s with heap:=vE,toks:=s.toks+1 }:=by
   refine I.step (g':=s.gens) (d':=s.drawn) (t':=s.toks+1) (ch:=[e,it]) (λb hb=>?_) (λb o _ _ hb q _=>kp b o (λz=>hb (by simp[z])) (λz=>hb (by simp[z])) q) (λb o _ _ hb q _=>⟨o.slots,kp b o (λz=>hb (by simp[z])) (λz=>hb (by simp[z])) q⟩)
    (λb o _ q n=>by rw[d8 (aK (ax q))];exact n) (λb o hb q=>⟨o,kp b o (λz=>hb (by simp[z])) (λz=>hb (by simp[z])) q⟩)
    (λb ys q=>by rw[d8 (m9 q hn)];exact q) (λb o' ys q=>by rw[d8 (m9 q hn)];exact q) (λb ps q=>⟨#[],by rw[d8 (m9 q hn),q];simp⟩) (λm hm=>?_) cu I.bare
   ·rcases aI.mp hb with z|z
    ·subst z;exact⟨e3,e1,e4,e5⟩
    ·have z:b=it:=by simpa using z
     subst z;exact⟨f3,f1,f4,f5⟩
   ·obtain⟨o,es,ep,ho,r⟩:=hm;exact⟨o,es,ep,kp _ o (cz e1) (cz f1) ho,r⟩
  refine⟨.ref s.heap.objs.size,_,I2,rfl,⟨s.heap.objs.size,x,hn,rfl,λys hy=>by rw[I.Ck hy hq];exact hx,rfl⟩,⟨⟨u,by simpa using NI⟩,An.at λo y=>(gi.2 it FY.symm).trans y⟩,λb hb=>?_⟩;have lH:b<s.heap.objs.size:=by
   rcases aI.mp hb with z|z
   ·subst z;exact elt
   ·have z:b=it:=by simpa using z
    subst z;obtain⟨o,h2,_⟩:=h2;exact ax h2
  rw[d8 (aK lH)];exact(hf b hb).1
 done:=by
  intro X hP hw hK hc i pins s U H E I hf st hg;subst hP hw hK;obtain⟨⟨old,h1⟩,h2⟩:=st;obtain⟨xs,hq,hx⟩:=hg;obtain⟨bt,rv,p,hz⟩:=I.list hq;obtain⟨f0,f1,f2,f3,f4,f5⟩:=hf it (by simp);have hl:=rv.length;exact wpAny_pyNext_enum_end (I.ok.hd hc) h1 h2 p.isList (by simp;omega) λh' eb=>⟨rfl,I.turned (t':=s.toks) (λb o hb e=>eb b o hb e) f0 f1 f3 f4 f5⟩
 self:=λ_ _ _ _ _ st h=>by
  obtain⟨⟨old,h1⟩,h2⟩:=st;exact wpAny_pyIter_enum h1 h
theorem TZ{l:Expr}{tp:Pos}{elts:List Expr}{x1:Nat}(hg:Gl X "enumerate")(hm:X.mg "enumerate"=none)(ha:PA X [l] ta)(hs:starEach [l] X.env=[(false,eval l X.env)]) :
  PI X (.Tuple elts x1 tp) (.Call (.Name "enumerate" p) [l] [] pos) (λU H R=>ta U H λvs H1=>∃a,vs=[.ref a]/\(∃xs,fS X.K H1 a xs)/\R (Ek X.K a) H1):=by
 intro pins s U H R I h;refine Call_ (K7 I hg hm PyProof.Rows.boot_enumerate (bN (cU (ha pos pins s U H _ I h) λus s1 bB=>?_) hs rfl));obtain⟨vs,H1,I1,r1,q1⟩:=bB;obtain⟨a,e,⟨xs,hq⟩,q⟩:=q1;subst e;cases r1 with
 |cons r rr =>
  cases rr;cases r;obtain⟨bt,rv,p,hz⟩:=I1.list hq;refine call_enumerate_list p.isList λh' he hit hsz hk=>wpAny_pyIter_enum he ?_;refine⟨s1.heap.objs.size+1,[s1.heap.objs.size+1,s1.heap.objs.size],_,_,H1,rfl,I1.kept (t':=s1.toks) hk,Zw a _ _ (by simp),⟨⟨_,he⟩,hit⟩,λb hb=>?_,q⟩;have lH:s1.heap.objs.size<=b:=by
   rcases aI.mp hb with z|z
   ·simp_all
   simp_all
  exact I1.pX lH (I1.cu.fresh lH)
theorem ZJ{lo:Int}{acc:Array Value}{n:Nat}(h:ItemsOf (λi v=>∃t,v=.int (lo+i*1) t) acc n):Vals ((List.range n).map λ(k:Nat)=>V.int (lo+k)) acc.toList:=by
 have hl:acc.toList.length=n:=by
  have:=h.1;omega
 have go:∀(m:Nat) (l:List Value),l.length<=n->m+l.length=n->(∀i v,l[i]?=some v->∃t,v=Value.int (lo+((m+i:Nat):Int)) t)->Vals ((List.range' m l.length).map λ(k:Nat)=>V.int (lo+k)) l:=by
  intro m l
  induction l generalizing m with
  |nil=>intro _ _ _;exact .nil
  |cons x r ih =>
   intro h1 h2 h3;refine .cons ?_ (ih (m+1) (by simp at h1;omega) (by simp at h2;omega) λi v hv=>?_)
   ·obtain⟨t,e⟩:=h3 0 x rfl;exact⟨t,by rw[e];simp⟩
   ·obtain⟨t,e⟩:=h3 (i+1) v (by simpa using hv)
    grind
 have:=go 0 acc.toList () () λi v hv=>?_
 ·rw[hl,<- List.range_eq_range'] at this;exact this
 ·have:acc[i]?=some v:=by rw[<- fP];exact hv
  obtain⟨t,e⟩:=h.2 i v this;refine⟨t,?_⟩;rw[e];simp
theorem Jp(hc:X.calm=true):l6 X (.type "list") (λxs H Q=>∃a lo hi,xs=[.ref a]/\H a=some (.mI lo hi)/\(-(2 ^ 62)<=lo/\lo<2 ^ 62/\-(2 ^ 62)<=hi/\hi<2 ^ 62/\hi-lo<=100000)/\∀p,H p=none->Q (.ref p) (upd H p (.lst ((List.range (hi-lo).toNat).map λ(k:Nat)=>V.int (lo+k))))):=by
 intro pins s U H xs us Q I r h;obtain⟨a,lo,hi,rfl,ha,⟨h1,h2,h3,h4,h5⟩,q⟩:=h;obtain⟨t,u,v,ho⟩:=I.cu a _ ha;cases r with
 |cons r rr =>
 cases rr;cases r;have hn:Builtin.Range.rangeSize lo hi 1=((hi-lo).toNat:Nat):=by rw[rangeSize_one];split<;>omega
 refine call_list_range (n:=(hi-lo).toNat) (I.ok.hd hc) ho (small_one h1 h2 h3 h4) hn () λh' jY acc c hk hS iR=>?_;have hp:H s.heap.objs.size=none:=I.cu.fresh (av _);refine⟨.ref _,_,I.laid (a:=s.heap.objs.size) (o:=.lst ((List.range (hi-lo).toNat).map λ(k:Nat)=>V.int (lo+k))) (t':=jY) hk (av _) ⟨?_,acc.toList,c,ZJ iR,by simpa using hS⟩,rfl,q _ hp⟩;rw[ai,List.length_range];have:(hi-lo).toNat<=100000:=by omega
 exact aC this ∅
theorem Zd{a:Expr}(hg:Gl X "range")(hm:X.mg "range"=none)(ha:PA X [a] ta)(hs:starEach [a] X.env=[(false,eval a X.env)]):PE X (.Call (.Name "range" p) [a] [] pos) (λU H Q=>ta U H λvs H1=>∃j:Int,vs=[.int j]/\∀q,H1 q=none->Q (.ref q) (upd H1 q (.mI 0 j))):=by
 intro pins s U H Q I h;refine cS (K7 I hg hm boot_range (bN (cU (ha pos pins s U H _ I h) λus s1 bB=>?_) hs rfl));obtain⟨vs,H1,I1,r1,q1⟩:=bB;obtain⟨j,e,q⟩:=q1;subst e;cases r1 with
 |cons r rr =>
  cases rr;obtain⟨t,rfl⟩:=r;exact call_range_1 ⟨.ref s1.heap.objs.size,_,I1.laid (a:=s1.heap.objs.size) (o:=.mI 0 j) (λb o e=>aj _ e) (av _) ⟨_,_,_,aB _ rfl⟩,rfl,q _ (I1.cu.fresh (av _))⟩
theorem Ze{a b:Expr}(hg:Gl X "range")(hm:X.mg "range"=none)(ha:PA X [a,b] ta)(hs:starEach [a,b] X.env=[(false,eval a X.env),(false,eval b X.env)])(gi:starEach [b] X.env=[(false,eval b X.env)]):PE X (.Call (.Name "range" p) [a,b] [] pos) (λU H Q=>ta U H λvs H1=>∃i j:Int,vs=[.int i,.int j]/\∀q,H1 q=none->Q (.ref q) (upd H1 q (.mI i j))):=by
 intro pins s U H Q I h;refine cS (K7 I hg hm boot_range (bN (cU (ha pos pins s U H _ I h) λus s1 bB=>?_) (by rw[hs,gi]) (by rw[gi];rfl)));obtain⟨vs,H1,I1,r1,q1⟩:=bB;obtain⟨i,j,e,q⟩:=q1;subst e;cases r1 with
 |cons r rr =>
  cases rr with
  |cons r' rr =>
   cases rr;obtain⟨t,rfl⟩:=r;obtain⟨t',rfl⟩:=r';exact call_range_2 ⟨.ref s1.heap.objs.size,_,I1.laid (a:=s1.heap.objs.size) (o:=.mI i j) (λb o e=>aj _ e) (av _) ⟨_,_,_,aB _ rfl⟩,rfl,q _ (I1.cu.fresh (av _))⟩
def xY(K:PySem.W.Frag)(P:Params)(a:Addr)(kvs:List (Str×V)):Prop :=
 ∃es n,K.lookup a=some ⟨.type "dict",none,.dict es n,#[]⟩/\PySem.W.KeysLit P es.toList/\(a==sysModules)=false/\∀x,E8 (kvs.lookup x) (findBy Value.isStrOf es x)
theorem WU{kvs:List (Str×V)}:tU X (λx y H Q=>∃a z v,x=.ref a/\xY X.K X.w.params a kvs/\y=.str z/\kvs.lookup z=some v/\Q v H):=by
 intro value slice pins s U H x y v u Q I rx ry h hs;obtain⟨a,z,d,rfl,⟨es,n,hl,hk,lo,hf⟩,rfl,hz,q⟩:=h;cases rx;obtain⟨t,rfl⟩:=ry;have hm:=PySem.W.mapOf_K (prog:=X.prog) (w:=X.w) I.hX hl hk;have e:=hf z;rw[hz] at e;cases h2:findBy Value.isStrOf es z with
 |none=>rw[h2] at e;exact e.elim
 |some r =>
  rw[h2] at e;exact tail_any hm.typeIs slot_dict_getitem.lookup (wpAny_getItem_of (strKind_is X.prog X.w z t) hm h2 ⟨d,H,I.tok _,e,q⟩) hs
theorem Tj(hu:X.A.units+1<cLine):tU X (λx y H Q=>∃a v,x=.ref a/\O5 H a y (some v)/\Q v H):=by
 intro value slice pins s U H x y v u Q I rx ry h hs;obtain⟨a,d,rfl,g,q⟩:=h;cases rx;exact tail_any (aF7 I g) slot_dict_getitem.lookup (YH hu I g ry λw' s3 I3 gp=>⟨d,H,I3,gp,q⟩) hs
end L2
namespace ST
open PySem PyProof.Rows
variable{xs:Array Nat}{i k j n ep:Nat}{t:SetTable}{h h':Heap}{L:Bool}{es:Array (Int×Value)}{x f:Value}{prog:Program}{w:World}{a I b l:Addr}{ks ns:List Int}{A:Around}{E Q:Value->Shared->Prop}{s:Shared}{pl:List Nat}{α:Type}{r:Rd}{items:Array Value}
noncomputable abbrev kK(xs:Array Nat):Prop:=xs.toList.Pairwise (· < ·)
theorem kK.lt(h:kK xs)(gG:i<k)(hk:k<xs.size):xs.getD i 0<xs.getD k 0:=by
 have:=cJ.mp h i k (by simpa using cO gG hk) (by simpa using hk) gG;rw[<- fO (h:=cO gG hk),<- fO (h:=hk)];exact this
theorem kK.le(h:kK xs)(gG:i<=k)(hk:k<xs.size):xs.getD i 0<=xs.getD k 0:=by
 rcases Nat.eq_or_lt_of_le gG with e|e
 ·rw[e];exact av _
 ·exact eG (h.lt e hk)
theorem BU{xs:Array Nat}{j:Nat}(h:kK xs):∀(fuel lo hi:Nat),hi-lo<=fuel->lo<=hi->hi<=xs.size->(∀i,i<lo->xs.getD i 0<j)->(∀i,hi<=i->i<xs.size->j<=xs.getD i 0) ->
  SetTable.below.go xs j fuel lo hi<=xs.size/\(∀i,i<SetTable.below.go xs j fuel lo hi->xs.getD i 0<j)/\∀i,SetTable.below.go xs j fuel lo hi<=i->i<xs.size->j<=xs.getD i 0
 |0,lo,hi,h1,h2,h3,h4,h5=>by
  have:lo=hi:=by omega
  subst this;exact⟨h3,h4,h5⟩
 |fuel+1,lo,hi,h1,h2,h3,h4,h5=>by
  unfold SetTable.below.go;split
  ·have hm:(lo+hi) / 2<xs.size:=by omega
   have em:xs.getD ((lo+hi) / 2) j=xs.getD ((lo+hi) / 2) 0:=by simp[Array.getD,hm]
   dsimp only;rw[em];by_cases hc:xs.getD ((lo+hi) / 2) 0<j
   ·rw[aJ hc];exact BU h fuel _ hi () () h3 (λi iR=>cY (h.le () hm) hc) h5
   ·rw[aD hc];exact BU h fuel lo _ () () () h4 λi iR hs=>aC (Nat.le_of_not_lt hc) (h.le iR hs)
  ·have:lo=hi:=by omega
   subst this;exact⟨h3,h4,h5⟩
theorem P8(j:Nat)(h:kK xs):SetTable.below xs j<=xs.size/\(∀i,i<SetTable.below xs j->xs.getD i 0<j)/\∀i,SetTable.below xs j<=i->i<xs.size->j<=xs.getD i 0 :=
 BU h _ 0 _ () () (av _) (λi hi=>absurd hi (Nat.not_lt_zero _)) λi h1 h2=>absurd h2 ()
theorem below_at(h:kK xs)(hi:i<xs.size):SetTable.below xs (xs.getD i 0)=i:=by
 obtain⟨h1,h2,h3⟩:=P8 (xs.getD i 0) h;rcases fq (SetTable.below xs (xs.getD i 0)) i with z|z|z
 ·exact absurd (h3 _ (av _) ()) (Nat.not_le_of_lt (h.lt z hi))
 ·exact z
 ·exact absurd (h2 i z) (bK _)
theorem Zz(h:kK xs)(hi:i<xs.size):SetTable.below xs (xs.getD i 0+1)=i+1:=by
 obtain⟨h1,h2,h3⟩:=P8 (xs.getD i 0+1) h;rcases fq (SetTable.below xs (xs.getD i 0+1)) (i+1) with z|z|z
 ·have:=h3 i () hi;omega
 ·exact z
 ·have:=h2 (i+1) z;have:=h.lt (lS i) (k:=i+1) ();omega
theorem ZA(h:kK xs):SetTable.below xs 0=0:=by
 obtain⟨_,h2,_⟩:=P8 0 h;rcases Nat.eq_zero_or_pos (SetTable.below xs 0) with z|z
 ·exact z
 ·exact absurd (h2 0 z) (Nat.not_lt_zero _)
theorem getD_mem(hi:i<xs.size):xs[i]?=some (xs.getD i 0):=by simp[Array.getD,hi]
theorem ZZ(h:kK t.place)(hs:t.slot j=.empty):j∉t.place.toList:=by
 intro hm;obtain⟨i,hi,e⟩:=bg.mp hm;have iR:i<t.place.size:=by simpa using hi
 have ej:t.place.getD i 0=j:=by rw[<- fO (h:=iR)];simpa using e
 have hb:=below_at h iR;rw[ej] at hb;unfold SetTable.slot at hs;dsimp only at hs;rw[hb,getD_mem iR,ej] at hs;simp at hs
theorem ZV(h:kK xs)(hj:j∉xs.toList):kK (SetTable.insertAt xs (SetTable.below xs j) j):=by
 obtain⟨h1,h2,h3⟩:=P8 j h;show(SetTable.insertAt xs (SetTable.below xs j) j).toList.Pairwise (· < ·);rw[SetTable.toList_insertAt,aW];have tk:∀a∈xs.toList.take (SetTable.below xs j),a<j:=λa ha=>by
  obtain⟨i,hi,e⟩:=bg.mp ha;rw[cM] at hi;have hs:i<xs.size:=by omega
  have:=h2 i ()
  simp_all
 have dp:∀b∈xs.toList.drop (SetTable.below xs j),j<b:=λb hb=>by
  obtain⟨i,hi,e⟩:=bg.mp hb;have hs:SetTable.below xs j+i<xs.size:=by grind
  have:=h3 (SetTable.below xs j+i) () hs;rw[<- fO (h:=hs)] at this;have fF:b≠j:=λz=>hj (by rw[<- z];exact zf hb);simp at e;omega
 refine⟨h.take,cZ.mpr ⟨dp,h.drop⟩,λa ha b hb=>?_⟩;have mr:=tk a ha
 grind
theorem Zo(n:Nat):kK (Array.range n):=by
 show(Array.range n).toList.Pairwise (· < ·);rw[Array.toList_range];exact ua
structure Well(L:Bool)(t:SetTable):Prop where
 xk:kK t.place
 Bl:t.dummies=#[]
 led:t.led=L
theorem a33(hd:t.dummies=#[])(j:Nat):t.slot j≠.dummy:=by
 unfold SetTable.slot;dsimp only;split
 ·simp
 ·rw[hd];split
  ·rename_i z;simp[SetTable.has] at z
  simp
theorem Jg{t:SetTable}(hd:t.dummies=#[]){hashAt:Nat->Int}{h:Int}:∀(fuel:Nat) (p:SetTable.Probe) {j:Nat} {dm:Option Nat},p.dummy=none->SetTable.probe.go t hashAt h fuel p=some (.empty j dm)->t.slot j=.empty/\dm=none
 |0,p,j,dm,_,e=>by simp[SetTable.probe.go] at e
 |fuel+1,p,j,dm,hp,e=>by
  unfold SetTable.probe.go at e;have ad:∀q:SetTable.Probe,q.dummy=none->(t.advance q).dummy=none:=λq hq=>by
   unfold SetTable.advance;split
   ·exact hq
   ·exact hq
  split at e
  ·simp_all
  ·rename_i hs;exact absurd hs (a33 hd _)
  ·split at e
   ·cases e
   ·exact Jg hd fuel _ (ad p hp) e
theorem YK(hd:t.dummies=#[]){h:Int}{wd:Bool}(e:t.freeSlot h=some (j,wd)):t.slot j=.empty/\wd=false:=by
 unfold SetTable.freeSlot at e;split at e
 ·rename_i j' dm hp;obtain⟨h1,h2⟩:=Jg hd _ _ rfl hp;subst h2;cases e;exact⟨h1,rfl⟩
 ·cases e
theorem K2(h:Well L t)(n:Nat):Well L (t.standIn n):=⟨Zo n,rfl,h.led⟩
theorem aF4{h:Int}(hw:Well L t):Well L (layNew t es h x).2.1/\(layNew t es h x).2.2.1=false:=by
 unfold layNew;split
 ·rename_i slot wd e;obtain⟨h1,h2⟩:=YK hw.Bl e;refine⟨?_,h2⟩;have hd:SetTable.has t.dummies slot=false:=by rw[hw.Bl];rfl
  have w2:Well L (t.put slot).1:=⟨ZV hw.xk (ZZ hw.xk h1),by simp only[SetTable.put,hd];exact hw.Bl,hw.led⟩
  dsimp only;unfold SetTable.orStandIn;split
  ·exact w2
  ·exact K2 w2 _
 ·exact⟨K2 hw _,rfl⟩
theorem YV{mask finger moves:Nat}{led plain:Bool}{hashes:Array Int}{o:Array Nat}(hl:led=L)(e:SetTable.laid mask finger moves led plain hashes=some (t,o)):Well L t:=by
 unfold SetTable.laid at e;cases ho:SetTable.layClean mask hashes with
 |none=>rw[ho] at e;cases e
 |some owner =>
  rw[ho] at e;simp only[Option.bind_eq_bind,Option.bind_some,Option.pure_def,Option.some.injEq,Prod.mk.injEq] at e;obtain⟨rfl,_⟩:=e;refine⟨?_,rfl,hl⟩;show(List.map _ _).toArray.toList.Pairwise (· < ·);rw[List.toList_toArray];have sub:((List.range (mask+1)).filterMap λj=>(owner.getD j none).map (j,·)).map (·.1) |>.Sublist (List.range (mask+1)):=by
   generalize List.range (mask+1)=l
   induction l with
   |nil=>simp
   |cons a r ih =>
    rw[eK];cases owner.getD a none with
    |none=>exact ih.cons a
    |some k=>exact ih.cons_cons a
  exact List.Pairwise.sublist sub ua
theorem XF(hw:Well L t):Well L (relayAll t es n).2.1:=by
 unfold relayAll;split
 ·rename_i t' order e;dsimp only;split
  ·exact YV hw.led e
  ·exact K2 hw _
 ·exact K2 hw _
def toI:Value->Int
 |.int k _=>k
 |_=>0
def Led(w:World):Bool:=!(w.params.followText "set-order")
def u6(prog:Program)(w:World)(h:Heap)(a:Addr)(ks:List Int):Prop :=
 ∃o es ep t,h.get? a=some o/\o.ExactSet/\o.data=.set es ep t/\ElemsOf (intKind prog w) es.toList/\(es.toList.map λe=>toI e.2).Perm ks/\ks.Nodup/\es.size<scanBound/\t.fits es.size=true/\Well (Led w) t
theorem u6.at(x:u6 prog w h a ks)(k:∀o,h.get? a=some o->h'.get? a=some o):u6 prog w h' a ks:=by
 obtain⟨o,es,ep,t,e,r⟩:=x;exact⟨o,es,ep,t,k o e,r⟩
theorem yJ{e:Int×Value}{es:List (Int×Value)}(h:ElemsOf (intKind prog w) es)(he:e∈es):∃tk,e.2=.int (toI e.2) tk/\e.1=(intKind prog w).hash (toI e.2):=by
 obtain⟨⟨k,h1,h2⟩,_⟩:=h e he;obtain⟨t,ht⟩:=Value.isInt_shape (k:=k) (v:=e.2) h1;refine⟨t,by rw[ht];rfl,?_⟩;rw[h2,ht]
 rfl
theorem Jx{e:Int×Value}{es:List (Int×Value)}(h:ElemsOf (intKind prog w) es)(he:e∈es)(k:Int):(intKind prog w).is k e.2=decide (toI e.2=k):=by
 obtain⟨t,ht,_⟩:=yJ h he;rw[ht]
 rfl
theorem u6.mem{a:Addr}{es:List (Int×Value)}(h:ElemsOf (intKind prog w) es)(hp:(es.map λe=>toI e.2).Perm ks)(k:Int):(es.findIdx? λe=>(intKind prog w).is k e.2).isSome=decide (k∈ks):=by
 rw[aU,bD,<- hp.mem_iff,aH,eU];constructor
 ·rintro⟨i,hi⟩;obtain⟨h1,h2,_⟩:=kF.mp hi;have hm:=cy h1;rw[Jx h hm] at h2;exact⟨_,hm,bo h2⟩
 ·rintro⟨e,he,rfl⟩;cases hf:es.findIdx? λe'=>(intKind prog w).is (toI e.2) e'.2 with
  |some i=>exact⟨i,rfl⟩
  |none =>
   have:=List.findIdx?_eq_none_iff.mp hf e he;rw[Jx h he] at this;simp at this
def B6(ks:List Int)(k:Int):List Int:=if k∈ks then ks else ks++[k]
theorem a63(ks:List Int)(k:Int):(B6 ks k).length<=ks.length+1:=by unfold B6;split<;>simp
theorem Hw{k:Int}{tk:Tok}{Q:Bool->Shared->Prop}(hS:u6 prog w s.heap a ks)(hr:ks.length+1<scanBound)(h:∀h' b,Heap.SameBut a s.heap h'->u6 prog w h' a (B6 ks k)->Q b { s with heap:=h' }):wpAny (model prog w) A (setAddHashed a (.int k tk) ((intKind prog w).hash k)) Q E s:=by
 obtain⟨o,es,ep,t,ho,hx,hd,nD,hp,hn,hb,hf,hw⟩:=hS;have hlen:es.size=ks.length:=by rw[<- hp.length_eq];simp
 have gf:(intKind prog w).is k (.int k tk)=true:=eT _ _ _ _;have gv:∀(b:Bool) (s1:Shared) (Q':Unit->Shared->Prop),Q' Unit.unit s1->wpAny (model prog w) A (match b with|true=>rule "set.scan.the-table-gave-way"|false=>pure Unit.unit) Q' E s1:=λb s1 Q' q=>by
  cases b
  ·exact ao q
  ·exact ei q
 refine bS (ab (cL ho hd hf ?_));dsimp only;rw[byScan_of rfl hb nD,aJ rfl];refine ab (ab (ei (ab (wpAny_setScan_of gf ho hd hf nD ?_))));have hm:=u6.mem (a:=a) nD hp k;cases gh:es.toList.findIdx? (λe=>(intKind prog w).is k e.2) with
 |some j =>
  have hk:k∈ks:=by simp_all
  refine ao (ao ?_);refine h s.heap _ (Heap.SameBut.refl a s.heap) ?_;unfold B6;rw[aJ hk];exact⟨o,es,ep,t,ho,hx,hd,nD,hp,hn,hb,hf,hw⟩
 |none =>
  rw[gh] at hm;have hk:k∉ks:=by simpa using hm.symm
  have p1:=layNew_perm t es ((intKind prog w).hash k) (.int k tk);have f1:=layNew_fits t es ((intKind prog w).hash k) (.int k tk);obtain⟨w1,EC⟩:=aF4 (es:=es) (h:=(intKind prog w).hash k) (x:=.int k tk) hw;generalize layNew t es ((intKind prog w).hash k) (.int k tk)=R1 at p1 f1 w1 EC ⊢;obtain⟨gN,t1,wd,OI⟩:=R1;subst EC;rw[dy] at p1;have GK:ElemsOf (intKind prog w) gN.toList:=(nD.push gf rfl).perm p1;have sz1:gN.size=es.size+1:=by rw[<- cG,p1.length_eq];simp
  have k1:(gN.toList.map λe=>toI e.2).Perm (B6 ks k):=by
   unfold B6;rw[aD hk];refine(p1.map _).trans ?_;rw[dX];exact hp.append_right _
  have n1:(B6 ks k).Nodup:=by
   unfold B6;rw[aD hk,cE];exact⟨hn,by simp,λx hx y hy=>by grind⟩
  refine ab (gv _ _ _ ?_);have fin:∀ (t2:SetTable),t2.fits gN.size=true->Well (Led w) t2->wpAny (model prog w) A (do
    storeSet a gN t2
    if(!false&&t2.tooFull)=true then do
      (match(relayAll t2 gN (SetTable.grown gN.size)).2.2 with|true=>rule "set.scan.the-table-gave-way"|false=>pure Unit.unit)
      storeSet a (relayAll t2 gN (SetTable.grown gN.size)).1 (relayAll t2 gN (SetTable.grown gN.size)).2.1
      pure (some true)
     else pure (some true)) (λr s'=>wpAny (model prog w) A (match r with | some added=>pure added | none=>setAddHashedIn a (.int k tk) ((intKind prog w).hash k) 99999) Q E s') E s:=λt2 f2 w2=>by
   have g1:(s.heap.update a (Obj.putSet gN t2)).get? a=some { o with data:=.set gN (ep+1) t2 }:=by
    have:=bw (Obj.putSet gN t2) ho (by rw[putSet_of gN t2 hd];rfl);rw[putSet_of gN t2 hd] at this;exact this
   refine ab (wpAny_storeSet_of ho hd ?_ (fits_of_scanBound ()));have EO:=bT s.heap a (Obj.putSet gN t2);split
   ·have p2:=relayAll_perm t2 gN (SetTable.grown gN.size);have f3:=relayAll_fits t2 gN (SetTable.grown gN.size);have w3:=XF (es:=gN) (n:=SetTable.grown gN.size) w2;generalize relayAll t2 gN (SetTable.grown gN.size)=R2 at p2 f3 w3 ⊢;obtain⟨oU,t3,gv2⟩:=R2;dsimp only at p2 f3 w3 ⊢;have sz2:oU.size=gN.size:=by rw[<- cG,p2.length_eq,cG]
    refine ab (gv _ _ _ ?_);refine ab (wpAny_storeSet_of g1 rfl ?_ (fits_of_scanBound ()));refine ao (ao (h _ _ (EO.trans (bT _ a _)) ?_));have g2:((s.heap.update a (Obj.putSet gN t2)).update a (Obj.putSet oU t3)).get? a=some { o with data:=.set oU (ep+1+1) t3 }:=by
     have:=bw (Obj.putSet oU t3) g1 (by rfl);exact this
    exact⟨_,oU,_,t3,g2,hx,rfl,GK.perm p2,(p2.map _).trans k1,n1,by omega,f3,w3⟩
   ·exact ao (ao (h _ _ EO ⟨_,gN,_,t2,g1,hx,rfl,GK,k1,n1,by omega,f1 |> λ_=>f2,w2⟩))
  split
  ·refine ab (eR (hashByValue_scannable 8 rfl) ?_);exact fin _ f1 w1
  ·refine ab (ao ?_);exact fin _ f1 w1
theorem aC5:entryFor table "set.__iter__"=some Builtin.«frozenset.__iter__» :=
 entryFor_alias (id':="frozenset.__iter__") (by kernel_rfl) rfl (by decide +kernel) (by kernel_rfl)
theorem B7:Slot "set_iterator" "__next__" "set_iterator.__next__" :=
 .of (owner:="set_iterator") (n:="__next__") (by rw[typeLookup_type,builtinLookup_eq_fast];kernel_rfl) (by decide +kernel) (by decide +kernel) (by decide +kernel)
  (by first|exact .inl (by decide +kernel)|exact .inr (by decide +kernel)) (by rw[fU];kernel_rfl)
theorem IU:entryFor table "set_iterator.__next__"=some Builtin.«set_iterator.__next__»:=entryFor_of_tree (by kernel_rfl)
theorem Jk(a:Value):argsOk "set_iterator.__next__" ⟨[a],[]⟩:=by
 unfold argsOk
 kernel_rfl
theorem Jo:Slot "set_iterator" "__iter__" "set_iterator.__iter__" :=
 .of (owner:="set_iterator") (n:="__iter__") (by rw[typeLookup_type,builtinLookup_eq_fast];kernel_rfl) (by decide +kernel) (by decide +kernel) (by decide +kernel)
  (by first|exact .inl (by decide +kernel)|exact .inr (by decide +kernel)) (by rw[fU];kernel_rfl)
theorem aF6:entryFor table "set_iterator.__iter__"=some Builtin.«dict_keyiterator.__iter__» :=
 entryFor_alias (id':="dict_keyiterator.__iter__") (by kernel_rfl) rfl (by decide +kernel) (by kernel_rfl)
theorem aE1(a:Value):argsOk "set_iterator.__iter__" ⟨[a],[]⟩:=by
 unfold argsOk
 kernel_rfl
inductive Rd|text|plain|drawn
structure Lies(h:Heap)(a:Addr)(es:Array (Int×Value))(ep:Nat)(t:SetTable):Prop where
 at_:∃o,h.get? a=some o/\o.cls=.type "set"/\o.data=.set es ep t
 fit:t.fits es.size=true
theorem Lies.at(x:Lies h a es ep t)(k:∀o,h.get? a=some o->h'.get? a=some o):Lies h' a es ep t :=
 ⟨let ⟨o,e,r⟩:=x.at_;⟨o,k o e,r⟩,x.fit⟩
def C7(h:Heap)(I a:Addr)(f:Value)(i n ep:Nat):Prop:=∃o,h.get? I=some o/\o.cls=.type "set_iterator"/\o.data=.fields #[f,rawInt i,.ref a,rawInt n,rawInt ep]
theorem C7.at(x:C7 h I a f i n ep)(k:∀o,h.get? I=some o->h'.get? I=some o):C7 h' I a f i n ep:=let ⟨o,e,r⟩:=x;⟨o,k o e,r⟩
theorem C7.ty(x:C7 s.heap I a f i n ep):s.TypeIs (.ref I) "set_iterator":=let ⟨o,e,c,_⟩:=x;⟨o,e,c⟩
def we(w:World)(a:Addr)(es:Array (Int×Value))(ep:Nat)(pl:List Nat):Rd->List Value
 |.text=>(pickOrder (w.params.setOrder a ep) es).toList.map (·.2)
 |.plain=>es.toList.map (·.2)
 |.drawn=>pl.map λj=>(es.getD j (0,.none)).2
def slotAt(t:SetTable):Nat->Nat
 |0=>0
 |i+1=>t.place.getD i 0+1
def M0(h:Heap)(t:SetTable)(b:Addr)(pl:List Nat)(i:Nat)(f:Value):Rd->Prop
 |.text=>∃k:Nat,f=rawInt k
 |.plain=>f=rawInt (slotAt t i)
 |.drawn=>f=.ref b/\∃o e,h.get? b=some o/\o.cls=.type "tuple"/\o.data=.seq (pl.map λj=>rawInt (j:Nat)).toArray e
def tF(w:World)(es:Array (Int×Value))(t:SetTable)(pl:List Nat):Rd->Prop
 |.text=>w.params.followText "set-order"=true
 |.plain=>w.params.followText "set-order"=false/\(t.plain=true\/es.size<=1)/\Well true t
 |.drawn=>w.params.followText "set-order"=false/\pl.Perm (List.range es.size)
theorem wj{Q:Bool->Shared->Prop}(h:Q (w.params.followText "set-order") s):wpAny (model prog w) A setsByText Q E s:=by
 exact ab (qf (ao h))
theorem Ie(hL:Lies s.heap a es ep t)(ht:w.params.followText "set-order"=true){sl g:Nat}{Q:Option (Value×Nat)->Shared->Prop}(h:Q (((pickOrder (w.params.setOrder a ep) es)[g]?).map λe=>(e.2,sl)) s) :
  wpAny (model prog w) A (setNext a sl g ep) Q E s:=by
 obtain⟨o,ho,_,hd⟩:=hL.at_;refine ab (cL ho hd hL.fit ?_);refine ab (wj ?_);rw[ht,aJ rfl,aD (by simp)];refine ab (ab (cL ho hd hL.fit ?_));refine ab (wj ?_);rw[ht,aJ rfl];exact ab (qf (ao (ao h)))
theorem IH(hL:Lies s.heap a es ep t)(ht:w.params.followText "set-order"=false)(hp:t.plain=true\/es.size<=1)(hl:t.led=true){sl g:Nat}{Q:Option (Value×Nat)->Shared->Prop}(h:Q (match es[SetTable.below t.place sl]?,t.place[SetTable.below t.place sl]? with|some (_,x),some j=>some (x,j+1)|_,_=>none) s):wpAny (model prog w) A (setNext a sl g ep) Q E s:=by
 obtain⟨o,ho,_,hd⟩:=hL.at_;refine ab (cL ho hd hL.fit ?_);refine ab (wj ?_);rw[ht,aD ∅];show wpAny _ _ (if(!t.plain&&decide (es.size>1))=true then _ else _) _ _ _;rw[aD (by rcases hp with e|e<;>simp[e])];refine ab (eR (a:=Unit.unit) ?_ (ao h));show((if(!t.led&&!es.isEmpty)=true then unsupported "set:maker-not-led" else pure Unit.unit):Sem Unit)=pure Unit.unit;rw[hl]
 rfl
theorem ZT(hL:Lies s.heap a es ep t)(hj:j<es.size)(h:Q (es.getD j (0,.none)).2 s):wpAny (model prog w) A (setNextDrawn a j ep) Q E s:=by
 obtain⟨o,ho,_,hd⟩:=hL.at_;refine ab (cL ho hd hL.fit ?_);dsimp only;rw[aD (by simp)];have e:es[j]?=some (es.getD j (0,.none)):=by simp_all
 rw[e];exact ao h
theorem HJ(hL:Lies s.heap a es ep t):t.place.size=es.size:=by
 have:=hL.fit;unfold SetTable.fits at this;simp at this;exact this.1
theorem Iv(hw:kK t.place)(hi:i<=t.place.size):SetTable.below t.place (slotAt t i)=i:=by
 cases i with
 |zero=>exact ZA hw
 |succ i=>exact Zz hw ()
theorem entries{Q:Array (Int×Value)->Shared->Prop}(hL:Lies s.heap a es ep t)(h:Q es s):wpAny (model prog w) A (setEntries a) Q E s:=by
 obtain⟨o,ho,_,hd⟩:=hL.at_;exact ab (cL ho hd hL.fit (ao h))
theorem Vl{f':Value}(hi:C7 h I a f i n ep)(hx:x=rawInt ((i:Int)+1)):C7 ((h.update I (Obj.mapFields (·.setIfInBounds 0 f'))).update I (Obj.mapFields (·.setIfInBounds 1 x))) I a f' (i+1) n ep:=by
 obtain⟨o,ho,hc,hd⟩:=hi;have h1:=bw (Obj.mapFields (·.setIfInBounds 0 f')) ho (eF (cb hd _));have d1:(Obj.mapFields (·.setIfInBounds 0 f') o).data=.fields #[f',rawInt i,.ref a,rawInt n,rawInt ep]:=by rw[cb hd];simp
 have h2:=bw (Obj.mapFields (·.setIfInBounds 1 x)) h1 (eF (cb d1 _));refine⟨_,h2,(oq ..).trans ((oq ..).trans hc),?_⟩;rw[cb d1]
 simp_all
theorem Vk(hi:C7 h I a f i n ep)(hx:x=rawInt ((i:Int)+1)):C7 (h.update I (Obj.mapFields (·.setIfInBounds 1 x))) I a f (i+1) n ep:=by
 obtain⟨o,ho,hc,hd⟩:=hi;have h2:=bw (Obj.mapFields (·.setIfInBounds 1 x)) ho (eF (cb hd _));refine⟨_,h2,(oq ..).trans hc,?_⟩;rw[cb hd];subst hx;simp[rawInt]
theorem Hn{f':Value}{m:Sem α}{Q':α->Shared->Prop}(hi:C7 s.heap I a f i n ep)(hx:x=rawInt ((i:Int)+1))(h:∀h',C7 h' I a f' (i+1) n ep->Heap.SameBut I s.heap h'->wpAny (model prog w) A m Q' E { s with heap:=h' }) :
  wpAny (model prog w) A (do setField (.ref I) 0 f';setField (.ref I) 1 x;m) Q' E s:=by
 obtain⟨o,ho,hc,hd⟩:=id hi;refine ab (eQ ho hd (by simp) ?_);have h1:=bw (Obj.mapFields (·.setIfInBounds 0 f')) ho (eF (cb hd _));have d1:(Obj.mapFields (·.setIfInBounds 0 f') o).data=.fields #[f',rawInt i,.ref a,rawInt n,rawInt ep]:=by rw[cb hd];simp
 refine ab (eQ (s:={ s with heap:=_ }) h1 d1 (by simp) ?_);exact h _ (Vl hi hx) ((bT ..).trans (bT ..))
theorem VO{m:Sem α}{Q':α->Shared->Prop}(hi:C7 s.heap I a f i n ep)(hx:x=rawInt ((i:Int)+1))(h:∀h',C7 h' I a f (i+1) n ep->Heap.SameBut I s.heap h'->wpAny (model prog w) A m Q' E { s with heap:=h' }) :
  wpAny (model prog w) A (do setField (.ref I) 1 x;m) Q' E s:=by
 obtain⟨o,ho,hc,hd⟩:=id hi;refine ab (eQ ho hd (by simp) ?_);exact h _ (Vk hi hx) (bT ..)
theorem Cp(next:Nat->Nat)(xs:Array α):(pickOrder next xs).toList.Perm xs.toList:=by
 have go:∀(fuel k:Nat) (left:List α) (out:Array α),fuel=left.length->(pickOrder.go next fuel k left out).toList.Perm (out.toList++left):=by
  intro fuel
  induction fuel with
  |zero =>
   intro k left out e;have:left=[]:=dN e.symm;subst this;simp[pickOrder.go]
  |succ n ih =>
   intro k left out e;have dF:next k % left.length<left.length:=LL _ ()
   unfold pickOrder.go;rw[ae dF];refine(ih _ _ _ (by rw[gz dF];omega)).trans ?_;rw[dy,bQ];refine dZ _ ?_;have:left.Perm (left[next k % left.length]::left.eraseIdx (next k % left.length)):=by
    rw[lr]
    conv=>lhs;rw[<- bG (next k % left.length) left,df dF]
    exact List.perm_middle
   exact this.symm
 have:=go xs.size 0 xs.toList #[] (by simp);simpa[pickOrder] using this
theorem next_item{Q:Option Value->Shared->Prop}(hL:Lies s.heap a es ep t)(hr:tF w es t pl r)(hi:C7 s.heap I a f i es.size ep)(hf:M0 s.heap t b pl i f r)(fF:b≠I)(dF:i<es.size)(h:∀v h' f',(we w a es ep pl r)[i]?=some v->C7 h' I a f' (i+1) es.size ep->M0 h' t b pl (i+1) f' r->Heap.SameBut I s.heap h'->Q (some v) { s with heap:=h' }):wpAny (model prog w) A (pyNext (.ref I)) Q E s:=by
 obtain⟨o,ho,hc,hd⟩:=id hi;refine ab (mB (wpAny_callSpecial?_slot (name:=Str.ofString "__next__") hi.ty B7 (dU B7 hi.ty IU ?_ (Jk _))));refine ab (ao ?_);refine ab (wpAny_fieldsOf ho hd ?_);refine ab (entries hL ?_);rw[aD (by simp)];rw[dw,dw];cases r with
 |text =>
  obtain⟨k,rfl⟩:=hf;refine ab (Ie hL hr ?_);have hl:i<(pickOrder (w.params.setOrder a ep) es).size:=by
   have:=(Cp (w.params.setOrder a ep) es).length_eq
   simp_all
  rw[pA hl];refine Hn hi rfl λh' h1 h2=>ao ⟨_,rfl,ao (h _ _ _ ?_ h1 ⟨_,rfl⟩ h2)⟩;show((pickOrder (w.params.setOrder a ep) es).toList.map (·.2))[i]?=_;simp[hl]
 |plain =>
  obtain⟨r1,r2,r3⟩:=hr;have hs:=HJ hL;obtain rfl:=hf;dsimp only[rawInt];rw[dw];refine ab (IH hL r1 r2 r3.led ?_);rw[Iv r3.xk (),pA dF,getD_mem ()];refine Hn hi rfl λh' h1 h2=>ao ⟨_,rfl,ao (h _ _ _ ?_ h1 rfl h2)⟩;show(es.toList.map (·.2))[i]?=_;simp[dF]
 |drawn =>
  obtain⟨r1,r2⟩:=hr;obtain⟨rfl,ob,e,hb,Ge,xJ⟩:=hf;have gF:i<pl.length:=by rw[r2.length_eq];simpa using dF
  refine ab (wpAny_seqItems hb xJ ?_);have hj:pl[i]<es.size:=by
   have:=r2.mem_iff.mp (cy gF)
   simp_all
  have e1:(pl.map λj=>rawInt (j:Nat)).toArray[i]?=some (rawInt (pl[i]:Nat)):=by simp[gF]
  dsimp only;rw[e1];refine ab (ZT hL hj ?_);refine VO hi rfl λh' h1 h2=>ao ⟨_,rfl,ao (h _ _ _ ?_ h1 ⟨rfl,ob,e,by rw[h2.2 b fF];exact hb,Ge,xJ⟩ h2)⟩;show(pl.map λj=>(es.getD j (0,.none)).2)[i]?=_;simp[gF]
theorem Ct{Q:Option Value->Shared->Prop}{h0:Heap}(hh:A.handled=none)(Oy:Heap.ExtBut I h0 s.heap)(h:∀h',Heap.ExtBut I h0 h'->Q none { s with heap:=h' }) :
  wpAny (model prog w) A.in1 (newExc (.type "StopIteration") [] >>= λe=>(raiseNew e:Sem Fin)) (λfin s'=>∃v,fin=Fin.done (Flow.ret v)/\wpAny (model prog w) A (pure (some v)) Q E s')
   (λe s'=>wpAny (model prog w) A (do
     let x <- isInstance e (Value.type "StopIteration")
     if x=true then pure none else throw e) Q E s') s:=by
 refine ab ?_;refine ab (dG ?_ (by size_fits));refine ab (m:=firstArgMember _ _) (eR (a:=Value.none) (by rfl) ?_);refine dG ?_ (by size_fits);refine ab (wpAny_handled ?_);rw[show A.in1.handled=none from hh];refine ab (ao (wpAny_throw ?_));refine ab (ff (T:="StopIteration") (b:=true) ⟨_,aB _ rfl,rfl⟩ isSubtype_stop ?_);exact ao (h _ ((Oy.push _).push _))
theorem next_end{Q:Option Value->Shared->Prop}(hh:A.handled=none)(hL:Lies s.heap a es ep t)(hr:tF w es t pl r)(hi:C7 s.heap I a f es.size es.size ep)(hf:M0 s.heap t b pl es.size f r)(fF:b≠I)(h:∀h',Heap.ExtBut I s.heap h'->Q none { s with heap:=h' }):wpAny (model prog w) A (pyNext (.ref I)) Q E s:=by
 obtain⟨o,ho,hc,hd⟩:=id hi;refine ab (mB (wpAny_callSpecial?_slot (name:=Str.ofString "__next__") hi.ty B7 (dU B7 hi.ty IU ?_ (Jk _))));refine ab (ao ?_);refine ab (wpAny_fieldsOf ho hd ?_);refine ab (entries hL ?_);rw[aD (by simp)];rw[dw,dw];cases r with
 |text =>
  obtain⟨k,rfl⟩:=hf;refine ab (Ie hL hr ?_);have hl:(pickOrder (w.params.setOrder a ep) es).size<=es.size:=by
   have:=(Cp (w.params.setOrder a ep) es).length_eq
   grind
  rw[ud hl];refine ab (eQ ho hd (by simp) ?_);exact Ct (s:={ s with heap:=_ }) hh (bT ..).extBut h
 |plain =>
  obtain⟨r1,r2,r3⟩:=hr;have hs:=HJ hL;obtain rfl:=hf;dsimp only[rawInt];rw[dw];refine ab (IH hL r1 r2 r3.led ?_);rw[Iv r3.xk (),ud (av _)];refine ab (eQ ho hd (by simp) ?_);exact Ct (s:={ s with heap:=_ }) hh (bT ..).extBut h
 |drawn =>
  obtain⟨r1,r2⟩:=hr;obtain⟨rfl,ob,e,hb,Ge,xJ⟩:=hf;have gF:pl.length=es.size:=by rw[r2.length_eq];simp
  refine ab (wpAny_seqItems hb xJ ?_);have e1:(pl.map λj=>rawInt (j:Nat)).toArray[es.size]?=none:=by simp[gF]
  dsimp only;rw[e1];refine ab (eQ ho hd (by simp) ?_);have h1:=bw (Obj.mapFields (·.setIfInBounds 0 (Value.int 0 0))) ho (eF (cb hd _));refine ab (eQ (s:={ s with heap:=_ }) h1 (cb hd _) (by simp) ?_);exact Ct (s:={ s with heap:=_ }) hh ((bT ..).trans (bT ..)).extBut h
theorem Zf{l:List α}(dF:k<l.length):(l[k]::l.eraseIdx k).Perm l:=by
 rw[lr]
 conv=>rhs;rw[<- bG k l,df dF]
 exact List.perm_middle.symm
theorem Iz{α:Type}:∀(n:Nat) (xs:List α) (s:Shared) (Q:List α->Shared->Prop),n=xs.length->(∀ys d,ys.Perm xs->Q ys { s with drawn:=d })->wpAny (model prog w) A (drawOrder n xs) Q E s
 |0,xs,s,Q,e,h=>by
  have:xs=[]:=dN e.symm;subst this;exact ao (h [] s.drawn (ot _))
 |n+1,[],s,Q,e,h=>by simp at e
 |n+1,x::xs,s,Q,e,h=>by
  refine ab ?_;intro Γ p hΓ;refine⟨by simp,?_⟩;generalize (model prog w).w.draws .order (s.drawn.get .order)=k;have dF:k % (x::xs).length<(x::xs).length:=LL _ (by simp);have go:wpAny (model prog w) A (match (x :: xs)[k % (x :: xs).length]? with
   |some y=>do
    let ys <- drawOrder n ((x::xs).eraseIdx (k % (x::xs).length))
    pure (y::ys)
   | none=>unsupported "internal:drawOrder") Q E { s with drawn:=s.drawn.bump .order }:=by
   rw[ae dF];refine ab (Iz n _ _ _ (by rw[gz dF];omega) λys d hp=>ao ?_);exact h _ d ((List.Perm.cons _ hp).trans (Zf dF))
  exact go
theorem KG(hr:tF w es t pl r):(we w a es ep pl r).Perm (es.toList.map (·.2)):=by
 cases r with
 |text=>exact(Cp _ es).map _
 |plain=>rfl
 |drawn =>
  refine(hr.2.map _).trans ?_;have:(List.range es.size).map (λj=>(es.getD j (0,.none)).2)=es.toList.map (·.2):=by
   apply List.ext_getElem
   ·simp
   simp_all
  rw[this]
theorem Lies.ty(hL:Lies s.heap a es ep t):s.TypeIs (.ref a) "set":=let ⟨o,e,c,_⟩:=hL.at_;⟨o,e,c⟩
theorem Yi(hL:Lies s.heap a es ep t)(hw:Well (Led w) t)(hz:es.size<=10000)(h:∀r pl b f I h' d',tF w es t pl r->C7 h' I a f 0 es.size ep->M0 h' t b pl 0 f r->b≠I->(b=a\/s.heap.objs.size<=b)->(∀c o,s.heap.get? c=some o->h'.get? c=some o)->s.heap.objs.size<=I->s.heap.objs.size<=h'.objs.size->Q (.ref I) { s with heap:=h',drawn:=d' }) :
  wpAny (model prog w) A (pyIter (.ref a)) Q E s:=by
 obtain⟨o,ho,Aa,hd⟩:=hL.at_;refine wpAny_pyIter_slot hL.ty F.slot_set_iter (dU F.slot_set_iter hL.ty aC5 ?_ (F.args_set_iter_1 _));refine ab (ao ?_);refine ab (ab (entries hL (ao ?_)));refine ab (ab (cL ho hd hL.fit ?_));refine ab (wj (ao ?_));have dF:=ax ho;have fin:∀(r:Rd) (f:Value) (b:Addr) (pl:List Nat) (h1:Heap) (d1:Drawn),tF w es t pl r->(∀h',(∀c o,h1.get? c=some o->h'.get? c=some o)->M0 h' t b pl 0 f r)->b<h1.objs.size->(b=a\/s.heap.objs.size<=b)->(∀c o,s.heap.get? c=some o->h1.get? c=some o)->s.heap.objs.size<=h1.objs.size ->
   wpAny (model prog w) A.in1 (do
    let e <- setEpoch a
    ret (<- newFields "set_iterator" [f,rawInt 0,.ref a,rawInt es.size,rawInt e])) (λfin s'=>∃ v,fin=Fin.done (Flow.ret v)/\∃ T' r,s'.TypeIs v T'/\typeLookup (.type T') "__next__"=pure (some r)/\Q v s') E { s with heap:=h1,drawn:=d1 }:=λr f b pl h1 d1 hr hf hb sQ he hsz=>by
  have sU:Lies h1 a es ep t:=hL.at λo e=>he a o e;obtain⟨o1,pJ,_,Ga⟩:=sU.at_;refine ab (ab (cL (s:={ s with heap:=h1,drawn:=d1 }) pJ Ga sU.fit (ao ?_)));refine ab (dG (ao ⟨_,rfl,"set_iterator",_,⟨_,aB _ rfl,rfl⟩,B7.lookup,?_⟩));refine h r pl b f h1.objs.size _ d1 hr ⟨_,aB _ rfl,rfl,rfl⟩ (hf _ λc o e=>aj _ e) (aK hb) sQ (λc o e=>aj _ (he c o e)) hsz (by rw[size_push'];exact Nat.le_succ_of_le hsz)
 cases hT:w.params.followText "set-order" with
 |true =>
  refine ab (ao ?_);exact fin .text (rawInt 0) a [] s.heap s.drawn hT (λh' _=>⟨0,rfl⟩) dF (.inl rfl) (λc o e=>e) (av _)
 |false =>
  show wpAny _ _ (if(!false&&(!t.plain&&decide (es.size>1)))=true then _ else _ ) _ _ _;by_cases hp:t.plain=true\/es.size<=1
  ·rw[aD (by rcases hp with e|e<;>simp[e])];refine ab (ao ?_);refine fin .plain (rawInt 0) a [] s.heap s.drawn ⟨hT,hp,?_⟩ (λh' _=>rfl) dF (.inl rfl) (λc o e=>e) (av _);have:Led w=true:=by unfold Led;rw[hT];rfl
   simp_all
  ·rw[aJ (by grind)];refine ab (Iz _ _ _ _ (List.length_range).symm λys d hy=>?_);have hl:ys.length=es.size:=by rw[hy.length_eq];simp
   refine ab (dG ?_ (by show(List.map _ ys).toArray.size<=sizeLine;rw[aZ,ai,hl];exact aC hz ∅));refine fin .drawn (.ref s.heap.objs.size) s.heap.objs.size ys _ d ⟨hT,hy⟩ (λh' hk=>⟨rfl,_,_,hk _ _ (aB _ rfl),rfl,rfl⟩) (by simp) (.inr (av _)) (λc o e=>aj _ e) (by simp)
theorem Zs(hh:A.handled=none)(hr:tF w es t pl r)(fF:b≠I)(FH:a≠I) :
  Walks prog w A I [I,a,b] [I] es.size (λi v=>(we w a es ep pl r)[i]?=some v) (λi h=>Lies h a es ep t/\∃f,C7 h I a f i es.size ep/\M0 h t b pl i f r) where
 sub:=λc hc=>by simp_all
 frame:=λi h h' st hk=>by
  obtain⟨hL,f,hi,hf⟩:=st;refine⟨hL.at λo e=>hk a (by simp) o e,f,hi.at λo e=>hk I (by simp) o e,?_⟩;cases r with
  |text=>exact hf
  |plain=>exact hf
  |drawn =>
   obtain⟨e1,o,e,h1,h2⟩:=hf;exact⟨e1,o,e,hk b (by simp) o h1,h2⟩
 item:=λi s Q E hi st hQ=>by
  obtain⟨hL,f,hI,hf⟩:=st;exact next_item hL hr hI hf fF hi λv h' f' hv h1 h2 h3=>hQ v h' s.toks hv ⟨hL.at λo e=>by rw[h3.2 a FH];exact e,f',h1,h2⟩ λc o hc e=>h3.extBut c o (λz=>hc (by simp[z])) e
 done:=λs Q E st hQ=>by
  obtain⟨hL,f,hI,hf⟩:=st;exact next_end hh hL hr hI hf fF λh' he=>hQ h' s.toks λc o hc e=>he c o (λz=>hc (by simp[z])) e
 self:=λi s Q E st hQ=>by
  obtain⟨hL,f,hI,hf⟩:=st;refine wpAny_pyIter_slot hI.ty Jo (dU Jo hI.ty aF6 ?_ (aE1 _));exact ab (ao (ao ⟨_,rfl,"set_iterator",_,hI.ty,B7.lookup,hQ⟩))
theorem aB4:typeLookup (.type "set") "__len__"=pure (some (.builtin "set.__len__")):=by rfl
theorem aE9(hh:A.handled=none)(hL:Lies s.heap a es ep t)(hw:Well (Led w) t)(hz:es.size<=10000){Q:List Value->Shared->Prop}(h:∀(vs:List Value) h' d' jY,vs.Perm (es.toList.map (·.2))->(∀c o,s.heap.get? c=some o->h'.get? c=some o)->s.heap.objs.size<=h'.objs.size->s.toks<=jY->Q vs { s with heap:=h',drawn:=d',toks:=jY }) :
  wpAny (model prog w) A (collect (.ref a)) Q E s:=by
 have dF:a<s.heap.objs.size:=let ⟨o,ho,_⟩:=hL.at_;ax ho
 refine ab (wpAny_runValue (dD F.entry_proto_collect ?_));refine ab (dG ?_);refine ao ⟨gn F.plain_list_iadd _,dD F.entry_list_iadd ?_⟩;have sU:Lies (s.heap.push { cls:=.type "list",data:=.seq ([]:List Value).toArray }) a es ep t:=hL.at λo e=>aj _ e;have NY:(s.heap.push { cls:=.type "list",data:=.seq ([]:List Value).toArray }).get? s.heap.objs.size=some { cls:=.type "list",data:=.seq ([]:List Value).toArray }:=aB _ rfl;have fF:s.heap.objs.size≠a:=bO dF;have h1:Builtin.List.listSameRef (.ref s.heap.objs.size) (.ref a)=false:=by simp[Builtin.List.listSameRef,fF]
 show wpAny _ A.in1 (Builtin.List.listExtendWith (.ref s.heap.objs.size) (.ref a) (.ref s.heap.objs.size)) _ _ _;refine ab (gW (Lies.ty (s:={ s with heap:=_ }) sU) ?_);rw[aD (by rw[h1];decide)];refine ab (Yi (s:={ s with heap:=_ }) sU hw hz λr pl b f I h2 d2 hr hI hf hb NR he AB h2z=>?_);have qU:Lies h2 a es ep t:=sU.at λo e=>he a o e;have pL:=he _ _ NY;refine ab (bS ?_);refine ab (wpAny_specialOf (Lies.ty (s:={ s with heap:=h2,drawn:=d2 }) qU) aB4 ?_);generalize FO:("set.__len__":String)=MU;dsimp only;rw[show splitId MU=some ("set","__len__") from by subst FO;decide +kernel];dsimp only;refine ab (ff (b:=true) (Lies.ty (s:={ s with heap:=h2,drawn:=d2 }) qU) (by rfl) ?_);rw[aD ∅];subst FO;rw[aJ (by decide +kernel)];refine ab (gW (Lies.ty (s:={ s with heap:=h2,drawn:=d2 }) qU) ?_);refine ao ?_;rw[aJ (by decide +kernel)];refine ab (ei ?_);refine ab ?_;show wpAny _ A.in1 (updateSeq s.heap.objs.size (·.push .none) >>= λ_=>updateSeq s.heap.objs.size (·.pop)) _ _ _;refine ab (wpAny_updateSeq (s:={ s with heap:=h2,drawn:=d2 }) pL rfl ?_);have Gm:=bw (Obj.mapSeq (·.push Value.none)) pL rfl;refine wpAny_updateSeq (s:={ s with heap:=_,drawn:=d2 }) Gm rfl ?_;have NX:=bw (Obj.mapSeq (·.pop)) Gm rfl;have EW:∀c o,c≠s.heap.objs.size->h2.get? c=some o->((h2.update s.heap.objs.size (Obj.mapSeq (·.push Value.none))).update s.heap.objs.size (Obj.mapSeq (·.pop))).get? c=some o :=
  λc o hc e=>(et _ _ (cz hc)).trans ((et _ _ (cz hc)).trans e)
 have sE:s.heap.objs.size<(s.heap.push { cls:=.type "list",data:=.seq ([]:List Value).toArray }).objs.size:=by simp
 have hSI:I≠s.heap.objs.size:=bO (ay sE AB);have hSb:b≠s.heap.objs.size:=by
  rcases NR with z|z
  ·rw[z];exact cz fF
  ·exact bO (ay sE z)
 have W:=(Zs (prog:=prog) (w:=w) (A:=A.in1) (a:=a) (b:=b) (I:=I) (es:=es) (ep:=ep) (t:=t) (pl:=pl) hh hr hb (aK (ay (cO dF sE) AB))).toS;have st:Lies h2 a es ep t/\∃f,C7 h2 I a f 0 es.size ep/\M0 h2 t b pl 0 f r:=⟨qU,f,hI,hf⟩
 have fZ:=W.frame 0 ({ s with heap:=h2,drawn:=d2 }:Shared) _ s.toks st (av _) λc hc o e=>EW c o (λz=>by simp at hc;rcases hc with y|y|y<;>simp_all) e;refine ao ⟨gn F.plain_extend_loop _,codeAny_extend_loopS W (aC hz ∅) _ (λz=>by simp at z;rcases z with y|y|y<;>simp_all) _ es.size 0 _ _ _ rfl (cj _) fZ NX (ItemsOf.nil _) λs' wo c' hm lp lh=>?_⟩;show wpAny _ A (load s.heap.objs.size >>= _) _ _ s';refine ab (wpAny_load lp ?_);refine ao ?_;have eS:s'={ s with heap:=s'.heap,drawn:=d2,toks:=s'.toks }:=by
  obtain⟨iP,g',d',jY,qv⟩:=s';have m1:g'=s.gens:=hm.gens;have m2:d'=d2:=hm.drawn;have m3:qv=s.os:=hm.os
  grind
 have eo:wo.toList=we w a es ep pl r:=by
  have l1:(we w a es ep pl r).length=es.size:=by rw[(KG hr).length_eq];simp
  apply List.ext_getElem
  ·rw[l1];simpa using lh.1
  ·intro i h1 h2;have:=lh.2 i wo.toList[i] (by simp at h1 ⊢);dsimp only at this;rw[ae h2] at this;exact(aN this).symm
 rw[eo,eS];refine h _ _ d2 s'.toks (KG hr) (λc o e=>?_) (eG (ax lp)) hm.toks;have hc:c<s.heap.objs.size:=ax e;have n1:c≠s.heap.objs.size:=aK hc;have n2:c≠I:=aK (ay (cO hc sE) AB);exact hm.heap c o (by simp[n1,n2]) (EW c o n1 (he c o (aj _ e)))
theorem aK8(hh:A.handled=none)(hS:u6 prog w s.heap a ks)(xP:ks.length<=600)(h:∀(S:Addr) (vs:List Value) (ns:List Int) e h' d' jY,IntsAre vs ns->ns.Perm ks->ns.Pairwise (·<=·)->h'.get? S=some (seqObj "list" vs.toArray e)->s.heap.objs.size<=S->(∀c o,s.heap.get? c=some o->h'.get? c=some o)->s.toks<=jY->Q (.ref S) { s with heap:=h',drawn:=d',toks:=jY }) :
  wpAny (model prog w) A (call (.builtin "sorted") [.ref a]) Q E s:=by
 obtain⟨o,es,ep,t,ho,hx,hd,nD,hp,hn,hb,hf,hw⟩:=hS;have hL:Lies s.heap a es ep t:=⟨⟨o,ho,hx.1,hd⟩,hf⟩
 have hz:es.size=ks.length:=by rw[<- hp.length_eq];simp
 refine Ey kind_sorted plain_sorted entry_sorted (args_sorted1 _) ?_;unfold Builtin.«sorted»;refine ab (m:=checkCount "sorted" 1 1 _) (ao ?_);refine ab (aE9 (A:=A.in1) hh hL hw () λvs h1 d1 ur hv he sE ve=>?_);have hI:IntsAre vs (vs.map toI):=by
  have all:∀v∈vs,∃tk,v=.int (toI v) tk:=λv zT=>by
   obtain⟨e,kI,rfl⟩:=aH.mp (hv.mem_iff.mp zT);obtain⟨tk,h1,_⟩:=yJ nD kI;exact⟨tk,h1⟩
  clear hv
  induction vs with
  |nil=>exact .nil
  |cons v r ih =>
   obtain⟨tk,e⟩:=all v (by simp);have:=IntsAre.cons (toI v) tk (ih λu hu=>all u (by simp[hu]));rw[<- e] at this;exact this
 have hk:(vs.map toI).Perm ks:=by
  refine(hv.map toI).trans ?_;rw[bZ];exact hp
 have hl:vs.length<=100000:=by rw[hv.length_eq];simp;omega
 refine ab (LD (s:={ s with heap:=h1,drawn:=d1,toks:=ur }) ?_);have oC:(h1.push (seqObj "list" vs.toArray 0)).get? h1.objs.size=some (seqObj "list" vs.toArray 0):=aB _ rfl;refine ab (bS (dU (s:={ s with heap:=h1.push (seqObj "list" vs.toArray 0),drawn:=d1,toks:=ur }) slot_list_sort ⟨_,oC,rfl⟩ entry_list_sort (TS.HE oC hI hl λout ko a1 a2 a3=>⟨_,rfl,?_⟩) (args_list_sort _)));obtain⟨e,kI⟩:=sortedHeap_at (vs:=vs) (out:=out) oC;refine ao ⟨_,rfl,h h1.objs.size out.toList ko e _ d1 ur a1 (a2.trans hk) a3 kI sE (λc o' e'=>?_) ve⟩;have hc:=ax (he c o' e');rw[sortedHeap_old (aK hc) (by rw[size_push'];exact gP hc)];exact aj _ (he c o' e')
def f7(ks xs:List Int):List Int:=xs.foldl B6 ks
theorem L3:∀(xs ks:List Int),(f7 ks xs).length<=ks.length+xs.length
 |[],ks=>by simp[f7]
 |x::xs,ks=>by
  have:=L3 xs (B6 ks x);have h2:=a63 ks x;show(f7 (B6 ks x) xs).length<=_
  grind
theorem P4:∀(xs ks:List Int) (k:Int),k∈f7 ks xs↔k∈ks\/k∈xs
 |[],ks,k=>by simp[f7]
 |x::xs,ks,k=>by
  show k∈f7 (B6 ks x) xs↔_;rw[P4 xs];unfold B6;split
  ·rename_i h;constructor
   ·rintro(a|a)
    ·exact .inl a
    ·exact .inr (by simp[a])
   ·rintro(a|a)
    ·exact .inl a
    ·rcases aI.mp a with rfl|b
     ·exact .inl h
     ·exact .inr b
  ·simp[or_assoc]
theorem CK:∀(xs ks:List Int),ks.Nodup->(f7 ks xs).Nodup
 |[],ks,h=>h
 |x::xs,ks,h=>by
  refine CK xs _ ?_;unfold B6;split
  ·exact h
  ·rename_i hk;rw[cE];exact⟨h,by simp,λa ha b hb=>by simp at hb;subst hb;exact λz=>hk (z▸ha)⟩
theorem ZG:Well (Led w) (SetTable.fresh 0 0 (Led w)):=⟨by simp[kK,SetTable.fresh],rfl,rfl⟩
theorem HV(e:h.get? a=some { cls:=.type "set",dict:=none,data:=.set #[] 0 (.fresh 0 0 (Led w)) }):u6 prog w h a [] :=
 ⟨_,#[],0,_,e,⟨rfl,rfl,rfl⟩,rfl,(by intro e he;simp at he),by simp,by simp,by decide,by rfl,ZG⟩
theorem Yt{R:Result->Shared->Prop}{fp wr:List Addr}{G:Array GenState->Array GenState->Prop}{P:Nat->Value->Prop}{St:Nat->Shared->Prop}(W:WalksS prog w A.in1 I fp wr G n P St)(Gk:a∉fp)(hn:n=ns.length)(hv:∀i v,P i v->∃tk,v=.int (ns.getD i 0) tk)(hb:n+1<scanBound):∀(k i:Nat) (s:Shared),i+k=n->St i s->u6 prog w s.heap a (f7 [] (ns.take i)) ->
   (∀s',Moved (a::wr) G s s'->u6 prog w s'.heap a (f7 [] ns)->R (.ok (.ret .none)) s')->codeAny (model prog w) A (.builtin "set.update.loop" ⟨[.ref a,.ref I],[]⟩) R s:=by
 have hw:a∉wr:=λh=>Gk (W.sub _ h);have mW:∀b∈wr,b∈a::wr:=λb hb=>by simp[hb]
 intro k
 induction k with
 |zero =>
  intro i s e st hS hR;obtain rfl:i=n:=by omega
  refine dD jJ ?_;refine ab (W.done s _ _ st λs' m=>ao (hR s' (m.mono mW) (u6.at ?_ λo e=>m.heap a o hw e)))
  simp_all
 |succ k ih =>
  intro i s e st hS hR;have dF:i<ns.length:=by omega
  refine dD jJ ?_;refine ab (W.item i s _ _ () st λv s' hP ba m=>?_);obtain⟨tk,rfl⟩:=hv i v hP;have lp:=u6.at hS λo e=>m.heap a o hw e;have hl:=L3 (ns.take i) [];rw[cM] at hl;simp only[List.length_nil] at hl;refine ab (bS ?_);refine bS (ab ((intKind prog w).pyHash (k:=ns.getD i 0) (eT _ _ _ _) ?_));refine Hw (s:={ s' with toks:=s'.toks+1 }) lp () λh' bb sb pL=>?_;have e2:B6 (f7 [] (ns.take i)) (ns.getD i 0)=f7 [] (ns.take (i+1)):=by
   unfold f7;rw[bu,List.foldl_append,ae dF];simp[List.getD,dF]
  rw[e2] at pL;refine ao ⟨gn PyProof.Rows.F.plain_set_update_loop _,ih (i+1) _ () (W.frame _ s' _ _ ba (cI _) λb hb o e=>by rw[sb.2 b λz=>Gk (z▸hb)];exact e) pL λs2 m2 h2=>?_⟩;exact hR s2 (Moved.trans W.gtrans ((m.mono mW).then_heap (cI _) λb o hb e=>by rw[sb.2 b λz=>hb (by rw[z];simp)];exact e) m2) h2
noncomputable abbrev w9(w:World):Obj:={ cls:=.type "set",dict:=none,data:=.set #[] 0 (.fresh 0 0 (Led w)) }
theorem J'(h:Q (.ref s.heap.objs.size) { s with heap:=s.heap.push (w9 w) }):wpAny (model prog w) A (newSet (.type "set")) Q E s:=by
 refine ab (wj ?_);exact dG h (cj _)
theorem a56(x:Value)(h:Q (.ref s.heap.objs.size) { s with heap:=s.heap.push (w9 w) }):codeAny (model prog w) A (.call (.builtin "set.__new__") ⟨[.type "set",x],[]⟩) (wants Q E) s:=by
 refine tX (?_:wpAny _ A.in1 (do
  checkBuiltinCall "set.__new__" ⟨[.type "set",x],[]⟩
  again (.builtin "set.__new__" ⟨[.type "set",x],[]⟩)) _ _ s)
 refine ab (eR (F.newCall_set_1 x) (ao ⟨gn F.plain_set_new _,?_⟩));refine dD F.entry_set_new ?_;have sub:=sub_set_self;refine ab (m:=Builtin.Frozenset.newClass "set" _) ?_;refine ab (eR (a:=true) (by rfl) ?_);refine ab (eR sub ?_);refine ao ?_;exact ab (J' (ao h))
theorem Z3{vs:List Value}(h:IntsAre vs ns):vs.length=ns.length:=by
 induction h with
 |nil=>rfl
 |cons n t r ih=>simp[ih]
def wA(h:Heap)(l:Addr)(items:Array Value):Prop:=h.IsList l items\/h.IsTuple l items
theorem wA.lt(x:wA h l items):l<h.objs.size:=by
 rcases x with⟨_,e,_⟩|⟨_,e,_⟩<;>exact ax e
theorem a46{Q:Fin->Shared->Prop}(hh:A.handled=none)(hS:s.heap.get? a=some (w9 w))(hl:wA s.heap l items)(hi:IntsAre items.toList ns)(hb:items.size+1<scanBound)(fF:a≠l)(h:∀h' tk,u6 prog w h' a (f7 [] ns)->(∀b o,b≠a->s.heap.get? b=some o->h'.get? b=some o)->s.toks<=tk->wpAny (model prog w) A (ret .none) Q E { s with heap:=h',toks:=tk }) :
  wpAny (model prog w) A (Builtin.«set.__init__» ⟨[.ref a,.ref l],[]⟩) Q E s:=by
 have hT:s.TypeIs (.ref a) "set":=⟨_,hS,rfl⟩
 have dF:=hl.lt;have xB:l≠s.heap.objs.size:=aK dF;refine ab (eR (a:=Unit.unit) rfl ?_);have nm:∀{Q':String->Shared->Prop},(∀x,Q' x s)->wpAny (model prog w) A (typeNameOfCut 200 (.ref a)) Q' E s:=λ{Q'} q=>by
  refine ab (ab (gW hT ?_));refine ao (eR (a:="set") ?_ (q _))
  rfl
 refine ab (nm λx=>?_);refine ab (m:=checkCount _ 0 1 _) (ao ?_);refine ab (m:=Builtin.Frozenset.addrOf _) (ao ?_);refine ab (ab (cL hS rfl rfl (ao ?_)));rw[aD (by unfold SetTable.fill;simp[SetTable.fresh])];unfold Builtin.Frozenset.updateFrom Builtin.Frozenset.isAnySet;obtain⟨c,sO,vx,it,hit,FL,St,W,fR⟩:∃c:String,(c="list"\/c="tuple")/\s.TypeIs (.ref l) c/\∃it:Obj,(∀Q':Value->Shared->Prop,Q' (.ref s.heap.objs.size) { s with heap:=s.heap.push it }->wpAny (model prog w) A (pyIter (.ref l)) Q' E s) /\
   (∀b o,s.heap.get? b=some o->(s.heap.push it).get? b=some o)/\∃St:Nat->Shared->Prop,WalksS prog w A.in1 s.heap.objs.size [s.heap.objs.size,l] [s.heap.objs.size] (λa b=>b=a) items.size (λi v=>items[i]?=some v) St/\St 0 { s with heap:=s.heap.push it }:=by
  rcases hl with hl|hl
  ·obtain⟨o,ho,hc,_⟩:=id hl;exact⟨"list",.inl rfl,⟨o,ho,hc⟩,_,λQ' q=>fT hl q,λb o e=>aj _ e,_,(zc (A:=A.in1) hh _ l xB items).toS,⟨⟨_,aB _ rfl,rfl,rfl⟩,hl.push _⟩⟩
  ·obtain⟨o,ho,hc,_⟩:=id hl;exact⟨"tuple",.inr rfl,⟨o,ho,hc⟩,_,λQ' q=>wpAny_pyIter_tuple hl q,λb o e=>aj _ e,_,(Walks.tuple (A:=A.in1) hh _ l xB items).toS,⟨⟨_,aB _ rfl,rfl,rfl⟩,hl.push _⟩⟩
 refine ab (ab (ab (ff (b:=false) vx (by rcases sO with rfl|rfl<;>(rw[fU];kernel_rfl)) ?_)));show wpAny (model prog w) A (isInstance (Value.ref l) (Value.type "frozenset")) _ _ _;refine ff (b:=false) vx (by rcases sO with rfl|rfl<;>(rw[fU];kernel_rfl)) ?_;rw[aD ∅];refine ab (gW vx ?_);rw[aD (by rcases sO with rfl|rfl<;>decide)];refine ab (hit _ ?_);refine ab (wpAny_runValue ?_);have NT:a<s.heap.objs.size:=ax hS;have hsz:items.size=ns.length:=by exact Z3 hi
 refine Yt (a:=a) (ns:=ns) W (by simp only[List.mem_cons,List.not_mem_nil,or_false,not_or];exact⟨aK NT,fF⟩) hsz (λi v hv=>IntsAre.int_at hi i v (by rw[fP];exact hv)) hb items.size 0 _ ()
  fR (HV (FL _ _ hS)) λs' m lp=>?_
 have eS:s'={ s with heap:=s'.heap,toks:=s'.toks }:=by
  obtain⟨iP,g',d',jY,qv⟩:=s';have m1:g'=s.gens:=m.gens;have m2:d'=s.drawn:=m.drawn;have m3:qv=s.os:=m.os
  simp_all
 rw[eS];refine ao (h _ _ lp (λb o hb e=>?_) m.toks);exact m.heap b o (by simp only[List.mem_cons,List.not_mem_nil,or_false,not_or];exact⟨hb,aK (ax e)⟩) (FL _ _ e)
theorem Kt(hh:A.handled=none)(hl:wA s.heap l items)(hi:IntsAre items.toList ns)(hb:items.size+1<scanBound)(h:∀h' tk,u6 prog w h' s.heap.objs.size (f7 [] ns)->(∀b o,s.heap.get? b=some o->h'.get? b=some o)->s.toks<=tk->Q (.ref s.heap.objs.size) { s with heap:=h',toks:=tk }) :
  wpAny (model prog w) A (call (.type "set") [.ref l]) Q E s:=by
 have cs:=F.called_set;obtain⟨_,_,y1⟩:=cs.mro;have y2:=cs.made;have y3:=cs.sub;have y4:=cs.notType;have y5:=cs.canCreate;have y6:=F.typeCall_set_1 (.ref l);refine wpAny_call (tX (?_:wpAny _ _ (callAny (.type "set") _) _ _ _));refine ao ⟨Code.quiet_builtin _ (by decide +kernel),dD F.entry_type_call ?_⟩;rw[Around.under_plain (weight_type_call_type "set" [.ref l] []) rfl]
 repeat (any_goals (first|assumption|wp_step))
 refine gX (a56 (.ref l) (E:=E) (Q:=λv s1=>v=.ref s.heap.objs.size/\s1={ s with heap:=s.heap.push (w9 w) }) ⟨rfl,rfl⟩) ?_;rintro(e|fl) s1 hr
 ·exact hr
 cases fl with
 |next=>exact hr
 |brk=>exact hr
 |cont=>exact hr
 |ret v =>
 obtain⟨rfl,rfl⟩:=hr;have hS:(s.heap.push (w9 w)).get? s.heap.objs.size=some (w9 w):=aB _ rfl;have hT:Shared.TypeIs { s with heap:=s.heap.push (w9 w) } (.ref s.heap.objs.size) "set":=⟨_,hS,rfl⟩
 have y7:=cs.init.lookup;have y8:=cs.init.bind (.ref s.heap.objs.size)
 repeat (any_goals (first|assumption|wp_step))
 refine gX (codeAny_call_builtin (R:=wants (λv s2=>v=.none/\∃h' tk,s2={ s with heap:=h',toks:=tk }/\u6 prog w h' s.heap.objs.size (f7 [] ns)/\(∀b o,s.heap.get? b=some o->h'.get? b=some o)/\s.toks<=tk) E) cs.init.plain F.entry_set_init (check_set_init_1 hT ?_)) ?_
 ·have jj:wA (s.heap.push (w9 w)) l items:=hl.imp (·.push _) (·.push _);have Nz:=hl.lt;refine a46 (s:={ s with heap:=s.heap.push (w9 w) }) (by simp[hh]) hS jj hi hb (bO Nz) λh' tk h1 h2 h3=>ao ⟨rfl,h',tk,rfl,h1,λb o e=>h2 b o (aK (ax e)) (aj _ e),h3⟩
 ·rintro(e|fl) s2 hr
  ·exact hr
  cases fl with
  |next=>exact hr
  |brk=>exact hr
  |cont=>exact hr
  |ret v =>
  obtain⟨rfl,h',tk,rfl,h1,h2,h3⟩:=hr
  repeat (any_goals (first|assumption|wp_step))
  exact h _ _ h1 h2 h3
end ST
namespace L2
open PySem PySem.Spec PyProof.Rows
def rR(X:Cx)(a:Addr)(ks:List Int):HO:=.ext λh=>ST.u6 X.prog X.w h a ks
def n5(ns:List Int):List Int:=(ST.f7 [] ns).mergeSort (λa b=>decide (a<=b))
theorem R8:∀{a b:List Int},a.Perm b->a.Pairwise (·<=·)->b.Pairwise (·<=·)->a=b
 |[],b,h,_,_=>by simp_all
 |x::a,[],h,_,_=>absurd h.length_eq (by simp)
 |x::a,y::b,h,h1,h2=>by
  rw[cZ] at h1 h2;have e:x=y:=by
   have m1:=h.mem_iff (a:=y);have m2:=h.mem_iff (a:=x);simp only[List.mem_cons,true_or,true_iff,iff_true] at m1 m2;rcases m1 with z|z
   ·exact z.symm
   ·grind
  subst e;rw[R8 (h.cons_inv) h1.2 h2.2]
theorem X5(ns:List Int):(n5 ns).Pairwise (·<=·):=by
 have:=sf (le:=λa b:Int=>decide (a<=b)) (λa b c h1 h2=>by simp at *;omega) (λa b=>by simp;omega) (ST.f7 [] ns);exact this.imp λh=>by simpa using h
theorem K3(ns:List Int):(n5 ns).Perm (ST.f7 [] ns):=Et _ _
theorem R5(ns:List Int):(n5 ns).length<=ns.length:=by
 rw[(K3 ns).length_eq];have:=ST.L3 ns []
 simp_all
section
variable{X:Cx}{pins:List (Addr×Obj)}{U:St}{H:Hp}{s:Shared}
theorem Inv.draw(I:Inv X pins U H s)(d:Drawn):Inv X pins U H { s with drawn:=d } :=
 I.step (g':=s.gens) (t':=s.toks) (d':=d) (ch:=[]) (by simp) (λb o _ _ _ e _=>e) (λb o _ _ _ e _=>⟨o.slots,e⟩) (λb o _ _ e=>e) (λb o _ e=>⟨o,e⟩) (λ_ _ e=>e) (λ_ _ _ e=>e) (λb ps e=>⟨#[],by simp[e]⟩) (λm hm=>hm) I.cu I.bare
theorem Kj{h:Heap}{a:Addr}{ks:List Int}(x:ST.u6 X.prog X.w h a ks):n6 X.prog X.w H h a (rR X a ks) :=
 ⟨x,by obtain⟨o,_,_,_,e,_⟩:=x;exact⟨o,e⟩,λh1 h2 y k=>y.at k⟩
theorem IS{ns:List Int}{vs:List Value}(h:IntsAre vs ns):Vals (ns.map V.int) vs:=by
 induction h with
 |nil=>exact .nil
 |cons n t r ih=>exact .cons ⟨t,rfl⟩ ih
theorem F2:∀{ns:List Int} {vs:List Value},Vals (ns.map V.int) vs->IntsAre vs ns
 |[],_,h=>by cases h;exact .nil
 |n::ns,_,h=>by
  cases h with
  |cons r rr =>
   obtain⟨t,rfl⟩:=r;exact .cons n t (F2 rr)
theorem Jl(hc:X.calm=true):l6 X (.type "set") (λxs H Q=>∃a ns,xs=[.ref a]/\fS X.K H a (ns.map V.int)/\ns.length<600/\∀p,H p=none->Q (.ref p) (upd H p (rR X p (ST.f7 [] ns)))):=by
 intro pins s U H xs us Q I r h;obtain⟨a,ns,rfl,hq,hl,q⟩:=h;cases r with
 |cons r rr =>
 cases rr;cases r;obtain⟨bt,rv,p,hz⟩:=I.list hq;have hI:=F2 rv;have hlen:=ST.Z3 hI;refine ST.Kt (ns:=ns) (I.ok.hd hc) (.inl p.isList) (by simpa using hI) (by rw[aZ,hlen];exact ay (Nat.succ_lt_succ hl) ∅) λh' tk hS hk _=>?_;exact⟨.ref _,_,I.laid (a:=s.heap.objs.size) (t':=tk) hk (av _) (Kj hS),rfl,q _ (I.cu.fresh (av _))⟩
theorem S7(hc:X.calm=true):l6 X (.builtin "sorted") (λxs H Q=>∃a ns,xs=[.ref a]/\H a=some (rR X a (ST.f7 [] ns))/\ns.length<600/\∀p,H p=none->Q (.ref p) (upd H p (.lst ((n5 ns).map V.int)))):=by
 intro pins s U H xs us Q I r h;obtain⟨a,ns,rfl,ha,hl,q⟩:=h;cases r with
 |cons r rr =>
 cases rr;cases r;have hS:ST.u6 X.prog X.w s.heap a (ST.f7 [] ns):=(I.cu a _ ha).1;have hn:=ST.L3 ns [];simp only[List.length_nil] at hn;refine ST.aK8 (I.ok.hd hc) hS () λS vs ko e h' d' jY h1 h2 h3 h4 h5 h6 _=>?_;have e1:ko=n5 ns:=R8 (h2.trans (K3 ns).symm) h3 (X5 ns);subst e1;have hz:=R5 ns;exact⟨.ref S,_,(I.laid (a:=S) (o:=.lst ((n5 ns).map V.int)) (t':=jY) h6 h5 ⟨by rw[ai];exact aC hz (aC (eG hl) ∅),vs,e,IS h1,h4⟩).draw d',rfl,q S (I.cu.fresh h5)⟩
end
end L2
namespace ST
open PySem PyProof.Rows
theorem a58{prog:Program}{w:World}{A:Around}{E:Value->Shared->Prop}{s:Shared}{a:Addr}{ks:List Int}{k:Int}{tk:Tok}{Q:Value->Shared->Prop}(hS:u6 prog w s.heap a ks)(hr:ks.length+1<scanBound)(h:∀h',Heap.SameBut a s.heap h'->u6 prog w h' a (B6 ks k)->Q .none { s with heap:=h',toks:=s.toks+1 }):wpAny (model prog w) A (call (.builtin "set.add") [.ref a,.int k tk]) Q E s:=by
 have hT:s.TypeIs (.ref a) "set":=let ⟨o,_,_,_,e,x,_⟩:=hS;⟨o,e,x.1⟩
 refine dU F.slot_set_add hT F.entry_set_add ?_ (F.args_set_add_2 _ _);have go:∀(Q':Fin->Shared->Prop),(∀h',Heap.SameBut a s.heap h'->u6 prog w h' a (B6 ks k)->wpAny (model prog w) A.in1 (ret .none) Q' E { s with heap:=h',toks:=s.toks+1 })->wpAny (model prog w) A.in1 (do let _ <- setAdd a (.int k tk);ret .none) Q' E s:=λQ' q=>by
  refine ab (bS (ab ((intKind prog w).pyHash (k:=k) (eT _ _ _ _) ?_)));exact Hw (s:={ s with toks:=s.toks+1 }) hS hr λh' b sb S2=>q h' sb S2
 unfold Builtin.«set.add» Builtin.Frozenset.oneOther;simp only[List.isEmpty_nil,bind_assoc];refine ab (ao ?_);refine ab (ao ?_);exact go _ λh' sb S2=>ao ⟨_,rfl,h h' sb S2⟩
end ST
namespace L2
open PySem PySem.Spec PyProof.Rows
variable{elt iter:Expr}{ifs:List Expr}{scope:Scope}{pos:Pos}
section
variable{prog:Program}{w:World}{A:Around}{R:Result->Shared->Prop}{s:Shared}
theorem aK2(elt target iter:Expr)(ifs:List Expr)(scope:Scope)(pos:Pos)(it acc:Value)(env:Env):compTurn (.SetComp elt [⟨target,iter,ifs,0⟩] scope pos) 0 it acc env=(do
      standAt iter.pos
      match <- pyNext it with
      |none=>pure (.done .next)
      |some v =>
        letOwnedTupleGo target it v
        assign target env v
        let mut ok:=true
        for c in ifs do if ok then ok <- isTrue c env (eval c env)
        if ok then(do let x <- eval elt env;standAt elt.pos;let _ <- call (.builtin "set.add") [acc,x])
        again (.compLoop (.SetComp elt [⟨target,iter,ifs,0⟩] scope pos) 0 it acc env)):=by rfl
theorem XG{target:Expr}{it acc:Value}{env:Env}(I:Nat->Shared->Prop)(turn:∀ n s,I n s->wpAny (model prog w) A (pyNext it) (λr bU=>match r with
   |none=>R (.ok .next) bU
   | some v=>wpAny (model prog w) A (letOwnedTupleGo target it v) (λ_ bU=>wpAny (model prog w) A (assign target env v) (λ_ gY =>
     wpAny (model prog w) A (forIn ifs true λc r=>if r=true then do let ok <- isTrue c env (eval c env);pure (ForInStep.yield ok) else pure (ForInStep.yield r)) (λok fI =>
      if ok=true then wpAny (model prog w) A (eval elt env) (λx jL =>
       wpAny (model prog w) A (call (.builtin "set.add") [acc,x]) (λ_ mV=>∃ m,m < n/\I m mV) (λ_ _=>False) jL) (λ_ _=>False) fI
      else ∃ m,m < n/\I m fI) (λ_ _=>False) gY) (λ_ _=>False) bU) (λ_ _=>False) bU) (λ_ _=>False) s)(n:Nat)(h:I n s) :
  codeAny (model prog w) A (.compLoop (.SetComp elt [⟨target,iter,ifs,0⟩] scope pos) 0 it acc env) R s:=by
 refine codeAny_loop rfl I (λn s hI=>?_) n h;show wpAny _ A ((compTurn (.SetComp elt [⟨target,iter,ifs,0⟩] scope pos) 0 it acc env).onRaise (λx=>do noteFrame x env;theTreesLotGoes x)) _ _ s;refine wpAny_noted ?_;rw[aK2];refine ab (fo (ab (bJ (turn n s hI) (λr bU dR=>?_) λ_ _ h'=>h'.elim)));cases r with
 |none=>exact ao dR
 |some v =>
  refine ab (bJ dR (λ_ bU dR=>?_) λ_ _ h'=>h'.elim);refine ab (bJ dR (λ_ gY jP=>ab (bJ jP (λok fI nu=>?_) λ_ _ h'=>h'.elim)) λ_ _ h'=>h'.elim);cases ok with
  |false=>exact wpAny_pure ⟨rfl,nu⟩
  |true =>
   exact ab (ab (bJ nu (λx jL qI=>ab (fo (ab (bJ qI (λ_ mV qH=>ao (ao ⟨rfl,qH⟩)) λ_ _ h'=>h'.elim)))) λ_ _ h'=>h'.elim))
theorem ZW{target:Expr}{it acc:Value}{env:Env}(h0:codeAny (model prog w) A (.compLoop (.SetComp elt [⟨target,iter,ifs,0⟩] scope pos) 0 it acc env) R s)(h:wpAny (model prog w) A (pyIter it) (λFo s'=>codeAny (model prog w) A (.compLoop (.SetComp elt [⟨target,iter,ifs,0⟩] scope pos) 0 Fo acc env) R s') (notedBy (model prog w) A env λx s'=>R (.error x) s') s) :
  codeAny (model prog w) A (.compStart (.SetComp elt [⟨target,iter,ifs,0⟩] scope pos) 0 it acc env) R s:=by
 refine tX (?_:wpAny _ _ ((compStart (.SetComp elt [⟨target,iter,ifs,0⟩] scope pos) 0 it acc env).onRaise (λx=>do noteFrame x env;standAt theWindowsPlace)) _ _ s);refine wpAny_notedAt ?_;refine ab (qf (wpAny_ite ?_));split
 ·first
   |exact ao ⟨rfl,h0⟩
   |exact ab (ao (ao ⟨rfl,h0⟩))
 ·refine ab (ei ?_);exact ab (fo (ab (bJ h (λFo s' h'=>ao ⟨rfl,h'⟩) λ_ _ x=>x)))
end
def DD(o:Obj):Prop:=∀v,o.data≠.cell v
def SD(X:Cx)(wi:TI)(c8:List Nat)(n:Nat)(g:TG)(tc:TT)(te:TE):TE:=λU H Q=>wi U H λJ H1=>∃W:Nat->Nat->List Int->St->Hp->Prop,(∃m,W 0 m [] (B9 U c8 n) H1)/\∀i m ys U H,W i m ys U H ->
 (J.stop i H/\∀p,H p=none->Q (.ref p) (upd H p (rR X p (ST.f7 [] ys)))) \/
 (J.go i H/\ys.length < 60/\∀ x H',J.qi i H x H'->g x U H' λcH H2=>tc cH H2 λb H3 =>
  if b=true then te cH H3 λy H4=>∃ k,y=.int k/\∃ m',m' < m/\W (i + 1) m' (ys ++ [k]) cH H4 else ∃ m',m' < m/\W (i + 1) m' ys cH H3)
section
variable{X:Cx}{pins:List (Addr×Obj)}{U:St}{H:Hp}{s:Shared}
theorem Inv.SG{D:Addr}{φ:Heap->Prop}(I:Inv X pins U H s)(f:C2 X pins H D)(hs:X.dJ.heap.objs.size<=D)(ho:n6 X.prog X.w (upd H D (.ext φ)) s.heap D (.ext φ)):Inv X pins U (upd H D (.ext φ)) s:=by
 obtain⟨f0,f1,f2,f3,f4,f5⟩:=f;have fF:∀b o,X.dJ.heap.get? b=some o->b≠D:=λb o e z=>absurd (ax e) (by simp_all);have tup:∀b u,H b=some u->upd H D (.ext φ) b=some u:=λb u e=>by rw[d8 (m9 e f0)];exact e
 refine⟨I.ok,I.os,I.bare,⟨?_,?_,?_,I.base.there,?_,?_,?_⟩,I.loc,I.cell,?_,?_,?_,?_,I.len,I.sg⟩
 ·exact λb o e n1 n2 n3=>I.base.keep b o e n1 n2 n3
 ·exact λb o e n1 n2 n3=>I.base.slot b o e n1 n2 n3
 ·exact λb o e n1 n2=>by rw[d8 (fF b o e)];exact I.base.free b o e n1 n2
 ·exact λb xs e=>tup _ _ (I.base.ja b xs e)
 ·exact λb o u e=>tup _ _ (I.base.iJ b o u e)
 ·exact λb ps e=>by
   obtain⟨more,q⟩:=I.base.jb b ps e;exact⟨more,tup _ _ q⟩
 ·rw[d8 f1.symm];exact I.free
 ·exact λx c e=>by rw[d8 (f4 x c e)];exact I.fY x c e
 ·intro p hp;obtain⟨p1,p2,p3⟩:=I.pin p hp;exact⟨p1,by rw[d8 (f5 p hp)];exact p2,p3⟩
 ·intro a o e;by_cases ha:a=D
  ·subst ha;rw[u4] at e
   simp_all
  ·rw[d8 ha] at e;have q:=I.cu a o e;refine q.X4 (λb u _ h=>h) (λb hb=>tup _ _ hb) (λb xs hb=>tup _ _ hb)
theorem aF0{tg:Expr}{N':List Str}{c8:List Nat}{cl:List (Str×Addr)}{it:Addr}{fp:List Addr}{tn:Nat->Heap->Prop}{J:It}{g:TG}{tc:TT}{te:TE}{RR:Value->Addr->Result->Shared->Prop}{E:Value->Shared->Prop}{W:Nat->Nat->List Int->St->Hp->Prop}{m0:Nat}{Q:VK}(S:dI X scope N' c8 cl)(hc:X.calm=true)(hg:∀C s H,PG (d0 X pins scope N' cl C s H fp) tg g)(ht:∀C s H,lR (d0 X pins scope N' cl C s H fp) ifs tc)(he:∀C s H,PE (d0 X pins scope N' cl C s H fp) elt te)(I:Inv X pins U H s)(T:Turn X.prog X.w X.K tg J fp it tn)(st:tn 0 s.heap)(hf:∀b∈fp,C2 X pins H b)(w0:W 0 m0 [] (B9 U c8 N'.length) H)(turn:∀ i m ys U H,W i m ys U H->(J.stop i H/\∀ p,H p=none->Q (.ref p) (upd H p (rR X p (ST.f7 [] ys)))) \/
   (J.go i H/\ys.length < 60/\∀ x H',J.qi i H x H'->g x U H' λcH H2=>tc cH H2 λb H3 =>
    if b=true then te cH H3 λy H4=>∃ k,y=.int k/\∃ m',m' < m/\W (i + 1) m' (ys ++ [k]) cH H4 else ∃ m',m' < m/\W (i + 1) m' ys cH H3))(Az:∀D C s' H' m,Inv X pins U H' s'->Q (.ref D) H'->s'.heap.Ns C m->H' C=none->s.heap.objs.size<=C->RR (.ref D) C (.ok .next) s') :
  wpAny (model X.prog X.w) X.A (newSet (.type "set")) (λacc fI=>wpAny (model X.prog X.w) X.A (newFunctionEnv scope X.env.globals cl [] X.env.qual none .none (some X.env)) (λmx jL =>
   codeAny (model X.prog X.w) X.A (.compStart (.SetComp elt [⟨tg,iter,ifs,0⟩] scope pos) 0 (.ref it) acc { mx with scope:=relabel scope X.env }) (RR acc mx.locals) jL) E fI) E s:=by
 refine ST.J' (Js λdR jh gM oJ=>?_);generalize qX:s.heap.push (ST.w9 X.w)=H2 at jh gM oJ ⊢;generalize eD:s.heap.objs.size=D at *;have hC:H2.objs.size=D+1:=by rw[<- qX,eW,eD]
 generalize eC:H2.objs.size=C at *;have vB:D≠C:=by omega
 have lt:∀b o,s.heap.get? b=some o->b<D:=λb o e=>by rw[<- eD];exact ax e
 have qy:D<=C:=by omega
 have pE:∀b o,s.heap.get? b=some o->b≠C:=λb o e=>aK (ay (lt b o e) qy);have ni:∀b o,s.heap.get? b=some o->b≠D:=λb o e=>aK (lt b o e);have old:∀b o,s.heap.get? b=some o->dR.get? b=some o:=λb o e=>gM b o (qX▸aj _ e);have lh:dR.get? D=some (ST.w9 X.w):=gM _ _ (by rw[<- qX,<- eD];exact aB _ rfl);have jg:∀b∈fp,∃o,s.heap.get? b=some o:=λb hb=>by
  obtain⟨o,e,_⟩:=T.obj _ _ st b hb;exact⟨o,e⟩
 have vA:D∉fp:=λhm=>by
  obtain⟨o,e⟩:=jg D hm;exact ni D o e rfl
 have X1:Inv (d0 X pins scope N' cl C s H fp) [] (B9 U c8 N'.length) H { s with heap:=dR } :=
  I.Iy S hc hf jg (by rw[eD];omega) ⟨_,jh⟩ old oJ
 have fm:tn 0 dR:=T.keep _ _ _ st λb _ o e=>old b o e;have Be:∀{H':Hp},(∀b∈fp,H' b=none)->∀b∈fp,C2 (d0 X pins scope N' cl C s H fp) [] H' b:=λhn b hb=>by
  obtain⟨f0,f1,f2,f3,f4,f5⟩:=hf b hb;obtain⟨o,e⟩:=jg b hb;refine⟨hn b hb,?_,?_,.inl hb,λx c q=>(Z7 oJ q).elim (λl z=>absurd (cO (z▸l) (ay (lt b o e) qy)) (bK _)) λq=>f4 x c (S.cin x c q),λp hp=>?_⟩
  ·exact pE b o e
  ·exact λz=>by
    rcases aI.mp (I.K1 b z) with z|z
    ·exact f1 z
    ·exact f2 z
  ·have iP:p∈X.pn++pins:=by simpa[d0] using hp
   exact f5 p iP
 have fD:∀{H':Hp},H' D=none->C2 (d0 X pins scope N' cl C s H fp) [] H' D:=λhn=>by
  refine⟨hn,vB,λz=>?_,.inr (by show s.heap.objs.size<=D;omega),λx c q=>?_,λp hp=>?_⟩
  ·exact absurd (I.wF (a:=D) ()) λpK=>by
    rcases aI.mp (I.K1 D z) with z|z
    ·exact absurd I.lt (by simp_all)
    ·exact pK z
  ·rcases Z7 oJ q with l|q
   ·exact λz=>absurd (ay (z▸l) qy) (bK _)
   ·obtain⟨v,o,e,_⟩:=I.cell x c (S.cin x c q);exact ni c o e
  ·have iP:p∈X.pn++pins:=by simpa[d0] using hp
   exact ni _ _ (I.pin p iP).1
 have qu:∀{H':Hp} {s':Shared} {cc:St} {oD:Obj},DD oD->Inv (d0 X pins scope N' cl C s H fp) [] cc H' s'->H' D=none->s'.heap.get? D=some oD ->
   Inv (d0 X pins scope N' cl C s H fp) [(D,oD)] cc H' s':=λ{H' s' cc oD} jG J0 hn e=>J0.J5 λp hp=>by
  have z:p=(D,oD):=by simpa using hp
  subst z;obtain⟨f0,f1,f2,_⟩:=fD hn;exact⟨e,f0,f1,f2,jG⟩
 have oo:∀{H':Hp} {oD:Obj},(∀b∈fp,H' b=none)->∀b∈fp,C2 (d0 X pins scope N' cl C s H fp) [(D,oD)] H' b:=λ{H' oD} hn b hb=>by
  obtain⟨f0,f1,f2,f3,f4,f5⟩:=Be hn b hb;refine⟨f0,f1,f2,f3,f4,λp hp=>?_⟩;have iP:p∈(d0 X pins scope N' cl C s H fp).pn\/p=(D,oD):=by simpa using hp
  rcases iP with z|z
  ·exact f5 p (bx _ z)
  ·subst z;exact λz=>vA (by rw[show D=b from z];exact hb)
 have loop:∀fI:Shared,fI={ s with heap:=dR } ->
   codeAny (model X.prog X.w) X.A (.compLoop (.SetComp elt [⟨tg,iter,ifs,0⟩] scope pos) 0 (.ref it) (.ref D) (compEnvC scope (I9 scope cl C) C X.env)) (RR (.ref D) C) fI:=by
  rintro fI rfl;refine XG (λn s'=>∃ (i:Nat) (ys:List Int) (cc:St) (H':Hp) (oD:Obj),Inv (d0 X pins scope N' cl C s H fp) [] cc H' s'/\tn i s'.heap/\(∀ b ∈ fp,H' b=none)/\H' D=none/\ys.length <= 60/\DD oD /\
   s'.heap.get? D=some oD/\ST.u6 X.prog X.w s'.heap D (ST.f7 [] ys)/\W i n ys cc H') ?_ m0 ⟨0,[],_,H,ST.w9 X.w,X1,fm,λb hb=>(hf b hb).1,I.cu.fresh (),cj _,(λv (z:Data.set _ _ _=_)=>by cases z),lh,ST.HV lh,w0⟩
  rintro n s3 ⟨i,ys,iB,H3,oD,I3,jo,pT,d3,z3,c3,o3,S3,w3⟩;have wO:=qu c3 I3 d3 o3;rcases turn i n ys iB H3 w3 with⟨stop,q⟩|⟨go,hz,step⟩
  ·refine cU (T.done (d0 X pins scope N' cl C s H fp) rfl rfl rfl rfl i _ s3 _ H3 _ wO (oo pT) jo stop) λr s4 ⟨hr,I4⟩=>?_;subst hr;have o4:=(I4.pin (D,oD) (by simp)).1;have J4:Inv X pins U H3 s4:=I.Kw hf I4;have Bf:C2 X pins H3 D:=by
    refine⟨d3,bO (by rw[<- eD];exact I.lt),I.wF (),.inr (by have:=I.sz;omega),λx c q=>?_,λp hp=>?_⟩
    ·obtain⟨v,o,e,_⟩:=I.cell x c q;exact ni c o e
    ·exact ni _ _ (I.pin p hp).1
   obtain⟨mC,Ag,_⟩:=I4.loc;exact Az D C s4 (upd H3 D (rR X D (ST.f7 [] ys))) mC (J4.SG Bf (by have:=I.sz;omega) (Kj (S3.at λo e=>by simp_all))) (q D d3) Ag (by rw[d8 vB.symm];exact I4.free) ()
  ·refine cU (T.item (d0 X pins scope N' cl C s H fp) rfl rfl rfl rfl i _ s3 _ H3 _ wO (oo pT) jo go) λr s4 ⟨u,hr,h4⟩=>?_;subst hr;refine cU h4 λ_ s5 bB=>?_;obtain⟨x,H5,I5,r5,y5,lZ,vI⟩:=bB;have wN:=I5.pinned (oo vI) (T.obj _ _ lZ);refine cU (hg C s H _ s5 _ H5 x u _ wN r5 (step x H5 y5)) λ_ s6 bB=>?_;obtain⟨lW,H6,I6,q6⟩:=bB;refine cU (ht C s H _ s6 lW H6 _ I6 q6) λok s7 ⟨H7,I7,q7⟩=>?_;have back:∀{ue:St} {H8:Hp} {s8:Shared},Inv (d0 X pins scope N' cl C s H fp) ([(D,oD)]++V2 fp s5.heap) ue H8 s8->(∀b∈fp,H8 b=none)/\tn (i+1) s8.heap/\H8 D=none/\s8.heap.get? D=some oD :=
    λ{ue H8 s8} I8=>by
     have pf:∀b∈fp,∀o,s5.heap.get? b=some o->s8.heap.get? b=some o/\H8 b=none:=λb hb o e=>by
      have:=I8.pin (b,o) (aO _ (aO _ (P2 hb e)));exact⟨this.1,this.2.1⟩
     have pd:=I8.pin (D,oD) (by simp);refine⟨λb hb=>?_,T.keep _ _ _ lZ λb hb o e=>(pf b hb o e).1,pd.2.1,pd.1⟩;obtain⟨o,e,_⟩:=T.obj _ _ lZ b hb;exact(pf b hb o e).2
   cases ok with
   |false =>
    obtain⟨m',hm,w7⟩:=q7;obtain⟨b1,b2,b3,b4⟩:=back I7;exact⟨m',hm,i+1,ys,lW,H7,oD,I7.J5 λp hp=>absurd hp (by simp),b2,b1,b3,z3,c3,b4,S3.at λo e=>by rw[o3] at e;cases e;exact b4,w7⟩
   |true =>
    refine cU (he C s H _ s7 lW H7 _ I7 q7) λxv s8 bB=>?_;obtain⟨y,H8,I8,r8,kk,ey,m',hm,w8⟩:=bB;subst ey;obtain⟨tk,rfl⟩:=r8;obtain⟨b1,b2,b3,b4⟩:=back I8;have S8:ST.u6 X.prog X.w s8.heap D (ST.f7 [] ys):=S3.at λo e=>by rw[o3] at e;cases e;exact b4
    have zK:=ST.L3 ys [];simp only[List.length_nil] at zK;refine ST.a58 S8 (ay (by omega:_<62) ∅) λh' sb S9=>?_;have e9:ST.B6 (ST.f7 [] ys) kk=ST.f7 [] (ys++[kk]):=by unfold ST.f7;simp
    rw[e9] at S9;obtain⟨o9,es9,ep9,t9,g9,x9,d9,r9⟩:=id S9;have c9:DD o9:=λv z=>by rw[d9] at z;cases z
    have El:Inv (d0 X pins scope N' cl C s H fp) [] lW H8 s8:=I8.J5 λp hp=>absurd hp (by simp);obtain⟨f0,f1,f2,f3,f4,f5⟩:=fD (H':=H8) b3;have kp:∀b o,b≠D->s8.heap.get? b=some o->h'.get? b=some o:=λb' u hb hu=>by rw[sb.2 b' hb];exact hu
    refine⟨m',hm,i+1,ys++[kk],lW,H8,o9,El.turned (it:=D) (t':=s8.toks+1) kp f0 f1 f3 f4 f5,T.keep _ _ _ b2 λb hb o e=>kp b o (λz=>vA (by rw[<- z];exact hb)) e,b1,b3,?_,c9,g9,S9,w8⟩
    grind
 exact ZW (loop _ rfl) (T.self _ 0 _ _ _ fm (loop _ rfl))
theorem a27{tg:Expr}{N':List Str}{c8:List Nat}{cl:List (Str×Addr)}{wi:TI}{g:TG}{tc:TT}{te:TE}(S:dI X scope N' c8 cl)(hc:X.calm=true)(hi:PI X tg iter wi)(hg:∀pins C s H fp,PG (d0 X pins scope N' cl C s H fp) tg g)(ht:∀pins C s H fp,lR (d0 X pins scope N' cl C s H fp) ifs tc)(he:∀pins C s H fp,PE (d0 X pins scope N' cl C s H fp) elt te)(hs:∀x,foldedSetIterable iter X.env x=pure x):PE X (.SetComp elt [⟨tg,iter,ifs,0⟩] scope pos) (SD X wi c8 N'.length g tc te):=by
 intro pins s U H Q I h;refine iV (use:=none) rfl hs S.rG S.kind S.names (cU (hi pins s U H _ I h) λxv bU dR=>cU dR λva gY jP=>?_);obtain⟨it,fp,tn,J,H2,e,I2,T,fZ,f2,W,⟨m0,w0⟩,turn⟩:=jP;subst e;refine aF0 (RR:=λacc C=>compPost (model X.prog X.w) X.A X.xe none (EP X pins U Q) acc C) S hc (λC s H=>hg pins C s H fp) (λC s H=>ht pins C s H fp) (λC s H=>he pins C s H fp) I2 T fZ f2 w0 turn ?_;intro D C s' H' m I' q hn hC hsz;exact⟨m,hn,λh' sb=>⟨.ref D,H',I'.KZ hsz I2 hC sb,rfl,q⟩⟩
end
end L2
namespace HT
open PySem PyProof.Rows Builtin
end HT
namespace L2
open PySem PySem.Spec PyProof.Rows
def To(sep:Str)(ys:List Str):Nat:=ys.foldl (λn y=>n+y.length+sep.length) 0
end L2
namespace HT
open PySem PyProof.Rows Builtin PySem.SeqAt
end HT
namespace L2
open PySem PySem.Spec PyProof.Rows
def DW(K:PySem.W.Frag)(H:Hp)(a:Addr)(xs:List V):Prop :=
 H a=some (.tup xs)\/∃(o:Obj) (bt:Array Value) (n:Nat),K.lookup a=some o/\o.cls=.type "tuple"/\o.dict=none/\o.data=.seq bt n/\bt.size<=sizeLine/\Vals xs bt.toList
theorem DW.sq{K:PySem.W.Frag}{H:Hp}{a:Addr}{xs:List V}(h:DW K H a xs):jT K H a xs:=by
 rcases h with h|⟨o,bt,n,h1,h2,_,h3,h4,h5⟩
 ·exact .inl (.inl h)
 ·exact .inr ⟨o,bt,n,h1,h2,h3,h4,h5⟩
end L2
namespace ST
open PySem PyProof.Rows
variable{h:Heap}
def Spot(k:Int):Prop:=0<=k/\k<8
structure Own(mask:Nat)(owner:Array (Option Nat))(pre:List Int):Prop where
 sz:owner.size=mask+1
 fwd:∀(i:Nat) (k:Int),pre[i]?=some k->owner[k.toNat]?=some (some i)
 bwd:∀(j i:Nat),owner[j]?=some (some i)->pre[i]?=some (j:Int)
section
variable{prog:Program}{w:World}{a:Addr}
def UX(prog:Program)(w:World)(h:Heap)(a:Addr)(ks:List Int):Prop :=
 ∃o es ep t,h.get? a=some o/\o.ExactSet/\o.data=.set es ep t/\ElemsOf (intKind prog w) es.toList/\(es.toList.map λe=>toI e.2).Perm ks/\ks.Nodup/\es.size<scanBound/\t.fits es.size=true/\Well (Led w) t/\(ks=[]->7<=t.mask)
theorem u6.toV{ks:List Int}(x:u6 prog w h a ks)(hn:ks≠[]):UX prog w h a ks:=by
 obtain⟨o,es,ep,t,h1,h2,h3,h4,h5,h6,h7,h8,h9⟩:=x;exact⟨o,es,ep,t,h1,h2,h3,h4,h5,h6,h7,h8,h9,λz=>absurd z hn⟩
theorem u6.same{ks us:List Int}(x:u6 prog w h a ks)(hp:ks.Perm us):u6 prog w h a us:=by
 obtain⟨o,es,ep,t,h1,h2,h3,h4,h5,h6,h7⟩:=x;exact⟨o,es,ep,t,h1,h2,h3,h4,h5.trans hp,hp.nodup_iff.mp h6,h7⟩
theorem L7{o:Obj}{es oV:Array (Int×Value)}{ep:Nat}{t t':SetTable}(ho:h.get? a=some o)(hd:o.data=.set es ep t):(h.update a (Obj.putSet oV t')).get? a=some { o with data:=.set oV (ep+1) t' }:=by
 have:=bw (Obj.putSet oV t') ho (by rw[putSet_of oV t' hd];rfl);rw[putSet_of oV t' hd] at this;exact this
theorem above:∀n,n<300->7<SetTable.sizeAbove n/\n<SetTable.sizeAbove n/\SetTable.sizeAbove n<=sizeLine:=by decide +kernel
end
end ST
namespace L2
open PySem PySem.Spec PyProof.Rows
variable{X:Cx}
end L2
namespace ST
open PySem PyProof.Rows
end ST
namespace L2
open PySem PySem.Spec PyProof.Rows
variable{X:Cx}
theorem Jj:∀{ns ks:List Int},(ks++ns).Nodup->ST.f7 ks ns=ks++ns
 |[],ks,_=>by simp[ST.f7]
 |n::r,ks,h=>by
  have hn:n∉ks:=λz=>by
   have:=(cE.mp h).2.2 n z n (by simp);exact this rfl
  have e:ST.B6 ks n=ks++[n]:=by
   unfold ST.B6;rw[aD (by simpa using hn)]
  show ST.f7 (ST.B6 ks n) r=_;rw[e,Jj (by simp_all),bQ]
  rfl
theorem IY{bt:List Value}{ns:List Int}(hi:IntsAre bt ns):∃xs,bt.toArray=intItems xs/\ns=xs.toList.map (·.1):=by
 obtain⟨xs,e⟩:=hi.allInts.items;exact⟨xs,e,by rw[<- hi.numsOf,<- nums_intItems,<- e]⟩
theorem YE(hc:X.calm=true):l6 X (.builtin "sum") (λxs H Q=>∃a,∃ns:List Int,xs=[.ref a]/\fS X.K H a (ns.map V.int)/\Q (.int ns.sum) H):=by
 intro pins s U H xs us Q I r h;obtain⟨a,ns,rfl,ha,q⟩:=h;obtain⟨u,rfl,ru⟩:=vals1 r;cases ru;obtain⟨bt,rv,p,hz⟩:=I.list ha;obtain⟨xs,e,en⟩:=IY (F2 rv);refine sum_intListG (xs:=xs) (I.ok.hd hc) (by rw[<- e];exact p.isList) λh' tk t' k=>⟨.int ns.sum,H,I.kept k,⟨t',?_⟩,q⟩
 rw[preSum_eq,cV (by simp),en]
theorem YC(hc:X.calm=true):l6 X (.builtin "max") (λxs H Q=>∃a,∃(ns:List Int) (M:Int),xs=[.ref a]/\fS X.K H a (ns.map V.int)/\M∈ns/\(∀x∈ns,x<=M)/\Q (.int M) H):=by
 intro pins s U H xs us Q I r h;obtain⟨a,ns,M,rfl,ha,hm,hM,q⟩:=h;obtain⟨u,rfl,ru⟩:=vals1 r;cases ru;obtain⟨bt,rv,p,hz⟩:=I.list ha;obtain⟨xs,e,en⟩:=IY (F2 rv);have hsz:0<xs.size:=by
  have:=ub hm
  simp_all
 refine max_intList (xs:=xs) (I.ok.hd hc) (by rw[<- e];exact p.isList) hsz λv h' tk hv k=>?_;obtain⟨t,rfl⟩:=intItems_at hv;obtain⟨h1,h2⟩:=argBest_gt (numAt xs) (xs.size-1);generalize argBest (λi j=>decide (numAt xs i>numAt xs j)) (xs.size-1)=j0 at *;have m1:numAt xs j0∈ns:=by rw[en,numAt_eq];exact getD_mem (by rw[ai,cG];omega)
 have m2:M<=numAt xs j0:=by
  rw[en] at hm;obtain⟨j,hj,rfl⟩:=mem_getD hm;rw[ai,cG] at hj;rw[<- numAt_eq];exact h2 j ()
 have e2:numAt xs j0=M:=Int.le_antisymm (hM _ m1) m2;exact⟨.int M,H,I.kept k,⟨t,by rw[e2]⟩,q⟩
theorem YA(hc:X.calm=true):l6 X (.builtin "all") (λxs H Q=>∃(a:Addr) (ns:List Int),xs=[.ref a]/\fS X.K H a (ns.map V.int)/\Q (.bl (ns.all λn=>n != 0)) H):=by
 intro pins s U H xs us Q I r h;obtain⟨a,ns,rfl,ha,q⟩:=h;obtain⟨u,rfl,ru⟩:=vals1 r;cases ru;obtain⟨bt,rv,p,hz⟩:=I.list ha;refine call_all_walk ?_;refine fT p.isList ?_;have fF:a≠s.heap.objs.size:=by
  obtain⟨o,e,_⟩:=id p.isList;exact aK (ax e)
 have hl:=rv.length;rw[ai] at hl;refine⟨s.heap.objs.size,_,_,_,_,_,λi=>ns.getD i 1 != 0,rfl,zc (A:=X.A.in1) (I.ok.hd hc) _ a fF bt.toArray,⟨⟨_,aB _ rfl,rfl,rfl⟩,?_⟩,?_,λh' tk k=>?_⟩
 ·obtain⟨o,e,q1⟩:=id p.isList;exact⟨o,aj _ e,q1⟩
 ·intro i v s' Q' E' hP hQ;have hv:bt[i]?=some v:=by simpa using hP
  have hi:i<ns.length:=by rw[hl];exact(au.mp hv).1
  obtain⟨u',vd,zy⟩:=rv.get (i:=i) (x:=V.int ns[i]) (by rw[ag,ae hi];rfl);rw[hv] at vd;cases vd;obtain⟨t,rfl⟩:=zy;refine truthy_int ?_;have:ns.getD i 1=ns[i]:=by simp[List.getD,hi]
  dsimp only at hQ;rw[this] at hQ;exact hQ
 ·have e1:(List.range bt.toArray.size).all (λi=>ns.getD i 1 != 0)=ns.all λn=>n != 0:=by
   rw[aZ,<- hl];rw[aU];simp only[List.all_eq_true,List.mem_range];constructor
   ·intro hh x hx;obtain⟨i,hi,rfl⟩:=bg.mp hx;have:=hh i hi;simpa[List.getD,hi] using this
   ·intro hh i hi;have:=hh ns[i] (cy hi);simpa[List.getD,hi] using this
  rw[e1];exact ⟨.bl _,H,I.kept (t':=tk) λb o e=>k b o (by
   intro hb;have:b=s.heap.objs.size:=by simpa using hb
   exact absurd (ax e) (by rw [this];exact bK _)) (aj _ e),rfl,q⟩
theorem Xy:l6 X (.builtin "len") (λxs H Q=>∃a,∃ks:List Int,xs=[.ref a]/\H a=some (rR X a ks)/\Q (.int ks.length) H):=by
 intro pins s U H xs us Q I r h;obtain⟨a,ks,rfl,ha,q⟩:=h;obtain⟨u,rfl,ru⟩:=vals1 r;cases ru;have hS:ST.u6 X.prog X.w s.heap a ks:=(I.cu a _ ha).1;obtain⟨o,es,ep,t,e,ex,ed,_,hp,nd,hz,hf,_⟩:=hS;have hl:es.size=ks.length:=by have:=hp.length_eq;simpa using this
 refine call_len_set e ex ed hf (by have:scanBound<2 ^ 62:=∅;omega) ⟨.int ks.length,H,I.tok _,⟨_,by rw[hl]⟩,q⟩
theorem TX{i:Int}{j:Nat}{p pos:Pos}(nE:PySem.W.kdsCode X.K X.env.code=true):PE X (.Set [.Constant (.int i) j p] 0 pos) (λU H Q=>∀q,H q=none->Q (.ref q) (upd H q (.set (λk=>decide (k=i)) 1))):=by
 intro pins s U H Q I h;refine ab (fo ?_);refine ab (PySem.W.kds_main I.hX nE λb=>?_);refine PySem.W.kds_core (ts:=(evalEach [Expr.Constant (.int i) j p] X.env).map λt=>do let v <- t;standAt pos;pure v) (by rfl) (by rfl) (by show 1<=30;decide) (by rfl) λled=>?_;refine PySem.W.kds_all pos _ _ _ ?_;refine wpAny_Constant_int ?_;refine PySem.W.kds_fill_cons ?_;have NZ:(s.heap.push { cls:=.type "set",dict:=none,data:=.set #[] 0 (.fresh 0 0 led) }).SetOf (intKind X.prog X.w) s.heap.objs.size (λ_=>false) 0:=(setObjOf_fresh led).setOf (aB _ rfl) ∅;refine bS (ab ((intKind X.prog X.w).pyHash (k:=i) (eT _ _ _ _) ?_));refine wpAny_setAddHashed_of (knd:=intKind X.prog X.w) (eT _ _ _ _) rfl NZ ∅ λh' zW lp=>?_;refine PySem.W.kds_fill_nil (by rfl) ?_;have kp:∀b u,s.heap.get? b=some u->h'.get? b=some u:=λb u e=>(zW.2 b (aK (ax e))).trans (aj _ e);exact⟨.ref s.heap.objs.size,_,I.laid (a:=s.heap.objs.size) (o:=.set (λk=>decide (k=i)) 1) kp (av _) (by show Heap.SetOf _ _ _ _ _;simpa using lp),rfl,h _ (I.cu.fresh (av _))⟩
theorem Za:gw X (compareOp .In) (λx y H Q=>∃i a S n,x=.int i/\y=.ref a/\H a=some (.set S n)/\Q (.bl (S i)) H):=by
 intro pins s U H x y v u Q I rx ry h;obtain⟨i,a,S,n,rfl,rfl,ha,q⟩:=h;obtain⟨t,rfl⟩:=rx;cases ry;exact wpAny_inSet_of (knd:=intKind X.prog X.w) (k:=i) (eT _ _ _ _) rfl (I.cu a _ ha) ⟨.bl (S i),H,I.tok _,rfl,q⟩
theorem aA1:gw X (compareOp .NotIn) (λx y H Q=>∃i a S n,x=.int i/\y=.ref a/\H a=some (.set S n)/\Q (.bl (!S i)) H):=by
 intro pins s U H x y v u Q I rx ry h;obtain⟨i,a,S,n,rfl,rfl,ha,q⟩:=h;obtain⟨t,rfl⟩:=rx;cases ry;exact wpAny_notInSet_of (knd:=intKind X.prog X.w) (k:=i) (eT _ _ _ _) rfl (I.cu a _ ha) ⟨.bl (!S i),H,I.tok _,rfl,q⟩
theorem ZS:nS X "set.add" (λx xs H Q=>∃a i S n,x=.ref a/\xs=[.int i]/\H a=some (.set S n)/\n+1<4096/\Q .bR (upd H a (.set (λk=>S k||decide (k=i)) (if S i then n else n+1)))):=by
 intro pins s U H x vs v us Q I rx rv h;obtain⟨a,i,S,n,rfl,rfl,ha,hn,q⟩:=h;cases rx;obtain⟨u,rfl,t,rfl⟩:=rv.one;refine call_set_add (knd:=intKind X.prog X.w) (k:=i) (eT _ _ _ _) rfl (I.cu a _ ha) (show n+1<scanBound from hn) λh' zW lp=>?_;obtain⟨o,es,ep,tb,ho,_⟩:=id lp;exact⟨.bR,_,I.write (x:=a) (e:=a) (o:=.set (λk=>S k||decide (k=i)) (if S i then n else n+1)) (by rw[ha];trivial) (.inl rfl) (λb u hb e=>(zW.2 b hb).trans e) ⟨o,ho⟩ lp,rfl,q⟩
def Eh(K:PySem.W.Frag)(a:Addr)(n:Nat):It :=
 ⟨λi H=>∃xs x,fS K H a xs/\xs.length=n/\i<n/\xs[n-1-i]?=some x,λi H x H'=>H'=H/\∀xs,fS K H a xs->xs[n-1-i]?=some x,λi H=>n<=i⟩
theorem Yq{P:Program}{w:World}{K:PySem.W.Frag}{tg:Expr}(a it:Addr)(n:Nat):Turn P w K tg (Eh K a n) [it] it (λi h=>i<=n/\h.IsRevIter it a ((n:Int)-1-(i:Nat))) where
 mem:=by simp
 obj:=λi h st b hb=>by
  have e:b=it:=by simpa using hb
  subst e;obtain⟨o,e,c,d⟩:=st.2;exact⟨o,e,λv z=>by simp_all⟩
 keep:=λi h h' st k=>⟨st.1,st.2.at λo e=>k it (by simp) o e⟩
 item:=by
  intro X hP hw hK hc i pins s U H E I hf st hg;subst hP hw hK;obtain⟨xs,x,hq,hn,hi,hx⟩:=hg;obtain⟨bt,rv,p,hz⟩:=I.list hq;obtain⟨u,hu,ru⟩:=rv.get hx;obtain⟨f0,f1,f2,f3,f4,f5⟩:=hf it (by simp);have fZ:=st.2;rw[show(n:Int)-1-(i:Nat)=((n-1-i:Nat):Int) by omega] at fZ;refine wpAny_pyNext_rev_item fZ p.isList (x:=u) (by simpa using hu) λh' ba sb=>?_;have I1:Inv X pins U H { s with heap:=h' }:=I.turned (t':=s.toks) (λb o hb e=>(sb.2 b hb).trans e) f0 f1 f3 f4 f5;obtain⟨o,e,c,d⟩:=id ba;refine⟨u,rfl,yg (s:={ s with heap:=h' }) e c d ∅ ⟨x,H,I1,ru,⟨rfl,λys hy=>by rw[I.Ck hy hq];exact hx⟩,⟨by omega,?_⟩,λb hb=>(hf b hb).1⟩⟩
  grind
 done:=by
  intro X hP hw hK hc i pins s U H E I hf st hg;obtain⟨f0,f1,f2,f3,f4,f5⟩:=hf it (by simp);have fZ:=st.2;have:n<=i:=hg;rw[show(n:Int)-1-(i:Nat)=-1 by omega] at fZ;exact wpAny_pyNext_rev_end (I.ok.hd hc) fZ λh' eb=>⟨rfl,I.turned (t':=s.toks) (λb o hb e=>eb b o hb e) f0 f1 f3 f4 f5⟩
 self:=λ_ _ _ _ _ st h=>wpAny_pyIter_revIter st.2 h
theorem boot_reversed:bootBuiltins "reversed"=some (.type "reversed"):=by decide +kernel
theorem RC{tg l:Expr}{ta:TA}{p pos:Pos}(hg:Gl X "reversed")(hm:X.mg "reversed"=none)(ha:PA X [l] ta)(hs:starEach [l] X.env=[(false,eval l X.env)]) :
  PI X tg (.Call (.Name "reversed" p) [l] [] pos) (λU H R=>ta U H λvs H1=>∃a xs,vs=[.ref a]/\fS X.K H1 a xs/\R (Eh X.K a xs.length) H1):=by
 intro pins s U H R I h;refine Call_ (K7 I hg hm boot_reversed (bN (cU (ha pos pins s U H _ I h) λus s1 bB=>?_) hs rfl));obtain⟨vs,H1,I1,r1,q1⟩:=bB;obtain⟨a,xs,e,hq,q⟩:=q1;subst e;cases r1 with
 |cons r rr =>
  cases rr;cases r;obtain⟨bt,rv,p,hz⟩:=I1.list hq;refine call_reversed_list p.isList ?_;have hl:=rv.length;have hit:(s1.heap.push (revObj a ((bt.toArray.size:Int)-1))).IsRevIter s1.heap.objs.size a ((xs.length:Int)-1-((0:Nat):Int)):=⟨_,aB _ rfl,rfl,by simp[revObj,hl]⟩
  refine wpAny_pyIter_revIter hit ?_;refine⟨s1.heap.objs.size,[s1.heap.objs.size],_,_,H1,rfl,I1.kept (t':=s1.toks) λb o e=>aj _ e,Yq a _ xs.length,⟨cj _,hit⟩,λb hb=>?_,q⟩;have e:b=s1.heap.objs.size:=by simpa using hb
  subst e;exact I1.pX (av _) (I1.cu.fresh (av _))
end L2
namespace ST
open PySem PyProof.Rows
section
variable{prog:Program}{w:World}{A:Around}{E:Value->Shared->Prop}{s:Shared}{a:Addr}
theorem aK9{T:String}{o:Obj}{items:Array Value}{n:Nat}{ns:List Int}(hT:T="list"\/T="tuple")(ho:s.heap.get? a=some o)(hc:o.cls=.type T)(hd:o.data=.seq items n)(hI:IntsAre items.toList ns)(xP:ns.length<=10000){Q:Value->Shared->Prop}(h:∀(h1:Heap) (vs:List Value) (ko:List Int) e h',(∀b o',s.heap.get? b=some o'->h1.get? b=some o')->IntsAre vs ko->ko.Perm ns->ko.Pairwise (·<=·)->h'.get? h1.objs.size=some (seqObj "list" vs.toArray e)->(∀c o,h1.get? c=some o->h'.get? c=some o)->Q (.ref h1.objs.size) { s with heap:=h' }) :
  wpAny (model prog w) A (call (.builtin "sorted") [.ref a]) Q E s:=by
 have hl:items.toList.length=ns.length:=Z3 hI;refine Ey kind_sorted plain_sorted entry_sorted (args_sorted1 _) ?_;refine ab (m:=checkCount "sorted" 1 1 _) (ao ?_);refine ab (wpAny_collect_seq (A:=A.in1) a hT ho hc hd (λh1 kp=>?_) (by simp at hl;unfold sizeLine;omega));have oh:items.toList.length<=100000:=by omega
 generalize items.toList=vs at *;refine ab (LD (s:={ s with heap:=h1 }) ?_);have oC:(h1.push (seqObj "list" vs.toArray 0)).get? h1.objs.size=some (seqObj "list" vs.toArray 0):=aB _ rfl;refine ab (bS (dU (s:={ s with heap:=h1.push (seqObj "list" vs.toArray 0) }) slot_list_sort ⟨_,oC,rfl⟩ entry_list_sort (TS.HE oC hI oh λout ko a1 a2 a3=>⟨_,rfl,?_⟩) (args_list_sort _)));obtain⟨e,kI⟩:=sortedHeap_at (vs:=vs) (out:=out) oC;refine ao ⟨_,rfl,h h1 out.toList ko e _ kp a1 a2 a3 kI (λc o' e'=>?_)⟩;have hc:=ax e';rw[sortedHeap_old (aK hc) (by rw[size_push'];exact gP hc)];exact aj _ e'
end
end ST
namespace L2
open PySem PyProof.Rows
def O8(ns:List Int):List Int:=ns.mergeSort (λa b=>decide (a<=b))
theorem Z'(ns:List Int):(O8 ns).Pairwise (·<=·):=by
 have:=sf (le:=λa b:Int=>decide (a<=b)) (λa b c h1 h2=>by simp at *;omega) (λa b=>by simp;omega) ns;exact this.imp λh=>by simpa using h
theorem IQ(ns:List Int):(O8 ns).Perm ns:=Et _ _
section
variable{X:Cx}
theorem XO:l6 X (.builtin "sorted") (λxs H Q=>∃p,∃ns:List Int,xs=[.ref p]/\(fS X.K H p (ns.map V.int)\/jT X.K H p (ns.map V.int))/\ns.length<=10000/\∀l,H l=none->Q (.ref l) (upd H l (.lst ((O8 ns).map V.int)))):=by
 intro pins s U H xs us Q I r h;obtain⟨p,ns,rfl,hq,hl,q⟩:=h;obtain⟨u,rfl,rx⟩:=vals1 r;cases rx;obtain⟨T,bt,o,n,hT,r',ho,hc,hd⟩:∃T,∃(bt:List Value) (o:Obj) (n:Nat),(T="list"\/T="tuple")/\Vals (ns.map V.int) bt/\s.heap.get? p=some o/\o.cls=.type T/\o.data=.seq bt.toArray n:=by
  rcases hq with hq|hq
  ·obtain⟨bt,r',pl,_⟩:=I.list hq;obtain⟨o,ho,hc,n,hd⟩:=pl.isList;exact⟨_,bt,o,n,.inl rfl,r',ho,hc,hd⟩
  ·obtain⟨bt,r',⟨o,ho,hc,n,hd⟩,_⟩:=I.tuple hq;exact⟨_,bt,o,n,.inr rfl,r',ho,hc,hd⟩
 refine ST.aK9 hT ho hc hd (F2 r') hl λh1 vs ko e h' kp i1 i2 i3 i4 i5=>?_;have e1:ko=O8 ns:=R8 (i2.trans (IQ ns).symm) i3 (Z' ns);subst e1;have I1:Inv X pins U H { s with heap:=h1 }:=I.kept (t':=s.toks) kp;have hz:(O8 ns).length<=10000:=by rw[(IQ ns).length_eq];exact hl
 exact⟨.ref h1.objs.size,_,(I1.laid (a:=h1.objs.size) (o:=.lst ((O8 ns).map V.int)) (t':=s.toks) i5 (av _) ⟨by rw[ai];exact aC hz ∅,vs,e,IS i1,i4⟩),rfl,q _ (I1.cu.fresh (av _))⟩
theorem Iq:∀{ks:List Key} {l:List Value},l.length=ks.length->(∀(i:Nat) v,l[i]?=some v->∃k,ks[i]?=some k/\S5 k v=true)->Vals (ks.map kV) l
 |[],[],_,_=>.nil
 |k::ks,v::l,hl,h=>by
  obtain⟨k',e,hk⟩:=h 0 v rfl;cases e;refine .cons ?_ (Iq (by simpa using hl) λi v e=>h (i+1) v e);rcases t8 hk with⟨i,t,rfl,rfl⟩|⟨x,t,rfl,rfl⟩<;>exact⟨t,rfl⟩
theorem XN(hc:X.calm=true):l6 X (.type "list") (λxs H Q=>∃a kvs,xs=[.ref a]/\H a=some (.dK kvs)/\kvs.length<=10000/\∀p,H p=none->Q (.ref p) (upd H p (.lst ((kvs.map (·.1)).map kV)))):=by
 intro pins s U H xs us Q I r h;obtain⟨a,kvs,rfl,ha,hl,q⟩:=h;obtain⟨u,rfl,rx⟩:=vals1 r;cases rx;obtain⟨_,hd,vs,kv,hD⟩:=KO I.cu ha;obtain⟨ep,hA⟩:=hD.dictAt;have oh:vs.length<=10000:=by rw[<- kv.length];exact hl
 refine PySem.W.kdl_call (PySem.W.kdl_dict (kvs:=vs) (ep:=ep) hd) (I.ok.hd hc) hA (aC oh ∅) λh' tk acc c k1 k2 k3=>?_;have hv:Vals ((kvs.map (·.1)).map kV) acc.toList:=by
  refine Iq (by rw[cG,k3.1,ai,kv.length]) λi v e=>?_;obtain⟨k,x,e1,e2⟩:=k3.2 i v (by simpa using e);exact⟨k,by rw[kv.keys,ag,e1];rfl,e2⟩
 exact⟨.ref s.heap.objs.size,_,(I.laid (a:=s.heap.objs.size) (o:=.lst ((kvs.map (·.1)).map kV)) (t':=tk) k1 (av _) ⟨by rw[ai,ai];exact aC hl ∅,acc.toList,c,hv,by simpa using k2⟩),rfl,q _ (I.cu.fresh (av _))⟩
end
end L2
namespace ST
open PySem PyProof.Rows
variable{tk:Tok}{items:Array Value}{n:Nat}{ks:List Int}
theorem aB5:typeLookup (.type "list") "keys"=pure none:=by rfl
theorem Yc:typeLookup (.type "list") "__getattr__"=pure none:=by rfl
section
variable{prog:Program}{w:World}{A:Around}{E:Value->Shared->Prop}{h:Heap}{g:Array GenState}{d:Drawn}{t:Nat}{os:OsState}{a:Addr}{o:Obj}
theorem Yb{Q:Fin->Shared->Prop}(hh:A.handled=none)(hx:h.get? a=some o)(hc:o.cls=.type "list")(hn:o.dict=none)(hd:o.data=.seq items n)(hq:∀e h' tk,(∀b o,h.get? b=some o->h'.get? b=some o)->t<=tk->(∃oe,h'.get? e=some oe/\oe.cls=.type "AttributeError")->E (.ref e) ⟨h',g,d,tk,os⟩) :
  wpAny (model prog w) A (Builtin.«object.__getattribute__» ⟨[.ref a,.str "keys" tk],[]⟩) Q E ⟨h,g,d,t,os⟩:=by
 have hT:(⟨h,g,d,t,os⟩:Shared).TypeIs (.ref a) "list":=⟨_,hx,hc⟩
 have f4:=aB5
 repeat (any_goals (first|assumption|wp_step))
 rw[hd];dsimp only;unfold instanceDict
 repeat (any_goals (first|assumption|wp_step))
 rw[hc];dsimp only;rw[hn];dsimp only;rw[aJ (by rfl)];refine ao ?_;unfold Builtin.ObjectAttr.inDict;refine ao ?_;dsimp only
 repeat (any_goals (first|assumption|wp_step))
 have hm:(Str.ofString (toString "'"++toString ((Manifest.find? "list").elim "list" λx=>x.tpName)++toString "' object has no attribute '")++Str.ofString "keys"++Str.ofString "'").length<=sizeLine:=by decide +kernel
 generalize (Str.ofString (toString "'"++toString ((Manifest.find? "list").elim "list" λx=>x.tpName)++toString "' object has no attribute '")++Str.ofString "keys"++Str.ofString "'")=msg at *;unfold raiseAttrError
 repeat (any_goals (first|assumption|wp_step))
 have f5:isSubtype (.type "AttributeError") (.type "AttributeError")=pure true:=by rfl
 refine eR f5 ?_
 repeat (any_goals (first|assumption|wp_step))
 refine wpAny_raiseNew_none hh (hq _ _ _ (λb ob e=>?_) () ?_)
 ·have hb:b≠(h.push { cls:=Value.type "tuple",data:=Data.seq #[Value.str msg t] }).objs.size:=by
   have:=ax e;rw[eW];exact aK (gP this)
  exact((bT _ _ _).2 b hb).trans (aj _ (aj _ e))
 ·exact⟨_,bw _ (aB _ rfl) rfl,rfl⟩
theorem XW{R:Result->Shared->Prop}(hh:A.handled=none)(hx:h.get? a=some o)(hc:o.cls=.type "list")(hn:o.dict=none)(hd:o.data=.seq items n)(hq:∀e h' tk,(∀b o,h.get? b=some o->h'.get? b=some o)->t<=tk->(∃oe,h'.get? e=some oe/\oe.cls=.type "AttributeError")->R (.error (.ref e)) ⟨h',g,d,tk,os⟩) :
  codeAny (model prog w) A (.call (.builtin "list.__getattribute__") ⟨[.ref a,.str "keys" tk],[]⟩) R ⟨h,g,d,t,os⟩ :=
 codeAny_call_builtin fC.plain F.entry_list_ga (fC.check _ _ _ _ _ _ _ _ (show(⟨h,g,d,t,os⟩:Shared).TypeIs (.ref a) "list" from⟨_,hx,hc⟩) (F.args_list_getattribute_2 _ _) (Yb (by simp[hh]) hx hc hn hd hq))
theorem aB7{Q:Value->Shared->Prop}(hh:A.handled=none)(hx:h.get? a=some o)(hc:o.cls=.type "list")(hn:o.dict=none)(hd:o.data=.seq items n)(hq:∀e h' tk,(∀b o,h.get? b=some o->h'.get? b=some o)->t<=tk->(∃oe,h'.get? e=some oe/\oe.cls=.type "AttributeError")->E (.ref e) ⟨h',g,d,tk,os⟩):wpAny (model prog w) A (getAttrBy (.ref a) (.str "keys" tk) false) Q E ⟨h,g,d,t,os⟩:=by
 have hT:(⟨h,g,d,t,os⟩:Shared).TypeIs (.ref a) "list":=⟨_,hx,hc⟩
 have f2:=fC.lookup;have f3:=fC.bind (.ref a)
 repeat (any_goals (first|assumption|wp_step))
 refine XW hh hx hc hn hd λe h' jY k1 k2 ⟨oe,he,xG⟩=>?_;have NV:(⟨h',g,d,jY,os⟩:Shared).TypeIs (.ref e) "AttributeError":=⟨_,he,xG⟩
 have f5:isSubtype (.type "AttributeError") (.type "AttributeError")=pure true:=by rw[fU];kernel_rfl
 have f6:=Yc;dsimp only;unfold getattributeRaised;refine ab (ff NV f5 ?_);rw[aJ rfl];unfold hookBehind
 repeat (any_goals (first|assumption|wp_step))
 exact hq e h' jY k1 k2 ⟨oe,he,xG⟩
theorem XU{Q:Option Value->Shared->Prop}(hh:A.handled=none)(hx:h.get? a=some o)(hc:o.cls=.type "list")(hn:o.dict=none)(hd:o.data=.seq items n)(hq:∀h' tk,(∀b o,h.get? b=some o->h'.get? b=some o)->t<=tk->Q none ⟨h',g,d,tk,os⟩):wpAny (model prog w) A (getAttr? (.ref a) "keys") Q E ⟨h,g,d,t,os⟩:=by
 unfold getAttr? getAttrBy?;have f5:isSubtype (.type "AttributeError") (.type "AttributeError")=pure true:=by rw[fU];kernel_rfl
 refine ab (wpAny_mkText ?_);refine ab (mB (aB7 hh hx hc hn hd λe h' jY k1 k2 ⟨oe,he,xG⟩=>?_));dsimp only;refine ab (ff (show(⟨h',g,d,jY,os⟩:Shared).TypeIs (.ref e) "AttributeError" from⟨_,he,xG⟩) f5 ?_);rw[aJ rfl];exact ao (hq h' jY k1 (Nat.le_of_succ_le k2))
theorem M3:plainId "dict.update.loop"=true:=by decide +kernel
theorem IV:entryFor table "dict.update.loop"=some Builtin.«dict.update.loop»:=entryFor_of_tree (by kernel_rfl)
def F6(ks:List Int):List (L2.Key×Value):=ks.map λk=>(.inl k,.bool true)
theorem stored_new{k:Int}(h:k∉ks):stored (F6 ks) (.inl k:L2.Key) (.bool true)=F6 (ks++[k]):=by
 unfold stored;rw[aD]
 ·simp[F6]
 ·intro z;rw[aV] at z;obtain⟨x,hx,e⟩:=z;obtain⟨j,hj,rfl⟩:=aH.mp hx;have:j=k:=mD (bo e);exact h (this▸hj)
theorem ZU{R:Result->Shared->Prop}{I:Addr}{fp wr:List Addr}{G:Array GenState->Array GenState->Prop}{P:Nat->Value->Prop}{St:Nat->Shared->Prop}(W:WalksS prog w A.in1 I fp wr G n P St)(Gg:a∉fp)(hn:n=ks.length){tp:Nat->Addr}(hv:∀i v,P i v->v=.ref (tp i))(Fv:∀i,i<n->tp i∉a::wr)(hb:n<=10000)(nd:ks.Nodup):∀(k i:Nat) (s:Shared),i+k=n->St i s->(∀j,j<n->∃tk,s.heap.IsTuple (tp j) #[.int (ks.getD j 0) tk,.bool true])->s.heap.DictOf (L2.l9 prog w) a (F6 (ks.take i)) ->
   (∀s',Moved (a::wr) G s s'->s'.heap.DictOf (L2.l9 prog w) a (F6 ks)->R (.ok (.ret .none)) s')->codeAny (model prog w) A (.builtin "dict.update.loop" ⟨[.ref a,.ref I,rawInt i,.none],[]⟩) R s:=by
 have hw:a∉wr:=λh=>Gg (W.sub _ h);have mW:∀b∈wr,b∈a::wr:=λb hb=>by simp[hb]
 intro k
 induction k with
 |zero =>
  intro i s e st ht hS hR;obtain rfl:i=n:=by omega
  refine dD IV ?_;rw[Around.under_plainId M3 _];unfold Builtin.«dict.update.loop»;dsimp only;refine ab (W.done s _ _ st λs' m=>?_);refine ab (m:=Builtin.Dict.addKeywords _ _) (ao ?_);refine ao (hR s' (m.mono mW) ?_);rw[hn,bY] at hS;obtain⟨o,es,ep,ho,r⟩:=hS;exact⟨o,es,ep,m.heap a o hw ho,r⟩
 |succ k ih =>
  intro i s e st ht hS hR;have dF:i<ks.length:=by omega
  refine dD IV ?_;rw[Around.under_plainId M3 _];unfold Builtin.«dict.update.loop»;dsimp only;refine ab (W.item i s _ _ () st λv s' hP ba m=>?_);cases hv i v hP;have lp:s'.heap.DictOf (L2.l9 prog w) a (F6 (ks.take i)):=by
   obtain⟨o,es,ep,ho,r⟩:=hS;exact⟨o,es,ep,m.heap a o hw ho,r⟩
  have pG:∀j,j<n->∃tk,s'.heap.IsTuple (tp j) #[.int (ks.getD j 0) tk,.bool true]:=λj hj=>by
   obtain⟨tk,o,ho,r⟩:=ht j hj;exact⟨tk,o,m.heap _ o (λz=>Fv j hj (by simp[z])) ho,r⟩
  obtain⟨tk,o,ho,hc,nn,hd⟩:=pG i ();refine ab (bS ?_);refine ab (wpAny_tryCatch ?_);unfold Builtin.Dict.pairItems;refine ab (gW (show s'.TypeIs (.ref (tp i)) "tuple" from⟨o,ho,hc⟩) ?_);rw[aJ ∅];unfold seqItems?;dsimp only;refine ab (ab (wpAny_load ho ?_));rw[hd];refine ao (ao ?_);show wpAny (model prog w) A.in1 (holding [.int (ks.getD i 0) tk,.bool true] (dictSet a (.int (ks.getD i 0) tk) (.bool true))) _ _ _;refine bS ?_;unfold dictSet;refine bS (ab ((L2.l9 prog w).pyHash (k:=.inl (ks.getD i 0)) (L2.T5 _ _ _ _) ?_));have hl:(F6 (ks.take i)).length<=10000:=by
   unfold F6;rw[ai,cM];omega
  refine wpAny_dictSetHashed_pairs (s:={ s' with toks:=s'.toks+1 }) (k:=(.inl (ks.getD i 0):L2.Key)) (L2.T5 _ _ _ _) lp (λh' pL sb=>?_) (aC hl ∅);have ek:ks.take (i+1)=ks.take i++[ks.getD i 0]:=by
   rw[bu,ae dF];simp[List.getD,dF]
  have pK:ks.getD i 0∉ks.take i:=by
   have:(ks.take (i+1)).Nodup:=nd.sublist (kM _ _);rw[ek,cE] at this;exact λz=>this.2.2 _ z _ (by simp) rfl
  rw[stored_new pK,<- ek] at pL;refine ao ⟨gn M3 _,?_⟩;rw[show((i:Nat):Int)+1=((i+1:Nat):Int) by omega];refine ih (i+1) _ () (W.frame _ s' _ _ ba (cI _) λb hb o e=>by rw[sb.2 b λz=>Gg (z▸hb)];exact e) (λj hj=>?_) pL λs2 m2 h2=>?_
  ·obtain⟨tk,o,ho,r⟩:=pG j hj;exact⟨tk,o,(sb.2 _ λz=>Fv j hj (by simp[z])).trans ho,r⟩
  ·exact hR s2 (Moved.trans W.gtrans ((m.mono mW).then_heap (cI _) λb o hb e=>by rw[sb.2 b λz=>hb (by rw[z];simp)];exact e) m2) h2
theorem ZC{l:Addr}{tp:Nat->Addr}{nn:Nat}{s:Shared}{Q:Value->Shared->Prop}(hh:A.handled=none)(ho:s.heap.get? l=some o)(hc:o.cls=.type "list")(hn:o.dict=none)(hd:o.data=.seq items nn)(hsz:items.size=ks.length)(hit:∀(i:Nat) (v:Value),items[i]?=some v->v=.ref (tp i))(ht:∀j,j<ks.length->∃tk,s.heap.IsTuple (tp j) #[.int (ks.getD j 0) tk,.bool true])(hb:ks.length<=10000)(nd:ks.Nodup)(h:∀h' tk,h'.DictOf (L2.l9 prog w) s.heap.objs.size (F6 ks)->(∀b o,s.heap.get? b=some o->h'.get? b=some o)->s.toks<=tk->Q (.ref s.heap.objs.size) { s with heap:=h',toks:=tk }) :
  wpAny (model prog w) A (call (.type "dict") [.ref l]) Q E s:=by
 refine callType_codes (Q₁:=λobj bU=>obj=.ref s.heap.objs.size/\bU={ s with heap:=s.heap.push { cls:=.type "dict",data:=.dict #[] } }) F.kt_called_dict (F.kt_typeCall_dict_1 _) F.entry_dict_init (kt_code_dict_new _ ⟨rfl,rfl⟩) ?_;rintro obj bU ⟨rfl,rfl⟩;have oE:(s.heap.push { cls:=.type "dict",data:=.dict #[] }).DictOf (L2.l9 prog w) s.heap.objs.size []:=Heap.DictOf.new s.heap;refine⟨oE.typeIs,F.args_dict_init_2 _ _,?_⟩;have pJ:(s.heap.push { cls:=.type "dict",data:=.dict #[] }).get? l=some o:=aj _ ho;have vx:Shared.TypeIs { s with heap:=s.heap.push { cls:=.type "dict",data:=.dict #[] } } (.ref l) "list":=⟨o,pJ,hc⟩
 unfold Builtin.«dict.__init__»;refine ab ?_;unfold Builtin.Dict.selfAndRest;refine ab (wpAny_notOrdered_dict oE.typeIs ?_);show wpAny _ _ (pure (s.heap.objs.size,[Value.ref l])) _ _ _;refine ao ?_;show wpAny _ _ (Builtin.Dict.updateFrom "dict.__init__" s.heap.objs.size (.ref l) [] .none) _ _ _;unfold Builtin.Dict.updateFrom;refine ab (gW vx ?_);rw[aJ ∅];refine ab (XU (by simp[hh]) pJ hc hn hd λh1 ur k1 k2=>?_);rw[aJ (by rfl)];refine ab (ei ?_);have vf:h1.get? l=some o:=k1 _ _ pJ;have oh:h1.IsList l items:=⟨o,vf,hc,nn,hd⟩
 have dF:l<h1.objs.size:=ax vf;have xB:l≠h1.objs.size:=aK dF;refine ab (fT (s:={ s with heap:=h1,toks:=ur }) oh ?_);refine ao ⟨gn M3 _,?_⟩;have la:l<s.heap.objs.size:=ax ho;obtain⟨oa,_,_,Nq,_⟩:=id oE;have oj:s.heap.objs.size<h1.objs.size:=ax (k1 _ _ Nq);have tl:∀j,j<ks.length->tp j<s.heap.objs.size:=λj hj=>by
  obtain⟨_,o',e,_⟩:=ht j hj;exact ax e
 refine ZU (A:=A.in1) (a:=s.heap.objs.size) (ks:=ks) (tp:=tp) (zc (A:=A.in1.in1) (by simp[hh]) h1.objs.size l xB items).toS (λz=>?_) hsz hit (λj hj z=>?_) () nd items.size 0 _ () ⟨⟨_,aB _ rfl,rfl,rfl⟩,oh.push _⟩ (λj hj=>?_) ?_ λs' m lp=>?_
 ·simp only[List.mem_cons,List.not_mem_nil,or_false] at z;rcases z with z|z
  ·exact aK oj z
  ·exact bO la z
 ·have:=tl j ();simp only[List.mem_cons,List.not_mem_nil,or_false] at z;rcases z with z|z
  ·exact aK this z
  ·exact aK (cO this oj) z
 ·obtain⟨tk,o',e,r⟩:=ht j ();exact⟨tk,o',aj _ (k1 _ _ (aj _ e)),r⟩
 ·obtain⟨o',es,ep,e,r⟩:=oE;exact⟨o',es,ep,aj _ (k1 _ _ e),r⟩
 ·have eS:s'={ s with heap:=s'.heap,toks:=s'.toks }:=by
   obtain⟨iP,g',d',jY,qv⟩:=s';have m1:g'=s.gens:=m.gens;have m2:d'=s.drawn:=m.drawn;have m3:qv=s.os:=m.os;subst m1;subst m2;subst m3
   rfl
  rw[eS];refine⟨rfl,h _ _ lp (λb o' e=>?_) (aC k2 m.toks)⟩;have lb:=ax e;refine m.heap b o' (λz=>?_) (aj _ (k1 _ _ (aj _ e)));simp only[List.mem_cons,List.not_mem_nil,or_false] at z;rcases z with z|z
  ·exact aK lb z
  ·exact aK (cO lb oj) z
end
end ST
namespace L2
open PySem PyProof.Rows
section
variable{X:Cx}
theorem Kq:∀ks:List Int,KV (ks.map λk=>((.inl k:Key),V.bl true)) (ST.F6 ks)
 |[]=>.nil
 |_::ks=>.cons ⟨rfl,rfl⟩ (Kq ks)
theorem XZ(hc:X.calm=true):l6 X (.type "dict") (λxs H Q=>∃a,∃(ts:List Addr) (ks:List Int),xs=[.ref a]/\fS X.K H a (ts.map V.ref)/\ts.length=ks.length/\(∀(i:Nat) t k,ts[i]?=some t->ks[i]?=some k->jT X.K H t [.int k,.bl true])/\ks.length<=10000/\ks.Nodup/\∀p,H p=none->Q (.ref p) (upd H p (.dK (ks.map λk=>(.inl k,.bl true))))):=by
 intro pins s U H xs us Q I r h;obtain⟨a,ts,ks,rfl,hq,hl,ht,hz,nd,q⟩:=h;obtain⟨u,rfl,ru⟩:=vals1 r;cases ru;obtain⟨bt,rv,⟨o,n,ho,jG,NJ,hd⟩,_⟩:=I.list hq;have hlen:bt.length=ts.length:=by rw[<- rv.length];simp
 refine ST.ZC (tp:=λi=>ts.getD i 0) (ks:=ks) (I.ok.hd hc) ho jG NJ hd (by rw[aZ];omega) (λi v hv=>?_) (λj hj=>?_) hz nd λh' tk hS hk ve=>?_
 ·rw[List.getElem?_toArray] at hv;have hi:i<ts.length:=by rw[<- hlen];exact(au.mp hv).1
  obtain⟨u,hu,ru⟩:=rv.get (i:=i) (x:=V.ref ts[i]) (by rw[ag,ae hi];rfl);rw[hv] at hu;cases hu;rw[show ts.getD i 0=ts[i] by simp[List.getD,hi]];exact ru
 ·have sJ:j<ts.length:=by omega
  obtain⟨qD,Mo,p2,_⟩:=I.tuple (ht j ts[j] ks[j] (ae sJ) (ae hj));cases Mo with
  |cons r1 r2 =>
  cases r2 with
  |cons r2 r3 =>
  cases r3;obtain⟨tk,rfl⟩:=r1;cases r2;rw[show ts.getD j 0=ts[j] by simp[List.getD,sJ],show ks.getD j 0=ks[j] by simp[List.getD,hj]];exact⟨tk,p2⟩
 ·exact⟨.ref _,_,I.laid (a:=s.heap.objs.size) (t':=tk) hk (av _) (Jw (by rw[ai];exact aC hz ∅) (dE.mpr (cz (aK I.big))) (Kq ks) hS),rfl,q _ (I.cu.fresh (av _))⟩
theorem Uy{h:Heap}{a:Addr}{ns:List Int}(x:ST.u6 X.prog X.w h a (ST.f7 [] ns)):h.SetOf (intKind X.prog X.w) a (λk=>decide (k∈ns)) (ST.f7 [] ns).length:=by
 obtain⟨o,es,ep,t,ho,hx,hd,nD,hp,hn,hb,hf,hw⟩:=x;refine⟨o,es,ep,t,ho,hx,hd,nD,λk=>?_,hb,hf,by rw[<- hp.length_eq];simp⟩;have mem:k∈ns↔k∈es.toList.map λe=>ST.toI e.2:=by rw[hp.mem_iff,ST.P4];simp
 rw[bD,mem];constructor
 ·intro z;obtain⟨e,he,rfl⟩:=aH.mp z;obtain⟨tk,h1,_⟩:=ST.yJ nD he;refine⟨e,he,?_⟩;rw[h1];exact eT _ _ _ _
 ·rintro⟨e,he,z⟩;obtain⟨tk,h1,_⟩:=ST.yJ nD he;refine aH.mpr ⟨e,he,?_⟩;have h2:(intKind X.prog X.w).is (ST.toI e.2) e.2=true:=by rw[h1];exact eT _ _ _ _
  exact(intKind X.prog X.w).inj _ _ _ h2 z
theorem Xz(hc:X.calm=true):l6 X (.type "set") (λxs H Q=>∃a ns,xs=[.ref a]/\fS X.K H a (ns.map V.int)/\ns.length<600/\∀p,H p=none->Q (.ref p) (upd H p (.set (λk=>decide (k∈ns)) (ST.f7 [] ns).length))):=by
 intro pins s U H xs us Q I r h;obtain⟨a,ns,rfl,hq,hl,q⟩:=h;cases r with
 |cons r rr =>
 cases rr;cases r;obtain⟨bt,rv,p,hz⟩:=I.list hq;have hI:=F2 rv;have hlen:=ST.Z3 hI;refine ST.Kt (ns:=ns) (I.ok.hd hc) (.inl p.isList) (by simpa using hI) (by rw[aZ,hlen];exact ay (Nat.succ_lt_succ hl) ∅) λh' tk hS hk _=>?_;exact⟨.ref _,_,I.laid (a:=s.heap.objs.size) (o:=.set (λk=>decide (k∈ns)) (ST.f7 [] ns).length) (t':=tk) hk (av _) (Uy hS),rfl,q _ (I.cu.fresh (av _))⟩
end
end L2
namespace L2
open PySem PySem.Spec PyProof.Rows
variable{prog:Program}{w:World}{A:Around}{s:Shared}{X:Cx}
theorem V9{P:Program}{k:Key}{u:Value}(h:(l9 P w).is k u=true):RelV (kV k) u:=by
 rw[ZR] at h;rcases t8 h with⟨j,t,e1,e2⟩|⟨x,t,e1,e2⟩
 ·subst e1 e2;exact⟨t,rfl⟩
 ·subst e1 e2;exact⟨t,rfl⟩
theorem KV.at{kvs:List (Key×V)}{vs:List (Key×Value)}(r:KV kvs vs):∀{i:Nat} {k:Key} {x:V},kvs[i]?=some (k,x)->∃u,vs[i]?=some (k,u)/\RelV x u:=by
 unfold KV at r
 induction r with
 |nil=>intro i k x h;simp at h
 |cons h r ih =>
  intro i k x e;cases i with
  |zero =>
   simp at e;subst e;obtain⟨h1,h2⟩:=h;exact ⟨_,by
    show some _=some (k,_);have AZ:k=_:=h1;rw [AZ],h2⟩
  |succ i=>simpa using ih (by simpa using e)
end L2
namespace M
open PySem L2
set_option genInjectivity true in
inductive D where
 |bR|bl (b:Bool)|int (i:Int)|str (x:Str)|ty (n:String)|ref (i:Nat)|tup (l:List D)
set_option genInjectivity true in
inductive O where
 |lst (l:List D)|oP (l:List D)
 |ee (kvs:List (Key×D))
 |ins (c:Str) (fs:List (Str×D))
 |set (S:Int->Bool) (n:Nat)
def O.mut:O->Bool
 |.oP _=>false
 |_=>true
def U1:D->Option Key
 |.int i=>some (.inl i)
 |.str x=>some (.inr x)
 |_=>none
def p0(kvs:List (Key×D))(k:Key):Option D:=(kvs.find? λkv=>decide (kv.1=k)).map (·.2)
def putD(kvs:List (Key×D))(k:Key)(v:D):List (Key×D) :=
 if(kvs.any λkv=>decide (kv.1=k))=true then kvs.map (λkv=>if kv.1=k then(kv.1,v) else kv) else kvs++[(k,v)]
def k8(f:Str)(v:D):List (Str×D)->List (Str×D)
 |[]=>[(f,v)]
 |(g,x)::r=>if g=f then(g,v)::r else(g,x)::k8 f v r
def M7:List D->Str->Option D
 |.tup [.str y,v]::r,x=>if x=y then some v else M7 r x
 |_::_,_=>none
 |[],_=>none
def KY:List D->Option Str
 |[]=>some Str.empty
 |.str x::r=>(KY r).map λy=>x++y
 |_=>none
structure Xn where
 cls:Str
noncomputable abbrev G:=List O
noncomputable abbrev S:=List (Option D)
noncomputable abbrev KD:=D->G->Prop
noncomputable abbrev KX:=Xn->G->Prop
noncomputable abbrev jr:KX:=λ_ _=>False
def DK:Option O->Option (List D)
 |some (.lst l)=>some l
 |some (.oP l)=>some l
 |_=>none
noncomputable abbrev c6(g:G)(a:Nat):Option (List D):=DK g[a]?
def rd(g:G):Nat->D->Option PyData
 |_,.bR=>some .none
 |_,.bl b=>some (.bool b)
 |_,.int i=>some (.int i)
 |_,.str x=>some (.str x)
 |_,.ty _=>none
 |0,.ref _=>none
 |0,.tup _=>none
 |n+1,.ref a=>match c6 g a with
  |some l=>(l.mapM (rd g n)).map .list
  |none=>none
 |n+1,.tup l=>(l.mapM (rd g n)).map .tuple
def Mp(g:G)(l:List D):Option (List PyData):=l.mapM (rd g 6)
def N8(g:G):D->Option (List D)
 |.tup l=>some l
 |.ref a=>c6 g a
 |_=>none
def M8:D->Bool
 |.bR=>true
 |_=>false
def cut{α:Type}(xs:List α)(lo hi:Option Int):List α:=(xs.drop (HT.jM xs.length 0 lo)).take (HT.jM xs.length xs.length hi-HT.jM xs.length 0 lo)
def Ea(g:G)(x:D)(c:String):Option Bool:=match x with
 |.bR=>some (c=="NoneType")
 |.bl _=>some (c=="bool"||c=="int")
 |.int _=>some (c=="int")
 |.str _=>some (c=="str")
 |.tup _=>some (c=="tuple")
 |.ref a=>match g[a]? with
  |some (.lst _)=>some (c=="list")
  |_=>none
 |.ty _=>none
def j6(lo:Int)(n:Nat):List D:=(List.range n).map λ(k:Nat)=>.int (lo+k)
def T3:List D->Option Bool
 |[]=>some true
 |.bl b::r=>(T3 r).map λc=>b&&c
 |_=>none
inductive Pr where
 |bin (op:Operator)|un (op:UnaryOp)|cmp (op:CmpOp)
 |ix|mf (lo hi:Bool)|rev|tup|lst|Z6
 |len|list|tuple|isin|all|max|min|int|str|jf|ku|sset|Mi|kB
 |OF|Bb|nK|fv|Bc|fld (f:Str)
 |append|pop|get|index|join|iadd|clear|zB|extend|any|mX|sum|pZ|nr|kl|nk|Bn|vO|kj (i:Int)
noncomputable abbrev DR:=List D->G->D->G->Prop
def XJ:Operator->Int->Int->Int->Prop
 |.Add,i,j,r=>r=i+j
 |.Sub,i,j,r=>r=i-j
 |.Mult,i,j,r=>rJ i j/\r=i*j
 |.FloorDiv,i,j,r=>DS i j/\r=i / j
 |.Mod,i,j,r=>0<j/\r=i % j
 |.Pow,i,j,r=>oZ i j/\r=i ^ j.toNat
 |.LShift,i,j,r=>oZ i j/\r=i*2 ^ j.toNat
 |.BitAnd,i,j,r=>r=Builtin.bitAnd i j
 |.BitOr,i,j,r=>r=Builtin.bitOr i j
 |_,_,_,_=>False
def Vd(op:Operator):DR:=λxs g d g' =>
 (∃i j r,xs=[.int i,.int j]/\XJ op i j r/\d=.int r/\g'=g) \/
 (op=.Add/\((∃ a b l m,xs=[.ref a,.ref b]/\g[a]?=some (.lst l)/\g[b]?=some (.lst m)/\l.length + m.length <= 100000/\d=.ref g.length/\g'=g ++ [.lst (l ++ m)]) \/
  False))
def Ma(op:UnaryOp):DR:=λxs g d g'=>op=.USub/\∃i,xs=[.int i]/\d=.int (-i)/\g'=g
def vK(g:G)(x y:D)(b:Bool):Prop :=
 (∃i j,x=.int i/\y=.int j/\b=decide (i=j))\/(∃i j,x=.bl i/\y=.bl j/\b=(i==j))\/(∃i j,x=.str i/\y=.str j/\b=decide (i=j)) \/
 ∃p q,rd g 6 x=some p/\rd g 6 y=some q/\p.canLay0=true/\q.canLay0=true/\b=PyData.eqv p q
def inR(g:G)(x y:D)(b:Bool):Prop :=
 (∃a kvs c,y=.ref a/\g[a]?=some (.ee kvs)/\U1 x=some c/\b=(p0 kvs c).isSome) \/
 ∃l ps p,N8 g y=some l/\Mp g l=some ps/\rd g 6 x=some p/\PyData.canLayAll0 ps=true/\p.canLay0=true/\b=(ps.any λq=>PyData.eqv q p)
def Ho(g:G)(x y:D)(b:Bool):Prop:=∃a S n i,y=.ref a/\g[a]?=some (.set S n)/\x=.int i/\b=S i
def GZ(g:G)(x y:D)(b:Bool):CmpOp->Prop
 |.Eq=>vK g x y b
 |.NotEq=>vK g x y (!b)
 |.In=>inR g x y b\/Ho g x y b
 |.NotIn=>inR g x y (!b)\/Ho g x y (!b)
 |.Lt=>∃i j,x=.int i/\y=.int j/\b=decide (i<j)
 |.LtE=>∃i j,x=.int i/\y=.int j/\b=decide (i<=j)
 |.Gt=>∃i j,x=.int i/\y=.int j/\b=decide (j<i)
 |.GtE=>∃i j,x=.int i/\y=.int j/\b=decide (j<=i)
 |.Is=>y=.bR/\b=M8 x
 |.IsNot=>y=.bR/\b=!M8 x
def Vi(op:CmpOp):DR:=λxs g d g'=>∃x y b,xs=[x,y]/\GZ g x y b op/\d=.bl b/\g'=g
def Hr(g:G)(x:D)(b:Bool):Prop :=
 False\/x=.bl b\/(∃i,x=.int i/\b=(i != 0))\/False
def MQ:DR:=λxs g d g'=>g'=g/\((∃x l i,xs=[x,.int i]/\N8 g x=some l/\gs l i=some d)\/(∃a kvs y c,xs=[.ref a,y]/\g[a]?=some (.ee kvs)/\U1 y=some c/\p0 kvs c=some d) \/
 False)
def uy(x:D)(lo hi:Option Int)(g:G)(d:D)(g':G):Prop:=False\/∃a l,x=.ref a/\c6 g a=some l/\d=.ref g.length/\g'=g++[.lst (cut l lo hi)]
def VR:Bool->Bool->DR
 |false,false,xs,g,d,g'=>∃x,xs=[x]/\uy x none none g d g'
 |true,false,xs,g,d,g'=>∃x i,xs=[x,.int i]/\uy x (some i) none g d g'
 |false,true,xs,g,d,g'=>∃x j,xs=[x,.int j]/\uy x none (some j) g d g'
 |true,true,xs,g,d,g'=>∃x i j,xs=[x,.int i,.int j]/\uy x (some i) (some j) g d g'
def VM:DR:=λxs g d g'=>(∃l,xs=[.tup l]/\d=.tup l.reverse/\g'=g)\/∃a l,xs=[.ref a]/\c6 g a=some l/\d=.ref g.length/\g'=g++[.lst l.reverse]
def Wk:DR:=λxs g d g'=>xs.length<=1000/\d=.tup xs/\g'=g
def Vv:DR:=λxs g d g'=>xs.length<=1000/\d=.ref g.length/\g'=g++[.lst xs]
def Ha:List D->List (Key×D)->Option (List (Key×D))
 |[],kvs=>some kvs
 |k::v::r,kvs=>(U1 k).bind λc=>Ha r (putD kvs c v)
 |_,_=>none
def WH:DR:=λxs g d g'=>xs=[]/\d=.ref g.length/\g'=g++[.ee []]
def Vt:DR:=λxs g d g'=>g'=g/\((∃x l,xs=[x]/\N8 g x=some l/\d=.int l.length)\/False\/False)
def kD:Key->D
 |.inl i=>.int i
 |.inr x=>.str x
def Xd:DR:=λxs g d g'=>(∃x l,xs=[x]/\N8 g x=some l/\d=.ref g.length/\g'=g++[.lst l])\/∃a kvs,xs=[.ref a]/\g[a]?=some (.ee kvs)/\kvs.length<=10000/\d=.ref g.length/\g'=g++[.lst ((kvs.map (·.1)).map kD)]
def SJ:DR:=λxs g d g'=>∃x l,xs=[x]/\N8 g x=some l/\d=.tup l/\g'=g
def WS:DR:=λxs g d g'=>∃x c b,xs=[x,.ty c]/\c∈["int","bool","str","tuple","list"]/\Ea g x c=some b/\d=.bl b/\g'=g
def allR:DR:=λxs g d g'=>∃a l b,xs=[.ref a]/\c6 g a=some l/\(T3 l=some b\/∃ns:List Int,l=ns.map .int/\b=ns.all λn=>n != 0)/\d=.bl b/\g'=g
def KH:List D->Option Bool
 |[]=>some false
 |.bl b::r=>(KH r).map λc=>b||c
 |_=>none
def anyR:DR:=λxs g d g'=>∃a l b,xs=[.ref a]/\c6 g a=some l/\KH l=some b/\d=.bl b/\g'=g
def Sj:DR:=λxs g d g'=>False\/∃x,∃ns:List Int,xs=[x]/\N8 g x=some (ns.map .int)/\ns.length<=10000/\d=.ref g.length/\g'=g++[.lst ((O8 ns).map .int)]
def Vw:DR:=λxs g d g'=>g'=g/\((∃i j,xs=[.int i,.int j]/\d=.int (if j>i then j else i))\/∃a,∃(ns:List Int) (M:Int),xs=[.ref a]/\c6 g a=some (ns.map .int)/\M∈ns/\(∀x∈ns,x<=M)/\d=.int M)
def Vx:DR:=λxs g d g'=>g'=g/\((∃i j,xs=[.int i,.int j]/\d=.int (if j<i then j else i))\/False)
def PD:DR:=λxs g d g'=>∃a i S n,xs=[.ref a,.int i]/\g[a]?=some (.set S n)/\n+1<4096/\d=.bR/\g'=g.set a (.set (λk=>S k||decide (k=i)) (if S i then n else n+1))
def Xc:DR:=λxs g d g'=>∃a,∃ns:List Int,xs=[.ref a]/\c6 g a=some (ns.map .int)/\ns.length<600/\d=.ref g.length/\g'=g++[.set (λk=>decide (k∈ns)) (ST.f7 [] ns).length]
def RQ(i:Int):DR:=λxs g d g'=>xs=[]/\d=.ref g.length/\g'=g++[.set (λk=>decide (k=i)) 1]
def VT:DR:=λxs g d g'=>∃a,∃ns:List Int,xs=[.ref a]/\c6 g a=some (ns.map .int)/\d=.int ns.sum/\g'=g
def Xe:DR:=λxs g d g'=>∃a,∃ns:List Int,xs=[.ref a]/\c6 g a=some (ns.map .int)/\ns.length<60/\d=.int (ST.f7 [] ns).length/\g'=g
def WT:DR:=λxs g d g'=>∃i j,xs=[.int i,.int j]/\d=.int (i-j)/\g'=g
def Vr:DR:=λxs g d g'=>g'=g/\((∃i,xs=[.int i]/\d=.int i)\/∃b,xs=[.bl b]/\d=.int (if b then 1 else 0))
def VS:DR:=λxs g d g'=>(∃i,xs=[.int i]/\i.natAbs.log2<1920/\d=.str (toString i)/\g'=g)\/∃x,xs=[.str x]/\d=.str x/\g'=g
def QL:DR:=λxs g d g'=>∃j,xs=[.int j]/\-(2 ^ 62)<=j/\j<=100000/\d=.ref g.length/\g'=g++[.lst (j6 0 j.toNat)]
def QM:DR:=λxs g d g'=>∃i j,xs=[.int i,.int j]/\(-(2 ^ 62)<=i/\i<2 ^ 62/\-(2 ^ 62)<=j/\j<2 ^ 62/\j-i<=100000)/\d=.ref g.length/\g'=g++[.lst (j6 i (j-i).toNat)]
def PK:DR:=λxs g d g'=>∃a ns,xs=[.ref a]/\c6 g a=some (ns.map .int)/\ns.length<600/\d=.ref g.length/\g'=g++[.lst ((n5 ns).map .int)]
def VU:DR:=λxs g d g'=>∃ns ms:List Int,xs=[.tup (ns.map .int),.tup (ms.map .int)]/\(∀k∈ns,ST.Spot k)/\(∀k∈ms,ST.Spot k)/\ns.length+ms.length<50/\d=.ref g.length/\g'=g++[.lst ((n5 (ns++ms)).map .int)]
def Hf(neg:Bool):DR:=λxs g d g'=>∃kvs x,xs=[.tup kvs,.str x]/\d=.bl (xor neg (M7 kvs x).isSome)/\g'=g
def WM:DR:=λxs g d g'=>∃kvs x,xs=[.tup kvs,.str x]/\M7 kvs x=some d/\g'=g
def OL:DR:=λxs g d g'=>g'=g/\((∃i,xs=[.int i]/\i.natAbs.log2<1920/\d=.str (toString i))\/∃x,xs=[.str x]/\x.length<=2000/\d=.str x)
def WL:DR:=λxs g d g'=>∃x,KY xs=some x/\d=.str x/\g'=g
def Vm(f:Str):DR:=λxs g d g'=>∃a c fs,xs=[.ref a]/\g[a]?=some (.ins c fs)/\fs.lookup f=some d/\g'=g
def appendR:DR:=λxs g d g'=>∃a y l,xs=[.ref a,y]/\g[a]?=some (.lst l)/\l.length<100000/\d=.bR/\g'=g.set a (.lst (l++[y]))
def VF:DR:=λxs g d g'=>∃a i l k,xs=[.ref a,.int i]/\g[a]?=some (.lst l)/\-(2 ^ 63)<=i/\i<2 ^ 63/\seqIndex? i l.length=some k/\l[k]?=some d/\g'=g.set a (.lst (l.eraseIdx k))
def Vp:DR:=λxs g d g'=>∃a y z kvs c,xs=[.ref a,y,z]/\g[a]?=some (.ee kvs)/\U1 y=some c/\d=(p0 kvs c).getD z/\g'=g
def KQ:D->Bool
 |.bR=>true
 |.bl _=>true
 |.int _=>true
 |.str _=>true
 |_=>false
def toV:D->V
 |.bl b=>.bl b
 |.int i=>.int i
 |.str x=>.str x
 |_=>.bR
def Qi(l:List D)(y:D)(n:Nat):Prop:=l.all KQ=true/\KQ y=true/\(∃z,l[n]?=some z/\GJ (toV z) (toV y)=true)/\∀(m:Nat) z,m<n->l[m]?=some z->GJ (toV z) (toV y)=false
def Qx:DR:=λxs g d g'=>∃x y l n,xs=[x,y]/\N8 g x=some l/\Qi l y n/\l.length<=100000/\d=.int n/\g'=g
def joinR:DR:=λxs g d g'=>∃sep a ys,xs=[.str sep,.ref a]/\c6 g a=some (ys.map .str)/\To sep ys<=100000/\d=.str (Builtin.Str.glued sep ys)/\g'=g
def WQ:DR:=λxs g d g'=>(∃i j,xs=[.int i,.int j]/\d=.int (i+j)/\g'=g)\/False
def Qp:DR:=λxs g d g'=>∃a l,xs=[.ref a]/\g[a]?=some (.lst l)/\d=.bR/\g'=g.set a (.lst [])
def Pu:DR:=λxs g d g'=>∃a l,xs=[.ref a]/\g[a]?=some (.lst (l++[d]))/\g'=g.set a (.lst l)
def Tc:DR:=λxs g d g'=>∃a b l m,xs=[.ref a,.ref b]/\g[a]?=some (.lst l)/\g[b]?=some (.lst m)/\l.length+m.length<=100000/\d=.bR/\g'=g.set a (.lst (l++m))
def Qs:DR:=λxs g d g'=>False\/∃a,∃ks:List Int,xs=[.ref a]/\c6 g a=some (ks.map λk=>.tup [.int k,.bl true])/\ks.length<=1000/\ks.Nodup/\d=.ref g.length/\g'=g++[.ee (ks.map λk=>(.inl k,.bl true))]
def oo(p:Key×Int×Int):Key×D:=(p.1,.tup [.int p.2.1,.int p.2.2])
def Xb(n:Int)(p:Key×Int×Int):Bool:=!(decide (p.2.1=n)||decide (p.2.2=n))
def WG:DR:=λxs g d g'=>∃a n,∃fs:List (Key×Int×Int),xs=[.ref a,.int n]/\g[a]?=some (.ee (fs.map oo))/\fs.length<1000/\(fs.map (·.1)).Nodup/\d=.ref g.length/\g'=g++[.ee ((fs.filter (Xb n)).map oo)]
def delD(kvs:List (Key×D))(k:Key):List (Key×D):=kvs.filter λkv=>decide (kv.1≠k)
def WI:DR:=λxs g d g'=>∃a y kvs c,xs=[.ref a,y]/\g[a]?=some (.ee kvs)/\U1 y=some c/\p0 kvs c=some d/\g'=g.set a (.ee (delD kvs c))
def PR:Pr->DR
 |.Bn=>WG
 |.vO=>WI
 |.clear=>Qp
 |.any=>anyR
 |.sum=>VT
 |.kl=>PD
 |.nk=>Xc
 |.kj i=>RQ i
 |.pZ=>Xe
 |.nr=>WT
 |.mX=>Sj
 |.extend=>Tc
 |.zB=>Pu
 |.kB=>Qs
 |.bin op=>Vd op
 |.un op=>Ma op
 |.cmp op=>Vi op
 |.ix=>MQ
 |.mf a b=>VR a b
 |.rev=>VM
 |.tup=>Wk
 |.lst=>Vv
 |.Z6=>WH
 |.len=>Vt
 |.list=>Xd
 |.tuple=>SJ
 |.isin=>WS
 |.all=>allR
 |.max=>Vw
 |.min=>Vx
 |.int=>Vr
 |.str=>VS
 |.jf=>QL
 |.ku=>QM
 |.sset=>PK
 |.Mi=>VU
 |.OF=>Hf false
 |.Bb=>Hf true
 |.nK=>WM
 |.fv=>OL
 |.Bc=>WL
 |.fld f=>Vm f
 |.append=>appendR
 |.pop=>VF
 |.get=>Vp
 |.index=>Qx
 |.join=>joinR
 |.iadd=>WQ
def cQ(p:Pr)(xs:List D)(g:G)(Q:KD):Prop:=∃d g',PR p xs g d g'/\Q d g'
def rD(g:G)(x y:D)(k:Bool->Prop):Prop:=∃b,vK g x y b/\k b
def qG(g:G)(x y:D)(k:Bool->Prop):Prop:=∃b,inR g x y b/\k b
def qa(g:G)(x:D)(k:Bool->Prop):Prop:=∃b,Hr g x b/\k b
def VP(x y v:D)(g g':G):Prop:=(∃a i l j,x=.ref a/\y=.int i/\g[a]?=some (.lst l)/\kY l.length i=some j/\g'=g.set a (.lst (l.set j v))) \/
 ∃a kvs c,x=.ref a/\g[a]?=some (.ee kvs)/\U1 y=some c/\kvs.length<100000/\g'=g.set a (.ee (putD kvs c v))
def T4(x y v:D)(g:G)(k:G->Prop):Prop:=∃g',VP x y v g g'/\k g'
def Lg(f:Str)(cs:List Str)(x v:D)(g g':G):Prop:=∃a c fs,x=.ref a/\g[a]?=some (.ins c fs)/\c∈cs/\fs.length<100/\g'=g.set a (.ins c (k8 f v fs))
def wg(f:Str)(cs:List Str)(x v:D)(g:G)(k:G->Prop):Prop:=∃g',Lg f cs x v g g'/\k g'
def mM:Pr->D->G->Prop
 |.get,x,g=>∃a kvs,x=.ref a/\g[a]?=some (.ee kvs)
 |.vO,x,g=>∃a kvs,x=.ref a/\g[a]?=some (.ee kvs)
 |.join,x,g=>∃y,x=.str y
 |.kl,x,g=>∃a S n,x=.ref a/\g[a]?=some (.set S n)
 |.index,x,g=>∃a l,x=.ref a/\c6 g a=some l
 |_,x,g=>∃a l,x=.ref a/\c6 g a=some l
inductive IK where
 |fix (l:List D)|lst (a:Nat)|oW (a:Nat)|sv (a n:Nat)
def IK.at:IK->Nat->G->Option (Option D)
 |.fix l,i,_=>some l[i]?
 |.lst a,i,g=>match c6 g a with
  |some l=>some l[i]?
  |none=>none
 |.oW a,i,g=>match c6 g a with
  |some l=>some (l[i]?.map λd=>.tup [.int i,d])
  |none=>none
 |.sv a n,i,g=>match c6 g a with
  |some l=>if l.length=n then some (if i<n then l[n-1-i]? else none) else none
  |none=>none
inductive MT where
 |one (i:Nat)|many (is:List Nat)
def M9:List Nat->List D->S->Option S
 |[],[],U=>some U
 |i::is,d::ds,U=>M9 is ds (U.set i (some d))
 |_,_,_=>none
def jK(t:MT)(x:D)(U:S)(k:S->Prop):Prop:=match t with
 |.one i=>k (U.set i (some x))
 |.many is=>∃l cc,x=.tup l/\M9 is l U=some cc/\k cc
set_option genInjectivity false in
set_option genSizeOf false in
inductive ME where
 |var (i:Nat)|lit (d:D)
 |nil|cons (a b:ME)|prim (p:Pr) (es:ME)|eX (p:Pr) (o es:ME)|vP (es:ME)
 |chain (o1 o2:CmpOp) (a b c:ME)
 |dA (a b:ME)|jd (a b:ME)|dQ (a:ME)|ite (c a b:ME)
 |call (f:Nat) (es:ME)|make (c:Str) (f:Nat) (es:ME)|kq (m:Str) (cs:List (Str×Nat)) (o es:ME)
 |comp (c8:List Nat) (n:Nat) (tg:MT) (it cond elt:ME)|hJ (c8:List Nat) (n:Nat) (tg:MT) (it cond elt:ME)|km (c8:List Nat) (n:Nat) (tg:MT) (it cond elt:ME)
 |eY (e:ME)|eO (a:ME)|kx (a b:ME)|kZ (e:ME)|nX (e:ME)|fG (e:ME)|no
noncomputable abbrev fK:=Nat->List D->G->KD->KX->Prop
def E1(U:S)(c8:List Nat)(n:Nat):S:=c8.map (λj=>(U[j]?).join)++List.replicate (n-c8.length) none
def turns(k:IK)(U:S)(g:G)(fin:S->G->Prop)(turn:D->(S->G->Prop)->S->G->Prop):Prop :=
 ∃W:Nat->Nat->S->G->Prop,(∃m,W 0 m U g)/\∀i m U g,W i m U g->(k.at i g=some none/\fin U g)\/∃x,k.at i g=some (some x)/\∃N2:S->G->Prop,(∀cc g',N2 cc g'->∃m',m'<m/\W (i+1) m' cc g')/\turn x N2 U g
def yG(k:IK)(U:S)(g:G)(fin:List D->G->Prop)(turn:D->(Option D->S->G->Prop)->S->G->Prop):Prop :=
 ∃W:Nat->Nat->List D->S->G->Prop,(∃m,W 0 m [] U g)/\∀i m ys U g,W i m ys U g->(k.at i g=some none/\fin ys g) \/
  ∃x,k.at i g=some (some x)/\ys.length<100000/\turn x (λy cc g'=>∃m',m'<m/\W (i+1) m' (ys++y.toList) cc g') U g
def BB(k:IK)(U:S)(g:G)(fin:List Int->G->Prop)(turn:D->(Option Int->S->G->Prop)->S->G->Prop):Prop :=
 ∃W:Nat->Nat->List Int->S->G->Prop,(∃m,W 0 m [] U g)/\∀i m ys U g,W i m ys U g->(k.at i g=some none/\ys.length<60/\fin ys g) \/
  ∃x,k.at i g=some (some x)/\ys.length<60/\turn x (λy cc g'=>∃m',m'<m/\W (i+1) m' (ys++y.toList) cc g') U g
mutual
noncomputable def bp(P:fK):ME->S->G->KD->KX->Prop
 |.var i,U,g,Q,_=>∃d,U[i]?=some (some d)/\Q d g
 |.lit d,_,g,Q,_=>Q d g
 |.prim p es,U,g,Q,E=>gT P es U g (λxs g1=>cQ p xs g1 Q) E
 |.eX p o es,U,g,Q,E=>bp P o U g (λx g1=>mM p x g1/\gT P es U g1 (λxs g2=>cQ p (x::xs) g2 Q) E) E
 |.vP es,U,g,Q,E=>gT P es U (g++[.ee []]) (λxs g1=>∃kvs,Ha xs []=some kvs/\xs.length<=30/\g1[g.length]?=some (.ee [])/\Q (.ref g.length) (g1.set g.length (.ee kvs))) E
 |.chain o1 o2 a b c,U,g,Q,E=>bp P a U g (λx g1=>bp P b U g1 (λy g2=>cQ (.cmp o1) [x,y] g2 λz g3=>∃t,z=.bl t/\if t=true then bp P c U g3 (λw g4=>cQ (.cmp o2) [y,w] g4 Q) E else Q (.bl false) g3) E) E
 |.dA a b,U,g,Q,E=>bp P a U g (λx g1=>∃t,x=.bl t/\if t=true then bp P b U g1 Q E else Q (.bl false) g1) E
 |.jd a b,U,g,Q,E=>bp P a U g (λx g1=>∃t,x=.bl t/\if t=true then Q (.bl true) g1 else bp P b U g1 Q E) E
 |.dQ a,U,g,Q,E=>bp P a U g (λx g1=>∃t,x=.bl t/\Q (.bl (!t)) g1) E
 |.ite c a b,U,g,Q,E=>eA P c U g (λt g1=>if t=true then bp P a U g1 Q E else bp P b U g1 Q E) E
 |.call f es,U,g,Q,E=>gT P es U g (λxs g1=>P f xs g1 Q E) E
 |.make c f es,U,g,Q,E=>gT P es U g (λxs g1=>P f (.ref g1.length::xs) (g1++[.ins c []]) (λd g2=>d=.bR/\Q (.ref g1.length) g2) E) E
 |.kq m cs o es,U,g,Q,E=>bp P o U g (λx g1=>∃a c fs f,x=.ref a/\g1[a]?=some (.ins c fs)/\fs.lookup m=none/\cs.lookup c=some f/\gT P es U g1 (λxs g2=>P f (x::xs) g2 Q E) E) E
 |.comp c8 n tg it cond elt,U,g,Q,E=>gS P it U g (λk g1=>yG k (E1 U c8 n) g1 (λys g=>Q (.ref g.length) (g++[.lst ys])) λx N U g=>jK tg x U λcH=>eA P cond cH g (λb g3=>if b=true then bp P elt cH g3 (λy g4=>N (some y) cH g4) jr else N none cH g3) jr) E
 |.km c8 n tg it cond elt,U,g,Q,E=>gS P it U g (λk g1=>yG k (E1 U c8 n) g1 (λys g=>Q (.ref g.length) (g++[.lst ys])) λx N U g=>jK tg x U λcH=>eA P cond cH g (λb g3=>if b=true then bp P elt cH g3 (λy g4=>N (some y) cH g4) E else N none cH g3) jr) E
 |.hJ c8 n tg it cond elt,U,g,Q,E=>gS P it U g (λk g1=>BB k (E1 U c8 n) g1 (λys g=>Q (.ref g.length) (g++[.lst ((n5 ys).map .int)])) λx N U g=>jK tg x U λcH=>eA P cond cH g (λb g3=>if b=true then bp P elt cH g3 (λy g4=>∃j,y=.int j/\N (some j) cH g4) jr else N none cH g3) jr) E
 |.nil,_,_,_,_=>False
 |.cons _ _,_,_,_,_=>False
 |.eY _,_,_,_,_=>False
 |.eO _,_,_,_,_=>False
 |.kx _ _,_,_,_,_=>False
 |.kZ _,_,_,_,_=>False
 |.nX _,_,_,_,_=>False
 |.fG _,_,_,_,_=>False
 |.no,_,_,_,_=>False
noncomputable def gT(P:fK):ME->S->G->(List D->G->Prop)->KX->Prop
 |.nil,_,g,Q,_=>Q [] g
 |.cons a b,U,g,Q,E=>bp P a U g (λx g1=>gT P b U g1 (λxs g2=>Q (x::xs) g2) E) E
 |_,_,_,_,_=>False
noncomputable def eA(P:fK):ME->S->G->(Bool->G->Prop)->KX->Prop
 |.dA a b,U,g,Q,E=>eA P a U g (λt g1=>if t=true then eA P b U g1 Q E else Q false g1) E
 |.jd a b,U,g,Q,E=>eA P a U g (λt g1=>if t=true then Q true g1 else eA P b U g1 Q E) E
 |.dQ a,U,g,Q,E=>eA P a U g (λt g1=>Q (!t) g1) E
 |.no,_,g,Q,_=>Q true g
 |.fG e,U,g,Q,E=>bp P e U g (λx g1=>qa g1 x λb=>Q b g1) E
 |_,_,_,_,_=>False
noncomputable def gS(P:fK):ME->S->G->(IK->G->Prop)->KX->Prop
 |.eY e,U,g,R,E=>bp P e U g (λx g1=>(∃l,x=.tup l/\R (.fix l) g1)\/∃a l,x=.ref a/\c6 g1 a=some l/\R (.lst a) g1) E
 |.eO a,U,g,R,E=>bp P a U g (λx g1=>∃j:Int,x=.int j/\-(2 ^ 62)<=j/\j<2 ^ 62/\R (.fix (j6 0 j.toNat)) g1) E
 |.kx a b,U,g,R,E=>bp P a U g (λx g1=>bp P b U g1 (λy g2=>∃i j:Int,x=.int i/\y=.int j/\(-(2 ^ 62)<=i/\i<2 ^ 62/\-(2 ^ 62)<=j/\j<2 ^ 62)/\R (.fix (j6 i (j-i).toNat)) g2) E) E
 |.kZ e,U,g,R,E=>bp P e U g (λx g1=>∃a l,x=.ref a/\c6 g1 a=some l/\R (.oW a) g1) E
 |.nX e,U,g,R,E=>bp P e U g (λx g1=>∃a l,x=.ref a/\c6 g1 a=some l/\R (.sv a l.length) g1) E
 |_,_,_,_,_=>False
end
set_option genInjectivity false in
set_option genSizeOf false in
inductive MS where
 |pass|seq (a b:MS)|expr (e:ME)|set (i:Nat) (e:ME)|lX (t:MT) (e:ME)|eM (o i v:ME)|iD (f:Str) (cs:List Str) (o v:ME)
 |wa (f:Str) (cs:List Str) (o v:ME)|kC (i:Nat) (p:Pr) (v:ME)|xf (o1 i1 o2 i2 e:ME)
 |ifs (c:ME) (a b:MS)|dM (t:MT) (it:ME) (b:MS)|ki (c:ME) (b:MS)|ret (e:ME)|qp|brk|cont
 |raise (x:Str) (es:ME)|uq (b:MS) (hs:List (Str×ME))|uk (e:ME) (y:Str) (b:MS)
structure Ends where
 nx:S->G->Prop
 rt:KD
 bk:S->G->Prop:=λ_ _=>False
 ct:S->G->Prop:=λ_ _=>False
def ui(P:fK)(N:Ends)(U:S)(E:KX):List (Str×ME)->KX
 |[],x,g=>E x g
 |(y,e)::r,x,g=>if x.cls=y\/y="MintError" then bp P e U g N.rt jr else ui P N U E r x g
def wpS(P:fK):MS->Ends->S->G->KX->Prop
 |.pass,N,U,g,_=>N.nx U g
 |.seq a b,N,U,g,E=>wpS P a { N with nx:=λiM g1=>wpS P b N iM g1 E } U g E
 |.expr e,N,U,g,E=>bp P e U g (λ_ g1=>N.nx U g1) E
 |.set i e,N,U,g,E=>bp P e U g (λx g1=>N.nx (U.set i (some x)) g1) E
 |.lX t e,N,U,g,E=>bp P e U g (λx g1=>jK t x U λiM=>N.nx iM g1) E
 |.eM o i v,N,U,g,E=>bp P v U g (λx g1=>bp P o U g1 (λy g2=>bp P i U g2 (λz g3=>T4 y z x g3 λg4=>N.nx U g4) E) E) E
 |.iD f cs o v,N,U,g,E=>bp P v U g (λx g1=>bp P o U g1 (λy g2=>wg f cs y x g2 λg3=>N.nx U g3) E) E
 |.wa f cs o v,N,U,g,E=>bp P o U g (λy g1=>∃a c fs x,y=.ref a/\g1[a]?=some (.ins c fs)/\c∈cs/\fs.lookup f=some x/\bp P v U g1 (λz g3=>cQ .iadd [x,z] g3 λw g4=>∃rA,g4[a]?=some (.ins c rA)/\rA.length<100/\N.nx U (g4.set a (.ins c (k8 f w rA)))) E) E
 |.xf o1 i1 o2 i2 e,N,U,g,E=>bp P e U g (λx g1=>∃u v,x=.tup [u,v]/\bp P o1 U g1 (λy1 g2=>bp P i1 U g2 (λz1 g3=>T4 y1 z1 u g3 λg4=>bp P o2 U g4 (λy2 g5=>bp P i2 U g5 (λz2 g6=>T4 y2 z2 v g6 λg7=>N.nx U g7) E) E) E) E) E
 |.kC i p v,N,U,g,E=>∃x,U[i]?=some (some x)/\bp P v U g (λz g1=>cQ p [x,z] g1 λw g2=>N.nx (U.set i (some w)) g2) E
 |.ifs c a b,N,U,g,E=>eA P c U g (λt g1=>if t=true then wpS P a N U g1 E else wpS P b N U g1 E) E
 |.dM t it b,N,U,g,E=>gS P it U g (λk g1=>turns k U g1 N.nx λx N2 U g=>jK t x U λcH=>wpS P b { N with nx:=N2,ct:=N2,bk:=N.nx } cH g E) E
 |.ki c b,N,U,g,E=>∃W:Nat->S->G->Prop,(∃m,W m U g)/\∀m U g,W m U g->eA P c U g (λt g1=>if t=true then ∃N2:S->G->Prop,(∀cc g',N2 cc g'->∃m',m'<m/\W m' cc g')/\wpS P b { N with nx:=N2,ct:=N2,bk:=N.nx } U g1 E else N.nx U g1) E
 |.ret e,N,U,g,E=>bp P e U g N.rt E
 |.qp,N,_,g,_=>N.rt .bR g
 |.brk,N,U,g,_=>N.bk U g
 |.cont,N,U,g,_=>N.ct U g
 |.raise x es,_,U,g,E=>gT P es U g (λvs g1=>vs.length<=1000/\E ⟨x⟩ g1) E
 |.uq b hs,N,U,g,E=>wpS P b N U g (ui P N (U.map λ_=>none) E hs)
 |.uk e y b,N,U,g,E=>bp P e U g (λ_ g1=>N.nx U g1) λx g1=>if x.cls=y\/y="MintError" then wpS P b N U g1 jr else E x g1
structure aY where
 ar:Nat
 n:Nat
 body:MS
def c7(m:aY)(ds:List D):S:=ds.map some++List.replicate (m.n-ds.length) none
def b8(T:Nat->Option aY):Nat->fK
 |0,_,_,_,_,_=>False
 |k+1,f,ds,g,Q,E=>∃m,T f=some m/\ds.length=m.ar/\wpS (b8 T k) m.body ⟨λ_ g'=>Q .bR g',Q,λ_ _=>False,λ_ _=>False⟩ (c7 m ds) g E
end M
namespace M
open PySem L2
variable{g:G}{K:PySem.W.Frag}{H:Hp}{a p:Addr}{vs:List V}{i:Nat}{o:O}{u:HO}{l:List D}
theorem u5{p xs}{Q Q':KD}(h:∀d g,Q d g->Q' d g)(q:cQ p xs g Q):cQ p xs g Q':=by
 obtain⟨d,g',a,b⟩:=q;exact⟨d,g',a,h _ _ b⟩
theorem Zu{x}{k k':Bool->Prop}(h:∀b,k b->k' b)(q:qa g x k):qa g x k':=by
 obtain⟨b,a,z⟩:=q;exact⟨b,a,h _ z⟩
theorem R7{x y v}{k k':G->Prop}(h:∀g,k g->k' g)(q:T4 x y v g k):T4 x y v g k':=by
 obtain⟨b,a,z⟩:=q;exact⟨b,a,h _ z⟩
theorem ZY{f cs x v}{k k':G->Prop}(h:∀g,k g->k' g)(q:wg f cs x v g k):wg f cs x v g k':=by
 obtain⟨b,a,z⟩:=q;exact⟨b,a,h _ z⟩
theorem w5{t x U}{k k':S->Prop}(h:∀U,k U->k' U)(q:jK t x U k):jK t x U k':=by
 cases t with
 |one i=>exact h _ q
 |many is=>obtain⟨l,cc,a,b,c⟩:=q;exact⟨l,cc,a,b,h _ c⟩
theorem aK0{k U g}{fin kA:S->G->Prop}{turn iu:D->(S->G->Prop)->S->G->Prop}(h:∀U g,fin U g->kA U g)(h2:∀x N U g,turn x N U g->iu x N U g)(q:turns k U g fin turn):turns k U g kA iu:=by
 obtain⟨W,w0,q⟩:=q;refine⟨W,w0,λi m U g w=>?_⟩;rcases q i m U g w with⟨a,b⟩|⟨x,a,N2,b,c⟩
 ·exact .inl ⟨a,h _ _ b⟩
 ·exact .inr ⟨x,a,N2,b,h2 _ _ _ _ c⟩
theorem Ji{k U g}{fin kA:List D->G->Prop}{turn iu:D->(Option D->S->G->Prop)->S->G->Prop}(h:∀ys g,fin ys g->kA ys g)(h2:∀x N U g,turn x N U g->iu x N U g)(q:yG k U g fin turn):yG k U g kA iu:=by
 obtain⟨W,w0,q⟩:=q;refine⟨W,w0,λi m ys U g w=>?_⟩;rcases q i m ys U g w with⟨a,b⟩|⟨x,a,b,c⟩
 ·exact .inl ⟨a,h _ _ b⟩
 ·exact .inr ⟨x,a,b,h2 _ _ _ _ c⟩
theorem aE7{k U g}{fin kA:List Int->G->Prop}{turn iu:D->(Option Int->S->G->Prop)->S->G->Prop}(h:∀ys g,fin ys g->kA ys g)(h2:∀x N U g,turn x N U g->iu x N U g)(q:BB k U g fin turn):BB k U g kA iu:=by
 obtain⟨W,w0,q⟩:=q;refine⟨W,w0,λi m ys U g w=>?_⟩;rcases q i m ys U g w with⟨a,b,c⟩|⟨x,a,b,c⟩
 ·exact .inl ⟨a,b,h _ _ c⟩
 ·exact .inr ⟨x,a,b,h2 _ _ _ _ c⟩
theorem E4{t:Bool}{A B A' B':Prop}(h1:A->A')(h2:B->B')(q:if t=true then A else B):if t=true then A' else B':=by
 cases t
 ·exact h2 q
 ·exact h1 q
def i8(P:fK):Prop:=∀f xs g Q Q' E E',(∀d g,Q d g->Q' d g)->(∀x g,E x g->E' x g)->P f xs g Q E->P f xs g Q' E'
mutual
theorem b9{P:fK}(hP:i8 P):∀(e:ME) (U:S) (g:G) (Q Q':KD) (E E':KX),(∀d g,Q d g->Q' d g)->(∀x g,E x g->E' x g)->bp P e U g Q E->bp P e U g Q' E'
 |.var i,U,g,Q,Q',E,E',h,hx,q=>by
  obtain⟨d,a,b⟩:=q;exact⟨d,a,h _ _ b⟩
 |.lit d,U,g,Q,Q',E,E',h,hx,q=>by exact h _ _ q
 |.prim p es,U,g,Q,Q',E,E',h,hx,q=>by
  exact C3 hP es _ _ _ _ _ _ (λxs g1 q=>u5 h q) hx q
 |.eX p o es,U,g,Q,Q',E,E',h,hx,q=>by
  exact b9 hP o _ _ _ _ _ _ (λx g1 q=>⟨q.1,C3 hP es _ _ _ _ _ _ (λxs g2 q=>u5 h q) hx q.2⟩) hx q
 |.vP es,U,g,Q,Q',E,E',h,hx,q=>by
  exact C3 hP es _ _ _ _ _ _ (λxs g1 ⟨kvs,a,b,c,d⟩=>⟨kvs,a,b,c,h _ _ d⟩) hx q
 |.chain o1 o2 a b c,U,g,Q,Q',E,E',h,hx,q=>by
  refine b9 hP a _ _ _ _ _ _ (λx g1 q=>b9 hP b _ _ _ _ _ _ (λy g2 q=>u5 (λz g3 q=>?_) q) hx q) hx q;obtain⟨t,e,q⟩:=q;exact⟨t,e,E4 (λq=>b9 hP c _ _ _ _ _ _ (λw g4 q=>u5 h q) hx q) (h _ _) q⟩
 |.dA a b,U,g,Q,Q',E,E',h,hx,q=>by
  refine b9 hP a _ _ _ _ _ _ (λx g1 q=>?_) hx q;obtain⟨t,e,q⟩:=q;exact⟨t,e,E4 (λq=>b9 hP b _ _ _ _ _ _ h hx q) (h _ _) q⟩
 |.jd a b,U,g,Q,Q',E,E',h,hx,q=>by
  refine b9 hP a _ _ _ _ _ _ (λx g1 q=>?_) hx q;obtain⟨t,e,q⟩:=q;exact⟨t,e,E4 (h _ _) (λq=>b9 hP b _ _ _ _ _ _ h hx q) q⟩
 |.dQ a,U,g,Q,Q',E,E',h,hx,q=>by
  refine b9 hP a _ _ _ _ _ _ (λx g1 q=>?_) hx q;obtain⟨t,e,q⟩:=q;exact⟨t,e,h _ _ q⟩
 |.ite c a b,U,g,Q,Q',E,E',h,hx,q=>by
  exact q8 hP c _ _ _ _ _ _ (λt g1 q=>E4 (λq=>b9 hP a _ _ _ _ _ _ h hx q) (λq=>b9 hP b _ _ _ _ _ _ h hx q) q) hx q
 |.call f es,U,g,Q,Q',E,E',h,hx,q=>by
  exact C3 hP es _ _ _ _ _ _ (λxs g1 q=>hP _ _ _ _ _ _ _ h hx q) hx q
 |.make c f es,U,g,Q,Q',E,E',h,hx,q=>by
  exact C3 hP es _ _ _ _ _ _ (λxs g1 q=>hP _ _ _ _ _ _ _ (λd g2 q=>⟨q.1,h _ _ q.2⟩) hx q) hx q
 |.kq m cs o es,U,g,Q,Q',E,E',h,hx,q=>by
  refine b9 hP o _ _ _ _ _ _ (λx g1 q=>?_) hx q;obtain⟨a,c,fs,f,q1,q2,q3,q4,q⟩:=q;exact⟨a,c,fs,f,q1,q2,q3,q4,C3 hP es _ _ _ _ _ _ (λxs g2 q=>hP _ _ _ _ _ _ _ h hx q) hx q⟩
 |.comp c8 n tg it cond elt,U,g,Q,Q',E,E',h,hx,q=>by
  exact z9 hP it _ _ _ _ _ _ (λk g1 q=>Ji (λys g q=>h _ _ q) (λ_ _ _ _ q=>q) q) hx q
 |.km c8 n tg it cond elt,U,g,Q,Q',E,E',h,hx,q=>by
  exact z9 hP it _ _ _ _ _ _ (λk g1 q=>Ji (λys g q=>h _ _ q) (λx N U g q=>w5 (λcH q=>q8 hP cond _ _ _ _ _ _ (λb g3 q=>by
   cases b
   ·exact q
   ·exact b9 hP elt _ _ _ _ _ _ (λ_ _ z=>z) hx q) (λ_ _ z=>z) q) q) q) hx q
 |.hJ c8 n tg it cond elt,U,g,Q,Q',E,E',h,hx,q=>by
  exact z9 hP it _ _ _ _ _ _ (λk g1 q=>aE7 (λys g q=>h _ _ q) (λ_ _ _ _ q=>q) q) hx q
 |.nil,U,g,Q,Q',E,E',h,hx,q=>(show False from q).elim
 |.cons _ _,U,g,Q,Q',E,E',h,hx,q=>(show False from q).elim
 |.eY _,U,g,Q,Q',E,E',h,hx,q=>(show False from q).elim
 |.eO _,U,g,Q,Q',E,E',h,hx,q=>(show False from q).elim
 |.kx _ _,U,g,Q,Q',E,E',h,hx,q=>(show False from q).elim
 |.kZ _,U,g,Q,Q',E,E',h,hx,q|.nX _,U,g,Q,Q',E,E',h,hx,q=>(show False from q).elim
 |.fG _,U,g,Q,Q',E,E',h,hx,q=>(show False from q).elim
 |.no,U,g,Q,Q',E,E',h,hx,q=>(show False from q).elim
theorem C3{P:fK}(hP:i8 P):∀(e:ME) (U:S) (g:G) (Q Q':List D->G->Prop) (E E':KX),(∀d g,Q d g->Q' d g)->(∀x g,E x g->E' x g)->gT P e U g Q E->gT P e U g Q' E'
 |.nil,U,g,Q,Q',E,E',h,hx,q=>by exact h _ _ q
 |.cons a b,U,g,Q,Q',E,E',h,hx,q=>by
  exact b9 hP a _ _ _ _ _ _ (λx g1 q=>C3 hP b _ _ _ _ _ _ (λxs g2 q=>h _ _ q) hx q) hx q
 |.var _,U,g,Q,Q',E,E',h,hx,q|.lit _,U,g,Q,Q',E,E',h,hx,q|.prim _ _,U,g,Q,Q',E,E',h,hx,q|.eX _ _ _,U,g,Q,Q',E,E',h,hx,q|.vP _,U,g,Q,Q',E,E',h,hx,q|.chain _ _ _ _ _,U,g,Q,Q',E,E',h,hx,q|.dA _ _,U,g,Q,Q',E,E',h,hx,q|.jd _ _,U,g,Q,Q',E,E',h,hx,q|.dQ _,U,g,Q,Q',E,E',h,hx,q|.ite _ _ _,U,g,Q,Q',E,E',h,hx,q|.call _ _,U,g,Q,Q',E,E',h,hx,q
 |.make _ _ _,U,g,Q,Q',E,E',h,hx,q|.kq _ _ _ _,U,g,Q,Q',E,E',h,hx,q|.comp _ _ _ _ _ _,U,g,Q,Q',E,E',h,hx,q|.hJ _ _ _ _ _ _,U,g,Q,Q',E,E',h,hx,q|.km _ _ _ _ _ _,U,g,Q,Q',E,E',h,hx,q|.eY _,U,g,Q,Q',E,E',h,hx,q|.eO _,U,g,Q,Q',E,E',h,hx,q|.kx _ _,U,g,Q,Q',E,E',h,hx,q|.kZ _,U,g,Q,Q',E,E',h,hx,q|.nX _,U,g,Q,Q',E,E',h,hx,q|.fG _,U,g,Q,Q',E,E',h,hx,q|.no,U,g,Q,Q',E,E',h,hx,q=>(show False from q).elim
theorem q8{P:fK}(hP:i8 P):∀(e:ME) (U:S) (g:G) (Q Q':Bool->G->Prop) (E E':KX),(∀d g,Q d g->Q' d g)->(∀x g,E x g->E' x g)->eA P e U g Q E->eA P e U g Q' E'
 |.dA a b,U,g,Q,Q',E,E',h,hx,q=>by
  exact q8 hP a _ _ _ _ _ _ (λt g1 q=>E4 (λq=>q8 hP b _ _ _ _ _ _ h hx q) (h _ _) q) hx q
 |.jd a b,U,g,Q,Q',E,E',h,hx,q=>by
  exact q8 hP a _ _ _ _ _ _ (λt g1 q=>E4 (h _ _) (λq=>q8 hP b _ _ _ _ _ _ h hx q) q) hx q
 |.dQ a,U,g,Q,Q',E,E',h,hx,q=>by exact q8 hP a _ _ _ _ _ _ (λt g1 q=>h _ _ q) hx q
 |.no,U,g,Q,Q',E,E',h,hx,q=>by exact h _ _ q
 |.fG e,U,g,Q,Q',E,E',h,hx,q=>by exact b9 hP e _ _ _ _ _ _ (λx g1 q=>Zu (λb q=>h _ _ q) q) hx q
 |.var _,U,g,Q,Q',E,E',h,hx,q|.lit _,U,g,Q,Q',E,E',h,hx,q|.prim _ _,U,g,Q,Q',E,E',h,hx,q|.eX _ _ _,U,g,Q,Q',E,E',h,hx,q|.vP _,U,g,Q,Q',E,E',h,hx,q|.chain _ _ _ _ _,U,g,Q,Q',E,E',h,hx,q|.ite _ _ _,U,g,Q,Q',E,E',h,hx,q|.call _ _,U,g,Q,Q',E,E',h,hx,q|.nil,U,g,Q,Q',E,E',h,hx,q|.cons _ _,U,g,Q,Q',E,E',h,hx,q
 |.make _ _ _,U,g,Q,Q',E,E',h,hx,q|.kq _ _ _ _,U,g,Q,Q',E,E',h,hx,q|.comp _ _ _ _ _ _,U,g,Q,Q',E,E',h,hx,q|.hJ _ _ _ _ _ _,U,g,Q,Q',E,E',h,hx,q|.km _ _ _ _ _ _,U,g,Q,Q',E,E',h,hx,q|.eY _,U,g,Q,Q',E,E',h,hx,q|.eO _,U,g,Q,Q',E,E',h,hx,q|.kx _ _,U,g,Q,Q',E,E',h,hx,q|.kZ _,U,g,Q,Q',E,E',h,hx,q|.nX _,U,g,Q,Q',E,E',h,hx,q=>(show False from q).elim
theorem z9{P:fK}(hP:i8 P):∀(e:ME) (U:S) (g:G) (Q Q':IK->G->Prop) (E E':KX),(∀d g,Q d g->Q' d g)->(∀x g,E x g->E' x g)->gS P e U g Q E->gS P e U g Q' E'
 |.eY e,U,g,Q,Q',E,E',h,hx,q=>by
  exact b9 hP e _ _ _ _ _ _ (λx g1 q=>q.imp (λ⟨l,a,b⟩=>⟨l,a,h _ _ b⟩) λ⟨i,l,a,b,c⟩=>⟨i,l,a,b,h _ _ c⟩) hx q
 |.eO a,U,g,Q,Q',E,E',h,hx,q=>by
  exact b9 hP a _ _ _ _ _ _ (λx g1 ⟨j,a,b,c,d⟩=>⟨j,a,b,c,h _ _ d⟩) hx q
 |.kx a b,U,g,Q,Q',E,E',h,hx,q=>by
  exact b9 hP a _ _ _ _ _ _ (λx g1 q=>b9 hP b _ _ _ _ _ _ (λy g2 ⟨i,j,a,b,c,d⟩=>⟨i,j,a,b,c,h _ _ d⟩) hx q) hx q
 |.kZ e,U,g,Q,Q',E,E',h,hx,q=>by
  exact b9 hP e _ _ _ _ _ _ (λx g1 ⟨i,l,a,b,c⟩=>⟨i,l,a,b,h _ _ c⟩) hx q
 |.nX e,U,g,Q,Q',E,E',h,hx,q=>by
  exact b9 hP e _ _ _ _ _ _ (λx g1 ⟨i,l,a,b,c⟩=>⟨i,l,a,b,h _ _ c⟩) hx q
 |.var _,U,g,Q,Q',E,E',h,hx,q|.lit _,U,g,Q,Q',E,E',h,hx,q|.prim _ _,U,g,Q,Q',E,E',h,hx,q|.eX _ _ _,U,g,Q,Q',E,E',h,hx,q|.vP _,U,g,Q,Q',E,E',h,hx,q|.chain _ _ _ _ _,U,g,Q,Q',E,E',h,hx,q|.ite _ _ _,U,g,Q,Q',E,E',h,hx,q|.call _ _,U,g,Q,Q',E,E',h,hx,q|.nil,U,g,Q,Q',E,E',h,hx,q|.cons _ _,U,g,Q,Q',E,E',h,hx,q
 |.dA _ _,U,g,Q,Q',E,E',h,hx,q|.jd _ _,U,g,Q,Q',E,E',h,hx,q|.dQ _,U,g,Q,Q',E,E',h,hx,q|.fG _,U,g,Q,Q',E,E',h,hx,q|.no,U,g,Q,Q',E,E',h,hx,q
 |.make _ _ _,U,g,Q,Q',E,E',h,hx,q|.kq _ _ _ _,U,g,Q,Q',E,E',h,hx,q|.comp _ _ _ _ _ _,U,g,Q,Q',E,E',h,hx,q|.hJ _ _ _ _ _ _,U,g,Q,Q',E,E',h,hx,q|.km _ _ _ _ _ _,U,g,Q,Q',E,E',h,hx,q=>(show False from q).elim
end
structure Ends.le(N N':Ends):Prop where
 nx:∀U g,N.nx U g->N'.nx U g
 rt:∀d g,N.rt d g->N'.rt d g
 bk:∀U g,N.bk U g->N'.bk U g
 ct:∀U g,N.ct U g->N'.ct U g
theorem HL{P:fK}(hP:i8 P){N N':Ends}{E E':KX}(h:N.le N')(hx:∀x g,E x g->E' x g){U:S}:∀(hs:List (Str×ME)) x g,ui P N U E hs x g->ui P N' U E' hs x g
 |[],x,g,q=>hx x g q
 |(y,e)::r,x,g,q=>by
  unfold ui at q ⊢;split
  ·rename_i hh;rw[aJ hh] at q;exact b9 hP e _ _ _ _ _ _ h.rt (λ_ _ z=>z) q
  ·rename_i hh;rw[aD hh] at q;exact HL hP h hx r x g q
theorem wpS_mono{P:fK}(hP:i8 P):∀(s:MS) (N N':Ends) (U:S) (g:G) (E E':KX),N.le N'->(∀x g,E x g->E' x g)->wpS P s N U g E->wpS P s N' U g E'
 |.pass,N,N',U,g,E,E',h,hx,q=>h.nx _ _ q
 |.seq a b,N,N',U,g,E,E',h,hx,q=>wpS_mono hP a { N with nx:=λiM g1=>wpS P b N iM g1 E } { N' with nx:=λiM g1=>wpS P b N' iM g1 E' } _ _ _ _ ⟨λiM g1 q=>wpS_mono hP b _ _ _ _ _ _ h hx q,h.rt,h.bk,h.ct⟩ hx q
 |.expr e,N,N',U,g,E,E',h,hx,q=>b9 hP e _ _ _ _ _ _ (λx g1 q=>h.nx _ _ q) hx q
 |.set i e,N,N',U,g,E,E',h,hx,q=>b9 hP e _ _ _ _ _ _ (λx g1 q=>h.nx _ _ q) hx q
 |.lX t e,N,N',U,g,E,E',h,hx,q=>b9 hP e _ _ _ _ _ _ (λx g1 q=>w5 (λU q=>h.nx _ _ q) q) hx q
 |.eM o i v,N,N',U,g,E,E',h,hx,q=>b9 hP v _ _ _ _ _ _ (λx g1 q=>b9 hP o _ _ _ _ _ _ (λy g2 q=>b9 hP i _ _ _ _ _ _ (λz g3 q=>R7 (λg q=>h.nx _ _ q) q) hx q) hx q) hx q
 |.iD f cs o v,N,N',U,g,E,E',h,hx,q=>b9 hP v _ _ _ _ _ _ (λx g1 q=>b9 hP o _ _ _ _ _ _ (λy g2 q=>ZY (λg q=>h.nx _ _ q) q) hx q) hx q
 | .wa f cs o v,N,N',U,g,E,E',h,hx,q=>b9 hP o _ _ _ _ _ _ (λy g1 q=>by
   obtain⟨a,c,fs,x,q1,q2,q3,q4,q⟩:=q;exact ⟨a,c,fs,x,q1,q2,q3,q4,b9 hP v _ _ _ _ _ _ (λz g3 q=>u5 (λw g4 q=>by
    obtain⟨rA,k1,k2,k3⟩:=q;exact ⟨rA,k1,k2,h.nx _ _ k3⟩) q) hx q⟩) hx q
 |.xf o1 i1 o2 i2 e,N,N',U,g,E,E',h,hx,q=>b9 hP e _ _ _ _ _ _ (λx g1 q=>let ⟨u,v,q1,q⟩:=q;⟨u,v,q1,b9 hP o1 _ _ _ _ _ _ (λy g2 q=>b9 hP i1 _ _ _ _ _ _ (λz g3 q=>R7 (λg4 q=>b9 hP o2 _ _ _ _ _ _ (λy g5 q=>b9 hP i2 _ _ _ _ _ _ (λz g6 q=>R7 (λg q=>h.nx _ _ q) q) hx q) hx q) q) hx q) hx q⟩) hx q
 |.kC i p v,N,N',U,g,E,E',h,hx,q=>let ⟨x,q1,q⟩:=q;⟨x,q1,b9 hP v _ _ _ _ _ _ (λz g1 q=>u5 (λw g2 q=>h.nx _ _ q) q) hx q⟩
 |.ifs c a b,N,N',U,g,E,E',h,hx,q=>q8 hP c _ _ _ _ _ _ (λt g1 q=>E4 (λq=>wpS_mono hP a _ _ _ _ _ _ h hx q) (λq=>wpS_mono hP b _ _ _ _ _ _ h hx q) q) hx q
 |.dM t it b,N,N',U,g,E,E',h,hx,q=>z9 hP it _ _ _ _ _ _ (λk g1 q=>aK0 h.nx (λx N2 U g q=>w5 (λcH q=>wpS_mono hP b { N with nx:=N2,ct:=N2,bk:=N.nx } { N' with nx:=N2,ct:=N2,bk:=N'.nx } _ _ _ _ ⟨λ_ _ z=>z,h.rt,h.nx,λ_ _ z=>z⟩ hx q) q) q) hx q
 |.ki c b,N,N',U,g,E,E',h,hx,q=>by
  obtain⟨W,w0,q⟩:=q;refine⟨W,w0,λm U g w=>q8 hP c _ _ _ _ _ _ (λt g1 q=>E4 (λq=>?_) (h.nx _ _) q) hx (q m U g w)⟩;obtain⟨N2,a,q⟩:=q;exact⟨N2,a,wpS_mono hP b { N with nx:=N2,ct:=N2,bk:=N.nx } { N' with nx:=N2,ct:=N2,bk:=N'.nx } _ _ _ _ ⟨λ_ _ z=>z,h.rt,h.nx,λ_ _ z=>z⟩ hx q⟩
 |.ret e,N,N',U,g,E,E',h,hx,q=>b9 hP e _ _ _ _ _ _ h.rt hx q
 |.qp,N,N',U,g,E,E',h,hx,q=>h.rt _ _ q
 |.brk,N,N',U,g,E,E',h,hx,q=>h.bk _ _ q
 |.cont,N,N',U,g,E,E',h,hx,q=>h.ct _ _ q
 |.raise x es,N,N',U,g,E,E',h,hx,q=>C3 hP es _ _ _ _ _ _ (λvs g1 q=>⟨q.1,hx _ _ q.2⟩) hx q
 |.uq b hs,N,N',U,g,E,E',h,hx,q=>wpS_mono hP b _ _ _ _ _ _ h (λx g q=>HL hP h hx hs x g q) q
 | .uk e y b,N,N',U,g,E,E',h,hx,q=>b9 hP e _ _ _ _ _ _ (λ_ g1 z=>h.nx _ _ z) (λx g1 z=>by
  split at z
  ·rename_i c;rw[aJ c];exact wpS_mono hP b _ _ _ _ _ _ h (λ_ _ z=>z) z
  ·rename_i c;rw[aD c];exact hx _ _ z) q
theorem a8(T:Nat->Option aY):∀k,i8 (b8 T k)
 |0=>λf xs g Q Q' E E' h hx q=>q.elim
 |k+1=>λf xs g Q Q' E E' h hx q=>by
  obtain⟨m,a,b,q⟩:=q;exact⟨m,a,b,wpS_mono (a8 T k) m.body ⟨λ_ g'=>Q .bR g',Q,λ_ _=>False,λ_ _=>False⟩ _ _ _ _ _ ⟨λ_ _ z=>h _ _ z,h,λ_ _ z=>z,λ_ _ z=>z⟩ hx q⟩
def TupAt(K:PySem.W.Frag)(H:Hp)(a:Addr)(vs:List V):Prop :=
 H a=some (.tup vs)\/∃(o:Obj) (bt:Array Value) (n:Nat),K.lookup a=some o/\o.cls=.type "tuple"/\o.dict=none/\o.data=.seq bt n/\bt.size<=sizeLine/\Vals vs bt.toList
theorem TupAt.d(h:TupAt K H a vs):DW K H a vs:=h
theorem TupAt.sq{K:PySem.W.Frag}{H:Hp}{a:Addr}{vs:List V}(h:TupAt K H a vs):jT K H a vs:=h.d.sq
mutual
inductive d4(K:PySem.W.Frag)(ρ:List Addr)(H:Hp):D->V->Prop
 |bR:d4 K ρ H .bR .bR
 |bl (b:Bool):d4 K ρ H (.bl b) (.bl b)
 |int (i:Int):d4 K ρ H (.int i) (.int i)
 |str (x:Str):d4 K ρ H (.str x) (.str x)
 |ty (n:String):d4 K ρ H (.ty n) (.ty n)
 |ref {i:Nat} {a:Addr} (h:ρ[i]?=some a):d4 K ρ H (.ref i) (.ref a)
 |tup {l:List D} {a:Addr} {vs:List V} (h:TupAt K H a vs) (r:c5 K ρ H l vs):d4 K ρ H (.tup l) (.ref a)
inductive c5(K:PySem.W.Frag)(ρ:List Addr)(H:Hp):List D->List V->Prop
 |nil:c5 K ρ H [] []
 |cons {d:D} {v:V} {ds:List D} {vs:List V} (h:d4 K ρ H d v) (r:c5 K ρ H ds vs):c5 K ρ H (d::ds) (v::vs)
end
structure Ext(ρ:List Addr)(H:Hp)(cq:List Addr)(H':Hp):Prop where
 pre:∃more,cq=ρ++more
 tup:∀a xs,H a=some (.tup xs)->H' a=some (.tup xs)
theorem Ext.refl(ρ:List Addr)(H:Hp):Ext ρ H ρ H:=⟨⟨[],by simp⟩,λ_ _ h=>h⟩
theorem Ext.trans{ρ H cB H1 fE H2}(a:Ext ρ H cB H1)(b:Ext cB H1 fE H2):Ext ρ H fE H2:=by
 obtain⟨⟨m,rfl⟩,t⟩:=a;obtain⟨⟨m',rfl⟩,t'⟩:=b;exact⟨⟨m++m',by simp⟩,λx xs h=>t' _ _ (t _ _ h)⟩
theorem Ext.get{ρ H cq H'}(e:Ext ρ H cq H')(h:ρ[i]?=some a):cq[i]?=some a:=by
 obtain⟨⟨m,rfl⟩,_⟩:=e;rw[aL (au.mp h).1];exact h
theorem TupAt.ext{K ρ H cq H'}(e:Ext ρ H cq H')(h:TupAt K H a vs):TupAt K H' a vs:=h.elim (λz=>.inl (e.tup _ _ z)) .inr
mutual
theorem d4.ext{K ρ H cq H'}(e:Ext ρ H cq H'):∀{d v},d4 K ρ H d v->d4 K cq H' d v
 |_,_,.bR=>.bR
 |_,_,.bl b=>.bl b
 |_,_,.int i=>.int i
 |_,_,.str x=>.str x
 |_,_,.ty n=>.ty n
 |_,_,.ref h=>.ref (e.get h)
 |_,_,.tup h r=>.tup (h.ext e) (c5.ext e r)
theorem c5.ext{K ρ H cq H'}(e:Ext ρ H cq H'):∀{ds vs},c5 K ρ H ds vs->c5 K cq H' ds vs
 |_,_,.nil=>.nil
 |_,_,.cons h r=>.cons (d4.ext e h) (c5.ext e r)
end
theorem c5.length{K ρ H}{ds:List D}{vs:List V}(h:c5 K ρ H ds vs):ds.length=vs.length:=by
 induction ds generalizing vs with
 |nil=>cases h;rfl
 |cons d ds ih =>
  cases h with
  |cons q r=>simp[ih r]
theorem c5.get{K ρ H}:∀{ds vs} {i:Nat} {d:D},c5 K ρ H ds vs->ds[i]?=some d->∃v,vs[i]?=some v/\d4 K ρ H d v
 |_,_,_,_,.nil,h=>by simp at h
 |_,_,0,_,.cons h _,e=>by simp at e;subst e;exact⟨_,rfl,h⟩
 |_,_,i+1,d,.cons _ r,e=>by
  obtain⟨v,h1,h2⟩:=c5.get (i:=i) (d:=d) r (by simpa using e);exact⟨v,by simpa using h1,h2⟩
theorem c5.set{K ρ H}{d:D}{v:V}(h:d4 K ρ H d v):∀{ds vs} (i:Nat),c5 K ρ H ds vs->c5 K ρ H (ds.set i d) (vs.set i v)
 |_,_,_,.nil=>.nil
 |_,_,0,.cons _ r=>.cons h r
 |_,_,i+1,.cons q r=>.cons q (c5.set h i r)
theorem c5.append{K ρ H}{ds es:List D}{ws:List V}(h:c5 K ρ H ds vs)(s:c5 K ρ H es ws):c5 K ρ H (ds++es) (vs++ws):=by
 induction ds generalizing vs with
 |nil=>cases h;exact s
 |cons d ds ih =>
  cases h with
  |cons q r=>exact .cons q (ih r)
theorem c5.erase{K ρ H}:∀{ds:List D} {vs:List V} (i:Nat),c5 K ρ H ds vs->c5 K ρ H (ds.eraseIdx i) (vs.eraseIdx i)
 |_,_,_,.nil=>.nil
 |_,_,0,.cons _ r=>r
 |_,_,i+1,.cons q r=>.cons q (c5.erase i r)
theorem c5.take{K ρ H}:∀{ds:List D} {vs:List V} (n:Nat),c5 K ρ H ds vs->c5 K ρ H (ds.take n) (vs.take n)
 |_,_,0,_=>.nil
 |_,_,_+1,.nil=>.nil
 |_,_,n+1,.cons h r=>.cons h (c5.take n r)
theorem c5.drop{K ρ H}:∀{ds:List D} {vs:List V} (n:Nat),c5 K ρ H ds vs->c5 K ρ H (ds.drop n) (vs.drop n)
 |_,_,0,r=>r
 |_,_,_+1,.nil=>.nil
 |_,_,n+1,.cons _ r=>c5.drop n r
theorem c5.reverse{K ρ H}:∀{ds:List D} {vs:List V},c5 K ρ H ds vs->c5 K ρ H ds.reverse vs.reverse
 |_,_,.nil=>.nil
 |_,_,.cons h r=>by
  rw[gQ,gQ];exact c5.append (c5.reverse r) (.cons h .nil)
theorem c5.cut{K ρ H}{ds:List D}{vs:List V}(r:c5 K ρ H ds vs)(lo hi:Option Int):c5 K ρ H (M.cut ds lo hi) (tH vs lo hi):=by
 unfold M.cut tH;rw[r.length];exact(r.drop _).take _
theorem c5.ints{K ρ H}:∀{ns:List Int} {vs:List V},c5 K ρ H (ns.map D.int) vs->vs=ns.map V.int
 |[],_,.nil=>rfl
 |_::_,_,.cons h r=>by cases h;rw[c5.ints r];rfl
theorem c5.ofInts{K ρ H}:∀(ns:List Int),c5 K ρ H (ns.map D.int) (ns.map V.int)
 |[]=>.nil
 |n::r=>.cons (.int n) (c5.ofInts r)
def tL(K:PySem.W.Frag)(H:Hp)(a:Addr)(vs:List V):Prop :=
 (∃o,H a=some (.jR o (.lst vs)))\/∃(o:Obj) (bt:Array Value) (n:Nat),K.lookup a=some o/\o.cls=.type "list"/\o.dict=none/\o.data=.seq bt n/\bt.size<=sizeLine/\Vals vs bt.toList
theorem tL.sq(h:tL K H a vs):fS K H a vs:=h.elim (λ⟨o,z⟩=>.inl (.inr ⟨o,z⟩)) .inr
inductive i0{α:Type}(K:PySem.W.Frag)(ρ:List Addr)(H:Hp):List (α×D)->List (α×V)->Prop
 |nil:i0 K ρ H [] []
 |cons {k:α} {d:D} {v:V} {ds:List (α×D)} {vs:List (α×V)} (h:d4 K ρ H d v) (r:i0 K ρ H ds vs):i0 K ρ H ((k,d)::ds) ((k,v)::vs)
theorem i0.ext{α:Type}{K ρ H cq H'}(e:Ext ρ H cq H'){ds:List (α×D)}{vs:List (α×V)}(h:i0 K ρ H ds vs):i0 K cq H' ds vs:=by
 induction h with
 |nil=>exact .nil
 |cons h r ih=>exact .cons (h.ext e) ih
theorem i0.drop{K ρ H}{ds:List (Key×D)}{vs:List (Key×V)}(k:Key)(h:i0 K ρ H ds vs):i0 K ρ H (delD ds k) (ye vs k):=by
 unfold delD ye
 induction h with
 |nil=>exact .nil
 |cons h r ih =>
  rw[ik,ik];split
  ·exact .cons h ih
  ·exact ih
theorem i0.get{α:Type}{K ρ H}{ds:List (α×D)}{vs:List (α×V)}(h:i0 K ρ H ds vs):∀{i:Nat} {k:α} {d:D},ds[i]?=some (k,d)->∃v,vs[i]?=some (k,v)/\d4 K ρ H d v:=by
 induction h with
 |nil=>intro i k d e;simp at e
 |cons h r ih =>
  intro i k d e;cases i with
  |zero=>simp at e;obtain⟨rfl,rfl⟩:=e;exact⟨_,rfl,h⟩
  |succ i=>simpa using ih (by simpa using e)
theorem i0.length{α:Type}{K ρ H}{ds:List (α×D)}{vs:List (α×V)}(h:i0 K ρ H ds vs):ds.length=vs.length:=by
 induction h with
 |nil=>rfl
 |cons h r ih=>simp[ih]
def rS(K:PySem.W.Frag)(ρ:List Addr)(H:Hp):Option D->Option V->Prop
 |some d,some v=>d4 K ρ H d v
 |none,none=>True
 |_,_=>False
theorem i0.val{K ρ H}:∀{ds vs} (k:Key),i0 K ρ H ds vs->rS K ρ H (p0 ds k) (K0 vs k)
 |_,_,k,.nil=>trivial
 |_,_,k,.cons (k:=k') h r=>by
  unfold p0 K0;rw[fc,fc];by_cases e:k'=k
  ·simp only[e,decide_true];exact h
  ·simp only[e,decide_false];exact i0.val k r
theorem i0.KI{K ρ H}:∀{ds vs} (k:Key),i0 K ρ H ds vs->(ds.any λkv=>decide (kv.1=k))=(vs.any λkv=>decide (kv.1=k))
 |_,_,k,.nil=>rfl
 |_,_,k,.cons h r=>by simp only[List.any_cons,i0.KI k r]
theorem i0.snoc{K ρ H}{k:Key}{d:D}{v:V}(h:d4 K ρ H d v){ds vs}(t:i0 K ρ H ds vs):i0 K ρ H (ds++[(k,d)]) (vs++[(k,v)]):=by
 induction ds generalizing vs with
 |nil=>cases t;exact .cons h .nil
 |cons d ds ih =>
  cases t with
  |cons q r=>exact .cons q (ih r)
theorem i0.DN{K ρ H}{k:Key}{d:D}{v:V}(h:d4 K ρ H d v):∀{ds vs},i0 K ρ H ds vs->i0 K ρ H (ds.map λkv=>if kv.1=k then(kv.1,d) else kv) (vs.map λkv=>if kv.1=k then(kv.1,v) else kv)
 |_,_,.nil=>.nil
 |_,_,.cons (k:=k') q r=>by
  simp only[List.map_cons];by_cases e:k'=k
  ·rw[aJ e,aJ e];exact .cons h (i0.DN h r)
  ·rw[aD e,aD e];exact .cons q (i0.DN h r)
theorem i0.put{K ρ H}{k:Key}{d:D}{v:V}(h:d4 K ρ H d v){ds vs}(r:i0 K ρ H ds vs):i0 K ρ H (putD ds k d) (putK vs k v):=by
 unfold putD putK;rw[r.KI k];split
 ·exact r.DN h
 ·exact r.snoc h
noncomputable abbrev E2(K:PySem.W.Frag)(x:Str)(C:Addr):Prop:=PySem.W.nsIn K mainGlobals x=some (some (.ref C))
theorem i0.look{K ρ H}{ds:List (Str×D)}{vs:List (Str×V)}(f:Str)(h:i0 K ρ H ds vs):rS K ρ H (ds.lookup f) (vs.lookup f):=by
 induction h with
 |nil=>trivial
 |cons h r ih =>
  rename_i k d v ds vs;rw[dH,dH];cases f==k
  ·exact ih
  ·exact h
theorem i0.A1{K ρ H}{f:Str}{d:D}{v:V}(h:d4 K ρ H d v){ds:List (Str×D)}{vs:List (Str×V)}(r:i0 K ρ H ds vs):i0 K ρ H (k8 f d ds) (L2.A1 f v vs):=by
 induction r with
 |nil=>exact .cons h .nil
 |cons q r ih =>
  unfold k8 L2.A1;split
  ·exact .cons h r
  ·exact .cons q ih
theorem IL{f:Str}{d:D}{p:Str->Prop}(hf:p f):∀{ds:List (Str×D)},(∀x∈ds,p x.1)->∀x∈k8 f d ds,p x.1
 |[],_,x,hx=>by
  have:x=(f,d):=by simpa[k8] using hx
  simp_all
 |(k,e)::r,h,x,hx=>by
  unfold k8 at hx;split at hx
  ·rcases aI.mp hx with z|z
   ·rw[z];exact h (k,e) (by simp)
   ·exact h x (by simp[z])
  ·rcases aI.mp hx with z|z
   ·rw[z];exact h (k,e) (by simp)
   ·exact IL hf (λy hy=>h y (by simp[hy])) x z
def OH(K:PySem.W.Frag)(ρ:List Addr)(H:Hp):O->HO->Prop
 |.lst l,.lst vs=>c5 K ρ H l vs
 |.ee kvs,.dK vs=>i0 K ρ H kvs vs
 |.set S n,.set S' n'=>S=S'/\n=n'
 |.ins c fs,.ins C _ vs=>E2 K c C/\jn K C/\i0 K ρ H fs vs/\∀x∈fs,B3 K C x.1
 |_,_=>False
theorem OH.ext{K ρ H cq H'}(e:Ext ρ H cq H'){o:O}{u:HO}(h:OH K ρ H o u):OH K cq H' o u:=by
 cases o<;>cases u<;>first|exact h.elim|exact c5.ext e h|exact i0.ext e h|exact⟨h.1,h.2.1,h.2.2.1.ext e,h.2.2.2⟩|exact h
theorem OH.tS{K ρ H}{xs:List V}(h:OH K ρ H o (.tup xs)):False:=by cases o<;>exact h
theorem OH.Xk{K ρ H}{ob:Obj}(h:OH K ρ H o (.jR ob u)):False:=by cases o<;>exact h
def F4(K:PySem.W.Frag)(ρ:List Addr)(H:Hp)(o:O)(a:Addr):Prop:=match o with
 |.oP l=>∃vs,tL K H a vs/\c5 K ρ H l vs
 |o=>∃u,H a=some u/\OH K ρ H o u
theorem F4.of{K ρ H}(hu:H a=some u)(h:OH K ρ H o u):F4 K ρ H o a:=by
 cases o<;>first|exact⟨u,hu,h⟩|(cases u<;>exact h.elim)
theorem F4.inv{K ρ H}(m:o.mut=true)(h:F4 K ρ H o a):∃u,H a=some u/\OH K ρ H o u:=by
 cases o<;>first|exact h|cases m
theorem F4.lst{K ρ H}{l:List D}{a:Addr}(h:F4 K ρ H (.lst l) a):∃vs,H a=some (.lst vs)/\c5 K ρ H l vs:=by
 obtain⟨u,h1,h2⟩:=h;cases u<;>first|exact⟨_,h1,h2⟩|exact h2.elim
theorem F4.ee{K ρ H}{l:List (Key×D)}{a:Addr}(h:F4 K ρ H (.ee l) a):∃vs,H a=some (.dK vs)/\i0 K ρ H l vs:=by
 obtain⟨u,h1,h2⟩:=h;cases u<;>first|exact⟨_,h1,h2⟩|exact h2.elim
theorem F4.set{K ρ H}{S:Int->Bool}{n:Nat}{a:Addr}(h:F4 K ρ H (.set S n) a):H a=some (.set S n):=by
 obtain⟨u,h1,h2⟩:=h;cases u<;>first|(obtain⟨rfl,rfl⟩:=(show _/\_ from h2);exact h1)|exact h2.elim
theorem F4.ins{K ρ H}{c:Str}{fs:List (Str×D)}{a:Addr}(h:F4 K ρ H (.ins c fs) a):∃C dx vs,H a=some (.ins C dx vs)/\E2 K c C/\jn K C/\i0 K ρ H fs vs/\∀x∈fs,B3 K C x.1:=by
 obtain⟨u,h1,h2⟩:=h;cases u<;>first|exact⟨_,_,_,h1,h2⟩|exact h2.elim
structure Rl(K:PySem.W.Frag)(ρ:List Addr)(g:G)(H:Hp):Prop where
 len:ρ.length=g.length
 obj:∀(i:Nat) o a,g[i]?=some o->ρ[i]?=some a->F4 K ρ H o a
 nd:∀(i j:Nat) o o' a,g[i]?=some o->g[j]?=some o'->o.mut=true->o'.mut=true->ρ[i]?=some a->ρ[j]?=some a->i=j
section
variable{ρ:List Addr}
theorem Rl.lst(R:Rl K ρ g H){i:Nat}{l:List D}{a:Addr}(h:g[i]?=some (.lst l))(ha:ρ[i]?=some a):∃vs,H a=some (.lst vs)/\c5 K ρ H l vs:=(R.obj _ _ _ h ha).lst
theorem Rl.ee(R:Rl K ρ g H){i:Nat}{l:List (Key×D)}{a:Addr}(h:g[i]?=some (.ee l))(ha:ρ[i]?=some a):∃vs,H a=some (.dK vs)/\i0 K ρ H l vs:=(R.obj _ _ _ h ha).ee
theorem Rl.set(R:Rl K ρ g H){i:Nat}{S:Int->Bool}{n:Nat}{a:Addr}(h:g[i]?=some (.set S n))(ha:ρ[i]?=some a):H a=some (.set S n):=(R.obj _ _ _ h ha).set
theorem Rl.ins(R:Rl K ρ g H){i:Nat}{c:Str}{fs:List (Str×D)}{a:Addr}(h:g[i]?=some (.ins c fs))(ha:ρ[i]?=some a):∃C dx vs,H a=some (.ins C dx vs)/\E2 K c C/\jn K C/\i0 K ρ H fs vs/\∀x∈fs,B3 K C x.1:=(R.obj _ _ _ h ha).ins
theorem Rl.items(R:Rl K ρ g H)(h:c6 g i=some l)(ha:ρ[i]?=some a):∃vs,fS K H a vs/\c5 K ρ H l vs:=by
 cases e:g[i]? with
 |none=>rw[c6,e] at h;cases h
 |some o =>
  rw[c6,e] at h;have q:=R.obj _ _ _ e ha;cases o with
  |lst m=>cases h;obtain⟨vs,z,r⟩:=q.lst;exact⟨vs,fS.of z,r⟩
  |oP m=>cases h;obtain⟨vs,z,r⟩:=q;exact⟨vs,z.sq,r⟩
  |_=>cases h
theorem A5{o:HO}(hp:H p=none):Ext ρ H ρ (upd H p o):=⟨⟨[],by simp⟩,λa xs h=>by rw[d8 (m9 h hp)];exact h⟩
theorem tL.upd{p a:Addr}{o:HO}{vs:List V}(h:tL K H a vs)(hp:∀ob u,H p≠some (.jR ob u)):tL K (upd H p o) a vs:=by
 rcases h with⟨ob,z⟩|z
 ·refine .inl ⟨ob,?_⟩;rw[d8 ?_]
  ·exact z
  ·intro e;subst e;exact hp _ _ z
 ·exact .inr z
theorem F4.upd{p a:Addr}{o:O}{u:HO}{cq:List Addr}(h:F4 K ρ H o a)(fF:o.mut=true->a≠p)(hp:∀ob u,H p≠some (.jR ob u))(e:Ext ρ H cq (L2.upd H p u)):F4 K cq (L2.upd H p u) o a:=by
 cases hm:o.mut with
 |true =>
  obtain⟨u',h1,h2⟩:=h.inv hm;exact .of (by rw[d8 (fF hm)];exact h1) (h2.ext e)
 |false =>
  cases o<;>first|cases hm|skip
  obtain⟨vs,z,r⟩:=h;exact⟨vs,z.upd hp,r.ext e⟩
theorem Rl.grow{o:HO}(R:Rl K ρ g H)(hp:H p=none):Rl K ρ g (upd H p o):=by
 have e:Ext ρ H ρ (upd H p o):=A5 hp;refine⟨R.len,λi ob a h1 h2=>?_,R.nd⟩;have q:=R.obj _ _ _ h1 h2;refine q.upd (λhm=>?_) (λob u z=>by simp_all) e;obtain⟨u,h1,_⟩:=q.inv hm;exact m9 h1 hp
theorem Rl.w6(R:Rl K ρ g H)(p:Addr):(ρ++[p])[g.length]?=some p:=by rw[<- R.len];simp
theorem C6{o:HO}(hp:H p=none):Ext ρ H (ρ++[p]) (upd H p o):=⟨⟨[p],rfl⟩,(A5 (ρ:=ρ) hp).tup⟩
theorem Rl.new(R:Rl K ρ g H)(hp:H p=none)(r:OH K ρ H o u):Rl K (ρ++[p]) (g++[o]) (upd H p u):=by
 have e:Ext ρ H (ρ++[p]) (upd H p u):=C6 hp;have old:∀{i:Nat} {ob:O} {a:Addr},g[i]?=some ob->(ρ++[p])[i]?=some a->ρ[i]?=some a:=λ{i ob a} h1 h2=>by
  rw[aL (by rw[R.len];exact(au.mp h1).1)] at h2;exact h2
 have split:∀{i:Nat} {ob:O},(g++[o])[i]?=some ob->g[i]?=some ob\/(i=g.length/\ob=o):=λ{i ob} h=>by
  rcases fq i g.length with q|q|q
  ·rw[aL q] at h;exact .inl h
  ·subst q;simp at h;exact .inr ⟨rfl,h.symm⟩
  ·rw[aP (by simp;omega)] at h;cases h
 refine⟨by simp[R.len],λi ob a h1 h2=>?_,λi j o1 o2 a h1 h2 m1 m2 h3 h4=>?_⟩
 ·rcases split h1 with q|⟨rfl,rfl⟩
  ·have z:=R.obj _ _ _ q (old q h2);refine z.upd (λhm=>?_) (λob u z=>by simp_all) e;obtain⟨u,h1,_⟩:=z.inv hm;exact m9 h1 hp
  ·rw[R.w6] at h2;cases h2;exact .of u4 (r.ext e)
 ·have nq:∀{i:Nat} {o:O} {a:Addr},g[i]?=some o->o.mut=true->ρ[i]?=some a->a≠p:=λ{i o a} h1 hm h2=>by
   obtain⟨u,z,_⟩:=(R.obj _ _ _ h1 h2).inv hm;exact m9 z hp
  rcases split h1 with q|⟨rfl,_⟩
  ·rcases split h2 with q'|⟨rfl,_⟩
   ·exact R.nd _ _ _ _ _ q q' m1 m2 (old q h3) (old q' h4)
   ·rw[R.w6] at h4;cases h4;exact absurd rfl (nq q m1 (old q h3))
  ·rcases split h2 with q'|⟨rfl,_⟩
   ·rw[R.w6] at h3;cases h3;exact absurd rfl (nq q' m2 (old q' h4))
   ·rfl
theorem Rl.alloc(R:Rl K ρ g H)(hp:H p=none)(r:c5 K ρ H l vs):Rl K (ρ++[p]) (g++[.lst l]) (upd H p (.lst vs)):=R.new hp r
theorem Rl.put{o':O}(R:Rl K ρ g H)(h:g[i]?=some o)(hm:o.mut=true)(ha:ρ[i]?=some a)(r:OH K ρ H o' u) :
  Rl K ρ (g.set i o') (upd H a u)/\Ext ρ H ρ (upd H a u):=by
 obtain⟨u0,z0,EX⟩:=(R.obj _ _ _ h ha).inv hm;have e:Ext ρ H ρ (upd H a u):=⟨⟨[],by simp⟩,λb xs q=>by rw[d8];exact q;intro z;subst z;rw[z0] at q;cases q;exact EX.tS⟩
 refine⟨⟨by simp[R.len],λj ob b h1 h2=>?_,λj k o1 o2 b h1 h2 m1 m2 h3 h4=>?_⟩,e⟩
 ·by_cases iI:i=j
  ·subst iI;rw[ha] at h2;cases h2;have hi:i<g.length:=(au.mp h).1;rw[bf hi] at h1;cases h1;exact .of u4 (r.ext e)
  ·rw[az iI] at h1;refine(R.obj _ _ _ h1 h2).upd (λog ez=>?_) (λob u z=>by rw[z0] at z;cases z;exact EX.Xk) e;subst ez;exact iI (R.nd _ _ _ _ _ h h1 hm og ha h2)
 ·have back:∀{j:Nat} {m:O},(g.set i o')[j]?=some m->m.mut=true->∃m',g[j]?=some m'/\m'.mut=true:=λ{j m} q og=>by
   by_cases iI:i=j
   ·subst iI;exact⟨o,h,hm⟩
   ·rw[az iI] at q;exact⟨m,q,og⟩
  obtain⟨_,q1,n1⟩:=back h1 m1;obtain⟨_,q2,n2⟩:=back h2 m2;exact R.nd _ _ _ _ _ q1 q2 n1 n2 h3 h4
theorem Rl.write{l':List D}(R:Rl K ρ g H)(h:g[i]?=some (.lst l))(ha:ρ[i]?=some a)(r:c5 K ρ H l' vs) :
  Rl K ρ (g.set i (.lst l')) (upd H a (.lst vs))/\Ext ρ H ρ (upd H a (.lst vs)):=R.put h rfl ha r
end
structure p8(K:PySem.W.Frag)(ρ:List Addr)(H:Hp)(U:S)(cA:St):Prop where
 len:U.length=cA.length
 val:∀(i:Nat) d,U[i]?=some (some d)->∃v,cA[i]?=some (some v)/\d4 K ρ H d v
section
variable{ρ cq:List Addr}{H':Hp}
theorem p8.ext{U cA}(e:Ext ρ H cq H')(r:p8 K ρ H U cA):p8 K cq H' U cA:=⟨r.len,λi d h=>let ⟨v,a,b⟩:=r.val i d h;⟨v,a,b.ext e⟩⟩
theorem p8.set{U cA d v}(r:p8 K ρ H U cA)(i:Nat)(h:d4 K ρ H d v):p8 K ρ H (U.set i (some d)) (cA.set i (some v)):=by
 refine⟨by simp[r.len],λj e q=>?_⟩;by_cases iI:i=j
 ·subst iI;have hi:i<U.length:=by
   have:=(au.mp q).1
   simp_all
  rw[bf hi] at q;cases q;exact⟨v,by rw[bf (by rw[<- r.len];exact hi)],h⟩
 ·rw[az iI] at q ⊢;exact r.val j e q
theorem p8.start{ds vs}{n:Nat}(r:c5 K ρ H ds vs):p8 K ρ H (ds.map some++List.replicate (n-ds.length) none) (vs.map some++List.replicate (n-vs.length) none):=by
 refine⟨by simp[r.length],λi d h=>?_⟩;by_cases hi:i<ds.length
 ·rw[aL (by simpa using hi),ag] at h;cases e:ds[i]? with
  |none=>rw[e] at h;cases h
  |some x =>
   rw[e] at h;cases h;obtain⟨v,h1,h2⟩:=r.get e;refine⟨v,?_,h2⟩;rw[aL (by rw[ai,<- r.length];exact hi),ag,h1]
   rfl
 ·rw[cF (by simpa using hi),fi] at h;split at h<;>cases h
theorem p8.c8{U cA}(r:p8 K ρ H U cA)(c8:List Nat)(n:Nat):p8 K ρ H (E1 U c8 n) (B9 cA c8 n):=by
 refine⟨by simp[E1,B9],λi d h=>?_⟩;unfold E1 at h;unfold B9;by_cases hi:i<c8.length
 ·rw[aL (by simpa using hi),ag,ae hi] at h;rw[aL (by simpa using hi),ag,ae hi];simp only[Option.map_some] at h ⊢;cases e:U[c8[i]]? with
  |none=>simp_all
  |some x =>
   rw[e] at h;have hx:x=some d:=aN h;subst hx;obtain⟨v,h1,h2⟩:=r.val _ _ e;exact⟨v,by rw[h1];rfl,h2⟩
 ·rw[cF (by simpa using hi),fi] at h;split at h<;>cases h
end
end M
namespace M
open PySem L2 PySem.Spec PyProof.Rows
variable{g:G}{l:List D}{vs:List V}{b:Bool}{d:D}{X:Cx}{ρ:List Addr}{H:Hp}{U:L2.St}{s:Shared}{v x:V}
def LQ(K:PySem.W.Frag)(ρ:List Addr)(H:Hp)(Q:VK):KD:=λd g'=>∀cq H' v,Ext ρ H cq H'->Rl K cq g' H'->d4 K cq H' d v->Q v H'
theorem LQ.ext{K ρ H cB H1 Q d g}(e:Ext ρ H cB H1)(h:LQ K ρ H Q d g):LQ K cB H1 Q d g:=λcq H' v e' R r=>h cq H' v (e.trans e') R r
theorem LQ.now{K ρ H Q d g v}(h:LQ K ρ H Q d g)(R:Rl K ρ g H)(r:d4 K ρ H d v):Q v H:=h ρ H v (.refl _ _) R r
theorem LQ.new{K ρ H Q}{p:Addr}(h:LQ K ρ H Q (.ref g.length) (g++[.lst l]))(R:Rl K ρ g H)(hp:H p=none)(r:c5 K ρ H l vs):Q (.ref p) (upd H p (.lst vs)) :=
 h (ρ++[p]) _ _ (C6 hp) (R.alloc hp r) (.ref (R.w6 p))
theorem LQ.tup{K ρ H Q}{g:G}{l:List D}{vs:List V}{p:Addr}(h:LQ K ρ H Q (.tup l) g)(R:Rl K ρ g H)(hp:H p=none)(r:c5 K ρ H l vs):Q (.ref p) (upd H p (.tup vs)) :=
 h ρ _ _ (A5 hp) (R.grow hp) (.tup (.inl u4) (r.ext (A5 hp)))
def r2(K:PySem.W.Frag)(p:Pr):R2:=λx y H Q=>∃d e g ρ,Rl K ρ g H/\d4 K ρ H d x/\d4 K ρ H e y/\cQ p [d,e] g (LQ K ρ H Q)
def r1(K:PySem.W.Frag)(p:Pr):V->Hp->VK->Prop:=λx H Q=>∃d g ρ,Rl K ρ g H/\d4 K ρ H d x/\cQ p [d] g (LQ K ρ H Q)
def rN(K:PySem.W.Frag)(p:Pr):List V->Hp->VK->Prop:=λxs H Q=>∃ds g ρ,Rl K ρ g H/\c5 K ρ H ds xs/\cQ p ds g (LQ K ρ H Q)
theorem Z2{n:Nat}(h:n<=100000):n<=sizeLine:=aC h ∅
theorem BY{n:Nat}(h:n<100000):n<sizeLine:=ay h ∅
theorem d4.j7{K ρ H i v}(h:d4 K ρ H (.int i) v):v=.int i:=by cases h;rfl
theorem d4.By{K ρ H i v}(h:d4 K ρ H (.str i) v):v=.str i:=by cases h;rfl
theorem d4.L0{K ρ H i v}(h:d4 K ρ H (.bl i) v):v=.bl i:=by cases h;rfl
theorem d4.DP{K ρ H v}(h:d4 K ρ H .bR v):v=.bR:=by cases h;rfl
theorem d4.Qd{K ρ H n v}(h:d4 K ρ H (.ty n) v):v=.ty n:=by cases h;rfl
theorem d4.k6{K ρ H i v}(h:d4 K ρ H (.ref i) v):∃a,v=.ref a/\ρ[i]?=some a:=by cases h;exact⟨_,rfl,by assumption⟩
theorem d4.BA{K ρ H l v}(h:d4 K ρ H (.tup l) v):∃a vs,v=.ref a/\TupAt K H a vs/\c5 K ρ H l vs:=by cases h;exact⟨_,_,rfl,by assumption,by assumption⟩
theorem c5.one{K ρ H d vs}(h:c5 K ρ H [d] vs):∃v,vs=[v]/\d4 K ρ H d v:=by
 cases h with
 |cons r rr=>cases rr;exact⟨_,rfl,r⟩
theorem c5.two{K ρ H d e vs}(h:c5 K ρ H [d,e] vs):∃v w,vs=[v,w]/\d4 K ρ H d v/\d4 K ρ H e w:=by
 cases h with
 |cons r rr=>obtain⟨w,rfl,q⟩:=rr.one;exact⟨_,_,rfl,r,q⟩
theorem L6{a b c:D}(h:[a,b]=[c,d]):a=c/\b=d:=by cases h;exact⟨rfl,rfl⟩
section
theorem Ra(op:Operator):gw X (binaryOp op) (r2 X.K (.bin op)):=by
 intro pins s U H x y v u Q I rx ry h;obtain⟨d,e,g,ρ,R,rd,re,d',g',h,q⟩:=h;rcases h with⟨i,j,r,ex,ha,rfl,rfl⟩|⟨rfl,h⟩
 ·obtain⟨rfl,rfl⟩:=L6 ex;obtain rfl:=rd.j7;obtain rfl:=re.j7;have fin:=q.now R (.int r);cases op<;>first|exact(show False from ha).elim|skip
  ·cases ha;exact QY pins s U H _ _ v u Q I rx ry ⟨i,j,rfl,rfl,fin⟩
  ·cases ha;exact Rj pins s U H _ _ v u Q I rx ry ⟨i,j,rfl,rfl,fin⟩
  ·obtain⟨hc,rfl⟩:=ha;exact Rg pins s U H _ _ v u Q I rx ry ⟨i,j,rfl,rfl,hc,fin⟩
  ·obtain⟨hc,rfl⟩:=ha;exact Rf pins s U H _ _ v u Q I rx ry ⟨i,j,rfl,rfl,hc,fin⟩
  ·obtain⟨hc,rfl⟩:=ha;exact Rh pins s U H _ _ v u Q I rx ry ⟨i,j,rfl,rfl,hc,fin⟩
  ·obtain⟨hc,rfl⟩:=ha;exact Ri pins s U H _ _ v u Q I rx ry ⟨i,j,rfl,rfl,hc,fin⟩
  ·cases ha;exact Xq pins s U H _ _ v u Q I rx ry ⟨i,j,rfl,rfl,fin⟩
  ·cases ha;exact QZ pins s U H _ _ v u Q I rx ry ⟨i,j,rfl,rfl,fin⟩
  ·obtain⟨hc,rfl⟩:=ha;exact TC pins s U H _ _ v u Q I rx ry ⟨i,j,rfl,rfl,hc,fin⟩
 ·rcases h with⟨a,b,l,m,ex,ha,hb,hz,rfl,rfl⟩|z
  ·obtain⟨rfl,rfl⟩:=L6 ex;obtain⟨a',rfl,ra⟩:=rd.k6;obtain⟨b',rfl,rb⟩:=re.k6;obtain⟨vs,z1,rs⟩:=R.lst ha ra;obtain⟨ws,z2,rt⟩:=R.lst hb rb;exact Rb pins s U H _ _ v u Q I rx ry ⟨_,_,vs,ws,rfl,rfl,z1,z2,by rw[<- rs.length,<- rt.length];exact Z2 hz,λp hp=>q.new R hp (rs.append rt)⟩
  ·exact z.elim
theorem Xr(op:UnaryOp):yZ X (unaryOp op) (r1 X.K (.un op)):=by
 intro pins s U H x v Q I rx h;obtain⟨d,g,ρ,R,rd,d',g',⟨rfl,i,ex,rfl,rfl⟩,q⟩:=h;cases ex;obtain rfl:=rd.j7;exact SK pins s U H _ v Q I rx ⟨_,rfl,q.now R (.int _)⟩
section
variable{pins:List (Addr×Obj)}
theorem Jh(I:Inv X pins U H s)(R:Rl X.K ρ g H)(n:Nat)(ih:∀{d:D} {v:V} {u:Value} {p:PyData},rd g n d=some p->d4 X.K ρ H d v->RelV v u->∃as,Reads s.heap u p as/\p.depth<=n):∀{vs:List V} {us:List Value} {ps:List PyData},l.mapM (rd g n)=some ps->c5 X.K ρ H l vs->Vals vs us->∃as,ReadsAll s.heap us ps as/\PyData.depthAll ps<=n:=by
 induction l with
 |nil =>
  intro vs us ps h rs rv;cases rs;cases rv;simp at h;subst h;exact⟨_,.nil,cj _⟩
 |cons d l il =>
  intro vs us ps h rs rv;cases rs with
  |cons iN rs =>
   cases rv with
   |cons ru rv =>
    rw[List.mapM_cons] at h;cases e:rd g n d with
    |none=>simp_all
    |some p =>
     rw[e] at h;cases e2:l.mapM (rd g n) with
     |none=>rw[e2] at h;cases h
     |some qs =>
      rw[e2] at h;cases h;obtain⟨as,q1,d1⟩:=ih e iN ru;obtain⟨bs,q2,d2⟩:=il e2 rs rv;refine⟨_,.cons q1 q2,?_⟩;simp only[PyData.depthAll];omega
theorem Q8(I:Inv X pins U H s)(R:Rl X.K ρ g H)(n:Nat):∀{d:D} {v:V} {u:Value} {p:PyData},rd g n d=some p->d4 X.K ρ H d v->RelV v u->∃as,Reads s.heap u p as/\p.depth<=n:=by
 induction n with
 |zero =>
  intro d v u p h r ru;cases r with
  |bR=>simp only[rd] at h;cases h;cases ru;exact⟨_,.none,Nat.zero_le _⟩
  |bl b=>simp only[rd] at h;cases h;cases ru;exact⟨_,.bool b,Nat.zero_le _⟩
  |int i=>simp only[rd] at h;cases h;obtain⟨t,rfl⟩:=ru;exact⟨_,.int i t,Nat.zero_le _⟩
  |str x=>simp only[rd] at h;cases h;obtain⟨t,rfl⟩:=ru;exact⟨_,.str x t,Nat.zero_le _⟩
  |_=>simp only[rd] at h;cases h
 |succ n ih =>
  intro d v u p h r ru;cases r with
  |bR=>simp only[rd] at h;cases h;cases ru;exact⟨_,.none,Nat.zero_le _⟩
  |bl b=>simp only[rd] at h;cases h;cases ru;exact⟨_,.bool b,Nat.zero_le _⟩
  |int i=>simp only[rd] at h;cases h;obtain⟨t,rfl⟩:=ru;exact⟨_,.int i t,Nat.zero_le _⟩
  |str x=>simp only[rd] at h;cases h;obtain⟨t,rfl⟩:=ru;exact⟨_,.str x t,Nat.zero_le _⟩
  |ty x=>simp only[rd] at h;cases h
  |ref ha =>
   rename_i i a;simp only[rd] at h;cases e:c6 g i with
   |none=>simp_all
   |some l =>
    rw[e] at h;dsimp only at h;cases e2:l.mapM (rd g n) with
    |none=>simp_all
    |some ps =>
     rw[e2] at h;cases h;cases ru;obtain⟨vs,hq,rs⟩:=R.items e ha;obtain⟨bt,rv,p,hz⟩:=I.list hq;obtain⟨as,q,hd⟩:=Jh I R n ih e2 rs rv;obtain⟨o,ho,hc,k,qR⟩:=p.isList;refine⟨_,.list ho hc qR (by simpa using q),?_⟩;simp only[PyData.depth];omega
  |tup ht rs =>
   rename_i l a vs;simp only[rd] at h;cases e2:l.mapM (rd g n) with
   |none=>simp_all
   |some ps =>
    rw[e2] at h;cases h;cases ru;obtain⟨bt,rv,pt,hz⟩:=I.tuple ht.sq;obtain⟨as,q,hd⟩:=Jh I R n ih e2 rs rv;obtain⟨o,ho,hc,k,qR⟩:=id pt;refine⟨_,.tuple ho hc qR (by simpa using q),?_⟩;simp only[PyData.depth];omega
end
end
theorem V9{K ρ H}{c:Key}(h:U1 d=some c)(r:d4 K ρ H d v):v=kV c:=by
 cases r<;>first|(cases h;rfl)|cases h
theorem rS.some{K ρ H}{o:Option V}{d:D}(h:rS K ρ H (some d) o):∃v,o=some v/\d4 K ρ H d v:=by
 cases o with
 |none=>exact h.elim
 |some v=>exact⟨v,rfl,h⟩
theorem rS.isSome{K ρ H}{o:Option V}{d:Option D}(h:rS K ρ H d o):d.isSome=o.isSome:=by
 cases o<;>cases d<;>first|rfl|exact h.elim
theorem KP{pins:List (Addr×Obj)}{e:D}{y:V}{v u:Value}{Q:VK}(hu:X.A.units+100<cLine)(I:Inv X pins U H s)(rx:RelV x v)(ry:RelV y u)(R:Rl X.K ρ g H)(iN:d4 X.K ρ H d x)(re:d4 X.K ρ H e y)(h:vK g d e b)(neg:Bool)(q:Q (.bl (xor neg b)) H):wpAny (model X.prog X.w) X.A (compareOp (if neg then .NotEq else .Eq) v u) (EP X pins U Q) X.xe s:=by
 rcases h with⟨i,j,rfl,rfl,rfl⟩|⟨i,j,rfl,rfl,rfl⟩|⟨i,j,rfl,rfl,rfl⟩|⟨p,p',h1,h2,c1,c2,rfl⟩
 ·obtain rfl:=iN.j7;obtain rfl:=re.j7;cases neg
  ·exact Dk pins s U H _ _ v u Q I rx ry ⟨rfl,by simp_all⟩
  ·exact Dm pins s U H _ _ v u Q I rx ry ⟨rfl,by simp_all⟩
 ·obtain rfl:=iN.L0;obtain rfl:=re.L0;cases neg
  ·exact Dk pins s U H _ _ v u Q I rx ry ⟨rfl,by rw[yy];simpa using q⟩
  ·exact Dm pins s U H _ _ v u Q I rx ry ⟨rfl,by rw[yy];simpa using q⟩
 ·obtain rfl:=iN.By;obtain rfl:=re.By;cases neg
  ·exact Dk pins s U H _ _ v u Q I rx ry ⟨rfl,by simp_all⟩
  ·exact Dm pins s U H _ _ v u Q I rx ry ⟨rfl,by simp_all⟩
 ·obtain⟨as,q1,d1⟩:=Q8 I R 6 h1 iN rx;obtain⟨bs,q2,d2⟩:=Q8 I R 6 h2 re ry;have hr:X.A.units+min p.depth p'.depth<cLine:=by omega
  cases neg
  ·exact SeqAt.compareEq_reads q1 q2 c1 c2 hr ⟨.bl _,H,I,rfl,by simpa using q⟩
  ·exact SeqAt.compareNe_reads q1 q2 c1 c2 hr ⟨.bl _,H,I,rfl,by simpa using q⟩
theorem in_of{pins:List (Addr×Obj)}{e:D}{y:V}{v u:Value}{Q:VK}(hu:X.A.units+100<cLine)(I:Inv X pins U H s)(rx:RelV x v)(ry:RelV y u)(R:Rl X.K ρ g H)(iN:d4 X.K ρ H d x)(re:d4 X.K ρ H e y)(h:inR g d e b)(neg:Bool)(q:Q (.bl (xor neg b)) H):wpAny (model X.prog X.w) X.A (compareOp (if neg then .NotIn else .In) v u) (EP X pins U Q) X.xe s:=by
 rcases h with⟨a,kvs,c,rfl,ha,hc,rfl⟩|⟨l,ps,p,h0,h1,h2,c1,c2,rfl⟩
 ·obtain⟨a',rfl,ra⟩:=re.k6;obtain⟨vs,z,rs⟩:=R.ee ha ra;have:=V9 hc iN;subst this;cases ry;rw[(rs.val c).isSome] at q;cases neg
  ·exact Vj () I (O5.k z) rx λs' I'=>⟨.bl _,H,I',rfl,by simpa using q⟩
  ·exact Tb () I (O5.k z) rx λs' I'=>⟨.bl _,H,I',rfl,by simpa using q⟩
 ·obtain⟨as,q1,d1⟩:=Q8 I R 6 h2 iN rx;cases e with
  |tup m =>
   cases h0;have h3:rd g 7 (.tup l)=some (.tuple ps):=by simp only[rd];rw[show l.mapM (rd g 6)=some ps from h1];rfl
   obtain⟨bs,q2,d2⟩:=Q8 I R 7 h3 re ry;have hr:X.A.units+1+min (PyData.depthAll ps) p.depth<cLine:=by omega
   cases neg
   ·exact SeqAt.in_tuple_reads q2 q1 c1 c2 hr ⟨.bl _,H,I,rfl,by simpa using q⟩
   ·exact SeqAt.notIn_tuple_reads q2 q1 c1 c2 hr ⟨.bl _,H,I,rfl,by simpa using q⟩
  |ref a =>
   have h3:rd g 7 (.ref a)=some (.list ps):=by
    simp only[rd];rw[show c6 g a=some l from h0];dsimp only;rw[show l.mapM (rd g 6)=some ps from h1]
    rfl
   obtain⟨bs,q2,d2⟩:=Q8 I R 7 h3 re ry;have hr:X.A.units+1+min (PyData.depthAll ps) p.depth<cLine:=by omega
   cases neg
   ·exact SeqAt.in_list_reads q2 q1 c1 c2 hr ⟨.bl _,H,I,rfl,by simpa using q⟩
   ·exact SeqAt.notIn_list_reads q2 q1 c1 c2 hr ⟨.bl _,H,I,rfl,by simpa using q⟩
  |_=>cases h0
theorem V5(hu:X.A.units+100<cLine)(op:CmpOp):gw X (compareOp op) (r2 X.K (.cmp op)):=by
 intro pins s U H x y v u Q I rx ry h;obtain⟨d,e,g,ρ,R,iN,re,d',g',⟨x',y',b,ex,h,rfl,rfl⟩,q⟩:=h;obtain⟨rfl,rfl⟩:=L6 ex;have fin:=q.now R (.bl b);have oz:∀{P:Int->Int->Bool},(∃i j,d=.int i/\e=.int j/\b=P i j)->∃i j,x=.int i/\y=.int j/\b=P i j:=λhh=>by
  obtain⟨i,j,z1,z2,z3⟩:=hh;exact⟨i,j,(z1▸iN).j7,(z2▸re).j7,z3⟩
 cases op
 ·exact KP hu I rx ry R iN re h false (by simpa using fin)
 ·exact KP hu I rx ry R iN re h true (by simpa using fin)
 ·obtain⟨i,j,e1,e2,e3⟩:=oz (P:=λi j=>decide (i<j)) h;exact Xp pins s U H _ _ v u Q I rx ry ⟨i,j,e1,e2,by subst e3;exact fin⟩
 ·obtain⟨i,j,e1,e2,e3⟩:=oz (P:=λi j=>decide (i<=j)) h;exact Xo pins s U H _ _ v u Q I rx ry ⟨i,j,e1,e2,by subst e3;exact fin⟩
 ·obtain⟨i,j,e1,e2,e3⟩:=oz (P:=λi j=>decide (j<i)) h;exact Xm pins s U H _ _ v u Q I rx ry ⟨i,j,e1,e2,by subst e3;exact fin⟩
 ·obtain⟨i,j,e1,e2,e3⟩:=oz (P:=λi j=>decide (j<=i)) h;exact Xl pins s U H _ _ v u Q I rx ry ⟨i,j,e1,e2,by subst e3;exact fin⟩
 ·obtain⟨rfl,rfl⟩:=(show _/\_ from h)
  obtain rfl:=re.DP;refine Rc pins s U H _ _ v u Q I rx ry ⟨rfl,?_⟩;have e:M8 d=decide (x=V.bR):=by cases iN<;>simp[M8]
  rw[<- e];exact fin
 ·obtain⟨rfl,rfl⟩:=(show _/\_ from h)
  obtain rfl:=re.DP;refine TH pins s U H _ _ v u Q I rx ry ⟨rfl,?_⟩;have e:M8 d=decide (x=V.bR):=by cases iN<;>simp[M8]
  rw[<- e];exact fin
 ·rcases h with h|⟨a,S,n,i,rfl,ha,rfl,rfl⟩
  ·exact in_of hu I rx ry R iN re h false (by simpa using fin)
  ·obtain⟨a',rfl,ra⟩:=re.k6;obtain rfl:=iN.j7;exact Za pins s U H _ _ v u Q I rx ry ⟨i,a',S,n,rfl,rfl,R.set ha ra,fin⟩
 ·rcases h with h|⟨a,S,n,i,rfl,ha,rfl,hb⟩
  ·exact in_of hu I rx ry R iN re h true (by simpa using fin)
  ·obtain⟨a',rfl,ra⟩:=re.k6;obtain rfl:=iN.j7;exact aA1 pins s U H _ _ v u Q I rx ry ⟨i,a',S,n,rfl,rfl,R.set ha ra,by rw[<- hb,Bool.not_not];exact fin⟩
theorem SH{K:PySem.W.Frag}(R:Rl K ρ g H)(r:d4 K ρ H d x)(h:Hr g d b):DV K x H b:=by
 rcases h with z|rfl|⟨i,rfl,rfl⟩|z
 ·exact z.elim
 ·obtain rfl:=r.L0;rfl
 ·obtain rfl:=r.j7;rfl
 ·exact z.elim
theorem SW{K ρ H}{i:Int}(r:c5 K ρ H l vs)(h:gs l i=some d):∃v,gs vs i=some v/\d4 K ρ H d v:=by
 unfold gs at h ⊢;rw[<- r.length];cases e:kY l.length i with
 |none=>simp_all
 |some j =>
  rw[e] at h;exact r.get h
theorem wu{K ρ H}{x:D}(R:Rl K ρ g H)(r:d4 K ρ H x v)(h:N8 g x=some l):∃a vs,v=.ref a/\c5 K ρ H l vs/\((∃i,x=.ref i/\ρ[i]?=some a)/\fS K H a vs\/x=.tup l/\TupAt K H a vs):=by
 cases r with
 |tup ht rs=>cases h;exact⟨_,_,rfl,rs,.inr ⟨rfl,ht⟩⟩
 |ref ha=>obtain⟨vs,hq,rs⟩:=R.items h ha;exact⟨_,_,rfl,rs,.inl ⟨⟨_,rfl,ha⟩,hq⟩⟩
 |_=>cases h
theorem WV(hu:X.A.units+100<cLine):tU X (r2 X.K .ix):=by
 intro value slice pins s U H x y v u Q I rx ry h hs;obtain⟨d,e,g,ρ,R,iN,re,d',g',⟨rfl,h⟩,q⟩:=h;rcases h with⟨x',l,i,ex,hl,ha⟩|⟨a,kvs,y',c,ex,ha,hc,hv⟩|z
 ·obtain⟨rfl,rfl⟩:=L6 ex;obtain rfl:=re.j7;obtain⟨a,vs,rfl,rs,h⟩:=wu R iN hl;obtain⟨w,hw,gp⟩:=SW rs ha;rcases h with⟨_,hq⟩|⟨_,ht⟩
  ·exact Tn value slice pins s U H _ _ v u Q I rx ry ⟨_,_,i,w,rfl,rfl,hq,hw,q.now R gp⟩ hs
  ·exact QC value slice pins s U H _ _ v u Q I rx ry ⟨_,_,i,w,rfl,rfl,ht.sq,hw,q.now R gp⟩ hs
 ·obtain⟨rfl,rfl⟩:=L6 ex;obtain⟨a',rfl,ra⟩:=iN.k6;obtain⟨vs,z,rs⟩:=R.ee ha ra;have:=V9 hc re;subst this;have q2:=rs.val c;rw[hv] at q2;obtain⟨w,hw,gp⟩:=q2.some;exact Tj () value slice pins s U H _ _ v u Q I rx ry ⟨_,w,rfl,by have:=O5.k (k:=c) z;rw[hw] at this;exact this,q.now R gp⟩ hs
 ·exact z.elim
def Mq(K:PySem.W.Frag):V->Option Int->Option Int->Hp->VK->Prop:=λx lo hi H Q=>∃d g ρ d' g',Rl K ρ g H/\d4 K ρ H d x/\uy d lo hi g d' g'/\LQ K ρ H Q d' g'
theorem Lh:Eg X (Mq X.K):=by
 intro pins s U H x v vl vu lo hi sl Q I rx hs pl pu h;obtain⟨d,g,ρ,d',g',R,iN,h,q⟩:=h;rcases h with z|⟨a,l,rfl,hl,rfl,rfl⟩
 ·exact z.elim
 ·obtain⟨a',rfl,ha⟩:=iN.k6;obtain⟨vs,hq,rs⟩:=R.items hl ha;exact UH pins s U H _ v vl vu lo hi sl Q I rx hs pl pu ⟨_,_,rfl,hq,λp hp=>q.new R hp (rs.cut lo hi)⟩
def VJ(K:PySem.W.Frag):V->V->V->Hp->(Hp->Prop)->Prop:=λo i v H Q=>∃Bm di dv g ρ,Rl K ρ g H/\d4 K ρ H Bm o/\d4 K ρ H di i/\d4 K ρ H dv v/\T4 Bm di dv g (λg'=>∀cq H',Ext ρ H cq H'->Rl K cq g' H'->Q H')
theorem Sb(hu:X.A.units+100<cLine):DT X (VJ X.K):=by
 intro pins s U H o i v ov iv u Q I ro ri rv h;obtain⟨Bm,di,dv,g,ρ,R,r1,r2,r3,g',h,q⟩:=h;rcases h with⟨a,i',l,j,rfl,rfl,hl,hj,rfl⟩|⟨a,kvs,c,rfl,ha,hc,hz,rfl⟩
 ·obtain⟨a',rfl,ha⟩:=r1.k6;obtain rfl:=r2.j7;obtain⟨vs,z,rs⟩:=R.lst hl ha;obtain⟨R',e'⟩:=R.write hl ha (rs.set r3 j);exact set_list pins s U H _ _ _ ov iv u Q I ro ri rv ⟨_,vs,_,j,rfl,rfl,z,by rw[<- rs.length];exact hj,q ρ _ e' R'⟩
 ·obtain⟨a',rfl,ra⟩:=r1.k6;obtain⟨vs,z,rs⟩:=R.ee ha ra;have:=V9 hc r2;subst this;obtain⟨R',e'⟩:=R.put (o':=.ee (putD kvs c dv)) (u:=.dK (putK vs c v)) ha rfl ra (rs.put r3);cases ro;exact YI () I (yP.k z (by rw[<- rs.length];exact BY hz)) ri rv λs' I'=>⟨_,I',q ρ _ e' R'⟩
theorem QK:l6 X (.builtin "len") (rN X.K .len):=by
 intro pins s U H xs us Q I r h;obtain⟨ds,g,ρ,R,rs,d',g',⟨rfl,h⟩,q⟩:=h;rcases h with⟨x,l,rfl,hl,rfl⟩|z|z
 ·obtain⟨v,rfl,rv⟩:=rs.one;obtain⟨a,vs,rfl,rl,h⟩:=wu R rv hl;refine aD5 pins s U H _ us Q I r ⟨_,_,rfl,?_,by rw[<- rl.length];exact q.now R (.int _)⟩;exact h.imp (λz=>z.2) (λz=>z.2.sq)
 ·exact z.elim
 ·exact z.elim
theorem Cj{K ρ H}:∀(ks:List Key),c5 K ρ H (ks.map kD) (ks.map kV)
 |[]=>.nil
 |.inl _::r=>.cons (.int _) (Cj r)
 |.inr _::r=>.cons (.str _) (Cj r)
theorem i0.keys{α:Type}{K ρ H}{ds:List (α×D)}{vs:List (α×V)}(h:i0 K ρ H ds vs):ds.map (·.1)=vs.map (·.1):=by
 induction h with
 |nil=>rfl
 |cons _ _ ih=>simp_all
theorem Tq(hc:X.calm=true):l6 X (.type "list") (rN X.K .list):=by
 intro pins s U H xs us Q I r h;obtain⟨ds,g,ρ,R,rs,d',g',⟨x,l,rfl,hl,rfl,rfl⟩|⟨a,kvs,rfl,ha,hn,rfl,rfl⟩,q⟩:=h
 rotate_left
 ·obtain⟨v,rfl,rv⟩:=rs.one;obtain⟨a',rfl,ra⟩:=rv.k6;obtain⟨vs,z,rk⟩:=R.ee ha ra;exact XN hc pins s U H _ us Q I r ⟨_,vs,rfl,z,by rw[<- rk.length];exact hn,λp hp=>q (ρ++[p]) _ _ (C6 hp) (R.new hp (o:=.lst ((kvs.map (·.1)).map kD)) (u:=.lst ((vs.map (·.1)).map kV)) (by rw[rk.keys];exact Cj _)) (.ref (R.w6 p))⟩
 obtain⟨v,rfl,rv⟩:=rs.one;obtain⟨a,vs,rfl,rl,h⟩:=wu R rv hl;exact aD4 pins s U H _ us Q I r ⟨_,_,rfl,h.imp (λz=>z.2) (λz=>z.2.sq),λp hp=>q.new R hp rl⟩
theorem Yp:l6 X (.type "tuple") (rN X.K .tuple):=by
 intro pins s U H xs us Q I r h;obtain⟨ds,g,ρ,R,rs,d',g',⟨x,l,rfl,hl,rfl,rfl⟩,q⟩:=h;obtain⟨v,rfl,rv⟩:=rs.one;obtain⟨a,vs,rfl,rl,h⟩:=wu R rv hl;refine XA pins s U H _ us Q I r ⟨a,vs,rfl,?_⟩;exact h.imp (λz=>⟨z.2,λp hp=>q.tup R hp rl⟩) (λz=>⟨z.2.sq,q.now R (.tup z.2 rl)⟩)
theorem Ti:l6 X (.builtin "isinstance") (rN X.K .isin):=by
 intro pins s U H xs us Q I r h;obtain⟨ds,g,ρ,R,rs,d',g',⟨x,c,b,rfl,hc,hb,rfl,rfl⟩,q⟩:=h;obtain⟨v,w,rfl,r1,r2⟩:=rs.two;obtain rfl:=r2.Qd;have fin:=q.now R (.bl b);have go:∀(t:Value) (v:V),hV X.K H v t->PySem.W.kitOne X.K t (.type c)=some b->Vals [v,V.ty c] us->wpAny (model X.prog X.w) X.A (call (.builtin "isinstance") us) (EP X pins U Q) X.xe s :=
  λt v ht hk r=>aG0 pins s U H _ us Q I r ⟨v,t,c,b,rfl,ht,hk,fin⟩
 simp only[List.mem_cons,List.mem_nil_iff,or_false] at hc;cases r1 with
 |bR=>refine go _ _ .bR ?_ r;cases hb;rcases hc with rfl|rfl|rfl|rfl|rfl<;>rfl
 |bl y=>refine go _ _ (.bl y) ?_ r;cases hb;rcases hc with rfl|rfl|rfl|rfl|rfl<;>rfl
 |int y=>refine go _ _ (.int y) ?_ r;cases hb;rcases hc with rfl|rfl|rfl|rfl|rfl<;>rfl
 |str y=>refine go _ _ (.str y) ?_ r;cases hb;rcases hc with rfl|rfl|rfl|rfl|rfl<;>rfl
 |ty _=>cases hb
 |tup ht rs =>
  cases hb;rcases ht with ht|ht
  ·refine go _ _ (.tup ht) ?_ r;rcases hc with rfl|rfl|rfl|rfl|rfl<;>rfl
  ·obtain⟨o,bt,n,lk,jG,_⟩:=ht;obtain⟨u,w',rfl,ru,gp⟩:=vals2 r;cases (show w'=Value.type c from gp);cases ru;have hk:PySem.W.kitOne X.K (.type "tuple") (.type c)=some (c=="tuple"):=by rcases hc with rfl|rfl|rfl|rfl|rfl<;>rfl
   exact bX LH I.hX ⟨o,I.hX _ _ lk,jG⟩ hk (λz=>nomatch z) λtk=>⟨.bl _,H,I.tok tk,rfl,fin⟩
 |@ref i a ha =>
  have vt:∃m,g'[i]?=some (.lst m)/\b=(c=="list"):=by
   simp only[Ea] at hb;split at hb
   ·exact⟨_,by assumption,(aN hb).symm⟩
   ·cases hb
  obtain⟨m,e,rfl⟩:=vt;obtain⟨vs,z,_⟩:=R.lst e ha;refine go _ _ (.lst z) ?_ r;rcases hc with rfl|rfl|rfl|rfl|rfl<;>rfl
theorem Zy:∀{l:List D} {b:Bool},T3 l=some b->∃bs:List Bool,l=bs.map D.bl/\b=bs.all id:=by
 intro l
 induction l with
 |nil=>intro b h;cases h;exact⟨[],rfl,rfl⟩
 |cons d r ih =>
  intro b h;cases d<;>first|(cases h;done)|skip
  rename_i c;simp only[T3] at h;cases e:T3 r with
  |none=>simp_all
  |some b' =>
   rw[e] at h;cases h;obtain⟨bs,rfl,rfl⟩:=ih e;exact⟨c::bs,rfl,by simp⟩
theorem c5.Si{K ρ H}:∀{bs:List Bool} {vs:List V},c5 K ρ H (bs.map D.bl) vs->vs=bs.map V.bl:=by
 intro bs
 induction bs with
 |nil=>intro vs h;cases h;rfl
 |cons b r ih =>
  intro vs h;cases h with
  |cons h rr=>rw[ih rr,h.L0];rfl
theorem Ql(hc:X.calm=true):l6 X (.builtin "all") (rN X.K .all):=by
 intro pins s U H xs us Q I r h;obtain⟨ds,g,ρ,R,rs,d',g',⟨a,l,b,rfl,hl,hb,rfl,rfl⟩,q⟩:=h;obtain⟨v,rfl,rv⟩:=rs.one;obtain⟨a',rfl,ra⟩:=rv.k6;obtain⟨vs,hq,rs⟩:=R.items hl ra;rcases hb with hb|⟨ns,rfl,rfl⟩
 rotate_left
 ·have:=rs.ints;subst this;exact YA hc pins s U H _ us Q I r ⟨_,ns,rfl,hq,q.now R (.bl _)⟩
 obtain⟨bs,rfl,rfl⟩:=Zy hb;have:=rs.Si;subst this;exact Yz hc pins s U H _ us Q I r ⟨_,bs,rfl,hq,q.now R (.bl _)⟩
theorem Ky{K ρ H}:∀(ns:List Int),c5 K ρ H (ns.map D.int) (ns.map V.int)
 |[]=>.nil
 |_::r=>.cons (.int _) (Ky r)
theorem Yj(hc:X.calm=true):l6 X (.builtin "sorted") (rN X.K .mX):=by
 intro pins s U H xs us Q I r h;obtain⟨ds,g,ρ,R,rs,d',g',z|⟨x,ns,rfl,hx,hn,rfl,rfl⟩,q⟩:=h
 rotate_left
 ·obtain⟨v,rfl,rv⟩:=rs.one;obtain⟨a,vs,rfl,rl,h⟩:=wu R rv hx;have:=rl.ints;subst this;exact XO pins s U H _ us Q I r ⟨_,ns,rfl,h.imp (λz=>z.2) (λz=>z.2.sq),hn,λp hp=>q (ρ++[p]) _ _ (C6 hp) (R.new hp (o:=.lst ((O8 ns).map .int)) (u:=.lst ((O8 ns).map V.int)) (Ky _)) (.ref (R.w6 p))⟩
 exact z.elim
theorem QT(hc:X.calm=true):l6 X (.builtin "max") (rN X.K .max):=by
 intro pins s U H xs us Q I r h;obtain⟨ds,g,ρ,R,rs,d',g',⟨rfl,⟨i,j,rfl,rfl⟩|⟨a,ns,M,rfl,hl,h1,h2,rfl⟩⟩,q⟩:=h
 rotate_left
 ·obtain⟨v,rfl,rv⟩:=rs.one;obtain⟨a',rfl,ra⟩:=rv.k6;obtain⟨vs,hq,rs⟩:=R.items hl ra;have:=rs.ints;subst this;exact YC hc pins s U H _ us Q I r ⟨_,ns,M,rfl,hq,h1,h2,q.now R (.int _)⟩
 obtain⟨v,w,rfl,r1,r2⟩:=rs.two;obtain rfl:=r1.j7;obtain rfl:=r2.j7;exact YB hc pins s U H _ us Q I r ⟨i,j,rfl,q.now R (.int _)⟩
theorem QV(hc:X.calm=true)(hu:X.A.units+100<cLine):l6 X (.builtin "min") (rN X.K .min):=by
 intro pins s U H xs us Q I r h;obtain⟨ds,g,ρ,R,rs,d',g',⟨rfl,⟨i,j,rfl,rfl⟩|z⟩,q⟩:=h
 rotate_left
 ·exact z.elim
 obtain⟨v,w,rfl,r1,r2⟩:=rs.two;obtain rfl:=r1.j7;obtain rfl:=r2.j7;exact YD hc pins s U H _ us Q I r ⟨i,j,rfl,q.now R (.int _)⟩
theorem Su(hc:X.calm=true):l6 X (.builtin "sum") (rN X.K .sum):=by
 intro pins s U H xs us Q I r h;obtain⟨ds,g,ρ,R,rs,d',g',h,q⟩:=h;obtain⟨a,ns,rfl,hl,rfl,rfl⟩:=h;obtain⟨v,rfl,rv⟩:=rs.one;obtain⟨a',rfl,ra⟩:=rv.k6;obtain⟨vs,hq,rs⟩:=R.items hl ra;have:=rs.ints;subst this;exact YE hc pins s U H _ us Q I r ⟨_,ns,rfl,hq,q.now R (.int _)⟩
theorem Qz:l6 X (.type "int") (rN X.K .int):=by
 intro pins s U H xs us Q I r h;obtain⟨ds,g,ρ,R,rs,d',g',⟨rfl,h⟩,q⟩:=h;rcases h with⟨i,rfl,rfl⟩|⟨b,rfl,rfl⟩
 ·obtain⟨v,rfl,rv⟩:=rs.one;obtain rfl:=rv.j7;exact HS pins s U H _ us Q I r (.inl ⟨i,rfl,q.now R (.int _)⟩)
 ·obtain⟨v,rfl,rv⟩:=rs.one;obtain rfl:=rv.L0;exact HS pins s U H _ us Q I r (.inr ⟨b,rfl,q.now R (.int _)⟩)
def rM(K:PySem.W.Frag)(p:Pr):V->List V->Hp->VK->Prop:=λx xs H Q=>∃d ds g ρ,Rl K ρ g H/\d4 K ρ H d x/\c5 K ρ H ds xs/\cQ p (d::ds) g (LQ K ρ H Q)
theorem Z8{a b:D}{m:List D}(h:a::l=b::m):a=b/\l=m:=by cases h;exact⟨rfl,rfl⟩
theorem Yw:nS X "list.append" (rM X.K .append):=by
 intro pins s U H x xs v us Q I rx r h;obtain⟨d,ds,g,ρ,R,rd,rs,d',g',⟨a,y,l,ex,ha,hz,rfl,rfl⟩,q⟩:=h;obtain⟨rfl,rfl⟩:=Z8 ex;obtain⟨a',rfl,ra⟩:=rd.k6;obtain⟨w,rfl,gp⟩:=rs.one;obtain⟨vs,z1,rv⟩:=R.lst ha ra;obtain⟨R2,e2⟩:=R.write ha ra (rv.append (.cons gp .nil));exact YY pins s U H _ _ v us Q I rx r ⟨_,vs,_,rfl,rfl,z1,by rw[<- rv.length];exact BY hz,q ρ _ _ e2 R2 .bR⟩
theorem Tp(hc:X.calm=true):l6 X (.type "set") (rN X.K .nk):=by
 intro pins s U H xs us Q I r h;obtain⟨ds,g,ρ,R,rs,d',g',⟨a,ns,rfl,ha,hz,rfl,rfl⟩,q⟩:=h;obtain⟨v,rfl,rv⟩:=rs.one;obtain⟨a',rfl,ra⟩:=rv.k6;obtain⟨vs,z1,rk⟩:=R.items ha ra;obtain rfl:=rk.ints;refine Xz hc pins s U H _ us Q I r ⟨a',ns,rfl,z1,hz,λp hp=>?_⟩;exact q (ρ++[p]) _ _ (C6 hp) (R.new hp (o:=.set (λk=>decide (k∈ns)) (ST.f7 [] ns).length) (u:=.set (λk=>decide (k∈ns)) (ST.f7 [] ns).length) ⟨rfl,rfl⟩) (.ref (R.w6 p))
theorem i0.Lp{K ρ H}:∀ks:List Int,i0 K ρ H (ks.map λk=>((.inl k:Key),D.bl true)) (ks.map λk=>((.inl k:Key),V.bl true))
 |[]=>.nil
 |_::ks=>.cons (.bl true) (i0.Lp ks)
theorem Ii{K ρ H}:∀{ks:List Int} {vs:List V},c5 K ρ H (ks.map λk=>.tup [.int k,.bl true]) vs->∃ts:List Addr,vs=ts.map V.ref/\ts.length=ks.length/\∀(i:Nat) t k,ts[i]?=some t->ks[i]?=some k->jT K H t [.int k,.bl true]
 |[],_,h=>by cases h;simp
 |k::ks,_,h=>by
  cases h with
  |cons r rs =>
  obtain⟨ts,rfl,hl,ht⟩:=Ii rs;obtain⟨a,vs,rfl,h1,h2⟩:=r.BA;refine⟨a::ts,rfl,by simp[hl],λi t k' e1 e2=>?_⟩;cases i with
  |zero =>
   cases e1;cases e2;cases h2 with
   |cons r1 r2 =>
   cases r2 with
   |cons r2 r3 =>
   cases r3;cases r1;cases r2;exact h1.sq
  |succ i=>exact ht i t k' e1 e2
theorem a54(hc:X.calm=true):l6 X (.type "dict") (rN X.K .kB):=by
 intro pins s U H xs us Q I r h;obtain⟨ds,g,ρ,R,rs,d',g',z|⟨a,ks,rfl,ha,hz,nd,rfl,rfl⟩,q⟩:=h
 ·exact z.elim
 ·obtain⟨v,rfl,rv⟩:=rs.one;obtain⟨a',rfl,ra⟩:=rv.k6;obtain⟨vs,z1,rk⟩:=R.items ha ra;obtain⟨ts,rfl,hl,ht⟩:=Ii rk;refine XZ hc pins s U H _ us Q I r ⟨a',ts,ks,rfl,z1,hl,ht,by omega,nd,λp hp=>?_⟩;exact q (ρ++[p]) _ _ (C6 hp) (R.new hp (o:=.ee (ks.map λk=>(.inl k,.bl true))) (u:=.dK (ks.map λk=>(.inl k,.bl true))) (i0.Lp ks)) (.ref (R.w6 p))
theorem Qu(hu:X.A.units+100<cLine):nS X "dict.get" (rM X.K .get):=by
 intro pins s U H x xs v us Q I rx r h;obtain⟨d,ds,g,ρ,R,rd,rs,d',g',⟨a,y,z,kvs,c,ex,ha,hc,rfl,rfl⟩,q⟩:=h;obtain⟨rfl,rfl⟩:=Z8 ex;obtain⟨a',rfl,ra⟩:=rd.k6;obtain⟨w1,w2,rfl,r1,r2⟩:=rs.two;obtain⟨vs,z1,rv⟩:=R.ee ha ra;have:=V9 hc r1;subst this;obtain⟨u1,u2,rfl,p1,p2⟩:=vals2 r;cases rx;refine Qr () I (O5.k z1) p1 p2 λw' s4 I4 gp=>⟨_,H,I4,gp,q.now R ?_⟩
 have q:=rv.val c;cases e1:p0 kvs c with
 |none =>
  rw[e1] at q;cases e2:K0 vs c with
  |none=>exact r2
  |some w=>rw[e2] at q;exact q.elim
 |some d' =>
  rw[e1] at q;obtain⟨w,hw,q⟩:=q.some
  simp_all
theorem a25:nS X "list.pop" (rM X.K .pop):=by
 intro pins s U H x xs v us Q I rx r h;obtain⟨d,ds,g,ρ,R,rd,rs,y,g',⟨a,i,l,k,ex,ha,h1,h2,hk,hy,rfl⟩,q⟩:=h;obtain⟨rfl,rfl⟩:=Z8 ex;obtain⟨a',rfl,ra⟩:=rd.k6;obtain⟨w,rfl,gp⟩:=rs.one;obtain rfl:=gp.j7;obtain⟨vs,z1,rv⟩:=R.lst ha ra;obtain⟨w,hw,gp⟩:=rv.get hy;obtain⟨R2,e2⟩:=R.write ha ra (rv.erase k);exact a35 pins s U H _ _ v us Q I rx r ⟨_,vs,i,k,w,rfl,rfl,z1,h1,h2,by rw[<- rv.length];exact hk,hw,q ρ _ _ e2 R2 (gp.ext e2)⟩
theorem c5.strs{K ρ H}{ys:List Str}(h:c5 K ρ H (ys.map D.str) vs):vs=ys.map V.str:=by
 induction ys generalizing vs with
 |nil=>cases h;rfl
 |cons y ys ih =>
  cases h with
  |cons q r=>cases q;rw[ih r];rfl
theorem ty_list(R:Rl X.K ρ g H)(r:d4 X.K ρ H d v)(h:∃a l,d=.ref a/\c6 g a=some l):nW X.K "list" v H:=by
 obtain⟨a,l,rfl,hl⟩:=h;obtain⟨a',rfl,ra⟩:=r.k6;obtain⟨vs,hq,_⟩:=R.items hl ra;exact .inl ⟨rfl,vs,hq⟩
theorem Up:nS X "set.add" (rM X.K .kl):=by
 intro pins s U H x xs v us Q I rx r h;obtain⟨d,ds,g,ρ,R,rd,rs,d',g',⟨a,i,S,n,ex,ha,hn,rfl,rfl⟩,q⟩:=h;obtain⟨rfl,rfl⟩:=Z8 ex;obtain⟨a',rfl,ra⟩:=rd.k6;obtain⟨w,rfl,gp⟩:=rs.one;obtain rfl:=gp.j7;obtain⟨R2,e2⟩:=R.put (o':=.set (λk=>S k||decide (k=i)) (if S i then n else n+1)) (u:=.set (λk=>S k||decide (k=i)) (if S i then n else n+1)) ha rfl ra ⟨rfl,rfl⟩;exact ZS pins s U H _ _ v us Q I rx r ⟨_,i,S,n,rfl,rfl,R.set ha ra,hn,q ρ _ _ e2 R2 .bR⟩
theorem ty_set(R:Rl X.K ρ g H)(r:d4 X.K ρ H d v)(h:mM .kl d g):nW X.K "set" v H:=by
 obtain⟨a,S,n,rfl,hl⟩:=h;obtain⟨a',rfl,ra⟩:=r.k6;exact .inr (.inr (.inr ⟨rfl,S,n,R.set hl ra⟩))
theorem ty_dict(R:Rl X.K ρ g H)(r:d4 X.K ρ H d v)(h:mM .get d g):nW X.K "dict" v H:=by
 obtain⟨a,l,rfl,hl⟩:=h;obtain⟨a',rfl,ra⟩:=r.k6;obtain⟨vs,hq,_⟩:=R.ee hl ra;exact .inr (.inr (.inl ⟨rfl,.inl ⟨vs,hq⟩⟩))
noncomputable abbrev iT:=List Str×XK
def LX(K:PySem.W.Frag)(ρ:List Addr)(H:Hp)(Ξ:iT):KX:=λx g'=>∀cq H' C,Ext ρ H cq H'->Rl K cq g' H'->x.cls∈Ξ.1->E2 K x.cls C->Ξ.2 (.ref C) none H'
theorem LX.ext{K:PySem.W.Frag}{cB:List Addr}{H1:Hp}{Ξ:iT}(e:Ext ρ H cB H1){x:Xn}(h:LX K ρ H Ξ x g):LX K cB H1 Ξ x g:=λcq H' C e' R hm c=>h cq H' C (e.trans e') R hm c
noncomputable abbrev rT(ex:List Str):iT:=(ex,λ_ _ _=>False)
def LE(K:PySem.W.Frag)(Ξ:iT)(t:S->G->KD->KX->Prop):TE:=λcA H Q=>∃U g ρ,p8 K ρ H U cA/\Rl K ρ g H/\t U g (LQ K ρ H Q) (LX K ρ H Ξ)
def LT(K:PySem.W.Frag)(Ξ:iT)(t:S->G->(Bool->G->Prop)->KX->Prop):TT:=λcA H Q=>∃U g ρ,p8 K ρ H U cA/\Rl K ρ g H/\t U g (λb g'=>∀cq H',Ext ρ H cq H'->Rl K cq g' H'->Q b H') (LX K ρ H Ξ)
def LA(K:PySem.W.Frag)(Ξ:iT)(t:S->G->(List D->G->Prop)->KX->Prop):TA:=λcA H Q=>∃U g ρ,p8 K ρ H U cA/\Rl K ρ g H/\t U g (λds g'=>∀cq H' vs,Ext ρ H cq H'->Rl K cq g' H'->c5 K cq H' ds vs->Q vs H') (LX K ρ H Ξ)
def U5(K:PySem.W.Frag)(gI:List Addr)(H0:Hp)(k:IK)(J:It):Prop:=∀ρ g H,Ext gI H0 ρ H->Rl K ρ g H->∀i,(k.at i g=some none->J.stop i H) /\
 ∀d,k.at i g=some (some d)->J.go i H/\∀v H',J.qi i H v H'->Ext ρ H ρ H'/\Rl K ρ g H'/\d4 K ρ H' d v
def LI(K:PySem.W.Frag)(Ξ:iT)(t:S->G->(IK->G->Prop)->KX->Prop):TI:=λcA H R=>∃U g ρ,p8 K ρ H U cA/\Rl K ρ g H/\t U g (λk g'=>∀cq H' J,Ext ρ H cq H'->Rl K cq g' H'->U5 K cq H' k J->R J H') (LX K ρ H Ξ)
def LG(K:PySem.W.Frag)(t:MT):TG:=λv cA H Q=>∃d U g ρ,p8 K ρ H U cA/\Rl K ρ g H/\d4 K ρ H d v/\jK t d U (λcc=>∀dz,p8 K ρ H cc dz->Q dz H)
def LN(K:PySem.W.Frag)(ρ:List Addr)(H:Hp)(N:L2.Ends):Ends where
 nx:=λcc g'=>∀cq H' dz,Ext ρ H cq H'->Rl K cq g' H'->p8 K cq H' cc dz->N.nx dz H'
 rt:=LQ K ρ H N.rt
 bk:=λcc g'=>∀cq H' dz,Ext ρ H cq H'->Rl K cq g' H'->p8 K cq H' cc dz->N.bk dz H'
 ct:=λcc g'=>∀cq H' dz,Ext ρ H cq H'->Rl K cq g' H'->p8 K cq H' cc dz->N.ct dz H'
def LS(K:PySem.W.Frag)(Ξ:iT)(t:Ends->S->G->KX->Prop):TS:=λN cA H=>∃U g ρ,p8 K ρ H U cA/\Rl K ρ g H/\t (LN K ρ H N) U g (LX K ρ H Ξ)
end M
namespace L2
open PySem PySem.Spec PyProof.Rows
variable{t t':TT}
section
variable{X:Cx}{e:Expr}
theorem PE.imp{t t':TE}(h:PE X e t)(i:∀U H Q,t' U H Q->t U H Q):PE X e t':=λpins s U H Q I q=>h pins s U H Q I (i U H Q q)
theorem PT.imp(h:PT X e t)(i:∀U H Q,t' U H Q->t U H Q):PT X e t':=λpins s U H Q I q=>h pins s U H Q I (i U H Q q)
theorem PW.imp(h:PW X e t)(i:∀U H Q,t' U H Q->t U H Q):PW X e t':=λw pins s U H Q I q=>h w pins s U H Q I (i U H Q q)
theorem PA.imp{es:List Expr}{t t':TA}(h:PA X es t)(i:∀U H Q,t' U H Q->t U H Q):PA X es t':=λp pins s U H Q I q=>h p pins s U H Q I (i U H Q q)
theorem lR.imp{es:List Expr}(h:lR X es t)(i:∀U H Q,t' U H Q->t U H Q):lR X es t':=λpins s U H Q I q=>h pins s U H Q I (i U H Q q)
theorem PI.imp{tg:Expr}{t t':TI}(h:PI X tg e t)(i:∀U H Q,t' U H Q->t U H Q):PI X tg e t':=λpins s U H Q I q=>h pins s U H Q I (i U H Q q)
theorem PG.imp{t t':TG}(h:PG X e t)(i:∀v U H Q,t' v U H Q->t v U H Q):PG X e t':=λpins s U H v u Q I r q=>h pins s U H v u Q I r (i v U H Q q)
theorem PS.imp{st:Stmt}{t t':TS}(h:PS X st t)(i:∀N U H,t' N U H->t N U H):PS X st t':=λpins s U H N I q=>h pins s U H N I (i N U H q)
theorem jU.imp{st:List Stmt}{t t':TS}(h:jU X st t)(i:∀N U H,t' N U H->t N U H):jU X st t':=λpins s U H N I q=>h pins s U H N I (i N U H q)
end
end L2
namespace M
open PySem L2 PySem.Spec PyProof.Rows
variable{Ξ:iT}{P:fK}{op iw:CmpOp}{rest es:List Expr}{jw:ME}{p2 q jN:Pos}
section
variable{K:PySem.W.Frag}(hP:i8 P){ρ gI:List Addr}{H H0:Hp}{U:S}{cA:L2.St}{g:G}{m:ME}
include hP
theorem gg{Q0:KD}{Q:VK}(s:p8 K ρ H U cA)(R:Rl K ρ g H)(e0:Ext gI H0 ρ H)(h:bp P m U g Q0 (LX K gI H0 Ξ))(k:∀x g1 cB H1 v1,Ext ρ H cB H1->Rl K cB g1 H1->d4 K cB H1 x v1->Q0 x g1->Q v1 H1):LE K Ξ (bp P m) cA H Q :=
 ⟨U,g,ρ,s,R,b9 hP m _ _ _ _ _ _ (λx g1 h cB H1 v1 e1 R1 r1=>k x g1 cB H1 v1 e1 R1 r1 h) (λ_ _ z=>LX.ext e0 z) h⟩
theorem kU{Q0:List D->G->Prop}{Q:List V->Hp->Prop}(s:p8 K ρ H U cA)(R:Rl K ρ g H)(e0:Ext gI H0 ρ H)(h:gT P m U g Q0 (LX K gI H0 Ξ))(k:∀x g1 cB H1 v1,Ext ρ H cB H1->Rl K cB g1 H1->c5 K cB H1 x v1->Q0 x g1->Q v1 H1):LA K Ξ (gT P m) cA H Q :=
 ⟨U,g,ρ,s,R,C3 hP m _ _ _ _ _ _ (λx g1 h cB H1 v1 e1 R1 r1=>k x g1 cB H1 v1 e1 R1 r1 h) (λ_ _ z=>LX.ext e0 z) h⟩
theorem pB{Q0:Bool->G->Prop}{Q:Bool->Hp->Prop}(s:p8 K ρ H U cA)(R:Rl K ρ g H)(e0:Ext gI H0 ρ H)(h:eA P m U g Q0 (LX K gI H0 Ξ))(k:∀t g1 cB H1,Ext ρ H cB H1->Rl K cB g1 H1->Q0 t g1->Q t H1):LT K Ξ (eA P m) cA H Q :=
 ⟨U,g,ρ,s,R,q8 hP m _ _ _ _ _ _ (λt g1 h cB H1 e1 R1=>k t g1 cB H1 e1 R1 h) (λ_ _ z=>LX.ext e0 z) h⟩
theorem sj{ms:MS}{N:L2.Ends}{N0:Ends}(s:p8 K ρ H U cA)(R:Rl K ρ g H)(e0:Ext gI H0 ρ H)(h:wpS P ms N0 U g (LX K gI H0 Ξ))(k:N0.le (LN K ρ H N)):LS K Ξ (wpS P ms) N cA H :=
 ⟨U,g,ρ,s,R,wpS_mono hP ms _ _ _ _ _ _ k (λ_ _ z=>LX.ext e0 z) h⟩
end
theorem c5.mI{K ρ H}(lo:Int)(n:Nat):c5 K ρ H (j6 lo n) ((List.range n).map λ(k:Nat)=>V.int (lo+k)):=by
 have:∀l:List Nat,c5 K ρ H (l.map λ(k:Nat)=>D.int (lo+k)) (l.map λ(k:Nat)=>V.int (lo+k)):=by
  intro l
  induction l with
  |nil=>exact .nil
  |cons x r ih=>exact .cons (.int _) ih
 exact this _
section
variable{X:Cx}(hP:i8 P){a b c e:Expr}{ma mb mc:ME}{pos:Pos}{p:Pr}
include hP
theorem Bx(h:PE X e (sk (r2 X.K p) (LE X.K Ξ (bp P ma)) (LE X.K Ξ (bp P mb)))):PE X e (LE X.K Ξ (bp P (.prim p (.cons ma (.cons mb .nil))))) :=
 h.imp λcA H Q bB=>by
  obtain⟨U,g,ρ,s,R,h⟩:=bB;exact gg hP s R (.refl _ _) h λx g1 cB H1 v1 e1 R1 r1 h=>gg hP (s.ext e1) R1 e1 h λy g2 fE H2 v2 e2 R2 r2 h =>
   ⟨x,y,g2,fE,R2,r1.ext e2,r2,u5 (λd g' h=>h.ext (e1.trans e2)) h⟩
theorem Sr(h:PT X e (Dv (sk (r2 X.K (.cmp op)) (LE X.K Ξ (bp P ma)) (LE X.K Ξ (bp P mb))))):PT X e (LT X.K Ξ (eA P (.fG (.prim (.cmp op) (.cons ma (.cons mb .nil)))))) :=
 h.imp λcA H Q bB=>by
  obtain⟨U,g,ρ,s,R,h⟩:=bB;refine gg hP s R (.refl _ _) h λx g1 cB H1 v1 e1 R1 r1 h=>gg hP (s.ext e1) R1 e1 h λy g2 fE H2 v2 e2 R2 r2 h=>?_;obtain⟨d',g',h,q⟩:=h;obtain⟨x',y',t,ex,hc,rfl,rfl⟩:=id h;refine⟨x,y,g',fE,R2,r1.ext e2,r2,_,_,h,λcq H' v e' R' r'=>?_⟩;obtain⟨t',ht,q⟩:=q;rcases ht with⟨z,_⟩|z|⟨i,z,_⟩|⟨l,z,_⟩|⟨a,l,z,_⟩<;>cases z
  exact⟨_,r'.L0,q cq H' (e1.trans (e2.trans e')) R'⟩
theorem PJ{op:UnaryOp}(ha:PE X a (LE X.K Ξ (bp P ma))):PE X (.UnaryOp op a pos) (LE X.K Ξ (bp P (.prim (.un op) (.cons ma .nil)))) :=
 (Pt (Xr op) ha).imp λcA H Q bB=>by
  obtain⟨U,g,ρ,s,R,h⟩:=bB;exact gg hP s R (.refl _ _) h λx g1 cB H1 v1 e1 R1 r1 h=>⟨x,g1,cB,R1,r1,u5 (λd g' h=>h.ext e1) h⟩
theorem Ku:∀cA H Q,LE X.K Ξ (bp P (.chain op iw ma mb mc)) cA H Q->Bz (r2 X.K (.cmp op)) (r2 X.K (.cmp iw)) (LE X.K Ξ (bp P ma)) (LE X.K Ξ (bp P mb)) (LE X.K Ξ (bp P mc)) cA H Q:=λcA H Q bB=>by
 obtain⟨U,g,ρ,s,R,h⟩:=bB;refine gg hP s R (.refl _ _) h λx g1 cB H1 v1 e1 R1 r1 h=>gg hP (s.ext e1) R1 e1 h λy g2 fE H2 v2 e2 R2 r2 h=>?_;refine⟨x,y,g2,fE,R2,r1.ext e2,r2,u5 (λd g3 h jv H3 v3 e3 R3 r3=>?_) h⟩;obtain⟨t,rfl,h⟩:=h;obtain rfl:=r3.L0;refine⟨t,rfl,?_⟩;cases t
 ·exact h jv H3 _ (e1.trans (e2.trans e3)) R3 (.bl _)
 ·exact gg hP (s.ext (e1.trans (e2.trans e3))) R3 (e1.trans (e2.trans e3)) h λz g4 qh H4 v4 e4 R4 r4 h =>
   ⟨y,z,g4,qh,R4,r2.ext (e3.trans e4),r4,u5 (λd g' h=>h.ext (e1.trans (e2.trans (e3.trans e4)))) h⟩
theorem a05(hu:X.A.units+100<cLine)(ha:PE X a (LE X.K Ξ (bp P ma)))(hb:PE X b (LE X.K Ξ (bp P mb)))(hc:PE X c (LE X.K Ξ (bp P mc)))(hm:lastMarks [op,iw] [b,c]=false) :
  PE X (.Compare a [op,iw] [b,c] pos) (LE X.K Ξ (bp P (.chain op iw ma mb mc))):=(a31 (V5 hu op) (V5 hu iw) ha hb hc hm).imp (Ku hP)
theorem a57{U:S}{g:G}{Q:Bool->G->Prop}{E:KX}(h:eA P (.fG (.chain op iw ma mb mc)) U g Q E):bp P (.chain op iw ma mb mc) U g (λd g'=>∃t,d=.bl t/\Q t g') E:=by
 have one:∀{o:CmpOp} {xs:List D} {g:G},cQ (.cmp o) xs g (λd g1=>qa g1 d λb=>Q b g1)->cQ (.cmp o) xs g λd g'=>∃t,d=.bl t/\Q t g':=by
  intro o xs g h;obtain⟨d',g',h,t',ht,q⟩:=h;obtain⟨x',y',t,ex,hc,rfl,rfl⟩:=id h;refine⟨_,_,h,t',?_,q⟩;rcases ht with⟨z,_⟩|z|⟨i,z,_⟩|⟨l,z,_⟩|⟨a,l,z,_⟩<;>first|exact z|cases z
 refine b9 hP ma _ _ _ _ _ _ (λx g1 h=>b9 hP mb _ _ _ _ _ _ (λy g2 h=>u5 (λz g3 h=>?_) h) (λ_ _ z=>z) h) (λ_ _ z=>z) h;obtain⟨t,rfl,h⟩:=h;refine⟨t,rfl,?_⟩;cases t
 ·obtain⟨b,hb,q⟩:=(show qa g3 (.bl false) λb=>Q b g3 from h)
  rcases hb with⟨z,_⟩|z|⟨i,z,_⟩|⟨l,z,_⟩|⟨a,l,z,_⟩<;>first|(cases z;exact⟨_,rfl,q⟩)|cases z
 ·exact b9 hP mc _ _ _ _ _ _ (λw g4 h=>one h) (λ_ _ z=>z) h
theorem Yl(hu:X.A.units+100<cLine)(ha:PE X a (LE X.K Ξ (bp P ma)))(hb:PE X b (LE X.K Ξ (bp P mb)))(hc:PE X c (LE X.K Ξ (bp P mc)))(hm:lastMarks [op,iw] [b,c]=false) :
  PT X (.Compare a [op,iw] [b,c] pos) (LT X.K Ξ (eA P (.fG (.chain op iw ma mb mc)))) :=
 (a21 (V5 hu op) (V5 hu iw) ha hb hc hm).imp λcA H Q ⟨U,g,ρ,s,R,h⟩ =>
  Ku hP cA H _ (gg hP s R (.refl _ _) (a57 hP h) λx g1 cB H1 v1 e1 R1 r1 h=>by
   obtain⟨t,rfl,h⟩:=h;exact ⟨t,r1.L0,h cB H1 e1 R1⟩)
theorem RS(ha:PE X a (LE X.K Ξ (bp P ma)))(hb:PE X (.BoolOp .And (b::rest) pos) (LE X.K Ξ (bp P mb))):PE X (.BoolOp .And (a::b::rest) pos) (LE X.K Ξ (bp P (.dA ma mb))) :=
 (Rn ha hb).imp λcA H Q bB=>by
  obtain⟨U,g,ρ,s,R,h⟩:=bB;refine gg hP s R (.refl _ _) h λx g1 cB H1 v1 e1 R1 r1 h=>?_;obtain⟨t,rfl,h⟩:=h;refine⟨t,r1.L0,?_⟩;cases t
  ·exact h cB H1 _ e1 R1 (.bl _)
  ·exact gg hP (s.ext e1) R1 e1 h λy g2 fE H2 v2 e2 R2 r2 h=>h fE H2 v2 (e1.trans e2) R2 r2
theorem PH(ha:PE X a (LE X.K Ξ (bp P ma)))(hb:PE X (.BoolOp .Or (b::rest) pos) (LE X.K Ξ (bp P mb))):PE X (.BoolOp .Or (a::b::rest) pos) (LE X.K Ξ (bp P (.jd ma mb))) :=
 (Pq ha hb).imp λcA H Q bB=>by
  obtain⟨U,g,ρ,s,R,h⟩:=bB;refine gg hP s R (.refl _ _) h λx g1 cB H1 v1 e1 R1 r1 h=>?_;obtain⟨t,rfl,h⟩:=h;refine⟨t,r1.L0,?_⟩;cases t
  ·exact gg hP (s.ext e1) R1 e1 h λy g2 fE H2 v2 e2 R2 r2 h=>h fE H2 v2 (e1.trans e2) R2 r2
  ·exact h cB H1 _ e1 R1 (.bl _)
theorem RY(ha:PE X a (LE X.K Ξ (bp P ma))):PE X (.UnaryOp .Not a pos) (LE X.K Ξ (bp P (.dQ ma))) :=
 (Rv ha).imp λcA H Q bB=>by
  obtain⟨U,g,ρ,s,R,h⟩:=bB;refine gg hP s R (.refl _ _) h λx g1 cB H1 v1 e1 R1 r1 h=>?_;obtain⟨t,rfl,h⟩:=h;exact⟨t,r1.L0,h cB H1 _ e1 R1 (.bl _)⟩
theorem RV(hc:PT X c (LT X.K Ξ (eA P mc)))(ha:PE X a (LE X.K Ξ (bp P ma)))(hb:PE X b (LE X.K Ξ (bp P mb))):PE X (.IfExp c a b pos) (LE X.K Ξ (bp P (.ite mc ma mb))) :=
 (a29 hc ha hb).imp λcA H Q bB=>by
  obtain⟨U,g,ρ,s,R,h⟩:=bB;refine pB hP s R (.refl _ _) h λt g1 cB H1 e1 R1 h=>?_;cases t
  ·exact gg hP (s.ext e1) R1 e1 h λy g2 fE H2 v2 e2 R2 r2 h=>h fE H2 v2 (e1.trans e2) R2 r2
  ·exact gg hP (s.ext e1) R1 e1 h λy g2 fE H2 v2 e2 R2 r2 h=>h fE H2 v2 (e1.trans e2) R2 r2
theorem RZ{k:Nat}(h:PA X es (LA X.K Ξ (gT P jw))):PE X (.Tuple es k pos) (LE X.K Ξ (bp P (.prim .tup jw))) :=
 (Ry h).imp λcA H Q bB=>by
  obtain⟨U,g,ρ,s,R,h⟩:=bB;refine kU hP s R (.refl _ _) h λds g1 cB H1 vs e1 R1 r1 h=>?_;obtain⟨d',g',⟨hz,rfl,rfl⟩,q⟩:=h;exact⟨by rw[<- r1.length];exact Z2 (aC hz ∅),λp hp=>(q.ext e1).tup R1 hp r1⟩
theorem RX(h:PA X es (LA X.K Ξ (gT P jw))):PE X (.List es pos) (LE X.K Ξ (bp P (.prim .lst jw))) :=
 (Rt h).imp λcA H Q bB=>by
  obtain⟨U,g,ρ,s,R,h⟩:=bB;refine kU hP s R (.refl _ _) h λds g1 cB H1 vs e1 R1 r1 h=>?_;obtain⟨d',g',⟨hz,rfl,rfl⟩,q⟩:=h;exact⟨by rw[<- r1.length];exact Z2 (aC hz ∅),λp hp=>(q.ext e1).new R1 hp r1⟩
theorem K4:PA X [] (LA X.K Ξ (gT P .nil)) :=
 (V3 (X:=X)).imp λcA H Q bB=>by
  obtain⟨U,g,ρ,s,R,h⟩:=bB;exact h ρ H [] (.refl _ _) R .nil
theorem B8(ha:PE X a (LE X.K Ξ (bp P ma)))(h:PA X es (LA X.K Ξ (gT P jw)))(hs:starEach (a::es) X.env=(false,eval a X.env)::starEach es X.env):PA X (a::es) (LA X.K Ξ (gT P (.cons ma jw))) :=
 (Q3 ha h hs).imp λcA H Q bB=>by
  obtain⟨U,g,ρ,s,R,h⟩:=bB;exact gg hP s R (.refl _ _) h λx g1 cB H1 v1 e1 R1 r1 h=>kU hP (s.ext e1) R1 e1 h λxs g2 fE H2 vs e2 R2 r2 h=>h fE H2 _ (e1.trans e2) R2 (.cons (r1.ext e2) r2)
theorem Yh(ha:PE X a (LE X.K Ξ (bp P ma)))(hb:PE X b (LE X.K Ξ (bp P mb))):PE X (.Subscript a (.Slice (some b) none none p2) pos) (LE X.K Ξ (bp P (.prim (.mf true false) (.cons ma (.cons mb .nil))))) :=
 (Hy Lh ha (Ke hb) Kd).imp λcA H Q bB=>by
  obtain⟨U,g,ρ,s,R,h⟩:=bB;refine gg hP s R (.refl _ _) h λx g1 cB H1 v1 e1 R1 r1 h=>gg hP (s.ext e1) R1 e1 h λy g2 fE H2 v2 e2 R2 r2 h=>?_;obtain⟨d',g',⟨x',i,ex,h⟩,q⟩:=h;cases ex;exact⟨i,r2.j7,x,g2,fE,d',g',R2,r1.ext e2,h,q.ext (e1.trans e2)⟩
theorem Yg(ha:PE X a (LE X.K Ξ (bp P ma)))(hb:PE X b (LE X.K Ξ (bp P mb))):PE X (.Subscript a (.Slice none (some b) none p2) pos) (LE X.K Ξ (bp P (.prim (.mf false true) (.cons ma (.cons mb .nil))))) :=
 (Hy Lh ha Kd (Ke hb)).imp λcA H Q bB=>by
  obtain⟨U,g,ρ,s,R,h⟩:=bB;refine gg hP s R (.refl _ _) h λx g1 cB H1 v1 e1 R1 r1 h=>gg hP (s.ext e1) R1 e1 h λy g2 fE H2 v2 e2 R2 r2 h=>?_;obtain⟨d',g',⟨x',i,ex,h⟩,q⟩:=h;cases ex;exact⟨i,r2.j7,x,g2,fE,d',g',R2,r1.ext e2,h,q.ext (e1.trans e2)⟩
theorem Ss(ha:PE X a (LE X.K Ξ (bp P ma)))(he:∀whole,isTrue a X.env whole=(do let v <- whole;standAt a.pos;holding [v] (truthy v))):PT X a (LT X.K Ξ (eA P (.fG ma))) :=
 (a20 ha he).imp λcA H Q bB=>by
  obtain⟨U,g,ρ,s,R,h⟩:=bB;refine gg hP s R (.refl _ _) h λx g1 cB H1 v1 e1 R1 r1 h=>?_;obtain⟨b,h1,h2⟩:=h;exact⟨b,SH R1 r1 h1,h2 cB H1 e1 R1⟩
theorem Sq(ha:PT X a (LT X.K Ξ (eA P ma))):PT X (.UnaryOp .Not a pos) (LT X.K Ξ (eA P (.dQ ma))) :=
 (RK ha).imp λcA H Q bB=>by
  obtain⟨U,g,ρ,s,R,h⟩:=bB;exact pB hP s R (.refl _ _) h λt g1 cB H1 e1 R1 h=>h cB H1 e1 R1
theorem Sv(ha:PT X a (LT X.K Ξ (eA P ma)))(hb:PW X (.BoolOp .And (b::rest) pos) (LT X.K Ξ (eA P mb))):PW X (.BoolOp .And (a::b::rest) pos) (LT X.K Ξ (eA P (.dA ma mb))) :=
 (RL ha hb).imp λcA H Q bB=>by
  obtain⟨U,g,ρ,s,R,h⟩:=bB;refine pB hP s R (.refl _ _) h λt g1 cB H1 e1 R1 h=>?_;cases t
  ·exact h cB H1 e1 R1
  ·exact pB hP (s.ext e1) R1 e1 h λt g2 fE H2 e2 R2 h=>h fE H2 (e1.trans e2) R2
theorem PL(ha:PT X a (LT X.K Ξ (eA P ma)))(hb:PW X (.BoolOp .Or (b::rest) pos) (LT X.K Ξ (eA P mb))):PW X (.BoolOp .Or (a::b::rest) pos) (LT X.K Ξ (eA P (.jd ma mb))) :=
 (Px ha hb).imp λcA H Q bB=>by
  obtain⟨U,g,ρ,s,R,h⟩:=bB;refine pB hP s R (.refl _ _) h λt g1 cB H1 e1 R1 h=>?_;cases t
  ·exact pB hP (s.ext e1) R1 e1 h λt g2 fE H2 e2 R2 h=>h fE H2 (e1.trans e2) R2
  ·exact h cB H1 e1 R1
theorem UJ:lR X [] (LT X.K Ξ (eA P .no)) :=
 (Uh (X:=X)).imp λcA H Q bB=>by
  obtain⟨U,g,ρ,s,R,h⟩:=bB;exact h ρ H (.refl _ _) R
theorem RT{x:Str}{v:Value}(hv:(∃id,v=.builtin id)\/∃T,v=.type T)(hc:l6 X v (rN X.K p))(hg:Gl X x)(hm:X.mg x=none)(hb:bootBuiltins x=some v)(ha:PA X (e::es) (LA X.K Ξ (gT P jw)))(hn:x≠"__name__")(hd:(x==("__debug__":Str))=false)(fR:starEach (e::es) X.env=(false,eval e X.env)::starEach es X.env)(gF:(backTo pos (starEach es X.env)).any (·.1)=false):PE X (.Call (.Name x q) (e::es) [] pos) (LE X.K Ξ (bp P (.prim p jw))):=by
 have base:PE X (.Call (.Name x q) (e::es) [] pos) (zt (rN X.K p) (LA X.K Ξ (gT P jw))):=by
  rcases hv with⟨id,rfl⟩|⟨T,rfl⟩
  ·exact X8 hc hg hm hb ha hn hd fR gF
  ·exact N4 hc hg hm hb ha hn hd fR gF
 refine base.imp λcA H Q bB=>?_;obtain⟨U,g,ρ,s,R,h⟩:=bB;exact kU hP s R (.refl _ _) h λxs g1 cB H1 vs e1 R1 r1 h=>⟨xs,g1,cB,R1,r1,u5 (λd g' h=>h.ext e1) h⟩
theorem Uv{o:Expr}{mo:ME}{T:String}{name:Str}{id:String}{apos:Pos}(pa:PlainAttrs T)(slot:Slot T name id)(jF:typeOf (.builtin id)=pure (.type "method_descriptor"))(hm:nS X id (rM X.K p))(hk:∀{d:D} {v:V} {g:G} {ρ:List Addr} {H:Hp},Rl X.K ρ g H->d4 X.K ρ H d v->mM p d g->nW X.K T v H)(ho:PE X o (LE X.K Ξ (bp P mo)))(ha:PA X (e::es) (LA X.K Ξ (gT P jw)))(jl:attributeBase o name X.env (eval o X.env)=eval o X.env)(qP:((backTo pos (starEach (e::es) X.env)).all (λx=>!x.1)&&(backToKw pos (keywordEach [] X.env)).all (λx=>x.1.isSome)&&decide ((e::es).length+([]:List Keyword).length+(if([]:List Keyword).isEmpty then 0 else 1)<30))=true)(ji:(apos.endLine==pos.line)=true)(hs:starEach (e::es) X.env=(false,eval e X.env)::starEach es X.env)(lg:(backTo pos (starEach es X.env)).any (·.1)=false) :
  PE X (.Call (.Attribute o name apos) (e::es) [] pos) (LE X.K Ξ (bp P (.eX p mo jw))) :=
 (Xu pa slot jF hm ho ha jl qP ji hs lg).imp λcA H Q bB=>by
  obtain⟨U,g,ρ,s,R,h⟩:=bB;exact gg hP s R (.refl _ _) h λx g1 cB H1 v1 e1 R1 r1 h=>⟨hk R1 r1 h.1,kU hP (s.ext e1) R1 e1 h.2 λxs g2 fE H2 ws e2 R2 r2 h =>
   ⟨x,xs,g2,fE,R2,r1.ext e2,r2,u5 (λd g' h=>h.ext (e1.trans e2)) h⟩⟩
theorem a01{o:Expr}{mo:ME}{T:String}{name:Str}{id:String}{apos:Pos}(pa:PlainAttrs T)(slot:Slot T name id)(jF:typeOf (.builtin id)=pure (.type "method_descriptor"))(hm:nS X id (rM X.K p))(hk:∀{d:D} {v:V} {g:G} {ρ:List Addr} {H:Hp},Rl X.K ρ g H->d4 X.K ρ H d v->mM p d g->nW X.K T v H)(ho:PE X o (LE X.K Ξ (bp P mo)))(jl:attributeBase o name X.env (eval o X.env)=eval o X.env)(ji:(apos.endLine==pos.line)=true) :
  PE X (.Call (.Attribute o name apos) [] [] pos) (LE X.K Ξ (bp P (.eX p mo .nil))) :=
 (Ro pa slot jF hm ho jl ji).imp λcA H Q bB=>by
  obtain⟨U,g,ρ,s,R,h⟩:=bB;exact gg hP s R (.refl _ _) h λx g1 cB H1 v1 e1 R1 r1 h=>⟨hk R1 r1 h.1,x,[],g1,cB,R1,r1,.nil,u5 (λd g' h=>h.ext e1) h.2⟩
theorem a04(hc:X.calm=true)(ha:PE X a (LE X.K Ξ (bp P ma)))(nB:Gl X "list")(ny:X.mg "list"=none)(hg:Gl X "range")(hm:X.mg "range"=none)(hs:starEach [a] X.env=[(false,eval a X.env)]) :
  PE X (.Call (.Name "list" p2) [.Call (.Name "range" q) [a] [] pos] [] jN) (LE X.K Ξ (bp P (.prim .jf (.cons ma .nil)))) :=
 (N4 (Jp hc) nB ny (by rfl) (Q3 (Zd hg hm (B8 hP ha (K4 hP) (by rw[hs];rfl)) hs) V3)).imp λcA H Q bB=>by
  obtain⟨U,g,ρ,s,R,h⟩:=bB;refine kU hP s R (.refl _ _) h λxs g1 cB H1 vs e1 R1 r1 h=>?_;obtain⟨d',g',⟨j,rfl,h1,h2,rfl,rfl⟩,q⟩:=h;obtain⟨v,rfl,rv⟩:=r1.one;obtain rfl:=rv.j7;refine⟨j,rfl,λq' hq=>⟨q',0,j,rfl,u4,⟨by omega,by omega,h1,by omega,by omega⟩,λp hp=>?_⟩⟩;rw[show(j-0).toNat=j.toNat by omega];exact(q.ext (e1.trans (A5 hq))).new (R1.grow hq) hp (c5.mI 0 _)
theorem a03(hc:X.calm=true)(ha:PE X a (LE X.K Ξ (bp P ma)))(hb:PE X b (LE X.K Ξ (bp P mb)))(nB:Gl X "list")(ny:X.mg "list"=none)(hg:Gl X "range")(hm:X.mg "range"=none)(hs:starEach [a,b] X.env=[(false,eval a X.env),(false,eval b X.env)])(gi:starEach [b] X.env=[(false,eval b X.env)]) :
  PE X (.Call (.Name "list" p2) [.Call (.Name "range" q) [a,b] [] pos] [] jN) (LE X.K Ξ (bp P (.prim .ku (.cons ma (.cons mb .nil))))) :=
 (N4 (Jp hc) nB ny (by rfl) (Q3 (Ze hg hm (B8 hP ha (B8 hP hb (K4 hP) (by rw[gi];rfl)) (by rw[hs,gi])) hs gi) V3)).imp λcA H Q bB=>by
  obtain⟨U,g,ρ,s,R,h⟩:=bB;refine kU hP s R (.refl _ _) h λxs g1 cB H1 vs e1 R1 r1 h=>?_;obtain⟨d',g',⟨i,j,rfl,hb,rfl,rfl⟩,q⟩:=h;obtain⟨v,w,rfl,rv,gp⟩:=r1.two;obtain rfl:=rv.j7;obtain rfl:=gp.j7;exact⟨i,j,rfl,λq' hq=>⟨q',i,j,rfl,u4,hb,λp hp=>(q.ext (e1.trans (A5 hq))).new (R1.grow hq) hp (c5.mI i _)⟩⟩
theorem Ux(hc:X.calm=true)(ha:PE X a (LE X.K Ξ (bp P ma)))(nB:Gl X "sorted")(ny:X.mg "sorted"=none)(hg:Gl X "set")(hm:X.mg "set"=none)(hs:starEach [a] X.env=[(false,eval a X.env)]) :
  PE X (.Call (.Name "sorted" p2) [.Call (.Name "set" q) [a] [] pos] [] jN) (LE X.K Ξ (bp P (.prim .sset (.cons ma .nil)))) :=
 (X8 (S7 hc) nB ny (by rfl) (Q3 (N4 (Jl hc) hg hm (by rfl) (B8 hP ha (K4 hP) (by rw[hs];rfl)) ∅ ∅ (by rw[hs];rfl) rfl) V3)).imp λcA H Q bB=>by
  obtain⟨U,g,ρ,s,R,h⟩:=bB;refine kU hP s R (.refl _ _) h λxs g1 cB H1 vs e1 R1 r1 h=>?_;obtain⟨d',g',⟨i,ns,rfl,hl,hz,rfl,rfl⟩,q⟩:=h;obtain⟨v,rfl,rv⟩:=r1.one;obtain⟨a',rfl,ra⟩:=rv.k6;obtain⟨ws,hq,rs⟩:=R1.items hl ra;obtain rfl:=rs.ints;refine⟨_,ns,rfl,hq,hz,λq' nv=>⟨q',ns,rfl,u4,hz,λp hp=>?_⟩⟩;exact(q.ext (e1.trans (A5 nv))).new (R1.grow nv) hp (c5.ofInts _)
theorem Ut(hc:X.calm=true)(ha:PE X a (LE X.K Ξ (bp P ma)))(nB:Gl X "len")(ny:X.mg "len"=none)(hg:Gl X "set")(hm:X.mg "set"=none)(hs:starEach [a] X.env=[(false,eval a X.env)]) :
  PE X (.Call (.Name "len" p2) [.Call (.Name "set" q) [a] [] pos] [] jN) (LE X.K Ξ (bp P (.prim .pZ (.cons ma .nil)))) :=
 (X8 Xy nB ny PySem.boot_len (Q3 (N4 (Jl hc) hg hm (by rfl) (B8 hP ha (K4 hP) (by rw[hs];rfl)) ∅ ∅ (by rw[hs];rfl) rfl) V3)).imp λcA H Q bB=>by
  obtain⟨U,g,ρ,s,R,h⟩:=bB;refine kU hP s R (.refl _ _) h λxs g1 cB H1 vs e1 R1 r1 h=>?_;obtain⟨d',g',⟨i,ns,rfl,hl,hz,rfl,rfl⟩,q⟩:=h;obtain⟨v,rfl,rv⟩:=r1.one;obtain⟨a',rfl,ra⟩:=rv.k6;obtain⟨ws,hq,rs⟩:=R1.items hl ra;obtain rfl:=rs.ints;refine⟨_,ns,rfl,hq,by omega,λq' nv=>⟨q',_,rfl,u4,?_⟩⟩;exact(q.ext (e1.trans (A5 nv))).now (R1.grow nv) (.int _)
theorem Uw{i:Int}{j:Nat}(nE:PySem.W.kdsCode X.K X.env.code=true):PE X (.Set [.Constant (.int i) j q] 0 pos) (LE X.K Ξ (bp P (.prim (.kj i) .nil))) :=
 (TX nE).imp λcA H Q bB=>by
  obtain⟨U,g,ρ,s,R,h⟩:=bB;obtain⟨d',g',⟨_,rfl,rfl⟩,q⟩:=h;exact λp hp=>q (ρ++[p]) _ _ (C6 hp) (R.new hp (o:=.set (λk=>decide (k=i)) 1) (u:=.set (λk=>decide (k=i)) 1) ⟨rfl,rfl⟩) (.ref (R.w6 p))
theorem RU{f:Str}(ha:PE X a (LE X.K Ξ (bp P ma)))(hb:attributeBase a f X.env (eval a X.env)=eval a X.env):PE X (.Attribute a f pos) (LE X.K Ξ (bp P (.prim (.fld f) (.cons ma .nil)))) :=
 (Rp ha hb).imp λcA H Q bB=>by
  obtain⟨U,g,ρ,s,R,h⟩:=bB;refine gg hP s R (.refl _ _) h λx g1 cB H1 v1 e1 R1 r1 h=>?_;obtain⟨d',g',⟨i,c,fs,ex,hi,hf,rfl⟩,q⟩:=h;cases ex;obtain⟨a',rfl,ra⟩:=r1.k6;obtain⟨C,dx,vs,hH,_,hC,rk,na⟩:=R1.ins hi ra;have lk:=rk.look f;rw[hf] at lk;obtain⟨v,hv,rv⟩:=lk.some;exact⟨a',C,dx,vs,v,rfl,hH,hC,na _ (aS hf),hv,q cB H1 v e1 R1 rv⟩
end
section
variable{X:Cx}{pos:Pos}
theorem Sa{i:Nat}{x:Str}(hN:X.N[i]?=some x)(hv:wG X.env.scope x)(hd:(x==("__debug__":Str))=false)(mq:(x==("__classdict__":Str))=false):PE X (.Name x pos) (LE X.K Ξ (bp P (.var i))) :=
 (Rz hN hv hd mq).imp λcA H Q bB=>by
  obtain⟨U,g,ρ,s,R,h⟩:=bB;obtain⟨d,e,h⟩:=h;obtain⟨v,h1,h2⟩:=s.val _ _ e;exact⟨v,h1,h.now R h2⟩
theorem U8{e:Expr}{d:D}{v:V}(h:PE X e (tC v))(r:∀ρ H,d4 X.K ρ H d v):PE X e (LE X.K Ξ (bp P (.lit d))) :=
 h.imp λcA H Q bB=>by
  obtain⟨U,g,ρ,s,R,h⟩:=bB;exact LQ.now h R (r ρ H)
theorem Ur:PE X (.Dict [] [] pos) (LE X.K Ξ (bp P (.prim .Z6 .nil))) :=
 (a30 (X:=X)).imp λcA H Q ⟨U,g,ρ,s,R,h⟩ p hp=>by
  obtain⟨d',g',⟨_,rfl,rfl⟩,q⟩:=h;exact q (ρ++[p]) _ _ (C6 hp) (R.new hp (o:=.ee []) (u:=.dK []) i0.nil) (.ref (R.w6 p))
end
end M
namespace L2
open PySem PySem.Spec PyProof.Rows
end L2
namespace M
open PySem L2 PySem.Spec PyProof.Rows
variable{K:PySem.W.Frag}{H H0:Hp}{a fa C:Addr}{x:Str}{p:Pos}{k f j:Nat}{fd:FuncData}{ps:List Str}{gI:List Addr}{vs:List V}
inductive pW(K:PySem.W.Frag):List D->List (Str×V)->Prop
 |nil:pW K [] []
 |cons {x:Str} {d:D} {v:V} {ds:List D} {vs:List (Str×V)} (h:∀ρ H,d4 K ρ H d v) (r:pW K ds vs):pW K (.tup [.str x,d]::ds) ((x,v)::vs)
theorem pW.look{ρ:List Addr}{ds vs}(x:Str)(h:pW K ds vs):rS K ρ H (M7 ds x) (vs.lookup x):=by
 induction h with
 |nil=>trivial
 |cons h r ih =>
  rename_i y d v ds vs;unfold M7;rw[dH];by_cases e:x=y
  ·rw[aJ e,show(x==y)=true from by simp[e]];exact h ρ H
  ·rw[aD e,show(x==y)=false from by simpa using e];exact ih
def Hv(X:Cx)(x:Str)(kvs:List D):Prop:=∃A vs,X.mg x=some (.ref A)/\xY X.K X.w.params A vs/\pW X.K kvs vs
section
variable{X:Cx}{Ξ:iT}{P:fK}(hP:i8 P){a c:Expr}{ma:ME}{pos:Pos}
include hP
theorem Us{kvs:List D}(hg:Gl X x)(hd:(x==("__debug__":Str))=false)(hG:Hv X x kvs)(ha:PE X a (LE X.K Ξ (bp P ma)))(hs:BK a):PE X (.Subscript (.Name x p) a pos) (LE X.K Ξ (bp P (.prim .nK (.cons (.lit (.tup kvs)) (.cons ma .nil))))):=by
 obtain⟨A,vs,hmg,hk,gr⟩:=hG;refine(Lb (WU (kvs:=vs)) (Kb (v:=.ref A) hg hmg rfl hd) ha hs).imp λcA H Q bB=>?_;obtain⟨U,g,ρ,s,R,h⟩:=bB;refine gg hP s R (.refl _ _) h λd g1 cB H1 v1 e1 R1 r1 h=>?_;obtain⟨d',g',⟨jO,z,ex,hz,rfl⟩,q⟩:=h;cases ex;obtain rfl:=r1.By;have lk:=gr.look (ρ:=cB) (H:=H1) z;rw[hz] at lk;obtain⟨w,hw,lk⟩:=lk.some;exact⟨A,z,w,rfl,hk,rfl,hw,q cB H1 _ e1 R1 lk⟩
omit hP in
def pD(ex:List Str)(K:PySem.W.Frag)(n:Nat)(t:List D->G->KD->KX->Prop):Sp:=λvs H Q E=>vs.length=n/\∃ds g ρ,c5 K ρ H ds vs/\Rl K ρ g H/\t ds g (LQ K ρ H Q) (LX K ρ H (ex,E))
omit hP in
def pe(X:Cx)(P:fK)(ex:List Str)(k f:Nat)(fa:Addr)(fd:FuncData)(ps:List Str):Prop :=
 ir X.prog X.w X.K X.mg X.base (kE X.prog X.w) k fa fd ps (pD ex X.K ps.length (P f))/\Binds X.K fd ps []/\∀ds g Q E,P f ds g Q E->ds.length=ps.length
theorem Dt{k:Nat}(F:pe X P Ξ.1 k f fa fd ps){ρ:List Addr}{g:G}{xs:List D}{Q0:KD}{Q:VK}(e0:Ext gI H0 ρ H)(R:Rl X.K ρ g H)(r:c5 X.K ρ H xs vs)(h:P f xs g Q0 (LX X.K gI H0 Ξ))(k:∀d g',Q0 d g'->LQ X.K ρ H Q d g'):pD Ξ.1 X.K ps.length (P f) (vs++[]) H Q Ξ.2:=by
 rw[dg];exact⟨by rw[<- r.length];exact F.2.2 _ _ _ _ h,xs,g,ρ,r,R,hP _ _ _ _ _ _ _ k (λ_ _ z=>LX.ext e0 z) h⟩
theorem Uq{es:List Expr}{e:Expr}{jw:ME}(hx:Passes (kE X.prog X.w) X Ξ.2)(F:pe X P Ξ.1 k f fa fd ps)(hr:v7 k X.A)(hg:Gl X x)(hm:X.mg x=some (.ref fa))(hk:PySem.W.keepIn X.K (.ref fa)=true)(ha:PA X (e::es) (LA X.K Ξ (gT P jw)))(hd:(x==("__debug__":Str))=false)(fR:starEach (e::es) X.env=(false,eval e X.env)::starEach es X.env)(gF:(backTo pos (starEach es X.env)).any (·.1)=false):PE X (.Call (.Name x p) (e::es) [] pos) (LE X.K Ξ (bp P (.call f jw))) :=
 (TR F.1 hr hg hm hk F.2.1 .nil hx ha hd fR gF).imp λcA H Q bB=>by
  obtain⟨U,g,ρ,s,R,h⟩:=bB;exact kU hP s R (.refl _ _) h λxs g1 cB H1 vs e1 R1 r1 h=>Dt hP F e1 R1 r1 h λd g' h=>h.ext e1
theorem a06(hx:Passes (kE X.prog X.w) X Ξ.2)(F:pe X P Ξ.1 k f fa fd ps)(hr:v7 k X.A)(hg:Gl X x)(hm:X.mg x=some (.ref fa))(hk:PySem.W.keepIn X.K (.ref fa)=true)(hd:(x==("__debug__":Str))=false):PE X (.Call (.Name x p) [] [] pos) (LE X.K Ξ (bp P (.call f .nil))) :=
 (a32 F.1 hr hg hm hk F.2.1 .nil hx hd).imp λcA H Q bB=>by
  obtain⟨U,g,ρ,s,R,h⟩:=bB;exact Dt hP F (.refl _ _) R .nil h λd g' h=>h
theorem JX{c:Str}(F:pe X P Ξ.1 k f fa fd ps)(hC:E2 X.K c C)(hc:jn X.K C){ρ:List Addr}{g1:G}{xs:List D}{Q:VK}(e0:Ext gI H0 ρ H)(R:Rl X.K ρ g1 H)(r:c5 X.K ρ H xs vs)(h:P f (.ref g1.length::xs) (g1++[.ins c []]) (λd g2=>d=.bR/\LQ X.K gI H0 Q (.ref g1.length) g2) (LX X.K gI H0 Ξ)):∀x dx,H x=none->H dx=none->dx≠x->pD Ξ.1 X.K ps.length (P f) (.ref x::(vs++[])) (upd (upd H dx (.own x)) x (.ins C dx [])) (λv H2=>v=.bR/\Q (.ref x) H2) Ξ.2:=by
 intro x dx hx FZ fF;have xr:upd H dx (.own x) x=none:=by rw[d8 (cz fF)];exact hx
 have R2:=R.grow (o:=.own x) FZ;have e2:Ext ρ H ρ (upd H dx (.own x)):=A5 FZ;have R3:=R2.new (o:=.ins c []) (u:=.ins C dx []) xr ⟨hC,hc,.nil,λx hx=>absurd hx (by simp)⟩;have e3:Ext ρ (upd H dx (.own x)) (ρ++[x]) (upd (upd H dx (.own x)) x (.ins C dx [])):=C6 xr;have:=Dt hP F (e0.trans (e2.trans e3)) R3 (.cons (.ref (R.w6 x)) (r.ext (e2.trans e3))) h (Q:=λv H2=>v=.bR/\Q (.ref x) H2) λd g' q cq H' v e' R' r'=>by
  obtain⟨rfl,q⟩:=q;exact⟨r'.DP,q cq H' _ (e0.trans (e2.trans (e3.trans e'))) R' (.ref (e'.get (R.w6 x)))⟩
 exact this
theorem Uu{es:List Expr}{e:Expr}{jw:ME}(hx:Passes (kE X.prog X.w) X Ξ.2)(F:pe X P Ξ.1 k f fa fd ps)(M:Mk X.K C fa)(hC:E2 X.K x C)(hc:jn X.K C)(hr:v7 (k+1) X.A)(hg:Gl X x)(hm:X.mg x=some (.ref C))(ha:PA X (e::es) (LA X.K Ξ (gT P jw)))(hd:(x==("__debug__":Str))=false)(fR:starEach (e::es) X.env=(false,eval e X.env)::starEach es X.env)(gF:(backTo pos (starEach es X.env)).any (·.1)=false):PE X (.Call (.Name x p) (e::es) [] pos) (LE X.K Ξ (bp P (.make x f jw))) :=
 (TV M F.1 hr hg hm F.2.1 .nil hx ha hd fR gF).imp λcA H Q bB=>by
  obtain⟨U,g,ρ,s,R,h⟩:=bB;exact kU hP s R (.refl _ _) h λxs g1 cB H1 vs e1 R1 r1 h=>JX hP F hC hc e1 R1 r1 h
theorem a02(hx:Passes (kE X.prog X.w) X Ξ.2)(F:pe X P Ξ.1 k f fa fd ps)(M:Mk X.K C fa)(hC:E2 X.K x C)(hc:jn X.K C)(hr:v7 (k+1) X.A)(hg:Gl X x)(hm:X.mg x=some (.ref C))(hd:(x==("__debug__":Str))=false):PE X (.Call (.Name x p) [] [] pos) (LE X.K Ξ (bp P (.make x f .nil))) :=
 (a28 M F.1 hr hg hm F.2.1 .nil hx hd).imp λcA H Q bB=>by
  obtain⟨U,g,ρ,s,R,h⟩:=bB;exact JX hP F hC hc (.refl _ _) R .nil h
end
inductive nP(K:PySem.W.Frag)(ρ:List Addr)(H:Hp):List D->List (V×V)->Prop
 |nil:nP K ρ H [] []
 |cons {k d:D} {x y:V} {ds:List D} {ps:List (V×V)} (h1:d4 K ρ H k x) (h2:d4 K ρ H d y) (r:nP K ρ H ds ps):nP K ρ H (k::d::ds) ((x,y)::ps)
section
variable{X:Cx}{Ξ:iT}{P:fK}(hP:i8 P)
inductive wR(X:Cx)(Ξ:iT)(P:fK):List (Option Expr)->List Expr->ME->List (TE×TE)->Prop
 |nil:wR X Ξ P [] [] .nil []
 |cons {k v:Expr} {ks:List (Option Expr)} {vs:List Expr} {mk mv ms:ME} {xa:List (TE×TE)} (hk:PE X k (LE X.K Ξ (bp P mk))) (hv:PE X v (LE X.K Ξ (bp P mv))) (r:wR X Ξ P ks vs ms xa) :
   wR X Ξ P (some k::ks) (v::vs) (.cons mk (.cons mv ms)) ((LE X.K Ξ (bp P mk),LE X.K Ξ (bp P mv))::xa)
theorem wR.len{ks vs ms xa}(h:wR X Ξ P ks vs ms xa):ks.all (·.isSome)=true/\ks.length=vs.length:=by
 induction h with
 |nil=>exact⟨rfl,rfl⟩
 |cons hk hv r ih=>exact⟨by simpa using ih.1,by simp[ih.2]⟩
include hP
end
theorem WZ{l:List D}(ht:TupAt K H0 a vs)(rs:c5 K gI H0 l vs):U5 K gI H0 (.fix l) (Ei K a):=by
 intro ρ g H e R i;have pG:=ht.ext e;have qo:=rs.ext e;refine⟨λh=>⟨vs,pG.sq,?_⟩,λd h=>?_⟩
 ·have:=de.mp (aN h);rw[<- qo.length];exact this
 ·obtain⟨v,hv,rv⟩:=qo.get (aN h);refine⟨⟨vs,v,pG.sq,hv⟩,λw H' y=>?_⟩;obtain⟨rfl,y⟩:=y;have:=y vs pG.sq;rw[hv] at this;cases this;exact⟨.refl _ _,R,rv⟩
theorem WX(ha:gI[j]?=some a):U5 K gI H0 (.lst j) (Ej K a):=by
 intro ρ g H e R i;have mr:=e.get ha;refine⟨λh=>?_,λd h=>?_⟩
 ·simp only[IK.at] at h;cases el:c6 g j with
  |none=>simp_all
  |some l =>
   rw[el] at h;obtain⟨vs,hq,rs⟩:=R.items el mr;refine⟨vs,hq,?_⟩;have:=de.mp (aN h);rw[<- rs.length];exact this
 ·simp only[IK.at] at h;cases el:c6 g j with
  |none=>simp_all
  |some l =>
   rw[el] at h;obtain⟨vs,hq,rs⟩:=R.items el mr;obtain⟨v,hv,rv⟩:=rs.get (aN h);refine⟨⟨vs,v,hq,hv⟩,λw H' y=>?_⟩;obtain⟨rfl,y⟩:=y;have:=y vs hq;rw[hv] at this;cases this;exact⟨.refl _ _,R,rv⟩
theorem KW{lo:Int}{n:Nat}:U5 K gI H0 (.fix (j6 lo n)) (wM lo n):=by
 unfold j6;intro ρ g H e R i;refine⟨λh=>?_,λd h=>?_⟩
 ·have:=de.mp (aN h);show n<=i;simpa using this
 ·have h:=aN h;have hi:i<n:=by
   have:=(au.mp h).1
   simp_all
  rw[ag,cg hi] at h;cases h;refine⟨hi,λw H' y=>?_⟩;obtain⟨rfl,rfl⟩:=y;exact⟨.refl _ _,R,.int _⟩
theorem WY{n:Nat}(ha:gI[j]?=some a):U5 K gI H0 (.sv j n) (Eh K a n):=by
 intro ρ g H e R i;have mr:=e.get ha;refine⟨λh=>?_,λd h=>?_⟩
 ·simp only[IK.at] at h;cases el:c6 g j with
  |none=>simp_all
  |some l =>
   rw[el] at h;dsimp only at h;by_cases hl:l.length=n
   ·rw[aJ hl] at h;have h:=aN h;by_cases hi:i<n
    ·rw[aJ hi] at h;have:=de.mp h;omega
    ·exact Nat.le_of_not_lt hi
   simp_all
 ·simp only[IK.at] at h;cases el:c6 g j with
  |none=>simp_all
  |some l =>
   rw[el] at h;dsimp only at h;by_cases hl:l.length=n
   ·rw[aJ hl] at h;have h:=aN h;by_cases hi:i<n
    ·rw[aJ hi] at h;obtain⟨vs,hq,rs⟩:=R.items el mr;obtain⟨v,hv,rv⟩:=rs.get h;refine⟨⟨vs,v,hq,by rw[<- rs.length];exact hl,hi,hv⟩,λw H' y=>?_⟩;obtain⟨rfl,y⟩:=y;have:=y vs hq;rw[hv] at this;cases this;exact⟨.refl _ _,R,rv⟩
    ·rw[aD hi] at h;cases h
   simp_all
theorem WW(ha:gI[j]?=some a):U5 K gI H0 (.oW j) (Ek K a):=by
 intro ρ g H e R i;have mr:=e.get ha;refine⟨λh=>?_,λd h=>?_⟩
 ·simp only[IK.at] at h;cases el:c6 g j with
  |none=>rw[el] at h;cases h
  |some l =>
   rw[el] at h;obtain⟨vs,hq,rs⟩:=R.items el mr;refine⟨vs,hq,?_⟩;have h:=aN h;rw[Option.map_eq_none_iff] at h;have:=de.mp h;rw[<- rs.length];exact this
 ·simp only[IK.at] at h;cases el:c6 g j with
  |none=>simp_all
  |some l =>
   rw[el] at h;obtain⟨vs,hq,rs⟩:=R.items el mr;have h:=aN h;rw[aa] at h;obtain⟨d',hd,rfl⟩:=h;obtain⟨v,hv,rv⟩:=rs.get hd;refine⟨⟨vs,v,hq,hv⟩,λw H' y=>?_⟩;obtain⟨p,x,hp,rfl,y,rfl⟩:=y;have:=y vs hq;rw[hv] at this;cases this;exact⟨A5 hp,R.grow hp,.tup (.inl u4) (.cons (.int _) (.cons (rv.ext (A5 hp)) .nil))⟩
end M
namespace L2
open PySem PySem.Spec PyProof.Rows
theorem RD{X:Cx}{tg l:Expr}{tl:TE}(hl:PE X l tl):PI X tg l (λU H R=>tl U H λx H1=>(∃a,x=.ref a/\(∃xs,fS X.K H1 a xs)/\R (Ej X.K a) H1)\/(∃a,x=.ref a/\(∃xs,jT X.K H1 a xs)/\R (Ei X.K a) H1)):=by
 intro pins s U H R I h;refine cU (hl pins s U H _ I h) λv s1 bB=>?_;obtain⟨x,H1,I1,r1,q1⟩:=bB;rcases q1 with⟨a,e,⟨xs,hq⟩,q⟩|⟨a,e,⟨xs,hq⟩,q⟩
 ·subst e;cases r1;obtain⟨bt,rv,p,hz⟩:=I1.list hq;refine fT p.isList ?_;refine⟨s1.heap.objs.size,[s1.heap.objs.size],_,_,H1,rfl,I1.kept (t':=s1.toks) λb o e=>aj _ e,Zx a _,⟨_,aB _ rfl,rfl,rfl⟩,λb hb=>?_,q⟩;have e:b=s1.heap.objs.size:=by simpa using hb
  subst e;exact I1.pX (av _) (I1.cu.fresh (av _))
 ·subst e;cases r1;obtain⟨bt,rv,p,hz⟩:=I1.tuple hq;refine wpAny_pyIter_tuple (show s1.heap.IsTuple a bt.toArray from p) ?_;refine⟨s1.heap.objs.size,[s1.heap.objs.size],_,_,H1,rfl,I1.kept (t':=s1.toks) λb o e=>aj _ e,aK1 a _,⟨_,aB _ rfl,rfl,rfl⟩,λb hb=>?_,q⟩;have e:b=s1.heap.objs.size:=by simpa using hb
  subst e;exact I1.pX (av _) (I1.cu.fresh (av _))
end L2
namespace M
open PySem L2 PySem.Spec PyProof.Rows
variable{X:Cx}{tg:Expr}{pos p tp:Pos}{i:Nat}{x:Str}{t:MT}{mi:ME}
section
variable{Ξ:iT}{P:fK}(hP:i8 P){a b:Expr}{ma mb:ME}
include hP
theorem Sf(ha:PE X a (LE X.K Ξ (bp P ma))):PI X tg a (LI X.K Ξ (gS P (.eY ma))) :=
 (RD ha).imp λcA H R bB=>by
  obtain⟨U,g,ρ,s,Rr,h⟩:=bB;refine gg hP s Rr (.refl _ _) h λx g1 cB H1 v1 e1 R1 r1 h=>?_;rcases h with⟨l,rfl,h⟩|⟨i,l,rfl,hl,h⟩
  ·obtain⟨a',vs,rfl,ht,rs⟩:=r1.BA;exact .inr ⟨_,rfl,⟨_,ht.sq⟩,h cB H1 _ e1 R1 (WZ ht rs)⟩
  ·obtain⟨a',rfl,mr⟩:=r1.k6;obtain⟨vs,hq,rs⟩:=R1.items hl mr;exact .inl ⟨_,rfl,⟨_,hq⟩,h cB H1 _ e1 R1 (WX mr)⟩
theorem UD{elts:List Expr}{x1:Nat}(ha:PE X a (LE X.K Ξ (bp P ma)))(hg:Gl X "enumerate")(hm:X.mg "enumerate"=none)(hs:starEach [a] X.env=[(false,eval a X.env)]):PI X (.Tuple elts x1 tp) (.Call (.Name "enumerate" p) [a] [] pos) (LI X.K Ξ (gS P (.kZ ma))) :=
 (TZ hg hm (B8 hP ha (K4 hP) (by rw[hs];rfl)) hs).imp λcA H R bB=>by
  obtain⟨U,g,ρ,s,Rr,h⟩:=bB;refine kU hP (m:=.cons ma .nil) s Rr (.refl _ _) (Q0:=λxs g1=>∃a l,xs=[.ref a]/\c6 g1 a=some l/\∀cq H' J,Ext ρ H cq H'->Rl X.K cq g1 H'->U5 X.K cq H' (.oW a) J->R J H') ?_ λxs g1 cB H1 vs e1 R1 r1 h=>?_
  ·exact b9 hP ma _ _ _ _ _ _ (λx g1 ⟨i,l,e,hl,h⟩=>⟨i,l,by rw[e],hl,h⟩) (λ_ _ z=>z) h
  ·obtain⟨j,l,rfl,hl,h⟩:=h;obtain⟨v,rfl,rv⟩:=r1.one;obtain⟨a',rfl,ra⟩:=rv.k6;obtain⟨vs,hq,rs⟩:=R1.items hl ra;exact⟨_,rfl,⟨_,hq⟩,h cB H1 _ e1 R1 (WW ra)⟩
theorem Se(ha:PE X a (LE X.K Ξ (bp P ma)))(hg:Gl X "reversed")(hm:X.mg "reversed"=none)(hs:starEach [a] X.env=[(false,eval a X.env)]):PI X tg (.Call (.Name "reversed" p) [a] [] pos) (LI X.K Ξ (gS P (.nX ma))) :=
 (RC hg hm (B8 hP ha (K4 hP) (by rw[hs];rfl)) hs).imp λcA H R bB=>by
  obtain⟨U,g,ρ,s,Rr,h⟩:=bB;refine kU hP (m:=.cons ma .nil) s Rr (.refl _ _) (Q0:=λxs g1=>∃a l,xs=[.ref a]/\c6 g1 a=some l/\∀cq H' J,Ext ρ H cq H'->Rl X.K cq g1 H'->U5 X.K cq H' (.sv a l.length) J->R J H') ?_ λxs g1 cB H1 vs e1 R1 r1 h=>?_
  ·exact b9 hP ma _ _ _ _ _ _ (λx g1 ⟨i,l,e,hl,h⟩=>⟨i,l,by rw[e],hl,h⟩) (λ_ _ z=>z) h
  ·obtain⟨j,l,rfl,hl,h⟩:=h;obtain⟨v,rfl,rv⟩:=r1.one;obtain⟨a',rfl,ra⟩:=rv.k6;obtain⟨vs,hq,rs⟩:=R1.items hl ra;exact⟨_,vs,rfl,hq,h cB H1 _ e1 R1 (by rw[rs.length];exact WY ra)⟩
theorem UE(ha:PE X a (LE X.K Ξ (bp P ma)))(hg:Gl X "range")(hm:X.mg "range"=none)(hs:starEach [a] X.env=[(false,eval a X.env)]):PI X tg (.Call (.Name "range" p) [a] [] pos) (LI X.K Ξ (gS P (.eO ma))) :=
 (Zh hg hm (B8 hP ha (K4 hP) (by rw[hs];rfl)) hs).imp λcA H R bB=>by
  obtain⟨U,g,ρ,s,Rr,h⟩:=bB;refine kU hP (m:=.cons ma .nil) s Rr (.refl _ _) (Q0:=λxs g1=>∃j:Int,xs=[.int j]/\-(2 ^ 62)<=j/\j<2 ^ 62/\∀cq H' J,Ext ρ H cq H'->Rl X.K cq g1 H'->U5 X.K cq H' (.fix (j6 0 j.toNat)) J->R J H') ?_ λxs g1 cB H1 vs e1 R1 r1 h=>?_
  ·exact b9 hP ma _ _ _ _ _ _ (λx g1 ⟨j,e,h1,h2,h⟩=>⟨j,by rw[e],h1,h2,h⟩) (λ_ _ z=>z) h
  ·obtain⟨j,rfl,h1,h2,h⟩:=h;obtain⟨v,rfl,rv⟩:=r1.one;obtain rfl:=rv.j7;exact⟨_,rfl,h1,h2,h cB H1 _ e1 R1 KW⟩
theorem UG(ha:PE X a (LE X.K Ξ (bp P ma)))(hb:PE X b (LE X.K Ξ (bp P mb)))(hg:Gl X "range")(hm:X.mg "range"=none)(hs:starEach [a,b] X.env=[(false,eval a X.env),(false,eval b X.env)])(gi:starEach [b] X.env=[(false,eval b X.env)]) :
  PI X tg (.Call (.Name "range" p) [a,b] [] pos) (LI X.K Ξ (gS P (.kx ma mb))) :=
 (Zi hg hm (B8 hP ha (B8 hP hb (K4 hP) (by rw[gi];rfl)) (by rw[hs,gi])) hs gi).imp λcA H R bB=>by
  obtain⟨U,g,ρ,s,Rr,h⟩:=bB;refine kU hP (m:=.cons ma (.cons mb .nil)) s Rr (.refl _ _) (Q0:=λxs g1=>∃i j:Int,xs=[.int i,.int j]/\(-(2 ^ 62)<=i/\i<2 ^ 62/\-(2 ^ 62)<=j/\j<2 ^ 62)/\∀cq H' J,Ext ρ H cq H'->Rl X.K cq g1 H'->U5 X.K cq H' (.fix (j6 i (j-i).toNat)) J->R J H') ?_ λxs g1 cB H1 vs e1 R1 r1 h=>?_
  ·exact b9 hP ma _ _ _ _ _ _ (λx g1 h=>b9 hP mb _ _ _ _ _ _ (λy g2 ⟨i,j,e,e',h1,h⟩=>⟨i,j,by rw[e,e'],h1,h⟩) (λ_ _ z=>z) h) (λ_ _ z=>z) h
  ·obtain⟨i,j,rfl,h1,h⟩:=h;obtain⟨v,w,rfl,rv,gp⟩:=r1.two;obtain rfl:=rv.j7;obtain rfl:=gp.j7;exact⟨_,_,rfl,h1,h cB H1 _ e1 R1 KW⟩
end
theorem Sd(hN:X.Nd)(hi:X.N[i]?=some x)(hx:Loc X.env.scope x)(hf:X.fn x=true\/X.env.scope.names.lookup x=some .local):PG X (.Name x pos) (LG X.K (.one i)) :=
 (Kc hN hi hx hf).imp λv cA H Q hq=>by
  obtain⟨d,U,g,ρ,s,R,r,h⟩:=hq;exact h _ (s.set i r)
inductive fX(X:Cx):List Expr->List Nat->Prop
 |nil:fX X [] []
 |cons {x:Str} {p:Pos} {i:Nat} {es:List Expr} {is:List Nat} (hi:X.N[i]?=some x) (hx:Loc X.env.scope x) (hf:X.fn x=true\/X.env.scope.names.lookup x=some .local) (r:fX X es is):fX X (.Name x p::es) (i::is)
def DJ:List Nat->qb
 |[]=>Hd
 |i::is=>KR (tO i) (DJ is)
theorem Zg(hN:X.Nd){es:List Expr}{is:List Nat}(h:fX X es is):wI X es (DJ is):=by
 induction h with
 |nil=>exact TY
 |cons hi hx hf r ih=>exact a26 (Kc hN hi hx hf) ih rfl
theorem CP:∀{es:List Expr} {is:List Nat},fX X es is->(assignEach es X.env).length=is.length/\(assignEach es X.env).findIdx? (·.1)=none
 |_,_,.nil=>⟨rfl,rfl⟩
 |_,_,.cons (x:=x) (p:=p) (es:=es) hi hx hf r=>by
  obtain⟨h1,h2⟩:=CP r;have e:assignEach (.Name x p::es) X.env=(false,assign (.Name x p) X.env)::assignEach es X.env:=rfl;rw[e];refine⟨by simp[h1],?_⟩;rw[List.findIdx?_cons,h2]
  rfl
theorem HW{K:PySem.W.Frag}{ρ:List Addr}{H:Hp}{k:S->Prop}{Q:L2.St->Hp->Prop}:∀{is:List Nat} {l:List D} {vs:List V} {U cc:S} {cA:L2.St},M9 is l U=some cc->c5 K ρ H l vs->p8 K ρ H U cA->(∀dz,p8 K ρ H cc dz->Q dz H)->DJ is vs cA H Q
 |[],_,_,_,_,_,h,.nil,s,q=>by
  cases h;exact⟨rfl,q _ s⟩
 |[],_,_,_,_,_,h,.cons _ _,s,q=>by cases h
 |i::is,_,_,_,_,_,h,.nil,s,q=>by cases h
 |i::is,_,_,_,_,_,h,.cons r rr,s,q=>by
  exact⟨_,_,rfl,HW (k:=k) h rr (s.set i r) q⟩
theorem IP:∀{is:List Nat} {l:List D} {U cc:S},M9 is l U=some cc->l.length=is.length
 |[],[],_,_,_=>rfl
 |[],_::_,_,_,h=>by simp only[M9] at h;cases h
 |_::_,[],_,_,h=>by simp only[M9] at h;cases h
 |_::is,_::l,_,_,h=>by simp only[M9] at h;simp[IP h]
theorem Kk{es:List Expr}{is:List Nat}{k:Nat}(hc:X.calm=true)(hN:X.Nd)(hs:fX X es is):PG X (.Tuple es k pos) (LG X.K (.many is)) :=
 (RB hc (Zg hN hs) (CP hs).1 (CP hs).2).imp λv cA H Q bB=>by
  obtain⟨d,U,g,ρ,s,R,r,h⟩:=bB;obtain⟨l,cc,rfl,e,h⟩:=h;obtain⟨a',vs,rfl,ht,rs⟩:=r.BA;exact⟨_,_,rfl,ht.sq,by rw[<- rs.length];exact IP e,HW (k:=λ_=>True) e rs s h⟩
theorem LN.ext{K ρ H N cB H1}(e:Ext ρ H cB H1):(LN K ρ H N).le (LN K cB H1 N) :=
 ⟨λU g h cq H' dz e' R s=>h cq H' dz (e.trans e') R s,λd g h=>h.ext e,λU g h cq H' dz e' R s=>h cq H' dz (e.trans e') R s,λU g h cq H' dz e' R s=>h cq H' dz (e.trans e') R s⟩
section
variable{Ξ:iT}{P:fK}(hP:i8 P){a b c:Expr}{ma mb mc:ME}{st:Stmt}{rest:List Stmt}{zI nj:MS}
include hP
theorem Sk:jU X [] (LS X.K Ξ (wpS P .pass)) :=
 (Ue (X:=X)).imp λN cA H ⟨U,g,ρ,s,R,h⟩=>h ρ H cA (.refl _ _) R s
theorem UI(h1:PS X st (LS X.K Ξ (wpS P zI)))(h2:jU X rest (LS X.K Ξ (wpS P nj))):jU X (st::rest) (LS X.K Ξ (wpS P (.seq zI nj))) :=
 (a22 h1 h2).imp λN cA H ⟨U,g,ρ,s,R,h⟩ =>
  sj hP s R (.refl _ _) (show wpS P zI { LN X.K ρ H N with nx:=λiM g1=>wpS P nj (LN X.K ρ H N) iM g1 (LX X.K ρ H Ξ) } U g (LX X.K ρ H Ξ) from h) ⟨λiM g1 h cB H1 LU e1 R1 s1=>sj hP s1 R1 e1 h (LN.ext e1),λ_ _ z=>z,λ_ _ z=>z,λ_ _ z=>z⟩
theorem UL(ha:PE X a (LE X.K Ξ (bp P ma)))(hs:swapsWith a none pos.line X.env=pure false):PS X (.Expr a pos) (LS X.K Ξ (wpS P (.expr ma))) :=
 (Ub ha hs).imp λN cA H ⟨U,g,ρ,s,R,h⟩=>gg hP s R (.refl _ _) h λx g1 cB H1 v1 e1 R1 r1 h=>h cB H1 cA e1 R1 (s.ext e1)
theorem JJ(h0:PS X (.Assign [.Name x p] a pos) (vX (LE X.K Ξ (bp P ma)) (tO i))):PS X (.Assign [.Name x p] a pos) (LS X.K Ξ (wpS P (.set i ma))) :=
 h0.imp λN cA H ⟨U,g,ρ,s,R,h⟩=>gg hP s R (.refl _ _) h λx g1 cB H1 v1 e1 R1 r1 h=>h cB H1 _ e1 R1 ((s.ext e1).set i r1)
theorem Sy(h0:PS X (.Assign [tg] a pos) (vX (LE X.K Ξ (bp P ma)) (LG X.K t))):PS X (.Assign [tg] a pos) (LS X.K Ξ (wpS P (.lX t ma))) :=
 h0.imp λN cA H ⟨U,g,ρ,s,R,h⟩=>gg hP s R (.refl _ _) h λx g1 cB H1 v1 e1 R1 r1 h=>⟨x,U,g1,cB,s.ext e1,R1,r1,w5 (λcc h dz s'=>h cB H1 dz e1 R1 s') h⟩
theorem Ym(hu:X.A.units+100<cLine){o i:Expr}{mo:ME}(ha:PE X a (LE X.K Ξ (bp P ma)))(ho:PE X o (LE X.K Ξ (bp P mo)))(hi:PE X i (LE X.K Ξ (bp P mi)))(hs:swapsWithSole [.Subscript o i tp] a pos.line X.env=pure false)(mr:∀ v,assign (.Subscript o i tp) X.env v=(do
   let ov <- holding [v] (eval o X.env)
   let iv <- holding [v,ov] (eval i X.env)
   standAt tp
   holding [v,ov,iv] (setItem ov iv v)
   release [v,ov,iv] [])):PS X (.Assign [.Subscript o i tp] a pos) (LS X.K Ξ (wpS P (.eM mo mi ma))) :=
 (JD ha (RA ho hi (Sb hu) mr) hs).imp λN cA H ⟨U,g,ρ,s,R,h⟩ =>
  gg hP s R (.refl _ _) h λx g1 cB H1 v1 e1 R1 r1 h=>gg hP (s.ext e1) R1 e1 h λy g2 fE H2 v2 e2 R2 r2 h=>gg hP (s.ext (e1.trans e2)) R2 (e1.trans e2) h λz g3 jv H3 v3 e3 R3 r3 h =>
   ⟨y,z,x,g3,jv,R3,r2.ext e3,r3,r1.ext (e2.trans e3),R7 (λg4 h qh H4 e4 R4=>h qh H4 cA (e1.trans (e2.trans (e3.trans e4))) R4 (s.ext (e1.trans (e2.trans (e3.trans e4))))) h⟩
omit hP in
def DC(K:PySem.W.Frag)(f:Str)(cs:List Str):Prop:=∀c C,c∈cs->E2 K c C->B3 K C f
omit hP in
theorem UC{f:Str}{cs:List Str}(hF:DC X.K f cs){ρ:List Addr}{H:Hp}{g g':G}{x v:D}{xv vv:V}(R:Rl X.K ρ g H)(rx:d4 X.K ρ H x xv)(rv:d4 X.K ρ H v vv)(h:Lg f cs x v g g') :
  ∃a C dx fs,xv=.ref a/\H a=some (.ins C dx fs)/\jn X.K C/\B3 X.K C f/\fs.length<1000/\Rl X.K ρ g' (upd H a (.ins C dx (A1 f vv fs)))/\Ext ρ H ρ (upd H a (.ins C dx (A1 f vv fs))):=by
 obtain⟨i,c,fs,rfl,hi,hc,hz,rfl⟩:=h;obtain⟨a',rfl,ra⟩:=rx.k6;obtain⟨C,dx,vs,hH,hC,jG,rk,na⟩:=R.ins hi ra;obtain⟨R',e'⟩:=R.put (o':=.ins c (k8 f v fs)) (u:=.ins C dx (A1 f vv vs)) hi rfl ra ⟨hC,jG,rk.A1 rv,IL (p:=λy=>B3 X.K C y) (hF c C hc hC) na⟩;exact⟨a',C,dx,vs,rfl,hH,jG,hF c C hc hC,by rw[<- rk.length];omega,R',e'⟩
theorem UM{f:Str}{cs:List Str}{o:Expr}{mo:ME}(hF:DC X.K f cs)(ho:PE X o (LE X.K Ξ (bp P mo)))(ha:PE X a (LE X.K Ξ (bp P ma)))(hs:swapsWith a (some (.Attribute o f tp)) pos.line X.env=pure false):PS X (.Assign [.Attribute o f tp] a pos) (LS X.K Ξ (wpS P (.iD f cs mo ma))) :=
 (RH ho ha hs).imp λN cA H ⟨U,g,ρ,s,R,h⟩=>gg hP s R (.refl _ _) h λx g1 cB H1 v1 e1 R1 r1 h=>gg hP (s.ext e1) R1 e1 h λy g2 fE H2 v2 e2 R2 r2 h=>by
  obtain⟨g3,h,q⟩:=h;obtain⟨a',C,dx,fs,hx,hH,jG,na,hz,R3,e3⟩:=UC hF R2 r2 (r1.ext e2) h;exact⟨a',C,dx,fs,hx,hH,jG,na,hz,q fE _ cA (e1.trans (e2.trans e3)) R3 (s.ext (e1.trans (e2.trans e3)))⟩
theorem UK{op:Operator}{p:Pr}(Nn:(op=.Add/\p=.iadd)\/(op=.Sub/\p=.nr))(hN:X.Nd)(hi:X.N[i]?=some x)(hx:Loc X.env.scope x)(hf:X.fn x=true\/X.env.scope.names.lookup x=some .local)(ha:PE X a (LE X.K Ξ (bp P ma))):PS X (.AugAssign (.Name x tp) op a pos) (LS X.K Ξ (wpS P (.kC i p ma))):=by
 have ho:Lv X op (r2 X.K p):=by
  intro pins s U H x y v u Q I rx ry h;obtain⟨d,e,g,ρ,R,rd,re,d',g',hr,q⟩:=h;rcases Nn with⟨rfl,rfl⟩|⟨rfl,rfl⟩
  ·rcases hr with⟨i,j,ex,rfl,rfl⟩|z
   ·obtain⟨rfl,rfl⟩:=L6 ex;obtain rfl:=rd.j7;obtain rfl:=re.j7;exact Tg pins s U H _ _ v u Q I rx ry ⟨i,j,rfl,rfl,q.now R (.int _)⟩
   ·exact z.elim
  ·obtain⟨i,j,ex,rfl,rfl⟩:=hr;obtain⟨rfl,rfl⟩:=L6 ex;obtain rfl:=rd.j7;obtain rfl:=re.j7;exact Th pins s U H _ _ v u Q I rx ry ⟨i,j,rfl,rfl,q.now R (.int _)⟩
 refine(RG hN hi hx ha ho hf).imp λN cA H bB=>?_;obtain⟨U,g,ρ,s,R,h⟩:=bB;obtain⟨xd,Na,h⟩:=h;obtain⟨xv,hv,rx⟩:=s.val _ _ Na;refine⟨xv,hv,gg hP s R (.refl _ _) h λz g1 cB H1 v1 e1 R1 r1 h=>?_⟩;refine⟨xd,z,g1,cB,R1,rx.ext e1,r1,u5 (λw g2 q=>?_) h⟩;exact λfE H2 v2 e2 R2 r2=>q fE H2 _ (e1.trans e2) R2 ((s.ext (e1.trans e2)).set i r2)
theorem PN{sa sb:List Stmt}{Fh msb:MS}(hc:PT X c (LT X.K Ξ (eA P mc)))(ha:jU X sa (LS X.K Ξ (wpS P Fh)))(hb:jU X sb (LS X.K Ξ (wpS P msb))):PS X (.If c sa sb pos) (LS X.K Ξ (wpS P (.ifs mc Fh msb))) :=
 (Pw hc ha hb).imp λN cA H ⟨U,g,ρ,s,R,h⟩=>pB hP s R (.refl _ _) h λt g1 cB H1 e1 R1 h=>by
  cases t
  ·exact sj hP (s.ext e1) R1 e1 h (LN.ext e1)
  ·exact sj hP (s.ext e1) R1 e1 h (LN.ext e1)
theorem Sx(ha:PE X a (LE X.K Ξ (bp P ma))):PS X (.Return (some a) pos) (LS X.K Ξ (wpS P (.ret ma))) :=
 (RJ ha).imp λN cA H ⟨U,g,ρ,s,R,h⟩=>⟨U,g,ρ,s,R,h⟩
theorem Yn{body:List Stmt}{mb:MS}(hp:PassesOwn (model X.prog X.w) X.A X.env X.xe)(hc:PT X c (LT X.K Ξ (eA P mc)))(hb:jU X body (LS X.K Ξ (wpS P mb))):PS X (.While c body [] pos) (LS X.K Ξ (wpS P (.ki mc mb))) :=
 (a23 hp hc hb).imp λN cA H bB=>by
  obtain⟨U,g,ρ,s,R,h⟩:=bB;obtain⟨W,⟨m0,w0⟩,h⟩:=h;refine⟨λm dz H'=>∃cc g' cq,Ext ρ H cq H'/\p8 X.K cq H' cc dz/\Rl X.K cq g' H'/\W m cc g',⟨m0,U,g,ρ,.refl _ _,s,R,w0⟩,?_⟩;rintro m dz H' ⟨cc,g',cq,e1,s',R',w'⟩;refine pB hP s' R' e1 (h m cc g' w') λt g1 cB H1 e2 R1 q=>?_;cases t
  ·exact q cB H1 dz (e1.trans e2) R1 (s'.ext e2)
  ·obtain⟨N2,pM,q⟩:=q;refine⟨λkh H2=>∃cH g2 fE,Ext ρ H fE H2/\p8 X.K fE H2 cH kh/\Rl X.K fE g2 H2/\N2 cH g2,?_,?_⟩
   ·rintro kh H2 ⟨cH,g2,fE,e3,s2,R2,n2⟩;obtain⟨m',hm,w2⟩:=pM cH g2 n2;exact⟨m',hm,cH,g2,fE,e3,s2,R2,w2⟩
   ·refine sj hP (s'.ext e2) R1 (e1.trans e2) q ⟨?_,?_,?_,?_⟩
    ·exact λiB g3 n3 jv H3 kT e3 R3 s3=>⟨iB,g3,jv,(e1.trans e2).trans e3,s3,R3,n3⟩
    ·exact λd g3 h=>h.ext (e1.trans e2)
    ·exact λiB g3 h jv H3 kT e3 R3 s3=>h jv H3 kT ((e1.trans e2).trans e3) R3 s3
    ·exact λiB g3 n3 jv H3 kT e3 R3 s3=>⟨iB,g3,jv,(e1.trans e2).trans e3,s3,R3,n3⟩
theorem Sw{iter:Expr}{body:List Stmt}{mb:MS}(hp:PassesOwn (model X.prog X.w) X.A X.env X.xe)(hc:X.calm=true)(hi:PI X tg iter (LI X.K Ξ (gS P mi)))(hg:PG X tg (LG X.K t))(hb:jU X body (LS X.K Ξ (wpS P mb)))(hs:∀x,foldedSetIterable iter X.env x=pure x):PS X (.For tg iter body [] pos) (LS X.K Ξ (wpS P (.dM t mi mb))) :=
 (RI hp hc hi hg hb hs).imp λN cA H bB=>by
  obtain⟨U,g,ρ,s,R,h⟩:=bB;refine⟨U,g,ρ,s,R,z9 hP mi _ _ _ _ _ _ (λk g1 h cB H1 J e1 R1 j1=>?_) (λ_ _ z=>z) h⟩;obtain⟨W,⟨m0,w0⟩,h⟩:=h;refine⟨λi m dz H'=>∃cc g' cq,Ext cB H1 cq H'/\p8 X.K cq H' cc dz/\Rl X.K cq g' H'/\W i m cc g',⟨m0,U,g1,cB,.refl _ _,s.ext e1,R1,w0⟩,?_⟩;rintro i m dz H' ⟨cc,g',cq,e',s',R',w'⟩;obtain⟨uZ,uY⟩:=j1 cq g' H' e' R' i;rcases h i m cc g' w' with⟨ek,q⟩|⟨x,ek,N2,pM,q⟩
  ·exact .inl ⟨uZ ek,q cq H' dz (e1.trans e') R' s'⟩
  ·obtain⟨go,yl⟩:=uY x ek;refine .inr ⟨go,λkh H2=>∃cH g2 fE,Ext cB H1 fE H2/\p8 X.K fE H2 cH kh/\Rl X.K fE g2 H2/\N2 cH g2,?_,?_⟩
   ·rintro kh H2 ⟨cH,g2,fE,e2,s2,R2,n2⟩;obtain⟨m',hm,w2⟩:=pM cH g2 n2;exact⟨m',hm,cH,g2,fE,e2,s2,R2,w2⟩
   ·intro v H2 y;obtain⟨e2,R2,r2⟩:=yl v H2 y;refine⟨x,cc,g',cq,s'.ext e2,R2,r2,w5 (λcH q kh s2=>?_) q⟩;refine sj hP s2 R2 (e1.trans (e'.trans e2)) q ⟨?_,?_,?_,?_⟩
    ·exact λiB g3 n3 jv H3 kT e3 R3 s3=>⟨iB,g3,jv,(e'.trans e2).trans e3,s3,R3,n3⟩
    ·exact λd g3 h=>h.ext (e1.trans (e'.trans e2))
    ·exact λiB g3 h jv H3 kT e3 R3 s3=>h jv H3 kT (e1.trans ((e'.trans e2).trans e3)) R3 s3
    ·exact λiB g3 n3 jv H3 kT e3 R3 s3=>⟨iB,g3,jv,(e'.trans e2).trans e3,s3,R3,n3⟩
theorem Kx{c8:List Nat}{n:Nat}{je me:ME}:∀cA H Q,LE X.K Ξ (bp P (.comp c8 n t mi je me)) cA H Q->Du (LI X.K Ξ (gS P mi)) c8 n (LG X.K t) (LT X.K (rT Ξ.1) (eA P je)) (LE X.K (rT Ξ.1) (bp P me)) cA H Q:=λcA H Q bB=>by
 obtain⟨U,g,ρ,s,R,h⟩:=bB;refine⟨U,g,ρ,s,R,z9 hP mi _ _ _ _ _ _ (λk g1 h cB H1 J e1 R1 j1=>?_) (λ_ _ z=>z) h⟩;obtain⟨W,⟨m0,w0⟩,h⟩:=h;refine⟨λi m Ez dz H'=>∃ys cc g' cq,Ext cB H1 cq H'/\p8 X.K cq H' cc dz/\Rl X.K cq g' H'/\c5 X.K cq H' ys Ez/\W i m ys cc g',⟨m0,[],_,g1,cB,.refl _ _,(s.ext e1).c8 c8 n,R1,.nil,w0⟩,?_⟩;rintro i m Ez dz H' ⟨ys,cc,g',cq,e',s',R',ry,w'⟩;obtain⟨uZ,uY⟩:=j1 cq g' H' e' R' i;rcases h i m ys cc g' w' with⟨ek,q⟩|⟨x,ek,hz,q⟩
 ·exact .inl ⟨uZ ek,λp hp=>(q.ext (e1.trans e')).new R' hp ry⟩
 ·obtain⟨go,yl⟩:=uY x ek;refine .inr ⟨go,by rw[<- ry.length];exact BY hz,λv H2 y=>?_⟩;obtain⟨e2,R2,r2⟩:=yl v H2 y;refine⟨x,cc,g',cq,s'.ext e2,R2,r2,w5 (λcH q kh s2=>?_) q⟩;refine⟨cH,g',cq,s2,R2,q8 hP je _ _ _ _ _ _ (λb g3 q jv H3 e3 R3=>?_) (λ_ _ z=>z.elim) q⟩;cases b
  ·obtain⟨m',hm,w3⟩:=q;exact⟨m',hm,ys,cH,g3,jv,(e'.trans e2).trans e3,s2.ext e3,R3,(ry.ext e2).ext e3,by simpa using w3⟩
  ·refine⟨cH,g3,jv,s2.ext e3,R3,b9 hP me _ _ _ _ _ _ (λz g4 q qh H4 v4 e4 R4 r4=>?_) (λ_ _ z=>z.elim) q⟩;obtain⟨m',hm,w4⟩:=q;exact⟨m',hm,ys++[z],cH,g4,qh,(e'.trans e2).trans (e3.trans e4),(s2.ext e3).ext e4,R4,(((ry.ext e2).ext e3).ext e4).append (.cons r4 .nil),by simpa using w4⟩
theorem a00{elt iter:Expr}{ifs:List Expr}{scope:Scope}{N':List Str}{c8:List Nat}{cl:List (Str×Addr)}{p2 jN:Pos}{je me:ME}(S:dI X scope N' c8 cl)(hc:X.calm=true)(hi:PI X tg iter (LI X.K Ξ (gS P mi)))(hg:∀pins C s H fp,PG (d0 X pins scope N' cl C s H fp) tg (LG X.K t))(ht:∀pins C s H fp,lR (d0 X pins scope N' cl C s H fp) ifs (LT X.K (rT Ξ.1) (eA P je)))(he:∀pins C s H fp,PE (d0 X pins scope N' cl C s H fp) elt (LE X.K (rT Ξ.1) (bp P me)))(hs:∀x,foldedSetIterable iter X.env x=pure x)(nB:Gl X "sorted")(ny:X.mg "sorted"=none):PE X (.Call (.Name "sorted" p2) [.SetComp elt [⟨tg,iter,ifs,0⟩] scope pos] [] jN) (LE X.K Ξ (bp P (.hJ c8 N'.length t mi je me))) :=
 (X8 (S7 hc) nB ny (by rfl) (Q3 (a27 S hc hi hg ht he hs) V3)).imp λcA H Q bB=>by
  obtain⟨U,g,ρ,s,R,h⟩:=bB;refine⟨U,g,ρ,s,R,z9 hP mi _ _ _ _ _ _ (λk g1 h cB H1 J e1 R1 j1=>?_) (λ_ _ z=>z) h⟩;obtain⟨W,⟨m0,w0⟩,h⟩:=h;refine⟨λi m ys dz H'=>∃cc g' cq,Ext cB H1 cq H'/\p8 X.K cq H' cc dz/\Rl X.K cq g' H'/\W i m ys cc g',⟨m0,_,g1,cB,.refl _ _,(s.ext e1).c8 c8 _,R1,w0⟩,?_⟩;rintro i m ys dz H' ⟨cc,g',cq,e',s',R',w'⟩;obtain⟨uZ,uY⟩:=j1 cq g' H' e' R' i;rcases h i m ys cc g' w' with⟨ek,hz,q⟩|⟨x,ek,hz,q⟩
  ·exact .inl ⟨uZ ek,λp hp=>⟨p,ys,rfl,u4,by omega,λp' iP=>(q.ext ((e1.trans e').trans (A5 hp))).new (R'.grow hp) iP (c5.ofInts _)⟩⟩
  ·obtain⟨go,yl⟩:=uY x ek;refine .inr ⟨go,hz,λv H2 y=>?_⟩;obtain⟨e2,R2,r2⟩:=yl v H2 y;refine⟨x,cc,g',cq,s'.ext e2,R2,r2,w5 (λcH q kh s2=>?_) q⟩;refine⟨cH,g',cq,s2,R2,q8 hP je _ _ _ _ _ _ (λb g3 q jv H3 e3 R3=>?_) (λ_ _ z=>z.elim) q⟩;cases b
   ·obtain⟨m',hm,w3⟩:=q;exact⟨m',hm,cH,g3,jv,(e'.trans e2).trans e3,s2.ext e3,R3,by simpa using w3⟩
   ·refine⟨cH,g3,jv,s2.ext e3,R3,b9 hP me _ _ _ _ _ _ (λz g4 q qh H4 v4 e4 R4 r4=>?_) (λ_ _ z=>z.elim) q⟩;obtain⟨j,rfl,m',hm,w4⟩:=q;obtain rfl:=r4.j7;exact⟨j,rfl,m',hm,cH,g4,qh,(e'.trans e2).trans (e3.trans e4),(s2.ext e3).ext e4,R4,by simpa using w4⟩
end
end M
namespace M
open PySem L2
section
variable{P:fK}(hP:i8 P)
include hP
end
end M
namespace M
open PySem L2 PySem.Spec PyProof.Rows
variable{X:Cx}{Ξ:iT}{P:fK}{c:i7}{x:Str}{i n:Nat}{e o b:Expr}{es args:List Expr}{env:Env}{p:Pr}{r:CF}{m:ME}{pos:Pos}
section
variable(hP:i8 P)
include hP
end
structure i7 where
 N:List Str
 nm:List (Str×NameKind)
 nM:Bool
 fns:List (Str×Nat)
 con:List (Str×D)
 blt:List Str
 exc:List Str
 gd:List (Str×List D)
 cls:List (Str×Nat)
 qx:List (Str×Str×Nat)
 oQ:List (Str×Str)
 uA:Bool
 uo:Bool
 wr:Bool:=true
def gU:Expr->Bool
 |.Set ..=>false
 |.Starred ..=>false
 |.Slice ..=>false
 |_=>true
def A2:Expr->Bool
 |.ListComp ..=>false
 |.SetComp ..=>false
 |.DictComp ..=>false
 |_=>true
def tS:Expr->Bool
 |.Tuple ..=>false
 |_=>true
def CM:Expr->Bool
 |.Name ..=>true
 |.Call ..=>true
 |.Subscript ..=>true
 |.Constant ..=>true
 |.Attribute ..=>true
 |.BinOp ..=>true
 |_=>false
def yE:Expr->Bool
 |.Call (.Name ..) [] ..=>false
 |_=>true
def i7.idx(c:i7)(x:Str):Option Nat:=c.N.findIdx? λy=>decide (y=x)
def i7.uj(c:i7)(x:Str):Bool:=match c.nm.lookup x with
 |some .local=>true
 |some .cell=>true
 |some .free=>true
 |_=>false
def i7.gl(c:i7)(x:Str):Bool:=decide (c.nm.lookup x=some .globalImplicit)
def i7.x4(c:i7)(x:Str):Bool:=decide (c.nm.lookup x=some .local)||decide (c.nm.lookup x=some .cell)
def rQ(x:Str):Bool:=(x==("__debug__":Str))==false&&(x==("__classdict__":Str))==false&&decide (x≠"__name__")
def Dw:List (Str×String):=[("int","int"),("bool","bool"),("str","str"),("tuple","tuple"),("list","list")]
def DF:List (Str×Pr):=[("len",.len),("list",.list),("tuple",.tuple),("isinstance",.isin),("all",.all),("max",.max),("min",.min),("int",.int),("dict",.kB),("sorted",.mX),("sum",.sum),("set",.nk)]
def yN:List (Str×Pr):=[]
def DO:List (Str×Pr):=[("append",.append),("pop",.pop),("get",.get),("add",.kl)]
def BN:Expr->Option (Str×List Expr)
 |.Call (.Name x _) args [] _=>some (x,args)
 |_=>none
def KJ:Expr->Bool
 |.Tuple ..=>true
 |_=>false
def asName:Expr->Option Str
 |.Name x _=>some x
 |_=>none
def frees(sc:Scope):List Str:=(sc.names.filter λy=>decide (y.2=.free)).map (·.1)
def locals(sc:Scope):List Str:=(sc.names.filter λy=>decide (y.2=.local)||decide (y.2=.cell)).map (·.1)
def i7.inner(c:i7)(sc:Scope):i7:={ c with N:=frees sc++locals sc,nm:=sc.names,nM:=false,uA:=false,uo:=false,wr:=true }
def i7.c8(c:i7)(sc:Scope):List Nat:=(frees sc).map λx=>(c.idx x).getD 0
def i7.Cd(c:i7)(sc:Scope):Bool :=
 decide (sc.kind=.function)&&sc.names.all (λy=>!decide (y.2=.cell)||decide (sc.names.lookup y.1=some .cell))&&sc.names.all (λy=>!decide (y.2=.local)||decide (sc.names.lookup y.1=some .local)) &&
 decide (frees sc++locals sc).Nodup&&(frees sc).all (λx=>(c.idx x).isSome&&decide (sc.names.lookup x=some .free)&&(decide (c.nm.lookup x=some .cell)||decide (c.nm.lookup x=some .free)))
def i7.slot(c:i7)(e:Expr):Option Nat:=(asName e).bind λx=>if c.x4 x then c.idx x else none
def i7.slots(c:i7):List Expr->Option (List Nat)
 |[]=>some []
 |e::r=>(c.slot e).bind λi=>(c.slots r).map λis=>i::is
def i7.tg(c:i7)(e:Expr):Option MT:=((c.slot e).map .one).orElse λ_=>match e with
 |.Tuple es _ _=>(c.slots es).map .many
 |_=>none
def De:Const->Option D
 |.int i=>some (.int i)
 |.bool b=>some (.bl b)
 |.none=>some .bR
 |.str x=>some (.str x)
 |_=>none
structure CF where
 e:i7->Expr->Option ME
 t:i7->Expr->Option ME
 s:i7->Stmt->Option MS
section
variable(r:CF)(c:i7)
def c1(p:Pr)(a:Expr):Option ME:=(r.e c a).map λm=>.prim p (.cons m .nil)
def c2(p:Pr)(a b:Expr):Option ME:=(r.e c a).bind λma=>(r.e c b).map λmb=>.prim p (.cons ma (.cons mb .nil))
def H9:List Expr->Option ME
 |[]=>some .nil
 |e::es=>if gU e then(r.e c e).bind λm=>(H9 es).map λms=>.cons m ms else none
def Dd(op:BoolOp):List Expr->Option ME
 |[]=>none
 |[a]=>r.e c a
 |a::b::rs=>(r.e c a).bind λma=>(Dd op (b::rs)).map λmb=>match op with
  |.And=>.dA ma mb
  |.Or=>.jd ma mb
def Df(op:BoolOp):List Expr->Option ME
 |[]=>none
 |[a]=>r.t c a
 |a::b::rs=>(r.t c a).bind λma=>(Df op (b::rs)).map λmb=>match op with
  |.And=>.dA ma mb
  |.Or=>.jd ma mb
def Jv:List Expr->Option ME
 |[]=>some .no
 |[e]=>r.t c e
 |_=>none
def A4:List Stmt->Option MS
 |[]=>some .pass
 |s::rs=>(r.s c s).bind λm=>(A4 rs).map λms=>.seq m ms
def DB(x:Str):Option ME :=
 if rQ x then(if c.uj x then(c.idx x).map .var else if c.gl x then((c.con.lookup x).map .lit).orElse λ_=>if c.blt.contains x then(Dw.lookup x).map λt=>.lit (.ty t) else none else none) else none
def zj(op:UnaryOp)(a:Expr):Option ME:=if op=.Not then(r.e c a).map .dQ else c1 r c (.un op) a
def i7.He(b:Expr):Option (List D):=(asName b).bind λx=>if c.gl x&&rQ x then c.gd.lookup x else none
def vZ(a:Expr)(ops:List CmpOp)(bs:List Expr):Option ME:=match ops,bs with
 |[op],[b]=>if behindInMarks op b then none else c2 r c (.cmp op) a b
 |[op,iw],[b,d]=>if lastMarks [op,iw] [b,d] then none else(r.e c a).bind λma=>(r.e c b).bind λmb=>(r.e c d).map λmd=>.chain op iw ma mb md
 |_,_=>none
def Vc:Expr->Option (Option Expr×Option Expr×Option Expr)
 |.Slice lo hi st _=>some (lo,hi,st)
 |_=>none
def EB(a:Expr):Option Expr->Option Expr->Option Expr->Option ME
 |some b,none,none=>c2 r c (.mf true false) a b
 |none,some b,none=>c2 r c (.mf false true) a b
 |_,_,_=>none
def Hu(a b:Expr):Option ME:=((Vc b).bind λq=>EB r c a q.1 q.2.1 q.2.2).orElse λ_=>if gU b then((c.He a).bind λkvs=>(r.e c b).map λmb=>.prim .nK (.cons (.lit (.tup kvs)) (.cons mb .nil))).orElse λ_=>c2 r c .ix a b else none
def EA(x:Str)(e:Expr):Option ME:=(BN e).bind λq =>
 if x="list" && q.1="range" && c.blt.contains "list" && c.blt.contains "range" && c.gl "range" then (match q.2 with
  |[a]=>if gU a then c1 r c .jf a else none
  |[a,b]=>if gU a&&gU b then c2 r c .ku a b else none
  | _=>none)
 else if x="sorted" && q.1="set" && c.blt.contains "sorted" && c.blt.contains "set" && c.gl "set" then (match q.2 with
  |[a]=>if gU a then c1 r c .sset a else none
  | _=>none)
 else if x="len" && q.1="set" && c.blt.contains "len" && c.blt.contains "set" && c.gl "set" then (match q.2 with
  |[a]=>if gU a then c1 r c .pZ a else none
  | _=>none)
 else none
def Wm(x:Str)(e:Expr):List Expr->Option ME
 |[]=>EA r c x e
 |_=>none
def BE(x:Str):Option ME:=if rQ x&&c.gl x then((c.fns.lookup x).map λf=>.call f .nil).orElse λ_=>(c.cls.lookup x).map λf=>.make x f .nil else none
def BG(x:Str)(e:Expr)(es:List Expr):Option ME:=if rQ x&&c.gl x then(Wm r c x e es).orElse λ_=>(H9 r c (e::es)).bind λms=>((c.fns.lookup x).map λf=>.call f ms).orElse λ_=>((c.cls.lookup x).map λf=>.make x f ms).orElse λ_=>if c.blt.contains x then(DF.lookup x).map λp=>.prim p ms else none else none
def JN(x:Str):List Expr->Option ME
 |[]=>BE c x
 |e::es=>BG r c x e es
def BH(o:Expr)(m:Str)(apos pos:Pos)(args:List Expr):Option ME :=
 if yE o && (apos.endLine == pos.line) && decide (args.length < 20) then (r.e c o).bind λmo=>(H9 r c args).bind λms=>if m="index" then none else if args.isEmpty && (yN.lookup m).isSome then (yN.lookup m).map λp=>.eX p mo ms else (match DO.lookup m with
  |some p=>if args.isEmpty then none else some (.eX p mo ms)
  | none=>none) else none
def DA(f:Expr)(args:List Expr)(jy:List Keyword)(pos:Pos):Option ME:=if jy.isEmpty then(match f with
 |.Name x _=>JN r c x args
 |.Attribute o m apos=>BH r c o m apos pos args
 | _=>none) else none
def yd(tg e:Expr):Option ME:=(((BN e).bind λq =>
  if q.1="enumerate" then (match q.2 with
   |[a]=>if c.gl "enumerate"&&c.blt.contains "enumerate"&&gU a&&KJ tg then(r.e c a).map .kZ else none
   | _=>none)
  else if q.1="reversed" then (match q.2 with
   |[a]=>if c.gl "reversed"&&c.blt.contains "reversed"&&gU a then(r.e c a).map .nX else none
   | _=>none)
  else if q.1="range" then (match q.2 with
   |[a]=>if c.gl "range"&&c.blt.contains "range"&&gU a then(r.e c a).map .eO else none
   |[a,b]=>if c.gl "range"&&c.blt.contains "range"&&gU a&&gU b then(r.e c a).bind λma=>(r.e c b).map λmb=>.kx ma mb else none
   | _=>none)
  else none):Option ME).orElse λ_=>if gU e then (r.e c e).map .eY else none
def W9(elt:Expr)(gens:List Comprehension)(sc:Scope):Option ME:=match gens with
 |[⟨tg,it,ifs,Fp⟩]=>if c.Cd sc&&decide (Fp=0)&&gU it then((c.inner sc).tg tg).bind λt=>(yd r c tg it).bind λmi=>(Jv r (c.inner sc) ifs).bind λmc=>(r.e (c.inner sc) elt).map λme=>.comp (c.c8 sc) (frees sc++locals sc).length t mi mc me else none
 |_=>none
def Va:Expr->Option Str
 |.Name x _=>some x
 |_=>none
def Vb:Expr->Option (Expr×List Comprehension×Scope)
 |.SetComp elt gens sc _=>some (elt,gens,sc)
 |_=>none
def Wj:ME->Option ME
 |.comp a n t i k e=>some (.hJ a n t i k e)
 |_=>none
def zk(f:Expr)(args:List Expr)(jy:List Keyword):Option ME:=match args with
 |[a]=>if jy.isEmpty&&decide (Va f=some "sorted")&&c.gl "sorted"&&c.blt.contains "sorted" then(Vb a).bind λq=>(W9 r c q.1 q.2.1 q.2.2).bind Wj else none
 |_=>none
def wX(f:Expr)(args:List Expr)(jy:List Keyword):Option ME:=(λ(_:i7)=>none) c
def CS(es:List Expr)(k:Nat):Option ME:=if c.nM&&decide (k=0) then(match es with
 |[.Constant (.int i) _ _]=>some (.prim (.kj i) .nil)
 | _=>none) else none
def Li:Expr->Option ME
 |.Name x _=>DB c x
 |.Constant k _ _=>(De k).map .lit
 |.BinOp a op b _=>c2 r c (.bin op) a b
 |.UnaryOp op a _=>zj r c op a
 |.Compare a ops bs _=>vZ r c a ops bs
 |.BoolOp op vs _=>Dd r c op vs
 |.IfExp t a b _=>(r.t c t).bind λmt=>(r.e c a).bind λma=>(r.e c b).map λmb=>.ite mt ma mb
 |.Tuple es _ _=>(H9 r c es).map (.prim .tup)
 |.List es _=>(H9 r c es).map (.prim .lst)
 |.Subscript a b _=>Hu r c a b
 |.Dict ks vs _=>if ks.isEmpty&&vs.isEmpty then some (.prim .Z6 .nil) else none
 |.Attribute o f _=>if yE o then c1 r c (.fld f) o else none
 |.Call f args jy pos=>(zk r c f args jy).orElse λ_=>(wX c f args jy).orElse λ_=>DA r c f args jy pos
 |.ListComp elt gens sc _=>W9 r c elt gens sc
 |.Set es k _=>CS c es k
 |_=>none
def stepT:Expr->Option ME
 |.UnaryOp op a _=>if op=.Not then(r.t c a).map .dQ else none
 |.BoolOp op vs _=>Df r c op vs
 |.Compare a ops bs _=>(vZ r c a ops bs).map .fG
 |e=>if CM e then(r.e c e).map .fG else none
def i7.Hc(f:Str):List Str:=(c.oQ.filter λy=>decide (y.1=f)).map (·.2)
def DE:List Expr->Option (Expr×Expr×Expr×Expr)
 |_=>none
def Hl(tg e:Expr):Option MS:=match tg with
 |.Name x _=>if c.x4 x then(c.idx x).bind λi=>(r.e c e).map λm=>.set i m else none
 |.Tuple es _ _=>(DE es).elim (if tS e&&A2 e then(c.slots es).bind λis=>(r.e c e).map λm=>.lX (.many is) m else none) λq=>if A2 e&&gU q.2.1&&gU q.2.2.2 then(r.e c q.1).bind λm1=>(r.e c q.2.1).bind λn1=>(r.e c q.2.2.1).bind λm2=>(r.e c q.2.2.2).bind λn2=>(r.e c e).map λm=>.xf m1 n1 m2 n2 m else none
 |.Subscript o i _=>if gU i&&A2 e then(r.e c o).bind λmo=>(r.e c i).bind λmi=>(r.e c e).map λm=>.eM mo mi m else none
 |.Attribute o f _=>(r.e c o).bind λmo=>(r.e c e).map λm=>.iD f (c.Hc f) mo m
 |_=>none
def KL:Operator->Option Pr
 |.Add=>some .iadd
 |.Sub=>some .nr
 |_=>none
def toR(e:Expr)(m:ME):ME:=(λ(_:i7)=>m) c
def Lj:Stmt->Option MS
 |.Expr e _=>if A2 e then(r.e c e).map .expr else none
 | .Assign zr e _=>(match zr with
  |[tg]=>Hl r c tg e
  | _=>none)
 | .AugAssign tg op e _=>(match tg with
  |.Name x _=>if c.x4 x then(KL op).bind λp=>(c.idx x).bind λi=>(r.e c e).map λm=>.kC i p m else none
  | _=>none)
 |.If t a b _=>(r.t c t).bind λmt=>(A4 r c a).bind λma=>(A4 r c b).map λmb=>.ifs mt ma mb
 |.For tg it body oX _=>if c.nM&&(oX.isEmpty&&gU it) then(c.tg tg).bind λt=>(yd r c tg it).bind λmi=>(A4 r c body).map λmb=>.dM t mi mb else none
 |.While t body oX _=>if c.nM&&oX.isEmpty then(r.t c t).bind λmt=>(A4 r c body).map λmb=>.ki mt mb else none
 | .Return e _=>(match e with
  |some e=>(r.e c e).map λm=>.ret (toR c e m)
  | none=>some .qp)
 |.Pass _=>some .pass
 |_=>none
end
def comp:Nat->CF
 |0=>⟨λ_ _=>none,λ_ _=>none,λ_ _=>none⟩
 |n+1=>⟨Li (comp n),stepT (comp n),λc s=>(Lj (comp n) c s).orElse λ_=>some (.expr .no)⟩
structure iK(X:Cx)(c:i7)(P:fK)(Ξ:iT):Prop where
 N:X.N=c.N
 nd:c.N.Nodup
 loc:∀x,c.nm.lookup x=some .local->X.env.scope.names.lookup x=some .local
 Bt:∀x,c.nm.lookup x=some .cell->X.env.scope.names.lookup x=some .cell
 GD:∀x,c.nm.lookup x=some .free->X.env.scope.names.lookup x=some .cell\/X.env.scope.names.lookup x=some .free
 OD:∀x,c.nm.lookup x=some .globalImplicit->X.env.scope.names.lookup x=some .globalImplicit
 cells:∀x,(c.nm.lookup x=some .cell\/c.nm.lookup x=some .free)->∃a,X.env.cells.lookup x=some a
 nM:∀x,c.nm.lookup x=some .cell->X.fn x=true
 calm:X.calm=true
 units:X.A.units+100<cLine
 own:c.nM=true->PassesOwn (model X.prog X.w) X.A X.env X.xe
 mono:i8 P
 con:∀x d,c.con.lookup x=some d->∃v u,X.mg x=some u/\RelV v u/\∀ρ H,d4 X.K ρ H d v
 blt:∀x,c.blt.contains x=true->X.mg x=none
 fns:∀x f,c.fns.lookup x=some f->∃k fa fd ps,pe X P Ξ.1 k f fa fd ps/\v7 k X.A/\X.mg x=some (.ref fa)/\PySem.W.keepIn X.K (.ref fa)=true
 cls:∀x f,c.cls.lookup x=some f->∃k C fa fd ps,pe X P Ξ.1 k f fa fd ps/\v7 (k+1) X.A/\X.mg x=some (.ref C)/\E2 X.K x C/\jn X.K C/\Mk X.K C fa
 qx:∀m y f C,(m,y,f)∈c.qx->E2 X.K y C->∃k fa fd ps,Meth X.K C m fa/\pe X P Ξ.1 k f fa fd ps/\v7 k X.A
 oQ:∀f y C,(f,y)∈c.oQ->E2 X.K y C->B3 X.K C f
 OM:Ξ.1=c.exc
 pass:Passes (kE X.prog X.w) X Ξ.2
 Gz:∀x kvs,c.gd.lookup x=some kvs->Hv X x kvs
 code:c.nM=true->PySem.W.kdsCode X.K X.env.code=true
 sgn:c.wr=true->X.sg=none
theorem Tf(h:c.idx x=some i):c.N[i]?=some x:=by
 unfold i7.idx at h;rw[kF] at h;obtain⟨h1,h2,_⟩:=h;rw[ae h1,bo h2]
theorem iK.Qf(C:iK X c P Ξ)(h:c.uj x=true):wG X.env.scope x:=by
 unfold i7.uj at h;split at h
 ·rename_i e;exact .inl (C.loc x e)
 ·rename_i e;exact .inr (.inl (C.Bt x e))
 ·rename_i e;rcases C.GD x e with z|z
  ·exact .inr (.inl z)
  ·exact .inr (.inr z)
 ·cases h
theorem iK.B5(C:iK X c P Ξ)(h:c.gl x=true):Gl X x:=C.OD x (bo h)
theorem iK.x4(C:iK X c P Ξ){x:Str}(h:c.x4 x=true):Loc X.env.scope x/\(X.fn x=true\/X.env.scope.names.lookup x=some .local):=by
 unfold i7.x4 at h;rw[dh] at h;rcases h with h|h
 ·have:=C.loc x (bo h);exact⟨.inl this,.inr this⟩
 ·exact⟨.inr (C.Bt x (bo h)),.inl (C.nM x (bo h))⟩
theorem iK.rO(C:iK X c P Ξ)(h:c.idx x=some i):X.N[i]?=some x:=by rw[C.N];exact Tf h
theorem iK.sD(C:iK X c P Ξ)(hw:c.wr=true):X.Nd:=⟨by rw[C.N];exact C.nd,C.sgn hw⟩
theorem Iu(h:asName e=some x):∃p,e=.Name x p:=by
 cases e<;>first|(cases h;exact⟨_,rfl⟩)|cases h
theorem HD(h:c.slot e=some i):∃x p,e=.Name x p/\c.x4 x=true/\c.idx x=some i:=by
 obtain⟨x,hx,h2⟩:=ak.mp h;obtain⟨p,rfl⟩:=Iu hx;split at h2
 ·exact⟨x,p,rfl,by assumption,h2⟩
 ·cases h2
theorem iK.slots(C:iK X c P Ξ):∀{es:List Expr} {is:List Nat},c.slots es=some is->fX X es is:=by
 intro es
 induction es with
 |nil=>intro is h;cases h;exact .nil
 |cons e r ih =>
  intro is h;obtain⟨i,hi,h⟩:=ak.mp h;obtain⟨is',hs,rfl⟩:=aa.mp h;obtain⟨x,p,rfl,hl,hx⟩:=HD hi;exact .cons (C.rO hx) (C.x4 hl).1 (C.x4 hl).2 (ih hs)
theorem orElse_some{α:Type}{a:Option α}{b:Unit->Option α}{m:α}(h:a.orElse b=some m):a=some m\/b Unit.unit=some m:=by
 cases a with
 |none=>exact .inr h
 |some x=>exact .inl h
theorem iK.Hq(C:iK X c P Ξ)(hw:c.wr=true){tg:Expr}{t:MT}(h:c.tg tg=some t):PG X tg (LG X.K t):=by
 rcases orElse_some h with h|h
 ·obtain⟨i,hi,rfl⟩:=aa.mp h;obtain⟨x,p,rfl,hl,hx⟩:=HD hi;exact Sd (C.sD hw) (C.rO hx) (C.x4 hl).1 (C.x4 hl).2
 ·cases tg<;>first|(cases h;done)|skip
  obtain⟨is,hs,rfl⟩:=aa.mp (show(c.slots _).map MT.many=some t from h);exact Kk C.calm (C.sD hw) (C.slots hs)
theorem n9(h:gU e=true):starEach (e::es) env=(false,eval e env)::starEach es env:=by
 cases e<;>first|rfl|cases h
theorem X9(h:gU e=true):∀x,foldedSetIterable e env x=pure x:=by
 intro x;cases e<;>first|rfl|cases h
theorem JA(h:gU e=true):BK e:=by
 intro o i;cases e<;>first|rfl|cases h
theorem Tz{i:Expr}{tp:Pos}(h:gU i=true):∀v,assign (.Subscript o i tp) env v=(do
      let ov <- holding [v] (eval o env)
      let iv <- holding [v,ov] (eval i env)
      standAt tp
      holding [v,ov,iv] (setItem ov iv v)
      release [v,ov,iv] []):=by
  intro v;cases i<;>first|rfl|cases h
theorem CL{t:Option Expr}(h:A2 e=true):swapsWith e t n env=pure false:=by
 cases e<;>first|rfl|cases h
theorem a34{k:Nat}{p:Pos}(h:tS e=true):swappedStores [.Tuple es k p] e env=pure none:=by
 cases e<;>first|rfl|cases h
theorem Zj(h:CM e=true):∀whole,isTrue e env whole=(do let v <- whole;standAt e.pos;holding [v] (truthy v)):=by
 intro w;cases e<;>first|rfl|cases h
theorem IT{q:Str×List Expr}(h:BN e=some q):∃p pos,e=.Call (.Name q.1 p) q.2 [] pos:=by
 cases e<;>first|(cases h;done)|skip
 rename_i f as jy pos;cases f<;>first|(cases h;done)|skip
 cases jy<;>first|(cases h;done)|skip
 cases h;exact⟨_,_,rfl⟩
theorem Yx(h:KJ e=true):∃es k p,e=.Tuple es k p:=by
 cases e<;>first|exact⟨_,_,_,rfl⟩|cases h
theorem a49{kvs:List D}(h:c.He b=some kvs):∃x p,b=.Name x p/\c.gl x=true/\rQ x=true/\c.gd.lookup x=some kvs:=by
 obtain⟨x,hx,h2⟩:=ak.mp h;obtain⟨p,rfl⟩:=Iu hx;split at h2
 ·rename_i hc;rw[aT] at hc;exact⟨x,p,rfl,hc.1,hc.2,h2⟩
 ·cases h2
theorem Q4{f:Str}(h:yE o=true):attributeBase o f env (eval o env)=eval o env:=by
 cases o<;>first|rfl|skip
 rename_i f as jy pos;cases f<;>first|rfl|skip
 cases as with
 |nil=>cases h
 |cons=>rfl
theorem BR{env:Env}:∀(names:List (Str×NameKind)) (acc:List (Str×Addr)),(∀y∈names,y.2=.free->∃a,env.cells.lookup y.1=some a)->(∀x a,acc.lookup x=some a->env.cells.lookup x=some a) ->
  ∃ cl,(forIn names acc λ(y:Str × NameKind) (cs:List (Str × Addr))=>(match y with
   |(name,kind)=>if(kind==NameKind.free)=true then do
     let __do_lift <- cellOf env name
     pure (ForInStep.yield ((name,__do_lift)::cs))
    else pure (ForInStep.yield cs):Sem (ForInStep (List (Str × Addr)))))=pure cl/\(∀ x a,cl.lookup x=some a->env.cells.lookup x=some a)/\(∀ y ∈ names,y.2=.free->∃ a,cl.lookup y.1=some a)/\∀ x a,acc.lookup x=some a->∃ a',cl.lookup x=some a'
 |[],acc,_,h2=>⟨acc,rfl,h2,λy hy=>absurd hy (by simp),λx a h=>⟨a,h⟩⟩
 |(n,k)::r,acc,h1,h2=>by
  rw[List.forIn_cons];by_cases hk:k=.free
  ·subst hk;obtain⟨a,ha⟩:=h1 (n,.free) (by simp) rfl;have hc:cellOf env n=pure a:=by unfold cellOf;rw[ha]
   obtain ⟨cl,e,q1,q2,q3⟩:=BR r ((n,a) :: acc) (λy hy=>h1 y (by simp [hy])) (λx b hb=>by
    rw[dH] at hb;cases hx:x==n with
    |true=>simp_all
    | false=>rw [hx] at hb;exact h2 x b hb)
   refine⟨cl,?_,q1,λy hy hf=>?_,λx b hb=>?_⟩
   ·simp only[beq_self_eq_true,if_true,hc];exact e
   ·rcases aI.mp hy with z|z
    ·subst z;exact q3 n a (by simp)
    ·exact q2 y z hf
   ·cases hx:x==n with
    |true=>exact q3 x a (by rw[dH,hx])
    |false=>exact q3 x b (by rw[dH,hx];exact hb)
  ·have hb:(k==NameKind.free)=false:=by simpa using hk
   obtain⟨cl,e,q1,q2,q3⟩:=BR r acc (λy hy=>h1 y (by simp[hy])) h2;refine⟨cl,?_,q1,λy hy hf=>?_,q3⟩
   ·simp only[hb,Bool.false_eq_true,if_false];exact e
   ·rcases aI.mp hy with z|z
    ·simp_all
    ·exact q2 y z hf
theorem Zc{P:Program}{w:World}:Passes (kE P w) X (λ_ _ _=>False):=λ_ _ _ _ _ _ _ h=>by
 obtain⟨_,_,_,_,_,_,_,z⟩:=h;exact z.elim
theorem O6{env:Env}:∀{names:List (Str×NameKind)} {x:Str},names.lookup x=some .globalImplicit ->
  (names.map λ(n,k)=>if(k==NameKind.free&&env.scope.kind==.function&&env.kindOf n==some .cell) then(n,NameKind.cell) else(n,k)).lookup x=some .globalImplicit
 |[],_,h=>by simp at h
 |(n,k)::r,x,h=>by
  have ih:=@O6 env r x;show List.lookup x ((if(k==NameKind.free&&env.scope.kind==.function&&env.kindOf n==some .cell)=true then(n,NameKind.cell) else(n,k))::_)=_;cases hx:x==n with
  |true =>
   simp only[List.lookup_cons,hx] at h;cases h;simp[List.lookup_cons,hx]
  |false =>
   simp only[List.lookup_cons,hx] at h;by_cases hc:(k==NameKind.free&&env.scope.kind==.function&&env.kindOf n==some .cell)=true
   ·rw[aJ hc];simp only[List.lookup_cons,hx];exact ih h
   ·rw[aD hc];simp only[List.lookup_cons,hx];exact ih h
theorem iK.comp(C:iK X c P Ξ){sc:Scope}(h:c.Cd sc=true):∃cl,dI X sc (frees sc++locals sc) (c.c8 sc) cl/\∀pins A s H fp,iK (d0 X pins sc (frees sc++locals sc) cl A s H fp) (c.inner sc) P (rT Ξ.1):=by
 unfold i7.Cd at h;simp only[Bool.and_eq_true,decide_eq_true_eq,List.all_eq_true] at h;obtain⟨⟨⟨⟨h1,h2⟩,h3⟩,h4⟩,h5⟩:=h;have nC:∀x,sc.names.lookup x=some .free->x∈frees sc:=λx hx=>by
  unfold frees;exact aH.mpr ⟨(x,.free),bH.mpr ⟨aS hx,by simp⟩,rfl⟩
 have fr:∀x∈frees sc,(∃i,c.idx x=some i)/\sc.names.lookup x=some .free/\(c.nm.lookup x=some .cell\/c.nm.lookup x=some .free):=λx hx=>by
  have:=h5 x hx;rw[eU,dh] at this;simp only[decide_eq_true_eq] at this;exact⟨this.1.1,this.1.2,this.2⟩
 have rH:∀y∈sc.names,y.2=.free->∃a,X.env.cells.lookup y.1=some a:=λy hy hf=>by
  have hm:y.1∈frees sc:=aH.mpr ⟨y,bH.mpr ⟨hy,by simp[hf]⟩,rfl⟩;exact C.cells y.1 (fr y.1 hm).2.2
 obtain⟨cl,e,q1,q2,_⟩:=BR sc.names [] rH (λx a h=>by simp at h);have h2:∀y∈sc.names,y.2=.cell->sc.names.lookup y.1=some .cell:=λy hy hl=>by
  have:=h2 y hy;rw[dh] at this;simp only[Bool.not_eq_true',decide_eq_false_iff_not,decide_eq_true_eq] at this;exact this.resolve_left λz=>z hl
 refine⟨cl,⟨h1,h2,λy hy hl=>?_,?_,q1,λx hx=>q2 (x,.free) (aS hx) rfl,h4,λi j iI=>?_,?_⟩,λpins A s H fp=>?_⟩
 ·have:=h3 y hy;rw[dh] at this;simp only[Bool.not_eq_true',decide_eq_false_iff_not,decide_eq_true_eq] at this;exact this.resolve_left λz=>z hl
 ·simp only[closureFor];rw[e]
  rfl
 ·unfold i7.c8 at iI;rw[ag] at iI;cases ex:(frees sc)[i]? with
  |none=>rw[ex] at iI;cases iI
  |some x =>
   rw[ex] at iI;have hx:x∈frees sc:=aF ex;obtain⟨⟨k,hk⟩,hl,hc⟩:=fr x hx;have hj:k=j:=by
    have:=aN iI;dsimp only at this;rw[hk] at this;exact this
   subst hj;refine⟨x,?_,C.rO hk,hl,?_⟩
   ·rw[aL (au.mp ex).1];exact ex
   ·rcases hc with z|z
    ·exact .inl (C.Bt x z)
    ·exact C.GD x z
 ·unfold i7.c8;rw[ai,bE];omega
 ·refine⟨rfl,h4,λx hx=>lookup_relabel_local hx,λx hx=>?_,λx hx=>C9 hx,λx hx=>O6 hx,λx hx=>?_,λx _=>?_,rfl,C.units,(λ_=>PassesOwn.never),C.mono,C.con,C.blt,C.fns,C.cls,C.qx,C.oQ,C.OM,Zc,C.Gz,(λz=>by cases z),λ_=>rfl⟩
  ·exact L4 hx
  ·rcases hx with hx|hx
   ·exact HU (.inl hx)
   ·exact HU (.inr (q2 (x,.free) (aS hx) rfl))
  ·exact aw ‹_›
theorem V6(h:rQ x=true):(x==("__debug__":Str))=false/\(x==("__classdict__":Str))=false/\x≠"__name__":=by
 unfold rQ at h;simp only[Bool.and_eq_true,decide_eq_true_eq,beq_iff_eq] at h;exact⟨h.1.1,h.1.2,h.2⟩
theorem Ys{t:String}(h:Dw.lookup x=some t):bootBuiltins x=some (.type t):=by
 have hm:=aS h;simp only[Dw,List.mem_cons,List.mem_nil_iff,or_false] at hm;rcases hm with z|z|z|z|z<;>(cases z;first|exact wU|exact PyProof.Rows.boot_bool|exact PyProof.Rows.boot_str|exact se|exact tZ|decide +kernel|rfl)
theorem Yy(hc:X.calm=true)(hu:X.A.units+100<cLine)(h:DF.lookup x=some p):∃v,((∃id,v=.builtin id)\/∃T,v=.type T)/\bootBuiltins x=some v/\l6 X v (rN X.K p):=by
 have hm:=aS h;simp only[DF,List.mem_cons,List.mem_nil_iff,or_false] at hm;rcases hm with z|z|z|z|z|z|z|z|z|z|z|z
 ·cases z;exact⟨.builtin "len",.inl ⟨_,rfl⟩,PySem.boot_len,QK⟩
 ·cases z;exact⟨.type "list",.inr ⟨_,rfl⟩,by first|exact tZ|decide +kernel,Tq hc⟩
 ·cases z;exact⟨.type "tuple",.inr ⟨_,rfl⟩,by first|exact se|decide +kernel,Yp⟩
 ·cases z;exact⟨.builtin "isinstance",.inl ⟨_,rfl⟩,by first|exact PyProof.Rows.boot_isinstance|decide +kernel,Ti⟩
 ·cases z;exact⟨.builtin "all",.inl ⟨_,rfl⟩,by first|exact PyProof.Rows.boot_all|decide +kernel,Ql hc⟩
 ·cases z;exact⟨.builtin "max",.inl ⟨_,rfl⟩,by first|exact PyProof.Rows.boot_max|decide +kernel,QT hc⟩
 ·cases z;exact⟨.builtin "min",.inl ⟨_,rfl⟩,by first|exact PyProof.Rows.boot_min|decide +kernel,QV hc hu⟩
 ·cases z;exact⟨.type "int",.inr ⟨_,rfl⟩,by first|exact wU|decide +kernel,Qz⟩
 ·cases z;exact⟨.type "dict",.inr ⟨_,rfl⟩,by first|exact PyProof.Rows.boot_dict|decide +kernel,a54 hc⟩
 ·cases z;exact⟨.builtin "sorted",.inl ⟨_,rfl⟩,by first|exact PyProof.Rows.boot_sorted|decide +kernel,Yj hc⟩
 ·cases z;exact⟨.builtin "sum",.inl ⟨_,rfl⟩,by first|exact PyProof.Rows.boot_sum|decide +kernel,Su hc⟩
 ·cases z;exact⟨.type "set",.inr ⟨_,rfl⟩,by first|exact PyProof.Rows.boot_set|decide +kernel,Tp hc⟩
theorem ZQ(h:yN.lookup x=some p):∃T id,PlainAttrs T/\Slot T x id/\typeOf (.builtin id)=pure (.type "method_descriptor")/\nS X id (rM X.K p) /\
  ∀{d:D} {v:V} {g:G} {ρ:List Addr} {H:Hp},Rl X.K ρ g H->d4 X.K ρ H d v->mM p d g->nW X.K T v H:=by
 cases h
theorem YX(hu:X.A.units+100<cLine)(h:DO.lookup x=some p):∃T id,PlainAttrs T/\Slot T x id/\typeOf (.builtin id)=pure (.type "method_descriptor")/\nS X id (rM X.K p) /\
  ∀{d:D} {v:V} {g:G} {ρ:List Addr} {H:Hp},Rl X.K ρ g H->d4 X.K ρ H d v->mM p d g->nW X.K T v H:=by
 have hm:=aS h;simp only[DO,List.mem_cons,List.mem_nil_iff,or_false] at hm;rcases hm with z|z|z|z
 ·cases z;exact⟨_,_,rY,PySem.F.slot_list_append,PySem.F.type_list_append,Yw,λR r h=>ty_list R r h⟩
 ·cases z;exact⟨_,_,rY,PySem.F.slot_list_pop,PySem.F.type_list_pop,a25,λR r h=>ty_list R r h⟩
 ·cases z;exact⟨_,_,PySem.F.plainAttrs_dict,iW,PySem.F.type_dict_get,Qu hu,λR r h=>ty_dict R r h⟩
 ·cases z;exact⟨_,_,PySem.F.plainAttrs_set,PySem.F.slot_set_add,PySem.F.type_set_add,Up,λR r h=>ty_set R r h⟩
theorem HH{pos:Pos}{env:Env}:∀{es:List Expr},(∀e∈es,gU e=true)->(backTo pos (starEach es env)).all (λx=>!x.1)=true
 |[],_=>rfl
 |e::es,h=>by
  rw[n9 (h e (by simp))];have ih:=HH (pos:=pos) (env:=env) (es:=es) λx hx=>h x (by simp[hx]);unfold backTo at ih ⊢;rw[cP,List.all_cons,ih]
  rfl
theorem Cs{pos:Pos}{env:Env}:∀{es:List Expr},(∀e∈es,gU e=true)->(backTo pos (starEach es env)).any (·.1)=false
 |[],_=>rfl
 |e::es,h=>by
  rw[n9 (h e (by simp))];have ih:=Cs (pos:=pos) (env:=env) (es:=es) λx hx=>h x (by simp[hx]);unfold backTo at ih ⊢;rw[cP,jW,ih]
  rfl
theorem Kv:∀{es:List Expr} {m:ME},H9 r c es=some m->∀e∈es,gU e=true:=by
 intro es
 induction es with
 |nil=>intro m _ e he;simp_all
 |cons a es ih =>
  intro m h e he;unfold H9 at h;split at h
  ·obtain⟨m1,h1,h⟩:=ak.mp h;obtain⟨m2,h2,_⟩:=aa.mp h;rcases aI.mp he with z|z
   ·rw[z];assumption
   ·exact ih h2 e z
  ·cases h
structure qd(P:fK)(r:CF):Prop where
 e:∀X c Ξ,iK X c P Ξ->∀e m,r.e c e=some m->PE X e (LE X.K Ξ (bp P m))
 t:∀X c Ξ,iK X c P Ξ->∀e m,r.t c e=some m->PT X e (LT X.K Ξ (eA P m))
 s:∀X c Ξ,iK X c P Ξ->c.wr=true->∀st m,r.s c st=some m->PS X st (LS X.K Ξ (wpS P m))
section
variable(S:qd P r)(C:iK X c P Ξ){a:Expr}
include S C
theorem wm(h:c1 r c p a=some m):∃ma,PE X a (LE X.K Ξ (bp P ma))/\m=.prim p (.cons ma .nil):=by
 obtain⟨ma,ha,rfl⟩:=aa.mp h;exact⟨ma,S.e X c Ξ C _ _ ha,rfl⟩
theorem W7(h:c2 r c p a b=some m):∃ma mb,PE X a (LE X.K Ξ (bp P ma))/\PE X b (LE X.K Ξ (bp P mb))/\m=.prim p (.cons ma (.cons mb .nil)):=by
 obtain⟨ma,ha,h⟩:=ak.mp h;obtain⟨mb,hb,rfl⟩:=aa.mp h;exact⟨ma,mb,S.e X c Ξ C _ _ ha,S.e X c Ξ C _ _ hb,rfl⟩
theorem xp:∀{es:List Expr} {m:ME},H9 r c es=some m->PA X es (LA X.K Ξ (gT P m)):=by
 intro es
 induction es with
 |nil=>intro m h;cases h;exact K4 C.mono
 |cons a es ih =>
  intro m h;unfold H9 at h;split at h
  ·rename_i cu;obtain⟨m1,h1,h⟩:=ak.mp h;obtain⟨m2,h2,rfl⟩:=aa.mp h;exact B8 C.mono (S.e X c Ξ C _ _ h1) (ih h2) (n9 cu)
  ·cases h
theorem MD{op:BoolOp}:∀{vs:List Expr} {m:ME},Dd r c op vs=some m->PE X (.BoolOp op vs pos) (LE X.K Ξ (bp P m)):=by
 intro vs
 induction vs with
 |nil=>intro m h;cases h
 |cons a vs ih =>
  intro m h;cases vs with
  |nil=>exact Rw (S.e X c Ξ C _ _ h)
  |cons b vs =>
   obtain⟨m1,h1,h⟩:=ak.mp h;obtain⟨m2,h2,rfl⟩:=aa.mp h;cases op
   ·exact RS C.mono (S.e X c Ξ C _ _ h1) (ih h2)
   ·exact PH C.mono (S.e X c Ξ C _ _ h1) (ih h2)
theorem My{op:BoolOp}:∀{vs:List Expr} {m:ME},Df r c op vs=some m->PW X (.BoolOp op vs pos) (LT X.K Ξ (eA P m)):=by
 intro vs
 induction vs with
 |nil=>intro m h;cases h
 |cons a vs ih =>
  intro m h;cases vs with
  |nil =>
   cases op
   ·exact Uk (S.t X c Ξ C _ _ h)
   ·exact RN (S.t X c Ξ C _ _ h)
  |cons b vs =>
   obtain⟨m1,h1,h⟩:=ak.mp h;obtain⟨m2,h2,rfl⟩:=aa.mp h;cases op
   ·exact Sv C.mono (S.t X c Ξ C _ _ h1) (ih h2)
   ·exact PL C.mono (S.t X c Ξ C _ _ h1) (ih h2)
theorem VC(h:Jv r c es=some m):lR X es (LT X.K Ξ (eA P m)):=by
 rcases es with _|⟨e,_|⟨_,_⟩⟩
 ·cases h;exact UJ C.mono
 ·exact Ui (S.t X c Ξ C _ _ h)
 ·cases h
theorem wD(hw:c.wr=true):∀{EJ:List Stmt} {m:MS},A4 r c EJ=some m->jU X EJ (LS X.K Ξ (wpS P m)):=by
 intro es
 induction es with
 |nil=>intro m h;cases h;exact Sk C.mono
 |cons a es ih =>
  intro m h;obtain⟨m1,h1,h⟩:=ak.mp h;obtain⟨m2,h2,rfl⟩:=aa.mp h;exact UI C.mono (S.s X c Ξ C hw _ _ h1) (ih h2)
end
theorem Jd{t:Expr}(h:A2 e=true):swapsWithSole [t] e n env=pure false:=by
 exact CL h
section
variable(S:qd P r)(C:iK X c P Ξ){a d:Expr}
include C
theorem QX(h:DB c x=some m):PE X (.Name x pos) (LE X.K Ξ (bp P m)):=by
 unfold DB at h;split at h
 ·rename_i hZ;obtain⟨d1,d2,d3⟩:=V6 hZ;split at h
  ·rename_i hv;obtain⟨i,hi,rfl⟩:=aa.mp h;exact Sa (C.rO hi) (C.Qf hv) d1 d2
  ·split at h
   ·rename_i hg;rcases orElse_some h with h|h
    ·obtain⟨d,hd,rfl⟩:=aa.mp h;obtain⟨v,u,hm,r,rr⟩:=C.con x d hd;exact U8 (Kb (C.B5 hg) hm r d1) rr
    ·split at h
     ·rename_i hb;obtain⟨t,ht,rfl⟩:=aa.mp h;exact U8 (v:=.ty t) (TQ (C.B5 hg) (C.blt x hb) (Ys ht) rfl d3 d1) λ_ _=>.ty t
     ·cases h
   ·cases h
 ·cases h
omit C in
theorem MB{k:Const}{j:Nat}{d:D}(h:De k=some d):PE X (.Constant k j pos) (LE X.K Ξ (bp P (.lit d))):=by
 cases k<;>first|(cases h;done)|skip
 ·cases h;exact U8 Ru λ_ _=>.bR
 ·cases h;exact U8 Xt λ_ _=>.bl _
 ·cases h;exact U8 Rq λ_ _=>.int _
 ·cases h;exact U8 Rx λ_ _=>.str _
include S
theorem VD{op:UnaryOp}(h:zj r c op a=some m):PE X (.UnaryOp op a pos) (LE X.K Ξ (bp P m)):=by
 unfold zj at h;split at h
 ·rename_i ho;subst ho;obtain⟨ma,ha,rfl⟩:=aa.mp h;exact RY C.mono (S.e X c Ξ C _ _ ha)
 ·obtain⟨ma,ha,rfl⟩:=wm S C h;exact PJ C.mono ha
theorem La{ops:List CmpOp}{bs:List Expr}(h:vZ r c a ops bs=some m):PE X (.Compare a ops bs pos) (LE X.K Ξ (bp P m))/\PT X (.Compare a ops bs pos) (LT X.K Ξ (eA P (.fG m))):=by
 unfold vZ at h;split at h
 ·rename_i op b;split at h
  ·cases h
  ·rename_i hm;have hm:behindInMarks op b=false:=by simpa using hm
   obtain⟨ma,mb,ha,hb,rfl⟩:=W7 S C h;exact⟨Bx C.mono (TU (V5 C.units op) ha hb hm),Sr C.mono (Ug (V5 C.units op) ha hb hm)⟩
 ·split at h
  ·cases h
  ·rename_i hm;obtain⟨ma,ha,h⟩:=ak.mp h;obtain⟨mb,hb,h⟩:=ak.mp h;obtain⟨md,hd,rfl⟩:=aa.mp h;exact⟨a05 C.mono C.units (S.e X c Ξ C _ _ ha) (S.e X c Ξ C _ _ hb) (S.e X c Ξ C _ _ hd) (by simpa using hm),Yl C.mono C.units (S.e X c Ξ C _ _ ha) (S.e X c Ξ C _ _ hb) (S.e X c Ξ C _ _ hd) (by simpa using hm)⟩
 ·cases h
theorem VA{lo hi st:Option Expr}{p2:Pos}(h:EB r c a lo hi st=some m):PE X (.Subscript a (.Slice lo hi st p2) pos) (LE X.K Ξ (bp P m)):=by
 cases lo<;>cases hi<;>cases st<;>first|(cases h;done)|skip
 ·obtain⟨ma,mb,ha,hb,rfl⟩:=W7 S C h;exact Yg C.mono ha hb
 ·obtain⟨ma,mb,ha,hb,rfl⟩:=W7 S C h;exact Yh C.mono ha hb
theorem Xi(h:Hu r c a b=some m):PE X (.Subscript a b pos) (LE X.K Ξ (bp P m)):=by
 rcases orElse_some h with h|h
 ·obtain⟨q,hq,h⟩:=ak.mp h;have eb:∃p,b=.Slice q.1 q.2.1 q.2.2 p:=by cases b<;>first|(cases hq;exact⟨_,rfl⟩)|cases hq
  obtain⟨p,rfl⟩:=eb;exact VA S C h
 ·split at h
  ·rename_i hb;rcases orElse_some h with h|h
   ·obtain⟨kvs,hk,h⟩:=ak.mp h;obtain⟨mb,lH,rfl⟩:=aa.mp h;obtain⟨x,p,rfl,hg,hd,hk⟩:=a49 hk;exact Us C.mono (C.B5 hg) (V6 hd).1 (C.Gz x kvs hk) (S.e X c Ξ C _ _ lH) (JA hb)
   ·obtain⟨ma,mb,ha,lH,rfl⟩:=W7 S C h;exact Bx C.mono (Lb (WV C.units) ha lH (JA hb))
  ·cases h
theorem VB{px:Pos}(hg:c.gl x=true)(h:EA r c x e=some m):PE X (.Call (.Name x px) [e] [] pos) (LE X.K Ξ (bp P m)):=by
 obtain⟨q,hq,h'⟩:=ak.mp h;clear h;have h:=h';clear h';obtain⟨p,pos',rfl⟩:=IT hq;obtain⟨y,as⟩:=q;dsimp only at h ⊢;split at h
 ·rename_i hc;simp only[Bool.and_eq_true,decide_eq_true_eq] at hc;obtain⟨⟨⟨⟨rfl,rfl⟩,hl⟩,hr⟩,sN⟩:=hc;rcases as with _|⟨a,_|⟨b,_|⟨_,_⟩⟩⟩
  ·cases h
  ·dsimp only at h;split at h
   ·rename_i ho;obtain⟨ma,ha,rfl⟩:=wm S C h;exact a04 C.mono C.calm ha (C.B5 hg) (C.blt _ hl) (C.B5 sN) (C.blt _ hr) (n9 ho)
   ·cases h
  ·dsimp only at h;split at h
   ·rename_i ho;rw[aT] at ho;obtain⟨ma,mb,ha,hb,rfl⟩:=W7 S C h;exact a03 C.mono C.calm ha hb (C.B5 hg) (C.blt _ hl) (C.B5 sN) (C.blt _ hr) (by rw[n9 ho.1,n9 ho.2];rfl) (n9 ho.2)
   ·cases h
  ·cases h
 ·split at h
  ·rename_i hc;simp only[Bool.and_eq_true,decide_eq_true_eq] at hc;obtain⟨⟨⟨⟨rfl,rfl⟩,hl⟩,hr⟩,sN⟩:=hc;rcases as with _|⟨a,_|⟨_,_⟩⟩
   ·cases h
   ·dsimp only at h;split at h
    ·rename_i ho;obtain⟨ma,ha,rfl⟩:=wm S C h;exact Ux C.mono C.calm ha (C.B5 hg) (C.blt _ hl) (C.B5 sN) (C.blt _ hr) (n9 ho)
    ·cases h
   ·cases h
  ·split at h
   ·rename_i hc;simp only[Bool.and_eq_true,decide_eq_true_eq] at hc;obtain⟨⟨⟨⟨rfl,rfl⟩,hl⟩,hr⟩,sN⟩:=hc;rcases as with _|⟨a,_|⟨_,_⟩⟩
    ·cases h
    ·dsimp only at h;split at h
     ·rename_i ho;obtain⟨ma,ha,rfl⟩:=wm S C h;exact Ut C.mono C.calm ha (C.B5 hg) (C.blt _ hl) (C.B5 sN) (C.blt _ hr) (n9 ho)
     ·cases h
    ·cases h
   ·cases h
theorem Tw{px:Pos}(h:JN r c x args=some m):PE X (.Call (.Name x px) args [] pos) (LE X.K Ξ (bp P m)):=by
 cases args with
 |nil =>
  have h2:BE c x=some m:=h;unfold BE at h2;split at h2
  ·rename_i hZ;rw[aT] at hZ;rcases orElse_some h2 with h2|h2
   ·obtain⟨f,hf,rfl⟩:=aa.mp h2;obtain⟨k,fa,fd,ps,F,hr,hm,hk⟩:=C.fns x f hf;exact a06 C.mono C.pass F hr (C.B5 hZ.2) hm hk (V6 hZ.1).1
   obtain⟨f,hf,rfl⟩:=aa.mp h2;obtain⟨k,C',fa,fd,ps,F,hr,hm,hC,jG,M⟩:=C.cls x f hf;exact a02 C.mono C.pass F M hC jG hr (C.B5 hZ.2) hm (V6 hZ.1).1
  ·cases h2
 |cons e es =>
  have h0:BG r c x e es=some m:=h;clear h;have h:=h0;clear h0;unfold BG at h;split at h
  ·rename_i hZ;rw[aT] at hZ;obtain⟨d1,d2,d3⟩:=V6 hZ.1;rcases orElse_some h with h|h
   ·cases es with
    |nil=>exact VB S C hZ.2 h
    |cons _ _=>cases h
   ·obtain⟨ms,oG,h⟩:=ak.mp h;have ok:=Kv oG;have pa:=xp S C oG;have fR:=n9 (env:=X.env) (es:=es) (ok e (by simp));have gF:=Cs (pos:=pos) (env:=X.env) (es:=es) λz hz=>ok z (by simp[hz]);rcases orElse_some h with h|h
    ·obtain⟨f,hf,rfl⟩:=aa.mp h;obtain⟨k,fa,fd,ps,F,hr,hm,hk⟩:=C.fns x f hf;exact Uq C.mono C.pass F hr (C.B5 hZ.2) hm hk pa d1 fR gF
    ·rcases orElse_some h with h|h
     ·obtain⟨f,hf,rfl⟩:=aa.mp h;obtain⟨k,C',fa,fd,ps,F,hr,hm,hC,jG,M⟩:=C.cls x f hf;exact Uu C.mono C.pass F M hC jG hr (C.B5 hZ.2) hm pa d1 fR gF
     ·split at h
      ·rename_i hb;obtain⟨p,hp,rfl⟩:=aa.mp h;obtain⟨v,hv,Au,hc⟩:=Yy (X:=X) C.calm C.units hp;exact RT C.mono hv hc (C.B5 hZ.2) (C.blt x hb) Au pa d3 d1 fR gF
      ·cases h
  ·cases h
theorem Tv{mt:Str}{apos:Pos}(h:BH r c o mt apos pos args=some m):PE X (.Call (.Attribute o mt apos) args [] pos) (LE X.K Ξ (bp P m)):=by
 unfold BH at h;split at h
 ·rename_i hc;simp only[Bool.and_eq_true,decide_eq_true_eq] at hc;obtain⟨⟨hb,hl⟩,hn⟩:=hc;obtain⟨mo,ho,h⟩:=ak.mp h;obtain⟨ms,oG,h⟩:=ak.mp h;have ok:=Kv oG;have pa:=xp S C oG;have po:=S.e X c Ξ C _ _ ho;have hf:methodCallForm args.length (backTo pos (starEach args X.env)) (backToKw pos (keywordEach [] X.env))=true:=by
   unfold methodCallForm;rw[HH ok];have:args.length+0<30:=by omega
   show(true&&true&&decide (args.length+0<30))=true;rw[aw this]
   rfl
  by_cases vm:mt="index"
  ·subst vm;rw[aJ rfl] at h;cases h
  rw[aD vm] at h;cases args with
  |nil =>
   cases oG;by_cases h0:(yN.lookup mt).isSome=true
   ·rw[aJ (by rw[h0];rfl)] at h;obtain⟨p,hp,rfl⟩:=aa.mp h;obtain⟨T,id,zC,sl,ty,zH,hk⟩:=ZQ (X:=X) hp;exact a01 C.mono zC sl ty zH hk po (Q4 hb) hl
   rw[aD (by rw[aT];exact λz=>h0 z.2)] at h;split at h
   ·cases h
   ·cases h
  |cons e es =>
   have fR:=n9 (env:=X.env) (es:=es) (ok e (by simp));have gF:=Cs (pos:=pos) (env:=X.env) (es:=es) λz hz=>ok z (by simp[hz]);rw[aD (by simp)] at h;split at h
   ·rename_i p hp;cases h;obtain⟨T,id,zC,sl,ty,zH,hk⟩:=YX (X:=X) C.units hp;exact Uv C.mono zC sl ty zH hk po pa (Q4 hb) hf hl fR gF
   ·cases h
 ·cases h
theorem Fg{tg:Expr}(h:yd r c tg e=some m):PI X tg e (LI X.K Ξ (gS P m)):=by
 rcases orElse_some h with h|h
 ·obtain⟨q,hq,h'⟩:=ak.mp h;rename_i h0;clear h h0;have h:=h';clear h';obtain⟨p,pos',rfl⟩:=IT hq;obtain⟨y,as⟩:=q;dsimp only at h ⊢;split at h
  ·rename_i hy;subst hy;rcases as with _|⟨a,_|⟨_,_⟩⟩
   ·cases h
   ·dsimp only at h;split at h
    ·rename_i hc;simp only[Bool.and_eq_true] at hc;obtain⟨⟨⟨hg,hb⟩,ho⟩,ht⟩:=hc;obtain⟨ma,ha,rfl⟩:=aa.mp h;obtain⟨es,k,tp,rfl⟩:=Yx ht;exact UD C.mono (S.e X c Ξ C _ _ ha) (C.B5 hg) (C.blt _ hb) (n9 ho)
    ·cases h
   ·cases h
  ·split at h
   ·rename_i hy;subst hy;rcases as with _|⟨a,_|⟨_,_⟩⟩
    ·cases h
    ·dsimp only at h;split at h
     ·rename_i hc;simp only[Bool.and_eq_true] at hc;obtain⟨⟨hg,hb⟩,ho⟩:=hc;obtain⟨ma,ha,rfl⟩:=aa.mp h;exact Se C.mono (S.e X c Ξ C _ _ ha) (C.B5 hg) (C.blt _ hb) (n9 ho)
     ·cases h
    ·cases h
   split at h
   ·rename_i hy;subst hy;rcases as with _|⟨a,_|⟨b,_|⟨_,_⟩⟩⟩
    ·cases h
    ·dsimp only at h;split at h
     ·rename_i hc;simp only[Bool.and_eq_true] at hc;obtain⟨⟨hg,hb⟩,ho⟩:=hc;obtain⟨ma,ha,rfl⟩:=aa.mp h;exact UE C.mono (S.e X c Ξ C _ _ ha) (C.B5 hg) (C.blt _ hb) (n9 ho)
     ·cases h
    ·dsimp only at h;split at h
     ·rename_i hc;simp only[Bool.and_eq_true] at hc;obtain⟨⟨⟨hg,hb⟩,ho⟩,vf⟩:=hc;obtain⟨ma,ha,h⟩:=ak.mp h;obtain⟨mb,lH,rfl⟩:=aa.mp h;exact UG C.mono (S.e X c Ξ C _ _ ha) (S.e X c Ξ C _ _ lH) (C.B5 hg) (C.blt _ hb) (by rw[n9 ho,n9 vf];rfl) (n9 vf)
     ·cases h
    ·cases h
   ·cases h
 ·split at h
  ·obtain⟨ma,ha,rfl⟩:=aa.mp h;exact Sf C.mono (S.e X c Ξ C _ _ ha)
  ·cases h
theorem Cc{elt:Expr}{gens:List Comprehension}{sc:Scope}(h:W9 r c elt gens sc=some m):∃tg it ifs t mi mc me cl,gens=[⟨tg,it,ifs,0⟩]/\m=.comp (c.c8 sc) (frees sc++locals sc).length t mi mc me/\gU it=true /\
  dI X sc (frees sc++locals sc) (c.c8 sc) cl/\PI X tg it (LI X.K Ξ (gS P mi))/\(∀pins A s H fp,PG (d0 X pins sc (frees sc++locals sc) cl A s H fp) tg (LG X.K t)) /\
   (∀pins A s H fp,lR (d0 X pins sc (frees sc++locals sc) cl A s H fp) ifs (LT X.K (rT Ξ.1) (eA P mc)))/\(∀pins A s H fp,PE (d0 X pins sc (frees sc++locals sc) cl A s H fp) elt (LE X.K (rT Ξ.1) (bp P me))):=by
 unfold W9 at h;rcases gens with _|⟨⟨tg,it,ifs,Fp⟩,_|⟨_,_⟩⟩
 ·cases h
 ·dsimp only at h;split at h
  ·rename_i hs;simp only[Bool.and_eq_true,decide_eq_true_eq] at hs;obtain⟨⟨hs,rfl⟩,hit⟩:=hs;obtain⟨t,h1,h⟩:=ak.mp h;obtain⟨mi,h2,h⟩:=ak.mp h;obtain⟨mc,h3,h⟩:=ak.mp h;obtain⟨me,h4,rfl⟩:=aa.mp h;obtain⟨cl,Sc,I⟩:=C.comp hs;exact⟨tg,it,ifs,t,mi,mc,me,cl,rfl,rfl,hit,Sc,Fg S C h2,λpins A s H fp=>(I pins A s H fp).Hq rfl h1,λpins A s H fp=>VC S (I pins A s H fp) h3,λpins A s H fp=>S.e _ _ _ (I pins A s H fp) elt me h4⟩
  ·cases h
 ·cases h
omit S in
theorem Vz{f:Expr}{jy:List Keyword}(h:wX c f args jy=some m):PE X (.Call f args jy pos) (LE X.K Ξ (bp P m)):=by
 unfold wX at h;cases h
theorem MC:∀e m,Li r c e=some m->PE X e (LE X.K Ξ (bp P m)):=by
 intro e m h;cases e with
 |Name x p=>exact QX C h
 |Constant k j p =>
  obtain⟨d,hd,rfl⟩:=aa.mp (show(De k).map ME.lit=some m from h);exact MB hd
 |BinOp a op b p =>
  obtain⟨ma,mb,ha,hb,rfl⟩:=W7 S C h;exact Bx C.mono (Pp (Ra op) ha hb)
 |UnaryOp op a p=>exact VD S C h
 |Compare a ops bs p=>exact(La S C h).1
 |BoolOp op vs p=>exact MD S C h
 |IfExp t a b p =>
  obtain⟨mt,ht,h⟩:=ak.mp h;obtain⟨ma,ha,h⟩:=ak.mp h;obtain⟨mb,hb,rfl⟩:=aa.mp h;exact RV C.mono (S.t X c Ξ C _ _ ht) (S.e X c Ξ C _ _ ha) (S.e X c Ξ C _ _ hb)
 |Tuple es k p =>
  obtain⟨ma,ha,rfl⟩:=aa.mp h;exact RZ C.mono (xp S C ha)
 |List es p =>
  obtain⟨ma,ha,rfl⟩:=aa.mp h;exact RX C.mono (xp S C ha)
 |Subscript a b p=>exact Xi S C h
 |Dict ks vs p =>
  have h2:(if ks.isEmpty&&vs.isEmpty then some (ME.prim .Z6 .nil) else none)=some m:=h;split at h2
  ·rename_i hc;cases ks<;>cases vs<;>first|(cases hc;done)|skip
   cases h2;exact Ur
  ·cases h2
 |Attribute o f p =>
  have h2:(if yE o then c1 r c (.fld f) o else none)=some m:=h;split at h2
  ·rename_i hb;obtain⟨ma,ha,rfl⟩:=wm S C h2;exact RU C.mono ha (Q4 hb)
  ·cases h2
 |Call f args jy pos =>
  have h1:((zk r c f args jy).orElse λ_=>(wX c f args jy).orElse λ_=>DA r c f args jy pos)=some m:=h;rcases orElse_some h1 with h2|h2
  ·unfold zk at h2;rcases args with _|⟨a,_|⟨_,_⟩⟩
   ·cases h2
   ·dsimp only at h2;split at h2
    ·rename_i hk;simp only[Bool.and_eq_true,decide_eq_true_eq] at hk;obtain⟨⟨⟨hk,hf⟩,nB⟩,hb⟩:=hk;cases jy<;>first|(cases hk;done)|skip
     obtain⟨q,hq,h3⟩:=ak.mp h2;obtain⟨m1,h4,h5⟩:=ak.mp h3;cases f<;>first|(cases hf;done)|skip
     cases a<;>first|(cases hq;done)|skip
     cases hf;cases hq;obtain⟨tg,it,ifs,t,mi,mc,me,cl,eg,rfl,hit,Sc,q1,q2,q3,q4⟩:=Cc S C h4;dsimp only at eg;subst eg;cases h5;exact a00 C.mono Sc C.calm q1 q2 q3 q4 (X9 hit) (C.B5 nB) (C.blt _ hb)
    ·cases h2
   ·cases h2
  clear h h1;rcases orElse_some h2 with h3|h3
  ·exact Vz C h3
  clear h2;unfold DA at h3;split at h3
  ·rename_i hk;cases jy<;>first|(cases hk;done)|skip
   cases f with
   |Name x p=>exact Tw S C h3
   |Attribute o a p=>exact Tv S C h3
   |_=>cases h3
  ·cases h3
 |Set es k p =>
  have h2:CS c es k=some m:=h;unfold CS at h2;split at h2
  ·rename_i hc;rw[aT] at hc;obtain rfl:=bo hc.2;split at h2
   ·cases h2;exact Uw C.mono (C.code hc.1)
   ·cases h2
  ·cases h2
 |ListComp elt gens sc p =>
  obtain⟨tg,it,ifs,t,mi,mc,me,cl,rfl,rfl,hit,Sc,q1,q2,q3,q4⟩:=Cc S C h;exact(Ka Sc C.calm q1 q2 q3 q4 (X9 hit)).imp λU H Q h=>Kx C.mono U H Q h
 |_=>cases h
theorem Mz:∀e m,stepT r c e=some m->PT X e (LT X.K Ξ (eA P m)):=by
 intro e m h;have plain:∀{e:Expr} {m:ME},(if CM e then(r.e c e).map ME.fG else none)=some m->PT X e (LT X.K Ξ (eA P m)):=λ{e m} h=>by
  split at h
  ·rename_i hp;obtain⟨ma,ha,rfl⟩:=aa.mp h;exact Ss C.mono (S.e X c Ξ C _ _ ha) (Zj hp)
  ·cases h
 cases e with
 |UnaryOp op a p =>
  have h2:(if op=.Not then(r.t c a).map ME.dQ else none)=some m:=h;split at h2
  ·rename_i ho;subst ho;obtain⟨ma,ha,rfl⟩:=aa.mp h2;exact Sq C.mono (S.t X c Ξ C _ _ ha)
  ·cases h2
 |BoolOp op vs p=>exact(My S C h).pt
 |Compare a ops bs p =>
  obtain⟨ma,ha,rfl⟩:=aa.mp (show(vZ r c a ops bs).map ME.fG=some m from h);exact(La S C ha).2
 |_=>exact plain h
end
section
theorem Te(C:iK X c P Ξ){f:Str}:DC X.K f (c.Hc f):=λy C' h hC=>by
 obtain⟨⟨f',y'⟩,h1,h2⟩:=aH.mp h;obtain⟨h3,h4⟩:=bH.mp h1;cases h2;have:f'=f:=by simpa using h4
 subst this;exact C.oQ f' y' C' h3 hC
variable(S:qd P r)(C:iK X c P Ξ)
include S C
theorem Xh{tg:Expr}{m:MS}(hw:c.wr=true)(hS:∀e m,r.e c e=some m->A2 e=false->∃elt gens sc p,e=.ListComp elt gens sc p/\∃r',qd P r'/\W9 r' c elt gens sc=some m)(hT:∀a b k p m,r.e c (.Tuple [a,b] k p)=some m->∃r' ms,qd P r'/\H9 r' c [a,b]=some ms/\m=.prim .tup ms)(h:Hl r c tg e=some m):PS X (.Assign [tg] e pos) (LS X.K Ξ (wpS P m)):=by
 cases tg with
 |Name x px =>
  have h2:(if c.x4 x then(c.idx x).bind λi=>(r.e c e).map λm=>MS.set i m else none)=some m:=h;split at h2
  ·rename_i hl;obtain⟨i,hi,h2⟩:=ak.mp h2;obtain⟨me,he,rfl⟩:=aa.mp h2;cases hn:A2 e with
   |true=>exact JJ C.mono (JE (C.sD hw) (C.rO hi) (C.x4 hl).1 (S.e X c Ξ C _ _ he) (CL hn) (C.x4 hl).2)
   |false =>
    obtain⟨elt,gens,sc,p,rfl,r',S',hx⟩:=hS e me he hn;obtain⟨tg,it,ifs,t,mi,mc,me,cl,rfl,rfl,hit,Sc,q1,q2,q3,q4⟩:=Cc S' C hx;refine JJ C.mono ?_;exact(aF1 Sc C.calm q1 q2 q3 q4 (X9 hit) (C.sD hw) (C.rO hi) (C.x4 hl).1 (C.x4 hl).2).imp λN U H h=>Kx C.mono U H _ h
  ·cases h2
 |Tuple es k pt =>
  have h0:((DE es).elim (if tS e&&A2 e then(c.slots es).bind λis=>(r.e c e).map λm=>MS.lX (.many is) m else none) λq=>if A2 e&&gU q.2.1&&gU q.2.2.2 then(r.e c q.1).bind λm1=>(r.e c q.2.1).bind λn1=>(r.e c q.2.2.1).bind λm2=>(r.e c q.2.2.2).bind λn2=>(r.e c e).map λm=>MS.xf m1 n1 m2 n2 m else none)=some m:=h;cases hq:DE es with
  |some q =>
   rw[hq] at h0;dsimp only[Option.elim] at h0;split at h0
   ·cases hq
   ·cases h0
  |none =>
  rw[hq] at h0;have h2:(if tS e&&A2 e then(c.slots es).bind λis=>(r.e c e).map λm=>MS.lX (.many is) m else none)=some m:=h0;split at h2
  ·rename_i hn;rw[aT] at hn;obtain⟨is,hs,h2⟩:=ak.mp h2;obtain⟨me,he,rfl⟩:=aa.mp h2;exact Sy C.mono (JD (S.e X c Ξ C _ _ he) (Kk C.calm (C.sD hw) (C.slots hs)) (Jd hn.2) (a34 hn.1))
  ·cases h2
 |Subscript o i pt =>
  have h2:(if gU i&&A2 e then(r.e c o).bind λmo=>(r.e c i).bind λmi=>(r.e c e).map λm=>MS.eM mo mi m else none)=some m:=h;split at h2
  ·rename_i hn;rw[aT] at hn;obtain⟨mo,ho,h2⟩:=ak.mp h2;obtain⟨mi,hi,h2⟩:=ak.mp h2;obtain⟨me,he,rfl⟩:=aa.mp h2;exact Ym C.mono C.units (S.e X c Ξ C _ _ he) (S.e X c Ξ C _ _ ho) (S.e X c Ξ C _ _ hi) (Jd hn.2) (Tz hn.1)
  ·cases h2
 |Attribute o f pt =>
  obtain⟨mo,ho,h⟩:=ak.mp h;obtain⟨me,he,rfl⟩:=aa.mp h;exact UM C.mono (Te C) (S.e X c Ξ C _ _ ho) (S.e X c Ξ C _ _ he) (by cases e<;>rfl)
 |_=>cases h
theorem MA(hw:c.wr=true)(hS:∀e m,r.e c e=some m->A2 e=false->∃elt gens sc p,e=.ListComp elt gens sc p/\∃r',qd P r'/\W9 r' c elt gens sc=some m)(hT:∀a b k p m,r.e c (.Tuple [a,b] k p)=some m->∃r' ms,qd P r'/\H9 r' c [a,b]=some ms/\m=.prim .tup ms) :
  ∀st m,Lj r c st=some m->PS X st (LS X.K Ξ (wpS P m)):=by
 intro st m h;have hP:=C.mono;cases st with
 |AugAssign tg op e p =>
  cases tg with
  |Name x tp =>
   have h2:(if c.x4 x then(KL op).bind λp=>(c.idx x).bind λi=>(r.e c e).map λm=>MS.kC i p m else none)=some m:=h;split at h2
   ·rename_i hl;obtain⟨p,hp,h2⟩:=ak.mp h2;obtain⟨i,hi,h2⟩:=ak.mp h2;obtain⟨me,he,rfl⟩:=aa.mp h2;refine UK C.mono ?_ (C.sD hw) (C.rO hi) (C.x4 hl).1 (C.x4 hl).2 (S.e X c Ξ C _ _ he);cases op<;>first|(cases hp;done)|skip
    ·cases hp;exact .inl ⟨rfl,rfl⟩
    ·cases hp;exact .inr ⟨rfl,rfl⟩
   ·cases h2
  |_=>cases h
 |Expr e p =>
  have h2:(if A2 e then(r.e c e).map MS.expr else none)=some m:=h;split at h2
  ·rename_i hn;obtain⟨me,he,rfl⟩:=aa.mp h2;exact UL hP (S.e X c Ξ C _ _ he) (CL hn)
  ·cases h2
 |Assign zr e p =>
  rcases zr with _|⟨tg,_|⟨_,_⟩⟩
  ·cases h
  ·exact Xh S C hw hS hT h
  ·cases h
 |If t a b p =>
  obtain⟨mt,ht,h⟩:=ak.mp h;obtain⟨ma,ha,h⟩:=ak.mp h;obtain⟨mb,hb,rfl⟩:=aa.mp h;exact PN hP (S.t X c Ξ C _ _ ht) (wD S C hw ha) (wD S C hw hb)
 |For tg it body oX p =>
  have h2:(if c.nM&&(oX.isEmpty&&gU it) then(c.tg tg).bind λt=>(yd r c tg it).bind λmi=>(A4 r c body).map λmb=>MS.dM t mi mb else none)=some m:=h;split at h2
  ·rename_i hc;rw[aT,aT] at hc;cases oX<;>first|(cases hc.2.1;done)|skip
   obtain⟨t,h1,h2⟩:=ak.mp h2;obtain⟨mi,h3,h2⟩:=ak.mp h2;obtain⟨mb,h4,rfl⟩:=aa.mp h2;exact Sw hP (C.own hc.1) C.calm (Fg S C h3) (C.Hq hw h1) (wD S C hw h4) (X9 hc.2.2)
  ·cases h2
 |While t body oX p =>
  have h2:(if c.nM&&oX.isEmpty then(r.t c t).bind λmt=>(A4 r c body).map λmb=>MS.ki mt mb else none)=some m:=h;split at h2
  ·rename_i hc;rw[aT] at hc;cases oX<;>first|(cases hc.2;done)|skip
   obtain⟨mt,h1,h2⟩:=ak.mp h2;obtain⟨mb,h4,rfl⟩:=aa.mp h2;exact Yn hP (C.own hc.1) (S.t X c Ξ C _ _ h1) (wD S C hw h4)
  ·cases h2
 |Return e p =>
  cases e with
  |none=>cases h;exact(Ud (X:=X)).imp λN cA H ⟨U,g,ρ,s,R,h⟩=>LQ.now h R .bR
  |some e =>
   obtain⟨me,he,rfl⟩:=aa.mp (show(r.e c e).map (λm=>MS.ret (toR c e m))=some m from h);refine Sx hP ?_;exact S.e X c Ξ C _ _ he
 |Pass p=>cases h;exact(Uc (X:=X)).imp λN cA H ⟨U,g,ρ,s,R,h⟩=>h ρ H cA (.refl _ _) R s
 |_=>cases h
end
theorem aF9(h:(comp (n+1)).e c e=some m)(hn:A2 e=false):∃elt gens sc p,e=.ListComp elt gens sc p/\W9 (comp n) c elt gens sc=some m:=by
 cases e<;>first|(cases hn;done)|(cases h;done)|exact⟨_,_,_,_,rfl,h⟩
theorem snd:∀n,(∀k,k<=n->qd P (comp k)):=by
 intro n
 induction n with
 |zero =>
  intro k hk;obtain rfl:=Nat.le_zero.mp hk;exact⟨λ_ _ _ _ _ _ h=>(by cases h),λ_ _ _ _ _ _ h=>(by cases h),λ_ _ _ _ _ _ _ h=>(by cases h)⟩
 |succ n ih =>
  intro k hk;rcases ft k (n+1) with dF|kH
  ·grind
  obtain rfl:k=n+1:=by omega
  have I:=ih n (av n);refine⟨λX c Ξ C e m h=>MC I C e m h,λX c Ξ C e m h=>Mz I C e m h,λX c Ξ C hw st m h=>?_⟩;rcases orElse_some h with h|h
  rotate_left
  ·cases h;exact λpins s U H D I q=>by obtain⟨_,_,_,_,_,z⟩:=q;exact(show False from z).elim
  refine MA I C hw (λe m he hn=>?_) (λa b k p m he=>?_) st m h
  ·cases n with
   |zero=>cases he
   |succ n =>
    obtain⟨elt,gens,sc,p,rfl,hx⟩:=aF9 he hn;exact⟨_,_,_,_,rfl,comp n,ih n (),hx⟩
  ·cases n with
   |zero=>cases he
   |succ n =>
    obtain⟨ms,hm,rfl⟩:=aa.mp (show(H9 (comp n) c [a,b]).map (ME.prim .tup)=some m from he);exact⟨comp n,ms,ih n (),hm,rfl⟩
structure ph where
 nm:Str
 qn:Str
 N:List Str
 ps:List Str
 st:Stmt
def i7.at(c:i7)(d:ph):i7:={ c with N:=d.N,nm:=(o6 d.st).names,nM:=true,uA:=true,uo:=true,wr:=true }
structure jI(K:PySem.W.Frag)(c:i7)(d:ph)(m:aY)(f:Addr)(fd:FuncData):Prop where
 fn:qe K d.nm d.qn d.st f fd
 bi:Binds K fd d.ps []
 sc:iU d.N d.ps (o6 d.st)
 co:A4 (comp 60) (c.at d) (p6 d.st)=some m.body
 ar:m.ar=d.ps.length
 nn:m.n=d.N.length
structure nO(w:World)(K:PySem.W.Frag)(mg:Str->Option Value)(c:i7)(T:Nat->Option aY):Prop where
 fns:∀x i,c.fns.lookup x=some i->∃d m f fd,T i=some m/\jI K c d m f fd/\mg x=some (.ref f)
 cls:∀x i,c.cls.lookup x=some i->∃C d m f fd,T i=some m/\jI K c d m f fd/\mg x=some (.ref C)/\E2 K x C/\jn K C/\Mk K C f
 qx:∀x y i C,(x,y,i)∈c.qx->E2 K y C->∃d m f fd,T i=some m/\jI K c d m f fd/\Meth K C x f
 oQ:∀f y C,(f,y)∈c.oQ->E2 K y C->B3 K C f
 con:∀x d,c.con.lookup x=some d->∃v u,mg x=some u/\RelV v u/\∀ρ H,d4 K ρ H d v
 blt:∀x,c.blt.contains x=true->mg x=none
 rz:∀x kvs,c.gd.lookup x=some kvs->∃A vs,mg x=some (.ref A)/\xY K w.params A vs/\pW K kvs vs
section
variable{Pg:Program}{w:World}{K:PySem.W.Frag}{mg:Str->Option Value}{base:Heap}{T:Nat->Option aY}
theorem QD{cd:Value}{q:Str}(h:PySem.W.codeIn K cd q=true):PySem.W.kdsCode K cd=true:=by
 unfold PySem.W.codeIn at h;unfold PySem.W.kdsCode;split at h
 ·dsimp only;split at h
  ·rename_i e;rw[e]
  ·cases h
 ·cases h
theorem TM{N:List Str}{qual:Str}{scope:Scope}{f:Addr}{cd:Value}{A:Around}{outer:List Env}{s:Shared}{H:Hp}{E:XK}:Passes (kE Pg w) (rL (kE Pg w) Pg w K mg base N qual scope f cd A outer s H E) E:=λpins U H1 s1 e s' I h=>by
 obtain⟨C,H',J,fl,hE⟩:=I.flew h;exact aB6 J fl (λb o q=>I.base.there b o q (by intro z;cases z)) rfl rfl rfl hE
theorem BQ{k:Nat}{m:aY}(hT:T i=some m){ds:List D}{g:G}{Q:KD}{E:KX}(h:b8 T k i ds g Q E):ds.length=m.ar:=by
 cases k with
 |zero=>exact h.elim
 |succ k =>
  obtain⟨m',e,h,_⟩:=h
  simp_all
theorem Qj(qz:K.In base)(Gx:base.Ns mainGlobals mg)(A:nO w K mg c T):∀(k i:Nat) d m f fd,T i=some m->jI K c d m f fd->ir Pg w K mg base (kE Pg w) (2*k) f fd d.ps (pD c.exc K d.ps.length (b8 T k i)):=by
 intro k
 induction k with
 |zero =>
  intro i d m f fd hm O;refine⟨λvs H Q E h=>h.1,λA outer s H args us vs Q E _ _ _ _ h=>?_⟩;obtain⟨_,_,_,_,_,_,q⟩:=h;exact q.elim
 |succ k ih =>
  intro i d m f fd hm O;obtain⟨oc,od,kV,doc,pm,an,fW,ct,mK,rfl,lk,mq⟩:=O.fn.ex;refine WK (k:=2*k+1) lk mq O.sc (λvs H Q E h=>h.1) (λA0 outer s H vs Q E hr h=>?_);obtain⟨hl,xs,g,ρ,rs,R,q⟩:=h;have C:iK (rL (kE Pg w) Pg w K mg base d.N d.qn (o6 d.st) f fW A0 outer s H E) (c.at d) (b8 T k) (c.exc,E):=by
   refine⟨rfl,O.sc.nd,λx h=>h,λx h=>h,λx h=>.inr h,λx h=>h,λx h=>?_,λ_ _=>rfl,rfl,?_,(λ_=>PassesOwn.leaving),a8 T k,A.con,A.blt,λx j hj=>?_,λx j hj=>?_,λx y j C' hj hC=>?_,A.oQ,rfl,TM,A.rz,λ_=>QD mq,λ_=>rfl⟩
   ·rcases h with h|h
    ·exact Ci h
    ·exact absurd rfl (O.sc.ng _ (aS h))
   ·have:=hr.un;show(A0.deeper _).units+100<cLine;omega
   ·obtain⟨d',m',f',pU,hT,O',hmg⟩:=A.fns x j hj;exact⟨2*k,f',pU,d'.ps,⟨ih j d' m' f' pU hT O',O'.bi,λGQ g' Q' E' h'=>(BQ hT h').trans O'.ar⟩,hr.mono (),hmg,O'.fn.kp⟩
   ·obtain⟨C',d',m',f',pU,hT,O',hmg,hC,jG,M⟩:=A.cls x j hj;exact⟨2*k,C',f',pU,d'.ps,⟨ih j d' m' f' pU hT O',O'.bi,λGQ g' Q' E' h'=>(BQ hT h').trans O'.ar⟩,hr,hmg,hC,jG,M⟩
   ·obtain⟨d',m',f',pU,hT,O',M⟩:=A.qx x y j C' hj hC;exact⟨2*k,f',pU,d'.ps,M,⟨ih j d' m' f' pU hT O',O'.bi,λGQ g' Q' E' h'=>(BQ hT h').trans O'.ar⟩,hr.mono ()⟩
  refine⟨_,wD (snd (P:=b8 T k) 60 60 (av _)) C rfl O.co,?_⟩;obtain⟨m',e,q1,q⟩:=q;rw[hm] at e;cases e;refine⟨c7 m xs,g,ρ,?_,R,wpS_mono (a8 T k) m.body ⟨λ_ g'=>LQ K ρ H Q .bR g',LQ K ρ H Q,λ_ _=>False,λ_ _=>False⟩ _ _ _ _ _ ⟨λU g' h cq H' dz e R' s'=>h cq H' _ e R' .bR,λd g' h=>h,λ_ _ h=>h.elim,λ_ _ h=>h.elim⟩ (λ_ _ z=>z) q⟩;have:=p8.start (n:=d.N.length) rs;unfold c7 L2.start;rw[O.nn];exact this
theorem QI{L k0:Nat}{H:Hp}{a:Addr}{ns:List Int}(hO:yQ H)(hS:fS K H a (ns.map V.int))(h:b8 T k0 L [.ref 0] [.oP (ns.map .int)] (λd _=>d=.bl true) jr) :
  pD exc K 1 (b8 T k0 L) [.ref a] H (λv _=>v=.bl true) λ_ _ _=>False:=by
 refine⟨rfl,[.ref 0],[.oP (ns.map .int)],[a],.cons (.ref rfl) .nil,⟨rfl,λi o b h1 h2=>?_,λi j l m b h1 h2 m1=>?_⟩,a8 T k0 _ _ _ _ _ _ _ (λd g' e cq H' v _ _ r=>?_) (λ_ _ z=>z.elim) h⟩
 ·cases i with
  |zero =>
   cases h1;cases h2;refine⟨_,?_,c5.ofInts ns⟩;rcases hS with(z|⟨o,z⟩)|z
   ·rcases hO a with q|⟨o,xs,q⟩
    ·simp_all
    simp_all
   ·exact .inl ⟨o,z⟩
   ·exact .inr z
  |succ i=>simp at h1
 ·cases i with
  |zero=>cases h1;cases m1
  |succ i=>simp at h1
 ·subst e;cases r
  rfl
end
end M
namespace M
open PySem L2
variable{P:fK}{g:G}{Q:Bool->G->Prop}{E:KX}{N:Ends}{a i n:Nat}{b:Bool}{c f:Str}{o cond elt:ME}{x y d v:D}{j:Int}{l:List D}{A B:Prop}{kvs:List (Key×D)}{k:Key}{kg:G->Prop}{ns:List Int}{c8:List Nat}{R:IK->G->Prop}
section
variable{U:S}{Q:KD}{a b c:ME}{x y:MS}{p:Pr}
theorem Q7(h:N.nx U g):wpS P .pass N U g E:=h
theorem yq(h:wpS P x ⟨λiM g1=>wpS P y N iM g1 E,N.rt,N.bk,N.ct⟩ U g E):wpS P (.seq x y) N U g E:=h
theorem Q6(h:wpS P x N U g E):wpS P (.seq x .pass) N U g E:=h
theorem SM(h:bp P a U g (λ_ g1=>N.nx U g1) E):wpS P (.expr a) N U g E:=h
theorem yt(h:bp P a U g (λx g1=>N.nx (U.set i (some x)) g1) E):wpS P (.set i a) N U g E:=h
theorem Qh{t:MT}(h:bp P a U g (λx g1=>jK t x U λiM=>N.nx iM g1) E):wpS P (.lX t a) N U g E:=h
theorem Kn{i:ME}(h:bp P a U g (λx g1=>bp P o U g1 (λy g2=>bp P i U g2 (λz g3=>T4 y z x g3 λg4=>N.nx U g4) E) E) E):wpS P (.eM o i a) N U g E:=h
theorem SR{cs:List Str}(h:bp P a U g (λx g1=>bp P o U g1 (λy g2=>wg f cs y x g2 λg3=>N.nx U g3) E) E):wpS P (.iD f cs o a) N U g E:=h
theorem Lq(h:eA P c U g (λt g1=>if t=true then wpS P x N U g1 E else wpS P y N U g1 E) E):wpS P (.ifs c x y) N U g E:=h
theorem Dy(h:bp P a U g N.rt E):wpS P (.ret a) N U g E:=h
theorem w_var(e:U[i]?=some (some d))(h:Q d g):bp P (.var i) U g Q E:=by exact⟨d,e,h⟩
theorem w_lit(h:Q d g):bp P (.lit d) U g Q E:=h
theorem SQ(h:gT P a U g (λxs g1=>cQ p xs g1 Q) E):bp P (.prim p a) U g Q E:=h
theorem Wl(h:cQ p [] g Q):bp P (.prim p .nil) U g Q E:=by exact h
theorem Hs(h:bp P a U g (λx g1=>cQ p [x] g1 Q) E):bp P (.prim p (.cons a .nil)) U g Q E:=by exact h
theorem Ht(h:bp P a U g (λx g1=>bp P b U g1 (λy g2=>cQ p [x,y] g2 Q) E) E):bp P (.prim p (.cons a (.cons b .nil))) U g Q E:=by exact h
theorem UO{o1 o2:CmpOp}(h:bp P a U g (λx g1=>bp P b U g1 (λy g2=>cQ (.cmp o1) [x,y] g2 λz g3=>∃t,z=.bl t/\if t=true then bp P c U g3 (λw g4=>cQ (.cmp o2) [y,w] g4 Q) E else Q (.bl false) g3) E) E):bp P (.chain o1 o2 a b c) U g Q E:=h
theorem w_and(h:bp P a U g (λx g1=>∃t,x=.bl t/\if t=true then bp P b U g1 Q E else Q (.bl false) g1) E):bp P (.dA a b) U g Q E:=h
theorem w_or(h:bp P a U g (λx g1=>∃t,x=.bl t/\if t=true then Q (.bl true) g1 else bp P b U g1 Q E) E):bp P (.jd a b) U g Q E:=h
theorem w_not(h:bp P a U g (λx g1=>∃t,x=.bl t/\Q (.bl (!t)) g1) E):bp P (.dQ a) U g Q E:=h
theorem w_ite(h:eA P c U g (λt g1=>if t=true then bp P a U g1 Q E else bp P b U g1 Q E) E):bp P (.ite c a b) U g Q E:=h
theorem BD{f:Nat}(h:gT P a U g (λxs g1=>P f xs g1 Q E) E):bp P (.call f a) U g Q E:=h
theorem SN{f:Nat}{c:Str}(h:gT P a U g (λxs g1=>P f (.ref g1.length::xs) (g1++[.ins c []]) (λd g2=>d=.bR/\Q (.ref g1.length) g2) E) E):bp P (.make c f a) U g Q E:=h
theorem SO(h:bp P o U g (λx g1=>mM p x g1/\gT P a U g1 (λxs g2=>cQ p (x::xs) g2 Q) E) E):bp P (.eX p o a) U g Q E:=h
theorem Dx{Q:List D->G->Prop}(h:Q [] g):gT P .nil U g Q E:=h
theorem wz{Q:List D->G->Prop}(h:bp P a U g (λx g1=>gT P b U g1 (λxs g2=>Q (x::xs) g2) E) E):gT P (.cons a b) U g Q E:=h
theorem SS{Q:Bool->G->Prop}(h:eA P a U g (λt g1=>if t=true then eA P b U g1 Q E else Q false g1) E):eA P (.dA a b) U g Q E:=h
theorem Qg{Q:Bool->G->Prop}(h:eA P a U g (λt g1=>if t=true then Q true g1 else eA P b U g1 Q E) E):eA P (.jd a b) U g Q E:=h
theorem SU{Q:Bool->G->Prop}(h:eA P a U g (λt g1=>Q (!t) g1) E):eA P (.dQ a) U g Q E:=h
theorem Dz{Q:Bool->G->Prop}(h:Q true g):eA P .no U g Q E:=h
theorem Lr{Q:Bool->G->Prop}(h:bp P a U g (λx g1=>qa g1 x λb=>Q b g1) E):eA P (.fG a) U g Q E:=h
end
section
variable{Q:KD}{i:Int}{kb:Bool->Prop}{t s:Bool}{m:List D}
theorem Wn(h:Q (.int (i+j)) g):cQ (.bin .Add) [.int i,.int j] g Q:=⟨_,_,.inl ⟨i,j,_,rfl,rfl,rfl,rfl⟩,h⟩
theorem Wo(h:Q (.int (i-j)) g):cQ (.bin .Sub) [.int i,.int j] g Q:=⟨_,_,.inl ⟨i,j,_,rfl,rfl,rfl,rfl⟩,h⟩
theorem P9(c:rJ i j)(h:Q (.int (i*j)) g):cQ (.bin .Mult) [.int i,.int j] g Q:=⟨_,_,.inl ⟨i,j,_,rfl,⟨c,rfl⟩,rfl,rfl⟩,h⟩
theorem Q1(c:0<j)(h:Q (.int (i % j)) g):cQ (.bin .Mod) [.int i,.int j] g Q:=⟨_,_,.inl ⟨i,j,_,rfl,⟨c,rfl⟩,rfl,rfl⟩,h⟩
theorem xZ(c:DS i j)(h:Q (.int (i / j)) g):cQ (.bin .FloorDiv) [.int i,.int j] g Q:=⟨_,_,.inl ⟨i,j,_,rfl,⟨c,rfl⟩,rfl,rfl⟩,h⟩
theorem Jt(h1:0<j)(h2:j<1073741824)(h:Q (.int (i / j)) g):cQ (.bin .FloorDiv) [.int i,.int j] g Q:=xZ ⟨h1,h2⟩ h
theorem CV(c:oZ i j)(h:Q (.int (i ^ j.toNat)) g):cQ (.bin .Pow) [.int i,.int j] g Q:=⟨_,_,.inl ⟨i,j,_,rfl,⟨c,rfl⟩,rfl,rfl⟩,h⟩
theorem yb{i j:Nat}(hi:g[i]?=some (.lst l))(hj:g[j]?=some (.lst m))(hl:l.length+m.length<=100000)(h:Q (.ref g.length) (g++[.lst (l++m)])):cQ (.bin .Add) [.ref i,.ref j] g Q:=⟨_,_,.inr ⟨rfl,.inl ⟨i,j,l,m,rfl,hi,hj,hl,rfl,rfl⟩⟩,h⟩
theorem Qe(h:Q (.int (-i)) g):cQ (.un .USub) [.int i] g Q:=⟨_,_,⟨rfl,i,rfl,rfl,rfl⟩,h⟩
theorem O4{op:CmpOp}(hb:GZ g x y b op)(h:Q (.bl b) g):cQ (.cmp op) [x,y] g Q:=⟨_,_,⟨x,y,b,rfl,hb,rfl,rfl⟩,h⟩
theorem Vh(h:Q (.bl (decide (i<j))) g):cQ (.cmp .Lt) [.int i,.int j] g Q:=O4 ⟨i,j,rfl,rfl,rfl⟩ h
theorem Vg(h:Q (.bl (decide (i<=j))) g):cQ (.cmp .LtE) [.int i,.int j] g Q:=O4 ⟨i,j,rfl,rfl,rfl⟩ h
theorem Vf(h:Q (.bl (decide (j<i))) g):cQ (.cmp .Gt) [.int i,.int j] g Q:=O4 ⟨i,j,rfl,rfl,rfl⟩ h
theorem Ve(h:Q (.bl (decide (j<=i))) g):cQ (.cmp .GtE) [.int i,.int j] g Q:=O4 ⟨i,j,rfl,rfl,rfl⟩ h
theorem DZ(h:rD g x y λb=>Q (.bl b) g):cQ (.cmp .Eq) [x,y] g Q:=let ⟨_,hb,h⟩:=h;O4 hb h
theorem wB(h:rD g x y λb=>Q (.bl (!b)) g):cQ (.cmp .NotEq) [x,y] g Q:=let ⟨b,hb,h⟩:=h;O4 (b:=!b) (show vK g x y (!(!b)) from by simp_all) h
theorem tG(h:qG g x y λb=>Q (.bl b) g):cQ (.cmp .In) [x,y] g Q:=let ⟨_,hb,h⟩:=h;O4 (.inl hb) h
theorem Ww{S:Int->Bool}(hg:g[a]?=some (.set S n))(h:Q (.bl (S i)) g):cQ (.cmp .In) [.int i,.ref a] g Q:=O4 (.inr ⟨a,S,n,i,rfl,hg,rfl,rfl⟩) h
theorem Qo{S:Int->Bool}(hg:g[a]?=some (.set S n))(h:Q (.bl (!S i)) g):cQ (.cmp .NotIn) [.int i,.ref a] g Q:=O4 (b:=!S i) (.inr ⟨a,S,n,i,rfl,hg,rfl,Bool.not_not _⟩) h
theorem T1(h:qG g x y λb=>Q (.bl (!b)) g):cQ (.cmp .NotIn) [x,y] g Q:=let ⟨b,hb,h⟩:=h;O4 (b:=!b) (.inl (show inR g x y (!(!b)) from by simp_all)) h
theorem Lc(h:kb (decide (i=j))):rD g (.int i) (.int j) kb:=⟨_,.inl ⟨i,j,rfl,rfl,rfl⟩,h⟩
theorem Hk(h:kb (t==s)):rD g (.bl t) (.bl s) kb:=⟨_,.inr (.inl ⟨t,s,rfl,rfl,rfl⟩),h⟩
theorem Ld{x y:Str}(h:kb (decide (x=y))):rD g (.str x) (.str y) kb:=⟨_,.inr (.inr (.inl ⟨x,y,rfl,rfl,rfl⟩)),h⟩
theorem Ws(h:Q (.bl (decide (i=j))) g):cQ (.cmp .Eq) [.int i,.int j] g Q:=DZ (Lc h)
theorem WC(h:Q (.bl (!decide (i=j))) g):cQ (.cmp .NotEq) [.int i,.int j] g Q:=wB (Lc h)
theorem Wr(h:Q (.bl (t==s)) g):cQ (.cmp .Eq) [.bl t,.bl s] g Q:=DZ (Hk h)
theorem WB(h:Q (.bl (!(t==s))) g):cQ (.cmp .NotEq) [.bl t,.bl s] g Q:=wB (Hk h)
theorem Wt{p q:Str}(h:Q (.bl (decide (p=q))) g):cQ (.cmp .Eq) [.str p,.str q] g Q:=DZ (Ld h)
theorem WD{p q:Str}(h:Q (.bl (!decide (p=q))) g):cQ (.cmp .NotEq) [.str p,.str q] g Q:=wB (Ld h)
theorem yS(h:Q (.bl (M8 d)) g):cQ (.cmp .Is) [d,.bR] g Q:=O4 ⟨rfl,rfl⟩ h
theorem Dc(h:Q (.bl (!M8 d)) g):cQ (.cmp .IsNot) [d,.bR] g Q:=O4 ⟨rfl,rfl⟩ h
theorem Wx(h:Q (.bl true) g):cQ (.cmp .Is) [.bR,.bR] g Q:=yS h
theorem Wz(h:Q (.bl false) g):cQ (.cmp .Is) [.bl t,.bR] g Q:=yS h
theorem WA(h:Q (.bl false) g):cQ (.cmp .Is) [.ref n,.bR] g Q:=yS h
theorem Wu(h:Q (.bl false) g):cQ (.cmp .IsNot) [.bR,.bR] g Q:=Dc h
theorem Wv(h:Q (.bl true) g):cQ (.cmp .IsNot) [.ref n,.bR] g Q:=Dc h
theorem Wi(h:kb t):qa g (.bl t) kb:=⟨t,.inr (.inl rfl),h⟩
theorem P'(h:kb (i != 0)):qa g (.int i) kb:=⟨_,.inr (.inr (.inl ⟨i,rfl,rfl⟩)),h⟩
theorem BP{p:Bool->Prop}(h:p t):∃s,D.bl t=D.bl s/\p s:=⟨t,rfl,h⟩
theorem Qy{p:Int->Prop}(h:p i):∃s,D.int i=D.int s/\p s:=⟨i,rfl,h⟩
theorem if2{c:Prop}[Decidable c](h1:c->A)(h2:¬c->B):if decide c=true then A else B:=by
 simp_all
theorem mj(h:A):if true=true then A else B:=by rw[aJ rfl];exact h
theorem pY(h:B):if false=true then A else B:=by rw[aD ∅];exact h
theorem Hg(h:A):if(!false)=true then A else B:=by exact h
theorem Vq(h:B):if(!true)=true then A else B:=by rw[aD ∅];exact h
theorem fj(hb:b=false)(h:B):if b=true then A else B:=by rw[hb];exact pY h
theorem gb(hb:b=true)(h:A):if b=true then A else B:=by rw[hb];exact mj h
theorem m8(hl:c6 g a=some l)(h2:gs l i=some d)(h:Q d g):cQ .ix [.ref a,.int i] g Q:=⟨_,_,⟨rfl,.inl ⟨_,l,i,rfl,hl,h2⟩⟩,h⟩
theorem v5(h2:gs l i=some d)(h:Q d g):cQ .ix [.tup l,.int i] g Q:=⟨_,_,⟨rfl,.inl ⟨_,l,i,rfl,rfl,h2⟩⟩,h⟩
theorem wC{i:Nat}(hg:g[i]?=some (.ee kvs))(hk:U1 y=some k)(hv:p0 kvs k=some v)(h:Q v g):cQ .ix [.ref i,y] g Q:=⟨_,_,⟨rfl,.inr (.inl ⟨i,kvs,y,k,rfl,hg,hk,hv⟩)⟩,h⟩
theorem R6(hl:g[a]?=some (.lst l))(hn:kY l.length i=some n)(h:kg (g.set a (.lst (l.set n v)))):T4 (.ref a) (.int i) v g kg:=⟨_,.inl ⟨a,i,l,n,rfl,rfl,hl,hn,rfl⟩,h⟩
theorem Lf{i:Nat}(hg:g[i]?=some (.ee kvs))(hk:U1 y=some k)(hl:kvs.length<100000)(h:kg (g.set i (.ee (putD kvs k v)))):T4 (.ref i) y v g kg:=⟨_,.inr ⟨i,kvs,k,rfl,hg,hk,hl,rfl⟩,h⟩
theorem X6{cs:List Str}{fs:List (Str×D)}(hg:g[a]?=some (.ins c fs))(hc:c∈cs)(hl:fs.length<100)(h:kg (g.set a (.ins c (k8 f v fs)))):wg f cs (.ref a) v g kg:=⟨_,⟨a,c,fs,rfl,hg,hc,hl,rfl⟩,h⟩
theorem O3{fs:List (Str×D)}(hg:g[a]?=some (.ins c fs))(hf:fs.lookup f=some d)(h:Q d g):cQ (.fld f) [.ref a] g Q:=⟨_,_,⟨a,c,fs,rfl,hg,hf,rfl⟩,h⟩
theorem a7(h:g[a]?=some (.lst l)):c6 g a=some l:=by simp only[c6,h,DK]
theorem YS(h:g[a]?=some (.oP l)):c6 g a=some l:=by simp only[c6,h,DK]
theorem C4(hl:c6 g a=some l)(h:Q (.int l.length) g):cQ .len [.ref a] g Q:=⟨_,_,⟨rfl,.inl ⟨_,l,rfl,hl,rfl⟩⟩,h⟩
theorem Sg(hl:c6 g a=some l)(h:Q (.ref g.length) (g++[.lst (cut l (some i) none)])):cQ (.mf true false) [.ref a,.int i] g Q:=⟨_,_,⟨_,i,rfl,.inr ⟨a,l,rfl,hl,rfl,rfl⟩⟩,h⟩
theorem wx(hl:c6 g a=some l)(h:Q (.ref g.length) (g++[.lst (cut l none (some i))])):cQ (.mf false true) [.ref a,.int i] g Q:=⟨_,_,⟨_,i,rfl,.inr ⟨a,l,rfl,hl,rfl,rfl⟩⟩,h⟩
theorem Dp(hl:l.length<=1000)(h:Q (.tup l) g):cQ .tup l g Q:=⟨_,_,⟨hl,rfl,rfl⟩,h⟩
theorem Dn(hl:l.length<=1000)(h:Q (.ref g.length) (g++[.lst l])):cQ .lst l g Q:=⟨_,_,⟨hl,rfl,rfl⟩,h⟩
theorem Dg(hl:c6 g a=some l)(h:Q (.ref g.length) (g++[.lst l])):cQ .list [.ref a] g Q:=⟨_,_,.inl ⟨_,l,rfl,hl,rfl,rfl⟩,h⟩
theorem Qc(hl:c6 g a=some l)(h:Q (.tup l) g):cQ .tuple [.ref a] g Q:=⟨_,_,⟨_,l,rfl,hl,rfl,rfl⟩,h⟩
theorem qE{c:String}(hc:c∈["int","bool","str","tuple","list"])(hb:Ea g d c=some b)(h:Q (.bl b) g):cQ .isin [d,.ty c] g Q:=⟨_,_,⟨d,c,b,rfl,hc,hb,rfl,rfl⟩,h⟩
theorem P5{i:Nat}(hg:g[i]?=some (.lst l))(hl:l.length<100000)(h:Q .bR (g.set i (.lst (l++[y])))):cQ .append [.ref i,y] g Q:=⟨_,_,⟨i,y,l,rfl,hg,hl,rfl,rfl⟩,h⟩
theorem Xf{i j:Nat}{n:Int}(hg:g[i]?=some (.lst l))(hn:n=j)(hj:l[j]?=some y)(hl:l.length<100000)(h:Q y (g.set i (.lst (l.eraseIdx j)))):cQ .pop [.ref i,.int n] g Q:=by
 have dF:=(au.mp hj).1;refine⟨_,_,⟨i,n,l,j,rfl,hg,by omega,by omega,?_,hj,rfl⟩,h⟩;rw[hn];exact PySem.StrLaws.seqIndex_nonneg () () |>.trans (by simp)
theorem Dj{i:Nat}{z:D}(hg:g[i]?=some (.ee kvs))(hk:U1 y=some k)(h:Q ((p0 kvs k).getD z) g):cQ .get [.ref i,y,z] g Q:=⟨_,_,⟨i,y,z,kvs,k,rfl,hg,hk,rfl,rfl⟩,h⟩
theorem Qw(h:Q (.int (i+j)) g):cQ .iadd [.int i,.int j] g Q:=⟨_,_,.inl ⟨i,j,rfl,rfl,rfl⟩,h⟩
theorem Jz{i:Nat}(hg:g[i]?=some (.lst l)):mM .append (.ref i) g:=⟨i,l,rfl,a7 hg⟩
theorem QW{i:Nat}(hg:g[i]?=some (.lst l)):mM .pop (.ref i) g:=⟨i,l,rfl,a7 hg⟩
theorem Vy{i:Nat}{l:List (Key×D)}(hg:g[i]?=some (.ee l)):mM .get (.ref i) g:=⟨i,l,rfl,hg⟩
theorem zJ(h1:-(2 ^ 62)<=j)(h2:j<=100000)(h:Q (.ref g.length) (g++[.lst (j6 0 j.toNat)])):cQ .jf [.int j] g Q:=⟨_,_,⟨j,rfl,h1,h2,rfl,rfl⟩,h⟩
theorem ML(h1:-(2 ^ 62)<=i/\i<2 ^ 62/\-(2 ^ 62)<=j/\j<2 ^ 62/\j-i<=100000)(h:Q (.ref g.length) (g++[.lst (j6 i (j-i).toNat)])):cQ .ku [.int i,.int j] g Q:=⟨_,_,⟨i,j,rfl,h1,rfl,rfl⟩,h⟩
theorem TK{i:Nat}{ks:List Int}(hl:c6 g i=some (ks.map λk=>.tup [.int k,.bl true]))(hz:ks.length<=1000)(nd:ks.Nodup)(h:Q (.ref g.length) (g++[.ee (ks.map λk=>(.inl k,.bl true))])):cQ .kB [.ref i] g Q:=⟨_,_,.inr ⟨i,ks,rfl,hl,hz,nd,rfl,rfl⟩,h⟩
theorem JB(hl:c6 g a=some (ns.map .int))(hz:ns.length<600)(h:Q (.ref g.length) (g++[.lst ((n5 ns).map .int)])):cQ .sset [.ref a] g Q:=⟨_,_,⟨a,ns,rfl,hl,hz,rfl,rfl⟩,h⟩
theorem Z6(h:Q (.ref g.length) (g++[.ee []])):cQ .Z6 [] g Q:=⟨_,_,⟨rfl,rfl,rfl⟩,h⟩
theorem max2(h:Q (.int (if j>i then j else i)) g):cQ .max [.int i,.int j] g Q:=⟨_,_,⟨rfl,.inl ⟨i,j,rfl,rfl⟩⟩,h⟩
theorem Xg{M:Int}(hl:c6 g a=some (ns.map .int))(h1:M∈ns)(h2:∀x∈ns,x<=M)(h:Q (.int M) g):cQ .max [.ref a] g Q:=⟨_,_,⟨rfl,.inr ⟨a,ns,M,rfl,hl,h1,h2,rfl⟩⟩,h⟩
theorem QS{S:Int->Bool}(hg:g[a]?=some (.set S n))(hn:n+1<4096)(h:Q .bR (g.set a (.set (λk=>S k||decide (k=i)) (if S i then n else n+1)))):cQ .kl [.ref a,.int i] g Q:=⟨_,_,⟨a,i,S,n,rfl,hg,hn,rfl,rfl⟩,h⟩
theorem Tu{S:Int->Bool}(hg:g[a]?=some (.set S n)):mM .kl (.ref a) g:=⟨a,S,n,rfl,hg⟩
theorem Rm(hl:c6 g a=some (ns.map .int))(hz:ns.length<600)(h:Q (.ref g.length) (g++[.set (λk=>decide (k∈ns)) (ST.f7 [] ns).length])):cQ .nk [.ref a] g Q:=⟨_,_,⟨a,ns,rfl,hl,hz,rfl,rfl⟩,h⟩
theorem TL(h:Q (.ref g.length) (g++[.set (λk=>decide (k=i)) 1])):cQ (.kj i) [] g Q:=⟨_,_,⟨rfl,rfl,rfl⟩,h⟩
theorem Ll(hl:c6 g a=some (ns.map .int))(h:Q (.int ns.sum) g):cQ .sum [.ref a] g Q:=⟨_,_,⟨a,ns,rfl,hl,rfl,rfl⟩,h⟩
theorem QN(hl:c6 g a=some (ns.map .int))(hz:ns.length<60)(h:Q (.int (ST.f7 [] ns).length) g):cQ .pZ [.ref a] g Q:=⟨_,_,⟨a,ns,rfl,hl,hz,rfl,rfl⟩,h⟩
theorem Wq(hl:c6 g a=some (ns.map .int))(h:Q (.bl (ns.all λn=>n != 0)) g):cQ .all [.ref a] g Q:=⟨_,_,⟨a,_,_,rfl,hl,.inr ⟨ns,rfl,rfl⟩,rfl,rfl⟩,h⟩
theorem CW(c:oZ i j)(h:Q (.int (i*2 ^ j.toNat)) g):cQ (.bin .LShift) [.int i,.int j] g Q:=⟨_,_,.inl ⟨i,j,_,rfl,⟨c,rfl⟩,rfl,rfl⟩,h⟩
theorem wc(h:Q (.int (Builtin.bitAnd i j)) g):cQ (.bin .BitAnd) [.int i,.int j] g Q:=⟨_,_,.inl ⟨i,j,_,rfl,rfl,rfl,rfl⟩,h⟩
theorem UZ(h:Q (.int (Builtin.bitOr i j)) g):cQ (.bin .BitOr) [.int i,.int j] g Q:=⟨_,_,.inl ⟨i,j,_,rfl,rfl,rfl,rfl⟩,h⟩
theorem JL{U:S}{i:Nat}{p:Pr}{v:ME}(e:U[i]?=some (some x))(h:bp P v U g (λz g1=>cQ p [x,z] g1 λw g2=>N.nx (U.set i (some w)) g2) E):wpS P (.kC i p v) N U g E:=⟨x,e,h⟩
theorem QA(h:Q (.int (i-j)) g):cQ .nr [.int i,.int j] g Q:=⟨_,_,⟨i,j,rfl,rfl,rfl⟩,h⟩
theorem min2(h:Q (.int (if j<i then j else i)) g):cQ .min [.int i,.int j] g Q:=⟨_,_,⟨rfl,.inl ⟨i,j,rfl,rfl⟩⟩,h⟩
theorem WR{v:Bool}(h:Q (.int (if v then 1 else 0)) g):cQ .int [.bl v] g Q:=⟨_,_,⟨rfl,.inr ⟨v,rfl,rfl⟩⟩,h⟩
theorem KS{kvs:List D}{x:Str}(hv:M7 kvs x=some v)(h:Q v g):cQ .nK [.tup kvs,.str x] g Q:=⟨_,_,⟨kvs,x,rfl,hv,rfl⟩,h⟩
theorem ya{i:Nat}{v:Bool}(hl:c6 g i=some l)(hv:T3 l=some v)(h:Q (.bl v) g):cQ .all [.ref i] g Q:=⟨_,_,⟨i,l,v,rfl,hl,.inl hv,rfl,rfl⟩,h⟩
theorem i6{i:Nat}{U:S}{k:S->Prop}(h:k (U.set i (some x))):jK (.one i) x U k:=h
theorem A6{is:List Nat}{U cc:S}{k:S->Prop}(e:M9 is l U=some cc)(h:k cc):jK (.many is) (.tup l) U k:=⟨l,cc,rfl,e,h⟩
end
theorem T2:∀(bs:List Bool),T3 (bs.map D.bl)=some (bs.all id):=by
 intro bs
 induction bs with
 |nil=>rfl
 |cons b r ih=>simp[T3,ih]
theorem call_of{T:Nat->Option aY}{k f:Nat}{m:aY}{ds:List D}{Q:KD}(hT:T f=some m)(hl:ds.length=m.ar)(h:wpS (b8 T k) m.body ⟨λ_ g'=>Q .bR g',Q,λ_ _=>False,λ_ _=>False⟩ (c7 m ds) g E):b8 T (k+1) f ds g Q E:=⟨m,hT,hl,h⟩
def IK.Is(k:IK)(l:List D)(g:G):Prop:=∀i,k.at i g=some l[i]?
theorem u7:(IK.fix l).Is l g:=λ_=>rfl
theorem k4(h:c6 g a=some l):(IK.lst a).Is l g:=λi=>by simp only[IK.at,h]
def mO(l:List D):List D:=l.mapIdx λi d=>.tup [.int i,d]
theorem yz(h:c6 g a=some l):(IK.oW a).Is (mO l) g:=λi=>by
 simp only[IK.at,h,mO,List.getElem?_mapIdx]
theorem QB(h:c6 g a=some l):(IK.sv a l.length).Is l.reverse g:=λi=>by
 simp only[IK.at,h,if_true];by_cases hi:i<l.length
 ·rw[aJ hi,List.getElem?_reverse hi]
 ·rw[aD hi,aP (by simpa using hi)]
theorem L9(l:List D):(mO l).length=l.length:=by simp[mO]
theorem yI(h:(mO l)[i]?=some x):∃d,l[i]?=some d/\x=.tup [.int i,d]:=by
 rw[mO,List.getElem?_mapIdx,aa] at h;obtain⟨d,h1,h2⟩:=h;exact⟨d,h1,h2.symm⟩
theorem x6{lo:Int}(h:(j6 lo n)[i]?=some x):i<n/\x=.int (lo+i):=by
 unfold j6 at h;have hi:i<n:=by
  have:=(au.mp h).1;simpa using this
 rw[ag,cg hi] at h;cases h;exact⟨hi,rfl⟩
theorem j9(lo:Int)(n:Nat):(j6 lo n).length=n:=by simp[j6]
section
variable{U:S}{it a c:ME}{s:MS}{t:MT}{Q:KD}
theorem Yr{k:IK}{fin:S->G->Prop}{turn:D->(S->G->Prop)->S->G->Prop}(I:Nat->S->G->Prop)(hk:∀i U g,I i U g->k.Is l g)(h0:I 0 U g)(hs:∀i x U g,l[i]?=some x->I i U g->turn x (I (i+1)) U g)(hd:∀U g,I l.length U g->fin U g):turns k U g fin turn:=by
 refine⟨λi m U g=>m=l.length-i/\i<=l.length/\I i U g,⟨l.length,by simp,cj _,h0⟩,?_⟩;rintro i m U g ⟨rfl,hi,p⟩;rw[hk i U g p i];by_cases dF:i<l.length
 ·rw[ae dF];exact .inr ⟨_,rfl,I (i+1),λcc g' p'=>⟨l.length-(i+1),by omega,rfl,dF,p'⟩,hs i l[i] U g (ae dF) p⟩
 ·have e:i=l.length:=by omega
  subst e;rw[aP (av _)];exact .inl ⟨rfl,hd U g p⟩
inductive wQ(P:fK)(t:MT)(s:MS)(N:Ends)(E:KX)(U:S)(k:IK)(g1:G):Prop
 |mk (l:List D) (I:Nat->S->G->Prop) (hk:∀i U g,I i U g->k.Is l g) (h0:I 0 U g1)
   (hs:∀i x U g,l[i]?=some x->I i U g->jK t x U λcH=>wpS P s ⟨I (i+1),N.rt,N.nx,I (i+1)⟩ cH g E) (hd:∀U g,I l.length U g->N.nx U g):wQ P t s N E U k g1
theorem u9(hP:i8 P)(h:gS P it U g (wQ P t s N E U) E):wpS P (.dM t it s) N U g E :=
 z9 hP it _ _ _ _ _ _ (λk g1 hq=>by obtain⟨l,I,hk,h0,hs,hd⟩:=hq;exact Yr I hk h0 hs hd) (λ_ _ z=>z) h
inductive CompI(P:fK)(t:MT)(cond elt:ME)(E:KX)(Q:KD)(U:S)(k:IK)(g1:G):Prop
 |mk (l:List D) (I:Nat->List D->S->G->Prop) (hl:l.length<=1000) (hk:∀i ys U g,I i ys U g->k.Is l g/\ys.length<=i) (h0:I 0 [] U g1)
   (hs:∀i x ys U g,l[i]?=some x->I i ys U g->jK t x U λcH=>eA P cond cH g (λc g3=>if c=true then bp P elt cH g3 (λy g4=>I (i+1) (ys++[y]) cH g4) E else I (i+1) ys cH g3) jr)
   (hd:∀ys U g,I l.length ys U g->Q (.ref g.length) (g++[.lst ys])):CompI P t cond elt E Q U k g1
theorem F5(hP:i8 P)(h:gS P it U g (CompI P t cond elt jr Q (E1 U c8 n)) E):bp P (.comp c8 n t it cond elt) U g Q E:=by
 refine z9 hP it _ _ _ _ _ _ (λk g1 h=>?_) (λ_ _ z=>z) h;obtain⟨l,I,hl,hk,h0,hs,hd⟩:=h;refine⟨λi m ys U g=>m=l.length-i/\i<=l.length/\I i ys U g,⟨l.length,by simp,cj _,h0⟩,?_⟩;rintro i m ys U g ⟨rfl,hi,p⟩;obtain⟨oi,hy⟩:=hk i ys U g p;rw[oi i];by_cases dF:i<l.length
 ·rw[ae dF];refine .inr ⟨_,rfl,by omega,w5 (λcH q=>q8 hP cond _ _ _ _ _ _ (λc g3 q=>?_) (λ_ _ z=>z) q) (hs i l[i] ys U g (ae dF) p)⟩;cases c
  ·exact⟨l.length-(i+1),by omega,rfl,dF,by simpa using(show I (i+1) ys cH g3 from q)⟩
  ·exact b9 hP elt _ _ _ _ _ _ (λy g4 q=>⟨l.length-(i+1),by omega,rfl,dF,by simpa using q⟩) (λ_ _ z=>z) q
 ·have e:i=l.length:=by omega
  subst e;rw[aP (av _)];exact .inl ⟨rfl,hd ys U g p⟩
inductive wH(P:fK)(t:MT)(cond elt:ME)(Q:KD)(U:S)(k:IK)(g1:G):Prop
 |mk (l:List D) (I:Nat->List Int->S->G->Prop) (hl:l.length<60) (hk:∀i ys U g,I i ys U g->k.Is l g/\ys.length<=i) (h0:I 0 [] U g1)
   (hs:∀i x ys U g,l[i]?=some x->I i ys U g->jK t x U λcH=>eA P cond cH g (λc g3=>if c=true then bp P elt cH g3 (λy g4=>∃j,y=.int j/\I (i+1) (ys++[j]) cH g4) jr else I (i+1) ys cH g3) jr)
   (hd:∀ys U g,I l.length ys U g->Q (.ref g.length) (g++[.lst ((n5 ys).map .int)])):wH P t cond elt Q U k g1
theorem UP(hP:i8 P)(h:gS P it U g (wH P t cond elt Q (E1 U c8 n)) E):bp P (.hJ c8 n t it cond elt) U g Q E:=by
 refine z9 hP it _ _ _ _ _ _ (λk g1 h=>?_) (λ_ _ z=>z) h;obtain⟨l,I,hl,hk,h0,hs,hd⟩:=h;refine⟨λi m ys U g=>m=l.length-i/\i<=l.length/\I i ys U g,⟨l.length,by simp,cj _,h0⟩,?_⟩;rintro i m ys U g ⟨rfl,hi,p⟩;obtain⟨oi,hy⟩:=hk i ys U g p;rw[oi i];by_cases dF:i<l.length
 ·rw[ae dF];refine .inr ⟨_,rfl,by omega,w5 (λcH q=>q8 hP cond _ _ _ _ _ _ (λc g3 q=>?_) (λ_ _ z=>z) q) (hs i l[i] ys U g (ae dF) p)⟩;cases c
  ·exact⟨l.length-(i+1),by omega,rfl,dF,by simpa using(show I (i+1) ys cH g3 from q)⟩
  ·refine b9 hP elt _ _ _ _ _ _ (λy g4 q=>?_) (λ_ _ z=>z) q;obtain⟨j,e,q⟩:=q;exact⟨j,e,l.length-(i+1),by omega,rfl,dF,by simpa using q⟩
 ·have e:i=l.length:=by omega
  subst e;rw[aP (av _)];exact .inl ⟨rfl,by omega,hd ys U g p⟩
theorem aJ8(hP:i8 P)(h:bp P a U g (λx g1=>∃j:Nat,x=.int j/\j<=1000/\∃I:Nat->List D->S->G->Prop,I 0 [] (E1 U c8 n) g1/\(∀i ys U g,I i ys U g->ys.length<=i) /\
      (∀(i:Nat) ys U g,i<j->I i ys U g->jK t (.int i) U λcH=>eA P cond cH g (λc g3=>if c=true then bp P elt cH g3 (λy g4=>I (i+1) (ys++[y]) cH g4) jr else I (i+1) ys cH g3) jr) /\
      ∀ ys U g,I j ys U g->Q (.ref g.length) (g ++ [.lst ys])) E):bp P (.comp c8 n t (.eO a) cond elt) U g Q E:=by
  refine F5 hP ?_;refine b9 hP a _ _ _ _ _ _ (λx g1 h=>?_) (λ_ _ z=>z) h;obtain⟨j,rfl,hj,I,h0,hz,hs,hd⟩:=h;refine⟨j,rfl,by omega,by omega,_,I,by rw[j9];simpa using hj,λi ys U g p=>⟨u7,hz i ys U g p⟩,h0,λi x ys U g hx p=>?_,λys U g p=>hd ys U g (by rw[j9] at p;simpa using p)⟩;obtain⟨hi,rfl⟩:=x6 hx;rw[show(0:Int)+(i:Int)=i by omega];exact hs i ys U g (by simpa using hi) p
theorem aJ7(hP:i8 P)(h:bp P a U g (λx g1=>∃l,x=.tup l/\l.length<=1000/\∃I:Nat->List D->S->G->Prop,I 0 [] (E1 U c8 n) g1/\(∀i ys U g,I i ys U g->ys.length<=i) /\
      (∀(i:Nat) x ys U g,l[i]?=some x->I i ys U g->jK t x U λcH=>eA P cond cH g (λc g3=>if c=true then bp P elt cH g3 (λy g4=>I (i+1) (ys++[y]) cH g4) jr else I (i+1) ys cH g3) jr) /\
      ∀ ys U g,I l.length ys U g->Q (.ref g.length) (g ++ [.lst ys])) E):bp P (.comp c8 n t (.eY a) cond elt) U g Q E:=by
  refine F5 hP ?_;refine b9 hP a _ _ _ _ _ _ (λx g1 h=>?_) (λ_ _ z=>z) h;obtain⟨l,rfl,hj,I,h0,hz,hs,hd⟩:=h;exact .inl ⟨l,rfl,_,I,hj,λi ys U g p=>⟨u7,hz i ys U g p⟩,h0,hs,hd⟩
theorem Ko(I:Nat->S->G->Prop)(m0:Nat)(h0:I m0 U g)(hs:∀m U g,I m U g->eA P c U g (λt g1=>if t=true then wpS P s ⟨λcc g'=>∃m',m'<m/\I m' cc g',N.rt,N.nx,λcc g'=>∃m',m'<m/\I m' cc g'⟩ U g1 E else N.nx U g1) E)(hP:i8 P):wpS P (.ki c s) N U g E:=by
 refine⟨I,⟨m0,h0⟩,λm U g p=>q8 hP c _ _ _ _ _ _ (λt g1 q=>?_) (λ_ _ z=>z) (hs m U g p)⟩;cases t
 ·exact q
 ·exact⟨_,λ_ _ z=>z,q⟩
theorem U2(hP:i8 P)(h:bp P a U g (λx g1=>∃j:Int,x=.int j/\-(2 ^ 62)<=j/\j<2 ^ 62/\R (.fix (j6 0 j.toNat)) g1) E):gS P (.eO a) U g R E:=h
theorem vb(hP:i8 P)(h:bp P a U g (λx g1=>∃l,x=.tup l/\R (.fix l) g1) E):gS P (.eY a) U g R E:=by
 exact b9 hP a _ _ _ _ _ _ (λx g1 h=>.inl h) (λ_ _ z=>z) h
theorem ky(hP:i8 P)(h:bp P a U g (λx g1=>∃i l,x=.ref i/\c6 g1 i=some l/\R (.lst i) g1) E):gS P (.eY a) U g R E:=by
 exact b9 hP a _ _ _ _ _ _ (λx g1 h=>.inr h) (λ_ _ z=>z) h
theorem MV(h:bp P a U g (λx g1=>∃i l,x=.ref i/\c6 g1 i=some l/\R (.sv i l.length) g1) E):gS P (.nX a) U g R E:=h
theorem zP(h:bp P a U g (λx g1=>∃i l,x=.ref i/\c6 g1 i=some l/\R (.oW i) g1) E):gS P (.kZ a) U g R E:=h
end
end M
namespace M
open PySem L2 PySem.Spec PyProof.Rows
structure RF where
 id:Nat
 nm:Str
 N:List Str
 k:Nat
 i:Nat
 m:aY
structure RM where
 id:Nat
 cl:Str
 nm:Str
 qn:Str
 N:List Str
 k:Nat
 i:Nat
 j:Nat
 m:aY
def RF.d(tp:Nat->Stmt)(r:RF):ph:=⟨r.nm,r.nm,r.N,r.N.take r.k,tp r.i⟩
def RM.d(mt:Nat->Nat->Stmt)(r:RM):ph:=⟨r.nm,r.qn,r.N,r.N.take r.k,mt r.i r.j⟩
def tK(F:List RF)(M:List RM)(i:Nat):Option aY:=match F.find? λr=>Nat.beq r.id i with
 |some r=>some r.m
 |none=>(M.find? λr=>Nat.beq r.id i).map (·.m)
section
variable(tp:Nat->Stmt)(mt:Nat->Nat->Stmt)(K:PySem.W.Frag)
def PF:List RF->Prop
 |[]=>True
 |r::l=>(∃f fd,PySem.W.nsIn K mainGlobals r.nm=some (some (.ref f))/\qe K r.nm r.nm (tp r.i) f fd)/\PF l
def PM:List RM->Prop
 |[]=>True
 |r::l=>(∃C f fd,PySem.W.nsIn K mainGlobals r.cl=some (some (.ref C))/\Meth K C r.nm f/\qe K r.nm r.qn (mt r.i r.j) f fd)/\PM l
def PC:List (Str×Nat)->Prop
 |[]=>True
 |r::l=>(∃C,PySem.W.nsIn K mainGlobals r.1=some (some (.ref C))/\jn K C/\PySem.W.makesIn K C=true/\PySem.W.keepIn K (.ref C)=true)/\PC l
def PA:List (Str×Str)->Prop
 |[]=>True
 |r::l=>(∃C,PySem.W.nsIn K mainGlobals r.2=some (some (.ref C))/\PySem.W.findIn K (.ref C) r.1=some none)/\PA l
def PB:List Str->Prop
 |[]=>True
 |r::l=>PySem.W.nsIn K mainGlobals r=some none/\PB l
def BF:List RF->Prop
 |[]=>True
 |r::l=>(∀(kV doc pm:Value) (an:Option Addr) (fW ct:Value) (us:List Value),us.length=(r.N.take r.k).length->bindArgs (PySem.W.fnOf r.nm r.nm (A9 (tp r.i)) (p6 (tp r.i)) (o6 (tp r.i)) .none kV doc pm an fW ct) ⟨us,[]⟩=pure ((r.N.take r.k).zip us))/\BF l
def BM:List RM->Prop
 |[]=>True
 |r::l=>(∀(kV doc pm:Value) (an:Option Addr) (fW ct:Value) (us:List Value),us.length=(r.N.take r.k).length->bindArgs (PySem.W.fnOf r.nm r.qn (A9 (mt r.i r.j)) (p6 (mt r.i r.j)) (o6 (mt r.i r.j)) .none kV doc pm an fW ct) ⟨us,[]⟩=pure ((r.N.take r.k).zip us))/\BM l
def YF(c:i7):List RF->Prop
 |[]=>True
 |r::l=>A4 (comp 60) (c.at (r.d tp)) (p6 (tp r.i))=some r.m.body/\YF c l
def YM(c:i7):List RM->Prop
 |[]=>True
 |r::l=>A4 (comp 60) (c.at (r.d mt)) (p6 (mt r.i r.j))=some r.m.body/\YM c l
end
section
variable{tp:Nat->Stmt}{mt:Nat->Nat->Stmt}{K:PySem.W.Frag}{c:i7}{id k i j:Nat}{cl nm qn x:Str}{N:List Str}{m:aY}{f C:Addr}{oc kV doc pm fW ct:Value}{od an:Option Addr}{mK:Array (Option Value)}
theorem PF.nil:PF tp K []:=trivial
theorem PF.cons{l:List RF}(a:PySem.W.nsIn K mainGlobals nm=some (some (.ref f)))(lk:K.lookup f=some ⟨oc,od,.func (PySem.W.fnOf nm nm (A9 (tp i)) (p6 (tp i)) (o6 (tp i)) .none kV doc pm an fW ct),mK⟩)(cd:PySem.W.codeIn K fW nm=true)(kp:PySem.W.keepIn K (.ref f)=true)(h:PF tp K l):PF tp K (⟨id,nm,N,k,i,m⟩::l):=⟨⟨f,_,a,Jy lk cd kp⟩,h⟩
theorem PM.nil:PM mt K []:=trivial
theorem PM.cons{l:List RM}(c0:PySem.W.nsIn K mainGlobals cl=some (some (.ref C)))(a:PySem.W.findIn K (.ref C) nm=some (some (.ref f)))(af:PySem.W.isFn K (.ref f)=true)(lk:K.lookup f=some ⟨oc,od,.func (PySem.W.fnOf nm qn (A9 (mt i j)) (p6 (mt i j)) (o6 (mt i j)) .none kV doc pm an fW ct),mK⟩)(cd:PySem.W.codeIn K fW qn=true)(kp:PySem.W.keepIn K (.ref f)=true)(h:PM mt K l):PM mt K (⟨id,cl,nm,qn,N,k,i,j,m⟩::l):=⟨⟨C,f,_,c0,⟨a,af,kp⟩,Jy lk cd kp⟩,h⟩
theorem PC.nil:PC K []:=trivial
theorem PC.cons{l:List (Str×Nat)}(cn:PySem.W.nsIn K mainGlobals x=some (some (.ref C)))(cp:PySem.W.plainGet K C Str.empty=true)(Pl:PySem.W.hasDictIn K C=true)(Ph:PySem.W.plainOver K C=true)(Pf:PySem.W.findIn K (.ref C) "__setattr__"=some (some (.builtin "object.__setattr__")))(Pj:PySem.W.makesIn K C=true)(Pk:PySem.W.keepIn K (.ref C)=true)(h:PC K l):PC K ((x,i)::l):=⟨⟨C,cn,⟨cp,Pl,Ph,Pf⟩,Pj,Pk⟩,h⟩
theorem PA.nil:PA K []:=trivial
theorem PA.cons{l:List (Str×Str)}(cn:PySem.W.nsIn K mainGlobals x=some (some (.ref C)))(fl:PySem.W.findIn K (.ref C) nm=some none)(h:PA K l):PA K ((nm,x)::l):=⟨⟨C,cn,fl⟩,h⟩
theorem PB.nil:PB K []:=trivial
theorem PB.cons{l:List Str}(cn:PySem.W.nsIn K mainGlobals x=some none)(h:PB K l):PB K (x::l):=⟨cn,h⟩
theorem EF{P:List Value->Prop}{n:Nat}(h:∀a vs,vs.length=n->P (a::vs))(us:List Value)(hl:us.length=n+1):P us:=by
 cases us with
 |nil=>cases hl
 |cons a vs=>exact h a vs (Nat.succ.inj hl)
theorem EE{P:List Value->Prop}(h:P [])(us:List Value)(hl:us.length=0):P us:=by
 simp_all
theorem BF.nil:BF tp []:=trivial
theorem BF.cons{l:List RF}(h:∀(kV doc pm:Value) (an:Option Addr) (fW ct:Value) (us:List Value),us.length=(N.take k).length->bindArgs (PySem.W.fnOf nm nm (A9 (tp i)) (p6 (tp i)) (o6 (tp i)) .none kV doc pm an fW ct) ⟨us,[]⟩=pure ((N.take k).zip us))(h2:BF tp l):BF tp (⟨id,nm,N,k,i,m⟩::l):=⟨h,h2⟩
theorem BM.nil:BM mt []:=trivial
theorem BM.cons{l:List RM}(h:∀(kV doc pm:Value) (an:Option Addr) (fW ct:Value) (us:List Value),us.length=(N.take k).length->bindArgs (PySem.W.fnOf nm qn (A9 (mt i j)) (p6 (mt i j)) (o6 (mt i j)) .none kV doc pm an fW ct) ⟨us,[]⟩=pure ((N.take k).zip us))(h2:BM mt l):BM mt (⟨id,cl,nm,qn,N,k,i,j,m⟩::l):=⟨h,h2⟩
theorem YF.nil:YF tp c []:=trivial
theorem YF.cons{l:List RF}(h:A4 (comp 60) (c.at ⟨nm,nm,N,N.take k,tp i⟩) (p6 (tp i))=some m.body)(h2:YF tp c l):YF tp c (⟨id,nm,N,k,i,m⟩::l):=⟨h,h2⟩
theorem YM.nil:YM mt c []:=trivial
theorem YM.cons{l:List RM}(h:A4 (comp 60) (c.at ⟨nm,qn,N,N.take k,mt i j⟩) (p6 (mt i j))=some m.body)(h2:YM mt c l):YM mt c (⟨id,cl,nm,qn,N,k,i,j,m⟩::l):=⟨h,h2⟩
theorem YF.get:∀{l:List RF},YF tp c l->∀r∈l,A4 (comp 60) (c.at (r.d tp)) (p6 (tp r.i))=some r.m.body
 |_::_,h,r,hr=>(aI.mp hr).elim (λz=>z▸h.1) (YF.get h.2 r)
theorem YM.get:∀{l:List RM},YM mt c l->∀r∈l,A4 (comp 60) (c.at (r.d mt)) (p6 (mt r.i r.j))=some r.m.body
 |_::_,h,r,hr=>(aI.mp hr).elim (λz=>z▸h.1) (YM.get h.2 r)
theorem PF.get:∀{l:List RF},PF tp K l->∀r∈l,∃f fd,PySem.W.nsIn K mainGlobals r.nm=some (some (.ref f))/\qe K r.nm r.nm (tp r.i) f fd
 |_::_,h,r,hr=>(aI.mp hr).elim (λz=>z▸h.1) (PF.get h.2 r)
theorem PM.get:∀{l:List RM},PM mt K l->∀r∈l,∃C f fd,PySem.W.nsIn K mainGlobals r.cl=some (some (.ref C))/\Meth K C r.nm f/\qe K r.nm r.qn (mt r.i r.j) f fd
 |_::_,h,r,hr=>(aI.mp hr).elim (λz=>z▸h.1) (PM.get h.2 r)
theorem PC.get:∀{l:List (Str×Nat)},PC K l->∀r∈l,∃C,PySem.W.nsIn K mainGlobals r.1=some (some (.ref C))/\jn K C/\PySem.W.makesIn K C=true/\PySem.W.keepIn K (.ref C)=true
 |_::_,h,r,hr=>(aI.mp hr).elim (λz=>z▸h.1) (PC.get h.2 r)
theorem PA.get:∀{l:List (Str×Str)},PA K l->∀r∈l,∃C,PySem.W.nsIn K mainGlobals r.2=some (some (.ref C))/\PySem.W.findIn K (.ref C) r.1=some none
 |_::_,h,r,hr=>(aI.mp hr).elim (λz=>z▸h.1) (PA.get h.2 r)
theorem PB.get:∀{l:List Str},PB K l->∀r∈l,PySem.W.nsIn K mainGlobals r=some none
 |_::_,h,r,hr=>(aI.mp hr).elim (λz=>z▸h.1) (PB.get h.2 r)
theorem BF.get:∀{l:List RF},BF tp l->∀r∈l,∀(kV doc pm:Value) (an:Option Addr) (fW ct:Value) (us:List Value),us.length=(r.N.take r.k).length->bindArgs (PySem.W.fnOf r.nm r.nm (A9 (tp r.i)) (p6 (tp r.i)) (o6 (tp r.i)) .none kV doc pm an fW ct) ⟨us,[]⟩=pure ((r.N.take r.k).zip us)
 |_::_,h,r,hr=>(aI.mp hr).elim (λz=>z▸h.1) (BF.get h.2 r)
theorem BM.get:∀{l:List RM},BM mt l->∀r∈l,∀(kV doc pm:Value) (an:Option Addr) (fW ct:Value) (us:List Value),us.length=(r.N.take r.k).length->bindArgs (PySem.W.fnOf r.nm r.qn (A9 (mt r.i r.j)) (p6 (mt r.i r.j)) (o6 (mt r.i r.j)) .none kV doc pm an fW ct) ⟨us,[]⟩=pure ((r.N.take r.k).zip us)
 |_::_,h,r,hr=>(aI.mp hr).elim (λz=>z▸h.1) (BM.get h.2 r)
end
def xj(N P:List Str)(sc:Scope):Bool:=decide (sc.kind=.function)&&!sc.isCoroutine&&!sc.isGenerator&&decide N.Nodup&&decide (N.take P.length=P)&&P.all (λx=>decide (sc.names.lookup x=some .local)||decide (sc.names.lookup x=some .cell))&&sc.names.all λy=>decide (y.2≠.free)
theorem JH{N P:List Str}{sc:Scope}(h:xj N P sc=true):iU N P sc:=by
 unfold xj at h;simp only[Bool.and_eq_true,decide_eq_true_eq,Bool.not_eq_true',List.all_eq_true,Bool.or_eq_true] at h;obtain⟨⟨⟨⟨⟨⟨h1,h2⟩,h3⟩,h4⟩,h5⟩,h6⟩,h7⟩:=h;exact⟨h1,h2,h3,h4,h5,h6,h7⟩
theorem BS{α:Type}{f:α->Nat}:∀{l:List α},(l.map f).Nodup->∀r∈l,l.find? (λx=>Nat.beq (f x) (f r))=some r
 |y::l,nd,r,hr=>by
  rw[cP,dW] at nd;rcases aI.mp hr with rfl|hr
  ·rw[List.find?_cons_of_pos];exact Nat.beq_refl _
  ·rw[List.find?_cons_of_neg]
   ·exact BS nd.2 r hr
   ·intro z;exact nd.1 (aH.mpr ⟨r,hr,(iX z).symm⟩)
theorem Td{α β:Type}{f:α->Nat}{g:β->Nat}{l:List α}{r:β}(h:g r∉l.map f):l.find? (λx=>Nat.beq (f x) (g r))=none:=by
 rw[ke];intro x hx z;exact h (aH.mpr ⟨x,hx,iX z⟩)
section
variable{w:World}{K:PySem.W.Frag}{h₀:Heap}{mg:Str->Option Value}{c:i7}{F:List RF}{M:List RM}{tp:Nat->Stmt}{mt:Nat->Nat->Stmt}
structure lQ(K:PySem.W.Frag)(c:i7)(F:List RF)(M:List RM)(tp:Nat->Stmt)(mt:Nat->Nat->Stmt):Prop where
 qF:PF tp K F
 qM:PM mt K M
 qC:PC K c.cls
 qA:PA K c.oQ
 qB:PB K c.blt
structure lP(c:i7)(F:List RF)(M:List RM)(tp:Nat->Stmt)(mt:Nat->Nat->Stmt):Prop where
 cf:c.fns=F.map λr=>(r.nm,r.id)
 cm:c.qx=M.map λr=>(r.nm,r.cl,r.id)
 ci:c.cls.all (λy=>M.any λr=>decide (r.cl=y.1)&&decide (r.nm="__init__")&&Nat.beq r.id y.2)=true
 nd:(F.map (·.id)++M.map (·.id)).Nodup
 sF:F.all (λr=>xj r.N (r.N.take r.k) (o6 (tp r.i))&&decide (r.m.ar=(r.N.take r.k).length)&&decide (r.m.n=r.N.length))=true
 sM:M.all (λr=>xj r.N (r.N.take r.k) (o6 (mt r.i r.j))&&decide (r.m.ar=(r.N.take r.k).length)&&decide (r.m.n=r.N.length))=true
 oF:YF tp c F
 oM:YM mt c M
 bF:BF tp F
 bM:BM mt M
theorem Kh(I:lQ K c F M tp mt)(X:lP c F M tp mt)(r:RF)(hr:r∈F):∃f fd,jI K c (r.d tp) r.m f fd/\PySem.W.nsIn K mainGlobals r.nm=some (some (.ref f))/\tK F M r.id=some r.m:=by
 obtain⟨f,fd,a,q⟩:=I.qF.get r hr;have s:=cN.mp X.sF r hr;simp only[Bool.and_eq_true,decide_eq_true_eq] at s;have o:=X.oF.get r hr;refine⟨f,fd,⟨q,q.binds (X.bF.get r hr),JH s.1.1,o,s.1.2,s.2⟩,a,?_⟩;unfold tK;rw[BS (f:=(·.id)) (cE.mp X.nd).1 r hr]
theorem Ki(I:lQ K c F M tp mt)(X:lP c F M tp mt)(r:RM)(hr:r∈M):∃C f fd,jI K c (r.d mt) r.m f fd/\PySem.W.nsIn K mainGlobals r.cl=some (some (.ref C))/\Meth K C r.nm f/\tK F M r.id=some r.m:=by
 obtain⟨C,f,fd,a,q1,q⟩:=I.qM.get r hr;have s:=cN.mp X.sM r hr;simp only[Bool.and_eq_true,decide_eq_true_eq] at s;have o:=X.oM.get r hr;refine⟨C,f,fd,⟨q,q.binds (X.bM.get r hr),JH s.1.1,o,s.1.2,s.2⟩,a,q1,?_⟩;have nd:=cE.mp X.nd;unfold tK;rw[Td (f:=λr:RF=>r.id) (g:=λr:RM=>r.id) (r:=r) (λz=>nd.2.2 _ z _ (aH.mpr ⟨r,hr,rfl⟩) rfl),BS (f:=λr:RM=>r.id) nd.2.1 r hr]
 rfl
theorem SF(I:lQ K c F M tp mt)(Y:lP c F M tp mt)(X:K.In h₀)(G:h₀.Ns mainGlobals mg)(con:∀x d,c.con.lookup x=some d->∃v u,mg x=some u/\RelV v u/\∀ρ H,d4 K ρ H d v)(rz:∀x kvs,c.gd.lookup x=some kvs->∃A vs,mg x=some (.ref A)/\xY K w.params A vs/\pW K kvs vs):nO w K mg c (tK F M):=by
 refine⟨λx i hx=>?_,λx i hx=>?_,λx y i C hx hC=>?_,λf y C hx hC=>?_,con,λx hx=>?_,rz⟩
 ·have hm:=aS hx;rw[Y.cf] at hm;obtain⟨r,hr,e⟩:=aH.mp hm;cases e;obtain⟨f,fd,O,a,t⟩:=Kh I Y r hr;exact⟨_,_,f,fd,t,O,cC X G a⟩
 ·have hm:=aS hx;have h1:=cN.mp Y.ci _ hm;obtain⟨r,hr,e⟩:=aV.mp h1;simp only[Bool.and_eq_true,decide_eq_true_eq] at e;obtain⟨⟨e1,e2⟩,e3⟩:=e;have e3:=iX e3;obtain⟨C,f,fd,O,a,q,t⟩:=Ki I Y r hr;obtain⟨C',a',hc,mk,kp⟩:=I.qC.get _ hm;rw[e1] at a;cases a.symm.trans a';rw[e2] at q;rw[e3] at t;exact⟨C,_,_,f,fd,t,O,cC X G a,a,hc,⟨mk,q.at_,q.fn,kp⟩⟩
 ·rw[Y.cm] at hx;obtain⟨r,hr,e⟩:=aH.mp hx;cases e;obtain⟨C',f,fd,O,a,q,t⟩:=Ki I Y r hr;cases a.symm.trans hC;exact⟨_,_,f,fd,t,O,q⟩
 ·obtain⟨C',a,q⟩:=I.qA.get _ hx;cases a.symm.trans hC;exact q
 ·exact PySem.W.mg_none_of X G (I.qB.get x (by simpa using hx))
end
end M
namespace M
open PySem L2
variable{g g':G}{i j n k a b m r c p hl:Nat}{o o':O}{P:fK}{Q:KD}{E:KX}{N:Ends}{ms ns:List Int}{l:List D}{α β:Type}{x:D}{f v:Int}{kvs:List (Key×D)}{cs:List a9}{kb:Bool->Prop}{rs:List eP}{w:RW}{L H:List Nat}
set_option hygiene false
local macro_rules|`(tactic|walk_at"w1")=>`(tactic|with_reducible first|refine Q6 ?_|refine yq ?_|refine yt ?_|refine Dy ?_|refine SM ?_|refine Qh ?_|refine Kn ?_|refine SR ?_|refine Lq ?_|refine Q7 ?_|refine zo ?_|(refine w_var (d:=?_) ?_ ?_;rotate_left;·with_unfolding_all rfl)|refine w_lit ?_|refine Ht ?_|refine Hs ?_|refine Wl ?_|refine SQ ?_|refine UO ?_|refine w_and ?_|refine w_or ?_|refine w_not ?_|refine w_ite ?_|refine BD ?_|refine SN ?_|refine wZ ?_|refine Dx ?_|refine wz ?_|refine SS ?_|refine Qg ?_|refine SU ?_|refine Dz ?_|refine Lr ?_|refine Wn ?_|refine Wo ?_|refine Qe ?_|refine Vh ?_|refine Vg ?_|refine Vf ?_|refine Ve ?_|refine Ws ?_|refine WC ?_|refine Wr ?_|refine WB ?_|refine Wt ?_|refine Wx ?_|refine GU ?_|refine Wz ?_|refine GS ?_|refine GR ?_|refine WA ?_|refine yS ?_|refine Wu ?_|refine GW ?_|refine GV ?_|refine Wv ?_|refine Dc ?_|refine Wi ?_|refine BP ?_|refine Qy ?_|refine mj ?_|refine pY ?_|refine Hg ?_|refine Vq ?_|refine Fm ?_|refine zx ?_|refine zu ?_|refine zw ?_|refine ES ?_|refine Fj ?_|refine EG ?_)
local macro_rules|`(tactic|walk_at"w2")=>`(tactic|repeat(with_reducible first|walk_at "w1"|refine Dp (by simp) ?_|refine Dn (by simp) ?_|refine m8 (a7 (by assumption)) (by with_unfolding_all rfl) ?_|refine C4 (a7 (by assumption)) ?_|refine CV (by unfold oZ;decide) ?_))
local macro_rules|`(tactic|walk_at"w3")=>`(tactic|repeat(with_reducible first|walk_at "w1"|refine Dp (by simp) ?_|refine Dn (by simp) ?_|refine m8 (a7 (by assumption)) (by with_unfolding_all rfl) ?_|refine C4 (a7 (by assumption)) ?_|refine CV (by unfold oZ;decide) ?_|refine And.intro (show List.length _ <= 1000 from by simp) ?_|refine A6 (by with_unfolding_all rfl) ?_|refine i6 ?_|refine v5 (by with_unfolding_all rfl) ?_))
local macro_rules|`(tactic|walk_at"")=>`(tactic|repeat(with_reducible first|walk_at "w1"|refine wY ?_|refine ED ?_|refine SO ?_|refine WD ?_|refine P' ?_|refine EH ?_|refine max2 ?_|refine min2 ?_|refine WR ?_|refine Z6 ?_|refine OJ ?_|refine GB ?_|refine Dp (by simp) ?_|refine Dn (by simp) ?_|refine m8 (a7 (by assumption)) (by with_unfolding_all rfl) ?_|refine C4 (a7 (by assumption)) ?_|refine CV (by unfold oZ;decide) ?_|refine And.intro (show List.length _ <= 1000 from by simp) ?_|refine A6 (by with_unfolding_all rfl) ?_|refine i6 ?_|refine v5 (by with_unfolding_all rfl) ?_|refine And.intro (Jz (by assumption)) ?_|refine And.intro (QW (by assumption)) ?_|refine And.intro (Vy (by assumption)) ?_|refine Q1 (by decide) ?_|refine Jt (by decide) (by decide) ?_|refine zP ?_))
set_option hygiene true
abbrev fk(a:ME):ME:=.cons a .nil
abbrev dC(a b:ME):ME:=.cons a (.cons b .nil)
abbrev gJ(a b c:ME):ME:=.cons a (.cons b (.cons c .nil))
abbrev lx(a b c d:ME):ME:=.cons a (.cons b (.cons c (.cons d .nil)))
abbrev si(a b c d e:ME):ME:=.cons a (.cons b (.cons c (.cons d (.cons e .nil))))
abbrev Gw(a b c d e f:ME):ME:=.cons a (.cons b (.cons c (.cons d (.cons e (.cons f .nil)))))
abbrev Ba(a b c d e f g:ME):ME:=.cons a (.cons b (.cons c (.cons d (.cons e (.cons f (.cons g .nil))))))
abbrev dS(o:PySem.CmpOp)(a b:ME):ME:=.fG (.prim (.cmp o) (.cons a (.cons b .nil)))
abbrev cR(a b:ME):ME:=.prim .ix (.cons a (.cons b .nil))
abbrev bh(a:Int):ME:=.lit (.int a)
abbrev iH(a:PySem.Str):ME:=.lit (.str a)
abbrev dj(p:Pr)(a:ME):ME:=.prim p (.cons a .nil)
abbrev bI(p:Pr)(a b:ME):ME:=.prim p (.cons a (.cons b .nil))
abbrev aM:ME:=.var 0
abbrev bj:ME:=.var 1
abbrev lB:ME:=.var 10
abbrev lA:ME:=.var 12
abbrev uU:ME:=.var 13
abbrev pF:ME:=.var 15
abbrev uT:ME:=.var 16
abbrev bq:ME:=.var 2
abbrev bz:ME:=.var 3
abbrev cx:ME:=.var 4
abbrev dY:ME:=.var 5
abbrev eB:ME:=.var 6
abbrev gL:ME:=.var 7
abbrev mh:ME:=.var 8
abbrev uS:ME:=.var 9
def E0:aY:=⟨2,5,(.seq (.ifs (.dA (dS .Lt (cR aM (bh 2)) bj) (dS .Lt (cR aM (bh 1)) (dj .len (cR aM (bh 0))))) (.seq (.set 2 (cR (cR aM (bh 0)) (cR aM (bh 1)))) (.seq (.eM aM (bh 1) (bI (.bin .Add) (cR aM (bh 1)) (bh 1))) (.seq (.eM aM (bh 2) (bh 0)) (.seq (.ifs (dS .GtE bq (bI (.bin .Pow) (bh 10) (bh 18))) (.seq (.eM aM (bh 2) bq) .pass) (.seq (.eM aM (bh 3) (bI (.bin .Mod) (bI (.bin .Add) (bI (.bin .Add) (bI (.bin .Mult) (cR aM (bh 3)) (bh 48271)) (bI (.bin .Mult) (bI (.bin .Mod) bq (bh 2147483629)) (bh 69621))) (bh 12345)) (bh 2147483647))) .pass)) .pass)))) .pass) (.seq (.ifs (dS .GtE (cR aM (bh 2)) bj) (.seq (.set 3 (bI (.bin .Mod) (cR aM (bh 2)) bj)) (.seq (.eM aM (bh 2) (bI (.bin .FloorDiv) (cR aM (bh 2)) bj)) (.seq (.ret bz) .pass))) .pass) (.seq (.set 4 (cR aM (bh 3))) (.seq (.eM aM (bh 3) (bI (.bin .Mod) (bI (.bin .Add) (bI (.bin .Add) (bI (.bin .Mult) (bI (.bin .Mod) (bI (.bin .Mult) cx cx) (bh 2147483629)) (bh 5)) (bI (.bin .Mult) cx (bh 16811))) (bh 2531011)) (bh 2147483647))) (.seq (.ret (bI (.bin .Mod) (bI (.bin .Add) (bI (.bin .FloorDiv) (cR aM (bh 3)) (bh 59)) (bI (.bin .Mult) (bI (.bin .Mod) (cR aM (bh 3)) (bh 8191)) (bh 31))) bj)) .pass)))))⟩
structure j4(g:G)(d:Nat):Prop where
 ex:∃(s:Nat) (p b r:Int) (xs:List Int),g[d]?=some (.lst [.ref s,.int p,.int b,.int r])/\g[s]?=some (.lst (xs.map .int))/\s<d/\0<=p/\0<=b/\0<=r/\r<2147483647
structure Gr(d:Nat)(g g':G):Prop where
 len:g.length<=g'.length
 old:∀i,i≠d->i<g.length->g'[i]?=g[i]?
theorem Gr.refl(d:Nat)(g:G):Gr d g g:=⟨av _,λ_ _ _=>rfl⟩
theorem Gr.trans{d:Nat}{g g1 g2:G}(a:Gr d g g1)(b:Gr d g1 g2):Gr d g g2:=⟨aC a.len b.len,λi h1 h2=>(b.old i h1 (ay h2 a.len)).trans (a.old i h1 h2)⟩
theorem Gr.set(d:Nat)(g:G)(o:O):Gr d g (g.set d o):=⟨by simp,λi h1 h2=>az (cz h1)⟩
theorem Gr.snoc(d:Nat)(g:G)(o:O):Gr d g (g++[o]):=⟨by simp,λi h1 h2=>aL h2⟩
theorem Gr.at{d:Nat}(h:Gr d g g')(hi:i≠d)(e:g[i]?=some o):g'[i]?=some o:=(h.old i hi (au.mp e).1).trans e
theorem n4(h:g[i]?=some o):i<g.length:=(au.mp h).1
theorem j4.lt{d:Nat}(h:j4 g d):d<g.length:=by
 obtain⟨_,_,_,_,_,e,_⟩:=h.ex;exact n4 e
theorem j4.snoc{d:Nat}(h:j4 g d)(o:O):j4 (g++[o]) d:=by
 obtain⟨s,p,b,r,xs,e1,e2,q⟩:=h.ex;exact⟨s,p,b,r,xs,by rw[aL (n4 e1)];exact e1,by rw[aL (n4 e2)];exact e2,q⟩
def j5:MS->MS
 |.seq _ b=>b
 |x=>x
theorem DG{i j:Int}(h1:-(2 ^ 64)<i)(h2:i<2 ^ 64):rJ i j:=.inl ⟨h1,h2⟩
theorem W5{i j:Int}(h1:-(2 ^ 64)<j)(h2:j<2 ^ 64):rJ i j:=.inr ⟨h1,h2⟩
theorem Zm{d:Nat}{n:Int}{c2:Option D}(hN:N.rt=Q)(D0:j4 g d)(hn:0<n)(mN:n<1073741824)(h:∀r g',0<=r->r<n->j4 g' d->Gr d g g'->Q (.int r) g'):wpS P (j5 E0.body) N [some (.ref d),some (.int n),c2,none,none] g E:=by
 obtain⟨s,p,b,r,xs,e1,e2,oA,hp,hb,hr,pH⟩:=D0.ex;have dF:=n4 e1;subst hN;dsimp[E0,j5];walk_at "w2";refine if2 (λc=>?_) (λc=>?_)
 ·walk_at "w2";refine Q1 hn ?_;walk_at "w2";refine xZ ⟨hn,mN⟩ ?_;walk_at "w2";refine R6 e1 (by rfl) ?_;walk_at "w2";refine h _ _ (fe _ ()) (dP _ hn) ⟨s,p,b / n,r,xs,?_,?_,oA,hp,Int.ediv_nonneg hb (),hr,pH⟩ (Gr.set d g _)
  ·rw[bf dF];rfl
  ·rw[az (bO oA)];exact e2
 ·walk_at "w2";have ET:-(2 ^ 64)<r/\r<2 ^ 64:=⟨by omega,by omega⟩
  refine P9 (DG ET.1 ET.2) ?_;refine Q1 ∅ ?_;refine P9 (W5 ∅ ∅) ?_;walk_at "w2";refine P9 (W5 ∅ ∅) ?_;walk_at "w2";refine Q1 ∅ ?_;walk_at "w2";refine R6 e1 (by rfl) ?_;generalize gh:(r*r % 2147483629*5+r*16811+2531011) % 2147483647=r';have q0:0<=r':=by rw[<- gh];exact fe _ ∅
  have q1:r'<2147483647:=by rw[<- gh];exact dP _ ∅
  have Pc:(g.set d (.lst [.ref s,.int p,.int b,.int r']))[d]?=some (.lst [.ref s,.int p,.int b,.int r']):=bf dF;show wpS P _ _ _ (g.set d (.lst [.ref s,.int p,.int b,.int r'])) E;walk_at "w2";refine xZ ⟨by decide,by decide⟩ ?_;walk_at "w2";refine Q1 ∅ ?_;refine P9 (W5 ∅ ∅) ?_;walk_at "w2";refine Q1 hn ?_;refine h _ _ (fe _ ()) (dP _ hn) ⟨s,p,b,r',xs,Pc,?_,oA,hp,hb,q0,q1⟩ (Gr.set d g _);rw[az (bO oA)];exact e2
theorem f9{T:Nat->Option aY}(hT:T 4=some E0){d:Nat}{n:Int}(D0:j4 g d)(hn:0<n)(mN:n<1073741824)(h:∀r g',0<=r->r<n->j4 g' d->Gr d g g'->Q (.int r) g'):b8 T (k+1) 4 [.ref d,.int n] g Q E:=by
 obtain⟨s,p,b,r,xs,e1,e2,oA,hp,hb,hr,pH⟩:=D0.ex;have dF:=n4 e1;refine call_of hT rfl ?_;have tail:∀(g':G) (c2:Option D),j4 g' d->Gr d g g'->wpS (b8 T k) (j5 E0.body) ⟨λ_ g'=>Q .bR g',Q,λ_ _=>False,λ_ _=>False⟩ [some (.ref d),some (.int n),c2,none,none] g' E :=
  λg' c2 D1 gr=>Zm rfl D1 hn mN λr g2 a b c e=>h r g2 a b c (gr.trans e)
 dsimp[E0,c7,List.replicate];walk_at "w2";refine if2 (λc=>?_) (λc=>?_)
 ·walk_at "w2";refine if2 (λc'=>?_) (λc'=>?_)
  ·walk_at "w2";have iP:p.toNat<xs.length:=by
    rw[ai] at c';omega
   have ea:gs (xs.map D.int) p=some (.int xs[p.toNat]):=by
    have:=C1 (xs:=xs.map D.int) (j:=p.toNat) (v:=.int xs[p.toNat]) (by rw[ag,ae iP];rfl)
    rwa [show((p.toNat:Nat):Int)=p by omega] at this
   refine m8 (a7 e2) ea ?_;generalize xs[p.toNat]=cell;walk_at "w2";refine R6 e1 (by rfl) ?_;have f1:(g.set d (.lst [.ref s,.int (p+1),.int b,.int r]))[d]?=some (.lst [.ref s,.int (p+1),.int b,.int r]):=bf dF;walk_at "w2";refine R6 f1 (by rfl) ?_;rw[iz];have f2:(g.set d (.lst [.ref s,.int (p+1),.int 0,.int r]))[d]?=some (.lst [.ref s,.int (p+1),.int 0,.int r]):=bf dF;show wpS (b8 T k) _ _ _ (g.set d (.lst [.ref s,.int (p+1),.int 0,.int r])) E;walk_at "w2";refine if2 (λc2=>?_) (λc2=>?_)
   ·walk_at "w2";refine R6 f2 (by rfl) ?_;rw[iz];refine tail _ _ ⟨s,p+1,cell,r,xs,bf dF,by rw[az (bO oA)];exact e2,oA,by omega,?_,hr,pH⟩ (Gr.set d g _);have Gv:(0:Int)<=10 ^ (18:Int).toNat:=by decide
    omega
   ·walk_at "w2";refine P9 (W5 ∅ ∅) ?_;walk_at "w2";refine Q1 ∅ ?_;refine P9 (W5 ∅ ∅) ?_;walk_at "w2";refine Q1 ∅ ?_;walk_at "w2";refine R6 f2 (by rfl) ?_;rw[iz];exact tail _ _ ⟨s,p+1,0,_,xs,bf dF,by rw[az (bO oA)];exact e2,oA,by omega,by decide,fe _ ∅,dP _ ∅⟩ (Gr.set d g _)
  ·exact tail _ _ D0 (Gr.refl _ _)
 ·exact tail _ _ D0 (Gr.refl _ _)
def CH:aY:=⟨1,1,(.seq (.ret (.dA (bI .isin aM (.lit (.ty "int"))) (.dQ (bI .isin aM (.lit (.ty "bool")))))) .pass)⟩
def T6:aY:=⟨3,3,(.seq (.ret (.dA (.call 38 (fk aM)) (.chain .LtE .LtE bj aM bq))) .pass)⟩
structure NF(T:Nat->Option aY):Prop where
 nf:T 1=some T6
 is:T 38=some CH
def K5:aY:=⟨1,3,(.seq (.set 1 (bh 0)) (.seq (.dM (.one 2) (.eY aM) (.seq (.ifs (.dQ (.fG (.call 1 (gJ bq bj (bh 7))))) (.seq (.ret (.lit (.bl false))) .pass) .pass) (.seq (.set 1 (bI (.bin .Add) bq (bh 1))) .pass))) (.seq (.ret (.lit (.bl true))) .pass)))⟩
def yk:aY:=⟨1,1,(.seq (.ret (.prim .lst (lx (dj .list (bI (.mf false true) aM (bh 63))) (bh 0) (bh 0) (bh 29)))) .pass)⟩
def yV:aY:=⟨1,1,(.seq (.ret (.dA (bI .isin aM (.lit (.ty "int"))) (.dQ (bI .isin aM (.lit (.ty "bool")))))) .pass)⟩
def yj:aY:=⟨2,2,(.seq (.ifs (dS .Is bj (.lit .bR)) (.seq (.ret (bI (.cmp .Is) aM (.lit .bR))) .pass) .pass) (.seq (.ifs (.fG (bI .isin bj (.lit (.ty "bool")))) (.seq (.ret (.dA (bI .isin aM (.lit (.ty "bool"))) (bI (.cmp .Eq) aM bj))) .pass) .pass) (.seq (.ifs (.fG (bI .isin bj (.lit (.ty "int")))) (.seq (.ret (.dA (.call 6 (fk aM)) (bI (.cmp .Eq) aM bj))) .pass) .pass) (.seq (.ifs (.fG (bI .isin bj (.lit (.ty "str")))) (.seq (.ret (.dA (bI .isin aM (.lit (.ty "str"))) (bI (.cmp .Eq) aM bj))) .pass) .pass) (.seq (.ifs (.jd (dS .NotEq (bI .isin bj (.lit (.ty "tuple"))) (bI .isin aM (.lit (.ty "tuple")))) (dS .NotEq (bI .isin bj (.lit (.ty "list"))) (bI .isin aM (.lit (.ty "list"))))) (.seq (.ret (.lit (.bl false))) .pass) .pass) (.seq (.ifs (dS .NotEq (dj .len aM) (dj .len bj)) (.seq (.ret (.lit (.bl false))) .pass) .pass) (.seq (.ret (dj .all (.comp [1,0] 4 (.one 3) (.eO (dj .len bj)) .no (.call 7 (dC (cR bj bz) (cR aM bz)))))) .pass)))))))⟩
theorem J6{g:G}{n:Nat}:∀ms:List Int,(ms.map D.int).mapM (rd g n)=some (ms.map PyData.int)
 |[]=>rfl
 |m::r=>by
  rw[cP,List.mapM_cons,J6 r];cases n<;>rfl
theorem lay_ints:∀ms:List Int,PyData.canLayAll0 (ms.map PyData.int)=true
 |[]=>by rfl
 |m::r=>by simp[PyData.canLayAll0,PyData.canLay0,lay_ints r]
theorem U3:∀ms ns:List Int,PyData.eqvAll (ms.map PyData.int) (ns.map PyData.int)=decide (ms=ns)
 |[],[]=>by rfl
 |[],_::_=>by rfl
 |_::_,[]=>by rfl
 |m::r,n::q=>by
  simp only[List.map_cons,PyData.eqvAll,PyData.eqv,U3 r q];by_cases h:m=n
  ·subst h;simp
  ·simp[h]
theorem Cz{i:Int}{k:Bool->Prop}(h:k (ms.any λm=>m==i)):qG g (.int i) (.tup (ms.map .int)) k:=by
 refine⟨_,.inr ⟨_,_,_,rfl,J6 ms,rfl,lay_ints ms,by rfl,rfl⟩,?_⟩;rw[kR];exact h
theorem YJ{k:Bool->Prop}(ha:c6 g a=some (ms.map .int))(hb:c6 g b=some (ns.map .int))(h:k (decide (ms=ns))):rD g (.ref a) (.ref b) k:=by
 refine⟨_,.inr (.inr (.inr ⟨.list (ms.map .int),.list (ns.map .int),?_,?_,?_,?_,rfl⟩)),?_⟩
 ·simp only[rd];rw[ha];dsimp only;rw[J6];rfl
 ·simp only[rd];rw[hb];dsimp only;rw[J6];rfl
 ·simp[PyData.canLay0,lay_ints]
 ·simp[PyData.canLay0,lay_ints]
 ·simp only[PyData.eqv,U3];exact h
section
variable{T:Nat->Option aY}{d:Nat}
theorem Jm(h1:NF T){i:Int}(h:Q (.bl true) g):b8 T (k+1) 38 [.int i] g Q E:=by
 refine call_of h1.is rfl ?_;dsimp[CH,c7,List.replicate];walk_at "w2";refine qE (c:="int") (b:=true) ∅ rfl ?_;walk_at "w2";refine qE (c:="bool") (b:=false) ∅ rfl ?_;walk_at "w2";exact h
theorem y9(h1:NF T){i l m:Int}(h:Q (.bl (decide (l<=i)&&decide (i<=m))) g):b8 T (k+2) 1 [.int i,.int l,.int m] g Q E:=by
 refine call_of h1.nf rfl ?_;dsimp[T6,c7,List.replicate];walk_at "w2";refine Jm h1 ?_;walk_at "w2";refine if2 (λc=>?_) (λc=>?_)
 ·rw[aw c] at h;walk_at "w2";exact h
 ·rw[aE c] at h;exact h
def gm:Int->List Int->Bool
 |_,[]=>true
 |l,x::r=>(decide (l<=x)&&decide (x<=7))&&gm (x+1) r
theorem Jq(h1:NF T)(h2:T 2=some K5)(h:Q (.bl (gm 0 ms)) g):b8 T (k+3) 2 [.tup (ms.map .int)] g Q E:=by
 refine call_of h2 rfl ?_;refine u9 (a8 T _) (vb (a8 T _) ?_);walk_at "w2";refine⟨_,rfl,_,λi U g'=>g'=g/\∃(l:Int) (z:Option D),U=[some (.tup (ms.map .int)),some (.int l),z]/\gm 0 ms=gm l (ms.drop i),λ_ _ _ _=>u7,⟨rfl,0,none,rfl,rfl⟩,λi x U g' hx p=>?_,λU g' p=>?_⟩
 ·obtain⟨rfl,l,z,rfl,e⟩:=p;rw[ag] at hx;cases em:ms[i]? with
  |none=>rw[em] at hx;cases hx
  |some m =>
   rw[em] at hx;cases hx;have hi:=(au.mp em).1;have ed:ms.drop i=m::ms.drop (i+1):=by
    rw[df hi]
    congr 1
    exact(au.mp em).2
   rw[ed] at e;simp only[gm] at e;show wpS _ _ _ _ _ _;walk_at "w2";refine y9 h1 ?_;walk_at "w2";cases hc:(decide (l<=m)&&decide (m<=7)) with
   |true =>
    rw[hc,jX] at e;walk_at "w2";exact⟨rfl,m+1,some (.int m),rfl,e⟩
   |false =>
    rw[hc,Bool.false_and] at e;rw[e] at h;exact h
 ·obtain⟨rfl,l,z,rfl,e⟩:=p;rw[iA (by simp)] at e;rw[e] at h;exact h
theorem TJ(h3:T 3=some yk)(hg:g[a]?=some (.oP (ns.map .int)))(h:∀d g',j4 g' d->g.length<=d->(∀i,i<g.length->g'[i]?=g[i]?)->Q (.ref d) g'):b8 T (k+1) 3 [.ref a] g Q E:=by
 refine call_of h3 rfl ?_;dsimp[yk,c7,List.replicate];walk_at "w2";refine wx (YS hg) ?_;refine Dg (l:=cut (ns.map D.int) none (some 63)) (a7 (by simp)) ?_;walk_at "w2";have ec:cut (ns.map D.int) none (some 63)=(cut ns none (some 63)).map D.int:=by
  unfold cut;simp[List.map_take,List.map_drop]
 refine h _ _ ⟨g.length+1,0,0,29,cut ns none (some 63),?_,?_,?_,by decide,by decide,by decide,by decide⟩ (by simp) (λi hi=>?_)
 ·simp
 ·rw[<- ec];simp
 ·simp
 ·simp[List.getElem?_append,hi,Nat.lt_of_lt_of_le hi (by omega:g.length<=g.length+1),Nat.lt_of_lt_of_le hi (by omega:g.length<=g.length+1+1)]
end
theorem JP(f:α->β)(l:List α)(lo hi:Option Int):cut (l.map f) lo hi=(cut l lo hi).map f:=by
 unfold cut;simp[List.map_take,List.map_drop]
theorem KU:∀{ms:List Int} {l:Int},ms.Pairwise (· < ·)->(∀m∈ms,l<=m/\m<=7)->gm l ms=true
 |[],_,_,_=>rfl
 |m::r,l,hp,h=>by
  obtain⟨h1,h2⟩:=cZ.mp hp;have hm:=h m (by simp);simp only[gm];rw[aw hm.1,aw hm.2,KU h2 λx hx=>⟨by have:=h1 x hx;omega,(h x (by simp[hx])).2⟩]
  rfl
theorem J1{l:List α}{r:Int}(h0:0<=r)(h1:r<l.length):∃v,gs l r=some v/\v∈l:=by
 have hi:r.toNat<l.length:=by omega
 refine⟨l[r.toNat],?_,cy hi⟩;have:=C1 (xs:=l) (j:=r.toNat) (v:=l[r.toNat]) (ae hi)
 rwa [show((r.toNat:Nat):Int)=r by omega] at this
section
variable{T:Nat->Option aY}
theorem BX(h7:T 7=some yj){a b:Bool}(h:Q (.bl (a==b)) g):b8 T (k+1) 7 [.bl a,.bl b] g Q E:=by
 refine call_of h7 rfl ?_;dsimp[yj,c7,List.replicate];walk_at "w2";walk_at "w2";refine qE (c:="bool") (b:=true) ∅ rfl ?_;walk_at "w2";refine qE (c:="bool") (b:=true) ∅ rfl ?_;walk_at "w2";exact h
end
def B0:aY:=⟨1,8,(.seq (.lX (.many [1,2,3,4,5]) aM) (.seq (.set 6 (.dA (.call 1 (gJ bj (bh 1) (bh 99))) (.call 2 (fk bq)))) (.seq (.set 7 (.dA (.call 1 (gJ bz (bh 1) (bh 99))) (.call 2 (fk cx)))) (.seq (.ret (.dA eB (.dA gL (.call 1 (gJ dY (bh 0) (bh 9999)))))) .pass))))⟩
structure a9 where
 lo:Int
 lm:List Int
 up:Int
 um:List Int
 yr:Int
def a9.d(c:a9):D:=.tup [.int c.lo,.tup (c.lm.map .int),.int c.up,.tup (c.um.map .int),.int c.yr]
def q9(c:a9):Bool:=((decide (1<=c.lo)&&decide (c.lo<=99))&&gm 0 c.lm)&&(((decide (1<=c.up)&&decide (c.up<=99))&&gm 0 c.um)&&(decide (0<=c.yr)&&decide (c.yr<=9999)))
section
variable{T:Nat->Option aY}{d:Nat}
theorem aC2(h1:NF T)(h2:T 2=some K5)(sX:T 12=some B0){c:a9}(h:Q (.bl (q9 c)) g):b8 T (k+4) 12 [c.d] g Q E:=by
 refine call_of sX rfl ?_;dsimp[B0,c7,List.replicate,a9.d];walk_at "w3";refine y9 h1 ?_;have s1:∀b:Bool,b=((decide (1<=c.lo)&&decide (c.lo<=99))&&gm 0 c.lm)->wpS (b8 T (k+3)) (j5 (j5 B0.body)) ⟨λ_ g'=>Q .bR g',Q,λ_ _=>False,λ_ _=>False⟩ [some c.d,some (.int c.lo),some (.tup (c.lm.map .int)),some (.int c.up),some (.tup (c.um.map .int)),some (.int c.yr),some (.bl b),none] g E:=by
  intro b hb;dsimp[B0,j5];walk_at "w3";refine y9 h1 ?_;have s2:∀b':Bool,b'=((decide (1<=c.up)&&decide (c.up<=99))&&gm 0 c.um)->wpS (b8 T (k+3)) (j5 (j5 (j5 B0.body))) ⟨λ_ g'=>Q .bR g',Q,λ_ _=>False,λ_ _=>False⟩ [some c.d,some (.int c.lo),some (.tup (c.lm.map .int)),some (.int c.up),some (.tup (c.um.map .int)),some (.int c.yr),some (.bl b),some (.bl b')] g E:=by
   intro b' lH;dsimp[B0,j5];have e:q9 c=(b&&(b'&&(decide (0<=c.yr)&&decide (c.yr<=9999)))):=by unfold q9;rw[hb,lH]
   rw[e] at h;walk_at "w3";cases b
   ·exact pY h
   ·refine mj ?_;walk_at "w3";cases b'
    ·exact pY h
    ·refine mj ?_;walk_at "w3";exact y9 h1 h
  refine BP ?_;cases hc:(decide (1<=c.up)&&decide (c.up<=99)) with
  |false=>exact pY (s2 false (by rw[hc];rfl))
  |true =>
   refine mj ?_;walk_at "w1";walk_at "w1";walk_at "w1";walk_at "w1";exact Jq h1 h2 (s2 _ (by rw[hc];rfl))
 refine BP ?_;cases hc:(decide (1<=c.lo)&&decide (c.lo<=99)) with
 |false=>exact pY (s1 false (by rw[hc];rfl))
 |true =>
  refine mj ?_;walk_at "w1";walk_at "w1";walk_at "w1";walk_at "w1";exact Jq h1 h2 (s1 _ (by rw[hc];rfl))
end
def Q9:aY:=⟨2,5,(.seq (.set 2 (dj .list bj)) (.seq (.set 3 (.prim .lst .nil)) (.seq (.dM (.one 4) (.eO (dj .len bj)) (.seq (.expr (.eX .append bz (fk (.eX .pop bq (fk (.call 4 (dC aM (dj .len bq)))))))) .pass)) (.seq (.ret bz) .pass))))⟩
theorem IJ{α:Type}:∀{l:List α} {j:Nat} (h:j<l.length),(l[j]::l.eraseIdx j).Perm l
 |a::r,0,_=>by simp
 |a::r,j+1,h=>by
  simp only[List.getElem_cons_succ,List.eraseIdx_cons_succ];exact(List.Perm.swap _ _ _).trans ((IJ (l:=r) (j:=j) (by simpa using h)).cons a)
theorem Gr.I0{d x:Nat}(h:Gr d g g')(hx:g.length<=x):Gr d g (g'.set x o):=⟨by simp[h.len],λi h1 h2=>by rw[az ()];exact h.old i h1 h2⟩
theorem j4.I0{d x:Nat}(h:j4 g d)(hx:d<x):j4 (g.set x o) d:=by
 obtain⟨s,p,b,r,xs,e1,e2,hs,q⟩:=h.ex;exact⟨s,p,b,r,xs,by rw[az ()];exact e1,by rw[az ()];exact e2,hs,q⟩
theorem b0:(g++[o])[g.length]?=some o:=by simp
theorem n8(h:g[i]?=some o):(g++[o'])[i]?=some o:=by rw[aL (n4 h)];exact h
theorem get_set(h:g[i]?=some o):(g.set i o')[i]?=some o':=bf (n4 h)
theorem d5(h:g[i]?=some o)(hn:j≠i):(g.set j o')[i]?=some o:=by rw[az hn];exact h
section
variable{T:Nat->Option aY}{d:Nat}
theorem Je(h4:T 4=some E0)(AF:T 21=some Q9)(ha:g[a]?=some (.lst l))(hl:l.length<=1000)(hd:a≠d)(D0:j4 g d)(h:∀(l':List D) b g',l'.Perm l->g'[b]?=some (.lst l')->g.length<=b->j4 g' d->Gr d g g'->Q (.ref b) g'):b8 T (k+2) 21 [.ref d,.ref a] g Q E:=by
 refine call_of AF rfl ?_;dsimp[Q9,c7,List.replicate];left;refine Dg (a7 ha) ?_;left;have dl:=D0.lt;refine u9 (a8 T _) (U2 (a8 T _) ?_);left;have xN:(g++[O.lst l]++[O.lst []])[a]?=some (.lst l):=n8 (n8 ha);refine C4 (a7 xN) ?_;refine ⟨_,rfl,by omega,by omega,j6 0 l.length,λi U g'=>∃ left found w,U=[some (.ref d),some (.ref a),some (.ref g.length),some (.ref (g.length + 1)),w]/\(left ++ found).Perm l/\left.length + i=l.length/\g'[g.length]?=some (.lst left)/\g'[g.length + 1]?=some (.lst found)/\j4 g' d/\Gr d g g',
  λi U g p=>u7,?_,λi x U g' hx p=>?_,λU g' p=>?_⟩
 ·refine⟨l,[],none,?_,by simp,by simp,?_,?_,(D0.snoc _).snoc _,(Gr.snoc _ _ _).trans (Gr.snoc _ _ _)⟩
  ·simp
  ·exact n8 b0
  ·have:=b0 (g:=g++[O.lst l]) (o:=O.lst []);simpa using this
 ·obtain⟨left,found,w,rfl,hp,hn,e1,e2,D1,G1⟩:=p;obtain⟨hi,rfl⟩:=x6 hx;show wpS _ _ _ _ _ _;left;refine f9 (n:=(left.length:Int)) h4 D1 () () λr g2 r0 r1 D2 G2=>?_;have f1:=G2.at () e1;have f2:=G2.at () e2;have hr:r.toNat<left.length:=by omega
  left;refine Xf (j:=r.toNat) f1 () (ae hr) () ?_;left;refine P5 (d5 f2 ()) ?_ ?_
  ·have:=hp.length_eq;simp at this;omega
  left;refine⟨_,_,_,rfl,?_,?_,d5 (get_set f1) (),get_set (d5 f2 ()),(D2.I0 ()).I0 (),((G1.trans G2).I0 ()).I0 ()⟩
  ·refine List.Perm.trans ?_ hp;have:=IJ hr;refine List.Perm.trans ?_ (fA found this);simp only[List.cons_append];rw[<- bQ];exact(List.perm_append_singleton _ _)
  ·rw[gz hr];omega
 ·obtain⟨left,found,w,rfl,hp,hn,e1,e2,D1,G1⟩:=p;show wpS _ _ _ _ _ _;left;rw[j9] at hn;have:left=[]:=dN ();subst this;exact h _ _ _ (by simpa using hp) e2 () D1 G1
end
def Z1:aY:=⟨1,5,(.seq (.set 1 (.prim .lst (Ba (.prim .tup .nil) (dj .tup (bh 0)) (bI .tup (bh 0) (bh 1)) (dj .tup (bh 1)) (.prim .tup (gJ (bh 0) (bh 1) (bh 2))) (.prim .tup (lx (bh 0) (bh 1) (bh 2) (bh 7))) (dj .tup (bh 2))))) (.seq (.set 2 (cR bj (.call 4 (dC aM (cR (bI .tup (bh 4) (bh 7)) (dj .int (bI (.cmp .Eq) (.call 4 (dC aM (bh 4))) (bh 0)))))))) (.seq (.set 3 (cR bj (.call 4 (dC aM (bh 5))))) (.seq (.set 4 (cR (.prim .lst (Gw (bh 0) (bh 0) (bh 1400) (bh 1400) (bh 1401) (bh 1))) (.call 4 (dC aM (bh 6))))) (.seq (.ret (.prim .tup (si (bI (.bin .Add) (bh 1) (.call 4 (dC aM (bh 3)))) bq (bI (.bin .Add) (bh 1) (.call 4 (dC aM (bh 4)))) bz cx))) .pass)))))⟩
def E9:aY:=⟨4,4,(.seq (.ifs (.jd (dS .Eq (dj .len bj) (bh 0)) (.dA (dS .Lt (dj .len bj) bz) (dS .Eq (.call 4 (dC aM (bh 3))) (bh 0)))) (.seq (.expr (.eX .append bj (fk bq))) (.seq (.ret (bI (.bin .Add) bq (bh 1))) .pass)) .pass) (.seq (.ifs (dS .Eq (.call 4 (dC aM (bh 5))) (bh 0)) (.seq (.eM bj (.call 4 (dC aM (dj .len bj))) bq) (.seq (.ret (bI (.bin .Add) bq (bh 1))) .pass)) .pass) (.seq (.ret bq) .pass)))⟩
structure jH(c:a9):Prop where
 good:q9 c=true
 l8:c.lm.length<=8
 u8:c.um.length<=8
theorem jH.mk'{lo up yr:Int}{lm um:List Int}(h1:1<=lo)(h2:lo<=99)(h3:1<=up)(h4:up<=99)(h5:0<=yr)(h6:yr<=9999)(h7:gm 0 lm=true)(h8:gm 0 um=true)(h9:lm.length<=8)(Gv:um.length<=8):jH ⟨lo,lm,up,um,yr⟩:=by
 refine⟨?_,h9,Gv⟩;simp only[q9,h7,h8,decide_eq_true h1,decide_eq_true h2,decide_eq_true h3,decide_eq_true h4,decide_eq_true h5,decide_eq_true h6]
 rfl
theorem jH.inv{c:a9}(h:jH c):(1<=c.lo/\c.lo<=99)/\gm 0 c.lm=true/\(1<=c.up/\c.up<=99)/\gm 0 c.um=true/\0<=c.yr/\c.yr<=9999:=by
 have:=h.good;unfold q9 at this;simp only[Bool.and_eq_true,decide_eq_true_eq] at this;obtain⟨⟨⟨a,b⟩,e⟩,⟨⟨c',d⟩,f⟩,p,q⟩:=this;exact⟨⟨a,b⟩,e,⟨c',d⟩,f,p,q⟩
def R9:List (List Int):=[[],[0],[0,1],[1],[0,1,2],[0,1,2,7],[2]]
theorem Ts:∀ms∈R9,gm 0 ms=true/\ms.length<=8:=by decide
theorem JY{r:Int}(h0:0<=r)(h7:r<7):∃ms,gs (R9.map λms=>D.tup (ms.map .int)) r=some (.tup (ms.map .int))/\gm 0 ms=true/\ms.length<=8:=by
 obtain⟨v,hv,hm⟩:=J1 (l:=R9.map λms=>D.tup (ms.map .int)) h0 (by simpa[R9] using h7);obtain⟨ms,h1,rfl⟩:=aH.mp hm;exact⟨ms,hv,Ts ms h1⟩
section
variable{T:Nat->Option aY}{d:Nat}
theorem aG2(h4:T 4=some E0)(Ow:T 22=some Z1)(D0:j4 g d)(h:∀c g',jH c->j4 g' d->Gr d g g'->Q c.d g'):b8 T (k+2) 22 [.ref d] g Q E:=by
 refine call_of Ow rfl ?_;dsimp[Z1,c7,List.replicate];have dl:=D0.lt;left;have D1:=D0.snoc (.lst (R9.map λms=>D.tup (ms.map .int)));have G1:=Gr.snoc d g (.lst (R9.map λms=>D.tup (ms.map .int)));have e1:(g++[O.lst (R9.map λms=>D.tup (ms.map .int))])[g.length]?=some (.lst (R9.map λms=>D.tup (ms.map .int))):=b0;refine f9 h4 D1 ∅ ∅ λr g2 r0 r1 D2 G2=>?_;left;have e2:=G2.at () e1;have hn:∃n:Int,gs [D.int 4,D.int 7] (if decide (r=0)=true then 1 else 0)=some (.int n)/\0<n/\n<=7:=by
  by_cases hr:r=0
  ·exact⟨7,by rw[aw hr];rfl,by decide,by decide⟩
  ·exact⟨4,by rw[aE hr];rfl,by decide,by decide⟩
 obtain⟨n,en,n0,n7⟩:=hn;refine v5 en ?_;left;refine f9 h4 D2 n0 () λr3 g3 iO jc D3 G3=>?_;have e3:=G3.at () e2;obtain⟨lm,el,gl,ll⟩:=JY iO ();refine m8 (a7 e3) el ?_;left;refine f9 h4 D3 ∅ ∅ λr4 g4 qq sA D4 G4=>?_;have e4:=G4.at () e3;obtain⟨um,eu,gu,lu⟩:=JY qq ();refine m8 (a7 e4) eu ?_;left;have e5:(g4++[O.lst [.int 0,.int 0,.int 1400,.int 1400,.int 1401,.int 1]])[g4.length]?=some (.lst [.int 0,.int 0,.int 1400,.int 1400,.int 1401,.int 1]):=b0;refine f9 h4 (D4.snoc _) ∅ ∅ λr5 g5 kX kW D5 G5=>?_;have e6:=G5.at (by have:=D4.lt;omega) e5;obtain⟨v,hv,hm⟩:=J1 (l:=[D.int 0,.int 0,.int 1400,.int 1400,.int 1401,.int 1]) kX (by simpa using kW);have hy:∃y:Int,v=.int y/\0<=y/\y<=9999:=by
  simp only[List.mem_cons,List.mem_nil_iff,or_false] at hm;rcases hm with rfl|rfl|rfl|rfl|rfl|rfl<;>exact⟨_,rfl,by decide,by decide⟩
 obtain⟨y,rfl,y0,y1⟩:=hy;refine m8 (a7 e6) hv ?_;left;refine f9 h4 D5 ∅ ∅ λr6 g6 EV EU D6 G6=>?_;left;refine f9 h4 D6 ∅ ∅ λr7 g7 r70 r71 D7 G7=>?_;left;exact h ⟨1+r6,lm,1+r7,um,y⟩ _ (jH.mk' () () () () y0 y1 gl gu ll lu) D7 (G1.trans (G2.trans (G3.trans (G4.trans ((Gr.snoc _ _ _).trans (G5.trans (G6.trans G7)))))))
def CU(l:List D)(f:Int):Prop:=∃ns:List Int,l=ns.map .int/\∀n∈ns,1<=n/\n<f
theorem Zr(h4:T 4=some E0)(vD:T 23=some E9)(ha:g[a]?=some (.lst l))(hl:l.length<1000)(hs:CU l f)(f1:1<=f)(hd:d<a)(D0:j4 g d)(h:∀(l':List D) (f':Int) g',l'≠[]->l'.length<=l.length+1->CU l' f'->f<=f'->f'<=f+1->g'[a]?=some (.lst l')->j4 g' d->(∀i,i≠d->i≠a->i<g.length->g'[i]?=g[i]?)->g.length<=g'.length->Q (.int f') g'):b8 T (k+2) 23 [.ref d,.ref a,.int f,.int v] g Q E:=by
 refine call_of vD rfl ?_;obtain⟨ns,rfl,qJ⟩:=id hs;have app:∀g':G,g'[a]?=some (.lst (ns.map D.int))->j4 g' d->Gr d g g'->wpS (b8 T (k+1)) (.seq (.expr (.eX .append (.var 1) (.cons (.var 2) .nil))) (.seq (.ret (.prim (.bin .Add) (.cons (.var 2) (.cons (.lit (.int 1)) .nil)))) .pass)) ⟨λiM g1=>wpS (b8 T (k+1)) (j5 E9.body) ⟨λ_ g'=>Q .bR g',Q,λ_ _=>False,λ_ _=>False⟩ iM g1 E,Q,λ_ _=>False,λ_ _=>False⟩ [some (.ref d),some (.ref a),some (.int f),some (.int v)] g' E:=by
  intro g' e D1 G1;left;refine P5 e () ?_;left;refine h _ _ _ (by simp) (by simp) ⟨ns++[f],by simp,λn hn=>?_⟩ () () (get_set e) (D1.I0 hd) (λi h1 h2 h3=>?_) (by simp[G1.len])
  ·rcases aR.mp hn with z|z
   ·have:=qJ n z;omega
   ·simp at z;omega
  ·rw[az (cz h2)];exact G1.old i h1 h3
 have rest:∀g':G,g'[a]?=some (.lst (ns.map D.int))->ns≠[]->j4 g' d->Gr d g g'->wpS (b8 T (k+1)) (j5 E9.body) ⟨λ_ g'=>Q .bR g',Q,λ_ _=>False,λ_ _=>False⟩ [some (.ref d),some (.ref a),some (.int f),some (.int v)] g' E:=by
  intro g' e fF D1 G1;dsimp[E9,j5];left;refine f9 h4 D1 ∅ ∅ λr g2 r0 r1 D2 G2=>?_;have e2:=G2.at () e;have hlen:0<ns.length:=Eu.mpr fF;left;refine if2 (λc=>?_) (λc=>?_)
  ·left;rw[ai];refine f9 h4 D2 () (by simp at hl;omega) λr3 g3 iO jc D3 G3=>?_;have e3:=G3.at () e2;have hj:kY (ns.map D.int).length r3=some r3.toNat:=by
    unfold kY;rw[aJ iO,aJ (by rw[ai];exact jc)]
   refine R6 e3 hj ?_;left;refine h _ _ _ (by simp[fF]) (by simp) ⟨ns.set r3.toNat f,by simp,λn hn=>?_⟩ () () (get_set e3) (D3.I0 hd) (λi h1 h2 h3=>?_) (by simp[((G1.trans G2).trans G3).len])
   ·rcases pq hn with z|z
    ·have:=qJ n z;omega
    ·omega
   ·rw[az (cz h2)];exact((G1.trans G2).trans G3).old i h1 h3
  ·left;exact h _ _ _ (by simp[fF]) (by simp) hs () () e2 D2 (λi h1 h2 h3=>(G1.trans G2).old i h1 h3) (G1.trans G2).len
 dsimp[E9,c7,List.replicate];left;refine if2 (λc=>?_) (λc=>?_)
 ·refine mj ?_;exact app g ha D0 (Gr.refl _ _)
 ·have fF:ns≠[]:=λz=>c (by rw[z];rfl);left;refine if2 (λc2=>?_) (λc2=>?_)
  ·left;refine f9 h4 D0 ∅ ∅ λr g2 r0 r1 D2 G2=>?_;left;refine if2 (λc3=>?_) (λc3=>?_)
   ·exact app g2 (G2.at () ha) D2 G2
   ·exact rest g2 (G2.at () ha) fF D2 G2
  ·exact rest g ha fF D0 (Gr.refl _ _)
end
def J7:aY:=⟨3,17,(.seq (.set 3 (.prim .lst .nil)) (.seq (.set 4 (bh 1)) (.seq (.set 5 (.prim .Z6 .nil)) (.seq (.set 6 (cR (.prim .lst (gJ (bh 0) (bh 1) (bh 1350))) (.call 4 (dC aM (bh 3))))) (.seq (.set 7 (bI (.bin .Add) (bh 1) (.call 4 (dC aM (bh 96))))) (.seq (.set 8 (bI (.bin .Add) (bh 2) (.call 4 (dC aM (bh 4))))) (.seq (.set 9 (bI .max (bh 0) (bI (.bin .Sub) (.call 4 (dC aM (bh 9))) (bh 6)))) (.seq (.set 10 (.prim .lst .nil)) (.seq (.dM (.one 11) (.eO bj) (.seq (.set 4 (.call 23 (lx aM bz cx bq))) (.seq (.set 12 (bI .tup (cR bz (.call 4 (dC aM (dj .len bz)))) (bI (.bin .Add) (bh 50) (.call 4 (dC aM (bI (.bin .Add) (bh 2) bq)))))) (.seq (.dM (.one 13) (.eY lA) (.seq (.ifs (dS .Eq (.call 4 (dC aM mh)) (bh 0)) (.seq (.set 14 (.call 4 (dC aM (bh 8)))) (.seq (.eM dY uU (dj .tuple (.comp [13,14,5] 5 (.one 4) (.eO (bh 8)) (.jd (dS .Eq cx bj) (dS .In cx (.eX .get bq (dC aM (.prim .tup .nil))))) cx))) .pass)) .pass) .pass)) (.seq (.ifs (dS .Eq (.call 4 (dC aM (bh 5))) (bh 0)) (.seq (.set 6 (bI .min (bh 9999) (bI (.bin .Add) (bI (.bin .Add) eB (bh 1)) (.call 4 (dC aM (bh 9)))))) .pass) .pass) (.seq (.set 15 (.comp [9,7] 4 (.one 3) (.eY lA) .no (bI (.bin .Add) (bI (.bin .Add) (bh 1) aM) (bI (.bin .Mod) (bI (.bin .Mult) bz bj) (bh 97))))) (.seq (.set 16 (bI (.bin .Mult) eB (dj .int (bI (.cmp .Gt) (.call 4 (dC aM (bh 4))) (bh 0))))) (.seq (.expr (.eX .append lB (fk (.prim .tup (si (cR pF (bh 0)) (.eX .get dY (dC (cR lA (bh 0)) (.prim .tup .nil))) (cR pF (bh 1)) (.eX .get dY (dC (cR lA (bh 1)) (.prim .tup .nil))) uT))))) .pass)))))))) (.seq (.ret lB) .pass))))))))))⟩
def Z9(kvs:List (Key×D)):Prop:=∀k v,p0 kvs k=some v->∃ms:List Int,v=.tup (ms.map .int)/\gm 0 ms=true/\ms.length<=8
theorem Yu(kvs:List (Key×D))(k k':Key)(v:D):p0 (putD kvs k v) k'=if k'=k then some v else p0 kvs k':=by
 unfold putD;split
 ·rename_i qT;have go:∀l:List (Key×D),p0 (l.map λkv=>if kv.1=k then(kv.1,v) else kv) k'=if k'=k then(if(l.any λkv=>decide (kv.1=k))=true then some v else none) else p0 l k':=by
   intro l
   induction l with
   |nil=>simp[p0]
   |cons p r ih =>
    obtain⟨pk,pv⟩:=p;by_cases e:pk=k
    ·subst e;by_cases e2:k'=pk
     ·subst e2;simp[p0]
     ·have:¬pk=k':=λz=>e2 z.symm;unfold p0 at ih ⊢;simp[this,e2] at ih ⊢;exact ih
    ·by_cases e2:k'=k
     ·subst e2;unfold p0 at ih ⊢;rw[jW,show decide (pk=k')=false from aE e,qg];simp[e] at ih ⊢;exact ih
     ·unfold p0 at ih ⊢;simp only[List.map_cons,e,if_false,List.find?_cons];by_cases e3:pk=k'
      ·simp[e3,e2]
      ·simp[e3];simp[e2] at ih;simp[e2];exact ih
  rw[go,qT]
  rfl
 ·rename_i qT;unfold p0;rw[kQ];by_cases e:k'=k
  ·subst e;have:kvs.find? (λkv=>decide (kv.1=k'))=none:=by
    rw[ke];intro x hx hd;exact qT (aV.mpr ⟨x,hx,hd⟩)
   rw[this];simp
  ·have:¬k=k':=λz=>e z.symm;simp[this,e]
theorem a19(kvs:List (Key×D))(k:Key)(v:D):(putD kvs k v).length<=kvs.length+1:=by
 unfold putD;split<;>simp
theorem Z9.put{k:Key}(h:Z9 kvs)(h1:gm 0 ms=true)(h2:ms.length<=8):Z9 (putD kvs k (.tup (ms.map .int))):=λk' v hv=>by
 rw[Yu] at hv;split at hv
 ·cases hv;exact⟨ms,rfl,h1,h2⟩
 ·exact h k' v hv
theorem Z9.get(h:Z9 kvs)(k:Key):∃ms:List Int,(p0 kvs k).getD (.tup [])=.tup (ms.map .int)/\gm 0 ms=true/\ms.length<=8:=by
 cases e:p0 kvs k with
 |none=>exact⟨[],rfl,rfl,by simp⟩
 |some v=>obtain⟨ms,rfl,h1,h2⟩:=h k v e;exact⟨ms,rfl,h1,h2⟩
theorem YL(p:Int->Bool):gm 0 (((List.range 8).map λ(n:Nat)=>(n:Int)).filter p)=true/\(((List.range 8).map λ(n:Nat)=>(n:Int)).filter p).length<=8:=by
 refine⟨KU (List.Pairwise.filter _ ∅) λm hm=>?_,aC (iZ _ _) ∅⟩;have:=(bH.mp hm).1;revert this;revert m;intro m _ hm;simp at hm;obtain⟨a,ha,rfl⟩:=hm;omega
theorem List.Yf{l:List α}{x:α}(h:l[i]?=some x):l.set i x=l:=by
 apply bP;intro j;by_cases e:i=j
 ·subst e;rw[bf (au.mp h).1];exact h.symm
 ·rw[az e]
section
variable{T:Nat->Option aY}{d:Nat}
def Yv:MS:=match J7.body with
 |.seq _ (.seq _ (.seq _ (.seq _ (.seq _ (.seq _ (.seq _ (.seq _ (.seq (.dM _ _ (.seq _ (.seq _ (.seq (.dM _ _ b) _)))) _))))))))=>b
 |x=>x
theorem US(h4:T 4=some E0){w0:Nat}{key wr:Int}{U:S}(hw:g[w0]?=some (.ee kvs))(W:Z9 kvs)(hk:kvs.length<1000)(hr:0<wr)(pH:wr<1000)(hd:d<w0)(D0:j4 g d)(s0:U[0]?=some (some (.ref d)))(s5:U[5]?=some (some (.ref w0)))(s8:U[8]?=some (some (.int wr)))(Mn:U[13]?=some (some (.int key)))(sl:U.length=17)(h:∀z jO g',g'[w0]?=some (.ee jO)->Z9 jO->jO.length<=kvs.length+1->j4 g' d->(∀i,i≠d->i≠w0->i<g.length->g'[i]?=g[i]?)->g.length<=g'.length->N.nx (U.set 14 z) g'):wpS (b8 T (k+1)) Yv N U g E:=by
 obtain⟨mF,Pb⟩:∃z,U[14]?=some z:=⟨_,ae ()⟩
 refine Q6 (Lq (Lr (Ht (BD (wz (w_var s0 (wz (w_var s8 (Dx ?_)))))))));refine f9 h4 D0 hr () λr g2 r0 r1 D2 G2=>?_;left;refine if2 (λc=>?_) (λc=>?_)
 ·refine yq (yt (BD (wz (w_var s0 (wz (w_lit (Dx ?_)))))));refine f9 h4 D2 ∅ ∅ λr3 g3 iO jc D3 G3=>?_;have e3:=(G2.trans G3).at () hw;have t5:(U.set 14 (some (.int r3)))[5]?=some (some (.ref w0)):=by rw[az ∅];exact s5
  have EI:(U.set 14 (some (.int r3)))[13]?=some (some (.int key)):=by rw[az ∅];exact Mn
  have Mh:(U.set 14 (some (.int r3)))[14]?=some (some (.int r3)):=bf ();obtain⟨ms,em,_,_⟩:=W.get (.inl key);refine Q6 (Kn (Hs ?_));refine aJ8 (a8 T _) (w_lit ⟨8,rfl,by decide,λi ys cc g'=>g'=g3/\ys.length<=i/\(∃z w,cc=[some (.int key),some (.int r3),some (.ref w0),z,w])/\ys=((((List.range i).map λ(n:Nat)=>(n:Int)).filter λs=>decide (s=r3)||ms.any λm=>m==s).map D.int),⟨rfl,by simp,⟨none,none,?_⟩,rfl⟩,λi ys U g' p=>p.2.1,λi ys cc g' hi p=>?_,λys cc g' p=>?_⟩)
  ·simp[E1,EI,Mh,t5,List.replicate]
  ·obtain⟨rfl,hl,⟨z,w,rfl⟩,e⟩:=p;have er:(List.range (i+1)).map (λ(n:Nat)=>(n:Int))=(List.range i).map (λ(n:Nat)=>(n:Int))++[(i:Int)]:=by rw[fb];simp
   have yes:(decide ((i:Int)=r3)||ms.any λm=>m==(i:Int))=true->bp (b8 T (k+1)) (.var 4) [some (.int key),some (.int r3),some (.ref w0),z,some (.int i)] g' (λy g4=>g4=g'/\(ys++[y]).length<=i+1/\(∃z' w',[some (.int key),some (.int r3),some (.ref w0),z,some (D.int i)]=[some (.int key),some (.int r3),some (.ref w0),z',w'])/\(ys++[y])=((((List.range (i+1)).map λ(n:Nat)=>(n:Int)).filter λs=>decide (s=r3)||ms.any λm=>m==s).map D.int)) jr:=λhc=>by
    left;refine⟨rfl,by simp;omega,⟨_,_,rfl⟩,?_⟩;rw[er,fh,dX,<- e];simp[hc]
   left;refine if2 (λc1=>?_) (λc1=>?_)
   ·refine mj ?_;exact yes (by rw[aw c1];rfl)
   ·left;refine Dj e3 (k:=.inl key) rfl ?_;rw[em];refine tG (Cz ?_);left;cases hc:(ms.any λm=>m==(i:Int)) with
    |true =>
     refine mj ?_;exact yes (by rw[hc];simp)
    |false =>
     refine pY ?_;refine⟨rfl,by omega,⟨_,_,rfl⟩,?_⟩;rw[er,fh,dX,<- e];simp[hc,c1]
  ·obtain⟨rfl,hl,_,e⟩:=p;subst e;refine Qc (a7 b0) ?_;obtain⟨f1,f2⟩:=YL λs=>decide (s=r3)||ms.any λm=>m==s
   refine w_var t5 (w_var EI ?_);refine Lf (n8 e3) (k:=.inl key) rfl () ?_;refine h _ _ _ (get_set (n8 e3)) (W.put f1 f2) (a19 _ _ _) ((D3.snoc _).I0 hd) (λi h1 h2 h3=>?_) ?_
   ·rw[az (cz h2),aL (ay h3 (G2.trans G3).len)];exact(G2.trans G3).old i h1 h3
   ·have:=(G2.trans G3).len;simp;omega
 ·refine Q7 ?_;have e2:=G2.at () hw;have:=h mF kvs g2 e2 W () D2 (λi h1 h2 h3=>G2.old i h1 h3) G2.len
  rwa [List.Yf Pb] at this
end
section
variable{T:Nat->Option aY}{d:Nat}
def O7:MS:=match J7.body with
 |.seq _ (.seq _ (.seq _ (.seq _ (.seq _ (.seq _ (.seq _ (.seq _ (.seq (.dM _ _ b) _))))))))=>b
 |x=>x
structure jm(d s0 w0 f0 i:Nat)(g:G)(f y:Int):Prop where
 EN:∃l,g[s0]?=some (.lst l)/\CU l f/\l.length<=i
 fr:1<=f/\f<=1+i
 LZ:∃kvs,g[w0]?=some (.ee kvs)/\Z9 kvs/\kvs.length<=2*i
 found:∃cs:List a9,g[f0]?=some (.lst (cs.map a9.d))/\cs.length=i/\∀c∈cs,jH c
 year:0<=y/\y<=9999
 dr:j4 g d
theorem aE8{s0 w0 f0 n0:Nat}{n y st wr sh:Int}{ow LY LW LV zm zl:Option D}(h4:T 4=some E0)(vD:T 23=some E9)(S:jm d s0 w0 f0 i g f y)(hi:i<=100)(hv:1<=v/\v<=100)(fR:1<=st/\st<=96)(jQ:0<wr/\wr<1000)(jZ:0<=sh/\sh<=2)(o1:d<n0)(o2:n0<=s0)(o3:s0<w0)(o4:w0<f0)(h:∀f' y' uh nV mF ug uf g',jm d s0 w0 f0 (i+1) g' f' y'->(∀j,j≠d->j<n0->g'[j]?=g[j]?)->g.length<=g'.length->N.nx [some (.ref d),some (.int n),some (.int v),some (.ref s0),some (.int f'),some (.ref w0),some (.int y'),some (.int st),some (.int wr),some (.int sh),some (.ref f0),ow,uh,nV,mF,ug,uf] g') :
  wpS (b8 T (k+2)) O7 N [some (.ref d),some (.int n),some (.int v),some (.ref s0),some (.int f),some (.ref w0),some (.int y),some (.int st),some (.int wr),some (.int sh),some (.ref f0),ow,LY,LW,LV,zm,zl] g E:=by
 obtain⟨⟨l,es,hs,hl⟩,⟨f1,f2⟩,⟨kvs,ew,W,hk⟩,⟨cs,ef,hc,hg⟩,⟨y0,y1⟩,D0⟩:=S;have lf:=n4 ef;dsimp[O7,J7];left;refine Zr h4 vD es () hs f1 () D0 λl1 f' g1 fF jj Fz f3 f5 gN D1 oy gK=>?_;have GI:g1[w0]?=some (.ee kvs):=(oy w0 () () (n4 ew)).trans ew;have GO:g1[f0]?=some (.lst (cs.map a9.d)):=(oy f0 () () lf).trans ef;left;have gk:0<l1.length:=Eu.mpr fF;refine f9 (n:=(l1.length:Int)) h4 D1 () () λr2 g2 iF iE D2 G2=>?_;have oU:=G2.at () gN;have GH:=G2.at () GI;have GN:=G2.at () GO;obtain⟨x,hx,hm⟩:=J1 (l:=l1) iF iE;obtain⟨ns,rfl,qJ⟩:=id Fz;obtain⟨k1,lE,rfl⟩:=aH.mp hm;refine m8 (a7 oU) hx ?_;left;refine f9 (n:=2+v) h4 D2 () () λr3 g3 iO jc D3 G3=>?_;have Bh:=G3.at () oU;have GG:=G3.at () GH;have Bj:=G3.at () GN;left;have kb1:=qJ k1 lE;have uF:∀j,j≠d->j<n0->g3[j]?=g[j]?:=λj a b=>by
  have lj:j<g.length:=by omega
  rw[G3.old j a (by have:=G2.len;(clear hi hv fR jQ jZ o1 hl f1 f2 hk hc y0 y1 f3 f5 iF jj gk iE iO jc kb1 a lj;omega)),G2.old j a (),oy j a () lj]
 have iG:g.length<=g3.length:=by have:=G2.len;have:=G3.len;(clear hi hv fR jQ jZ o1 o2 o3 o4 hl f1 f2 hk hc y0 y1 lf f3 f5 iF jj gk iE iO jc kb1;omega)
 refine u9 (a8 T _) (vb (a8 T _) ?_);left;refine ⟨_,rfl,_,λj U g'=>∃ jO nV mF,U=[some (.ref d),some (.int n),some (.int v),some (.ref s0),some (.int f'),some (.ref w0),some (.int y),some (.int st),some (.int wr),some (.int sh),some (.ref f0),ow,some (.tup [.int k1,.int (50 + r3)]),nV,mF,zm,zl]/\g'[w0]?=some (.ee jO)/\Z9 jO/\jO.length <= 2 * i + j/\j4 g' d/\(∀ j,j ≠ d->j ≠ w0->j < g3.length->g'[j]?=g3[j]?)/\g3.length <= g'.length,
  λ_ _ _ _=>u7,⟨kvs,_,_,rfl,GG,W,by omega,D3,λ_ _ _ _=>rfl,av _⟩,λj x U g' hx p=>?_,λU g' p=>?_⟩
 ·obtain⟨jO,nV,mF,rfl,OP,W',oi,D',zF,uQ⟩:=p;have gf:∃key:Int,x=.int key/\j<2:=by
   match j,hx with
   |0,hx=>cases hx;exact⟨_,rfl,by decide⟩
   |1,hx=>cases hx;exact⟨_,rfl,by decide⟩
   |j+2,hx=>simp at hx
  obtain⟨key,rfl,hj⟩:=gf;show wpS _ _ _ _ _ _;refine US (k:=k+1) h4 OP W' (by(clear hv fR jQ jZ o1 o2 o3 o4 hl f1 f2 hk y0 y1 lf f3 f5 gK iF jj gk iE iO jc kb1 iG uQ;omega)) jQ.1 jQ.2 () D' rfl rfl rfl rfl rfl λz zM g2' e2 W2 kz D2' qw uP=>?_;exact⟨zM,_,_,rfl,e2,W2,by(clear hi hv fR jQ jZ o1 o2 o3 o4 hl f1 f2 hk y0 y1 lf f3 f5 gK iF jj gk iE iO jc kb1 iG uQ hj uP;omega),D2',λj a b c=>(qw j a b ()).trans (zF j a b c),by(clear hi hv fR jQ jZ o1 o2 o3 o4 hl f1 f2 hk hc y0 y1 lf f3 f5 gK iF jj gk iE iO jc kb1 iG oi hj kz;omega)⟩
 obtain⟨uV,nV,mF,rfl,OO,W4,jk,D4,ox,jx⟩:=p;have OT:g'[s0]?=some (.lst (ns.map D.int)):=(ox s0 () () (n4 Bh)).trans Bh;have OW:g'[f0]?=some (.lst (cs.map a9.d)):=(ox f0 () () (n4 Bj)).trans Bj;have uE:∀j,j≠d->j<n0->g'[j]?=g[j]?:=λj a b=>(ox j a () (by(clear hi hv fR jQ jZ o1 hl f1 f2 hk hc y0 y1 f3 f5 gK iF jj gk iE iO jc kb1 jk jx a;omega))).trans (uF j a b);clear ox uF G2 G3 gN GI GO oU GH GN Bh GG Bj oy;have jk:uV.length<=2*(i+1):=by omega
 show wpS _ _ _ _ _ _;left;refine f9 h4 D4 ∅ ∅ λr5 g5 kX kW D5 G5=>?_;left;have tail:∀(y':Int) (g6:G),0<=y'->y'<=9999->j4 g6 d->Gr d g' g6->wpS (b8 T (k+2)) (j5 (j5 (j5 (j5 O7)))) N [some (.ref d),some (.int n),some (.int v),some (.ref s0),some (.int f'),some (.ref w0),some (.int y'),some (.int st),some (.int wr),some (.int sh),some (.ref f0),ow,some (.tup [.int k1,.int (50+r3)]),nV,mF,zm,zl] g6 E:=by
  intro y' g6 mH mG D6 G6;have OS:=G6.at () OT;have ON:=G6.at () OO;have xU:=G6.at () OW;dsimp[O7,J7,j5];left;refine aJ7 (a8 T _) ?_;left;refine⟨_,rfl,by simp,λj ys U g7=>g7=g6/\(∃z w,U=[some (.int sh),some (.int st),z,w])/\ys=([k1,50+r3].take j).map (λkey=>D.int (1+sh+key*st % 97)),⟨rfl,⟨none,none,rfl⟩,rfl⟩,λj ys U g7 p=>?_,λj x ys U g7 hx p=>?_,λys U g7 p=>?_⟩
  ·obtain⟨rfl,_,rfl⟩:=p;simp;omega
  ·obtain⟨rfl,⟨z,w,rfl⟩,rfl⟩:=p;have gf:∃key:Int,x=.int key/\([k1,50+r3].take j).map (λkey=>D.int (1+sh+key*st % 97))++[D.int (1+sh+key*st % 97)]=([k1,50+r3].take (j+1)).map (λkey=>D.int (1+sh+key*st % 97)):=by
    match j,hx with
    |0,hx=>cases hx;exact⟨_,rfl,rfl⟩
    |1,hx=>cases hx;exact⟨_,rfl,rfl⟩
    |j+2,hx=>simp at hx
   obtain⟨key,rfl,he⟩:=gf;show eA _ _ _ _ _ _;left;refine P9 (W5 () ()) ?_;left;exact⟨rfl,⟨_,_,rfl⟩,he⟩
  obtain⟨rfl,_,rfl⟩:=p;have eN:(g7++[O.lst [D.int (1+sh+k1*st % 97),D.int (1+sh+(50+r3)*st % 97)]])[g7.length]?=some (.lst [D.int (1+sh+k1*st % 97),D.int (1+sh+(50+r3)*st % 97)]):=b0;show wpS _ _ _ _ (g7++[O.lst [D.int (1+sh+k1*st % 97),D.int (1+sh+(50+r3)*st % 97)]]) _;left;refine f9 h4 (D6.snoc _) ∅ ∅ λr8 g8 mZ mY D8 G8=>?_;have l7:=D6.lt;have eN8:=G8.at () eN;have OR:=G8.at () (n8 OS);have Bg:=G8.at () (n8 ON);have GL:=G8.at () (n8 xU);left;refine P9 (DG () ()) ?_;left;obtain⟨lm,el,gl,ll⟩:=W4.get (.inl k1);obtain⟨um,eu,gu,lu⟩:=W4.get (.inl (50+r3));refine Dj Bg (k:=.inl k1) rfl ?_;rw[el];left;refine Dj Bg (k:=.inl (50+r3)) rfl ?_;rw[eu];left;refine P5 GL (by simp;omega) ?_;generalize jF:y'*(if decide (0<r8)=true then 1 else 0)=ty;have lY:0<=ty/\ty<=9999:=by
   rw[<- jF];split<;>simp<;>omega
  left;refine h f' y' _ _ _ _ _ _ ⟨⟨_,d5 OR (),Fz,by(clear hi hv fR jQ jZ o1 o2 o3 o4 f1 f2 hk y0 y1 lf f3 f5 gK iF gk iE iO jc kb1 iG jx jk kX kW mH mG mZ mY l7 ll lu jF lY;omega)⟩,⟨by omega,by(clear hi hv fR jQ jZ o1 o2 o3 o4 hl f1 hk y0 y1 lf gK iF jj gk iE iO jc kb1 iG jx jk kX kW mH mG mZ mY l7 ll lu jF lY;omega)⟩,⟨uV,d5 Bg (),W4,jk⟩,⟨cs++[⟨1+sh+k1*st % 97,lm,1+sh+(50+r3)*st % 97,um,ty⟩],?_,by simp[hc],?_⟩,⟨mH,mG⟩,D8.I0 ()⟩ (λj a b=>?_) ?_
  ·rw[get_set GL];simp[a9.d]
  ·intro c jq;rcases aR.mp jq with z|z
   ·exact hg c z
   ·simp at z;subst z;have m1:=fe (k1*st) (show(97:Int)≠0 by decide);have m2:=dP (k1*st) (show(0:Int)<97 by decide);have m3:=fe ((50+r3)*st) (show(97:Int)≠0 by decide);have m4:=dP ((50+r3)*st) (show(0:Int)<97 by decide);exact jH.mk' (by(clear hi hv fR jQ o1 o2 o3 o4 hl f1 f2 hk hc y0 y1 lf f3 f5 gK iF jj gk iE iO jc kb1 iG jx jk kX kW mH mG mZ mY l7 ll lu jF lY m2 m3 m4;omega)) (by(clear hi hv fR jQ o1 o2 o3 o4 hl f1 f2 hk hc y0 y1 lf f3 f5 gK iF jj gk iE iO jc kb1 iG jx jk kX kW mH mG mZ mY l7 ll lu jF lY m2 m3 m4;omega)) (by(clear hi hv fR jQ o1 o2 o3 o4 hl f1 f2 hk hc y0 y1 lf f3 f5 gK iF jj gk iE iO jc kb1 iG jx jk kX kW mH mG mZ mY l7 ll lu jF lY m1 m2 m4;omega)) (by(clear hi hv fR jQ o1 o2 o3 o4 hl f1 f2 hk hc y0 y1 lf f3 f5 gK iF jj gk iE iO jc kb1 iG jx jk kX kW mH mG mZ mY l7 ll lu jF lY m1 m2 m4;omega)) lY.1 lY.2 gl gu ll lu
  ·have lj:j<g'.length:=by(clear hi hv fR jQ jZ o1 hl f1 f2 hk hc y0 y1 f3 f5 gK iF jj gk iE iO jc kb1 jk kX kW mH mG mZ mY l7 ll lu jF lY a;omega)
   rw[az (by(clear hi hv fR jQ jZ o1 hl f1 f2 hk hc y0 y1 lf f3 f5 gK iF jj gk iE iO jc kb1 iG jx jk kX kW mH mG mZ mY l7 ll lu jF lY a lj;omega)),G8.old j a (by have:=G6.len;simp;(clear hi hv fR jQ jZ o1 o2 o3 o4 hl f1 f2 hk hc y0 y1 lf f3 f5 gK iF jj gk iE iO jc kb1 iG jx jk kX kW mH mG mZ mY l7 ll lu jF lY a b;omega)),aL (by have:=G6.len;(clear hi hv fR jQ jZ o1 o2 o3 o4 hl f1 f2 hk hc y0 y1 lf f3 f5 gK iF jj gk iE iO jc kb1 iG jx jk kX kW mH mG mZ mY l7 ll lu jF lY a b;omega)),G6.old j a lj];exact uE j a b
  ·have:=G6.len;have:=G8.len;simp at this ⊢
   (clear hi hv fR jQ jZ o1 o2 o3 o4 hl f1 f2 hk hc y0 y1 lf f3 f5 gK iF jj gk iE iO jc kb1 jk kX kW mH mG mZ mY l7 ll lu jF lY;omega)
 refine if2 (λc=>?_) (λc=>?_)
 ·left;refine f9 h4 D5 ∅ ∅ λr6 g6 EV EU D6 G6=>?_;left;generalize M':(if y+1+r6<9999 then y+1+r6 else 9999)=y';have:0<=y'/\y'<=9999:=by rw[<- M'];split<;>omega
  exact tail y' g6 this.1 this.2 D6 (G5.trans G6)
 ·refine Q7 ?_;exact tail y g5 y0 y1 D5 G5
theorem Zt(h4:T 4=some E0)(vD:T 23=some E9)(Ov:T 24=some J7){n:Int}(hn:0<=n/\n<=100)(hv:1<=v/\v<=100)(D0:j4 g d)(h:∀(cs:List a9) a g',(cs.length:Int)=n->(∀c∈cs,jH c)->g'[a]?=some (.lst (cs.map a9.d))->g.length<=a->j4 g' d->Gr d g g'->Q (.ref a) g'):b8 T (k+3) 24 [.ref d,.int n,.int v] g Q E:=by
 refine call_of Ov rfl ?_;dsimp[J7,c7,List.replicate];have dl:=D0.lt;left;have D1:j4 (g++[O.lst []]++[O.ee []]++[O.lst [.int 0,.int 1,.int 1350]]) d:=((D0.snoc _).snoc _).snoc _;have G1:Gr d g (g++[O.lst []]++[O.ee []]++[O.lst [.int 0,.int 1,.int 1350]]):=((Gr.snoc _ _ _).trans (Gr.snoc _ _ _)).trans (Gr.snoc _ _ _);have e0:(g++[O.lst []]++[O.ee []]++[O.lst [.int 0,.int 1,.int 1350]])[g.length]?=some (.lst []):=n8 (n8 b0);have e1:(g++[O.lst []]++[O.ee []]++[O.lst [.int 0,.int 1,.int 1350]])[(g++[O.lst []]).length]?=some (.ee []):=n8 b0;have e2:(g++[O.lst []]++[O.ee []]++[O.lst [.int 0,.int 1,.int 1350]])[(g++[O.lst []]++[O.ee []]).length]?=some (.lst [.int 0,.int 1,.int 1350]):=b0;have n1:(g++[O.lst []]).length=g.length+1:=by simp
 have n2:(g++[O.lst []]++[O.ee []]).length=g.length+2:=by simp
 rw[n1] at e1 ⊢;refine f9 h4 D1 ∅ ∅ λr2 g2 iF iE D2 G2=>?_;have Pe:=G2.at () e0;have lM:=G2.at () e1;have Pa:=G2.at () e2;obtain⟨x,hx,hm⟩:=J1 (l:=[D.int 0,.int 1,.int 1350]) iF (by simpa using iE);have hy:∃y:Int,x=.int y/\0<=y/\y<=9999:=by
  simp only[List.mem_cons,List.mem_nil_iff,or_false] at hm;rcases hm with rfl|rfl|rfl<;>exact⟨_,rfl,by decide,by decide⟩
 obtain⟨y,rfl,y0,y1⟩:=hy;refine m8 (a7 Pa) hx ?_;left;refine f9 h4 D2 ∅ ∅ λr3 g3 iO jc D3 G3=>?_;left;refine f9 h4 D3 ∅ ∅ λr4 g4 qq sA D4 G4=>?_;left;refine f9 h4 D4 ∅ ∅ λr5 g5 kX kW D5 G5=>?_;have za:=G3.trans (G4.trans G5);have Pd:=za.at () Pe;have GP:=za.at () lM;have l5:=(G1.trans (G2.trans za)).len;have lw:=n4 GP;left;generalize jZ:(if r5-6>0 then r5-6 else 0)=sh;have EM:0<=sh/\sh<=2:=by rw[<- jZ];split<;>omega
 have mP:(g5++[O.lst []])[g5.length]?=some (.lst []):=b0;refine u9 (a8 T _) (U2 (a8 T _) ?_);left;refine ⟨by omega,by omega,j6 0 n.toNat,λi U g'=>∃ f' y' zi uh nV mF ug uf,U=[some (.ref d),some (.int n),some (.int v),some (.ref g.length),some (.int f'),some (.ref (g.length + 1)),some (.int y'),some (.int (1 + r3)),some (.int (2 + r4)),some (.int sh),some (.ref g5.length),zi,uh,nV,mF,ug,uf]/\jm d g.length (g.length + 1) g5.length i g' f' y'/\Gr d g g',
  λ_ _ _ _=>u7,⟨1,y,none,none,none,none,none,none,rfl,⟨⟨[],n8 Pd,⟨[],rfl,by simp⟩,by simp⟩,⟨by omega,by omega⟩,⟨[],n8 GP,(λk v hv=>by cases hv),by simp⟩,⟨[],mP,rfl,by simp⟩,⟨y0,y1⟩,D5.snoc _⟩,(G1.trans (G2.trans za)).trans (Gr.snoc _ _ _)⟩,λi x U g' hx p=>?_,λU g' p=>?_⟩
 ·obtain⟨f',y',zi,uh,nV,mF,ug,uf,rfl,S,G'⟩:=p;obtain⟨hi,rfl⟩:=x6 hx;refine aE8 (n0:=g.length) h4 vD S () hv ⟨by omega,by omega⟩ ⟨by omega,by omega⟩ EM dl (av _) () () λf2 y2 a b c e f g2 S2 qw uP=>?_;exact⟨f2,y2,_,_,_,_,_,_,rfl,S2,⟨by have:=G'.len;(clear hn hv dl iF iE y0 y1 iO jc qq sA kX kW l5 lw jZ EM hi;omega),λj h1 h2=>(qw j h1 h2).trans (G'.old j h1 h2)⟩⟩
 ·obtain⟨f',y',zi,uh,nV,mF,ug,uf,rfl,S,G'⟩:=p;left;obtain⟨cs,ef,hc,hg⟩:=S.found;rw[j9] at hc;exact h cs _ _ () hg ef () S.dr G'
end
def yK:aY:=⟨2,8,(.seq (.set 2 (bI .ku (bh 1) (bI (.bin .Add) (bI (.bin .Add) (bI (.bin .FloorDiv) bj (bh 2)) (bI (.bin .Mod) bj (bh 2))) (bh 1)))) (.seq (.set 3 (bI (.bin .Add) bq (bI (.mf false true) (.call 21 (dC aM bq)) (bI (.bin .FloorDiv) bj (bh 2))))) (.seq (.set 4 (.call 4 (dC aM (bh 3)))) (.seq (.set 5 (.prim .lst .nil)) (.seq (.dM (.one 6) (.eO bj) (.seq (.set 7 (cR (.prim .lst (gJ (bI (.bin .Add) (bh 1000) eB) (bh 0) (bI (.bin .Add) (bh 1) (bI (.bin .FloorDiv) (bI (.bin .Mult) (bh 2) eB) (bI .max (bh 1) bj))))) cx)) (.seq (.expr (.eX .append dY (fk (.prim .tup (si (cR bz eB) (.prim .tup .nil) (bI (.bin .Add) (bh 1) (.call 4 (dC aM (bh 9)))) (.prim .tup .nil) gL))))) .pass))) (.seq (.ret dY) .pass))))))⟩
def P6:aY:=⟨2,9,(.seq (.set 2 (.call 4 (dC aM (bI (.bin .Add) bj (bh 1))))) (.seq (.set 3 (bI (.bin .Add) (bh 1) (.call 4 (dC aM (bh 3))))) (.seq (.set 4 (.call 4 (dC aM (bh 5)))) (.seq (.ifs (dS .Eq cx (bh 0)) (.seq (.ret (bI .tup (.comp [0] 3 (.one 2) (.eO bq) .no (.call 22 (fk aM))) bz)) .pass) .pass) (.seq (.ifs (dS .Eq cx (bh 4)) (.seq (.set 3 (bI (.bin .Add) (bh 1) (.call 4 (dC aM (bh 6))))) .pass) .pass) (.seq (.set 5 (.ite (dS .Eq cx (bh 4)) (.call 25 (dC aM bq)) (.call 24 (gJ aM bq bz)))) (.seq (.set 5 (.comp [5] 3 (.one 2) (.eY (.call 21 (dC aM (dj .jf bq)))) .no (cR aM bq))) (.seq (.ifs (.dA (dS .Eq cx (bh 1)) (dS .Gt bq (bh 0))) (.seq (.set 6 (.call 4 (dC aM bq))) (.seq (.set 7 (cR dY eB)) (.seq (.set 8 (cR dY (.call 4 (dC aM bq)))) (.seq (.eM dY eB (.prim .tup (si (cR gL (bh 0)) (cR mh (bh 1)) (cR mh (bh 2)) (cR gL (bh 3)) (cR (.prim .lst (gJ (cR gL (bh 4)) (cR mh (bh 4)) (bh 9999))) (.call 4 (dC aM (bh 3))))))) .pass)))) .pass) (.seq (.ifs (dS .Eq cx (bh 2)) (.seq (.set 3 (bh 1)) .pass) .pass) (.seq (.ret (bI .tup dY bz)) .pass))))))))))⟩
theorem JV{p:Int->Prop}:∀{l:List D},(∀x∈l,∃i:Int,x=.int i/\p i)->∃ns:List Int,l=ns.map .int/\∀i∈ns,p i
 |[],_=>⟨[],rfl,by simp⟩
 |x::r,h=>by
  obtain⟨i,rfl,hi⟩:=h x (by simp);obtain⟨ns,rfl,hn⟩:=JV (l:=r) λy hy=>h y (by simp[hy]);exact⟨i::ns,rfl,λj hj=>(aI.mp hj).elim (λz=>z▸hi) (hn j)⟩
theorem Kg{lo:Int}(h:x∈j6 lo n):∃i:Int,x=.int i/\lo<=i/\i<lo+n:=by
 obtain⟨k,hk,rfl⟩:=aH.mp h;exact⟨_,rfl,by omega,by have:=aX.mp hk;omega⟩
theorem DH{l:List α}(h:n<=l.length):cut l none (some (n:Int))=l.take n:=by
 have:¬((n:Int)<0):=by omega
 unfold cut HT.jM;simp[this]
theorem SX{r:Int}(h0:0<=r)(h1:r<ns.length):∃i∈ns,gs (ns.map D.int) r=some (.int i):=by
 obtain⟨v,hv,hm⟩:=J1 (l:=ns.map D.int) h0 (by simpa using h1);obtain⟨i,hi,rfl⟩:=aH.mp hm;exact⟨i,hi,hv⟩
theorem Cg{r:Int}(h0:0<=r)(h1:r<cs.length):∃c∈cs,gs (cs.map a9.d) r=some c.d:=by
 obtain⟨v,hv,hm⟩:=J1 (l:=cs.map a9.d) h0 (by simpa using h1);obtain⟨i,hi,rfl⟩:=aH.mp hm;exact⟨i,hi,hv⟩
section
variable{T:Nat->Option aY}{d:Nat}
theorem Zb(h4:T 4=some E0)(AF:T 21=some Q9)(Ou:T 25=some yK){n:Int}(hn:0<=n/\n<=100)(D0:j4 g d)(h:∀(cs:List a9) a g',(cs.length:Int)=n->(∀c∈cs,jH c)->g'[a]?=some (.lst (cs.map a9.d))->g.length<=a->j4 g' d->Gr d g g'->Q (.ref a) g'):b8 T (k+3) 25 [.ref d,.int n] g Q E:=by
 refine call_of Ou rfl ?_;dsimp[yK,c7,List.replicate];have dl:=D0.lt;left;refine ML (i:=1) (j:=n / 2+n % 2+1) () ?_;left;have hh:∃hf:Nat,(n / 2+n % 2+1-1).toNat=hf/\(hf:Int)=n / 2+n % 2/\hf<=50:=⟨_,rfl,by omega,by omega⟩
 obtain⟨hf,Ap,FP,oH⟩:=hh;rw[Ap];have e1:(g++[O.lst (j6 1 hf)])[g.length]?=some (.lst (j6 1 hf)):=b0;refine Je h4 AF e1 (by rw[j9];omega) () (D0.snoc _) λl' b g2 hp e2 hb D2 G2=>?_;have lM:=G2.at () e1;left;refine wx (a7 e2) ?_;have hle:l'.length=hf:=by rw[hp.length_eq,j9]
 have hc:cut l' none (some (n / 2))=l'.take (n / 2).toNat:=by
  have:=DH (l:=l') (n:=(n / 2).toNat) ()
  rwa [show(((n / 2).toNat:Nat):Int)=n / 2 by omega] at this
 rw[hc];refine yb (n8 lM) b0 (by rw[j9,cM];omega) ?_;obtain⟨rl,er,hr⟩:=JV (p:=λi=>1<=i/\i<=50) (l:=j6 1 hf++l'.take (n / 2).toNat) λx hx=>by
  have xu:x∈j6 1 hf:=by
   rcases aR.mp hx with z|z
   ·exact z
   ·exact hp.mem_iff.mp (du z)
  obtain⟨i,rfl,h1,h2⟩:=Kg xu;exact⟨i,rfl,h1,by omega⟩
 have hrl:(rl.length:Int)=n:=by
  have:=ie List.length er;rw[bE,j9,cM,ai] at this;omega
 rw[er];have D3:=(D2.snoc (.lst (l'.take (n / 2).toNat))).snoc (.lst (rl.map D.int));have G3:=(Gr.snoc d g (.lst (j6 1 hf))).trans (G2.trans ((Gr.snoc d g2 (.lst (l'.take (n / 2).toNat))).trans (Gr.snoc d _ (.lst (rl.map D.int)))));have e3:(g2++[O.lst (l'.take (n / 2).toNat)]++[O.lst (rl.map D.int)])[(g2++[O.lst (l'.take (n / 2).toNat)]).length]?=some (.lst (rl.map D.int)):=b0;have l3:g.length+1<=(g2++[O.lst (l'.take (n / 2).toNat)]).length:=by have:=G2.len;simp at this ⊢;omega
 generalize (g2++[O.lst (l'.take (n / 2).toNat)]).length=ER at *;left;refine f9 h4 D3 ∅ ∅ λr4 g4 qq sA D4 G4=>?_;have e4:=G4.at () e3;left;have Lz:=G3.trans G4;have l4:=Lz.len;have e5:(g4++[O.lst []])[g4.length]?=some (.lst ([].map a9.d)):=b0;have Fl:=n4 e4;refine u9 (a8 T _) (U2 (a8 T _) ?_);left;refine ⟨by omega,by omega,j6 0 n.toNat,λi U g'=>∃ cs z6 z7,U=[some (.ref d),some (.int n),some (.ref g.length),some (.ref ER),some (.int r4),some (.ref g4.length),z6,z7]/\cs.length=i/\(∀ c ∈ cs,jH c)/\g'[g4.length]?=some (.lst (cs.map a9.d))/\g'[ER]?=some (.lst (rl.map D.int))/\j4 g' d/\Gr d g g',
  λ_ _ _ _=>u7,⟨[],none,none,rfl,rfl,by simp,e5,n8 e4,D4.snoc _,Lz.trans (Gr.snoc _ _ _)⟩,λi x U g' hx p=>?_,λU g' p=>?_⟩
 ·obtain⟨cs,z6,z7,rfl,hc,hg,ef,erw,D',G'⟩:=p;obtain⟨hi,rfl⟩:=x6 hx;left;refine P9 (DG ∅ ∅) ?_;left;refine xZ ⟨by split<;>omega,by split<;>omega⟩ ?_;left;obtain⟨yv,hy,zQ⟩:∃yv:Int,gs [D.int (1000+(0+(i:Int))),D.int 0,D.int (1+2*(0+(i:Int)) / (if n>1 then n else 1))] r4=some (.int yv)/\0<=yv/\yv<=9999:=by
   have dv0:0<=2*(0+(i:Int)) / (if n>1 then n else 1):=Int.ediv_nonneg () (by split<;>omega);have dv1:2*(0+(i:Int)) / (if n>1 then n else 1)<=2*(0+(i:Int)):=Int.ediv_le_self _ ();have:r4=0\/r4=1\/r4=2:=by omega
   rcases this with rfl|rfl|rfl
   ·exact⟨_,rfl,by omega,by(clear dl Ap oH hb l3 l4 Fl hc qq sA;omega)⟩
   ·exact⟨_,rfl,by omega,by omega⟩
   ·exact⟨_,rfl,by omega,by omega⟩
  refine m8 (a7 b0) hy ?_;left;obtain⟨lo,vg,Ah⟩:=SX (ns:=rl) (r:=0+(i:Int)) () (by(clear hn dl Ap oH hb l3 qq sA l4 Fl zQ;omega));refine And.intro (Jz (n8 ef)) ?_;left;refine m8 (a7 (n8 erw)) Ah ?_;left;refine f9 h4 (D'.snoc _) ∅ ∅ λr6 g6 EV EU D6 G6=>?_;have xU:=G6.at () (n8 ef);have OU:=G6.at () (n8 erw);left;refine P5 xU (by simp;omega) ?_;have hlb:=hr lo vg;refine⟨cs++[⟨lo,[],1+r6,[],yv⟩],_,_,rfl,by simp[hc],?_,?_,d5 OU (),D6.I0 (),(G'.trans ((Gr.snoc _ _ _).trans G6)).I0 ()⟩
  ·intro c jq;rcases aR.mp jq with z|z
   ·exact hg c z
   ·simp at z;subst z;exact jH.mk' () () () () zQ.1 zQ.2 rfl rfl (by simp) (by simp)
  ·rw[get_set xU];simp[a9.d]
 ·obtain⟨cs,z6,z7,rfl,hc,hg,ef,erw,D',G'⟩:=p;left;rw[j9] at hc;exact h cs _ _ () hg ef () D' G'
end
section
variable{T:Nat->Option aY}{d:Nat}
structure LF(T:Nat->Option aY):Prop where
 pull:T 4=some E0
 order:T 21=some Q9
 any:T 22=some Z1
 qm:T 23=some E9
 qk:T 24=some J7
 opened:T 25=some yK
 list:T 26=some P6
theorem ZK(hT:LF T){n:Int}(hn:0<=n/\n<=99)(D0:j4 g d)(h:∀(cs:List a9) a (v:Int) g',(cs.length:Int)<=n->(∀c∈cs,jH c)->g'[a]?=some (.lst (cs.map a9.d))->g.length<=a->1<=v->v<=6->j4 g' d->Gr d g g'->Q (.tup [.ref a,.int v]) g'):b8 T (k+4) 26 [.ref d,.int n] g Q E:=by
 refine call_of hT.list rfl ?_;dsimp[P6,c7,List.replicate];have dl:=D0.lt;left;refine f9 (n:=n+1) hT.pull D0 () () λm g1 m0 m1 D1 G1=>?_;left;refine f9 hT.pull D1 ∅ ∅ λr2 g2 iF iE D2 G2=>?_;left;refine f9 hT.pull D2 ∅ ∅ λway g3 w0 w1 D3 G3=>?_;have zb:=G1.trans (G2.trans G3);have l3:=zb.len;left;refine if2 (λc=>?_) (λc=>?_)
 ·left;refine F5 (a8 T _) (U2 (a8 T _) ?_);left;refine⟨by omega,by omega,j6 0 m.toNat,λi ys U g'=>∃cs z1 z2,ys=cs.map a9.d/\cs.length=i/\(∀c∈cs,jH c)/\U=[some (.ref d),z1,z2]/\j4 g' d/\Gr d g g',by rw[j9];omega,λi ys U g' p=>⟨u7,?_⟩,⟨[],none,none,rfl,rfl,by simp,rfl,D3,zb⟩,λi x ys U g' hx p=>?_,λys U g' p=>?_⟩
  ·obtain⟨cs,z1,z2,rfl,hc,_⟩:=p;simp[hc]
  ·obtain⟨cs,z1,z2,rfl,hc,hg,rfl,D',G'⟩:=p;left;refine aG2 hT.pull hT.any D' λc0 g4 gc D4 G4=>?_;refine⟨cs++[c0],_,_,by simp,by simp[hc],λc1 qS=>?_,rfl,D4,G'.trans G4⟩;rcases aR.mp qS with z|z
   ·exact hg c1 z
   ·simp at z;subst z;exact gc
  ·obtain⟨cs,z1,z2,rfl,hc,hg,rfl,D',G'⟩:=p;rw[j9] at hc;left;exact h cs _ _ _ () hg b0 G'.len () () (D'.snoc _) (G'.trans (Gr.snoc _ _ _))
 have tail:∀(v:Int) (g4:G),1<=v->v<=6->j4 g4 d->Gr d g g4->wpS (b8 T (k+3)) (j5 (j5 (j5 (j5 (j5 P6.body))))) ⟨λ_ g'=>Q .bR g',Q,λ_ _=>False,λ_ _=>False⟩ [some (.ref d),some (.int n),some (.int m),some (.int v),some (.int way),none,none,none,none] g4 E:=by
  intro v g4 v0 v1 D4 G4;dsimp[P6,j5];have after:∀(cs:List a9) a g5,(cs.length:Int)=m->(∀c∈cs,jH c)->g5[a]?=some (.lst (cs.map a9.d))->g4.length<=a->j4 g5 d->Gr d g4 g5->wpS (b8 T (k+3)) (j5 (j5 (j5 (j5 (j5 (j5 P6.body)))))) ⟨λ_ g'=>Q .bR g',Q,λ_ _=>False,λ_ _=>False⟩ [some (.ref d),some (.int n),some (.int m),some (.int v),some (.int way),some (.ref a),none,none,none] g5 E:=by
   intro cs a g5 hc hg ea la D5 G5;have Ly:=G4.trans G5;have l4:=G4.len;dsimp[P6,j5];left;refine F5 (a8 T _) (ky (a8 T _) ?_);left;refine zJ () () ?_;left;have e6:(g5++[O.lst (j6 0 m.toNat)])[g5.length]?=some (.lst (j6 0 m.toNat)):=b0;have l5:=D5.lt;refine Je hT.pull hT.order e6 (by rw[j9];omega) () (D5.snoc _) λl' b g7 hp eb lb D7 G7=>?_;have OX:=G7.at () (n8 ea);have Ak:l'.length=m.toNat:=by rw[hp.length_eq,j9]
   refine⟨b,l',rfl,a7 eb,l',λi ys U g'=>∃ka z1 z2,ys=ka.map a9.d/\ka.length=i/\(∀c∈ka,jH c)/\U=[some (.ref a),z1,z2]/\g'=g7,by omega,λi ys U g' p=>?_,⟨[],none,none,rfl,rfl,by simp,rfl,rfl⟩,λi x ys U g' hx p=>?_,λys U g' p=>?_⟩
   ·obtain⟨ka,z1,z2,rfl,jq,_,_,rfl⟩:=p;exact⟨k4 (a7 eb),by simp[jq]⟩
   ·obtain⟨ka,z1,z2,rfl,jq,oI,rfl,rfl⟩:=p;obtain⟨j,rfl,j0,j1⟩:=Kg (hp.mem_iff.mp (aF hx));left;obtain⟨c0,xI,e0⟩:=Cg (cs:=cs) j0 ();refine m8 (a7 OX) e0 ?_;refine⟨ka++[c0],_,_,by simp,by simp[jq],λc1 qS=>?_,rfl,rfl⟩;rcases aR.mp qS with z|z
    ·exact oI c1 z
    ·simp at z;subst z;exact hg c1 xI
   ·obtain⟨ka,z1,z2,rfl,jq,oI,rfl,rfl⟩:=p;have e8:(g'++[O.lst (ka.map a9.d)])[g'.length]?=some (.lst (ka.map a9.d)):=b0;have D8:=D7.snoc (.lst (ka.map a9.d));have G8:=(Ly.trans ((Gr.snoc d g5 (.lst (j6 0 m.toNat))).trans G7)).trans (Gr.snoc d g' (.lst (ka.map a9.d)));have l8:g.length<=g'.length:=(Ly.trans ((Gr.snoc d g5 (.lst (j6 0 m.toNat))).trans G7)).len;have fin:∀(tB:List a9) z6 z7 z8 g9,(tB.length:Int)=m->(∀c∈tB,jH c)->g9[g'.length]?=some (.lst (tB.map a9.d))->j4 g9 d->Gr d g g9->wpS (b8 T (k+3)) (j5 (j5 (j5 (j5 (j5 (j5 (j5 (j5 P6.body)))))))) ⟨λ_ g'=>Q .bR g',Q,λ_ _=>False,λ_ _=>False⟩ [some (.ref d),some (.int n),some (.int m),some (.int v),some (.int way),some (.ref g'.length),z6,z7,z8] g9 E:=by
     intro tB z6 z7 z8 g9 Gd FR e9 D9 G9;dsimp[P6,j5];left;refine if2 (λc=>?_) (λc=>?_)
     ·left;exact h tB _ _ _ () FR e9 l8 () () D9 G9
     ·left;exact h tB _ _ _ () FR e9 l8 v0 v1 D9 G9
    have og:(ka.length:Int)=m:=by omega
    have zL:=D7.lt;left;refine if2 (λc1=>?_) (λc1=>?_)
    ·left;refine if2 (λc2=>?_) (λc2=>?_)
     ·left;refine f9 (n:=m) hT.pull D8 c2 () λr g9 r0 r1 D9 G9=>?_;have e9:=G9.at () e8;obtain⟨c0,xI,e0⟩:=Cg (cs:=ka) r0 (by(clear hn dl m0 m1 iF iE w0 w1 l3 c v0 v1 la l4 l5 lb Ak jq l8 zL c1 c2 r0;omega));left;refine m8 (a7 e9) e0 ?_;left;refine f9 (n:=m) hT.pull D9 c2 () λr' nL zA Mu Ep tV=>?_;have lN:=tV.at () e9;obtain⟨c3,xH,e3⟩:=Cg (cs:=ka) zA (by(clear hn dl m0 m1 iF iE w0 w1 l3 c v0 v1 la l4 l5 lb Ak jq l8 zL c1 c2 r0 r1 zA;omega));refine m8 (a7 lN) e3 ?_;dsimp only[a9.d];left;refine f9 hT.pull (Ep.snoc _) ∅ ∅ λr'' GC uB zz D11 Em=>?_;have MO:=Ep.lt;have vM:=Em.at () (b0 (g:=nL) (o:=.lst [.int c0.yr,.int c3.yr,.int 9999]));have vN:=Em.at () (n8 (o':=.lst [.int c0.yr,.int c3.yr,.int 9999]) lN);obtain⟨x,hx,hm⟩:=J1 (l:=[D.int c0.yr,.int c3.yr,.int 9999]) uB ();obtain⟨a1,a2,a3,a4,a5,a6⟩:=(oI c0 xI).inv;obtain⟨b1,b2,b3,b4,b5,b6⟩:=(oI c3 xH).inv;have hy:∃y:Int,x=.int y/\0<=y/\y<=9999:=by
       simp only[List.mem_cons,List.mem_nil_iff,or_false] at hm;rcases hm with rfl|rfl|rfl
       ·exact⟨_,rfl,a5,a6⟩
       ·exact⟨_,rfl,b5,b6⟩
       ·exact⟨_,rfl,by decide,by decide⟩
      obtain⟨y,rfl,y0,y1⟩:=hy;refine m8 (a7 vM) hx ?_;left;have hj:kY (ka.map a9.d).length r=some r.toNat:=by
       unfold kY;rw[aJ r0,aJ (by rw[ai];(clear hn dl m0 m1 iF iE w0 w1 l3 c v0 v1 la l4 l5 lb Ak jq l8 zL c1 c2 r0 zA Mu uB zz MO a1 a3 a5 a6 b1 b3 b5 b6 y0 y1;omega))]
      refine R6 vN hj ?_;have gr:jH ⟨c0.lo,c3.lm,c3.up,c0.um,y⟩:=jH.mk' a1.1 a1.2 b3.1 b3.2 y0 y1 b2 a4 (oI c3 xH).l8 (oI c0 xI).u8;refine fin (ka.set r.toNat ⟨c0.lo,c3.lm,c3.up,c0.um,y⟩) _ _ _ _ (by simp;omega) (λc4 NQ=>?_) ?_ (D11.I0 ()) ((G8.trans (G9.trans (tV.trans ((Gr.snoc _ _ _).trans Em)))).I0 l8)
      ·rcases pq NQ with z|z
       ·exact oI c4 z
       ·rw[z];exact gr
      ·rw[get_set vN,List.map_set]
       rfl
     ·refine Q7 ?_;exact fin ka _ _ _ _ og oI e8 D8 G8
    ·exact fin ka _ _ _ _ og oI e8 D8 G8
  left;refine if2 (λc=>?_) (λc=>?_)
  ·left;refine Zb hT.pull hT.order hT.opened ⟨m0,by omega⟩ D4 λcs a g5 hc hg ea la D5 G5=>?_;exact after cs a g5 hc hg ea la D5 G5
  ·left;refine Zt hT.pull hT.qm hT.qk ⟨m0,by omega⟩ ⟨v0,by omega⟩ D4 λcs a g5 hc hg ea la D5 G5=>?_;exact after cs a g5 hc hg ea la D5 G5
 left;refine if2 (λc=>?_) (λc=>?_)
 ·left;refine f9 hT.pull D3 ∅ ∅ λr4 g4 qq sA D4 G4=>?_;walk_at "w1";exact tail _ _ () () D4 (zb.trans G4)
 ·refine Q7 ?_;exact tail _ _ () () D3 zb
end
def E3:aY:=⟨1,1,(.seq (.ifs (.dQ (.fG (.call 1 (gJ aM (bh 1) (bh 9))))) (.seq (.expr .no) .pass) .pass) .pass)⟩
def yM:aY:=⟨2,2,(.seq (.ret (dj .all (.comp [1] 3 (.one 2) (.eY aM) .no (bI (.cmp .In) bq aM)))) .pass)⟩
def Z0:aY:=⟨1,1,(.seq (.ifs (.dQ (.fG (.call 12 (fk aM)))) (.seq (.expr .no) .pass) .pass) .pass)⟩
def T9:aY:=⟨1,2,(.seq (.ifs (dS .Gt (dj .len aM) (bh 9)) (.seq (.expr .no) .pass) .pass) (.seq (.dM (.one 1) (.eY aM) (.seq (.expr (.call 39 (fk bj))) .pass)) .pass))⟩
def P7:aY:=⟨1,1,(.seq (.ifs (dS .NotIn aM (.lit (.tup [(.str "lower"),(.str "upper")]))) (.seq (.expr .no) .pass) .pass) .pass)⟩
def CD:aY:=⟨1,1,(.seq (.expr (.call 40 (fk aM))) (.seq (.ret (bI .nK (.lit (.tup [(.tup [(.str "lower"),(.int 0)]),(.tup [(.str "upper"),(.int 2)])])) aM)) .pass))⟩
noncomputable abbrev LB(T:Nat->Option aY):Prop:=T 18=some T9/\T 39=some Z0
noncomputable abbrev Eo(T:Nat->Option aY):Prop:=T 19=some CD/\T 40=some P7
def Y4:aY:=⟨2,2,(.seq (.ret (bI (.cmp .Eq) (dj .len (.comp [1] 3 (.one 2) (.eY aM) (dS .NotIn bq aM) bq)) (bh 0))) .pass)⟩
structure Ex(g g':G):Prop where
 len:g.length<=g'.length
 old:∀i,i<g.length->g'[i]?=g[i]?
theorem Ex.refl(g:G):Ex g g:=⟨av _,λ_ _=>rfl⟩
theorem Ex.trans{g g1 g2:G}(a:Ex g g1)(b:Ex g1 g2):Ex g g2:=⟨aC a.len b.len,λi h=>(b.old i (ay h a.len)).trans (a.old i h)⟩
theorem Ex.snoc(g:G)(o:O):Ex g (g++[o]):=⟨by simp,λi h=>aL h⟩
theorem Ex.at(h:Ex g g')(e:g[i]?=some o):g'[i]?=some o:=(h.old i (n4 e)).trans e
theorem Ex.gr(h:Ex g g')(d:Nat):Gr d g g':=⟨h.len,λi _ h2=>h.old i h2⟩
theorem Ex.draw{d:Nat}(h:Ex g g')(D0:j4 g d):j4 g' d:=by
 obtain⟨s,p,b,r,xs,e1,e2,q⟩:=D0.ex;exact⟨s,p,b,r,xs,h.at e1,h.at e2,q⟩
section
variable{T:Nat->Option aY}
theorem DQ(h6:T 6=some yV){i:Int}(h:Q (.bl true) g):b8 T (k+1) 6 [.int i] g Q E:=by
 refine call_of h6 rfl ?_;dsimp[yV,c7,List.replicate];left;refine qE (c:="int") (b:=true) ∅ rfl ?_;left;refine qE (c:="bool") (b:=false) ∅ rfl ?_;left;exact h
end
def jD(a b:List Int):Bool:=a.all λs=>b.any λm=>m==s
section
variable{T:Nat->Option aY}{d:Nat}
theorem Ir(xQ:T 15=some yM){a b:List Int}(ha:a.length<=1000)(h:∀g',Ex g g'->Q (.bl (jD a b)) g'):b8 T (k+1) 15 [.tup (a.map .int),.tup (b.map .int)] g Q E:=by
 refine call_of xQ rfl ?_;dsimp[yM,c7,List.replicate];left;refine F5 (a8 T _) (vb (a8 T _) ?_);left;refine⟨_,rfl,_,λi ys U g'=>∃z w,ys=((a.take i).map λs=>b.any λm=>m==s).map D.bl/\U=[some (.tup (b.map .int)),z,w]/\g'=g,by simpa using ha,λi ys U g' p=>⟨u7,?_⟩,⟨none,none,rfl,rfl,rfl⟩,λi x ys U g' hx p=>?_,λys U g' p=>?_⟩
 ·obtain⟨z,w,rfl,_⟩:=p;simp;omega
 ·obtain⟨z,w,rfl,rfl,rfl⟩:=p;rw[ag,aa] at hx;obtain⟨s,hs,rfl⟩:=hx;left;refine tG (Cz ?_);refine⟨_,_,?_,rfl,rfl⟩;rw[bu,hs];simp
 ·obtain⟨z,w,rfl,rfl,rfl⟩:=p;refine ya (a7 b0) (T2 _) ?_;have e:((a.take (a.map D.int).length).map λs=>b.any λm=>m==s).all id=jD a b:=by
   simp[jD,List.all_map]
  rw[e];exact h _ (Ex.snoc _ _)
theorem ZL(AG:T 17=some Y4){a b:List Int}(ha:a.length<=1000)(h:∀g',Ex g g'->Q (.bl (jD a b)) g'):b8 T (k+1) 17 [.tup (a.map .int),.tup (b.map .int)] g Q E:=by
 refine call_of AG rfl ?_;dsimp[Y4,c7,List.replicate];left;refine F5 (a8 T _) (vb (a8 T _) ?_);left;refine⟨_,rfl,_,λi ys U g'=>∃z w,ys=((a.take i).filter λs=>!(b.any λm=>m==s)).map D.int/\ys.length<=i/\U=[some (.tup (b.map .int)),z,w]/\g'=g,by simpa using ha,λi ys U g' p=>⟨u7,?_⟩,⟨none,none,rfl,by simp,rfl,rfl⟩,λi x ys U g' hx p=>?_,λys U g' p=>?_⟩
 ·obtain⟨z,w,_,h1,_⟩:=p;exact h1
 ·obtain⟨z,w,e,hl,rfl,rfl⟩:=p;rw[ag,aa] at hx;obtain⟨s,hs,rfl⟩:=hx;left;refine T1 (Cz ?_);left;cases hc:(b.any λm=>m==s) with
  |true =>
   refine pY ⟨_,_,?_,by omega,rfl,rfl⟩;rw[bu,hs,e];simp[hc]
  |false =>
   refine mj (w_var rfl ⟨_,_,?_,by simp;omega,rfl,rfl⟩);rw[bu,hs,e];simp[hc]
 ·obtain⟨z,w,e,hl,rfl,rfl⟩:=p;rw[ai,bY] at e;refine C4 (a7 b0) ?_;left;have e2:decide ((ys.length:Int)=0)=jD a b:=by
   rw[e,ai,aU,bD];unfold jD;rw[cN];constructor
   ·intro h0 s hs;have h1:(a.filter λs=>!(b.any λm=>m==s))=[]:=dN ();rw[uc] at h1;have:=h1 s hs;simpa using this
   ·intro h0;have h1:(a.filter λs=>!(b.any λm=>m==s))=[]:=by
     rw[uc];intro s hs;simpa using h0 s hs
    rw[h1]
    rfl
  rw[e2];exact h _ (Ex.snoc _ _)
theorem a47{x:Str}(hx:PyData.strOk x=true)(h:kb (decide (x="lower")||decide (x="upper"))):qG g (.str x) (.tup [.str "lower",.str "upper"]) kb:=by
 refine⟨_,.inr ⟨_,[.str "lower",.str "upper"],.str x,rfl,rfl,rfl,by decide +kernel,by exact hx,rfl⟩,?_⟩;have e:∀y:Str,PyData.eqv (.str y) (.str x)=decide (x=y):=λy=>by
  simp only[PyData.eqv];rw[aU,br,bD];exact eq_comm
 simp only[List.any_cons,List.any_nil,Bool.or_false,e];exact h
theorem XB(Ot:T 40=some P7){x:Str}(ho:PyData.strOk x=true)(h1:x="lower"\/x="upper"->Q .bR g)(h3:x≠"lower"->x≠"upper"->False):b8 T (k+1) 40 [.str x] g Q E:=by
 refine call_of Ot rfl ?_;dsimp[P7,c7,List.replicate];left;refine T1 (a47 ho ?_);left;by_cases e:x="lower"\/x="upper"
 ·refine fj (by rw[Bool.not_eq_false',dh,bD,bD];exact e) ?_;left;exact h1 e
 ·refine gb (by rw[kS,Bool.or_eq_false_iff,cT,cT];exact not_or.mp e) ?_;left;exact h3 (λz=>e (.inl z)) (λz=>e (.inr z))
theorem E7(lK:Eo T){x:Str}(ho:PyData.strOk x=true)(h1:x="lower"->Q (.int 0) g)(h2:x="upper"->Q (.int 2) g)(h3:x≠"lower"->x≠"upper"->False):b8 T (k+2) 19 [.str x] g Q E:=by
 refine call_of lK.1 rfl ?_;dsimp[CD,c7,List.replicate];left;refine XB lK.2 ho (λhx=>?_) h3;left;by_cases e1:x="lower"
 ·have el:M7 [.tup [.str "lower",.int 0],.tup [.str "upper",.int 2]] x=some (.int 0):=by simp[M7,e1]
  refine KS el ?_;exact h1 e1
 ·have e2:x="upper":=hx.resolve_left e1;have el:M7 [.tup [.str "lower",.int 0],.tup [.str "upper",.int 2]] x=some (.int 2):=by simp[M7,e1];simp[e2]
  refine KS el ?_;exact h2 e2
def CB(c:a9):Prop:=c.lm.length<=8/\c.um.length<=8
theorem W6(h1:NF T)(h2:T 2=some K5)(sX:T 12=some B0)(vF:LB T)(ha:g[a]?=some (.lst (cs.map a9.d)))(hz:cs.length<=1000)(hm:9<cs.length->False)(hb:cs.length<=9->cs.all q9=false->False)(h:cs.length<=9->cs.all q9=true->Q .bR g):b8 T (k+6) 18 [.ref a] g Q E:=by
 refine call_of vF.1 rfl ?_;dsimp[T9,c7,List.replicate];left;rw[ai];refine if2 (λc=>?_) (λc=>?_)
 ·left;exact hm ()
 have h9:cs.length<=9:=by omega
 left;refine u9 (a8 T _) (ky (a8 T _) ?_);left;refine⟨a,_,rfl,a7 ha,cs.map a9.d,λi U g'=>∃z,U=[some (.ref a),z]/\g'=g/\(cs.take i).all q9=true,λi U g' p=>?_,⟨none,rfl,rfl,by simp⟩,λi x U g' hx p=>?_,λU g' p=>?_⟩
 ·obtain⟨z,rfl,rfl,_⟩:=p;exact k4 (a7 ha)
 ·obtain⟨z,rfl,rfl,hg⟩:=p;rw[ag,aa] at hx;obtain⟨c,hc,rfl⟩:=hx;refine i6 ?_
  try show wpS _ _ _ _ _ _
  left;refine call_of vF.2 rfl ?_;dsimp[Z0,c7,List.replicate];left;refine aC2 h1 h2 sX ?_;left;cases e:q9 c with
  |true =>
   left;refine⟨_,rfl,rfl,?_⟩;rw[bu,hc];simp[hg,e]
  |false =>
   refine Hg ?_;left;refine hb h9 ?_;rw[List.all_eq_false];exact⟨c,aF hc,by rw[e];decide⟩
 ·obtain⟨z,rfl,rfl,hg⟩:=p;rw[ai,bY] at hg;exact h h9 hg
end
def A3(f:Int)(c:a9):Int:=if f=0 then c.lo else c.up
def rP(f:Int)(c:a9):List Int:=if f=0 then c.lm else c.um
theorem CB.MG{c:a9}(h:CB c)(f:Int):(rP f c).length<=1000:=by
 unfold rP;split
 ·have:=h.1;omega
 ·have:=h.2;omega
theorem L1(hf:f=0\/f=2)(c:a9):gs [D.int c.lo,D.tup (c.lm.map .int),D.int c.up,D.tup (c.um.map .int),D.int c.yr] f=some (.int (A3 f c)):=by
 rcases hf with rfl|rfl<;>rfl
theorem Ju(hf:f=0\/f=2)(c:a9):gs [D.int c.lo,D.tup (c.lm.map .int),D.int c.up,D.tup (c.um.map .int),D.int c.yr] (f+1)=some (.tup ((rP f c).map .int)):=by
 rcases hf with rfl|rfl<;>rfl
def cD:a9:=⟨0,[],0,[],0⟩
noncomputable abbrev bV(cs:List a9)(i:Nat):a9:=cs.getD i cD
theorem C0{c:a9}(h:cs[i]?=some c):bV cs i=c:=by simp[bV,List.getD,h]
inductive RW where
 |fQ|lower|upper
def RW.s:RW->Str
 |.fQ=>"coin"
 |.lower=>"lower"
 |.upper=>"upper"
structure eP where
 w:RW
 x:Int
 y:Int
def eP.d(r:eP):D:=.tup [.str r.w.s,.int r.x,.int r.y]
def meant(cs:List a9)(w:RW)(x:Int)(i:Nat):Bool:=match w with
 |.fQ=>decide ((i:Int)=x)
 |.lower=>decide ((bV cs i).lo=x)
 |.upper=>decide ((bV cs i).up=x)
def jE(cs:List a9)(w:RW)(x:Int):List Nat:=(List.range cs.length).filter (meant cs w x)
def b7(l:List Nat):List D:=l.map λ(i:Nat)=>D.int i
def pC(l:List Nat):Nat:=(l.map (2 ^ ·)).sum
def iC(n:Nat)(p:Nat->Bool):Nat:=pC ((List.range n).filter p)
theorem HG(n:Nat)(p:Nat->Bool):iC (n+1) p=iC n p+if p n=true then 2 ^ n else 0:=by
 unfold iC pC;rw[fb,fh,dX,List.sum_append];cases h:p n<;>simp[List.filter_cons,h]
theorem Sn(n:Nat)(p:Nat->Bool):iC n p<2 ^ n:=by
 induction n with
 |zero=>simp[iC,pC]
 |succ n ih =>
  rw[HG,Nat.pow_succ];split<;>omega
theorem Kl(n:Nat)(p:Nat->Bool)(i:Nat):(iC n p).testBit i=(decide (i<n)&&p i):=by
 induction n with
 |zero=>simp[iC,pC]
 |succ n ih =>
  have hl:=Sn n p;rw[HG];by_cases hp:p n=true
  ·rw[aJ hp,Nat.add_comm];rcases fq i n with h|h|h
   ·rw[Nat.testBit_two_pow_add_gt h,ih,aw h,aw ()]
   ·subst h;rw[Nat.testBit_two_pow_add_eq,ih];simp[hp]
   ·rw[Nat.testBit_lt_two_pow (ay (show 2 ^ n+iC n p<2 ^ (n+1) by omega) (js () h)),aE ()]
    rfl
  ·rw[aD hp,Nat.add_zero,ih];by_cases h:i=n
   ·subst h;simp[hp]
   ·rw[show decide (i<n)=decide (i<n+1) from cW.mpr ()]
theorem BL(a b:Nat):Builtin.bitAnd (a:Int) (b:Int)=((a &&& b:Nat):Int):=by
 rfl
theorem Rk(a b:Nat):Builtin.bitOr (a:Int) (b:Int)=((a |||b:Nat):Int):=by
 unfold Builtin.bitOr Builtin.bitAnd;have h1:∀x:Nat,decide (0<=Builtin.bitNot (x:Int))=false:=λx=>by unfold Builtin.bitNot;exact aE ()
 have h2:∀x:Nat,Builtin.bitNot (Builtin.bitNot (x:Int))=x:=λx=>by unfold Builtin.bitNot;omega
 rw[h1,h1];simp only[h2];simp
theorem Qm(a b:Nat):((a &&& b:Nat)≠0)↔∃i,a.testBit i=true/\b.testBit i=true:=by
 constructor
 ·intro h;obtain⟨i,hi⟩:=Nat.exists_testBit_of_ne_zero h;rw[Nat.testBit_and,aT] at hi;exact⟨i,hi⟩
 ·rintro⟨i,h1,h2⟩ e;have:(a &&& b).testBit i=true:=by rw[Nat.testBit_and,h1,h2];rfl
  rw[e,Nat.zero_testBit] at this;cases this
theorem yH(s n:Nat)(p:Nat->Bool):((((s &&& iC n p:Nat):Int) != 0)=(List.range n).any λi=>s.testBit i&&p i):=by
 rw[aU,bne_iff_ne,aV];have:(((s &&& iC n p:Nat):Int)≠0)↔((s &&& iC n p:Nat)≠0):=by omega
 rw[this,Qm];constructor
 ·rintro⟨i,h1,h2⟩;rw[Kl,aT,bL] at h2;exact⟨i,aX.mpr h2.1,by rw[h1,h2.2];rfl⟩
 ·rintro⟨i,h1,h2⟩;rw[aT] at h2;exact⟨i,h2.1,by rw[Kl,aw (aX.mp h1),h2.2];rfl⟩
def mw(a b:a9):Bool:=(decide (a.lo=b.lo)&&!jD a.lm b.lm)||(decide (a.up=b.up)&&!jD a.um b.um)
def kr(a b:a9):Bool:=decide (0<b.yr)&&decide (b.yr<a.yr)
def F9(cs:List a9)(S:Nat->Bool)(p:Nat):Bool:=(List.range cs.length).any λi=>S i&&mw (bV cs i) (bV cs p)
def F1(cs:List a9)(S:Nat->Bool)(p:Nat):Bool:=(List.range cs.length).any λi=>S i&&kr (bV cs i) (bV cs p)
def X3(cs:List a9)(S:Nat->Bool)(p:Nat)(d:Int):Bool :=
 ((List.range cs.length).any λi=>(S i||decide (i=p))&&decide ((bV cs i).lo=d))&&((List.range cs.length).any λi=>!S i&&decide ((bV cs i).lo=d))
def vY(cs:List a9)(S:Nat->Bool)(p:Nat):Nat:=((n5 (cs.map a9.lo)).filter (X3 cs S p)).length
def P1(cs:List a9)(rs:List eP)(S:Nat->Bool)(p:Nat):Bool:=rs.all λr=>!meant cs r.w r.y p||(List.range cs.length).any λi=>S i&&meant cs r.w r.x i
def fault(cs:List a9)(v:Int)(rs:List eP)(S:Nat->Bool)(p:Nat):Str :=
 if F9 cs S p=true then "wear" else if F1 cs S p=true then "year" else if v<vY cs S p then "anvil" else if P1 cs rs S p=true then "" else "rule"
def xT(x:Str):D:=if x="" then .bR else .str x
theorem aF5{S S':Nat->Bool}(h:∀i,i<cs.length->S i=S' i):fault cs v rs S p=fault cs v rs S' p:=by
 have a:∀f:Nat->Bool->Bool,((List.range cs.length).any λi=>f i (S i))=(List.range cs.length).any λi=>f i (S' i):=λf=>by
  rw[aU,aV,aV];constructor
  ·rintro⟨i,h1,h2⟩;exact⟨i,h1,by rw[<- h i (aX.mp h1)];exact h2⟩
  ·rintro⟨i,h1,h2⟩;exact⟨i,h1,by rw[h i (aX.mp h1)];exact h2⟩
 have b1:F9 cs S p=F9 cs S' p:=a λi t=>t&&mw (bV cs i) (bV cs p);have b2:F1 cs S p=F1 cs S' p:=a λi t=>t&&kr (bV cs i) (bV cs p);have b3:X3 cs S p=X3 cs S' p:=by
  funext d
  unfold X3;rw[a λi t=>(t||decide (i=p))&&decide ((bV cs i).lo=d),a λi t=>!t&&decide ((bV cs i).lo=d)]
 have b4:P1 cs rs S p=P1 cs rs S' p:=by
  unfold P1
  congr 1
  funext r
  rw[a λi t=>t&&meant cs r.w r.x i]
 unfold fault vY;rw[b1,b2,b3,b4]
def S1:aY:=⟨3,4,(.seq (.ifs (.dQ (.fG (.call 38 (fk bq)))) (.seq (.ret (.prim .lst .nil)) .pass) .pass) (.seq (.ifs (dS .Eq bj (iH "coin")) (.seq (.ret (.comp [2] 3 (.one 2) (.eO (dj .len aM)) (dS .Eq bq aM) bq)) .pass) .pass) (.seq (.set 3 (.call 19 (fk bj))) (.seq (.ret (.comp [3,2] 5 (.many [3,4]) (.kZ aM) (dS .Eq (cR cx aM) bj) bz)) .pass))))⟩
def BZ:aY:=⟨2,3,(.seq (.expr (.call 18 (fk aM))) (.seq (.set 2 (.call 19 (fk bj))) (.seq (.ret (.hJ [2] 3 (.one 2) (.eY aM) .no (cR bq aM))) .pass)))⟩
def CG:aY:=⟨2,5,(.seq (.lX (.many [2,3,4]) bj) (.seq (.ifs (.jd (dS .NotIn bq (.lit (.tup [(.str "coin"),(.str "lower"),(.str "upper")]))) (dS .Eq bz cx)) (.seq (.ret (.lit (.bl false))) .pass) .pass) (.seq (.ret (.dA (bI (.cmp .NotEq) (.call 74 (gJ aM bq bz)) (.prim .lst .nil)) (bI (.cmp .NotEq) (.call 74 (gJ aM bq cx)) (.prim .lst .nil)))) .pass)))⟩
def T8:aY:=⟨2,4,(.seq (.dM (.many [2,3]) (.kZ bj) (.seq (.ifs (.dQ (.fG (.call 88 (dC aM bz)))) (.seq (.expr .no) .pass) .pass) .pass)) .pass)⟩
def Y0:aY:=⟨1,1,(.seq (.ret (dj .sum (.comp [] 2 (.one 1) (.eY aM) .no (bI (.bin .LShift) (bh 1) bj)))) .pass)⟩
def S0:aY:=⟨2,2,(.seq (.ret (bI (.bin .BitOr) aM (bI (.bin .LShift) (bh 1) bj))) .pass)⟩
def Ib:aY:=⟨2,4,(.seq (.dM (.one 2) (.eY (.lit (.tup [(.str "lower"),(.str "upper")]))) (.seq (.set 3 (.call 19 (fk bq))) (.seq (.ifs (.dA (dS .Eq (cR aM bz) (cR bj bz)) (.dQ (.fG (.call 15 (dC (cR aM (bI (.bin .Add) bz (bh 1))) (cR bj (bI (.bin .Add) bz (bh 1)))))))) (.seq (.ret (.lit (.bl true))) .pass) .pass) .pass))) (.seq (.ret (.lit (.bl false))) .pass))⟩
def DL:aY:=⟨2,2,(.seq (.ret (.chain .Lt .Lt (bh 0) (cR bj (bh 4)) (cR aM (bh 4)))) .pass)⟩
def Jc:aY:=⟨1,1,(.seq (.ret (.comp [0] 3 (.one 2) (.eY aM) .no (.call 90 (fk (.comp [2] 4 (.many [2,3]) (.kZ aM) (.fG (.call 92 (dC bz aM))) bq))))) .pass)⟩
def Jn:aY:=⟨1,1,(.seq (.ret (.comp [0] 3 (.one 2) (.eY aM) .no (.call 90 (fk (.comp [2] 4 (.many [2,3]) (.kZ aM) (.fG (.call 93 (dC bz aM))) bq))))) .pass)⟩
def Y9:aY:=⟨1,1,(.seq (.ret (.comp [0] 3 (.one 2) (.eY (.call 20 (dC aM (iH "lower")))) .no (.call 90 (fk (.call 74 (gJ aM (iH "lower") bq)))))) .pass)⟩
def O1:aY:=⟨2,8,(.seq (.set 2 (.comp [] 2 (.one 1) (.eY aM) .no (.prim .lst .nil))) (.seq (.dM (.many [3,4,5]) (.eY bj) (.seq (.set 6 (.call 90 (fk (.call 74 (gJ aM bz cx))))) (.seq (.dM (.one 7) (.eY (.call 74 (gJ aM bz dY))) (.seq (.ifs (dS .NotIn eB (cR bq gL)) (.seq (.expr (.eX .append (cR bq gL) (fk eB))) .pass) .pass) .pass)) .pass))) (.seq (.ret bq) .pass)))⟩
def M6:aY:=⟨3,3,(.seq (.expr (.call 18 (fk aM))) (.seq (.expr (.call 42 (fk bj))) (.seq (.expr (.call 89 (dC aM bq))) .pass)))⟩
def CC:aY:=⟨3,3,(.seq (.expr (.call 98 (gJ aM bj bq))) (.seq (.ret (.make "Bounds" 113 (gJ aM bj bq))) .pass))⟩
def Y8:aY:=⟨3,5,(.seq (.set 3 (.call 91 (dC bj bq))) (.seq (.set 4 (bI (.bin .Sub) (dj (.fld "full") aM) bj)) (.seq (.ret (dj .len (.comp [4,3] 4 (.one 3) (.eY (dj (.fld "lower_dies") aM)) (.dA (.fG (bI (.bin .BitAnd) bz bj)) (.fG (bI (.bin .BitAnd) bz aM))) bz))) .pass)))⟩
def Y3:aY:=⟨3,3,(.seq (.ifs (.fG (bI (.bin .BitAnd) bj (cR (dj (.fld "worn_by_place") aM) bq))) (.seq (.ret (iH "wear")) .pass) .pass) (.seq (.ifs (.fG (bI (.bin .BitAnd) bj (cR (dj (.fld "later_by_place") aM) bq))) (.seq (.ret (iH "year")) .pass) .pass) (.seq (.ifs (dS .Gt (.call 100 (gJ aM bj bq)) (dj (.fld "room") aM)) (.seq (.ret (iH "anvil")) .pass) .pass) (.seq (.ifs (.dQ (.fG (dj .all (.comp [1] 3 (.one 2) (.eY (cR (dj (.fld "needed_by_place") aM) bq)) .no (bI (.bin .BitAnd) aM bq))))) (.seq (.ret (iH "rule")) .pass) .pass) (.seq (.ret (.lit .bR)) .pass)))))⟩
def U0:aY:=⟨4,4,(.seq (.iD "size" ["Bounds"] aM (dj .len bj)) (.seq (.iD "full" ["Bounds"] aM (bI (.bin .Sub) (bI (.bin .LShift) (bh 1) (dj .len bj)) (bh 1))) (.seq (.iD "room" ["Bounds"] aM bq) (.seq (.iD "worn_by_place" ["Bounds"] aM (.call 94 (fk bj))) (.seq (.iD "later_by_place" ["Bounds"] aM (.call 95 (fk bj))) (.seq (.iD "lower_dies" ["Bounds"] aM (.call 96 (fk bj))) (.seq (.iD "needed_by_place" ["Bounds"] aM (.call 97 (dC bj bz))) .pass)))))))⟩
section
variable{U:S}{t:MT}{it c elt:ME}{c8:List Nat}
theorem x5(hP:i8 P)(Sh:S->Prop)(p:Nat->Bool)(w:Nat->D){k:IK}(hk:∀g',Ex g g'->k.Is l g')(hl:l.length<=1000)(h0:Sh (E1 U c8 n))(hs:∀i d U g',l[i]?=some d->Ex g g'->Sh U->jK t d U λcH=>eA P c cH g' (λb g3=>b=p i/\Ex g g3/\if b=true then bp P elt cH g3 (λy g4=>y=w i/\Ex g g4/\Sh cH) jr else Sh cH) jr)(hd:∀g',Ex g g'->Q (.ref g'.length) (g'++[.lst (((List.range l.length).filter p).map w)]))(hi:∀R:IK->G->Prop,R k g->gS P it U g R E):bp P (.comp c8 n t it c elt) U g Q E:=by
 refine F5 hP (hi _ ?_);refine⟨l,λi ys U g'=>Ex g g'/\ys=((List.range i).filter p).map w/\Sh U,hl,λi ys U g' q=>⟨hk _ q.1,?_⟩,⟨Ex.refl _,rfl,h0⟩,λi x ys U g' hx q=>?_,λys U g' q=>?_⟩
 ·obtain⟨_,rfl,_⟩:=q;rw[ai];exact aC (iZ _ _) (by simp)
 ·obtain⟨e1,rfl,sh⟩:=q;refine w5 (λcH q=>q8 hP c _ _ _ _ _ _ (λb g3 q=>?_) (λ_ _ z=>z) q) (hs i x U g' hx e1 sh);obtain⟨rfl,e3,q⟩:=q;have ef:((List.range (i+1)).filter p).map w=((List.range i).filter p).map w++if p i=true then[w i] else[]:=by
   rw[fb,fh,dX];cases z:p i<;>simp only[List.filter_cons,z,List.filter_nil]<;>rfl
  cases hp:p i with
  |true =>
   rw[hp] at q ef;refine b9 hP elt _ _ _ _ _ _ (λy g4 q=>?_) (λ_ _ z=>z) q;obtain⟨rfl,e4,sh⟩:=q;exact⟨e4,by rw[ef];rfl,sh⟩
  |false =>
   simp_all
 ·obtain⟨e1,rfl,sh⟩:=q;exact hd g' e1
theorem comp_map(hP:i8 P)(Sh:S->Prop)(w:Nat->D){k:IK}(hk:∀g',Ex g g'->k.Is l g')(hl:l.length<=1000)(h0:Sh (E1 U c8 n))(hs:∀i d U g',l[i]?=some d->Ex g g'->Sh U->jK t d U λcH=>bp P elt cH g' (λy g4=>y=w i/\Ex g g4/\Sh cH) jr)(hd:∀g',Ex g g'->Q (.ref g'.length) (g'++[.lst ((List.range l.length).map w)]))(hi:∀R:IK->G->Prop,R k g->gS P it U g R E):bp P (.comp c8 n t it .no elt) U g Q E:=by
 refine x5 hP Sh (λ_=>true) w hk hl h0 (λi d U g' hx e sh=>w5 (λcH q=>Dz ⟨rfl,e,?_⟩) (hs i d U g' hx e sh)) (λg' e=>?_) hi
 ·exact mj q
 ·have:=hd g' e
  rwa [show(List.range l.length).filter (λ_=>true)=List.range l.length from List.filter_eq_self.mpr λ_ _=>rfl]
theorem K8(hP:i8 P){o:ME}(hl:c6 g a=some l)(h:∀Q:KD,Q (.ref a) g->bp P o U g Q E):∀R:IK->G->Prop,R (.lst a) g->gS P (.eY o) U g R E:=λR r=>ky hP (h _ ⟨a,l,rfl,hl,r⟩)
theorem Eb{o:ME}(hl:c6 g a=some l)(h:∀Q:KD,Q (.ref a) g->bp P o U g Q E):∀R:IK->G->Prop,R (.oW a) g->gS P (.kZ o) U g R E:=λR r=>zP (h _ ⟨a,l,rfl,hl,r⟩)
theorem yT(hP:i8 P){o:ME}(hj:j<=1000)(h:∀Q:KD,Q (.int (j:Nat)) g->bp P o U g Q E):∀R:IK->G->Prop,R (.fix (j6 0 j)) g->gS P (.eO o) U g R E:=λR r=>U2 hP (h _ ⟨j,rfl,by omega,by omega,by simpa using r⟩)
end
theorem E5(l:List Nat):b7 l=(l.map λ(i:Nat)=>(i:Int)).map D.int:=by simp[b7]
structure TB0(T:Nat->Option aY):Prop where
 nf:NF T
 h2:T 2=some K5
 sX:T 12=some B0
 vF:LB T
 lK:Eo T
 xQ:T 15=some yM
 Ox:T 20=some BZ
 qY:T 74=some S1
 Oo:T 88=some CG
 Om:T 89=some T8
 sW:T 90=some Y0
 om:T 91=some S0
 Ol:T 92=some Ib
 Oj:T 93=some DL
 Oi:T 94=some Jc
 Oh:T 95=some Jn
 Og:T 96=some Y9
 Of:T 97=some O1
 AY:T 100=some Y8
 AX:T 101=some Y3
 AR:T 113=some U0
structure TB(T:Nat->Option aY):Prop extends TB0 T where
 vC:T 42=some E3
 AE:T 98=some M6
 Oe:T 99=some CC
instance{T:Nat->Option aY}:CoeOut (TB T) (TB0 T):=⟨TB.toTB0⟩
section
variable{T:Nat->Option aY}{d:Nat}
theorem X'(h1:NF T)(vC:T 42=some E3){i:Int}(h:1<=i->i<=9->Q .bR g)(hn:¬(1<=i/\i<=9)->False):b8 T (k+3) 42 [.int i] g Q E:=by
 refine call_of vC rfl ?_;dsimp[E3,c7,List.replicate];left;refine y9 (k:=k) h1 ?_;left;by_cases hi:1<=i/\i<=9
 ·rw[aw hi.1,aw hi.2];left;exact h hi.1 hi.2
 ·have:(decide (1<=i)&&decide (i<=9))=false:=by
   rw[Bool.and_eq_false_iff,cT,cT];omega
  rw[this];left;exact hn hi
theorem N1(h1:NF T)(lK:Eo T)(qY:T 74=some S1){x:Int}(ha:g[a]?=some (.lst (cs.map a9.d)))(hz:cs.length<=1000)(h:∀g' b,Ex g g'->g.length<=b->g'[b]?=some (.lst (b7 (jE cs w x)))->Q (.ref b) g'):b8 T (k+3) 74 [.ref a,.str w.s,.int x] g Q E:=by
 refine call_of qY rfl ?_;dsimp[S1,c7,List.replicate];left;refine Jm (k:=k+1) h1 ?_;left;have fld:∀f:Int,(f=0\/f=2)->(∀i c,cs[i]?=some c->meant cs w x i=decide (A3 f c=x))->bp (b8 T (k+2)) (.comp [3,2] 5 (.many [3,4]) (.kZ (.var 0)) (.fG (.prim (.cmp .Eq) (.cons (.prim .ix (.cons (.var 4) (.cons (.var 0) .nil))) (.cons (.var 1) .nil)))) (.var 3)) [some (.ref a),some (.str w.s),some (.int x),some (.int f)] g Q E:=λf hf hm=>by
  refine x5 (a8 T _) (λU=>∃z2 z3 z4,U=[some (.int f),some (.int x),z2,z3,z4]) (meant cs w x) (λi=>.int (i:Nat)) (l:=mO (cs.map a9.d)) (λg' e=>yz (a7 (e.at ha))) (by rw[L9];simpa using hz) ⟨none,none,none,rfl⟩ (λi d U g' hx e sh=>?_) (λg' e=>?_) (Eb (a7 ha) λQ q=>w_var (d:=.ref a) rfl q)
  ·obtain⟨z2,z3,z4,rfl⟩:=sh;obtain⟨dd,hd,rfl⟩:=yI hx;rw[ag,aa] at hd;obtain⟨c,hc,rfl⟩:=hd;refine A6 rfl ?_;left;refine v5 (L1 hf c) ?_;left;rw[hm i c hc];refine⟨rfl,e,?_⟩;refine if2 (λ_=>?_) (λ_=>?_)
   ·left;exact⟨rfl,e,_,_,_,rfl⟩
   ·exact⟨_,_,_,rfl⟩
  ·rw[L9,ai];exact h _ _ (e.trans (Ex.snoc _ _)) e.len b0
 cases w with
 |fQ =>
  refine gb (by decide +kernel) ?_;left;refine x5 (a8 T _) (λU=>∃z1 z2,U=[some (.int x),z1,z2]) (meant cs .fQ x) (λi=>.int (i:Nat)) (l:=j6 0 cs.length) (λg' e=>u7) (by rw[j9];exact hz) ⟨none,none,rfl⟩ (λi d U g' hx e sh=>?_) (λg' e=>?_) (yT (a8 T _) hz λQ q=>?_)
  ·obtain⟨z2,z3,rfl⟩:=sh;obtain⟨hi,rfl⟩:=x6 hx;rw[eI];refine i6 ?_;left;refine⟨rfl,e,?_⟩;refine if2 (λ_=>?_) (λ_=>?_)
   ·left;exact⟨rfl,e,_,_,rfl⟩
   ·exact⟨_,_,rfl⟩
  ·rw[j9];exact h _ _ (e.trans (Ex.snoc _ _)) e.len b0
  ·left;rw[ai];exact q
 |lower =>
  refine fj (by decide +kernel) ?_;left;refine E7 (k:=k) lK (by decide +kernel) (λ_=>?_) (λz=>absurd z (by decide +kernel)) (λz=>absurd rfl z);exact fld 0 (.inl rfl) λi c hc=>by simp only[meant,C0 hc];rfl
 |upper =>
  refine fj (by decide +kernel) ?_;left;refine E7 (k:=k) lK (by decide +kernel) (λz=>absurd z (by decide +kernel)) (λ_=>?_) (λ_ z=>absurd rfl z);exact fld 2 (.inr rfl) λi c hc=>by simp only[meant,C0 hc];rfl
theorem M1(sW:T 90=some Y0){l:List Nat}(ha:g[a]?=some (.lst (b7 l)))(hz:l.length<=1000)(hl:∀i∈l,i<=1000)(h:∀g',Ex g g'->Q (.int (pC l:Nat)) g'):b8 T (k+1) 90 [.ref a] g Q E:=by
 refine call_of sW rfl ?_;dsimp[Y0,c7,List.replicate];left;refine comp_map (a8 T _) (λU=>∃z0 z1,U=[z0,z1]) (λi=>.int ((2 ^ (l.getD i 0):Nat):Int)) (l:=b7 l) (k:=.lst a) (λg' e=>k4 (a7 (e.at ha))) (by simpa[b7] using hz) ⟨none,none,rfl⟩ (λi d U g' hx e sh=>?_) (λg' e=>?_) (K8 (a8 T _) (a7 ha) λQ q=>w_var (d:=.ref a) rfl q)
 ·obtain⟨z0,z1,rfl⟩:=sh;rw[b7,ag,aa] at hx;obtain⟨j,hj,rfl⟩:=hx;refine i6 ?_;left;have:=hl j (aF hj);refine CW ⟨by omega,by omega,by decide⟩ ?_;refine⟨?_,e,_,_,rfl⟩;simp[List.getD,hj]
 ·refine Ll (ns:=(List.range l.length).map λi=>((2 ^ (l.getD i 0):Nat):Int)) (a7 (by simpa[b7] using b0)) ?_;have:((List.range l.length).map λi=>((2 ^ (l.getD i 0):Nat):Int)).sum=(pC l:Nat):=by
   have e2:(List.range l.length).map (λi=>((2 ^ (l.getD i 0):Nat):Int))=(l.map (2 ^ ·)).map λ(n:Nat)=>(n:Int):=by
    refine bP λi=>?_;rw[ag,ag,ag];by_cases hi:i<l.length
    ·simp[List.getD,hi]
    ·rw[aP (by simpa using hi),aP ()]
     rfl
   rw[e2];unfold pC;generalize l.map (2 ^ ·)=m
   induction m with
   |nil=>rfl
   |cons x r ih=>simp[ih]
  rw[this];exact h _ (e.trans (Ex.snoc _ _))
theorem v9(om:T 91=some S0){s:Nat}(hp:p<=1000)(h:Q (.int ((s |||2 ^ p:Nat):Int)) g):b8 T (k+1) 91 [.int (s:Nat),.int (p:Nat)] g Q E:=by
 refine call_of om rfl ?_;dsimp[S0,c7,List.replicate];left;refine CW ⟨by omega,by omega,by decide⟩ ?_;refine UZ ?_;have e:(1:Int)*2 ^ ((p:Nat):Int).toNat=((2 ^ p:Nat):Int):=by simp
 rw[e,Rk];exact h
end
section
variable{T:Nat->Option aY}{d:Nat}
theorem JM{c:a9}(h:CB c):c.lm.length<=1000/\c.um.length<=1000:=⟨aC h.1 ∅,aC h.2 ∅⟩
theorem aA8(hT:TB0 T){c e:a9}(hc:CB c)(h:∀g',Ex g g'->Q (.bl (mw c e)) g'):b8 T (k+3) 92 [c.d,e.d] g Q E:=by
 refine call_of hT.Ol rfl ?_;refine u9 (a8 T _) (vb (a8 T _) ?_);refine⟨_,rfl,_,λi U g'=>Ex g g'/\(∃z2 z3,U=[some c.d,some e.d,z2,z3])/\(1<=i->(decide (c.lo=e.lo)&&!jD c.lm e.lm)=false)/\(2<=i->(decide (c.up=e.up)&&!jD c.um e.um)=false),λ_ _ _ _=>u7,⟨Ex.refl _,⟨none,none,rfl⟩,λz=>absurd z (),λz=>absurd z ()⟩,λi x U g' hx q=>?_,λU g' q=>?_⟩
 ·obtain⟨e1,⟨z2,z3,rfl⟩,q1,q2⟩:=q;refine i6 ?_
  match i,hx with
  |0,hx =>
   cases hx;left;refine E7 (k:=k) hT.lK (by decide +kernel) (λ_=>?_) (λz=>absurd z (by decide +kernel)) (λz=>absurd rfl z);left;refine v5 (l:=[.int c.lo,.tup (c.lm.map .int),.int c.up,.tup (c.um.map .int),.int c.yr]) rfl ?_;left;refine v5 (l:=[.int e.lo,.tup (e.lm.map .int),.int e.up,.tup (e.um.map .int),.int e.yr]) rfl ?_;left;refine if2 (λh1=>?_) (λh1=>?_)
   ·left;refine v5 (l:=[.int c.lo,.tup (c.lm.map .int),.int c.up,.tup (c.um.map .int),.int c.yr]) rfl ?_;left;refine v5 (l:=[.int e.lo,.tup (e.lm.map .int),.int e.up,.tup (e.um.map .int),.int e.yr]) rfl ?_;left;refine Ir (k:=k+1) hT.xQ (JM hc).1 λg2 e2=>?_;left;cases hw:jD c.lm e.lm with
    |false =>
     left;have:mw c e=true:=by unfold mw;rw[aw h1,hw];rfl
     rw[<- this];exact h _ (e1.trans e2)
    |true =>
     exact⟨e1.trans e2,⟨_,_,rfl⟩,λ_=>by rw[aw h1];rfl,λz=>absurd z ()⟩
   ·exact⟨e1,⟨_,_,rfl⟩,λ_=>by rw[aE h1];rfl,λz=>absurd z ()⟩
  |1,hx =>
   cases hx;left;refine E7 (k:=k) hT.lK (by decide +kernel) (λz=>absurd z (by decide +kernel)) (λ_=>?_) (λ_ z=>absurd rfl z);left;refine v5 (l:=[.int c.lo,.tup (c.lm.map .int),.int c.up,.tup (c.um.map .int),.int c.yr]) rfl ?_;left;refine v5 (l:=[.int e.lo,.tup (e.lm.map .int),.int e.up,.tup (e.um.map .int),.int e.yr]) rfl ?_;left;refine if2 (λh1=>?_) (λh1=>?_)
   ·left;refine v5 (l:=[.int c.lo,.tup (c.lm.map .int),.int c.up,.tup (c.um.map .int),.int c.yr]) rfl ?_;left;refine v5 (l:=[.int e.lo,.tup (e.lm.map .int),.int e.up,.tup (e.um.map .int),.int e.yr]) rfl ?_;left;refine Ir (k:=k+1) hT.xQ (JM hc).2 λg2 e2=>?_;left;cases hw:jD c.um e.um with
    |false =>
     left;have:mw c e=true:=by unfold mw;rw[aw h1,hw];simp
     rw[<- this];exact h _ (e1.trans e2)
    |true =>
     exact⟨e1.trans e2,⟨_,_,rfl⟩,λ_=>q1 (),λ_=>by rw[aw h1];rfl⟩
   ·exact⟨e1,⟨_,_,rfl⟩,λ_=>q1 (),λ_=>by rw[aE h1];rfl⟩
  |i+2,hx=>simp at hx
 ·obtain⟨e1,⟨z2,z3,rfl⟩,q1,q2⟩:=q;have:mw c e=false:=by unfold mw;rw[q1 ∅,q2 ∅];rfl
  rw[<- this];exact h _ e1
theorem a42(hT:TB0 T){c e:a9}(h:Q (.bl (kr c e)) g):b8 T (k+1) 93 [c.d,e.d] g Q E:=by
 refine call_of hT.Oj rfl ?_;dsimp[DL,c7,List.replicate];left;refine v5 (l:=[.int e.lo,.tup (e.lm.map .int),.int e.up,.tup (e.um.map .int),.int e.yr]) rfl ?_;left;refine if2 (λh1=>?_) (λh1=>?_)
 ·left;refine v5 (l:=[.int c.lo,.tup (c.lm.map .int),.int c.up,.tup (c.um.map .int),.int c.yr]) rfl ?_;left;have:kr c e=decide (e.yr<c.yr):=by unfold kr;rw[aw h1];rfl
  rw[<- this];exact h
 ·have:kr c e=false:=by unfold kr;rw[aE h1];rfl
  rw[<- this];exact h
def sr(cs:List a9)(q:a9->a9->Bool):List D:=(List.range cs.length).map λi=>.int ((iC cs.length λj=>q (bV cs j) (bV cs i):Nat):Int)
theorem V1{q:Nat->Bool}:∀i∈(List.range cs.length).filter q,i<cs.length:=λi hi=>aX.mp (bH.mp hi).1
theorem E6{n:Nat}{q:Nat->Bool}:((List.range n).filter q).length<=n:=aC (iZ _ _) (by simp)
theorem UU(hT:TB0 T)(ha:g[a]?=some (.lst (cs.map a9.d)))(hz:cs.length<=9)(hB:∀c∈cs,CB c)(h:∀g' b,Ex g g'->g.length<=b->g'[b]?=some (.lst (sr cs mw))->Q (.ref b) g'):b8 T (k+4) 94 [.ref a] g Q E:=by
 refine call_of hT.Oi rfl ?_;refine comp_map (a8 T _) (λU=>∃z1 z2,U=[some (.ref a),z1,z2]) (λi=>.int ((iC cs.length λj=>mw (bV cs j) (bV cs i):Nat):Int)) (l:=cs.map a9.d) (k:=.lst a) (λg' e=>k4 (a7 (e.at ha))) (by simp;omega) ⟨none,none,rfl⟩ (λi d U g' hx e sh=>?_) (λg' e=>?_) (K8 (a8 T _) (a7 ha) λQ q=>w_var (d:=.ref a) rfl q)
 ·obtain⟨z1,z2,rfl⟩:=sh;rw[ag,aa] at hx;obtain⟨c,hc,rfl⟩:=hx;refine i6 ?_;left;refine x5 (a8 T _) (λU=>∃z1 z2 z3,U=[some c.d,z1,z2,z3]) (λj=>mw (bV cs j) (bV cs i)) (λi=>.int (i:Nat)) (l:=mO (cs.map a9.d)) (k:=.oW a) (λg2 e2=>yz (a7 ((e.trans e2).at ha))) (by rw[L9];simp;omega) ⟨none,none,none,rfl⟩ (λj d U g2 hx e2 sh=>?_) (λg2 e2=>?_) (Eb (a7 (e.at ha)) λQ q=>w_var (d:=.ref a) rfl q)
  ·obtain⟨z1,z2,z3,rfl⟩:=sh;obtain⟨dd,hd,rfl⟩:=yI hx;rw[ag,aa] at hd;obtain⟨c',jq,rfl⟩:=hd;refine A6 rfl ?_;left;refine aA8 (k:=k) hT (hB c' (aF jq)) λg3 e3=>?_;left;refine⟨by simp only[C0 jq,C0 hc],e2.trans e3,?_⟩;cases mw c' c with
   |true =>
    refine gb rfl ?_;left;exact⟨rfl,e2.trans e3,_,_,_,rfl⟩
   |false=>exact fj rfl ⟨_,_,_,rfl⟩
  ·left;refine M1 (k:=k+2) hT.sW (l:=(List.range cs.length).filter λj=>mw (bV cs j) (bV cs i)) (by have:=b0 (g:=g2) (o:=.lst (((List.range (mO (cs.map a9.d)).length).filter λj=>mw (bV cs j) (bV cs i)).map λi=>D.int (i:Nat)));rw[L9,ai] at this ⊢;exact this) (aC E6 ()) (λj hj=>by have:=V1 j hj;omega) λg3 e3=>?_;exact⟨rfl,(e.trans (e2.trans (Ex.snoc _ _))).trans e3,_,_,rfl⟩
 ·refine h _ _ (e.trans (Ex.snoc _ _)) e.len ?_;rw[b0,ai]
  rfl
theorem YW(hT:TB0 T)(ha:g[a]?=some (.lst (cs.map a9.d)))(hz:cs.length<=9)(h:∀g' b,Ex g g'->g.length<=b->g'[b]?=some (.lst (sr cs kr))->Q (.ref b) g'):b8 T (k+4) 95 [.ref a] g Q E:=by
 refine call_of hT.Oh rfl ?_;refine comp_map (a8 T _) (λU=>∃z1 z2,U=[some (.ref a),z1,z2]) (λi=>.int ((iC cs.length λj=>kr (bV cs j) (bV cs i):Nat):Int)) (l:=cs.map a9.d) (k:=.lst a) (λg' e=>k4 (a7 (e.at ha))) (by simp;omega) ⟨none,none,rfl⟩ (λi d U g' hx e sh=>?_) (λg' e=>?_) (K8 (a8 T _) (a7 ha) λQ q=>w_var (d:=.ref a) rfl q)
 ·obtain⟨z1,z2,rfl⟩:=sh;rw[ag,aa] at hx;obtain⟨c,hc,rfl⟩:=hx;refine i6 ?_;left;refine x5 (a8 T _) (λU=>∃z1 z2 z3,U=[some c.d,z1,z2,z3]) (λj=>kr (bV cs j) (bV cs i)) (λi=>.int (i:Nat)) (l:=mO (cs.map a9.d)) (k:=.oW a) (λg2 e2=>yz (a7 ((e.trans e2).at ha))) (by rw[L9];simp;omega) ⟨none,none,none,rfl⟩ (λj d U g2 hx e2 sh=>?_) (λg2 e2=>?_) (Eb (a7 (e.at ha)) λQ q=>w_var (d:=.ref a) rfl q)
  ·obtain⟨z1,z2,z3,rfl⟩:=sh;obtain⟨dd,hd,rfl⟩:=yI hx;rw[ag,aa] at hd;obtain⟨c',jq,rfl⟩:=hd;refine A6 rfl ?_;left;refine a42 (k:=k+2) hT ?_;left;refine⟨by simp only[C0 jq,C0 hc],e2,?_⟩;cases kr c' c with
   |true =>
    refine gb rfl ?_;left;exact⟨rfl,e2,_,_,_,rfl⟩
   |false=>exact fj rfl ⟨_,_,_,rfl⟩
  ·left;refine M1 (k:=k+2) hT.sW (l:=(List.range cs.length).filter λj=>kr (bV cs j) (bV cs i)) (by have:=b0 (g:=g2) (o:=.lst (((List.range (mO (cs.map a9.d)).length).filter λj=>kr (bV cs j) (bV cs i)).map λi=>D.int (i:Nat)));rw[L9,ai] at this ⊢;exact this) (aC E6 ()) (λj hj=>by have:=V1 j hj;omega) λg3 e3=>?_;exact⟨rfl,(e.trans (e2.trans (Ex.snoc _ _))).trans e3,_,_,rfl⟩
 ·refine h _ _ (e.trans (Ex.snoc _ _)) e.len ?_;rw[b0,ai]
  rfl
theorem a53(hT:TB0 T)(ha:g[a]?=some (.lst (cs.map a9.d)))(hz:cs.length<=9)(hg:cs.all q9=true)(h:Q (.ref g.length) (g++[.lst ((n5 (cs.map a9.lo)).map .int)])):b8 T (k+7) 20 [.ref a,.str "lower"] g Q E:=by
 refine call_of hT.Ox rfl ?_;dsimp[BZ,c7,List.replicate];left;refine W6 (k:=k) hT.nf hT.h2 hT.sX hT.vF ha () (λz=>by omega) (λ_ z=>by rw[hg] at z;cases z) λ_ _=>?_;left;refine E7 (k:=k+4) hT.lK (by decide +kernel) (λ_=>?_) (λz=>absurd z (by decide +kernel)) (λz=>absurd rfl z);left;refine UP (a8 T _) (ky (a8 T _) ?_);left;refine⟨a,_,rfl,a7 ha,cs.map a9.d,λi ys U g'=>∃z w,ys=(cs.take i).map a9.lo/\U=[some (.int 0),z,w]/\g'=g,by simp;omega,λi ys U g' p=>?_,⟨none,none,rfl,rfl,rfl⟩,λi c ys U g' hx p=>?_,λys U g' p=>?_⟩
 ·obtain⟨z,w,rfl,rfl,rfl⟩:=p;exact⟨k4 (a7 ha),by simp;omega⟩
 ·obtain⟨z,w,rfl,rfl,rfl⟩:=p;rw[ag,aa] at hx;obtain⟨c,hc,rfl⟩:=hx;left;refine v5 (l:=[.int c.lo,.tup (c.lm.map .int),.int c.up,.tup (c.um.map .int),.int c.yr]) rfl ?_;refine⟨_,rfl,_,_,?_,rfl,rfl⟩;rw[bu,hc];simp
 ·obtain⟨z,w,rfl,rfl,rfl⟩:=p;rw[ai,bY];exact h
def U4(cs:List a9):List D:=(n5 (cs.map a9.lo)).map λd=>.int ((iC cs.length (meant cs .lower d):Nat):Int)
theorem XC(hT:TB0 T)(ha:g[a]?=some (.lst (cs.map a9.d)))(hz:cs.length<=9)(hg:cs.all q9=true)(h:∀g' b,Ex g g'->g.length<=b->g'[b]?=some (.lst (U4 cs))->Q (.ref b) g'):b8 T (k+8) 96 [.ref a] g Q E:=by
 refine call_of hT.Og rfl ?_;dsimp[Y9,c7,List.replicate];left;have Ai:(n5 (cs.map a9.lo)).length<=9:=aC (R5 _) (by simpa using hz);unfold U4 at h;refine F5 (a8 T _) (ky (a8 T _) ?_);left;refine a53 (k:=k) hT ha hz hg ?_;have e0:=Ex.snoc g (O.lst ((n5 (cs.map a9.lo)).map .int));have hb:=b0 (g:=g) (o:=O.lst ((n5 (cs.map a9.lo)).map .int));generalize n5 (cs.map a9.lo)=ds at *;generalize g++[O.lst (ds.map .int)]=g1 at *;refine⟨_,_,rfl,a7 hb,ds.map .int,λi ys U g'=>Ex g1 g'/\ys=(ds.take i).map (λd=>.int ((iC cs.length (meant cs .lower d):Nat):Int))/\∃z1 z2,U=[some (.ref a),z1,z2],by simp;omega,λi ys U g' q=>⟨k4 (a7 (q.1.at hb)),?_⟩,⟨Ex.refl _,rfl,none,none,rfl⟩,λi x ys U g' hx q=>?_,λys U g' q=>?_⟩
 ·obtain⟨_,rfl,_⟩:=q;simp;omega
 ·obtain⟨e1,rfl,z1,z2,rfl⟩:=q;rw[ag,aa] at hx;obtain⟨dd,hd,rfl⟩:=hx;refine i6 ?_;left;refine N1 (k:=k+4) hT.nf hT.lK hT.qY (w:=.lower) ((e0.trans e1).at ha) () λg2 b2 e2 _ vt=>?_;left;refine M1 (k:=k+6) hT.sW vt (aC E6 ()) (λj hj=>by have:=V1 j hj;omega) λg3 e3=>?_;refine⟨e1.trans (e2.trans e3),?_,_,_,rfl⟩;rw[bu,hd];simp[iC,jE]
 ·obtain⟨e1,rfl,z1,z2,rfl⟩:=q;rw[ai,bY];exact h _ _ (e0.trans (e1.trans (Ex.snoc _ _))) (aC e0.len e1.len) b0
end
theorem J8{i:Int}{k:Bool->Prop}(ha:c6 g a=some (ms.map .int))(h:k (ms.any λm=>m==i)):qG g (.int i) (.ref a) k:=by
 refine⟨_,.inr ⟨_,_,_,ha,J6 ms,rfl,lay_ints ms,by rfl,rfl⟩,?_⟩;rw[kR];exact h
theorem BV{l:List Nat}{k:Bool->Prop}(ha:g[a]?=some (.lst (b7 l)))(h:k (decide (i∈l))):qG g (.int (i:Nat)) (.ref a) k:=by
 refine J8 (ms:=l.map λ(i:Nat)=>(i:Int)) (by rw[<- E5];exact a7 ha) ?_;have:((l.map λ(i:Nat)=>(i:Int)).any λm=>m==(i:Int))=decide (i∈l):=by
  rw[aU,aV,bL];constructor
  ·rintro⟨x,hx,e⟩;obtain⟨j,hj,rfl⟩:=aH.mp hx;rw[br] at e;rw[show i=j by omega];exact hj
  ·exact λhi=>⟨_,aH.mpr ⟨i,hi,rfl⟩,by simp⟩
 rw[this];exact h
structure nR(g:G)(nb lo n:Nat)(B:Nat->Nat)(F:Nat->Nat->Prop):Prop where
 ex:∃as:List Nat,g[nb]?=some (.lst (as.map .ref))/\as.length=n/\as.Nodup/\(∀a∈as,lo<=a/\a≠nb)/\∀i a,as[i]?=some a->∃ms:List Nat,g[a]?=some (.lst (b7 ms))/\ms.length<=B i/\∀m,m∈ms↔F i m
theorem nR.at{g g':G}{nb lo n:Nat}{B:Nat->Nat}{F:Nat->Nat->Prop}(h:nR g nb lo n B F)(e:Ex g g'):nR g' nb lo n B F:=by
 obtain⟨as,h1,h2,h3,h4,h5⟩:=h.ex;refine⟨⟨as,e.at h1,h2,h3,h4,λi a hi=>?_⟩⟩;obtain⟨ms,m1,m2⟩:=h5 i a hi;exact⟨ms,e.at m1,m2⟩
theorem nR.imp{nb lo:Nat}{B B':Nat->Nat}{F F':Nat->Nat->Prop}(h:nR g nb lo n B F)(hB:∀i,i<n->B i<=B' i)(hF:∀i m,i<n->(F i m↔F' i m)):nR g nb lo n B' F' :=
 let ⟨as,h1,h2,h3,h4,h5⟩:=h.ex
 ⟨⟨as,h1,h2,h3,h4,λi a hi=>let ⟨ms,m1,m2,m3⟩:=h5 i a hi
  have iR:i<n:=by rw[<- h2];exact(au.mp hi).1
  ⟨ms,m1,aC m2 (hB i iR),λm=>(m3 m).trans (hF i m iR)⟩⟩⟩
def tR(cs:List a9)(rs:List eP)(i m:Nat):Prop:=∃r∈rs,meant cs r.w r.y i=true/\m=iC cs.length (meant cs r.w r.x)
def s9(rs:List eP):List D:=rs.map eP.d
theorem Ig{l:List α}(h:l.Nodup){a:α}(hi:l[i]?=some a)(hj:l[j]?=some a):i=j:=by
 obtain⟨h1,e1⟩:=au.mp hi;obtain⟨h2,e2⟩:=au.mp hj;exact(lU h).mp (e1.trans e2.symm)
section
variable{T:Nat->Option aY}{d:Nat}
theorem YZ(hT:TB0 T)(ha:g[a]?=some (.lst (cs.map a9.d)))(hz:cs.length<=9)(hc:g[c]?=some (.lst (s9 rs)))(hr:rs.length<=900)(h:∀g' b,Ex g g'->g.length<=b->nR g' b g.length cs.length (λ_=>rs.length) (tR cs rs)->Q (.ref b) g'):b8 T (k+4) 97 [.ref a,.ref c] g Q E:=by
 refine call_of hT.Of rfl ?_;dsimp[O1,c7,List.replicate];left;refine F5 (a8 T _) (ky (a8 T _) ?_);left;refine⟨a,_,rfl,a7 ha,cs.map a9.d,λi ys U g'=>Ex g g'/\(∃as:List Nat,ys=as.map .ref/\as.length=i/\as.Nodup/\∀b∈as,g.length<=b/\g'[b]?=some (.lst []))/\∃z0 z1,U=[z0,z1],by simp;omega,λi ys U g' q=>⟨k4 (a7 (q.1.at ha)),?_⟩,⟨Ex.refl _,⟨[],rfl,rfl,by simp,by simp⟩,none,none,rfl⟩,λi x ys U g' hx q=>?_,λys U g' q=>?_⟩
 ·obtain⟨_,⟨as,rfl,rfl,_⟩,_⟩:=q;simp
 ·obtain⟨e1,⟨as,rfl,hl,nd,hA⟩,z0,z1,rfl⟩:=q;refine i6 ?_;left;refine⟨e1.trans (Ex.snoc _ _),⟨as++[g'.length],by simp,by simp[hl],?_,λb hb=>?_⟩,_,_,rfl⟩
  ·rw[cE];exact⟨nd,by simp,λx hx y hy=>by cases aQ.mp hy;exact aK (n4 (hA x hx).2)⟩
  ·rcases aR.mp hb with hb|hb
   ·exact⟨(hA b hb).1,(Ex.snoc _ _).at (hA b hb).2⟩
   ·cases aQ.mp hb;exact⟨e1.len,b0⟩
 ·obtain⟨e1,⟨as,rfl,hl,nd,hA⟩,z0,z1,rfl⟩:=q;rw[ai] at hl;have e2:=e1.trans (Ex.snoc g' (O.lst (as.map D.ref)));have lo:=e1.len;have N0:nR (g'++[O.lst (as.map D.ref)]) g'.length g.length cs.length (λ_=>0) (tR cs []):=⟨⟨as,b0,hl,nd,λb hb=>⟨(hA b hb).1,aK (n4 (hA b hb).2)⟩,λi b hb=>⟨[],(Ex.snoc _ _).at (hA b (aF hb)).2,by simp,λm=>⟨λz=>absurd z (by simp),λ⟨r,hr,_⟩=>absurd hr (by simp)⟩⟩⟩⟩
  generalize g'.length=nb at *;refine u9 (a8 T _) (ky (a8 T _) ?_);left;refine⟨c,_,rfl,a7 (e2.at hc),s9 rs,λi U g'=>Ex g g'/\nR g' nb g.length cs.length (λ_=>i) (tR cs (rs.take i))/\∃z3 z4 z5 z6 z7,U=[some (.ref a),some (.ref c),some (.ref nb),z3,z4,z5,z6,z7],λi U g' q=>k4 (a7 (q.1.at hc)),⟨e2,N0,none,none,none,none,none,rfl⟩,λi x U g' hx q=>?_,λU g' q=>?_⟩
  ·obtain⟨e3,N3,z3,z4,z5,z6,z7,rfl⟩:=q;rw[s9,ag,aa] at hx;obtain⟨r,gh,rfl⟩:=hx;have hi:i<rs.length:=(au.mp gh).1;refine A6 (l:=[.str r.w.s,.int r.x,.int r.y]) rfl ?_;left;refine N1 (k:=k) hT.nf hT.lK hT.qY (e3.at ha) () λg4 b4 e4 _ NS=>?_;left;refine M1 (k:=k+2) hT.sW NS (aC E6 ()) (λj hj=>by have:=V1 j hj;omega) λg5 e5=>?_;left;have mP:=e3.trans (e4.trans e5);have N5:=N3.at (e4.trans e5);have ef:pC (jE cs r.w r.x)=iC cs.length (meant cs r.w r.x):=rfl;rw[ef];generalize iC cs.length (meant cs r.w r.x)=first at *
   refine u9 (a8 T _) (ky (a8 T _) ?_);left;refine N1 (k:=k) hT.nf hT.lK hT.qY (mP.at ha) () λg6 b6 e6 hb6 FC=>?_;refine⟨b6,_,rfl,a7 FC,b7 (jE cs r.w r.y),λj U g'=>Ex g g'/\g'[b6]?=some (.lst (b7 (jE cs r.w r.y)))/\nR g' nb g.length cs.length (λq=>i+if q∈(jE cs r.w r.y).take j then 1 else 0) (λq m=>tR cs (rs.take i) q m\/(q∈(jE cs r.w r.y).take j/\m=first))/\(∀as:List Nat,g'[nb]?=some (.lst (as.map .ref))->b6∉as)/\∃z7,U=[some (.ref a),some (.ref c),some (.ref nb),some (.str r.w.s),some (.int r.x),some (.int r.y),some (.int (first:Nat)),z7],λj U g' q=>k4 (a7 q.2.1),⟨mP.trans e6,FC,(N5.at e6).imp (λq _=>by simp) (λq m _=>by simp),?_,z7,rfl⟩,λj x U g' hx q=>?_,λU g' q=>?_⟩
   ·intro yu h' hm;obtain⟨Ih,h1,h2,h3,h4,h5⟩:=N5.ex;have:=(e6.at h1).symm.trans h';have e':Ih=yu:=by
     have h0:Ih.map D.ref=yu.map D.ref:=by injection this with w;injection w
     exact(kc (λx y z=>by injection z)).mp h0
    subst e';obtain⟨i',iR⟩:=fN.mp hm;obtain⟨ms,m1,_⟩:=h5 i' b6 iR;have:=n4 m1;omega
   ·obtain⟨e7,p7,N7,xo,z7,rfl⟩:=q;rw[b7,ag,aa] at hx;obtain⟨q,hq,rfl⟩:=hx;have FA:q<cs.length:=V1 q (aF hq);have Nu:q∉(jE cs r.w r.y).take j:=λz=>by
     obtain⟨j',sJ⟩:=fN.mp z;have hl:j'<j:=by
      have:=(au.mp sJ).1;simp at this;omega
     rw[eV hl] at sJ;have Mx:(jE cs r.w r.y).Nodup:=lT.filter _;have:=Ig Mx sJ hq;omega
    have tk:(jE cs r.w r.y).take (j+1)=(jE cs r.w r.y).take j++[q]:=by rw[bu,hq];rfl
    obtain⟨wb,h1,h2,h3,h4,h5⟩:=N7.ex;have Nh:q<wb.length:=by omega
    have sR:=ae Nh;generalize wb[q]=aq at sR;obtain⟨ms,m1,m2,m3⟩:=h5 q aq sR;have gq:gs (wb.map D.ref) (q:Int)=some (.ref aq):=C1 (by rw[ag,sR];rfl);refine i6 ?_;left;refine m8 (a7 h1) gq ?_;refine T1 (BV m1 ?_);left;by_cases iQ:first∈ms
    ·refine fj (by simp[iQ]) ?_;refine⟨e7,p7,N7.imp (λq' _=>?_) (λq' m _=>?_),xo,_,rfl⟩
     ·rw[tk];by_cases z:q'∈(jE cs r.w r.y).take j
      ·simp[z]
      ·simp[z]
     ·rw[tk];simp only[List.mem_append,List.mem_singleton];constructor
      ·rintro(z|⟨z1,z2⟩)
       ·exact .inl z
       ·exact .inr ⟨.inl z1,z2⟩
      ·rintro(z|⟨z1|z1,z2⟩)
       ·exact .inl z
       ·exact .inr ⟨z1,z2⟩
       ·subst z1 z2;exact(m3 m).mp iQ
    ·refine gb (by simp[iQ]) ?_;left;refine m8 (a7 h1) gq ?_;left;rw[aD Nu] at m2;refine P5 m1 (by simp[b7];omega) ?_;have nz:=aF sR;have fF:=(h4 aq nz).2;have Nv:aq≠b6:=λz=>xo wb h1 (z▸nz);have Gy:=d5 (o':=O.lst (b7 ms++[D.int (first:Nat)])) h1 fF;refine⟨⟨by simp;exact e7.len,λi' iR=>by rw[az (by have:=(h4 aq nz).1;omega)];exact e7.old i' iR⟩,d5 p7 Nv,⟨⟨wb,Gy,h2,h3,h4,λi' b hb=>?_⟩⟩,λyu h'=>?_,_,rfl⟩
     ·by_cases xF:i'=q
      ·subst xF;have:b=aq:=by rw[sR] at hb;injection hb with z;exact z.symm
       subst this;refine⟨ms++[first],by rw[get_set m1];simp[b7],?_,λm=>?_⟩
       ·rw[tk];simp;omega
       ·rw[aR,aQ,m3 m,tk];simp only[List.mem_append,List.mem_singleton];constructor
        ·rintro((z|⟨z1,z2⟩)|z)
         ·exact .inl z
         ·exact .inr ⟨.inl z1,z2⟩
         ·exact .inr ⟨.inr trivial,z⟩
        ·rintro(z|⟨z1|z1,z2⟩)
         ·exact .inl (.inl z)
         ·exact .inl (.inr ⟨z1,z2⟩)
         ·exact .inr z2
      ·have sQ:aq≠b:=λz=>xF (Ig h3 hb (z▸sR));obtain⟨MF,k1,k2,k3⟩:=h5 i' b hb;refine⟨MF,d5 k1 sQ,?_,λm=>(k3 m).trans ?_⟩
       ·rw[tk];simpa[xF] using k2
       ·rw[tk];simp[xF]
     ·rw[Gy] at h';exact xo yu (h1.trans h')
   ·obtain⟨e7,p7,N7,xo,z7,rfl⟩:=q;rw[b7,ai,bY] at N7;refine⟨e7,N7.imp (λq _=>by split<;>omega) (λq m hq=>?_),_,_,_,_,_,rfl⟩;have tk:rs.take (i+1)=rs.take i++[r]:=by rw[bu,gh];rfl
    unfold tR;rw[tk];simp only[List.mem_append,List.mem_singleton];constructor
    ·rintro(⟨r',h1,h2⟩|⟨h1,h2⟩)
     ·exact⟨r',.inl h1,h2⟩
     ·exact⟨r,.inr rfl,(bH.mp h1).2,by rw[h2];exact ef.symm⟩
    ·rintro⟨r',h1|h1,h2,h3⟩
     ·exact .inl ⟨r',h1,h2,h3⟩
     ·subst h1;exact .inr ⟨bH.mpr ⟨aX.mpr hq,h2⟩,by rw[h3];exact ef⟩
  ·obtain⟨e3,N3,z3,z4,z5,z6,z7,rfl⟩:=q;rw[s9,ai,bY] at N3;left;exact h _ _ e3 lo N3
end
def u3(cs:List a9)(r:eP):Bool:=!decide (r.x=r.y)&&(!(jE cs r.w r.x).isEmpty&&!(jE cs r.w r.y).isEmpty)
theorem in_words(h:kb true):qG g (.str w.s) (.tup [.str "coin",.str "lower",.str "upper"]) kb:=by
 refine⟨_,.inr ⟨_,[.str "coin",.str "lower",.str "upper"],.str w.s,rfl,rfl,rfl,by decide +kernel,by cases w<;>decide +kernel,rfl⟩,?_⟩;have:([PyData.str "coin",PyData.str "lower",PyData.str "upper"].any λq=>PyData.eqv q (.str w.s))=true:=by
  cases w<;>decide +kernel
 rw[this];exact h
theorem ne_nil{l:List Nat}(ha:g[a]?=some (.lst (b7 l)))(hb:g[b]?=some (.lst []))(h:Q (.bl (!l.isEmpty)) g):cQ (.cmp .NotEq) [.ref a,.ref b] g Q:=by
 refine wB (YJ (ms:=l.map λ(i:Nat)=>(i:Int)) (ns:=[]) (by rw[<- E5];exact a7 ha) (a7 hb) ?_);have:decide ((l.map λ(i:Nat)=>(i:Int))=[])=l.isEmpty:=by cases l<;>simp
 rw[this];exact h
structure Bd(g:G)(b:Nat)(cs:List a9)(v:Int)(rs:List eP):Prop where
 ex:∃w l d nb,g[b]?=some (.ins "Bounds" [("size",.int cs.length),("full",.int ((2 ^ cs.length-1:Nat):Int)),("room",.int v),("worn_by_place",.ref w),("later_by_place",.ref l),("lower_dies",.ref d),("needed_by_place",.ref nb)]) /\
  g[w]?=some (.lst (sr cs mw))/\g[l]?=some (.lst (sr cs kr))/\g[d]?=some (.lst (U4 cs))/\nR g nb 0 cs.length (λ_=>rs.length) (tR cs rs)
theorem Bd.at{g g':G}{b:Nat}{cs:List a9}{v:Int}{rs:List eP}(h:Bd g b cs v rs)(e:Ex g g'):Bd g' b cs v rs:=by
 obtain⟨w,l,d,nb,h1,h2,h3,h4,h5⟩:=h.ex;exact⟨⟨w,l,d,nb,e.at h1,e.at h2,e.at h3,e.at h4,h5.at e⟩⟩
theorem ZD(l:List α)(z:α)(q:α->Bool):((List.range l.length).filter λi=>q (l.getD i z)).length=(l.filter q).length:=by
 have e:l=(List.range l.length).map λi=>l.getD i z:=by
  refine bP λi=>?_;rw[ag];by_cases hi:i<l.length
  ·rw[cg hi,ae hi];simp[List.getD,hi]
  ·rw[aP (),aP (by simpa using hi)]
   rfl
 conv=>rhs;rw[e,List.filter_map,ai]
 rfl
theorem Kr{q:Nat->Bool}{s:Nat}{S:Nat->Bool}(h:∀i,i<n->s.testBit i=S i):((Builtin.bitAnd ((iC n q:Nat):Int) (s:Nat)) != 0)=(List.range n).any λi=>S i&&q i:=by
 rw[BL,Nat.and_comm,yH,aU,aV,aV];constructor
 ·rintro⟨i,h1,h2⟩;exact⟨i,h1,by rw[<- h i (aX.mp h1)];exact h2⟩
 ·rintro⟨i,h1,h2⟩;exact⟨i,h1,by rw[h i (aX.mp h1)];exact h2⟩
theorem a39{s:Nat}(h:s<2 ^ n)(hi:i<n):(2 ^ n-1-s).testBit i=!s.testBit i:=by
 grind
theorem Q5(s p i:Nat):(s |||2 ^ p).testBit i=(s.testBit i||decide (i=p)):=by
 rw[Nat.testBit_or,Nat.testBit_two_pow]
 congr 1
 exact cW.mpr eq_comm
theorem Q2{s:Nat}(h:s<2 ^ n)(hp:p<n):s |||2 ^ p<2 ^ n:=Nat.or_lt_two_pow h (zd () hp)
section
variable{T:Nat->Option aY}{d:Nat}
theorem aC1(hT:TB0 T){r:eP}(ha:g[a]?=some (.lst (cs.map a9.d)))(hz:cs.length<=1000)(h:∀g',Ex g g'->Q (.bl (u3 cs r)) g'):b8 T (k+4) 88 [.ref a,r.d] g Q E:=by
 refine call_of hT.Oo rfl ?_;dsimp[CG,c7,List.replicate];left;refine A6 (l:=[.str r.w.s,.int r.x,.int r.y]) rfl ?_;left;refine T1 (in_words ?_);left;refine if2 (λh1=>?_) (λh1=>?_)
 ·have:u3 cs r=false:=by unfold u3;rw[aw h1];rfl
  rw[<- this];exact h _ (Ex.refl _)
 ·left;refine N1 (k:=k) hT.nf hT.lK hT.qY ha hz λg1 b1 e1 _ vw=>?_;left;refine ne_nil ((Ex.snoc _ _).at vw) b0 ?_;left;cases h2:(jE cs r.w r.x).isEmpty with
  |true =>
   refine fj rfl ?_;have:u3 cs r=false:=by unfold u3;rw[aE h1,h2];rfl
   rw[<- this];exact h _ (e1.trans (Ex.snoc _ _))
  |false =>
   refine gb rfl ?_;left;refine N1 (k:=k) hT.nf hT.lK hT.qY ((e1.trans (Ex.snoc _ _)).at ha) hz λg2 b2 e2 _ vt=>?_;left;refine ne_nil ((Ex.snoc _ _).at vt) b0 ?_;have:u3 cs r=!(jE cs r.w r.y).isEmpty:=by unfold u3;rw[aE h1,h2];rfl
   rw[<- this];exact h _ ((e1.trans (Ex.snoc _ _)).trans (e2.trans (Ex.snoc _ _)))
theorem XR(hT:TB0 T)(ha:g[a]?=some (.lst (cs.map a9.d)))(hz:cs.length<=1000)(hc:g[c]?=some (.lst (s9 rs)))(hr:rs.length<=900)(h:rs.all (u3 cs)=true->∀g',Ex g g'->Q .bR g')(hn:rs.all (u3 cs)=false->∀g',Ex g g'->False):b8 T (k+5) 89 [.ref a,.ref c] g Q E:=by
 refine call_of hT.Om rfl ?_;dsimp[T8,c7,List.replicate];left;refine u9 (a8 T _) (zP ?_);left;refine⟨c,_,rfl,a7 hc,mO (s9 rs),λi U g'=>Ex g g'/\(∃z2 z3,U=[some (.ref a),some (.ref c),z2,z3])/\(rs.take i).all (u3 cs)=true,λi U g' q=>yz (a7 (q.1.at hc)),⟨Ex.refl _,⟨none,none,rfl⟩,rfl⟩,λi x U g' hx q=>?_,λU g' q=>?_⟩
 ·obtain⟨e1,⟨z2,z3,rfl⟩,q⟩:=q;obtain⟨dd,hd,rfl⟩:=yI hx;rw[s9,ag,aa] at hd;obtain⟨r,gh,rfl⟩:=hd;have tk:rs.take (i+1)=rs.take i++[r]:=by rw[bu,gh];rfl
  refine A6 rfl ?_
  try show wpS _ _ _ _ _ _
  left;refine aC1 (k:=k) hT (e1.at ha) hz λg2 e2=>?_;left;cases hg:u3 cs r with
  |true =>
   left;exact⟨e1.trans e2,⟨_,_,rfl⟩,by rw[tk,List.all_append,q];simp[hg]⟩
  |false =>
   left;refine hn ?_ _ (e1.trans e2);rw[List.all_eq_false];exact⟨r,aF gh,by rw[hg];decide⟩
 ·obtain⟨e1,⟨z2,z3,rfl⟩,q⟩:=q;rw[L9,s9,ai,bY] at q;exact h q _ e1
theorem XQ(hT:TB0 T)(vC:T 42=some E3)(AE:T 98=some M6)(ha:g[a]?=some (.lst (cs.map a9.d)))(hz:cs.length<=1000)(hc:g[c]?=some (.lst (s9 rs)))(hr:rs.length<=900)(hm:9<cs.length->False)(hb:cs.length<=9->cs.all q9=false->False)(hv:cs.length<=9->cs.all q9=true->¬(1<=v/\v<=9)->False)(hw:cs.length<=9->cs.all q9=true->1<=v/\v<=9->rs.all (u3 cs)=false->∀g',Ex g g'->False)(h:cs.length<=9->cs.all q9=true->1<=v/\v<=9->rs.all (u3 cs)=true->∀g',Ex g g'->Q .bR g'):b8 T (k+7) 98 [.ref a,.int v,.ref c] g Q E:=by
 refine call_of AE rfl ?_;dsimp[M6,c7,List.replicate];left;refine W6 (k:=k) hT.nf hT.h2 hT.sX hT.vF ha hz hm hb λh9 hg=>?_;left;refine X' (k:=k+3) hT.nf vC (λv1 v2=>?_) (hv h9 hg);left;exact XR (k:=k+1) hT ha hz hc hr (h h9 hg ⟨v1,v2⟩) (hw h9 hg ⟨v1,v2⟩)
theorem Kf{f:Str}(fs:List (Str×D)):(k8 f x fs).length<=fs.length+1:=by
 induction fs with
 |nil=>simp[k8]
 |cons y r ih =>
  unfold k8;split<;>simp
  exact ih
theorem V0{f:Str}{fs:List (Str×D)}(h:fs.length+1<n):(k8 f x fs).length<n:=cY (Kf fs) h
theorem U9{f:Str}{fs:List (Str×D)}(h:fs.length+(m+1)<n):(k8 f x fs).length+m<n:=by
 have:=Kf (f:=f) (x:=x) fs;omega
def f3(n:Nat)(v:Int):List (Str×D):=[("size",.int n),("full",.int ((2 ^ n-1:Nat):Int)),("room",.int v)]
theorem W3(n:Nat)(v:Int):(f3 n v).length=3:=rfl
theorem XM(hT:TB0 T)(ha:g[a]?=some (.lst (cs.map a9.d)))(hz:cs.length<=9)(hg:cs.all q9=true)(hB:∀c∈cs,CB c)(hc:g[c]?=some (.lst (s9 rs)))(hr:rs.length<=900)(hb:g[b]?=some (.ins "Bounds" []))(h:∀g',g.length<=g'.length->(∀i,i<g.length->i≠b->g'[i]?=g[i]?)->Bd g' b cs v rs->Q .bR g'):b8 T (k+9) 113 [.ref b,.ref a,.int v,.ref c] g Q E:=by
 refine call_of hT.AR rfl ?_;dsimp[U0,c7,List.replicate];have uL:b≠a:=λz=>by subst z;rw[ha] at hb;cases hb
 have xn:b≠c:=λz=>by subst z;rw[hc] at hb;cases hb
 left;refine X6 hb (by simp) (by simp) ?_;left;have oj:=d5 (o':=O.ins "Bounds" (k8 "size" (.int (cs.map a9.d).length) [])) ha uL;refine C4 (a7 oj) ?_;refine CW ⟨by omega,by simp;omega,by decide⟩ ?_;left;refine X6 (get_set hb) (by simp) (by first|(simp;done)|(refine V0 ?_;repeat (first|(rw[W3];omega)|(simp;done)|refine U9 ?_))) ?_;rw[iz];left;refine X6 (get_set hb) (by simp) (by first|(simp;done)|(refine V0 ?_;repeat (first|(rw[W3];omega)|(simp;done)|refine U9 ?_))) ?_;rw[iz];have e0:k8 "room" (.int v) (k8 "full" (.int (1*2 ^ Int.toNat ((cs.map a9.d).length:Int)-1)) (k8 "size" (.int (cs.map a9.d).length) []))=(f3 cs.length v):=by
  have:(1*2 ^ Int.toNat ((cs.map a9.d).length:Int)-1:Int)=((2 ^ cs.length-1:Nat):Int):=by
   have:=fg (n:=cs.length);rw[Int.natCast_sub this];simp
  rw[this,ai]
  rfl
 simp only[e0];have kp:∀(g1:G) (o:O),Ex (g.set b o) g1->(∀i,i<g.length->i≠b->g1[i]?=g[i]?)/\g.length<=g1.length:=λg1 o e=>⟨λi hi hn=>by rw[e.old i (by simpa using hi),az (cz hn)],by have:=e.len;simpa using this⟩
 generalize ho:O.ins "Bounds" (f3 cs.length v)=o1;have vw:=get_set (o':=o1) hb;have oj:=d5 (o':=o1) ha uL;have qS:=d5 (o':=o1) hc xn;have k1:=kp _ o1 (Ex.refl _);generalize g.set b o1=g1 at *;subst ho;left;refine UU (k:=k+4) hT oj hz hB λg2 w e2 hw1 hw=>?_;left;refine X6 (e2.at vw) (by simp) (by rw[W3];omega) ?_;have lw:w≠b:=λz=>by have:=n4 vw;omega
 have Ax:=get_set (o':=O.ins "Bounds" (k8 "worn_by_place" (.ref w) (f3 cs.length v))) (e2.at vw);have Nf:=d5 (o':=O.ins "Bounds" (k8 "worn_by_place" (.ref w) (f3 cs.length v))) hw lw.symm;have xM:=d5 (o':=O.ins "Bounds" (k8 "worn_by_place" (.ref w) (f3 cs.length v))) (e2.at oj) uL;have xH:=d5 (o':=O.ins "Bounds" (k8 "worn_by_place" (.ref w) (f3 cs.length v))) (e2.at qS) xn;have k3:(∀i,i<g.length->i≠b->(g2.set b (O.ins "Bounds" (k8 "worn_by_place" (.ref w) (f3 cs.length v))))[i]?=g[i]?)/\g.length<=(g2.set b (O.ins "Bounds" (k8 "worn_by_place" (.ref w) (f3 cs.length v)))).length:=⟨λi hi hn=>by rw[az (cz hn),e2.old i ()];exact k1.1 i hi hn,by simp;have:=e2.len;omega⟩
 generalize g2.set b (O.ins "Bounds" (k8 "worn_by_place" (.ref w) (f3 cs.length v)))=g3 at *;left;refine YW (k:=k+4) hT xM hz λg4 l e4 jj hl=>?_;left;refine X6 (e4.at Ax) (by simp) (by first|(simp;done)|(refine V0 ?_;repeat (first|(rw[W3];omega)|(simp;done)|refine U9 ?_))) ?_;have ll:l≠b:=λz=>by have:=n4 Ax;omega
 generalize ho:O.ins "Bounds" (k8 "later_by_place" (.ref l) (k8 "worn_by_place" (.ref w) (f3 cs.length v)))=o5;have Aw:=get_set (o':=o5) (e4.at Ax);have Nc:=d5 (o':=o5) (e4.at Nf) lw.symm;have xE:=d5 (o':=o5) hl ll.symm;have Gh:=d5 (o':=o5) (e4.at xM) uL;have NP:=d5 (o':=o5) (e4.at xH) xn;have k5:(∀i,i<g.length->i≠b->(g4.set b o5)[i]?=g[i]?)/\g.length<=(g4.set b o5).length:=⟨λi hi hn=>by rw[az (cz hn),e4.old i ()];exact k3.1 i hi hn,by simp;have:=e4.len;omega⟩
 generalize g4.set b o5=g5 at *;subst ho;left;refine XC (k:=k) hT Gh hz hg λg6 dd e6 Ga hd=>?_;left;refine X6 (e6.at Aw) (by simp) (by first|(simp;done)|(refine V0 ?_;repeat (first|(rw[W3];omega)|(simp;done)|refine U9 ?_))) ?_;have ld:dd≠b:=λz=>by have:=n4 Aw;omega
 generalize ho:O.ins "Bounds" (k8 "lower_dies" (.ref dd) (k8 "later_by_place" (.ref l) (k8 "worn_by_place" (.ref w) (f3 cs.length v))))=o7;have Av:=get_set (o':=o7) (e6.at Aw);have Nb:=d5 (o':=o7) (e6.at Nc) lw.symm;have xD:=d5 (o':=o7) (e6.at xE) ll.symm;have NM:=d5 (o':=o7) hd ld.symm;have NU:=d5 (o':=o7) (e6.at Gh) uL;have NO:=d5 (o':=o7) (e6.at NP) xn;have k7:(∀i,i<g.length->i≠b->(g6.set b o7)[i]?=g[i]?)/\g.length<=(g6.set b o7).length:=⟨λi hi hn=>by rw[az (cz hn),e6.old i ()];exact k5.1 i hi hn,by simp;have:=e6.len;omega⟩
 generalize g6.set b o7=g7 at *;subst ho;left;refine YZ (k:=k+4) hT NU hz NO hr λg8 nb e8 xC hn=>?_;left;refine X6 (e8.at Av) (by simp) (by first|(simp;done)|(refine V0 ?_;repeat (first|(rw[W3];omega)|(simp;done)|refine U9 ?_))) ?_;have lb7:=n4 Av;have ln:nb≠b:=λz=>by omega
 generalize ho:O.ins "Bounds" (k8 "needed_by_place" (.ref nb) (k8 "lower_dies" (.ref dd) (k8 "later_by_place" (.ref l) (k8 "worn_by_place" (.ref w) (f3 cs.length v)))))=o9;refine h _ (by simp;have:=e8.len;omega) (λi hi hn=>by rw[az (cz hn),e8.old i ()];exact k7.1 i hi hn) ⟨⟨w,l,dd,nb,?_,d5 (e8.at Nb) lw.symm,d5 (e8.at xD) ll.symm,d5 (e8.at NM) ld.symm,?_⟩⟩
 ·rw[get_set (e8.at Av),<- ho]
  rfl
 ·obtain⟨as,q1,q2,q3,q4,q5⟩:=hn.ex;exact⟨⟨as,d5 q1 ln.symm,q2,q3,λx hx=>⟨by omega,(q4 x hx).2⟩,λi x hx=>let ⟨ms,m1,m2⟩:=q5 i x hx;⟨ms,d5 m1 (λz=>by have:=(q4 x (aF hx)).1;omega),m2⟩⟩⟩
end
section
variable{T:Nat->Option aY}{d:Nat}
theorem aD7(hT:TB T)(ha:g[a]?=some (.lst (cs.map a9.d)))(hz:cs.length<=1000)(hB:∀c∈cs,CB c)(hc:g[c]?=some (.lst (s9 rs)))(hr:rs.length<=900)(hm:9<cs.length->False)(hb:cs.length<=9->cs.all q9=false->False)(hv:cs.length<=9->cs.all q9=true->¬(1<=v/\v<=9)->False)(hw:cs.length<=9->cs.all q9=true->1<=v/\v<=9->rs.all (u3 cs)=false->∀g',Ex g g'->False)(h:cs.length<=9->cs.all q9=true->1<=v/\v<=9->rs.all (u3 cs)=true->∀g' b,Ex g g'->g.length<=b->Bd g' b cs v rs->Q (.ref b) g'):b8 T (k+10) 99 [.ref a,.int v,.ref c] g Q E:=by
 refine call_of hT.Oe rfl ?_;dsimp[CC,c7,List.replicate];left;refine XQ (k:=k+2) hT.toTB0 hT.vC hT.AE ha hz hc hr hm hb hv hw λh9 hg hv hR g1 e1=>?_;left;have x1:=Ex.snoc g1 (O.ins "Bounds" []);refine XM (k:=k) hT (x1.at (e1.at ha)) h9 hg hB (x1.at (e1.at hc)) hr b0 λg2 l2 o2 B2=>?_;refine⟨rfl,h h9 hg hv hR g2 _ ⟨by have:=e1.len;simp at l2;omega,λi hi=>?_⟩ e1.len B2⟩;have:=e1.len;rw[o2 i (by simp;omega) (),x1.old i ()];exact e1.old i hi
theorem F8(hT:TB T)(ha:g[a]?=some (.lst (cs.map a9.d)))(hz:cs.length<=9)(hg:cs.all q9=true)(hB:∀c∈cs,CB c)(hv:1<=v/\v<=9)(hc:g[c]?=some (.lst (s9 rs)))(hr:rs.length<=900)(hR:rs.all (u3 cs)=true)(h:∀g' b,Ex g g'->g.length<=b->Bd g' b cs v rs->Q (.ref b) g'):b8 T (k+10) 99 [.ref a,.int v,.ref c] g Q E :=
 aD7 hT ha () hB hc hr (λz=>by omega) (λ_ z=>by rw[hg] at z;cases z) (λ_ _ z=>absurd hv z) (λ_ _ _ z=>by rw[hR] at z;cases z) λ_ _ _ _=>h
theorem XS(hT:TB0 T)(B:Bd g b cs v rs)(hz:cs.length<=9){s:Nat}(hs:s<2 ^ cs.length)(hp:p<cs.length)(h:∀g',Ex g g'->Q (.int (vY cs s.testBit p:Nat)) g'):b8 T (k+2) 100 [.ref b,.int (s:Nat),.int (p:Nat)] g Q E:=by
 refine call_of hT.AY rfl ?_;dsimp[Y8,c7,List.replicate];obtain⟨w,l,dd,nb,h1,h2,h3,h4,h5⟩:=B.ex;left;refine v9 (k:=k) hT.om () ?_;left;refine O3 h1 rfl ?_;left;have e1:((2 ^ cs.length-1:Nat):Int)-(s:Nat)=((2 ^ cs.length-1-s:Nat):Int):=by omega
 rw[e1];have Ai:(n5 (cs.map a9.lo)).length<=9:=aC (R5 _) (by simpa using hz);have NK:(U4 cs).length=(n5 (cs.map a9.lo)).length:=by simp[U4]
 refine x5 (a8 T _) (λU=>∃z2 z3,U=[some (.int ((2 ^ cs.length-1-s:Nat):Int)),some (.int ((s |||2 ^ p:Nat):Int)),z2,z3]) (λi=>X3 cs s.testBit p ((n5 (cs.map a9.lo)).getD i 0)) (λi=>(U4 cs).getD i .bR) (l:=U4 cs) (k:=.lst dd) (λg' e=>k4 (a7 (e.at h4))) () ⟨none,none,rfl⟩ (λi x U g' hx e sh=>?_) (λg' e=>?_) (K8 (a8 T _) (a7 h4) λQ q=>?_)
 ·obtain⟨z2,z3,rfl⟩:=sh;have xu:=hx;rw[U4,ag,aa] at xu;obtain⟨nN,hd,rfl⟩:=xu;have eg:(n5 (cs.map a9.lo)).getD i 0=nN:=by simp[List.getD,hd]
  refine i6 ?_;left;refine wc ?_;left;have b1:=Kr (n:=cs.length) (q:=meant cs .lower nN) (s:=s |||2 ^ p) (S:=λi=>s.testBit i||decide (i=p)) (λi _=>Q5 s p i);have b2:=Kr (n:=cs.length) (q:=meant cs .lower nN) (s:=2 ^ cs.length-1-s) (S:=λi=>!s.testBit i) (λi hi=>a39 hs hi);rw[b1,eg];have hu:X3 cs s.testBit p nN=(((List.range cs.length).any λi=>(s.testBit i||decide (i=p))&&meant cs .lower nN i)&&(List.range cs.length).any λi=>!s.testBit i&&meant cs .lower nN i):=rfl;rw[hu];cases (List.range cs.length).any λi=>(s.testBit i||decide (i=p))&&meant cs .lower nN i with
  |false =>
   refine fj rfl ?_;exact⟨rfl,e,fj rfl ⟨_,_,rfl⟩⟩
  |true =>
   refine gb rfl ?_;left;refine wc ?_;left;rw[b2,jX];refine⟨rfl,e,?_⟩;cases (List.range cs.length).any λi=>!s.testBit i&&meant cs .lower nN i with
   |false=>exact fj rfl ⟨_,_,rfl⟩
   |true =>
    refine gb rfl ?_;left;refine⟨?_,e,_,_,rfl⟩;simp[List.getD,hx]
 ·refine C4 (a7 b0) ?_;have:(((List.range (U4 cs).length).filter λi=>X3 cs s.testBit p ((n5 (cs.map a9.lo)).getD i 0)).map λi=>(U4 cs).getD i .bR).length=vY cs s.testBit p:=by
   rw[ai,NK,ZD (n5 (cs.map a9.lo)) 0 (X3 cs s.testBit p)]
   rfl
  rw[this];exact h _ (e.trans (Ex.snoc _ _))
 ·left;exact O3 h1 rfl q
theorem JI{q:a9->a9->Bool}(hp:p<cs.length):gs (sr cs q) (p:Int)=some (.int ((iC cs.length λj=>q (bV cs j) (bV cs p):Nat):Int)):=C1 (by rw[sr,ag,cg hp];rfl)
theorem Ks{s:Nat}{q:Nat->Bool}:((Builtin.bitAnd (s:Nat) ((iC n q:Nat):Int)) != 0)=(List.range n).any λi=>s.testBit i&&q i:=by rw[BL,yH]
theorem XE(hT:TB0 T)(B:Bd g b cs v rs)(hz:cs.length<=9)(hr:rs.length<=900){s:Nat}(hs:s<2 ^ cs.length)(hp:p<cs.length)(h:∀g',Ex g g'->Q (xT (fault cs v rs s.testBit p)) g'):b8 T (k+3) 101 [.ref b,.int (s:Nat),.int (p:Nat)] g Q E:=by
 refine call_of hT.AX rfl ?_;dsimp[Y3,c7,List.replicate];obtain⟨w,l,dd,nb,h1,h2,h3,h4,h5⟩:=B.ex;left;refine O3 h1 rfl ?_;left;refine m8 (a7 h2) (JI hp) ?_;refine wc ?_;left;rw[Ks];cases c1:(List.range cs.length).any λi=>s.testBit i&&mw (bV cs i) (bV cs p) with
 |true =>
  refine gb rfl ?_;have:fault cs v rs s.testBit p="wear":=by unfold fault F9;rw[aJ c1]
  rw[this] at h;exact h _ (Ex.refl _)
 |false =>
 refine fj rfl ?_;left;refine O3 h1 rfl ?_;left;refine m8 (a7 h3) (JI hp) ?_;refine wc ?_;left;rw[Ks];cases c2:(List.range cs.length).any λi=>s.testBit i&&kr (bV cs i) (bV cs p) with
 |true =>
  refine gb rfl ?_;have:fault cs v rs s.testBit p="year":=by unfold fault F9 F1;rw[aD (by rw[c1];decide),aJ c2]
  rw[this] at h;exact h _ (Ex.refl _)
 |false =>
 refine fj rfl ?_;left;refine XS (k:=k) hT B hz hs hp λg2 e2=>?_;left;refine O3 (e2.at h1) rfl ?_;left;refine if2 (λc3=>?_) (λc3=>?_)
 ·have:fault cs v rs s.testBit p="anvil":=by unfold fault F9 F1;rw[aD (by rw[c1];decide),aD (by rw[c2];decide),aJ c3]
  rw[this] at h;exact h _ e2
 left;obtain⟨as,q1,q2,q3,q4,q5⟩:=h5.ex;have Nl:p<as.length:=by omega
 have Ay:=ae Nl;generalize as[p]=ap at Ay;obtain⟨ms,m1,m2,m3⟩:=q5 p ap Ay;refine comp_map (a8 T _) (λU=>∃z1 z2,U=[some (.int (s:Nat)),z1,z2]) (λi=>.int ((s &&& ms.getD i 0:Nat):Int)) (l:=b7 ms) (k:=.lst ap) (λg' e=>k4 (a7 ((e2.trans e).at m1))) (by simp[b7];omega) ⟨none,none,rfl⟩ (λi x U g' hx e sh=>?_) (λg' e=>?_) (K8 (a8 T _) (a7 (e2.at m1)) λQ q=>?_)
 ·obtain⟨z1,z2,rfl⟩:=sh;rw[b7,ag,aa] at hx;obtain⟨m,hm,rfl⟩:=hx;refine i6 ?_;left;refine wc ?_;refine⟨?_,e,_,_,rfl⟩;rw[BL];simp[List.getD,hm]
 ·refine Wq (ns:=(List.range (b7 ms).length).map λi=>((s &&& ms.getD i 0:Nat):Int)) (a7 (by rw[bZ];exact b0)) ?_;have en:(((List.range (b7 ms).length).map λi=>((s &&& ms.getD i 0:Nat):Int)).all λn=>n != 0)=P1 cs rs s.testBit p:=by
   rw[aU,cN];unfold P1;rw[cN];constructor
   ·intro hA r hr;cases Ae:meant cs r.w r.y p with
    |false=>rfl
    |true =>
     have hm:=(m3 (iC cs.length (meant cs r.w r.x))).mpr ⟨r,hr,Ae,rfl⟩;obtain⟨i,hi⟩:=fN.mp hm;have FN:=(au.mp hi).1;have:=hA ((s &&& iC cs.length (meant cs r.w r.x):Nat):Int) (aH.mpr ⟨i,aX.mpr (by simpa[b7] using FN),by simp[List.getD,hi]⟩);rw[yH] at this;exact this
   ·intro hA x hx;obtain⟨i,hi,rfl⟩:=aH.mp hx;have hi:i<ms.length:=by simpa[b7] using hi
    have hm:ms.getD i 0∈ms:=by simp[List.getD,hi]
    obtain⟨r,hr,Ae,em⟩:=(m3 _).mp hm;have:=hA r hr;rw[Ae,Bool.not_true,qg] at this;rw[em,yH];exact this
  rw[en];left;cases c4:P1 cs rs s.testBit p with
  |true =>
   have:fault cs v rs s.testBit p="":=by unfold fault F9 F1;rw[aD (by rw[c1];decide),aD (by rw[c2];decide),aD c3,aJ c4]
   rw[this] at h;exact h _ (e2.trans (e.trans (Ex.snoc _ _)))
  |false =>
   have:fault cs v rs s.testBit p="rule":=by unfold fault F9 F1;rw[aD (by rw[c1];decide),aD (by rw[c2];decide),aD c3,aD (by rw[c4];decide)]
   rw[this] at h;exact h _ (e2.trans (e.trans (Ex.snoc _ _)))
 ·left;refine O3 (e2.at h1) rfl ?_;left;exact m8 (a7 (e2.at q1)) (C1 (by rw[ag,Ay];rfl)) q
end
def tQ:aY:=⟨2,5,(.seq (.set 2 (cR (.prim .lst (lx (iH "coin") (iH "coin") (iH "lower") (iH "upper"))) (.call 4 (dC aM (bh 4))))) (.seq (.set 3 (dj .jf (dj .len bj))) (.seq (.ifs (dS .Eq bq (iH "lower")) (.seq (.set 3 (dj .sset (.comp [] 2 (.one 1) (.eY bj) .no (cR bj (bh 0))))) .pass) .pass) (.seq (.ifs (dS .Eq bq (iH "upper")) (.seq (.set 3 (dj .sset (.comp [] 2 (.one 1) (.eY bj) .no (cR bj (bh 2))))) .pass) .pass) (.seq (.ifs (dS .Lt (dj .len bz) (bh 2)) (.seq (.ret (.lit .bR)) .pass) .pass) (.seq (.set 4 (.call 4 (dC aM (dj .len bz)))) (.seq (.ret (.prim .tup (gJ bq (cR bz cx) (cR bz (bI (.bin .Mod) (bI (.bin .Add) (bI (.bin .Add) cx (bh 1)) (.call 4 (dC aM (bI (.bin .Sub) (dj .len bz) (bh 1))))) (dj .len bz)))))) .pass)))))))⟩
def DM:aY:=⟨2,5,(.seq (.set 2 (.prim .lst .nil)) (.seq (.dM (.one 3) (.eO (cR (.prim .lst (Gw (bh 0) (bh 0) (bh 1) (bh 1) (bh 2) (bh 4))) (.call 4 (dC aM (bh 6))))) (.seq (.set 4 (.call 105 (dC aM bj))) (.seq (.ifs (dS .IsNot cx (.lit .bR)) (.seq (.expr (.eX .append bq (fk cx))) .pass) .pass) .pass))) (.seq (.ret bq) .pass)))⟩
def CJ:aY:=⟨4,8,(.seq (.lX (.many [4,5,6]) bz) (.seq (.ifs (dS .Eq cx (iH "coin")) (.seq (.ret (.jd (bI (.cmp .NotEq) bq eB) (bI (.cmp .In) dY bj))) .pass) .pass) (.seq (.set 7 (.ite (dS .Eq cx (iH "lower")) (bh 0) (bh 2))) (.seq (.ret (.jd (bI (.cmp .NotEq) (cR (cR aM bq) gL) eB) (bI (.cmp .In) dY (.comp [7,0] 4 (.one 3) (.eY bj) .no (cR (cR bj bz) aM))))) .pass))))⟩
def wq:aY:=⟨5,10,(.seq (.set 5 (cR aM cx)) (.seq (.dM (.one 6) (.eY bz) (.seq (.dM (.one 7) (.eY (bI .lst (bh 0) (bh 2))) (.seq (.ifs (.dA (dS .Eq (cR (cR aM eB) gL) (cR dY gL)) (.dQ (.fG (.call 17 (dC (cR (cR aM eB) (bI (.bin .Add) gL (bh 1))) (cR dY (bI (.bin .Add) gL (bh 1)))))))) (.seq (.ret (iH "wear")) .pass) .pass) .pass)) .pass)) (.seq (.ifs (.dA (dS .Gt (cR dY (bh 4)) (bh 0)) (dS .Gt (dj .max (bI (.bin .Add) (dj .lst (bh 0)) (.comp [0] 3 (.one 2) (.eY bz) .no (cR (cR aM bq) (bh 4))))) (cR dY (bh 4)))) (.seq (.ret (iH "year")) .pass) .pass) (.seq (.set 8 (bI (.bin .Add) (.comp [0] 3 (.one 2) (.eY bz) .no (cR (cR aM bq) (bh 0))) (dj .lst (cR dY (bh 0))))) (.seq (.set 9 (.comp [3,0] 4 (.one 3) (.eO (dj .len aM)) (dS .NotIn bz aM) (cR (cR bj bz) (bh 0)))) (.seq (.ifs (dS .Gt (dj .pZ (.comp [9] 3 (.one 2) (.eY mh) (dS .In bq aM) bq)) bj) (.seq (.ret (iH "anvil")) .pass) .pass) (.seq (.ifs (.dQ (.fG (dj .all (.comp [3,0,4] 5 (.one 4) (.eY bq) .no (.call 107 (lx bj aM bq cx)))))) (.seq (.ret (iH "rule")) .pass) .pass) (.seq (.ret (iH "")) .pass))))))))⟩
def yC:aY:=⟨2,4,(.seq (.lX (.many [2,3]) (.call 26 (dC aM bj))) (.seq (.ret (.prim .tup (gJ bq bz (.call 106 (dC aM bq))))) .pass))⟩
structure TBR(T:Nat->Option aY):Prop where
 lf:LF T
 AW:T 105=some tQ
 AV:T 106=some DM
structure qc(T:Nat->Option aY):Prop extends TBR T where
 AG:T 17=some Y4
 AU:T 107=some CJ
 AS:T 108=some wq
 rj:T 110=some yC
instance{T:Nat->Option aY}:CoeOut (qc T) (TBR T):=⟨qc.toTBR⟩
theorem JC{x:Int}(hi:i<cs.length)(h:meant cs w x i=true):(jE cs w x).isEmpty=false:=by
 cases e:jE cs w x with
 |nil =>
  have:i∈jE cs w x:=bH.mpr ⟨aX.mpr hi,h⟩
  simp_all
 |cons _ _=>rfl
section
variable{T:Nat->Option aY}{d:Nat}
theorem Ic{ns:List Int}{x:Int}:x∈n5 ns↔x∈ns:=by
 rw[(K3 ns).mem_iff,ST.P4];simp
theorem Co(ns:List Int):(n5 ns).Nodup:=(K3 ns).nodup_iff.mpr (ST.CK _ _ (by simp))
theorem Il(hT:TBR T)(D0:j4 g d){L:List Int}{sL:Nat}(hN:N.rt=Q)(hL:g[sL]?=some (.lst (L.map .int)))(hd:sL≠d)(nd:L.Nodup)(hl:L.length<=9)(hm:∀x∈L,(jE cs w x).isEmpty=false)(h:∀g',j4 g' d->Gr d g g'->Q .bR g'/\∀r,u3 cs r=true->Q r.d g'):wpS (b8 T (k+1)) (match tQ.body with|.seq _ (.seq _ (.seq _ (.seq _ b)))=>b|x=>x) N [some (.ref d),some (.ref a),some (.str w.s),some (.ref sL),none] g E:=by
 subst hN;dsimp[tQ];left;refine if2 (λh2=>?_) (λh2=>?_)
 ·exact(h g D0 (Gr.refl _ _)).1
 rw[ai] at h2;left;refine f9 (k:=k) hT.lf.pull D0 (by rw[ai];omega) (by rw[ai];omega) λr1 g1 h0 h1 D1 G1=>?_;rw[ai] at h1;left;obtain⟨j,rfl⟩:∃j:Nat,r1=j:=⟨r1.toNat,by omega⟩
 have hj:j<L.length:=by omega
 have gj:gs (L.map D.int) (j:Int)=some (.int L[j]):=C1 (by rw[ag,ae hj];rfl);refine m8 (a7 (G1.at hd hL)) gj ?_;left;refine C4 (a7 (G1.at hd hL)) ?_;left;refine f9 (k:=k) hT.lf.pull D1 (by grind) (by grind) λr2 g2 k0 k1 D2 G2=>?_;rw[ai] at k1;left;have qU:=(G1.trans G2).at hd hL;refine C4 (a7 qU) ?_;refine Q1 (by rw[ai];omega) ?_;obtain⟨j2,rfl⟩:∃j:Nat,r2=j:=⟨r2.toNat,by omega⟩
 have em:((j:Int)+1+(j2:Nat)) % ((L.map D.int).length:Nat)=(((j+1+j2) % L.length:Nat):Int):=by simp
 rw[em];have qN:(j+1+j2) % L.length<L.length:=LL _ ();have fF:(j+1+j2) % L.length≠j:=by
  by_cases hc:j+1+j2<L.length
  ·rw[Nat.mod_eq_of_lt hc];omega
  ·rw[Nat.mod_eq_sub_mod (),Nat.mod_eq_of_lt ()];omega
 generalize (j+1+j2) % L.length=j3 at *;have OE:gs (L.map D.int) (j3:Int)=some (.int L[j3]):=C1 (by rw[ag,ae qN];rfl);refine m8 (a7 qU) OE ?_;left;refine(h g2 D2 (G1.trans G2)).2 ⟨w,L[j],L[j3]⟩ ?_;unfold u3;rw[hm _ (cy hj),hm _ (cy qN),aE (λz=>fF ((lU nd).mp z).symm)]
 rfl
theorem Um(hT:TBR T)(ha:g[a]?=some (.lst (cs.map a9.d)))(hz:cs.length<=9)(hd:d<a)(D0:j4 g d)(h:∀g',j4 g' d->Gr d g g'->Q .bR g'/\∀r,u3 cs r=true->Q r.d g'):b8 T (k+2) 105 [.ref d,.ref a] g Q E:=by
 refine call_of hT.AW rfl ?_;dsimp[tQ,c7,List.replicate];left;refine f9 (k:=k) hT.lf.pull (D0.snoc _) ∅ ∅ λr0 g1 h0 h1 D1 G1=>?_;have En:=(Gr.snoc d g _).trans G1;have oj:=En.at (bO hd) ha;have l1:=En.len;have dl:=D0.lt;have hw:∃w:RW,gs [D.str "coin",D.str "coin",D.str "lower",D.str "upper"] r0=some (.str w.s):=by
  obtain⟨j,rfl⟩:∃j:Nat,r0=j:=⟨r0.toNat,by omega⟩
  have:j=0\/j=1\/j=2\/j=3:=by omega
  rcases this with rfl|rfl|rfl|rfl
  ·exact⟨.fQ,rfl⟩
  ·exact⟨.fQ,rfl⟩
  ·exact⟨.lower,rfl⟩
  ·exact⟨.upper,rfl⟩
 obtain⟨w,hw⟩:=hw;refine m8 (a7 (G1.at (bO dl) b0)) hw ?_;left;refine zJ () (by simp;omega) ?_;left;have e2:=Ex.snoc g1 (O.lst (j6 0 (Int.toNat ((cs.map a9.d).length:Nat))));have pH:=b0 (g:=g1) (o:=O.lst (j6 0 (Int.toNat ((cs.map a9.d).length:Nat))));generalize g1++[O.lst (j6 0 (Int.toNat ((cs.map a9.d).length:Nat)))]=g2 at *;have xN:=e2.at oj;have D2:=e2.draw D1;have G2:=En.trans (e2.gr d);have fld:∀(f:Int) (w:RW) (N:Ends),(f=0\/f=2)->(∀i c,cs[i]?=some c->∀x,meant cs w x i=decide (A3 f c=x))->N.rt=Q->bp (b8 T (k+1)) (.prim .sset (.cons (.comp [] 2 (.one 1) (.eY (.var 1)) .no (.prim .ix (.cons (.var 1) (.cons (.lit (.int f)) .nil)))) .nil)) [some (.ref d),some (.ref a),some (.str w.s),some (.ref g1.length),none] g2 (λx g3=>wpS (b8 T (k+1)) (match tQ.body with|.seq _ (.seq _ (.seq _ (.seq _ b)))=>b|x=>x) N [some (.ref d),some (.ref a),some (.str w.s),some x,none] g3 E) E:=λf w N hf hm hN=>by
  left;refine comp_map (a8 T _) (λU=>∃z0 z1,U=[z0,z1]) (λi=>.int (A3 f (bV cs i))) (l:=cs.map a9.d) (k:=.lst a) (λg' e=>k4 (a7 (e.at xN))) (by simp;omega) ⟨none,none,rfl⟩ (λi x U g' hx e sh=>?_) (λg' e=>?_) (K8 (a8 T _) (a7 xN) λQ q=>w_var (d:=.ref a) rfl q)
  ·obtain⟨z0,z1,rfl⟩:=sh;rw[ag,aa] at hx;obtain⟨c,hc,rfl⟩:=hx;refine i6 ?_;left;refine v5 (L1 hf c) ?_;exact⟨by rw[C0 hc],e,_,_,rfl⟩
  ·refine JB (ns:=(List.range cs.length).map λi=>A3 f (bV cs i)) (a7 (by rw[bZ];rw[b0,ai];rfl)) (by simp;omega) ?_;have e3:=(e.trans (Ex.snoc g' (O.lst ((List.range (cs.map a9.d).length).map λi=>D.int (A3 f (bV cs i)))))).trans (Ex.snoc _ (O.lst ((n5 ((List.range cs.length).map λi=>A3 f (bV cs i))).map .int)));have Ai:(n5 ((List.range cs.length).map λi=>A3 f (bV cs i))).length<=9:=aC (R5 _) (by simpa using hz);refine Il (k:=k) hT (e3.draw D2) hN b0 (by have:=D2.lt;have:=e.len;simp;omega) (Co _) Ai (λx hx=>?_) λg4 D4 G4=>h g4 D4 (G2.trans ((e3.gr d).trans G4));rw[Ic] at hx;obtain⟨i,hi,rfl⟩:=aH.mp hx;have hi:=aX.mp hi;have hc:=ae hi;refine JC hi ?_;rw[hm i _ hc,C0 hc];exact aw rfl
 cases w with
 |fQ =>
  refine fj (by decide +kernel) ?_;left;refine fj (by decide +kernel) ?_;have er:j6 0 (Int.toNat ((cs.map a9.d).length:Nat))=((List.range cs.length).map λ(i:Nat)=>(i:Int)).map D.int:=by
   simp[j6]
  refine Il (k:=k) hT (w:=.fQ) (L:=(List.range cs.length).map λ(i:Nat)=>(i:Int)) D2 rfl (by rw[<- er];exact pH) () ?_ (by simpa using hz) (λx hx=>?_) λg4 D4 G4=>h g4 D4 (G2.trans G4)
  ·exact kP.mpr (lT.imp λh e=>h ())
  ·obtain⟨i,hi,rfl⟩:=aH.mp hx;exact JC (aX.mp hi) (aw rfl)
 |lower =>
  refine gb (by decide +kernel) ?_;refine Q6 ?_;refine yt ?_;refine b9 (a8 T _) _ _ _ _ _ _ _ (λx g3 q=>?_) (λ_ _ z=>z) (fld 0 .lower ⟨λ_ g'=>Q .bR g',Q,λ_ _=>False,λ_ _=>False⟩ (.inl rfl) (λi c hc x=>by simp only[meant,C0 hc];rfl) rfl);refine yq ?_;left;refine fj (by decide +kernel) ?_;exact q
 |upper =>
  refine fj (by decide +kernel) ?_;left;refine gb (by decide +kernel) ?_;refine Q6 ?_;refine yt ?_;exact fld 2 .upper _ (.inr rfl) (λi c hc x=>by simp only[meant,C0 hc];rfl) rfl
end
section
variable{T:Nat->Option aY}{d:Nat}
theorem a08(hT:TBR T)(ha:g[a]?=some (.lst (cs.map a9.d)))(hz:cs.length<=9)(hd:d<a)(D0:j4 g d)(h:∀(rs:List eP) b g',rs.length<=4->rs.all (u3 cs)=true->g'[b]?=some (.lst (s9 rs))->g.length<=b->j4 g' d->Gr d g g'->Q (.ref b) g'):b8 T (k+3) 106 [.ref d,.ref a] g Q E:=by
 refine call_of hT.AV rfl ?_;dsimp[DM,c7,List.replicate];left;have dl:=D0.lt;have e1:=Ex.snoc g (O.lst []);have FX:=b0 (g:=g) (o:=O.lst []);have D1:=D0.snoc (O.lst []);generalize g++[O.lst []]=g1 at *;refine u9 (a8 T _) (U2 (a8 T _) ?_);left;refine f9 (k:=k+1) hT.lf.pull (D1.snoc _) ∅ ∅ λr0 g2 h0 h1 D2 G2=>?_;have l1:=n4 FX;have hw:∃j:Nat,j<=4/\gs [D.int 0,D.int 0,D.int 1,D.int 1,D.int 2,D.int 4] r0=some (.int (j:Nat)):=by
  obtain⟨j,rfl⟩:∃j:Nat,r0=j:=⟨r0.toNat,by omega⟩
  have:j=0\/j=1\/j=2\/j=3\/j=4\/j=5:=by omega
  rcases this with rfl|rfl|rfl|rfl|rfl|rfl
  ·exact⟨0,by decide,rfl⟩
  ·exact⟨0,by decide,rfl⟩
  ·exact⟨1,by decide,rfl⟩
  ·exact⟨1,by decide,rfl⟩
  ·exact⟨2,by decide,rfl⟩
  ·exact⟨4,by decide,rfl⟩
 obtain⟨j,hj,hw⟩:=hw;refine m8 (a7 (G2.at () b0)) hw ?_;refine⟨j,rfl,by omega,by omega,_,λi U g'=>j4 g' d/\Gr d g g'/\(∃rs:List eP,rs.length<=i/\rs.all (u3 cs)=true/\g'[g.length]?=some (.lst (s9 rs)))/\∃z3 z4,U=[some (.ref d),some (.ref a),some (.ref g.length),z3,z4],λ_ _ _ _=>u7,⟨D2,(e1.gr d).trans ((Gr.snoc d g1 _).trans G2),⟨[],by simp,rfl,((Gr.snoc d g1 _).trans G2).at () FX⟩,none,none,rfl⟩,λi x U g' hx q=>?_,λU g' q=>?_⟩
 ·obtain⟨D3,G3,⟨rs,hl,hA,hF⟩,z3,z4,rfl⟩:=q;obtain⟨hi,rfl⟩:=x6 hx;have hi:i<j:=by simpa using hi
  refine i6 ?_
  try show wpS _ _ _ _ _ _
  left;have xM:=G3.at (bO hd) ha;refine Um (k:=k) hT xM hz hd D3 λg4 D4 G4=>⟨?_,λr hr=>?_⟩
  ·left;exact⟨D4,G3.trans G4,⟨rs,by omega,hA,G4.at () hF⟩,_,_,rfl⟩
  ·left;refine gb rfl ?_;have Gu:=G4.at () hF;left;refine P5 Gu (by simp[s9];omega) ?_;refine⟨D4.I0 (),(G3.trans G4).I0 (av _),⟨rs++[r],by simp;omega,by rw[List.all_append,hA];simp[hr],?_⟩,_,_,rfl⟩;rw[get_set Gu];simp[s9]
 ·obtain⟨D3,G3,⟨rs,hl,hA,hF⟩,z3,z4,rfl⟩:=q;rw[j9] at hl;left;exact h rs _ _ (by simp at hl;omega) hA hF (av _) D3 G3
theorem a12(hT:TBR T)(rj:T 110=some yC){n:Int}(hn:0<=n/\n<=9)(D0:j4 g d)(h:∀(cs:List a9) (rs:List eP) a c (v:Int) g',(cs.length:Int)<=n->(∀c∈cs,jH c)->g'[a]?=some (.lst (cs.map a9.d))->g.length<=a->rs.length<=4->rs.all (u3 cs)=true->g'[c]?=some (.lst (s9 rs))->g.length<=c->a≠c->1<=v->v<=6->j4 g' d->Gr d g g'->Q (.tup [.ref a,.int v,.ref c]) g'):b8 T (k+5) 110 [.ref d,.int n] g Q E:=by
 refine call_of rj rfl ?_;dsimp[yC,c7,List.replicate];left;refine ZK (k:=k) hT.lf ⟨hn.1,by omega⟩ D0 λcs a v g1 hl hg ha xK v1 v2 D1 G1=>?_;refine A6 rfl ?_;left;have dl:=D0.lt;refine a08 (k:=k+1) hT ha () () D1 λrs c g2 hr hR hc jG D2 G2=>?_;left;exact h cs rs a c v g2 hl hg (G2.at () ha) xK hr hR hc (aC G1.len jG) (aK (ay (n4 ha) jG)) v1 v2 D2 (G1.trans G2)
theorem SV{x:Int}:((H.map λ(i:Nat)=>(i:Int)).any λm=>m==x)=H.any λi=>decide ((i:Int)=x):=by
 rw[kR]
 rfl
theorem yw(hH:∀i∈H,i<n)(q:Nat->Bool):((List.range n).any λi=>decide (i∈H)&&q i)=H.any q:=by
 rw[aU,aV,aV];constructor
 ·rintro⟨i,_,h⟩;rw[aT,bL] at h;exact⟨i,h.1,h.2⟩
 ·rintro⟨i,h1,h2⟩;exact⟨i,aX.mpr (hH i h1),by rw[aw h1,h2];rfl⟩
theorem J9(hi:i<cs.length):gs (cs.map a9.d) (i:Int)=some (bV cs i).d:=C1 (by rw[ag,ae hi,C0 (ae hi)];rfl)
theorem Xw(hT:qc T){r:eP}(ha:g[a]?=some (.lst (cs.map a9.d)))(hh:g[hl]?=some (.lst (b7 H)))(hH:∀i∈H,i<cs.length)(qW:H.length<=50)(hp:p<cs.length)(h:∀g',Ex g g'->Q (.bl (!meant cs r.w r.y p||(List.range cs.length).any λi=>decide (i∈H)&&meant cs r.w r.x i)) g'):b8 T (k+1) 107 [.ref a,.ref hl,.int (p:Nat),r.d] g Q E:=by
 refine call_of hT.AU rfl ?_;dsimp[CJ,c7,List.replicate];simp only[yw hH] at h;left;refine A6 (l:=[.str r.w.s,.int r.x,.int r.y]) rfl ?_;left;have nN:∀(w:RW) (f:Int),(f=0\/f=2)->(∀i x,meant cs w x i=decide (A3 f (bV cs i)=x))->(∀g',Ex g g'->Q (.bl (!meant cs w r.y p||H.any λi=>meant cs w r.x i)) g')->bp (b8 T k) (.jd (.prim (.cmp .NotEq) (.cons (.prim .ix (.cons (.prim .ix (.cons (.var 0) (.cons (.var 2) .nil))) (.cons (.var 7) .nil))) (.cons (.var 6) .nil))) (.prim (.cmp .In) (.cons (.var 5) (.cons (.comp [7,0] 4 (.one 3) (.eY (.var 1)) .no (.prim .ix (.cons (.prim .ix (.cons (.var 1) (.cons (.var 3) .nil))) (.cons (.var 0) .nil)))) .nil)))) [some (.ref a),some (.ref hl),some (.int (p:Nat)),some r.d,some (.str w.s),some (.int r.x),some (.int r.y),some (.int f)] g Q E:=λw f hf hm h=>by
  left;refine m8 (a7 ha) (J9 hp) ?_;left;refine v5 (L1 hf _) ?_;left;rw[hm] at h;by_cases c1:A3 f (bV cs p)=r.y
  ·refine fj (by rw[aw c1];rfl) ?_;left;refine comp_map (a8 T _) (λU=>∃z2 z3,U=[some (.int f),some (.ref a),z2,z3]) (λi=>.int (A3 f (bV cs (H.getD i 0)))) (l:=b7 H) (k:=.lst hl) (λg' e=>k4 (a7 (e.at hh))) (by simp[b7];omega) ⟨none,none,rfl⟩ (λi x U g' hx e sh=>?_) (λg' e=>?_) (K8 (a8 T _) (a7 hh) λQ q=>w_var (d:=.ref hl) rfl q)
   ·obtain⟨z2,z3,rfl⟩:=sh;rw[b7,ag,aa] at hx;obtain⟨j,hj,rfl⟩:=hx;refine i6 ?_;left;refine m8 (a7 (e.at ha)) (J9 (hH j (aF hj))) ?_;left;refine v5 (L1 hf _) ?_;exact⟨by simp[List.getD,hj],e,_,_,rfl⟩
   ·refine tG (J8 (ms:=(List.range (b7 H).length).map λi=>A3 f (bV cs (H.getD i 0))) (a7 (by rw[bZ];exact b0)) ?_);have e2:(((List.range (b7 H).length).map λi=>A3 f (bV cs (H.getD i 0))).any λm=>m==r.x)=(H.any λi=>meant cs w r.x i):=by
     rw[kR,aU,aV,aV];constructor
     ·rintro⟨i,hi,h1⟩;have hi:i<H.length:=by simpa[b7] using hi
      refine⟨H[i],cy hi,?_⟩;rw[hm];simpa[List.getD,hi] using h1
     ·rintro⟨j,hj,h1⟩;obtain⟨i,hi,rfl⟩:=bg.mp hj;refine⟨i,by simpa[b7] using hi,?_⟩;rw[hm] at h1;simpa[List.getD,hi] using h1
    rw[e2];simp only[decide_eq_true c1,Bool.not_true,Bool.false_or] at h;exact h _ (e.trans (Ex.snoc _ _))
  ·refine gb (by rw[aE c1];rfl) ?_;have:=h _ (Ex.refl _);rw[aE c1] at this;exact this
 obtain⟨w,x,y⟩:=r;cases w with
 |fQ =>
  refine gb (show decide (RW.fQ.s="coin")=true from by decide +kernel) ?_;left;by_cases c1:((p:Nat):Int)=y
  ·refine fj (by rw[aw c1];rfl) ?_;left;refine tG (J8 (ms:=H.map λ(i:Nat)=>(i:Int)) (by rw[<- E5];exact a7 hh) ?_);rw[SV];have:=h _ (Ex.refl _);rw[show meant cs .fQ y p=true from aw c1] at this;exact this
  ·refine gb (by rw[aE c1];rfl) ?_;have:=h _ (Ex.refl _);rw[show meant cs .fQ y p=false from aE c1] at this;exact this
 |lower =>
  refine fj (show decide (RW.lower.s="coin")=false from by decide +kernel) ?_;left;refine gb (show decide (RW.lower.s="lower")=true from by decide +kernel) ?_;refine w_lit (Q6 (Dy ?_));exact nN .lower 0 (.inl rfl) (λi x=>rfl) h
 |upper =>
  refine fj (show decide (RW.upper.s="coin")=false from by decide +kernel) ?_;left;refine fj (show decide (RW.upper.s="lower")=false from by decide +kernel) ?_;refine w_lit (Q6 (Dy ?_));exact nN .upper 2 (.inr rfl) (λi x=>rfl) h
end
theorem ID:∀{ns:List Int},ns≠[]->∃M∈ns,∀x∈ns,x<=M
 |[],h=>absurd rfl h
 |[x],_=>⟨x,by simp,by simp⟩
 |x::y::r,_=>by
  obtain⟨M,h1,h2⟩:=ID (ns:=y::r) (by simp);by_cases h:x<=M
  ·refine⟨M,bC _ h1,λz hz=>?_⟩;rcases aI.mp hz with rfl|hz
   ·exact h
   ·exact h2 z hz
  ·refine⟨x,by simp,λz hz=>?_⟩;rcases aI.mp hz with rfl|hz
   ·exact fV _
   ·have:=h2 z hz;omega
theorem a07{l m:List Int}(hl:l.Nodup)(hm:m.Nodup)(h:∀x,x∈l↔x∈m):l.length=m.length:=((List.perm_ext_iff_of_nodup hl hm).mpr h).length_eq
noncomputable abbrev iy(H:List Nat):Nat->Bool:=λi=>decide (i∈H)
def fTail(n:Nat):MS->MS
 |.seq a b=>match n with
  |0=>.seq a b
  |n+1=>fTail n b
 |x=>x
section
variable{T:Nat->Option aY}{d:Nat}
theorem IE(hT:qc T)(hN:N.rt=Q){z6 z7:Option D}(ha:g[a]?=some (.lst (cs.map a9.d)))(hz:cs.length<=9)(hc:g[c]?=some (.lst (s9 rs)))(hr:rs.length<=900)(hh:g[hl]?=some (.lst (b7 H)))(hH:∀i∈H,i<cs.length)(qW:H.length<=50)(hp:p<cs.length)(w1:F9 cs (iy H) p=false)(w2:F1 cs (iy H) p=false)(h:∀g',Ex g g'->Q (.str (fault cs v rs (iy H) p)) g') :
  wpS (b8 T (k+1)) (fTail 3 wq.body) N [some (.ref a),some (.int v),some (.ref c),some (.ref hl),some (.int (p:Nat)),some (bV cs p).d,z6,z7,none,none] g E:=by
 subst hN;dsimp[wq,fTail];left;refine comp_map (a8 T _) (λU=>∃z1 z2,U=[some (.ref a),z1,z2]) (λi=>.int (bV cs (H.getD i 0)).lo) (l:=b7 H) (k:=.lst hl) (λg' e=>k4 (a7 (e.at hh))) (by simp[b7];omega) ⟨none,none,rfl⟩ (λi x U g' hx e sh=>?_) (λg1 e1=>?_) (K8 (a8 T _) (a7 hh) λQ q=>w_var (d:=.ref hl) rfl q)
 ·obtain⟨z1,z2,rfl⟩:=sh;rw[b7,ag,aa] at hx;obtain⟨j,hj,rfl⟩:=hx;refine i6 ?_;left;refine m8 (a7 (e.at ha)) (J9 (hH j (aF hj))) ?_;refine v5 (L1 (.inl rfl) _) ?_;exact⟨by simp[List.getD,hj,A3],e,_,_,rfl⟩
 have e2:=e1.trans (Ex.snoc g1 (O.lst ((List.range (b7 H).length).map λi=>D.int (bV cs (H.getD i 0)).lo)));have eh:(List.range (b7 H).length).map (λi=>D.int (bV cs (H.getD i 0)).lo)=(H.map λi=>(bV cs i).lo).map D.int:=by
  rw[bZ];refine bP λi=>?_;rw[ag,ag];by_cases hi:i<H.length
  ·rw[cg (by simpa[b7] using hi),ae hi];simp[List.getD,hi]
  ·rw[aP (by simpa[b7] using hi),aP ()]
   rfl
 rw[eh] at e2 ⊢;have h2:=b0 (g:=g1) (o:=O.lst ((H.map λi=>(bV cs i).lo).map D.int));generalize g1++[O.lst ((H.map λi=>(bV cs i).lo).map D.int)]=g2 at *;left;refine v5 (L1 (.inl rfl) _) ?_;left;have e3:=Ex.snoc g2 (O.lst [D.int (A3 0 (bV cs p))]);refine yb (e3.at h2) b0 (by simp;omega) ?_;have e4:=(e2.trans e3).trans (Ex.snoc _ (O.lst ((H.map λi=>(bV cs i).lo).map D.int++[D.int (A3 0 (bV cs p))])));have h4:=b0 (g:=g2++[O.lst [D.int (A3 0 (bV cs p))]]) (o:=O.lst ((H.map λi=>(bV cs i).lo).map D.int++[D.int (A3 0 (bV cs p))]));have OV:(H.map λi=>(bV cs i).lo).map D.int++[D.int (A3 0 (bV cs p))]=((H.map λi=>(bV cs i).lo)++[(bV cs p).lo]).map D.int:=by simp[A3]
 rw[OV] at e4 h4 ⊢;generalize Ao:(H.map λi=>(bV cs i).lo)++[(bV cs p).lo]=gh at *;have lhr:gh.length<=51:=by rw[<- Ao];simp;omega
 generalize g2++[O.lst [D.int (A3 0 (bV cs p))]]=g3 at *;generalize g3.length=ah at *;left;refine x5 (a8 T _) (λU=>∃z2 z3,U=[some (.ref hl),some (.ref a),z2,z3]) (λi=>!decide (i∈H)) (λi=>.int (bV cs i).lo) (l:=j6 0 cs.length) (λg' e=>u7) (by rw[j9];omega) ⟨none,none,rfl⟩ (λi d U g' hx e sh=>?_) (λg5 e5=>?_) (yT (a8 T _) (by omega:cs.length<=1000) λQ q=>?_)
 ·obtain⟨z2,z3,rfl⟩:=sh;obtain⟨hi,rfl⟩:=x6 hx;rw[eI];refine i6 ?_;left;refine T1 (BV ((e4.trans e).at hh) ?_);left;refine⟨rfl,e,?_⟩;by_cases vn:i∈H
  ·rw[aw vn];exact fj rfl ⟨_,_,rfl⟩
  ·rw[aE vn];refine gb rfl ?_;left;refine m8 (a7 ((e4.trans e).at ha)) (J9 hi) ?_;refine v5 (L1 (.inl rfl) _) ?_;exact⟨rfl,e,_,_,rfl⟩
 rotate_left
 ·left;refine C4 (a7 (e4.at ha)) ?_;rw[ai];exact q
 have e6:=e5.trans (Ex.snoc g5 (O.lst (((List.range (j6 0 cs.length).length).filter λi=>!decide (i∈H)).map λi=>D.int (bV cs i).lo)));have h6:=b0 (g:=g5) (o:=O.lst (((List.range (j6 0 cs.length).length).filter λi=>!decide (i∈H)).map λi=>D.int (bV cs i).lo));have el:(((List.range (j6 0 cs.length).length).filter λi=>!decide (i∈H)).map λi=>D.int (bV cs i).lo)=(((List.range cs.length).filter λi=>!decide (i∈H)).map λi=>(bV cs i).lo).map D.int:=by
  rw[j9,bZ]
  rfl
 rw[el] at e6 h6 ⊢;generalize dF:(((List.range cs.length).filter λi=>!decide (i∈H)).map λi=>(bV cs i).lo)=lt' at *;generalize g5.length=al at *;left;refine x5 (a8 T _) (λU=>∃z1 z2,U=[some (.ref al),z1,z2]) (λi=>decide (gh.getD i 0∈lt')) (λi=>.int (gh.getD i 0)) (l:=gh.map D.int) (k:=.lst ah) (λg' e=>k4 (a7 ((e6.trans e).at h4))) (by simp;omega) ⟨none,none,rfl⟩ (λi d U g' hx e sh=>?_) (λg7 e7=>?_) (K8 (a8 T _) (a7 (e6.at h4)) λQ q=>w_var (d:=.ref ah) rfl q)
 ·obtain⟨z1,z2,rfl⟩:=sh;rw[ag,aa] at hx;obtain⟨x,hx,rfl⟩:=hx;have ex:gh.getD i 0=x:=by simp[List.getD,hx]
  refine i6 ?_;left;refine tG (J8 (a7 (e.at h6)) ?_);left;have ed:(lt'.any λm=>m==x)=decide (x∈lt'):=by
   rw[aU,aV,bL];exact⟨λ⟨y,hy,e⟩=>(br.mp e)▸hy,λhy=>⟨x,hy,by simp⟩⟩
  rw[ed,ex];refine⟨rfl,e,?_⟩;refine if2 (λ_=>?_) (λ_=>?_)
  ·left;exact⟨rfl,e,_,_,rfl⟩
  ·exact⟨_,_,rfl⟩
 have es:((List.range (gh.map D.int).length).filter λi=>decide (gh.getD i 0∈lt')).map (λi=>D.int (gh.getD i 0))=(((List.range gh.length).filter λi=>decide (gh.getD i 0∈lt')).map λi=>gh.getD i 0).map D.int:=by
  rw[bZ,ai]
  rfl
 have e8:=e7.trans (Ex.snoc g7 (O.lst (((List.range (gh.map D.int).length).filter λi=>decide (gh.getD i 0∈lt')).map λi=>D.int (gh.getD i 0))));refine QN (ns:=((List.range gh.length).filter λi=>decide (gh.getD i 0∈lt')).map λi=>gh.getD i 0) (a7 (by rw[es];exact b0)) (by rw[ai];exact cY E6 ()) ?_;have en:(ST.f7 [] (((List.range gh.length).filter λi=>decide (gh.getD i 0∈lt')).map λi=>gh.getD i 0)).length=vY cs (iy H) p:=by
  refine a07 (ST.CK _ _ (by simp)) ((Co _).filter _) λx=>?_;rw[ST.P4,bH,Ic];unfold X3;rw[aT,aV,aV];simp only[List.not_mem_nil,false_or,List.mem_map,List.mem_filter,List.mem_range,Bool.and_eq_true,decide_eq_true_eq,Bool.or_eq_true,Bool.not_eq_true',decide_eq_false_iff_not];constructor
  ·rintro⟨i,⟨hi,hx⟩,rfl⟩;have hm:gh.getD i 0∈gh:=by simp[List.getD,hi]
   generalize gh.getD i 0=x at *;rw[<- dF] at hx;simp only[List.mem_map,List.mem_filter,List.mem_range,Bool.not_eq_true',decide_eq_false_iff_not] at hx;rw[<- Ao] at hm;obtain⟨j,⟨qO,Am⟩,qN⟩:=hx;have xr:∃q,q<cs.length/\(q∈H\/q=p)/\(bV cs q).lo=x:=by
    rcases aR.mp hm with hm|hm
    ·obtain⟨q,hq,e⟩:=aH.mp hm;exact⟨q,hH q hq,.inl hq,e⟩
    ·exact⟨p,hp,.inr rfl,(aQ.mp hm).symm⟩
   obtain⟨q,q1,q2,q3⟩:=xr;refine⟨⟨bV cs j,?_,qN⟩,⟨q,q1,q2,q3⟩,j,qO,Am,qN⟩;rw[C0 (ae qO)];exact cy qO
  ·rintro⟨_,⟨q,q1,q2,q3⟩,j,qO,Am,qN⟩;have hm:x∈gh:=by
    rw[<- Ao];rcases q2 with q2|q2
    ·exact bx _ (aH.mpr ⟨q,q2,q3⟩)
    ·subst q2;exact aO _ (by rw[q3];simp)
   obtain⟨i,hi,e⟩:=bg.mp hm;refine⟨i,⟨hi,?_⟩,by simp[List.getD,hi,e]⟩;rw[show gh.getD i 0=x by simp[List.getD,hi,e],<- dF];simp only[List.mem_map,List.mem_filter,List.mem_range,Bool.not_eq_true',decide_eq_false_iff_not];exact⟨j,⟨qO,Am⟩,qN⟩
 rw[en];left;have tj:=(e4.trans e6).trans e8;refine if2 (λc3=>?_) (λc3=>?_)
 ·have:fault cs v rs (iy H) p="anvil":=by unfold fault;rw[aD (by rw[w1];decide),aD (by rw[w2];decide),aJ c3]
  rw[this] at h;exact h _ tj
 left;refine comp_map (a8 T _) (λU=>∃z3 z4,U=[some (.ref hl),some (.ref a),some (.int (p:Nat)),z3,z4]) (λi=>.bl (!meant cs (rs.getD i ⟨.fQ,0,0⟩).w (rs.getD i ⟨.fQ,0,0⟩).y p||(List.range cs.length).any λj=>decide (j∈H)&&meant cs (rs.getD i ⟨.fQ,0,0⟩).w (rs.getD i ⟨.fQ,0,0⟩).x j)) (l:=s9 rs) (k:=.lst c) (λg' e=>k4 (a7 ((tj.trans e).at hc))) (by simp[s9];omega) ⟨none,none,rfl⟩ (λi x U g' hx e sh=>?_) (λg9 e9=>?_) (K8 (a8 T _) (a7 (tj.at hc)) λQ q=>w_var (d:=.ref c) rfl q)
 ·obtain⟨z3,z4,rfl⟩:=sh;rw[s9,ag,aa] at hx;obtain⟨r,pH,rfl⟩:=hx;refine i6 ?_;left;refine Xw (k:=k) hT ((tj.trans e).at ha) ((tj.trans e).at hh) hH qW hp λnL lN=>?_;exact⟨by simp[List.getD,pH],e.trans lN,_,_,rfl⟩
 have eb:((List.range (s9 rs).length).map λi=>D.bl (!meant cs (rs.getD i ⟨.fQ,0,0⟩).w (rs.getD i ⟨.fQ,0,0⟩).y p||(List.range cs.length).any λj=>decide (j∈H)&&meant cs (rs.getD i ⟨.fQ,0,0⟩).w (rs.getD i ⟨.fQ,0,0⟩).x j))=(rs.map λr=>!meant cs r.w r.y p||(List.range cs.length).any λj=>decide (j∈H)&&meant cs r.w r.x j).map D.bl:=by
  rw[bZ];refine bP λi=>?_;rw[ag,ag];by_cases hi:i<rs.length
  ·rw[cg (by simpa[s9] using hi),ae hi];simp[List.getD,hi]
  ·rw[aP (by simpa[s9] using hi),aP ()]
   rfl
 rw[eb];refine ya (a7 b0) (T2 _) ?_;have eN:(rs.map λr=>!meant cs r.w r.y p||(List.range cs.length).any λj=>decide (j∈H)&&meant cs r.w r.x j).all id=P1 cs rs (iy H) p:=by
  rw[List.all_map]
  rfl
 rw[eN];left;have lN:=tj.trans (e9.trans (Ex.snoc g9 (O.lst ((rs.map λr=>!meant cs r.w r.y p||(List.range cs.length).any λj=>decide (j∈H)&&meant cs r.w r.x j).map D.bl))));cases c4:P1 cs rs (iy H) p with
 |true =>
  have:fault cs v rs (iy H) p="":=by unfold fault;rw[aD (by rw[w1];decide),aD (by rw[w2];decide),aD c3,aJ c4]
  rw[this] at h;exact h _ lN
 |false =>
  have:fault cs v rs (iy H) p="rule":=by unfold fault;rw[aD (by rw[w1];decide),aD (by rw[w2];decide),aD c3,aD (by rw[c4];decide)]
  rw[this] at h;exact h _ lN
end
section
variable{T:Nat->Option aY}{d:Nat}
theorem CY(c:a9):gs [D.int c.lo,D.tup (c.lm.map .int),D.int c.up,D.tup (c.um.map .int),D.int c.yr] 4=some (.int c.yr):=rfl
theorem UT(hi:i∈H)(hH:∀i∈H,i<cs.length)(h:mw (bV cs i) (bV cs p)=true):fault cs v rs (iy H) p="wear":=by
 unfold fault;rw[aJ];unfold F9;rw[yw hH,aV];exact⟨i,hi,h⟩
theorem HZ(hT:qc T)(hB:∀c∈cs,CB c)(ha:g[a]?=some (.lst (cs.map a9.d)))(hz:cs.length<=9)(hc:g[c]?=some (.lst (s9 rs)))(hr:rs.length<=900)(hh:g[hl]?=some (.lst (b7 H)))(hH:∀i∈H,i<cs.length)(qW:H.length<=50)(hp:p<cs.length)(h:∀g',Ex g g'->Q (.str (fault cs v rs (iy H) p)) g'):b8 T (k+2) 108 [.ref a,.int v,.ref c,.ref hl,.int (p:Nat)] g Q E:=by
 refine call_of hT.AS rfl ?_;have Od:∀i,i<cs.length->CB (bV cs i):=λi hi=>by rw[C0 (ae hi)];exact hB _ (cy hi)
 dsimp[wq,c7,List.replicate];left;refine m8 (a7 ha) (J9 hp) ?_;refine u9 (a8 T _) (ky (a8 T _) ?_);left;refine⟨hl,_,rfl,a7 hh,b7 H,λt U g'=>Ex g g'/\(∀i∈H.take t,mw (bV cs i) (bV cs p)=false)/\∃z6 z7,U=[some (.ref a),some (.int v),some (.ref c),some (.ref hl),some (.int (p:Nat)),some (bV cs p).d,z6,z7,none,none],λi U g' q=>k4 (a7 (q.1.at hh)),⟨Ex.refl _,by simp,none,none,rfl⟩,λt x U g' hx q=>?_,λU g' q=>?_⟩
 ·obtain⟨e1,q,z6,z7,rfl⟩:=q;rw[b7,ag,aa] at hx;obtain⟨i,hi,rfl⟩:=hx;have vn:=aF hi;have iQ:=hH i vn;refine i6 ?_;left;refine u9 (a8 T _) (ky (a8 T _) ?_);left;have e2:=e1.trans (Ex.snoc g' (O.lst [D.int 0,D.int 2]));have h2:=b0 (g:=g') (o:=O.lst [D.int 0,D.int 2]);generalize g'++[O.lst [D.int 0,D.int 2]]=g2 at *;refine⟨_,_,rfl,a7 h2,[D.int 0,D.int 2],λj U g3=>Ex g2 g3/\(1<=j->(decide ((bV cs i).lo=(bV cs p).lo)&&!jD (bV cs i).lm (bV cs p).lm)=false)/\(2<=j->(decide ((bV cs i).up=(bV cs p).up)&&!jD (bV cs i).um (bV cs p).um)=false)/\∃z7,U=[some (.ref a),some (.int v),some (.ref c),some (.ref hl),some (.int (p:Nat)),some (bV cs p).d,some (.int (i:Nat)),z7,none,none],λj U g3 q=>k4 (a7 (q.1.at h2)),⟨Ex.refl _,λz=>absurd z (),λz=>absurd z (),z7,rfl⟩,λj x U g3 hx q=>?_,λU g3 q=>?_⟩
  ·obtain⟨e3,q1,q2,z7,rfl⟩:=q;have hf:∃f:Int,(f=0\/f=2)/\x=.int f/\(f=0↔j=0)/\j<2:=by
    match j,hx with
    |0,hx=>cases hx;exact⟨0,.inl rfl,rfl,by simp,by omega⟩
    |1,hx=>cases hx;exact⟨2,.inr rfl,rfl,by simp,by omega⟩
    |j+2,hx=>simp at hx
   obtain⟨f,hf,rfl,FU,hj⟩:=hf;have tu:=e2.trans e3;refine i6 ?_;left;refine m8 (a7 (tu.at ha)) (J9 iQ) ?_;left;refine v5 (L1 hf _) ?_;left;refine v5 (L1 hf _) ?_;left;have fin:∀g4,Ex g3 g4->(decide (A3 f (bV cs i)=A3 f (bV cs p))&&!jD (rP f (bV cs i)) (rP f (bV cs p)))=false->(Ex g2 g4/\(1<=j+1->(decide ((bV cs i).lo=(bV cs p).lo)&&!jD (bV cs i).lm (bV cs p).lm)=false)/\(2<=j+1->(decide ((bV cs i).up=(bV cs p).up)&&!jD (bV cs i).um (bV cs p).um)=false)/\∃z7,([some (.ref a),some (.int v),some (.ref c),some (.ref hl),some (.int (p:Nat)),some (bV cs p).d,some (.int (i:Nat)),some (.int f),none,none]:S)=[some (.ref a),some (.int v),some (.ref c),some (.ref hl),some (.int (p:Nat)),some (bV cs p).d,some (.int (i:Nat)),z7,none,none]):=λg4 e4 hw=>by
    refine⟨e3.trans e4,λ_=>?_,λz=>?_,_,rfl⟩
    ·by_cases h0:j=0
     ·rw[FU.mpr h0] at hw;exact hw
     ·exact q1 ()
    ·have:¬f=0:=λw=>by have:=FU.mp w;omega
     have f2:f=2:=hf.resolve_left this;rw[f2] at hw;exact hw
   refine if2 (λh1=>?_) (λh1=>?_)
   ·left;refine m8 (a7 (tu.at ha)) (J9 iQ) ?_;left;refine v5 (Ju hf _) ?_;left;refine v5 (Ju hf _) ?_;left;refine ZL (k:=k) hT.AG ((Od i iQ).MG f) λg4 e4=>?_;left;cases hw:jD (rP f (bV cs i)) (rP f (bV cs p)) with
    |false =>
     have:mw (bV cs i) (bV cs p)=true:=by
      unfold mw;rcases hf with rfl|rfl
      ·rw[aw (show(bV cs i).lo=(bV cs p).lo from h1),show jD (bV cs i).lm (bV cs p).lm=false from hw];rfl
      ·rw[aw (show(bV cs i).up=(bV cs p).up from h1),show jD (bV cs i).um (bV cs p).um=false from hw];simp
     rw[UT vn hH this] at h;exact h _ (tu.trans e4)
    |true =>
     exact fin g4 e4 (by rw[hw];simp)
   ·exact fin g3 (Ex.refl _) (by rw[aE h1];rfl)
  ·obtain⟨e3,q1,q2,z7,rfl⟩:=q;refine⟨e2.trans e3,λi' iR=>?_,_,_,rfl⟩;rw[bu,hi] at iR;rcases aR.mp iR with iR|iR
   ·exact q i' iR
   ·have:i'=i:=by simpa using iR
    subst this;unfold mw;rw[q1 ∅,q2 ∅]
    rfl
 ·obtain⟨e1,q,z6,z7,rfl⟩:=q;rw[b7,ai,bY] at q;have w1:F9 cs (iy H) p=false:=by
   unfold F9;rw[yw hH,List.any_eq_false];exact λi hi=>by rw[q i hi];decide
  refine yq ?_;left;refine v5 (CY _) ?_;left;have uR:F1 cs (iy H) p=(decide (0<(bV cs p).yr)&&H.any λi=>decide ((bV cs p).yr<(bV cs i).yr)):=by
   unfold F1;rw[yw hH,aU,aV,aT,aV];constructor
   ·rintro⟨i,h1,h2⟩;unfold kr at h2;rw[aT] at h2;exact⟨h2.1,i,h1,h2.2⟩
   ·rintro⟨h1,i,h2,h3⟩;exact⟨i,h2,by unfold kr;rw[h1,h3];rfl⟩
  refine if2 (λc1=>?_) (λc1=>?_)
  ·left;have e2:=e1.trans (Ex.snoc g' (O.lst [D.int 0]));have h2:=b0 (g:=g') (o:=O.lst [D.int 0]);refine comp_map (a8 T _) (λU=>∃z1 z2,U=[some (.ref a),z1,z2]) (λi=>.int (bV cs (H.getD i 0)).yr) (l:=b7 H) (k:=.lst hl) (λg' e=>k4 (a7 ((e2.trans e).at hh))) (by simp[b7];omega) ⟨none,none,rfl⟩ (λi x U g' hx e sh=>?_) (λg3 e3=>?_) (K8 (a8 T _) (a7 (e2.at hh)) λQ q=>w_var (d:=.ref hl) rfl q)
   ·obtain⟨z1,z2,rfl⟩:=sh;rw[b7,ag,aa] at hx;obtain⟨j,hj,rfl⟩:=hx;refine i6 ?_;left;refine m8 (a7 ((e2.trans e).at ha)) (J9 (hH j (aF hj))) ?_;refine v5 (CY _) ?_;exact⟨by simp[List.getD,hj],e,_,_,rfl⟩
   have ey:(List.range (b7 H).length).map (λi=>D.int (bV cs (H.getD i 0)).yr)=(H.map λi=>(bV cs i).yr).map D.int:=by
    rw[bZ];refine bP λi=>?_;rw[ag,ag];by_cases hi:i<H.length
    ·rw[cg (by simpa[b7] using hi),ae hi];simp[List.getD,hi]
    ·rw[aP (by simpa[b7] using hi),aP ()]
     rfl
   rw[ey];have e4:=e3.trans (Ex.snoc g3 (O.lst ((H.map λi=>(bV cs i).yr).map D.int)));refine yb (e4.at h2) b0 (by simp;omega) ?_;have e5:=e4.trans (Ex.snoc _ (O.lst ([D.int 0]++(H.map λi=>(bV cs i).yr).map D.int)));obtain⟨M,m1,m2⟩:=ID (ns:=0::H.map λi=>(bV cs i).yr) (by simp);refine Xg (ns:=0::H.map λi=>(bV cs i).yr) (a7 b0) m1 m2 ?_;left;refine v5 (CY _) ?_;left;have em:decide ((bV cs p).yr<M)=F1 cs (iy H) p:=by
    rw[uR,aw c1,jX,aU,bL,aV];constructor
    ·intro hM;rcases aI.mp m1 with rfl|hm
     ·omega
     ·obtain⟨i,hi,rfl⟩:=aH.mp hm;exact⟨i,hi,aw hM⟩
    ·rintro⟨i,hi,h1⟩;have:=m2 _ (bC _ (aH.mpr ⟨i,hi,rfl⟩));have:=bo h1;omega
   rw[em];cases w2:F1 cs (iy H) p with
   |true =>
    have:fault cs v rs (iy H) p="year":=by unfold fault;rw[aD (by rw[w1];decide),aJ w2]
    rw[this] at h;exact h _ (e2.trans e5)
   |false =>
    refine fj rfl ?_;refine Q7 ?_;have xV:=e2.trans e5;exact IE (k:=k) hT rfl (xV.at ha) hz (xV.at hc) hr (xV.at hh) hH qW hp w1 w2 λg6 e6=>h g6 (xV.trans e6)
  ·refine fj rfl ?_;refine Q7 ?_;have w2:F1 cs (iy H) p=false:=by rw[uR,aE c1];rfl
   exact IE (k:=k) hT rfl (e1.at ha) hz (e1.at hc) hr (e1.at hh) hH qW hp w1 w2 λg6 e6=>h g6 (e1.trans e6)
end
def Y7:aY:=⟨3,3,(.seq (.ret (.dA (bI (.cmp .NotEq) (.call 91 (dC bj bq)) bj) (bI (.cmp .Is) (.call 101 (gJ aM bj bq)) (.lit .bR)))) .pass)⟩
def IG:aY:=⟨2,2,(.seq (.ret (.comp [0,1] 4 (.one 3) (.eO (dj (.fld "size") aM)) (.fG (.call 115 (gJ aM bj bz))) bz)) .pass)⟩
def yD:aY:=⟨2,2,(.seq (.ret (.comp [0] 3 (.one 2) (.eO bj) (dS .Eq (bI (.bin .Mod) (bI (.bin .FloorDiv) aM (cR (.prim .lst (.cons (bh 1) (.cons (bh 2) (Ba (bh 4) (bh 8) (bh 16) (bh 32) (bh 64) (bh 128) (bh 256))))) bq)) (bh 2)) (bh 1)) bq)) .pass)⟩
def yB:aY:=⟨1,1,(.seq (.ret (cR (.prim .lst (.cons (bh 1) (.cons (bh 2) (.cons (bh 4) (Ba (bh 8) (bh 16) (bh 32) (bh 64) (bh 128) (bh 256) (bh 512)))))) aM)) .pass)⟩
def T7:aY:=⟨4,7,(.seq (.set 4 (.call 146 (dC bz (dj .len aM)))) (.seq (.set 5 (.prim .lst .nil)) (.seq (.dM (.one 6) (.eO (dj .len aM)) (.seq (.ifs (.dA (dS .NotIn eB cx) (dS .Eq (.call 108 (si aM bj bq cx eB)) (iH ""))) (.seq (.expr (.eX .append dY (fk eB))) .pass) .pass) .pass)) (.seq (.ret dY) .pass))))⟩
def C5(cs:List a9)(v:Int)(rs:List eP)(s p:Nat):Bool:=!s.testBit p&&decide (fault cs v rs s.testBit p="")
def i9(cs:List a9)(v:Int)(rs:List eP)(s:Nat):List Nat:=(List.range cs.length).filter (C5 cs v rs s)
theorem a45(x:Str):M8 (xT x)=decide (x=""):=by
 unfold xT;by_cases h:x=""
 ·rw[aJ h,aw h];rfl
 ·rw[aD h,aE h];rfl
theorem Xs{s:Nat}:decide (((s |||2 ^ p:Nat):Int)=(s:Nat))=s.testBit p:=by
 rw[aU,bL];constructor
 ·intro h;have h:s |||2 ^ p=s:=by omega
  have:=Q5 s p p;rw[h] at this;rw[this];simp
 ·intro h;have:s |||2 ^ p=s:=ze λi=>by
   rw[Q5];by_cases hi:i=p
   ·subst hi;rw[h];rfl
   ·rw[aE hi,Bool.or_false]
  rw[this]
structure TF(T:Nat->Option aY):Prop where
 rh:T 115=some Y7
 AQ:T 116=some IG
section
variable{T:Nat->Option aY}{d:Nat}
theorem ZF(hT:TB0 T)(rh:T 115=some Y7)(B:Bd g b cs v rs)(hz:cs.length<=9)(hr:rs.length<=900){s:Nat}(hs:s<2 ^ cs.length)(hp:p<cs.length)(h:∀g',Ex g g'->Q (.bl (C5 cs v rs s p)) g'):b8 T (k+4) 115 [.ref b,.int (s:Nat),.int (p:Nat)] g Q E:=by
 refine call_of rh rfl ?_;dsimp[Y7,c7,List.replicate];left;refine v9 (k:=k+2) hT.om () ?_;left;rw[Xs];cases hb:s.testBit p with
 |true =>
  refine fj rfl ?_;have:C5 cs v rs s p=false:=by unfold C5;rw[hb];rfl
  rw[this] at h;exact h _ (Ex.refl _)
 |false =>
  refine gb rfl ?_;left;refine XE (k:=k) hT B hz hr hs hp λg1 e1=>?_;left;have:C5 cs v rs s p=M8 (xT (fault cs v rs s.testBit p)):=by unfold C5;rw[hb,a45];rfl
  rw[this] at h;exact h _ e1
theorem K9(hT:TB0 T)(hF:TF T)(B:Bd g b cs v rs)(hz:cs.length<=9)(hr:rs.length<=900){s:Nat}(hs:s<2 ^ cs.length)(h:∀g' l,Ex g g'->g.length<=l->g'[l]?=some (.lst (b7 (i9 cs v rs s)))->Q (.ref l) g'):b8 T (k+5) 116 [.ref b,.int (s:Nat)] g Q E:=by
 refine call_of hF.AQ rfl ?_;obtain⟨w,l,dd,nb,h1,h2,h3,h4,h5⟩:=B.ex;refine x5 (a8 T _) (λU=>∃z2 z3,U=[some (.ref b),some (.int (s:Nat)),z2,z3]) (C5 cs v rs s) (λi=>.int (i:Nat)) (l:=j6 0 cs.length) (λg' e=>u7) (by rw[j9];omega) ⟨none,none,rfl⟩ (λi d U g' hx e sh=>?_) (λg' e=>?_) (yT (a8 T _) (by omega:cs.length<=1000) λQ q=>?_)
 ·obtain⟨z2,z3,rfl⟩:=sh;obtain⟨hi,rfl⟩:=x6 hx;rw[eI];refine i6 ?_;left;refine ZF (k:=k) hT hF.rh (B.at e) hz hr hs hi λg2 e2=>?_;left;refine⟨rfl,e.trans e2,?_⟩;cases C5 cs v rs s i with
  |true =>
   refine gb rfl ?_;left;exact⟨rfl,e.trans e2,_,_,rfl⟩
  |false=>exact fj rfl ⟨_,_,rfl⟩
 ·rw[j9];exact h _ _ (e.trans (Ex.snoc _ _)) e.len b0
 ·left;exact O3 h1 rfl q
def Hj:List D:=[.int 1,.int 2,.int 4,.int 8,.int 16,.int 32,.int 64,.int 128,.int 256]
theorem RE(hi:i<9):gs Hj (i:Int)=some (.int ((2 ^ i:Nat):Int)):=by
 have:i=0\/i=1\/i=2\/i=3\/i=4\/i=5\/i=6\/i=7\/i=8:=by omega
 rcases this with rfl|rfl|rfl|rfl|rfl|rfl|rfl|rfl|rfl<;>rfl
theorem Cq(nF:T 147=some yB)(hn:n<=9)(h:∀g',Ex g g'->Q (.int ((2 ^ n:Nat):Int)) g'):b8 T (k+1) 147 [.int (n:Nat)] g Q E:=by
 refine call_of nF rfl ?_;dsimp[yB,c7,List.replicate];left;refine m8 (a7 b0) (d:=.int ((2 ^ n:Nat):Int)) ?_ (h _ (Ex.snoc _ _));have:n=0\/n=1\/n=2\/n=3\/n=4\/n=5\/n=6\/n=7\/n=8\/n=9:=by omega
 rcases this with rfl|rfl|rfl|rfl|rfl|rfl|rfl|rfl|rfl|rfl<;>rfl
theorem Yo(qZ:T 146=some yD){s:Nat}(hn:n<=9)(h:∀g' l,Ex g g'->g.length<=l->g'[l]?=some (.lst (b7 ((List.range n).filter s.testBit)))->Q (.ref l) g'):b8 T (k+1) 146 [.int (s:Nat),.int (n:Nat)] g Q E:=by
 refine call_of qZ rfl ?_;dsimp[yD,c7,List.replicate];left;refine x5 (a8 T _) (λU=>∃z1 z2,U=[some (.int (s:Nat)),z1,z2]) s.testBit (λi=>.int (i:Nat)) (l:=j6 0 n) (λg' e=>u7) (by rw[j9];omega) ⟨none,none,rfl⟩ (λi d U g' hx e sh=>?_) (λg' e=>?_) (yT (a8 T _) (by omega:n<=1000) λQ q=>w_var (d:=.int (n:Nat)) rfl q)
 ·obtain⟨z1,z2,rfl⟩:=sh;obtain⟨hi,rfl⟩:=x6 hx;rw[eI];refine i6 ?_;left;refine m8 (a7 b0) (RE (i:=i) ()) ?_;have hp:(0:Int)<((2 ^ i:Nat):Int):=by have:=fg (n:=i);omega
  have zX:((2 ^ i:Nat):Int)<1073741824:=by
   have:=zd (a:=2) () (show i<30 by omega);omega
  refine Jt hp zX ?_;left;have eb:decide ((s:Int) / ((2 ^ i:Nat):Int) % 2=1)=s.testBit i:=by
   rw[Nat.testBit_eq_decide_div_mod_eq];refine cW.mpr ?_;rw[<- Int.natCast_ediv];omega
  have e2:=e.trans (Ex.snoc g' (O.lst Hj));rw[eb];refine⟨rfl,e2,?_⟩;cases s.testBit i with
  |true =>
   refine gb rfl ?_;left;exact⟨rfl,e2,_,_,rfl⟩
  |false=>exact fj rfl ⟨_,_,rfl⟩
 ·rw[j9];exact h _ _ (e.trans (Ex.snoc _ _)) e.len b0
structure Lu(T:Nat->Option aY):Prop where
 qZ:T 146=some yD
 nF:T 147=some yB
 AJ:T 148=some T7
theorem XD(hT:qc T)(Gi:Lu T)(hB:∀c∈cs,CB c)(ha:g[a]?=some (.lst (cs.map a9.d)))(hz:cs.length<=9)(hc:g[c]?=some (.lst (s9 rs)))(hr:rs.length<=900){s:Nat}(h:∀g' l,Ex g g'->g.length<=l->g'[l]?=some (.lst (b7 (i9 cs v rs s)))->Q (.ref l) g'):b8 T (k+3) 148 [.ref a,.int v,.ref c,.int (s:Nat)] g Q E:=by
 refine call_of Gi.AJ rfl ?_;dsimp[T7,c7,List.replicate];left;rw[ai];refine Yo (k:=k+1) Gi.qZ hz λg1 hl e1 jj hh=>?_;left;have e2:=e1.trans (Ex.snoc g1 (O.lst []));have FP:=(Ex.snoc g1 (O.lst [])).at hh;have h2:=b0 (g:=g1) (o:=O.lst []);have l1:=n4 hh;have ge:g.length<=g1.length:=e1.len;generalize g1.length=fl at *;have hH:∀i∈(List.range cs.length).filter s.testBit,i<cs.length:=V1;have qW:((List.range cs.length).filter s.testBit).length<=50:=aC E6 ();have hS:∀i,i<cs.length->iy ((List.range cs.length).filter s.testBit) i=s.testBit i:=λi hi=>by
  rw[aU,bL,bH,aX];exact⟨λz=>z.2,λz=>⟨hi,z⟩⟩
 refine u9 (a8 T _) (U2 (a8 T _) ?_);left;refine C4 (a7 (e2.at ha)) ?_;refine⟨_,rfl,by omega,by simp;omega,j6 0 cs.length,λi U g'=>Ex g g'/\g'[hl]?=some (.lst (b7 ((List.range cs.length).filter s.testBit)))/\g'[fl]?=some (.lst (b7 ((List.range i).filter (C5 cs v rs s))))/\∃z6,U=[some (.ref a),some (.int v),some (.ref c),some (.int (s:Nat)),some (.ref hl),some (.ref fl),z6],λ_ _ _ _=>by simp only[List.length_map,Int.toNat_natCast];exact u7,⟨e2,FP,h2,none,rfl⟩,λi x U g' hx q=>?_,λU g' q=>?_⟩
 ·obtain⟨e3,oH,h3,z6,rfl⟩:=q;obtain⟨hi,rfl⟩:=x6 hx;rw[eI];refine i6 ?_;left;refine T1 (BV oH ?_);left;have es:(List.range (i+1)).filter (C5 cs v rs s)=(List.range i).filter (C5 cs v rs s)++if C5 cs v rs s i=true then[i] else[]:=by
   rw[fb,fh];cases z:C5 cs v rs s i<;>simp only[List.filter_cons,z,List.filter_nil]<;>rfl
  have NW:decide (i∈(List.range cs.length).filter s.testBit)=s.testBit i:=hS i hi;rw[NW];cases hb:s.testBit i with
  |true =>
   refine fj rfl ?_;refine⟨e3,oH,?_,_,rfl⟩;rw[es,aD (by unfold C5;rw[hb];simp),dg];exact h3
  |false =>
   refine gb rfl ?_;left;refine HZ (k:=k) hT hB (e3.at ha) hz (e3.at hc) hr oH hH qW hi λg4 e4=>?_;rw[aF5 hS];left;have FW:C5 cs v rs s i=decide (fault cs v rs s.testBit i=""):=by unfold C5;rw[hb];rfl
   refine if2 (λc1=>?_) (λc1=>?_)
   ·have h4:=e4.at h3;left;refine P5 h4 (by have:=@E6 i (C5 cs v rs s);simp[b7];omega) ?_;refine⟨⟨by simp;exact(e3.trans e4).len,λj hj=>by rw[az ()];exact(e3.trans e4).old j hj⟩,d5 (e4.at oH) (),?_,_,rfl⟩;rw[get_set h4,es,aJ (by rw[FW];exact aw c1)];simp[b7]
   ·refine⟨e3.trans e4,e4.at oH,?_,_,rfl⟩;rw[es,aD (by rw[FW,aE c1];decide),dg];exact e4.at h3
 ·obtain⟨e3,oH,h3,z6,rfl⟩:=q;rw[j9] at h3;left;exact h _ _ e3 ge h3
end
def S4:aY:=⟨4,6,(.seq (.ifs (dS .NotEq (dj .len bz) (dj .len aM)) (.seq (.ret (bI .tup (iH "many") (dj .len bz))) .pass) .pass) (.seq (.dM (.one 4) (.eO (dj .len bz)) (.seq (.ifs (.dQ (.fG (.chain .LtE .Lt (bh 0) (cR bz cx) (dj .len aM)))) (.seq (.ret (bI .tup (iH "stranger") cx)) .pass) .pass) (.seq (.ifs (dS .In (cR bz cx) (bI (.mf false true) bz cx)) (.seq (.ret (bI .tup (iH "twice") cx)) .pass) .pass) .pass))) (.seq (.dM (.one 4) (.eO (dj .len bz)) (.seq (.set 5 (.call 108 (si aM bj bq (bI (.mf false true) bz cx) (cR bz cx)))) (.seq (.ifs (dS .NotEq dY (iH "")) (.seq (.ret (bI .tup dY cx)) .pass) .pass) .pass))) (.seq (.ret (.lit .bR)) .pass))))⟩
theorem JU{f:Nat->Option α}:(List.range (i+1)).findSome? f=none↔(List.range i).findSome? f=none/\f i=none:=by
 rw[fb,wW];cases (List.range i).findSome? f<;>simp
theorem DI{f:Nat->Option α}{r:α}(h:(List.range i).findSome? f=none)(hi:i<n)(hr:f i=some r):(List.range n).findSome? f=some r:=by
 have e:List.range n=List.range i++(List.range (n-i)).map (i+·):=by
  rw[<- List.range_add]
  congr 1
  omega
 obtain⟨m,hm⟩:∃m,n-i=m+1:=⟨n-i-1,by omega⟩
 rw[e,wW,h,hm,List.range_succ_eq_map];simp[hr]
def nc(n:Nat)(ns:List Int)(i:Nat):Option (Str×Nat):=if 0<=ns.getD i 0/\ns.getD i 0<n then(if ns.getD i 0∈ns.take i then some ("twice",i) else none) else some ("stranger",i)
def G0(ns:List Int)(i:Nat):List Nat:=(ns.take i).map Int.toNat
def pS(cs:List a9)(v:Int)(rs:List eP)(ns:List Int)(i:Nat):Option (Str×Nat):=if fault cs v rs (iy (G0 ns i)) (ns.getD i 0).toNat="" then none else some (fault cs v rs (iy (G0 ns i)) (ns.getD i 0).toNat,i)
def pairF:Option (Str×Nat)->D
 |some (w,i)=>.tup [.str w,.int i]
 |none=>.bR
def yX(cs:List a9)(v:Int)(rs:List eP)(ns:List Int):Option (Str×Nat) :=
 if ns.length=cs.length then((List.range ns.length).findSome? (nc cs.length ns)).orElse λ_=>(List.range ns.length).findSome? (pS cs v rs ns) else some ("many",ns.length)
theorem getD_at{x:Int}(h:ns[i]?=some x):ns.getD i 0=x:=by simp[List.getD,h]
theorem Dq(h:(List.range ns.length).findSome? (nc n ns)=none)(hi:i<ns.length):(0<=ns.getD i 0/\ns.getD i 0<n)/\ns.getD i 0∉ns.take i:=by
 have:=gA.mp h i (aX.mpr hi);unfold nc at this;split at this
 ·rename_i h1;split at this
  ·cases this
  ·rename_i h2;exact⟨h1,h2⟩
 ·cases this
theorem Ua(h:(List.range ns.length).findSome? (nc n ns)=none):∀j∈G0 ns i,j<n:=by
 intro j hj;obtain⟨x,hx,rfl⟩:=aH.mp hj;obtain⟨k,hk,rfl⟩:=bg.mp (du hx);have:=(Dq h hk).1;rw[getD_at (ae hk)] at this;omega
theorem Zl(h:(List.range ns.length).findSome? (nc n ns)=none):(ns.take i).map D.int=b7 (G0 ns i):=by
 unfold b7 G0;rw[bZ];refine eJ λx hx=>?_;obtain⟨k,hk,rfl⟩:=bg.mp (du hx);have:=(Dq h hk).1;rw[getD_at (ae hk)] at this;show D.int ns[k]=D.int ((ns[k].toNat:Nat):Int);rw[Int.toNat_of_nonneg this.1]
theorem Tr{l:List Int}{x:Int}:(l.any λm=>m==x)=decide (x∈l):=by
 rw[aU,aV,bL];exact⟨λ⟨y,hy,e⟩=>(br.mp e)▸hy,λhy=>⟨x,hy,by simp⟩⟩
section
variable{T:Nat->Option aY}{d:Nat}
theorem Xv(hT:qc T)(rp:T 109=some S4)(hB:∀c∈cs,CB c)(ha:g[a]?=some (.lst (cs.map a9.d)))(hz:cs.length<=9)(hc:g[c]?=some (.lst (s9 rs)))(hR:rs.length<=900)(hr:g[r]?=some (.lst (ns.map .int)))(h:∀g',Ex g g'->Q (pairF (yX cs v rs ns)) g'):b8 T (k+3) 109 [.ref a,.int v,.ref c,.ref r] g Q E:=by
 refine call_of rp rfl ?_;dsimp[S4,c7,List.replicate];left;rw[ai,ai];unfold yX at h;by_cases hn:ns.length=cs.length
 ·rw[aJ hn] at h;have BI:∀{i:Nat},i<ns.length->gs (ns.map D.int) (i:Int)=some (.int (ns.getD i 0)):=λ{i} hi=>C1 (by rw[ag,ae hi,getD_at (ae hi)];rfl);refine fj (by rw[aw ()];rfl) ?_;refine u9 (a8 T _) (U2 (a8 T _) ?_);left;refine⟨by omega,by simp;omega,j6 0 ns.length,λi U g'=>Ex g g'/\(List.range i).findSome? (nc cs.length ns)=none/\∃z4,U=[some (.ref a),some (.int v),some (.ref c),some (.ref r),z4,none],λ_ _ _ _=>by simp only[List.length_map,Int.toNat_natCast];exact u7,⟨Ex.refl _,rfl,none,rfl⟩,λi x U g' hx q=>?_,λU g' q=>?_⟩
  ·obtain⟨e1,q,z4,rfl⟩:=q;obtain⟨hi,rfl⟩:=x6 hx;rw[eI];refine i6 ?_;left;refine m8 (a7 (e1.at hr)) (BI hi) ?_;left;have gF:nc cs.length ns i=if 0<=ns.getD i 0/\ns.getD i 0<cs.length then(if ns.getD i 0∈ns.take i then some (("twice":Str),i) else none) else some (("stranger":Str),i):=rfl
   have str:¬(0<=ns.getD i 0/\ns.getD i 0<cs.length)->Q (.tup [.str "stranger",.int (i:Nat)]) g':=λhs=>by
    rw[DI q hi (show nc cs.length ns i=some (("stranger":Str),i) by rw[gF,aD hs])] at h;exact h _ e1
   refine if2 (λs1=>?_) (λs1=>?_)
   ·left;refine C4 (a7 (e1.at ha)) ?_;rw[ai];left;by_cases s2:ns.getD i 0<(cs.length:Nat)
    rotate_left
    ·refine gb (by rw[aE s2];rfl) ?_;left;exact str λz=>s2 z.2
    refine fj (by rw[aw s2];rfl) ?_;left;refine m8 (a7 (e1.at hr)) (BI hi) ?_;left;refine wx (a7 (e1.at hr)) ?_;rw[DH (by rw[ai];omega),<- jV];refine tG (J8 (a7 b0) ?_);rw[Tr];left;refine if2 (λht=>?_) (λht=>?_)
    ·left;rw[DI q hi (show nc cs.length ns i=some (("twice":Str),i) by rw[gF,aJ ⟨s1,s2⟩,aJ ht])] at h;exact h _ (e1.trans (Ex.snoc _ _))
    ·exact⟨e1.trans (Ex.snoc _ _),JU.mpr ⟨q,by rw[gF,aJ ⟨s1,s2⟩,aD ht]⟩,_,rfl⟩
   ·left;exact str λz=>s1 z.1
  ·obtain⟨e1,hp,z4,rfl⟩:=q;rw[j9] at hp;rw[hp] at h;refine u9 (a8 T _) (U2 (a8 T _) ?_);left;refine C4 (a7 (e1.at hr)) ?_;refine⟨_,rfl,by omega,by simp;omega,j6 0 ns.length,λi U g'=>Ex g g'/\(List.range i).findSome? (pS cs v rs ns)=none/\∃z4 z5,U=[some (.ref a),some (.int v),some (.ref c),some (.ref r),z4,z5],λ_ _ _ _=>by simp only[List.length_map,Int.toNat_natCast];exact u7,⟨e1,rfl,_,_,rfl⟩,λi x U g' hx q=>?_,λU g' q=>?_⟩
   ·obtain⟨e2,q,z4,z5,rfl⟩:=q;obtain⟨hi,rfl⟩:=x6 hx;rw[eI];have iQ:=Dq hp hi;have FQ:(ns.getD i 0)=(((ns.getD i 0).toNat:Nat):Int):=by omega
    refine i6 ?_;left;refine wx (a7 (e2.at hr)) ?_;rw[DH (by rw[ai];omega),<- jV,Zl hp];left;have e3:=e2.trans (Ex.snoc g' (O.lst (b7 (G0 ns i))));refine m8 (a7 (e3.at hr)) (BI hi) ?_;left;rw[FQ];refine HZ (k:=k) hT hB (e3.at ha) hz (e3.at hc) hR b0 (Ua hp) (by unfold G0;simp;omega) () λg4 e4=>?_;left;have FT:pS cs v rs ns i=if fault cs v rs (iy (G0 ns i)) (ns.getD i 0).toNat="" then none else some (fault cs v rs (iy (G0 ns i)) (ns.getD i 0).toNat,i):=rfl
    generalize fault cs v rs (iy (G0 ns i)) (ns.getD i 0).toNat=fx at *;by_cases xt:fx=""
    ·refine fj (by rw[aw xt];rfl) ?_;exact⟨e3.trans e4,JU.mpr ⟨q,by rw[FT,aJ xt]⟩,_,_,rfl⟩
    ·refine gb (by rw[aE xt];rfl) ?_;left;have h2:=DI q hi (show pS cs v rs ns i=some (fx,i) by rw[FT,aD xt]);rw[show(Option.none.orElse λ_:Unit=>(List.range ns.length).findSome? (pS cs v rs ns))=some (fx,i) from h2] at h;exact h _ (e3.trans e4)
   ·obtain⟨e2,q,z4,z5,rfl⟩:=q;rw[j9] at q;rw[show(Option.none.orElse λ_:Unit=>(List.range ns.length).findSome? (pS cs v rs ns))=none from q] at h;exact h _ e2
 ·rw[aD hn] at h;refine gb (by rw[aE ()];rfl) ?_;left;rw[ai];exact h _ (Ex.refl _)
end
def FG(n:Nat)(F:Nat->List Nat):Prop:=∀s p,p∈F s->p<n/\s.testBit p=false
def P0(n:Nat)(F:Nat->List Nat):Nat->Nat->List (List Nat)
 |0,s=>if s=2 ^ n-1 then[[]] else[]
 |f+1,s=>if s=2 ^ n-1 then[[]] else(F s).flatMap λp=>(P0 n F f (s |||2 ^ p)).map (p::·)
def k9(n:Nat)(F:Nat->List Nat)(s:Nat):List (List Nat):=P0 n F (2 ^ n) s
theorem ym{s:Nat}(h:s.testBit p=false):s<s |||2 ^ p:=by
 have h1:s<=s |||2 ^ p:=Nat.left_le_or
 have h2:s |||2 ^ p≠s:=λe=>by
  have:=Q5 s p p;rw[e,h] at this;simp at this
 omega
theorem F3{l:List α}{f g:α->List β}(h:∀x∈l,f x=g x):l.flatMap f=l.flatMap g:=by
 induction l with
 |nil=>rfl
 |cons a r ih=>rw[fz,fz,h a (by simp),ih λx hx=>h x (by simp[hx])]
theorem II{n:Nat}{F:Nat->List Nat}(hF:FG n F):∀(f s:Nat),s<2 ^ n->2 ^ n-1-s<=f->P0 n F f s=P0 n F (f+1) s
 |0,s,hs,hf=>by
  have e:s=2 ^ n-1:=by omega
  simp only[P0];rw[aJ e,aJ e]
 |f+1,s,hs,hf=>by
  rw[P0,P0];by_cases e:s=2 ^ n-1
  ·rw[aJ e,aJ e]
  ·rw[aD e,aD e];refine F3 λp hp=>?_;have:=hF s p hp;rw[II hF f (s |||2 ^ p) (Q2 hs this.1) (by have:=ym this.2;omega)]
theorem N6{F:Nat->List Nat}{s:Nat}(h:s=2 ^ n-1):k9 n F s=[[]]:=by
 unfold k9;obtain⟨m,hm⟩:∃m,2 ^ n=m+1:=⟨2 ^ n-1,by have:=fg (n:=n);omega⟩
 rw[hm,P0,aJ h]
theorem V4{F:Nat->List Nat}(hF:FG n F){s:Nat}(hs:s<2 ^ n)(h:s≠2 ^ n-1):k9 n F s=(F s).flatMap λp=>(k9 n F (s |||2 ^ p)).map (p::·):=by
 unfold k9;obtain⟨m,hm⟩:∃m,2 ^ n=m+1:=⟨2 ^ n-1,by have:=fg (n:=n);omega⟩
 conv=>lhs;rw[hm,P0,aD h]
 refine F3 λp hp=>?_;have:=hF s p hp;rw[hm,<- II hF m (s |||2 ^ p) (Q2 hs this.1) ()]
theorem UR{F:Nat->List Nat}(hF:FG n F){s:Nat}(hs:s<2 ^ n)(h:s≠2 ^ n-1):(k9 n F s).length=((F s).map λp=>(k9 n F (s |||2 ^ p)).length).sum:=by
 rw[V4 hF hs h,List.length_flatMap];simp[Function.comp_def]
inductive ic(F:Nat->List Nat):Nat->Prop
 |zero:ic F 0
 |step {s p:Nat} (h:ic F s) (hp:p∈F s):ic F (s |||2 ^ p)
theorem ic.lt{F:Nat->List Nat}(hF:FG n F){s:Nat}(h:ic F s):s<2 ^ n:=by
 induction h with
 |zero=>exact eZ _
 |step h hp ih=>exact Q2 ih (hF _ _ hp).1
theorem A8(cs:List a9)(v:Int)(rs:List eP):FG cs.length (i9 cs v rs):=λs p hp=>by
 obtain⟨h1,h2⟩:=bH.mp hp;unfold C5 at h2;rw[aT,kS] at h2;exact⟨aX.mp h1,h2.1⟩
theorem ZE{f:α->List β}{l:List α}{x:α}(hx:l[j]?=some x)(m:Nat):(l.flatMap f)[((l.take j).flatMap f).length+m]?=((l.drop j).flatMap f)[m]?/\(l.drop j).flatMap f=f x++(l.drop (j+1)).flatMap f:=by
 have e:l.flatMap f=(l.take j).flatMap f++(l.drop j).flatMap f:=by rw[<- Ew,bG]
 have hj:j<l.length:=(au.mp hx).1;have ed:l.drop j=x::l.drop (j+1):=by
  rw[df hj]
  congr 1
  exact(au.mp hx).2
 constructor
 ·rw[e,cF ()]
  congr 1
  omega
 ·rw[ed,fz]
noncomputable abbrev kN(j:Nat):Key:=.inl (j:Int)
theorem a17{c:Key}:p0 (putD kvs c x) c=some x:=by
 unfold p0 putD;by_cases h:(kvs.any λkv=>decide (kv.1=c))=true
 ·rw[aJ h]
  induction kvs with
  |nil=>cases h
  |cons kv r ih =>
   rw[cP,fc];by_cases hk:kv.1=c
   ·rw[aJ hk];simp[hk]
   ·rw[aD hk];simp only[hk,decide_false];refine ih ?_;rw[jW,dh] at h;exact h.resolve_left (by simp[hk])
 ·rw[aD h,kQ];have:kvs.find? (λkv=>decide (kv.1=c))=none:=by
   rw[ke];exact λkv hk hc=>h (aV.mpr ⟨kv,hk,hc⟩)
  rw[this];simp
theorem Zn{c c':Key}(hn:c≠c'):p0 (putD kvs c x) c'=p0 kvs c':=by
 unfold p0 putD;by_cases h:(kvs.any λkv=>decide (kv.1=c))=true
 ·rw[aJ h];clear h
  induction kvs with
  |nil=>rfl
  |cons kv r ih =>
   rw[cP,fc,fc];by_cases hk:kv.1=c
   ·rw[aJ hk];have:kv.1≠c':=λz=>hn (hk.symm.trans z);simp only[this,decide_false];exact ih
   ·rw[aD hk];by_cases oi:kv.1=c'
    ·simp only[oi,decide_true]
    ·simp only[oi,decide_false];exact ih
 ·rw[aD h,kQ];have:[(c,x)].find? (λkv=>decide (kv.1=c'))=none:=by simp[hn]
  rw[this];simp
theorem a16{c:Key}:(putD kvs c x).length<=kvs.length+1:=by
 unfold putD;split<;>simp
theorem Xa{i:Nat}(h:i≠j):kN i≠kN j:=λz=>h (by have:(i:Int)=j:=mD z;omega)
def F0:aY:=⟨1,5,(.seq (.set 1 (.prim (.kj 0) .nil)) (.seq (.set 2 (.prim .lst .nil)) (.seq (.dM (.one 3) (.eO (bI (.bin .Add) (dj (.fld "full") aM) (bh 1))) (.seq (.ifs (dS .In bz bj) (.seq (.expr (.eX .append bq (fk bz))) (.seq (.dM (.one 4) (.eY (.call 116 (dC aM bz))) (.seq (.expr (.eX .kl bj (fk (.call 91 (dC bz cx))))) .pass)) .pass)) .pass) .pass)) (.seq (.ret bq) .pass))))⟩
def Ca:aY:=⟨1,3,(.seq (.set 1 (.prim .Z6 .nil)) (.seq (.dM (.one 2) (.nX (.call 117 (fk aM))) (.seq (.ifs (dS .Eq bq (dj (.fld "full") aM)) (.seq (.eM bj bq (bh 1)) .pass) (.seq (.eM bj bq (dj .sum (.comp [2,1] 4 (.one 3) (.eY (.call 116 (dC aM bq))) .no (cR bj (.call 91 (dC aM bz)))))) .pass)) .pass)) (.seq (.ret bj) .pass)))⟩
def yL:aY:=⟨4,7,(.seq (.set 4 (.call 116 (dC aM bq))) (.seq (.set 5 bz) (.seq (.set 6 (bh 0)) (.seq (.ki (dS .GtE dY (cR bj (.call 91 (dC bq (cR cx eB))))) (.seq (.kC 5 .nr (cR bj (.call 91 (dC bq (cR cx eB))))) (.seq (.kC 6 .iadd (bh 1)) .pass))) (.seq (.ret (bI .tup (cR cx eB) dY)) .pass)))))⟩
def L8:aY:=⟨3,7,(.seq (.set 3 (.prim .lst .nil)) (.seq (.set 4 (bh 0)) (.seq (.set 5 bq) (.seq (.ki (dS .NotEq cx (dj (.fld "full") aM)) (.seq (.lX (.many [6,5]) (.call 122 (lx aM bj cx dY))) (.seq (.expr (.eX .append bz (fk eB))) (.seq (.set 4 (.call 91 (dC cx eB))) .pass)))) (.seq (.ret bz) .pass)))))⟩
def F7:aY:=⟨1,2,(.seq (.set 1 (.call 121 (fk aM))) (.seq (.ifs (dS .Eq (cR bj (bh 0)) (bh 0)) (.seq (.ret (.lit .bR)) .pass) .pass) (.seq (.ret (.call 123 (gJ aM bj (bh 0)))) .pass)))⟩
def M5:aY:=⟨3,3,(.seq (.ret (.call 124 (fk (.call 99 (gJ aM bj bq))))) .pass)⟩
def Y5:aY:=⟨3,3,(.seq (.ret (cR (.call 121 (fk (.call 99 (gJ aM bj bq)))) (bh 0))) .pass)⟩
theorem V7:∀{l m:List Nat},l.Nodup->(∀x∈l,x∈m)->l.length<=m.length
 |[],m,_,_=>cj _
 |x::r,m,nd,h=>by
  rw[dW] at nd;have:=V7 (l:=r) (m:=m.erase x) nd.2 λy hy=>(List.mem_erase_of_ne λz=>nd.1 (by simp_all)).mpr (h y (by simp[hy]))
  grind
section
variable{U:S}{t:MT}{it elt:ME}{c8:List Nat}
inductive wL(P:fK)(t:MT)(elt:ME)(Q:KD)(U:S)(k:IK)(g1:G):Prop
 |mk (l:List D) (Sh:S->Prop) (w:Nat->D) (hk:∀g',Ex g1 g'->k.Is l g') (hl:l.length<=1000) (h0:Sh U)
   (hs:∀i d U g',l[i]?=some d->Ex g1 g'->Sh U->jK t d U λcH=>bp P elt cH g' (λy g4=>y=w i/\Ex g1 g4/\Sh cH) jr) (hd:∀g',Ex g1 g'->Q (.ref g'.length) (g'++[.lst ((List.range l.length).map w)])):wL P t elt Q U k g1
theorem YG(hP:i8 P)(h:gS P it U g (wL P t elt Q (E1 U c8 n)) E):bp P (.comp c8 n t it .no elt) U g Q E:=by
 refine F5 hP (z9 hP it _ _ _ _ _ _ (λk g1 h=>?_) (λ_ _ z=>z) h);obtain⟨l,Sh,w,hk,hl,h0,hs,hd⟩:=h;refine⟨l,λi ys U g'=>Ex g1 g'/\ys=(List.range i).map w/\Sh U,hl,λi ys U g' q=>⟨hk _ q.1,by simp_all⟩,⟨Ex.refl _,rfl,h0⟩,λi x ys U g' hx q=>?_,λys U g' q=>?_⟩
 ·obtain⟨e1,rfl,sh⟩:=q;refine w5 (λcH q=>Dz (mj (b9 hP elt _ _ _ _ _ _ (λy g4 q=>?_) (λ_ _ z=>z) q))) (hs i x U g' hx e1 sh);obtain⟨rfl,e4,sh⟩:=q;exact⟨e4,by rw[fb,dX];rfl,sh⟩
 ·obtain⟨e1,rfl,sh⟩:=q;exact hd g' e1
end
def pb(g:G)(sd n:Nat)(K:List Nat):Prop:=∃S m,g[sd]?=some (.set S m)/\m=K.length/\K.Nodup/\(∀j∈K,j<2 ^ n)/\∀k:Int,S k=true↔∃j∈K,k=(j:Nat)
theorem pb.at{g g':G}{sd n:Nat}{K:List Nat}(h:pb g sd n K)(e:Ex g g'):pb g' sd n K:=let ⟨S,m,h1,h2⟩:=h;⟨S,m,e.at h1,h2⟩
theorem pb.size{sd:Nat}{K:List Nat}(h:pb g sd n K):K.length<=2 ^ n:=by
 obtain⟨S,m,_,_,nd,lt,_⟩:=h;have:=V7 (m:=List.range (2 ^ n)) nd λx hx=>aX.mpr (lt x hx)
 simp_all
structure TW(T:Nat->Option aY):Prop where
 nH:T 117=some F0
 AO:T 121=some Ca
structure Wy(g:G)(w:Nat)(cs:List a9)(v:Int)(rs:List eP):Prop where
 ex:∃kvs,g[w]?=some (.ee kvs)/\∀s,ic (i9 cs v rs) s->p0 kvs (kN s)=some (.int ((k9 cs.length (i9 cs v rs) s).length:Nat))
theorem Wy.at{g g':G}{w:Nat}{cs:List a9}{v:Int}{rs:List eP}(h:Wy g w cs v rs)(e:Ex g g'):Wy g' w cs v rs:=let ⟨kvs,h1,h2⟩:=h.ex;⟨⟨kvs,e.at h1,h2⟩⟩
theorem ZP{l:List Nat}(hl:l.Pairwise (· > ·)){s x:Nat}(hi:l[i]?=some s)(hx:x∈l)(h:s<x):x∈l.take i:=by
 obtain⟨j,hj,rfl⟩:=bg.mp hx;obtain⟨iR,rfl⟩:=au.mp hi;have NC:j<i:=by
  rcases fq j i with z|z|z
  ·exact z
  ·subst z;omega
  ·have:=cJ.mp hl i j iR hj z;omega
 exact fN.mpr ⟨j,by rw[eV NC,ae hj]⟩
theorem Ed(h:n<=9):1<=2 ^ n/\2 ^ n<=512:=⟨fg,js () h⟩
section
variable{T:Nat->Option aY}{d:Nat}
theorem IM(hT:TB0 T)(hF:TF T)(nH:T 117=some F0)(B:Bd g b cs v rs)(hz:cs.length<=9)(hr:rs.length<=900)(h:∀(L:List Nat) l g',Ex g g'->g.length<=l->g'[l]?=some (.lst (b7 L))->L.Pairwise (· < ·)->(∀s,s∈L↔ic (i9 cs v rs) s)->L.length<=512->Q (.ref l) g'):b8 T (k+6) 117 [.ref b] g Q E:=by
 refine call_of nH rfl ?_;have lJ:=A8 cs v rs;generalize pN:i9 cs v rs=F at *;obtain⟨w0,l0,dd,nb,f1,f2,f3,f4,f5⟩:=B.ex;have p2:=Ed hz;refine TL ?_;have s1:pb (g++[O.set (λk=>decide (k=0)) 1]) g.length cs.length [0]:=⟨_,_,b0,rfl,by simp,by simp;omega,λk=>by simp⟩
 have e1:=Ex.snoc g (O.set (λk=>decide (k=0)) 1);generalize g++[O.set (λk=>decide (k=0)) 1]=g1 at *;left;have e2:=e1.trans (Ex.snoc g1 (O.lst []));have s2:=s1.at (Ex.snoc g1 (O.lst []));have t2:=b0 (g:=g1) (o:=O.lst []);have l1:g.length<g1.length:=by obtain⟨_,_,z,_⟩:=s1;exact n4 z
 generalize g1.length=tl at *;refine u9 (a8 T _) (U2 (a8 T _) ?_);left;refine O3 (e2.at f1) rfl ?_;left;have en:((2 ^ cs.length-1:Nat):Int)+1=((2 ^ cs.length:Nat):Int):=by omega
 rw[en];refine⟨by omega,by omega,j6 0 (2 ^ cs.length),λt U g'=>Ex g g'/\(∃K,pb g' g.length cs.length K/\∀j,j∈K↔j=0\/∃s p,s<t/\ic F s/\p∈F s/\j=s |||2 ^ p)/\(∃L,g'[tl]?=some (.lst (b7 L))/\L.Pairwise (· < ·)/\(∀s,s∈L↔s<t/\ic F s)/\L.length<=t)/\∃z3 z4,U=[some (.ref b),some (.ref g.length),some (.ref tl),z3,z4],λ_ _ _ _=>by exact u7,⟨e2,⟨[0],s2,λj=>by simp⟩,⟨[],t2,by simp,by simp,by simp⟩,none,none,rfl⟩,λt x U g' hx q=>?_,λU g' q=>?_⟩
 ·obtain⟨e3,⟨K,s3,hK⟩,⟨L,t3,pw,hL,vz⟩,z3,z4,rfl⟩:=q;obtain⟨ht,rfl⟩:=x6 hx;rw[eI];have nz:t∈K↔ic F t:=by
   rw[hK];constructor
   ·rintro(rfl|⟨s,p,_,h2,h3,rfl⟩)
    ·exact .zero
    ·exact .step h2 h3
   ·intro h;cases h with
    |zero=>exact .inl rfl
    |step h hp=>exact .inr ⟨_,_,ym (lJ _ _ hp).2,h,hp,rfl⟩
  refine i6 ?_;left;obtain⟨S,m,sg,sm,snd,slt,sS⟩:=id s3;refine Ww sg ?_;left;have Gj:S (t:Nat)=true↔ic F t:=by
   rw[sS,<- nz];exact⟨λ⟨j,hj,e⟩=>by rw[show t=j by omega];exact hj,λz=>⟨t,z,rfl⟩⟩
  cases hb:S (t:Nat) with
  |false =>
   have pK:¬ic F t:=λz=>by rw[Gj.mpr z] at hb;cases hb
   refine fj rfl ?_;refine⟨e3,⟨K,s3,λj=>(hK j).trans ⟨?_,?_⟩⟩,⟨L,t3,pw,λs=>(hL s).trans ⟨λz=>⟨by omega,z.2⟩,λz=>⟨?_,z.2⟩⟩,by omega⟩,_,_,rfl⟩
   ·rintro(z|⟨s,p,h1,h2⟩)
    ·exact .inl z
    ·exact .inr ⟨s,p,by omega,h2⟩
   ·rintro(z|⟨s,p,h1,h2,h3⟩)
    ·exact .inl z
    ·refine .inr ⟨s,p,?_,h2,h3⟩;rcases ft s t with y|y
     ·exact y
     ·exact absurd (show ic F t by rw[show t=s by omega];exact h2) pK
   ·rcases ft s t with y|y
    ·exact y
    ·exact absurd (show ic F t by rw[show t=s by omega];exact z.2) pK
  |true =>
   have hR:=Gj.mp hb;refine gb rfl ?_;left;refine P5 t3 (by simp[b7];omega) ?_;have Mj:tl≠g.length:=by omega
   have s4:pb (g'.set tl (.lst (b7 L++[D.int (t:Nat)]))) g.length cs.length K:=⟨S,m,d5 sg Mj,sm,snd,slt,sS⟩
   have t4:(g'.set tl (.lst (b7 L++[D.int (t:Nat)])))[tl]?=some (.lst (b7 (L++[t]))):=by rw[get_set t3];simp[b7]
   have e4:Ex g (g'.set tl (.lst (b7 L++[D.int (t:Nat)]))):=⟨by simp;exact e3.len,λi hi=>by rw[az ()];exact e3.old i hi⟩
   generalize g'.set tl (.lst (b7 L++[D.int (t:Nat)]))=g4 at *;left;refine u9 (a8 T _) (ky (a8 T _) ?_);left;refine K9 (k:=k) hT hF (B.at e4) hz hr ht λg5 fl e5 Ar h5=>?_;rw[pN] at h5;have l4:tl<g4.length:=n4 t4;refine⟨fl,_,rfl,a7 h5,b7 (F t),λj U g'=>Ex g g'/\g'[fl]?=some (.lst (b7 (F t)))/\g'[tl]?=some (.lst (b7 (L++[t])))/\(∃K',pb g' g.length cs.length K'/\∀x,x∈K'↔x∈K\/∃p∈(F t).take j,x=t |||2 ^ p)/\∃z4,U=[some (.ref b),some (.ref g.length),some (.ref tl),some (.int (t:Nat)),z4],λj U g' q=>k4 (a7 q.2.1),⟨e4.trans e5,h5,e5.at t4,⟨K,s4.at e5,λx=>by simp⟩,z4,rfl⟩,λj x U g' hx q=>?_,λU g' q=>?_⟩
   ·obtain⟨e6,h6,t6,⟨K',s6,sV⟩,z4,rfl⟩:=q;rw[b7,ag,aa] at hx;obtain⟨p,hp,rfl⟩:=hx;have lC:=aF hp;have pI:=(lJ _ _ lC)
    have tk:(F t).take (j+1)=(F t).take j++[p]:=by rw[bu,hp];rfl
    obtain⟨S6,m6,xi,EK,uv,ux,su⟩:=id s6;refine i6 ?_;left;refine⟨Tu xi,?_⟩;left;refine v9 (k:=k+4) hT.om () ?_;have hsz:=s6.size;refine QS xi () ?_;have dF:=Q2 ht pI.1;refine⟨⟨by simp;exact e6.len,λi hi=>by rw[az ()];exact e6.old i hi⟩,d5 h6 (),d5 t6 (),?_,_,rfl⟩;by_cases iQ:S6 ((t |||2 ^ p:Nat):Int)=true
    ·refine⟨K',⟨_,_,get_set xi,by rw[aJ iQ];exact EK,uv,ux,λk=>?_⟩,λx=>?_⟩
     ·rw[dh,bL];constructor
      ·rintro(z|z)
       ·exact(su k).mp z
       ·subst z;exact(su _).mp iQ
      ·exact λz=>.inl ((su k).mpr z)
     ·rw[sV x,tk];simp only[List.mem_append,List.mem_singleton];constructor
      ·rintro(z|⟨q,z1,z2⟩)
       ·exact .inl z
       ·exact .inr ⟨q,.inl z1,z2⟩
      ·rintro(z|⟨q,z1|z1,z2⟩)
       ·exact .inl z
       ·exact .inr ⟨q,z1,z2⟩
       ·subst z1 z2;obtain⟨y,y1,y2⟩:=(su _).mp iQ;rw[<- sV,show(t |||2 ^ q)=y by omega];exact y1
    ·have Ab:(t |||2 ^ p)∉K':=λz=>iQ ((su _).mpr ⟨_,z,rfl⟩);refine⟨K'++[t |||2 ^ p],⟨_,_,get_set xi,by rw[aD iQ];simp[EK],?_,λy hy=>?_,λk=>?_⟩,λx=>?_⟩
     ·rw[cE];exact⟨uv,by simp,λx hx y hy=>by cases aQ.mp hy;exact λz=>Ab (z▸hx)⟩
     ·rcases aR.mp hy with z|z
      ·exact ux y z
      ·cases aQ.mp z;exact dF
     ·rw[dh,bL,su];simp only[List.mem_append,List.mem_singleton];constructor
      ·rintro(⟨y,y1,y2⟩|z)
       ·exact⟨y,.inl y1,y2⟩
       ·exact⟨_,.inr rfl,z⟩
      ·rintro⟨y,y1|y1,y2⟩
       ·exact .inl ⟨y,y1,y2⟩
       ·subst y1;exact .inr y2
     ·rw[aR,aQ,sV x,tk];simp only[List.mem_append,List.mem_singleton];constructor
      ·rintro((z|⟨q,z1,z2⟩)|z)
       ·exact .inl z
       ·exact .inr ⟨q,.inl z1,z2⟩
       ·exact .inr ⟨p,.inr rfl,z⟩
      ·rintro(z|⟨q,z1|z1,z2⟩)
       ·exact .inl (.inl z)
       ·exact .inl (.inr ⟨q,z1,z2⟩)
       ·subst z1;exact .inr z2
   ·obtain⟨e6,h6,t6,⟨K',s6,sV⟩,z4,rfl⟩:=q;rw[b7,ai,bY] at sV;refine⟨e6,⟨K',s6,λj=>(sV j).trans ?_⟩,⟨L++[t],t6,?_,λs=>?_,by simp;omega⟩,_,_,rfl⟩
    ·rw[hK j];constructor
     ·rintro((z|⟨s,p,h1,h2⟩)|⟨p,h1,h2⟩)
      ·exact .inl z
      ·exact .inr ⟨s,p,by omega,h2⟩
      ·exact .inr ⟨t,p,by omega,hR,h1,h2⟩
     ·rintro(z|⟨s,p,h1,h2,h3,h4⟩)
      ·exact .inl (.inl z)
      ·rcases ft s t with y|y
       ·exact .inl (.inr ⟨s,p,y,h2,h3,h4⟩)
       ·have:s=t:=by omega
        subst this;exact .inr ⟨p,h3,h4⟩
    ·rw[aW];exact⟨pw,by simp,λx hx y hy=>by cases aQ.mp hy;exact((hL x).mp hx).1⟩
    ·rw[aR,aQ,hL s];constructor
     ·rintro(z|z)
      ·exact⟨by omega,z.2⟩
      ·subst z;exact⟨by omega,hR⟩
     ·rintro⟨z1,z2⟩;rcases ft s t with y|y
      ·exact .inl ⟨y,z2⟩
      ·exact .inr ()
 ·obtain⟨e3,⟨K,s3,hK⟩,⟨L,t3,pw,hL,vz⟩,z3,z4,rfl⟩:=q;rw[j9] at hL vz;left;exact h L tl g' e3 () t3 pw (λs=>(hL s).trans ⟨λz=>z.2,λz=>⟨z.lt lJ,z⟩⟩) ()
theorem Kp(hT:TB0 T)(hF:TF T)(hW:TW T)(B:Bd g b cs v rs)(hz:cs.length<=9)(hr:rs.length<=900)(h:∀w g',Ex g g'->g.length<=w->Wy g' w cs v rs->Q (.ref w) g'):b8 T (k+7) 121 [.ref b] g Q E:=by
 refine call_of hW.AO rfl ?_;dsimp[Ca,c7,List.replicate];have lJ:=A8 cs v rs;generalize pN:i9 cs v rs=F at *;obtain⟨w0,l0,dd,nb,f1,f2,f3,f4,f5⟩:=B.ex;have p2:=Ed hz;left;have e1:=Ex.snoc g (O.ee []);have w1:=b0 (g:=g) (o:=O.ee []);generalize g++[O.ee []]=g1 at *;refine u9 (a8 T _) (MV ?_);left;refine IM (k:=k) hT hF hW.nH (B.at e1) hz hr λL l g2 e2 hl h2 pw hL vz=>?_;rw[pN] at hL;have lw:=n4 w1;have Mv:L.reverse.Pairwise (· > ·):=fM.mpr pw;have zO:(b7 L).length=L.length:=by simp[b7]
 refine⟨l,_,rfl,a7 h2,(b7 L).reverse,λi U g'=>Ex g g'/\g'[l]?=some (.lst (b7 L))/\(∃kvs,g'[g.length]?=some (.ee kvs)/\kvs.length<=i/\∀s∈L.reverse.take i,p0 kvs (kN s)=some (.int ((k9 cs.length F s).length:Nat)))/\∃z2,U=[some (.ref b),some (.ref g.length),z2],λi U g' q=>QB (a7 q.2.1),⟨e1.trans e2,h2,⟨[],e2.at w1,by simp,by simp⟩,none,rfl⟩,λi x U g' hx q=>?_,λU g' q=>?_⟩
 ·obtain⟨e3,h3,⟨kvs,w3,hk,vi⟩,z2,rfl⟩:=q;rw[b7,<- List.map_reverse,ag,aa] at hx;obtain⟨s,hs,rfl⟩:=hx;have FN:i<L.length:=by have:=(au.mp hs).1;simpa using this
  have Fx:ic F s:=(hL s).mp (cX.mp (aF hs));have sH:=Fx.lt lJ;have tk:L.reverse.take (i+1)=L.reverse.take i++[s]:=by rw[bu,hs];rfl
  have fin:∀(N:Ends) g4 z2,Ex g' g4->(∀g5,(Ex g g5/\g5[l]?=some (.lst (b7 L))/\(∃kvs,g5[g.length]?=some (.ee kvs)/\kvs.length<=i+1/\∀s∈L.reverse.take (i+1),p0 kvs (kN s)=some (.int ((k9 cs.length F s).length:Nat)))/\∃z2,([some (.ref b),some (.ref g.length),z2]:S)=[some (.ref b),some (.ref g.length),z2])->N.nx [some (.ref b),some (.ref g.length),z2] g5)->T4 (.ref g.length) (.int (s:Nat)) (.int ((k9 cs.length F s).length:Nat)) g4 λg5=>N.nx [some (.ref b),some (.ref g.length),z2] g5:=λN g4 z2 e4 hN=>by
   refine Lf (e4.at w3) rfl () ?_;refine hN _ ⟨⟨by simp;exact(e3.trans e4).len,λj hj=>by rw[az ()];exact(e3.trans e4).old j hj⟩,d5 (e4.at h3) (),⟨_,get_set (e4.at w3),aC a16 (),λs' hU=>?_⟩,z2,rfl⟩;rw[tk] at hU;by_cases zV:s'=s
   ·subst zV;exact a17
   ·refine(Zn (Xa (cz zV))).trans (vi s' ?_);rcases aR.mp hU with z|z
    ·exact z
    ·exact absurd (aQ.mp z) zV
  refine i6 ?_;left;refine O3 (e3.at f1) rfl ?_;left;have ed:decide (((s:Nat):Int)=((2 ^ cs.length-1:Nat):Int))=decide (s=2 ^ cs.length-1):=cW.mpr ();rw[ed];refine if2 (λc1=>?_) (λc1=>?_)
  ·left;have e1:(1:Int)=((k9 cs.length F s).length:Nat):=by rw[N6 c1];rfl
   rw[e1];exact fin _ _ _ (Ex.refl _) λg5 z=>⟨z.1,z.2.1,z.2.2.1,_,rfl⟩
  ·left;refine YG (a8 T _) (ky (a8 T _) ?_);left;refine K9 (k:=k+1) hT hF (B.at e3) hz hr sH λg4 fl e4 Ar h4=>?_;rw[pN] at h4;refine⟨fl,_,rfl,a7 h4,b7 (F s),λU=>∃z2 z3,U=[some (.int (s:Nat)),some (.ref g.length),z2,z3],λi=>.int ((k9 cs.length F (s |||2 ^ ((F s).getD i 0))).length:Nat),λg' e=>k4 (a7 (e.at h4)),?_,⟨none,none,rfl⟩,λj d U g5 hx e5 sh=>?_,λg5 e5=>?_⟩
   ·have:(F s).length<=cs.length:=by rw[<- pN];exact E6
    simp[b7];omega
   ·obtain⟨z2,z3,rfl⟩:=sh;rw[b7,ag,aa] at hx;obtain⟨p,hp,rfl⟩:=hx;have lC:=aF hp;have pI:=lJ _ _ lC;refine i6 ?_;left;refine v9 (k:=k+5) hT.om () ?_;have hv:p0 kvs (kN (s |||2 ^ p))=some (.int ((k9 cs.length F (s |||2 ^ p)).length:Nat)):=by
     refine vi _ (ZP Mv hs (cX.mpr ((hL _).mpr (.step Fx lC))) (ym pI.2))
    refine wC ((e4.trans e5).at w3) rfl hv ?_;exact⟨by simp[List.getD,hp],e5,_,_,rfl⟩
   ·have el:(List.range (b7 (F s)).length).map (λi=>D.int ((k9 cs.length F (s |||2 ^ ((F s).getD i 0))).length:Nat))=(((F s).map λp=>(k9 cs.length F (s |||2 ^ p)).length).map λ(n:Nat)=>(n:Int)).map D.int:=by
     refine bP λi=>?_;rw[ag,ag,ag,ag];by_cases hi:i<(F s).length
     ·rw[cg (by simpa[b7] using hi),ae hi];simp[List.getD,hi]
     ·rw[aP (by simpa[b7] using hi),aP ()]
      rfl
    rw[el];refine Ll (a7 b0) ?_;have es:(((F s).map λp=>(k9 cs.length F (s |||2 ^ p)).length).map λ(n:Nat)=>(n:Int)).sum=((k9 cs.length F s).length:Nat):=by
     rw[UR lJ sH c1];generalize (F s).map (λp=>(k9 cs.length F (s |||2 ^ p)).length)=m
     induction m with
     |nil=>rfl
     |cons x r ih=>simp[ih]
    rw[es];left;exact fin _ _ _ (e4.trans (e5.trans (Ex.snoc _ _))) λg6 z=>⟨z.1,z.2.1,z.2.2.1,_,rfl⟩
 ·obtain⟨e3,h3,⟨kvs,w3,hk,vi⟩,z2,rfl⟩:=q;rw[List.length_reverse,zO,cV (by simp)] at vi;left;refine h _ _ e3 (av _) ⟨⟨kvs,w3,λs hs=>?_⟩⟩;rw[pN] at hs ⊢;exact vi s (cX.mpr ((hL s).mpr hs))
end
structure TN(T:Nat->Option aY):Prop where
 rg:T 122=some yL
 AN:T 123=some L8
section
variable{T:Nat->Option aY}{d:Nat}{w:Nat}
theorem IW(hT:TB T)(hF:TF T)(hW:TW T)(oO:T 126=some Y5)(ha:g[a]?=some (.lst (cs.map a9.d)))(hz:cs.length<=9)(hg:cs.all q9=true)(hB:∀c∈cs,CB c)(hv:1<=v/\v<=9)(hc:g[c]?=some (.lst (s9 rs)))(hr:rs.length<=900)(hR:rs.all (u3 cs)=true)(h:∀g',Ex g g'->Q (.int ((k9 cs.length (i9 cs v rs) 0).length:Nat)) g'):b8 T (k+11) 126 [.ref a,.int v,.ref c] g Q E:=by
 refine call_of oO rfl ?_;dsimp[Y5,c7,List.replicate];left;refine F8 (k:=k) hT ha hz hg hB hv hc hr hR λg1 b e1 _ B=>?_;left;refine Kp (k:=k+3) hT hF hW B hz hr λw g2 e2 _ W=>?_;left;obtain⟨kvs,w1,w2⟩:=W.ex;exact wC w1 rfl (w2 0 .zero) (h _ (e1.trans e2))
theorem aK6(hT:TB0 T)(hF:TF T)(rg:T 122=some yL)(B:Bd g b cs v rs)(W:Wy g w cs v rs)(hz:cs.length<=9)(hr:rs.length<=900){s:Nat}(hs:ic (i9 cs v rs) s)(fF:s≠2 ^ cs.length-1)(hm:m<(k9 cs.length (i9 cs v rs) s).length)(h:∀(p l:Nat) g',Ex g g'->p∈i9 cs v rs s->l<(k9 cs.length (i9 cs v rs) (s |||2 ^ p)).length->(k9 cs.length (i9 cs v rs) s)[m]?=((k9 cs.length (i9 cs v rs) (s |||2 ^ p))[l]?).map (p::·)->Q (.tup [.int (p:Nat),.int (l:Nat)]) g'):b8 T (k+6) 122 [.ref b,.ref w,.int (s:Nat),.int (m:Nat)] g Q E:=by
 refine call_of rg rfl ?_;dsimp[yL,c7,List.replicate];have lJ:=A8 cs v rs;have sH:=hs.lt lJ;have eo:=V4 lJ sH fF;left;refine K9 (k:=k) hT hF B hz hr sH λg1 ch e1 _ lF=>?_;generalize pN:i9 cs v rs=F at *;obtain⟨kvs,w1,w2⟩:=W.ex;rw[pN] at w2;left;generalize FV:(λp=>(k9 cs.length F (s |||2 ^ p)).map (p::·))=f at *;have vJ:∀p,(f p).length=(k9 cs.length F (s |||2 ^ p)).length:=λp=>by rw[<- FV];simp
 rw[eo] at hm;have Mw:0<(F s).length:=by
  cases hl:F s with
  |nil=>rw[hl] at hm;simp at hm
  |cons _ _=>simp
 refine Ko (λmm U g'=>Ex g1 g'/\∃j lf:Nat,U=[some (.ref b),some (.ref w),some (.int (s:Nat)),some (.int (m:Nat)),some (.ref ch),some (.int (lf:Nat)),some (.int (j:Nat))]/\j<(F s).length/\mm=(F s).length-j/\m=(((F s).take j).flatMap f).length+lf/\lf<(((F s).drop j).flatMap f).length) _ ⟨Ex.refl _,0,m,rfl,Mw,rfl,by simp,by simpa using hm⟩ (λmm U g' q=>?_) (a8 T _);obtain⟨e2,j,lf,rfl,hj,rfl,ny,qL⟩:=q;have hx:=ae hj;generalize (F s)[j]=p at hx;have lC:=aF hx;have pI:=lJ _ _ lC;have hv:p0 kvs (kN (s |||2 ^ p))=some (.int ((f p).length:Nat)):=by rw[vJ];exact w2 _ (.step hs lC)
 have BJ:gs (b7 (F s)) (j:Int)=some (.int (p:Nat)):=C1 (by rw[b7,ag,hx];rfl);have sp:=ZE (f:=f) hx lf;have lM:=e1.trans e2;left;refine m8 (a7 (e2.at lF)) BJ ?_;left;refine v9 (k:=k+4) hT.om () ?_;refine wC (lM.at w1) rfl hv ?_;left;by_cases hc:(f p).length<=lf
 ·refine gb (aw ()) ?_;refine JL rfl ?_;left;refine m8 (a7 (e2.at lF)) BJ ?_;left;refine v9 (k:=k+4) hT.om () ?_;refine wC (lM.at w1) rfl hv ?_;refine QA ?_;left;refine JL rfl ?_;left;refine Qw ?_;have tk:(F s).take (j+1)=(F s).take j++[p]:=by rw[bu,hx];rfl
  rw[sp.2,bE] at qL;have qO:j+1<(F s).length:=by
   rcases ft (j+1) (F s).length with z|z
   ·exact z
   ·rw[iA z] at qL;simp at qL;omega
  refine⟨_,?_,e2,j+1,lf-(f p).length,?_,qO,rfl,?_,by omega⟩
  ·omega
  ·have e1:((lf:Nat):Int)-((f p).length:Nat)=((lf-(f p).length:Nat):Int):=by omega
   have e2:((j:Nat):Int)+1=((j+1:Nat):Int):=by omega
   rw[e1,e2]
   rfl
  ·rw[tk,Ew,bE,fz,List.flatMap_nil,dg];omega
 ·refine fj (aE ()) ?_;left;refine m8 (a7 (e2.at lF)) BJ ?_;left;refine h p lf g' lM lC (by rw[vJ] at hc;omega) ?_;rw[eo,ny,sp.1,sp.2,aL (),<- FV];simp
theorem aF2(hT:TB0 T)(hF:TF T)(hN:TN T)(B:Bd g b cs v rs)(W:Wy g w cs v rs)(hz:cs.length<=9)(hr:rs.length<=900){o:List Nat}(hm:(k9 cs.length (i9 cs v rs) 0)[m]?=some o)(h:∀l g',Ex g g'->g.length<=l->g'[l]?=some (.lst (b7 o))->Q (.ref l) g'):b8 T (k+7) 123 [.ref b,.ref w,.int (m:Nat)] g Q E:=by
 refine call_of hN.AN rfl ?_;dsimp[L8,c7,List.replicate];have lJ:=A8 cs v rs;obtain⟨w0,l0,dd,nb,f1,f2,f3,f4,f5⟩:=B.ex;have p2:=Ed hz;left;have e1:=Ex.snoc g (O.lst []);have h1:=b0 (g:=g) (o:=O.lst []);refine Ko (λmm U g'=>Ex g g'/\∃(s lf:Nat) (p:List Nat) (z6:Option D),U=[some (.ref b),some (.ref w),some (.int (m:Nat)),some (.ref g.length),some (.int (s:Nat)),some (.int (lf:Nat)),z6]/\mm=2 ^ cs.length-s/\ic (i9 cs v rs) s/\lf<(k9 cs.length (i9 cs v rs) s).length/\some o=((k9 cs.length (i9 cs v rs) s)[lf]?).map (p++·)/\g'[g.length]?=some (.lst (b7 p))/\p.length<=s) _ ⟨e1,0,m,[],none,rfl,rfl,.zero,(au.mp hm).1,by rw[hm];rfl,h1,by simp⟩ (λmm U g' q=>?_) (a8 T _);obtain⟨e2,s,lf,p,z6,rfl,rfl,hs,qL,ho,hp,gF⟩:=q;have sH:=hs.lt lJ;left;refine O3 (e2.at f1) rfl ?_;left;have ed:decide (((s:Nat):Int)=((2 ^ cs.length-1:Nat):Int))=decide (s=2 ^ cs.length-1):=cW.mpr ();rw[ed];by_cases fF:s=2 ^ cs.length-1
 ·refine fj (by rw[aw fF];rfl) ?_;left;rw[N6 fF] at qL ho;have:lf=0:=by simp at qL;omega
  subst this;have:o=p:=by simpa using ho
  subst this;exact h _ _ e2 (av _) hp
 ·refine gb (by rw[aE fF];rfl) ?_;left;refine aK6 (k:=k) hT hF hN.rg (B.at e2) (W.at e2) hz hr hs fF qL λq l g3 e3 hq hl Np=>?_;refine A6 rfl ?_;have FA:=lJ _ _ hq;have FD:=e3.at hp;left;refine P5 FD (by simp[b7];omega) ?_;left;refine v9 (k:=k+5) hT.om () ?_;have FQ:=ym FA.2;have tu:=e2.trans e3;refine⟨_,?_,⟨by simp;exact tu.len,λi hi=>by rw[az ()];exact tu.old i hi⟩,s |||2 ^ q,l,p++[q],_,rfl,rfl,.step hs hq,hl,?_,?_,by simp;omega⟩
  ·omega
  ·rw[ho,Np];simp[Option.map_map,Function.comp_def]
  ·rw[get_set FD];simp[b7]
theorem XT(hT:TB0 T)(hF:TF T)(hW:TW T)(hN:TN T)(nG:T 124=some F7)(B:Bd g b cs v rs)(hz:cs.length<=9)(hr:rs.length<=900)(h1:k9 cs.length (i9 cs v rs) 0=[]->∀g',Ex g g'->Q .bR g')(h2:∀o l g',(k9 cs.length (i9 cs v rs) 0)[0]?=some o->Ex g g'->g.length<=l->g'[l]?=some (.lst (b7 o))->Q (.ref l) g'):b8 T (k+8) 124 [.ref b] g Q E:=by
 refine call_of nG rfl ?_;dsimp[F7,c7,List.replicate];left;refine Kp (k:=k) hT hF hW B hz hr λw g1 e1 hw W=>?_;left;obtain⟨kvs,w1,w2⟩:=W.ex;refine wC w1 rfl (w2 0 .zero) ?_;left;cases ho:k9 cs.length (i9 cs v rs) 0 with
 |nil =>
  refine gb (by simp) ?_;exact h1 ho _ e1
 |cons o r =>
  refine fj (by simp;omega) ?_;left;exact aF2 (k:=k) hT hF hN (m:=0) (B.at e1) W hz hr (by rw[ho];rfl) λl g2 e2 hl h=>h2 o l g2 (by rw[ho];rfl) (e1.trans e2) (aC e1.len hl) h
theorem XX(hT:TB T)(hF:TF T)(hW:TW T)(hN:TN T)(nG:T 124=some F7)(rf:T 125=some M5)(ha:g[a]?=some (.lst (cs.map a9.d)))(hz:cs.length<=9)(hg:cs.all q9=true)(hB:∀c∈cs,CB c)(hv:1<=v/\v<=9)(hc:g[c]?=some (.lst (s9 rs)))(hr:rs.length<=900)(hR:rs.all (u3 cs)=true)(h1:k9 cs.length (i9 cs v rs) 0=[]->∀g',Ex g g'->Q .bR g')(h2:∀o l g',(k9 cs.length (i9 cs v rs) 0)[0]?=some o->Ex g g'->g.length<=l->g'[l]?=some (.lst (b7 o))->Q (.ref l) g'):b8 T (k+11) 125 [.ref a,.int v,.ref c] g Q E:=by
 refine call_of rf rfl ?_;dsimp[M5,c7,List.replicate];left;refine F8 (k:=k) hT ha hz hg hB hv hc hr hR λg1 b e1 _ B=>?_;exact XT (k:=k+2) hT hF hW hN nG B hz hr (λho g2 e2=>h1 ho g2 (e1.trans e2)) λo l g2 ho e2 hl h=>h2 o l g2 ho (e1.trans e2) (aC e1.len hl) h
end
def kG(r:List Nat):Nat:=r.foldl (λs p=>s |||2 ^ p) 0
theorem Yk(r:List Nat)(p:Nat):kG (r++[p])=kG r |||2 ^ p:=by simp[kG,List.foldl_append]
theorem yO(r:List Nat)(i:Nat):(kG r).testBit i=decide (i∈r):=by
 have:∀(r:List Nat) (s:Nat),(r.foldl (λs p=>s |||2 ^ p) s).testBit i=(s.testBit i||decide (i∈r)):=by
  intro r
  induction r with
  |nil=>intro s;simp
  |cons p r ih =>
   intro s;rw[List.foldl_cons,ih,Q5,Bool.or_assoc,aU];simp
 rw[kG,this];simp
theorem Sl:∀{r:List Nat},(∀i∈r,i<n)->kG r<2 ^ n:=λ{r} h=>by
 have:∀(r:List Nat) (s:Nat),(∀i∈r,i<n)->s<2 ^ n->r.foldl (λs p=>s |||2 ^ p) s<2 ^ n:=by
  intro r
  induction r with
  |nil=>intro s _ hs;exact hs
  |cons p r ih=>intro s h hs;exact ih _ (λi hi=>h i (by simp[hi])) (Q2 hs (h p (by simp)))
 exact this r 0 h (eZ _)
def O9(F:Nat->List Nat):Nat->List (List Nat)
 |0=>[[]]
 |t+1=>(O9 F t).flatMap λr=>(F (kG r)).map λp=>r++[p]
theorem CN{n:Nat}{F:Nat->List Nat}(hF:FG n F):∀{t:Nat} {r:List Nat},r∈O9 F t->r.length=t/\r.Nodup/\∀i∈r,i<n
 |0,r,h=>by
  cases aQ.mp h;simp
 |t+1,r,h=>by
  obtain⟨r0,h0,h1⟩:=ig.mp h;obtain⟨p,hp,rfl⟩:=aH.mp h1;obtain⟨g1,g2,g3⟩:=CN hF h0;have pI:=hF _ _ hp;rw[yO] at pI;refine⟨by simp[g1],?_,λi hi=>?_⟩
  ·rw[cE];exact⟨g2,by simp,λx hx y hy=>by cases aQ.mp hy;exact λz=>(by simpa using pI.2:p∉r0) (z▸hx)⟩
  ·rcases aR.mp hi with z|z
   ·exact g3 i z
   ·cases aQ.mp z;exact pI.1
theorem Qk{r:List Nat}(h:r.Nodup)(hl:r.length=n)(hr:∀i∈r,i<n)(hi:i<n):i∈r:=by
 refine Decidable.byContradiction λhn=>?_;have:=V7 (l:=i::r) (m:=List.range n) (dW.mpr ⟨hn,h⟩) λx hx=>by
  rcases aI.mp hx with rfl|hx
  ·exact aX.mpr hi
  ·exact aX.mpr (hr x hx)
 simp at this;omega
theorem HF{r:List Nat}(h:r.Nodup)(hr:∀i∈r,i<n):kG r=2 ^ n-1↔r.length=n:=by
 constructor
 ·intro e;have:∀i,i<n->i∈r:=λi hi=>by
   have:=yO r i;rw[e,nU,aw hi] at this;exact bo this.symm
  have h1:=V7 (l:=List.range n) (m:=r) lT λi hi=>this i (aX.mp hi);have h2:=V7 (l:=r) (m:=List.range n) h λi hi=>aX.mpr (hr i hi);simp at h1 h2;omega
 ·intro hl;refine ze λi=>?_;rw[yO,nU];refine cW.mpr ⟨hr i,λhi=>Qk h hl hr hi⟩
theorem Ik{n:Nat}{F:Nat->List Nat}(hF:FG n F):∀{t:Nat},t<=n->(O9 F t).flatMap (λr=>(k9 n F (kG r)).map (r++·))=k9 n F 0
 |0,_=>by simp[O9,kG]
 |t+1,ht=>by
  rw[<- Ik hF (show t<=n by omega),O9,List.flatMap_assoc];refine F3 λr hr=>?_;obtain⟨g1,g2,g3⟩:=CN hF hr;have fF:kG r≠2 ^ n-1:=λz=>by have:=(HF g2 g3).mp z;omega
  rw[V4 hF (Sl g3) fF,List.map_flatMap,List.flatMap_map];refine F3 λp hp=>?_;rw[Yk,bZ];refine eJ λo _=>?_;simp
theorem a09{F:Nat->List Nat}(hF:FG n F):O9 F n=k9 n F 0:=by
 rw[<- Ik hF (av n)];have:∀(l:List (List Nat)),(∀r∈l,r∈O9 F n)->l.flatMap (λr=>(k9 n F (kG r)).map (r++·))=l:=by
  intro l
  induction l with
  |nil=>intro _;rfl
  |cons r l ih =>
   intro h;obtain⟨g1,g2,g3⟩:=CN hF (h r (by simp));rw[fz,ih λx hx=>h x (by simp[hx]),N6 ((HF g2 g3).mpr g1)];simp
 exact(this _ λ_ h=>h).symm
def many(cs:List a9)(v:Int)(rs:List eP):Nat:=(k9 cs.length (i9 cs v rs) 0).length
def M4:aY:=⟨1,2,(.seq (.set 1 (.call 117 (fk aM))) (.seq (.ifs (dS .Eq (cR bj (dj (.un .USub) (bh 1))) (dj (.fld "full") aM)) (.seq (.ret (.lit .bR)) .pass) .pass) (.seq (.ret bj) .pass)))⟩
section
variable{T:Nat->Option aY}
theorem U6(hT:TB0 T)(hF:TF T)(hW:T 117=some F0)(oN:T 129=some M4)(B:Bd g b cs v rs)(hz:cs.length<=9)(hr:rs.length<=900)(h:∀(L:List Nat) l g',Ex g g'->g.length<=l->g'[l]?=some (.lst (b7 L))->L.Pairwise (· < ·)->(∀s,s∈L↔ic (i9 cs v rs) s)->L.length<=512->(ic (i9 cs v rs) (2 ^ cs.length-1)->Q .bR g')/\(¬ic (i9 cs v rs) (2 ^ cs.length-1)->Q (.ref l) g')):b8 T (k+7) 129 [.ref b] g Q E:=by
 refine call_of oN rfl ?_;dsimp[M4,c7,List.replicate];obtain⟨w0,l0,dd,nb,f1,f2,f3,f4,f5⟩:=B.ex;left;refine IM (k:=k) hT hF hW B hz hr λL l g1 e1 hl h1 pw hL vz=>?_;obtain⟨Ni,xA⟩:=h L l g1 e1 hl h1 pw hL vz;have h0:0∈L:=(hL 0).mpr .zero;have Nj:=ub h0;have nA:=ae (show L.length-1<L.length by omega);generalize vc:L[L.length-1]=z at nA;have XI:gs (b7 L) (-1)=some (.int (z:Nat)):=by
  unfold gs kY;have il:(b7 L).length=L.length:=by simp[b7]
  rw[aD ∅,il,aJ (by(clear hz hr hl vc;omega))];show(b7 L)[(-1+(L.length:Int)).toNat]?=_;rw[show(-1+(L.length:Int)).toNat=L.length-1 by(clear hz hr hl vc;omega),b7,ag,nA]
  rfl
 have Ft:z∈L:=aF nA;have Af:∀x∈L,x<=z:=λx hx=>by
  obtain⟨i,hi,rfl⟩:=bg.mp hx;rcases ft i (L.length-1) with y|y
  ·have:=cJ.mp pw i (L.length-1) hi () y;omega
  ·have:i=L.length-1:=by(clear hz hr hl vc;omega)
   subst this;omega
 have MW:=((hL z).mp Ft).lt (A8 cs v rs);left;refine m8 (a7 h1) XI ?_;left;refine O3 (e1.at f1) rfl ?_;left;have ed:decide (((z:Nat):Int)=((2 ^ cs.length-1:Nat):Int))=decide (z=2 ^ cs.length-1):=cW.mpr (by(clear hz hr hl vc;omega));rw[ed];refine if2 (λc1=>?_) (λc1=>?_)
 ·left;exact Ni (c1▸(hL z).mp Ft)
 ·left;refine xA λhR=>c1 ?_;have:=Af _ ((hL _).mpr hR);omega
end
theorem So(l:List Nat):(kG l).testBit=iy l:=funext λi=>yO l i
theorem Cn{F:Nat->List Nat}:∀{t:Nat} {r:List Nat},r∈O9 F t↔r.length=t/\∀i p,r[i]?=some p->p∈F (kG (r.take i))
 |0,r=>by
  constructor
  ·intro h;cases aQ.mp h;exact⟨rfl,λi p e=>by simp at e⟩
  ·rintro⟨h,_⟩;cases ij.mp h;exact aQ.mpr rfl
 |t+1,r=>by
  show r∈(O9 F t).flatMap (λr=>(F (kG r)).map λp=>r++[p])↔_;rw[ig];constructor
  ·rintro⟨r0,h0,h1⟩;obtain⟨p,hp,rfl⟩:=aH.mp h1;obtain⟨hl,hs⟩:=Cn.mp h0;refine⟨by simp[hl],λi q e=>?_⟩;by_cases hi:i<r0.length
   ·rw[aL hi] at e;rw[List.take_append_of_le_length ()];exact hs i q e
   ·have NG:i=r0.length:=by
     have:=(au.mp e).1;simp at this;omega
    subst NG;rw[cF (av _),Nat.sub_self] at e;cases e;rw[List.take_left' rfl];exact hp
  ·rintro⟨hl,hs⟩;have ht:t<r.length:=by omega
   refine⟨r.take t,Cn.mpr ⟨by simp;omega,λi p e=>?_⟩,?_⟩
   ·have hi:i<t:=by
     have:=(au.mp e).1;simp at this;omega
    rw[eV hi] at e;rw[List.take_take,mR ()];exact hs i p e
   ·refine aH.mpr ⟨r[t],hs t _ (ae ht),?_⟩;have e:=bu (l:=r) (i:=t);rw[ae ht,cV ()] at e;exact e.symm
structure wJ(cs:List a9)(v:Int)(rs:List eP)(o:List Nat):Prop where
 len:o.length=cs.length
 st:∀i p,o[i]?=some p->p<cs.length/\p∉o.take i/\fault cs v rs (iy (o.take i)) p=""
theorem Kz{l:List Nat}:p∈i9 cs v rs (kG l)↔p<cs.length/\p∉l/\fault cs v rs (iy l) p="":=by
 unfold i9 C5;rw[bH,aX,So,aT,bL,kS,cT]
theorem a36{o:List Nat}:o∈k9 cs.length (i9 cs v rs) 0↔wJ cs v rs o:=by
 rw[<- a09 (A8 cs v rs),Cn];exact⟨λh=>⟨h.1,λi p e=>Kz.mp (h.2 i p e)⟩,λh=>⟨h.len,λi p e=>Kz.mpr (h.st i p e)⟩⟩
section
variable{o:List Nat}
theorem wJ.none(h:wJ cs v rs o):yX cs v rs (o.map λ(i:Nat)=>(i:Int))=none:=by
 have gD:∀i,i<o.length->∃p,o[i]?=some p/\(o.map λ(i:Nat)=>(i:Int)).getD i 0=(p:Nat):=λi hi=>⟨o[i],ae hi,getD_at (by rw[ag,ae hi];rfl)⟩
 unfold yX;rw[aJ (by rw[ai,h.len])];have p1:(List.range (o.map λ(i:Nat)=>(i:Int)).length).findSome? (nc cs.length (o.map λ(i:Nat)=>(i:Int)))=Option.none:=by
  rw[gA];intro i hi;rw[aX,ai] at hi;obtain⟨p,e1,e2⟩:=gD i hi;obtain⟨h1,h2,_⟩:=h.st i p e1;unfold nc;rw[e2,aJ ⟨by omega,by omega⟩,aD];rw[<- jV];intro z;obtain⟨q,hq,e⟩:=aH.mp z;exact h2 ((by omega:q=p)▸hq)
 have p2:(List.range (o.map λ(i:Nat)=>(i:Int)).length).findSome? (pS cs v rs (o.map λ(i:Nat)=>(i:Int)))=Option.none:=by
  rw[gA];intro i hi;rw[aX,ai] at hi;obtain⟨p,e1,e2⟩:=gD i hi;obtain⟨_,_,h3⟩:=h.st i p e1;unfold pS;have:G0 (o.map λ(i:Nat)=>(i:Int)) i=o.take i:=by
   unfold G0;rw[<- jV,bZ];exact(eJ λ_ _=>rfl).trans (List.map_id _)
  rw[e2,this,dw,aJ h3]
 rw[p1,p2]
 rfl
end
theorem yF{s:Nat}(h:s.testBit p=false):s |||2 ^ p=s+2 ^ p:=by
 induction p generalizing s with
 |zero =>
  rw[Nat.testBit_zero,cT] at h;have h1:=Nat.or_div_two (a:=s) (b:=1);have h2:(s |||1) % 2=1:=wV.mpr (.inr rfl);rw[show(1:Nat) / 2=0 from rfl,Nat.or_zero] at h1;show s |||1=s+1
  omega
 |succ p ih =>
  have h0:(s / 2).testBit p=false:=by rw[Nat.testBit_succ] at h;exact h
  have h1:=Nat.or_div_two (a:=s) (b:=2 ^ (p+1));have h2:=wV (a:=s) (b:=2 ^ (p+1));have e:2 ^ (p+1)=2*2 ^ p:=by rw[Nat.pow_succ,Nat.mul_comm]
  rw[e,Nat.mul_div_cancel_left _ ∅,ih h0] at h1;rw[e] at h2 ⊢;omega
theorem take1{l:List α}{x:α}(h:l[i]?=some x)(y:α):y∈l.take (i+1)↔y∈l.take i\/y=x:=by
 rw[bu,h];simp
theorem Z4(h:(b7 L)[i]?=some x):∃j,L[i]?=some j/\x=.int (j:Nat):=by
 rw[b7,ag,aa] at h;obtain⟨j,h1,h2⟩:=h;exact⟨j,h1,h2.symm⟩
theorem Hx{n:Nat}{F:Nat->List Nat}(hF:FG n F):∀(m s:Nat),2 ^ n-s<=m->s<2 ^ n->ic F s->k9 n F s≠[]->ic F (2 ^ n-1)
 |0,s,hm,hs,_,_=>by omega
 |m+1,s,hm,hs,hr,ho=>by
  by_cases e:s=2 ^ n-1
  ·exact e▸hr
  ·rw[V4 hF hs e] at ho;obtain⟨o,ho⟩:=pz _ ho;obtain⟨p,hp,hq⟩:=ig.mp ho;obtain⟨q,hq,_⟩:=aH.mp hq;have hb:=hF s p hp;have lt:=Q2 hs hb.1;have:s<s |||2 ^ p:=by rw[yF hb.2];have:=eZ p;omega
   exact Hx hF m _ () lt (.step hr hp) (LM hq)
theorem a14{F:Nat->List Nat}(hF:FG n F){s:Nat}(h:ic F s):k9 n F s≠[]->k9 n F 0≠[]:=by
 induction h with
 |zero=>exact id
 |step h hp ih =>
  rename_i s p;intro z;refine ih ?_;have hs:=h.lt hF;by_cases e:s=2 ^ n-1
  ·rw[N6 e];exact lV _ _
  ·rw[V4 hF hs e];obtain⟨o,ho⟩:=pz _ z;exact LM (ig.mpr ⟨p,hp,aH.mpr ⟨o,ho,rfl⟩⟩)
theorem a13:ic (i9 cs v rs) (2 ^ cs.length-1)↔many cs v rs≠0:=by
 have hF:=A8 cs v rs;unfold many;rw[Ne,ij];constructor
 ·intro h;refine a14 hF h ?_;rw[N6 rfl];exact lV _ _
 ·exact Hx hF _ 0 (av _) (eZ _) .zero
def Jr:aY:=⟨2,4,(.seq (.set 2 (bh 0)) (.seq (.dM (.one 3) (.eY bj) (.seq (.ifs (.dQ (.fG (.call 1 (gJ bz bq (bI (.bin .Sub) (dj (.fld "full") aM) (bh 1)))))) (.seq (.ret (.lit (.bl false))) .pass) .pass) (.seq (.set 2 (bI (.bin .Add) bz (bh 1))) .pass))) (.seq (.ret (.dA (bI (.cmp .Gt) (dj .len bj) (bh 0)) (bI (.cmp .Eq) (cR bj (bh 0)) (bh 0)))) .pass)))⟩
def CI:aY:=⟨2,5,(.seq (.set 2 (dj .nk bj)) (.seq (.dM (.one 3) (.eY bj) (.seq (.dM (.one 4) (.eY (.call 116 (dC aM bz))) (.seq (.ifs (dS .NotIn (.call 91 (dC bz cx)) bq) (.seq (.ret (.lit (.bl true))) .pass) .pass) .pass)) .pass)) (.seq (.ret (.lit (.bl false))) .pass)))⟩
def Dh:aY:=⟨4,5,(.seq (.set 4 (.call 99 (gJ aM bj bq))) (.seq (.ret (.dA (.call 130 (dC cx bz)) (.dQ (.call 131 (dC cx bz))))) .pass))⟩
def Di:aY:=⟨1,1,(.seq (.ret (.dA (bI .isin aM (.lit (.ty "list"))) (dj .all (.comp [] 2 (.one 1) (.eY aM) .no (.call 6 (fk bj)))))) .pass)⟩
def Cm:aY:=⟨4,8,(.seq (.set 4 (bI (.bin .Sub) (.call 147 (fk (dj .len aM))) (bh 1))) (.seq (.ifs (.jd (.dQ (.fG (.call 86 (fk bz)))) (.jd (dS .NotEq bz (dj .sset bz)) (dS .NotIn (bh 0) bz))) (.seq (.ret (.lit (.bl false))) .pass) .pass) (.seq (.ifs (.dQ (.fG (dj .all (.comp [4] 3 (.one 2) (.eY bz) .no (.chain .LtE .Lt (bh 0) bq aM))))) (.seq (.ret (.lit (.bl false))) .pass) .pass) (.seq (.set 6 (dj .kB (.comp [] 2 (.one 1) (.eY bz) .no (bI .tup bj (.lit (.bl true)))))) (.seq (.dM (.one 5) (.eY bz) (.seq (.dM (.one 7) (.eY (.call 148 (lx aM bj bq dY))) (.seq (.ifs (dS .NotIn (bI (.bin .Add) dY (.call 147 (fk gL))) eB) (.seq (.ret (.lit (.bl false))) .pass) .pass) .pass)) .pass)) (.seq (.ret (.lit (.bl true))) .pass))))))⟩
def Y6:aY:=⟨4,4,(.seq (.ret (.dA (.call 86 (fk aM)) (bI (.cmp .Is) (.call 109 (lx bj bq bz aM)) (.lit .bR)))) .pass)⟩
def Y1:aY:=⟨3,3,(.seq (.ret (.call 129 (fk (.call 99 (gJ aM bj bq))))) .pass)⟩
def Ec:aY:=⟨1,11,(.seq (.set 1 (.call 3 (fk aM))) (.seq (.lX (.many [2,3,4]) (.call 110 (dC bj (bh 9)))) (.seq (.set 5 (.call 125 (gJ bq bz cx))) (.seq (.set 6 (.call 132 (gJ bq bz cx))) (.seq (.set 7 (.call 126 (gJ bq bz cx))) (.seq (.ifs (.jd (dS .Eq (bI (.cmp .Is) dY (.lit .bR)) (bI (.cmp .Is) eB (.lit .bR))) (.jd (.dQ (.fG (.call 6 (fk gL)))) (dS .NotEq (bI (.cmp .Gt) gL (bh 0)) (bI (.cmp .IsNot) dY (.lit .bR))))) (.seq (.ret (.lit (.bl false))) .pass) .pass) (.seq (.ifs (dS .IsNot dY (.lit .bR)) (.seq (.set 8 (dj .jf (bI (.bin .Sub) (.call 147 (fk (dj .len bq))) (bh 1)))) (.seq (.ret (.dA (.call 151 (lx dY bq bz cx)) (.call 7 (dC (.call 133 (lx bq bz cx mh)) (.lit (.bl false)))))) .pass)) .pass) (.seq (.ifs (.dQ (.fG (.call 158 (lx bq bz cx eB)))) (.seq (.ret (.lit (.bl false))) .pass) .pass) (.seq (.ifs (.dQ (.fG (.call 7 (dC (.call 133 (lx bq bz cx (dj .list eB))) (.lit (.bl true)))))) (.seq (.ret (.lit (.bl false))) .pass) .pass) (.seq (.set 9 (.call 4 (dC bj (dj .len eB)))) (.seq (.set 10 (bI (.bin .Add) (bI (.mf false true) eB uS) (bI (.mf true false) eB (bI (.bin .Add) uS (bh 1))))) (.seq (.ret (.call 7 (dC (.call 133 (lx bq bz cx lB)) (.call 158 (lx bq bz cx lB))))) .pass))))))))))))⟩
structure rV(T:Nat->Option aY):Prop where
 tb:TB T
 ly:qc T
 tf:TF T
 xb:Lu T
 tw:TW T
 tn:TN T
 h3:T 3=some yk
 h6:T 6=some yV
 h7:T 7=some yj
 Oq:T 86=some Di
 xR:T 11=some Ec
 rp:T 109=some S4
 nG:T 124=some F7
 rf:T 125=some M5
 oO:T 126=some Y5
 oN:T 129=some M4
 AM:T 130=some Jr
 AL:T 131=some CI
 vG:T 132=some Y1
 AK:T 133=some Dh
 AI:T 151=some Y6
 AH:T 158=some Cm
def rise(F:Int):Int->List Int->Bool
 |_,[]=>true
 |a,x::r=>(decide (a<=x)&&decide (x<=F-1))&&rise F (x+1) r
theorem Cr{F:Int}:∀{ns:List Int} {a:Int},rise F a ns=true↔ns.Pairwise (· < ·)/\∀x∈ns,a<=x/\x<=F-1
 |[],a=>by simp[rise]
 |x::r,a=>by
  unfold rise;rw[aT,aT,bD,bD,Cr,cZ];constructor
  ·rintro⟨⟨h1,h2⟩,h3,h4⟩;refine⟨⟨λy hy=>by have:=h4 y hy;omega,h3⟩,λy hy=>?_⟩;rcases aI.mp hy with rfl|hy
   ·exact⟨h1,h2⟩
   ·have:=h4 y hy;exact⟨by omega,this.2⟩
  ·rintro⟨⟨h1,h2⟩,h3⟩;have hx:=h3 x (by simp);exact⟨hx,h2,λy hy=>⟨by have:=h1 y hy;omega,(h3 y (by simp[hy])).2⟩⟩
theorem Ij{F:Int}:∀{l:List Int} {a x:Int},rise F a l=true->rise F a (l++[x])=(decide ((match l.getLast? with|some y=>y+1|none=>a)<=x)&&decide (x<=F-1))
 |[],a,x,_=>by
  show((decide (a<=x)&&decide (x<=F-1))&&true)=_;rw[Bool.and_true]
  rfl
 |z::r,a,x,h=>by
  unfold rise at h;rw[aT] at h;rw[List.cons_append];unfold rise;rw[h.1,jX,Ij h.2];cases r with
  |nil=>rfl
  |cons w r =>
   rfl
theorem Im:ns=n5 ns↔ns.Pairwise (· < ·):=by
 constructor
 ·intro h;have h1:=X5 ns;have h2:=Co ns;rw[<- h] at h1 h2;exact(h1.and h2).imp λz=>by omega
 ·intro h;refine(R8 ((K3 _).trans ?_) (X5 _) (h.imp λz=>by omega)).symm;rw[Jj (ks:=[]) (by exact h.imp λz e=>by omega)]
  rfl
structure rW(n:Nat)(ns:List Int):Prop where
 pw:ns.Pairwise (· < ·)
 b:∀x∈ns,0<=x/\x<(2 ^ n:Nat)-1
 z:(0:Int)∈ns
theorem rW.nat(h:rW n ns):∃L:List Nat,ns=L.map (λj:Nat=>(j:Int))/\L.Pairwise (· < ·)/\0∈L/\∀s∈L,s<2 ^ n-1:=by
 have e:ns=(ns.map Int.toNat).map λj:Nat=>(j:Int):=by
  rw[bZ]
  conv=>lhs;rw[<- List.map_id ns]
  exact eJ λx hx=>by have:=h.b x hx;simp;omega
 refine⟨ns.map Int.toNat,e,?_,aH.mpr ⟨0,h.z,rfl⟩,λs hs=>?_⟩
 ·rw[kP];exact List.Pairwise.imp_of_mem (λhx hy z=>by have:=h.b _ hx;omega) h.pw
 ·obtain⟨x,hx,rfl⟩:=aH.mp hs;have:=h.b x hx;omega
def jn(cs:List a9)(v:Int)(rs:List eP)(L:List Nat):Prop:=∀s∈L,∀p∈i9 cs v rs s,s+2 ^ p∈L
def kL(cs:List a9)(v:Int)(rs:List eP)(ns:List Int):Prop:=∃L:List Nat,ns=L.map (λj:Nat=>(j:Int))/\rW cs.length ns/\jn cs v rs L
theorem kL.yn{q:Bool}(hq:q=true↔kL cs v rs ns)(h:∀g',Ex g g'->Q (.bl q) g'):(kL cs v rs ns->∀g',Ex g g'->Q (.bl true) g')/\(¬kL cs v rs ns->∀g',Ex g g'->Q (.bl false) g'):=by
 cases q
 ·exact⟨λz=>absurd (hq.mpr z) ∅,λ_=>h⟩
 ·exact⟨λ_=>h,λz=>absurd (hq.mp rfl) z⟩
theorem kL.cls(z:kL cs v rs ns)(eL:ns=L.map (λj:Nat=>(j:Int))):jn cs v rs L:=by
 obtain⟨L',OY,_,y⟩:=z;have:L'=L:=kc (λx y z=>by omega) |>.mp (OY.symm.trans eL)
 simp_all
section
variable{T:Nat->Option aY}{d:Nat}{l w:Nat}{q:Bool}
theorem Cb(f:Int->β)(ns:List Int):(List.range (ns.map D.int).length).map (λi=>f (ns.getD i 0))=ns.map f:=by
 refine bP λi=>?_;rw[ag,ag,ai];by_cases hi:i<ns.length
 ·rw[cg hi,ae hi];simp[List.getD,hi]
 ·rw[aP (by simpa using hi),aP ()]
  rfl
def nt(cs:List a9)(x:Int):Bool:=decide (0<=x)&&decide (x<(2 ^ cs.length:Nat)-1)
theorem HB(ha:g[a]?=some (.lst (ns.map .int))):rd g 6 (.ref a)=some (.list (ns.map PyData.int)):=by
 simp only[rd];rw[a7 ha];dsimp only;rw[J6]
 rfl
theorem a51(ha:g[a]?=some (.lst (ns.map .int)))(hb:g[b]?=some (.lst (ms.map .int)))(h:kb (decide (ns=ms))):rD g (.ref a) (.ref b) kb:=by
 refine⟨_,.inr (.inr (.inr ⟨_,_,HB ha,HB hb,?_,?_,rfl⟩)),?_⟩
 ·exact lay_ints ns
 ·exact lay_ints ms
 ·simp only[PyData.eqv];rw[U3];exact h
theorem yp(_:Ex g (g++[o])):(g++[o])[g.length]?=some o:=b0
theorem KC(hT:rV T)(hl:g[l]?=some (.lst (ns.map .int)))(hz:ns.length<=1000)(h:∀g',Ex g g'->Q (.bl true) g'):b8 T (k+2) 86 [.ref l] g Q E:=by
 refine call_of hT.Oq rfl ?_;dsimp[Di,c7,List.replicate];left;refine qE (c:="list") (b:=true) ∅ (show(match g[l]? with|some (.lst _)=>some ("list"=="list")|_=>none)=some true by rw[hl];rfl) ?_;left;refine comp_map (a8 T _) (λU=>∃z0 z1,U=[z0,z1]) (λ_=>.bl true) (l:=ns.map .int) (k:=.lst l) (λg' e=>k4 (a7 (e.at hl))) (by simpa using hz) ⟨none,none,rfl⟩ (λi x U g' hx e sh=>?_) (λg' e=>?_) (K8 (a8 T _) (a7 hl) λQ q=>w_var (d:=.ref l) rfl q)
 ·obtain⟨z0,z1,rfl⟩:=sh;rw[ag,aa] at hx;obtain⟨j,_,rfl⟩:=hx;refine i6 ?_;left;exact DQ hT.h6 ⟨rfl,e,_,_,rfl⟩
 ·refine ya (v:=true) (a7 b0) ?_ (h _ (e.trans (Ex.snoc _ _)));rw[Cb λ_=>D.bl true,show ns.map (λ_=>D.bl true)=(ns.map λ_=>true).map D.bl by simp,T2];simp
theorem Jf(hT:rV T)(hB:∀c∈cs,CB c)(ha:g[a]?=some (.lst (cs.map a9.d)))(hz:cs.length<=9)(hc:g[c]?=some (.lst (s9 rs)))(hr:rs.length<=900)(hl:g[l]?=some (.lst (ns.map .int)))(hL:ns.length<=590)(hq:q=true↔kL cs v rs ns)(h:∀g',Ex g g'->Q (.bl q) g'):b8 T (k+5) 158 [.ref a,.int v,.ref c,.ref l] g Q E:=by
 obtain⟨hy,hn⟩:=kL.yn hq h;have no:∀g',Ex g g'->¬rW cs.length ns->Q (.bl false) g':=λg' e z=>hn (λw=>by obtain⟨_,_,y,_⟩:=w;exact z y) g' e;have li:(ns.map D.int).length=ns.length:=by simp
 refine call_of hT.AH rfl ?_;dsimp[Cm,c7,List.replicate];left;rw[ai];refine Cq (k:=k+3) hT.xb.nF hz λg1 e1=>?_;left;refine KC (k:=k+2) hT (e1.at hl) () λg2 e2=>?_;have lM:=e1.trans e2;left;have oh:=lM.at hl;refine JB (a7 oh) () ?_;have x3:=Ex.snoc g2 (O.lst ((n5 ns).map .int));have s3:=yp x3;have vh:=x3.at oh;have xW:=lM.trans x3;refine wB (a51 vh s3 ?_);left;by_cases hp:ns=n5 ns
 case neg =>
  refine gb (by rw[aE hp];rfl) ?_;refine mj ?_;exact no _ xW λz=>hp (Im.mpr z.pw)
 refine fj (by rw[aw hp];rfl) ?_;left;refine T1 (J8 (a7 vh) ?_);left;have an:(ns.any λm=>m==0)=decide ((0:Int)∈ns):=by
  rw[aU,aV,bD];exact⟨λ⟨x,hx,e⟩=>by rw[<- br.mp e];exact hx,λz=>⟨0,z,by simp⟩⟩
 rw[an];by_cases h0:(0:Int)∈ns
 case neg =>
  refine gb (by rw[aE h0];rfl) ?_;exact no _ xW λz=>h0 z.z
 refine fj (by rw[aw h0];rfl) ?_;left;refine comp_map (a8 T _) (λU=>∃z1 z2,U=[some (.int (((2 ^ cs.length:Nat):Int)-1)),z1,z2]) (λi=>.bl (nt cs (ns.getD i 0))) (l:=ns.map .int) (k:=.lst l) (λg' e=>k4 (a7 (e.at vh))) () ⟨none,none,rfl⟩ (λi x U g' hx e sh=>?_) (λg4 e4=>?_) (K8 (a8 T _) (a7 vh) λQ q=>w_var (d:=.ref l) rfl q)
 ·obtain⟨z1,z2,rfl⟩:=sh;rw[ag,aa] at hx;obtain⟨j,hj,rfl⟩:=hx;have gd:ns.getD i 0=j:=by simp[List.getD,hj]
  refine i6 ?_;left;rw[gd,nt];by_cases c1:0<=j
  ·refine gb (aw c1) ?_;left;exact⟨by rw[aw c1];rfl,e,_,_,rfl⟩
  ·refine fj (aE c1) ?_;exact⟨by rw[aE c1];rfl,e,_,_,rfl⟩
 have ea:=Cb (λx=>D.bl (nt cs x)) ns;rw[show ns.map (λx=>D.bl (nt cs x))=(ns.map (nt cs)).map D.bl by rw[bZ];rfl] at ea;rw[ea];refine ya (v:=ns.all (nt cs)) (a7 b0) (by rw[T2,List.all_map];rfl) ?_;have e5:=xW.trans (e4.trans (Ex.snoc g4 (O.lst ((ns.map (nt cs)).map D.bl))));left;cases jz:ns.all (nt cs) with
 |false =>
  refine gb rfl ?_;refine no _ e5 λz=>?_;have:ns.all (nt cs)=true:=cN.mpr λx hx=>by
   have:=z.b x hx;rw[nt,aw (),aw ()]
   rfl
  rw[jz] at this;cases this
 |true =>
 refine fj rfl ?_;have S:rW cs.length ns:=⟨Im.mp hp,λx hx=>by
  have:=cN.mp jz x hx;rw[nt,aT,bD,bD] at this;omega,h0⟩
 obtain⟨L,eL,pw,_,dF⟩:=S.nat;left;have xE:=e5.at hl;refine comp_map (a8 T _) (λU=>∃z0 z1,U=[z0,z1]) (λi=>.tup [.int (ns.getD i 0),.bl true]) (l:=ns.map .int) (k:=.lst l) (λg' e=>k4 (a7 (e.at xE))) () ⟨none,none,rfl⟩ (λi x U g' hx e sh=>?_) (λg6 e6=>?_) (K8 (a8 T _) (a7 xE) λQ q=>w_var (d:=.ref l) rfl q)
 ·obtain⟨z0,z1,rfl⟩:=sh;rw[ag,aa] at hx;obtain⟨j,hj,rfl⟩:=hx;refine i6 ?_;left;exact⟨by simp[List.getD,hj],e,_,_,rfl⟩
 rw[Cb (λk=>D.tup [.int k,.bl true])];refine TK (a7 b0) () (S.pw.imp λz e=>by omega) ?_;have e7:=e5.trans (e6.trans ((Ex.snoc g6 (O.lst (ns.map λk=>.tup [.int k,.bl true]))).trans (Ex.snoc _ (O.ee (ns.map λk=>(.inl k,.bl true))))));have d7:=b0 (g:=g6++[O.lst (ns.map λk=>.tup [.int k,.bl true])]) (o:=O.ee (ns.map λk=>(.inl k,.bl true)));generalize (g6++[O.lst (ns.map λk=>.tup [.int k,.bl true])]).length=dd at *;generalize (g6++[O.lst (ns.map λk=>.tup [.int k,.bl true])])++[O.ee (ns.map λk=>(.inl k,.bl true))]=g7 at *;have inD:∀s:Nat,(p0 (ns.map λk=>((.inl k:Key),D.bl true)) (.inl (s:Nat))).isSome=decide (s∈L):=λs=>by
  unfold p0;rw[gO,aU,List.find?_isSome,bD];constructor
  ·rintro⟨x,hx,e⟩;obtain⟨j,hj,rfl⟩:=aH.mp hx;have:j=(s:Nat):=mD (bo e);rw[eL] at hj;obtain⟨i,hi,e⟩:=aH.mp hj;rw[show s=i by omega];exact hi
  ·exact λhs=>⟨(.inl ((s:Nat):Int),.bl true),aH.mpr ⟨_,by rw[eL];exact aH.mpr ⟨s,hs,rfl⟩,rfl⟩,aw rfl⟩
 have xD:g7[l]?=some (.lst (b7 L)):=by rw[E5,<- eL];exact e7.at hl
 refine u9 (a8 T _) (ky (a8 T _) ?_);left;refine⟨l,_,rfl,a7 xD,b7 L,λi U g'=>Ex g7 g'/\(∃z5 z7,U=[some (.ref a),some (.int v),some (.ref c),some (.ref l),some (.int (((2 ^ cs.length:Nat):Int)-1)),z5,some (.ref dd),z7])/\∀s∈L.take i,∀p∈i9 cs v rs s,s+2 ^ p∈L,λi U g' q=>k4 (a7 (q.1.at xD)),⟨Ex.refl _,⟨_,_,rfl⟩,λs hs=>by simp at hs⟩,λi x U g8 hx q=>?_,λU g8 q=>?_⟩
 ·obtain⟨e8,⟨z5,z7,rfl⟩,dn⟩:=q;obtain⟨s,hs,rfl⟩:=Z4 hx;have xy:=aF hs;refine i6 ?_;left;refine u9 (a8 T _) (ky (a8 T _) ?_);left;have Bk:=e7.trans e8;refine XD (k:=k+1) hT.ly hT.xb hB (Bk.at ha) hz (Bk.at hc) hr λg9 f e9 hf9 h9=>?_;refine⟨f,_,rfl,a7 h9,b7 (i9 cs v rs s),λj U g'=>Ex g9 g'/\(∃z7,U=[some (.ref a),some (.int v),some (.ref c),some (.ref l),some (.int (((2 ^ cs.length:Nat):Int)-1)),some (.int (s:Nat)),some (.ref dd),z7])/\∀p∈(i9 cs v rs s).take j,s+2 ^ p∈L,λj U g' q=>k4 (a7 (q.1.at h9)),⟨Ex.refl _,⟨_,rfl⟩,λp hp=>by simp at hp⟩,λj x U nL hx q=>?_,λU nL q=>?_⟩
  ·obtain⟨lN,⟨z7,rfl⟩,oY⟩:=q;obtain⟨p,hp,rfl⟩:=Z4 hx;have lC:=aF hp;have Nm:=(A8 cs v rs s p lC).1;refine i6 ?_;left;refine Cq (k:=k+3) hT.xb.nF () λGC vM=>?_;left;rw[show((s:Nat):Int)+((2 ^ p:Nat):Int)=((s+2 ^ p:Nat):Int) by omega];refine T1 ⟨_,.inl ⟨_,_,_,rfl,((e8.trans e9).trans (lN.trans vM)).at d7,rfl,rfl⟩,?_⟩;rw[inD];left;by_cases iQ:s+2 ^ p∈L
   ·refine fj (by rw[aw iQ];rfl) ?_;refine⟨lN.trans vM,⟨_,rfl⟩,λp' iP=>?_⟩;rcases(take1 hp p').mp iP with z|rfl
    ·exact oY p' z
    ·exact iQ
   ·refine gb (by rw[aE iQ];rfl) ?_;exact hn (λz=>iQ (z.cls eL s xy p lC)) _ (Bk.trans (e9.trans (lN.trans vM)))
  ·obtain⟨lN,⟨z7,rfl⟩,oY⟩:=q;refine⟨e8.trans (e9.trans lN),⟨_,_,rfl⟩,λs' hU=>?_⟩;rcases(take1 hs s').mp hU with z|rfl
   ·exact dn s' z
   ·rw[show(i9 cs v rs s').take (b7 (i9 cs v rs s')).length=i9 cs v rs s' by simp[b7]] at oY;exact oY
 ·obtain⟨e8,⟨z5,z7,rfl⟩,dn⟩:=q;rw[show L.take (b7 L).length=L by simp[b7]] at dn;exact hy ⟨L,eL,S,dn⟩ _ (e7.trans e8)
theorem Zp(hT:rV T)(B:Bd g b cs v rs)(hl:g[l]?=some (.lst (ns.map .int)))(h1:rW cs.length ns->Q (.bl true) g)(h2:¬rW cs.length ns->Q (.bl false) g):b8 T (k+3) 130 [.ref b,.ref l] g Q E:=by
 have pos:=eZ cs.length;obtain⟨w0,l0,dd,nb,f1,f2,f3,f4,f5⟩:=B.ex;refine call_of hT.AM rfl ?_;refine u9 (a8 T _) (ky (a8 T _) ?_);left;have fu:((2 ^ cs.length-1:Nat):Int)=((2 ^ cs.length:Nat):Int)-1:=by omega
 refine⟨l,_,rfl,a7 hl,ns.map .int,λi U g'=>g'=g/\(∃z3 t,U=[some (.ref b),some (.ref l),some (.int t),z3]/\t=(match(ns.take i).getLast? with|some y=>y+1|none=>0))/\rise ((2 ^ cs.length:Nat)-1) 0 (ns.take i)=true,λi U g' q=>k4 (a7 (by rw[q.1];exact hl)),⟨rfl,⟨none,0,rfl,by simp⟩,by simp[rise]⟩,λi x U g' hx q=>?_,λU g' q=>?_⟩
 ·obtain⟨rfl,⟨z3,t,rfl,ht⟩,qo⟩:=q;rw[ag,aa] at hx;obtain⟨j,hj,rfl⟩:=hx;have tk:ns.take (i+1)=ns.take i++[j]:=by rw[bu,hj];rfl
  refine i6 ?_;left;refine O3 f1 rfl ?_;left;refine y9 (k:=k) hT.tb.nf ?_;left;have rn:=Ij (F:=(2 ^ cs.length:Nat)-1) (x:=j) qo;rw[<- tk,<- ht] at rn;rw[fu];by_cases hc:(decide (t<=j)&&decide (j<=((2 ^ cs.length:Nat):Int)-1-1))=true
  ·refine fj (by rw[hc];rfl) ?_;left;refine⟨rfl,⟨_,_,rfl,?_⟩,rn.trans hc⟩;rw[tk];simp
  ·refine gb (by rw[Bool.eq_false_iff.mpr hc];rfl) ?_;exact h2 λS=>hc (rn.symm.trans (Cr.mpr ⟨S.pw.sublist (kM _ _),λx hx=>by have:=S.b x (du hx);omega⟩))
 ·obtain⟨rfl,⟨z3,t,rfl,_⟩,qo⟩:=q;rw[ai,bY] at qo;obtain⟨pw,bb⟩:=Cr.mp qo;have bd:∀x∈ns,0<=x/\x<(2 ^ cs.length:Nat)-1:=λx hx=>by have:=bb x hx;omega
  left;rw[ai];cases ns with
  |nil =>
   refine fj (by simp) ?_;exact h2 λS=>by have:=S.z;cases this
  |cons y r =>
   refine gb (aw (by simp)) ?_;left;refine m8 (d:=.int y) (a7 hl) (C1 (j:=0) rfl) ?_;left;by_cases hy:y=0
   ·have:=h1 ⟨pw,bd,by simp[hy]⟩;rw[aw hy];exact this
   ·have:=h2 λS=>by
     rcases aI.mp S.z with z|z
     ·exact hy z.symm
     ·have:=(cZ.mp pw).1 0 z;have:=(bd y (by simp)).1;omega
    rw[aE hy];exact this
theorem QJ(hT:rV T)(B:Bd g b cs v rs)(hz:cs.length<=9)(hr:rs.length<=900)(hl:g[l]?=some (.lst (b7 L)))(hL:L.length<=590)(dF:∀s∈L,s<2 ^ cs.length-1)(h1:jn cs v rs L->∀g',Ex g g'->Q (.bl false) g')(h2:¬jn cs v rs L->∀g',Ex g g'->Q (.bl true) g'):b8 T (k+7) 131 [.ref b,.ref l] g Q E:=by
 refine call_of hT.AL rfl ?_;dsimp[CI,c7,List.replicate];left;have FK:=hl;rw[E5] at FK;refine Rm (a7 FK) (by simp;omega) ?_;have e1:=Ex.snoc g (O.set (λk=>decide (k∈L.map λj:Nat=>(j:Int))) (ST.f7 [] (L.map λj:Nat=>(j:Int))).length);have s1:=yp e1;generalize g++[_]=g1 at *;generalize g.length=sd at *;have B1:=B.at e1;have jj:=e1.at hl;refine u9 (a8 T _) (ky (a8 T _) ?_);left;refine⟨l,_,rfl,a7 jj,b7 L,λi U g'=>Ex g1 g'/\(∃z3 z4,U=[some (.ref b),some (.ref l),some (.ref sd),z3,z4])/\∀s∈L.take i,∀p∈i9 cs v rs s,s+2 ^ p∈L,λi U g' q=>k4 (a7 (q.1.at jj)),⟨Ex.refl _,⟨_,_,rfl⟩,λs hs=>by simp at hs⟩,λi x U g2 hx q=>?_,λU g2 q=>?_⟩
 ·obtain⟨e2,⟨z3,z4,rfl⟩,dn⟩:=q;obtain⟨s,hs,rfl⟩:=Z4 hx;have xy:=aF hs;have gi:=dF s xy;refine i6 ?_;left;refine u9 (a8 T _) (ky (a8 T _) ?_);left;refine K9 (k:=k+1) hT.tb.toTB0 hT.tf (B1.at e2) hz hr () λg3 f e3 hf h3=>?_;refine⟨f,_,rfl,a7 h3,b7 (i9 cs v rs s),λj U g'=>Ex g3 g'/\(∃z4,U=[some (.ref b),some (.ref l),some (.ref sd),some (.int (s:Nat)),z4])/\∀p∈(i9 cs v rs s).take j,s+2 ^ p∈L,λj U g' q=>k4 (a7 (q.1.at h3)),⟨Ex.refl _,⟨_,rfl⟩,λp hp=>by simp at hp⟩,λj x U g4 hx q=>?_,λU g4 q=>?_⟩
  ·obtain⟨e4,⟨z4,rfl⟩,oY⟩:=q;obtain⟨p,hp,rfl⟩:=Z4 hx;have lC:=aF hp;obtain⟨Nm,Nk⟩:=A8 cs v rs s p lC;refine i6 ?_;left;refine v9 (k:=k+5) hT.tb.om () ?_;left;rw[yF Nk];refine Qo ((e2.trans (e3.trans e4)).at s1) ?_;left;have em:decide (((s+2 ^ p:Nat):Int)∈L.map λj:Nat=>(j:Int))=decide (s+2 ^ p∈L):=cW.mpr ⟨λz=>by obtain⟨i,hi,e⟩:=aH.mp z;rw[show s+2 ^ p=i by omega];exact hi,λz=>aH.mpr ⟨_,z,rfl⟩⟩;rw[em];by_cases iQ:s+2 ^ p∈L
   ·refine fj (by rw[aw iQ];rfl) ?_;refine⟨e4,⟨_,rfl⟩,λp' iP=>?_⟩;rcases(take1 hp p').mp iP with z|rfl
    ·exact oY p' z
    ·exact iQ
   ·refine gb (by rw[aE iQ];rfl) ?_;exact h2 (λy=>iQ (y s xy p lC)) _ (e1.trans (e2.trans (e3.trans e4)))
  ·obtain⟨e4,⟨z4,rfl⟩,oY⟩:=q;refine⟨e2.trans (e3.trans e4),⟨_,_,rfl⟩,λs' hU=>?_⟩;rcases(take1 hs s').mp hU with z|rfl
   ·exact dn s' z
   ·rw[show(i9 cs v rs s').take (b7 (i9 cs v rs s')).length=i9 cs v rs s' by simp[b7]] at oY;exact oY
 ·obtain⟨e2,⟨z3,z4,rfl⟩,dn⟩:=q;rw[show L.take (b7 L).length=L by simp[b7]] at dn;exact h1 dn _ (e1.trans e2)
theorem BO(hT:rV T)(ha:g[a]?=some (.lst (cs.map a9.d)))(hz:cs.length<=9)(hg:cs.all q9=true)(hB:∀c∈cs,CB c)(hv:1<=v/\v<=9)(hc:g[c]?=some (.lst (s9 rs)))(hr:rs.length<=900)(hR:rs.all (u3 cs)=true)(hl:g[l]?=some (.lst (ns.map .int)))(hL:ns.length<=590)(hq:q=true↔kL cs v rs ns)(h:∀g',Ex g g'->Q (.bl q) g'):b8 T (k+12) 133 [.ref a,.int v,.ref c,.ref l] g Q E:=by
 obtain⟨hy,hn⟩:=kL.yn hq h;refine call_of hT.AK rfl ?_;dsimp[Dh,c7,List.replicate];left;refine F8 (k:=k+1) hT.tb ha hz hg hB hv hc hr hR λg1 b e1 _ B1=>?_;left;refine Zp (k:=k+8) hT B1 (e1.at hl) (λS=>?_) (λS=>?_)
 ·left;obtain⟨L,eL,pw,_,dF⟩:=S.nat;have hLn:L.length=ns.length:=by rw[eL];simp
  refine QJ (k:=k+4) (L:=L) hT B1 hz hr (by rw[E5,<- eL];exact e1.at hl) () dF (λC g2 e2=>?_) (λC g2 e2=>?_)
  ·left;exact hy ⟨L,eL,S,C⟩ _ (e1.trans e2)
  ·left;exact hn (λz=>C (z.cls eL)) _ (e1.trans e2)
 ·left;exact hn (λw=>by obtain⟨_,_,y,_⟩:=w;exact S y) _ e1
theorem Qq{l:List α}{r:Int}(h0:0<=r):(cut l none (some r)).length<=r.toNat:=by
 unfold cut HT.jM;dsimp only;rw[aD (),cM];exact aC (mQ _ _) (aC (Nat.sub_le _ _) (mQ _ _))
theorem a55{l:List α}{r:Int}(h0:0<=r):(cut l (some r) none).length<=l.length-r.toNat:=by
 unfold cut HT.jM;dsimp only;rw[aD (),cM];refine aC (mQ _ _) ?_;omega
theorem kL.not(h:kL cs v rs ns):¬ic (i9 cs v rs) (2 ^ cs.length-1):=by
 obtain⟨L,rfl,S,C⟩:=h;obtain⟨L',e,_,z0,dF⟩:=S.nat;have:L'=L:=kc (λx y z=>by omega) |>.mp e.symm
 subst this;have all:∀{s},ic (i9 cs v rs) s->s∈L':=λh=>by
  induction h with
  |zero=>exact z0
  |step h hp ih =>
   rw[yF (A8 cs v rs _ _ hp).2];exact C _ ih _ hp
 intro h;have:=dF _ (all h);omega
theorem Qv(hT:rV T)(hB:∀c∈cs,CB c)(ha:g[a]?=some (.lst (cs.map a9.d)))(hz:cs.length<=9)(hc:g[c]?=some (.lst (s9 rs)))(hr:rs.length<=900){o:List Nat}(ho:wJ cs v rs o)(hl:g[l]?=some (.lst (b7 o)))(h:∀g',Ex g g'->Q (.bl true) g'):b8 T (k+4) 151 [.ref l,.ref a,.int v,.ref c] g Q E:=by
 have hn:=ho.len;refine call_of hT.AI rfl ?_;dsimp[Y6,c7,List.replicate];left;rw[E5] at hl;refine KC (k:=k+1) hT hl (by simp;omega) λg1 e1=>?_;left;refine Xv (k:=k) hT.ly hT.rp hB (e1.at ha) hz (e1.at hc) hr (e1.at hl) λg2 e2=>?_;rw[ho.none];left;exact h _ (e1.trans e2)
theorem a41(hT:rV T):b8 T (k+16) 11 [.ref 0] [.oP (ns.map .int)] (λd _=>d=.bl true) jr:=by
 refine call_of hT.xR rfl ?_;dsimp[Ec,c7,List.replicate];left;refine TJ (k:=k+14) hT.h3 (a:=0) (ns:=ns) rfl λd g D1 _ _=>?_;have dl:=D1.lt;left;refine a12 (k:=k+10) hT.ly hT.ly.rj ⟨by decide,by decide⟩ D1 λcs rs a c v g2 hl hG ha xK hr hR hc jG hac v1 v2 D2 G2=>?_;refine A6 rfl ?_;have hz:cs.length<=9:=by omega
 have hB:∀c∈cs,CB c:=λc hc=>⟨(hG c hc).l8,(hG c hc).u8⟩
 have hg:cs.all q9=true:=cN.mpr λc hc=>(hG c hc).good;have pos:=eZ cs.length;have p9:2 ^ cs.length<=512:=js (n:=2) ∅ hz;have hv:1<=v/\v<=9:=⟨v1,by omega⟩
 have mn:rs.length<=900:=by omega
 have rm:=a13 (cs:=cs) (v:=v) (rs:=rs);unfold many at rm;left;refine XX (k:=k+4) hT.tb hT.tf hT.tw hT.tn hT.nG hT.rf ha hz hg hB hv hc mn hR (λho g3 e3=>?_) (λo l g3 ho e3 vh h3=>?_)
 ·have FI:¬ic (i9 cs v rs) (2 ^ cs.length-1):=λz=>rm.mp z (by rw[ho];rfl);left;refine call_of hT.vG rfl ?_;dsimp[Y1,c7,List.replicate];left;refine F8 (k:=k+4) hT.tb (e3.at ha) hz hg hB hv (e3.at hc) mn hR λg4 b e4 _ B4=>?_;refine U6 (k:=k+7) hT.tb.toTB0 hT.tf hT.tw.nH hT.oN B4 hz mn λL f g5 e5 hf hL pw mL lL=>⟨λz=>absurd z FI,λ_=>?_⟩
  have mP:=e3.trans (e4.trans e5);left;refine IW (k:=k+4) hT.tb hT.tf hT.tw hT.oO (mP.at ha) hz hg hB hv (mP.at hc) mn hR λg6 e6=>?_;rw[ho];have tq:=mP.trans e6;left
  try refine fj rfl ?_
  left;refine DQ hT.h6 ?_;left
  try refine fj rfl ?_
  left;rw[E5] at hL;have Gq:=e6.at hL;have vy:kL cs v rs (L.map λj:Nat=>(j:Int)):=by
   refine⟨L,rfl,⟨kP.mpr (pw.imp λz=>by omega),λx hx=>?_,aH.mpr ⟨0,(mL 0).mpr .zero,rfl⟩⟩,λs hs p hp=>?_⟩
   ·obtain⟨s,hs,rfl⟩:=aH.mp hx;have hU:=(mL s).mp hs;have:=hU.lt (A8 cs v rs);have ne:s≠2 ^ cs.length-1:=λz=>FI (z▸hU);omega
   ·rw[<- yF (A8 cs v rs _ _ hp).2];exact(mL _).mpr (.step ((mL s).mp hs) hp)
  refine Jf (k:=k+10) (q:=true) hT hB (tq.at ha) hz (tq.at hc) mn Gq (by simp;omega) ⟨λ_=>vy,λ_=>rfl⟩ λg7 e7=>?_;have OZ:=tq.trans e7;have Gp:=e7.at Gq;left
  try refine Dg (a7 Gp) ?_
  left;have x8:=Ex.snoc g7 (O.lst ((L.map λj:Nat=>(j:Int)).map .int));have h8:=yp x8;have Ob:=x8.at Gp;have rE:=OZ.trans x8;generalize g7++[_]=g8 at *;refine BO (k:=k+3) (q:=true) hT (rE.at ha) hz hg hB hv (rE.at hc) mn hR h8 (by simp;omega) ⟨λ_=>vy,λ_=>rfl⟩ λg9 e9=>?_;left;refine BX (k:=k+14) hT.h7 ?_;have tm:=rE.trans e9;have Gn:=e9.at Ob;left
  try refine fj rfl ?_
  left
  try refine C4 (a7 Gn) ?_
  try rw[ai,ai]
  try left
  have l1:1<=L.length:=by
   have:=(mL 0).mpr .zero;cases L
   ·cases this
   ·simp
  have nd:f≠d:=by have:=G2.len;have:=e3.len;have:=e4.len;omega
  refine f9 (k:=k+14) hT.ly.toTBR.lf.pull (tm.draw D2) () () λat' nL a0 a1 Ep tV=>?_;have qV:=tV.at nd Gn;have Ls:=tV.at () (tm.at ha);have GX:=tV.at () (tm.at hc);left;have MM:(L.map λj:Nat=>(j:Int)).length=L.length:=ai ..;generalize (L.map λj:Nat=>(j:Int))=m0 at qV MM;refine wx (a7 qV) ?_;left;refine Sg (a7 ((Ex.snoc _ _).at qV)) ?_;left;have c1:=Qq (l:=m0) a0;have c2:=a55 (l:=m0) (r:=at'+1) ();rw[JP,JP];refine yb ((Ex.snoc _ _).at b0) b0 (by simp;omega) ?_;rw[<- dX];obtain⟨ms,oG⟩:∃ms,ms=cut m0 none (some at')++cut m0 (some (at'+1)) none:=⟨_,rfl⟩
  have lm:ms.length<=590:=by rw[oG];simp;omega
  rw[<- oG];have ow:Ex nL (((nL++[O.lst ((cut m0 none (some at')).map D.int)])++[O.lst ((cut m0 (some (at'+1)) none).map D.int)])++[O.lst (ms.map D.int)]):=((Ex.snoc _ _).trans (Ex.snoc _ _)).trans (Ex.snoc _ _);have xR:=b0 (g:=(nL++[O.lst ((cut m0 none (some at')).map D.int)])++[O.lst ((cut m0 (some (at'+1)) none).map D.int)]) (o:=O.lst (ms.map D.int));generalize ((nL++[O.lst ((cut m0 none (some at')).map D.int)])++[O.lst ((cut m0 (some (at'+1)) none).map D.int)])++[O.lst (ms.map D.int)]=GC at *;generalize ((nL++[O.lst ((cut m0 none (some at')).map D.int)])++[O.lst ((cut m0 (some (at'+1)) none).map D.int)]).length=hh at *;obtain⟨q,hq⟩:∃q:Bool,q=true↔kL cs v rs ms:=by classical exact⟨decide (kL cs v rs ms),by simp⟩
  left;refine BO (k:=k+3) hT (ow.at Ls) hz hg hB hv (ow.at GX) mn hR xR lm hq λg12 lM=>?_;left;refine Jf (k:=k+10) hT hB ((ow.trans lM).at Ls) hz ((ow.trans lM).at GX) mn (lM.at xR) lm hq λg13 xW=>?_;left;refine BX (k:=k+14) hT.h7 ?_;rw[show(q==q)=true by cases q<;>rfl]
  try left
  try rfl
 ·have AA:ic (i9 cs v rs) (2 ^ cs.length-1):=rm.mpr λz=>by
   rw[ij] at z;rw[z] at ho;cases ho
  have hp0:=rm.mp AA;left;refine call_of hT.vG rfl ?_;dsimp[Y1,c7,List.replicate];left;refine F8 (k:=k+4) hT.tb (e3.at ha) hz hg hB hv (e3.at hc) mn hR λg4 b e4 _ B4=>?_;refine U6 (k:=k+7) hT.tb.toTB0 hT.tf hT.tw.nH hT.oN B4 hz mn λL f g5 e5 hf hL pw mL lL=>⟨λ_=>?_,λz=>absurd AA z⟩
  have mP:=e3.trans (e4.trans e5);left;refine IW (k:=k+4) hT.tb hT.tf hT.tw hT.oO (mP.at ha) hz hg hB hv (mP.at hc) mn hR λg6 e6=>?_;have tq:=mP.trans e6;have hO:wJ cs v rs o:=a36.mp (aF ho);generalize (k9 cs.length (i9 cs v rs) 0).length=tot at *;left
  try refine fj rfl ?_
  left;refine DQ hT.h6 ?_;left
  try rw[aw (show((tot:Nat):Int)>0 by omega)]
  try refine fj rfl ?_
  left;refine C4 (a7 (tq.at ha)) ?_;left;rw[ai];refine Cq (k:=k+14) hT.xb.nF hz λg7 e7=>?_;left;refine zJ () () ?_;have x8:=Ex.snoc g7 (O.lst (j6 0 (((2 ^ cs.length:Nat):Int)-1).toNat));have h8:=yp x8;have rE:=tq.trans (e7.trans x8);have o8:=(e4.trans (e5.trans (e6.trans (e7.trans x8)))).at h3;generalize g7++[_]=g8 at *;have er:j6 0 (((2 ^ cs.length:Nat):Int)-1).toNat=((List.range (2 ^ cs.length-1)).map λj:Nat=>(j:Int)).map D.int:=by
   rw[bZ,show(((2 ^ cs.length:Nat):Int)-1).toNat=2 ^ cs.length-1 by omega];exact eJ λx _=>by simp
  rw[er] at h8;left;refine Qv (k:=k+11) hT hB (rE.at ha) hz (rE.at hc) mn hO o8 λg9 e9=>?_;left;have tm:=rE.trans e9;refine BO (k:=k+3) (q:=false) hT (tm.at ha) hz hg hB hv (tm.at hc) mn hR (e9.at h8) (by simp;omega) ⟨λz=>Bool.noConfusion z,λz=>absurd AA (kL.not z)⟩ λnL lN=>?_;refine BX (k:=k+14) hT.h7 ?_
  rfl
end
end M
namespace Lk
open PySem L2 M
def top(i:Nat):Stmt:=PySem.Challenge.pw_trussel_k23_whole_an_order_or_a_paper.main.body.getD i (.Pass ⟨0,0,0,0⟩)
def Ta:Stmt->List Stmt
 |.ClassDef (body:=b) ..=>b
 |_=>[]
def Hi(i j:Nat):Stmt:=(Ta (top i)).getD j (.Pass ⟨0,0,0,0⟩)
def F:List RF:=[⟨38,"is_number",["thing"],1,9,CH⟩,⟨1,"number_from",["number","least","most"],3,10,T6⟩,⟨2,"good_marks",["marks","least","spot"],1,11,K5⟩,⟨15,"within",["one","other"],2,12,yM⟩,⟨12,"good_coin",["coin","lower","lower_marks","upper","upper_marks","year","good_lower","good_upper"],1,19,B0⟩,⟨39,"check_coin",["coin"],1,20,Z0⟩,⟨18,"check_coins",["coins","coin"],1,21,T9⟩,⟨40,"check_side",["side"],1,22,P7⟩,⟨19,"die_field",["side"],1,23,CD⟩,⟨74,"places_of",["coins","word","thing","field"],3,24,S1⟩,⟨20,"dies_of",["coins","side","field"],2,25,BZ⟩,⟨42,"check_anvils",["anvils"],1,30,E3⟩,⟨88,"good_rule",["coins","rule","word","one","other"],2,31,CG⟩,⟨89,"check_rules",["coins","rules","at","rule"],2,32,T8⟩,⟨90,"stand_of",["places"],1,33,Y0⟩,⟨91,"with_coin",["stand","place"],2,34,S0⟩,⟨92,"more_worn",["one","other","side","field"],2,35,Ib⟩,⟨93,"later",["one","other"],2,36,DL⟩,⟨94,"worn_stands",["coins"],1,37,Jc⟩,⟨95,"later_stands",["coins"],1,38,Jn⟩,⟨96,"die_stands",["coins"],1,39,Y9⟩,⟨97,"needed_stands",["coins","rules","needed","word","one","other","first","place"],2,40,O1⟩,⟨98,"check_asked",["coins","anvils","rules"],3,42,M6⟩,⟨99,"bounds_of",["coins","anvils","rules"],3,43,CC⟩,⟨100,"dies_in_use",["bounds","stand","place","struck","left"],3,44,Y8⟩,⟨101,"next_fault",["bounds","stand","place"],3,45,Y3⟩,⟨115,"follows",["bounds","stand","place"],3,47,Y7⟩,⟨116,"followers",["bounds","stand"],2,48,IG⟩,⟨117,"reached_stands",["bounds","led_to","told","stand","place"],1,49,F0⟩,⟨129,"shown_paper",["bounds","stands"],1,51,M4⟩,⟨130,"rising_stands",["bounds","stands","least","stand"],2,52,Jr⟩,⟨131,"led_out_of",["bounds","stands","known","stand","place"],2,53,CI⟩,⟨132,"paper_of",["coins","anvils","rules"],3,54,Y1⟩,⟨133,"bars",["coins","anvils","rules","stands","bounds"],4,55,Dh⟩,⟨121,"ways_on",["bounds","ways","stand"],1,57,Ca⟩,⟨122,"step_on",["bounds","ways","stand","number","choices","left","at"],4,58,yL⟩,⟨123,"numbered_order",["bounds","ways","number","order","stand","left","place"],3,59,L8⟩,⟨124,"first_order",["bounds","ways"],1,60,F7⟩,⟨125,"least_order",["coins","anvils","rules"],3,61,M5⟩,⟨126,"how_many",["coins","anvils","rules"],3,62,Y5⟩,⟨3,"_law_open",["_law_script"],1,64,yk⟩,⟨4,"_law_pull",["_law_draw","_law_total_of","_law_cell","_law_got","_law_seed"],2,65,E0⟩,⟨6,"_law_num",["_law_found"],1,66,yV⟩,⟨86,"_law_nums",["_law_found"],1,67,Di⟩,⟨7,"_law_like",["_law_found","_law_due"],2,68,yj⟩,⟨21,"_law_order_of",["_law_draw","_law_numbers","_law_left","_law_found","_law_step"],2,69,Q9⟩,⟨17,"_law_within",["_law_one","_law_other"],2,70,Y4⟩,⟨22,"_law_any_coin",["_law_draw","_law_menu","_law_lower","_law_upper","_law_year"],1,71,Z1⟩,⟨23,"_law_seated",["_law_draw","_law_seats","_law_fresh","_law_anvils"],4,72,E9⟩,⟨24,"_law_struck",["_law_draw","_law_size","_law_anvils","_law_seats","_law_fresh","_law_worn","_law_year","_law_step","_law_wear","_law_shift","_law_found","_law_k","_law_keys","_law_key","_law_spot","_law_named","_law_told_year"],3,73,J7⟩,⟨25,"_law_opened",["_law_draw","_law_size","_law_dies","_law_row","_law_held","_law_found","_law_k","_law_year"],2,74,yK⟩,⟨26,"_law_list",["_law_draw","_law_most","_law_size","_law_anvils","_law_way","_law_found","_law_at","_law_coin","_law_other"],2,75,P6⟩,⟨105,"_law_rule",["_law_draw","_law_coins","_law_word","_law_some","_law_at"],2,76,tQ⟩,⟨106,"_law_rules",["_law_draw","_law_coins","_law_found","_law_k","_law_rule_here"],2,77,DM⟩,⟨107,"_law_rule_kept",["_law_coins","_law_ahead","_law_place","_law_rule_here","_law_word","_law_one","_law_other","_law_at"],4,78,CJ⟩,⟨108,"_law_fault",["_law_coins","_law_anvils","_law_rules_here","_law_ahead","_law_place","_law_coin","_law_there_here","_law_at","_law_here","_law_later"],5,79,wq⟩,⟨109,"_law_order_due",["_law_coins","_law_anvils","_law_rules_here","_law_row","_law_k","_law_word"],4,80,S4⟩,⟨146,"_law_there",["_law_stand","_law_size"],2,81,yD⟩,⟨147,"_law_power",["_law_place"],1,82,yB⟩,⟨148,"_law_following",["_law_coins","_law_anvils","_law_rules_here","_law_stand","_law_there_here","_law_found","_law_place"],4,83,T7⟩,⟨158,"_law_paper_ok",["_law_coins","_law_anvils","_law_rules_here","_law_stands","_law_end","_law_stand","_law_there_here","_law_place"],4,84,Cm⟩,⟨151,"_law_good_order",["_law_found","_law_coins","_law_anvils","_law_rules_here"],4,85,Y6⟩,⟨110,"_law_ready",["_law_draw","_law_most","_law_coins","_law_anvils"],2,86,yC⟩,⟨11,"law",["_law_script","_law_draw","_law_coins","_law_anvils","_law_rules_here","_law_row","_law_stands","_law_total","_law_some","_law_at","_law_fewer"],1,87,Ec⟩]
def Ms:List RM:=[⟨113,"Bounds","__init__","Bounds.__init__",["self","coins","anvils","rules"],4,41,0,U0⟩]
def con:List (Str×D):=[("LAST_SPOT",.int 7),("MOST_COINS",.int 9),("LAST_DIE",.int 99),("LAST_YEAR",.int 9999),("SIDES",.tup [(.str "lower"),(.str "upper")]),("MOST_ANVILS",.int 9),("RULE_WORDS",.tup [(.str "coin"),(.str "lower"),(.str "upper")]),("YEAR_FIELD",.int 4)]
def gd:List (Str×List D):=[("DIE_FIELDS",[.tup [.str "lower",.int 0],.tup [.str "upper",.int 2]])]
def exc:List Str:=[]
def c0:i7:=⟨[],[],true,F.map λr=>(r.nm,r.id),con,["len","enumerate","list","tuple","isinstance","all","range","int","bool","str","max","min","sorted","set","dict","sum","reversed"],exc,gd,[("Bounds",113)],Ms.map λr=>(r.nm,r.cl,r.id),[("size","Bounds"),("full","Bounds"),("room","Bounds"),("worn_by_place","Bounds"),("later_by_place","Bounds"),("lower_dies","Bounds"),("needed_by_place","Bounds")],true,true,true⟩
noncomputable abbrev T:Nat->Option aY:=tK F Ms
theorem tx:lP c0 F Ms top Hi:=by
 refine⟨rfl,rfl,by decide +kernel,by decide +kernel,by decide +kernel,by decide +kernel,?_,?_,?_,?_⟩
 all_goals
  repeat first
   |exact BF.nil
   |exact BM.nil
   |exact YF.nil
   |exact YM.nil
   |refine YF.cons (by kernel_rfl) ?_
   |refine YM.cons (by kernel_rfl) ?_
   |refine BF.cons (λ_ _ _ _ _ _=>(by(repeat refine EF λ_=>?_);exact EE rfl)) ?_
   |refine BM.cons (λ_ _ _ _ _ _=>(by(repeat refine EF λ_=>?_);exact EE rfl)) ?_
inductive tD:List DictEntry->List (Str×V)->Prop
 |nil:tD [] []
 |cons {h:Int} {x:Str} {t:Tok} {u:Value} {v:V} {es:List DictEntry} {vs:List (Str×V)} (r:RelV v u) (q:tD es vs):tD (⟨h,.str x t,u⟩::es) ((x,v)::vs)
theorem tD.find{es vs}(x:Str)(h:tD es vs):E8 (vs.lookup x) (findBy Value.isStrOf es.toArray x):=by
 induction h with
 |nil=>trivial
 |cons r q ih =>
  rename_i h y t u v es vs;unfold findBy at ih ⊢;rw[List.find?_toArray] at ih ⊢;rw[fc,dH];by_cases e:x=y
  ·rw[show(x==y)=true from by simp[e],show Value.isStrOf x (.str y t)=true from by simp[Value.isStrOf,e]];exact r
  ·rw[show(x==y)=false from by simpa using e,show Value.isStrOf x (.str y t)=false from by simp[Value.isStrOf];exact λz=>e (z.symm)];exact ih
theorem all_mk{l:PySem.W.OpenLaw}{w:World}{K:PySem.W.Frag}{h:Heap}{mg:Str->Option Value}{fa:Addr}{Bv Bu xS:Addr}{t0 t1 t2 t3 vU vT t5 vS vR vQ t7 pR pQ pP pO:Tok}{Bp:Array (Option Value)}{Br:Nat}{Bo:Array (Option Value)}{Bq:Nat}{OC:Nat}{nJ nI:Int}(X:K.In h)(G:h.Ns mainGlobals mg)(NH:mg "law"=some (.ref fa))(I:lQ K c0 F Ms top Hi)(e0:PySem.W.nsIn K mainGlobals "LAST_SPOT"=some (some (Value.int 7 t0)))(e1:PySem.W.nsIn K mainGlobals "MOST_COINS"=some (some (Value.int 9 t1)))(e2:PySem.W.nsIn K mainGlobals "LAST_DIE"=some (some (Value.int 99 t2)))(e3:PySem.W.nsIn K mainGlobals "LAST_YEAR"=some (some (Value.int 9999 t3)))(e4:PySem.W.nsIn K mainGlobals "SIDES"=some (some (.ref Bv)))(Pn:K.lookup Bv=some ⟨.type "tuple",none,.seq #[Value.str "lower" vU,Value.str "upper" vT] Br,Bp⟩)(e5:PySem.W.nsIn K mainGlobals "MOST_ANVILS"=some (some (Value.int 9 t5)))(e6:PySem.W.nsIn K mainGlobals "RULE_WORDS"=some (some (.ref Bu)))(Pm:K.lookup Bu=some ⟨.type "tuple",none,.seq #[Value.str "coin" vS,Value.str "lower" vR,Value.str "upper" vQ] Bq,Bo⟩)(e7:PySem.W.nsIn K mainGlobals "YEAR_FIELD"=some (some (Value.int 4 t7)))(g0:PySem.W.nsIn K mainGlobals "DIE_FIELDS"=some (some (.ref xS)))(OG:K.lookup xS=some ⟨.type "dict",none,.dict #[⟨nJ,Value.str "lower" pR,Value.int 0 pQ⟩,⟨nI,Value.str "upper" pP,Value.int 2 pO⟩] OC,#[]⟩)(qt:nJ=PyData.keyHash w.params "lower")(qr:nI=PyData.keyHash w.params "upper")(OB:(xS==sysModules)=false)
  : ∃fd:FuncData,(∀(s:Shared) (v:Value),BindsTo s fd ⟨[v],[]⟩ [("_law_script",v)])/\∀base:Heap,K.In base->base.Ns mainGlobals mg->ir l.prog w K mg base (kE l.prog w) 80 fa fd ["_law_script"] (pD exc K 1 (b8 T 40 11)):=by
 have A:nO w K mg c0 T:=by
  refine SF I tx X G (λx d hx=>?_) (λx kvs hx=>?_)
  ·have hm:=aS hx;simp only[c0,con,List.mem_cons,List.mem_nil_iff,or_false] at hm;rcases hm with z|z|z|z|z|z|z|z
   ·cases z;exact⟨(.int 7),_,cC X G e0,⟨_,rfl⟩,λ_ _=>.int _⟩
   ·cases z;exact⟨(.int 9),_,cC X G e1,⟨_,rfl⟩,λ_ _=>.int _⟩
   ·cases z;exact⟨(.int 99),_,cC X G e2,⟨_,rfl⟩,λ_ _=>.int _⟩
   ·cases z;exact⟨(.int 9999),_,cC X G e3,⟨_,rfl⟩,λ_ _=>.int _⟩
   ·cases z;exact⟨.ref Bv,_,cC X G e4,rfl,λ_ _=>.tup (vs:=[.str "lower",.str "upper"]) (.inr ⟨_,_,_,Pn,rfl,rfl,rfl,(by show 2<=sizeLine;decide),.cons ⟨_,rfl⟩ (.cons ⟨_,rfl⟩ (.nil))⟩) (.cons (.str _) (.cons (.str _) (.nil)))⟩
   ·cases z;exact⟨(.int 9),_,cC X G e5,⟨_,rfl⟩,λ_ _=>.int _⟩
   ·cases z;exact⟨.ref Bu,_,cC X G e6,rfl,λ_ _=>.tup (vs:=[.str "coin",.str "lower",.str "upper"]) (.inr ⟨_,_,_,Pm,rfl,rfl,rfl,(by show 3<=sizeLine;decide),.cons ⟨_,rfl⟩ (.cons ⟨_,rfl⟩ (.cons ⟨_,rfl⟩ (.nil)))⟩) (.cons (.str _) (.cons (.str _) (.cons (.str _) (.nil))))⟩
   ·cases z;exact⟨(.int 4),_,cC X G e7,⟨_,rfl⟩,λ_ _=>.int _⟩
  ·have hm:=aS hx;simp only[c0,gd,List.mem_cons,List.mem_nil_iff,or_false] at hm;have z:=hm
   ·cases z;have er:tD [⟨nJ,Value.str "lower" pR,Value.int 0 pQ⟩,⟨nI,Value.str "upper" pP,Value.int 2 pO⟩] [("lower",.int 0),("upper",.int 2)]:=.cons (v:=.int 0) ⟨_,rfl⟩ (.cons (v:=.int 2) ⟨_,rfl⟩ (.nil));exact⟨xS,_,cC X G g0,⟨_,_,OG,⟨⟨_,_,rfl,qt⟩,⟨⟨_,_,rfl,qr⟩,True.intro⟩⟩,OB,λx=>er.find x⟩,.cons (λ_ _=>.int _) (.cons (λ_ _=>.int _) (.nil))⟩
 obtain⟨f,fd,O,a,t⟩:=Kh I tx _ (aF (i:=63) rfl);cases NH.symm.trans (cC X G a);obtain⟨oc,od,kV,doc,pm,an,fW,ct,mK,rfl,lk,mq⟩:=O.fn.ex;exact⟨_,λs v=>.of_eq rfl,λbase qz Gx=>Qj qz Gx A 40 11 _ _ fa _ rfl O⟩
theorem walk{l:PySem.W.OpenLaw}{q:Program}{loose:List Str}{XP:(Str->Option Value)->Heap->Prop}{YP:World->Heap->Prop}{d:DefRec}{K:Params->PySem.W.Frag}(hn:l.most=some 63)(vo:d.params.defaults=[])(hY:∀(w:World) (h:Heap),YP w h->(K w.params).In h)(F:∀ (w:World) (mg:Str->Option Value) (fa:Addr) (h:Heap),(K w.params).In h->h.Ns mainGlobals mg->mg d.name=some (.ref fa) ->
   ∃ fd:FuncData,(∀ (s:Shared) (u:Value),BindsTo s fd ⟨[u],[]⟩ [("_law_script",u)])/\∀ base:Heap,(K w.params).In base->base.Ns mainGlobals mg->ir l.prog w (K w.params) mg base (kE l.prog w) 80 fa fd ["_law_script"] (pD exc (K w.params) 1 (b8 T 40 11))) :
  PySem.W.WalkO q loose XP YP l.row.toRowW d [] (λf vs=>PySem.call f vs) :=
 L2.UQ (n:=63) (k:=80) (x:="_law_script") (CX:=λw=>kE l.prog w) (sp:=λw=>pD exc (K w.params) 1 (b8 T 40 11)) hn ∅ vo ⟨rfl,by decide,by decide⟩ hY F (λw H a ns hl hO hS=>QI hO hS (a41 (k:=24) ⟨⟨⟨⟨rfl,rfl⟩,rfl,rfl,⟨rfl,rfl⟩,⟨rfl,rfl⟩,rfl,rfl,rfl,rfl,rfl,rfl,rfl,rfl,rfl,rfl,rfl,rfl,rfl,rfl,rfl,rfl⟩,rfl,rfl,rfl⟩,⟨⟨⟨rfl,rfl,rfl,rfl,rfl,rfl,rfl⟩,rfl,rfl⟩,rfl,rfl,rfl,rfl⟩,⟨rfl,rfl⟩,⟨rfl,rfl,rfl⟩,⟨rfl,rfl⟩,⟨rfl,rfl⟩,rfl,rfl,rfl,rfl,rfl,rfl,rfl,rfl,rfl,rfl,rfl,rfl,rfl,rfl,rfl,rfl⟩)) λ_ _ _ _ _ ⟨_,_,_,_,_,_,_,z⟩=>z
end Lk
end _X
open _X
open PySem PySem.W PyProof.Rows
set_option maxRecDepth 100000 in
set_option maxHeartbeats 0 in
theorem PySem.Challenge.cw_trussel_k23_whole_an_order_or_a_paper_holds : PySem.Challenge.rw_trussel_k23_whole_an_order_or_a_paper.Holds := by
 w_on;o_law;k_head;(case hw=>w_witness2)
 k_fill
 refine Lk.walk (l:=PySem.Challenge.rw_trussel_k23_whole_an_order_or_a_paper) rfl rfl (fun w h Y=>PySem.W.kIn_of Y) ?F
 case F =>
  intro w mg fa h KX G hmg
  refine' Lk.all_mk KX G hmg ⟨?zz1,?zz2,?zz3,?zz4,?zz5⟩ ?_ ?_ ?_ ?_ ?_ ?_ ?_ ?_ ?_ ?_ ?_ ?_ ?_ ?_ ?_
  (case zz1=>repeat' first | (with_reducible show _=_;k_is) | exact M.PF.nil | apply M.PF.cons)
  (case zz2=>repeat' first | (with_reducible show _=_;k_is) | exact M.PM.nil | apply M.PM.cons)
  (case zz3=>repeat' first | (with_reducible show _=_;k_is) | exact M.PC.nil | apply M.PC.cons)
  (case zz4=>repeat' first | (with_reducible show _=_;k_is) | exact M.PA.nil | apply M.PA.cons)
  (case zz5=>repeat' first | (with_reducible show _=_;k_is) | exact M.PB.nil | apply M.PB.cons)
  all_goals try (with_reducible show _=_;k_is)
  all_goals try ((with_reducible show _=_);rfl)
#print axioms PySem.Challenge.cw_trussel_k23_whole_an_order_or_a_paper_holds
