import PyProof.Rows.All
import Wide.All
import OpenK.AllK
import Wide.FinOn
import Lean
import PyProof.EqAt
import PyProof.EqKinds
import PyProof.TupleCall
import PySem.Challenge.RW_trussel_k16_whole_counts_of_orders
set_option Elab.async false
set_option linter.all false
set_option maxRecDepth 100000
set_option maxHeartbeats 4000000
set_option genInjectivity false
set_option bootstrap.genMatcherCode false
set_option genSizeOf false
local macro_rules|`(def $i:declId $s:optDeclSig $v:declVal)=>`(noncomputable def $i:declId $s:optDeclSig $v:declVal)
structure PySem.W.Fast:Prop where(tw13958594250848757395 tw15184491857239691749 tw17127561402357408916 tw1990676223510349884 tw10108660512650443608 tw12806752764109425697 tw4677052880725813486 tw631592154123713527 tw9479554606220773991 tw10565620923685222641 tw319620688663680600 tw5435972864887282737 tw1964173801244392882 tw17915940990884194292 tw2108735474939875742 tw5913447337630624230 tw8942302438789041151 tw15151887461525107481 tw15887861021197981820 tw2613479450365637346 tw13778829730423716514 tw8337500372224946637 tw16503577373950489452 tw8465328104249530956 tw15019255783631683225 tw1522681720061017899 tw9951779142469888991 tw92850650282377431 tw7871931974580709988 tw15522942544321564835 tw15991268918524715696 tw4422661511934768764 tw3920134617011791086 tw8435149025640495848 tw3108128392915918759 tw6263070353085464533 tw11542808567340112009 tw15131713778203794687 tw11171621590190262202 tw4590376220413098780 tw11861361556482590959 tw10708620123886685341 tw7001003272118092562 tw8521568722602318202 tw16835360666566849522 tw1975719484498985383 tw1488658407310245011 tw601769156342864953 tw6972908126123268196 tw12027202806174171074 tw4306998805701905557 tw7651094369060668140 tw7117895384305582009 tw10989565825578206925 tw10299357783564976206 tw3744009910484574835 tw17269678782583512413 tw3728199860687451152 tw16130752686112214826 tw7507286150132177563 tw8397202355371303954 tw4669475265120461898 tw12001701158686694328 tw8109906382796613185 tw16360660585169758269 tw6227013060220473820 tw16222981444423138790 tw13667141125815727234 tw1799956051811976820 tw13560569838799616639 tw7378504744713721606 tw10354736769562031738 tw597308895995058945 tw16304680670395735025 tw8518635417943473020 tw14900167790402019375 tw1211882198179181659 tw5356819330035102098 tw17276885663628125237 tw6748601040030872166 tw13320129187153457285 tw17968447299627668604 tw4986995177237590128 tw6693922009150566011 tw1326229488868582537 tw4964812028003760314 tw4426886262605188193 tw14075484000073934496 tw15271189634109424741 tw12995335597872611429 tw2359429198608986529 tw2240179477894738917 tw7999819879314412150 tw5183433963409363922 tw4458161798619157293 tw2114226770853654772 tw16365745902610369684 tw15131445758116357670 tw4673641048225798541 tw10871043498870216853 tw11742314851225907237 tw17577355060425825092 tw1507828142553171350 tw2740504601776324888 tw6013811795674832094:True)
namespace _X
local macro_rules|`(tactic|left)=>`(tactic|walk_at"")
local macro_rules|`(())=>`(by omega)
local macro_rules|`(∅)=>`(by decide)
local macro_rules|`(tactic|omega)=>`(tactic|lia)
def Ea:=@PySem.W.callWith_K0
def Eb:=@List.reverse_append
def Ec:=@List.mergeSort_perm
def Ed:=@List.mem_map_of_mem
def Ee:=@List.map_congr_left
def Ef:=@List.length_reverse
def Eg:=@List.length_pos_iff
def Eh:=@List.flatMap_append
def Ei:=@List.filter_eq_self
def Ej:=@PySem.Calls.call_function_entry
def KP:=@PySem.wpAny_newList
def KQ:=@PySem.wpAny_getItem_list_slice
def KR:=@PySem.wpAny_attempt
def KS:=@PySem.W.kitx_tuple
def KU:=@PySem.W.callWith_K
def KW:=@Nat.not_lt
def KY:=@Nat.mod_lt
def KZ:=@Nat.eq_zero_or_pos
def La:=@List.mem_filterMap
def Lb:=@List.getElem?_take
def aA:=@PySem.Heap.lt_size
def aB:=@PySem.Heap.get?_push_size
def aC:=@List.mem_of_getElem?
def aD:=@Nat.le_trans
def aE:=@PyProof.Rows.wpS_pure
def aF:=@if_neg
def aG:=@List.mem_cons
def aH:=@decide_eq_false
def aJ:=@if_pos
def aK:=@List.getElem?_append_left
def aL:=@Option.some.inj
def aM:=@Nat.ne_of_lt
def aN:=@List.mem_append_right
def aO:=@List.mem_append
def aP:=@PySem.mem_of_lookup
def aQ:=@List.pairwise_append
def aR:=@List.mem_singleton
def aS:=@List.getElem?_eq_none
def aT:=@List.mem_range
def aU:=@List.mem_map
def aV:=@List.any_eq_true
def aW:=@List.size_toArray
def aX:=@Bool.and_eq_true
def aa:=@Option.map_eq_some_iff
def ab:=@PySem.wpAny_bind
def ae:=@List.getElem?_map
def ag:=@List.getElem?_eq_getElem
def ai:=@Nat.le_refl
def aj:=@Option.bind_eq_some_iff
def ak:=@List.length_map
def ao:=@PySem.Heap.get?_push_of_some
def au:=@PySem.wpAny_pure
def av:=@List.getElem?_eq_some_iff
def aw:=@decide_eq_true
def ax:=@List.getElem?_set_ne
def ay:=@Nat.lt_of_lt_of_le
def az:=@PyProof.Rows.wpS_bind
def bA:=@Array.toList_append
def bB:=@PySem.Heap.get?_update_self
def bC:=@List.take_succ
def bD:=@List.map_map
def bE:=@List.length_append
def bG:=@List.take_append_drop
def bI:=@List.take_of_length_le
def bJ:=@List.mem_cons_self
def bK:=@PySem.wpAny_mono
def bL:=@Nat.lt_irrefl
def bN:=@List.getElem_mem
def bP:=@Nat.zero_le
def bR:=@PyProof.Rows.callWith_type1
def bS:=@List.ext_getElem?
def bU:=@Array.perm_iff_toList_perm
def bV:=@PySem.W.kia_one
def bW:=@Nat.ne_of_gt
def bY:=@PySem.Obj.data_mapFields
def bf:=@List.getElem?_set_self
def bg:=@Bool.eq_iff_iff
def bj:=@of_decide_eq_true
def bq:=@List.mem_filter
def bt:=@List.mem_iff_getElem
def bu:=@List.mem_cons_of_mem
def bw:=@List.mem_append_left
def bx:=@beq_iff_eq
def cA:=@decide_eq_false_iff_not
def cB:=@List.all_eq_true
def cH:=@PySem.W.mg_of
def cI:=@List.map_cons
def cJ:=@decide_eq_true_eq
def cL:=@PySem.wpAny_truthy_bool
def cM:=@PySem.wpAny_setState_of
def cN:=@List.take_length
def cO:=@List.mem_reverse
def cR:=@PySem.wpAny_Call_Name_kw
def cS:=@List.nodup_append
def cT:=@List.map_append
def cU:=@List.append_nil
def cV:=@Bool.or_eq_true
def cW:=@Int.zero_add
def cX:=@Nat.le_succ
def cZ:=@Nat.lt_of_le_of_lt
def cb:=@List.getElem?_range
def cc:=@Array.length_toList
def cj:=@List.append_assoc
def cv:=@getElem?_pos
def cw:=@Ne.symm
def cx:=@Int.le_of_lt
def cy:=@PySem.Heap.SameBut.update
def cz:=@PySem.wpAny_holding
def dD:=@PyProof.Rows.wpS_forRange
def dF:=@List.filterMap_cons
def dG:=@PySem.wpAny_newObj_type
def dH:=@decide_eq_decide
def dI:=@List.lookup_cons
def dN:=@List.eq_nil_of_length_eq_zero
def dO:=@decide_eq_true_iff
def dP:=@PySem.W.cellsFrom_some
def dQ:=@List.filter_append
def dR:=@Int.emod_lt_of_pos
def da:=@List.getElem?_append_right
def de:=@PySem.wpAny_call_entry
def df:=@List.pairwise_iff_getElem
def dg:=@List.getElem?_eq_none_iff
def dh:=@List.drop_eq_getElem_cons
def dj:=@List.nodup_cons
def dw:=@Nat.lt_trans
def dy:=@List.mem_of_mem_take
def dz:=@Array.toList_push
def eA:=@Int.toNat_natCast
def eB:=@PySem.Heap.get?_update_other
def eF:=@PySem.wpAny_passesOwn
def eJ:=@PySem.Obj.isFreed_of_fields
def eK:=@Nat.le_of_lt
def eL:=@List.length_take
def eM:=@List.filter_cons
def eO:=@beq_eq_false_iff_ne
def eQ:=@PySem.wpAny_setField
def eR:=@PySem.wpAny_rule
def eT:=@PySem.intKind_is
def eU:=@Option.isSome_iff_exists
def eV:=@List.find?_cons
def eW:=@Int.emod_nonneg
def eX:=@Nat.one_le_two_pow
def eY:=@List.pairwise_cons
def ee:=@List.pairwise_reverse
def ei:=@List.Perm.append_left
def fE:=@PySem.wpAny_of_eq
def fF:=@List.mem_iff_getElem?
def fG:=@List.length_filter_le
def fH:=@Array.getElem_eq_getD
def fI:=@Array.getElem?_toList
def fK:=@List.nodup_range
def fP:=@Int.le_refl
def fQ:=@PySem.Heap.size_push
def fV:=@List.range_succ
def fZ:=@Nat.lt_or_ge
def fb:=@List.getElem?_replicate
def fh:=@PySem.wpAny_standAt
def fi:=@Nat.lt_trichotomy
def fj:=@Nat.le_of_eq
def fk:=@List.length_range
def fm:=@List.flatMap_cons
def fo:=@List.Perm.append_right
def fq:=@Int.le_trans
def fx:=@PySem.codeAny_builtin
def fy:=@PySem.tupleKind_room_in1
def fz:=@PyProof.Rows.slot_tuple_getitem
def gF:=@List.mem_or_eq_of_mem_set
def gM:=@List.reverse_cons
def gN:=@Bool.not_eq_true'
def gO:=@Array.size_append
def gS:=@PySem.codeAny_mono
def gT:=@List.getElem?_take_of_lt
def gp:=@congrArg
def gs:=@List.length_eraseIdx_of_lt
def gw:=@List.drop_drop
def gz:=@Int.not_lt
def iJ:=@PySem.wpAny_pyIter_list
def iK:=@Array.size_push
def iT:=@PySem.wpAny_comprehension_free
def iU:=@PySem.F.slot_dict_get
def iV:=@Nat.eq_of_beq_eq_true
def iW:=@List.perm_append_comm
def ic:=@List.not_mem_nil
def ir:=@List.set_set
def iu:=@List.drop_eq_nil_of_le
def jG:=@PySem.wpAny_typeOf
def jH:=@PyProof.Rows.F.entry_set_update_loop
def jQ:=@List.any_cons
def jW:=@List.find?_eq_none
def jX:=@Bool.false_ne_true
def jk:=@PySem.wpAny_isInstance
def jl:=@PySem.wpAny_callSpecial?_slot
def jm:=@Array.toList_reverse
def jn:=@Array.toList_extract
def jz:=@PyProof.Rows.K_mirror_equal
def kF:=@PySem.isSubtype_type
def kG:=@Option.isSome_map
def kH:=@Nat.lt_succ_of_lt
def kI:=@List.reverse_perm
def kJ:=@List.find?_append
def kK:=@List.any_map
def kZ:=@List.eraseIdx_eq_take_drop_succ
def kz:=@List.findIdx?_eq_some_iff_getElem
def lH:=@Nat.lt_succ_self
def lI:=@List.getElem_inj
def lW:=@PyProof.Rows.wpS_modify
def lX:=@PyProof.Rows.wpS_get
def lY:=@PySem.plainId_quiet
def lZ:=@PySem.Paired.length
def mB:=@List.of_mem_zip
def mD:=@List.all_append
def mE:=@PySem.Heap.IsSliceOf.new
def mF:=@Array.Perm.refl
def nL:=@PySem.slot_list_getitem
def nM:=@PySem.Obj.cls_mapFields
def nN:=@List.nodup_nil
def nO:=@List.Perm.refl
def nP:=@Array.getElem?_eq_some_iff
def oI:=@PyProof.Rows.wpS_lift
def oJ:=@Classical.byContradiction
def oK:=@Array.getElem?_eq_getElem
def pG:=@PySem.wpAny_askSetting
def pH:=@Bool.true_and
def pI:=@Bool.false_or
def rj:=@PySem.sizeLine_eq
def rm:=@PySem.F.plainAttrs_list
def rn:=@PySem.F.args_dict_get_3
def rp:=@PyProof.Rows.boot_tuple
def rq:=@List.pairwise_mergeSort
def tB:=@PySem.codeAny_of_tree
def tD:=@PySem.F.entry_dict_get
def tE:=@PyProof.Rows.boot_list
def tF:=@List.pairwise_lt_range
def tG:=@List.length_pos_of_mem
def tH:=@List.filter_eq_nil_iff
def tI:=@Array.getElem?_eq_none
def tu:=@PySem.wpAny_execs_nil
def wA:=@Nat.or_mod_two_eq_one
def wz:=@PyProof.Rows.boot_int
def yR:=@Nat.pow_lt_pow_right
def yS:=@Nat.pow_le_pow_right
def yT:=@List.mem_of_mem_drop
def yU:=@List.mem_erase_of_ne
def yV:=@List.getElem?_append
def yW:=@PySem.Calls.Name_function_global
namespace L2
open PySem PySem.Spec PyProof.Rows
variable{xs vs:List V}{us:List Value}{H H':Hp}{a b f C dx:Addr}{o:HO}{u:Value}{P:Program}{w:World}{h h' base:Heap}{α:Type}{x:Str}{e c tg:Expr}{X:Cx}{pins:List (Addr×Obj)}{U:St}{s:Shared}{t' i k:Nat}{ch fp:List Addr}{N ps:List Str}{M:Model}{A:Around}{E Q:Value->Shared->Prop}{v:V}{t:TA}{ta tb te:TE}{pos pos' p:Pos}{K:PySem.W.Frag}{es:List Expr}{op:CmpOp}{body:List Stmt}{r:R2}{fd:FuncData}{CX:nA}{sp:Sp}
noncomputable abbrev Key:=Sum Int Str
def U8:Key->Value->Bool
 |.inl k,v=>Value.isInt k v
 |.inr x,v=>Value.isStrOf x v
def UM(w:World):Key->Int
 |.inl k=>hashInt k
 |.inr x=>hashStr w x
theorem u5:∀{k:Key} {v:Value},U8 k v=true->(∃i t,k=Sum.inl i/\v=Value.int i t)\/(∃x t,k=Sum.inr x/\v=Value.str x t)
 |.inl i,v,h=>by
  obtain⟨t,e⟩:=Value.isInt_shape (k:=i) (v:=v) h;exact .inl ⟨i,t,rfl,e⟩
 |.inr x,v,h=>by
  obtain⟨t,e⟩:=Value.isStrOf_shape (x:=x) (v:=v) h;exact .inr ⟨x,t,rfl,e⟩
theorem XN(i:Int)(t:Tok):U8 (.inl i) (.int i t)=true:=by simp[U8,Value.isInt]
theorem XO(x:Str)(t:Tok):U8 (.inr x) (.str x t)=true:=by simp[U8,Value.isStrOf]
theorem Qe(a b:Int):decide ((Sum.inl a:Key)=Sum.inl b)=(a==b):=by
 by_cases e:a=b
 ·subst e;simp
 ·have h:¬(Sum.inl a:Key)=Sum.inl b:=λq=>e (Sum.inl.inj q);rw[aH h];exact(eO.mpr e).symm
theorem Qh(a b:Str):decide ((Sum.inr a:Key)=Sum.inr b)=decide (a=b):=by
 simp
theorem Qf(a:Int)(b:Str):decide ((Sum.inl a:Key)=Sum.inr b)=false:=aH (λq=>nomatch q)
theorem Qg(a:Str)(b:Int):decide ((Sum.inr a:Key)=Sum.inl b)=false:=aH (λq=>nomatch q)
def u4(prog:Program)(w:World):PySem.KeyKind prog w Key where
 is:=U8
 hash:=UM w
 inj:=λv a b ha hb=>by
  rcases u5 ha with⟨i,t,rfl,rfl⟩|⟨x,t,rfl,rfl⟩
  ·rcases u5 hb with⟨j,u,rfl,e⟩|⟨y,u,rfl,e⟩
   ·injection e with e1 _;rw[e1]
   ·exact nomatch e
  ·rcases u5 hb with⟨j,u,rfl,e⟩|⟨y,u,rfl,e⟩
   ·exact nomatch e
   ·injection e with e1 _;rw[e1]
 byValue:=λk v h=>by
  rcases u5 h with⟨i,t,rfl,rfl⟩|⟨x,t,rfl,rfl⟩<;>rfl
 pyHash:=λhv h=>by
  rcases u5 hv with⟨i,t,rfl,rfl⟩|⟨x,t,rfl,rfl⟩
  ·exact wpAny_pyHash_int h
  ·exact wpAny_pyHash_str h
 eqBool:=λhu hv h=>by
  rcases u5 hu with⟨i,t,rfl,rfl⟩|⟨x,t,rfl,rfl⟩
  ·rcases u5 hv with⟨j,u,rfl,rfl⟩|⟨y,u,rfl,rfl⟩
   ·rw[Qe] at h;exact wpAny_eqBool_int h
   ·rw[Qf] at h;exact SeqAt.EqAt.int_str i t y u _ _ _ _ h
  ·rcases u5 hv with⟨j,u,rfl,rfl⟩|⟨y,u,rfl,rfl⟩
   ·rw[Qg] at h;exact SeqAt.EqAt.str_int x t j u _ _ _ _ h
   ·rw[Qh] at h;exact wpAny_eqBool_str h
 «strs»:=λk x t v h=>by
  rcases u5 h with⟨i,u,rfl,e⟩|⟨y,u,rfl,e⟩
  ·exact nomatch e
  ·injection e with e1 _;subst e1;cases v<;>rfl
theorem YQ(prog:Program)(w:World)(k:Key)(v:Value):(u4 prog w).is k v=U8 k v:=rfl
theorem Zs(prog:Program)(w:World)(i:Int)(t:Tok):(u4 prog w).is (.inl i) (.int i t)=true:=XN i t
theorem Zt(prog:Program)(w:World)(x:Str)(t:Tok):(u4 prog w).is (.inr x) (.str x t)=true:=XO x t
set_option genInjectivity true in
inductive V where
 |bO|bl (b:Bool)|int (i:Int)|str (x:Str)|lD (b:Array UInt8)|qN (b:UInt64)|ref (a:Addr)|ty (n:String)
 deriving DecidableEq
def RelV:V->Value->Prop
 |.bO,u=>u=Value.none
 |.bl b,u=>u=Value.bool b
 |.int i,u=>∃t,u=Value.int i t
 |.str x,u=>∃t,u=Value.str x t
 |.lD b,u=>∃t,u=Value.bytes b t
 |.qN b,u=>∃t,u=Value.float b t
 |.ref a,u=>u=Value.ref a
 |.ty n,u=>u=Value.type n
noncomputable abbrev Vals:List V->List Value->Prop:=Paired RelV
theorem Vals.length{xs:List V}{us:List Value}(r:Vals xs us):xs.length=us.length:=lZ r
theorem Vals.get:∀{xs:List V} {us:List Value} {i:Nat} {x:V},Vals xs us->xs[i]?=some x->∃u,us[i]?=some u/\RelV x u
 |_,_,_,_,.nil,e=>by simp at e
 |_,_,0,_,.cons r _,e=>by simp at e;subst e;exact⟨_,rfl,r⟩
 |_,_,i+1,x,.cons _ t,e=>by
  obtain⟨u,h1,h2⟩:=Vals.get (i:=i) (x:=x) t (by simpa using e);exact⟨u,by simpa using h1,h2⟩
theorem Vals.set{x:V}{u:Value}(r:RelV x u):∀{xs:List V} {us:List Value} (i:Nat),Vals xs us->Vals (xs.set i x) (us.set i u)
 |_,_,_,.nil=>.nil
 |_,_,0,.cons _ t=>.cons r t
 |_,_,i+1,.cons q t=>.cons q (Vals.set r i t)
theorem Vals.append{ys:List V}{ws:List Value}(h:Vals xs us)(s:Vals ys ws):Vals (xs++ys) (us++ws):=by
 induction h with
 |nil=>exact s
 |cons r t ih=>exact .cons r ih
theorem Vals.take:∀{xs:List V} {us:List Value} (n:Nat),Vals xs us->Vals (xs.take n) (us.take n)
 |_,_,0,_=>.nil
 |_,_,_+1,.nil=>.nil
 |_,_,n+1,.cons r t=>.cons r (Vals.take n t)
theorem Vals.drop:∀{xs:List V} {us:List Value} (n:Nat),Vals xs us->Vals (xs.drop n) (us.drop n)
 |_,_,0,r=>r
 |_,_,_+1,.nil=>.nil
 |_,_,n+1,.cons _ t=>Vals.drop n t
def I9:Option V->Option Value->Prop
 |some v,some u=>RelV v u
 |none,none=>True
 |_,_=>False
def KV{κ:Type}:List (κ×V)->List (κ×Value)->Prop:=Paired λ(p:κ×V) (q:κ×Value)=>p.1=q.1/\RelV p.2 q.2
def kV:Key->V
 |.inl i=>.int i
 |.inr x=>.str x
inductive HO where
 |lst (xs:List V)
 |tup (xs:List V)
 |dK (kvs:List (Key×V))|dT (kvs:List (List Key×V))
 |set (S:Int->Bool) (n:Nat)
 |ins (C dx:Addr) (fs:List (Str×V))
 |own (x:Addr)
 |xd (fs:List (Str×V))
 |met (f x:Addr)
 |ml (lo hi:Int)
 |jN (o:Obj) (u:HO)
 |kO (ps:Array Value)
 |ext (φ:Heap->Prop)
noncomputable abbrev Hp:=Addr->Option HO
def upd(H:Hp)(a:Addr)(o:HO):Hp:=λb=>if b=a then some o else H b
theorem u7:upd H a o a=some o:=by unfold upd;rw[aJ rfl]
theorem f7(h:b≠a):upd H a o b=H b:=by unfold upd;rw[aF h]
theorem WA{u:HO}(h:H a=some o)(h':H b=some u)(d:o≠u):a≠b:=by
 intro e;subst e;rw[h] at h';exact d (aL h')
theorem m9(h:H a=some o)(h':H b=none):a≠b:=by
 intro e;simp_all
def U0(h:Heap)(a:Addr)(items:Array Value):Prop:=∃o,h.get? a=some o/\o.cls=.type "tuple"/\(∃n,o.data=.seq items n)/\o.dict=none
theorem U0.tup{h:Heap}{a:Addr}{items:Array Value}(x:U0 h a items):IsTup h a items:=let ⟨o,e,c,d,_⟩:=x;⟨o,e,c,d⟩
theorem U0.new(h:Heap)(items:Array Value):U0 (h.push { cls:=.type "tuple",data:=.seq items }) h.objs.size items:=⟨_,aB _ rfl,rfl,⟨_,rfl⟩,rfl⟩
section
variable(P:Program)(w:World)
def o6(H:Hp)(h:Heap)(a:Addr):HO->Prop
 |.lst xs=>xs.length<=sizeLine/\∃(bp:List Value) (n:Nat),Vals xs bp/\h.get? a=some { cls:=.type "list",data:=.seq bp.toArray n }
 |.tup xs=>xs.length<=sizeLine/\∃bp:List Value,Vals xs bp/\U0 h a bp.toArray
 |.dK kvs=>kvs.length<=sizeLine/\(a==sysModules)=false/\∃vs,KV kvs vs/\h.DictOf (u4 P w) a vs
 |.dT kvs=>kvs.length<=sizeLine/\(a==sysModules)=false/\∃xs:List (List Key×Addr×Value),
   Paired (λ(p:List Key×V) (q:List Key×Addr×Value)=>p.1=q.1/\H q.2.1=some (.tup (p.1.map kV))/\RelV p.2 q.2.2) kvs xs /\
   ∃o es ep,h.get? a=some o/\o.ExactDict/\o.data=.dict es ep/\es.toList=xs.map (entryOfKey (tupleKind (u4 P w)))/\(xs.map (·.1)).Nodup
 |.set S n=>h.SetOf (intKind P w) a S n
 |.ins C dx fs=>H dx=some (.own a)/\fs.length<=1000/\dx≠a/\h.get? a=some (PySem.W.instObj C dx) /\
   ∃mA,h.Ns1 dx mA/\(∀f,I9 (fs.lookup f) (mA f))/\PySem.Within mA (fs.map (·.1))
 |.own _=>∃o,h.get? a=some o
 |.xd fs=>∃mA,h.Ns1 a mA/\∀f,I9 (fs.lookup f) (mA f)
 |.ml lo hi=>∃t u v,h.get? a=some { cls:=.type "range",data:=.fields #[.int lo t,.int hi u,.int 1 v] }
 |.jN o u=>h.get? a=some o/\o6 H h a u
 |.kO ps=>h.get? a=some { cls:=.none,data:=.fields ps }
 |.met f x=>h.get? a=some (PySem.W.methodObj (.ref f) (.ref x))
 |.ext φ=>φ h/\(∃o,h.get? a=some o)/\∀h1 h2:Heap,φ h1->(∀o,h1.get? a=some o->h2.get? a=some o)->φ h2
def gE(H:Hp)(h:Heap):Prop:=∀a o,H a=some o->o6 P w H h a o
end
theorem o6.lt(x:o6 P w H h a o):a<h.objs.size:=by
 cases o with
 |lst xs=>obtain⟨_,_,_,_,e⟩:=x;exact aA e
 |tup xs=>obtain⟨_,_,_,p⟩:=x;exact p.tup.lt
 |dK kvs=>obtain⟨_,_,_,_,o,_,_,e,_⟩:=x;exact aA e
 |dT kvs=>obtain⟨_,_,_,_,o,_,_,e,_⟩:=x;exact aA e
 |set S n=>obtain⟨o,_,_,_,e,_⟩:=x;exact aA e
 |ins C dx fs=>obtain⟨_,_,_,e,_⟩:=x;exact aA e
 |own y=>obtain⟨_,e⟩:=x;exact aA e
 |xd fs=>obtain⟨_,⟨_,_,_,e,_⟩,_⟩:=x;exact aA e
 |ml lo hi=>obtain⟨_,_,_,e⟩:=x;exact aA e
 |jN ob u=>obtain⟨e,_⟩:=x;exact aA e
 |kO ps=>exact aA (show h.get? a=some _ from x)
 |met f y=>exact aA (show h.get? a=some _ from x)
 |ext φ=>obtain⟨_,⟨_,e⟩,_⟩:=x;exact aA e
theorem Paired.GI{β:Type}{F G:α->β->Prop}{uv:List α}{uu:List β}(h:Paired F uv uu)(f:∀a b,F a b->G a b):Paired G uv uu:=by
 induction h with
 |nil=>exact .nil
 |cons r t ih=>exact .cons (f _ _ r) ih
theorem o6.Z7(x:o6 P w H h a o)(k:∀b u,(b=a\/H b=some (.own a))->h.get? b=some u->h'.get? b=some u)(ho:∀b,H b=some (.own a)->H' b=some (.own a))(ht:∀b xs,H b=some (.tup xs)->H' b=some (.tup xs)):o6 P w H' h' a o:=by
 induction o with
 |lst xs=>obtain⟨z,bp,n,r,e⟩:=x;exact⟨z,bp,n,r,k _ _ (.inl rfl) e⟩
 |tup xs=>obtain⟨z,bp,r,ob,e,c⟩:=x;exact⟨z,bp,r,ob,k _ _ (.inl rfl) e,c⟩
 |dK kvs=>obtain⟨z,y,vs,r,ob,es,ep,e,c⟩:=x;exact⟨z,y,vs,r,ob,es,ep,k _ _ (.inl rfl) e,c⟩
 |dT kvs =>
  obtain⟨z,y,xs,r,ob,es,ep,e,c⟩:=x;exact⟨z,y,xs,Paired.GI r λp q z=>⟨z.1,ht _ _ z.2.1,z.2.2⟩,ob,es,ep,k _ _ (.inl rfl) e,c⟩
 |set S n=>obtain⟨ob,es,ep,t,e,c⟩:=x;exact⟨ob,es,ep,t,k _ _ (.inl rfl) e,c⟩
 |ins C dx fs =>
  obtain⟨d,z,ne,e,mA,⟨od,es,ep,e2,c⟩,r⟩:=x;exact⟨ho _ d,z,ne,k _ _ (.inl rfl) e,mA,⟨od,es,ep,k _ _ (.inr d) e2,c⟩,r⟩
 |own y=>obtain⟨ob,e⟩:=x;exact⟨ob,k _ _ (.inl rfl) e⟩
 |xd fs=>obtain⟨mA,⟨od,es,ep,e,c⟩,r⟩:=x;exact⟨mA,⟨od,es,ep,k _ _ (.inl rfl) e,c⟩,r⟩
 |ml lo hi=>obtain⟨t,u,v,e⟩:=x;exact⟨t,u,v,k _ _ (.inl rfl) e⟩
 |jN ob u ih=>obtain⟨e,q⟩:=x;exact⟨k _ _ (.inl rfl) e,ih q⟩
 |kO ps =>
  have e:h.get? a=some { cls:=.none,data:=.fields ps }:=x;exact k a _ (.inl rfl) e
 |met f y =>
  have e:h.get? a=some (PySem.W.methodObj (.ref f) (.ref y)):=x;exact k a _ (.inl rfl) e
 |ext φ=>obtain⟨p,⟨o,e⟩,st⟩:=x;exact⟨st _ _ p λo q=>k _ _ (.inl rfl) q,⟨o,k _ _ (.inl rfl) e⟩,st⟩
theorem gE.lt(x:gE P w H h)(e:H a=some o):a<h.objs.size:=(x a o e).lt
theorem gE.fresh(x:gE P w H h)(e:h.objs.size<=a):H a=none:=by
 cases q:H a with
 |none=>rfl
 |some u=>exact absurd (ay (x.lt q) e) (bL _)
theorem gE.kept(x:gE P w H h)(k:∀b u,h.get? b=some u->h'.get? b=some u):gE P w H h':=λa o e =>
 (x a o e).Z7 (λb u _ q=>k b u q) (λ_ q=>q) λ_ _ q=>q
theorem gE.laid(x:gE P w H h)(k:∀b u,h.get? b=some u->h'.get? b=some u)(hp:h.objs.size<=a)(new:o6 P w (upd H a o) h' a o):gE P w (upd H a o) h':=λb u e=>by
 have hn:=x.fresh hp;by_cases hb:b=a
 ·subst hb;rw[u7] at e;simp_all
 ·rw[f7 hb] at e;exact(x b u e).Z7 (λc v _ q=>k c v q) (λc q=>by rw[f7 (m9 q hn)];exact q) λc xs q=>by rw[f7 (m9 q hn)];exact q
def Rd(H:Hp)(a:Addr)(u:HO):Prop:=H a=some u\/∃o,H a=some (.jN o u)
theorem Rd.ok{u:HO}(r:Rd H a u)(x:gE P w H h):o6 P w H h a u:=by
 rcases r with r|⟨o,r⟩
 ·exact x a u r
 ·obtain⟨_,q⟩:=x a _ r;exact q
def wm:Option HO->Prop
 |some (.lst _)=>True
 |some (.dK _)=>True
 |some (.dT _)=>True
 |some (.set _ _)=>True
 |some (.ins _ _ _)=>True
 |some (.ext _)=>True
 |_=>False
section
variable{x e:Addr}{o':HO}
theorem gE.write(ok:gE P w H h)(mu:wm (H x))(he:e=x\/H e=some (.own x))(k:∀b u,b≠e->h.get? b=some u->h'.get? b=some u)(qk:∃u,h'.get? e=some u)(new:o6 P w (upd H x o') h' x o'):gE P w (upd H x o') h':=λb u q=>by
 have ui:∀c y,H c=some (.own y)->c≠x:=λc y r z=>by subst z;rw[r] at mu;exact mu
 have zx:∀c xs,H c=some (.tup xs)->c≠x:=λc xs r z=>by subst z;rw[r] at mu;exact mu
 by_cases hb:b=x
 ·subst hb;rw[u7] at q;cases q;exact new
 ·rw[f7 hb] at q;by_cases rV:b=e
  ·have q':H b=some (.own x):=by
    rcases he with z|z
    ·exact absurd (rV.trans z) hb
    ·rw[rV];exact z
   rw[q] at q';cases q';obtain⟨v,hv⟩:=qk;exact⟨v,by rw[rV];exact hv⟩
  ·refine(ok b u q).Z7 (λc v hc r=>k c v ?_ r) (λc r=>by rw[f7 (ui c b r)];exact r) λc xs r=>by rw[f7 (zx c xs r)];exact r
   rcases hc with rfl|hc
   ·exact rV
   ·rintro rfl;rcases he with z|z
    ·exact ui c b hc z
    ·rw[hc] at z;cases z;exact hb rfl
end
structure Un(fs ex:List Addr)(H H':Hp)(h h':Heap):Prop where
 keep:∀b o,h.get? b=some o->H b=none->b∉fs->b∉ex->h'.get? b=some o
 slot:∀b o,h.get? b=some o->H b=none->b∈fs->b∉ex->∃sl,h'.get? b=some { o with slots:=sl }
 free:∀b o,h.get? b=some o->H b=none->b∉ex->H' b=none
 there:∀b o,h.get? b=some o->b∉ex->∃o',h'.get? b=some o'
 iX:∀b xs,H b=some (.tup xs)->H' b=some (.tup xs)
 iG:∀b o u,H b=some (.jN o u)->H' b=some (.jN o u)
 iY:∀b ps,H b=some (.kO ps)->∃more,H' b=some (.kO (ps++more))
section
variable{fs ex:List Addr}{H1:Hp}{h1:Heap}{x e:Addr}
theorem Un.any(u:Un fs ex H H1 h h1){ob:Obj}(q:h.get? b=some ob)(n:H b=none)(hx:b∉ex):∃sl,h1.get? b=some { ob with slots:=sl }:=by
 by_cases hb:b∈fs
 ·exact u.slot b ob q n hb hx
 ·exact⟨ob.slots,u.keep b ob q n hb hx⟩
theorem Un.kept(k:∀b u,h.get? b=some u->h'.get? b=some u):Un fs ex H H h h' :=
 ⟨λb ob q _ _ _=>k b ob q,λb ob q _ _ _=>⟨ob.slots,k b ob q⟩,λ_ _ _ n _=>n,λb ob q _=>⟨ob,k b ob q⟩,λ_ _ q=>q,λ_ _ _ q=>q,λ_ ps q=>⟨#[],by rw[q];simp⟩⟩
theorem Un.refl:Un fs ex H H h h:=Un.kept λ_ _ q=>q
theorem Un.laid(k:∀b u,h.get? b=some u->h'.get? b=some u)(hp:h.objs.size<=a)(hn:H a=none):Un fs ex H (upd H a o) h h' where
 keep:=λb u q _ _ _=>k b u q
 slot:=λb u q _ _ _=>⟨u.slots,k b u q⟩
 free:=λb u q n _=>by rw[f7 (aM (ay (aA q) hp))];exact n
 there:=λb u q _=>⟨u,k b u q⟩
 iX:=λb xs q=>by rw[f7 (m9 q hn)];exact q
 iG:=λb u xs q=>by rw[f7 (m9 q hn)];exact q
 iY:=λb ps q=>⟨#[],by rw[f7 (m9 q hn),q];simp⟩
theorem Un.write(mu:wm (H x))(he:e=x\/H e=some (.own x))(k:∀b u,b≠e->h.get? b=some u->h'.get? b=some u)(qk:∃u,h'.get? e=some u):Un fs ex H (upd H x o) h h':=by
 have hx:∀b,H b=none->b≠x:=λb n z=>by subst z;rw[n] at mu;exact mu
 have hb:∀b,H b=none->b≠e:=λb n z=>by
  simp_all
 have hm:∀b u,H b=some u->¬wm (some u)->b≠x:=λb u q nm z=>by simp_all
 refine ⟨λb u q n _ _=>k b u (hb b n) q,λb u q n _ _=>⟨u.slots,k b u (hb b n) q⟩,λb u q n _=>by rw [f7 (hx b n)];exact n,λb u q _=>?_,
  λb xs q=>by rw [f7 (hm b _ q λz=>z)];exact q,λb u xs q=>by rw [f7 (hm b _ q λz=>z)];exact q,λb ps q=>⟨#[],by rw [f7 (hm b _ q λz=>z),q];simp⟩⟩
 by_cases rV:b=e
 ·simp_all
 ·exact⟨u,k b u rV q⟩
end
def pL(h:Heap)(H:Hp):List Addr:=(List.range h.objs.size).filter λa=>(H a).isSome
def oB(h:Heap)(H:Hp):Heap:=PySem.W.hideAll h (pL h H)
theorem XH(h:Heap)(H:Hp):(oB h H).objs.size=h.objs.size:=PySem.W.hideAll_size _ _
theorem a45{o:Obj}(e:h.get? b=some o)(n:H b=none):(oB h H).get? b=some o :=
 PySem.W.hideAll_get _ e λhm=>by
  have q:(H b).isSome=true:=(bq.mp hm).2;rw[n] at q;simp at q
theorem SQ{o:Obj}(e:(oB h H).get? b=some o):h.get? b=some o/\H b=none:=by
 have e':h.get? b=some o:=PySem.W.of_hideAll (pL h H) e;refine⟨e',?_⟩;cases q:H b with
 |none=>rfl
 |some x =>
  have hm:b∈pL h H:=bq.mpr ⟨aT.mpr (aA e'),by simp[q]⟩;have z:(oB h H).get? b=none:=PySem.W.hideAll_none (pL h H) hm
  simp_all
structure Mod(K:PySem.W.Frag)(mg:Str->Option Value)(base:Heap):Prop where
 pY:K.In base
 glob:base.Ns mainGlobals mg
 blt:∃mb,base.Ns builtinsNs mb/\∀x:Str,x≠"__name__"->mb x=bootBuiltins x
 nolimit:base.NoLimit
structure Cx where
 prog:Program
 w:World
 K:PySem.W.Frag
 mg:Str->Option Value
 base:Heap
 A:Around
 N:List Str
 dM:Shared
 kY:Hp
 env:Env
 outer:List Env
 stack:List Env
 ex:List Addr
 fn:Str->Bool
 calm:Bool
 pn:List (Addr×Obj)
 xe:Value->Shared->Prop
 sg:Option (List (Option V)):=none
def Cx.Nd(X:Cx):Prop:=X.N.Nodup/\X.sg=none
def iR(l:List Env):List Addr:=l.filterMap (·.frame)
noncomputable abbrev Cx.fs(X:Cx):List Addr:=iR X.outer
def we(sc:Scope)(x:Str):Prop:=sc.names.lookup x=some .local\/sc.names.lookup x=some .cell\/sc.names.lookup x=some .free
def Loc(sc:Scope)(x:Str):Prop:=sc.names.lookup x=some .local\/sc.names.lookup x=some .cell
def Look(env:Env)(h:Heap)(m:Str->Option Value)(x:Str)(u:Value):Prop :=
 (env.kindOf x=some .local/\m x=some u)\/((env.kindOf x=some .cell\/env.kindOf x=some .free)/\∃c,env.cells.lookup x=some c/\h.IsCell c (some u))
structure Cx.Ok(X:Cx):Prop where
 mod:Mod X.K X.mg X.base
 kind:X.env.scope.kind=.function
 glob:X.env.globals=mainGlobals
 blt:X.env.builtins=builtinsNs
 above:X.dM.heap.objs.size<=X.env.locals
 inj:∀x y c,X.env.cells.lookup x=some c->X.env.cells.lookup y=some c->x=y
 has:∀x,(X.env.kindOf x=some .cell\/X.env.kindOf x=some .free)->∃c,X.env.cells.lookup x=some c
 vC:∀x c,X.fn x=true->X.env.cells.lookup x=some c->X.dM.heap.objs.size<=c
 hd:X.calm=true->X.A.handled=none
 frames:X.A.frames=some X.stack
 wK:X.stack=X.outer\/(X.stack=X.env::X.outer/\X.env.frame=some X.env.locals)
 Gf:∀b∈X.ex,b≠X.env.locals/\∀x c,X.env.cells.lookup x=some c->c≠b
 bs:∀b o,X.base.get? b=some o->X.dM.heap.get? b=some o/\X.kY b=none
 pj:X.base.objs.size<=X.dM.heap.objs.size
 mM:∀b o,X.base.get? b=some o->b∉X.ex
 om:∀b∈X.ex,b∉X.fs
 P4:X.dM.heap.FunFrames X.base X.outer
 qL:∀b∈X.fs,X.kY b=none
structure Inv(X:Cx)(pins:List (Addr×Obj))(U:List (Option V))(H:Hp)(s:Shared):Prop where
 ok:X.Ok
 os:s.os=X.dM.os
 bare:AllBare s.gens
 base:Un X.fs X.ex X.kY H X.dM.heap s.heap
 loc:∃m,s.heap.Ns X.env.locals m/\∀(i:Nat) (x:Str) (v:V),X.N[i]?=some x->U[i]?=some (some v)->we X.env.scope x->∃u,RelV v u/\Look X.env s.heap m x u
 cell:∀x c,X.env.cells.lookup x=some c->∃v,s.heap.IsCell c v
 free:H X.env.locals=none
 fU:∀x c,X.env.cells.lookup x=some c->H c=none
 pin:∀p∈X.pn++pins,s.heap.get? p.1=some p.2/\H p.1=none/\p.1≠X.env.locals/\p.1∉X.fs/\∀v,p.2.data≠.cell v
 cu:gE X.prog X.w H s.heap
 len:U.length=X.N.length
 sg:∀jA,X.sg=some jA->U=jA
section
variable{U:List (Option V)}
theorem Cx.Ok.UZ(ok:X.Ok){o:Obj}(e:X.base.get? b=some o):b∉X.fs:=λhb=>by
 have:=(ok.P4.mem hb).1
 simp_all
theorem Inv.bs(I:Inv X pins U H s):∀b o,X.base.get? b=some o->s.heap.get? b=some o/\H b=none:=λb o e =>
 ⟨I.base.keep b o (I.ok.bs b o e).1 (I.ok.bs b o e).2 (I.ok.UZ e) (I.ok.mM b o e),I.base.free b o (I.ok.bs b o e).1 (I.ok.bs b o e).2 (I.ok.mM b o e)⟩
theorem Inv.bk(I:Inv X pins U H s):∀b o,X.base.get? b=some o->s.heap.get? b=some o:=λb o e=>(I.bs b o e).1
theorem Inv.mod(I:Inv X pins U H s):Mod X.K X.mg X.base:=I.ok.mod
theorem Inv.hJ(I:Inv X pins U H s):X.K.In s.heap:=I.ok.mod.pY.keeps I.bk
theorem Inv.lt(I:Inv X pins U H s):X.env.locals<s.heap.objs.size:=let ⟨_,hn,_⟩:=I.loc;hn.lt
theorem Inv.sz(I:Inv X pins U H s):X.dM.heap.objs.size<=s.heap.objs.size:=aD I.ok.above (eK I.lt)
theorem Inv.wb(I:Inv X pins U H s)(h:s.heap.objs.size<=a):a∉X.fs:=λhb=>by
 obtain⟨_,o,ho,_⟩:=I.ok.P4.mem hb;exact absurd (ay (aA ho) (aD I.sz h)) (bL _)
theorem Inv.qP(I:Inv X pins U H s):∀x c,X.env.cells.lookup x=some c->c≠X.env.locals:=λx c e z=>by
 obtain⟨v,o,ho,hd⟩:=I.cell x c e;obtain⟨m,⟨o',es,ep,mx,FI,_⟩,_⟩:=I.loc
 simp_all
theorem Inv.P4(I:Inv X pins U H s):s.heap.FunFrames X.base X.outer:=by
 have all:∀(l:List Env),(∀b∈iR l,b∈X.fs)->X.dM.heap.FunFrames X.base l->s.heap.FunFrames X.base l:=by
  intro l
  induction l with
  |nil=>intro _ _;trivial
  |cons env r ih =>
   intro hs hl;obtain⟨hk,⟨L,o,hf,hn,ho,hd⟩,hr⟩:=hl;have hL:L∈X.fs:=hs L (by unfold iR;rw[dF,hf];exact bJ);obtain⟨sl,e⟩:=I.base.slot L o ho (I.ok.qL L hL) hL λz=>I.ok.om L z hL;exact⟨hk,⟨L,_,hf,hn,e,hd⟩,ih (λb hb=>hs b (by unfold iR;rw[dF,hf];exact bu _ hb)) hr⟩
 exact all X.outer (λ_ hb=>hb) I.ok.P4
theorem Inv.stack(I:Inv X pins U H s):s.heap.FunFrames X.base X.stack:=by
 rcases I.ok.wK with e|⟨e,hf⟩
 ·rw[e];exact I.P4
 ·rw[e];obtain⟨m,hn,_⟩:=I.loc;refine .cons (by rw[I.ok.kind];decide) hf hn ?_ I.P4;exact Heap.get?_none_of_le (aD I.ok.pj I.ok.above)
theorem Inv.L1(I:Inv X pins U H s):∀b∈iR X.stack,b∈X.env.locals::X.fs:=λb hb=>by
 rcases I.ok.wK with e|⟨e,hf⟩
 ·rw[e] at hb;exact bu _ hb
 ·rw[e] at hb;unfold iR at hb;rw[dF,hf] at hb;exact hb
theorem Inv.BL(I:Inv X pins U H s):∀b∈iR X.stack,H b=none:=λb hb=>by
 rcases aG.mp (I.L1 b hb) with e|hb
 ·rw[e];exact I.free
 ·obtain⟨_,o,ho,_⟩:=I.ok.P4.mem hb;exact I.base.free b o ho (I.ok.qL b hb) λz=>I.ok.om b z hb
theorem Inv.step{g':Array GenState}{t':Nat}{d':Drawn}{ch:List Addr}(I:Inv X pins U H s)(ly:∀b∈ch,(b∈X.ex\/X.dM.heap.objs.size<=b)/\b≠X.env.locals/\(∀x c,X.env.cells.lookup x=some c->c≠b)/\∀p∈X.pn++pins,p.1≠b)(keep:∀b o,b≠X.env.locals->b∉X.fs->b∉ch->s.heap.get? b=some o->H b=none->h'.get? b=some o)(slot:∀b o,b≠X.env.locals->b∈X.fs->b∉ch->s.heap.get? b=some o->H b=none->∃sl,h'.get? b=some { o with slots:=sl })(free:∀b o,b∉ch->s.heap.get? b=some o->H b=none->H' b=none)(there:∀b o,b∉ch->s.heap.get? b=some o->∃o',h'.get? b=some o')(iX:∀b xs,H b=some (.tup xs)->H' b=some (.tup xs))(iG:∀b o u,H b=some (.jN o u)->H' b=some (.jN o u))(iY:∀b ps,H b=some (.kO ps)->∃more,H' b=some (.kO (ps++more)))(ns:∀m,s.heap.Ns X.env.locals m->h'.Ns X.env.locals m)(cu:gE X.prog X.w H' h')(hg:AllBare g') :
  Inv X pins U H' { s with heap:=h',gens:=g',drawn:=d',toks:=t' }:=by
 have EL:∀b o,X.dM.heap.get? b=some o->b≠X.env.locals:=λb o e=>aM (ay (aA e) I.ok.above);have oR:∀b o,X.dM.heap.get? b=some o->b∉X.ex->b∉ch:=λb o e hx hb=>by
  rcases(ly b hb).1 with z|z
  ·exact hx z
  ·exact absurd (ay (aA e) z) (bL _)
 have cellK:∀x c,X.env.cells.lookup x=some c->∀v,s.heap.IsCell c v->h'.IsCell c v:=λx c e v bz=>by
  obtain⟨o,ho,hd⟩:=bz;have uq:c∉ch:=λz=>(ly c z).2.2.1 x c e rfl;by_cases hc:c∈X.fs
  ·obtain⟨sl,q⟩:=slot c o (I.qP x c e) hc uq ho (I.fU x c e);exact⟨_,q,hd⟩
  ·exact⟨o,keep c o (I.qP x c e) hc uq ho (I.fU x c e),hd⟩
 refine⟨I.ok,I.os,hg,⟨λb o e n hb hx=>?_,λb o e n hb hx=>?_,λb o e n hx=>?_,λb o e hx=>?_,λb xs e=>iX b xs (I.base.iX b xs e),λb o xs e=>iG b o xs (I.base.iG b o xs e),λb ps e=>?_⟩,?_,λx c e=>?_,?_,λx c e=>?_,λp hp=>?_,cu,I.len,I.sg⟩
 ·exact keep b o (EL b o e) hb (oR b o e hx) (I.base.keep b o e n hb hx) (I.base.free b o e n hx)
 ·obtain⟨sl,e1⟩:=I.base.slot b o e n hb hx;obtain⟨Ls,e2⟩:=slot b _ (EL b o e) hb (oR b o e hx) e1 (I.base.free b o e n hx);exact⟨Ls,e2⟩
 ·obtain⟨o',e1⟩:=I.base.there b o e hx;exact free b o' (oR b o e hx) e1 (I.base.free b o e n hx)
 ·obtain⟨o',e1⟩:=I.base.there b o e hx;exact there b o' (oR b o e hx) e1
 ·obtain⟨m1,e1⟩:=I.base.iY b ps e;obtain⟨m2,e2⟩:=iY b _ e1;exact⟨m1++m2,by rw[e2,Array.append_assoc]⟩
 ·obtain⟨m,hn,hl⟩:=I.loc;refine⟨m,ns m hn,λi x v e1 e2 e3=>?_⟩;obtain⟨u,r,l⟩:=hl i x v e1 e2 e3;refine⟨u,r,?_⟩;rcases l with l|⟨k,c,e,z⟩
  ·exact .inl l
  ·exact .inr ⟨k,c,e,cellK x c e _ z⟩
 ·obtain⟨v,z⟩:=I.cell x c e;exact⟨v,cellK x c e v z⟩
 ·obtain⟨m,⟨o,_,_,ho,_⟩,_⟩:=I.loc;exact free _ o (λz=>(ly _ z).2.1 rfl) ho I.free
 ·obtain⟨v,o,ho,hd⟩:=I.cell x c e;exact free c o (λz=>(ly c z).2.2.1 x c e rfl) ho (I.fU x c e)
 ·obtain⟨e,n,ne,nf,d⟩:=I.pin p hp;have uq:p.1∉ch:=λz=>(ly p.1 z).2.2.2 p hp rfl;exact⟨keep p.1 p.2 ne nf uq e n,free p.1 p.2 uq e n,ne,nf,d⟩
theorem Inv.un{t':Nat}(I:Inv X pins U H s)(u:Un X.fs [] H H' s.heap h')(cu:gE X.prog X.w H' h'):Inv X pins U H' { s with heap:=h',toks:=t' }:=by
 obtain⟨m,⟨o,es,ep,ho,r⟩,_⟩:=id I.loc;obtain⟨sl,hL⟩:=u.any ho I.free (by simp);exact I.step (g':=s.gens) (d':=s.drawn) (ch:=[]) (λ_ z=>nomatch z) (λb o _ hb _ e n=>u.keep b o e n hb (by simp)) (λb o _ hb _ e n=>u.slot b o e n hb (by simp)) (λb o _ e n=>u.free b o e n (by simp)) (λb o _ e=>u.there b o e (by simp)) u.iX u.iG u.iY (λm' hm=>by
  obtain⟨o',ou,AX,mx,r'⟩:=hm;rw[ho] at mx;cases mx;exact ⟨_,ou,AX,hL,r'⟩) cu I.bare
theorem Inv.call{g':Array GenState}{t':Nat}{d':Drawn}(I:Inv X pins U H s)(u:Un (iR X.stack) ch H H' s.heap h')(cu:gE X.prog X.w H' h')(hg:AllBare g')(ly:∀b∈ch,(b∈X.ex\/X.dM.heap.objs.size<=b)/\b≠X.env.locals/\(∀x c,X.env.cells.lookup x=some c->c≠b)/\∀p∈X.pn++pins,p.1≠b) :
  Inv X pins U H' { s with heap:=h',gens:=g',drawn:=d',toks:=t' }:=by
 obtain⟨m,⟨o,es,ep,ho,r⟩,_⟩:=id I.loc;obtain⟨sl,hL⟩:=u.any ho I.free λz=>(ly _ z).2.1 rfl;exact I.step (ch:=ch) ly (λb o hL hb hc e n=>u.keep b o e n (λz=>(aG.mp (I.L1 b z)).elim hL hb) hc) (λb o _ _ hc e n=>u.any e n hc) (λb o hc e n=>u.free b o e n hc) (λb o hc e=>u.there b o e hc) u.iX u.iG u.iY (λm' hm=>by
  obtain⟨o',ou,AX,mx,r'⟩:=hm;rw[ho] at mx;cases mx;exact ⟨_,ou,AX,hL,r'⟩) cu hg
theorem Inv.turned{t':Nat}{it:Addr}(I:Inv X pins U H s)(k:∀b o,b≠it->s.heap.get? b=some o->h'.get? b=some o)(hn:H it=none)(hL:it≠X.env.locals)(h1:it∈X.ex\/X.dM.heap.objs.size<=it)(h2:∀x c,X.env.cells.lookup x=some c->c≠it)(h3:∀p∈X.pn++pins,p.1≠it):Inv X pins U H { s with heap:=h',toks:=t' }:=by
 have EK:∀b u,H b=some u->b≠it:=λb u e z=>by simp_all
 refine I.step (g':=s.gens) (d':=s.drawn) (ch:=[it]) (λb hb=>?_) (λb o _ _ hc e _=>k b o (λz=>hc (by simp[z])) e) (λb o _ _ hc e _=>⟨o.slots,k b o (λz=>hc (by simp[z])) e⟩) (λ_ _ _ _ n=>n)
  (λb o hc e=>⟨o,k b o (λz=>hc (by simp[z])) e⟩) (λ_ _ e=>e) (λ_ _ _ e=>e) (λb ps e=>⟨#[],by rw[e];simp⟩) (λm hm=>?_) (λb u e=>?_) I.bare
 ·have e:b=it:=by simpa using hb
  subst e;exact⟨h1,hL,h2,h3⟩
 ·obtain⟨o,es,ep,ho,r⟩:=hm;exact⟨o,es,ep,k _ o (cw hL) ho,r⟩
 ·refine(I.cu b u e).Z7 (λc v hc q=>k c v ?_ q) (λ_ q=>q) λ_ _ q=>q;rcases hc with z|z
  ·rw[z];exact EK b u e
  ·exact EK c _ z
theorem Inv.tok(I:Inv X pins U H s)(t:Nat):Inv X pins U H { s with toks:=t }:=I.un (h':=s.heap) (t':=t) Un.refl I.cu
theorem Inv.kept{t':Nat}(I:Inv X pins U H s)(k:∀b u,s.heap.get? b=some u->h'.get? b=some u):Inv X pins U H { s with heap:=h',toks:=t' }:=I.un (Un.kept k) (I.cu.kept k)
theorem Inv.laid{a:Addr}{o:HO}{t':Nat}(I:Inv X pins U H s)(k:∀b u,s.heap.get? b=some u->h'.get? b=some u)(hp:s.heap.objs.size<=a)(new:o6 X.prog X.w (upd H a o) h' a o) :
  Inv X pins U (upd H a o) { s with heap:=h',toks:=t' }:=I.un (Un.laid k hp (I.cu.fresh hp)) (I.cu.laid k hp new)
theorem Inv.write{x e:Addr}{o:HO}{t':Nat}(I:Inv X pins U H s)(mu:wm (H x))(he:e=x\/H e=some (.own x))(k:∀b u,b≠e->s.heap.get? b=some u->h'.get? b=some u)(qk:∃u,h'.get? e=some u)(new:o6 X.prog X.w (upd H x o) h' x o):Inv X pins U (upd H x o) { s with heap:=h',toks:=t' }:=I.un (Un.write mu he k qk) (I.cu.write mu he k qk new)
theorem Inv.K6{lg:List (Addr×Obj)}(I:Inv X pins U H s)(h:∀p∈lg,s.heap.get? p.1=some p.2/\H p.1=none/\p.1≠X.env.locals/\p.1∉X.fs/\∀v,p.2.data≠.cell v):Inv X lg U H s :=
 ⟨I.ok,I.os,I.bare,I.base,I.loc,I.cell,I.free,I.fU,λp hp=>(aO.mp hp).elim (λz=>I.pin p (bw _ z)) (h p),I.cu,I.len,I.sg⟩
theorem JJ(hN:N.Nodup){j:Nat}(a:N[i]?=some x)(b:N[j]?=some x):i=j:=by
 obtain⟨h1,e1⟩:=av.mp a;obtain⟨h2,e2⟩:=av.mp b;exact(lI hN).mp (e1.trans e2.symm)
theorem Ht{Q:Unit->Shared->Prop}(I:Inv X pins U H s)(hN:X.Nd)(hi:X.N[i]?=some x)(hx:Loc X.env.scope x)(r:RelV v u)(h:∀s',Inv X pins (U.set i (some v)) H s'->(∃a,Heap.SameBut a s.heap s'.heap/\(a=X.env.locals\/X.env.cells.lookup x=some a))->Q Unit.unit s')(hf:X.fn x=true\/X.env.scope.names.lookup x=some .local:=by first|exact .inl rfl|exact .inr rfl|assumption):wpAny M A (storeName X.env x u) Q E s:=by
 obtain⟨m,hn,hl⟩:=id I.loc;have Ak:(X.env.scope.kind==.class||(X.env.scope.kind==.module&&X.env.locals != X.env.globals))=false:=by rw[I.ok.kind];rfl
 have uS:i<U.length:=by rw[I.len];exact(av.mp hi).1
 have qP:=I.qP;have tracked:∀{a:Addr} {h':Heap},(∃o,s.heap.get? a=some o/\H a=none)->Heap.SameBut a s.heap h'->gE X.prog X.w H h':=λ{a h'} ha hs b ob e=>by
  obtain⟨_,_,mX⟩:=ha;refine(I.cu b ob e).Z7 (λc w' hc q=>(hs.2 c ?_).trans q) (λ_ q=>q) λ_ _ q=>q;rintro rfl;rcases hc with rfl|hc
  ·rw[mX] at e;cases e
  ·rw[mX] at hc;cases hc
 rcases hx with hk|hk
 ·refine wpAny_storeName_local hk hn (λh' MD hs=>?_) Ak;obtain⟨oL,_,_,nX,_⟩:=id hn;refine h _ ⟨I.ok,I.os,I.bare,⟨λb o e n hb hx=>?_,λb o e n hb hx=>?_,I.base.free,λb o e hx=>?_,I.base.iX,I.base.iG,I.base.iY⟩,⟨_,MD,λj y v' e1 e2 e3=>?_⟩,λy c e=>?_,I.free,I.fU,λp hp=>?_,tracked ⟨oL,nX,I.free⟩ hs,by simpa using I.len,λ_ z=>by rw[hN.2] at z;cases z⟩ ⟨_,hs,.inl rfl⟩
  ·exact(hs.2 b (aM (ay (aA e) I.ok.above))).trans (I.base.keep b o e n hb hx)
  ·obtain⟨sl,e1⟩:=I.base.slot b o e n hb hx;exact⟨sl,(hs.2 b (aM (ay (aA e) I.ok.above))).trans e1⟩
  ·obtain⟨o',e1⟩:=I.base.there b o e hx;exact⟨o',(hs.2 b (aM (ay (aA e) I.ok.above))).trans e1⟩
  ·by_cases hj:j=i
   ·subst hj;rw[hi] at e1;cases e1;rw[bf uS] at e2;cases e2;exact⟨u,r,.inl ⟨hk,by simp⟩⟩
   ·rw[ax (cw hj)] at e2;obtain⟨u',r',q⟩:=hl j y v' e1 e2 e3;refine⟨u',r',?_⟩;rcases q with⟨k,e⟩|⟨k,c,e,z⟩
    ·refine .inl ⟨k,?_⟩;have:y≠x:=λe=>hj (JJ hN.1 e1 (e▸hi));simp[this,e]
    ·exact .inr ⟨k,c,e,z.sameBut hs (qP y c e)⟩
  ·obtain⟨w',z⟩:=I.cell y c e;exact⟨w',z.sameBut hs (qP y c e)⟩
  ·obtain⟨e,n,ne,nf,d⟩:=I.pin p hp;exact⟨(hs.2 p.1 ne).trans e,n,ne,nf,d⟩
 ·have Ah:X.fn x=true:=by
   simp_all
  obtain⟨c,hc⟩:=I.ok.has x (.inl hk);obtain⟨w',z⟩:=I.cell x c hc;refine wpAny_storeName_cell I.ok.kind hk hc z (λh' jj hs=>?_);obtain⟨oc,zQ,zP⟩:=id z;refine h { s with heap:=h' } ⟨I.ok,I.os,I.bare,⟨λb o e n hb hx=>?_,λb o e n hb hx=>?_,I.base.free,λb o e hx=>?_,I.base.iX,I.base.iG,I.base.iY⟩,⟨m,hn.sameBut hs (cw (qP x c hc)),λj y v' e1 e2 e3=>?_⟩,λy c' e=>?_,I.free,I.fU,λp hp=>?_,tracked ⟨oc,zQ,I.fU x c hc⟩ hs,by simpa using I.len,λ_ z=>by rw[hN.2] at z;cases z⟩ ⟨c,hs,.inr hc⟩
  ·exact(hs.2 b (aM (ay (aA e) (I.ok.vC x c Ah hc)))).trans (I.base.keep b o e n hb hx)
  ·obtain⟨sl,e1⟩:=I.base.slot b o e n hb hx;exact⟨sl,(hs.2 b (aM (ay (aA e) (I.ok.vC x c Ah hc)))).trans e1⟩
  ·obtain⟨o',e1⟩:=I.base.there b o e hx;exact⟨o',(hs.2 b (aM (ay (aA e) (I.ok.vC x c Ah hc)))).trans e1⟩
  ·by_cases hj:j=i
   ·subst hj;rw[hi] at e1;cases e1;rw[bf uS] at e2;cases e2;exact⟨u,r,.inr ⟨.inl hk,c,hc,jj⟩⟩
   ·rw[ax (cw hj)] at e2;obtain⟨u',r',q⟩:=hl j y v' e1 e2 e3;refine⟨u',r',?_⟩;rcases q with q|⟨k,c',e,z'⟩
    ·exact .inl q
    ·refine .inr ⟨k,c',e,z'.sameBut hs ?_⟩;rintro rfl;exact hj (JJ hN.1 e1 (I.ok.inj _ _ _ e hc▸hi))
  ·by_cases rT:c'=c
   ·subst rT;exact⟨_,jj⟩
   ·obtain⟨w2,z2⟩:=I.cell y c' e;exact⟨w2,z2.sameBut hs rT⟩
  ·obtain⟨e,n,ne,nf,d⟩:=I.pin p hp;refine⟨(hs.2 p.1 ?_).trans e,n,ne,nf,d⟩;intro q;rw[q,zQ] at e;have q':oc=p.2:=aL e;exact d w' (by rw[<- q'];exact zP)
theorem BW{Q:Unit->Shared->Prop}(I:Inv X pins U H s)(hN:X.Nd)(hi:X.N[i]?=some x)(hx:Loc X.env.scope x)(r:RelV v u)(h:∀s',Inv X pins (U.set i (some v)) H s'->Q Unit.unit s')(hf:X.fn x=true\/X.env.scope.names.lookup x=some .local:=by first|exact .inl rfl|exact .inr rfl|assumption):wpAny M A (storeName X.env x u) Q E s :=
 Ht I hN hi hx r (λs' I' _=>h s' I') hf
theorem Inv.Kb{s':Shared}(I:Inv X pins U H s)(ho:s'.os=s.os)(u:Un (iR X.stack) ch H H' s.heap s'.heap)(cu:gE X.prog X.w H' s'.heap)(hg:AllBare s'.gens)(ly:∀b∈ch,(b∈X.ex\/X.dM.heap.objs.size<=b)/\b≠X.env.locals/\(∀x c,X.env.cells.lookup x=some c->c≠b)/\∀p∈X.pn++pins,p.1≠b):Inv X pins U H' s':=by
 obtain⟨h',g',d',t',o'⟩:=s';have e:o'=s.os:=ho;subst e;exact I.call (g':=g') (t':=t') (d':=d') u cu hg ly
end
noncomputable abbrev XK:=Value->Option Addr->Hp->Prop
noncomputable abbrev St:=List (Option V)
noncomputable abbrev VK:=V->Hp->Prop
noncomputable abbrev TE:=St->Hp->VK->Prop
noncomputable abbrev TT:=St->Hp->(Bool->Hp->Prop)->Prop
noncomputable abbrev TA:=St->Hp->(List V->Hp->Prop)->Prop
structure Ends where
 nx:St->Hp->Prop
 rt:VK
 bk:St->Hp->Prop:=λ_ _=>False
 ct:St->Hp->Prop:=λ_ _=>False
noncomputable abbrev TS:=Ends->St->Hp->Prop
def EP(X:Cx)(pins:List (Addr×Obj))(U:St)(Q:VK)(u:Value)(s':Shared):Prop:=∃v H',Inv X pins U H' s'/\RelV v u/\Q v H'
def TP(X:Cx)(pins:List (Addr×Obj))(U:St)(Q:Bool->Hp->Prop)(b:Bool)(s':Shared):Prop:=∃H',Inv X pins U H' s'/\Q b H'
def AP(X:Cx)(pins:List (Addr×Obj))(U:St)(Q:List V->Hp->Prop)(us:List Value)(s':Shared):Prop:=∃vs H',Inv X pins U H' s'/\Vals vs us/\Q vs H'
def SP(X:Cx)(pins:List (Addr×Obj))(D:Ends)(f:Flow)(s':Shared):Prop :=
 match f with
 |.next=>∃bZ H',Inv X pins bZ H' s'/\D.nx bZ H'
 |.brk=>∃bZ H',Inv X pins bZ H' s'/\D.bk bZ H'
 |.cont=>∃bZ H',Inv X pins bZ H' s'/\D.ct bZ H'
 |.ret u=>∃v bZ H',Inv X pins bZ H' s'/\RelV v u/\D.rt v H'
def PE(X:Cx)(e:Expr)(t:TE):Prop :=
 ∀(pins:List (Addr×Obj)) (s:Shared) (U:St) (H:Hp) (Q:VK),Inv X pins U H s->t U H Q->wpAny (model X.prog X.w) X.A (eval e X.env) (EP X pins U Q) X.xe s
def PT(X:Cx)(e:Expr)(t:TT):Prop :=
 ∀(pins:List (Addr×Obj)) (s:Shared) (U:St) (H:Hp) (Q:Bool->Hp->Prop),Inv X pins U H s->t U H Q->wpAny (model X.prog X.w) X.A (isTrue e X.env (eval e X.env)) (TP X pins U Q) X.xe s
def PW(X:Cx)(e:Expr)(t:TT):Prop :=
 ∀(whole:Sem Value) (pins:List (Addr×Obj)) (s:Shared) (U:St) (H:Hp) (Q:Bool->Hp->Prop),Inv X pins U H s->t U H Q->wpAny (model X.prog X.w) X.A (isTrue e X.env whole) (TP X pins U Q) X.xe s
theorem PW.pt{t:TT}(h:PW X e t):PT X e t:=h _
def PA(X:Cx)(es:List Expr)(t:TA):Prop :=
 ∀(pos:Pos) (pins:List (Addr×Obj)) (s:Shared) (U:St) (H:Hp) (Q:List V->Hp->Prop),Inv X pins U H s->t U H Q->wpAny (model X.prog X.w) X.A (spliced (backTo pos (starEach es X.env))) (AP X pins U Q) X.xe s
def PS(X:Cx)(st:Stmt)(t:TS):Prop :=
 ∀(pins:List (Addr×Obj)) (s:Shared) (U:St) (H:Hp) (D:Ends),Inv X pins U H s->t D U H->wpAny (model X.prog X.w) X.A (exec st X.env) (SP X pins D) X.xe s
def jP(X:Cx)(st:List Stmt)(t:TS):Prop :=
 ∀(pins:List (Addr×Obj)) (s:Shared) (U:St) (H:Hp) (D:Ends),Inv X pins U H s->t D U H->wpAny (model X.prog X.w) X.A (execs st X.env) (SP X pins D) X.xe s
theorem cQ{t:Sem α}{Q Q':α->Shared->Prop}(h:wpAny M A t Q E s)(hQ:∀a s,Q a s->Q' a s):wpAny M A t Q' E s:=bK h hQ λ_ _ x=>x
section
theorem bin{a b:Expr}(ha:PE X a ta)(hb:PE X b tb){R:V->V->Hp->Prop}(I:Inv X pins U H s)(h:ta U H λx H1=>tb U H1 λy H2=>R x y H2){Q:α->Shared->Prop}{f:Value->Value->Sem α}(hf:∀v u s2 x y H2,Inv X pins U H2 s2->RelV x v->RelV y u->R x y H2->wpAny (model X.prog X.w) X.A (f v u) Q X.xe s2) :
  wpAny (model X.prog X.w) X.A (eval a X.env) (λv bX=>wpAny (model X.prog X.w) X.A (eval b X.env) (λu gU=>wpAny (model X.prog X.w) X.A (f v u) Q X.xe gU) X.xe bX) X.xe s:=by
 refine cQ (ha pins s U H _ I h) λv s1 bz=>?_;obtain⟨x,H1,I1,r1,q1⟩:=bz;refine cQ (hb pins s1 U H1 _ I1 q1) λu s2 bz=>?_;obtain⟨y,H2,I2,r2,q2⟩:=bz;exact hf v u s2 x y H2 I2 r1 r2 q2
def VA(i:Nat):TE:=λU H Q=>∃v,U[i]?=some (some v)/\Q v H
def tC(v:V):TE:=λ_ H Q=>Q v H
theorem QU(hN:X.N[i]?=some x)(hv:we X.env.scope x)(hd:(x==("__debug__":Str))=false:=by decide)(lR:(x==("__classdict__":Str))=false:=by decide):PE X (.Name x pos) (VA i):=by
 intro pins s U H Q I h;obtain⟨v,e,h⟩:=h;obtain⟨m,hn,hl⟩:=I.loc;obtain⟨u,r,l⟩:=hl i x v hN e hv;have fin:EP X pins U Q u s:=⟨v,H,I,r,h⟩
 rcases l with⟨hk,hm⟩|⟨hk,c,hc,lz⟩
 ·exact wpAny_Name (wpAny_loadName_local I.ok.kind hk hn hm fin) hd
 ·rcases hk with hk|hk
  ·exact wpAny_Name (wpAny_loadName_cell I.ok.kind hk hc lz fin) hd
  ·exact wpAny_Name (wpAny_loadName_free I.ok.kind hk hc lz fin lR) hd
theorem QM{i j pos}:PE X (.Constant (.int i) j pos) (tC (.int i)):=λ_ _ _ H _ I h=>wpAny_Constant_int ⟨.int i,H,I.tok _,⟨_,rfl⟩,h⟩
theorem OK{b j pos}:PE X (.Constant (.bool b) j pos) (tC (.bl b)):=λ_ _ _ H _ I h=>Constant_bool ⟨.bl b,H,I,rfl,h⟩
theorem QO{j pos}:PE X (.Constant .none j pos) (tC .bO):=λ_ _ _ H _ I h=>Constant_none ⟨.bO,H,I,rfl,h⟩
theorem QS{x j pos}:PE X (.Constant (.str x) j pos) (tC (.str x)):=λ_ _ _ H _ I h=>Calls.Constant_str ⟨.str x,H,I.tok _,⟨_,rfl⟩,h⟩
def Gl(X:Cx)(x:Str):Prop:=X.env.kindOf x=some .globalImplicit
theorem Y5(I:Inv X pins U H s)(hg:Gl X x)(hm:X.mg x=some u)(h:Q u s)(hd:(x==("__debug__":Str))=false:=by decide):wpAny (model X.prog X.w) X.A (eval (.Name x pos) X.env) Q E s :=
 yW I.ok.kind hg (Calls.loadGlobal_global (by rw[I.ok.glob];exact I.mod.glob.keeps I.bk) hm h) hd
theorem L8(I:Inv X pins U H s)(hg:Gl X x)(hm:X.mg x=none)(hv:bootBuiltins x=some u)(h:Q u s)(hn:x≠"__name__":=by decide)(hd:(x==("__debug__":Str))=false:=by decide):wpAny (model X.prog X.w) X.A (eval (.Name x pos) X.env) Q E s:=by
 obtain⟨mb,h1,h2⟩:=I.mod.blt;exact yW I.ok.kind hg (Calls.loadGlobal_builtin (by rw[I.ok.glob];exact I.mod.glob.keeps I.bk) hm (by rw[I.ok.blt];exact h1.keeps I.bk) ((h2 x hn).trans hv) h) hd
theorem Jk(hg:Gl X x)(hm:X.mg x=some u)(r:RelV v u)(hd:(x==("__debug__":Str))=false:=by decide):PE X (.Name x pos) (tC v) :=
 λ_ _ _ H _ I h=>Y5 I hg hm ⟨v,H,I,r,h⟩ hd
theorem SY(hg:Gl X x)(hm:X.mg x=none)(hv:bootBuiltins x=some u)(r:RelV v u)(hn:x≠"__name__":=by decide)(hd:(x==("__debug__":Str))=false:=by decide):PE X (.Name x pos) (tC v) :=
 λ_ _ _ H _ I h=>L8 I hg hm hv ⟨v,H,I,r,h⟩ hn hd
variable{a b:Expr}
variable{tA wI:TT}{rest:List Expr}
def Vo(t u:TT):TT:=λU H Q=>t U H λc H1=>if c=true then u U H1 Q else Q false H1
def Lm(t u:TT):TT:=λU H Q=>t U H λc H1=>if c=true then Q true H1 else u U H1 Q
def Vv(t:TT):TT:=λU H Q=>t U H λc H1=>Q (!c) H1
theorem Tt(ha:PT X a tA):PW X (.BoolOp .And [a] pos) tA:=by
 intro wh pins s U H Q I h;refine isTrue_and (cQ (ha pins s U H Q I h) λc s1 e=>?_);cases c with
 |true=>exact isTrue_and_nil e
 |false=>exact e
theorem Ri(ha:PT X a tA):PW X (.BoolOp .Or [a] pos) tA:=by
 intro wh pins s U H Q I h;refine isTrue_or (cQ (ha pins s U H Q I h) λc s1 e=>?_);cases c with
 |false=>exact isTrue_or_nil e
 |true=>exact e
theorem Rh(ha:PT X a tA)(hb:PW X (.BoolOp .And (b::rest) pos) wI):PW X (.BoolOp .And (a::b::rest) pos) (Vo tA wI):=by
 intro wh pins s U H Q I h;refine isTrue_and (cQ (ha pins s U H _ I h) λc s1 ⟨H1,I1,q1⟩=>?_);cases c with
 |true=>exact hb wh pins s1 U H1 Q I1 q1
 |false=>exact⟨H1,I1,q1⟩
theorem OR(ha:PT X a tA)(hb:PW X (.BoolOp .Or (b::rest) pos) wI):PW X (.BoolOp .Or (a::b::rest) pos) (Lm tA wI):=by
 intro wh pins s U H Q I h;refine isTrue_or (cQ (ha pins s U H _ I h) λc s1 ⟨H1,I1,q1⟩=>?_);cases c with
 |true=>exact⟨H1,I1,q1⟩
 |false=>exact hb wh pins s1 U H1 Q I1 q1
theorem Rg(ha:PT X a tA):PT X (.UnaryOp .Not a pos) (Vv tA):=by
 intro pins s U H Q I h;exact isTrue_not (ha pins s U H (λc H1=>Q (!c) H1) I h)
def Pc(ta tb:TE):TE:=λU H Q=>ta U H λx H1=>∃c,x=.bl c/\if c=true then tb U H1 Q else Q (.bl false) H1
def Vw(ta tb:TE):TE:=λU H Q=>ta U H λx H1=>∃c,x=.bl c/\if c=true then Q (.bl true) H1 else tb U H1 Q
def Pf(ta:TE):TE:=λU H Q=>ta U H λx H1=>∃c,x=.bl c/\Q (.bl (!c)) H1
theorem QQ{op}{t:TE}(h:PE X a t):PE X (.BoolOp op [a] pos) t:=λpins s U H Q I hw=>BoolOp_one (h pins s U H Q I hw)
theorem QJ(ha:PE X a ta)(hb:PE X (.BoolOp .And (b::rest) pos) tb):PE X (.BoolOp .And (a::b::rest) pos) (Pc ta tb):=by
 intro pins s U H Q I h;refine BoolOp_and (cQ (ha pins s U H _ I h) λv s1 bz=>?_);obtain⟨x,H1,I1,r1,q1⟩:=bz;obtain⟨c,rfl,q1⟩:=q1;cases r1;refine cL ?_;cases c with
 |true=>exact hb pins s1 U H1 Q I1 q1
 |false=>exact⟨.bl false,H1,I1,rfl,q1⟩
theorem ON(ha:PE X a ta)(hb:PE X (.BoolOp .Or (b::rest) pos) tb):PE X (.BoolOp .Or (a::b::rest) pos) (Vw ta tb):=by
 intro pins s U H Q I h;refine BoolOp_or (cQ (ha pins s U H _ I h) λv s1 bz=>?_);obtain⟨x,H1,I1,r1,q1⟩:=bz;obtain⟨c,rfl,q1⟩:=q1;cases r1;refine cL ?_;cases c with
 |false=>exact hb pins s1 U H1 Q I1 q1
 |true=>exact⟨.bl true,H1,I1,rfl,q1⟩
theorem QP(ha:PE X a ta):PE X (.UnaryOp .Not a pos) (Pf ta):=by
 intro pins s U H Q I h;refine UnaryOp_ (cQ (ha pins s U H _ I h) λv s1 bz=>?_);obtain⟨x,H1,I1,r1,q1⟩:=bz;obtain⟨c,rfl,q1⟩:=q1;cases r1;exact not_of (cL ⟨.bl (!c),H1,I1,rfl,q1⟩)
def Ln(t:TT)(ta tb:TE):TE:=λU H Q=>t U H λc H1=>if c=true then ta U H1 Q else tb U H1 Q
theorem a29(hc:PT X c tA)(ha:PE X a ta)(hb:PE X b tb):PE X (.IfExp c a b pos) (Ln tA ta tb):=by
 intro pins s U H Q I h;refine wpAny_IfExp (cQ (hc pins s U H _ I h) λd s1 ⟨H1,I1,q1⟩=>?_);cases d with
 |true=>exact ha pins s1 U H1 Q I1 q1
 |false=>exact hb pins s1 U H1 Q I1 q1
end
def fO(K:PySem.W.Frag)(H:Hp)(a:Addr)(xs:List V):Prop :=
 Rd H a (.lst xs) \/
  ∃(o:Obj) (bp:Array Value) (n:Nat),K.lookup a=some o/\o.cls=.type "list"/\o.dict=none/\o.data=.seq bp n/\bp.size<=sizeLine/\Vals xs bp.toList
def jU(K:PySem.W.Frag)(H:Hp)(a:Addr)(xs:List V):Prop :=
 Rd H a (.tup xs) \/
  ∃(o:Obj) (bp:Array Value) (n:Nat),K.lookup a=some o/\o.cls=.type "tuple"/\o.data=.seq bp n/\bp.size<=sizeLine/\Vals xs bp.toList
def Us:Value->Option V
 |.none=>some .bO
 |.bool b=>some (.bl b)
 |.int i _=>some (.int i)
 |.str x _=>some (.str x)
 |.bytes b _=>some (.lD b)
 |.float b _=>some (.qN b)
 |.ref a=>some (.ref a)
 |.type n=>some (.ty n)
 |_=>none
theorem RelV.abs{x:V}(r:RelV x u):Us u=some x:=by
 cases x with
 |bO=>cases r;rfl
 |bl _=>cases r;rfl
 |int _=>obtain⟨t,rfl⟩:=r;rfl
 |str _=>obtain⟨t,rfl⟩:=r;rfl
 |lD _=>obtain⟨t,rfl⟩:=r;rfl
 |qN _=>obtain⟨t,rfl⟩:=r;rfl
 |ref _=>cases r;rfl
 |ty _=>cases r;rfl
theorem RelV.inj{x y:V}{u:Value}(r:RelV x u)(q:RelV y u):x=y:=aL (r.abs.symm.trans q.abs)
theorem Vals.inj{xs ys:List V}{us:List Value}(h:Vals xs us)(h':Vals ys us):xs=ys:=by
 induction h generalizing ys with
 |nil=>cases h';rfl
 |cons r t ih =>
  cases h' with
  |cons r' t'=>rw[r.inj r',ih t']
section
variable{ys:List V}
theorem fO.of(h:H a=some (.lst xs)):fO K H a xs:=.inl (.inl h)
theorem Inv.list(I:Inv X pins U H s)(h:fO X.K H a xs):∃bp:List Value,Vals xs bp/\PlainL s.heap a bp.toArray/\xs.length<=sizeLine:=by
 rcases h with h|⟨o,bp,n,hk,hc,hd,hs,hz,r⟩
 ·obtain⟨z,bp,n,r,e⟩:=h.ok I.cu;exact⟨bp,r,⟨_,n,e,rfl,rfl,rfl⟩,z⟩
 ·refine⟨bp.toList,r,⟨o,n,I.hJ a o hk,hc,hd,by simpa using hs⟩,?_⟩;have e:=r.length
  grind
theorem Inv.tuple(I:Inv X pins U H s)(h:jU X.K H a xs):∃bp:List Value,Vals xs bp/\IsTup s.heap a bp.toArray/\xs.length<=sizeLine:=by
 rcases h with h|⟨o,bp,n,hk,hc,hs,hz,r⟩
 ·obtain⟨z,bp,r,p⟩:=h.ok I.cu;exact⟨bp,r,p.tup,z⟩
 ·refine⟨bp.toList,r,⟨o,I.hJ a o hk,hc,n,by simpa using hs⟩,?_⟩;have e:=r.length;simp only[Array.length_toList] at e;omega
theorem Inv.BR(I:Inv X pins U H s)(h:fO X.K H a xs)(h':fO X.K H a ys):xs=ys:=by
 obtain⟨bp,r,⟨o,n,e,_,_,d⟩,_⟩:=I.list h;obtain⟨its',r',⟨o',n',e',_,_,d'⟩,_⟩:=I.list h';rw[e] at e';cases e';rw[d] at d';injection d' with d1 _;have:bp=its':=by simpa using gp Array.toList d1
 subst this;exact r.inj r'
theorem Inv.Yr(I:Inv X pins U H s)(h:jU X.K H a xs)(h':jU X.K H a ys):xs=ys:=by
 obtain⟨bp,r,⟨o,e,_,n,d⟩,_⟩:=I.tuple h;obtain⟨its',r',⟨o',e',_,n',d'⟩,_⟩:=I.tuple h';rw[e] at e';cases e';rw[d] at d';injection d' with d1 _;have:bp=its':=by simpa using gp Array.toList d1
 subst this;exact r.inj r'
end
noncomputable abbrev Cx.Z5(X:Cx)(E:Value->Shared->Prop):Cx:={ X with xe:=E }
theorem Cx.Ok.Z5{X:Cx}(ok:X.Ok)(E:Value->Shared->Prop):(X.Z5 E).Ok :=
 ⟨ok.mod,ok.kind,ok.glob,ok.blt,ok.above,ok.inj,ok.has,ok.vC,ok.hd,ok.frames,ok.wK,ok.Gf,ok.bs,ok.pj,ok.mM,ok.om,ok.P4,ok.qL⟩
theorem Cx.Ok.Bp(ok:(X.Z5 E).Ok):X.Ok :=
 ⟨ok.mod,ok.kind,ok.glob,ok.blt,ok.above,ok.inj,ok.has,ok.vC,ok.hd,ok.frames,ok.wK,ok.Gf,ok.bs,ok.pj,ok.mM,ok.om,ok.P4,ok.qL⟩
theorem Inv.Z5(I:Inv X pins U H s)(E:Value->Shared->Prop):Inv (X.Z5 E) pins U H s:=⟨I.ok.Z5 E,I.os,I.bare,I.base,I.loc,I.cell,I.free,I.fU,I.pin,I.cu,I.len,I.sg⟩
theorem Inv.Bp(I:Inv (X.Z5 E) pins U H s):Inv X pins U H s:=⟨I.ok.Bp,I.os,I.bare,I.base,I.loc,I.cell,I.free,I.fU,I.pin,I.cu,I.len,I.sg⟩
section
variable{st:Stmt}{rest:List Stmt}{t u:TS}
def Kz:TS:=λD U H=>D.nx U H
def Vy(t u:TS):TS:=λD U H=>t { D with nx:=u D } U H
theorem To:jP X [] Kz:=λ_ _ U H _ I h=>tu ⟨U,H,I,h⟩
theorem a22(h1:PS X st t)(h2:jP X rest u):jP X (st::rest) (Vy t u):=by
 intro pins s U H D I h;refine wpAny_execs_cons (cQ (h1 pins s U H { D with nx:=u D } I h) λf s1 q=>?_);cases f with
 |next =>
  obtain⟨bZ,H',I',q⟩:=q;exact h2 pins s1 bZ H' D I' q
 |ret v=>exact q
 |brk=>exact q
 |cont=>exact q
theorem Tj:PS X (.Pass pos) Kz:=λ_ _ U H _ I h=>wpAny_Pass ⟨U,H,I,h⟩
theorem Inv.quiet(I:Inv X pins U H s):interactive X.env=false:=by simp[interactive,I.ok.kind]
def Pe(te:TE):TS:=λD U H=>te U H λ_ H1=>D.nx U H1
theorem Ti(he:PE X e te)(hs:swapsWith e none pos.line X.env=pure false:=by rfl):PS X (.Expr e pos) (Pe te):=by
 intro pins s U H D I h;exact wpAny_Expr_any (cQ (he pins s U H _ I h) λv s1 ⟨x,H1,I1,r1,q1⟩=>⟨U,H1,I1,q1⟩) I.quiet hs
def Vx(te:TE):TS:=λD U H=>te U H D.rt
theorem Rf(he:PE X e te):PS X (.Return (some e) pos) (Vx te):=by
 intro pins s U H D I h;exact wpAny_Return_some (cQ (he pins s U H _ I h) λv s1 ⟨x,H1,I1,r1,q1⟩=>⟨x,U,H1,I1,r1,q1⟩)
def Pj:TS:=λD _ H=>D.rt .bO H
theorem Tn:PS X (.Return none pos) Pj:=λ_ _ U H _ I h=>wpAny_Return_none ⟨.bO,U,H,I,rfl,h⟩
def Vt(c:TT)(t u:TS):TS:=λD U H=>c U H λb H1=>if b=true then t D U H1 else u D U H1
theorem OQ{a b:List Stmt}{tc:TT}(hc:PT X c tc)(ha:jP X a t)(hb:jP X b u):PS X (.If c a b pos) (Vt tc t u):=by
 intro pins s U H D I h;refine wpAny_If (cQ (hc pins s U H _ I h) λd s1 ⟨H1,I1,q1⟩=>?_);cases d with
 |true=>exact ha pins s1 U H1 D I1 q1
 |false=>exact hb pins s1 U H1 D I1 q1
end
noncomputable abbrev TG:=V->St->Hp->(St->Hp->Prop)->Prop
noncomputable abbrev pD:=List V->St->Hp->(St->Hp->Prop)->Prop
def PG(X:Cx)(target:Expr)(t:TG):Prop :=
 ∀(pins:List (Addr×Obj)) (s:Shared) (U:St) (H:Hp) (v:V) (u:Value) (Q:St->Hp->Prop),Inv X pins U H s->RelV v u->t v U H Q ->
  wpAny (model X.prog X.w) X.A (assign target X.env u) (λ_ s'=>∃bZ H',Inv X pins bZ H' s'/\Q bZ H') X.xe s
def wj(X:Cx)(ts:List Expr)(t:pD):Prop :=
 ∀(pins:List (Addr×Obj)) (s:Shared) (U:St) (H:Hp) (vs:List V) (us:List Value) (Q:St->Hp->Prop),Inv X pins U H s->Vals vs us->t vs U H Q ->
  wpAny (model X.prog X.w) X.A (assignInOrder ((assignEach ts X.env).map (·.2)) us) (λ_ s'=>∃bZ H',Inv X pins bZ H' s'/\Q bZ H') X.xe s
noncomputable abbrev DF:=V->V->V->Hp->(Hp->Prop)->Prop
def DE(X:Cx)(t:DF):Prop :=
 ∀(pins:List (Addr×Obj)) (s:Shared) (U:St) (H:Hp) (o i v:V) (ov iv u:Value) (Q:Hp->Prop),Inv X pins U H s->RelV o ov->RelV i iv->RelV v u->t o i v H Q ->
  wpAny (model X.prog X.w) X.A (setItem ov iv u) (λ_ s'=>∃H',Inv X pins U H' s'/\Q H') X.xe s
noncomputable abbrev DO:=V->V->Hp->VK->Prop
def KA(X:Cx)(op:Operator)(t:DO):Prop :=
 ∀(pins:List (Addr×Obj)) (s:Shared) (U:St) (H:Hp) (x y:V) (v u:Value) (Q:VK),Inv X pins U H s->RelV x v->RelV y u->t x y H Q ->
  wpAny (model X.prog X.w) X.A (inplaceOp op v u) (EP X pins U Q) X.xe s
def sV(i:Nat):TG:=λv U H Q=>Q (U.set i (some v)) H
theorem Jl(hN:X.Nd)(hi:X.N[i]?=some x)(hx:Loc X.env.scope x)(hf:X.fn x=true\/X.env.scope.names.lookup x=some .local:=by first|exact .inl rfl|exact .inr rfl|assumption):PG X (.Name x pos) (sV i):=by
 intro pins s U H v u Q I r h;exact wpAny_assign_Name (BW I hN hi hx r (λs' I'=>⟨_,H,I',h⟩) hf)
def GD:pD:=λvs U H Q=>vs=[]/\Q U H
def Kf(t:TG)(u:pD):pD:=λvs U H Q=>∃v r,vs=v::r/\t v U H λbZ H'=>u r bZ H' Q
theorem Te:wj X [] GD:=by
 intro pins s U H vs us Q I r h;obtain⟨e,h⟩:=h;exact assignInOrder_nil ⟨U,H,I,h⟩
theorem a25{t:TG}{u:pD}(h1:PG X e t)(h2:wj X es u)(hs:(assignEach (e::es) X.env).map (·.2)=assign e X.env::(assignEach es X.env).map (·.2):=by rfl):wj X (e::es) (Kf t u):=by
 intro pins s U H vs us Q I r h;obtain⟨v,vr,e1,h⟩:=h;subst e1;cases r with
 |cons r rr =>
  rw[hs];refine assignInOrder_cons (cQ (h1 pins s U H _ _ _ I r h) λ_ s1 bz=>?_);obtain⟨iL,H1,I1,q1⟩:=bz;exact h2 pins s1 iL H1 _ _ Q I1 rr q1
def UI(K:PySem.W.Frag)(n:Nat)(t:pD):TG:=λv U H Q=>∃a xs,v=.ref a/\jU K H a xs/\xs.length=n/\t xs U H Q
theorem QW{t:pD}{n:Nat}(hc:X.calm=true)(h:wj X es t)(hn:(assignEach es X.env).length=n:=by rfl)(fN:(assignEach es X.env).findIdx? (·.1)=none:=by rfl):PG X (.Tuple es k pos) (UI X.K n t):=by
 intro pins s U H v u Q I r hw;obtain⟨a,xs,e1,hq,hl,hw⟩:=hw;subst e1;cases r;obtain⟨bp,rv,ht,hz⟩:=I.tuple hq;refine assign_Tuple_tuple (I.ok.hd hc) ht (by simp[hn,<- hl,rv.length]) fN λh' hx=>?_;have I1:Inv X pins U H { s with heap:=h' }:=I.kept (t':=s.toks) λb o e=>hx b o (aM (aA e)) e;exact h pins _ U H xs _ Q I1 (by simpa using rv) hw
def UH(to ti:TE)(t:DF):TG:=λv U H Q=>to U H λo H1=>ti U H1 λi H2=>t o i v H2 λH3=>Q U H3
theorem QV{o i:Expr}{to ti:TE}{t:DF}(ho:PE X o to)(hi:PE X i ti)(hs:DE X t)(ha:∀ v,assign (.Subscript o i pos) X.env v=(do
   let ov <- holding [v] (eval o X.env)
   let iv <- holding [v,ov] (eval i X.env)
   standAt pos
   holding [v,ov,iv] (setItem ov iv v)
   release [v,ov,iv] []):=by intro _;rfl):PG X (.Subscript o i pos) (UH to ti t):=by
 intro pins s U H v u Q I r h;rw[ha];refine ab (cz (cQ (ho pins s U H _ I h) λov s1 bz=>?_));obtain⟨x,H1,I1,r1,q1⟩:=bz;refine ab (cz (cQ (hi pins s1 U H1 _ I1 q1) λiv s2 bz=>?_));obtain⟨y,H2,I2,r2,q2⟩:=bz;refine ab (fh (ab (cz (cQ (hs pins s2 U H2 x y v ov iv u _ I2 r1 r2 r q2) λ_ s3 ⟨H3,I3,q3⟩=>?_))));exact wpAny_release ⟨U,H3,I3,q3⟩
def vD(te:TE)(g:TG):TS:=λD U H=>te U H λx H1=>g x U H1 D.nx
theorem IF{g:TG}(he:PE X e te)(hg:PG X tg g)(hs:swapsWithSole [tg] e pos.line X.env=pure false:=by rfl)(hw:swappedStores [tg] e X.env=pure none:=by rfl)(h1:(assignEach [tg] X.env).map (·.2)=[assign tg X.env]:=by rfl):PS X (.Assign [tg] e pos) (vD te g):=by
 intro pins s U H D I h;refine wpAny_Assign_stores (cQ (he pins s U H _ I h) λv s1 bz=>?_) hs hw;obtain⟨x,H1,I1,r1,q1⟩:=bz;rw[h1];exact cQ (hg pins s1 U H1 x v _ I1 r1 q1) λ_ s2 q=>q
theorem IG(hN:X.Nd)(hi:X.N[i]?=some x)(hx:Loc X.env.scope x)(he:PE X e te)(hs:swapsWith e (some (.Name x pos')) pos.line X.env=pure false:=by rfl)(hf:X.fn x=true\/X.env.scope.names.lookup x=some .local:=by first|exact .inl rfl|exact .inr rfl|assumption) :
  PS X (.Assign [.Name x pos'] e pos) (vD te (sV i)):=by
 intro pins s U H D I h;refine wpAny_Assign_Name (cQ (he pins s U H _ I h) λv s1 bz=>?_) hs;obtain⟨y,H1,I1,r1,q1⟩:=bz;exact BW I1 hN hi hx r1 (λs2 I2=>⟨_,H1,I2,q1⟩) hf
def Vp(i:Nat)(te:TE)(ti:DO):TS:=λD U H=>∃x,U[i]?=some (some x)/\te U H λy H1=>ti x y H1 λz H2=>D.nx (U.set i (some z)) H2
theorem Ra{op:Operator}{ti:DO}(hN:X.Nd)(hi:X.N[i]?=some x)(hx:Loc X.env.scope x)(he:PE X e te)(ho:KA X op ti)(hf:X.fn x=true\/X.env.scope.names.lookup x=some .local:=by first|exact .inl rfl|exact .inr rfl|assumption) :
  PS X (.AugAssign (.Name x pos') op e pos) (Vp i te ti):=by
 intro pins s U H D I h;obtain⟨v,e1,h⟩:=h;obtain⟨m,hn,hl⟩:=I.loc;have tO:we X.env.scope x:=by rcases hx with k|k;exact .inl k;exact .inr (.inl k)
 obtain⟨u,r,l⟩:=hl i x v hi e1 tO;refine wpAny_AugAssign_Name ?_;have go:wpAny (model X.prog X.w) X.A (eval e X.env) (λw gU=>wpAny (model X.prog X.w) X.A (inplaceOp op u w) (λr fA=>wpAny (model X.prog X.w) X.A (storeName X.env x r) (λ_=>SP X pins D .next) X.xe fA) X.xe gU) X.xe s:=by
  refine cQ (he pins s U H _ I h) λw s1 bz=>?_;obtain⟨y,H1,I1,r1,q1⟩:=bz;refine cQ (ho pins s1 U H1 v y u w _ I1 r r1 q1) λz s2 bz=>?_;obtain⟨zv,H2,I2,r2,q2⟩:=bz;exact BW I2 hN hi hx r2 (λs3 I3=>⟨_,H2,I3,q2⟩) hf
 rcases l with⟨hk,hm⟩|⟨hk,c,hc,lz⟩
 ·exact wpAny_loadName_local I.ok.kind hk hn hm go
 ·rcases hk with hk|hk
  ·exact wpAny_loadName_cell I.ok.kind hk hc lz go
  ·rcases hx with k|k
   ·have:X.env.scope.names.lookup x=some .free:=hk;rw[k] at this;cases this
   ·have:X.env.scope.names.lookup x=some .free:=hk;rw[k] at this;cases this
def RT(c:TT)(tb:TS):TS:=λD U H=>∃W:Nat->St->Hp->Prop,(∃m,W m U H)/\∀m U H,W m U H ->
 c U H λb H1=>if b=true then ∃N:St->Hp->Prop,(∀bZ H',N bZ H'->∃m',m'<m/\W m' bZ H')/\tb { D with nx:=N,ct:=N,bk:=D.nx } U H1 else D.nx U H1
theorem a23{tc:TT}{tb:TS}(hp:PassesOwn (model X.prog X.w) X.A X.env X.xe)(hc:PT X c tc)(hb:jP X body tb):PS X (.While c body [] pos) (RT tc tb):=by
 intro pins s U H D I h;obtain⟨W,⟨m0,w0⟩,turn⟩:=h;refine wpAny_While (codeAny_whileLoop (λn s'=>∃bZ H',Inv X pins bZ H' s'/\W n bZ H') ?_ m0 ⟨U,H,I,w0⟩);rintro n s1 ⟨iL,H1,I1,w1⟩;refine eF hp (cQ (hc pins s1 iL H1 _ I1 (turn n iL H1 w1)) λb s2 ⟨H2,I2,q2⟩=>?_);cases b with
 |true =>
  obtain⟨N,hN,q2⟩:=q2;refine eF hp (cQ (hb pins s2 iL H2 _ I2 q2) λf s3 q3=>?_);cases f with
  |next =>
   obtain⟨iw,H3,I3,n3⟩:=q3;obtain⟨m',hm,w3⟩:=hN iw H3 n3;exact⟨m',hm,iw,H3,I3,w3⟩
  |cont =>
   obtain⟨iw,H3,I3,n3⟩:=q3;obtain⟨m',hm,w3⟩:=hN iw H3 n3;exact⟨m',hm,iw,H3,I3,w3⟩
  |brk=>exact q3
  |ret v=>exact q3
 |false =>
  exact tu ⟨iL,H2,I2,q2⟩
structure It where
 go:Nat->Hp->Prop
 pK:Nat->Hp->V->Hp->Prop
 stop:Nat->Hp->Prop
def C9(X:Cx)(pins:List (Addr×Obj))(H:Hp)(b:Addr):Prop :=
 H b=none/\b≠X.env.locals/\b∉X.fs/\(b∈X.ex\/X.dM.heap.objs.size<=b)/\(∀x c,X.env.cells.lookup x=some c->c≠b)/\∀p∈X.pn++pins,p.1≠b
theorem Inv.pz(I:Inv X pins U H s)(hb:s.heap.objs.size<=b)(hn:H' b=none):C9 X pins H' b:=by
 refine⟨hn,bW (ay I.lt hb),I.wb hb,.inr (aD I.sz hb),λx c e z=>?_,λp hp z=>?_⟩
 ·obtain⟨v,q⟩:=I.cell x c e;exact absurd (ay q.lt (by simp_all)) (bL _)
 ·exact absurd (ay (aA (I.pin p hp).1) (by simp_all)) (bL _)
structure Turn(P:Program)(w:World)(K:PySem.W.Frag)(tg:Expr)(J:It)(fp:List Addr)(it:Addr)(tn:Nat->Heap->Prop):Prop where
 mem:it∈fp
 obj:∀i h,tn i h->∀b∈fp,∃o,h.get? b=some o/\∀v,o.data≠.cell v
 keep:∀i h h',tn i h->(∀b∈fp,∀o,h.get? b=some o->h'.get? b=some o)->tn i h'
 item:∀(X:Cx),X.prog=P->X.w=w->X.K=K->X.calm=true->∀(i:Nat) (pins:List (Addr×Obj)) (s:Shared) (U:St) (H:Hp) (E:Value->Shared->Prop),Inv X pins U H s->(∀b∈fp,C9 X pins H b)->tn i s.heap->J.go i H ->
  wpAny (model P w) X.A (pyNext (.ref it)) (λr s1=>∃ u,r=some u /\
   wpAny (model P w) X.A (letOwnedTupleGo tg (.ref it) u) (λ_ s2=>∃ x H',Inv X pins U H' s2/\RelV x u/\J.pK i H x H'/\tn (i + 1) s2.heap/\∀ b ∈ fp,H' b=none) E s1) E s
 done:∀(X:Cx),X.prog=P->X.w=w->X.K=K->X.calm=true->∀(i:Nat) (pins:List (Addr×Obj)) (s:Shared) (U:St) (H:Hp) (E:Value->Shared->Prop),Inv X pins U H s->(∀b∈fp,C9 X pins H b)->tn i s.heap->J.stop i H ->
  wpAny (model P w) X.A (pyNext (.ref it)) (λr s1=>r=none/\Inv X pins U H s1) E s
 self:∀(A:Around) (i:Nat) (s:Shared) (Q:Value->Shared->Prop) (E:Value->Shared->Prop),tn i s.heap->Q (.ref it) s->wpAny (model P w) A (pyIter (.ref it)) Q E s
noncomputable abbrev TI:=St->Hp->(It->Hp->Prop)->Prop
def KC(X:Cx)(pins:List (Addr×Obj))(U:St)(tg:Expr)(R:It->Hp->Prop)(uH:Value)(s2:Shared):Prop :=
 ∃(it:Addr) (fp:List Addr) (tn:Nat->Heap->Prop) (J:It) (H':Hp),uH=.ref it/\Inv X pins U H' s2/\Turn X.prog X.w X.K tg J fp it tn/\tn 0 s2.heap/\(∀b∈fp,C9 X pins H' b)/\R J H'
def PI(X:Cx)(tg iter:Expr)(wi:TI):Prop :=
 ∀(pins:List (Addr×Obj)) (s:Shared) (U:St) (H:Hp) (R:It->Hp->Prop),Inv X pins U H s->wi U H R ->
  wpAny (model X.prog X.w) X.A (eval iter X.env) (λv s1=>wpAny (model X.prog X.w) X.A (pyIter v) (KC X pins U tg R) X.xe s1) X.xe s
theorem xN{it:Addr}{o:Obj}{n:String}{vs:Array Value}{Q:Unit->Shared->Prop}(ho:s.heap.get? it=some o)(hc:o.cls=.type n)(hd:o.data=.fields vs)(hn:["enumerate","zip","dict_itemiterator","dict_reverseitemiterator","odict_iterator","itertools.zip_longest","itertools.pairwise"].contains n=false)(hQ:Q Unit.unit s):wpAny M A (letOwnedTupleGo tg (.ref it) u) Q E s:=by
  cases tg<;>first
    |exact au hQ
    | (cases u <;> first
        |exact au hQ
        | (refine ab (wpAny_load ho ?_)
           rw[hc,hd];show wpAny M A (if(["enumerate","zip","dict_itemiterator","dict_reverseitemiterator","odict_iterator","itertools.zip_longest","itertools.pairwise"].contains n&&vs[0]?==some (rawInt _))=true then _ else _) Q E s;rw[aF (by intro h;rw[hn,Bool.false_and] at h;cases h)];exact au hQ))
def DU(K:PySem.W.Frag)(a:Addr):It :=
 ⟨λi H=>∃xs x,fO K H a xs/\xs[i]?=some x,λi H x H'=>H'=H/\∀xs,fO K H a xs->xs[i]?=some x,λi H=>∃xs,fO K H a xs/\xs.length<=i⟩
def DT(K:PySem.W.Frag)(a:Addr):It :=
 ⟨λi H=>∃xs x,jU K H a xs/\xs[i]?=some x,λi H x H'=>H'=H/\∀xs,jU K H a xs->xs[i]?=some x,λi H=>∃xs,jU K H a xs/\xs.length<=i⟩
def wq(lo:Int)(n:Nat):It:=⟨λi _=>i<n,λi H x H'=>H'=H/\x=.int (lo+i),λi _=>n<=i⟩
theorem Yt(a it:Addr):Turn P w K tg (DU K a) [it] it (λi h=>h.IsListIter it a i) where
 mem:=by simp
 obj:=λi h st b hb=>by
  have e:b=it:=by simpa using hb
  subst e;obtain⟨o,e,c,d⟩:=st;exact⟨o,e,λv z=>by simp_all⟩
 keep:=λi h h' st k=>st.at λo e=>k it (by simp) o e
 item:=by
  intro X hP hw hK hc i pins s U H E I hf st hg;subst hP hw hK;obtain⟨xs,x,hq,hx⟩:=hg;obtain⟨bp,rv,p,hz⟩:=I.list hq;obtain⟨u,hu,ru⟩:=rv.get hx;obtain⟨f0,f1,f2,f3,f4,f5⟩:=hf it (by simp);refine wpAny_pyNext_list_item st p.isList (x:=u) (by simpa using hu) λh' aZ sb=>?_;have I1:Inv X pins U H { s with heap:=h' }:=I.turned (t':=s.toks) (λb o hb e=>(sb.2 b hb).trans e) f0 f1 f3 f4 f5;obtain⟨o,e,c,d⟩:=id aZ;exact⟨u,rfl,xN (s:={ s with heap:=h' }) e c d ∅ ⟨x,H,I1,ru,⟨rfl,λys hy=>by rw[I.BR hy hq];exact hx⟩,aZ,λb hb=>(hf b hb).1⟩⟩
 done:=by
  intro X hP hw hK hc i pins s U H E I hf st hg;subst hP hw hK;obtain⟨xs,hq,hx⟩:=hg;obtain⟨bp,rv,p,hz⟩:=I.list hq;obtain⟨f0,f1,f2,f3,f4,f5⟩:=hf it (by simp);have hl:=rv.length;exact wpAny_pyNext_list_end (I.ok.hd hc) st p.isList (by simp;omega) λh' eb=>⟨rfl,I.turned (t':=s.toks) (λb o hb e=>eb b o hb e) f0 f1 f3 f4 f5⟩
 self:=λ_ _ _ _ _ st h=>wpAny_pyIter_listiter st h
theorem Ze(a it:Addr):Turn P w K tg (DT K a) [it] it (λi h=>h.IsTupleIter it a i) where
 mem:=by simp
 obj:=λi h st b hb=>by
  have e:b=it:=by simpa using hb
  subst e;obtain⟨o,e,c,d⟩:=st;exact⟨o,e,λv z=>by simp_all⟩
 keep:=λi h h' st k=>st.at λo e=>k it (by simp) o e
 item:=by
  intro X hP hw hK hc i pins s U H E I hf st hg;subst hP hw hK;obtain⟨xs,x,hq,hx⟩:=hg;obtain⟨bp,rv,p,hz⟩:=I.tuple hq;obtain⟨u,hu,ru⟩:=rv.get hx;obtain⟨f0,f1,f2,f3,f4,f5⟩:=hf it (by simp);refine wpAny_pyNext_tuple_item st (show s.heap.IsTuple a bp.toArray from p) (x:=u) (by simpa using hu) λh' aZ sb=>?_;have I1:Inv X pins U H { s with heap:=h' }:=I.turned (t':=s.toks) (λb o hb e=>(sb.2 b hb).trans e) f0 f1 f3 f4 f5;obtain⟨o,e,c,d⟩:=id aZ;exact⟨u,rfl,xN (s:={ s with heap:=h' }) e c d ∅ ⟨x,H,I1,ru,⟨rfl,λys hy=>by rw[I.Yr hy hq];exact hx⟩,aZ,λb hb=>(hf b hb).1⟩⟩
 done:=by
  intro X hP hw hK hc i pins s U H E I hf st hg;subst hP hw hK;obtain⟨xs,hq,hx⟩:=hg;obtain⟨bp,rv,p,hz⟩:=I.tuple hq;obtain⟨f0,f1,f2,f3,f4,f5⟩:=hf it (by simp);have hl:=rv.length;exact wpAny_pyNext_tuple_end (I.ok.hd hc) st (show s.heap.IsTuple a bp.toArray from p) (by simp;omega) λh' eb=>⟨rfl,I.turned (t':=s.toks) (λb o hb e=>eb b o hb e) f0 f1 f3 f4 f5⟩
 self:=λ_ _ _ _ _ st h=>wpAny_pyIter_tupleiter st h
theorem Zc(it:Addr)(lo:Int)(n:Nat):Turn P w K tg (wq lo n) [it] it (λi h=>IsRangeIter h it (lo+(i:Nat)*1) ((n:Int)-(i:Nat)) 1) where
 mem:=by simp
 obj:=λi h st b hb=>by
  have e:b=it:=by simpa using hb
  subst e;exact ⟨_,st,λv z=>by
   have z':Data.fields _=Data.cell v:=z;cases z'⟩
 keep:=λi h h' st k=>k it (by simp) _ st
 item:=by
  intro X hP hw hK hc i pins s U H E I hf st hg;subst hP hw hK;obtain⟨f0,f1,f2,f3,f4,f5⟩:=hf it (by simp);have W:=Walks.range (prog:=X.prog) (w:=X.w) (I.ok.hd hc) it lo 1 n;refine W.item i s _ _ hg st λv h' tk hv aZ kk=>?_;obtain⟨t,rfl⟩:=hv;have I1:Inv X pins U H { s with heap:=h',toks:=tk }:=I.turned (λb o hb e=>kk b o (by simpa using hb) e) f0 f1 f3 f4 f5;refine⟨_,rfl,xN (s:={ s with heap:=h',toks:=tk }) (n:="range_iterator") aZ rfl rfl ∅ ⟨.int (lo+i),H,I1,⟨t,?_⟩,⟨rfl,rfl⟩,aZ,λb hb=>(hf b hb).1⟩⟩;rw[Int.mul_one]
 done:=by
  intro X hP hw hK hc i pins s U H E I hf st hg;subst hP hw hK;obtain⟨f0,f1,f2,f3,f4,f5⟩:=hf it (by simp);exact wpAny_pyNext_range_end (I.ok.hd hc) st (by have:n<=i:=hg;omega) λh' eb=>⟨rfl,I.turned (t':=s.toks) (λb o hb e=>eb b o hb e) f0 f1 f3 f4 f5⟩
 self:=λ_ _ _ _ _ st h=>wpAny_pyIter_rangeiter st h
theorem JO{R:It->Hp->Prop}{lo hi:Int}{t u v:Tok}{tk:Nat}(I:Inv X pins U H s)(h1:-(2 ^ 62)<=lo)(h2:lo<2 ^ 62)(h3:-(2 ^ 62)<=hi)(h4:hi<2 ^ 62)(q:R (wq lo (hi-lo).toNat) H):wpAny (model X.prog X.w) X.A (pyIter (.ref s.heap.objs.size)) (KC X pins U tg R) E { s with heap:=s.heap.push { cls:=.type "range",data:=.fields #[.int lo t,.int hi u,.int 1 v] },toks:=tk }:=by
 refine wpAny_pyIter_range (IsRange.new ..) (small_one h1 h2 h3 h4) ?_;have I1:Inv X pins U H { s with heap:=s.heap.push { cls:=.type "range",data:=.fields #[.int lo t,.int hi u,.int 1 v] },toks:=tk }:=I.kept λb o e=>ao _ e;refine ⟨(s.heap.push { cls:=.type "range",data:=.fields #[.int lo t,.int hi u,.int 1 v] }).objs.size,[(s.heap.push { cls:=.type "range",data:=.fields #[.int lo t,.int hi u,.int 1 v] }).objs.size],_,_,H,rfl,
  I1.kept (t':=tk) λb o e=>ao _ e,Zc _ lo (hi - lo).toNat,?_,λb hb=>?_,q⟩
 ·have e1:lo+((0:Nat):Int)*1=lo:=by simp
  have e2:(((hi-lo).toNat:Nat):Int)-((0:Nat):Int)=Builtin.Range.rangeSize lo hi 1:=by rw[rangeSize_one];split<;>omega
  rw[e1,e2];exact aB _ rfl
 ·have e:b=(s.heap.push { cls:=.type "range",data:=.fields #[.int lo t,.int hi u,.int 1 v] }).objs.size:=by simpa using hb
  subst e;exact I1.pz (ai _) (I1.cu.fresh (ai _))
def We(ta:TA):TI:=λU H R=>ta U H λvs H1=>∃j:Int,vs=[.int j]/\-(2 ^ 62)<=j/\j<2 ^ 62/\R (wq 0 j.toNat) H1
def Wf(ta:TA):TI:=λU H R=>ta U H λvs H1=>∃i j:Int,vs=[.int i,.int j]/\(-(2 ^ 62)<=i/\i<2 ^ 62/\-(2 ^ 62)<=j/\j<2 ^ 62)/\R (wq i (j-i).toNat) H1
theorem Yg{a:Expr}{ta:TA}(hg:Gl X "range")(hm:X.mg "range"=none)(ha:PA X [a] ta)(hs:starEach [a] X.env=[(false,eval a X.env)]:=by rfl):PI X tg (.Call (.Name "range" p) [a] [] pos) (We ta):=by
 intro pins s U H R I h;refine Call_ (L8 I hg hm boot_range (bR (cQ (ha pos pins s U H _ I h) λus s1 bz=>?_) hs rfl));obtain⟨vs,H1,I1,r1,q1⟩:=bz;obtain⟨j,e,q1,q2,q⟩:=q1;subst e;cases r1 with
 |cons r rr =>
  cases rr;obtain⟨t,rfl⟩:=r;exact call_range_1 (JO I1 () () q1 q2 (by simpa using q))
theorem Yh{a b:Expr}{ta:TA}(hg:Gl X "range")(hm:X.mg "range"=none)(ha:PA X [a,b] ta)(hs:starEach [a,b] X.env=[(false,eval a X.env),(false,eval b X.env)]:=by rfl)(gi:starEach [b] X.env=[(false,eval b X.env)]:=by rfl) :
  PI X tg (.Call (.Name "range" p) [a,b] [] pos) (Wf ta):=by
 intro pins s U H R I h;refine Call_ (L8 I hg hm boot_range (bR (cQ (ha pos pins s U H _ I h) λus s1 bz=>?_) (by rw[hs,gi]) (by rw[gi];rfl)));obtain⟨vs,H1,I1,r1,q1⟩:=bz;obtain⟨i,j,e,⟨q1,q2,q3,q4⟩,q⟩:=q1;subst e;cases r1 with
 |cons r rr =>
  cases rr with
  |cons r' rr =>
   cases rr;obtain⟨t,rfl⟩:=r;obtain⟨t',rfl⟩:=r';exact call_range_2 (JO I1 q1 q2 q3 q4 q)
def Vs(wi:TI)(g:TG)(tb:TS):TS:=λD U H=>wi U H λJ H1=>∃W:Nat->Nat->St->Hp->Prop,(∃m,W 0 m U H1)/\∀i m U H,W i m U H ->
 (J.stop i H/\D.nx U H)\/(J.go i H/\∃N:St->Hp->Prop,(∀bZ H',N bZ H'->∃m',m'<m/\W (i+1) m' bZ H')/\∀x H',J.pK i H x H'->g x U H' λcC H2=>tb { D with nx:=N,ct:=N,bk:=D.nx } cC H2)
def X8(fp:List Addr)(h:Heap):List (Addr×Obj):=fp.filterMap λb=>(h.get? b).map λo=>(b,o)
theorem Q4{o:Obj}(hb:b∈fp)(e:h.get? b=some o):(b,o)∈X8 fp h:=La.mpr ⟨b,hb,by rw[e];rfl⟩
theorem XX{p:Addr×Obj}(hp:p∈X8 fp h):p.1∈fp/\h.get? p.1=some p.2:=by
 obtain⟨b,hb,e⟩:=La.mp hp;cases q:h.get? b with
 |none=>simp_all
 |some o =>
  rw[q] at e;have e':(b,o)=p:=aL e;subst e';exact⟨hb,q⟩
theorem Inv.pinned(I:Inv X pins U H s)(hf:∀b∈fp,C9 X pins H b)(ho:∀b∈fp,∃o,s.heap.get? b=some o/\∀v,o.data≠.cell v):Inv X (pins++X8 fp s.heap) U H s :=
 I.K6 λp hp=>(aO.mp hp).elim (λz=>I.pin p (aN _ z)) λz=>by
  obtain⟨hb,e⟩:=XX z;obtain⟨f0,f1,f2,_⟩:=hf p.1 hb;obtain⟨o,e',d⟩:=ho p.1 hb;rw[e] at e';cases e';exact⟨e,f0,f1,f2,d⟩
theorem Inv.BX{pl:List (Addr×Obj)}(I:Inv X (pins++pl) U H s):Inv X pins U H s:=I.K6 λp hp=>I.pin p (aN _ (bw _ hp))
theorem Rc{iter:Expr}{wi:TI}{g:TG}{tb:TS}(hp:PassesOwn (model X.prog X.w) X.A X.env X.xe)(hc:X.calm=true)(hi:PI X tg iter wi)(hg:PG X tg g)(hb:jP X body tb)(hs:∀x,foldedSetIterable iter X.env x=pure x:=by intro _;rfl):PS X (.For tg iter body [] pos) (Vs wi g tb):=by
 intro pins s U H D I h;refine wpAny_For (cQ (hi pins s U H _ I h) λv s1 h1=>cQ h1 λuH s2 h2=>?_) hs;obtain⟨it,fp,tn,J,H2,e,I2,T,fW,f2,W,⟨m0,w0⟩,turn⟩:=h2;subst e;have pN:∀{H':Hp},(∀b∈fp,H' b=none)->∀b∈fp,C9 X pins H' b:=λhn b hb=>⟨hn b hb,(f2 b hb).2⟩
 refine codeAny_forLoop_any (λn s'=>∃i bZ H',Inv X pins bZ H' s'/\tn i s'.heap/\(∀b∈fp,H' b=none)/\W i n bZ H') ?_ m0 ⟨0,U,H2,I2,fW,λb hb=>(f2 b hb).1,w0⟩;rintro n s3 ⟨i,iw,H3,I3,ji,pe,w3⟩;rcases turn i n iw H3 w3 with⟨stop,qn⟩|⟨go,N,hN,step⟩
 ·refine eF hp (cQ (T.done X rfl rfl rfl hc i pins s3 iw H3 X.xe I3 (pN pe) ji stop) λr s4 ⟨hr,I4⟩=>?_);subst hr;exact tu ⟨iw,H3,I4,qn⟩
 ·refine eF hp (cQ (T.item X rfl rfl rfl hc i pins s3 iw H3 X.xe I3 (pN pe) ji go) λr s4 ⟨u,hr,h4⟩=>?_);subst hr;refine eF hp (cQ h4 λ_ s5 bz=>?_);obtain⟨x,H5,I5,r5,y5,lM,vj⟩:=bz;have wt:=I5.pinned (pN vj) (T.obj _ _ lM);refine eF hp (cQ (hg _ s5 iw H5 x u _ wt r5 (step x H5 y5)) λ_ s6 bz=>?_);obtain⟨lJ,H6,I6,q6⟩:=bz;refine eF hp (cQ (hb _ s6 lJ H6 _ I6 q6) λf s7 q7=>?_);have again:∀{mG:St} {H7:Hp},Inv X (pins++X8 fp s5.heap) mG H7 s7->N mG H7->∃m,m<n/\∃i bZ H',Inv X pins bZ H' s7/\tn i s7.heap/\(∀b∈fp,H' b=none)/\W i m bZ H':=λ{mG H7} I7 n7=>by
   obtain⟨m',hm,w7⟩:=hN mG H7 n7;refine⟨m',hm,i+1,mG,H7,I7.BX,T.keep _ _ _ lM λb hb o e=>(I7.pin (b,o) (aN _ (aN _ (Q4 hb e)))).1,λb hb=>?_,w7⟩;obtain⟨o,e,d⟩:=T.obj _ _ lM b hb;exact(I7.pin (b,o) (aN _ (aN _ (Q4 hb e)))).2.1
  cases f with
  |next=>obtain⟨mG,H7,I7,n7⟩:=q7;exact again I7 n7
  |cont=>obtain⟨mG,H7,I7,n7⟩:=q7;exact again I7 n7
  |brk=>obtain⟨mG,H7,I7,q7⟩:=q7;exact⟨mG,H7,I7.BX,q7⟩
  |ret v=>obtain⟨x7,mG,H7,I7,r7,q7⟩:=q7;exact⟨x7,mG,H7,I7.BX,r7,q7⟩
noncomputable abbrev R2:=V->V->Hp->VK->Prop
def gn(X:Cx)(f:Value->Value->Sem Value)(r:R2):Prop :=
 ∀(pins:List (Addr×Obj)) (s:Shared) (U:St) (H:Hp) (x y:V) (v u:Value) (Q:VK),Inv X pins U H s->RelV x v->RelV y u->r x y H Q ->
  wpAny (model X.prog X.w) X.A (f v u) (EP X pins U Q) X.xe s
def yO(X:Cx)(f:Value->Sem Value)(r:V->Hp->VK->Prop):Prop :=
 ∀(pins:List (Addr×Obj)) (s:Shared) (U:St) (H:Hp) (x:V) (v:Value) (Q:VK),Inv X pins U H s->RelV x v->r x H Q ->
  wpAny (model X.prog X.w) X.A (f v) (EP X pins U Q) X.xe s
def n4(X:Cx)(f:Value)(r:List V->Hp->VK->Prop):Prop :=
 ∀(pins:List (Addr×Obj)) (s:Shared) (U:St) (H:Hp) (xs:List V) (us:List Value) (Q:VK),Inv X pins U H s->Vals xs us->r xs H Q ->
  wpAny (model X.prog X.w) X.A (call f us) (EP X pins U Q) X.xe s
def Uq(X:Cx)(r:V->Hp->(Bool->Hp->Prop)->Prop):Prop :=
 ∀(pins:List (Addr×Obj)) (s:Shared) (U:St) (H:Hp) (x:V) (v:Value) (Q:Bool->Hp->Prop),Inv X pins U H s->RelV x v->r x H Q ->
  wpAny (model X.prog X.w) X.A (truthy v) (TP X pins U Q) X.xe s
def rB(r:R2)(ta tb:TE):TE:=λU H Q=>ta U H λx H1=>tb U H1 λy H2=>r x y H2 Q
def Lj(r:V->Hp->VK->Prop)(ta:TE):TE:=λU H Q=>ta U H λx H1=>r x H1 Q
def rI(C:Int->Int->Prop)(g:Int->Int->V):R2:=λx y H Q=>∃i j,x=.int i/\y=.int j/\C i j/\Q (g i j) H
def mn(g:Int->Int->V):R2:=λx y H Q=>∃i j,x=.int i/\y=.int j/\Q (g i j) H
def rU(g:Int->V):V->Hp->VK->Prop:=λx H Q=>∃i,x=.int i/\Q (g i) H
section
variable{a b:Expr}
theorem DJ(ha:PE X a ta)(hb:PE X b tb){R:V->V->Hp->Prop}(I:Inv X pins U H s)(h:ta U H λx H1=>tb U H1 λy H2=>R x y H2){f:Value->Value->Sem Value}(hf:∀v u s2 x y H2,Inv X pins U H2 s2->RelV x v->RelV y u->R x y H2->wpAny (model X.prog X.w) X.A (f v u) Q X.xe s2) :
  wpAny (model X.prog X.w) X.A (eval a X.env) (λv bX=>wpAny (model X.prog X.w) X.A (eval b X.env) (λu gU=>wpAny (model X.prog X.w) X.A (f v u) Q X.xe gU) X.xe bX) X.xe s:=by
 refine cQ (ha pins s U H _ I h) λv s1 bz=>?_;obtain⟨x,H1,I1,r1,q1⟩:=bz;refine cQ (hb pins s1 U H1 _ I1 q1) λu s2 bz=>?_;obtain⟨y,H2,I2,r2,q2⟩:=bz;exact hf v u s2 x y H2 I2 r1 r2 q2
theorem OM{op:Operator}(ho:gn X (binaryOp op) r)(ha:PE X a ta)(hb:PE X b tb):PE X (.BinOp a op b pos) (rB r ta tb):=by
 intro pins s U H Q I h;exact wpAny_BinOp (DJ ha hb I h λv u s2 x y H2 I2 rx ry q=>ho pins s2 U H2 x y v u Q I2 rx ry q)
theorem OO{op:UnaryOp}{r:V->Hp->VK->Prop}(ho:yO X (unaryOp op) r)(ha:PE X a ta):PE X (.UnaryOp op a pos) (Lj r ta):=by
 intro pins s U H Q I h;exact UnaryOp_ (cQ (ha pins s U H _ I h) λv s1 ⟨x,H1,I1,r1,q1⟩=>ho pins s1 U H1 x v Q I1 r1 q1)
theorem ue{f:Value->Value->Sem Value}{C:Int->Int->Prop}{g:Int->Int->Int}(rule:∀(i j:Int) (t u:Tok) (s:Shared) (Q:Value->Shared->Prop) (E:Value->Shared->Prop),C i j->Q (.int (g i j) s.toks) { s with toks:=s.toks+1 }->wpAny (model X.prog X.w) X.A (f (.int i t) (.int j u)) Q E s) :
  gn X f (rI C λi j=>.int (g i j)):=by
 intro pins s U H x y v u Q I rx ry h;obtain⟨i,j,rfl,rfl,hc,q⟩:=h;obtain⟨t,rfl⟩:=rx;obtain⟨t',rfl⟩:=ry;exact rule i j t t' s _ _ hc ⟨.int (g i j),H,I.tok _,⟨_,rfl⟩,q⟩
theorem sP{f:Value->Value->Sem Value}{g:Int->Int->Int}(rule:∀(i j:Int) (t u:Tok) (s:Shared) (Q:Value->Shared->Prop) (E:Value->Shared->Prop),Q (.int (g i j) s.toks) { s with toks:=s.toks+1 }->wpAny (model X.prog X.w) X.A (f (.int i t) (.int j u)) Q E s) :
  gn X f (mn λi j=>.int (g i j)):=by
 intro pins s U H x y v u Q I rx ry h;obtain⟨i,j,rfl,rfl,q⟩:=h;obtain⟨t,rfl⟩:=rx;obtain⟨t',rfl⟩:=ry;exact rule i j t t' s _ _ ⟨.int (g i j),H,I.tok _,⟨_,rfl⟩,q⟩
theorem yM{f:Value->Value->Sem Value}{g:Int->Int->Bool}(rule:∀(i j:Int) (t u:Tok) (s:Shared) (Q:Value->Shared->Prop) (E:Value->Shared->Prop),Q (.bool (g i j)) s->wpAny (model X.prog X.w) X.A (f (.int i t) (.int j u)) Q E s) :
  gn X f (mn λi j=>.bl (g i j)):=by
 intro pins s U H x y v u Q I rx ry h;obtain⟨i,j,rfl,rfl,q⟩:=h;obtain⟨t,rfl⟩:=rx;obtain⟨t',rfl⟩:=ry;exact rule i j t t' s _ _ ⟨.bl (g i j),H,I,rfl,q⟩
def DD(i j:Int):Prop:=0<j/\j<1073741824
def oy(i j:Int):Prop:=0<=j/\j<=1000000/\i.natAbs<2 ^ 64
def qS(i j:Int):Prop:=(-(2 ^ 64)<i/\i<2 ^ 64)\/(-(2 ^ 64)<j/\j<2 ^ 64)
theorem qS.ok{i j:Int}(h:qS i j):IntMulOk i j:=by
 rcases h with⟨h1,h2⟩|⟨h1,h2⟩
 ·exact .of_left (intBits_le_64 h1 h2)
 ·exact .of_right (intBits_le_64 h1 h2)
theorem Qx:gn X (binaryOp .Add) (mn λi j=>.int (i+j)):=sP λ_ _ _ _ _ _ _ q=>add_int q
theorem QG:gn X (binaryOp .Sub) (mn λi j=>.int (i-j)):=sP λ_ _ _ _ _ _ _ q=>sub_int q
theorem QD:gn X (binaryOp .Mult) (rI qS λi j=>.int (i*j)):=ue λ_ _ _ _ _ _ _ hc q=>mul_int q hc.ok
theorem SS:gn X (binaryOp .FloorDiv) (rI DD λi j=>.int (i / j)):=ue λi j _ _ _ _ _ hc q=>by
 have h1:(0:Int)<j:=hc.1;have h2:j<1073741824:=hc.2;exact floordiv_int () (by rw[Int.fdiv_eq_ediv_of_nonneg i ()];exact q) (.inl (PyProof.noPylong_small ()))
theorem QC:gn X (binaryOp .Mod) (rI (λ_ j=>0<j) λi j=>.int (i % j)):=ue λi j _ _ _ _ _ hc q=>by
 exact mod_int' () (by rw[Int.fmod_eq_emod_of_nonneg i ()];exact q)
theorem QE:gn X (binaryOp .Pow) (rI oy λi j=>.int (i ^ j.toNat)):=ue λ_ _ _ _ _ _ _ hc q=>pow_int_small hc.1 hc.2.1 hc.2.2 q
theorem QF:gn X (binaryOp .LShift) (rI oy λi j=>.int (i*2 ^ j.toNat)):=ue λ_ _ _ _ _ _ _ hc q=>lshift_int_small hc.1 hc.2.1 hc.2.2 q
theorem Qy:gn X (binaryOp .BitAnd) (mn λi j=>.int (Builtin.bitAnd i j)):=sP λ_ _ _ _ _ _ _ q=>and_int q
theorem OG:gn X (binaryOp .BitOr) (mn λi j=>.int (Builtin.bitOr i j)):=sP λ_ _ _ _ _ _ _ q=>or_int q
theorem Sx:gn X (inplaceOp .Add) (mn λi j=>.int (i+j)):=sP λ_ _ _ _ _ _ _ q=>iadd_int q
theorem Sy:gn X (inplaceOp .Sub) (mn λi j=>.int (i-j)):=sP λ_ _ _ _ _ _ _ q=>isub_int q
theorem Li{f:Value->Sem Value}{g:Int->Int}(rule:∀(i:Int) (t:Tok) (s:Shared) (Q:Value->Shared->Prop) (E:Value->Shared->Prop),Q (.int (g i) s.toks) { s with toks:=s.toks+1 }->wpAny (model X.prog X.w) X.A (f (.int i t)) Q E s) :
  yO X f (rU λi=>.int (g i)):=by
 intro pins s U H x v Q I rx h;obtain⟨i,rfl,q⟩:=h;obtain⟨t,rfl⟩:=rx;exact rule i t s _ _ ⟨.int (g i),H,I.tok _,⟨_,rfl⟩,q⟩
theorem Sa:yO X (unaryOp .USub) (rU λi=>.int (-i)):=Li λ_ _ _ _ _ q=>neg_int q
end
def GO:V->V->Bool
 |.bO,.bO=>true|.bO,.int _=>true|.int _,.bO=>true|.bO,.bl _=>true|.bl _,.bO=>true|.bO,.str _=>true|.str _,.bO=>true
 |.int _,.int _=>true|.bl _,.bl _=>true|.str _,.str _=>true|.lD _,.lD _=>true
 |.int _,.str _=>true|.str _,.int _=>true|.bl _,.str _=>true|.str _,.bl _=>true
 |_,_=>false
def Lz:R2:=λx y H Q=>GO x y=true/\Q (.bl (decide (x=y))) H
def Ly:R2:=λx y H Q=>GO x y=true/\Q (.bl (!decide (x=y))) H
theorem IZ{i j:Int}:decide (V.int i=V.int j)=(i==j):=by
 rw[bg];simp
theorem xY{i j:Bool}:decide (V.bl i=V.bl j)=(i==j):=by
 rw[bg];simp
theorem Ja{i j:Str}:decide (V.str i=V.str j)=(i==j):=by
 rw[bg];simp
theorem IY{i j:Array UInt8}:decide (V.lD i=V.lD j)=(i.toList==j.toList):=by
 rw[bg];simp
section
variable{a b:Expr}{tc:TE}
theorem k4{Q:VK}{k k':Bool}(I:Inv X pins U H s)(q:Q (.bl k) H)(e:k=k'):EP X pins U Q (.bool k') s:=by
 subst e;exact⟨.bl k,H,I,rfl,q⟩
theorem CQ:gn X (compareOp .Eq) Lz:=by
 intro pins s U H x y v u Q I rx ry h;obtain⟨hs,q⟩:=h;cases x with
 |bO =>
  cases rx;cases y with
  |bO=>cases ry;exact PySem.EqNone.eq_none_none (k4 I q (by simp))
  |bl j=>cases ry;exact PySem.EqNone.eq_none_bool (k4 I q (by simp))
  |int j=>obtain⟨t',rfl⟩:=ry;exact PySem.EqNone.eq_none_int (k4 I q (by simp))
  |str j=>obtain⟨t',rfl⟩:=ry;exact PySem.EqNone.eq_none_str (k4 I q (by simp))
  |_=>exact absurd (show false=true from hs) Bool.false_ne_true
 |bl i =>
  cases rx;cases y with
  |bO=>cases ry;exact PySem.EqNone.eq_bool_none (k4 I q (by simp))
  |bl j=>cases ry;exact eq_bool (k4 I q xY)
  |str j=>obtain⟨t',rfl⟩:=ry;exact PySem.EqMixed.eq_bool_str (k4 I q (by simp))
  |_=>exact absurd (show false=true from hs) Bool.false_ne_true
 |int i =>
  obtain⟨t,rfl⟩:=rx;cases y with
  |bO=>cases ry;exact PySem.EqNone.eq_int_none (k4 I q (by simp))
  |int j=>obtain⟨t',rfl⟩:=ry;exact eq_int (k4 I q IZ)
  |str j=>obtain⟨t',rfl⟩:=ry;exact PySem.EqMixed.eq_int_str (k4 I q (by simp))
  |_=>exact absurd (show false=true from hs) Bool.false_ne_true
 |str i =>
  obtain⟨t,rfl⟩:=rx;cases y with
  |bO=>cases ry;exact PySem.EqNone.eq_str_none (k4 I q (by simp))
  |bl j=>cases ry;exact PySem.EqMixed.eq_str_bool (k4 I q (by simp))
  |int j=>obtain⟨t',rfl⟩:=ry;exact PySem.EqMixed.eq_str_int (k4 I q (by simp))
  |str j=>obtain⟨t',rfl⟩:=ry;exact eq_str (k4 I q Ja)
  |_=>exact absurd (show false=true from hs) Bool.false_ne_true
 |lD i =>
  obtain⟨t,rfl⟩:=rx;cases y with
  |lD j=>obtain⟨t',rfl⟩:=ry;exact PySem.W.eq_bytes (k4 I q IY)
  |_=>exact absurd (show false=true from hs) Bool.false_ne_true
 |_=>cases y<;>exact absurd (show false=true from hs) jX
theorem CS:gn X (compareOp .NotEq) Ly:=by
 intro pins s U H x y v u Q I rx ry h;obtain⟨hs,q⟩:=h;cases x with
 |bO =>
  cases rx;cases y with
  |bO=>cases ry;exact PySem.EqNone.ne_none_none (k4 I q (by simp))
  |bl j=>cases ry;exact PySem.EqNone.ne_none_bool (k4 I q (by simp))
  |int j=>obtain⟨t',rfl⟩:=ry;exact PySem.EqNone.ne_none_int (k4 I q (by simp))
  |str j=>obtain⟨t',rfl⟩:=ry;exact PySem.EqNone.ne_none_str (k4 I q (by simp))
  |_=>exact absurd (show false=true from hs) Bool.false_ne_true
 |bl i =>
  cases rx;cases y with
  |bO=>cases ry;exact PySem.EqNone.ne_bool_none (k4 I q (by simp))
  |bl j=>cases ry;exact ne_bool (k4 I q (congrArg not xY))
  |str j=>obtain⟨t',rfl⟩:=ry;exact PySem.EqMixed.ne_bool_str (k4 I q (by simp))
  |_=>exact absurd (show false=true from hs) Bool.false_ne_true
 |int i =>
  obtain⟨t,rfl⟩:=rx;cases y with
  |bO=>cases ry;exact PySem.EqNone.ne_int_none (k4 I q (by simp))
  |int j=>obtain⟨t',rfl⟩:=ry;exact ne_int (k4 I q (congrArg not IZ))
  |str j=>obtain⟨t',rfl⟩:=ry;exact PySem.EqMixed.ne_int_str (k4 I q (by simp))
  |_=>exact absurd (show false=true from hs) Bool.false_ne_true
 |str i =>
  obtain⟨t,rfl⟩:=rx;cases y with
  |bO=>cases ry;exact PySem.EqNone.ne_str_none (k4 I q (by simp))
  |bl j=>cases ry;exact PySem.EqMixed.ne_str_bool (k4 I q (by simp))
  |int j=>obtain⟨t',rfl⟩:=ry;exact PySem.EqMixed.ne_str_int (k4 I q (by simp))
  |str j=>obtain⟨t',rfl⟩:=ry;exact ne_str (k4 I q (congrArg not Ja))
  |_=>exact absurd (show false=true from hs) Bool.false_ne_true
 |lD i =>
  obtain⟨t,rfl⟩:=rx;cases y with
  |lD j=>obtain⟨t',rfl⟩:=ry;exact PySem.W.ne_bytes (k4 I q (congrArg not IY))
  |_=>exact absurd (show false=true from hs) Bool.false_ne_true
 |_=>cases y<;>exact absurd (show false=true from hs) jX
theorem OF:gn X (compareOp .Lt) (mn λi j=>.bl (decide (i<j))):=yM λ_ _ _ _ _ _ _ q=>lt_int q
theorem OE:gn X (compareOp .LtE) (mn λi j=>.bl (decide (i<=j))):=yM λ_ _ _ _ _ _ _ q=>le_int q
theorem OD:gn X (compareOp .Gt) (mn λi j=>.bl (decide (j<i))):=yM λ_ _ _ _ _ _ _ q=>gt_int q
theorem OC:gn X (compareOp .GtE) (mn λi j=>.bl (decide (j<=i))):=yM λ_ _ _ _ _ _ _ q=>ge_int q
theorem QB:gn X (compareOp .Is) (λx y H Q=>y=.bO/\Q (.bl (decide (x=.bO))) H):=by
 intro pins s U H x y v u Q I rx ry h;obtain⟨rfl,q⟩:=h;cases ry;refine is_none_gen (k4 I q ?_);cases x<;>first
  |(cases rx;rfl)
  |(obtain⟨t,rfl⟩:=rx;rfl)
theorem SU:gn X (compareOp .IsNot) (λx y H Q=>y=.bO/\Q (.bl (!decide (x=.bO))) H):=by
 intro pins s U H x y v u Q I rx ry h;obtain⟨rfl,q⟩:=h;cases ry;refine isnot_none_gen (k4 I q ?_);cases x<;>first
  |(cases rx;rfl)
  |(obtain⟨t,rfl⟩:=rx;rfl)
theorem Tb(ho:gn X (compareOp op) r)(ha:PE X a ta)(hb:PE X b tb)(hm:behindInMarks op b=false):PE X (.Compare a [op] [b] pos) (rB r ta tb):=by
 intro pins s U H Q I h;exact wpAny_Compare1 (DJ ha hb I h λv u s2 x y H2 I2 rx ry q=>ho pins s2 U H2 x y v u Q I2 rx ry q) hm
def Dd(t:TE):TT:=λU H Q=>t U H λx H'=>∃k,x=.bl k/\Q k H'
theorem Tp(ho:gn X (compareOp op) r)(ha:PE X a ta)(hb:PE X b tb)(hm:behindInMarks op b=false):PT X (.Compare a [op] [b] pos) (Dd (rB r ta tb)):=by
 intro pins s U H Q I h;refine wpAny_isTrue_Compare1 (cQ (ha pins s U H _ I h) λv s1 ⟨x,H1,I1,r1,q1⟩=>cQ (hb pins s1 U H1 _ I1 q1) λu s2 ⟨y,H2,I2,r2,q2⟩ =>
  cQ (ho pins s2 U H2 x y v u _ I2 r1 r2 q2) λc s3 ⟨z,H3,I3,r3,k,e,q3⟩=>?_) hm
 subst e;cases r3;exact cL ⟨H3,I3,q3⟩
def Bm(r r':R2)(ta tb tc:TE):TE:=λU H Q=>ta U H λx H1=>tb U H1 λy H2=>r x y H2 λz H3=>∃k,z=.bl k /\
 (if k=true then tc U H3 λw' H4=>r' y w' H4 Q else Q (.bl false) H3)
theorem a31{ij:CmpOp}{r':R2}(ho:gn X (compareOp op) r)(mx:gn X (compareOp ij) r')(ha:PE X a ta)(hb:PE X b tb)(hc:PE X c tc)(hm:lastMarks [op,ij] [b,c]=false:=by with_unfolding_all rfl):PE X (.Compare a [op,ij] [b,c] pos) (Bm r r' ta tb tc):=by
 intro pins s U H Q I h;refine Compare_chain (cQ (ha pins s U H _ I h) λv s1 ⟨x,H1,I1,r1,q1⟩=>chain_link (cQ (hb pins s1 U H1 _ I1 q1) λu s2 ⟨y,H2,I2,r2,q2⟩ =>
  cQ (ho pins s2 U H2 x y v u _ I2 r1 r2 q2) λd s3 ⟨z,H3,I3,r3,k,e,q3⟩=>?_)) hm
 subst e;cases r3;refine cL ?_;cases k with
 |false=>exact ite_ff ⟨.bl false,H3,I3,rfl,q3⟩
 |true=>exact ite_tt (chain_last (cQ (hc pins s3 U H3 _ I3 q3) λw' s4 ⟨z',H4,I4,r4,q4⟩=>mx pins s4 U H4 y z' u w' Q I4 r2 r4 q4))
theorem a21{ij:CmpOp}{r':R2}(ho:gn X (compareOp op) r)(mx:gn X (compareOp ij) r')(ha:PE X a ta)(hb:PE X b tb)(hc:PE X c tc)(hm:lastMarks [op,ij] [b,c]=false:=by with_unfolding_all rfl):PT X (.Compare a [op,ij] [b,c] pos) (Dd (Bm r r' ta tb tc)):=by
 intro pins s U H Q I h;refine isTrue_chain (cQ (ha pins s U H _ I h) λv s1 ⟨x,H1,I1,r1,q1⟩=>test_link (cQ (hb pins s1 U H1 _ I1 q1) λu s2 ⟨y,H2,I2,r2,q2⟩ =>
  cQ (ho pins s2 U H2 x y v u _ I2 r1 r2 q2) λd s3 ⟨z,H3,I3,r3,k,e,q3⟩=>?_)) hm
 subst e;cases r3;refine cL ?_;cases k with
 |false =>
  obtain⟨k',e',q'⟩:=q3;cases e';exact ite_ff ⟨H3,I3,q'⟩
 |true =>
  refine ite_tt (test_last (cQ (hc pins s3 U H3 _ I3 q3) λw' s4 ⟨z',H4,I4,r4,q4⟩=>cQ (mx pins s4 U H4 y z' u w' _ I4 r2 r4 q4) λd' s5 bz=>?_));obtain⟨z2,H5,I5,r5,k2,e2,q5⟩:=bz;subst e2;cases r5;exact cL ⟨H5,I5,q5⟩
def DG(K:PySem.W.Frag)(x:V)(H:Hp)(k:Bool):Prop :=
 match x with
 |.bO=>k=false
 |.bl b=>k=b
 |.int i=>k=(i != 0)
 |.str y=>y.length<=sizeLine/\k=((y.length:Int) != 0)
 |.lD y=>y.size<=sizeLine/\k=((y.size:Int) != 0)
 |.ref p=>(∃xs,fO K H p xs/\k=!xs.isEmpty)\/(∃xs,jU K H p xs/\k=!xs.isEmpty)\/∃kvs,H p=some (.dK kvs)/\k=!kvs.isEmpty
 |_=>False
theorem YG{κ:Type}{kvs:List (κ×V)}{vs:List (κ×Value)}(r:KV kvs vs):(!vs.isEmpty)=!kvs.isEmpty:=by
 cases r<;>rfl
theorem HG{bp:List Value}(r:Vals xs bp):(!bp.toArray.isEmpty)=!xs.isEmpty:=by
 cases r<;>simp
theorem ya:(sizeLine:Nat)<2 ^ 63:=by rw[rj];decide
theorem RY:Uq X (λx H Q=>∃k,DG X.K x H k/\Q k H):=by
 intro pins s U H x v Q I rx h;obtain⟨k,e,q⟩:=h;have hs:sizeLine=16777216:=rj;cases x with
 |bO =>
  cases rx;have e':k=false:=e;subst e';exact truthy_none ⟨H,I,q⟩
 |bl b =>
  cases rx;have e':k=b:=e;subst e';exact cL ⟨H,I,q⟩
 |int i =>
  obtain⟨t,rfl⟩:=rx;have e':k=(i != 0):=e;subst e';exact PySem.P.truthy_int ⟨H,I,q⟩
 |str y =>
  obtain⟨t,rfl⟩:=rx;obtain⟨hy,e'⟩:y.length<=sizeLine/\k=((y.length:Int) != 0):=e;subst e';exact PySem.P.truthy_str () ⟨H,I.tok _,q⟩
 |lD y =>
  obtain⟨t,rfl⟩:=rx;obtain⟨hy,e'⟩:y.size<=sizeLine/\k=((y.size:Int) != 0):=e;subst e';exact PySem.W.truthy_bytes () ⟨H,I.tok _,q⟩
 |ref p =>
  cases rx;have e':(∃xs,fO X.K H p xs/\k=!xs.isEmpty)\/(∃xs,jU X.K H p xs/\k=!xs.isEmpty)\/∃kvs,H p=some (.dK kvs)/\k=!kvs.isEmpty:=e;rcases e' with⟨xs,hx,e'⟩|⟨xs,hx,e'⟩|⟨kvs,hx,e'⟩
  ·subst e';obtain⟨bp,r,pl,hz⟩:=I.list hx;have hlen:=r.length;exact wpAny_truthy_list pl.isList (by simp only[List.size_toArray];omega) ⟨H,I.tok _,by rw[HG r];exact q⟩
  ·subst e';obtain⟨bp,r,pl,hz⟩:=I.tuple hx;have hlen:=r.length;exact truthy_tuple pl (by simp only[List.size_toArray];omega) ⟨H,I.tok _,by rw[HG r];exact q⟩
  ·subst e';obtain⟨hz,hS,vs,r,m⟩:kvs.length<=sizeLine/\(p==sysModules)=false/\∃vs,KV kvs vs/\s.heap.DictOf (u4 X.prog X.w) p vs:=I.cu p _ hx;have hlen:kvs.length=vs.length:=lZ r;exact wpAny_truthy_dict hS m () ⟨H,I.tok _,by rw[YG r];exact q⟩
 |_=>exact(show False from e).elim
theorem a20(ha:PE X a ta)(he:∀whole,isTrue a X.env whole=(do let v <- whole;standAt a.pos;holding [v] (truthy v))) :
  PT X a (λU H Q=>ta U H λx H'=>∃k,DG X.K x H' k/\Q k H'):=by
 intro pins s U H Q I h;exact isTrue_plain (cQ (ha pins s U H _ I h) λv s1 ⟨x,H1,I1,r1,q1⟩=>RY pins s1 U H1 x v Q I1 r1 q1) (he _)
theorem vals1{x:V}(r:Vals [x] us):∃u,us=[u]/\RelV x u:=by
 cases r with
 |cons r1 r2=>cases r2;exact⟨_,rfl,r1⟩
theorem vals2{x y:V}(r:Vals [x,y] us):∃u w',us=[u,w']/\RelV x u/\RelV y w':=by
 cases r with
 |cons r1 r2 =>
  cases r2 with
  |cons r3 r4=>cases r4;exact⟨_,_,rfl,r1,r3⟩
theorem Xu(hc:X.calm=true):n4 X (.builtin "max") (λxs H Q=>∃i j,xs=[.int i,.int j]/\Q (.int (if j>i then j else i)) H):=by
 intro pins s U H xs us Q I r h;obtain⟨i,j,rfl,q⟩:=h;obtain⟨u,w',rfl,⟨t,rfl⟩,⟨t',rfl⟩⟩:=vals2 r;refine max_two_ints (I.ok.hd hc) λh' tk k=>⟨_,H,I.kept k,?_,q⟩
 by_cases hj:j>i
 ·rw[aJ hj,aJ hj];exact⟨_,rfl⟩
 ·rw[aF hj,aF hj];exact⟨_,rfl⟩
theorem Xw(hc:X.calm=true):n4 X (.builtin "min") (λxs H Q=>∃i j,xs=[.int i,.int j]/\Q (.int (if j<i then j else i)) H):=by
 intro pins s U H xs us Q I r h;obtain⟨i,j,rfl,q⟩:=h;obtain⟨u,w',rfl,⟨t,rfl⟩,⟨t',rfl⟩⟩:=vals2 r;refine min_two_ints (I.ok.hd hc) λh' tk k=>⟨_,H,I.kept k,?_,q⟩
 by_cases hj:j<i
 ·rw[aJ hj,aJ hj];exact⟨_,rfl⟩
 ·rw[aF hj,aF hj];exact⟨_,rfl⟩
theorem Hd:n4 X (.type "int") (λxs H Q=>(∃i,xs=[.int i]/\Q (.int i) H)\/∃k,xs=[.bl k]/\Q (.int (if k then 1 else 0)) H):=by
 intro pins s U H xs us Q I r h;rcases h with⟨i,rfl,q⟩|⟨k,rfl,q⟩
 ·obtain⟨u,rfl,t,rfl⟩:=vals1 r;exact call_int_int ⟨.int i,H,I,⟨_,rfl⟩,q⟩
 ·obtain⟨u,rfl,r1⟩:=vals1 r;cases r1;exact call_int_bool ⟨.int (if k then 1 else 0),H,I.tok _,⟨_,rfl⟩,q⟩
end
structure sG(h:Heap)(x dx C:Addr)(mA:Str->Option Value):Prop where
 obj:h.get? x=some (PySem.W.instObj C dx)
 ns:h.Ns1 dx mA
 ne:dx≠x
theorem Hm{mA:Str->Option Value}(n:h.Ns1 dx mA):∃od,h.get? dx=some od/\∀name,PySem.W.lookIn name od=some (mA name):=by
 obtain⟨o,es,ep,ho,hd,hk,_,hm⟩:=n;refine⟨o,ho,λname=>?_⟩;have e:=hm name;unfold nsFind findBy at e;rw[<- Array.find?_toList] at e;unfold PySem.W.lookIn;rw[hd];dsimp only;split
 ·rename_i y q;rw[q] at e;exact gp some e
 ·rename_i q;rw[q] at e;have a:es.toList.any (·.refKey)=false:=by
   rw[List.any_eq_false];intro y hy;obtain⟨z,t,fX⟩:=hk y (Array.mem_toList_iff.mp hy);simp[DictEntry.refKey,fX]
  have a':¬es.toList.any (·.refKey)=true:=by rw[a];exact jX
  rw[aF a'];exact gp some e
theorem sG.look{x:Addr}{mA:Str->Option Value}(I:sG h x dx C mA):∃od,PySem.W.InstAt h x (PySem.W.instObj C dx) C (some od)/\∀name,PySem.W.lookIn name od=some (mA name) :=
 let ⟨od,ho,hl⟩:=Hm I.ns
 ⟨od,⟨I.obj,rfl,rfl,ho⟩,hl⟩
section
variable{prog:Program}{x:Addr}{mA:Str->Option Value}{name:Str}{v:Value}
theorem get_map{expr:Bool}(X:K.In s.heap)(I:sG s.heap x dx C mA)(hg:PySem.W.plainGet K C name=true)(hh:PySem.W.hasDictIn K C=true)(ha:PySem.W.findIn K (.ref C) name=some none)(hv:mA name=some v)(zK:PySem.W.handedIn v=true)(h:Q v { s with toks:=s.toks+1 }) :
  wpAny (model prog w) A (getAttr (.ref x) name expr) Q E s:=by
 obtain⟨od,J,hl⟩:=I.look;exact PySem.W.get_value X J (PySem.W.plainGet_of hg).1 (PySem.W.findObj_own hh ha rfl (by rw[hl,hv])) zK h
theorem TY{ns:List Str}{Q:Unit->Shared->Prop}(X:K.In s.heap)(I:sG s.heap x dx C mA)(hs:PySem.W.findIn K (.ref C) "__setattr__"=some (some (.builtin "object.__setattr__")))(hp:PySem.W.plainOver K C=true)(ht:PySem.W.takerIn K C name=some none)(hh:PySem.W.hasDictIn K C=true)(hw:PySem.Within mA ns)(hsz:ns.length<=sizeLine)(h:∀h',sG h' x dx C (λy=>if y=name then some v else mA y)->Heap.SameBut dx s.heap h'->Q Unit.unit { s with heap:=h',toks:=s.toks+2 }) :
  wpAny (model prog w) A (setAttr (.ref x) name v) Q E s:=by
 obtain⟨od,J,hl⟩:=I.look;refine PySem.W.set_plain X J hs (PySem.W.osa_open (s:={ s with toks:=s.toks+1 }) (r:=none) X J hp ht λb=>?_);obtain⟨cd,hc,FI⟩:=PySem.W.any_some hh;have hx:s.heap.get? x=some ⟨.ref C,some dx,.plain,#[]⟩:=I.obj;refine ab (au (ab (ab (wpAny_loadPart hx (ab (PySem.W.Looks.here (s:={ s with toks:=s.toks+1 }) (PySem.W.looks_clsIn X hc) ?_))))));rw[FI];refine au (a:=some dx) (ab (au (ab ?_)));refine wpAny_nsSet1 (s:={ s with toks:=s.toks+1 }) I.ns λh' my gi=>?_;obtain⟨oD,esD,epD,MA,MR,MV⟩:=my.count (PySem.Within.cons name v hw);refine ab (wpAny_lookBehind MA (by rw[MR];exact pastItsLine_dict (aD MV (by grind))) ?_);exact au (h _ ⟨(gi.2 _ (cw I.ne)).trans I.obj,my,I.ne⟩ gi)
theorem a36{R:Result->Shared->Prop}{vs:List Value}{kw:List (Str×Value)}(X:K.In s.heap)(hm:PySem.W.makesIn K C=true)(hi:PySem.W.findIn K (.ref C) "__init__"=some (some (.ref f)))(hf:PySem.W.typeIn K (.ref f)=some (.type "function"))(h:codeAny (model prog w) (A.under (.builtin "type.__call__" ⟨.ref C :: vs,kw⟩)) (.call (.ref f) ⟨.ref (s.heap.objs.size + 1) :: vs,kw⟩) (PySem.W.InitBack (s.heap.objs.size + 1) R)
   { s with heap:=(s.heap.push PySem.W.emptyDict).push (PySem.W.instObj C s.heap.objs.size) }) :
  codeAny (model prog w) A (.call (.ref C) ⟨vs,kw⟩) R s:=by
 exact PySem.W.make_core (PySem.W.makes_of X hm) (PySem.W.looks_findIn X hi) (λself=>PySem.W.bind_fn X self hf) (.inl rfl) h
end
def A9(f:Str)(v:V):List (Str×V)->List (Str×V)
 |[]=>[(f,v)]
 |(g,x)::r=>if g=f then(g,v)::r else(g,x)::A9 f v r
theorem Ib(f g:Str)(v:V):∀fs:List (Str×V),(A9 f v fs).lookup g=if g=f then some v else fs.lookup g
 |[]=>by
  show List.lookup g [(f,v)]=_;by_cases h:g=f
  ·have hb:(g==f)=true:=bx.mpr h;simp only[List.lookup,hb,if_pos h]
  ·have hb:(g==f)=false:=eO.mpr h;simp only[List.lookup,hb,if_neg h]
 |(k,x)::r=>by
  have ih:=Ib f g v r;rw[show A9 f v ((k,x)::r)=(if k=f then(k,v)::r else(k,x)::A9 f v r) from rfl];by_cases hk:k=f
  ·rw[aJ hk];by_cases h:g=k
   ·have hb:(g==k)=true:=bx.mpr h;simp only[List.lookup,hb,if_pos (h.trans hk)]
   ·have hb:(g==k)=false:=eO.mpr h;simp only[List.lookup,hb,if_neg (λe:g=f=>h (e.trans hk.symm))]
  ·rw[aF hk];by_cases h:g=k
   ·have hb:(g==k)=true:=bx.mpr h;simp only[List.lookup,hb,if_neg (λe:g=f=>hk (h.symm.trans e))]
   ·have hb:(g==k)=false:=eO.mpr h;simp only[List.lookup,hb];exact ih
theorem Cc(f:Str)(v:V):∀fs:List (Str×V),f∈(A9 f v fs).map (·.1)/\∀g,g∈fs.map (·.1)->g∈(A9 f v fs).map (·.1)
 |[]=>⟨by simp[A9],λg h=>by simp at h⟩
 |(k,x)::r=>by
  obtain⟨i1,i2⟩:=Cc f v r;rw[show A9 f v ((k,x)::r)=(if k=f then(k,v)::r else(k,x)::A9 f v r) from rfl];by_cases hk:k=f
  ·rw[aJ hk]
   grind
  ·rw[aF hk];refine⟨?_,λg h=>?_⟩
   ·exact bu _ i1
   ·rcases aG.mp h with e|e
    ·exact aG.mpr (.inl e)
    ·exact bu _ (i2 g e)
theorem HZ(f:Str)(v:V):∀fs:List (Str×V),(A9 f v fs).length<=fs.length+1
 |[]=>by simp[A9]
 |(k,x)::r=>by
  have ih:=HZ f v r;rw[show A9 f v ((k,x)::r)=(if k=f then(k,v)::r else(k,x)::A9 f v r) from rfl]
  grind
theorem I9.some_of{o:Option Value}(r:I9 (some v) o):∃u,o=some u/\RelV v u:=by
 cases o with
 |none=>exact(show False from r).elim
 |some u=>exact⟨u,rfl,r⟩
theorem XG(r:RelV v u):PySem.W.handedIn u=true:=by
 cases v with
 |bO=>cases (show u=Value.none from r);rfl
 |bl b=>cases (show u=Value.bool b from r);rfl
 |int i=>obtain⟨t,e⟩:=(show ∃t,u=Value.int i t from r);cases e;rfl
 |str x=>obtain⟨t,e⟩:=(show ∃t,u=Value.str x t from r);cases e;rfl
 |lD b=>obtain⟨t,e⟩:=(show ∃t,u=Value.bytes b t from r);cases e;rfl
 |qN b=>obtain⟨t,e⟩:=(show ∃t,u=Value.float b t from r);cases e;rfl
 |ref a=>cases (show u=Value.ref a from r);rfl
 |ty n=>cases (show u=Value.type n from r);rfl
section
variable{fs:List (Str×V)}
theorem BC(cu:gE P w H h)(e:H a=some (.ins C dx fs)):∃mA,sG h a dx C mA/\(∀f,I9 (fs.lookup f) (mA f))/\PySem.Within mA (fs.map (·.1))/\fs.length<=1000/\H dx=some (.own a):=by
 obtain⟨d,z,ne,ob,mA,n,r,q⟩:=(show o6 P w H h a (.ins C dx fs) from cu a _ e)
 exact⟨mA,⟨ob,n,ne⟩,r,q,z,d⟩
end
structure jV(K:PySem.W.Frag)(C:Addr):Prop where
 pg:PySem.W.plainGet K C Str.empty=true
 hd:PySem.W.hasDictIn K C=true
 po:PySem.W.plainOver K C=true
 sa:PySem.W.findIn K (.ref C) "__setattr__"=some (some (.builtin "object.__setattr__"))
theorem jV.get(c:jV K C)(f:Str):PySem.W.plainGet K C f=true:=c.pg
def C0(K:PySem.W.Frag)(C:Addr)(f:Str):Prop:=PySem.W.findIn K (.ref C) f=some none
theorem C0.Pl{f:Str}(n:C0 K C f):PySem.W.takerIn K C f=some none:=by
 unfold PySem.W.takerIn;rw[show PySem.W.findIn K (.ref C) f=some none from n]
 rfl
structure Meth(K:PySem.W.Frag)(C:Addr)(m:Str)(f:Addr):Prop where
 at_:PySem.W.findIn K (.ref C) m=some (some (.ref f))
 fn:PySem.W.isFn K (.ref f)=true
 kp:PySem.W.keepIn K (.ref f)=true
section
variable{fs:List (Str×V)}{f:Str}
theorem YD{b:Bool}(I:Inv X pins U H s)(e:H a=some (.ins C dx fs))(c:jV X.K C)(n:C0 X.K C f)(l:fs.lookup f=some v)(h:∀u s',Inv X pins U H s'->RelV v u->Q u s'):wpAny (model X.prog X.w) A (getAttr (.ref a) f b) Q E s:=by
 obtain⟨mA,O,r,_,_,_⟩:=BC I.cu e;obtain⟨u,hu,ru⟩:=I9.some_of (v:=v) (o:=mA f) (by rw[<- l];exact r f);exact get_map I.hJ O (c.get f) c.hd n hu (XG ru) (h u _ (I.tok _) ru)
theorem YW{y:V}{Q:Unit->Shared->Prop}(I:Inv X pins U H s)(e:H a=some (.ins C dx fs))(c:jV X.K C)(n:C0 X.K C f)(hl:fs.length<1000)(ry:RelV y u)(h:∀s',Inv X pins U (upd H a (.ins C dx (A9 f y fs))) s'->Q Unit.unit s'):wpAny (model X.prog X.w) A (setAttr (.ref a) f u) Q E s:=by
 obtain⟨mA,O,r,wi,_,ho⟩:=BC I.cu e;have hz:(fs.map (·.1)).length<=sizeLine:=by rw[ak,rj];omega
 refine TY I.hJ O c.sa c.po n.Pl c.hd wi hz λh' O' sb=>h _ ?_;have hd:∃o,h'.get? dx=some o:=let ⟨o,_,_,e',_⟩:=O'.ns;⟨o,e'⟩
 refine I.write (x:=a) (e:=dx) (by rw[e];exact True.intro) (.inr ho) (λb q hb z=>(sb.2 b hb).trans z) hd ?_;refine⟨by rw[f7 O.ne];exact ho,?_,O.ne,O'.obj,_,O'.ns,λg=>?_,λg hg=>?_⟩
 ·have:=HZ f y fs;omega
 ·show I9 ((A9 f y fs).lookup g) (if g=f then some u else mA g);rw[Ib];by_cases q:g=f
  ·rw[aJ q,aJ q];exact ry
  ·rw[aF q,aF q];exact r g
 ·by_cases q:g=f
  ·rw[q];exact(Cc f y fs).1
  ·refine(Cc f y fs).2 g (wi g λz=>hg ?_);show(if g=f then some u else mA g)=none;rw[aF q];exact z
theorem Inv.made(I:Inv X pins U H s):Inv X pins U (upd (upd H s.heap.objs.size (.own (s.heap.objs.size+1))) (s.heap.objs.size+1) (.ins C s.heap.objs.size []))
  { s with heap:=(s.heap.push PySem.W.emptyDict).push (PySem.W.instObj C s.heap.objs.size) }:=by
 have e1:(s.heap.push PySem.W.emptyDict).get? s.heap.objs.size=some PySem.W.emptyDict:=aB s.heap rfl;have e2:((s.heap.push PySem.W.emptyDict).push (PySem.W.instObj C s.heap.objs.size)).get? (s.heap.objs.size+1)=some (PySem.W.instObj C s.heap.objs.size):=by
  have:=aB (s.heap.push PySem.W.emptyDict) (o:=PySem.W.instObj C s.heap.objs.size) rfl
  rwa [fQ] at this
 have e3:(s.heap.push PySem.W.emptyDict).Ns s.heap.objs.size (λ_=>none):=⟨PySem.W.emptyDict,#[],_,e1,rfl,(λe he=>absurd he (by simp)),λ_=>rfl⟩
 have I1:=I.laid (a:=s.heap.objs.size) (o:=.own (s.heap.objs.size+1)) (h':=s.heap.push PySem.W.emptyDict) (t':=s.toks) (λb u q=>ao _ q) (ai _) ⟨_,e1⟩;refine I1.laid (a:=s.heap.objs.size+1) (o:=.ins C s.heap.objs.size []) (t':=s.toks) (λb u q=>ao _ q) (fj (fQ _ _)) ?_;have ne:s.heap.objs.size≠s.heap.objs.size+1:=aM (lH _);refine⟨by rw[f7 ne,u7],bP _,ne,e2,λ_=>none,(Heap.Ns1.of_empty e3).at λo q=>ao _ q,λ_=>True.intro,λy hy=>absurd rfl hy⟩
theorem So{prog:Program}{env:Env}(hb:attributeBase e f env (eval e env)=eval e env)(h:wpAny (model prog w) A (eval e env) (λo bX=>wpAny (model prog w) A (getAttr o f true) Q E bX) E s):wpAny (model prog w) A (eval (.Attribute e f pos) env) Q E s :=
 Attribute_any_ h (by rw[arm_eval_Attribute,hb])
end
def Vr(K:PySem.W.Frag)(ta:TE)(f:Str):TE:=λU H Q=>ta U H λx H1=>∃a C dx fs v,x=.ref a/\H1 a=some (.ins C dx fs)/\jV K C/\C0 K C f/\fs.lookup f=some v/\Q v H1
def Vg(K:PySem.W.Frag)(ta tv:TE)(f:Str):TS:=λD U H=>tv U H λy H1=>ta U H1 λx H2=>∃a C dx fs,x=.ref a/\H2 a=some (.ins C dx fs)/\jV K C/\C0 K C f/\fs.length<1000 /\
 D.nx U (upd H2 a (.ins C dx (A9 f y fs)))
section
variable{o value:Expr}{f:Str}{tv:TE}
theorem QL(he:PE X e ta)(hb:attributeBase e f X.env (eval e X.env)=eval e X.env):PE X (.Attribute e f pos) (Vr X.K ta f):=by
 intro pins s U H Q I h;refine So hb (cQ (he pins s U H _ I h) λu s1 bz=>?_);obtain⟨x,H1,I1,rx,a,C,dx,fs,v,ex,ea,c,n,l,q⟩:=bz;subst ex;obtain rfl:u=Value.ref a:=rx;exact YD I1 ea c n l λu' s2 I2 ru=>⟨v,H1,I2,ru,q⟩
theorem Rb(ha:PE X o ta)(hv:PE X value tv)(hs:swapsWith value (some (.Attribute o f pos')) pos.line X.env=pure false):PS X (.Assign [.Attribute o f pos'] value pos) (Vg X.K ta tv f):=by
 intro pins s U H D I h;refine plainObj_wpAny_Assign_Attribute (cQ (hv pins s U H _ I h) λu s1 ⟨y,H1,I1,ry,q⟩=>cQ (ha pins s1 U H1 _ I1 q) λov s2 bz=>?_) hs;obtain⟨x,H2,I2,rx,a,C,dx,fs,ex,ea,c,n,l,q2⟩:=bz;subst ex;obtain rfl:ov=Value.ref a:=rx;exact YW I2 ea c n l ry λs3 I3=>⟨U,_,I3,q2⟩
end
section
variable{c:Value}{b:Bool}
inductive gY(K:PySem.W.Frag)(H:Hp):V->Value->Prop where
 |bO:gY K H .bO (.type "NoneType")
 |bl (x:Bool):gY K H (.bl x) (.type "bool")
 |int (i:Int):gY K H (.int i) (.type "int")
 |str (x:Str):gY K H (.str x) (.type "str")
 |qN (x:UInt64):gY K H (.qN x) (.type "float")
 |lst {a:Addr} {xs:List V} (e:H a=some (.lst xs)):gY K H (.ref a) (.type "list")
 |jN {a:Addr} {o:Obj} {xs:List V} (e:H a=some (.jN o (.lst xs))):gY K H (.ref a) (.type "list")
 |tup {a:Addr} {xs:List V} (e:H a=some (.tup xs)):gY K H (.ref a) (.type "tuple")
 |dK {a:Addr} {kvs:List (Key×V)} (e:H a=some (.dK kvs)):gY K H (.ref a) (.type "dict")
 |dT {a:Addr} {kvs:List (List Key×V)} (e:H a=some (.dT kvs)):gY K H (.ref a) (.type "dict")
 |ins {a C dx:Addr} {fs:List (Str×V)} (e:H a=some (.ins C dx fs)) (cl:jV K C) (ha:PySem.W.findIn K (.ref C) "__class__"=some (some (.builtin "object.__class__")))
   (hn:PySem.W.specialIn K (.builtin "object.__class__") "__get__"=some (some (.builtin "getset_descriptor.__get__"))) (xa:PySem.W.takesIn K (.builtin "object.__class__")=some true)
   (hm:PySem.W.mroIn K C (.type "object")=some true):gY K H (.ref a) (.ref C)
theorem XJ{x:V}{t:Value}(I:Inv X pins U H s)(rx:RelV x u)(ty:gY X.K H x t)(e:PySem.W.kitOne X.K t c=some b)(h:∀tk,Q (.bool b) { s with toks:=tk }) :
  wpAny (model X.prog X.w) A (call (.builtin "isinstance") [u,c]) Q E s:=by
 cases ty with
 |bO=>cases (show u=Value.none from rx);exact bV PySem.W.kitx_none I.hJ True.intro e (λz=>nomatch z) h
 |bl y=>cases (show u=Value.bool y from rx);exact bV PySem.W.kitx_bool I.hJ True.intro e (λz=>nomatch z) h
 |int i=>obtain⟨t,q⟩:=(show ∃t,u=Value.int i t from rx);cases q;exact bV PySem.W.kitx_int I.hJ True.intro e (λz=>nomatch z) h
 |str y=>obtain⟨t,q⟩:=(show ∃t,u=Value.str y t from rx);cases q;exact bV PySem.W.kitx_str I.hJ True.intro e (λz=>nomatch z) h
 |qN y=>obtain⟨t,q⟩:=(show ∃t,u=Value.float y t from rx);cases q;exact bV PySem.W.kitx_float I.hJ True.intro e (λz=>nomatch z) h
 |@lst a xs ea =>
  cases (show u=Value.ref a from rx);obtain⟨_,_,n,_,h1⟩:=(show o6 X.prog X.w H s.heap a (.lst xs) from I.cu a _ ea)
  exact bV PySem.W.kitx_list I.hJ ⟨_,h1,rfl⟩ e (λz=>nomatch z) h
 |@jN a ob xs ea =>
  cases (show u=Value.ref a from rx);obtain⟨_,_,_,n,_,h1⟩:=(show o6 X.prog X.w H s.heap a (.jN ob (.lst xs)) from I.cu a _ ea)
  exact bV PySem.W.kitx_list I.hJ ⟨_,h1,rfl⟩ e (λz=>nomatch z) h
 |@tup a xs ea =>
  cases (show u=Value.ref a from rx);obtain⟨_,_,_,p⟩:=(show o6 X.prog X.w H s.heap a (.tup xs) from I.cu a _ ea)
  obtain⟨o,h1,h2,_⟩:=p;exact bV KS I.hJ ⟨o,h1,h2⟩ e (λz=>nomatch z) h
 |@dK a kvs ea =>
  cases (show u=Value.ref a from rx);obtain⟨_,_,vs,_,p⟩:=(show o6 X.prog X.w H s.heap a (.dK kvs) from I.cu a _ ea)
  obtain⟨o,es,ep,h1,h2,_⟩:=p;exact bV PySem.W.kitx_dict I.hJ ⟨o,h1,h2.1⟩ e (λz=>nomatch z) h
 |@dT a kvs ea =>
  cases (show u=Value.ref a from rx);obtain⟨_,_,xs,_,o,es,ep,h1,h2,_⟩:=(show o6 X.prog X.w H s.heap a (.dT kvs) from I.cu a _ ea)
  exact bV PySem.W.kitx_dict I.hJ ⟨o,h1,h2.1⟩ e (λz=>nomatch z) h
 |@ins a C dx fs ea cl ha hn xa hm =>
  cases (show u=Value.ref a from rx);obtain⟨mA,O,_⟩:=BC I.cu ea;obtain⟨od,J,_⟩:=O.look;exact bV (PySem.W.kitx_own (cl.get _) cl.hd ha hn xa hm) I.hJ J e (λz=>nomatch z) h
end
structure x5(k:Nat)(A:Around):Prop where
 hd:A.handled=none
 dp:A.depth+3*k+5<recursionLimit
 un:A.units+16*k+200<cLine
theorem x5.mono{j:Nat}(r:x5 k A)(h:j<=k):x5 j A:=⟨r.hd,by have:=r.dp;omega,by have:=r.un;omega⟩
theorem x5.deeper{k:Nat}{A:Around}(r:x5 (k+1) A)(env:Env):x5 k (A.deeper env) :=
 ⟨r.hd,by have:=r.dp;show A.depth+1+3*k+5<_;omega,by have:=r.un;show A.units+3+16*k+200<_;omega⟩
theorem YK{kw:List (Str×Value)}:(A.under (.builtin "type.__call__" ⟨.ref C::us,kw⟩)).depth=A.depth+1:=by
 rfl
theorem YL{kw:List (Str×Value)}:(A.under (.builtin "type.__call__" ⟨.ref C::us,kw⟩)).units=A.units+1:=by
 rfl
theorem x5.make(r:x5 (k+1) A)(C:Addr)(us:List Value)(kw:List (Str×Value)):x5 k (A.under (.builtin "type.__call__" ⟨.ref C::us,kw⟩)) :=
 ⟨r.hd,by have:=r.dp;rw[YK];omega,by have:=r.un;rw[YL];omega⟩
theorem x5.depth{k:Nat}{A:Around}(r:x5 k A):A.depth<recursionLimit:=by have:=r.dp;omega
def Cz:TA:=λ_ H Q=>Q [] H
def Pd(ta:TE)(tr:TA):TA:=λU H Q=>ta U H λx H1=>tr U H1 λxs H2=>Q (x::xs) H2
theorem X9:PA X [] Cz:=λ_ _ _ _ H Q I h=>Calls.spliced_nil ⟨[],H,I,.nil,h⟩
theorem R6(ha:PE X e te)(hr:PA X es t)(hs:starEach (e::es) X.env=(false,eval e X.env)::starEach es X.env:=by rfl):PA X (e::es) (Pd te t):=by
 intro pos pins s U H Q I h;rw[hs];show wpAny _ _ (spliced ((false,eval e X.env)::backTo pos (starEach es X.env))) _ _ s;refine Calls.spliced_cons (cQ (ha pins s U H _ I h) λu s1 bz=>?_);obtain⟨x,H1,I1,r1,q1⟩:=bz;exact cQ (hr pos pins s1 U H1 _ I1 q1) λus s2 ⟨xs,H2,I2,r2,q2⟩=>⟨x::xs,H2,I2,.cons r1 r2,q2⟩
def Vz(t:TA):TE:=λU H Q=>t U H λxs H1=>xs.length<=sizeLine/\∀p,H1 p=none->Q (.ref p) (upd H1 p (.tup xs))
def Vu(t:TA):TE:=λU H Q=>t U H λxs H1=>xs.length<=sizeLine/\∀p,H1 p=none->Q (.ref p) (upd H1 p (.lst xs))
theorem QT{x1}(h:PA X es t):PE X (.Tuple es x1 pos) (Vz t):=by
 intro pins s U H Q I hq;refine wpAny_Tuple_spliced (cQ (h pos pins s U H _ I hq) λus s1 ⟨xs,H1,I1,r,z,q⟩=>⟨by rw[<- r.length];exact z,?_⟩);have hf:H1 s1.heap.objs.size=none:=I1.cu.fresh (ai _);refine⟨.ref s1.heap.objs.size,upd H1 s1.heap.objs.size (.tup xs),I1.laid (t':=s1.toks) (λb u e=>ao _ e) (ai _) ?_,rfl,q _ hf⟩;exact⟨z,us,r,⟨_,aB _ rfl,rfl,⟨_,rfl⟩,rfl⟩⟩
theorem QN(h:PA X es t):PE X (.List es pos) (Vu t):=by
 intro pins s U H Q I hq;refine wpAny_List_spliced (cQ (h pos pins s U H _ I hq) λus s1 ⟨xs,H1,I1,r,z,q⟩=>⟨by rw[<- r.length];exact z,?_⟩);have hf:H1 s1.heap.objs.size=none:=I1.cu.fresh (ai _);refine⟨.ref s1.heap.objs.size,upd H1 s1.heap.objs.size (.lst xs),I1.laid (t':=s1.toks) (λb u e=>ao _ e) (ai _) ?_,rfl,q _ hf⟩;exact⟨z,us,0,r,aB _ rfl⟩
noncomputable abbrev Sp:=List V->Hp->VK->XK->Prop
noncomputable abbrev nA:=List Env->Hp->Shared->XK->Value->Shared->Prop
structure qT(P:Program)(w:World)(K:PySem.W.Frag)(mg:Str->Option Value)(base:Heap)(A:Around)(outer:List Env)(s:Shared)(H:Hp):Prop where
 frames:A.frames=some outer
 mod:Mod K mg base
 bs:∀b o,base.get? b=some o->s.heap.get? b=some o/\H b=none
 pj:base.objs.size<=s.heap.objs.size
 P4:s.heap.FunFrames base outer
 qL:∀b∈iR outer,H b=none
 cu:gE P w H s.heap
 bare:AllBare s.gens
def CE(outer:List Env)(P:Program)(w:World)(H:Hp)(s:Shared)(Q:VK)(u:Value)(s':Shared):Prop :=
 ∃v H',s'.os=s.os/\AllBare s'.gens/\Un (iR outer) [] H H' s.heap s'.heap/\gE P w H' s'.heap/\RelV v u/\Q v H'
def CR(CX:nA)(outer:List Env)(P:Program)(w:World)(H:Hp)(s:Shared)(Q:VK)(E:XK)(r:Result)(s':Shared):Prop :=
 match r with
 |.ok (.ret u)=>CE outer P w H s Q u s'
 |.ok _=>False
 |.error e=>CX outer H s E e s'
structure ie(P:Program)(w:World)(K:PySem.W.Frag)(mg:Str->Option Value)(base:Heap)(CX:nA)(k:Nat)(f:Addr)(fd:FuncData)(ps:List Str)(sp:Sp):Prop where
 len:∀vs H Q E,sp vs H Q E->vs.length=ps.length
 run:∀(A:Around) (outer:List Env) (s:Shared) (H:Hp) (args:Args) (us:List Value) (vs:List V) (Q:VK) (E:XK),x5 k A->qT P w K mg base A outer s H->BindsTo s fd args (ps.zip us)->Vals vs us->sp vs H Q E ->
  codeAny (model P w) A (.call (.ref f) args) (CR CX outer P w H s Q E) s
theorem qT.make{mg:Str->Option Value}{outer:List Env}(e:qT P w K mg base A outer s H)(C:Addr)(us:List Value)(kw:List (Str×Value)) :
  qT P w K mg base (A.under (.builtin "type.__call__" ⟨.ref C::us,kw⟩)) outer s H:=⟨by first|exact e.frames|(simpa[Around.under,Code.envs,Code.isFrame,pushEnvs] using e.frames),e.mod,e.bs,e.pj,e.P4,e.qL,e.cu,e.bare⟩
section
variable{s':Shared}
theorem Inv.GB(I:Inv X pins U H s):qT X.prog X.w X.K X.mg X.base X.A X.stack s H :=
 ⟨I.ok.frames,I.ok.mod,I.bs,aD I.ok.pj I.sz,I.stack,I.BL,I.cu,I.bare⟩
theorem Inv.after{Q:VK}(I:Inv X pins U H s)(h:CE X.stack X.prog X.w H s Q u s'):EP X pins U Q u s':=by
 obtain⟨v,H',os,bare,un,cu,r,q⟩:=h;obtain⟨hh,g,d,t,ud⟩:=s';obtain rfl:ud=s.os:=os;exact⟨v,H',I.call (h':=hh) (g':=g) (d':=d) (t':=t) (ch:=[]) un cu bare (λb z=>absurd z (by simp)),r,q⟩
end
def Kw(sp:Sp)(jO:List V)(E:XK)(t:TA):TE:=λU H Q=>t U H λvs H1=>sp (vs++jO) H1 Q E
def Kx(C:Addr)(sp:Sp)(jO:List V)(E:XK)(t:TA):TE:=λU H Q=>t U H λvs H1=>∀x dx,H1 x=none->H1 dx=none->dx≠x ->
 sp (.ref x::(vs++jO)) (upd (upd H1 dx (.own x)) x (.ins C dx [])) (λv H2=>v=.bO/\Q (.ref x) H2) E
def Binds(K:PySem.W.Frag)(fd:FuncData)(ps:List Str)(ds:List Value):Prop :=
 ∀(s:Shared) (us:List Value),K.In s.heap->(us++ds).length=ps.length->BindsTo s fd ⟨us,[]⟩ (ps.zip (us++ds))
theorem Binds.all(h:∀us:List Value,us.length=ps.length->bindArgs fd ⟨us,[]⟩=pure (ps.zip us)):Binds K fd ps []:=λs us _ hl=>by
 rw[cU] at hl ⊢;exact .of_eq (h us hl)
def Passes(CX:nA)(X:Cx)(E:XK):Prop:=∀(pins:List (Addr×Obj)) (U:St) (H:Hp) (s:Shared) (e:Value) (s':Shared),Inv X pins U H s->CX X.stack H s E e s'->X.xe e s'
section
variable{jO:List V}{ds:List Value}{E:XK}
theorem II{Q:VK}(F:ie X.prog X.w X.K X.mg X.base CX k f fd ps sp)(hr:x5 k X.A)(hb:Binds X.K fd ps ds)(hd:Vals jO ds)(hx:Passes CX X E)(I:Inv X pins U H s)(r:Vals vs us)(h:sp (vs++jO) H Q E):wpAny (model X.prog X.w) X.A (call (.ref f) us) (EP X pins U Q) X.xe s:=by
 have r2:Vals (vs++jO) (us++ds):=r.append hd;have hl:(us++ds).length=ps.length:=by rw[<- r2.length];exact F.len _ _ _ _ h
 refine wpAny_call (gS (F.run X.A X.stack s H ⟨us,[]⟩ (us++ds) (vs++jO) Q E hr I.GB (hb s us I.hJ hl) r2 h) λr s' hq=>?_);cases r with
 |error e=>exact hx pins U H s e s' I hq
 |ok fl =>
  cases fl with
  |ret u=>exact I.after hq
  |next=>exact False.elim hq
  |brk=>exact False.elim hq
  |cont=>exact False.elim hq
theorem Ta(F:ie X.prog X.w X.K X.mg X.base CX k f fd ps sp)(hr:x5 k X.A)(hg:Gl X x)(hm:X.mg x=some (.ref f))(hk:PySem.W.keepIn X.K (.ref f)=true)(hb:Binds X.K fd ps ds)(hd:Vals jO ds)(hx:Passes CX X E)(ha:PA X (e::es) t)(hV:(x==("__debug__":Str))=false:=by decide)(he:starEach (e::es) X.env=(false,eval e X.env)::starEach es X.env:=by rfl)(hU:(backTo pos (starEach es X.env)).any (·.1)=false:=by rfl) :
  PE X (.Call (.Name x p) (e::es) [] pos) (Kw sp jO E t):=by
 intro pins s U H Q I h;refine cR (Y5 I hg hm ?_ hV);refine KU (h₀:=X.base) I.ok.mod.pY hk (cQ (ha pos pins s U H _ I h) λus s1 ⟨vs,H1,I1,r,q⟩=>⟨I1.hJ,?_⟩) he hU;exact II F hr hb hd hx I1 r q
theorem a32(F:ie X.prog X.w X.K X.mg X.base CX k f fd ps sp)(hr:x5 k X.A)(hg:Gl X x)(hm:X.mg x=some (.ref f))(hk:PySem.W.keepIn X.K (.ref f)=true)(hb:Binds X.K fd ps ds)(hd:Vals jO ds)(hx:Passes CX X E)(hV:(x==("__debug__":Str))=false:=by decide):PE X (.Call (.Name x p) [] [] pos) (Kw sp jO E Cz):=by
 intro pins s U H Q I h;refine cR (Y5 I hg hm ?_ hV);exact Ea I.hJ hk (II (us:=[]) F hr hb hd hx I .nil h)
structure Mk(K:PySem.W.Frag)(C f:Addr):Prop where
 makes:PySem.W.makesIn K C=true
 init:PySem.W.findIn K (.ref C) "__init__"=some (some (.ref f))
 fn:PySem.W.isFn K (.ref f)=true
 kp:PySem.W.keepIn K (.ref C)=true
theorem JP{Q:VK}(M:Mk X.K C f)(F:ie X.prog X.w X.K X.mg X.base CX k f fd ps sp)(hr:x5 (k+1) X.A)(hb:Binds X.K fd ps ds)(hd:Vals jO ds)(hx:Passes CX X E)(I:Inv X pins U H s)(r:Vals vs us)(h:∀x dx,H x=none->H dx=none->dx≠x->sp (.ref x::(vs++jO)) (upd (upd H dx (.own x)) x (.ins C dx [])) (λv H2=>v=.bO/\Q (.ref x) H2) E) :
  wpAny (model X.prog X.w) X.A (call (.ref C) us) (EP X pins U Q) X.xe s:=by
 have hq:=h (s.heap.objs.size+1) s.heap.objs.size (I.cu.fresh (cX _)) (I.cu.fresh (ai _)) (aM (lH _));have I2:=Inv.made (C:=C) I;have r2:Vals (V.ref (s.heap.objs.size+1)::(vs++jO)) (Value.ref (s.heap.objs.size+1)::(us++ds)):=.cons rfl (r.append hd);have hl:(Value.ref (s.heap.objs.size+1)::us++ds).length=ps.length:=by
  have e:=r2.length;rw[F.len _ _ _ _ hq] at e;exact e.symm
 refine wpAny_call (a36 (f:=f) I.hJ M.makes M.init (bx.mp M.fn) (gS (F.run _ X.stack _ _ ⟨Value.ref (s.heap.objs.size + 1) :: us,[]⟩ (Value.ref (s.heap.objs.size + 1) :: (us ++ ds)) _ _ E (hr.make C us [])
  (I2.GB.make C us []) (hb _ (Value.ref (s.heap.objs.size + 1) :: us) I2.hJ hl) r2 hq) λr s' lO=>?_))
 cases r with
 |error e=>exact hx pins U _ _ e s' I2 lO
 |ok fl =>
  cases fl with
  |ret u =>
   obtain⟨v,H',I3,rv,ev,q3⟩:=I2.after lO;subst ev;exact⟨rv,⟨V.ref (s.heap.objs.size+1),H',I3,rfl,q3⟩⟩
  |next=>exact False.elim lO
  |brk=>exact False.elim lO
  |cont=>exact False.elim lO
theorem Tc(M:Mk X.K C f)(F:ie X.prog X.w X.K X.mg X.base CX k f fd ps sp)(hr:x5 (k+1) X.A)(hg:Gl X x)(hm:X.mg x=some (.ref C))(hb:Binds X.K fd ps ds)(hd:Vals jO ds)(hx:Passes CX X E)(ha:PA X (e::es) t)(hV:(x==("__debug__":Str))=false:=by decide)(he:starEach (e::es) X.env=(false,eval e X.env)::starEach es X.env:=by rfl)(hU:(backTo pos (starEach es X.env)).any (·.1)=false:=by rfl) :
  PE X (.Call (.Name x p) (e::es) [] pos) (Kx C sp jO E t):=by
 intro pins s U H Q I h;refine cR (Y5 I hg hm ?_ hV);refine KU (h₀:=X.base) I.ok.mod.pY M.kp (cQ (ha pos pins s U H _ I h) λus s1 ⟨vs,H1,I1,r,q⟩=>⟨I1.hJ,?_⟩) he hU;exact JP M F hr hb hd hx I1 r q
theorem a28(M:Mk X.K C f)(F:ie X.prog X.w X.K X.mg X.base CX k f fd ps sp)(hr:x5 (k+1) X.A)(hg:Gl X x)(hm:X.mg x=some (.ref C))(hb:Binds X.K fd ps ds)(hd:Vals jO ds)(hx:Passes CX X E)(hV:(x==("__debug__":Str))=false:=by decide):PE X (.Call (.Name x p) [] [] pos) (Kx C sp jO E Cz):=by
 intro pins s U H Q I h;refine cR (Y5 I hg hm ?_ hV);exact Ea I.hJ M.kp (JP (us:=[]) M F hr hb hd hx I .nil h)
end
structure iS(N P:List Str)(sc:Scope):Prop where
 kind:sc.kind=.function
 co:sc.isCoroutine=false
 gen:sc.isGenerator=false
 nd:N.Nodup
 pre:N.take P.length=P
 par:∀x∈P,sc.names.lookup x=some .local\/sc.names.lookup x=some .cell
 mL:∀y∈sc.names,y.2≠.free
theorem Hc{kindOf:Str->Option NameKind}{x:Str}:∀{binds:List (Str×Value)} {m:Str->Option Value},(∀v,(x,v)∉binds)->bindL kindOf binds m x=m x
 |[],_,_=>rfl
 |(n,v)::r,m,h=>by
  unfold bindL;rw[Hc λw hw=>h w (bu _ hw)];split
  ·have:x≠n:=by rintro rfl;exact h v bJ
   simp[this]
  ·rfl
theorem Ha{kindOf:Str->Option NameKind}{x:Str}:∀{binds:List (Str×Value)} {m:Str->Option Value},(∀v,(x,v)∉binds)->bindC kindOf binds m x=m x
 |[],_,_=>rfl
 |(n,v)::r,m,h=>by
  unfold bindC;rw[Ha λw hw=>h w (bu _ hw)];split
  ·rfl
  ·have:x≠n:=by rintro rfl;exact h v bJ
   simp[this]
theorem Hb{kindOf:Str->Option NameKind}{x:Str}{v:Value}:∀{P:List Str} {vs:List Value} {i:Nat} {m:Str->Option Value},P.Nodup->P[i]?=some x->vs[i]?=some v->kindOf x=some .local ->
  bindL kindOf (P.zip vs) m x=some v
 |[],_,_,_,_,h,_,_=>by simp at h
 |_::_,[],_,_,_,_,h,_=>by simp at h
 |p::P,w::vs,0,m,nd,h1,h2,hk=>by
  simp at h1 h2;subst h1;subst h2;show bindL kindOf ((p,w)::P.zip vs) m p=_;unfold bindL;rw[Hc λv hv=>(dj.mp nd).1 (mB hv).1,aJ hk];simp
 |p::P,w::vs,i+1,m,nd,h1,h2,hk=>by
  unfold bindL;exact Hb (i:=i) (dj.mp nd).2 (by simpa using h1) (by simpa using h2) hk
theorem GZ{kindOf:Str->Option NameKind}{x:Str}{v:Value}:∀{P:List Str} {vs:List Value} {i:Nat} {m:Str->Option Value},P.Nodup->P[i]?=some x->vs[i]?=some v->kindOf x≠some .local ->
  bindC kindOf (P.zip vs) m x=some v
 |[],_,_,_,_,h,_,_=>by simp at h
 |_::_,[],_,_,_,_,h,_=>by simp at h
 |p::P,w::vs,0,m,nd,h1,h2,hk=>by
  simp at h1 h2;subst h1;subst h2;show bindC kindOf ((p,w)::P.zip vs) m p=_;unfold bindC;rw[Ha λv hv=>(dj.mp nd).1 (mB hv).1,aF hk];simp
 |p::P,w::vs,i+1,m,nd,h1,h2,hk=>by
  unfold bindC;exact GZ (i:=i) (dj.mp nd).2 (by simpa using h1) (by simpa using h2) hk
def start(N:List Str)(vs:List V):St:=vs.map some++List.replicate (N.length-vs.length) none
def qV(CX:nA)(P:Program)(w:World)(K:PySem.W.Frag)(mg:Str->Option Value)(base:Heap)(N:List Str)(qual:Str)(scope:Scope)(f:Addr)(cd:Value)(A:Around)(outer:List Env)(s:Shared)(H:Hp)(E:XK):Cx where
 prog:=P
 w:=w
 K:=K
 mg:=mg
 base:=base
 A:=A.deeper (envOfC qual scope s.heap.objs.size f cd)
 N:=N
 dM:=s
 kY:=H
 env:=envOfC qual scope s.heap.objs.size f cd
 outer:=outer
 stack:=envOfC qual scope s.heap.objs.size f cd::outer
 ex:=[]
 calm:=true
 fn:=λ_=>true
 pn:=[]
 xe:=λe s'=>wpAny (model P w) (A.deeper (envOfC qual scope s.heap.objs.size f cd)) (leaving (envOfC qual scope s.heap.objs.size f cd) e) (λ_ tZ=>CX outer H s E e tZ) (λe' tZ=>CX outer H s E e' tZ) s'
theorem BO{sc:Scope}{n:Nat}(h:sc.names.lookup x=some .cell):∃c,(cellsFrom n sc.names []).lookup x=some c:=by
 have q:=dP sc.names n [] (.inl h);exact eU.mp q
theorem XI{mg:Str->Option Value}{qual:Str}{scope:Scope}{cd:Value}{outer:List Env}{s1:Shared}{E:XK}(S:iS N ps scope)(hd:A.handled=none)(e0:qT P w K mg base A outer s H)(hl:vs.length=ps.length)(r:Vals vs us)(x:InCallC s s.heap.objs.size (bindL (envOfC qual scope s.heap.objs.size f cd).kindOf (ps.zip us) λ_=>none) (cellsFrom (s.heap.objs.size+1) scope.names []) (bindC (envOfC qual scope s.heap.objs.size f cd).kindOf (ps.zip us) λ_=>none) s1) :
  Inv (qV CX P w K mg base N qual scope f cd A outer s H E) [] (start N vs) H s1:=by
 have hU:ps.length<=N.length:=by have:=gp List.length S.pre;grind
 obtain⟨h1,tk,rfl,hk⟩:=x.done;have uk:∀b:Addr,b∉(qV CX P w K mg base N qual scope f cd A outer s H E).ex:=λb z=>absurd (show b∈([]:List Addr) from z) (by simp);refine ⟨⟨e0.mod,S.kind,rfl,rfl,ai _,λy z c h1 h2=>?_,λy hy=>?_,λy c _ h=>?_,λ_=>hd,Around.frames_deeper e0.frames,.inr ⟨rfl,rfl⟩,λb z=>absurd z (uk b),e0.bs,e0.pj,λb _ _=>uk b,λb z=>absurd z (uk b),e0.P4,e0.qL⟩,
  rfl,e0.bare,Un.kept hk,⟨_,x.toInCall.ns,λi y v h1 h2 h3=>?_⟩,λy c h=>⟨_,x.cell y c h⟩,e0.cu.fresh (ai _),λy c h=>?_,λp hp=>absurd (show p ∈ ([]:List (Addr × Obj)) from hp) (by simp),e0.cu.kept hk,?_,λjA z=>absurd (show (none:Option (List (Option V)))=some jA from z) (by simp)⟩
 ·exact name_of_addr x.apart (aP h1) (aP h2)
 ·rcases hy with hy|hy
  ·exact BO hy
  ·exact absurd rfl (S.mL _ (aP hy))
 ·exact eK (x.above y c (aP h))
 ·have hi:i<vs.length:=by
   unfold start at h2;by_cases hi:i<vs.length
   ·exact hi
   ·rw[da (by simpa using hi)] at h2;rw[fb] at h2
    simp_all
  have ha:vs[i]?=some v:=by
   unfold start at h2;rw[aK (by simpa using hi),ae] at h2;cases e:vs[i]? with
   |none=>rw[e] at h2;cases h2
   |some a=>rw[e] at h2;cases h2;rfl
  obtain⟨u,hu,rv⟩:=r.get ha;have hp:ps[i]?=some y:=by
   rw[<- S.pre,gT ()];exact h1
  have EM:ps.Nodup:=by rw[<- S.pre];exact S.nd.sublist (List.take_sublist _ _)
  refine⟨u,rv,?_⟩;rcases S.par y (aC hp) with k|k
  ·exact .inl ⟨k,Hb EM hp hu k⟩
  ·obtain⟨c,e⟩:=BO (n:=s.heap.objs.size+1) k;refine .inr ⟨.inl k,c,e,?_⟩;have q:=x.cell y c e;rw[GZ EM hp hu (by show scope.names.lookup y≠_;rw[k];decide)] at q;exact q
 ·exact e0.cu.fresh (eK (x.above y c (aP h)))
 ·unfold start;show _=N.length
  simp_all
theorem Wb{mg:Str->Option Value}{name qual:Str}{params:Arguments}{scope:Scope}{dV kV doc pm fS ct oc:Value}{an od:Option Addr}{mq:Array (Option Value)}(lk:K.lookup f=some ⟨oc,od,.func (PySem.W.fnOf name qual params body scope dV kV doc pm an fS ct),mq⟩)(lR:PySem.W.codeIn K fS qual=true)(S:iS N ps scope)(len:∀vs H Q E,sp vs H Q E->vs.length=ps.length)(uW:∀ (A:Around) (outer:List Env) (s:Shared) (H:Hp) (vs:List V) (Q:VK) (E:XK),x5 k (A.deeper (envOfC qual scope s.heap.objs.size f fS))->sp vs H Q E ->
   ∃ t,jP (qV CX P w K mg base N qual scope f fS A outer s H E) body t/\t { nx:=λ_ H'=>Q .bO H',rt:=Q } (start N vs) H) :
  ie P w K mg base CX (k+1) f (PySem.W.fnOf name qual params body scope dV kV doc pm an fS ct) ps sp:=by
 refine⟨len,λA outer s H args us vs Q E hr e0 hb r rL=>?_⟩;have hl:=len _ _ _ _ rL;have KX:K.In s.heap:=e0.mod.pY.keeps λb o e=>(e0.bs b o e).1;have lim:s.heap.NoLimit:=e0.mod.nolimit.keeps λb o e=>(e0.bs b o e).1;have uQ:∀y∈ps.zip us,scope.names.lookup y.1=some .local\/(scope.names.lookup y.1=some .cell/\((cellsFrom (s.heap.objs.size+1) scope.names []).lookup y.1).isSome=true):=λ⟨n,v⟩ hy=>by
  rcases S.par n (mB hy).1 with q|q
  ·exact .inl q
  ·exact .inr ⟨q,dP _ _ _ (.inl q)⟩
 refine codeAny_call_function hr.depth (KX _ _ lk) rfl S.co S.gen rfl (PySem.W.codeRec_of KX lR) (hb _ _ _ _ ?_);refine wpAny_newFunctionEnv_cells S.kind uQ λenv he s1 x=>?_;subst he;refine⟨lim.keeps x.toInCall.keep,codeAny_func ?_⟩;obtain⟨t,ht,hq⟩:=uW A outer s H vs Q E (hr.deeper _) rL;have I:Inv (qV CX P w K mg base N qual scope f fS A outer s H E) [] (start N vs) H s1:=XI S hr.hd e0 hl r x;refine bK (ht [] s1 (start N vs) H _ I hq) (λfl s' hs=>?_) λe s' hs=>hs;have fin:∀{bZ:St} {H':Hp} {v:V} {u:Value},Inv (qV CX P w K mg base N qual scope f fS A outer s H E) [] bZ H' s'->RelV v u->Q v H'->CE outer P w H s Q u s' :=
  λ{bZ H' v u} J rv q=>⟨v,H',J.os,J.bare,J.base,J.cu,rv,q⟩
 cases fl with
 |ret u =>
  obtain⟨v,bZ,H',J,rv,q⟩:=hs;exact fin J rv q
 |next =>
  obtain⟨bZ,H',J,q⟩:=hs;exact fin (v:=V.bO) (u:=Value.none) J rfl q
 |brk =>
  obtain⟨_,_,_,q⟩:=hs
  simp_all
 |cont =>
  obtain⟨_,_,_,q⟩:=hs
  simp_all
section
variable{id T:String}{r:List V->Hp->VK->Prop}
def zh(r:List V->Hp->VK->Prop)(t:TA):TE:=λU H Q=>t U H λvs H1=>r vs H1 Q
theorem yG(hc:n4 X (.builtin id) r)(hg:Gl X x)(hm:X.mg x=none)(hv:bootBuiltins x=some (.builtin id))(ha:PA X (e::es) t)(hn:x≠"__name__":=by decide)(hV:(x==("__debug__":Str))=false:=by decide)(he:starEach (e::es) X.env=(false,eval e X.env)::starEach es X.env:=by rfl)(hU:(backTo pos (starEach es X.env)).any (·.1)=false:=by rfl):PE X (.Call (.Name x p) (e::es) [] pos) (zh r t):=by
 intro pins s U H Q I h;refine cR (L8 I hg hm hv ?_ hn hV);exact PyProof.Rows.callWith_builtin1 (cQ (ha pos pins s U H _ I h) λus s1 ⟨vs,H1,I1,r1,q1⟩=>hc pins s1 U H1 vs us Q I1 r1 q1) he hU
theorem O7(hc:n4 X (.type T) r)(hg:Gl X x)(hm:X.mg x=none)(hv:bootBuiltins x=some (.type T))(ha:PA X (e::es) t)(hn:x≠"__name__":=by decide)(hV:(x==("__debug__":Str))=false:=by decide)(he:starEach (e::es) X.env=(false,eval e X.env)::starEach es X.env:=by rfl)(hU:(backTo pos (starEach es X.env)).any (·.1)=false:=by rfl):PE X (.Call (.Name x p) (e::es) [] pos) (zh r t):=by
 intro pins s U H Q I h;refine cR (L8 I hg hm hv ?_ hn hV);exact bR (cQ (ha pos pins s U H _ I h) λus s1 ⟨vs,H1,I1,r1,q1⟩=>hc pins s1 U H1 vs us Q I1 r1 q1) he hU
end
end L2
namespace HT
open PySem PyProof.Rows
def ke(n d:Nat):Option Int->Nat
 |none=>d
 |some v=>if v<0 then(v+(n:Int)).toNat else min v.toNat n
end HT
namespace L2
open PySem PySem.Spec PyProof.Rows
variable{X:Cx}{e:Expr}{pos:Pos}{n t':Nat}{a:Addr}{pins:List (Addr×Obj)}{U:St}{H H':Hp}{s:Shared}{bp:List Value}{o:Option V}{w:World}{A:Around}{E:Value->Shared->Prop}{u:Value}{kvs:List (List Key×V)}{y:V}{P:Program}
noncomputable abbrev TO:=St->Hp->(Option Int->Hp->Prop)->Prop
def PO(X:Cx)(e:Option Expr)(t:TO):Prop :=
 ∀(pins:List (Addr×Obj)) (s:Shared) (U:St) (H:Hp) (Q:Option Int->Hp->Prop),Inv X pins U H s->t U H Q ->
  wpAny (model X.prog X.w) X.A (evalPart e X.env) (λu s'=>∃o H',Inv X pins U H' s'/\IsPart u o/\Q o H') X.xe s
def Uk:TO:=λ_ H Q=>Q none H
def Ph(t:TE):TO:=λU H Q=>t U H λx H1=>∃i,x=.int i/\Q (some i) H1
section
variable{te:TE}{lo hi:Option Expr}{tl th:TO}{p2:Pos}
theorem Tg:PO X none Uk:=by
 intro pins s U H Q I h;exact au ⟨none,H,I,.none,h⟩
theorem Th(h:PE X e te):PO X (some e) (Ph te):=by
 intro pins s U H Q I hw;refine cQ (h pins s U H _ I hw) λu s1 bz=>?_;obtain⟨x,H1,I1,r1,q1⟩:=bz;obtain⟨i,rfl,q⟩:=q1;obtain⟨t,rfl⟩:=r1;exact⟨some i,H1,I1,.int i t,q⟩
def DQ(X:Cx)(r:V->Option Int->Option Int->Hp->VK->Prop):Prop :=
 ∀(pins:List (Addr×Obj)) (s:Shared) (U:St) (H:Hp) (x:V) (v vl vu:Value) (lo hi:Option Int) (sl:Addr) (Q:VK),Inv X pins U H s->RelV x v->s.heap.IsSliceOf sl vl vu .none->IsPart vl lo->IsPart vu hi->r x lo hi H Q ->
  ∃T id,typeLookup (.type T) "__getitem__"=pure (some (.builtin id))/\s.TypeIs v T/\wpAny (model X.prog X.w) X.A (getItem v (.ref sl)) (EP X pins U Q) X.xe s
def Ll(r:V->Option Int->Option Int->Hp->VK->Prop)(te:TE)(tl th:TO):TE:=λU H Q=>te U H λx H1=>tl U H1 λl H2=>th U H2 λu H3=>r x l u H3 Q
theorem a26{r:V->Option Int->Option Int->Hp->VK->Prop}(hr:DQ X r)(he:PE X e te)(hl:PO X lo tl)(hu:PO X hi th):PE X (.Subscript e (.Slice lo hi none p2) pos) (Ll r te tl th):=by
 intro pins s U H Q I h;refine Subscript_ (cQ (he pins s U H _ I h) λv s1 bz=>?_);obtain⟨x,H1,I1,r1,q1⟩:=bz;refine wpAny_Slice (cQ (hl pins s1 U H1 _ I1 q1) λvl s2 ⟨l,H2,I2,pl,q2⟩=>cQ (hu pins s2 U H2 _ I2 q2) λvu s3 bz=>?_);obtain⟨u,H3,I3,pu,q3⟩:=bz;refine au ?_;have I4:Inv X pins U H3 { s3 with heap:=s3.heap.push { cls:=.type "slice",data:=.fields #[vl,vu,.none] } }:=I3.kept (t':=s3.toks) λb ob q=>ao _ q;obtain⟨T,id,hT,ht,hg⟩:=hr pins { s3 with heap:=s3.heap.push { cls:=.type "slice",data:=.fields #[vl,vu,.none] } } U H3 x v vl vu l u s3.heap.objs.size Q I4 r1 (mE ..) pl pu q3;exact tail_any (ops:=[.ref s3.heap.objs.size,v]) ht hT hg (by rfl)
def sI(xs:List V)(lo hi:Option Int):List V:=(xs.drop (HT.ke xs.length 0 lo)).take (HT.ke xs.length xs.length hi-HT.ke xs.length 0 lo)
theorem Zm(xs:List V)(lo hi:Option Int):(sI xs lo hi).length<=xs.length:=by
 unfold sI;rw[eL,List.length_drop];omega
end
def kR(n:Nat)(i:Int):Option Nat:=if 0<=i then(if i<n then some i.toNat else none) else if -(n:Int)<=i then some (i+n).toNat else none
def gk{α:Type}(xs:List α)(i:Int):Option α:=(kR xs.length i).bind λj=>xs[j]?
theorem Jc{i:Int}{j:Nat}(h:kR n i=some j):seqIndex? i n=some j/\j<n/\-(n:Int)<=i/\i<n:=by
 unfold kR at h;by_cases h0:0<=i
 ·rw[aJ h0] at h;by_cases h1:i<n
  ·rw[aJ h1] at h;have e:i.toNat=j:=aL h;exact⟨by rw[seqIndex_of h0 h1,e],by omega,by omega,h1⟩
  simp_all
 ·rw[aF h0] at h;by_cases h1:-(n:Int)<=i
  ·rw[aJ h1] at h;have e:(i+n).toNat=j:=aL h;exact⟨by rw[seqIndex_neg () h1,e],by omega,h1,by omega⟩
  simp_all
theorem IV{α:Type}{xs:List α}{i:Int}{v:α}(h:gk xs i=some v):∃j,seqIndex? i xs.length=some j/\xs[j]?=some v/\j<xs.length/\-(xs.length:Int)<=i/\i<xs.length:=by
 unfold gk at h;cases e:kR xs.length i with
 |none=>simp_all
 |some j =>
  rw[e] at h;obtain⟨h1,h2,h3,h4⟩:=Jc e;exact⟨j,h1,h,h2,h3,h4⟩
theorem v9{α:Type}{xs:List α}{j:Nat}{v:α}(h:xs[j]?=some v):gk xs (j:Int)=some v:=by
 have hj:j<xs.length:=(av.mp h).1;have e:kR xs.length (j:Int)=some j:=by
  unfold kR
  simp_all
 unfold gk;rw[e];exact h
def Bu(b:Expr):Prop:=∀o i,subscripted b false o i=operate [o,i] (getItem o i)
def tq(X:Cx)(r:R2):Prop :=
 ∀(value slice:Expr) (pins:List (Addr×Obj)) (s:Shared) (U:St) (H:Hp) (x y:V) (v u:Value) (Q:VK),Inv X pins U H s->RelV x v->RelV y u->r x y H Q ->
  subscripted slice false v u=operate [v,u] (getItem v u)->wpAny (model X.prog X.w) X.A (subscriptTail value slice v u) (EP X pins U Q) X.xe s
def nz(X:Cx)(id:String)(r:V->List V->Hp->VK->Prop):Prop :=
 ∀(pins:List (Addr×Obj)) (s:Shared) (U:St) (H:Hp) (x:V) (xs:List V) (v:Value) (us:List Value) (Q:VK),Inv X pins U H s->RelV x v->Vals xs us->r x xs H Q ->
  wpAny (model X.prog X.w) X.A (call (.builtin id) (v::us)) (EP X pins U Q) X.xe s
section
variable{a b:Expr}{ta tb:TE}
theorem Ko{r:R2}(hr:tq X r)(ha:PE X a ta)(hb:PE X b tb)(hs:Bu b):PE X (.Subscript a b pos) (rB r ta tb):=by
 intro pins s U H Q I h;exact Subscript_ (DJ ha hb I h λv u s2 x y H2 I2 rx ry q=>hr a b pins s2 U H2 x y v u Q I2 rx ry q (hs _ _))
def Vb(K:PySem.W.Frag):R2:=λx y H Q=>∃p xs i v,x=.ref p/\y=.int i/\fO K H p xs/\gk xs i=some v/\Q v H
def Vc(K:PySem.W.Frag):R2:=λx y H Q=>∃p xs i v,x=.ref p/\y=.int i/\jU K H p xs/\gk xs i=some v/\Q v H
theorem SE:tq X (Vb X.K):=by
 intro value slice pins s U H x y v u Q I rx ry h hs;obtain⟨p,xs,i,z,rfl,rfl,hq,he,q⟩:=h;cases rx;obtain⟨t,rfl⟩:=ry;obtain⟨bp,r,pl,hz⟩:=I.list hq;obtain⟨j,h1,h2,h3,h4,h5⟩:=IV he;obtain⟨w,ew,gh⟩:=r.get h2;have hl:=r.length;have hn:=ya;have fin:EP X pins U Q w s:=⟨z,H,I,gh,q⟩
 by_cases h0:0<=i
 ·have hj:i.toNat=j:=by
   rw[seqIndex_of h0 h5] at h1;exact aL h1
  exact item_listR pl.isList h0 () (by rw[hj];simpa using ew) fin hs
 ·have hj:(i+(bp.toArray.size:Int)).toNat=j:=by
   rw[seqIndex_neg () h4] at h1;rw[aW,<- hl];exact aL h1
  exact subscriptTail_builtinR (x:=w) pl.isList.typeIs nL.lookup
   (wpAny_getItem_list_neg (Q:=λr s'=>r=w/\EP X pins U Q r s') pl.isList () (by rw[aW]<;>omega) () (by rw[hj];simpa using ew) ⟨rfl,fin⟩) hs
theorem Qc:tq X (Vc X.K):=by
 intro value slice pins s U H x y v u Q I rx ry h hs;obtain⟨p,xs,i,z,rfl,rfl,hq,he,q⟩:=h;cases rx;obtain⟨t,rfl⟩:=ry;obtain⟨bp,r,pl,hz⟩:=I.tuple hq;obtain⟨j,h1,h2,h3,h4,h5⟩:=IV he;obtain⟨w,ew,gh⟩:=r.get h2;have hl:=r.length;have hn:=ya;have fin:EP X pins U Q w s:=⟨z,H,I,gh,q⟩
 exact subscriptTail_builtinR (x:=w) pl.typeIs slot_tuple_getitem.lookup
  (getItem_tuple (j:=j) (Q:=λr s'=>r=w/\EP X pins U Q r s') pl () () (by rw[aW,<- hl];exact h1) (by simpa using ew) ⟨rfl,fin⟩) hs
theorem YN(bp:List Value)(n j:Nat)(u:Value):Obj.mapSeq (·.setIfInBounds j u) { cls:=.type "list",data:=.seq bp.toArray n }={ cls:=.type "list",data:=.seq (bp.set j u).toArray n }:=by
 simp[Obj.mapSeq]
theorem Inv.lst{pins:List (Addr×Obj)}{U:St}{H:Hp}{s:Shared}{p:Addr}{xs:List V}(I:Inv X pins U H s)(h:H p=some (.lst xs)) :
  ∃(bp:List Value) (n:Nat),Vals xs bp/\s.heap.get? p=some { cls:=.type "list",data:=.seq bp.toArray n }/\xs.length<=sizeLine:=by
 obtain⟨z,bp,n,r,e⟩:=I.cu p _ h;exact⟨bp,n,r,e,z⟩
theorem Inv.Qn{p:Addr}{xs ys:List V}{its':List Value}{n':Nat}{f:Obj->Obj}(I:Inv X pins U H s)(h:H p=some (.lst xs))(ho:s.heap.get? p=some { cls:=.type "list",data:=.seq bp.toArray n })(hf:f { cls:=.type "list",data:=.seq bp.toArray n }={ cls:=.type "list",data:=.seq its'.toArray n' })(r:Vals ys its')(hz:ys.length<=sizeLine)(t:Nat) :
  Inv X pins U (upd H p (.lst ys)) { s with heap:=s.heap.update p f,toks:=t }:=by
 have e:(s.heap.update p f).get? p=some { cls:=.type "list",data:=.seq its'.toArray n' }:=by
  rw[bB f ho (by rw[hf]<;>rfl),hf]
 refine I.write (x:=p) (e:=p) (by rw[h];trivial) (.inl rfl) (λb u hb q=>(eB _ _ (cw hb)).trans q) ⟨_,e⟩ ?_;exact⟨hz,its',n',r,e⟩
def OT:V->V->V->Hp->(Hp->Prop)->Prop:=λo i v H Q=>∃p xs k j,o=.ref p/\i=.int k/\H p=some (.lst xs)/\kR xs.length k=some j/\Q (upd H p (.lst (xs.set j v)))
theorem set_list:DE X OT:=by
 intro pins s U H o i v ov iv u Q I ro ri rv h;obtain⟨p,xs,k,j,rfl,rfl,hp,hj,q⟩:=h;cases ro;obtain⟨t,rfl⟩:=ri;obtain⟨bp,n,r,ho,hz⟩:=I.lst hp;obtain⟨h1,h2,h3,h4⟩:=Jc hj;have hl:=r.length;have hn:=ya;have I':Inv X pins U (upd H p (.lst (xs.set j v))) { s with heap:=s.heap.update p (Obj.mapSeq (·.setIfInBounds j u)) } :=
  I.Qn hp ho (YN bp n j u) (r.set rv j) (by rw[List.length_set];exact hz) s.toks
 by_cases h0:0<=k
 ·have hk:k.toNat=j:=by
   rw[seqIndex_of h0 h4] at h1;exact aL h1
  exact PySem.W.ki_setAt ho h0 () (by rw[aW,<- hl];exact h4) (by rw[hk];exact⟨_,I',q⟩)
 ·have hk:(k+(bp.toArray.size:Int)).toNat=j:=by
   rw[seqIndex_neg () h3] at h1;rw[aW,<- hl];exact aL h1
  exact PySem.W.ki_setBack ho () (by rw[aW,<- hl];exact h3) () (by rw[hk];exact⟨_,I',q⟩)
theorem ZO(lo hi:Option Int)(n:Nat):(sliceBounds lo hi none n).1=((HT.ke n 0 lo:Nat):Int)/\(sliceBounds lo hi none n).2.1=((HT.ke n n hi:Nat):Int)/\(sliceBounds lo hi none n).2.2=1:=by
 refine⟨?_,?_,rfl⟩
 ·cases lo with
  |none=>rfl
  |some i =>
   simp only[sliceBounds,HT.ke,Option.getD_none,show(1:Int)>0 by decide,if_true]
   grind
 ·cases hi with
  |none=>rfl
  |some i =>
   simp only[sliceBounds,HT.ke,Option.getD_none,show(1:Int)>0 by decide,if_true]
   grind
theorem WM(bp:List Value)(lo hi:Option Int):slicePick bp.toArray lo hi none=((bp.drop (HT.ke bp.length 0 lo)).take (HT.ke bp.length bp.length hi-HT.ke bp.length 0 lo)).toArray:=by
 obtain⟨h1,h2,h3⟩:=ZO lo hi bp.toArray.size;unfold slicePick;rw[h1,h2,h3];simp only[sliceRange_one,pick_run,List.size_toArray]<;>rfl
def Ve(K:PySem.W.Frag):V->Option Int->Option Int->Hp->VK->Prop:=λx lo hi H Q=>∃a xs,x=.ref a/\fO K H a xs/\∀p,H p=none->Q (.ref p) (upd H p (.lst (sI xs lo hi)))
theorem Ud:DQ X (Ve X.K):=by
 intro pins s U H x v vl vu lo hi sl Q I rx hs pl pu h;obtain⟨a,xs,rfl,hx,q⟩:=h;cases rx;obtain⟨bp,r,ht,hz⟩:=I.list hx;have hlen:=r.length;refine⟨"list",_,nL.lookup,ht.isList.typeIs,?_⟩;refine KQ ht.isList hs pl pu .none (by simp) ?_ (by grind);rw[WM,<- hlen];refine⟨.ref s.heap.objs.size,_,I.laid (t':=s.toks) (o:=.lst (sI xs lo hi)) (λb ob q=>ao _ q) (ai _) ?_,rfl,q _ (I.cu.fresh (ai _))⟩;exact⟨aD (Zm xs lo hi) hz,_,0,(r.drop (HT.ke xs.length 0 lo)).take (HT.ke xs.length xs.length hi-HT.ke xs.length 0 lo),aB _ rfl⟩
def Gj:V->V->Bool
 |.bO,.bO=>true
 |.bl a,.bl b=>a==b
 |.bl a,.int b=>(if a then 1 else 0)==b
 |.int a,.bl b=>a==(if b then 1 else 0)
 |.int a,.int b=>a==b
 |.str a,.str b=>a==b
 |_,_=>false
theorem ZD:n4 X (.builtin "len") (λxs H Q=>∃p ys,xs=[.ref p]/\(fO X.K H p ys\/jU X.K H p ys)/\Q (.int ys.length) H):=by
 intro pins s U H xs us Q I r h;obtain⟨p,ys,rfl,hq,q⟩:=h;obtain⟨u,rfl,rx⟩:=vals1 r;cases rx;have hn:=ya;rcases hq with hq|hq
 ·obtain⟨bp,r',pl,hz⟩:=I.list hq;have hlen:=r'.length;exact Calls.call_len_list pl.isList (by simp only[List.size_toArray]<;>omega) ⟨.int ys.length,H,I.tok _,⟨s.toks+1,by rw[aW,hlen]⟩,q⟩
 ·obtain⟨bp,r',pl,hz⟩:=I.tuple hq;have hlen:=r'.length;exact len_tuple pl (by simp only[List.size_toArray]<;>omega) ⟨.int ys.length,H,I.tok _,⟨s.toks+1,by rw[aW,hlen]⟩,q⟩
theorem ZE:n4 X (.type "list") (λxs H Q=>∃p ys,xs=[.ref p]/\(fO X.K H p ys\/jU X.K H p ys)/\∀l,H l=none->Q (.ref l) (upd H l (.lst ys))):=by
 intro pins s U H xs us Q I r h;obtain⟨p,ys,rfl,hq,q⟩:=h;obtain⟨u,rfl,rx⟩:=vals1 r;cases rx;have fin:∀(bp:List Value),Vals ys bp->ys.length<=sizeLine->∀(h':Heap) (c':Nat),(∀b o',s.heap.get? b=some o'->h'.get? b=some o') ->
   h'.get? s.heap.objs.size=some { cls:=.type "list",dict:=none,data:=.seq bp.toArray c',slots:=#[] }->EP X pins U Q (.ref s.heap.objs.size) { s with heap:=h' }:=λbp r' hz h' c' kp e =>
  ⟨.ref s.heap.objs.size,_,I.laid (t':=s.toks) kp (ai _) (show o6 X.prog X.w _ h' _ (.lst ys) from⟨hz,bp,c',r',e⟩),rfl,q _ (I.cu.fresh (ai _))⟩
 rcases hq with hq|hq
 ·obtain⟨bp,r',pl,hz⟩:=I.list hq;have hlen:=r'.length;obtain⟨o,ho,hc,n,hd⟩:=pl.isList;exact call_list_seq p (.inl rfl) ho hc hd (λh' c' kp e=>fin bp r' hz h' c' kp e) (by simp_all)
 ·obtain⟨bp,r',pl,hz⟩:=I.tuple hq;have hlen:=r'.length;obtain⟨o,ho,hc,n,hd⟩:=pl;exact call_list_seq p (.inr rfl) ho hc hd (λh' c' kp e=>fin bp r' hz h' c' kp e) (by simp_all)
theorem WD:n4 X (.type "tuple") (λxs H Q=>∃p ys,xs=[.ref p]/\((fO X.K H p ys/\∀l,H l=none->Q (.ref l) (upd H l (.tup ys)))\/(jU X.K H p ys/\Q (.ref p) H))):=by
 intro pins s U H xs us Q I r h;obtain⟨p,ys,rfl,h⟩:=h;obtain⟨u,rfl,rx⟩:=vals1 r;cases rx;rcases h with⟨hq,q⟩|⟨hq,q⟩
 ·obtain⟨bp,r',pl,hz⟩:=I.list hq;have hlen:=r'.length;refine call_tuple_list pl.isList (λh' kp=>?_) (by simp_all);have I1:Inv X pins U H { s with heap:=h' }:=I.kept (t':=s.toks) kp;have I2:Inv X pins U (upd H h'.objs.size (.tup ys)) { s with heap:=h'.push { cls:=.type "tuple",data:=.seq bp.toArray } } :=
   I1.laid (t':=s.toks) (λb o e=>ao _ e) (ai _) (show o6 X.prog X.w _ _ _ (.tup ys) from⟨hz,bp,r',U0.new _ _⟩)
  exact⟨.ref h'.objs.size,_,I2,rfl,q _ (I1.cu.fresh (ai _))⟩
 ·obtain⟨bp,r',pl,hz⟩:=I.tuple hq;exact call_tuple_same pl ⟨.ref p,H,I,rfl,q⟩
def nC(K:PySem.W.Frag)(T:String)(x:V)(H:Hp):Prop:=match x with
 |.str _=>T="str"
 |.int _=>T="int"
 |.ref p=>(T="list"/\∃xs,fO K H p xs)\/(T="tuple"/\∃o,K.lookup p=some o/\o.cls=.type "tuple"/\o.dict=none) \/
   (T="dict"/\((∃kvs,H p=some (.dK kvs))\/∃kvs,H p=some (.dT kvs)))\/(T="set"/\∃S n,H p=some (.set S n))
 |_=>False
theorem IQ{T:String}{x:V}{v:Value}(I:Inv X pins U H s)(r:RelV x v)(ty:nC X.K T x H) :
  s.TypeIs v T/\∀a,v=.ref a->∃ob,s.heap.get? a=some ob/\ob.dict=none:=by
 cases x with
 |str z =>
  obtain⟨t,rfl⟩:=r;cases (show T="str" from ty);exact⟨typeIs_str s z t,λ_ e=>nomatch e⟩
 |int i =>
  obtain⟨t,rfl⟩:=r;cases (show T="int" from ty);exact⟨typeIs_int s i t,λ_ e=>nomatch e⟩
 |ref p =>
  cases r;rcases ty with⟨rfl,xs,hq⟩|⟨rfl,o,hk,hc,hd⟩|⟨rfl,hk⟩|⟨rfl,S,n,hk⟩
  ·obtain⟨bp,_,pl,_⟩:=I.list hq;refine⟨pl.isList.typeIs,λa e=>?_⟩;cases e;obtain⟨o,n,e,c,hd,_⟩:=pl;exact⟨o,e,hd⟩
  ·refine⟨⟨o,I.hJ p o hk,hc⟩,λa e=>?_⟩;cases e;exact⟨o,I.hJ _ o hk,hd⟩
  ·have z:∃o,s.heap.get? p=some o/\o.ExactDict:=by
    rcases hk with⟨kvs,hk⟩|⟨kvs,hk⟩
    ·obtain⟨_,_,_,_,o,_,_,e,ex,_⟩:=I.cu p _ hk;exact⟨o,e,ex⟩
    ·obtain⟨_,_,_,_,o,_,_,e,ex,_⟩:=I.cu p _ hk;exact⟨o,e,ex⟩
   obtain⟨o,e,ex⟩:=z;refine⟨⟨o,e,ex.1⟩,λa e2=>?_⟩;cases e2;exact⟨o,e,ex.2.1⟩
  ·obtain⟨o,_,_,_,e,ex,_⟩:=I.cu p _ hk;refine⟨⟨o,e,ex.1⟩,λa e2=>?_⟩;cases e2;exact⟨o,e,ex.2.1⟩
 |_=>exact False.elim ty
def Vq(K:PySem.W.Frag)(T:String)(r:V->List V->Hp->VK->Prop)(to:TE):TE:=λU H Q=>to U H λx H1=>nC K T x H1/\r x [] H1 Q
def Lo(K:PySem.W.Frag)(T:String)(r:V->List V->Hp->VK->Prop)(to:TE)(t:TA):TE:=λU H Q=>to U H λx H1=>nC K T x H1/\t U H1 λxs H2=>r x xs H2 Q
variable{o:Expr}{es:List Expr}{to:TE}{t:TA}{name:Str}{apos jw:Pos}{T id:String}{r:V->List V->Hp->VK->Prop}
theorem QK(pa:PlainAttrs T)(slot:Slot T name id)(jD:typeOf (.builtin id)=pure (.type "method_descriptor"))(hm:nz X id r)(ho:PE X o to)(jg:attributeBase o name X.env (eval o X.env)=eval o X.env:=by rfl)(je:(apos.endLine==jw.line)=true:=by rfl):PE X (.Call (.Attribute o name apos) [] [] jw) (Vq X.K T r to):=by
 intro pins s U H Q I h;refine wpAny_Call_method0_late jg je (cQ (ho pins s U H _ I h) λv s1 bz=>?_);obtain⟨x,H1,I1,r1,ty,q1⟩:=bz;obtain⟨h1,h2⟩:=IQ I1 r1 ty;exact⟨T,id,pa,slot,jD,h1,h2,Calls.callWith_builtin rfl (PySem.evalArgs_none (hm pins s1 U H1 x [] v [] Q I1 r1 .nil q1))⟩
theorem OL(pa:PlainAttrs T)(slot:Slot T name id)(jD:typeOf (.builtin id)=pure (.type "method_descriptor"))(hm:nz X id r)(ho:PE X o to)(ha:PA X (e::es) t)(jg:attributeBase o name X.env (eval o X.env)=eval o X.env:=by rfl)(qj:((backTo jw (starEach (e :: es) X.env)).all (λx=>!x.1) && (backToKw jw (keywordEach [] X.env)).all (λx=>x.1.isSome)
   && decide ((e :: es).length + ([]:List Keyword).length + (if ([]:List Keyword).isEmpty then 0 else 1) < 30))=true:=by rfl)(je:(apos.endLine==jw.line)=true:=by rfl)(hs:starEach (e::es) X.env=(false,eval e X.env)::starEach es X.env:=by rfl)(kT:(backTo jw (starEach es X.env)).any (·.1)=false:=by rfl) :
  PE X (.Call (.Attribute o name apos) (e::es) [] jw) (Lo X.K T r to t):=by
 intro pins s U H Q I h;refine wpAny_Call_method_late jg qj je rfl (cQ (ho pins s U H _ I h) λv s1 bz=>?_);obtain⟨x,H1,I1,r1,ty,q1⟩:=bz;obtain⟨h1,h2⟩:=IQ I1 r1 ty;refine⟨T,id,pa,slot,jD,h1,h2,?_⟩;have hA:=ha jw pins s1 U H1 _ I1 q1;rw[hs] at hA ⊢;refine Calls.callWith_builtin (by show(false||(backTo jw (starEach es X.env)).any (·.1))=false;rw[kT]<;>rfl) (Calls.evalArgs_plain ?_);exact cQ hA λus s2 ⟨vs,H2,I2,r2,q2⟩=>hm pins s2 U H2 x vs v us Q I2 r1 r2 q2
end
def KG(X:Cx)(id:String)(r:V->List V->Hp->VK->Prop):Prop :=
 ∀(pins:List (Addr×Obj)) (s:Shared) (U:St) (H:Hp) (x:V) (xs:List V) (v:Value) (us:List Value) (Q:VK),Inv X pins U H s->RelV x v->Vals xs us->r x xs H Q ->
  wpAny (model X.prog X.w) X.A (call (.builtin id) (v::us)) (EP X pins U Q) X.xe s
theorem Vals.one{x:V}{us:List Value}(h:Vals [x] us):∃u,us=[u]/\RelV x u:=by
 cases h with
 |cons r h =>
  cases h;exact⟨_,rfl,r⟩
theorem Vals.zero:∀{us:List Value},Vals [] us->us=[]
 |_,.nil=>rfl
theorem Vals.eraseIdx:∀{xs:List V} {us:List Value} (i:Nat),Vals xs us->Vals (xs.eraseIdx i) (us.eraseIdx i)
 |_,_,_,.nil=>.nil
 |_,_,0,.cons _ t=>t
 |_,_,i+1,.cons r t=>.cons r (Vals.eraseIdx i t)
theorem Vals.reverse{xs:List V}{us:List Value}(h:Vals xs us):Vals xs.reverse us.reverse:=by
 induction h with
 |nil=>exact .nil
 |cons r t ih=>rw[gM,gM];exact Vals.append ih (.cons r .nil)
theorem Hk{α:Type}:∀(l:List α) (i:Nat),(l.eraseIdx i).length<=l.length
 |[],_=>ai _
 |_::_,0=>cX _
 |_::r,i+1=>Nat.succ_le_succ (Hk r i)
section
variable{l:Addr}{xs ys:List V}
theorem Inv.pB{its':List Value}{f:Array Value->Array Value}{t':Nat}(I:Inv X pins U H s)(hH:H l=some (.lst xs))(e:s.heap.get? l=some { cls:=.type "list",data:=.seq bp.toArray n })(hf:f bp.toArray=its'.toArray)(hv:Vals ys its')(hz:ys.length<=sizeLine) :
  Inv X pins U (upd H l (.lst ys)) { s with heap:=s.heap.update l (Obj.mapSeq f),toks:=t' }:=by
 have q:=PySem.IsL.update e f;rw[hf] at q;refine I.write (x:=l) (e:=l) (by rw[hH];exact trivial) (.inl rfl) (λb' u hb hu=>(eB s.heap (Obj.mapSeq f) (cw hb)).trans hu) ⟨_,q⟩ ?_;exact⟨hz,its',_,hv,q⟩
theorem Inv.UO{t':Nat}(I:Inv X pins U H s)(hv:Vals ys bp)(hz:ys.length<=sizeLine) :
  Inv X pins U (upd H s.heap.objs.size (.lst ys)) { s with heap:=s.heap.push { cls:=.type "list",data:=.seq bp.toArray },toks:=t' } :=
 I.laid (λ_ _ q=>ao _ q) (ai _) ⟨hz,bp,0,hv,aB _ rfl⟩
theorem Inv.fresh(I:Inv X pins U H s):H s.heap.objs.size=none:=I.cu.fresh (ai _)
theorem Inv.yL(I:Inv X pins U H s)(hH:H l=some (.lst xs)):xs.length<=sizeLine/\∃(bp:List Value) (n:Nat),Vals xs bp/\xs.length=bp.length/\s.heap.get? l=some { cls:=.type "list",data:=.seq bp.toArray n }:=by
 obtain⟨z,bp,n,r,e⟩:=I.cu l _ hH;exact⟨z,bp,n,r,r.length,e⟩
end
def Tu:V->List V->Hp->VK->Prop:=λx vs H Q=>∃l xs y,x=.ref l/\vs=[y]/\H l=some (.lst xs)/\xs.length<sizeLine/\Q .bO (upd H l (.lst (xs++[y])))
theorem XU:KG X "list.append" Tu:=by
 intro pins s U H x vs v us Q I rx rv h;obtain⟨l,xs,y,rfl,rfl,hH,hz,q⟩:=h;cases rx;obtain⟨u,rfl,ru⟩:=rv.one;obtain⟨z,bp,n,r,hl,e⟩:=I.yL hH;refine call_meets F.slot_list_append ⟨_,e,rfl⟩ F.entry_list_append (F.args_list_append_2 _ _) (PySem.list_append l bp.toArray n u (by grind)) ⟨e,?_⟩;refine⟨.bO,_,I.pB (its':=bp++[u]) hH e (by simp) (r.append (.cons ru .nil)) ?_,rfl,q⟩
 grind
def Rj:V->List V->Hp->VK->Prop:=λx vs H Q=>∃l xs i k y,x=.ref l/\vs=[.int i]/\H l=some (.lst xs)/\-(2 ^ 63)<=i/\i<2 ^ 63/\seqIndex? i xs.length=some k/\xs[k]?=some y/\Q y (upd H l (.lst (xs.eraseIdx k)))
theorem a35:KG X "list.pop" Rj:=by
 intro pins s U H x vs v us Q I rx rv h;obtain⟨l,xs,i,k,y,rfl,rfl,hH,h1,h2,hk,hy,q⟩:=h;cases rx;obtain⟨u,rfl,ru⟩:=rv.one;obtain⟨t,rfl⟩:=ru;obtain⟨z,bp,n,r,hl,e⟩:=I.yL hH;obtain⟨w,hw,gh⟩:=r.get hy;refine call_meets F.slot_list_pop ⟨_,e,rfl⟩ F.entry_list_pop (F.args_list_pop_2 _ _)
  (MeetsSeq.list_pop_at l bp.toArray n i t k w (fitsIndex_both h1 h2) (by rw[aW,<- hl];exact hk) (by simp_all) (by rw[aW];omega)) ⟨e,?_⟩
 refine⟨y,_,I.pB (its':=bp.eraseIdx k) hH e ?_ (r.eraseIdx k) ?_,gh,q⟩
 ·simp
 ·have:=Hk xs k;omega
def Va:R2:=λx y H Q=>∃l b xs zs,x=.ref l/\y=.ref b/\H l=some (.lst xs)/\H b=some (.lst zs)/\xs.length+zs.length<=sizeLine/\∀p,H p=none->Q (.ref p) (upd H p (.lst (xs++zs)))
theorem QA:gn X (binaryOp .Add) Va:=by
 intro pins s U H x y v u Q I rx ry h;obtain⟨l,b,xs,zs,rfl,rfl,hH,hB,hz,q⟩:=h;cases rx;cases ry;obtain⟨z,bp,n,r,hl,e⟩:=I.yL hH;obtain⟨z2,uI,n2,r2,xg,e2⟩:=I.yL hB;refine PySem.P.add_list e e2 ?_ (by rw[aW,aW];omega);have ea:bp.toArray++uI.toArray=(bp++uI).toArray:=by simp
 rw[ea];exact⟨.ref _,_,I.UO (t':=s.toks) (r.append r2) (by rw[bE];omega),rfl,q _ I.fresh⟩
section
variable{κ:Type}[DecidableEq κ]
def K9(kvs:List (κ×V))(k:κ):Option V:=(kvs.find? λkv=>decide (kv.1=k)).map (·.2)
def putK(kvs:List (κ×V))(k:κ)(v:V):List (κ×V) :=
 if(kvs.any λkv=>decide (kv.1=k))=true then kvs.map (λkv=>if kv.1=k then(kv.1,v) else kv) else kvs++[(k,v)]
def xJ(kvs:List (κ×V))(k:κ):List (κ×V):=kvs.filter λkv=>decide (kv.1≠k)
theorem BZ{p:κ×V}{r:List (κ×V)}{k:κ}(e:p.1=k):K9 (p::r) k=some p.2:=by simp[K9,List.find?_cons,e]
theorem BY{p:κ×V}{r:List (κ×V)}{k:κ}(e:¬p.1=k):K9 (p::r) k=K9 r k:=by simp[K9,List.find?_cons,e]
theorem GX(k:κ):∀kvs:List (κ×V),(kvs.any λkv=>decide (kv.1=k))=(K9 kvs k).isSome
 |[]=>rfl
 |p::r=>by
  rw[jQ];by_cases e:p.1=k
  ·simp only[BZ e,decide_eq_true e,Bool.true_or,Option.isSome_some]
  ·rw[BY e,aH e,pI];exact GX k r
theorem Ia(kvs:List (κ×V))(k:κ)(v:V):(putK kvs k v).length<=kvs.length+1:=by
 unfold putK;split
 ·simp
 simp
theorem I9.O9{u:Option Value}(r:I9 o u):o.isSome=u.isSome:=by
 cases o with
 |none=>cases u with
  |none=>rfl
  |some _=>exact(show False from r).elim
 |some _=>cases u with
  |none=>exact(show False from r).elim
  |some _=>rfl
theorem I9.getD{o:Option V}{u:Option Value}{d:V}{d':Value}(r:I9 o u)(rd:RelV d d'):RelV (o.getD d) (u.getD d'):=by
 cases o with
 |none=>cases u with
  |none=>exact rd
  |some _=>exact(show False from r).elim
 |some _=>cases u with
  |none=>exact(show False from r).elim
  |some _=>exact r
theorem KV.val{kvs:List (κ×V)}{vs:List (κ×Value)}(r:KV kvs vs)(k:κ):I9 (K9 kvs k) (valueAt vs k):=by
 induction r with
 |nil=>exact True.intro
 |@cons p q ps qs h t ih =>
  obtain⟨h1,h2⟩:=h;by_cases e:p.1=k
  ·have e':q.1=k:=h1.symm.trans e;have b:valueAt (q::qs) k=some q.2:=by simp[valueAt,List.find?_cons,e']
   rw[BZ e,b];exact h2
  ·have e':¬q.1=k:=λz=>e (h1.trans z);have b:valueAt (q::qs) k=valueAt qs k:=by simp[valueAt,List.find?_cons,e']
   rw[BY e,b];exact ih
theorem KV.any{kvs:List (κ×V)}{vs:List (κ×Value)}(r:KV kvs vs)(k:κ):(kvs.any λkv=>decide (kv.1=k))=vs.any λkv=>decide (kv.1=k):=by
 induction r with
 |nil=>rfl
 |cons h t ih=>simp_all
theorem KV.DN{kvs:List (κ×V)}{vs:List (κ×Value)}(r:KV kvs vs)(k:κ)(ry:RelV y u) :
  KV (kvs.map λkv=>if kv.1=k then(kv.1,y) else kv) (vs.map λkv=>if kv.1=k then(kv.1,u) else kv):=by
 induction r with
 |nil=>exact .nil
 |@cons p q ps qs h t ih =>
  rw[cI,cI];refine .cons ?_ ih;obtain⟨h1,h2⟩:=h;by_cases e:p.1=k
  ·rw[aJ e,aJ (h1.symm.trans e)];exact⟨h1,ry⟩
  ·rw[aF e,aF (λz=>e (h1.trans z))];exact⟨h1,h2⟩
theorem KV.put{kvs:List (κ×V)}{vs:List (κ×Value)}(r:KV kvs vs)(k:κ)(ry:RelV y u):KV (putK kvs k y) (stored vs k u):=by
 unfold putK stored;rw[r.any k];by_cases e:(vs.any λkv=>decide (kv.1=k))=true
 ·rw[aJ e,aJ e];exact r.DN k ry
 ·rw[aF e,aF e];exact Paired.snoc r ⟨rfl,ry⟩
theorem KV.drop{kvs:List (κ×V)}{vs:List (κ×Value)}(r:KV kvs vs)(k:κ):KV (xJ kvs k) (without vs k):=by
 unfold xJ without
 induction r with
 |nil=>exact .nil
 |@cons p q ps qs h t ih =>
  obtain⟨h1,h2⟩:=h;rw[eM,eM];by_cases e:p.1=k
  ·have a:¬decide (p.1≠k)=true:=by simp[e]
   have b:¬decide (q.1≠k)=true:=by simp[h1.symm.trans e]
   rw[aF a,aF b];exact ih
  ·have e':¬q.1=k:=λz=>e (h1.trans z);have a:decide (p.1≠k)=true:=by simp[e]
   have b:decide (q.1≠k)=true:=by simp[e']
   rw[aJ a,aJ b];exact .cons ⟨h1,h2⟩ ih
theorem KV.keys{kvs:List (κ×V)}{vs:List (κ×Value)}(r:KV kvs vs):kvs.map (·.1)=vs.map (·.1):=by
 induction r with
 |nil=>rfl
 |cons h t ih=>simp_all
theorem KV.length{kvs:List (κ×V)}{vs:List (κ×Value)}(r:KV kvs vs):kvs.length=vs.length:=lZ r
end
theorem sW{k:Key}(r:RelV (kV k) u):(u4 P w).is k u=true:=by
 cases k with
 |inl i=>obtain⟨t,e⟩:=(show ∃t,u=Value.int i t from r);subst e;exact Zs P w i t
 |inr x=>obtain⟨t,e⟩:=(show ∃t,u=Value.str x t from r);subst e;exact Zt P w x t
theorem Hj{P:Program}{w:World}:∀{ks:List Key} {us:List Value},Vals (ks.map kV) us->ItemsAre (u4 P w) ks us
 |[],_,r=>by cases r;exact .nil
 |k::ks,_,r=>by
  cases r with
  |cons h t=>exact .cons (sW h) (Hj t)
noncomputable abbrev KT(H:Hp):List (List Key×V)->List (List Key×Addr×Value)->Prop:=Paired λp q=>p.1=q.1/\H q.2.1=some (.tup (p.1.map kV))/\RelV p.2 q.2.2
theorem KT.val{xs:List (List Key×Addr×Value)}(r:KT H kvs xs)(k:List Key):I9 (K9 kvs k) ((atKey xs k).map (·.2)):=by
 induction r with
 |nil=>exact True.intro
 |@cons p q ps qs h t ih =>
  obtain⟨h1,_,h2⟩:=h;by_cases e:p.1=k
  ·have e':q.1=k:=h1.symm.trans e;have b:atKey (q::qs) k=some q.2:=by simp[atKey,List.find?_cons,e']
   rw[BZ e,b];exact h2
  ·have e':¬q.1=k:=λz=>e (h1.trans z);have b:atKey (q::qs) k=atKey qs k:=by simp[atKey,List.find?_cons,e']
   rw[BY e,b];exact ih
theorem KT.DN{xs:List (List Key×Addr×Value)}(r:KT H kvs xs)(k:List Key)(ry:RelV y u) :
  KT H (kvs.map λkv=>if kv.1=k then(kv.1,y) else kv) (xs.map (putAt k u)):=by
 induction r with
 |nil=>exact .nil
 |@cons p q ps qs h t ih =>
  rw[cI,cI];refine .cons ?_ ih;obtain⟨h1,h2,h3⟩:=h;unfold putAt;by_cases e:p.1=k
  ·rw[aJ e,aJ (h1.symm.trans e)];exact⟨h1,h2,ry⟩
  ·rw[aF e,aF (λz=>e (h1.trans z))];exact⟨h1,h2,h3⟩
theorem KT.put{xs:List (List Key×Addr×Value)}(r:KT H kvs xs)(k:List Key){b:Addr}(hb:H b=some (.tup (k.map kV)))(ry:RelV y u) :
  KT H (putK kvs k y) (storedH xs k b u):=by
 have e:(kvs.any λkv=>decide (kv.1=k))=(atKey xs k).isSome:=by
  rw[GX,(r.val k).O9,kG]
 unfold putK storedH;rw[e];by_cases q:(atKey xs k).isSome=true
 ·rw[aJ q,aJ q];exact r.DN k ry
 ·rw[aF q,aF q];exact Paired.snoc r ⟨rfl,hb,ry⟩
theorem KT.keeps{xs:List (List Key×Addr×Value)}(r:KT H kvs xs)(ht:∀b ys,H b=some (.tup ys)->H' b=some (.tup ys)):KT H' kvs xs :=
 Paired.GI r λ_ _ z=>⟨z.1,ht _ _ z.2.1,z.2.2⟩
section
variable{h:Heap}
theorem Kq{u:HO}(ok:gE P w H h)(e:Rd H a u):o6 P w H h a u:=e.ok ok
theorem sT{kvs:List (Key×V)}(ok:gE P w H h)(e:Rd H a (.dK kvs)):kvs.length<=sizeLine/\(a==sysModules)=false/\∃vs,KV kvs vs/\h.DictOf (u4 P w) a vs :=
 show o6 P w H h a (.dK kvs) from Kq ok e
theorem Kc{kvs:List (Key×V)}(ok:gE P w H h)(e:H a=some (.dK kvs)):kvs.length<=sizeLine/\(a==sysModules)=false/\∃vs,KV kvs vs/\h.DictOf (u4 P w) a vs:=sT ok (.inl e)
theorem Y7{ks:List Key}(ok:gE P w H h)(e:H a=some (.tup (ks.map kV))):(tupleKind (u4 P w)).is h ks a:=by
 obtain⟨_,bp,r,o,h1,h2,⟨n,h3⟩,_⟩:=(show o6 P w H h a (.tup (ks.map kV)) from ok a _ e)
 exact⟨o,bp.toArray,n,h1,h2,h3,by simpa using Hj r⟩
theorem sU(ok:gE P w H h)(e:Rd H a (.dT kvs)):kvs.length<=sizeLine/\(a==sysModules)=false /\
  ∃xs,KT H kvs xs/\h.DictOfH (tupleKind (u4 P w)) a xs:=by
 obtain⟨z,y,xs,r,o,es,ep,h1,h2,h3,h4,h5⟩:=(show o6 P w H h a (.dT kvs) from Kq ok e)
 refine⟨z,y,xs,r,o,es,ep,h1,h2,h3,h4,λx hx=>?_,h5⟩;have all:∀{l:List (List Key×V)} {m:List (List Key×Addr×Value)},KT H l m->∀x∈m,(tupleKind (u4 P w)).is h x.1 x.2.1:=by
  intro l m q
  induction q with
  |nil=>simp
  |@cons p q ps qs hq t ih =>
   intro x hx;rcases aG.mp hx with e|hx
   ·exact Y7 ok (by simp_all)
   ·exact ih x hx
 exact all r x hx
theorem Wa(ok:gE P w H h)(e:H a=some (.dT kvs)):kvs.length<=sizeLine/\(a==sysModules)=false /\
  ∃xs,KT H kvs xs/\h.DictOfH (tupleKind (u4 P w)) a xs:=sU ok (.inl e)
end
def P6(H:Hp)(a:Addr)(y:V)(r:Option V):Prop :=
 (∃kvs k,Rd H a (.dK kvs)/\y=kV k/\r=K9 kvs k)\/∃kvs k b,Rd H a (.dT kvs)/\y=.ref b/\H b=some (.tup (k.map kV))/\r=K9 kvs k
def yI(H:Hp)(a:Addr)(y v:V)(H':Hp):Prop :=
 (∃kvs k,H a=some (.dK kvs)/\y=kV k/\kvs.length<sizeLine/\H'=upd H a (.dK (putK kvs k v))) \/
 ∃kvs k b,H a=some (.dT kvs)/\y=.ref b/\H b=some (.tup (k.map kV))/\kvs.length<sizeLine/\H'=upd H a (.dT (putK kvs k v))
theorem P6.k{H:Hp}{a:Addr}{kvs:List (Key×V)}{k:Key}(e:H a=some (.dK kvs)):P6 H a (kV k) (K9 kvs k):=.inl ⟨kvs,k,.inl e,rfl,rfl⟩
theorem yI.k{H:Hp}{a:Addr}{kvs:List (Key×V)}{k:Key}{v:V}(e:H a=some (.dK kvs))(hl:kvs.length<sizeLine):yI H a (kV k) v (upd H a (.dK (putK kvs k v))):=.inl ⟨kvs,k,e,rfl,hl,rfl⟩
section
variable{v:V}{r:Value}
theorem Inv.big(I:Inv X pins U H s):sysModules<s.heap.objs.size:=by
 have h:mainGlobals<s.heap.objs.size:=(I.mod.glob.keeps I.bk).lt;exact dw ∅ h
theorem XA{Q:Value->Shared->Prop}(hu:A.units+1<cLine)(I:Inv X pins U H s)(g:P6 H a y (some v))(ry:RelV y u)(h:∀w' s',Inv X pins U H s'->RelV v w'->Q w' s') :
  wpAny (model X.prog X.w) A (getItem (.ref a) u) Q E s:=by
 rcases g with⟨kvs,k,e,ey,l⟩|⟨kvs,k,b,e,ey,eb,l⟩
 ·subst ey;obtain⟨z,hd,vs,rel,dd⟩:=sT I.cu e;obtain⟨w',hw,gh⟩:=I9.some_of (v:=v) (o:=valueAt vs k) (by rw[l];exact rel.val k);exact wpAny_getItem_of (sW ry) dd.mapOf hw (h w' _ (I.tok _) gh)
 ·subst ey;cases (show u=Value.ref b from ry);obtain⟨z,hd,xs,rel,dd⟩:=sU I.cu e;obtain⟨w',hw,gh⟩:=I9.some_of (v:=v) (o:=(atKey xs k).map (·.2)) (by rw[l];exact rel.val k);obtain⟨p,hp,zN⟩:=aa.mp hw;refine wpAny_getItem_heap (fy hu) (Y7 I.cu eb) dd hp ?_;rw[zN];exact h w' _ (I.tok _) gh
theorem UC{Q:Value->Shared->Prop}(hu:A.units+1<cLine)(I:Inv X pins U H s)(g:P6 H a y o)(ry:RelV y u)(h:∀s',Inv X pins U H s'->Q (.bool o.isSome) s') :
  wpAny (model X.prog X.w) A (compareOp .In u (.ref a)) Q E s:=by
 rcases g with⟨kvs,k,e,ey,l⟩|⟨kvs,k,b,e,ey,eb,l⟩
 ·subst ey;obtain⟨z,hd,vs,rel,dd⟩:=sT I.cu e;refine wpAny_in_of (sW ry) hd dd.mapOf ?_;rw[<- (rel.val k).O9,<- l];exact h _ (I.tok _)
 ·subst ey;cases (show u=Value.ref b from ry);obtain⟨z,hd,xs,rel,dd⟩:=sU I.cu e;refine wpAny_in_heap (fy hu) (Y7 I.cu eb) hd dd ?_;have q:=(rel.val k).O9;rw[kG] at q;rw[<- q,<- l];exact h _ (I.tok _)
theorem Sr{Q:Value->Shared->Prop}(hu:A.units+1<cLine)(I:Inv X pins U H s)(g:P6 H a y o)(ry:RelV y u)(h:∀s',Inv X pins U H s'->Q (.bool (!o.isSome)) s') :
  wpAny (model X.prog X.w) A (compareOp .NotIn u (.ref a)) Q E s:=by
 rcases g with⟨kvs,k,e,ey,l⟩|⟨kvs,k,b,e,ey,eb,l⟩
 ·subst ey;obtain⟨z,hd,vs,rel,dd⟩:=sT I.cu e;refine wpAny_notIn_of (sW ry) hd dd.mapOf ?_;rw[<- (rel.val k).O9,<- l];exact h _ (I.tok _)
 ·subst ey;cases (show u=Value.ref b from ry);obtain⟨z,hd,xs,rel,dd⟩:=sU I.cu e;refine wpAny_notIn_heap (fy hu) (Y7 I.cu eb) hd dd ?_;have q:=(rel.val k).O9;rw[kG] at q;rw[<- q,<- l];exact h _ (I.tok _)
theorem IW{h':Heap}{t':Nat}{ob:HO}(I:Inv X pins U H s)(mu:wm (H a))(hs:Heap.SameBut a s.heap h')(he:∃q,h'.get? a=some q)(new:o6 X.prog X.w (upd H a ob) h' a ob) :
  Inv X pins U (upd H a ob) { s with heap:=h',toks:=t' } :=
 I.write (x:=a) (e:=a) mu (.inl rfl) (λb q hb z=>(hs.2 b hb).trans z) he new
theorem PN{h':Heap}{kvs:List (Key×V)}{vs:List (Key×Value)}(z:kvs.length<=sizeLine)(hd:(a==sysModules)=false)(rel:KV kvs vs)(dd:h'.DictOf (u4 P w) a vs) :
  o6 P w H' h' a (.dK kvs):=⟨z,hd,vs,rel,dd⟩
theorem XB{Q:Unit->Shared->Prop}(hu:A.units+1<cLine)(I:Inv X pins U H s)(g:yI H a y v H')(ry:RelV y u)(rv:RelV v r)(h:∀s',Inv X pins U H' s'->Q Unit.unit s') :
  wpAny (model X.prog X.w) A (setItem (.ref a) u r) Q E s:=by
 rcases g with⟨kvs,k,e,ey,l,eH⟩|⟨kvs,k,b,e,ey,eb,l,eH⟩
 ·subst ey eH;obtain⟨z,hd,vs,rel,dd⟩:=Kc I.cu e;have hz:vs.length<=sizeLine:=by rw[<- rel.length];exact z
  have hl:(putK kvs k v).length<=sizeLine:=by have:=Ia kvs k v;omega
  refine wpAny_setItem_pairs (hsz:=hz) (sW ry) dd λh' xE hs=>h _ ?_;have he:∃q,h'.get? a=some q:=let ⟨q,_,_,hq,_⟩:=xE;⟨q,hq⟩
  exact IW I (by rw[e];exact True.intro) hs he (PN hl hd (rel.put k rv) xE)
 ·subst ey eH;cases (show u=Value.ref b from ry);obtain⟨z,hd,xs,rel,dd⟩:=Wa I.cu e;have hz:xs.length<=sizeLine:=by rw[<- lZ rel];exact z
  have hl:(putK kvs k v).length<=sizeLine:=by have:=Ia kvs k v;omega
  refine wpAny_setItem_heap (hsz:=hz) (fy hu) (Y7 I.cu eb) dd λh' xE hs=>h _ ?_;obtain⟨q,es,ep,hq,h2,h3,h4,_,h5⟩:=xE;refine IW I (by rw[e];exact True.intro) hs ⟨q,hq⟩ ⟨hl,hd,_,(rel.put k eb rv).keeps λc ys ec=>?_,q,es,ep,hq,h2,h3,h4,h5⟩;rw[f7 (WA ec e (λz=>nomatch z))];exact ec
end
theorem Zn(I:Inv X pins U H s)(g:P6 H a y o):s.TypeIs (.ref a) "dict":=by
 rcases g with⟨kvs,k,e,_,_⟩|⟨kvs,k,b,e,_,_,_⟩
 ·obtain⟨_,_,vs,_,dd⟩:=sT I.cu e;exact dd.typeIs
 ·obtain⟨_,_,xs,_,dd⟩:=sU I.cu e;exact dd.typeIs
theorem ZZ(h:Heap)(hb:sysModules<h.objs.size):o6 P w H (h.push { cls:=.type "dict",data:=.dict #[] }) h.objs.size (.dK []) :=
 ⟨bP _,eO.mpr (cw (aM hb)),[],.nil,Heap.DictOf.new h⟩
def RQ:TE:=λ_ H Q=>∀p,H p=none->Q (.ref p) (upd H p (.dK []))
theorem a30:PE X (.Dict [] [] pos) RQ:=λpins s U H Q I h =>
 wpAny_Dict_empty ⟨.ref s.heap.objs.size,_,I.laid (a:=s.heap.objs.size) (o:=.dK []) (t':=s.toks) (λ_ _ q=>ao _ q) (ai _) (ZZ s.heap I.big),rfl,h _ (I.cu.fresh (ai _))⟩
def Qt(kvs more:List (Key×V)):List (Key×V):=more.foldl (λacc kv=>putK acc kv.1 kv.2) kvs
theorem KV.merge:∀{more:List (Key×V)} {rs:List (Key×Value)} {kvs:List (Key×V)} {vs:List (Key×Value)},KV more rs->KV kvs vs->KV (Qt kvs more) (merged vs rs):=by
 intro more rs kvs vs r
 induction r generalizing kvs vs with
 |nil=>intro q;exact q
 |@cons p q ps qs h t ih =>
  intro r0;have e:KV (putK kvs p.1 p.2) (stored vs q.1 q.2):=by
   have:=r0.put p.1 h.2;rw[<- h.1];exact this
  exact ih e
section
variable{d:V}{r:Value}
theorem PK{Q:Value->Shared->Prop}(hu:A.units+1<cLine)(I:Inv X pins U H s)(g:P6 H a y o)(ry:RelV y u)(rd:RelV d r)(h:∀w' s',Inv X pins U H s'->RelV (o.getD d) w'->Q w' s') :
  wpAny (model X.prog X.w) A (call (.builtin "dict.get") [.ref a,u,r]) Q E s:=by
 rcases g with⟨kvs,k,e,ey,l⟩|⟨kvs,k,b,e,ey,eb,l⟩
 ·subst ey;obtain⟨z,hd,vs,rel,dd⟩:=sT I.cu e;refine call_meetsIn iU dd.typeIs tD (rn _ _ _) (meets_dict_get_default (u4 X.prog X.w) a (sW ry) hd r) ⟨_,dd.mapOf,h _ _ (I.tok _) ?_⟩;rw[l];exact(rel.val k).getD rd
 ·subst ey;cases (show u=Value.ref b from ry);obtain⟨z,hd,xs,rel,dd⟩:=sU I.cu e;refine call_meetsIn iU dd.typeIs tD (rn _ _ _) (meetsH_dict_get_default (tupleKind (u4 X.prog X.w)) a b hd r) ⟨fy hu,k,xs,Y7 I.cu eb,dd,h _ _ (I.tok _) ?_⟩;rw[l];exact(rel.val k).getD rd
end
end L2
namespace KO
open PySem PySem.W PySem.Calls PyProof.Rows
theorem Xa{P:Params}{h:Heap}:∀(ns:List Int) (vs:List Value),WellAll P h vs (ns.map WData.int)->IntsAre vs ns:=by
 intro ns
 induction ns with
 |nil =>
  intro vs w;cases w;exact .nil
 |cons n ns ih =>
  intro vs w;cases w with
  |cons a b =>
   cases a;exact .cons _ _ (ih _ b)
theorem Ym{l:OpenLaw}{n:Nat}(hn:l.most=some n){P:Params}{h:Heap}{args:List WData}{vals:List Value}(nW:l.row.toRowW.claim.pre args=true)(zJ:WellAll P h vals args) :
  ∃a vs ns,vals=[Value.ref a]/\args=[WData.list (ns.map WData.int)]/\h.get? a=some { cls:=.type "list",data:=.seq vs.toArray }/\IntsAre vs ns/\ns.length<=n:=by
 have jR:WShape.hasAll [] args [.list .int]=true:=(pre_splitW nW).1;have hc:l.pre.holds [] { args:=args }=true:=(pre_splitW nW).2;obtain⟨d,r,rfl,h1,h2⟩:=hasAllW_cons jR;obtain rfl:=hasAllW_nil h2;obtain⟨xs,rfl,h3⟩:=hasW_list h1;obtain⟨ns,rfl⟩:=items_int h3;have hlen:ns.length<=n:=by
  have h4:(WTm.not (.lt (.lit (.int (n:Int))) (.len (.arg 0)))).holds [] { args:=[.list (ns.map .int)] }=true:=by
   have h4:=(holds_andW hc).1;rw[hn] at h4;exact h4
  have h5:=condW_of h4 (w_not (w_lt w_lit (w_len_list (w_arg rfl))))
  simp_all
 cases zJ with
 |cons w1 w2 =>
  cases w2;cases w1 with
  |list ho kU=>exact⟨_,_,ns,rfl,rfl,ho,Xa ns _ kU,hlen⟩
theorem Yj(l:OpenLaw)(args:List WData):l.row.toRowW.claim.post args (.bool true) args=true :=
 postW_of (r:=l.row.toRowW) (X:=(true==true))
  (show WShape.has [] (.bool true) .bool=true by rfl)
  (show(WTm.eq .res (.lit (.bool true))).value [] { args:=args,res:=some (.bool true),after:=args }=some (.bool (true==true)) from w_eq_bool (w_res rfl) w_lit) rfl
theorem Zj{l:OpenLaw}{n:Nat}{q:Program}{loose:List Str}{XP:(Str->Option Value)->Heap->Prop}{YP:World->Heap->Prop}{d:DefRec}(hn:l.most=some n)(uV:d.params.defaults=[])(call:∀ (w:World) (dM bX:Shared) (mg mb:Str->Option Value) (fa:Addr) (o:Obj) (pm cd doc:Value) (a:Addr) (vs:List Value) (ns:List Int),
   Ground q loose [] XP w dM mg mb bX.heap->YP w bX.heap ->
   bX.heap.get? fa=some o->o.data=.func (docDef d.name d.params d.body d.scope pm cd doc)->bX.heap.CodeRec cd d.name->mg d.name=some (.ref fa) ->
   bX.heap.get? a=some { cls:=.type "list",data:=.seq vs.toArray }->IntsAre vs ns->ns.length<=n->bX.gens=#[] ->
   codeAny (model l.prog w) callerA (.call (.ref fa) ⟨[.ref a],[]⟩) (λr s'=>r=.ok (.ret (.bool true))/\OldK bX.heap s'.heap/\s'.os=bX.os/\AllBare s'.gens) bX) :
  WalkO q loose XP YP l.row.toRowW d [] (λf vs=>PySem.call f vs):=by
 intro w dM bX mg mb G Y fa o pm cd doc dV kV ho hd lR hD hmg hg args vals as nW MJ hrd zJ uP;obtain rfl:dV=.none:=Dflts.none hD uV;obtain rfl:kV=.none:=Dflts.noKw hD;obtain⟨a,vs,ns,rfl,rfl,jc,hints,hlen⟩:=Ym hn nW zJ;refine enter_call (gS (call w dM bX mg mb fa o pm cd doc a vs ns G Y ho (fd_plain hd) lR hmg jc hints hlen hg) λr s' hq=>?_);obtain⟨rfl,h2,h3,h4⟩:=hq;exact⟨.inl ⟨.bool true,.bool true,[],rfl,λ_=>rfl,.bool true,Yj l _,λ_=>⟨List.Pairwise.nil,λ_ hm=>(nomatch hm)⟩⟩,h2,h3,h4⟩
end KO
namespace L2
open PySem PySem.Spec PyProof.Rows
variable{x:Str}
theorem Hu:∀{vs:List Value} {ns:List Int},IntsAre vs ns->Vals (ns.map V.int) vs
 |_,_,.nil=>.nil
 |_,_,.cons n t h=>.cons ⟨t,rfl⟩ (Hu h)
def yJ(H:Hp):Prop:=∀b,H b=none\/∃o xs,H b=some (.jN o (.lst xs))
theorem a38{P:Program}{w:World}{K:PySem.W.Frag}{mg mb:Str->Option Value}{CX:nA}{k:Nat}{fa a:Addr}{fd:FuncData}{sp:Sp}{bX:Shared}{vs:List Value}{ns:List Int}(KX:K.In bX.heap)(qe:bX.heap.Ns mainGlobals mg)(hb:bX.heap.Ns builtinsNs mb)(Am:∀x:Str,x≠"__name__"->mb x=bootBuiltins x)(zY:bX.heap.NoLimit)(hg:bX.gens=#[])(ha:bX.heap.get? a=some { cls:=.type "list",data:=.seq vs.toArray })(hi:IntsAre vs ns)(hl:ns.length<=sizeLine)(hr:x5 k callerA)(F:∀base:Heap,K.In base->base.Ns mainGlobals mg->ie P w K mg base CX k fa fd [x] sp)(uX:∀(s:Shared) (u:Value),BindsTo s fd ⟨[u],[]⟩ [(x,u)])(rL:∀H:Hp,yJ H->fO K H a (ns.map V.int)->sp [.ref a] H (λv _=>v=.bl true) λ_ _ _=>False)(Aw:∀H e s',CX [] H bX (λ_ _ _=>False) e s'->False) :
  codeAny (model P w) callerA (.call (.ref fa) ⟨[.ref a],[]⟩) (λr s'=>r=.ok (.ret (.bool true))/\OldK bX.heap s'.heap/\s'.os=bX.os/\AllBare s'.gens) bX:=by
 have rv:=Hu hi;have LZ:=hi.length;have core:∀H:Hp,yJ H->fO K H a (ns.map V.int)->gE P w H bX.heap->(∀b,H b≠none->b=a)->(H a≠none->K.lookup a=none) ->
   codeAny (model P w) callerA (.call (.ref fa) ⟨[.ref a],[]⟩) (λr s'=>r=.ok (.ret (.bool true))/\OldK bX.heap s'.heap/\s'.os=bX.os/\AllBare s'.gens) bX:=by
  intro H hO hS cu hA hK;have R7:∀{b:Addr} {o:Obj},bX.heap.get? b=some o->H b=none->(oB bX.heap H).get? b=some o:=λe n=>a45 e n;have uk:∀{b:Addr} {o:Obj} {es:Array DictEntry} {ep:Nat},bX.heap.get? b=some o->o.data=.dict es ep->H b=none:=λ{b o es ep} e d=>by
   grind
  have wR:∀{b:Addr} {m:Str->Option Value},bX.heap.Ns b m->(oB bX.heap H).Ns b m:=λ{b m} ⟨o,es,ep,e,d,r⟩=>⟨o,es,ep,R7 e (uk e d),d,r⟩
  have FU:K.In (oB bX.heap H):=λb o e=>R7 (KX b o e) (by
   grind)
  have hM:Mod K mg (oB bX.heap H):=⟨FU,wR qe,⟨mb,wR hb,Am⟩,let ⟨mc,h1,h2⟩:=zY;⟨mc,wR h1,h2⟩⟩
  have e0:qT P w K mg (oB bX.heap H) callerA [] bX H:=⟨rfl,hM,λb o e=>SQ e,fj (XH _ _),trivial,λb hb=>absurd (show b∈([]:List Addr) from hb) (by simp),cu,.of_eq hg⟩
  refine gS ((F _ FU (wR qe)).run callerA [] bX H ⟨[.ref a],[]⟩ [.ref a] [.ref a] _ _ hr e0 (uX bX (.ref a)) (.cons rfl .nil) (rL H hO hS)) λr s' h=>?_;cases r with
  |error e=>exact(Aw H e s' h).elim
  |ok fl =>
   cases fl with
   |next=>exact False.elim h
   |brk=>exact False.elim h
   |cont=>exact False.elim h
   |ret u =>
    obtain⟨v,H',os,bare,un,zO,r',q⟩:=h;have q':v=.bl true:=q;subst q';obtain rfl:u=Value.bool true:=r';refine⟨rfl,OldK.of_keep λb o e=>?_,os,bare⟩;cases q:H b with
    |none=>exact un.keep b o e q (by intro z;exact absurd (show b∈([]:List Addr) from z) (by simp)) (by simp)
    |some u =>
     rcases hO b with z|⟨ob,xs,z⟩
     ·simp_all
     ·have z2:=un.iG b ob _ z;obtain⟨e1,_⟩:=cu b _ z;obtain⟨e2,_⟩:=zO b _ z2
      simp_all
 cases hk:K.lookup a with
 |some o =>
  have e:=KX a o hk;rw[ha] at e;cases e;refine core (λ_=>none) (λ_=>.inl rfl) (.inr ⟨_,vs.toArray,_,hk,rfl,rfl,rfl,by simp_all,by simpa using rv⟩) (λb u z=>by simp_all) (λb z=>absurd rfl z) λz=>absurd rfl z
 |none =>
  refine core (λb=>if b=a then some (.jN { cls:=.type "list",data:=.seq vs.toArray } (.lst (ns.map V.int))) else none) (λb=>?_) (.inl (.inr ⟨{ cls:=.type "list",data:=.seq vs.toArray },aJ rfl⟩)) (λb u z=>?_) (λb z=>?_) λ_=>hk
  ·by_cases hb:b=a
   ·exact .inr ⟨_,_,aJ hb⟩
   ·exact .inl (aF hb)
  ·by_cases hb:b=a
   ·have z':=(aJ hb).symm.trans z;cases z';subst hb;exact⟨ha,by rw[ak];exact hl,vs,_,rv,ha⟩
   simp_all
  ·by_cases hb:b=a
   ·exact hb
   ·exact absurd (aF hb) z
theorem Uo{l:PySem.W.OpenLaw}{n k:Nat}{q:Program}{loose:List Str}{XP:(Str->Option Value)->Heap->Prop}{YP:World->Heap->Prop}{d:DefRec}{K:Params->PySem.W.Frag}{CX:World->nA}{sp:World->Sp}(hn:l.most=some n)(my:n<=sizeLine)(uV:d.params.defaults=[])(hr:x5 k callerA)(hY:∀(w:World) (h:Heap),YP w h->(K w.params).In h)(F:∀ (w:World) (mg:Str->Option Value) (fa:Addr) (h:Heap),(K w.params).In h->h.Ns mainGlobals mg->mg d.name=some (.ref fa) ->
   ∃fd:FuncData,(∀(s:Shared) (u:Value),BindsTo s fd ⟨[u],[]⟩ [(x,u)]) /\
    ∀ base:Heap,(K w.params).In base->base.Ns mainGlobals mg->ie l.prog w (K w.params) mg base (CX w) k fa fd [x] (sp w))(rL:∀(w:World) (H:Hp) (a:Addr) (ns:List Int),ns.length<=n->yJ H->fO (K w.params) H a (ns.map V.int)->sp w [.ref a] H (λv _=>v=.bl true) λ_ _ _=>False)(Aw:∀(w:World) (H:Hp) (s:Shared) (e:Value) (s':Shared),CX w [] H s (λ_ _ _=>False) e s'->False) :
  PySem.W.WalkO q loose XP YP l.row.toRowW d [] (λf vs=>PySem.call f vs):=by
 refine KO.Zj hn uV λw dM bX mg mb fa o pm cd doc a vs ns G Y ho hd lR hmg jc hints hlen hg=>?_;have KX:=hY w _ Y;obtain⟨fd,hb,hF⟩:=F w mg fa _ KX G.T.g hmg;exact a38 KX G.T.g G.T.b G.T.builtins G.T.nolimit hg jc hints (aD hlen my) hr hF hb (λH hO hS=>rL w H a ns hlen hO hS) λH e s'=>Aw w H bX e s'
def B8(s:Stmt):Arguments:=match s with
 |.FunctionDef _ a _ _ _ _ _ _ _ _=>a
 |_=>{ posonlyargs:=[],args:=[],vararg:=none,kwonlyargs:=[],kw_defaults:=[],kwarg:=none,defaults:=[] }
def t8(s:Stmt):List Stmt:=match s with
 |.FunctionDef _ _ b _ _ _ _ _ _ _=>b
 |_=>[]
def q9(s:Stmt):Scope:=match s with
 |.FunctionDef _ _ _ _ _ _ sc _ _ _=>sc
 |_=>{ kind:=.function,names:=[],isGenerator:=false,isCoroutine:=false }
structure pF(K:PySem.W.Frag)(x qual:Str)(st:Stmt)(f:Addr)(fd:FuncData):Prop where
 ex:∃(oc:Value) (od:Option Addr) (kV doc pm:Value) (an:Option Addr) (fS ct:Value) (mq:Array (Option Value)),
  fd=PySem.W.fnOf x qual (B8 st) (t8 st) (q9 st) .none kV doc pm an fS ct/\K.lookup f=some ⟨oc,od,.func fd,mq⟩/\PySem.W.codeIn K fS qual=true
 kp:PySem.W.keepIn K (.ref f)=true
section
variable{K:PySem.W.Frag}
theorem pF.binds{qual:Str}{st:Stmt}{f:Addr}{fd:FuncData}{ps:List Str}(F:pF K x qual st f fd)(h:∀(kV doc pm:Value) (an:Option Addr) (fS ct:Value) (us:List Value),us.length=ps.length->bindArgs (PySem.W.fnOf x qual (B8 st) (t8 st) (q9 st) .none kV doc pm an fS ct) ⟨us,[]⟩=pure (ps.zip us)):Binds K fd ps []:=by
 obtain⟨oc,od,kV,doc,pm,an,fS,ct,mq,rfl,lk,lR⟩:=F.ex;exact .all (h kV doc pm an fS ct)
theorem Iz{qual:Str}{st:Stmt}{f:Addr}{oc:Value}{od an:Option Addr}{mq:Array (Option Value)}{kV doc pm fS ct:Value}(l:K.lookup f=some ⟨oc,od,.func (PySem.W.fnOf x qual (B8 st) (t8 st) (q9 st) .none kV doc pm an fS ct),mq⟩)(c:PySem.W.codeIn K fS qual=true)(k:PySem.W.keepIn K (.ref f)=true):pF K x qual st f (PySem.W.fnOf x qual (B8 st) (t8 st) (q9 st) .none kV doc pm an fS ct):=⟨⟨oc,od,kV,doc,pm,an,fS,ct,mq,rfl,l,c⟩,k⟩
end
end L2
namespace TS
open PySem PyProof.Rows
def Gb:Bool->Keyed->Array Keyed->Nat->Nat->Nat->StateT SortSt Sem (Option Nat):=sortPriv% PySem.Builtin.gallop
def LV:Array Keyed->Array Keyed->StateT SortSt Sem (Array Keyed):=sortPriv% PySem.Builtin.mergeLo
def LW:Array Keyed->Array Keyed->StateT SortSt Sem (Array Keyed):=sortPriv% PySem.Builtin.mergeHi
noncomputable abbrev kn(p:Keyed):Int:=numOf p.1
def IK(p:Keyed):Prop:=∃n t,p.1=.int n t
section
variable{prog:Program}{w:World}{A:Around}{E:Value->Shared->Prop}{s:Shared}
theorem xQ{st:SortSt}{x y:Keyed}{Q:Option Bool->SortSt->Prop}(hk:kindOf st=oneType')(hx:IK x)(hy:IK y)(h:Q (some (decide (kn x<kn y))) st) :
  wpS (model prog w) A E s (lt' x y) Q st:=by
 obtain⟨a,t,ha⟩:=hx;obtain⟨b,u,hb⟩:=hy;rw[lt'_eq];refine az (lX ?_);rw[hk,keyLt'_oneType,ha,hb];refine az (oI (KR (oneLt_int ⟨rfl,?_⟩)));have:kn x=a/\kn y=b:=by unfold kn;rw[ha,hb];exact⟨rfl,rfl⟩
 rw[this.1,this.2] at h;exact aE h
theorem x8{st:SortSt}{xs:Array Keyed}{i:Nat}{p:Keyed}{Q:Keyed->SortSt->Prop}(h1:xs[i]?=some p)(h:Q p st):wpS (model prog w) A E s (elem' xs i) Q st:=by
 rw[elem'_eq,h1];exact aE h
theorem d7{M:Model}{U α:Type}{c:Prop}[Decidable c]{x y:StateT U Sem α}{Q:α->U->Prop}{st:U}(h1:c->wpS M A E s x Q st)(h2:¬c->wpS M A E s y Q st):wpS M A E s (if c then x else y) Q st:=by
 by_cases h:c
 ·rw[aJ h];exact h1 h
 ·rw[aF h];exact h2 h
def fC(left:Bool)(key p:Keyed):Bool:=if left then decide (kn p<kn key) else !decide (kn key<kn p)
theorem xX{st:SortSt}{left:Bool}{key p:Keyed}{arr:Array Keyed}{i:Nat}{Q:Option Bool->SortSt->Prop}(hk:kindOf st=oneType')(fX:IK key)(hp:arr[i]?=some p)(hi:IK p)(h:Q (some (fC left key p)) st) :
  wpS (model prog w) A E s (elem' arr i >>= λx=>if left=true then lt' x key else lt' key x >>= λr=>pure (r.map λb=>!b)) Q st:=by
 refine az (x8 hp ?_);cases left
 ·exact az (xQ hk fX hi (aE h))
 ·exact xQ hk hi fX h
theorem PQ{st:SortSt}{left:Bool}{key:Keyed}{arr:Array Keyed}{base n hint:Nat}{f:Nat->Keyed}{Q:Option Nat->SortSt->Prop}(hk:kindOf st=oneType')(fX:IK key)(hf:∀i,i<n->arr[base+i]?=some (f i)/\IK (f i))(hm:∀i j,i<=j->j<n->fC left key (f j)=true->fC left key (f i)=true)(hh:hint<n)(h:∀k,k<=n->(∀i,i<k->fC left key (f i)=true)->(∀i,k<=i->i<n->fC left key (f i)=false)->Q (some k) st):wpS (model prog w) A E s (Gb left key arr base n hint) Q st:=by
 have nH:∀i j,i<=j->j<n->fC left key (f i)=false->fC left key (f j)=false:=λi j a b c=>by
  cases e:fC left key (f j) with
  |false=>rfl
  |true=>rw[hm i j a b e] at c;omega
 refine az ?_;refine xX hk fX (hf hint hh).1 (hf hint hh).2 ?_;have last:∀lo hi:Nat,lo<=hi->hi<=n->(∀i,i<lo->fC left key (f i)=true)->(∀i,hi<=i->i<n->fC left key (f i)=false)->∀(F:Nat->Option (Option Nat)×Nat×Nat->StateT SortSt Sem (ForInStep (Option (Option Nat)×Nat×Nat))),
   (F=λ_ c=>if c.2.1 >= c.2.2 then pure (.done (none,c.2.1,c.2.2)) else (elem' arr (base + (c.2.1 + (c.2.2 - c.2.1) / 2)) >>= λx=>if left=true then lt' x key else lt' key x >>= λr=>pure (r.map λb=>!b)) >>= λr=>match r with
    |some more=>if more=true then pure (.yield (none,c.2.1+(c.2.2-c.2.1) / 2+1,c.2.2)) else pure (.yield (none,c.2.1,c.2.1+(c.2.2-c.2.1) / 2))
    | x=>pure (.done (some none,c.2.1,c.2.2))) ->
   wpS (model prog w) A E s (forIn [0:n] (none,lo,hi) F) (λc aZ=>aZ=st/\c.1=none/\Q (some c.2.2) st) st:=by
  intro lo hi h1 h2 h3 h4 F e;subst e;refine dD (I:=λx c aZ=>aZ=st/\c.1=none/\c.2.1<=c.2.2/\c.2.2<=n/\c.2.2-c.2.1<=n-x/\(∀i,i<c.2.1->fC left key (f i)=true)/\(∀i,c.2.2<=i->i<n->fC left key (f i)=false)) ?_ ?_ ⟨rfl,rfl,h1,h2,by grind,h3,h4⟩
  ·rintro x ⟨c1,l,r⟩ aZ _ hx ⟨rfl,rfl,q1,q2,q3,q4,q5⟩;dsimp only at q1 q2 q3 q4 q5 ⊢;by_cases kA:l>=r
   ·rw[aJ kA];have:l=r:=by omega
    subst this;exact aE ⟨rfl,rfl,h l q2 q4 q5⟩
   ·rw[aF kA];have nG:l+(r-l) / 2<n:=by omega
    refine az (xX hk fX (hf _ nG).1 (hf _ nG).2 ?_);cases e:fC left key (f (l+(r-l) / 2)) with
    |true=>exact aE ⟨rfl,rfl,by dsimp only;omega,q2,by grind,λi hi=>hm i _ (Nat.le_of_lt_succ hi) nG e,q5⟩
    |false=>exact aE ⟨rfl,rfl,by simp,by grind,by dsimp only;omega,q4,λi hi hn=>nH _ i hi hn e⟩
  ·rintro⟨c1,l,r⟩ aZ ⟨rfl,rfl,q1,q2,q3,q4,q5⟩;dsimp only at q1 q2 q3 q4 q5;have:l=r:=by omega
   subst this;exact⟨rfl,rfl,h l q2 q4 q5⟩
 cases e0:fC left key (f hint) with
 |true =>
  refine az (wpS_mono (dD (I:=λx (c:Option (Option Nat) × Nat × Nat) aZ=>aZ=st/\c.1=none/\c.2.1 < c.2.2/\hint + c.2.1 < n/\x < c.2.2/\fC left key (f (hint + c.2.1))=true)
   (Q:=λc aZ=>aZ=st/\c.1=none/\c.2.1 < c.2.2/\hint + c.2.1 < n/\fC left key (f (hint + c.2.1))=true/\(c.2.2 >= n - hint \/ fC left key (f (hint + c.2.2))=false)) ?_ ?_ ⟨rfl,rfl,by decide,hh,by decide,e0⟩) ?_)
  ·rintro x ⟨c1,l,r⟩ aZ _ hx ⟨rfl,rfl,q1,q2,q3,q4⟩;by_cases kA:r>=n-hint
   ·rw[aJ kA];exact aE ⟨rfl,rfl,q1,q2,q4,.inl kA⟩
   ·rw[aF kA];have nG:hint+r<n:=by omega
    refine az (xX hk fX (hf _ nG).1 (hf _ nG).2 ?_);cases e:fC left key (f (hint+r)) with
    |true=>exact aE ⟨rfl,rfl,by grind,nG,by grind,e⟩
    |false=>exact aE ⟨rfl,rfl,q1,q2,q4,.inr e⟩
  ·grind
  ·rintro⟨c1,l,r⟩ aZ ⟨rfl,rfl,q1,q2,q3,q4⟩;dsimp only at q1 q2 q3 q4 ⊢;refine az (wpS_mono (last (hint+l+1) (hint+min r (n-hint)) () () (λi hi=>hm i _ (Nat.le_of_lt_succ hi) q2 q3) ?_ _ rfl) ?_)
   ·intro i h1 h2;rcases q4 with q4|q4
    ·omega
    ·exact nH (hint+r) i () h2 q4
   ·rintro⟨c1,l,r⟩ aZ ⟨rfl,rfl,q⟩;exact aE q
 |false =>
  refine az (wpS_mono (dD (I:=λx (c:Option (Option Nat) × Nat × Nat) aZ=>aZ=st/\c.1=none/\c.2.1 < c.2.2/\c.2.1 <= hint/\x < c.2.2/\fC left key (f (hint - c.2.1))=false)
   (Q:=λc aZ=>aZ=st/\c.1=none/\c.2.1 < c.2.2/\c.2.1 <= hint/\fC left key (f (hint - c.2.1))=false/\(c.2.2 >= hint + 1 \/ fC left key (f (hint - c.2.2))=true)) ?_ ?_ ⟨rfl,rfl,by decide,bP _,by decide,e0⟩) ?_)
  ·rintro x ⟨c1,l,r⟩ aZ _ hx ⟨rfl,rfl,q1,q2,q3,q4⟩;by_cases kA:r>=hint+1
   ·rw[aJ kA];exact aE ⟨rfl,rfl,q1,q2,q4,.inl kA⟩
   ·rw[aF kA];have nG:hint-r<n:=by omega
    refine az (xX hk fX (hf _ nG).1 (hf _ nG).2 ?_);cases e:fC left key (f (hint-r)) with
    |true=>exact aE ⟨rfl,rfl,q1,q2,q4,.inr e⟩
    |false=>exact aE ⟨rfl,rfl,by grind,by grind,by grind,e⟩
  ·rintro⟨c1,l,r⟩ aZ ⟨rfl,rfl,q1,q2,q3,q4⟩;exact⟨rfl,rfl,q1,q2,q4,.inl (by grind)⟩
  ·rintro⟨c1,l,r⟩ aZ ⟨rfl,rfl,q1,q2,q3,q4⟩;dsimp only at q1 q2 q3 q4 ⊢;refine az (wpS_mono (last (hint+1-min r (hint+1)) (hint-l) () () ?_ (λi hi hn=>nH _ i hi hn q3) _ rfl) ?_)
   ·intro i h1;rcases q4 with q4|q4
    ·omega
    ·exact hm i (hint-r) () () q4
   ·rintro⟨c1,l,r⟩ aZ ⟨rfl,rfl,q⟩;exact aE q
theorem ZU{left:Bool}{key p q:Keyed}(h:kn p<=kn q)(hq:fC left key q=true):fC left key p=true:=by
 unfold fC at hq ⊢
 grind
theorem sJ{st:SortSt}{left:Bool}{key:Keyed}{xs:Array Keyed}{base n hint:Nat}{Q:Option Nat->SortSt->Prop}(hk:kindOf st=oneType')(fX:IK key)(gD:∀p∈xs.toList,IK p)(hs:∀i j (hj:j<xs.size) (iE:i<=j),base<=i->j<base+n->kn xs[i]<=kn xs[j])(hn:base+n<=xs.size)(hh:hint<n)(h:∀k,k<=n->(∀p∈(xs.toList.drop base).take k,fC left key p=true)->(∀p∈(xs.toList.drop (base+k)).take (n-k),fC left key p=false)->Q (some k) st):wpS (model prog w) A E s (Gb left key xs base n hint) Q st:=by
 refine PQ (f:=λt=>(xs[base+t]?).getD key) hk fX (λt ht=>?_) (λu v lN hv hq=>ZU ?_ hq) hh λk hk kr lr=>h k hk ?_ ?_
 ·rw[cv xs (base+t) ()];exact⟨rfl,gD _ (by simp)⟩
 ·rw[cv xs (base+u) (),cv xs (base+v) ()]
  simp_all
 ·intro p hp;obtain⟨t,ht,rfl⟩:=bt.mp hp;simp only[List.length_take,List.length_drop,Array.length_toList] at ht;have:=kr t ();rw[cv xs (base+t) ()] at this;simpa using this
 ·intro p hp;obtain⟨t,ht,rfl⟩:=bt.mp hp;simp only[List.length_take,List.length_drop,Array.length_toList] at ht;have:=lr (k+t) () ();rw[cv xs (base+(k+t)) ()] at this;simpa[Nat.add_assoc] using this
end
section
variable{r:Keyed->Keyed->Prop}{all o x y u v:List Keyed}
structure MI(r:Keyed->Keyed->Prop)(all o x y:List Keyed):Prop where
 pm:(o++(x++y)).Perm all
 so:o.Pairwise r
 sx:x.Pairwise r
 sy:y.Pairwise r
 cr:∀p∈o,∀q,q∈x\/q∈y->r p q
 hl:∀q∈y,∀z,x.getLast?=some z->r q z
theorem MI.x1(h:MI r all o (u++v) y)(c:∀p∈u,∀q∈y,r p q)(ne:v≠[]):MI r all (o++u) v y:=by
 obtain⟨a1,a2,a3⟩:=aQ.mp h.sx;refine⟨by have:=h.pm;simp_all,aQ.mpr ⟨h.so,a1,λp hp q hq=>h.cr p hp q (.inl (bw _ hq))⟩,a2,h.sy,λp hp q hq=>?_,λq hq z hz=>h.hl q hq z ?_⟩
 ·rcases aO.mp hp with hp|hp
  ·exact h.cr p hp q (hq.imp (aN _) id)
  ·rcases hq with hq|hq
   ·exact a3 p hp q hq
   ·exact c p hp q hq
 simp_all
theorem MI.y1(h:MI r all o y (u++v))(c:∀p∈u,∀q∈y,r p q):MI r all (o++u) y v:=by
 obtain⟨a1,a2,a3⟩:=aQ.mp h.sy;refine⟨?_,aQ.mpr ⟨h.so,a1,λp hp q hq=>h.cr p hp q (.inr (bw _ hq))⟩,h.sx,a2,λp hp q hq=>?_,λq hq z hz=>h.hl q (aN _ hq) z hz⟩
 ·refine List.Perm.trans ?_ h.pm;rw[cj];refine ei _ ?_;rw[<- cj,<- cj];exact fo _ iW
 ·rcases aO.mp hp with hp|hp
  ·exact h.cr p hp q (hq.imp id (aN _))
  ·rcases hq with hq|hq
   ·exact c p hp q hq
   ·exact a3 p hp q hq
def Fn(r:Keyed->Keyed->Prop)(all z:List Keyed):Prop:=z.Perm all/\z.Pairwise r
theorem MI.e1(h:MI r all o x []):Fn r all (o++x):=by
 refine⟨by have:=h.pm;simpa using this,aQ.mpr ⟨h.so,h.sx,λp hp q hq=>h.cr p hp q (.inl hq)⟩⟩
theorem MI.e0(h:MI r all o x y)(c:∀p∈x,∀q∈y,r p q):Fn r all (o++(x++y)) :=
 ⟨h.pm,aQ.mpr ⟨h.so,aQ.mpr ⟨h.sx,h.sy,c⟩,λp hp q hq=>h.cr p hp q (aO.mp hq)⟩⟩
theorem MI.e2{z:Keyed}(h:MI r all o [z] y):Fn r all (o++(y++[z])):=by
 refine⟨List.Perm.trans (ei _ iW) h.pm,aQ.mpr ⟨h.so,aQ.mpr ⟨h.sy,h.sx,λp hp q hq=>?_⟩,λp hp q hq=>?_⟩⟩
 ·rw[aR] at hq;subst hq;exact h.hl p hp q rfl
 ·exact h.cr p hp q ((aO.mp hq).symm)
theorem MI.len(h:MI r all o x y):o.length+x.length+y.length=all.length:=by
 have:=h.pm.length_eq;grind
theorem MI.hx{p q:Keyed}(h:MI r all o (p::x) y)(tr:∀a b c,r a b->r b c->r a c)(c:r q p):∀z∈p::x,r q z:=by
 intro z hz;rcases aG.mp hz with rfl|hz
 ·exact c
 ·exact tr _ _ _ c ((eY.mp h.sx).1 z hz)
theorem MI.hy{p q:Keyed}(h:MI r all o y (p::x))(tr:∀a b c,r a b->r b c->r a c)(c:r q p):∀z∈p::x,r q z:=by
 intro z hz;rcases aG.mp hz with rfl|hz
 ·exact c
 ·exact tr _ _ _ c ((eY.mp h.sy).1 z hz)
def Sm(st aZ:SortSt):Prop:=kindOf aZ=kindOf st/\arrOf aZ=arrOf st/\pendingOf aZ=pendingOf st/\failedOf aZ=failedOf st
theorem dc{xs:Array Keyed}{i:Nat}(h:i<xs.size):xs.toList.drop i=xs[i]::xs.toList.drop (i+1):=by
 rw[dh (by simpa using h)];simp
theorem ex(o':Array Keyed)(xs:Array Keyed)(i k:Nat):(o'++xs.extract i (i+k)).toList=o'.toList++(xs.toList.drop i).take k:=by
 simp
theorem dk(l:List Keyed)(i k:Nat):l.drop i=(l.drop i).take k++l.drop (i+k):=by
 rw[<- gw,bG]
theorem DI{k p:Keyed}(h:fC false k p=true):kn p<=kn k:=by
 unfold fC at h;grind
theorem xH{k p:Keyed}(h:fC false k p=false):kn k<kn p:=by
 unfold fC at h;simpa using h
theorem yK{k p:Keyed}(h:fC true k p=true):kn p<kn k:=by
 unfold fC at h;simpa using h
theorem CL{k p:Keyed}(h:fC true k p=false):kn k<=kn p:=by
 unfold fC at h;grind
theorem dt{xs:Array Keyed}{i n:Nat}(h:xs.size-i<=n):(xs.toList.drop i).take n=xs.toList.drop i:=bI (by simp;omega)
end
section
variable{prog:Program}{w:World}{A:Around}{E:Value->Shared->Prop}{s:Shared}
def Vj:Nat->StateT SortSt Sem Unit:=sortPriv% PySem.Builtin.setMinGallop
theorem Sm.trans{a b c:SortSt}(h:Sm a b)(q:Sm b c):Sm a c:=⟨q.1.trans h.1,q.2.1.trans h.2.1,q.2.2.1.trans h.2.2.1,q.2.2.2.trans h.2.2.2⟩
theorem xS{st:SortSt}{g:Nat}{Q:Unit->SortSt->Prop}(h:∀aZ,Sm st aZ->Q Unit.unit aZ):wpS (model prog w) A E s (Vj g) Q st:=lW (h _ ⟨rfl,rfl,rfl,rfl⟩)
def fs{β U:Type}(Q I:β->U->Prop):ForInStep β->U->Prop
 |.done c,st=>Q c st
 |.yield c,st=>I c st
theorem forR{M:Model}{U β:Type}{a b:Nat}{f:Nat->β->StateT U Sem (ForInStep β)}(I:Nat->β->U->Prop){Q:β->U->Prop}(hs:∀i c st,a<=i->i<b->I i c st->wpS M A E s (f i c) (fs Q (I (i+1))) st)(hd:∀c st,I (max a b) c st->Q c st){c:β}{st:U}(h:I a c st):wpS M A E s (forIn [a:b] c f) Q st :=
 dD I (λi c st h1 h2 h3=>wpS_mono (hs i c st h1 h2 h3) λr aZ hq=>by cases r<;>exact hq) hd h
noncomputable abbrev le(p q:Keyed):Prop:=kn p<=kn q
theorem xP:∀a b c,le a b->le b c->le a c:=λ_ _ _=>fq
theorem vW{xs:Array Keyed}(h:xs.toList.Pairwise le){u v:Nat}(hv:v<xs.size)(lN:u<=v):kn xs[u]<=kn xs[v]:=by
 by_cases e:u=v
 ·subst e;exact fP _
 ·have:=df.mp h u v (by simp;omega) (by simpa using hv) ();simpa using this
section
variable{st aZ:SortSt}{a b o:Array Keyed}{i j n k:Nat}{p q:Keyed}
structure LI(st:SortSt)(a b:Array Keyed)(n:Nat)(o:Array Keyed)(i j:Nat)(aZ:SortSt):Prop where
 sm:Sm st aZ
 mi:MI le (a.toList++b.toList) o.toList (a.toList.drop i) (b.toList.drop j)
 hi:i+1<a.size
 hj:j<b.size
 ho:n<o.size
theorem dq{xs:Array Keyed}{i:Nat}{p:Keyed}(h:xs[i]?=some p):xs.toList.drop i=p::xs.toList.drop (i+1):=by
 obtain⟨hi,rfl⟩:=nP.mp h;exact dc hi
theorem dn{xs:Array Keyed}{i:Nat}(h:xs.size<=i):xs.toList.drop i=[]:=iu (by simpa using h)
theorem sr(xs:Array Keyed)(i:Nat):(xs.extract i xs.size).toList=xs.toList.drop i:=by
 rw[jn,List.extract_eq_drop_take,dt (ai _)]
theorem Jg{xs:Array Keyed}{i:Nat}(h:i<xs.size):xs.toList.drop i≠[]:=by simp_all
theorem fD(hm:MI le (a.toList++b.toList) o.toList (a.toList.drop i) (b.toList.drop j))(h:b.size<=j):Fn le (a.toList++b.toList) (o++a.extract i a.size++b.extract j b.size).toList:=by
 rw[bA,bA,sr,sr,dn h,cU];rw[dn h] at hm;exact hm.e1
theorem fL(hm:MI le (a.toList++b.toList) o.toList (a.toList.drop i) (b.toList.drop j))(h:i+1=a.size):Fn le (a.toList++b.toList) (o++b.extract j b.size++a.extract i a.size).toList:=by
 have e:a.toList.drop i=[a[i]]:=by rw[dc (),dn ()]
 rw[bA,bA,sr,sr,cj,e];rw[e] at hm;exact hm.e2
theorem LI.y(h:LI st a b n o i j aZ)(hp:a[i]?=some p)(hq:b[j]?=some q)(hc:kn q<=kn p) :
  (j+1=b.size->Fn le (a.toList++b.toList) (o.push q++a.extract i a.size++b.extract (j+1) b.size).toList)/\(¬j+1=b.size->LI st a b (n+1) (o.push q) i (j+1) aZ):=by
 have hm:MI le (a.toList++b.toList) (o.push q).toList (a.toList.drop i) (b.toList.drop (j+1)):=by
  have hm:=h.mi;rw[dq hp] at hm ⊢;rw[dq hq] at hm;rw[dz];exact hm.y1 (u:=[q]) λu hu z hz=>by rw[aR] at hu;subst hu;exact hm.hx xP hc z hz
 have hj:=h.hj;exact⟨λe=>fD hm (fj e.symm),λe=>⟨h.sm,hm,h.hi,by omega,by rw[iK];have:=h.ho;omega⟩⟩
theorem LI.x(h:LI st a b n o i j aZ)(hp:a[i]?=some p)(hq:b[j]?=some q)(hc:kn p<=kn q) :
  (i+1+1=a.size->Fn le (a.toList++b.toList) (o.push p++b.extract j b.size++a.extract (i+1) a.size).toList)/\(¬i+1+1=a.size->LI st a b (n+1) (o.push p) (i+1) j aZ):=by
 have hm:MI le (a.toList++b.toList) (o.push p).toList (a.toList.drop (i+1)) (b.toList.drop j):=by
  have hm:=h.mi;rw[dq hq] at hm ⊢;rw[dq hp] at hm;rw[dz];exact hm.x1 (u:=[p]) (λu hu z hz=>by rw[aR] at hu;subst hu;exact hm.hy xP hc z hz) (Jg h.hi)
 have hi:=h.hi;exact⟨λe=>fL hm e,λe=>⟨h.sm,hm,by omega,h.hj,by rw[iK];have:=h.ho;omega⟩⟩
theorem LI.gx(h:LI st a b n o i j aZ)(hq:b[j]?=some q)(h1:k<=a.size-i)(h2:∀p∈(a.toList.drop i).take k,fC false q p=true)(h3:∀p∈(a.toList.drop (i+k)).take (a.size-i-k),fC false q p=false) :
  (i+k+1=a.size->Fn le (a.toList++b.toList) (o++a.extract i (i+k)++b.extract j b.size++a.extract (i+k) a.size).toList) /\
  (i+k=a.size->Fn le (a.toList++b.toList) (o++a.extract i (i+k)++a.extract (i+k) a.size++b.extract j b.size).toList) /\
  (¬i+k+1=a.size->¬i+k=a.size->LI st a b n (o++a.extract i (i+k)) (i+k) j aZ)/\∀p,a[i+k]?=some p->kn q<=kn p:=by
 have hi:=h.hi;have XY:∀p∈(a.toList.drop i).take k,∀q∈b.toList.drop j,le p q:=λp hp q Fm=>by
  have hm:=h.mi;rw[dq hq] at Fm hm;exact hm.hy xP (DI (h2 p hp)) q Fm
 have M2:i+k<a.size->MI le (a.toList++b.toList) (o++a.extract i (i+k)).toList (a.toList.drop (i+k)) (b.toList.drop j):=λdZ=>by
  have hm:=h.mi;rw[dk a.toList i k] at hm;rw[ex];exact hm.x1 XY (Jg dZ)
 refine⟨λe=>fL (M2 ()) e,λe=>?_,λe1 e2=>⟨h.sm,M2 (),by omega,h.hj,by rw[gO];have:=h.ho;omega⟩,λp hp=>cx (xH (h3 p ?_))⟩
 ·rw[bA,bA,ex,sr,sr,dn (fj e.symm),dt (),cU,cj];rw[dt ()] at XY;exact h.mi.e0 XY
 ·rw[dt (),dq hp];exact bJ ..
theorem LI.gy(h:LI st a b n o i j aZ)(hp:a[i]?=some p)(h1:k<=b.size-j)(h2:∀q∈(b.toList.drop j).take k,fC true p q=true)(h3:∀q∈(b.toList.drop (j+k)).take (b.size-j-k),fC true p q=false) :
  (j+k=b.size->Fn le (a.toList++b.toList) (o++b.extract j (j+k)++a.extract i a.size++b.extract (j+k) b.size).toList) /\
  (¬j+k=b.size->LI st a b n (o++b.extract j (j+k)) i (j+k) aZ)/\∀q,b[j+k]?=some q->kn p<=kn q:=by
 have hj:=h.hj;have hm:MI le (a.toList++b.toList) (o++b.extract j (j+k)).toList (a.toList.drop i) (b.toList.drop (j+k)):=by
  have hm:=h.mi;rw[dk b.toList j k] at hm;rw[ex];refine hm.y1 λq hq z hz=>?_;rw[dq hp] at hz hm;exact hm.hx xP (cx (yK (h2 q hq))) z hz
 refine⟨λe=>fD hm (fj e.symm),λe=>⟨h.sm,hm,h.hi,by omega,by rw[gO];have:=h.ho;omega⟩,λq hq=>CL (h3 q ?_)⟩;rw[dt (),dq hq];exact bJ ..
theorem LI.ex(h:LI st a b n o i j aZ)(gD:∀p∈a.toList++b.toList,IK p):∃p q,a[i]?=some p/\b[j]?=some q/\IK p/\IK q:=by
 have hi:=h.hi;have hj:=h.hj;exact⟨a[i],b[j],by simp,by simp,gD _ (bw _ (by simp)),gD _ (aN _ (by simp))⟩
theorem LI.tV(h:LI st a b n o i j aZ){fW:SortSt}(q:Sm aZ fW):LI st a b n o i j fW:=⟨h.sm.trans q,h.mi,h.hi,h.hj,h.ho⟩
theorem LI.wk(h:LI st a b n o i j aZ){m:Nat}(hm:m<=n):LI st a b m o i j aZ:=⟨h.sm,h.mi,h.hi,h.hj,cZ hm h.ho⟩
theorem LI.full(h:LI st a b (a.size+b.size) o i j aZ):False:=by
 have h1:=h.mi.len;have h2:=h.ho
 grind
def LR(st:SortSt)(a b:Array Keyed)(n:Nat)(Q:Array Keyed->SortSt->Prop)(r:Option (Array Keyed))(o:Array Keyed)(i j:Nat)(aZ:SortSt):Prop:=match r with
 |some z=>Q z aZ
 |none=>LI st a b n o i j aZ
end
noncomputable abbrev nQ:Array Keyed->SortSt->Prop:=λ_ _=>False
theorem Qq{st:SortSt}{a b:Array Keyed}{Q:Array Keyed->SortSt->Prop}(hk:kindOf st=oneType')(gD:∀p∈a.toList++b.toList,IK p)(ha:0<a.size)(hb:0<b.size)(h0:MI le (a.toList++b.toList) [] a.toList b.toList)(hf:∀p∈a.toList,kn b[0]<=kn p)(h:∀z aZ,Sm st aZ->Fn le (a.toList++b.toList) z.toList->Q z aZ):wpS (model prog w) A E s (LV a b) Q st:=by
  have IA:∀p∈a.toList,IK p:=λp hp=>gD p (bw _ hp);have IB:∀p∈b.toList,IK p:=λp hp=>gD p (aN _ hp);have SA:∀x n u v (hv:v<a.size) (lN:u<=v),x<=u->v<x+n->kn a[u]<=kn a[v]:=λ_ _ u v hv lN _ _=>vW h0.sx hv lN;have SB:∀x n u v (hv:v<b.size) (lN:u<=v),x<=u->v<x+n->kn b[u]<=kn b[v]:=λ_ _ u v hv lN _ _=>vW h0.sy hv lN;have h1:MI le (a.toList++b.toList) (#[b[0]]:Array Keyed).toList (a.toList.drop 0) (b.toList.drop 1):=by
    have:b.toList=[b[0]]++b.toList.drop 1:=by have:=dc hb;simpa using this
    refine MI.y1 (o:=[]) (by rw[<- this];exact h0) ?_;intro p hp q hq;rw[aR] at hp;subst hp;exact hf q hq
  have s0:Sm st st:=⟨rfl,rfl,rfl,rfl⟩
  refine az (oI (eR ⟨rfl,?_⟩));refine az (x8 (p:=b[0]) (by simp[hb]) ?_);refine d7 (λe=>aE (h _ st s0 (fD h1 (fj (eq_of_beq e).symm)))) λe=>?_;refine d7 (λe2=>aE (h _ st s0 (fL h1 (eq_of_beq e2)))) λe2=>?_;have e:¬1=b.size:=λz=>e (bx.mpr z);have e2:¬0+1=a.size:=λz=>e2 (bx.mpr z);refine az (lX ?_);refine az (wpS_mono (forR (I:=λn (c:Option (Array Keyed)×Array Keyed×Nat×Nat×Nat)=>LR st a b n nQ c.1 c.2.1 c.2.2.1 c.2.2.2.1) (Q:=λc=>LR st a b (a.size+b.size) Q c.1 c.2.1 c.2.2.1 c.2.2.2.1) ?_ ?_ (show LI st a b 0 #[b[0]] 0 1 st from⟨s0,h1,by omega,by omega,by simp⟩)) ?_)
  · rintro n ⟨c1,o,i,j,mg⟩ ff _ hn hL;cases c1 with
    |some z=>exact hL.elim
    |none =>
    refine az (wpS_mono (forR (I:=λx (c:Option (Array Keyed)×Array Keyed×Nat×Nat×Nat×Nat)=>LR st a b (n+x) nQ c.1 c.2.1 c.2.2.1 c.2.2.2.1) (Q:=λc=>LR st a b (n+1) Q c.1 c.2.1 c.2.2.1 c.2.2.2.1) ?_ ?_ hL) ?_)
    · rintro x ⟨c1,o,i,j,ac,bc⟩ ff _ _ hL;cases c1 with
      |some z=>exact hL.elim
      |none =>
      obtain⟨p,q,hp,hq,ip,iq⟩:=hL.ex gD;refine az (x8 hq (az (x8 hp (az (xQ (hL.sm.1.trans hk) iq ip ?_)))));refine d7 (λhc=>az (x8 hq ?_)) (λhc=>az (x8 hp ?_))
      · have Y:=hL.y hp hq (cx (bj hc));refine d7 (λe=>aE (h _ _ hL.sm (Y.1 (eq_of_beq e)))) λe=>?_;have Z:=Y.2 λz=>e (bx.mpr z);exact d7 (λ_=>aE (Z.wk ())) (λ_=>aE Z)
      · have Y:=hL.x hp hq (gz.mp λz=>hc (aw z));refine d7 (λe=>aE (h _ _ hL.sm (Y.1 (eq_of_beq e)))) λe=>?_;have Z:=Y.2 λz=>e (bx.mpr z);exact d7 (λ_=>aE (Z.wk ())) (λ_=>aE Z)
    · rintro⟨c1,o,i,j,ac,bc⟩ ff hL;cases c1 with
      |some z=>exact hL.elim
      |none=>exact LI.wk hL ()
    · rintro⟨c1,o,i,j,ac,bc⟩ ff hL;cases c1 with
      |some z=>exact aE hL
      |none =>
      refine az (oI (eR ⟨rfl,?_⟩));refine az (wpS_mono (forR (I:=λx (c:Option (Array Keyed)×Array Keyed×Nat×Nat×Nat×Nat×Nat)=>LR st a b (n+1) nQ c.1 c.2.1 c.2.2.1 c.2.2.2.1) (Q:=λc=>LR st a b (n+1) Q c.1 c.2.1 c.2.2.1 c.2.2.2.1) ?_ ?_ hL) ?_)
      · rintro x ⟨c1,o,i,j,mg,ac,bc⟩ ff _ _ hL;cases c1 with
        |some z=>exact hL.elim
        |none =>
        replace hL:LI st a b (n+1) o i j ff:=hL
        lift_lets
        intro s1 out s2 ia s3 ib s4 LU s5 Xf TL Fe jp;have e1:o=out:=rfl;have e2:i=ia:=rfl;have e3:j=ib:=rfl;have e4:j+1=Fe:=rfl
        clear_value out ia ib Fe
        subst e1 e2 e3 e4;have J:∀u m,wpS (model prog w) A E s (jp u m) (fs (λc=>LR st a b (n+1) Q c.1 c.2.1 c.2.2.1 c.2.2.2.1) (λc=>LR st a b (n+1) nQ c.1 c.2.1 c.2.2.1 c.2.2.2.1)) ff:=by
          intro u m;refine az (xS (g:=m) λfW gi=>?_)
          replace hL:=hL.tV gi
          obtain⟨p,q,hp,hq,ip,iq⟩:=hL.ex gD;refine az (x8 hq ?_);refine az (sJ (hL.sm.1.trans hk) iq IA (SA _ _) (by grind) (by have:=hL.hi;omega) λk lx kr lr=>?_);have G:=hL.gx hq lx kr lr;clear lx kr lr hp ip;dsimp -zeta -zetaHave only
          lift_lets
          intro Xe uE zu ia2;have J2:∀u o i,LI st a b (n+1) o i j fW->(∀p,a[i]?=some p->kn q<=kn p)->wpS (model prog w) A E s (uE u o i) (fs (λc=>LR st a b (n+1) Q c.1 c.2.1 c.2.2.1 c.2.2.2.1) (λc=>LR st a b (n+1) nQ c.1 c.2.1 c.2.2.1 c.2.2.2.1)) fW:=by
            intro u o i hL hc;obtain⟨p,q2,hp,_,ip,_⟩:=hL.ex gD;have Y:=hL.y hp hq (hc p hp);refine az (x8 hq ?_);refine d7 (λe=>aE (h _ _ hL.sm (Y.1 (eq_of_beq e)))) λe=>?_;have Z:=Y.2 λz=>e (bx.mpr z);refine az (x8 hp ?_);refine az (sJ (hL.sm.1.trans hk) ip IB (SB _ _) (by have:=Z.hj;omega) (by have:=Z.hj;omega) λk lx kr lr=>?_);have G:=Z.gy hp lx kr lr;dsimp -zeta -zetaHave only
            lift_lets
            intro TJ uD zt ib3;have J3:∀u o j,LI st a b (n+1) o i j fW->(∀q,b[j]?=some q->kn p<=kn q)->wpS (model prog w) A E s (uD u o j) (fs (λc=>LR st a b (n+1) Q c.1 c.2.1 c.2.2.1 c.2.2.2.1) (λc=>LR st a b (n+1) nQ c.1 c.2.1 c.2.2.1 c.2.2.2.1)) fW:=by
              intro u o j hL hc;obtain⟨p2,q,_,hq,_,_⟩:=hL.ex gD;have Y:=hL.x hp hq (hc q hq);refine az (x8 hp ?_);refine d7 (λe=>aE (h _ _ hL.sm (Y.1 (eq_of_beq e)))) λe=>?_;have Z:=Y.2 λz=>e (bx.mpr z);exact d7 (λ_=>aE (Z.wk (cX _))) (λ_=>aE (Z.wk (cX _)))
            clear_value uD
            refine d7 (λ_=>d7 (λe=>aE (h _ _ hL.sm (G.1 (eq_of_beq e)))) λe=>J3 _ _ _ ((G.2.1 λz=>e (bx.mpr z)).wk (cX _)) G.2.2) (λe=>J3 _ _ _ (Z.wk (cX _)) ?_)
            simp_all
          clear_value uE
          refine d7 (λ_=>d7 (λe=>aE (h _ _ hL.sm (G.1 (eq_of_beq e)))) λe=>d7 (λe2=>aE (h _ _ hL.sm (G.2.1 (eq_of_beq e2)))) λe2=>J2 _ _ _ (G.2.2.1 (λz=>e (bx.mpr z)) (λz=>e2 (bx.mpr z))) G.2.2.2) (λe=>J2 _ _ _ hL ?_)
          simp_all
        clear_value jp
        exact d7 (λ_=>J _ _) (λ_=>J _ _)
      · rintro⟨c1,o,i,j,mg,ac,bc⟩ ff hL;cases c1 with
        |some z=>exact hL.elim
        |none=>exact hL
      · rintro⟨c1,o,i,j,mg,ac,bc⟩ ff hL;cases c1 with
        |some z=>exact aE hL
        |none=>exact az (xS λfW gi=>aE (LI.tV hL gi))
  · rintro⟨c1,o,i,j,mg⟩ ff hL;cases c1 with
    |some z=>exact hL.elim
    |none=>exact LI.wk hL ()
  · rintro⟨c1,o,i,j,mg⟩ ff hL;cases c1 with
    |some z=>exact aE hL
    |none=>exact(LI.full hL).elim
end
section
variable{prog:Program}{w:World}{A:Around}{E:Value->Shared->Prop}{s:Shared}
noncomputable abbrev ge(p q:Keyed):Prop:=kn q<=kn p
theorem xM:∀a b c,ge a b->ge b c->ge a c:=λ_ _ _ h1 h2=>fq h2 h1
def rt(xs:Array Keyed)(n:Nat):List Keyed:=(xs.toList.take n).reverse
theorem CV{xs:Array Keyed}{n:Nat}(h:n<xs.size):rt xs (n+1)=xs[n]::rt xs n:=by
 unfold rt;rw[List.take_succ_eq_append_getElem (by simpa using h),Eb];simp
theorem IH{xs:Array Keyed}{n:Nat}{p:Keyed}(h:p∈rt xs n):p∈xs.toList:=dy (cO.mp h)
theorem DA(xs:Array Keyed){k n:Nat}(h:k<=n):rt xs n=((xs.toList.drop k).take (n-k)).reverse++rt xs k:=by
 unfold rt;rw[<- Eb]
 congr 1
 have:=bG k (xs.toList.take n);rw[List.take_take,List.drop_take,Nat.min_eq_left h] at this;exact this.symm
theorem CW(o xs:Array Keyed)(k n:Nat):(o++(xs.extract k n).reverse).toList=o.toList++((xs.toList.drop k).take (n-k)).reverse:=by
 simp
theorem tm(xs:Array Keyed)(n:Nat):(xs.extract 0 n).toList=(rt xs n).reverse:=by
 simp[rt]
theorem Fn.rev{all l:List Keyed}(h:Fn ge all l):Fn le all l.reverse:=⟨(kI l).trans h.1,ee.mpr h.2⟩
theorem OV{xs:Array Keyed}{i:Nat}(h:0<i)(hi:i<xs.size):rt xs i≠[]:=by
 obtain⟨i,rfl⟩:∃m,i=m+1:=⟨i-1,by omega⟩
 rw[CV ()];exact List.cons_ne_nil _ _
theorem vT(xs:Array Keyed):rt xs xs.size=xs.toList.reverse:=by unfold rt;rw[bI (by simp)]
section
variable{st aZ:SortSt}{a b o:Array Keyed}{na nb n t:Nat}{p q:Keyed}
theorem oC{xs:Array Keyed}{n:Nat}{p:Keyed}(h0:0<n)(h:xs[n-1]?=some p):rt xs n=p::rt xs (n-1):=by
 obtain⟨n,rfl⟩:∃m,n=m+1:=⟨n-1,by omega⟩
 obtain⟨hi,rfl⟩:=nP.mp h;exact CV hi
theorem yN(xs:Array Keyed):rt xs 0=[]:=by simp[rt]
structure HI(st:SortSt)(a b:Array Keyed)(n:Nat)(na nb:Nat)(o:Array Keyed)(aZ:SortSt):Prop where
 sm:Sm st aZ
 mi:MI ge (a.toList++b.toList) o.toList (rt b nb) (rt a na)
 b1:1<nb
 b2:nb<=b.size
 a1:0<na
 a2:na<=a.size
 ho:n<o.size
theorem hD(hm:MI ge (a.toList++b.toList) o.toList (rt b nb) (rt a na))(h:na=0):Fn le (a.toList++b.toList) (a.extract 0 na++b.extract 0 nb++o.reverse).toList:=by
 subst h;rw[bA,bA,jm,tm,tm,yN];simpa using hm.e1.rev
theorem hL(hm:MI ge (a.toList++b.toList) o.toList (rt b nb) (rt a na))(h:nb=1)(hb:0<b.size):Fn le (a.toList++b.toList) (b.extract 0 nb++a.extract 0 na++o.reverse).toList:=by
 subst h;have e:rt b 1=[b[0]]:=by rw[CV hb,yN]
 rw[e] at hm;rw[bA,bA,jm,tm,tm,e];simpa using hm.e2.rev
theorem HI.y(h:HI st a b n na nb o aZ)(hp:a[na-1]?=some p)(hq:b[nb-1]?=some q)(hc:kn q<=kn p) :
  (na-1=0->Fn le (a.toList++b.toList) (a.extract 0 (na-1)++b.extract 0 nb++(o.push p).reverse).toList)/\(¬na-1=0->HI st a b (n+1) (na-1) nb (o.push p) aZ):=by
 have h1:=h.b1;have h2:=h.a2;have hm:MI ge (a.toList++b.toList) (o.push p).toList (rt b nb) (rt a (na-1)):=by
  have hm:=h.mi;rw[oC () hq] at hm ⊢;rw[oC h.a1 hp] at hm;rw[dz];exact hm.y1 (u:=[p]) λu hu z hz=>by rw[aR] at hu;subst hu;exact hm.hx xM hc z hz
 exact⟨λe=>hD hm e,λe=>⟨h.sm,hm,h1,h.b2,by omega,by omega,by rw[iK];have:=h.ho;omega⟩⟩
theorem HI.x(h:HI st a b n na nb o aZ)(hp:a[na-1]?=some p)(hq:b[nb-1]?=some q)(hc:kn p<=kn q) :
  (nb-1=1->Fn le (a.toList++b.toList) (b.extract 0 (nb-1)++a.extract 0 na++(o.push q).reverse).toList)/\(¬nb-1=1->HI st a b (n+1) na (nb-1) (o.push q) aZ):=by
 have h1:=h.b1;have h2:=h.b2;have hm:MI ge (a.toList++b.toList) (o.push q).toList (rt b (nb-1)) (rt a na):=by
  have hm:=h.mi;rw[oC h.a1 hp] at hm ⊢;rw[oC () hq] at hm;rw[dz];exact hm.x1 (u:=[q]) (λu hu z hz=>by rw[aR] at hu;subst hu;exact hm.hy xM hc z hz) (OV () ())
 exact⟨λe=>hL hm e (),λe=>⟨h.sm,hm,by omega,by omega,h.a1,h.a2,by rw[iK];have:=h.ho;omega⟩⟩
theorem HI.gy(h:HI st a b n na nb o aZ)(hq:b[nb-1]?=some q)(h1:t<=na)(h2:∀p∈(a.toList.drop 0).take t,fC false q p=true)(h3:∀p∈(a.toList.drop (0+t)).take (na-t),fC false q p=false) :
  (t=0->Fn le (a.toList++b.toList) (a.extract 0 t++b.extract 0 nb++(o++(a.extract t na).reverse).reverse).toList)/\(¬t=0->HI st a b n t nb (o++(a.extract t na).reverse) aZ)/\∀p,0<t->a[t-1]?=some p->kn p<=kn q:=by
 have h4:=h.b1;have h5:=h.a2;rw[Nat.zero_add] at h3;have hm:MI ge (a.toList++b.toList) (o++(a.extract t na).reverse).toList (rt b nb) (rt a t):=by
  have hm:=h.mi;rw[DA a h1] at hm;rw[CW];refine hm.y1 λp hp z hz=>?_;rw[oC () hq] at hz hm;exact hm.hx xM (cx (xH (h3 p (cO.mp hp)))) z hz
 refine⟨λe=>hD hm e,λe=>⟨h.sm,hm,h4,h.b2,by omega,by omega,by rw[gO];have:=h.ho;omega⟩,λp h0 hp=>DI (h2 p ?_)⟩;have:=oC h0 hp;exact cO.mp (show p∈rt a t by rw[this];exact bJ ..)
theorem HI.gx(h:HI st a b n na nb o aZ)(hp:a[na-1]?=some p)(h1:t<=nb)(h2:∀q∈(b.toList.drop 0).take t,fC true p q=true)(h3:∀q∈(b.toList.drop (0+t)).take (nb-t),fC true p q=false) :
  (t=1->Fn le (a.toList++b.toList) (b.extract 0 t++a.extract 0 na++(o++(b.extract t nb).reverse).reverse).toList)/\(t=0->Fn le (a.toList++b.toList) (a.extract 0 na++b.extract 0 t++(o++(b.extract t nb).reverse).reverse).toList) /\
  (¬t=1->¬t=0->HI st a b n na t (o++(b.extract t nb).reverse) aZ)/\∀q,0<t->b[t-1]?=some q->kn q<=kn p:=by
 have h4:=h.b1;have h5:=h.b2;rw[Nat.zero_add] at h3;have Y2:∀p∈((b.toList.drop t).take (nb-t)).reverse,∀q∈rt a na,ge p q:=λq hq z hz=>by
  have hm:=h.mi;rw[oC h.a1 hp] at hz hm;exact hm.hy xM (CL (h3 q (cO.mp hq))) z hz
 have hm:0<t->MI ge (a.toList++b.toList) (o++(b.extract t nb).reverse).toList (rt b t) (rt a na):=λh0=>by
  have hm:=h.mi;rw[DA b h1] at hm;rw[CW];refine hm.x1 Y2 λe=>?_;have:=gp List.length e;simp only[rt,List.length_reverse,List.length_take,Array.length_toList,List.length_nil] at this;omega
 refine⟨λe=>hL (hm ()) e (),λe=>?_,λe1 e2=>⟨h.sm,hm (),by omega,by omega,h.a1,h.a2,by rw[gO];have:=h.ho;omega⟩,λq h0 hq=>cx (yK (h2 q ?_))⟩
 ·subst e;have hm:=h.mi;rw[DA b h1,yN,cU] at hm;have:=(hm.e0 Y2).rev;rw[bA,bA,jm,CW,tm,tm,yN]
  simp_all
 ·have:=oC h0 hq;exact cO.mp (show q∈rt b t by rw[this];exact bJ ..)
theorem HI.ex(h:HI st a b n na nb o aZ)(gD:∀p∈a.toList++b.toList,IK p):∃p q,a[na-1]?=some p/\b[nb-1]?=some q/\IK p/\IK q:=by
 have h1:=h.b1;have h2:=h.b2;have h3:=h.a1;have h4:=h.a2;have h5:na-1<a.size:=by omega
 have h6:nb-1<b.size:=by omega
 exact⟨a[na-1],b[nb-1],cv a (na-1) h5,cv b (nb-1) h6,gD _ (bw _ (by simp)),gD _ (aN _ (by simp))⟩
theorem HI.tV(h:HI st a b n na nb o aZ){fW:SortSt}(q:Sm aZ fW):HI st a b n na nb o fW:=⟨h.sm.trans q,h.mi,h.b1,h.b2,h.a1,h.a2,h.ho⟩
theorem HI.wk(h:HI st a b n na nb o aZ){m:Nat}(hm:m<=n):HI st a b m na nb o aZ:=⟨h.sm,h.mi,h.b1,h.b2,h.a1,h.a2,cZ hm h.ho⟩
theorem HI.full(h:HI st a b (a.size+b.size) na nb o aZ):False:=by
 have h1:=h.mi.len;have h2:=h.ho;simp only[List.length_append,Array.length_toList] at h1;omega
def HR(st:SortSt)(a b:Array Keyed)(n:Nat)(Q:Array Keyed->SortSt->Prop)(r:Option (Array Keyed))(na nb:Nat)(o:Array Keyed)(aZ:SortSt):Prop:=match r with
 |some z=>Q z aZ
 |none=>HI st a b n na nb o aZ
end
theorem Qp{st:SortSt}{a b:Array Keyed}{Q:Array Keyed->SortSt->Prop}(hk:kindOf st=oneType')(gD:∀p∈a.toList++b.toList,IK p)(ha:0<a.size)(hb:0<b.size)(sa:a.toList.Pairwise le)(sb:b.toList.Pairwise le)(h0:MI ge (a.toList++b.toList) [] (rt b b.size) (rt a a.size))(hf:∀p∈b.toList,kn p<=kn a[a.size-1])(h:∀z aZ,Sm st aZ->Fn le (a.toList++b.toList) z.toList->Q z aZ):wpS (model prog w) A E s (LW a b) Q st:=by
  have IA:∀p∈a.toList,IK p:=λp hp=>gD p (bw _ hp);have IB:∀p∈b.toList,IK p:=λp hp=>gD p (aN _ hp);have SA:∀x n u v (hv:v<a.size) (lN:u<=v),x<=u->v<x+n->kn a[u]<=kn a[v]:=λ_ _ u v hv lN _ _=>vW sa hv lN;have SB:∀x n u v (hv:v<b.size) (lN:u<=v),x<=u->v<x+n->kn b[u]<=kn b[v]:=λ_ _ u v hv lN _ _=>vW sb hv lN;have rQ:a[a.size-1]?=some a[a.size-1]:=cv _ _ _;have h1:MI ge (a.toList++b.toList) (#[a[a.size-1]]:Array Keyed).toList (rt b b.size) (rt a (a.size-1)):=by
    rw[oC ha rQ] at h0;refine MI.y1 (o:=[]) (u:=[a[a.size-1]]) h0 ?_;intro p hp q hq;rw[aR] at hp;subst hp;exact hf q (IH hq)
  have s0:Sm st st:=⟨rfl,rfl,rfl,rfl⟩
  refine az (oI (eR ⟨rfl,?_⟩));refine az (x8 rQ ?_);refine d7 (λe=>aE (h _ st s0 (hD h1 (eq_of_beq e)))) λe=>?_;refine d7 (λe2=>aE (h _ st s0 (hL h1 (eq_of_beq e2) hb))) λe2=>?_;have e:¬a.size-1=0:=λz=>e (bx.mpr z);have e2:¬b.size=1:=λz=>e2 (bx.mpr z);refine az (lX ?_);refine az (wpS_mono (forR (I:=λn (c:Option (Array Keyed)×Nat×Nat×Array Keyed×Nat)=>HR st a b n nQ c.1 c.2.1 c.2.2.1 c.2.2.2.1) (Q:=λc=>HR st a b (a.size+b.size) Q c.1 c.2.1 c.2.2.1 c.2.2.2.1) ?_ ?_ (show HI st a b 0 (a.size-1) b.size #[a[a.size-1]] st from⟨s0,h1,by omega,by omega,by omega,by omega,by simp⟩)) ?_)
  · rintro n ⟨c1,na,nb,o,mg⟩ ff _ hn hL;cases c1 with
    |some z=>exact hL.elim
    |none =>
    refine az (wpS_mono (forR (I:=λx (c:Option (Array Keyed)×Nat×Nat×Array Keyed×Nat×Nat)=>HR st a b (n+x) nQ c.1 c.2.1 c.2.2.1 c.2.2.2.1) (Q:=λc=>HR st a b (n+1) Q c.1 c.2.1 c.2.2.1 c.2.2.2.1) ?_ ?_ hL) ?_)
    · rintro x ⟨c1,na,nb,o,ac,bc⟩ ff _ _ hL;cases c1 with
      |some z=>exact hL.elim
      |none =>
      obtain⟨p,q,hp,hq,ip,iq⟩:=hL.ex gD;refine az (x8 hq (az (x8 hp (az (xQ (hL.sm.1.trans hk) iq ip ?_)))));refine d7 (λhc=>az (x8 hp ?_)) (λhc=>az (x8 hq ?_))
      · have Y:=hL.y hp hq (cx (bj hc));refine d7 (λe=>aE (h _ _ hL.sm (Y.1 (eq_of_beq e)))) λe=>?_;have Z:=Y.2 λz=>e (bx.mpr z);exact d7 (λ_=>aE (Z.wk ())) (λ_=>aE Z)
      · have Y:=hL.x hp hq (gz.mp λz=>hc (aw z));refine d7 (λe=>aE (h _ _ hL.sm (Y.1 (eq_of_beq e)))) λe=>?_;have Z:=Y.2 λz=>e (bx.mpr z);exact d7 (λ_=>aE (Z.wk ())) (λ_=>aE Z)
    · rintro⟨c1,na,nb,o,ac,bc⟩ ff hL;cases c1 with
      |some z=>exact hL.elim
      |none=>exact HI.wk hL ()
    · rintro⟨c1,na,nb,o,ac,bc⟩ ff hL;cases c1 with
      |some z=>exact aE hL
      |none =>
      refine az (oI (eR ⟨rfl,?_⟩));refine az (wpS_mono (forR (I:=λx (c:Option (Array Keyed)×Nat×Nat×Array Keyed×Nat×Nat×Nat)=>HR st a b (n+1) nQ c.1 c.2.1 c.2.2.1 c.2.2.2.1) (Q:=λc=>HR st a b (n+1) Q c.1 c.2.1 c.2.2.1 c.2.2.2.1) ?_ ?_ hL) ?_)
      · rintro x ⟨c1,na,nb,o,mg,ac,bc⟩ ff _ _ hL;cases c1 with
        |some z=>exact hL.elim
        |none =>
        replace hL:HI st a b (n+1) na nb o ff:=hL
        lift_lets
        intro s1 ER s2 EO s3 out s4 LU s5 Xf TL EN jp;have e1:na=ER:=rfl;have e2:nb=EO:=rfl;have e3:o=out:=rfl;have e4:nb-1=EN:=rfl
        clear_value ER EO out EN
        subst e1 e2 e3 e4;have J:∀u m,wpS (model prog w) A E s (jp u m) (fs (λc=>HR st a b (n+1) Q c.1 c.2.1 c.2.2.1 c.2.2.2.1) (λc=>HR st a b (n+1) nQ c.1 c.2.1 c.2.2.1 c.2.2.2.1)) ff:=by
          intro u m;refine az (xS (g:=m) λfW gi=>?_)
          replace hL:=hL.tV gi
          obtain⟨p,q,hp,hq,ip,iq⟩:=hL.ex gD;refine az (x8 hq ?_);refine az (sJ (hL.sm.1.trans hk) iq IA (SA _ _) (by have:=hL.a2;omega) (by have:=hL.a1;omega) λk lx kr lr=>?_);have G:=hL.gy hq lx kr lr;clear kr lr hp ip;dsimp -zeta -zetaHave only
          lift_lets
          intro k2 Xe uE zu na2;have J2:∀u na o,HI st a b (n+1) na nb o fW->(∀p,0<na->a[na-1]?=some p->kn p<=kn q)->wpS (model prog w) A E s (uE u na o) (fs (λc=>HR st a b (n+1) Q c.1 c.2.1 c.2.2.1 c.2.2.2.1) (λc=>HR st a b (n+1) nQ c.1 c.2.1 c.2.2.1 c.2.2.2.1)) fW:=by
            intro u na o hL hc;obtain⟨p,q2,hp,_,ip,_⟩:=hL.ex gD;have Y:=hL.x hp hq (hc p hL.a1 hp);refine az (x8 hq ?_);refine d7 (λe=>aE (h _ _ hL.sm (Y.1 (eq_of_beq e)))) λe=>?_;have Z:=Y.2 λz=>e (bx.mpr z);refine az (x8 hp ?_);refine az (sJ (hL.sm.1.trans hk) ip IB (SB _ _) (by have:=Z.b2;omega) (by have:=Z.b1;omega) λk lx kr lr=>?_);have G:=Z.gx hp lx kr lr;dsimp -zeta -zetaHave only
            lift_lets
            intro k3 TJ uD zt nb3;have J3:∀u nb o,HI st a b (n+1) na nb o fW->(∀q,0<nb->b[nb-1]?=some q->kn q<=kn p)->wpS (model prog w) A E s (uD u nb o) (fs (λc=>HR st a b (n+1) Q c.1 c.2.1 c.2.2.1 c.2.2.2.1) (λc=>HR st a b (n+1) nQ c.1 c.2.1 c.2.2.1 c.2.2.2.1)) fW:=by
              intro u nb o hL hc;obtain⟨p2,q,_,hq,_,_⟩:=hL.ex gD;have Y:=hL.y hp hq (hc q (by have:=hL.b1;omega) hq);refine az (x8 hp ?_);refine d7 (λe=>aE (h _ _ hL.sm (Y.1 (eq_of_beq e)))) λe=>?_;have Z:=Y.2 λz=>e (bx.mpr z);exact d7 (λ_=>aE (Z.wk (cX _))) (λ_=>aE (Z.wk (cX _)))
            clear_value uD
            refine d7 (λ_=>d7 (λe=>aE (h _ _ hL.sm (G.1 (eq_of_beq e)))) λe=>d7 (λe2=>aE (h _ _ hL.sm (G.2.1 (eq_of_beq e2)))) λe2=>J3 _ _ _ ((G.2.2.1 (λz=>e (bx.mpr z)) (λz=>e2 (bx.mpr z))).wk (cX _)) G.2.2.2) (λe=>J3 _ _ _ (Z.wk (cX _)) ?_);have e:k=nb-1:=by omega
            subst e;exact G.2.2.2
          clear_value uE
          refine d7 (λ_=>d7 (λe=>aE (h _ _ hL.sm (G.1 (eq_of_beq e)))) λe=>J2 _ _ _ (G.2.1 (λz=>e (bx.mpr z))) G.2.2) (λe=>J2 _ _ _ hL ?_);have e:k=na:=by omega
          subst e;exact G.2.2
        clear_value jp
        exact d7 (λ_=>J _ _) (λ_=>J _ _)
      · rintro⟨c1,na,nb,o,mg,ac,bc⟩ ff hL;cases c1 with
        |some z=>exact hL.elim
        |none=>exact hL
      · rintro⟨c1,na,nb,o,mg,ac,bc⟩ ff hL;cases c1 with
        |some z=>exact aE hL
        |none=>exact az (xS λfW gi=>aE (HI.tV hL gi))
  · rintro⟨c1,na,nb,o,mg⟩ ff hL;cases c1 with
    |some z=>exact hL.elim
    |none=>exact HI.wk hL ()
  · rintro⟨c1,na,nb,o,mg⟩ ff hL;cases c1 with
    |some z=>exact aE hL
    |none=>exact(HI.full hL).elim
end
def seg(l:List Keyed)(s n:Nat):List Keyed:=(l.drop s).take n
theorem B7{l:List Keyed}{s n:Nat}(h:s+n<=l.length):(seg l s n).length=n:=by simp[seg];omega
theorem X3(l:List Keyed)(s n k:Nat):(seg l s n)[k]?=if k<n then l[s+k]? else none:=by
 unfold seg;rw[Lb];split<;>simp
theorem BK(l:List Keyed)(s n m:Nat):seg l s (n+m)=seg l s n++seg l (s+n) m:=by
 unfold seg;rw[List.take_add,gw]
theorem Cr{l l':List Keyed}{s n:Nat}(h:∀k,s<=k->k<s+n->l'[k]?=l[k]?):seg l' s n=seg l s n:=by
 apply bS;intro k;rw[X3,X3]
 grind
def put(l:List Keyed)(s:Nat)(m:List Keyed):List Keyed:=l.take s++(m++l.drop (s+m.length))
theorem M8{l:List Keyed}{s:Nat}{m:List Keyed}(h:s+m.length<=l.length)(k:Nat):(put l s m)[k]?=if s<=k/\k<s+m.length then m[k-s]? else l[k]?:=by
 unfold put;rw[yV,eL,Nat.min_eq_left ()];by_cases h1:k<s
 ·rw[aJ h1,aF (),Lb,aJ h1]
 ·rw[aF h1,yV];by_cases h2:k-s<m.length
  ·rw[aJ h2,aJ ()]
  ·rw[aF h2,aF (),List.getElem?_drop];congr 1;omega
theorem Ts{l:List Keyed}{s:Nat}{m:List Keyed}(h:s+m.length<=l.length):seg (put l s m) s m.length=m:=by
 apply bS;intro k;rw[X3,M8 h];by_cases hk:k<m.length
 ·grind
 simp_all
theorem a18{l:List Keyed}{s:Nat}{m:List Keyed}(h:m.Perm (seg l s m.length)):(put l s m).Perm l:=by
 have e:l=l.take s++(seg l s m.length++l.drop (s+m.length)):=by
  unfold seg;rw[<- gw,bG,bG]
 conv=>rhs;rw[e]
 exact ei _ (fo _ h)
theorem JM:∀(m:List Keyed) (s j:Nat) (a:Array Keyed),s+j+m.length<=a.size->((m.zipIdx j).foldl (λa (p:Keyed×Nat)=>a.setIfInBounds (s+p.2) p.1) a).toList=put a.toList (s+j) m
 |[],s,j,a,h=>by simp[put]
 |p::m,s,j,a,h=>by
  rw[List.zipIdx_cons,List.foldl_cons,JM m s (j+1) _ (by grind)];have h1:s+j+(p::m).length<=a.toList.length:=by simpa using h
  have h2:s+(j+1)+m.length<=(a.setIfInBounds (s+j) p).toList.length:=by grind
  apply bS;intro k;rw[M8 h1,M8 h2];simp only[Array.toList_setIfInBounds,List.getElem?_set,List.length_cons,Array.length_toList] at h ⊢;by_cases h3:s+(j+1)<=k/\k<s+(j+1)+m.length
  ·rw[aJ h3,aJ (),show k-(s+j)=(k-(s+(j+1)))+1 by omega,List.getElem?_cons_succ]
  ·rw[aF h3];by_cases e:s+j=k
   ·subst e;rw[aJ rfl,aJ (),aJ (),Nat.sub_self];rfl
   ·rw[aF e,aF ()]
theorem a17{l z:List Keyed}{s k r:Nat}(h:s+k+z.length+r<=l.length):put l (s+k) z=put l s (seg l s k++(z++seg l (s+k+z.length) r)):=by
 have e:(seg l s k++(z++seg l (s+k+z.length) r)).length=k+z.length+r:=by
  rw[bE,bE,B7 (),B7 ()];omega
 have e2:l.drop (s+k+z.length)=seg l (s+k+z.length) r++l.drop (s+(k+z.length+r)):=by
  unfold seg;rw[show s+(k+z.length+r)=s+k+z.length+r by omega,<- gw (i:=r),bG]
 unfold put;rw[e,List.take_add,e2];simp only[seg,List.append_assoc]
theorem SK{a1 a2 b1 b2 m:List Keyed}(sa:(a1++a2).Pairwise le)(sb:(b1++b2).Pairwise le)(hm:Fn le (a2++b1) m)(h1:∀p∈a1,∀q∈b1++b2,le p q)(h2:∀p∈a2,∀q∈b2,le p q):(a1++(m++b2)).Pairwise le:=by
 obtain⟨x1,x2,x3⟩:=aQ.mp sa;obtain⟨y1,y2,y3⟩:=aQ.mp sb;have mm:∀p∈m,p∈a2\/p∈b1:=λp hp=>aO.mp (hm.1.mem_iff.mp hp);refine aQ.mpr ⟨x1,aQ.mpr ⟨hm.2,y2,λp hp q hq=>?_⟩,λp hp q hq=>?_⟩
 ·rcases mm p hp with hp|hp
  ·exact h2 p hp q hq
  ·exact y3 p hp q hq
 ·rcases aO.mp hq with hq|hq
  ·rcases mm q hq with hq|hq
   ·exact x3 p hp q hq
   ·exact h1 p hp q (bw _ hq)
  ·exact h1 p hp q (aN _ hq)
def EV:Nat->StateT SortSt Sem Bool:=sortPriv% PySem.Builtin.mergeAt
section
variable{prog:Program}{w:World}{A:Around}{E:Value->Shared->Prop}{s:Shared}
theorem ZS{U:Type}{M:Model}{x st:U}{Q:PUnit->U->Prop}(h:Q ⟨⟩ x):wpS M A E s (set x:StateT U Sem PUnit) Q st:=by
 exact au ⟨rfl,h⟩
theorem Qo{st:SortSt}{i sa na pw sb nb rH:Nat}{Q:Bool->SortSt->Prop}(hk:kindOf st=oneType')(Ai:failedOf st=none)(gD:∀p∈(arrOf st).toList,IK p)(e1:(pendingOf st)[i]?=some (sa,na,pw))(e2:(pendingOf st)[i+1]?=some (sb,nb,rH))(Oa:sb=sa+na)(hn:sb+nb<=(arrOf st).size)(NL:0<na)(h0b:0<nb)(ha:(seg (arrOf st).toList sa na).Pairwise le)(hb:(seg (arrOf st).toList sb nb).Pairwise le)(h:∀ aZ m,m.length=na + nb->m.Pairwise le->m.Perm (seg (arrOf st).toList sa (na + nb))->kindOf aZ=oneType'->failedOf aZ=none->(arrOf aZ).toList=put (arrOf st).toList sa m ->
   pendingOf aZ=((pendingOf st).setIfInBounds i (sa,na + nb,pw)).eraseIdxIfInBounds (i + 1)->Q true aZ):wpS (model prog w) A E s (EV i) Q st:=by
 obtain⟨kd,X,pd,mg,fl⟩:=st;dsimp only[arrOf,kindOf,pendingOf,failedOf] at *;subst hk Ai;refine az (lX ?_);rw[e1,e2];refine az (m:=set _) (ZS ?_);have hsz:X.toList.length=X.size:=by simp
 have rW:sb<X.size:=by omega
 refine az (x8 (p:=X[sb]) (cv _ sb rW) ?_);have IX:∀t (ht:t<X.size),IK X[t]:=λt ht=>gD _ (by simp);have wL:∀u n,u+n<=X.size->(seg X.toList u n).Pairwise le->∀i j (hj:j<X.size) (iE:i<=j),u<=i->j<u+n->kn X[i]<=kn X[j]:=by
  intro u n hun hp i j hj iE h1 h2;by_cases e:i=j
  ·subst e;exact fP _
  ·have l1:=B7 (l:=X.toList) (s:=u) (n:=n) ();have:=df.mp hp (i-u) (j-u) () () ();simp only[seg,List.getElem_take,List.getElem_drop,show u+(i-u)=i by omega,show u+(j-u)=j by omega,Array.getElem_toList] at this;exact this
 refine az (sJ (xs:=X) rfl (IX sb rW) gD (wL sa na () ha) () NL λk lx kr lr=>?_);have ea:seg X.toList sa na=seg X.toList sa k++seg X.toList (sa+k) (na-k):=by rw[<- BK];congr 1;omega
 have vn:seg X.toList sa (na+nb)=seg X.toList sa na++seg X.toList sb nb:=by rw[BK,Oa]
 have hV:∀q∈seg X.toList sb nb,kn X[sb]<=kn q:=by
  intro q hq;obtain⟨t,ht,rfl⟩:=bt.mp hq;rw[B7 ()] at ht;simp only[seg,List.getElem_take,List.getElem_drop,Array.getElem_toList];exact wL sb nb hn hb sb (sb+t) () () () ()
 have X1:∀p∈seg X.toList sa k,∀q∈seg X.toList sb nb,le p q:=λp hp q hq=>fq (DI (kr p hp)) (hV q hq);have keep:(∀p∈seg X.toList (sa+k) (na-k),∀q∈seg X.toList sb nb,le p q)->∀aZ,kindOf aZ=oneType'->failedOf aZ=none->arrOf aZ=X->pendingOf aZ=(pd.setIfInBounds i (sa,na+nb,pw)).eraseIdxIfInBounds (i+1)->Q true aZ:=by
  intro hc aZ g1 g2 g3 g4;have l2:(seg X.toList sa (na+nb)).length=na+nb:=B7 ();refine h aZ (seg X.toList sa (na+nb)) l2 ?_ (nO _) g1 g2 ?_ g4
  ·rw[vn];refine aQ.mpr ⟨ha,hb,λp hp q hq=>?_⟩;rw[ea] at hp;rcases aO.mp hp with hp|hp
   ·exact X1 p hp q hq
   ·exact hc p hp q hq
  ·show(arrOf aZ).toList=_;rw[g3];unfold put;rw[l2];unfold seg;rw[<- gw,bG,bG]
 refine d7 (λhe=>?_) (λhe=>?_)
 ·have he:na-k=0:=by simpa using he
  refine aE (keep (λp hp=>?_) _ rfl rfl rfl rfl);rw[he] at hp;simp[seg] at hp
 have Ft:0<na-k:=by simp at he;omega
 rw[show sa+k+(na-k)-1=sb-1 by omega];have rQ:sb-1<X.size:=by omega
 refine az (x8 (p:=X[sb-1]) (cv X (sb-1) rQ) ?_);refine az (sJ (xs:=X) rfl (IX _ rQ) gD (wL sb nb hn hb) hn () λt ht1 Fg Mt=>?_);have xn:∀p∈seg X.toList (sa+k) (na-k),kn p<=kn X[sb-1]:=by
  intro q hq;obtain⟨u,hu,rfl⟩:=bt.mp hq;rw[B7 ()] at hu;simp only[seg,List.getElem_take,List.getElem_drop,Array.getElem_toList];exact wL sa na () ha (sa+k+u) (sb-1) rQ () () ()
 have eb:seg X.toList sb nb=seg X.toList sb t++seg X.toList (sb+t) (nb-t):=by rw[<- BK];congr 1;omega
 have X2:∀p∈seg X.toList (sa+k) (na-k),∀q∈seg X.toList (sb+t) (nb-t),le p q:=λp hp q hq=>fq (xn p hp) (CL (Mt q hq));dsimp only;refine d7 (λhe=>?_) (λhe=>?_)
 ·have he:t=0:=by simpa using he
  subst he;refine aE (keep (λp hp q hq=>?_) _ rfl rfl rfl rfl);exact X2 p hp q hq
 have ht:0<t:=by grind
 have oq:(X.extract (sa+k) sb).toList=seg X.toList (sa+k) (na-k):=by
  rw[jn,List.extract_eq_drop_take];congr 1;omega
 have oo:(X.extract sb (sb+t)).toList=seg X.toList sb t:=by
  rw[jn,List.extract_eq_drop_take];congr 1;omega
 rw[ea] at ha;rw[eb] at hb;have s1:=(aQ.mp ha).2.1;have s2:=(aQ.mp hb).1;have z1:(X.extract (sa+k) sb).size=na-k:=by simp;omega
 have z2:(X.extract sb (sb+t)).size=t:=by simp;omega
 have sub:∀u n p,p∈seg X.toList u n->IK p:=λu n p hp=>gD p (yT (dy hp));have Fd:∀p∈(X.extract (sa+k) sb).toList++(X.extract sb (sb+t)).toList,IK p:=by
  rw[oq,oo];intro p hp;rcases aO.mp hp with hp|hp
  ·exact sub _ _ p hp
  ·exact sub _ _ p hp
 have y0:∀h,kn ((X.extract sb (sb+t))[0]'h)=kn X[sb]:=λh=>by simp
 have xl:∀h,kn ((X.extract (sa+k) sb)[(X.extract (sa+k) sb).size-1]'h)=kn X[sb-1]:=λh=>by
  simp only[Array.getElem_extract];congr 2;omega
 have lst:∀z,(seg X.toList (sa+k) (na-k)).getLast?=some z->kn z=kn X[sb-1]:=by
  intro z hz;rw[List.getLast?_eq_getElem?,B7 (),X3,aJ (),show sa+k+(na-k-1)=sb-1 by omega,ag ()] at hz;cases hz;simp
 refine d7 (λhc=>?_) (λhc=>?_);refine az (Qq rfl Fd () () ⟨nO _,List.Pairwise.nil,by rw[oq];exact s1,by rw[oo];exact s2,λp hp=>absurd hp ic,λq hq z hz=>?_⟩ (λp hp=>?_) λz aZ hs hz=>?_)
 ·rw[oq] at hz;rw[oo] at hq;show kn q<=kn z;rw[lst z hz];exact cx (yK (Fg q hq))
 ·rw[oq] at hp;rw[y0];exact cx (xH (lr p hp))
 rotate_left
 refine az (Qp rfl Fd () () (by rw[oq];exact s1) (by rw[oo];exact s2) ⟨?_,List.Pairwise.nil,?_,?_,λp hp=>absurd hp ic,λq hq z hz=>?_⟩ (λp hp=>?_) λz aZ hs hz=>?_)
 ·rw[vT,vT,List.nil_append];exact(List.Perm.append (kI _) (kI _)).trans iW
 ·rw[vT,oo];exact ee.mpr s2
 ·rw[vT,oq];exact ee.mpr s1
 ·have hq:=IH hq;rw[oq] at hq;rw[vT,List.getLast?_reverse,oo,List.head?_eq_getElem?,X3,aJ ht,ag ()] at hz;cases hz;exact cx (by simpa using xH (lr q hq))
 ·rw[oo] at hp;rw[xl];exact cx (yK (Fg p hp))
 all_goals
  refine az (lW (az (lX (aE ?_))));show Q (failedOf aZ).isNone _;rw[hs.2.2.2];have hzl:z.toList.length=na-k+t:=by rw[hz.1.length_eq,bE,oq,oo,B7 (),B7 ()]
  rw[oq,oo] at hz;have hA:(seg X.toList sa k).length=k:=B7 ();have hB:(seg X.toList (sb+t) (nb-t)).length=nb-t:=B7 ();refine h _ (seg X.toList sa k++(z.toList++seg X.toList (sb+t) (nb-t))) (by rw[bE,bE,hA,hB];omega) (SK ha hb hz (by rw[<- eb];exact X1) X2) ?_ hs.1 hs.2.2.2 ?_ hs.2.2.1
  ·rw[vn,ea,eb,cj];refine ei _ ?_;rw[<- cj];exact fo _ hz.1
  ·have:=JM z.toList (sa+k) 0 (arrOf aZ) (by rw[hs.2.1];show sa+k+0+_<=X.size;omega);refine Eq.trans this ?_;rw[hs.2.1];have:=a17 (l:=X.toList) (z:=z.toList) (s:=sa) (k:=k) (r:=nb-t) ();rw[show sa+k+z.toList.length=sb+t by omega] at this;exact this
end
structure Nr(st aZ:SortSt)(lo hi:Nat):Prop where
 kd:kindOf aZ=oneType'
 fl:failedOf aZ=none
 pd:pendingOf aZ=pendingOf st
 pm:(arrOf aZ).Perm (arrOf st)
 out:∀k,k<lo\/hi<=k->(arrOf aZ)[k]?=(arrOf st)[k]?
theorem Nr.arr{st aZ:SortSt}{lo hi:Nat}(h:Nr st aZ lo hi){xs:Array Keyed}(hp:xs.Perm (arrOf aZ))(ho:∀k,k<lo\/hi<=k->xs[k]?=(arrOf aZ)[k]?):Nr st (setArr aZ xs) lo hi :=
 ⟨h.kd,h.fl,h.pd,hp.trans h.pm,λk hk=>(ho k hk).trans (h.out k hk)⟩
def SB(xs:Array Keyed)(lo m:Nat):Prop:=∀i j,lo<=i->i<=j->j<lo+m->K xs i<=K xs j
def ND(xs:Array Keyed)(lo m:Nat):Prop:=∀i j,lo<=i->i<=j->j<lo+m->K xs j<=K xs i
theorem SB.one(xs:Array Keyed)(lo:Nat):SB xs lo 1:=λi j a b c=>by
 grind
theorem SB.more{xs:Array Keyed}{lo x:Nat}(h:SB xs lo x)(h0:0<x)(hc:¬K xs (lo+x)<K xs (lo+x-1)):SB xs lo (x+1):=by
 intro i j h1 h2 h3;by_cases hj:j<lo+x
 ·exact h i j h1 h2 hj
 ·have:j=lo+x:=by omega
  subst this;by_cases hi:i=lo+x
  ·subst hi;exact fP _
  ·exact fq (h i (lo+x-1) h1 () ()) (gz.mp hc)
theorem ND.more{xs:Array Keyed}{lo x:Nat}(h:ND xs lo x)(h0:0<x)(hc:K xs (lo+x)<=K xs (lo+x-1)):ND xs lo (x+1):=by
 intro i j h1 h2 h3;by_cases hj:j<lo+x
 ·exact h i j h1 h2 hj
 ·have:j=lo+x:=by omega
  subst this;by_cases hi:i=lo+x
  ·subst hi;exact fP _
  ·exact fq hc (h i (lo+x-1) h1 () ())
theorem ND.same{xs ys:Array Keyed}{lo m:Nat}(h:ND xs lo m)(hk:∀k,K ys k=K xs k):ND ys lo m:=λi j a b c=>by rw[hk,hk];exact h i j a b c
section
variable{prog:Program}{w:World}{A:Around}{E:Value->Shared->Prop}{s:Shared}
theorem Gy{xs:Array Keyed}{i:Nat}(hi:i<xs.size)(hk:IK xs[i]):∃t q,xs[i]?=some (.int (K xs i) t,q):=by
 obtain⟨n,t,e⟩:=hk;refine⟨t,xs[i].2,?_⟩;have e2:xs[i]?=some xs[i]:=cv _ i hi;have e3:xs[i]=(.int n t,xs[i].2):=Prod.ext e rfl;unfold K;rw[e2,e3]
 rfl
theorem uw{st:SortSt}{i j:Nat}{Q:Option Bool->SortSt->Prop}(hk:kindOf st=oneType')(h0:∀p∈(arrOf st).toList,IK p)(hi:i<(arrOf st).size)(hj:j<(arrOf st).size)(h:Q (some (decide (K (arrOf st) i<K (arrOf st) j))) st) :
  wpS (model prog w) A E s (ltAt' i j) Q st:=by
 obtain⟨t,p,e1⟩:=Gy hi (h0 _ (by simp));obtain⟨u,q,e2⟩:=Gy hj (h0 _ (by simp));exact wpS_ltAt hk e1 e2 h
theorem PD{st:SortSt}{lo n ok:Nat}{Q:Bool->SortSt->Prop}(hk:kindOf st=oneType')(hf:failedOf st=none)(h0:∀p∈(arrOf st).toList,IK p)(hn:lo+n<=(arrOf st).size)(cu:ok<=n)(hs:SB (arrOf st) lo ok)(h:∀aZ,Nr st aZ lo (lo+n)->SB (arrOf aZ) lo n->Q true aZ):wpS (model prog w) A E s (binarySort' lo n ok) Q st:=by
 refine az (wpS_mono (dD (I:=λk (c:Option Bool × Unit) aZ=>c=(none,Unit.unit)/\Nr st aZ lo (lo + n)/\SB (arrOf aZ) lo (min k n))
  (Q:=λc aZ=>c=(none,Unit.unit)/\Nr st aZ lo (lo + n)/\SB (arrOf aZ) lo n) ?_ ?_ ⟨rfl,⟨hk,hf,rfl,mF _,λ_ _=>rfl⟩,?_⟩) ?_)
 ·rintro k c aZ hak hkn ⟨rfl,hN,iP⟩;rw[show min k n=k by omega] at iP;have hsz:(arrOf aZ).size=(arrOf st).size:=hN.pm.size_eq;have sk:∀p∈(arrOf aZ).toList,IK p:=λp hp=>h0 p ((bU.mp hN.pm).mem_iff.mp hp);refine az (wpS_mono (dD (I:=λx (c:Option Bool × Nat × Nat) gW=>gW=aZ/\c.1=none/\c.2.1 <= c.2.2/\c.2.2 <= k/\c.2.2 - c.2.1 <= k - x /\
    (∀ i,lo <= i->i < lo + c.2.1->K (arrOf aZ) i <= K (arrOf aZ) (lo + k))/\(∀ i,lo + c.2.2 <= i->i < lo + k->K (arrOf aZ) (lo + k) < K (arrOf aZ) i))
   (Q:=λc gW=>gW=aZ/\c.1=none/\c.2.1<=k/\(∀i,lo<=i->i<lo+c.2.1->K (arrOf aZ) i<=K (arrOf aZ) (lo+k))/\(∀i,lo+c.2.1<=i->i<lo+k->K (arrOf aZ) (lo+k)<K (arrOf aZ) i)) ?_ ?_
   ⟨rfl,rfl,bP _,ai _,ai _,λi h1 h2=>absurd h2 (by grind),λi h1 h2=>absurd h2 (by grind)⟩) ?_)
  ·rintro x ⟨c1,l,r⟩ gW _ hx ⟨rfl,rfl,q1,q2,q3,q4,q5⟩;dsimp only at q1 q2 q3 q4 q5;refine d7 (λkA=>?_) (λkA=>?_)
   ·have:l=r:=by grind
    subst this;exact aE ⟨rfl,rfl,q2,q4,q5⟩
   ·have kA:l<r:=by simp_all
    refine az (uw hN.kd sk () (by grind) ?_);refine d7 (λhc=>?_) (λhc=>?_)
    ·have hc:=bj hc;exact aE ⟨rfl,rfl,by grind,by dsimp only;omega,by dsimp only;omega,q4,λi h1 h2=>Int.lt_of_lt_of_le hc (iP _ _ () h1 h2)⟩
    ·have hc:=gz.mp λz=>hc (aw z);exact aE ⟨rfl,rfl,by grind,q2,by dsimp only;omega,λi h1 h2=>fq (iP i (lo+(l+r) / 2) h1 (by grind) ()) hc,q5⟩
  ·grind
  ·rintro⟨c1,l,r⟩ gW ⟨rfl,rfl,q1,q2,q3⟩;dsimp only at q1 q2 q3 ⊢;have rR:lo+k<(arrOf gW).size:=by omega
   refine az (lW (aE ⟨rfl,hN.arr (bubble_perm _ (lo+k) (lo+k-(lo+l))) (λt ht=>?_),?_⟩))
   ·show(bubble (arrOf gW) (lo+k) (lo+k-(lo+l)))[t]?=_;rw[getElem?_bubble rR _ (),aF (),aF ()]
   ·intro i j h1 iE hj;show K (bubble (arrOf gW) (lo+k) (lo+k-(lo+l))) i<=K (bubble (arrOf gW) (lo+k) (lo+k-(lo+l))) j;rw[K_bubble rR (),K_bubble rR (),show lo+k-(lo+k-(lo+l))=lo+l by omega]
    repeat' split
    all_goals first
     |(exfalso;omega)
     |exact fP _
     |exact q2 _ () ()
     |exact cx (q3 _ () ())
     |exact iP _ _ () () ()
 ·rintro c aZ ⟨rfl,hN,iP⟩;refine⟨rfl,hN,?_⟩
  grind
 ·intro i j h1 iE hj;by_cases e:ok=0
  ·grind
  ·exact hs i j h1 iE ()
 ·rintro c aZ ⟨rfl,hN,iP⟩;exact aE (h aZ hN iP)
theorem Nr.wX{st aZ:SortSt}{lo hi i j:Nat}(h:Nr st aZ lo hi)(h1:lo<=i)(h2:j<=hi)(h3:j<=(arrOf aZ).size):Nr st (setArr aZ (mirror (arrOf aZ) i j ((j-i) / 2))) lo hi :=
 h.arr (mirror_perm _ _ _ _) λk hk=>by rw[getElem?_mirror_all h3,aF ()]
theorem Rk{st:SortSt}{lo gA:Nat}{Q:Option Nat->SortSt->Prop}(hk:kindOf st=oneType')(hf:failedOf st=none)(h0:∀p∈(arrOf st).toList,IK p)(hn:lo+gA<=(arrOf st).size)(h1:1<=gA)(h:∀m aZ,Nr st aZ lo (lo+gA)->1<=m->m<=gA->SB (arrOf aZ) lo m->Q (some m) aZ):wpS (model prog w) A E s (countRun' lo gA) Q st:=by
 have asc:∀aZ n,Nr st aZ lo (lo+gA)->1<=n->n<=gA->SB (arrOf aZ) lo n->∀(F:Nat->Option (Option Nat)×Nat->StateT SortSt Sem (ForInStep (Option (Option Nat)×Nat))),
   (F=λ_ c=>ltAt' (lo + c.2) (lo + c.2 - 1) >>= λr=>match r with
    |some b=>if b=true then pure (.done (none,c.2)) else pure (.yield (none,c.2+1))
    | x=>pure (.done (some none,c.2))) ->
   wpS (model prog w) A E s (forIn [n:gA] (none,n) F) (λc gW=>gW=aZ/\c.1=none/\1<=c.2/\c.2<=gA/\SB (arrOf aZ) lo c.2/\(c.2=gA\/K (arrOf aZ) (lo+c.2)<K (arrOf aZ) (lo+c.2-1))) aZ:=by
  intro aZ n hN h2 h3 hs F e;subst e;have hsz:(arrOf aZ).size=(arrOf st).size:=hN.pm.size_eq;have sk:∀p∈(arrOf aZ).toList,IK p:=λp hp=>h0 p ((bU.mp hN.pm).mem_iff.mp hp);refine dD (I:=λx c gW=>gW=aZ/\c=(none,x)/\1<=x/\SB (arrOf aZ) lo x) ?_ ?_ ⟨rfl,rfl,h2,hs⟩
  ·rintro x c gW FN Ff ⟨rfl,rfl,q1,q2⟩;refine az (uw hN.kd sk () () ?_);refine d7 (λhc=>?_) (λhc=>?_)
   ·exact aE ⟨rfl,rfl,q1,by grind,q2,.inr (bj hc)⟩
   ·exact aE ⟨rfl,rfl,by omega,q2.more () λz=>hc (aw z)⟩
  grind
 have N0:Nr st st lo (lo+gA):=⟨hk,hf,rfl,mF _,λ_ _=>rfl⟩
 refine az (wpS_mono (asc st 1 N0 (ai _) h1 (SB.one _ _) _ rfl) ?_);rintro⟨c1,n⟩ ff ⟨rfl,rfl,xf,my,hs,Fq⟩;dsimp only at xf my hs Fq ⊢;refine d7 (λhe=>aE (h n ff N0 xf my hs)) (λhe=>?_);have hnn:n<gA:=by grind
 have dZ:K (arrOf ff) (lo+n)<K (arrOf ff) (lo+n-1):=Fq.resolve_left ();refine d7 (λhg=>?_) (λhg=>?_);refine az (uw hk h0 () () ?_);refine d7 (λhc=>aE (h n ff N0 xf my hs)) (λhc=>?_);have hc:=gz.mp λz=>hc (aw z);have kU:∀k,lo<=k->k<lo+n->K (arrOf ff) k=K (arrOf ff) (lo+n-1):=by
  intro k lx kr;have a1:=hs lo k (ai _) lx kr;have a2:=hs k (lo+n-1) lx () ();omega
 refine az (wpS_reverse ?_);have hN:=N0.wX (i:=lo) (j:=lo+n) (ai _) () ();have hD:ND (arrOf (setArr ff (mirror (arrOf ff) lo (lo+n) ((lo+n-lo) / 2)))) lo (n+1):=by
  refine ND.more (x:=n) (ND.same (xs:=arrOf ff) (λi j a b c=>?_) λk=>jz () kU k) () ?_
  ·rw[kU i a (),kU j () c];exact fP _
  ·rw[jz () kU,jz () kU];exact cx dZ
 rotate_left
 have zS:n=1:=by omega
 subst zS;have hN:=N0;have hD:ND (arrOf ff) lo (1+1):=ND.more (x:=1) (λi j a b c=>by grind) ∅ (cx dZ)
 all_goals
  refine az (oI (eR ⟨rfl,?_⟩));refine az (wpS_mono (dD (I:=λx (c:Option (Option Nat) × Nat × Nat) aZ=>c.1=none/\c.2.1=x/\Nr ff aZ lo (lo + gA)/\ND (arrOf aZ) lo x/\c.2.2 + 1 <= x/\∀ i,lo + x - (c.2.2 + 1) <= i->i < lo + x->K (arrOf aZ) i=K (arrOf aZ) (lo + x - 1))
   (Q:=λc aZ=>c.1=none/\1<=c.2.1/\c.2.1<=gA/\Nr ff aZ lo (lo+gA)/\ND (arrOf aZ) lo c.2.1/\c.2.2+1<=c.2.1/\∀i,lo+c.2.1-(c.2.2+1)<=i->i<lo+c.2.1->K (arrOf aZ) i=K (arrOf aZ) (lo+c.2.1-1)) ?_ ?_
   ⟨rfl,rfl,hN,hD,by dsimp only;omega,λi a b=>by dsimp only at a;congr 1;omega⟩) ?_)
  ·rintro x ⟨c1,c2,q⟩ aZ FN Ff ⟨rfl,rfl,lB,iP,hq,kB⟩;dsimp only at FN Ff iP hq kB ⊢;have hsz:(arrOf aZ).size=(arrOf ff).size:=lB.pm.size_eq;have sk:∀p∈(arrOf aZ).toList,IK p:=λp hp=>h0 p ((bU.mp lB.pm).mem_iff.mp hp);refine az (uw lB.kd sk (by rw[hsz];omega) (by rw[hsz];omega) ?_);refine d7 (λhc=>?_) (λhc=>?_)
   ·have hm:=iP.more () (cx (bj hc));refine d7 (λhg=>?_) (λhg=>?_)
    ·exact az (wpS_reverse (aE ⟨rfl,rfl,lB.wX () () (by rw[hsz];omega),hm.same λk=>jz (by rw[hsz];omega) kB k,by dsimp only;omega,λi a b=>by dsimp only at a;congr 1;omega⟩))
    ·exact aE ⟨rfl,rfl,lB,hm,by dsimp only;omega,λi a b=>by dsimp only at a;congr 1;omega⟩
   ·have hc:=gz.mp λz=>hc (aw z);refine az (uw lB.kd sk (by rw[hsz];omega) (by rw[hsz];omega) ?_);refine d7 (λhd=>aE ⟨rfl,by dsimp only;omega,by dsimp only;omega,lB,iP,hq,kB⟩) (λhd=>?_);have hd:=gz.mp λz=>hd (aw z);refine aE ⟨rfl,rfl,lB,iP.more () hd,by dsimp only;omega,λi a b=>?_⟩;rw[show lo+(c2+1)-1=lo+c2 by omega];by_cases e:i=lo+c2
    ·rw[e]
    ·rw[kB i (by dsimp only at a;omega) ()];omega
  ·rintro⟨c1,c2,q⟩ aZ ⟨rfl,e2,lB,iP,hq,kB⟩;dsimp only at e2;have e3:c2=gA:=by omega
   rw[<- e2] at iP hq kB;exact⟨rfl,by dsimp only;omega,by dsimp only;omega,lB,iP,hq,kB⟩
  ·rintro⟨c1,n,q⟩ aZ ⟨rfl,qf,Fv,lB,iP,hq,kB⟩;dsimp only at qf Fv iP hq kB ⊢;have hsz:(arrOf aZ).size=(arrOf ff).size:=lB.pm.size_eq;refine d7 (λhg=>az (wpS_reverse ?_)) (λhg=>?_);have lU:=lB.wX (i:=lo+n-(q+1)) (j:=lo+n) () () (by rw[hsz];omega);have gi:ND (arrOf (setArr aZ (mirror (arrOf aZ) (lo+n-(q+1)) (lo+n) ((lo+n-(lo+n-(q+1))) / 2)))) lo n:=iP.same λk=>jz (by rw[hsz];omega) kB k;generalize setArr aZ (mirror (arrOf aZ) (lo+n-(q+1)) (lo+n) ((lo+n-(lo+n-(q+1))) / 2))=ji at lU gi ⊢
   rotate_left
   have lU:=lB;have gi:=iP
   all_goals
    have hsz2:=lU.pm.size_eq;refine az (wpS_reverse ?_);have rZ:=lU.wX (i:=lo) (j:=lo+n) (ai _) () ();refine az (wpS_mono (asc _ n rZ qf Fv (λi j a b c=>?_) _ rfl) ?_)
    ·show K (mirror _ lo (lo+n) _) i<=K (mirror _ lo (lo+n) _) j;rw[K_mirror (),K_mirror (),aJ (),aJ ()];exact gi _ _ () () ()
    ·rintro⟨c1,m⟩ st4 ⟨rfl,rfl,q1,q2,q3,_⟩;exact aE (h m _ rZ q1 q2 q3)
end
def Ch(l:List Keyed):List (Nat×Nat×Nat)->Nat->Nat->Prop
 |[],a,b=>a=b
 |(s,n,_)::r,a,b=>s=a/\0<n/\(seg l a n).Pairwise le/\Ch l r (a+n) b
theorem Ch.le{l:List Keyed}:∀{p:List (Nat×Nat×Nat)} {a b:Nat},Ch l p a b->a+p.length<=b
 |[],a,b,h=>fj h
 |(s,n,w)::r,a,b,⟨_,h1,_,h2⟩=>by have:=Ch.le h2;simp only[List.length_cons];omega
theorem Ch.congr{l l':List Keyed}:∀{p:List (Nat×Nat×Nat)} {a b:Nat},Ch l p a b->(∀k,a<=k->k<b->l'[k]?=l[k]?)->Ch l' p a b
 |[],a,b,h,_=>h
 |(s,n,w)::r,a,b,⟨h0,h1,h2,h3⟩,hc=>by
  have:=Ch.le h3;exact⟨h0,h1,by rw[Cr λk a b=>hc k a ()];exact h2,Ch.congr h3 λk a b=>hc k () b⟩
theorem Ch.push{l:List Keyed}{n w:Nat}:∀{p:List (Nat×Nat×Nat)} {a b:Nat},Ch l p a b->0<n->(seg l b n).Pairwise TS.le->Ch l (p++[(b,n,w)]) a (b+n)
 |[],a,b,h,h1,h2=>by cases h;exact⟨rfl,h1,h2,rfl⟩
 |(s,m,v)::r,a,b,⟨g0,g1,g2,g3⟩,h1,h2=>⟨g0,g1,g2,Ch.push g3 h1 h2⟩
theorem Ch.pow{l:List Keyed}{f:Nat×Nat×Nat->Nat×Nat×Nat}(hf:∀x,(f x).1=x.1/\(f x).2.1=x.2.1):∀{p:List (Nat×Nat×Nat)} {a b i:Nat},Ch l p a b->Ch l (p.modify i f) a b
 |[],a,b,i,h=>by simpa using h
 |(s,m,v)::r,a,b,0,⟨g0,g1,g2,g3⟩=>by
  obtain⟨x,y⟩:∃z,f (s,m,v)=(s,m,z):=⟨(f (s,m,v)).2.2,Prod.ext (hf _).1 (Prod.ext (hf _).2 rfl)⟩
  rw[List.modify_zero_cons,y];exact⟨g0,g1,g2,g3⟩
 |(s,m,v)::r,a,b,i+1,⟨g0,g1,g2,g3⟩=>by exact⟨g0,g1,g2,Ch.pow hf g3⟩
theorem Ch.merge{l:List Keyed}{b sa na pw sb nb rH:Nat}:∀{i:Nat} {p:List (Nat×Nat×Nat)} {a:Nat},Ch l p a b->p[i]?=some (sa,na,pw)->p[i+1]?=some (sb,nb,rH)->a<=sa/\sb=sa+na/\0<na/\0<nb/\sb+nb<=b/\(seg l sa na).Pairwise TS.le/\(seg l sb nb).Pairwise TS.le /\
  ∀m,m.length=na+nb->m.Pairwise TS.le->b<=l.length->Ch (put l sa m) ((p.set i (sa,na+nb,pw)).eraseIdx (i+1)) a b
 |0,(s,n,w)::(s',n',w')::r,a,⟨g0,g1,g2,g3,g4,g5,g6⟩,e1,e2=>by
  simp only[List.getElem?_cons_zero,List.getElem?_cons_succ,Nat.zero_add,Option.some.injEq,Prod.mk.injEq] at e1 e2;obtain⟨rfl,rfl,rfl⟩:=e1;obtain⟨rfl,rfl,rfl⟩:=e2;subst g0;have:=Ch.le g6;subst g3;refine⟨ai _,rfl,g1,g4,by omega,g2,g5,λm hm hs hb=>?_⟩;have hl:s+m.length<=l.length:=by omega
  refine⟨rfl,by omega,by rw[<- hm,Ts hl];exact hs,?_⟩;rw[<- Nat.add_assoc];exact Ch.congr g6 λk h1 h2=>by rw[M8 hl,aF ()]
 |i+1,(s,n,w)::r,a,⟨g0,g1,g2,g3⟩,e1,e2=>by
  obtain⟨h1,h2,h3,h4,h5,h6,h7,h8⟩:=Ch.merge g3 e1 e2;refine⟨by omega,h2,h3,h4,h5,h6,h7,λm hm hs hb=>?_⟩;refine⟨g0,g1,?_,h8 m hm hs hb⟩;rw[Cr (l:=l) (l':=put l sa m) λk h1 h2=>by rw[M8 (),aF ()]];exact g2
theorem SB.seg{xs:Array Keyed}{lo n:Nat}(hn:lo+n<=xs.size)(h:SB xs lo n):(seg xs.toList lo n).Pairwise le:=by
 rw[df];intro i j hi hj iE;rw[B7 (by simpa using hn)] at hi hj;have:=h (lo+i) (lo+j) () () ();rw[K_eq (),K_eq ()] at this;simpa[TS.seg] using this
section
variable{prog:Program}{w:World}{A:Around}{E:Value->Shared->Prop}{s:Shared}
structure Go(a₀:Array Keyed)(st:SortSt)(lo:Nat):Prop where
 kd:kindOf st=oneType'
 fl:failedOf st=none
 pm:(arrOf st).Perm a₀
 ch:Ch (arrOf st).toList (pendingOf st).toList 0 lo
theorem Jt{a₀:Array Keyed}{st:SortSt}{lo i:Nat}{Q:Bool->SortSt->Prop}(h0:∀p∈a₀.toList,IK p)(hG:Go a₀ st lo)(uP:lo<=a₀.size)(hi:i+1<(pendingOf st).size)(h:∀aZ,Go a₀ aZ lo->(pendingOf aZ).size+1=(pendingOf st).size->(∀k,lo<=k->(arrOf aZ).toList[k]?=(arrOf st).toList[k]?)->Q true aZ):wpS (model prog w) A E s (EV i) Q st:=by
 obtain⟨sa,na,pw,e1⟩:∃sa na pw,(pendingOf st)[i]?=some (sa,na,pw):=⟨_,_,_,cv _ i ()⟩
 obtain⟨sb,nb,rH,e2⟩:∃sb nb rH,(pendingOf st)[i+1]?=some (sb,nb,rH):=⟨_,_,_,cv _ (i+1) hi⟩
 obtain⟨g1,g2,g3,g4,g5,g6,g7,g8⟩:=hG.ch.merge (i:=i) (by simpa using e1) (by simpa using e2);have hsz:=hG.pm.size_eq;have hl:(arrOf st).toList.length=a₀.size:=by simpa using hsz
 refine Qo hG.kd hG.fl (λp hp=>h0 p ((bU.mp hG.pm).mem_iff.mp hp)) e1 e2 g2 () g3 g4 g6 g7 λaZ m m1 m2 m3 m4 m5 m6 m7=>h aZ ⟨m4,m5,?_,?_⟩ ?_ ?_
 ·refine Array.Perm.trans (bU.mpr ?_) hG.pm;rw[m6];exact a18 (by rw[m1];exact m3)
 ·simp_all
 ·rw[m7,<- cc,Array.toList_eraseIdxIfInBounds,List.length_eraseIdx,Array.toList_setIfInBounds,List.length_set,cc,aJ hi];omega
 ·intro k hk;rw[m6,M8 (),aF ()]
theorem Md{c:Prop}[Decidable c]{n:Nat}(h:1<n):(if c then n-2-1 else n-2)+1<n:=by split<;>omega
theorem Go.near{a₀:Array Keyed}{st aZ:SortSt}{lo hi:Nat}(h:Go a₀ st lo)(hN:Nr st aZ lo hi):Go a₀ aZ lo :=
 ⟨hN.kd,hN.fl,hN.pm.trans h.pm,by rw[hN.pd];exact h.ch.congr λk _ hk=>by rw[fI,fI];exact hN.out k (.inl hk)⟩
theorem Tx{a₀:Array Keyed}{st:SortSt}{Q:Unit->SortSt->Prop}(h0:∀p∈a₀.toList,IK p)(hG:Go a₀ st 0)(h2:0<a₀.size)(h:∀aZ,(arrOf aZ).Perm a₀->failedOf aZ=none->(arrOf aZ).toList.Pairwise le->Q Unit.unit aZ):wpS (model prog w) A E s sortRuns' Q st:=by
 refine az (lX ?_);have hsz:∀aZ lo,Go a₀ aZ lo->(arrOf aZ).size=a₀.size:=λaZ lo h=>h.pm.size_eq;have e0:=hsz st 0 hG;refine az (wpS_mono (dD (I:=λx (c:Option Unit × Nat) aZ=>c.1=none/\Go a₀ aZ c.2/\c.2 <= a₀.size/\x <= c.2)
  (Q:=λc aZ=>c.1=none/\Go a₀ aZ a₀.size) ?_ ?_ ⟨rfl,hG,bP _,bP _⟩) ?_)
 ·rintro x ⟨c1,lo⟩ ff _ hx ⟨rfl,oe,uP,hxl⟩;rw[e0];refine d7 (λkA=>aE ⟨rfl,?_⟩) (λkA=>?_)
  ·grind
  have z1:=hsz ff lo oe;have i1:∀p∈(arrOf ff).toList,IK p:=λp hp=>h0 p ((bU.mp oe.pm).mem_iff.mp hp);refine az (Rk oe.kd oe.fl i1 () (by grind) λm fW hN MG MF hs=>?_);dsimp only at hN MF hs ⊢;have z2:(arrOf fW).size=a₀.size:=hN.pm.size_eq.trans z1;have i2:∀p∈(arrOf fW).toList,IK p:=λp hp=>i1 p ((bU.mp hN.pm).mem_iff.mp hp);have fin:∀ji n,Go a₀ ji lo->0<n->lo+n<=a₀.size->(seg (arrOf ji).toList lo n).Pairwise le->(λc aZ=>c.1=none/\Go a₀ aZ c.2/\c.2<=a₀.size/\x+1<=c.2:Option Unit×Nat->SortSt->Prop) (none,lo+n) (setPending ji ((pendingOf ji).push (lo,n,0))):=by
   intro ji n hG h1 h2 h3;refine⟨rfl,⟨hG.kd,hG.fl,hG.pm,?_⟩,h2,by grind⟩;rw[dz];exact hG.ch.push h1 h3
  refine d7 (λhc=>?_) (λhc=>?_);refine az (oI (eR ⟨rfl,?_⟩));refine az (PD hN.kd hN.fl i2 () () hs λji rZ Fh=>?_);have hc:m<minRun' a₀.size a₀.size 0:=hc;have qf:lo+min (a₀.size-lo) (minRun' a₀.size a₀.size 0)<=a₀.size:=by omega
  have hq:=Fh.seg (by rw[rZ.pm.size_eq,z2];exact qf);have zT:0<min (a₀.size-lo) (minRun' a₀.size a₀.size 0):=by omega
  have xr:=(oe.near hN).near rZ;clear rZ Fh hN hs i2 z2;change Go a₀ ji lo at xr
  rotate_left
  have zT:0<m:=MG;have xr:=oe.near hN;have qf:lo+m<=a₀.size:=by omega
  have hq:=hs.seg ();clear hN hs i2 z2;generalize fW=ji at *
  all_goals
   refine az (lX ?_);cases hb:(pendingOf ji).back? with
   |none=>exact az (lW (aE (fin ji _ xr zT qf hq)))
   |some q =>
    obtain⟨s1,n1,p1⟩:=q;refine az (wpS_mono (dD (I:=λ_ (c:Option Unit × Unit) aZ=>c=(none,Unit.unit)/\Go a₀ aZ lo/\∀ k,lo <= k->(arrOf aZ).toList[k]?=(arrOf ji).toList[k]?)
     (Q:=λc aZ=>c=(none,Unit.unit)/\Go a₀ aZ lo/\∀ k,lo <= k->(arrOf aZ).toList[k]?=(arrOf ji).toList[k]?) ?_ (λ_ _ z=>z) ⟨rfl,xr,λ_ _=>rfl⟩) ?_)
    ·rintro y c aZ _ _ ⟨rfl,kC,jf⟩;refine az (lX ?_);by_cases hp:(pendingOf aZ).size>1
     ·rw[aJ hp,cv (pendingOf aZ) ((pendingOf aZ).size-2) ()];exact d7 (λ_=>aE ⟨rfl,kC,jf⟩) λ_=>az (Jt h0 kC uP (show(pendingOf aZ).size-2+1<(pendingOf aZ).size by omega) λlM g1 g2 g3=>aE ⟨rfl,g1,λk hk=>(g3 k hk).trans (jf k hk)⟩)
     ·rw[aF hp];exact aE ⟨rfl,kC,jf⟩
    ·rintro c aZ ⟨rfl,kC,jf⟩;refine az (lW (az (lW (aE (fin (setPending aZ ((pendingOf aZ).modify ((pendingOf aZ).size-1) _)) _ ⟨kC.kd,kC.fl,kC.pm,?_⟩ zT qf ?_)))))
     ·show Ch _ ((pendingOf aZ).modify _ _).toList 0 lo;rw[Array.toList_modify];refine Ch.pow ?_ kC.ch;exact λx=>⟨rfl,rfl⟩
     ·show(seg (arrOf aZ).toList lo _).Pairwise le;rw[Cr λk h1 _=>jf k h1];exact hq
 ·grind
 ·rintro⟨c1,lo⟩ ff ⟨rfl,oe⟩;rw[e0];refine az (wpS_mono (dD (I:=λx (c:Option Unit × Unit) aZ=>c=(none,Unit.unit)/\Go a₀ aZ a₀.size/\(pendingOf aZ).size <= max 1 (a₀.size - x))
   (Q:=λc aZ=>c=(none,Unit.unit)/\Go a₀ aZ a₀.size/\(pendingOf aZ).size <= 1) ?_ ?_ ⟨rfl,oe,?_⟩) ?_)
  ·rintro y c aZ _ hy ⟨rfl,kC,jf⟩;refine az (lX ?_);refine d7 (λhp=>aE ⟨rfl,kC,hp⟩) λhp=>?_;have hp:1<(pendingOf aZ).size:=Nat.lt_of_not_le hp;refine az (Jt h0 kC (ai _) ?_ λlM g1 g2 g3=>aE ⟨rfl,g1,by omega⟩);exact Md hp
  ·simp
  ·have:=oe.ch.le
   grind
  ·rintro c aZ ⟨rfl,kC,jf⟩;refine aE (h aZ kC.pm kC.fl ?_);have hc:=kC.ch
   match hp:(pendingOf aZ).toList with
   |[]=>rw[hp] at hc;exact absurd (show 0=a₀.size from hc) ()
   |[(s1,n1,w1)] =>
    rw[hp] at hc;obtain⟨q1,q2,q3,q4⟩:=hc;have q4:0+n1=a₀.size:=q4;have e:seg (arrOf aZ).toList 0 n1=(arrOf aZ).toList:=by
     have:=kC.pm.size_eq;unfold seg;rw[List.drop_zero,bI (by simp;omega)]
    simp_all
   |_::_::_ =>
    have:(pendingOf aZ).toList.length<=1:=by simpa using jf
    rw[hp] at this;simp at this
theorem JR{a:Addr}{vs:List Value}{ns:List Int}{n:Nat}{P:Fin->Shared->Prop}(ho:s.heap.get? a=some (seqObj "list" vs.toArray n))(hI:IntsAre vs ns)(hl:vs.length<=100000)(h:∀(out:Array Value) (kh:List Int),IntsAre out.toList kh->kh.Perm ns->kh.Pairwise (·<=·)->P (.done (.ret .none)) { s with heap:=sortedHeap s.heap a vs out }):wpAny (model prog w) A (Builtin.«list.sort» ⟨[.ref a],[]⟩) P E s:=by
 by_cases xt:vs.length<64
 ·exact list_sort_tree ho hI xt h
 rw[list_sort_plain];have ha:=aA ho;refine ab (listItems_at ho rfl (ab (listUpdate_at ho rfl ?_)));have xc:=get?_update_seq ho (λ_=>#[]);refine ab (seqEpoch_at xc rfl (ab (wpAny_newTuple (ab (KP (cz ?_))))));have Fs:(((s.heap.update a (Obj.mapSeq λ_=>#[])).push (seqObj "tuple" vs.toArray 0)).push (seqObj "list" #[] 0)).get? a=some (seqObj "list" #[] (if((λ_=>#[]) vs.toArray:Array Value).size==vs.toArray.size then n else n+1)):=by
  rw[Heap.get?_push_ne _ _ _ (by rw[size_push',Heap.size_update];exact aM (kH ha)),Heap.get?_push_ne _ _ _ (by rw[Heap.size_update];exact aM ha)];exact xc
 obtain⟨v1,v2,r,rfl⟩:∃v1 v2 r,vs=v1::v2::r:=by
  match vs,xt with
  |[],h=>simp at h
  |[_],h=>simp at h
  |x::y::r,_=>exact⟨x,y,r,rfl⟩
 rw[keyKind_ints hI];refine ab (au (ab (bK (Tx (a₀:=pairsOf (v1::v2::r)) (Q:=λ_ aZ=>(arrOf aZ).Perm (pairsOf (v1::v2::r))/\failedOf aZ=none/\(arrOf aZ).toList.Pairwise le) hI.intKeys ⟨rfl,rfl,mF _,rfl⟩ (by rw[pairsOf_size];simp) λaZ a1 a2 a3=>⟨a1,a2,a3⟩) ?_ λ_ _ e=>e)));rintro⟨⟨⟩,aZ⟩ s' ⟨rfl,hp,hf,hs⟩;refine ab (seqEpoch_at Fs rfl (ab (listUpdate_at Fs rfl ?_ (hsz2:=?_))))
 ·rw[hf];simp only[bne_self_eq_false,Bool.false_eq_true,if_false];obtain⟨kh,q1,q2,q3⟩:=sorted_out hI hp λi j iE hj=>by
   have e:=hp.size_eq;rw[K_eq (),K_eq ()];exact vW hs () iE
  exact au (h _ kh q1 q2 q3)
 ·rw[Array.size_map,hp.size_eq,pairsOf_size,rj];omega
end
end TS
namespace L2
open PySem PySem.Spec PyProof.Rows
variable{A:Around}{s:Shared}{elt iter tg:Expr}{ifs:List Expr}{scope:Scope}{pos:Pos}{X:Cx}{x:Str}{cl:List (Str×Addr)}{C:Addr}{N':List Str}{d4:List Nat}{fp:List Addr}{g:TG}{tc:TT}{te:TE}
section
variable{prog:Program}{w:World}{R:Result->Shared->Prop}
theorem ZF{target:Expr}{it acc:Value}{env:Env}(I:Nat->Shared->Prop)(turn:∀ n s,I n s->wpAny (model prog w) A (pyNext it) (λr bX=>match r with
   |none=>R (.ok .next) bX
   | some v=>wpAny (model prog w) A (letOwnedTupleGo target it v) (λ_ bX=>wpAny (model prog w) A (assign target env v) (λ_ gU =>
     wpAny (model prog w) A (forIn ifs true λc r=>if r=true then do let ok <- isTrue c env (eval c env);pure (ForInStep.yield ok) else pure (ForInStep.yield r)) (λok fA =>
      if ok=true then wpAny (model prog w) A (eval elt env) (λx jI =>
       wpAny (model prog w) A (call (.builtin "list.append") [acc,x]) (λ_ mI=>∃ m,m < n/\I m mI) (λ_ _=>False) jI) (notedBy (model prog w) A env λe s'=>R (.error e) s') fA
      else ∃ m,m < n/\I m fA) (λ_ _=>False) gU) (λ_ _=>False) bX) (λ_ _=>False) bX) (λ_ _=>False) s)(n:Nat)(h:I n s) :
  codeAny (model prog w) A (.compLoop (.ListComp elt [⟨target,iter,ifs,0⟩] scope pos) 0 it acc env) R s:=by
 refine codeAny_loop rfl I (λn s hI=>?_) n h;show wpAny _ A ((compTurn (.ListComp elt [⟨target,iter,ifs,0⟩] scope pos) 0 it acc env).onRaise (λx=>do noteFrame x env;theTreesLotGoes x)) _ _ s;refine wpAny_noted ?_;rw[compTurn_list];refine ab (fh (ab (bK (turn n s hI) (λr bX dX=>?_) λ_ _ h'=>h'.elim)));cases r with
 |none=>exact au dX
 |some v =>
  refine ab (bK dX (λ_ bX dX=>?_) λ_ _ h'=>h'.elim);refine ab (bK dX (λ_ gU jL=>ab (bK jL (λok fA mQ=>?_) λ_ _ h'=>h'.elim)) λ_ _ h'=>h'.elim);cases ok with
  |false=>exact wpAny_pure ⟨rfl,mQ⟩
  |true =>
   exact ab (ab (bK mQ (λx jI qb=>ab (bK qb (λ_ mI qa=>au (au ⟨rfl,qa⟩)) λ_ _ h'=>h'.elim)) λ_ _ h'=>h'))
end
def lG(X:Cx)(es:List Expr)(t:TT):Prop :=
 ∀(pins:List (Addr×Obj)) (s:Shared) (U:St) (H:Hp) (Q:Bool->Hp->Prop),Inv X pins U H s->t U H Q ->
  wpAny (model X.prog X.w) X.A (forIn es true λc r=>if r=true then do let ok <- isTrue c X.env (eval c X.env);pure (ForInStep.yield ok) else pure (ForInStep.yield r)) (TP X pins U Q) X.xe s
def VB:TT:=λ_ H Q=>Q true H
theorem Tq:lG X [] VB:=λpins s U H Q I h=>au ⟨H,I,h⟩
theorem Tr{c:Expr}{t:TT}(h:PT X c t):lG X [c] t:=by
 intro pins s U H Q I q;exact ab (ab (bK (h pins s U H Q I q) (λb s' hb=>au (au hb)) λ_ _ x=>x))
def K4(scope:Scope)(cl:List (Str×Addr))(C:Addr):List (Str×Addr):=cellsFrom (C+1) scope.names []++cl
theorem E7:∀(names:List (Str×NameKind)) (n:Nat) (acc:List (Str×Addr)),cellsFrom n names acc=cellsFrom n names []++acc
 |[],_,_=>rfl
 |(y,k)::r,n,acc=>by
  unfold cellsFrom;split
  ·rw[E7 r (n+1) ((y,n)::acc),E7 r (n+1) [(y,n)],cj]
   rfl
  ·exact E7 r n acc
theorem T1{x:Str}{c:Addr}:∀{names:List (Str×NameKind)} {n:Nat},(x,c)∈cellsFrom n names []->(x,NameKind.cell)∈names
 |[],_,h=>by simp[cellsFrom] at h
 |(y,k)::r,n,h=>by
  unfold cellsFrom at h;split at h
  ·rw[E7] at h;rcases aO.mp h with z|z
   ·exact bu _ (T1 z)
   grind
  ·exact bu _ (T1 h)
theorem L7{α:Type}:∀{a b:List (Str×α)},(a++b).lookup x=(a.lookup x).or (b.lookup x)
 |[],_=>rfl
 |(y,v)::r,b=>by
  grind
theorem Hf(h:scope.names.lookup x=some .cell\/∃c,cl.lookup x=some c):∃c,(K4 scope cl C).lookup x=some c:=by
 unfold K4;rw[L7];cases e:(cellsFrom (C+1) scope.names []).lookup x with
 |some c=>exact⟨c,rfl⟩
 |none =>
  rcases h with h|h
  ·have q:=dP scope.names (C+1) [] (.inl h);rw[e] at q;cases q
  ·exact h
theorem M4{env:Env}:∀{names:List (Str×NameKind)} {x:Str},names.lookup x=some .cell ->
  (names.map λ(n,k)=>if(k==NameKind.free&&env.scope.kind==.function&&env.kindOf n==some .cell) then(n,NameKind.cell) else(n,k)).lookup x=some .cell
 |[],_,h=>by simp at h
 |(n,k)::r,x,h=>by
  have ih:=@M4 env r x;show List.lookup x ((if(k==NameKind.free&&env.scope.kind==.function&&env.kindOf n==some .cell)=true then(n,NameKind.cell) else(n,k))::_)=_;cases hx:x==n with
  |true =>
   simp only[List.lookup_cons,hx] at h
   simp_all
  |false =>
   simp only[List.lookup_cons,hx] at h;by_cases hc:(k==NameKind.free&&env.scope.kind==.function&&env.kindOf n==some .cell)=true
   ·rw[aJ hc];simp only[List.lookup_cons,hx];exact ih h
   ·rw[aF hc];simp only[List.lookup_cons,hx];exact ih h
theorem yx{h:Heap}(ck:CellsOk h (C+1) (cellsFrom (C+1) scope.names [])){c:Addr}(e:(K4 scope cl C).lookup x=some c):C<c\/cl.lookup x=some c:=by
 unfold K4 at e;rw[L7] at e;cases e2:(cellsFrom (C+1) scope.names []).lookup x with
 |some c' =>
  rw[e2] at e;cases e;exact .inl (ck.empty x c (aP e2)).2
 |none =>
  rw[e2] at e;exact .inr e
theorem Ir{M:Model}{E:Value->Shared->Prop}{globals:Addr}{qual:Str}{outer:Env}{Q:Env->Shared->Prop}(hQ:∀ dX:Heap,dX.Ns s.heap.objs.size (λ_=>none)->(∀ b o,s.heap.get? b=some o->dX.get? b=some o)->CellsOk dX (s.heap.objs.size + 1) (cellsFrom (s.heap.objs.size + 1) scope.names []) ->
   Q (newEnv scope s.heap.objs.size globals (K4 scope cl s.heap.objs.size) qual none .none (some outer) builtinsNs) { s with heap:=dX }) :
  wpAny M A (newFunctionEnv scope globals cl [] qual none .none (some outer)) Q E s:=by
 simp only[newFunctionEnv,Option.isSome_some,if_true];refine ab (wpAny_alloc ?_);refine ab (wpAny_layCells _ (λname kind cells=>by rfl) _ _ _ _ ?_);have ok:=cellsFrom_ok scope.names (s.heap.push { cls:=.type "dict",data:=.dict #[] }) (s.heap.objs.size+1) [] ⟨λ_ _ hm=>(nomatch hm),List.Pairwise.nil⟩ (by simp);rw[fQ] at ok;rw[show({ s with heap:=s.heap.push { cls:=.type "dict",data:=.dict #[] } }:Shared).heap.objs.size=s.heap.objs.size+1 from fQ ..];refine ab (au (au ?_));rw[E7];exact hQ _ ((Heap.Ns.new s.heap (.type "dict")).keeps (pushCells_keeps _ _)) (λb o e=>pushCells_keeps _ _ b o (ao _ e)) ok
def d5(X:Cx)(pins:List (Addr×Obj))(scope:Scope)(N':List Str)(cl:List (Str×Addr))(C:Addr)(s:Shared)(H:Hp)(fp:List Addr):Cx where
 prog:=X.prog
 w:=X.w
 K:=X.K
 mg:=X.mg
 base:=X.base
 A:=X.A
 N:=N'
 dM:=s
 kY:=H
 env:=compEnvC scope (K4 scope cl C) C X.env
 outer:=X.stack
 stack:=X.stack
 ex:=fp
 calm:=true
 fn:=λx=>decide (scope.names.lookup x=some .cell)
 pn:=X.pn++pins
 xe:=λ_ _=>False
structure dJ(X:Cx)(scope:Scope)(N':List Str)(d4:List Nat)(cl:List (Str×Addr)):Prop where
 kind:scope.kind=.function
 cells:∀y∈scope.names,y.2=.cell->scope.names.lookup y.1=some .cell
 names:∀y∈scope.names,y.2=.local->scope.names.lookup y.1=some .local
 qQ:closureFor scope X.env=pure cl
 cin:∀x c,cl.lookup x=some c->X.env.cells.lookup x=some c
 vB:∀x,scope.names.lookup x=some .free->∃c,cl.lookup x=some c
 nd:N'.Nodup
 OA:∀(i j:Nat),d4[i]?=some j->∃x,N'[i]?=some x/\X.N[j]?=some x/\scope.names.lookup x=some .free/\(X.env.kindOf x=some .cell\/X.env.kindOf x=some .free)
 Bi:d4.length<=N'.length
theorem E8{env:Env}:∀{names:List (Str×NameKind)} {x:Str},names.lookup x=some .free ->
  (names.map λ(n,k)=>if(k==NameKind.free&&env.scope.kind==.function&&env.kindOf n==some .cell) then(n,NameKind.cell) else(n,k)).lookup x=some .cell \/
  (names.map λ(n,k)=>if(k==NameKind.free&&env.scope.kind==.function&&env.kindOf n==some .cell) then(n,NameKind.cell) else(n,k)).lookup x=some .free
 |[],_,h=>by simp at h
 |(n,k)::r,x,h=>by
  have ih:=@E8 env r x;show List.lookup x ((if(k==NameKind.free&&env.scope.kind==.function&&env.kindOf n==some .cell)=true then(n,NameKind.cell) else(n,k))::_)=_\/List.lookup x ((if(k==NameKind.free&&env.scope.kind==.function&&env.kindOf n==some .cell)=true then(n,NameKind.cell) else(n,k))::_)=_;cases hx:x==n with
  |true =>
   simp only[List.lookup_cons,hx] at h;cases h;by_cases hc:(NameKind.free==NameKind.free&&env.scope.kind==.function&&env.kindOf n==some .cell)=true
   ·rw[aJ hc];simp[List.lookup_cons,hx]
   ·rw[aF hc];simp[List.lookup_cons,hx]
  |false =>
   simp only[List.lookup_cons,hx] at h;by_cases hc:(k==NameKind.free&&env.scope.kind==.function&&env.kindOf n==some .cell)=true
   ·rw[aJ hc];simp only[List.lookup_cons,hx];exact ih h
   ·rw[aF hc];simp only[List.lookup_cons,hx];exact ih h
theorem M5{env:Env}:∀{names:List (Str×NameKind)} {x:Str},((names.map λ(n,k)=>if(k==NameKind.free&&env.scope.kind==.function&&env.kindOf n==some .cell) then(n,NameKind.cell) else(n,k)).lookup x=some .cell \/
  (names.map λ(n,k)=>if (k == NameKind.free && env.scope.kind == .function && env.kindOf n == some .cell) then (n,NameKind.cell) else (n,k)).lookup x=some .free)->names.lookup x=some .free \/ names.lookup x=some .cell
 |[],_,h=>by simp at h
 |(n,k)::r,x,h=>by
  have ih:=@M5 env r x;rw[cI] at h;cases hx:x==n with
  |true =>
   simp only[List.lookup_cons,hx];by_cases hc:(k==NameKind.free&&env.scope.kind==.function&&env.kindOf n==some .cell)=true
   ·refine .inl ?_;simp only[Bool.and_eq_true,beq_iff_eq] at hc;rw[hc.1.1]
   ·simp only[if_neg hc,List.lookup_cons,hx] at h;rcases h with h|h
    ·exact .inr h
    ·exact .inl h
  |false =>
   simp only[List.lookup_cons,hx];by_cases hc:(k==NameKind.free&&env.scope.kind==.function&&env.kindOf n==some .cell)=true
   ·simp only[if_pos hc,List.lookup_cons,hx] at h;exact ih h
   ·simp only[if_neg hc,List.lookup_cons,hx] at h;exact ih h
def C7(U:St)(d4:List Nat)(n:Nat):St:=d4.map (λj=>(U[j]?).join)++List.replicate (n-d4.length) none
section
variable{pins:List (Addr×Obj)}{U:St}{H:Hp}
theorem Inv.HB{h1:Heap}{tk:Nat}(I:Inv X pins U H s)(S:dJ X scope N' d4 cl)(hc:X.calm=true)(hf:∀b∈fp,C9 X pins H b)(ho:∀b∈fp,∃o,s.heap.get? b=some o)(hC:s.heap.objs.size<=C)(hn:∃m,h1.Ns C m)(k:∀b o,s.heap.get? b=some o->h1.get? b=some o)(ck:CellsOk h1 (C+1) (cellsFrom (C+1) scope.names [])) :
  Inv (d5 X pins scope N' cl C s H fp) [] (C7 U d4 N'.length) H { s with heap:=h1,toks:=tk }:=by
 obtain⟨m,hm⟩:=hn;have MM:(relabel scope X.env).kind=.function:=S.kind;have EJ:∀b o,s.heap.get? b=some o->b≠C:=λb o e z=>absurd (aA e) (by simp_all);have two:∀{x:Str} {c:Addr},(K4 scope cl C).lookup x=some c->(C<c/\h1.IsCell c none/\(x,c)∈cellsFrom (C+1) scope.names [])\/(cl.lookup x=some c/\(cellsFrom (C+1) scope.names []).lookup x=none):=λ{x c} h=>by
  unfold K4 at h;rw[L7] at h;cases e:(cellsFrom (C+1) scope.names []).lookup x with
  |some c' =>
   rw[e] at h;cases h;have hm:=aP e;exact .inl ⟨(ck.empty x c hm).2,(ck.empty x c hm).1,hm⟩
  |none =>
   rw[e] at h;exact .inr ⟨h,rfl⟩
 have uf:∀{x:Str} {c:Addr},cl.lookup x=some c->c<s.heap.objs.size:=λ{x c} h=>by
  obtain⟨v,o,e,_⟩:=I.cell x c (S.cin x c h);exact aA e
 have frees:∀{x:Str},scope.names.lookup x=some .free->(K4 scope cl C).lookup x=cl.lookup x:=λ{x} h=>by
  unfold K4;rw[L7];cases e:(cellsFrom (C+1) scope.names []).lookup x with
  |some c' =>
   have:=S.cells _ (T1 (aP e)) rfl
   simp_all
  |none=>rfl
 refine⟨⟨I.mod,MM,I.ok.glob,I.ok.blt,hC,?_,?_,?_,λ_=>I.ok.hd hc,I.ok.frames,.inl rfl,?_,I.bs,?_,?_,?_,I.stack,I.BL⟩,rfl,I.bare,Un.kept k,⟨m,hm,?_⟩,?_,?_,?_,?_,I.cu.kept k,?_,λjA z=>absurd (show(none:Option (List (Option V)))=some jA from z) (by simp)⟩
 ·intro x y c h1 h2;rcases two h1 with⟨l1,_,q1⟩|⟨q1,_⟩<;>rcases two h2 with⟨l2,_,q2⟩|⟨q2,_⟩
  ·exact PySem.name_of_addr ck.apart q1 q2
  ·exact absurd (dw l1 (ay (uf q2) hC)) (bL _)
  ·exact absurd (dw l2 (ay (uf q1) hC)) (bL _)
  ·exact I.ok.inj x y c (S.cin x c q1) (S.cin y c q2)
 ·intro x hx;rcases M5 (env:=X.env) (names:=scope.names) hx with z|z
  ·obtain⟨c,hc⟩:=S.vB x z;exact⟨c,(frees z).trans hc⟩
  ·have q:=dP scope.names (C+1) [] (.inl z);obtain⟨c,hc⟩:=eU.mp q;refine⟨c,?_⟩;show(K4 scope cl C).lookup x=some c;unfold K4;rw[L7,hc]
   rfl
 ·intro x c hf h;have z:scope.names.lookup x=some .cell:=bj hf;have q:=dP scope.names (C+1) [] (.inl z);rcases two h with⟨l,_⟩|⟨_,e⟩
  ·exact eK (cZ hC l)
  simp_all
 ·intro b hb;obtain⟨f0,f1,f2,f3,f4,f5⟩:=hf b hb;obtain⟨o,e⟩:=ho b hb;refine⟨EJ b o e,λx c h=>?_⟩;rcases two h with⟨l,_⟩|⟨q,_⟩
  ·intro z;subst z;exact absurd (dw l (ay (aA e) hC)) (bL _)
  ·exact f4 x c (S.cin x c q)
 ·exact aD I.ok.pj I.sz
 ·intro b o e hb;obtain⟨f0,f1,f2,f3,f4,f5⟩:=hf b hb;rcases f3 with f3|f3
  ·exact I.ok.mM b o e f3
  ·exact absurd (aA (I.ok.bs b o e).1) (KW.mpr f3)
 ·intro b hb z;obtain⟨f0,f1,f2,f3,f4,f5⟩:=hf b hb;rcases aG.mp (I.L1 b z) with z|z
  ·exact f1 z
  ·exact f2 z
 ·intro i x v AM h2 h3;have hi:i<d4.length:=by
   unfold C7 at h2;by_cases hi:i<d4.length
   ·exact hi
   ·rw[da (by simpa using hi),fb] at h2
    simp_all
  obtain⟨j,hj⟩:∃j,d4[i]?=some j:=⟨_,ag hi⟩
  have hs:U[j]?=some (some v):=by
   unfold C7 at h2;rw[aK (by simpa using hi),ae,hj] at h2;simp only[Option.map_some] at h2;cases e:U[j]? with
   |none=>rw[e] at h2;cases h2
   |some a=>rw[e] at h2;exact gp some (aL h2)
  obtain⟨y,Ml,Mj,zI,Mi⟩:=S.OA i j hj;have ey:y=x:=by
   have vi:N'[i]?=some x:=AM;rw[Ml] at vi;exact aL vi
  subst ey;obtain⟨m0,hm0,hl⟩:=I.loc;obtain ⟨u,ru,hu⟩:=hl j y v Mj hs (by
   rcases Mi with z|z
   ·exact .inr (.inl z)
   ·exact .inr (.inr z))
  refine⟨u,ru,.inr ⟨E8 (env:=X.env) (names:=scope.names) zI,?_⟩⟩;rcases hu with⟨z,_⟩|⟨_,c,qm,FK⟩
  ·simp_all
  ·obtain⟨c',jj⟩:=S.vB y zI;have e:=S.cin y c' jj;rw[qm] at e;cases e;obtain⟨o,e1,e2⟩:=FK;exact⟨c,(frees zI).trans jj,o,k _ _ e1,e2⟩
 ·intro x c h;rcases two h with⟨_,q,_⟩|⟨q,_⟩
  ·exact⟨none,q⟩
  ·obtain⟨v,o,e1,e2⟩:=I.cell x c (S.cin x c q);exact⟨v,o,k _ _ e1,e2⟩
 ·exact I.cu.fresh hC
 ·intro x c h;rcases two h with⟨l,_⟩|⟨q,_⟩
  ·exact I.cu.fresh (eK (cZ hC l))
  ·exact I.fU x c (S.cin x c q)
 ·intro p hp;have gB:p∈X.pn++pins:=by simpa[d5] using hp
  obtain⟨p1,p2,p3,p4,p5⟩:=I.pin p gB;refine⟨k _ _ p1,p2,EJ _ _ p1,λz=>?_,p5⟩;rcases aG.mp (I.L1 _ z) with z|z
  ·exact p3 z
  ·exact p4 z
 ·unfold C7;show _=N'.length;rw[bE,ak,List.length_replicate];have:=S.Bi;omega
theorem Inv.JD{lg:List (Addr×Obj)}{bZ:St}{H':Hp}{s':Shared}(I:Inv X pins U H s)(hf:∀b∈fp,C9 X pins H b)(J:Inv (d5 X pins scope N' cl C s H fp) lg bZ H' s'):Inv X pins U H' s' :=
 I.Kb (ch:=fp) J.os J.base J.cu J.bare λb hb=>by
  obtain⟨f0,f1,f2,f3,f4,f5⟩:=hf b hb;exact⟨f3,f1,f4,f5⟩
theorem Inv.Pm{D:Addr}{ys:List V}{bp:List Value}{n:Nat}(I:Inv X pins U H s)(f:C9 X pins H D)(hs:X.dM.heap.objs.size<=D)(hv:Vals ys bp)(hz:ys.length<=sizeLine)(ho:s.heap.get? D=some { cls:=.type "list",data:=.seq bp.toArray n }):Inv X pins U (upd H D (.lst ys)) s:=by
 obtain⟨f0,f1,f2,f3,f4,f5⟩:=f;have eZ:∀b o,X.dM.heap.get? b=some o->b≠D:=λb o e z=>absurd (aA e) (by rw[z];exact KW.mpr hs);have tup:∀b u,H b=some u->upd H D (.lst ys) b=some u:=λb u e=>by rw[f7 (m9 e f0)];exact e
 refine⟨I.ok,I.os,I.bare,⟨?_,?_,?_,I.base.there,?_,?_,?_⟩,I.loc,I.cell,?_,?_,?_,?_,I.len,I.sg⟩
 ·exact λb o e n1 n2 n3=>I.base.keep b o e n1 n2 n3
 ·exact λb o e n1 n2 n3=>I.base.slot b o e n1 n2 n3
 ·exact λb o e n1 n2=>by rw[f7 (eZ b o e)];exact I.base.free b o e n1 n2
 ·exact λb xs e=>tup _ _ (I.base.iX b xs e)
 ·exact λb o u e=>tup _ _ (I.base.iG b o u e)
 ·exact λb ps e=>by
   obtain⟨more,q⟩:=I.base.iY b ps e;exact⟨more,tup _ _ q⟩
 ·rw[f7 f1.symm];exact I.free
 ·exact λx c e=>by rw[f7 (f4 x c e)];exact I.fU x c e
 ·intro p hp;obtain⟨p1,p2,p3⟩:=I.pin p hp;exact⟨p1,by rw[f7 (f5 p hp)];exact p2,p3⟩
 ·intro a o e;by_cases ha:a=D
  ·subst ha;rw[u7] at e;cases e;exact⟨hz,bp,n,hv,ho⟩
  ·rw[f7 ha] at e;have q:=I.cu a o e;refine q.Z7 (λb u _ h=>h) (λb hb=>tup _ _ hb) (λb xs hb=>tup _ _ hb)
end
def Dc(wi:TI)(d4:List Nat)(n:Nat)(g:TG)(tc:TT)(te:TE):TE:=λU H Q=>wi U H λJ H1=>∃W:Nat->Nat->List V->St->Hp->Prop,(∃m,W 0 m [] (C7 U d4 n) H1)/\∀i m ys U H,W i m ys U H ->
 (J.stop i H/\∀p,H p=none->Q (.ref p) (upd H p (.lst ys))) \/
 (J.go i H/\ys.length < sizeLine/\∀ x H',J.pK i H x H'->g x U H' λcC H2=>tc cC H2 λb H3 =>
  if b=true then te cC H3 λy H4=>∃ m',m' < m/\W (i + 1) m' (ys ++ [y]) cC H4 else ∃ m',m' < m/\W (i + 1) m' ys cC H3)
noncomputable abbrev P0(bp:List Value)(n:Nat):Obj:={ cls:=.type "list",data:=.seq bp.toArray n }
section
variable{pins:List (Addr×Obj)}{U:St}{H:Hp}
theorem HA{it:Addr}{tn:Nat->Heap->Prop}{J:It}{xx:Addr->Shared->Hp->Value->Shared->Prop}{RR:Value->Addr->Result->Shared->Prop}{E:Value->Shared->Prop}{W:Nat->Nat->List V->St->Hp->Prop}{m0:Nat}{Q:VK}(S:dJ X scope N' d4 cl)(hc:X.calm=true)(hg:∀C s H,PG (d5 X pins scope N' cl C s H fp) tg g)(ht:∀C s H,lG (d5 X pins scope N' cl C s H fp) ifs tc)(he:∀C s H,PE ((d5 X pins scope N' cl C s H fp).Z5 (xx C s H)) elt te)(I:Inv X pins U H s)(T:Turn X.prog X.w X.K tg J fp it tn)(st:tn 0 s.heap)(hf:∀b∈fp,C9 X pins H b)(w0:W 0 m0 [] (C7 U d4 N'.length) H)(turn:∀ i m ys U H,W i m ys U H->(J.stop i H/\∀ p,H p=none->Q (.ref p) (upd H p (.lst ys))) \/
   (J.go i H/\ys.length < sizeLine/\∀ x H',J.pK i H x H'->g x U H' λcC H2=>tc cC H2 λb H3 =>
    if b=true then te cC H3 λy H4=>∃ m',m' < m/\W (i + 1) m' (ys ++ [y]) cC H4 else ∃ m',m' < m/\W (i + 1) m' ys cC H3))(As:∀D C s' H' m,Inv X pins U H' s'->Q (.ref D) H'->s'.heap.Ns C m->H' C=none->s.heap.objs.size<=C->RR (.ref D) C (.ok .next) s')(Nk:∀D C e s',s.heap.objs.size<=C->xx C s H e s'->notedBy (model X.prog X.w) X.A (compEnvC scope (K4 scope cl C) C X.env) (λe s'=>RR (.ref D) C (.error e) s') e s') :
  wpAny (model X.prog X.w) X.A (newList []) (λacc fA=>wpAny (model X.prog X.w) X.A (newFunctionEnv scope X.env.globals cl [] X.env.qual none .none (some X.env)) (λlV jI =>
   lV.frame=X.env.frame/\codeAny (model X.prog X.w) X.A (.compStart (.ListComp elt [⟨tg,iter,ifs,0⟩] scope pos) 0 (.ref it) acc { lV with scope:=relabel scope X.env }) (RR acc lV.locals) jI) E fA) E s:=by
 refine dG (Ir λdX jd gK oa=>?_);generalize qq:s.heap.push { cls:=.type "list",dict:=none,data:=.seq ([]:List Value).toArray }=H2 at jd gK oa ⊢;generalize eD:s.heap.objs.size=D at *;have hC:H2.objs.size=D+1:=by rw[<- qq,fQ,eD]
 generalize eC:H2.objs.size=C at *;have vd:D≠C:=by omega
 have lt:∀b o,s.heap.get? b=some o->b<D:=λb o e=>by rw[<- eD];exact aA e
 have pW:D<=C:=by omega
 have oR:∀b o,s.heap.get? b=some o->b≠C:=λb o e=>aM (ay (lt b o e) pW);have mN:∀b o,s.heap.get? b=some o->b≠D:=λb o e=>aM (lt b o e);have old:∀b o,s.heap.get? b=some o->dX.get? b=some o:=λb o e=>gK b o (qq▸ao _ e);have kW:dX.get? D=some (P0 [] 0):=gK _ _ (by rw[<- qq,<- eD];exact aB _ rfl);have jc:∀b∈fp,∃o,s.heap.get? b=some o:=λb hb=>by
  obtain⟨o,e,_⟩:=T.obj _ _ st b hb;exact⟨o,e⟩
 have vc:D∉fp:=λhm=>by
  obtain⟨o,e⟩:=jc D hm;exact mN D o e rfl
 have X1:Inv (d5 X pins scope N' cl C s H fp) [] (C7 U d4 N'.length) H { s with heap:=dX } :=
  I.HB S hc hf jc (by rw[eD];omega) ⟨_,jd⟩ old oa
 have ff:tn 0 dX:=T.keep _ _ _ st λb _ o e=>old b o e;have AS:∀{H':Hp},(∀b∈fp,H' b=none)->∀b∈fp,C9 (d5 X pins scope N' cl C s H fp) [] H' b:=λhn b hb=>by
  obtain⟨f0,f1,f2,f3,f4,f5⟩:=hf b hb;obtain⟨o,e⟩:=jc b hb;refine⟨hn b hb,?_,?_,.inl hb,λx c q=>(yx oa q).elim (λl z=>absurd (dw (z▸l) (ay (lt b o e) pW)) (bL _)) λq=>f4 x c (S.cin x c q),λp hp=>?_⟩
  ·exact oR b o e
  ·exact λz=>by
    rcases aG.mp (I.L1 b z) with z|z
    ·exact f1 z
    ·exact f2 z
  ·have gB:p∈X.pn++pins:=by simpa[d5] using hp
   exact f5 p gB
 have fD:∀{H':Hp},H' D=none->C9 (d5 X pins scope N' cl C s H fp) [] H' D:=λhn=>by
  refine⟨hn,vd,λz=>?_,.inr (by show s.heap.objs.size<=D;omega),λx c q=>?_,λp hp=>?_⟩
  ·exact absurd (I.wb (a:=D) ()) λoU=>by
    rcases aG.mp (I.L1 D z) with z|z
    ·exact absurd I.lt (by simp_all)
    ·exact oU z
  ·rcases yx oa q with l|q
   ·exact λz=>absurd (ay (z▸l) pW) (bL _)
   ·obtain⟨v,o,e,_⟩:=I.cell x c (S.cin x c q);exact mN c o e
  ·have gB:p∈X.pn++pins:=by simpa[d5] using hp
   exact mN _ _ (I.pin p gB).1
 have pT:∀{H':Hp} {s':Shared} {bZ:St} {bp:List Value} {n:Nat},Inv (d5 X pins scope N' cl C s H fp) [] bZ H' s'->H' D=none->s'.heap.get? D=some (P0 bp n) ->
   Inv (d5 X pins scope N' cl C s H fp) [(D,P0 bp n)] bZ H' s':=λ{H' s' bZ bp n} J0 hn e=>J0.K6 λp hp=>by
  have z:p=(D,P0 bp n):=by simpa using hp
  subst z;obtain⟨f0,f1,f2,_⟩:=fD hn;exact⟨e,f0,f1,f2,λv z=>nomatch z⟩
 have nJ:∀{H':Hp} {bp:List Value} {n:Nat},(∀b∈fp,H' b=none)->∀b∈fp,C9 (d5 X pins scope N' cl C s H fp) [(D,P0 bp n)] H' b:=λ{H' bp n} hn b hb=>by
  obtain⟨f0,f1,f2,f3,f4,f5⟩:=AS hn b hb;refine⟨f0,f1,f2,f3,f4,λp hp=>?_⟩;have gB:p∈(d5 X pins scope N' cl C s H fp).pn\/p=(D,P0 bp n):=by simpa using hp
  rcases gB with z|z
  ·exact f5 p (bw _ z)
  ·subst z;exact λz=>vc (by rw[show D=b from z];exact hb)
 have loop:∀fA:Shared,fA={ s with heap:=dX } ->
   codeAny (model X.prog X.w) X.A (.compLoop (.ListComp elt [⟨tg,iter,ifs,0⟩] scope pos) 0 (.ref it) (.ref D) (compEnvC scope (K4 scope cl C) C X.env)) (RR (.ref D) C) fA:=by
  rintro fA rfl;refine ZF (λn s'=>∃ i ys bZ H' bp nn,Inv (d5 X pins scope N' cl C s H fp) [] bZ H' s'/\tn i s'.heap/\(∀ b ∈ fp,H' b=none)/\H' D=none/\Vals ys bp/\ys.length <= sizeLine /\
   s'.heap.get? D=some (P0 bp nn)/\W i n ys bZ H') ?_ m0 ⟨0,[],_,H,[],0,X1,ff,λb hb=>(hf b hb).1,I.cu.fresh (),.nil,bP _,kW,w0⟩
  rintro n s3 ⟨i,ys,iw,H3,bp,nn,I3,ji,pe,d3,v3,z3,o3,w3⟩;have wu:=pT I3 d3 o3;rcases turn i n ys iw H3 w3 with⟨stop,q⟩|⟨go,hz,step⟩
  ·refine cQ (T.done (d5 X pins scope N' cl C s H fp) rfl rfl rfl rfl i _ s3 _ H3 _ wu (nJ pe) ji stop) λr s4 ⟨hr,I4⟩=>?_;subst hr;have o4:=(I4.pin (D,P0 bp nn) (by simp)).1;have J4:Inv X pins U H3 s4:=I.JD hf I4;have AU:C9 X pins H3 D:=by
    refine⟨d3,bW (by rw[<- eD];exact I.lt),I.wb (),.inr (by have:=I.sz;omega),λx c q=>?_,λp hp=>?_⟩
    ·obtain⟨v,o,e,_⟩:=I.cell x c q;exact mN c o e
    ·exact mN _ _ (I.pin p hp).1
   obtain⟨mC,zV,_⟩:=I4.loc;exact As D C s4 (upd H3 D (.lst ys)) mC (J4.Pm AU (by have:=I.sz;omega) v3 z3 o4) (q D d3) zV (by rw[f7 vd.symm];exact I4.free) ()
  ·refine cQ (T.item (d5 X pins scope N' cl C s H fp) rfl rfl rfl rfl i _ s3 _ H3 _ wu (nJ pe) ji go) λr s4 ⟨u,hr,h4⟩=>?_;subst hr;refine cQ h4 λ_ s5 bz=>?_;obtain⟨x,H5,I5,r5,y5,lM,vj⟩:=bz;have wt:=I5.pinned (nJ vj) (T.obj _ _ lM);refine cQ (hg C s H _ s5 _ H5 x u _ wt r5 (step x H5 y5)) λ_ s6 bz=>?_;obtain⟨lJ,H6,I6,q6⟩:=bz;refine cQ (ht C s H _ s6 lJ H6 _ I6 q6) λok s7 ⟨H7,I7,q7⟩=>?_;have back:∀{tJ:St} {H8:Hp} {s8:Shared},Inv (d5 X pins scope N' cl C s H fp) ([(D,P0 bp nn)]++X8 fp s5.heap) tJ H8 s8->(∀b∈fp,H8 b=none)/\tn (i+1) s8.heap/\H8 D=none/\s8.heap.get? D=some (P0 bp nn) :=
    λ{tJ H8 s8} I8=>by
     have pf:∀b∈fp,∀o,s5.heap.get? b=some o->s8.heap.get? b=some o/\H8 b=none:=λb hb o e=>by
      have:=I8.pin (b,o) (aN _ (aN _ (Q4 hb e)));exact⟨this.1,this.2.1⟩
     have pd:=I8.pin (D,P0 bp nn) (by simp);refine⟨λb hb=>?_,T.keep _ _ _ lM λb hb o e=>(pf b hb o e).1,pd.2.1,pd.1⟩;obtain⟨o,e,_⟩:=T.obj _ _ lM b hb;exact(pf b hb o e).2
   cases ok with
   |false =>
    obtain⟨m',hm,w7⟩:=q7;obtain⟨b1,b2,b3,b4⟩:=back I7;exact⟨m',hm,i+1,ys,lJ,H7,bp,nn,I7.K6 λp hp=>absurd hp (by simp),b2,b1,b3,v3,z3,b4,w7⟩
   |true =>
    refine bK (he C s H _ s7 lJ H7 _ (I7.Z5 _) q7) (λxv s8 bz=>?_) λe s' hx=>Nk D C e s' () hx;obtain⟨y,H8,I8,r8,m',hm,w8⟩:=bz;have I8:=I8.Bp;obtain⟨b1,b2,b3,b4⟩:=back I8;refine call_meets F.slot_list_append ⟨_,b4,rfl⟩ F.entry_list_append (F.args_list_append_2 _ _) (PySem.list_append D bp.toArray nn xv (by rw[aW];have:=v3.length;omega)) ⟨b4,?_⟩;have q:∃n',(s8.heap.update D (Obj.mapSeq (·.push xv))).get? D=some (P0 (bp++[xv]) n'):=by
     have q0:=PySem.IsL.update b4 (·.push xv);have e0:bp.toArray.push xv=(bp++[xv]).toArray:=by simp
     rw[e0] at q0;exact⟨_,q0⟩
    obtain⟨n',q⟩:=q;have DW:Inv (d5 X pins scope N' cl C s H fp) [] lJ H8 s8:=I8.K6 λp hp=>absurd hp (by simp);obtain⟨f0,f1,f2,f3,f4,f5⟩:=fD (H':=H8) b3;have kp:∀b o,b≠D->s8.heap.get? b=some o->(s8.heap.update D (Obj.mapSeq (·.push xv))).get? b=some o:=λb' u hb hu=>(eB s8.heap (Obj.mapSeq (·.push xv)) (cw hb)).trans hu;refine⟨m',hm,i+1,ys++[y],lJ,H8,bp++[xv],n',DW.turned (it:=D) (t':=s8.toks) kp f0 f1 f3 f4 f5,T.keep _ _ _ b2 λb hb o e=>kp b o (λz=>vc (by rw[<- z];exact hb)) e,b1,b3,v3.append (.cons r8 .nil),?_,q,w8⟩;rw[bE,List.length_singleton];omega
 exact⟨rfl,codeAny_compStart_list (loop _ rfl) (T.self _ 0 _ _ _ ff (loop _ rfl))⟩
theorem Inv.Kk{h':Heap}{s2:Shared}{H2:Hp}(I:Inv X pins U H s)(hC:s2.heap.objs.size<=C)(I2:Inv X pins U H2 s2)(hn:H C=none)(sb:Heap.SameBut C s.heap h'):Inv X pins U H { s with heap:=h' }:=by
 have f:=I2.pz (b:=C) (H':=H) hC hn;obtain⟨f0,f1,f2,f3,f4,f5⟩:=f;exact I.turned (t':=s.toks) (λb o hb e=>sb.extBut b o hb e) f0 f1 f3 f4 f5
theorem HD{M:Model}{E:Value->Shared->Prop}{a:Sem Value}{b:Sem Env}{P:Env->Prop}{Q:Value->Env->Shared->Prop}(h:wpAny M A a (λx s1=>wpAny M A b (λy s2=>P y/\Q x y s2) E s1) E s):wpAny M A a (λx s1=>wpAny M A b (λy s2=>Q x y s2) E s1) E s :=
 bK h (λ_ _ h=>bK h (λ_ _ h=>h.2) λ_ _ z=>z) λ_ _ z=>z
theorem Jj{wi:TI}(S:dJ X scope N' d4 cl)(hc:X.calm=true)(hi:PI X tg iter wi)(hg:∀pins C s H fp,PG (d5 X pins scope N' cl C s H fp) tg g)(ht:∀pins C s H fp,lG (d5 X pins scope N' cl C s H fp) ifs tc)(he:∀pins C s H fp,PE (d5 X pins scope N' cl C s H fp) elt te)(hs:∀x,foldedSetIterable iter X.env x=pure x):PE X (.ListComp elt [⟨tg,iter,ifs,0⟩] scope pos) (Dc wi d4 N'.length g tc te):=by
 intro pins s U H Q I h;refine iT (use:=none) rfl hs S.qQ S.kind S.names (cQ (hi pins s U H _ I h) λxv bX dX=>cQ dX λuH gU jL=>?_);obtain⟨it,fp,tn,J,H2,e,I2,T,fW,f2,W,⟨m0,w0⟩,turn⟩:=jL;subst e;refine HD (HA (xx:=λ_ _ _ _ _=>False) (RR:=λacc C=>compPost (model X.prog X.w) X.A X.xe none (EP X pins U Q) acc C) S hc (λC s H=>hg pins C s H fp) (λC s H=>ht pins C s H fp) (λC s H=>he pins C s H fp) I2 T fW f2 w0 turn ?_ λ_ _ _ _ _ z=>z.elim);intro D C s' H' m I' q hn hC hsz;exact⟨m,hn,λh' sb=>⟨.ref D,H',I'.Kk hsz I2 hC sb,rfl,q⟩⟩
theorem Zv{tT px:Pos}{wi:TI}{i:Nat}(S:dJ X scope N' d4 cl)(hc:X.calm=true)(hi:PI X tg iter wi)(hg:∀pins C s H fp,PG (d5 X pins scope N' cl C s H fp) tg g)(ht:∀pins C s H fp,lG (d5 X pins scope N' cl C s H fp) ifs tc)(he:∀pins C s H fp,PE (d5 X pins scope N' cl C s H fp) elt te)(hs:∀x,foldedSetIterable iter X.env x=pure x)(hN:X.Nd)(uT:X.N[i]?=some x)(hx:Loc X.env.scope x)(hf:X.fn x=true\/X.env.scope.names.lookup x=some .local) :
  PS X (.Assign [.Name x px] (.ListComp elt [⟨tg,iter,ifs,0⟩] scope pos) tT) (vD (Dc wi d4 N'.length g tc te) (sV i)):=by
 intro pins s U H D I h;have xb:∃b,swapsWith (.ListComp elt [⟨tg,iter,ifs,0⟩] scope pos) (some (.Name x px)) tT.line X.env=pure b:=⟨_,rfl⟩
 obtain⟨b,xb⟩:=xb;cases b with
 |false=>exact IG hN uT hx (Jj S hc hi hg ht he hs) xb hf pins s U H D I h
 |true =>
  rw[exec_Assign_Name_used _ _ _ _ xb];refine ab (fh (ab ?_));refine ab (bK (iT (use:=some (assign (.Name x px) X.env)) (Q:=λ_ s'=>SP X pins D .next s') rfl hs S.qQ S.kind S.names
   (cQ (hi pins s U H _ I h) λxv bX dX=>cQ dX λuH gU jL=>?_)) (λ_ s' hq=>au (au hq)) λ_ _ e=>e)
  obtain⟨it,fp,tn,J,H2,e,I2,T,fW,f2,W,⟨m0,w0⟩,turn⟩:=jL;subst e;refine HD (HA (xx:=λ_ _ _ _ _=>False) (Q:=λv H1=>sV i v U H1 D.nx) (RR:=λacc C=>compPost (model X.prog X.w) X.A X.xe (some (assign (.Name x px) X.env)) (λ_ s'=>SP X pins D .next s') acc C) S hc (λC s H=>hg pins C s H fp) (λC s H=>ht pins C s H fp) (λC s H=>he pins C s H fp) I2 T fW f2 w0 turn ?_ λ_ _ _ _ _ z=>z.elim);intro Dl C s' H' m I' q hn hC hsz;refine wpAny_assign_Name (Ht I' hN uT hx (v:=.ref Dl) rfl (λs3 I3 ⟨a,sb,ha⟩=>?_) hf);have Nm:C≠a:=by
   obtain⟨f0,f1,f2,f3,f4,f5⟩:=I2.pz (b:=C) (H':=H') hsz hC;rcases ha with z|z
   ·rw[z];exact f1
   ·exact λz'=>f4 _ _ z z'.symm
  obtain⟨f0,f1,f2,f3,f4,f5⟩:=I2.pz (b:=C) (H':=H') hsz hC;refine⟨m,hn.sameBut sb Nm,λh3 Lu=>⟨_,H',I3.turned (t':=s3.toks) (λb o hb e=>Lu.extBut b o hb e) f0 f1 f3 f4 f5,q⟩⟩
end
end L2
namespace HT
open PySem PyProof.Rows
end HT
namespace L2
open PySem PySem.Spec PyProof.Rows
section
variable{X:Cx}
theorem Zk:n4 X (.builtin "isinstance") (λxs H Q=>∃x t c b,xs=[x,.ty c]/\gY X.K H x t/\PySem.W.kitOne X.K t (.type c)=some b/\Q (.bl b) H):=by
 intro pins s U H xs us Q I r h;obtain⟨x,t,c,b,rfl,hT,hk,q⟩:=h;obtain⟨u,w',rfl,ru,gh⟩:=vals2 r;cases (show w'=Value.type c from gh);exact XJ I ru hT hk λtk=>⟨.bl b,H,I.tok tk,rfl,q⟩
theorem Xs(hc:X.calm=true):n4 X (.builtin "all") (λxs H Q=>∃(a:Addr) (bs:List Bool),xs=[.ref a]/\fO X.K H a (bs.map V.bl)/\Q (.bl (bs.all id)) H):=by
 intro pins s U H xs us Q I r h;obtain⟨a,bs,rfl,ha,q⟩:=h;obtain⟨u,rfl,ru⟩:=vals1 r;cases ru;obtain⟨bp,rv,p,hz⟩:=I.list ha;refine call_all_walk ?_;refine iJ p.isList ?_;have eZ:a≠s.heap.objs.size:=by
  obtain⟨o,e,_⟩:=id p.isList;exact aM (aA e)
 have hl:=rv.length;rw[ak] at hl;refine⟨s.heap.objs.size,_,_,_,_,_,λi=>bs.getD i true,rfl,Walks.list (A:=X.A.in1) (I.ok.hd hc) _ a eZ bp.toArray,⟨⟨_,aB _ rfl,rfl,rfl⟩,?_⟩,?_,λh' tk k=>?_⟩
 ·obtain⟨o,e,q1⟩:=id p.isList;exact⟨o,ao _ e,q1⟩
 ·intro i v s' Q' E' hP hQ;have hv:bp[i]?=some v:=by simpa using hP
  have hi:i<bs.length:=by rw[hl];exact(av.mp hv).1
  obtain⟨u',uK,zl⟩:=rv.get (i:=i) (x:=V.bl bs[i]) (by rw[ae,ag hi];rfl);rw[hv] at uK;cases uK;cases (show v=Value.bool bs[i] from zl);refine cL ?_;have:bs.getD i true=bs[i]:=by simp[List.getD,hi]
  dsimp only at hQ;rw[this] at hQ;exact hQ
 ·have e1:(List.range bp.toArray.size).all (λi=>bs.getD i true)=bs.all id:=by
   rw[aW,<- hl];rw[bg];simp only[List.all_eq_true,List.mem_range,id];constructor
   ·intro hh x hx;obtain⟨i,hi,rfl⟩:=bt.mp hx;have:=hh i hi;simpa[List.getD,hi] using this
   ·intro hh i hi;have:=hh bs[i] (bN hi);simpa[List.getD,hi] using this
  rw[e1];exact ⟨.bl (bs.all id),H,I.kept (t':=tk) λb o e=>k b o (by
   intro hb;have:b=s.heap.objs.size:=by simpa using hb
   exact absurd (aA e) (by rw [this];exact bL _)) (ao _ e),rfl,q⟩
end
end L2
namespace HT
open PySem PyProof.Rows
section
variable{prog:Program}{w:World}{A:Around}{E:Value->Shared->Prop}{s:Shared}
theorem Xb{sl:Addr}{n:Nat}{t:Tok}{Q:Int×Int×Nat->Shared->Prop}(hs:s.heap.IsSliceOf sl .none .none (.int (-1) t))(h:Q ((n:Int)-1,-1,n) s) :
  wpAny (model prog w) A (Builtin.Slice.sliceApplied (.ref sl) (pure (n:Int))) Q E s:=by
 obtain⟨os,uO,FJ,xi⟩:=id hs;refine ab (ab (wpAny_field uO xi (x:=.none) rfl (ab (wpAny_field uO xi (x:=.none) rfl (ab (wpAny_field uO xi (x:=.int (-1) t) rfl (au ?_)))))));refine ab (slicePart_int ?_);refine ab (slicePart_none (ab (slicePart_none (ab (au ?_)))));show wpAny _ _ (pure ((n:Int)-1,(-1:Int),Builtin.Slice.slicePlaces ((n:Int)-1) (-1) (-1))) _ _ s;have e2:Builtin.Slice.slicePlaces ((n:Int)-1) (-1) (-1)=n:=by
  unfold Builtin.Slice.slicePlaces
  grind
 rw[e2];exact au h
theorem JL(xs:Array Value):((List.range xs.size).filterMap λ(m:Nat)=>xs[(((xs.size:Nat):Int)-1+(m:Int)*(-1)).toNat]?).toArray=xs.toList.reverse.toArray:=by
 congr 1
 apply bS;intro i;have e:(List.range xs.size).filterMap (λ(m:Nat)=>xs[(((xs.size:Nat):Int)-1+(m:Int)*(-1)).toNat]?)=(List.range xs.size).map λm=>xs.toList.reverse.getD m .none:=by
  have:∀(l:List Nat),(∀m∈l,m<xs.size)->l.filterMap (λ(m:Nat)=>xs[(((xs.size:Nat):Int)-1+(m:Int)*(-1)).toNat]?)=l.map λm=>xs.toList.reverse.getD m .none:=by
   intro l hl
   induction l with
   |nil=>rfl
   |cons a r ih =>
    have ha:=hl a (by simp);have e1:(((xs.size:Nat):Int)-1+(a:Int)*(-1)).toNat=xs.size-1-a:=by omega
    have e2:xs[xs.size-1-a]?=some xs[xs.size-1-a]:=by simp
    have e3:xs.toList.reverse.getD a .none=xs[xs.size-1-a]:=by
     have hl:a<xs.toList.reverse.length:=by simpa using ha
     rw[List.getD_eq_getElem?_getD,ag hl];simp[List.getElem_reverse]
    rw[dF,e1,e2,cI,e3,ih λm hm=>hl m (by simp[hm])]
  exact this _ λm hm=>by simpa using hm
 rw[e];by_cases hi:i<xs.size
 ·rw[ae,cb hi];simp only[Option.map_some,List.getD_eq_getElem?_getD];rw[ag (by simpa using hi)]
  rfl
 simp_all
theorem Xc{t sl:Addr}{items:Array Value}{tk:Tok}{Q:Value->Shared->Prop}(ht:IsTup s.heap t items)(hs:s.heap.IsSliceOf sl .none .none (.int (-1) tk))(h:Q (.ref s.heap.objs.size) { s with heap:=s.heap.push { cls:=.type "tuple",data:=.seq items.toList.reverse.toArray } })(hsz:items.size<=sizeLine):wpAny (model prog w) A (getItem (.ref t) (.ref sl)) Q E s:=by
 have lq:sizeOk (.seq items.toList.reverse.toArray):=by
  show items.toList.reverse.toArray.size<=sizeLine;rw[aW,Ef,cc];exact hsz
 obtain⟨os,uO,FJ,xi⟩:=id hs;have Nf:s.TypeIs (.ref sl) "slice":=⟨os,uO,FJ⟩
 unfold getItem
 try with_reducible refine cz ?_
 refine ab (wpAny_sequenceKey ht.typeIs ∅ ?_);refine ab (jl (name:=Str.ofString "__getitem__") ht.typeIs fz
  (de fz ht.typeIs entry_tuple_getitem ?_ (args_tuple_getitem _ _)))
 show wpAny _ _ (Builtin.Tuple.tupleItemsOf (.ref t) >>= _) _ _ s;refine ab (tupleItemsOf_ ht ?_);refine ab (jG Nf ?_);refine ab (Xb hs ?_);have oU:¬((((items.size:Nat):Int)-1==0&&(-1:Int)==1&&items.size==items.size)=true):=by
  simp
 show wpAny _ _ (if(((items.size:Nat):Int)-1==0&&(-1:Int)==1&&items.size==items.size)=true then _ else _) _ _ s;rw[aF oU,JL]
 first
  |exact wpAny_bind (m:=Builtin.Tuple.tupleExact _) (wpAny_newObj_type (wpAny_pure ⟨_,rfl,wpAny_pure h⟩) lq)
  |exact wpAny_bind (m:=Builtin.Tuple.tupleExact _) (wpAny_newObj_type (wpAny_bind (wpAny_pure (wpAny_pure ⟨_,rfl,wpAny_pure h⟩))) lq)
  |exact wpAny_bind (wpAny_bind (m:=Builtin.Tuple.tupleExact _) (wpAny_newObj_type (wpAny_pure (wpAny_pure ⟨_,rfl,wpAny_pure h⟩)) lq))
  |exact wpAny_bind (wpAny_bind (m:=Builtin.Tuple.tupleExact _) (wpAny_newObj_type (wpAny_pure ⟨_,rfl,wpAny_pure h⟩) lq))
end
end HT
namespace L2
open PySem PySem.Spec PyProof.Rows
variable{X:Cx}{pos p:Pos}{H:Hp}{U:St}{s s':Shared}{ta:TA}
section
variable{e st:Expr}{te ts:TE}{p2:Pos}
theorem WN(bp:List Value):slicePick bp.toArray none none (some (-1))=bp.reverse.toArray:=by
 have h:=HT.JL bp.toArray;unfold slicePick;have e1:(sliceBounds none none (some (-1)) bp.toArray.size).1=((bp.toArray.size:Nat):Int)-1:=rfl;have e2:(sliceBounds none none (some (-1)) bp.toArray.size).2.1=-1:=rfl;have e3:(sliceBounds none none (some (-1)) bp.toArray.size).2.2=-1:=rfl;rw[e1,e2,e3];have e4:sliceRange (((bp.toArray.size:Nat):Int)-1) (-1) (-1)=(List.range bp.toArray.size).map λ(m:Nat)=>(((bp.toArray.size:Nat):Int)-1+(m:Int)*(-1)).toNat:=by
  unfold sliceRange;have h2:(if((bp.toArray.size:Nat):Int)-1 > -1 then(((bp.toArray.size:Nat):Int)-1-(-1)-(-1)-1) / (-(-1)) else 0).toNat=bp.toArray.size:=by
   grind
  simp_all
 rw[e4,List.filterMap_map];rw[show bp.reverse=bp.toArray.toList.reverse from rfl,<- h]
 rfl
theorem QR(he:PE X e te)(hs:PE X st ts):PE X (.Subscript e (.Slice none none (some st) p2) pos) (λU H Q=>te U H λx H1=>ts U H1 λy H2=>y=.int (-1)/\∃a xs,x=.ref a/\((jU X.K H2 a xs/\∀p,H2 p=none->Q (.ref p) (upd H2 p (.tup xs.reverse)))\/(fO X.K H2 a xs/\∀p,H2 p=none->Q (.ref p) (upd H2 p (.lst xs.reverse))))):=by
 intro pins s U H Q I h;refine Subscript_ (cQ (he pins s U H _ I h) λv s1 bz=>?_);obtain⟨x,H1,I1,r1,q1⟩:=bz;refine wpAny_Slice ?_;refine au ?_;refine au ?_;refine cQ (hs pins s1 U H1 _ I1 q1) λu s2 bz=>?_;obtain⟨y,H2,I2,r2,q2⟩:=bz;obtain⟨rfl,a,xs,rfl,q⟩:=q2;obtain⟨t,rfl⟩:=r2;cases r1;have I4:Inv X pins U H2 { s2 with heap:=s2.heap.push { cls:=.type "slice",data:=.fields #[.none,.none,.int (-1) t] } }:=I2.kept (t':=s2.toks) λb ob q=>ao _ q;rcases q with⟨hx,q⟩|⟨hx,q⟩
 ·obtain⟨bp,r,ht,hz⟩:=I4.tuple hx;have hlen:bp.toArray.size=xs.length:=by exact r.length.symm
  refine tail_any (ops:=[.ref a,.ref s2.heap.objs.size]) ht.typeIs fz.lookup (HT.Xc ht (mE ..) ?_ (by rw[hlen];exact hz)) (by rfl);refine⟨.ref _,_,I4.laid (t':=s2.toks) (o:=.tup xs.reverse) (λb ob q=>ao _ q) (ai _) ?_,rfl,q _ (I4.cu.fresh (ai _))⟩;exact⟨by simp_all,bp.reverse,r.reverse,U0.new _ _⟩
 ·obtain⟨bp,r,ht,hz⟩:=I4.list hx;have hlen:bp.toArray.size=xs.length:=by exact r.length.symm
  refine tail_any (ops:=[.ref a,.ref s2.heap.objs.size]) ht.isList.typeIs nL.lookup (KQ ht.isList (mE ..) .none .none (.int (-1) t) (by simp) ?_ (by rw[hlen];exact hz)) (by rfl);rw[WN];refine⟨.ref _,_,I4.laid (t':=s2.toks) (o:=.lst xs.reverse) (λb ob q=>ao _ q) (ai _) ?_,rfl,q _ (I4.cu.fresh (ai _))⟩;exact⟨by simp_all,_,0,r.reverse,aB _ rfl⟩
end
theorem o6.get{P:Program}{w:World}{h:Heap}{a:Addr}:∀{o:HO},o6 P w H h a o->∃ob,h.get? a=some ob
 |.lst _,x=>by obtain⟨_,_,_,_,e⟩:=x;exact⟨_,e⟩
 |.tup _,x=>by obtain⟨_,_,_,o,e,_⟩:=x;exact⟨o,e⟩
 |.dK _,x=>by obtain⟨_,_,_,_,o,es,ep,e,_⟩:=x;exact⟨o,e⟩
 |.dT _,x=>by obtain⟨_,_,_,_,o,es,ep,e,_⟩:=x;exact⟨o,e⟩
 |.set _ _,x=>by obtain⟨o,es,ep,t,e,_⟩:=x;exact⟨o,e⟩
 |.ins _ _ _,x=>by obtain⟨_,_,_,e,_⟩:=x;exact⟨_,e⟩
 |.own _,x=>x
 |.xd _,x=>by obtain⟨mA,n,_⟩:=x;obtain⟨od,e,_⟩:=Hm n;exact⟨od,e⟩
 |.ml _ _,x=>by obtain⟨_,_,_,e⟩:=x;exact⟨_,e⟩
 |.jN _ _,x=>⟨_,x.1⟩
 |.kO _,x=>⟨_,x⟩
 |.met _ _,x=>⟨_,x⟩
 |.ext _,x=>x.2.1
def CC(H':Hp)(h0:Heap)(l:List Env)(e:Value)(C:Addr)(h:Heap):Prop :=
 ∃(ea:Addr) (a0:Value) (B:Heap),e=.ref ea/\Heap.FlyingW B l ea (.ref C) a0 h/\∀b o,h.get? b=some o->b∉iR l->(H' b≠none\/∃o0,h0.get? b=some o0)->B.get? b=some o
def ky(P:Program)(w:World):nA:=λouter H s E e s'=>∃(C:Addr) (H':Hp),s'.os=s.os/\AllBare s'.gens/\Un (iR outer) [] H H' s.heap s'.heap/\gE P w H' s'.heap/\CC H' s.heap outer e C s'.heap/\E (.ref C) none H'
section
variable{pins:List (Addr×Obj)}{E:XK}{e:Value}
theorem Inv.flew(I:Inv X pins U H s)(h:ky X.prog X.w X.stack H s E e s'):∃C H',Inv X pins U H' s'/\CC H' s.heap X.stack e C s'.heap/\E (.ref C) none H':=by
 obtain⟨C,H',ho,hb,hu,cu,fl,hE⟩:=h;exact⟨C,H',I.Kb (ch:=[]) ho hu cu hb (by simp),fl,hE⟩
theorem Z'(I:Inv X pins U H s){b:Addr}(hb:b∈iR X.stack):∃o,s.heap.get? b=some o/\∀vs,o.data≠.fields vs:=(I.stack.mem hb).2
theorem VX{qI:Heap}{B:Heap}{ea C:Addr}{a0:Value}(I:Inv X pins U H s)(fN:X.stack=X.env::X.outer)(hex:X.ex=[])(hf:X.env.frame=some X.env.locals)(zE:∀b o,s.heap.get? b=some o->b∉iR X.stack->(H b≠none\/∃o0,X.dM.heap.get? b=some o0)->B.get? b=some o)(sl:∀b∈iR X.stack,∀o,s.heap.get? b=some o->∃sl,qI.get? b=some { o with slots:=sl })(fw:Heap.FlyingW B X.outer ea (.ref C) a0 qI)(hE:E (.ref C) none H):ky X.prog X.w X.outer X.kY X.dM E (.ref ea) { s with heap:=qI }:=by
 have zL:∀b,b∈iR X.outer->b∈iR X.stack:=λb hb=>by rw[fN];unfold iR at hb ⊢;rw[dF,hf];exact bu _ hb
 have uj:∀b o,X.dM.heap.get? b=some o->b∉iR X.outer->b∉iR X.stack:=λb o e hb z=>by
  rcases aG.mp (I.L1 b z) with z|z
  ·exact absurd (aA e) (by rw[z];exact KW.mpr I.ok.above)
  ·exact hb z
 have pL:∀b u,H b=some u->b∉iR X.stack:=λb u e z=>by rw[I.BL b z] at e;cases e
 have kept:∀b o,s.heap.get? b=some o->b∉iR X.stack->(H b≠none\/∃o0,X.dM.heap.get? b=some o0)->qI.get? b=some o:=λb o e n q=>fw.1 b o (zE b o e n q);have uo:∀b,b∉X.ex:=λb=>by rw[hex];simp
 refine⟨C,H,I.os,I.bare,⟨?_,?_,?_,?_,I.base.iX,I.base.iG,I.base.iY⟩,?_,⟨ea,a0,B,rfl,fw,?_⟩,hE⟩
 ·exact λb o e n1 n2 _=>kept b o (I.base.keep b o e n1 n2 (uo b)) (uj b o e n2) (.inr ⟨o,e⟩)
 ·intro b o e n1 n2 _;obtain⟨sl1,e1⟩:=I.base.slot b o e n1 n2 (uo b);obtain⟨Ez,e2⟩:=sl b (zL b n2) _ e1;exact⟨Ez,e2⟩
 ·exact λb o e n1 _=>I.base.free b o e n1 (uo b)
 ·intro b o e _;obtain⟨o1,e1⟩:=I.base.there b o e (uo b);by_cases hb:b∈iR X.stack
  ·obtain⟨Ez,e2⟩:=sl b hb _ e1;exact⟨_,e2⟩
  ·exact⟨o1,kept b o1 e1 hb (.inr ⟨o,e⟩)⟩
 ·intro a o e;exact (I.cu a o e).Z7 (λb u hb q=>by
   have lA:∃v,H b=some v:=by
    rcases hb with rfl|hb
    ·exact⟨o,e⟩
    ·exact⟨_,hb⟩
   obtain⟨v,hv⟩:=lA;exact kept b u q (pL b v hv) (.inl (by rw [hv];simp))) (λb hb=>hb) (λb xs hb=>hb)
 ·intro b o e n q;rcases q with q|⟨o0,q⟩
  ·obtain⟨v,hv⟩:=Option.ne_none_iff_exists'.mp q;obtain⟨o1,e1⟩:=(I.cu b v hv).get;have z:=zE b o1 e1 (pL b v hv) (.inl (by rw[hv];simp));have z':=fw.1 b o1 z;have:o=o1:=by
    have e':qI.get? b=some o:=e;rw[z'] at e';exact(aL e').symm
   subst this;exact z
  ·obtain⟨o1,e1⟩:=I.base.there b o0 q (uo b);have z:=zE b o1 e1 (uj b o0 q n) (.inr ⟨o0,q⟩);have z':=fw.1 b o1 z;have:o=o1:=by
    have e':qI.get? b=some o:=e;rw[z'] at e';exact(aL e').symm
   subst this;exact z
theorem ZJ{h0:Heap}{C:Addr}{Ex:Value->Shared->Prop}(I:Inv X pins U H s)(fl:CC H h0 X.stack e C s.heap)(NK:∀b o,X.dM.heap.get? b=some o->∃o',h0.get? b=some o')(fN:X.stack=X.env::X.outer)(hex:X.ex=[])(hf:X.env.frame=some X.env.locals)(hE:E (.ref C) none H):wpAny (model X.prog X.w) X.A (leaving X.env e) (λ_ tZ=>ky X.prog X.w X.outer X.kY X.dM E e tZ) Ex s:=by
 obtain⟨ea,a0,B,rfl,fw,hB⟩:=fl;rw[fN] at fw;refine wpAny_leaves_onW (by rw[I.ok.frames,fN]) hf fw λqI NU us=>?_;refine VX I fN hex hf (λb o e n q=>hB b o e n (q.imp id λ⟨o0,q⟩=>NK b o0 q)) (λb hb o e=>?_) NU hE;obtain⟨o1,e1,nf⟩:=Z' I hb;rw[e] at e1;cases e1;exact us b o e nf
end
def DV(K:PySem.W.Frag)(a:Addr):It :=
 ⟨λi H=>∃xs x,fO K H a xs/\xs[i]?=some x,λi H v H'=>∃p x,H p=none/\v=.ref p/\(∀xs,fO K H a xs->xs[i]?=some x)/\H'=upd H p (.tup [.int i,x]),λi H=>∃xs,fO K H a xs/\xs.length<=i⟩
theorem Ys{P:Program}{w:World}{K:PySem.W.Frag}{elts:List Expr}{x1:Nat}{tp:Pos}(a e it:Addr)(FF:e≠it):Turn P w K (.Tuple elts x1 tp) (DV K a) [e,it] e (λi h=>(∃old,IsEnum h e it i old)/\h.IsListIter it a i) where
 mem:=by simp
 obj:=λi h st b hb=>by
  obtain⟨⟨old,h1⟩,o,h2,c,d⟩:=st;rcases aG.mp hb with z|z
  ·subst z;exact ⟨_,h1,λv z=>by
    have z':Data.fields _=Data.cell v:=z;cases z'⟩
  ·have z:b=it:=by simpa using z
   subst z;exact⟨o,h2,λv z=>by rw[d] at z;cases z⟩
 keep:=λi h h' st k=>by
  obtain⟨⟨old,h1⟩,h2⟩:=st;exact⟨⟨old,k e (by simp) _ h1⟩,h2.at λo x=>k it (by simp) o x⟩
 item:=by
  intro X hP hw hK hc i pins s U H E I hf st hg;subst hP hw hK;obtain⟨⟨old,h1⟩,h2⟩:=st;obtain⟨xs,x,hq,hx⟩:=hg;obtain⟨bp,rv,p,hz⟩:=I.list hq;obtain⟨u,hu,ru⟩:=rv.get hx;obtain⟨e0,e1,e2,e3,e4,e5⟩:=hf e (by simp);obtain⟨f0,f1,f2,f3,f4,f5⟩:=hf it (by simp);refine wpAny_pyNext_enum_item h1 h2 p.isList (x:=u) (by simpa using hu) FF λh' qk Ac uM hz' nI=>?_;refine⟨_,rfl,wpAny_letOwnedTupleGo_enum qk λvg MP gi=>?_⟩;have gi:Heap.SameBut e h' vg:=gi;have elt:e<s.heap.objs.size:=aA h1;have kp:∀b o,b≠e->b≠it->s.heap.get? b=some o->vg.get? b=some o:=λb o b1 b2 q=>(gi.2 b b1).trans (nI b o b1 b2 q);have hn:H s.heap.objs.size=none:=I.cu.fresh (ai _);have zd:vg.get? s.heap.objs.size=some { cls:=.type "tuple",data:=.seq #[.int i s.toks,u] }:=(gi.2 _ (bW elt)).trans uM;have ne:∀b u',H b=some u'->b≠e/\b≠it:=λb u' q=>And.intro (λ(z:b=e)=>by simp_all) (λ(z:b=it)=>by simp_all);have cu:gE X.prog X.w (upd H s.heap.objs.size (.tup [.int i,x])) vg:=λb o q=>by
   by_cases hb:b=s.heap.objs.size
   ·subst hb;rw[u7] at q;cases q;exact⟨by show 2<=sizeLine;decide,[.int i s.toks,u],.cons ⟨_,rfl⟩ (.cons ru .nil),_,zd,rfl,⟨_,rfl⟩,rfl⟩
   ·rw[f7 hb] at q;refine(I.cu b o q).Z7 (λc v hc q'=>?_) (λc q'=>by rw[f7 (m9 q' hn)];exact q') λc ys q'=>by rw[f7 (m9 q' hn)];exact q'
    rcases hc with z|z
    ·subst z;exact kp _ _ (ne _ _ q).1 (ne _ _ q).2 q'
    ·exact kp _ _ (ne _ _ z).1 (ne _ _ z).2 q'
  have I2:Inv X pins U (upd H s.heap.objs.size (.tup [.int i,x])) { s with heap:=vg,toks:=s.toks+1 }:=by
   refine I.step (g':=s.gens) (d':=s.drawn) (t':=s.toks+1) (ch:=[e,it]) (λb hb=>?_) (λb o _ _ hb q _=>kp b o (λz=>hb (by simp[z])) (λz=>hb (by simp[z])) q) (λb o _ _ hb q _=>⟨o.slots,kp b o (λz=>hb (by simp[z])) (λz=>hb (by simp[z])) q⟩)
    (λb o _ q n=>by rw[f7 (aM (aA q))];exact n) (λb o hb q=>⟨o,kp b o (λz=>hb (by simp[z])) (λz=>hb (by simp[z])) q⟩)
    (λb ys q=>by rw[f7 (m9 q hn)];exact q) (λb o' ys q=>by rw[f7 (m9 q hn)];exact q) (λb ps q=>⟨#[],by rw[f7 (m9 q hn),q];simp⟩) (λm hm=>?_) cu I.bare
   ·rcases aG.mp hb with z|z
    ·subst z;exact⟨e3,e1,e4,e5⟩
    ·have z:b=it:=by simpa using z
     subst z;exact⟨f3,f1,f4,f5⟩
   ·obtain⟨o,es,ep,ho,r⟩:=hm;exact⟨o,es,ep,kp _ o (cw e1) (cw f1) ho,r⟩
  refine⟨.ref s.heap.objs.size,_,I2,rfl,⟨s.heap.objs.size,x,hn,rfl,λys hy=>by rw[I.BR hy hq];exact hx,rfl⟩,⟨⟨u,by simpa using MP⟩,Ac.at λo y=>(gi.2 it FF.symm).trans y⟩,λb hb=>?_⟩;have lA:b<s.heap.objs.size:=by
   rcases aG.mp hb with z|z
   ·subst z;exact elt
   ·have z:b=it:=by simpa using z
    subst z;obtain⟨o,h2,_⟩:=h2;exact aA h2
  rw[f7 (aM lA)];exact(hf b hb).1
 done:=by
  intro X hP hw hK hc i pins s U H E I hf st hg;subst hP hw hK;obtain⟨⟨old,h1⟩,h2⟩:=st;obtain⟨xs,hq,hx⟩:=hg;obtain⟨bp,rv,p,hz⟩:=I.list hq;obtain⟨f0,f1,f2,f3,f4,f5⟩:=hf it (by simp);have hl:=rv.length;exact wpAny_pyNext_enum_end (I.ok.hd hc) h1 h2 p.isList (by simp;omega) λh' eb=>⟨rfl,I.turned (t':=s.toks) (λb o hb e=>eb b o hb e) f0 f1 f3 f4 f5⟩
 self:=λ_ _ _ _ _ st h=>by
  obtain⟨⟨old,h1⟩,h2⟩:=st;exact wpAny_pyIter_enum h1 h
theorem Tf{l:Expr}{tp:Pos}{elts:List Expr}{x1:Nat}(hg:Gl X "enumerate")(hm:X.mg "enumerate"=none)(ha:PA X [l] ta)(hs:starEach [l] X.env=[(false,eval l X.env)]) :
  PI X (.Tuple elts x1 tp) (.Call (.Name "enumerate" p) [l] [] pos) (λU H R=>ta U H λvs H1=>∃a,vs=[.ref a]/\(∃xs,fO X.K H1 a xs)/\R (DV X.K a) H1):=by
 intro pins s U H R I h;refine Call_ (L8 I hg hm PyProof.Rows.boot_enumerate (bR (cQ (ha pos pins s U H _ I h) λus s1 bz=>?_) hs rfl));obtain⟨vs,H1,I1,r1,q1⟩:=bz;obtain⟨a,e,⟨xs,hq⟩,q⟩:=q1;subst e;cases r1 with
 |cons r rr =>
  cases rr;cases r;obtain⟨bp,rv,p,hz⟩:=I1.list hq;refine call_enumerate_list p.isList λh' he hit hsz hk=>wpAny_pyIter_enum he ?_;refine⟨s1.heap.objs.size+1,[s1.heap.objs.size+1,s1.heap.objs.size],_,_,H1,rfl,I1.kept (t':=s1.toks) hk,Ys a _ _ (by simp),⟨⟨_,he⟩,hit⟩,λb hb=>?_,q⟩;have lA:s1.heap.objs.size<=b:=by
   rcases aG.mp hb with z|z
   ·simp_all
   simp_all
  exact I1.pz lA (I1.cu.fresh lA)
theorem YH{lo:Int}{acc:Array Value}{n:Nat}(h:ItemsOf (λi v=>∃t,v=.int (lo+i*1) t) acc n):Vals ((List.range n).map λ(k:Nat)=>V.int (lo+k)) acc.toList:=by
 have hl:acc.toList.length=n:=by
  have:=h.1;omega
 have go:∀(m:Nat) (l:List Value),l.length<=n->m+l.length=n->(∀i v,l[i]?=some v->∃t,v=Value.int (lo+((m+i:Nat):Int)) t)->Vals ((List.range' m l.length).map λ(k:Nat)=>V.int (lo+k)) l:=by
  intro m l
  induction l generalizing m with
  |nil=>intro _ _ _;exact .nil
  |cons x r ih =>
   intro h1 h2 h3;refine .cons ?_ (ih (m+1) (by simp at h1;omega) (by simp at h2;omega) λi v hv=>?_)
   ·obtain⟨t,e⟩:=h3 0 x rfl;exact⟨t,by rw[e];simp⟩
   ·obtain⟨t,e⟩:=h3 (i+1) v (by simpa using hv)
    grind
 have:=go 0 acc.toList () () λi v hv=>?_
 ·rw[hl,<- List.range_eq_range'] at this;exact this
 ·have:acc[i]?=some v:=by rw[<- fI];exact hv
  obtain⟨t,e⟩:=h.2 i v this;refine⟨t,?_⟩;rw[e];simp
theorem Ip(hc:X.calm=true):n4 X (.type "list") (λxs H Q=>∃a lo hi,xs=[.ref a]/\H a=some (.ml lo hi)/\(-(2 ^ 62)<=lo/\lo<2 ^ 62/\-(2 ^ 62)<=hi/\hi<2 ^ 62/\hi-lo<=100000)/\∀p,H p=none->Q (.ref p) (upd H p (.lst ((List.range (hi-lo).toNat).map λ(k:Nat)=>V.int (lo+k))))):=by
 intro pins s U H xs us Q I r h;obtain⟨a,lo,hi,rfl,ha,⟨h1,h2,h3,h4,h5⟩,q⟩:=h;obtain⟨t,u,v,ho⟩:=I.cu a _ ha;cases r with
 |cons r rr =>
 cases rr;cases r;have hn:Builtin.Range.rangeSize lo hi 1=((hi-lo).toNat:Nat):=by rw[rangeSize_one];split<;>omega
 refine call_list_range (n:=(hi-lo).toNat) (I.ok.hd hc) ho (small_one h1 h2 h3 h4) hn () λh' mH acc c hk hS iQ=>?_;have hp:H s.heap.objs.size=none:=I.cu.fresh (ai _);refine⟨.ref _,_,I.laid (a:=s.heap.objs.size) (o:=.lst ((List.range (hi-lo).toNat).map λ(k:Nat)=>V.int (lo+k))) (t':=mH) hk (ai _) ⟨?_,acc.toList,c,YH iQ,by simpa using hS⟩,rfl,q _ hp⟩;rw[ak,fk];have:(hi-lo).toNat<=100000:=by omega
 exact aD this ∅
theorem Yb{a:Expr}(hg:Gl X "range")(hm:X.mg "range"=none)(ha:PA X [a] ta)(hs:starEach [a] X.env=[(false,eval a X.env)]):PE X (.Call (.Name "range" p) [a] [] pos) (λU H Q=>ta U H λvs H1=>∃j:Int,vs=[.int j]/\∀q,H1 q=none->Q (.ref q) (upd H1 q (.ml 0 j))):=by
 intro pins s U H Q I h;refine cR (L8 I hg hm boot_range (bR (cQ (ha pos pins s U H _ I h) λus s1 bz=>?_) hs rfl));obtain⟨vs,H1,I1,r1,q1⟩:=bz;obtain⟨j,e,q⟩:=q1;subst e;cases r1 with
 |cons r rr =>
  cases rr;obtain⟨t,rfl⟩:=r;exact call_range_1 ⟨.ref s1.heap.objs.size,_,I1.laid (a:=s1.heap.objs.size) (o:=.ml 0 j) (λb o e=>ao _ e) (ai _) ⟨_,_,_,aB _ rfl⟩,rfl,q _ (I1.cu.fresh (ai _))⟩
theorem Yc{a b:Expr}(hg:Gl X "range")(hm:X.mg "range"=none)(ha:PA X [a,b] ta)(hs:starEach [a,b] X.env=[(false,eval a X.env),(false,eval b X.env)])(gi:starEach [b] X.env=[(false,eval b X.env)]):PE X (.Call (.Name "range" p) [a,b] [] pos) (λU H Q=>ta U H λvs H1=>∃i j:Int,vs=[.int i,.int j]/\∀q,H1 q=none->Q (.ref q) (upd H1 q (.ml i j))):=by
 intro pins s U H Q I h;refine cR (L8 I hg hm boot_range (bR (cQ (ha pos pins s U H _ I h) λus s1 bz=>?_) (by rw[hs,gi]) (by rw[gi];rfl)));obtain⟨vs,H1,I1,r1,q1⟩:=bz;obtain⟨i,j,e,q⟩:=q1;subst e;cases r1 with
 |cons r rr =>
  cases rr with
  |cons r' rr =>
   cases rr;obtain⟨t,rfl⟩:=r;obtain⟨t',rfl⟩:=r';exact call_range_2 ⟨.ref s1.heap.objs.size,_,I1.laid (a:=s1.heap.objs.size) (o:=.ml i j) (λb o e=>ao _ e) (ai _) ⟨_,_,_,aB _ rfl⟩,rfl,q _ (I1.cu.fresh (ai _))⟩
def xF(K:PySem.W.Frag)(P:Params)(a:Addr)(kvs:List (Str×V)):Prop :=
 ∃es n,K.lookup a=some ⟨.type "dict",none,.dict es n,#[]⟩/\PySem.W.KeysLit P es.toList/\(a==sysModules)=false/\∀x,I9 (kvs.lookup x) (findBy Value.isStrOf es x)
theorem Wk{kvs:List (Str×V)}:tq X (λx y H Q=>∃a z v,x=.ref a/\xF X.K X.w.params a kvs/\y=.str z/\kvs.lookup z=some v/\Q v H):=by
 intro value slice pins s U H x y v u Q I rx ry h hs;obtain⟨a,z,d,rfl,⟨es,n,hl,hk,lo,hf⟩,rfl,hz,q⟩:=h;cases rx;obtain⟨t,rfl⟩:=ry;have hm:=PySem.W.mapOf_K (prog:=X.prog) (w:=X.w) I.hJ hl hk;have e:=hf z;rw[hz] at e;cases h2:findBy Value.isStrOf es z with
 |none=>rw[h2] at e;exact e.elim
 |some r =>
  rw[h2] at e;exact tail_any hm.typeIs slot_dict_getitem.lookup (wpAny_getItem_of (strKind_is X.prog X.w z t) hm h2 ⟨d,H,I.tok _,e,q⟩) hs
theorem SD(hu:X.A.units+1<cLine):tq X (λx y H Q=>∃a v,x=.ref a/\P6 H a y (some v)/\Q v H):=by
 intro value slice pins s U H x y v u Q I rx ry h hs;obtain⟨a,d,rfl,g,q⟩:=h;cases rx;exact tail_any (Zn I g) slot_dict_getitem.lookup (XA hu I g ry λw' s3 I3 gh=>⟨d,H,I3,gh,q⟩) hs
end L2
namespace ST
open PySem PyProof.Rows
variable{xs:Array Nat}{i k j n ep:Nat}{t:SetTable}{h h':Heap}{L:Bool}{es:Array (Int×Value)}{x f:Value}{prog:Program}{w:World}{a I b l:Addr}{ks ns:List Int}{A:Around}{E Q:Value->Shared->Prop}{s:Shared}{pl:List Nat}{α:Type}{r:Rd}{items:Array Value}
noncomputable abbrev kE(xs:Array Nat):Prop:=xs.toList.Pairwise (· < ·)
theorem kE.lt(h:kE xs)(gD:i<k)(hk:k<xs.size):xs.getD i 0<xs.getD k 0:=by
 have:=df.mp h i k (by simpa using dw gD hk) (by simpa using hk) gD;rw[<- fH (h:=dw gD hk),<- fH (h:=hk)];exact this
theorem kE.le(h:kE xs)(gD:i<=k)(hk:k<xs.size):xs.getD i 0<=xs.getD k 0:=by
 rcases Nat.eq_or_lt_of_le gD with e|e
 ·rw[e];exact ai _
 ·exact eK (h.lt e hk)
theorem BB{xs:Array Nat}{j:Nat}(h:kE xs):∀(fuel lo hi:Nat),hi-lo<=fuel->lo<=hi->hi<=xs.size->(∀i,i<lo->xs.getD i 0<j)->(∀i,hi<=i->i<xs.size->j<=xs.getD i 0) ->
  SetTable.below.go xs j fuel lo hi<=xs.size/\(∀i,i<SetTable.below.go xs j fuel lo hi->xs.getD i 0<j)/\∀i,SetTable.below.go xs j fuel lo hi<=i->i<xs.size->j<=xs.getD i 0
 |0,lo,hi,h1,h2,h3,h4,h5=>by
  have:lo=hi:=by omega
  subst this;exact⟨h3,h4,h5⟩
 |fuel+1,lo,hi,h1,h2,h3,h4,h5=>by
  unfold SetTable.below.go;split
  ·have hm:(lo+hi) / 2<xs.size:=by omega
   have em:xs.getD ((lo+hi) / 2) j=xs.getD ((lo+hi) / 2) 0:=by simp[Array.getD,hm]
   dsimp only;rw[em];by_cases hc:xs.getD ((lo+hi) / 2) 0<j
   ·rw[aJ hc];exact BB h fuel _ hi () () h3 (λi iQ=>cZ (h.le () hm) hc) h5
   ·rw[aF hc];exact BB h fuel lo _ () () () h4 λi iQ hs=>aD (Nat.le_of_not_lt hc) (h.le iQ hs)
  ·have:lo=hi:=by omega
   subst this;exact⟨h3,h4,h5⟩
theorem Q9(j:Nat)(h:kE xs):SetTable.below xs j<=xs.size/\(∀i,i<SetTable.below xs j->xs.getD i 0<j)/\∀i,SetTable.below xs j<=i->i<xs.size->j<=xs.getD i 0 :=
 BB h _ 0 _ () () (ai _) (λi hi=>absurd hi (Nat.not_lt_zero _)) λi h1 h2=>absurd h2 ()
theorem below_at(h:kE xs)(hi:i<xs.size):SetTable.below xs (xs.getD i 0)=i:=by
 obtain⟨h1,h2,h3⟩:=Q9 (xs.getD i 0) h;rcases fi (SetTable.below xs (xs.getD i 0)) i with z|z|z
 ·exact absurd (h3 _ (ai _) ()) (Nat.not_le_of_lt (h.lt z hi))
 ·exact z
 ·exact absurd (h2 i z) (bL _)
theorem Yx(h:kE xs)(hi:i<xs.size):SetTable.below xs (xs.getD i 0+1)=i+1:=by
 obtain⟨h1,h2,h3⟩:=Q9 (xs.getD i 0+1) h;rcases fi (SetTable.below xs (xs.getD i 0+1)) (i+1) with z|z|z
 ·have:=h3 i () hi;omega
 ·exact z
 ·have:=h2 (i+1) z;have:=h.lt (lH i) (k:=i+1) ();omega
theorem Yy(h:kE xs):SetTable.below xs 0=0:=by
 obtain⟨_,h2,_⟩:=Q9 0 h;rcases KZ (SetTable.below xs 0) with z|z
 ·exact z
 ·exact absurd (h2 0 z) (Nat.not_lt_zero _)
theorem getD_mem(hi:i<xs.size):xs[i]?=some (xs.getD i 0):=by simp[Array.getD,hi]
theorem YY(h:kE t.place)(hs:t.slot j=.empty):j∉t.place.toList:=by
 intro hm;obtain⟨i,hi,e⟩:=bt.mp hm;have iQ:i<t.place.size:=by simpa using hi
 have ej:t.place.getD i 0=j:=by rw[<- fH (h:=iQ)];simpa using e
 have hb:=below_at h iQ;rw[ej] at hb;unfold SetTable.slot at hs;dsimp only at hs;rw[hb,getD_mem iQ,ej] at hs;simp at hs
theorem YU(h:kE xs)(hj:j∉xs.toList):kE (SetTable.insertAt xs (SetTable.below xs j) j):=by
 obtain⟨h1,h2,h3⟩:=Q9 j h;show(SetTable.insertAt xs (SetTable.below xs j) j).toList.Pairwise (· < ·);rw[SetTable.toList_insertAt,aQ];have tk:∀a∈xs.toList.take (SetTable.below xs j),a<j:=λa ha=>by
  obtain⟨i,hi,e⟩:=bt.mp ha;rw[eL] at hi;have hs:i<xs.size:=by omega
  have:=h2 i ()
  simp_all
 have dp:∀b∈xs.toList.drop (SetTable.below xs j),j<b:=λb hb=>by
  obtain⟨i,hi,e⟩:=bt.mp hb;have hs:SetTable.below xs j+i<xs.size:=by grind
  have:=h3 (SetTable.below xs j+i) () hs;rw[<- fH (h:=hs)] at this;have eZ:b≠j:=λz=>hj (by rw[<- z];exact yT hb);simp at e;omega
 refine⟨h.take,eY.mpr ⟨dp,h.drop⟩,λa ha b hb=>?_⟩;have lT:=tk a ha
 grind
theorem Yl(n:Nat):kE (Array.range n):=by
 show(Array.range n).toList.Pairwise (· < ·);rw[Array.toList_range];exact tF
structure Well(L:Bool)(t:SetTable):Prop where
 wQ:kE t.place
 Ba:t.dummies=#[]
 led:t.led=L
theorem a33(hd:t.dummies=#[])(j:Nat):t.slot j≠.dummy:=by
 unfold SetTable.slot;dsimp only;split
 ·simp
 ·rw[hd];split
  ·rename_i z;simp[SetTable.has] at z
  simp
theorem Ig{t:SetTable}(hd:t.dummies=#[]){hashAt:Nat->Int}{h:Int}:∀(fuel:Nat) (p:SetTable.Probe) {j:Nat} {dm:Option Nat},p.dummy=none->SetTable.probe.go t hashAt h fuel p=some (.empty j dm)->t.slot j=.empty/\dm=none
 |0,p,j,dm,_,e=>by simp[SetTable.probe.go] at e
 |fuel+1,p,j,dm,hp,e=>by
  unfold SetTable.probe.go at e;have ad:∀q:SetTable.Probe,q.dummy=none->(t.advance q).dummy=none:=λq hq=>by
   unfold SetTable.advance;split
   ·exact hq
   ·exact hq
  split at e
  ·simp_all
  ·rename_i hs;exact absurd hs (a33 hd _)
  ·split at e
   ·cases e
   ·exact Ig hd fuel _ (ad p hp) e
theorem XE(hd:t.dummies=#[]){h:Int}{wd:Bool}(e:t.freeSlot h=some (j,wd)):t.slot j=.empty/\wd=false:=by
 unfold SetTable.freeSlot at e;split at e
 ·rename_i j' dm hp;obtain⟨h1,h2⟩:=Ig hd _ _ rfl hp;subst h2;cases e;exact⟨h1,rfl⟩
 ·cases e
theorem L3(h:Well L t)(n:Nat):Well L (t.standIn n):=⟨Yl n,rfl,h.led⟩
theorem Zr{h:Int}(hw:Well L t):Well L (layNew t es h x).2.1/\(layNew t es h x).2.2.1=false:=by
 unfold layNew;split
 ·rename_i slot wd e;obtain⟨h1,h2⟩:=XE hw.Ba e;refine⟨?_,h2⟩;have hd:SetTable.has t.dummies slot=false:=by rw[hw.Ba];rfl
  have w2:Well L (t.put slot).1:=⟨YU hw.wQ (YY hw.wQ h1),by simp only[SetTable.put,hd];exact hw.Ba,hw.led⟩
  dsimp only;unfold SetTable.orStandIn;split
  ·exact w2
  ·exact L3 w2 _
 ·exact⟨L3 hw _,rfl⟩
theorem XQ{mask finger moves:Nat}{led plain:Bool}{hashes:Array Int}{o:Array Nat}(hl:led=L)(e:SetTable.laid mask finger moves led plain hashes=some (t,o)):Well L t:=by
 unfold SetTable.laid at e;cases ho:SetTable.layClean mask hashes with
 |none=>rw[ho] at e;cases e
 |some owner =>
  rw[ho] at e;simp only[Option.bind_eq_bind,Option.bind_some,Option.pure_def,Option.some.injEq,Prod.mk.injEq] at e;obtain⟨rfl,_⟩:=e;refine⟨?_,rfl,hl⟩;show(List.map _ _).toArray.toList.Pairwise (· < ·);rw[List.toList_toArray];have sub:((List.range (mask+1)).filterMap λj=>(owner.getD j none).map (j,·)).map (·.1) |>.Sublist (List.range (mask+1)):=by
   generalize List.range (mask+1)=l
   induction l with
   |nil=>simp
   |cons a r ih =>
    rw[dF];cases owner.getD a none with
    |none=>exact ih.cons a
    |some k=>exact ih.cons_cons a
  exact List.Pairwise.sublist sub tF
theorem WK(hw:Well L t):Well L (relayAll t es n).2.1:=by
 unfold relayAll;split
 ·rename_i t' order e;dsimp only;split
  ·exact XQ hw.led e
  ·exact L3 hw _
 ·exact L3 hw _
def toI:Value->Int
 |.int k _=>k
 |_=>0
def Led(w:World):Bool:=!(w.params.followText "set-order")
def v8(prog:Program)(w:World)(h:Heap)(a:Addr)(ks:List Int):Prop :=
 ∃o es ep t,h.get? a=some o/\o.ExactSet/\o.data=.set es ep t/\ElemsOf (intKind prog w) es.toList/\(es.toList.map λe=>toI e.2).Perm ks/\ks.Nodup/\es.size<scanBound/\t.fits es.size=true/\Well (Led w) t
theorem v8.at(x:v8 prog w h a ks)(k:∀o,h.get? a=some o->h'.get? a=some o):v8 prog w h' a ks:=by
 obtain⟨o,es,ep,t,e,r⟩:=x;exact⟨o,es,ep,t,k o e,r⟩
theorem yn{e:Int×Value}{es:List (Int×Value)}(h:ElemsOf (intKind prog w) es)(he:e∈es):∃tk,e.2=.int (toI e.2) tk/\e.1=(intKind prog w).hash (toI e.2):=by
 obtain⟨⟨k,h1,h2⟩,_⟩:=h e he;obtain⟨t,ht⟩:=Value.isInt_shape (k:=k) (v:=e.2) h1;refine⟨t,by rw[ht];rfl,?_⟩;rw[h2,ht]
 rfl
theorem Iy{e:Int×Value}{es:List (Int×Value)}(h:ElemsOf (intKind prog w) es)(he:e∈es)(k:Int):(intKind prog w).is k e.2=decide (toI e.2=k):=by
 obtain⟨t,ht,_⟩:=yn h he;rw[ht]
 rfl
theorem v8.mem{a:Addr}{es:List (Int×Value)}(h:ElemsOf (intKind prog w) es)(hp:(es.map λe=>toI e.2).Perm ks)(k:Int):(es.findIdx? λe=>(intKind prog w).is k e.2).isSome=decide (k∈ks):=by
 rw[bg,dO,<- hp.mem_iff,aU,eU];constructor
 ·rintro⟨i,hi⟩;obtain⟨h1,h2,_⟩:=kz.mp hi;have hm:=bN h1;rw[Iy h hm] at h2;exact⟨_,hm,bj h2⟩
 ·rintro⟨e,he,rfl⟩;cases hf:es.findIdx? λe'=>(intKind prog w).is (toI e.2) e'.2 with
  |some i=>exact⟨i,rfl⟩
  |none =>
   have:=List.findIdx?_eq_none_iff.mp hf e he;rw[Iy h he] at this;simp at this
def F0(ks:List Int)(k:Int):List Int:=if k∈ks then ks else ks++[k]
theorem ZT(ks:List Int)(k:Int):(F0 ks k).length<=ks.length+1:=by unfold F0;split<;>simp
theorem JV{k:Int}{tk:Tok}{Q:Bool->Shared->Prop}(hS:v8 prog w s.heap a ks)(hr:ks.length+1<scanBound)(h:∀h' b,Heap.SameBut a s.heap h'->v8 prog w h' a (F0 ks k)->Q b { s with heap:=h' }):wpAny (model prog w) A (setAddHashed a (.int k tk) ((intKind prog w).hash k)) Q E s:=by
 obtain⟨o,es,ep,t,ho,hx,hd,mY,hp,hn,hb,hf,hw⟩:=hS;have hlen:es.size=ks.length:=by rw[<- hp.length_eq];simp
 have fX:(intKind prog w).is k (.int k tk)=true:=eT _ _ _ _;have gv:∀(b:Bool) (s1:Shared) (Q':Unit->Shared->Prop),Q' Unit.unit s1->wpAny (model prog w) A (match b with|true=>rule "set.scan.the-table-gave-way"|false=>pure Unit.unit) Q' E s1:=λb s1 Q' q=>by
  cases b
  ·exact au q
  ·exact eR q
 refine cz (ab (cM ho hd hf ?_));dsimp only;rw[byScan_of rfl hb mY,aJ rfl];refine ab (ab (eR (ab (wpAny_setScan_of fX ho hd hf mY ?_))));have hm:=v8.mem (a:=a) mY hp k;cases fe:es.toList.findIdx? (λe=>(intKind prog w).is k e.2) with
 |some j =>
  have hk:k∈ks:=by simp_all
  refine au (au ?_);refine h s.heap _ (Heap.SameBut.refl a s.heap) ?_;unfold F0;rw[aJ hk];exact⟨o,es,ep,t,ho,hx,hd,mY,hp,hn,hb,hf,hw⟩
 |none =>
  rw[fe] at hm;have hk:k∉ks:=by simpa using hm.symm
  have p1:=layNew_perm t es ((intKind prog w).hash k) (.int k tk);have f1:=layNew_fits t es ((intKind prog w).hash k) (.int k tk);obtain⟨w1,En⟩:=Zr (es:=es) (h:=(intKind prog w).hash k) (x:=.int k tk) hw;generalize layNew t es ((intKind prog w).hash k) (.int k tk)=R1 at p1 f1 w1 En ⊢;obtain⟨gL,t1,wd,NS⟩:=R1;subst En;rw[dz] at p1;have Gk:ElemsOf (intKind prog w) gL.toList:=(mY.push fX rfl).perm p1;have sz1:gL.size=es.size+1:=by rw[<- cc,p1.length_eq];simp
  have k1:(gL.toList.map λe=>toI e.2).Perm (F0 ks k):=by
   unfold F0;rw[aF hk];refine(p1.map _).trans ?_;rw[cT];exact hp.append_right _
  have n1:(F0 ks k).Nodup:=by
   unfold F0;rw[aF hk,cS];exact⟨hn,by simp,λx hx y hy=>by grind⟩
  refine ab (gv _ _ _ ?_);have fin:∀ (t2:SetTable),t2.fits gL.size=true->Well (Led w) t2->wpAny (model prog w) A (do
    storeSet a gL t2
    if(!false&&t2.tooFull)=true then do
      (match(relayAll t2 gL (SetTable.grown gL.size)).2.2 with|true=>rule "set.scan.the-table-gave-way"|false=>pure Unit.unit)
      storeSet a (relayAll t2 gL (SetTable.grown gL.size)).1 (relayAll t2 gL (SetTable.grown gL.size)).2.1
      pure (some true)
     else pure (some true)) (λr s'=>wpAny (model prog w) A (match r with | some added=>pure added | none=>setAddHashedIn a (.int k tk) ((intKind prog w).hash k) 99999) Q E s') E s:=λt2 f2 w2=>by
   have g1:(s.heap.update a (Obj.putSet gL t2)).get? a=some { o with data:=.set gL (ep+1) t2 }:=by
    have:=bB (Obj.putSet gL t2) ho (by rw[putSet_of gL t2 hd];rfl);rw[putSet_of gL t2 hd] at this;exact this
   refine ab (wpAny_storeSet_of ho hd ?_ (fits_of_scanBound ()));have EC:=cy s.heap a (Obj.putSet gL t2);split
   ·have p2:=relayAll_perm t2 gL (SetTable.grown gL.size);have f3:=relayAll_fits t2 gL (SetTable.grown gL.size);have w3:=WK (es:=gL) (n:=SetTable.grown gL.size) w2;generalize relayAll t2 gL (SetTable.grown gL.size)=R2 at p2 f3 w3 ⊢;obtain⟨ot,t3,gv2⟩:=R2;dsimp only at p2 f3 w3 ⊢;have sz2:ot.size=gL.size:=by rw[<- cc,p2.length_eq,cc]
    refine ab (gv _ _ _ ?_);refine ab (wpAny_storeSet_of g1 rfl ?_ (fits_of_scanBound ()));refine au (au (h _ _ (EC.trans (cy _ a _)) ?_));have g2:((s.heap.update a (Obj.putSet gL t2)).update a (Obj.putSet ot t3)).get? a=some { o with data:=.set ot (ep+1+1) t3 }:=by
     have:=bB (Obj.putSet ot t3) g1 (by rfl);exact this
    exact⟨_,ot,_,t3,g2,hx,rfl,Gk.perm p2,(p2.map _).trans k1,n1,by omega,f3,w3⟩
   ·exact au (au (h _ _ EC ⟨_,gL,_,t2,g1,hx,rfl,Gk,k1,n1,by omega,f1 |> λ_=>f2,w2⟩))
  split
  ·refine ab (fE (hashByValue_scannable 8 rfl) ?_);exact fin _ f1 w1
  ·refine ab (au ?_);exact fin _ f1 w1
theorem ZG:entryFor table "set.__iter__"=some Builtin.«frozenset.__iter__» :=
 entryFor_alias (id':="frozenset.__iter__") (by kernel_rfl) rfl (by decide +kernel) (by kernel_rfl)
theorem C4:Slot "set_iterator" "__next__" "set_iterator.__next__" :=
 .of (owner:="set_iterator") (n:="__next__") (by rw[typeLookup_type,builtinLookup_eq_fast];kernel_rfl) (by decide +kernel) (by decide +kernel) (by decide +kernel)
  (by first|exact .inl (by decide +kernel)|exact .inr (by decide +kernel)) (by rw[kF];kernel_rfl)
theorem HW:entryFor table "set_iterator.__next__"=some Builtin.«set_iterator.__next__»:=entryFor_of_tree (by kernel_rfl)
theorem Ij(a:Value):argsOk "set_iterator.__next__" ⟨[a],[]⟩:=by
 unfold argsOk
 kernel_rfl
theorem Io:Slot "set_iterator" "__iter__" "set_iterator.__iter__" :=
 .of (owner:="set_iterator") (n:="__iter__") (by rw[typeLookup_type,builtinLookup_eq_fast];kernel_rfl) (by decide +kernel) (by decide +kernel) (by decide +kernel)
  (by first|exact .inl (by decide +kernel)|exact .inr (by decide +kernel)) (by rw[kF];kernel_rfl)
theorem Zo:entryFor table "set_iterator.__iter__"=some Builtin.«dict_keyiterator.__iter__» :=
 entryFor_alias (id':="dict_keyiterator.__iter__") (by kernel_rfl) rfl (by decide +kernel) (by kernel_rfl)
theorem ZA(a:Value):argsOk "set_iterator.__iter__" ⟨[a],[]⟩:=by
 unfold argsOk
 kernel_rfl
inductive Rd|text|plain|drawn
structure Lies(h:Heap)(a:Addr)(es:Array (Int×Value))(ep:Nat)(t:SetTable):Prop where
 at_:∃o,h.get? a=some o/\o.cls=.type "set"/\o.data=.set es ep t
 fit:t.fits es.size=true
theorem Lies.at(x:Lies h a es ep t)(k:∀o,h.get? a=some o->h'.get? a=some o):Lies h' a es ep t :=
 ⟨let ⟨o,e,r⟩:=x.at_;⟨o,k o e,r⟩,x.fit⟩
def E5(h:Heap)(I a:Addr)(f:Value)(i n ep:Nat):Prop:=∃o,h.get? I=some o/\o.cls=.type "set_iterator"/\o.data=.fields #[f,rawInt i,.ref a,rawInt n,rawInt ep]
theorem E5.at(x:E5 h I a f i n ep)(k:∀o,h.get? I=some o->h'.get? I=some o):E5 h' I a f i n ep:=let ⟨o,e,r⟩:=x;⟨o,k o e,r⟩
theorem E5.ty(x:E5 s.heap I a f i n ep):s.TypeIs (.ref I) "set_iterator":=let ⟨o,e,c,_⟩:=x;⟨o,e,c⟩
def vL(w:World)(a:Addr)(es:Array (Int×Value))(ep:Nat)(pl:List Nat):Rd->List Value
 |.text=>(pickOrder (w.params.setOrder a ep) es).toList.map (·.2)
 |.plain=>es.toList.map (·.2)
 |.drawn=>pl.map λj=>(es.getD j (0,.none)).2
def slotAt(t:SetTable):Nat->Nat
 |0=>0
 |i+1=>t.place.getD i 0+1
def N9(h:Heap)(t:SetTable)(b:Addr)(pl:List Nat)(i:Nat)(f:Value):Rd->Prop
 |.text=>∃k:Nat,f=rawInt k
 |.plain=>f=rawInt (slotAt t i)
 |.drawn=>f=.ref b/\∃o e,h.get? b=some o/\o.cls=.type "tuple"/\o.data=.seq (pl.map λj=>rawInt (j:Nat)).toArray e
def sH(w:World)(es:Array (Int×Value))(t:SetTable)(pl:List Nat):Rd->Prop
 |.text=>w.params.followText "set-order"=true
 |.plain=>w.params.followText "set-order"=false/\(t.plain=true\/es.size<=1)/\Well true t
 |.drawn=>w.params.followText "set-order"=false/\pl.Perm (List.range es.size)
theorem vQ{Q:Bool->Shared->Prop}(h:Q (w.params.followText "set-order") s):wpAny (model prog w) A setsByText Q E s:=by
 exact ab (pG (au h))
theorem Hq(hL:Lies s.heap a es ep t)(ht:w.params.followText "set-order"=true){sl g:Nat}{Q:Option (Value×Nat)->Shared->Prop}(h:Q (((pickOrder (w.params.setOrder a ep) es)[g]?).map λe=>(e.2,sl)) s) :
  wpAny (model prog w) A (setNext a sl g ep) Q E s:=by
 obtain⟨o,ho,_,hd⟩:=hL.at_;refine ab (cM ho hd hL.fit ?_);refine ab (vQ ?_);rw[ht,aJ rfl,aF (by simp)];refine ab (ab (cM ho hd hL.fit ?_));refine ab (vQ ?_);rw[ht,aJ rfl];exact ab (pG (au (au h)))
theorem HK(hL:Lies s.heap a es ep t)(ht:w.params.followText "set-order"=false)(hp:t.plain=true\/es.size<=1)(hl:t.led=true){sl g:Nat}{Q:Option (Value×Nat)->Shared->Prop}(h:Q (match es[SetTable.below t.place sl]?,t.place[SetTable.below t.place sl]? with|some (_,x),some j=>some (x,j+1)|_,_=>none) s):wpAny (model prog w) A (setNext a sl g ep) Q E s:=by
 obtain⟨o,ho,_,hd⟩:=hL.at_;refine ab (cM ho hd hL.fit ?_);refine ab (vQ ?_);rw[ht,aF ∅];show wpAny _ _ (if(!t.plain&&decide (es.size>1))=true then _ else _) _ _ _;rw[aF (by rcases hp with e|e<;>simp[e])];refine ab (fE (a:=Unit.unit) ?_ (au h));show((if(!t.led&&!es.isEmpty)=true then unsupported "set:maker-not-led" else pure Unit.unit):Sem Unit)=pure Unit.unit;rw[hl]
 rfl
theorem YS(hL:Lies s.heap a es ep t)(hj:j<es.size)(h:Q (es.getD j (0,.none)).2 s):wpAny (model prog w) A (setNextDrawn a j ep) Q E s:=by
 obtain⟨o,ho,_,hd⟩:=hL.at_;refine ab (cM ho hd hL.fit ?_);dsimp only;rw[aF (by simp)];have e:es[j]?=some (es.getD j (0,.none)):=by simp_all
 rw[e];exact au h
theorem GV(hL:Lies s.heap a es ep t):t.place.size=es.size:=by
 have:=hL.fit;unfold SetTable.fits at this;simp at this;exact this.1
theorem Hz(hw:kE t.place)(hi:i<=t.place.size):SetTable.below t.place (slotAt t i)=i:=by
 cases i with
 |zero=>exact Yy hw
 |succ i=>exact Yx hw ()
theorem entries{Q:Array (Int×Value)->Shared->Prop}(hL:Lies s.heap a es ep t)(h:Q es s):wpAny (model prog w) A (setEntries a) Q E s:=by
 obtain⟨o,ho,_,hd⟩:=hL.at_;exact ab (cM ho hd hL.fit (au h))
theorem UE{f':Value}(hi:E5 h I a f i n ep)(hx:x=rawInt ((i:Int)+1)):E5 ((h.update I (Obj.mapFields (·.setIfInBounds 0 f'))).update I (Obj.mapFields (·.setIfInBounds 1 x))) I a f' (i+1) n ep:=by
 obtain⟨o,ho,hc,hd⟩:=hi;have h1:=bB (Obj.mapFields (·.setIfInBounds 0 f')) ho (eJ (bY hd _));have d1:(Obj.mapFields (·.setIfInBounds 0 f') o).data=.fields #[f',rawInt i,.ref a,rawInt n,rawInt ep]:=by rw[bY hd];simp
 have h2:=bB (Obj.mapFields (·.setIfInBounds 1 x)) h1 (eJ (bY d1 _));refine⟨_,h2,(nM ..).trans ((nM ..).trans hc),?_⟩;rw[bY d1]
 simp_all
theorem UD(hi:E5 h I a f i n ep)(hx:x=rawInt ((i:Int)+1)):E5 (h.update I (Obj.mapFields (·.setIfInBounds 1 x))) I a f (i+1) n ep:=by
 obtain⟨o,ho,hc,hd⟩:=hi;have h2:=bB (Obj.mapFields (·.setIfInBounds 1 x)) ho (eJ (bY hd _));refine⟨_,h2,(nM ..).trans hc,?_⟩;rw[bY hd];subst hx;simp[rawInt]
theorem GP{f':Value}{m:Sem α}{Q':α->Shared->Prop}(hi:E5 s.heap I a f i n ep)(hx:x=rawInt ((i:Int)+1))(h:∀h',E5 h' I a f' (i+1) n ep->Heap.SameBut I s.heap h'->wpAny (model prog w) A m Q' E { s with heap:=h' }) :
  wpAny (model prog w) A (do setField (.ref I) 0 f';setField (.ref I) 1 x;m) Q' E s:=by
 obtain⟨o,ho,hc,hd⟩:=id hi;refine ab (eQ ho hd (by simp) ?_);have h1:=bB (Obj.mapFields (·.setIfInBounds 0 f')) ho (eJ (bY hd _));have d1:(Obj.mapFields (·.setIfInBounds 0 f') o).data=.fields #[f',rawInt i,.ref a,rawInt n,rawInt ep]:=by rw[bY hd];simp
 refine ab (eQ (s:={ s with heap:=_ }) h1 d1 (by simp) ?_);exact h _ (UE hi hx) ((cy ..).trans (cy ..))
theorem Vh{m:Sem α}{Q':α->Shared->Prop}(hi:E5 s.heap I a f i n ep)(hx:x=rawInt ((i:Int)+1))(h:∀h',E5 h' I a f (i+1) n ep->Heap.SameBut I s.heap h'->wpAny (model prog w) A m Q' E { s with heap:=h' }) :
  wpAny (model prog w) A (do setField (.ref I) 1 x;m) Q' E s:=by
 obtain⟨o,ho,hc,hd⟩:=id hi;refine ab (eQ ho hd (by simp) ?_);exact h _ (UD hi hx) (cy ..)
theorem BS(next:Nat->Nat)(xs:Array α):(pickOrder next xs).toList.Perm xs.toList:=by
 have go:∀(fuel k:Nat) (left:List α) (out:Array α),fuel=left.length->(pickOrder.go next fuel k left out).toList.Perm (out.toList++left):=by
  intro fuel
  induction fuel with
  |zero =>
   intro k left out e;have:left=[]:=dN e.symm;subst this;simp[pickOrder.go]
  |succ n ih =>
   intro k left out e;have dZ:next k % left.length<left.length:=KY _ ()
   unfold pickOrder.go;rw[ag dZ];refine(ih _ _ _ (by rw[gs dZ];omega)).trans ?_;rw[dz,cj];refine ei _ ?_;have:left.Perm (left[next k % left.length]::left.eraseIdx (next k % left.length)):=by
    rw[kZ]
    conv=>lhs;rw[<- bG (next k % left.length) left,dh dZ]
    exact List.perm_middle
   exact this.symm
 have:=go xs.size 0 xs.toList #[] (by simp);simpa[pickOrder] using this
theorem next_item{Q:Option Value->Shared->Prop}(hL:Lies s.heap a es ep t)(hr:sH w es t pl r)(hi:E5 s.heap I a f i es.size ep)(hf:N9 s.heap t b pl i f r)(eZ:b≠I)(dZ:i<es.size)(h:∀v h' f',(vL w a es ep pl r)[i]?=some v->E5 h' I a f' (i+1) es.size ep->N9 h' t b pl (i+1) f' r->Heap.SameBut I s.heap h'->Q (some v) { s with heap:=h' }):wpAny (model prog w) A (pyNext (.ref I)) Q E s:=by
 obtain⟨o,ho,hc,hd⟩:=id hi;refine ab (KR (jl (name:=Str.ofString "__next__") hi.ty C4 (de C4 hi.ty HW ?_ (Ij _))));refine ab (au ?_);refine ab (wpAny_fieldsOf ho hd ?_);refine ab (entries hL ?_);rw[aF (by simp)];rw[eA,eA];cases r with
 |text =>
  obtain⟨k,rfl⟩:=hf;refine ab (Hq hL hr ?_);have hl:i<(pickOrder (w.params.setOrder a ep) es).size:=by
   have:=(BS (w.params.setOrder a ep) es).length_eq
   simp_all
  rw[oK hl];refine GP hi rfl λh' h1 h2=>au ⟨_,rfl,au (h _ _ _ ?_ h1 ⟨_,rfl⟩ h2)⟩;show((pickOrder (w.params.setOrder a ep) es).toList.map (·.2))[i]?=_;simp[hl]
 |plain =>
  obtain⟨r1,r2,r3⟩:=hr;have hs:=GV hL;obtain rfl:=hf;dsimp only[rawInt];rw[eA];refine ab (HK hL r1 r2 r3.led ?_);rw[Hz r3.wQ (),oK dZ,getD_mem ()];refine GP hi rfl λh' h1 h2=>au ⟨_,rfl,au (h _ _ _ ?_ h1 rfl h2)⟩;show(es.toList.map (·.2))[i]?=_;simp[dZ]
 |drawn =>
  obtain⟨r1,r2⟩:=hr;obtain⟨rfl,ob,e,hb,FL,xm⟩:=hf;have hU:i<pl.length:=by rw[r2.length_eq];simpa using dZ
  refine ab (wpAny_seqItems hb xm ?_);have hj:pl[i]<es.size:=by
   have:=r2.mem_iff.mp (bN hU)
   simp_all
  have e1:(pl.map λj=>rawInt (j:Nat)).toArray[i]?=some (rawInt (pl[i]:Nat)):=by simp[hU]
  dsimp only;rw[e1];refine ab (YS hL hj ?_);refine Vh hi rfl λh' h1 h2=>au ⟨_,rfl,au (h _ _ _ ?_ h1 ⟨rfl,ob,e,by rw[h2.2 b eZ];exact hb,FL,xm⟩ h2)⟩;show(pl.map λj=>(es.getD j (0,.none)).2)[i]?=_;simp[hU]
theorem BV{Q:Option Value->Shared->Prop}{h0:Heap}(hh:A.handled=none)(NJ:Heap.ExtBut I h0 s.heap)(h:∀h',Heap.ExtBut I h0 h'->Q none { s with heap:=h' }) :
  wpAny (model prog w) A.in1 (newExc (.type "StopIteration") [] >>= λe=>(raiseNew e:Sem Fin)) (λfin s'=>∃v,fin=Fin.done (Flow.ret v)/\wpAny (model prog w) A (pure (some v)) Q E s')
   (λe s'=>wpAny (model prog w) A (do
     let x <- isInstance e (Value.type "StopIteration")
     if x=true then pure none else throw e) Q E s') s:=by
 refine ab ?_;refine ab (dG ?_ (by size_fits));refine ab (m:=firstArgMember _ _) (fE (a:=Value.none) (by rfl) ?_);refine dG ?_ (by size_fits);refine ab (wpAny_handled ?_);rw[show A.in1.handled=none from hh];refine ab (au (wpAny_throw ?_));refine ab (jk (T:="StopIteration") (b:=true) ⟨_,aB _ rfl,rfl⟩ isSubtype_stop ?_);exact au (h _ ((NJ.push _).push _))
theorem next_end{Q:Option Value->Shared->Prop}(hh:A.handled=none)(hL:Lies s.heap a es ep t)(hr:sH w es t pl r)(hi:E5 s.heap I a f es.size es.size ep)(hf:N9 s.heap t b pl es.size f r)(eZ:b≠I)(h:∀h',Heap.ExtBut I s.heap h'->Q none { s with heap:=h' }):wpAny (model prog w) A (pyNext (.ref I)) Q E s:=by
 obtain⟨o,ho,hc,hd⟩:=id hi;refine ab (KR (jl (name:=Str.ofString "__next__") hi.ty C4 (de C4 hi.ty HW ?_ (Ij _))));refine ab (au ?_);refine ab (wpAny_fieldsOf ho hd ?_);refine ab (entries hL ?_);rw[aF (by simp)];rw[eA,eA];cases r with
 |text =>
  obtain⟨k,rfl⟩:=hf;refine ab (Hq hL hr ?_);have hl:(pickOrder (w.params.setOrder a ep) es).size<=es.size:=by
   have:=(BS (w.params.setOrder a ep) es).length_eq
   grind
  rw[tI hl];refine ab (eQ ho hd (by simp) ?_);exact BV (s:={ s with heap:=_ }) hh (cy ..).extBut h
 |plain =>
  obtain⟨r1,r2,r3⟩:=hr;have hs:=GV hL;obtain rfl:=hf;dsimp only[rawInt];rw[eA];refine ab (HK hL r1 r2 r3.led ?_);rw[Hz r3.wQ (),tI (ai _)];refine ab (eQ ho hd (by simp) ?_);exact BV (s:={ s with heap:=_ }) hh (cy ..).extBut h
 |drawn =>
  obtain⟨r1,r2⟩:=hr;obtain⟨rfl,ob,e,hb,FL,xm⟩:=hf;have hU:pl.length=es.size:=by rw[r2.length_eq];simp
  refine ab (wpAny_seqItems hb xm ?_);have e1:(pl.map λj=>rawInt (j:Nat)).toArray[es.size]?=none:=by simp[hU]
  dsimp only;rw[e1];refine ab (eQ ho hd (by simp) ?_);have h1:=bB (Obj.mapFields (·.setIfInBounds 0 (Value.int 0 0))) ho (eJ (bY hd _));refine ab (eQ (s:={ s with heap:=_ }) h1 (bY hd _) (by simp) ?_);exact BV (s:={ s with heap:=_ }) hh ((cy ..).trans (cy ..)).extBut h
theorem Ye{l:List α}(dZ:k<l.length):(l[k]::l.eraseIdx k).Perm l:=by
 rw[kZ]
 conv=>rhs;rw[<- bG k l,dh dZ]
 exact List.perm_middle.symm
theorem HC{α:Type}:∀(n:Nat) (xs:List α) (s:Shared) (Q:List α->Shared->Prop),n=xs.length->(∀ys d,ys.Perm xs->Q ys { s with drawn:=d })->wpAny (model prog w) A (drawOrder n xs) Q E s
 |0,xs,s,Q,e,h=>by
  have:xs=[]:=dN e.symm;subst this;exact au (h [] s.drawn (nO _))
 |n+1,[],s,Q,e,h=>by simp at e
 |n+1,x::xs,s,Q,e,h=>by
  refine ab ?_;intro Γ p hΓ;refine⟨by simp,?_⟩;generalize (model prog w).w.draws .order (s.drawn.get .order)=k;have dZ:k % (x::xs).length<(x::xs).length:=KY _ (by simp);have go:wpAny (model prog w) A (match (x :: xs)[k % (x :: xs).length]? with
   |some y=>do
    let ys <- drawOrder n ((x::xs).eraseIdx (k % (x::xs).length))
    pure (y::ys)
   | none=>unsupported "internal:drawOrder") Q E { s with drawn:=s.drawn.bump .order }:=by
   rw[ag dZ];refine ab (HC n _ _ _ (by rw[gs dZ];omega) λys d hp=>au ?_);exact h _ d ((List.Perm.cons _ hp).trans (Ye dZ))
  exact go
theorem JK(hr:sH w es t pl r):(vL w a es ep pl r).Perm (es.toList.map (·.2)):=by
 cases r with
 |text=>exact(BS _ es).map _
 |plain=>rfl
 |drawn =>
  refine(hr.2.map _).trans ?_;have:(List.range es.size).map (λj=>(es.getD j (0,.none)).2)=es.toList.map (·.2):=by
   apply List.ext_getElem
   ·simp
   simp_all
  rw[this]
theorem Lies.ty(hL:Lies s.heap a es ep t):s.TypeIs (.ref a) "set":=let ⟨o,e,c,_⟩:=hL.at_;⟨o,e,c⟩
theorem a04(hL:Lies s.heap a es ep t)(hw:Well (Led w) t)(hz:es.size<=10000)(h:∀r pl b f I h' d',sH w es t pl r->E5 h' I a f 0 es.size ep->N9 h' t b pl 0 f r->b≠I->(b=a\/s.heap.objs.size<=b)->(∀c o,s.heap.get? c=some o->h'.get? c=some o)->s.heap.objs.size<=I->s.heap.objs.size<=h'.objs.size->Q (.ref I) { s with heap:=h',drawn:=d' }) :
  wpAny (model prog w) A (pyIter (.ref a)) Q E s:=by
 obtain⟨o,ho,zQ,hd⟩:=hL.at_;refine wpAny_pyIter_slot hL.ty F.slot_set_iter (de F.slot_set_iter hL.ty ZG ?_ (F.args_set_iter_1 _));refine ab (au ?_);refine ab (ab (entries hL (au ?_)));refine ab (ab (cM ho hd hL.fit ?_));refine ab (vQ (au ?_));have dZ:=aA ho;have fin:∀(r:Rd) (f:Value) (b:Addr) (pl:List Nat) (h1:Heap) (d1:Drawn),sH w es t pl r->(∀h',(∀c o,h1.get? c=some o->h'.get? c=some o)->N9 h' t b pl 0 f r)->b<h1.objs.size->(b=a\/s.heap.objs.size<=b)->(∀c o,s.heap.get? c=some o->h1.get? c=some o)->s.heap.objs.size<=h1.objs.size ->
   wpAny (model prog w) A.in1 (do
    let e <- setEpoch a
    ret (<- newFields "set_iterator" [f,rawInt 0,.ref a,rawInt es.size,rawInt e])) (λfin s'=>∃ v,fin=Fin.done (Flow.ret v)/\∃ T' r,s'.TypeIs v T'/\typeLookup (.type T') "__next__"=pure (some r)/\Q v s') E { s with heap:=h1,drawn:=d1 }:=λr f b pl h1 d1 hr hf hb rW he hsz=>by
  have se:Lies h1 a es ep t:=hL.at λo e=>he a o e;obtain⟨o1,xc,_,FH⟩:=se.at_;refine ab (ab (cM (s:={ s with heap:=h1,drawn:=d1 }) xc FH se.fit (au ?_)));refine ab (dG (au ⟨_,rfl,"set_iterator",_,⟨_,aB _ rfl,rfl⟩,C4.lookup,?_⟩));refine h r pl b f h1.objs.size _ d1 hr ⟨_,aB _ rfl,rfl,rfl⟩ (hf _ λc o e=>ao _ e) (aM hb) rW (λc o e=>ao _ (he c o e)) hsz (by rw[size_push'];exact Nat.le_succ_of_le hsz)
 cases hT:w.params.followText "set-order" with
 |true =>
  refine ab (au ?_);exact fin .text (rawInt 0) a [] s.heap s.drawn hT (λh' _=>⟨0,rfl⟩) dZ (.inl rfl) (λc o e=>e) (ai _)
 |false =>
  show wpAny _ _ (if(!false&&(!t.plain&&decide (es.size>1)))=true then _ else _ ) _ _ _;by_cases hp:t.plain=true\/es.size<=1
  ·rw[aF (by rcases hp with e|e<;>simp[e])];refine ab (au ?_);refine fin .plain (rawInt 0) a [] s.heap s.drawn ⟨hT,hp,?_⟩ (λh' _=>rfl) dZ (.inl rfl) (λc o e=>e) (ai _);have:Led w=true:=by unfold Led;rw[hT];rfl
   simp_all
  ·rw[aJ (by grind)];refine ab (HC _ _ _ _ (fk).symm λys d hy=>?_);have hl:ys.length=es.size:=by rw[hy.length_eq];simp
   refine ab (dG ?_ (by show(List.map _ ys).toArray.size<=sizeLine;rw[aW,ak,hl];exact aD hz ∅));refine fin .drawn (.ref s.heap.objs.size) s.heap.objs.size ys _ d ⟨hT,hy⟩ (λh' hk=>⟨rfl,_,_,hk _ _ (aB _ rfl),rfl,rfl⟩) (by simp) (.inr (ai _)) (λc o e=>ao _ e) (by simp)
theorem Yo(hh:A.handled=none)(hr:sH w es t pl r)(eZ:b≠I)(Ft:a≠I) :
  Walks prog w A I [I,a,b] [I] es.size (λi v=>(vL w a es ep pl r)[i]?=some v) (λi h=>Lies h a es ep t/\∃f,E5 h I a f i es.size ep/\N9 h t b pl i f r) where
 sub:=λc hc=>by simp_all
 frame:=λi h h' st hk=>by
  obtain⟨hL,f,hi,hf⟩:=st;refine⟨hL.at λo e=>hk a (by simp) o e,f,hi.at λo e=>hk I (by simp) o e,?_⟩;cases r with
  |text=>exact hf
  |plain=>exact hf
  |drawn =>
   obtain⟨e1,o,e,h1,h2⟩:=hf;exact⟨e1,o,e,hk b (by simp) o h1,h2⟩
 item:=λi s Q E hi st hQ=>by
  obtain⟨hL,f,hI,hf⟩:=st;exact next_item hL hr hI hf eZ hi λv h' f' hv h1 h2 h3=>hQ v h' s.toks hv ⟨hL.at λo e=>by rw[h3.2 a Ft];exact e,f',h1,h2⟩ λc o hc e=>h3.extBut c o (λz=>hc (by simp[z])) e
 done:=λs Q E st hQ=>by
  obtain⟨hL,f,hI,hf⟩:=st;exact next_end hh hL hr hI hf eZ λh' he=>hQ h' s.toks λc o hc e=>he c o (λz=>hc (by simp[z])) e
 self:=λi s Q E st hQ=>by
  obtain⟨hL,f,hI,hf⟩:=st;refine wpAny_pyIter_slot hI.ty Io (de Io hI.ty Zo ?_ (ZA _));exact ab (au (au ⟨_,rfl,"set_iterator",_,hI.ty,C4.lookup,hQ⟩))
theorem ZK:typeLookup (.type "set") "__len__"=pure (some (.builtin "set.__len__")):=by rfl
theorem Zx(hh:A.handled=none)(hL:Lies s.heap a es ep t)(hw:Well (Led w) t)(hz:es.size<=10000){Q:List Value->Shared->Prop}(h:∀(vs:List Value) h' d' mH,vs.Perm (es.toList.map (·.2))->(∀c o,s.heap.get? c=some o->h'.get? c=some o)->s.heap.objs.size<=h'.objs.size->s.toks<=mH->Q vs { s with heap:=h',drawn:=d',toks:=mH }) :
  wpAny (model prog w) A (collect (.ref a)) Q E s:=by
 have dZ:a<s.heap.objs.size:=let ⟨o,ho,_⟩:=hL.at_;aA ho
 refine ab (wpAny_runValue (fx F.entry_proto_collect ?_));refine ab (dG ?_);refine au ⟨lY F.plain_list_iadd _,fx F.entry_list_iadd ?_⟩;have se:Lies (s.heap.push { cls:=.type "list",data:=.seq ([]:List Value).toArray }) a es ep t:=hL.at λo e=>ao _ e;have Ni:(s.heap.push { cls:=.type "list",data:=.seq ([]:List Value).toArray }).get? s.heap.objs.size=some { cls:=.type "list",data:=.seq ([]:List Value).toArray }:=aB _ rfl;have eZ:s.heap.objs.size≠a:=bW dZ;have h1:Builtin.List.listSameRef (.ref s.heap.objs.size) (.ref a)=false:=by simp[Builtin.List.listSameRef,eZ]
 show wpAny _ A.in1 (Builtin.List.listExtendWith (.ref s.heap.objs.size) (.ref a) (.ref s.heap.objs.size)) _ _ _;refine ab (jG (Lies.ty (s:={ s with heap:=_ }) se) ?_);rw[aF (by rw[h1];decide)];refine ab (a04 (s:={ s with heap:=_ }) se hw hz λr pl b f I h2 d2 hr hI hf hb MZ he Av h2z=>?_);have qo:Lies h2 a es ep t:=se.at λo e=>he a o e;have vb:=he _ _ Ni;refine ab (cz ?_);refine ab (wpAny_specialOf (Lies.ty (s:={ s with heap:=h2,drawn:=d2 }) qo) ZK ?_);generalize Fx:("set.__len__":String)=Mg;dsimp only;rw[show splitId Mg=some ("set","__len__") from by subst Fx;decide +kernel];dsimp only;refine ab (jk (b:=true) (Lies.ty (s:={ s with heap:=h2,drawn:=d2 }) qo) (by rfl) ?_);rw[aF ∅];subst Fx;rw[aJ (by decide +kernel)];refine ab (jG (Lies.ty (s:={ s with heap:=h2,drawn:=d2 }) qo) ?_);refine au ?_;rw[aJ (by decide +kernel)];refine ab (eR ?_);refine ab ?_;show wpAny _ A.in1 (updateSeq s.heap.objs.size (·.push .none) >>= λ_=>updateSeq s.heap.objs.size (·.pop)) _ _ _;refine ab (wpAny_updateSeq (s:={ s with heap:=h2,drawn:=d2 }) vb rfl ?_);have FT:=bB (Obj.mapSeq (·.push Value.none)) vb rfl;refine wpAny_updateSeq (s:={ s with heap:=_,drawn:=d2 }) FT rfl ?_;have Nh:=bB (Obj.mapSeq (·.pop)) FT rfl;have uc:∀c o,c≠s.heap.objs.size->h2.get? c=some o->((h2.update s.heap.objs.size (Obj.mapSeq (·.push Value.none))).update s.heap.objs.size (Obj.mapSeq (·.pop))).get? c=some o :=
  λc o hc e=>(eB _ _ (cw hc)).trans ((eB _ _ (cw hc)).trans e)
 have rK:s.heap.objs.size<(s.heap.push { cls:=.type "list",data:=.seq ([]:List Value).toArray }).objs.size:=by simp
 have hSI:I≠s.heap.objs.size:=bW (ay rK Av);have hSb:b≠s.heap.objs.size:=by
  rcases MZ with z|z
  ·rw[z];exact cw eZ
  ·exact bW (ay rK z)
 have W:=(Yo (prog:=prog) (w:=w) (A:=A.in1) (a:=a) (b:=b) (I:=I) (es:=es) (ep:=ep) (t:=t) (pl:=pl) hh hr hb (aM (ay (dw dZ rK) Av))).toS;have st:Lies h2 a es ep t/\∃f,E5 h2 I a f 0 es.size ep/\N9 h2 t b pl 0 f r:=⟨qo,f,hI,hf⟩
 have fW:=W.frame 0 ({ s with heap:=h2,drawn:=d2 }:Shared) _ s.toks st (ai _) λc hc o e=>uc c o (λz=>by simp at hc;rcases hc with y|y|y<;>simp_all) e;refine au ⟨lY F.plain_extend_loop _,codeAny_extend_loopS W (aD hz ∅) _ (λz=>by simp at z;rcases z with y|y|y<;>simp_all) _ es.size 0 _ _ _ rfl (bP _) fW Nh (ItemsOf.nil _) λs' vV c' hm nc kW=>?_⟩;show wpAny _ A (load s.heap.objs.size >>= _) _ _ s';refine ab (wpAny_load nc ?_);refine au ?_;have eS:s'={ s with heap:=s'.heap,drawn:=d2,toks:=s'.toks }:=by
  obtain⟨gB,g',d',mH,ud⟩:=s';have m1:g'=s.gens:=hm.gens;have m2:d'=d2:=hm.drawn;have m3:ud=s.os:=hm.os
  grind
 have eo:vV.toList=vL w a es ep pl r:=by
  have l1:(vL w a es ep pl r).length=es.size:=by rw[(JK hr).length_eq];simp
  apply List.ext_getElem
  ·rw[l1];simpa using kW.1
  ·intro i h1 h2;have:=kW.2 i vV.toList[i] (by simp at h1 ⊢);dsimp only at this;rw[ag h2] at this;exact(aL this).symm
 rw[eo,eS];refine h _ _ d2 s'.toks (JK hr) (λc o e=>?_) (eK (aA nc)) hm.toks;have hc:c<s.heap.objs.size:=aA e;have n1:c≠s.heap.objs.size:=aM hc;have n2:c≠I:=aM (ay (dw hc rK) Av);exact hm.heap c o (by simp[n1,n2]) (uc c o n1 (he c o (ao _ e)))
theorem Za(hh:A.handled=none)(hS:v8 prog w s.heap a ks)(xt:ks.length<=600)(h:∀(S:Addr) (vs:List Value) (ns:List Int) e h' d' mH,IntsAre vs ns->ns.Perm ks->ns.Pairwise (·<=·)->h'.get? S=some (seqObj "list" vs.toArray e)->s.heap.objs.size<=S->(∀c o,s.heap.get? c=some o->h'.get? c=some o)->s.toks<=mH->Q (.ref S) { s with heap:=h',drawn:=d',toks:=mH }) :
  wpAny (model prog w) A (call (.builtin "sorted") [.ref a]) Q E s:=by
 obtain⟨o,es,ep,t,ho,hx,hd,mY,hp,hn,hb,hf,hw⟩:=hS;have hL:Lies s.heap a es ep t:=⟨⟨o,ho,hx.1,hd⟩,hf⟩
 have hz:es.size=ks.length:=by rw[<- hp.length_eq];simp
 refine Ej kind_sorted plain_sorted entry_sorted (args_sorted1 _) ?_;unfold Builtin.«sorted»;refine ab (m:=checkCount "sorted" 1 1 _) (au ?_);refine ab (Zx (A:=A.in1) hh hL hw () λvs h1 d1 zf hv he rK xa=>?_);have hI:IntsAre vs (vs.map toI):=by
  have all:∀v∈vs,∃tk,v=.int (toI v) tk:=λv zK=>by
   obtain⟨e,kB,rfl⟩:=aU.mp (hv.mem_iff.mp zK);obtain⟨tk,h1,_⟩:=yn mY kB;exact⟨tk,h1⟩
  clear hv
  induction vs with
  |nil=>exact .nil
  |cons v r ih =>
   obtain⟨tk,e⟩:=all v (by simp);have:=IntsAre.cons (toI v) tk (ih λu hu=>all u (by simp[hu]));rw[<- e] at this;exact this
 have hk:(vs.map toI).Perm ks:=by
  refine(hv.map toI).trans ?_;rw[bD];exact hp
 have hl:vs.length<=100000:=by rw[hv.length_eq];simp;omega
 refine ab (KP (s:={ s with heap:=h1,drawn:=d1,toks:=zf }) ?_);have nX:(h1.push (seqObj "list" vs.toArray 0)).get? h1.objs.size=some (seqObj "list" vs.toArray 0):=aB _ rfl;refine ab (cz (de (s:={ s with heap:=h1.push (seqObj "list" vs.toArray 0),drawn:=d1,toks:=zf }) slot_list_sort ⟨_,nX,rfl⟩ entry_list_sort (TS.JR nX hI hl λout kh a1 a2 a3=>⟨_,rfl,?_⟩) (args_list_sort _)));obtain⟨e,kB⟩:=sortedHeap_at (vs:=vs) (out:=out) nX;refine au ⟨_,rfl,h h1.objs.size out.toList kh e _ d1 zf a1 (a2.trans hk) a3 kB rK (λc o' e'=>?_) xa⟩;have hc:=aA (he c o' e');rw[sortedHeap_old (aM hc) (by rw[size_push'];exact kH hc)];exact ao _ (he c o' e')
def i7(ks xs:List Int):List Int:=xs.foldl F0 ks
theorem M3:∀(xs ks:List Int),(i7 ks xs).length<=ks.length+xs.length
 |[],ks=>by simp[i7]
 |x::xs,ks=>by
  have:=M3 xs (F0 ks x);have h2:=ZT ks x;show(i7 (F0 ks x) xs).length<=_
  grind
theorem Q5:∀(xs ks:List Int) (k:Int),k∈i7 ks xs↔k∈ks\/k∈xs
 |[],ks,k=>by simp[i7]
 |x::xs,ks,k=>by
  show k∈i7 (F0 ks x) xs↔_;rw[Q5 xs];unfold F0;split
  ·rename_i h;constructor
   ·rintro(a|a)
    ·exact .inl a
    ·exact .inr (by simp[a])
   ·rintro(a|a)
    ·exact .inl a
    ·rcases aG.mp a with rfl|b
     ·exact .inl h
     ·exact .inr b
  ·simp[or_assoc]
theorem Ck:∀(xs ks:List Int),ks.Nodup->(i7 ks xs).Nodup
 |[],ks,h=>h
 |x::xs,ks,h=>by
  refine Ck xs _ ?_;unfold F0;split
  ·exact h
  ·rename_i hk;rw[cS];exact⟨h,by simp,λa ha b hb=>by simp at hb;subst hb;exact λz=>hk (z▸ha)⟩
theorem YC:Well (Led w) (SetTable.fresh 0 0 (Led w)):=⟨by simp[kE,SetTable.fresh],rfl,rfl⟩
theorem Hh(e:h.get? a=some { cls:=.type "set",dict:=none,data:=.set #[] 0 (.fresh 0 0 (Led w)) }):v8 prog w h a [] :=
 ⟨_,#[],0,_,e,⟨rfl,rfl,rfl⟩,rfl,(by intro e he;simp at he),by simp,by simp,by decide,by rfl,YC⟩
theorem Xl{R:Result->Shared->Prop}{fp wr:List Addr}{G:Array GenState->Array GenState->Prop}{P:Nat->Value->Prop}{St:Nat->Shared->Prop}(W:WalksS prog w A.in1 I fp wr G n P St)(FR:a∉fp)(hn:n=ns.length)(hv:∀i v,P i v->∃tk,v=.int (ns.getD i 0) tk)(hb:n+1<scanBound):∀(k i:Nat) (s:Shared),i+k=n->St i s->v8 prog w s.heap a (i7 [] (ns.take i)) ->
   (∀s',Moved (a::wr) G s s'->v8 prog w s'.heap a (i7 [] ns)->R (.ok (.ret .none)) s')->codeAny (model prog w) A (.builtin "set.update.loop" ⟨[.ref a,.ref I],[]⟩) R s:=by
 have hw:a∉wr:=λh=>FR (W.sub _ h);have tS:∀b∈wr,b∈a::wr:=λb hb=>by simp[hb]
 intro k
 induction k with
 |zero =>
  intro i s e st hS hR;obtain rfl:i=n:=by omega
  refine fx jH ?_;refine ab (W.done s _ _ st λs' m=>au (hR s' (m.mono tS) (v8.at ?_ λo e=>m.heap a o hw e)))
  simp_all
 |succ k ih =>
  intro i s e st hS hR;have dZ:i<ns.length:=by omega
  refine fx jH ?_;refine ab (W.item i s _ _ () st λv s' hP aZ m=>?_);obtain⟨tk,rfl⟩:=hv i v hP;have nc:=v8.at hS λo e=>m.heap a o hw e;have hl:=M3 (ns.take i) [];rw[eL] at hl;simp only[List.length_nil] at hl;refine ab (cz ?_);refine cz (ab ((intKind prog w).pyHash (k:=ns.getD i 0) (eT _ _ _ _) ?_));refine JV (s:={ s' with toks:=s'.toks+1 }) nc () λh' bb sb vb=>?_;have e2:F0 (i7 [] (ns.take i)) (ns.getD i 0)=i7 [] (ns.take (i+1)):=by
   unfold i7;rw[bC,List.foldl_append,ag dZ];simp[List.getD,dZ]
  rw[e2] at vb;refine au ⟨lY PyProof.Rows.F.plain_set_update_loop _,ih (i+1) _ () (W.frame _ s' _ _ aZ (cX _) λb hb o e=>by rw[sb.2 b λz=>FR (z▸hb)];exact e) vb λs2 m2 h2=>?_⟩;exact hR s2 (Moved.trans W.gtrans ((m.mono tS).then_heap (cX _) λb o hb e=>by rw[sb.2 b λz=>hb (by rw[z];simp)];exact e) m2) h2
noncomputable abbrev y9(w:World):Obj:={ cls:=.type "set",dict:=none,data:=.set #[] 0 (.fresh 0 0 (Led w)) }
theorem Jh(h:Q (.ref s.heap.objs.size) { s with heap:=s.heap.push (y9 w) }):wpAny (model prog w) A (newSet (.type "set")) Q E s:=by
 refine ab (vQ ?_);exact dG h (bP _)
theorem ZX(x:Value)(h:Q (.ref s.heap.objs.size) { s with heap:=s.heap.push (y9 w) }):codeAny (model prog w) A (.call (.builtin "set.__new__") ⟨[.type "set",x],[]⟩) (wants Q E) s:=by
 refine tB (?_:wpAny _ A.in1 (do
  checkBuiltinCall "set.__new__" ⟨[.type "set",x],[]⟩
  again (.builtin "set.__new__" ⟨[.type "set",x],[]⟩)) _ _ s)
 refine ab (fE (F.newCall_set_1 x) (au ⟨lY F.plain_set_new _,?_⟩));refine fx F.entry_set_new ?_;have sub:=sub_set_self;refine ab (m:=Builtin.Frozenset.newClass "set" _) ?_;refine ab (fE (a:=true) (by rfl) ?_);refine ab (fE sub ?_);refine au ?_;exact ab (Jh (au h))
theorem yz{vs:List Value}(h:IntsAre vs ns):vs.length=ns.length:=by
 induction h with
 |nil=>rfl
 |cons n t r ih=>simp[ih]
def vX(h:Heap)(l:Addr)(items:Array Value):Prop:=h.IsList l items\/h.IsTuple l items
theorem vX.lt(x:vX h l items):l<h.objs.size:=by
 rcases x with⟨_,e,_⟩|⟨_,e,_⟩<;>exact aA e
theorem a43{Q:Fin->Shared->Prop}(hh:A.handled=none)(hS:s.heap.get? a=some (y9 w))(hl:vX s.heap l items)(hi:IntsAre items.toList ns)(hb:items.size+1<scanBound)(eZ:a≠l)(h:∀h' tk,v8 prog w h' a (i7 [] ns)->(∀b o,b≠a->s.heap.get? b=some o->h'.get? b=some o)->s.toks<=tk->wpAny (model prog w) A (ret .none) Q E { s with heap:=h',toks:=tk }) :
  wpAny (model prog w) A (Builtin.«set.__init__» ⟨[.ref a,.ref l],[]⟩) Q E s:=by
 have hT:s.TypeIs (.ref a) "set":=⟨_,hS,rfl⟩
 have dZ:=hl.lt;have Fu:l≠s.heap.objs.size:=aM dZ;refine ab (fE (a:=Unit.unit) rfl ?_);have nm:∀{Q':String->Shared->Prop},(∀x,Q' x s)->wpAny (model prog w) A (typeNameOfCut 200 (.ref a)) Q' E s:=λ{Q'} q=>by
  refine ab (ab (jG hT ?_));refine au (fE (a:="set") ?_ (q _))
  rfl
 refine ab (nm λx=>?_);refine ab (m:=checkCount _ 0 1 _) (au ?_);refine ab (m:=Builtin.Frozenset.addrOf _) (au ?_);refine ab (ab (cM hS rfl rfl (au ?_)));rw[aF (by unfold SetTable.fill;simp[SetTable.fresh])];unfold Builtin.Frozenset.updateFrom Builtin.Frozenset.isAnySet;obtain⟨c,rT,Ar,it,hit,Fw,St,W,fN⟩:∃c:String,(c="list"\/c="tuple")/\s.TypeIs (.ref l) c/\∃it:Obj,(∀Q':Value->Shared->Prop,Q' (.ref s.heap.objs.size) { s with heap:=s.heap.push it }->wpAny (model prog w) A (pyIter (.ref l)) Q' E s) /\
   (∀b o,s.heap.get? b=some o->(s.heap.push it).get? b=some o)/\∃St:Nat->Shared->Prop,WalksS prog w A.in1 s.heap.objs.size [s.heap.objs.size,l] [s.heap.objs.size] (λa b=>b=a) items.size (λi v=>items[i]?=some v) St/\St 0 { s with heap:=s.heap.push it }:=by
  rcases hl with hl|hl
  ·obtain⟨o,ho,hc,_⟩:=id hl;exact⟨"list",.inl rfl,⟨o,ho,hc⟩,_,λQ' q=>iJ hl q,λb o e=>ao _ e,_,(Walks.list (A:=A.in1) hh _ l Fu items).toS,⟨⟨_,aB _ rfl,rfl,rfl⟩,hl.push _⟩⟩
  ·obtain⟨o,ho,hc,_⟩:=id hl;exact⟨"tuple",.inr rfl,⟨o,ho,hc⟩,_,λQ' q=>wpAny_pyIter_tuple hl q,λb o e=>ao _ e,_,(Walks.tuple (A:=A.in1) hh _ l Fu items).toS,⟨⟨_,aB _ rfl,rfl,rfl⟩,hl.push _⟩⟩
 refine ab (ab (ab (jk (b:=false) Ar (by rcases rT with rfl|rfl<;>(rw[kF];kernel_rfl)) ?_)));show wpAny (model prog w) A (isInstance (Value.ref l) (Value.type "frozenset")) _ _ _;refine jk (b:=false) Ar (by rcases rT with rfl|rfl<;>(rw[kF];kernel_rfl)) ?_;rw[aF ∅];refine ab (jG Ar ?_);rw[aF (by rcases rT with rfl|rfl<;>decide)];refine ab (hit _ ?_);refine ab (wpAny_runValue ?_);have Na:a<s.heap.objs.size:=aA hS;have hsz:items.size=ns.length:=by exact yz hi
 refine Xl (a:=a) (ns:=ns) W (by simp only[List.mem_cons,List.not_mem_nil,or_false,not_or];exact⟨aM Na,eZ⟩) hsz (λi v hv=>IntsAre.int_at hi i v (by rw[fI];exact hv)) hb items.size 0 _ ()
  fN (Hh (Fw _ _ hS)) λs' m nc=>?_
 have eS:s'={ s with heap:=s'.heap,toks:=s'.toks }:=by
  obtain⟨gB,g',d',mH,ud⟩:=s';have m1:g'=s.gens:=m.gens;have m2:d'=s.drawn:=m.drawn;have m3:ud=s.os:=m.os
  simp_all
 rw[eS];refine au (h _ _ nc (λb o hb e=>?_) m.toks);exact m.heap b o (by simp only[List.mem_cons,List.not_mem_nil,or_false,not_or];exact⟨hb,aM (aA e)⟩) (Fw _ _ e)
theorem JA(hh:A.handled=none)(hl:vX s.heap l items)(hi:IntsAre items.toList ns)(hb:items.size+1<scanBound)(h:∀h' tk,v8 prog w h' s.heap.objs.size (i7 [] ns)->(∀b o,s.heap.get? b=some o->h'.get? b=some o)->s.toks<=tk->Q (.ref s.heap.objs.size) { s with heap:=h',toks:=tk }) :
  wpAny (model prog w) A (call (.type "set") [.ref l]) Q E s:=by
 have cs:=F.called_set;obtain⟨_,_,y1⟩:=cs.mro;have y2:=cs.made;have y3:=cs.sub;have y4:=cs.notType;have y5:=cs.canCreate;have y6:=F.typeCall_set_1 (.ref l);refine wpAny_call (tB (?_:wpAny _ _ (callAny (.type "set") _) _ _ _));refine au ⟨Code.quiet_builtin _ (by decide +kernel),fx F.entry_type_call ?_⟩;rw[Around.under_plain (weight_type_call_type "set" [.ref l] []) rfl]
 repeat (any_goals (first|assumption|wp_step))
 refine gS (ZX (.ref l) (E:=E) (Q:=λv s1=>v=.ref s.heap.objs.size/\s1={ s with heap:=s.heap.push (y9 w) }) ⟨rfl,rfl⟩) ?_;rintro(e|fl) s1 hr
 ·exact hr
 cases fl with
 |next=>exact hr
 |brk=>exact hr
 |cont=>exact hr
 |ret v =>
 obtain⟨rfl,rfl⟩:=hr;have hS:(s.heap.push (y9 w)).get? s.heap.objs.size=some (y9 w):=aB _ rfl;have hT:Shared.TypeIs { s with heap:=s.heap.push (y9 w) } (.ref s.heap.objs.size) "set":=⟨_,hS,rfl⟩
 have y7:=cs.init.lookup;have y8:=cs.init.bind (.ref s.heap.objs.size)
 repeat (any_goals (first|assumption|wp_step))
 refine gS (codeAny_call_builtin (R:=wants (λv s2=>v=.none/\∃h' tk,s2={ s with heap:=h',toks:=tk }/\v8 prog w h' s.heap.objs.size (i7 [] ns)/\(∀b o,s.heap.get? b=some o->h'.get? b=some o)/\s.toks<=tk) E) cs.init.plain F.entry_set_init (check_set_init_1 hT ?_)) ?_
 ·have jE:vX (s.heap.push (y9 w)) l items:=hl.imp (·.push _) (·.push _);have MH:=hl.lt;refine a43 (s:={ s with heap:=s.heap.push (y9 w) }) (by simp[hh]) hS jE hi hb (bW MH) λh' tk h1 h2 h3=>au ⟨rfl,h',tk,rfl,h1,λb o e=>h2 b o (aM (aA e)) (ao _ e),h3⟩
 ·rintro(e|fl) s2 hr
  ·exact hr
  cases fl with
  |next=>exact hr
  |brk=>exact hr
  |cont=>exact hr
  |ret v =>
  obtain⟨rfl,h',tk,rfl,h1,h2,h3⟩:=hr
  repeat (any_goals (first|assumption|wp_step))
  exact h _ _ h1 h2 h3
end ST
namespace L2
open PySem PySem.Spec PyProof.Rows
def rf(X:Cx)(a:Addr)(ks:List Int):HO:=.ext λh=>ST.v8 X.prog X.w h a ks
def p6(ns:List Int):List Int:=(ST.i7 [] ns).mergeSort (λa b=>decide (a<=b))
theorem Co:∀{a b:List Int},a.Perm b->a.Pairwise (·<=·)->b.Pairwise (·<=·)->a=b
 |[],b,h,_,_=>by simp_all
 |x::a,[],h,_,_=>absurd h.length_eq (by simp)
 |x::a,y::b,h,h1,h2=>by
  rw[eY] at h1 h2;have e:x=y:=by
   have m1:=h.mem_iff (a:=y);have m2:=h.mem_iff (a:=x);simp only[List.mem_cons,true_or,true_iff,iff_true] at m1 m2;rcases m1 with z|z
   ·exact z.symm
   ·grind
  subst e;rw[Co (h.cons_inv) h1.2 h2.2]
theorem YZ(ns:List Int):(p6 ns).Pairwise (·<=·):=by
 have:=rq (le:=λa b:Int=>decide (a<=b)) (λa b c h1 h2=>by simp at *;omega) (λa b=>by simp;omega) (ST.i7 [] ns);exact this.imp λh=>by simpa using h
theorem P9(ns:List Int):(p6 ns).Perm (ST.i7 [] ns):=Ec _ _
theorem U1(ns:List Int):(p6 ns).length<=ns.length:=by
 rw[(P9 ns).length_eq];have:=ST.M3 ns []
 simp_all
section
variable{X:Cx}{pins:List (Addr×Obj)}{U:St}{H:Hp}{s:Shared}
theorem Inv.draw(I:Inv X pins U H s)(d:Drawn):Inv X pins U H { s with drawn:=d } :=
 I.step (g':=s.gens) (t':=s.toks) (d':=d) (ch:=[]) (by simp) (λb o _ _ _ e _=>e) (λb o _ _ _ e _=>⟨o.slots,e⟩) (λb o _ _ e=>e) (λb o _ e=>⟨o,e⟩) (λ_ _ e=>e) (λ_ _ _ e=>e) (λb ps e=>⟨#[],by simp[e]⟩) (λm hm=>hm) I.cu I.bare
theorem Jq{h:Heap}{a:Addr}{ks:List Int}(x:ST.v8 X.prog X.w h a ks):o6 X.prog X.w H h a (rf X a ks) :=
 ⟨x,by obtain⟨o,_,_,_,e,_⟩:=x;exact⟨o,e⟩,λh1 h2 y k=>y.at k⟩
theorem HS{ns:List Int}{vs:List Value}(h:IntsAre vs ns):Vals (ns.map V.int) vs:=by
 induction h with
 |nil=>exact .nil
 |cons n t r ih=>exact .cons ⟨t,rfl⟩ ih
theorem J7:∀{ns:List Int} {vs:List Value},Vals (ns.map V.int) vs->IntsAre vs ns
 |[],_,h=>by cases h;exact .nil
 |n::ns,_,h=>by
  cases h with
  |cons r rr =>
   obtain⟨t,rfl⟩:=r;exact .cons n t (J7 rr)
theorem Ik(hc:X.calm=true):n4 X (.type "set") (λxs H Q=>∃a ns,xs=[.ref a]/\fO X.K H a (ns.map V.int)/\ns.length<600/\∀p,H p=none->Q (.ref p) (upd H p (rf X p (ST.i7 [] ns)))):=by
 intro pins s U H xs us Q I r h;obtain⟨a,ns,rfl,hq,hl,q⟩:=h;cases r with
 |cons r rr =>
 cases rr;cases r;obtain⟨bp,rv,p,hz⟩:=I.list hq;have hI:=J7 rv;have hlen:=ST.yz hI;refine ST.JA (ns:=ns) (I.ok.hd hc) (.inl p.isList) (by simpa using hI) (by rw[aW,hlen];exact ay (Nat.succ_lt_succ hl) ∅) λh' tk hS hk _=>?_;exact⟨.ref _,_,I.laid (a:=s.heap.objs.size) (t':=tk) hk (ai _) (Jq hS),rfl,q _ (I.cu.fresh (ai _))⟩
theorem V0(hc:X.calm=true):n4 X (.builtin "sorted") (λxs H Q=>∃a ns,xs=[.ref a]/\H a=some (rf X a (ST.i7 [] ns))/\ns.length<600/\∀p,H p=none->Q (.ref p) (upd H p (.lst ((p6 ns).map V.int)))):=by
 intro pins s U H xs us Q I r h;obtain⟨a,ns,rfl,ha,hl,q⟩:=h;cases r with
 |cons r rr =>
 cases rr;cases r;have hS:ST.v8 X.prog X.w s.heap a (ST.i7 [] ns):=(I.cu a _ ha).1;have hn:=ST.M3 ns [];simp only[List.length_nil] at hn;refine ST.Za (I.ok.hd hc) hS () λS vs kh e h' d' mH h1 h2 h3 h4 h5 h6 _=>?_;have e1:kh=p6 ns:=Co (h2.trans (P9 ns).symm) h3 (YZ ns);subst e1;have hz:=U1 ns;exact⟨.ref S,_,(I.laid (a:=S) (o:=.lst ((p6 ns).map V.int)) (t':=mH) h6 h5 ⟨by rw[ak];exact aD hz (aD (eK hl) ∅),vs,e,HS h1,h4⟩).draw d',rfl,q S (I.cu.fresh h5)⟩
end
end L2
namespace ST
open PySem PyProof.Rows
theorem ZV{prog:Program}{w:World}{A:Around}{E:Value->Shared->Prop}{s:Shared}{a:Addr}{ks:List Int}{k:Int}{tk:Tok}{Q:Value->Shared->Prop}(hS:v8 prog w s.heap a ks)(hr:ks.length+1<scanBound)(h:∀h',Heap.SameBut a s.heap h'->v8 prog w h' a (F0 ks k)->Q .none { s with heap:=h',toks:=s.toks+1 }):wpAny (model prog w) A (call (.builtin "set.add") [.ref a,.int k tk]) Q E s:=by
 have hT:s.TypeIs (.ref a) "set":=let ⟨o,_,_,_,e,x,_⟩:=hS;⟨o,e,x.1⟩
 refine de F.slot_set_add hT F.entry_set_add ?_ (F.args_set_add_2 _ _);have go:∀(Q':Fin->Shared->Prop),(∀h',Heap.SameBut a s.heap h'->v8 prog w h' a (F0 ks k)->wpAny (model prog w) A.in1 (ret .none) Q' E { s with heap:=h',toks:=s.toks+1 })->wpAny (model prog w) A.in1 (do let _ <- setAdd a (.int k tk);ret .none) Q' E s:=λQ' q=>by
  refine ab (cz (ab ((intKind prog w).pyHash (k:=k) (eT _ _ _ _) ?_)));exact JV (s:={ s with toks:=s.toks+1 }) hS hr λh' b sb S2=>q h' sb S2
 unfold Builtin.«set.add» Builtin.Frozenset.oneOther;simp only[List.isEmpty_nil,bind_assoc];refine ab (au ?_);refine ab (au ?_);exact go _ λh' sb S2=>au ⟨_,rfl,h h' sb S2⟩
end ST
namespace L2
open PySem PySem.Spec PyProof.Rows
variable{elt iter:Expr}{ifs:List Expr}{scope:Scope}{pos:Pos}
section
variable{prog:Program}{w:World}{A:Around}{R:Result->Shared->Prop}{s:Shared}
theorem Zd(elt target iter:Expr)(ifs:List Expr)(scope:Scope)(pos:Pos)(it acc:Value)(env:Env):compTurn (.SetComp elt [⟨target,iter,ifs,0⟩] scope pos) 0 it acc env=(do
      standAt iter.pos
      match <- pyNext it with
      |none=>pure (.done .next)
      |some v =>
        letOwnedTupleGo target it v
        assign target env v
        let mut ok:=true
        for c in ifs do if ok then ok <- isTrue c env (eval c env)
        if ok then(do let x <- eval elt env;standAt elt.pos;let _ <- call (.builtin "set.add") [acc,x])
        again (.compLoop (.SetComp elt [⟨target,iter,ifs,0⟩] scope pos) 0 it acc env)):=by rfl
theorem WL{target:Expr}{it acc:Value}{env:Env}(I:Nat->Shared->Prop)(turn:∀ n s,I n s->wpAny (model prog w) A (pyNext it) (λr bX=>match r with
   |none=>R (.ok .next) bX
   | some v=>wpAny (model prog w) A (letOwnedTupleGo target it v) (λ_ bX=>wpAny (model prog w) A (assign target env v) (λ_ gU =>
     wpAny (model prog w) A (forIn ifs true λc r=>if r=true then do let ok <- isTrue c env (eval c env);pure (ForInStep.yield ok) else pure (ForInStep.yield r)) (λok fA =>
      if ok=true then wpAny (model prog w) A (eval elt env) (λx jI =>
       wpAny (model prog w) A (call (.builtin "set.add") [acc,x]) (λ_ mI=>∃ m,m < n/\I m mI) (λ_ _=>False) jI) (λ_ _=>False) fA
      else ∃ m,m < n/\I m fA) (λ_ _=>False) gU) (λ_ _=>False) bX) (λ_ _=>False) bX) (λ_ _=>False) s)(n:Nat)(h:I n s) :
  codeAny (model prog w) A (.compLoop (.SetComp elt [⟨target,iter,ifs,0⟩] scope pos) 0 it acc env) R s:=by
 refine codeAny_loop rfl I (λn s hI=>?_) n h;show wpAny _ A ((compTurn (.SetComp elt [⟨target,iter,ifs,0⟩] scope pos) 0 it acc env).onRaise (λx=>do noteFrame x env;theTreesLotGoes x)) _ _ s;refine wpAny_noted ?_;rw[Zd];refine ab (fh (ab (bK (turn n s hI) (λr bX dX=>?_) λ_ _ h'=>h'.elim)));cases r with
 |none=>exact au dX
 |some v =>
  refine ab (bK dX (λ_ bX dX=>?_) λ_ _ h'=>h'.elim);refine ab (bK dX (λ_ gU jL=>ab (bK jL (λok fA mQ=>?_) λ_ _ h'=>h'.elim)) λ_ _ h'=>h'.elim);cases ok with
  |false=>exact wpAny_pure ⟨rfl,mQ⟩
  |true =>
   exact ab (ab (bK mQ (λx jI qb=>ab (fh (ab (bK qb (λ_ mI qa=>au (au ⟨rfl,qa⟩)) λ_ _ h'=>h'.elim)))) λ_ _ h'=>h'.elim))
theorem YV{target:Expr}{it acc:Value}{env:Env}(h0:codeAny (model prog w) A (.compLoop (.SetComp elt [⟨target,iter,ifs,0⟩] scope pos) 0 it acc env) R s)(h:wpAny (model prog w) A (pyIter it) (λFb s'=>codeAny (model prog w) A (.compLoop (.SetComp elt [⟨target,iter,ifs,0⟩] scope pos) 0 Fb acc env) R s') (notedBy (model prog w) A env λx s'=>R (.error x) s') s) :
  codeAny (model prog w) A (.compStart (.SetComp elt [⟨target,iter,ifs,0⟩] scope pos) 0 it acc env) R s:=by
 refine tB (?_:wpAny _ _ ((compStart (.SetComp elt [⟨target,iter,ifs,0⟩] scope pos) 0 it acc env).onRaise (λx=>do noteFrame x env;standAt theWindowsPlace)) _ _ s);refine wpAny_notedAt ?_;refine ab (pG (wpAny_ite ?_));split
 ·first
   |exact au ⟨rfl,h0⟩
   |exact ab (au (au ⟨rfl,h0⟩))
 ·refine ab (eR ?_);exact ab (fh (ab (bK h (λFb s' h'=>au ⟨rfl,h'⟩) λ_ _ x=>x)))
end
def Dm(o:Obj):Prop:=∀v,o.data≠.cell v
def RS(X:Cx)(wi:TI)(d4:List Nat)(n:Nat)(g:TG)(tc:TT)(te:TE):TE:=λU H Q=>wi U H λJ H1=>∃W:Nat->Nat->List Int->St->Hp->Prop,(∃m,W 0 m [] (C7 U d4 n) H1)/\∀i m ys U H,W i m ys U H ->
 (J.stop i H/\∀p,H p=none->Q (.ref p) (upd H p (rf X p (ST.i7 [] ys)))) \/
 (J.go i H/\ys.length < 60/\∀ x H',J.pK i H x H'->g x U H' λcC H2=>tc cC H2 λb H3 =>
  if b=true then te cC H3 λy H4=>∃ k,y=.int k/\∃ m',m' < m/\W (i + 1) m' (ys ++ [k]) cC H4 else ∃ m',m' < m/\W (i + 1) m' ys cC H3)
section
variable{X:Cx}{pins:List (Addr×Obj)}{U:St}{H:Hp}{s:Shared}
theorem Inv.RV{D:Addr}{φ:Heap->Prop}(I:Inv X pins U H s)(f:C9 X pins H D)(hs:X.dM.heap.objs.size<=D)(ho:o6 X.prog X.w (upd H D (.ext φ)) s.heap D (.ext φ)):Inv X pins U (upd H D (.ext φ)) s:=by
 obtain⟨f0,f1,f2,f3,f4,f5⟩:=f;have eZ:∀b o,X.dM.heap.get? b=some o->b≠D:=λb o e z=>absurd (aA e) (by simp_all);have tup:∀b u,H b=some u->upd H D (.ext φ) b=some u:=λb u e=>by rw[f7 (m9 e f0)];exact e
 refine⟨I.ok,I.os,I.bare,⟨?_,?_,?_,I.base.there,?_,?_,?_⟩,I.loc,I.cell,?_,?_,?_,?_,I.len,I.sg⟩
 ·exact λb o e n1 n2 n3=>I.base.keep b o e n1 n2 n3
 ·exact λb o e n1 n2 n3=>I.base.slot b o e n1 n2 n3
 ·exact λb o e n1 n2=>by rw[f7 (eZ b o e)];exact I.base.free b o e n1 n2
 ·exact λb xs e=>tup _ _ (I.base.iX b xs e)
 ·exact λb o u e=>tup _ _ (I.base.iG b o u e)
 ·exact λb ps e=>by
   obtain⟨more,q⟩:=I.base.iY b ps e;exact⟨more,tup _ _ q⟩
 ·rw[f7 f1.symm];exact I.free
 ·exact λx c e=>by rw[f7 (f4 x c e)];exact I.fU x c e
 ·intro p hp;obtain⟨p1,p2,p3⟩:=I.pin p hp;exact⟨p1,by rw[f7 (f5 p hp)];exact p2,p3⟩
 ·intro a o e;by_cases ha:a=D
  ·subst ha;rw[u7] at e
   simp_all
  ·rw[f7 ha] at e;have q:=I.cu a o e;refine q.Z7 (λb u _ h=>h) (λb hb=>tup _ _ hb) (λb xs hb=>tup _ _ hb)
theorem Zw{tg:Expr}{N':List Str}{d4:List Nat}{cl:List (Str×Addr)}{it:Addr}{fp:List Addr}{tn:Nat->Heap->Prop}{J:It}{g:TG}{tc:TT}{te:TE}{RR:Value->Addr->Result->Shared->Prop}{E:Value->Shared->Prop}{W:Nat->Nat->List Int->St->Hp->Prop}{m0:Nat}{Q:VK}(S:dJ X scope N' d4 cl)(hc:X.calm=true)(hg:∀C s H,PG (d5 X pins scope N' cl C s H fp) tg g)(ht:∀C s H,lG (d5 X pins scope N' cl C s H fp) ifs tc)(he:∀C s H,PE (d5 X pins scope N' cl C s H fp) elt te)(I:Inv X pins U H s)(T:Turn X.prog X.w X.K tg J fp it tn)(st:tn 0 s.heap)(hf:∀b∈fp,C9 X pins H b)(w0:W 0 m0 [] (C7 U d4 N'.length) H)(turn:∀ i m ys U H,W i m ys U H->(J.stop i H/\∀ p,H p=none->Q (.ref p) (upd H p (rf X p (ST.i7 [] ys)))) \/
   (J.go i H/\ys.length < 60/\∀ x H',J.pK i H x H'->g x U H' λcC H2=>tc cC H2 λb H3 =>
    if b=true then te cC H3 λy H4=>∃ k,y=.int k/\∃ m',m' < m/\W (i + 1) m' (ys ++ [k]) cC H4 else ∃ m',m' < m/\W (i + 1) m' ys cC H3))(As:∀D C s' H' m,Inv X pins U H' s'->Q (.ref D) H'->s'.heap.Ns C m->H' C=none->s.heap.objs.size<=C->RR (.ref D) C (.ok .next) s') :
  wpAny (model X.prog X.w) X.A (newSet (.type "set")) (λacc fA=>wpAny (model X.prog X.w) X.A (newFunctionEnv scope X.env.globals cl [] X.env.qual none .none (some X.env)) (λlV jI =>
   codeAny (model X.prog X.w) X.A (.compStart (.SetComp elt [⟨tg,iter,ifs,0⟩] scope pos) 0 (.ref it) acc { lV with scope:=relabel scope X.env }) (RR acc lV.locals) jI) E fA) E s:=by
 refine ST.Jh (Ir λdX jd gK oa=>?_);generalize qq:s.heap.push (ST.y9 X.w)=H2 at jd gK oa ⊢;generalize eD:s.heap.objs.size=D at *;have hC:H2.objs.size=D+1:=by rw[<- qq,fQ,eD]
 generalize eC:H2.objs.size=C at *;have vd:D≠C:=by omega
 have lt:∀b o,s.heap.get? b=some o->b<D:=λb o e=>by rw[<- eD];exact aA e
 have pW:D<=C:=by omega
 have oR:∀b o,s.heap.get? b=some o->b≠C:=λb o e=>aM (ay (lt b o e) pW);have mN:∀b o,s.heap.get? b=some o->b≠D:=λb o e=>aM (lt b o e);have old:∀b o,s.heap.get? b=some o->dX.get? b=some o:=λb o e=>gK b o (qq▸ao _ e);have kW:dX.get? D=some (ST.y9 X.w):=gK _ _ (by rw[<- qq,<- eD];exact aB _ rfl);have jc:∀b∈fp,∃o,s.heap.get? b=some o:=λb hb=>by
  obtain⟨o,e,_⟩:=T.obj _ _ st b hb;exact⟨o,e⟩
 have vc:D∉fp:=λhm=>by
  obtain⟨o,e⟩:=jc D hm;exact mN D o e rfl
 have X1:Inv (d5 X pins scope N' cl C s H fp) [] (C7 U d4 N'.length) H { s with heap:=dX } :=
  I.HB S hc hf jc (by rw[eD];omega) ⟨_,jd⟩ old oa
 have ff:tn 0 dX:=T.keep _ _ _ st λb _ o e=>old b o e;have AS:∀{H':Hp},(∀b∈fp,H' b=none)->∀b∈fp,C9 (d5 X pins scope N' cl C s H fp) [] H' b:=λhn b hb=>by
  obtain⟨f0,f1,f2,f3,f4,f5⟩:=hf b hb;obtain⟨o,e⟩:=jc b hb;refine⟨hn b hb,?_,?_,.inl hb,λx c q=>(yx oa q).elim (λl z=>absurd (dw (z▸l) (ay (lt b o e) pW)) (bL _)) λq=>f4 x c (S.cin x c q),λp hp=>?_⟩
  ·exact oR b o e
  ·exact λz=>by
    rcases aG.mp (I.L1 b z) with z|z
    ·exact f1 z
    ·exact f2 z
  ·have gB:p∈X.pn++pins:=by simpa[d5] using hp
   exact f5 p gB
 have fD:∀{H':Hp},H' D=none->C9 (d5 X pins scope N' cl C s H fp) [] H' D:=λhn=>by
  refine⟨hn,vd,λz=>?_,.inr (by show s.heap.objs.size<=D;omega),λx c q=>?_,λp hp=>?_⟩
  ·exact absurd (I.wb (a:=D) ()) λoU=>by
    rcases aG.mp (I.L1 D z) with z|z
    ·exact absurd I.lt (by simp_all)
    ·exact oU z
  ·rcases yx oa q with l|q
   ·exact λz=>absurd (ay (z▸l) pW) (bL _)
   ·obtain⟨v,o,e,_⟩:=I.cell x c (S.cin x c q);exact mN c o e
  ·have gB:p∈X.pn++pins:=by simpa[d5] using hp
   exact mN _ _ (I.pin p gB).1
 have pT:∀{H':Hp} {s':Shared} {bZ:St} {oD:Obj},Dm oD->Inv (d5 X pins scope N' cl C s H fp) [] bZ H' s'->H' D=none->s'.heap.get? D=some oD ->
   Inv (d5 X pins scope N' cl C s H fp) [(D,oD)] bZ H' s':=λ{H' s' bZ oD} jS J0 hn e=>J0.K6 λp hp=>by
  have z:p=(D,oD):=by simpa using hp
  subst z;obtain⟨f0,f1,f2,_⟩:=fD hn;exact⟨e,f0,f1,f2,jS⟩
 have nJ:∀{H':Hp} {oD:Obj},(∀b∈fp,H' b=none)->∀b∈fp,C9 (d5 X pins scope N' cl C s H fp) [(D,oD)] H' b:=λ{H' oD} hn b hb=>by
  obtain⟨f0,f1,f2,f3,f4,f5⟩:=AS hn b hb;refine⟨f0,f1,f2,f3,f4,λp hp=>?_⟩;have gB:p∈(d5 X pins scope N' cl C s H fp).pn\/p=(D,oD):=by simpa using hp
  rcases gB with z|z
  ·exact f5 p (bw _ z)
  ·subst z;exact λz=>vc (by rw[show D=b from z];exact hb)
 have loop:∀fA:Shared,fA={ s with heap:=dX } ->
   codeAny (model X.prog X.w) X.A (.compLoop (.SetComp elt [⟨tg,iter,ifs,0⟩] scope pos) 0 (.ref it) (.ref D) (compEnvC scope (K4 scope cl C) C X.env)) (RR (.ref D) C) fA:=by
  rintro fA rfl;refine WL (λn s'=>∃ (i:Nat) (ys:List Int) (bZ:St) (H':Hp) (oD:Obj),Inv (d5 X pins scope N' cl C s H fp) [] bZ H' s'/\tn i s'.heap/\(∀ b ∈ fp,H' b=none)/\H' D=none/\ys.length <= 60/\Dm oD /\
   s'.heap.get? D=some oD/\ST.v8 X.prog X.w s'.heap D (ST.i7 [] ys)/\W i n ys bZ H') ?_ m0 ⟨0,[],_,H,ST.y9 X.w,X1,ff,λb hb=>(hf b hb).1,I.cu.fresh (),bP _,(λv (z:Data.set _ _ _=_)=>by cases z),kW,ST.Hh kW,w0⟩
  rintro n s3 ⟨i,ys,iw,H3,oD,I3,ji,pe,d3,z3,c3,o3,S3,w3⟩;have wu:=pT c3 I3 d3 o3;rcases turn i n ys iw H3 w3 with⟨stop,q⟩|⟨go,hz,step⟩
  ·refine cQ (T.done (d5 X pins scope N' cl C s H fp) rfl rfl rfl rfl i _ s3 _ H3 _ wu (nJ pe) ji stop) λr s4 ⟨hr,I4⟩=>?_;subst hr;have o4:=(I4.pin (D,oD) (by simp)).1;have J4:Inv X pins U H3 s4:=I.JD hf I4;have AU:C9 X pins H3 D:=by
    refine⟨d3,bW (by rw[<- eD];exact I.lt),I.wb (),.inr (by have:=I.sz;omega),λx c q=>?_,λp hp=>?_⟩
    ·obtain⟨v,o,e,_⟩:=I.cell x c q;exact mN c o e
    ·exact mN _ _ (I.pin p hp).1
   obtain⟨mC,zV,_⟩:=I4.loc;exact As D C s4 (upd H3 D (rf X D (ST.i7 [] ys))) mC (J4.RV AU (by have:=I.sz;omega) (Jq (S3.at λo e=>by simp_all))) (q D d3) zV (by rw[f7 vd.symm];exact I4.free) ()
  ·refine cQ (T.item (d5 X pins scope N' cl C s H fp) rfl rfl rfl rfl i _ s3 _ H3 _ wu (nJ pe) ji go) λr s4 ⟨u,hr,h4⟩=>?_;subst hr;refine cQ h4 λ_ s5 bz=>?_;obtain⟨x,H5,I5,r5,y5,lM,vj⟩:=bz;have wt:=I5.pinned (nJ vj) (T.obj _ _ lM);refine cQ (hg C s H _ s5 _ H5 x u _ wt r5 (step x H5 y5)) λ_ s6 bz=>?_;obtain⟨lJ,H6,I6,q6⟩:=bz;refine cQ (ht C s H _ s6 lJ H6 _ I6 q6) λok s7 ⟨H7,I7,q7⟩=>?_;have back:∀{tJ:St} {H8:Hp} {s8:Shared},Inv (d5 X pins scope N' cl C s H fp) ([(D,oD)]++X8 fp s5.heap) tJ H8 s8->(∀b∈fp,H8 b=none)/\tn (i+1) s8.heap/\H8 D=none/\s8.heap.get? D=some oD :=
    λ{tJ H8 s8} I8=>by
     have pf:∀b∈fp,∀o,s5.heap.get? b=some o->s8.heap.get? b=some o/\H8 b=none:=λb hb o e=>by
      have:=I8.pin (b,o) (aN _ (aN _ (Q4 hb e)));exact⟨this.1,this.2.1⟩
     have pd:=I8.pin (D,oD) (by simp);refine⟨λb hb=>?_,T.keep _ _ _ lM λb hb o e=>(pf b hb o e).1,pd.2.1,pd.1⟩;obtain⟨o,e,_⟩:=T.obj _ _ lM b hb;exact(pf b hb o e).2
   cases ok with
   |false =>
    obtain⟨m',hm,w7⟩:=q7;obtain⟨b1,b2,b3,b4⟩:=back I7;exact⟨m',hm,i+1,ys,lJ,H7,oD,I7.K6 λp hp=>absurd hp (by simp),b2,b1,b3,z3,c3,b4,S3.at λo e=>by rw[o3] at e;cases e;exact b4,w7⟩
   |true =>
    refine cQ (he C s H _ s7 lJ H7 _ I7 q7) λxv s8 bz=>?_;obtain⟨y,H8,I8,r8,kk,ey,m',hm,w8⟩:=bz;subst ey;obtain⟨tk,rfl⟩:=r8;obtain⟨b1,b2,b3,b4⟩:=back I8;have S8:ST.v8 X.prog X.w s8.heap D (ST.i7 [] ys):=S3.at λo e=>by rw[o3] at e;cases e;exact b4
    have zB:=ST.M3 ys [];simp only[List.length_nil] at zB;refine ST.ZV S8 (ay (by omega:_<62) ∅) λh' sb S9=>?_;have e9:ST.F0 (ST.i7 [] ys) kk=ST.i7 [] (ys++[kk]):=by unfold ST.i7;simp
    rw[e9] at S9;obtain⟨o9,es9,ep9,t9,g9,x9,d9,r9⟩:=id S9;have c9:Dm o9:=λv z=>by rw[d9] at z;cases z
    have DW:Inv (d5 X pins scope N' cl C s H fp) [] lJ H8 s8:=I8.K6 λp hp=>absurd hp (by simp);obtain⟨f0,f1,f2,f3,f4,f5⟩:=fD (H':=H8) b3;have kp:∀b o,b≠D->s8.heap.get? b=some o->h'.get? b=some o:=λb' u hb hu=>by rw[sb.2 b' hb];exact hu
    refine⟨m',hm,i+1,ys++[kk],lJ,H8,o9,DW.turned (it:=D) (t':=s8.toks+1) kp f0 f1 f3 f4 f5,T.keep _ _ _ b2 λb hb o e=>kp b o (λz=>vc (by rw[<- z];exact hb)) e,b1,b3,?_,c9,g9,S9,w8⟩
    grind
 exact YV (loop _ rfl) (T.self _ 0 _ _ _ ff (loop _ rfl))
theorem a27{tg:Expr}{N':List Str}{d4:List Nat}{cl:List (Str×Addr)}{wi:TI}{g:TG}{tc:TT}{te:TE}(S:dJ X scope N' d4 cl)(hc:X.calm=true)(hi:PI X tg iter wi)(hg:∀pins C s H fp,PG (d5 X pins scope N' cl C s H fp) tg g)(ht:∀pins C s H fp,lG (d5 X pins scope N' cl C s H fp) ifs tc)(he:∀pins C s H fp,PE (d5 X pins scope N' cl C s H fp) elt te)(hs:∀x,foldedSetIterable iter X.env x=pure x):PE X (.SetComp elt [⟨tg,iter,ifs,0⟩] scope pos) (RS X wi d4 N'.length g tc te):=by
 intro pins s U H Q I h;refine iT (use:=none) rfl hs S.qQ S.kind S.names (cQ (hi pins s U H _ I h) λxv bX dX=>cQ dX λuH gU jL=>?_);obtain⟨it,fp,tn,J,H2,e,I2,T,fW,f2,W,⟨m0,w0⟩,turn⟩:=jL;subst e;refine Zw (RR:=λacc C=>compPost (model X.prog X.w) X.A X.xe none (EP X pins U Q) acc C) S hc (λC s H=>hg pins C s H fp) (λC s H=>ht pins C s H fp) (λC s H=>he pins C s H fp) I2 T fW f2 w0 turn ?_;intro D C s' H' m I' q hn hC hsz;exact⟨m,hn,λh' sb=>⟨.ref D,H',I'.Kk hsz I2 hC sb,rfl,q⟩⟩
end
end L2
namespace HT
open PySem PyProof.Rows Builtin
end HT
namespace L2
open PySem PySem.Spec PyProof.Rows
def SF(sep:Str)(ys:List Str):Nat:=ys.foldl (λn y=>n+y.length+sep.length) 0
end L2
namespace HT
open PySem PyProof.Rows Builtin PySem.SeqAt
end HT
namespace L2
open PySem PySem.Spec PyProof.Rows
def DH(K:PySem.W.Frag)(H:Hp)(a:Addr)(xs:List V):Prop :=
 H a=some (.tup xs)\/∃(o:Obj) (bp:Array Value) (n:Nat),K.lookup a=some o/\o.cls=.type "tuple"/\o.dict=none/\o.data=.seq bp n/\bp.size<=sizeLine/\Vals xs bp.toList
theorem DH.sq{K:PySem.W.Frag}{H:Hp}{a:Addr}{xs:List V}(h:DH K H a xs):jU K H a xs:=by
 rcases h with h|⟨o,bp,n,h1,h2,_,h3,h4,h5⟩
 ·exact .inl (.inl h)
 ·exact .inr ⟨o,bp,n,h1,h2,h3,h4,h5⟩
end L2
namespace ST
open PySem PyProof.Rows
variable{h:Heap}
def Spot(k:Int):Prop:=0<=k/\k<8
structure Own(mask:Nat)(owner:Array (Option Nat))(pre:List Int):Prop where
 sz:owner.size=mask+1
 fwd:∀(i:Nat) (k:Int),pre[i]?=some k->owner[k.toNat]?=some (some i)
 bwd:∀(j i:Nat),owner[j]?=some (some i)->pre[i]?=some (j:Int)
section
variable{prog:Program}{w:World}{a:Addr}
def Up(prog:Program)(w:World)(h:Heap)(a:Addr)(ks:List Int):Prop :=
 ∃o es ep t,h.get? a=some o/\o.ExactSet/\o.data=.set es ep t/\ElemsOf (intKind prog w) es.toList/\(es.toList.map λe=>toI e.2).Perm ks/\ks.Nodup/\es.size<scanBound/\t.fits es.size=true/\Well (Led w) t/\(ks=[]->7<=t.mask)
theorem v8.toV{ks:List Int}(x:v8 prog w h a ks)(hn:ks≠[]):Up prog w h a ks:=by
 obtain⟨o,es,ep,t,h1,h2,h3,h4,h5,h6,h7,h8,h9⟩:=x;exact⟨o,es,ep,t,h1,h2,h3,h4,h5,h6,h7,h8,h9,λz=>absurd z hn⟩
theorem v8.same{ks us:List Int}(x:v8 prog w h a ks)(hp:ks.Perm us):v8 prog w h a us:=by
 obtain⟨o,es,ep,t,h1,h2,h3,h4,h5,h6,h7⟩:=x;exact⟨o,es,ep,t,h1,h2,h3,h4,h5.trans hp,hp.nodup_iff.mp h6,h7⟩
theorem M8{o:Obj}{es ou:Array (Int×Value)}{ep:Nat}{t t':SetTable}(ho:h.get? a=some o)(hd:o.data=.set es ep t):(h.update a (Obj.putSet ou t')).get? a=some { o with data:=.set ou (ep+1) t' }:=by
 have:=bB (Obj.putSet ou t') ho (by rw[putSet_of ou t' hd];rfl);rw[putSet_of ou t' hd] at this;exact this
theorem above:∀n,n<300->7<SetTable.sizeAbove n/\n<SetTable.sizeAbove n/\SetTable.sizeAbove n<=sizeLine:=by decide +kernel
end
end ST
namespace L2
open PySem PySem.Spec PyProof.Rows
variable{X:Cx}
end L2
namespace ST
open PySem PyProof.Rows
end ST
namespace L2
open PySem PySem.Spec PyProof.Rows
variable{X:Cx}
theorem HY{bp:List Value}{ns:List Int}(hi:IntsAre bp ns):∃xs,bp.toArray=intItems xs/\ns=xs.toList.map (·.1):=by
 obtain⟨xs,e⟩:=hi.allInts.items;exact⟨xs,e,by rw[<- hi.numsOf,<- nums_intItems,<- e]⟩
theorem Xx(hc:X.calm=true):n4 X (.builtin "sum") (λxs H Q=>∃a,∃ns:List Int,xs=[.ref a]/\fO X.K H a (ns.map V.int)/\Q (.int ns.sum) H):=by
 intro pins s U H xs us Q I r h;obtain⟨a,ns,rfl,ha,q⟩:=h;obtain⟨u,rfl,ru⟩:=vals1 r;cases ru;obtain⟨bp,rv,p,hz⟩:=I.list ha;obtain⟨xs,e,en⟩:=HY (J7 rv);refine sum_intListG (xs:=xs) (I.ok.hd hc) (by rw[<- e];exact p.isList) λh' tk t' k=>⟨.int ns.sum,H,I.kept k,⟨t',?_⟩,q⟩
 rw[preSum_eq,bI (by simp),en]
theorem Xv(hc:X.calm=true):n4 X (.builtin "max") (λxs H Q=>∃a,∃(ns:List Int) (M:Int),xs=[.ref a]/\fO X.K H a (ns.map V.int)/\M∈ns/\(∀x∈ns,x<=M)/\Q (.int M) H):=by
 intro pins s U H xs us Q I r h;obtain⟨a,ns,M,rfl,ha,hm,hM,q⟩:=h;obtain⟨u,rfl,ru⟩:=vals1 r;cases ru;obtain⟨bp,rv,p,hz⟩:=I.list ha;obtain⟨xs,e,en⟩:=HY (J7 rv);have hsz:0<xs.size:=by
  have:=tG hm
  simp_all
 refine max_intList (xs:=xs) (I.ok.hd hc) (by rw[<- e];exact p.isList) hsz λv h' tk hv k=>?_;obtain⟨t,rfl⟩:=intItems_at hv;obtain⟨h1,h2⟩:=argBest_gt (numAt xs) (xs.size-1);generalize argBest (λi j=>decide (numAt xs i>numAt xs j)) (xs.size-1)=j0 at *;have m1:numAt xs j0∈ns:=by rw[en,numAt_eq];exact getD_mem (by rw[ak,cc];omega)
 have m2:M<=numAt xs j0:=by
  rw[en] at hm;obtain⟨j,hj,rfl⟩:=mem_getD hm;rw[ak,cc] at hj;rw[<- numAt_eq];exact h2 j ()
 have e2:numAt xs j0=M:=Int.le_antisymm (hM _ m1) m2;exact⟨.int M,H,I.kept k,⟨t,by rw[e2]⟩,q⟩
theorem Xt(hc:X.calm=true):n4 X (.builtin "all") (λxs H Q=>∃(a:Addr) (ns:List Int),xs=[.ref a]/\fO X.K H a (ns.map V.int)/\Q (.bl (ns.all λn=>n != 0)) H):=by
 intro pins s U H xs us Q I r h;obtain⟨a,ns,rfl,ha,q⟩:=h;obtain⟨u,rfl,ru⟩:=vals1 r;cases ru;obtain⟨bp,rv,p,hz⟩:=I.list ha;refine call_all_walk ?_;refine iJ p.isList ?_;have eZ:a≠s.heap.objs.size:=by
  obtain⟨o,e,_⟩:=id p.isList;exact aM (aA e)
 have hl:=rv.length;rw[ak] at hl;refine⟨s.heap.objs.size,_,_,_,_,_,λi=>ns.getD i 1 != 0,rfl,Walks.list (A:=X.A.in1) (I.ok.hd hc) _ a eZ bp.toArray,⟨⟨_,aB _ rfl,rfl,rfl⟩,?_⟩,?_,λh' tk k=>?_⟩
 ·obtain⟨o,e,q1⟩:=id p.isList;exact⟨o,ao _ e,q1⟩
 ·intro i v s' Q' E' hP hQ;have hv:bp[i]?=some v:=by simpa using hP
  have hi:i<ns.length:=by rw[hl];exact(av.mp hv).1
  obtain⟨u',uK,zl⟩:=rv.get (i:=i) (x:=V.int ns[i]) (by rw[ae,ag hi];rfl);rw[hv] at uK;cases uK;obtain⟨t,rfl⟩:=zl;refine truthy_int ?_;have:ns.getD i 1=ns[i]:=by simp[List.getD,hi]
  dsimp only at hQ;rw[this] at hQ;exact hQ
 ·have e1:(List.range bp.toArray.size).all (λi=>ns.getD i 1 != 0)=ns.all λn=>n != 0:=by
   rw[aW,<- hl];rw[bg];simp only[List.all_eq_true,List.mem_range];constructor
   ·intro hh x hx;obtain⟨i,hi,rfl⟩:=bt.mp hx;have:=hh i hi;simpa[List.getD,hi] using this
   ·intro hh i hi;have:=hh ns[i] (bN hi);simpa[List.getD,hi] using this
  rw[e1];exact ⟨.bl _,H,I.kept (t':=tk) λb o e=>k b o (by
   intro hb;have:b=s.heap.objs.size:=by simpa using hb
   exact absurd (aA e) (by rw [this];exact bL _)) (ao _ e),rfl,q⟩
theorem WB:n4 X (.builtin "len") (λxs H Q=>∃a,∃ks:List Int,xs=[.ref a]/\H a=some (rf X a ks)/\Q (.int ks.length) H):=by
 intro pins s U H xs us Q I r h;obtain⟨a,ks,rfl,ha,q⟩:=h;obtain⟨u,rfl,ru⟩:=vals1 r;cases ru;have hS:ST.v8 X.prog X.w s.heap a ks:=(I.cu a _ ha).1;obtain⟨o,es,ep,t,e,ex,ed,_,hp,nd,hz,hf,_⟩:=hS;have hl:es.size=ks.length:=by have:=hp.length_eq;simpa using this
 refine call_len_set e ex ed hf (by have:scanBound<2 ^ 62:=∅;omega) ⟨.int ks.length,H,I.tok _,⟨_,by rw[hl]⟩,q⟩
theorem Td{i:Int}{j:Nat}{p pos:Pos}(mZ:PySem.W.kdsCode X.K X.env.code=true):PE X (.Set [.Constant (.int i) j p] 0 pos) (λU H Q=>∀q,H q=none->Q (.ref q) (upd H q (.set (λk=>decide (k=i)) 1))):=by
 intro pins s U H Q I h;refine ab (fh ?_);refine ab (PySem.W.kds_main I.hJ mZ λb=>?_);refine PySem.W.kds_core (ts:=(evalEach [Expr.Constant (.int i) j p] X.env).map λt=>do let v <- t;standAt pos;pure v) (by rfl) (by rfl) (by show 1<=30;decide) (by rfl) λled=>?_;refine PySem.W.kds_all pos _ _ _ ?_;refine wpAny_Constant_int ?_;refine PySem.W.kds_fill_cons ?_;have Nj:(s.heap.push { cls:=.type "set",dict:=none,data:=.set #[] 0 (.fresh 0 0 led) }).SetOf (intKind X.prog X.w) s.heap.objs.size (λ_=>false) 0:=(setObjOf_fresh led).setOf (aB _ rfl) ∅;refine cz (ab ((intKind X.prog X.w).pyHash (k:=i) (eT _ _ _ _) ?_));refine wpAny_setAddHashed_of (knd:=intKind X.prog X.w) (eT _ _ _ _) rfl Nj ∅ λh' zM nc=>?_;refine PySem.W.kds_fill_nil (by rfl) ?_;have kp:∀b u,s.heap.get? b=some u->h'.get? b=some u:=λb u e=>(zM.2 b (aM (aA e))).trans (ao _ e);exact⟨.ref s.heap.objs.size,_,I.laid (a:=s.heap.objs.size) (o:=.set (λk=>decide (k=i)) 1) kp (ai _) (by show Heap.SetOf _ _ _ _ _;simpa using nc),rfl,h _ (I.cu.fresh (ai _))⟩
theorem XZ:gn X (compareOp .In) (λx y H Q=>∃i a S n,x=.int i/\y=.ref a/\H a=some (.set S n)/\Q (.bl (S i)) H):=by
 intro pins s U H x y v u Q I rx ry h;obtain⟨i,a,S,n,rfl,rfl,ha,q⟩:=h;obtain⟨t,rfl⟩:=rx;cases ry;exact wpAny_inSet_of (knd:=intKind X.prog X.w) (k:=i) (eT _ _ _ _) rfl (I.cu a _ ha) ⟨.bl (S i),H,I.tok _,rfl,q⟩
theorem ZM:gn X (compareOp .NotIn) (λx y H Q=>∃i a S n,x=.int i/\y=.ref a/\H a=some (.set S n)/\Q (.bl (!S i)) H):=by
 intro pins s U H x y v u Q I rx ry h;obtain⟨i,a,S,n,rfl,rfl,ha,q⟩:=h;obtain⟨t,rfl⟩:=rx;cases ry;exact wpAny_notInSet_of (knd:=intKind X.prog X.w) (k:=i) (eT _ _ _ _) rfl (I.cu a _ ha) ⟨.bl (!S i),H,I.tok _,rfl,q⟩
theorem YR:nz X "set.add" (λx xs H Q=>∃a i S n,x=.ref a/\xs=[.int i]/\H a=some (.set S n)/\n+1<4096/\Q .bO (upd H a (.set (λk=>S k||decide (k=i)) (if S i then n else n+1)))):=by
 intro pins s U H x vs v us Q I rx rv h;obtain⟨a,i,S,n,rfl,rfl,ha,hn,q⟩:=h;cases rx;obtain⟨u,rfl,t,rfl⟩:=rv.one;refine call_set_add (knd:=intKind X.prog X.w) (k:=i) (eT _ _ _ _) rfl (I.cu a _ ha) (show n+1<scanBound from hn) λh' zM nc=>?_;obtain⟨o,es,ep,tb,ho,_⟩:=id nc;exact⟨.bO,_,I.write (x:=a) (e:=a) (o:=.set (λk=>S k||decide (k=i)) (if S i then n else n+1)) (by rw[ha];trivial) (.inl rfl) (λb u hb e=>(zM.2 b hb).trans e) ⟨o,ho⟩ nc,rfl,q⟩
def DS(K:PySem.W.Frag)(a:Addr)(n:Nat):It :=
 ⟨λi H=>∃xs x,fO K H a xs/\xs.length=n/\i<n/\xs[n-1-i]?=some x,λi H x H'=>H'=H/\∀xs,fO K H a xs->xs[n-1-i]?=some x,λi H=>n<=i⟩
theorem Xj{P:Program}{w:World}{K:PySem.W.Frag}{tg:Expr}(a it:Addr)(n:Nat):Turn P w K tg (DS K a n) [it] it (λi h=>i<=n/\h.IsRevIter it a ((n:Int)-1-(i:Nat))) where
 mem:=by simp
 obj:=λi h st b hb=>by
  have e:b=it:=by simpa using hb
  subst e;obtain⟨o,e,c,d⟩:=st.2;exact⟨o,e,λv z=>by simp_all⟩
 keep:=λi h h' st k=>⟨st.1,st.2.at λo e=>k it (by simp) o e⟩
 item:=by
  intro X hP hw hK hc i pins s U H E I hf st hg;subst hP hw hK;obtain⟨xs,x,hq,hn,hi,hx⟩:=hg;obtain⟨bp,rv,p,hz⟩:=I.list hq;obtain⟨u,hu,ru⟩:=rv.get hx;obtain⟨f0,f1,f2,f3,f4,f5⟩:=hf it (by simp);have fW:=st.2;rw[show(n:Int)-1-(i:Nat)=((n-1-i:Nat):Int) by omega] at fW;refine wpAny_pyNext_rev_item fW p.isList (x:=u) (by simpa using hu) λh' aZ sb=>?_;have I1:Inv X pins U H { s with heap:=h' }:=I.turned (t':=s.toks) (λb o hb e=>(sb.2 b hb).trans e) f0 f1 f3 f4 f5;obtain⟨o,e,c,d⟩:=id aZ;refine⟨u,rfl,xN (s:={ s with heap:=h' }) e c d ∅ ⟨x,H,I1,ru,⟨rfl,λys hy=>by rw[I.BR hy hq];exact hx⟩,⟨by omega,?_⟩,λb hb=>(hf b hb).1⟩⟩
  grind
 done:=by
  intro X hP hw hK hc i pins s U H E I hf st hg;obtain⟨f0,f1,f2,f3,f4,f5⟩:=hf it (by simp);have fW:=st.2;have:n<=i:=hg;rw[show(n:Int)-1-(i:Nat)=-1 by omega] at fW;exact wpAny_pyNext_rev_end (I.ok.hd hc) fW λh' eb=>⟨rfl,I.turned (t':=s.toks) (λb o hb e=>eb b o hb e) f0 f1 f3 f4 f5⟩
 self:=λ_ _ _ _ _ st h=>wpAny_pyIter_revIter st.2 h
theorem boot_reversed:bootBuiltins "reversed"=some (.type "reversed"):=by decide +kernel
theorem QX{tg l:Expr}{ta:TA}{p pos:Pos}(hg:Gl X "reversed")(hm:X.mg "reversed"=none)(ha:PA X [l] ta)(hs:starEach [l] X.env=[(false,eval l X.env)]) :
  PI X tg (.Call (.Name "reversed" p) [l] [] pos) (λU H R=>ta U H λvs H1=>∃a xs,vs=[.ref a]/\fO X.K H1 a xs/\R (DS X.K a xs.length) H1):=by
 intro pins s U H R I h;refine Call_ (L8 I hg hm boot_reversed (bR (cQ (ha pos pins s U H _ I h) λus s1 bz=>?_) hs rfl));obtain⟨vs,H1,I1,r1,q1⟩:=bz;obtain⟨a,xs,e,hq,q⟩:=q1;subst e;cases r1 with
 |cons r rr =>
  cases rr;cases r;obtain⟨bp,rv,p,hz⟩:=I1.list hq;refine call_reversed_list p.isList ?_;have hl:=rv.length;have hit:(s1.heap.push (revObj a ((bp.toArray.size:Int)-1))).IsRevIter s1.heap.objs.size a ((xs.length:Int)-1-((0:Nat):Int)):=⟨_,aB _ rfl,rfl,by simp[revObj,hl]⟩
  refine wpAny_pyIter_revIter hit ?_;refine⟨s1.heap.objs.size,[s1.heap.objs.size],_,_,H1,rfl,I1.kept (t':=s1.toks) λb o e=>ao _ e,Xj a _ xs.length,⟨bP _,hit⟩,λb hb=>?_,q⟩;have e:b=s1.heap.objs.size:=by simpa using hb
  subst e;exact I1.pz (ai _) (I1.cu.fresh (ai _))
end L2
namespace ST
open PySem PyProof.Rows
section
variable{prog:Program}{w:World}{A:Around}{E:Value->Shared->Prop}{s:Shared}{a:Addr}
theorem Y'{T:String}{o:Obj}{items:Array Value}{n:Nat}{ns:List Int}(hT:T="list"\/T="tuple")(ho:s.heap.get? a=some o)(hc:o.cls=.type T)(hd:o.data=.seq items n)(hI:IntsAre items.toList ns)(xt:ns.length<=10000){Q:Value->Shared->Prop}(h:∀(h1:Heap) (vs:List Value) (kh:List Int) e h',(∀b o',s.heap.get? b=some o'->h1.get? b=some o')->IntsAre vs kh->kh.Perm ns->kh.Pairwise (·<=·)->h'.get? h1.objs.size=some (seqObj "list" vs.toArray e)->(∀c o,h1.get? c=some o->h'.get? c=some o)->Q (.ref h1.objs.size) { s with heap:=h' }) :
  wpAny (model prog w) A (call (.builtin "sorted") [.ref a]) Q E s:=by
 have hl:items.toList.length=ns.length:=yz hI;refine Ej kind_sorted plain_sorted entry_sorted (args_sorted1 _) ?_;refine ab (m:=checkCount "sorted" 1 1 _) (au ?_);refine ab (wpAny_collect_seq (A:=A.in1) a hT ho hc hd (λh1 kp=>?_) (by simp at hl;unfold sizeLine;omega));have xg:items.toList.length<=100000:=by omega
 generalize items.toList=vs at *;refine ab (KP (s:={ s with heap:=h1 }) ?_);have nX:(h1.push (seqObj "list" vs.toArray 0)).get? h1.objs.size=some (seqObj "list" vs.toArray 0):=aB _ rfl;refine ab (cz (de (s:={ s with heap:=h1.push (seqObj "list" vs.toArray 0) }) slot_list_sort ⟨_,nX,rfl⟩ entry_list_sort (TS.JR nX hI xg λout kh a1 a2 a3=>⟨_,rfl,?_⟩) (args_list_sort _)));obtain⟨e,kB⟩:=sortedHeap_at (vs:=vs) (out:=out) nX;refine au ⟨_,rfl,h h1 out.toList kh e _ kp a1 a2 a3 kB (λc o' e'=>?_)⟩;have hc:=aA e';rw[sortedHeap_old (aM hc) (by rw[size_push'];exact kH hc)];exact ao _ e'
end
end ST
namespace L2
open PySem PyProof.Rows
def K1(ns:List Int):List Int:=ns.mergeSort (λa b=>decide (a<=b))
theorem HQ(ns:List Int):(K1 ns).Pairwise (·<=·):=by
 have:=rq (le:=λa b:Int=>decide (a<=b)) (λa b c h1 h2=>by simp at *;omega) (λa b=>by simp;omega) ns;exact this.imp λh=>by simpa using h
theorem Z8(ns:List Int):(K1 ns).Perm ns:=Ec _ _
section
variable{X:Cx}
theorem WR:n4 X (.builtin "sorted") (λxs H Q=>∃p,∃ns:List Int,xs=[.ref p]/\(fO X.K H p (ns.map V.int)\/jU X.K H p (ns.map V.int))/\ns.length<=10000/\∀l,H l=none->Q (.ref l) (upd H l (.lst ((K1 ns).map V.int)))):=by
 intro pins s U H xs us Q I r h;obtain⟨p,ns,rfl,hq,hl,q⟩:=h;obtain⟨u,rfl,rx⟩:=vals1 r;cases rx;obtain⟨T,bp,o,n,hT,r',ho,hc,hd⟩:∃T,∃(bp:List Value) (o:Obj) (n:Nat),(T="list"\/T="tuple")/\Vals (ns.map V.int) bp/\s.heap.get? p=some o/\o.cls=.type T/\o.data=.seq bp.toArray n:=by
  rcases hq with hq|hq
  ·obtain⟨bp,r',pl,_⟩:=I.list hq;obtain⟨o,ho,hc,n,hd⟩:=pl.isList;exact⟨_,bp,o,n,.inl rfl,r',ho,hc,hd⟩
  ·obtain⟨bp,r',⟨o,ho,hc,n,hd⟩,_⟩:=I.tuple hq;exact⟨_,bp,o,n,.inr rfl,r',ho,hc,hd⟩
 refine ST.Y' hT ho hc hd (J7 r') hl λh1 vs kh e h' kp i1 i2 i3 i4 i5=>?_;have e1:kh=K1 ns:=Co (i2.trans (Z8 ns).symm) i3 (HQ ns);subst e1;have I1:Inv X pins U H { s with heap:=h1 }:=I.kept (t':=s.toks) kp;have hz:(K1 ns).length<=10000:=by rw[(Z8 ns).length_eq];exact hl
 exact⟨.ref h1.objs.size,_,(I1.laid (a:=h1.objs.size) (o:=.lst ((K1 ns).map V.int)) (t':=s.toks) i5 (ai _) ⟨by rw[ak];exact aD hz ∅,vs,e,HS i1,i4⟩),rfl,q _ (I1.cu.fresh (ai _))⟩
theorem Hv:∀{ks:List Key} {l:List Value},l.length=ks.length->(∀(i:Nat) v,l[i]?=some v->∃k,ks[i]?=some k/\U8 k v=true)->Vals (ks.map kV) l
 |[],[],_,_=>.nil
 |k::ks,v::l,hl,h=>by
  obtain⟨k',e,hk⟩:=h 0 v rfl;cases e;refine .cons ?_ (Hv (by simpa using hl) λi v e=>h (i+1) v e);rcases u5 hk with⟨i,t,rfl,rfl⟩|⟨x,t,rfl,rfl⟩<;>exact⟨t,rfl⟩
theorem WQ(hc:X.calm=true):n4 X (.type "list") (λxs H Q=>∃a kvs,xs=[.ref a]/\H a=some (.dK kvs)/\kvs.length<=10000/\∀p,H p=none->Q (.ref p) (upd H p (.lst ((kvs.map (·.1)).map kV)))):=by
 intro pins s U H xs us Q I r h;obtain⟨a,kvs,rfl,ha,hl,q⟩:=h;obtain⟨u,rfl,rx⟩:=vals1 r;cases rx;obtain⟨_,hd,vs,kv,hD⟩:=Kc I.cu ha;obtain⟨ep,hA⟩:=hD.dictAt;have xg:vs.length<=10000:=by rw[<- kv.length];exact hl
 refine PySem.W.kdl_call (PySem.W.kdl_dict (kvs:=vs) (ep:=ep) hd) (I.ok.hd hc) hA (aD xg ∅) λh' tk acc c k1 k2 k3=>?_;have hv:Vals ((kvs.map (·.1)).map kV) acc.toList:=by
  refine Hv (by rw[cc,k3.1,ak,kv.length]) λi v e=>?_;obtain⟨k,x,e1,e2⟩:=k3.2 i v (by simpa using e);exact⟨k,by rw[kv.keys,ae,e1];rfl,e2⟩
 exact⟨.ref s.heap.objs.size,_,(I.laid (a:=s.heap.objs.size) (o:=.lst ((kvs.map (·.1)).map kV)) (t':=tk) k1 (ai _) ⟨by rw[ak,ak];exact aD hl ∅,acc.toList,c,hv,by simpa using k2⟩),rfl,q _ (I.cu.fresh (ai _))⟩
end
end L2
namespace ST
open PySem PyProof.Rows
end ST
namespace L2
open PySem PyProof.Rows
section
variable{X:Cx}
theorem TX{h:Heap}{a:Addr}{ns:List Int}(x:ST.v8 X.prog X.w h a (ST.i7 [] ns)):h.SetOf (intKind X.prog X.w) a (λk=>decide (k∈ns)) (ST.i7 [] ns).length:=by
 obtain⟨o,es,ep,t,ho,hx,hd,mY,hp,hn,hb,hf,hw⟩:=x;refine⟨o,es,ep,t,ho,hx,hd,mY,λk=>?_,hb,hf,by rw[<- hp.length_eq];simp⟩;have mem:k∈ns↔k∈es.toList.map λe=>ST.toI e.2:=by rw[hp.mem_iff,ST.Q5];simp
 rw[dO,mem];constructor
 ·intro z;obtain⟨e,he,rfl⟩:=aU.mp z;obtain⟨tk,h1,_⟩:=ST.yn mY he;refine⟨e,he,?_⟩;rw[h1];exact eT _ _ _ _
 ·rintro⟨e,he,z⟩;obtain⟨tk,h1,_⟩:=ST.yn mY he;refine aU.mpr ⟨e,he,?_⟩;have h2:(intKind X.prog X.w).is (ST.toI e.2) e.2=true:=by rw[h1];exact eT _ _ _ _
  exact(intKind X.prog X.w).inj _ _ _ h2 z
theorem WC(hc:X.calm=true):n4 X (.type "set") (λxs H Q=>∃a ns,xs=[.ref a]/\fO X.K H a (ns.map V.int)/\ns.length<600/\∀p,H p=none->Q (.ref p) (upd H p (.set (λk=>decide (k∈ns)) (ST.i7 [] ns).length))):=by
 intro pins s U H xs us Q I r h;obtain⟨a,ns,rfl,hq,hl,q⟩:=h;cases r with
 |cons r rr =>
 cases rr;cases r;obtain⟨bp,rv,p,hz⟩:=I.list hq;have hI:=J7 rv;have hlen:=ST.yz hI;refine ST.JA (ns:=ns) (I.ok.hd hc) (.inl p.isList) (by simpa using hI) (by rw[aW,hlen];exact ay (Nat.succ_lt_succ hl) ∅) λh' tk hS hk _=>?_;exact⟨.ref _,_,I.laid (a:=s.heap.objs.size) (o:=.set (λk=>decide (k∈ns)) (ST.i7 [] ns).length) (t':=tk) hk (ai _) (TX hS),rfl,q _ (I.cu.fresh (ai _))⟩
end
end L2
namespace L2
open PySem PySem.Spec PyProof.Rows
variable{prog:Program}{w:World}{A:Around}{s:Shared}{X:Cx}
theorem Y6{P:Program}{k:Key}{u:Value}(h:(u4 P w).is k u=true):RelV (kV k) u:=by
 rw[YQ] at h;rcases u5 h with⟨j,t,e1,e2⟩|⟨x,t,e1,e2⟩
 ·subst e1 e2;exact⟨t,rfl⟩
 ·subst e1 e2;exact⟨t,rfl⟩
theorem KV.at{kvs:List (Key×V)}{vs:List (Key×Value)}(r:KV kvs vs):∀{i:Nat} {k:Key} {x:V},kvs[i]?=some (k,x)->∃u,vs[i]?=some (k,u)/\RelV x u:=by
 unfold KV at r
 induction r with
 |nil=>intro i k x h;simp at h
 |cons h r ih =>
  intro i k x e;cases i with
  |zero =>
   simp at e;subst e;obtain⟨h1,h2⟩:=h;exact ⟨_,by
    show some _=some (k,_);have AM:k=_:=h1;rw [AM],h2⟩
  |succ i=>simpa using ih (by simpa using e)
end L2
namespace M
open PySem L2
set_option genInjectivity true in
inductive D where
 |bO|bl (b:Bool)|int (i:Int)|str (x:Str)|ty (n:String)|ref (i:Nat)|tup (l:List D)
set_option genInjectivity true in
inductive O where
 |lst (l:List D)|oi (l:List D)
 |cY (kvs:List (Key×D))
 |ins (c:Str) (fs:List (Str×D))
 |set (S:Int->Bool) (n:Nat)
def O.mut:O->Bool
 |.oi _=>false
 |_=>true
def W0:D->Option Key
 |.int i=>some (.inl i)
 |.str x=>some (.inr x)
 |_=>none
def p9(kvs:List (Key×D))(k:Key):Option D:=(kvs.find? λkv=>decide (kv.1=k)).map (·.2)
def putD(kvs:List (Key×D))(k:Key)(v:D):List (Key×D) :=
 if(kvs.any λkv=>decide (kv.1=k))=true then kvs.map (λkv=>if kv.1=k then(kv.1,v) else kv) else kvs++[(k,v)]
def l9(f:Str)(v:D):List (Str×D)->List (Str×D)
 |[]=>[(f,v)]
 |(g,x)::r=>if g=f then(g,v)::r else(g,x)::l9 f v r
def O3:List D->Str->Option D
 |.tup [.str y,v]::r,x=>if x=y then some v else O3 r x
 |_::_,_=>none
 |[],_=>none
def Kj:List D->Option Str
 |[]=>some Str.empty
 |.str x::r=>(Kj r).map λy=>x++y
 |_=>none
structure Xn where
 cls:Str
noncomputable abbrev G:=List O
noncomputable abbrev S:=List (Option D)
noncomputable abbrev KD:=D->G->Prop
noncomputable abbrev KX:=Xn->G->Prop
noncomputable abbrev ik:KX:=λ_ _=>False
def Dt:Option O->Option (List D)
 |some (.lst l)=>some l
 |some (.oi l)=>some l
 |_=>none
noncomputable abbrev d0(g:G)(a:Nat):Option (List D):=Dt g[a]?
def rd(g:G):Nat->D->Option PyData
 |_,.bO=>some .none
 |_,.bl b=>some (.bool b)
 |_,.int i=>some (.int i)
 |_,.str x=>some (.str x)
 |_,.ty _=>none
 |0,.ref _=>none
 |0,.tup _=>none
 |n+1,.ref a=>match d0 g a with
  |some l=>(l.mapM (rd g n)).map .list
  |none=>none
 |n+1,.tup l=>(l.mapM (rd g n)).map .tuple
def Lw(g:G)(l:List D):Option (List PyData):=l.mapM (rd g 6)
def F9(g:G):D->Option (List D)
 |.tup l=>some l
 |.ref a=>d0 g a
 |_=>none
def O4:D->Bool
 |.bO=>true
 |_=>false
def cut{α:Type}(xs:List α)(lo hi:Option Int):List α:=(xs.drop (HT.ke xs.length 0 lo)).take (HT.ke xs.length xs.length hi-HT.ke xs.length 0 lo)
def qX(g:G)(x:D)(c:String):Option Bool:=match x with
 |.bO=>some (c=="NoneType")
 |.bl _=>some (c=="bool"||c=="int")
 |.int _=>some (c=="int")
 |.str _=>some (c=="str")
 |.tup _=>some (c=="tuple")
 |.ref a=>match g[a]? with
  |some (.lst _)=>some (c=="list")
  |_=>none
 |.ty _=>none
def i8(lo:Int)(n:Nat):List D:=(List.range n).map λ(k:Nat)=>.int (lo+k)
def V2:List D->Option Bool
 |[]=>some true
 |.bl b::r=>(V2 r).map λc=>b&&c
 |_=>none
inductive Pr where
 |bin (op:Operator)|un (op:UnaryOp)|cmp (op:CmpOp)
 |ix|rD (lo hi:Bool)|rev|tup|lst|P5
 |len|list|tuple|isin|all|max|min|int|str|jb|kl|sset|Lq|vt
 |NQ|AO|nj|fv|AR|fld (f:Str)
 |append|pop|get|index|join|iadd|clear|zq|extend|any|jC|sum|pB|mP|kc|pX|Bc|vp|ka (i:Int)
noncomputable abbrev DR:=List D->G->D->G->Prop
def WS:Operator->Int->Int->Int->Prop
 |.Add,i,j,r=>r=i+j
 |.Sub,i,j,r=>r=i-j
 |.Mult,i,j,r=>qS i j/\r=i*j
 |.FloorDiv,i,j,r=>DD i j/\r=i / j
 |.Mod,i,j,r=>0<j/\r=i % j
 |.Pow,i,j,r=>oy i j/\r=i ^ j.toNat
 |.LShift,i,j,r=>oy i j/\r=i*2 ^ j.toNat
 |.BitAnd,i,j,r=>r=Builtin.bitAnd i j
 |.BitOr,i,j,r=>r=Builtin.bitOr i j
 |_,_,_,_=>False
def Uw(op:Operator):DR:=λxs g d g' =>
 (∃i j r,xs=[.int i,.int j]/\WS op i j r/\d=.int r/\g'=g) \/
 (op=.Add/\((∃ a b l m,xs=[.ref a,.ref b]/\g[a]?=some (.lst l)/\g[b]?=some (.lst m)/\l.length + m.length <= 100000/\d=.ref g.length/\g'=g ++ [.lst (l ++ m)]) \/
  False))
def Lh(op:UnaryOp):DR:=λxs g d g'=>op=.USub/\∃i,xs=[.int i]/\d=.int (-i)/\g'=g
def vm(g:G)(x y:D)(b:Bool):Prop :=
 (∃i j,x=.int i/\y=.int j/\b=decide (i=j))\/(∃i j,x=.bl i/\y=.bl j/\b=(i==j))\/(∃i j,x=.str i/\y=.str j/\b=decide (i=j)) \/
 ∃p q,rd g 6 x=some p/\rd g 6 y=some q/\p.canLay0=true/\q.canLay0=true/\b=PyData.eqv p q
def inR(g:G)(x y:D)(b:Bool):Prop :=
 (∃a kvs c,y=.ref a/\g[a]?=some (.cY kvs)/\W0 x=some c/\b=(p9 kvs c).isSome) \/
 ∃l ps p,F9 g y=some l/\Lw g l=some ps/\rd g 6 x=some p/\PyData.canLayAll0 ps=true/\p.canLay0=true/\b=(ps.any λq=>PyData.eqv q p)
def GQ(g:G)(x y:D)(b:Bool):Prop:=∃a S n i,y=.ref a/\g[a]?=some (.set S n)/\x=.int i/\b=S i
def Gz(g:G)(x y:D)(b:Bool):CmpOp->Prop
 |.Eq=>vm g x y b
 |.NotEq=>vm g x y (!b)
 |.In=>inR g x y b\/GQ g x y b
 |.NotIn=>inR g x y (!b)\/GQ g x y (!b)
 |.Lt=>∃i j,x=.int i/\y=.int j/\b=decide (i<j)
 |.LtE=>∃i j,x=.int i/\y=.int j/\b=decide (i<=j)
 |.Gt=>∃i j,x=.int i/\y=.int j/\b=decide (j<i)
 |.GtE=>∃i j,x=.int i/\y=.int j/\b=decide (j<=i)
 |.Is=>y=.bO/\b=O4 x
 |.IsNot=>y=.bO/\b=!O4 x
def UB(op:CmpOp):DR:=λxs g d g'=>∃x y b,xs=[x,y]/\Gz g x y b op/\d=.bl b/\g'=g
def GS(g:G)(x:D)(b:Bool):Prop :=
 False\/x=.bl b\/(∃i,x=.int i/\b=(i != 0))\/False
def Mc:DR:=λxs g d g'=>g'=g/\((∃x l i,xs=[x,.int i]/\F9 g x=some l/\gk l i=some d)\/(∃a kvs y c,xs=[.ref a,y]/\g[a]?=some (.cY kvs)/\W0 y=some c/\p9 kvs c=some d) \/
 False)
def tX(x:D)(lo hi:Option Int)(g:G)(d:D)(g':G):Prop:=False\/∃a l,x=.ref a/\d0 g a=some l/\d=.ref g.length/\g'=g++[.lst (cut l lo hi)]
def Vk:Bool->Bool->DR
 |false,false,xs,g,d,g'=>∃x,xs=[x]/\tX x none none g d g'
 |true,false,xs,g,d,g'=>∃x i,xs=[x,.int i]/\tX x (some i) none g d g'
 |false,true,xs,g,d,g'=>∃x j,xs=[x,.int j]/\tX x none (some j) g d g'
 |true,true,xs,g,d,g'=>∃x i j,xs=[x,.int i,.int j]/\tX x (some i) (some j) g d g'
def Vf:DR:=λxs g d g'=>(∃l,xs=[.tup l]/\d=.tup l.reverse/\g'=g)\/∃a l,xs=[.ref a]/\d0 g a=some l/\d=.ref g.length/\g'=g++[.lst l.reverse]
def VE:DR:=λxs g d g'=>xs.length<=1000/\d=.tup xs/\g'=g
def UP:DR:=λxs g d g'=>xs.length<=1000/\d=.ref g.length/\g'=g++[.lst xs]
def GA:List D->List (Key×D)->Option (List (Key×D))
 |[],kvs=>some kvs
 |k::v::r,kvs=>(W0 k).bind λc=>GA r (putD kvs c v)
 |_,_=>none
def VZ:DR:=λxs g d g'=>xs=[]/\d=.ref g.length/\g'=g++[.cY []]
def UN:DR:=λxs g d g'=>g'=g/\((∃x l,xs=[x]/\F9 g x=some l/\d=.int l.length)\/False\/False)
def kD:Key->D
 |.inl i=>.int i
 |.inr x=>.str x
def Wt:DR:=λxs g d g'=>(∃x l,xs=[x]/\F9 g x=some l/\d=.ref g.length/\g'=g++[.lst l])\/∃a kvs,xs=[.ref a]/\g[a]?=some (.cY kvs)/\kvs.length<=10000/\d=.ref g.length/\g'=g++[.lst ((kvs.map (·.1)).map kD)]
def RZ:DR:=λxs g d g'=>∃x l,xs=[x]/\F9 g x=some l/\d=.tup l/\g'=g
def Wi:DR:=λxs g d g'=>∃x c b,xs=[x,.ty c]/\c∈["int","bool","str","tuple","list"]/\qX g x c=some b/\d=.bl b/\g'=g
def allR:DR:=λxs g d g'=>∃a l b,xs=[.ref a]/\d0 g a=some l/\(V2 l=some b\/∃ns:List Int,l=ns.map .int/\b=ns.all λn=>n != 0)/\d=.bl b/\g'=g
def JW:List D->Option Bool
 |[]=>some false
 |.bl b::r=>(JW r).map λc=>b||c
 |_=>none
def anyR:DR:=λxs g d g'=>∃a l b,xs=[.ref a]/\d0 g a=some l/\JW l=some b/\d=.bl b/\g'=g
def RD:DR:=λxs g d g'=>False\/∃x,∃ns:List Int,xs=[x]/\F9 g x=some (ns.map .int)/\ns.length<=10000/\d=.ref g.length/\g'=g++[.lst ((K1 ns).map .int)]
def UQ:DR:=λxs g d g'=>g'=g/\((∃i j,xs=[.int i,.int j]/\d=.int (if j>i then j else i))\/∃a,∃(ns:List Int) (M:Int),xs=[.ref a]/\d0 g a=some (ns.map .int)/\M∈ns/\(∀x∈ns,x<=M)/\d=.int M)
def UR:DR:=λxs g d g'=>g'=g/\((∃i j,xs=[.int i,.int j]/\d=.int (if j<i then j else i))\/False)
def OW:DR:=λxs g d g'=>∃a i S n,xs=[.ref a,.int i]/\g[a]?=some (.set S n)/\n+1<4096/\d=.bO/\g'=g.set a (.set (λk=>S k||decide (k=i)) (if S i then n else n+1))
def Ws:DR:=λxs g d g'=>∃a,∃ns:List Int,xs=[.ref a]/\d0 g a=some (ns.map .int)/\ns.length<600/\d=.ref g.length/\g'=g++[.set (λk=>decide (k∈ns)) (ST.i7 [] ns).length]
def Rm(i:Int):DR:=λxs g d g'=>xs=[]/\d=.ref g.length/\g'=g++[.set (λk=>decide (k=i)) 1]
def Vm:DR:=λxs g d g'=>∃a,∃ns:List Int,xs=[.ref a]/\d0 g a=some (ns.map .int)/\d=.int ns.sum/\g'=g
def Wu:DR:=λxs g d g'=>∃a,∃ns:List Int,xs=[.ref a]/\d0 g a=some (ns.map .int)/\ns.length<60/\d=.int (ST.i7 [] ns).length/\g'=g
def Wj:DR:=λxs g d g'=>∃i j,xs=[.int i,.int j]/\d=.int (i-j)/\g'=g
def UL:DR:=λxs g d g'=>g'=g/\((∃i,xs=[.int i]/\d=.int i)\/∃b,xs=[.bl b]/\d=.int (if b then 1 else 0))
def Vl:DR:=λxs g d g'=>(∃i,xs=[.int i]/\i.natAbs.log2<1920/\d=.str (toString i)/\g'=g)\/∃x,xs=[.str x]/\d=.str x/\g'=g
def Qk:DR:=λxs g d g'=>∃j,xs=[.int j]/\-(2 ^ 62)<=j/\j<=100000/\d=.ref g.length/\g'=g++[.lst (i8 0 j.toNat)]
def Ql:DR:=λxs g d g'=>∃i j,xs=[.int i,.int j]/\(-(2 ^ 62)<=i/\i<2 ^ 62/\-(2 ^ 62)<=j/\j<2 ^ 62/\j-i<=100000)/\d=.ref g.length/\g'=g++[.lst (i8 i (j-i).toNat)]
def OZ:DR:=λxs g d g'=>∃a ns,xs=[.ref a]/\d0 g a=some (ns.map .int)/\ns.length<600/\d=.ref g.length/\g'=g++[.lst ((p6 ns).map .int)]
def Vn:DR:=λxs g d g'=>∃ns ms:List Int,xs=[.tup (ns.map .int),.tup (ms.map .int)]/\(∀k∈ns,ST.Spot k)/\(∀k∈ms,ST.Spot k)/\ns.length+ms.length<50/\d=.ref g.length/\g'=g++[.lst ((p6 (ns++ms)).map .int)]
def GG(neg:Bool):DR:=λxs g d g'=>∃kvs x,xs=[.tup kvs,.str x]/\d=.bl (xor neg (O3 kvs x).isSome)/\g'=g
def Wd:DR:=λxs g d g'=>∃kvs x,xs=[.tup kvs,.str x]/\O3 kvs x=some d/\g'=g
def NV:DR:=λxs g d g'=>g'=g/\((∃i,xs=[.int i]/\i.natAbs.log2<1920/\d=.str (toString i))\/∃x,xs=[.str x]/\x.length<=2000/\d=.str x)
def Wc:DR:=λxs g d g'=>∃x,Kj xs=some x/\d=.str x/\g'=g
def UG(f:Str):DR:=λxs g d g'=>∃a c fs,xs=[.ref a]/\g[a]?=some (.ins c fs)/\fs.lookup f=some d/\g'=g
def appendR:DR:=λxs g d g'=>∃a y l,xs=[.ref a,y]/\g[a]?=some (.lst l)/\l.length<100000/\d=.bO/\g'=g.set a (.lst (l++[y]))
def U':DR:=λxs g d g'=>∃a i l k,xs=[.ref a,.int i]/\g[a]?=some (.lst l)/\-(2 ^ 63)<=i/\i<2 ^ 63/\seqIndex? i l.length=some k/\l[k]?=some d/\g'=g.set a (.lst (l.eraseIdx k))
def UJ:DR:=λxs g d g'=>∃a y z kvs c,xs=[.ref a,y,z]/\g[a]?=some (.cY kvs)/\W0 y=some c/\d=(p9 kvs c).getD z/\g'=g
def Ke:D->Bool
 |.bO=>true
 |.bl _=>true
 |.int _=>true
 |.str _=>true
 |_=>false
def toV:D->V
 |.bl b=>.bl b
 |.int i=>.int i
 |.str x=>.str x
 |_=>.bO
def Pw(l:List D)(y:D)(n:Nat):Prop:=l.all Ke=true/\Ke y=true/\(∃z,l[n]?=some z/\Gj (toV z) (toV y)=true)/\∀(m:Nat) z,m<n->l[m]?=some z->Gj (toV z) (toV y)=false
def PX:DR:=λxs g d g'=>∃x y l n,xs=[x,y]/\F9 g x=some l/\Pw l y n/\l.length<=100000/\d=.int n/\g'=g
def joinR:DR:=λxs g d g'=>∃sep a ys,xs=[.str sep,.ref a]/\d0 g a=some (ys.map .str)/\SF sep ys<=100000/\d=.str (Builtin.Str.glued sep ys)/\g'=g
def Wg:DR:=λxs g d g'=>(∃i j,xs=[.int i,.int j]/\d=.int (i+j)/\g'=g)\/False
def PH:DR:=λxs g d g'=>∃a l,xs=[.ref a]/\g[a]?=some (.lst l)/\d=.bO/\g'=g.set a (.lst [])
def OP:DR:=λxs g d g'=>∃a l,xs=[.ref a]/\g[a]?=some (.lst (l++[d]))/\g'=g.set a (.lst l)
def Ss:DR:=λxs g d g'=>∃a b l m,xs=[.ref a,.ref b]/\g[a]?=some (.lst l)/\g[b]?=some (.lst m)/\l.length+m.length<=100000/\d=.bO/\g'=g.set a (.lst (l++m))
def PL:DR:=λxs g d g'=>False\/∃a,∃ks:List Int,xs=[.ref a]/\d0 g a=some (ks.map λk=>.tup [.int k,.bl true])/\ks.length<=1000/\ks.Nodup/\d=.ref g.length/\g'=g++[.cY (ks.map λk=>(.inl k,.bl true))]
def nJ(p:Key×Int×Int):Key×D:=(p.1,.tup [.int p.2.1,.int p.2.2])
def Wr(n:Int)(p:Key×Int×Int):Bool:=!(decide (p.2.1=n)||decide (p.2.2=n))
def VY:DR:=λxs g d g'=>∃a n,∃fs:List (Key×Int×Int),xs=[.ref a,.int n]/\g[a]?=some (.cY (fs.map nJ))/\fs.length<1000/\(fs.map (·.1)).Nodup/\d=.ref g.length/\g'=g++[.cY ((fs.filter (Wr n)).map nJ)]
def delD(kvs:List (Key×D))(k:Key):List (Key×D):=kvs.filter λkv=>decide (kv.1≠k)
def V':DR:=λxs g d g'=>∃a y kvs c,xs=[.ref a,y]/\g[a]?=some (.cY kvs)/\W0 y=some c/\p9 kvs c=some d/\g'=g.set a (.cY (delD kvs c))
def PR:Pr->DR
 |.Bc=>VY
 |.vp=>V'
 |.clear=>PH
 |.any=>anyR
 |.sum=>Vm
 |.kc=>OW
 |.pX=>Ws
 |.ka i=>Rm i
 |.pB=>Wu
 |.mP=>Wj
 |.jC=>RD
 |.extend=>Ss
 |.zq=>OP
 |.vt=>PL
 |.bin op=>Uw op
 |.un op=>Lh op
 |.cmp op=>UB op
 |.ix=>Mc
 |.rD a b=>Vk a b
 |.rev=>Vf
 |.tup=>VE
 |.lst=>UP
 |.P5=>VZ
 |.len=>UN
 |.list=>Wt
 |.tuple=>RZ
 |.isin=>Wi
 |.all=>allR
 |.max=>UQ
 |.min=>UR
 |.int=>UL
 |.str=>Vl
 |.jb=>Qk
 |.kl=>Ql
 |.sset=>OZ
 |.Lq=>Vn
 |.NQ=>GG false
 |.AO=>GG true
 |.nj=>Wd
 |.fv=>NV
 |.AR=>Wc
 |.fld f=>UG f
 |.append=>appendR
 |.pop=>U'
 |.get=>UJ
 |.index=>PX
 |.join=>joinR
 |.iadd=>Wg
def cP(p:Pr)(xs:List D)(g:G)(Q:KD):Prop:=∃d g',PR p xs g d g'/\Q d g'
def su(g:G)(x y:D)(k:Bool->Prop):Prop:=∃b,vm g x y b/\k b
def pZ(g:G)(x y:D)(k:Bool->Prop):Prop:=∃b,inR g x y b/\k b
def pC(g:G)(x:D)(k:Bool->Prop):Prop:=∃b,GS g x b/\k b
def Vi(x y v:D)(g g':G):Prop:=(∃a i l j,x=.ref a/\y=.int i/\g[a]?=some (.lst l)/\kR l.length i=some j/\g'=g.set a (.lst (l.set j v))) \/
 ∃a kvs c,x=.ref a/\g[a]?=some (.cY kvs)/\W0 y=some c/\kvs.length<100000/\g'=g.set a (.cY (putD kvs c v))
def V3(x y v:D)(g:G)(k:G->Prop):Prop:=∃g',Vi x y v g g'/\k g'
def Ks(f:Str)(cs:List Str)(x v:D)(g g':G):Prop:=∃a c fs,x=.ref a/\g[a]?=some (.ins c fs)/\c∈cs/\fs.length<100/\g'=g.set a (.ins c (l9 f v fs))
def vN(f:Str)(cs:List Str)(x v:D)(g:G)(k:G->Prop):Prop:=∃g',Ks f cs x v g g'/\k g'
def mr:Pr->D->G->Prop
 |.get,x,g=>∃a kvs,x=.ref a/\g[a]?=some (.cY kvs)
 |.vp,x,g=>∃a kvs,x=.ref a/\g[a]?=some (.cY kvs)
 |.join,x,g=>∃y,x=.str y
 |.kc,x,g=>∃a S n,x=.ref a/\g[a]?=some (.set S n)
 |.index,x,g=>∃a l,x=.ref a/\d0 g a=some l
 |_,x,g=>∃a l,x=.ref a/\d0 g a=some l
inductive IK where
 |fix (l:List D)|lst (a:Nat)|ow (a:Nat)|rF (a n:Nat)
def IK.at:IK->Nat->G->Option (Option D)
 |.fix l,i,_=>some l[i]?
 |.lst a,i,g=>match d0 g a with
  |some l=>some l[i]?
  |none=>none
 |.ow a,i,g=>match d0 g a with
  |some l=>some (l[i]?.map λd=>.tup [.int i,d])
  |none=>none
 |.rF a n,i,g=>match d0 g a with
  |some l=>if l.length=n then some (if i<n then l[n-1-i]? else none) else none
  |none=>none
inductive MT where
 |one (i:Nat)|many (is:List Nat)
def O5:List Nat->List D->S->Option S
 |[],[],U=>some U
 |i::is,d::ds,U=>O5 is ds (U.set i (some d))
 |_,_,_=>none
def jq(t:MT)(x:D)(U:S)(k:S->Prop):Prop:=match t with
 |.one i=>k (U.set i (some x))
 |.many is=>∃l bZ,x=.tup l/\O5 is l U=some bZ/\k bZ
set_option genInjectivity false in
set_option genSizeOf false in
inductive ME where
 |var (i:Nat)|lit (d:D)
 |nil|cons (a b:ME)|prim (p:Pr) (es:ME)|eE (p:Pr) (o es:ME)|vq (es:ME)
 |chain (o1 o2:CmpOp) (a b c:ME)
 |dE (a b:ME)|jK (a b:ME)|eP (a:ME)|ite (c a b:ME)
 |call (f:Nat) (es:ME)|make (c:Str) (f:Nat) (es:ME)|ki (m:Str) (cs:List (Str×Nat)) (o es:ME)
 |comp (d4:List Nat) (n:Nat) (tg:MT) (it cond elt:ME)|gX (d4:List Nat) (n:Nat) (tg:MT) (it cond elt:ME)|kf (d4:List Nat) (n:Nat) (tg:MT) (it cond elt:ME)
 |fc (e:ME)|dW (a:ME)|ko (a b:ME)|kS (e:ME)|nD (e:ME)|fR (e:ME)|no
noncomputable abbrev fu:=Nat->List D->G->KD->KX->Prop
def E3(U:S)(d4:List Nat)(n:Nat):S:=d4.map (λj=>(U[j]?).join)++List.replicate (n-d4.length) none
def turns(k:IK)(U:S)(g:G)(fin:S->G->Prop)(turn:D->(S->G->Prop)->S->G->Prop):Prop :=
 ∃W:Nat->Nat->S->G->Prop,(∃m,W 0 m U g)/\∀i m U g,W i m U g->(k.at i g=some none/\fin U g)\/∃x,k.at i g=some (some x)/\∃N2:S->G->Prop,(∀bZ g',N2 bZ g'->∃m',m'<m/\W (i+1) m' bZ g')/\turn x N2 U g
def yi(k:IK)(U:S)(g:G)(fin:List D->G->Prop)(turn:D->(Option D->S->G->Prop)->S->G->Prop):Prop :=
 ∃W:Nat->Nat->List D->S->G->Prop,(∃m,W 0 m [] U g)/\∀i m ys U g,W i m ys U g->(k.at i g=some none/\fin ys g) \/
  ∃x,k.at i g=some (some x)/\ys.length<100000/\turn x (λy bZ g'=>∃m',m'<m/\W (i+1) m' (ys++y.toList) bZ g') U g
def Bo(k:IK)(U:S)(g:G)(fin:List Int->G->Prop)(turn:D->(Option Int->S->G->Prop)->S->G->Prop):Prop :=
 ∃W:Nat->Nat->List Int->S->G->Prop,(∃m,W 0 m [] U g)/\∀i m ys U g,W i m ys U g->(k.at i g=some none/\ys.length<60/\fin ys g) \/
  ∃x,k.at i g=some (some x)/\ys.length<60/\turn x (λy bZ g'=>∃m',m'<m/\W (i+1) m' (ys++y.toList) bZ g') U g
mutual
noncomputable def bo(P:fu):ME->S->G->KD->KX->Prop
 |.var i,U,g,Q,_=>∃d,U[i]?=some (some d)/\Q d g
 |.lit d,_,g,Q,_=>Q d g
 |.prim p es,U,g,Q,E=>gP P es U g (λxs g1=>cP p xs g1 Q) E
 |.eE p o es,U,g,Q,E=>bo P o U g (λx g1=>mr p x g1/\gP P es U g1 (λxs g2=>cP p (x::xs) g2 Q) E) E
 |.vq es,U,g,Q,E=>gP P es U (g++[.cY []]) (λxs g1=>∃kvs,GA xs []=some kvs/\xs.length<=30/\g1[g.length]?=some (.cY [])/\Q (.ref g.length) (g1.set g.length (.cY kvs))) E
 |.chain o1 o2 a b c,U,g,Q,E=>bo P a U g (λx g1=>bo P b U g1 (λy g2=>cP (.cmp o1) [x,y] g2 λz g3=>∃t,z=.bl t/\if t=true then bo P c U g3 (λw g4=>cP (.cmp o2) [y,w] g4 Q) E else Q (.bl false) g3) E) E
 |.dE a b,U,g,Q,E=>bo P a U g (λx g1=>∃t,x=.bl t/\if t=true then bo P b U g1 Q E else Q (.bl false) g1) E
 |.jK a b,U,g,Q,E=>bo P a U g (λx g1=>∃t,x=.bl t/\if t=true then Q (.bl true) g1 else bo P b U g1 Q E) E
 |.eP a,U,g,Q,E=>bo P a U g (λx g1=>∃t,x=.bl t/\Q (.bl (!t)) g1) E
 |.ite c a b,U,g,Q,E=>et P c U g (λt g1=>if t=true then bo P a U g1 Q E else bo P b U g1 Q E) E
 |.call f es,U,g,Q,E=>gP P es U g (λxs g1=>P f xs g1 Q E) E
 |.make c f es,U,g,Q,E=>gP P es U g (λxs g1=>P f (.ref g1.length::xs) (g1++[.ins c []]) (λd g2=>d=.bO/\Q (.ref g1.length) g2) E) E
 |.ki m cs o es,U,g,Q,E=>bo P o U g (λx g1=>∃a c fs f,x=.ref a/\g1[a]?=some (.ins c fs)/\fs.lookup m=none/\cs.lookup c=some f/\gP P es U g1 (λxs g2=>P f (x::xs) g2 Q E) E) E
 |.comp d4 n tg it cond elt,U,g,Q,E=>gI P it U g (λk g1=>yi k (E3 U d4 n) g1 (λys g=>Q (.ref g.length) (g++[.lst ys])) λx N U g=>jq tg x U λcC=>et P cond cC g (λb g3=>if b=true then bo P elt cC g3 (λy g4=>N (some y) cC g4) ik else N none cC g3) ik) E
 |.kf d4 n tg it cond elt,U,g,Q,E=>gI P it U g (λk g1=>yi k (E3 U d4 n) g1 (λys g=>Q (.ref g.length) (g++[.lst ys])) λx N U g=>jq tg x U λcC=>et P cond cC g (λb g3=>if b=true then bo P elt cC g3 (λy g4=>N (some y) cC g4) E else N none cC g3) ik) E
 |.gX d4 n tg it cond elt,U,g,Q,E=>gI P it U g (λk g1=>Bo k (E3 U d4 n) g1 (λys g=>Q (.ref g.length) (g++[.lst ((p6 ys).map .int)])) λx N U g=>jq tg x U λcC=>et P cond cC g (λb g3=>if b=true then bo P elt cC g3 (λy g4=>∃j,y=.int j/\N (some j) cC g4) ik else N none cC g3) ik) E
 |.nil,_,_,_,_=>False
 |.cons _ _,_,_,_,_=>False
 |.fc _,_,_,_,_=>False
 |.dW _,_,_,_,_=>False
 |.ko _ _,_,_,_,_=>False
 |.kS _,_,_,_,_=>False
 |.nD _,_,_,_,_=>False
 |.fR _,_,_,_,_=>False
 |.no,_,_,_,_=>False
noncomputable def gP(P:fu):ME->S->G->(List D->G->Prop)->KX->Prop
 |.nil,_,g,Q,_=>Q [] g
 |.cons a b,U,g,Q,E=>bo P a U g (λx g1=>gP P b U g1 (λxs g2=>Q (x::xs) g2) E) E
 |_,_,_,_,_=>False
noncomputable def et(P:fu):ME->S->G->(Bool->G->Prop)->KX->Prop
 |.dE a b,U,g,Q,E=>et P a U g (λt g1=>if t=true then et P b U g1 Q E else Q false g1) E
 |.jK a b,U,g,Q,E=>et P a U g (λt g1=>if t=true then Q true g1 else et P b U g1 Q E) E
 |.eP a,U,g,Q,E=>et P a U g (λt g1=>Q (!t) g1) E
 |.no,_,g,Q,_=>Q true g
 |.fR e,U,g,Q,E=>bo P e U g (λx g1=>pC g1 x λb=>Q b g1) E
 |_,_,_,_,_=>False
noncomputable def gI(P:fu):ME->S->G->(IK->G->Prop)->KX->Prop
 |.fc e,U,g,R,E=>bo P e U g (λx g1=>(∃l,x=.tup l/\R (.fix l) g1)\/∃a l,x=.ref a/\d0 g1 a=some l/\R (.lst a) g1) E
 |.dW a,U,g,R,E=>bo P a U g (λx g1=>∃j:Int,x=.int j/\-(2 ^ 62)<=j/\j<2 ^ 62/\R (.fix (i8 0 j.toNat)) g1) E
 |.ko a b,U,g,R,E=>bo P a U g (λx g1=>bo P b U g1 (λy g2=>∃i j:Int,x=.int i/\y=.int j/\(-(2 ^ 62)<=i/\i<2 ^ 62/\-(2 ^ 62)<=j/\j<2 ^ 62)/\R (.fix (i8 i (j-i).toNat)) g2) E) E
 |.kS e,U,g,R,E=>bo P e U g (λx g1=>∃a l,x=.ref a/\d0 g1 a=some l/\R (.ow a) g1) E
 |.nD e,U,g,R,E=>bo P e U g (λx g1=>∃a l,x=.ref a/\d0 g1 a=some l/\R (.rF a l.length) g1) E
 |_,_,_,_,_=>False
end
set_option genInjectivity false in
set_option genSizeOf false in
inductive MS where
 |pass|seq (a b:MS)|expr (e:ME)|set (i:Nat) (e:ME)|lK (t:MT) (e:ME)|dS (o i v:ME)|iz (f:Str) (cs:List Str) (o v:ME)
 |vI (f:Str) (cs:List Str) (o v:ME)|kx (i:Nat) (p:Pr) (v:ME)|wJ (o1 i1 o2 i2 e:ME)
 |ifs (c:ME) (a b:MS)|dC (t:MT) (it:ME) (b:MS)|jZ (c:ME) (b:MS)|ret (e:ME)|pP|brk|cont
 |raise (x:Str) (es:ME)|tR (b:MS) (hs:List (Str×ME))|tP (e:ME) (y:Str) (b:MS)
structure Ends where
 nx:S->G->Prop
 rt:KD
 bk:S->G->Prop:=λ_ _=>False
 ct:S->G->Prop:=λ_ _=>False
def tN(P:fu)(N:Ends)(U:S)(E:KX):List (Str×ME)->KX
 |[],x,g=>E x g
 |(y,e)::r,x,g=>if x.cls=y\/y="MintError" then bo P e U g N.rt ik else tN P N U E r x g
def wpS(P:fu):MS->Ends->S->G->KX->Prop
 |.pass,N,U,g,_=>N.nx U g
 |.seq a b,N,U,g,E=>wpS P a { N with nx:=λiL g1=>wpS P b N iL g1 E } U g E
 |.expr e,N,U,g,E=>bo P e U g (λ_ g1=>N.nx U g1) E
 |.set i e,N,U,g,E=>bo P e U g (λx g1=>N.nx (U.set i (some x)) g1) E
 |.lK t e,N,U,g,E=>bo P e U g (λx g1=>jq t x U λiL=>N.nx iL g1) E
 |.dS o i v,N,U,g,E=>bo P v U g (λx g1=>bo P o U g1 (λy g2=>bo P i U g2 (λz g3=>V3 y z x g3 λg4=>N.nx U g4) E) E) E
 |.iz f cs o v,N,U,g,E=>bo P v U g (λx g1=>bo P o U g1 (λy g2=>vN f cs y x g2 λg3=>N.nx U g3) E) E
 |.vI f cs o v,N,U,g,E=>bo P o U g (λy g1=>∃a c fs x,y=.ref a/\g1[a]?=some (.ins c fs)/\c∈cs/\fs.lookup f=some x/\bo P v U g1 (λz g3=>cP .iadd [x,z] g3 λw g4=>∃qK,g4[a]?=some (.ins c qK)/\qK.length<100/\N.nx U (g4.set a (.ins c (l9 f w qK)))) E) E
 |.wJ o1 i1 o2 i2 e,N,U,g,E=>bo P e U g (λx g1=>∃u v,x=.tup [u,v]/\bo P o1 U g1 (λy1 g2=>bo P i1 U g2 (λz1 g3=>V3 y1 z1 u g3 λg4=>bo P o2 U g4 (λy2 g5=>bo P i2 U g5 (λz2 g6=>V3 y2 z2 v g6 λg7=>N.nx U g7) E) E) E) E) E
 |.kx i p v,N,U,g,E=>∃x,U[i]?=some (some x)/\bo P v U g (λz g1=>cP p [x,z] g1 λw g2=>N.nx (U.set i (some w)) g2) E
 |.ifs c a b,N,U,g,E=>et P c U g (λt g1=>if t=true then wpS P a N U g1 E else wpS P b N U g1 E) E
 |.dC t it b,N,U,g,E=>gI P it U g (λk g1=>turns k U g1 N.nx λx N2 U g=>jq t x U λcC=>wpS P b { N with nx:=N2,ct:=N2,bk:=N.nx } cC g E) E
 |.jZ c b,N,U,g,E=>∃W:Nat->S->G->Prop,(∃m,W m U g)/\∀m U g,W m U g->et P c U g (λt g1=>if t=true then ∃N2:S->G->Prop,(∀bZ g',N2 bZ g'->∃m',m'<m/\W m' bZ g')/\wpS P b { N with nx:=N2,ct:=N2,bk:=N.nx } U g1 E else N.nx U g1) E
 |.ret e,N,U,g,E=>bo P e U g N.rt E
 |.pP,N,_,g,_=>N.rt .bO g
 |.brk,N,U,g,_=>N.bk U g
 |.cont,N,U,g,_=>N.ct U g
 |.raise x es,_,U,g,E=>gP P es U g (λvs g1=>vs.length<=1000/\E ⟨x⟩ g1) E
 |.tR b hs,N,U,g,E=>wpS P b N U g (tN P N (U.map λ_=>none) E hs)
 |.tP e y b,N,U,g,E=>bo P e U g (λ_ g1=>N.nx U g1) λx g1=>if x.cls=y\/y="MintError" then wpS P b N U g1 ik else E x g1
structure ba where
 ar:Nat
 n:Nat
 body:MS
def c8(m:ba)(ds:List D):S:=ds.map some++List.replicate (m.n-ds.length) none
def b8(T:Nat->Option ba):Nat->fu
 |0,_,_,_,_,_=>False
 |k+1,f,ds,g,Q,E=>∃m,T f=some m/\ds.length=m.ar/\wpS (b8 T k) m.body ⟨λ_ g'=>Q .bO g',Q,λ_ _=>False,λ_ _=>False⟩ (c8 m ds) g E
end M
namespace M
open PySem L2
variable{g:G}{K:PySem.W.Frag}{H:Hp}{a p:Addr}{vs:List V}{i:Nat}{o:O}{u:HO}{l:List D}
theorem u9{p xs}{Q Q':KD}(h:∀d g,Q d g->Q' d g)(q:cP p xs g Q):cP p xs g Q':=by
 obtain⟨d,g',a,b⟩:=q;exact⟨d,g',a,h _ _ b⟩
theorem Yq{x}{k k':Bool->Prop}(h:∀b,k b->k' b)(q:pC g x k):pC g x k':=by
 obtain⟨b,a,z⟩:=q;exact⟨b,a,h _ z⟩
theorem U2{x y v}{k k':G->Prop}(h:∀g,k g->k' g)(q:V3 x y v g k):V3 x y v g k':=by
 obtain⟨b,a,z⟩:=q;exact⟨b,a,h _ z⟩
theorem YX{f cs x v}{k k':G->Prop}(h:∀g,k g->k' g)(q:vN f cs x v g k):vN f cs x v g k':=by
 obtain⟨b,a,z⟩:=q;exact⟨b,a,h _ z⟩
theorem x6{t x U}{k k':S->Prop}(h:∀U,k U->k' U)(q:jq t x U k):jq t x U k':=by
 cases t with
 |one i=>exact h _ q
 |many is=>obtain⟨l,bZ,a,b,c⟩:=q;exact⟨l,bZ,a,b,h _ c⟩
theorem Zf{k U g}{fin ku:S->G->Prop}{turn ig:D->(S->G->Prop)->S->G->Prop}(h:∀U g,fin U g->ku U g)(h2:∀x N U g,turn x N U g->ig x N U g)(q:turns k U g fin turn):turns k U g ku ig:=by
 obtain⟨W,w0,q⟩:=q;refine⟨W,w0,λi m U g w=>?_⟩;rcases q i m U g w with⟨a,b⟩|⟨x,a,N2,b,c⟩
 ·exact .inl ⟨a,h _ _ b⟩
 ·exact .inr ⟨x,a,N2,b,h2 _ _ _ _ c⟩
theorem Ii{k U g}{fin ku:List D->G->Prop}{turn ig:D->(Option D->S->G->Prop)->S->G->Prop}(h:∀ys g,fin ys g->ku ys g)(h2:∀x N U g,turn x N U g->ig x N U g)(q:yi k U g fin turn):yi k U g ku ig:=by
 obtain⟨W,w0,q⟩:=q;refine⟨W,w0,λi m ys U g w=>?_⟩;rcases q i m ys U g w with⟨a,b⟩|⟨x,a,b,c⟩
 ·exact .inl ⟨a,h _ _ b⟩
 ·exact .inr ⟨x,a,b,h2 _ _ _ _ c⟩
theorem Zz{k U g}{fin ku:List Int->G->Prop}{turn ig:D->(Option Int->S->G->Prop)->S->G->Prop}(h:∀ys g,fin ys g->ku ys g)(h2:∀x N U g,turn x N U g->ig x N U g)(q:Bo k U g fin turn):Bo k U g ku ig:=by
 obtain⟨W,w0,q⟩:=q;refine⟨W,w0,λi m ys U g w=>?_⟩;rcases q i m ys U g w with⟨a,b,c⟩|⟨x,a,b,c⟩
 ·exact .inl ⟨a,b,h _ _ c⟩
 ·exact .inr ⟨x,a,b,h2 _ _ _ _ c⟩
theorem G0{t:Bool}{A B A' B':Prop}(h1:A->A')(h2:B->B')(q:if t=true then A else B):if t=true then A' else B':=by
 cases t
 ·exact h2 q
 ·exact h1 q
def i9(P:fu):Prop:=∀f xs g Q Q' E E',(∀d g,Q d g->Q' d g)->(∀x g,E x g->E' x g)->P f xs g Q E->P f xs g Q' E'
mutual
theorem b9{P:fu}(hP:i9 P):∀(e:ME) (U:S) (g:G) (Q Q':KD) (E E':KX),(∀d g,Q d g->Q' d g)->(∀x g,E x g->E' x g)->bo P e U g Q E->bo P e U g Q' E'
 |.var i,U,g,Q,Q',E,E',h,hx,q=>by
  obtain⟨d,a,b⟩:=q;exact⟨d,a,h _ _ b⟩
 |.lit d,U,g,Q,Q',E,E',h,hx,q=>by exact h _ _ q
 |.prim p es,U,g,Q,Q',E,E',h,hx,q=>by
  exact E0 hP es _ _ _ _ _ _ (λxs g1 q=>u9 h q) hx q
 |.eE p o es,U,g,Q,Q',E,E',h,hx,q=>by
  exact b9 hP o _ _ _ _ _ _ (λx g1 q=>⟨q.1,E0 hP es _ _ _ _ _ _ (λxs g2 q=>u9 h q) hx q.2⟩) hx q
 |.vq es,U,g,Q,Q',E,E',h,hx,q=>by
  exact E0 hP es _ _ _ _ _ _ (λxs g1 ⟨kvs,a,b,c,d⟩=>⟨kvs,a,b,c,h _ _ d⟩) hx q
 |.chain o1 o2 a b c,U,g,Q,Q',E,E',h,hx,q=>by
  refine b9 hP a _ _ _ _ _ _ (λx g1 q=>b9 hP b _ _ _ _ _ _ (λy g2 q=>u9 (λz g3 q=>?_) q) hx q) hx q;obtain⟨t,e,q⟩:=q;exact⟨t,e,G0 (λq=>b9 hP c _ _ _ _ _ _ (λw g4 q=>u9 h q) hx q) (h _ _) q⟩
 |.dE a b,U,g,Q,Q',E,E',h,hx,q=>by
  refine b9 hP a _ _ _ _ _ _ (λx g1 q=>?_) hx q;obtain⟨t,e,q⟩:=q;exact⟨t,e,G0 (λq=>b9 hP b _ _ _ _ _ _ h hx q) (h _ _) q⟩
 |.jK a b,U,g,Q,Q',E,E',h,hx,q=>by
  refine b9 hP a _ _ _ _ _ _ (λx g1 q=>?_) hx q;obtain⟨t,e,q⟩:=q;exact⟨t,e,G0 (h _ _) (λq=>b9 hP b _ _ _ _ _ _ h hx q) q⟩
 |.eP a,U,g,Q,Q',E,E',h,hx,q=>by
  refine b9 hP a _ _ _ _ _ _ (λx g1 q=>?_) hx q;obtain⟨t,e,q⟩:=q;exact⟨t,e,h _ _ q⟩
 |.ite c a b,U,g,Q,Q',E,E',h,hx,q=>by
  exact p8 hP c _ _ _ _ _ _ (λt g1 q=>G0 (λq=>b9 hP a _ _ _ _ _ _ h hx q) (λq=>b9 hP b _ _ _ _ _ _ h hx q) q) hx q
 |.call f es,U,g,Q,Q',E,E',h,hx,q=>by
  exact E0 hP es _ _ _ _ _ _ (λxs g1 q=>hP _ _ _ _ _ _ _ h hx q) hx q
 |.make c f es,U,g,Q,Q',E,E',h,hx,q=>by
  exact E0 hP es _ _ _ _ _ _ (λxs g1 q=>hP _ _ _ _ _ _ _ (λd g2 q=>⟨q.1,h _ _ q.2⟩) hx q) hx q
 |.ki m cs o es,U,g,Q,Q',E,E',h,hx,q=>by
  refine b9 hP o _ _ _ _ _ _ (λx g1 q=>?_) hx q;obtain⟨a,c,fs,f,q1,q2,q3,q4,q⟩:=q;exact⟨a,c,fs,f,q1,q2,q3,q4,E0 hP es _ _ _ _ _ _ (λxs g2 q=>hP _ _ _ _ _ _ _ h hx q) hx q⟩
 |.comp d4 n tg it cond elt,U,g,Q,Q',E,E',h,hx,q=>by
  exact A5 hP it _ _ _ _ _ _ (λk g1 q=>Ii (λys g q=>h _ _ q) (λ_ _ _ _ q=>q) q) hx q
 |.kf d4 n tg it cond elt,U,g,Q,Q',E,E',h,hx,q=>by
  exact A5 hP it _ _ _ _ _ _ (λk g1 q=>Ii (λys g q=>h _ _ q) (λx N U g q=>x6 (λcC q=>p8 hP cond _ _ _ _ _ _ (λb g3 q=>by
   cases b
   ·exact q
   ·exact b9 hP elt _ _ _ _ _ _ (λ_ _ z=>z) hx q) (λ_ _ z=>z) q) q) q) hx q
 |.gX d4 n tg it cond elt,U,g,Q,Q',E,E',h,hx,q=>by
  exact A5 hP it _ _ _ _ _ _ (λk g1 q=>Zz (λys g q=>h _ _ q) (λ_ _ _ _ q=>q) q) hx q
 |.nil,U,g,Q,Q',E,E',h,hx,q=>(show False from q).elim
 |.cons _ _,U,g,Q,Q',E,E',h,hx,q=>(show False from q).elim
 |.fc _,U,g,Q,Q',E,E',h,hx,q=>(show False from q).elim
 |.dW _,U,g,Q,Q',E,E',h,hx,q=>(show False from q).elim
 |.ko _ _,U,g,Q,Q',E,E',h,hx,q=>(show False from q).elim
 |.kS _,U,g,Q,Q',E,E',h,hx,q|.nD _,U,g,Q,Q',E,E',h,hx,q=>(show False from q).elim
 |.fR _,U,g,Q,Q',E,E',h,hx,q=>(show False from q).elim
 |.no,U,g,Q,Q',E,E',h,hx,q=>(show False from q).elim
theorem E0{P:fu}(hP:i9 P):∀(e:ME) (U:S) (g:G) (Q Q':List D->G->Prop) (E E':KX),(∀d g,Q d g->Q' d g)->(∀x g,E x g->E' x g)->gP P e U g Q E->gP P e U g Q' E'
 |.nil,U,g,Q,Q',E,E',h,hx,q=>by exact h _ _ q
 |.cons a b,U,g,Q,Q',E,E',h,hx,q=>by
  exact b9 hP a _ _ _ _ _ _ (λx g1 q=>E0 hP b _ _ _ _ _ _ (λxs g2 q=>h _ _ q) hx q) hx q
 |.var _,U,g,Q,Q',E,E',h,hx,q|.lit _,U,g,Q,Q',E,E',h,hx,q|.prim _ _,U,g,Q,Q',E,E',h,hx,q|.eE _ _ _,U,g,Q,Q',E,E',h,hx,q|.vq _,U,g,Q,Q',E,E',h,hx,q|.chain _ _ _ _ _,U,g,Q,Q',E,E',h,hx,q|.dE _ _,U,g,Q,Q',E,E',h,hx,q|.jK _ _,U,g,Q,Q',E,E',h,hx,q|.eP _,U,g,Q,Q',E,E',h,hx,q|.ite _ _ _,U,g,Q,Q',E,E',h,hx,q|.call _ _,U,g,Q,Q',E,E',h,hx,q
 |.make _ _ _,U,g,Q,Q',E,E',h,hx,q|.ki _ _ _ _,U,g,Q,Q',E,E',h,hx,q|.comp _ _ _ _ _ _,U,g,Q,Q',E,E',h,hx,q|.gX _ _ _ _ _ _,U,g,Q,Q',E,E',h,hx,q|.kf _ _ _ _ _ _,U,g,Q,Q',E,E',h,hx,q|.fc _,U,g,Q,Q',E,E',h,hx,q|.dW _,U,g,Q,Q',E,E',h,hx,q|.ko _ _,U,g,Q,Q',E,E',h,hx,q|.kS _,U,g,Q,Q',E,E',h,hx,q|.nD _,U,g,Q,Q',E,E',h,hx,q|.fR _,U,g,Q,Q',E,E',h,hx,q|.no,U,g,Q,Q',E,E',h,hx,q=>(show False from q).elim
theorem p8{P:fu}(hP:i9 P):∀(e:ME) (U:S) (g:G) (Q Q':Bool->G->Prop) (E E':KX),(∀d g,Q d g->Q' d g)->(∀x g,E x g->E' x g)->et P e U g Q E->et P e U g Q' E'
 |.dE a b,U,g,Q,Q',E,E',h,hx,q=>by
  exact p8 hP a _ _ _ _ _ _ (λt g1 q=>G0 (λq=>p8 hP b _ _ _ _ _ _ h hx q) (h _ _) q) hx q
 |.jK a b,U,g,Q,Q',E,E',h,hx,q=>by
  exact p8 hP a _ _ _ _ _ _ (λt g1 q=>G0 (h _ _) (λq=>p8 hP b _ _ _ _ _ _ h hx q) q) hx q
 |.eP a,U,g,Q,Q',E,E',h,hx,q=>by exact p8 hP a _ _ _ _ _ _ (λt g1 q=>h _ _ q) hx q
 |.no,U,g,Q,Q',E,E',h,hx,q=>by exact h _ _ q
 |.fR e,U,g,Q,Q',E,E',h,hx,q=>by exact b9 hP e _ _ _ _ _ _ (λx g1 q=>Yq (λb q=>h _ _ q) q) hx q
 |.var _,U,g,Q,Q',E,E',h,hx,q|.lit _,U,g,Q,Q',E,E',h,hx,q|.prim _ _,U,g,Q,Q',E,E',h,hx,q|.eE _ _ _,U,g,Q,Q',E,E',h,hx,q|.vq _,U,g,Q,Q',E,E',h,hx,q|.chain _ _ _ _ _,U,g,Q,Q',E,E',h,hx,q|.ite _ _ _,U,g,Q,Q',E,E',h,hx,q|.call _ _,U,g,Q,Q',E,E',h,hx,q|.nil,U,g,Q,Q',E,E',h,hx,q|.cons _ _,U,g,Q,Q',E,E',h,hx,q
 |.make _ _ _,U,g,Q,Q',E,E',h,hx,q|.ki _ _ _ _,U,g,Q,Q',E,E',h,hx,q|.comp _ _ _ _ _ _,U,g,Q,Q',E,E',h,hx,q|.gX _ _ _ _ _ _,U,g,Q,Q',E,E',h,hx,q|.kf _ _ _ _ _ _,U,g,Q,Q',E,E',h,hx,q|.fc _,U,g,Q,Q',E,E',h,hx,q|.dW _,U,g,Q,Q',E,E',h,hx,q|.ko _ _,U,g,Q,Q',E,E',h,hx,q|.kS _,U,g,Q,Q',E,E',h,hx,q|.nD _,U,g,Q,Q',E,E',h,hx,q=>(show False from q).elim
theorem A5{P:fu}(hP:i9 P):∀(e:ME) (U:S) (g:G) (Q Q':IK->G->Prop) (E E':KX),(∀d g,Q d g->Q' d g)->(∀x g,E x g->E' x g)->gI P e U g Q E->gI P e U g Q' E'
 |.fc e,U,g,Q,Q',E,E',h,hx,q=>by
  exact b9 hP e _ _ _ _ _ _ (λx g1 q=>q.imp (λ⟨l,a,b⟩=>⟨l,a,h _ _ b⟩) λ⟨i,l,a,b,c⟩=>⟨i,l,a,b,h _ _ c⟩) hx q
 |.dW a,U,g,Q,Q',E,E',h,hx,q=>by
  exact b9 hP a _ _ _ _ _ _ (λx g1 ⟨j,a,b,c,d⟩=>⟨j,a,b,c,h _ _ d⟩) hx q
 |.ko a b,U,g,Q,Q',E,E',h,hx,q=>by
  exact b9 hP a _ _ _ _ _ _ (λx g1 q=>b9 hP b _ _ _ _ _ _ (λy g2 ⟨i,j,a,b,c,d⟩=>⟨i,j,a,b,c,h _ _ d⟩) hx q) hx q
 |.kS e,U,g,Q,Q',E,E',h,hx,q=>by
  exact b9 hP e _ _ _ _ _ _ (λx g1 ⟨i,l,a,b,c⟩=>⟨i,l,a,b,h _ _ c⟩) hx q
 |.nD e,U,g,Q,Q',E,E',h,hx,q=>by
  exact b9 hP e _ _ _ _ _ _ (λx g1 ⟨i,l,a,b,c⟩=>⟨i,l,a,b,h _ _ c⟩) hx q
 |.var _,U,g,Q,Q',E,E',h,hx,q|.lit _,U,g,Q,Q',E,E',h,hx,q|.prim _ _,U,g,Q,Q',E,E',h,hx,q|.eE _ _ _,U,g,Q,Q',E,E',h,hx,q|.vq _,U,g,Q,Q',E,E',h,hx,q|.chain _ _ _ _ _,U,g,Q,Q',E,E',h,hx,q|.ite _ _ _,U,g,Q,Q',E,E',h,hx,q|.call _ _,U,g,Q,Q',E,E',h,hx,q|.nil,U,g,Q,Q',E,E',h,hx,q|.cons _ _,U,g,Q,Q',E,E',h,hx,q
 |.dE _ _,U,g,Q,Q',E,E',h,hx,q|.jK _ _,U,g,Q,Q',E,E',h,hx,q|.eP _,U,g,Q,Q',E,E',h,hx,q|.fR _,U,g,Q,Q',E,E',h,hx,q|.no,U,g,Q,Q',E,E',h,hx,q
 |.make _ _ _,U,g,Q,Q',E,E',h,hx,q|.ki _ _ _ _,U,g,Q,Q',E,E',h,hx,q|.comp _ _ _ _ _ _,U,g,Q,Q',E,E',h,hx,q|.gX _ _ _ _ _ _,U,g,Q,Q',E,E',h,hx,q|.kf _ _ _ _ _ _,U,g,Q,Q',E,E',h,hx,q=>(show False from q).elim
end
structure Ends.le(N N':Ends):Prop where
 nx:∀U g,N.nx U g->N'.nx U g
 rt:∀d g,N.rt d g->N'.rt d g
 bk:∀U g,N.bk U g->N'.bk U g
 ct:∀U g,N.ct U g->N'.ct U g
theorem GY{P:fu}(hP:i9 P){N N':Ends}{E E':KX}(h:N.le N')(hx:∀x g,E x g->E' x g){U:S}:∀(hs:List (Str×ME)) x g,tN P N U E hs x g->tN P N' U E' hs x g
 |[],x,g,q=>hx x g q
 |(y,e)::r,x,g,q=>by
  unfold tN at q ⊢;split
  ·rename_i hh;rw[aJ hh] at q;exact b9 hP e _ _ _ _ _ _ h.rt (λ_ _ z=>z) q
  ·rename_i hh;rw[aF hh] at q;exact GY hP h hx r x g q
theorem wpS_mono{P:fu}(hP:i9 P):∀(s:MS) (N N':Ends) (U:S) (g:G) (E E':KX),N.le N'->(∀x g,E x g->E' x g)->wpS P s N U g E->wpS P s N' U g E'
 |.pass,N,N',U,g,E,E',h,hx,q=>h.nx _ _ q
 |.seq a b,N,N',U,g,E,E',h,hx,q=>wpS_mono hP a { N with nx:=λiL g1=>wpS P b N iL g1 E } { N' with nx:=λiL g1=>wpS P b N' iL g1 E' } _ _ _ _ ⟨λiL g1 q=>wpS_mono hP b _ _ _ _ _ _ h hx q,h.rt,h.bk,h.ct⟩ hx q
 |.expr e,N,N',U,g,E,E',h,hx,q=>b9 hP e _ _ _ _ _ _ (λx g1 q=>h.nx _ _ q) hx q
 |.set i e,N,N',U,g,E,E',h,hx,q=>b9 hP e _ _ _ _ _ _ (λx g1 q=>h.nx _ _ q) hx q
 |.lK t e,N,N',U,g,E,E',h,hx,q=>b9 hP e _ _ _ _ _ _ (λx g1 q=>x6 (λU q=>h.nx _ _ q) q) hx q
 |.dS o i v,N,N',U,g,E,E',h,hx,q=>b9 hP v _ _ _ _ _ _ (λx g1 q=>b9 hP o _ _ _ _ _ _ (λy g2 q=>b9 hP i _ _ _ _ _ _ (λz g3 q=>U2 (λg q=>h.nx _ _ q) q) hx q) hx q) hx q
 |.iz f cs o v,N,N',U,g,E,E',h,hx,q=>b9 hP v _ _ _ _ _ _ (λx g1 q=>b9 hP o _ _ _ _ _ _ (λy g2 q=>YX (λg q=>h.nx _ _ q) q) hx q) hx q
 | .vI f cs o v,N,N',U,g,E,E',h,hx,q=>b9 hP o _ _ _ _ _ _ (λy g1 q=>by
   obtain⟨a,c,fs,x,q1,q2,q3,q4,q⟩:=q;exact ⟨a,c,fs,x,q1,q2,q3,q4,b9 hP v _ _ _ _ _ _ (λz g3 q=>u9 (λw g4 q=>by
    obtain⟨qK,k1,k2,k3⟩:=q;exact ⟨qK,k1,k2,h.nx _ _ k3⟩) q) hx q⟩) hx q
 |.wJ o1 i1 o2 i2 e,N,N',U,g,E,E',h,hx,q=>b9 hP e _ _ _ _ _ _ (λx g1 q=>let ⟨u,v,q1,q⟩:=q;⟨u,v,q1,b9 hP o1 _ _ _ _ _ _ (λy g2 q=>b9 hP i1 _ _ _ _ _ _ (λz g3 q=>U2 (λg4 q=>b9 hP o2 _ _ _ _ _ _ (λy g5 q=>b9 hP i2 _ _ _ _ _ _ (λz g6 q=>U2 (λg q=>h.nx _ _ q) q) hx q) hx q) q) hx q) hx q⟩) hx q
 |.kx i p v,N,N',U,g,E,E',h,hx,q=>let ⟨x,q1,q⟩:=q;⟨x,q1,b9 hP v _ _ _ _ _ _ (λz g1 q=>u9 (λw g2 q=>h.nx _ _ q) q) hx q⟩
 |.ifs c a b,N,N',U,g,E,E',h,hx,q=>p8 hP c _ _ _ _ _ _ (λt g1 q=>G0 (λq=>wpS_mono hP a _ _ _ _ _ _ h hx q) (λq=>wpS_mono hP b _ _ _ _ _ _ h hx q) q) hx q
 |.dC t it b,N,N',U,g,E,E',h,hx,q=>A5 hP it _ _ _ _ _ _ (λk g1 q=>Zf h.nx (λx N2 U g q=>x6 (λcC q=>wpS_mono hP b { N with nx:=N2,ct:=N2,bk:=N.nx } { N' with nx:=N2,ct:=N2,bk:=N'.nx } _ _ _ _ ⟨λ_ _ z=>z,h.rt,h.nx,λ_ _ z=>z⟩ hx q) q) q) hx q
 |.jZ c b,N,N',U,g,E,E',h,hx,q=>by
  obtain⟨W,w0,q⟩:=q;refine⟨W,w0,λm U g w=>p8 hP c _ _ _ _ _ _ (λt g1 q=>G0 (λq=>?_) (h.nx _ _) q) hx (q m U g w)⟩;obtain⟨N2,a,q⟩:=q;exact⟨N2,a,wpS_mono hP b { N with nx:=N2,ct:=N2,bk:=N.nx } { N' with nx:=N2,ct:=N2,bk:=N'.nx } _ _ _ _ ⟨λ_ _ z=>z,h.rt,h.nx,λ_ _ z=>z⟩ hx q⟩
 |.ret e,N,N',U,g,E,E',h,hx,q=>b9 hP e _ _ _ _ _ _ h.rt hx q
 |.pP,N,N',U,g,E,E',h,hx,q=>h.rt _ _ q
 |.brk,N,N',U,g,E,E',h,hx,q=>h.bk _ _ q
 |.cont,N,N',U,g,E,E',h,hx,q=>h.ct _ _ q
 |.raise x es,N,N',U,g,E,E',h,hx,q=>E0 hP es _ _ _ _ _ _ (λvs g1 q=>⟨q.1,hx _ _ q.2⟩) hx q
 |.tR b hs,N,N',U,g,E,E',h,hx,q=>wpS_mono hP b _ _ _ _ _ _ h (λx g q=>GY hP h hx hs x g q) q
 | .tP e y b,N,N',U,g,E,E',h,hx,q=>b9 hP e _ _ _ _ _ _ (λ_ g1 z=>h.nx _ _ z) (λx g1 z=>by
  split at z
  ·rename_i c;rw[aJ c];exact wpS_mono hP b _ _ _ _ _ _ h (λ_ _ z=>z) z
  ·rename_i c;rw[aF c];exact hx _ _ z) q
theorem a8(T:Nat->Option ba):∀k,i9 (b8 T k)
 |0=>λf xs g Q Q' E E' h hx q=>q.elim
 |k+1=>λf xs g Q Q' E E' h hx q=>by
  obtain⟨m,a,b,q⟩:=q;exact⟨m,a,b,wpS_mono (a8 T k) m.body ⟨λ_ g'=>Q .bO g',Q,λ_ _=>False,λ_ _=>False⟩ _ _ _ _ _ ⟨λ_ _ z=>h _ _ z,h,λ_ _ z=>z,λ_ _ z=>z⟩ hx q⟩
def TupAt(K:PySem.W.Frag)(H:Hp)(a:Addr)(vs:List V):Prop :=
 H a=some (.tup vs)\/∃(o:Obj) (bp:Array Value) (n:Nat),K.lookup a=some o/\o.cls=.type "tuple"/\o.dict=none/\o.data=.seq bp n/\bp.size<=sizeLine/\Vals vs bp.toList
theorem TupAt.d(h:TupAt K H a vs):DH K H a vs:=h
theorem TupAt.sq{K:PySem.W.Frag}{H:Hp}{a:Addr}{vs:List V}(h:TupAt K H a vs):jU K H a vs:=h.d.sq
mutual
inductive d6(K:PySem.W.Frag)(ρ:List Addr)(H:Hp):D->V->Prop
 |bO:d6 K ρ H .bO .bO
 |bl (b:Bool):d6 K ρ H (.bl b) (.bl b)
 |int (i:Int):d6 K ρ H (.int i) (.int i)
 |str (x:Str):d6 K ρ H (.str x) (.str x)
 |ty (n:String):d6 K ρ H (.ty n) (.ty n)
 |ref {i:Nat} {a:Addr} (h:ρ[i]?=some a):d6 K ρ H (.ref i) (.ref a)
 |tup {l:List D} {a:Addr} {vs:List V} (h:TupAt K H a vs) (r:c6 K ρ H l vs):d6 K ρ H (.tup l) (.ref a)
inductive c6(K:PySem.W.Frag)(ρ:List Addr)(H:Hp):List D->List V->Prop
 |nil:c6 K ρ H [] []
 |cons {d:D} {v:V} {ds:List D} {vs:List V} (h:d6 K ρ H d v) (r:c6 K ρ H ds vs):c6 K ρ H (d::ds) (v::vs)
end
structure Ext(ρ:List Addr)(H:Hp)(cq:List Addr)(H':Hp):Prop where
 pre:∃more,cq=ρ++more
 tup:∀a xs,H a=some (.tup xs)->H' a=some (.tup xs)
theorem Ext.refl(ρ:List Addr)(H:Hp):Ext ρ H ρ H:=⟨⟨[],by simp⟩,λ_ _ h=>h⟩
theorem Ext.trans{ρ H cE H1 ft H2}(a:Ext ρ H cE H1)(b:Ext cE H1 ft H2):Ext ρ H ft H2:=by
 obtain⟨⟨m,rfl⟩,t⟩:=a;obtain⟨⟨m',rfl⟩,t'⟩:=b;exact⟨⟨m++m',by simp⟩,λx xs h=>t' _ _ (t _ _ h)⟩
theorem Ext.get{ρ H cq H'}(e:Ext ρ H cq H')(h:ρ[i]?=some a):cq[i]?=some a:=by
 obtain⟨⟨m,rfl⟩,_⟩:=e;rw[aK (av.mp h).1];exact h
theorem TupAt.ext{K ρ H cq H'}(e:Ext ρ H cq H')(h:TupAt K H a vs):TupAt K H' a vs:=h.elim (λz=>.inl (e.tup _ _ z)) .inr
mutual
theorem d6.ext{K ρ H cq H'}(e:Ext ρ H cq H'):∀{d v},d6 K ρ H d v->d6 K cq H' d v
 |_,_,.bO=>.bO
 |_,_,.bl b=>.bl b
 |_,_,.int i=>.int i
 |_,_,.str x=>.str x
 |_,_,.ty n=>.ty n
 |_,_,.ref h=>.ref (e.get h)
 |_,_,.tup h r=>.tup (h.ext e) (c6.ext e r)
theorem c6.ext{K ρ H cq H'}(e:Ext ρ H cq H'):∀{ds vs},c6 K ρ H ds vs->c6 K cq H' ds vs
 |_,_,.nil=>.nil
 |_,_,.cons h r=>.cons (d6.ext e h) (c6.ext e r)
end
theorem c6.length{K ρ H}{ds:List D}{vs:List V}(h:c6 K ρ H ds vs):ds.length=vs.length:=by
 induction ds generalizing vs with
 |nil=>cases h;rfl
 |cons d ds ih =>
  cases h with
  |cons q r=>simp[ih r]
theorem c6.get{K ρ H}:∀{ds vs} {i:Nat} {d:D},c6 K ρ H ds vs->ds[i]?=some d->∃v,vs[i]?=some v/\d6 K ρ H d v
 |_,_,_,_,.nil,h=>by simp at h
 |_,_,0,_,.cons h _,e=>by simp at e;subst e;exact⟨_,rfl,h⟩
 |_,_,i+1,d,.cons _ r,e=>by
  obtain⟨v,h1,h2⟩:=c6.get (i:=i) (d:=d) r (by simpa using e);exact⟨v,by simpa using h1,h2⟩
theorem c6.set{K ρ H}{d:D}{v:V}(h:d6 K ρ H d v):∀{ds vs} (i:Nat),c6 K ρ H ds vs->c6 K ρ H (ds.set i d) (vs.set i v)
 |_,_,_,.nil=>.nil
 |_,_,0,.cons _ r=>.cons h r
 |_,_,i+1,.cons q r=>.cons q (c6.set h i r)
theorem c6.append{K ρ H}{ds es:List D}{ws:List V}(h:c6 K ρ H ds vs)(s:c6 K ρ H es ws):c6 K ρ H (ds++es) (vs++ws):=by
 induction ds generalizing vs with
 |nil=>cases h;exact s
 |cons d ds ih =>
  cases h with
  |cons q r=>exact .cons q (ih r)
theorem c6.erase{K ρ H}:∀{ds:List D} {vs:List V} (i:Nat),c6 K ρ H ds vs->c6 K ρ H (ds.eraseIdx i) (vs.eraseIdx i)
 |_,_,_,.nil=>.nil
 |_,_,0,.cons _ r=>r
 |_,_,i+1,.cons q r=>.cons q (c6.erase i r)
theorem c6.take{K ρ H}:∀{ds:List D} {vs:List V} (n:Nat),c6 K ρ H ds vs->c6 K ρ H (ds.take n) (vs.take n)
 |_,_,0,_=>.nil
 |_,_,_+1,.nil=>.nil
 |_,_,n+1,.cons h r=>.cons h (c6.take n r)
theorem c6.drop{K ρ H}:∀{ds:List D} {vs:List V} (n:Nat),c6 K ρ H ds vs->c6 K ρ H (ds.drop n) (vs.drop n)
 |_,_,0,r=>r
 |_,_,_+1,.nil=>.nil
 |_,_,n+1,.cons _ r=>c6.drop n r
theorem c6.reverse{K ρ H}:∀{ds:List D} {vs:List V},c6 K ρ H ds vs->c6 K ρ H ds.reverse vs.reverse
 |_,_,.nil=>.nil
 |_,_,.cons h r=>by
  rw[gM,gM];exact c6.append (c6.reverse r) (.cons h .nil)
theorem c6.cut{K ρ H}{ds:List D}{vs:List V}(r:c6 K ρ H ds vs)(lo hi:Option Int):c6 K ρ H (M.cut ds lo hi) (sI vs lo hi):=by
 unfold M.cut sI;rw[r.length];exact(r.drop _).take _
theorem c6.ints{K ρ H}:∀{ns:List Int} {vs:List V},c6 K ρ H (ns.map D.int) vs->vs=ns.map V.int
 |[],_,.nil=>rfl
 |_::_,_,.cons h r=>by cases h;rw[c6.ints r];rfl
theorem c6.ofInts{K ρ H}:∀(ns:List Int),c6 K ρ H (ns.map D.int) (ns.map V.int)
 |[]=>.nil
 |n::r=>.cons (.int n) (c6.ofInts r)
def sR(K:PySem.W.Frag)(H:Hp)(a:Addr)(vs:List V):Prop :=
 (∃o,H a=some (.jN o (.lst vs)))\/∃(o:Obj) (bp:Array Value) (n:Nat),K.lookup a=some o/\o.cls=.type "list"/\o.dict=none/\o.data=.seq bp n/\bp.size<=sizeLine/\Vals vs bp.toList
theorem sR.sq(h:sR K H a vs):fO K H a vs:=h.elim (λ⟨o,z⟩=>.inl (.inr ⟨o,z⟩)) .inr
inductive j4{α:Type}(K:PySem.W.Frag)(ρ:List Addr)(H:Hp):List (α×D)->List (α×V)->Prop
 |nil:j4 K ρ H [] []
 |cons {k:α} {d:D} {v:V} {ds:List (α×D)} {vs:List (α×V)} (h:d6 K ρ H d v) (r:j4 K ρ H ds vs):j4 K ρ H ((k,d)::ds) ((k,v)::vs)
theorem j4.ext{α:Type}{K ρ H cq H'}(e:Ext ρ H cq H'){ds:List (α×D)}{vs:List (α×V)}(h:j4 K ρ H ds vs):j4 K cq H' ds vs:=by
 induction h with
 |nil=>exact .nil
 |cons h r ih=>exact .cons (h.ext e) ih
theorem j4.drop{K ρ H}{ds:List (Key×D)}{vs:List (Key×V)}(k:Key)(h:j4 K ρ H ds vs):j4 K ρ H (delD ds k) (xJ vs k):=by
 unfold delD xJ
 induction h with
 |nil=>exact .nil
 |cons h r ih =>
  rw[eM,eM];split
  ·exact .cons h ih
  ·exact ih
theorem j4.get{α:Type}{K ρ H}{ds:List (α×D)}{vs:List (α×V)}(h:j4 K ρ H ds vs):∀{i:Nat} {k:α} {d:D},ds[i]?=some (k,d)->∃v,vs[i]?=some (k,v)/\d6 K ρ H d v:=by
 induction h with
 |nil=>intro i k d e;simp at e
 |cons h r ih =>
  intro i k d e;cases i with
  |zero=>simp at e;obtain⟨rfl,rfl⟩:=e;exact⟨_,rfl,h⟩
  |succ i=>simpa using ih (by simpa using e)
theorem j4.length{α:Type}{K ρ H}{ds:List (α×D)}{vs:List (α×V)}(h:j4 K ρ H ds vs):ds.length=vs.length:=by
 induction h with
 |nil=>rfl
 |cons h r ih=>simp[ih]
def rg(K:PySem.W.Frag)(ρ:List Addr)(H:Hp):Option D->Option V->Prop
 |some d,some v=>d6 K ρ H d v
 |none,none=>True
 |_,_=>False
theorem j4.val{K ρ H}:∀{ds vs} (k:Key),j4 K ρ H ds vs->rg K ρ H (p9 ds k) (K9 vs k)
 |_,_,k,.nil=>trivial
 |_,_,k,.cons (k:=k') h r=>by
  unfold p9 K9;rw[eV,eV];by_cases e:k'=k
  ·simp only[e,decide_true];exact h
  ·simp only[e,decide_false];exact j4.val k r
theorem j4.JX{K ρ H}:∀{ds vs} (k:Key),j4 K ρ H ds vs->(ds.any λkv=>decide (kv.1=k))=(vs.any λkv=>decide (kv.1=k))
 |_,_,k,.nil=>rfl
 |_,_,k,.cons h r=>by simp only[List.any_cons,j4.JX k r]
theorem j4.snoc{K ρ H}{k:Key}{d:D}{v:V}(h:d6 K ρ H d v){ds vs}(t:j4 K ρ H ds vs):j4 K ρ H (ds++[(k,d)]) (vs++[(k,v)]):=by
 induction ds generalizing vs with
 |nil=>cases t;exact .cons h .nil
 |cons d ds ih =>
  cases t with
  |cons q r=>exact .cons q (ih r)
theorem j4.Dw{K ρ H}{k:Key}{d:D}{v:V}(h:d6 K ρ H d v):∀{ds vs},j4 K ρ H ds vs->j4 K ρ H (ds.map λkv=>if kv.1=k then(kv.1,d) else kv) (vs.map λkv=>if kv.1=k then(kv.1,v) else kv)
 |_,_,.nil=>.nil
 |_,_,.cons (k:=k') q r=>by
  simp only[List.map_cons];by_cases e:k'=k
  ·rw[aJ e,aJ e];exact .cons h (j4.Dw h r)
  ·rw[aF e,aF e];exact .cons q (j4.Dw h r)
theorem j4.put{K ρ H}{k:Key}{d:D}{v:V}(h:d6 K ρ H d v){ds vs}(r:j4 K ρ H ds vs):j4 K ρ H (putD ds k d) (putK vs k v):=by
 unfold putD putK;rw[r.JX k];split
 ·exact r.Dw h
 ·exact r.snoc h
noncomputable abbrev F2(K:PySem.W.Frag)(x:Str)(C:Addr):Prop:=PySem.W.nsIn K mainGlobals x=some (some (.ref C))
theorem j4.look{K ρ H}{ds:List (Str×D)}{vs:List (Str×V)}(f:Str)(h:j4 K ρ H ds vs):rg K ρ H (ds.lookup f) (vs.lookup f):=by
 induction h with
 |nil=>trivial
 |cons h r ih =>
  rename_i k d v ds vs;rw[dI,dI];cases f==k
  ·exact ih
  ·exact h
theorem j4.A9{K ρ H}{f:Str}{d:D}{v:V}(h:d6 K ρ H d v){ds:List (Str×D)}{vs:List (Str×V)}(r:j4 K ρ H ds vs):j4 K ρ H (l9 f d ds) (L2.A9 f v vs):=by
 induction r with
 |nil=>exact .cons h .nil
 |cons q r ih =>
  unfold l9 L2.A9;split
  ·exact .cons h r
  ·exact .cons q ih
theorem HN{f:Str}{d:D}{p:Str->Prop}(hf:p f):∀{ds:List (Str×D)},(∀x∈ds,p x.1)->∀x∈l9 f d ds,p x.1
 |[],_,x,hx=>by
  have:x=(f,d):=by simpa[l9] using hx
  simp_all
 |(k,e)::r,h,x,hx=>by
  unfold l9 at hx;split at hx
  ·rcases aG.mp hx with z|z
   ·rw[z];exact h (k,e) (by simp)
   ·exact h x (by simp[z])
  ·rcases aG.mp hx with z|z
   ·rw[z];exact h (k,e) (by simp)
   ·exact HN hf (λy hy=>h y (by simp[hy])) x z
def OH(K:PySem.W.Frag)(ρ:List Addr)(H:Hp):O->HO->Prop
 |.lst l,.lst vs=>c6 K ρ H l vs
 |.cY kvs,.dK vs=>j4 K ρ H kvs vs
 |.set S n,.set S' n'=>S=S'/\n=n'
 |.ins c fs,.ins C _ vs=>F2 K c C/\jV K C/\j4 K ρ H fs vs/\∀x∈fs,C0 K C x.1
 |_,_=>False
theorem OH.ext{K ρ H cq H'}(e:Ext ρ H cq H'){o:O}{u:HO}(h:OH K ρ H o u):OH K cq H' o u:=by
 cases o<;>cases u<;>first|exact h.elim|exact c6.ext e h|exact j4.ext e h|exact⟨h.1,h.2.1,h.2.2.1.ext e,h.2.2.2⟩|exact h
theorem OH.sZ{K ρ H}{xs:List V}(h:OH K ρ H o (.tup xs)):False:=by cases o<;>exact h
theorem OH.OB{K ρ H}{ob:Obj}(h:OH K ρ H o (.jN ob u)):False:=by cases o<;>exact h
def J8(K:PySem.W.Frag)(ρ:List Addr)(H:Hp)(o:O)(a:Addr):Prop:=match o with
 |.oi l=>∃vs,sR K H a vs/\c6 K ρ H l vs
 |o=>∃u,H a=some u/\OH K ρ H o u
theorem J8.of{K ρ H}(hu:H a=some u)(h:OH K ρ H o u):J8 K ρ H o a:=by
 cases o<;>first|exact⟨u,hu,h⟩|(cases u<;>exact h.elim)
theorem J8.inv{K ρ H}(m:o.mut=true)(h:J8 K ρ H o a):∃u,H a=some u/\OH K ρ H o u:=by
 cases o<;>first|exact h|cases m
theorem J8.lst{K ρ H}{l:List D}{a:Addr}(h:J8 K ρ H (.lst l) a):∃vs,H a=some (.lst vs)/\c6 K ρ H l vs:=by
 obtain⟨u,h1,h2⟩:=h;cases u<;>first|exact⟨_,h1,h2⟩|exact h2.elim
theorem J8.cY{K ρ H}{l:List (Key×D)}{a:Addr}(h:J8 K ρ H (.cY l) a):∃vs,H a=some (.dK vs)/\j4 K ρ H l vs:=by
 obtain⟨u,h1,h2⟩:=h;cases u<;>first|exact⟨_,h1,h2⟩|exact h2.elim
theorem J8.set{K ρ H}{S:Int->Bool}{n:Nat}{a:Addr}(h:J8 K ρ H (.set S n) a):H a=some (.set S n):=by
 obtain⟨u,h1,h2⟩:=h;cases u<;>first|(obtain⟨rfl,rfl⟩:=(show _/\_ from h2);exact h1)|exact h2.elim
theorem J8.ins{K ρ H}{c:Str}{fs:List (Str×D)}{a:Addr}(h:J8 K ρ H (.ins c fs) a):∃C dx vs,H a=some (.ins C dx vs)/\F2 K c C/\jV K C/\j4 K ρ H fs vs/\∀x∈fs,C0 K C x.1:=by
 obtain⟨u,h1,h2⟩:=h;cases u<;>first|exact⟨_,_,_,h1,h2⟩|exact h2.elim
structure Rl(K:PySem.W.Frag)(ρ:List Addr)(g:G)(H:Hp):Prop where
 len:ρ.length=g.length
 obj:∀(i:Nat) o a,g[i]?=some o->ρ[i]?=some a->J8 K ρ H o a
 nd:∀(i j:Nat) o o' a,g[i]?=some o->g[j]?=some o'->o.mut=true->o'.mut=true->ρ[i]?=some a->ρ[j]?=some a->i=j
section
variable{ρ:List Addr}
theorem Rl.lst(R:Rl K ρ g H){i:Nat}{l:List D}{a:Addr}(h:g[i]?=some (.lst l))(ha:ρ[i]?=some a):∃vs,H a=some (.lst vs)/\c6 K ρ H l vs:=(R.obj _ _ _ h ha).lst
theorem Rl.cY(R:Rl K ρ g H){i:Nat}{l:List (Key×D)}{a:Addr}(h:g[i]?=some (.cY l))(ha:ρ[i]?=some a):∃vs,H a=some (.dK vs)/\j4 K ρ H l vs:=(R.obj _ _ _ h ha).cY
theorem Rl.set(R:Rl K ρ g H){i:Nat}{S:Int->Bool}{n:Nat}{a:Addr}(h:g[i]?=some (.set S n))(ha:ρ[i]?=some a):H a=some (.set S n):=(R.obj _ _ _ h ha).set
theorem Rl.ins(R:Rl K ρ g H){i:Nat}{c:Str}{fs:List (Str×D)}{a:Addr}(h:g[i]?=some (.ins c fs))(ha:ρ[i]?=some a):∃C dx vs,H a=some (.ins C dx vs)/\F2 K c C/\jV K C/\j4 K ρ H fs vs/\∀x∈fs,C0 K C x.1:=(R.obj _ _ _ h ha).ins
theorem Rl.items(R:Rl K ρ g H)(h:d0 g i=some l)(ha:ρ[i]?=some a):∃vs,fO K H a vs/\c6 K ρ H l vs:=by
 cases e:g[i]? with
 |none=>rw[d0,e] at h;cases h
 |some o =>
  rw[d0,e] at h;have q:=R.obj _ _ _ e ha;cases o with
  |lst m=>cases h;obtain⟨vs,z,r⟩:=q.lst;exact⟨vs,fO.of z,r⟩
  |oi m=>cases h;obtain⟨vs,z,r⟩:=q;exact⟨vs,z.sq,r⟩
  |_=>cases h
theorem B5{o:HO}(hp:H p=none):Ext ρ H ρ (upd H p o):=⟨⟨[],by simp⟩,λa xs h=>by rw[f7 (m9 h hp)];exact h⟩
theorem sR.upd{p a:Addr}{o:HO}{vs:List V}(h:sR K H a vs)(hp:∀ob u,H p≠some (.jN ob u)):sR K (upd H p o) a vs:=by
 rcases h with⟨ob,z⟩|z
 ·refine .inl ⟨ob,?_⟩;rw[f7 ?_]
  ·exact z
  ·intro e;subst e;exact hp _ _ z
 ·exact .inr z
theorem J8.upd{p a:Addr}{o:O}{u:HO}{cq:List Addr}(h:J8 K ρ H o a)(eZ:o.mut=true->a≠p)(hp:∀ob u,H p≠some (.jN ob u))(e:Ext ρ H cq (L2.upd H p u)):J8 K cq (L2.upd H p u) o a:=by
 cases hm:o.mut with
 |true =>
  obtain⟨u',h1,h2⟩:=h.inv hm;exact .of (by rw[f7 (eZ hm)];exact h1) (h2.ext e)
 |false =>
  cases o<;>first|cases hm|skip
  obtain⟨vs,z,r⟩:=h;exact⟨vs,z.upd hp,r.ext e⟩
theorem Rl.grow{o:HO}(R:Rl K ρ g H)(hp:H p=none):Rl K ρ g (upd H p o):=by
 have e:Ext ρ H ρ (upd H p o):=B5 hp;refine⟨R.len,λi ob a h1 h2=>?_,R.nd⟩;have q:=R.obj _ _ _ h1 h2;refine q.upd (λhm=>?_) (λob u z=>by simp_all) e;obtain⟨u,h1,_⟩:=q.inv hm;exact m9 h1 hp
theorem Rl.A8(R:Rl K ρ g H)(p:Addr):(ρ++[p])[g.length]?=some p:=by rw[<- R.len];simp
theorem H9{o:HO}(hp:H p=none):Ext ρ H (ρ++[p]) (upd H p o):=⟨⟨[p],rfl⟩,(B5 (ρ:=ρ) hp).tup⟩
theorem Rl.new{p:Addr}{o:O}{u:HO}(R:Rl K ρ g H)(hp:H p=none)(r:OH K ρ H o u):Rl K (ρ++[p]) (g++[o]) (upd H p u):=by
 have e:Ext ρ H (ρ++[p]) (upd H p u):=H9 hp;have old:∀{i:Nat} {ob:O} {a:Addr},g[i]?=some ob->(ρ++[p])[i]?=some a->ρ[i]?=some a:=λ{i ob a} h1 h2=>by
  rw[aK (by rw[R.len];exact(av.mp h1).1)] at h2;exact h2
 have split:∀{i:Nat} {ob:O},(g++[o])[i]?=some ob->g[i]?=some ob\/(i=g.length/\ob=o):=λ{i ob} h=>by
  rcases fi i g.length with q|q|q
  ·rw[aK q] at h;exact .inl h
  ·subst q;simp at h;exact .inr ⟨rfl,h.symm⟩
  ·rw[aS (by simp;omega)] at h;cases h
 refine⟨by simp[R.len],λi ob a h1 h2=>?_,λi j o1 o2 a h1 h2 m1 m2 h3 h4=>?_⟩
 ·rcases split h1 with q|⟨rfl,rfl⟩
  ·have z:=R.obj _ _ _ q (old q h2);refine z.upd (λhm=>?_) (λob u z=>by simp_all) e;obtain⟨u,h1,_⟩:=z.inv hm;exact m9 h1 hp
  ·rw[R.A8] at h2;cases h2;exact .of u7 (r.ext e)
 ·have nq:∀{i:Nat} {o:O} {a:Addr},g[i]?=some o->o.mut=true->ρ[i]?=some a->a≠p:=λ{i o a} h1 hm h2=>by
   obtain⟨u,z,_⟩:=(R.obj _ _ _ h1 h2).inv hm;exact m9 z hp
  rcases split h1 with q|⟨rfl,_⟩
  ·rcases split h2 with q'|⟨rfl,_⟩
   ·exact R.nd _ _ _ _ _ q q' m1 m2 (old q h3) (old q' h4)
   ·rw[R.A8] at h4;cases h4;exact absurd rfl (nq q m1 (old q h3))
  ·rcases split h2 with q'|⟨rfl,_⟩
   ·rw[R.A8] at h3;cases h3;exact absurd rfl (nq q' m2 (old q' h4))
   ·rfl
theorem Rl.alloc(R:Rl K ρ g H)(hp:H p=none)(r:c6 K ρ H l vs):Rl K (ρ++[p]) (g++[.lst l]) (upd H p (.lst vs)):=R.new hp r
theorem Rl.put{o':O}(R:Rl K ρ g H)(h:g[i]?=some o)(hm:o.mut=true)(ha:ρ[i]?=some a)(r:OH K ρ H o' u) :
  Rl K ρ (g.set i o') (upd H a u)/\Ext ρ H ρ (upd H a u):=by
 obtain⟨u0,z0,EI⟩:=(R.obj _ _ _ h ha).inv hm;have e:Ext ρ H ρ (upd H a u):=⟨⟨[],by simp⟩,λb xs q=>by rw[f7];exact q;intro z;subst z;rw[z0] at q;cases q;exact EI.sZ⟩
 refine⟨⟨by simp[R.len],λj ob b h1 h2=>?_,λj k o1 o2 b h1 h2 m1 m2 h3 h4=>?_⟩,e⟩
 ·by_cases iE:i=j
  ·subst iE;rw[ha] at h2;cases h2;have hi:i<g.length:=(av.mp h).1;rw[bf hi] at h1;cases h1;exact .of u7 (r.ext e)
  ·rw[ax iE] at h1;refine(R.obj _ _ _ h1 h2).upd (λnH ez=>?_) (λob u z=>by rw[z0] at z;cases z;exact EI.OB) e;subst ez;exact iE (R.nd _ _ _ _ _ h h1 hm nH ha h2)
 ·have back:∀{j:Nat} {m:O},(g.set i o')[j]?=some m->m.mut=true->∃m',g[j]?=some m'/\m'.mut=true:=λ{j m} q nH=>by
   by_cases iE:i=j
   ·subst iE;exact⟨o,h,hm⟩
   ·rw[ax iE] at q;exact⟨m,q,nH⟩
  obtain⟨_,q1,n1⟩:=back h1 m1;obtain⟨_,q2,n2⟩:=back h2 m2;exact R.nd _ _ _ _ _ q1 q2 n1 n2 h3 h4
theorem Rl.write{l':List D}(R:Rl K ρ g H)(h:g[i]?=some (.lst l))(ha:ρ[i]?=some a)(r:c6 K ρ H l' vs) :
  Rl K ρ (g.set i (.lst l')) (upd H a (.lst vs))/\Ext ρ H ρ (upd H a (.lst vs)):=R.put h rfl ha r
end
structure u3(K:PySem.W.Frag)(ρ:List Addr)(H:Hp)(U:S)(cG:St):Prop where
 len:U.length=cG.length
 val:∀(i:Nat) d,U[i]?=some (some d)->∃v,cG[i]?=some (some v)/\d6 K ρ H d v
section
variable{ρ cq:List Addr}{H':Hp}
theorem u3.ext{U cG}(e:Ext ρ H cq H')(r:u3 K ρ H U cG):u3 K cq H' U cG:=⟨r.len,λi d h=>let ⟨v,a,b⟩:=r.val i d h;⟨v,a,b.ext e⟩⟩
theorem u3.set{U cG d v}(r:u3 K ρ H U cG)(i:Nat)(h:d6 K ρ H d v):u3 K ρ H (U.set i (some d)) (cG.set i (some v)):=by
 refine⟨by simp[r.len],λj e q=>?_⟩;by_cases iE:i=j
 ·subst iE;have hi:i<U.length:=by
   have:=(av.mp q).1
   simp_all
  rw[bf hi] at q;cases q;exact⟨v,by rw[bf (by rw[<- r.len];exact hi)],h⟩
 ·rw[ax iE] at q ⊢;exact r.val j e q
theorem u3.start{ds vs}{n:Nat}(r:c6 K ρ H ds vs):u3 K ρ H (ds.map some++List.replicate (n-ds.length) none) (vs.map some++List.replicate (n-vs.length) none):=by
 refine⟨by simp[r.length],λi d h=>?_⟩;by_cases hi:i<ds.length
 ·rw[aK (by simpa using hi),ae] at h;cases e:ds[i]? with
  |none=>rw[e] at h;cases h
  |some x =>
   rw[e] at h;cases h;obtain⟨v,h1,h2⟩:=r.get e;refine⟨v,?_,h2⟩;rw[aK (by rw[ak,<- r.length];exact hi),ae,h1]
   rfl
 ·rw[da (by simpa using hi),fb] at h;split at h<;>cases h
theorem u3.d4{U cG}(r:u3 K ρ H U cG)(d4:List Nat)(n:Nat):u3 K ρ H (E3 U d4 n) (C7 cG d4 n):=by
 refine⟨by simp[E3,C7],λi d h=>?_⟩;unfold E3 at h;unfold C7;by_cases hi:i<d4.length
 ·rw[aK (by simpa using hi),ae,ag hi] at h;rw[aK (by simpa using hi),ae,ag hi];simp only[Option.map_some] at h ⊢;cases e:U[d4[i]]? with
  |none=>simp_all
  |some x =>
   rw[e] at h;have hx:x=some d:=aL h;subst hx;obtain⟨v,h1,h2⟩:=r.val _ _ e;exact⟨v,by rw[h1];rfl,h2⟩
 ·rw[da (by simpa using hi),fb] at h;split at h<;>cases h
end
end M
namespace M
open PySem L2 PySem.Spec PyProof.Rows
variable{b:Bool}{d:D}{X:Cx}{ρ:List Addr}{g:G}{H:Hp}{U:L2.St}{s:Shared}{l:List D}{v x:V}
def LQ(K:PySem.W.Frag)(ρ:List Addr)(H:Hp)(Q:VK):KD:=λd g'=>∀cq H' v,Ext ρ H cq H'->Rl K cq g' H'->d6 K cq H' d v->Q v H'
theorem LQ.ext{K ρ H cE H1 Q d g}(e:Ext ρ H cE H1)(h:LQ K ρ H Q d g):LQ K cE H1 Q d g:=λcq H' v e' R r=>h cq H' v (e.trans e') R r
theorem LQ.now{K ρ H Q d g v}(h:LQ K ρ H Q d g)(R:Rl K ρ g H)(r:d6 K ρ H d v):Q v H:=h ρ H v (.refl _ _) R r
theorem LQ.new{K ρ H Q}{g:G}{l:List D}{vs:List V}{p:Addr}(h:LQ K ρ H Q (.ref g.length) (g++[.lst l]))(R:Rl K ρ g H)(hp:H p=none)(r:c6 K ρ H l vs):Q (.ref p) (upd H p (.lst vs)) :=
 h (ρ++[p]) _ _ (H9 hp) (R.alloc hp r) (.ref (R.A8 p))
theorem LQ.tup{K ρ H Q}{g:G}{l:List D}{vs:List V}{p:Addr}(h:LQ K ρ H Q (.tup l) g)(R:Rl K ρ g H)(hp:H p=none)(r:c6 K ρ H l vs):Q (.ref p) (upd H p (.tup vs)) :=
 h ρ _ _ (B5 hp) (R.grow hp) (.tup (.inl u7) (r.ext (B5 hp)))
def r2(K:PySem.W.Frag)(p:Pr):R2:=λx y H Q=>∃d e g ρ,Rl K ρ g H/\d6 K ρ H d x/\d6 K ρ H e y/\cP p [d,e] g (LQ K ρ H Q)
def r1(K:PySem.W.Frag)(p:Pr):V->Hp->VK->Prop:=λx H Q=>∃d g ρ,Rl K ρ g H/\d6 K ρ H d x/\cP p [d] g (LQ K ρ H Q)
def rN(K:PySem.W.Frag)(p:Pr):List V->Hp->VK->Prop:=λxs H Q=>∃ds g ρ,Rl K ρ g H/\c6 K ρ H ds xs/\cP p ds g (LQ K ρ H Q)
theorem Ct{n:Nat}(h:n<=100000):n<=sizeLine:=aD h ∅
theorem BD{n:Nat}(h:n<100000):n<sizeLine:=ay h ∅
theorem d6.j8{K ρ H i v}(h:d6 K ρ H (.int i) v):v=.int i:=by cases h;rfl
theorem d6.DC{K ρ H i v}(h:d6 K ρ H (.str i) v):v=.str i:=by cases h;rfl
theorem d6.M0{K ρ H i v}(h:d6 K ρ H (.bl i) v):v=.bl i:=by cases h;rfl
theorem d6.Dz{K ρ H v}(h:d6 K ρ H .bO v):v=.bO:=by cases h;rfl
theorem d6.Po{K ρ H n v}(h:d6 K ρ H (.ty n) v):v=.ty n:=by cases h;rfl
theorem d6.l6{K ρ H i v}(h:d6 K ρ H (.ref i) v):∃a,v=.ref a/\ρ[i]?=some a:=by cases h;exact⟨_,rfl,by assumption⟩
theorem d6.Bn{K ρ H l v}(h:d6 K ρ H (.tup l) v):∃a vs,v=.ref a/\TupAt K H a vs/\c6 K ρ H l vs:=by cases h;exact⟨_,_,rfl,by assumption,by assumption⟩
theorem c6.one{K ρ H d vs}(h:c6 K ρ H [d] vs):∃v,vs=[v]/\d6 K ρ H d v:=by
 cases h with
 |cons r rr=>cases rr;exact⟨_,rfl,r⟩
theorem c6.two{K ρ H d e vs}(h:c6 K ρ H [d,e] vs):∃v w,vs=[v,w]/\d6 K ρ H d v/\d6 K ρ H e w:=by
 cases h with
 |cons r rr=>obtain⟨w,rfl,q⟩:=rr.one;exact⟨_,_,rfl,r,q⟩
theorem M7{a b c:D}(h:[a,b]=[c,d]):a=c/\b=d:=by cases h;exact⟨rfl,rfl⟩
section
theorem Qz(op:Operator):gn X (binaryOp op) (r2 X.K (.bin op)):=by
 intro pins s U H x y v u Q I rx ry h;obtain⟨d,e,g,ρ,R,rd,re,d',g',h,q⟩:=h;rcases h with⟨i,j,r,ex,ha,rfl,rfl⟩|⟨rfl,h⟩
 ·obtain⟨rfl,rfl⟩:=M7 ex;obtain rfl:=rd.j8;obtain rfl:=re.j8;have fin:=q.now R (.int r);cases op<;>first|exact(show False from ha).elim|skip
  ·cases ha;exact Qx pins s U H _ _ v u Q I rx ry ⟨i,j,rfl,rfl,fin⟩
  ·cases ha;exact QG pins s U H _ _ v u Q I rx ry ⟨i,j,rfl,rfl,fin⟩
  ·obtain⟨hc,rfl⟩:=ha;exact QD pins s U H _ _ v u Q I rx ry ⟨i,j,rfl,rfl,hc,fin⟩
  ·obtain⟨hc,rfl⟩:=ha;exact QC pins s U H _ _ v u Q I rx ry ⟨i,j,rfl,rfl,hc,fin⟩
  ·obtain⟨hc,rfl⟩:=ha;exact QE pins s U H _ _ v u Q I rx ry ⟨i,j,rfl,rfl,hc,fin⟩
  ·obtain⟨hc,rfl⟩:=ha;exact QF pins s U H _ _ v u Q I rx ry ⟨i,j,rfl,rfl,hc,fin⟩
  ·cases ha;exact OG pins s U H _ _ v u Q I rx ry ⟨i,j,rfl,rfl,fin⟩
  ·cases ha;exact Qy pins s U H _ _ v u Q I rx ry ⟨i,j,rfl,rfl,fin⟩
  ·obtain⟨hc,rfl⟩:=ha;exact SS pins s U H _ _ v u Q I rx ry ⟨i,j,rfl,rfl,hc,fin⟩
 ·rcases h with⟨a,b,l,m,ex,ha,hb,hz,rfl,rfl⟩|z
  ·obtain⟨rfl,rfl⟩:=M7 ex;obtain⟨a',rfl,ra⟩:=rd.l6;obtain⟨b',rfl,rb⟩:=re.l6;obtain⟨vs,z1,rs⟩:=R.lst ha ra;obtain⟨ws,z2,rt⟩:=R.lst hb rb;exact QA pins s U H _ _ v u Q I rx ry ⟨_,_,vs,ws,rfl,rfl,z1,z2,by rw[<- rs.length,<- rt.length];exact Ct hz,λp hp=>q.new R hp (rs.append rt)⟩
  ·exact z.elim
theorem OI(op:UnaryOp):yO X (unaryOp op) (r1 X.K (.un op)):=by
 intro pins s U H x v Q I rx h;obtain⟨d,g,ρ,R,rd,d',g',⟨rfl,i,ex,rfl,rfl⟩,q⟩:=h;cases ex;obtain rfl:=rd.j8;exact Sa pins s U H _ v Q I rx ⟨_,rfl,q.now R (.int _)⟩
section
variable{pins:List (Addr×Obj)}
theorem Ih(I:Inv X pins U H s)(R:Rl X.K ρ g H)(n:Nat)(ih:∀{d:D} {v:V} {u:Value} {p:PyData},rd g n d=some p->d6 X.K ρ H d v->RelV v u->∃as,Reads s.heap u p as/\p.depth<=n):∀{vs:List V} {us:List Value} {ps:List PyData},l.mapM (rd g n)=some ps->c6 X.K ρ H l vs->Vals vs us->∃as,ReadsAll s.heap us ps as/\PyData.depthAll ps<=n:=by
 induction l with
 |nil =>
  intro vs us ps h rs rv;cases rs;cases rv;simp at h;subst h;exact⟨_,.nil,bP _⟩
 |cons d l il =>
  intro vs us ps h rs rv;cases rs with
  |cons iM rs =>
   cases rv with
   |cons ru rv =>
    rw[List.mapM_cons] at h;cases e:rd g n d with
    |none=>simp_all
    |some p =>
     rw[e] at h;cases e2:l.mapM (rd g n) with
     |none=>rw[e2] at h;cases h
     |some qs =>
      rw[e2] at h;cases h;obtain⟨as,q1,d1⟩:=ih e iM ru;obtain⟨bs,q2,d2⟩:=il e2 rs rv;refine⟨_,.cons q1 q2,?_⟩;simp only[PyData.depthAll];omega
theorem S0(I:Inv X pins U H s)(R:Rl X.K ρ g H)(n:Nat):∀{d:D} {v:V} {u:Value} {p:PyData},rd g n d=some p->d6 X.K ρ H d v->RelV v u->∃as,Reads s.heap u p as/\p.depth<=n:=by
 induction n with
 |zero =>
  intro d v u p h r ru;cases r with
  |bO=>simp only[rd] at h;cases h;cases ru;exact⟨_,.none,Nat.zero_le _⟩
  |bl b=>simp only[rd] at h;cases h;cases ru;exact⟨_,.bool b,Nat.zero_le _⟩
  |int i=>simp only[rd] at h;cases h;obtain⟨t,rfl⟩:=ru;exact⟨_,.int i t,Nat.zero_le _⟩
  |str x=>simp only[rd] at h;cases h;obtain⟨t,rfl⟩:=ru;exact⟨_,.str x t,Nat.zero_le _⟩
  |_=>simp only[rd] at h;cases h
 |succ n ih =>
  intro d v u p h r ru;cases r with
  |bO=>simp only[rd] at h;cases h;cases ru;exact⟨_,.none,Nat.zero_le _⟩
  |bl b=>simp only[rd] at h;cases h;cases ru;exact⟨_,.bool b,Nat.zero_le _⟩
  |int i=>simp only[rd] at h;cases h;obtain⟨t,rfl⟩:=ru;exact⟨_,.int i t,Nat.zero_le _⟩
  |str x=>simp only[rd] at h;cases h;obtain⟨t,rfl⟩:=ru;exact⟨_,.str x t,Nat.zero_le _⟩
  |ty x=>simp only[rd] at h;cases h
  |ref ha =>
   rename_i i a;simp only[rd] at h;cases e:d0 g i with
   |none=>simp_all
   |some l =>
    rw[e] at h;dsimp only at h;cases e2:l.mapM (rd g n) with
    |none=>simp_all
    |some ps =>
     rw[e2] at h;cases h;cases ru;obtain⟨vs,hq,rs⟩:=R.items e ha;obtain⟨bp,rv,p,hz⟩:=I.list hq;obtain⟨as,q,hd⟩:=Ih I R n ih e2 rs rv;obtain⟨o,ho,hc,k,ql⟩:=p.isList;refine⟨_,.list ho hc ql (by simpa using q),?_⟩;simp only[PyData.depth];omega
  |tup ht rs =>
   rename_i l a vs;simp only[rd] at h;cases e2:l.mapM (rd g n) with
   |none=>simp_all
   |some ps =>
    rw[e2] at h;cases h;cases ru;obtain⟨bp,rv,pt,hz⟩:=I.tuple ht.sq;obtain⟨as,q,hd⟩:=Ih I R n ih e2 rs rv;obtain⟨o,ho,hc,k,ql⟩:=id pt;refine⟨_,.tuple ho hc ql (by simpa using q),?_⟩;simp only[PyData.depth];omega
end
end
theorem Y6{K ρ H}{c:Key}(h:W0 d=some c)(r:d6 K ρ H d v):v=kV c:=by
 cases r<;>first|(cases h;rfl)|cases h
theorem rg.some{K ρ H}{o:Option V}{d:D}(h:rg K ρ H (some d) o):∃v,o=some v/\d6 K ρ H d v:=by
 cases o with
 |none=>exact h.elim
 |some v=>exact⟨v,rfl,h⟩
theorem rg.isSome{K ρ H}{o:Option V}{d:Option D}(h:rg K ρ H d o):d.isSome=o.isSome:=by
 cases o<;>cases d<;>first|rfl|exact h.elim
theorem Kd{pins:List (Addr×Obj)}{e:D}{y:V}{v u:Value}{Q:VK}(hu:X.A.units+100<cLine)(I:Inv X pins U H s)(rx:RelV x v)(ry:RelV y u)(R:Rl X.K ρ g H)(iM:d6 X.K ρ H d x)(re:d6 X.K ρ H e y)(h:vm g d e b)(neg:Bool)(q:Q (.bl (xor neg b)) H):wpAny (model X.prog X.w) X.A (compareOp (if neg then .NotEq else .Eq) v u) (EP X pins U Q) X.xe s:=by
 rcases h with⟨i,j,rfl,rfl,rfl⟩|⟨i,j,rfl,rfl,rfl⟩|⟨i,j,rfl,rfl,rfl⟩|⟨p,p',h1,h2,c1,c2,rfl⟩
 ·obtain rfl:=iM.j8;obtain rfl:=re.j8;cases neg
  ·exact CQ pins s U H _ _ v u Q I rx ry ⟨rfl,by simp_all⟩
  ·exact CS pins s U H _ _ v u Q I rx ry ⟨rfl,by simp_all⟩
 ·obtain rfl:=iM.M0;obtain rfl:=re.M0;cases neg
  ·exact CQ pins s U H _ _ v u Q I rx ry ⟨rfl,by rw[xY];simpa using q⟩
  ·exact CS pins s U H _ _ v u Q I rx ry ⟨rfl,by rw[xY];simpa using q⟩
 ·obtain rfl:=iM.DC;obtain rfl:=re.DC;cases neg
  ·exact CQ pins s U H _ _ v u Q I rx ry ⟨rfl,by simp_all⟩
  ·exact CS pins s U H _ _ v u Q I rx ry ⟨rfl,by simp_all⟩
 ·obtain⟨as,q1,d1⟩:=S0 I R 6 h1 iM rx;obtain⟨bs,q2,d2⟩:=S0 I R 6 h2 re ry;have hr:X.A.units+min p.depth p'.depth<cLine:=by omega
  cases neg
  ·exact SeqAt.compareEq_reads q1 q2 c1 c2 hr ⟨.bl _,H,I,rfl,by simpa using q⟩
  ·exact SeqAt.compareNe_reads q1 q2 c1 c2 hr ⟨.bl _,H,I,rfl,by simpa using q⟩
theorem in_of{pins:List (Addr×Obj)}{e:D}{y:V}{v u:Value}{Q:VK}(hu:X.A.units+100<cLine)(I:Inv X pins U H s)(rx:RelV x v)(ry:RelV y u)(R:Rl X.K ρ g H)(iM:d6 X.K ρ H d x)(re:d6 X.K ρ H e y)(h:inR g d e b)(neg:Bool)(q:Q (.bl (xor neg b)) H):wpAny (model X.prog X.w) X.A (compareOp (if neg then .NotIn else .In) v u) (EP X pins U Q) X.xe s:=by
 rcases h with⟨a,kvs,c,rfl,ha,hc,rfl⟩|⟨l,ps,p,h0,h1,h2,c1,c2,rfl⟩
 ·obtain⟨a',rfl,ra⟩:=re.l6;obtain⟨vs,z,rs⟩:=R.cY ha ra;have:=Y6 hc iM;subst this;cases ry;rw[(rs.val c).isSome] at q;cases neg
  ·exact UC () I (P6.k z) rx λs' I'=>⟨.bl _,H,I',rfl,by simpa using q⟩
  ·exact Sr () I (P6.k z) rx λs' I'=>⟨.bl _,H,I',rfl,by simpa using q⟩
 ·obtain⟨as,q1,d1⟩:=S0 I R 6 h2 iM rx;cases e with
  |tup m =>
   cases h0;have h3:rd g 7 (.tup l)=some (.tuple ps):=by simp only[rd];rw[show l.mapM (rd g 6)=some ps from h1];rfl
   obtain⟨bs,q2,d2⟩:=S0 I R 7 h3 re ry;have hr:X.A.units+1+min (PyData.depthAll ps) p.depth<cLine:=by omega
   cases neg
   ·exact SeqAt.in_tuple_reads q2 q1 c1 c2 hr ⟨.bl _,H,I,rfl,by simpa using q⟩
   ·exact SeqAt.notIn_tuple_reads q2 q1 c1 c2 hr ⟨.bl _,H,I,rfl,by simpa using q⟩
  |ref a =>
   have h3:rd g 7 (.ref a)=some (.list ps):=by
    simp only[rd];rw[show d0 g a=some l from h0];dsimp only;rw[show l.mapM (rd g 6)=some ps from h1]
    rfl
   obtain⟨bs,q2,d2⟩:=S0 I R 7 h3 re ry;have hr:X.A.units+1+min (PyData.depthAll ps) p.depth<cLine:=by omega
   cases neg
   ·exact SeqAt.in_list_reads q2 q1 c1 c2 hr ⟨.bl _,H,I,rfl,by simpa using q⟩
   ·exact SeqAt.notIn_list_reads q2 q1 c1 c2 hr ⟨.bl _,H,I,rfl,by simpa using q⟩
  |_=>cases h0
theorem Y0(hu:X.A.units+100<cLine)(op:CmpOp):gn X (compareOp op) (r2 X.K (.cmp op)):=by
 intro pins s U H x y v u Q I rx ry h;obtain⟨d,e,g,ρ,R,iM,re,d',g',⟨x',y',b,ex,h,rfl,rfl⟩,q⟩:=h;obtain⟨rfl,rfl⟩:=M7 ex;have fin:=q.now R (.bl b);have nU:∀{P:Int->Int->Bool},(∃i j,d=.int i/\e=.int j/\b=P i j)->∃i j,x=.int i/\y=.int j/\b=P i j:=λhh=>by
  obtain⟨i,j,z1,z2,z3⟩:=hh;exact⟨i,j,(z1▸iM).j8,(z2▸re).j8,z3⟩
 cases op
 ·exact Kd hu I rx ry R iM re h false (by simpa using fin)
 ·exact Kd hu I rx ry R iM re h true (by simpa using fin)
 ·obtain⟨i,j,e1,e2,e3⟩:=nU (P:=λi j=>decide (i<j)) h;exact OF pins s U H _ _ v u Q I rx ry ⟨i,j,e1,e2,by subst e3;exact fin⟩
 ·obtain⟨i,j,e1,e2,e3⟩:=nU (P:=λi j=>decide (i<=j)) h;exact OE pins s U H _ _ v u Q I rx ry ⟨i,j,e1,e2,by subst e3;exact fin⟩
 ·obtain⟨i,j,e1,e2,e3⟩:=nU (P:=λi j=>decide (j<i)) h;exact OD pins s U H _ _ v u Q I rx ry ⟨i,j,e1,e2,by subst e3;exact fin⟩
 ·obtain⟨i,j,e1,e2,e3⟩:=nU (P:=λi j=>decide (j<=i)) h;exact OC pins s U H _ _ v u Q I rx ry ⟨i,j,e1,e2,by subst e3;exact fin⟩
 ·obtain⟨rfl,rfl⟩:=(show _/\_ from h)
  obtain rfl:=re.Dz;refine QB pins s U H _ _ v u Q I rx ry ⟨rfl,?_⟩;have e:O4 d=decide (x=V.bO):=by cases iM<;>simp[O4]
  rw[<- e];exact fin
 ·obtain⟨rfl,rfl⟩:=(show _/\_ from h)
  obtain rfl:=re.Dz;refine SU pins s U H _ _ v u Q I rx ry ⟨rfl,?_⟩;have e:O4 d=decide (x=V.bO):=by cases iM<;>simp[O4]
  rw[<- e];exact fin
 ·rcases h with h|⟨a,S,n,i,rfl,ha,rfl,rfl⟩
  ·exact in_of hu I rx ry R iM re h false (by simpa using fin)
  ·obtain⟨a',rfl,ra⟩:=re.l6;obtain rfl:=iM.j8;exact XZ pins s U H _ _ v u Q I rx ry ⟨i,a',S,n,rfl,rfl,R.set ha ra,fin⟩
 ·rcases h with h|⟨a,S,n,i,rfl,ha,rfl,hb⟩
  ·exact in_of hu I rx ry R iM re h true (by simpa using fin)
  ·obtain⟨a',rfl,ra⟩:=re.l6;obtain rfl:=iM.j8;exact ZM pins s U H _ _ v u Q I rx ry ⟨i,a',S,n,rfl,rfl,R.set ha ra,by rw[<- hb,Bool.not_not];exact fin⟩
theorem RX{K:PySem.W.Frag}(R:Rl K ρ g H)(r:d6 K ρ H d x)(h:GS g d b):DG K x H b:=by
 rcases h with z|rfl|⟨i,rfl,rfl⟩|z
 ·exact z.elim
 ·obtain rfl:=r.M0;rfl
 ·obtain rfl:=r.j8;rfl
 ·exact z.elim
theorem Sl{K ρ H}{vs:List V}{i:Int}(r:c6 K ρ H l vs)(h:gk l i=some d):∃v,gk vs i=some v/\d6 K ρ H d v:=by
 unfold gk at h ⊢;rw[<- r.length];cases e:kR l.length i with
 |none=>simp_all
 |some j =>
  rw[e] at h;exact r.get h
theorem vU{K ρ H}{x:D}(R:Rl K ρ g H)(r:d6 K ρ H x v)(h:F9 g x=some l):∃a vs,v=.ref a/\c6 K ρ H l vs/\((∃i,x=.ref i/\ρ[i]?=some a)/\fO K H a vs\/x=.tup l/\TupAt K H a vs):=by
 cases r with
 |tup ht rs=>cases h;exact⟨_,_,rfl,rs,.inr ⟨rfl,ht⟩⟩
 |ref ha=>obtain⟨vs,hq,rs⟩:=R.items h ha;exact⟨_,_,rfl,rs,.inl ⟨⟨_,rfl,ha⟩,hq⟩⟩
 |_=>cases h
theorem Wl(hu:X.A.units+100<cLine):tq X (r2 X.K .ix):=by
 intro value slice pins s U H x y v u Q I rx ry h hs;obtain⟨d,e,g,ρ,R,iM,re,d',g',⟨rfl,h⟩,q⟩:=h;rcases h with⟨x',l,i,ex,hl,ha⟩|⟨a,kvs,y',c,ex,ha,hc,hv⟩|z
 ·obtain⟨rfl,rfl⟩:=M7 ex;obtain rfl:=re.j8;obtain⟨a,vs,rfl,rs,h⟩:=vU R iM hl;obtain⟨w,hw,gh⟩:=Sl rs ha;rcases h with⟨_,hq⟩|⟨_,ht⟩
  ·exact SE value slice pins s U H _ _ v u Q I rx ry ⟨_,_,i,w,rfl,rfl,hq,hw,q.now R gh⟩ hs
  ·exact Qc value slice pins s U H _ _ v u Q I rx ry ⟨_,_,i,w,rfl,rfl,ht.sq,hw,q.now R gh⟩ hs
 ·obtain⟨rfl,rfl⟩:=M7 ex;obtain⟨a',rfl,ra⟩:=iM.l6;obtain⟨vs,z,rs⟩:=R.cY ha ra;have:=Y6 hc re;subst this;have q2:=rs.val c;rw[hv] at q2;obtain⟨w,hw,gh⟩:=q2.some;exact SD () value slice pins s U H _ _ v u Q I rx ry ⟨_,w,rfl,by have:=P6.k (k:=c) z;rw[hw] at this;exact this,q.now R gh⟩ hs
 ·exact z.elim
def Lx(K:PySem.W.Frag):V->Option Int->Option Int->Hp->VK->Prop:=λx lo hi H Q=>∃d g ρ d' g',Rl K ρ g H/\d6 K ρ H d x/\tX d lo hi g d' g'/\LQ K ρ H Q d' g'
theorem OY:DQ X (Lx X.K):=by
 intro pins s U H x v vl vu lo hi sl Q I rx hs pl pu h;obtain⟨d,g,ρ,d',g',R,iM,h,q⟩:=h;rcases h with z|⟨a,l,rfl,hl,rfl,rfl⟩
 ·exact z.elim
 ·obtain⟨a',rfl,ha⟩:=iM.l6;obtain⟨vs,hq,rs⟩:=R.items hl ha;exact Ud pins s U H _ v vl vu lo hi sl Q I rx hs pl pu ⟨_,_,rfl,hq,λp hp=>q.new R hp (rs.cut lo hi)⟩
def Vd(K:PySem.W.Frag):V->V->V->Hp->(Hp->Prop)->Prop:=λo i v H Q=>∃Bb di dv g ρ,Rl K ρ g H/\d6 K ρ H Bb o/\d6 K ρ H di i/\d6 K ρ H dv v/\V3 Bb di dv g (λg'=>∀cq H',Ext ρ H cq H'->Rl K cq g' H'->Q H')
theorem Rz(hu:X.A.units+100<cLine):DE X (Vd X.K):=by
 intro pins s U H o i v ov iv u Q I ro ri rv h;obtain⟨Bb,di,dv,g,ρ,R,r1,r2,r3,g',h,q⟩:=h;rcases h with⟨a,i',l,j,rfl,rfl,hl,hj,rfl⟩|⟨a,kvs,c,rfl,ha,hc,hz,rfl⟩
 ·obtain⟨a',rfl,ha⟩:=r1.l6;obtain rfl:=r2.j8;obtain⟨vs,z,rs⟩:=R.lst hl ha;obtain⟨R',e'⟩:=R.write hl ha (rs.set r3 j);exact set_list pins s U H _ _ _ ov iv u Q I ro ri rv ⟨_,vs,_,j,rfl,rfl,z,by rw[<- rs.length];exact hj,q ρ _ e' R'⟩
 ·obtain⟨a',rfl,ra⟩:=r1.l6;obtain⟨vs,z,rs⟩:=R.cY ha ra;have:=Y6 hc r2;subst this;obtain⟨R',e'⟩:=R.put (o':=.cY (putD kvs c dv)) (u:=.dK (putK vs c v)) ha rfl ra (rs.put r3);cases ro;exact XB () I (yI.k z (by rw[<- rs.length];exact BD hz)) ri rv λs' I'=>⟨_,I',q ρ _ e' R'⟩
theorem Qj:n4 X (.builtin "len") (rN X.K .len):=by
 intro pins s U H xs us Q I r h;obtain⟨ds,g,ρ,R,rs,d',g',⟨rfl,h⟩,q⟩:=h;rcases h with⟨x,l,rfl,hl,rfl⟩|z|z
 ·obtain⟨v,rfl,rv⟩:=rs.one;obtain⟨a,vs,rfl,rl,h⟩:=vU R rv hl;refine ZD pins s U H _ us Q I r ⟨_,_,rfl,?_,by rw[<- rl.length];exact q.now R (.int _)⟩;exact h.imp (λz=>z.2) (λz=>z.2.sq)
 ·exact z.elim
 ·exact z.elim
theorem BQ{K ρ H}:∀(ks:List Key),c6 K ρ H (ks.map kD) (ks.map kV)
 |[]=>.nil
 |.inl _::r=>.cons (.int _) (BQ r)
 |.inr _::r=>.cons (.str _) (BQ r)
theorem j4.keys{α:Type}{K ρ H}{ds:List (α×D)}{vs:List (α×V)}(h:j4 K ρ H ds vs):ds.map (·.1)=vs.map (·.1):=by
 induction h with
 |nil=>rfl
 |cons _ _ ih=>simp_all
theorem SI(hc:X.calm=true):n4 X (.type "list") (rN X.K .list):=by
 intro pins s U H xs us Q I r h;obtain⟨ds,g,ρ,R,rs,d',g',⟨x,l,rfl,hl,rfl,rfl⟩|⟨a,kvs,rfl,ha,hn,rfl,rfl⟩,q⟩:=h
 rotate_left
 ·obtain⟨v,rfl,rv⟩:=rs.one;obtain⟨a',rfl,ra⟩:=rv.l6;obtain⟨vs,z,rk⟩:=R.cY ha ra;exact WQ hc pins s U H _ us Q I r ⟨_,vs,rfl,z,by rw[<- rk.length];exact hn,λp hp=>q (ρ++[p]) _ _ (H9 hp) (R.new hp (o:=.lst ((kvs.map (·.1)).map kD)) (u:=.lst ((vs.map (·.1)).map kV)) (by rw[rk.keys];exact BQ _)) (.ref (R.A8 p))⟩
 obtain⟨v,rfl,rv⟩:=rs.one;obtain⟨a,vs,rfl,rl,h⟩:=vU R rv hl;exact ZE pins s U H _ us Q I r ⟨_,_,rfl,h.imp (λz=>z.2) (λz=>z.2.sq),λp hp=>q.new R hp rl⟩
theorem Xi:n4 X (.type "tuple") (rN X.K .tuple):=by
 intro pins s U H xs us Q I r h;obtain⟨ds,g,ρ,R,rs,d',g',⟨x,l,rfl,hl,rfl,rfl⟩,q⟩:=h;obtain⟨v,rfl,rv⟩:=rs.one;obtain⟨a,vs,rfl,rl,h⟩:=vU R rv hl;refine WD pins s U H _ us Q I r ⟨a,vs,rfl,?_⟩;exact h.imp (λz=>⟨z.2,λp hp=>q.tup R hp rl⟩) (λz=>⟨z.2.sq,q.now R (.tup z.2 rl)⟩)
theorem Sz:n4 X (.builtin "isinstance") (rN X.K .isin):=by
 intro pins s U H xs us Q I r h;obtain⟨ds,g,ρ,R,rs,d',g',⟨x,c,b,rfl,hc,hb,rfl,rfl⟩,q⟩:=h;obtain⟨v,w,rfl,r1,r2⟩:=rs.two;obtain rfl:=r2.Po;have fin:=q.now R (.bl b);have go:∀(t:Value) (v:V),gY X.K H v t->PySem.W.kitOne X.K t (.type c)=some b->Vals [v,V.ty c] us->wpAny (model X.prog X.w) X.A (call (.builtin "isinstance") us) (EP X pins U Q) X.xe s :=
  λt v ht hk r=>Zk pins s U H _ us Q I r ⟨v,t,c,b,rfl,ht,hk,fin⟩
 simp only[List.mem_cons,List.mem_nil_iff,or_false] at hc;cases r1 with
 |bO=>refine go _ _ .bO ?_ r;cases hb;rcases hc with rfl|rfl|rfl|rfl|rfl<;>rfl
 |bl y=>refine go _ _ (.bl y) ?_ r;cases hb;rcases hc with rfl|rfl|rfl|rfl|rfl<;>rfl
 |int y=>refine go _ _ (.int y) ?_ r;cases hb;rcases hc with rfl|rfl|rfl|rfl|rfl<;>rfl
 |str y=>refine go _ _ (.str y) ?_ r;cases hb;rcases hc with rfl|rfl|rfl|rfl|rfl<;>rfl
 |ty _=>cases hb
 |tup ht rs =>
  cases hb;rcases ht with ht|ht
  ·refine go _ _ (.tup ht) ?_ r;rcases hc with rfl|rfl|rfl|rfl|rfl<;>rfl
  ·obtain⟨o,bp,n,lk,jS,_⟩:=ht;obtain⟨u,w',rfl,ru,gh⟩:=vals2 r;cases (show w'=Value.type c from gh);cases ru;have hk:PySem.W.kitOne X.K (.type "tuple") (.type c)=some (c=="tuple"):=by rcases hc with rfl|rfl|rfl|rfl|rfl<;>rfl
   exact bV KS I.hJ ⟨o,I.hJ _ _ lk,jS⟩ hk (λz=>nomatch z) λtk=>⟨.bl _,H,I.tok tk,rfl,fin⟩
 |@ref i a ha =>
  have uY:∃m,g'[i]?=some (.lst m)/\b=(c=="list"):=by
   simp only[qX] at hb;split at hb
   ·exact⟨_,by assumption,(aL hb).symm⟩
   ·cases hb
  obtain⟨m,e,rfl⟩:=uY;obtain⟨vs,z,_⟩:=R.lst e ha;refine go _ _ (.lst z) ?_ r;rcases hc with rfl|rfl|rfl|rfl|rfl<;>rfl
theorem Yv:∀{l:List D} {b:Bool},V2 l=some b->∃bs:List Bool,l=bs.map D.bl/\b=bs.all id:=by
 intro l
 induction l with
 |nil=>intro b h;cases h;exact⟨[],rfl,rfl⟩
 |cons d r ih =>
  intro b h;cases d<;>first|(cases h;done)|skip
  rename_i c;simp only[V2] at h;cases e:V2 r with
  |none=>simp_all
  |some b' =>
   rw[e] at h;cases h;obtain⟨bs,rfl,rfl⟩:=ih e;exact⟨c::bs,rfl,by simp⟩
theorem c6.Ru{K ρ H}:∀{bs:List Bool} {vs:List V},c6 K ρ H (bs.map D.bl) vs->vs=bs.map V.bl:=by
 intro bs
 induction bs with
 |nil=>intro vs h;cases h;rfl
 |cons b r ih =>
  intro vs h;cases h with
  |cons h rr=>rw[ih rr,h.M0];rfl
theorem Py(hc:X.calm=true):n4 X (.builtin "all") (rN X.K .all):=by
 intro pins s U H xs us Q I r h;obtain⟨ds,g,ρ,R,rs,d',g',⟨a,l,b,rfl,hl,hb,rfl,rfl⟩,q⟩:=h;obtain⟨v,rfl,rv⟩:=rs.one;obtain⟨a',rfl,ra⟩:=rv.l6;obtain⟨vs,hq,rs⟩:=R.items hl ra;rcases hb with hb|⟨ns,rfl,rfl⟩
 rotate_left
 ·have:=rs.ints;subst this;exact Xt hc pins s U H _ us Q I r ⟨_,ns,rfl,hq,q.now R (.bl _)⟩
 obtain⟨bs,rfl,rfl⟩:=Yv hb;have:=rs.Ru;subst this;exact Xs hc pins s U H _ us Q I r ⟨_,bs,rfl,hq,q.now R (.bl _)⟩
theorem JG{K ρ H}:∀(ns:List Int),c6 K ρ H (ns.map D.int) (ns.map V.int)
 |[]=>.nil
 |_::r=>.cons (.int _) (JG r)
theorem a03(hc:X.calm=true):n4 X (.builtin "sorted") (rN X.K .jC):=by
 intro pins s U H xs us Q I r h;obtain⟨ds,g,ρ,R,rs,d',g',z|⟨x,ns,rfl,hx,hn,rfl,rfl⟩,q⟩:=h
 rotate_left
 ·obtain⟨v,rfl,rv⟩:=rs.one;obtain⟨a,vs,rfl,rl,h⟩:=vU R rv hx;have:=rl.ints;subst this;exact WR pins s U H _ us Q I r ⟨_,ns,rfl,h.imp (λz=>z.2) (λz=>z.2.sq),hn,λp hp=>q (ρ++[p]) _ _ (H9 hp) (R.new hp (o:=.lst ((K1 ns).map .int)) (u:=.lst ((K1 ns).map V.int)) (JG _)) (.ref (R.A8 p))⟩
 exact z.elim
theorem Qs(hc:X.calm=true):n4 X (.builtin "max") (rN X.K .max):=by
 intro pins s U H xs us Q I r h;obtain⟨ds,g,ρ,R,rs,d',g',⟨rfl,⟨i,j,rfl,rfl⟩|⟨a,ns,M,rfl,hl,h1,h2,rfl⟩⟩,q⟩:=h
 rotate_left
 ·obtain⟨v,rfl,rv⟩:=rs.one;obtain⟨a',rfl,ra⟩:=rv.l6;obtain⟨vs,hq,rs⟩:=R.items hl ra;have:=rs.ints;subst this;exact Xv hc pins s U H _ us Q I r ⟨_,ns,M,rfl,hq,h1,h2,q.now R (.int _)⟩
 obtain⟨v,w,rfl,r1,r2⟩:=rs.two;obtain rfl:=r1.j8;obtain rfl:=r2.j8;exact Xu hc pins s U H _ us Q I r ⟨i,j,rfl,q.now R (.int _)⟩
theorem Qu(hc:X.calm=true)(hu:X.A.units+100<cLine):n4 X (.builtin "min") (rN X.K .min):=by
 intro pins s U H xs us Q I r h;obtain⟨ds,g,ρ,R,rs,d',g',⟨rfl,⟨i,j,rfl,rfl⟩|z⟩,q⟩:=h
 rotate_left
 ·exact z.elim
 obtain⟨v,w,rfl,r1,r2⟩:=rs.two;obtain rfl:=r1.j8;obtain rfl:=r2.j8;exact Xw hc pins s U H _ us Q I r ⟨i,j,rfl,q.now R (.int _)⟩
theorem RK(hc:X.calm=true):n4 X (.builtin "sum") (rN X.K .sum):=by
 intro pins s U H xs us Q I r h;obtain⟨ds,g,ρ,R,rs,d',g',h,q⟩:=h;obtain⟨a,ns,rfl,hl,rfl,rfl⟩:=h;obtain⟨v,rfl,rv⟩:=rs.one;obtain⟨a',rfl,ra⟩:=rv.l6;obtain⟨vs,hq,rs⟩:=R.items hl ra;have:=rs.ints;subst this;exact Xx hc pins s U H _ us Q I r ⟨_,ns,rfl,hq,q.now R (.int _)⟩
theorem PZ:n4 X (.type "int") (rN X.K .int):=by
 intro pins s U H xs us Q I r h;obtain⟨ds,g,ρ,R,rs,d',g',⟨rfl,h⟩,q⟩:=h;rcases h with⟨i,rfl,rfl⟩|⟨b,rfl,rfl⟩
 ·obtain⟨v,rfl,rv⟩:=rs.one;obtain rfl:=rv.j8;exact Hd pins s U H _ us Q I r (.inl ⟨i,rfl,q.now R (.int _)⟩)
 ·obtain⟨v,rfl,rv⟩:=rs.one;obtain rfl:=rv.M0;exact Hd pins s U H _ us Q I r (.inr ⟨b,rfl,q.now R (.int _)⟩)
def rM(K:PySem.W.Frag)(p:Pr):V->List V->Hp->VK->Prop:=λx xs H Q=>∃d ds g ρ,Rl K ρ g H/\d6 K ρ H d x/\c6 K ρ H ds xs/\cP p (d::ds) g (LQ K ρ H Q)
theorem yw{a b:D}{m:List D}(h:a::l=b::m):a=b/\l=m:=by cases h;exact⟨rfl,rfl⟩
theorem Xp:nz X "list.append" (rM X.K .append):=by
 intro pins s U H x xs v us Q I rx r h;obtain⟨d,ds,g,ρ,R,rd,rs,d',g',⟨a,y,l,ex,ha,hz,rfl,rfl⟩,q⟩:=h;obtain⟨rfl,rfl⟩:=yw ex;obtain⟨a',rfl,ra⟩:=rd.l6;obtain⟨w,rfl,gh⟩:=rs.one;obtain⟨vs,z1,rv⟩:=R.lst ha ra;obtain⟨R2,e2⟩:=R.write ha ra (rv.append (.cons gh .nil));exact XU pins s U H _ _ v us Q I rx r ⟨_,vs,_,rfl,rfl,z1,by rw[<- rv.length];exact BD hz,q ρ _ _ e2 R2 .bO⟩
theorem SG(hc:X.calm=true):n4 X (.type "set") (rN X.K .pX):=by
 intro pins s U H xs us Q I r h;obtain⟨ds,g,ρ,R,rs,d',g',⟨a,ns,rfl,ha,hz,rfl,rfl⟩,q⟩:=h;obtain⟨v,rfl,rv⟩:=rs.one;obtain⟨a',rfl,ra⟩:=rv.l6;obtain⟨vs,z1,rk⟩:=R.items ha ra;obtain rfl:=rk.ints;refine WC hc pins s U H _ us Q I r ⟨a',ns,rfl,z1,hz,λp hp=>?_⟩;exact q (ρ++[p]) _ _ (H9 hp) (R.new hp (o:=.set (λk=>decide (k∈ns)) (ST.i7 [] ns).length) (u:=.set (λk=>decide (k∈ns)) (ST.i7 [] ns).length) ⟨rfl,rfl⟩) (.ref (R.A8 p))
theorem PU(hu:X.A.units+100<cLine):nz X "dict.get" (rM X.K .get):=by
 intro pins s U H x xs v us Q I rx r h;obtain⟨d,ds,g,ρ,R,rd,rs,d',g',⟨a,y,z,kvs,c,ex,ha,hc,rfl,rfl⟩,q⟩:=h;obtain⟨rfl,rfl⟩:=yw ex;obtain⟨a',rfl,ra⟩:=rd.l6;obtain⟨w1,w2,rfl,r1,r2⟩:=rs.two;obtain⟨vs,z1,rv⟩:=R.cY ha ra;have:=Y6 hc r1;subst this;obtain⟨u1,u2,rfl,p1,p2⟩:=vals2 r;cases rx;refine PK () I (P6.k z1) p1 p2 λw' s4 I4 gh=>⟨_,H,I4,gh,q.now R ?_⟩
 have q:=rv.val c;cases e1:p9 kvs c with
 |none =>
  rw[e1] at q;cases e2:K9 vs c with
  |none=>exact r2
  |some w=>rw[e2] at q;exact q.elim
 |some d' =>
  rw[e1] at q;obtain⟨w,hw,q⟩:=q.some
  simp_all
theorem a24:nz X "list.pop" (rM X.K .pop):=by
 intro pins s U H x xs v us Q I rx r h;obtain⟨d,ds,g,ρ,R,rd,rs,y,g',⟨a,i,l,k,ex,ha,h1,h2,hk,hy,rfl⟩,q⟩:=h;obtain⟨rfl,rfl⟩:=yw ex;obtain⟨a',rfl,ra⟩:=rd.l6;obtain⟨w,rfl,gh⟩:=rs.one;obtain rfl:=gh.j8;obtain⟨vs,z1,rv⟩:=R.lst ha ra;obtain⟨w,hw,gh⟩:=rv.get hy;obtain⟨R2,e2⟩:=R.write ha ra (rv.erase k);exact a35 pins s U H _ _ v us Q I rx r ⟨_,vs,i,k,w,rfl,rfl,z1,h1,h2,by rw[<- rv.length];exact hk,hw,q ρ _ _ e2 R2 (gh.ext e2)⟩
theorem c6.strs{K ρ H}{ys:List Str}{vs:List V}(h:c6 K ρ H (ys.map D.str) vs):vs=ys.map V.str:=by
 induction ys generalizing vs with
 |nil=>cases h;rfl
 |cons y ys ih =>
  cases h with
  |cons q r=>cases q;rw[ih r];rfl
theorem ty_list(R:Rl X.K ρ g H)(r:d6 X.K ρ H d v)(h:∃a l,d=.ref a/\d0 g a=some l):nC X.K "list" v H:=by
 obtain⟨a,l,rfl,hl⟩:=h;obtain⟨a',rfl,ra⟩:=r.l6;obtain⟨vs,hq,_⟩:=R.items hl ra;exact .inl ⟨rfl,vs,hq⟩
theorem Tz:nz X "set.add" (rM X.K .kc):=by
 intro pins s U H x xs v us Q I rx r h;obtain⟨d,ds,g,ρ,R,rd,rs,d',g',⟨a,i,S,n,ex,ha,hn,rfl,rfl⟩,q⟩:=h;obtain⟨rfl,rfl⟩:=yw ex;obtain⟨a',rfl,ra⟩:=rd.l6;obtain⟨w,rfl,gh⟩:=rs.one;obtain rfl:=gh.j8;obtain⟨R2,e2⟩:=R.put (o':=.set (λk=>S k||decide (k=i)) (if S i then n else n+1)) (u:=.set (λk=>S k||decide (k=i)) (if S i then n else n+1)) ha rfl ra ⟨rfl,rfl⟩;exact YR pins s U H _ _ v us Q I rx r ⟨_,i,S,n,rfl,rfl,R.set ha ra,hn,q ρ _ _ e2 R2 .bO⟩
theorem ty_set(R:Rl X.K ρ g H)(r:d6 X.K ρ H d v)(h:mr .kc d g):nC X.K "set" v H:=by
 obtain⟨a,S,n,rfl,hl⟩:=h;obtain⟨a',rfl,ra⟩:=r.l6;exact .inr (.inr (.inr ⟨rfl,S,n,R.set hl ra⟩))
theorem ty_dict(R:Rl X.K ρ g H)(r:d6 X.K ρ H d v)(h:mr .get d g):nC X.K "dict" v H:=by
 obtain⟨a,l,rfl,hl⟩:=h;obtain⟨a',rfl,ra⟩:=r.l6;obtain⟨vs,hq,_⟩:=R.cY hl ra;exact .inr (.inr (.inl ⟨rfl,.inl ⟨vs,hq⟩⟩))
noncomputable abbrev iH:=List Str×XK
def LX(K:PySem.W.Frag)(ρ:List Addr)(H:Hp)(Ξ:iH):KX:=λx g'=>∀cq H' C,Ext ρ H cq H'->Rl K cq g' H'->x.cls∈Ξ.1->F2 K x.cls C->Ξ.2 (.ref C) none H'
theorem LX.ext{K:PySem.W.Frag}{cE:List Addr}{H1:Hp}{Ξ:iH}(e:Ext ρ H cE H1){x:Xn}(h:LX K ρ H Ξ x g):LX K cE H1 Ξ x g:=λcq H' C e' R hm c=>h cq H' C (e.trans e') R hm c
noncomputable abbrev rh(ex:List Str):iH:=(ex,λ_ _ _=>False)
def LE(K:PySem.W.Frag)(Ξ:iH)(t:S->G->KD->KX->Prop):TE:=λcG H Q=>∃U g ρ,u3 K ρ H U cG/\Rl K ρ g H/\t U g (LQ K ρ H Q) (LX K ρ H Ξ)
def LT(K:PySem.W.Frag)(Ξ:iH)(t:S->G->(Bool->G->Prop)->KX->Prop):TT:=λcG H Q=>∃U g ρ,u3 K ρ H U cG/\Rl K ρ g H/\t U g (λb g'=>∀cq H',Ext ρ H cq H'->Rl K cq g' H'->Q b H') (LX K ρ H Ξ)
def LA(K:PySem.W.Frag)(Ξ:iH)(t:S->G->(List D->G->Prop)->KX->Prop):TA:=λcG H Q=>∃U g ρ,u3 K ρ H U cG/\Rl K ρ g H/\t U g (λds g'=>∀cq H' vs,Ext ρ H cq H'->Rl K cq g' H'->c6 K cq H' ds vs->Q vs H') (LX K ρ H Ξ)
def W7(K:PySem.W.Frag)(gG:List Addr)(H0:Hp)(k:IK)(J:It):Prop:=∀ρ g H,Ext gG H0 ρ H->Rl K ρ g H->∀i,(k.at i g=some none->J.stop i H) /\
 ∀d,k.at i g=some (some d)->J.go i H/\∀v H',J.pK i H v H'->Ext ρ H ρ H'/\Rl K ρ g H'/\d6 K ρ H' d v
def LI(K:PySem.W.Frag)(Ξ:iH)(t:S->G->(IK->G->Prop)->KX->Prop):TI:=λcG H R=>∃U g ρ,u3 K ρ H U cG/\Rl K ρ g H/\t U g (λk g'=>∀cq H' J,Ext ρ H cq H'->Rl K cq g' H'->W7 K cq H' k J->R J H') (LX K ρ H Ξ)
def LG(K:PySem.W.Frag)(t:MT):TG:=λv cG H Q=>∃d U g ρ,u3 K ρ H U cG/\Rl K ρ g H/\d6 K ρ H d v/\jq t d U (λbZ=>∀dA,u3 K ρ H bZ dA->Q dA H)
def LN(K:PySem.W.Frag)(ρ:List Addr)(H:Hp)(N:L2.Ends):Ends where
 nx:=λbZ g'=>∀cq H' dA,Ext ρ H cq H'->Rl K cq g' H'->u3 K cq H' bZ dA->N.nx dA H'
 rt:=LQ K ρ H N.rt
 bk:=λbZ g'=>∀cq H' dA,Ext ρ H cq H'->Rl K cq g' H'->u3 K cq H' bZ dA->N.bk dA H'
 ct:=λbZ g'=>∀cq H' dA,Ext ρ H cq H'->Rl K cq g' H'->u3 K cq H' bZ dA->N.ct dA H'
def LS(K:PySem.W.Frag)(Ξ:iH)(t:Ends->S->G->KX->Prop):TS:=λN cG H=>∃U g ρ,u3 K ρ H U cG/\Rl K ρ g H/\t (LN K ρ H N) U g (LX K ρ H Ξ)
end M
namespace L2
open PySem PySem.Spec PyProof.Rows
variable{t t':TT}
section
variable{X:Cx}{e:Expr}
theorem PE.imp{t t':TE}(h:PE X e t)(i:∀U H Q,t' U H Q->t U H Q):PE X e t':=λpins s U H Q I q=>h pins s U H Q I (i U H Q q)
theorem PT.imp(h:PT X e t)(i:∀U H Q,t' U H Q->t U H Q):PT X e t':=λpins s U H Q I q=>h pins s U H Q I (i U H Q q)
theorem PW.imp(h:PW X e t)(i:∀U H Q,t' U H Q->t U H Q):PW X e t':=λw pins s U H Q I q=>h w pins s U H Q I (i U H Q q)
theorem PA.imp{es:List Expr}{t t':TA}(h:PA X es t)(i:∀U H Q,t' U H Q->t U H Q):PA X es t':=λp pins s U H Q I q=>h p pins s U H Q I (i U H Q q)
theorem lG.imp{es:List Expr}(h:lG X es t)(i:∀U H Q,t' U H Q->t U H Q):lG X es t':=λpins s U H Q I q=>h pins s U H Q I (i U H Q q)
theorem PI.imp{tg:Expr}{t t':TI}(h:PI X tg e t)(i:∀U H Q,t' U H Q->t U H Q):PI X tg e t':=λpins s U H Q I q=>h pins s U H Q I (i U H Q q)
theorem PG.imp{t t':TG}(h:PG X e t)(i:∀v U H Q,t' v U H Q->t v U H Q):PG X e t':=λpins s U H v u Q I r q=>h pins s U H v u Q I r (i v U H Q q)
theorem PS.imp{st:Stmt}{t t':TS}(h:PS X st t)(i:∀N U H,t' N U H->t N U H):PS X st t':=λpins s U H N I q=>h pins s U H N I (i N U H q)
theorem jP.imp{st:List Stmt}{t t':TS}(h:jP X st t)(i:∀N U H,t' N U H->t N U H):jP X st t':=λpins s U H N I q=>h pins s U H N I (i N U H q)
end
end L2
namespace M
open PySem L2 PySem.Spec PyProof.Rows
variable{Ξ:iH}{P:fu}{op ij:CmpOp}{rest es:List Expr}{js:ME}{p2 q jJ:Pos}
section
variable{K:PySem.W.Frag}(hP:i9 P){ρ gG:List Addr}{H H0:Hp}{U:S}{cG:L2.St}{g:G}{m:ME}
include hP
theorem gb{Q0:KD}{Q:VK}(s:u3 K ρ H U cG)(R:Rl K ρ g H)(e0:Ext gG H0 ρ H)(h:bo P m U g Q0 (LX K gG H0 Ξ))(k:∀x g1 cE H1 v1,Ext ρ H cE H1->Rl K cE g1 H1->d6 K cE H1 x v1->Q0 x g1->Q v1 H1):LE K Ξ (bo P m) cG H Q :=
 ⟨U,g,ρ,s,R,b9 hP m _ _ _ _ _ _ (λx g1 h cE H1 v1 e1 R1 r1=>k x g1 cE H1 v1 e1 R1 r1 h) (λ_ _ z=>LX.ext e0 z) h⟩
theorem kM{Q0:List D->G->Prop}{Q:List V->Hp->Prop}(s:u3 K ρ H U cG)(R:Rl K ρ g H)(e0:Ext gG H0 ρ H)(h:gP P m U g Q0 (LX K gG H0 Ξ))(k:∀x g1 cE H1 v1,Ext ρ H cE H1->Rl K cE g1 H1->c6 K cE H1 x v1->Q0 x g1->Q v1 H1):LA K Ξ (gP P m) cG H Q :=
 ⟨U,g,ρ,s,R,E0 hP m _ _ _ _ _ _ (λx g1 h cE H1 v1 e1 R1 r1=>k x g1 cE H1 v1 e1 R1 r1 h) (λ_ _ z=>LX.ext e0 z) h⟩
theorem oO{Q0:Bool->G->Prop}{Q:Bool->Hp->Prop}(s:u3 K ρ H U cG)(R:Rl K ρ g H)(e0:Ext gG H0 ρ H)(h:et P m U g Q0 (LX K gG H0 Ξ))(k:∀t g1 cE H1,Ext ρ H cE H1->Rl K cE g1 H1->Q0 t g1->Q t H1):LT K Ξ (et P m) cG H Q :=
 ⟨U,g,ρ,s,R,p8 hP m _ _ _ _ _ _ (λt g1 h cE H1 e1 R1=>k t g1 cE H1 e1 R1 h) (λ_ _ z=>LX.ext e0 z) h⟩
theorem rA{ms:MS}{N:L2.Ends}{N0:Ends}(s:u3 K ρ H U cG)(R:Rl K ρ g H)(e0:Ext gG H0 ρ H)(h:wpS P ms N0 U g (LX K gG H0 Ξ))(k:N0.le (LN K ρ H N)):LS K Ξ (wpS P ms) N cG H :=
 ⟨U,g,ρ,s,R,wpS_mono hP ms _ _ _ _ _ _ k (λ_ _ z=>LX.ext e0 z) h⟩
end
theorem c6.ml{K ρ H}(lo:Int)(n:Nat):c6 K ρ H (i8 lo n) ((List.range n).map λ(k:Nat)=>V.int (lo+k)):=by
 have:∀l:List Nat,c6 K ρ H (l.map λ(k:Nat)=>D.int (lo+k)) (l.map λ(k:Nat)=>V.int (lo+k)):=by
  intro l
  induction l with
  |nil=>exact .nil
  |cons x r ih=>exact .cons (.int _) ih
 exact this _
section
variable{X:Cx}(hP:i9 P){a b c e:Expr}{ma mb mc:ME}{pos:Pos}{p:Pr}
include hP
theorem DB(h:PE X e (rB (r2 X.K p) (LE X.K Ξ (bo P ma)) (LE X.K Ξ (bo P mb)))):PE X e (LE X.K Ξ (bo P (.prim p (.cons ma (.cons mb .nil))))) :=
 h.imp λcG H Q bz=>by
  obtain⟨U,g,ρ,s,R,h⟩:=bz;exact gb hP s R (.refl _ _) h λx g1 cE H1 v1 e1 R1 r1 h=>gb hP (s.ext e1) R1 e1 h λy g2 ft H2 v2 e2 R2 r2 h =>
   ⟨x,y,g2,ft,R2,r1.ext e2,r2,u9 (λd g' h=>h.ext (e1.trans e2)) h⟩
theorem RI(h:PT X e (Dd (rB (r2 X.K (.cmp op)) (LE X.K Ξ (bo P ma)) (LE X.K Ξ (bo P mb))))):PT X e (LT X.K Ξ (et P (.fR (.prim (.cmp op) (.cons ma (.cons mb .nil)))))) :=
 h.imp λcG H Q bz=>by
  obtain⟨U,g,ρ,s,R,h⟩:=bz;refine gb hP s R (.refl _ _) h λx g1 cE H1 v1 e1 R1 r1 h=>gb hP (s.ext e1) R1 e1 h λy g2 ft H2 v2 e2 R2 r2 h=>?_;obtain⟨d',g',h,q⟩:=h;obtain⟨x',y',t,ex,hc,rfl,rfl⟩:=id h;refine⟨x,y,g',ft,R2,r1.ext e2,r2,_,_,h,λcq H' v e' R' r'=>?_⟩;obtain⟨t',ht,q⟩:=q;rcases ht with⟨z,_⟩|z|⟨i,z,_⟩|⟨l,z,_⟩|⟨a,l,z,_⟩<;>cases z
  exact⟨_,r'.M0,q cq H' (e1.trans (e2.trans e')) R'⟩
theorem Kr{op:UnaryOp}(ha:PE X a (LE X.K Ξ (bo P ma))):PE X (.UnaryOp op a pos) (LE X.K Ξ (bo P (.prim (.un op) (.cons ma .nil)))) :=
 (OO (OI op) ha).imp λcG H Q bz=>by
  obtain⟨U,g,ρ,s,R,h⟩:=bz;exact gb hP s R (.refl _ _) h λx g1 cE H1 v1 e1 R1 r1 h=>⟨x,g1,cE,R1,r1,u9 (λd g' h=>h.ext e1) h⟩
theorem JB:∀cG H Q,LE X.K Ξ (bo P (.chain op ij ma mb mc)) cG H Q->Bm (r2 X.K (.cmp op)) (r2 X.K (.cmp ij)) (LE X.K Ξ (bo P ma)) (LE X.K Ξ (bo P mb)) (LE X.K Ξ (bo P mc)) cG H Q:=λcG H Q bz=>by
 obtain⟨U,g,ρ,s,R,h⟩:=bz;refine gb hP s R (.refl _ _) h λx g1 cE H1 v1 e1 R1 r1 h=>gb hP (s.ext e1) R1 e1 h λy g2 ft H2 v2 e2 R2 r2 h=>?_;refine⟨x,y,g2,ft,R2,r1.ext e2,r2,u9 (λd g3 h jo H3 v3 e3 R3 r3=>?_) h⟩;obtain⟨t,rfl,h⟩:=h;obtain rfl:=r3.M0;refine⟨t,rfl,?_⟩;cases t
 ·exact h jo H3 _ (e1.trans (e2.trans e3)) R3 (.bl _)
 ·exact gb hP (s.ext (e1.trans (e2.trans e3))) R3 (e1.trans (e2.trans e3)) h λz g4 pJ H4 v4 e4 R4 r4 h =>
   ⟨y,z,g4,pJ,R4,r2.ext (e3.trans e4),r4,u9 (λd g' h=>h.ext (e1.trans (e2.trans (e3.trans e4)))) h⟩
theorem a11(hu:X.A.units+100<cLine)(ha:PE X a (LE X.K Ξ (bo P ma)))(hb:PE X b (LE X.K Ξ (bo P mb)))(hc:PE X c (LE X.K Ξ (bo P mc)))(hm:lastMarks [op,ij] [b,c]=false) :
  PE X (.Compare a [op,ij] [b,c] pos) (LE X.K Ξ (bo P (.chain op ij ma mb mc))):=(a31 (Y0 hu op) (Y0 hu ij) ha hb hc hm).imp (JB hP)
theorem ZW{U:S}{g:G}{Q:Bool->G->Prop}{E:KX}(h:et P (.fR (.chain op ij ma mb mc)) U g Q E):bo P (.chain op ij ma mb mc) U g (λd g'=>∃t,d=.bl t/\Q t g') E:=by
 have one:∀{o:CmpOp} {xs:List D} {g:G},cP (.cmp o) xs g (λd g1=>pC g1 d λb=>Q b g1)->cP (.cmp o) xs g λd g'=>∃t,d=.bl t/\Q t g':=by
  intro o xs g h;obtain⟨d',g',h,t',ht,q⟩:=h;obtain⟨x',y',t,ex,hc,rfl,rfl⟩:=id h;refine⟨_,_,h,t',?_,q⟩;rcases ht with⟨z,_⟩|z|⟨i,z,_⟩|⟨l,z,_⟩|⟨a,l,z,_⟩<;>first|exact z|cases z
 refine b9 hP ma _ _ _ _ _ _ (λx g1 h=>b9 hP mb _ _ _ _ _ _ (λy g2 h=>u9 (λz g3 h=>?_) h) (λ_ _ z=>z) h) (λ_ _ z=>z) h;obtain⟨t,rfl,h⟩:=h;refine⟨t,rfl,?_⟩;cases t
 ·obtain⟨b,hb,q⟩:=(show pC g3 (.bl false) λb=>Q b g3 from h)
  rcases hb with⟨z,_⟩|z|⟨i,z,_⟩|⟨l,z,_⟩|⟨a,l,z,_⟩<;>first|(cases z;exact⟨_,rfl,q⟩)|cases z
 ·exact b9 hP mc _ _ _ _ _ _ (λw g4 h=>one h) (λ_ _ z=>z) h
theorem a02(hu:X.A.units+100<cLine)(ha:PE X a (LE X.K Ξ (bo P ma)))(hb:PE X b (LE X.K Ξ (bo P mb)))(hc:PE X c (LE X.K Ξ (bo P mc)))(hm:lastMarks [op,ij] [b,c]=false) :
  PT X (.Compare a [op,ij] [b,c] pos) (LT X.K Ξ (et P (.fR (.chain op ij ma mb mc)))) :=
 (a21 (Y0 hu op) (Y0 hu ij) ha hb hc hm).imp λcG H Q ⟨U,g,ρ,s,R,h⟩ =>
  JB hP cG H _ (gb hP s R (.refl _ _) (ZW hP h) λx g1 cE H1 v1 e1 R1 r1 h=>by
   obtain⟨t,rfl,h⟩:=h;exact ⟨t,r1.M0,h cE H1 e1 R1⟩)
theorem Rn(ha:PE X a (LE X.K Ξ (bo P ma)))(hb:PE X (.BoolOp .And (b::rest) pos) (LE X.K Ξ (bo P mb))):PE X (.BoolOp .And (a::b::rest) pos) (LE X.K Ξ (bo P (.dE ma mb))) :=
 (QJ ha hb).imp λcG H Q bz=>by
  obtain⟨U,g,ρ,s,R,h⟩:=bz;refine gb hP s R (.refl _ _) h λx g1 cE H1 v1 e1 R1 r1 h=>?_;obtain⟨t,rfl,h⟩:=h;refine⟨t,r1.M0,?_⟩;cases t
  ·exact h cE H1 _ e1 R1 (.bl _)
  ·exact gb hP (s.ext e1) R1 e1 h λy g2 ft H2 v2 e2 R2 r2 h=>h ft H2 v2 (e1.trans e2) R2 r2
theorem OX(ha:PE X a (LE X.K Ξ (bo P ma)))(hb:PE X (.BoolOp .Or (b::rest) pos) (LE X.K Ξ (bo P mb))):PE X (.BoolOp .Or (a::b::rest) pos) (LE X.K Ξ (bo P (.jK ma mb))) :=
 (ON ha hb).imp λcG H Q bz=>by
  obtain⟨U,g,ρ,s,R,h⟩:=bz;refine gb hP s R (.refl _ _) h λx g1 cE H1 v1 e1 R1 r1 h=>?_;obtain⟨t,rfl,h⟩:=h;refine⟨t,r1.M0,?_⟩;cases t
  ·exact gb hP (s.ext e1) R1 e1 h λy g2 ft H2 v2 e2 R2 r2 h=>h ft H2 v2 (e1.trans e2) R2 r2
  ·exact h cE H1 _ e1 R1 (.bl _)
theorem Rv(ha:PE X a (LE X.K Ξ (bo P ma))):PE X (.UnaryOp .Not a pos) (LE X.K Ξ (bo P (.eP ma))) :=
 (QP ha).imp λcG H Q bz=>by
  obtain⟨U,g,ρ,s,R,h⟩:=bz;refine gb hP s R (.refl _ _) h λx g1 cE H1 v1 e1 R1 r1 h=>?_;obtain⟨t,rfl,h⟩:=h;exact⟨t,r1.M0,h cE H1 _ e1 R1 (.bl _)⟩
theorem Rq(hc:PT X c (LT X.K Ξ (et P mc)))(ha:PE X a (LE X.K Ξ (bo P ma)))(hb:PE X b (LE X.K Ξ (bo P mb))):PE X (.IfExp c a b pos) (LE X.K Ξ (bo P (.ite mc ma mb))) :=
 (a29 hc ha hb).imp λcG H Q bz=>by
  obtain⟨U,g,ρ,s,R,h⟩:=bz;refine oO hP s R (.refl _ _) h λt g1 cE H1 e1 R1 h=>?_;cases t
  ·exact gb hP (s.ext e1) R1 e1 h λy g2 ft H2 v2 e2 R2 r2 h=>h ft H2 v2 (e1.trans e2) R2 r2
  ·exact gb hP (s.ext e1) R1 e1 h λy g2 ft H2 v2 e2 R2 r2 h=>h ft H2 v2 (e1.trans e2) R2 r2
theorem Rx{k:Nat}(h:PA X es (LA X.K Ξ (gP P js))):PE X (.Tuple es k pos) (LE X.K Ξ (bo P (.prim .tup js))) :=
 (QT h).imp λcG H Q bz=>by
  obtain⟨U,g,ρ,s,R,h⟩:=bz;refine kM hP s R (.refl _ _) h λds g1 cE H1 vs e1 R1 r1 h=>?_;obtain⟨d',g',⟨hz,rfl,rfl⟩,q⟩:=h;exact⟨by rw[<- r1.length];exact Ct (aD hz ∅),λp hp=>(q.ext e1).tup R1 hp r1⟩
theorem Rt(h:PA X es (LA X.K Ξ (gP P js))):PE X (.List es pos) (LE X.K Ξ (bo P (.prim .lst js))) :=
 (QN h).imp λcG H Q bz=>by
  obtain⟨U,g,ρ,s,R,h⟩:=bz;refine kM hP s R (.refl _ _) h λds g1 cE H1 vs e1 R1 r1 h=>?_;obtain⟨d',g',⟨hz,rfl,rfl⟩,q⟩:=h;exact⟨by rw[<- r1.length];exact Ct (aD hz ∅),λp hp=>(q.ext e1).new R1 hp r1⟩
theorem L4:PA X [] (LA X.K Ξ (gP P .nil)) :=
 (X9 (X:=X)).imp λcG H Q bz=>by
  obtain⟨U,g,ρ,s,R,h⟩:=bz;exact h ρ H [] (.refl _ _) R .nil
theorem C5(ha:PE X a (LE X.K Ξ (bo P ma)))(h:PA X es (LA X.K Ξ (gP P js)))(hs:starEach (a::es) X.env=(false,eval a X.env)::starEach es X.env):PA X (a::es) (LA X.K Ξ (gP P (.cons ma js))) :=
 (R6 ha h hs).imp λcG H Q bz=>by
  obtain⟨U,g,ρ,s,R,h⟩:=bz;exact gb hP s R (.refl _ _) h λx g1 cE H1 v1 e1 R1 r1 h=>kM hP (s.ext e1) R1 e1 h λxs g2 ft H2 vs e2 R2 r2 h=>h ft H2 _ (e1.trans e2) R2 (.cons (r1.ext e2) r2)
theorem a05(ha:PE X a (LE X.K Ξ (bo P ma)))(hb:PE X b (LE X.K Ξ (bo P mb))):PE X (.Subscript a (.Slice none (some b) none p2) pos) (LE X.K Ξ (bo P (.prim (.rD false true) (.cons ma (.cons mb .nil))))) :=
 (a26 OY ha Tg (Th hb)).imp λcG H Q bz=>by
  obtain⟨U,g,ρ,s,R,h⟩:=bz;refine gb hP s R (.refl _ _) h λx g1 cE H1 v1 e1 R1 r1 h=>gb hP (s.ext e1) R1 e1 h λy g2 ft H2 v2 e2 R2 r2 h=>?_;obtain⟨d',g',⟨x',i,ex,h⟩,q⟩:=h;cases ex;exact⟨i,r2.j8,x,g2,ft,d',g',R2,r1.ext e2,h,q.ext (e1.trans e2)⟩
theorem RJ(ha:PE X a (LE X.K Ξ (bo P ma)))(he:∀whole,isTrue a X.env whole=(do let v <- whole;standAt a.pos;holding [v] (truthy v))):PT X a (LT X.K Ξ (et P (.fR ma))) :=
 (a20 ha he).imp λcG H Q bz=>by
  obtain⟨U,g,ρ,s,R,h⟩:=bz;refine gb hP s R (.refl _ _) h λx g1 cE H1 v1 e1 R1 r1 h=>?_;obtain⟨b,h1,h2⟩:=h;exact⟨b,RX R1 r1 h1,h2 cE H1 e1 R1⟩
theorem RH(ha:PT X a (LT X.K Ξ (et P ma))):PT X (.UnaryOp .Not a pos) (LT X.K Ξ (et P (.eP ma))) :=
 (Rg ha).imp λcG H Q bz=>by
  obtain⟨U,g,ρ,s,R,h⟩:=bz;exact oO hP s R (.refl _ _) h λt g1 cE H1 e1 R1 h=>h cE H1 e1 R1
theorem RL(ha:PT X a (LT X.K Ξ (et P ma)))(hb:PW X (.BoolOp .And (b::rest) pos) (LT X.K Ξ (et P mb))):PW X (.BoolOp .And (a::b::rest) pos) (LT X.K Ξ (et P (.dE ma mb))) :=
 (Rh ha hb).imp λcG H Q bz=>by
  obtain⟨U,g,ρ,s,R,h⟩:=bz;refine oO hP s R (.refl _ _) h λt g1 cE H1 e1 R1 h=>?_;cases t
  ·exact h cE H1 e1 R1
  ·exact oO hP (s.ext e1) R1 e1 h λt g2 ft H2 e2 R2 h=>h ft H2 (e1.trans e2) R2
theorem Pa(ha:PT X a (LT X.K Ξ (et P ma)))(hb:PW X (.BoolOp .Or (b::rest) pos) (LT X.K Ξ (et P mb))):PW X (.BoolOp .Or (a::b::rest) pos) (LT X.K Ξ (et P (.jK ma mb))) :=
 (OR ha hb).imp λcG H Q bz=>by
  obtain⟨U,g,ρ,s,R,h⟩:=bz;refine oO hP s R (.refl _ _) h λt g1 cE H1 e1 R1 h=>?_;cases t
  ·exact oO hP (s.ext e1) R1 e1 h λt g2 ft H2 e2 R2 h=>h ft H2 (e1.trans e2) R2
  ·exact h cE H1 e1 R1
theorem Ug:lG X [] (LT X.K Ξ (et P .no)) :=
 (Tq (X:=X)).imp λcG H Q bz=>by
  obtain⟨U,g,ρ,s,R,h⟩:=bz;exact h ρ H (.refl _ _) R
theorem Ro{x:Str}{v:Value}(hv:(∃id,v=.builtin id)\/∃T,v=.type T)(hc:n4 X v (rN X.K p))(hg:Gl X x)(hm:X.mg x=none)(hb:bootBuiltins x=some v)(ha:PA X (e::es) (LA X.K Ξ (gP P js)))(hn:x≠"__name__")(hd:(x==("__debug__":Str))=false)(fN:starEach (e::es) X.env=(false,eval e X.env)::starEach es X.env)(hU:(backTo pos (starEach es X.env)).any (·.1)=false):PE X (.Call (.Name x q) (e::es) [] pos) (LE X.K Ξ (bo P (.prim p js))):=by
 have base:PE X (.Call (.Name x q) (e::es) [] pos) (zh (rN X.K p) (LA X.K Ξ (gP P js))):=by
  rcases hv with⟨id,rfl⟩|⟨T,rfl⟩
  ·exact yG hc hg hm hb ha hn hd fN hU
  ·exact O7 hc hg hm hb ha hn hd fN hU
 refine base.imp λcG H Q bz=>?_;obtain⟨U,g,ρ,s,R,h⟩:=bz;exact kM hP s R (.refl _ _) h λxs g1 cE H1 vs e1 R1 r1 h=>⟨xs,g1,cE,R1,r1,u9 (λd g' h=>h.ext e1) h⟩
theorem TR{o:Expr}{mo:ME}{T:String}{name:Str}{id:String}{apos:Pos}(pa:PlainAttrs T)(slot:Slot T name id)(jD:typeOf (.builtin id)=pure (.type "method_descriptor"))(hm:nz X id (rM X.K p))(hk:∀{d:D} {v:V} {g:G} {ρ:List Addr} {H:Hp},Rl X.K ρ g H->d6 X.K ρ H d v->mr p d g->nC X.K T v H)(ho:PE X o (LE X.K Ξ (bo P mo)))(ha:PA X (e::es) (LA X.K Ξ (gP P js)))(jg:attributeBase o name X.env (eval o X.env)=eval o X.env)(qj:((backTo pos (starEach (e::es) X.env)).all (λx=>!x.1)&&(backToKw pos (keywordEach [] X.env)).all (λx=>x.1.isSome)&&decide ((e::es).length+([]:List Keyword).length+(if([]:List Keyword).isEmpty then 0 else 1)<30))=true)(je:(apos.endLine==pos.line)=true)(hs:starEach (e::es) X.env=(false,eval e X.env)::starEach es X.env)(kT:(backTo pos (starEach es X.env)).any (·.1)=false) :
  PE X (.Call (.Attribute o name apos) (e::es) [] pos) (LE X.K Ξ (bo P (.eE p mo js))) :=
 (OL pa slot jD hm ho ha jg qj je hs kT).imp λcG H Q bz=>by
  obtain⟨U,g,ρ,s,R,h⟩:=bz;exact gb hP s R (.refl _ _) h λx g1 cE H1 v1 e1 R1 r1 h=>⟨hk R1 r1 h.1,kM hP (s.ext e1) R1 e1 h.2 λxs g2 ft H2 ws e2 R2 r2 h =>
   ⟨x,xs,g2,ft,R2,r1.ext e2,r2,u9 (λd g' h=>h.ext (e1.trans e2)) h⟩⟩
theorem a07{o:Expr}{mo:ME}{T:String}{name:Str}{id:String}{apos:Pos}(pa:PlainAttrs T)(slot:Slot T name id)(jD:typeOf (.builtin id)=pure (.type "method_descriptor"))(hm:nz X id (rM X.K p))(hk:∀{d:D} {v:V} {g:G} {ρ:List Addr} {H:Hp},Rl X.K ρ g H->d6 X.K ρ H d v->mr p d g->nC X.K T v H)(ho:PE X o (LE X.K Ξ (bo P mo)))(jg:attributeBase o name X.env (eval o X.env)=eval o X.env)(je:(apos.endLine==pos.line)=true) :
  PE X (.Call (.Attribute o name apos) [] [] pos) (LE X.K Ξ (bo P (.eE p mo .nil))) :=
 (QK pa slot jD hm ho jg je).imp λcG H Q bz=>by
  obtain⟨U,g,ρ,s,R,h⟩:=bz;exact gb hP s R (.refl _ _) h λx g1 cE H1 v1 e1 R1 r1 h=>⟨hk R1 r1 h.1,x,[],g1,cE,R1,r1,.nil,u9 (λd g' h=>h.ext e1) h.2⟩
theorem a10(hc:X.calm=true)(ha:PE X a (LE X.K Ξ (bo P ma)))(mW:Gl X "list")(mT:X.mg "list"=none)(hg:Gl X "range")(hm:X.mg "range"=none)(hs:starEach [a] X.env=[(false,eval a X.env)]) :
  PE X (.Call (.Name "list" p2) [.Call (.Name "range" q) [a] [] pos] [] jJ) (LE X.K Ξ (bo P (.prim .jb (.cons ma .nil)))) :=
 (O7 (Ip hc) mW mT (by rfl) (R6 (Yb hg hm (C5 hP ha (L4 hP) (by rw[hs];rfl)) hs) X9)).imp λcG H Q bz=>by
  obtain⟨U,g,ρ,s,R,h⟩:=bz;refine kM hP s R (.refl _ _) h λxs g1 cE H1 vs e1 R1 r1 h=>?_;obtain⟨d',g',⟨j,rfl,h1,h2,rfl,rfl⟩,q⟩:=h;obtain⟨v,rfl,rv⟩:=r1.one;obtain rfl:=rv.j8;refine⟨j,rfl,λq' hq=>⟨q',0,j,rfl,u7,⟨by omega,by omega,h1,by omega,by omega⟩,λp hp=>?_⟩⟩;rw[show(j-0).toNat=j.toNat by omega];exact(q.ext (e1.trans (B5 hq))).new (R1.grow hq) hp (c6.ml 0 _)
theorem a09(hc:X.calm=true)(ha:PE X a (LE X.K Ξ (bo P ma)))(hb:PE X b (LE X.K Ξ (bo P mb)))(mW:Gl X "list")(mT:X.mg "list"=none)(hg:Gl X "range")(hm:X.mg "range"=none)(hs:starEach [a,b] X.env=[(false,eval a X.env),(false,eval b X.env)])(gi:starEach [b] X.env=[(false,eval b X.env)]) :
  PE X (.Call (.Name "list" p2) [.Call (.Name "range" q) [a,b] [] pos] [] jJ) (LE X.K Ξ (bo P (.prim .kl (.cons ma (.cons mb .nil))))) :=
 (O7 (Ip hc) mW mT (by rfl) (R6 (Yc hg hm (C5 hP ha (C5 hP hb (L4 hP) (by rw[gi];rfl)) (by rw[hs,gi])) hs gi) X9)).imp λcG H Q bz=>by
  obtain⟨U,g,ρ,s,R,h⟩:=bz;refine kM hP s R (.refl _ _) h λxs g1 cE H1 vs e1 R1 r1 h=>?_;obtain⟨d',g',⟨i,j,rfl,hb,rfl,rfl⟩,q⟩:=h;obtain⟨v,w,rfl,rv,gh⟩:=r1.two;obtain rfl:=rv.j8;obtain rfl:=gh.j8;exact⟨i,j,rfl,λq' hq=>⟨q',i,j,rfl,u7,hb,λp hp=>(q.ext (e1.trans (B5 hq))).new (R1.grow hq) hp (c6.ml i _)⟩⟩
theorem TV(hc:X.calm=true)(ha:PE X a (LE X.K Ξ (bo P ma)))(mW:Gl X "sorted")(mT:X.mg "sorted"=none)(hg:Gl X "set")(hm:X.mg "set"=none)(hs:starEach [a] X.env=[(false,eval a X.env)]) :
  PE X (.Call (.Name "sorted" p2) [.Call (.Name "set" q) [a] [] pos] [] jJ) (LE X.K Ξ (bo P (.prim .sset (.cons ma .nil)))) :=
 (yG (V0 hc) mW mT (by rfl) (R6 (O7 (Ik hc) hg hm (by rfl) (C5 hP ha (L4 hP) (by rw[hs];rfl)) ∅ ∅ (by rw[hs];rfl) rfl) X9)).imp λcG H Q bz=>by
  obtain⟨U,g,ρ,s,R,h⟩:=bz;refine kM hP s R (.refl _ _) h λxs g1 cE H1 vs e1 R1 r1 h=>?_;obtain⟨d',g',⟨i,ns,rfl,hl,hz,rfl,rfl⟩,q⟩:=h;obtain⟨v,rfl,rv⟩:=r1.one;obtain⟨a',rfl,ra⟩:=rv.l6;obtain⟨ws,hq,rs⟩:=R1.items hl ra;obtain rfl:=rs.ints;refine⟨_,ns,rfl,hq,hz,λq' lO=>⟨q',ns,rfl,u7,hz,λp hp=>?_⟩⟩;exact(q.ext (e1.trans (B5 lO))).new (R1.grow lO) hp (c6.ofInts _)
theorem TM(hc:X.calm=true)(ha:PE X a (LE X.K Ξ (bo P ma)))(mW:Gl X "len")(mT:X.mg "len"=none)(hg:Gl X "set")(hm:X.mg "set"=none)(hs:starEach [a] X.env=[(false,eval a X.env)]) :
  PE X (.Call (.Name "len" p2) [.Call (.Name "set" q) [a] [] pos] [] jJ) (LE X.K Ξ (bo P (.prim .pB (.cons ma .nil)))) :=
 (yG WB mW mT PySem.boot_len (R6 (O7 (Ik hc) hg hm (by rfl) (C5 hP ha (L4 hP) (by rw[hs];rfl)) ∅ ∅ (by rw[hs];rfl) rfl) X9)).imp λcG H Q bz=>by
  obtain⟨U,g,ρ,s,R,h⟩:=bz;refine kM hP s R (.refl _ _) h λxs g1 cE H1 vs e1 R1 r1 h=>?_;obtain⟨d',g',⟨i,ns,rfl,hl,hz,rfl,rfl⟩,q⟩:=h;obtain⟨v,rfl,rv⟩:=r1.one;obtain⟨a',rfl,ra⟩:=rv.l6;obtain⟨ws,hq,rs⟩:=R1.items hl ra;obtain rfl:=rs.ints;refine⟨_,ns,rfl,hq,by omega,λq' lO=>⟨q',_,rfl,u7,?_⟩⟩;exact(q.ext (e1.trans (B5 lO))).now (R1.grow lO) (.int _)
theorem TU{i:Int}{j:Nat}(mZ:PySem.W.kdsCode X.K X.env.code=true):PE X (.Set [.Constant (.int i) j q] 0 pos) (LE X.K Ξ (bo P (.prim (.ka i) .nil))) :=
 (Td mZ).imp λcG H Q bz=>by
  obtain⟨U,g,ρ,s,R,h⟩:=bz;obtain⟨d',g',⟨_,rfl,rfl⟩,q⟩:=h;exact λp hp=>q (ρ++[p]) _ _ (H9 hp) (R.new hp (o:=.set (λk=>decide (k=i)) 1) (u:=.set (λk=>decide (k=i)) 1) ⟨rfl,rfl⟩) (.ref (R.A8 p))
theorem Rp{f:Str}(ha:PE X a (LE X.K Ξ (bo P ma)))(hb:attributeBase a f X.env (eval a X.env)=eval a X.env):PE X (.Attribute a f pos) (LE X.K Ξ (bo P (.prim (.fld f) (.cons ma .nil)))) :=
 (QL ha hb).imp λcG H Q bz=>by
  obtain⟨U,g,ρ,s,R,h⟩:=bz;refine gb hP s R (.refl _ _) h λx g1 cE H1 v1 e1 R1 r1 h=>?_;obtain⟨d',g',⟨i,c,fs,ex,hi,hf,rfl⟩,q⟩:=h;cases ex;obtain⟨a',rfl,ra⟩:=r1.l6;obtain⟨C,dx,vs,hH,_,hC,rk,na⟩:=R1.ins hi ra;have lk:=rk.look f;rw[hf] at lk;obtain⟨v,hv,rv⟩:=lk.some;exact⟨a',C,dx,vs,v,rfl,hH,hC,na _ (aP hf),hv,q cE H1 v e1 R1 rv⟩
end
section
variable{X:Cx}{pos:Pos}
theorem Ry{i:Nat}{x:Str}(hN:X.N[i]?=some x)(hv:we X.env.scope x)(hd:(x==("__debug__":Str))=false)(lR:(x==("__classdict__":Str))=false):PE X (.Name x pos) (LE X.K Ξ (bo P (.var i))) :=
 (QU hN hv hd lR).imp λcG H Q bz=>by
  obtain⟨U,g,ρ,s,R,h⟩:=bz;obtain⟨d,e,h⟩:=h;obtain⟨v,h1,h2⟩:=s.val _ _ e;exact⟨v,h1,h.now R h2⟩
theorem X4{e:Expr}{d:D}{v:V}(h:PE X e (tC v))(r:∀ρ H,d6 X.K ρ H d v):PE X e (LE X.K Ξ (bo P (.lit d))) :=
 h.imp λcG H Q bz=>by
  obtain⟨U,g,ρ,s,R,h⟩:=bz;exact LQ.now h R (r ρ H)
theorem TH:PE X (.Dict [] [] pos) (LE X.K Ξ (bo P (.prim .P5 .nil))) :=
 (a30 (X:=X)).imp λcG H Q ⟨U,g,ρ,s,R,h⟩ p hp=>by
  obtain⟨d',g',⟨_,rfl,rfl⟩,q⟩:=h;exact q (ρ++[p]) _ _ (H9 hp) (R.new hp (o:=.cY []) (u:=.dK []) j4.nil) (.ref (R.A8 p))
end
end M
namespace L2
open PySem PySem.Spec PyProof.Rows
end L2
namespace M
open PySem L2 PySem.Spec PyProof.Rows
variable{K:PySem.W.Frag}{H H0:Hp}{a fa C:Addr}{x:Str}{p:Pos}{k f j:Nat}{fd:FuncData}{ps:List Str}{gG:List Addr}{vs:List V}
inductive pq(K:PySem.W.Frag):List D->List (Str×V)->Prop
 |nil:pq K [] []
 |cons {x:Str} {d:D} {v:V} {ds:List D} {vs:List (Str×V)} (h:∀ρ H,d6 K ρ H d v) (r:pq K ds vs):pq K (.tup [.str x,d]::ds) ((x,v)::vs)
theorem pq.look{ρ:List Addr}{ds vs}(x:Str)(h:pq K ds vs):rg K ρ H (O3 ds x) (vs.lookup x):=by
 induction h with
 |nil=>trivial
 |cons h r ih =>
  rename_i y d v ds vs;unfold O3;rw[dI];by_cases e:x=y
  ·rw[aJ e,show(x==y)=true from by simp[e]];exact h ρ H
  ·rw[aF e,show(x==y)=false from by simpa using e];exact ih
def JU(X:Cx)(x:Str)(kvs:List D):Prop:=∃A vs,X.mg x=some (.ref A)/\xF X.K X.w.params A vs/\pq X.K kvs vs
section
variable{X:Cx}{Ξ:iH}{P:fu}(hP:i9 P){a c:Expr}{ma:ME}{pos:Pos}
include hP
theorem TK{kvs:List D}(hg:Gl X x)(hd:(x==("__debug__":Str))=false)(hG:JU X x kvs)(ha:PE X a (LE X.K Ξ (bo P ma)))(hs:Bu a):PE X (.Subscript (.Name x p) a pos) (LE X.K Ξ (bo P (.prim .nj (.cons (.lit (.tup kvs)) (.cons ma .nil))))):=by
 obtain⟨A,vs,hmg,hk,gr⟩:=hG;refine(Ko (Wk (kvs:=vs)) (Jk (v:=.ref A) hg hmg rfl hd) ha hs).imp λcG H Q bz=>?_;obtain⟨U,g,ρ,s,R,h⟩:=bz;refine gb hP s R (.refl _ _) h λd g1 cE H1 v1 e1 R1 r1 h=>?_;obtain⟨d',g',⟨jv,z,ex,hz,rfl⟩,q⟩:=h;cases ex;obtain rfl:=r1.DC;have lk:=gr.look (ρ:=cE) (H:=H1) z;rw[hz] at lk;obtain⟨w,hw,lk⟩:=lk.some;exact⟨A,z,w,rfl,hk,rfl,hw,q cE H1 _ e1 R1 lk⟩
omit hP in
def oQ(ex:List Str)(K:PySem.W.Frag)(n:Nat)(t:List D->G->KD->KX->Prop):Sp:=λvs H Q E=>vs.length=n/\∃ds g ρ,c6 K ρ H ds vs/\Rl K ρ g H/\t ds g (LQ K ρ H Q) (LX K ρ H (ex,E))
omit hP in
def oG(X:Cx)(P:fu)(ex:List Str)(k f:Nat)(fa:Addr)(fd:FuncData)(ps:List Str):Prop :=
 ie X.prog X.w X.K X.mg X.base (ky X.prog X.w) k fa fd ps (oQ ex X.K ps.length (P f))/\Binds X.K fd ps []/\∀ds g Q E,P f ds g Q E->ds.length=ps.length
theorem CY{k:Nat}(F:oG X P Ξ.1 k f fa fd ps){ρ:List Addr}{g:G}{xs:List D}{Q0:KD}{Q:VK}(e0:Ext gG H0 ρ H)(R:Rl X.K ρ g H)(r:c6 X.K ρ H xs vs)(h:P f xs g Q0 (LX X.K gG H0 Ξ))(k:∀d g',Q0 d g'->LQ X.K ρ H Q d g'):oQ Ξ.1 X.K ps.length (P f) (vs++[]) H Q Ξ.2:=by
 rw[cU];exact⟨by rw[<- r.length];exact F.2.2 _ _ _ _ h,xs,g,ρ,r,R,hP _ _ _ _ _ _ _ k (λ_ _ z=>LX.ext e0 z) h⟩
theorem TC{es:List Expr}{e:Expr}{js:ME}(hx:Passes (ky X.prog X.w) X Ξ.2)(F:oG X P Ξ.1 k f fa fd ps)(hr:x5 k X.A)(hg:Gl X x)(hm:X.mg x=some (.ref fa))(hk:PySem.W.keepIn X.K (.ref fa)=true)(ha:PA X (e::es) (LA X.K Ξ (gP P js)))(hd:(x==("__debug__":Str))=false)(fN:starEach (e::es) X.env=(false,eval e X.env)::starEach es X.env)(hU:(backTo pos (starEach es X.env)).any (·.1)=false):PE X (.Call (.Name x p) (e::es) [] pos) (LE X.K Ξ (bo P (.call f js))) :=
 (Ta F.1 hr hg hm hk F.2.1 .nil hx ha hd fN hU).imp λcG H Q bz=>by
  obtain⟨U,g,ρ,s,R,h⟩:=bz;exact kM hP s R (.refl _ _) h λxs g1 cE H1 vs e1 R1 r1 h=>CY hP F e1 R1 r1 h λd g' h=>h.ext e1
theorem a12(hx:Passes (ky X.prog X.w) X Ξ.2)(F:oG X P Ξ.1 k f fa fd ps)(hr:x5 k X.A)(hg:Gl X x)(hm:X.mg x=some (.ref fa))(hk:PySem.W.keepIn X.K (.ref fa)=true)(hd:(x==("__debug__":Str))=false):PE X (.Call (.Name x p) [] [] pos) (LE X.K Ξ (bo P (.call f .nil))) :=
 (a32 F.1 hr hg hm hk F.2.1 .nil hx hd).imp λcG H Q bz=>by
  obtain⟨U,g,ρ,s,R,h⟩:=bz;exact CY hP F (.refl _ _) R .nil h λd g' h=>h
theorem Je{c:Str}(F:oG X P Ξ.1 k f fa fd ps)(hC:F2 X.K c C)(hc:jV X.K C){ρ:List Addr}{g1:G}{xs:List D}{Q:VK}(e0:Ext gG H0 ρ H)(R:Rl X.K ρ g1 H)(r:c6 X.K ρ H xs vs)(h:P f (.ref g1.length::xs) (g1++[.ins c []]) (λd g2=>d=.bO/\LQ X.K gG H0 Q (.ref g1.length) g2) (LX X.K gG H0 Ξ)):∀x dx,H x=none->H dx=none->dx≠x->oQ Ξ.1 X.K ps.length (P f) (.ref x::(vs++[])) (upd (upd H dx (.own x)) x (.ins C dx [])) (λv H2=>v=.bO/\Q (.ref x) H2) Ξ.2:=by
 intro x dx hx Aj eZ;have wY:upd H dx (.own x) x=none:=by rw[f7 (cw eZ)];exact hx
 have R2:=R.grow (o:=.own x) Aj;have e2:Ext ρ H ρ (upd H dx (.own x)):=B5 Aj;have R3:=R2.new (o:=.ins c []) (u:=.ins C dx []) wY ⟨hC,hc,.nil,λx hx=>absurd hx (by simp)⟩;have e3:Ext ρ (upd H dx (.own x)) (ρ++[x]) (upd (upd H dx (.own x)) x (.ins C dx [])):=H9 wY;have:=CY hP F (e0.trans (e2.trans e3)) R3 (.cons (.ref (R.A8 x)) (r.ext (e2.trans e3))) h (Q:=λv H2=>v=.bO/\Q (.ref x) H2) λd g' q cq H' v e' R' r'=>by
  obtain⟨rfl,q⟩:=q;exact⟨r'.Dz,q cq H' _ (e0.trans (e2.trans (e3.trans e'))) R' (.ref (e'.get (R.A8 x)))⟩
 exact this
theorem TQ{es:List Expr}{e:Expr}{js:ME}(hx:Passes (ky X.prog X.w) X Ξ.2)(F:oG X P Ξ.1 k f fa fd ps)(M:Mk X.K C fa)(hC:F2 X.K x C)(hc:jV X.K C)(hr:x5 (k+1) X.A)(hg:Gl X x)(hm:X.mg x=some (.ref C))(ha:PA X (e::es) (LA X.K Ξ (gP P js)))(hd:(x==("__debug__":Str))=false)(fN:starEach (e::es) X.env=(false,eval e X.env)::starEach es X.env)(hU:(backTo pos (starEach es X.env)).any (·.1)=false):PE X (.Call (.Name x p) (e::es) [] pos) (LE X.K Ξ (bo P (.make x f js))) :=
 (Tc M F.1 hr hg hm F.2.1 .nil hx ha hd fN hU).imp λcG H Q bz=>by
  obtain⟨U,g,ρ,s,R,h⟩:=bz;exact kM hP s R (.refl _ _) h λxs g1 cE H1 vs e1 R1 r1 h=>Je hP F hC hc e1 R1 r1 h
theorem a08(hx:Passes (ky X.prog X.w) X Ξ.2)(F:oG X P Ξ.1 k f fa fd ps)(M:Mk X.K C fa)(hC:F2 X.K x C)(hc:jV X.K C)(hr:x5 (k+1) X.A)(hg:Gl X x)(hm:X.mg x=some (.ref C))(hd:(x==("__debug__":Str))=false):PE X (.Call (.Name x p) [] [] pos) (LE X.K Ξ (bo P (.make x f .nil))) :=
 (a28 M F.1 hr hg hm F.2.1 .nil hx hd).imp λcG H Q bz=>by
  obtain⟨U,g,ρ,s,R,h⟩:=bz;exact Je hP F hC hc (.refl _ _) R .nil h
end
inductive nv(K:PySem.W.Frag)(ρ:List Addr)(H:Hp):List D->List (V×V)->Prop
 |nil:nv K ρ H [] []
 |cons {k d:D} {x y:V} {ds:List D} {ps:List (V×V)} (h1:d6 K ρ H k x) (h2:d6 K ρ H d y) (r:nv K ρ H ds ps):nv K ρ H (k::d::ds) ((x,y)::ps)
section
variable{X:Cx}{Ξ:iH}{P:fu}(hP:i9 P)
inductive wy(X:Cx)(Ξ:iH)(P:fu):List (Option Expr)->List Expr->ME->List (TE×TE)->Prop
 |nil:wy X Ξ P [] [] .nil []
 |cons {k v:Expr} {ks:List (Option Expr)} {vs:List Expr} {mk mv ms:ME} {wG:List (TE×TE)} (hk:PE X k (LE X.K Ξ (bo P mk))) (hv:PE X v (LE X.K Ξ (bo P mv))) (r:wy X Ξ P ks vs ms wG) :
   wy X Ξ P (some k::ks) (v::vs) (.cons mk (.cons mv ms)) ((LE X.K Ξ (bo P mk),LE X.K Ξ (bo P mv))::wG)
theorem wy.len{ks vs ms wG}(h:wy X Ξ P ks vs ms wG):ks.all (·.isSome)=true/\ks.length=vs.length:=by
 induction h with
 |nil=>exact⟨rfl,rfl⟩
 |cons hk hv r ih=>exact⟨by simpa using ih.1,by simp[ih.2]⟩
include hP
end
theorem Wq{l:List D}(ht:TupAt K H0 a vs)(rs:c6 K gG H0 l vs):W7 K gG H0 (.fix l) (DT K a):=by
 intro ρ g H e R i;have uM:=ht.ext e;have wO:=rs.ext e;refine⟨λh=>⟨vs,uM.sq,?_⟩,λd h=>?_⟩
 ·have:=dg.mp (aL h);rw[<- wO.length];exact this
 ·obtain⟨v,hv,rv⟩:=wO.get (aL h);refine⟨⟨vs,v,uM.sq,hv⟩,λw H' y=>?_⟩;obtain⟨rfl,y⟩:=y;have:=y vs uM.sq;rw[hv] at this;cases this;exact⟨.refl _ _,R,rv⟩
theorem Wn(ha:gG[j]?=some a):W7 K gG H0 (.lst j) (DU K a):=by
 intro ρ g H e R i;have lT:=e.get ha;refine⟨λh=>?_,λd h=>?_⟩
 ·simp only[IK.at] at h;cases el:d0 g j with
  |none=>simp_all
  |some l =>
   rw[el] at h;obtain⟨vs,hq,rs⟩:=R.items el lT;refine⟨vs,hq,?_⟩;have:=dg.mp (aL h);rw[<- rs.length];exact this
 ·simp only[IK.at] at h;cases el:d0 g j with
  |none=>simp_all
  |some l =>
   rw[el] at h;obtain⟨vs,hq,rs⟩:=R.items el lT;obtain⟨v,hv,rv⟩:=rs.get (aL h);refine⟨⟨vs,v,hq,hv⟩,λw H' y=>?_⟩;obtain⟨rfl,y⟩:=y;have:=y vs hq;rw[hv] at this;cases this;exact⟨.refl _ _,R,rv⟩
theorem Ki{lo:Int}{n:Nat}:W7 K gG H0 (.fix (i8 lo n)) (wq lo n):=by
 unfold i8;intro ρ g H e R i;refine⟨λh=>?_,λd h=>?_⟩
 ·have:=dg.mp (aL h);show n<=i;simpa using this
 ·have h:=aL h;have hi:i<n:=by
   have:=(av.mp h).1
   simp_all
  rw[ae,cb hi] at h;cases h;refine⟨hi,λw H' y=>?_⟩;obtain⟨rfl,rfl⟩:=y;exact⟨.refl _ _,R,.int _⟩
theorem Wo{n:Nat}(ha:gG[j]?=some a):W7 K gG H0 (.rF j n) (DS K a n):=by
 intro ρ g H e R i;have lT:=e.get ha;refine⟨λh=>?_,λd h=>?_⟩
 ·simp only[IK.at] at h;cases el:d0 g j with
  |none=>simp_all
  |some l =>
   rw[el] at h;dsimp only at h;by_cases hl:l.length=n
   ·rw[aJ hl] at h;have h:=aL h;by_cases hi:i<n
    ·rw[aJ hi] at h;have:=dg.mp h;omega
    ·exact Nat.le_of_not_lt hi
   simp_all
 ·simp only[IK.at] at h;cases el:d0 g j with
  |none=>simp_all
  |some l =>
   rw[el] at h;dsimp only at h;by_cases hl:l.length=n
   ·rw[aJ hl] at h;have h:=aL h;by_cases hi:i<n
    ·rw[aJ hi] at h;obtain⟨vs,hq,rs⟩:=R.items el lT;obtain⟨v,hv,rv⟩:=rs.get h;refine⟨⟨vs,v,hq,by rw[<- rs.length];exact hl,hi,hv⟩,λw H' y=>?_⟩;obtain⟨rfl,y⟩:=y;have:=y vs hq;rw[hv] at this;cases this;exact⟨.refl _ _,R,rv⟩
    ·rw[aF hi] at h;cases h
   simp_all
theorem Wm(ha:gG[j]?=some a):W7 K gG H0 (.ow j) (DV K a):=by
 intro ρ g H e R i;have lT:=e.get ha;refine⟨λh=>?_,λd h=>?_⟩
 ·simp only[IK.at] at h;cases el:d0 g j with
  |none=>rw[el] at h;cases h
  |some l =>
   rw[el] at h;obtain⟨vs,hq,rs⟩:=R.items el lT;refine⟨vs,hq,?_⟩;have h:=aL h;rw[Option.map_eq_none_iff] at h;have:=dg.mp h;rw[<- rs.length];exact this
 ·simp only[IK.at] at h;cases el:d0 g j with
  |none=>simp_all
  |some l =>
   rw[el] at h;obtain⟨vs,hq,rs⟩:=R.items el lT;have h:=aL h;rw[aa] at h;obtain⟨d',hd,rfl⟩:=h;obtain⟨v,hv,rv⟩:=rs.get hd;refine⟨⟨vs,v,hq,hv⟩,λw H' y=>?_⟩;obtain⟨p,x,hp,rfl,y,rfl⟩:=y;have:=y vs hq;rw[hv] at this;cases this;exact⟨B5 hp,R.grow hp,.tup (.inl u7) (.cons (.int _) (.cons (rv.ext (B5 hp)) .nil))⟩
end M
namespace L2
open PySem PySem.Spec PyProof.Rows
theorem QY{X:Cx}{tg l:Expr}{tl:TE}(hl:PE X l tl):PI X tg l (λU H R=>tl U H λx H1=>(∃a,x=.ref a/\(∃xs,fO X.K H1 a xs)/\R (DU X.K a) H1)\/(∃a,x=.ref a/\(∃xs,jU X.K H1 a xs)/\R (DT X.K a) H1)):=by
 intro pins s U H R I h;refine cQ (hl pins s U H _ I h) λv s1 bz=>?_;obtain⟨x,H1,I1,r1,q1⟩:=bz;rcases q1 with⟨a,e,⟨xs,hq⟩,q⟩|⟨a,e,⟨xs,hq⟩,q⟩
 ·subst e;cases r1;obtain⟨bp,rv,p,hz⟩:=I1.list hq;refine iJ p.isList ?_;refine⟨s1.heap.objs.size,[s1.heap.objs.size],_,_,H1,rfl,I1.kept (t':=s1.toks) λb o e=>ao _ e,Yt a _,⟨_,aB _ rfl,rfl,rfl⟩,λb hb=>?_,q⟩;have e:b=s1.heap.objs.size:=by simpa using hb
  subst e;exact I1.pz (ai _) (I1.cu.fresh (ai _))
 ·subst e;cases r1;obtain⟨bp,rv,p,hz⟩:=I1.tuple hq;refine wpAny_pyIter_tuple (show s1.heap.IsTuple a bp.toArray from p) ?_;refine⟨s1.heap.objs.size,[s1.heap.objs.size],_,_,H1,rfl,I1.kept (t':=s1.toks) λb o e=>ao _ e,Ze a _,⟨_,aB _ rfl,rfl,rfl⟩,λb hb=>?_,q⟩;have e:b=s1.heap.objs.size:=by simpa using hb
  subst e;exact I1.pz (ai _) (I1.cu.fresh (ai _))
end L2
namespace M
open PySem L2 PySem.Spec PyProof.Rows
variable{X:Cx}{tg:Expr}{pos p tp:Pos}{i:Nat}{x:Str}{t:MT}{mi:ME}
section
variable{Ξ:iH}{P:fu}(hP:i9 P){a b:Expr}{ma mb:ME}
include hP
theorem RC(ha:PE X a (LE X.K Ξ (bo P ma))):PI X tg a (LI X.K Ξ (gI P (.fc ma))) :=
 (QY ha).imp λcG H R bz=>by
  obtain⟨U,g,ρ,s,Rr,h⟩:=bz;refine gb hP s Rr (.refl _ _) h λx g1 cE H1 v1 e1 R1 r1 h=>?_;rcases h with⟨l,rfl,h⟩|⟨i,l,rfl,hl,h⟩
  ·obtain⟨a',vs,rfl,ht,rs⟩:=r1.Bn;exact .inr ⟨_,rfl,⟨_,ht.sq⟩,h cE H1 _ e1 R1 (Wq ht rs)⟩
  ·obtain⟨a',rfl,lT⟩:=r1.l6;obtain⟨vs,hq,rs⟩:=R1.items hl lT;exact .inl ⟨_,rfl,⟨_,hq⟩,h cE H1 _ e1 R1 (Wn lT)⟩
theorem Ua{elts:List Expr}{x1:Nat}(ha:PE X a (LE X.K Ξ (bo P ma)))(hg:Gl X "enumerate")(hm:X.mg "enumerate"=none)(hs:starEach [a] X.env=[(false,eval a X.env)]):PI X (.Tuple elts x1 tp) (.Call (.Name "enumerate" p) [a] [] pos) (LI X.K Ξ (gI P (.kS ma))) :=
 (Tf hg hm (C5 hP ha (L4 hP) (by rw[hs];rfl)) hs).imp λcG H R bz=>by
  obtain⟨U,g,ρ,s,Rr,h⟩:=bz;refine kM hP (m:=.cons ma .nil) s Rr (.refl _ _) (Q0:=λxs g1=>∃a l,xs=[.ref a]/\d0 g1 a=some l/\∀cq H' J,Ext ρ H cq H'->Rl X.K cq g1 H'->W7 X.K cq H' (.ow a) J->R J H') ?_ λxs g1 cE H1 vs e1 R1 r1 h=>?_
  ·exact b9 hP ma _ _ _ _ _ _ (λx g1 ⟨i,l,e,hl,h⟩=>⟨i,l,by rw[e],hl,h⟩) (λ_ _ z=>z) h
  ·obtain⟨j,l,rfl,hl,h⟩:=h;obtain⟨v,rfl,rv⟩:=r1.one;obtain⟨a',rfl,ra⟩:=rv.l6;obtain⟨vs,hq,rs⟩:=R1.items hl ra;exact⟨_,rfl,⟨_,hq⟩,h cE H1 _ e1 R1 (Wm ra)⟩
theorem RB(ha:PE X a (LE X.K Ξ (bo P ma)))(hg:Gl X "reversed")(hm:X.mg "reversed"=none)(hs:starEach [a] X.env=[(false,eval a X.env)]):PI X tg (.Call (.Name "reversed" p) [a] [] pos) (LI X.K Ξ (gI P (.nD ma))) :=
 (QX hg hm (C5 hP ha (L4 hP) (by rw[hs];rfl)) hs).imp λcG H R bz=>by
  obtain⟨U,g,ρ,s,Rr,h⟩:=bz;refine kM hP (m:=.cons ma .nil) s Rr (.refl _ _) (Q0:=λxs g1=>∃a l,xs=[.ref a]/\d0 g1 a=some l/\∀cq H' J,Ext ρ H cq H'->Rl X.K cq g1 H'->W7 X.K cq H' (.rF a l.length) J->R J H') ?_ λxs g1 cE H1 vs e1 R1 r1 h=>?_
  ·exact b9 hP ma _ _ _ _ _ _ (λx g1 ⟨i,l,e,hl,h⟩=>⟨i,l,by rw[e],hl,h⟩) (λ_ _ z=>z) h
  ·obtain⟨j,l,rfl,hl,h⟩:=h;obtain⟨v,rfl,rv⟩:=r1.one;obtain⟨a',rfl,ra⟩:=rv.l6;obtain⟨vs,hq,rs⟩:=R1.items hl ra;exact⟨_,vs,rfl,hq,h cE H1 _ e1 R1 (by rw[rs.length];exact Wo ra)⟩
theorem Ub(ha:PE X a (LE X.K Ξ (bo P ma)))(hg:Gl X "range")(hm:X.mg "range"=none)(hs:starEach [a] X.env=[(false,eval a X.env)]):PI X tg (.Call (.Name "range" p) [a] [] pos) (LI X.K Ξ (gI P (.dW ma))) :=
 (Yg hg hm (C5 hP ha (L4 hP) (by rw[hs];rfl)) hs).imp λcG H R bz=>by
  obtain⟨U,g,ρ,s,Rr,h⟩:=bz;refine kM hP (m:=.cons ma .nil) s Rr (.refl _ _) (Q0:=λxs g1=>∃j:Int,xs=[.int j]/\-(2 ^ 62)<=j/\j<2 ^ 62/\∀cq H' J,Ext ρ H cq H'->Rl X.K cq g1 H'->W7 X.K cq H' (.fix (i8 0 j.toNat)) J->R J H') ?_ λxs g1 cE H1 vs e1 R1 r1 h=>?_
  ·exact b9 hP ma _ _ _ _ _ _ (λx g1 ⟨j,e,h1,h2,h⟩=>⟨j,by rw[e],h1,h2,h⟩) (λ_ _ z=>z) h
  ·obtain⟨j,rfl,h1,h2,h⟩:=h;obtain⟨v,rfl,rv⟩:=r1.one;obtain rfl:=rv.j8;exact⟨_,rfl,h1,h2,h cE H1 _ e1 R1 Ki⟩
theorem Uc(ha:PE X a (LE X.K Ξ (bo P ma)))(hb:PE X b (LE X.K Ξ (bo P mb)))(hg:Gl X "range")(hm:X.mg "range"=none)(hs:starEach [a,b] X.env=[(false,eval a X.env),(false,eval b X.env)])(gi:starEach [b] X.env=[(false,eval b X.env)]) :
  PI X tg (.Call (.Name "range" p) [a,b] [] pos) (LI X.K Ξ (gI P (.ko ma mb))) :=
 (Yh hg hm (C5 hP ha (C5 hP hb (L4 hP) (by rw[gi];rfl)) (by rw[hs,gi])) hs gi).imp λcG H R bz=>by
  obtain⟨U,g,ρ,s,Rr,h⟩:=bz;refine kM hP (m:=.cons ma (.cons mb .nil)) s Rr (.refl _ _) (Q0:=λxs g1=>∃i j:Int,xs=[.int i,.int j]/\(-(2 ^ 62)<=i/\i<2 ^ 62/\-(2 ^ 62)<=j/\j<2 ^ 62)/\∀cq H' J,Ext ρ H cq H'->Rl X.K cq g1 H'->W7 X.K cq H' (.fix (i8 i (j-i).toNat)) J->R J H') ?_ λxs g1 cE H1 vs e1 R1 r1 h=>?_
  ·exact b9 hP ma _ _ _ _ _ _ (λx g1 h=>b9 hP mb _ _ _ _ _ _ (λy g2 ⟨i,j,e,e',h1,h⟩=>⟨i,j,by rw[e,e'],h1,h⟩) (λ_ _ z=>z) h) (λ_ _ z=>z) h
  ·obtain⟨i,j,rfl,h1,h⟩:=h;obtain⟨v,w,rfl,rv,gh⟩:=r1.two;obtain rfl:=rv.j8;obtain rfl:=gh.j8;exact⟨_,_,rfl,h1,h cE H1 _ e1 R1 Ki⟩
end
theorem RA(hN:X.Nd)(hi:X.N[i]?=some x)(hx:Loc X.env.scope x)(hf:X.fn x=true\/X.env.scope.names.lookup x=some .local):PG X (.Name x pos) (LG X.K (.one i)) :=
 (Jl hN hi hx hf).imp λv cG H Q hq=>by
  obtain⟨d,U,g,ρ,s,R,r,h⟩:=hq;exact h _ (s.set i r)
inductive fT(X:Cx):List Expr->List Nat->Prop
 |nil:fT X [] []
 |cons {x:Str} {p:Pos} {i:Nat} {es:List Expr} {is:List Nat} (hi:X.N[i]?=some x) (hx:Loc X.env.scope x) (hf:X.fn x=true\/X.env.scope.names.lookup x=some .local) (r:fT X es is):fT X (.Name x p::es) (i::is)
def Ds:List Nat->pD
 |[]=>GD
 |i::is=>Kf (sV i) (Ds is)
theorem Yf(hN:X.Nd){es:List Expr}{is:List Nat}(h:fT X es is):wj X es (Ds is):=by
 induction h with
 |nil=>exact Te
 |cons hi hx hf r ih=>exact a25 (Jl hN hi hx hf) ih rfl
theorem Cs:∀{es:List Expr} {is:List Nat},fT X es is->(assignEach es X.env).length=is.length/\(assignEach es X.env).findIdx? (·.1)=none
 |_,_,.nil=>⟨rfl,rfl⟩
 |_,_,.cons (x:=x) (p:=p) (es:=es) hi hx hf r=>by
  obtain⟨h1,h2⟩:=Cs r;have e:assignEach (.Name x p::es) X.env=(false,assign (.Name x p) X.env)::assignEach es X.env:=rfl;rw[e];refine⟨by simp[h1],?_⟩;rw[List.findIdx?_cons,h2]
  rfl
theorem Hi{K:PySem.W.Frag}{ρ:List Addr}{H:Hp}{k:S->Prop}{Q:L2.St->Hp->Prop}:∀{is:List Nat} {l:List D} {vs:List V} {U bZ:S} {cG:L2.St},O5 is l U=some bZ->c6 K ρ H l vs->u3 K ρ H U cG->(∀dA,u3 K ρ H bZ dA->Q dA H)->Ds is vs cG H Q
 |[],_,_,_,_,_,h,.nil,s,q=>by
  cases h;exact⟨rfl,q _ s⟩
 |[],_,_,_,_,_,h,.cons _ _,s,q=>by cases h
 |i::is,_,_,_,_,_,h,.nil,s,q=>by cases h
 |i::is,_,_,_,_,_,h,.cons r rr,s,q=>by
  exact⟨_,_,rfl,Hi (k:=k) h rr (s.set i r) q⟩
theorem HP:∀{is:List Nat} {l:List D} {U bZ:S},O5 is l U=some bZ->l.length=is.length
 |[],[],_,_,_=>rfl
 |[],_::_,_,_,h=>by simp only[O5] at h;cases h
 |_::_,[],_,_,h=>by simp only[O5] at h;cases h
 |_::is,_::l,_,_,h=>by simp only[O5] at h;simp[HP h]
theorem Jr{es:List Expr}{is:List Nat}{k:Nat}(hc:X.calm=true)(hN:X.Nd)(hs:fT X es is):PG X (.Tuple es k pos) (LG X.K (.many is)) :=
 (QW hc (Yf hN hs) (Cs hs).1 (Cs hs).2).imp λv cG H Q bz=>by
  obtain⟨d,U,g,ρ,s,R,r,h⟩:=bz;obtain⟨l,bZ,rfl,e,h⟩:=h;obtain⟨a',vs,rfl,ht,rs⟩:=r.Bn;exact⟨_,_,rfl,ht.sq,by rw[<- rs.length];exact HP e,Hi (k:=λ_=>True) e rs s h⟩
theorem LN.ext{K ρ H N cE H1}(e:Ext ρ H cE H1):(LN K ρ H N).le (LN K cE H1 N) :=
 ⟨λU g h cq H' dA e' R s=>h cq H' dA (e.trans e') R s,λd g h=>h.ext e,λU g h cq H' dA e' R s=>h cq H' dA (e.trans e') R s,λU g h cq H' dA e' R s=>h cq H' dA (e.trans e') R s⟩
section
variable{Ξ:iH}{P:fu}(hP:i9 P){a b c:Expr}{ma mb mc:ME}{st:Stmt}{rest:List Stmt}{zz mO:MS}
include hP
theorem RE:jP X [] (LS X.K Ξ (wpS P .pass)) :=
 (To (X:=X)).imp λN cG H ⟨U,g,ρ,s,R,h⟩=>h ρ H cG (.refl _ _) R s
theorem Ue(h1:PS X st (LS X.K Ξ (wpS P zz)))(h2:jP X rest (LS X.K Ξ (wpS P mO))):jP X (st::rest) (LS X.K Ξ (wpS P (.seq zz mO))) :=
 (a22 h1 h2).imp λN cG H ⟨U,g,ρ,s,R,h⟩ =>
  rA hP s R (.refl _ _) (show wpS P zz { LN X.K ρ H N with nx:=λiL g1=>wpS P mO (LN X.K ρ H N) iL g1 (LX X.K ρ H Ξ) } U g (LX X.K ρ H Ξ) from h) ⟨λiL g1 h cE H1 Lc e1 R1 s1=>rA hP s1 R1 e1 h (LN.ext e1),λ_ _ z=>z,λ_ _ z=>z,λ_ _ z=>z⟩
theorem Ui(ha:PE X a (LE X.K Ξ (bo P ma)))(hs:swapsWith a none pos.line X.env=pure false):PS X (.Expr a pos) (LS X.K Ξ (wpS P (.expr ma))) :=
 (Ti ha hs).imp λN cG H ⟨U,g,ρ,s,R,h⟩=>gb hP s R (.refl _ _) h λx g1 cE H1 v1 e1 R1 r1 h=>h cE H1 cG e1 R1 (s.ext e1)
theorem IP(h0:PS X (.Assign [.Name x p] a pos) (vD (LE X.K Ξ (bo P ma)) (sV i))):PS X (.Assign [.Name x p] a pos) (LS X.K Ξ (wpS P (.set i ma))) :=
 h0.imp λN cG H ⟨U,g,ρ,s,R,h⟩=>gb hP s R (.refl _ _) h λx g1 cE H1 v1 e1 R1 r1 h=>h cE H1 _ e1 R1 ((s.ext e1).set i r1)
theorem RP(h0:PS X (.Assign [tg] a pos) (vD (LE X.K Ξ (bo P ma)) (LG X.K t))):PS X (.Assign [tg] a pos) (LS X.K Ξ (wpS P (.lK t ma))) :=
 h0.imp λN cG H ⟨U,g,ρ,s,R,h⟩=>gb hP s R (.refl _ _) h λx g1 cE H1 v1 e1 R1 r1 h=>⟨x,U,g1,cE,s.ext e1,R1,r1,x6 (λbZ h dA s'=>h cE H1 dA e1 R1 s') h⟩
theorem a01(hu:X.A.units+100<cLine){o i:Expr}{mo:ME}(ha:PE X a (LE X.K Ξ (bo P ma)))(ho:PE X o (LE X.K Ξ (bo P mo)))(hi:PE X i (LE X.K Ξ (bo P mi)))(hs:swapsWithSole [.Subscript o i tp] a pos.line X.env=pure false)(lT:∀ v,assign (.Subscript o i tp) X.env v=(do
   let ov <- holding [v] (eval o X.env)
   let iv <- holding [v,ov] (eval i X.env)
   standAt tp
   holding [v,ov,iv] (setItem ov iv v)
   release [v,ov,iv] [])):PS X (.Assign [.Subscript o i tp] a pos) (LS X.K Ξ (wpS P (.dS mo mi ma))) :=
 (IF ha (QV ho hi (Rz hu) lT) hs).imp λN cG H ⟨U,g,ρ,s,R,h⟩ =>
  gb hP s R (.refl _ _) h λx g1 cE H1 v1 e1 R1 r1 h=>gb hP (s.ext e1) R1 e1 h λy g2 ft H2 v2 e2 R2 r2 h=>gb hP (s.ext (e1.trans e2)) R2 (e1.trans e2) h λz g3 jo H3 v3 e3 R3 r3 h =>
   ⟨y,z,x,g3,jo,R3,r2.ext e3,r3,r1.ext (e2.trans e3),U2 (λg4 h pJ H4 e4 R4=>h pJ H4 cG (e1.trans (e2.trans (e3.trans e4))) R4 (s.ext (e1.trans (e2.trans (e3.trans e4))))) h⟩
omit hP in
def Dk(K:PySem.W.Frag)(f:Str)(cs:List Str):Prop:=∀c C,c∈cs->F2 K c C->C0 K C f
omit hP in
theorem TZ{f:Str}{cs:List Str}(hF:Dk X.K f cs){ρ:List Addr}{H:Hp}{g g':G}{x v:D}{xv vv:V}(R:Rl X.K ρ g H)(rx:d6 X.K ρ H x xv)(rv:d6 X.K ρ H v vv)(h:Ks f cs x v g g') :
  ∃a C dx fs,xv=.ref a/\H a=some (.ins C dx fs)/\jV X.K C/\C0 X.K C f/\fs.length<1000/\Rl X.K ρ g' (upd H a (.ins C dx (A9 f vv fs)))/\Ext ρ H ρ (upd H a (.ins C dx (A9 f vv fs))):=by
 obtain⟨i,c,fs,rfl,hi,hc,hz,rfl⟩:=h;obtain⟨a',rfl,ra⟩:=rx.l6;obtain⟨C,dx,vs,hH,hC,jS,rk,na⟩:=R.ins hi ra;obtain⟨R',e'⟩:=R.put (o':=.ins c (l9 f v fs)) (u:=.ins C dx (A9 f vv vs)) hi rfl ra ⟨hC,jS,rk.A9 rv,HN (p:=λy=>C0 X.K C y) (hF c C hc hC) na⟩;exact⟨a',C,dx,vs,rfl,hH,jS,hF c C hc hC,by rw[<- rk.length];omega,R',e'⟩
theorem Uj{f:Str}{cs:List Str}{o:Expr}{mo:ME}(hF:Dk X.K f cs)(ho:PE X o (LE X.K Ξ (bo P mo)))(ha:PE X a (LE X.K Ξ (bo P ma)))(hs:swapsWith a (some (.Attribute o f tp)) pos.line X.env=pure false):PS X (.Assign [.Attribute o f tp] a pos) (LS X.K Ξ (wpS P (.iz f cs mo ma))) :=
 (Rb ho ha hs).imp λN cG H ⟨U,g,ρ,s,R,h⟩=>gb hP s R (.refl _ _) h λx g1 cE H1 v1 e1 R1 r1 h=>gb hP (s.ext e1) R1 e1 h λy g2 ft H2 v2 e2 R2 r2 h=>by
  obtain⟨g3,h,q⟩:=h;obtain⟨a',C,dx,fs,hx,hH,jS,na,hz,R3,e3⟩:=TZ hF R2 r2 (r1.ext e2) h;exact⟨a',C,dx,fs,hx,hH,jS,na,hz,q ft _ cG (e1.trans (e2.trans e3)) R3 (s.ext (e1.trans (e2.trans e3)))⟩
theorem Uh{op:Operator}{p:Pr}(My:(op=.Add/\p=.iadd)\/(op=.Sub/\p=.mP))(hN:X.Nd)(hi:X.N[i]?=some x)(hx:Loc X.env.scope x)(hf:X.fn x=true\/X.env.scope.names.lookup x=some .local)(ha:PE X a (LE X.K Ξ (bo P ma))):PS X (.AugAssign (.Name x tp) op a pos) (LS X.K Ξ (wpS P (.kx i p ma))):=by
 have ho:KA X op (r2 X.K p):=by
  intro pins s U H x y v u Q I rx ry h;obtain⟨d,e,g,ρ,R,rd,re,d',g',hr,q⟩:=h;rcases My with⟨rfl,rfl⟩|⟨rfl,rfl⟩
  ·rcases hr with⟨i,j,ex,rfl,rfl⟩|z
   ·obtain⟨rfl,rfl⟩:=M7 ex;obtain rfl:=rd.j8;obtain rfl:=re.j8;exact Sx pins s U H _ _ v u Q I rx ry ⟨i,j,rfl,rfl,q.now R (.int _)⟩
   ·exact z.elim
  ·obtain⟨i,j,ex,rfl,rfl⟩:=hr;obtain⟨rfl,rfl⟩:=M7 ex;obtain rfl:=rd.j8;obtain rfl:=re.j8;exact Sy pins s U H _ _ v u Q I rx ry ⟨i,j,rfl,rfl,q.now R (.int _)⟩
 refine(Ra hN hi hx ha ho hf).imp λN cG H bz=>?_;obtain⟨U,g,ρ,s,R,h⟩:=bz;obtain⟨xd,Mn,h⟩:=h;obtain⟨xv,hv,rx⟩:=s.val _ _ Mn;refine⟨xv,hv,gb hP s R (.refl _ _) h λz g1 cE H1 v1 e1 R1 r1 h=>?_⟩;refine⟨xd,z,g1,cE,R1,rx.ext e1,r1,u9 (λw g2 q=>?_) h⟩;exact λft H2 v2 e2 R2 r2=>q ft H2 _ (e1.trans e2) R2 ((s.ext (e1.trans e2)).set i r2)
theorem Pb{sa sb:List Stmt}{EU msb:MS}(hc:PT X c (LT X.K Ξ (et P mc)))(ha:jP X sa (LS X.K Ξ (wpS P EU)))(hb:jP X sb (LS X.K Ξ (wpS P msb))):PS X (.If c sa sb pos) (LS X.K Ξ (wpS P (.ifs mc EU msb))) :=
 (OQ hc ha hb).imp λN cG H ⟨U,g,ρ,s,R,h⟩=>oO hP s R (.refl _ _) h λt g1 cE H1 e1 R1 h=>by
  cases t
  ·exact rA hP (s.ext e1) R1 e1 h (LN.ext e1)
  ·exact rA hP (s.ext e1) R1 e1 h (LN.ext e1)
theorem RO(ha:PE X a (LE X.K Ξ (bo P ma))):PS X (.Return (some a) pos) (LS X.K Ξ (wpS P (.ret ma))) :=
 (Rf ha).imp λN cG H ⟨U,g,ρ,s,R,h⟩=>⟨U,g,ρ,s,R,h⟩
theorem a00{body:List Stmt}{mb:MS}(hp:PassesOwn (model X.prog X.w) X.A X.env X.xe)(hc:PT X c (LT X.K Ξ (et P mc)))(hb:jP X body (LS X.K Ξ (wpS P mb))):PS X (.While c body [] pos) (LS X.K Ξ (wpS P (.jZ mc mb))) :=
 (a23 hp hc hb).imp λN cG H bz=>by
  obtain⟨U,g,ρ,s,R,h⟩:=bz;obtain⟨W,⟨m0,w0⟩,h⟩:=h;refine⟨λm dA H'=>∃bZ g' cq,Ext ρ H cq H'/\u3 X.K cq H' bZ dA/\Rl X.K cq g' H'/\W m bZ g',⟨m0,U,g,ρ,.refl _ _,s,R,w0⟩,?_⟩;rintro m dA H' ⟨bZ,g',cq,e1,s',R',w'⟩;refine oO hP s' R' e1 (h m bZ g' w') λt g1 cE H1 e2 R1 q=>?_;cases t
  ·exact q cE H1 dA (e1.trans e2) R1 (s'.ext e2)
  ·obtain⟨N2,lU,q⟩:=q;refine⟨λjY H2=>∃cC g2 ft,Ext ρ H ft H2/\u3 X.K ft H2 cC jY/\Rl X.K ft g2 H2/\N2 cC g2,?_,?_⟩
   ·rintro jY H2 ⟨cC,g2,ft,e3,s2,R2,n2⟩;obtain⟨m',hm,w2⟩:=lU cC g2 n2;exact⟨m',hm,cC,g2,ft,e3,s2,R2,w2⟩
   ·refine rA hP (s'.ext e2) R1 (e1.trans e2) q ⟨?_,?_,?_,?_⟩
    ·exact λiw g3 n3 jo H3 kL e3 R3 s3=>⟨iw,g3,jo,(e1.trans e2).trans e3,s3,R3,n3⟩
    ·exact λd g3 h=>h.ext (e1.trans e2)
    ·exact λiw g3 h jo H3 kL e3 R3 s3=>h jo H3 kL ((e1.trans e2).trans e3) R3 s3
    ·exact λiw g3 n3 jo H3 kL e3 R3 s3=>⟨iw,g3,jo,(e1.trans e2).trans e3,s3,R3,n3⟩
theorem RN{iter:Expr}{body:List Stmt}{mb:MS}(hp:PassesOwn (model X.prog X.w) X.A X.env X.xe)(hc:X.calm=true)(hi:PI X tg iter (LI X.K Ξ (gI P mi)))(hg:PG X tg (LG X.K t))(hb:jP X body (LS X.K Ξ (wpS P mb)))(hs:∀x,foldedSetIterable iter X.env x=pure x):PS X (.For tg iter body [] pos) (LS X.K Ξ (wpS P (.dC t mi mb))) :=
 (Rc hp hc hi hg hb hs).imp λN cG H bz=>by
  obtain⟨U,g,ρ,s,R,h⟩:=bz;refine⟨U,g,ρ,s,R,A5 hP mi _ _ _ _ _ _ (λk g1 h cE H1 J e1 R1 j1=>?_) (λ_ _ z=>z) h⟩;obtain⟨W,⟨m0,w0⟩,h⟩:=h;refine⟨λi m dA H'=>∃bZ g' cq,Ext cE H1 cq H'/\u3 X.K cq H' bZ dA/\Rl X.K cq g' H'/\W i m bZ g',⟨m0,U,g1,cE,.refl _ _,s.ext e1,R1,w0⟩,?_⟩;rintro i m dA H' ⟨bZ,g',cq,e',s',R',w'⟩;obtain⟨uG,uF⟩:=j1 cq g' H' e' R' i;rcases h i m bZ g' w' with⟨ek,q⟩|⟨x,ek,N2,lU,q⟩
  ·exact .inl ⟨uG ek,q cq H' dA (e1.trans e') R' s'⟩
  ·obtain⟨go,yl⟩:=uF x ek;refine .inr ⟨go,λjY H2=>∃cC g2 ft,Ext cE H1 ft H2/\u3 X.K ft H2 cC jY/\Rl X.K ft g2 H2/\N2 cC g2,?_,?_⟩
   ·rintro jY H2 ⟨cC,g2,ft,e2,s2,R2,n2⟩;obtain⟨m',hm,w2⟩:=lU cC g2 n2;exact⟨m',hm,cC,g2,ft,e2,s2,R2,w2⟩
   ·intro v H2 y;obtain⟨e2,R2,r2⟩:=yl v H2 y;refine⟨x,bZ,g',cq,s'.ext e2,R2,r2,x6 (λcC q jY s2=>?_) q⟩;refine rA hP s2 R2 (e1.trans (e'.trans e2)) q ⟨?_,?_,?_,?_⟩
    ·exact λiw g3 n3 jo H3 kL e3 R3 s3=>⟨iw,g3,jo,(e'.trans e2).trans e3,s3,R3,n3⟩
    ·exact λd g3 h=>h.ext (e1.trans (e'.trans e2))
    ·exact λiw g3 h jo H3 kL e3 R3 s3=>h jo H3 kL (e1.trans ((e'.trans e2).trans e3)) R3 s3
    ·exact λiw g3 n3 jo H3 kL e3 R3 s3=>⟨iw,g3,jo,(e'.trans e2).trans e3,s3,R3,n3⟩
theorem JE{d4:List Nat}{n:Nat}{ja me:ME}:∀cG H Q,LE X.K Ξ (bo P (.comp d4 n t mi ja me)) cG H Q->Dc (LI X.K Ξ (gI P mi)) d4 n (LG X.K t) (LT X.K (rh Ξ.1) (et P ja)) (LE X.K (rh Ξ.1) (bo P me)) cG H Q:=λcG H Q bz=>by
 obtain⟨U,g,ρ,s,R,h⟩:=bz;refine⟨U,g,ρ,s,R,A5 hP mi _ _ _ _ _ _ (λk g1 h cE H1 J e1 R1 j1=>?_) (λ_ _ z=>z) h⟩;obtain⟨W,⟨m0,w0⟩,h⟩:=h;refine⟨λi m Ek dA H'=>∃ys bZ g' cq,Ext cE H1 cq H'/\u3 X.K cq H' bZ dA/\Rl X.K cq g' H'/\c6 X.K cq H' ys Ek/\W i m ys bZ g',⟨m0,[],_,g1,cE,.refl _ _,(s.ext e1).d4 d4 n,R1,.nil,w0⟩,?_⟩;rintro i m Ek dA H' ⟨ys,bZ,g',cq,e',s',R',ry,w'⟩;obtain⟨uG,uF⟩:=j1 cq g' H' e' R' i;rcases h i m ys bZ g' w' with⟨ek,q⟩|⟨x,ek,hz,q⟩
 ·exact .inl ⟨uG ek,λp hp=>(q.ext (e1.trans e')).new R' hp ry⟩
 ·obtain⟨go,yl⟩:=uF x ek;refine .inr ⟨go,by rw[<- ry.length];exact BD hz,λv H2 y=>?_⟩;obtain⟨e2,R2,r2⟩:=yl v H2 y;refine⟨x,bZ,g',cq,s'.ext e2,R2,r2,x6 (λcC q jY s2=>?_) q⟩;refine⟨cC,g',cq,s2,R2,p8 hP ja _ _ _ _ _ _ (λb g3 q jo H3 e3 R3=>?_) (λ_ _ z=>z.elim) q⟩;cases b
  ·obtain⟨m',hm,w3⟩:=q;exact⟨m',hm,ys,cC,g3,jo,(e'.trans e2).trans e3,s2.ext e3,R3,(ry.ext e2).ext e3,by simpa using w3⟩
  ·refine⟨cC,g3,jo,s2.ext e3,R3,b9 hP me _ _ _ _ _ _ (λz g4 q pJ H4 v4 e4 R4 r4=>?_) (λ_ _ z=>z.elim) q⟩;obtain⟨m',hm,w4⟩:=q;exact⟨m',hm,ys++[z],cC,g4,pJ,(e'.trans e2).trans (e3.trans e4),(s2.ext e3).ext e4,R4,(((ry.ext e2).ext e3).ext e4).append (.cons r4 .nil),by simpa using w4⟩
theorem a06{elt iter:Expr}{ifs:List Expr}{scope:Scope}{N':List Str}{d4:List Nat}{cl:List (Str×Addr)}{p2 jJ:Pos}{ja me:ME}(S:dJ X scope N' d4 cl)(hc:X.calm=true)(hi:PI X tg iter (LI X.K Ξ (gI P mi)))(hg:∀pins C s H fp,PG (d5 X pins scope N' cl C s H fp) tg (LG X.K t))(ht:∀pins C s H fp,lG (d5 X pins scope N' cl C s H fp) ifs (LT X.K (rh Ξ.1) (et P ja)))(he:∀pins C s H fp,PE (d5 X pins scope N' cl C s H fp) elt (LE X.K (rh Ξ.1) (bo P me)))(hs:∀x,foldedSetIterable iter X.env x=pure x)(mW:Gl X "sorted")(mT:X.mg "sorted"=none):PE X (.Call (.Name "sorted" p2) [.SetComp elt [⟨tg,iter,ifs,0⟩] scope pos] [] jJ) (LE X.K Ξ (bo P (.gX d4 N'.length t mi ja me))) :=
 (yG (V0 hc) mW mT (by rfl) (R6 (a27 S hc hi hg ht he hs) X9)).imp λcG H Q bz=>by
  obtain⟨U,g,ρ,s,R,h⟩:=bz;refine⟨U,g,ρ,s,R,A5 hP mi _ _ _ _ _ _ (λk g1 h cE H1 J e1 R1 j1=>?_) (λ_ _ z=>z) h⟩;obtain⟨W,⟨m0,w0⟩,h⟩:=h;refine⟨λi m ys dA H'=>∃bZ g' cq,Ext cE H1 cq H'/\u3 X.K cq H' bZ dA/\Rl X.K cq g' H'/\W i m ys bZ g',⟨m0,_,g1,cE,.refl _ _,(s.ext e1).d4 d4 _,R1,w0⟩,?_⟩;rintro i m ys dA H' ⟨bZ,g',cq,e',s',R',w'⟩;obtain⟨uG,uF⟩:=j1 cq g' H' e' R' i;rcases h i m ys bZ g' w' with⟨ek,hz,q⟩|⟨x,ek,hz,q⟩
  ·exact .inl ⟨uG ek,λp hp=>⟨p,ys,rfl,u7,by omega,λp' gB=>(q.ext ((e1.trans e').trans (B5 hp))).new (R'.grow hp) gB (c6.ofInts _)⟩⟩
  ·obtain⟨go,yl⟩:=uF x ek;refine .inr ⟨go,hz,λv H2 y=>?_⟩;obtain⟨e2,R2,r2⟩:=yl v H2 y;refine⟨x,bZ,g',cq,s'.ext e2,R2,r2,x6 (λcC q jY s2=>?_) q⟩;refine⟨cC,g',cq,s2,R2,p8 hP ja _ _ _ _ _ _ (λb g3 q jo H3 e3 R3=>?_) (λ_ _ z=>z.elim) q⟩;cases b
   ·obtain⟨m',hm,w3⟩:=q;exact⟨m',hm,cC,g3,jo,(e'.trans e2).trans e3,s2.ext e3,R3,by simpa using w3⟩
   ·refine⟨cC,g3,jo,s2.ext e3,R3,b9 hP me _ _ _ _ _ _ (λz g4 q pJ H4 v4 e4 R4 r4=>?_) (λ_ _ z=>z.elim) q⟩;obtain⟨j,rfl,m',hm,w4⟩:=q;obtain rfl:=r4.j8;exact⟨j,rfl,m',hm,cC,g4,pJ,(e'.trans e2).trans (e3.trans e4),(s2.ext e3).ext e4,R4,by simpa using w4⟩
end
end M
namespace M
open PySem L2
section
variable{P:fu}(hP:i9 P)
include hP
end
end M
namespace M
open PySem L2 PySem.Spec PyProof.Rows
variable{X:Cx}{Ξ:iH}{P:fu}{c:j5}{x:Str}{i n:Nat}{e o b a d:Expr}{es args:List Expr}{env:Env}{p:Pr}{r:CF}{m:ME}{pos:Pos}
section
variable(hP:i9 P)
include hP
end
structure j5 where
 N:List Str
 nm:List (Str×NameKind)
 nk:Bool
 fns:List (Str×Nat)
 con:List (Str×D)
 blt:List Str
 exc:List Str
 gd:List (Str×List D)
 cls:List (Str×Nat)
 pV:List (Str×Str×Nat)
 oj:List (Str×Str)
 ua:Bool
 tQ:Bool
 wr:Bool:=true
def gQ:Expr->Bool
 |.Set ..=>false
 |.Starred ..=>false
 |.Slice ..=>false
 |_=>true
def B0:Expr->Bool
 |.ListComp ..=>false
 |.SetComp ..=>false
 |.DictComp ..=>false
 |_=>true
def sZ:Expr->Bool
 |.Tuple ..=>false
 |_=>true
def Cp:Expr->Bool
 |.Name ..=>true
 |.Call ..=>true
 |.Subscript ..=>true
 |.Constant ..=>true
 |.Attribute ..=>true
 |.BinOp ..=>true
 |_=>false
def yf:Expr->Bool
 |.Call (.Name ..) [] ..=>false
 |_=>true
def j5.idx(c:j5)(x:Str):Option Nat:=c.N.findIdx? λy=>decide (y=x)
def j5.tO(c:j5)(x:Str):Bool:=match c.nm.lookup x with
 |some .local=>true
 |some .cell=>true
 |some .free=>true
 |_=>false
def j5.gl(c:j5)(x:Str):Bool:=decide (c.nm.lookup x=some .globalImplicit)
def j5.z9(c:j5)(x:Str):Bool:=decide (c.nm.lookup x=some .local)||decide (c.nm.lookup x=some .cell)
def qZ(x:Str):Bool:=(x==("__debug__":Str))==false&&(x==("__classdict__":Str))==false&&decide (x≠"__name__")
def De:List (Str×String):=[("int","int"),("bool","bool"),("str","str"),("tuple","tuple"),("list","list")]
def Dq:List (Str×Pr):=[("len",.len),("list",.list),("tuple",.tuple),("isinstance",.isin),("all",.all),("max",.max),("min",.min),("int",.int),("sorted",.jC),("sum",.sum),("set",.pX)]
def yu:List (Str×Pr):=[]
def Dx:List (Str×Pr):=[("append",.append),("pop",.pop),("get",.get),("add",.kc)]
def Bw:Expr->Option (Str×List Expr)
 |.Call (.Name x _) args [] _=>some (x,args)
 |_=>none
def JY:Expr->Bool
 |.Tuple ..=>true
 |_=>false
def asName:Expr->Option Str
 |.Name x _=>some x
 |_=>none
def frees(sc:Scope):List Str:=(sc.names.filter λy=>decide (y.2=.free)).map (·.1)
def locals(sc:Scope):List Str:=(sc.names.filter λy=>decide (y.2=.local)||decide (y.2=.cell)).map (·.1)
def j5.inner(c:j5)(sc:Scope):j5:={ c with N:=frees sc++locals sc,nm:=sc.names,nk:=false,ua:=false,tQ:=false,wr:=true }
def j5.d4(c:j5)(sc:Scope):List Nat:=(frees sc).map λx=>(c.idx x).getD 0
def j5.BJ(c:j5)(sc:Scope):Bool :=
 decide (sc.kind=.function)&&sc.names.all (λy=>!decide (y.2=.cell)||decide (sc.names.lookup y.1=some .cell))&&sc.names.all (λy=>!decide (y.2=.local)||decide (sc.names.lookup y.1=some .local)) &&
 decide (frees sc++locals sc).Nodup&&(frees sc).all (λx=>(c.idx x).isSome&&decide (sc.names.lookup x=some .free)&&(decide (c.nm.lookup x=some .cell)||decide (c.nm.lookup x=some .free)))
def j5.slot(c:j5)(e:Expr):Option Nat:=(asName e).bind λx=>if c.z9 x then c.idx x else none
def j5.slots(c:j5):List Expr->Option (List Nat)
 |[]=>some []
 |e::r=>(c.slot e).bind λi=>(c.slots r).map λis=>i::is
def j5.tg(c:j5)(e:Expr):Option MT:=((c.slot e).map .one).orElse λ_=>match e with
 |.Tuple es _ _=>(c.slots es).map .many
 |_=>none
def CN:Const->Option D
 |.int i=>some (.int i)
 |.bool b=>some (.bl b)
 |.none=>some .bO
 |.str x=>some (.str x)
 |_=>none
structure CF where
 e:j5->Expr->Option ME
 t:j5->Expr->Option ME
 s:j5->Stmt->Option MS
section
variable(r:CF)(c:j5)
def c1(p:Pr)(a:Expr):Option ME:=(r.e c a).map λm=>.prim p (.cons m .nil)
def c2(p:Pr)(a b:Expr):Option ME:=(r.e c a).bind λma=>(r.e c b).map λmb=>.prim p (.cons ma (.cons mb .nil))
def K3:List Expr->Option ME
 |[]=>some .nil
 |e::es=>if gQ e then(r.e c e).bind λm=>(K3 es).map λms=>.cons m ms else none
def CM(op:BoolOp):List Expr->Option ME
 |[]=>none
 |[a]=>r.e c a
 |a::b::rs=>(r.e c a).bind λma=>(CM op (b::rs)).map λmb=>match op with
  |.And=>.dE ma mb
  |.Or=>.jK ma mb
def CO(op:BoolOp):List Expr->Option ME
 |[]=>none
 |[a]=>r.t c a
 |a::b::rs=>(r.t c a).bind λma=>(CO op (b::rs)).map λmb=>match op with
  |.And=>.dE ma mb
  |.Or=>.jK ma mb
def Iw:List Expr->Option ME
 |[]=>some .no
 |[e]=>r.t c e
 |_=>none
def B4:List Stmt->Option MS
 |[]=>some .pass
 |s::rs=>(r.s c s).bind λm=>(B4 rs).map λms=>.seq m ms
def Dj(x:Str):Option ME :=
 if qZ x then(if c.tO x then(c.idx x).map .var else if c.gl x then((c.con.lookup x).map .lit).orElse λ_=>if c.blt.contains x then(De.lookup x).map λt=>.lit (.ty t) else none else none) else none
def yY(op:UnaryOp)(a:Expr):Option ME:=if op=.Not then(r.e c a).map .eP else c1 r c (.un op) a
def j5.GF(b:Expr):Option (List D):=(asName b).bind λx=>if c.gl x&&qZ x then c.gd.lookup x else none
def vH(a:Expr)(ops:List CmpOp)(bs:List Expr):Option ME:=match ops,bs with
 |[op],[b]=>if behindInMarks op b then none else c2 r c (.cmp op) a b
 |[op,ij],[b,d]=>if lastMarks [op,ij] [b,d] then none else(r.e c a).bind λma=>(r.e c b).bind λmb=>(r.e c d).map λmd=>.chain op ij ma mb md
 |_,_=>none
def Dn:Expr->Bool
 |.UnaryOp .USub (.Constant (.int i) _ _) _=>decide (i=1)
 |_=>false
def Uv:Expr->Option (Option Expr×Option Expr×Option Expr)
 |.Slice lo hi st _=>some (lo,hi,st)
 |_=>none
def Em(a:Expr):Option Expr->Option Expr->Option Expr->Option ME
 |none,some b,none=>c2 r c (.rD false true) a b
 |none,none,some d=>if Dn d then c1 r c .rev a else none
 |_,_,_=>none
def GU(a b:Expr):Option ME:=((Uv b).bind λq=>Em r c a q.1 q.2.1 q.2.2).orElse λ_=>if gQ b then((c.GF a).bind λkvs=>(r.e c b).map λmb=>.prim .nj (.cons (.lit (.tup kvs)) (.cons mb .nil))).orElse λ_=>c2 r c .ix a b else none
def El(x:Str)(e:Expr):Option ME:=(Bw e).bind λq =>
 if x="list" && q.1="range" && c.blt.contains "list" && c.blt.contains "range" && c.gl "range" then (match q.2 with
  |[a]=>if gQ a then c1 r c .jb a else none
  |[a,b]=>if gQ a&&gQ b then c2 r c .kl a b else none
  | _=>none)
 else if x="sorted" && q.1="set" && c.blt.contains "sorted" && c.blt.contains "set" && c.gl "set" then (match q.2 with
  |[a]=>if gQ a then c1 r c .sset a else none
  | _=>none)
 else if x="len" && q.1="set" && c.blt.contains "len" && c.blt.contains "set" && c.gl "set" then (match q.2 with
  |[a]=>if gQ a then c1 r c .pB a else none
  | _=>none)
 else none
def VG(x:Str)(e:Expr):List Expr->Option ME
 |[]=>El r c x e
 |_=>none
def Bq(x:Str):Option ME:=if qZ x&&c.gl x then((c.fns.lookup x).map λf=>.call f .nil).orElse λ_=>(c.cls.lookup x).map λf=>.make x f .nil else none
def Br(x:Str)(e:Expr)(es:List Expr):Option ME:=if qZ x&&c.gl x then(VG r c x e es).orElse λ_=>(K3 r c (e::es)).bind λms=>((c.fns.lookup x).map λf=>.call f ms).orElse λ_=>((c.cls.lookup x).map λf=>.make x f ms).orElse λ_=>if c.blt.contains x then(Dq.lookup x).map λp=>.prim p ms else none else none
def IU(x:Str):List Expr->Option ME
 |[]=>Bq c x
 |e::es=>Br r c x e es
def Bs(o:Expr)(m:Str)(apos pos:Pos)(args:List Expr):Option ME :=
 if yf o && (apos.endLine == pos.line) && decide (args.length < 20) then (r.e c o).bind λmo=>(K3 r c args).bind λms=>if m="index" then none else if args.isEmpty && (yu.lookup m).isSome then (yu.lookup m).map λp=>.eE p mo ms else (match Dx.lookup m with
  |some p=>if args.isEmpty then none else some (.eE p mo ms)
  | none=>none) else none
def Di(f:Expr)(args:List Expr)(ju:List Keyword)(pos:Pos):Option ME:=if ju.isEmpty then(match f with
 |.Name x _=>IU r c x args
 |.Attribute o m apos=>Bs r c o m apos pos args
 | _=>none) else none
def xI(tg e:Expr):Option ME:=(((Bw e).bind λq =>
  if q.1="enumerate" then (match q.2 with
   |[a]=>if c.gl "enumerate"&&c.blt.contains "enumerate"&&gQ a&&JY tg then(r.e c a).map .kS else none
   | _=>none)
  else if q.1="reversed" then (match q.2 with
   |[a]=>if c.gl "reversed"&&c.blt.contains "reversed"&&gQ a then(r.e c a).map .nD else none
   | _=>none)
  else if q.1="range" then (match q.2 with
   |[a]=>if c.gl "range"&&c.blt.contains "range"&&gQ a then(r.e c a).map .dW else none
   |[a,b]=>if c.gl "range"&&c.blt.contains "range"&&gQ a&&gQ b then(r.e c a).bind λma=>(r.e c b).map λmb=>.ko ma mb else none
   | _=>none)
  else none):Option ME).orElse λ_=>if gQ e then (r.e c e).map .fc else none
def Z4(elt:Expr)(gens:List Comprehension)(sc:Scope):Option ME:=match gens with
 |[⟨tg,it,ifs,Fc⟩]=>if c.BJ sc&&decide (Fc=0)&&gQ it then((c.inner sc).tg tg).bind λt=>(xI r c tg it).bind λmi=>(Iw r (c.inner sc) ifs).bind λmc=>(r.e (c.inner sc) elt).map λme=>.comp (c.d4 sc) (frees sc++locals sc).length t mi mc me else none
 |_=>none
def Ut:Expr->Option Str
 |.Name x _=>some x
 |_=>none
def Uu:Expr->Option (Expr×List Comprehension×Scope)
 |.SetComp elt gens sc _=>some (elt,gens,sc)
 |_=>none
def VD:ME->Option ME
 |.comp a n t i k e=>some (.gX a n t i k e)
 |_=>none
def yZ(f:Expr)(args:List Expr)(ju:List Keyword):Option ME:=match args with
 |[a]=>if ju.isEmpty&&decide (Ut f=some "sorted")&&c.gl "sorted"&&c.blt.contains "sorted" then(Uu a).bind λq=>(Z4 r c q.1 q.2.1 q.2.2).bind VD else none
 |_=>none
def wB(f:Expr)(args:List Expr)(ju:List Keyword):Option ME:=(λ(_:j5)=>none) c
def CA(es:List Expr)(k:Nat):Option ME:=if c.nk&&decide (k=0) then(match es with
 |[.Constant (.int i) _ _]=>some (.prim (.ka i) .nil)
 | _=>none) else none
def Ku:Expr->Option ME
 |.Name x _=>Dj c x
 |.Constant k _ _=>(CN k).map .lit
 |.BinOp a op b _=>c2 r c (.bin op) a b
 |.UnaryOp op a _=>yY r c op a
 |.Compare a ops bs _=>vH r c a ops bs
 |.BoolOp op vs _=>CM r c op vs
 |.IfExp t a b _=>(r.t c t).bind λmt=>(r.e c a).bind λma=>(r.e c b).map λmb=>.ite mt ma mb
 |.Tuple es _ _=>(K3 r c es).map (.prim .tup)
 |.List es _=>(K3 r c es).map (.prim .lst)
 |.Subscript a b _=>GU r c a b
 |.Dict ks vs _=>if ks.isEmpty&&vs.isEmpty then some (.prim .P5 .nil) else none
 |.Attribute o f _=>if yf o then c1 r c (.fld f) o else none
 |.Call f args ju pos=>(yZ r c f args ju).orElse λ_=>(wB c f args ju).orElse λ_=>Di r c f args ju pos
 |.ListComp elt gens sc _=>Z4 r c elt gens sc
 |.Set es k _=>CA c es k
 |_=>none
def stepT:Expr->Option ME
 |.UnaryOp op a _=>if op=.Not then(r.t c a).map .eP else none
 |.BoolOp op vs _=>CO r c op vs
 |.Compare a ops bs _=>(vH r c a ops bs).map .fR
 |e=>if Cp e then(r.e c e).map .fR else none
def j5.GC(f:Str):List Str:=(c.oj.filter λy=>decide (y.1=f)).map (·.2)
def Dp:List Expr->Option (Expr×Expr×Expr×Expr)
 |_=>none
def GN(tg e:Expr):Option MS:=match tg with
 |.Name x _=>if c.z9 x then(c.idx x).bind λi=>(r.e c e).map λm=>.set i m else none
 |.Tuple es _ _=>(Dp es).elim (if sZ e&&B0 e then(c.slots es).bind λis=>(r.e c e).map λm=>.lK (.many is) m else none) λq=>if B0 e&&gQ q.2.1&&gQ q.2.2.2 then(r.e c q.1).bind λm1=>(r.e c q.2.1).bind λn1=>(r.e c q.2.2.1).bind λm2=>(r.e c q.2.2.2).bind λn2=>(r.e c e).map λm=>.wJ m1 n1 m2 n2 m else none
 |.Subscript o i _=>if gQ i&&B0 e then(r.e c o).bind λmo=>(r.e c i).bind λmi=>(r.e c e).map λm=>.dS mo mi m else none
 |.Attribute o f _=>(r.e c o).bind λmo=>(r.e c e).map λm=>.iz f (c.GC f) mo m
 |_=>none
def JZ:Operator->Option Pr
 |.Add=>some .iadd
 |.Sub=>some .mP
 |_=>none
def toR(e:Expr)(m:ME):ME:=(λ(_:j5)=>m) c
def Kv:Stmt->Option MS
 |.Expr e _=>if B0 e then(r.e c e).map .expr else none
 | .Assign zg e _=>(match zg with
  |[tg]=>GN r c tg e
  | _=>none)
 | .AugAssign tg op e _=>(match tg with
  |.Name x _=>if c.z9 x then(JZ op).bind λp=>(c.idx x).bind λi=>(r.e c e).map λm=>.kx i p m else none
  | _=>none)
 |.If t a b _=>(r.t c t).bind λmt=>(B4 r c a).bind λma=>(B4 r c b).map λmb=>.ifs mt ma mb
 |.For tg it body ox _=>if c.nk&&(ox.isEmpty&&gQ it) then(c.tg tg).bind λt=>(xI r c tg it).bind λmi=>(B4 r c body).map λmb=>.dC t mi mb else none
 |.While t body ox _=>if c.nk&&ox.isEmpty then(r.t c t).bind λmt=>(B4 r c body).map λmb=>.jZ mt mb else none
 | .Return e _=>(match e with
  |some e=>(r.e c e).map λm=>.ret (toR c e m)
  | none=>some .pP)
 |.Pass _=>some .pass
 |_=>none
end
def comp:Nat->CF
 |0=>⟨λ_ _=>none,λ_ _=>none,λ_ _=>none⟩
 |n+1=>⟨Ku (comp n),stepT (comp n),λc s=>(Kv (comp n) c s).orElse λ_=>some (.expr .no)⟩
structure iI(X:Cx)(c:j5)(P:fu)(Ξ:iH):Prop where
 N:X.N=c.N
 nd:c.N.Nodup
 loc:∀x,c.nm.lookup x=some .local->X.env.scope.names.lookup x=some .local
 Bj:∀x,c.nm.lookup x=some .cell->X.env.scope.names.lookup x=some .cell
 Ge:∀x,c.nm.lookup x=some .free->X.env.scope.names.lookup x=some .cell\/X.env.scope.names.lookup x=some .free
 NO:∀x,c.nm.lookup x=some .globalImplicit->X.env.scope.names.lookup x=some .globalImplicit
 cells:∀x,(c.nm.lookup x=some .cell\/c.nm.lookup x=some .free)->∃a,X.env.cells.lookup x=some a
 nk:∀x,c.nm.lookup x=some .cell->X.fn x=true
 calm:X.calm=true
 units:X.A.units+100<cLine
 own:c.nk=true->PassesOwn (model X.prog X.w) X.A X.env X.xe
 mono:i9 P
 con:∀x d,c.con.lookup x=some d->∃v u,X.mg x=some u/\RelV v u/\∀ρ H,d6 X.K ρ H d v
 blt:∀x,c.blt.contains x=true->X.mg x=none
 fns:∀x f,c.fns.lookup x=some f->∃k fa fd ps,oG X P Ξ.1 k f fa fd ps/\x5 k X.A/\X.mg x=some (.ref fa)/\PySem.W.keepIn X.K (.ref fa)=true
 cls:∀x f,c.cls.lookup x=some f->∃k C fa fd ps,oG X P Ξ.1 k f fa fd ps/\x5 (k+1) X.A/\X.mg x=some (.ref C)/\F2 X.K x C/\jV X.K C/\Mk X.K C fa
 pV:∀m y f C,(m,y,f)∈c.pV->F2 X.K y C->∃k fa fd ps,Meth X.K C m fa/\oG X P Ξ.1 k f fa fd ps/\x5 k X.A
 oj:∀f y C,(f,y)∈c.oj->F2 X.K y C->C0 X.K C f
 NW:Ξ.1=c.exc
 pass:Passes (ky X.prog X.w) X Ξ.2
 Ga:∀x kvs,c.gd.lookup x=some kvs->JU X x kvs
 code:c.nk=true->PySem.W.kdsCode X.K X.env.code=true
 sgn:c.wr=true->X.sg=none
theorem Sw(h:c.idx x=some i):c.N[i]?=some x:=by
 unfold j5.idx at h;rw[kz] at h;obtain⟨h1,h2,_⟩:=h;rw[ag h1,bj h2]
theorem iI.Pq(C:iI X c P Ξ)(h:c.tO x=true):we X.env.scope x:=by
 unfold j5.tO at h;split at h
 ·rename_i e;exact .inl (C.loc x e)
 ·rename_i e;exact .inr (.inl (C.Bj x e))
 ·rename_i e;rcases C.Ge x e with z|z
  ·exact .inr (.inl z)
  ·exact .inr (.inr z)
 ·cases h
theorem iI.C2(C:iI X c P Ξ)(h:c.gl x=true):Gl X x:=C.NO x (bj h)
theorem iI.z9(C:iI X c P Ξ){x:Str}(h:c.z9 x=true):Loc X.env.scope x/\(X.fn x=true\/X.env.scope.names.lookup x=some .local):=by
 unfold j5.z9 at h;rw[cV] at h;rcases h with h|h
 ·have:=C.loc x (bj h);exact⟨.inl this,.inr this⟩
 ·exact⟨.inr (C.Bj x (bj h)),.inl (C.nk x (bj h))⟩
theorem iI.qW(C:iI X c P Ξ)(h:c.idx x=some i):X.N[i]?=some x:=by rw[C.N];exact Sw h
theorem iI.rJ(C:iI X c P Ξ)(hw:c.wr=true):X.Nd:=⟨by rw[C.N];exact C.nd,C.sgn hw⟩
theorem Hy(h:asName e=some x):∃p,e=.Name x p:=by
 cases e<;>first|(cases h;exact⟨_,rfl⟩)|cases h
theorem JQ(h:c.slot e=some i):∃x p,e=.Name x p/\c.z9 x=true/\c.idx x=some i:=by
 obtain⟨x,hx,h2⟩:=aj.mp h;obtain⟨p,rfl⟩:=Hy hx;split at h2
 ·exact⟨x,p,rfl,by assumption,h2⟩
 ·cases h2
theorem iI.slots(C:iI X c P Ξ):∀{es:List Expr} {is:List Nat},c.slots es=some is->fT X es is:=by
 intro es
 induction es with
 |nil=>intro is h;cases h;exact .nil
 |cons e r ih =>
  intro is h;obtain⟨i,hi,h⟩:=aj.mp h;obtain⟨is',hs,rfl⟩:=aa.mp h;obtain⟨x,p,rfl,hl,hx⟩:=JQ hi;exact .cons (C.qW hx) (C.z9 hl).1 (C.z9 hl).2 (ih hs)
theorem orElse_some{α:Type}{a:Option α}{b:Unit->Option α}{m:α}(h:a.orElse b=some m):a=some m\/b Unit.unit=some m:=by
 cases a with
 |none=>exact .inr h
 |some x=>exact .inl h
theorem iI.GR(C:iI X c P Ξ)(hw:c.wr=true){tg:Expr}{t:MT}(h:c.tg tg=some t):PG X tg (LG X.K t):=by
 rcases orElse_some h with h|h
 ·obtain⟨i,hi,rfl⟩:=aa.mp h;obtain⟨x,p,rfl,hl,hx⟩:=JQ hi;exact RA (C.rJ hw) (C.qW hx) (C.z9 hl).1 (C.z9 hl).2
 ·cases tg<;>first|(cases h;done)|skip
  obtain⟨is,hs,rfl⟩:=aa.mp (show(c.slots _).map MT.many=some t from h);exact Jr C.calm (C.rJ hw) (C.slots hs)
theorem q8(h:gQ e=true):starEach (e::es) env=(false,eval e env)::starEach es env:=by
 cases e<;>first|rfl|cases h
theorem yF(h:gQ e=true):∀x,foldedSetIterable e env x=pure x:=by
 intro x;cases e<;>first|rfl|cases h
theorem IE(h:gQ e=true):Bu e:=by
 intro o i;cases e<;>first|rfl|cases h
theorem SR{i:Expr}{tp:Pos}(h:gQ i=true):∀v,assign (.Subscript o i tp) env v=(do
      let ov <- holding [v] (eval o env)
      let iv <- holding [v,ov] (eval i env)
      standAt tp
      holding [v,ov,iv] (setItem ov iv v)
      release [v,ov,iv] []):=by
  intro v;cases i<;>first|rfl|cases h
theorem Cm{t:Option Expr}(h:B0 e=true):swapsWith e t n env=pure false:=by
 cases e<;>first|rfl|cases h
theorem a34{k:Nat}{p:Pos}(h:sZ e=true):swappedStores [.Tuple es k p] e env=pure none:=by
 cases e<;>first|rfl|cases h
theorem Yi(h:Cp e=true):∀whole,isTrue e env whole=(do let v <- whole;standAt e.pos;holding [v] (truthy v)):=by
 intro w;cases e<;>first|rfl|cases h
theorem HU{q:Str×List Expr}(h:Bw e=some q):∃p pos,e=.Call (.Name q.1 p) q.2 [] pos:=by
 cases e<;>first|(cases h;done)|skip
 rename_i f as ju pos;cases f<;>first|(cases h;done)|skip
 cases ju<;>first|(cases h;done)|skip
 cases h;exact⟨_,_,rfl⟩
theorem Xq(h:JY e=true):∃es k p,e=.Tuple es k p:=by
 cases e<;>first|exact⟨_,_,_,rfl⟩|cases h
theorem a46{kvs:List D}(h:c.GF b=some kvs):∃x p,b=.Name x p/\c.gl x=true/\qZ x=true/\c.gd.lookup x=some kvs:=by
 obtain⟨x,hx,h2⟩:=aj.mp h;obtain⟨p,rfl⟩:=Hy hx;split at h2
 ·rename_i hc;rw[aX] at hc;exact⟨x,p,rfl,hc.1,hc.2,h2⟩
 ·cases h2
theorem R7{f:Str}(h:yf o=true):attributeBase o f env (eval o env)=eval o env:=by
 cases o<;>first|rfl|skip
 rename_i f as ju pos;cases f<;>first|rfl|skip
 cases as with
 |nil=>cases h
 |cons=>rfl
theorem Bz{env:Env}:∀(names:List (Str×NameKind)) (acc:List (Str×Addr)),(∀y∈names,y.2=.free->∃a,env.cells.lookup y.1=some a)->(∀x a,acc.lookup x=some a->env.cells.lookup x=some a) ->
  ∃ cl,(forIn names acc λ(y:Str × NameKind) (cs:List (Str × Addr))=>(match y with
   |(name,kind)=>if(kind==NameKind.free)=true then do
     let __do_lift <- cellOf env name
     pure (ForInStep.yield ((name,__do_lift)::cs))
    else pure (ForInStep.yield cs):Sem (ForInStep (List (Str × Addr)))))=pure cl/\(∀ x a,cl.lookup x=some a->env.cells.lookup x=some a)/\(∀ y ∈ names,y.2=.free->∃ a,cl.lookup y.1=some a)/\∀ x a,acc.lookup x=some a->∃ a',cl.lookup x=some a'
 |[],acc,_,h2=>⟨acc,rfl,h2,λy hy=>absurd hy (by simp),λx a h=>⟨a,h⟩⟩
 |(n,k)::r,acc,h1,h2=>by
  rw[List.forIn_cons];by_cases hk:k=.free
  ·subst hk;obtain⟨a,ha⟩:=h1 (n,.free) (by simp) rfl;have hc:cellOf env n=pure a:=by unfold cellOf;rw[ha]
   obtain ⟨cl,e,q1,q2,q3⟩:=Bz r ((n,a) :: acc) (λy hy=>h1 y (by simp [hy])) (λx b hb=>by
    rw[dI] at hb;cases hx:x==n with
    |true=>simp_all
    | false=>rw [hx] at hb;exact h2 x b hb)
   refine⟨cl,?_,q1,λy hy hf=>?_,λx b hb=>?_⟩
   ·simp only[beq_self_eq_true,if_true,hc];exact e
   ·rcases aG.mp hy with z|z
    ·subst z;exact q3 n a (by simp)
    ·exact q2 y z hf
   ·cases hx:x==n with
    |true=>exact q3 x a (by rw[dI,hx])
    |false=>exact q3 x b (by rw[dI,hx];exact hb)
  ·have hb:(k==NameKind.free)=false:=by simpa using hk
   obtain⟨cl,e,q1,q2,q3⟩:=Bz r acc (λy hy=>h1 y (by simp[hy])) h2;refine⟨cl,?_,q1,λy hy hf=>?_,q3⟩
   ·simp only[hb,Bool.false_eq_true,if_false];exact e
   ·rcases aG.mp hy with z|z
    ·simp_all
    ·exact q2 y z hf
theorem Ya{P:Program}{w:World}:Passes (ky P w) X (λ_ _ _=>False):=λ_ _ _ _ _ _ _ h=>by
 obtain⟨_,_,_,_,_,_,_,z⟩:=h;exact z.elim
theorem P7{env:Env}:∀{names:List (Str×NameKind)} {x:Str},names.lookup x=some .globalImplicit ->
  (names.map λ(n,k)=>if(k==NameKind.free&&env.scope.kind==.function&&env.kindOf n==some .cell) then(n,NameKind.cell) else(n,k)).lookup x=some .globalImplicit
 |[],_,h=>by simp at h
 |(n,k)::r,x,h=>by
  have ih:=@P7 env r x;show List.lookup x ((if(k==NameKind.free&&env.scope.kind==.function&&env.kindOf n==some .cell)=true then(n,NameKind.cell) else(n,k))::_)=_;cases hx:x==n with
  |true =>
   simp only[List.lookup_cons,hx] at h;cases h;simp[List.lookup_cons,hx]
  |false =>
   simp only[List.lookup_cons,hx] at h;by_cases hc:(k==NameKind.free&&env.scope.kind==.function&&env.kindOf n==some .cell)=true
   ·rw[aJ hc];simp only[List.lookup_cons,hx];exact ih h
   ·rw[aF hc];simp only[List.lookup_cons,hx];exact ih h
theorem iI.comp(C:iI X c P Ξ){sc:Scope}(h:c.BJ sc=true):∃cl,dJ X sc (frees sc++locals sc) (c.d4 sc) cl/\∀pins A s H fp,iI (d5 X pins sc (frees sc++locals sc) cl A s H fp) (c.inner sc) P (rh Ξ.1):=by
 unfold j5.BJ at h;simp only[Bool.and_eq_true,decide_eq_true_eq,List.all_eq_true] at h;obtain⟨⟨⟨⟨h1,h2⟩,h3⟩,h4⟩,h5⟩:=h;have mX:∀x,sc.names.lookup x=some .free->x∈frees sc:=λx hx=>by
  unfold frees;exact aU.mpr ⟨(x,.free),bq.mpr ⟨aP hx,by simp⟩,rfl⟩
 have fr:∀x∈frees sc,(∃i,c.idx x=some i)/\sc.names.lookup x=some .free/\(c.nm.lookup x=some .cell\/c.nm.lookup x=some .free):=λx hx=>by
  have:=h5 x hx;rw[eU,cV] at this;simp only[decide_eq_true_eq] at this;exact⟨this.1.1,this.1.2,this.2⟩
 have qR:∀y∈sc.names,y.2=.free->∃a,X.env.cells.lookup y.1=some a:=λy hy hf=>by
  have hm:y.1∈frees sc:=aU.mpr ⟨y,bq.mpr ⟨hy,by simp[hf]⟩,rfl⟩;exact C.cells y.1 (fr y.1 hm).2.2
 obtain⟨cl,e,q1,q2,_⟩:=Bz sc.names [] qR (λx a h=>by simp at h);have h2:∀y∈sc.names,y.2=.cell->sc.names.lookup y.1=some .cell:=λy hy hl=>by
  have:=h2 y hy;rw[cV] at this;simp only[Bool.not_eq_true',decide_eq_false_iff_not,decide_eq_true_eq] at this;exact this.resolve_left λz=>z hl
 refine⟨cl,⟨h1,h2,λy hy hl=>?_,?_,q1,λx hx=>q2 (x,.free) (aP hx) rfl,h4,λi j iE=>?_,?_⟩,λpins A s H fp=>?_⟩
 ·have:=h3 y hy;rw[cV] at this;simp only[Bool.not_eq_true',decide_eq_false_iff_not,decide_eq_true_eq] at this;exact this.resolve_left λz=>z hl
 ·simp only[closureFor];rw[e]
  rfl
 ·unfold j5.d4 at iE;rw[ae] at iE;cases ex:(frees sc)[i]? with
  |none=>rw[ex] at iE;cases iE
  |some x =>
   rw[ex] at iE;have hx:x∈frees sc:=aC ex;obtain⟨⟨k,hk⟩,hl,hc⟩:=fr x hx;have hj:k=j:=by
    have:=aL iE;dsimp only at this;rw[hk] at this;exact this
   subst hj;refine⟨x,?_,C.qW hk,hl,?_⟩
   ·rw[aK (av.mp ex).1];exact ex
   ·rcases hc with z|z
    ·exact .inl (C.Bj x z)
    ·exact C.Ge x z
 ·unfold j5.d4;rw[ak,bE];omega
 ·refine⟨rfl,h4,λx hx=>lookup_relabel_local hx,λx hx=>?_,λx hx=>E8 hx,λx hx=>P7 hx,λx hx=>?_,λx _=>?_,rfl,C.units,(λ_=>PassesOwn.never),C.mono,C.con,C.blt,C.fns,C.cls,C.pV,C.oj,C.NW,Ya,C.Ga,(λz=>by cases z),λ_=>rfl⟩
  ·exact M4 hx
  ·rcases hx with hx|hx
   ·exact Hf (.inl hx)
   ·exact Hf (.inr (q2 (x,.free) (aP hx) rfl))
  ·exact aw ‹_›
theorem Y1(h:qZ x=true):(x==("__debug__":Str))=false/\(x==("__classdict__":Str))=false/\x≠"__name__":=by
 unfold qZ at h;simp only[Bool.and_eq_true,decide_eq_true_eq,beq_iff_eq] at h;exact⟨h.1.1,h.1.2,h.2⟩
theorem Xk{t:String}(h:De.lookup x=some t):bootBuiltins x=some (.type t):=by
 have hm:=aP h;simp only[De,List.mem_cons,List.mem_nil_iff,or_false] at hm;rcases hm with z|z|z|z|z<;>(cases z;first|exact wz|exact PyProof.Rows.boot_bool|exact PyProof.Rows.boot_str|exact rp|exact tE|decide +kernel|rfl)
theorem Xr(hc:X.calm=true)(hu:X.A.units+100<cLine)(h:Dq.lookup x=some p):∃v,((∃id,v=.builtin id)\/∃T,v=.type T)/\bootBuiltins x=some v/\n4 X v (rN X.K p):=by
 have hm:=aP h;simp only[Dq,List.mem_cons,List.mem_nil_iff,or_false] at hm;rcases hm with z|z|z|z|z|z|z|z|z|z|z
 ·cases z;exact⟨.builtin "len",.inl ⟨_,rfl⟩,PySem.boot_len,Qj⟩
 ·cases z;exact⟨.type "list",.inr ⟨_,rfl⟩,by first|exact tE|decide +kernel,SI hc⟩
 ·cases z;exact⟨.type "tuple",.inr ⟨_,rfl⟩,by first|exact rp|decide +kernel,Xi⟩
 ·cases z;exact⟨.builtin "isinstance",.inl ⟨_,rfl⟩,by first|exact PyProof.Rows.boot_isinstance|decide +kernel,Sz⟩
 ·cases z;exact⟨.builtin "all",.inl ⟨_,rfl⟩,by first|exact PyProof.Rows.boot_all|decide +kernel,Py hc⟩
 ·cases z;exact⟨.builtin "max",.inl ⟨_,rfl⟩,by first|exact PyProof.Rows.boot_max|decide +kernel,Qs hc⟩
 ·cases z;exact⟨.builtin "min",.inl ⟨_,rfl⟩,by first|exact PyProof.Rows.boot_min|decide +kernel,Qu hc hu⟩
 ·cases z;exact⟨.type "int",.inr ⟨_,rfl⟩,by first|exact wz|decide +kernel,PZ⟩
 ·cases z;exact⟨.builtin "sorted",.inl ⟨_,rfl⟩,by first|exact PyProof.Rows.boot_sorted|decide +kernel,a03 hc⟩
 ·cases z;exact⟨.builtin "sum",.inl ⟨_,rfl⟩,by first|exact PyProof.Rows.boot_sum|decide +kernel,RK hc⟩
 ·cases z;exact⟨.type "set",.inr ⟨_,rfl⟩,by first|exact PyProof.Rows.boot_set|decide +kernel,SG hc⟩
theorem YO(h:yu.lookup x=some p):∃T id,PlainAttrs T/\Slot T x id/\typeOf (.builtin id)=pure (.type "method_descriptor")/\nz X id (rM X.K p) /\
  ∀{d:D} {v:V} {g:G} {ρ:List Addr} {H:Hp},Rl X.K ρ g H->d6 X.K ρ H d v->mr p d g->nC X.K T v H:=by
 cases h
theorem XT(hu:X.A.units+100<cLine)(h:Dx.lookup x=some p):∃T id,PlainAttrs T/\Slot T x id/\typeOf (.builtin id)=pure (.type "method_descriptor")/\nz X id (rM X.K p) /\
  ∀{d:D} {v:V} {g:G} {ρ:List Addr} {H:Hp},Rl X.K ρ g H->d6 X.K ρ H d v->mr p d g->nC X.K T v H:=by
 have hm:=aP h;simp only[Dx,List.mem_cons,List.mem_nil_iff,or_false] at hm;rcases hm with z|z|z|z
 ·cases z;exact⟨_,_,rm,PySem.F.slot_list_append,PySem.F.type_list_append,Xp,λR r h=>ty_list R r h⟩
 ·cases z;exact⟨_,_,rm,PySem.F.slot_list_pop,PySem.F.type_list_pop,a24,λR r h=>ty_list R r h⟩
 ·cases z;exact⟨_,_,PySem.F.plainAttrs_dict,iU,PySem.F.type_dict_get,PU hu,λR r h=>ty_dict R r h⟩
 ·cases z;exact⟨_,_,PySem.F.plainAttrs_set,PySem.F.slot_set_add,PySem.F.type_set_add,Tz,λR r h=>ty_set R r h⟩
theorem JT{pos:Pos}{env:Env}:∀{es:List Expr},(∀e∈es,gQ e=true)->(backTo pos (starEach es env)).all (λx=>!x.1)=true
 |[],_=>rfl
 |e::es,h=>by
  rw[q8 (h e (by simp))];have ih:=JT (pos:=pos) (env:=env) (es:=es) λx hx=>h x (by simp[hx]);unfold backTo at ih ⊢;rw[cI,List.all_cons,ih]
  rfl
theorem BU{pos:Pos}{env:Env}:∀{es:List Expr},(∀e∈es,gQ e=true)->(backTo pos (starEach es env)).any (·.1)=false
 |[],_=>rfl
 |e::es,h=>by
  rw[q8 (h e (by simp))];have ih:=BU (pos:=pos) (env:=env) (es:=es) λx hx=>h x (by simp[hx]);unfold backTo at ih ⊢;rw[cI,jQ,ih]
  rfl
theorem JC:∀{es:List Expr} {m:ME},K3 r c es=some m->∀e∈es,gQ e=true:=by
 intro es
 induction es with
 |nil=>intro m _ e he;simp_all
 |cons a es ih =>
  intro m h e he;unfold K3 at h;split at h
  ·obtain⟨m1,h1,h⟩:=aj.mp h;obtain⟨m2,h2,_⟩:=aa.mp h;rcases aG.mp he with z|z
   ·rw[z];assumption
   ·exact ih h2 e z
  ·cases h
structure pE(P:fu)(r:CF):Prop where
 e:∀X c Ξ,iI X c P Ξ->∀e m,r.e c e=some m->PE X e (LE X.K Ξ (bo P m))
 t:∀X c Ξ,iI X c P Ξ->∀e m,r.t c e=some m->PT X e (LT X.K Ξ (et P m))
 s:∀X c Ξ,iI X c P Ξ->c.wr=true->∀st m,r.s c st=some m->PS X st (LS X.K Ξ (wpS P m))
section
variable(S:pE P r)(C:iI X c P Ξ)
include S C
theorem Z3(h:c1 r c p a=some m):∃ma,PE X a (LE X.K Ξ (bo P ma))/\m=.prim p (.cons ma .nil):=by
 obtain⟨ma,ha,rfl⟩:=aa.mp h;exact⟨ma,S.e X c Ξ C _ _ ha,rfl⟩
theorem vR(h:c2 r c p a b=some m):∃ma mb,PE X a (LE X.K Ξ (bo P ma))/\PE X b (LE X.K Ξ (bo P mb))/\m=.prim p (.cons ma (.cons mb .nil)):=by
 obtain⟨ma,ha,h⟩:=aj.mp h;obtain⟨mb,hb,rfl⟩:=aa.mp h;exact⟨ma,mb,S.e X c Ξ C _ _ ha,S.e X c Ξ C _ _ hb,rfl⟩
theorem wW:∀{es:List Expr} {m:ME},K3 r c es=some m->PA X es (LA X.K Ξ (gP P m)):=by
 intro es
 induction es with
 |nil=>intro m h;cases h;exact L4 C.mono
 |cons a es ih =>
  intro m h;unfold K3 at h;split at h
  ·rename_i cu;obtain⟨m1,h1,h⟩:=aj.mp h;obtain⟨m2,h2,rfl⟩:=aa.mp h;exact C5 C.mono (S.e X c Ξ C _ _ h1) (ih h2) (q8 cu)
  ·cases h
theorem LM{op:BoolOp}:∀{vs:List Expr} {m:ME},CM r c op vs=some m->PE X (.BoolOp op vs pos) (LE X.K Ξ (bo P m)):=by
 intro vs
 induction vs with
 |nil=>intro m h;cases h
 |cons a vs ih =>
  intro m h;cases vs with
  |nil=>exact QQ (S.e X c Ξ C _ _ h)
  |cons b vs =>
   obtain⟨m1,h1,h⟩:=aj.mp h;obtain⟨m2,h2,rfl⟩:=aa.mp h;cases op
   ·exact Rn C.mono (S.e X c Ξ C _ _ h1) (ih h2)
   ·exact OX C.mono (S.e X c Ξ C _ _ h1) (ih h2)
theorem LH{op:BoolOp}:∀{vs:List Expr} {m:ME},CO r c op vs=some m->PW X (.BoolOp op vs pos) (LT X.K Ξ (et P m)):=by
 intro vs
 induction vs with
 |nil=>intro m h;cases h
 |cons a vs ih =>
  intro m h;cases vs with
  |nil =>
   cases op
   ·exact Tt (S.t X c Ξ C _ _ h)
   ·exact Ri (S.t X c Ξ C _ _ h)
  |cons b vs =>
   obtain⟨m1,h1,h⟩:=aj.mp h;obtain⟨m2,h2,rfl⟩:=aa.mp h;cases op
   ·exact RL C.mono (S.t X c Ξ C _ _ h1) (ih h2)
   ·exact Pa C.mono (S.t X c Ξ C _ _ h1) (ih h2)
theorem UX(h:Iw r c es=some m):lG X es (LT X.K Ξ (et P m)):=by
 rcases es with _|⟨e,_|⟨_,_⟩⟩
 ·cases h;exact Ug C.mono
 ·exact Tr (S.t X c Ξ C _ _ h)
 ·cases h
theorem wa(hw:c.wr=true):∀{Ew:List Stmt} {m:MS},B4 r c Ew=some m->jP X Ew (LS X.K Ξ (wpS P m)):=by
 intro es
 induction es with
 |nil=>intro m h;cases h;exact RE C.mono
 |cons a es ih =>
  intro m h;obtain⟨m1,h1,h⟩:=aj.mp h;obtain⟨m2,h2,rfl⟩:=aa.mp h;exact Ue C.mono (S.s X c Ξ C hw _ _ h1) (ih h2)
end
theorem Ie{t:Expr}(h:B0 e=true):swapsWithSole [t] e n env=pure false:=by
 exact Cm h
theorem Rw(hP:i9 P){ma:ME}{p2:Pos}(ha:PE X a (LE X.K Ξ (bo P ma)))(hd:PE X d (LE X.K Ξ (bo P (.prim (.un .USub) (.cons (.lit (.int 1)) .nil))))):PE X (.Subscript a (.Slice none none (some d) p2) pos) (LE X.K Ξ (bo P (.prim .rev (.cons ma .nil)))) :=
 (QR ha hd).imp λcG H Q bz=>by
  obtain⟨U,g,ρ,s,R,h⟩:=bz;refine gb hP s R (.refl _ _) h λx g1 cE H1 v1 e1 R1 r1 h=>?_;obtain⟨d',g',hr,q⟩:=h;rcases hr with⟨l,ex,rfl,rfl⟩|⟨a,l,ex,hl,rfl,rfl⟩
  ·cases ex;obtain⟨a',vs,rfl,ht,rs⟩:=r1.Bn;refine⟨U,g',cE,s.ext e1,R1,?_⟩;refine⟨_,_,⟨rfl,1,rfl,rfl,rfl⟩,λft H2 v2 e2 R2 r2=>?_⟩;refine⟨r2.j8,_,_,rfl,.inl ⟨(ht.ext e2).sq,λp hp=>?_⟩⟩;exact(q.ext (e1.trans e2)).tup R2 hp (rs.ext e2).reverse
  ·cases ex;obtain⟨a',rfl,ha⟩:=r1.l6;refine⟨U,_,cE,s.ext e1,R1,?_⟩;refine⟨_,_,⟨rfl,1,rfl,rfl,rfl⟩,λft H2 v2 e2 R2 r2=>?_⟩;obtain⟨vs,hq,rs⟩:=R2.items hl (e2.get ha);refine⟨r2.j8,_,_,rfl,.inr ⟨hq,λp hp=>?_⟩⟩;exact(q.ext (e1.trans e2)).new R2 hp rs.reverse
section
variable(S:pE P r)(C:iI X c P Ξ)
include C
theorem Qw(h:Dj c x=some m):PE X (.Name x pos) (LE X.K Ξ (bo P m)):=by
 unfold Dj at h;split at h
 ·rename_i hV;obtain⟨d1,d2,d3⟩:=Y1 hV;split at h
  ·rename_i hv;obtain⟨i,hi,rfl⟩:=aa.mp h;exact Ry (C.qW hi) (C.Pq hv) d1 d2
  ·split at h
   ·rename_i hg;rcases orElse_some h with h|h
    ·obtain⟨d,hd,rfl⟩:=aa.mp h;obtain⟨v,u,hm,r,rr⟩:=C.con x d hd;exact X4 (Jk (C.C2 hg) hm r d1) rr
    ·split at h
     ·rename_i hb;obtain⟨t,ht,rfl⟩:=aa.mp h;exact X4 (v:=.ty t) (SY (C.C2 hg) (C.blt x hb) (Xk ht) rfl d3 d1) λ_ _=>.ty t
     ·cases h
   ·cases h
 ·cases h
omit C in
theorem ES{k:Const}{j:Nat}{d:D}(h:CN k=some d):PE X (.Constant k j pos) (LE X.K Ξ (bo P (.lit d))):=by
 cases k<;>first|(cases h;done)|skip
 ·cases h;exact X4 QO λ_ _=>.bO
 ·cases h;exact X4 OK λ_ _=>.bl _
 ·cases h;exact X4 QM λ_ _=>.int _
 ·cases h;exact X4 QS λ_ _=>.str _
include S
theorem UY{op:UnaryOp}(h:yY r c op a=some m):PE X (.UnaryOp op a pos) (LE X.K Ξ (bo P m)):=by
 unfold yY at h;split at h
 ·rename_i ho;subst ho;obtain⟨ma,ha,rfl⟩:=aa.mp h;exact Rv C.mono (S.e X c Ξ C _ _ ha)
 ·obtain⟨ma,ha,rfl⟩:=Z3 S C h;exact Kr C.mono ha
theorem Kn{ops:List CmpOp}{bs:List Expr}(h:vH r c a ops bs=some m):PE X (.Compare a ops bs pos) (LE X.K Ξ (bo P m))/\PT X (.Compare a ops bs pos) (LT X.K Ξ (et P (.fR m))):=by
 unfold vH at h;split at h
 ·rename_i op b;split at h
  ·cases h
  ·rename_i hm;have hm:behindInMarks op b=false:=by simpa using hm
   obtain⟨ma,mb,ha,hb,rfl⟩:=vR S C h;exact⟨DB C.mono (Tb (Y0 C.units op) ha hb hm),RI C.mono (Tp (Y0 C.units op) ha hb hm)⟩
 ·split at h
  ·cases h
  ·rename_i hm;obtain⟨ma,ha,h⟩:=aj.mp h;obtain⟨mb,hb,h⟩:=aj.mp h;obtain⟨md,hd,rfl⟩:=aa.mp h;exact⟨a11 C.mono C.units (S.e X c Ξ C _ _ ha) (S.e X c Ξ C _ _ hb) (S.e X c Ξ C _ _ hd) (by simpa using hm),a02 C.mono C.units (S.e X c Ξ C _ _ ha) (S.e X c Ξ C _ _ hb) (S.e X c Ξ C _ _ hd) (by simpa using hm)⟩
 ·cases h
omit S C in
theorem Yw(h:Dn d=true):∃j p q,d=.UnaryOp .USub (.Constant (.int 1) j p) q:=by
 cases d with
 |UnaryOp op a q=>cases op with
  |USub=>cases a with
   |Constant k j p=>cases k with
    |int i=>rw[show i=1 from bj h];exact⟨_,_,_,rfl⟩
    |_=>cases h
   |_=>cases h
  |_=>cases h
 |_=>cases h
theorem UU{lo hi st:Option Expr}{p2:Pos}(h:Em r c a lo hi st=some m):PE X (.Subscript a (.Slice lo hi st p2) pos) (LE X.K Ξ (bo P m)):=by
 cases lo<;>cases hi<;>cases st<;>first|(cases h;done)|skip
 ·rename_i d;have h2:(if Dn d=true then c1 r c .rev a else none)=some m:=h;split at h2
  ·rename_i hn;obtain⟨j,p,q,rfl⟩:=Yw hn;obtain⟨ma,ha,rfl⟩:=Z3 S C h2;exact Rw C.mono ha (Kr C.mono (ES (k:=.int 1) rfl))
  ·cases h2
 ·obtain⟨ma,mb,ha,hb,rfl⟩:=vR S C h;exact a05 C.mono ha hb
theorem Wz(h:GU r c a b=some m):PE X (.Subscript a b pos) (LE X.K Ξ (bo P m)):=by
 rcases orElse_some h with h|h
 ·obtain⟨q,hq,h⟩:=aj.mp h;have eb:∃p,b=.Slice q.1 q.2.1 q.2.2 p:=by cases b<;>first|(cases hq;exact⟨_,rfl⟩)|cases hq
  obtain⟨p,rfl⟩:=eb;exact UU S C h
 ·split at h
  ·rename_i hb;rcases orElse_some h with h|h
   ·obtain⟨kvs,hk,h⟩:=aj.mp h;obtain⟨mb,lA,rfl⟩:=aa.mp h;obtain⟨x,p,rfl,hg,hd,hk⟩:=a46 hk;exact TK C.mono (C.C2 hg) (Y1 hd).1 (C.Ga x kvs hk) (S.e X c Ξ C _ _ lA) (IE hb)
   ·obtain⟨ma,mb,ha,lA,rfl⟩:=vR S C h;exact DB C.mono (Ko (Wl C.units) ha lA (IE hb))
  ·cases h
theorem UW{px:Pos}(hg:c.gl x=true)(h:El r c x e=some m):PE X (.Call (.Name x px) [e] [] pos) (LE X.K Ξ (bo P m)):=by
 obtain⟨q,hq,h'⟩:=aj.mp h;clear h;have h:=h';clear h';obtain⟨p,pos',rfl⟩:=HU hq;obtain⟨y,as⟩:=q;dsimp only at h ⊢;split at h
 ·rename_i hc;simp only[Bool.and_eq_true,decide_eq_true_eq] at hc;obtain⟨⟨⟨⟨rfl,rfl⟩,hl⟩,hr⟩,rS⟩:=hc;rcases as with _|⟨a,_|⟨b,_|⟨_,_⟩⟩⟩
  ·cases h
  ·dsimp only at h;split at h
   ·rename_i ho;obtain⟨ma,ha,rfl⟩:=Z3 S C h;exact a10 C.mono C.calm ha (C.C2 hg) (C.blt _ hl) (C.C2 rS) (C.blt _ hr) (q8 ho)
   ·cases h
  ·dsimp only at h;split at h
   ·rename_i ho;rw[aX] at ho;obtain⟨ma,mb,ha,hb,rfl⟩:=vR S C h;exact a09 C.mono C.calm ha hb (C.C2 hg) (C.blt _ hl) (C.C2 rS) (C.blt _ hr) (by rw[q8 ho.1,q8 ho.2];rfl) (q8 ho.2)
   ·cases h
  ·cases h
 ·split at h
  ·rename_i hc;simp only[Bool.and_eq_true,decide_eq_true_eq] at hc;obtain⟨⟨⟨⟨rfl,rfl⟩,hl⟩,hr⟩,rS⟩:=hc;rcases as with _|⟨a,_|⟨_,_⟩⟩
   ·cases h
   ·dsimp only at h;split at h
    ·rename_i ho;obtain⟨ma,ha,rfl⟩:=Z3 S C h;exact TV C.mono C.calm ha (C.C2 hg) (C.blt _ hl) (C.C2 rS) (C.blt _ hr) (q8 ho)
    ·cases h
   ·cases h
  ·split at h
   ·rename_i hc;simp only[Bool.and_eq_true,decide_eq_true_eq] at hc;obtain⟨⟨⟨⟨rfl,rfl⟩,hl⟩,hr⟩,rS⟩:=hc;rcases as with _|⟨a,_|⟨_,_⟩⟩
    ·cases h
    ·dsimp only at h;split at h
     ·rename_i ho;obtain⟨ma,ha,rfl⟩:=Z3 S C h;exact TM C.mono C.calm ha (C.C2 hg) (C.blt _ hl) (C.C2 rS) (C.blt _ hr) (q8 ho)
     ·cases h
    ·cases h
   ·cases h
theorem SO{px:Pos}(h:IU r c x args=some m):PE X (.Call (.Name x px) args [] pos) (LE X.K Ξ (bo P m)):=by
 cases args with
 |nil =>
  have h2:Bq c x=some m:=h;unfold Bq at h2;split at h2
  ·rename_i hV;rw[aX] at hV;rcases orElse_some h2 with h2|h2
   ·obtain⟨f,hf,rfl⟩:=aa.mp h2;obtain⟨k,fa,fd,ps,F,hr,hm,hk⟩:=C.fns x f hf;exact a12 C.mono C.pass F hr (C.C2 hV.2) hm hk (Y1 hV.1).1
   obtain⟨f,hf,rfl⟩:=aa.mp h2;obtain⟨k,C',fa,fd,ps,F,hr,hm,hC,jS,M⟩:=C.cls x f hf;exact a08 C.mono C.pass F M hC jS hr (C.C2 hV.2) hm (Y1 hV.1).1
  ·cases h2
 |cons e es =>
  have h0:Br r c x e es=some m:=h;clear h;have h:=h0;clear h0;unfold Br at h;split at h
  ·rename_i hV;rw[aX] at hV;obtain⟨d1,d2,d3⟩:=Y1 hV.1;rcases orElse_some h with h|h
   ·cases es with
    |nil=>exact UW S C hV.2 h
    |cons _ _=>cases h
   ·obtain⟨ms,rP,h⟩:=aj.mp h;have ok:=JC rP;have pa:=wW S C rP;have fN:=q8 (env:=X.env) (es:=es) (ok e (by simp));have hU:=BU (pos:=pos) (env:=X.env) (es:=es) λz hz=>ok z (by simp[hz]);rcases orElse_some h with h|h
    ·obtain⟨f,hf,rfl⟩:=aa.mp h;obtain⟨k,fa,fd,ps,F,hr,hm,hk⟩:=C.fns x f hf;exact TC C.mono C.pass F hr (C.C2 hV.2) hm hk pa d1 fN hU
    ·rcases orElse_some h with h|h
     ·obtain⟨f,hf,rfl⟩:=aa.mp h;obtain⟨k,C',fa,fd,ps,F,hr,hm,hC,jS,M⟩:=C.cls x f hf;exact TQ C.mono C.pass F M hC jS hr (C.C2 hV.2) hm pa d1 fN hU
     ·split at h
      ·rename_i hb;obtain⟨p,hp,rfl⟩:=aa.mp h;obtain⟨v,hv,Am,hc⟩:=Xr (X:=X) C.calm C.units hp;exact Ro C.mono hv hc (C.C2 hV.2) (C.blt x hb) Am pa d3 d1 fN hU
      ·cases h
  ·cases h
theorem SN{mt:Str}{apos:Pos}(h:Bs r c o mt apos pos args=some m):PE X (.Call (.Attribute o mt apos) args [] pos) (LE X.K Ξ (bo P m)):=by
 unfold Bs at h;split at h
 ·rename_i hc;simp only[Bool.and_eq_true,decide_eq_true_eq] at hc;obtain⟨⟨hb,hl⟩,hn⟩:=hc;obtain⟨mo,ho,h⟩:=aj.mp h;obtain⟨ms,rP,h⟩:=aj.mp h;have ok:=JC rP;have pa:=wW S C rP;have po:=S.e X c Ξ C _ _ ho;have hf:methodCallForm args.length (backTo pos (starEach args X.env)) (backToKw pos (keywordEach [] X.env))=true:=by
   unfold methodCallForm;rw[JT ok];have:args.length+0<30:=by omega
   show(true&&true&&decide (args.length+0<30))=true;rw[aw this]
   rfl
  by_cases uT:mt="index"
  ·subst uT;rw[aJ rfl] at h;cases h
  rw[aF uT] at h;cases args with
  |nil =>
   cases rP;by_cases h0:(yu.lookup mt).isSome=true
   ·rw[aJ (by rw[h0];rfl)] at h;obtain⟨p,hp,rfl⟩:=aa.mp h;obtain⟨T,id,zr,sl,ty,zy,hk⟩:=YO (X:=X) hp;exact a07 C.mono zr sl ty zy hk po (R7 hb) hl
   rw[aF (by rw[aX];exact λz=>h0 z.2)] at h;split at h
   ·cases h
   ·cases h
  |cons e es =>
   have fN:=q8 (env:=X.env) (es:=es) (ok e (by simp));have hU:=BU (pos:=pos) (env:=X.env) (es:=es) λz hz=>ok z (by simp[hz]);rw[aF (by simp)] at h;split at h
   ·rename_i p hp;cases h;obtain⟨T,id,zr,sl,ty,zy,hk⟩:=XT (X:=X) C.units hp;exact TR C.mono zr sl ty zy hk po pa (R7 hb) hf hl fN hU
   ·cases h
 ·cases h
theorem ET{tg:Expr}(h:xI r c tg e=some m):PI X tg e (LI X.K Ξ (gI P m)):=by
 rcases orElse_some h with h|h
 ·obtain⟨q,hq,h'⟩:=aj.mp h;rename_i h0;clear h h0;have h:=h';clear h';obtain⟨p,pos',rfl⟩:=HU hq;obtain⟨y,as⟩:=q;dsimp only at h ⊢;split at h
  ·rename_i hy;subst hy;rcases as with _|⟨a,_|⟨_,_⟩⟩
   ·cases h
   ·dsimp only at h;split at h
    ·rename_i hc;simp only[Bool.and_eq_true] at hc;obtain⟨⟨⟨hg,hb⟩,ho⟩,ht⟩:=hc;obtain⟨ma,ha,rfl⟩:=aa.mp h;obtain⟨es,k,tp,rfl⟩:=Xq ht;exact Ua C.mono (S.e X c Ξ C _ _ ha) (C.C2 hg) (C.blt _ hb) (q8 ho)
    ·cases h
   ·cases h
  ·split at h
   ·rename_i hy;subst hy;rcases as with _|⟨a,_|⟨_,_⟩⟩
    ·cases h
    ·dsimp only at h;split at h
     ·rename_i hc;simp only[Bool.and_eq_true] at hc;obtain⟨⟨hg,hb⟩,ho⟩:=hc;obtain⟨ma,ha,rfl⟩:=aa.mp h;exact RB C.mono (S.e X c Ξ C _ _ ha) (C.C2 hg) (C.blt _ hb) (q8 ho)
     ·cases h
    ·cases h
   split at h
   ·rename_i hy;subst hy;rcases as with _|⟨a,_|⟨b,_|⟨_,_⟩⟩⟩
    ·cases h
    ·dsimp only at h;split at h
     ·rename_i hc;simp only[Bool.and_eq_true] at hc;obtain⟨⟨hg,hb⟩,ho⟩:=hc;obtain⟨ma,ha,rfl⟩:=aa.mp h;exact Ub C.mono (S.e X c Ξ C _ _ ha) (C.C2 hg) (C.blt _ hb) (q8 ho)
     ·cases h
    ·dsimp only at h;split at h
     ·rename_i hc;simp only[Bool.and_eq_true] at hc;obtain⟨⟨⟨hg,hb⟩,ho⟩,qd⟩:=hc;obtain⟨ma,ha,h⟩:=aj.mp h;obtain⟨mb,lA,rfl⟩:=aa.mp h;exact Uc C.mono (S.e X c Ξ C _ _ ha) (S.e X c Ξ C _ _ lA) (C.C2 hg) (C.blt _ hb) (by rw[q8 ho,q8 qd];rfl) (q8 qd)
     ·cases h
    ·cases h
   ·cases h
 ·split at h
  ·obtain⟨ma,ha,rfl⟩:=aa.mp h;exact RC C.mono (S.e X c Ξ C _ _ ha)
  ·cases h
theorem BH{elt:Expr}{gens:List Comprehension}{sc:Scope}(h:Z4 r c elt gens sc=some m):∃tg it ifs t mi mc me cl,gens=[⟨tg,it,ifs,0⟩]/\m=.comp (c.d4 sc) (frees sc++locals sc).length t mi mc me/\gQ it=true /\
  dJ X sc (frees sc++locals sc) (c.d4 sc) cl/\PI X tg it (LI X.K Ξ (gI P mi))/\(∀pins A s H fp,PG (d5 X pins sc (frees sc++locals sc) cl A s H fp) tg (LG X.K t)) /\
   (∀pins A s H fp,lG (d5 X pins sc (frees sc++locals sc) cl A s H fp) ifs (LT X.K (rh Ξ.1) (et P mc)))/\(∀pins A s H fp,PE (d5 X pins sc (frees sc++locals sc) cl A s H fp) elt (LE X.K (rh Ξ.1) (bo P me))):=by
 unfold Z4 at h;rcases gens with _|⟨⟨tg,it,ifs,Fc⟩,_|⟨_,_⟩⟩
 ·cases h
 ·dsimp only at h;split at h
  ·rename_i hs;simp only[Bool.and_eq_true,decide_eq_true_eq] at hs;obtain⟨⟨hs,rfl⟩,hit⟩:=hs;obtain⟨t,h1,h⟩:=aj.mp h;obtain⟨mi,h2,h⟩:=aj.mp h;obtain⟨mc,h3,h⟩:=aj.mp h;obtain⟨me,h4,rfl⟩:=aa.mp h;obtain⟨cl,Sc,I⟩:=C.comp hs;exact⟨tg,it,ifs,t,mi,mc,me,cl,rfl,rfl,hit,Sc,ET S C h2,λpins A s H fp=>(I pins A s H fp).GR rfl h1,λpins A s H fp=>UX S (I pins A s H fp) h3,λpins A s H fp=>S.e _ _ _ (I pins A s H fp) elt me h4⟩
  ·cases h
 ·cases h
omit S in
theorem UT{f:Expr}{ju:List Keyword}(h:wB c f args ju=some m):PE X (.Call f args ju pos) (LE X.K Ξ (bo P m)):=by
 unfold wB at h;cases h
theorem LL:∀e m,Ku r c e=some m->PE X e (LE X.K Ξ (bo P m)):=by
 intro e m h;cases e with
 |Name x p=>exact Qw C h
 |Constant k j p =>
  obtain⟨d,hd,rfl⟩:=aa.mp (show(CN k).map ME.lit=some m from h);exact ES hd
 |BinOp a op b p =>
  obtain⟨ma,mb,ha,hb,rfl⟩:=vR S C h;exact DB C.mono (OM (Qz op) ha hb)
 |UnaryOp op a p=>exact UY S C h
 |Compare a ops bs p=>exact(Kn S C h).1
 |BoolOp op vs p=>exact LM S C h
 |IfExp t a b p =>
  obtain⟨mt,ht,h⟩:=aj.mp h;obtain⟨ma,ha,h⟩:=aj.mp h;obtain⟨mb,hb,rfl⟩:=aa.mp h;exact Rq C.mono (S.t X c Ξ C _ _ ht) (S.e X c Ξ C _ _ ha) (S.e X c Ξ C _ _ hb)
 |Tuple es k p =>
  obtain⟨ma,ha,rfl⟩:=aa.mp h;exact Rx C.mono (wW S C ha)
 |List es p =>
  obtain⟨ma,ha,rfl⟩:=aa.mp h;exact Rt C.mono (wW S C ha)
 |Subscript a b p=>exact Wz S C h
 |Dict ks vs p =>
  have h2:(if ks.isEmpty&&vs.isEmpty then some (ME.prim .P5 .nil) else none)=some m:=h;split at h2
  ·rename_i hc;cases ks<;>cases vs<;>first|(cases hc;done)|skip
   cases h2;exact TH
  ·cases h2
 |Attribute o f p =>
  have h2:(if yf o then c1 r c (.fld f) o else none)=some m:=h;split at h2
  ·rename_i hb;obtain⟨ma,ha,rfl⟩:=Z3 S C h2;exact Rp C.mono ha (R7 hb)
  ·cases h2
 |Call f args ju pos =>
  have h1:((yZ r c f args ju).orElse λ_=>(wB c f args ju).orElse λ_=>Di r c f args ju pos)=some m:=h;rcases orElse_some h1 with h2|h2
  ·unfold yZ at h2;rcases args with _|⟨a,_|⟨_,_⟩⟩
   ·cases h2
   ·dsimp only at h2;split at h2
    ·rename_i hk;simp only[Bool.and_eq_true,decide_eq_true_eq] at hk;obtain⟨⟨⟨hk,hf⟩,mW⟩,hb⟩:=hk;cases ju<;>first|(cases hk;done)|skip
     obtain⟨q,hq,h3⟩:=aj.mp h2;obtain⟨m1,h4,h5⟩:=aj.mp h3;cases f<;>first|(cases hf;done)|skip
     cases a<;>first|(cases hq;done)|skip
     cases hf;cases hq;obtain⟨tg,it,ifs,t,mi,mc,me,cl,eg,rfl,hit,Sc,q1,q2,q3,q4⟩:=BH S C h4;dsimp only at eg;subst eg;cases h5;exact a06 C.mono Sc C.calm q1 q2 q3 q4 (yF hit) (C.C2 mW) (C.blt _ hb)
    ·cases h2
   ·cases h2
  clear h h1;rcases orElse_some h2 with h3|h3
  ·exact UT C h3
  clear h2;unfold Di at h3;split at h3
  ·rename_i hk;cases ju<;>first|(cases hk;done)|skip
   cases f with
   |Name x p=>exact SO S C h3
   |Attribute o a p=>exact SN S C h3
   |_=>cases h3
  ·cases h3
 |Set es k p =>
  have h2:CA c es k=some m:=h;unfold CA at h2;split at h2
  ·rename_i hc;rw[aX] at hc;obtain rfl:=bj hc.2;split at h2
   ·cases h2;exact TU C.mono (C.code hc.1)
   ·cases h2
  ·cases h2
 |ListComp elt gens sc p =>
  obtain⟨tg,it,ifs,t,mi,mc,me,cl,rfl,rfl,hit,Sc,q1,q2,q3,q4⟩:=BH S C h;exact(Jj Sc C.calm q1 q2 q3 q4 (yF hit)).imp λU H Q h=>JE C.mono U H Q h
 |_=>cases h
theorem LJ:∀e m,stepT r c e=some m->PT X e (LT X.K Ξ (et P m)):=by
 intro e m h;have plain:∀{e:Expr} {m:ME},(if Cp e then(r.e c e).map ME.fR else none)=some m->PT X e (LT X.K Ξ (et P m)):=λ{e m} h=>by
  split at h
  ·rename_i hp;obtain⟨ma,ha,rfl⟩:=aa.mp h;exact RJ C.mono (S.e X c Ξ C _ _ ha) (Yi hp)
  ·cases h
 cases e with
 |UnaryOp op a p =>
  have h2:(if op=.Not then(r.t c a).map ME.eP else none)=some m:=h;split at h2
  ·rename_i ho;subst ho;obtain⟨ma,ha,rfl⟩:=aa.mp h2;exact RH C.mono (S.t X c Ξ C _ _ ha)
  ·cases h2
 |BoolOp op vs p=>exact(LH S C h).pt
 |Compare a ops bs p =>
  obtain⟨ma,ha,rfl⟩:=aa.mp (show(vH r c a ops bs).map ME.fR=some m from h);exact(Kn S C ha).2
 |_=>exact plain h
end
section
theorem Sv(C:iI X c P Ξ){f:Str}:Dk X.K f (c.GC f):=λy C' h hC=>by
 obtain⟨⟨f',y'⟩,h1,h2⟩:=aU.mp h;obtain⟨h3,h4⟩:=bq.mp h1;cases h2;have:f'=f:=by simpa using h4
 subst this;exact C.oj f' y' C' h3 hC
variable(S:pE P r)(C:iI X c P Ξ)
include S C
theorem Wx{tg:Expr}{m:MS}(hw:c.wr=true)(hS:∀e m,r.e c e=some m->B0 e=false->∃elt gens sc p,e=.ListComp elt gens sc p/\∃r',pE P r'/\Z4 r' c elt gens sc=some m)(hT:∀a b k p m,r.e c (.Tuple [a,b] k p)=some m->∃r' ms,pE P r'/\K3 r' c [a,b]=some ms/\m=.prim .tup ms)(h:GN r c tg e=some m):PS X (.Assign [tg] e pos) (LS X.K Ξ (wpS P m)):=by
 cases tg with
 |Name x px =>
  have h2:(if c.z9 x then(c.idx x).bind λi=>(r.e c e).map λm=>MS.set i m else none)=some m:=h;split at h2
  ·rename_i hl;obtain⟨i,hi,h2⟩:=aj.mp h2;obtain⟨me,he,rfl⟩:=aa.mp h2;cases hn:B0 e with
   |true=>exact IP C.mono (IG (C.rJ hw) (C.qW hi) (C.z9 hl).1 (S.e X c Ξ C _ _ he) (Cm hn) (C.z9 hl).2)
   |false =>
    obtain⟨elt,gens,sc,p,rfl,r',S',hx⟩:=hS e me he hn;obtain⟨tg,it,ifs,t,mi,mc,me,cl,rfl,rfl,hit,Sc,q1,q2,q3,q4⟩:=BH S' C hx;refine IP C.mono ?_;exact(Zv Sc C.calm q1 q2 q3 q4 (yF hit) (C.rJ hw) (C.qW hi) (C.z9 hl).1 (C.z9 hl).2).imp λN U H h=>JE C.mono U H _ h
  ·cases h2
 |Tuple es k pt =>
  have h0:((Dp es).elim (if sZ e&&B0 e then(c.slots es).bind λis=>(r.e c e).map λm=>MS.lK (.many is) m else none) λq=>if B0 e&&gQ q.2.1&&gQ q.2.2.2 then(r.e c q.1).bind λm1=>(r.e c q.2.1).bind λn1=>(r.e c q.2.2.1).bind λm2=>(r.e c q.2.2.2).bind λn2=>(r.e c e).map λm=>MS.wJ m1 n1 m2 n2 m else none)=some m:=h;cases hq:Dp es with
  |some q =>
   rw[hq] at h0;dsimp only[Option.elim] at h0;split at h0
   ·cases hq
   ·cases h0
  |none =>
  rw[hq] at h0;have h2:(if sZ e&&B0 e then(c.slots es).bind λis=>(r.e c e).map λm=>MS.lK (.many is) m else none)=some m:=h0;split at h2
  ·rename_i hn;rw[aX] at hn;obtain⟨is,hs,h2⟩:=aj.mp h2;obtain⟨me,he,rfl⟩:=aa.mp h2;exact RP C.mono (IF (S.e X c Ξ C _ _ he) (Jr C.calm (C.rJ hw) (C.slots hs)) (Ie hn.2) (a34 hn.1))
  ·cases h2
 |Subscript o i pt =>
  have h2:(if gQ i&&B0 e then(r.e c o).bind λmo=>(r.e c i).bind λmi=>(r.e c e).map λm=>MS.dS mo mi m else none)=some m:=h;split at h2
  ·rename_i hn;rw[aX] at hn;obtain⟨mo,ho,h2⟩:=aj.mp h2;obtain⟨mi,hi,h2⟩:=aj.mp h2;obtain⟨me,he,rfl⟩:=aa.mp h2;exact a01 C.mono C.units (S.e X c Ξ C _ _ he) (S.e X c Ξ C _ _ ho) (S.e X c Ξ C _ _ hi) (Ie hn.2) (SR hn.1)
  ·cases h2
 |Attribute o f pt =>
  obtain⟨mo,ho,h⟩:=aj.mp h;obtain⟨me,he,rfl⟩:=aa.mp h;exact Uj C.mono (Sv C) (S.e X c Ξ C _ _ ho) (S.e X c Ξ C _ _ he) (by cases e<;>rfl)
 |_=>cases h
theorem LK(hw:c.wr=true)(hS:∀e m,r.e c e=some m->B0 e=false->∃elt gens sc p,e=.ListComp elt gens sc p/\∃r',pE P r'/\Z4 r' c elt gens sc=some m)(hT:∀a b k p m,r.e c (.Tuple [a,b] k p)=some m->∃r' ms,pE P r'/\K3 r' c [a,b]=some ms/\m=.prim .tup ms) :
  ∀st m,Kv r c st=some m->PS X st (LS X.K Ξ (wpS P m)):=by
 intro st m h;have hP:=C.mono;cases st with
 |AugAssign tg op e p =>
  cases tg with
  |Name x tp =>
   have h2:(if c.z9 x then(JZ op).bind λp=>(c.idx x).bind λi=>(r.e c e).map λm=>MS.kx i p m else none)=some m:=h;split at h2
   ·rename_i hl;obtain⟨p,hp,h2⟩:=aj.mp h2;obtain⟨i,hi,h2⟩:=aj.mp h2;obtain⟨me,he,rfl⟩:=aa.mp h2;refine Uh C.mono ?_ (C.rJ hw) (C.qW hi) (C.z9 hl).1 (C.z9 hl).2 (S.e X c Ξ C _ _ he);cases op<;>first|(cases hp;done)|skip
    ·cases hp;exact .inl ⟨rfl,rfl⟩
    ·cases hp;exact .inr ⟨rfl,rfl⟩
   ·cases h2
  |_=>cases h
 |Expr e p =>
  have h2:(if B0 e then(r.e c e).map MS.expr else none)=some m:=h;split at h2
  ·rename_i hn;obtain⟨me,he,rfl⟩:=aa.mp h2;exact Ui hP (S.e X c Ξ C _ _ he) (Cm hn)
  ·cases h2
 |Assign zg e p =>
  rcases zg with _|⟨tg,_|⟨_,_⟩⟩
  ·cases h
  ·exact Wx S C hw hS hT h
  ·cases h
 |If t a b p =>
  obtain⟨mt,ht,h⟩:=aj.mp h;obtain⟨ma,ha,h⟩:=aj.mp h;obtain⟨mb,hb,rfl⟩:=aa.mp h;exact Pb hP (S.t X c Ξ C _ _ ht) (wa S C hw ha) (wa S C hw hb)
 |For tg it body ox p =>
  have h2:(if c.nk&&(ox.isEmpty&&gQ it) then(c.tg tg).bind λt=>(xI r c tg it).bind λmi=>(B4 r c body).map λmb=>MS.dC t mi mb else none)=some m:=h;split at h2
  ·rename_i hc;rw[aX,aX] at hc;cases ox<;>first|(cases hc.2.1;done)|skip
   obtain⟨t,h1,h2⟩:=aj.mp h2;obtain⟨mi,h3,h2⟩:=aj.mp h2;obtain⟨mb,h4,rfl⟩:=aa.mp h2;exact RN hP (C.own hc.1) C.calm (ET S C h3) (C.GR hw h1) (wa S C hw h4) (yF hc.2.2)
  ·cases h2
 |While t body ox p =>
  have h2:(if c.nk&&ox.isEmpty then(r.t c t).bind λmt=>(B4 r c body).map λmb=>MS.jZ mt mb else none)=some m:=h;split at h2
  ·rename_i hc;rw[aX] at hc;cases ox<;>first|(cases hc.2;done)|skip
   obtain⟨mt,h1,h2⟩:=aj.mp h2;obtain⟨mb,h4,rfl⟩:=aa.mp h2;exact a00 hP (C.own hc.1) (S.t X c Ξ C _ _ h1) (wa S C hw h4)
  ·cases h2
 |Return e p =>
  cases e with
  |none=>cases h;exact(Tn (X:=X)).imp λN cG H ⟨U,g,ρ,s,R,h⟩=>LQ.now h R .bO
  |some e =>
   obtain⟨me,he,rfl⟩:=aa.mp (show(r.e c e).map (λm=>MS.ret (toR c e m))=some m from h);refine RO hP ?_;exact S.e X c Ξ C _ _ he
 |Pass p=>cases h;exact(Tj (X:=X)).imp λN cG H ⟨U,g,ρ,s,R,h⟩=>h ρ H cG (.refl _ _) R s
 |_=>cases h
end
theorem Zl(h:(comp (n+1)).e c e=some m)(hn:B0 e=false):∃elt gens sc p,e=.ListComp elt gens sc p/\Z4 (comp n) c elt gens sc=some m:=by
 cases e<;>first|(cases hn;done)|(cases h;done)|exact⟨_,_,_,_,rfl,h⟩
theorem snd:∀n,(∀k,k<=n->pE P (comp k)):=by
 intro n
 induction n with
 |zero =>
  intro k hk;obtain rfl:=Nat.le_zero.mp hk;exact⟨λ_ _ _ _ _ _ h=>(by cases h),λ_ _ _ _ _ _ h=>(by cases h),λ_ _ _ _ _ _ _ h=>(by cases h)⟩
 |succ n ih =>
  intro k hk;rcases fZ k (n+1) with dZ|kA
  ·grind
  obtain rfl:k=n+1:=by omega
  have I:=ih n (ai n);refine⟨λX c Ξ C e m h=>LL I C e m h,λX c Ξ C e m h=>LJ I C e m h,λX c Ξ C hw st m h=>?_⟩;rcases orElse_some h with h|h
  rotate_left
  ·cases h;exact λpins s U H D I q=>by obtain⟨_,_,_,_,_,z⟩:=q;exact(show False from z).elim
  refine LK I C hw (λe m he hn=>?_) (λa b k p m he=>?_) st m h
  ·cases n with
   |zero=>cases he
   |succ n =>
    obtain⟨elt,gens,sc,p,rfl,hx⟩:=Zl he hn;exact⟨_,_,_,_,rfl,comp n,ih n (),hx⟩
  ·cases n with
   |zero=>cases he
   |succ n =>
    obtain⟨ms,hm,rfl⟩:=aa.mp (show(K3 (comp n) c [a,b]).map (ME.prim .tup)=some m from he);exact⟨comp n,ms,ih n (),hm,rfl⟩
structure oH where
 nm:Str
 qn:Str
 N:List Str
 ps:List Str
 st:Stmt
def j5.at(c:j5)(d:oH):j5:={ c with N:=d.N,nm:=(q9 d.st).names,nk:=true,ua:=true,tQ:=true,wr:=true }
structure jF(K:PySem.W.Frag)(c:j5)(d:oH)(m:ba)(f:Addr)(fd:FuncData):Prop where
 fn:pF K d.nm d.qn d.st f fd
 bi:Binds K fd d.ps []
 sc:iS d.N d.ps (q9 d.st)
 co:B4 (comp 60) (c.at d) (t8 d.st)=some m.body
 ar:m.ar=d.ps.length
 nn:m.n=d.N.length
structure nu(w:World)(K:PySem.W.Frag)(mg:Str->Option Value)(c:j5)(T:Nat->Option ba):Prop where
 fns:∀x i,c.fns.lookup x=some i->∃d m f fd,T i=some m/\jF K c d m f fd/\mg x=some (.ref f)
 cls:∀x i,c.cls.lookup x=some i->∃C d m f fd,T i=some m/\jF K c d m f fd/\mg x=some (.ref C)/\F2 K x C/\jV K C/\Mk K C f
 pV:∀x y i C,(x,y,i)∈c.pV->F2 K y C->∃d m f fd,T i=some m/\jF K c d m f fd/\Meth K C x f
 oj:∀f y C,(f,y)∈c.oj->F2 K y C->C0 K C f
 con:∀x d,c.con.lookup x=some d->∃v u,mg x=some u/\RelV v u/\∀ρ H,d6 K ρ H d v
 blt:∀x,c.blt.contains x=true->mg x=none
 qJ:∀x kvs,c.gd.lookup x=some kvs->∃A vs,mg x=some (.ref A)/\xF K w.params A vs/\pq K kvs vs
section
variable{Pg:Program}{w:World}{K:PySem.W.Frag}{mg:Str->Option Value}{base:Heap}{T:Nat->Option ba}
theorem Qd{cd:Value}{q:Str}(h:PySem.W.codeIn K cd q=true):PySem.W.kdsCode K cd=true:=by
 unfold PySem.W.codeIn at h;unfold PySem.W.kdsCode;split at h
 ·dsimp only;split at h
  ·rename_i e;rw[e]
  ·cases h
 ·cases h
theorem SX{N:List Str}{qual:Str}{scope:Scope}{f:Addr}{cd:Value}{A:Around}{outer:List Env}{s:Shared}{H:Hp}{E:XK}:Passes (ky Pg w) (qV (ky Pg w) Pg w K mg base N qual scope f cd A outer s H E) E:=λpins U H1 s1 e s' I h=>by
 obtain⟨C,H',J,fl,hE⟩:=I.flew h;exact ZJ J fl (λb o q=>I.base.there b o q (by intro z;cases z)) rfl rfl rfl hE
theorem By{k:Nat}{m:ba}(hT:T i=some m){ds:List D}{g:G}{Q:KD}{E:KX}(h:b8 T k i ds g Q E):ds.length=m.ar:=by
 cases k with
 |zero=>exact h.elim
 |succ k =>
  obtain⟨m',e,h,_⟩:=h
  simp_all
theorem Px(pY:K.In base)(FY:base.Ns mainGlobals mg)(A:nu w K mg c T):∀(k i:Nat) d m f fd,T i=some m->jF K c d m f fd->ie Pg w K mg base (ky Pg w) (2*k) f fd d.ps (oQ c.exc K d.ps.length (b8 T k i)):=by
 intro k
 induction k with
 |zero =>
  intro i d m f fd hm O;refine⟨λvs H Q E h=>h.1,λA outer s H args us vs Q E _ _ _ _ h=>?_⟩;obtain⟨_,_,_,_,_,_,q⟩:=h;exact q.elim
 |succ k ih =>
  intro i d m f fd hm O;obtain⟨oc,od,kV,doc,pm,an,fS,ct,mq,rfl,lk,lR⟩:=O.fn.ex;refine Wb (k:=2*k+1) lk lR O.sc (λvs H Q E h=>h.1) (λA0 outer s H vs Q E hr h=>?_);obtain⟨hl,xs,g,ρ,rs,R,q⟩:=h;have C:iI (qV (ky Pg w) Pg w K mg base d.N d.qn (q9 d.st) f fS A0 outer s H E) (c.at d) (b8 T k) (c.exc,E):=by
   refine⟨rfl,O.sc.nd,λx h=>h,λx h=>h,λx h=>.inr h,λx h=>h,λx h=>?_,λ_ _=>rfl,rfl,?_,(λ_=>PassesOwn.leaving),a8 T k,A.con,A.blt,λx j hj=>?_,λx j hj=>?_,λx y j C' hj hC=>?_,A.oj,rfl,SX,A.qJ,λ_=>Qd lR,λ_=>rfl⟩
   ·rcases h with h|h
    ·exact BO h
    ·exact absurd rfl (O.sc.mL _ (aP h))
   ·have:=hr.un;show(A0.deeper _).units+100<cLine;omega
   ·obtain⟨d',m',f',ph,hT,O',hmg⟩:=A.fns x j hj;exact⟨2*k,f',ph,d'.ps,⟨ih j d' m' f' ph hT O',O'.bi,λGs g' Q' E' h'=>(By hT h').trans O'.ar⟩,hr.mono (),hmg,O'.fn.kp⟩
   ·obtain⟨C',d',m',f',ph,hT,O',hmg,hC,jS,M⟩:=A.cls x j hj;exact⟨2*k,C',f',ph,d'.ps,⟨ih j d' m' f' ph hT O',O'.bi,λGs g' Q' E' h'=>(By hT h').trans O'.ar⟩,hr,hmg,hC,jS,M⟩
   ·obtain⟨d',m',f',ph,hT,O',M⟩:=A.pV x y j C' hj hC;exact⟨2*k,f',ph,d'.ps,M,⟨ih j d' m' f' ph hT O',O'.bi,λGs g' Q' E' h'=>(By hT h').trans O'.ar⟩,hr.mono ()⟩
  refine⟨_,wa (snd (P:=b8 T k) 60 60 (ai _)) C rfl O.co,?_⟩;obtain⟨m',e,q1,q⟩:=q;rw[hm] at e;cases e;refine⟨c8 m xs,g,ρ,?_,R,wpS_mono (a8 T k) m.body ⟨λ_ g'=>LQ K ρ H Q .bO g',LQ K ρ H Q,λ_ _=>False,λ_ _=>False⟩ _ _ _ _ _ ⟨λU g' h cq H' dA e R' s'=>h cq H' _ e R' .bO,λd g' h=>h,λ_ _ h=>h.elim,λ_ _ h=>h.elim⟩ (λ_ _ z=>z) q⟩;have:=u3.start (n:=d.N.length) rs;unfold c8 L2.start;rw[O.nn];exact this
theorem Qi{L k0:Nat}{H:Hp}{a:Addr}{ns:List Int}(hO:yJ H)(hS:fO K H a (ns.map V.int))(h:b8 T k0 L [.ref 0] [.oi (ns.map .int)] (λd _=>d=.bl true) ik) :
  oQ exc K 1 (b8 T k0 L) [.ref a] H (λv _=>v=.bl true) λ_ _ _=>False:=by
 refine⟨rfl,[.ref 0],[.oi (ns.map .int)],[a],.cons (.ref rfl) .nil,⟨rfl,λi o b h1 h2=>?_,λi j l m b h1 h2 m1=>?_⟩,a8 T k0 _ _ _ _ _ _ _ (λd g' e cq H' v _ _ r=>?_) (λ_ _ z=>z.elim) h⟩
 ·cases i with
  |zero =>
   cases h1;cases h2;refine⟨_,?_,c6.ofInts ns⟩;rcases hS with(z|⟨o,z⟩)|z
   ·rcases hO a with q|⟨o,xs,q⟩
    ·simp_all
    simp_all
   ·exact .inl ⟨o,z⟩
   ·exact .inr z
  |succ i=>simp at h1
 ·cases i with
  |zero=>cases h1;cases m1
  |succ i=>simp at h1
 ·subst e;cases r
  rfl
end
end M
namespace M
open PySem L2
variable{P:fu}{g:G}{Q:Bool->G->Prop}{E:KX}{N:Ends}{a i n:Nat}{b:Bool}{c f:Str}{o cond elt:ME}{x y d v:D}{j:Int}{l:List D}{A B:Prop}{kvs:List (Key×D)}{k:Key}{kg:G->Prop}{ns:List Int}{d4:List Nat}{R:IK->G->Prop}
section
variable{U:S}{Q:KD}{a b c:ME}{x y:MS}{p:Pr}
theorem C3(h:N.nx U g):wpS P .pass N U g E:=h
theorem vO(h:wpS P x ⟨λiL g1=>wpS P y N iL g1 E,N.rt,N.bk,N.ct⟩ U g E):wpS P (.seq x y) N U g E:=h
theorem R8(h:wpS P x N U g E):wpS P (.seq x .pass) N U g E:=h
theorem Sb(h:bo P a U g (λ_ g1=>N.nx U g1) E):wpS P (.expr a) N U g E:=h
theorem xU(h:bo P a U g (λx g1=>N.nx (U.set i (some x)) g1) E):wpS P (.set i a) N U g E:=h
theorem Pu{t:MT}(h:bo P a U g (λx g1=>jq t x U λiL=>N.nx iL g1) E):wpS P (.lK t a) N U g E:=h
theorem Ju{i:ME}(h:bo P a U g (λx g1=>bo P o U g1 (λy g2=>bo P i U g2 (λz g3=>V3 y z x g3 λg4=>N.nx U g4) E) E) E):wpS P (.dS o i a) N U g E:=h
theorem Sg{cs:List Str}(h:bo P a U g (λx g1=>bo P o U g1 (λy g2=>vN f cs y x g2 λg3=>N.nx U g3) E) E):wpS P (.iz f cs o a) N U g E:=h
theorem Df(h:et P c U g (λt g1=>if t=true then wpS P x N U g1 E else wpS P y N U g1 E) E):wpS P (.ifs c x y) N U g E:=h
theorem Dg(h:bo P a U g N.rt E):wpS P (.ret a) N U g E:=h
theorem w_var(e:U[i]?=some (some d))(h:Q d g):bo P (.var i) U g Q E:=by exact⟨d,e,h⟩
theorem w_lit(h:Q d g):bo P (.lit d) U g Q E:=h
theorem Sf(h:gP P a U g (λxs g1=>cP p xs g1 Q) E):bo P (.prim p a) U g Q E:=h
theorem VF(h:cP p [] g Q):bo P (.prim p .nil) U g Q E:=by exact h
theorem vF(h:bo P a U g (λx g1=>cP p [x] g1 Q) E):bo P (.prim p (.cons a .nil)) U g Q E:=by exact h
theorem vG(h:bo P a U g (λx g1=>bo P b U g1 (λy g2=>cP p [x,y] g2 Q) E) E):bo P (.prim p (.cons a (.cons b .nil))) U g Q E:=by exact h
theorem Ul{o1 o2:CmpOp}(h:bo P a U g (λx g1=>bo P b U g1 (λy g2=>cP (.cmp o1) [x,y] g2 λz g3=>∃t,z=.bl t/\if t=true then bo P c U g3 (λw g4=>cP (.cmp o2) [y,w] g4 Q) E else Q (.bl false) g3) E) E):bo P (.chain o1 o2 a b c) U g Q E:=h
theorem w_and(h:bo P a U g (λx g1=>∃t,x=.bl t/\if t=true then bo P b U g1 Q E else Q (.bl false) g1) E):bo P (.dE a b) U g Q E:=h
theorem w_or(h:bo P a U g (λx g1=>∃t,x=.bl t/\if t=true then Q (.bl true) g1 else bo P b U g1 Q E) E):bo P (.jK a b) U g Q E:=h
theorem w_not(h:bo P a U g (λx g1=>∃t,x=.bl t/\Q (.bl (!t)) g1) E):bo P (.eP a) U g Q E:=h
theorem w_ite(h:et P c U g (λt g1=>if t=true then bo P a U g1 Q E else bo P b U g1 Q E) E):bo P (.ite c a b) U g Q E:=h
theorem yj{f:Nat}(h:gP P a U g (λxs g1=>P f xs g1 Q E) E):bo P (.call f a) U g Q E:=h
theorem Sd{f:Nat}{c:Str}(h:gP P a U g (λxs g1=>P f (.ref g1.length::xs) (g1++[.ins c []]) (λd g2=>d=.bO/\Q (.ref g1.length) g2) E) E):bo P (.make c f a) U g Q E:=h
theorem Se(h:bo P o U g (λx g1=>mr p x g1/\gP P a U g1 (λxs g2=>cP p (x::xs) g2 Q) E) E):bo P (.eE p o a) U g Q E:=h
theorem xT{Q:List D->G->Prop}(h:Q [] g):gP P .nil U g Q E:=h
theorem R9{Q:List D->G->Prop}(h:bo P a U g (λx g1=>gP P b U g1 (λxs g2=>Q (x::xs) g2) E) E):gP P (.cons a b) U g Q E:=h
theorem Si{Q:Bool->G->Prop}(h:et P a U g (λt g1=>if t=true then et P b U g1 Q E else Q false g1) E):et P (.dE a b) U g Q E:=h
theorem Pt{Q:Bool->G->Prop}(h:et P a U g (λt g1=>if t=true then Q true g1 else et P b U g1 Q E) E):et P (.jK a b) U g Q E:=h
theorem Sj{Q:Bool->G->Prop}(h:et P a U g (λt g1=>Q (!t) g1) E):et P (.eP a) U g Q E:=h
theorem vP{Q:Bool->G->Prop}(h:Q true g):et P .no U g Q E:=h
theorem Dh{Q:Bool->G->Prop}(h:bo P a U g (λx g1=>pC g1 x λb=>Q b g1) E):et P (.fR a) U g Q E:=h
end
section
variable{Q:KD}{i:Int}{kb:Bool->Prop}{t s:Bool}{m:List D}
theorem VH(h:Q (.int (i+j)) g):cP (.bin .Add) [.int i,.int j] g Q:=⟨_,_,.inl ⟨i,j,_,rfl,rfl,rfl,rfl⟩,h⟩
theorem VI(h:Q (.int (i-j)) g):cP (.bin .Sub) [.int i,.int j] g Q:=⟨_,_,.inl ⟨i,j,_,rfl,rfl,rfl,rfl⟩,h⟩
theorem R0(c:qS i j)(h:Q (.int (i*j)) g):cP (.bin .Mult) [.int i,.int j] g Q:=⟨_,_,.inl ⟨i,j,_,rfl,⟨c,rfl⟩,rfl,rfl⟩,h⟩
theorem R5(c:0<j)(h:Q (.int (i % j)) g):cP (.bin .Mod) [.int i,.int j] g Q:=⟨_,_,.inl ⟨i,j,_,rfl,⟨c,rfl⟩,rfl,rfl⟩,h⟩
theorem xG(c:DD i j)(h:Q (.int (i / j)) g):cP (.bin .FloorDiv) [.int i,.int j] g Q:=⟨_,_,.inl ⟨i,j,_,rfl,⟨c,rfl⟩,rfl,rfl⟩,h⟩
theorem Iu(h1:0<j)(h2:j<1073741824)(h:Q (.int (i / j)) g):cP (.bin .FloorDiv) [.int i,.int j] g Q:=xG ⟨h1,h2⟩ h
theorem CG(c:oy i j)(h:Q (.int (i ^ j.toNat)) g):cP (.bin .Pow) [.int i,.int j] g Q:=⟨_,_,.inl ⟨i,j,_,rfl,⟨c,rfl⟩,rfl,rfl⟩,h⟩
theorem CK{i j:Nat}(hi:g[i]?=some (.lst l))(hj:g[j]?=some (.lst m))(hl:l.length+m.length<=100000)(h:Q (.ref g.length) (g++[.lst (l++m)])):cP (.bin .Add) [.ref i,.ref j] g Q:=⟨_,_,.inr ⟨rfl,.inl ⟨i,j,l,m,rfl,hi,hj,hl,rfl,rfl⟩⟩,h⟩
theorem Pp(h:Q (.int (-i)) g):cP (.un .USub) [.int i] g Q:=⟨_,_,⟨rfl,i,rfl,rfl,rfl⟩,h⟩
theorem T9{op:CmpOp}(hb:Gz g x y b op)(h:Q (.bl b) g):cP (.cmp op) [x,y] g Q:=⟨_,_,⟨x,y,b,rfl,hb,rfl,rfl⟩,h⟩
theorem UA(h:Q (.bl (decide (i<j))) g):cP (.cmp .Lt) [.int i,.int j] g Q:=T9 ⟨i,j,rfl,rfl,rfl⟩ h
theorem Uz(h:Q (.bl (decide (i<=j))) g):cP (.cmp .LtE) [.int i,.int j] g Q:=T9 ⟨i,j,rfl,rfl,rfl⟩ h
theorem Uy(h:Q (.bl (decide (j<i))) g):cP (.cmp .Gt) [.int i,.int j] g Q:=T9 ⟨i,j,rfl,rfl,rfl⟩ h
theorem Ux(h:Q (.bl (decide (j<=i))) g):cP (.cmp .GtE) [.int i,.int j] g Q:=T9 ⟨i,j,rfl,rfl,rfl⟩ h
theorem DK(h:su g x y λb=>Q (.bl b) g):cP (.cmp .Eq) [x,y] g Q:=let ⟨_,hb,h⟩:=h;T9 hb h
theorem DL(h:su g x y λb=>Q (.bl (!b)) g):cP (.cmp .NotEq) [x,y] g Q:=let ⟨b,hb,h⟩:=h;T9 (b:=!b) (show vm g x y (!(!b)) from by simp_all) h
theorem vY(h:pZ g x y λb=>Q (.bl b) g):cP (.cmp .In) [x,y] g Q:=let ⟨_,hb,h⟩:=h;T9 (.inl hb) h
theorem VP{S:Int->Bool}(hg:g[a]?=some (.set S n))(h:Q (.bl (S i)) g):cP (.cmp .In) [.int i,.ref a] g Q:=T9 (.inr ⟨a,S,n,i,rfl,hg,rfl,rfl⟩) h
theorem V1(h:pZ g x y λb=>Q (.bl (!b)) g):cP (.cmp .NotIn) [x,y] g Q:=let ⟨b,hb,h⟩:=h;T9 (b:=!b) (.inl (show inR g x y (!(!b)) from by simp_all)) h
theorem Kp(h:kb (decide (i=j))):su g (.int i) (.int j) kb:=⟨_,.inl ⟨i,j,rfl,rfl,rfl⟩,h⟩
theorem GL(h:kb (t==s)):su g (.bl t) (.bl s) kb:=⟨_,.inr (.inl ⟨t,s,rfl,rfl,rfl⟩),h⟩
theorem OS{x y:Str}(h:kb (decide (x=y))):su g (.str x) (.str y) kb:=⟨_,.inr (.inr (.inl ⟨x,y,rfl,rfl,rfl⟩)),h⟩
theorem VM(h:Q (.bl (decide (i=j))) g):cP (.cmp .Eq) [.int i,.int j] g Q:=DK (Kp h)
theorem Ka(h:Q (.bl (!decide (i=j))) g):cP (.cmp .NotEq) [.int i,.int j] g Q:=DL (Kp h)
theorem VL(h:Q (.bl (t==s)) g):cP (.cmp .Eq) [.bl t,.bl s] g Q:=DK (GL h)
theorem VW(h:Q (.bl (!(t==s))) g):cP (.cmp .NotEq) [.bl t,.bl s] g Q:=DL (GL h)
theorem VN{p q:Str}(h:Q (.bl (decide (p=q))) g):cP (.cmp .Eq) [.str p,.str q] g Q:=DK (OS h)
theorem qU(h:Q (.bl (O4 d)) g):cP (.cmp .Is) [d,.bO] g Q:=T9 ⟨rfl,rfl⟩ h
theorem J'(h:Q (.bl (!O4 d)) g):cP (.cmp .IsNot) [d,.bO] g Q:=T9 ⟨rfl,rfl⟩ h
theorem VQ(h:Q (.bl true) g):cP (.cmp .Is) [.bO,.bO] g Q:=qU h
theorem VS(h:Q (.bl false) g):cP (.cmp .Is) [.int i,.bO] g Q:=qU h
theorem VR(h:Q (.bl false) g):cP (.cmp .Is) [.bl t,.bO] g Q:=qU h
theorem VU{x:Str}(h:Q (.bl false) g):cP (.cmp .Is) [.str x,.bO] g Q:=qU h
theorem VV(h:Q (.bl false) g):cP (.cmp .Is) [.tup l,.bO] g Q:=qU h
theorem VT(h:Q (.bl false) g):cP (.cmp .Is) [.ref n,.bO] g Q:=qU h
theorem VO(h:Q (.bl false) g):cP (.cmp .IsNot) [.bO,.bO] g Q:=J' h
theorem VC(h:kb t):pC g (.bl t) kb:=⟨t,.inr (.inl rfl),h⟩
theorem Pk(h:kb (i != 0)):pC g (.int i) kb:=⟨_,.inr (.inr (.inl ⟨i,rfl,rfl⟩)),h⟩
theorem Bx{p:Bool->Prop}(h:p t):∃s,D.bl t=D.bl s/\p s:=⟨t,rfl,h⟩
theorem PY{p:Int->Prop}(h:p i):∃s,D.int i=D.int s/\p s:=⟨i,rfl,h⟩
theorem if2{c:Prop}[Decidable c](h1:c->A)(h2:¬c->B):if decide c=true then A else B:=by
 simp_all
theorem lp(h:A):if true=true then A else B:=by rw[aJ rfl];exact h
theorem pA(h:B):if false=true then A else B:=by rw[aF ∅];exact h
theorem GH(h:A):if(!false)=true then A else B:=by exact h
theorem UK(h:B):if(!true)=true then A else B:=by rw[aF ∅];exact h
theorem fB(hb:b=false)(h:B):if b=true then A else B:=by rw[hb];exact pA h
theorem gR(hb:b=true)(h:A):if b=true then A else B:=by rw[hb];exact lp h
theorem m8(hl:d0 g a=some l)(h2:gk l i=some d)(h:Q d g):cP .ix [.ref a,.int i] g Q:=⟨_,_,⟨rfl,.inl ⟨_,l,i,rfl,hl,h2⟩⟩,h⟩
theorem v5(h2:gk l i=some d)(h:Q d g):cP .ix [.tup l,.int i] g Q:=⟨_,_,⟨rfl,.inl ⟨_,l,i,rfl,rfl,h2⟩⟩,h⟩
theorem P2{i:Nat}(hg:g[i]?=some (.cY kvs))(hk:W0 y=some k)(hv:p9 kvs k=some v)(h:Q v g):cP .ix [.ref i,y] g Q:=⟨_,_,⟨rfl,.inr (.inl ⟨i,kvs,y,k,rfl,hg,hk,hv⟩)⟩,h⟩
theorem Q1(hl:g[a]?=some (.lst l))(hn:kR l.length i=some n)(h:kg (g.set a (.lst (l.set n v)))):V3 (.ref a) (.int i) v g kg:=⟨_,.inl ⟨a,i,l,n,rfl,rfl,hl,hn,rfl⟩,h⟩
theorem vM{i:Nat}(hg:g[i]?=some (.cY kvs))(hk:W0 y=some k)(hl:kvs.length<100000)(h:kg (g.set i (.cY (putD kvs k v)))):V3 (.ref i) y v g kg:=⟨_,.inr ⟨i,kvs,k,rfl,hg,hk,hl,rfl⟩,h⟩
theorem Z9{cs:List Str}{fs:List (Str×D)}(hg:g[a]?=some (.ins c fs))(hc:c∈cs)(hl:fs.length<100)(h:kg (g.set a (.ins c (l9 f v fs)))):vN f cs (.ref a) v g kg:=⟨_,⟨a,c,fs,rfl,hg,hc,hl,rfl⟩,h⟩
theorem W3{fs:List (Str×D)}(hg:g[a]?=some (.ins c fs))(hf:fs.lookup f=some d)(h:Q d g):cP (.fld f) [.ref a] g Q:=⟨_,_,⟨a,c,fs,rfl,hg,hf,rfl⟩,h⟩
theorem a7(h:g[a]?=some (.lst l)):d0 g a=some l:=by simp only[d0,h,Dt]
theorem XM(h:g[a]?=some (.oi l)):d0 g a=some l:=by simp only[d0,h,Dt]
theorem E2(hl:d0 g a=some l)(h:Q (.int l.length) g):cP .len [.ref a] g Q:=⟨_,_,⟨rfl,.inl ⟨_,l,rfl,hl,rfl⟩⟩,h⟩
theorem IL(hl:d0 g a=some l)(h:Q (.ref g.length) (g++[.lst (cut l none (some i))])):cP (.rD false true) [.ref a,.int i] g Q:=⟨_,_,⟨_,i,rfl,.inr ⟨a,l,rfl,hl,rfl,rfl⟩⟩,h⟩
theorem OU(hl:d0 g a=some l)(h:Q (.ref g.length) (g++[.lst l.reverse])):cP .rev [.ref a] g Q:=⟨_,_,.inr ⟨a,l,rfl,hl,rfl,rfl⟩,h⟩
theorem CU(hl:l.length<=1000)(h:Q (.tup l) g):cP .tup l g Q:=⟨_,_,⟨hl,rfl,rfl⟩,h⟩
theorem CT(hl:l.length<=1000)(h:Q (.ref g.length) (g++[.lst l])):cP .lst l g Q:=⟨_,_,⟨hl,rfl,rfl⟩,h⟩
theorem Km(hl:d0 g a=some l)(h:Q (.ref g.length) (g++[.lst l])):cP .list [.ref a] g Q:=⟨_,_,.inl ⟨_,l,rfl,hl,rfl,rfl⟩,h⟩
theorem Kl(hg:g[a]?=some (.cY kvs))(hz:kvs.length<=10000)(h:Q (.ref g.length) (g++[.lst ((kvs.map (·.1)).map kD)])):cP .list [.ref a] g Q:=⟨_,_,.inr ⟨a,kvs,rfl,hg,hz,rfl,rfl⟩,h⟩
theorem Pn(hl:d0 g a=some l)(h:Q (.tup l) g):cP .tuple [.ref a] g Q:=⟨_,_,⟨_,l,rfl,hl,rfl,rfl⟩,h⟩
theorem gC{c:String}(hc:c∈["int","bool","str","tuple","list"])(hb:qX g d c=some b)(h:Q (.bl b) g):cP .isin [d,.ty c] g Q:=⟨_,_,⟨d,c,b,rfl,hc,hb,rfl,rfl⟩,h⟩
theorem K2{i:Nat}(hg:g[i]?=some (.lst l))(hl:l.length<100000)(h:Q .bO (g.set i (.lst (l++[y])))):cP .append [.ref i,y] g Q:=⟨_,_,⟨i,y,l,rfl,hg,hl,rfl,rfl⟩,h⟩
theorem Wv{i j:Nat}{n:Int}(hg:g[i]?=some (.lst l))(hn:n=j)(hj:l[j]?=some y)(hl:l.length<100000)(h:Q y (g.set i (.lst (l.eraseIdx j)))):cP .pop [.ref i,.int n] g Q:=by
 have dZ:=(av.mp hj).1;refine⟨_,_,⟨i,n,l,j,rfl,hg,by omega,by omega,?_,hj,rfl⟩,h⟩;rw[hn];exact PySem.StrLaws.seqIndex_nonneg () () |>.trans (by simp)
theorem CP{i:Nat}{z:D}(hg:g[i]?=some (.cY kvs))(hk:W0 y=some k)(h:Q ((p9 kvs k).getD z) g):cP .get [.ref i,y,z] g Q:=⟨_,_,⟨i,y,z,kvs,k,rfl,hg,hk,rfl,rfl⟩,h⟩
theorem PV(h:Q (.int (i+j)) g):cP .iadd [.int i,.int j] g Q:=⟨_,_,.inl ⟨i,j,rfl,rfl,rfl⟩,h⟩
theorem Ji{i:Nat}(hl:d0 g i=some (ns.map .int))(hz:ns.length<=10000)(h:Q (.ref g.length) (g++[.lst ((K1 ns).map .int)])):cP .jC [.ref i] g Q:=⟨_,_,.inr ⟨_,ns,rfl,hl,hz,rfl,rfl⟩,h⟩
theorem Dy{i:Nat}(hg:g[i]?=some (.lst l)):mr .append (.ref i) g:=⟨i,l,rfl,a7 hg⟩
theorem Qv{i:Nat}(hg:g[i]?=some (.lst l)):mr .pop (.ref i) g:=⟨i,l,rfl,a7 hg⟩
theorem US{i:Nat}{l:List (Key×D)}(hg:g[i]?=some (.cY l)):mr .get (.ref i) g:=⟨i,l,rfl,hg⟩
theorem zA(h1:-(2 ^ 62)<=j)(h2:j<=100000)(h:Q (.ref g.length) (g++[.lst (i8 0 j.toNat)])):cP .jb [.int j] g Q:=⟨_,_,⟨j,rfl,h1,h2,rfl,rfl⟩,h⟩
theorem LY(h1:-(2 ^ 62)<=i/\i<2 ^ 62/\-(2 ^ 62)<=j/\j<2 ^ 62/\j-i<=100000)(h:Q (.ref g.length) (g++[.lst (i8 i (j-i).toNat)])):cP .kl [.int i,.int j] g Q:=⟨_,_,⟨i,j,rfl,h1,rfl,rfl⟩,h⟩
theorem QI(hl:d0 g a=some (ns.map .int))(hz:ns.length<600)(h:Q (.ref g.length) (g++[.lst ((p6 ns).map .int)])):cP .sset [.ref a] g Q:=⟨_,_,⟨a,ns,rfl,hl,hz,rfl,rfl⟩,h⟩
theorem P5(h:Q (.ref g.length) (g++[.cY []])):cP .P5 [] g Q:=⟨_,_,⟨rfl,rfl,rfl⟩,h⟩
theorem max2(h:Q (.int (if j>i then j else i)) g):cP .max [.int i,.int j] g Q:=⟨_,_,⟨rfl,.inl ⟨i,j,rfl,rfl⟩⟩,h⟩
theorem Ww{M:Int}(hl:d0 g a=some (ns.map .int))(h1:M∈ns)(h2:∀x∈ns,x<=M)(h:Q (.int M) g):cP .max [.ref a] g Q:=⟨_,_,⟨rfl,.inr ⟨a,ns,M,rfl,hl,h1,h2,rfl⟩⟩,h⟩
theorem Qr{S:Int->Bool}(hg:g[a]?=some (.set S n))(hn:n+1<4096)(h:Q .bO (g.set a (.set (λk=>S k||decide (k=i)) (if S i then n else n+1)))):cP .kc [.ref a,.int i] g Q:=⟨_,_,⟨a,i,S,n,rfl,hg,hn,rfl,rfl⟩,h⟩
theorem SM{S:Int->Bool}(hg:g[a]?=some (.set S n)):mr .kc (.ref a) g:=⟨a,S,n,rfl,hg⟩
theorem SW(h:Q (.ref g.length) (g++[.set (λk=>decide (k=i)) 1])):cP (.ka i) [] g Q:=⟨_,_,⟨rfl,rfl,rfl⟩,h⟩
theorem CZ(hl:d0 g a=some (ns.map .int))(h:Q (.int ns.sum) g):cP .sum [.ref a] g Q:=⟨_,_,⟨a,ns,rfl,hl,rfl,rfl⟩,h⟩
theorem Qm(hl:d0 g a=some (ns.map .int))(hz:ns.length<60)(h:Q (.int (ST.i7 [] ns).length) g):cP .pB [.ref a] g Q:=⟨_,_,⟨a,ns,rfl,hl,hz,rfl,rfl⟩,h⟩
theorem VJ(hl:d0 g a=some (ns.map .int))(h:Q (.bl (ns.all λn=>n != 0)) g):cP .all [.ref a] g Q:=⟨_,_,⟨a,_,_,rfl,hl,.inr ⟨ns,rfl,rfl⟩,rfl,rfl⟩,h⟩
theorem CH(c:oy i j)(h:Q (.int (i*2 ^ j.toNat)) g):cP (.bin .LShift) [.int i,.int j] g Q:=⟨_,_,.inl ⟨i,j,_,rfl,⟨c,rfl⟩,rfl,rfl⟩,h⟩
theorem vK(h:Q (.int (Builtin.bitAnd i j)) g):cP (.bin .BitAnd) [.int i,.int j] g Q:=⟨_,_,.inl ⟨i,j,_,rfl,rfl,rfl,rfl⟩,h⟩
theorem Ur(h:Q (.int (Builtin.bitOr i j)) g):cP (.bin .BitOr) [.int i,.int j] g Q:=⟨_,_,.inl ⟨i,j,_,rfl,rfl,rfl,rfl⟩,h⟩
theorem IS{U:S}{i:Nat}{p:Pr}{v:ME}(e:U[i]?=some (some x))(h:bo P v U g (λz g1=>cP p [x,z] g1 λw g2=>N.nx (U.set i (some w)) g2) E):wpS P (.kx i p v) N U g E:=⟨x,e,h⟩
theorem Qa(h:Q (.int (i-j)) g):cP .mP [.int i,.int j] g Q:=⟨_,_,⟨i,j,rfl,rfl,rfl⟩,h⟩
theorem min2(h:Q (.int (if j<i then j else i)) g):cP .min [.int i,.int j] g Q:=⟨_,_,⟨rfl,.inl ⟨i,j,rfl,rfl⟩⟩,h⟩
theorem Wh{v:Bool}(h:Q (.int (if v then 1 else 0)) g):cP .int [.bl v] g Q:=⟨_,_,⟨rfl,.inr ⟨v,rfl,rfl⟩⟩,h⟩
theorem Kg{kvs:List D}{x:Str}(hv:O3 kvs x=some v)(h:Q v g):cP .nj [.tup kvs,.str x] g Q:=⟨_,_,⟨kvs,x,rfl,hv,rfl⟩,h⟩
theorem CI{i:Nat}{v:Bool}(hl:d0 g i=some l)(hv:V2 l=some v)(h:Q (.bl v) g):cP .all [.ref i] g Q:=⟨_,_,⟨i,l,v,rfl,hl,.inl hv,rfl,rfl⟩,h⟩
theorem i0{i:Nat}{U:S}{k:S->Prop}(h:k (U.set i (some x))):jq (.one i) x U k:=h
theorem B6{is:List Nat}{U bZ:S}{k:S->Prop}(e:O5 is l U=some bZ)(h:k bZ):jq (.many is) (.tup l) U k:=⟨l,bZ,rfl,e,h⟩
end
theorem Ca:∀(bs:List Bool),V2 (bs.map D.bl)=some (bs.all id):=by
 intro bs
 induction bs with
 |nil=>rfl
 |cons b r ih=>simp[V2,ih]
theorem call_of{T:Nat->Option ba}{k f:Nat}{m:ba}{ds:List D}{Q:KD}(hT:T f=some m)(hl:ds.length=m.ar)(h:wpS (b8 T k) m.body ⟨λ_ g'=>Q .bO g',Q,λ_ _=>False,λ_ _=>False⟩ (c8 m ds) g E):b8 T (k+1) f ds g Q E:=⟨m,hT,hl,h⟩
def IK.Is(k:IK)(l:List D)(g:G):Prop:=∀i,k.at i g=some l[i]?
theorem n8:(IK.fix l).Is l g:=λ_=>rfl
theorem n6(h:d0 g a=some l):(IK.lst a).Is l g:=λi=>by simp only[IK.at,h]
def mz(l:List D):List D:=l.mapIdx λi d=>.tup [.int i,d]
theorem xZ(h:d0 g a=some l):(IK.ow a).Is (mz l) g:=λi=>by
 simp only[IK.at,h,mz,List.getElem?_mapIdx]
theorem Qb(h:d0 g a=some l):(IK.rF a l.length).Is l.reverse g:=λi=>by
 simp only[IK.at,h,if_true];by_cases hi:i<l.length
 ·rw[aJ hi,List.getElem?_reverse hi]
 ·rw[aF hi,aS (by simpa using hi)]
theorem N8(l:List D):(mz l).length=l.length:=by simp[mz]
theorem ym(h:(mz l)[i]?=some x):∃d,l[i]?=some d/\x=.tup [.int i,d]:=by
 rw[mz,List.getElem?_mapIdx,aa] at h;obtain⟨d,h1,h2⟩:=h;exact⟨d,h1,h2.symm⟩
theorem s9{lo:Int}(h:(i8 lo n)[i]?=some x):i<n/\x=.int (lo+i):=by
 unfold i8 at h;have hi:i<n:=by
  have:=(av.mp h).1;simpa using this
 rw[ae,cb hi] at h;cases h;exact⟨hi,rfl⟩
theorem i6(lo:Int)(n:Nat):(i8 lo n).length=n:=by simp[i8]
section
variable{U:S}{it a c:ME}{s:MS}{t:MT}{Q:KD}
theorem GW{k:IK}{fin:S->G->Prop}{turn:D->(S->G->Prop)->S->G->Prop}(I:Nat->S->G->Prop)(hk:∀i U g,I i U g->k.Is l g)(h0:I 0 U g)(hs:∀i x U g,l[i]?=some x->I i U g->turn x (I (i+1)) U g)(hd:∀U g,I l.length U g->fin U g):turns k U g fin turn:=by
 refine⟨λi m U g=>m=l.length-i/\i<=l.length/\I i U g,⟨l.length,by simp,bP _,h0⟩,?_⟩;rintro i m U g ⟨rfl,hi,p⟩;rw[hk i U g p i];by_cases dZ:i<l.length
 ·rw[ag dZ];exact .inr ⟨_,rfl,I (i+1),λbZ g' p'=>⟨l.length-(i+1),by omega,rfl,dZ,p'⟩,hs i l[i] U g (ag dZ) p⟩
 ·have e:i=l.length:=by omega
  subst e;rw[aS (ai _)];exact .inl ⟨rfl,hd U g p⟩
inductive wx(P:fu)(t:MT)(s:MS)(N:Ends)(E:KX)(U:S)(k:IK)(g1:G):Prop
 |mk (l:List D) (I:Nat->S->G->Prop) (hk:∀i U g,I i U g->k.Is l g) (h0:I 0 U g1)
   (hs:∀i x U g,l[i]?=some x->I i U g->jq t x U λcC=>wpS P s ⟨I (i+1),N.rt,N.nx,I (i+1)⟩ cC g E) (hd:∀U g,I l.length U g->N.nx U g):wx P t s N E U k g1
theorem w9(hP:i9 P)(h:gI P it U g (wx P t s N E U) E):wpS P (.dC t it s) N U g E :=
 A5 hP it _ _ _ _ _ _ (λk g1 hq=>by obtain⟨l,I,hk,h0,hs,hd⟩:=hq;exact GW I hk h0 hs hd) (λ_ _ z=>z) h
theorem Yu(hn:(n:Int)<2 ^ 62)(I:Nat->S->G->Prop)(h0:I 0 U g)(hs:∀(i:Nat) U g,i<n->I i U g->jq t (.int i) U λcC=>wpS P s ⟨I (i+1),N.rt,N.nx,I (i+1)⟩ cC g E)(hd:∀U g,I n U g->N.nx U g):wpS P (.dC t (.dW (.lit (.int n))) s) N U g E:=by
 refine⟨n,rfl,by omega,hn,GW (l:=i8 0 n) I (λ_ _ _ _=>n8) h0 (λi x U g hx p=>?_) (λU g p=>hd U g (by rw[i6] at p;exact p))⟩;obtain⟨hi,rfl⟩:=s9 hx;have:=hs i U g hi p;rw[show(0:Int)+(i:Int)=i by omega];exact this
inductive CompI(P:fu)(t:MT)(cond elt:ME)(E:KX)(Q:KD)(U:S)(k:IK)(g1:G):Prop
 |mk (l:List D) (I:Nat->List D->S->G->Prop) (hl:l.length<=1000) (hk:∀i ys U g,I i ys U g->k.Is l g/\ys.length<=i) (h0:I 0 [] U g1)
   (hs:∀i x ys U g,l[i]?=some x->I i ys U g->jq t x U λcC=>et P cond cC g (λc g3=>if c=true then bo P elt cC g3 (λy g4=>I (i+1) (ys++[y]) cC g4) E else I (i+1) ys cC g3) ik)
   (hd:∀ys U g,I l.length ys U g->Q (.ref g.length) (g++[.lst ys])):CompI P t cond elt E Q U k g1
theorem E6(hP:i9 P)(h:gI P it U g (CompI P t cond elt ik Q (E3 U d4 n)) E):bo P (.comp d4 n t it cond elt) U g Q E:=by
 refine A5 hP it _ _ _ _ _ _ (λk g1 h=>?_) (λ_ _ z=>z) h;obtain⟨l,I,hl,hk,h0,hs,hd⟩:=h;refine⟨λi m ys U g=>m=l.length-i/\i<=l.length/\I i ys U g,⟨l.length,by simp,bP _,h0⟩,?_⟩;rintro i m ys U g ⟨rfl,hi,p⟩;obtain⟨nI,hy⟩:=hk i ys U g p;rw[nI i];by_cases dZ:i<l.length
 ·rw[ag dZ];refine .inr ⟨_,rfl,by omega,x6 (λcC q=>p8 hP cond _ _ _ _ _ _ (λc g3 q=>?_) (λ_ _ z=>z) q) (hs i l[i] ys U g (ag dZ) p)⟩;cases c
  ·exact⟨l.length-(i+1),by omega,rfl,dZ,by simpa using(show I (i+1) ys cC g3 from q)⟩
  ·exact b9 hP elt _ _ _ _ _ _ (λy g4 q=>⟨l.length-(i+1),by omega,rfl,dZ,by simpa using q⟩) (λ_ _ z=>z) q
 ·have e:i=l.length:=by omega
  subst e;rw[aS (ai _)];exact .inl ⟨rfl,hd ys U g p⟩
inductive wg(P:fu)(t:MT)(cond elt:ME)(Q:KD)(U:S)(k:IK)(g1:G):Prop
 |mk (l:List D) (I:Nat->List Int->S->G->Prop) (hl:l.length<60) (hk:∀i ys U g,I i ys U g->k.Is l g/\ys.length<=i) (h0:I 0 [] U g1)
   (hs:∀i x ys U g,l[i]?=some x->I i ys U g->jq t x U λcC=>et P cond cC g (λc g3=>if c=true then bo P elt cC g3 (λy g4=>∃j,y=.int j/\I (i+1) (ys++[j]) cC g4) ik else I (i+1) ys cC g3) ik)
   (hd:∀ys U g,I l.length ys U g->Q (.ref g.length) (g++[.lst ((p6 ys).map .int)])):wg P t cond elt Q U k g1
theorem Um(hP:i9 P)(h:gI P it U g (wg P t cond elt Q (E3 U d4 n)) E):bo P (.gX d4 n t it cond elt) U g Q E:=by
 refine A5 hP it _ _ _ _ _ _ (λk g1 h=>?_) (λ_ _ z=>z) h;obtain⟨l,I,hl,hk,h0,hs,hd⟩:=h;refine⟨λi m ys U g=>m=l.length-i/\i<=l.length/\I i ys U g,⟨l.length,by simp,bP _,h0⟩,?_⟩;rintro i m ys U g ⟨rfl,hi,p⟩;obtain⟨nI,hy⟩:=hk i ys U g p;rw[nI i];by_cases dZ:i<l.length
 ·rw[ag dZ];refine .inr ⟨_,rfl,by omega,x6 (λcC q=>p8 hP cond _ _ _ _ _ _ (λc g3 q=>?_) (λ_ _ z=>z) q) (hs i l[i] ys U g (ag dZ) p)⟩;cases c
  ·exact⟨l.length-(i+1),by omega,rfl,dZ,by simpa using(show I (i+1) ys cC g3 from q)⟩
  ·refine b9 hP elt _ _ _ _ _ _ (λy g4 q=>?_) (λ_ _ z=>z) q;obtain⟨j,e,q⟩:=q;exact⟨j,e,l.length-(i+1),by omega,rfl,dZ,by simpa using q⟩
 ·have e:i=l.length:=by omega
  subst e;rw[aS (ai _)];exact .inl ⟨rfl,by omega,hd ys U g p⟩
theorem Zg(hP:i9 P)(h:bo P a U g (λx g1=>∃j:Nat,x=.int j/\j<=1000/\∃I:Nat->List D->S->G->Prop,I 0 [] (E3 U d4 n) g1/\(∀i ys U g,I i ys U g->ys.length<=i) /\
      (∀(i:Nat) ys U g,i<j->I i ys U g->jq t (.int i) U λcC=>et P cond cC g (λc g3=>if c=true then bo P elt cC g3 (λy g4=>I (i+1) (ys++[y]) cC g4) ik else I (i+1) ys cC g3) ik) /\
      ∀ ys U g,I j ys U g->Q (.ref g.length) (g ++ [.lst ys])) E):bo P (.comp d4 n t (.dW a) cond elt) U g Q E:=by
  refine E6 hP ?_;refine b9 hP a _ _ _ _ _ _ (λx g1 h=>?_) (λ_ _ z=>z) h;obtain⟨j,rfl,hj,I,h0,hz,hs,hd⟩:=h;refine⟨j,rfl,by omega,by omega,_,I,by rw[i6];simpa using hj,λi ys U g p=>⟨n8,hz i ys U g p⟩,h0,λi x ys U g hx p=>?_,λys U g p=>hd ys U g (by rw[i6] at p;simpa using p)⟩;obtain⟨hi,rfl⟩:=s9 hx;rw[show(0:Int)+(i:Int)=i by omega];exact hs i ys U g (by simpa using hi) p
theorem Zh(hP:i9 P)(h:bo P a U g (λx g1=>∃l,x=.tup l/\l.length<=1000/\∃I:Nat->List D->S->G->Prop,I 0 [] (E3 U d4 n) g1/\(∀i ys U g,I i ys U g->ys.length<=i) /\
      (∀(i:Nat) x ys U g,l[i]?=some x->I i ys U g->jq t x U λcC=>et P cond cC g (λc g3=>if c=true then bo P elt cC g3 (λy g4=>I (i+1) (ys++[y]) cC g4) ik else I (i+1) ys cC g3) ik) /\
      ∀ ys U g,I l.length ys U g->Q (.ref g.length) (g ++ [.lst ys])) E):bo P (.comp d4 n t (.fc a) cond elt) U g Q E:=by
  refine E6 hP ?_;refine b9 hP a _ _ _ _ _ _ (λx g1 h=>?_) (λ_ _ z=>z) h;obtain⟨l,rfl,hj,I,h0,hz,hs,hd⟩:=h;exact .inl ⟨l,rfl,_,I,hj,λi ys U g p=>⟨n8,hz i ys U g p⟩,h0,hs,hd⟩
theorem Jv(I:Nat->S->G->Prop)(m0:Nat)(h0:I m0 U g)(hs:∀m U g,I m U g->et P c U g (λt g1=>if t=true then wpS P s ⟨λbZ g'=>∃m',m'<m/\I m' bZ g',N.rt,N.nx,λbZ g'=>∃m',m'<m/\I m' bZ g'⟩ U g1 E else N.nx U g1) E)(hP:i9 P):wpS P (.jZ c s) N U g E:=by
 refine⟨I,⟨m0,h0⟩,λm U g p=>p8 hP c _ _ _ _ _ _ (λt g1 q=>?_) (λ_ _ z=>z) (hs m U g p)⟩;cases t
 ·exact q
 ·exact⟨_,λ_ _ z=>z,q⟩
theorem N4(hP:i9 P)(h:bo P a U g (λx g1=>∃j:Int,x=.int j/\-(2 ^ 62)<=j/\j<2 ^ 62/\R (.fix (i8 0 j.toNat)) g1) E):gI P (.dW a) U g R E:=h
theorem uJ(hP:i9 P)(h:bo P a U g (λx g1=>∃l,x=.tup l/\R (.fix l) g1) E):gI P (.fc a) U g R E:=by
 exact b9 hP a _ _ _ _ _ _ (λx g1 h=>.inl h) (λ_ _ z=>z) h
theorem kq(hP:i9 P)(h:bo P a U g (λx g1=>∃i l,x=.ref i/\d0 g1 i=some l/\R (.lst i) g1) E):gI P (.fc a) U g R E:=by
 exact b9 hP a _ _ _ _ _ _ (λx g1 h=>.inr h) (λ_ _ z=>z) h
theorem Mh(h:bo P a U g (λx g1=>∃i l,x=.ref i/\d0 g1 i=some l/\R (.rF i l.length) g1) E):gI P (.nD a) U g R E:=h
theorem zG(h:bo P a U g (λx g1=>∃i l,x=.ref i/\d0 g1 i=some l/\R (.ow i) g1) E):gI P (.kS a) U g R E:=h
end
end M
namespace M
open PySem L2 PySem.Spec PyProof.Rows
structure RF where
 id:Nat
 nm:Str
 N:List Str
 k:Nat
 i:Nat
 m:ba
structure RM where
 id:Nat
 cl:Str
 nm:Str
 qn:Str
 N:List Str
 k:Nat
 i:Nat
 j:Nat
 m:ba
def RF.d(tp:Nat->Stmt)(r:RF):oH:=⟨r.nm,r.nm,r.N,r.N.take r.k,tp r.i⟩
def RM.d(mt:Nat->Nat->Stmt)(r:RM):oH:=⟨r.nm,r.qn,r.N,r.N.take r.k,mt r.i r.j⟩
def sQ(F:List RF)(M:List RM)(i:Nat):Option ba:=match F.find? λr=>Nat.beq r.id i with
 |some r=>some r.m
 |none=>(M.find? λr=>Nat.beq r.id i).map (·.m)
section
variable(tp:Nat->Stmt)(mt:Nat->Nat->Stmt)(K:PySem.W.Frag)
def PF:List RF->Prop
 |[]=>True
 |r::l=>(∃f fd,PySem.W.nsIn K mainGlobals r.nm=some (some (.ref f))/\pF K r.nm r.nm (tp r.i) f fd)/\PF l
def PM:List RM->Prop
 |[]=>True
 |r::l=>(∃C f fd,PySem.W.nsIn K mainGlobals r.cl=some (some (.ref C))/\Meth K C r.nm f/\pF K r.nm r.qn (mt r.i r.j) f fd)/\PM l
def PC:List (Str×Nat)->Prop
 |[]=>True
 |r::l=>(∃C,PySem.W.nsIn K mainGlobals r.1=some (some (.ref C))/\jV K C/\PySem.W.makesIn K C=true/\PySem.W.keepIn K (.ref C)=true)/\PC l
def PA:List (Str×Str)->Prop
 |[]=>True
 |r::l=>(∃C,PySem.W.nsIn K mainGlobals r.2=some (some (.ref C))/\PySem.W.findIn K (.ref C) r.1=some none)/\PA l
def PB:List Str->Prop
 |[]=>True
 |r::l=>PySem.W.nsIn K mainGlobals r=some none/\PB l
def BF:List RF->Prop
 |[]=>True
 |r::l=>(∀(kV doc pm:Value) (an:Option Addr) (fS ct:Value) (us:List Value),us.length=(r.N.take r.k).length->bindArgs (PySem.W.fnOf r.nm r.nm (B8 (tp r.i)) (t8 (tp r.i)) (q9 (tp r.i)) .none kV doc pm an fS ct) ⟨us,[]⟩=pure ((r.N.take r.k).zip us))/\BF l
def BM:List RM->Prop
 |[]=>True
 |r::l=>(∀(kV doc pm:Value) (an:Option Addr) (fS ct:Value) (us:List Value),us.length=(r.N.take r.k).length->bindArgs (PySem.W.fnOf r.nm r.qn (B8 (mt r.i r.j)) (t8 (mt r.i r.j)) (q9 (mt r.i r.j)) .none kV doc pm an fS ct) ⟨us,[]⟩=pure ((r.N.take r.k).zip us))/\BM l
def YF(c:j5):List RF->Prop
 |[]=>True
 |r::l=>B4 (comp 60) (c.at (r.d tp)) (t8 (tp r.i))=some r.m.body/\YF c l
def YM(c:j5):List RM->Prop
 |[]=>True
 |r::l=>B4 (comp 60) (c.at (r.d mt)) (t8 (mt r.i r.j))=some r.m.body/\YM c l
end
section
variable{tp:Nat->Stmt}{mt:Nat->Nat->Stmt}{K:PySem.W.Frag}{c:j5}{id k i j:Nat}{cl nm qn x:Str}{N:List Str}{m:ba}{f C:Addr}{oc kV doc pm fS ct:Value}{od an:Option Addr}{mq:Array (Option Value)}
theorem PF.nil:PF tp K []:=trivial
theorem PF.cons{l:List RF}(a:PySem.W.nsIn K mainGlobals nm=some (some (.ref f)))(lk:K.lookup f=some ⟨oc,od,.func (PySem.W.fnOf nm nm (B8 (tp i)) (t8 (tp i)) (q9 (tp i)) .none kV doc pm an fS ct),mq⟩)(cd:PySem.W.codeIn K fS nm=true)(kp:PySem.W.keepIn K (.ref f)=true)(h:PF tp K l):PF tp K (⟨id,nm,N,k,i,m⟩::l):=⟨⟨f,_,a,Iz lk cd kp⟩,h⟩
theorem PM.nil:PM mt K []:=trivial
theorem PM.cons{l:List RM}(c0:PySem.W.nsIn K mainGlobals cl=some (some (.ref C)))(a:PySem.W.findIn K (.ref C) nm=some (some (.ref f)))(af:PySem.W.isFn K (.ref f)=true)(lk:K.lookup f=some ⟨oc,od,.func (PySem.W.fnOf nm qn (B8 (mt i j)) (t8 (mt i j)) (q9 (mt i j)) .none kV doc pm an fS ct),mq⟩)(cd:PySem.W.codeIn K fS qn=true)(kp:PySem.W.keepIn K (.ref f)=true)(h:PM mt K l):PM mt K (⟨id,cl,nm,qn,N,k,i,j,m⟩::l):=⟨⟨C,f,_,c0,⟨a,af,kp⟩,Iz lk cd kp⟩,h⟩
theorem PC.nil:PC K []:=trivial
theorem PC.cons{l:List (Str×Nat)}(cn:PySem.W.nsIn K mainGlobals x=some (some (.ref C)))(cp:PySem.W.plainGet K C Str.empty=true)(Ox:PySem.W.hasDictIn K C=true)(Ou:PySem.W.plainOver K C=true)(Ot:PySem.W.findIn K (.ref C) "__setattr__"=some (some (.builtin "object.__setattr__")))(Ov:PySem.W.makesIn K C=true)(Ow:PySem.W.keepIn K (.ref C)=true)(h:PC K l):PC K ((x,i)::l):=⟨⟨C,cn,⟨cp,Ox,Ou,Ot⟩,Ov,Ow⟩,h⟩
theorem PA.nil:PA K []:=trivial
theorem PA.cons{l:List (Str×Str)}(cn:PySem.W.nsIn K mainGlobals x=some (some (.ref C)))(fl:PySem.W.findIn K (.ref C) nm=some none)(h:PA K l):PA K ((nm,x)::l):=⟨⟨C,cn,fl⟩,h⟩
theorem PB.nil:PB K []:=trivial
theorem PB.cons{l:List Str}(cn:PySem.W.nsIn K mainGlobals x=some none)(h:PB K l):PB K (x::l):=⟨cn,h⟩
theorem Er{P:List Value->Prop}{n:Nat}(h:∀a vs,vs.length=n->P (a::vs))(us:List Value)(hl:us.length=n+1):P us:=by
 cases us with
 |nil=>cases hl
 |cons a vs=>exact h a vs (Nat.succ.inj hl)
theorem Ep{P:List Value->Prop}(h:P [])(us:List Value)(hl:us.length=0):P us:=by
 simp_all
theorem BF.nil:BF tp []:=trivial
theorem BF.cons{l:List RF}(h:∀(kV doc pm:Value) (an:Option Addr) (fS ct:Value) (us:List Value),us.length=(N.take k).length->bindArgs (PySem.W.fnOf nm nm (B8 (tp i)) (t8 (tp i)) (q9 (tp i)) .none kV doc pm an fS ct) ⟨us,[]⟩=pure ((N.take k).zip us))(h2:BF tp l):BF tp (⟨id,nm,N,k,i,m⟩::l):=⟨h,h2⟩
theorem BM.nil:BM mt []:=trivial
theorem BM.cons{l:List RM}(h:∀(kV doc pm:Value) (an:Option Addr) (fS ct:Value) (us:List Value),us.length=(N.take k).length->bindArgs (PySem.W.fnOf nm qn (B8 (mt i j)) (t8 (mt i j)) (q9 (mt i j)) .none kV doc pm an fS ct) ⟨us,[]⟩=pure ((N.take k).zip us))(h2:BM mt l):BM mt (⟨id,cl,nm,qn,N,k,i,j,m⟩::l):=⟨h,h2⟩
theorem YF.nil:YF tp c []:=trivial
theorem YF.cons{l:List RF}(h:B4 (comp 60) (c.at ⟨nm,nm,N,N.take k,tp i⟩) (t8 (tp i))=some m.body)(h2:YF tp c l):YF tp c (⟨id,nm,N,k,i,m⟩::l):=⟨h,h2⟩
theorem YM.nil:YM mt c []:=trivial
theorem YM.cons{l:List RM}(h:B4 (comp 60) (c.at ⟨nm,qn,N,N.take k,mt i j⟩) (t8 (mt i j))=some m.body)(h2:YM mt c l):YM mt c (⟨id,cl,nm,qn,N,k,i,j,m⟩::l):=⟨h,h2⟩
theorem YF.get:∀{l:List RF},YF tp c l->∀r∈l,B4 (comp 60) (c.at (r.d tp)) (t8 (tp r.i))=some r.m.body
 |_::_,h,r,hr=>(aG.mp hr).elim (λz=>z▸h.1) (YF.get h.2 r)
theorem YM.get:∀{l:List RM},YM mt c l->∀r∈l,B4 (comp 60) (c.at (r.d mt)) (t8 (mt r.i r.j))=some r.m.body
 |_::_,h,r,hr=>(aG.mp hr).elim (λz=>z▸h.1) (YM.get h.2 r)
theorem PF.get:∀{l:List RF},PF tp K l->∀r∈l,∃f fd,PySem.W.nsIn K mainGlobals r.nm=some (some (.ref f))/\pF K r.nm r.nm (tp r.i) f fd
 |_::_,h,r,hr=>(aG.mp hr).elim (λz=>z▸h.1) (PF.get h.2 r)
theorem PM.get:∀{l:List RM},PM mt K l->∀r∈l,∃C f fd,PySem.W.nsIn K mainGlobals r.cl=some (some (.ref C))/\Meth K C r.nm f/\pF K r.nm r.qn (mt r.i r.j) f fd
 |_::_,h,r,hr=>(aG.mp hr).elim (λz=>z▸h.1) (PM.get h.2 r)
theorem PC.get:∀{l:List (Str×Nat)},PC K l->∀r∈l,∃C,PySem.W.nsIn K mainGlobals r.1=some (some (.ref C))/\jV K C/\PySem.W.makesIn K C=true/\PySem.W.keepIn K (.ref C)=true
 |_::_,h,r,hr=>(aG.mp hr).elim (λz=>z▸h.1) (PC.get h.2 r)
theorem PA.get:∀{l:List (Str×Str)},PA K l->∀r∈l,∃C,PySem.W.nsIn K mainGlobals r.2=some (some (.ref C))/\PySem.W.findIn K (.ref C) r.1=some none
 |_::_,h,r,hr=>(aG.mp hr).elim (λz=>z▸h.1) (PA.get h.2 r)
theorem PB.get:∀{l:List Str},PB K l->∀r∈l,PySem.W.nsIn K mainGlobals r=some none
 |_::_,h,r,hr=>(aG.mp hr).elim (λz=>z▸h.1) (PB.get h.2 r)
theorem BF.get:∀{l:List RF},BF tp l->∀r∈l,∀(kV doc pm:Value) (an:Option Addr) (fS ct:Value) (us:List Value),us.length=(r.N.take r.k).length->bindArgs (PySem.W.fnOf r.nm r.nm (B8 (tp r.i)) (t8 (tp r.i)) (q9 (tp r.i)) .none kV doc pm an fS ct) ⟨us,[]⟩=pure ((r.N.take r.k).zip us)
 |_::_,h,r,hr=>(aG.mp hr).elim (λz=>z▸h.1) (BF.get h.2 r)
theorem BM.get:∀{l:List RM},BM mt l->∀r∈l,∀(kV doc pm:Value) (an:Option Addr) (fS ct:Value) (us:List Value),us.length=(r.N.take r.k).length->bindArgs (PySem.W.fnOf r.nm r.qn (B8 (mt r.i r.j)) (t8 (mt r.i r.j)) (q9 (mt r.i r.j)) .none kV doc pm an fS ct) ⟨us,[]⟩=pure ((r.N.take r.k).zip us)
 |_::_,h,r,hr=>(aG.mp hr).elim (λz=>z▸h.1) (BM.get h.2 r)
end
def wN(N P:List Str)(sc:Scope):Bool:=decide (sc.kind=.function)&&!sc.isCoroutine&&!sc.isGenerator&&decide N.Nodup&&decide (N.take P.length=P)&&P.all (λx=>decide (sc.names.lookup x=some .local)||decide (sc.names.lookup x=some .cell))&&sc.names.all λy=>decide (y.2≠.free)
theorem IJ{N P:List Str}{sc:Scope}(h:wN N P sc=true):iS N P sc:=by
 unfold wN at h;simp only[Bool.and_eq_true,decide_eq_true_eq,Bool.not_eq_true',List.all_eq_true,Bool.or_eq_true] at h;obtain⟨⟨⟨⟨⟨⟨h1,h2⟩,h3⟩,h4⟩,h5⟩,h6⟩,h7⟩:=h;exact⟨h1,h2,h3,h4,h5,h6,h7⟩
theorem BA{α:Type}{f:α->Nat}:∀{l:List α},(l.map f).Nodup->∀r∈l,l.find? (λx=>Nat.beq (f x) (f r))=some r
 |y::l,nd,r,hr=>by
  rw[cI,dj] at nd;rcases aG.mp hr with rfl|hr
  ·rw[List.find?_cons_of_pos];exact Nat.beq_refl _
  ·rw[List.find?_cons_of_neg]
   ·exact BA nd.2 r hr
   ·intro z;exact nd.1 (aU.mpr ⟨r,hr,(iV z).symm⟩)
theorem Su{α β:Type}{f:α->Nat}{g:β->Nat}{l:List α}{r:β}(h:g r∉l.map f):l.find? (λx=>Nat.beq (f x) (g r))=none:=by
 rw[jW];intro x hx z;exact h (aU.mpr ⟨x,hx,iV z⟩)
section
variable{w:World}{K:PySem.W.Frag}{h₀:Heap}{mg:Str->Option Value}{c:j5}{F:List RF}{M:List RM}{tp:Nat->Stmt}{mt:Nat->Nat->Stmt}
structure lF(K:PySem.W.Frag)(c:j5)(F:List RF)(M:List RM)(tp:Nat->Stmt)(mt:Nat->Nat->Stmt):Prop where
 qF:PF tp K F
 qM:PM mt K M
 qC:PC K c.cls
 qA:PA K c.oj
 qB:PB K c.blt
structure lE(c:j5)(F:List RF)(M:List RM)(tp:Nat->Stmt)(mt:Nat->Nat->Stmt):Prop where
 cf:c.fns=F.map λr=>(r.nm,r.id)
 cm:c.pV=M.map λr=>(r.nm,r.cl,r.id)
 ci:c.cls.all (λy=>M.any λr=>decide (r.cl=y.1)&&decide (r.nm="__init__")&&Nat.beq r.id y.2)=true
 nd:(F.map (·.id)++M.map (·.id)).Nodup
 sF:F.all (λr=>wN r.N (r.N.take r.k) (q9 (tp r.i))&&decide (r.m.ar=(r.N.take r.k).length)&&decide (r.m.n=r.N.length))=true
 sM:M.all (λr=>wN r.N (r.N.take r.k) (q9 (mt r.i r.j))&&decide (r.m.ar=(r.N.take r.k).length)&&decide (r.m.n=r.N.length))=true
 oF:YF tp c F
 oM:YM mt c M
 bF:BF tp F
 bM:BM mt M
theorem Jo(I:lF K c F M tp mt)(X:lE c F M tp mt)(r:RF)(hr:r∈F):∃f fd,jF K c (r.d tp) r.m f fd/\PySem.W.nsIn K mainGlobals r.nm=some (some (.ref f))/\sQ F M r.id=some r.m:=by
 obtain⟨f,fd,a,q⟩:=I.qF.get r hr;have s:=cB.mp X.sF r hr;simp only[Bool.and_eq_true,decide_eq_true_eq] at s;have o:=X.oF.get r hr;refine⟨f,fd,⟨q,q.binds (X.bF.get r hr),IJ s.1.1,o,s.1.2,s.2⟩,a,?_⟩;unfold sQ;rw[BA (f:=(·.id)) (cS.mp X.nd).1 r hr]
theorem Jp(I:lF K c F M tp mt)(X:lE c F M tp mt)(r:RM)(hr:r∈M):∃C f fd,jF K c (r.d mt) r.m f fd/\PySem.W.nsIn K mainGlobals r.cl=some (some (.ref C))/\Meth K C r.nm f/\sQ F M r.id=some r.m:=by
 obtain⟨C,f,fd,a,q1,q⟩:=I.qM.get r hr;have s:=cB.mp X.sM r hr;simp only[Bool.and_eq_true,decide_eq_true_eq] at s;have o:=X.oM.get r hr;refine⟨C,f,fd,⟨q,q.binds (X.bM.get r hr),IJ s.1.1,o,s.1.2,s.2⟩,a,q1,?_⟩;have nd:=cS.mp X.nd;unfold sQ;rw[Su (f:=λr:RF=>r.id) (g:=λr:RM=>r.id) (r:=r) (λz=>nd.2.2 _ z _ (aU.mpr ⟨r,hr,rfl⟩) rfl),BA (f:=λr:RM=>r.id) nd.2.1 r hr]
 rfl
theorem RU(I:lF K c F M tp mt)(Y:lE c F M tp mt)(X:K.In h₀)(G:h₀.Ns mainGlobals mg)(con:∀x d,c.con.lookup x=some d->∃v u,mg x=some u/\RelV v u/\∀ρ H,d6 K ρ H d v)(qJ:∀x kvs,c.gd.lookup x=some kvs->∃A vs,mg x=some (.ref A)/\xF K w.params A vs/\pq K kvs vs):nu w K mg c (sQ F M):=by
 refine⟨λx i hx=>?_,λx i hx=>?_,λx y i C hx hC=>?_,λf y C hx hC=>?_,con,λx hx=>?_,qJ⟩
 ·have hm:=aP hx;rw[Y.cf] at hm;obtain⟨r,hr,e⟩:=aU.mp hm;cases e;obtain⟨f,fd,O,a,t⟩:=Jo I Y r hr;exact⟨_,_,f,fd,t,O,cH X G a⟩
 ·have hm:=aP hx;have h1:=cB.mp Y.ci _ hm;obtain⟨r,hr,e⟩:=aV.mp h1;simp only[Bool.and_eq_true,decide_eq_true_eq] at e;obtain⟨⟨e1,e2⟩,e3⟩:=e;have e3:=iV e3;obtain⟨C,f,fd,O,a,q,t⟩:=Jp I Y r hr;obtain⟨C',a',hc,mk,kp⟩:=I.qC.get _ hm;rw[e1] at a;cases a.symm.trans a';rw[e2] at q;rw[e3] at t;exact⟨C,_,_,f,fd,t,O,cH X G a,a,hc,⟨mk,q.at_,q.fn,kp⟩⟩
 ·rw[Y.cm] at hx;obtain⟨r,hr,e⟩:=aU.mp hx;cases e;obtain⟨C',f,fd,O,a,q,t⟩:=Jp I Y r hr;cases a.symm.trans hC;exact⟨_,_,f,fd,t,O,q⟩
 ·obtain⟨C',a,q⟩:=I.qA.get _ hx;cases a.symm.trans hC;exact q
 ·exact PySem.W.mg_none_of X G (I.qB.get x (by simpa using hx))
end
end M
namespace M
open PySem L2
variable{g g':G}{i j n k a b m r c p t w hl:Nat}{o o':O}{P:fu}{Q:KD}{E:KX}{N:Ends}{ms ns:List Int}{l:List D}{α β:Type}{x:D}{f v:Int}{kvs:List (Key×D)}{cs:List b0}{rs:List fJ}{it elt:ME}{d4 L H:List Nat}
set_option hygiene false
local macro_rules|`(tactic|walk_at"w1")=>`(tactic|with_reducible first|refine R8 ?_|refine vO ?_|refine xU ?_|refine Dg ?_|refine Sb ?_|refine Pu ?_|refine Ju ?_|refine Sg ?_|refine Df ?_|refine C3 ?_|refine zc ?_|(refine w_var (d:=?_) ?_ ?_;rotate_left;·with_unfolding_all rfl)|refine w_lit ?_|refine vG ?_|refine vF ?_|refine VF ?_|refine Sf ?_|refine Ul ?_|refine w_and ?_|refine w_or ?_|refine w_not ?_|refine w_ite ?_|refine yj ?_|refine Sd ?_|refine wF ?_|refine xT ?_|refine R9 ?_|refine Si ?_|refine Pt ?_|refine Sj ?_|refine vP ?_|refine Dh ?_|refine VH ?_|refine VI ?_|refine Pp ?_|refine UA ?_|refine Uz ?_|refine Uy ?_|refine Ux ?_|refine VM ?_|refine Ka ?_|refine VL ?_|refine VW ?_|refine VN ?_|refine VQ ?_|refine VS ?_|refine VR ?_|refine VU ?_|refine VV ?_|refine VT ?_|refine qU ?_|refine VO ?_|refine Gx ?_|refine Gv ?_|refine Gw ?_|refine J' ?_|refine VC ?_|refine Bx ?_|refine PY ?_|refine lp ?_|refine pA ?_|refine GH ?_|refine UK ?_|refine EY ?_|refine zk ?_|refine zi ?_|refine zj ?_|refine EE ?_|refine EW ?_|refine Es ?_)
local macro_rules|`(tactic|walk_at"w2")=>`(tactic|repeat(with_reducible first|walk_at "w1"|refine CU (by simp) ?_|refine CT (by simp) ?_|refine m8 (a7 (by assumption)) (by with_unfolding_all rfl) ?_|refine E2 (a7 (by assumption)) ?_|refine CG (by unfold oy;decide) ?_))
local macro_rules|`(tactic|walk_at"w3")=>`(tactic|repeat(with_reducible first|walk_at "w1"|refine CU (by simp) ?_|refine CT (by simp) ?_|refine m8 (a7 (by assumption)) (by with_unfolding_all rfl) ?_|refine E2 (a7 (by assumption)) ?_|refine CG (by unfold oy;decide) ?_|refine And.intro (show List.length _ <= 1000 from by simp) ?_|refine B6 (by with_unfolding_all rfl) ?_|refine i0 ?_|refine v5 (by with_unfolding_all rfl) ?_))
local macro_rules|`(tactic|walk_at"")=>`(tactic|repeat(with_reducible first|walk_at "w1"|refine wD ?_|refine Eo ?_|refine Se ?_|refine Gu ?_|refine Pk ?_|refine Et ?_|refine max2 ?_|refine min2 ?_|refine Wh ?_|refine P5 ?_|refine NT ?_|refine Gd ?_|refine CU (by simp) ?_|refine CT (by simp) ?_|refine m8 (a7 (by assumption)) (by with_unfolding_all rfl) ?_|refine E2 (a7 (by assumption)) ?_|refine CG (by unfold oy;decide) ?_|refine And.intro (show List.length _ <= 1000 from by simp) ?_|refine B6 (by with_unfolding_all rfl) ?_|refine i0 ?_|refine v5 (by with_unfolding_all rfl) ?_|refine And.intro (Dy (by assumption)) ?_|refine And.intro (Qv (by assumption)) ?_|refine And.intro (US (by assumption)) ?_|refine R5 (by decide) ?_|refine Iu (by decide) (by decide) ?_|refine zG ?_))
set_option hygiene true
abbrev fg(a:ME):ME:=.cons a .nil
abbrev du(a b:ME):ME:=.cons a (.cons b .nil)
abbrev gH(a b c:ME):ME:=.cons a (.cons b (.cons c .nil))
abbrev oN(a b c d:ME):ME:=.cons a (.cons b (.cons c (.cons d .nil)))
abbrev rz(a b c d e:ME):ME:=.cons a (.cons b (.cons c (.cons d (.cons e .nil))))
abbrev FX(a b c d e f:ME):ME:=.cons a (.cons b (.cons c (.cons d (.cons e (.cons f .nil)))))
abbrev AN(a b c d e f g:ME):ME:=.cons a (.cons b (.cons c (.cons d (.cons e (.cons f (.cons g .nil))))))
abbrev dY(o:PySem.CmpOp)(a b:ME):ME:=.fR (.prim (.cmp o) (.cons a (.cons b .nil)))
abbrev cK(a b:ME):ME:=.prim .ix (.cons a (.cons b .nil))
abbrev aY(a:Int):ME:=.lit (.int a)
abbrev iO(a:PySem.Str):ME:=.lit (.str a)
abbrev dB(p:Pr)(a:ME):ME:=.prim p (.cons a .nil)
abbrev bQ(p:Pr)(a b:ME):ME:=.prim p (.cons a (.cons b .nil))
abbrev aI:ME:=.var 0
abbrev bh:ME:=.var 1
abbrev oT:ME:=.var 10
abbrev lh:ME:=.var 12
abbrev uB:ME:=.var 13
abbrev oS:ME:=.var 15
abbrev uA:ME:=.var 16
abbrev br:ME:=.var 2
abbrev bH:ME:=.var 3
abbrev cF:ME:=.var 4
abbrev dU:ME:=.var 5
abbrev eG:ME:=.var 6
abbrev fM:ME:=.var 7
abbrev km:ME:=.var 8
def E1:ba:=⟨2,5,(.seq (.ifs (.dE (dY .Lt (cK aI (aY 2)) bh) (dY .Lt (cK aI (aY 1)) (dB .len (cK aI (aY 0))))) (.seq (.set 2 (cK (cK aI (aY 0)) (cK aI (aY 1)))) (.seq (.dS aI (aY 1) (bQ (.bin .Add) (cK aI (aY 1)) (aY 1))) (.seq (.dS aI (aY 2) (aY 0)) (.seq (.ifs (dY .GtE br (bQ (.bin .Pow) (aY 10) (aY 18))) (.seq (.dS aI (aY 2) br) .pass) (.seq (.dS aI (aY 3) (bQ (.bin .Mod) (bQ (.bin .Add) (bQ (.bin .Add) (bQ (.bin .Mult) (cK aI (aY 3)) (aY 48271)) (bQ (.bin .Mult) (bQ (.bin .Mod) br (aY 2147483629)) (aY 69621))) (aY 12345)) (aY 2147483647))) .pass)) .pass)))) .pass) (.seq (.ifs (dY .GtE (cK aI (aY 2)) bh) (.seq (.set 3 (bQ (.bin .Mod) (cK aI (aY 2)) bh)) (.seq (.dS aI (aY 2) (bQ (.bin .FloorDiv) (cK aI (aY 2)) bh)) (.seq (.ret bH) .pass))) .pass) (.seq (.set 4 (cK aI (aY 3))) (.seq (.dS aI (aY 3) (bQ (.bin .Mod) (bQ (.bin .Add) (bQ (.bin .Add) (bQ (.bin .Mult) (bQ (.bin .Mod) (bQ (.bin .Mult) cF cF) (aY 2147483629)) (aY 5)) (bQ (.bin .Mult) cF (aY 16811))) (aY 2531011)) (aY 2147483647))) (.seq (.ret (bQ (.bin .Mod) (bQ (.bin .Add) (bQ (.bin .FloorDiv) (cK aI (aY 3)) (aY 59)) (bQ (.bin .Mult) (bQ (.bin .Mod) (cK aI (aY 3)) (aY 8191)) (aY 31))) bh)) .pass)))))⟩
structure f9(g:G)(d:Nat):Prop where
 ex:∃(s:Nat) (p b r:Int) (xs:List Int),g[d]?=some (.lst [.ref s,.int p,.int b,.int r])/\g[s]?=some (.lst (xs.map .int))/\s<d/\0<=p/\0<=b/\0<=r/\r<2147483647
structure Gr(d:Nat)(g g':G):Prop where
 len:g.length<=g'.length
 old:∀i,i≠d->i<g.length->g'[i]?=g[i]?
theorem Gr.refl(d:Nat)(g:G):Gr d g g:=⟨ai _,λ_ _ _=>rfl⟩
theorem Gr.trans{d:Nat}{g g1 g2:G}(a:Gr d g g1)(b:Gr d g1 g2):Gr d g g2:=⟨aD a.len b.len,λi h1 h2=>(b.old i h1 (ay h2 a.len)).trans (a.old i h1 h2)⟩
theorem Gr.set(d:Nat)(g:G)(o:O):Gr d g (g.set d o):=⟨by simp,λi h1 h2=>ax (cw h1)⟩
theorem Gr.snoc(d:Nat)(g:G)(o:O):Gr d g (g++[o]):=⟨by simp,λi h1 h2=>aK h2⟩
theorem Gr.at{d:Nat}(h:Gr d g g')(hi:i≠d)(e:g[i]?=some o):g'[i]?=some o:=(h.old i hi (av.mp e).1).trans e
theorem j9(h:g[i]?=some o):i<g.length:=(av.mp h).1
theorem f9.lt{d:Nat}(h:f9 g d):d<g.length:=by
 obtain⟨_,_,_,_,_,e,_⟩:=h.ex;exact j9 e
theorem f9.snoc{d:Nat}(h:f9 g d)(o:O):f9 (g++[o]) d:=by
 obtain⟨s,p,b,r,xs,e1,e2,q⟩:=h.ex;exact⟨s,p,b,r,xs,by rw[aK (j9 e1)];exact e1,by rw[aK (j9 e2)];exact e2,q⟩
def j7:MS->MS
 |.seq _ b=>b
 |x=>x
theorem Dr{i j:Int}(h1:-(2 ^ 64)<i)(h2:i<2 ^ 64):qS i j:=.inl ⟨h1,h2⟩
theorem Z1{i j:Int}(h1:-(2 ^ 64)<j)(h2:j<2 ^ 64):qS i j:=.inr ⟨h1,h2⟩
theorem Yk{d:Nat}{n:Int}{c2:Option D}(hN:N.rt=Q)(D0:f9 g d)(hn:0<n)(my:n<1073741824)(h:∀r g',0<=r->r<n->f9 g' d->Gr d g g'->Q (.int r) g'):wpS P (j7 E1.body) N [some (.ref d),some (.int n),c2,none,none] g E:=by
 obtain⟨s,p,b,r,xs,e1,e2,nV,hp,hb,hr,nF⟩:=D0.ex;have dZ:=j9 e1;subst hN;dsimp[E1,j7];walk_at "w2";refine if2 (λc=>?_) (λc=>?_)
 ·walk_at "w2";refine R5 hn ?_;walk_at "w2";refine xG ⟨hn,my⟩ ?_;walk_at "w2";refine Q1 e1 (by rfl) ?_;walk_at "w2";refine h _ _ (eW _ ()) (dR _ hn) ⟨s,p,b / n,r,xs,?_,?_,nV,hp,Int.ediv_nonneg hb (),hr,nF⟩ (Gr.set d g _)
  ·rw[bf dZ];rfl
  ·rw[ax (bW nV)];exact e2
 ·walk_at "w2";have EF:-(2 ^ 64)<r/\r<2 ^ 64:=⟨by omega,by omega⟩
  refine R0 (Dr EF.1 EF.2) ?_;refine R5 ∅ ?_;refine R0 (Z1 ∅ ∅) ?_;walk_at "w2";refine R0 (Z1 ∅ ∅) ?_;walk_at "w2";refine R5 ∅ ?_;walk_at "w2";refine Q1 e1 (by rfl) ?_;generalize fe:(r*r % 2147483629*5+r*16811+2531011) % 2147483647=r';have q0:0<=r':=by rw[<- fe];exact eW _ ∅
  have q1:r'<2147483647:=by rw[<- fe];exact dR _ ∅
  have Om:(g.set d (.lst [.ref s,.int p,.int b,.int r']))[d]?=some (.lst [.ref s,.int p,.int b,.int r']):=bf dZ;show wpS P _ _ _ (g.set d (.lst [.ref s,.int p,.int b,.int r'])) E;walk_at "w2";refine xG ⟨by decide,by decide⟩ ?_;walk_at "w2";refine R5 ∅ ?_;refine R0 (Z1 ∅ ∅) ?_;walk_at "w2";refine R5 hn ?_;refine h _ _ (eW _ ()) (dR _ hn) ⟨s,p,b,r',xs,Om,?_,nV,hp,hb,q0,q1⟩ (Gr.set d g _);rw[ax (bW nV)];exact e2
theorem d8{T:Nat->Option ba}(hT:T 4=some E1){d:Nat}{n:Int}(D0:f9 g d)(hn:0<n)(my:n<1073741824)(h:∀r g',0<=r->r<n->f9 g' d->Gr d g g'->Q (.int r) g'):b8 T (k+1) 4 [.ref d,.int n] g Q E:=by
 obtain⟨s,p,b,r,xs,e1,e2,nV,hp,hb,hr,nF⟩:=D0.ex;have dZ:=j9 e1;refine call_of hT rfl ?_;have tail:∀(g':G) (c2:Option D),f9 g' d->Gr d g g'->wpS (b8 T k) (j7 E1.body) ⟨λ_ g'=>Q .bO g',Q,λ_ _=>False,λ_ _=>False⟩ [some (.ref d),some (.int n),c2,none,none] g' E :=
  λg' c2 D1 gr=>Yk rfl D1 hn my λr g2 a b c e=>h r g2 a b c (gr.trans e)
 dsimp[E1,c8,List.replicate];walk_at "w2";refine if2 (λc=>?_) (λc=>?_)
 ·walk_at "w2";refine if2 (λc'=>?_) (λc'=>?_)
  ·walk_at "w2";have gB:p.toNat<xs.length:=by
    rw[ak] at c';omega
   have ea:gk (xs.map D.int) p=some (.int xs[p.toNat]):=by
    have:=v9 (xs:=xs.map D.int) (j:=p.toNat) (v:=.int xs[p.toNat]) (by rw[ae,ag gB];rfl)
    rwa [show((p.toNat:Nat):Int)=p by omega] at this
   refine m8 (a7 e2) ea ?_;generalize xs[p.toNat]=cell;walk_at "w2";refine Q1 e1 (by rfl) ?_;have f1:(g.set d (.lst [.ref s,.int (p+1),.int b,.int r]))[d]?=some (.lst [.ref s,.int (p+1),.int b,.int r]):=bf dZ;walk_at "w2";refine Q1 f1 (by rfl) ?_;rw[ir];have f2:(g.set d (.lst [.ref s,.int (p+1),.int 0,.int r]))[d]?=some (.lst [.ref s,.int (p+1),.int 0,.int r]):=bf dZ;show wpS (b8 T k) _ _ _ (g.set d (.lst [.ref s,.int (p+1),.int 0,.int r])) E;walk_at "w2";refine if2 (λc2=>?_) (λc2=>?_)
   ·walk_at "w2";refine Q1 f2 (by rfl) ?_;rw[ir];refine tail _ _ ⟨s,p+1,cell,r,xs,bf dZ,by rw[ax (bW nV)];exact e2,nV,by omega,?_,hr,nF⟩ (Gr.set d g _);have FW:(0:Int)<=10 ^ (18:Int).toNat:=by decide
    omega
   ·walk_at "w2";refine R0 (Z1 ∅ ∅) ?_;walk_at "w2";refine R5 ∅ ?_;refine R0 (Z1 ∅ ∅) ?_;walk_at "w2";refine R5 ∅ ?_;walk_at "w2";refine Q1 f2 (by rfl) ?_;rw[ir];exact tail _ _ ⟨s,p+1,0,_,xs,bf dZ,by rw[ax (bW nV)];exact e2,nV,by omega,by decide,eW _ ∅,dR _ ∅⟩ (Gr.set d g _)
  ·exact tail _ _ D0 (Gr.refl _ _)
 ·exact tail _ _ D0 (Gr.refl _ _)
def Ci:ba:=⟨1,1,(.seq (.ret (.dE (bQ .isin aI (.lit (.ty "int"))) (.eP (bQ .isin aI (.lit (.ty "bool")))))) .pass)⟩
def V5:ba:=⟨3,3,(.seq (.ret (.dE (.call 38 (fg aI)) (.chain .LtE .LtE bh aI br))) .pass)⟩
structure NF(T:Nat->Option ba):Prop where
 nf:T 1=some V5
 is:T 38=some Ci
def L5:ba:=⟨1,3,(.seq (.set 1 (aY 0)) (.seq (.dC (.one 2) (.fc aI) (.seq (.ifs (.eP (.fR (.call 1 (gH br bh (aY 7))))) (.seq (.ret (.lit (.bl false))) .pass) .pass) (.seq (.set 1 (bQ (.bin .Add) br (aY 1))) .pass))) (.seq (.ret (.lit (.bl true))) .pass)))⟩
def xR:ba:=⟨1,1,(.seq (.ret (.prim .lst (oN (dB .list (bQ (.rD false true) aI (aY 63))) (aY 0) (aY 0) (aY 29)))) .pass)⟩
def vZ:ba:=⟨1,1,(.seq (.ret (.dE (bQ .isin aI (.lit (.ty "int"))) (.eP (bQ .isin aI (.lit (.ty "bool")))))) .pass)⟩
def F1:ba:=⟨2,2,(.seq (.ifs (dY .Is bh (.lit .bO)) (.seq (.ret (bQ (.cmp .Is) aI (.lit .bO))) .pass) .pass) (.seq (.ifs (.fR (bQ .isin bh (.lit (.ty "bool")))) (.seq (.ret (.dE (bQ .isin aI (.lit (.ty "bool"))) (bQ (.cmp .Eq) aI bh))) .pass) .pass) (.seq (.ifs (.fR (bQ .isin bh (.lit (.ty "int")))) (.seq (.ret (.dE (.call 6 (fg aI)) (bQ (.cmp .Eq) aI bh))) .pass) .pass) (.seq (.ifs (.fR (bQ .isin bh (.lit (.ty "str")))) (.seq (.ret (.dE (bQ .isin aI (.lit (.ty "str"))) (bQ (.cmp .Eq) aI bh))) .pass) .pass) (.seq (.ifs (.jK (dY .NotEq (bQ .isin bh (.lit (.ty "tuple"))) (bQ .isin aI (.lit (.ty "tuple")))) (dY .NotEq (bQ .isin bh (.lit (.ty "list"))) (bQ .isin aI (.lit (.ty "list"))))) (.seq (.ret (.lit (.bl false))) .pass) .pass) (.seq (.ifs (dY .NotEq (dB .len aI) (dB .len bh)) (.seq (.ret (.lit (.bl false))) .pass) .pass) (.seq (.ret (dB .all (.comp [1,0] 4 (.one 3) (.dW (dB .len bh)) .no (.call 7 (du (cK bh bH) (cK aI bH)))))) .pass)))))))⟩
theorem O8{g:G}{n:Nat}:∀ms:List Int,(ms.map D.int).mapM (rd g n)=some (ms.map PyData.int)
 |[]=>rfl
 |m::r=>by
  rw[cI,List.mapM_cons,O8 r];cases n<;>rfl
theorem lay_ints:∀ms:List Int,PyData.canLayAll0 (ms.map PyData.int)=true
 |[]=>by rfl
 |m::r=>by simp[PyData.canLayAll0,PyData.canLay0,lay_ints r]
theorem HX:∀ms ns:List Int,PyData.eqvAll (ms.map PyData.int) (ns.map PyData.int)=decide (ms=ns)
 |[],[]=>by rfl
 |[],_::_=>by rfl
 |_::_,[]=>by rfl
 |m::r,n::q=>by
  simp only[List.map_cons,PyData.eqvAll,PyData.eqv,HX r q];by_cases h:m=n
  ·subst h;simp
  ·simp[h]
theorem Cb{i:Int}{k:Bool->Prop}(h:k (ms.any λm=>m==i)):pZ g (.int i) (.tup (ms.map .int)) k:=by
 refine⟨_,.inr ⟨_,_,_,rfl,O8 ms,rfl,lay_ints ms,by rfl,rfl⟩,?_⟩;rw[kK];exact h
theorem XC{k:Bool->Prop}(ha:d0 g a=some (ms.map .int))(hb:d0 g b=some (ns.map .int))(h:k (decide (ms=ns))):su g (.ref a) (.ref b) k:=by
 refine⟨_,.inr (.inr (.inr ⟨.list (ms.map .int),.list (ns.map .int),?_,?_,?_,?_,rfl⟩)),?_⟩
 ·simp only[rd];rw[ha];dsimp only;rw[O8];rfl
 ·simp only[rd];rw[hb];dsimp only;rw[O8];rfl
 ·simp[PyData.canLay0,lay_ints]
 ·simp[PyData.canLay0,lay_ints]
 ·simp only[PyData.eqv,HX];exact h
section
variable{T:Nat->Option ba}{d:Nat}
theorem Il(h1:NF T){i:Int}(h:Q (.bl true) g):b8 T (k+1) 38 [.int i] g Q E:=by
 refine call_of h1.is rfl ?_;dsimp[Ci,c8,List.replicate];walk_at "w2";refine gC (c:="int") (b:=true) ∅ rfl ?_;walk_at "w2";refine gC (c:="bool") (b:=false) ∅ rfl ?_;walk_at "w2";exact h
theorem C6(h1:NF T){i l m:Int}(h:Q (.bl (decide (l<=i)&&decide (i<=m))) g):b8 T (k+2) 1 [.int i,.int l,.int m] g Q E:=by
 refine call_of h1.nf rfl ?_;dsimp[V5,c8,List.replicate];walk_at "w2";refine Il h1 ?_;walk_at "w2";refine if2 (λc=>?_) (λc=>?_)
 ·rw[aw c] at h;walk_at "w2";exact h
 ·rw[aH c] at h;exact h
def gm:Int->List Int->Bool
 |_,[]=>true
 |l,x::r=>(decide (l<=x)&&decide (x<=7))&&gm (x+1) r
theorem Iq(h1:NF T)(h2:T 2=some L5)(h:Q (.bl (gm 0 ms)) g):b8 T (k+3) 2 [.tup (ms.map .int)] g Q E:=by
 refine call_of h2 rfl ?_;refine w9 (a8 T _) (uJ (a8 T _) ?_);walk_at "w2";refine⟨_,rfl,_,λi U g'=>g'=g/\∃(l:Int) (z:Option D),U=[some (.tup (ms.map .int)),some (.int l),z]/\gm 0 ms=gm l (ms.drop i),λ_ _ _ _=>n8,⟨rfl,0,none,rfl,rfl⟩,λi x U g' hx p=>?_,λU g' p=>?_⟩
 ·obtain⟨rfl,l,z,rfl,e⟩:=p;rw[ae] at hx;cases em:ms[i]? with
  |none=>rw[em] at hx;cases hx
  |some m =>
   rw[em] at hx;cases hx;have hi:=(av.mp em).1;have ed:ms.drop i=m::ms.drop (i+1):=by
    rw[dh hi]
    congr 1
    exact(av.mp em).2
   rw[ed] at e;simp only[gm] at e;show wpS _ _ _ _ _ _;walk_at "w2";refine C6 h1 ?_;walk_at "w2";cases hc:(decide (l<=m)&&decide (m<=7)) with
   |true =>
    rw[hc,pH] at e;walk_at "w2";exact⟨rfl,m+1,some (.int m),rfl,e⟩
   |false =>
    rw[hc,Bool.false_and] at e;rw[e] at h;exact h
 ·obtain⟨rfl,l,z,rfl,e⟩:=p;rw[iu (by simp)] at e;rw[e] at h;exact h
theorem SV(h3:T 3=some xR)(hg:g[a]?=some (.oi (ns.map .int)))(h:∀d g',f9 g' d->g.length<=d->(∀i,i<g.length->g'[i]?=g[i]?)->Q (.ref d) g'):b8 T (k+1) 3 [.ref a] g Q E:=by
 refine call_of h3 rfl ?_;dsimp[xR,c8,List.replicate];walk_at "w2";refine IL (XM hg) ?_;refine Km (l:=cut (ns.map D.int) none (some 63)) (a7 (by simp)) ?_;walk_at "w2";have ec:cut (ns.map D.int) none (some 63)=(cut ns none (some 63)).map D.int:=by
  unfold cut;simp[List.map_take,List.map_drop]
 refine h _ _ ⟨g.length+1,0,0,29,cut ns none (some 63),?_,?_,?_,by decide,by decide,by decide,by decide⟩ (by simp) (λi hi=>?_)
 ·simp
 ·rw[<- ec];simp
 ·simp
 ·simp[List.getElem?_append,hi,Nat.lt_of_lt_of_le hi (by omega:g.length<=g.length+1),Nat.lt_of_lt_of_le hi (by omega:g.length<=g.length+1+1)]
end
theorem Kh:∀{ms:List Int} {l:Int},ms.Pairwise (· < ·)->(∀m∈ms,l<=m/\m<=7)->gm l ms=true
 |[],_,_,_=>rfl
 |m::r,l,hp,h=>by
  obtain⟨h1,h2⟩:=eY.mp hp;have hm:=h m (by simp);simp only[gm];rw[aw hm.1,aw hm.2,Kh h2 λx hx=>⟨by have:=h1 x hx;omega,(h x (by simp[hx])).2⟩]
  rfl
theorem K5{l:List α}{r:Int}(h0:0<=r)(h1:r<l.length):∃v,gk l r=some v/\v∈l:=by
 have hi:r.toNat<l.length:=by omega
 refine⟨l[r.toNat],?_,bN hi⟩;have:=v9 (xs:=l) (j:=r.toNat) (v:=l[r.toNat]) (ag hi)
 rwa [show((r.toNat:Nat):Int)=r by omega] at this
section
variable{T:Nat->Option ba}
theorem Jd(h7:T 7=some F1){a b:Bool}(h:Q (.bl (a==b)) g):b8 T (k+1) 7 [.bl a,.bl b] g Q E:=by
 refine call_of h7 rfl ?_;dsimp[F1,c8,List.replicate];walk_at "w2";walk_at "w2";refine gC (c:="bool") (b:=true) ∅ rfl ?_;walk_at "w2";refine gC (c:="bool") (b:=true) ∅ rfl ?_;walk_at "w2";exact h
end
def B9:ba:=⟨1,8,(.seq (.lK (.many [1,2,3,4,5]) aI) (.seq (.set 6 (.dE (.call 1 (gH bh (aY 1) (aY 99))) (.call 2 (fg br)))) (.seq (.set 7 (.dE (.call 1 (gH bH (aY 1) (aY 99))) (.call 2 (fg cF)))) (.seq (.ret (.dE eG (.dE fM (.call 1 (gH dU (aY 0) (aY 9999)))))) .pass))))⟩
structure b0 where
 lo:Int
 lm:List Int
 up:Int
 um:List Int
 yr:Int
def b0.d(c:b0):D:=.tup [.int c.lo,.tup (c.lm.map .int),.int c.up,.tup (c.um.map .int),.int c.yr]
def u6(c:b0):Bool:=((decide (1<=c.lo)&&decide (c.lo<=99))&&gm 0 c.lm)&&(((decide (1<=c.up)&&decide (c.up<=99))&&gm 0 c.um)&&(decide (0<=c.yr)&&decide (c.yr<=9999)))
section
variable{T:Nat->Option ba}{d:Nat}
theorem ZH(h1:NF T)(h2:T 2=some L5)(sj:T 12=some B9){c:b0}(h:Q (.bl (u6 c)) g):b8 T (k+4) 12 [c.d] g Q E:=by
 refine call_of sj rfl ?_;dsimp[B9,c8,List.replicate,b0.d];walk_at "w3";refine C6 h1 ?_;have s1:∀b:Bool,b=((decide (1<=c.lo)&&decide (c.lo<=99))&&gm 0 c.lm)->wpS (b8 T (k+3)) (j7 (j7 B9.body)) ⟨λ_ g'=>Q .bO g',Q,λ_ _=>False,λ_ _=>False⟩ [some c.d,some (.int c.lo),some (.tup (c.lm.map .int)),some (.int c.up),some (.tup (c.um.map .int)),some (.int c.yr),some (.bl b),none] g E:=by
  intro b hb;dsimp[B9,j7];walk_at "w3";refine C6 h1 ?_;have s2:∀b':Bool,b'=((decide (1<=c.up)&&decide (c.up<=99))&&gm 0 c.um)->wpS (b8 T (k+3)) (j7 (j7 (j7 B9.body))) ⟨λ_ g'=>Q .bO g',Q,λ_ _=>False,λ_ _=>False⟩ [some c.d,some (.int c.lo),some (.tup (c.lm.map .int)),some (.int c.up),some (.tup (c.um.map .int)),some (.int c.yr),some (.bl b),some (.bl b')] g E:=by
   intro b' lA;dsimp[B9,j7];have e:u6 c=(b&&(b'&&(decide (0<=c.yr)&&decide (c.yr<=9999)))):=by unfold u6;rw[hb,lA]
   rw[e] at h;walk_at "w3";cases b
   ·exact pA h
   ·refine lp ?_;walk_at "w3";cases b'
    ·exact pA h
    ·refine lp ?_;walk_at "w3";exact C6 h1 h
  refine Bx ?_;cases hc:(decide (1<=c.up)&&decide (c.up<=99)) with
  |false=>exact pA (s2 false (by rw[hc];rfl))
  |true =>
   refine lp ?_;walk_at "w1";walk_at "w1";walk_at "w1";walk_at "w1";exact Iq h1 h2 (s2 _ (by rw[hc];rfl))
 refine Bx ?_;cases hc:(decide (1<=c.lo)&&decide (c.lo<=99)) with
 |false=>exact pA (s1 false (by rw[hc];rfl))
 |true =>
  refine lp ?_;walk_at "w1";walk_at "w1";walk_at "w1";walk_at "w1";exact Iq h1 h2 (s1 _ (by rw[hc];rfl))
end
def S4:ba:=⟨2,5,(.seq (.set 2 (dB .list bh)) (.seq (.set 3 (.prim .lst .nil)) (.seq (.dC (.one 4) (.dW (dB .len bh)) (.seq (.expr (.eE .append bH (fg (.eE .pop br (fg (.call 4 (du aI (dB .len br)))))))) .pass)) (.seq (.ret bH) .pass))))⟩
theorem HM{α:Type}:∀{l:List α} {j:Nat} (h:j<l.length),(l[j]::l.eraseIdx j).Perm l
 |a::r,0,_=>by simp
 |a::r,j+1,h=>by
  simp only[List.getElem_cons_succ,List.eraseIdx_cons_succ];exact(List.Perm.swap _ _ _).trans ((HM (l:=r) (j:=j) (by simpa using h)).cons a)
theorem Gr.C1{d x:Nat}(h:Gr d g g')(hx:g.length<=x):Gr d g (g'.set x o):=⟨by simp[h.len],λi h1 h2=>by rw[ax ()];exact h.old i h1 h2⟩
theorem f9.C1{d x:Nat}(h:f9 g d)(hx:d<x):f9 (g.set x o) d:=by
 obtain⟨s,p,b,r,xs,e1,e2,hs,q⟩:=h.ex;exact⟨s,p,b,r,xs,by rw[ax ()];exact e1,by rw[ax ()];exact e2,hs,q⟩
theorem b7:(g++[o])[g.length]?=some o:=by simp
theorem n9(h:g[i]?=some o):(g++[o'])[i]?=some o:=by rw[aK (j9 h)];exact h
theorem get_set(h:g[i]?=some o):(g.set i o')[i]?=some o':=bf (j9 h)
theorem c7(h:g[i]?=some o)(hn:j≠i):(g.set j o')[i]?=some o:=by rw[ax hn];exact h
section
variable{T:Nat->Option ba}{d:Nat}
theorem V4(h4:T 4=some E1)(Ay:T 21=some S4)(ha:g[a]?=some (.lst l))(hl:l.length<=1000)(hd:a≠d)(D0:f9 g d)(h:∀(l':List D) b g',l'.Perm l->g'[b]?=some (.lst l')->g.length<=b->f9 g' d->Gr d g g'->Q (.ref b) g'):b8 T (k+2) 21 [.ref d,.ref a] g Q E:=by
 refine call_of Ay rfl ?_;dsimp[S4,c8,List.replicate];left;refine Km (a7 ha) ?_;left;have dl:=D0.lt;refine w9 (a8 T _) (N4 (a8 T _) ?_);left;have xp:(g++[O.lst l]++[O.lst []])[a]?=some (.lst l):=n9 (n9 ha);refine E2 (a7 xp) ?_;refine ⟨_,rfl,by omega,by omega,i8 0 l.length,λi U g'=>∃ left found w,U=[some (.ref d),some (.ref a),some (.ref g.length),some (.ref (g.length + 1)),w]/\(left ++ found).Perm l/\left.length + i=l.length/\g'[g.length]?=some (.lst left)/\g'[g.length + 1]?=some (.lst found)/\f9 g' d/\Gr d g g',
  λi U g p=>n8,?_,λi x U g' hx p=>?_,λU g' p=>?_⟩
 ·refine⟨l,[],none,?_,by simp,by simp,?_,?_,(D0.snoc _).snoc _,(Gr.snoc _ _ _).trans (Gr.snoc _ _ _)⟩
  ·simp
  ·exact n9 b7
  ·have:=b7 (g:=g++[O.lst l]) (o:=O.lst []);simpa using this
 ·obtain⟨left,found,w,rfl,hp,hn,e1,e2,D1,G1⟩:=p;obtain⟨hi,rfl⟩:=s9 hx;show wpS _ _ _ _ _ _;left;refine d8 (n:=(left.length:Int)) h4 D1 () () λr g2 r0 r1 D2 G2=>?_;have f1:=G2.at () e1;have f2:=G2.at () e2;have hr:r.toNat<left.length:=by omega
  left;refine Wv (j:=r.toNat) f1 () (ag hr) () ?_;left;refine K2 (c7 f2 ()) ?_ ?_
  ·have:=hp.length_eq;simp at this;omega
  left;refine⟨_,_,_,rfl,?_,?_,c7 (get_set f1) (),get_set (c7 f2 ()),(D2.C1 ()).C1 (),((G1.trans G2).C1 ()).C1 ()⟩
  ·refine List.Perm.trans ?_ hp;have:=HM hr;refine List.Perm.trans ?_ (fo found this);simp only[List.cons_append];rw[<- cj];exact(List.perm_append_singleton _ _)
  ·rw[gs hr];omega
 ·obtain⟨left,found,w,rfl,hp,hn,e1,e2,D1,G1⟩:=p;show wpS _ _ _ _ _ _;left;rw[i6] at hn;have:left=[]:=dN ();subst this;exact h _ _ _ (by simpa using hp) e2 () D1 G1
end
def yA:ba:=⟨1,5,(.seq (.set 1 (.prim .lst (AN (.prim .tup .nil) (dB .tup (aY 0)) (bQ .tup (aY 0) (aY 1)) (dB .tup (aY 1)) (.prim .tup (gH (aY 0) (aY 1) (aY 2))) (.prim .tup (oN (aY 0) (aY 1) (aY 2) (aY 7))) (dB .tup (aY 2))))) (.seq (.set 2 (cK bh (.call 4 (du aI (cK (bQ .tup (aY 4) (aY 7)) (dB .int (bQ (.cmp .Eq) (.call 4 (du aI (aY 4))) (aY 0)))))))) (.seq (.set 3 (cK bh (.call 4 (du aI (aY 5))))) (.seq (.set 4 (cK (.prim .lst (FX (aY 0) (aY 0) (aY 1400) (aY 1400) (aY 1401) (aY 1))) (.call 4 (du aI (aY 6))))) (.seq (.ret (.prim .tup (rz (bQ (.bin .Add) (aY 1) (.call 4 (du aI (aY 3)))) br (bQ (.bin .Add) (aY 1) (.call 4 (du aI (aY 4)))) bH cF))) .pass)))))⟩
def J5:ba:=⟨4,4,(.seq (.ifs (.jK (dY .Eq (dB .len bh) (aY 0)) (.dE (dY .Lt (dB .len bh) bH) (dY .Eq (.call 4 (du aI (aY 3))) (aY 0)))) (.seq (.expr (.eE .append bh (fg br))) (.seq (.ret (bQ (.bin .Add) br (aY 1))) .pass)) .pass) (.seq (.ifs (dY .Eq (.call 4 (du aI (aY 5))) (aY 0)) (.seq (.dS bh (.call 4 (du aI (dB .len bh))) br) (.seq (.ret (bQ (.bin .Add) br (aY 1))) .pass)) .pass) (.seq (.ret br) .pass)))⟩
structure jy(c:b0):Prop where
 good:u6 c=true
 l8:c.lm.length<=8
 u8:c.um.length<=8
theorem jy.mk'{lo up yr:Int}{lm um:List Int}(h1:1<=lo)(h2:lo<=99)(h3:1<=up)(h4:up<=99)(h5:0<=yr)(h6:yr<=9999)(h7:gm 0 lm=true)(h8:gm 0 um=true)(h9:lm.length<=8)(FW:um.length<=8):jy ⟨lo,lm,up,um,yr⟩:=by
 refine⟨?_,h9,FW⟩;simp only[u6,h7,h8,decide_eq_true h1,decide_eq_true h2,decide_eq_true h3,decide_eq_true h4,decide_eq_true h5,decide_eq_true h6]
 rfl
theorem jy.inv{c:b0}(h:jy c):(1<=c.lo/\c.lo<=99)/\gm 0 c.lm=true/\(1<=c.up/\c.up<=99)/\gm 0 c.um=true/\0<=c.yr/\c.yr<=9999:=by
 have:=h.good;unfold u6 at this;simp only[Bool.and_eq_true,decide_eq_true_eq] at this;obtain⟨⟨⟨a,b⟩,e⟩,⟨⟨c',d⟩,f⟩,p,q⟩:=this;exact⟨⟨a,b⟩,e,⟨c',d⟩,f,p,q⟩
def U5:List (List Int):=[[],[0],[0,1],[1],[0,1,2],[0,1,2,7],[2]]
theorem SJ:∀ms∈U5,gm 0 ms=true/\ms.length<=8:=by decide
theorem Jf{r:Int}(h0:0<=r)(h7:r<7):∃ms,gk (U5.map λms=>D.tup (ms.map .int)) r=some (.tup (ms.map .int))/\gm 0 ms=true/\ms.length<=8:=by
 obtain⟨v,hv,hm⟩:=K5 (l:=U5.map λms=>D.tup (ms.map .int)) h0 (by simpa[U5] using h7);obtain⟨ms,h1,rfl⟩:=aU.mp hm;exact⟨ms,hv,SJ ms h1⟩
section
variable{T:Nat->Option ba}{d:Nat}
theorem Zi(h4:T 4=some E1)(NG:T 22=some yA)(D0:f9 g d)(h:∀c g',jy c->f9 g' d->Gr d g g'->Q c.d g'):b8 T (k+2) 22 [.ref d] g Q E:=by
 refine call_of NG rfl ?_;dsimp[yA,c8,List.replicate];have dl:=D0.lt;left;have D1:=D0.snoc (.lst (U5.map λms=>D.tup (ms.map .int)));have G1:=Gr.snoc d g (.lst (U5.map λms=>D.tup (ms.map .int)));have e1:(g++[O.lst (U5.map λms=>D.tup (ms.map .int))])[g.length]?=some (.lst (U5.map λms=>D.tup (ms.map .int))):=b7;refine d8 h4 D1 ∅ ∅ λr g2 r0 r1 D2 G2=>?_;left;have e2:=G2.at () e1;have hn:∃n:Int,gk [D.int 4,D.int 7] (if decide (r=0)=true then 1 else 0)=some (.int n)/\0<n/\n<=7:=by
  by_cases hr:r=0
  ·exact⟨7,by rw[aw hr];rfl,by decide,by decide⟩
  ·exact⟨4,by rw[aH hr];rfl,by decide,by decide⟩
 obtain⟨n,en,n0,n7⟩:=hn;refine v5 en ?_;left;refine d8 h4 D2 n0 () λr3 g3 iN iZ D3 G3=>?_;have e3:=G3.at () e2;obtain⟨lm,el,gl,ll⟩:=Jf iN ();refine m8 (a7 e3) el ?_;left;refine d8 h4 D3 ∅ ∅ λr4 g4 pQ rG D4 G4=>?_;have e4:=G4.at () e3;obtain⟨um,eu,gu,lu⟩:=Jf pQ ();refine m8 (a7 e4) eu ?_;left;have e5:(g4++[O.lst [.int 0,.int 0,.int 1400,.int 1400,.int 1401,.int 1]])[g4.length]?=some (.lst [.int 0,.int 0,.int 1400,.int 1400,.int 1401,.int 1]):=b7;refine d8 h4 (D4.snoc _) ∅ ∅ λr5 g5 kQ kP D5 G5=>?_;have e6:=G5.at (by have:=D4.lt;omega) e5;obtain⟨v,hv,hm⟩:=K5 (l:=[D.int 0,.int 0,.int 1400,.int 1400,.int 1401,.int 1]) kQ (by simpa using kP);have hy:∃y:Int,v=.int y/\0<=y/\y<=9999:=by
  simp only[List.mem_cons,List.mem_nil_iff,or_false] at hm;rcases hm with rfl|rfl|rfl|rfl|rfl|rfl<;>exact⟨_,rfl,by decide,by decide⟩
 obtain⟨y,rfl,y0,y1⟩:=hy;refine m8 (a7 e6) hv ?_;left;refine d8 h4 D5 ∅ ∅ λr6 g6 EH EG D6 G6=>?_;left;refine d8 h4 D6 ∅ ∅ λr7 g7 r70 r71 D7 G7=>?_;left;exact h ⟨1+r6,lm,1+r7,um,y⟩ _ (jy.mk' () () () () y0 y1 gl gu ll lu) D7 (G1.trans (G2.trans (G3.trans (G4.trans ((Gr.snoc _ _ _).trans (G5.trans (G6.trans G7)))))))
def CD(l:List D)(f:Int):Prop:=∃ns:List Int,l=ns.map .int/\∀n∈ns,1<=n/\n<f
theorem Yn(h4:T 4=some E1)(vf:T 23=some J5)(ha:g[a]?=some (.lst l))(hl:l.length<1000)(hs:CD l f)(f1:1<=f)(hd:d<a)(D0:f9 g d)(h:∀(l':List D) (f':Int) g',l'≠[]->l'.length<=l.length+1->CD l' f'->f<=f'->f'<=f+1->g'[a]?=some (.lst l')->f9 g' d->(∀i,i≠d->i≠a->i<g.length->g'[i]?=g[i]?)->g.length<=g'.length->Q (.int f') g'):b8 T (k+2) 23 [.ref d,.ref a,.int f,.int v] g Q E:=by
 refine call_of vf rfl ?_;obtain⟨ns,rfl,qe⟩:=id hs;have app:∀g':G,g'[a]?=some (.lst (ns.map D.int))->f9 g' d->Gr d g g'->wpS (b8 T (k+1)) (.seq (.expr (.eE .append (.var 1) (.cons (.var 2) .nil))) (.seq (.ret (.prim (.bin .Add) (.cons (.var 2) (.cons (.lit (.int 1)) .nil)))) .pass)) ⟨λiL g1=>wpS (b8 T (k+1)) (j7 J5.body) ⟨λ_ g'=>Q .bO g',Q,λ_ _=>False,λ_ _=>False⟩ iL g1 E,Q,λ_ _=>False,λ_ _=>False⟩ [some (.ref d),some (.ref a),some (.int f),some (.int v)] g' E:=by
  intro g' e D1 G1;left;refine K2 e () ?_;left;refine h _ _ _ (by simp) (by simp) ⟨ns++[f],by simp,λn hn=>?_⟩ () () (get_set e) (D1.C1 hd) (λi h1 h2 h3=>?_) (by simp[G1.len])
  ·rcases aO.mp hn with z|z
   ·have:=qe n z;omega
   ·simp at z;omega
  ·rw[ax (cw h2)];exact G1.old i h1 h3
 have rest:∀g':G,g'[a]?=some (.lst (ns.map D.int))->ns≠[]->f9 g' d->Gr d g g'->wpS (b8 T (k+1)) (j7 J5.body) ⟨λ_ g'=>Q .bO g',Q,λ_ _=>False,λ_ _=>False⟩ [some (.ref d),some (.ref a),some (.int f),some (.int v)] g' E:=by
  intro g' e eZ D1 G1;dsimp[J5,j7];left;refine d8 h4 D1 ∅ ∅ λr g2 r0 r1 D2 G2=>?_;have e2:=G2.at () e;have hlen:0<ns.length:=Eg.mpr eZ;left;refine if2 (λc=>?_) (λc=>?_)
  ·left;rw[ak];refine d8 h4 D2 () (by simp at hl;omega) λr3 g3 iN iZ D3 G3=>?_;have e3:=G3.at () e2;have hj:kR (ns.map D.int).length r3=some r3.toNat:=by
    unfold kR;rw[aJ iN,aJ (by rw[ak];exact iZ)]
   refine Q1 e3 hj ?_;left;refine h _ _ _ (by simp[eZ]) (by simp) ⟨ns.set r3.toNat f,by simp,λn hn=>?_⟩ () () (get_set e3) (D3.C1 hd) (λi h1 h2 h3=>?_) (by simp[((G1.trans G2).trans G3).len])
   ·rcases gF hn with z|z
    ·have:=qe n z;omega
    ·omega
   ·rw[ax (cw h2)];exact((G1.trans G2).trans G3).old i h1 h3
  ·left;exact h _ _ _ (by simp[eZ]) (by simp) hs () () e2 D2 (λi h1 h2 h3=>(G1.trans G2).old i h1 h3) (G1.trans G2).len
 dsimp[J5,c8,List.replicate];left;refine if2 (λc=>?_) (λc=>?_)
 ·refine lp ?_;exact app g ha D0 (Gr.refl _ _)
 ·have eZ:ns≠[]:=λz=>c (by rw[z];rfl);left;refine if2 (λc2=>?_) (λc2=>?_)
  ·left;refine d8 h4 D0 ∅ ∅ λr g2 r0 r1 D2 G2=>?_;left;refine if2 (λc3=>?_) (λc3=>?_)
   ·exact app g2 (G2.at () ha) D2 G2
   ·exact rest g2 (G2.at () ha) eZ D2 G2
  ·exact rest g ha eZ D0 (Gr.refl _ _)
end
def K7:ba:=⟨3,17,(.seq (.set 3 (.prim .lst .nil)) (.seq (.set 4 (aY 1)) (.seq (.set 5 (.prim .P5 .nil)) (.seq (.set 6 (cK (.prim .lst (gH (aY 0) (aY 1) (aY 1350))) (.call 4 (du aI (aY 3))))) (.seq (.set 7 (bQ (.bin .Add) (aY 1) (.call 4 (du aI (aY 96))))) (.seq (.set 8 (bQ (.bin .Add) (aY 2) (.call 4 (du aI (aY 4))))) (.seq (.set 9 (bQ .max (aY 0) (bQ (.bin .Sub) (.call 4 (du aI (aY 9))) (aY 6)))) (.seq (.set 10 (.prim .lst .nil)) (.seq (.dC (.one 11) (.dW bh) (.seq (.set 4 (.call 23 (oN aI bH cF br))) (.seq (.set 12 (bQ .tup (cK bH (.call 4 (du aI (dB .len bH)))) (bQ (.bin .Add) (aY 50) (.call 4 (du aI (bQ (.bin .Add) (aY 2) br)))))) (.seq (.dC (.one 13) (.fc lh) (.seq (.ifs (dY .Eq (.call 4 (du aI km)) (aY 0)) (.seq (.set 14 (.call 4 (du aI (aY 8)))) (.seq (.dS dU uB (dB .tuple (.comp [13,14,5] 5 (.one 4) (.dW (aY 8)) (.jK (dY .Eq cF bh) (dY .In cF (.eE .get br (du aI (.prim .tup .nil))))) cF))) .pass)) .pass) .pass)) (.seq (.ifs (dY .Eq (.call 4 (du aI (aY 5))) (aY 0)) (.seq (.set 6 (bQ .min (aY 9999) (bQ (.bin .Add) (bQ (.bin .Add) eG (aY 1)) (.call 4 (du aI (aY 9)))))) .pass) .pass) (.seq (.set 15 (.comp [9,7] 4 (.one 3) (.fc lh) .no (bQ (.bin .Add) (bQ (.bin .Add) (aY 1) aI) (bQ (.bin .Mod) (bQ (.bin .Mult) bH bh) (aY 97))))) (.seq (.set 16 (bQ (.bin .Mult) eG (dB .int (bQ (.cmp .Gt) (.call 4 (du aI (aY 4))) (aY 0))))) (.seq (.expr (.eE .append oT (fg (.prim .tup (rz (cK oS (aY 0)) (.eE .get dU (du (cK lh (aY 0)) (.prim .tup .nil))) (cK oS (aY 1)) (.eE .get dU (du (cK lh (aY 1)) (.prim .tup .nil))) uA))))) .pass)))))))) (.seq (.ret oT) .pass))))))))))⟩
def oA(kvs:List (Key×D)):Prop:=∀k v,p9 kvs k=some v->∃ms:List Int,v=.tup (ms.map .int)/\gm 0 ms=true/\ms.length<=8
theorem Xm(kvs:List (Key×D))(k k':Key)(v:D):p9 (putD kvs k v) k'=if k'=k then some v else p9 kvs k':=by
 unfold putD;split
 ·rename_i lS;have go:∀l:List (Key×D),p9 (l.map λkv=>if kv.1=k then(kv.1,v) else kv) k'=if k'=k then(if(l.any λkv=>decide (kv.1=k))=true then some v else none) else p9 l k':=by
   intro l
   induction l with
   |nil=>simp[p9]
   |cons p r ih =>
    obtain⟨pk,pv⟩:=p;by_cases e:pk=k
    ·subst e;by_cases e2:k'=pk
     ·subst e2;simp[p9]
     ·have:¬pk=k':=λz=>e2 z.symm;unfold p9 at ih ⊢;simp[this,e2] at ih ⊢;exact ih
    ·by_cases e2:k'=k
     ·subst e2;unfold p9 at ih ⊢;rw[jQ,show decide (pk=k')=false from aH e,pI];simp[e] at ih ⊢;exact ih
     ·unfold p9 at ih ⊢;simp only[List.map_cons,e,if_false,List.find?_cons];by_cases e3:pk=k'
      ·simp[e3,e2]
      ·simp[e3];simp[e2] at ih;simp[e2];exact ih
  rw[go,lS]
  rfl
 ·rename_i lS;unfold p9;rw[kJ];by_cases e:k'=k
  ·subst e;have:kvs.find? (λkv=>decide (kv.1=k'))=none:=by
    rw[jW];intro x hx hd;exact lS (aV.mpr ⟨x,hx,hd⟩)
   rw[this];simp
  ·have:¬k=k':=λz=>e z.symm;simp[this,e]
theorem a19(kvs:List (Key×D))(k:Key)(v:D):(putD kvs k v).length<=kvs.length+1:=by
 unfold putD;split<;>simp
theorem oA.put{k:Key}(h:oA kvs)(h1:gm 0 ms=true)(h2:ms.length<=8):oA (putD kvs k (.tup (ms.map .int))):=λk' v hv=>by
 rw[Xm] at hv;split at hv
 ·cases hv;exact⟨ms,rfl,h1,h2⟩
 ·exact h k' v hv
theorem oA.get(h:oA kvs)(k:Key):∃ms:List Int,(p9 kvs k).getD (.tup [])=.tup (ms.map .int)/\gm 0 ms=true/\ms.length<=8:=by
 cases e:p9 kvs k with
 |none=>exact⟨[],rfl,rfl,by simp⟩
 |some v=>obtain⟨ms,rfl,h1,h2⟩:=h k v e;exact⟨ms,rfl,h1,h2⟩
theorem XF(p:Int->Bool):gm 0 (((List.range 8).map λ(n:Nat)=>(n:Int)).filter p)=true/\(((List.range 8).map λ(n:Nat)=>(n:Int)).filter p).length<=8:=by
 refine⟨Kh (List.Pairwise.filter _ ∅) λm hm=>?_,aD (fG _ _) ∅⟩;have:=(bq.mp hm).1;revert this;revert m;intro m _ hm;simp at hm;obtain⟨a,ha,rfl⟩:=hm;omega
theorem List.Xd{l:List α}{x:α}(h:l[i]?=some x):l.set i x=l:=by
 apply bS;intro j;by_cases e:i=j
 ·subst e;rw[bf (av.mp h).1];exact h.symm
 ·rw[ax e]
section
variable{T:Nat->Option ba}{d:Nat}
def Xo:MS:=match K7.body with
 |.seq _ (.seq _ (.seq _ (.seq _ (.seq _ (.seq _ (.seq _ (.seq _ (.seq (.dC _ _ (.seq _ (.seq _ (.seq (.dC _ _ b) _)))) _))))))))=>b
 |x=>x
theorem ZP(h4:T 4=some E1){w0:Nat}{key wr:Int}{U:S}(hw:g[w0]?=some (.cY kvs))(W:oA kvs)(hk:kvs.length<1000)(hr:0<wr)(nF:wr<1000)(hd:d<w0)(D0:f9 g d)(s0:U[0]?=some (some (.ref d)))(s5:U[5]?=some (some (.ref w0)))(s8:U[8]?=some (some (.int wr)))(Lv:U[13]?=some (some (.int key)))(sl:U.length=17)(h:∀z jv g',g'[w0]?=some (.cY jv)->oA jv->jv.length<=kvs.length+1->f9 g' d->(∀i,i≠d->i≠w0->i<g.length->g'[i]?=g[i]?)->g.length<=g'.length->N.nx (U.set 14 z) g'):wpS (b8 T (k+1)) Xo N U g E:=by
 obtain⟨mf,Oj⟩:∃z,U[14]?=some z:=⟨_,ag ()⟩
 refine R8 (Df (Dh (vG (yj (R9 (w_var s0 (R9 (w_var s8 (xT ?_)))))))));refine d8 h4 D0 hr () λr g2 r0 r1 D2 G2=>?_;left;refine if2 (λc=>?_) (λc=>?_)
 ·refine vO (xU (yj (R9 (w_var s0 (R9 (w_lit (xT ?_)))))));refine d8 h4 D2 ∅ ∅ λr3 g3 iN iZ D3 G3=>?_;have e3:=(G2.trans G3).at () hw;have t5:(U.set 14 (some (.int r3)))[5]?=some (some (.ref w0)):=by rw[ax ∅];exact s5
  have Eu:(U.set 14 (some (.int r3)))[13]?=some (some (.int key)):=by rw[ax ∅];exact Lv
  have Lp:(U.set 14 (some (.int r3)))[14]?=some (some (.int r3)):=bf ();obtain⟨ms,em,_,_⟩:=W.get (.inl key);refine R8 (Ju (vF ?_));refine Zg (a8 T _) (w_lit ⟨8,rfl,by decide,λi ys bZ g'=>g'=g3/\ys.length<=i/\(∃z w,bZ=[some (.int key),some (.int r3),some (.ref w0),z,w])/\ys=((((List.range i).map λ(n:Nat)=>(n:Int)).filter λs=>decide (s=r3)||ms.any λm=>m==s).map D.int),⟨rfl,by simp,⟨none,none,?_⟩,rfl⟩,λi ys U g' p=>p.2.1,λi ys bZ g' hi p=>?_,λys bZ g' p=>?_⟩)
  ·simp[E3,Eu,Lp,t5,List.replicate]
  ·obtain⟨rfl,hl,⟨z,w,rfl⟩,e⟩:=p;have er:(List.range (i+1)).map (λ(n:Nat)=>(n:Int))=(List.range i).map (λ(n:Nat)=>(n:Int))++[(i:Int)]:=by rw[fV];simp
   have yes:(decide ((i:Int)=r3)||ms.any λm=>m==(i:Int))=true->bo (b8 T (k+1)) (.var 4) [some (.int key),some (.int r3),some (.ref w0),z,some (.int i)] g' (λy g4=>g4=g'/\(ys++[y]).length<=i+1/\(∃z' w',[some (.int key),some (.int r3),some (.ref w0),z,some (D.int i)]=[some (.int key),some (.int r3),some (.ref w0),z',w'])/\(ys++[y])=((((List.range (i+1)).map λ(n:Nat)=>(n:Int)).filter λs=>decide (s=r3)||ms.any λm=>m==s).map D.int)) ik:=λhc=>by
    left;refine⟨rfl,by simp;omega,⟨_,_,rfl⟩,?_⟩;rw[er,dQ,cT,<- e];simp[hc]
   left;refine if2 (λc1=>?_) (λc1=>?_)
   ·refine lp ?_;exact yes (by rw[aw c1];rfl)
   ·left;refine CP e3 (k:=.inl key) rfl ?_;rw[em];refine vY (Cb ?_);left;cases hc:(ms.any λm=>m==(i:Int)) with
    |true =>
     refine lp ?_;exact yes (by rw[hc];simp)
    |false =>
     refine pA ?_;refine⟨rfl,by omega,⟨_,_,rfl⟩,?_⟩;rw[er,dQ,cT,<- e];simp[hc,c1]
  ·obtain⟨rfl,hl,_,e⟩:=p;subst e;refine Pn (a7 b7) ?_;obtain⟨f1,f2⟩:=XF λs=>decide (s=r3)||ms.any λm=>m==s
   refine w_var t5 (w_var Eu ?_);refine vM (n9 e3) (k:=.inl key) rfl () ?_;refine h _ _ _ (get_set (n9 e3)) (W.put f1 f2) (a19 _ _ _) ((D3.snoc _).C1 hd) (λi h1 h2 h3=>?_) ?_
   ·rw[ax (cw h2),aK (ay h3 (G2.trans G3).len)];exact(G2.trans G3).old i h1 h3
   ·have:=(G2.trans G3).len;simp;omega
 ·refine C3 ?_;have e2:=G2.at () hw;have:=h mf kvs g2 e2 W () D2 (λi h1 h2 h3=>G2.old i h1 h3) G2.len
  rwa [List.Xd Oj] at this
end
section
variable{T:Nat->Option ba}{d:Nat}
def P8:MS:=match K7.body with
 |.seq _ (.seq _ (.seq _ (.seq _ (.seq _ (.seq _ (.seq _ (.seq _ (.seq (.dC _ _ b) _))))))))=>b
 |x=>x
structure jh(d s0 w0 f0 i:Nat)(g:G)(f y:Int):Prop where
 EB:∃l,g[s0]?=some (.lst l)/\CD l f/\l.length<=i
 fr:1<=f/\f<=1+i
 Lg:∃kvs,g[w0]?=some (.cY kvs)/\oA kvs/\kvs.length<=2*i
 found:∃cs:List b0,g[f0]?=some (.lst (cs.map b0.d))/\cs.length=i/\∀c∈cs,jy c
 year:0<=y/\y<=9999
 dr:f9 g d
theorem Zy{s0 w0 f0 n0:Nat}{n y st wr sh:Int}{wC Lf Le Ld zb za:Option D}(h4:T 4=some E1)(vf:T 23=some J5)(S:jh d s0 w0 f0 i g f y)(hi:i<=100)(hv:1<=v/\v<=100)(fN:1<=st/\st<=96)(jM:0<wr/\wr<1000)(jR:0<=sh/\sh<=2)(o1:d<n0)(o2:n0<=s0)(o3:s0<w0)(o4:w0<f0)(h:∀f' y' tM nB mf tL tK g',jh d s0 w0 f0 (i+1) g' f' y'->(∀j,j≠d->j<n0->g'[j]?=g[j]?)->g.length<=g'.length->N.nx [some (.ref d),some (.int n),some (.int v),some (.ref s0),some (.int f'),some (.ref w0),some (.int y'),some (.int st),some (.int wr),some (.int sh),some (.ref f0),wC,tM,nB,mf,tL,tK] g') :
  wpS (b8 T (k+2)) P8 N [some (.ref d),some (.int n),some (.int v),some (.ref s0),some (.int f),some (.ref w0),some (.int y),some (.int st),some (.int wr),some (.int sh),some (.ref f0),wC,Lf,Le,Ld,zb,za] g E:=by
 obtain⟨⟨l,es,hs,hl⟩,⟨f1,f2⟩,⟨kvs,ew,W,hk⟩,⟨cs,ef,hc,hg⟩,⟨y0,y1⟩,D0⟩:=S;have lf:=j9 ef;dsimp[P8,K7];left;refine Yn h4 vf es () hs f1 () D0 λl1 f' g1 eZ jE Fi f3 f5 gL D1 nT gJ=>?_;have Gi:g1[w0]?=some (.cY kvs):=(nT w0 () () (j9 ew)).trans ew;have Gp:g1[f0]?=some (.lst (cs.map b0.d)):=(nT f0 () () lf).trans ef;left;have gf:0<l1.length:=Eg.mpr eZ;refine d8 (n:=(l1.length:Int)) h4 D1 () () λr2 g2 iB iA D2 G2=>?_;have ot:=G2.at () gL;have Gh:=G2.at () Gi;have Gn:=G2.at () Gp;obtain⟨x,hx,hm⟩:=K5 (l:=l1) iB iA;obtain⟨ns,rfl,qe⟩:=id Fi;obtain⟨k1,lx,rfl⟩:=aU.mp hm;refine m8 (a7 ot) hx ?_;left;refine d8 (n:=2+v) h4 D2 () () λr3 g3 iN iZ D3 G3=>?_;have AW:=G3.at () ot;have Gg:=G3.at () Gh;have AY:=G3.at () Gn;left;have kb1:=qe k1 lx;have uh:∀j,j≠d->j<n0->g3[j]?=g[j]?:=λj a b=>by
  have lj:j<g.length:=by omega
  rw[G3.old j a (by have:=G2.len;(clear hi hv fN jM jR o1 hl f1 f2 hk hc y0 y1 f3 f5 iB jE gf iA iN iZ kb1 a lj;omega)),G2.old j a (),nT j a () lj]
 have iC:g.length<=g3.length:=by have:=G2.len;have:=G3.len;(clear hi hv fN jM jR o1 o2 o3 o4 hl f1 f2 hk hc y0 y1 lf f3 f5 iB jE gf iA iN iZ kb1;omega)
 refine w9 (a8 T _) (uJ (a8 T _) ?_);left;refine ⟨_,rfl,_,λj U g'=>∃ jv nB mf,U=[some (.ref d),some (.int n),some (.int v),some (.ref s0),some (.int f'),some (.ref w0),some (.int y),some (.int st),some (.int wr),some (.int sh),some (.ref f0),wC,some (.tup [.int k1,.int (50 + r3)]),nB,mf,zb,za]/\g'[w0]?=some (.cY jv)/\oA jv/\jv.length <= 2 * i + j/\f9 g' d/\(∀ j,j ≠ d->j ≠ w0->j < g3.length->g'[j]?=g3[j]?)/\g3.length <= g'.length,
  λ_ _ _ _=>n8,⟨kvs,_,_,rfl,Gg,W,by omega,D3,λ_ _ _ _=>rfl,ai _⟩,λj x U g' hx p=>?_,λU g' p=>?_⟩
 ·obtain⟨jv,nB,mf,rfl,NZ,W',nI,D',zw,uy⟩:=p;have fX:∃key:Int,x=.int key/\j<2:=by
   match j,hx with
   |0,hx=>cases hx;exact⟨_,rfl,by decide⟩
   |1,hx=>cases hx;exact⟨_,rfl,by decide⟩
   |j+2,hx=>simp at hx
  obtain⟨key,rfl,hj⟩:=fX;show wpS _ _ _ _ _ _;refine ZP (k:=k+1) h4 NZ W' (by(clear hv fN jM jR o1 o2 o3 o4 hl f1 f2 hk y0 y1 lf f3 f5 gJ iB jE gf iA iN iZ kb1 iC uy;omega)) jM.1 jM.2 () D' rfl rfl rfl rfl rfl λz zD g2' e2 W2 kr D2' pU ux=>?_;exact⟨zD,_,_,rfl,e2,W2,by(clear hi hv fN jM jR o1 o2 o3 o4 hl f1 f2 hk y0 y1 lf f3 f5 gJ iB jE gf iA iN iZ kb1 iC uy hj ux;omega),D2',λj a b c=>(pU j a b ()).trans (zw j a b c),by(clear hi hv fN jM jR o1 o2 o3 o4 hl f1 f2 hk hc y0 y1 lf f3 f5 gJ iB jE gf iA iN iZ kb1 iC nI hj kr;omega)⟩
 obtain⟨uC,nB,mf,rfl,NY,W4,jf,D4,nS,jt⟩:=p;have Od:g'[s0]?=some (.lst (ns.map D.int)):=(nS s0 () () (j9 AW)).trans AW;have Og:g'[f0]?=some (.lst (cs.map b0.d)):=(nS f0 () () (j9 AY)).trans AY;have ug:∀j,j≠d->j<n0->g'[j]?=g[j]?:=λj a b=>(nS j a () (by(clear hi hv fN jM jR o1 hl f1 f2 hk hc y0 y1 f3 f5 gJ iB jE gf iA iN iZ kb1 jf jt a;omega))).trans (uh j a b);clear nS uh G2 G3 gL Gi Gp ot Gh Gn AW Gg AY nT;have jf:uC.length<=2*(i+1):=by omega
 show wpS _ _ _ _ _ _;left;refine d8 h4 D4 ∅ ∅ λr5 g5 kQ kP D5 G5=>?_;left;have tail:∀(y':Int) (g6:G),0<=y'->y'<=9999->f9 g6 d->Gr d g' g6->wpS (b8 T (k+2)) (j7 (j7 (j7 (j7 P8)))) N [some (.ref d),some (.int n),some (.int v),some (.ref s0),some (.int f'),some (.ref w0),some (.int y'),some (.int st),some (.int wr),some (.int sh),some (.ref f0),wC,some (.tup [.int k1,.int (50+r3)]),nB,mf,zb,za] g6 E:=by
  intro y' g6 mj mh D6 G6;have Oc:=G6.at () Od;have NX:=G6.at () NY;have xA:=G6.at () Og;dsimp[P8,K7,j7];left;refine Zh (a8 T _) ?_;left;refine⟨_,rfl,by simp,λj ys U g7=>g7=g6/\(∃z w,U=[some (.int sh),some (.int st),z,w])/\ys=([k1,50+r3].take j).map (λkey=>D.int (1+sh+key*st % 97)),⟨rfl,⟨none,none,rfl⟩,rfl⟩,λj ys U g7 p=>?_,λj x ys U g7 hx p=>?_,λys U g7 p=>?_⟩
  ·obtain⟨rfl,_,rfl⟩:=p;simp;omega
  ·obtain⟨rfl,⟨z,w,rfl⟩,rfl⟩:=p;have fX:∃key:Int,x=.int key/\([k1,50+r3].take j).map (λkey=>D.int (1+sh+key*st % 97))++[D.int (1+sh+key*st % 97)]=([k1,50+r3].take (j+1)).map (λkey=>D.int (1+sh+key*st % 97)):=by
    match j,hx with
    |0,hx=>cases hx;exact⟨_,rfl,rfl⟩
    |1,hx=>cases hx;exact⟨_,rfl,rfl⟩
    |j+2,hx=>simp at hx
   obtain⟨key,rfl,he⟩:=fX;show et _ _ _ _ _ _;left;refine R0 (Z1 () ()) ?_;left;exact⟨rfl,⟨_,_,rfl⟩,he⟩
  obtain⟨rfl,_,rfl⟩:=p;have eN:(g7++[O.lst [D.int (1+sh+k1*st % 97),D.int (1+sh+(50+r3)*st % 97)]])[g7.length]?=some (.lst [D.int (1+sh+k1*st % 97),D.int (1+sh+(50+r3)*st % 97)]):=b7;show wpS _ _ _ _ (g7++[O.lst [D.int (1+sh+k1*st % 97),D.int (1+sh+(50+r3)*st % 97)]]) _;left;refine d8 h4 (D6.snoc _) ∅ ∅ λr8 g8 mK mJ D8 G8=>?_;have l7:=D6.lt;have eN8:=G8.at () eN;have Ob:=G8.at () (n9 Oc);have AV:=G8.at () (n9 NX);have Gm:=G8.at () (n9 xA);left;refine R0 (Dr () ()) ?_;left;obtain⟨lm,el,gl,ll⟩:=W4.get (.inl k1);obtain⟨um,eu,gu,lu⟩:=W4.get (.inl (50+r3));refine CP AV (k:=.inl k1) rfl ?_;rw[el];left;refine CP AV (k:=.inl (50+r3)) rfl ?_;rw[eu];left;refine K2 Gm (by simp;omega) ?_;generalize jD:y'*(if decide (0<r8)=true then 1 else 0)=ty;have lL:0<=ty/\ty<=9999:=by
   rw[<- jD];split<;>simp<;>omega
  left;refine h f' y' _ _ _ _ _ _ ⟨⟨_,c7 Ob (),Fi,by(clear hi hv fN jM jR o1 o2 o3 o4 f1 f2 hk y0 y1 lf f3 f5 gJ iB gf iA iN iZ kb1 iC jt jf kQ kP mj mh mK mJ l7 ll lu jD lL;omega)⟩,⟨by omega,by(clear hi hv fN jM jR o1 o2 o3 o4 hl f1 hk y0 y1 lf gJ iB jE gf iA iN iZ kb1 iC jt jf kQ kP mj mh mK mJ l7 ll lu jD lL;omega)⟩,⟨uC,c7 AV (),W4,jf⟩,⟨cs++[⟨1+sh+k1*st % 97,lm,1+sh+(50+r3)*st % 97,um,ty⟩],?_,by simp[hc],?_⟩,⟨mj,mh⟩,D8.C1 ()⟩ (λj a b=>?_) ?_
  ·rw[get_set Gm];simp[b0.d]
  ·intro c jj;rcases aO.mp jj with z|z
   ·exact hg c z
   ·simp at z;subst z;have m1:=eW (k1*st) (show(97:Int)≠0 by decide);have m2:=dR (k1*st) (show(0:Int)<97 by decide);have m3:=eW ((50+r3)*st) (show(97:Int)≠0 by decide);have m4:=dR ((50+r3)*st) (show(0:Int)<97 by decide);exact jy.mk' (by(clear hi hv fN jM o1 o2 o3 o4 hl f1 f2 hk hc y0 y1 lf f3 f5 gJ iB jE gf iA iN iZ kb1 iC jt jf kQ kP mj mh mK mJ l7 ll lu jD lL m2 m3 m4;omega)) (by(clear hi hv fN jM o1 o2 o3 o4 hl f1 f2 hk hc y0 y1 lf f3 f5 gJ iB jE gf iA iN iZ kb1 iC jt jf kQ kP mj mh mK mJ l7 ll lu jD lL m2 m3 m4;omega)) (by(clear hi hv fN jM o1 o2 o3 o4 hl f1 f2 hk hc y0 y1 lf f3 f5 gJ iB jE gf iA iN iZ kb1 iC jt jf kQ kP mj mh mK mJ l7 ll lu jD lL m1 m2 m4;omega)) (by(clear hi hv fN jM o1 o2 o3 o4 hl f1 f2 hk hc y0 y1 lf f3 f5 gJ iB jE gf iA iN iZ kb1 iC jt jf kQ kP mj mh mK mJ l7 ll lu jD lL m1 m2 m4;omega)) lL.1 lL.2 gl gu ll lu
  ·have lj:j<g'.length:=by(clear hi hv fN jM jR o1 hl f1 f2 hk hc y0 y1 f3 f5 gJ iB jE gf iA iN iZ kb1 jf kQ kP mj mh mK mJ l7 ll lu jD lL a;omega)
   rw[ax (by(clear hi hv fN jM jR o1 hl f1 f2 hk hc y0 y1 lf f3 f5 gJ iB jE gf iA iN iZ kb1 iC jt jf kQ kP mj mh mK mJ l7 ll lu jD lL a lj;omega)),G8.old j a (by have:=G6.len;simp;(clear hi hv fN jM jR o1 o2 o3 o4 hl f1 f2 hk hc y0 y1 lf f3 f5 gJ iB jE gf iA iN iZ kb1 iC jt jf kQ kP mj mh mK mJ l7 ll lu jD lL a b;omega)),aK (by have:=G6.len;(clear hi hv fN jM jR o1 o2 o3 o4 hl f1 f2 hk hc y0 y1 lf f3 f5 gJ iB jE gf iA iN iZ kb1 iC jt jf kQ kP mj mh mK mJ l7 ll lu jD lL a b;omega)),G6.old j a lj];exact ug j a b
  ·have:=G6.len;have:=G8.len;simp at this ⊢
   (clear hi hv fN jM jR o1 o2 o3 o4 hl f1 f2 hk hc y0 y1 lf f3 f5 gJ iB jE gf iA iN iZ kb1 jf kQ kP mj mh mK mJ l7 ll lu jD lL;omega)
 refine if2 (λc=>?_) (λc=>?_)
 ·left;refine d8 h4 D5 ∅ ∅ λr6 g6 EH EG D6 G6=>?_;left;generalize Mm:(if y+1+r6<9999 then y+1+r6 else 9999)=y';have:0<=y'/\y'<=9999:=by rw[<- Mm];split<;>omega
  exact tail y' g6 this.1 this.2 D6 (G5.trans G6)
 ·refine C3 ?_;exact tail y g5 y0 y1 D5 G5
theorem Yp(h4:T 4=some E1)(vf:T 23=some J5)(NC:T 24=some K7){n:Int}(hn:0<=n/\n<=100)(hv:1<=v/\v<=100)(D0:f9 g d)(h:∀(cs:List b0) a g',(cs.length:Int)=n->(∀c∈cs,jy c)->g'[a]?=some (.lst (cs.map b0.d))->g.length<=a->f9 g' d->Gr d g g'->Q (.ref a) g'):b8 T (k+3) 24 [.ref d,.int n,.int v] g Q E:=by
 refine call_of NC rfl ?_;dsimp[K7,c8,List.replicate];have dl:=D0.lt;left;have D1:f9 (g++[O.lst []]++[O.cY []]++[O.lst [.int 0,.int 1,.int 1350]]) d:=((D0.snoc _).snoc _).snoc _;have G1:Gr d g (g++[O.lst []]++[O.cY []]++[O.lst [.int 0,.int 1,.int 1350]]):=((Gr.snoc _ _ _).trans (Gr.snoc _ _ _)).trans (Gr.snoc _ _ _);have e0:(g++[O.lst []]++[O.cY []]++[O.lst [.int 0,.int 1,.int 1350]])[g.length]?=some (.lst []):=n9 (n9 b7);have e1:(g++[O.lst []]++[O.cY []]++[O.lst [.int 0,.int 1,.int 1350]])[(g++[O.lst []]).length]?=some (.cY []):=n9 b7;have e2:(g++[O.lst []]++[O.cY []]++[O.lst [.int 0,.int 1,.int 1350]])[(g++[O.lst []]++[O.cY []]).length]?=some (.lst [.int 0,.int 1,.int 1350]):=b7;have n1:(g++[O.lst []]).length=g.length+1:=by simp
 have n2:(g++[O.lst []]++[O.cY []]).length=g.length+2:=by simp
 rw[n1] at e1 ⊢;refine d8 h4 D1 ∅ ∅ λr2 g2 iB iA D2 G2=>?_;have Oq:=G2.at () e0;have qO:=G2.at () e1;have Oi:=G2.at () e2;obtain⟨x,hx,hm⟩:=K5 (l:=[D.int 0,.int 1,.int 1350]) iB (by simpa using iA);have hy:∃y:Int,x=.int y/\0<=y/\y<=9999:=by
  simp only[List.mem_cons,List.mem_nil_iff,or_false] at hm;rcases hm with rfl|rfl|rfl<;>exact⟨_,rfl,by decide,by decide⟩
 obtain⟨y,rfl,y0,y1⟩:=hy;refine m8 (a7 Oi) hx ?_;left;refine d8 h4 D2 ∅ ∅ λr3 g3 iN iZ D3 G3=>?_;left;refine d8 h4 D3 ∅ ∅ λr4 g4 pQ rG D4 G4=>?_;left;refine d8 h4 D4 ∅ ∅ λr5 g5 kQ kP D5 G5=>?_;have yP:=G3.trans (G4.trans G5);have Oo:=yP.at () Oq;have Gq:=yP.at () qO;have l5:=(G1.trans (G2.trans yP)).len;have lw:=j9 Gq;left;generalize jR:(if r5-6>0 then r5-6 else 0)=sh;have EA:0<=sh/\sh<=2:=by rw[<- jR];split<;>omega
 have xC:(g5++[O.lst []])[g5.length]?=some (.lst []):=b7;refine w9 (a8 T _) (N4 (a8 T _) ?_);left;refine ⟨by omega,by omega,i8 0 n.toNat,λi U g'=>∃ f' y' yX tM nB mf tL tK,U=[some (.ref d),some (.int n),some (.int v),some (.ref g.length),some (.int f'),some (.ref (g.length + 1)),some (.int y'),some (.int (1 + r3)),some (.int (2 + r4)),some (.int sh),some (.ref g5.length),yX,tM,nB,mf,tL,tK]/\jh d g.length (g.length + 1) g5.length i g' f' y'/\Gr d g g',
  λ_ _ _ _=>n8,⟨1,y,none,none,none,none,none,none,rfl,⟨⟨[],n9 Oo,⟨[],rfl,by simp⟩,by simp⟩,⟨by omega,by omega⟩,⟨[],n9 Gq,(λk v hv=>by cases hv),by simp⟩,⟨[],xC,rfl,by simp⟩,⟨y0,y1⟩,D5.snoc _⟩,(G1.trans (G2.trans yP)).trans (Gr.snoc _ _ _)⟩,λi x U g' hx p=>?_,λU g' p=>?_⟩
 ·obtain⟨f',y',yX,tM,nB,mf,tL,tK,rfl,S,G'⟩:=p;obtain⟨hi,rfl⟩:=s9 hx;refine Zy (n0:=g.length) h4 vf S () hv ⟨by omega,by omega⟩ ⟨by omega,by omega⟩ EA dl (ai _) () () λf2 y2 a b c e f g2 S2 pU ux=>?_;exact⟨f2,y2,_,_,_,_,_,_,rfl,S2,⟨by have:=G'.len;(clear hn hv dl iB iA y0 y1 iN iZ pQ rG kQ kP l5 lw jR EA hi;omega),λj h1 h2=>(pU j h1 h2).trans (G'.old j h1 h2)⟩⟩
 ·obtain⟨f',y',yX,tM,nB,mf,tL,tK,rfl,S,G'⟩:=p;left;obtain⟨cs,ef,hc,hg⟩:=S.found;rw[i6] at hc;exact h cs _ _ () hg ef () S.dr G'
end
def yp:ba:=⟨2,8,(.seq (.set 2 (bQ .kl (aY 1) (bQ (.bin .Add) (bQ (.bin .Add) (bQ (.bin .FloorDiv) bh (aY 2)) (bQ (.bin .Mod) bh (aY 2))) (aY 1)))) (.seq (.set 3 (bQ (.bin .Add) br (bQ (.rD false true) (.call 21 (du aI br)) (bQ (.bin .FloorDiv) bh (aY 2))))) (.seq (.set 4 (.call 4 (du aI (aY 3)))) (.seq (.set 5 (.prim .lst .nil)) (.seq (.dC (.one 6) (.dW bh) (.seq (.set 7 (cK (.prim .lst (gH (bQ (.bin .Add) (aY 1000) eG) (aY 0) (bQ (.bin .Add) (aY 1) (bQ (.bin .FloorDiv) (bQ (.bin .Mult) (aY 2) eG) (bQ .max (aY 1) bh))))) cF)) (.seq (.expr (.eE .append dU (fg (.prim .tup (rz (cK bH eG) (.prim .tup .nil) (bQ (.bin .Add) (aY 1) (.call 4 (du aI (aY 9)))) (.prim .tup .nil) fM))))) .pass))) (.seq (.ret dU) .pass))))))⟩
def Q7:ba:=⟨2,9,(.seq (.set 2 (.call 4 (du aI (bQ (.bin .Add) bh (aY 1))))) (.seq (.set 3 (bQ (.bin .Add) (aY 1) (.call 4 (du aI (aY 3))))) (.seq (.set 4 (.call 4 (du aI (aY 5)))) (.seq (.ifs (dY .Eq cF (aY 0)) (.seq (.ret (bQ .tup (.comp [0] 3 (.one 2) (.dW br) .no (.call 22 (fg aI))) bH)) .pass) .pass) (.seq (.ifs (dY .Eq cF (aY 4)) (.seq (.set 3 (bQ (.bin .Add) (aY 1) (.call 4 (du aI (aY 6))))) .pass) .pass) (.seq (.set 5 (.ite (dY .Eq cF (aY 4)) (.call 25 (du aI br)) (.call 24 (gH aI br bH)))) (.seq (.set 5 (.comp [5] 3 (.one 2) (.fc (.call 21 (du aI (dB .jb br)))) .no (cK aI br))) (.seq (.ifs (.dE (dY .Eq cF (aY 1)) (dY .Gt br (aY 0))) (.seq (.set 6 (.call 4 (du aI br))) (.seq (.set 7 (cK dU eG)) (.seq (.set 8 (cK dU (.call 4 (du aI br)))) (.seq (.dS dU eG (.prim .tup (rz (cK fM (aY 0)) (cK km (aY 1)) (cK km (aY 2)) (cK fM (aY 3)) (cK (.prim .lst (gH (cK fM (aY 4)) (cK km (aY 4)) (aY 9999))) (.call 4 (du aI (aY 3))))))) .pass)))) .pass) (.seq (.ifs (dY .Eq cF (aY 2)) (.seq (.set 3 (aY 1)) .pass) .pass) (.seq (.ret (bQ .tup dU bH)) .pass))))))))))⟩
theorem Jb{p:Int->Prop}:∀{l:List D},(∀x∈l,∃i:Int,x=.int i/\p i)->∃ns:List Int,l=ns.map .int/\∀i∈ns,p i
 |[],_=>⟨[],rfl,by simp⟩
 |x::r,h=>by
  obtain⟨i,rfl,hi⟩:=h x (by simp);obtain⟨ns,rfl,hn⟩:=Jb (l:=r) λy hy=>h y (by simp[hy]);exact⟨i::ns,rfl,λj hj=>(aG.mp hj).elim (λz=>z▸hi) (hn j)⟩
theorem Jn{lo:Int}(h:x∈i8 lo n):∃i:Int,x=.int i/\lo<=i/\i<lo+n:=by
 obtain⟨k,hk,rfl⟩:=aU.mp h;exact⟨_,rfl,by omega,by have:=aT.mp hk;omega⟩
theorem PJ{l:List α}(h:n<=l.length):cut l none (some (n:Int))=l.take n:=by
 have:¬((n:Int)<0):=by omega
 unfold cut HT.ke;simp[this]
theorem Sn{r:Int}(h0:0<=r)(h1:r<ns.length):∃i∈ns,gk (ns.map D.int) r=some (.int i):=by
 obtain⟨v,hv,hm⟩:=K5 (l:=ns.map D.int) h0 (by simpa using h1);obtain⟨i,hi,rfl⟩:=aU.mp hm;exact⟨i,hi,hv⟩
theorem BN{r:Int}(h0:0<=r)(h1:r<cs.length):∃c∈cs,gk (cs.map b0.d) r=some c.d:=by
 obtain⟨v,hv,hm⟩:=K5 (l:=cs.map b0.d) h0 (by simpa using h1);obtain⟨i,hi,rfl⟩:=aU.mp hm;exact⟨i,hi,hv⟩
section
variable{T:Nat->Option ba}{d:Nat}
theorem X'(h4:T 4=some E1)(Ay:T 21=some S4)(NB:T 25=some yp){n:Int}(hn:0<=n/\n<=100)(D0:f9 g d)(h:∀(cs:List b0) a g',(cs.length:Int)=n->(∀c∈cs,jy c)->g'[a]?=some (.lst (cs.map b0.d))->g.length<=a->f9 g' d->Gr d g g'->Q (.ref a) g'):b8 T (k+3) 25 [.ref d,.int n] g Q E:=by
 refine call_of NB rfl ?_;dsimp[yp,c8,List.replicate];have dl:=D0.lt;left;refine LY (i:=1) (j:=n / 2+n % 2+1) () ?_;left;have hh:∃hf:Nat,(n / 2+n % 2+1-1).toNat=hf/\(hf:Int)=n / 2+n % 2/\hf<=50:=⟨_,rfl,by omega,by omega⟩
 obtain⟨hf,Af,Fy,nY⟩:=hh;rw[Af];have e1:(g++[O.lst (i8 1 hf)])[g.length]?=some (.lst (i8 1 hf)):=b7;refine V4 h4 Ay e1 (by rw[i6];omega) () (D0.snoc _) λl' b g2 hp e2 hb D2 G2=>?_;have qO:=G2.at () e1;left;refine IL (a7 e2) ?_;have hle:l'.length=hf:=by rw[hp.length_eq,i6]
 have hc:cut l' none (some (n / 2))=l'.take (n / 2).toNat:=by
  have:=PJ (l:=l') (n:=(n / 2).toNat) ()
  rwa [show(((n / 2).toNat:Nat):Int)=n / 2 by omega] at this
 rw[hc];refine CK (n9 qO) b7 (by rw[i6,eL];omega) ?_;obtain⟨rl,er,hr⟩:=Jb (p:=λi=>1<=i/\i<=50) (l:=i8 1 hf++l'.take (n / 2).toNat) λx hx=>by
  have wZ:x∈i8 1 hf:=by
   rcases aO.mp hx with z|z
   ·exact z
   ·exact hp.mem_iff.mp (dy z)
  obtain⟨i,rfl,h1,h2⟩:=Jn wZ;exact⟨i,rfl,h1,by omega⟩
 have hrl:(rl.length:Int)=n:=by
  have:=gp List.length er;rw[bE,i6,eL,ak] at this;omega
 rw[er];have D3:=(D2.snoc (.lst (l'.take (n / 2).toNat))).snoc (.lst (rl.map D.int));have G3:=(Gr.snoc d g (.lst (i8 1 hf))).trans (G2.trans ((Gr.snoc d g2 (.lst (l'.take (n / 2).toNat))).trans (Gr.snoc d _ (.lst (rl.map D.int)))));have e3:(g2++[O.lst (l'.take (n / 2).toNat)]++[O.lst (rl.map D.int)])[(g2++[O.lst (l'.take (n / 2).toNat)]).length]?=some (.lst (rl.map D.int)):=b7;have l3:g.length+1<=(g2++[O.lst (l'.take (n / 2).toNat)]).length:=by have:=G2.len;simp at this ⊢;omega
 generalize (g2++[O.lst (l'.take (n / 2).toNat)]).length=ED at *;left;refine d8 h4 D3 ∅ ∅ λr4 g4 pQ rG D4 G4=>?_;have e4:=G4.at () e3;left;have KJ:=G3.trans G4;have l4:=KJ.len;have e5:(g4++[O.lst []])[g4.length]?=some (.lst ([].map b0.d)):=b7;have EX:=j9 e4;refine w9 (a8 T _) (N4 (a8 T _) ?_);left;refine ⟨by omega,by omega,i8 0 n.toNat,λi U g'=>∃ cs z6 z7,U=[some (.ref d),some (.int n),some (.ref g.length),some (.ref ED),some (.int r4),some (.ref g4.length),z6,z7]/\cs.length=i/\(∀ c ∈ cs,jy c)/\g'[g4.length]?=some (.lst (cs.map b0.d))/\g'[ED]?=some (.lst (rl.map D.int))/\f9 g' d/\Gr d g g',
  λ_ _ _ _=>n8,⟨[],none,none,rfl,rfl,by simp,e5,n9 e4,D4.snoc _,KJ.trans (Gr.snoc _ _ _)⟩,λi x U g' hx p=>?_,λU g' p=>?_⟩
 ·obtain⟨cs,z6,z7,rfl,hc,hg,ef,erw,D',G'⟩:=p;obtain⟨hi,rfl⟩:=s9 hx;left;refine R0 (Dr ∅ ∅) ?_;left;refine xG ⟨by split<;>omega,by split<;>omega⟩ ?_;left;obtain⟨yv,hy,zH⟩:∃yv:Int,gk [D.int (1000+(0+(i:Int))),D.int 0,D.int (1+2*(0+(i:Int)) / (if n>1 then n else 1))] r4=some (.int yv)/\0<=yv/\yv<=9999:=by
   have dv0:0<=2*(0+(i:Int)) / (if n>1 then n else 1):=Int.ediv_nonneg () (by split<;>omega);have dv1:2*(0+(i:Int)) / (if n>1 then n else 1)<=2*(0+(i:Int)):=Int.ediv_le_self _ ();have:r4=0\/r4=1\/r4=2:=by omega
   rcases this with rfl|rfl|rfl
   ·exact⟨_,rfl,by omega,by(clear dl Af nY hb l3 l4 EX hc pQ rG;omega)⟩
   ·exact⟨_,rfl,by omega,by omega⟩
   ·exact⟨_,rfl,by omega,by omega⟩
  refine m8 (a7 b7) hy ?_;left;obtain⟨lo,uP,zW⟩:=Sn (ns:=rl) (r:=0+(i:Int)) () (by(clear hn dl Af nY hb l3 pQ rG l4 EX zH;omega));refine And.intro (Dy (n9 ef)) ?_;left;refine m8 (a7 (n9 erw)) zW ?_;left;refine d8 h4 (D'.snoc _) ∅ ∅ λr6 g6 EH EG D6 G6=>?_;have xA:=G6.at () (n9 ef);have Oe:=G6.at () (n9 erw);left;refine K2 xA (by simp;omega) ?_;have hlb:=hr lo uP;refine⟨cs++[⟨lo,[],1+r6,[],yv⟩],_,_,rfl,by simp[hc],?_,?_,c7 Oe (),D6.C1 (),(G'.trans ((Gr.snoc _ _ _).trans G6)).C1 ()⟩
  ·intro c jj;rcases aO.mp jj with z|z
   ·exact hg c z
   ·simp at z;subst z;exact jy.mk' () () () () zH.1 zH.2 rfl rfl (by simp) (by simp)
  ·rw[get_set xA];simp[b0.d]
 ·obtain⟨cs,z6,z7,rfl,hc,hg,ef,erw,D',G'⟩:=p;left;rw[i6] at hc;exact h cs _ _ () hg ef () D' G'
end
section
variable{T:Nat->Option ba}{d:Nat}
structure LF(T:Nat->Option ba):Prop where
 pull:T 4=some E1
 order:T 21=some S4
 any:T 22=some yA
 pO:T 23=some J5
 pM:T 24=some K7
 opened:T 25=some yp
 list:T 26=some Q7
theorem YI(hT:LF T){n:Int}(hn:0<=n/\n<=99)(D0:f9 g d)(h:∀(cs:List b0) a (v:Int) g',(cs.length:Int)<=n->(∀c∈cs,jy c)->g'[a]?=some (.lst (cs.map b0.d))->g.length<=a->1<=v->v<=6->f9 g' d->Gr d g g'->Q (.tup [.ref a,.int v]) g'):b8 T (k+4) 26 [.ref d,.int n] g Q E:=by
 refine call_of hT.list rfl ?_;dsimp[Q7,c8,List.replicate];have dl:=D0.lt;left;refine d8 (n:=n+1) hT.pull D0 () () λm g1 m0 m1 D1 G1=>?_;left;refine d8 hT.pull D1 ∅ ∅ λr2 g2 iB iA D2 G2=>?_;left;refine d8 hT.pull D2 ∅ ∅ λway g3 w0 w1 D3 G3=>?_;have yQ:=G1.trans (G2.trans G3);have l3:=yQ.len;left;refine if2 (λc=>?_) (λc=>?_)
 ·left;refine E6 (a8 T _) (N4 (a8 T _) ?_);left;refine⟨by omega,by omega,i8 0 m.toNat,λi ys U g'=>∃cs z1 z2,ys=cs.map b0.d/\cs.length=i/\(∀c∈cs,jy c)/\U=[some (.ref d),z1,z2]/\f9 g' d/\Gr d g g',by rw[i6];omega,λi ys U g' p=>⟨n8,?_⟩,⟨[],none,none,rfl,rfl,by simp,rfl,D3,yQ⟩,λi x ys U g' hx p=>?_,λys U g' p=>?_⟩
  ·obtain⟨cs,z1,z2,rfl,hc,_⟩:=p;simp[hc]
  ·obtain⟨cs,z1,z2,rfl,hc,hg,rfl,D',G'⟩:=p;left;refine Zi hT.pull hT.any D' λc0 g4 gc D4 G4=>?_;refine⟨cs++[c0],_,_,by simp,by simp[hc],λc1 qm=>?_,rfl,D4,G'.trans G4⟩;rcases aO.mp qm with z|z
   ·exact hg c1 z
   ·simp at z;subst z;exact gc
  ·obtain⟨cs,z1,z2,rfl,hc,hg,rfl,D',G'⟩:=p;rw[i6] at hc;left;exact h cs _ _ _ () hg b7 G'.len () () (D'.snoc _) (G'.trans (Gr.snoc _ _ _))
 have tail:∀(v:Int) (g4:G),1<=v->v<=6->f9 g4 d->Gr d g g4->wpS (b8 T (k+3)) (j7 (j7 (j7 (j7 (j7 Q7.body))))) ⟨λ_ g'=>Q .bO g',Q,λ_ _=>False,λ_ _=>False⟩ [some (.ref d),some (.int n),some (.int m),some (.int v),some (.int way),none,none,none,none] g4 E:=by
  intro v g4 v0 v1 D4 G4;dsimp[Q7,j7];have after:∀(cs:List b0) a g5,(cs.length:Int)=m->(∀c∈cs,jy c)->g5[a]?=some (.lst (cs.map b0.d))->g4.length<=a->f9 g5 d->Gr d g4 g5->wpS (b8 T (k+3)) (j7 (j7 (j7 (j7 (j7 (j7 Q7.body)))))) ⟨λ_ g'=>Q .bO g',Q,λ_ _=>False,λ_ _=>False⟩ [some (.ref d),some (.int n),some (.int m),some (.int v),some (.int way),some (.ref a),none,none,none] g5 E:=by
   intro cs a g5 hc hg ea la D5 G5;have KI:=G4.trans G5;have l4:=G4.len;dsimp[Q7,j7];left;refine E6 (a8 T _) (kq (a8 T _) ?_);left;refine zA () () ?_;left;have e6:(g5++[O.lst (i8 0 m.toNat)])[g5.length]?=some (.lst (i8 0 m.toNat)):=b7;have l5:=D5.lt;refine V4 hT.pull hT.order e6 (by rw[i6];omega) () (D5.snoc _) λl' b g7 hp eb lb D7 G7=>?_;have Oh:=G7.at () (n9 ea);have zZ:l'.length=m.toNat:=by rw[hp.length_eq,i6]
   refine⟨b,l',rfl,a7 eb,l',λi ys U g'=>∃jT z1 z2,ys=jT.map b0.d/\jT.length=i/\(∀c∈jT,jy c)/\U=[some (.ref a),z1,z2]/\g'=g7,by omega,λi ys U g' p=>?_,⟨[],none,none,rfl,rfl,by simp,rfl,rfl⟩,λi x ys U g' hx p=>?_,λys U g' p=>?_⟩
   ·obtain⟨jT,z1,z2,rfl,jj,_,_,rfl⟩:=p;exact⟨n6 (a7 eb),by simp[jj]⟩
   ·obtain⟨jT,z1,z2,rfl,jj,nZ,rfl,rfl⟩:=p;obtain⟨j,rfl,j0,j1⟩:=Jn (hp.mem_iff.mp (aC hx));left;obtain⟨c0,xk,e0⟩:=BN (cs:=cs) j0 ();refine m8 (a7 Oh) e0 ?_;refine⟨jT++[c0],_,_,by simp,by simp[jj],λc1 qm=>?_,rfl,rfl⟩;rcases aO.mp qm with z|z
    ·exact nZ c1 z
    ·simp at z;subst z;exact hg c1 xk
   ·obtain⟨jT,z1,z2,rfl,jj,nZ,rfl,rfl⟩:=p;have e8:(g'++[O.lst (jT.map b0.d)])[g'.length]?=some (.lst (jT.map b0.d)):=b7;have D8:=D7.snoc (.lst (jT.map b0.d));have G8:=(KI.trans ((Gr.snoc d g5 (.lst (i8 0 m.toNat))).trans G7)).trans (Gr.snoc d g' (.lst (jT.map b0.d)));have l8:g.length<=g'.length:=(KI.trans ((Gr.snoc d g5 (.lst (i8 0 m.toNat))).trans G7)).len;have fin:∀(sD:List b0) z6 z7 z8 g9,(sD.length:Int)=m->(∀c∈sD,jy c)->g9[g'.length]?=some (.lst (sD.map b0.d))->f9 g9 d->Gr d g g9->wpS (b8 T (k+3)) (j7 (j7 (j7 (j7 (j7 (j7 (j7 (j7 Q7.body)))))))) ⟨λ_ g'=>Q .bO g',Q,λ_ _=>False,λ_ _=>False⟩ [some (.ref d),some (.int n),some (.int m),some (.int v),some (.int way),some (.ref g'.length),z6,z7,z8] g9 E:=by
     intro sD z6 z7 z8 g9 FK Fz e9 D9 G9;dsimp[Q7,j7];left;refine if2 (λc=>?_) (λc=>?_)
     ·left;exact h sD _ _ _ () Fz e9 l8 () () D9 G9
     ·left;exact h sD _ _ _ () Fz e9 l8 v0 v1 D9 G9
    have nH:(jT.length:Int)=m:=by omega
    have zC:=D7.lt;left;refine if2 (λc1=>?_) (λc1=>?_)
    ·left;refine if2 (λc2=>?_) (λc2=>?_)
     ·left;refine d8 (n:=m) hT.pull D8 c2 () λr g9 r0 r1 D9 G9=>?_;have e9:=G9.at () e8;obtain⟨c0,xk,e0⟩:=BN (cs:=jT) r0 (by(clear hn dl m0 m1 iB iA w0 w1 l3 c v0 v1 la l4 l5 lb zZ jj l8 zC c1 c2 r0;omega));left;refine m8 (a7 e9) e0 ?_;left;refine d8 (n:=m) hT.pull D9 c2 () λr' AQ zo LB KL KH=>?_;have nK:=KH.at () e9;obtain⟨c3,xj,e3⟩:=BN (cs:=jT) zo (by(clear hn dl m0 m1 iB iA w0 w1 l3 c v0 v1 la l4 l5 lb zZ jj l8 zC c1 c2 r0 r1 zo;omega));refine m8 (a7 nK) e3 ?_;dsimp only[b0.d];left;refine d8 hT.pull (KL.snoc _) ∅ ∅ λr'' g11 ub zm D11 DX=>?_;have Ma:=KL.lt;have Ol:=DX.at () (b7 (g:=AQ) (o:=.lst [.int c0.yr,.int c3.yr,.int 9999]));have vo:=DX.at () (n9 (o':=.lst [.int c0.yr,.int c3.yr,.int 9999]) nK);obtain⟨x,hx,hm⟩:=K5 (l:=[D.int c0.yr,.int c3.yr,.int 9999]) ub ();obtain⟨a1,a2,a3,a4,a5,a6⟩:=(nZ c0 xk).inv;obtain⟨b1,b2,b3,b4,b5,b6⟩:=(nZ c3 xj).inv;have hy:∃y:Int,x=.int y/\0<=y/\y<=9999:=by
       simp only[List.mem_cons,List.mem_nil_iff,or_false] at hm;rcases hm with rfl|rfl|rfl
       ·exact⟨_,rfl,a5,a6⟩
       ·exact⟨_,rfl,b5,b6⟩
       ·exact⟨_,rfl,by decide,by decide⟩
      obtain⟨y,rfl,y0,y1⟩:=hy;refine m8 (a7 Ol) hx ?_;left;have hj:kR (jT.map b0.d).length r=some r.toNat:=by
       unfold kR;rw[aJ r0,aJ (by rw[ak];(clear hn dl m0 m1 iB iA w0 w1 l3 c v0 v1 la l4 l5 lb zZ jj l8 zC c1 c2 r0 zo LB ub zm Ma a1 a3 a5 a6 b1 b3 b5 b6 y0 y1;omega))]
      refine Q1 vo hj ?_;have gr:jy ⟨c0.lo,c3.lm,c3.up,c0.um,y⟩:=jy.mk' a1.1 a1.2 b3.1 b3.2 y0 y1 b2 a4 (nZ c3 xj).l8 (nZ c0 xk).u8;refine fin (jT.set r.toNat ⟨c0.lo,c3.lm,c3.up,c0.um,y⟩) _ _ _ _ (by simp;omega) (λc4 MY=>?_) ?_ (D11.C1 ()) ((G8.trans (G9.trans (KH.trans ((Gr.snoc _ _ _).trans DX)))).C1 l8)
      ·rcases gF MY with z|z
       ·exact nZ c4 z
       ·rw[z];exact gr
      ·rw[get_set vo,List.map_set]
       rfl
     ·refine C3 ?_;exact fin jT _ _ _ _ nH nZ e8 D8 G8
    ·exact fin jT _ _ _ _ nH nZ e8 D8 G8
  left;refine if2 (λc=>?_) (λc=>?_)
  ·left;refine X' hT.pull hT.order hT.opened ⟨m0,by omega⟩ D4 λcs a g5 hc hg ea la D5 G5=>?_;exact after cs a g5 hc hg ea la D5 G5
  ·left;refine Yp hT.pull hT.pO hT.pM ⟨m0,by omega⟩ ⟨v0,by omega⟩ D4 λcs a g5 hc hg ea la D5 G5=>?_;exact after cs a g5 hc hg ea la D5 G5
 left;refine if2 (λc=>?_) (λc=>?_)
 ·left;refine d8 hT.pull D3 ∅ ∅ λr4 g4 pQ rG D4 G4=>?_;walk_at "w1";exact tail _ _ () () D4 (yQ.trans G4)
 ·refine C3 ?_;exact tail _ _ () () D3 yQ
end
def F6:ba:=⟨1,1,(.seq (.ifs (.eP (.fR (.call 1 (gH aI (aY 1) (aY 9))))) (.seq (.expr .no) .pass) .pass) .pass)⟩
def yt:ba:=⟨2,2,(.seq (.ret (dB .all (.comp [1] 3 (.one 2) (.fc aI) .no (bQ (.cmp .In) br aI)))) .pass)⟩
def Cu:ba:=⟨1,1,(.seq (.ifs (.eP (.fR (.call 12 (fg aI)))) (.seq (.expr .no) .pass) .pass) .pass)⟩
def V8:ba:=⟨1,2,(.seq (.ifs (dY .Gt (dB .len aI) (aY 9)) (.seq (.expr .no) .pass) .pass) (.seq (.dC (.one 1) (.fc aI) (.seq (.expr (.call 39 (fg bh))) .pass)) .pass))⟩
def Q8:ba:=⟨1,1,(.seq (.ifs (dY .NotIn aI (.lit (.tup [(.str "lower"),(.str "upper")]))) (.seq (.expr .no) .pass) .pass) .pass)⟩
def Cf:ba:=⟨1,1,(.seq (.expr (.call 40 (fg aI))) (.seq (.ret (bQ .nj (.lit (.tup [(.tup [(.str "lower"),(.int 0)]),(.tup [(.str "upper"),(.int 2)])])) aI)) .pass))⟩
noncomputable abbrev KN(T:Nat->Option ba):Prop:=T 18=some V8/\T 39=some Cu
noncomputable abbrev DZ(T:Nat->Option ba):Prop:=T 19=some Cf/\T 40=some Q8
def yD:ba:=⟨2,2,(.seq (.ret (bQ (.cmp .Eq) (dB .len (.comp [1] 3 (.one 2) (.fc aI) (dY .NotIn br aI) br)) (aY 0))) .pass)⟩
structure Ex(g g':G):Prop where
 len:g.length<=g'.length
 old:∀i,i<g.length->g'[i]?=g[i]?
theorem Ex.refl(g:G):Ex g g:=⟨ai _,λ_ _=>rfl⟩
theorem Ex.trans{g g1 g2:G}(a:Ex g g1)(b:Ex g1 g2):Ex g g2:=⟨aD a.len b.len,λi h=>(b.old i (ay h a.len)).trans (a.old i h)⟩
theorem Ex.snoc(g:G)(o:O):Ex g (g++[o]):=⟨by simp,λi h=>aK h⟩
theorem Ex.at(h:Ex g g')(e:g[i]?=some o):g'[i]?=some o:=(h.old i (j9 e)).trans e
theorem Ex.gr(h:Ex g g')(d:Nat):Gr d g g':=⟨h.len,λi _ h2=>h.old i h2⟩
theorem Ex.draw{d:Nat}(h:Ex g g')(D0:f9 g d):f9 g' d:=by
 obtain⟨s,p,b,r,xs,e1,e2,q⟩:=D0.ex;exact⟨s,p,b,r,xs,h.at e1,h.at e2,q⟩
inductive E4(g:G):Nat->D->D->Prop
 |bO {n:Nat}:E4 g n .bO .bO
 |bl {n:Nat} (b:Bool):E4 g n (.bl b) (.bl b)
 |int {n:Nat} (i:Int):E4 g n (.int i) (.int i)
 |str {n:Nat} (x:Str):E4 g n (.str x) (.str x)
 |tup {n:Nat} {l m:List D} (hl:l.length=m.length) (h:∀(i:Nat) x y,l[i]?=some x->m[i]?=some y->E4 g n x y) (hz:m.length<=1000):E4 g (n+1) (.tup l) (.tup m)
 |lst {n a b:Nat} {l m:List D} (ha:g[a]?=some (.lst l)) (hb:g[b]?=some (.lst m)) (hl:l.length=m.length) (h:∀(i:Nat) x y,l[i]?=some x->m[i]?=some y->E4 g n x y) (hz:m.length<=1000):E4 g (n+1) (.ref a) (.ref b)
theorem E4.ex(e:Ex g g'){y:D}(h:E4 g n x y):E4 g' n x y:=by
 induction h with
 |bO=>exact .bO
 |bl b=>exact .bl b
 |int i=>exact .int i
 |str x=>exact .str x
 |tup hl h hz ih=>exact .tup hl ih hz
 |lst ha hb hl h hz ih=>exact .lst (e.at ha) (e.at hb) hl ih hz
section
variable{T:Nat->Option ba}
theorem ID(h6:T 6=some vZ){i:Int}(h:Q (.bl true) g):b8 T (k+1) 6 [.int i] g Q E:=by
 refine call_of h6 rfl ?_;dsimp[vZ,c8,List.replicate];left;refine gC (c:="int") (b:=true) ∅ rfl ?_;left;refine gC (c:="bool") (b:=false) ∅ rfl ?_;left;exact h
def SH:MS:=match F1.body with
 |.seq _ (.seq _ (.seq _ (.seq _ (.seq _ b))))=>b
 |x=>x
theorem Cd(h6:T 6=some vZ)(h7:T 7=some F1):∀(n:Nat) {k:Nat} {g:G} {x y:D} {Q:KD} {E:KX},E4 g n x y->(∀g',Ex g g'->Q (.bl true) g')->b8 T (k+n+2) 7 [x,y] g Q E:=by
 have tY:∀(n:Nat),(∀{k:Nat} {g:G} {x y:D} {Q:KD} {E:KX},E4 g n x y->(∀g',Ex g g'->Q (.bl true) g')->b8 T (k+n+2) 7 [x,y] g Q E) ->
   ∀{k:Nat} {g:G} {x y:D} {l m:List D} {Q:KD} {E:KX},(∀g',Ex g g'->F9 g' x=some l)->(∀g',Ex g g'->F9 g' y=some m)->l.length=m.length->m.length<=1000->(∀(i:Nat) x y,l[i]?=some x->m[i]?=some y->E4 g n x y)->(∀g',Ex g g'->Q (.bl true) g') ->
   wpS (b8 T (k+n+2)) SH ⟨λ_ g'=>Q .bO g',Q,λ_ _=>False,λ_ _=>False⟩ [some x,some y] g E:=by
  intro n ih k g x y l m Q E hx hy hl hz hs hQ;have len:∀(z:D) (l:List D) (g':G) (Q':KD),F9 g' z=some l->Q' (.int l.length) g'->cP .len [z] g' Q':=λz l g' Q' e q=>⟨_,_,⟨rfl,.inl ⟨z,l,rfl,e,rfl⟩⟩,q⟩
  refine vO (Df (Dh (vG (vF (w_var rfl (len _ _ _ _ (hx g (Ex.refl g)) ?_))))));refine vF (w_var rfl (len _ _ _ _ (hy g (Ex.refl g)) ?_));refine Ka ?_;rw[hl,aw rfl];left;refine E6 (a8 T _) (N4 (a8 T _) ?_);refine vF (w_var rfl (len _ _ _ _ (hy g (Ex.refl g)) ?_));refine⟨_,rfl,by omega,by omega,i8 0 m.length,λi ys U g'=>∃z w,ys=List.replicate i (.bl true)/\U=[some y,some x,z,w]/\Ex g g',by rw[i6];exact hz,λi ys U g' p=>⟨n8,?_⟩,⟨none,none,rfl,rfl,Ex.refl g⟩,λi z ys U g' hz p=>?_,λys U g' p=>?_⟩
  ·obtain⟨z,w,rfl,_⟩:=p;simp
  ·obtain⟨z,w,rfl,rfl,e⟩:=p;obtain⟨hi,rfl⟩:=s9 hz;have h1:l[i]?=some l[i]:=ag ();have h2:m[i]?=some m[i]:=ag hi;have a1:gk l (0+(i:Int))=some l[i]:=by rw[cW];exact v9 h1
   have a2:gk m (0+(i:Int))=some m[i]:=by rw[cW];exact v9 h2
   show et _ _ _ _ _ _;refine vP (lp (yj (R9 (vG (w_var rfl (w_var rfl ⟨_,_,⟨rfl,.inl ⟨_,l,_,rfl,hx g' e,a1⟩⟩,?_⟩))))));refine R9 (vG (w_var rfl (w_var rfl ⟨_,_,⟨rfl,.inl ⟨_,m,_,rfl,hy g' e,a2⟩⟩,?_⟩)));refine xT (ih ((hs i _ _ h1 h2).ex e) λg2 e2=>?_);exact⟨_,_,by rw[List.replicate_succ'],rfl,e.trans e2⟩
  ·obtain⟨z,w,rfl,rfl,e⟩:=p;refine CI (a7 b7) (v:=true) ?_ (hQ _ (e.trans (Ex.snoc _ _)));have:List.replicate (i8 0 m.length).length (D.bl true)=(List.replicate (i8 0 m.length).length true).map D.bl:=by simp
   rw[this,Ca];simp
 intro n
 induction n with
 |zero =>
  intro k g x y Q E h hQ;have h0:=hQ g (Ex.refl g);cases h with
  |bO =>
   refine call_of h7 rfl ?_;dsimp[F1,c8,List.replicate];left;exact h0
  |bl b=>exact Jd h7 (by simpa using h0)
  |int i =>
   refine call_of h7 rfl ?_;dsimp[F1,c8,List.replicate];left;refine gC (c:="bool") (b:=false) ∅ rfl ?_;left;refine gC (c:="int") (b:=true) ∅ rfl ?_;left;refine ID h6 ?_;left;simpa using h0
  |str x =>
   refine call_of h7 rfl ?_;dsimp[F1,c8,List.replicate];left;refine gC (c:="bool") (b:=false) ∅ rfl ?_;left;refine gC (c:="int") (b:=false) ∅ rfl ?_;left;refine gC (c:="str") (b:=true) ∅ rfl ?_;left;refine gC (c:="str") (b:=true) ∅ rfl ?_;left;simpa using h0
 |succ n ih =>
  intro k g x y Q E h hQ;have h0:=hQ g (Ex.refl g);cases h with
  |bO =>
   refine call_of h7 rfl ?_;dsimp[F1,c8,List.replicate];left;exact h0
  |bl b=>exact Jd h7 (by simpa using h0)
  |int i =>
   refine call_of h7 rfl ?_;dsimp[F1,c8,List.replicate];left;refine gC (c:="bool") (b:=false) ∅ rfl ?_;left;refine gC (c:="int") (b:=true) ∅ rfl ?_;left;refine ID h6 ?_;left;simpa using h0
  |str x =>
   refine call_of h7 rfl ?_;dsimp[F1,c8,List.replicate];left;refine gC (c:="bool") (b:=false) ∅ rfl ?_;left;refine gC (c:="int") (b:=false) ∅ rfl ?_;left;refine gC (c:="str") (b:=true) ∅ rfl ?_;left;refine gC (c:="str") (b:=true) ∅ rfl ?_;left;simpa using h0
  |@tup _ l m hl hs hz =>
   refine call_of h7 rfl ?_;have body:=tY n ih (k:=k) (x:=.tup l) (y:=.tup m) (E:=E) (λ_ _=>rfl) (λ_ _=>rfl) hl hz hs hQ;dsimp[F1,c8,List.replicate];left;refine gC (c:="bool") (b:=false) ∅ rfl ?_;left;refine gC (c:="int") (b:=false) ∅ rfl ?_;left;refine gC (c:="str") (b:=false) ∅ rfl ?_;left;refine gC (c:="tuple") (b:=true) ∅ rfl ?_;left;refine gC (c:="tuple") (b:=true) ∅ rfl ?_;left;refine fB rfl ?_;left;refine gC (c:="list") (b:=false) ∅ rfl ?_;left;refine gC (c:="list") (b:=false) ∅ rfl ?_;left;refine fB rfl (C3 ?_);exact body
  |@lst _ a b l m ha hb hl hs hz =>
   refine call_of h7 rfl ?_;have body:=tY n ih (k:=k) (x:=.ref a) (y:=.ref b) (E:=E) (λg' e=>a7 (e.at ha)) (λg' e=>a7 (e.at hb)) hl hz hs hQ;have ta:∀c,qX g (.ref a) c=some (c=="list"):=λc=>by simp only[qX,ha]
   have tb:∀c,qX g (.ref b) c=some (c=="list"):=λc=>by simp only[qX,hb]
   dsimp[F1,c8,List.replicate];left;refine gC (c:="bool") (b:=false) ∅ (tb _) ?_;left;refine gC (c:="int") (b:=false) ∅ (tb _) ?_;left;refine gC (c:="str") (b:=false) ∅ (tb _) ?_;left;refine gC (c:="tuple") (b:=false) ∅ (tb _) ?_;left;refine gC (c:="tuple") (b:=false) ∅ (ta _) ?_;left;refine fB rfl ?_;left;refine gC (c:="list") (b:=true) ∅ (tb _) ?_;left;refine gC (c:="list") (b:=true) ∅ (ta _) ?_;left;refine fB rfl (C3 ?_);exact body
end
def jB(a b:List Int):Bool:=a.all λs=>b.any λm=>m==s
section
variable{T:Nat->Option ba}{d:Nat}
theorem Hw(xu:T 15=some yt){a b:List Int}(ha:a.length<=1000)(h:∀g',Ex g g'->Q (.bl (jB a b)) g'):b8 T (k+1) 15 [.tup (a.map .int),.tup (b.map .int)] g Q E:=by
 refine call_of xu rfl ?_;dsimp[yt,c8,List.replicate];left;refine E6 (a8 T _) (uJ (a8 T _) ?_);left;refine⟨_,rfl,_,λi ys U g'=>∃z w,ys=((a.take i).map λs=>b.any λm=>m==s).map D.bl/\U=[some (.tup (b.map .int)),z,w]/\g'=g,by simpa using ha,λi ys U g' p=>⟨n8,?_⟩,⟨none,none,rfl,rfl,rfl⟩,λi x ys U g' hx p=>?_,λys U g' p=>?_⟩
 ·obtain⟨z,w,rfl,_⟩:=p;simp;omega
 ·obtain⟨z,w,rfl,rfl,rfl⟩:=p;rw[ae,aa] at hx;obtain⟨s,hs,rfl⟩:=hx;left;refine vY (Cb ?_);refine⟨_,_,?_,rfl,rfl⟩;rw[bC,hs];simp
 ·obtain⟨z,w,rfl,rfl,rfl⟩:=p;refine CI (a7 b7) (Ca _) ?_;have e:((a.take (a.map D.int).length).map λs=>b.any λm=>m==s).all id=jB a b:=by
   simp[jB,List.all_map]
  rw[e];exact h _ (Ex.snoc _ _)
theorem YJ(Az:T 17=some yD){a b:List Int}(ha:a.length<=1000)(h:∀g',Ex g g'->Q (.bl (jB a b)) g'):b8 T (k+1) 17 [.tup (a.map .int),.tup (b.map .int)] g Q E:=by
 refine call_of Az rfl ?_;dsimp[yD,c8,List.replicate];left;refine E6 (a8 T _) (uJ (a8 T _) ?_);left;refine⟨_,rfl,_,λi ys U g'=>∃z w,ys=((a.take i).filter λs=>!(b.any λm=>m==s)).map D.int/\ys.length<=i/\U=[some (.tup (b.map .int)),z,w]/\g'=g,by simpa using ha,λi ys U g' p=>⟨n8,?_⟩,⟨none,none,rfl,by simp,rfl,rfl⟩,λi x ys U g' hx p=>?_,λys U g' p=>?_⟩
 ·obtain⟨z,w,_,h1,_⟩:=p;exact h1
 ·obtain⟨z,w,e,hl,rfl,rfl⟩:=p;rw[ae,aa] at hx;obtain⟨s,hs,rfl⟩:=hx;left;refine V1 (Cb ?_);left;cases hc:(b.any λm=>m==s) with
  |true =>
   refine pA ⟨_,_,?_,by omega,rfl,rfl⟩;rw[bC,hs,e];simp[hc]
  |false =>
   refine lp (w_var rfl ⟨_,_,?_,by simp;omega,rfl,rfl⟩);rw[bC,hs,e];simp[hc]
 ·obtain⟨z,w,e,hl,rfl,rfl⟩:=p;rw[ak,cN] at e;refine E2 (a7 b7) ?_;left;have e2:decide ((ys.length:Int)=0)=jB a b:=by
   rw[e,ak,bg,dO];unfold jB;rw[cB];constructor
   ·intro h0 s hs;have h1:(a.filter λs=>!(b.any λm=>m==s))=[]:=dN ();rw[tH] at h1;have:=h1 s hs;simpa using this
   ·intro h0;have h1:(a.filter λs=>!(b.any λm=>m==s))=[]:=by
     rw[tH];intro s hs;simpa using h0 s hs
    rw[h1]
    rfl
  rw[e2];exact h _ (Ex.snoc _ _)
theorem a44{x:Str}{kb:Bool->Prop}(hx:PyData.strOk x=true)(h:kb (decide (x="lower")||decide (x="upper"))):pZ g (.str x) (.tup [.str "lower",.str "upper"]) kb:=by
 refine⟨_,.inr ⟨_,[.str "lower",.str "upper"],.str x,rfl,rfl,rfl,by decide +kernel,by exact hx,rfl⟩,?_⟩;have e:∀y:Str,PyData.eqv (.str y) (.str x)=decide (x=y):=λy=>by
  simp only[PyData.eqv];rw[bg,bx,dO];exact eq_comm
 simp only[List.any_cons,List.any_nil,Bool.or_false,e];exact h
theorem WE(NA:T 40=some Q8){x:Str}(ho:PyData.strOk x=true)(h1:x="lower"\/x="upper"->Q .bO g)(h3:x≠"lower"->x≠"upper"->False):b8 T (k+1) 40 [.str x] g Q E:=by
 refine call_of NA rfl ?_;dsimp[Q8,c8,List.replicate];left;refine V1 (a44 ho ?_);left;by_cases e:x="lower"\/x="upper"
 ·refine fB (by rw[Bool.not_eq_false',cV,dO,dO];exact e) ?_;left;exact h1 e
 ·refine gR (by rw[gN,Bool.or_eq_false_iff,cA,cA];exact not_or.mp e) ?_;left;exact h3 (λz=>e (.inl z)) (λz=>e (.inr z))
theorem I0(lC:DZ T){x:Str}(ho:PyData.strOk x=true)(h1:x="lower"->Q (.int 0) g)(h2:x="upper"->Q (.int 2) g)(h3:x≠"lower"->x≠"upper"->False):b8 T (k+2) 19 [.str x] g Q E:=by
 refine call_of lC.1 rfl ?_;dsimp[Cf,c8,List.replicate];left;refine WE lC.2 ho (λhx=>?_) h3;left;by_cases e1:x="lower"
 ·have el:O3 [.tup [.str "lower",.int 0],.tup [.str "upper",.int 2]] x=some (.int 0):=by simp[O3,e1]
  refine Kg el ?_;exact h1 e1
 ·have e2:x="upper":=hx.resolve_left e1;have el:O3 [.tup [.str "lower",.int 0],.tup [.str "upper",.int 2]] x=some (.int 2):=by simp[O3,e1];simp[e2]
  refine Kg el ?_;exact h2 e2
def CB(c:b0):Prop:=c.lm.length<=8/\c.um.length<=8
theorem Z2(h1:NF T)(h2:T 2=some L5)(sj:T 12=some B9)(vh:KN T)(ha:g[a]?=some (.lst (cs.map b0.d)))(hz:cs.length<=1000)(hm:9<cs.length->False)(hb:cs.length<=9->cs.all u6=false->False)(h:cs.length<=9->cs.all u6=true->Q .bO g):b8 T (k+6) 18 [.ref a] g Q E:=by
 refine call_of vh.1 rfl ?_;dsimp[V8,c8,List.replicate];left;rw[ak];refine if2 (λc=>?_) (λc=>?_)
 ·left;exact hm ()
 have h9:cs.length<=9:=by omega
 left;refine w9 (a8 T _) (kq (a8 T _) ?_);left;refine⟨a,_,rfl,a7 ha,cs.map b0.d,λi U g'=>∃z,U=[some (.ref a),z]/\g'=g/\(cs.take i).all u6=true,λi U g' p=>?_,⟨none,rfl,rfl,by simp⟩,λi x U g' hx p=>?_,λU g' p=>?_⟩
 ·obtain⟨z,rfl,rfl,_⟩:=p;exact n6 (a7 ha)
 ·obtain⟨z,rfl,rfl,hg⟩:=p;rw[ae,aa] at hx;obtain⟨c,hc,rfl⟩:=hx;refine i0 ?_
  try show wpS _ _ _ _ _ _
  left;refine call_of vh.2 rfl ?_;dsimp[Cu,c8,List.replicate];left;refine ZH h1 h2 sj ?_;left;cases e:u6 c with
  |true =>
   left;refine⟨_,rfl,rfl,?_⟩;rw[bC,hc];simp[hg,e]
  |false =>
   refine GH ?_;left;refine hb h9 ?_;rw[List.all_eq_false];exact⟨c,aC hc,by rw[e];decide⟩
 ·obtain⟨z,rfl,rfl,hg⟩:=p;rw[ak,cN] at hg;exact h h9 hg
end
def B3(f:Int)(c:b0):Int:=if f=0 then c.lo else c.up
def qY(f:Int)(c:b0):List Int:=if f=0 then c.lm else c.um
theorem CB.LP{c:b0}(h:CB c)(f:Int):(qY f c).length<=1000:=by
 unfold qY;split
 ·have:=h.1;omega
 ·have:=h.2;omega
theorem M1(hf:f=0\/f=2)(c:b0):gk [D.int c.lo,D.tup (c.lm.map .int),D.int c.up,D.tup (c.um.map .int),D.int c.yr] f=some (.int (B3 f c)):=by
 rcases hf with rfl|rfl<;>rfl
theorem Iv(hf:f=0\/f=2)(c:b0):gk [D.int c.lo,D.tup (c.lm.map .int),D.int c.up,D.tup (c.um.map .int),D.int c.yr] (f+1)=some (.tup ((qY f c).map .int)):=by
 rcases hf with rfl|rfl<;>rfl
theorem XS(ha:g[a]?=some (.lst l))(hb:g[b]?=some (.lst l))(h:∀x∈l,(∃i,x=.int i)\/∃y,x=.str y)(hz:l.length<=1000):E4 g 1 (.ref a) (.ref b):=by
 refine .lst ha hb rfl (λi x y hx hy=>?_) hz;rw[hx] at hy;cases hy;rcases h x (aC hx) with⟨j,rfl⟩|⟨y,rfl⟩
 ·exact .int _
 ·exact .str _
def cD:b0:=⟨0,[],0,[],0⟩
noncomputable abbrev bT(cs:List b0)(i:Nat):b0:=cs.getD i cD
theorem C8{c:b0}(h:cs[i]?=some c):bT cs i=c:=by simp[bT,List.getD,h]
inductive RW where
 |eI|lower|upper
def RW.s:RW->Str
 |.eI=>"coin"
 |.lower=>"lower"
 |.upper=>"upper"
structure fJ where
 w:RW
 x:Int
 y:Int
def fJ.d(r:fJ):D:=.tup [.str r.w.s,.int r.x,.int r.y]
def meant(cs:List b0)(w:RW)(x:Int)(i:Nat):Bool:=match w with
 |.eI=>decide ((i:Int)=x)
 |.lower=>decide ((bT cs i).lo=x)
 |.upper=>decide ((bT cs i).up=x)
def jr(cs:List b0)(w:RW)(x:Int):List Nat:=(List.range cs.length).filter (meant cs w x)
def a9(l:List Nat):List D:=l.map λ(i:Nat)=>D.int i
def oP(l:List Nat):Nat:=(l.map (2 ^ ·)).sum
def iy(n:Nat)(p:Nat->Bool):Nat:=oP ((List.range n).filter p)
theorem JS(n:Nat)(p:Nat->Bool):iy (n+1) p=iy n p+if p n=true then 2 ^ n else 0:=by
 unfold iy oP;rw[fV,dQ,cT,List.sum_append];cases h:p n<;>simp[List.filter_cons,h]
theorem RG(n:Nat)(p:Nat->Bool):iy n p<2 ^ n:=by
 induction n with
 |zero=>simp[iy,oP]
 |succ n ih =>
  rw[JS,Nat.pow_succ];split<;>omega
theorem Js(n:Nat)(p:Nat->Bool)(i:Nat):(iy n p).testBit i=(decide (i<n)&&p i):=by
 induction n with
 |zero=>simp[iy,oP]
 |succ n ih =>
  have hl:=RG n p;rw[JS];by_cases hp:p n=true
  ·rw[aJ hp,Nat.add_comm];rcases fi i n with h|h|h
   ·rw[Nat.testBit_two_pow_add_gt h,ih,aw h,aw ()]
   ·subst h;rw[Nat.testBit_two_pow_add_eq,ih];simp[hp]
   ·rw[Nat.testBit_lt_two_pow (ay (show 2 ^ n+iy n p<2 ^ (n+1) by omega) (yS () h)),aH ()]
    rfl
  ·rw[aF hp,Nat.add_zero,ih];by_cases h:i=n
   ·subst h;simp[hp]
   ·rw[show decide (i<n)=decide (i<n+1) from dH.mpr ()]
theorem Bv(a b:Nat):Builtin.bitAnd (a:Int) (b:Int)=((a &&& b:Nat):Int):=by
 rfl
theorem QH(a b:Nat):Builtin.bitOr (a:Int) (b:Int)=((a |||b:Nat):Int):=by
 unfold Builtin.bitOr Builtin.bitAnd;have h1:∀x:Nat,decide (0<=Builtin.bitNot (x:Int))=false:=λx=>by unfold Builtin.bitNot;exact aH ()
 have h2:∀x:Nat,Builtin.bitNot (Builtin.bitNot (x:Int))=x:=λx=>by unfold Builtin.bitNot;omega
 rw[h1,h1];simp only[h2];simp
theorem Pz(a b:Nat):((a &&& b:Nat)≠0)↔∃i,a.testBit i=true/\b.testBit i=true:=by
 constructor
 ·intro h;obtain⟨i,hi⟩:=Nat.exists_testBit_of_ne_zero h;rw[Nat.testBit_and,aX] at hi;exact⟨i,hi⟩
 ·rintro⟨i,h1,h2⟩ e;have:(a &&& b).testBit i=true:=by rw[Nat.testBit_and,h1,h2];rfl
  rw[e,Nat.zero_testBit] at this;cases this
theorem yk(s n:Nat)(p:Nat->Bool):((((s &&& iy n p:Nat):Int) != 0)=(List.range n).any λi=>s.testBit i&&p i):=by
 rw[bg,bne_iff_ne,aV];have:(((s &&& iy n p:Nat):Int)≠0)↔((s &&& iy n p:Nat)≠0):=by omega
 rw[this,Pz];constructor
 ·rintro⟨i,h1,h2⟩;rw[Js,aX,cJ] at h2;exact⟨i,aT.mpr h2.1,by rw[h1,h2.2];rfl⟩
 ·rintro⟨i,h1,h2⟩;rw[aX] at h2;exact⟨i,h2.1,by rw[Js,aw (aT.mp h1),h2.2];rfl⟩
def mw(a b:b0):Bool:=(decide (a.lo=b.lo)&&!jB a.lm b.lm)||(decide (a.up=b.up)&&!jB a.um b.um)
def kj(a b:b0):Bool:=decide (0<b.yr)&&decide (b.yr<a.yr)
def K0(cs:List b0)(S:Nat->Bool)(p:Nat):Bool:=(List.range cs.length).any λi=>S i&&mw (bT cs i) (bT cs p)
def J6(cs:List b0)(S:Nat->Bool)(p:Nat):Bool:=(List.range cs.length).any λi=>S i&&kj (bT cs i) (bT cs p)
def Z6(cs:List b0)(S:Nat->Bool)(p:Nat)(d:Int):Bool :=
 ((List.range cs.length).any λi=>(S i||decide (i=p))&&decide ((bT cs i).lo=d))&&((List.range cs.length).any λi=>!S i&&decide ((bT cs i).lo=d))
def vE(cs:List b0)(S:Nat->Bool)(p:Nat):Nat:=((p6 (cs.map b0.lo)).filter (Z6 cs S p)).length
def Q3(cs:List b0)(rs:List fJ)(S:Nat->Bool)(p:Nat):Bool:=rs.all λr=>!meant cs r.w r.y p||(List.range cs.length).any λi=>S i&&meant cs r.w r.x i
def fault(cs:List b0)(v:Int)(rs:List fJ)(S:Nat->Bool)(p:Nat):Str :=
 if K0 cs S p=true then "wear" else if J6 cs S p=true then "year" else if v<vE cs S p then "anvil" else if Q3 cs rs S p=true then "" else "rule"
def xy(x:Str):D:=if x="" then .bO else .str x
theorem Zp{S S':Nat->Bool}(h:∀i,i<cs.length->S i=S' i):fault cs v rs S p=fault cs v rs S' p:=by
 have a:∀f:Nat->Bool->Bool,((List.range cs.length).any λi=>f i (S i))=(List.range cs.length).any λi=>f i (S' i):=λf=>by
  rw[bg,aV,aV];constructor
  ·rintro⟨i,h1,h2⟩;exact⟨i,h1,by rw[<- h i (aT.mp h1)];exact h2⟩
  ·rintro⟨i,h1,h2⟩;exact⟨i,h1,by rw[h i (aT.mp h1)];exact h2⟩
 have b1:K0 cs S p=K0 cs S' p:=a λi t=>t&&mw (bT cs i) (bT cs p);have b2:J6 cs S p=J6 cs S' p:=a λi t=>t&&kj (bT cs i) (bT cs p);have b3:Z6 cs S p=Z6 cs S' p:=by
  funext d
  unfold Z6;rw[a λi t=>(t||decide (i=p))&&decide ((bT cs i).lo=d),a λi t=>!t&&decide ((bT cs i).lo=d)]
 have b4:Q3 cs rs S p=Q3 cs rs S' p:=by
  unfold Q3
  congr 1
  funext r
  rw[a λi t=>t&&meant cs r.w r.x i]
 unfold fault vE;rw[b1,b2,b3,b4]
def U7:ba:=⟨3,4,(.seq (.ifs (.eP (.fR (.call 38 (fg br)))) (.seq (.ret (.prim .lst .nil)) .pass) .pass) (.seq (.ifs (dY .Eq bh (iO "coin")) (.seq (.ret (.comp [2] 3 (.one 2) (.dW (dB .len aI)) (dY .Eq br aI) br)) .pass) .pass) (.seq (.set 3 (.call 19 (fg bh))) (.seq (.ret (.comp [3,2] 5 (.many [3,4]) (.kS aI) (dY .Eq (cK cF aI) bh) bH)) .pass))))⟩
def BE:ba:=⟨2,3,(.seq (.expr (.call 18 (fg aI))) (.seq (.set 2 (.call 19 (fg bh))) (.seq (.ret (.gX [2] 3 (.one 2) (.fc aI) .no (cK br aI))) .pass)))⟩
def Cg:ba:=⟨2,5,(.seq (.lK (.many [2,3,4]) bh) (.seq (.ifs (.jK (dY .NotIn br (.lit (.tup [(.str "coin"),(.str "lower"),(.str "upper")]))) (dY .Eq bH cF)) (.seq (.ret (.lit (.bl false))) .pass) .pass) (.seq (.ret (.dE (bQ (.cmp .NotEq) (.call 74 (gH aI br bH)) (.prim .lst .nil)) (bQ (.cmp .NotEq) (.call 74 (gH aI br cF)) (.prim .lst .nil)))) .pass)))⟩
def V7:ba:=⟨2,4,(.seq (.dC (.many [2,3]) (.kS bh) (.seq (.ifs (.eP (.fR (.call 88 (du aI bH)))) (.seq (.expr .no) .pass) .pass) .pass)) .pass)⟩
def yE:ba:=⟨1,1,(.seq (.ret (dB .sum (.comp [] 2 (.one 1) (.fc aI) .no (bQ (.bin .LShift) (aY 1) bh)))) .pass)⟩
def U6:ba:=⟨2,2,(.seq (.ret (bQ (.bin .BitOr) aI (bQ (.bin .LShift) (aY 1) bh))) .pass)⟩
def Hn:ba:=⟨2,4,(.seq (.dC (.one 2) (.fc (.lit (.tup [(.str "lower"),(.str "upper")]))) (.seq (.set 3 (.call 19 (fg br))) (.seq (.ifs (.dE (dY .Eq (cK aI bH) (cK bh bH)) (.eP (.fR (.call 15 (du (cK aI (bQ (.bin .Add) bH (aY 1))) (cK bh (bQ (.bin .Add) bH (aY 1)))))))) (.seq (.ret (.lit (.bl true))) .pass) .pass) .pass))) (.seq (.ret (.lit (.bl false))) .pass))⟩
def Du:ba:=⟨2,2,(.seq (.ret (.chain .Lt .Lt (aY 0) (cK bh (aY 4)) (cK aI (aY 4)))) .pass)⟩
def Ic:ba:=⟨1,1,(.seq (.ret (.comp [0] 3 (.one 2) (.fc aI) .no (.call 90 (fg (.comp [2] 4 (.many [2,3]) (.kS aI) (.fR (.call 92 (du bH aI))) br))))) .pass)⟩
def Im:ba:=⟨1,1,(.seq (.ret (.comp [0] 3 (.one 2) (.fc aI) .no (.call 90 (fg (.comp [2] 4 (.many [2,3]) (.kS aI) (.fR (.call 93 (du bH aI))) br))))) .pass)⟩
def Cv:ba:=⟨1,1,(.seq (.ret (.comp [0] 3 (.one 2) (.fc (.call 20 (du aI (iO "lower")))) .no (.call 90 (fg (.call 74 (gH aI (iO "lower") br)))))) .pass)⟩
def P1:ba:=⟨2,8,(.seq (.set 2 (.comp [] 2 (.one 1) (.fc aI) .no (.prim .lst .nil))) (.seq (.dC (.many [3,4,5]) (.fc bh) (.seq (.set 6 (.call 90 (fg (.call 74 (gH aI bH cF))))) (.seq (.dC (.one 7) (.fc (.call 74 (gH aI bH dU))) (.seq (.ifs (dY .NotIn eG (cK br fM)) (.seq (.expr (.eE .append (cK br fM) (fg eG))) .pass) .pass) .pass)) .pass))) (.seq (.ret br) .pass)))⟩
def O2:ba:=⟨3,3,(.seq (.expr (.call 18 (fg aI))) (.seq (.expr (.call 42 (fg bh))) (.seq (.expr (.call 89 (du aI br))) .pass)))⟩
def Ce:ba:=⟨3,3,(.seq (.expr (.call 98 (gH aI bh br))) (.seq (.ret (.make "Bounds" 113 (gH aI bh br))) .pass))⟩
def Cw:ba:=⟨3,5,(.seq (.set 3 (.call 91 (du bh br))) (.seq (.set 4 (bQ (.bin .Sub) (dB (.fld "full") aI) bh)) (.seq (.ret (dB .len (.comp [4,3] 4 (.one 3) (.fc (dB (.fld "lower_dies") aI)) (.dE (.fR (bQ (.bin .BitAnd) bH bh)) (.fR (bQ (.bin .BitAnd) bH aI))) bH))) .pass)))⟩
def Cy:ba:=⟨3,3,(.seq (.ifs (.fR (bQ (.bin .BitAnd) bh (cK (dB (.fld "worn_by_place") aI) br))) (.seq (.ret (iO "wear")) .pass) .pass) (.seq (.ifs (.fR (bQ (.bin .BitAnd) bh (cK (dB (.fld "later_by_place") aI) br))) (.seq (.ret (iO "year")) .pass) .pass) (.seq (.ifs (dY .Gt (.call 100 (gH aI bh br)) (dB (.fld "room") aI)) (.seq (.ret (iO "anvil")) .pass) .pass) (.seq (.ifs (.eP (.fR (dB .all (.comp [1] 3 (.one 2) (.fc (cK (dB (.fld "needed_by_place") aI) br)) .no (bQ (.bin .BitAnd) aI br))))) (.seq (.ret (iO "rule")) .pass) .pass) (.seq (.ret (.lit .bO)) .pass)))))⟩
def V9:ba:=⟨4,4,(.seq (.iz "size" ["Bounds"] aI (dB .len bh)) (.seq (.iz "full" ["Bounds"] aI (bQ (.bin .Sub) (bQ (.bin .LShift) (aY 1) (dB .len bh)) (aY 1))) (.seq (.iz "room" ["Bounds"] aI br) (.seq (.iz "worn_by_place" ["Bounds"] aI (.call 94 (fg bh))) (.seq (.iz "later_by_place" ["Bounds"] aI (.call 95 (fg bh))) (.seq (.iz "lower_dies" ["Bounds"] aI (.call 96 (fg bh))) (.seq (.iz "needed_by_place" ["Bounds"] aI (.call 97 (du bh bH))) .pass)))))))⟩
section
variable{U:S}{t:MT}{c:ME}
theorem x4(hP:i9 P)(Sh:S->Prop)(p:Nat->Bool)(w:Nat->D){k:IK}(hk:∀g',Ex g g'->k.Is l g')(hl:l.length<=1000)(h0:Sh (E3 U d4 n))(hs:∀i d U g',l[i]?=some d->Ex g g'->Sh U->jq t d U λcC=>et P c cC g' (λb g3=>b=p i/\Ex g g3/\if b=true then bo P elt cC g3 (λy g4=>y=w i/\Ex g g4/\Sh cC) ik else Sh cC) ik)(hd:∀g',Ex g g'->Q (.ref g'.length) (g'++[.lst (((List.range l.length).filter p).map w)]))(hi:∀R:IK->G->Prop,R k g->gI P it U g R E):bo P (.comp d4 n t it c elt) U g Q E:=by
 refine E6 hP (hi _ ?_);refine⟨l,λi ys U g'=>Ex g g'/\ys=((List.range i).filter p).map w/\Sh U,hl,λi ys U g' q=>⟨hk _ q.1,?_⟩,⟨Ex.refl _,rfl,h0⟩,λi x ys U g' hx q=>?_,λys U g' q=>?_⟩
 ·obtain⟨_,rfl,_⟩:=q;rw[ak];exact aD (fG _ _) (by simp)
 ·obtain⟨e1,rfl,sh⟩:=q;refine x6 (λcC q=>p8 hP c _ _ _ _ _ _ (λb g3 q=>?_) (λ_ _ z=>z) q) (hs i x U g' hx e1 sh);obtain⟨rfl,e3,q⟩:=q;have ef:((List.range (i+1)).filter p).map w=((List.range i).filter p).map w++if p i=true then[w i] else[]:=by
   rw[fV,dQ,cT];cases z:p i<;>simp only[List.filter_cons,z,List.filter_nil]<;>rfl
  cases hp:p i with
  |true =>
   rw[hp] at q ef;refine b9 hP elt _ _ _ _ _ _ (λy g4 q=>?_) (λ_ _ z=>z) q;obtain⟨rfl,e4,sh⟩:=q;exact⟨e4,by rw[ef];rfl,sh⟩
  |false =>
   simp_all
 ·obtain⟨e1,rfl,sh⟩:=q;exact hd g' e1
theorem comp_map(hP:i9 P)(Sh:S->Prop)(w:Nat->D){k:IK}(hk:∀g',Ex g g'->k.Is l g')(hl:l.length<=1000)(h0:Sh (E3 U d4 n))(hs:∀i d U g',l[i]?=some d->Ex g g'->Sh U->jq t d U λcC=>bo P elt cC g' (λy g4=>y=w i/\Ex g g4/\Sh cC) ik)(hd:∀g',Ex g g'->Q (.ref g'.length) (g'++[.lst ((List.range l.length).map w)]))(hi:∀R:IK->G->Prop,R k g->gI P it U g R E):bo P (.comp d4 n t it .no elt) U g Q E:=by
 refine x4 hP Sh (λ_=>true) w hk hl h0 (λi d U g' hx e sh=>x6 (λcC q=>vP ⟨rfl,e,?_⟩) (hs i d U g' hx e sh)) (λg' e=>?_) hi
 ·exact lp q
 ·have:=hd g' e
  rwa [show(List.range l.length).filter (λ_=>true)=List.range l.length from Ei.mpr λ_ _=>rfl]
theorem S5(hP:i9 P){o:ME}(hl:d0 g a=some l)(h:∀Q:KD,Q (.ref a) g->bo P o U g Q E):∀R:IK->G->Prop,R (.lst a) g->gI P (.fc o) U g R E:=λR r=>kq hP (h _ ⟨a,l,rfl,hl,r⟩)
theorem DM{o:ME}(hl:d0 g a=some l)(h:∀Q:KD,Q (.ref a) g->bo P o U g Q E):∀R:IK->G->Prop,R (.ow a) g->gI P (.kS o) U g R E:=λR r=>zG (h _ ⟨a,l,rfl,hl,r⟩)
theorem sN(hP:i9 P){o:ME}(hj:j<=1000)(h:∀Q:KD,Q (.int (j:Nat)) g->bo P o U g Q E):∀R:IK->G->Prop,R (.fix (i8 0 j)) g->gI P (.dW o) U g R E:=λR r=>N4 hP (h _ ⟨j,rfl,by omega,by omega,by simpa using r⟩)
end
theorem BP(l:List Nat):a9 l=(l.map λ(i:Nat)=>(i:Int)).map D.int:=by simp[a9]
structure TB0(T:Nat->Option ba):Prop where
 nf:NF T
 h2:T 2=some L5
 sj:T 12=some B9
 vh:KN T
 lC:DZ T
 xu:T 15=some yt
 NH:T 20=some BE
 qr:T 74=some U7
 Nz:T 88=some Cg
 Ny:T 89=some V7
 si:T 90=some yE
 og:T 91=some U6
 Nx:T 92=some Hn
 Nw:T 93=some Du
 Nv:T 94=some Ic
 Nu:T 95=some Im
 Nt:T 96=some Cv
 Nq:T 97=some P1
 AL:T 100=some Cw
 AK:T 101=some Cy
 AF:T 113=some V9
structure TB(T:Nat->Option ba):Prop extends TB0 T where
 ve:T 42=some F6
 Ax:T 98=some O2
 Np:T 99=some Ce
instance{T:Nat->Option ba}:CoeOut (TB T) (TB0 T):=⟨TB.toTB0⟩
section
variable{T:Nat->Option ba}{d:Nat}
theorem WZ(h1:NF T)(ve:T 42=some F6){i:Int}(h:1<=i->i<=9->Q .bO g)(hn:¬(1<=i/\i<=9)->False):b8 T (k+3) 42 [.int i] g Q E:=by
 refine call_of ve rfl ?_;dsimp[F6,c8,List.replicate];left;refine C6 (k:=k) h1 ?_;left;by_cases hi:1<=i/\i<=9
 ·rw[aw hi.1,aw hi.2];left;exact h hi.1 hi.2
 ·have:(decide (1<=i)&&decide (i<=9))=false:=by
   rw[Bool.and_eq_false_iff,cA,cA];omega
  rw[this];left;exact hn hi
theorem O6(h1:NF T)(lC:DZ T)(qr:T 74=some U7){w:RW}{x:Int}(ha:g[a]?=some (.lst (cs.map b0.d)))(hz:cs.length<=1000)(h:∀g' b,Ex g g'->g.length<=b->g'[b]?=some (.lst (a9 (jr cs w x)))->Q (.ref b) g'):b8 T (k+3) 74 [.ref a,.str w.s,.int x] g Q E:=by
 refine call_of qr rfl ?_;dsimp[U7,c8,List.replicate];left;refine Il (k:=k+1) h1 ?_;left;have fld:∀f:Int,(f=0\/f=2)->(∀i c,cs[i]?=some c->meant cs w x i=decide (B3 f c=x))->bo (b8 T (k+2)) (.comp [3,2] 5 (.many [3,4]) (.kS (.var 0)) (.fR (.prim (.cmp .Eq) (.cons (.prim .ix (.cons (.var 4) (.cons (.var 0) .nil))) (.cons (.var 1) .nil)))) (.var 3)) [some (.ref a),some (.str w.s),some (.int x),some (.int f)] g Q E:=λf hf hm=>by
  refine x4 (a8 T _) (λU=>∃z2 z3 z4,U=[some (.int f),some (.int x),z2,z3,z4]) (meant cs w x) (λi=>.int (i:Nat)) (l:=mz (cs.map b0.d)) (λg' e=>xZ (a7 (e.at ha))) (by rw[N8];simpa using hz) ⟨none,none,none,rfl⟩ (λi d U g' hx e sh=>?_) (λg' e=>?_) (DM (a7 ha) λQ q=>w_var (d:=.ref a) rfl q)
  ·obtain⟨z2,z3,z4,rfl⟩:=sh;obtain⟨dd,hd,rfl⟩:=ym hx;rw[ae,aa] at hd;obtain⟨c,hc,rfl⟩:=hd;refine B6 rfl ?_;left;refine v5 (M1 hf c) ?_;left;rw[hm i c hc];refine⟨rfl,e,?_⟩;refine if2 (λ_=>?_) (λ_=>?_)
   ·left;exact⟨rfl,e,_,_,_,rfl⟩
   ·exact⟨_,_,_,rfl⟩
  ·rw[N8,ak];exact h _ _ (e.trans (Ex.snoc _ _)) e.len b7
 cases w with
 |eI =>
  refine gR (by decide +kernel) ?_;left;refine x4 (a8 T _) (λU=>∃z1 z2,U=[some (.int x),z1,z2]) (meant cs .eI x) (λi=>.int (i:Nat)) (l:=i8 0 cs.length) (λg' e=>n8) (by rw[i6];exact hz) ⟨none,none,rfl⟩ (λi d U g' hx e sh=>?_) (λg' e=>?_) (sN (a8 T _) hz λQ q=>?_)
  ·obtain⟨z2,z3,rfl⟩:=sh;obtain⟨hi,rfl⟩:=s9 hx;rw[cW];refine i0 ?_;left;refine⟨rfl,e,?_⟩;refine if2 (λ_=>?_) (λ_=>?_)
   ·left;exact⟨rfl,e,_,_,rfl⟩
   ·exact⟨_,_,rfl⟩
  ·rw[i6];exact h _ _ (e.trans (Ex.snoc _ _)) e.len b7
  ·left;rw[ak];exact q
 |lower =>
  refine fB (by decide +kernel) ?_;left;refine I0 (k:=k) lC (by decide +kernel) (λ_=>?_) (λz=>absurd z (by decide +kernel)) (λz=>absurd rfl z);exact fld 0 (.inl rfl) λi c hc=>by simp only[meant,C8 hc];rfl
 |upper =>
  refine fB (by decide +kernel) ?_;left;refine I0 (k:=k) lC (by decide +kernel) (λz=>absurd z (by decide +kernel)) (λ_=>?_) (λ_ z=>absurd rfl z);exact fld 2 (.inr rfl) λi c hc=>by simp only[meant,C8 hc];rfl
theorem O0(si:T 90=some yE){l:List Nat}(ha:g[a]?=some (.lst (a9 l)))(hz:l.length<=1000)(hl:∀i∈l,i<=1000)(h:∀g',Ex g g'->Q (.int (oP l:Nat)) g'):b8 T (k+1) 90 [.ref a] g Q E:=by
 refine call_of si rfl ?_;dsimp[yE,c8,List.replicate];left;refine comp_map (a8 T _) (λU=>∃z0 z1,U=[z0,z1]) (λi=>.int ((2 ^ (l.getD i 0):Nat):Int)) (l:=a9 l) (k:=.lst a) (λg' e=>n6 (a7 (e.at ha))) (by simpa[a9] using hz) ⟨none,none,rfl⟩ (λi d U g' hx e sh=>?_) (λg' e=>?_) (S5 (a8 T _) (a7 ha) λQ q=>w_var (d:=.ref a) rfl q)
 ·obtain⟨z0,z1,rfl⟩:=sh;rw[a9,ae,aa] at hx;obtain⟨j,hj,rfl⟩:=hx;refine i0 ?_;left;have:=hl j (aC hj);refine CH ⟨by omega,by omega,by decide⟩ ?_;refine⟨?_,e,_,_,rfl⟩;simp[List.getD,hj]
 ·refine CZ (ns:=(List.range l.length).map λi=>((2 ^ (l.getD i 0):Nat):Int)) (a7 (by simpa[a9] using b7)) ?_;have:((List.range l.length).map λi=>((2 ^ (l.getD i 0):Nat):Int)).sum=(oP l:Nat):=by
   have e2:(List.range l.length).map (λi=>((2 ^ (l.getD i 0):Nat):Int))=(l.map (2 ^ ·)).map λ(n:Nat)=>(n:Int):=by
    refine bS λi=>?_;rw[ae,ae,ae];by_cases hi:i<l.length
    ·simp[List.getD,hi]
    ·rw[aS (by simpa using hi),aS ()]
     rfl
   rw[e2];unfold oP;generalize l.map (2 ^ ·)=m
   induction m with
   |nil=>rfl
   |cons x r ih=>simp[ih]
  rw[this];exact h _ (e.trans (Ex.snoc _ _))
theorem A6(og:T 91=some U6){s:Nat}(hp:p<=1000)(h:Q (.int ((s |||2 ^ p:Nat):Int)) g):b8 T (k+1) 91 [.int (s:Nat),.int (p:Nat)] g Q E:=by
 refine call_of og rfl ?_;dsimp[U6,c8,List.replicate];left;refine CH ⟨by omega,by omega,by decide⟩ ?_;refine Ur ?_;have e:(1:Int)*2 ^ ((p:Nat):Int).toNat=((2 ^ p:Nat):Int):=by simp
 rw[e,QH];exact h
end
section
variable{T:Nat->Option ba}{d:Nat}
theorem IT{c:b0}(h:CB c):c.lm.length<=1000/\c.um.length<=1000:=⟨aD h.1 ∅,aD h.2 ∅⟩
theorem ZL(hT:TB0 T){c e:b0}(hc:CB c)(h:∀g',Ex g g'->Q (.bl (mw c e)) g'):b8 T (k+3) 92 [c.d,e.d] g Q E:=by
 refine call_of hT.Nx rfl ?_;refine w9 (a8 T _) (uJ (a8 T _) ?_);refine⟨_,rfl,_,λi U g'=>Ex g g'/\(∃z2 z3,U=[some c.d,some e.d,z2,z3])/\(1<=i->(decide (c.lo=e.lo)&&!jB c.lm e.lm)=false)/\(2<=i->(decide (c.up=e.up)&&!jB c.um e.um)=false),λ_ _ _ _=>n8,⟨Ex.refl _,⟨none,none,rfl⟩,λz=>absurd z (),λz=>absurd z ()⟩,λi x U g' hx q=>?_,λU g' q=>?_⟩
 ·obtain⟨e1,⟨z2,z3,rfl⟩,q1,q2⟩:=q;refine i0 ?_
  match i,hx with
  |0,hx =>
   cases hx;left;refine I0 (k:=k) hT.lC (by decide +kernel) (λ_=>?_) (λz=>absurd z (by decide +kernel)) (λz=>absurd rfl z);left;refine v5 (l:=[.int c.lo,.tup (c.lm.map .int),.int c.up,.tup (c.um.map .int),.int c.yr]) rfl ?_;left;refine v5 (l:=[.int e.lo,.tup (e.lm.map .int),.int e.up,.tup (e.um.map .int),.int e.yr]) rfl ?_;left;refine if2 (λh1=>?_) (λh1=>?_)
   ·left;refine v5 (l:=[.int c.lo,.tup (c.lm.map .int),.int c.up,.tup (c.um.map .int),.int c.yr]) rfl ?_;left;refine v5 (l:=[.int e.lo,.tup (e.lm.map .int),.int e.up,.tup (e.um.map .int),.int e.yr]) rfl ?_;left;refine Hw (k:=k+1) hT.xu (IT hc).1 λg2 e2=>?_;left;cases hw:jB c.lm e.lm with
    |false =>
     left;have:mw c e=true:=by unfold mw;rw[aw h1,hw];rfl
     rw[<- this];exact h _ (e1.trans e2)
    |true =>
     exact⟨e1.trans e2,⟨_,_,rfl⟩,λ_=>by rw[aw h1];rfl,λz=>absurd z ()⟩
   ·exact⟨e1,⟨_,_,rfl⟩,λ_=>by rw[aH h1];rfl,λz=>absurd z ()⟩
  |1,hx =>
   cases hx;left;refine I0 (k:=k) hT.lC (by decide +kernel) (λz=>absurd z (by decide +kernel)) (λ_=>?_) (λ_ z=>absurd rfl z);left;refine v5 (l:=[.int c.lo,.tup (c.lm.map .int),.int c.up,.tup (c.um.map .int),.int c.yr]) rfl ?_;left;refine v5 (l:=[.int e.lo,.tup (e.lm.map .int),.int e.up,.tup (e.um.map .int),.int e.yr]) rfl ?_;left;refine if2 (λh1=>?_) (λh1=>?_)
   ·left;refine v5 (l:=[.int c.lo,.tup (c.lm.map .int),.int c.up,.tup (c.um.map .int),.int c.yr]) rfl ?_;left;refine v5 (l:=[.int e.lo,.tup (e.lm.map .int),.int e.up,.tup (e.um.map .int),.int e.yr]) rfl ?_;left;refine Hw (k:=k+1) hT.xu (IT hc).2 λg2 e2=>?_;left;cases hw:jB c.um e.um with
    |false =>
     left;have:mw c e=true:=by unfold mw;rw[aw h1,hw];simp
     rw[<- this];exact h _ (e1.trans e2)
    |true =>
     exact⟨e1.trans e2,⟨_,_,rfl⟩,λ_=>q1 (),λ_=>by rw[aw h1];rfl⟩
   ·exact⟨e1,⟨_,_,rfl⟩,λ_=>q1 (),λ_=>by rw[aH h1];rfl⟩
  |i+2,hx=>simp at hx
 ·obtain⟨e1,⟨z2,z3,rfl⟩,q1,q2⟩:=q;have:mw c e=false:=by unfold mw;rw[q1 ∅,q2 ∅];rfl
  rw[<- this];exact h _ e1
theorem a40(hT:TB0 T){c e:b0}(h:Q (.bl (kj c e)) g):b8 T (k+1) 93 [c.d,e.d] g Q E:=by
 refine call_of hT.Nw rfl ?_;dsimp[Du,c8,List.replicate];left;refine v5 (l:=[.int e.lo,.tup (e.lm.map .int),.int e.up,.tup (e.um.map .int),.int e.yr]) rfl ?_;left;refine if2 (λh1=>?_) (λh1=>?_)
 ·left;refine v5 (l:=[.int c.lo,.tup (c.lm.map .int),.int c.up,.tup (c.um.map .int),.int c.yr]) rfl ?_;left;have:kj c e=decide (e.yr<c.yr):=by unfold kj;rw[aw h1];rfl
  rw[<- this];exact h
 ·have:kj c e=false:=by unfold kj;rw[aH h1];rfl
  rw[<- this];exact h
def rC(cs:List b0)(q:b0->b0->Bool):List D:=(List.range cs.length).map λi=>.int ((iy cs.length λj=>q (bT cs j) (bT cs i):Nat):Int)
theorem X7{q:Nat->Bool}:∀i∈(List.range cs.length).filter q,i<cs.length:=λi hi=>aT.mp (bq.mp hi).1
theorem B1{n:Nat}{q:Nat->Bool}:((List.range n).filter q).length<=n:=aD (fG _ _) (by simp)
theorem ZR(hT:TB0 T)(ha:g[a]?=some (.lst (cs.map b0.d)))(hz:cs.length<=9)(hB:∀c∈cs,CB c)(h:∀g' b,Ex g g'->g.length<=b->g'[b]?=some (.lst (rC cs mw))->Q (.ref b) g'):b8 T (k+4) 94 [.ref a] g Q E:=by
 refine call_of hT.Nv rfl ?_;refine comp_map (a8 T _) (λU=>∃z1 z2,U=[some (.ref a),z1,z2]) (λi=>.int ((iy cs.length λj=>mw (bT cs j) (bT cs i):Nat):Int)) (l:=cs.map b0.d) (k:=.lst a) (λg' e=>n6 (a7 (e.at ha))) (by simp;omega) ⟨none,none,rfl⟩ (λi d U g' hx e sh=>?_) (λg' e=>?_) (S5 (a8 T _) (a7 ha) λQ q=>w_var (d:=.ref a) rfl q)
 ·obtain⟨z1,z2,rfl⟩:=sh;rw[ae,aa] at hx;obtain⟨c,hc,rfl⟩:=hx;refine i0 ?_;left;refine x4 (a8 T _) (λU=>∃z1 z2 z3,U=[some c.d,z1,z2,z3]) (λj=>mw (bT cs j) (bT cs i)) (λi=>.int (i:Nat)) (l:=mz (cs.map b0.d)) (k:=.ow a) (λg2 e2=>xZ (a7 ((e.trans e2).at ha))) (by rw[N8];simp;omega) ⟨none,none,none,rfl⟩ (λj d U g2 hx e2 sh=>?_) (λg2 e2=>?_) (DM (a7 (e.at ha)) λQ q=>w_var (d:=.ref a) rfl q)
  ·obtain⟨z1,z2,z3,rfl⟩:=sh;obtain⟨dd,hd,rfl⟩:=ym hx;rw[ae,aa] at hd;obtain⟨c',jj,rfl⟩:=hd;refine B6 rfl ?_;left;refine ZL (k:=k) hT (hB c' (aC jj)) λg3 e3=>?_;left;refine⟨by simp only[C8 jj,C8 hc],e2.trans e3,?_⟩;cases mw c' c with
   |true =>
    refine gR rfl ?_;left;exact⟨rfl,e2.trans e3,_,_,_,rfl⟩
   |false=>exact fB rfl ⟨_,_,_,rfl⟩
  ·left;refine O0 (k:=k+2) hT.si (l:=(List.range cs.length).filter λj=>mw (bT cs j) (bT cs i)) (by have:=b7 (g:=g2) (o:=.lst (((List.range (mz (cs.map b0.d)).length).filter λj=>mw (bT cs j) (bT cs i)).map λi=>D.int (i:Nat)));rw[N8,ak] at this ⊢;exact this) (aD B1 ()) (λj hj=>by have:=X7 j hj;omega) λg3 e3=>?_;exact⟨rfl,(e.trans (e2.trans (Ex.snoc _ _))).trans e3,_,_,rfl⟩
 ·refine h _ _ (e.trans (Ex.snoc _ _)) e.len ?_;rw[b7,ak]
  rfl
theorem XR(hT:TB0 T)(ha:g[a]?=some (.lst (cs.map b0.d)))(hz:cs.length<=9)(h:∀g' b,Ex g g'->g.length<=b->g'[b]?=some (.lst (rC cs kj))->Q (.ref b) g'):b8 T (k+4) 95 [.ref a] g Q E:=by
 refine call_of hT.Nu rfl ?_;refine comp_map (a8 T _) (λU=>∃z1 z2,U=[some (.ref a),z1,z2]) (λi=>.int ((iy cs.length λj=>kj (bT cs j) (bT cs i):Nat):Int)) (l:=cs.map b0.d) (k:=.lst a) (λg' e=>n6 (a7 (e.at ha))) (by simp;omega) ⟨none,none,rfl⟩ (λi d U g' hx e sh=>?_) (λg' e=>?_) (S5 (a8 T _) (a7 ha) λQ q=>w_var (d:=.ref a) rfl q)
 ·obtain⟨z1,z2,rfl⟩:=sh;rw[ae,aa] at hx;obtain⟨c,hc,rfl⟩:=hx;refine i0 ?_;left;refine x4 (a8 T _) (λU=>∃z1 z2 z3,U=[some c.d,z1,z2,z3]) (λj=>kj (bT cs j) (bT cs i)) (λi=>.int (i:Nat)) (l:=mz (cs.map b0.d)) (k:=.ow a) (λg2 e2=>xZ (a7 ((e.trans e2).at ha))) (by rw[N8];simp;omega) ⟨none,none,none,rfl⟩ (λj d U g2 hx e2 sh=>?_) (λg2 e2=>?_) (DM (a7 (e.at ha)) λQ q=>w_var (d:=.ref a) rfl q)
  ·obtain⟨z1,z2,z3,rfl⟩:=sh;obtain⟨dd,hd,rfl⟩:=ym hx;rw[ae,aa] at hd;obtain⟨c',jj,rfl⟩:=hd;refine B6 rfl ?_;left;refine a40 (k:=k+2) hT ?_;left;refine⟨by simp only[C8 jj,C8 hc],e2,?_⟩;cases kj c' c with
   |true =>
    refine gR rfl ?_;left;exact⟨rfl,e2,_,_,_,rfl⟩
   |false=>exact fB rfl ⟨_,_,_,rfl⟩
  ·left;refine O0 (k:=k+2) hT.si (l:=(List.range cs.length).filter λj=>kj (bT cs j) (bT cs i)) (by have:=b7 (g:=g2) (o:=.lst (((List.range (mz (cs.map b0.d)).length).filter λj=>kj (bT cs j) (bT cs i)).map λi=>D.int (i:Nat)));rw[N8,ak] at this ⊢;exact this) (aD B1 ()) (λj hj=>by have:=X7 j hj;omega) λg3 e3=>?_;exact⟨rfl,(e.trans (e2.trans (Ex.snoc _ _))).trans e3,_,_,rfl⟩
 ·refine h _ _ (e.trans (Ex.snoc _ _)) e.len ?_;rw[b7,ak]
  rfl
theorem ZY(hT:TB0 T)(ha:g[a]?=some (.lst (cs.map b0.d)))(hz:cs.length<=9)(hg:cs.all u6=true)(h:Q (.ref g.length) (g++[.lst ((p6 (cs.map b0.lo)).map .int)])):b8 T (k+7) 20 [.ref a,.str "lower"] g Q E:=by
 refine call_of hT.NH rfl ?_;dsimp[BE,c8,List.replicate];left;refine Z2 (k:=k) hT.nf hT.h2 hT.sj hT.vh ha () (λz=>by omega) (λ_ z=>by rw[hg] at z;cases z) λ_ _=>?_;left;refine I0 (k:=k+4) hT.lC (by decide +kernel) (λ_=>?_) (λz=>absurd z (by decide +kernel)) (λz=>absurd rfl z);left;refine Um (a8 T _) (kq (a8 T _) ?_);left;refine⟨a,_,rfl,a7 ha,cs.map b0.d,λi ys U g'=>∃z w,ys=(cs.take i).map b0.lo/\U=[some (.int 0),z,w]/\g'=g,by simp;omega,λi ys U g' p=>?_,⟨none,none,rfl,rfl,rfl⟩,λi c ys U g' hx p=>?_,λys U g' p=>?_⟩
 ·obtain⟨z,w,rfl,rfl,rfl⟩:=p;exact⟨n6 (a7 ha),by simp;omega⟩
 ·obtain⟨z,w,rfl,rfl,rfl⟩:=p;rw[ae,aa] at hx;obtain⟨c,hc,rfl⟩:=hx;left;refine v5 (l:=[.int c.lo,.tup (c.lm.map .int),.int c.up,.tup (c.um.map .int),.int c.yr]) rfl ?_;refine⟨_,rfl,_,_,?_,rfl,rfl⟩;rw[bC,hc];simp
 ·obtain⟨z,w,rfl,rfl,rfl⟩:=p;rw[ak,cN];exact h
def W5(cs:List b0):List D:=(p6 (cs.map b0.lo)).map λd=>.int ((iy cs.length (meant cs .lower d):Nat):Int)
theorem WG(hT:TB0 T)(ha:g[a]?=some (.lst (cs.map b0.d)))(hz:cs.length<=9)(hg:cs.all u6=true)(h:∀g' b,Ex g g'->g.length<=b->g'[b]?=some (.lst (W5 cs))->Q (.ref b) g'):b8 T (k+8) 96 [.ref a] g Q E:=by
 refine call_of hT.Nt rfl ?_;dsimp[Cv,c8,List.replicate];left;have zX:(p6 (cs.map b0.lo)).length<=9:=aD (U1 _) (by simpa using hz);unfold W5 at h;refine E6 (a8 T _) (kq (a8 T _) ?_);left;refine ZY (k:=k) hT ha hz hg ?_;have e0:=Ex.snoc g (O.lst ((p6 (cs.map b0.lo)).map .int));have hb:=b7 (g:=g) (o:=O.lst ((p6 (cs.map b0.lo)).map .int));generalize p6 (cs.map b0.lo)=ds at *;generalize g++[O.lst (ds.map .int)]=g1 at *;refine⟨_,_,rfl,a7 hb,ds.map .int,λi ys U g'=>Ex g1 g'/\ys=(ds.take i).map (λd=>.int ((iy cs.length (meant cs .lower d):Nat):Int))/\∃z1 z2,U=[some (.ref a),z1,z2],by simp;omega,λi ys U g' q=>⟨n6 (a7 (q.1.at hb)),?_⟩,⟨Ex.refl _,rfl,none,none,rfl⟩,λi x ys U g' hx q=>?_,λys U g' q=>?_⟩
 ·obtain⟨_,rfl,_⟩:=q;simp;omega
 ·obtain⟨e1,rfl,z1,z2,rfl⟩:=q;rw[ae,aa] at hx;obtain⟨dd,hd,rfl⟩:=hx;refine i0 ?_;left;refine O6 (k:=k+4) hT.nf hT.lC hT.qr (w:=.lower) ((e0.trans e1).at ha) () λg2 b2 e2 _ uY=>?_;left;refine O0 (k:=k+6) hT.si uY (aD B1 ()) (λj hj=>by have:=X7 j hj;omega) λg3 e3=>?_;refine⟨e1.trans (e2.trans e3),?_,_,_,rfl⟩;rw[bC,hd];simp[iy,jr]
 ·obtain⟨e1,rfl,z1,z2,rfl⟩:=q;rw[ak,cN];exact h _ _ (e0.trans (e1.trans (Ex.snoc _ _))) (aD e0.len e1.len) b7
end
theorem U9{i:Int}{k:Bool->Prop}(ha:d0 g a=some (ms.map .int))(h:k (ms.any λm=>m==i)):pZ g (.int i) (.ref a) k:=by
 refine⟨_,.inr ⟨_,_,_,ha,O8 ms,rfl,lay_ints ms,by rfl,rfl⟩,?_⟩;rw[kK];exact h
theorem Y8{l:List Nat}{k:Bool->Prop}(ha:g[a]?=some (.lst (a9 l)))(h:k (decide (i∈l))):pZ g (.int (i:Nat)) (.ref a) k:=by
 refine U9 (ms:=l.map λ(i:Nat)=>(i:Int)) (by rw[<- BP];exact a7 ha) ?_;have:((l.map λ(i:Nat)=>(i:Int)).any λm=>m==(i:Int))=decide (i∈l):=by
  rw[bg,aV,cJ];constructor
  ·rintro⟨x,hx,e⟩;obtain⟨j,hj,rfl⟩:=aU.mp hx;rw[bx] at e;rw[show i=j by omega];exact hj
  ·exact λhi=>⟨_,aU.mpr ⟨i,hi,rfl⟩,by simp⟩
 rw[this];exact h
structure ny(g:G)(nb lo n:Nat)(B:Nat->Nat)(F:Nat->Nat->Prop):Prop where
 ex:∃as:List Nat,g[nb]?=some (.lst (as.map .ref))/\as.length=n/\as.Nodup/\(∀a∈as,lo<=a/\a≠nb)/\∀i a,as[i]?=some a->∃ms:List Nat,g[a]?=some (.lst (a9 ms))/\ms.length<=B i/\∀m,m∈ms↔F i m
theorem ny.at{g g':G}{nb lo n:Nat}{B:Nat->Nat}{F:Nat->Nat->Prop}(h:ny g nb lo n B F)(e:Ex g g'):ny g' nb lo n B F:=by
 obtain⟨as,h1,h2,h3,h4,h5⟩:=h.ex;refine⟨⟨as,e.at h1,h2,h3,h4,λi a hi=>?_⟩⟩;obtain⟨ms,m1,m2⟩:=h5 i a hi;exact⟨ms,e.at m1,m2⟩
theorem ny.imp{nb lo:Nat}{B B':Nat->Nat}{F F':Nat->Nat->Prop}(h:ny g nb lo n B F)(hB:∀i,i<n->B i<=B' i)(hF:∀i m,i<n->(F i m↔F' i m)):ny g nb lo n B' F' :=
 let ⟨as,h1,h2,h3,h4,h5⟩:=h.ex
 ⟨⟨as,h1,h2,h3,h4,λi a hi=>let ⟨ms,m1,m2,m3⟩:=h5 i a hi
  have iQ:i<n:=by rw[<- h2];exact(av.mp hi).1
  ⟨ms,m1,aD m2 (hB i iQ),λm=>(m3 m).trans (hF i m iQ)⟩⟩⟩
def sY(cs:List b0)(rs:List fJ)(i m:Nat):Prop:=∃r∈rs,meant cs r.w r.y i=true/\m=iy cs.length (meant cs r.w r.x)
def o8(rs:List fJ):List D:=rs.map fJ.d
theorem Cn{l:List α}(h:l.Nodup){a:α}(hi:l[i]?=some a)(hj:l[j]?=some a):i=j:=by
 obtain⟨h1,e1⟩:=av.mp hi;obtain⟨h2,e2⟩:=av.mp hj;exact(lI h).mp (e1.trans e2.symm)
section
variable{T:Nat->Option ba}{d:Nat}
theorem XW(hT:TB0 T)(ha:g[a]?=some (.lst (cs.map b0.d)))(hz:cs.length<=9)(hc:g[c]?=some (.lst (o8 rs)))(hr:rs.length<=900)(h:∀g' b,Ex g g'->g.length<=b->ny g' b g.length cs.length (λ_=>rs.length) (sY cs rs)->Q (.ref b) g'):b8 T (k+4) 97 [.ref a,.ref c] g Q E:=by
 refine call_of hT.Nq rfl ?_;dsimp[P1,c8,List.replicate];left;refine E6 (a8 T _) (kq (a8 T _) ?_);left;refine⟨a,_,rfl,a7 ha,cs.map b0.d,λi ys U g'=>Ex g g'/\(∃as:List Nat,ys=as.map .ref/\as.length=i/\as.Nodup/\∀b∈as,g.length<=b/\g'[b]?=some (.lst []))/\∃z0 z1,U=[z0,z1],by simp;omega,λi ys U g' q=>⟨n6 (a7 (q.1.at ha)),?_⟩,⟨Ex.refl _,⟨[],rfl,rfl,by simp,by simp⟩,none,none,rfl⟩,λi x ys U g' hx q=>?_,λys U g' q=>?_⟩
 ·obtain⟨_,⟨as,rfl,rfl,_⟩,_⟩:=q;simp
 ·obtain⟨e1,⟨as,rfl,hl,nd,hA⟩,z0,z1,rfl⟩:=q;refine i0 ?_;left;refine⟨e1.trans (Ex.snoc _ _),⟨as++[g'.length],by simp,by simp[hl],?_,λb hb=>?_⟩,_,_,rfl⟩
  ·rw[cS];exact⟨nd,by simp,λx hx y hy=>by cases aR.mp hy;exact aM (j9 (hA x hx).2)⟩
  ·rcases aO.mp hb with hb|hb
   ·exact⟨(hA b hb).1,(Ex.snoc _ _).at (hA b hb).2⟩
   ·cases aR.mp hb;exact⟨e1.len,b7⟩
 ·obtain⟨e1,⟨as,rfl,hl,nd,hA⟩,z0,z1,rfl⟩:=q;rw[ak] at hl;have e2:=e1.trans (Ex.snoc g' (O.lst (as.map D.ref)));have lo:=e1.len;have N0:ny (g'++[O.lst (as.map D.ref)]) g'.length g.length cs.length (λ_=>0) (sY cs []):=⟨⟨as,b7,hl,nd,λb hb=>⟨(hA b hb).1,aM (j9 (hA b hb).2)⟩,λi b hb=>⟨[],(Ex.snoc _ _).at (hA b (aC hb)).2,by simp,λm=>⟨λz=>absurd z (by simp),λ⟨r,hr,_⟩=>absurd hr (by simp)⟩⟩⟩⟩
  generalize g'.length=nb at *;refine w9 (a8 T _) (kq (a8 T _) ?_);left;refine⟨c,_,rfl,a7 (e2.at hc),o8 rs,λi U g'=>Ex g g'/\ny g' nb g.length cs.length (λ_=>i) (sY cs (rs.take i))/\∃z3 z4 z5 z6 z7,U=[some (.ref a),some (.ref c),some (.ref nb),z3,z4,z5,z6,z7],λi U g' q=>n6 (a7 (q.1.at hc)),⟨e2,N0,none,none,none,none,none,rfl⟩,λi x U g' hx q=>?_,λU g' q=>?_⟩
  ·obtain⟨e3,N3,z3,z4,z5,z6,z7,rfl⟩:=q;rw[o8,ae,aa] at hx;obtain⟨r,fe,rfl⟩:=hx;have hi:i<rs.length:=(av.mp fe).1;refine B6 (l:=[.str r.w.s,.int r.x,.int r.y]) rfl ?_;left;refine O6 (k:=k) hT.nf hT.lC hT.qr (e3.at ha) () λg4 b4 e4 _ M'=>?_;left;refine O0 (k:=k+2) hT.si M' (aD B1 ()) (λj hj=>by have:=X7 j hj;omega) λg5 e5=>?_;left;have xC:=e3.trans (e4.trans e5);have N5:=N3.at (e4.trans e5);have ef:oP (jr cs r.w r.x)=iy cs.length (meant cs r.w r.x):=rfl;rw[ef];generalize iy cs.length (meant cs r.w r.x)=first at *
   refine w9 (a8 T _) (kq (a8 T _) ?_);left;refine O6 (k:=k) hT.nf hT.lC hT.qr (xC.at ha) () λg6 b6 e6 hb6 Fo=>?_;refine⟨b6,_,rfl,a7 Fo,a9 (jr cs r.w r.y),λj U g'=>Ex g g'/\g'[b6]?=some (.lst (a9 (jr cs r.w r.y)))/\ny g' nb g.length cs.length (λq=>i+if q∈(jr cs r.w r.y).take j then 1 else 0) (λq m=>sY cs (rs.take i) q m\/(q∈(jr cs r.w r.y).take j/\m=first))/\(∀as:List Nat,g'[nb]?=some (.lst (as.map .ref))->b6∉as)/\∃z7,U=[some (.ref a),some (.ref c),some (.ref nb),some (.str r.w.s),some (.int r.x),some (.int r.y),some (.int (first:Nat)),z7],λj U g' q=>n6 (a7 q.2.1),⟨xC.trans e6,Fo,(N5.at e6).imp (λq _=>by simp) (λq m _=>by simp),?_,z7,rfl⟩,λj x U g' hx q=>?_,λU g' q=>?_⟩
   ·intro xV h' hm;obtain⟨Hx,h1,h2,h3,h4,h5⟩:=N5.ex;have:=(e6.at h1).symm.trans h';have e':Hx=xV:=by
     have h0:Hx.map D.ref=xV.map D.ref:=by injection this with w;injection w
     exact(List.map_inj_right (λx y z=>by injection z)).mp h0
    subst e';obtain⟨i',iQ⟩:=fF.mp hm;obtain⟨ms,m1,_⟩:=h5 i' b6 iQ;have:=j9 m1;omega
   ·obtain⟨e7,p7,N7,wV,z7,rfl⟩:=q;rw[a9,ae,aa] at hx;obtain⟨q,hq,rfl⟩:=hx;have Fl:q<cs.length:=X7 q (aC hq);have MB:q∉(jr cs r.w r.y).take j:=λz=>by
     obtain⟨j',Ab⟩:=fF.mp z;have hl:j'<j:=by
      have:=(av.mp Ab).1;simp at this;omega
     rw[gT hl] at Ab;have LD:(jr cs r.w r.y).Nodup:=fK.filter _;have:=Cn LD Ab hq;omega
    have tk:(jr cs r.w r.y).take (j+1)=(jr cs r.w r.y).take j++[q]:=by rw[bC,hq];rfl
    obtain⟨vJ,h1,h2,h3,h4,h5⟩:=N7.ex;have Mw:q<vJ.length:=by omega
    have rX:=ag Mw;generalize vJ[q]=aq at rX;obtain⟨ms,m1,m2,m3⟩:=h5 q aq rX;have gq:gk (vJ.map D.ref) (q:Int)=some (.ref aq):=v9 (by rw[ae,rX];rfl);refine i0 ?_;left;refine m8 (a7 h1) gq ?_;refine V1 (Y8 m1 ?_);left;by_cases lQ:first∈ms
    ·refine fB (by simp[lQ]) ?_;refine⟨e7,p7,N7.imp (λq' _=>?_) (λq' m _=>?_),wV,_,rfl⟩
     ·rw[tk];by_cases z:q'∈(jr cs r.w r.y).take j
      ·simp[z]
      ·simp[z]
     ·rw[tk];simp only[List.mem_append,List.mem_singleton];constructor
      ·rintro(z|⟨z1,z2⟩)
       ·exact .inl z
       ·exact .inr ⟨.inl z1,z2⟩
      ·rintro(z|⟨z1|z1,z2⟩)
       ·exact .inl z
       ·exact .inr ⟨z1,z2⟩
       ·subst z1 z2;exact(m3 m).mp lQ
    ·refine gR (by simp[lQ]) ?_;left;refine m8 (a7 h1) gq ?_;left;rw[aF MB] at m2;refine K2 m1 (by simp[a9];omega) ?_;have mU:=aC rX;have eZ:=(h4 aq mU).2;have MC:aq≠b6:=λz=>wV vJ h1 (z▸mU);have FZ:=c7 (o':=O.lst (a9 ms++[D.int (first:Nat)])) h1 eZ;refine⟨⟨by simp;exact e7.len,λi' iQ=>by rw[ax (by have:=(h4 aq mU).1;omega)];exact e7.old i' iQ⟩,c7 p7 MC,⟨⟨vJ,FZ,h2,h3,h4,λi' b hb=>?_⟩⟩,λxV h'=>?_,_,rfl⟩
     ·by_cases xh:i'=q
      ·subst xh;have:b=aq:=by rw[rX] at hb;injection hb with z;exact z.symm
       subst this;refine⟨ms++[first],by rw[get_set m1];simp[a9],?_,λm=>?_⟩
       ·rw[tk];simp;omega
       ·rw[aO,aR,m3 m,tk];simp only[List.mem_append,List.mem_singleton];constructor
        ·rintro((z|⟨z1,z2⟩)|z)
         ·exact .inl z
         ·exact .inr ⟨.inl z1,z2⟩
         ·exact .inr ⟨.inr trivial,z⟩
        ·rintro(z|⟨z1|z1,z2⟩)
         ·exact .inl (.inl z)
         ·exact .inl (.inr ⟨z1,z2⟩)
         ·exact .inr z2
      ·have rW:aq≠b:=λz=>xh (Cn h3 hb (z▸rX));obtain⟨LO,k1,k2,k3⟩:=h5 i' b hb;refine⟨LO,c7 k1 rW,?_,λm=>(k3 m).trans ?_⟩
       ·rw[tk];simpa[xh] using k2
       ·rw[tk];simp[xh]
     ·rw[FZ] at h';exact wV xV (h1.trans h')
   ·obtain⟨e7,p7,N7,wV,z7,rfl⟩:=q;rw[a9,ak,cN] at N7;refine⟨e7,N7.imp (λq _=>by split<;>omega) (λq m hq=>?_),_,_,_,_,_,rfl⟩;have tk:rs.take (i+1)=rs.take i++[r]:=by rw[bC,fe];rfl
    unfold sY;rw[tk];simp only[List.mem_append,List.mem_singleton];constructor
    ·rintro(⟨r',h1,h2⟩|⟨h1,h2⟩)
     ·exact⟨r',.inl h1,h2⟩
     ·exact⟨r,.inr rfl,(bq.mp h1).2,by rw[h2];exact ef.symm⟩
    ·rintro⟨r',h1|h1,h2,h3⟩
     ·exact .inl ⟨r',h1,h2,h3⟩
     ·subst h1;exact .inr ⟨bq.mpr ⟨aT.mpr hq,h2⟩,by rw[h3];exact ef⟩
  ·obtain⟨e3,N3,z3,z4,z5,z6,z7,rfl⟩:=q;rw[o8,ak,cN] at N3;left;exact h _ _ e3 lo N3
end
def n5(cs:List b0)(r:fJ):Bool:=!decide (r.x=r.y)&&(!(jr cs r.w r.x).isEmpty&&!(jr cs r.w r.y).isEmpty)
theorem in_words{w:RW}{kb:Bool->Prop}(h:kb true):pZ g (.str w.s) (.tup [.str "coin",.str "lower",.str "upper"]) kb:=by
 refine⟨_,.inr ⟨_,[.str "coin",.str "lower",.str "upper"],.str w.s,rfl,rfl,rfl,by decide +kernel,by cases w<;>decide +kernel,rfl⟩,?_⟩;have:([PyData.str "coin",PyData.str "lower",PyData.str "upper"].any λq=>PyData.eqv q (.str w.s))=true:=by
  cases w<;>decide +kernel
 rw[this];exact h
theorem ne_nil{l:List Nat}(ha:g[a]?=some (.lst (a9 l)))(hb:g[b]?=some (.lst []))(h:Q (.bl (!l.isEmpty)) g):cP (.cmp .NotEq) [.ref a,.ref b] g Q:=by
 refine DL (XC (ms:=l.map λ(i:Nat)=>(i:Int)) (ns:=[]) (by rw[<- BP];exact a7 ha) (a7 hb) ?_);have:decide ((l.map λ(i:Nat)=>(i:Int))=[])=l.isEmpty:=by cases l<;>simp
 rw[this];exact h
structure Bd(g:G)(b:Nat)(cs:List b0)(v:Int)(rs:List fJ):Prop where
 ex:∃w l d nb,g[b]?=some (.ins "Bounds" [("size",.int cs.length),("full",.int ((2 ^ cs.length-1:Nat):Int)),("room",.int v),("worn_by_place",.ref w),("later_by_place",.ref l),("lower_dies",.ref d),("needed_by_place",.ref nb)]) /\
  g[w]?=some (.lst (rC cs mw))/\g[l]?=some (.lst (rC cs kj))/\g[d]?=some (.lst (W5 cs))/\ny g nb 0 cs.length (λ_=>rs.length) (sY cs rs)
theorem Bd.at{g g':G}{b:Nat}{cs:List b0}{v:Int}{rs:List fJ}(h:Bd g b cs v rs)(e:Ex g g'):Bd g' b cs v rs:=by
 obtain⟨w,l,d,nb,h1,h2,h3,h4,h5⟩:=h.ex;exact⟨⟨w,l,d,nb,e.at h1,e.at h2,e.at h3,e.at h4,h5.at e⟩⟩
theorem Yz(l:List α)(z:α)(q:α->Bool):((List.range l.length).filter λi=>q (l.getD i z)).length=(l.filter q).length:=by
 have e:l=(List.range l.length).map λi=>l.getD i z:=by
  refine bS λi=>?_;rw[ae];by_cases hi:i<l.length
  ·rw[cb hi,ag hi];simp[List.getD,hi]
  ·rw[aS (),aS (by simpa using hi)]
   rfl
 conv=>rhs;rw[e,List.filter_map,ak]
 rfl
theorem Jy{q:Nat->Bool}{s:Nat}{S:Nat->Bool}(h:∀i,i<n->s.testBit i=S i):((Builtin.bitAnd ((iy n q:Nat):Int) (s:Nat)) != 0)=(List.range n).any λi=>S i&&q i:=by
 rw[Bv,Nat.and_comm,yk,bg,aV,aV];constructor
 ·rintro⟨i,h1,h2⟩;exact⟨i,h1,by rw[<- h i (aT.mp h1)];exact h2⟩
 ·rintro⟨i,h1,h2⟩;exact⟨i,h1,by rw[h i (aT.mp h1)];exact h2⟩
theorem a37{s:Nat}(h:s<2 ^ n)(hi:i<n):(2 ^ n-1-s).testBit i=!s.testBit i:=by
 grind
theorem M6(s p i:Nat):(s |||2 ^ p).testBit i=(s.testBit i||decide (i=p)):=by
 rw[Nat.testBit_or,Nat.testBit_two_pow]
 congr 1
 exact dH.mpr eq_comm
theorem X0{s:Nat}(h:s<2 ^ n)(hp:p<n):s |||2 ^ p<2 ^ n:=Nat.or_lt_two_pow h (yR () hp)
section
variable{T:Nat->Option ba}{d:Nat}
theorem ZI(hT:TB0 T){r:fJ}(ha:g[a]?=some (.lst (cs.map b0.d)))(hz:cs.length<=1000)(h:∀g',Ex g g'->Q (.bl (n5 cs r)) g'):b8 T (k+4) 88 [.ref a,r.d] g Q E:=by
 refine call_of hT.Nz rfl ?_;dsimp[Cg,c8,List.replicate];left;refine B6 (l:=[.str r.w.s,.int r.x,.int r.y]) rfl ?_;left;refine V1 (in_words ?_);left;refine if2 (λh1=>?_) (λh1=>?_)
 ·have:n5 cs r=false:=by unfold n5;rw[aw h1];rfl
  rw[<- this];exact h _ (Ex.refl _)
 ·left;refine O6 (k:=k) hT.nf hT.lC hT.qr ha hz λg1 b1 e1 _ uZ=>?_;left;refine ne_nil ((Ex.snoc _ _).at uZ) b7 ?_;left;cases h2:(jr cs r.w r.x).isEmpty with
  |true =>
   refine fB rfl ?_;have:n5 cs r=false:=by unfold n5;rw[aH h1,h2];rfl
   rw[<- this];exact h _ (e1.trans (Ex.snoc _ _))
  |false =>
   refine gR rfl ?_;left;refine O6 (k:=k) hT.nf hT.lC hT.qr ((e1.trans (Ex.snoc _ _)).at ha) hz λg2 b2 e2 _ uY=>?_;left;refine ne_nil ((Ex.snoc _ _).at uY) b7 ?_;have:n5 cs r=!(jr cs r.w r.y).isEmpty:=by unfold n5;rw[aH h1,h2];rfl
   rw[<- this];exact h _ ((e1.trans (Ex.snoc _ _)).trans (e2.trans (Ex.snoc _ _)))
theorem WU(hT:TB0 T)(ha:g[a]?=some (.lst (cs.map b0.d)))(hz:cs.length<=1000)(hc:g[c]?=some (.lst (o8 rs)))(hr:rs.length<=900)(h:rs.all (n5 cs)=true->∀g',Ex g g'->Q .bO g')(hn:rs.all (n5 cs)=false->∀g',Ex g g'->False):b8 T (k+5) 89 [.ref a,.ref c] g Q E:=by
 refine call_of hT.Ny rfl ?_;dsimp[V7,c8,List.replicate];left;refine w9 (a8 T _) (zG ?_);left;refine⟨c,_,rfl,a7 hc,mz (o8 rs),λi U g'=>Ex g g'/\(∃z2 z3,U=[some (.ref a),some (.ref c),z2,z3])/\(rs.take i).all (n5 cs)=true,λi U g' q=>xZ (a7 (q.1.at hc)),⟨Ex.refl _,⟨none,none,rfl⟩,rfl⟩,λi x U g' hx q=>?_,λU g' q=>?_⟩
 ·obtain⟨e1,⟨z2,z3,rfl⟩,q⟩:=q;obtain⟨dd,hd,rfl⟩:=ym hx;rw[o8,ae,aa] at hd;obtain⟨r,fe,rfl⟩:=hd;have tk:rs.take (i+1)=rs.take i++[r]:=by rw[bC,fe];rfl
  refine B6 rfl ?_
  try show wpS _ _ _ _ _ _
  left;refine ZI (k:=k) hT (e1.at ha) hz λg2 e2=>?_;left;cases hg:n5 cs r with
  |true =>
   left;exact⟨e1.trans e2,⟨_,_,rfl⟩,by rw[tk,mD,q];simp[hg]⟩
  |false =>
   left;refine hn ?_ _ (e1.trans e2);rw[List.all_eq_false];exact⟨r,aC fe,by rw[hg];decide⟩
 ·obtain⟨e1,⟨z2,z3,rfl⟩,q⟩:=q;rw[N8,o8,ak,cN] at q;exact h q _ e1
theorem WT(hT:TB0 T)(ve:T 42=some F6)(Ax:T 98=some O2)(ha:g[a]?=some (.lst (cs.map b0.d)))(hz:cs.length<=1000)(hc:g[c]?=some (.lst (o8 rs)))(hr:rs.length<=900)(hm:9<cs.length->False)(hb:cs.length<=9->cs.all u6=false->False)(hv:cs.length<=9->cs.all u6=true->¬(1<=v/\v<=9)->False)(hw:cs.length<=9->cs.all u6=true->1<=v/\v<=9->rs.all (n5 cs)=false->∀g',Ex g g'->False)(h:cs.length<=9->cs.all u6=true->1<=v/\v<=9->rs.all (n5 cs)=true->∀g',Ex g g'->Q .bO g'):b8 T (k+7) 98 [.ref a,.int v,.ref c] g Q E:=by
 refine call_of Ax rfl ?_;dsimp[O2,c8,List.replicate];left;refine Z2 (k:=k) hT.nf hT.h2 hT.sj hT.vh ha hz hm hb λh9 hg=>?_;left;refine WZ (k:=k+3) hT.nf ve (λv1 v2=>?_) (hv h9 hg);left;exact WU (k:=k+1) hT ha hz hc hr (h h9 hg ⟨v1,v2⟩) (hw h9 hg ⟨v1,v2⟩)
theorem Jm{f:Str}(fs:List (Str×D)):(l9 f x fs).length<=fs.length+1:=by
 induction fs with
 |nil=>simp[l9]
 |cons y r ih =>
  unfold l9;split<;>simp
  exact ih
theorem X6{f:Str}{fs:List (Str×D)}(h:fs.length+1<n):(l9 f x fs).length<n:=cZ (Jm fs) h
theorem X5{f:Str}{fs:List (Str×D)}(h:fs.length+(m+1)<n):(l9 f x fs).length+m<n:=by
 have:=Jm (f:=f) (x:=x) fs;omega
def f3(n:Nat)(v:Int):List (Str×D):=[("size",.int n),("full",.int ((2 ^ n-1:Nat):Int)),("room",.int v)]
theorem Z0(n:Nat)(v:Int):(f3 n v).length=3:=rfl
theorem WO(hT:TB0 T)(ha:g[a]?=some (.lst (cs.map b0.d)))(hz:cs.length<=9)(hg:cs.all u6=true)(hB:∀c∈cs,CB c)(hc:g[c]?=some (.lst (o8 rs)))(hr:rs.length<=900)(hb:g[b]?=some (.ins "Bounds" []))(h:∀g',g.length<=g'.length->(∀i,i<g.length->i≠b->g'[i]?=g[i]?)->Bd g' b cs v rs->Q .bO g'):b8 T (k+9) 113 [.ref b,.ref a,.int v,.ref c] g Q E:=by
 refine call_of hT.AF rfl ?_;dsimp[V9,c8,List.replicate];have ur:b≠a:=λz=>by subst z;rw[ha] at hb;cases hb
 have wU:b≠c:=λz=>by subst z;rw[hc] at hb;cases hb
 left;refine Z9 hb (by simp) (by simp) ?_;left;have rY:=c7 (o':=O.ins "Bounds" (l9 "size" (.int (cs.map b0.d).length) [])) ha ur;refine E2 (a7 rY) ?_;refine CH ⟨by omega,by simp;omega,by decide⟩ ?_;left;refine Z9 (get_set hb) (by simp) (by first|(simp;done)|(refine X6 ?_;repeat (first|(rw[Z0];omega)|(simp;done)|refine X5 ?_))) ?_;rw[ir];left;refine Z9 (get_set hb) (by simp) (by first|(simp;done)|(refine X6 ?_;repeat (first|(rw[Z0];omega)|(simp;done)|refine X5 ?_))) ?_;rw[ir];have e0:l9 "room" (.int v) (l9 "full" (.int (1*2 ^ Int.toNat ((cs.map b0.d).length:Int)-1)) (l9 "size" (.int (cs.map b0.d).length) []))=(f3 cs.length v):=by
  have:(1*2 ^ Int.toNat ((cs.map b0.d).length:Int)-1:Int)=((2 ^ cs.length-1:Nat):Int):=by
   have:=eX (n:=cs.length);rw[Int.natCast_sub this];simp
  rw[this,ak]
  rfl
 simp only[e0];have kp:∀(g1:G) (o:O),Ex (g.set b o) g1->(∀i,i<g.length->i≠b->g1[i]?=g[i]?)/\g.length<=g1.length:=λg1 o e=>⟨λi hi hn=>by rw[e.old i (by simpa using hi),ax (cw hn)],by have:=e.len;simpa using this⟩
 generalize ho:O.ins "Bounds" (f3 cs.length v)=o1;have uZ:=get_set (o':=o1) hb;have rY:=c7 (o':=o1) ha ur;have qm:=c7 (o':=o1) hc wU;have k1:=kp _ o1 (Ex.refl _);generalize g.set b o1=g1 at *;subst ho;left;refine ZR (k:=k+4) hT rY hz hB λg2 w e2 hw1 hw=>?_;left;refine Z9 (e2.at uZ) (by simp) (by rw[Z0];omega) ?_;have lw:w≠b:=λz=>by have:=j9 uZ;omega
 have Ap:=get_set (o':=O.ins "Bounds" (l9 "worn_by_place" (.ref w) (f3 cs.length v))) (e2.at uZ);have Mr:=c7 (o':=O.ins "Bounds" (l9 "worn_by_place" (.ref w) (f3 cs.length v))) hw lw.symm;have xo:=c7 (o':=O.ins "Bounds" (l9 "worn_by_place" (.ref w) (f3 cs.length v))) (e2.at rY) ur;have xj:=c7 (o':=O.ins "Bounds" (l9 "worn_by_place" (.ref w) (f3 cs.length v))) (e2.at qm) wU;have k3:(∀i,i<g.length->i≠b->(g2.set b (O.ins "Bounds" (l9 "worn_by_place" (.ref w) (f3 cs.length v))))[i]?=g[i]?)/\g.length<=(g2.set b (O.ins "Bounds" (l9 "worn_by_place" (.ref w) (f3 cs.length v)))).length:=⟨λi hi hn=>by rw[ax (cw hn),e2.old i ()];exact k1.1 i hi hn,by simp;have:=e2.len;omega⟩
 generalize g2.set b (O.ins "Bounds" (l9 "worn_by_place" (.ref w) (f3 cs.length v)))=g3 at *;left;refine XR (k:=k+4) hT xo hz λg4 l e4 jE hl=>?_;left;refine Z9 (e4.at Ap) (by simp) (by first|(simp;done)|(refine X6 ?_;repeat (first|(rw[Z0];omega)|(simp;done)|refine X5 ?_))) ?_;have ll:l≠b:=λz=>by have:=j9 Ap;omega
 generalize ho:O.ins "Bounds" (l9 "later_by_place" (.ref l) (l9 "worn_by_place" (.ref w) (f3 cs.length v)))=o5;have Ao:=get_set (o':=o5) (e4.at Ap);have Mq:=c7 (o':=o5) (e4.at Mr) lw.symm;have ML:=c7 (o':=o5) hl ll.symm;have FP:=c7 (o':=o5) (e4.at xo) ur;have MX:=c7 (o':=o5) (e4.at xj) wU;have k5:(∀i,i<g.length->i≠b->(g4.set b o5)[i]?=g[i]?)/\g.length<=(g4.set b o5).length:=⟨λi hi hn=>by rw[ax (cw hn),e4.old i ()];exact k3.1 i hi hn,by simp;have:=e4.len;omega⟩
 generalize g4.set b o5=g5 at *;subst ho;left;refine WG (k:=k) hT FP hz hg λg6 dd e6 FH hd=>?_;left;refine Z9 (e6.at Ao) (by simp) (by first|(simp;done)|(refine X6 ?_;repeat (first|(rw[Z0];omega)|(simp;done)|refine X5 ?_))) ?_;have ld:dd≠b:=λz=>by have:=j9 Ao;omega
 generalize ho:O.ins "Bounds" (l9 "lower_dies" (.ref dd) (l9 "later_by_place" (.ref l) (l9 "worn_by_place" (.ref w) (f3 cs.length v))))=o7;have An:=get_set (o':=o7) (e6.at Ao);have Mp:=c7 (o':=o7) (e6.at Mq) lw.symm;have MK:=c7 (o':=o7) (e6.at ML) ll.symm;have MU:=c7 (o':=o7) hd ld.symm;have Nb:=c7 (o':=o7) (e6.at FP) ur;have MW:=c7 (o':=o7) (e6.at MX) wU;have k7:(∀i,i<g.length->i≠b->(g6.set b o7)[i]?=g[i]?)/\g.length<=(g6.set b o7).length:=⟨λi hi hn=>by rw[ax (cw hn),e6.old i ()];exact k5.1 i hi hn,by simp;have:=e6.len;omega⟩
 generalize g6.set b o7=g7 at *;subst ho;left;refine XW (k:=k+4) hT Nb hz MW hr λg8 nb e8 xf hn=>?_;left;refine Z9 (e8.at An) (by simp) (by first|(simp;done)|(refine X6 ?_;repeat (first|(rw[Z0];omega)|(simp;done)|refine X5 ?_))) ?_;have lb7:=j9 An;have ln:nb≠b:=λz=>by omega
 generalize ho:O.ins "Bounds" (l9 "needed_by_place" (.ref nb) (l9 "lower_dies" (.ref dd) (l9 "later_by_place" (.ref l) (l9 "worn_by_place" (.ref w) (f3 cs.length v)))))=o9;refine h _ (by simp;have:=e8.len;omega) (λi hi hn=>by rw[ax (cw hn),e8.old i ()];exact k7.1 i hi hn) ⟨⟨w,l,dd,nb,?_,c7 (e8.at Mp) lw.symm,c7 (e8.at MK) ll.symm,c7 (e8.at MU) ld.symm,?_⟩⟩
 ·rw[get_set (e8.at An),<- ho]
  rfl
 ·obtain⟨as,q1,q2,q3,q4,q5⟩:=hn.ex;exact⟨⟨as,c7 q1 ln.symm,q2,q3,λx hx=>⟨by omega,(q4 x hx).2⟩,λi x hx=>let ⟨ms,m1,m2⟩:=q5 i x hx;⟨ms,c7 m1 (λz=>by have:=(q4 x (aC hx)).1;omega),m2⟩⟩⟩
end
section
variable{T:Nat->Option ba}{d:Nat}
theorem ZC(hT:TB T)(ha:g[a]?=some (.lst (cs.map b0.d)))(hz:cs.length<=1000)(hB:∀c∈cs,CB c)(hc:g[c]?=some (.lst (o8 rs)))(hr:rs.length<=900)(hm:9<cs.length->False)(hb:cs.length<=9->cs.all u6=false->False)(hv:cs.length<=9->cs.all u6=true->¬(1<=v/\v<=9)->False)(hw:cs.length<=9->cs.all u6=true->1<=v/\v<=9->rs.all (n5 cs)=false->∀g',Ex g g'->False)(h:cs.length<=9->cs.all u6=true->1<=v/\v<=9->rs.all (n5 cs)=true->∀g' b,Ex g g'->g.length<=b->Bd g' b cs v rs->Q (.ref b) g'):b8 T (k+10) 99 [.ref a,.int v,.ref c] g Q E:=by
 refine call_of hT.Np rfl ?_;dsimp[Ce,c8,List.replicate];left;refine WT (k:=k+2) hT.toTB0 hT.ve hT.Ax ha hz hc hr hm hb hv hw λh9 hg hv hR g1 e1=>?_;left;have x1:=Ex.snoc g1 (O.ins "Bounds" []);refine WO (k:=k) hT (x1.at (e1.at ha)) h9 hg hB (x1.at (e1.at hc)) hr b7 λg2 l2 o2 B2=>?_;refine⟨rfl,h h9 hg hv hR g2 _ ⟨by have:=e1.len;simp at l2;omega,λi hi=>?_⟩ e1.len B2⟩;have:=e1.len;rw[o2 i (by simp;omega) (),x1.old i ()];exact e1.old i hi
theorem HV(hT:TB T)(ha:g[a]?=some (.lst (cs.map b0.d)))(hz:cs.length<=9)(hg:cs.all u6=true)(hB:∀c∈cs,CB c)(hv:1<=v/\v<=9)(hc:g[c]?=some (.lst (o8 rs)))(hr:rs.length<=900)(hR:rs.all (n5 cs)=true)(h:∀g' b,Ex g g'->g.length<=b->Bd g' b cs v rs->Q (.ref b) g'):b8 T (k+10) 99 [.ref a,.int v,.ref c] g Q E :=
 ZC hT ha () hB hc hr (λz=>by omega) (λ_ z=>by rw[hg] at z;cases z) (λ_ _ z=>absurd hv z) (λ_ _ _ z=>by rw[hR] at z;cases z) λ_ _ _ _=>h
theorem WV(hT:TB0 T)(B:Bd g b cs v rs)(hz:cs.length<=9){s:Nat}(hs:s<2 ^ cs.length)(hp:p<cs.length)(h:∀g',Ex g g'->Q (.int (vE cs s.testBit p:Nat)) g'):b8 T (k+2) 100 [.ref b,.int (s:Nat),.int (p:Nat)] g Q E:=by
 refine call_of hT.AL rfl ?_;dsimp[Cw,c8,List.replicate];obtain⟨w,l,dd,nb,h1,h2,h3,h4,h5⟩:=B.ex;left;refine A6 (k:=k) hT.og () ?_;left;refine W3 h1 rfl ?_;left;have e1:((2 ^ cs.length-1:Nat):Int)-(s:Nat)=((2 ^ cs.length-1-s:Nat):Int):=by omega
 rw[e1];have zX:(p6 (cs.map b0.lo)).length<=9:=aD (U1 _) (by simpa using hz);have MQ:(W5 cs).length=(p6 (cs.map b0.lo)).length:=by simp[W5]
 refine x4 (a8 T _) (λU=>∃z2 z3,U=[some (.int ((2 ^ cs.length-1-s:Nat):Int)),some (.int ((s |||2 ^ p:Nat):Int)),z2,z3]) (λi=>Z6 cs s.testBit p ((p6 (cs.map b0.lo)).getD i 0)) (λi=>(W5 cs).getD i .bO) (l:=W5 cs) (k:=.lst dd) (λg' e=>n6 (a7 (e.at h4))) () ⟨none,none,rfl⟩ (λi x U g' hx e sh=>?_) (λg' e=>?_) (S5 (a8 T _) (a7 h4) λQ q=>?_)
 ·obtain⟨z2,z3,rfl⟩:=sh;have wZ:=hx;rw[W5,ae,aa] at wZ;obtain⟨nr,hd,rfl⟩:=wZ;have eg:(p6 (cs.map b0.lo)).getD i 0=nr:=by simp[List.getD,hd]
  refine i0 ?_;left;refine vK ?_;left;have b1:=Jy (n:=cs.length) (q:=meant cs .lower nr) (s:=s |||2 ^ p) (S:=λi=>s.testBit i||decide (i=p)) (λi _=>M6 s p i);have b2:=Jy (n:=cs.length) (q:=meant cs .lower nr) (s:=2 ^ cs.length-1-s) (S:=λi=>!s.testBit i) (λi hi=>a37 hs hi);rw[b1,eg];have hu:Z6 cs s.testBit p nr=(((List.range cs.length).any λi=>(s.testBit i||decide (i=p))&&meant cs .lower nr i)&&(List.range cs.length).any λi=>!s.testBit i&&meant cs .lower nr i):=rfl;rw[hu];cases (List.range cs.length).any λi=>(s.testBit i||decide (i=p))&&meant cs .lower nr i with
  |false =>
   refine fB rfl ?_;exact⟨rfl,e,fB rfl ⟨_,_,rfl⟩⟩
  |true =>
   refine gR rfl ?_;left;refine vK ?_;left;rw[b2,pH];refine⟨rfl,e,?_⟩;cases (List.range cs.length).any λi=>!s.testBit i&&meant cs .lower nr i with
   |false=>exact fB rfl ⟨_,_,rfl⟩
   |true =>
    refine gR rfl ?_;left;refine⟨?_,e,_,_,rfl⟩;simp[List.getD,hx]
 ·refine E2 (a7 b7) ?_;have:(((List.range (W5 cs).length).filter λi=>Z6 cs s.testBit p ((p6 (cs.map b0.lo)).getD i 0)).map λi=>(W5 cs).getD i .bO).length=vE cs s.testBit p:=by
   rw[ak,MQ,Yz (p6 (cs.map b0.lo)) 0 (Z6 cs s.testBit p)]
   rfl
  rw[this];exact h _ (e.trans (Ex.snoc _ _))
 ·left;exact W3 h1 rfl q
theorem IM{q:b0->b0->Bool}(hp:p<cs.length):gk (rC cs q) (p:Int)=some (.int ((iy cs.length λj=>q (bT cs j) (bT cs p):Nat):Int)):=v9 (by rw[rC,ae,cb hp];rfl)
theorem Jz{s:Nat}{q:Nat->Bool}:((Builtin.bitAnd (s:Nat) ((iy n q:Nat):Int)) != 0)=(List.range n).any λi=>s.testBit i&&q i:=by rw[Bv,yk]
theorem WJ(hT:TB0 T)(B:Bd g b cs v rs)(hz:cs.length<=9)(hr:rs.length<=900){s:Nat}(hs:s<2 ^ cs.length)(hp:p<cs.length)(h:∀g',Ex g g'->Q (xy (fault cs v rs s.testBit p)) g'):b8 T (k+3) 101 [.ref b,.int (s:Nat),.int (p:Nat)] g Q E:=by
 refine call_of hT.AK rfl ?_;dsimp[Cy,c8,List.replicate];obtain⟨w,l,dd,nb,h1,h2,h3,h4,h5⟩:=B.ex;left;refine W3 h1 rfl ?_;left;refine m8 (a7 h2) (IM hp) ?_;refine vK ?_;left;rw[Jz];cases c1:(List.range cs.length).any λi=>s.testBit i&&mw (bT cs i) (bT cs p) with
 |true =>
  refine gR rfl ?_;have:fault cs v rs s.testBit p="wear":=by unfold fault K0;rw[aJ c1]
  rw[this] at h;exact h _ (Ex.refl _)
 |false =>
 refine fB rfl ?_;left;refine W3 h1 rfl ?_;left;refine m8 (a7 h3) (IM hp) ?_;refine vK ?_;left;rw[Jz];cases c2:(List.range cs.length).any λi=>s.testBit i&&kj (bT cs i) (bT cs p) with
 |true =>
  refine gR rfl ?_;have:fault cs v rs s.testBit p="year":=by unfold fault K0 J6;rw[aF (by rw[c1];decide),aJ c2]
  rw[this] at h;exact h _ (Ex.refl _)
 |false =>
 refine fB rfl ?_;left;refine WV (k:=k) hT B hz hs hp λg2 e2=>?_;left;refine W3 (e2.at h1) rfl ?_;left;refine if2 (λc3=>?_) (λc3=>?_)
 ·have:fault cs v rs s.testBit p="anvil":=by unfold fault K0 J6;rw[aF (by rw[c1];decide),aF (by rw[c2];decide),aJ c3]
  rw[this] at h;exact h _ e2
 left;obtain⟨as,q1,q2,q3,q4,q5⟩:=h5.ex;have Mx:p<as.length:=by omega
 have Aq:=ag Mx;generalize as[p]=ap at Aq;obtain⟨ms,m1,m2,m3⟩:=q5 p ap Aq;refine comp_map (a8 T _) (λU=>∃z1 z2,U=[some (.int (s:Nat)),z1,z2]) (λi=>.int ((s &&& ms.getD i 0:Nat):Int)) (l:=a9 ms) (k:=.lst ap) (λg' e=>n6 (a7 ((e2.trans e).at m1))) (by simp[a9];omega) ⟨none,none,rfl⟩ (λi x U g' hx e sh=>?_) (λg' e=>?_) (S5 (a8 T _) (a7 (e2.at m1)) λQ q=>?_)
 ·obtain⟨z1,z2,rfl⟩:=sh;rw[a9,ae,aa] at hx;obtain⟨m,hm,rfl⟩:=hx;refine i0 ?_;left;refine vK ?_;refine⟨?_,e,_,_,rfl⟩;rw[Bv];simp[List.getD,hm]
 ·refine VJ (ns:=(List.range (a9 ms).length).map λi=>((s &&& ms.getD i 0:Nat):Int)) (a7 (by rw[bD];exact b7)) ?_;have en:(((List.range (a9 ms).length).map λi=>((s &&& ms.getD i 0:Nat):Int)).all λn=>n != 0)=Q3 cs rs s.testBit p:=by
   rw[bg,cB];unfold Q3;rw[cB];constructor
   ·intro hA r hr;cases zU:meant cs r.w r.y p with
    |false=>rfl
    |true =>
     have hm:=(m3 (iy cs.length (meant cs r.w r.x))).mpr ⟨r,hr,zU,rfl⟩;obtain⟨i,hi⟩:=fF.mp hm;have Ad:=(av.mp hi).1;have:=hA ((s &&& iy cs.length (meant cs r.w r.x):Nat):Int) (aU.mpr ⟨i,aT.mpr (by simpa[a9] using Ad),by simp[List.getD,hi]⟩);rw[yk] at this;exact this
   ·intro hA x hx;obtain⟨i,hi,rfl⟩:=aU.mp hx;have hi:i<ms.length:=by simpa[a9] using hi
    have hm:ms.getD i 0∈ms:=by simp[List.getD,hi]
    obtain⟨r,hr,zU,em⟩:=(m3 _).mp hm;have:=hA r hr;rw[zU,Bool.not_true,pI] at this;rw[em,yk];exact this
  rw[en];left;cases c4:Q3 cs rs s.testBit p with
  |true =>
   have:fault cs v rs s.testBit p="":=by unfold fault K0 J6;rw[aF (by rw[c1];decide),aF (by rw[c2];decide),aF c3,aJ c4]
   rw[this] at h;exact h _ (e2.trans (e.trans (Ex.snoc _ _)))
  |false =>
   have:fault cs v rs s.testBit p="rule":=by unfold fault K0 J6;rw[aF (by rw[c1];decide),aF (by rw[c2];decide),aF c3,aF (by rw[c4];decide)]
   rw[this] at h;exact h _ (e2.trans (e.trans (Ex.snoc _ _)))
 ·left;refine W3 (e2.at h1) rfl ?_;left;exact m8 (a7 (e2.at q1)) (v9 (by rw[ae,Aq];rfl)) q
end
def sX:ba:=⟨2,5,(.seq (.set 2 (cK (.prim .lst (oN (iO "coin") (iO "coin") (iO "lower") (iO "upper"))) (.call 4 (du aI (aY 4))))) (.seq (.set 3 (dB .jb (dB .len bh))) (.seq (.ifs (dY .Eq br (iO "lower")) (.seq (.set 3 (dB .sset (.comp [] 2 (.one 1) (.fc bh) .no (cK bh (aY 0))))) .pass) .pass) (.seq (.ifs (dY .Eq br (iO "upper")) (.seq (.set 3 (dB .sset (.comp [] 2 (.one 1) (.fc bh) .no (cK bh (aY 2))))) .pass) .pass) (.seq (.ifs (dY .Lt (dB .len bH) (aY 2)) (.seq (.ret (.lit .bO)) .pass) .pass) (.seq (.set 4 (.call 4 (du aI (dB .len bH)))) (.seq (.ret (.prim .tup (gH br (cK bH cF) (cK bH (bQ (.bin .Mod) (bQ (.bin .Add) (bQ (.bin .Add) cF (aY 1)) (.call 4 (du aI (bQ (.bin .Sub) (dB .len bH) (aY 1))))) (dB .len bH)))))) .pass)))))))⟩
def Dv:ba:=⟨2,5,(.seq (.set 2 (.prim .lst .nil)) (.seq (.dC (.one 3) (.dW (cK (.prim .lst (FX (aY 0) (aY 0) (aY 1) (aY 1) (aY 2) (aY 4))) (.call 4 (du aI (aY 6))))) (.seq (.set 4 (.call 105 (du aI bh))) (.seq (.ifs (dY .IsNot cF (.lit .bO)) (.seq (.expr (.eE .append br (fg cF))) .pass) .pass) .pass))) (.seq (.ret br) .pass)))⟩
def Cj:ba:=⟨4,8,(.seq (.lK (.many [4,5,6]) bH) (.seq (.ifs (dY .Eq cF (iO "coin")) (.seq (.ret (.jK (bQ (.cmp .NotEq) br eG) (bQ (.cmp .In) dU bh))) .pass) .pass) (.seq (.set 7 (.ite (dY .Eq cF (iO "lower")) (aY 0) (aY 2))) (.seq (.ret (.jK (bQ (.cmp .NotEq) (cK (cK aI br) fM) eG) (bQ (.cmp .In) dU (.comp [7,0] 4 (.one 3) (.fc bh) .no (cK (cK bh bH) aI))))) .pass))))⟩
def vS:ba:=⟨5,10,(.seq (.set 5 (cK aI cF)) (.seq (.dC (.one 6) (.fc bH) (.seq (.dC (.one 7) (.fc (bQ .lst (aY 0) (aY 2))) (.seq (.ifs (.dE (dY .Eq (cK (cK aI eG) fM) (cK dU fM)) (.eP (.fR (.call 17 (du (cK (cK aI eG) (bQ (.bin .Add) fM (aY 1))) (cK dU (bQ (.bin .Add) fM (aY 1)))))))) (.seq (.ret (iO "wear")) .pass) .pass) .pass)) .pass)) (.seq (.ifs (.dE (dY .Gt (cK dU (aY 4)) (aY 0)) (dY .Gt (dB .max (bQ (.bin .Add) (dB .lst (aY 0)) (.comp [0] 3 (.one 2) (.fc bH) .no (cK (cK aI br) (aY 4))))) (cK dU (aY 4)))) (.seq (.ret (iO "year")) .pass) .pass) (.seq (.set 8 (bQ (.bin .Add) (.comp [0] 3 (.one 2) (.fc bH) .no (cK (cK aI br) (aY 0))) (dB .lst (cK dU (aY 0))))) (.seq (.set 9 (.comp [3,0] 4 (.one 3) (.dW (dB .len aI)) (dY .NotIn bH aI) (cK (cK bh bH) (aY 0)))) (.seq (.ifs (dY .Gt (dB .pB (.comp [9] 3 (.one 2) (.fc km) (dY .In br aI) br)) bh) (.seq (.ret (iO "anvil")) .pass) .pass) (.seq (.ifs (.eP (.fR (dB .all (.comp [3,0,4] 5 (.one 4) (.fc br) .no (.call 107 (oN bh aI br cF)))))) (.seq (.ret (iO "rule")) .pass) .pass) (.seq (.ret (iO "")) .pass))))))))⟩
def yc:ba:=⟨2,4,(.seq (.lK (.many [2,3]) (.call 26 (du aI bh))) (.seq (.ret (.prim .tup (gH br bH (.call 106 (du aI br))))) .pass))⟩
structure TBR(T:Nat->Option ba):Prop where
 lf:LF T
 AJ:T 105=some sX
 AI:T 106=some Dv
structure oE(T:Nat->Option ba):Prop extends TBR T where
 Az:T 17=some yD
 AH:T 107=some Cj
 AG:T 108=some vS
 qH:T 110=some yc
instance{T:Nat->Option ba}:CoeOut (oE T) (TBR T):=⟨oE.toTBR⟩
theorem yh{w:RW}{x:Int}(hi:i<cs.length)(h:meant cs w x i=true):(jr cs w x).isEmpty=false:=by
 cases e:jr cs w x with
 |nil =>
  have:i∈jr cs w x:=bq.mpr ⟨aT.mpr hi,h⟩
  simp_all
 |cons _ _=>rfl
section
variable{T:Nat->Option ba}{d:Nat}
theorem Ho{ns:List Int}{x:Int}:x∈p6 ns↔x∈ns:=by
 rw[(P9 ns).mem_iff,ST.Q5];simp
theorem JI(ns:List Int):(p6 ns).Nodup:=(P9 ns).nodup_iff.mpr (ST.Ck _ _ (by simp))
theorem Hs(hT:TBR T)(D0:f9 g d){w:RW}{L:List Int}{sL:Nat}(hN:N.rt=Q)(hL:g[sL]?=some (.lst (L.map .int)))(hd:sL≠d)(nd:L.Nodup)(hl:L.length<=9)(hm:∀x∈L,(jr cs w x).isEmpty=false)(h:∀g',f9 g' d->Gr d g g'->Q .bO g'/\∀r,n5 cs r=true->Q r.d g'):wpS (b8 T (k+1)) (match sX.body with|.seq _ (.seq _ (.seq _ (.seq _ b)))=>b|x=>x) N [some (.ref d),some (.ref a),some (.str w.s),some (.ref sL),none] g E:=by
 subst hN;dsimp[sX];left;refine if2 (λh2=>?_) (λh2=>?_)
 ·exact(h g D0 (Gr.refl _ _)).1
 rw[ak] at h2;left;refine d8 (k:=k) hT.lf.pull D0 (by rw[ak];omega) (by rw[ak];omega) λr1 g1 h0 h1 D1 G1=>?_;rw[ak] at h1;left;obtain⟨j,rfl⟩:∃j:Nat,r1=j:=⟨r1.toNat,by omega⟩
 have hj:j<L.length:=by omega
 have gj:gk (L.map D.int) (j:Int)=some (.int L[j]):=v9 (by rw[ae,ag hj];rfl);refine m8 (a7 (G1.at hd hL)) gj ?_;left;refine E2 (a7 (G1.at hd hL)) ?_;left;refine d8 (k:=k) hT.lf.pull D1 (by grind) (by grind) λr2 g2 k0 k1 D2 G2=>?_;rw[ak] at k1;left;have qo:=(G1.trans G2).at hd hL;refine E2 (a7 qo) ?_;refine R5 (by rw[ak];omega) ?_;obtain⟨j2,rfl⟩:∃j:Nat,r2=j:=⟨r2.toNat,by omega⟩
 have em:((j:Int)+1+(j2:Nat)) % ((L.map D.int).length:Nat)=(((j+1+j2) % L.length:Nat):Int):=by simp
 rw[em];have qh:(j+1+j2) % L.length<L.length:=KY _ ();have eZ:(j+1+j2) % L.length≠j:=by
  by_cases hc:j+1+j2<L.length
  ·rw[Nat.mod_eq_of_lt hc];omega
  ·rw[Nat.mod_eq_sub_mod (),Nat.mod_eq_of_lt ()];omega
 generalize (j+1+j2) % L.length=j3 at *;have NP:gk (L.map D.int) (j3:Int)=some (.int L[j3]):=v9 (by rw[ae,ag qh];rfl);refine m8 (a7 qo) NP ?_;left;refine(h g2 D2 (G1.trans G2)).2 ⟨w,L[j],L[j3]⟩ ?_;unfold n5;rw[hm _ (bN hj),hm _ (bN qh),aH (λz=>eZ ((lI nd).mp z).symm)]
 rfl
theorem Tw(hT:TBR T)(ha:g[a]?=some (.lst (cs.map b0.d)))(hz:cs.length<=9)(hd:d<a)(D0:f9 g d)(h:∀g',f9 g' d->Gr d g g'->Q .bO g'/\∀r,n5 cs r=true->Q r.d g'):b8 T (k+2) 105 [.ref d,.ref a] g Q E:=by
 refine call_of hT.AJ rfl ?_;dsimp[sX,c8,List.replicate];left;refine d8 (k:=k) hT.lf.pull (D0.snoc _) ∅ ∅ λr0 g1 h0 h1 D1 G1=>?_;have DY:=(Gr.snoc d g _).trans G1;have rY:=DY.at (bW hd) ha;have l1:=DY.len;have dl:=D0.lt;have hw:∃w:RW,gk [D.str "coin",D.str "coin",D.str "lower",D.str "upper"] r0=some (.str w.s):=by
  obtain⟨j,rfl⟩:∃j:Nat,r0=j:=⟨r0.toNat,by omega⟩
  have:j=0\/j=1\/j=2\/j=3:=by omega
  rcases this with rfl|rfl|rfl|rfl
  ·exact⟨.eI,rfl⟩
  ·exact⟨.eI,rfl⟩
  ·exact⟨.lower,rfl⟩
  ·exact⟨.upper,rfl⟩
 obtain⟨w,hw⟩:=hw;refine m8 (a7 (G1.at (bW dl) b7)) hw ?_;left;refine zA () (by simp;omega) ?_;left;have e2:=Ex.snoc g1 (O.lst (i8 0 (Int.toNat ((cs.map b0.d).length:Nat))));have nF:=b7 (g:=g1) (o:=O.lst (i8 0 (Int.toNat ((cs.map b0.d).length:Nat))));generalize g1++[O.lst (i8 0 (Int.toNat ((cs.map b0.d).length:Nat)))]=g2 at *;have xp:=e2.at rY;have D2:=e2.draw D1;have G2:=DY.trans (e2.gr d);have fld:∀(f:Int) (w:RW) (N:Ends),(f=0\/f=2)->(∀i c,cs[i]?=some c->∀x,meant cs w x i=decide (B3 f c=x))->N.rt=Q->bo (b8 T (k+1)) (.prim .sset (.cons (.comp [] 2 (.one 1) (.fc (.var 1)) .no (.prim .ix (.cons (.var 1) (.cons (.lit (.int f)) .nil)))) .nil)) [some (.ref d),some (.ref a),some (.str w.s),some (.ref g1.length),none] g2 (λx g3=>wpS (b8 T (k+1)) (match sX.body with|.seq _ (.seq _ (.seq _ (.seq _ b)))=>b|x=>x) N [some (.ref d),some (.ref a),some (.str w.s),some x,none] g3 E) E:=λf w N hf hm hN=>by
  left;refine comp_map (a8 T _) (λU=>∃z0 z1,U=[z0,z1]) (λi=>.int (B3 f (bT cs i))) (l:=cs.map b0.d) (k:=.lst a) (λg' e=>n6 (a7 (e.at xp))) (by simp;omega) ⟨none,none,rfl⟩ (λi x U g' hx e sh=>?_) (λg' e=>?_) (S5 (a8 T _) (a7 xp) λQ q=>w_var (d:=.ref a) rfl q)
  ·obtain⟨z0,z1,rfl⟩:=sh;rw[ae,aa] at hx;obtain⟨c,hc,rfl⟩:=hx;refine i0 ?_;left;refine v5 (M1 hf c) ?_;exact⟨by rw[C8 hc],e,_,_,rfl⟩
  ·refine QI (ns:=(List.range cs.length).map λi=>B3 f (bT cs i)) (a7 (by rw[bD];rw[b7,ak];rfl)) (by simp;omega) ?_;have e3:=(e.trans (Ex.snoc g' (O.lst ((List.range (cs.map b0.d).length).map λi=>D.int (B3 f (bT cs i)))))).trans (Ex.snoc _ (O.lst ((p6 ((List.range cs.length).map λi=>B3 f (bT cs i))).map .int)));have zX:(p6 ((List.range cs.length).map λi=>B3 f (bT cs i))).length<=9:=aD (U1 _) (by simpa using hz);refine Hs (k:=k) hT (e3.draw D2) hN b7 (by have:=D2.lt;have:=e.len;simp;omega) (JI _) zX (λx hx=>?_) λg4 D4 G4=>h g4 D4 (G2.trans ((e3.gr d).trans G4));rw[Ho] at hx;obtain⟨i,hi,rfl⟩:=aU.mp hx;have hi:=aT.mp hi;have hc:=ag hi;refine yh hi ?_;rw[hm i _ hc,C8 hc];exact aw rfl
 cases w with
 |eI =>
  refine fB (by decide +kernel) ?_;left;refine fB (by decide +kernel) ?_;have er:i8 0 (Int.toNat ((cs.map b0.d).length:Nat))=((List.range cs.length).map λ(i:Nat)=>(i:Int)).map D.int:=by
   simp[i8]
  refine Hs (k:=k) hT (w:=.eI) (L:=(List.range cs.length).map λ(i:Nat)=>(i:Int)) D2 rfl (by rw[<- er];exact nF) () ?_ (by simpa using hz) (λx hx=>?_) λg4 D4 G4=>h g4 D4 (G2.trans G4)
  ·exact List.pairwise_map.mpr (fK.imp λh e=>h ())
  ·obtain⟨i,hi,rfl⟩:=aU.mp hx;exact yh (aT.mp hi) (aw rfl)
 |lower =>
  refine gR (by decide +kernel) ?_;refine R8 ?_;refine xU ?_;refine b9 (a8 T _) _ _ _ _ _ _ _ (λx g3 q=>?_) (λ_ _ z=>z) (fld 0 .lower ⟨λ_ g'=>Q .bO g',Q,λ_ _=>False,λ_ _=>False⟩ (.inl rfl) (λi c hc x=>by simp only[meant,C8 hc];rfl) rfl);refine vO ?_;left;refine fB (by decide +kernel) ?_;exact q
 |upper =>
  refine fB (by decide +kernel) ?_;left;refine gR (by decide +kernel) ?_;refine R8 ?_;refine xU ?_;exact fld 2 .upper _ (.inr rfl) (λi c hc x=>by simp only[meant,C8 hc];rfl) rfl
end
section
variable{T:Nat->Option ba}{d:Nat}
theorem a14(hT:TBR T)(ha:g[a]?=some (.lst (cs.map b0.d)))(hz:cs.length<=9)(hd:d<a)(D0:f9 g d)(h:∀(rs:List fJ) b g',rs.length<=4->rs.all (n5 cs)=true->g'[b]?=some (.lst (o8 rs))->g.length<=b->f9 g' d->Gr d g g'->Q (.ref b) g'):b8 T (k+3) 106 [.ref d,.ref a] g Q E:=by
 refine call_of hT.AI rfl ?_;dsimp[Dv,c8,List.replicate];left;have dl:=D0.lt;have e1:=Ex.snoc g (O.lst []);have FE:=b7 (g:=g) (o:=O.lst []);have D1:=D0.snoc (O.lst []);generalize g++[O.lst []]=g1 at *;refine w9 (a8 T _) (N4 (a8 T _) ?_);left;refine d8 (k:=k+1) hT.lf.pull (D1.snoc _) ∅ ∅ λr0 g2 h0 h1 D2 G2=>?_;have l1:=j9 FE;have hw:∃j:Nat,j<=4/\gk [D.int 0,D.int 0,D.int 1,D.int 1,D.int 2,D.int 4] r0=some (.int (j:Nat)):=by
  obtain⟨j,rfl⟩:∃j:Nat,r0=j:=⟨r0.toNat,by omega⟩
  have:j=0\/j=1\/j=2\/j=3\/j=4\/j=5:=by omega
  rcases this with rfl|rfl|rfl|rfl|rfl|rfl
  ·exact⟨0,by decide,rfl⟩
  ·exact⟨0,by decide,rfl⟩
  ·exact⟨1,by decide,rfl⟩
  ·exact⟨1,by decide,rfl⟩
  ·exact⟨2,by decide,rfl⟩
  ·exact⟨4,by decide,rfl⟩
 obtain⟨j,hj,hw⟩:=hw;refine m8 (a7 (G2.at () b7)) hw ?_;refine⟨j,rfl,by omega,by omega,_,λi U g'=>f9 g' d/\Gr d g g'/\(∃rs:List fJ,rs.length<=i/\rs.all (n5 cs)=true/\g'[g.length]?=some (.lst (o8 rs)))/\∃z3 z4,U=[some (.ref d),some (.ref a),some (.ref g.length),z3,z4],λ_ _ _ _=>n8,⟨D2,(e1.gr d).trans ((Gr.snoc d g1 _).trans G2),⟨[],by simp,rfl,((Gr.snoc d g1 _).trans G2).at () FE⟩,none,none,rfl⟩,λi x U g' hx q=>?_,λU g' q=>?_⟩
 ·obtain⟨D3,G3,⟨rs,hl,hA,hF⟩,z3,z4,rfl⟩:=q;obtain⟨hi,rfl⟩:=s9 hx;have hi:i<j:=by simpa using hi
  refine i0 ?_
  try show wpS _ _ _ _ _ _
  left;have xo:=G3.at (bW hd) ha;refine Tw (k:=k) hT xo hz hd D3 λg4 D4 G4=>⟨?_,λr hr=>?_⟩
  ·left;exact⟨D4,G3.trans G4,⟨rs,by omega,hA,G4.at () hF⟩,_,_,rfl⟩
  ·left;refine gR rfl ?_;have FV:=G4.at () hF;left;refine K2 FV (by simp[o8];omega) ?_;refine⟨D4.C1 (),(G3.trans G4).C1 (ai _),⟨rs++[r],by simp;omega,by rw[mD,hA];simp[hr],?_⟩,_,_,rfl⟩;rw[get_set FV];simp[o8]
 ·obtain⟨D3,G3,⟨rs,hl,hA,hF⟩,z3,z4,rfl⟩:=q;rw[i6] at hl;left;exact h rs _ _ (by simp at hl;omega) hA hF (ai _) D3 G3
theorem a16(hT:TBR T)(qH:T 110=some yc){n:Int}(hn:0<=n/\n<=9)(D0:f9 g d)(h:∀(cs:List b0) (rs:List fJ) a c (v:Int) g',(cs.length:Int)<=n->(∀c∈cs,jy c)->g'[a]?=some (.lst (cs.map b0.d))->g.length<=a->rs.length<=4->rs.all (n5 cs)=true->g'[c]?=some (.lst (o8 rs))->g.length<=c->a≠c->1<=v->v<=6->f9 g' d->Gr d g g'->Q (.tup [.ref a,.int v,.ref c]) g'):b8 T (k+5) 110 [.ref d,.int n] g Q E:=by
 refine call_of qH rfl ?_;dsimp[yc,c8,List.replicate];left;refine YI (k:=k) hT.lf ⟨hn.1,by omega⟩ D0 λcs a v g1 hl hg ha xn v1 v2 D1 G1=>?_;refine B6 rfl ?_;left;have dl:=D0.lt;refine a14 (k:=k+1) hT ha () () D1 λrs c g2 hr hR hc jS D2 G2=>?_;left;exact h cs rs a c v g2 hl hg (G2.at () ha) xn hr hR hc (aD G1.len jS) (aM (ay (j9 ha) jS)) v1 v2 D2 (G1.trans G2)
theorem Sk{x:Int}:((H.map λ(i:Nat)=>(i:Int)).any λm=>m==x)=H.any λi=>decide ((i:Int)=x):=by
 rw[kK]
 rfl
theorem xW(hH:∀i∈H,i<n)(q:Nat->Bool):((List.range n).any λi=>decide (i∈H)&&q i)=H.any q:=by
 rw[bg,aV,aV];constructor
 ·rintro⟨i,_,h⟩;rw[aX,cJ] at h;exact⟨i,h.1,h.2⟩
 ·rintro⟨i,h1,h2⟩;exact⟨i,aT.mpr (hH i h1),by rw[aw h1,h2];rfl⟩
theorem K8(hi:i<cs.length):gk (cs.map b0.d) (i:Int)=some (bT cs i).d:=v9 (by rw[ae,ag hi,C8 (ag hi)];rfl)
theorem ZN(hT:oE T){r:fJ}(ha:g[a]?=some (.lst (cs.map b0.d)))(hh:g[hl]?=some (.lst (a9 H)))(hH:∀i∈H,i<cs.length)(qp:H.length<=50)(hp:p<cs.length)(h:∀g',Ex g g'->Q (.bl (!meant cs r.w r.y p||(List.range cs.length).any λi=>decide (i∈H)&&meant cs r.w r.x i)) g'):b8 T (k+1) 107 [.ref a,.ref hl,.int (p:Nat),r.d] g Q E:=by
 refine call_of hT.AH rfl ?_;dsimp[Cj,c8,List.replicate];simp only[xW hH] at h;left;refine B6 (l:=[.str r.w.s,.int r.x,.int r.y]) rfl ?_;left;have nr:∀(w:RW) (f:Int),(f=0\/f=2)->(∀i x,meant cs w x i=decide (B3 f (bT cs i)=x))->(∀g',Ex g g'->Q (.bl (!meant cs w r.y p||H.any λi=>meant cs w r.x i)) g')->bo (b8 T k) (.jK (.prim (.cmp .NotEq) (.cons (.prim .ix (.cons (.prim .ix (.cons (.var 0) (.cons (.var 2) .nil))) (.cons (.var 7) .nil))) (.cons (.var 6) .nil))) (.prim (.cmp .In) (.cons (.var 5) (.cons (.comp [7,0] 4 (.one 3) (.fc (.var 1)) .no (.prim .ix (.cons (.prim .ix (.cons (.var 1) (.cons (.var 3) .nil))) (.cons (.var 0) .nil)))) .nil)))) [some (.ref a),some (.ref hl),some (.int (p:Nat)),some r.d,some (.str w.s),some (.int r.x),some (.int r.y),some (.int f)] g Q E:=λw f hf hm h=>by
  left;refine m8 (a7 ha) (K8 hp) ?_;left;refine v5 (M1 hf _) ?_;left;rw[hm] at h;by_cases c1:B3 f (bT cs p)=r.y
  ·refine fB (by rw[aw c1];rfl) ?_;left;refine comp_map (a8 T _) (λU=>∃z2 z3,U=[some (.int f),some (.ref a),z2,z3]) (λi=>.int (B3 f (bT cs (H.getD i 0)))) (l:=a9 H) (k:=.lst hl) (λg' e=>n6 (a7 (e.at hh))) (by simp[a9];omega) ⟨none,none,rfl⟩ (λi x U g' hx e sh=>?_) (λg' e=>?_) (S5 (a8 T _) (a7 hh) λQ q=>w_var (d:=.ref hl) rfl q)
   ·obtain⟨z2,z3,rfl⟩:=sh;rw[a9,ae,aa] at hx;obtain⟨j,hj,rfl⟩:=hx;refine i0 ?_;left;refine m8 (a7 (e.at ha)) (K8 (hH j (aC hj))) ?_;left;refine v5 (M1 hf _) ?_;exact⟨by simp[List.getD,hj],e,_,_,rfl⟩
   ·refine vY (U9 (ms:=(List.range (a9 H).length).map λi=>B3 f (bT cs (H.getD i 0))) (a7 (by rw[bD];exact b7)) ?_);have e2:(((List.range (a9 H).length).map λi=>B3 f (bT cs (H.getD i 0))).any λm=>m==r.x)=(H.any λi=>meant cs w r.x i):=by
     rw[kK,bg,aV,aV];constructor
     ·rintro⟨i,hi,h1⟩;have hi:i<H.length:=by simpa[a9] using hi
      refine⟨H[i],bN hi,?_⟩;rw[hm];simpa[List.getD,hi] using h1
     ·rintro⟨j,hj,h1⟩;obtain⟨i,hi,rfl⟩:=bt.mp hj;refine⟨i,by simpa[a9] using hi,?_⟩;rw[hm] at h1;simpa[List.getD,hi] using h1
    rw[e2];simp only[decide_eq_true c1,Bool.not_true,Bool.false_or] at h;exact h _ (e.trans (Ex.snoc _ _))
  ·refine gR (by rw[aH c1];rfl) ?_;have:=h _ (Ex.refl _);rw[aH c1] at this;exact this
 obtain⟨w,x,y⟩:=r;cases w with
 |eI =>
  refine gR (show decide (RW.eI.s="coin")=true from by decide +kernel) ?_;left;by_cases c1:((p:Nat):Int)=y
  ·refine fB (by rw[aw c1];rfl) ?_;left;refine vY (U9 (ms:=H.map λ(i:Nat)=>(i:Int)) (by rw[<- BP];exact a7 hh) ?_);rw[Sk];have:=h _ (Ex.refl _);rw[show meant cs .eI y p=true from aw c1] at this;exact this
  ·refine gR (by rw[aH c1];rfl) ?_;have:=h _ (Ex.refl _);rw[show meant cs .eI y p=false from aH c1] at this;exact this
 |lower =>
  refine fB (show decide (RW.lower.s="coin")=false from by decide +kernel) ?_;left;refine gR (show decide (RW.lower.s="lower")=true from by decide +kernel) ?_;refine w_lit (R8 (Dg ?_));exact nr .lower 0 (.inl rfl) (λi x=>rfl) h
 |upper =>
  refine fB (show decide (RW.upper.s="coin")=false from by decide +kernel) ?_;left;refine fB (show decide (RW.upper.s="lower")=false from by decide +kernel) ?_;refine w_lit (R8 (Dg ?_));exact nr .upper 2 (.inr rfl) (λi x=>rfl) h
end
theorem HE:∀{ns:List Int},ns≠[]->∃M∈ns,∀x∈ns,x<=M
 |[],h=>absurd rfl h
 |[x],_=>⟨x,by simp,by simp⟩
 |x::y::r,_=>by
  obtain⟨M,h1,h2⟩:=HE (ns:=y::r) (by simp);by_cases h:x<=M
  ·refine⟨M,bu _ h1,λz hz=>?_⟩;rcases aG.mp hz with rfl|hz
   ·exact h
   ·exact h2 z hz
  ·refine⟨x,by simp,λz hz=>?_⟩;rcases aG.mp hz with rfl|hz
   ·exact fP _
   ·have:=h2 z hz;omega
theorem a13{l m:List Int}(hl:l.Nodup)(hm:m.Nodup)(h:∀x,x∈l↔x∈m):l.length=m.length:=((List.perm_ext_iff_of_nodup hl hm).mpr h).length_eq
noncomputable abbrev iD(H:List Nat):Nat->Bool:=λi=>decide (i∈H)
def fTail(n:Nat):MS->MS
 |.seq a b=>match n with
  |0=>.seq a b
  |n+1=>fTail n b
 |x=>x
section
variable{T:Nat->Option ba}{d:Nat}
theorem HF(hT:oE T)(hN:N.rt=Q){z6 z7:Option D}(ha:g[a]?=some (.lst (cs.map b0.d)))(hz:cs.length<=9)(hc:g[c]?=some (.lst (o8 rs)))(hr:rs.length<=900)(hh:g[hl]?=some (.lst (a9 H)))(hH:∀i∈H,i<cs.length)(qp:H.length<=50)(hp:p<cs.length)(w1:K0 cs (iD H) p=false)(w2:J6 cs (iD H) p=false)(h:∀g',Ex g g'->Q (.str (fault cs v rs (iD H) p)) g') :
  wpS (b8 T (k+1)) (fTail 3 vS.body) N [some (.ref a),some (.int v),some (.ref c),some (.ref hl),some (.int (p:Nat)),some (bT cs p).d,z6,z7,none,none] g E:=by
 subst hN;dsimp[vS,fTail];left;refine comp_map (a8 T _) (λU=>∃z1 z2,U=[some (.ref a),z1,z2]) (λi=>.int (bT cs (H.getD i 0)).lo) (l:=a9 H) (k:=.lst hl) (λg' e=>n6 (a7 (e.at hh))) (by simp[a9];omega) ⟨none,none,rfl⟩ (λi x U g' hx e sh=>?_) (λg1 e1=>?_) (S5 (a8 T _) (a7 hh) λQ q=>w_var (d:=.ref hl) rfl q)
 ·obtain⟨z1,z2,rfl⟩:=sh;rw[a9,ae,aa] at hx;obtain⟨j,hj,rfl⟩:=hx;refine i0 ?_;left;refine m8 (a7 (e.at ha)) (K8 (hH j (aC hj))) ?_;refine v5 (M1 (.inl rfl) _) ?_;exact⟨by simp[List.getD,hj,B3],e,_,_,rfl⟩
 have e2:=e1.trans (Ex.snoc g1 (O.lst ((List.range (a9 H).length).map λi=>D.int (bT cs (H.getD i 0)).lo)));have eh:(List.range (a9 H).length).map (λi=>D.int (bT cs (H.getD i 0)).lo)=(H.map λi=>(bT cs i).lo).map D.int:=by
  rw[bD];refine bS λi=>?_;rw[ae,ae];by_cases hi:i<H.length
  ·rw[cb (by simpa[a9] using hi),ag hi];simp[List.getD,hi]
  ·rw[aS (by simpa[a9] using hi),aS ()]
   rfl
 rw[eh] at e2 ⊢;have h2:=b7 (g:=g1) (o:=O.lst ((H.map λi=>(bT cs i).lo).map D.int));generalize g1++[O.lst ((H.map λi=>(bT cs i).lo).map D.int)]=g2 at *;left;refine v5 (M1 (.inl rfl) _) ?_;left;have e3:=Ex.snoc g2 (O.lst [D.int (B3 0 (bT cs p))]);refine CK (e3.at h2) b7 (by simp;omega) ?_;have e4:=(e2.trans e3).trans (Ex.snoc _ (O.lst ((H.map λi=>(bT cs i).lo).map D.int++[D.int (B3 0 (bT cs p))])));have h4:=b7 (g:=g2++[O.lst [D.int (B3 0 (bT cs p))]]) (o:=O.lst ((H.map λi=>(bT cs i).lo).map D.int++[D.int (B3 0 (bT cs p))]));have Of:(H.map λi=>(bT cs i).lo).map D.int++[D.int (B3 0 (bT cs p))]=((H.map λi=>(bT cs i).lo)++[(bT cs p).lo]).map D.int:=by simp[B3]
 rw[Of] at e4 h4 ⊢;generalize Ae:(H.map λi=>(bT cs i).lo)++[(bT cs p).lo]=fe at *;have lhr:fe.length<=51:=by rw[<- Ae];simp;omega
 generalize g2++[O.lst [D.int (B3 0 (bT cs p))]]=g3 at *;generalize g3.length=ah at *;left;refine x4 (a8 T _) (λU=>∃z2 z3,U=[some (.ref hl),some (.ref a),z2,z3]) (λi=>!decide (i∈H)) (λi=>.int (bT cs i).lo) (l:=i8 0 cs.length) (λg' e=>n8) (by rw[i6];omega) ⟨none,none,rfl⟩ (λi d U g' hx e sh=>?_) (λg5 e5=>?_) (sN (a8 T _) (by omega:cs.length<=1000) λQ q=>?_)
 ·obtain⟨z2,z3,rfl⟩:=sh;obtain⟨hi,rfl⟩:=s9 hx;rw[cW];refine i0 ?_;left;refine V1 (Y8 ((e4.trans e).at hh) ?_);left;refine⟨rfl,e,?_⟩;by_cases uU:i∈H
  ·rw[aw uU];exact fB rfl ⟨_,_,rfl⟩
  ·rw[aH uU];refine gR rfl ?_;left;refine m8 (a7 ((e4.trans e).at ha)) (K8 hi) ?_;refine v5 (M1 (.inl rfl) _) ?_;exact⟨rfl,e,_,_,rfl⟩
 rotate_left
 ·left;refine E2 (a7 (e4.at ha)) ?_;rw[ak];exact q
 have e6:=e5.trans (Ex.snoc g5 (O.lst (((List.range (i8 0 cs.length).length).filter λi=>!decide (i∈H)).map λi=>D.int (bT cs i).lo)));have h6:=b7 (g:=g5) (o:=O.lst (((List.range (i8 0 cs.length).length).filter λi=>!decide (i∈H)).map λi=>D.int (bT cs i).lo));have el:(((List.range (i8 0 cs.length).length).filter λi=>!decide (i∈H)).map λi=>D.int (bT cs i).lo)=(((List.range cs.length).filter λi=>!decide (i∈H)).map λi=>(bT cs i).lo).map D.int:=by
  rw[i6,bD]
  rfl
 rw[el] at e6 h6 ⊢;generalize dZ:(((List.range cs.length).filter λi=>!decide (i∈H)).map λi=>(bT cs i).lo)=lt' at *;generalize g5.length=al at *;left;refine x4 (a8 T _) (λU=>∃z1 z2,U=[some (.ref al),z1,z2]) (λi=>decide (fe.getD i 0∈lt')) (λi=>.int (fe.getD i 0)) (l:=fe.map D.int) (k:=.lst ah) (λg' e=>n6 (a7 ((e6.trans e).at h4))) (by simp;omega) ⟨none,none,rfl⟩ (λi d U g' hx e sh=>?_) (λg7 e7=>?_) (S5 (a8 T _) (a7 (e6.at h4)) λQ q=>w_var (d:=.ref ah) rfl q)
 ·obtain⟨z1,z2,rfl⟩:=sh;rw[ae,aa] at hx;obtain⟨x,hx,rfl⟩:=hx;have ex:fe.getD i 0=x:=by simp[List.getD,hx]
  refine i0 ?_;left;refine vY (U9 (a7 (e.at h6)) ?_);left;have ed:(lt'.any λm=>m==x)=decide (x∈lt'):=by
   rw[bg,aV,cJ];exact⟨λ⟨y,hy,e⟩=>(bx.mp e)▸hy,λhy=>⟨x,hy,by simp⟩⟩
  rw[ed,ex];refine⟨rfl,e,?_⟩;refine if2 (λ_=>?_) (λ_=>?_)
  ·left;exact⟨rfl,e,_,_,rfl⟩
  ·exact⟨_,_,rfl⟩
 have es:((List.range (fe.map D.int).length).filter λi=>decide (fe.getD i 0∈lt')).map (λi=>D.int (fe.getD i 0))=(((List.range fe.length).filter λi=>decide (fe.getD i 0∈lt')).map λi=>fe.getD i 0).map D.int:=by
  rw[bD,ak]
  rfl
 have e8:=e7.trans (Ex.snoc g7 (O.lst (((List.range (fe.map D.int).length).filter λi=>decide (fe.getD i 0∈lt')).map λi=>D.int (fe.getD i 0))));refine Qm (ns:=((List.range fe.length).filter λi=>decide (fe.getD i 0∈lt')).map λi=>fe.getD i 0) (a7 (by rw[es];exact b7)) (by rw[ak];exact cZ B1 ()) ?_;have en:(ST.i7 [] (((List.range fe.length).filter λi=>decide (fe.getD i 0∈lt')).map λi=>fe.getD i 0)).length=vE cs (iD H) p:=by
  refine a13 (ST.Ck _ _ (by simp)) ((JI _).filter _) λx=>?_;rw[ST.Q5,bq,Ho];unfold Z6;rw[aX,aV,aV];simp only[List.not_mem_nil,false_or,List.mem_map,List.mem_filter,List.mem_range,Bool.and_eq_true,decide_eq_true_eq,Bool.or_eq_true,Bool.not_eq_true',decide_eq_false_iff_not];constructor
  ·rintro⟨i,⟨hi,hx⟩,rfl⟩;have hm:fe.getD i 0∈fe:=by simp[List.getD,hi]
   generalize fe.getD i 0=x at *;rw[<- dZ] at hx;simp only[List.mem_map,List.mem_filter,List.mem_range,Bool.not_eq_true',decide_eq_false_iff_not] at hx;rw[<- Ae] at hm;obtain⟨j,⟨qi,Aa⟩,qh⟩:=hx;have wY:∃q,q<cs.length/\(q∈H\/q=p)/\(bT cs q).lo=x:=by
    rcases aO.mp hm with hm|hm
    ·obtain⟨q,hq,e⟩:=aU.mp hm;exact⟨q,hH q hq,.inl hq,e⟩
    ·exact⟨p,hp,.inr rfl,(aR.mp hm).symm⟩
   obtain⟨q,q1,q2,q3⟩:=wY;refine⟨⟨bT cs j,?_,qh⟩,⟨q,q1,q2,q3⟩,j,qi,Aa,qh⟩;rw[C8 (ag qi)];exact bN qi
  ·rintro⟨_,⟨q,q1,q2,q3⟩,j,qi,Aa,qh⟩;have hm:x∈fe:=by
    rw[<- Ae];rcases q2 with q2|q2
    ·exact bw _ (aU.mpr ⟨q,q2,q3⟩)
    ·subst q2;exact aN _ (by rw[q3];simp)
   obtain⟨i,hi,e⟩:=bt.mp hm;refine⟨i,⟨hi,?_⟩,by simp[List.getD,hi,e]⟩;rw[show fe.getD i 0=x by simp[List.getD,hi,e],<- dZ];simp only[List.mem_map,List.mem_filter,List.mem_range,Bool.not_eq_true',decide_eq_false_iff_not];exact⟨j,⟨qi,Aa⟩,qh⟩
 rw[en];left;have sv:=(e4.trans e6).trans e8;refine if2 (λc3=>?_) (λc3=>?_)
 ·have:fault cs v rs (iD H) p="anvil":=by unfold fault;rw[aF (by rw[w1];decide),aF (by rw[w2];decide),aJ c3]
  rw[this] at h;exact h _ sv
 left;refine comp_map (a8 T _) (λU=>∃z3 z4,U=[some (.ref hl),some (.ref a),some (.int (p:Nat)),z3,z4]) (λi=>.bl (!meant cs (rs.getD i ⟨.eI,0,0⟩).w (rs.getD i ⟨.eI,0,0⟩).y p||(List.range cs.length).any λj=>decide (j∈H)&&meant cs (rs.getD i ⟨.eI,0,0⟩).w (rs.getD i ⟨.eI,0,0⟩).x j)) (l:=o8 rs) (k:=.lst c) (λg' e=>n6 (a7 ((sv.trans e).at hc))) (by simp[o8];omega) ⟨none,none,rfl⟩ (λi x U g' hx e sh=>?_) (λg9 e9=>?_) (S5 (a8 T _) (a7 (sv.at hc)) λQ q=>w_var (d:=.ref c) rfl q)
 ·obtain⟨z3,z4,rfl⟩:=sh;rw[o8,ae,aa] at hx;obtain⟨r,nF,rfl⟩:=hx;refine i0 ?_;left;refine ZN (k:=k) hT ((sv.trans e).at ha) ((sv.trans e).at hh) hH qp hp λAQ nK=>?_;exact⟨by simp[List.getD,nF],e.trans nK,_,_,rfl⟩
 have eb:((List.range (o8 rs).length).map λi=>D.bl (!meant cs (rs.getD i ⟨.eI,0,0⟩).w (rs.getD i ⟨.eI,0,0⟩).y p||(List.range cs.length).any λj=>decide (j∈H)&&meant cs (rs.getD i ⟨.eI,0,0⟩).w (rs.getD i ⟨.eI,0,0⟩).x j))=(rs.map λr=>!meant cs r.w r.y p||(List.range cs.length).any λj=>decide (j∈H)&&meant cs r.w r.x j).map D.bl:=by
  rw[bD];refine bS λi=>?_;rw[ae,ae];by_cases hi:i<rs.length
  ·rw[cb (by simpa[o8] using hi),ag hi];simp[List.getD,hi]
  ·rw[aS (by simpa[o8] using hi),aS ()]
   rfl
 rw[eb];refine CI (a7 b7) (Ca _) ?_;have eN:(rs.map λr=>!meant cs r.w r.y p||(List.range cs.length).any λj=>decide (j∈H)&&meant cs r.w r.x j).all id=Q3 cs rs (iD H) p:=by
  rw[List.all_map]
  rfl
 rw[eN];left;have nK:=sv.trans (e9.trans (Ex.snoc g9 (O.lst ((rs.map λr=>!meant cs r.w r.y p||(List.range cs.length).any λj=>decide (j∈H)&&meant cs r.w r.x j).map D.bl))));cases c4:Q3 cs rs (iD H) p with
 |true =>
  have:fault cs v rs (iD H) p="":=by unfold fault;rw[aF (by rw[w1];decide),aF (by rw[w2];decide),aF c3,aJ c4]
  rw[this] at h;exact h _ nK
 |false =>
  have:fault cs v rs (iD H) p="rule":=by unfold fault;rw[aF (by rw[w1];decide),aF (by rw[w2];decide),aF c3,aF (by rw[c4];decide)]
  rw[this] at h;exact h _ nK
end
section
variable{T:Nat->Option ba}{d:Nat}
theorem CJ(c:b0):gk [D.int c.lo,D.tup (c.lm.map .int),D.int c.up,D.tup (c.um.map .int),D.int c.yr] 4=some (.int c.yr):=rfl
theorem ZQ(hi:i∈H)(hH:∀i∈H,i<cs.length)(h:mw (bT cs i) (bT cs p)=true):fault cs v rs (iD H) p="wear":=by
 unfold fault;rw[aJ];unfold K0;rw[xW hH,aV];exact⟨i,hi,h⟩
theorem Hl(hT:oE T)(hB:∀c∈cs,CB c)(ha:g[a]?=some (.lst (cs.map b0.d)))(hz:cs.length<=9)(hc:g[c]?=some (.lst (o8 rs)))(hr:rs.length<=900)(hh:g[hl]?=some (.lst (a9 H)))(hH:∀i∈H,i<cs.length)(qp:H.length<=50)(hp:p<cs.length)(h:∀g',Ex g g'->Q (.str (fault cs v rs (iD H) p)) g'):b8 T (k+2) 108 [.ref a,.int v,.ref c,.ref hl,.int (p:Nat)] g Q E:=by
 refine call_of hT.AG rfl ?_;have Nn:∀i,i<cs.length->CB (bT cs i):=λi hi=>by rw[C8 (ag hi)];exact hB _ (bN hi)
 dsimp[vS,c8,List.replicate];left;refine m8 (a7 ha) (K8 hp) ?_;refine w9 (a8 T _) (kq (a8 T _) ?_);left;refine⟨hl,_,rfl,a7 hh,a9 H,λt U g'=>Ex g g'/\(∀i∈H.take t,mw (bT cs i) (bT cs p)=false)/\∃z6 z7,U=[some (.ref a),some (.int v),some (.ref c),some (.ref hl),some (.int (p:Nat)),some (bT cs p).d,z6,z7,none,none],λi U g' q=>n6 (a7 (q.1.at hh)),⟨Ex.refl _,by simp,none,none,rfl⟩,λt x U g' hx q=>?_,λU g' q=>?_⟩
 ·obtain⟨e1,q,z6,z7,rfl⟩:=q;rw[a9,ae,aa] at hx;obtain⟨i,hi,rfl⟩:=hx;have uU:=aC hi;have lQ:=hH i uU;refine i0 ?_;left;refine w9 (a8 T _) (kq (a8 T _) ?_);left;have e2:=e1.trans (Ex.snoc g' (O.lst [D.int 0,D.int 2]));have h2:=b7 (g:=g') (o:=O.lst [D.int 0,D.int 2]);generalize g'++[O.lst [D.int 0,D.int 2]]=g2 at *;refine⟨_,_,rfl,a7 h2,[D.int 0,D.int 2],λj U g3=>Ex g2 g3/\(1<=j->(decide ((bT cs i).lo=(bT cs p).lo)&&!jB (bT cs i).lm (bT cs p).lm)=false)/\(2<=j->(decide ((bT cs i).up=(bT cs p).up)&&!jB (bT cs i).um (bT cs p).um)=false)/\∃z7,U=[some (.ref a),some (.int v),some (.ref c),some (.ref hl),some (.int (p:Nat)),some (bT cs p).d,some (.int (i:Nat)),z7,none,none],λj U g3 q=>n6 (a7 (q.1.at h2)),⟨Ex.refl _,λz=>absurd z (),λz=>absurd z (),z7,rfl⟩,λj x U g3 hx q=>?_,λU g3 q=>?_⟩
  ·obtain⟨e3,q1,q2,z7,rfl⟩:=q;have hf:∃f:Int,(f=0\/f=2)/\x=.int f/\(f=0↔j=0)/\j<2:=by
    match j,hx with
    |0,hx=>cases hx;exact⟨0,.inl rfl,rfl,by simp,by omega⟩
    |1,hx=>cases hx;exact⟨2,.inr rfl,rfl,by simp,by omega⟩
    |j+2,hx=>simp at hx
   obtain⟨f,hf,rfl,FA,hj⟩:=hf;have sC:=e2.trans e3;refine i0 ?_;left;refine m8 (a7 (sC.at ha)) (K8 lQ) ?_;left;refine v5 (M1 hf _) ?_;left;refine v5 (M1 hf _) ?_;left;have fin:∀g4,Ex g3 g4->(decide (B3 f (bT cs i)=B3 f (bT cs p))&&!jB (qY f (bT cs i)) (qY f (bT cs p)))=false->(Ex g2 g4/\(1<=j+1->(decide ((bT cs i).lo=(bT cs p).lo)&&!jB (bT cs i).lm (bT cs p).lm)=false)/\(2<=j+1->(decide ((bT cs i).up=(bT cs p).up)&&!jB (bT cs i).um (bT cs p).um)=false)/\∃z7,([some (.ref a),some (.int v),some (.ref c),some (.ref hl),some (.int (p:Nat)),some (bT cs p).d,some (.int (i:Nat)),some (.int f),none,none]:S)=[some (.ref a),some (.int v),some (.ref c),some (.ref hl),some (.int (p:Nat)),some (bT cs p).d,some (.int (i:Nat)),z7,none,none]):=λg4 e4 hw=>by
    refine⟨e3.trans e4,λ_=>?_,λz=>?_,_,rfl⟩
    ·by_cases h0:j=0
     ·rw[FA.mpr h0] at hw;exact hw
     ·exact q1 ()
    ·have:¬f=0:=λw=>by have:=FA.mp w;omega
     have f2:f=2:=hf.resolve_left this;rw[f2] at hw;exact hw
   refine if2 (λh1=>?_) (λh1=>?_)
   ·left;refine m8 (a7 (sC.at ha)) (K8 lQ) ?_;left;refine v5 (Iv hf _) ?_;left;refine v5 (Iv hf _) ?_;left;refine YJ (k:=k) hT.Az ((Nn i lQ).LP f) λg4 e4=>?_;left;cases hw:jB (qY f (bT cs i)) (qY f (bT cs p)) with
    |false =>
     have:mw (bT cs i) (bT cs p)=true:=by
      unfold mw;rcases hf with rfl|rfl
      ·rw[aw (show(bT cs i).lo=(bT cs p).lo from h1),show jB (bT cs i).lm (bT cs p).lm=false from hw];rfl
      ·rw[aw (show(bT cs i).up=(bT cs p).up from h1),show jB (bT cs i).um (bT cs p).um=false from hw];simp
     rw[ZQ uU hH this] at h;exact h _ (sC.trans e4)
    |true =>
     exact fin g4 e4 (by rw[hw];simp)
   ·exact fin g3 (Ex.refl _) (by rw[aH h1];rfl)
  ·obtain⟨e3,q1,q2,z7,rfl⟩:=q;refine⟨e2.trans e3,λi' iQ=>?_,_,_,rfl⟩;rw[bC,hi] at iQ;rcases aO.mp iQ with iQ|iQ
   ·exact q i' iQ
   ·have:i'=i:=by simpa using iQ
    subst this;unfold mw;rw[q1 ∅,q2 ∅]
    rfl
 ·obtain⟨e1,q,z6,z7,rfl⟩:=q;rw[a9,ak,cN] at q;have w1:K0 cs (iD H) p=false:=by
   unfold K0;rw[xW hH,List.any_eq_false];exact λi hi=>by rw[q i hi];decide
  refine vO ?_;left;refine v5 (CJ _) ?_;left;have uz:J6 cs (iD H) p=(decide (0<(bT cs p).yr)&&H.any λi=>decide ((bT cs p).yr<(bT cs i).yr)):=by
   unfold J6;rw[xW hH,bg,aV,aX,aV];constructor
   ·rintro⟨i,h1,h2⟩;unfold kj at h2;rw[aX] at h2;exact⟨h2.1,i,h1,h2.2⟩
   ·rintro⟨h1,i,h2,h3⟩;exact⟨i,h2,by unfold kj;rw[h1,h3];rfl⟩
  refine if2 (λc1=>?_) (λc1=>?_)
  ·left;have e2:=e1.trans (Ex.snoc g' (O.lst [D.int 0]));have h2:=b7 (g:=g') (o:=O.lst [D.int 0]);refine comp_map (a8 T _) (λU=>∃z1 z2,U=[some (.ref a),z1,z2]) (λi=>.int (bT cs (H.getD i 0)).yr) (l:=a9 H) (k:=.lst hl) (λg' e=>n6 (a7 ((e2.trans e).at hh))) (by simp[a9];omega) ⟨none,none,rfl⟩ (λi x U g' hx e sh=>?_) (λg3 e3=>?_) (S5 (a8 T _) (a7 (e2.at hh)) λQ q=>w_var (d:=.ref hl) rfl q)
   ·obtain⟨z1,z2,rfl⟩:=sh;rw[a9,ae,aa] at hx;obtain⟨j,hj,rfl⟩:=hx;refine i0 ?_;left;refine m8 (a7 ((e2.trans e).at ha)) (K8 (hH j (aC hj))) ?_;refine v5 (CJ _) ?_;exact⟨by simp[List.getD,hj],e,_,_,rfl⟩
   have ey:(List.range (a9 H).length).map (λi=>D.int (bT cs (H.getD i 0)).yr)=(H.map λi=>(bT cs i).yr).map D.int:=by
    rw[bD];refine bS λi=>?_;rw[ae,ae];by_cases hi:i<H.length
    ·rw[cb (by simpa[a9] using hi),ag hi];simp[List.getD,hi]
    ·rw[aS (by simpa[a9] using hi),aS ()]
     rfl
   rw[ey];have e4:=e3.trans (Ex.snoc g3 (O.lst ((H.map λi=>(bT cs i).yr).map D.int)));refine CK (e4.at h2) b7 (by simp;omega) ?_;have e5:=e4.trans (Ex.snoc _ (O.lst ([D.int 0]++(H.map λi=>(bT cs i).yr).map D.int)));obtain⟨M,m1,m2⟩:=HE (ns:=0::H.map λi=>(bT cs i).yr) (by simp);refine Ww (ns:=0::H.map λi=>(bT cs i).yr) (a7 b7) m1 m2 ?_;left;refine v5 (CJ _) ?_;left;have em:decide ((bT cs p).yr<M)=J6 cs (iD H) p:=by
    rw[uz,aw c1,pH,bg,cJ,aV];constructor
    ·intro hM;rcases aG.mp m1 with rfl|hm
     ·omega
     ·obtain⟨i,hi,rfl⟩:=aU.mp hm;exact⟨i,hi,aw hM⟩
    ·rintro⟨i,hi,h1⟩;have:=m2 _ (bu _ (aU.mpr ⟨i,hi,rfl⟩));have:=bj h1;omega
   rw[em];cases w2:J6 cs (iD H) p with
   |true =>
    have:fault cs v rs (iD H) p="year":=by unfold fault;rw[aF (by rw[w1];decide),aJ w2]
    rw[this] at h;exact h _ (e2.trans e5)
   |false =>
    refine fB rfl ?_;refine C3 ?_;have xD:=e2.trans e5;exact HF (k:=k) hT rfl (xD.at ha) hz (xD.at hc) hr (xD.at hh) hH qp hp w1 w2 λg6 e6=>h g6 (xD.trans e6)
  ·refine fB rfl ?_;refine C3 ?_;have w2:J6 cs (iD H) p=false:=by rw[uz,aH c1];rfl
   exact HF (k:=k) hT rfl (e1.at ha) hz (e1.at hc) hr (e1.at hh) hH qp hp w1 w2 λg6 e6=>h g6 (e1.trans e6)
end
def yB:ba:=⟨3,3,(.seq (.ret (.dE (bQ (.cmp .NotEq) (.call 91 (du bh br)) bh) (bQ (.cmp .Is) (.call 101 (gH aI bh br)) (.lit .bO)))) .pass)⟩
def HH:ba:=⟨2,2,(.seq (.ret (.comp [0,1] 4 (.one 3) (.dW (dB (.fld "size") aI)) (.fR (.call 115 (gH aI bh bH))) bH)) .pass)⟩
def ye:ba:=⟨2,2,(.seq (.ret (.comp [0] 3 (.one 2) (.dW bh) (dY .Eq (bQ (.bin .Mod) (bQ (.bin .FloorDiv) aI (cK (.prim .lst (.cons (aY 1) (.cons (aY 2) (AN (aY 4) (aY 8) (aY 16) (aY 32) (aY 64) (aY 128) (aY 256))))) br)) (aY 2)) (aY 1)) br)) .pass)⟩
def Y4:ba:=⟨1,1,(.seq (.ret (cK (.prim .lst (.cons (aY 1) (.cons (aY 2) (.cons (aY 4) (AN (aY 8) (aY 16) (aY 32) (aY 64) (aY 128) (aY 256) (aY 512)))))) aI)) .pass)⟩
def V6:ba:=⟨4,7,(.seq (.set 4 (.call 146 (du bH (dB .len aI)))) (.seq (.set 5 (.prim .lst .nil)) (.seq (.dC (.one 6) (.dW (dB .len aI)) (.seq (.ifs (.dE (dY .NotIn eG cF) (dY .Eq (.call 108 (rz aI bh br cF eG)) (iO ""))) (.seq (.expr (.eE .append dU (fg eG))) .pass) .pass) .pass)) (.seq (.ret dU) .pass))))⟩
def E9(cs:List b0)(v:Int)(rs:List fJ)(s p:Nat):Bool:=!s.testBit p&&decide (fault cs v rs s.testBit p="")
def p0(cs:List b0)(v:Int)(rs:List fJ)(s:Nat):List Nat:=(List.range cs.length).filter (E9 cs v rs s)
theorem a42(x:Str):O4 (xy x)=decide (x=""):=by
 unfold xy;by_cases h:x=""
 ·rw[aJ h,aw h];rfl
 ·rw[aF h,aH h];rfl
theorem OJ{s:Nat}:decide (((s |||2 ^ p:Nat):Int)=(s:Nat))=s.testBit p:=by
 rw[bg,cJ];constructor
 ·intro h;have h:s |||2 ^ p=s:=by omega
  have:=M6 s p p;rw[h] at this;rw[this];simp
 ·intro h;have:s |||2 ^ p=s:=Nat.eq_of_testBit_eq λi=>by
   rw[M6];by_cases hi:i=p
   ·subst hi;rw[h];rfl
   ·rw[aH hi,Bool.or_false]
  rw[this]
structure TF(T:Nat->Option ba):Prop where
 qE:T 115=some yB
 AE:T 116=some HH
section
variable{T:Nat->Option ba}{d:Nat}
theorem YB(hT:TB0 T)(qE:T 115=some yB)(B:Bd g b cs v rs)(hz:cs.length<=9)(hr:rs.length<=900){s:Nat}(hs:s<2 ^ cs.length)(hp:p<cs.length)(h:∀g',Ex g g'->Q (.bl (E9 cs v rs s p)) g'):b8 T (k+4) 115 [.ref b,.int (s:Nat),.int (p:Nat)] g Q E:=by
 refine call_of qE rfl ?_;dsimp[yB,c8,List.replicate];left;refine A6 (k:=k+2) hT.og () ?_;left;rw[OJ];cases hb:s.testBit p with
 |true =>
  refine fB rfl ?_;have:E9 cs v rs s p=false:=by unfold E9;rw[hb];rfl
  rw[this] at h;exact h _ (Ex.refl _)
 |false =>
  refine gR rfl ?_;left;refine WJ (k:=k) hT B hz hr hs hp λg1 e1=>?_;left;have:E9 cs v rs s p=O4 (xy (fault cs v rs s.testBit p)):=by unfold E9;rw[hb,a42];rfl
  rw[this] at h;exact h _ e1
theorem S7(hT:TB0 T)(hF:TF T)(B:Bd g b cs v rs)(hz:cs.length<=9)(hr:rs.length<=900){s:Nat}(hs:s<2 ^ cs.length)(h:∀g' l,Ex g g'->g.length<=l->g'[l]?=some (.lst (a9 (p0 cs v rs s)))->Q (.ref l) g'):b8 T (k+5) 116 [.ref b,.int (s:Nat)] g Q E:=by
 refine call_of hF.AE rfl ?_;obtain⟨w,l,dd,nb,h1,h2,h3,h4,h5⟩:=B.ex;refine x4 (a8 T _) (λU=>∃z2 z3,U=[some (.ref b),some (.int (s:Nat)),z2,z3]) (E9 cs v rs s) (λi=>.int (i:Nat)) (l:=i8 0 cs.length) (λg' e=>n8) (by rw[i6];omega) ⟨none,none,rfl⟩ (λi d U g' hx e sh=>?_) (λg' e=>?_) (sN (a8 T _) (by omega:cs.length<=1000) λQ q=>?_)
 ·obtain⟨z2,z3,rfl⟩:=sh;obtain⟨hi,rfl⟩:=s9 hx;rw[cW];refine i0 ?_;left;refine YB (k:=k) hT hF.qE (B.at e) hz hr hs hi λg2 e2=>?_;left;refine⟨rfl,e.trans e2,?_⟩;cases E9 cs v rs s i with
  |true =>
   refine gR rfl ?_;left;exact⟨rfl,e.trans e2,_,_,rfl⟩
  |false=>exact fB rfl ⟨_,_,rfl⟩
 ·rw[i6];exact h _ _ (e.trans (Ex.snoc _ _)) e.len b7
 ·left;exact W3 h1 rfl q
def GK:List D:=[.int 1,.int 2,.int 4,.int 8,.int 16,.int 32,.int 64,.int 128,.int 256]
theorem QZ(hi:i<9):gk GK (i:Int)=some (.int ((2 ^ i:Nat):Int)):=by
 have:i=0\/i=1\/i=2\/i=3\/i=4\/i=5\/i=6\/i=7\/i=8:=by omega
 rcases this with rfl|rfl|rfl|rfl|rfl|rfl|rfl|rfl|rfl<;>rfl
theorem S1(iF:T 147=some Y4)(hn:n<=9)(h:∀g',Ex g g'->Q (.int ((2 ^ n:Nat):Int)) g'):b8 T (k+1) 147 [.int (n:Nat)] g Q E:=by
 refine call_of iF rfl ?_;dsimp[Y4,c8,List.replicate];left;refine m8 (a7 b7) (d:=.int ((2 ^ n:Nat):Int)) ?_ (h _ (Ex.snoc _ _));have:n=0\/n=1\/n=2\/n=3\/n=4\/n=5\/n=6\/n=7\/n=8\/n=9:=by omega
 rcases this with rfl|rfl|rfl|rfl|rfl|rfl|rfl|rfl|rfl|rfl<;>rfl
theorem Xh(qw:T 146=some ye){s:Nat}(hn:n<=9)(h:∀g' l,Ex g g'->g.length<=l->g'[l]?=some (.lst (a9 ((List.range n).filter s.testBit)))->Q (.ref l) g'):b8 T (k+1) 146 [.int (s:Nat),.int (n:Nat)] g Q E:=by
 refine call_of qw rfl ?_;dsimp[ye,c8,List.replicate];left;refine x4 (a8 T _) (λU=>∃z1 z2,U=[some (.int (s:Nat)),z1,z2]) s.testBit (λi=>.int (i:Nat)) (l:=i8 0 n) (λg' e=>n8) (by rw[i6];omega) ⟨none,none,rfl⟩ (λi d U g' hx e sh=>?_) (λg' e=>?_) (sN (a8 T _) (by omega:n<=1000) λQ q=>w_var (d:=.int (n:Nat)) rfl q)
 ·obtain⟨z1,z2,rfl⟩:=sh;obtain⟨hi,rfl⟩:=s9 hx;rw[cW];refine i0 ?_;left;refine m8 (a7 b7) (QZ (i:=i) ()) ?_;have hp:(0:Int)<((2 ^ i:Nat):Int):=by have:=eX (n:=i);omega
  have zN:((2 ^ i:Nat):Int)<1073741824:=by
   have:=yR (a:=2) () (show i<30 by omega);omega
  refine Iu hp zN ?_;left;have eb:decide ((s:Int) / ((2 ^ i:Nat):Int) % 2=1)=s.testBit i:=by
   rw[Nat.testBit_eq_decide_div_mod_eq];refine dH.mpr ?_;rw[<- Int.natCast_ediv];omega
  have e2:=e.trans (Ex.snoc g' (O.lst GK));rw[eb];refine⟨rfl,e2,?_⟩;cases s.testBit i with
  |true =>
   refine gR rfl ?_;left;exact⟨rfl,e2,_,_,rfl⟩
  |false=>exact fB rfl ⟨_,_,rfl⟩
 ·rw[i6];exact h _ _ (e.trans (Ex.snoc _ _)) e.len b7
structure DP(T:Nat->Option ba):Prop where
 qw:T 146=some ye
 iF:T 147=some Y4
 AA:T 148=some V6
theorem WH(hT:oE T)(va:DP T)(hB:∀c∈cs,CB c)(ha:g[a]?=some (.lst (cs.map b0.d)))(hz:cs.length<=9)(hc:g[c]?=some (.lst (o8 rs)))(hr:rs.length<=900){s:Nat}(h:∀g' l,Ex g g'->g.length<=l->g'[l]?=some (.lst (a9 (p0 cs v rs s)))->Q (.ref l) g'):b8 T (k+3) 148 [.ref a,.int v,.ref c,.int (s:Nat)] g Q E:=by
 refine call_of va.AA rfl ?_;dsimp[V6,c8,List.replicate];left;rw[ak];refine Xh (k:=k+1) va.qw hz λg1 hl e1 jE hh=>?_;left;have e2:=e1.trans (Ex.snoc g1 (O.lst []));have Fy:=(Ex.snoc g1 (O.lst [])).at hh;have h2:=b7 (g:=g1) (o:=O.lst []);have l1:=j9 hh;have ge:g.length<=g1.length:=e1.len;generalize g1.length=fl at *;have hH:∀i∈(List.range cs.length).filter s.testBit,i<cs.length:=X7;have qp:((List.range cs.length).filter s.testBit).length<=50:=aD B1 ();have hS:∀i,i<cs.length->iD ((List.range cs.length).filter s.testBit) i=s.testBit i:=λi hi=>by
  rw[bg,cJ,bq,aT];exact⟨λz=>z.2,λz=>⟨hi,z⟩⟩
 refine w9 (a8 T _) (N4 (a8 T _) ?_);left;refine E2 (a7 (e2.at ha)) ?_;refine⟨_,rfl,by omega,by simp;omega,i8 0 cs.length,λi U g'=>Ex g g'/\g'[hl]?=some (.lst (a9 ((List.range cs.length).filter s.testBit)))/\g'[fl]?=some (.lst (a9 ((List.range i).filter (E9 cs v rs s))))/\∃z6,U=[some (.ref a),some (.int v),some (.ref c),some (.int (s:Nat)),some (.ref hl),some (.ref fl),z6],λ_ _ _ _=>by simp only[List.length_map,Int.toNat_natCast];exact n8,⟨e2,Fy,h2,none,rfl⟩,λi x U g' hx q=>?_,λU g' q=>?_⟩
 ·obtain⟨e3,nY,h3,z6,rfl⟩:=q;obtain⟨hi,rfl⟩:=s9 hx;rw[cW];refine i0 ?_;left;refine V1 (Y8 nY ?_);left;have es:(List.range (i+1)).filter (E9 cs v rs s)=(List.range i).filter (E9 cs v rs s)++if E9 cs v rs s i=true then[i] else[]:=by
   rw[fV,dQ];cases z:E9 cs v rs s i<;>simp only[List.filter_cons,z,List.filter_nil]<;>rfl
  have Ng:decide (i∈(List.range cs.length).filter s.testBit)=s.testBit i:=hS i hi;rw[Ng];cases hb:s.testBit i with
  |true =>
   refine fB rfl ?_;refine⟨e3,nY,?_,_,rfl⟩;rw[es,aF (by unfold E9;rw[hb];simp),cU];exact h3
  |false =>
   refine gR rfl ?_;left;refine Hl (k:=k) hT hB (e3.at ha) hz (e3.at hc) hr nY hH qp hi λg4 e4=>?_;rw[Zp hS];left;have FD:E9 cs v rs s i=decide (fault cs v rs s.testBit i=""):=by unfold E9;rw[hb];rfl
   refine if2 (λc1=>?_) (λc1=>?_)
   ·have h4:=e4.at h3;left;refine K2 h4 (by have:=@B1 i (E9 cs v rs s);simp[a9];omega) ?_;refine⟨⟨by simp;exact(e3.trans e4).len,λj hj=>by rw[ax ()];exact(e3.trans e4).old j hj⟩,c7 (e4.at nY) (),?_,_,rfl⟩;rw[get_set h4,es,aJ (by rw[FD];exact aw c1)];simp[a9]
   ·refine⟨e3.trans e4,e4.at nY,?_,_,rfl⟩;rw[es,aF (by rw[FD,aH c1];decide),cU];exact e4.at h3
 ·obtain⟨e3,nY,h3,z6,rfl⟩:=q;rw[i6] at h3;left;exact h _ _ e3 ge h3
end
def J1:ba:=⟨4,9,(.seq (.set 4 (dB .len bh)) (.seq (.ifs (.dE (dY .Gt cF (aY 0)) (dY .Eq (.call 4 (du aI (aY 3))) (aY 0))) (.seq (.ret (.call 21 (du aI (dB .jb cF)))) .pass) .pass) (.seq (.set 5 (.prim .lst .nil)) (.seq (.dC (.one 6) (.dW cF) (.seq (.set 7 (.comp [2,1,5,3] 6 (.one 5) (.dW cF) (.dE (dY .NotIn dU br) (dY .Eq (.call 108 (rz bh aI bH br dU)) (iO ""))) dU)) (.seq (.set 8 (.ite (dY .Gt (dB .len fM) (aY 0)) fM (.comp [5] 3 (.one 2) (.dW cF) (dY .NotIn br aI) br))) (.seq (.expr (.eE .append dU (fg (cK km (.call 4 (du aI (dB .len km))))))) .pass)))) (.seq (.ret dU) .pass)))))⟩
theorem IC:∀{l m:List Nat},l.Nodup->(∀x∈l,x∈m)->l.length<=m.length
 |[],m,_,_=>bP _
 |x::r,m,nd,h=>by
  rw[dj] at nd;have:=IC (l:=r) (m:=m.erase x) nd.2 λy hy=>(yU λz=>nd.1 (by rw[<- z];exact hy)).mpr (h y (by simp[hy]));have hx:=h x (by simp);rw[List.length_erase_of_mem hx] at this;have:=tG hx;simp;omega
structure Ask(g:G)(a c:Nat)(cs:List b0)(v:Int)(rs:List fJ):Prop where
 ha:g[a]?=some (.lst (cs.map b0.d))
 hz:cs.length<=9
 hG:∀c∈cs,jy c
 hv:1<=v/\v<=9
 hc:g[c]?=some (.lst (o8 rs))
 hr:rs.length<=900
 hR:rs.all (n5 cs)=true
section
variable{T:Nat->Option ba}{d:Nat}
theorem Ask.at(h:Ask g a c cs v rs)(e:Ex g g'):Ask g' a c cs v rs:=⟨e.at h.ha,h.hz,h.hG,h.hv,e.at h.hc,h.hr,h.hR⟩
theorem Ask.gr(h:Ask g a c cs v rs)(e:Gr d g g')(h1:a≠d)(h2:c≠d):Ask g' a c cs v rs:=⟨e.at h1 h.ha,h.hz,h.hG,h.hv,e.at h2 h.hc,h.hr,h.hR⟩
theorem Ask.hB(h:Ask g a c cs v rs):∀c∈cs,CB c:=λc hc=>⟨(h.hG c hc).l8,(h.hG c hc).u8⟩
theorem Yd{f:α->β}{l m:List β}(h:l.Perm m):∀R:List α,m=R.map f->∃L:List α,L.Perm R/\l=L.map f:=by
 induction h with
 |nil=>exact λR e=>⟨R,.refl _,e⟩
 |cons x _ ih =>
  intro R e;cases R with
  |nil=>cases e
  |cons r R =>
   injection e with e1 e2;obtain⟨L,h1,h2⟩:=ih R e2;exact⟨r::L,h1.cons _,by rw[e1,h2];rfl⟩
 |swap x y t =>
  intro R e
  match R,e with
  |r1::r2::R,e =>
   simp only[List.map_cons,List.cons.injEq] at e;obtain⟨rfl,rfl,rfl⟩:=e;exact⟨r2::r1::R,.swap _ _ _,rfl⟩
 |trans _ _ Mf Me =>
  intro R e;obtain⟨K,h1,h2⟩:=Me R e;obtain⟨L,h3,h4⟩:=Mf K h2;exact⟨L,h3.trans h1,h4⟩
theorem WY(hT:oE T)(qG:T 111=some J1)(A:Ask g a c cs v rs)(h1:d<a)(h2:d<c)(D0:f9 g d)(h:∀(L:List Nat) b g',L.length=cs.length->L.Nodup->(∀j∈L,j<cs.length)->g'[b]?=some (.lst (a9 L))->g.length<=b->f9 g' d->Gr d g g'->Q (.ref b) g'):b8 T (k+3) 111 [.ref d,.ref a,.int v,.ref c] g Q E:=by
 refine call_of qG rfl ?_;dsimp[J1,c8,List.replicate];have ha:=A.ha;have hz:=A.hz;have dl:=D0.lt;left;have go:∀(N:Ends) (E:KX) g1,N.rt=Q->f9 g1 d->Gr d g g1->wpS (b8 T (k+2)) (match J1.body with|.seq _ (.seq _ b)=>b|x=>x) N [some (.ref d),some (.ref a),some (.int v),some (.ref c),some (.int ((cs.map b0.d).length:Nat)),none,none,none,none] g1 E:=by
  intro N E g1 hN D1 G1;subst hN;dsimp[J1];left;have A1:=A.gr G1 () ();have A2:=A1.at (Ex.snoc g1 (O.lst []));have D2:=D1.snoc (O.lst []);have G2:=G1.trans (Gr.snoc d g1 (O.lst []));have nF:=b7 (g:=g1) (o:=O.lst []);have l1:=G1.len;generalize g1.length=rr at *;refine w9 (a8 T _) (N4 (a8 T _) ?_);left;refine⟨by omega,by simp;omega,i8 0 cs.length,λi U g'=>f9 g' d/\Gr d g g'/\Ask g' a c cs v rs/\(∃H:List Nat,H.length=i/\H.Nodup/\(∀j∈H,j<cs.length)/\g'[rr]?=some (.lst (a9 H)))/\∃z6 z7 z8,U=[some (.ref d),some (.ref a),some (.int v),some (.ref c),some (.int ((cs.map b0.d).length:Nat)),some (.ref rr),z6,z7,z8],λ_ _ _ _=>by simp only[List.length_map,Int.toNat_natCast];exact n8,⟨D2,G2,A2,⟨[],rfl,by simp,by simp,nF⟩,none,none,none,rfl⟩,λi x U g' hx q=>?_,λU g' q=>?_⟩
  ·obtain⟨D3,G3,A3,⟨H,hl,nd,hH,rO⟩,z6,z7,z8,rfl⟩:=q;obtain⟨hi,rfl⟩:=s9 hx;rw[cW];refine i0 ?_;left;refine x4 (a8 T _) (λU=>∃z4 z5,U=[some (.int v),some (.ref a),some (.ref rr),some (.ref c),z4,z5]) (λj=>!decide (j∈H)&&decide (fault cs v rs (iD H) j="")) (λj=>.int (j:Nat)) (l:=i8 0 cs.length) (k:=.fix (i8 0 cs.length)) (λg' e=>n8) (by rw[i6];omega) ⟨none,none,rfl⟩ (λj d U g4 hx e sh=>?_) (λg4 e4=>?_) (sN (a8 T _) (by omega:cs.length<=1000) λQ q=>w_var (d:=.int (cs.length:Nat)) (by simp) q)
   ·obtain⟨z4,z5,rfl⟩:=sh;obtain⟨hj,rfl⟩:=s9 hx;rw[cW];refine i0 ?_;left;refine V1 (Y8 (e.at rO) ?_);left;by_cases uR:j∈H
    ·rw[aw uR];refine fB rfl ?_;exact⟨rfl,e,fB rfl ⟨_,_,rfl⟩⟩
    ·rw[aH uR];refine gR rfl ?_;left;have A4:=A3.at e;refine Hl (k:=k) hT A4.hB A4.ha hz A4.hc A4.hr (e.at rO) hH () hj λg5 e5=>?_;left;refine⟨rfl,e.trans e5,?_⟩;refine if2 (λ_=>?_) (λ_=>?_)
     ·left;exact⟨rfl,e.trans e5,_,_,rfl⟩
     ·exact⟨_,_,rfl⟩
   left;rw[i6];have e5:=e4.trans (Ex.snoc g4 (O.lst (((List.range cs.length).filter λj=>!decide (j∈H)&&decide (fault cs v rs (iD H) j="")).map λj=>D.int (j:Nat))));have Ag:=b7 (g:=g4) (o:=O.lst (((List.range cs.length).filter λj=>!decide (j∈H)&&decide (fault cs v rs (iD H) j="")).map λj=>D.int (j:Nat)));have gl:d<g4.length:=by have:=e4.len;have:=D3.lt;omega
   generalize g4++[O.lst (((List.range cs.length).filter λj=>!decide (j∈H)&&decide (fault cs v rs (iD H) j="")).map λj=>D.int (j:Nat))]=g5 at *;generalize g4.length=gg at *;have last:∀(N:Ends) (E:KX) (z7:Option D) (x:Nat) (L:List Nat) g6,Ex g5 g6->g6[x]?=some (.lst (a9 L))->d<x->0<L.length->L.length<=9->(∀j∈L,j<cs.length/\j∉H)->(∀z7 z8 g',(f9 g' d/\Gr d g g'/\Ask g' a c cs v rs/\(∃H:List Nat,H.length=i+1/\H.Nodup/\(∀j∈H,j<cs.length)/\g'[rr]?=some (.lst (a9 H))))->N.nx [some (.ref d),some (.ref a),some (.int v),some (.ref c),some (.int ((cs.map b0.d).length:Nat)),some (.ref rr),some (.int (i:Nat)),z7,z8] g')->wpS (b8 T (k+2)) (.seq (.expr (.eE .append (.var 5) (.cons (.prim .ix (.cons (.var 8) (.cons (.call 4 (.cons (.var 0) (.cons (.prim .len (.cons (.var 8) .nil)) .nil))) .nil))) .nil))) .pass) N [some (.ref d),some (.ref a),some (.int v),some (.ref c),some (.int ((cs.map b0.d).length:Nat)),some (.ref rr),some (.int (i:Nat)),z7,some (.ref x)] g6 E:=by
    intro N E z7 x L g6 e6 Mo Aj L0 L9 hL hN;have xB:=e5.trans e6;have Mv:=xB.at rO;left;have il:(a9 L).length=L.length:=by simp[a9]
    refine d8 (k:=k+1) hT.lf.pull (xB.draw D3) () () λq g7 q0 q1 D7 G7=>?_;obtain⟨j,rfl⟩:∃j:Nat,q=j:=⟨q.toNat,by omega⟩
    have hj:j<L.length:=by omega
    refine m8 (a7 (G7.at () Mo)) (d:=D.int ((L[j]:Nat):Int)) (v9 (by rw[a9,ae,ag hj];rfl)) ?_;have Fj:=G7.at (show rr≠d by omega) Mv;refine K2 Fj (by simp[a9];omega) ?_;have hq:=hL _ (bN hj);have G37:=(G3.trans (xB.gr d)).trans G7;refine hN _ _ _ ⟨D7.C1 (),G37.C1 (),?_,H++[L[j]],by simp;omega,?_,λq lO=>?_,?_⟩
    ·have A7:=(A3.at xB).gr G7 () ();have n1:rr≠a:=λz=>by have dZ:=j9 A.ha;omega
     have n2:rr≠c:=λz=>by have dZ:=j9 A.hc;omega
     exact⟨c7 A7.ha n1,A7.hz,A7.hG,A7.hv,c7 A7.hc n2,A7.hr,A7.hR⟩
    ·rw[cS];exact⟨nd,by simp,λx hx y hy=>by cases aR.mp hy;exact λz=>hq.2 (z▸hx)⟩
    ·rcases aO.mp lO with z|z
     ·exact hH q z
     ·cases aR.mp z;exact hq.1
    ·rw[get_set Fj];simp[a9]
   refine E2 (a7 Ag) ?_;left;have il:(((List.range cs.length).filter λj=>!decide (j∈H)&&decide (fault cs v rs (iD H) j="")).map λj=>D.int (j:Nat)).length=((List.range cs.length).filter λj=>!decide (j∈H)&&decide (fault cs v rs (iD H) j="")).length:=by simp
   rw[il];refine if2 (λc0=>?_) (λc0=>?_)
   ·refine w_var (d:=.ref gg) rfl ?_;refine last _ _ _ gg ((List.range cs.length).filter λj=>!decide (j∈H)&&decide (fault cs v rs (iD H) j="")) g5 (Ex.refl _) Ag gl () (aD B1 ()) (λj hj=>?_) (λz7 z8 g' q=>⟨q.1,q.2.1,q.2.2.1,q.2.2.2,_,_,_,rfl⟩);obtain⟨h1,h2⟩:=bq.mp hj;rw[aX,gN,cA] at h2;exact⟨aT.mp h1,h2.1⟩
   ·refine x4 (a8 T _) (λU=>∃z1 z2,U=[some (.ref rr),z1,z2]) (λj=>!decide (j∈H)) (λj=>.int (j:Nat)) (l:=i8 0 cs.length) (k:=.fix (i8 0 cs.length)) (λg' e=>n8) (by rw[i6];omega) ⟨none,none,rfl⟩ (λj d U g6 hx e sh=>?_) (λg6 e6=>?_) (sN (a8 T _) (by omega:cs.length<=1000) λQ q=>w_var (d:=.int (cs.length:Nat)) (by simp) q)
    ·obtain⟨z1,z2,rfl⟩:=sh;obtain⟨hj,rfl⟩:=s9 hx;rw[cW];refine i0 ?_;left;refine V1 (Y8 ((e5.trans e).at rO) ?_);left;refine⟨rfl,e,?_⟩;by_cases uR:j∈H
     ·rw[aw uR];exact fB rfl ⟨_,_,rfl⟩
     ·rw[aH uR];refine gR rfl ?_;left;exact⟨rfl,e,_,_,rfl⟩
    ·rw[i6];have ne:0<((List.range cs.length).filter λj=>!decide (j∈H)).length:=by
      rcases KZ ((List.range cs.length).filter λj=>!decide (j∈H)).length with z|z
      ·have z:=List.length_eq_zero_iff.mp z;have sub:∀j,j<cs.length->j∈H:=λj hj=>by
        refine Decidable.byContradiction λhn=>?_;have:j∈(List.range cs.length).filter λj=>!decide (j∈H):=bq.mpr ⟨aT.mpr hj,by simp[hn]⟩;rw[z] at this;cases this
       have p:(List.range cs.length).length<=H.length:=IC fK λj hj=>sub j (aT.mp hj);rw[fk] at p;omega
      ·exact z
     refine last _ _ _ g6.length ((List.range cs.length).filter λj=>!decide (j∈H)) _ (e6.trans (Ex.snoc _ _)) b7 (by have:=e6.len;have:=j9 Ag;omega) ne (aD B1 ()) (λj hj=>?_) (λz7 z8 g' q=>⟨q.1,q.2.1,q.2.2.1,q.2.2.2,_,_,_,rfl⟩);obtain⟨h1,h2⟩:=bq.mp hj;rw[gN,cA] at h2;exact⟨aT.mp h1,h2⟩
  ·obtain⟨D3,G3,A3,⟨H,hl,nd,hH,rO⟩,z6,z7,z8,rfl⟩:=q;rw[i6] at hl;left;exact h H _ _ hl nd hH rO () D3 G3
 by_cases h0:(0:Int)<((cs.map b0.d).length:Nat)
 ·refine gR (aw h0) ?_;left;refine d8 (k:=k+1) hT.lf.pull D0 ∅ ∅ λq g1 _ _ D1 G1=>?_;left;refine if2 (λ_=>?_) (λ_=>?_)
  ·left;refine zA () (by simp;omega) ?_;have l1:=G1.len;refine V4 (k:=k) hT.lf.pull hT.lf.order b7 (by rw[i6];simp;omega) () (D1.snoc _) λl' b g2 hp hb Al D2 G2=>?_;obtain⟨L,p1,rfl⟩:=Yd hp (f:=λi:Nat=>D.int i) (List.range cs.length) (by simp[i8]);exact h L b g2 (by rw[p1.length_eq];simp) (p1.nodup_iff.mpr fK) (λj hj=>aT.mp (p1.mem_iff.mp hj)) hb (by simp at Al;omega) D2 ((G1.trans (Gr.snoc _ _ _)).trans G2)
  ·refine C3 ?_;exact go _ _ g1 rfl D1 G1
 ·refine fB (aH h0) ?_;refine fB rfl ?_;refine C3 ?_;exact go _ _ g rfl D0 (Gr.refl _ _)
end
def FG(n:Nat)(F:Nat->List Nat):Prop:=∀s p,p∈F s->p<n/\s.testBit p=false
def Q2(n:Nat)(F:Nat->List Nat):Nat->Nat->List (List Nat)
 |0,s=>if s=2 ^ n-1 then[[]] else[]
 |f+1,s=>if s=2 ^ n-1 then[[]] else(F s).flatMap λp=>(Q2 n F f (s |||2 ^ p)).map (p::·)
def j6(n:Nat)(F:Nat->List Nat)(s:Nat):List (List Nat):=Q2 n F (2 ^ n) s
theorem tj{s:Nat}(h:s.testBit p=false):s<s |||2 ^ p:=by
 have h1:s<=s |||2 ^ p:=Nat.left_le_or
 have h2:s |||2 ^ p≠s:=λe=>by
  have:=M6 s p p;rw[e,h] at this;simp at this
 omega
theorem Y9{l:List α}{f g:α->List β}(h:∀x∈l,f x=g x):l.flatMap f=l.flatMap g:=by
 induction l with
 |nil=>rfl
 |cons a r ih=>rw[fm,fm,h a (by simp),ih λx hx=>h x (by simp[hx])]
theorem HL{n:Nat}{F:Nat->List Nat}(hF:FG n F):∀(f s:Nat),s<2 ^ n->2 ^ n-1-s<=f->Q2 n F f s=Q2 n F (f+1) s
 |0,s,hs,hf=>by
  have e:s=2 ^ n-1:=by omega
  simp only[Q2];rw[aJ e,aJ e]
 |f+1,s,hs,hf=>by
  rw[Q2,Q2];by_cases e:s=2 ^ n-1
  ·rw[aJ e,aJ e]
  ·rw[aF e,aF e];refine Y9 λp hp=>?_;have:=hF s p hp;rw[HL hF f (s |||2 ^ p) (X0 hs this.1) (by have:=tj this.2;omega)]
theorem U3{F:Nat->List Nat}{s:Nat}(h:s=2 ^ n-1):j6 n F s=[[]]:=by
 unfold j6;obtain⟨m,hm⟩:∃m,2 ^ n=m+1:=⟨2 ^ n-1,by have:=eX (n:=n);omega⟩
 rw[hm,Q2,aJ h]
theorem BI{F:Nat->List Nat}(hF:FG n F){s:Nat}(hs:s<2 ^ n)(h:s≠2 ^ n-1):j6 n F s=(F s).flatMap λp=>(j6 n F (s |||2 ^ p)).map (p::·):=by
 unfold j6;obtain⟨m,hm⟩:∃m,2 ^ n=m+1:=⟨2 ^ n-1,by have:=eX (n:=n);omega⟩
 conv=>lhs;rw[hm,Q2,aF h]
 refine Y9 λp hp=>?_;have:=hF s p hp;rw[hm,<- HL hF m (s |||2 ^ p) (X0 hs this.1) ()]
theorem Jw{F:Nat->List Nat}(hF:FG n F){s:Nat}(hs:s<2 ^ n)(h:s≠2 ^ n-1):(j6 n F s).length=((F s).map λp=>(j6 n F (s |||2 ^ p)).length).sum:=by
 rw[BI hF hs h,List.length_flatMap];simp[Function.comp_def]
inductive gZ(F:Nat->List Nat):Nat->Prop
 |zero:gZ F 0
 |step {s p:Nat} (h:gZ F s) (hp:p∈F s):gZ F (s |||2 ^ p)
theorem gZ.lt{F:Nat->List Nat}(hF:FG n F){s:Nat}(h:gZ F s):s<2 ^ n:=by
 induction h with
 |zero=>exact Nat.two_pow_pos _
 |step h hp ih=>exact X0 ih (hF _ _ hp).1
theorem N6(cs:List b0)(v:Int)(rs:List fJ):FG cs.length (p0 cs v rs):=λs p hp=>by
 obtain⟨h1,h2⟩:=bq.mp hp;unfold E9 at h2;rw[aX,gN] at h2;exact⟨aT.mp h1,h2.1⟩
theorem YA{f:α->List β}{l:List α}{x:α}(hx:l[j]?=some x)(m:Nat):(l.flatMap f)[((l.take j).flatMap f).length+m]?=((l.drop j).flatMap f)[m]?/\(l.drop j).flatMap f=f x++(l.drop (j+1)).flatMap f:=by
 have e:l.flatMap f=(l.take j).flatMap f++(l.drop j).flatMap f:=by rw[<- Eh,bG]
 have hj:j<l.length:=(av.mp hx).1;have ed:l.drop j=x::l.drop (j+1):=by
  rw[dh hj]
  congr 1
  exact(av.mp hx).2
 constructor
 ·rw[e,da ()]
  congr 1
  omega
 ·rw[ed,fm]
noncomputable abbrev kN(j:Nat):Key:=.inl (j:Int)
theorem yH{c:Key}:p9 (putD kvs c x) c=some x:=by
 unfold p9 putD;by_cases h:(kvs.any λkv=>decide (kv.1=c))=true
 ·rw[aJ h]
  induction kvs with
  |nil=>cases h
  |cons kv r ih =>
   rw[cI,eV];by_cases hk:kv.1=c
   ·rw[aJ hk];simp[hk]
   ·rw[aF hk];simp only[hk,decide_false];refine ih ?_;rw[jQ,cV] at h;exact h.resolve_left (by simp[hk])
 ·rw[aF h,kJ];have:kvs.find? (λkv=>decide (kv.1=c))=none:=by
   rw[jW];exact λkv hk hc=>h (aV.mpr ⟨kv,hk,hc⟩)
  rw[this];simp
theorem Cq{c c':Key}(hn:c≠c'):p9 (putD kvs c x) c'=p9 kvs c':=by
 unfold p9 putD;by_cases h:(kvs.any λkv=>decide (kv.1=c))=true
 ·rw[aJ h];clear h
  induction kvs with
  |nil=>rfl
  |cons kv r ih =>
   rw[cI,eV,eV];by_cases hk:kv.1=c
   ·rw[aJ hk];have:kv.1≠c':=λz=>hn (hk.symm.trans z);simp only[this,decide_false];exact ih
   ·rw[aF hk];by_cases nI:kv.1=c'
    ·simp only[nI,decide_true]
    ·simp only[nI,decide_false];exact ih
 ·rw[aF h,kJ];have:[(c,x)].find? (λkv=>decide (kv.1=c'))=none:=by simp[hn]
  rw[this];simp
theorem JN{c:Key}:(putD kvs c x).length<=kvs.length+1:=by
 unfold putD;split<;>simp
theorem xO{i:Nat}(h:i≠j):kN i≠kN j:=λz=>h (by have:(i:Int)=j:=Sum.inl.inj z;omega)
def M9:ba:=⟨1,5,(.seq (.set 1 (.prim (.ka 0) .nil)) (.seq (.set 2 (.prim .lst .nil)) (.seq (.dC (.one 3) (.dW (bQ (.bin .Add) (dB (.fld "full") aI) (aY 1))) (.seq (.ifs (dY .In bH bh) (.seq (.expr (.eE .append br (fg bH))) (.seq (.dC (.one 4) (.fc (.call 116 (du aI bH))) (.seq (.expr (.eE .kc bh (fg (.call 91 (du bH cF))))) .pass)) .pass)) .pass) .pass)) (.seq (.ret br) .pass))))⟩
def BG:ba:=⟨1,3,(.seq (.set 1 (.prim .P5 .nil)) (.seq (.dC (.one 2) (.nD (.call 117 (fg aI))) (.seq (.ifs (dY .Eq br (dB (.fld "full") aI)) (.seq (.dS bh br (aY 1)) .pass) (.seq (.dS bh br (dB .sum (.comp [2,1] 4 (.one 3) (.fc (.call 116 (du aI br))) .no (cK bh (.call 91 (du aI bH)))))) .pass)) .pass)) (.seq (.ret bh) .pass)))⟩
def yq:ba:=⟨4,7,(.seq (.set 4 (.call 116 (du aI br))) (.seq (.set 5 bH) (.seq (.set 6 (aY 0)) (.seq (.jZ (dY .GtE dU (cK bh (.call 91 (du br (cK cF eG))))) (.seq (.kx 5 .mP (cK bh (.call 91 (du br (cK cF eG))))) (.seq (.kx 6 .iadd (aY 1)) .pass))) (.seq (.ret (bQ .tup (cK cF eG) dU)) .pass)))))⟩
def N1:ba:=⟨3,7,(.seq (.set 3 (.prim .lst .nil)) (.seq (.set 4 (aY 0)) (.seq (.set 5 br) (.seq (.jZ (dY .NotEq cF (dB (.fld "full") aI)) (.seq (.lK (.many [6,5]) (.call 122 (oN aI bh cF dU))) (.seq (.expr (.eE .append bH (fg eG))) (.seq (.set 4 (.call 91 (du cF eG))) .pass)))) (.seq (.ret bH) .pass)))))⟩
def J9:ba:=⟨1,2,(.seq (.set 1 (.call 121 (fg aI))) (.seq (.ifs (dY .Eq (cK bh (aY 0)) (aY 0)) (.seq (.ret (.lit .bO)) .pass) .pass) (.seq (.ret (.call 123 (gH aI bh (aY 0)))) .pass)))⟩
def O1:ba:=⟨3,3,(.seq (.ret (.call 124 (fg (.call 99 (gH aI bh br))))) .pass)⟩
def yC:ba:=⟨3,3,(.seq (.ret (cK (.call 121 (fg (.call 99 (gH aI bh br)))) (aY 0))) .pass)⟩
theorem Y3:∀{l m:List Nat},l.Nodup->(∀x∈l,x∈m)->l.length<=m.length
 |[],m,_,_=>bP _
 |x::r,m,nd,h=>by
  rw[dj] at nd;have:=Y3 (l:=r) (m:=m.erase x) nd.2 λy hy=>(yU λz=>nd.1 (by simp_all)).mpr (h y (by simp[hy]))
  grind
section
variable{U:S}{t:MT}
inductive wo(P:fu)(t:MT)(elt:ME)(Q:KD)(U:S)(k:IK)(g1:G):Prop
 |mk (l:List D) (Sh:S->Prop) (w:Nat->D) (hk:∀g',Ex g1 g'->k.Is l g') (hl:l.length<=1000) (h0:Sh U)
   (hs:∀i d U g',l[i]?=some d->Ex g1 g'->Sh U->jq t d U λcC=>bo P elt cC g' (λy g4=>y=w i/\Ex g1 g4/\Sh cC) ik) (hd:∀g',Ex g1 g'->Q (.ref g'.length) (g'++[.lst ((List.range l.length).map w)])):wo P t elt Q U k g1
theorem Xy(hP:i9 P)(h:gI P it U g (wo P t elt Q (E3 U d4 n)) E):bo P (.comp d4 n t it .no elt) U g Q E:=by
 refine E6 hP (A5 hP it _ _ _ _ _ _ (λk g1 h=>?_) (λ_ _ z=>z) h);obtain⟨l,Sh,w,hk,hl,h0,hs,hd⟩:=h;refine⟨l,λi ys U g'=>Ex g1 g'/\ys=(List.range i).map w/\Sh U,hl,λi ys U g' q=>⟨hk _ q.1,by simp_all⟩,⟨Ex.refl _,rfl,h0⟩,λi x ys U g' hx q=>?_,λys U g' q=>?_⟩
 ·obtain⟨e1,rfl,sh⟩:=q;refine x6 (λcC q=>vP (lp (b9 hP elt _ _ _ _ _ _ (λy g4 q=>?_) (λ_ _ z=>z) q))) (hs i x U g' hx e1 sh);obtain⟨rfl,e4,sh⟩:=q;exact⟨e4,by rw[fV,cT];rfl,sh⟩
 ·obtain⟨e1,rfl,sh⟩:=q;exact hd g' e1
end
def oz(g:G)(sd n:Nat)(K:List Nat):Prop:=∃S m,g[sd]?=some (.set S m)/\m=K.length/\K.Nodup/\(∀j∈K,j<2 ^ n)/\∀k:Int,S k=true↔∃j∈K,k=(j:Nat)
theorem oz.at{g g':G}{sd n:Nat}{K:List Nat}(h:oz g sd n K)(e:Ex g g'):oz g' sd n K:=let ⟨S,m,h1,h2⟩:=h;⟨S,m,e.at h1,h2⟩
theorem oz.size{sd:Nat}{K:List Nat}(h:oz g sd n K):K.length<=2 ^ n:=by
 obtain⟨S,m,_,_,nd,lt,_⟩:=h;have:=Y3 (m:=List.range (2 ^ n)) nd λx hx=>aT.mpr (lt x hx)
 simp_all
structure TW(T:Nat->Option ba):Prop where
 qD:T 117=some M9
 AD:T 121=some BG
structure Wy(g:G)(w:Nat)(cs:List b0)(v:Int)(rs:List fJ):Prop where
 ex:∃kvs,g[w]?=some (.cY kvs)/\∀s,gZ (p0 cs v rs) s->p9 kvs (kN s)=some (.int ((j6 cs.length (p0 cs v rs) s).length:Nat))
theorem Wy.at{g g':G}{w:Nat}{cs:List b0}{v:Int}{rs:List fJ}(h:Wy g w cs v rs)(e:Ex g g'):Wy g' w cs v rs:=let ⟨kvs,h1,h2⟩:=h.ex;⟨⟨kvs,e.at h1,h2⟩⟩
theorem HJ{l:List Nat}(hl:l.Pairwise (· > ·)){s x:Nat}(hi:l[i]?=some s)(hx:x∈l)(h:s<x):x∈l.take i:=by
 obtain⟨j,hj,rfl⟩:=bt.mp hx;obtain⟨iQ,rfl⟩:=av.mp hi;have MN:j<i:=by
  rcases fi j i with z|z|z
  ·exact z
  ·subst z;omega
  ·have:=df.mp hl i j iQ hj z;omega
 exact fF.mpr ⟨j,by rw[gT MN,ag hj]⟩
theorem wc(h:n<=9):1<=2 ^ n/\2 ^ n<=512:=⟨eX,yS () h⟩
section
variable{T:Nat->Option ba}{d:Nat}
theorem YT(hT:TB0 T)(hF:TF T)(qD:T 117=some M9)(B:Bd g b cs v rs)(hz:cs.length<=9)(hr:rs.length<=900)(h:∀(L:List Nat) l g',Ex g g'->g.length<=l->g'[l]?=some (.lst (a9 L))->L.Pairwise (· < ·)->(∀s,s∈L↔gZ (p0 cs v rs) s)->L.length<=512->Q (.ref l) g'):b8 T (k+6) 117 [.ref b] g Q E:=by
 refine call_of qD rfl ?_;have fY:=N6 cs v rs;generalize kX:p0 cs v rs=F at *;obtain⟨w0,l0,dd,nb,f1,f2,f3,f4,f5⟩:=B.ex;have p2:=wc hz;refine SW ?_;have s1:oz (g++[O.set (λk=>decide (k=0)) 1]) g.length cs.length [0]:=⟨_,_,b7,rfl,by simp,by simp;omega,λk=>by simp⟩
 have e1:=Ex.snoc g (O.set (λk=>decide (k=0)) 1);generalize g++[O.set (λk=>decide (k=0)) 1]=g1 at *;left;have e2:=e1.trans (Ex.snoc g1 (O.lst []));have s2:=s1.at (Ex.snoc g1 (O.lst []));have t2:=b7 (g:=g1) (o:=O.lst []);have l1:g.length<g1.length:=by obtain⟨_,_,z,_⟩:=s1;exact j9 z
 generalize g1.length=tl at *;refine w9 (a8 T _) (N4 (a8 T _) ?_);left;refine W3 (e2.at f1) rfl ?_;left;have en:((2 ^ cs.length-1:Nat):Int)+1=((2 ^ cs.length:Nat):Int):=by omega
 rw[en];refine⟨by omega,by omega,i8 0 (2 ^ cs.length),λt U g'=>Ex g g'/\(∃K,oz g' g.length cs.length K/\∀j,j∈K↔j=0\/∃s p,s<t/\gZ F s/\p∈F s/\j=s |||2 ^ p)/\(∃L,g'[tl]?=some (.lst (a9 L))/\L.Pairwise (· < ·)/\(∀s,s∈L↔s<t/\gZ F s)/\L.length<=t)/\∃z3 z4,U=[some (.ref b),some (.ref g.length),some (.ref tl),z3,z4],λ_ _ _ _=>by exact n8,⟨e2,⟨[0],s2,λj=>by simp⟩,⟨[],t2,by simp,by simp,by simp⟩,none,none,rfl⟩,λt x U g' hx q=>?_,λU g' q=>?_⟩
 ·obtain⟨e3,⟨K,s3,hK⟩,⟨L,t3,pw,hL,Au⟩,z3,z4,rfl⟩:=q;obtain⟨ht,rfl⟩:=s9 hx;rw[cW];have mU:t∈K↔gZ F t:=by
   rw[hK];constructor
   ·rintro(rfl|⟨s,p,_,h2,h3,rfl⟩)
    ·exact .zero
    ·exact .step h2 h3
   ·intro h;cases h with
    |zero=>exact .inl rfl
    |step h hp=>exact .inr ⟨_,_,tj (fY _ _ hp).2,h,hp,rfl⟩
  refine i0 ?_;left;obtain⟨S,m,sg,sm,snd,slt,sS⟩:=id s3;refine VP sg ?_;left;have FQ:S (t:Nat)=true↔gZ F t:=by
   rw[sS,<- mU];exact⟨λ⟨j,hj,e⟩=>by rw[show t=j by omega];exact hj,λz=>⟨t,z,rfl⟩⟩
  cases hb:S (t:Nat) with
  |false =>
   have oU:¬gZ F t:=λz=>by rw[FQ.mpr z] at hb;cases hb
   refine fB rfl ?_;refine⟨e3,⟨K,s3,λj=>(hK j).trans ⟨?_,?_⟩⟩,⟨L,t3,pw,λs=>(hL s).trans ⟨λz=>⟨by omega,z.2⟩,λz=>⟨?_,z.2⟩⟩,by omega⟩,_,_,rfl⟩
   ·rintro(z|⟨s,p,h1,h2⟩)
    ·exact .inl z
    ·exact .inr ⟨s,p,by omega,h2⟩
   ·rintro(z|⟨s,p,h1,h2,h3⟩)
    ·exact .inl z
    ·refine .inr ⟨s,p,?_,h2,h3⟩;rcases fZ s t with y|y
     ·exact y
     ·exact absurd (show gZ F t by rw[show t=s by omega];exact h2) oU
   ·rcases fZ s t with y|y
    ·exact y
    ·exact absurd (show gZ F t by rw[show t=s by omega];exact z.2) oU
  |true =>
   have hR:=FQ.mp hb;refine gR rfl ?_;left;refine K2 t3 (by simp[a9];omega) ?_;have Lr:tl≠g.length:=by omega
   have s4:oz (g'.set tl (.lst (a9 L++[D.int (t:Nat)]))) g.length cs.length K:=⟨S,m,c7 sg Lr,sm,snd,slt,sS⟩
   have t4:(g'.set tl (.lst (a9 L++[D.int (t:Nat)])))[tl]?=some (.lst (a9 (L++[t]))):=by rw[get_set t3];simp[a9]
   have e4:Ex g (g'.set tl (.lst (a9 L++[D.int (t:Nat)]))):=⟨by simp;exact e3.len,λi hi=>by rw[ax ()];exact e3.old i hi⟩
   generalize g'.set tl (.lst (a9 L++[D.int (t:Nat)]))=g4 at *;left;refine w9 (a8 T _) (kq (a8 T _) ?_);left;refine S7 (k:=k) hT hF (B.at e4) hz hr ht λg5 fl e5 Ai h5=>?_;rw[kX] at h5;have l4:tl<g4.length:=j9 t4;refine⟨fl,_,rfl,a7 h5,a9 (F t),λj U g'=>Ex g g'/\g'[fl]?=some (.lst (a9 (F t)))/\g'[tl]?=some (.lst (a9 (L++[t])))/\(∃K',oz g' g.length cs.length K'/\∀x,x∈K'↔x∈K\/∃p∈(F t).take j,x=t |||2 ^ p)/\∃z4,U=[some (.ref b),some (.ref g.length),some (.ref tl),some (.int (t:Nat)),z4],λj U g' q=>n6 (a7 q.2.1),⟨e4.trans e5,h5,e5.at t4,⟨K,s4.at e5,λx=>by simp⟩,z4,rfl⟩,λj x U g' hx q=>?_,λU g' q=>?_⟩
   ·obtain⟨e6,h6,t6,⟨K',s6,sf⟩,z4,rfl⟩:=q;rw[a9,ae,aa] at hx;obtain⟨p,hp,rfl⟩:=hx;have lP:=aC hp;have mS:=(fY _ _ lP)
    have tk:(F t).take (j+1)=(F t).take j++[p]:=by rw[bC,hp];rfl
    obtain⟨S6,m6,wM,Ey,tU,tW,rE⟩:=id s6;refine i0 ?_;left;refine⟨SM wM,?_⟩;left;refine A6 (k:=k+4) hT.og () ?_;have hsz:=s6.size;refine Qr wM () ?_;have dZ:=X0 ht mS.1;refine⟨⟨by simp;exact e6.len,λi hi=>by rw[ax ()];exact e6.old i hi⟩,c7 h6 (),c7 t6 (),?_,_,rfl⟩;by_cases lQ:S6 ((t |||2 ^ p:Nat):Int)=true
    ·refine⟨K',⟨_,_,get_set wM,by rw[aJ lQ];exact Ey,tU,tW,λk=>?_⟩,λx=>?_⟩
     ·rw[cV,cJ];constructor
      ·rintro(z|z)
       ·exact(rE k).mp z
       ·subst z;exact(rE _).mp lQ
      ·exact λz=>.inl ((rE k).mpr z)
     ·rw[sf x,tk];simp only[List.mem_append,List.mem_singleton];constructor
      ·rintro(z|⟨q,z1,z2⟩)
       ·exact .inl z
       ·exact .inr ⟨q,.inl z1,z2⟩
      ·rintro(z|⟨q,z1|z1,z2⟩)
       ·exact .inl z
       ·exact .inr ⟨q,z1,z2⟩
       ·subst z1 z2;obtain⟨y,y1,y2⟩:=(rE _).mp lQ;rw[<- sf,show(t |||2 ^ q)=y by omega];exact y1
    ·have zR:(t |||2 ^ p)∉K':=λz=>lQ ((rE _).mpr ⟨_,z,rfl⟩);refine⟨K'++[t |||2 ^ p],⟨_,_,get_set wM,by rw[aF lQ];simp[Ey],?_,λy hy=>?_,λk=>?_⟩,λx=>?_⟩
     ·rw[cS];exact⟨tU,by simp,λx hx y hy=>by cases aR.mp hy;exact λz=>zR (z▸hx)⟩
     ·rcases aO.mp hy with z|z
      ·exact tW y z
      ·cases aR.mp z;exact dZ
     ·rw[cV,cJ,rE];simp only[List.mem_append,List.mem_singleton];constructor
      ·rintro(⟨y,y1,y2⟩|z)
       ·exact⟨y,.inl y1,y2⟩
       ·exact⟨_,.inr rfl,z⟩
      ·rintro⟨y,y1|y1,y2⟩
       ·exact .inl ⟨y,y1,y2⟩
       ·subst y1;exact .inr y2
     ·rw[aO,aR,sf x,tk];simp only[List.mem_append,List.mem_singleton];constructor
      ·rintro((z|⟨q,z1,z2⟩)|z)
       ·exact .inl z
       ·exact .inr ⟨q,.inl z1,z2⟩
       ·exact .inr ⟨p,.inr rfl,z⟩
      ·rintro(z|⟨q,z1|z1,z2⟩)
       ·exact .inl (.inl z)
       ·exact .inl (.inr ⟨q,z1,z2⟩)
       ·subst z1;exact .inr z2
   ·obtain⟨e6,h6,t6,⟨K',s6,sf⟩,z4,rfl⟩:=q;rw[a9,ak,cN] at sf;refine⟨e6,⟨K',s6,λj=>(sf j).trans ?_⟩,⟨L++[t],t6,?_,λs=>?_,by simp;omega⟩,_,_,rfl⟩
    ·rw[hK j];constructor
     ·rintro((z|⟨s,p,h1,h2⟩)|⟨p,h1,h2⟩)
      ·exact .inl z
      ·exact .inr ⟨s,p,by omega,h2⟩
      ·exact .inr ⟨t,p,by omega,hR,h1,h2⟩
     ·rintro(z|⟨s,p,h1,h2,h3,h4⟩)
      ·exact .inl (.inl z)
      ·rcases fZ s t with y|y
       ·exact .inl (.inr ⟨s,p,y,h2,h3,h4⟩)
       ·have:s=t:=by omega
        subst this;exact .inr ⟨p,h3,h4⟩
    ·rw[aQ];exact⟨pw,by simp,λx hx y hy=>by cases aR.mp hy;exact((hL x).mp hx).1⟩
    ·rw[aO,aR,hL s];constructor
     ·rintro(z|z)
      ·exact⟨by omega,z.2⟩
      ·subst z;exact⟨by omega,hR⟩
     ·rintro⟨z1,z2⟩;rcases fZ s t with y|y
      ·exact .inl ⟨y,z2⟩
      ·exact .inr ()
 ·obtain⟨e3,⟨K,s3,hK⟩,⟨L,t3,pw,hL,Au⟩,z3,z4,rfl⟩:=q;rw[i6] at hL Au;left;exact h L tl g' e3 () t3 pw (λs=>(hL s).trans ⟨λz=>z.2,λz=>⟨z.lt fY,z⟩⟩) ()
theorem Jx(hT:TB0 T)(hF:TF T)(hW:TW T)(B:Bd g b cs v rs)(hz:cs.length<=9)(hr:rs.length<=900)(h:∀w g',Ex g g'->g.length<=w->Wy g' w cs v rs->Q (.ref w) g'):b8 T (k+7) 121 [.ref b] g Q E:=by
 refine call_of hW.AD rfl ?_;dsimp[BG,c8,List.replicate];have fY:=N6 cs v rs;generalize kX:p0 cs v rs=F at *;obtain⟨w0,l0,dd,nb,f1,f2,f3,f4,f5⟩:=B.ex;have p2:=wc hz;left;have e1:=Ex.snoc g (O.cY []);have w1:=b7 (g:=g) (o:=O.cY []);generalize g++[O.cY []]=g1 at *;refine w9 (a8 T _) (Mh ?_);left;refine YT (k:=k) hT hF hW.qD (B.at e1) hz hr λL l g2 e2 hl h2 pw hL Au=>?_;rw[kX] at hL;have lw:=j9 w1;have zp:L.reverse.Pairwise (· > ·):=ee.mpr pw;have zF:(a9 L).length=L.length:=by simp[a9]
 refine⟨l,_,rfl,a7 h2,(a9 L).reverse,λi U g'=>Ex g g'/\g'[l]?=some (.lst (a9 L))/\(∃kvs,g'[g.length]?=some (.cY kvs)/\kvs.length<=i/\∀s∈L.reverse.take i,p9 kvs (kN s)=some (.int ((j6 cs.length F s).length:Nat)))/\∃z2,U=[some (.ref b),some (.ref g.length),z2],λi U g' q=>Qb (a7 q.2.1),⟨e1.trans e2,h2,⟨[],e2.at w1,by simp,by simp⟩,none,rfl⟩,λi x U g' hx q=>?_,λU g' q=>?_⟩
 ·obtain⟨e3,h3,⟨kvs,w3,hk,mV⟩,z2,rfl⟩:=q;rw[a9,<- List.map_reverse,ae,aa] at hx;obtain⟨s,hs,rfl⟩:=hx;have Ad:i<L.length:=by have:=(av.mp hs).1;simpa using this
  have nE:gZ F s:=(hL s).mp (cO.mp (aC hs));have mR:=nE.lt fY;have tk:L.reverse.take (i+1)=L.reverse.take i++[s]:=by rw[bC,hs];rfl
  have fin:∀(N:Ends) g4 z2,Ex g' g4->(∀g5,(Ex g g5/\g5[l]?=some (.lst (a9 L))/\(∃kvs,g5[g.length]?=some (.cY kvs)/\kvs.length<=i+1/\∀s∈L.reverse.take (i+1),p9 kvs (kN s)=some (.int ((j6 cs.length F s).length:Nat)))/\∃z2,([some (.ref b),some (.ref g.length),z2]:S)=[some (.ref b),some (.ref g.length),z2])->N.nx [some (.ref b),some (.ref g.length),z2] g5)->V3 (.ref g.length) (.int (s:Nat)) (.int ((j6 cs.length F s).length:Nat)) g4 λg5=>N.nx [some (.ref b),some (.ref g.length),z2] g5:=λN g4 z2 e4 hN=>by
   refine vM (e4.at w3) rfl () ?_;refine hN _ ⟨⟨by simp;exact(e3.trans e4).len,λj hj=>by rw[ax ()];exact(e3.trans e4).old j hj⟩,c7 (e4.at h3) (),⟨_,get_set (e4.at w3),aD JN (),λs' iP=>?_⟩,z2,rfl⟩;rw[tk] at iP;by_cases qc:s'=s
   ·subst qc;exact yH
   ·refine(Cq (xO (cw qc))).trans (mV s' ?_);rcases aO.mp iP with z|z
    ·exact z
    ·exact absurd (aR.mp z) qc
  refine i0 ?_;left;refine W3 (e3.at f1) rfl ?_;left;have ed:decide (((s:Nat):Int)=((2 ^ cs.length-1:Nat):Int))=decide (s=2 ^ cs.length-1):=dH.mpr ();rw[ed];refine if2 (λc1=>?_) (λc1=>?_)
  ·left;have e1:(1:Int)=((j6 cs.length F s).length:Nat):=by rw[U3 c1];rfl
   rw[e1];exact fin _ _ _ (Ex.refl _) λg5 z=>⟨z.1,z.2.1,z.2.2.1,_,rfl⟩
  ·left;refine Xy (a8 T _) (kq (a8 T _) ?_);left;refine S7 (k:=k+1) hT hF (B.at e3) hz hr mR λg4 fl e4 Ai h4=>?_;rw[kX] at h4;refine⟨fl,_,rfl,a7 h4,a9 (F s),λU=>∃z2 z3,U=[some (.int (s:Nat)),some (.ref g.length),z2,z3],λi=>.int ((j6 cs.length F (s |||2 ^ ((F s).getD i 0))).length:Nat),λg' e=>n6 (a7 (e.at h4)),?_,⟨none,none,rfl⟩,λj d U g5 hx e5 sh=>?_,λg5 e5=>?_⟩
   ·have:(F s).length<=cs.length:=by rw[<- kX];exact B1
    simp[a9];omega
   ·obtain⟨z2,z3,rfl⟩:=sh;rw[a9,ae,aa] at hx;obtain⟨p,hp,rfl⟩:=hx;have lP:=aC hp;have mS:=fY _ _ lP;refine i0 ?_;left;refine A6 (k:=k+5) hT.og () ?_;have hv:p9 kvs (kN (s |||2 ^ p))=some (.int ((j6 cs.length F (s |||2 ^ p)).length:Nat)):=by
     refine mV _ (HJ zp hs (cO.mpr ((hL _).mpr (.step nE lP))) (tj mS.2))
    refine P2 ((e4.trans e5).at w3) rfl hv ?_;exact⟨by simp[List.getD,hp],e5,_,_,rfl⟩
   ·have el:(List.range (a9 (F s)).length).map (λi=>D.int ((j6 cs.length F (s |||2 ^ ((F s).getD i 0))).length:Nat))=(((F s).map λp=>(j6 cs.length F (s |||2 ^ p)).length).map λ(n:Nat)=>(n:Int)).map D.int:=by
     refine bS λi=>?_;rw[ae,ae,ae,ae];by_cases hi:i<(F s).length
     ·rw[cb (by simpa[a9] using hi),ag hi];simp[List.getD,hi]
     ·rw[aS (by simpa[a9] using hi),aS ()]
      rfl
    rw[el];refine CZ (a7 b7) ?_;have es:(((F s).map λp=>(j6 cs.length F (s |||2 ^ p)).length).map λ(n:Nat)=>(n:Int)).sum=((j6 cs.length F s).length:Nat):=by
     rw[Jw fY mR c1];generalize (F s).map (λp=>(j6 cs.length F (s |||2 ^ p)).length)=m
     induction m with
     |nil=>rfl
     |cons x r ih=>simp[ih]
    rw[es];left;exact fin _ _ _ (e4.trans (e5.trans (Ex.snoc _ _))) λg6 z=>⟨z.1,z.2.1,z.2.2.1,_,rfl⟩
 ·obtain⟨e3,h3,⟨kvs,w3,hk,mV⟩,z2,rfl⟩:=q;rw[Ef,zF,bI (by simp)] at mV;left;refine h _ _ e3 (ai _) ⟨⟨kvs,w3,λs hs=>?_⟩⟩;rw[kX] at hs ⊢;exact mV s (cO.mpr ((hL s).mpr hs))
end
structure TN(T:Nat->Option ba):Prop where
 qz:T 122=some yq
 AB:T 123=some N1
section
variable{T:Nat->Option ba}{d:Nat}
theorem Zq(hT:TB T)(hF:TF T)(hW:TW T)(qx:T 126=some yC)(ha:g[a]?=some (.lst (cs.map b0.d)))(hz:cs.length<=9)(hg:cs.all u6=true)(hB:∀c∈cs,CB c)(hv:1<=v/\v<=9)(hc:g[c]?=some (.lst (o8 rs)))(hr:rs.length<=900)(hR:rs.all (n5 cs)=true)(h:∀g',Ex g g'->Q (.int ((j6 cs.length (p0 cs v rs) 0).length:Nat)) g'):b8 T (k+11) 126 [.ref a,.int v,.ref c] g Q E:=by
 refine call_of qx rfl ?_;dsimp[yC,c8,List.replicate];left;refine HV (k:=k) hT ha hz hg hB hv hc hr hR λg1 b e1 _ B=>?_;left;refine Jx (k:=k+3) hT hF hW B hz hr λw g2 e2 _ W=>?_;left;obtain⟨kvs,w1,w2⟩:=W.ex;exact P2 w1 rfl (w2 0 .zero) (h _ (e1.trans e2))
theorem Zb(hT:TB0 T)(hF:TF T)(qz:T 122=some yq)(B:Bd g b cs v rs)(W:Wy g w cs v rs)(hz:cs.length<=9)(hr:rs.length<=900){s:Nat}(hs:gZ (p0 cs v rs) s)(eZ:s≠2 ^ cs.length-1)(hm:m<(j6 cs.length (p0 cs v rs) s).length)(h:∀(p l:Nat) g',Ex g g'->p∈p0 cs v rs s->l<(j6 cs.length (p0 cs v rs) (s |||2 ^ p)).length->(j6 cs.length (p0 cs v rs) s)[m]?=((j6 cs.length (p0 cs v rs) (s |||2 ^ p))[l]?).map (p::·)->Q (.tup [.int (p:Nat),.int (l:Nat)]) g'):b8 T (k+6) 122 [.ref b,.ref w,.int (s:Nat),.int (m:Nat)] g Q E:=by
 refine call_of qz rfl ?_;dsimp[yq,c8,List.replicate];have fY:=N6 cs v rs;have mR:=hs.lt fY;have eo:=BI fY mR eZ;left;refine S7 (k:=k) hT hF B hz hr mR λg1 ch e1 _ ly=>?_;generalize kX:p0 cs v rs=F at *;obtain⟨kvs,w1,w2⟩:=W.ex;rw[kX] at w2;left;generalize FC:(λp=>(j6 cs.length F (s |||2 ^ p)).map (p::·))=f at *;have vk:∀p,(f p).length=(j6 cs.length F (s |||2 ^ p)).length:=λp=>by rw[<- FC];simp
 rw[eo] at hm;have LC:0<(F s).length:=by
  cases hl:F s with
  |nil=>rw[hl] at hm;simp at hm
  |cons _ _=>simp
 refine Jv (λmm U g'=>Ex g1 g'/\∃j lf:Nat,U=[some (.ref b),some (.ref w),some (.int (s:Nat)),some (.int (m:Nat)),some (.ref ch),some (.int (lf:Nat)),some (.int (j:Nat))]/\j<(F s).length/\mm=(F s).length-j/\m=(((F s).take j).flatMap f).length+lf/\lf<(((F s).drop j).flatMap f).length) _ ⟨Ex.refl _,0,m,rfl,LC,rfl,by simp,by simpa using hm⟩ (λmm U g' q=>?_) (a8 T _);obtain⟨e2,j,lf,rfl,hj,rfl,mT,qg⟩:=q;have hx:=ag hj;generalize (F s)[j]=p at hx;have lP:=aC hx;have mS:=fY _ _ lP;have hv:p9 kvs (kN (s |||2 ^ p))=some (.int ((f p).length:Nat)):=by rw[vk];exact w2 _ (.step hs lP)
 have Bt:gk (a9 (F s)) (j:Int)=some (.int (p:Nat)):=v9 (by rw[a9,ae,hx];rfl);have sp:=YA (f:=f) hx lf;have qO:=e1.trans e2;left;refine m8 (a7 (e2.at ly)) Bt ?_;left;refine A6 (k:=k+4) hT.og () ?_;refine P2 (qO.at w1) rfl hv ?_;left;by_cases hc:(f p).length<=lf
 ·refine gR (aw ()) ?_;refine IS rfl ?_;left;refine m8 (a7 (e2.at ly)) Bt ?_;left;refine A6 (k:=k+4) hT.og () ?_;refine P2 (qO.at w1) rfl hv ?_;refine Qa ?_;left;refine IS rfl ?_;left;refine PV ?_;have tk:(F s).take (j+1)=(F s).take j++[p]:=by rw[bC,hx];rfl
  rw[sp.2,bE] at qg;have qi:j+1<(F s).length:=by
   rcases fZ (j+1) (F s).length with z|z
   ·exact z
   ·rw[iu z] at qg;simp at qg;omega
  refine⟨_,?_,e2,j+1,lf-(f p).length,?_,qi,rfl,?_,by omega⟩
  ·omega
  ·have e1:((lf:Nat):Int)-((f p).length:Nat)=((lf-(f p).length:Nat):Int):=by omega
   have e2:((j:Nat):Int)+1=((j+1:Nat):Int):=by omega
   rw[e1,e2]
   rfl
  ·rw[tk,Eh,bE,fm,List.flatMap_nil,cU];omega
 ·refine fB (aH ()) ?_;left;refine m8 (a7 (e2.at ly)) Bt ?_;left;refine h p lf g' qO lP (by rw[vk] at hc;omega) ?_;rw[eo,mT,sp.1,sp.2,aK (),<- FC];simp
theorem Zu(hT:TB0 T)(hF:TF T)(hN:TN T)(B:Bd g b cs v rs)(W:Wy g w cs v rs)(hz:cs.length<=9)(hr:rs.length<=900){o:List Nat}(hm:(j6 cs.length (p0 cs v rs) 0)[m]?=some o)(h:∀l g',Ex g g'->g.length<=l->g'[l]?=some (.lst (a9 o))->Q (.ref l) g'):b8 T (k+7) 123 [.ref b,.ref w,.int (m:Nat)] g Q E:=by
 refine call_of hN.AB rfl ?_;dsimp[N1,c8,List.replicate];have fY:=N6 cs v rs;obtain⟨w0,l0,dd,nb,f1,f2,f3,f4,f5⟩:=B.ex;have p2:=wc hz;left;have e1:=Ex.snoc g (O.lst []);have h1:=b7 (g:=g) (o:=O.lst []);refine Jv (λmm U g'=>Ex g g'/\∃(s lf:Nat) (p:List Nat) (z6:Option D),U=[some (.ref b),some (.ref w),some (.int (m:Nat)),some (.ref g.length),some (.int (s:Nat)),some (.int (lf:Nat)),z6]/\mm=2 ^ cs.length-s/\gZ (p0 cs v rs) s/\lf<(j6 cs.length (p0 cs v rs) s).length/\some o=((j6 cs.length (p0 cs v rs) s)[lf]?).map (p++·)/\g'[g.length]?=some (.lst (a9 p))/\p.length<=s) _ ⟨e1,0,m,[],none,rfl,rfl,.zero,(av.mp hm).1,by rw[hm];rfl,h1,by simp⟩ (λmm U g' q=>?_) (a8 T _);obtain⟨e2,s,lf,p,z6,rfl,rfl,hs,qg,ho,hp,hU⟩:=q;have mR:=hs.lt fY;left;refine W3 (e2.at f1) rfl ?_;left;have ed:decide (((s:Nat):Int)=((2 ^ cs.length-1:Nat):Int))=decide (s=2 ^ cs.length-1):=dH.mpr ();rw[ed];by_cases eZ:s=2 ^ cs.length-1
 ·refine fB (by rw[aw eZ];rfl) ?_;left;rw[U3 eZ] at qg ho;have:lf=0:=by simp at qg;omega
  subst this;have:o=p:=by simpa using ho
  subst this;exact h _ _ e2 (ai _) hp
 ·refine gR (by rw[aH eZ];rfl) ?_;left;refine Zb (k:=k) hT hF hN.qz (B.at e2) (W.at e2) hz hr hs eZ qg λq l g3 e3 hq hl Mz=>?_;refine B6 rfl ?_;have Fl:=fY _ _ hq;have Fp:=e3.at hp;left;refine K2 Fp (by simp[a9];omega) ?_;left;refine A6 (k:=k+5) hT.og () ?_;have hgt:=tj Fl.2;have sC:=e2.trans e3;refine⟨_,?_,⟨by simp;exact sC.len,λi hi=>by rw[ax ()];exact sC.old i hi⟩,s |||2 ^ q,l,p++[q],_,rfl,rfl,.step hs hq,hl,?_,?_,by simp;omega⟩
  ·omega
  ·rw[ho,Mz];simp[Option.map_map,Function.comp_def]
  ·rw[get_set Fp];simp[a9]
theorem WW(hT:TB0 T)(hF:TF T)(hW:TW T)(hN:TN T)(ng:T 124=some J9)(B:Bd g b cs v rs)(hz:cs.length<=9)(hr:rs.length<=900)(h1:j6 cs.length (p0 cs v rs) 0=[]->∀g',Ex g g'->Q .bO g')(h2:∀o l g',(j6 cs.length (p0 cs v rs) 0)[0]?=some o->Ex g g'->g.length<=l->g'[l]?=some (.lst (a9 o))->Q (.ref l) g'):b8 T (k+8) 124 [.ref b] g Q E:=by
 refine call_of ng rfl ?_;dsimp[J9,c8,List.replicate];left;refine Jx (k:=k) hT hF hW B hz hr λw g1 e1 hw W=>?_;left;obtain⟨kvs,w1,w2⟩:=W.ex;refine P2 w1 rfl (w2 0 .zero) ?_;left;cases ho:j6 cs.length (p0 cs v rs) 0 with
 |nil =>
  refine gR (by simp) ?_;exact h1 ho _ e1
 |cons o r =>
  refine fB (by simp;omega) ?_;left;exact Zu (k:=k) hT hF hN (m:=0) (B.at e1) W hz hr (by rw[ho];rfl) λl g2 e2 hl h=>h2 o l g2 (by rw[ho];rfl) (e1.trans e2) (aD e1.len hl) h
theorem WX(hT:TB T)(hF:TF T)(hW:TW T)(hN:TN T)(ng:T 124=some J9)(qy:T 125=some O1)(ha:g[a]?=some (.lst (cs.map b0.d)))(hz:cs.length<=9)(hg:cs.all u6=true)(hB:∀c∈cs,CB c)(hv:1<=v/\v<=9)(hc:g[c]?=some (.lst (o8 rs)))(hr:rs.length<=900)(hR:rs.all (n5 cs)=true)(h1:j6 cs.length (p0 cs v rs) 0=[]->∀g',Ex g g'->Q .bO g')(h2:∀o l g',(j6 cs.length (p0 cs v rs) 0)[0]?=some o->Ex g g'->g.length<=l->g'[l]?=some (.lst (a9 o))->Q (.ref l) g'):b8 T (k+11) 125 [.ref a,.int v,.ref c] g Q E:=by
 refine call_of qy rfl ?_;dsimp[O1,c8,List.replicate];left;refine HV (k:=k) hT ha hz hg hB hv hc hr hR λg1 b e1 _ B=>?_;exact WW (k:=k+2) hT hF hW hN ng B hz hr (λho g2 e2=>h1 ho g2 (e1.trans e2)) λo l g2 ho e2 hl h=>h2 o l g2 ho (e1.trans e2) (aD e1.len hl) h
end
def yd:ba:=⟨3,9,(.seq (.set 3 (.prim .P5 .nil)) (.seq (.set 4 (dB .lst (aY 0))) (.seq (.dC (.one 5) (.dW (bQ (.bin .Add) (dB .len aI) (aY 1))) (.seq (.set 6 (.prim .P5 .nil)) (.seq (.dC (.one 7) (.fc cF) (.seq (.dS bH fM (.call 148 (oN aI bh br fM))) (.seq (.dC (.one 8) (.fc (cK bH fM)) (.seq (.dS eG (bQ (.bin .Add) fM (.call 147 (fg km))) (.lit (.bl true))) .pass)) .pass))) (.seq (.set 4 (dB .jC (dB .list eG))) .pass)))) (.seq (.ret bH) .pass))))⟩
theorem yg{s:Nat}(h:s.testBit p=false):s |||2 ^ p=s+2 ^ p:=by
 induction p generalizing s with
 |zero =>
  rw[Nat.testBit_zero,cA] at h;have h1:=Nat.or_div_two (a:=s) (b:=1);have h2:(s |||1) % 2=1:=wA.mpr (.inr rfl);rw[show(1:Nat) / 2=0 from rfl,Nat.or_zero] at h1;show s |||1=s+1
  omega
 |succ p ih =>
  have h0:(s / 2).testBit p=false:=by rw[Nat.testBit_succ] at h;exact h
  have h1:=Nat.or_div_two (a:=s) (b:=2 ^ (p+1));have h2:=wA (a:=s) (b:=2 ^ (p+1));have e:2 ^ (p+1)=2*2 ^ p:=by rw[Nat.pow_succ,Nat.mul_comm]
  rw[e,Nat.mul_div_cancel_left _ ∅,ih h0] at h1;rw[e] at h2 ⊢;omega
def Lay(F:Nat->List Nat):Nat->Nat->Prop
 |0,s=>s=0
 |i+1,s=>∃r p,Lay F i r/\p∈F r/\s=r |||2 ^ p
theorem Lay.nR{F:Nat->List Nat}:∀{i s:Nat},Lay F i s->gZ F s
 |0,_,h=>by cases h;exact .zero
 |i+1,_,⟨r,p,h1,h2,h3⟩=>by rw[h3];exact .step h1.nR h2
theorem Tv{F:Nat->List Nat}{s:Nat}(h:gZ F s):∃i,Lay F i s:=by
 induction h with
 |zero=>exact⟨0,rfl⟩
 |step _ hp ih=>obtain⟨i,hi⟩:=ih;exact⟨i+1,_,_,hi,hp,rfl⟩
theorem Lay.bits{n:Nat}{F:Nat->List Nat}(hF:FG n F):∀{i s:Nat},Lay F i s->∃l:List Nat,l.Nodup/\l.length=i/\∀q∈l,s.testBit q=true/\q<n
 |0,s,_=>⟨[],nN,rfl,λq hq=>absurd hq ic⟩
 |i+1,s,⟨r,p,h1,h2,h3⟩=>by
  obtain⟨l,n1,n2,n3⟩:=h1.bits hF;obtain⟨p1,p2⟩:=hF r p h2;refine⟨p::l,dj.mpr ⟨λz=>?_,n1⟩,by simp[n2],λq hq=>?_⟩
  ·rw[(n3 p z).1] at p2;cases p2
  ·rw[h3,M6];rcases aG.mp hq with rfl|hq
   ·exact⟨by simp,p1⟩
   ·exact⟨by rw[(n3 q hq).1];rfl,(n3 q hq).2⟩
theorem Lay.le{F:Nat->List Nat}(hF:FG n F){s:Nat}(h:Lay F i s):i<=n:=by
 obtain⟨l,n1,n2,n3⟩:=h.bits hF;have:=Y3 (m:=List.range n) n1 λq hq=>aT.mpr (n3 q hq).2;rw[fk] at this;omega
def Ky(kvs:List (Key×D))(L:List Nat):Prop:=kvs.map (·.1)=L.map kN/\L.Nodup
theorem Ky.put(h:Ky kvs L)(j:Nat)(x:D):∃L',Ky (putD kvs (kN j) x) L'/\∀s,s∈L'↔s∈L\/s=j:=by
 obtain⟨h1,h2⟩:=h;have lS:(kvs.any λkv=>decide (kv.1=kN j))=true↔j∈L:=by
  rw[aV];constructor
  ·rintro⟨kv,m,e⟩;have e:=bj e;have:kv.1∈L.map kN:=by rw[<- h1];exact Ed m
   obtain⟨i,hi,e2⟩:=aU.mp this;have:i=j:=oJ λz=>xO z (e2.trans e);rw[<- this];exact hi
  ·intro hj;have:kN j∈kvs.map (·.1):=by rw[h1];exact Ed hj
   obtain⟨kv,m,e⟩:=aU.mp this;exact⟨kv,m,aw e⟩
 unfold putD;by_cases hj:j∈L
 ·rw[aJ (lS.mpr hj)];refine⟨L,⟨?_,h2⟩,λs=>⟨.inl,λz=>z.elim id λe=>e▸hj⟩⟩;rw[bD,<- h1];refine Ee λkv _=>?_;show(if kv.1=kN j then(kv.1,x) else kv).1=kv.1;split<;>rfl
 ·rw[aF λz=>hj (lS.mp z)];refine⟨L++[j],⟨by rw[cT,cT,h1];rfl,cS.mpr ⟨h2,by simp,λa ha b hb=>by simp at hb;subst hb;exact λe=>hj (e▸ha)⟩⟩,λs=>by simp⟩
theorem Ky.len(h:Ky kvs L):kvs.length=L.length:=by simpa using gp List.length h.1
theorem Ky.small(h:Ky kvs L)(hn:n<=9)(hL:∀s∈L,s<2 ^ n):kvs.length<=512:=by
 have h1:=Y3 (m:=List.range (2 ^ n)) h.2 λq hq=>aT.mpr (hL q hq);have:=wc hn;rw[h.len];simp at h1;omega
theorem Ky.keys(h:Ky kvs L):(kvs.map (·.1)).map kD=(L.map λj:Nat=>(j:Int)).map .int:=by
 rw[h.1,bD,bD];rfl
theorem Kt(hn:L.Nodup):∃S:List Nat,(K1 (L.map λj:Nat=>(j:Int))).map D.int=a9 S/\S.Pairwise (· < ·)/\(∀s,s∈S↔s∈L)/\S.length=L.length:=by
 have hp:=Z8 (L.map λj:Nat=>(j:Int));have hr:=HQ (L.map λj:Nat=>(j:Int));generalize K1 (L.map λj:Nat=>(j:Int))=Z at *;have hZ:(Z.map Int.toNat).Perm L:=by
  have:=hp.map Int.toNat;rw[bD] at this;have e:(Int.toNat ∘ λj:Nat=>(j:Int))=id:=by funext j;simp
  rw[e,List.map_id] at this;exact this
 have hE:(Z.map Int.toNat).map (λj:Nat=>(j:Int))=Z:=by
  rw[bD];have:∀x∈Z,((λj:Nat=>(j:Int)) ∘ Int.toNat) x=x:=λx hx=>by
   obtain⟨j,_,rfl⟩:=aU.mp (hp.mem_iff.mp hx);simp
  rw[Ee this,List.map_id']
 refine⟨Z.map Int.toNat,?_,?_,λs=>hZ.mem_iff,hZ.length_eq⟩
 ·rw[a9,<- hE,bD,bD,bD,hE]
  rfl
 ·have nd:(Z.map Int.toNat).Nodup:=hZ.nodup_iff.mpr hn;have h2:(Z.map Int.toNat).Pairwise (·<=·):=by
   rw[List.pairwise_map];exact hr.imp λh=>Int.toNat_le_toNat h
  exact(h2.and nd).imp λh=>Nat.lt_of_le_of_ne h.1 h.2
def jx(g:G)(t:Nat)(F:Nat->List Nat)(P:Nat->Prop):Prop:=∃kvs L,g[t]?=some (.cY kvs)/\Ky kvs L/\(∀s,s∈L↔P s)/\∀s,P s->∃l,p9 kvs (kN s)=some (.ref l)/\g[l]?=some (.lst (a9 (F s)))
theorem jx.at{g g':G}{t:Nat}{F:Nat->List Nat}{P:Nat->Prop}(h:jx g t F P)(e:Ex g g'):jx g' t F P:=by
 obtain⟨kvs,L,h1,h2,h3,h4⟩:=h;exact⟨kvs,L,e.at h1,h2,h3,λs hs=>by obtain⟨l,q1,q4⟩:=h4 s hs;exact⟨l,q1,e.at q4⟩⟩
theorem jx.cg{F:Nat->List Nat}{P P':Nat->Prop}(h:jx g t F P)(e:∀s,P' s↔P s):jx g t F P':=by
 obtain⟨kvs,L,h1,h2,h3,h4⟩:=h;exact⟨kvs,L,h1,h2,λs=>(h3 s).trans (e s).symm,λs hs=>h4 s ((e s).mp hs)⟩
theorem U4(h1:g[i]?=some (.lst l))(h2:g[j]?=some (.cY kvs)):j≠i:=λe=>by rw[e,h1] at h2;cases h2
theorem jx.uc{F:Nat->List Nat}{P:Nat->Prop}{kw:List (Key×D)}(h:jx g t F P)(hw:g[w]?=some (.cY kw))(ne:w≠t):jx (g.set w o) t F P:=by
 obtain⟨kvs,L,h1,h2,h3,h4⟩:=h;exact⟨kvs,L,c7 h1 ne,h2,h3,λs hs=>by obtain⟨l,q1,q4⟩:=h4 s hs;exact⟨l,q1,c7 q4 (U4 q4 hw)⟩⟩
theorem jx.put{g:G}{t l r:Nat}{F:Nat->List Nat}{P:Nat->Prop}{kvs:List (Key×D)}(h:jx g t F P)(hk:g[t]?=some (.cY kvs))(hl:g[l]?=some (.lst (a9 (F r)))):jx (g.set t (.cY (putD kvs (kN r) (.ref l)))) t F (λs=>P s\/s=r):=by
 obtain⟨jv,L,h1,h2,h3,h4⟩:=h;rw[hk] at h1;cases h1;obtain⟨L',k1,k2⟩:=h2.put r (.ref l);refine⟨_,L',get_set hk,k1,λs=>by rw[k2,h3],λs hs=>?_⟩;by_cases e:s=r
 ·subst e;exact⟨l,yH,c7 hl (U4 hl hk)⟩
 ·obtain⟨l',q1,q2⟩:=h4 s (hs.resolve_right e);exact⟨l',by rw[Cq (xO λz=>e z.symm)];exact q1,c7 q2 (U4 q2 hk)⟩
theorem take1{l:List α}{x:α}(h:l[i]?=some x)(y:α):y∈l.take (i+1)↔y∈l.take i\/y=x:=by
 rw[bC,h];simp
theorem xK{x:Nat}(h:Ex g g')(hx:g.length<=x):Ex g (g'.set x o):=⟨by simp[h.len],λi hi=>by rw[ax ()];exact h.old i hi⟩
theorem yy(h:(a9 L)[i]?=some x):∃j,L[i]?=some j/\x=.int (j:Nat):=by
 rw[a9,ae,aa] at h;obtain⟨j,h1,h2⟩:=h;exact⟨j,h1,h2.symm⟩
section
variable{T:Nat->Option ba}{d:Nat}
theorem Xg(hT:oE T)(va:DP T)(qv:T 149=some yd)(hB:∀c∈cs,CB c)(ha:g[a]?=some (.lst (cs.map b0.d)))(hz:cs.length<=9)(hc:g[c]?=some (.lst (o8 rs)))(hr:rs.length<=900)(h:∀g' t,Ex g g'->g.length<=t->jx g' t (p0 cs v rs) (gZ (p0 cs v rs))->Q (.ref t) g'):b8 T (k+4) 149 [.ref a,.int v,.ref c] g Q E:=by
 refine call_of qv rfl ?_;dsimp[yd,c8,List.replicate];have fY:=N6 cs v rs;left;have e1:=Ex.snoc g (O.cY []);have t1:=b7 (g:=g) (o:=O.cY []);generalize g++[O.cY []]=g1 at *;have l1:=j9 t1;have e2:=e1.trans (Ex.snoc g1 (O.lst [.int 0]));have t2:=(Ex.snoc g1 (O.lst [.int 0])).at t1;have f2:=b7 (g:=g1) (o:=O.lst [.int 0]);generalize g1.length=f at *;refine w9 (a8 T _) (N4 (a8 T _) ?_);left;refine E2 (a7 (e2.at ha)) ?_;left;rw[ak];generalize kX:p0 cs v rs=F at *;refine⟨by omega,by omega,i8 0 (cs.length+1),λi U g'=>Ex g g'/\jx g' g.length F (λs=>∃j,j<i/\Lay F j s)/\∃fr Fr z5 z6 z7 z8,g'[fr]?=some (.lst (a9 Fr))/\g.length<=fr/\(∀s,s∈Fr↔Lay F i s)/\U=[some (.ref a),some (.int v),some (.ref c),some (.ref g.length),some (.ref fr),z5,z6,z7,z8],λ_ _ _ _=>n8,⟨e2,⟨[],[],t2,⟨rfl,nN⟩,λs=>by simp,λs hs=>by omega⟩,f,[0],none,none,none,none,f2,by omega,λs=>by simp[Lay],rfl⟩,λi x U g' hx q=>?_,λU g' q=>?_⟩
 ·obtain⟨e3,T3,fr,Fr,z5,z6,z7,z8,F3,lf,oW,rfl⟩:=q;obtain⟨hi,rfl⟩:=s9 hx;refine i0 ?_;left;have e4:=e3.trans (Ex.snoc g' (O.cY []));have T4:=T3.at (Ex.snoc g' (O.cY []));have F4:=(Ex.snoc g' (O.cY [])).at F3;have w4:=b7 (g:=g') (o:=O.cY []);have lw:=e3.len;have nt:g'.length≠g.length:=λe=>by obtain⟨_,_,q,_⟩:=T3;have:=j9 q;omega
  generalize g'.length=wd at *;refine w9 (a8 T _) (kq (a8 T _) ?_);left;refine⟨_,_,rfl,a7 F4,a9 Fr,λm U g'=>Ex g g'/\g'[fr]?=some (.lst (a9 Fr))/\jx g' g.length F (λs=>(∃j,j<i/\Lay F j s)\/s∈Fr.take m)/\(∃kvs W,g'[wd]?=some (.cY kvs)/\Ky kvs W/\∀s,s∈W↔∃r∈Fr.take m,∃p∈F r,s=r |||2 ^ p)/\∃z7 z8,U=[some (.ref a),some (.int v),some (.ref c),some (.ref g.length),some (.ref fr),some (.int ((0:Int)+(i:Nat))),some (.ref wd),z7,z8],λ_ _ _ q=>n6 (a7 q.2.1),⟨e4,F4,T4.cg λs=>by simp,⟨[],[],w4,⟨rfl,nN⟩,λs=>by simp⟩,z7,z8,rfl⟩,λm x U g' hx q=>?_,λU g' q=>?_⟩
  ·obtain⟨e5,F5,T5,⟨kvs,W,w5,k5,hW⟩,z7,z8,rfl⟩:=q;obtain⟨r,uN,rfl⟩:=yy hx;refine i0 ?_;left;refine WH (k:=k) hT va hB (e5.at ha) hz (e5.at hc) hr λg6 l e6 ll h6=>?_;rw[kX] at h6;have T6:=T5.at e6;obtain⟨kt,L6,uL,k6,Nl,_⟩:=id T6;have dZ:∀s,((∃j,j<i/\Lay F j s)\/s∈Fr.take m)->s<2 ^ cs.length:=λs hs=>by
    rcases hs with⟨j,_,hj⟩|hs
    ·exact hj.nR.lt fY
    ·exact((oW s).mp (dy hs)).nR.lt fY
   have hk6:=k6.small hz λs hs=>dZ s ((Nl s).mp hs);have Mu:gZ F r:=((oW r).mp (aC uN)).nR;left;refine vM uL rfl () ?_;left;have T7:=T6.put uL h6;have h7:(g6.set g.length (.cY (putD kt (kN r) (.ref l))))[l]?=some (.lst (a9 (F r))):=c7 h6 (U4 h6 uL);have v7:(g6.set g.length (.cY (putD kt (kN r) (.ref l))))[g.length]?=some (.cY (putD kt (kN r) (.ref l))):=get_set uL;have e7:Ex g (g6.set g.length (.cY (putD kt (kN r) (.ref l)))):=xK (e5.trans e6) (ai _);have F7:(g6.set g.length (.cY (putD kt (kN r) (.ref l))))[fr]?=some (.lst (a9 Fr)):=c7 (e6.at F5) (U4 (e6.at F5) uL);have w7:(g6.set g.length (.cY (putD kt (kN r) (.ref l))))[wd]?=some (.cY kvs):=c7 (e6.at w5) (cw nt);generalize g6.set g.length (.cY (putD kt (kN r) (.ref l)))=g7 at *;refine w9 (a8 T _) (kq (a8 T _) ?_);left;refine P2 v7 rfl yH ?_;refine⟨_,_,rfl,a7 h7,a9 (F r),λq U g'=>Ex g g'/\g'[fr]?=some (.lst (a9 Fr))/\g'[l]?=some (.lst (a9 (F r)))/\jx g' g.length F (λs=>((∃j,j<i/\Lay F j s)\/s∈Fr.take m)\/s=r)/\(∃kvs W,g'[wd]?=some (.cY kvs)/\Ky kvs W/\∀s,s∈W↔(∃r∈Fr.take m,∃p∈F r,s=r |||2 ^ p)\/∃p∈(F r).take q,s=r |||2 ^ p)/\∃z8,U=[some (.ref a),some (.int v),some (.ref c),some (.ref g.length),some (.ref fr),some (.int ((0:Int)+(i:Nat))),some (.ref wd),some (.int (r:Nat)),z8],λ_ _ _ q=>n6 (a7 q.2.2.1),⟨e7,F7,h7,T7,⟨kvs,W,w7,k5,λs=>by simp[hW]⟩,z8,rfl⟩,λq x U g' hx q=>?_,λU g' q=>?_⟩
   ·obtain⟨e8,F8,h8,T8,⟨EZ,W8,w8,k8,xq⟩,z8,rfl⟩:=q;obtain⟨p,hp,rfl⟩:=yy hx;have lP:=fY r p (aC hp);refine i0 ?_;left;refine S1 (k:=k+2) va.iF () λg9 e9=>?_;left;have rR:=k8.small hz λs hs=>by
     rcases(xq s).mp hs with⟨r',fe,p',gB,e⟩|⟨p',gB,e⟩
     ·rw[e];exact(gZ.step ((oW r').mp (dy fe)).nR gB).lt fY
     ·rw[e];exact(gZ.step Mu (dy gB)).lt fY
    have es:((r:Nat):Int)+((2 ^ p:Nat):Int)=((r |||2 ^ p:Nat):Int):=by rw[yg lP.2];omega
    rw[es];refine vM (e9.at w8) rfl () ?_;obtain⟨W9,k9,Nc⟩:=k8.put (r |||2 ^ p) (.bl true);refine⟨xK (e8.trans e9) lw,c7 (e9.at F8) (U4 (e9.at F8) (e9.at w8)),c7 (e9.at h8) (U4 (e9.at h8) (e9.at w8)),(T8.at e9).uc (e9.at w8) nt,⟨_,W9,get_set (e9.at w8),k9,λs=>?_⟩,_,rfl⟩;rw[Nc,xq];constructor
    ·rintro((z|⟨p',gB,e⟩)|e)
     ·exact .inl z
     ·exact .inr ⟨p',(take1 hp p').mpr (.inl gB),e⟩
     ·exact .inr ⟨p,(take1 hp p).mpr (.inr rfl),e⟩
    ·rintro(z|⟨p',gB,e⟩)
     ·exact .inl (.inl z)
     ·rcases(take1 hp p').mp gB with z|rfl
      ·exact .inl (.inr ⟨p',z,e⟩)
      ·exact .inr e
   ·obtain⟨e8,F8,h8,T8,⟨EZ,W8,w8,k8,xq⟩,z8,rfl⟩:=q;refine⟨e8,F8,T8.cg λs=>?_,⟨EZ,W8,w8,k8,λs=>?_⟩,_,_,rfl⟩
    ·rw[take1 uN];exact or_assoc.symm
    ·rw[xq,show(F r).take (a9 (F r)).length=F r from bI (by simp[a9])];constructor
     ·rintro(⟨r',fe,z⟩|z)
      ·exact⟨r',(take1 uN r').mpr (.inl fe),z⟩
      ·exact⟨r,(take1 uN r).mpr (.inr rfl),z⟩
     ·rintro⟨r',fe,z⟩;rcases(take1 uN r').mp fe with y|rfl
      ·exact .inl ⟨r',y,z⟩
      ·exact .inr z
  ·obtain⟨e5,F5,T5,⟨kvs,W,w5,k5,hW⟩,z7,z8,rfl⟩:=q;rw[show Fr.take (a9 Fr).length=Fr from bI (by simp[a9])] at T5 hW;have rR:=k5.small hz λs hs=>by
    obtain⟨r',fe,p',gB,e⟩:=(hW s).mp hs;rw[e];exact(gZ.step ((oW r').mp fe).nR gB).lt fY
   left;refine Kl w5 () ?_;rw[k5.keys];have e6:=Ex.snoc g' (O.lst ((W.map λj:Nat=>(j:Int)).map .int));have h6:=b7 (g:=g') (o:=O.lst ((W.map λj:Nat=>(j:Int)).map .int));refine Ji (a7 h6) (by rw[ak,<- k5.len];omega) ?_;obtain⟨S,s1,s2,s3,s4⟩:=Kt k5.2;rw[s1];refine⟨(e5.trans e6).trans (Ex.snoc _ _),((T5.at e6).at (Ex.snoc _ _)).cg λs=>?_,_,S,_,_,_,_,b7,(e5.trans e6).len,λs=>?_,rfl⟩
   ·rw[oW];constructor
    ·rintro⟨j,hj,z⟩;by_cases e:j=i
     ·subst e;exact .inr z
     ·exact .inl ⟨j,by omega,z⟩
    ·rintro(⟨j,hj,z⟩|z)
     ·exact⟨j,by omega,z⟩
     ·exact⟨i,by omega,z⟩
   ·rw[s3,hW];constructor
    ·rintro⟨r',fe,p',gB,e⟩;exact⟨r',p',(oW r').mp fe,gB,e⟩
    ·rintro⟨r',p',fe,gB,e⟩;exact⟨r',(oW r').mpr fe,p',gB,e⟩
 ·obtain⟨e3,T3,fr,Fr,z5,z6,z7,z8,F3,lf,oW,rfl⟩:=q;left;refine h _ _ e3 (ai _) (T3.cg λs=>⟨λz=>?_,λz=>?_⟩)
  ·obtain⟨i,hi⟩:=Tv z;exact⟨i,by rw[i6];have:=hi.le fY;omega,hi⟩
  ·obtain⟨j,_,hj⟩:=z;exact hj.nR
end
def yo:ba:=⟨2,5,(.seq (.set 2 (bQ (.bin .Sub) (.call 147 (fg (dB .len aI))) (aY 1))) (.seq (.set 3 (.prim .P5 .nil)) (.seq (.dC (.one 4) (.fc (dB .rev (dB .jC (dB .list bh)))) (.seq (.dS bH cF (bQ (.bin .Add) (dB .int (bQ (.cmp .Eq) cF br)) (dB .sum (.comp [3,4] 4 (.one 3) (.fc (cK bh cF)) .no (cK aI (bQ (.bin .Add) bh (.call 147 (fg bH)))))))) .pass)) (.seq (.ret bH) .pass))))⟩
def Q6:ba:=⟨2,6,(.seq (.set 2 (.prim .lst .nil)) (.seq (.dC (.one 3) (.dW (bQ (.bin .Add) (aY 20) (.call 4 (du aI (aY 16))))) (.seq (.set 4 (.call 4 (du aI (bQ (.bin .Sub) (dB .len bh) (aY 1))))) (.seq (.set 5 (bQ (.bin .Add) (bQ (.bin .Add) cF (aY 1)) (.call 4 (du aI (bQ .min (aY 3) (bQ (.bin .Sub) (bQ (.bin .Sub) (dB .len bh) (aY 1)) cF)))))) (.seq (.expr (.eE .append br (fg (.prim .tup (gH (iO "coin") (cK bh cF) (cK bh dU)))))) .pass)))) (.seq (.ifs (dY .Eq (.call 4 (du aI (aY 3))) (aY 0)) (.seq (.dS br (dB (.un .USub) (aY 1)) (.prim .tup (gH (iO "coin") (cK (cK br (aY 0)) (aY 2)) (cK (cK br (aY 0)) (aY 1))))) .pass) .pass) (.seq (.ret br) .pass))))⟩
def yb:ba:=⟨3,7,(.seq (.ifs (dY .Eq (cK br (aY 0)) (aY 0)) (.seq (.ret (.lit .bO)) .pass) .pass) (.seq (.set 3 (.prim .lst .nil)) (.seq (.set 4 (aY 0)) (.seq (.dC (.one 5) (.dW (dB .len aI)) (.seq (.set 6 (cK (.comp [2,4] 4 (.one 3) (.fc (cK bh cF)) (dY .Gt (cK aI (bQ (.bin .Add) bh (.call 147 (fg bH)))) (aY 0)) bH) (aY 0))) (.seq (.expr (.eE .append bH (fg eG))) (.seq (.set 4 (bQ (.bin .Add) cF (.call 147 (fg eG)))) .pass)))) (.seq (.ret bH) .pass)))))⟩
section
variable{U:S}{t:MT}{c:ME}
theorem He(hP:i9 P)(Sh:S->Prop)(p:Nat->Bool)(w:Nat->D){l:Nat}(hl:g[l]?=some (.lst (a9 L)))(hz:L.length<=1000)(h0:Sh (E3 U d4 n))(hs:∀x U g',x∈L->Ex g g'->Sh U->jq t (.int (x:Nat)) U λcC=>et P c cC g' (λb g3=>b=p x/\Ex g g3/\if b=true then bo P elt cC g3 (λy g4=>y=w x/\Ex g g4/\Sh cC) ik else Sh cC) ik)(hd:∀g',Ex g g'->Q (.ref g'.length) (g'++[.lst ((L.filter p).map w)]))(hi:∀R:IK->G->Prop,R (.lst l) g->gI P it U g R E):bo P (.comp d4 n t it c elt) U g Q E:=by
 refine E6 hP (hi _ ?_);have il:(a9 L).length=L.length:=by simp[a9]
 refine⟨a9 L,λi ys U g'=>Ex g g'/\ys=((L.take i).filter p).map w/\Sh U,by omega,λi ys U g' q=>⟨n6 (a7 (q.1.at hl)),?_⟩,⟨Ex.refl _,by simp,h0⟩,λi x ys U g' hx q=>?_,λys U g' q=>?_⟩
 ·obtain⟨_,rfl,_⟩:=q;rw[ak];exact aD (fG _ _) (by simp;omega)
 ·obtain⟨e1,rfl,sh⟩:=q;obtain⟨j,hj,rfl⟩:=yy hx;refine x6 (λcC q=>p8 hP c _ _ _ _ _ _ (λb g3 q=>?_) (λ_ _ z=>z) q) (hs j U g' (aC hj) e1 sh);obtain⟨rfl,e3,q⟩:=q;have ef:((L.take (i+1)).filter p).map w=((L.take i).filter p).map w++if p j=true then[w j] else[]:=by
   rw[bC,hj,dQ,cT];cases z:p j<;>simp[List.filter_cons,z]
  cases hp:p j with
  |true =>
   rw[hp] at q ef;refine b9 hP elt _ _ _ _ _ _ (λy g4 q=>?_) (λ_ _ z=>z) q;obtain⟨rfl,e4,sh⟩:=q;exact⟨e4,by rw[ef];rfl,sh⟩
  |false =>
   rw[hp] at q ef;exact⟨e3,by rw[ef];simp,q⟩
 ·obtain⟨e1,rfl,sh⟩:=q;rw[il,bI (ai _)];exact hd g' e1
end
theorem jx.list{s:Nat}{F:Nat->List Nat}{P:Nat->Prop}(h:jx g t F P)(hs:P s):∃kvs l,g[t]?=some (.cY kvs)/\p9 kvs (kN s)=some (.ref l)/\g[l]?=some (.lst (a9 (F s))):=by
 obtain⟨kvs,L,h1,_,_,h4⟩:=h;obtain⟨l,h5,h6⟩:=h4 s hs;exact⟨kvs,l,h1,h5,h6⟩
theorem sum_nat(m:List Nat):(m.map λ(n:Nat)=>(n:Int)).sum=(m.sum:Nat):=by
 induction m with
 |nil=>rfl
 |cons x r ih=>simp[ih]
theorem XD(l:List α):l.filter (λ_=>true)=l:=Ei.mpr λ_ _=>rfl
section
variable{T:Nat->Option ba}{d:Nat}
theorem JF:(p0 cs v rs r).length<=cs.length:=B1
theorem Xz(iF:T 147=some Y4)(qu:T 152=some yo)(ha:g[a]?=some (.lst (cs.map b0.d)))(hz:cs.length<=9)(hT:jx g t (p0 cs v rs) (gZ (p0 cs v rs)))(h:∀w g',Ex g g'->g.length<=w->Wy g' w cs v rs->Q (.ref w) g'):b8 T (k+2) 152 [.ref a,.ref t] g Q E:=by
 refine call_of qu rfl ?_;dsimp[yo,c8,List.replicate];have fY:=N6 cs v rs;have p2:=wc hz;left
 try refine E2 (a7 ha) ?_
 left;rw[ak];refine S1 (k:=k) iF hz λg1 e1=>?_;left;have e2:=e1.trans (Ex.snoc g1 (O.cY []));have w2:=b7 (g:=g1) (o:=O.cY []);have T2:=hT.at e2;have lw:=e1.len;generalize g1++[O.cY []]=g2 at *;generalize g1.length=wd at *;obtain⟨kt,L,t2,k2,hL,_⟩:=id T2;have rR:=k2.small hz λs hs=>((hL s).mp hs).lt fY;refine w9 (a8 T _) (kq (a8 T _) ?_);left;refine Kl t2 () ?_;rw[k2.keys];have e3:=Ex.snoc g2 (O.lst ((L.map λj:Nat=>(j:Int)).map .int));have h3:=b7 (g:=g2) (o:=O.lst ((L.map λj:Nat=>(j:Int)).map .int));generalize g2++[O.lst ((L.map λj:Nat=>(j:Int)).map .int)]=g3 at *;refine Ji (a7 h3) (by rw[ak,<- k2.len];omega) ?_;obtain⟨S,s1,s2,s3,s4⟩:=Kt k2.2;rw[s1];have e4:=e3.trans (Ex.snoc g3 (O.lst (a9 S)));have h4:=b7 (g:=g3) (o:=O.lst (a9 S));generalize g3++[O.lst (a9 S)]=g4 at *;refine OU (a7 h4) ?_;have e5:=e4.trans (Ex.snoc g4 (O.lst (a9 S).reverse));have h5:=b7 (g:=g4) (o:=O.lst (a9 S).reverse);have er:(a9 S).reverse=a9 S.reverse:=by simp[a9]
 rw[er] at h5 e5 ⊢;generalize g4++[O.lst (a9 S.reverse)]=g5 at *;generalize g4.length=rl at *;have zp:S.reverse.Pairwise (· > ·):=ee.mpr s2;generalize kX:p0 cs v rs=F at *;have hS:∀s,s∈S.reverse↔gZ F s:=λs=>by rw[cO,s3,hL]
 have nt:wd≠t:=λe=>by obtain⟨_,_,q,_⟩:=hT;have:=j9 q;omega
 refine⟨rl,_,rfl,a7 h5,a9 S.reverse,λi U g'=>Ex g g'/\g'[rl]?=some (.lst (a9 S.reverse))/\jx g' t F (gZ F)/\(∃kvs,g'[wd]?=some (.cY kvs)/\kvs.length<=i/\∀s∈S.reverse.take i,p9 kvs (kN s)=some (.int ((j6 cs.length F s).length:Nat)))/\∃z4,U=[some (.ref a),some (.ref t),some (.int (((2 ^ cs.length:Nat):Int)-1)),some (.ref wd),z4],λi U g' q=>n6 (a7 q.2.1),⟨e2.trans e5,h5,T2.at e5,⟨[],e5.at w2,by simp,by simp⟩,none,rfl⟩,λi x U g' hx q=>?_,λU g' q=>?_⟩
 ·obtain⟨e6,h6,T6,⟨kvs,w6,hk,mV⟩,z4,rfl⟩:=q;obtain⟨s,hs,rfl⟩:=yy hx;have Ad:i<S.length:=by have:=(av.mp hs).1;simpa using this
  have nE:gZ F s:=(hS s).mp (aC hs);have mR:=nE.lt fY;refine i0 ?_;left;obtain⟨kt6,fl,t6,v6,f6⟩:=T6.list nE;refine He (a8 T _) (λU=>∃z2 z3,U=[some (.ref wd),some (.int (s:Nat)),z2,z3]) (λ_=>true) (λp=>.int ((j6 cs.length F (s |||2 ^ p)).length:Nat)) (l:=fl) (L:=F s) f6 (by rw[<- kX];have:=JF (cs:=cs) (v:=v) (rs:=rs) (r:=s);omega) ⟨none,none,rfl⟩ (λp U g7 hp e7 sh=>?_) (λg7 e7=>?_) λR hR=>?_
  ·obtain⟨z2,z3,rfl⟩:=sh;have mS:=fY _ _ hp;refine i0 (vP ⟨rfl,e7,lp ?_⟩);left;refine S1 (k:=k) iF () λg8 e8=>?_;left;have es:((s:Nat):Int)+((2 ^ p:Nat):Int)=((s |||2 ^ p:Nat):Int):=by rw[yg mS.2];omega
   rw[es];refine P2 ((e7.trans e8).at w6) rfl (mV _ (HJ zp hs ((hS _).mpr (.step nE hp)) (tj mS.2))) ?_;exact⟨rfl,e7.trans e8,_,_,rfl⟩
  ·rw[XD];have e8:=e7.trans (Ex.snoc g7 (O.lst ((F s).map λp=>D.int ((j6 cs.length F (s |||2 ^ p)).length:Nat))));have h8:=b7 (g:=g7) (o:=O.lst ((F s).map λp=>D.int ((j6 cs.length F (s |||2 ^ p)).length:Nat)));generalize g7++[O.lst ((F s).map λp=>D.int ((j6 cs.length F (s |||2 ^ p)).length:Nat))]=g8 at *;have el:(F s).map (λp=>D.int ((j6 cs.length F (s |||2 ^ p)).length:Nat))=(((F s).map λp=>(j6 cs.length F (s |||2 ^ p)).length).map λ(n:Nat)=>(n:Int)).map .int:=by rw[bD,bD];rfl
   rw[el] at h8;refine CZ (a7 h8) ?_;rw[sum_nat];left;have ev:(if decide (((s:Nat):Int)=((2 ^ cs.length:Nat):Int)-1)=true then(1:Int) else 0)+((((F s).map λp=>(j6 cs.length F (s |||2 ^ p)).length).sum:Nat):Int)=((j6 cs.length F s).length:Nat):=by
    by_cases c1:s=2 ^ cs.length-1
    ·rw[aJ (aw ()),U3 c1];have:F s=[]:=by
      cases z:F s with
      |nil=>rfl
      |cons p r =>
       have hp:=fY s p (by rw[z];exact bJ ..);have:=tj hp.2;have:=X0 mR hp.1;omega
     rw[this];rfl
    ·rw[aF (by rw[aH ()];decide),Jw fY mR c1];omega
   rw[ev];refine vM (e8.at w6) rfl (by have:=k2.len;omega) ?_;refine⟨xK (e6.trans e8) lw,c7 (e8.at h6) (U4 (e8.at h6) (e8.at w6)),(T6.at e8).uc (e8.at w6) nt,⟨_,get_set (e8.at w6),aD JN (),λs' iP=>?_⟩,_,rfl⟩;by_cases qc:s'=s
   ·subst qc;exact yH
   ·refine(Cq (xO (cw qc))).trans (mV s' ?_);exact((take1 hs s').mp iP).resolve_right qc
  ·refine kq (a8 T _) ?_;left;exact P2 t6 rfl v6 ⟨_,_,rfl,a7 f6,hR⟩
 ·obtain⟨e6,h6,T6,⟨kvs,w6,hk,mV⟩,z4,rfl⟩:=q;rw[show(a9 S.reverse).length=S.reverse.length by simp[a9],bI (ai _)] at mV;left;refine h _ _ e6 lw ⟨⟨kvs,w6,λs hs=>?_⟩⟩;rw[kX] at hs ⊢;exact mV s ((hS s).mpr hs)
end
theorem Lay.full{F:Nat->List Nat}(h:Lay F i (2 ^ n-1)):n<=i:=by
 have ex:∀{i s:Nat},Lay F i s->∃l:List Nat,l.length<=i/\∀q,s.testBit q=true->q∈l:=by
  intro i
  induction i with
  |zero=>rintro s rfl;exact⟨[],by simp,λq hq=>by simp at hq⟩
  |succ i ih =>
   rintro s ⟨r,p,h1,h2,h3⟩;obtain⟨l,n1,n2⟩:=ih h1;refine⟨p::l,by simp;exact n1,λq hq=>?_⟩;rw[h3,M6,cV] at hq;rcases hq with z|z
   ·exact bu _ (n2 q z)
   ·rw[bj z];exact bJ ..
 obtain⟨l,h1,h2⟩:=ex h;have:=Y3 (l:=List.range n) (m:=l) fK λq hq=>h2 q (by rw[Nat.testBit_two_pow_sub_one];exact aw (aT.mp hq));rw[fk] at this;omega
theorem Hg{α:Type}{f:Nat->List α}{x:α}:∀{l:List Nat},(l.flatMap f)[0]?=some x->∃p,(l.filter λp=>decide (0<(f p).length))[0]?=some p/\(f p)[0]?=some x
 |[],h=>by cases h
 |q::l,h=>by
  rw[fm] at h;cases z:f q with
  |nil =>
   rw[z,List.nil_append] at h;obtain⟨p,h1,h2⟩:=Hg h;exact⟨p,by rw[eM,aF (by rw[z];simp)];exact h1,h2⟩
  |cons y r =>
   rw[z] at h;exact⟨q,by rw[eM,aJ (by rw[z];simp)];rfl,by rw[z];exact h⟩
theorem Hr{s:Nat}{F:Nat->List Nat}(hF:FG n F)(hs:s<2 ^ n)(eZ:s≠2 ^ n-1){o:List Nat}(h:(j6 n F s)[0]?=some o):∃p o',((F s).filter λp=>decide (0<(j6 n F (s |||2 ^ p)).length))[0]?=some p/\o=p::o'/\(j6 n F (s |||2 ^ p))[0]?=some o':=by
 rw[BI hF hs eZ] at h;obtain⟨p,h1,h2⟩:=Hg h;rw[ae,aa] at h2;obtain⟨o',h2,h3⟩:=h2;refine⟨p,o',?_,h3.symm,h2⟩;simpa using h1
section
variable{T:Nat->Option ba}{d:Nat}
theorem JH(iF:T 147=some Y4)(oh:T 154=some yb)(ha:g[a]?=some (.lst (cs.map b0.d)))(hz:cs.length<=9)(hT:jx g t (p0 cs v rs) (gZ (p0 cs v rs)))(hW:Wy g w cs v rs)(h1:j6 cs.length (p0 cs v rs) 0=[]->∀g',Ex g g'->Q .bO g')(h2:∀o l g',(j6 cs.length (p0 cs v rs) 0)[0]?=some o->o.length=cs.length->Ex g g'->g.length<=l->g'[l]?=some (.lst (a9 o))->Q (.ref l) g'):b8 T (k+2) 154 [.ref a,.ref t,.ref w] g Q E:=by
 refine call_of oh rfl ?_;dsimp[yb,c8,List.replicate];have fY:=N6 cs v rs;obtain⟨kvs,w1,w2⟩:=hW.ex;generalize kX:p0 cs v rs=F at *;left;refine P2 w1 rfl (w2 0 .zero) ?_;left;cases hX:j6 cs.length F 0 with
 |nil =>
  refine gR (aw rfl) ?_;exact h1 hX _ (Ex.refl _)
 |cons o0 r0 =>
 refine fB (aH (by simp;omega)) ?_;left;have e1:=Ex.snoc g (O.lst []);have r1:=b7 (g:=g) (o:=O.lst []);refine w9 (a8 T _) (N4 (a8 T _) ?_);left
 try refine E2 (a7 (e1.at ha)) ?_
 rw[ak];refine⟨_,rfl,by omega,by omega,i8 0 cs.length,λi U g'=>Ex g g'/\∃(H o:List Nat) (s:Nat),g'[g.length]?=some (.lst (a9 H))/\H.length=i/\Lay F i s/\(j6 cs.length F s)[0]?=some o/\(j6 cs.length F 0)[0]?=some (H++o)/\∃z5 z6,U=[some (.ref a),some (.ref t),some (.ref w),some (.ref g.length),some (.int (s:Nat)),z5,z6],λ_ _ _ _=>by exact n8,⟨e1,[],o0,0,r1,rfl,rfl,by rw[hX];rfl,by rw[hX];rfl,none,none,rfl⟩,λi x U g' hx q=>?_,λU g' q=>?_⟩
 ·obtain⟨e2,H,o,s,r2,hH,oV,ho,qd,z5,z6,rfl⟩:=q;obtain⟨hi,rfl⟩:=s9 hx;have nE:=oV.nR;have mR:=nE.lt fY;have eZ:s≠2 ^ cs.length-1:=λe=>by rw[e] at oV;have:=oV.full;omega
  obtain⟨p,o',hp,rfl,mx⟩:=Hr fY mR eZ ho;have lP:p∈F s:=(bq.mp (aC hp)).1;have mS:=fY _ _ lP;refine i0 ?_;left;obtain⟨kt,fl,t2,v2,f2⟩:=(hT.at e2).list nE;refine He (a8 T _) (λU=>∃z2 z3,U=[some (.ref w),some (.int (s:Nat)),z2,z3]) (λp=>decide (0<(j6 cs.length F (s |||2 ^ p)).length)) (λp=>.int (p:Nat)) (l:=fl) (L:=F s) f2 (by rw[<- kX];have:=JF (cs:=cs) (v:=v) (rs:=rs) (r:=s);omega) ⟨none,none,rfl⟩ (λp U g7 hp e7 sh=>?_) (λg7 e7=>?_) λR hR=>?_
  ·obtain⟨z2,z3,rfl⟩:=sh;have mS:=fY _ _ hp;refine i0 ?_;left;refine S1 (k:=k) iF () λg8 e8=>?_;left;have es:((s:Nat):Int)+((2 ^ p:Nat):Int)=((s |||2 ^ p:Nat):Int):=by rw[yg mS.2];omega
   rw[es];refine P2 ((e2.trans (e7.trans e8)).at w1) rfl (w2 _ (.step nE hp)) ?_;left;refine⟨dH.mpr (),e7.trans e8,?_⟩;refine if2 (λ_=>?_) (λ_=>⟨_,_,rfl⟩);left;exact⟨rfl,e7.trans e8,_,_,rfl⟩
  ·have e8:=e7.trans (Ex.snoc g7 (O.lst (((F s).filter λp=>decide (0<(j6 cs.length F (s |||2 ^ p)).length)).map λp=>D.int (p:Nat))));have h8:=b7 (g:=g7) (o:=O.lst (((F s).filter λp=>decide (0<(j6 cs.length F (s |||2 ^ p)).length)).map λp=>D.int (p:Nat)));generalize g7++[O.lst (((F s).filter λp=>decide (0<(j6 cs.length F (s |||2 ^ p)).length)).map λp=>D.int (p:Nat))]=g8 at *;refine m8 (a7 h8) (d:=.int (p:Nat)) (v9 (j:=0) (by rw[ae,hp];rfl)) ?_;have r8:=e8.at r2;left;refine K2 r8 (by simp[a9];omega) ?_;left;have e9:Ex g (g8.set g.length (.lst (a9 H++[.int (p:Nat)]))):=xK (e2.trans e8) (ai _);have r9:(g8.set g.length (.lst (a9 H++[.int (p:Nat)])))[g.length]?=some (.lst (a9 (H++[p]))):=by rw[get_set r8];simp[a9]
   refine S1 (k:=k) iF () λAQ nK=>?_;left;have es:((s:Nat):Int)+((2 ^ p:Nat):Int)=((s |||2 ^ p:Nat):Int):=by rw[yg mS.2];omega
   rw[es];exact⟨e9.trans nK,H++[p],o',s |||2 ^ p,nK.at r9,by simp[hH],⟨s,p,oV,lP,rfl⟩,mx,by rw[qd];simp,_,_,rfl⟩
  ·refine kq (a8 T _) ?_;left;exact P2 t2 rfl v2 ⟨_,_,rfl,a7 f2,hR⟩
 ·obtain⟨e2,H,o,s,r2,hH,oV,ho,qd,z5,z6,rfl⟩:=q;rw[i6] at hH oV;have hs:s=2 ^ cs.length-1:=by
   refine oJ λeZ=>?_;obtain⟨p,o',hp,_,_⟩:=Hr fY (oV.nR.lt fY) eZ ho;have:Lay F (cs.length+1) (s |||2 ^ p):=⟨s,p,oV,(bq.mp (aC hp)).1,rfl⟩
   have:=this.le fY;omega
  rw[U3 hs] at ho;cases ho;rw[cU] at qd;left;exact h2 H _ _ qd hH e2 (ai _) r2
end
theorem YE{x y:Nat}(hx:x<cs.length)(hy:y<cs.length)(h:x≠y):n5 cs ⟨.eI,(x:Nat),(y:Nat)⟩=true:=by
 unfold n5;rw[yh (w:=.eI) (x:=(x:Nat)) hx (aw rfl),yh (w:=.eI) (x:=(y:Nat)) hy (aw rfl),aH (λe=>h (by have e:(x:Int)=y:=e;omega))]
 rfl
section
variable{T:Nat->Option ba}{d:Nat}
theorem WI(h4:T 4=some E1)(qt:T 153=some Q6)(hb:g[b]?=some (.lst (a9 L)))(hd:b≠d)(hl:L.length=cs.length)(hz:cs.length<=9)(h2:2<=cs.length)(nd:L.Nodup)(hL:∀j∈L,j<cs.length)(D0:f9 g d)(h:∀(rs:List fJ) c g',rs.length<=40->rs.all (n5 cs)=true->g'[c]?=some (.lst (o8 rs))->g.length<=c->f9 g' d->Gr d g g'->Q (.ref c) g'):b8 T (k+2) 153 [.ref d,.ref b] g Q E:=by
 refine call_of qt rfl ?_;dsimp[Q6,c8,List.replicate];have dl:=D0.lt;left;have G1:=Gr.snoc d g (O.lst []);have c1:=b7 (g:=g) (o:=O.lst []);have D1:=D0.snoc (O.lst []);refine w9 (a8 T _) (N4 (a8 T _) ?_);left;refine d8 (k:=k) h4 D1 ∅ ∅ λn g2 n0 n1 D2 G2=>?_;left;have il:(a9 L).length=cs.length:=by simp[a9,hl]
 have FO:∀j:Nat,j<cs.length->∃y,L[j]?=some y/\y<cs.length/\(a9 L)[j]?=some (.int (y:Nat)):=λj hj=>⟨L[j],ag (),hL _ (bN ()),by rw[a9,ae,ag ()];rfl⟩
 refine⟨by omega,by omega,i8 0 (20+n).toNat,λi U g'=>f9 g' d/\Gr d g g'/\∃(rs:List fJ),g'[g.length]?=some (.lst (o8 rs))/\rs.length=i/\rs.all (n5 cs)=true/\(∀r∈rs,r.w=.eI)/\∃z3 z4 z5,U=[some (.ref d),some (.ref b),some (.ref g.length),z3,z4,z5],λ_ _ _ _=>n8,⟨D2,G1.trans G2,[],G2.at () c1,rfl,rfl,(λr hr=>absurd hr ic),none,none,none,rfl⟩,λi x U g' hx q=>?_,λU g' q=>?_⟩
 ·obtain⟨D3,G3,rs,c3,hr,hR,hC,z3,z4,z5,rfl⟩:=q;obtain⟨hi,rfl⟩:=s9 hx;refine i0 ?_;have b3:=G3.at hd hb;left;refine d8 (k:=k) h4 D3 () () λx g4 x0 x1 D4 G4=>?_;obtain⟨x,rfl⟩:∃j:Nat,x=j:=⟨x.toNat,by omega⟩
  have b4:=G4.at hd b3;left;rw[il];refine d8 (k:=k) h4 D4 (by split<;>omega) (by split<;>omega) λy g5 y0 y1 D5 G5=>?_;have hy:y<(cs.length:Int)-1-(x:Nat):=by split at y1<;>omega
  obtain⟨m,hm⟩:∃m:Nat,(x:Int)+1+y=(m:Nat):=⟨((x:Int)+1+y).toNat,by omega⟩
  left;rw[hm];have b5:=G5.at hd b4;have G35:=(G3.trans G4).trans G5;have c5:=(G4.trans G5).at (show g.length≠d by omega) c3
  try refine⟨Dy c5,?_⟩
  left;obtain⟨p,p1,p2,p3⟩:=FO x ();obtain⟨q,q1,q2,q3⟩:=FO m ();refine m8 (a7 b5) (d:=.int (p:Nat)) (v9 p3) ?_;left;refine m8 (a7 b5) (d:=.int (q:Nat)) (v9 q3) ?_;left;refine K2 c5 (by simp[o8];omega) ?_;left;refine ⟨D5.C1 (),G35.C1 (ai _),rs ++ [⟨.eI,(p:Nat),(q:Nat)⟩],by rw [get_set c5];simp [o8];rfl,by simp [hr],?_,λr hr=>by
   rcases aO.mp hr with z|z
   ·exact hC r z
   ·rw [aR.mp z],_,_,_,rfl⟩
  rw[mD,hR,List.all_cons,YE p2 q2 λe=>by have:=Cn nd p1 (e▸q1);omega];rfl
 ·obtain⟨D3,G3,rs,c3,hr,hR,hC,z3,z4,z5,rfl⟩:=q;rw[i6] at hr;left;refine d8 (k:=k) h4 D3 ∅ ∅ λx g4 x0 x1 D4 G4=>?_;have c4:=G4.at (show g.length≠d by omega) c3;left;refine if2 (λ_=>?_) (λ_=>?_)
  ·obtain⟨r0,rr,rfl⟩:∃r0 rr,rs=r0::rr:=by
    cases rs with
    |nil=>simp at hr;omega
    |cons x y=>exact⟨x,y,rfl⟩
   left;refine m8 (a7 c4) (d:=r0.d) (v9 (j:=0) rfl) ?_
   try refine v5 (d:=.int r0.y) rfl ?_
   left;refine m8 (a7 c4) (d:=r0.d) (v9 (j:=0) rfl) ?_
   try refine v5 (d:=.int r0.x) rfl ?_
   left;refine Q1 c4 (n:=rr.length) (by simp only[o8,List.length_map,List.length_cons];unfold kR;rw[aF ∅,aJ ()];congr 1;omega) ?_;left;have g0:n5 cs ⟨.eI,r0.y,r0.x⟩=true:=by
    have h0:=cB.mp hR r0 (bJ ..);have hw:=hC r0 (bJ ..);unfold n5 at h0 ⊢;rw[hw] at h0;rw[Bool.and_comm (!(jr cs RW.eI r0.y).isEmpty),show decide (r0.y=r0.x)=decide (r0.x=r0.y) from dH.mpr eq_comm];exact h0
   refine h ((r0::rr).set rr.length ⟨.eI,r0.y,r0.x⟩) _ _ (by simp at hr ⊢;omega) ?_ (by rw[get_set c4];simp only[o8,List.map_set];rfl) (ai _) (D4.C1 ()) ((G3.trans G4).C1 (ai _));refine cB.mpr λr hr=>?_;rcases gF hr with z|rfl
   ·exact cB.mp hR r z
   ·exact g0
  ·left;exact h rs _ _ () hR c4 (ai _) D4 (G3.trans G4)
end
def sO:ba:=⟨1,8,(.seq (.set 1 (.call 3 (fg aI))) (.seq (.dC (.one 2) (.dW (aY 2)) (.seq (.lK (.many [3,4,5]) (.call 110 (du bh (cK (bQ .tup (aY 9) (aY 7)) br)))) (.seq (.ifs (.dE (dY .Gt (dB .len bH) (aY 1)) (dY .Eq (.call 4 (du bh (aY 6))) (aY 0))) (.seq (.set 5 (.call 153 (du bh (.call 111 (oN bh bH cF (.prim .lst .nil)))))) .pass) .pass) (.seq (.set 6 (.call 149 (gH bH cF dU))) (.seq (.set 7 (.call 152 (du bH eG))) (.seq (.ifs (.eP (.fR (.call 7 (du (.call 126 (gH bH cF dU)) (cK fM (aY 0)))))) (.seq (.ret (.lit (.bl false))) .pass) .pass) (.seq (.ifs (.eP (.fR (.call 7 (du (.call 125 (gH bH cF dU)) (.call 154 (gH bH eG fM)))))) (.seq (.ret (.lit (.bl false))) .pass) .pass) .pass))))))) (.seq (.ret (.lit (.bl true))) .pass)))⟩
structure T16(T:Nat->Option ba):Prop where
 tb:TB T
 kO:oE T
 tf:TF T
 wH:DP T
 tw:TW T
 tn:TN T
 h3:T 3=some xR
 h6:T 6=some vZ
 h7:T 7=some F1
 NI:T 11=some sO
 qG:T 111=some J1
 ng:T 124=some J9
 qy:T 125=some O1
 qx:T 126=some yC
 qv:T 149=some yd
 qu:T 152=some yo
 qt:T 153=some Q6
 oh:T 154=some yb
section
variable{T:Nat->Option ba}{d:Nat}
theorem a39(hT:T16 T):b8 T (k+12) 11 [.ref 0] [.oi (ns.map .int)] (λd _=>d=.bl true) ik:=by
 refine call_of hT.NI rfl ?_;dsimp[sO,c8,List.replicate];left;refine SV (k:=k+10) hT.h3 (a:=0) (ns:=ns) rfl λd g D0 _ _=>?_;refine Yu (n:=2) ∅ (λi U g=>f9 g d/\∃z2 z3 z4 z5 z6 z7,U=[some (.ref 0),some (.ref d),z2,z3,z4,z5,z6,z7]) ⟨D0,none,none,none,none,none,none,rfl⟩ (λi U g hi p=>?_) (λU g p=>?_)
 ·obtain⟨D1,z2,z3,z4,z5,z6,z7,rfl⟩:=p;have dl:=D1.lt;left;have hn:∃n:Int,gk [D.int 9,D.int 7] (i:Int)=some (.int n)/\0<=n/\n<=9:=by
   have:i=0\/i=1:=by omega
   rcases this with rfl|rfl
   ·exact⟨9,rfl,by decide,by decide⟩
   ·exact⟨7,rfl,by decide,by decide⟩
  obtain⟨n,hn,n1,n2⟩:=hn;refine v5 hn ?_;left;refine a16 (k:=k+6) hT.kO hT.kO.qH ⟨n1,n2⟩ D1 λcs rs a c v g2 hl hG ha xn hr hR hc jS hac v1 v2 D2 G2=>?_;refine B6 rfl ?_;have hz:cs.length<=9:=by omega
  have hB:∀c∈cs,CB c:=λc hc=>⟨(hG c hc).l8,(hG c hc).u8⟩
  have hg:cs.all u6=true:=cB.mpr λc hc=>(hG c hc).good;have rest:∀(N:Ends) (rs:List fJ) c g2,N.rt=(λd _=>d=.bl true)->(∀g' z6 z7,f9 g' d->N.nx [some (.ref 0),some (.ref d),some (.int i),some (.ref a),some (.int v),some (.ref c),z6,z7] g')->rs.length<=40->rs.all (n5 cs)=true->g2[a]?=some (.lst (cs.map b0.d))->g2[c]?=some (.lst (o8 rs))->f9 g2 d ->
    wpS (b8 T (k+11)) (match sO.body with|.seq _ (.seq (.dC _ _ (.seq _ (.seq _ b))) _)=>b|x=>x) N [some (.ref 0),some (.ref d),some (.int i),some (.ref a),some (.int v),some (.ref c),z6,z7] g2 ik:=by
   intro N rs c g2 hN lU hr hR ha hc D2;dsimp[sO];left;refine Xg (k:=k+7) (v:=v) hT.kO hT.wH hT.qv hB ha hz hc () λg3 t e3 _ T3=>?_;left;refine Xz (k:=k+9) hT.wH.iF hT.qu (e3.at ha) hz T3 λw g4 e4 _ W4=>?_;left;have AZ:=e3.trans e4;refine Zq (k:=k) hT.tb hT.tf hT.tw hT.qx (AZ.at ha) hz hg hB ⟨v1,by omega⟩ (AZ.at hc) () hR λg5 e5=>?_;left;obtain⟨kvs,w1,w2⟩:=W4.ex;refine P2 (e5.at w1) rfl (w2 0 .zero) ?_;left;refine Cd hT.h6 hT.h7 0 (k:=k+9) (.int _) λg6 e6=>?_;left;have sA:=AZ.trans (e5.trans e6);have T6:=(T3.at e4).at (e5.trans e6);have W6:=W4.at (e5.trans e6);refine WX (k:=k) hT.tb hT.tf hT.tw hT.tn hT.ng hT.qy (sA.at ha) hz hg hB ⟨v1,by omega⟩ (sA.at hc) () hR (λho g7 e7=>?_) (λo f g7 ho e7 hf h7=>?_)
   ·left;refine JH (k:=k+9) hT.wH.iF hT.oh ((sA.trans e7).at ha) hz (T6.at e7) (W6.at e7) (λ_ g8 e8=>?_) (λo l g8 z=>by rw[ho] at z;cases z);left;refine Cd hT.h6 hT.h7 0 (k:=k+9) .bO λg9 e9=>?_;left;exact lU _ _ _ ((sA.trans (e7.trans (e8.trans e9))).draw D2)
   ·left;refine JH (k:=k+9) hT.wH.iF hT.oh ((sA.trans e7).at ha) hz (T6.at e7) (W6.at e7) (λz=>by rw[z] at ho;cases ho) (λo' l g8 z hol e8 _ h8=>?_);rw[ho] at z;cases z;left;refine Cd hT.h6 hT.h7 1 (k:=k+8) (XS (e8.at h7) h8 (λx hx=>by obtain⟨i,_,rfl⟩:=aU.mp hx;exact .inl ⟨_,rfl⟩) (by simp[a9];omega)) λg9 e9=>?_;left;exact lU _ _ _ ((sA.trans (e7.trans (e8.trans e9))).draw D2)
  left;have go:∀g3 (N:Ends),N.rt=(λd _=>d=.bl true)->(∀g' z6 z7 c,f9 g' d->N.nx [some (.ref 0),some (.ref d),some (.int i),some (.ref a),some (.int v),some (.ref c),z6,z7] g')->f9 g3 d->Gr d g2 g3->wpS (b8 T (k+11)) (match sO.body with|.seq _ (.seq (.dC _ _ (.seq _ (.seq _ b))) _)=>b|x=>x) N [some (.ref 0),some (.ref d),some (.int i),some (.ref a),some (.int v),some (.ref c),z6,z7] g3 ik:=λg3 N hN lU D3 G3 =>
   rest N rs c g3 hN (λg' z6 z7 D=>lU g' z6 z7 c D) () hR (G3.at () ha) (G3.at () hc) D3
  refine if2 (λc1=>?_) (λc1=>?_)
  ·left;refine d8 (k:=k+10) hT.kO.lf.pull D2 ∅ ∅ λq g3 _ _ D3 G3=>?_;left;refine if2 (λ_=>?_) (λ_=>?_)
   ·left;have a3:=G3.at (show a≠d by omega) ha;have A3:Ask (g3++[.lst []]) a g3.length cs v []:=⟨n9 a3,hz,hG,⟨v1,by omega⟩,b7,bP _,rfl⟩
    have l3:=D3.lt;refine WY (k:=k+8) hT.kO hT.qG A3 () l3 (D3.snoc _) λL b g4 l1 nd hL hb Al D4 G4=>?_;left;refine WI (k:=k+9) hT.kO.lf.pull hT.qt hb (by simp at Al;omega) l1 hz (by simp at c1;omega) nd hL D4 λwO c' g5 r1 r2 r3 _ D5 G5=>?_;exact rest _ wO c' g5 rfl (λg' z6 z7 D=>⟨D,_,_,_,_,_,_,rfl⟩) r1 r2 (G5.at () (G4.at () A3.ha)) r3 D5
   ·refine C3 ?_;exact go g3 _ rfl (λg' z6 z7 c D=>⟨D,_,_,_,_,_,_,rfl⟩) D3 G3
  ·refine fB rfl ?_;refine C3 ?_;exact go g2 _ rfl (λg' z6 z7 c D=>⟨D,_,_,_,_,_,_,rfl⟩) D2 (Gr.refl _ _)
 rfl
end
end M
namespace Lk
open PySem L2 M
def top(i:Nat):Stmt:=PySem.Challenge.pw_trussel_k16_whole_counts_of_orders.main.body.getD i (.Pass ⟨0,0,0,0⟩)
def Sq:Stmt->List Stmt
 |.ClassDef (body:=b) ..=>b
 |_=>[]
def GJ(i j:Nat):Stmt:=(Sq (top i)).getD j (.Pass ⟨0,0,0,0⟩)
def F:List RF:=[⟨38,"is_number",["thing"],1,9,Ci⟩,⟨1,"number_from",["number","least","most"],3,10,V5⟩,⟨2,"good_marks",["marks","least","spot"],1,11,L5⟩,⟨15,"within",["one","other"],2,12,yt⟩,⟨12,"good_coin",["coin","lower","lower_marks","upper","upper_marks","year","good_lower","good_upper"],1,19,B9⟩,⟨39,"check_coin",["coin"],1,20,Cu⟩,⟨18,"check_coins",["coins","coin"],1,21,V8⟩,⟨40,"check_side",["side"],1,22,Q8⟩,⟨19,"die_field",["side"],1,23,Cf⟩,⟨74,"places_of",["coins","word","thing","field"],3,24,U7⟩,⟨20,"dies_of",["coins","side","field"],2,25,BE⟩,⟨42,"check_anvils",["anvils"],1,30,F6⟩,⟨88,"good_rule",["coins","rule","word","one","other"],2,31,Cg⟩,⟨89,"check_rules",["coins","rules","at","rule"],2,32,V7⟩,⟨90,"stand_of",["places"],1,33,yE⟩,⟨91,"with_coin",["stand","place"],2,34,U6⟩,⟨92,"more_worn",["one","other","side","field"],2,35,Hn⟩,⟨93,"later",["one","other"],2,36,Du⟩,⟨94,"worn_stands",["coins"],1,37,Ic⟩,⟨95,"later_stands",["coins"],1,38,Im⟩,⟨96,"die_stands",["coins"],1,39,Cv⟩,⟨97,"needed_stands",["coins","rules","needed","word","one","other","first","place"],2,40,P1⟩,⟨98,"check_asked",["coins","anvils","rules"],3,42,O2⟩,⟨99,"bounds_of",["coins","anvils","rules"],3,43,Ce⟩,⟨100,"dies_in_use",["bounds","stand","place","struck","left"],3,44,Cw⟩,⟨101,"next_fault",["bounds","stand","place"],3,45,Cy⟩,⟨115,"follows",["bounds","stand","place"],3,47,yB⟩,⟨116,"followers",["bounds","stand"],2,48,HH⟩,⟨117,"reached_stands",["bounds","led_to","told","stand","place"],1,49,M9⟩,⟨121,"ways_on",["bounds","ways","stand"],1,51,BG⟩,⟨122,"step_on",["bounds","ways","stand","number","choices","left","at"],4,52,yq⟩,⟨123,"numbered_order",["bounds","ways","number","order","stand","left","place"],3,53,N1⟩,⟨124,"first_order",["bounds","ways"],1,54,J9⟩,⟨125,"least_order",["coins","anvils","rules"],3,55,O1⟩,⟨126,"how_many",["coins","anvils","rules"],3,56,yC⟩,⟨3,"_law_open",["_law_script"],1,58,xR⟩,⟨4,"_law_pull",["_law_draw","_law_total_of","_law_cell","_law_got","_law_seed"],2,59,E1⟩,⟨6,"_law_num",["_law_found"],1,60,vZ⟩,⟨7,"_law_like",["_law_found","_law_due"],2,61,F1⟩,⟨21,"_law_order_of",["_law_draw","_law_numbers","_law_left","_law_found","_law_step"],2,62,S4⟩,⟨17,"_law_within",["_law_one","_law_other"],2,63,yD⟩,⟨22,"_law_any_coin",["_law_draw","_law_menu","_law_lower","_law_upper","_law_year"],1,64,yA⟩,⟨23,"_law_seated",["_law_draw","_law_seats","_law_fresh","_law_anvils"],4,65,J5⟩,⟨24,"_law_struck",["_law_draw","_law_size","_law_anvils","_law_seats","_law_fresh","_law_worn","_law_year","_law_step","_law_wear","_law_shift","_law_found","_law_k","_law_keys","_law_key","_law_spot","_law_named","_law_told_year"],3,66,K7⟩,⟨25,"_law_opened",["_law_draw","_law_size","_law_dies","_law_row","_law_held","_law_found","_law_k","_law_year"],2,67,yp⟩,⟨26,"_law_list",["_law_draw","_law_most","_law_size","_law_anvils","_law_way","_law_found","_law_at","_law_coin","_law_other"],2,68,Q7⟩,⟨105,"_law_rule",["_law_draw","_law_coins","_law_word","_law_some","_law_at"],2,69,sX⟩,⟨106,"_law_rules",["_law_draw","_law_coins","_law_found","_law_k","_law_rule_here"],2,70,Dv⟩,⟨107,"_law_rule_kept",["_law_coins","_law_ahead","_law_place","_law_rule_here","_law_word","_law_one","_law_other","_law_at"],4,71,Cj⟩,⟨108,"_law_fault",["_law_coins","_law_anvils","_law_rules_here","_law_ahead","_law_place","_law_coin","_law_there_here","_law_at","_law_here","_law_later"],5,72,vS⟩,⟨146,"_law_there",["_law_stand","_law_size"],2,73,ye⟩,⟨147,"_law_power",["_law_place"],1,74,Y4⟩,⟨148,"_law_following",["_law_coins","_law_anvils","_law_rules_here","_law_stand","_law_there_here","_law_found","_law_place"],4,75,V6⟩,⟨149,"_law_table",["_law_coins","_law_anvils","_law_rules_here","_law_table_here","_law_front","_law_step","_law_wider","_law_stand","_law_place"],3,76,yd⟩,⟨152,"_law_counts",["_law_coins","_law_table_here","_law_end","_law_found","_law_stand"],2,77,yo⟩,⟨110,"_law_ready",["_law_draw","_law_most","_law_coins","_law_anvils"],2,78,yc⟩,⟨111,"_law_some_order",["_law_draw","_law_coins","_law_anvils","_law_rules_here","_law_size","_law_row","_law_step","_law_good","_law_rest"],4,79,J1⟩,⟨153,"_law_many_rules",["_law_draw","_law_row","_law_found","_law_k","_law_at","_law_to"],2,80,Q6⟩,⟨154,"_law_least",["_law_coins","_law_table_here","_law_counts_here","_law_row","_law_stand","_law_step","_law_place"],3,81,yb⟩,⟨11,"law",["_law_script","_law_draw","_law_turn","_law_coins","_law_anvils","_law_rules_here","_law_table_here","_law_counts_here"],1,82,sO⟩]
def Ms:List RM:=[⟨113,"Bounds","__init__","Bounds.__init__",["self","coins","anvils","rules"],4,41,0,V9⟩]
def con:List (Str×D):=[("LAST_SPOT",.int 7),("MOST_COINS",.int 9),("LAST_DIE",.int 99),("LAST_YEAR",.int 9999),("SIDES",.tup [(.str "lower"),(.str "upper")]),("MOST_ANVILS",.int 9),("RULE_WORDS",.tup [(.str "coin"),(.str "lower"),(.str "upper")]),("YEAR_FIELD",.int 4)]
def gd:List (Str×List D):=[("DIE_FIELDS",[.tup [.str "lower",.int 0],.tup [.str "upper",.int 2]])]
def exc:List Str:=[]
def c0:j5:=⟨[],[],true,F.map λr=>(r.nm,r.id),con,["len","enumerate","list","tuple","isinstance","all","range","int","bool","str","max","min","sorted","set","sum","reversed"],exc,gd,[("Bounds",113)],Ms.map λr=>(r.nm,r.cl,r.id),[("size","Bounds"),("full","Bounds"),("room","Bounds"),("worn_by_place","Bounds"),("later_by_place","Bounds"),("lower_dies","Bounds"),("needed_by_place","Bounds")],true,true,true⟩
noncomputable abbrev T:Nat->Option ba:=sQ F Ms
theorem tx:lE c0 F Ms top GJ:=by
 refine⟨rfl,rfl,by decide +kernel,by decide +kernel,by decide +kernel,by decide +kernel,?_,?_,?_,?_⟩
 all_goals
  repeat first
   |exact BF.nil
   |exact BM.nil
   |exact YF.nil
   |exact YM.nil
   |refine YF.cons (by kernel_rfl) ?_
   |refine YM.cons (by kernel_rfl) ?_
   |refine BF.cons (λ_ _ _ _ _ _=>(by(repeat refine Er λ_=>?_);exact Ep rfl)) ?_
   |refine BM.cons (λ_ _ _ _ _ _=>(by(repeat refine Er λ_=>?_);exact Ep rfl)) ?_
inductive sE:List DictEntry->List (Str×V)->Prop
 |nil:sE [] []
 |cons {h:Int} {x:Str} {t:Tok} {u:Value} {v:V} {es:List DictEntry} {vs:List (Str×V)} (r:RelV v u) (q:sE es vs):sE (⟨h,.str x t,u⟩::es) ((x,v)::vs)
theorem sE.find{es vs}(x:Str)(h:sE es vs):I9 (vs.lookup x) (findBy Value.isStrOf es.toArray x):=by
 induction h with
 |nil=>trivial
 |cons r q ih =>
  rename_i h y t u v es vs;unfold findBy at ih ⊢;rw[List.find?_toArray] at ih ⊢;rw[eV,dI];by_cases e:x=y
  ·rw[show(x==y)=true from by simp[e],show Value.isStrOf x (.str y t)=true from by simp[Value.isStrOf,e]];exact r
  ·rw[show(x==y)=false from by simpa using e,show Value.isStrOf x (.str y t)=false from by simp[Value.isStrOf];exact λz=>e (z.symm)];exact ih
theorem all_mk{l:PySem.W.OpenLaw}{w:World}{K:PySem.W.Frag}{h:Heap}{mg:Str->Option Value}{fa:Addr}{Bl Bk xw:Addr}{t0 t1 t2 t3 vA vz t5 vy vx vw t7 pb oZ oY oX:Tok}{Bf:Array (Option Value)}{Bh:Nat}{Be:Array (Option Value)}{Bg:Nat}{NN:Nat}{ni nh:Int}(X:K.In h)(G:h.Ns mainGlobals mg)(MO:mg "law"=some (.ref fa))(I:lF K c0 F Ms top GJ)(e0:PySem.W.nsIn K mainGlobals "LAST_SPOT"=some (some (Value.int 7 t0)))(e1:PySem.W.nsIn K mainGlobals "MOST_COINS"=some (some (Value.int 9 t1)))(e2:PySem.W.nsIn K mainGlobals "LAST_DIE"=some (some (Value.int 99 t2)))(e3:PySem.W.nsIn K mainGlobals "LAST_YEAR"=some (some (Value.int 9999 t3)))(e4:PySem.W.nsIn K mainGlobals "SIDES"=some (some (.ref Bl)))(Oz:K.lookup Bl=some ⟨.type "tuple",none,.seq #[Value.str "lower" vA,Value.str "upper" vz] Bh,Bf⟩)(e5:PySem.W.nsIn K mainGlobals "MOST_ANVILS"=some (some (Value.int 9 t5)))(e6:PySem.W.nsIn K mainGlobals "RULE_WORDS"=some (some (.ref Bk)))(Oy:K.lookup Bk=some ⟨.type "tuple",none,.seq #[Value.str "coin" vy,Value.str "lower" vx,Value.str "upper" vw] Bg,Be⟩)(e7:PySem.W.nsIn K mainGlobals "YEAR_FIELD"=some (some (Value.int 4 t7)))(g0:PySem.W.nsIn K mainGlobals "DIE_FIELDS"=some (some (.ref xw)))(NR:K.lookup xw=some ⟨.type "dict",none,.dict #[⟨ni,Value.str "lower" pb,Value.int 0 oZ⟩,⟨nh,Value.str "upper" oY,Value.int 2 oX⟩] NN,#[]⟩)(pS:ni=PyData.keyHash w.params "lower")(pR:nh=PyData.keyHash w.params "upper")(NM:(xw==sysModules)=false)
  : ∃fd:FuncData,(∀(s:Shared) (v:Value),BindsTo s fd ⟨[v],[]⟩ [("_law_script",v)])/\∀base:Heap,K.In base->base.Ns mainGlobals mg->ie l.prog w K mg base (ky l.prog w) 80 fa fd ["_law_script"] (oQ exc K 1 (b8 T 40 11)):=by
 have A:nu w K mg c0 T:=by
  refine RU I tx X G (λx d hx=>?_) (λx kvs hx=>?_)
  ·have hm:=aP hx;simp only[c0,con,List.mem_cons,List.mem_nil_iff,or_false] at hm;rcases hm with z|z|z|z|z|z|z|z
   ·cases z;exact⟨(.int 7),_,cH X G e0,⟨_,rfl⟩,λ_ _=>.int _⟩
   ·cases z;exact⟨(.int 9),_,cH X G e1,⟨_,rfl⟩,λ_ _=>.int _⟩
   ·cases z;exact⟨(.int 99),_,cH X G e2,⟨_,rfl⟩,λ_ _=>.int _⟩
   ·cases z;exact⟨(.int 9999),_,cH X G e3,⟨_,rfl⟩,λ_ _=>.int _⟩
   ·cases z;exact⟨.ref Bl,_,cH X G e4,rfl,λ_ _=>.tup (vs:=[.str "lower",.str "upper"]) (.inr ⟨_,_,_,Oz,rfl,rfl,rfl,(by show 2<=sizeLine;decide),.cons ⟨_,rfl⟩ (.cons ⟨_,rfl⟩ (.nil))⟩) (.cons (.str _) (.cons (.str _) (.nil)))⟩
   ·cases z;exact⟨(.int 9),_,cH X G e5,⟨_,rfl⟩,λ_ _=>.int _⟩
   ·cases z;exact⟨.ref Bk,_,cH X G e6,rfl,λ_ _=>.tup (vs:=[.str "coin",.str "lower",.str "upper"]) (.inr ⟨_,_,_,Oy,rfl,rfl,rfl,(by show 3<=sizeLine;decide),.cons ⟨_,rfl⟩ (.cons ⟨_,rfl⟩ (.cons ⟨_,rfl⟩ (.nil)))⟩) (.cons (.str _) (.cons (.str _) (.cons (.str _) (.nil))))⟩
   ·cases z;exact⟨(.int 4),_,cH X G e7,⟨_,rfl⟩,λ_ _=>.int _⟩
  ·have hm:=aP hx;simp only[c0,gd,List.mem_cons,List.mem_nil_iff,or_false] at hm;have z:=hm
   ·cases z;have er:sE [⟨ni,Value.str "lower" pb,Value.int 0 oZ⟩,⟨nh,Value.str "upper" oY,Value.int 2 oX⟩] [("lower",.int 0),("upper",.int 2)]:=.cons (v:=.int 0) ⟨_,rfl⟩ (.cons (v:=.int 2) ⟨_,rfl⟩ (.nil));exact⟨xw,_,cH X G g0,⟨_,_,NR,⟨⟨_,_,rfl,pS⟩,⟨⟨_,_,rfl,pR⟩,True.intro⟩⟩,NM,λx=>er.find x⟩,.cons (λ_ _=>.int _) (.cons (λ_ _=>.int _) (.nil))⟩
 obtain⟨f,fd,O,a,t⟩:=Jo I tx _ (aC (i:=59) rfl);cases MO.symm.trans (cH X G a);obtain⟨oc,od,kV,doc,pm,an,fS,ct,mq,rfl,lk,lR⟩:=O.fn.ex;exact⟨_,λs v=>.of_eq rfl,λbase pY FY=>Px pY FY A 40 11 _ _ fa _ rfl O⟩
theorem walk{l:PySem.W.OpenLaw}{q:Program}{loose:List Str}{XP:(Str->Option Value)->Heap->Prop}{YP:World->Heap->Prop}{d:DefRec}{K:Params->PySem.W.Frag}(hn:l.most=some 63)(uV:d.params.defaults=[])(hY:∀(w:World) (h:Heap),YP w h->(K w.params).In h)(F:∀ (w:World) (mg:Str->Option Value) (fa:Addr) (h:Heap),(K w.params).In h->h.Ns mainGlobals mg->mg d.name=some (.ref fa) ->
   ∃ fd:FuncData,(∀ (s:Shared) (u:Value),BindsTo s fd ⟨[u],[]⟩ [("_law_script",u)])/\∀ base:Heap,(K w.params).In base->base.Ns mainGlobals mg->ie l.prog w (K w.params) mg base (ky l.prog w) 80 fa fd ["_law_script"] (oQ exc (K w.params) 1 (b8 T 40 11))) :
  PySem.W.WalkO q loose XP YP l.row.toRowW d [] (λf vs=>PySem.call f vs) :=
 L2.Uo (n:=63) (k:=80) (x:="_law_script") (CX:=λw=>ky l.prog w) (sp:=λw=>oQ exc (K w.params) 1 (b8 T 40 11)) hn ∅ uV ⟨rfl,by decide,by decide⟩ hY F (λw H a ns hl hO hS=>Qi hO hS (a39 (k:=28) ⟨⟨⟨⟨rfl,rfl⟩,rfl,rfl,⟨rfl,rfl⟩,⟨rfl,rfl⟩,rfl,rfl,rfl,rfl,rfl,rfl,rfl,rfl,rfl,rfl,rfl,rfl,rfl,rfl,rfl,rfl⟩,rfl,rfl,rfl⟩,⟨⟨⟨rfl,rfl,rfl,rfl,rfl,rfl,rfl⟩,rfl,rfl⟩,rfl,rfl,rfl,rfl⟩,⟨rfl,rfl⟩,⟨rfl,rfl,rfl⟩,⟨rfl,rfl⟩,⟨rfl,rfl⟩,rfl,rfl,rfl,rfl,rfl,rfl,rfl,rfl,rfl,rfl,rfl,rfl⟩)) λ_ _ _ _ _ ⟨_,_,_,_,_,_,_,z⟩=>z
end Lk
end _X
open _X
open PySem PySem.W PyProof.Rows
set_option maxRecDepth 100000 in
set_option maxHeartbeats 0 in
theorem PySem.Challenge.cw_trussel_k16_whole_counts_of_orders_holds : PySem.Challenge.rw_trussel_k16_whole_counts_of_orders.Holds := by
 w_on;o_law;k_head;(case hw=>w_witness2)
 k_fill
 refine Lk.walk (l:=PySem.Challenge.rw_trussel_k16_whole_counts_of_orders) rfl rfl (fun w h Y=>PySem.W.kIn_of Y) ?F
 case F =>
  intro w mg fa h KX G hmg
  refine' Lk.all_mk KX G hmg ⟨?zz1,?zz2,?zz3,?zz4,?zz5⟩ ?_ ?_ ?_ ?_ ?_ ?_ ?_ ?_ ?_ ?_ ?_ ?_ ?_ ?_ ?_
  (case zz1=>repeat' first | (with_reducible show _=_;k_is) | exact M.PF.nil | apply M.PF.cons)
  (case zz2=>repeat' first | (with_reducible show _=_;k_is) | exact M.PM.nil | apply M.PM.cons)
  (case zz3=>repeat' first | (with_reducible show _=_;k_is) | exact M.PC.nil | apply M.PC.cons)
  (case zz4=>repeat' first | (with_reducible show _=_;k_is) | exact M.PA.nil | apply M.PA.cons)
  (case zz5=>repeat' first | (with_reducible show _=_;k_is) | exact M.PB.nil | apply M.PB.cons)
  all_goals try (with_reducible show _=_;k_is)
  all_goals try ((with_reducible show _=_);rfl)
#print axioms PySem.Challenge.cw_trussel_k16_whole_counts_of_orders_holds
