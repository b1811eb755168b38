import PyProof.Rows.All
import Wide.All
import OpenK.AllK
import Wide.FinOn
import Lean
import PyProof.EqAt
import PyProof.EqKinds
import PyProof.TupleCall
import PySem.Challenge.RW_trussel_k31_whole_coins_read_back
set_option Elab.async false
set_option linter.all false
set_option maxRecDepth 100000
set_option maxHeartbeats 4000000
set_option genInjectivity false
set_option bootstrap.genMatcherCode false
set_option genSizeOf false
local macro_rules|`(def $i:declId $s:optDeclSig $v:declVal)=>`(noncomputable def $i:declId $s:optDeclSig $v:declVal)
structure PySem.W.Fast:Prop where(tw9592559140132754052 tw14300209739067380960 tw3556049034542671070 tw12711978991148823642 tw856445544042471000 tw14365916982604938936 tw13680266710450350117 tw8550814553432206427 tw3398734494114616065 tw11378077318393370831 tw3757278068642731824 tw17019444399722611605 tw17577260062127057027 tw11094615132233553187 tw17588275066673497433 tw7970074616361226519 tw10602717416861050034 tw12289884577364476381 tw14256534420545179480 tw2015518472597247716 tw14486430663675465852 tw4660561443757425636 tw6274404263802918150 tw14183156909926444180 tw8223099878327085349 tw11723555313332247731 tw15235123016104482760 tw15104340107502503874 tw187163765752531022 tw14324102299659126011 tw284952625088872593 tw11579283368027998697 tw13614498714977879573 tw9573188128421112956 tw5275748698272160550 tw1146138811419643964 tw5415217090695869490 tw8153240995655855252 tw12825260393155944652 tw18087302872434355641 tw15369389787929245581 tw17860258686364899158 tw15993933741151104396 tw16285366389904627389 tw10767702463087975075 tw8847976575475772357 tw4590299158395603730 tw12472930764352384074 tw9177954128349777974 tw12059059045557441903 tw6122736233404534644 tw16585914030392374284 tw10993518262288307605 tw17090948971587978166 tw6248825925649411045 tw16783671091384294180 tw10016876480415056427 tw10403560615573072740 tw654743556712985676 tw17217037628664549993 tw7253229382487794955 tw14947429419572318173:True)
namespace _X
local macro_rules|`(tactic|left)=>`(tactic|walk_at"")
local macro_rules|`(())=>`(by omega)
local macro_rules|`(∅)=>`(by decide)
local macro_rules|`(tactic|omega)=>`(tactic|lia)
def BU:=@PySem.W.looks_mroIn
def BV:=@PySem.W.findObj_own
def BW:=@PySem.W.callWith_K0
def BX:=@List.reverse_append
def BY:=@List.length_pos_iff
def BZ:=@List.getElem?_range
def IS:=@PySem.wpAny_onRaise
def IT:=@PySem.wpAny_newList
def IU:=@PySem.wpAny_comprehension_free
def IV:=@PySem.seq_tuple_add
def IW:=@PySem.W.tail_of_in
def IY:=@PySem.W.kitx_tuple
def IZ:=@PySem.W.callWith_K
def Ja:=@PySem.W.Looks.here
def Jb:=@List.getElem?_take
def Jc:=@Array.find?_toList
def Jd:=@Array.append_assoc
def Ym:=@PySem.putSet_of
def Yn:=@PySem.list_append
def Yo:=@PySem.Within.cons
def Yp:=@PySem.W.set_plain
def Yq:=@PySem.W.kitx_list
def Yr:=@PySem.W.kitx_dict
def Ys:=@Nat.lt_succ_of_lt
def Yt:=@Nat.le_of_lt_succ
def Yu:=@List.length_range
def Yv:=@List.foldl_append
def Yw:=@List.all_eq_false
def Zg:=@PyProof.Rows.wpS_reverse
def Zh:=@PySem.seqIndex_neg
def Zi:=@decide_eq_decide
def Zj:=@PySem.concat_meets
def Zk:=@PySem.W.Looks.ld
def Zl:=@PySem.IsL.update
def Zm:=@Option.bind_some
def Zn:=@List.perm_middle
def Zo:=@List.not_mem_nil
def Zq:=@List.ext_getElem
def Zr:=@List.any_eq_true
def Zs:=@PySem.Calls.callWith_builtin
def Zt:=@Array.all_toList
def aA:=@if_neg
def aB:=@List.mem_cons
def aC:=@Nat.ne_of_lt
def aD:=@Nat.le_trans
def aE:=@PySem.mem_of_lookup
def aF:=@if_pos
def aG:=@List.map_cons
def aH:=@List.pairwise_append
def aI:=@Array.toList_append
def aJ:=@List.size_toArray
def aK:=@List.getElem?_append_left
def aL:=@PySem.Heap.get?_update_self
def aM:=@List.mem_append_right
def aN:=@of_decide_eq_true
def aO:=@List.getElem?_set_ne
def aP:=@List.getElem?_map
def aR:=@List.getElem?_set_self
def aS:=@List.length_append
def aT:=@PySem.wpAny_mono
def aW:=@List.mem_map
def aX:=@List.mem_append
def aY:=@PySem.wpAny_holding
def aZ:=@PySem.Obj.data_mapFields
def aa:=@PySem.wpAny_bind
def ae:=@Option.bind_eq_some_iff
def af:=@Option.map_eq_some_iff
def ag:=@PySem.Heap.get?_push_of_some
def ah:=@PySem.wpAny_pure
def ai:=@Nat.le_refl
def aj:=@PySem.Heap.lt_size
def ak:=@PySem.Heap.get?_push_size
def ao:=@PyProof.Rows.wpS_bind
def aq:=@Option.some.inj
def au:=@Nat.lt_of_lt_of_le
def av:=@List.length_map
def ax:=@List.getElem?_eq_some_iff
def ay:=@PyProof.Rows.wpS_pure
def az:=@List.getElem?_eq_getElem
def bC:=@List.length_take
def bD:=@List.all_eq_true
def bG:=@PyProof.Rows.slot_tuple_getitem
def bH:=@List.mem_iff_getElem
def bI:=@Array.perm_iff_toList_perm
def bJ:=@PySem.W.kia_one
def bK:=@Nat.lt_irrefl
def bO:=@PySem.wpAny_callSpecial?_slot
def bQ:=@PySem.wpAny_field
def bS:=@Array.length_toList
def bT:=@PySem.wpAny_call_entry
def bU:=@PySem.Heap.get?_update_other
def bW:=@PySem.W.mg_of
def bX:=@getElem?_pos
def bY:=@Nat.ne_of_gt
def bZ:=@Int.le_of_lt
def bg:=@List.length_cons
def bh:=@decide_eq_true
def bj:=@List.take_append_drop
def bp:=@beq_iff_eq
def bq:=@List.mem_append_left
def bt:=@decide_eq_false
def bu:=@List.map_append
def bw:=@List.append_assoc
def bx:=@PySem.Heap.SameBut.update
def bz:=@List.mem_cons_of_mem
def cA:=@List.mem_singleton
def cB:=@Option.isSome_iff_exists
def cC:=@PySem.Obj.isFreed_of_fields
def cD:=@Nat.le_succ
def cE:=@PySem.wpAny_Call_Name_kw
def cG:=@PySem.wpAny_setField
def cH:=@PySem.Heap.size_push
def cI:=@List.map_map
def cJ:=@Nat.zero_le
def cK:=@List.sum_cons
def cO:=@congrArg
def cP:=@List.mem_cons_self
def cR:=@List.getElem?_eq_none_iff
def cS:=@List.drop_eq_getElem_cons
def cT:=@Bool.eq_iff_iff
def cU:=@PySem.wpAny_seqItems
def cV:=@PySem.wpAny_rule
def cW:=@PySem.F.slot_tuple_iterator_next
def cX:=@Int.toNat_natCast
def cY:=@Array.toList_push
def cg:=@List.getElem?_replicate
def cj:=@Bool.and_eq_true
def cp:=@PyProof.Rows.callWith_type1
def cq:=@Array.size_append
def cu:=@PySem.wpAny_truthy_bool
def cv:=@PySem.wpAny_setState_of
def cw:=@PySem.wpAny_newObj_type
def dB:=@List.Perm.append_left
def dG:=@List.mem_of_getElem?
def dH:=@List.getElem?_append_right
def dI:=@Array.getElem?_eq_some_iff
def dO:=@PySem.wpAny_pyIter_list
def dP:=@List.pairwise_iff_getElem
def dQ:=@List.map_congr_left
def dR:=@List.filterMap_cons
def dS:=@PySem.wpAny_of_eq
def dU:=@PySem.Str.cps_append
def dY:=@List.length_set
def dZ:=@List.append_nil
def da:=@PyProof.Rows.wpS_forRange
def df:=@beq_eq_false_iff_ne
def dg:=@Ne.symm
def dh:=@List.take_length
def dj:=@List.lookup_cons
def dr:=@PySem.W.cellsFrom_some
def du:=@Nat.lt_trans
def dw:=@Nat.le_of_lt
def dy:=@List.take_of_length_le
def eK:=@PySem.wpAny_standAt
def eL:=@PySem.F.plainAttrs_str
def eM:=@Nat.le_of_eq
def eN:=@List.nodup_append
def eO:=@List.mapM_cons
def eP:=@Int.le_trans
def eQ:=@PySem.codeAny_builtin
def eT:=@PySem.wpAny_setField_rec
def eU:=@PySem.call_meets
def eY:=@PySem.F.slot_zip_next
def eZ:=@Array.getElem_eq_getD
def ef:=@PySem.wpAny_typeOf
def eg:=@Nat.lt_of_le_of_lt
def eh:=@List.pairwise_cons
def ei:=@Bool.false_ne_true
def fA:=@List.mem_filter
def fB:=@List.foldl_cons
def fH:=@PySem.StrLaws.glued_eq_join
def fK:=@PySem.wpAny_isInstance
def fM:=@PySem.typeIs_str
def fR:=@PySem.wpAny_attempt
def fU:=@PySem.sizeLine_eq
def fV:=@List.mem_filterMap
def fW:=@List.drop_drop
def fX:=@Int.not_lt
def fY:=@Int.emod_lt_of_pos
def fb:=@Array.getElem?_toList
def ff:=@List.mem_reverse
def fg:=@List.getElem_mem
def fm:=@PySem.wpAny_loadPart_at
def fo:=@PySem.codeAny_mono
def fq:=@PySem.W.looks_findIn
def ft:=@List.mem_of_mem_take
def fu:=@List.mem_of_mem_drop
def fz:=@List.nodup_cons
def gF:=@List.reverse_cons
def gG:=@Int.le_refl
def gH:=@PySem.F.args_tuple_add_2
def gS:=@PySem.tupleKind_room_in1
def gT:=@PySem.W.any_some
def gU:=@PySem.F.plainAttrs_list
def gW:=@PySem.F.entry_tuple_add
def gX:=@List.filter_cons
def gY:=@List.eraseIdx_cons_succ
def gZ:=@Int.eq_ofNat_of_zero_le
def gu:=@PySem.wpAny_passesOwn
def iA:=@Int.emod_nonneg
def iB:=@Bool.or_eq_true
def iC:=@Array.size_push
def iD:=@PySem.ofString_length
def iE:=@Nat.eq_of_beq_eq_true
def iF:=@List.perm_append_comm
def iG:=@List.pairwise_reverse
def iH:=@List.length_singleton
def iJ:=@List.length_replicate
def iK:=@List.getElem?_eq_none
def iT:=@List.Perm.refl
def iU:=@Array.toList_reverse
def iV:=@Array.toList_extract
def ie:=@PySem.F.slot_tuple_add
def ig:=@List.drop_eq_nil_of_le
def ij:=@List.Perm.append_right
def iy:=@PySem.Obj.cls_mapFields
def iz:=@Nat.min_eq_left
def jR:=@PySem.F.entry_tuple_iterator_next
def jS:=@List.findIdx?_eq_some_iff_getElem
def jY:=@PySem.isSubtype_type
def jZ:=@PySem.codeAny_call_builtin
def ja:=@PyProof.Rows.K_mirror_equal
def jd:=@PySem.wpAny_call
def je:=@PySem.W.looks_clsIn
def jf:=@PySem.W.hideAll_get
def jg:=@PyProof.Rows.F.entry_set_update_loop
def jq:=@List.any_cons
def jv:=@PySem.W.of_hideAll
def jw:=@PySem.W.isNs_of_in
def jx:=@PySem.F.args_tuple_iterator_next_1
def jy:=@List.map_singleton
def jz:=@List.contains_cons
def kA:=@List.eraseIdx_eq_take_drop_succ
def kJ:=@Nat.lt_succ_self
def kK:=@List.length_drop
def kL:=@PySem.Heap.get?_update_ne
def ka:=@Option.isSome_map
def kc:=@Nat.lt_trichotomy
def ke:=@List.reverse_perm
def kf:=@List.ext_getElem?
def kh:=@List.all_map
def ki:=@PySem.Heap.get?_none_of_le
def kj:=@PySem.Calls.evalArgs_plain
def lF:=@PySem.wpAny_pyIter_tuple
def lG:=@PySem.StrLaws.join_split
def lH:=@PyProof.Rows.boot_isinstance
def lI:=@List.of_mem_zip
def lJ:=@PySem.F.args_str_split_2
def lK:=@PySem.Code.quiet_builtin
def lL:=@Array.Perm.refl
def la:=@PyProof.Rows.wpS_modify
def lb:=@PyProof.Rows.wpS_get
def lg:=@PySem.plainId_quiet
def lh:=@PySem.Paired.length
def lj:=@List.eq_nil_of_length_eq_zero
def mK:=@PySem.StrLaws.subAt_one
def mL:=@PySem.F.excBase_ValueError
def mM:=@Option.ne_none_iff_exists'
def mO:=@Nat.not_lt
def mP:=@Nat.length_toDigits_le_iff
def mQ:=@List.take_succ
def mR:=@List.length_eraseIdx_of_lt
def mS:=@PySem.F.entry_str_split
def nK:=@PyProof.Rows.wpS_lift
def nL:=@PySem.plainObj_wpAny_Assign_Attribute
def nM:=@Array.getElem?_eq_getElem
def oj:=@PySem.noFill_tuple_add
def om:=@PySem.int_text_length_le
def oo:=@List.getElem?_take_of_lt
def oq:=@List.cons.inj
def ot:=@PySem.F.slot_str_split
def pN:=@PySem.F.args_zip_next_1
def pO:=@PyProof.Rows.boot_tuple
def pP:=@Nat.toDigits_of_lt_base
def pQ:=@List.length_eq_zero_iff
def qY:=@PySem.wpAny_execs_nil
def qZ:=@PySem.codeAny_of_tree
def rf:=@PySem.W.funFrames_hide
def rg:=@PySem.F.entry_zip_next
def rh:=@PyProof.Rows.split_pos
def rj:=@PyProof.Rows.boot_list
def rm:=@List.set_set
def rn:=@List.pairwise_lt_range
def rp:=@List.map_set
def rq:=@Bool.or_true
def rz:=@Array.getElem?_eq_none
def uL:=@PyProof.Rows.boot_str
def uM:=@PyProof.Rows.boot_int
def uN:=@Nat.le_of_ble_eq_true
def uO:=@List.mem_iff_getElem?
def xb:=@PySem.intKind_is
def xc:=@PySem.Walks.list
def xf:=@PySem.W.hideAll_none
def xg:=@Prod.ext
def xh:=@Nat.pow_le_pow_right
def xi:=@List.map_id
def xj:=@List.getElem?_append
def xk:=@PySem.Calls.Name_function_global
namespace L2
open PySem PySem.Spec PyProof.Rows
variable{xs vs:List V}{us:List Value}{H H':Hp}{a b f C dx:Addr}{o:HO}{u:Value}{P:Program}{w:World}{h h' base:Heap}{α:Type}{x:Str}{e c tg:Expr}{X:Cx}{pins:List (Addr×Obj)}{U:St}{s:Shared}{t' i k:Nat}{ch fp:List Addr}{N ps:List Str}{M:Model}{A:Around}{E Q:Value->Shared->Prop}{v:V}{t:TA}{ta tb te:TE}{pos p:Pos}{K:PySem.W.Frag}{es:List Expr}{op:CmpOp}{r:R2}{fd:FuncData}{CX:lE}{sp:Sp}
noncomputable abbrev Key:=Sum Int Str
def T7:Key->Value->Bool
 |.inl k,v=>Value.isInt k v
 |.inr x,v=>Value.isStrOf x v
def QY(w:World):Key->Int
 |.inl k=>hashInt k
 |.inr x=>hashStr w x
theorem l3:∀{k:Key} {v:Value},T7 k v=true->(∃i t,k=Sum.inl i/\v=Value.int i t)\/(∃x t,k=Sum.inr x/\v=Value.str x t)
 |.inl i,v,h=>by
  obtain⟨t,e⟩:=Value.isInt_shape h;exact .inl ⟨i,t,rfl,e⟩
 |.inr x,v,h=>by
  obtain⟨t,e⟩:=Value.isStrOf_shape h;exact .inr ⟨x,t,rfl,e⟩
theorem Vy(i:Int)(t:Tok):T7 (.inl i) (.int i t)=true:=by simp[T7,Value.isInt]
theorem Vz(x:Str)(t:Tok):T7 (.inr x) (.str x t)=true:=by simp[T7,Value.isStrOf]
theorem Mt(a b:Int):decide ((Sum.inl a:Key)=Sum.inl b)=(a==b):=by
 by_cases e:a=b
 ·subst e;simp
 ·have h:¬(Sum.inl a:Key)=Sum.inl b:=λq=>e (Sum.inl.inj q);rw[bt h];exact(df.mpr e).symm
theorem Mw(a b:Str):decide ((Sum.inr a:Key)=Sum.inr b)=decide (a=b):=by
 simp
theorem Mu(a:Int)(b:Str):decide ((Sum.inl a:Key)=Sum.inr b)=false:=bt (λq=>nomatch q)
theorem Mv(a:Str)(b:Int):decide ((Sum.inr a:Key)=Sum.inl b)=false:=bt (λq=>nomatch q)
def l9(prog:Program)(w:World):PySem.KeyKind prog w Key where
 is:=T7
 hash:=QY w
 inj:=λv a b ha hb=>by
  rcases l3 ha with⟨i,t,rfl,rfl⟩|⟨x,t,rfl,rfl⟩
  ·rcases l3 hb with⟨j,u,rfl,e⟩|⟨y,u,rfl,e⟩
   ·injection e with e1 _;rw[e1]
   ·exact nomatch e
  ·rcases l3 hb with⟨j,u,rfl,e⟩|⟨y,u,rfl,e⟩
   ·exact nomatch e
   ·injection e with e1 _;rw[e1]
 byValue:=λk v h=>by
  rcases l3 h with⟨i,t,rfl,rfl⟩|⟨x,t,rfl,rfl⟩<;>rfl
 pyHash:=λhv h=>by
  rcases l3 hv with⟨i,t,rfl,rfl⟩|⟨x,t,rfl,rfl⟩
  ·exact wpAny_pyHash_int h
  ·exact wpAny_pyHash_str h
 eqBool:=λhu hv h=>by
  rcases l3 hu with⟨i,t,rfl,rfl⟩|⟨x,t,rfl,rfl⟩
  ·rcases l3 hv with⟨j,u,rfl,rfl⟩|⟨y,u,rfl,rfl⟩
   ·rw[Mt] at h;exact wpAny_eqBool_int h
   ·rw[Mu] at h;exact SeqAt.EqAt.int_str i t y u _ _ _ _ h
  ·rcases l3 hv with⟨j,u,rfl,rfl⟩|⟨y,u,rfl,rfl⟩
   ·rw[Mv] at h;exact SeqAt.EqAt.str_int x t j u _ _ _ _ h
   ·rw[Mw] at h;exact wpAny_eqBool_str h
 «strs»:=λk x t v h=>by
  rcases l3 h with⟨i,u,rfl,e⟩|⟨y,u,rfl,e⟩
  ·exact nomatch e
  ·injection e with e1 _;subst e1;cases v<;>rfl
theorem WE(prog:Program)(w:World)(k:Key)(v:Value):(l9 prog w).is k v=T7 k v:=rfl
theorem Xd(prog:Program)(w:World)(i:Int)(t:Tok):(l9 prog w).is (.inl i) (.int i t)=true:=Vy i t
theorem Xe(prog:Program)(w:World)(x:Str)(t:Tok):(l9 prog w).is (.inr x) (.str x t)=true:=Vz x t
set_option genInjectivity true in
inductive V where
 |bA|bl (b:Bool)|int (i:Int)|str (x:Str)|kG (b:Array UInt8)|pB (b:UInt64)|ref (a:Addr)|ty (n:String)
 deriving DecidableEq
def RelV:V->Value->Prop
 |.bA,u=>u=Value.none
 |.bl b,u=>u=Value.bool b
 |.int i,u=>∃t,u=Value.int i t
 |.str x,u=>∃t,u=Value.str x t
 |.kG b,u=>∃t,u=Value.bytes b t
 |.pB b,u=>∃t,u=Value.float b t
 |.ref a,u=>u=Value.ref a
 |.ty n,u=>u=Value.type n
noncomputable abbrev Vals:List V->List Value->Prop:=Paired RelV
theorem Vals.length{xs:List V}{us:List Value}(r:Vals xs us):xs.length=us.length:=lh r
theorem Vals.get:∀{xs:List V} {us:List Value} {i:Nat} {x:V},Vals xs us->xs[i]?=some x->∃u,us[i]?=some u/\RelV x u
 |_,_,_,_,.nil,e=>by simp at e
 |_,_,0,_,.cons r _,e=>by simp at e;subst e;exact⟨_,rfl,r⟩
 |_,_,i+1,x,.cons _ t,e=>by
  obtain⟨u,h1,h2⟩:=Vals.get t (by simpa using e);exact⟨u,by simpa using h1,h2⟩
theorem Vals.set{x:V}{u:Value}(r:RelV x u):∀{xs:List V} {us:List Value} (i:Nat),Vals xs us->Vals (xs.set i x) (us.set i u)
 |_,_,_,.nil=>.nil
 |_,_,0,.cons _ t=>.cons r t
 |_,_,i+1,.cons q t=>.cons q (Vals.set r i t)
theorem Vals.append{ys:List V}{ws:List Value}(h:Vals xs us)(s:Vals ys ws):Vals (xs++ys) (us++ws):=by
 induction h with
 |nil=>exact s
 |cons r t ih=>exact .cons r ih
theorem Vals.take:∀{xs:List V} {us:List Value} (n:Nat),Vals xs us->Vals (xs.take n) (us.take n)
 |_,_,0,_=>.nil
 |_,_,_+1,.nil=>.nil
 |_,_,n+1,.cons r t=>.cons r (Vals.take n t)
theorem Vals.drop:∀{xs:List V} {us:List Value} (n:Nat),Vals xs us->Vals (xs.drop n) (us.drop n)
 |_,_,0,r=>r
 |_,_,_+1,.nil=>.nil
 |_,_,n+1,.cons _ t=>Vals.drop n t
def A9:Option V->Option Value->Prop
 |some v,some u=>RelV v u
 |none,none=>True
 |_,_=>False
def KV{κ:Type}:List (κ×V)->List (κ×Value)->Prop:=Paired λ(p:κ×V) (q:κ×Value)=>p.1=q.1/\RelV p.2 q.2
def kV:Key->V
 |.inl i=>.int i
 |.inr x=>.str x
inductive HO where
 |lst (xs:List V)
 |tup (xs:List V)
 |dK (aU:List (Key×V))|dT (aU:List (List Key×V))
 |set (S:Int->Bool) (n:Nat)
 |ins (C dx:Addr) (fs:List (Str×V))
 |own (x:Addr)
 |xd (fs:List (Str×V))
 |met (f x:Addr)
 |lu (lo hi:Int)
 |jm (o:Obj) (u:HO)
 |nO (ps:Array Value)
 |ext (φ:Heap->Prop)
noncomputable abbrev Hp:=Addr->Option HO
def upd(H:Hp)(a:Addr)(o:HO):Hp:=λb=>if b=a then some o else H b
theorem i3:upd H a o a=some o:=by unfold upd;rw[aF rfl]
theorem c7(h:b≠a):upd H a o b=H b:=by unfold upd;rw[aA h]
theorem SQ{u:HO}(h:H a=some o)(h':H b=some u)(d:o≠u):a≠b:=by
 intro e;subst e;rw[h] at h';exact d (aq h')
theorem i7(h:H a=some o)(h':H b=none):a≠b:=by
 intro e;simp_all
def H9(h:Heap)(a:Addr)(items:Array Value):Prop:=∃o,h.get? a=some o/\o.cls=.type "tuple"/\(∃n,o.data=.seq items n)/\o.dict=none
theorem H9.tup{h:Heap}{a:Addr}{items:Array Value}(x:H9 h a items):IsTup h a items:=let ⟨o,e,c,d,_⟩:=x;⟨o,e,c,d⟩
theorem H9.new(h:Heap)(items:Array Value):H9 (h.push { cls:=.type "tuple",data:=.seq items }) h.objs.size items:=⟨_,ak _ rfl,rfl,⟨_,rfl⟩,rfl⟩
section
variable(P:Program)(w:World)
def j3(H:Hp)(h:Heap)(a:Addr):HO->Prop
 |.lst xs=>xs.length<=sizeLine/\∃(bf:List Value) (n:Nat),Vals xs bf/\h.get? a=some { cls:=.type "list",data:=.seq bf.toArray n }
 |.tup xs=>xs.length<=sizeLine/\∃bf:List Value,Vals xs bf/\H9 h a bf.toArray
 |.dK aU=>aU.length<=sizeLine/\(a==sysModules)=false/\∃vs,KV aU vs/\h.DictOf (l9 P w) a vs
 |.dT aU=>aU.length<=sizeLine/\(a==sysModules)=false/\∃xs:List (List Key×Addr×Value),
   Paired (λ(p:List Key×V) (q:List Key×Addr×Value)=>p.1=q.1/\H q.2.1=some (.tup (p.1.map kV))/\RelV p.2 q.2.2) aU xs /\
   ∃o es ep,h.get? a=some o/\o.ExactDict/\o.data=.dict es ep/\es.toList=xs.map (entryOfKey (tupleKind (l9 P w)))/\(xs.map (·.1)).Nodup
 |.set S n=>h.SetOf (intKind P w) a S n
 |.ins C dx fs=>H dx=some (.own a)/\fs.length<=1000/\dx≠a/\h.get? a=some (PySem.W.instObj C dx) /\
   ∃mA,h.Ns1 dx mA/\(∀f,A9 (fs.lookup f) (mA f))/\PySem.Within mA (fs.map (·.1))
 |.own _=>∃o,h.get? a=some o
 |.xd fs=>∃mA,h.Ns1 a mA/\∀f,A9 (fs.lookup f) (mA f)
 |.lu lo hi=>∃t u v,h.get? a=some { cls:=.type "range",data:=.fields #[.int lo t,.int hi u,.int 1 v] }
 |.jm o u=>h.get? a=some o/\j3 H h a u
 |.nO ps=>h.get? a=some { cls:=.none,data:=.fields ps }
 |.met f x=>h.get? a=some (PySem.W.methodObj (.ref f) (.ref x))
 |.ext φ=>φ h/\(∃o,h.get? a=some o)/\∀h1 h2:Heap,φ h1->(∀o,h1.get? a=some o->h2.get? a=some o)->φ h2
def fG(H:Hp)(h:Heap):Prop:=∀a o,H a=some o->j3 P w H h a o
end
theorem j3.lt(x:j3 P w H h a o):a<h.objs.size:=by
 cases o with
 |lst xs=>obtain⟨_,_,_,_,e⟩:=x;exact aj e
 |tup xs=>obtain⟨_,_,_,p⟩:=x;exact p.tup.lt
 |dK aU=>obtain⟨_,_,_,_,o,_,_,e,_⟩:=x;exact aj e
 |dT aU=>obtain⟨_,_,_,_,o,_,_,e,_⟩:=x;exact aj e
 |set S n=>obtain⟨o,_,_,_,e,_⟩:=x;exact aj e
 |ins C dx fs=>obtain⟨_,_,_,e,_⟩:=x;exact aj e
 |own y=>obtain⟨_,e⟩:=x;exact aj e
 |xd fs=>obtain⟨_,⟨_,_,_,e,_⟩,_⟩:=x;exact aj e
 |lu lo hi=>obtain⟨_,_,_,e⟩:=x;exact aj e
 |jm ob u=>obtain⟨e,_⟩:=x;exact aj e
 |nO ps=>exact aj (show h.get? a=some _ from x)
 |met f y=>exact aj (show h.get? a=some _ from x)
 |ext φ=>obtain⟨_,⟨_,e⟩,_⟩:=x;exact aj e
theorem Paired.DW{β:Type}{F G:α->β->Prop}{sG:List α}{sE:List β}(h:Paired F sG sE)(f:∀a b,F a b->G a b):Paired G sG sE:=by
 induction h with
 |nil=>exact .nil
 |cons r t ih=>exact .cons (f _ _ r) ih
theorem j3.v8(x:j3 P w H h a o)(k:∀b u,(b=a\/H b=some (.own a))->h.get? b=some u->h'.get? b=some u)(ho:∀b,H b=some (.own a)->H' b=some (.own a))(ht:∀b xs,H b=some (.tup xs)->H' b=some (.tup xs)):j3 P w H' h' a o:=by
 induction o with
 |lst xs=>obtain⟨z,bf,n,r,e⟩:=x;exact⟨z,bf,n,r,k _ _ (.inl rfl) e⟩
 |tup xs=>obtain⟨z,bf,r,ob,e,c⟩:=x;exact⟨z,bf,r,ob,k _ _ (.inl rfl) e,c⟩
 |dK aU=>obtain⟨z,y,vs,r,ob,es,ep,e,c⟩:=x;exact⟨z,y,vs,r,ob,es,ep,k _ _ (.inl rfl) e,c⟩
 |dT aU =>
  obtain⟨z,y,xs,r,ob,es,ep,e,c⟩:=x;exact⟨z,y,xs,Paired.DW r λp q z=>⟨z.1,ht _ _ z.2.1,z.2.2⟩,ob,es,ep,k _ _ (.inl rfl) e,c⟩
 |set S n=>obtain⟨ob,es,ep,t,e,c⟩:=x;exact⟨ob,es,ep,t,k _ _ (.inl rfl) e,c⟩
 |ins C dx fs =>
  obtain⟨d,z,ne,e,mA,⟨od,es,ep,e2,c⟩,r⟩:=x;exact⟨ho _ d,z,ne,k _ _ (.inl rfl) e,mA,⟨od,es,ep,k _ _ (.inr d) e2,c⟩,r⟩
 |own y=>obtain⟨ob,e⟩:=x;exact⟨ob,k _ _ (.inl rfl) e⟩
 |xd fs=>obtain⟨mA,⟨od,es,ep,e,c⟩,r⟩:=x;exact⟨mA,⟨od,es,ep,k _ _ (.inl rfl) e,c⟩,r⟩
 |lu lo hi=>obtain⟨t,u,v,e⟩:=x;exact⟨t,u,v,k _ _ (.inl rfl) e⟩
 |jm ob u ih=>obtain⟨e,q⟩:=x;exact⟨k _ _ (.inl rfl) e,ih q⟩
 |nO ps =>
  have e:=x;exact k a _ (.inl rfl) e
 |met f y =>
  have e:=x;exact k a _ (.inl rfl) e
 |ext φ=>obtain⟨p,⟨o,e⟩,st⟩:=x;exact⟨st _ _ p λo q=>k _ _ (.inl rfl) q,⟨o,k _ _ (.inl rfl) e⟩,st⟩
theorem fG.lt(x:fG P w H h)(e:H a=some o):a<h.objs.size:=(x a o e).lt
theorem fG.fresh(x:fG P w H h)(e:h.objs.size<=a):H a=none:=by
 cases q:H a with
 |none=>rfl
 |some u=>exact absurd (au (x.lt q) e) (bK _)
theorem fG.kept(x:fG P w H h)(k:∀b u,h.get? b=some u->h'.get? b=some u):fG P w H h':=λa o e =>
 (x a o e).v8 (λb u _ q=>k b u q) (λ_ q=>q) λ_ _ q=>q
theorem fG.laid(x:fG P w H h)(k:∀b u,h.get? b=some u->h'.get? b=some u)(hp:h.objs.size<=a)(new:j3 P w (upd H a o) h' a o):fG P w (upd H a o) h':=λb u e=>by
 have hn:=x.fresh hp;by_cases hb:b=a
 ·subst hb;rw[i3] at e;simp_all
 ·rw[c7 hb] at e;exact(x b u e).v8 (λc v _ q=>k c v q) (λc q=>by rw[c7 (i7 q hn)];exact q) λc xs q=>by rw[c7 (i7 q hn)];exact q
def Rd(H:Hp)(a:Addr)(u:HO):Prop:=H a=some u\/∃o,H a=some (.jm o u)
theorem Rd.ok{u:HO}(r:Rd H a u)(x:fG P w H h):j3 P w H h a u:=by
 rcases r with r|⟨o,r⟩
 ·exact x a u r
 ·obtain⟨_,q⟩:=x a _ r;exact q
def uH:Option HO->Prop
 |some (.lst _)=>True
 |some (.dK _)=>True
 |some (.dT _)=>True
 |some (.set _ _)=>True
 |some (.ins _ _ _)=>True
 |some (.ext _)=>True
 |_=>False
section
variable{x e:Addr}{o':HO}
theorem fG.write(ok:fG P w H h)(mu:uH (H x))(he:e=x\/H e=some (.own x))(k:∀b u,b≠e->h.get? b=some u->h'.get? b=some u)(tq:∃u,h'.get? e=some u)(new:j3 P w (upd H x o') h' x o'):fG P w (upd H x o') h':=λb u q=>by
 have sh:∀c y,H c=some (.own y)->c≠x:=λc y r z=>by subst z;rw[r] at mu;exact mu
 have xI:∀c xs,H c=some (.tup xs)->c≠x:=λc xs r z=>by subst z;rw[r] at mu;exact mu
 by_cases hb:b=x
 ·subst hb;rw[i3] at q;cases q;exact new
 ·rw[c7 hb] at q;by_cases qh:b=e
  ·have q':H b=some (.own x):=by
    rcases he with z|z
    ·exact absurd (qh.trans z) hb
    ·rw[qh];exact z
   rw[q] at q';cases q';obtain⟨v,hv⟩:=tq;exact⟨v,by rw[qh];exact hv⟩
  ·refine(ok b u q).v8 (λc v hc r=>k c v ?_ r) (λc r=>by rw[c7 (sh c b r)];exact r) λc xs r=>by rw[c7 (xI c xs r)];exact r
   rcases hc with rfl|hc
   ·exact qh
   ·rintro rfl;rcases he with z|z
    ·exact sh c b hc z
    ·rw[hc] at z;cases z;exact hb rfl
end
structure Un(fs ex:List Addr)(H H':Hp)(h h':Heap):Prop where
 keep:∀b o,h.get? b=some o->H b=none->b∉fs->b∉ex->h'.get? b=some o
 slot:∀b o,h.get? b=some o->H b=none->b∈fs->b∉ex->∃sl,h'.get? b=some { o with slots:=sl }
 free:∀b o,h.get? b=some o->H b=none->b∉ex->H' b=none
 there:∀b o,h.get? b=some o->b∉ex->∃o',h'.get? b=some o'
 gz:∀b xs,H b=some (.tup xs)->H' b=some (.tup xs)
 gi:∀b o u,H b=some (.jm o u)->H' b=some (.jm o u)
 gA:∀b ps,H b=some (.nO ps)->∃more,H' b=some (.nO (ps++more))
section
variable{fs ex:List Addr}{H1:Hp}{h1:Heap}{x e:Addr}
theorem Un.any(u:Un fs ex H H1 h h1){ob:Obj}(q:h.get? b=some ob)(n:H b=none)(hx:b∉ex):∃sl,h1.get? b=some { ob with slots:=sl }:=by
 by_cases hb:b∈fs
 ·exact u.slot b ob q n hb hx
 ·exact⟨ob.slots,u.keep b ob q n hb hx⟩
theorem Un.kept(k:∀b u,h.get? b=some u->h'.get? b=some u):Un fs ex H H h h' :=
 ⟨λb ob q _ _ _=>k b ob q,λb ob q _ _ _=>⟨ob.slots,k b ob q⟩,λ_ _ _ n _=>n,λb ob q _=>⟨ob,k b ob q⟩,λ_ _ q=>q,λ_ _ _ q=>q,λ_ ps q=>⟨#[],by rw[q];simp⟩⟩
theorem Un.refl:Un fs ex H H h h:=Un.kept λ_ _ q=>q
theorem Un.laid(k:∀b u,h.get? b=some u->h'.get? b=some u)(hp:h.objs.size<=a)(hn:H a=none):Un fs ex H (upd H a o) h h' where
 keep:=λb u q _ _ _=>k b u q
 slot:=λb u q _ _ _=>⟨u.slots,k b u q⟩
 free:=λb u q n _=>by rw[c7 (aC (au (aj q) hp))];exact n
 there:=λb u q _=>⟨u,k b u q⟩
 gz:=λb xs q=>by rw[c7 (i7 q hn)];exact q
 gi:=λb u xs q=>by rw[c7 (i7 q hn)];exact q
 gA:=λb ps q=>⟨#[],by rw[c7 (i7 q hn),q];simp⟩
theorem Un.write(mu:uH (H x))(he:e=x\/H e=some (.own x))(k:∀b u,b≠e->h.get? b=some u->h'.get? b=some u)(tq:∃u,h'.get? e=some u):Un fs ex H (upd H x o) h h':=by
 have hx:∀b,H b=none->b≠x:=λb n z=>by subst z;rw[n] at mu;exact mu
 have hb:∀b,H b=none->b≠e:=λb n z=>by
  simp_all
 have hm:∀b u,H b=some u->¬uH (some u)->b≠x:=λb u q nm z=>by simp_all
 refine ⟨λb u q n _ _=>k b u (hb b n) q,λb u q n _ _=>⟨u.slots,k b u (hb b n) q⟩,λb u q n _=>by rw [c7 (hx b n)];exact n,λb u q _=>?_,
  λb xs q=>by rw [c7 (hm b _ q λz=>z)];exact q,λb u xs q=>by rw [c7 (hm b _ q λz=>z)];exact q,λb ps q=>⟨#[],by rw [c7 (hm b _ q λz=>z),q];simp⟩⟩
 by_cases qh:b=e
 ·simp_all
 ·exact⟨u,k b u qh q⟩
end
def mX(h:Heap)(H:Hp):List Addr:=(List.range h.objs.size).filter λa=>(H a).isSome
def T8(h:Heap)(H:Hp):Heap:=PySem.W.hideAll h (mX h H)
theorem Vp(h:Heap)(H:Hp):(T8 h H).objs.size=h.objs.size:=PySem.W.hideAll_size _ _
theorem XB{o:Obj}(e:h.get? b=some o)(n:H b=none):(T8 h H).get? b=some o :=
 jf _ e λhm=>by
  have q:=(fA.mp hm).2;rw[n] at q;simp at q
theorem Pl{o:Obj}(e:(T8 h H).get? b=some o):h.get? b=some o/\H b=none:=by
 have e':=jv (mX h H) e;refine⟨e',?_⟩;cases q:H b with
 |none=>rfl
 |some x =>
  have hm:b∈mX h H:=fA.mpr ⟨List.mem_range.mpr (aj e'),by simp[q]⟩;have z:(T8 h H).get? b=none:=xf (mX h H) hm
  simp_all
structure Mod(K:PySem.W.Frag)(mg:Str->Option Value)(base:Heap):Prop where
 kR:K.In base
 glob:base.Ns mainGlobals mg
 blt:∃mb,base.Ns builtinsNs mb/\∀x:Str,x≠"__name__"->mb x=bootBuiltins x
 nolimit:base.NoLimit
structure Cx where
 prog:Program
 w:World
 K:PySem.W.Frag
 mg:Str->Option Value
 base:Heap
 A:Around
 N:List Str
 cF:Shared
 iS:Hp
 env:Env
 outer:List Env
 stack:List Env
 ex:List Addr
 fn:Str->Bool
 calm:Bool
 pn:List (Addr×Obj)
 xe:Value->Shared->Prop
 sg:Option (List (Option V)):=none
def Cx.Nd(X:Cx):Prop:=X.N.Nodup/\X.sg=none
def eR(l:List Env):List Addr:=l.filterMap (·.frame)
noncomputable abbrev Cx.fs(X:Cx):List Addr:=eR X.outer
def wX(sc:Scope)(x:Str):Prop:=sc.names.lookup x=some .local\/sc.names.lookup x=some .cell\/sc.names.lookup x=some .free
def Loc(sc:Scope)(x:Str):Prop:=sc.names.lookup x=some .local\/sc.names.lookup x=some .cell
def Look(env:Env)(h:Heap)(m:Str->Option Value)(x:Str)(u:Value):Prop :=
 (env.kindOf x=some .local/\m x=some u)\/((env.kindOf x=some .cell\/env.kindOf x=some .free)/\∃c,env.cells.lookup x=some c/\h.IsCell c (some u))
structure Cx.Ok(X:Cx):Prop where
 mod:Mod X.K X.mg X.base
 kind:X.env.scope.kind=.function
 glob:X.env.globals=mainGlobals
 blt:X.env.builtins=builtinsNs
 above:X.cF.heap.objs.size<=X.env.locals
 inj:∀x y c,X.env.cells.lookup x=some c->X.env.cells.lookup y=some c->x=y
 has:∀x,(X.env.kindOf x=some .cell\/X.env.kindOf x=some .free)->∃c,X.env.cells.lookup x=some c
 og:∀x c,X.fn x=true->X.env.cells.lookup x=some c->X.cF.heap.objs.size<=c
 hd:X.calm=true->X.A.handled=none
 frames:X.A.frames=some X.stack
 oG:X.stack=X.outer\/(X.stack=X.env::X.outer/\X.env.frame=some X.env.locals)
 tL:∀b∈X.ex,b≠X.env.locals/\∀x c,X.env.cells.lookup x=some c->c≠b
 bs:∀b o,X.base.get? b=some o->X.cF.heap.get? b=some o/\X.iS b=none
 mh:X.base.objs.size<=X.cF.heap.objs.size
 jE:∀b o,X.base.get? b=some o->b∉X.ex
 ky:∀b∈X.ex,b∉X.fs
 E2:X.cF.heap.FunFrames X.base X.outer
 mG:∀b∈X.fs,X.iS b=none
structure Inv(X:Cx)(pins:List (Addr×Obj))(U:List (Option V))(H:Hp)(s:Shared):Prop where
 ok:X.Ok
 os:s.os=X.cF.os
 bare:AllBare s.gens
 base:Un X.fs X.ex X.iS H X.cF.heap s.heap
 loc:∃m,s.heap.Ns X.env.locals m/\∀(i:Nat) (x:Str) (v:V),X.N[i]?=some x->U[i]?=some (some v)->wX X.env.scope x->∃u,RelV v u/\Look X.env s.heap m x u
 cell:∀x c,X.env.cells.lookup x=some c->∃v,s.heap.IsCell c v
 free:H X.env.locals=none
 dF:∀x c,X.env.cells.lookup x=some c->H c=none
 pin:∀p∈X.pn++pins,s.heap.get? p.1=some p.2/\H p.1=none/\p.1≠X.env.locals/\p.1∉X.fs/\∀v,p.2.data≠.cell v
 bB:fG X.prog X.w H s.heap
 len:U.length=X.N.length
 sg:∀cM,X.sg=some cM->U=cM
section
variable{U:List (Option V)}
theorem Cx.Ok.Rn(ok:X.Ok){o:Obj}(e:X.base.get? b=some o):b∉X.fs:=λhb=>by
 have:=(ok.E2.mem hb).1
 simp_all
theorem Inv.bs(I:Inv X pins U H s):∀b o,X.base.get? b=some o->s.heap.get? b=some o/\H b=none:=λb o e =>
 ⟨I.base.keep b o (I.ok.bs b o e).1 (I.ok.bs b o e).2 (I.ok.Rn e) (I.ok.jE b o e),I.base.free b o (I.ok.bs b o e).1 (I.ok.bs b o e).2 (I.ok.jE b o e)⟩
theorem Inv.bk(I:Inv X pins U H s):∀b o,X.base.get? b=some o->s.heap.get? b=some o:=λb o e=>(I.bs b o e).1
theorem Inv.mod(I:Inv X pins U H s):Mod X.K X.mg X.base:=I.ok.mod
theorem Inv.gC(I:Inv X pins U H s):X.K.In s.heap:=I.ok.mod.kR.keeps I.bk
theorem Inv.lt(I:Inv X pins U H s):X.env.locals<s.heap.objs.size:=let ⟨_,hn,_⟩:=I.loc;hn.lt
theorem Inv.sz(I:Inv X pins U H s):X.cF.heap.objs.size<=s.heap.objs.size:=aD I.ok.above (dw I.lt)
theorem Inv.BK(I:Inv X pins U H s)(h:s.heap.objs.size<=a):a∉X.fs:=λhb=>by
 obtain⟨_,o,ho,_⟩:=I.ok.E2.mem hb;exact absurd (au (aj ho) (aD I.sz h)) (bK _)
theorem Inv.oa(I:Inv X pins U H s):∀x c,X.env.cells.lookup x=some c->c≠X.env.locals:=λx c e z=>by
 obtain⟨v,o,ho,hd⟩:=I.cell x c e;obtain⟨m,⟨o',es,ep,mB,Dn,_⟩,_⟩:=I.loc
 simp_all
theorem Inv.E2(I:Inv X pins U H s):s.heap.FunFrames X.base X.outer:=by
 have all:∀(l:List Env),(∀b∈eR l,b∈X.fs)->X.cF.heap.FunFrames X.base l->s.heap.FunFrames X.base l:=by
  intro l
  induction l with
  |nil=>intro _ _;trivial
  |cons env r ih =>
   intro hs hl;obtain⟨hk,⟨L,o,hf,hn,ho,hd⟩,hr⟩:=hl;have hL:=hs L (by unfold eR;rw[dR,hf];exact cP);obtain⟨sl,e⟩:=I.base.slot L o ho (I.ok.mG L hL) hL λz=>I.ok.ky L z hL;exact⟨hk,⟨L,_,hf,hn,e,hd⟩,ih (λb hb=>hs b (by unfold eR;rw[dR,hf];exact bz _ hb)) hr⟩
 exact all X.outer (λ_ hb=>hb) I.ok.E2
theorem Inv.stack(I:Inv X pins U H s):s.heap.FunFrames X.base X.stack:=by
 rcases I.ok.oG with e|⟨e,hf⟩
 ·rw[e];exact I.E2
 ·rw[e];obtain⟨m,hn,_⟩:=I.loc;refine .cons (by rw[I.ok.kind];decide) hf hn ?_ I.E2;exact ki (aD I.ok.mh I.ok.above)
theorem Inv.N5(I:Inv X pins U H s):∀b∈eR X.stack,b∈X.env.locals::X.fs:=λb hb=>by
 rcases I.ok.oG with e|⟨e,hf⟩
 ·rw[e] at hb;exact bz _ hb
 ·rw[e] at hb;unfold eR at hb;rw[dR,hf] at hb;exact hb
theorem Inv.Z3(I:Inv X pins U H s):∀b∈eR X.stack,H b=none:=λb hb=>by
 rcases aB.mp (I.N5 b hb) with e|hb
 ·rw[e];exact I.free
 ·obtain⟨_,o,ho,_⟩:=I.ok.E2.mem hb;exact I.base.free b o ho (I.ok.mG b hb) λz=>I.ok.ky b z hb
theorem Inv.step{g':Array GenState}{t':Nat}{d':Drawn}{ch:List Addr}(I:Inv X pins U H s)(mE:∀b∈ch,(b∈X.ex\/X.cF.heap.objs.size<=b)/\b≠X.env.locals/\(∀x c,X.env.cells.lookup x=some c->c≠b)/\∀p∈X.pn++pins,p.1≠b)(keep:∀b o,b≠X.env.locals->b∉X.fs->b∉ch->s.heap.get? b=some o->H b=none->h'.get? b=some o)(slot:∀b o,b≠X.env.locals->b∈X.fs->b∉ch->s.heap.get? b=some o->H b=none->∃sl,h'.get? b=some { o with slots:=sl })(free:∀b o,b∉ch->s.heap.get? b=some o->H b=none->H' b=none)(there:∀b o,b∉ch->s.heap.get? b=some o->∃o',h'.get? b=some o')(gz:∀b xs,H b=some (.tup xs)->H' b=some (.tup xs))(gi:∀b o u,H b=some (.jm o u)->H' b=some (.jm o u))(gA:∀b ps,H b=some (.nO ps)->∃more,H' b=some (.nO (ps++more)))(ns:∀m,s.heap.Ns X.env.locals m->h'.Ns X.env.locals m)(bB:fG X.prog X.w H' h')(hg:AllBare g') :
  Inv X pins U H' { s with heap:=h',gens:=g',drawn:=d',toks:=t' }:=by
 have Ct:∀b o,X.cF.heap.get? b=some o->b≠X.env.locals:=λb o e=>aC (au (aj e) I.ok.above);have pW:∀b o,X.cF.heap.get? b=some o->b∉X.ex->b∉ch:=λb o e hx hb=>by
  rcases(mE b hb).1 with z|z
  ·exact hx z
  ·exact absurd (au (aj e) z) (bK _)
 have cellK:∀x c,X.env.cells.lookup x=some c->∀v,s.heap.IsCell c v->h'.IsCell c v:=λx c e v br=>by
  obtain⟨o,ho,hd⟩:=br;have sC:c∉ch:=λz=>(mE c z).2.2.1 x c e rfl;by_cases hc:c∈X.fs
  ·obtain⟨sl,q⟩:=slot c o (I.oa x c e) hc sC ho (I.dF x c e);exact⟨_,q,hd⟩
  ·exact⟨o,keep c o (I.oa x c e) hc sC ho (I.dF x c e),hd⟩
 refine⟨I.ok,I.os,hg,⟨λb o e n hb hx=>?_,λb o e n hb hx=>?_,λb o e n hx=>?_,λb o e hx=>?_,λb xs e=>gz b xs (I.base.gz b xs e),λb o xs e=>gi b o xs (I.base.gi b o xs e),λb ps e=>?_⟩,?_,λx c e=>?_,?_,λx c e=>?_,λp hp=>?_,bB,I.len,I.sg⟩
 ·exact keep b o (Ct b o e) hb (pW b o e hx) (I.base.keep b o e n hb hx) (I.base.free b o e n hx)
 ·obtain⟨sl,e1⟩:=I.base.slot b o e n hb hx;obtain⟨Ju,e2⟩:=slot b _ (Ct b o e) hb (pW b o e hx) e1 (I.base.free b o e n hx);exact⟨Ju,e2⟩
 ·obtain⟨o',e1⟩:=I.base.there b o e hx;exact free b o' (pW b o e hx) e1 (I.base.free b o e n hx)
 ·obtain⟨o',e1⟩:=I.base.there b o e hx;exact there b o' (pW b o e hx) e1
 ·obtain⟨m1,e1⟩:=I.base.gA b ps e;obtain⟨m2,e2⟩:=gA b _ e1;exact⟨m1++m2,by rw[e2,Jd]⟩
 ·obtain⟨m,hn,hl⟩:=I.loc;refine⟨m,ns m hn,λi x v e1 e2 e3=>?_⟩;obtain⟨u,r,l⟩:=hl i x v e1 e2 e3;refine⟨u,r,?_⟩;rcases l with l|⟨k,c,e,z⟩
  ·exact .inl l
  ·exact .inr ⟨k,c,e,cellK x c e _ z⟩
 ·obtain⟨v,z⟩:=I.cell x c e;exact⟨v,cellK x c e v z⟩
 ·obtain⟨m,⟨o,_,_,ho,_⟩,_⟩:=I.loc;exact free _ o (λz=>(mE _ z).2.1 rfl) ho I.free
 ·obtain⟨v,o,ho,hd⟩:=I.cell x c e;exact free c o (λz=>(mE c z).2.2.1 x c e rfl) ho (I.dF x c e)
 ·obtain⟨e,n,ne,nf,d⟩:=I.pin p hp;have sC:p.1∉ch:=λz=>(mE p.1 z).2.2.2 p hp rfl;exact⟨keep p.1 p.2 ne nf sC e n,free p.1 p.2 sC e n,ne,nf,d⟩
theorem Inv.un{t':Nat}(I:Inv X pins U H s)(u:Un X.fs [] H H' s.heap h')(bB:fG X.prog X.w H' h'):Inv X pins U H' { s with heap:=h',toks:=t' }:=by
 obtain⟨m,⟨o,es,ep,ho,r⟩,_⟩:=id I.loc;obtain⟨sl,hL⟩:=u.any ho I.free (by simp);exact I.step (g':=s.gens) (d':=s.drawn) (ch:=[]) (λ_ z=>nomatch z) (λb o _ hb _ e n=>u.keep b o e n hb (by simp)) (λb o _ hb _ e n=>u.slot b o e n hb (by simp)) (λb o _ e n=>u.free b o e n (by simp)) (λb o _ e=>u.there b o e (by simp)) u.gz u.gi u.gA (λm' hm=>by
  obtain⟨o',nH,zh,mB,r'⟩:=hm;rw[ho] at mB;cases mB;exact ⟨_,nH,zh,hL,r'⟩) bB I.bare
theorem Inv.call{g':Array GenState}{t':Nat}{d':Drawn}(I:Inv X pins U H s)(u:Un (eR X.stack) ch H H' s.heap h')(bB:fG X.prog X.w H' h')(hg:AllBare g')(mE:∀b∈ch,(b∈X.ex\/X.cF.heap.objs.size<=b)/\b≠X.env.locals/\(∀x c,X.env.cells.lookup x=some c->c≠b)/\∀p∈X.pn++pins,p.1≠b) :
  Inv X pins U H' { s with heap:=h',gens:=g',drawn:=d',toks:=t' }:=by
 obtain⟨m,⟨o,es,ep,ho,r⟩,_⟩:=id I.loc;obtain⟨sl,hL⟩:=u.any ho I.free λz=>(mE _ z).2.1 rfl;exact I.step mE (λb o hL hb hc e n=>u.keep b o e n (λz=>(aB.mp (I.N5 b z)).elim hL hb) hc) (λb o _ _ hc e n=>u.any e n hc) (λb o hc e n=>u.free b o e n hc) (λb o hc e=>u.there b o e hc) u.gz u.gi u.gA (λm' hm=>by
  obtain⟨o',nH,zh,mB,r'⟩:=hm;rw[ho] at mB;cases mB;exact ⟨_,nH,zh,hL,r'⟩) bB hg
theorem Inv.turned{t':Nat}{it:Addr}(I:Inv X pins U H s)(k:∀b o,b≠it->s.heap.get? b=some o->h'.get? b=some o)(hn:H it=none)(hL:it≠X.env.locals)(h1:it∈X.ex\/X.cF.heap.objs.size<=it)(h2:∀x c,X.env.cells.lookup x=some c->c≠it)(h3:∀p∈X.pn++pins,p.1≠it):Inv X pins U H { s with heap:=h',toks:=t' }:=by
 have Cr:∀b u,H b=some u->b≠it:=λb u e z=>by simp_all
 refine I.step (g':=s.gens) (d':=s.drawn) (ch:=[it]) (λb hb=>?_) (λb o _ _ hc e _=>k b o (λz=>hc (by simp[z])) e) (λb o _ _ hc e _=>⟨o.slots,k b o (λz=>hc (by simp[z])) e⟩) (λ_ _ _ _ n=>n)
  (λb o hc e=>⟨o,k b o (λz=>hc (by simp[z])) e⟩) (λ_ _ e=>e) (λ_ _ _ e=>e) (λb ps e=>⟨#[],by rw[e];simp⟩) (λm hm=>?_) (λb u e=>?_) I.bare
 ·have e:b=it:=by simpa using hb
  subst e;exact⟨h1,hL,h2,h3⟩
 ·obtain⟨o,es,ep,ho,r⟩:=hm;exact⟨o,es,ep,k _ o (dg hL) ho,r⟩
 ·refine(I.bB b u e).v8 (λc v hc q=>k c v ?_ q) (λ_ q=>q) λ_ _ q=>q;rcases hc with z|z
  ·rw[z];exact Cr b u e
  ·exact Cr c _ z
theorem Inv.tok(I:Inv X pins U H s)(t:Nat):Inv X pins U H { s with toks:=t }:=I.un (h':=s.heap) (t':=t) Un.refl I.bB
theorem Inv.kept{t':Nat}(I:Inv X pins U H s)(k:∀b u,s.heap.get? b=some u->h'.get? b=some u):Inv X pins U H { s with heap:=h',toks:=t' }:=I.un (Un.kept k) (I.bB.kept k)
theorem Inv.laid{a:Addr}{o:HO}{t':Nat}(I:Inv X pins U H s)(k:∀b u,s.heap.get? b=some u->h'.get? b=some u)(hp:s.heap.objs.size<=a)(new:j3 X.prog X.w (upd H a o) h' a o) :
  Inv X pins U (upd H a o) { s with heap:=h',toks:=t' }:=I.un (Un.laid k hp (I.bB.fresh hp)) (I.bB.laid k hp new)
theorem Inv.write{x e:Addr}{o:HO}{t':Nat}(I:Inv X pins U H s)(mu:uH (H x))(he:e=x\/H e=some (.own x))(k:∀b u,b≠e->s.heap.get? b=some u->h'.get? b=some u)(tq:∃u,h'.get? e=some u)(new:j3 X.prog X.w (upd H x o) h' x o):Inv X pins U (upd H x o) { s with heap:=h',toks:=t' }:=I.un (Un.write mu he k tq) (I.bB.write mu he k tq new)
theorem Inv.weak{cx:List (Option V)}(hs:X.sg=none)(I:Inv X pins U H s)(hl:cx.length=U.length)(w:∀(i:Nat) v,cx[i]?=some (some v)->U[i]?=some (some v)):Inv X pins cx H s :=
 ⟨I.ok,I.os,I.bare,I.base,let ⟨m,hn,Kr⟩:=I.loc;⟨m,hn,λi x v e1 e2 e3=>Kr i x v e1 (w i v e2) e3⟩,I.cell,I.free,I.dF,I.pin,I.bB,hl.trans I.len,λ_ z=>by simp_all⟩
theorem Inv.Q5{fy:List (Addr×Obj)}(I:Inv X pins U H s)(h:∀p∈fy,s.heap.get? p.1=some p.2/\H p.1=none/\p.1≠X.env.locals/\p.1∉X.fs/\∀v,p.2.data≠.cell v):Inv X fy U H s :=
 ⟨I.ok,I.os,I.bare,I.base,I.loc,I.cell,I.free,I.dF,λp hp=>(aX.mp hp).elim (λz=>I.pin p (bq _ z)) (h p),I.bB,I.len,I.sg⟩
theorem EJ(hN:N.Nodup){j:Nat}(a:N[i]?=some x)(b:N[j]?=some x):i=j:=by
 obtain⟨h1,e1⟩:=ax.mp a;obtain⟨h2,e2⟩:=ax.mp b;exact(List.getElem_inj hN).mp (e1.trans e2.symm)
theorem FD{Q:Unit->Shared->Prop}(I:Inv X pins U H s)(hN:X.Nd)(hi:X.N[i]?=some x)(hx:Loc X.env.scope x)(r:RelV v u)(h:∀s',Inv X pins (U.set i (some v)) H s'->(∃a,Heap.SameBut a s.heap s'.heap/\(a=X.env.locals\/X.env.cells.lookup x=some a))->Q Unit.unit s')(hf:X.fn x=true\/X.env.scope.names.lookup x=some .local:=by first|exact .inl rfl|exact .inr rfl|assumption):wpAny M A (storeName X.env x u) Q E s:=by
 obtain⟨m,hn,hl⟩:=id I.loc;have jM:(X.env.scope.kind==.class||(X.env.scope.kind==.module&&X.env.locals != X.env.globals))=false:=by rw[I.ok.kind];rfl
 have tf:i<U.length:=by rw[I.len];exact(ax.mp hi).1
 have oa:=I.oa;have tracked:∀{a:Addr} {h':Heap},(∃o,s.heap.get? a=some o/\H a=none)->Heap.SameBut a s.heap h'->fG X.prog X.w H h':=λ{a h'} ha hs b ob e=>by
  obtain⟨_,_,lW⟩:=ha;refine(I.bB b ob e).v8 (λc w' hc q=>(hs.2 c ?_).trans q) (λ_ q=>q) λ_ _ q=>q;rintro rfl;rcases hc with rfl|hc
  ·rw[lW] at e;cases e
  ·rw[lW] at hc;cases hc
 rcases hx with hk|hk
 ·refine wpAny_storeName_local hk hn (λh' yv hs=>?_) jM;obtain⟨oL,_,_,sU,_⟩:=id hn;refine h _ ⟨I.ok,I.os,I.bare,⟨λb o e n hb hx=>?_,λb o e n hb hx=>?_,I.base.free,λb o e hx=>?_,I.base.gz,I.base.gi,I.base.gA⟩,⟨_,yv,λj y v' e1 e2 e3=>?_⟩,λy c e=>?_,I.free,I.dF,λp hp=>?_,tracked ⟨oL,sU,I.free⟩ hs,by simpa using I.len,λ_ z=>by rw[hN.2] at z;cases z⟩ ⟨_,hs,.inl rfl⟩
  ·exact(hs.2 b (aC (au (aj e) I.ok.above))).trans (I.base.keep b o e n hb hx)
  ·obtain⟨sl,e1⟩:=I.base.slot b o e n hb hx;exact⟨sl,(hs.2 b (aC (au (aj e) I.ok.above))).trans e1⟩
  ·obtain⟨o',e1⟩:=I.base.there b o e hx;exact⟨o',(hs.2 b (aC (au (aj e) I.ok.above))).trans e1⟩
  ·by_cases hj:j=i
   ·subst hj;rw[hi] at e1;cases e1;rw[aR tf] at e2;cases e2;exact⟨u,r,.inl ⟨hk,by simp⟩⟩
   ·rw[aO (dg hj)] at e2;obtain⟨u',r',q⟩:=hl j y v' e1 e2 e3;refine⟨u',r',?_⟩;rcases q with⟨k,e⟩|⟨k,c,e,z⟩
    ·refine .inl ⟨k,?_⟩;have:y≠x:=λe=>hj (EJ hN.1 e1 (e▸hi));simp[this,e]
    ·exact .inr ⟨k,c,e,z.sameBut hs (oa y c e)⟩
  ·obtain⟨w',z⟩:=I.cell y c e;exact⟨w',z.sameBut hs (oa y c e)⟩
  ·obtain⟨e,n,ne,nf,d⟩:=I.pin p hp;exact⟨(hs.2 p.1 ne).trans e,n,ne,nf,d⟩
 ·have nv:X.fn x=true:=by
   simp_all
  obtain⟨c,hc⟩:=I.ok.has x (.inl hk);obtain⟨w',z⟩:=I.cell x c hc;refine wpAny_storeName_cell I.ok.kind hk hc z (λh' pv hs=>?_);obtain⟨oc,yo,yn⟩:=id z;refine h { s with heap:=h' } ⟨I.ok,I.os,I.bare,⟨λb o e n hb hx=>?_,λb o e n hb hx=>?_,I.base.free,λb o e hx=>?_,I.base.gz,I.base.gi,I.base.gA⟩,⟨m,hn.sameBut hs (dg (oa x c hc)),λj y v' e1 e2 e3=>?_⟩,λy c' e=>?_,I.free,I.dF,λp hp=>?_,tracked ⟨oc,yo,I.dF x c hc⟩ hs,by simpa using I.len,λ_ z=>by rw[hN.2] at z;cases z⟩ ⟨c,hs,.inr hc⟩
  ·exact(hs.2 b (aC (au (aj e) (I.ok.og x c nv hc)))).trans (I.base.keep b o e n hb hx)
  ·obtain⟨sl,e1⟩:=I.base.slot b o e n hb hx;exact⟨sl,(hs.2 b (aC (au (aj e) (I.ok.og x c nv hc)))).trans e1⟩
  ·obtain⟨o',e1⟩:=I.base.there b o e hx;exact⟨o',(hs.2 b (aC (au (aj e) (I.ok.og x c nv hc)))).trans e1⟩
  ·by_cases hj:j=i
   ·subst hj;rw[hi] at e1;cases e1;rw[aR tf] at e2;cases e2;exact⟨u,r,.inr ⟨.inl hk,c,hc,pv⟩⟩
   ·rw[aO (dg hj)] at e2;obtain⟨u',r',q⟩:=hl j y v' e1 e2 e3;refine⟨u',r',?_⟩;rcases q with q|⟨k,c',e,z'⟩
    ·exact .inl q
    ·refine .inr ⟨k,c',e,z'.sameBut hs ?_⟩;rintro rfl;exact hj (EJ hN.1 e1 (I.ok.inj _ _ _ e hc▸hi))
  ·by_cases qg:c'=c
   ·subst qg;exact⟨_,pv⟩
   ·obtain⟨w2,z2⟩:=I.cell y c' e;exact⟨w2,z2.sameBut hs qg⟩
  ·obtain⟨e,n,ne,nf,d⟩:=I.pin p hp;refine⟨(hs.2 p.1 ?_).trans e,n,ne,nf,d⟩;intro q;rw[q,yo] at e;have q':=aq e;exact d w' (by rw[<- q'];exact yn)
theorem AF{Q:Unit->Shared->Prop}(I:Inv X pins U H s)(hN:X.Nd)(hi:X.N[i]?=some x)(hx:Loc X.env.scope x)(r:RelV v u)(h:∀s',Inv X pins (U.set i (some v)) H s'->Q Unit.unit s')(hf:X.fn x=true\/X.env.scope.names.lookup x=some .local:=by first|exact .inl rfl|exact .inr rfl|assumption):wpAny M A (storeName X.env x u) Q E s :=
 FD I hN hi hx r (λs' I' _=>h s' I') hf
theorem Inv.AW{s':Shared}(I:Inv X pins U H s)(ho:s'.os=s.os)(u:Un (eR X.stack) ch H H' s.heap s'.heap)(bB:fG X.prog X.w H' s'.heap)(hg:AllBare s'.gens)(mE:∀b∈ch,(b∈X.ex\/X.cF.heap.objs.size<=b)/\b≠X.env.locals/\(∀x c,X.env.cells.lookup x=some c->c≠b)/\∀p∈X.pn++pins,p.1≠b):Inv X pins U H' s':=by
 obtain⟨h',g',d',t',o'⟩:=s';have e:o'=s.os:=ho;subst e;exact I.call (g':=g') (t':=t') (d':=d') u bB hg mE
end
noncomputable abbrev XK:=Value->Option Addr->Hp->Prop
noncomputable abbrev St:=List (Option V)
noncomputable abbrev VK:=V->Hp->Prop
noncomputable abbrev TE:=St->Hp->VK->Prop
noncomputable abbrev TT:=St->Hp->(Bool->Hp->Prop)->Prop
noncomputable abbrev TA:=St->Hp->(List V->Hp->Prop)->Prop
structure Ends where
 nx:St->Hp->Prop
 rt:VK
 bk:St->Hp->Prop:=λ_ _=>False
 ct:St->Hp->Prop:=λ_ _=>False
noncomputable abbrev TS:=Ends->St->Hp->Prop
def EP(X:Cx)(pins:List (Addr×Obj))(U:St)(Q:VK)(u:Value)(s':Shared):Prop:=∃v H',Inv X pins U H' s'/\RelV v u/\Q v H'
def TP(X:Cx)(pins:List (Addr×Obj))(U:St)(Q:Bool->Hp->Prop)(b:Bool)(s':Shared):Prop:=∃H',Inv X pins U H' s'/\Q b H'
def AP(X:Cx)(pins:List (Addr×Obj))(U:St)(Q:List V->Hp->Prop)(us:List Value)(s':Shared):Prop:=∃vs H',Inv X pins U H' s'/\Vals vs us/\Q vs H'
def SP(X:Cx)(pins:List (Addr×Obj))(D:Ends)(f:Flow)(s':Shared):Prop :=
 match f with
 |.next=>∃cx H',Inv X pins cx H' s'/\D.nx cx H'
 |.brk=>∃cx H',Inv X pins cx H' s'/\D.bk cx H'
 |.cont=>∃cx H',Inv X pins cx H' s'/\D.ct cx H'
 |.ret u=>∃v cx H',Inv X pins cx H' s'/\RelV v u/\D.rt v H'
def PE(X:Cx)(e:Expr)(t:TE):Prop :=
 ∀(pins:List (Addr×Obj)) (s:Shared) (U:St) (H:Hp) (Q:VK),Inv X pins U H s->t U H Q->wpAny (model X.prog X.w) X.A (eval e X.env) (EP X pins U Q) X.xe s
def PT(X:Cx)(e:Expr)(t:TT):Prop :=
 ∀(pins:List (Addr×Obj)) (s:Shared) (U:St) (H:Hp) (Q:Bool->Hp->Prop),Inv X pins U H s->t U H Q->wpAny (model X.prog X.w) X.A (isTrue e X.env (eval e X.env)) (TP X pins U Q) X.xe s
def PW(X:Cx)(e:Expr)(t:TT):Prop :=
 ∀(whole:Sem Value) (pins:List (Addr×Obj)) (s:Shared) (U:St) (H:Hp) (Q:Bool->Hp->Prop),Inv X pins U H s->t U H Q->wpAny (model X.prog X.w) X.A (isTrue e X.env whole) (TP X pins U Q) X.xe s
theorem PW.pt{t:TT}(h:PW X e t):PT X e t:=h _
def PA(X:Cx)(es:List Expr)(t:TA):Prop :=
 ∀(pos:Pos) (pins:List (Addr×Obj)) (s:Shared) (U:St) (H:Hp) (Q:List V->Hp->Prop),Inv X pins U H s->t U H Q->wpAny (model X.prog X.w) X.A (spliced (backTo pos (starEach es X.env))) (AP X pins U Q) X.xe s
def PS(X:Cx)(st:Stmt)(t:TS):Prop :=
 ∀(pins:List (Addr×Obj)) (s:Shared) (U:St) (H:Hp) (D:Ends),Inv X pins U H s->t D U H->wpAny (model X.prog X.w) X.A (exec st X.env) (SP X pins D) X.xe s
def iZ(X:Cx)(st:List Stmt)(t:TS):Prop :=
 ∀(pins:List (Addr×Obj)) (s:Shared) (U:St) (H:Hp) (D:Ends),Inv X pins U H s->t D U H->wpAny (model X.prog X.w) X.A (execs st X.env) (SP X pins D) X.xe s
theorem cL{t:Sem α}{Q Q':α->Shared->Prop}(h:wpAny M A t Q E s)(hQ:∀a s,Q a s->Q' a s):wpAny M A t Q' E s:=aT h hQ λ_ _ x=>x
section
theorem bin{a b:Expr}(ha:PE X a ta)(hb:PE X b tb){R:V->V->Hp->Prop}(I:Inv X pins U H s)(h:ta U H λx H1=>tb U H1 λy H2=>R x y H2){Q:α->Shared->Prop}{f:Value->Value->Sem α}(hf:∀v u s2 x y H2,Inv X pins U H2 s2->RelV x v->RelV y u->R x y H2->wpAny (model X.prog X.w) X.A (f v u) Q X.xe s2) :
  wpAny (model X.prog X.w) X.A (eval a X.env) (λv bE=>wpAny (model X.prog X.w) X.A (eval b X.env) (λu eV=>wpAny (model X.prog X.w) X.A (f v u) Q X.xe eV) X.xe bE) X.xe s:=by
 refine cL (ha pins s U H _ I h) λv s1 br=>?_;obtain⟨x,H1,I1,r1,q1⟩:=br;refine cL (hb pins s1 U H1 _ I1 q1) λu s2 br=>?_;obtain⟨y,H2,I2,r2,q2⟩:=br;exact hf v u s2 x y H2 I2 r1 r2 q2
def AM(i:Nat):TE:=λU H Q=>∃v,U[i]?=some (some v)/\Q v H
def tC(v:V):TE:=λ_ H Q=>Q v H
theorem wA(hN:X.N[i]?=some x)(hv:wX X.env.scope x)(hd:(x==("__debug__":Str))=false:=by decide)(jl:(x==("__classdict__":Str))=false:=by decide):PE X (.Name x pos) (AM i):=by
 intro pins s U H Q I h;obtain⟨v,e,h⟩:=h;obtain⟨m,hn,hl⟩:=I.loc;obtain⟨u,r,l⟩:=hl i x v hN e hv;have fin:EP X pins U Q u s:=⟨v,H,I,r,h⟩
 rcases l with⟨hk,hm⟩|⟨hk,c,hc,nW⟩
 ·exact wpAny_Name (wpAny_loadName_local I.ok.kind hk hn hm fin) hd
 ·rcases hk with hk|hk
  ·exact wpAny_Name (wpAny_loadName_cell I.ok.kind hk hc nW fin) hd
  ·exact wpAny_Name (wpAny_loadName_free I.ok.kind hk hc nW fin jl) hd
theorem Nm{i j pos}:PE X (.Constant (.int i) j pos) (tC (.int i)):=λ_ _ _ H _ I h=>wpAny_Constant_int ⟨.int i,H,I.tok _,⟨_,rfl⟩,h⟩
theorem Tb{b j pos}:PE X (.Constant (.bool b) j pos) (tC (.bl b)):=λ_ _ _ H _ I h=>Constant_bool ⟨.bl b,H,I,rfl,h⟩
theorem Nn{j pos}:PE X (.Constant .none j pos) (tC .bA):=λ_ _ _ H _ I h=>Constant_none ⟨.bA,H,I,rfl,h⟩
theorem GB{x j pos}:PE X (.Constant (.str x) j pos) (tC (.str x)):=λ_ _ _ H _ I h=>Calls.Constant_str ⟨.str x,H,I.tok _,⟨_,rfl⟩,h⟩
def Gl(X:Cx)(x:Str):Prop:=X.env.kindOf x=some .globalImplicit
theorem B9(I:Inv X pins U H s)(hg:Gl X x)(hm:X.mg x=some u)(h:Q u s)(hd:(x==("__debug__":Str))=false:=by decide):wpAny (model X.prog X.w) X.A (eval (.Name x pos) X.env) Q E s :=
 xk I.ok.kind hg (Calls.loadGlobal_global (by rw[I.ok.glob];exact I.mod.glob.keeps I.bk) hm h) hd
theorem K9(I:Inv X pins U H s)(hg:Gl X x)(hm:X.mg x=none)(hv:bootBuiltins x=some u)(h:Q u s)(hn:x≠"__name__":=by decide)(hd:(x==("__debug__":Str))=false:=by decide):wpAny (model X.prog X.w) X.A (eval (.Name x pos) X.env) Q E s:=by
 obtain⟨mb,h1,h2⟩:=I.mod.blt;exact xk I.ok.kind hg (Calls.loadGlobal_builtin (by rw[I.ok.glob];exact I.mod.glob.keeps I.bk) hm (by rw[I.ok.blt];exact h1.keeps I.bk) ((h2 x hn).trans hv) h) hd
theorem Aj(hg:Gl X x)(hm:X.mg x=some u)(r:RelV v u)(hd:(x==("__debug__":Str))=false:=by decide):PE X (.Name x pos) (tC v) :=
 λ_ _ _ H _ I h=>B9 I hg hm ⟨v,H,I,r,h⟩ hd
theorem Pu(hg:Gl X x)(hm:X.mg x=none)(hv:bootBuiltins x=some u)(r:RelV v u)(hn:x≠"__name__":=by decide)(hd:(x==("__debug__":Str))=false:=by decide):PE X (.Name x pos) (tC v) :=
 λ_ _ _ H _ I h=>K9 I hg hm hv ⟨v,H,I,r,h⟩ hn hd
variable{a b:Expr}
variable{tA uW:TT}{rest:List Expr}
def RK(t u:TT):TT:=λU H Q=>t U H λc H1=>if c=true then u U H1 Q else Q false H1
def Jp(t u:TT):TT:=λU H Q=>t U H λc H1=>if c=true then Q true H1 else u U H1 Q
def RS(t:TT):TT:=λU H Q=>t U H λc H1=>Q (!c) H1
theorem Qa(ha:PT X a tA):PW X (.BoolOp .And [a] pos) tA:=by
 intro wh pins s U H Q I h;refine isTrue_and (cL (ha pins s U H Q I h) λc s1 e=>?_);cases c with
 |true=>exact isTrue_and_nil e
 |false=>exact e
theorem NG(ha:PT X a tA):PW X (.BoolOp .Or [a] pos) tA:=by
 intro wh pins s U H Q I h;refine isTrue_or (cL (ha pins s U H Q I h) λc s1 e=>?_);cases c with
 |false=>exact isTrue_or_nil e
 |true=>exact e
theorem NC(ha:PT X a tA)(hb:PW X (.BoolOp .And (b::rest) pos) uW):PW X (.BoolOp .And (a::b::rest) pos) (RK tA uW):=by
 intro wh pins s U H Q I h;refine isTrue_and (cL (ha pins s U H _ I h) λc s1 ⟨H1,I1,q1⟩=>?_);cases c with
 |true=>exact hb wh pins s1 U H1 Q I1 q1
 |false=>exact⟨H1,I1,q1⟩
theorem Tn(ha:PT X a tA)(hb:PW X (.BoolOp .Or (b::rest) pos) uW):PW X (.BoolOp .Or (a::b::rest) pos) (Jp tA uW):=by
 intro wh pins s U H Q I h;refine isTrue_or (cL (ha pins s U H _ I h) λc s1 ⟨H1,I1,q1⟩=>?_);cases c with
 |true=>exact⟨H1,I1,q1⟩
 |false=>exact hb wh pins s1 U H1 Q I1 q1
theorem NA(ha:PT X a tA):PT X (.UnaryOp .Not a pos) (RS tA):=by
 intro pins s U H Q I h;exact isTrue_not (ha pins s U H (λc H1=>Q (!c) H1) I h)
def LB(ta tb:TE):TE:=λU H Q=>ta U H λx H1=>∃c,x=.bl c/\if c=true then tb U H1 Q else Q (.bl false) H1
def RT(ta tb:TE):TE:=λU H Q=>ta U H λx H1=>∃c,x=.bl c/\if c=true then Q (.bl true) H1 else tb U H1 Q
def LH(ta:TE):TE:=λU H Q=>ta U H λx H1=>∃c,x=.bl c/\Q (.bl (!c)) H1
theorem Nq{op}{t:TE}(h:PE X a t):PE X (.BoolOp op [a] pos) t:=λpins s U H Q I hw=>BoolOp_one (h pins s U H Q I hw)
theorem Nj(ha:PE X a ta)(hb:PE X (.BoolOp .And (b::rest) pos) tb):PE X (.BoolOp .And (a::b::rest) pos) (LB ta tb):=by
 intro pins s U H Q I h;refine BoolOp_and (cL (ha pins s U H _ I h) λv s1 br=>?_);obtain⟨x,H1,I1,r1,q1⟩:=br;obtain⟨c,rfl,q1⟩:=q1;cases r1;refine cu ?_;cases c with
 |true=>exact hb pins s1 U H1 Q I1 q1
 |false=>exact⟨.bl false,H1,I1,rfl,q1⟩
theorem Tg(ha:PE X a ta)(hb:PE X (.BoolOp .Or (b::rest) pos) tb):PE X (.BoolOp .Or (a::b::rest) pos) (RT ta tb):=by
 intro pins s U H Q I h;refine BoolOp_or (cL (ha pins s U H _ I h) λv s1 br=>?_);obtain⟨x,H1,I1,r1,q1⟩:=br;obtain⟨c,rfl,q1⟩:=q1;cases r1;refine cu ?_;cases c with
 |false=>exact hb pins s1 U H1 Q I1 q1
 |true=>exact⟨.bl true,H1,I1,rfl,q1⟩
theorem Np(ha:PE X a ta):PE X (.UnaryOp .Not a pos) (LH ta):=by
 intro pins s U H Q I h;refine UnaryOp_ (cL (ha pins s U H _ I h) λv s1 br=>?_);obtain⟨x,H1,I1,r1,q1⟩:=br;obtain⟨c,rfl,q1⟩:=q1;cases r1;exact not_of (cu ⟨.bl (!c),H1,I1,rfl,q1⟩)
def Jq(t:TT)(ta tb:TE):TE:=λU H Q=>t U H λc H1=>if c=true then ta U H1 Q else tb U H1 Q
theorem Yd(hc:PT X c tA)(ha:PE X a ta)(hb:PE X b tb):PE X (.IfExp c a b pos) (Jq tA ta tb):=by
 intro pins s U H Q I h;refine wpAny_IfExp (cL (hc pins s U H _ I h) λd s1 ⟨H1,I1,q1⟩=>?_);cases d with
 |true=>exact ha pins s1 U H1 Q I1 q1
 |false=>exact hb pins s1 U H1 Q I1 q1
end
def gs(K:PySem.W.Frag)(H:Hp)(a:Addr)(xs:List V):Prop :=
 Rd H a (.lst xs) \/
  ∃(o:Obj) (bf:Array Value) (n:Nat),K.lookup a=some o/\o.cls=.type "list"/\o.dict=none/\o.data=.seq bf n/\bf.size<=sizeLine/\Vals xs bf.toList
def iw(K:PySem.W.Frag)(H:Hp)(a:Addr)(xs:List V):Prop :=
 Rd H a (.tup xs) \/
  ∃(o:Obj) (bf:Array Value) (n:Nat),K.lookup a=some o/\o.cls=.type "tuple"/\o.data=.seq bf n/\bf.size<=sizeLine/\Vals xs bf.toList
def QK:Value->Option V
 |.none=>some .bA
 |.bool b=>some (.bl b)
 |.int i _=>some (.int i)
 |.str x _=>some (.str x)
 |.bytes b _=>some (.kG b)
 |.float b _=>some (.pB b)
 |.ref a=>some (.ref a)
 |.type n=>some (.ty n)
 |_=>none
theorem RelV.abs{x:V}(r:RelV x u):QK u=some x:=by
 cases x with
 |bA=>cases r;rfl
 |bl _=>cases r;rfl
 |int _=>obtain⟨t,rfl⟩:=r;rfl
 |str _=>obtain⟨t,rfl⟩:=r;rfl
 |kG _=>obtain⟨t,rfl⟩:=r;rfl
 |pB _=>obtain⟨t,rfl⟩:=r;rfl
 |ref _=>cases r;rfl
 |ty _=>cases r;rfl
theorem RelV.inj{x y:V}{u:Value}(r:RelV x u)(q:RelV y u):x=y:=aq (r.abs.symm.trans q.abs)
theorem Vals.inj{xs ys:List V}{us:List Value}(h:Vals xs us)(h':Vals ys us):xs=ys:=by
 induction h generalizing ys with
 |nil=>cases h';rfl
 |cons r t ih =>
  cases h' with
  |cons r' t'=>rw[r.inj r',ih t']
section
variable{ys:List V}
theorem gs.of(h:H a=some (.lst xs)):gs K H a xs:=.inl (.inl h)
theorem Inv.list(I:Inv X pins U H s)(h:gs X.K H a xs):∃bf:List Value,Vals xs bf/\PlainL s.heap a bf.toArray/\xs.length<=sizeLine:=by
 rcases h with h|⟨o,bf,n,hk,hc,hd,hs,hz,r⟩
 ·obtain⟨z,bf,n,r,e⟩:=h.ok I.bB;exact⟨bf,r,⟨_,n,e,rfl,rfl,rfl⟩,z⟩
 ·refine⟨bf.toList,r,⟨o,n,I.gC a o hk,hc,hd,by simpa using hs⟩,?_⟩;have e:=r.length
  grind
theorem Inv.tuple(I:Inv X pins U H s)(h:iw X.K H a xs):∃bf:List Value,Vals xs bf/\IsTup s.heap a bf.toArray/\xs.length<=sizeLine:=by
 rcases h with h|⟨o,bf,n,hk,hc,hs,hz,r⟩
 ·obtain⟨z,bf,r,p⟩:=h.ok I.bB;exact⟨bf,r,p.tup,z⟩
 ·refine⟨bf.toList,r,⟨o,I.gC a o hk,hc,n,by simpa using hs⟩,?_⟩;have e:=r.length;simp only[Array.length_toList] at e;omega
theorem Inv.EF(I:Inv X pins U H s)(h:gs X.K H a xs)(h':gs X.K H a ys):xs=ys:=by
 obtain⟨bf,r,⟨o,n,e,_,_,d⟩,_⟩:=I.list h;obtain⟨its',r',⟨o',n',e',_,_,d'⟩,_⟩:=I.list h';rw[e] at e';cases e';rw[d] at d';injection d' with d1 _;have:bf=its':=by simpa using cO Array.toList d1
 subst this;exact r.inj r'
theorem Inv.FE(I:Inv X pins U H s)(h:iw X.K H a xs)(h':iw X.K H a ys):xs=ys:=by
 obtain⟨bf,r,⟨o,e,_,n,d⟩,_⟩:=I.tuple h;obtain⟨its',r',⟨o',e',_,n',d'⟩,_⟩:=I.tuple h';rw[e] at e';cases e';rw[d] at d';injection d' with d1 _;have:bf=its':=by simpa using cO Array.toList d1
 subst this;exact r.inj r'
end
noncomputable abbrev Cx.S2(X:Cx)(E:Value->Shared->Prop):Cx:={ X with xe:=E }
theorem Cx.Ok.S2{X:Cx}(ok:X.Ok)(E:Value->Shared->Prop):(X.S2 E).Ok :=
 ⟨ok.mod,ok.kind,ok.glob,ok.blt,ok.above,ok.inj,ok.has,ok.og,ok.hd,ok.frames,ok.oG,ok.tL,ok.bs,ok.mh,ok.jE,ok.ky,ok.E2,ok.mG⟩
theorem Cx.Ok.zU(ok:(X.S2 E).Ok):X.Ok :=
 ⟨ok.mod,ok.kind,ok.glob,ok.blt,ok.above,ok.inj,ok.has,ok.og,ok.hd,ok.frames,ok.oG,ok.tL,ok.bs,ok.mh,ok.jE,ok.ky,ok.E2,ok.mG⟩
theorem Inv.S2(I:Inv X pins U H s)(E:Value->Shared->Prop):Inv (X.S2 E) pins U H s:=⟨I.ok.S2 E,I.os,I.bare,I.base,I.loc,I.cell,I.free,I.dF,I.pin,I.bB,I.len,I.sg⟩
theorem Inv.zU(I:Inv (X.S2 E) pins U H s):Inv X pins U H s:=⟨I.ok.zU,I.os,I.bare,I.base,I.loc,I.cell,I.free,I.dF,I.pin,I.bB,I.len,I.sg⟩
section
variable{st:Stmt}{rest:List Stmt}{t u:TS}
def IC:TS:=λD U H=>D.nx U H
def RV(t u:TS):TS:=λD U H=>t { D with nx:=u D } U H
theorem Ak:iZ X [] IC:=λ_ _ U H _ I h=>qY ⟨U,H,I,h⟩
theorem AA(h1:PS X st t)(h2:iZ X rest u):iZ X (st::rest) (RV t u):=by
 intro pins s U H D I h;refine wpAny_execs_cons (cL (h1 pins s U H { D with nx:=u D } I h) λf s1 q=>?_);cases f with
 |next =>
  obtain⟨cx,H',I',q⟩:=q;exact h2 pins s1 cx H' D I' q
 |ret v=>exact q
 |brk=>exact q
 |cont=>exact q
theorem PL:PS X (.Pass pos) IC:=λ_ _ U H _ I h=>wpAny_Pass ⟨U,H,I,h⟩
theorem Inv.quiet(I:Inv X pins U H s):interactive X.env=false:=by simp[interactive,I.ok.kind]
def LD(te:TE):TS:=λD U H=>te U H λ_ H1=>D.nx U H1
theorem PK(he:PE X e te)(hs:swapsWith e none pos.line X.env=pure false:=by rfl):PS X (.Expr e pos) (LD te):=by
 intro pins s U H D I h;exact wpAny_Expr_any (cL (he pins s U H _ I h) λv s1 ⟨x,H1,I1,r1,q1⟩=>⟨U,H1,I1,q1⟩) I.quiet hs
def RU(te:TE):TS:=λD U H=>te U H D.rt
theorem GC(he:PE X e te):PS X (.Return (some e) pos) (RU te):=by
 intro pins s U H D I h;exact wpAny_Return_some (cL (he pins s U H _ I h) λv s1 ⟨x,H1,I1,r1,q1⟩=>⟨x,U,H1,I1,r1,q1⟩)
def LK:TS:=λD _ H=>D.rt .bA H
theorem PN:PS X (.Return none pos) LK:=λ_ _ U H _ I h=>wpAny_Return_none ⟨.bA,U,H,I,rfl,h⟩
def RP(c:TT)(t u:TS):TS:=λD U H=>c U H λb H1=>if b=true then t D U H1 else u D U H1
theorem Tj{a b:List Stmt}{tc:TT}(hc:PT X c tc)(ha:iZ X a t)(hb:iZ X b u):PS X (.If c a b pos) (RP tc t u):=by
 intro pins s U H D I h;refine wpAny_If (cL (hc pins s U H _ I h) λd s1 ⟨H1,I1,q1⟩=>?_);cases d with
 |true=>exact ha pins s1 U H1 D I1 q1
 |false=>exact hb pins s1 U H1 D I1 q1
end
noncomputable abbrev TG:=V->St->Hp->(St->Hp->Prop)->Prop
noncomputable abbrev mJ:=List V->St->Hp->(St->Hp->Prop)->Prop
def PG(X:Cx)(target:Expr)(t:TG):Prop :=
 ∀(pins:List (Addr×Obj)) (s:Shared) (U:St) (H:Hp) (v:V) (u:Value) (Q:St->Hp->Prop),Inv X pins U H s->RelV v u->t v U H Q ->
  wpAny (model X.prog X.w) X.A (assign target X.env u) (λ_ s'=>∃cx H',Inv X pins cx H' s'/\Q cx H') X.xe s
def qV(X:Cx)(ts:List Expr)(t:mJ):Prop :=
 ∀(pins:List (Addr×Obj)) (s:Shared) (U:St) (H:Hp) (vs:List V) (us:List Value) (Q:St->Hp->Prop),Inv X pins U H s->Vals vs us->t vs U H Q ->
  wpAny (model X.prog X.w) X.A (assignInOrder ((assignEach ts X.env).map (·.2)) us) (λ_ s'=>∃cx H',Inv X pins cx H' s'/\Q cx H') X.xe s
noncomputable abbrev Bx:=V->V->V->Hp->(Hp->Prop)->Prop
def Bw(X:Cx)(t:Bx):Prop :=
 ∀(pins:List (Addr×Obj)) (s:Shared) (U:St) (H:Hp) (o i v:V) (ov iv u:Value) (Q:Hp->Prop),Inv X pins U H s->RelV o ov->RelV i iv->RelV v u->t o i v H Q ->
  wpAny (model X.prog X.w) X.A (setItem ov iv u) (λ_ s'=>∃H',Inv X pins U H' s'/\Q H') X.xe s
def qP(i:Nat):TG:=λv U H Q=>Q (U.set i (some v)) H
theorem HA(hN:X.Nd)(hi:X.N[i]?=some x)(hx:Loc X.env.scope x)(hf:X.fn x=true\/X.env.scope.names.lookup x=some .local:=by first|exact .inl rfl|exact .inr rfl|assumption):PG X (.Name x pos) (qP i):=by
 intro pins s U H v u Q I r h;exact wpAny_assign_Name (AF I hN hi hx r (λs' I'=>⟨_,H,I',h⟩) hf)
def DT:mJ:=λvs U H Q=>vs=[]/\Q U H
def Ih(t:TG)(u:mJ):mJ:=λvs U H Q=>∃v r,vs=v::r/\t v U H λcx H'=>u r cx H' Q
theorem PJ:qV X [] DT:=by
 intro pins s U H vs us Q I r h;obtain⟨e,h⟩:=h;exact assignInOrder_nil ⟨U,H,I,h⟩
theorem Yf{t:TG}{u:mJ}(h1:PG X e t)(h2:qV X es u)(hs:(assignEach (e::es) X.env).map (·.2)=assign e X.env::(assignEach es X.env).map (·.2):=by rfl):qV X (e::es) (Ih t u):=by
 intro pins s U H vs us Q I r h;obtain⟨v,vr,e1,h⟩:=h;subst e1;cases r with
 |cons r rr =>
  rw[hs];refine assignInOrder_cons (cL (h1 pins s U H _ _ _ I r h) λ_ s1 br=>?_);obtain⟨jA,H1,I1,q1⟩:=br;exact h2 pins s1 jA H1 _ _ Q I1 rr q1
def QT(K:PySem.W.Frag)(n:Nat)(t:mJ):TG:=λv U H Q=>∃a xs,v=.ref a/\iw K H a xs/\xs.length=n/\t xs U H Q
theorem Nv{t:mJ}{n:Nat}(hc:X.calm=true)(h:qV X es t)(hn:(assignEach es X.env).length=n:=by rfl)(eJ:(assignEach es X.env).findIdx? (·.1)=none:=by rfl):PG X (.Tuple es k pos) (QT X.K n t):=by
 intro pins s U H v u Q I r hw;obtain⟨a,xs,e1,hq,hl,hw⟩:=hw;subst e1;cases r;obtain⟨bf,rv,ht,hz⟩:=I.tuple hq;refine assign_Tuple_tuple (I.ok.hd hc) ht (by simp[hn,<- hl,rv.length]) eJ λh' hx=>?_;have I1:=I.kept (t':=s.toks) λb o e=>hx b o (aC (aj e)) e;exact h pins _ U H xs _ Q I1 (by simpa using rv) hw
def QS(to ti:TE)(t:Bx):TG:=λv U H Q=>to U H λo H1=>ti U H1 λi H2=>t o i v H2 λH3=>Q U H3
theorem Nu{o i:Expr}{to ti:TE}{t:Bx}(ho:PE X o to)(hi:PE X i ti)(hs:Bw X t)(ha:∀ v,assign (.Subscript o i pos) X.env v=(do
   let ov <- holding [v] (eval o X.env)
   let iv <- holding [v,ov] (eval i X.env)
   standAt pos
   holding [v,ov,iv] (setItem ov iv v)
   release [v,ov,iv] []):=by intro _;rfl):PG X (.Subscript o i pos) (QS to ti t):=by
 intro pins s U H v u Q I r h;rw[ha];refine aa (aY (cL (ho pins s U H _ I h) λov s1 br=>?_));obtain⟨x,H1,I1,r1,q1⟩:=br;refine aa (aY (cL (hi pins s1 U H1 _ I1 q1) λiv s2 br=>?_));obtain⟨y,H2,I2,r2,q2⟩:=br;refine aa (eK (aa (aY (cL (hs pins s2 U H2 x y v ov iv u _ I2 r1 r2 r q2) λ_ s3 ⟨H3,I3,q3⟩=>?_))));exact wpAny_release ⟨U,H3,I3,q3⟩
def qH(te:TE)(g:TG):TS:=λD U H=>te U H λx H1=>g x U H1 D.nx
theorem zI{g:TG}(he:PE X e te)(hg:PG X tg g)(hs:swapsWithSole [tg] e pos.line X.env=pure false:=by rfl)(hw:swappedStores [tg] e X.env=pure none:=by rfl)(h1:(assignEach [tg] X.env).map (·.2)=[assign tg X.env]:=by rfl):PS X (.Assign [tg] e pos) (qH te g):=by
 intro pins s U H D I h;refine wpAny_Assign_stores (cL (he pins s U H _ I h) λv s1 br=>?_) hs hw;obtain⟨x,H1,I1,r1,q1⟩:=br;rw[h1];exact cL (hg pins s1 U H1 x v _ I1 r1 q1) λ_ s2 q=>q
theorem GD{pos':Pos}(hN:X.Nd)(hi:X.N[i]?=some x)(hx:Loc X.env.scope x)(he:PE X e te)(hs:swapsWith e (some (.Name x pos')) pos.line X.env=pure false:=by rfl)(hf:X.fn x=true\/X.env.scope.names.lookup x=some .local:=by first|exact .inl rfl|exact .inr rfl|assumption) :
  PS X (.Assign [.Name x pos'] e pos) (qH te (qP i)):=by
 intro pins s U H D I h;refine wpAny_Assign_Name (cL (he pins s U H _ I h) λv s1 br=>?_) hs;obtain⟨y,H1,I1,r1,q1⟩:=br;exact AF I1 hN hi hx r1 (λs2 I2=>⟨_,H1,I2,q1⟩) hf
structure It where
 go:Nat->Hp->Prop
 pS:Nat->Hp->V->Hp->Prop
 stop:Nat->Hp->Prop
def C6(X:Cx)(pins:List (Addr×Obj))(H:Hp)(b:Addr):Prop :=
 H b=none/\b≠X.env.locals/\b∉X.fs/\(b∈X.ex\/X.cF.heap.objs.size<=b)/\(∀x c,X.env.cells.lookup x=some c->c≠b)/\∀p∈X.pn++pins,p.1≠b
theorem Inv.Y0(I:Inv X pins U H s)(hb:s.heap.objs.size<=b)(hn:H' b=none):C6 X pins H' b:=by
 refine⟨hn,bY (au I.lt hb),I.BK hb,.inr (aD I.sz hb),λx c e z=>?_,λp hp z=>?_⟩
 ·obtain⟨v,q⟩:=I.cell x c e;exact absurd (au q.lt (by simp_all)) (bK _)
 ·exact absurd (au (aj (I.pin p hp).1) (by simp_all)) (bK _)
structure Turn(P:Program)(w:World)(K:PySem.W.Frag)(tg:Expr)(J:It)(fp:List Addr)(it:Addr)(tn:Nat->Heap->Prop):Prop where
 mem:it∈fp
 obj:∀i h,tn i h->∀b∈fp,∃o,h.get? b=some o/\∀v,o.data≠.cell v
 keep:∀i h h',tn i h->(∀b∈fp,∀o,h.get? b=some o->h'.get? b=some o)->tn i h'
 item:∀(X:Cx),X.prog=P->X.w=w->X.K=K->X.calm=true->∀(i:Nat) (pins:List (Addr×Obj)) (s:Shared) (U:St) (H:Hp) (E:Value->Shared->Prop),Inv X pins U H s->(∀b∈fp,C6 X pins H b)->tn i s.heap->J.go i H ->
  wpAny (model P w) X.A (pyNext (.ref it)) (λr s1=>∃ u,r=some u /\
   wpAny (model P w) X.A (letOwnedTupleGo tg (.ref it) u) (λ_ s2=>∃ x H',Inv X pins U H' s2/\RelV x u/\J.pS i H x H'/\tn (i + 1) s2.heap/\∀ b ∈ fp,H' b=none) E s1) E s
 done:∀(X:Cx),X.prog=P->X.w=w->X.K=K->X.calm=true->∀(i:Nat) (pins:List (Addr×Obj)) (s:Shared) (U:St) (H:Hp) (E:Value->Shared->Prop),Inv X pins U H s->(∀b∈fp,C6 X pins H b)->tn i s.heap->J.stop i H ->
  wpAny (model P w) X.A (pyNext (.ref it)) (λr s1=>r=none/\Inv X pins U H s1) E s
 self:∀(A:Around) (i:Nat) (s:Shared) (Q:Value->Shared->Prop) (E:Value->Shared->Prop),tn i s.heap->Q (.ref it) s->wpAny (model P w) A (pyIter (.ref it)) Q E s
noncomputable abbrev TI:=St->Hp->(It->Hp->Prop)->Prop
def IL(X:Cx)(pins:List (Addr×Obj))(U:St)(tg:Expr)(R:It->Hp->Prop)(vi:Value)(s2:Shared):Prop :=
 ∃(it:Addr) (fp:List Addr) (tn:Nat->Heap->Prop) (J:It) (H':Hp),vi=.ref it/\Inv X pins U H' s2/\Turn X.prog X.w X.K tg J fp it tn/\tn 0 s2.heap/\(∀b∈fp,C6 X pins H' b)/\R J H'
def PI(X:Cx)(tg iter:Expr)(wi:TI):Prop :=
 ∀(pins:List (Addr×Obj)) (s:Shared) (U:St) (H:Hp) (R:It->Hp->Prop),Inv X pins U H s->wi U H R ->
  wpAny (model X.prog X.w) X.A (eval iter X.env) (λv s1=>wpAny (model X.prog X.w) X.A (pyIter v) (IL X pins U tg R) X.xe s1) X.xe s
theorem vU{it:Addr}{o:Obj}{n:String}{vs:Array Value}{Q:Unit->Shared->Prop}(ho:s.heap.get? it=some o)(hc:o.cls=.type n)(hd:o.data=.fields vs)(hn:["enumerate","zip","dict_itemiterator","dict_reverseitemiterator","odict_iterator","itertools.zip_longest","itertools.pairwise"].contains n=false)(hQ:Q Unit.unit s):wpAny M A (letOwnedTupleGo tg (.ref it) u) Q E s:=by
  cases tg<;>first
    |exact ah hQ
    | (cases u <;> first
        |exact ah hQ
        | (refine aa (wpAny_load ho ?_)
           rw[hc,hd];show wpAny M A (if(["enumerate","zip","dict_itemiterator","dict_reverseitemiterator","odict_iterator","itertools.zip_longest","itertools.pairwise"].contains n&&vs[0]?==some (rawInt _))=true then _ else _) Q E s;rw[aA (by intro h;rw[hn,Bool.false_and] at h;cases h)];exact ah hQ))
def BR(K:PySem.W.Frag)(a:Addr):It :=
 ⟨λi H=>∃xs x,gs K H a xs/\xs[i]?=some x,λi H x H'=>H'=H/\∀xs,gs K H a xs->xs[i]?=some x,λi H=>∃xs,gs K H a xs/\xs.length<=i⟩
def BP(K:PySem.W.Frag)(a:Addr):It :=
 ⟨λi H=>∃xs x,iw K H a xs/\xs[i]?=some x,λi H x H'=>H'=H/\∀xs,iw K H a xs->xs[i]?=some x,λi H=>∃xs,iw K H a xs/\xs.length<=i⟩
def uI(lo:Int)(n:Nat):It:=⟨λi _=>i<n,λi H x H'=>H'=H/\x=.int (lo+i),λi _=>n<=i⟩
theorem We(a it:Addr):Turn P w K tg (BR K a) [it] it (λi h=>h.IsListIter it a i) where
 mem:=by simp
 obj:=λi h st b hb=>by
  have e:b=it:=by simpa using hb
  subst e;obtain⟨o,e,c,d⟩:=st;exact⟨o,e,λv z=>by simp_all⟩
 keep:=λi h h' st k=>st.at λo e=>k it (by simp) o e
 item:=by
  intro X hP hw hK hc i pins s U H E I hf st hg;subst hP hw hK;obtain⟨xs,x,hq,hx⟩:=hg;obtain⟨bf,rv,p,hz⟩:=I.list hq;obtain⟨u,hu,ru⟩:=rv.get hx;obtain⟨f0,f1,f2,f3,f4,f5⟩:=hf it (by simp);refine wpAny_pyNext_list_item st p.isList (by simpa using hu) λh' aQ sb=>?_;have I1:=I.turned (t':=s.toks) (λb o hb e=>(sb.2 b hb).trans e) f0 f1 f3 f4 f5;obtain⟨o,e,c,d⟩:=id aQ;exact⟨u,rfl,vU e c d ∅ ⟨x,H,I1,ru,⟨rfl,λys hy=>by rw[I.EF hy hq];exact hx⟩,aQ,λb hb=>(hf b hb).1⟩⟩
 done:=by
  intro X hP hw hK hc i pins s U H E I hf st hg;subst hP hw hK;obtain⟨xs,hq,hx⟩:=hg;obtain⟨bf,rv,p,hz⟩:=I.list hq;obtain⟨f0,f1,f2,f3,f4,f5⟩:=hf it (by simp);have hl:=rv.length;exact wpAny_pyNext_list_end (I.ok.hd hc) st p.isList (by simp;omega) λh' eb=>⟨rfl,I.turned (t':=s.toks) (λb o hb e=>eb b o hb e) f0 f1 f3 f4 f5⟩
 self:=λ_ _ _ _ _ st h=>wpAny_pyIter_listiter st h
theorem WQ(a it:Addr):Turn P w K tg (BP K a) [it] it (λi h=>h.IsTupleIter it a i) where
 mem:=by simp
 obj:=λi h st b hb=>by
  have e:b=it:=by simpa using hb
  subst e;obtain⟨o,e,c,d⟩:=st;exact⟨o,e,λv z=>by simp_all⟩
 keep:=λi h h' st k=>st.at λo e=>k it (by simp) o e
 item:=by
  intro X hP hw hK hc i pins s U H E I hf st hg;subst hP hw hK;obtain⟨xs,x,hq,hx⟩:=hg;obtain⟨bf,rv,p,hz⟩:=I.tuple hq;obtain⟨u,hu,ru⟩:=rv.get hx;obtain⟨f0,f1,f2,f3,f4,f5⟩:=hf it (by simp);refine wpAny_pyNext_tuple_item st (show s.heap.IsTuple a bf.toArray from p) (by simpa using hu) λh' aQ sb=>?_;have I1:=I.turned (t':=s.toks) (λb o hb e=>(sb.2 b hb).trans e) f0 f1 f3 f4 f5;obtain⟨o,e,c,d⟩:=id aQ;exact⟨u,rfl,vU e c d ∅ ⟨x,H,I1,ru,⟨rfl,λys hy=>by rw[I.FE hy hq];exact hx⟩,aQ,λb hb=>(hf b hb).1⟩⟩
 done:=by
  intro X hP hw hK hc i pins s U H E I hf st hg;subst hP hw hK;obtain⟨xs,hq,hx⟩:=hg;obtain⟨bf,rv,p,hz⟩:=I.tuple hq;obtain⟨f0,f1,f2,f3,f4,f5⟩:=hf it (by simp);have hl:=rv.length;exact wpAny_pyNext_tuple_end (I.ok.hd hc) st (show s.heap.IsTuple a bf.toArray from p) (by simp;omega) λh' eb=>⟨rfl,I.turned (t':=s.toks) (λb o hb e=>eb b o hb e) f0 f1 f3 f4 f5⟩
 self:=λ_ _ _ _ _ st h=>wpAny_pyIter_tupleiter st h
theorem WO(it:Addr)(lo:Int)(n:Nat):Turn P w K tg (uI lo n) [it] it (λi h=>IsRangeIter h it (lo+(i:Nat)*1) ((n:Int)-(i:Nat)) 1) where
 mem:=by simp
 obj:=λi h st b hb=>by
  have e:b=it:=by simpa using hb
  subst e;exact ⟨_,st,λv z=>by
   have z':Data.fields _=Data.cell v:=z;cases z'⟩
 keep:=λi h h' st k=>k it (by simp) _ st
 item:=by
  intro X hP hw hK hc i pins s U H E I hf st hg;subst hP hw hK;obtain⟨f0,f1,f2,f3,f4,f5⟩:=hf it (by simp);have W:=Walks.range (prog:=X.prog) (w:=X.w) (I.ok.hd hc) it lo 1 n;refine W.item i s _ _ hg st λv h' tk hv aQ kk=>?_;obtain⟨t,rfl⟩:=hv;have I1:Inv X pins U H { s with heap:=h',toks:=tk }:=I.turned (λb o hb e=>kk b o (by simpa using hb) e) f0 f1 f3 f4 f5;refine⟨_,rfl,vU aQ rfl rfl ∅ ⟨.int (lo+i),H,I1,⟨t,?_⟩,⟨rfl,rfl⟩,aQ,λb hb=>(hf b hb).1⟩⟩;rw[Int.mul_one]
 done:=by
  intro X hP hw hK hc i pins s U H E I hf st hg;subst hP hw hK;obtain⟨f0,f1,f2,f3,f4,f5⟩:=hf it (by simp);exact wpAny_pyNext_range_end (I.ok.hd hc) st (by have:n<=i:=hg;omega) λh' eb=>⟨rfl,I.turned (t':=s.toks) (λb o hb e=>eb b o hb e) f0 f1 f3 f4 f5⟩
 self:=λ_ _ _ _ _ st h=>wpAny_pyIter_rangeiter st h
theorem EN{R:It->Hp->Prop}{lo hi:Int}{t u v:Tok}{tk:Nat}(I:Inv X pins U H s)(h1:-(2 ^ 62)<=lo)(h2:lo<2 ^ 62)(h3:-(2 ^ 62)<=hi)(h4:hi<2 ^ 62)(q:R (uI lo (hi-lo).toNat) H):wpAny (model X.prog X.w) X.A (pyIter (.ref s.heap.objs.size)) (IL X pins U tg R) E { s with heap:=s.heap.push { cls:=.type "range",data:=.fields #[.int lo t,.int hi u,.int 1 v] },toks:=tk }:=by
 refine wpAny_pyIter_range (IsRange.new ..) (small_one h1 h2 h3 h4) ?_;have I1:Inv X pins U H { s with heap:=s.heap.push { cls:=.type "range",data:=.fields #[.int lo t,.int hi u,.int 1 v] },toks:=tk }:=I.kept λb o e=>ag _ e;refine ⟨(s.heap.push { cls:=.type "range",data:=.fields #[.int lo t,.int hi u,.int 1 v] }).objs.size,[(s.heap.push { cls:=.type "range",data:=.fields #[.int lo t,.int hi u,.int 1 v] }).objs.size],_,_,H,rfl,
  I1.kept (t':=tk) λb o e=>ag _ e,WO _ lo (hi - lo).toNat,?_,λb hb=>?_,q⟩
 ·have e1:lo+((0:Nat):Int)*1=lo:=by simp
  have e2:(((hi-lo).toNat:Nat):Int)-((0:Nat):Int)=Builtin.Range.rangeSize lo hi 1:=by rw[rangeSize_one];split<;>omega
  rw[e1,e2];exact ak _ rfl
 ·have e:b=(s.heap.push { cls:=.type "range",data:=.fields #[.int lo t,.int hi u,.int 1 v] }).objs.size:=by simpa using hb
  subst e;exact I1.Y0 (ai _) (I1.bB.fresh (ai _))
def So(ta:TA):TI:=λU H R=>ta U H λvs H1=>∃j:Int,vs=[.int j]/\-(2 ^ 62)<=j/\j<2 ^ 62/\R (uI 0 j.toNat) H1
def Sq(ta:TA):TI:=λU H R=>ta U H λvs H1=>∃i j:Int,vs=[.int i,.int j]/\(-(2 ^ 62)<=i/\i<2 ^ 62/\-(2 ^ 62)<=j/\j<2 ^ 62)/\R (uI i (j-i).toNat) H1
theorem VN{a:Expr}{ta:TA}(hg:Gl X "range")(hm:X.mg "range"=none)(ha:PA X [a] ta)(hs:starEach [a] X.env=[(false,eval a X.env)]:=by rfl):PI X tg (.Call (.Name "range" p) [a] [] pos) (So ta):=by
 intro pins s U H R I h;refine Call_ (K9 I hg hm boot_range (cp (cL (ha pos pins s U H _ I h) λus s1 br=>?_) hs rfl));obtain⟨vs,H1,I1,r1,q1⟩:=br;obtain⟨j,e,q1,q2,q⟩:=q1;subst e;cases r1 with
 |cons r rr =>
  cases rr;obtain⟨t,rfl⟩:=r;exact call_range_1 (EN I1 () () q1 q2 (by simpa using q))
theorem VO{a b:Expr}{ta:TA}(hg:Gl X "range")(hm:X.mg "range"=none)(ha:PA X [a,b] ta)(hs:starEach [a,b] X.env=[(false,eval a X.env),(false,eval b X.env)]:=by rfl)(fO:starEach [b] X.env=[(false,eval b X.env)]:=by rfl) :
  PI X tg (.Call (.Name "range" p) [a,b] [] pos) (Sq ta):=by
 intro pins s U H R I h;refine Call_ (K9 I hg hm boot_range (cp (cL (ha pos pins s U H _ I h) λus s1 br=>?_) (by rw[hs,fO]) (by rw[fO];rfl)));obtain⟨vs,H1,I1,r1,q1⟩:=br;obtain⟨i,j,e,⟨q1,q2,q3,q4⟩,q⟩:=q1;subst e;cases r1 with
 |cons r rr =>
  cases rr with
  |cons r' rr =>
   cases rr;obtain⟨t,rfl⟩:=r;obtain⟨t',rfl⟩:=r';exact call_range_2 (EN I1 q1 q2 q3 q4 q)
def RO(wi:TI)(g:TG)(tb:TS):TS:=λD U H=>wi U H λJ H1=>∃W:Nat->Nat->St->Hp->Prop,(∃m,W 0 m U H1)/\∀i m U H,W i m U H ->
 (J.stop i H/\D.nx U H)\/(J.go i H/\∃N:St->Hp->Prop,(∀cx H',N cx H'->∃m',m'<m/\W (i+1) m' cx H')/\∀x H',J.pS i H x H'->g x U H' λdz H2=>tb { D with nx:=N,ct:=N,bk:=D.nx } dz H2)
def W5(fp:List Addr)(h:Heap):List (Addr×Obj):=fp.filterMap λb=>(h.get? b).map λo=>(b,o)
theorem T1{o:Obj}(hb:b∈fp)(e:h.get? b=some o):(b,o)∈W5 fp h:=fV.mpr ⟨b,hb,by rw[e];rfl⟩
theorem VE{p:Addr×Obj}(hp:p∈W5 fp h):p.1∈fp/\h.get? p.1=some p.2:=by
 obtain⟨b,hb,e⟩:=fV.mp hp;cases q:h.get? b with
 |none=>simp_all
 |some o =>
  rw[q] at e;have e':=aq e;subst e';exact⟨hb,q⟩
theorem Inv.pinned(I:Inv X pins U H s)(hf:∀b∈fp,C6 X pins H b)(ho:∀b∈fp,∃o,s.heap.get? b=some o/\∀v,o.data≠.cell v):Inv X (pins++W5 fp s.heap) U H s :=
 I.Q5 λp hp=>(aX.mp hp).elim (λz=>I.pin p (aM _ z)) λz=>by
  obtain⟨hb,e⟩:=VE z;obtain⟨f0,f1,f2,_⟩:=hf p.1 hb;obtain⟨o,e',d⟩:=ho p.1 hb;rw[e] at e';cases e';exact⟨e,f0,f1,f2,d⟩
theorem Inv.AH{pl:List (Addr×Obj)}(I:Inv X (pins++pl) U H s):Inv X pins U H s:=I.Q5 λp hp=>I.pin p (aM _ (bq _ hp))
theorem Nz{iter:Expr}{body:List Stmt}{wi:TI}{g:TG}{tb:TS}(hp:PassesOwn (model X.prog X.w) X.A X.env X.xe)(hc:X.calm=true)(hi:PI X tg iter wi)(hg:PG X tg g)(hb:iZ X body tb)(hs:∀x,foldedSetIterable iter X.env x=pure x:=by intro _;rfl):PS X (.For tg iter body [] pos) (RO wi g tb):=by
 intro pins s U H D I h;refine wpAny_For (cL (hi pins s U H _ I h) λv s1 h1=>cL h1 λvi s2 h2=>?_) hs;obtain⟨it,fp,tn,J,H2,e,I2,T,gI,f2,W,⟨m0,w0⟩,turn⟩:=h2;subst e;have oH:∀{H':Hp},(∀b∈fp,H' b=none)->∀b∈fp,C6 X pins H' b:=λhn b hb=>⟨hn b hb,(f2 b hb).2⟩
 refine codeAny_forLoop_any (λn s'=>∃i cx H',Inv X pins cx H' s'/\tn i s'.heap/\(∀b∈fp,H' b=none)/\W i n cx H') ?_ m0 ⟨0,U,H2,I2,gI,λb hb=>(f2 b hb).1,w0⟩;rintro n s3 ⟨i,kM,H3,I3,ji,tK,w3⟩;rcases turn i n kM H3 w3 with⟨stop,qn⟩|⟨go,N,hN,step⟩
 ·refine gu hp (cL (T.done X rfl rfl rfl hc i pins s3 kM H3 X.xe I3 (oH tK) ji stop) λr s4 ⟨hr,I4⟩=>?_);subst hr;exact qY ⟨kM,H3,I4,qn⟩
 ·refine gu hp (cL (T.item X rfl rfl rfl hc i pins s3 kM H3 X.xe I3 (oH tK) ji go) λr s4 ⟨u,hr,h4⟩=>?_);subst hr;refine gu hp (cL h4 λ_ s5 br=>?_);obtain⟨x,H5,I5,r5,y5,mY,ze⟩:=br;have BS:=I5.pinned (oH ze) (T.obj _ _ mY);refine gu hp (cL (hg _ s5 kM H5 x u _ BS r5 (step x H5 y5)) λ_ s6 br=>?_);obtain⟨ow,H6,I6,q6⟩:=br;refine gu hp (cL (hb _ s6 ow H6 _ I6 q6) λf s7 q7=>?_);have again:∀{lM:St} {H7:Hp},Inv X (pins++W5 fp s5.heap) lM H7 s7->N lM H7->∃m,m<n/\∃i cx H',Inv X pins cx H' s7/\tn i s7.heap/\(∀b∈fp,H' b=none)/\W i m cx H':=λ{lM H7} I7 n7=>by
   obtain⟨m',hm,w7⟩:=hN lM H7 n7;refine⟨m',hm,i+1,lM,H7,I7.AH,T.keep _ _ _ mY λb hb o e=>(I7.pin (b,o) (aM _ (aM _ (T1 hb e)))).1,λb hb=>?_,w7⟩;obtain⟨o,e,d⟩:=T.obj _ _ mY b hb;exact(I7.pin (b,o) (aM _ (aM _ (T1 hb e)))).2.1
  cases f with
  |next=>obtain⟨lM,H7,I7,n7⟩:=q7;exact again I7 n7
  |cont=>obtain⟨lM,H7,I7,n7⟩:=q7;exact again I7 n7
  |brk=>obtain⟨lM,H7,I7,q7⟩:=q7;exact⟨lM,H7,I7.AH,q7⟩
  |ret v=>obtain⟨x7,lM,H7,I7,r7,q7⟩:=q7;exact⟨x7,lM,H7,I7.AH,r7,q7⟩
noncomputable abbrev R2:=V->V->Hp->VK->Prop
def fF(X:Cx)(f:Value->Value->Sem Value)(r:R2):Prop :=
 ∀(pins:List (Addr×Obj)) (s:Shared) (U:St) (H:Hp) (x y:V) (v u:Value) (Q:VK),Inv X pins U H s->RelV x v->RelV y u->r x y H Q ->
  wpAny (model X.prog X.w) X.A (f v u) (EP X pins U Q) X.xe s
def wY(X:Cx)(f:Value->Sem Value)(r:V->Hp->VK->Prop):Prop :=
 ∀(pins:List (Addr×Obj)) (s:Shared) (U:St) (H:Hp) (x:V) (v:Value) (Q:VK),Inv X pins U H s->RelV x v->r x H Q ->
  wpAny (model X.prog X.w) X.A (f v) (EP X pins U Q) X.xe s
def k9(X:Cx)(f:Value)(r:List V->Hp->VK->Prop):Prop :=
 ∀(pins:List (Addr×Obj)) (s:Shared) (U:St) (H:Hp) (xs:List V) (us:List Value) (Q:VK),Inv X pins U H s->Vals xs us->r xs H Q ->
  wpAny (model X.prog X.w) X.A (call f us) (EP X pins U Q) X.xe s
def QJ(X:Cx)(r:V->Hp->(Bool->Hp->Prop)->Prop):Prop :=
 ∀(pins:List (Addr×Obj)) (s:Shared) (U:St) (H:Hp) (x:V) (v:Value) (Q:Bool->Hp->Prop),Inv X pins U H s->RelV x v->r x H Q ->
  wpAny (model X.prog X.w) X.A (truthy v) (TP X pins U Q) X.xe s
def pT(r:R2)(ta tb:TE):TE:=λU H Q=>ta U H λx H1=>tb U H1 λy H2=>r x y H2 Q
def Jn(r:V->Hp->VK->Prop)(ta:TE):TE:=λU H Q=>ta U H λx H1=>r x H1 Q
def rI(C:Int->Int->Prop)(g:Int->Int->V):R2:=λx y H Q=>∃i j,x=.int i/\y=.int j/\C i j/\Q (g i j) H
def my(g:Int->Int->V):R2:=λx y H Q=>∃i j,x=.int i/\y=.int j/\Q (g i j) H
def rU(g:Int->V):V->Hp->VK->Prop:=λx H Q=>∃i,x=.int i/\Q (g i) H
section
variable{a b:Expr}
theorem BD(ha:PE X a ta)(hb:PE X b tb){R:V->V->Hp->Prop}(I:Inv X pins U H s)(h:ta U H λx H1=>tb U H1 λy H2=>R x y H2){f:Value->Value->Sem Value}(hf:∀v u s2 x y H2,Inv X pins U H2 s2->RelV x v->RelV y u->R x y H2->wpAny (model X.prog X.w) X.A (f v u) Q X.xe s2) :
  wpAny (model X.prog X.w) X.A (eval a X.env) (λv bE=>wpAny (model X.prog X.w) X.A (eval b X.env) (λu eV=>wpAny (model X.prog X.w) X.A (f v u) Q X.xe eV) X.xe bE) X.xe s:=by
 refine cL (ha pins s U H _ I h) λv s1 br=>?_;obtain⟨x,H1,I1,r1,q1⟩:=br;refine cL (hb pins s1 U H1 _ I1 q1) λu s2 br=>?_;obtain⟨y,H2,I2,r2,q2⟩:=br;exact hf v u s2 x y H2 I2 r1 r2 q2
theorem Tf{op:Operator}(ho:fF X (binaryOp op) r)(ha:PE X a ta)(hb:PE X b tb):PE X (.BinOp a op b pos) (pT r ta tb):=by
 intro pins s U H Q I h;exact wpAny_BinOp (BD ha hb I h λv u s2 x y H2 I2 rx ry q=>ho pins s2 U H2 x y v u Q I2 rx ry q)
theorem Th{op:UnaryOp}{r:V->Hp->VK->Prop}(ho:wY X (unaryOp op) r)(ha:PE X a ta):PE X (.UnaryOp op a pos) (Jn r ta):=by
 intro pins s U H Q I h;exact UnaryOp_ (cL (ha pins s U H _ I h) λv s1 ⟨x,H1,I1,r1,q1⟩=>ho pins s1 U H1 x v Q I1 r1 q1)
theorem se{f:Value->Value->Sem Value}{C:Int->Int->Prop}{g:Int->Int->Int}(rule:∀(i j:Int) (t u:Tok) (s:Shared) (Q:Value->Shared->Prop) (E:Value->Shared->Prop),C i j->Q (.int (g i j) s.toks) { s with toks:=s.toks+1 }->wpAny (model X.prog X.w) X.A (f (.int i t) (.int j u)) Q E s) :
  fF X f (rI C λi j=>.int (g i j)):=by
 intro pins s U H x y v u Q I rx ry h;obtain⟨i,j,rfl,rfl,hc,q⟩:=h;obtain⟨t,rfl⟩:=rx;obtain⟨t',rfl⟩:=ry;exact rule i j t t' s _ _ hc ⟨.int (g i j),H,I.tok _,⟨_,rfl⟩,q⟩
theorem wU{f:Value->Value->Sem Value}{g:Int->Int->Int}(rule:∀(i j:Int) (t u:Tok) (s:Shared) (Q:Value->Shared->Prop) (E:Value->Shared->Prop),Q (.int (g i j) s.toks) { s with toks:=s.toks+1 }->wpAny (model X.prog X.w) X.A (f (.int i t) (.int j u)) Q E s) :
  fF X f (my λi j=>.int (g i j)):=by
 intro pins s U H x y v u Q I rx ry h;obtain⟨i,j,rfl,rfl,q⟩:=h;obtain⟨t,rfl⟩:=rx;obtain⟨t',rfl⟩:=ry;exact rule i j t t' s _ _ ⟨.int (g i j),H,I.tok _,⟨_,rfl⟩,q⟩
theorem wR{f:Value->Value->Sem Value}{g:Int->Int->Bool}(rule:∀(i j:Int) (t u:Tok) (s:Shared) (Q:Value->Shared->Prop) (E:Value->Shared->Prop),Q (.bool (g i j)) s->wpAny (model X.prog X.w) X.A (f (.int i t) (.int j u)) Q E s) :
  fF X f (my λi j=>.bl (g i j)):=by
 intro pins s U H x y v u Q I rx ry h;obtain⟨i,j,rfl,rfl,q⟩:=h;obtain⟨t,rfl⟩:=rx;obtain⟨t',rfl⟩:=ry;exact rule i j t t' s _ _ ⟨.bl (g i j),H,I,rfl,q⟩
def Bv(i j:Int):Prop:=0<j/\j<1073741824
def O6(i j:Int):Prop:=0<=j/\j<=1000000/\i.natAbs<2 ^ 64
def pF(i j:Int):Prop:=(-(2 ^ 64)<i/\i<2 ^ 64)\/(-(2 ^ 64)<j/\j<2 ^ 64)
theorem pF.ok{i j:Int}(h:pF i j):IntMulOk i j:=by
 rcases h with⟨h1,h2⟩|⟨h1,h2⟩
 ·exact .of_left (intBits_le_64 h1 h2)
 ·exact .of_right (intBits_le_64 h1 h2)
theorem MV:fF X (binaryOp .Add) (my λi j=>.int (i+j)):=wU λ_ _ _ _ _ _ _ q=>add_int q
theorem Nf:fF X (binaryOp .Sub) (my λi j=>.int (i-j)):=wU λ_ _ _ _ _ _ _ q=>sub_int q
theorem Na:fF X (binaryOp .Mult) (rI pF λi j=>.int (i*j)):=se λ_ _ _ _ _ _ _ hc q=>mul_int q hc.ok
theorem Po:fF X (binaryOp .FloorDiv) (rI Bv λi j=>.int (i / j)):=se λi j _ _ _ _ _ hc q=>by
 have h1:=hc.1;have h2:=hc.2;exact floordiv_int () (by rw[Int.fdiv_eq_ediv_of_nonneg i ()];exact q) (.inl (PyProof.noPylong_small ()))
theorem M':fF X (binaryOp .Mod) (rI (λ_ j=>0<j) λi j=>.int (i % j)):=se λi j _ _ _ _ _ hc q=>by
 exact mod_int' () (by rw[Int.fmod_eq_emod_of_nonneg i ()];exact q)
theorem Nb:fF X (binaryOp .Pow) (rI O6 λi j=>.int (i ^ j.toNat)):=se λ_ _ _ _ _ _ _ hc q=>pow_int_small hc.1 hc.2.1 hc.2.2 q
theorem Nc:fF X (binaryOp .LShift) (rI O6 λi j=>.int (i*2 ^ j.toNat)):=se λ_ _ _ _ _ _ _ hc q=>lshift_int_small hc.1 hc.2.1 hc.2.2 q
theorem MW:fF X (binaryOp .BitAnd) (my λi j=>.int (Builtin.bitAnd i j)):=wU λ_ _ _ _ _ _ _ q=>and_int q
theorem SY:fF X (binaryOp .BitOr) (my λi j=>.int (Builtin.bitOr i j)):=wU λ_ _ _ _ _ _ _ q=>or_int q
theorem Jl{f:Value->Sem Value}{g:Int->Int}(rule:∀(i:Int) (t:Tok) (s:Shared) (Q:Value->Shared->Prop) (E:Value->Shared->Prop),Q (.int (g i) s.toks) { s with toks:=s.toks+1 }->wpAny (model X.prog X.w) X.A (f (.int i t)) Q E s) :
  wY X f (rU λi=>.int (g i)):=by
 intro pins s U H x v Q I rx h;obtain⟨i,rfl,q⟩:=h;obtain⟨t,rfl⟩:=rx;exact rule i t s _ _ ⟨.int (g i),H,I.tok _,⟨_,rfl⟩,q⟩
theorem Ov:wY X (unaryOp .USub) (rU λi=>.int (-i)):=Jl λ_ _ _ _ _ q=>neg_int q
end
def D':V->V->Bool
 |.bA,.bA=>true|.bA,.int _=>true|.int _,.bA=>true|.bA,.bl _=>true|.bl _,.bA=>true|.bA,.str _=>true|.str _,.bA=>true
 |.int _,.int _=>true|.bl _,.bl _=>true|.str _,.str _=>true|.kG _,.kG _=>true
 |.int _,.str _=>true|.str _,.int _=>true|.bl _,.str _=>true|.str _,.bl _=>true
 |_,_=>false
def JB:R2:=λx y H Q=>D' x y=true/\Q (.bl (decide (x=y))) H
def JA:R2:=λx y H Q=>D' x y=true/\Q (.bl (!decide (x=y))) H
theorem He{i j:Int}:decide (V.int i=V.int j)=(i==j):=by
 rw[cT];simp
theorem wo{i j:Bool}:decide (V.bl i=V.bl j)=(i==j):=by
 rw[cT];simp
theorem Hf{i j:Str}:decide (V.str i=V.str j)=(i==j):=by
 rw[cT];simp
theorem Hd{i j:Array UInt8}:decide (V.kG i=V.kG j)=(i.toList==j.toList):=by
 rw[cT];simp
section
variable{a b:Expr}{tc:TE}
theorem i0{Q:VK}{k k':Bool}(I:Inv X pins U H s)(q:Q (.bl k) H)(e:k=k'):EP X pins U Q (.bool k') s:=by
 subst e;exact⟨.bl k,H,I,rfl,q⟩
theorem Bb:fF X (compareOp .Eq) JB:=by
 intro pins s U H x y v u Q I rx ry h;obtain⟨hs,q⟩:=h;cases x with
 |bA =>
  cases rx;cases y with
  |bA=>cases ry;exact PySem.EqNone.eq_none_none (i0 I q (by simp))
  |bl j=>cases ry;exact PySem.EqNone.eq_none_bool (i0 I q (by simp))
  |int j=>obtain⟨t',rfl⟩:=ry;exact PySem.EqNone.eq_none_int (i0 I q (by simp))
  |str j=>obtain⟨t',rfl⟩:=ry;exact PySem.EqNone.eq_none_str (i0 I q (by simp))
  |_=>exact absurd (show false=true from hs) Bool.false_ne_true
 |bl i =>
  cases rx;cases y with
  |bA=>cases ry;exact PySem.EqNone.eq_bool_none (i0 I q (by simp))
  |bl j=>cases ry;exact eq_bool (i0 I q wo)
  |str j=>obtain⟨t',rfl⟩:=ry;exact PySem.EqMixed.eq_bool_str (i0 I q (by simp))
  |_=>exact absurd (show false=true from hs) Bool.false_ne_true
 |int i =>
  obtain⟨t,rfl⟩:=rx;cases y with
  |bA=>cases ry;exact PySem.EqNone.eq_int_none (i0 I q (by simp))
  |int j=>obtain⟨t',rfl⟩:=ry;exact eq_int (i0 I q He)
  |str j=>obtain⟨t',rfl⟩:=ry;exact PySem.EqMixed.eq_int_str (i0 I q (by simp))
  |_=>exact absurd (show false=true from hs) Bool.false_ne_true
 |str i =>
  obtain⟨t,rfl⟩:=rx;cases y with
  |bA=>cases ry;exact PySem.EqNone.eq_str_none (i0 I q (by simp))
  |bl j=>cases ry;exact PySem.EqMixed.eq_str_bool (i0 I q (by simp))
  |int j=>obtain⟨t',rfl⟩:=ry;exact PySem.EqMixed.eq_str_int (i0 I q (by simp))
  |str j=>obtain⟨t',rfl⟩:=ry;exact eq_str (i0 I q Hf)
  |_=>exact absurd (show false=true from hs) Bool.false_ne_true
 |kG i =>
  obtain⟨t,rfl⟩:=rx;cases y with
  |kG j=>obtain⟨t',rfl⟩:=ry;exact PySem.W.eq_bytes (i0 I q Hd)
  |_=>exact absurd (show false=true from hs) Bool.false_ne_true
 |_=>cases y<;>exact absurd (show false=true from hs) ei
theorem Bc:fF X (compareOp .NotEq) JA:=by
 intro pins s U H x y v u Q I rx ry h;obtain⟨hs,q⟩:=h;cases x with
 |bA =>
  cases rx;cases y with
  |bA=>cases ry;exact PySem.EqNone.ne_none_none (i0 I q (by simp))
  |bl j=>cases ry;exact PySem.EqNone.ne_none_bool (i0 I q (by simp))
  |int j=>obtain⟨t',rfl⟩:=ry;exact PySem.EqNone.ne_none_int (i0 I q (by simp))
  |str j=>obtain⟨t',rfl⟩:=ry;exact PySem.EqNone.ne_none_str (i0 I q (by simp))
  |_=>exact absurd (show false=true from hs) Bool.false_ne_true
 |bl i =>
  cases rx;cases y with
  |bA=>cases ry;exact PySem.EqNone.ne_bool_none (i0 I q (by simp))
  |bl j=>cases ry;exact ne_bool (i0 I q (congrArg not wo))
  |str j=>obtain⟨t',rfl⟩:=ry;exact PySem.EqMixed.ne_bool_str (i0 I q (by simp))
  |_=>exact absurd (show false=true from hs) Bool.false_ne_true
 |int i =>
  obtain⟨t,rfl⟩:=rx;cases y with
  |bA=>cases ry;exact PySem.EqNone.ne_int_none (i0 I q (by simp))
  |int j=>obtain⟨t',rfl⟩:=ry;exact ne_int (i0 I q (congrArg not He))
  |str j=>obtain⟨t',rfl⟩:=ry;exact PySem.EqMixed.ne_int_str (i0 I q (by simp))
  |_=>exact absurd (show false=true from hs) Bool.false_ne_true
 |str i =>
  obtain⟨t,rfl⟩:=rx;cases y with
  |bA=>cases ry;exact PySem.EqNone.ne_str_none (i0 I q (by simp))
  |bl j=>cases ry;exact PySem.EqMixed.ne_str_bool (i0 I q (by simp))
  |int j=>obtain⟨t',rfl⟩:=ry;exact PySem.EqMixed.ne_str_int (i0 I q (by simp))
  |str j=>obtain⟨t',rfl⟩:=ry;exact ne_str (i0 I q (congrArg not Hf))
  |_=>exact absurd (show false=true from hs) Bool.false_ne_true
 |kG i =>
  obtain⟨t,rfl⟩:=rx;cases y with
  |kG j=>obtain⟨t',rfl⟩:=ry;exact PySem.W.ne_bytes (i0 I q (congrArg not Hd))
  |_=>exact absurd (show false=true from hs) Bool.false_ne_true
 |_=>cases y<;>exact absurd (show false=true from hs) ei
theorem SX:fF X (compareOp .Lt) (my λi j=>.bl (decide (i<j))):=wR λ_ _ _ _ _ _ _ q=>lt_int q
theorem SW:fF X (compareOp .LtE) (my λi j=>.bl (decide (i<=j))):=wR λ_ _ _ _ _ _ _ q=>le_int q
theorem SV:fF X (compareOp .Gt) (my λi j=>.bl (decide (j<i))):=wR λ_ _ _ _ _ _ _ q=>gt_int q
theorem SU:fF X (compareOp .GtE) (my λi j=>.bl (decide (j<=i))):=wR λ_ _ _ _ _ _ _ q=>ge_int q
theorem VG:fF X (compareOp .In) (λx y H Q=>∃i j,x=.str i/\y=.str j/\Q (.bl (!(Builtin.Str.occurrences j i 0 j.length 1).isEmpty)) H):=by
 intro pins s U H x y v u Q I rx ry h;obtain⟨i,j,rfl,rfl,q⟩:=h;obtain⟨t,rfl⟩:=rx;obtain⟨t',rfl⟩:=ry;exact in_str (i0 I q rfl)
theorem MZ:fF X (compareOp .Is) (λx y H Q=>y=.bA/\Q (.bl (decide (x=.bA))) H):=by
 intro pins s U H x y v u Q I rx ry h;obtain⟨rfl,q⟩:=h;cases ry;refine is_none_gen (i0 I q ?_);cases x<;>first
  |(cases rx;rfl)
  |(obtain⟨t,rfl⟩:=rx;rfl)
theorem Pp:fF X (compareOp .IsNot) (λx y H Q=>y=.bA/\Q (.bl (!decide (x=.bA))) H):=by
 intro pins s U H x y v u Q I rx ry h;obtain⟨rfl,q⟩:=h;cases ry;refine isnot_none_gen (i0 I q ?_);cases x<;>first
  |(cases rx;rfl)
  |(obtain⟨t,rfl⟩:=rx;rfl)
theorem Uc:fF X (compareOp .NotIn) (λx y H Q=>∃i j,x=.str i/\y=.str j/\Q (.bl (!(!(Builtin.Str.occurrences j i 0 j.length 1).isEmpty))) H):=by
 intro pins s U H x y v u Q I rx ry h;obtain⟨i,j,rfl,rfl,q⟩:=h;obtain⟨t,rfl⟩:=rx;obtain⟨t',rfl⟩:=ry;exact notIn_str (i0 I q rfl)
theorem Px(ho:fF X (compareOp op) r)(ha:PE X a ta)(hb:PE X b tb)(hm:behindInMarks op b=false):PE X (.Compare a [op] [b] pos) (pT r ta tb):=by
 intro pins s U H Q I h;exact wpAny_Compare1 (BD ha hb I h λv u s2 x y H2 I2 rx ry q=>ho pins s2 U H2 x y v u Q I2 rx ry q) hm
def Bk(t:TE):TT:=λU H Q=>t U H λx H'=>∃k,x=.bl k/\Q k H'
theorem PU(ho:fF X (compareOp op) r)(ha:PE X a ta)(hb:PE X b tb)(hm:behindInMarks op b=false):PT X (.Compare a [op] [b] pos) (Bk (pT r ta tb)):=by
 intro pins s U H Q I h;refine wpAny_isTrue_Compare1 (cL (ha pins s U H _ I h) λv s1 ⟨x,H1,I1,r1,q1⟩=>cL (hb pins s1 U H1 _ I1 q1) λu s2 ⟨y,H2,I2,r2,q2⟩ =>
  cL (ho pins s2 U H2 x y v u _ I2 r1 r2 q2) λc s3 ⟨z,H3,I3,r3,k,e,q3⟩=>?_) hm
 subst e;cases r3;exact cu ⟨H3,I3,q3⟩
def zQ(r r':R2)(ta tb tc:TE):TE:=λU H Q=>ta U H λx H1=>tb U H1 λy H2=>r x y H2 λz H3=>∃k,z=.bl k /\
 (if k=true then tc U H3 λw' H4=>r' y w' H4 Q else Q (.bl false) H3)
theorem Yb{hZ:CmpOp}{r':R2}(ho:fF X (compareOp op) r)(mB:fF X (compareOp hZ) r')(ha:PE X a ta)(hb:PE X b tb)(hc:PE X c tc)(hm:lastMarks [op,hZ] [b,c]=false:=by with_unfolding_all rfl):PE X (.Compare a [op,hZ] [b,c] pos) (zQ r r' ta tb tc):=by
 intro pins s U H Q I h;refine Compare_chain (cL (ha pins s U H _ I h) λv s1 ⟨x,H1,I1,r1,q1⟩=>chain_link (cL (hb pins s1 U H1 _ I1 q1) λu s2 ⟨y,H2,I2,r2,q2⟩ =>
  cL (ho pins s2 U H2 x y v u _ I2 r1 r2 q2) λd s3 ⟨z,H3,I3,r3,k,e,q3⟩=>?_)) hm
 subst e;cases r3;refine cu ?_;cases k with
 |false=>exact ite_ff ⟨.bl false,H3,I3,rfl,q3⟩
 |true=>exact ite_tt (chain_last (cL (hc pins s3 U H3 _ I3 q3) λw' s4 ⟨z',H4,I4,r4,q4⟩=>mB pins s4 U H4 y z' u w' Q I4 r2 r4 q4))
theorem Yj{hZ:CmpOp}{r':R2}(ho:fF X (compareOp op) r)(mB:fF X (compareOp hZ) r')(ha:PE X a ta)(hb:PE X b tb)(hc:PE X c tc)(hm:lastMarks [op,hZ] [b,c]=false:=by with_unfolding_all rfl):PT X (.Compare a [op,hZ] [b,c] pos) (Bk (zQ r r' ta tb tc)):=by
 intro pins s U H Q I h;refine isTrue_chain (cL (ha pins s U H _ I h) λv s1 ⟨x,H1,I1,r1,q1⟩=>test_link (cL (hb pins s1 U H1 _ I1 q1) λu s2 ⟨y,H2,I2,r2,q2⟩ =>
  cL (ho pins s2 U H2 x y v u _ I2 r1 r2 q2) λd s3 ⟨z,H3,I3,r3,k,e,q3⟩=>?_)) hm
 subst e;cases r3;refine cu ?_;cases k with
 |false =>
  obtain⟨k',e',q'⟩:=q3;cases e';exact ite_ff ⟨H3,I3,q'⟩
 |true =>
  refine ite_tt (test_last (cL (hc pins s3 U H3 _ I3 q3) λw' s4 ⟨z',H4,I4,r4,q4⟩=>cL (mB pins s4 U H4 y z' u w' _ I4 r2 r4 q4) λd' s5 br=>?_));obtain⟨z2,H5,I5,r5,k2,e2,q5⟩:=br;subst e2;cases r5;exact cu ⟨H5,I5,q5⟩
def By(K:PySem.W.Frag)(x:V)(H:Hp)(k:Bool):Prop :=
 match x with
 |.bA=>k=false
 |.bl b=>k=b
 |.int i=>k=(i != 0)
 |.str y=>y.length<=sizeLine/\k=((y.length:Int) != 0)
 |.kG y=>y.size<=sizeLine/\k=((y.size:Int) != 0)
 |.ref p=>(∃xs,gs K H p xs/\k=!xs.isEmpty)\/(∃xs,iw K H p xs/\k=!xs.isEmpty)\/∃aU,H p=some (.dK aU)/\k=!aU.isEmpty
 |_=>False
theorem Wt{κ:Type}{aU:List (κ×V)}{vs:List (κ×Value)}(r:KV aU vs):(!vs.isEmpty)=!aU.isEmpty:=by
 cases r<;>rfl
theorem FP{bf:List Value}(r:Vals xs bf):(!bf.toArray.isEmpty)=!xs.isEmpty:=by
 cases r<;>simp
theorem R0:(sizeLine:Nat)<2 ^ 63:=by rw[fU];decide
theorem Ot:QJ X (λx H Q=>∃k,By X.K x H k/\Q k H):=by
 intro pins s U H x v Q I rx h;obtain⟨k,e,q⟩:=h;have hs:=fU;cases x with
 |bA =>
  cases rx;have e':=e;subst e';exact truthy_none ⟨H,I,q⟩
 |bl b =>
  cases rx;have e':=e;subst e';exact cu ⟨H,I,q⟩
 |int i =>
  obtain⟨t,rfl⟩:=rx;have e':=e;subst e';exact PySem.P.truthy_int ⟨H,I,q⟩
 |str y =>
  obtain⟨t,rfl⟩:=rx;obtain⟨hy,e'⟩:=e;subst e';exact PySem.P.truthy_str () ⟨H,I.tok _,q⟩
 |kG y =>
  obtain⟨t,rfl⟩:=rx;obtain⟨hy,e'⟩:=e;subst e';exact PySem.W.truthy_bytes () ⟨H,I.tok _,q⟩
 |ref p =>
  cases rx;have e':=e;rcases e' with⟨xs,hx,e'⟩|⟨xs,hx,e'⟩|⟨aU,hx,e'⟩
  ·subst e';obtain⟨bf,r,pl,hz⟩:=I.list hx;have hlen:=r.length;exact wpAny_truthy_list pl.isList (by simp only[List.size_toArray];omega) ⟨H,I.tok _,by rw[FP r];exact q⟩
  ·subst e';obtain⟨bf,r,pl,hz⟩:=I.tuple hx;have hlen:=r.length;exact truthy_tuple pl (by simp only[List.size_toArray];omega) ⟨H,I.tok _,by rw[FP r];exact q⟩
  ·subst e';obtain⟨hz,hS,vs,r,m⟩:=I.bB p _ hx;have hlen:=lh r;exact wpAny_truthy_dict hS m () ⟨H,I.tok _,by rw[Wt r];exact q⟩
 |_=>exact(show False from e).elim
theorem Uu(ha:PE X a ta)(he:∀whole,isTrue a X.env whole=(do let v <- whole;standAt a.pos;holding [v] (truthy v))) :
  PT X a (λU H Q=>ta U H λx H'=>∃k,By X.K x H' k/\Q k H'):=by
 intro pins s U H Q I h;exact isTrue_plain (cL (ha pins s U H _ I h) λv s1 ⟨x,H1,I1,r1,q1⟩=>Ot pins s1 U H1 x v Q I1 r1 q1) (he _)
theorem WH:fF X (binaryOp .Add) (λx y H Q=>∃i j,x=.str i/\y=.str j/\i.length+j.length<=sizeLine/\Q (.str (i++j)) H):=by
 intro pins s U H x y v u Q I rx ry h;obtain⟨i,j,rfl,rfl,hz,q⟩:=h;obtain⟨t,rfl⟩:=rx;obtain⟨t',rfl⟩:=ry;exact add_str (λt' tk=>⟨.str (i++j),H,I.tok _,⟨_,rfl⟩,q⟩) hz
theorem vals1{x:V}(r:Vals [x] us):∃u,us=[u]/\RelV x u:=by
 cases r with
 |cons r1 r2=>cases r2;exact⟨_,rfl,r1⟩
theorem vals2{x y:V}(r:Vals [x,y] us):∃u w',us=[u,w']/\RelV x u/\RelV y w':=by
 cases r with
 |cons r1 r2 =>
  cases r2 with
  |cons r3 r4=>cases r4;exact⟨_,_,rfl,r1,r3⟩
theorem Fh:k9 X (.type "int") (λxs H Q=>(∃i,xs=[.int i]/\Q (.int i) H)\/∃k,xs=[.bl k]/\Q (.int (if k then 1 else 0)) H):=by
 intro pins s U H xs us Q I r h;rcases h with⟨i,rfl,q⟩|⟨k,rfl,q⟩
 ·obtain⟨u,rfl,t,rfl⟩:=vals1 r;exact call_int_int ⟨.int i,H,I,⟨_,rfl⟩,q⟩
 ·obtain⟨u,rfl,r1⟩:=vals1 r;cases r1;exact call_int_bool ⟨.int (if k then 1 else 0),H,I.tok _,⟨_,rfl⟩,q⟩
theorem TM:k9 X (.type "str") (λxs H Q=>∃i,xs=[.int i]/\i.natAbs.log2<1920/\Q (.str (toString i)) H):=by
 intro pins s U H xs us Q I r h;obtain⟨i,rfl,hz,q⟩:=h;obtain⟨u,rfl,t,rfl⟩:=vals1 r;exact PySem.P.str_of_int hz ⟨.str _,H,I.tok _,⟨_,rfl⟩,q⟩
end
structure qw(h:Heap)(x dx C:Addr)(mA:Str->Option Value):Prop where
 obj:h.get? x=some (PySem.W.instObj C dx)
 ns:h.Ns1 dx mA
 ne:dx≠x
theorem X5{mA:Str->Option Value}(n:h.Ns1 dx mA):∃od,h.get? dx=some od/\∀name,PySem.W.lookIn name od=some (mA name):=by
 obtain⟨o,es,ep,ho,hd,hk,_,hm⟩:=n;refine⟨o,ho,λname=>?_⟩;have e:=hm name;unfold nsFind findBy at e;rw[<- Jc] at e;unfold PySem.W.lookIn;rw[hd];dsimp only;split
 ·rename_i y q;rw[q] at e;exact cO some e
 ·rename_i q;rw[q] at e;have a:es.toList.any (·.refKey)=false:=by
   rw[List.any_eq_false];intro y hy;obtain⟨z,t,gN⟩:=hk y (Array.mem_toList_iff.mp hy);simp[DictEntry.refKey,gN]
  have a':¬es.toList.any (·.refKey)=true:=by rw[a];exact ei
  rw[aA a'];exact cO some e
theorem qw.look{x:Addr}{mA:Str->Option Value}(I:qw h x dx C mA):∃od,PySem.W.InstAt h x (PySem.W.instObj C dx) C (some od)/\∀name,PySem.W.lookIn name od=some (mA name) :=
 let ⟨od,ho,hl⟩:=X5 I.ns
 ⟨od,⟨I.obj,rfl,rfl,ho⟩,hl⟩
section
variable{prog:Program}{x:Addr}{mA:Str->Option Value}{name:Str}{v:Value}
theorem get_map{expr:Bool}(X:K.In s.heap)(I:qw s.heap x dx C mA)(hg:PySem.W.plainGet K C name=true)(hh:PySem.W.hasDictIn K C=true)(ha:PySem.W.findIn K (.ref C) name=some none)(hv:mA name=some v)(yh:PySem.W.handedIn v=true)(h:Q v { s with toks:=s.toks+1 }) :
  wpAny (model prog w) A (getAttr (.ref x) name expr) Q E s:=by
 obtain⟨od,J,hl⟩:=I.look;exact PySem.W.get_value X J (PySem.W.plainGet_of hg).1 (BV hh ha rfl (by rw[hl,hv])) yh h
theorem Qm{ns:List Str}{Q:Unit->Shared->Prop}(X:K.In s.heap)(I:qw s.heap x dx C mA)(hs:PySem.W.findIn K (.ref C) "__setattr__"=some (some (.builtin "object.__setattr__")))(hp:PySem.W.plainOver K C=true)(ht:PySem.W.takerIn K C name=some none)(hh:PySem.W.hasDictIn K C=true)(hw:PySem.Within mA ns)(gp:ns.length<=sizeLine)(h:∀h',qw h' x dx C (λy=>if y=name then some v else mA y)->Heap.SameBut dx s.heap h'->Q Unit.unit { s with heap:=h',toks:=s.toks+2 }) :
  wpAny (model prog w) A (setAttr (.ref x) name v) Q E s:=by
 obtain⟨od,J,hl⟩:=I.look;refine Yp X J hs (PySem.W.osa_open X J hp ht λb=>?_);obtain⟨cd,hc,Dn⟩:=gT hh;have hx:=I.obj;refine aa (ah (aa (aa (wpAny_loadPart hx (aa (Ja (je X hc) ?_))))));rw[Dn];refine ah (aa (ah (aa ?_)));refine wpAny_nsSet1 I.ns λh' kD fO=>?_;obtain⟨oD,Lo,Lp,yp,yF,yH⟩:=kD.count (Yo name v hw);refine aa (wpAny_lookBehind yp (by rw[yF];exact pastItsLine_dict (aD yH (by grind))) ?_);exact ah (h _ ⟨(fO.2 _ (dg I.ne)).trans I.obj,kD,I.ne⟩ fO)
theorem XR{R:Result->Shared->Prop}{vs:List Value}{kw:List (Str×Value)}(X:K.In s.heap)(hm:PySem.W.makesIn K C=true)(hi:PySem.W.findIn K (.ref C) "__init__"=some (some (.ref f)))(hf:PySem.W.typeIn K (.ref f)=some (.type "function"))(h:codeAny (model prog w) (A.under (.builtin "type.__call__" ⟨.ref C :: vs,kw⟩)) (.call (.ref f) ⟨.ref (s.heap.objs.size + 1) :: vs,kw⟩) (PySem.W.InitBack (s.heap.objs.size + 1) R)
   { s with heap:=(s.heap.push PySem.W.emptyDict).push (PySem.W.instObj C s.heap.objs.size) }) :
  codeAny (model prog w) A (.call (.ref C) ⟨vs,kw⟩) R s:=by
 exact PySem.W.make_core (PySem.W.makes_of X hm) (fq X hi) (λself=>PySem.W.bind_fn X self hf) (.inl rfl) h
end
def s9(f:Str)(v:V):List (Str×V)->List (Str×V)
 |[]=>[(f,v)]
 |(g,x)::r=>if g=f then(g,v)::r else(g,x)::s9 f v r
theorem Gb(f g:Str)(v:V):∀fs:List (Str×V),(s9 f v fs).lookup g=if g=f then some v else fs.lookup g
 |[]=>by
  show List.lookup g [(f,v)]=_;by_cases h:g=f
  ·have hb:=bp.mpr h;simp only[List.lookup,hb,if_pos h]
  ·have hb:=df.mpr h;simp only[List.lookup,hb,if_neg h]
 |(k,x)::r=>by
  have ih:=Gb f g v r;rw[show s9 f v ((k,x)::r)=(if k=f then(k,v)::r else(k,x)::s9 f v r) from rfl];by_cases hk:k=f
  ·rw[aF hk];by_cases h:g=k
   ·have hb:=bp.mpr h;simp only[List.lookup,hb,if_pos (h.trans hk)]
   ·have hb:=df.mpr h;simp only[List.lookup,hb,if_neg (λe:g=f=>h (e.trans hk.symm))]
  ·rw[aA hk];by_cases h:g=k
   ·have hb:=bp.mpr h;simp only[List.lookup,hb,if_neg (λe:g=f=>hk (h.symm.trans e))]
   ·have hb:=df.mpr h;simp only[List.lookup,hb];exact ih
theorem X7(f:Str)(v:V):∀fs:List (Str×V),f∈(s9 f v fs).map (·.1)/\∀g,g∈fs.map (·.1)->g∈(s9 f v fs).map (·.1)
 |[]=>⟨by simp[s9],λg h=>by simp at h⟩
 |(k,x)::r=>by
  obtain⟨i1,i2⟩:=X7 f v r;rw[show s9 f v ((k,x)::r)=(if k=f then(k,v)::r else(k,x)::s9 f v r) from rfl];by_cases hk:k=f
  ·rw[aF hk]
   grind
  ·rw[aA hk];refine⟨?_,λg h=>?_⟩
   ·exact bz _ i1
   ·rcases aB.mp h with e|e
    ·exact aB.mpr (.inl e)
    ·exact bz _ (i2 g e)
theorem F'(f:Str)(v:V):∀fs:List (Str×V),(s9 f v fs).length<=fs.length+1
 |[]=>by simp[s9]
 |(k,x)::r=>by
  have ih:=F' f v r;rw[show s9 f v ((k,x)::r)=(if k=f then(k,v)::r else(k,x)::s9 f v r) from rfl]
  grind
theorem A9.some_of{o:Option Value}(r:A9 (some v) o):∃u,o=some u/\RelV v u:=by
 cases o with
 |none=>exact(show False from r).elim
 |some u=>exact⟨u,rfl,r⟩
theorem Fs(r:RelV v u):PySem.W.handedIn u=true:=by
 cases v with
 |bA=>cases (show u=Value.none from r);rfl
 |bl b=>cases (show u=Value.bool b from r);rfl
 |int i=>obtain⟨t,e⟩:=(show ∃t,u=Value.int i t from r);cases e;rfl
 |str x=>obtain⟨t,e⟩:=(show ∃t,u=Value.str x t from r);cases e;rfl
 |kG b=>obtain⟨t,e⟩:=(show ∃t,u=Value.bytes b t from r);cases e;rfl
 |pB b=>obtain⟨t,e⟩:=(show ∃t,u=Value.float b t from r);cases e;rfl
 |ref a=>cases (show u=Value.ref a from r);rfl
 |ty n=>cases (show u=Value.type n from r);rfl
section
variable{fs:List (Str×V)}
theorem Ae(bB:fG P w H h)(e:H a=some (.ins C dx fs)):∃mA,qw h a dx C mA/\(∀f,A9 (fs.lookup f) (mA f))/\PySem.Within mA (fs.map (·.1))/\fs.length<=1000/\H dx=some (.own a):=by
 obtain⟨d,z,ne,ob,mA,n,r,q⟩:=(show j3 P w H h a (.ins C dx fs) from bB a _ e)
 exact⟨mA,⟨ob,n,ne⟩,r,q,z,d⟩
end
structure ju(K:PySem.W.Frag)(C:Addr):Prop where
 pg:PySem.W.plainGet K C Str.empty=true
 hd:PySem.W.hasDictIn K C=true
 po:PySem.W.plainOver K C=true
 sa:PySem.W.findIn K (.ref C) "__setattr__"=some (some (.builtin "object.__setattr__"))
theorem ju.get(c:ju K C)(f:Str):PySem.W.plainGet K C f=true:=c.pg
def w6(K:PySem.W.Frag)(C:Addr)(f:Str):Prop:=PySem.W.findIn K (.ref C) f=some none
theorem w6.Bl{f:Str}(n:w6 K C f):PySem.W.takerIn K C f=some none:=by
 unfold PySem.W.takerIn;rw[show PySem.W.findIn K (.ref C) f=some none from n]
 rfl
structure Meth(K:PySem.W.Frag)(C:Addr)(m:Str)(f:Addr):Prop where
 at_:PySem.W.findIn K (.ref C) m=some (some (.ref f))
 fn:PySem.W.isFn K (.ref f)=true
 kp:PySem.W.keepIn K (.ref f)=true
section
variable{fs:List (Str×V)}{f:Str}
theorem Wr{b:Bool}(I:Inv X pins U H s)(e:H a=some (.ins C dx fs))(c:ju X.K C)(n:w6 X.K C f)(l:fs.lookup f=some v)(h:∀u s',Inv X pins U H s'->RelV v u->Q u s'):wpAny (model X.prog X.w) A (getAttr (.ref a) f b) Q E s:=by
 obtain⟨mA,O,r,_,_,_⟩:=Ae I.bB e;obtain⟨u,hu,ru⟩:=A9.some_of (by rw[<- l];exact r f);exact get_map I.gC O (c.get f) c.hd n hu (Fs ru) (h u _ (I.tok _) ru)
theorem WK{y:V}{Q:Unit->Shared->Prop}(I:Inv X pins U H s)(e:H a=some (.ins C dx fs))(c:ju X.K C)(n:w6 X.K C f)(hl:fs.length<1000)(ry:RelV y u)(h:∀s',Inv X pins U (upd H a (.ins C dx (s9 f y fs))) s'->Q Unit.unit s'):wpAny (model X.prog X.w) A (setAttr (.ref a) f u) Q E s:=by
 obtain⟨mA,O,r,wi,_,ho⟩:=Ae I.bB e;have hz:(fs.map (·.1)).length<=sizeLine:=by rw[av,fU];omega
 refine Qm I.gC O c.sa c.po n.Bl c.hd wi hz λh' O' sb=>h _ ?_;have hd:∃o,h'.get? dx=some o:=let ⟨o,_,_,e',_⟩:=O'.ns;⟨o,e'⟩
 refine I.write (by rw[e];exact True.intro) (.inr ho) (λb q hb z=>(sb.2 b hb).trans z) hd ?_;refine⟨by rw[c7 O.ne];exact ho,?_,O.ne,O'.obj,_,O'.ns,λg=>?_,λg hg=>?_⟩
 ·have:=F' f y fs;omega
 ·show A9 ((s9 f y fs).lookup g) (if g=f then some u else mA g);rw[Gb];by_cases q:g=f
  ·rw[aF q,aF q];exact ry
  ·rw[aA q,aA q];exact r g
 ·by_cases q:g=f
  ·rw[q];exact(X7 f y fs).1
  ·refine(X7 f y fs).2 g (wi g λz=>hg ?_);show(if g=f then some u else mA g)=none;rw[aA q];exact z
theorem Inv.made(I:Inv X pins U H s):Inv X pins U (upd (upd H s.heap.objs.size (.own (s.heap.objs.size+1))) (s.heap.objs.size+1) (.ins C s.heap.objs.size []))
  { s with heap:=(s.heap.push PySem.W.emptyDict).push (PySem.W.instObj C s.heap.objs.size) }:=by
 have e1:(s.heap.push PySem.W.emptyDict).get? s.heap.objs.size=some PySem.W.emptyDict:=ak s.heap rfl;have e2:((s.heap.push PySem.W.emptyDict).push (PySem.W.instObj C s.heap.objs.size)).get? (s.heap.objs.size+1)=some (PySem.W.instObj C s.heap.objs.size):=by
  have:=ak (s.heap.push PySem.W.emptyDict) (o:=PySem.W.instObj C s.heap.objs.size) rfl
  rwa [cH] at this
 have e3:(s.heap.push PySem.W.emptyDict).Ns s.heap.objs.size (λ_=>none):=⟨PySem.W.emptyDict,#[],_,e1,rfl,(λe he=>absurd he (by simp)),λ_=>rfl⟩
 have I1:=I.laid (o:=.own (s.heap.objs.size+1)) (h':=s.heap.push PySem.W.emptyDict) (t':=s.toks) (λb u q=>ag _ q) (ai _) ⟨_,e1⟩;refine I1.laid (t':=s.toks) (λb u q=>ag _ q) (eM (cH _ _)) ?_;have ne:s.heap.objs.size≠s.heap.objs.size+1:=aC (kJ _);refine⟨by rw[c7 ne,i3],cJ _,ne,e2,λ_=>none,(Heap.Ns1.of_empty e3).at λo q=>ag _ q,λ_=>True.intro,λy hy=>absurd rfl hy⟩
theorem Ha{prog:Program}{env:Env}(hb:attributeBase e f env (eval e env)=eval e env)(h:wpAny (model prog w) A (eval e env) (λo bE=>wpAny (model prog w) A (getAttr o f true) Q E bE) E s):wpAny (model prog w) A (eval (.Attribute e f pos) env) Q E s :=
 Attribute_any_ h (by rw[arm_eval_Attribute,hb])
end
def RN(K:PySem.W.Frag)(ta:TE)(f:Str):TE:=λU H Q=>ta U H λx H1=>∃a C dx fs v,x=.ref a/\H1 a=some (.ins C dx fs)/\ju K C/\w6 K C f/\fs.lookup f=some v/\Q v H1
def RB(K:PySem.W.Frag)(ta tv:TE)(f:Str):TS:=λD U H=>tv U H λy H1=>ta U H1 λx H2=>∃a C dx fs,x=.ref a/\H2 a=some (.ins C dx fs)/\ju K C/\w6 K C f/\fs.length<1000 /\
 D.nx U (upd H2 a (.ins C dx (s9 f y fs)))
section
variable{o value:Expr}{f:Str}{pos':Pos}{tv:TE}
theorem Nl(he:PE X e ta)(hb:attributeBase e f X.env (eval e X.env)=eval e X.env):PE X (.Attribute e f pos) (RN X.K ta f):=by
 intro pins s U H Q I h;refine Ha hb (cL (he pins s U H _ I h) λu s1 br=>?_);obtain⟨x,H1,I1,rx,a,C,dx,fs,v,ex,ea,c,n,l,q⟩:=br;subst ex;obtain rfl:u=Value.ref a:=rx;exact Wr I1 ea c n l λu' s2 I2 ru=>⟨v,H1,I2,ru,q⟩
theorem Ny(ha:PE X o ta)(hv:PE X value tv)(hs:swapsWith value (some (.Attribute o f pos')) pos.line X.env=pure false):PS X (.Assign [.Attribute o f pos'] value pos) (RB X.K ta tv f):=by
 intro pins s U H D I h;refine nL (cL (hv pins s U H _ I h) λu s1 ⟨y,H1,I1,ry,q⟩=>cL (ha pins s1 U H1 _ I1 q) λov s2 br=>?_) hs;obtain⟨x,H2,I2,rx,a,C,dx,fs,ex,ea,c,n,l,q2⟩:=br;subst ex;obtain rfl:ov=Value.ref a:=rx;exact WK I2 ea c n l ry λs3 I3=>⟨U,_,I3,q2⟩
end
section
variable{c:Value}{b:Bool}
inductive gO(K:PySem.W.Frag)(H:Hp):V->Value->Prop where
 |bA:gO K H .bA (.type "NoneType")
 |bl (x:Bool):gO K H (.bl x) (.type "bool")
 |int (i:Int):gO K H (.int i) (.type "int")
 |str (x:Str):gO K H (.str x) (.type "str")
 |pB (x:UInt64):gO K H (.pB x) (.type "float")
 |lst {a:Addr} {xs:List V} (e:H a=some (.lst xs)):gO K H (.ref a) (.type "list")
 |jm {a:Addr} {o:Obj} {xs:List V} (e:H a=some (.jm o (.lst xs))):gO K H (.ref a) (.type "list")
 |tup {a:Addr} {xs:List V} (e:H a=some (.tup xs)):gO K H (.ref a) (.type "tuple")
 |dK {a:Addr} {aU:List (Key×V)} (e:H a=some (.dK aU)):gO K H (.ref a) (.type "dict")
 |dT {a:Addr} {aU:List (List Key×V)} (e:H a=some (.dT aU)):gO K H (.ref a) (.type "dict")
 |ins {a C dx:Addr} {fs:List (Str×V)} (e:H a=some (.ins C dx fs)) (cl:ju K C) (ha:PySem.W.findIn K (.ref C) "__class__"=some (some (.builtin "object.__class__")))
   (hn:PySem.W.specialIn K (.builtin "object.__class__") "__get__"=some (some (.builtin "getset_descriptor.__get__"))) (vn:PySem.W.takesIn K (.builtin "object.__class__")=some true)
   (hm:PySem.W.mroIn K C (.type "object")=some true):gO K H (.ref a) (.ref C)
theorem Vs{x:V}{t:Value}(I:Inv X pins U H s)(rx:RelV x u)(ty:gO X.K H x t)(e:PySem.W.kitOne X.K t c=some b)(h:∀tk,Q (.bool b) { s with toks:=tk }) :
  wpAny (model X.prog X.w) A (call (.builtin "isinstance") [u,c]) Q E s:=by
 cases ty with
 |bA=>cases (show u=Value.none from rx);exact bJ PySem.W.kitx_none I.gC True.intro e (λz=>nomatch z) h
 |bl y=>cases (show u=Value.bool y from rx);exact bJ PySem.W.kitx_bool I.gC True.intro e (λz=>nomatch z) h
 |int i=>obtain⟨t,q⟩:=(show ∃t,u=Value.int i t from rx);cases q;exact bJ PySem.W.kitx_int I.gC True.intro e (λz=>nomatch z) h
 |str y=>obtain⟨t,q⟩:=(show ∃t,u=Value.str y t from rx);cases q;exact bJ PySem.W.kitx_str I.gC True.intro e (λz=>nomatch z) h
 |pB y=>obtain⟨t,q⟩:=(show ∃t,u=Value.float y t from rx);cases q;exact bJ PySem.W.kitx_float I.gC True.intro e (λz=>nomatch z) h
 |@lst a xs ea =>
  cases (show u=Value.ref a from rx);obtain⟨_,_,n,_,h1⟩:=(show j3 X.prog X.w H s.heap a (.lst xs) from I.bB a _ ea)
  exact bJ Yq I.gC ⟨_,h1,rfl⟩ e (λz=>nomatch z) h
 |@jm a ob xs ea =>
  cases (show u=Value.ref a from rx);obtain⟨_,_,_,n,_,h1⟩:=(show j3 X.prog X.w H s.heap a (.jm ob (.lst xs)) from I.bB a _ ea)
  exact bJ Yq I.gC ⟨_,h1,rfl⟩ e (λz=>nomatch z) h
 |@tup a xs ea =>
  cases (show u=Value.ref a from rx);obtain⟨_,_,_,p⟩:=(show j3 X.prog X.w H s.heap a (.tup xs) from I.bB a _ ea)
  obtain⟨o,h1,h2,_⟩:=p;exact bJ IY I.gC ⟨o,h1,h2⟩ e (λz=>nomatch z) h
 |@dK a aU ea =>
  cases (show u=Value.ref a from rx);obtain⟨_,_,vs,_,p⟩:=(show j3 X.prog X.w H s.heap a (.dK aU) from I.bB a _ ea)
  obtain⟨o,es,ep,h1,h2,_⟩:=p;exact bJ Yr I.gC ⟨o,h1,h2.1⟩ e (λz=>nomatch z) h
 |@dT a aU ea =>
  cases (show u=Value.ref a from rx);obtain⟨_,_,xs,_,o,es,ep,h1,h2,_⟩:=(show j3 X.prog X.w H s.heap a (.dT aU) from I.bB a _ ea)
  exact bJ Yr I.gC ⟨o,h1,h2.1⟩ e (λz=>nomatch z) h
 |@ins a C dx fs ea cl ha hn vn hm =>
  cases (show u=Value.ref a from rx);obtain⟨mA,O,_⟩:=Ae I.bB ea;obtain⟨od,J,_⟩:=O.look;exact bJ (PySem.W.kitx_own (cl.get _) cl.hd ha hn vn hm) I.gC J e (λz=>nomatch z) h
end
structure k6(k:Nat)(A:Around):Prop where
 hd:A.handled=none
 dp:A.depth+3*k+5<recursionLimit
 un:A.units+16*k+200<cLine
theorem k6.mono{j:Nat}(r:k6 k A)(h:j<=k):k6 j A:=⟨r.hd,by have:=r.dp;omega,by have:=r.un;omega⟩
theorem k6.deeper{k:Nat}{A:Around}(r:k6 (k+1) A)(env:Env):k6 k (A.deeper env) :=
 ⟨r.hd,by have:=r.dp;show A.depth+1+3*k+5<_;omega,by have:=r.un;show A.units+3+16*k+200<_;omega⟩
theorem Wz{kw:List (Str×Value)}:(A.under (.builtin "type.__call__" ⟨.ref C::us,kw⟩)).depth=A.depth+1:=by
 rfl
theorem WA{kw:List (Str×Value)}:(A.under (.builtin "type.__call__" ⟨.ref C::us,kw⟩)).units=A.units+1:=by
 rfl
theorem k6.make(r:k6 (k+1) A)(C:Addr)(us:List Value)(kw:List (Str×Value)):k6 k (A.under (.builtin "type.__call__" ⟨.ref C::us,kw⟩)) :=
 ⟨r.hd,by have:=r.dp;rw[Wz];omega,by have:=r.un;rw[WA];omega⟩
theorem k6.depth{k:Nat}{A:Around}(r:k6 k A):A.depth<recursionLimit:=by have:=r.dp;omega
def AL:TA:=λ_ H Q=>Q [] H
def LC(ta:TE)(tr:TA):TA:=λU H Q=>ta U H λx H1=>tr U H1 λxs H2=>Q (x::xs) H2
theorem K8:PA X [] AL:=λ_ _ _ _ H Q I h=>Calls.spliced_nil ⟨[],H,I,.nil,h⟩
theorem B8(ha:PE X e te)(hr:PA X es t)(hs:starEach (e::es) X.env=(false,eval e X.env)::starEach es X.env:=by rfl):PA X (e::es) (LC te t):=by
 intro pos pins s U H Q I h;rw[hs];show wpAny _ _ (spliced ((false,eval e X.env)::backTo pos (starEach es X.env))) _ _ s;refine Calls.spliced_cons (cL (ha pins s U H _ I h) λu s1 br=>?_);obtain⟨x,H1,I1,r1,q1⟩:=br;exact cL (hr pos pins s1 U H1 _ I1 q1) λus s2 ⟨xs,H2,I2,r2,q2⟩=>⟨x::xs,H2,I2,.cons r1 r2,q2⟩
def RW(t:TA):TE:=λU H Q=>t U H λxs H1=>xs.length<=sizeLine/\∀p,H1 p=none->Q (.ref p) (upd H1 p (.tup xs))
def RQ(t:TA):TE:=λU H Q=>t U H λxs H1=>xs.length<=sizeLine/\∀p,H1 p=none->Q (.ref p) (upd H1 p (.lst xs))
theorem Nt{x1}(h:PA X es t):PE X (.Tuple es x1 pos) (RW t):=by
 intro pins s U H Q I hq;refine wpAny_Tuple_spliced (cL (h pos pins s U H _ I hq) λus s1 ⟨xs,H1,I1,r,z,q⟩=>⟨by rw[<- r.length];exact z,?_⟩);have hf:=I1.bB.fresh (ai _);refine⟨.ref s1.heap.objs.size,upd H1 s1.heap.objs.size (.tup xs),I1.laid (t':=s1.toks) (λb u e=>ag _ e) (ai _) ?_,rfl,q _ hf⟩;exact⟨z,us,r,⟨_,ak _ rfl,rfl,⟨_,rfl⟩,rfl⟩⟩
theorem GA(h:PA X es t):PE X (.List es pos) (RQ t):=by
 intro pins s U H Q I hq;refine wpAny_List_spliced (cL (h pos pins s U H _ I hq) λus s1 ⟨xs,H1,I1,r,z,q⟩=>⟨by rw[<- r.length];exact z,?_⟩);have hf:=I1.bB.fresh (ai _);refine⟨.ref s1.heap.objs.size,upd H1 s1.heap.objs.size (.lst xs),I1.laid (t':=s1.toks) (λb u e=>ag _ e) (ai _) ?_,rfl,q _ hf⟩;exact⟨z,us,0,r,ak _ rfl⟩
noncomputable abbrev Sp:=List V->Hp->VK->XK->Prop
noncomputable abbrev lE:=List Env->Hp->Shared->XK->Value->Shared->Prop
structure pG(P:Program)(w:World)(K:PySem.W.Frag)(mg:Str->Option Value)(base:Heap)(A:Around)(outer:List Env)(s:Shared)(H:Hp):Prop where
 frames:A.frames=some outer
 mod:Mod K mg base
 bs:∀b o,base.get? b=some o->s.heap.get? b=some o/\H b=none
 mh:base.objs.size<=s.heap.objs.size
 E2:s.heap.FunFrames base outer
 mG:∀b∈eR outer,H b=none
 bB:fG P w H s.heap
 bare:AllBare s.gens
def CE(outer:List Env)(P:Program)(w:World)(H:Hp)(s:Shared)(Q:VK)(u:Value)(s':Shared):Prop :=
 ∃v H',s'.os=s.os/\AllBare s'.gens/\Un (eR outer) [] H H' s.heap s'.heap/\fG P w H' s'.heap/\RelV v u/\Q v H'
def CR(CX:lE)(outer:List Env)(P:Program)(w:World)(H:Hp)(s:Shared)(Q:VK)(E:XK)(r:Result)(s':Shared):Prop :=
 match r with
 |.ok (.ret u)=>CE outer P w H s Q u s'
 |.ok _=>False
 |.error e=>CX outer H s E e s'
structure fQ(P:Program)(w:World)(K:PySem.W.Frag)(mg:Str->Option Value)(base:Heap)(CX:lE)(k:Nat)(f:Addr)(fd:FuncData)(ps:List Str)(sp:Sp):Prop where
 len:∀vs H Q E,sp vs H Q E->vs.length=ps.length
 run:∀(A:Around) (outer:List Env) (s:Shared) (H:Hp) (args:Args) (us:List Value) (vs:List V) (Q:VK) (E:XK),k6 k A->pG P w K mg base A outer s H->BindsTo s fd args (ps.zip us)->Vals vs us->sp vs H Q E ->
  codeAny (model P w) A (.call (.ref f) args) (CR CX outer P w H s Q E) s
theorem pG.make{mg:Str->Option Value}{outer:List Env}(e:pG P w K mg base A outer s H)(C:Addr)(us:List Value)(kw:List (Str×Value)) :
  pG P w K mg base (A.under (.builtin "type.__call__" ⟨.ref C::us,kw⟩)) outer s H:=⟨by first|exact e.frames|(simpa[Around.under,Code.envs,Code.isFrame,pushEnvs] using e.frames),e.mod,e.bs,e.mh,e.E2,e.mG,e.bB,e.bare⟩
section
variable{s':Shared}
theorem Inv.BG(I:Inv X pins U H s):pG X.prog X.w X.K X.mg X.base X.A X.stack s H :=
 ⟨I.ok.frames,I.ok.mod,I.bs,aD I.ok.mh I.sz,I.stack,I.Z3,I.bB,I.bare⟩
theorem Inv.after{Q:VK}(I:Inv X pins U H s)(h:CE X.stack X.prog X.w H s Q u s'):EP X pins U Q u s':=by
 obtain⟨v,H',os,bare,un,bB,r,q⟩:=h;obtain⟨hh,g,d,t,sd⟩:=s';obtain rfl:sd=s.os:=os;exact⟨v,H',I.call (h':=hh) (g':=g) (d':=d) (t':=t) un bB bare (λb z=>absurd z (by simp)),r,q⟩
end
def Iy(sp:Sp)(jt:List V)(E:XK)(t:TA):TE:=λU H Q=>t U H λvs H1=>sp (vs++jt) H1 Q E
def Iz(C:Addr)(sp:Sp)(jt:List V)(E:XK)(t:TA):TE:=λU H Q=>t U H λvs H1=>∀x dx,H1 x=none->H1 dx=none->dx≠x ->
 sp (.ref x::(vs++jt)) (upd (upd H1 dx (.own x)) x (.ins C dx [])) (λv H2=>v=.bA/\Q (.ref x) H2) E
def Binds(K:PySem.W.Frag)(fd:FuncData)(ps:List Str)(ds:List Value):Prop :=
 ∀(s:Shared) (us:List Value),K.In s.heap->(us++ds).length=ps.length->BindsTo s fd ⟨us,[]⟩ (ps.zip (us++ds))
theorem Binds.all(h:∀us:List Value,us.length=ps.length->bindArgs fd ⟨us,[]⟩=pure (ps.zip us)):Binds K fd ps []:=λs us _ hl=>by
 rw[dZ] at hl ⊢;exact .of_eq (h us hl)
def Passes(CX:lE)(X:Cx)(E:XK):Prop:=∀(pins:List (Addr×Obj)) (U:St) (H:Hp) (s:Shared) (e:Value) (s':Shared),Inv X pins U H s->CX X.stack H s E e s'->X.xe e s'
section
variable{jt:List V}{ds:List Value}{E:XK}
theorem GI{Q:VK}(F:fQ X.prog X.w X.K X.mg X.base CX k f fd ps sp)(hr:k6 k X.A)(hb:Binds X.K fd ps ds)(hd:Vals jt ds)(hx:Passes CX X E)(I:Inv X pins U H s)(r:Vals vs us)(h:sp (vs++jt) H Q E):wpAny (model X.prog X.w) X.A (call (.ref f) us) (EP X pins U Q) X.xe s:=by
 have r2:=r.append hd;have hl:(us++ds).length=ps.length:=by rw[<- r2.length];exact F.len _ _ _ _ h
 refine jd (fo (F.run X.A X.stack s H ⟨us,[]⟩ (us++ds) (vs++jt) Q E hr I.BG (hb s us I.gC hl) r2 h) λr s' hq=>?_);cases r with
 |error e=>exact hx pins U H s e s' I hq
 |ok fl =>
  cases fl with
  |ret u=>exact I.after hq
  |next=>exact False.elim hq
  |brk=>exact False.elim hq
  |cont=>exact False.elim hq
theorem Pw(F:fQ X.prog X.w X.K X.mg X.base CX k f fd ps sp)(hr:k6 k X.A)(hg:Gl X x)(hm:X.mg x=some (.ref f))(hk:PySem.W.keepIn X.K (.ref f)=true)(hb:Binds X.K fd ps ds)(hd:Vals jt ds)(hx:Passes CX X E)(ha:PA X (e::es) t)(gh:(x==("__debug__":Str))=false:=by decide)(he:starEach (e::es) X.env=(false,eval e X.env)::starEach es X.env:=by rfl)(gE:(backTo pos (starEach es X.env)).any (·.1)=false:=by rfl) :
  PE X (.Call (.Name x p) (e::es) [] pos) (Iy sp jt E t):=by
 intro pins s U H Q I h;refine cE (B9 I hg hm ?_ gh);refine IZ I.ok.mod.kR hk (cL (ha pos pins s U H _ I h) λus s1 ⟨vs,H1,I1,r,q⟩=>⟨I1.gC,?_⟩) he gE;exact GI F hr hb hd hx I1 r q
theorem Ya(F:fQ X.prog X.w X.K X.mg X.base CX k f fd ps sp)(hr:k6 k X.A)(hg:Gl X x)(hm:X.mg x=some (.ref f))(hk:PySem.W.keepIn X.K (.ref f)=true)(hb:Binds X.K fd ps ds)(hd:Vals jt ds)(hx:Passes CX X E)(gh:(x==("__debug__":Str))=false:=by decide):PE X (.Call (.Name x p) [] [] pos) (Iy sp jt E AL):=by
 intro pins s U H Q I h;refine cE (B9 I hg hm ?_ gh);exact BW I.gC hk (GI (us:=[]) F hr hb hd hx I .nil h)
structure Mk(K:PySem.W.Frag)(C f:Addr):Prop where
 makes:PySem.W.makesIn K C=true
 init:PySem.W.findIn K (.ref C) "__init__"=some (some (.ref f))
 fn:PySem.W.isFn K (.ref f)=true
 kp:PySem.W.keepIn K (.ref C)=true
theorem EO{Q:VK}(M:Mk X.K C f)(F:fQ X.prog X.w X.K X.mg X.base CX k f fd ps sp)(hr:k6 (k+1) X.A)(hb:Binds X.K fd ps ds)(hd:Vals jt ds)(hx:Passes CX X E)(I:Inv X pins U H s)(r:Vals vs us)(h:∀x dx,H x=none->H dx=none->dx≠x->sp (.ref x::(vs++jt)) (upd (upd H dx (.own x)) x (.ins C dx [])) (λv H2=>v=.bA/\Q (.ref x) H2) E) :
  wpAny (model X.prog X.w) X.A (call (.ref C) us) (EP X pins U Q) X.xe s:=by
 have hq:=h (s.heap.objs.size+1) s.heap.objs.size (I.bB.fresh (cD _)) (I.bB.fresh (ai _)) (aC (kJ _));have I2:=Inv.made (C:=C) I;have r2:Vals (V.ref (s.heap.objs.size+1)::(vs++jt)) (Value.ref (s.heap.objs.size+1)::(us++ds)):=.cons rfl (r.append hd);have hl:(Value.ref (s.heap.objs.size+1)::us++ds).length=ps.length:=by
  have e:=r2.length;rw[F.len _ _ _ _ hq] at e;exact e.symm
 refine jd (XR I.gC M.makes M.init (bp.mp M.fn) (fo (F.run _ X.stack _ _ ⟨Value.ref (s.heap.objs.size + 1) :: us,[]⟩ (Value.ref (s.heap.objs.size + 1) :: (us ++ ds)) _ _ E (hr.make C us [])
  (I2.BG.make C us []) (hb _ (Value.ref (s.heap.objs.size + 1) :: us) I2.gC hl) r2 hq) λr s' jK=>?_))
 cases r with
 |error e=>exact hx pins U _ _ e s' I2 jK
 |ok fl =>
  cases fl with
  |ret u =>
   obtain⟨v,H',I3,rv,ev,q3⟩:=I2.after jK;subst ev;exact⟨rv,⟨V.ref (s.heap.objs.size+1),H',I3,rfl,q3⟩⟩
  |next=>exact False.elim jK
  |brk=>exact False.elim jK
  |cont=>exact False.elim jK
theorem PD(M:Mk X.K C f)(F:fQ X.prog X.w X.K X.mg X.base CX k f fd ps sp)(hr:k6 (k+1) X.A)(hg:Gl X x)(hm:X.mg x=some (.ref C))(hb:Binds X.K fd ps ds)(hd:Vals jt ds)(hx:Passes CX X E)(ha:PA X (e::es) t)(gh:(x==("__debug__":Str))=false:=by decide)(he:starEach (e::es) X.env=(false,eval e X.env)::starEach es X.env:=by rfl)(gE:(backTo pos (starEach es X.env)).any (·.1)=false:=by rfl) :
  PE X (.Call (.Name x p) (e::es) [] pos) (Iz C sp jt E t):=by
 intro pins s U H Q I h;refine cE (B9 I hg hm ?_ gh);refine IZ I.ok.mod.kR M.kp (cL (ha pos pins s U H _ I h) λus s1 ⟨vs,H1,I1,r,q⟩=>⟨I1.gC,?_⟩) he gE;exact EO M F hr hb hd hx I1 r q
theorem Ye(M:Mk X.K C f)(F:fQ X.prog X.w X.K X.mg X.base CX k f fd ps sp)(hr:k6 (k+1) X.A)(hg:Gl X x)(hm:X.mg x=some (.ref C))(hb:Binds X.K fd ps ds)(hd:Vals jt ds)(hx:Passes CX X E)(gh:(x==("__debug__":Str))=false:=by decide):PE X (.Call (.Name x p) [] [] pos) (Iz C sp jt E AL):=by
 intro pins s U H Q I h;refine cE (B9 I hg hm ?_ gh);exact BW I.gC M.kp (EO (us:=[]) M F hr hb hd hx I .nil h)
end
structure fT(N P:List Str)(sc:Scope):Prop where
 kind:sc.kind=.function
 co:sc.isCoroutine=false
 gen:sc.isGenerator=false
 nd:N.Nodup
 pre:N.take P.length=P
 par:∀x∈P,sc.names.lookup x=some .local\/sc.names.lookup x=some .cell
 lQ:∀y∈sc.names,y.2≠.free
theorem Fg{kindOf:Str->Option NameKind}{x:Str}:∀{binds:List (Str×Value)} {m:Str->Option Value},(∀v,(x,v)∉binds)->bindL kindOf binds m x=m x
 |[],_,_=>rfl
 |(n,v)::r,m,h=>by
  unfold bindL;rw[Fg λw hw=>h w (bz _ hw)];split
  ·have:x≠n:=by rintro rfl;exact h v cP
   simp[this]
  ·rfl
theorem Fe{kindOf:Str->Option NameKind}{x:Str}:∀{binds:List (Str×Value)} {m:Str->Option Value},(∀v,(x,v)∉binds)->bindC kindOf binds m x=m x
 |[],_,_=>rfl
 |(n,v)::r,m,h=>by
  unfold bindC;rw[Fe λw hw=>h w (bz _ hw)];split
  ·rfl
  ·have:x≠n:=by rintro rfl;exact h v cP
   simp[this]
theorem Ff{kindOf:Str->Option NameKind}{x:Str}{v:Value}:∀{P:List Str} {vs:List Value} {i:Nat} {m:Str->Option Value},P.Nodup->P[i]?=some x->vs[i]?=some v->kindOf x=some .local ->
  bindL kindOf (P.zip vs) m x=some v
 |[],_,_,_,_,h,_,_=>by simp at h
 |_::_,[],_,_,_,_,h,_=>by simp at h
 |p::P,w::vs,0,m,nd,h1,h2,hk=>by
  simp at h1 h2;subst h1;subst h2;show bindL kindOf ((p,w)::P.zip vs) m p=_;unfold bindL;rw[Fg λv hv=>(fz.mp nd).1 (lI hv).1,aF hk];simp
 |p::P,w::vs,i+1,m,nd,h1,h2,hk=>by
  unfold bindL;exact Ff (fz.mp nd).2 (by simpa using h1) (by simpa using h2) hk
theorem Fd{kindOf:Str->Option NameKind}{x:Str}{v:Value}:∀{P:List Str} {vs:List Value} {i:Nat} {m:Str->Option Value},P.Nodup->P[i]?=some x->vs[i]?=some v->kindOf x≠some .local ->
  bindC kindOf (P.zip vs) m x=some v
 |[],_,_,_,_,h,_,_=>by simp at h
 |_::_,[],_,_,_,_,h,_=>by simp at h
 |p::P,w::vs,0,m,nd,h1,h2,hk=>by
  simp at h1 h2;subst h1;subst h2;show bindC kindOf ((p,w)::P.zip vs) m p=_;unfold bindC;rw[Fe λv hv=>(fz.mp nd).1 (lI hv).1,aA hk];simp
 |p::P,w::vs,i+1,m,nd,h1,h2,hk=>by
  unfold bindC;exact Fd (fz.mp nd).2 (by simpa using h1) (by simpa using h2) hk
def start(N:List Str)(vs:List V):St:=vs.map some++List.replicate (N.length-vs.length) none
def L6(CX:lE)(P:Program)(w:World)(K:PySem.W.Frag)(mg:Str->Option Value)(base:Heap)(N:List Str)(qual:Str)(scope:Scope)(f:Addr)(cd:Value)(A:Around)(outer:List Env)(s:Shared)(H:Hp)(E:XK):Cx where
 prog:=P
 w:=w
 K:=K
 mg:=mg
 base:=base
 A:=A.deeper (envOfC qual scope s.heap.objs.size f cd)
 N:=N
 cF:=s
 iS:=H
 env:=envOfC qual scope s.heap.objs.size f cd
 outer:=outer
 stack:=envOfC qual scope s.heap.objs.size f cd::outer
 ex:=[]
 calm:=true
 fn:=λ_=>true
 pn:=[]
 xe:=λe s'=>wpAny (model P w) (A.deeper (envOfC qual scope s.heap.objs.size f cd)) (leaving (envOfC qual scope s.heap.objs.size f cd) e) (λ_ lP=>CX outer H s E e lP) (λe' lP=>CX outer H s E e' lP) s'
theorem Aq{sc:Scope}{n:Nat}(h:sc.names.lookup x=some .cell):∃c,(cellsFrom n sc.names []).lookup x=some c:=by
 have q:=dr sc.names n [] (.inl h);exact cB.mp q
theorem Vr{mg:Str->Option Value}{qual:Str}{scope:Scope}{cd:Value}{outer:List Env}{s1:Shared}{E:XK}(S:fT N ps scope)(hd:A.handled=none)(e0:pG P w K mg base A outer s H)(hl:vs.length=ps.length)(r:Vals vs us)(x:InCallC s s.heap.objs.size (bindL (envOfC qual scope s.heap.objs.size f cd).kindOf (ps.zip us) λ_=>none) (cellsFrom (s.heap.objs.size+1) scope.names []) (bindC (envOfC qual scope s.heap.objs.size f cd).kindOf (ps.zip us) λ_=>none) s1) :
  Inv (L6 CX P w K mg base N qual scope f cd A outer s H E) [] (start N vs) H s1:=by
 have gE:ps.length<=N.length:=by have:=cO List.length S.pre;grind
 obtain⟨h1,tk,rfl,hk⟩:=x.done;have sj:∀b:Addr,b∉(L6 CX P w K mg base N qual scope f cd A outer s H E).ex:=λb z=>absurd (show b∈([]:List Addr) from z) (by simp);refine ⟨⟨e0.mod,S.kind,rfl,rfl,ai _,λy z c h1 h2=>?_,λy hy=>?_,λy c _ h=>?_,λ_=>hd,Around.frames_deeper e0.frames,.inr ⟨rfl,rfl⟩,λb z=>absurd z (sj b),e0.bs,e0.mh,λb _ _=>sj b,λb z=>absurd z (sj b),e0.E2,e0.mG⟩,
  rfl,e0.bare,Un.kept hk,⟨_,x.toInCall.ns,λi y v h1 h2 h3=>?_⟩,λy c h=>⟨_,x.cell y c h⟩,e0.bB.fresh (ai _),λy c h=>?_,λp hp=>absurd (show p ∈ ([]:List (Addr × Obj)) from hp) (by simp),e0.bB.kept hk,?_,λcM z=>absurd (show (none:Option (List (Option V)))=some cM from z) (by simp)⟩
 ·exact name_of_addr x.apart (aE h1) (aE h2)
 ·rcases hy with hy|hy
  ·exact Aq hy
  ·exact absurd rfl (S.lQ _ (aE hy))
 ·exact dw (x.above y c (aE h))
 ·have hi:i<vs.length:=by
   unfold start at h2;by_cases hi:i<vs.length
   ·exact hi
   ·rw[dH (by simpa using hi)] at h2;rw[cg] at h2
    simp_all
  have ha:vs[i]?=some v:=by
   unfold start at h2;rw[aK (by simpa using hi),aP] at h2;cases e:vs[i]? with
   |none=>rw[e] at h2;cases h2
   |some a=>rw[e] at h2;cases h2;rfl
  obtain⟨u,hu,rv⟩:=r.get ha;have hp:ps[i]?=some y:=by
   rw[<- S.pre,oo ()];exact h1
  have Cu:ps.Nodup:=by rw[<- S.pre];exact S.nd.sublist (List.take_sublist _ _)
  refine⟨u,rv,?_⟩;rcases S.par y (dG hp) with k|k
  ·exact .inl ⟨k,Ff Cu hp hu k⟩
  ·obtain⟨c,e⟩:=Aq k;refine .inr ⟨.inl k,c,e,?_⟩;have q:=x.cell y c e;rw[Fd Cu hp hu (by show scope.names.lookup y≠_;rw[k];decide)] at q;exact q
 ·exact e0.bB.fresh (dw (x.above y c (aE h)))
 ·unfold start;show _=N.length
  simp_all
theorem Ig{mg:Str->Option Value}{name qual:Str}{params:Arguments}{body:List Stmt}{scope:Scope}{dV kV doc pm eB ct oc:Value}{an od:Option Addr}{jb:Array (Option Value)}(lk:K.lookup f=some ⟨oc,od,.func (PySem.W.fnOf name qual params body scope dV kV doc pm an eB ct),jb⟩)(jl:PySem.W.codeIn K eB qual=true)(S:fT N ps scope)(len:∀vs H Q E,sp vs H Q E->vs.length=ps.length)(tD:∀ (A:Around) (outer:List Env) (s:Shared) (H:Hp) (vs:List V) (Q:VK) (E:XK),k6 k (A.deeper (envOfC qual scope s.heap.objs.size f eB))->sp vs H Q E ->
   ∃ t,iZ (L6 CX P w K mg base N qual scope f eB A outer s H E) body t/\t { nx:=λ_ H'=>Q .bA H',rt:=Q } (start N vs) H) :
  fQ P w K mg base CX (k+1) f (PySem.W.fnOf name qual params body scope dV kV doc pm an eB ct) ps sp:=by
 refine⟨len,λA outer s H args us vs Q E hr e0 hb r qc=>?_⟩;have hl:=len _ _ _ _ qc;have KX:=e0.mod.kR.keeps λb o e=>(e0.bs b o e).1;have lim:=e0.mod.nolimit.keeps λb o e=>(e0.bs b o e).1;have sZ:∀y∈ps.zip us,scope.names.lookup y.1=some .local\/(scope.names.lookup y.1=some .cell/\((cellsFrom (s.heap.objs.size+1) scope.names []).lookup y.1).isSome=true):=λ⟨n,v⟩ hy=>by
  rcases S.par n (lI hy).1 with q|q
  ·exact .inl q
  ·exact .inr ⟨q,dr _ _ _ (.inl q)⟩
 refine codeAny_call_function hr.depth (KX _ _ lk) rfl S.co S.gen rfl (PySem.W.codeRec_of KX jl) (hb _ _ _ _ ?_);refine wpAny_newFunctionEnv_cells S.kind sZ λenv he s1 x=>?_;subst he;refine⟨lim.keeps x.toInCall.keep,codeAny_func ?_⟩;obtain⟨t,ht,hq⟩:=tD A outer s H vs Q E (hr.deeper _) qc;have I:Inv (L6 CX P w K mg base N qual scope f eB A outer s H E) [] (start N vs) H s1:=Vr S hr.hd e0 hl r x;refine aT (ht [] s1 (start N vs) H _ I hq) (λfl s' hs=>?_) λe s' hs=>hs;have fin:∀{cx:St} {H':Hp} {v:V} {u:Value},Inv (L6 CX P w K mg base N qual scope f eB A outer s H E) [] cx H' s'->RelV v u->Q v H'->CE outer P w H s Q u s' :=
  λ{cx H' v u} J rv q=>⟨v,H',J.os,J.bare,J.base,J.bB,rv,q⟩
 cases fl with
 |ret u =>
  obtain⟨v,cx,H',J,rv,q⟩:=hs;exact fin J rv q
 |next =>
  obtain⟨cx,H',J,q⟩:=hs;exact fin (v:=V.bA) J rfl q
 |brk =>
  obtain⟨_,_,_,q⟩:=hs
  simp_all
 |cont =>
  obtain⟨_,_,_,q⟩:=hs
  simp_all
section
variable{id T:String}{r:List V->Hp->VK->Prop}
def xB(r:List V->Hp->VK->Prop)(t:TA):TE:=λU H Q=>t U H λvs H1=>r vs H1 Q
theorem S7(hc:k9 X (.builtin id) r)(hg:Gl X x)(hm:X.mg x=none)(hv:bootBuiltins x=some (.builtin id))(ha:PA X (e::es) t)(hn:x≠"__name__":=by decide)(gh:(x==("__debug__":Str))=false:=by decide)(he:starEach (e::es) X.env=(false,eval e X.env)::starEach es X.env:=by rfl)(gE:(backTo pos (starEach es X.env)).any (·.1)=false:=by rfl):PE X (.Call (.Name x p) (e::es) [] pos) (xB r t):=by
 intro pins s U H Q I h;refine cE (K9 I hg hm hv ?_ hn gh);exact PyProof.Rows.callWith_builtin1 (cL (ha pos pins s U H _ I h) λus s1 ⟨vs,H1,I1,r1,q1⟩=>hc pins s1 U H1 vs us Q I1 r1 q1) he gE
theorem K7(hc:k9 X (.type T) r)(hg:Gl X x)(hm:X.mg x=none)(hv:bootBuiltins x=some (.type T))(ha:PA X (e::es) t)(hn:x≠"__name__":=by decide)(gh:(x==("__debug__":Str))=false:=by decide)(he:starEach (e::es) X.env=(false,eval e X.env)::starEach es X.env:=by rfl)(gE:(backTo pos (starEach es X.env)).any (·.1)=false:=by rfl):PE X (.Call (.Name x p) (e::es) [] pos) (xB r t):=by
 intro pins s U H Q I h;refine cE (K9 I hg hm hv ?_ hn gh);exact cp (cL (ha pos pins s U H _ I h) λus s1 ⟨vs,H1,I1,r1,q1⟩=>hc pins s1 U H1 vs us Q I1 r1 q1) he gE
end
end L2
namespace HT
open PySem PyProof.Rows
section
variable{prog:Program}{w:World}{A:Around}{E:Value->Shared->Prop}{s:Shared}
theorem OA{t b:Addr}{vs ws:List Value}{Q:Value->Shared->Prop}(ht:IsTup s.heap t vs.toArray)(hb:IsTup s.heap b ws.toArray)(hv:vs≠[])(h1:ws=[]->Q (.ref t) s)(h2:ws≠[]->Q (.ref s.heap.objs.size) { s with heap:=s.heap.push { cls:=.type "tuple",data:=.seq (vs++ws).toArray } })(gp:vs.length+ws.length<=sizeLine):wpAny (model prog w) A (binaryOp .Add (.ref t) (.ref b)) Q E s:=by
 obtain⟨⟨cls,dd,data,sl⟩,ho,hc,n,hd⟩:=id ht;obtain⟨⟨zo,vK,data2,mx⟩,kW,nX,n2,hd2⟩:=id hb;subst hc hd nX hd2;have e:vs.toArray++ws.toArray=(vs++ws).toArray:=by simp
 by_cases hw:ws=[]
 ·exact Zj ⟨_,ho,rfl⟩ ⟨_,kW,rfl⟩ oj IV ie gW (gH _ _)
   (tuple_addW1 t b vs.toArray ws.toArray n n2 dd vK sl mx (by simpa using hv) (by simp[hw])) ⟨ho,kW,h1 hw⟩
 ·refine Zj ⟨_,ho,rfl⟩ ⟨_,kW,rfl⟩ oj IV ie gW (gH _ _)
   (tuple_addW2 t b vs.toArray ws.toArray n n2 dd vK sl mx (by simpa using hv) (by simpa using hw) ()) ⟨ho,kW,?_⟩
  rw[e];exact h2 hw
def de(n d:Nat):Option Int->Nat
 |none=>d
 |some v=>if v<0 then(v+(n:Int)).toNat else min v.toNat n
theorem ER(n d:Nat):de n d none=d:=rfl
theorem HF(n d k:Nat):de n d (some (k:Int))=min k n:=by
 show(if(k:Int)<0 then((k:Int)+(n:Int)).toNat else min (k:Int).toNat n)=min k n;rw[aA (),cX]
theorem GJ(n d:Nat)(hd:d<=n)(o:Option Int):de n d o<=n:=by
 cases o with
 |none=>exact hd
 |some v =>
  show(if v<0 then(v+(n:Int)).toNat else min v.toNat n)<=n;by_cases hv:v<0
  ·rw[aF hv];omega
  ·rw[aA hv];exact Nat.min_le_right _ _
theorem Hb(v:Int)(n d:Nat):(if v<0 then max (v+(n:Int)) 0 else min v (n:Int))=((de n d (some v):Nat):Int):=by
 show(if v<0 then max (v+(n:Int)) 0 else min v (n:Int))=(((if v<0 then(v+(n:Int)).toNat else min v.toNat n):Nat):Int)
 grind
theorem Wg(lo hi:Option Int)(n:Nat):Builtin.Slice.sliceAdjust lo hi 1 (n:Int)=(((de n 0 lo:Nat):Int),((de n n hi:Nat):Int)):=by
 refine xg ?_ ?_
 ·cases lo with
  |none=>rfl
  |some v=>exact Hb v n 0
 ·cases hi with
  |none=>rfl
  |some v=>exact Hb v n n
theorem WI(i j:Nat):Builtin.Slice.slicePlaces (i:Int) (j:Int) 1=j-i:=by
 unfold Builtin.Slice.slicePlaces;have h1:(1:Int)>0:=by omega
 simp only[h1,if_true,Int.ediv_one];split<;>omega
theorem FU{v:Value}{o:Option Int}{Q:Option Int->Shared->Prop}(p:IsPart v o)(h:Q o s):wpAny (model prog w) A (Builtin.Slice.slicePartIndex v) Q E s:=by
 cases p with
 |none=>exact slicePart_none h
 |int i t=>exact slicePart_int h
theorem N7{sl:Addr}{vl vu:Value}{lo hi:Option Int}{n:Nat}{Q:Int×Int×Nat->Shared->Prop}(hs:s.heap.IsSliceOf sl vl vu .none)(pl:IsPart vl lo)(pu:IsPart vu hi)(h:Q (((de n 0 lo:Nat):Int),1,de n n hi-de n 0 lo) s):wpAny (model prog w) A (Builtin.Slice.sliceApplied (.ref sl) (pure (n:Int))) Q E s:=by
 obtain⟨os,oV,vA,tu⟩:=id hs;refine aa (aa (bQ oV tu (x:=vl) rfl (aa (bQ oV tu (x:=vu) rfl (aa (bQ oV tu (x:=.none) rfl (ah ?_)))))));refine aa (slicePart_none ?_);refine aa (FU pl (aa (FU pu (aa (ah ?_)))));show wpAny _ _ (match Builtin.Slice.sliceAdjust lo hi 1 (n:Int) with|(lo,hi)=>pure (lo,(1:Int),Builtin.Slice.slicePlaces lo hi 1)) _ _ s;rw[Wg lo hi n];show wpAny _ _ (pure (((de n 0 lo:Nat):Int),(1:Int),Builtin.Slice.slicePlaces ((de n 0 lo:Nat):Int) ((de n n hi:Nat):Int) 1)) _ _ s;rw[WI];exact ah h
theorem Yg(xs:Array Value)(i k:Nat):((List.range k).filterMap λ(m:Nat)=>xs[((i:Int)+(m:Int)*1).toNat]?).toArray=((xs.toList.drop i).take k).toArray:=by
 have e:(λ(m:Nat)=>xs[((i:Int)+(m:Int)*1).toNat]?)=λm=>xs[i+m]?:=by
  funext m
  have:((i:Int)+(m:Int)*1).toNat=i+m:=by omega
  rw[this]
 rw[e];have:=pick_run xs i k;rw[List.filterMap_map] at this;have e2:((λx=>xs[x]?) ∘ λx=>i+x)=λm=>xs[i+m]?:=rfl;rw[e2] at this;rw[this]
theorem Ut{t sl:Addr}{items:Array Value}{vl vu:Value}{lo hi:Option Int}{Q:Value->Shared->Prop}(ht:IsTup s.heap t items)(hs:s.heap.IsSliceOf sl vl vu .none)(pl:IsPart vl lo)(pu:IsPart vu hi)(hw:¬(de items.size 0 lo=0/\de items.size items.size hi=items.size))(h:Q (.ref s.heap.objs.size) { s with heap:=s.heap.push { cls:=.type "tuple",data:=.seq ((items.toList.drop (de items.size 0 lo)).take (de items.size items.size hi-de items.size 0 lo)).toArray } })(gp:items.size<=sizeLine):wpAny (model prog w) A (getItem (.ref t) (.ref sl)) Q E s:=by
 have kC:sizeOk (.seq ((items.toList.drop (de items.size 0 lo)).take (de items.size items.size hi-de items.size 0 lo)).toArray):=by
  show((items.toList.drop (de items.size 0 lo)).take (de items.size items.size hi-de items.size 0 lo)).toArray.size<=sizeLine;rw[aJ,bC,kK,bS];omega
 obtain⟨os,oV,vA,tu⟩:=id hs;have yL:s.TypeIs (.ref sl) "slice":=⟨os,oV,vA⟩
 unfold getItem
 try with_reducible refine aY ?_
 refine aa (wpAny_sequenceKey ht.typeIs ∅ ?_);refine aa (bO ht.typeIs bG
  (bT bG ht.typeIs entry_tuple_getitem ?_ (args_tuple_getitem _ _)))
 show wpAny _ _ (Builtin.Tuple.tupleItemsOf (.ref t) >>= _) _ _ s;refine aa (tupleItemsOf_ ht ?_);refine aa (ef yL ?_);refine aa (N7 hs pl pu ?_);have yq:¬((((de items.size 0 lo:Nat):Int)==0&&(1:Int)==1&&(de items.size items.size hi-de items.size 0 lo)==items.size)=true):=by
  grind
 show wpAny _ _ (if(((de items.size 0 lo:Nat):Int)==0&&(1:Int)==1&&(de items.size items.size hi-de items.size 0 lo)==items.size)=true then _ else _) _ _ s;rw[aA yq,Yg]
 first
  |exact wpAny_bind (wpAny_newObj_type (wpAny_pure ⟨_,rfl,wpAny_pure h⟩) kC)
  |exact wpAny_bind (wpAny_newObj_type (wpAny_bind (wpAny_pure (wpAny_pure ⟨_,rfl,wpAny_pure h⟩))) kC)
  |exact wpAny_bind (wpAny_bind (wpAny_newObj_type (wpAny_pure (wpAny_pure ⟨_,rfl,wpAny_pure h⟩)) kC))
  |exact wpAny_bind (wpAny_bind (wpAny_newObj_type (wpAny_pure ⟨_,rfl,wpAny_pure h⟩) kC))
end
end HT
namespace L2
open PySem PySem.Spec PyProof.Rows
variable{X:Cx}{e:Expr}{pos:Pos}{n t':Nat}{a:Addr}{pins:List (Addr×Obj)}{U:St}{H H':Hp}{s:Shared}{bf:List Value}{o:Option V}{w:World}{A:Around}{E:Value->Shared->Prop}{u:Value}{aU:List (List Key×V)}{y:V}{P:Program}
noncomputable abbrev TO:=St->Hp->(Option Int->Hp->Prop)->Prop
def PO(X:Cx)(e:Option Expr)(t:TO):Prop :=
 ∀(pins:List (Addr×Obj)) (s:Shared) (U:St) (H:Hp) (Q:Option Int->Hp->Prop),Inv X pins U H s->t U H Q ->
  wpAny (model X.prog X.w) X.A (evalPart e X.env) (λu s'=>∃o H',Inv X pins U H' s'/\IsPart u o/\Q o H') X.xe s
def QC:TO:=λ_ H Q=>Q none H
def LJ(t:TE):TO:=λU H Q=>t U H λx H1=>∃i,x=.int i/\Q (some i) H1
section
variable{te:TE}{lo hi:Option Expr}{tl th:TO}{p2:Pos}
theorem HB:PO X none QC:=by
 intro pins s U H Q I h;exact ah ⟨none,H,I,.none,h⟩
theorem HC(h:PE X e te):PO X (some e) (LJ te):=by
 intro pins s U H Q I hw;refine cL (h pins s U H _ I hw) λu s1 br=>?_;obtain⟨x,H1,I1,r1,q1⟩:=br;obtain⟨i,rfl,q⟩:=q1;obtain⟨t,rfl⟩:=r1;exact⟨some i,H1,I1,.int i t,q⟩
def qT(X:Cx)(r:V->Option Int->Option Int->Hp->VK->Prop):Prop :=
 ∀(pins:List (Addr×Obj)) (s:Shared) (U:St) (H:Hp) (x:V) (v vl vu:Value) (lo hi:Option Int) (sl:Addr) (Q:VK),Inv X pins U H s->RelV x v->s.heap.IsSliceOf sl vl vu .none->IsPart vl lo->IsPart vu hi->r x lo hi H Q ->
  ∃T id,typeLookup (.type T) "__getitem__"=pure (some (.builtin id))/\s.TypeIs v T/\wpAny (model X.prog X.w) X.A (getItem v (.ref sl)) (EP X pins U Q) X.xe s
def Jo(r:V->Option Int->Option Int->Hp->VK->Prop)(te:TE)(tl th:TO):TE:=λU H Q=>te U H λx H1=>tl U H1 λl H2=>th U H2 λu H3=>r x l u H3 Q
theorem EL{r:V->Option Int->Option Int->Hp->VK->Prop}(hr:qT X r)(he:PE X e te)(hl:PO X lo tl)(hu:PO X hi th):PE X (.Subscript e (.Slice lo hi none p2) pos) (Jo r te tl th):=by
 intro pins s U H Q I h;refine Subscript_ (cL (he pins s U H _ I h) λv s1 br=>?_);obtain⟨x,H1,I1,r1,q1⟩:=br;refine wpAny_Slice (cL (hl pins s1 U H1 _ I1 q1) λvl s2 ⟨l,H2,I2,pl,q2⟩=>cL (hu pins s2 U H2 _ I2 q2) λvu s3 br=>?_);obtain⟨u,H3,I3,pu,q3⟩:=br;refine ah ?_;have I4:Inv X pins U H3 { s3 with heap:=s3.heap.push { cls:=.type "slice",data:=.fields #[vl,vu,.none] } }:=I3.kept (t':=s3.toks) λb ob q=>ag _ q;obtain⟨T,id,hT,ht,hg⟩:=hr pins { s3 with heap:=s3.heap.push { cls:=.type "slice",data:=.fields #[vl,vu,.none] } } U H3 x v vl vu l u s3.heap.objs.size Q I4 r1 (Heap.IsSliceOf.new ..) pl pu q3;exact tail_any ht hT hg (by rfl)
def U0(xs:List V)(lo hi:Option Int):List V:=(xs.drop (HT.de xs.length 0 lo)).take (HT.de xs.length xs.length hi-HT.de xs.length 0 lo)
theorem FW(xs:List V)(lo hi:Option Int):(U0 xs lo hi).length<=xs.length:=by
 unfold U0;rw[bC,kK];omega
def Rz(K:PySem.W.Frag):V->Option Int->Option Int->Hp->VK->Prop:=λx lo hi H Q=>∃a xs,x=.ref a/\iw K H a xs /\
 ¬(HT.de xs.length 0 lo=0/\HT.de xs.length xs.length hi=xs.length)/\∀p,H p=none->Q (.ref p) (upd H p (.tup (U0 xs lo hi)))
theorem NY:qT X (Rz X.K):=by
 intro pins s U H x v vl vu lo hi sl Q I rx hs pl pu h;obtain⟨a,xs,rfl,hx,hw,q⟩:=h;cases rx;obtain⟨bf,r,ht,hz⟩:=I.tuple hx;have hlen:bf.toArray.size=xs.length:=by exact r.length.symm
 refine⟨"tuple",_,bG.lookup,ht.typeIs,?_⟩;refine HT.Ut ht hs pl pu (by rw[hlen];exact hw) ?_ (by rw[hlen];exact hz);rw[hlen];refine⟨.ref s.heap.objs.size,_,I.laid (t':=s.toks) (λb ob q=>ag _ q) (ai _) ?_,rfl,q _ (I.bB.fresh (ai _))⟩;exact⟨aD (FW xs lo hi) hz,_,(r.drop (HT.de xs.length 0 lo)).take (HT.de xs.length xs.length hi-HT.de xs.length 0 lo),H9.new _ _⟩
def To(K:PySem.W.Frag):R2:=λx y H Q=>∃a b xs ys,x=.ref a/\y=.ref b/\iw K H a xs/\iw K H b ys/\xs≠[]/\xs.length+ys.length<=sizeLine /\
 (ys=[]->Q (.ref a) H)/\(ys≠[]->∀p,H p=none->Q (.ref p) (upd H p (.tup (xs++ys))))
theorem Vals.Ai{xs:List V}{us:List Value}(r:Vals xs us):us=[]↔xs=[]:=by
 cases r with
 |nil=>simp
 |cons _ _=>simp
theorem Pn:fF X (binaryOp .Add) (To X.K):=by
 intro pins s U H x y v u Q I rx ry h;obtain⟨a,b,xs,ys,rfl,rfl,ha,hb,hx,hz,q1,q2⟩:=h;cases rx;cases ry;obtain⟨bf,r1,p1,_⟩:=I.tuple ha;obtain⟨nh,r2,p2,_⟩:=I.tuple hb;refine HT.OA p1 p2 (λz=>hx (r1.Ai.mp z)) (λz=>⟨.ref a,H,I,rfl,q1 (r2.Ai.mp z)⟩) (λz=>?_) (by rw[<- r1.length,<- r2.length];exact hz);refine⟨.ref s.heap.objs.size,_,I.laid (t':=s.toks) (λb ob q=>ag _ q) (ai _) ?_,rfl,q2 (λw=>z (r2.Ai.mpr w)) _ (I.bB.fresh (ai _))⟩;exact⟨by rw[aS];exact hz,_,r1.append r2,H9.new _ _⟩
end
def kS(n:Nat)(i:Int):Option Nat:=if 0<=i then(if i<n then some i.toNat else none) else if -(n:Int)<=i then some (i+n).toNat else none
def iQ{α:Type}(xs:List α)(i:Int):Option α:=(kS xs.length i).bind λj=>xs[j]?
theorem Hn{i:Int}{j:Nat}(h:kS n i=some j):seqIndex? i n=some j/\j<n/\-(n:Int)<=i/\i<n:=by
 unfold kS at h;by_cases h0:0<=i
 ·rw[aF h0] at h;by_cases h1:i<n
  ·rw[aF h1] at h;have e:=aq h;exact⟨by rw[seqIndex_of h0 h1,e],by omega,by omega,h1⟩
  simp_all
 ·rw[aA h0] at h;by_cases h1:-(n:Int)<=i
  ·rw[aF h1] at h;have e:=aq h;exact⟨by rw[Zh () h1,e],by omega,h1,by omega⟩
  simp_all
theorem zZ{α:Type}{xs:List α}{i:Int}{v:α}(h:iQ xs i=some v):∃j,seqIndex? i xs.length=some j/\xs[j]?=some v/\j<xs.length/\-(xs.length:Int)<=i/\i<xs.length:=by
 unfold iQ at h;cases e:kS xs.length i with
 |none=>simp_all
 |some j =>
  rw[e] at h;obtain⟨h1,h2,h3,h4⟩:=Hn e;exact⟨j,h1,h,h2,h3,h4⟩
theorem S0{α:Type}{xs:List α}{j:Nat}{v:α}(h:xs[j]?=some v):iQ xs (j:Int)=some v:=by
 have hj:=(ax.mp h).1;have e:kS xs.length (j:Int)=some j:=by
  unfold kS
  simp_all
 unfold iQ;rw[e];exact h
def GZ(b:Expr):Prop:=∀o i,subscripted b false o i=operate [o,i] (getItem o i)
def qW(X:Cx)(r:R2):Prop :=
 ∀(value slice:Expr) (pins:List (Addr×Obj)) (s:Shared) (U:St) (H:Hp) (x y:V) (v u:Value) (Q:VK),Inv X pins U H s->RelV x v->RelV y u->r x y H Q ->
  subscripted slice false v u=operate [v,u] (getItem v u)->wpAny (model X.prog X.w) X.A (subscriptTail value slice v u) (EP X pins U Q) X.xe s
def jP(X:Cx)(id:String)(r:V->List V->Hp->VK->Prop):Prop :=
 ∀(pins:List (Addr×Obj)) (s:Shared) (U:St) (H:Hp) (x:V) (xs:List V) (v:Value) (us:List Value) (Q:VK),Inv X pins U H s->RelV x v->Vals xs us->r x xs H Q ->
  wpAny (model X.prog X.w) X.A (call (.builtin id) (v::us)) (EP X pins U Q) X.xe s
section
variable{a b:Expr}{ta tb:TE}
theorem Te{r:R2}(hr:qW X r)(ha:PE X a ta)(hb:PE X b tb)(hs:GZ b):PE X (.Subscript a b pos) (pT r ta tb):=by
 intro pins s U H Q I h;exact Subscript_ (BD ha hb I h λv u s2 x y H2 I2 rx ry q=>hr a b pins s2 U H2 x y v u Q I2 rx ry q (hs _ _))
def Ru(K:PySem.W.Frag):R2:=λx y H Q=>∃p xs i v,x=.ref p/\y=.int i/\gs K H p xs/\iQ xs i=some v/\Q v H
def Rw(K:PySem.W.Frag):R2:=λx y H Q=>∃p xs i v,x=.ref p/\y=.int i/\iw K H p xs/\iQ xs i=some v/\Q v H
def Rv:R2:=λx y H Q=>∃z i c,x=.str z/\y=.int i/\z.length<=sizeLine/\iQ z.cps.toList i=some c/\Q (.str ⟨#[c]⟩) H
theorem OS:qW X (Ru X.K):=by
 intro value slice pins s U H x y v u Q I rx ry h hs;obtain⟨p,xs,i,z,rfl,rfl,hq,he,q⟩:=h;cases rx;obtain⟨t,rfl⟩:=ry;obtain⟨bf,r,pl,hz⟩:=I.list hq;obtain⟨j,h1,h2,h3,h4,h5⟩:=zZ he;obtain⟨w,ew,eF⟩:=r.get h2;have hl:=r.length;have hn:=R0;have fin:EP X pins U Q w s:=⟨z,H,I,eF,q⟩
 by_cases h0:0<=i
 ·have hj:i.toNat=j:=by
   rw[seqIndex_of h0 h5] at h1;exact aq h1
  exact item_listR pl.isList h0 () (by rw[hj];simpa using ew) fin hs
 ·have hj:(i+(bf.toArray.size:Int)).toNat=j:=by
   rw[Zh () h4] at h1;rw[aJ,<- hl];exact aq h1
  exact subscriptTail_builtinR pl.isList.typeIs slot_list_getitem.lookup
   (wpAny_getItem_list_neg pl.isList () (by rw[aJ]<;>omega) () (by rw[hj];simpa using ew) ⟨rfl,fin⟩) hs
theorem Mp:qW X (Rw X.K):=by
 intro value slice pins s U H x y v u Q I rx ry h hs;obtain⟨p,xs,i,z,rfl,rfl,hq,he,q⟩:=h;cases rx;obtain⟨t,rfl⟩:=ry;obtain⟨bf,r,pl,hz⟩:=I.tuple hq;obtain⟨j,h1,h2,h3,h4,h5⟩:=zZ he;obtain⟨w,ew,eF⟩:=r.get h2;have hl:=r.length;have hn:=R0;have fin:EP X pins U Q w s:=⟨z,H,I,eF,q⟩
 exact subscriptTail_builtinR pl.typeIs slot_tuple_getitem.lookup
  (getItem_tuple pl () () (by rw[aJ,<- hl];exact h1) (by simpa using ew) ⟨rfl,fin⟩) hs
theorem Mo:qW X Rv:=by
 intro value slice pins s U H x y v u Q I rx ry h hs;obtain⟨z,i,c,rfl,rfl,hz,he,q⟩:=h;obtain⟨t,rfl⟩:=rx;obtain⟨t',rfl⟩:=ry;obtain⟨j,h1,h2,h3,h4,h5⟩:=zZ he;have hl:z.cps.toList.length=z.length:=by rfl
 rw[hl] at h1 h4 h5;have hn:=R0;exact tail_any (fM s z t) slot_str_getitem.lookup (getItem_str (by
  grind) (by rw [h1];simpa using h2) ⟨.str ⟨#[c]⟩,H,I.tok _,⟨_,rfl⟩,q⟩) hs
theorem WC(bf:List Value)(n j:Nat)(u:Value):Obj.mapSeq (·.setIfInBounds j u) { cls:=.type "list",data:=.seq bf.toArray n }={ cls:=.type "list",data:=.seq (bf.set j u).toArray n }:=by
 simp[Obj.mapSeq]
theorem Inv.lst{pins:List (Addr×Obj)}{U:St}{H:Hp}{s:Shared}{p:Addr}{xs:List V}(I:Inv X pins U H s)(h:H p=some (.lst xs)) :
  ∃(bf:List Value) (n:Nat),Vals xs bf/\s.heap.get? p=some { cls:=.type "list",data:=.seq bf.toArray n }/\xs.length<=sizeLine:=by
 obtain⟨z,bf,n,r,e⟩:=I.bB p _ h;exact⟨bf,n,r,e,z⟩
theorem Inv.MB{p:Addr}{xs ys:List V}{its':List Value}{n':Nat}{f:Obj->Obj}(I:Inv X pins U H s)(h:H p=some (.lst xs))(ho:s.heap.get? p=some { cls:=.type "list",data:=.seq bf.toArray n })(hf:f { cls:=.type "list",data:=.seq bf.toArray n }={ cls:=.type "list",data:=.seq its'.toArray n' })(r:Vals ys its')(hz:ys.length<=sizeLine)(t:Nat) :
  Inv X pins U (upd H p (.lst ys)) { s with heap:=s.heap.update p f,toks:=t }:=by
 have e:(s.heap.update p f).get? p=some { cls:=.type "list",data:=.seq its'.toArray n' }:=by
  rw[aL f ho (by rw[hf]<;>rfl),hf]
 refine I.write (by rw[h];trivial) (.inl rfl) (λb u hb q=>(bU _ _ (dg hb)).trans q) ⟨_,e⟩ ?_;exact⟨hz,its',n',r,e⟩
def Tp:V->V->V->Hp->(Hp->Prop)->Prop:=λo i v H Q=>∃p xs k j,o=.ref p/\i=.int k/\H p=some (.lst xs)/\kS xs.length k=some j/\Q (upd H p (.lst (xs.set j v)))
theorem set_list:Bw X Tp:=by
 intro pins s U H o i v ov iv u Q I ro ri rv h;obtain⟨p,xs,k,j,rfl,rfl,hp,hj,q⟩:=h;cases ro;obtain⟨t,rfl⟩:=ri;obtain⟨bf,n,r,ho,hz⟩:=I.lst hp;obtain⟨h1,h2,h3,h4⟩:=Hn hj;have hl:=r.length;have hn:=R0;have I':Inv X pins U (upd H p (.lst (xs.set j v))) { s with heap:=s.heap.update p (Obj.mapSeq (·.setIfInBounds j u)) } :=
  I.MB hp ho (WC bf n j u) (r.set rv j) (by rw[dY];exact hz) s.toks
 by_cases h0:0<=k
 ·have hk:k.toNat=j:=by
   rw[seqIndex_of h0 h4] at h1;exact aq h1
  exact PySem.W.ki_setAt ho h0 () (by rw[aJ,<- hl];exact h4) (by rw[hk];exact⟨_,I',q⟩)
 ·have hk:(k+(bf.toArray.size:Int)).toNat=j:=by
   rw[Zh () h3] at h1;rw[aJ,<- hl];exact aq h1
  exact PySem.W.ki_setBack ho () (by rw[aJ,<- hl];exact h3) () (by rw[hk];exact⟨_,I',q⟩)
theorem V8(lo hi:Option Int)(n:Nat):(sliceBounds lo hi none n).1=((HT.de n 0 lo:Nat):Int)/\(sliceBounds lo hi none n).2.1=((HT.de n n hi:Nat):Int)/\(sliceBounds lo hi none n).2.2=1:=by
 refine⟨?_,?_,rfl⟩
 ·cases lo with
  |none=>rfl
  |some i =>
   simp only[sliceBounds,HT.de,Option.getD_none,show(1:Int)>0 by decide,if_true]
   grind
 ·cases hi with
  |none=>rfl
  |some i =>
   simp only[sliceBounds,HT.de,Option.getD_none,show(1:Int)>0 by decide,if_true]
   grind
theorem Uk(bf:List Value)(lo hi:Option Int):slicePick bf.toArray lo hi none=((bf.drop (HT.de bf.length 0 lo)).take (HT.de bf.length bf.length hi-HT.de bf.length 0 lo)).toArray:=by
 obtain⟨h1,h2,h3⟩:=V8 lo hi bf.toArray.size;unfold slicePick;rw[h1,h2,h3];simp only[sliceRange_one,pick_run,List.size_toArray]<;>rfl
def Ry(K:PySem.W.Frag):V->Option Int->Option Int->Hp->VK->Prop:=λx lo hi H Q=>∃a xs,x=.ref a/\gs K H a xs/\∀p,H p=none->Q (.ref p) (upd H p (.lst (U0 xs lo hi)))
theorem Qs:qT X (Ry X.K):=by
 intro pins s U H x v vl vu lo hi sl Q I rx hs pl pu h;obtain⟨a,xs,rfl,hx,q⟩:=h;cases rx;obtain⟨bf,r,ht,hz⟩:=I.list hx;have hlen:=r.length;refine⟨"list",_,slot_list_getitem.lookup,ht.isList.typeIs,?_⟩;refine wpAny_getItem_list_slice ht.isList hs pl pu .none (by simp) ?_ (by grind);rw[Uk,<- hlen];refine⟨.ref s.heap.objs.size,_,I.laid (t':=s.toks) (λb ob q=>ag _ q) (ai _) ?_,rfl,q _ (I.bB.fresh (ai _))⟩;exact⟨aD (FW xs lo hi) hz,_,0,(r.drop (HT.de xs.length 0 lo)).take (HT.de xs.length xs.length hi-HT.de xs.length 0 lo),ak _ rfl⟩
def DD:V->V->Bool
 |.bA,.bA=>true
 |.bl a,.bl b=>a==b
 |.bl a,.int b=>(if a then 1 else 0)==b
 |.int a,.bl b=>a==(if b then 1 else 0)
 |.int a,.int b=>a==b
 |.str a,.str b=>a==b
 |_,_=>false
theorem TJ:k9 X (.builtin "len") (λxs H Q=>∃p ys,xs=[.ref p]/\(gs X.K H p ys\/iw X.K H p ys)/\Q (.int ys.length) H):=by
 intro pins s U H xs us Q I r h;obtain⟨p,ys,rfl,hq,q⟩:=h;obtain⟨u,rfl,rx⟩:=vals1 r;cases rx;have hn:=R0;rcases hq with hq|hq
 ·obtain⟨bf,r',pl,hz⟩:=I.list hq;have hlen:=r'.length;exact Calls.call_len_list pl.isList (by simp only[List.size_toArray]<;>omega) ⟨.int ys.length,H,I.tok _,⟨s.toks+1,by rw[aJ,hlen]⟩,q⟩
 ·obtain⟨bf,r',pl,hz⟩:=I.tuple hq;have hlen:=r'.length;exact len_tuple pl (by simp only[List.size_toArray]<;>omega) ⟨.int ys.length,H,I.tok _,⟨s.toks+1,by rw[aJ,hlen]⟩,q⟩
theorem TK:k9 X (.builtin "len") (λxs H Q=>∃z,xs=[.str z]/\z.length<=sizeLine/\Q (.int z.length) H):=by
 intro pins s U H xs us Q I r h;obtain⟨z,rfl,hz,q⟩:=h;obtain⟨u,rfl,t,rfl⟩:=vals1 r;have hn:=R0;exact len_str () ⟨.int z.length,H,I.tok _,⟨_,rfl⟩,q⟩
theorem TL:k9 X (.type "list") (λxs H Q=>∃p ys,xs=[.ref p]/\(gs X.K H p ys\/iw X.K H p ys)/\∀l,H l=none->Q (.ref l) (upd H l (.lst ys))):=by
 intro pins s U H xs us Q I r h;obtain⟨p,ys,rfl,hq,q⟩:=h;obtain⟨u,rfl,rx⟩:=vals1 r;cases rx;have fin:∀(bf:List Value),Vals ys bf->ys.length<=sizeLine->∀(h':Heap) (c':Nat),(∀b o',s.heap.get? b=some o'->h'.get? b=some o') ->
   h'.get? s.heap.objs.size=some { cls:=.type "list",dict:=none,data:=.seq bf.toArray c',slots:=#[] }->EP X pins U Q (.ref s.heap.objs.size) { s with heap:=h' }:=λbf r' hz h' c' kp e =>
  ⟨.ref s.heap.objs.size,_,I.laid (t':=s.toks) kp (ai _) (show j3 X.prog X.w _ h' _ (.lst ys) from⟨hz,bf,c',r',e⟩),rfl,q _ (I.bB.fresh (ai _))⟩
 rcases hq with hq|hq
 ·obtain⟨bf,r',pl,hz⟩:=I.list hq;have hlen:=r'.length;obtain⟨o,ho,hc,n,hd⟩:=pl.isList;exact call_list_seq p (.inl rfl) ho hc hd (λh' c' kp e=>fin bf r' hz h' c' kp e) (by simp_all)
 ·obtain⟨bf,r',pl,hz⟩:=I.tuple hq;have hlen:=r'.length;obtain⟨o,ho,hc,n,hd⟩:=pl;exact call_list_seq p (.inr rfl) ho hc hd (λh' c' kp e=>fin bf r' hz h' c' kp e) (by simp_all)
theorem Uh:k9 X (.type "tuple") (λxs H Q=>∃p ys,xs=[.ref p]/\((gs X.K H p ys/\∀l,H l=none->Q (.ref l) (upd H l (.tup ys)))\/(iw X.K H p ys/\Q (.ref p) H))):=by
 intro pins s U H xs us Q I r h;obtain⟨p,ys,rfl,h⟩:=h;obtain⟨u,rfl,rx⟩:=vals1 r;cases rx;rcases h with⟨hq,q⟩|⟨hq,q⟩
 ·obtain⟨bf,r',pl,hz⟩:=I.list hq;have hlen:=r'.length;refine call_tuple_list pl.isList (λh' kp=>?_) (by simp_all);have I1:=I.kept (t':=s.toks) kp;have I2:Inv X pins U (upd H h'.objs.size (.tup ys)) { s with heap:=h'.push { cls:=.type "tuple",data:=.seq bf.toArray } } :=
   I1.laid (t':=s.toks) (λb o e=>ag _ e) (ai _) (show j3 X.prog X.w _ _ _ (.tup ys) from⟨hz,bf,r',H9.new _ _⟩)
  exact⟨.ref h'.objs.size,_,I2,rfl,q _ (I1.bB.fresh (ai _))⟩
 ·obtain⟨bf,r',pl,hz⟩:=I.tuple hq;exact call_tuple_same pl ⟨.ref p,H,I,rfl,q⟩
def mW(K:PySem.W.Frag)(T:String)(x:V)(H:Hp):Prop:=match x with
 |.str _=>T="str"
 |.int _=>T="int"
 |.ref p=>(T="list"/\∃xs,gs K H p xs)\/(T="tuple"/\∃o,K.lookup p=some o/\o.cls=.type "tuple"/\o.dict=none) \/
   (T="dict"/\((∃aU,H p=some (.dK aU))\/∃aU,H p=some (.dT aU)))\/(T="set"/\∃S n,H p=some (.set S n))
 |_=>False
theorem GP{T:String}{x:V}{v:Value}(I:Inv X pins U H s)(r:RelV x v)(ty:mW X.K T x H) :
  s.TypeIs v T/\∀a,v=.ref a->∃ob,s.heap.get? a=some ob/\ob.dict=none:=by
 cases x with
 |str z =>
  obtain⟨t,rfl⟩:=r;cases (show T="str" from ty);exact⟨fM s z t,λ_ e=>nomatch e⟩
 |int i =>
  obtain⟨t,rfl⟩:=r;cases (show T="int" from ty);exact⟨typeIs_int s i t,λ_ e=>nomatch e⟩
 |ref p =>
  cases r;rcases ty with⟨rfl,xs,hq⟩|⟨rfl,o,hk,hc,hd⟩|⟨rfl,hk⟩|⟨rfl,S,n,hk⟩
  ·obtain⟨bf,_,pl,_⟩:=I.list hq;refine⟨pl.isList.typeIs,λa e=>?_⟩;cases e;obtain⟨o,n,e,c,hd,_⟩:=pl;exact⟨o,e,hd⟩
  ·refine⟨⟨o,I.gC p o hk,hc⟩,λa e=>?_⟩;cases e;exact⟨o,I.gC _ o hk,hd⟩
  ·have z:∃o,s.heap.get? p=some o/\o.ExactDict:=by
    rcases hk with⟨aU,hk⟩|⟨aU,hk⟩
    ·obtain⟨_,_,_,_,o,_,_,e,ex,_⟩:=I.bB p _ hk;exact⟨o,e,ex⟩
    ·obtain⟨_,_,_,_,o,_,_,e,ex,_⟩:=I.bB p _ hk;exact⟨o,e,ex⟩
   obtain⟨o,e,ex⟩:=z;refine⟨⟨o,e,ex.1⟩,λa e2=>?_⟩;cases e2;exact⟨o,e,ex.2.1⟩
  ·obtain⟨o,_,_,_,e,ex,_⟩:=I.bB p _ hk;refine⟨⟨o,e,ex.1⟩,λa e2=>?_⟩;cases e2;exact⟨o,e,ex.2.1⟩
 |_=>exact False.elim ty
def RL(K:PySem.W.Frag)(T:String)(r:V->List V->Hp->VK->Prop)(to:TE):TE:=λU H Q=>to U H λx H1=>mW K T x H1/\r x [] H1 Q
def Jr(K:PySem.W.Frag)(T:String)(r:V->List V->Hp->VK->Prop)(to:TE)(t:TA):TE:=λU H Q=>to U H λx H1=>mW K T x H1/\t U H1 λxs H2=>r x xs H2 Q
variable{o:Expr}{es:List Expr}{to:TE}{t:TA}{name:Str}{apos dM:Pos}{T id:String}{r:V->List V->Hp->VK->Prop}
theorem Nk(pa:PlainAttrs T)(slot:Slot T name id)(oR:typeOf (.builtin id)=pure (.type "method_descriptor"))(hm:jP X id r)(ho:PE X o to)(iO:attributeBase o name X.env (eval o X.env)=eval o X.env:=by rfl)(iN:(apos.endLine==dM.line)=true:=by rfl):PE X (.Call (.Attribute o name apos) [] [] dM) (RL X.K T r to):=by
 intro pins s U H Q I h;refine wpAny_Call_method0_late iO iN (cL (ho pins s U H _ I h) λv s1 br=>?_);obtain⟨x,H1,I1,r1,ty,q1⟩:=br;obtain⟨h1,h2⟩:=GP I1 r1 ty;exact⟨T,id,pa,slot,oR,h1,h2,Zs rfl (PySem.evalArgs_none (hm pins s1 U H1 x [] v [] Q I1 r1 .nil q1))⟩
theorem Tc(pa:PlainAttrs T)(slot:Slot T name id)(oR:typeOf (.builtin id)=pure (.type "method_descriptor"))(hm:jP X id r)(ho:PE X o to)(ha:PA X (e::es) t)(iO:attributeBase o name X.env (eval o X.env)=eval o X.env:=by rfl)(pj:((backTo dM (starEach (e :: es) X.env)).all (λx=>!x.1) && (backToKw dM (keywordEach [] X.env)).all (λx=>x.1.isSome)
   && decide ((e :: es).length + ([]:List Keyword).length + (if ([]:List Keyword).isEmpty then 0 else 1) < 30))=true:=by rfl)(iN:(apos.endLine==dM.line)=true:=by rfl)(hs:starEach (e::es) X.env=(false,eval e X.env)::starEach es X.env:=by rfl)(gD:(backTo dM (starEach es X.env)).any (·.1)=false:=by rfl) :
  PE X (.Call (.Attribute o name apos) (e::es) [] dM) (Jr X.K T r to t):=by
 intro pins s U H Q I h;refine wpAny_Call_method_late iO pj iN rfl (cL (ho pins s U H _ I h) λv s1 br=>?_);obtain⟨x,H1,I1,r1,ty,q1⟩:=br;obtain⟨h1,h2⟩:=GP I1 r1 ty;refine⟨T,id,pa,slot,oR,h1,h2,?_⟩;have hA:=ha dM pins s1 U H1 _ I1 q1;rw[hs] at hA ⊢;refine Zs (by show(false||(backTo dM (starEach es X.env)).any (·.1))=false;rw[gD]<;>rfl) (kj ?_);exact cL hA λus s2 ⟨vs,H2,I2,r2,q2⟩=>hm pins s2 U H2 x vs v us Q I2 r1 r2 q2
end
def BN(X:Cx)(id:String)(r:V->List V->Hp->VK->Prop):Prop :=
 ∀(pins:List (Addr×Obj)) (s:Shared) (U:St) (H:Hp) (x:V) (xs:List V) (v:Value) (us:List Value) (Q:VK),Inv X pins U H s->RelV x v->Vals xs us->r x xs H Q ->
  wpAny (model X.prog X.w) X.A (call (.builtin id) (v::us)) (EP X pins U Q) X.xe s
theorem Vals.one{x:V}{us:List Value}(h:Vals [x] us):∃u,us=[u]/\RelV x u:=by
 cases h with
 |cons r h =>
  cases h;exact⟨_,rfl,r⟩
theorem Vals.zero:∀{us:List Value},Vals [] us->us=[]
 |_,.nil=>rfl
theorem Vals.dropLast{xs:List V}{us:List Value}(h:Vals xs us):Vals xs.dropLast us.dropLast:=by
 induction h with
 |nil=>exact .nil
 |cons r t ih =>
  cases t with
  |nil=>exact .nil
  |cons q t'=>exact .cons r ih
theorem Vals.eraseIdx:∀{xs:List V} {us:List Value} (i:Nat),Vals xs us->Vals (xs.eraseIdx i) (us.eraseIdx i)
 |_,_,_,.nil=>.nil
 |_,_,0,.cons _ t=>t
 |_,_,i+1,.cons r t=>.cons r (Vals.eraseIdx i t)
theorem Vals.reverse{xs:List V}{us:List Value}(h:Vals xs us):Vals xs.reverse us.reverse:=by
 induction h with
 |nil=>exact .nil
 |cons r t ih=>rw[gF,gF];exact Vals.append ih (.cons r .nil)
theorem Fw{α:Type}:∀(l:List α) (i:Nat),(l.eraseIdx i).length<=l.length
 |[],_=>ai _
 |_::_,0=>cD _
 |_::r,i+1=>Nat.succ_le_succ (Fw r i)
section
variable{l:Addr}{xs ys:List V}
theorem Inv.pK{its':List Value}{f:Array Value->Array Value}{t':Nat}(I:Inv X pins U H s)(hH:H l=some (.lst xs))(e:s.heap.get? l=some { cls:=.type "list",data:=.seq bf.toArray n })(hf:f bf.toArray=its'.toArray)(hv:Vals ys its')(hz:ys.length<=sizeLine) :
  Inv X pins U (upd H l (.lst ys)) { s with heap:=s.heap.update l (Obj.mapSeq f),toks:=t' }:=by
 have q:=Zl e f;rw[hf] at q;refine I.write (by rw[hH];exact trivial) (.inl rfl) (λb' u hb hu=>(bU s.heap (Obj.mapSeq f) (dg hb)).trans hu) ⟨_,q⟩ ?_;exact⟨hz,its',_,hv,q⟩
theorem Inv.Ra{t':Nat}(I:Inv X pins U H s)(hv:Vals ys bf)(hz:ys.length<=sizeLine) :
  Inv X pins U (upd H s.heap.objs.size (.lst ys)) { s with heap:=s.heap.push { cls:=.type "list",data:=.seq bf.toArray },toks:=t' } :=
 I.laid (λ_ _ q=>ag _ q) (ai _) ⟨hz,bf,0,hv,ak _ rfl⟩
theorem Inv.fresh(I:Inv X pins U H s):H s.heap.objs.size=none:=I.bB.fresh (ai _)
theorem Inv.ud(I:Inv X pins U H s)(hH:H l=some (.lst xs)):xs.length<=sizeLine/\∃(bf:List Value) (n:Nat),Vals xs bf/\xs.length=bf.length/\s.heap.get? l=some { cls:=.type "list",data:=.seq bf.toArray n }:=by
 obtain⟨z,bf,n,r,e⟩:=I.bB l _ hH;exact⟨z,bf,n,r,r.length,e⟩
end
def Qb:V->List V->Hp->VK->Prop:=λx vs H Q=>∃l xs y,x=.ref l/\vs=[y]/\H l=some (.lst xs)/\xs.length<sizeLine/\Q .bA (upd H l (.lst (xs++[y])))
theorem VC:BN X "list.append" Qb:=by
 intro pins s U H x vs v us Q I rx rv h;obtain⟨l,xs,y,rfl,rfl,hH,hz,q⟩:=h;cases rx;obtain⟨u,rfl,ru⟩:=rv.one;obtain⟨z,bf,n,r,hl,e⟩:=I.ud hH;refine eU F.slot_list_append ⟨_,e,rfl⟩ F.entry_list_append (F.args_list_append_2 _ _) (Yn l bf.toArray n u (by grind)) ⟨e,?_⟩;refine⟨.bA,_,I.pK (its':=bf++[u]) hH e (by simp) (r.append (.cons ru .nil)) ?_,rfl,q⟩
 grind
def NI:V->List V->Hp->VK->Prop:=λx vs H Q=>∃l xs i k y,x=.ref l/\vs=[.int i]/\H l=some (.lst xs)/\-(2 ^ 63)<=i/\i<2 ^ 63/\seqIndex? i xs.length=some k/\xs[k]?=some y/\Q y (upd H l (.lst (xs.eraseIdx k)))
theorem XU:BN X "list.pop" NI:=by
 intro pins s U H x vs v us Q I rx rv h;obtain⟨l,xs,i,k,y,rfl,rfl,hH,h1,h2,hk,hy,q⟩:=h;cases rx;obtain⟨u,rfl,ru⟩:=rv.one;obtain⟨t,rfl⟩:=ru;obtain⟨z,bf,n,r,hl,e⟩:=I.ud hH;obtain⟨w,hw,eF⟩:=r.get hy;refine eU F.slot_list_pop ⟨_,e,rfl⟩ F.entry_list_pop (F.args_list_pop_2 _ _)
  (MeetsSeq.list_pop_at l bf.toArray n i t k w (fitsIndex_both h1 h2) (by rw[aJ,<- hl];exact hk) (by simp_all) (by rw[aJ];omega)) ⟨e,?_⟩
 refine⟨y,_,I.pK (its':=bf.eraseIdx k) hH e ?_ (r.eraseIdx k) ?_,eF,q⟩
 ·simp
 ·have:=Fw xs k;omega
def Rt:R2:=λx y H Q=>∃l b xs zs,x=.ref l/\y=.ref b/\H l=some (.lst xs)/\H b=some (.lst zs)/\xs.length+zs.length<=sizeLine/\∀p,H p=none->Q (.ref p) (upd H p (.lst (xs++zs)))
theorem MY:fF X (binaryOp .Add) Rt:=by
 intro pins s U H x y v u Q I rx ry h;obtain⟨l,b,xs,zs,rfl,rfl,hH,hB,hz,q⟩:=h;cases rx;cases ry;obtain⟨z,bf,n,r,hl,e⟩:=I.ud hH;obtain⟨z2,nh,n2,r2,yy,e2⟩:=I.ud hB;refine PySem.P.add_list e e2 ?_ (by rw[aJ,aJ];omega);have ea:bf.toArray++nh.toArray=(bf++nh).toArray:=by simp
 rw[ea];exact⟨.ref _,_,I.Ra (t':=s.toks) (r.append r2) (by rw[aS];omega),rfl,q _ I.fresh⟩
section
variable{κ:Type}[DecidableEq κ]
def J5(aU:List (κ×V))(k:κ):Option V:=(aU.find? λkv=>decide (kv.1=k)).map (·.2)
def putK(aU:List (κ×V))(k:κ)(v:V):List (κ×V) :=
 if(aU.any λkv=>decide (kv.1=k))=true then aU.map (λkv=>if kv.1=k then(kv.1,v) else kv) else aU++[(k,v)]
def vR(aU:List (κ×V))(k:κ):List (κ×V):=aU.filter λkv=>decide (kv.1≠k)
theorem AJ{p:κ×V}{r:List (κ×V)}{k:κ}(e:p.1=k):J5 (p::r) k=some p.2:=by simp[J5,List.find?_cons,e]
theorem AI{p:κ×V}{r:List (κ×V)}{k:κ}(e:¬p.1=k):J5 (p::r) k=J5 r k:=by simp[J5,List.find?_cons,e]
theorem EZ(k:κ):∀aU:List (κ×V),(aU.any λkv=>decide (kv.1=k))=(J5 aU k).isSome
 |[]=>rfl
 |p::r=>by
  rw[jq];by_cases e:p.1=k
  ·simp only[AJ e,decide_eq_true e,Bool.true_or,Option.isSome_some]
  ·rw[AI e,bt e,Bool.false_or];exact EZ k r
theorem Ga(aU:List (κ×V))(k:κ)(v:V):(putK aU k v).length<=aU.length+1:=by
 unfold putK;split
 ·simp
 simp
theorem A9.L4{u:Option Value}(r:A9 o u):o.isSome=u.isSome:=by
 cases o with
 |none=>cases u with
  |none=>rfl
  |some _=>exact(show False from r).elim
 |some _=>cases u with
  |none=>exact(show False from r).elim
  |some _=>rfl
theorem A9.getD{o:Option V}{u:Option Value}{d:V}{d':Value}(r:A9 o u)(rd:RelV d d'):RelV (o.getD d) (u.getD d'):=by
 cases o with
 |none=>cases u with
  |none=>exact rd
  |some _=>exact(show False from r).elim
 |some _=>cases u with
  |none=>exact(show False from r).elim
  |some _=>exact r
theorem KV.val{aU:List (κ×V)}{vs:List (κ×Value)}(r:KV aU vs)(k:κ):A9 (J5 aU k) (valueAt vs k):=by
 induction r with
 |nil=>exact True.intro
 |@cons p q ps qs h t ih =>
  obtain⟨h1,h2⟩:=h;by_cases e:p.1=k
  ·have e':=h1.symm.trans e;have b:valueAt (q::qs) k=some q.2:=by simp[valueAt,List.find?_cons,e']
   rw[AJ e,b];exact h2
  ·have e':¬q.1=k:=λz=>e (h1.trans z);have b:valueAt (q::qs) k=valueAt qs k:=by simp[valueAt,List.find?_cons,e']
   rw[AI e,b];exact ih
theorem KV.any{aU:List (κ×V)}{vs:List (κ×Value)}(r:KV aU vs)(k:κ):(aU.any λkv=>decide (kv.1=k))=vs.any λkv=>decide (kv.1=k):=by
 induction r with
 |nil=>rfl
 |cons h t ih=>simp_all
theorem KV.AK{aU:List (κ×V)}{vs:List (κ×Value)}(r:KV aU vs)(k:κ)(ry:RelV y u) :
  KV (aU.map λkv=>if kv.1=k then(kv.1,y) else kv) (vs.map λkv=>if kv.1=k then(kv.1,u) else kv):=by
 induction r with
 |nil=>exact .nil
 |@cons p q ps qs h t ih =>
  rw[aG,aG];refine .cons ?_ ih;obtain⟨h1,h2⟩:=h;by_cases e:p.1=k
  ·rw[aF e,aF (h1.symm.trans e)];exact⟨h1,ry⟩
  ·rw[aA e,aA (λz=>e (h1.trans z))];exact⟨h1,h2⟩
theorem KV.put{aU:List (κ×V)}{vs:List (κ×Value)}(r:KV aU vs)(k:κ)(ry:RelV y u):KV (putK aU k y) (stored vs k u):=by
 unfold putK stored;rw[r.any k];by_cases e:(vs.any λkv=>decide (kv.1=k))=true
 ·rw[aF e,aF e];exact r.AK k ry
 ·rw[aA e,aA e];exact Paired.snoc r ⟨rfl,ry⟩
theorem KV.drop{aU:List (κ×V)}{vs:List (κ×Value)}(r:KV aU vs)(k:κ):KV (vR aU k) (without vs k):=by
 unfold vR without
 induction r with
 |nil=>exact .nil
 |@cons p q ps qs h t ih =>
  obtain⟨h1,h2⟩:=h;rw[gX,gX];by_cases e:p.1=k
  ·have a:¬decide (p.1≠k)=true:=by simp[e]
   have b:¬decide (q.1≠k)=true:=by simp[h1.symm.trans e]
   rw[aA a,aA b];exact ih
  ·have e':¬q.1=k:=λz=>e (h1.trans z);have a:decide (p.1≠k)=true:=by simp[e]
   have b:decide (q.1≠k)=true:=by simp[e']
   rw[aF a,aF b];exact .cons ⟨h1,h2⟩ ih
theorem KV.length{aU:List (κ×V)}{vs:List (κ×Value)}(r:KV aU vs):aU.length=vs.length:=lh r
end
theorem uy{k:Key}(r:RelV (kV k) u):(l9 P w).is k u=true:=by
 cases k with
 |inl i=>obtain⟨t,e⟩:=(show ∃t,u=Value.int i t from r);subst e;exact Xd P w i t
 |inr x=>obtain⟨t,e⟩:=(show ∃t,u=Value.str x t from r);subst e;exact Xe P w x t
theorem Fv{P:Program}{w:World}:∀{ks:List Key} {us:List Value},Vals (ks.map kV) us->ItemsAre (l9 P w) ks us
 |[],_,r=>by cases r;exact .nil
 |k::ks,_,r=>by
  cases r with
  |cons h t=>exact .cons (uy h) (Fv t)
noncomputable abbrev KT(H:Hp):List (List Key×V)->List (List Key×Addr×Value)->Prop:=Paired λp q=>p.1=q.1/\H q.2.1=some (.tup (p.1.map kV))/\RelV p.2 q.2.2
theorem KT.val{xs:List (List Key×Addr×Value)}(r:KT H aU xs)(k:List Key):A9 (J5 aU k) ((atKey xs k).map (·.2)):=by
 induction r with
 |nil=>exact True.intro
 |@cons p q ps qs h t ih =>
  obtain⟨h1,_,h2⟩:=h;by_cases e:p.1=k
  ·have e':=h1.symm.trans e;have b:atKey (q::qs) k=some q.2:=by simp[atKey,List.find?_cons,e']
   rw[AJ e,b];exact h2
  ·have e':¬q.1=k:=λz=>e (h1.trans z);have b:atKey (q::qs) k=atKey qs k:=by simp[atKey,List.find?_cons,e']
   rw[AI e,b];exact ih
theorem KT.AK{xs:List (List Key×Addr×Value)}(r:KT H aU xs)(k:List Key)(ry:RelV y u) :
  KT H (aU.map λkv=>if kv.1=k then(kv.1,y) else kv) (xs.map (putAt k u)):=by
 induction r with
 |nil=>exact .nil
 |@cons p q ps qs h t ih =>
  rw[aG,aG];refine .cons ?_ ih;obtain⟨h1,h2,h3⟩:=h;unfold putAt;by_cases e:p.1=k
  ·rw[aF e,aF (h1.symm.trans e)];exact⟨h1,h2,ry⟩
  ·rw[aA e,aA (λz=>e (h1.trans z))];exact⟨h1,h2,h3⟩
theorem KT.put{xs:List (List Key×Addr×Value)}(r:KT H aU xs)(k:List Key){b:Addr}(hb:H b=some (.tup (k.map kV)))(ry:RelV y u) :
  KT H (putK aU k y) (storedH xs k b u):=by
 have e:(aU.any λkv=>decide (kv.1=k))=(atKey xs k).isSome:=by
  rw[EZ,(r.val k).L4,ka]
 unfold putK storedH;rw[e];by_cases q:(atKey xs k).isSome=true
 ·rw[aF q,aF q];exact r.AK k ry
 ·rw[aA q,aA q];exact Paired.snoc r ⟨rfl,hb,ry⟩
theorem KT.keeps{xs:List (List Key×Addr×Value)}(r:KT H aU xs)(ht:∀b ys,H b=some (.tup ys)->H' b=some (.tup ys)):KT H' aU xs :=
 Paired.DW r λ_ _ z=>⟨z.1,ht _ _ z.2.1,z.2.2⟩
section
variable{h:Heap}
theorem Iq{u:HO}(ok:fG P w H h)(e:Rd H a u):j3 P w H h a u:=e.ok ok
theorem uw{aU:List (Key×V)}(ok:fG P w H h)(e:Rd H a (.dK aU)):aU.length<=sizeLine/\(a==sysModules)=false/\∃vs,KV aU vs/\h.DictOf (l9 P w) a vs :=
 show j3 P w H h a (.dK aU) from Iq ok e
theorem Sh{aU:List (Key×V)}(ok:fG P w H h)(e:H a=some (.dK aU)):aU.length<=sizeLine/\(a==sysModules)=false/\∃vs,KV aU vs/\h.DictOf (l9 P w) a vs:=uw ok (.inl e)
theorem X8{ks:List Key}(ok:fG P w H h)(e:H a=some (.tup (ks.map kV))):(tupleKind (l9 P w)).is h ks a:=by
 obtain⟨_,bf,r,o,h1,h2,⟨n,h3⟩,_⟩:=(show j3 P w H h a (.tup (ks.map kV)) from ok a _ e)
 exact⟨o,bf.toArray,n,h1,h2,h3,by simpa using Fv r⟩
theorem ux(ok:fG P w H h)(e:Rd H a (.dT aU)):aU.length<=sizeLine/\(a==sysModules)=false /\
  ∃xs,KT H aU xs/\h.DictOfH (tupleKind (l9 P w)) a xs:=by
 obtain⟨z,y,xs,r,o,es,ep,h1,h2,h3,h4,h5⟩:=(show j3 P w H h a (.dT aU) from Iq ok e)
 refine⟨z,y,xs,r,o,es,ep,h1,h2,h3,h4,λx hx=>?_,h5⟩;have all:∀{l:List (List Key×V)} {m:List (List Key×Addr×Value)},KT H l m->∀x∈m,(tupleKind (l9 P w)).is h x.1 x.2.1:=by
  intro l m q
  induction q with
  |nil=>simp
  |@cons p q ps qs hq t ih =>
   intro x hx;rcases aB.mp hx with e|hx
   ·exact X8 ok (by simp_all)
   ·exact ih x hx
 exact all r x hx
theorem Sk(ok:fG P w H h)(e:H a=some (.dT aU)):aU.length<=sizeLine/\(a==sysModules)=false /\
  ∃xs,KT H aU xs/\h.DictOfH (tupleKind (l9 P w)) a xs:=ux ok (.inl e)
end
def Q3(H:Hp)(a:Addr)(y:V)(r:Option V):Prop :=
 (∃aU k,Rd H a (.dK aU)/\y=kV k/\r=J5 aU k)\/∃aU k b,Rd H a (.dT aU)/\y=.ref b/\H b=some (.tup (k.map kV))/\r=J5 aU k
def wM(H:Hp)(a:Addr)(y v:V)(H':Hp):Prop :=
 (∃aU k,H a=some (.dK aU)/\y=kV k/\aU.length<sizeLine/\H'=upd H a (.dK (putK aU k v))) \/
 ∃aU k b,H a=some (.dT aU)/\y=.ref b/\H b=some (.tup (k.map kV))/\aU.length<sizeLine/\H'=upd H a (.dT (putK aU k v))
theorem Q3.k{H:Hp}{a:Addr}{aU:List (Key×V)}{k:Key}(e:H a=some (.dK aU)):Q3 H a (kV k) (J5 aU k):=.inl ⟨aU,k,.inl e,rfl,rfl⟩
theorem wM.k{H:Hp}{a:Addr}{aU:List (Key×V)}{k:Key}{v:V}(e:H a=some (.dK aU))(hl:aU.length<sizeLine):wM H a (kV k) v (upd H a (.dK (putK aU k v))):=.inl ⟨aU,k,e,rfl,hl,rfl⟩
section
variable{v:V}{r:Value}
theorem Inv.big(I:Inv X pins U H s):sysModules<s.heap.objs.size:=by
 have h:=(I.mod.glob.keeps I.bk).lt;exact du ∅ h
theorem Vh{Q:Value->Shared->Prop}(hu:A.units+1<cLine)(I:Inv X pins U H s)(g:Q3 H a y (some v))(ry:RelV y u)(h:∀w' s',Inv X pins U H s'->RelV v w'->Q w' s') :
  wpAny (model X.prog X.w) A (getItem (.ref a) u) Q E s:=by
 rcases g with⟨aU,k,e,ey,l⟩|⟨aU,k,b,e,ey,eb,l⟩
 ·subst ey;obtain⟨z,hd,vs,rel,dd⟩:=uw I.bB e;obtain⟨w',hw,eF⟩:=A9.some_of (by rw[l];exact rel.val k);exact wpAny_getItem_of (uy ry) dd.mapOf hw (h w' _ (I.tok _) eF)
 ·subst ey;cases (show u=Value.ref b from ry);obtain⟨z,hd,xs,rel,dd⟩:=ux I.bB e;obtain⟨w',hw,eF⟩:=A9.some_of (by rw[l];exact rel.val k);obtain⟨p,hp,Kf⟩:=af.mp hw;refine wpAny_getItem_heap (gS hu) (X8 I.bB eb) dd hp ?_;rw[Kf];exact h w' _ (I.tok _) eF
theorem QO{Q:Value->Shared->Prop}(hu:A.units+1<cLine)(I:Inv X pins U H s)(g:Q3 H a y o)(ry:RelV y u)(h:∀s',Inv X pins U H s'->Q (.bool o.isSome) s') :
  wpAny (model X.prog X.w) A (compareOp .In u (.ref a)) Q E s:=by
 rcases g with⟨aU,k,e,ey,l⟩|⟨aU,k,b,e,ey,eb,l⟩
 ·subst ey;obtain⟨z,hd,vs,rel,dd⟩:=uw I.bB e;refine wpAny_in_of (uy ry) hd dd.mapOf ?_;rw[<- (rel.val k).L4,<- l];exact h _ (I.tok _)
 ·subst ey;cases (show u=Value.ref b from ry);obtain⟨z,hd,xs,rel,dd⟩:=ux I.bB e;refine wpAny_in_heap (gS hu) (X8 I.bB eb) hd dd ?_;have q:=(rel.val k).L4;rw[ka] at q;rw[<- q,<- l];exact h _ (I.tok _)
theorem OD{Q:Value->Shared->Prop}(hu:A.units+1<cLine)(I:Inv X pins U H s)(g:Q3 H a y o)(ry:RelV y u)(h:∀s',Inv X pins U H s'->Q (.bool (!o.isSome)) s') :
  wpAny (model X.prog X.w) A (compareOp .NotIn u (.ref a)) Q E s:=by
 rcases g with⟨aU,k,e,ey,l⟩|⟨aU,k,b,e,ey,eb,l⟩
 ·subst ey;obtain⟨z,hd,vs,rel,dd⟩:=uw I.bB e;refine wpAny_notIn_of (uy ry) hd dd.mapOf ?_;rw[<- (rel.val k).L4,<- l];exact h _ (I.tok _)
 ·subst ey;cases (show u=Value.ref b from ry);obtain⟨z,hd,xs,rel,dd⟩:=ux I.bB e;refine wpAny_notIn_heap (gS hu) (X8 I.bB eb) hd dd ?_;have q:=(rel.val k).L4;rw[ka] at q;rw[<- q,<- l];exact h _ (I.tok _)
theorem Hc{h':Heap}{t':Nat}{ob:HO}(I:Inv X pins U H s)(mu:uH (H a))(hs:Heap.SameBut a s.heap h')(he:∃q,h'.get? a=some q)(new:j3 X.prog X.w (upd H a ob) h' a ob) :
  Inv X pins U (upd H a ob) { s with heap:=h',toks:=t' } :=
 I.write mu (.inl rfl) (λb q hb z=>(hs.2 b hb).trans z) he new
theorem Mg{h':Heap}{aU:List (Key×V)}{vs:List (Key×Value)}(z:aU.length<=sizeLine)(hd:(a==sysModules)=false)(rel:KV aU vs)(dd:h'.DictOf (l9 P w) a vs) :
  j3 P w H' h' a (.dK aU):=⟨z,hd,vs,rel,dd⟩
theorem Vi{Q:Unit->Shared->Prop}(hu:A.units+1<cLine)(I:Inv X pins U H s)(g:wM H a y v H')(ry:RelV y u)(rv:RelV v r)(h:∀s',Inv X pins U H' s'->Q Unit.unit s') :
  wpAny (model X.prog X.w) A (setItem (.ref a) u r) Q E s:=by
 rcases g with⟨aU,k,e,ey,l,eH⟩|⟨aU,k,b,e,ey,eb,l,eH⟩
 ·subst ey eH;obtain⟨z,hd,vs,rel,dd⟩:=Sh I.bB e;have hz:vs.length<=sizeLine:=by rw[<- rel.length];exact z
  have hl:(putK aU k v).length<=sizeLine:=by have:=Ga aU k v;omega
  refine wpAny_setItem_pairs (uy ry) dd λh' vL hs=>h _ ?_;have he:∃q,h'.get? a=some q:=let ⟨q,_,_,hq,_⟩:=vL;⟨q,hq⟩
  exact Hc I (by rw[e];exact True.intro) hs he (Mg hl hd (rel.put k rv) vL)
 ·subst ey eH;cases (show u=Value.ref b from ry);obtain⟨z,hd,xs,rel,dd⟩:=Sk I.bB e;have hz:xs.length<=sizeLine:=by rw[<- lh rel];exact z
  have hl:(putK aU k v).length<=sizeLine:=by have:=Ga aU k v;omega
  refine wpAny_setItem_heap (gS hu) (X8 I.bB eb) dd λh' vL hs=>h _ ?_;obtain⟨q,es,ep,hq,h2,h3,h4,_,h5⟩:=vL;refine Hc I (by rw[e];exact True.intro) hs ⟨q,hq⟩ ⟨hl,hd,_,(rel.put k eb rv).keeps λc ys ec=>?_,q,es,ep,hq,h2,h3,h4,h5⟩;rw[c7 (SQ ec e (λz=>nomatch z))];exact ec
end
theorem W'(I:Inv X pins U H s)(g:Q3 H a y o):s.TypeIs (.ref a) "dict":=by
 rcases g with⟨aU,k,e,_,_⟩|⟨aU,k,b,e,_,_,_⟩
 ·obtain⟨_,_,vs,_,dd⟩:=uw I.bB e;exact dd.typeIs
 ·obtain⟨_,_,xs,_,dd⟩:=ux I.bB e;exact dd.typeIs
theorem Xu(h:Heap)(hb:sysModules<h.objs.size):j3 P w H (h.push { cls:=.type "dict",data:=.dict #[] }) h.objs.size (.dK []) :=
 ⟨cJ _,df.mpr (dg (aC hb)),[],.nil,Heap.DictOf.new h⟩
def Ol:TE:=λ_ H Q=>∀p,H p=none->Q (.ref p) (upd H p (.dK []))
theorem Yc:PE X (.Dict [] [] pos) Ol:=λpins s U H Q I h =>
 wpAny_Dict_empty ⟨.ref s.heap.objs.size,_,I.laid (t':=s.toks) (λ_ _ q=>ag _ q) (ai _) (Xu s.heap I.big),rfl,h _ (I.bB.fresh (ai _))⟩
def MG(aU more:List (Key×V)):List (Key×V):=more.foldl (λacc kv=>putK acc kv.1 kv.2) aU
theorem KV.merge:∀{more:List (Key×V)} {rs:List (Key×Value)} {aU:List (Key×V)} {vs:List (Key×Value)},KV more rs->KV aU vs->KV (MG aU more) (merged vs rs):=by
 intro more rs aU vs r
 induction r generalizing aU vs with
 |nil=>intro q;exact q
 |@cons p q ps qs h t ih =>
  intro r0;have e:KV (putK aU p.1 p.2) (stored vs q.1 q.2):=by
   have:=r0.put p.1 h.2;rw[<- h.1];exact this
  exact ih e
end L2
namespace IQ
open PySem PySem.W PySem.Calls PyProof.Rows
theorem Up{P:Params}{h:Heap}:∀(ns:List Int) (vs:List Value),WellAll P h vs (ns.map WData.int)->IntsAre vs ns:=by
 intro ns
 induction ns with
 |nil =>
  intro vs w;cases w;exact .nil
 |cons n ns ih =>
  intro vs w;cases w with
  |cons a b =>
   cases a;exact .cons _ _ (ih _ b)
theorem VW{l:OpenLaw}{n:Nat}(hn:l.most=some n){P:Params}{h:Heap}{args:List WData}{vals:List Value}(nr:l.row.toRowW.claim.pre args=true)(yf:WellAll P h vals args) :
  ∃a vs ns,vals=[Value.ref a]/\args=[WData.list (ns.map WData.int)]/\h.get? a=some { cls:=.type "list",data:=.seq vs.toArray }/\IntsAre vs ns/\ns.length<=n:=by
 have Ke:WShape.hasAll [] args [.list .int]=true:=(pre_splitW nr).1;have hc:l.pre.holds [] { args:=args }=true:=(pre_splitW nr).2;obtain⟨d,r,rfl,h1,h2⟩:=hasAllW_cons Ke;obtain rfl:=hasAllW_nil h2;obtain⟨xs,rfl,h3⟩:=hasW_list h1;obtain⟨ns,rfl⟩:=items_int h3;have hlen:ns.length<=n:=by
  have h4:(WTm.not (.lt (.lit (.int (n:Int))) (.len (.arg 0)))).holds [] { args:=[.list (ns.map .int)] }=true:=by
   have h4:=(holds_andW hc).1;rw[hn] at h4;exact h4
  have h5:=condW_of h4 (w_not (w_lt w_lit (w_len_list (w_arg rfl))))
  simp_all
 cases yf with
 |cons w1 w2 =>
  cases w2;cases w1 with
  |list ho kx=>exact⟨_,_,ns,rfl,rfl,ho,Up ns _ kx,hlen⟩
theorem VQ(l:OpenLaw)(args:List WData):l.row.toRowW.claim.post args (.bool true) args=true :=
 postW_of
  (show WShape.has [] (.bool true) .bool=true by rfl)
  (show(WTm.eq .res (.lit (.bool true))).value [] { args:=args,res:=some (.bool true),after:=args }=some (.bool (true==true)) from w_eq_bool (w_res rfl) w_lit) rfl
theorem WV{l:OpenLaw}{n:Nat}{q:Program}{loose:List Str}{XP:(Str->Option Value)->Heap->Prop}{YP:World->Heap->Prop}{d:DefRec}(hn:l.most=some n)(tw:d.params.defaults=[])(call:∀ (w:World) (cF bE:Shared) (mg mb:Str->Option Value) (fa:Addr) (o:Obj) (pm cd doc:Value) (a:Addr) (vs:List Value) (ns:List Int),
   Ground q loose [] XP w cF mg mb bE.heap->YP w bE.heap ->
   bE.heap.get? fa=some o->o.data=.func (docDef d.name d.params d.body d.scope pm cd doc)->bE.heap.CodeRec cd d.name->mg d.name=some (.ref fa) ->
   bE.heap.get? a=some { cls:=.type "list",data:=.seq vs.toArray }->IntsAre vs ns->ns.length<=n->bE.gens=#[] ->
   codeAny (model l.prog w) callerA (.call (.ref fa) ⟨[.ref a],[]⟩) (λr s'=>r=.ok (.ret (.bool true))/\OldK bE.heap s'.heap/\s'.os=bE.os/\AllBare s'.gens) bE) :
  WalkO q loose XP YP l.row.toRowW d [] (λf vs=>PySem.call f vs):=by
 intro w cF bE mg mb G Y fa o pm cd doc dV kV ho hd jl hD hmg hg args vals as nr Ko YQ yf yw;obtain rfl:dV=.none:=Dflts.none hD tw;obtain rfl:kV=.none:=Dflts.noKw hD;obtain⟨a,vs,ns,rfl,rfl,kq,hints,hlen⟩:=VW hn nr yf;refine enter_call (fo (call w cF bE mg mb fa o pm cd doc a vs ns G Y ho (fd_plain hd) jl hmg kq hints hlen hg) λr s' hq=>?_);obtain⟨rfl,h2,h3,h4⟩:=hq;exact⟨.inl ⟨.bool true,.bool true,[],rfl,λ_=>rfl,.bool true,VQ l _,λ_=>⟨List.Pairwise.nil,λ_ hm=>(nomatch hm)⟩⟩,h2,h3,h4⟩
end IQ
namespace L2
open PySem PySem.Spec PyProof.Rows
variable{x:Str}
theorem FF:∀{vs:List Value} {ns:List Int},IntsAre vs ns->Vals (ns.map V.int) vs
 |_,_,.nil=>.nil
 |_,_,.cons n t h=>.cons ⟨t,rfl⟩ (FF h)
def wN(H:Hp):Prop:=∀b,H b=none\/∃o xs,H b=some (.jm o (.lst xs))
theorem XN{P:Program}{w:World}{K:PySem.W.Frag}{mg mb:Str->Option Value}{CX:lE}{k:Nat}{fa a:Addr}{fd:FuncData}{sp:Sp}{bE:Shared}{vs:List Value}{ns:List Int}(KX:K.In bE.heap)(vw:bE.heap.Ns mainGlobals mg)(hb:bE.heap.Ns builtinsNs mb)(yJ:∀x:Str,x≠"__name__"->mb x=bootBuiltins x)(yx:bE.heap.NoLimit)(hg:bE.gens=#[])(ha:bE.heap.get? a=some { cls:=.type "list",data:=.seq vs.toArray })(hi:IntsAre vs ns)(hl:ns.length<=sizeLine)(hr:k6 k callerA)(F:∀base:Heap,K.In base->base.Ns mainGlobals mg->fQ P w K mg base CX k fa fd [x] sp)(tE:∀(s:Shared) (u:Value),BindsTo s fd ⟨[u],[]⟩ [(x,u)])(qc:∀H:Hp,wN H->gs K H a (ns.map V.int)->sp [.ref a] H (λv _=>v=.bl true) λ_ _ _=>False)(yP:∀H e s',CX [] H bE (λ_ _ _=>False) e s'->False) :
  codeAny (model P w) callerA (.call (.ref fa) ⟨[.ref a],[]⟩) (λr s'=>r=.ok (.ret (.bool true))/\OldK bE.heap s'.heap/\s'.os=bE.os/\AllBare s'.gens) bE:=by
 have rv:=FF hi;have JN:=hi.length;have core:∀H:Hp,wN H->gs K H a (ns.map V.int)->fG P w H bE.heap->(∀b,H b≠none->b=a)->(H a≠none->K.lookup a=none) ->
   codeAny (model P w) callerA (.call (.ref fa) ⟨[.ref a],[]⟩) (λr s'=>r=.ok (.ret (.bool true))/\OldK bE.heap s'.heap/\s'.os=bE.os/\AllBare s'.gens) bE:=by
  intro H hO hS bB hA hK;have N3:∀{b:Addr} {o:Obj},bE.heap.get? b=some o->H b=none->(T8 bE.heap H).get? b=some o:=λe n=>XB e n;have sj:∀{b:Addr} {o:Obj} {es:Array DictEntry} {ep:Nat},bE.heap.get? b=some o->o.data=.dict es ep->H b=none:=λ{b o es ep} e d=>by
   grind
  have vd:∀{b:Addr} {m:Str->Option Value},bE.heap.Ns b m->(T8 bE.heap H).Ns b m:=λ{b m} ⟨o,es,ep,e,d,r⟩=>⟨o,es,ep,N3 e (sj e d),d,r⟩
  have Dt:K.In (T8 bE.heap H):=λb o e=>N3 (KX b o e) (by
   grind)
  have hM:Mod K mg (T8 bE.heap H):=⟨Dt,vd vw,⟨mb,vd hb,yJ⟩,let ⟨mc,h1,h2⟩:=yx;⟨mc,vd h1,h2⟩⟩
  have e0:pG P w K mg (T8 bE.heap H) callerA [] bE H:=⟨rfl,hM,λb o e=>Pl e,eM (Vp _ _),trivial,λb hb=>absurd (show b∈([]:List Addr) from hb) (by simp),bB,.of_eq hg⟩
  refine fo ((F _ Dt (vd vw)).run callerA [] bE H ⟨[.ref a],[]⟩ [.ref a] [.ref a] _ _ hr e0 (tE bE (.ref a)) (.cons rfl .nil) (qc H hO hS)) λr s' h=>?_;cases r with
  |error e=>exact(yP H e s' h).elim
  |ok fl =>
   cases fl with
   |next=>exact False.elim h
   |brk=>exact False.elim h
   |cont=>exact False.elim h
   |ret u =>
    obtain⟨v,H',os,bare,un,ym,r',q⟩:=h;have q':=q;subst q';obtain rfl:u=Value.bool true:=r';refine⟨rfl,OldK.of_keep λb o e=>?_,os,bare⟩;cases q:H b with
    |none=>exact un.keep b o e q (by intro z;exact absurd (show b∈([]:List Addr) from z) (by simp)) (by simp)
    |some u =>
     rcases hO b with z|⟨ob,xs,z⟩
     ·simp_all
     ·have z2:=un.gi b ob _ z;obtain⟨e1,_⟩:=bB b _ z;obtain⟨e2,_⟩:=ym b _ z2
      simp_all
 cases hk:K.lookup a with
 |some o =>
  have e:=KX a o hk;rw[ha] at e;cases e;refine core (λ_=>none) (λ_=>.inl rfl) (.inr ⟨_,vs.toArray,_,hk,rfl,rfl,rfl,by simp_all,by simpa using rv⟩) (λb u z=>by simp_all) (λb z=>absurd rfl z) λz=>absurd rfl z
 |none =>
  refine core (λb=>if b=a then some (.jm { cls:=.type "list",data:=.seq vs.toArray } (.lst (ns.map V.int))) else none) (λb=>?_) (.inl (.inr ⟨{ cls:=.type "list",data:=.seq vs.toArray },aF rfl⟩)) (λb u z=>?_) (λb z=>?_) λ_=>hk
  ·by_cases hb:b=a
   ·exact .inr ⟨_,_,aF hb⟩
   ·exact .inl (aA hb)
  ·by_cases hb:b=a
   ·have z':=(aF hb).symm.trans z;cases z';subst hb;exact⟨ha,by rw[av];exact hl,vs,_,rv,ha⟩
   simp_all
  ·by_cases hb:b=a
   ·exact hb
   ·exact absurd (aA hb) z
theorem QE{l:PySem.W.OpenLaw}{n k:Nat}{q:Program}{loose:List Str}{XP:(Str->Option Value)->Heap->Prop}{YP:World->Heap->Prop}{d:DefRec}{K:Params->PySem.W.Frag}{CX:World->lE}{sp:World->Sp}(hn:l.most=some n)(kD:n<=sizeLine)(tw:d.params.defaults=[])(hr:k6 k callerA)(hY:∀(w:World) (h:Heap),YP w h->(K w.params).In h)(F:∀ (w:World) (mg:Str->Option Value) (fa:Addr) (h:Heap),(K w.params).In h->h.Ns mainGlobals mg->mg d.name=some (.ref fa) ->
   ∃fd:FuncData,(∀(s:Shared) (u:Value),BindsTo s fd ⟨[u],[]⟩ [(x,u)]) /\
    ∀ base:Heap,(K w.params).In base->base.Ns mainGlobals mg->fQ l.prog w (K w.params) mg base (CX w) k fa fd [x] (sp w))(qc:∀(w:World) (H:Hp) (a:Addr) (ns:List Int),ns.length<=n->wN H->gs (K w.params) H a (ns.map V.int)->sp w [.ref a] H (λv _=>v=.bl true) λ_ _ _=>False)(yP:∀(w:World) (H:Hp) (s:Shared) (e:Value) (s':Shared),CX w [] H s (λ_ _ _=>False) e s'->False) :
  PySem.W.WalkO q loose XP YP l.row.toRowW d [] (λf vs=>PySem.call f vs):=by
 refine IQ.WV hn tw λw cF bE mg mb fa o pm cd doc a vs ns G Y ho hd jl hmg kq hints hlen hg=>?_;have KX:=hY w _ Y;obtain⟨fd,hb,hF⟩:=F w mg fa _ KX G.T.g hmg;exact XN KX G.T.g G.T.b G.T.builtins G.T.nolimit hg kq hints (aD hlen kD) hr hF hb (λH hO hS=>qc w H a ns hlen hO hS) λH e s'=>yP w H bE e s'
def p9(s:Stmt):Arguments:=match s with
 |.FunctionDef _ a _ _ _ _ _ _ _ _=>a
 |_=>{ posonlyargs:=[],args:=[],vararg:=none,kwonlyargs:=[],kw_defaults:=[],kwarg:=none,defaults:=[] }
def j4(s:Stmt):List Stmt:=match s with
 |.FunctionDef _ _ b _ _ _ _ _ _ _=>b
 |_=>[]
def d8(s:Stmt):Scope:=match s with
 |.FunctionDef _ _ _ _ _ _ sc _ _ _=>sc
 |_=>{ kind:=.function,names:=[],isGenerator:=false,isCoroutine:=false }
structure mn(K:PySem.W.Frag)(x qual:Str)(st:Stmt)(f:Addr)(fd:FuncData):Prop where
 ex:∃(oc:Value) (od:Option Addr) (kV doc pm:Value) (an:Option Addr) (eB ct:Value) (jb:Array (Option Value)),
  fd=PySem.W.fnOf x qual (p9 st) (j4 st) (d8 st) .none kV doc pm an eB ct/\K.lookup f=some ⟨oc,od,.func fd,jb⟩/\PySem.W.codeIn K eB qual=true
 kp:PySem.W.keepIn K (.ref f)=true
section
variable{K:PySem.W.Frag}
theorem mn.binds{qual:Str}{st:Stmt}{f:Addr}{fd:FuncData}{ps:List Str}(F:mn K x qual st f fd)(h:∀(kV doc pm:Value) (an:Option Addr) (eB ct:Value) (us:List Value),us.length=ps.length->bindArgs (PySem.W.fnOf x qual (p9 st) (j4 st) (d8 st) .none kV doc pm an eB ct) ⟨us,[]⟩=pure (ps.zip us)):Binds K fd ps []:=by
 obtain⟨oc,od,kV,doc,pm,an,eB,ct,jb,rfl,lk,jl⟩:=F.ex;exact .all (h kV doc pm an eB ct)
theorem Gp{qual:Str}{st:Stmt}{f:Addr}{oc:Value}{od an:Option Addr}{jb:Array (Option Value)}{kV doc pm eB ct:Value}(l:K.lookup f=some ⟨oc,od,.func (PySem.W.fnOf x qual (p9 st) (j4 st) (d8 st) .none kV doc pm an eB ct),jb⟩)(c:PySem.W.codeIn K eB qual=true)(k:PySem.W.keepIn K (.ref f)=true):mn K x qual st f (PySem.W.fnOf x qual (p9 st) (j4 st) (d8 st) .none kV doc pm an eB ct):=⟨⟨oc,od,kV,doc,pm,an,eB,ct,jb,rfl,l,c⟩,k⟩
end
end L2
namespace TS
open PySem PyProof.Rows
def DA:Bool->Keyed->Array Keyed->Nat->Nat->Nat->StateT SortSt Sem (Option Nat):=sortPriv% PySem.Builtin.gallop
def JK:Array Keyed->Array Keyed->StateT SortSt Sem (Array Keyed):=sortPriv% PySem.Builtin.mergeLo
def JL:Array Keyed->Array Keyed->StateT SortSt Sem (Array Keyed):=sortPriv% PySem.Builtin.mergeHi
noncomputable abbrev kn(p:Keyed):Int:=numOf p.1
def IK(p:Keyed):Prop:=∃n t,p.1=.int n t
section
variable{prog:Program}{w:World}{A:Around}{E:Value->Shared->Prop}{s:Shared}
theorem vY{st:SortSt}{x y:Keyed}{Q:Option Bool->SortSt->Prop}(hk:kindOf st=oneType')(hx:IK x)(hy:IK y)(h:Q (some (decide (kn x<kn y))) st) :
  wpS (model prog w) A E s (lt' x y) Q st:=by
 obtain⟨a,t,ha⟩:=hx;obtain⟨b,u,hb⟩:=hy;rw[lt'_eq];refine ao (lb ?_);rw[hk,keyLt'_oneType,ha,hb];refine ao (nK (fR (oneLt_int ⟨rfl,?_⟩)));have:kn x=a/\kn y=b:=by unfold kn;rw[ha,hb];exact⟨rfl,rfl⟩
 rw[this.1,this.2] at h;exact ay h
theorem n6{st:SortSt}{xs:Array Keyed}{i:Nat}{p:Keyed}{Q:Keyed->SortSt->Prop}(h1:xs[i]?=some p)(h:Q p st):wpS (model prog w) A E s (elem' xs i) Q st:=by
 rw[elem'_eq,h1];exact ay h
theorem d0{M:Model}{U α:Type}{c:Prop}[Decidable c]{x y:StateT U Sem α}{Q:α->U->Prop}{st:U}(h1:c->wpS M A E s x Q st)(h2:¬c->wpS M A E s y Q st):wpS M A E s (if c then x else y) Q st:=by
 by_cases h:c
 ·rw[aF h];exact h1 h
 ·rw[aA h];exact h2 h
def eX(left:Bool)(key p:Keyed):Bool:=if left then decide (kn p<kn key) else !decide (kn key<kn p)
theorem wm{st:SortSt}{left:Bool}{key p:Keyed}{arr:Array Keyed}{i:Nat}{Q:Option Bool->SortSt->Prop}(hk:kindOf st=oneType')(gN:IK key)(hp:arr[i]?=some p)(hi:IK p)(h:Q (some (eX left key p)) st) :
  wpS (model prog w) A E s (elem' arr i >>= λx=>if left=true then lt' x key else lt' key x >>= λr=>pure (r.map λb=>!b)) Q st:=by
 refine ao (n6 hp ?_);cases left
 ·exact ao (vY hk gN hi (ay h))
 ·exact vY hk hi gN h
theorem Mi{st:SortSt}{left:Bool}{key:Keyed}{arr:Array Keyed}{base n hint:Nat}{f:Nat->Keyed}{Q:Option Nat->SortSt->Prop}(hk:kindOf st=oneType')(gN:IK key)(hf:∀i,i<n->arr[base+i]?=some (f i)/\IK (f i))(hm:∀i j,i<=j->j<n->eX left key (f j)=true->eX left key (f i)=true)(hh:hint<n)(h:∀k,k<=n->(∀i,i<k->eX left key (f i)=true)->(∀i,k<=i->i<n->eX left key (f i)=false)->Q (some k) st):wpS (model prog w) A E s (DA left key arr base n hint) Q st:=by
 have oY:∀i j,i<=j->j<n->eX left key (f i)=false->eX left key (f j)=false:=λi j a b c=>by
  cases e:eX left key (f j) with
  |false=>rfl
  |true=>rw[hm i j a b e] at c;omega
 refine ao ?_;refine wm hk gN (hf hint hh).1 (hf hint hh).2 ?_;have last:∀lo hi:Nat,lo<=hi->hi<=n->(∀i,i<lo->eX left key (f i)=true)->(∀i,hi<=i->i<n->eX left key (f i)=false)->∀(F:Nat->Option (Option Nat)×Nat×Nat->StateT SortSt Sem (ForInStep (Option (Option Nat)×Nat×Nat))),
   (F=λ_ c=>if c.2.1 >= c.2.2 then pure (.done (none,c.2.1,c.2.2)) else (elem' arr (base + (c.2.1 + (c.2.2 - c.2.1) / 2)) >>= λx=>if left=true then lt' x key else lt' key x >>= λr=>pure (r.map λb=>!b)) >>= λr=>match r with
    |some more=>if more=true then pure (.yield (none,c.2.1+(c.2.2-c.2.1) / 2+1,c.2.2)) else pure (.yield (none,c.2.1,c.2.1+(c.2.2-c.2.1) / 2))
    | x=>pure (.done (some none,c.2.1,c.2.2))) ->
   wpS (model prog w) A E s (forIn [0:n] (none,lo,hi) F) (λc aQ=>aQ=st/\c.1=none/\Q (some c.2.2) st) st:=by
  intro lo hi h1 h2 h3 h4 F e;subst e;refine da (I:=λx c aQ=>aQ=st/\c.1=none/\c.2.1<=c.2.2/\c.2.2<=n/\c.2.2-c.2.1<=n-x/\(∀i,i<c.2.1->eX left key (f i)=true)/\(∀i,c.2.2<=i->i<n->eX left key (f i)=false)) ?_ ?_ ⟨rfl,rfl,h1,h2,by grind,h3,h4⟩
  ·rintro x ⟨c1,l,r⟩ aQ _ hx ⟨rfl,rfl,q1,q2,q3,q4,q5⟩;dsimp only at q1 q2 q3 q4 q5 ⊢;by_cases jU:l>=r
   ·rw[aF jU];have:l=r:=by omega
    subst this;exact ay ⟨rfl,rfl,h l q2 q4 q5⟩
   ·rw[aA jU];have mD:l+(r-l) / 2<n:=by omega
    refine ao (wm hk gN (hf _ mD).1 (hf _ mD).2 ?_);cases e:eX left key (f (l+(r-l) / 2)) with
    |true=>exact ay ⟨rfl,rfl,by dsimp only;omega,q2,by grind,λi hi=>hm i _ (Yt hi) mD e,q5⟩
    |false=>exact ay ⟨rfl,rfl,by simp,by grind,by dsimp only;omega,q4,λi hi hn=>oY _ i hi hn e⟩
  ·rintro⟨c1,l,r⟩ aQ ⟨rfl,rfl,q1,q2,q3,q4,q5⟩;dsimp only at q1 q2 q3 q4 q5;have:l=r:=by omega
   subst this;exact⟨rfl,rfl,h l q2 q4 q5⟩
 cases e0:eX left key (f hint) with
 |true =>
  refine ao (wpS_mono (da (I:=λx (c:Option (Option Nat) × Nat × Nat) aQ=>aQ=st/\c.1=none/\c.2.1 < c.2.2/\hint + c.2.1 < n/\x < c.2.2/\eX left key (f (hint + c.2.1))=true)
   (Q:=λc aQ=>aQ=st/\c.1=none/\c.2.1 < c.2.2/\hint + c.2.1 < n/\eX left key (f (hint + c.2.1))=true/\(c.2.2 >= n - hint \/ eX left key (f (hint + c.2.2))=false)) ?_ ?_ ⟨rfl,rfl,by decide,hh,by decide,e0⟩) ?_)
  ·rintro x ⟨c1,l,r⟩ aQ _ hx ⟨rfl,rfl,q1,q2,q3,q4⟩;by_cases jU:r>=n-hint
   ·rw[aF jU];exact ay ⟨rfl,rfl,q1,q2,q4,.inl jU⟩
   ·rw[aA jU];have mD:hint+r<n:=by omega
    refine ao (wm hk gN (hf _ mD).1 (hf _ mD).2 ?_);cases e:eX left key (f (hint+r)) with
    |true=>exact ay ⟨rfl,rfl,by grind,mD,by grind,e⟩
    |false=>exact ay ⟨rfl,rfl,q1,q2,q4,.inr e⟩
  ·grind
  ·rintro⟨c1,l,r⟩ aQ ⟨rfl,rfl,q1,q2,q3,q4⟩;dsimp only at q1 q2 q3 q4 ⊢;refine ao (wpS_mono (last (hint+l+1) (hint+min r (n-hint)) () () (λi hi=>hm i _ (Yt hi) q2 q3) ?_ _ rfl) ?_)
   ·intro i h1 h2;rcases q4 with q4|q4
    ·omega
    ·exact oY (hint+r) i () h2 q4
   ·rintro⟨c1,l,r⟩ aQ ⟨rfl,rfl,q⟩;exact ay q
 |false =>
  refine ao (wpS_mono (da (I:=λx (c:Option (Option Nat) × Nat × Nat) aQ=>aQ=st/\c.1=none/\c.2.1 < c.2.2/\c.2.1 <= hint/\x < c.2.2/\eX left key (f (hint - c.2.1))=false)
   (Q:=λc aQ=>aQ=st/\c.1=none/\c.2.1 < c.2.2/\c.2.1 <= hint/\eX left key (f (hint - c.2.1))=false/\(c.2.2 >= hint + 1 \/ eX left key (f (hint - c.2.2))=true)) ?_ ?_ ⟨rfl,rfl,by decide,cJ _,by decide,e0⟩) ?_)
  ·rintro x ⟨c1,l,r⟩ aQ _ hx ⟨rfl,rfl,q1,q2,q3,q4⟩;by_cases jU:r>=hint+1
   ·rw[aF jU];exact ay ⟨rfl,rfl,q1,q2,q4,.inl jU⟩
   ·rw[aA jU];have mD:hint-r<n:=by omega
    refine ao (wm hk gN (hf _ mD).1 (hf _ mD).2 ?_);cases e:eX left key (f (hint-r)) with
    |true=>exact ay ⟨rfl,rfl,q1,q2,q4,.inr e⟩
    |false=>exact ay ⟨rfl,rfl,by grind,by grind,by grind,e⟩
  ·rintro⟨c1,l,r⟩ aQ ⟨rfl,rfl,q1,q2,q3,q4⟩;exact⟨rfl,rfl,q1,q2,q4,.inl (by grind)⟩
  ·rintro⟨c1,l,r⟩ aQ ⟨rfl,rfl,q1,q2,q3,q4⟩;dsimp only at q1 q2 q3 q4 ⊢;refine ao (wpS_mono (last (hint+1-min r (hint+1)) (hint-l) () () ?_ (λi hi hn=>oY _ i hi hn q3) _ rfl) ?_)
   ·intro i h1;rcases q4 with q4|q4
    ·omega
    ·exact hm i (hint-r) () () q4
   ·rintro⟨c1,l,r⟩ aQ ⟨rfl,rfl,q⟩;exact ay q
theorem Xi{left:Bool}{key p q:Keyed}(h:kn p<=kn q)(hq:eX left key q=true):eX left key p=true:=by
 unfold eX at hq ⊢
 grind
theorem qy{st:SortSt}{left:Bool}{key:Keyed}{xs:Array Keyed}{base n hint:Nat}{Q:Option Nat->SortSt->Prop}(hk:kindOf st=oneType')(gN:IK key)(gq:∀p∈xs.toList,IK p)(hs:∀i j (hj:j<xs.size) (iu:i<=j),base<=i->j<base+n->kn xs[i]<=kn xs[j])(hn:base+n<=xs.size)(hh:hint<n)(h:∀k,k<=n->(∀p∈(xs.toList.drop base).take k,eX left key p=true)->(∀p∈(xs.toList.drop (base+k)).take (n-k),eX left key p=false)->Q (some k) st):wpS (model prog w) A E s (DA left key xs base n hint) Q st:=by
 refine Mi (f:=λt=>(xs[base+t]?).getD key) hk gN (λt ht=>?_) (λu v kU hv hq=>Xi ?_ hq) hh λk hk kr kE=>h k hk ?_ ?_
 ·rw[bX xs (base+t) ()];exact⟨rfl,gq _ (by simp)⟩
 ·rw[bX xs (base+u) (),bX xs (base+v) ()]
  simp_all
 ·intro p hp;obtain⟨t,ht,rfl⟩:=bH.mp hp;simp only[List.length_take,List.length_drop,Array.length_toList] at ht;have:=kr t ();rw[bX xs (base+t) ()] at this;simpa using this
 ·intro p hp;obtain⟨t,ht,rfl⟩:=bH.mp hp;simp only[List.length_take,List.length_drop,Array.length_toList] at ht;have:=kE (k+t) () ();rw[bX xs (base+(k+t)) ()] at this;simpa[Nat.add_assoc] using this
end
section
variable{r:Keyed->Keyed->Prop}{all o x y u v:List Keyed}
structure MI(r:Keyed->Keyed->Prop)(all o x y:List Keyed):Prop where
 pm:(o++(x++y)).Perm all
 so:o.Pairwise r
 sx:x.Pairwise r
 sy:y.Pairwise r
 cr:∀p∈o,∀q,q∈x\/q∈y->r p q
 hl:∀q∈y,∀z,x.getLast?=some z->r q z
theorem MI.x1(h:MI r all o (u++v) y)(c:∀p∈u,∀q∈y,r p q)(ne:v≠[]):MI r all (o++u) v y:=by
 obtain⟨a1,a2,a3⟩:=aH.mp h.sx;refine⟨by have:=h.pm;simp_all,aH.mpr ⟨h.so,a1,λp hp q hq=>h.cr p hp q (.inl (bq _ hq))⟩,a2,h.sy,λp hp q hq=>?_,λq hq z hz=>h.hl q hq z ?_⟩
 ·rcases aX.mp hp with hp|hp
  ·exact h.cr p hp q (hq.imp (aM _) id)
  ·rcases hq with hq|hq
   ·exact a3 p hp q hq
   ·exact c p hp q hq
 simp_all
theorem MI.y1(h:MI r all o y (u++v))(c:∀p∈u,∀q∈y,r p q):MI r all (o++u) y v:=by
 obtain⟨a1,a2,a3⟩:=aH.mp h.sy;refine⟨?_,aH.mpr ⟨h.so,a1,λp hp q hq=>h.cr p hp q (.inr (bq _ hq))⟩,h.sx,a2,λp hp q hq=>?_,λq hq z hz=>h.hl q (aM _ hq) z hz⟩
 ·refine List.Perm.trans ?_ h.pm;rw[bw];refine dB _ ?_;rw[<- bw,<- bw];exact ij _ iF
 ·rcases aX.mp hp with hp|hp
  ·exact h.cr p hp q (hq.imp id (aM _))
  ·rcases hq with hq|hq
   ·exact c p hp q hq
   ·exact a3 p hp q hq
def Fn(r:Keyed->Keyed->Prop)(all z:List Keyed):Prop:=z.Perm all/\z.Pairwise r
theorem MI.e1(h:MI r all o x []):Fn r all (o++x):=by
 refine⟨by have:=h.pm;simpa using this,aH.mpr ⟨h.so,h.sx,λp hp q hq=>h.cr p hp q (.inl hq)⟩⟩
theorem MI.e0(h:MI r all o x y)(c:∀p∈x,∀q∈y,r p q):Fn r all (o++(x++y)) :=
 ⟨h.pm,aH.mpr ⟨h.so,aH.mpr ⟨h.sx,h.sy,c⟩,λp hp q hq=>h.cr p hp q (aX.mp hq)⟩⟩
theorem MI.e2{z:Keyed}(h:MI r all o [z] y):Fn r all (o++(y++[z])):=by
 refine⟨List.Perm.trans (dB _ iF) h.pm,aH.mpr ⟨h.so,aH.mpr ⟨h.sy,h.sx,λp hp q hq=>?_⟩,λp hp q hq=>?_⟩⟩
 ·rw[cA] at hq;subst hq;exact h.hl p hp q rfl
 ·exact h.cr p hp q ((aX.mp hq).symm)
theorem MI.len(h:MI r all o x y):o.length+x.length+y.length=all.length:=by
 have:=h.pm.length_eq;grind
theorem MI.hx{p q:Keyed}(h:MI r all o (p::x) y)(tr:∀a b c,r a b->r b c->r a c)(c:r q p):∀z∈p::x,r q z:=by
 intro z hz;rcases aB.mp hz with rfl|hz
 ·exact c
 ·exact tr _ _ _ c ((eh.mp h.sx).1 z hz)
theorem MI.hy{p q:Keyed}(h:MI r all o y (p::x))(tr:∀a b c,r a b->r b c->r a c)(c:r q p):∀z∈p::x,r q z:=by
 intro z hz;rcases aB.mp hz with rfl|hz
 ·exact c
 ·exact tr _ _ _ c ((eh.mp h.sy).1 z hz)
def Sm(st aQ:SortSt):Prop:=kindOf aQ=kindOf st/\arrOf aQ=arrOf st/\pendingOf aQ=pendingOf st/\failedOf aQ=failedOf st
theorem dc{xs:Array Keyed}{i:Nat}(h:i<xs.size):xs.toList.drop i=xs[i]::xs.toList.drop (i+1):=by
 rw[cS (by simpa using h)];simp
theorem ex(o':Array Keyed)(xs:Array Keyed)(i k:Nat):(o'++xs.extract i (i+k)).toList=o'.toList++(xs.toList.drop i).take k:=by
 simp
theorem dk(l:List Keyed)(i k:Nat):l.drop i=(l.drop i).take k++l.drop (i+k):=by
 rw[<- fW,bj]
theorem BC{k p:Keyed}(h:eX false k p=true):kn p<=kn k:=by
 unfold eX at h;grind
theorem vP{k p:Keyed}(h:eX false k p=false):kn k<kn p:=by
 unfold eX at h;simpa using h
theorem wO{k p:Keyed}(h:eX true k p=true):kn p<kn k:=by
 unfold eX at h;simpa using h
theorem AS{k p:Keyed}(h:eX true k p=false):kn k<=kn p:=by
 unfold eX at h;grind
theorem dt{xs:Array Keyed}{i n:Nat}(h:xs.size-i<=n):(xs.toList.drop i).take n=xs.toList.drop i:=dy (by simp;omega)
end
section
variable{prog:Program}{w:World}{A:Around}{E:Value->Shared->Prop}{s:Shared}
def RE:Nat->StateT SortSt Sem Unit:=sortPriv% PySem.Builtin.setMinGallop
theorem Sm.trans{a b c:SortSt}(h:Sm a b)(q:Sm b c):Sm a c:=⟨q.1.trans h.1,q.2.1.trans h.2.1,q.2.2.1.trans h.2.2.1,q.2.2.2.trans h.2.2.2⟩
theorem wb{st:SortSt}{g:Nat}{Q:Unit->SortSt->Prop}(h:∀aQ,Sm st aQ->Q Unit.unit aQ):wpS (model prog w) A E s (RE g) Q st:=la (h _ ⟨rfl,rfl,rfl,rfl⟩)
def fs{β U:Type}(Q I:β->U->Prop):ForInStep β->U->Prop
 |.done c,st=>Q c st
 |.yield c,st=>I c st
theorem forR{M:Model}{U β:Type}{a b:Nat}{f:Nat->β->StateT U Sem (ForInStep β)}(I:Nat->β->U->Prop){Q:β->U->Prop}(hs:∀i c st,a<=i->i<b->I i c st->wpS M A E s (f i c) (fs Q (I (i+1))) st)(hd:∀c st,I (max a b) c st->Q c st){c:β}{st:U}(h:I a c st):wpS M A E s (forIn [a:b] c f) Q st :=
 da I (λi c st h1 h2 h3=>wpS_mono (hs i c st h1 h2 h3) λr aQ hq=>by cases r<;>exact hq) hd h
noncomputable abbrev le(p q:Keyed):Prop:=kn p<=kn q
theorem vX:∀a b c,le a b->le b c->le a c:=λ_ _ _=>eP
theorem V5{xs:Array Keyed}(h:xs.toList.Pairwise le){u v:Nat}(hv:v<xs.size)(kU:u<=v):kn xs[u]<=kn xs[v]:=by
 by_cases e:u=v
 ·subst e;exact gG _
 ·have:=dP.mp h u v (by simp;omega) (by simpa using hv) ();simpa using this
section
variable{st aQ:SortSt}{a b o:Array Keyed}{i j n k:Nat}{p q:Keyed}
structure LI(st:SortSt)(a b:Array Keyed)(n:Nat)(o:Array Keyed)(i j:Nat)(aQ:SortSt):Prop where
 sm:Sm st aQ
 mi:MI le (a.toList++b.toList) o.toList (a.toList.drop i) (b.toList.drop j)
 hi:i+1<a.size
 hj:j<b.size
 ho:n<o.size
theorem dq{xs:Array Keyed}{i:Nat}{p:Keyed}(h:xs[i]?=some p):xs.toList.drop i=p::xs.toList.drop (i+1):=by
 obtain⟨hi,rfl⟩:=dI.mp h;exact dc hi
theorem dn{xs:Array Keyed}{i:Nat}(h:xs.size<=i):xs.toList.drop i=[]:=ig (by simpa using h)
theorem qu(xs:Array Keyed)(i:Nat):(xs.extract i xs.size).toList=xs.toList.drop i:=by
 rw[iV,List.extract_eq_drop_take,dt (ai _)]
theorem Hw{xs:Array Keyed}{i:Nat}(h:i<xs.size):xs.toList.drop i≠[]:=by simp_all
theorem fD(hm:MI le (a.toList++b.toList) o.toList (a.toList.drop i) (b.toList.drop j))(h:b.size<=j):Fn le (a.toList++b.toList) (o++a.extract i a.size++b.extract j b.size).toList:=by
 rw[aI,aI,qu,qu,dn h,dZ];rw[dn h] at hm;exact hm.e1
theorem fL(hm:MI le (a.toList++b.toList) o.toList (a.toList.drop i) (b.toList.drop j))(h:i+1=a.size):Fn le (a.toList++b.toList) (o++b.extract j b.size++a.extract i a.size).toList:=by
 have e:a.toList.drop i=[a[i]]:=by rw[dc (),dn ()]
 rw[aI,aI,qu,qu,bw,e];rw[e] at hm;exact hm.e2
theorem LI.y(h:LI st a b n o i j aQ)(hp:a[i]?=some p)(hq:b[j]?=some q)(hc:kn q<=kn p) :
  (j+1=b.size->Fn le (a.toList++b.toList) (o.push q++a.extract i a.size++b.extract (j+1) b.size).toList)/\(¬j+1=b.size->LI st a b (n+1) (o.push q) i (j+1) aQ):=by
 have hm:MI le (a.toList++b.toList) (o.push q).toList (a.toList.drop i) (b.toList.drop (j+1)):=by
  have hm:=h.mi;rw[dq hp] at hm ⊢;rw[dq hq] at hm;rw[cY];exact hm.y1 (u:=[q]) λu hu z hz=>by rw[cA] at hu;subst hu;exact hm.hx vX hc z hz
 have hj:=h.hj;exact⟨λe=>fD hm (eM e.symm),λe=>⟨h.sm,hm,h.hi,by omega,by rw[iC];have:=h.ho;omega⟩⟩
theorem LI.x(h:LI st a b n o i j aQ)(hp:a[i]?=some p)(hq:b[j]?=some q)(hc:kn p<=kn q) :
  (i+1+1=a.size->Fn le (a.toList++b.toList) (o.push p++b.extract j b.size++a.extract (i+1) a.size).toList)/\(¬i+1+1=a.size->LI st a b (n+1) (o.push p) (i+1) j aQ):=by
 have hm:MI le (a.toList++b.toList) (o.push p).toList (a.toList.drop (i+1)) (b.toList.drop j):=by
  have hm:=h.mi;rw[dq hq] at hm ⊢;rw[dq hp] at hm;rw[cY];exact hm.x1 (u:=[p]) (λu hu z hz=>by rw[cA] at hu;subst hu;exact hm.hy vX hc z hz) (Hw h.hi)
 have hi:=h.hi;exact⟨λe=>fL hm e,λe=>⟨h.sm,hm,by omega,h.hj,by rw[iC];have:=h.ho;omega⟩⟩
theorem LI.gx(h:LI st a b n o i j aQ)(hq:b[j]?=some q)(h1:k<=a.size-i)(h2:∀p∈(a.toList.drop i).take k,eX false q p=true)(h3:∀p∈(a.toList.drop (i+k)).take (a.size-i-k),eX false q p=false) :
  (i+k+1=a.size->Fn le (a.toList++b.toList) (o++a.extract i (i+k)++b.extract j b.size++a.extract (i+k) a.size).toList) /\
  (i+k=a.size->Fn le (a.toList++b.toList) (o++a.extract i (i+k)++a.extract (i+k) a.size++b.extract j b.size).toList) /\
  (¬i+k+1=a.size->¬i+k=a.size->LI st a b n (o++a.extract i (i+k)) (i+k) j aQ)/\∀p,a[i+k]?=some p->kn q<=kn p:=by
 have hi:=h.hi;have XY:∀p∈(a.toList.drop i).take k,∀q∈b.toList.drop j,le p q:=λp hp q CV=>by
  have hm:=h.mi;rw[dq hq] at CV hm;exact hm.hy vX (BC (h2 p hp)) q CV
 have M2:i+k<a.size->MI le (a.toList++b.toList) (o++a.extract i (i+k)).toList (a.toList.drop (i+k)) (b.toList.drop j):=λeA=>by
  have hm:=h.mi;rw[dk a.toList i k] at hm;rw[ex];exact hm.x1 XY (Hw eA)
 refine⟨λe=>fL (M2 ()) e,λe=>?_,λe1 e2=>⟨h.sm,M2 (),by omega,h.hj,by rw[cq];have:=h.ho;omega⟩,λp hp=>bZ (vP (h3 p ?_))⟩
 ·rw[aI,aI,ex,qu,qu,dn (eM e.symm),dt (),dZ,bw];rw[dt ()] at XY;exact h.mi.e0 XY
 ·rw[dt (),dq hp];exact cP ..
theorem LI.gy(h:LI st a b n o i j aQ)(hp:a[i]?=some p)(h1:k<=b.size-j)(h2:∀q∈(b.toList.drop j).take k,eX true p q=true)(h3:∀q∈(b.toList.drop (j+k)).take (b.size-j-k),eX true p q=false) :
  (j+k=b.size->Fn le (a.toList++b.toList) (o++b.extract j (j+k)++a.extract i a.size++b.extract (j+k) b.size).toList) /\
  (¬j+k=b.size->LI st a b n (o++b.extract j (j+k)) i (j+k) aQ)/\∀q,b[j+k]?=some q->kn p<=kn q:=by
 have hj:=h.hj;have hm:MI le (a.toList++b.toList) (o++b.extract j (j+k)).toList (a.toList.drop i) (b.toList.drop (j+k)):=by
  have hm:=h.mi;rw[dk b.toList j k] at hm;rw[ex];refine hm.y1 λq hq z hz=>?_;rw[dq hp] at hz hm;exact hm.hx vX (bZ (wO (h2 q hq))) z hz
 refine⟨λe=>fD hm (eM e.symm),λe=>⟨h.sm,hm,h.hi,by omega,by rw[cq];have:=h.ho;omega⟩,λq hq=>AS (h3 q ?_)⟩;rw[dt (),dq hq];exact cP ..
theorem LI.ex(h:LI st a b n o i j aQ)(gq:∀p∈a.toList++b.toList,IK p):∃p q,a[i]?=some p/\b[j]?=some q/\IK p/\IK q:=by
 have hi:=h.hi;have hj:=h.hj;exact⟨a[i],b[j],by simp,by simp,gq _ (bq _ (by simp)),gq _ (aM _ (by simp))⟩
theorem LI.rP(h:LI st a b n o i j aQ){gI:SortSt}(q:Sm aQ gI):LI st a b n o i j gI:=⟨h.sm.trans q,h.mi,h.hi,h.hj,h.ho⟩
theorem LI.wk(h:LI st a b n o i j aQ){m:Nat}(hm:m<=n):LI st a b m o i j aQ:=⟨h.sm,h.mi,h.hi,h.hj,eg hm h.ho⟩
theorem LI.full(h:LI st a b (a.size+b.size) o i j aQ):False:=by
 have h1:=h.mi.len;have h2:=h.ho
 grind
def LR(st:SortSt)(a b:Array Keyed)(n:Nat)(Q:Array Keyed->SortSt->Prop)(r:Option (Array Keyed))(o:Array Keyed)(i j:Nat)(aQ:SortSt):Prop:=match r with
 |some z=>Q z aQ
 |none=>LI st a b n o i j aQ
end
noncomputable abbrev nQ:Array Keyed->SortSt->Prop:=λ_ _=>False
theorem MF{st:SortSt}{a b:Array Keyed}{Q:Array Keyed->SortSt->Prop}(hk:kindOf st=oneType')(gq:∀p∈a.toList++b.toList,IK p)(ha:0<a.size)(hb:0<b.size)(h0:MI le (a.toList++b.toList) [] a.toList b.toList)(hf:∀p∈a.toList,kn b[0]<=kn p)(h:∀z aQ,Sm st aQ->Fn le (a.toList++b.toList) z.toList->Q z aQ):wpS (model prog w) A E s (JK a b) Q st:=by
  have IA:∀p∈a.toList,IK p:=λp hp=>gq p (bq _ hp);have IB:∀p∈b.toList,IK p:=λp hp=>gq p (aM _ hp);have SA:∀x n u v (hv:v<a.size) (kU:u<=v),x<=u->v<x+n->kn a[u]<=kn a[v]:=λ_ _ u v hv kU _ _=>V5 h0.sx hv kU;have SB:∀x n u v (hv:v<b.size) (kU:u<=v),x<=u->v<x+n->kn b[u]<=kn b[v]:=λ_ _ u v hv kU _ _=>V5 h0.sy hv kU;have h1:MI le (a.toList++b.toList) (#[b[0]]:Array Keyed).toList (a.toList.drop 0) (b.toList.drop 1):=by
    have:b.toList=[b[0]]++b.toList.drop 1:=by have:=dc hb;simpa using this
    refine MI.y1 (o:=[]) (by rw[<- this];exact h0) ?_;intro p hp q hq;rw[cA] at hp;subst hp;exact hf q hq
  have s0:Sm st st:=⟨rfl,rfl,rfl,rfl⟩
  refine ao (nK (cV ⟨rfl,?_⟩));refine ao (n6 (p:=b[0]) (by simp[hb]) ?_);refine d0 (λe=>ay (h _ st s0 (fD h1 (eM (eq_of_beq e).symm)))) λe=>?_;refine d0 (λe2=>ay (h _ st s0 (fL h1 (eq_of_beq e2)))) λe2=>?_;have e:¬1=b.size:=λz=>e (bp.mpr z);have e2:¬0+1=a.size:=λz=>e2 (bp.mpr z);refine ao (lb ?_);refine ao (wpS_mono (forR (I:=λn (c:Option (Array Keyed)×Array Keyed×Nat×Nat×Nat)=>LR st a b n nQ c.1 c.2.1 c.2.2.1 c.2.2.2.1) (Q:=λc=>LR st a b (a.size+b.size) Q c.1 c.2.1 c.2.2.1 c.2.2.2.1) ?_ ?_ (show LI st a b 0 #[b[0]] 0 1 st from⟨s0,h1,by omega,by omega,by simp⟩)) ?_)
  · rintro n ⟨c1,o,i,j,mg⟩ er _ hn hL;cases c1 with
    |some z=>exact hL.elim
    |none =>
    refine ao (wpS_mono (forR (I:=λx (c:Option (Array Keyed)×Array Keyed×Nat×Nat×Nat×Nat)=>LR st a b (n+x) nQ c.1 c.2.1 c.2.2.1 c.2.2.2.1) (Q:=λc=>LR st a b (n+1) Q c.1 c.2.1 c.2.2.1 c.2.2.2.1) ?_ ?_ hL) ?_)
    · rintro x ⟨c1,o,i,j,ac,bc⟩ er _ _ hL;cases c1 with
      |some z=>exact hL.elim
      |none =>
      obtain⟨p,q,hp,hq,ip,iq⟩:=hL.ex gq;refine ao (n6 hq (ao (n6 hp (ao (vY (hL.sm.1.trans hk) iq ip ?_)))));refine d0 (λhc=>ao (n6 hq ?_)) (λhc=>ao (n6 hp ?_))
      · have Y:=hL.y hp hq (bZ (aN hc));refine d0 (λe=>ay (h _ _ hL.sm (Y.1 (eq_of_beq e)))) λe=>?_;have Z:=Y.2 λz=>e (bp.mpr z);exact d0 (λ_=>ay (Z.wk ())) (λ_=>ay Z)
      · have Y:=hL.x hp hq (fX.mp λz=>hc (bh z));refine d0 (λe=>ay (h _ _ hL.sm (Y.1 (eq_of_beq e)))) λe=>?_;have Z:=Y.2 λz=>e (bp.mpr z);exact d0 (λ_=>ay (Z.wk ())) (λ_=>ay Z)
    · rintro⟨c1,o,i,j,ac,bc⟩ er hL;cases c1 with
      |some z=>exact hL.elim
      |none=>exact LI.wk hL ()
    · rintro⟨c1,o,i,j,ac,bc⟩ er hL;cases c1 with
      |some z=>exact ay hL
      |none =>
      refine ao (nK (cV ⟨rfl,?_⟩));refine ao (wpS_mono (forR (I:=λx (c:Option (Array Keyed)×Array Keyed×Nat×Nat×Nat×Nat×Nat)=>LR st a b (n+1) nQ c.1 c.2.1 c.2.2.1 c.2.2.2.1) (Q:=λc=>LR st a b (n+1) Q c.1 c.2.1 c.2.2.1 c.2.2.2.1) ?_ ?_ hL) ?_)
      · rintro x ⟨c1,o,i,j,mg,ac,bc⟩ er _ _ hL;cases c1 with
        |some z=>exact hL.elim
        |none =>
        replace hL:LI st a b (n+1) o i j er:=hL
        lift_lets
        intro s1 out s2 ia s3 ib s4 JJ s5 Us Qx CJ jp;have e1:o=out:=rfl;have e2:i=ia:=rfl;have e3:j=ib:=rfl;have e4:j+1=CJ:=rfl
        clear_value out ia ib CJ
        subst e1 e2 e3 e4;have J:∀u m,wpS (model prog w) A E s (jp u m) (fs (λc=>LR st a b (n+1) Q c.1 c.2.1 c.2.2.1 c.2.2.2.1) (λc=>LR st a b (n+1) nQ c.1 c.2.1 c.2.2.1 c.2.2.2.1)) er:=by
          intro u m;refine ao (wb (g:=m) λgI fO=>?_)
          replace hL:=hL.rP fO
          obtain⟨p,q,hp,hq,ip,iq⟩:=hL.ex gq;refine ao (n6 hq ?_);refine ao (qy (hL.sm.1.trans hk) iq IA (SA _ _) (by grind) (by have:=hL.hi;omega) λk lA kr kE=>?_);have G:=hL.gx hq lA kr kE;clear lA kr kE hp ip;dsimp -zeta -zetaHave only
          lift_lets
          intro Ur sO xH YG;have J2:∀u o i,LI st a b (n+1) o i j gI->(∀p,a[i]?=some p->kn q<=kn p)->wpS (model prog w) A E s (sO u o i) (fs (λc=>LR st a b (n+1) Q c.1 c.2.1 c.2.2.1 c.2.2.2.1) (λc=>LR st a b (n+1) nQ c.1 c.2.1 c.2.2.1 c.2.2.2.1)) gI:=by
            intro u o i hL hc;obtain⟨p,q2,hp,_,ip,_⟩:=hL.ex gq;have Y:=hL.y hp hq (hc p hp);refine ao (n6 hq ?_);refine d0 (λe=>ay (h _ _ hL.sm (Y.1 (eq_of_beq e)))) λe=>?_;have Z:=Y.2 λz=>e (bp.mpr z);refine ao (n6 hp ?_);refine ao (qy (hL.sm.1.trans hk) ip IB (SB _ _) (by have:=Z.hj;omega) (by have:=Z.hj;omega) λk lA kr kE=>?_);have G:=Z.gy hp lA kr kE;dsimp -zeta -zetaHave only
            lift_lets
            intro Qv sN xG YE;have J3:∀u o j,LI st a b (n+1) o i j gI->(∀q,b[j]?=some q->kn p<=kn q)->wpS (model prog w) A E s (sN u o j) (fs (λc=>LR st a b (n+1) Q c.1 c.2.1 c.2.2.1 c.2.2.2.1) (λc=>LR st a b (n+1) nQ c.1 c.2.1 c.2.2.1 c.2.2.2.1)) gI:=by
              intro u o j hL hc;obtain⟨p2,q,_,hq,_,_⟩:=hL.ex gq;have Y:=hL.x hp hq (hc q hq);refine ao (n6 hp ?_);refine d0 (λe=>ay (h _ _ hL.sm (Y.1 (eq_of_beq e)))) λe=>?_;have Z:=Y.2 λz=>e (bp.mpr z);exact d0 (λ_=>ay (Z.wk (cD _))) (λ_=>ay (Z.wk (cD _)))
            clear_value sN
            refine d0 (λ_=>d0 (λe=>ay (h _ _ hL.sm (G.1 (eq_of_beq e)))) λe=>J3 _ _ _ ((G.2.1 λz=>e (bp.mpr z)).wk (cD _)) G.2.2) (λe=>J3 _ _ _ (Z.wk (cD _)) ?_)
            simp_all
          clear_value sO
          refine d0 (λ_=>d0 (λe=>ay (h _ _ hL.sm (G.1 (eq_of_beq e)))) λe=>d0 (λe2=>ay (h _ _ hL.sm (G.2.1 (eq_of_beq e2)))) λe2=>J2 _ _ _ (G.2.2.1 (λz=>e (bp.mpr z)) (λz=>e2 (bp.mpr z))) G.2.2.2) (λe=>J2 _ _ _ hL ?_)
          simp_all
        clear_value jp
        exact d0 (λ_=>J _ _) (λ_=>J _ _)
      · rintro⟨c1,o,i,j,mg,ac,bc⟩ er hL;cases c1 with
        |some z=>exact hL.elim
        |none=>exact hL
      · rintro⟨c1,o,i,j,mg,ac,bc⟩ er hL;cases c1 with
        |some z=>exact ay hL
        |none=>exact ao (wb λgI fO=>ay (LI.rP hL fO))
  · rintro⟨c1,o,i,j,mg⟩ er hL;cases c1 with
    |some z=>exact hL.elim
    |none=>exact LI.wk hL ()
  · rintro⟨c1,o,i,j,mg⟩ er hL;cases c1 with
    |some z=>exact ay hL
    |none=>exact(LI.full hL).elim
end
section
variable{prog:Program}{w:World}{A:Around}{E:Value->Shared->Prop}{s:Shared}
noncomputable abbrev ge(p q:Keyed):Prop:=kn q<=kn p
theorem vS:∀a b c,ge a b->ge b c->ge a c:=λ_ _ _ h1 h2=>eP h2 h1
def rt(xs:Array Keyed)(n:Nat):List Keyed:=(xs.toList.take n).reverse
theorem Be{xs:Array Keyed}{n:Nat}(h:n<xs.size):rt xs (n+1)=xs[n]::rt xs n:=by
 unfold rt;rw[List.take_succ_eq_append_getElem (by simpa using h),BX];simp
theorem GH{xs:Array Keyed}{n:Nat}{p:Keyed}(h:p∈rt xs n):p∈xs.toList:=ft (ff.mp h)
theorem zJ(xs:Array Keyed){k n:Nat}(h:k<=n):rt xs n=((xs.toList.drop k).take (n-k)).reverse++rt xs k:=by
 unfold rt;rw[<- BX]
 congr 1
 have:=bj k (xs.toList.take n);rw[List.take_take,List.drop_take,iz h] at this;exact this.symm
theorem Bf(o xs:Array Keyed)(k n:Nat):(o++(xs.extract k n).reverse).toList=o.toList++((xs.toList.drop k).take (n-k)).reverse:=by
 simp
theorem Z5(xs:Array Keyed)(n:Nat):(xs.extract 0 n).toList=(rt xs n).reverse:=by
 simp[rt]
theorem Fn.rev{all l:List Keyed}(h:Fn ge all l):Fn le all l.reverse:=⟨(ke l).trans h.1,iG.mpr h.2⟩
theorem Tr{xs:Array Keyed}{i:Nat}(h:0<i)(hi:i<xs.size):rt xs i≠[]:=by
 obtain⟨i,rfl⟩:∃m,i=m+1:=⟨i-1,by omega⟩
 rw[Be ()];exact List.cons_ne_nil _ _
theorem W2(xs:Array Keyed):rt xs xs.size=xs.toList.reverse:=by unfold rt;rw[dy (by simp)]
section
variable{st aQ:SortSt}{a b o:Array Keyed}{na nb n t:Nat}{p q:Keyed}
theorem S6{xs:Array Keyed}{n:Nat}{p:Keyed}(h0:0<n)(h:xs[n-1]?=some p):rt xs n=p::rt xs (n-1):=by
 obtain⟨n,rfl⟩:∃m,n=m+1:=⟨n-1,by omega⟩
 obtain⟨hi,rfl⟩:=dI.mp h;exact Be hi
theorem wV(xs:Array Keyed):rt xs 0=[]:=by simp[rt]
structure HI(st:SortSt)(a b:Array Keyed)(n:Nat)(na nb:Nat)(o:Array Keyed)(aQ:SortSt):Prop where
 sm:Sm st aQ
 mi:MI ge (a.toList++b.toList) o.toList (rt b nb) (rt a na)
 b1:1<nb
 b2:nb<=b.size
 a1:0<na
 a2:na<=a.size
 ho:n<o.size
theorem hD(hm:MI ge (a.toList++b.toList) o.toList (rt b nb) (rt a na))(h:na=0):Fn le (a.toList++b.toList) (a.extract 0 na++b.extract 0 nb++o.reverse).toList:=by
 subst h;rw[aI,aI,iU,Z5,Z5,wV];simpa using hm.e1.rev
theorem hL(hm:MI ge (a.toList++b.toList) o.toList (rt b nb) (rt a na))(h:nb=1)(hb:0<b.size):Fn le (a.toList++b.toList) (b.extract 0 nb++a.extract 0 na++o.reverse).toList:=by
 subst h;have e:rt b 1=[b[0]]:=by rw[Be hb,wV]
 rw[e] at hm;rw[aI,aI,iU,Z5,Z5,e];simpa using hm.e2.rev
theorem HI.y(h:HI st a b n na nb o aQ)(hp:a[na-1]?=some p)(hq:b[nb-1]?=some q)(hc:kn q<=kn p) :
  (na-1=0->Fn le (a.toList++b.toList) (a.extract 0 (na-1)++b.extract 0 nb++(o.push p).reverse).toList)/\(¬na-1=0->HI st a b (n+1) (na-1) nb (o.push p) aQ):=by
 have h1:=h.b1;have h2:=h.a2;have hm:MI ge (a.toList++b.toList) (o.push p).toList (rt b nb) (rt a (na-1)):=by
  have hm:=h.mi;rw[S6 () hq] at hm ⊢;rw[S6 h.a1 hp] at hm;rw[cY];exact hm.y1 (u:=[p]) λu hu z hz=>by rw[cA] at hu;subst hu;exact hm.hx vS hc z hz
 exact⟨λe=>hD hm e,λe=>⟨h.sm,hm,h1,h.b2,by omega,by omega,by rw[iC];have:=h.ho;omega⟩⟩
theorem HI.x(h:HI st a b n na nb o aQ)(hp:a[na-1]?=some p)(hq:b[nb-1]?=some q)(hc:kn p<=kn q) :
  (nb-1=1->Fn le (a.toList++b.toList) (b.extract 0 (nb-1)++a.extract 0 na++(o.push q).reverse).toList)/\(¬nb-1=1->HI st a b (n+1) na (nb-1) (o.push q) aQ):=by
 have h1:=h.b1;have h2:=h.b2;have hm:MI ge (a.toList++b.toList) (o.push q).toList (rt b (nb-1)) (rt a na):=by
  have hm:=h.mi;rw[S6 h.a1 hp] at hm ⊢;rw[S6 () hq] at hm;rw[cY];exact hm.x1 (u:=[q]) (λu hu z hz=>by rw[cA] at hu;subst hu;exact hm.hy vS hc z hz) (Tr () ())
 exact⟨λe=>hL hm e (),λe=>⟨h.sm,hm,by omega,by omega,h.a1,h.a2,by rw[iC];have:=h.ho;omega⟩⟩
theorem HI.gy(h:HI st a b n na nb o aQ)(hq:b[nb-1]?=some q)(h1:t<=na)(h2:∀p∈(a.toList.drop 0).take t,eX false q p=true)(h3:∀p∈(a.toList.drop (0+t)).take (na-t),eX false q p=false) :
  (t=0->Fn le (a.toList++b.toList) (a.extract 0 t++b.extract 0 nb++(o++(a.extract t na).reverse).reverse).toList)/\(¬t=0->HI st a b n t nb (o++(a.extract t na).reverse) aQ)/\∀p,0<t->a[t-1]?=some p->kn p<=kn q:=by
 have h4:=h.b1;have h5:=h.a2;rw[Nat.zero_add] at h3;have hm:MI ge (a.toList++b.toList) (o++(a.extract t na).reverse).toList (rt b nb) (rt a t):=by
  have hm:=h.mi;rw[zJ a h1] at hm;rw[Bf];refine hm.y1 λp hp z hz=>?_;rw[S6 () hq] at hz hm;exact hm.hx vS (bZ (vP (h3 p (ff.mp hp)))) z hz
 refine⟨λe=>hD hm e,λe=>⟨h.sm,hm,h4,h.b2,by omega,by omega,by rw[cq];have:=h.ho;omega⟩,λp h0 hp=>BC (h2 p ?_)⟩;have:=S6 h0 hp;exact ff.mp (show p∈rt a t by rw[this];exact cP ..)
theorem HI.gx(h:HI st a b n na nb o aQ)(hp:a[na-1]?=some p)(h1:t<=nb)(h2:∀q∈(b.toList.drop 0).take t,eX true p q=true)(h3:∀q∈(b.toList.drop (0+t)).take (nb-t),eX true p q=false) :
  (t=1->Fn le (a.toList++b.toList) (b.extract 0 t++a.extract 0 na++(o++(b.extract t nb).reverse).reverse).toList)/\(t=0->Fn le (a.toList++b.toList) (a.extract 0 na++b.extract 0 t++(o++(b.extract t nb).reverse).reverse).toList) /\
  (¬t=1->¬t=0->HI st a b n na t (o++(b.extract t nb).reverse) aQ)/\∀q,0<t->b[t-1]?=some q->kn q<=kn p:=by
 have h4:=h.b1;have h5:=h.b2;rw[Nat.zero_add] at h3;have Y2:∀p∈((b.toList.drop t).take (nb-t)).reverse,∀q∈rt a na,ge p q:=λq hq z hz=>by
  have hm:=h.mi;rw[S6 h.a1 hp] at hz hm;exact hm.hy vS (AS (h3 q (ff.mp hq))) z hz
 have hm:0<t->MI ge (a.toList++b.toList) (o++(b.extract t nb).reverse).toList (rt b t) (rt a na):=λh0=>by
  have hm:=h.mi;rw[zJ b h1] at hm;rw[Bf];refine hm.x1 Y2 λe=>?_;have:=cO List.length e;simp only[rt,List.length_reverse,List.length_take,Array.length_toList,List.length_nil] at this;omega
 refine⟨λe=>hL (hm ()) e (),λe=>?_,λe1 e2=>⟨h.sm,hm (),by omega,by omega,h.a1,h.a2,by rw[cq];have:=h.ho;omega⟩,λq h0 hq=>bZ (wO (h2 q ?_))⟩
 ·subst e;have hm:=h.mi;rw[zJ b h1,wV,dZ] at hm;have:=(hm.e0 Y2).rev;rw[aI,aI,iU,Bf,Z5,Z5,wV]
  simp_all
 ·have:=S6 h0 hq;exact ff.mp (show q∈rt b t by rw[this];exact cP ..)
theorem HI.ex(h:HI st a b n na nb o aQ)(gq:∀p∈a.toList++b.toList,IK p):∃p q,a[na-1]?=some p/\b[nb-1]?=some q/\IK p/\IK q:=by
 have h1:=h.b1;have h2:=h.b2;have h3:=h.a1;have h4:=h.a2;have h5:na-1<a.size:=by omega
 have h6:nb-1<b.size:=by omega
 exact⟨a[na-1],b[nb-1],bX a (na-1) h5,bX b (nb-1) h6,gq _ (bq _ (by simp)),gq _ (aM _ (by simp))⟩
theorem HI.rP(h:HI st a b n na nb o aQ){gI:SortSt}(q:Sm aQ gI):HI st a b n na nb o gI:=⟨h.sm.trans q,h.mi,h.b1,h.b2,h.a1,h.a2,h.ho⟩
theorem HI.wk(h:HI st a b n na nb o aQ){m:Nat}(hm:m<=n):HI st a b m na nb o aQ:=⟨h.sm,h.mi,h.b1,h.b2,h.a1,h.a2,eg hm h.ho⟩
theorem HI.full(h:HI st a b (a.size+b.size) na nb o aQ):False:=by
 have h1:=h.mi.len;have h2:=h.ho;simp only[List.length_append,Array.length_toList] at h1;omega
def HR(st:SortSt)(a b:Array Keyed)(n:Nat)(Q:Array Keyed->SortSt->Prop)(r:Option (Array Keyed))(na nb:Nat)(o:Array Keyed)(aQ:SortSt):Prop:=match r with
 |some z=>Q z aQ
 |none=>HI st a b n na nb o aQ
end
theorem MD{st:SortSt}{a b:Array Keyed}{Q:Array Keyed->SortSt->Prop}(hk:kindOf st=oneType')(gq:∀p∈a.toList++b.toList,IK p)(ha:0<a.size)(hb:0<b.size)(sa:a.toList.Pairwise le)(sb:b.toList.Pairwise le)(h0:MI ge (a.toList++b.toList) [] (rt b b.size) (rt a a.size))(hf:∀p∈b.toList,kn p<=kn a[a.size-1])(h:∀z aQ,Sm st aQ->Fn le (a.toList++b.toList) z.toList->Q z aQ):wpS (model prog w) A E s (JL a b) Q st:=by
  have IA:∀p∈a.toList,IK p:=λp hp=>gq p (bq _ hp);have IB:∀p∈b.toList,IK p:=λp hp=>gq p (aM _ hp);have SA:∀x n u v (hv:v<a.size) (kU:u<=v),x<=u->v<x+n->kn a[u]<=kn a[v]:=λ_ _ u v hv kU _ _=>V5 sa hv kU;have SB:∀x n u v (hv:v<b.size) (kU:u<=v),x<=u->v<x+n->kn b[u]<=kn b[v]:=λ_ _ u v hv kU _ _=>V5 sb hv kU;have qd:a[a.size-1]?=some a[a.size-1]:=bX _ _ _;have h1:MI ge (a.toList++b.toList) (#[a[a.size-1]]:Array Keyed).toList (rt b b.size) (rt a (a.size-1)):=by
    rw[S6 ha qd] at h0;refine MI.y1 (o:=[]) (u:=[a[a.size-1]]) h0 ?_;intro p hp q hq;rw[cA] at hp;subst hp;exact hf q (GH hq)
  have s0:Sm st st:=⟨rfl,rfl,rfl,rfl⟩
  refine ao (nK (cV ⟨rfl,?_⟩));refine ao (n6 qd ?_);refine d0 (λe=>ay (h _ st s0 (hD h1 (eq_of_beq e)))) λe=>?_;refine d0 (λe2=>ay (h _ st s0 (hL h1 (eq_of_beq e2) hb))) λe2=>?_;have e:¬a.size-1=0:=λz=>e (bp.mpr z);have e2:¬b.size=1:=λz=>e2 (bp.mpr z);refine ao (lb ?_);refine ao (wpS_mono (forR (I:=λn (c:Option (Array Keyed)×Nat×Nat×Array Keyed×Nat)=>HR st a b n nQ c.1 c.2.1 c.2.2.1 c.2.2.2.1) (Q:=λc=>HR st a b (a.size+b.size) Q c.1 c.2.1 c.2.2.1 c.2.2.2.1) ?_ ?_ (show HI st a b 0 (a.size-1) b.size #[a[a.size-1]] st from⟨s0,h1,by omega,by omega,by omega,by omega,by simp⟩)) ?_)
  · rintro n ⟨c1,na,nb,o,mg⟩ er _ hn hL;cases c1 with
    |some z=>exact hL.elim
    |none =>
    refine ao (wpS_mono (forR (I:=λx (c:Option (Array Keyed)×Nat×Nat×Array Keyed×Nat×Nat)=>HR st a b (n+x) nQ c.1 c.2.1 c.2.2.1 c.2.2.2.1) (Q:=λc=>HR st a b (n+1) Q c.1 c.2.1 c.2.2.1 c.2.2.2.1) ?_ ?_ hL) ?_)
    · rintro x ⟨c1,na,nb,o,ac,bc⟩ er _ _ hL;cases c1 with
      |some z=>exact hL.elim
      |none =>
      obtain⟨p,q,hp,hq,ip,iq⟩:=hL.ex gq;refine ao (n6 hq (ao (n6 hp (ao (vY (hL.sm.1.trans hk) iq ip ?_)))));refine d0 (λhc=>ao (n6 hp ?_)) (λhc=>ao (n6 hq ?_))
      · have Y:=hL.y hp hq (bZ (aN hc));refine d0 (λe=>ay (h _ _ hL.sm (Y.1 (eq_of_beq e)))) λe=>?_;have Z:=Y.2 λz=>e (bp.mpr z);exact d0 (λ_=>ay (Z.wk ())) (λ_=>ay Z)
      · have Y:=hL.x hp hq (fX.mp λz=>hc (bh z));refine d0 (λe=>ay (h _ _ hL.sm (Y.1 (eq_of_beq e)))) λe=>?_;have Z:=Y.2 λz=>e (bp.mpr z);exact d0 (λ_=>ay (Z.wk ())) (λ_=>ay Z)
    · rintro⟨c1,na,nb,o,ac,bc⟩ er hL;cases c1 with
      |some z=>exact hL.elim
      |none=>exact HI.wk hL ()
    · rintro⟨c1,na,nb,o,ac,bc⟩ er hL;cases c1 with
      |some z=>exact ay hL
      |none =>
      refine ao (nK (cV ⟨rfl,?_⟩));refine ao (wpS_mono (forR (I:=λx (c:Option (Array Keyed)×Nat×Nat×Array Keyed×Nat×Nat×Nat)=>HR st a b (n+1) nQ c.1 c.2.1 c.2.2.1 c.2.2.2.1) (Q:=λc=>HR st a b (n+1) Q c.1 c.2.1 c.2.2.1 c.2.2.2.1) ?_ ?_ hL) ?_)
      · rintro x ⟨c1,na,nb,o,mg,ac,bc⟩ er _ _ hL;cases c1 with
        |some z=>exact hL.elim
        |none =>
        replace hL:HI st a b (n+1) na nb o er:=hL
        lift_lets
        intro s1 Cy s2 Cw s3 out s4 JJ s5 Us Qx Cv jp;have e1:na=Cy:=rfl;have e2:nb=Cw:=rfl;have e3:o=out:=rfl;have e4:nb-1=Cv:=rfl
        clear_value Cy Cw out Cv
        subst e1 e2 e3 e4;have J:∀u m,wpS (model prog w) A E s (jp u m) (fs (λc=>HR st a b (n+1) Q c.1 c.2.1 c.2.2.1 c.2.2.2.1) (λc=>HR st a b (n+1) nQ c.1 c.2.1 c.2.2.1 c.2.2.2.1)) er:=by
          intro u m;refine ao (wb (g:=m) λgI fO=>?_)
          replace hL:=hL.rP fO
          obtain⟨p,q,hp,hq,ip,iq⟩:=hL.ex gq;refine ao (n6 hq ?_);refine ao (qy (hL.sm.1.trans hk) iq IA (SA _ _) (by have:=hL.a2;omega) (by have:=hL.a1;omega) λk lA kr kE=>?_);have G:=hL.gy hq lA kr kE;clear kr kE hp ip;dsimp -zeta -zetaHave only
          lift_lets
          intro k2 Ur sO xH YC;have J2:∀u na o,HI st a b (n+1) na nb o gI->(∀p,0<na->a[na-1]?=some p->kn p<=kn q)->wpS (model prog w) A E s (sO u na o) (fs (λc=>HR st a b (n+1) Q c.1 c.2.1 c.2.2.1 c.2.2.2.1) (λc=>HR st a b (n+1) nQ c.1 c.2.1 c.2.2.1 c.2.2.2.1)) gI:=by
            intro u na o hL hc;obtain⟨p,q2,hp,_,ip,_⟩:=hL.ex gq;have Y:=hL.x hp hq (hc p hL.a1 hp);refine ao (n6 hq ?_);refine d0 (λe=>ay (h _ _ hL.sm (Y.1 (eq_of_beq e)))) λe=>?_;have Z:=Y.2 λz=>e (bp.mpr z);refine ao (n6 hp ?_);refine ao (qy (hL.sm.1.trans hk) ip IB (SB _ _) (by have:=Z.b2;omega) (by have:=Z.b1;omega) λk lA kr kE=>?_);have G:=Z.gx hp lA kr kE;dsimp -zeta -zetaHave only
            lift_lets
            intro k3 Qv sN xG YB;have J3:∀u nb o,HI st a b (n+1) na nb o gI->(∀q,0<nb->b[nb-1]?=some q->kn q<=kn p)->wpS (model prog w) A E s (sN u nb o) (fs (λc=>HR st a b (n+1) Q c.1 c.2.1 c.2.2.1 c.2.2.2.1) (λc=>HR st a b (n+1) nQ c.1 c.2.1 c.2.2.1 c.2.2.2.1)) gI:=by
              intro u nb o hL hc;obtain⟨p2,q,_,hq,_,_⟩:=hL.ex gq;have Y:=hL.y hp hq (hc q (by have:=hL.b1;omega) hq);refine ao (n6 hp ?_);refine d0 (λe=>ay (h _ _ hL.sm (Y.1 (eq_of_beq e)))) λe=>?_;have Z:=Y.2 λz=>e (bp.mpr z);exact d0 (λ_=>ay (Z.wk (cD _))) (λ_=>ay (Z.wk (cD _)))
            clear_value sN
            refine d0 (λ_=>d0 (λe=>ay (h _ _ hL.sm (G.1 (eq_of_beq e)))) λe=>d0 (λe2=>ay (h _ _ hL.sm (G.2.1 (eq_of_beq e2)))) λe2=>J3 _ _ _ ((G.2.2.1 (λz=>e (bp.mpr z)) (λz=>e2 (bp.mpr z))).wk (cD _)) G.2.2.2) (λe=>J3 _ _ _ (Z.wk (cD _)) ?_);have e:k=nb-1:=by omega
            subst e;exact G.2.2.2
          clear_value sO
          refine d0 (λ_=>d0 (λe=>ay (h _ _ hL.sm (G.1 (eq_of_beq e)))) λe=>J2 _ _ _ (G.2.1 (λz=>e (bp.mpr z))) G.2.2) (λe=>J2 _ _ _ hL ?_);have e:k=na:=by omega
          subst e;exact G.2.2
        clear_value jp
        exact d0 (λ_=>J _ _) (λ_=>J _ _)
      · rintro⟨c1,na,nb,o,mg,ac,bc⟩ er hL;cases c1 with
        |some z=>exact hL.elim
        |none=>exact hL
      · rintro⟨c1,na,nb,o,mg,ac,bc⟩ er hL;cases c1 with
        |some z=>exact ay hL
        |none=>exact ao (wb λgI fO=>ay (HI.rP hL fO))
  · rintro⟨c1,na,nb,o,mg⟩ er hL;cases c1 with
    |some z=>exact hL.elim
    |none=>exact HI.wk hL ()
  · rintro⟨c1,na,nb,o,mg⟩ er hL;cases c1 with
    |some z=>exact ay hL
    |none=>exact(HI.full hL).elim
end
def seg(l:List Keyed)(s n:Nat):List Keyed:=(l.drop s).take n
theorem t7{l:List Keyed}{s n:Nat}(h:s+n<=l.length):(seg l s n).length=n:=by simp[seg];omega
theorem Q4(l:List Keyed)(s n k:Nat):(seg l s n)[k]?=if k<n then l[s+k]? else none:=by
 unfold seg;rw[Jb];split<;>simp
theorem An(l:List Keyed)(s n m:Nat):seg l s (n+m)=seg l s n++seg l (s+n) m:=by
 unfold seg;rw[List.take_add,fW]
theorem W0{l l':List Keyed}{s n:Nat}(h:∀k,s<=k->k<s+n->l'[k]?=l[k]?):seg l' s n=seg l s n:=by
 apply kf;intro k;rw[Q4,Q4]
 grind
def put(l:List Keyed)(s:Nat)(m:List Keyed):List Keyed:=l.take s++(m++l.drop (s+m.length))
theorem J8{l:List Keyed}{s:Nat}{m:List Keyed}(h:s+m.length<=l.length)(k:Nat):(put l s m)[k]?=if s<=k/\k<s+m.length then m[k-s]? else l[k]?:=by
 unfold put;rw[xj,bC,iz ()];by_cases h1:k<s
 ·rw[aF h1,aA (),Jb,aF h1]
 ·rw[aA h1,xj];by_cases h2:k-s<m.length
  ·rw[aF h2,aF ()]
  ·rw[aA h2,aA (),List.getElem?_drop];congr 1;omega
theorem P'{l:List Keyed}{s:Nat}{m:List Keyed}(h:s+m.length<=l.length):seg (put l s m) s m.length=m:=by
 apply kf;intro k;rw[Q4,J8 h];by_cases hk:k<m.length
 ·grind
 simp_all
theorem Uv{l:List Keyed}{s:Nat}{m:List Keyed}(h:m.Perm (seg l s m.length)):(put l s m).Perm l:=by
 have e:l=l.take s++(seg l s m.length++l.drop (s+m.length)):=by
  unfold seg;rw[<- fW,bj,bj]
 conv=>rhs;rw[e]
 exact dB _ (ij _ h)
theorem EM:∀(m:List Keyed) (s j:Nat) (a:Array Keyed),s+j+m.length<=a.size->((m.zipIdx j).foldl (λa (p:Keyed×Nat)=>a.setIfInBounds (s+p.2) p.1) a).toList=put a.toList (s+j) m
 |[],s,j,a,h=>by simp[put]
 |p::m,s,j,a,h=>by
  rw[List.zipIdx_cons,fB,EM m s (j+1) _ (by grind)];have h1:s+j+(p::m).length<=a.toList.length:=by simpa using h
  have h2:s+(j+1)+m.length<=(a.setIfInBounds (s+j) p).toList.length:=by grind
  apply kf;intro k;rw[J8 h1,J8 h2];simp only[Array.toList_setIfInBounds,List.getElem?_set,List.length_cons,Array.length_toList] at h ⊢;by_cases h3:s+(j+1)<=k/\k<s+(j+1)+m.length
  ·rw[aF h3,aF (),show k-(s+j)=(k-(s+(j+1)))+1 by omega,List.getElem?_cons_succ]
  ·rw[aA h3];by_cases e:s+j=k
   ·subst e;rw[aF rfl,aF (),aF (),Nat.sub_self];rfl
   ·rw[aA e,aA ()]
theorem Uw{l z:List Keyed}{s k r:Nat}(h:s+k+z.length+r<=l.length):put l (s+k) z=put l s (seg l s k++(z++seg l (s+k+z.length) r)):=by
 have e:(seg l s k++(z++seg l (s+k+z.length) r)).length=k+z.length+r:=by
  rw[aS,aS,t7 (),t7 ()];omega
 have e2:l.drop (s+k+z.length)=seg l (s+k+z.length) r++l.drop (s+(k+z.length+r)):=by
  unfold seg;rw[show s+(k+z.length+r)=s+k+z.length+r by omega,<- fW (i:=r),bj]
 unfold put;rw[e,List.take_add,e2];simp only[seg,List.append_assoc]
theorem OY{a1 a2 b1 b2 m:List Keyed}(sa:(a1++a2).Pairwise le)(sb:(b1++b2).Pairwise le)(hm:Fn le (a2++b1) m)(h1:∀p∈a1,∀q∈b1++b2,le p q)(h2:∀p∈a2,∀q∈b2,le p q):(a1++(m++b2)).Pairwise le:=by
 obtain⟨x1,x2,x3⟩:=aH.mp sa;obtain⟨y1,y2,y3⟩:=aH.mp sb;have mm:∀p∈m,p∈a2\/p∈b1:=λp hp=>aX.mp (hm.1.mem_iff.mp hp);refine aH.mpr ⟨x1,aH.mpr ⟨hm.2,y2,λp hp q hq=>?_⟩,λp hp q hq=>?_⟩
 ·rcases mm p hp with hp|hp
  ·exact h2 p hp q hq
  ·exact y3 p hp q hq
 ·rcases aX.mp hq with hq|hq
  ·rcases mm q hq with hq|hq
   ·exact x3 p hp q hq
   ·exact h1 p hp q (bq _ hq)
  ·exact h1 p hp q (aM _ hq)
def CC:Nat->StateT SortSt Sem Bool:=sortPriv% PySem.Builtin.mergeAt
section
variable{prog:Program}{w:World}{A:Around}{E:Value->Shared->Prop}{s:Shared}
theorem QF{U:Type}{M:Model}{x st:U}{Q:PUnit->U->Prop}(h:Q ⟨⟩ x):wpS M A E s (set x:StateT U Sem PUnit) Q st:=by
 exact ah ⟨rfl,h⟩
theorem MC{st:SortSt}{i sa na pw sb nb pU:Nat}{Q:Bool->SortSt->Prop}(hk:kindOf st=oneType')(Kv:failedOf st=none)(gq:∀p∈(arrOf st).toList,IK p)(e1:(pendingOf st)[i]?=some (sa,na,pw))(e2:(pendingOf st)[i+1]?=some (sb,nb,pU))(Ln:sb=sa+na)(hn:sb+nb<=(arrOf st).size)(Lf:0<na)(Y':0<nb)(ha:(seg (arrOf st).toList sa na).Pairwise le)(hb:(seg (arrOf st).toList sb nb).Pairwise le)(h:∀ aQ m,m.length=na + nb->m.Pairwise le->m.Perm (seg (arrOf st).toList sa (na + nb))->kindOf aQ=oneType'->failedOf aQ=none->(arrOf aQ).toList=put (arrOf st).toList sa m ->
   pendingOf aQ=((pendingOf st).setIfInBounds i (sa,na + nb,pw)).eraseIdxIfInBounds (i + 1)->Q true aQ):wpS (model prog w) A E s (CC i) Q st:=by
 obtain⟨kd,X,pd,mg,fl⟩:=st;dsimp only[arrOf,kindOf,pendingOf,failedOf] at *;subst hk Kv;refine ao (lb ?_);rw[e1,e2];refine ao (m:=set _) (QF ?_);have gp:X.toList.length=X.size:=by simp
 have vC:sb<X.size:=by omega
 refine ao (n6 (p:=X[sb]) (bX _ sb vC) ?_);have IX:∀t (ht:t<X.size),IK X[t]:=λt ht=>gq _ (by simp);have uY:∀u n,u+n<=X.size->(seg X.toList u n).Pairwise le->∀i j (hj:j<X.size) (iu:i<=j),u<=i->j<u+n->kn X[i]<=kn X[j]:=by
  intro u n YL hp i j hj iu h1 h2;by_cases e:i=j
  ·subst e;exact gG _
  ·have l1:=t7 (l:=X.toList) (s:=u) (n:=n) ();have:=dP.mp hp (i-u) (j-u) () () ();simp only[seg,List.getElem_take,List.getElem_drop,show u+(i-u)=i by omega,show u+(j-u)=j by omega,Array.getElem_toList] at this;exact this
 refine ao (qy (xs:=X) rfl (IX sb vC) gq (uY sa na () ha) () Lf λk lA kr kE=>?_);have ea:seg X.toList sa na=seg X.toList sa k++seg X.toList (sa+k) (na-k):=by rw[<- An];congr 1;omega
 have tO:seg X.toList sa (na+nb)=seg X.toList sa na++seg X.toList sb nb:=by rw[An,Ln]
 have gh:∀q∈seg X.toList sb nb,kn X[sb]<=kn q:=by
  intro q hq;obtain⟨t,ht,rfl⟩:=bH.mp hq;rw[t7 ()] at ht;simp only[seg,List.getElem_take,List.getElem_drop,Array.getElem_toList];exact uY sb nb hn hb sb (sb+t) () () () ()
 have X1:∀p∈seg X.toList sa k,∀q∈seg X.toList sb nb,le p q:=λp hp q hq=>eP (BC (kr p hp)) (gh q hq);have keep:(∀p∈seg X.toList (sa+k) (na-k),∀q∈seg X.toList sb nb,le p q)->∀aQ,kindOf aQ=oneType'->failedOf aQ=none->arrOf aQ=X->pendingOf aQ=(pd.setIfInBounds i (sa,na+nb,pw)).eraseIdxIfInBounds (i+1)->Q true aQ:=by
  intro hc aQ g1 g2 g3 g4;have l2:(seg X.toList sa (na+nb)).length=na+nb:=t7 ();refine h aQ (seg X.toList sa (na+nb)) l2 ?_ (iT _) g1 g2 ?_ g4
  ·rw[tO];refine aH.mpr ⟨ha,hb,λp hp q hq=>?_⟩;rw[ea] at hp;rcases aX.mp hp with hp|hp
   ·exact X1 p hp q hq
   ·exact hc p hp q hq
  ·show(arrOf aQ).toList=_;rw[g3];unfold put;rw[l2];unfold seg;rw[<- fW,bj,bj]
 refine d0 (λhe=>?_) (λhe=>?_)
 ·have he:na-k=0:=by simpa using he
  refine ay (keep (λp hp=>?_) _ rfl rfl rfl rfl);rw[he] at hp;simp[seg] at hp
 have CZ:0<na-k:=by simp at he;omega
 rw[show sa+k+(na-k)-1=sb-1 by omega];have qd:sb-1<X.size:=by omega
 refine ao (n6 (p:=X[sb-1]) (bX X (sb-1) qd) ?_);refine ao (qy (xs:=X) rfl (IX _ qd) gq (uY sb nb hn hb) hn () λt YN CS Kd=>?_);have KO:∀p∈seg X.toList (sa+k) (na-k),kn p<=kn X[sb-1]:=by
  intro q hq;obtain⟨u,hu,rfl⟩:=bH.mp hq;rw[t7 ()] at hu;simp only[seg,List.getElem_take,List.getElem_drop,Array.getElem_toList];exact uY sa na () ha (sa+k+u) (sb-1) qd () () ()
 have eb:seg X.toList sb nb=seg X.toList sb t++seg X.toList (sb+t) (nb-t):=by rw[<- An];congr 1;omega
 have X2:∀p∈seg X.toList (sa+k) (na-k),∀q∈seg X.toList (sb+t) (nb-t),le p q:=λp hp q hq=>eP (KO p hp) (AS (Kd q hq));dsimp only;refine d0 (λhe=>?_) (λhe=>?_)
 ·have he:t=0:=by simpa using he
  subst he;refine ay (keep (λp hp q hq=>?_) _ rfl rfl rfl rfl);exact X2 p hp q hq
 have ht:0<t:=by grind
 have nG:(X.extract (sa+k) sb).toList=seg X.toList (sa+k) (na-k):=by
  rw[iV,List.extract_eq_drop_take];congr 1;omega
 have nF:(X.extract sb (sb+t)).toList=seg X.toList sb t:=by
  rw[iV,List.extract_eq_drop_take];congr 1;omega
 rw[ea] at ha;rw[eb] at hb;have s1:=(aH.mp ha).2.1;have s2:=(aH.mp hb).1;have z1:(X.extract (sa+k) sb).size=na-k:=by simp;omega
 have z2:(X.extract sb (sb+t)).size=t:=by simp;omega
 have sub:∀u n p,p∈seg X.toList u n->IK p:=λu n p hp=>gq p (fu (ft hp));have CH:∀p∈(X.extract (sa+k) sb).toList++(X.extract sb (sb+t)).toList,IK p:=by
  rw[nG,nF];intro p hp;rcases aX.mp hp with hp|hp
  ·exact sub _ _ p hp
  ·exact sub _ _ p hp
 have y0:∀h,kn ((X.extract sb (sb+t))[0]'h)=kn X[sb]:=λh=>by simp
 have xl:∀h,kn ((X.extract (sa+k) sb)[(X.extract (sa+k) sb).size-1]'h)=kn X[sb-1]:=λh=>by
  simp only[Array.getElem_extract];congr 2;omega
 have lst:∀z,(seg X.toList (sa+k) (na-k)).getLast?=some z->kn z=kn X[sb-1]:=by
  intro z hz;rw[List.getLast?_eq_getElem?,t7 (),Q4,aF (),show sa+k+(na-k-1)=sb-1 by omega,az ()] at hz;cases hz;simp
 refine d0 (λhc=>?_) (λhc=>?_);refine ao (MF rfl CH () () ⟨iT _,List.Pairwise.nil,by rw[nG];exact s1,by rw[nF];exact s2,λp hp=>absurd hp Zo,λq hq z hz=>?_⟩ (λp hp=>?_) λz aQ hs hz=>?_)
 ·rw[nG] at hz;rw[nF] at hq;show kn q<=kn z;rw[lst z hz];exact bZ (wO (CS q hq))
 ·rw[nG] at hp;rw[y0];exact bZ (vP (kE p hp))
 rotate_left
 refine ao (MD rfl CH () () (by rw[nG];exact s1) (by rw[nF];exact s2) ⟨?_,List.Pairwise.nil,?_,?_,λp hp=>absurd hp Zo,λq hq z hz=>?_⟩ (λp hp=>?_) λz aQ hs hz=>?_)
 ·rw[W2,W2,List.nil_append];exact(List.Perm.append (ke _) (ke _)).trans iF
 ·rw[W2,nF];exact iG.mpr s2
 ·rw[W2,nG];exact iG.mpr s1
 ·have hq:=GH hq;rw[nG] at hq;rw[W2,List.getLast?_reverse,nF,List.head?_eq_getElem?,Q4,aF ht,az ()] at hz;cases hz;exact bZ (by simpa using vP (kE q hq))
 ·rw[nF] at hp;rw[xl];exact bZ (wO (CS p hp))
 all_goals
  refine ao (la (ao (lb (ay ?_))));show Q (failedOf aQ).isNone _;rw[hs.2.2.2];have YI:z.toList.length=na-k+t:=by rw[hz.1.length_eq,aS,nG,nF,t7 (),t7 ()]
  rw[nG,nF] at hz;have hA:(seg X.toList sa k).length=k:=t7 ();have hB:(seg X.toList (sb+t) (nb-t)).length=nb-t:=t7 ();refine h _ (seg X.toList sa k++(z.toList++seg X.toList (sb+t) (nb-t))) (by rw[aS,aS,hA,hB];omega) (OY ha hb hz (by rw[<- eb];exact X1) X2) ?_ hs.1 hs.2.2.2 ?_ hs.2.2.1
  ·rw[tO,ea,eb,bw];refine dB _ ?_;rw[<- bw];exact ij _ hz.1
  ·have:=EM z.toList (sa+k) 0 (arrOf aQ) (by rw[hs.2.1];show sa+k+0+_<=X.size;omega);refine Eq.trans this ?_;rw[hs.2.1];have:=Uw (l:=X.toList) (z:=z.toList) (s:=sa) (k:=k) (r:=nb-t) ();rw[show sa+k+z.toList.length=sb+t by omega] at this;exact this
end
structure Nr(st aQ:SortSt)(lo hi:Nat):Prop where
 kd:kindOf aQ=oneType'
 fl:failedOf aQ=none
 pd:pendingOf aQ=pendingOf st
 pm:(arrOf aQ).Perm (arrOf st)
 out:∀k,k<lo\/hi<=k->(arrOf aQ)[k]?=(arrOf st)[k]?
theorem Nr.arr{st aQ:SortSt}{lo hi:Nat}(h:Nr st aQ lo hi){xs:Array Keyed}(hp:xs.Perm (arrOf aQ))(ho:∀k,k<lo\/hi<=k->xs[k]?=(arrOf aQ)[k]?):Nr st (setArr aQ xs) lo hi :=
 ⟨h.kd,h.fl,h.pd,hp.trans h.pm,λk hk=>(ho k hk).trans (h.out k hk)⟩
def SB(xs:Array Keyed)(lo m:Nat):Prop:=∀i j,lo<=i->i<=j->j<lo+m->K xs i<=K xs j
def ND(xs:Array Keyed)(lo m:Nat):Prop:=∀i j,lo<=i->i<=j->j<lo+m->K xs j<=K xs i
theorem SB.one(xs:Array Keyed)(lo:Nat):SB xs lo 1:=λi j a b c=>by
 grind
theorem SB.more{xs:Array Keyed}{lo x:Nat}(h:SB xs lo x)(h0:0<x)(hc:¬K xs (lo+x)<K xs (lo+x-1)):SB xs lo (x+1):=by
 intro i j h1 h2 h3;by_cases hj:j<lo+x
 ·exact h i j h1 h2 hj
 ·have:j=lo+x:=by omega
  subst this;by_cases hi:i=lo+x
  ·subst hi;exact gG _
  ·exact eP (h i (lo+x-1) h1 () ()) (fX.mp hc)
theorem ND.more{xs:Array Keyed}{lo x:Nat}(h:ND xs lo x)(h0:0<x)(hc:K xs (lo+x)<=K xs (lo+x-1)):ND xs lo (x+1):=by
 intro i j h1 h2 h3;by_cases hj:j<lo+x
 ·exact h i j h1 h2 hj
 ·have:j=lo+x:=by omega
  subst this;by_cases hi:i=lo+x
  ·subst hi;exact gG _
  ·exact eP hc (h i (lo+x-1) h1 () ())
theorem ND.same{xs ys:Array Keyed}{lo m:Nat}(h:ND xs lo m)(hk:∀k,K ys k=K xs k):ND ys lo m:=λi j a b c=>by rw[hk,hk];exact h i j a b c
section
variable{prog:Program}{w:World}{A:Around}{E:Value->Shared->Prop}{s:Shared}
theorem DH{xs:Array Keyed}{i:Nat}(hi:i<xs.size)(hk:IK xs[i]):∃t q,xs[i]?=some (.int (K xs i) t,q):=by
 obtain⟨n,t,e⟩:=hk;refine⟨t,xs[i].2,?_⟩;have e2:xs[i]?=some xs[i]:=bX _ i hi;have e3:xs[i]=(.int n t,xs[i].2):=xg e rfl;unfold K;rw[e2,e3]
 rfl
theorem sH{st:SortSt}{i j:Nat}{Q:Option Bool->SortSt->Prop}(hk:kindOf st=oneType')(h0:∀p∈(arrOf st).toList,IK p)(hi:i<(arrOf st).size)(hj:j<(arrOf st).size)(h:Q (some (decide (K (arrOf st) i<K (arrOf st) j))) st) :
  wpS (model prog w) A E s (ltAt' i j) Q st:=by
 obtain⟨t,p,e1⟩:=DH hi (h0 _ (by simp));obtain⟨u,q,e2⟩:=DH hj (h0 _ (by simp));exact wpS_ltAt hk e1 e2 h
theorem Ma{st:SortSt}{lo n ok:Nat}{Q:Bool->SortSt->Prop}(hk:kindOf st=oneType')(hf:failedOf st=none)(h0:∀p∈(arrOf st).toList,IK p)(hn:lo+n<=(arrOf st).size)(bB:ok<=n)(hs:SB (arrOf st) lo ok)(h:∀aQ,Nr st aQ lo (lo+n)->SB (arrOf aQ) lo n->Q true aQ):wpS (model prog w) A E s (binarySort' lo n ok) Q st:=by
 refine ao (wpS_mono (da (I:=λk (c:Option Bool × Unit) aQ=>c=(none,Unit.unit)/\Nr st aQ lo (lo + n)/\SB (arrOf aQ) lo (min k n))
  (Q:=λc aQ=>c=(none,Unit.unit)/\Nr st aQ lo (lo + n)/\SB (arrOf aQ) lo n) ?_ ?_ ⟨rfl,⟨hk,hf,rfl,lL _,λ_ _=>rfl⟩,?_⟩) ?_)
 ·rintro k c aQ YW YU ⟨rfl,hN,jk⟩;rw[show min k n=k by omega] at jk;have gp:(arrOf aQ).size=(arrOf st).size:=hN.pm.size_eq;have qo:∀p∈(arrOf aQ).toList,IK p:=λp hp=>h0 p ((bI.mp hN.pm).mem_iff.mp hp);refine ao (wpS_mono (da (I:=λx (c:Option Bool × Nat × Nat) gJ=>gJ=aQ/\c.1=none/\c.2.1 <= c.2.2/\c.2.2 <= k/\c.2.2 - c.2.1 <= k - x /\
    (∀ i,lo <= i->i < lo + c.2.1->K (arrOf aQ) i <= K (arrOf aQ) (lo + k))/\(∀ i,lo + c.2.2 <= i->i < lo + k->K (arrOf aQ) (lo + k) < K (arrOf aQ) i))
   (Q:=λc gJ=>gJ=aQ/\c.1=none/\c.2.1<=k/\(∀i,lo<=i->i<lo+c.2.1->K (arrOf aQ) i<=K (arrOf aQ) (lo+k))/\(∀i,lo+c.2.1<=i->i<lo+k->K (arrOf aQ) (lo+k)<K (arrOf aQ) i)) ?_ ?_
   ⟨rfl,rfl,cJ _,ai _,ai _,λi h1 h2=>absurd h2 (by grind),λi h1 h2=>absurd h2 (by grind)⟩) ?_)
  ·rintro x ⟨c1,l,r⟩ gJ _ hx ⟨rfl,rfl,q1,q2,q3,q4,q5⟩;dsimp only at q1 q2 q3 q4 q5;refine d0 (λjU=>?_) (λjU=>?_)
   ·have:l=r:=by grind
    subst this;exact ay ⟨rfl,rfl,q2,q4,q5⟩
   ·have jU:l<r:=by simp_all
    refine ao (sH hN.kd qo () (by grind) ?_);refine d0 (λhc=>?_) (λhc=>?_)
    ·have hc:=aN hc;exact ay ⟨rfl,rfl,by grind,by dsimp only;omega,by dsimp only;omega,q4,λi h1 h2=>Int.lt_of_lt_of_le hc (jk _ _ () h1 h2)⟩
    ·have hc:=fX.mp λz=>hc (bh z);exact ay ⟨rfl,rfl,by grind,q2,by dsimp only;omega,λi h1 h2=>eP (jk i (lo+(l+r) / 2) h1 (by grind) ()) hc,q5⟩
  ·grind
  ·rintro⟨c1,l,r⟩ gJ ⟨rfl,rfl,q1,q2,q3⟩;dsimp only at q1 q2 q3 ⊢;have yz:lo+k<(arrOf gJ).size:=by omega
   refine ao (la (ay ⟨rfl,hN.arr (bubble_perm _ (lo+k) (lo+k-(lo+l))) (λt ht=>?_),?_⟩))
   ·show(bubble (arrOf gJ) (lo+k) (lo+k-(lo+l)))[t]?=_;rw[getElem?_bubble yz _ (),aA (),aA ()]
   ·intro i j h1 iu hj;show K (bubble (arrOf gJ) (lo+k) (lo+k-(lo+l))) i<=K (bubble (arrOf gJ) (lo+k) (lo+k-(lo+l))) j;rw[K_bubble yz (),K_bubble yz (),show lo+k-(lo+k-(lo+l))=lo+l by omega]
    repeat' split
    all_goals first
     |(exfalso;omega)
     |exact gG _
     |exact q2 _ () ()
     |exact bZ (q3 _ () ())
     |exact jk _ _ () () ()
 ·rintro c aQ ⟨rfl,hN,jk⟩;refine⟨rfl,hN,?_⟩
  grind
 ·intro i j h1 iu hj;by_cases e:ok=0
  ·grind
  ·exact hs i j h1 iu ()
 ·rintro c aQ ⟨rfl,hN,jk⟩;exact ay (h aQ hN jk)
theorem Nr.vf{st aQ:SortSt}{lo hi i j:Nat}(h:Nr st aQ lo hi)(h1:lo<=i)(h2:j<=hi)(h3:j<=(arrOf aQ).size):Nr st (setArr aQ (mirror (arrOf aQ) i j ((j-i) / 2))) lo hi :=
 h.arr (mirror_perm _ _ _ _) λk hk=>by rw[getElem?_mirror_all h3,aA ()]
theorem NJ{st:SortSt}{lo gc:Nat}{Q:Option Nat->SortSt->Prop}(hk:kindOf st=oneType')(hf:failedOf st=none)(h0:∀p∈(arrOf st).toList,IK p)(hn:lo+gc<=(arrOf st).size)(h1:1<=gc)(h:∀m aQ,Nr st aQ lo (lo+gc)->1<=m->m<=gc->SB (arrOf aQ) lo m->Q (some m) aQ):wpS (model prog w) A E s (countRun' lo gc) Q st:=by
 have asc:∀aQ n,Nr st aQ lo (lo+gc)->1<=n->n<=gc->SB (arrOf aQ) lo n->∀(F:Nat->Option (Option Nat)×Nat->StateT SortSt Sem (ForInStep (Option (Option Nat)×Nat))),
   (F=λ_ c=>ltAt' (lo + c.2) (lo + c.2 - 1) >>= λr=>match r with
    |some b=>if b=true then pure (.done (none,c.2)) else pure (.yield (none,c.2+1))
    | x=>pure (.done (some none,c.2))) ->
   wpS (model prog w) A E s (forIn [n:gc] (none,n) F) (λc gJ=>gJ=aQ/\c.1=none/\1<=c.2/\c.2<=gc/\SB (arrOf aQ) lo c.2/\(c.2=gc\/K (arrOf aQ) (lo+c.2)<K (arrOf aQ) (lo+c.2-1))) aQ:=by
  intro aQ n hN h2 h3 hs F e;subst e;have gp:(arrOf aQ).size=(arrOf st).size:=hN.pm.size_eq;have qo:∀p∈(arrOf aQ).toList,IK p:=λp hp=>h0 p ((bI.mp hN.pm).mem_iff.mp hp);refine da (I:=λx c gJ=>gJ=aQ/\c=(none,x)/\1<=x/\SB (arrOf aQ) lo x) ?_ ?_ ⟨rfl,rfl,h2,hs⟩
  ·rintro x c gJ Dq CO ⟨rfl,rfl,q1,q2⟩;refine ao (sH hN.kd qo () () ?_);refine d0 (λhc=>?_) (λhc=>?_)
   ·exact ay ⟨rfl,rfl,q1,by grind,q2,.inr (aN hc)⟩
   ·exact ay ⟨rfl,rfl,by omega,q2.more () λz=>hc (bh z)⟩
  grind
 have N0:Nr st st lo (lo+gc):=⟨hk,hf,rfl,lL _,λ_ _=>rfl⟩
 refine ao (wpS_mono (asc st 1 N0 (ai _) h1 (SB.one _ _) _ rfl) ?_);rintro⟨c1,n⟩ er ⟨rfl,rfl,sX,kD,hs,CW⟩;dsimp only at sX kD hs CW ⊢;refine d0 (λhe=>ay (h n er N0 sX kD hs)) (λhe=>?_);have YR:n<gc:=by grind
 have eA:K (arrOf er) (lo+n)<K (arrOf er) (lo+n-1):=CW.resolve_left ();refine d0 (λhg=>?_) (λhg=>?_);refine ao (sH hk h0 () () ?_);refine d0 (λhc=>ay (h n er N0 sX kD hs)) (λhc=>?_);have hc:=fX.mp λz=>hc (bh z);have kx:∀k,lo<=k->k<lo+n->K (arrOf er) k=K (arrOf er) (lo+n-1):=by
  intro k lA kr;have a1:=hs lo k (ai _) lA kr;have a2:=hs k (lo+n-1) lA () ();omega
 refine ao (Zg ?_);have hN:=N0.vf (i:=lo) (j:=lo+n) (ai _) () ();have hD:ND (arrOf (setArr er (mirror (arrOf er) lo (lo+n) ((lo+n-lo) / 2)))) lo (n+1):=by
  refine ND.more (x:=n) (ND.same (xs:=arrOf er) (λi j a b c=>?_) λk=>ja () kx k) () ?_
  ·rw[kx i a (),kx j () c];exact gG _
  ·rw[ja () kx,ja () kx];exact bZ eA
 rotate_left
 have yt:n=1:=by omega
 subst yt;have hN:=N0;have hD:ND (arrOf er) lo (1+1):=ND.more (x:=1) (λi j a b c=>by grind) ∅ (bZ eA)
 all_goals
  refine ao (nK (cV ⟨rfl,?_⟩));refine ao (wpS_mono (da (I:=λx (c:Option (Option Nat) × Nat × Nat) aQ=>c.1=none/\c.2.1=x/\Nr er aQ lo (lo + gc)/\ND (arrOf aQ) lo x/\c.2.2 + 1 <= x/\∀ i,lo + x - (c.2.2 + 1) <= i->i < lo + x->K (arrOf aQ) i=K (arrOf aQ) (lo + x - 1))
   (Q:=λc aQ=>c.1=none/\1<=c.2.1/\c.2.1<=gc/\Nr er aQ lo (lo+gc)/\ND (arrOf aQ) lo c.2.1/\c.2.2+1<=c.2.1/\∀i,lo+c.2.1-(c.2.2+1)<=i->i<lo+c.2.1->K (arrOf aQ) i=K (arrOf aQ) (lo+c.2.1-1)) ?_ ?_
   ⟨rfl,rfl,hN,hD,by dsimp only;omega,λi a b=>by dsimp only at a;congr 1;omega⟩) ?_)
  ·rintro x ⟨c1,c2,q⟩ aQ Dq CO ⟨rfl,rfl,kF,jk,hq,jL⟩;dsimp only at Dq CO jk hq jL ⊢;have gp:(arrOf aQ).size=(arrOf er).size:=kF.pm.size_eq;have qo:∀p∈(arrOf aQ).toList,IK p:=λp hp=>h0 p ((bI.mp kF.pm).mem_iff.mp hp);refine ao (sH kF.kd qo (by rw[gp];omega) (by rw[gp];omega) ?_);refine d0 (λhc=>?_) (λhc=>?_)
   ·have hm:=jk.more () (bZ (aN hc));refine d0 (λhg=>?_) (λhg=>?_)
    ·exact ao (Zg (ay ⟨rfl,rfl,kF.vf () () (by rw[gp];omega),hm.same λk=>ja (by rw[gp];omega) jL k,by dsimp only;omega,λi a b=>by dsimp only at a;congr 1;omega⟩))
    ·exact ay ⟨rfl,rfl,kF,hm,by dsimp only;omega,λi a b=>by dsimp only at a;congr 1;omega⟩
   ·have hc:=fX.mp λz=>hc (bh z);refine ao (sH kF.kd qo (by rw[gp];omega) (by rw[gp];omega) ?_);refine d0 (λhd=>ay ⟨rfl,by dsimp only;omega,by dsimp only;omega,kF,jk,hq,jL⟩) (λhd=>?_);have hd:=fX.mp λz=>hd (bh z);refine ay ⟨rfl,rfl,kF,jk.more () hd,by dsimp only;omega,λi a b=>?_⟩;rw[show lo+(c2+1)-1=lo+c2 by omega];by_cases e:i=lo+c2
    ·rw[e]
    ·rw[jL i (by dsimp only at a;omega) ()];omega
  ·rintro⟨c1,c2,q⟩ aQ ⟨rfl,e2,kF,jk,hq,jL⟩;dsimp only at e2;have e3:c2=gc:=by omega
   rw[<- e2] at jk hq jL;exact⟨rfl,by dsimp only;omega,by dsimp only;omega,kF,jk,hq,jL⟩
  ·rintro⟨c1,n,q⟩ aQ ⟨rfl,nu,Dd,kF,jk,hq,jL⟩;dsimp only at nu Dd jk hq jL ⊢;have gp:(arrOf aQ).size=(arrOf er).size:=kF.pm.size_eq;refine d0 (λhg=>ao (Zg ?_)) (λhg=>?_);have qk:=kF.vf (i:=lo+n-(q+1)) (j:=lo+n) () () (by rw[gp];omega);have fO:ND (arrOf (setArr aQ (mirror (arrOf aQ) (lo+n-(q+1)) (lo+n) ((lo+n-(lo+n-(q+1))) / 2)))) lo n:=jk.same λk=>ja (by rw[gp];omega) jL k;generalize setArr aQ (mirror (arrOf aQ) (lo+n-(q+1)) (lo+n) ((lo+n-(lo+n-(q+1))) / 2))=ji at qk fO ⊢
   rotate_left
   have qk:=kF;have fO:=jk
   all_goals
    have hsz2:=qk.pm.size_eq;refine ao (Zg ?_);have qj:=qk.vf (i:=lo) (j:=lo+n) (ai _) () ();refine ao (wpS_mono (asc _ n qj nu Dd (λi j a b c=>?_) _ rfl) ?_)
    ·show K (mirror _ lo (lo+n) _) i<=K (mirror _ lo (lo+n) _) j;rw[K_mirror (),K_mirror (),aF (),aF ()];exact fO _ _ () () ()
    ·rintro⟨c1,m⟩ YA ⟨rfl,rfl,q1,q2,q3,_⟩;exact ay (h m _ qj q1 q2 q3)
end
def Ch(l:List Keyed):List (Nat×Nat×Nat)->Nat->Nat->Prop
 |[],a,b=>a=b
 |(s,n,_)::r,a,b=>s=a/\0<n/\(seg l a n).Pairwise le/\Ch l r (a+n) b
theorem Ch.le{l:List Keyed}:∀{p:List (Nat×Nat×Nat)} {a b:Nat},Ch l p a b->a+p.length<=b
 |[],a,b,h=>eM h
 |(s,n,w)::r,a,b,⟨_,h1,_,h2⟩=>by have:=Ch.le h2;simp only[List.length_cons];omega
theorem Ch.congr{l l':List Keyed}:∀{p:List (Nat×Nat×Nat)} {a b:Nat},Ch l p a b->(∀k,a<=k->k<b->l'[k]?=l[k]?)->Ch l' p a b
 |[],a,b,h,_=>h
 |(s,n,w)::r,a,b,⟨h0,h1,h2,h3⟩,hc=>by
  have:=Ch.le h3;exact⟨h0,h1,by rw[W0 λk a b=>hc k a ()];exact h2,Ch.congr h3 λk a b=>hc k () b⟩
theorem Ch.push{l:List Keyed}{n w:Nat}:∀{p:List (Nat×Nat×Nat)} {a b:Nat},Ch l p a b->0<n->(seg l b n).Pairwise TS.le->Ch l (p++[(b,n,w)]) a (b+n)
 |[],a,b,h,h1,h2=>by cases h;exact⟨rfl,h1,h2,rfl⟩
 |(s,m,v)::r,a,b,⟨g0,g1,g2,g3⟩,h1,h2=>⟨g0,g1,g2,Ch.push g3 h1 h2⟩
theorem Ch.pow{l:List Keyed}{f:Nat×Nat×Nat->Nat×Nat×Nat}(hf:∀x,(f x).1=x.1/\(f x).2.1=x.2.1):∀{p:List (Nat×Nat×Nat)} {a b i:Nat},Ch l p a b->Ch l (p.modify i f) a b
 |[],a,b,i,h=>by simpa using h
 |(s,m,v)::r,a,b,0,⟨g0,g1,g2,g3⟩=>by
  obtain⟨x,y⟩:∃z,f (s,m,v)=(s,m,z):=⟨(f (s,m,v)).2.2,xg (hf _).1 (xg (hf _).2 rfl)⟩
  rw[List.modify_zero_cons,y];exact⟨g0,g1,g2,g3⟩
 |(s,m,v)::r,a,b,i+1,⟨g0,g1,g2,g3⟩=>by exact⟨g0,g1,g2,Ch.pow hf g3⟩
theorem Ch.merge{l:List Keyed}{b sa na pw sb nb pU:Nat}:∀{i:Nat} {p:List (Nat×Nat×Nat)} {a:Nat},Ch l p a b->p[i]?=some (sa,na,pw)->p[i+1]?=some (sb,nb,pU)->a<=sa/\sb=sa+na/\0<na/\0<nb/\sb+nb<=b/\(seg l sa na).Pairwise TS.le/\(seg l sb nb).Pairwise TS.le /\
  ∀m,m.length=na+nb->m.Pairwise TS.le->b<=l.length->Ch (put l sa m) ((p.set i (sa,na+nb,pw)).eraseIdx (i+1)) a b
 |0,(s,n,w)::(s',n',w')::r,a,⟨g0,g1,g2,g3,g4,g5,g6⟩,e1,e2=>by
  simp only[List.getElem?_cons_zero,List.getElem?_cons_succ,Nat.zero_add,Option.some.injEq,Prod.mk.injEq] at e1 e2;obtain⟨rfl,rfl,rfl⟩:=e1;obtain⟨rfl,rfl,rfl⟩:=e2;subst g0;have:=Ch.le g6;subst g3;refine⟨ai _,rfl,g1,g4,by omega,g2,g5,λm hm hs hb=>?_⟩;have hl:s+m.length<=l.length:=by omega
  refine⟨rfl,by omega,by rw[<- hm,P' hl];exact hs,?_⟩;rw[<- Nat.add_assoc];exact Ch.congr g6 λk h1 h2=>by rw[J8 hl,aA ()]
 |i+1,(s,n,w)::r,a,⟨g0,g1,g2,g3⟩,e1,e2=>by
  obtain⟨h1,h2,h3,h4,h5,h6,h7,h8⟩:=Ch.merge g3 e1 e2;refine⟨by omega,h2,h3,h4,h5,h6,h7,λm hm hs hb=>?_⟩;refine⟨g0,g1,?_,h8 m hm hs hb⟩;rw[W0 (l:=l) (l':=put l sa m) λk h1 h2=>by rw[J8 (),aA ()]];exact g2
theorem SB.seg{xs:Array Keyed}{lo n:Nat}(hn:lo+n<=xs.size)(h:SB xs lo n):(seg xs.toList lo n).Pairwise le:=by
 rw[dP];intro i j hi hj iu;rw[t7 (by simpa using hn)] at hi hj;have:=h (lo+i) (lo+j) () () ();rw[K_eq (),K_eq ()] at this;simpa[TS.seg] using this
section
variable{prog:Program}{w:World}{A:Around}{E:Value->Shared->Prop}{s:Shared}
structure Go(a₀:Array Keyed)(st:SortSt)(lo:Nat):Prop where
 kd:kindOf st=oneType'
 fl:failedOf st=none
 pm:(arrOf st).Perm a₀
 ch:Ch (arrOf st).toList (pendingOf st).toList 0 lo
theorem HK{a₀:Array Keyed}{st:SortSt}{lo i:Nat}{Q:Bool->SortSt->Prop}(h0:∀p∈a₀.toList,IK p)(hG:Go a₀ st lo)(yw:lo<=a₀.size)(hi:i+1<(pendingOf st).size)(h:∀aQ,Go a₀ aQ lo->(pendingOf aQ).size+1=(pendingOf st).size->(∀k,lo<=k->(arrOf aQ).toList[k]?=(arrOf st).toList[k]?)->Q true aQ):wpS (model prog w) A E s (CC i) Q st:=by
 obtain⟨sa,na,pw,e1⟩:∃sa na pw,(pendingOf st)[i]?=some (sa,na,pw):=⟨_,_,_,bX _ i ()⟩
 obtain⟨sb,nb,pU,e2⟩:∃sb nb pU,(pendingOf st)[i+1]?=some (sb,nb,pU):=⟨_,_,_,bX _ (i+1) hi⟩
 obtain⟨g1,g2,g3,g4,g5,g6,g7,g8⟩:=hG.ch.merge (i:=i) (by simpa using e1) (by simpa using e2);have gp:=hG.pm.size_eq;have hl:(arrOf st).toList.length=a₀.size:=by simpa using gp
 refine MC hG.kd hG.fl (λp hp=>h0 p ((bI.mp hG.pm).mem_iff.mp hp)) e1 e2 g2 () g3 g4 g6 g7 λaQ m m1 m2 m3 m4 m5 m6 m7=>h aQ ⟨m4,m5,?_,?_⟩ ?_ ?_
 ·refine Array.Perm.trans (bI.mpr ?_) hG.pm;rw[m6];exact Uv (by rw[m1];exact m3)
 ·simp_all
 ·rw[m7,<- bS,Array.toList_eraseIdxIfInBounds,List.length_eraseIdx,Array.toList_setIfInBounds,dY,bS,aF hi];omega
 ·intro k hk;rw[m6,J8 (),aA ()]
theorem JS{c:Prop}[Decidable c]{n:Nat}(h:1<n):(if c then n-2-1 else n-2)+1<n:=by split<;>omega
theorem Go.near{a₀:Array Keyed}{st aQ:SortSt}{lo hi:Nat}(h:Go a₀ st lo)(hN:Nr st aQ lo hi):Go a₀ aQ lo :=
 ⟨hN.kd,hN.fl,hN.pm.trans h.pm,by rw[hN.pd];exact h.ch.congr λk _ hk=>by rw[fb,fb];exact hN.out k (.inl hk)⟩
theorem Qc{a₀:Array Keyed}{st:SortSt}{Q:Unit->SortSt->Prop}(h0:∀p∈a₀.toList,IK p)(hG:Go a₀ st 0)(h2:0<a₀.size)(h:∀aQ,(arrOf aQ).Perm a₀->failedOf aQ=none->(arrOf aQ).toList.Pairwise le->Q Unit.unit aQ):wpS (model prog w) A E s sortRuns' Q st:=by
 refine ao (lb ?_);have gp:∀aQ lo,Go a₀ aQ lo->(arrOf aQ).size=a₀.size:=λaQ lo h=>h.pm.size_eq;have e0:=gp st 0 hG;refine ao (wpS_mono (da (I:=λx (c:Option Unit × Nat) aQ=>c.1=none/\Go a₀ aQ c.2/\c.2 <= a₀.size/\x <= c.2)
  (Q:=λc aQ=>c.1=none/\Go a₀ aQ a₀.size) ?_ ?_ ⟨rfl,hG,cJ _,cJ _⟩) ?_)
 ·rintro x ⟨c1,lo⟩ er _ hx ⟨rfl,ny,yw,YK⟩;rw[e0];refine d0 (λjU=>ay ⟨rfl,?_⟩) (λjU=>?_)
  ·grind
  have z1:=gp er lo ny;have i1:∀p∈(arrOf er).toList,IK p:=λp hp=>h0 p ((bI.mp ny.pm).mem_iff.mp hp);refine ao (NJ ny.kd ny.fl i1 () (by grind) λm gI hN Km Kl hs=>?_);dsimp only at hN Kl hs ⊢;have z2:(arrOf gI).size=a₀.size:=hN.pm.size_eq.trans z1;have i2:∀p∈(arrOf gI).toList,IK p:=λp hp=>i1 p ((bI.mp hN.pm).mem_iff.mp hp);have fin:∀ji n,Go a₀ ji lo->0<n->lo+n<=a₀.size->(seg (arrOf ji).toList lo n).Pairwise le->(λc aQ=>c.1=none/\Go a₀ aQ c.2/\c.2<=a₀.size/\x+1<=c.2:Option Unit×Nat->SortSt->Prop) (none,lo+n) (setPending ji ((pendingOf ji).push (lo,n,0))):=by
   intro ji n hG h1 h2 h3;refine⟨rfl,⟨hG.kd,hG.fl,hG.pm,?_⟩,h2,by grind⟩;rw[cY];exact hG.ch.push h1 h3
  refine d0 (λhc=>?_) (λhc=>?_);refine ao (nK (cV ⟨rfl,?_⟩));refine ao (Ma hN.kd hN.fl i2 () () hs λji qj CU=>?_);have hc:m<minRun' a₀.size a₀.size 0:=hc;have nu:lo+min (a₀.size-lo) (minRun' a₀.size a₀.size 0)<=a₀.size:=by omega
  have hq:=CU.seg (by rw[qj.pm.size_eq,z2];exact nu);have yu:0<min (a₀.size-lo) (minRun' a₀.size a₀.size 0):=by omega
  have vG:=(ny.near hN).near qj;clear qj CU hN hs i2 z2;change Go a₀ ji lo at vG
  rotate_left
  have yu:0<m:=Km;have vG:=ny.near hN;have nu:lo+m<=a₀.size:=by omega
  have hq:=hs.seg ();clear hN hs i2 z2;generalize gI=ji at *
  all_goals
   refine ao (lb ?_);cases hb:(pendingOf ji).back? with
   |none=>exact ao (la (ay (fin ji _ vG yu nu hq)))
   |some q =>
    obtain⟨s1,n1,p1⟩:=q;refine ao (wpS_mono (da (I:=λ_ (c:Option Unit × Unit) aQ=>c=(none,Unit.unit)/\Go a₀ aQ lo/\∀ k,lo <= k->(arrOf aQ).toList[k]?=(arrOf ji).toList[k]?)
     (Q:=λc aQ=>c=(none,Unit.unit)/\Go a₀ aQ lo/\∀ k,lo <= k->(arrOf aQ).toList[k]?=(arrOf ji).toList[k]?) ?_ (λ_ _ z=>z) ⟨rfl,vG,λ_ _=>rfl⟩) ?_)
    ·rintro y c aQ _ _ ⟨rfl,jV,nV⟩;refine ao (lb ?_);by_cases hp:(pendingOf aQ).size>1
     ·rw[aF hp,bX (pendingOf aQ) ((pendingOf aQ).size-2) ()];exact d0 (λ_=>ay ⟨rfl,jV,nV⟩) λ_=>ao (HK h0 jV yw (show(pendingOf aQ).size-2+1<(pendingOf aQ).size by omega) λmY g1 g2 g3=>ay ⟨rfl,g1,λk hk=>(g3 k hk).trans (nV k hk)⟩)
     ·rw[aA hp];exact ay ⟨rfl,jV,nV⟩
    ·rintro c aQ ⟨rfl,jV,nV⟩;refine ao (la (ao (la (ay (fin (setPending aQ ((pendingOf aQ).modify ((pendingOf aQ).size-1) _)) _ ⟨jV.kd,jV.fl,jV.pm,?_⟩ yu nu ?_)))))
     ·show Ch _ ((pendingOf aQ).modify _ _).toList 0 lo;rw[Array.toList_modify];refine Ch.pow ?_ jV.ch;exact λx=>⟨rfl,rfl⟩
     ·show(seg (arrOf aQ).toList lo _).Pairwise le;rw[W0 λk h1 _=>nV k h1];exact hq
 ·grind
 ·rintro⟨c1,lo⟩ er ⟨rfl,ny⟩;rw[e0];refine ao (wpS_mono (da (I:=λx (c:Option Unit × Unit) aQ=>c=(none,Unit.unit)/\Go a₀ aQ a₀.size/\(pendingOf aQ).size <= max 1 (a₀.size - x))
   (Q:=λc aQ=>c=(none,Unit.unit)/\Go a₀ aQ a₀.size/\(pendingOf aQ).size <= 1) ?_ ?_ ⟨rfl,ny,?_⟩) ?_)
  ·rintro y c aQ _ hy ⟨rfl,jV,nV⟩;refine ao (lb ?_);refine d0 (λhp=>ay ⟨rfl,jV,hp⟩) λhp=>?_;have hp:1<(pendingOf aQ).size:=Nat.lt_of_not_le hp;refine ao (HK h0 jV (ai _) ?_ λmY g1 g2 g3=>ay ⟨rfl,g1,by omega⟩);exact JS hp
  ·simp
  ·have:=ny.ch.le
   grind
  ·rintro c aQ ⟨rfl,jV,nV⟩;refine ay (h aQ jV.pm jV.fl ?_);have hc:=jV.ch
   match hp:(pendingOf aQ).toList with
   |[]=>rw[hp] at hc;exact absurd (show 0=a₀.size from hc) ()
   |[(s1,n1,w1)] =>
    rw[hp] at hc;obtain⟨q1,q2,q3,q4⟩:=hc;have q4:0+n1=a₀.size:=q4;have e:seg (arrOf aQ).toList 0 n1=(arrOf aQ).toList:=by
     have:=jV.pm.size_eq;unfold seg;rw[List.drop_zero,dy (by simp;omega)]
    simp_all
   |_::_::_ =>
    have:(pendingOf aQ).toList.length<=1:=by simpa using nV
    rw[hp] at this;simp at this
theorem UJ{a:Addr}{vs:List Value}{ns:List Int}{n:Nat}{P:Fin->Shared->Prop}(ho:s.heap.get? a=some (seqObj "list" vs.toArray n))(hI:IntsAre vs ns)(hl:vs.length<=100000)(h:∀(out:Array Value) (ng:List Int),IntsAre out.toList ng->ng.Perm ns->ng.Pairwise (·<=·)->P (.done (.ret .none)) { s with heap:=sortedHeap s.heap a vs out }):wpAny (model prog w) A (Builtin.«list.sort» ⟨[.ref a],[]⟩) P E s:=by
 by_cases yQ:vs.length<64
 ·exact list_sort_tree ho hI yQ h
 rw[list_sort_plain];have ha:=aj ho;refine aa (listItems_at ho rfl (aa (listUpdate_at ho rfl ?_)));have vt:=get?_update_seq ho (λ_=>#[]);refine aa (seqEpoch_at vt rfl (aa (wpAny_newTuple (aa (IT (aY ?_))))));have CY:(((s.heap.update a (Obj.mapSeq λ_=>#[])).push (seqObj "tuple" vs.toArray 0)).push (seqObj "list" #[] 0)).get? a=some (seqObj "list" #[] (if((λ_=>#[]) vs.toArray:Array Value).size==vs.toArray.size then n else n+1)):=by
  rw[Heap.get?_push_ne _ _ _ (by rw[size_push',Heap.size_update];exact aC (Ys ha)),Heap.get?_push_ne _ _ _ (by rw[Heap.size_update];exact aC ha)];exact vt
 obtain⟨v1,v2,r,rfl⟩:∃v1 v2 r,vs=v1::v2::r:=by
  match vs,yQ with
  |[],h=>simp at h
  |[_],h=>simp at h
  |x::y::r,_=>exact⟨x,y,r,rfl⟩
 rw[keyKind_ints hI];refine aa (ah (aa (aT (Qc (a₀:=pairsOf (v1::v2::r)) (Q:=λ_ aQ=>(arrOf aQ).Perm (pairsOf (v1::v2::r))/\failedOf aQ=none/\(arrOf aQ).toList.Pairwise le) hI.intKeys ⟨rfl,rfl,lL _,rfl⟩ (by rw[pairsOf_size];simp) λaQ a1 a2 a3=>⟨a1,a2,a3⟩) ?_ λ_ _ e=>e)));rintro⟨⟨⟩,aQ⟩ s' ⟨rfl,hp,hf,hs⟩;refine aa (seqEpoch_at CY rfl (aa (listUpdate_at CY rfl ?_ (hsz2:=?_))))
 ·rw[hf];simp only[bne_self_eq_false,Bool.false_eq_true,if_false];obtain⟨ng,q1,q2,q3⟩:=sorted_out hI hp λi j iu hj=>by
   have e:=hp.size_eq;rw[K_eq (),K_eq ()];exact V5 hs () iu
  exact ah (h _ ng q1 q2 q3)
 ·rw[Array.size_map,hp.size_eq,pairsOf_size,fU];omega
end
end TS
namespace L2
open PySem PySem.Spec PyProof.Rows
variable{A:Around}{s:Shared}{elt iter tg:Expr}{ifs:List Expr}{scope:Scope}{pos:Pos}{X:Cx}{x:Str}{cl:List (Str×Addr)}{C:Addr}{N':List Str}{d5:List Nat}{fp:List Addr}{g:TG}{tc:TT}{te:TE}
section
variable{prog:Program}{w:World}{R:Result->Shared->Prop}
theorem TQ{target:Expr}{it acc:Value}{env:Env}(I:Nat->Shared->Prop)(turn:∀ n s,I n s->wpAny (model prog w) A (pyNext it) (λr bE=>match r with
   |none=>R (.ok .next) bE
   | some v=>wpAny (model prog w) A (letOwnedTupleGo target it v) (λ_ bE=>wpAny (model prog w) A (assign target env v) (λ_ eV =>
     wpAny (model prog w) A (forIn ifs true λc r=>if r=true then do let ok <- isTrue c env (eval c env);pure (ForInStep.yield ok) else pure (ForInStep.yield r)) (λok gB =>
      if ok=true then wpAny (model prog w) A (eval elt env) (λx jB =>
       wpAny (model prog w) A (call (.builtin "list.append") [acc,x]) (λ_ kP=>∃ m,m < n/\I m kP) (λ_ _=>False) jB) (notedBy (model prog w) A env λe s'=>R (.error e) s') gB
      else ∃ m,m < n/\I m gB) (λ_ _=>False) eV) (λ_ _=>False) bE) (λ_ _=>False) bE) (λ_ _=>False) s)(n:Nat)(h:I n s) :
  codeAny (model prog w) A (.compLoop (.ListComp elt [⟨target,iter,ifs,0⟩] scope pos) 0 it acc env) R s:=by
 refine codeAny_loop rfl I (λn s hI=>?_) n h;show wpAny _ A ((compTurn (.ListComp elt [⟨target,iter,ifs,0⟩] scope pos) 0 it acc env).onRaise (λx=>do noteFrame x env;theTreesLotGoes x)) _ _ s;refine wpAny_noted ?_;rw[compTurn_list];refine aa (eK (aa (aT (turn n s hI) (λr bE dX=>?_) λ_ _ h'=>h'.elim)));cases r with
 |none=>exact ah dX
 |some v =>
  refine aa (aT dX (λ_ bE dX=>?_) λ_ _ h'=>h'.elim);refine aa (aT dX (λ_ eV iM=>aa (aT iM (λok gB nj=>?_) λ_ _ h'=>h'.elim)) λ_ _ h'=>h'.elim);cases ok with
  |false=>exact wpAny_pure ⟨rfl,nj⟩
  |true =>
   exact aa (aa (aT nj (λx jB xX=>aa (aT xX (λ_ kP xW=>ah (ah ⟨rfl,xW⟩)) λ_ _ h'=>h'.elim)) λ_ _ h'=>h'))
end
def lB(X:Cx)(es:List Expr)(t:TT):Prop :=
 ∀(pins:List (Addr×Obj)) (s:Shared) (U:St) (H:Hp) (Q:Bool->Hp->Prop),Inv X pins U H s->t U H Q ->
  wpAny (model X.prog X.w) X.A (forIn es true λc r=>if r=true then do let ok <- isTrue c X.env (eval c X.env);pure (ForInStep.yield ok) else pure (ForInStep.yield r)) (TP X pins U Q) X.xe s
def RX:TT:=λ_ H Q=>Q true H
theorem PY:lB X [] RX:=λpins s U H Q I h=>ah ⟨H,I,h⟩
theorem PZ{c:Expr}{t:TT}(h:PT X c t):lB X [c] t:=by
 intro pins s U H Q I q;exact aa (aa (aT (h pins s U H Q I q) (λb s' hb=>ah (ah hb)) λ_ _ x=>x))
def E4(scope:Scope)(cl:List (Str×Addr))(C:Addr):List (Str×Addr):=cellsFrom (C+1) scope.names []++cl
theorem A4:∀(names:List (Str×NameKind)) (n:Nat) (acc:List (Str×Addr)),cellsFrom n names acc=cellsFrom n names []++acc
 |[],_,_=>rfl
 |(y,k)::r,n,acc=>by
  unfold cellsFrom;split
  ·rw[A4 r (n+1) ((y,n)::acc),A4 r (n+1) [(y,n)],bw]
   rfl
  ·exact A4 r n acc
theorem O3{x:Str}{c:Addr}:∀{names:List (Str×NameKind)} {n:Nat},(x,c)∈cellsFrom n names []->(x,NameKind.cell)∈names
 |[],_,h=>by simp[cellsFrom] at h
 |(y,k)::r,n,h=>by
  unfold cellsFrom at h;split at h
  ·rw[A4] at h;rcases aX.mp h with z|z
   ·exact bz _ (O3 z)
   grind
  ·exact bz _ (O3 h)
theorem F5{α:Type}:∀{a b:List (Str×α)},(a++b).lookup x=(a.lookup x).or (b.lookup x)
 |[],_=>rfl
 |(y,v)::r,b=>by
  grind
theorem Fj(h:scope.names.lookup x=some .cell\/∃c,cl.lookup x=some c):∃c,(E4 scope cl C).lookup x=some c:=by
 unfold E4;rw[F5];cases e:(cellsFrom (C+1) scope.names []).lookup x with
 |some c=>exact⟨c,rfl⟩
 |none =>
  rcases h with h|h
  ·have q:=dr scope.names (C+1) [] (.inl h);rw[e] at q;cases q
  ·exact h
theorem J0{env:Env}:∀{names:List (Str×NameKind)} {x:Str},names.lookup x=some .cell ->
  (names.map λ(n,k)=>if(k==NameKind.free&&env.scope.kind==.function&&env.kindOf n==some .cell) then(n,NameKind.cell) else(n,k)).lookup x=some .cell
 |[],_,h=>by simp at h
 |(n,k)::r,x,h=>by
  have ih:=@J0 env r x;show List.lookup x ((if(k==NameKind.free&&env.scope.kind==.function&&env.kindOf n==some .cell)=true then(n,NameKind.cell) else(n,k))::_)=_;cases hx:x==n with
  |true =>
   simp only[List.lookup_cons,hx] at h
   simp_all
  |false =>
   simp only[List.lookup_cons,hx] at h;by_cases hc:(k==NameKind.free&&env.scope.kind==.function&&env.kindOf n==some .cell)=true
   ·rw[aF hc];simp only[List.lookup_cons,hx];exact ih h
   ·rw[aA hc];simp only[List.lookup_cons,hx];exact ih h
theorem EB{h:Heap}(ck:CellsOk h (C+1) (cellsFrom (C+1) scope.names [])){c:Addr}(e:(E4 scope cl C).lookup x=some c):C<c\/cl.lookup x=some c:=by
 unfold E4 at e;rw[F5] at e;cases e2:(cellsFrom (C+1) scope.names []).lookup x with
 |some c' =>
  rw[e2] at e;cases e;exact .inl (ck.empty x c (aE e2)).2
 |none =>
  rw[e2] at e;exact .inr e
theorem Ul{M:Model}{E:Value->Shared->Prop}{globals:Addr}{qual:Str}{outer:Env}{Q:Env->Shared->Prop}(hQ:∀ dX:Heap,dX.Ns s.heap.objs.size (λ_=>none)->(∀ b o,s.heap.get? b=some o->dX.get? b=some o)->CellsOk dX (s.heap.objs.size + 1) (cellsFrom (s.heap.objs.size + 1) scope.names []) ->
   Q (newEnv scope s.heap.objs.size globals (E4 scope cl s.heap.objs.size) qual none .none (some outer) builtinsNs) { s with heap:=dX }) :
  wpAny M A (newFunctionEnv scope globals cl [] qual none .none (some outer)) Q E s:=by
 simp only[newFunctionEnv,Option.isSome_some,if_true];refine aa (wpAny_alloc ?_);refine aa (wpAny_layCells _ (λname kind cells=>by rfl) _ _ _ _ ?_);have ok:=cellsFrom_ok scope.names (s.heap.push { cls:=.type "dict",data:=.dict #[] }) (s.heap.objs.size+1) [] ⟨λ_ _ hm=>(nomatch hm),List.Pairwise.nil⟩ (by simp);rw[cH] at ok;rw[show({ s with heap:=s.heap.push { cls:=.type "dict",data:=.dict #[] } }:Shared).heap.objs.size=s.heap.objs.size+1 from cH ..];refine aa (ah (ah ?_));rw[A4];exact hQ _ ((Heap.Ns.new s.heap (.type "dict")).keeps (pushCells_keeps _ _)) (λb o e=>pushCells_keeps _ _ b o (ag _ e)) ok
def f7(X:Cx)(pins:List (Addr×Obj))(scope:Scope)(N':List Str)(cl:List (Str×Addr))(C:Addr)(s:Shared)(H:Hp)(fp:List Addr):Cx where
 prog:=X.prog
 w:=X.w
 K:=X.K
 mg:=X.mg
 base:=X.base
 A:=X.A
 N:=N'
 cF:=s
 iS:=H
 env:=compEnvC scope (E4 scope cl C) C X.env
 outer:=X.stack
 stack:=X.stack
 ex:=fp
 calm:=true
 fn:=λx=>decide (scope.names.lookup x=some .cell)
 pn:=X.pn++pins
 xe:=λ_ _=>False
structure dN(X:Cx)(scope:Scope)(N':List Str)(d5:List Nat)(cl:List (Str×Addr)):Prop where
 kind:scope.kind=.function
 cells:∀y∈scope.names,y.2=.cell->scope.names.lookup y.1=some .cell
 names:∀y∈scope.names,y.2=.local->scope.names.lookup y.1=some .local
 tT:closureFor scope X.env=pure cl
 cin:∀x c,cl.lookup x=some c->X.env.cells.lookup x=some c
 tU:∀x,scope.names.lookup x=some .free->∃c,cl.lookup x=some c
 nd:N'.Nodup
 Lv:∀(i j:Nat),d5[i]?=some j->∃x,N'[i]?=some x/\X.N[j]?=some x/\scope.names.lookup x=some .free/\(X.env.kindOf x=some .cell\/X.env.kindOf x=some .free)
 zp:d5.length<=N'.length
theorem A8{env:Env}:∀{names:List (Str×NameKind)} {x:Str},names.lookup x=some .free ->
  (names.map λ(n,k)=>if(k==NameKind.free&&env.scope.kind==.function&&env.kindOf n==some .cell) then(n,NameKind.cell) else(n,k)).lookup x=some .cell \/
  (names.map λ(n,k)=>if(k==NameKind.free&&env.scope.kind==.function&&env.kindOf n==some .cell) then(n,NameKind.cell) else(n,k)).lookup x=some .free
 |[],_,h=>by simp at h
 |(n,k)::r,x,h=>by
  have ih:=@A8 env r x;show List.lookup x ((if(k==NameKind.free&&env.scope.kind==.function&&env.kindOf n==some .cell)=true then(n,NameKind.cell) else(n,k))::_)=_\/List.lookup x ((if(k==NameKind.free&&env.scope.kind==.function&&env.kindOf n==some .cell)=true then(n,NameKind.cell) else(n,k))::_)=_;cases hx:x==n with
  |true =>
   simp only[List.lookup_cons,hx] at h;cases h;by_cases hc:(NameKind.free==NameKind.free&&env.scope.kind==.function&&env.kindOf n==some .cell)=true
   ·rw[aF hc];simp[List.lookup_cons,hx]
   ·rw[aA hc];simp[List.lookup_cons,hx]
  |false =>
   simp only[List.lookup_cons,hx] at h;by_cases hc:(k==NameKind.free&&env.scope.kind==.function&&env.kindOf n==some .cell)=true
   ·rw[aF hc];simp only[List.lookup_cons,hx];exact ih h
   ·rw[aA hc];simp only[List.lookup_cons,hx];exact ih h
theorem J1{env:Env}:∀{names:List (Str×NameKind)} {x:Str},((names.map λ(n,k)=>if(k==NameKind.free&&env.scope.kind==.function&&env.kindOf n==some .cell) then(n,NameKind.cell) else(n,k)).lookup x=some .cell \/
  (names.map λ(n,k)=>if (k == NameKind.free && env.scope.kind == .function && env.kindOf n == some .cell) then (n,NameKind.cell) else (n,k)).lookup x=some .free)->names.lookup x=some .free \/ names.lookup x=some .cell
 |[],_,h=>by simp at h
 |(n,k)::r,x,h=>by
  have ih:=@J1 env r x;rw[aG] at h;cases hx:x==n with
  |true =>
   simp only[List.lookup_cons,hx];by_cases hc:(k==NameKind.free&&env.scope.kind==.function&&env.kindOf n==some .cell)=true
   ·refine .inl ?_;simp only[Bool.and_eq_true,beq_iff_eq] at hc;rw[hc.1.1]
   ·simp only[if_neg hc,List.lookup_cons,hx] at h;rcases h with h|h
    ·exact .inr h
    ·exact .inl h
  |false =>
   simp only[List.lookup_cons,hx];by_cases hc:(k==NameKind.free&&env.scope.kind==.function&&env.kindOf n==some .cell)=true
   ·simp only[if_pos hc,List.lookup_cons,hx] at h;exact ih h
   ·simp only[if_neg hc,List.lookup_cons,hx] at h;exact ih h
def B7(U:St)(d5:List Nat)(n:Nat):St:=d5.map (λj=>(U[j]?).join)++List.replicate (n-d5.length) none
section
variable{pins:List (Addr×Obj)}{U:St}{H:Hp}
theorem Inv.Wo{h1:Heap}{tk:Nat}(I:Inv X pins U H s)(S:dN X scope N' d5 cl)(hc:X.calm=true)(hf:∀b∈fp,C6 X pins H b)(ho:∀b∈fp,∃o,s.heap.get? b=some o)(hC:s.heap.objs.size<=C)(hn:∃m,h1.Ns C m)(k:∀b o,s.heap.get? b=some o->h1.get? b=some o)(ck:CellsOk h1 (C+1) (cellsFrom (C+1) scope.names [])) :
  Inv (f7 X pins scope N' cl C s H fp) [] (B7 U d5 N'.length) H { s with heap:=h1,toks:=tk }:=by
 obtain⟨m,hm⟩:=hn;have Kt:=S.kind;have Cq:∀b o,s.heap.get? b=some o->b≠C:=λb o e z=>absurd (aj e) (by simp_all);have two:∀{x:Str} {c:Addr},(E4 scope cl C).lookup x=some c->(C<c/\h1.IsCell c none/\(x,c)∈cellsFrom (C+1) scope.names [])\/(cl.lookup x=some c/\(cellsFrom (C+1) scope.names []).lookup x=none):=λ{x c} h=>by
  unfold E4 at h;rw[F5] at h;cases e:(cellsFrom (C+1) scope.names []).lookup x with
  |some c' =>
   rw[e] at h;cases h;have hm:=aE e;exact .inl ⟨(ck.empty x c hm).2,(ck.empty x c hm).1,hm⟩
  |none =>
   rw[e] at h;exact .inr ⟨h,rfl⟩
 have sf:∀{x:Str} {c:Addr},cl.lookup x=some c->c<s.heap.objs.size:=λ{x c} h=>by
  obtain⟨v,o,e,_⟩:=I.cell x c (S.cin x c h);exact aj e
 have frees:∀{x:Str},scope.names.lookup x=some .free->(E4 scope cl C).lookup x=cl.lookup x:=λ{x} h=>by
  unfold E4;rw[F5];cases e:(cellsFrom (C+1) scope.names []).lookup x with
  |some c' =>
   have:=S.cells _ (O3 (aE e)) rfl
   simp_all
  |none=>rfl
 refine⟨⟨I.mod,Kt,I.ok.glob,I.ok.blt,hC,?_,?_,?_,λ_=>I.ok.hd hc,I.ok.frames,.inl rfl,?_,I.bs,?_,?_,?_,I.stack,I.Z3⟩,rfl,I.bare,Un.kept k,⟨m,hm,?_⟩,?_,?_,?_,?_,I.bB.kept k,?_,λcM z=>absurd (show(none:Option (List (Option V)))=some cM from z) (by simp)⟩
 ·intro x y c h1 h2;rcases two h1 with⟨l1,_,q1⟩|⟨q1,_⟩<;>rcases two h2 with⟨l2,_,q2⟩|⟨q2,_⟩
  ·exact PySem.name_of_addr ck.apart q1 q2
  ·exact absurd (du l1 (au (sf q2) hC)) (bK _)
  ·exact absurd (du l2 (au (sf q1) hC)) (bK _)
  ·exact I.ok.inj x y c (S.cin x c q1) (S.cin y c q2)
 ·intro x hx;rcases J1 hx with z|z
  ·obtain⟨c,hc⟩:=S.tU x z;exact⟨c,(frees z).trans hc⟩
  ·have q:=dr scope.names (C+1) [] (.inl z);obtain⟨c,hc⟩:=cB.mp q;refine⟨c,?_⟩;show(E4 scope cl C).lookup x=some c;unfold E4;rw[F5,hc]
   rfl
 ·intro x c hf h;have z:=aN hf;have q:=dr scope.names (C+1) [] (.inl z);rcases two h with⟨l,_⟩|⟨_,e⟩
  ·exact dw (eg hC l)
  simp_all
 ·intro b hb;obtain⟨f0,f1,f2,f3,f4,f5⟩:=hf b hb;obtain⟨o,e⟩:=ho b hb;refine⟨Cq b o e,λx c h=>?_⟩;rcases two h with⟨l,_⟩|⟨q,_⟩
  ·intro z;subst z;exact absurd (du l (au (aj e) hC)) (bK _)
  ·exact f4 x c (S.cin x c q)
 ·exact aD I.ok.mh I.sz
 ·intro b o e hb;obtain⟨f0,f1,f2,f3,f4,f5⟩:=hf b hb;rcases f3 with f3|f3
  ·exact I.ok.jE b o e f3
  ·exact absurd (aj (I.ok.bs b o e).1) (mO.mpr f3)
 ·intro b hb z;obtain⟨f0,f1,f2,f3,f4,f5⟩:=hf b hb;rcases aB.mp (I.N5 b z) with z|z
  ·exact f1 z
  ·exact f2 z
 ·intro i x v yZ h2 h3;have hi:i<d5.length:=by
   unfold B7 at h2;by_cases hi:i<d5.length
   ·exact hi
   ·rw[dH (by simpa using hi),cg] at h2
    simp_all
  obtain⟨j,hj⟩:∃j,d5[i]?=some j:=⟨_,az hi⟩
  have hs:U[j]?=some (some v):=by
   unfold B7 at h2;rw[aK (by simpa using hi),aP,hj] at h2;simp only[Option.map_some] at h2;cases e:U[j]? with
   |none=>rw[e] at h2;cases h2
   |some a=>rw[e] at h2;exact cO some (aq h2)
  obtain⟨y,JZ,JY,yb,JX⟩:=S.Lv i j hj;have ey:y=x:=by
   have tH:N'[i]?=some x:=yZ;rw[JZ] at tH;exact aq tH
  subst ey;obtain⟨m0,YS,hl⟩:=I.loc;obtain ⟨u,ru,hu⟩:=hl j y v JY hs (by
   rcases JX with z|z
   ·exact .inr (.inl z)
   ·exact .inr (.inr z))
  refine⟨u,ru,.inr ⟨A8 yb,?_⟩⟩;rcases hu with⟨z,_⟩|⟨_,c,KH,nX⟩
  ·simp_all
  ·obtain⟨c',pv⟩:=S.tU y yb;have e:=S.cin y c' pv;rw[KH] at e;cases e;obtain⟨o,e1,e2⟩:=nX;exact⟨c,(frees yb).trans pv,o,k _ _ e1,e2⟩
 ·intro x c h;rcases two h with⟨_,q,_⟩|⟨q,_⟩
  ·exact⟨none,q⟩
  ·obtain⟨v,o,e1,e2⟩:=I.cell x c (S.cin x c q);exact⟨v,o,k _ _ e1,e2⟩
 ·exact I.bB.fresh hC
 ·intro x c h;rcases two h with⟨l,_⟩|⟨q,_⟩
  ·exact I.bB.fresh (dw (eg hC l))
  ·exact I.dF x c (S.cin x c q)
 ·intro p hp;have lz:p∈X.pn++pins:=by simpa[f7] using hp
  obtain⟨p1,p2,p3,p4,p5⟩:=I.pin p lz;refine⟨k _ _ p1,p2,Cq _ _ p1,λz=>?_,p5⟩;rcases aB.mp (I.N5 _ z) with z|z
  ·exact p3 z
  ·exact p4 z
 ·unfold B7;show _=N'.length;rw[aS,av,iJ];have:=S.zp;omega
theorem Inv.Xs{fy:List (Addr×Obj)}{cx:St}{H':Hp}{s':Shared}(I:Inv X pins U H s)(hf:∀b∈fp,C6 X pins H b)(J:Inv (f7 X pins scope N' cl C s H fp) fy cx H' s'):Inv X pins U H' s' :=
 I.AW (ch:=fp) J.os J.base J.bB J.bare λb hb=>by
  obtain⟨f0,f1,f2,f3,f4,f5⟩:=hf b hb;exact⟨f3,f1,f4,f5⟩
theorem Inv.LO{D:Addr}{ys:List V}{bf:List Value}{n:Nat}(I:Inv X pins U H s)(f:C6 X pins H D)(hs:X.cF.heap.objs.size<=D)(hv:Vals ys bf)(hz:ys.length<=sizeLine)(ho:s.heap.get? D=some { cls:=.type "list",data:=.seq bf.toArray n }):Inv X pins U (upd H D (.lst ys)) s:=by
 obtain⟨f0,f1,f2,f3,f4,f5⟩:=f;have gM:∀b o,X.cF.heap.get? b=some o->b≠D:=λb o e z=>absurd (aj e) (by rw[z];exact mO.mpr hs);have tup:∀b u,H b=some u->upd H D (.lst ys) b=some u:=λb u e=>by rw[c7 (i7 e f0)];exact e
 refine⟨I.ok,I.os,I.bare,⟨?_,?_,?_,I.base.there,?_,?_,?_⟩,I.loc,I.cell,?_,?_,?_,?_,I.len,I.sg⟩
 ·exact λb o e n1 n2 n3=>I.base.keep b o e n1 n2 n3
 ·exact λb o e n1 n2 n3=>I.base.slot b o e n1 n2 n3
 ·exact λb o e n1 n2=>by rw[c7 (gM b o e)];exact I.base.free b o e n1 n2
 ·exact λb xs e=>tup _ _ (I.base.gz b xs e)
 ·exact λb o u e=>tup _ _ (I.base.gi b o u e)
 ·exact λb ps e=>by
   obtain⟨more,q⟩:=I.base.gA b ps e;exact⟨more,tup _ _ q⟩
 ·rw[c7 f1.symm];exact I.free
 ·exact λx c e=>by rw[c7 (f4 x c e)];exact I.dF x c e
 ·intro p hp;obtain⟨p1,p2,p3⟩:=I.pin p hp;exact⟨p1,by rw[c7 (f5 p hp)];exact p2,p3⟩
 ·intro a o e;by_cases ha:a=D
  ·subst ha;rw[i3] at e;cases e;exact⟨hz,bf,n,hv,ho⟩
  ·rw[c7 ha] at e;have q:=I.bB a o e;refine q.v8 (λb u _ h=>h) (λb hb=>tup _ _ hb) (λb xs hb=>tup _ _ hb)
end
def Bj(wi:TI)(d5:List Nat)(n:Nat)(g:TG)(tc:TT)(te:TE):TE:=λU H Q=>wi U H λJ H1=>∃W:Nat->Nat->List V->St->Hp->Prop,(∃m,W 0 m [] (B7 U d5 n) H1)/\∀i m ys U H,W i m ys U H ->
 (J.stop i H/\∀p,H p=none->Q (.ref p) (upd H p (.lst ys))) \/
 (J.go i H/\ys.length < sizeLine/\∀ x H',J.pS i H x H'->g x U H' λdz H2=>tc dz H2 λb H3 =>
  if b=true then te dz H3 λy H4=>∃ m',m' < m/\W (i + 1) m' (ys ++ [y]) dz H4 else ∃ m',m' < m/\W (i + 1) m' ys dz H3)
noncomputable abbrev Ro(bf:List Value)(n:Nat):Obj:={ cls:=.type "list",data:=.seq bf.toArray n }
section
variable{pins:List (Addr×Obj)}{U:St}{H:Hp}
structure IP(X:Cx)(n0:Nat){α:Type}(K:Addr->α->Heap->Obj->Prop)(fin:Addr->α->HO):Prop where
 nc:∀{a y h o},K a y h o->∀v,o.data≠.cell v
 get:∀{a y h o},K a y h o->h.get? a=some o
 v8:∀{a y h h' o},K a y h o->h'.get? a=some o->K a y h' o
 done:∀{pins U H s a y o},n0<=a->Inv X pins U H s->C6 X pins H a->X.cF.heap.objs.size<=a->K a y s.heap o->Inv X pins U (upd H a (fin a y)) s
theorem UY{α:Type}{K:Addr->α->Heap->Obj->Prop}{fin:Addr->α->HO}{y0:α}{o0:Obj}{Bd:α->Prop}{tb:α->St->Hp->(α->Hp->Prop)->Prop}{body:(Shared->Prop)->Shared->Prop}{LP:Shared->Prop}{it:Addr}{tn:Nat->Heap->Prop}{J:It}{R:Result->Shared->Prop}{W:Nat->Nat->α->St->Hp->Prop}{m0:Nat}{Q:VK}{dX:Heap}{env:Env}(G:IP X s.heap.objs.size K fin)(S:dN X scope N' d5 cl)(hc:X.calm=true)(hg:PG (f7 X pins scope N' cl C s H fp) tg g)(ht:lB (f7 X pins scope N' cl C s H fp) ifs tc)(I:Inv X pins U H s)(T:Turn X.prog X.w X.K tg J fp it tn)(st:tn 0 s.heap)(hf:∀b∈fp,C6 X pins H b)(w0:W 0 m0 y0 (B7 U d5 N'.length) H)(turn:∀ i m y U H,W i m y U H->(J.stop i H/\∀ p,H p=none->Q (.ref p) (upd H p (fin p y))) \/
   (J.go i H/\Bd y/\∀ x H',J.pS i H x H'->g x U H' λdz H2=>tc dz H2 λb H3 =>
    if b=true then tb y dz H3 λy' H4=>∃ m',m' < m/\W (i + 1) m' y' dz H4 else ∃ m',m' < m/\W (i + 1) m' y dz H3))(yN:∀s' H' m,Inv X pins U H' s'->Q (.ref s.heap.objs.size) H'->s'.heap.Ns C m->H' C=none->s.heap.objs.size<=C->R (.ok .next) s')(vw:∃m,dX.Ns C m)(CT:∀b o,(s.heap.push o0).get? b=some o->dX.get? b=some o)(tB:CellsOk dX (C+1) (cellsFrom (C+1) scope.names []))(eC:s.heap.objs.size+1=C)(k0:K s.heap.objs.size y0 dX o0)(ev:(f7 X pins scope N' cl C s H fp).env=env)(yK:∀ y o fy cx H' s' (P:α->Hp->Prop) (R':Shared->Prop),Bd y->K s.heap.objs.size y s'.heap o->(∀ {uP H8 s8},Inv (f7 X pins scope N' cl C s H fp) fy uP H8 s8->s8.heap.get? s.heap.objs.size=some o)->Inv (f7 X pins scope N' cl C s H fp) fy cx H' s'->tb y cx H' P ->
   (∀ s8 H8 y' h' t' o',Inv (f7 X pins scope N' cl C s H fp) fy cx H8 s8->P y' H8->(∀ b u,b ≠ s.heap.objs.size->s8.heap.get? b=some u->h'.get? b=some u)->K s.heap.objs.size y' h' o'->R' { s8 with heap:=h',toks:=t' })->body R' s')(lp:∀ (I:Nat->Shared->Prop),(∀ n s,I n s->wpAny (model X.prog X.w) X.A (pyNext (.ref it)) (λr bE=>match r with
   |none=>R (.ok .next) bE
   | some v=>wpAny (model X.prog X.w) X.A (letOwnedTupleGo tg (.ref it) v) (λ_ bE=>wpAny (model X.prog X.w) X.A (assign tg env v) (λ_ eV =>
     wpAny (model X.prog X.w) X.A (forIn ifs true λc r=>if r=true then do let ok <- isTrue c env (eval c env);pure (ForInStep.yield ok) else pure (ForInStep.yield r)) (λok gB =>
      if ok=true then body (λkP=>∃ m,m < n/\I m kP) gB else ∃ m,m < n/\I m gB) (λ_ _=>False) eV) (λ_ _=>False) bE) (λ_ _=>False) bE) (λ_ _=>False) s)->∀ n,I n { s with heap:=dX }->LP { s with heap:=dX }) :
  tn 0 dX/\LP { s with heap:=dX }:=by
 subst ev;generalize KS:s.heap.push o0=H2 at CT;generalize eD:s.heap.objs.size=D at *;have Dv:D≠C:=by omega
 have lt:∀b o,s.heap.get? b=some o->b<D:=λb o e=>by rw[<- eD];exact aj e
 have vg:D<=C:=by omega
 have pW:∀b o,s.heap.get? b=some o->b≠C:=λb o e=>aC (au (lt b o e) vg);have sA:∀b o,s.heap.get? b=some o->b≠D:=λb o e=>aC (lt b o e);have old:∀b o,s.heap.get? b=some o->dX.get? b=some o:=λb o e=>CT b o (KS▸ag _ e);have kq:∀b∈fp,∃o,s.heap.get? b=some o:=λb hb=>by
  obtain⟨o,e,_⟩:=T.obj _ _ st b hb;exact⟨o,e⟩
 have Du:D∉fp:=λhm=>by
  obtain⟨o,e⟩:=kq D hm;exact sA D o e rfl
 have X1:Inv (f7 X pins scope N' cl C s H fp) [] (B7 U d5 N'.length) H { s with heap:=dX } :=
  I.Wo S hc hf kq (by rw[eD];omega) vw old tB
 have er:=T.keep _ _ _ st λb _ o e=>old b o e;have Ll:∀{H':Hp},(∀b∈fp,H' b=none)->∀b∈fp,C6 (f7 X pins scope N' cl C s H fp) [] H' b:=λhn b hb=>by
  obtain⟨f0,f1,f2,f3,f4,f5⟩:=hf b hb;obtain⟨o,e⟩:=kq b hb;refine⟨hn b hb,?_,?_,.inl hb,λx c q=>(EB tB q).elim (λl z=>absurd (du (z▸l) (au (lt b o e) vg)) (bK _)) λq=>f4 x c (S.cin x c q),λp hp=>?_⟩
  ·exact pW b o e
  ·exact λz=>by
    rcases aB.mp (I.N5 b z) with z|z
    ·exact f1 z
    ·exact f2 z
  ·have lz:p∈X.pn++pins:=by simpa[f7] using hp
   exact f5 p lz
 have fD:∀{H':Hp},H' D=none->C6 (f7 X pins scope N' cl C s H fp) [] H' D:=λhn=>by
  refine⟨hn,Dv,λz=>?_,.inr (by show s.heap.objs.size<=D;omega),λx c q=>?_,λp hp=>?_⟩
  ·exact absurd (I.BK (a:=D) ()) λyq=>by
    rcases aB.mp (I.N5 D z) with z|z
    ·exact absurd I.lt (by rw[<- z,eD];exact bK _)
    ·exact yq z
  ·rcases EB tB q with l|q
   ·exact λz=>absurd (au (z▸l) vg) (bK _)
   ·obtain⟨v,o,e,_⟩:=I.cell x c (S.cin x c q);exact sA c o e
  ·have lz:p∈X.pn++pins:=by simpa[f7] using hp
   exact sA _ _ (I.pin p lz).1
 refine⟨er,lp (λn s'=>∃(i:Nat) (y:α) (cx:St) (H':Hp) (o:Obj),Inv (f7 X pins scope N' cl C s H fp) [] cx H' s'/\tn i s'.heap/\(∀b∈fp,H' b=none)/\H' D=none/\K D y s'.heap o/\W i n y cx H') ?_ m0 ⟨0,y0,_,H,o0,X1,er,λb hb=>(hf b hb).1,I.bB.fresh (),k0,w0⟩⟩;rintro n s3 ⟨i,y,kM,H3,o,I3,ji,tK,d3,k3,w3⟩;have IM:Inv (f7 X pins scope N' cl C s H fp) [(D,o)] kM H3 s3:=I3.Q5 λp hp=>by
  have z:p=(D,o):=by simpa using hp
  subst z;obtain⟨f0,f1,f2,_⟩:=fD d3;exact⟨G.get k3,f0,f1,f2,G.nc k3⟩
 have qq:∀{H':Hp},(∀b∈fp,H' b=none)->∀b∈fp,C6 (f7 X pins scope N' cl C s H fp) [(D,o)] H' b:=λ{H'} hn b hb=>by
  obtain⟨f0,f1,f2,f3,f4,f5⟩:=Ll hn b hb;refine⟨f0,f1,f2,f3,f4,λp hp=>?_⟩;have lz:p∈(f7 X pins scope N' cl C s H fp).pn\/p=(D,o):=by simpa using hp
  rcases lz with z|z
  ·exact f5 p (bq _ z)
  ·subst z;exact λz=>Du (by rw[show D=b from z];exact hb)
 rcases turn i n y kM H3 w3 with⟨stop,q⟩|⟨go,hz,step⟩
 ·refine cL (T.done (f7 X pins scope N' cl C s H fp) rfl rfl rfl rfl i _ s3 _ H3 _ IM (qq tK) ji stop) λr s4 ⟨hr,I4⟩=>?_;subst hr;have J4:=I.Xs hf I4;have Lm:C6 X pins H3 D:=by
   refine⟨d3,bY (by rw[<- eD];exact I.lt),I.BK (),.inr (by have:=I.sz;omega),λx c q=>?_,λp hp=>?_⟩
   ·obtain⟨v,o,e,_⟩:=I.cell x c q;exact sA c o e
   ·exact sA _ _ (I.pin p hp).1
  obtain⟨mC,Kk,_⟩:=I4.loc;exact yN s4 _ mC (G.done (ai _) J4 Lm (by have:=I.sz;omega) (G.v8 k3 (I4.pin (D,o) (by simp)).1)) (q D d3) Kk (by rw[c7 Dv.symm];exact I4.free) vg
 ·refine cL (T.item (f7 X pins scope N' cl C s H fp) rfl rfl rfl rfl i _ s3 _ H3 _ IM (qq tK) ji go) λr s4 ⟨u,hr,h4⟩=>?_;subst hr;refine cL h4 λ_ s5 br=>?_;obtain⟨x,H5,I5,r5,y5,mY,ze⟩:=br;have BS:=I5.pinned (qq ze) (T.obj _ _ mY);refine cL (hg _ s5 _ H5 x u _ BS r5 (step x H5 y5)) λ_ s6 br=>?_;obtain⟨ow,H6,I6,q6⟩:=br;refine cL (ht _ s6 ow H6 _ I6 q6) λok s7 ⟨H7,I7,q7⟩=>?_;have back:∀{uP:St} {H8:Hp} {s8:Shared},Inv (f7 X pins scope N' cl C s H fp) ([(D,o)]++W5 fp s5.heap) uP H8 s8->(∀b∈fp,H8 b=none)/\tn (i+1) s8.heap/\H8 D=none/\s8.heap.get? D=some o :=
   λ{uP H8 s8} I8=>by
    have pf:∀b∈fp,∀o,s5.heap.get? b=some o->s8.heap.get? b=some o/\H8 b=none:=λb hb o e=>by
     have:=I8.pin (b,o) (aM _ (aM _ (T1 hb e)));exact⟨this.1,this.2.1⟩
    have pd:=I8.pin (D,o) (by simp);refine⟨λb hb=>?_,T.keep _ _ _ mY λb hb o e=>(pf b hb o e).1,pd.2.1,pd.1⟩;obtain⟨o,e,_⟩:=T.obj _ _ mY b hb;exact(pf b hb o e).2
  cases ok with
  |false =>
   obtain⟨m',hm,w7⟩:=q7;obtain⟨b1,b2,b3,b4⟩:=back I7;exact⟨m',hm,i+1,y,ow,H7,o,I7.Q5 λp hp=>absurd hp (by simp),b2,b1,b3,G.v8 k3 b4,w7⟩
  |true =>
   refine yK y o _ ow H7 s7 _ _ hz (G.v8 k3 (back I7).2.2.2) (λI8=>(back I8).2.2.2) I7 q7 λs8 H8 y' h' t' o' I8 ⟨m',hm,w8⟩ kp k8=>?_;obtain⟨b1,b2,b3,b4⟩:=back I8;have Yk:Inv (f7 X pins scope N' cl C s H fp) [] ow H8 s8:=I8.Q5 λp hp=>absurd hp (by simp);obtain⟨f0,f1,f2,f3,f4,f5⟩:=fD (H':=H8) b3;exact⟨m',hm,i+1,y',ow,H8,o',Yk.turned (t':=t') (λb o hb e=>kp b o hb e) f0 f1 f3 f4 f5,T.keep _ _ _ b2 λb hb o e=>kp b o (λz=>Du (by rw[<- z];exact hb)) e,b1,b3,k8,w8⟩
def KL(a:Addr)(ys:List V)(h:Heap)(o:Obj):Prop:=∃bf n,Vals ys bf/\ys.length<=sizeLine/\o=Ro bf n/\h.get? a=some o
theorem Xz{n0:Nat}:IP X n0 KL λ_ ys=>.lst ys where
 nc:=λ⟨_,_,_,_,e,_⟩ v z=>by subst e;cases z
 get:=λ⟨_,_,_,_,_,e⟩=>e
 v8:=λ⟨bf,n,h1,h2,h3,_⟩ e=>⟨bf,n,h1,h2,h3,e⟩
 done:=λ_ I f hs ⟨bf,n,h1,h2,h3,e⟩=>I.LO f hs h1 h2 (h3▸e)
theorem FJ{it:Addr}{tn:Nat->Heap->Prop}{J:It}{xx:Addr->Shared->Hp->Value->Shared->Prop}{RR:Value->Addr->Result->Shared->Prop}{E:Value->Shared->Prop}{W:Nat->Nat->List V->St->Hp->Prop}{m0:Nat}{Q:VK}(S:dN X scope N' d5 cl)(hc:X.calm=true)(hg:∀C s H,PG (f7 X pins scope N' cl C s H fp) tg g)(ht:∀C s H,lB (f7 X pins scope N' cl C s H fp) ifs tc)(he:∀C s H,PE ((f7 X pins scope N' cl C s H fp).S2 (xx C s H)) elt te)(I:Inv X pins U H s)(T:Turn X.prog X.w X.K tg J fp it tn)(st:tn 0 s.heap)(hf:∀b∈fp,C6 X pins H b)(w0:W 0 m0 [] (B7 U d5 N'.length) H)(turn:∀ i m ys U H,W i m ys U H->(J.stop i H/\∀ p,H p=none->Q (.ref p) (upd H p (.lst ys))) \/
   (J.go i H/\ys.length < sizeLine/\∀ x H',J.pS i H x H'->g x U H' λdz H2=>tc dz H2 λb H3 =>
    if b=true then te dz H3 λy H4=>∃ m',m' < m/\W (i + 1) m' (ys ++ [y]) dz H4 else ∃ m',m' < m/\W (i + 1) m' ys dz H3))(yN:∀D C s' H' m,Inv X pins U H' s'->Q (.ref D) H'->s'.heap.Ns C m->H' C=none->s.heap.objs.size<=C->RR (.ref D) C (.ok .next) s')(KR:∀D C e s',s.heap.objs.size<=C->xx C s H e s'->notedBy (model X.prog X.w) X.A (compEnvC scope (E4 scope cl C) C X.env) (λe s'=>RR (.ref D) C (.error e) s') e s') :
  wpAny (model X.prog X.w) X.A (newList []) (λacc gB=>wpAny (model X.prog X.w) X.A (newFunctionEnv scope X.env.globals cl [] X.env.qual none .none (some X.env)) (λpD jB =>
   pD.frame=X.env.frame/\codeAny (model X.prog X.w) X.A (.compStart (.ListComp elt [⟨tg,iter,ifs,0⟩] scope pos) 0 (.ref it) acc { pD with scope:=relabel scope X.env }) (RR acc pD.locals) jB) E gB) E s:=by
 refine cw (Ul λdX oW lV tB=>?_);have eC:(s.heap.push { cls:=.type "list",dict:=none,data:=.seq ([]:List Value).toArray }).objs.size=s.heap.objs.size+1:=cH ..
 replace eC:=eC.symm
 generalize (s.heap.push { cls:=.type "list",dict:=none,data:=.seq ([]:List Value).toArray }).objs.size=C at *;refine (λL=>⟨rfl,codeAny_compStart_list L.2 (T.self _ 0 _ _ _ L.1 L.2)⟩) (UY (tb:=λys U H P=>te U H λy H'=>P (ys ++ [y]) H')
  (body:=λP gB=>wpAny (model X.prog X.w) X.A (eval elt (compEnvC scope (E4 scope cl C) C X.env)) (λx jB=>wpAny (model X.prog X.w) X.A (call (.builtin "list.append") [.ref s.heap.objs.size,x]) (λ_ kP=>P kP) (λ_ _=>False) jB) (notedBy (model X.prog X.w) X.A (compEnvC scope (E4 scope cl C) C X.env) λe s'=>RR (.ref s.heap.objs.size) C (.error e) s') gB)
  Xz S hc (hg C s H) (ht C s H) I T st hf w0 turn (λs' H' m=>yN _ C s' H' m) ⟨_,oW⟩ lV tB eC ⟨[],0,.nil,cJ _,rfl,lV _ _ (ak _ rfl)⟩ rfl (λys o fy cx H' s' P R' hz k hb I' q hR=>?_) (λI turn n h=>TQ I turn n h))
 ·refine aT (he C s H _ s' cx H' _ (I'.S2 _) q) (λxv s8 br=>?_) λe s' hx=>KR _ C e s' () hx;obtain⟨y,H8,I8,r8,q8⟩:=br;have I8:=I8.zU;obtain⟨bf,nn,v3,z3,rfl,_⟩:=k;have b4:=hb I8;refine eU F.slot_list_append ⟨_,b4,rfl⟩ F.entry_list_append (F.args_list_append_2 _ _) (Yn _ bf.toArray nn xv (by rw[aJ];have:=v3.length;omega)) ⟨b4,?_⟩;have q0:=Zl b4 (·.push xv);rw[show bf.toArray.push xv=(bf++[xv]).toArray by simp] at q0;exact hR s8 H8 _ _ s8.toks _ I8 q8 (λb' u hb hu=>(bU s8.heap (Obj.mapSeq (·.push xv)) (dg hb)).trans hu) ⟨_,_,v3.append (.cons r8 .nil),by rw[aS,iH];omega,rfl,q0⟩
theorem Inv.Ik{h':Heap}{s2:Shared}{H2:Hp}(I:Inv X pins U H s)(hC:s2.heap.objs.size<=C)(I2:Inv X pins U H2 s2)(hn:H C=none)(sb:Heap.SameBut C s.heap h'):Inv X pins U H { s with heap:=h' }:=by
 have f:=I2.Y0 (H':=H) hC hn;obtain⟨f0,f1,f2,f3,f4,f5⟩:=f;exact I.turned (t':=s.toks) (λb o hb e=>sb.extBut b o hb e) f0 f1 f3 f4 f5
theorem FL{M:Model}{E:Value->Shared->Prop}{a:Sem Value}{b:Sem Env}{P:Env->Prop}{Q:Value->Env->Shared->Prop}(h:wpAny M A a (λx s1=>wpAny M A b (λy s2=>P y/\Q x y s2) E s1) E s):wpAny M A a (λx s1=>wpAny M A b (λy s2=>Q x y s2) E s1) E s :=
 aT h (λ_ _ h=>aT h (λ_ _ h=>h.2) λ_ _ z=>z) λ_ _ z=>z
theorem Hz{wi:TI}(S:dN X scope N' d5 cl)(hc:X.calm=true)(hi:PI X tg iter wi)(hg:∀pins C s H fp,PG (f7 X pins scope N' cl C s H fp) tg g)(ht:∀pins C s H fp,lB (f7 X pins scope N' cl C s H fp) ifs tc)(he:∀pins C s H fp,PE (f7 X pins scope N' cl C s H fp) elt te)(hs:∀x,foldedSetIterable iter X.env x=pure x):PE X (.ListComp elt [⟨tg,iter,ifs,0⟩] scope pos) (Bj wi d5 N'.length g tc te):=by
 intro pins s U H Q I h;refine IU rfl hs S.tT S.kind S.names (cL (hi pins s U H _ I h) λxv bE dX=>cL dX λvi eV iM=>?_);obtain⟨it,fp,tn,J,H2,e,I2,T,gI,f2,W,⟨m0,w0⟩,turn⟩:=iM;subst e;refine FL (FJ S hc (λC s H=>hg pins C s H fp) (λC s H=>ht pins C s H fp) (λC s H=>he pins C s H fp) I2 T gI f2 w0 turn ?_ λ_ _ _ _ _ z=>z.elim);intro D C s' H' m I' q hn hC gp;exact⟨m,hn,λh' sb=>⟨.ref D,H',I'.Ik gp I2 hC sb,rfl,q⟩⟩
theorem Xf{rL px:Pos}{wi:TI}{i:Nat}(S:dN X scope N' d5 cl)(hc:X.calm=true)(hi:PI X tg iter wi)(hg:∀pins C s H fp,PG (f7 X pins scope N' cl C s H fp) tg g)(ht:∀pins C s H fp,lB (f7 X pins scope N' cl C s H fp) ifs tc)(he:∀pins C s H fp,PE (f7 X pins scope N' cl C s H fp) elt te)(hs:∀x,foldedSetIterable iter X.env x=pure x)(hN:X.Nd)(tj:X.N[i]?=some x)(hx:Loc X.env.scope x)(hf:X.fn x=true\/X.env.scope.names.lookup x=some .local) :
  PS X (.Assign [.Name x px] (.ListComp elt [⟨tg,iter,ifs,0⟩] scope pos) rL) (qH (Bj wi d5 N'.length g tc te) (qP i)):=by
 intro pins s U H D I h;have vo:∃b,swapsWith (.ListComp elt [⟨tg,iter,ifs,0⟩] scope pos) (some (.Name x px)) rL.line X.env=pure b:=⟨_,rfl⟩
 obtain⟨b,vo⟩:=vo;cases b with
 |false=>exact GD hN tj hx (Hz S hc hi hg ht he hs) vo hf pins s U H D I h
 |true =>
  rw[exec_Assign_Name_used _ _ _ _ vo];refine aa (eK (aa ?_));refine aa (aT (IU rfl hs S.tT S.kind S.names
   (cL (hi pins s U H _ I h) λxv bE dX=>cL dX λvi eV iM=>?_)) (λ_ s' hq=>ah (ah hq)) λ_ _ e=>e)
  obtain⟨it,fp,tn,J,H2,e,I2,T,gI,f2,W,⟨m0,w0⟩,turn⟩:=iM;subst e;refine FL (FJ (Q:=λv H1=>qP i v U H1 D.nx) S hc (λC s H=>hg pins C s H fp) (λC s H=>ht pins C s H fp) (λC s H=>he pins C s H fp) I2 T gI f2 w0 turn ?_ λ_ _ _ _ _ z=>z.elim);intro Dl C s' H' m I' q hn hC gp;refine wpAny_assign_Name (FD I' hN tj hx (v:=.ref Dl) rfl (λs3 I3 ⟨a,sb,ha⟩=>?_) hf);have KU:C≠a:=by
   obtain⟨f0,f1,f2,f3,f4,f5⟩:=I2.Y0 (H':=H') gp hC;rcases ha with z|z
   ·rw[z];exact f1
   ·exact λz'=>f4 _ _ z z'.symm
  obtain⟨f0,f1,f2,f3,f4,f5⟩:=I2.Y0 (H':=H') gp hC;refine⟨m,hn.sameBut sb KU,λh3 Jv=>⟨_,H',I3.turned (t':=s3.toks) (λb o hb e=>Jv.extBut b o hb e) f0 f1 f3 f4 f5,q⟩⟩
end
end L2
namespace HT
open PySem PyProof.Rows
section
variable{prog:Program}{w:World}{A:Around}{E:Value->Shared->Prop}{s:Shared}
theorem Xl{t b:Addr}{ws:List Value}{Q:Value->Shared->Prop}(ht:IsTup s.heap t #[])(hb:IsTup s.heap b ws.toArray)(h1:Q (.ref b) s):wpAny (model prog w) A (binaryOp .Add (.ref t) (.ref b)) Q E s:=by
 obtain⟨⟨cls,dd,data,sl⟩,ho,hc,n,hd⟩:=id ht;obtain⟨⟨zo,vK,data2,mx⟩,kW,nX,n2,hd2⟩:=id hb;simp only at hc hd nX hd2;subst hc hd nX hd2;exact Zj ⟨_,ho,rfl⟩ ⟨_,kW,rfl⟩ oj IV ie gW (gH _ _)
   (tuple_addW0 t b #[] ws.toArray n n2 dd vK sl mx rfl) ⟨ho,kW,h1⟩
theorem V1{t sl:Addr}{items:Array Value}{vl vu:Value}{lo hi:Option Int}{Q:Value->Shared->Prop}(ht:IsTup s.heap t items)(hs:s.heap.IsSliceOf sl vl vu .none)(pl:IsPart vl lo)(pu:IsPart vu hi)(hw:de items.size 0 lo=0/\de items.size items.size hi=items.size)(h:Q (.ref t) s):wpAny (model prog w) A (getItem (.ref t) (.ref sl)) Q E s:=by
 obtain⟨os,oV,vA,tu⟩:=id hs;have yL:s.TypeIs (.ref sl) "slice":=⟨os,oV,vA⟩
 unfold getItem
 try with_reducible refine aY ?_
 refine aa (wpAny_sequenceKey ht.typeIs ∅ ?_);refine aa (bO ht.typeIs bG
  (bT bG ht.typeIs entry_tuple_getitem ?_ (args_tuple_getitem _ _)))
 show wpAny _ _ (Builtin.Tuple.tupleItemsOf (.ref t) >>= _) _ _ s;refine aa (tupleItemsOf_ ht ?_);refine aa (ef yL ?_);refine aa (N7 hs pl pu ?_);have ya:((((de items.size 0 lo:Nat):Int)==0&&(1:Int)==1&&(de items.size items.size hi-de items.size 0 lo)==items.size)=true):=by
  simp_all
 show wpAny _ _ (if(((de items.size 0 lo:Nat):Int)==0&&(1:Int)==1&&(de items.size items.size hi-de items.size 0 lo)==items.size)=true then _ else _) _ _ s;rw[aF ya];refine aa (aa (ef ht.typeIs (ah ?_)))
 first
  |exact wpAny_bind (wpAny_rule (wpAny_bind (wpAny_pure ⟨_,rfl,wpAny_pure h⟩)))
  |exact wpAny_bind (wpAny_rule (wpAny_pure ⟨_,rfl,wpAny_pure h⟩))
  |exact wpAny_bind (wpAny_rule (wpAny_bind (wpAny_pure (wpAny_pure ⟨_,rfl,wpAny_pure h⟩))))
end
end HT
namespace L2
open PySem PySem.Spec PyProof.Rows
section
variable{X:Cx}
def NH(K:PySem.W.Frag):R2:=λx y H Q=>∃a b xs ys,x=.ref a/\y=.ref b/\iw K H a xs/\iw K H b ys/\xs.length+ys.length<=sizeLine /\
 (xs=[]->Q (.ref b) H)/\(ys=[]->Q (.ref a) H)/\(∀p,H p=none->Q (.ref p) (upd H p (.tup (xs++ys))))
theorem XZ:fF X (binaryOp .Add) (NH X.K):=by
 intro pins s U H x y v u Q I rx ry h;obtain⟨a,b,xs,ys,rfl,rfl,ha,hb,hz,q0,q1,q2⟩:=h;by_cases hx:xs=[]
 ·subst hx;cases rx;cases ry;obtain⟨bf,r1,p1,_⟩:=I.tuple ha;obtain⟨nh,r2,p2,_⟩:=I.tuple hb;cases r1;exact HT.Xl p1 p2 ⟨.ref b,H,I,rfl,q0 rfl⟩
 ·exact Pn pins s U H _ _ v u Q I rx ry ⟨a,b,xs,ys,rfl,rfl,ha,hb,hx,hz,q1,λ_=>q2⟩
def Tq(K:PySem.W.Frag):V->Option Int->Option Int->Hp->VK->Prop:=λx lo hi H Q=>∃a xs,x=.ref a/\iw K H a xs /\
 (U0 xs lo hi=xs->Q (.ref a) H)/\∀p,H p=none->Q (.ref p) (upd H p (.tup (U0 xs lo hi)))
theorem Qt:qT X (Tq X.K):=by
 intro pins s U H x v vl vu lo hi sl Q I rx hs pl pu h;obtain⟨a,xs,rfl,hx,q0,q⟩:=h;by_cases hw:HT.de xs.length 0 lo=0/\HT.de xs.length xs.length hi=xs.length
 ·cases rx;obtain⟨bf,r,ht,hz⟩:=I.tuple hx;have hlen:bf.toArray.size=xs.length:=by exact r.length.symm
  refine⟨"tuple",_,bG.lookup,ht.typeIs,?_⟩;exact HT.V1 ht hs pl pu (by rw[hlen];exact hw) ⟨.ref a,H,I,rfl,q0 (by unfold U0;simp_all)⟩
 ·exact NY pins s U H _ v vl vu lo hi sl Q I rx hs pl pu ⟨a,xs,rfl,hx,hw,q⟩
theorem WW:k9 X (.builtin "isinstance") (λxs H Q=>∃x t c b,xs=[x,.ty c]/\gO X.K H x t/\PySem.W.kitOne X.K t (.type c)=some b/\Q (.bl b) H):=by
 intro pins s U H xs us Q I r h;obtain⟨x,t,c,b,rfl,hT,hk,q⟩:=h;obtain⟨u,w',rfl,ru,eF⟩:=vals2 r;cases (show w'=Value.type c from eF);exact Vs I ru hT hk λtk=>⟨.bl b,H,I.tok tk,rfl,q⟩
theorem Vc(hc:X.calm=true):k9 X (.builtin "all") (λxs H Q=>∃(a:Addr) (bs:List Bool),xs=[.ref a]/\gs X.K H a (bs.map V.bl)/\Q (.bl (bs.all id)) H):=by
 intro pins s U H xs us Q I r h;obtain⟨a,bs,rfl,ha,q⟩:=h;obtain⟨u,rfl,ru⟩:=vals1 r;cases ru;obtain⟨bf,rv,p,hz⟩:=I.list ha;refine call_all_walk ?_;refine dO p.isList ?_;have gM:a≠s.heap.objs.size:=by
  obtain⟨o,e,_⟩:=id p.isList;exact aC (aj e)
 have hl:=rv.length;rw[av] at hl;refine⟨s.heap.objs.size,_,_,_,_,_,λi=>bs.getD i true,rfl,xc (A:=X.A.in1) (I.ok.hd hc) _ a gM bf.toArray,⟨⟨_,ak _ rfl,rfl,rfl⟩,?_⟩,?_,λh' tk k=>?_⟩
 ·obtain⟨o,e,q1⟩:=id p.isList;exact⟨o,ag _ e,q1⟩
 ·intro i v s' Q' E' hP hQ;have hv:bf[i]?=some v:=by simpa using hP
  have hi:i<bs.length:=by rw[hl];exact(ax.mp hv).1
  obtain⟨u',sR,xD⟩:=rv.get (by rw[aP,az hi];rfl);rw[hv] at sR;cases sR;cases (show v=Value.bool bs[i] from xD);refine cu ?_;have:bs.getD i true=bs[i]:=by simp[List.getD,hi]
  dsimp only at hQ;rw[this] at hQ;exact hQ
 ·have e1:(List.range bf.toArray.size).all (λi=>bs.getD i true)=bs.all id:=by
   rw[aJ,<- hl];rw[cT];simp only[List.all_eq_true,List.mem_range,id];constructor
   ·intro hh x hx;obtain⟨i,hi,rfl⟩:=bH.mp hx;have:=hh i hi;simpa[List.getD,hi] using this
   ·intro hh i hi;have:=hh bs[i] (fg hi);simpa[List.getD,hi] using this
  rw[e1];exact ⟨.bl (bs.all id),H,I.kept (t':=tk) λb o e=>k b o (by
   intro hb;have:b=s.heap.objs.size:=by simpa using hb
   exact absurd (aj e) (by rw [this];exact bK _)) (ag _ e),rfl,q⟩
end
end L2
namespace HT
open PySem PyProof.Rows
end HT
namespace L2
open PySem PySem.Spec PyProof.Rows
variable{X:Cx}{e:Expr}{pos:Pos}{α:Type}{M:Model}{h0 h B h':Heap}{A:Around}{E:Value->Shared->Prop}{s s':Shared}{a C t ea:Addr}{f:Str}{w:World}{od:Option Addr}{o:Obj}{H H':Hp}{P:Program}{pins:List (Addr×Obj)}{U:St}{newId cZ:String}{rest:List Expr}{a0:Value}{Ξ:XK}
def DK(h h':Heap):Prop:=∀b o,h.get? b=some o->∃o',h'.get? b=some o'/\o'.dict=o.dict
theorem DK.refl(h:Heap):DK h h:=λ_ o e=>⟨o,e,rfl⟩
theorem DK.trans{h h1 h2:Heap}(a:DK h h1)(b:DK h1 h2):DK h h2:=λx o e=>by
 obtain⟨o1,e1,d1⟩:=a x o e;obtain⟨o2,e2,d2⟩:=b x o1 e1;exact⟨o2,e2,d2.trans d1⟩
inductive KD{α:Type}:Sem α->Prop
 |pure (a:α):KD (.pure a)
 |raise (e:Value):KD (.raise e)
 |rE (w:String):KD (.unsupported w)
 |rule {t:String} {k:Unit->Sem α} (h:∀u,KD (k u)):KD (.rule t k)
 |at_ {p:Pos} {k:Unit->Sem α} (h:∀u,KD (k u)):KD (.at p k)
 |load {a:Addr} {p:Option Value} {k:Obj->Sem α} (h:∀o,KD (k o)):KD (.load a p k)
 |update {a:Addr} {p:Option Value} {f:Obj->Obj} {k:Unit->Sem α} (hf:∀o,(f o).dict=o.dict/\(o.isFreed=false->(f o).isFreed=false)) (h:∀u,KD (k u)):KD (.update a p f k)
 |alloc {o:Obj} {k:Addr->Sem α} (h:∀u,KD (k u)):KD (.alloc o k)
 |point {l:List Value} {k:Unit->Sem α} (h:∀u,KD (k u)):KD (.point l k)
 |ask {k:Setting->Sem α} (h:∀u,KD (k u)):KD (.ask k)
 |stack {k:List (Code×Pos)->Sem α} (h:∀u,KD (k u)):KD (.stack k)
theorem KD.bind{α β:Type}{m:Sem α}(hm:KD m){f:α->Sem β}(hf:∀a,KD (f a)):KD (m >>= f):=by
 show KD (Sem.bind m f)
 induction hm with
 |pure a=>exact hf a
 |raise e=>exact .raise e
 |rE w=>exact .rE w
 |rule h ih=>exact .rule ih
 |at_ h ih=>exact .at_ ih
 |load h ih=>exact .load ih
 |update Kz h ih=>exact .update Kz ih
 |alloc h ih=>exact .alloc ih
 |point h ih=>exact .point ih
 |ask h ih=>exact .ask ih
 |stack h ih=>exact .stack ih
theorem UW{Γ:PySem.Ctx}{t:Sem α}(k:KD t):∀{Q:α->Pos->Shared->Prop} {E:Value->Pos->Shared->Prop} {p:Pos} {s:Shared},DK h0 s.heap->Sem.wp M Γ t Q E p s ->
  Sem.wp M Γ t (λa p' s'=>Q a p' s'/\DK h0 s'.heap) (λe p' s'=>E e p' s'/\DK h0 s'.heap) p s:=by
 induction k with
 |pure a=>intro Q E p s d h;exact⟨h,d⟩
 |raise e=>intro Q E p s d h;exact⟨h,d⟩
 |rE w=>intro Q E p s d h;exact h.elim
 |rule h ih=>intro Q E p s d h;exact ih _ d h
 |at_ h ih=>intro Q E p s d h;exact ih _ d h
 |load h ih =>
  intro Q E p s d h;obtain⟨o,e,h⟩:=h;exact⟨o,e,ih _ d h⟩
 |@update a p f k hf h ih =>
  intro Q E p s d h;obtain⟨e,h⟩:=h;refine⟨e,ih _ (d.trans λb o eb=>?_) h⟩;show ∃o',(s.heap.update a f).get? b=some o'/\_;by_cases hb:b=a
  ·subst hb;have nf:o.isFreed=false:=(Heap.get?_some_iff.mp eb).2;exact⟨_,aL f eb ((hf o).2 nf),(hf o).1⟩
  ·exact⟨o,(kL _ _ _ _ hb).trans eb,rfl⟩
 |alloc h ih=>intro Q E p s d h;exact ih _ (d.trans λb o eb=>⟨o,ag _ eb,rfl⟩) h
 |point h ih=>intro Q E p s d h;exact ih _ d h
 |ask h ih=>intro Q E p s d h;exact ih _ d h
 |stack h ih=>intro Q E p s d h;exact ih _ d h
theorem p7{t:Sem α}{Q:α->Shared->Prop}(k:KD t)(h:wpAny M A t Q E s) :
  wpAny M A t (λa s'=>Q a s'/\DK s.heap s'.heap) (λe s'=>E e s'/\DK s.heap s'.heap) s:=λΓ p i=>UW k (DK.refl _) (h Γ p i)
theorem R5(a:α):KD (pure a:Sem α):=.pure a
theorem Mq(w:String):KD (unsupported w:Sem α):=.rE w
theorem OV(a:Addr):KD (load a):=.load λo=>.pure o
theorem XJ:KD stack:=.stack λo=>.pure o
theorem Vv(f:Array Value->Array Value)(o:Obj):(Obj.mapFields f o).dict=o.dict/\(o.isFreed=false->(Obj.mapFields f o).isFreed=false):=by
 obtain⟨c,d,dt,sl⟩:=o;cases dt<;>exact⟨rfl,λh=>h⟩
theorem Gx{p:Option Value}{f:Obj->Obj}(hf:∀o,(f o).dict=o.dict/\(o.isFreed=false->(f o).isFreed=false)):KD (Sem.update a p f λu=>.pure u):=.update hf λu=>.pure u
local macro_rules | `(tactic| walk_at "k1") => `(tactic| first
 |exact R5 _
 |exact .raise _
 |exact Mq _
 |exact .rE _
 |exact OV _
 |exact vh _ _
 |exact XJ
 |assumption
 |exact Gx (Vv _)
 |(refine KD.bind ?_ λ_=>?_)
 | split)
theorem Av(v:Value)(i:Nat):KD (field v i):=by
 unfold field fieldsOf
 repeat' walk_at "k1"
theorem FZ(v:Value)(i:Nat)(x:Value):KD (setField v i x):=by
 unfold setField updateField
 repeat' walk_at "k1"
theorem F6(v:Value)(fr:Option Addr):KD (setFlight v fr):=by
 unfold setFlight
 repeat' (first|exact Av _ _|exact FZ _ _ _|walk_at "k1")
theorem Vu:KD underTheClaimsCaller:=by
 unfold underTheClaimsCaller
 repeat' walk_at "k1"
theorem OU(env:Env)(b:Bool)(l:List Env):KD (keptBack env b l):=by
 unfold keptBack
 repeat' (first|exact Vu|walk_at "k1")
theorem Vx(env:Env)(l:List Env):KD (behindIsImport env l):=by
 unfold behindIsImport
 repeat' (first|exact Av _ _|walk_at "k1")
theorem EE:∀l:List Env,KD (readyFrames l)
 |[]=>R5 _
 |env::outer=>by
  unfold readyFrames
  repeat' (first | exact Vx _ _ | exact OU _ _ _ | exact EE _ | exact Gx (λo=>⟨rfl,λh=>by
   obtain⟨c,d,dt,sl⟩:=o;cases dt <;> first | rfl | exact h⟩) | walk_at "k1")
theorem Vw:KD frameEnvs:=by
 unfold frameEnvs
 repeat' walk_at "k1"
theorem Wv(env:Env):KD (PySem.frameOf env):=by
 unfold PySem.frameOf;refine KD.bind Vw λl=>?_;refine KD.bind ?_ λx=>?_
 ·cases hl:l.dropWhile (·.frame != env.frame) with
  |nil=>exact R5 _
  |cons e r =>
   unfold frameObject;exact KD.bind (EE _) λ_=>R5 _
 ·repeat' walk_at "k1"
theorem XI(f:Addr)(b:Bool):KD (entryPlaceOf f b):=by
 unfold entryPlaceOf
 repeat' walk_at "k1"
theorem XH(a b c d e:Value)(l:List Value):KD (EntryCells.newEntry a b c d e l):=by
 unfold EntryCells.newEntry newFields newObj
 repeat' (first|walk_at "k1"|exact .alloc λ_=>R5 _|unfold newObjAsIs)
theorem Ho(e:Value)(env:Env):KD (noteFrame e env):=by
 unfold noteFrame
 repeat' (first|exact Av _ _|exact FZ _ _ _|exact Wv _|exact XI _ _|exact XH _ _ _ _ _ _|walk_at "k1")
theorem M3(env:Env)(e:Value):KD (leaving env e):=by
 unfold leaving;exact KD.bind (Ho _ _) λ_=>F6 _ _
noncomputable abbrev o9(C t:Addr)(od:Option Addr):Obj:={ cls:=.ref C,dict:=od,data:=.fields #[.ref t,.none,.none,.none,.bool false,.none] }
def A3:List Value->Bool
 |[.type a,.type b,.type c,.type d]=>a=="ValueError"&&b=="Exception"&&c=="BaseException"&&d=="object"
 |.ref _::r=>A3 r
 |_=>false
theorem FA(self:Value):∀{l:List Value},A3 l=true->refuseLoop self "__setattr__" l=pure Unit.unit
 |[.type a,.type b,.type c,.type d],e=>by
  simp only[A3,Bool.and_eq_true,beq_iff_eq] at e;obtain⟨⟨⟨rfl,rfl⟩,rfl⟩,rfl⟩:=e;exact PySem.F.store_ValueError.passes self
 |.ref c::r,e=>by rw[refuseLoop_ref];exact FA self (by unfold A3 at e;exact e)
theorem GQ:∀{l:List Value},A3 l=true->l.contains (.type "object")=true
 |[.type a,.type b,.type c,.type d],e=>by
  simp only[A3,Bool.and_eq_true,beq_iff_eq] at e;obtain⟨_,rfl⟩:=e;simp
 |.ref c::r,e=>by rw[jz,GQ (l:=r) (by unfold A3 at e;exact e),rq]
theorem HM:∀{l:List Value},A3 l=true->l.contains (.type "BaseException")=true
 |[.type a,.type b,.type c,.type d],e=>by
  simp only[A3,Bool.and_eq_true,beq_iff_eq] at e;obtain⟨⟨⟨rfl,rfl⟩,rfl⟩,rfl⟩:=e;simp
 |.ref c::r,e=>by rw[jz,HM (l:=r) (by unfold A3 at e;exact e),rq]
def uD(K:PySem.W.Frag)(C:Addr):Bool:=(PySem.W.clsIn K C).any λcd=>A3 cd.mro
section
variable{prog:Program}{K:PySem.W.Frag}{x:Addr}{v:Value}
theorem Ng{ox:Obj}{od:Option Obj}{tk:Tok}{R:Result->Shared->Prop}(X:K.In s.heap)(J:PySem.W.InstAt s.heap x ox C od)(hp:uD K C=true)(ht:PySem.W.takerIn K C f=some none)(h:∀b,wpAny (model prog w) A.in1 (Builtin.ObjectAttr.storeInOwnDict (.ref x) (.ref C) (.str f tk) f v b) (λfin s'=>match fin with|Fin.done f=>R (.ok f) s'|Fin.again c'=>c'.quiet=true/\codeAny (model prog w) A c' R s') (λe s'=>R (.error e) s') s) :
  codeAny (model prog w) A (.call (.builtin "object.__setattr__") ⟨[.ref x,.str f tk,v],[]⟩) R s:=by
 have SF:=PySem.F.store_object;obtain⟨cd,hc,ho⟩:=gT hp;have ne:cd.mro.isEmpty=false:=by cases q:cd.mro with|nil=>rw[q] at ho;cases ho|cons _ _=>rfl
 have L1:PySem.W.Looks (model prog w) s.heap (isInstance (.ref x) (.type "object")) true:=J.type.andThen (BU X (by unfold PySem.W.mroIn;rw[hc,Zm,aA (by rw[ne];decide),GQ ho]));refine jZ SF.slot.plain SF.entry (@PySem.W.check_slot (model prog w) _ _ s "object.__setattr__" "object" "__setattr__" (.ref x) [.str f tk,v] [] _ SF.kind SF.split L1 (SF.args (.ref x) (.str f tk) v) ?_);obtain⟨attr,ha,hr⟩:=ae.mp ht;have L2:PySem.W.Looks (model prog w) s.heap (mroOf (.ref C)) cd.mro:=(je X hc).andThen .now;have L3:PySem.W.Looks (model prog w) s.heap (Builtin.ObjectAttr.storeTaker? attr) none:=by
  cases attr with
  |none=>exact .now
  |some a =>
   obtain⟨b,hb,e⟩:=af.mp hr;refine(PySem.W.looks_takesIn X hb).andThen ?_;cases b
   ·exact .now
   ·cases e
 rw[PySem.W.osa_eq,refuse_eq];refine aa (aa (J.type.here (aa (L2.here ?_))));rw[FA _ ho];refine ah (aa (J.type.here (aa ((fq X ha).here (aa (L3.here ?_))))));exact h _
theorem Ql{Q:Unit->Shared->Prop}(X:K.In s.heap)(he:s.heap.get? x=some (o9 C t none))(hs:PySem.W.findIn K (.ref C) "__setattr__"=some (some (.builtin "object.__setattr__")))(hp:uD K C=true)(ht:PySem.W.takerIn K C f=some none)(hh:PySem.W.hasDictIn K C=true)(h:∀h' tk,h'.get? x=some (o9 C t (some s.heap.objs.size))->h'.Ns1 s.heap.objs.size (λy=>if y=f then some v else none)->(∀b o,b≠x->s.heap.get? b=some o->h'.get? b=some o)->Q Unit.unit { s with heap:=h',toks:=tk }) :
  wpAny (model prog w) A (setAttr (.ref x) f v) Q E s:=by
 have J:PySem.W.InstAt s.heap x (o9 C t none) C none:=⟨he,rfl,rfl,trivial⟩
 refine Yp X J hs ?_;refine Ng X J hp ht λb=>?_;obtain⟨cd,hc,hd⟩:=gT hh;have CN:x≠s.heap.objs.size:=aC (aj he);have Dk:=ag { cls:=.type "dict",data:=.dict #[] } he;have e1:(s.heap.push { cls:=.type "dict",data:=.dict #[] }).get? s.heap.objs.size=some { cls:=.type "dict",data:=.dict #[] }:=ak _ rfl;refine aa (ah (aa (aa (wpAny_loadPart he (aa (Ja (s:={ s with toks:=s.toks+1 }) (je X hc) ?_))))));rw[hd];refine aa (wpAny_alloc ?_);refine aa (wpAny_update (o:=o9 C t none) Dk (ah (aa (ah (aa ?_)))));generalize hg:(s.heap.push { cls:=.type "dict",data:=.dict #[] }).update x (λo=>{ o with dict:=some s.heap.objs.size })=g1;have g0:g1.get? s.heap.objs.size=some { cls:=.type "dict",data:=.dict #[] }:=by rw[<- hg];exact(kL _ _ _ _ CN.symm).trans e1
 have gx:g1.get? x=some (o9 C t (some s.heap.objs.size)):=by rw[<- hg];exact aL _ Dk rfl
 have gk:∀b o,b≠x->s.heap.get? b=some o->g1.get? b=some o:=λb o hb e=>by rw[<- hg];exact(kL _ _ _ _ hb).trans (ag _ e)
 have n0:g1.Ns s.heap.objs.size (λ_=>none):=⟨_,#[],_,g0,rfl,λe he=>absurd he (by simp),λ_=>rfl⟩
 refine wpAny_nsSet1 (s:={ s with heap:=g1,toks:=s.toks+1 }) (Heap.Ns1.of_empty n0) λh' n1 sb=>?_;obtain⟨oD,Lo,Lp,yp,yF,yH⟩:=n1.count (Yo f v PySem.Within.nil);refine aa (wpAny_lookBehind yp (by rw[yF];exact pastItsLine_dict (aD yH (by rw[bg,List.length_nil,fU];omega))) ?_);exact ah (h _ _ ((sb.2 _ CN).trans gx) n1 λb o hb e=>(sb.2 b (aC (aj e))).trans (gk b o hb e))
theorem WY{cd:ClassData}{nR:Value}{Q:Unit->Shared->Prop}(X:K.In s.heap)(hx:s.heap.get? x=some o)(hc:o.cls=.ref C)(jl:PySem.W.clsIn K C=some cd)(hm:A3 cd.mro=true)(hq:Q Unit.unit s) :
  wpAny M A (checkBuiltinCall "BaseException.__getattribute__" ⟨[.ref x,nR],[]⟩) Q E s:=by
 have hk:builtinKind "BaseException.__getattribute__"=some .slot:=by decide +kernel
 have oU:splitId "BaseException.__getattribute__"=some ("BaseException","__getattribute__"):=by decide +kernel
 have ha:=F.args_bexc_ga (.ref x) nR;have ne:cd.mro.isEmpty=false:=by cases q:cd.mro with|nil=>rw[q] at hm;cases hm|cons _ _=>rfl
 have hB:cd.mro.contains (.type "BaseException")=true:=HM hm;have T:PySem.W.Looks M s.heap (typeOf (.ref x)) (.ref C):=hc▸(Zk hx).andThen .now;have L1:PySem.W.Looks M s.heap (isInstance (.ref x) (.type "BaseException")) true:=T.andThen (BU X (by unfold PySem.W.mroIn;rw[jl,Zm,aA (by rw[ne];decide),hB]));simp only[checkBuiltinCall,hk,oU];refine aa (L1.here ?_)
 wp_walk
 exact hq
theorem OL{ox od:Obj}{b:Bool}{Q:Value->Shared->Prop}(X:K.In s.heap)(J:PySem.W.InstAt s.heap x ox C (some od))(Dh:PySem.W.findIn K (.ref C) "__getattribute__"=some (some (.builtin "BaseException.__getattribute__")))(Ku:PySem.W.findIn K (.ref C) "__getattr__"=some none)(hp:uD K C=true)(hf:PySem.W.findObj K C (some od) f=some (.value v))(hh:PySem.W.handedIn v=true)(h:Q v { s with toks:=s.toks+1 }) :
  wpAny (model prog w) A (getAttr (.ref x) f b) Q E s:=by
 obtain⟨lz,g,d,t,os⟩:=s;obtain⟨cd,jl,hm⟩:=gT hp;have L0:=J.type (M:=model prog w);have L1:=fq (M:=model prog w) X Dh;have L2:=fq (M:=model prog w) X Ku;have L3:=PySem.W.looks_find (M:=model prog w) X J hf;have f3:=F.excAttr_ValueError.ga.bind (.ref x);have Ka:(b&&onTheHeap (Value.builtin "BaseException.__getattribute__"))=false:=by cases b<;>rfl
 have vm:(Value.builtin "BaseException.__getattribute__"==Value.builtin "object.__getattribute__")=false:=by decide +kernel
 have J':(onTheHeap (Value.ref C)&&Value.builtin "BaseException.__getattribute__"==Value.builtin "object.__getattribute__")=false:=by rw[vm];rfl
 unfold getAttr getAttrBy;refine aa (wpAny_mkText (aY (aa (L0.at (aa (L1.at ?_))))));dsimp only;rw[J'];show wpAny _ _ (getAttrByItsOwn _ _ _ _ _ _) _ _ _;unfold getAttrByItsOwn hookBefore;refine aa (L2.at (aa (fR (aY ?_))));unfold callGetattribute;rw[Ka];show wpAny _ _ (boundAndCalled _ _ _) _ _ _;unfold boundAndCalled;rw[f3];refine aa (ah (jd (jZ F.excAttr_ValueError.ga.plain F.entry_bexc_ga (WY X J.at_ J.cls jl hm ?_))));unfold Builtin.«object.__getattribute__» slotArgs
 repeat (first|with_reducible refine L0.at ?_|with_reducible refine L3.at ?_|wp_step)
 show wpAny _ _ (handedOut v) _ _ _;rw[PySem.W.handedOut_of hh];exact ah h
end
theorem Q1{b:Addr}{o:HO}(h:H a=some o)(n:H b=none):b≠a:=λz=>by rw[z,h] at n;cases n
noncomputable abbrev XE(ea:Addr)(φ:Obj->Prop):HO:=.ext λh=>∃o,h.get? ea=some o/\φ o
theorem XE.get{φ:Obj->Prop}(ok:fG P w H h)(e:H ea=some (XE ea φ)):∃o,h.get? ea=some o/\φ o:=(ok _ _ e).1
theorem IJ{φ:Obj->Prop}(e:h.get? ea=some o)(p:φ o):j3 P w H h ea (XE ea φ) :=
 ⟨⟨o,e,p⟩,⟨o,e⟩,λ_ _ ⟨o,e,p⟩ k=>⟨o,k _ e,p⟩⟩
section
variable{dA:Addr}{φ:Obj->Prop}{fs:List (Str×V)}{v:V}
theorem Inv.GO(I:Inv X pins U H s)(hn:H ea=none)(he:s.heap.get? ea=some o)(p:φ o)(h0:X.cF.heap.get? ea=none)(hl:ea≠X.env.locals)(hc:∀x c,X.env.cells.lookup x=some c->c≠ea)(hp:∀p∈X.pn++pins,p.1≠ea) :
  Inv X pins U (upd H ea (XE ea φ)) s:=by
 have tup:∀b u,H b=some u->upd H ea (XE ea φ) b=some u:=λb u e=>by rw[c7 (i7 e hn)];exact e
 refine⟨I.ok,I.os,I.bare,⟨I.base.keep,I.base.slot,λb o e n1 n2=>?_,I.base.there,λb xs e=>tup _ _ (I.base.gz b xs e),λb o u e=>tup _ _ (I.base.gi b o u e),λb ps e=>?_⟩,I.loc,I.cell,?_,λx c e=>?_,λq hq=>?_,λa u e=>?_,I.len,I.sg⟩
 ·have:b≠ea:=λz=>by rw[z,h0] at e;cases e
  rw[c7 this];exact I.base.free b o e n1 n2
 ·obtain⟨more,q⟩:=I.base.gA b ps e;exact⟨more,tup _ _ q⟩
 ·rw[c7 hl.symm];exact I.free
 ·rw[c7 (hc x c e)];exact I.dF x c e
 ·obtain⟨p1,p2,p3⟩:=I.pin q hq;exact⟨p1,by rw[c7 (hp q hq)];exact p2,p3⟩
 ·by_cases ha:a=ea
  ·subst ha;rw[i3] at e;cases e;exact IJ he p
  ·rw[c7 ha] at e;exact(I.bB a u e).v8 (λb u _ h=>h) (λb hb=>tup _ _ hb) (λb xs hb=>tup _ _ hb)
theorem Inv.HL(I:Inv X pins U H' s)(he:H' ea=some (XE ea φ)):Inv X pins U (λb=>if b=ea then none else H' b) s:=by
 have nn:∀b,H' b=none->(λb=>if b=ea then none else H' b) b=none:=λb h=>by
  dsimp only;split
  ·rfl
  ·exact h
 have ss:∀b u,H' b=some u->u≠XE ea φ->(λb=>if b=ea then none else H' b) b=some u:=λb u h n=>by
  dsimp only;split
  ·rename_i z;rw[z,he] at h;exact absurd (aq h).symm n
  ·exact h
 refine⟨I.ok,I.os,I.bare,⟨I.base.keep,I.base.slot,λb o e n1 n2=>nn _ (I.base.free b o e n1 n2),I.base.there,λb xs e=>ss _ _ (I.base.gz b xs e) (by simp),λb o u e=>ss _ _ (I.base.gi b o u e) (by simp),λb ps e=>?_⟩,I.loc,I.cell,nn _ I.free,λx c e=>nn _ (I.dF x c e),λq hq=>?_,λa u e=>?_,I.len,I.sg⟩
 ·obtain⟨more,q⟩:=I.base.gA b ps e;exact⟨more,ss _ _ q (by simp)⟩
 ·obtain⟨p1,p2,p3⟩:=I.pin q hq;exact⟨p1,nn _ p2,p3⟩
 ·split at e
  ·cases e
  ·exact(I.bB a u e).v8 (λb u _ h=>h) (λb hb=>ss _ _ hb (by simp)) (λb xs hb=>ss _ _ hb (by simp))
structure I9(K:PySem.W.Frag)(C:Addr)(f:Str):Prop where
 ve:uD K C=true
 ga:PySem.W.findIn K (.ref C) "__getattribute__"=some (some (.builtin "BaseException.__getattribute__"))
 gx:PySem.W.findIn K (.ref C) "__getattr__"=some none
 sa:PySem.W.findIn K (.ref C) "__setattr__"=some (some (.builtin "object.__setattr__"))
 hd:PySem.W.hasDictIn K C=true
 no:PySem.W.findIn K (.ref C) f=some none
theorem I9.Bl{K:PySem.W.Frag}(c:I9 K C f):PySem.W.takerIn K C f=some none:=by unfold PySem.W.takerIn;rw[c.no];rfl
theorem OM{b:Bool}{Q:Value->Shared->Prop}(I:Inv X pins U H s)(e:H ea=some (XE ea φ))(xY:∀o,φ o->o.cls=.ref C/\o.dict=some dA/\PySem.W.notCls o=true)(c:I9 X.K C f)(ed:H dA=some (.xd fs))(l:fs.lookup f=some v)(h:∀u s',Inv X pins U H s'->RelV v u->Q u s'):wpAny (model X.prog X.w) X.A (getAttr (.ref ea) f b) Q X.xe s:=by
 obtain⟨o,ho,p⟩:=XE.get I.bB e;obtain⟨h1,h2,h3⟩:=xY o p;obtain⟨mA,n,r⟩:=I.bB dA _ ed;obtain⟨u,hu,ru⟩:=A9.some_of (v:=v) (o:=mA f) (by rw[<- l];exact r f);obtain⟨od,eo,lk⟩:=X5 n;have J:PySem.W.InstAt s.heap ea o C (some od):=⟨ho,h1,h3,by rw[h2];exact eo⟩
 exact OL I.gC J c.ga c.gx c.ve (BV c.hd c.no rfl (by rw[lk,hu])) (Fs ru) (h u _ (I.tok _) ru)
theorem Qo{u:Value}{Q:Unit->Shared->Prop}(I:Inv X pins U H s)(e:H ea=some (XE ea (·=o9 C t none)))(c:I9 X.K C f)(rv:RelV v u)(h:∀dA s',H dA=none->Inv X pins U (upd (upd H dA (.xd [(f,v)])) ea (XE ea (·=o9 C t (some dA)))) s'->Q Unit.unit s'):wpAny (model X.prog X.w) X.A (setAttr (.ref ea) f u) Q X.xe s:=by
 obtain⟨o,ho,rfl⟩:=XE.get I.bB e;refine Ql I.gC ho c.sa c.ve c.Bl c.hd λh' tk jL ns kp=>h s.heap.objs.size _ (I.bB.fresh (ai _)) ?_;have hn:H s.heap.objs.size=none:=I.bB.fresh (ai _);have gM:s.heap.objs.size≠ea:=bY (aj ho);have nd:∀b u,H b=some u->b≠s.heap.objs.size:=λb u q=>i7 q hn;have up:∀b u,H b=some u->b≠ea->upd (upd H s.heap.objs.size (.xd [(f,v)])) ea (XE ea (·=o9 C t (some s.heap.objs.size))) b=some u:=λb u q n=>by rw[c7 n,c7 (nd b u q)];exact q
 have own:∀b y,H b=some (.own y)->b≠ea:=λb y q z=>by rw[z,e] at q;cases q
 have tup:∀b xs,H b=some (.tup xs)->b≠ea:=λb xs q z=>by rw[z,e] at q;cases q
 refine I.un ⟨λb o q n _ _=>kp b o (Q1 e n) q,λb o q n _ _=>⟨o.slots,kp b o (Q1 e n) q⟩,λb o q n _=>?_,λb o q _=>?_,λb xs q=>up b _ q (tup b xs q),λb o u q=>up b _ q λz=>(by rw[z,e] at q;cases q),λb ps q=>⟨#[],by rw[Array.append_empty];exact up b _ q λz=>by rw[z,e] at q;cases q⟩⟩ λa o q=>?_
 ·rw[c7 (Q1 e n),c7 (aC (aj q))];exact n
 ·by_cases z:b=ea
  ·subst z;exact⟨_,jL⟩
  ·exact⟨o,kp b o z q⟩
 ·by_cases z:a=ea
  ·subst z;rw[i3] at q;cases q;exact IJ jL rfl
  ·rw[c7 z] at q;by_cases z2:a=s.heap.objs.size
   ·subst z2;rw[i3] at q;cases q;refine⟨_,ns,λg=>?_⟩;show A9 (List.lookup g [(f,v)]) _;rw[dj];by_cases hg:g=f
    ·subst hg;simp only[beq_self_eq_true,if_true];exact rv
    ·rw[aA hg,df.mpr hg];exact True.intro
   ·rw[c7 z2] at q;refine(I.bB a o q).v8 (λb u hb r=>kp b u ?_ r) (λb hb=>up b _ hb (own b a hb)) λb xs hb=>up b _ hb (tup b xs hb);rcases hb with rfl|hb
    ·exact z
    ·exact own b a hb
end
section
variable{prog:Program}{nm q:Str}{N fI:Addr}{bs bm iY:List Value}{hdct:Bool}{sn:List Str}{sub:List Value}{ab:Bool}{col:Option Bool}{dd:Option Addr}{k0 k1 k2 k3 k5:Option Value}{B:String}{mN:Str->Option Value}{rest:List Value}{oI:Obj}
variable{g:Array GenState}{d:Drawn}{t:Nat}{os:OsState}
theorem Uq{Q:Fin->Shared->Prop}(F:ExcBaseFacts B newId cZ iY)(T:OwnTail h iY bm)(hC:h.get? C=some (excClassObj nm q C N bs bm hdct sn sub ab col dd k0 k1 k2 k3 k5 newId))(hn:h.Ns N mN)(hi:mN "__init__"=some (.ref fI))(hf:h.get? fI=some oI)(hc:oI.cls=.type "function")(hq:∀h' e,Heap.MadeExcOf h h' e (.ref C) rest->wpAny (model prog w) A (call (.ref fI) (.ref e::rest)) (λr s'=>r=.none/\Q (.done (.ret (.ref e))) s') E ⟨h',g,d,t,os⟩)(hr:rest.length<=sizeLine) :
  wpAny (model prog w) A (Builtin.«type.__call__» ⟨.ref C::rest,[]⟩) Q E ⟨h,g,d,t,os⟩:=by
 repeat (first|with_reducible refine fm hC ?_|with_reducible refine wpAny_madeBy_exc hC ?_|wp_step)
 refine codeAny_call_builtin_code (lK _ F.quiet) (wpAny_check_new_subT F T hC (codeAny_exc_new_subT F T hC ?_ hr));show wpAny _ _ _ _ _ _;generalize hg:((h.push { cls:=.type "tuple",data:=.seq rest.toArray }).push (o9 C h.objs.size none))=hh;have kp:∀b o,h.get? b=some o->hh.get? b=some o:=λb o z=>by rw[<- hg];exact ag _ (ag _ z)
 have he:hh.get? (h.objs.size+1)=some (o9 C h.objs.size none):=by rw[<- hg];exact Heap.get?_push_at (by rw[cH]) rfl
 have ht:hh.get? h.objs.size=some { cls:=.type "tuple",data:=.seq rest.toArray }:=by rw[<- hg];exact ag _ (Heap.get?_push_at rfl rfl)
 have Dw:=kp _ _ hC;have Ky:=kp _ _ hf;have KC:(Value.ref C::bm).contains (.ref C)=true:=by simp
 unfold isInstance
 repeat (first|with_reducible refine fm he ?_|(with_reducible refine wpAny_isSubtype_exc Dw ?_;rw[KC])|wp_step)
 show wpAny _ _ (typeLookup (.ref C) _) _ _ _;refine wpAny_typeLookup_tail Dw (hn.keeps kp) (T.keeps kp) F.mroIs F.init.lookup ?_;rw[hi];refine aY (aa ?_);unfold bindSpecial;refine aa (ef (T:="function") ⟨_,Ky,hc⟩ ?_);rw[aF ∅];refine ah (aa (aT (hq _ (h.objs.size+1) ⟨kp,ki (cD _),h.objs.size,he,ki (ai _),ht⟩) (λr s' z=>?_) λ_ _ z=>z));obtain⟨rfl,z⟩:=z
 wp_walk
 exact z
theorem Wn{Q:Value->Shared->Prop}(F:ExcBaseFacts B newId cZ iY)(T:OwnTail h iY bm)(hC:h.get? C=some (excClassObj nm q C N bs bm hdct sn sub ab col dd k0 k1 k2 k3 k5 newId))(hn:h.Ns N mN)(hi:mN "__init__"=some (.ref fI))(hf:h.get? fI=some oI)(hc:oI.cls=.type "function")(hq:∀h' e,Heap.MadeExcOf h h' e (.ref C) rest->wpAny (model prog w) (A.under (.builtin "type.__call__" ⟨.ref C::rest,[]⟩)) (call (.ref fI) (.ref e::rest)) (λr s'=>r=.none/\Q (.ref e) s') E ⟨h',g,d,t,os⟩)(hr:rest.length<=sizeLine) :
  wpAny (model prog w) A (call (.ref C) rest) Q E ⟨h,g,d,t,os⟩:=by
 have f1:=tc_lookup;have f2:=tc_bind (.ref C);have hT:(⟨h,g,d,t,os⟩:Shared).TypeIs (.ref C) "type":=⟨_,hC,rfl⟩
 refine jd (qZ (show wpAny _ _ (callAny (.ref C) _) _ _ _ from ?_))
 repeat (any_goals (first|assumption|with_reducible refine fm hC ?_|wp_step))
 exact⟨rfl,codeAny_call_builtin_at (lK _ (by decide +kernel)) entry_typeCall (wpAny_check_type_call_sub hC (Uq F T hC hn hi hf hc (λh' e hm=>hq h' e hm) hr))⟩
theorem VT{env:Env}{x:Sem Value}{Q:Flow->Shared->Prop}(hb:bm.contains (.type "BaseException")=true)(hh:A.handled=none)(h:wpAny (model prog w) A x (λv bE=>∃e t od,v=.ref e/\bE.heap.get? C=some (excClassObj nm q C N bs bm hdct sn sub ab col dd k0 k1 k2 k3 k5 newId)/\bE.heap.get? e=some (o9 C t od)/\E (.ref e) bE) E s) :
  wpAny (model prog w) A (raiseStmt env (some x) none) Q E s:=by
 have KG:(Value.ref C::bm).contains (.type "BaseException")=true:=by rw[jz,hb,rq]
 unfold raiseStmt;refine aa (aT h (λv bE z=>?_) λ_ _ x=>x);obtain⟨e,t,od,rfl,hC,he,hE⟩:=z;obtain⟨hp,g,d,tk,os⟩:=bE
 repeat (first|with_reducible refine fm he ?_|with_reducible refine fm hC ?_|(with_reducible refine wpAny_isSubtype_exc hC ?_;rw[KG])|wp_step)
 exact wpAny_raiseNew_none hh hE
end
theorem j3.get:∀{o:HO},j3 P w H h a o->∃ob,h.get? a=some ob
 |.lst _,x=>by obtain⟨_,_,_,_,e⟩:=x;exact⟨_,e⟩
 |.tup _,x=>by obtain⟨_,_,_,o,e,_⟩:=x;exact⟨o,e⟩
 |.dK _,x=>by obtain⟨_,_,_,_,o,es,ep,e,_⟩:=x;exact⟨o,e⟩
 |.dT _,x=>by obtain⟨_,_,_,_,o,es,ep,e,_⟩:=x;exact⟨o,e⟩
 |.set _ _,x=>by obtain⟨o,es,ep,t,e,_⟩:=x;exact⟨o,e⟩
 |.ins _ _ _,x=>by obtain⟨_,_,_,e,_⟩:=x;exact⟨_,e⟩
 |.own _,x=>x
 |.xd _,x=>by obtain⟨mA,n,_⟩:=x;obtain⟨od,e,_⟩:=X5 n;exact⟨od,e⟩
 |.lu _ _,x=>by obtain⟨_,_,_,e⟩:=x;exact⟨_,e⟩
 |.jm _ _,x=>⟨_,x.1⟩
 |.nO _,x=>⟨_,x⟩
 |.met _ _,x=>⟨_,x⟩
 |.ext _,x=>x.2.1
def AO(H':Hp)(h0:Heap)(l:List Env)(e:Value)(C:Addr)(h:Heap):Prop :=
 ∃(ea:Addr) (a0:Value) (B:Heap),e=.ref ea/\Heap.FlyingW B l ea (.ref C) a0 h/\∀b o,h.get? b=some o->b∉eR l->(H' b≠none\/∃o0,h0.get? b=some o0)->B.get? b=some o
def lD(e:Value)(od:Option Addr)(h:Heap):Prop:=∃ea ob,e=.ref ea/\h.get? ea=some ob/\ob.dict=od
theorem lD.keep{e:Value}(d:lD e od h)(k:DK h h'):lD e od h':=by
 obtain⟨ea,ob,r,h1,h2⟩:=d;obtain⟨o',e1,e2⟩:=k ea ob h1;exact⟨ea,o',r,e1,e2.trans h2⟩
def gR(P:Program)(w:World):lE:=λouter H s E e s'=>∃(C:Addr) (od:Option Addr) (H':Hp),s'.os=s.os/\AllBare s'.gens/\Un (eR outer) [] H H' s.heap s'.heap/\fG P w H' s'.heap/\AO H' s.heap outer e C s'.heap/\lD e od s'.heap/\E (.ref C) od H'
section
variable{E:XK}{e:Value}
theorem Inv.flew(I:Inv X pins U H s)(h:gR X.prog X.w X.stack H s E e s'):∃C od H',Inv X pins U H' s'/\AO H' s.heap X.stack e C s'.heap/\lD e od s'.heap/\E (.ref C) od H':=by
 obtain⟨C,od,H',ho,hb,hu,bB,fl,hE⟩:=h;exact⟨C,od,H',I.AW (ch:=[]) ho hu bB hb (by simp),fl,hE⟩
theorem J9(I:Inv X pins U H s){b:Addr}(hb:b∈eR X.stack):∃o,s.heap.get? b=some o/\∀vs,o.data≠.fields vs:=(I.stack.mem hb).2
theorem vQ{fP:Heap}(I:Inv X pins U H s)(eJ:X.stack=X.env::X.outer)(hex:X.ex=[])(hf:X.env.frame=some X.env.locals)(mz:∀b o,s.heap.get? b=some o->b∉eR X.stack->(H b≠none\/∃o0,X.cF.heap.get? b=some o0)->B.get? b=some o)(sl:∀b∈eR X.stack,∀o,s.heap.get? b=some o->∃sl,fP.get? b=some { o with slots:=sl })(fw:Heap.FlyingW B X.outer ea (.ref C) a0 fP)(dc:lD (.ref ea) od fP)(hE:E (.ref C) od H):gR X.prog X.w X.outer X.iS X.cF E (.ref ea) { s with heap:=fP }:=by
 have sT:∀b,b∈eR X.outer->b∈eR X.stack:=λb hb=>by rw[eJ];unfold eR at hb ⊢;rw[dR,hf];exact bz _ hb
 have si:∀b o,X.cF.heap.get? b=some o->b∉eR X.outer->b∉eR X.stack:=λb o e hb z=>by
  rcases aB.mp (I.N5 b z) with z|z
  ·exact absurd (aj e) (by rw[z];exact mO.mpr I.ok.above)
  ·exact hb z
 have mX:∀b u,H b=some u->b∉eR X.stack:=λb u e z=>by rw[I.Z3 b z] at e;cases e
 have kept:∀b o,s.heap.get? b=some o->b∉eR X.stack->(H b≠none\/∃o0,X.cF.heap.get? b=some o0)->fP.get? b=some o:=λb o e n q=>fw.1 b o (mz b o e n q);have sv:∀b,b∉X.ex:=λb=>by rw[hex];simp
 refine⟨C,od,H,I.os,I.bare,⟨?_,?_,?_,?_,I.base.gz,I.base.gi,I.base.gA⟩,?_,⟨ea,a0,B,rfl,fw,?_⟩,dc,hE⟩
 ·exact λb o e n1 n2 _=>kept b o (I.base.keep b o e n1 n2 (sv b)) (si b o e n2) (.inr ⟨o,e⟩)
 ·intro b o e n1 n2 _;obtain⟨Jt,e1⟩:=I.base.slot b o e n1 n2 (sv b);obtain⟨mx,e2⟩:=sl b (sT b n2) _ e1;exact⟨mx,e2⟩
 ·exact λb o e n1 _=>I.base.free b o e n1 (sv b)
 ·intro b o e _;obtain⟨o1,e1⟩:=I.base.there b o e (sv b);by_cases hb:b∈eR X.stack
  ·obtain⟨mx,e2⟩:=sl b hb _ e1;exact⟨_,e2⟩
  ·exact⟨o1,kept b o1 e1 hb (.inr ⟨o,e⟩)⟩
 ·intro a o e;exact (I.bB a o e).v8 (λb u hb q=>by
   have js:∃v,H b=some v:=by
    rcases hb with rfl|hb
    ·exact⟨o,e⟩
    ·exact⟨_,hb⟩
   obtain⟨v,hv⟩:=js;exact kept b u q (mX b v hv) (.inl (by rw [hv];simp))) (λb hb=>hb) (λb xs hb=>hb)
 ·intro b o e n q;rcases q with q|⟨o0,q⟩
  ·obtain⟨v,hv⟩:=mM.mp q;obtain⟨o1,e1⟩:=(I.bB b v hv).get;have z:=mz b o1 e1 (mX b v hv) (.inl (by rw[hv];simp));have z':=fw.1 b o1 z;have:o=o1:=by
    have e':fP.get? b=some o:=e;rw[z'] at e';exact(aq e').symm
   subst this;exact z
  ·obtain⟨o1,e1⟩:=I.base.there b o0 q (sv b);have z:=mz b o1 e1 (si b o0 q n) (.inr ⟨o0,q⟩);have z':=fw.1 b o1 z;have:o=o1:=by
    have e':fP.get? b=some o:=e;rw[z'] at e';exact(aq e').symm
   subst this;exact z
theorem TX{Ex:Value->Shared->Prop}(I:Inv X pins U H s)(fl:AO H h0 X.stack e C s.heap)(Le:∀b o,X.cF.heap.get? b=some o->∃o',h0.get? b=some o')(eJ:X.stack=X.env::X.outer)(hex:X.ex=[])(hf:X.env.frame=some X.env.locals)(dc:lD e od s.heap)(hE:E (.ref C) od H):wpAny (model X.prog X.w) X.A (leaving X.env e) (λ_ lP=>gR X.prog X.w X.outer X.iS X.cF E e lP) Ex s:=by
 obtain⟨ea,a0,B,rfl,fw,hB⟩:=fl;have Zc:=fw;rw[eJ] at fw;refine aT (p7 (M3 _ _) (wpAny_leaves_onW (E:=λ_ _=>False) (Q:=λ_ s2=>∃fP,s2={ s with heap:=fP }/\Heap.FlyingW B X.outer ea (.ref C) a0 fP/\s.heap.UpToSlots fP) (by rw[I.ok.frames,eJ]) hf fw λfP qp us=>⟨fP,rfl,qp,us⟩)) (λ_ s2 h2=>?_) (λ_ _ z=>z.1.elim);obtain⟨⟨fP,rfl,qp,us⟩,dk⟩:=h2;refine vQ I eJ hex hf (λb o e n q=>hB b o e n (q.imp id λ⟨o0,q⟩=>Le b o0 q)) (λb hb o e=>?_) qp (dc.keep dk) hE;obtain⟨o1,e1,nf⟩:=J9 I hb;rw[e] at e1;cases e1;exact us b o e nf
theorem Wx{vs:List Value}{Ex:Value->Shared->Prop}(I:Inv X pins U H s)(hx:Heap.MadeExcOf s.heap h' ea (.ref C) vs)(eJ:X.stack=X.env::X.outer)(hex:X.ex=[])(hf:X.env.frame=some X.env.locals)(hE:E (.ref C) none H):wpAny (model X.prog X.w) X.A (leaving X.env (.ref ea)) (λ_ lP=>gR X.prog X.w X.outer X.iS X.cF E (.ref ea) lP) Ex { s with heap:=h' }:=by
 have nv:=I.stack;rw[eJ] at nv;have yA:∀env∈(X.env::X.outer),∀b,env.frame=some b->b∈eR X.stack:=λenv he b hb=>by rw[eJ];exact fV.mpr ⟨env,he,hb⟩
 refine aT (p7 (M3 _ _) (wpAny_leaves_madeW (E:=λ_ _=>False) (Q:=λ_ s2=>∃fP a0,s2={ s with heap:=fP }/\Heap.FlyingW (PySem.W.hideAll s.heap (eR X.stack)) X.outer ea (.ref C) a0 fP/\h'.UpToSlots fP) (s:={ s with heap:=h' }) (base:=PySem.W.hideAll s.heap (eR X.stack)) (h:=s.heap) (by rw[I.ok.frames,eJ]) hf (λb o q=>jv _ q) (rf nv yA) hx λfP t fw _ _ us=>⟨fP,_,rfl,fw,us⟩)) (λ_ s2 h2=>?_) (λ_ _ z=>z.1.elim);obtain⟨⟨fP,a0,rfl,fw,us⟩,dk⟩:=h2;obtain⟨t,ht,_⟩:=hx.there;refine(show gR X.prog X.w X.outer X.iS X.cF E (.ref ea) { s with heap:=fP } from vQ I eJ hex hf (λb o e n _=>jf _ e n) (λb hb o e=>?_) fw (lD.keep ⟨ea,_,rfl,ht,rfl⟩ dk) hE);obtain⟨o1,e1,nf⟩:=J9 I hb;rw[e] at e1;cases e1;exact us b o (hx.keeps b o e) nf
theorem Ww{Ex:Value->Shared->Prop}(I:Inv X pins U H s)(he:s.heap.get? ea=some { cls:=.ref C,dict:=od,data:=.fields #[.ref t,.none,.none,.none,.bool false,.none] })(hn:H ea=none)(h0:X.cF.heap.get? ea=none)(eJ:X.stack=X.env::X.outer)(hex:X.ex=[])(hf:X.env.frame=some X.env.locals)(hE:E (.ref C) od H):wpAny (model X.prog X.w) X.A (leaving X.env (.ref ea)) (λ_ lP=>gR X.prog X.w X.outer X.iS X.cF E (.ref ea) lP) Ex s:=by
 have nv:=I.stack;rw[eJ] at nv;have yA:∀env∈(X.env::X.outer),∀b,env.frame=some b->b∈ea::eR X.stack:=λenv he b hb=>by rw[eJ];exact bz _ (fV.mpr ⟨env,he,hb⟩)
 have Dj:(PySem.W.hideAll s.heap (ea::eR X.stack)).get? ea=none:=xf _ (by simp);refine aT (p7 (M3 _ _) (wpAny_leaving_firstW (E:=λ_ _=>False) (Q:=λ_ s2=>∃fP,s2={ s with heap:=fP }/\Heap.LeftW (PySem.W.hideAll s.heap (ea::eR X.stack)) (X.env::X.outer) ea (.ref C) (.ref t) s.heap fP) (base:=PySem.W.hideAll s.heap (ea::eR X.stack)) (by rw[I.ok.frames,eJ]) (rf nv yA) hf he (λb o q=>jv _ q) Dj rfl rfl rfl λfP k=>⟨fP,rfl,k⟩)) (λ_ s2 h2=>?_) (λ_ _ z=>z.1.elim);obtain⟨⟨fP,rfl,k1,⟨_,_,k2⟩,k3,k4⟩,dk⟩:=h2;refine vQ I eJ hex hf (λb o e n q=>jf _ e ?_) (λb hb o e=>?_) ⟨k1,Dj,k2,k3⟩ (lD.keep ⟨ea,_,rfl,he,rfl⟩ dk) hE
 ·intro z;rcases aB.mp z with rfl|z
  ·rcases q with q|⟨o0,q⟩
   ·exact q hn
   ·rw[h0] at q;cases q
  ·exact n z
 ·obtain⟨o1,e1,nf⟩:=J9 I hb;rw[e] at e1;cases e1;exact k4 b o e nf
theorem UT{l:List Env}{h1:Heap}{Pg:Program}(u:Un (eR l) [] H H' h0 h)(ok:fG Pg w H' h)(hB:∀b o,h.get? b=some o->b∉eR l->(H' b≠none\/∃o0,h0.get? b=some o0)->B.get? b=some o)(st:B.StaysIn h1)(us:h.UpToSlots h1)(Di:∀b∈eR l,H' b=none/\∃o,h.get? b=some o/\∀vs,o.data≠.fields vs):Un (eR l) [] H H' h0 h1/\fG Pg w H' h1/\∀b o,h1.get? b=some o->b∉eR l->(H' b≠none\/∃o0,h0.get? b=some o0)->B.get? b=some o:=by
 have mX:∀b u,H' b=some u->b∉eR l:=λb u e z=>by rw[(Di b z).1] at e;cases e
 have kept:∀b o,h.get? b=some o->b∉eR l->(H' b≠none\/∃o0,h0.get? b=some o0)->h1.get? b=some o:=λb o e n q=>st b o (hB b o e n q);have DB:∀b∈eR l,∀o,h.get? b=some o->∃sl,h1.get? b=some { o with slots:=sl }:=λb hb o e=>by
  obtain⟨_,o1,e1,nf⟩:=Di b hb;rw[e] at e1;cases e1;exact us b o e nf
 refine⟨⟨?_,?_,u.free,?_,u.gz,u.gi,u.gA⟩,?_,?_⟩
 ·exact λb o e n1 n2 n3=>kept b o (u.keep b o e n1 n2 n3) n2 (.inr ⟨o,e⟩)
 ·intro b o e n1 n2 n3;obtain⟨Jt,e1⟩:=u.slot b o e n1 n2 n3;obtain⟨mx,e2⟩:=DB b n2 _ e1;exact⟨mx,e2⟩
 ·intro b o e n;obtain⟨o1,e1⟩:=u.there b o e n;by_cases hb:b∈eR l
  ·obtain⟨mx,e2⟩:=DB b hb _ e1;exact⟨_,e2⟩
  ·exact⟨o1,kept b o1 e1 hb (.inr ⟨o,e⟩)⟩
 ·intro a o e;exact (ok a o e).v8 (λb u hb q=>by
   have js:∃v,H' b=some v:=by
    rcases hb with rfl|hb
    ·exact⟨o,e⟩
    ·exact⟨_,hb⟩
   obtain⟨v,hv⟩:=js;exact kept b u q (mX b v hv) (.inl (by rw [hv];simp))) (λb hb=>hb) (λb xs hb=>hb)
 ·intro b o e n q;have:∃o1,h.get? b=some o1:=by
   rcases q with q|⟨o0,q⟩
   ·obtain⟨v,hv⟩:=mM.mp q;exact(ok b v hv).get
   ·exact u.there b o0 q (by simp)
  obtain⟨o1,e1⟩:=this;have z:=hB b o1 e1 n q;rw[st b o1 z] at e;cases e;exact z
structure Lies(X:Cx)(H H':Hp)(s:Shared)(B:Heap)(ea C:Addr)(a0:Value)(s':Shared):Prop where
 os:s'.os=s.os
 bare:AllBare s'.gens
 un:Un (eR X.stack) [] H H' s.heap s'.heap
 bB:fG X.prog X.w H' s'.heap
 mz:∀b o,s'.heap.get? b=some o->b∉eR X.stack->(H' b≠none\/∃o0,s.heap.get? b=some o0)->B.get? b=some o
theorem Lies.inv(I:Inv X pins U H s)(l:Lies X H H' s B ea C a0 s'):Inv X pins U H' s':=I.AW l.os l.un l.bB l.bare (by simp)
theorem leave_held{Ex:Value->Shared->Prop}(I:Inv X pins U H s)(l:Lies X H H' s B ea C a0 s')(hh:Heap.HeldW B X.stack ea (.ref C) a0 X.env.locals s'.heap)(eJ:X.stack=X.env::X.outer)(hex:X.ex=[])(hf:X.env.frame=some X.env.locals)(dc:lD (.ref ea) od s'.heap)(hE:E (.ref C) od H'):wpAny (model X.prog X.w) X.A (leaving X.env (.ref ea)) (λ_ lP=>gR X.prog X.w X.outer X.iS X.cF E (.ref ea) lP) Ex s':=by
 have J:=l.inv I;have yB:=hh;rw[eJ] at yB;have hl:wpAny (model X.prog X.w) X.A (leaving X.env (.ref ea)) (λ_ s2=>∃fP,s2={ s' with heap:=fP }/\Heap.FlyingW B (X.env::X.outer) ea (.ref C) a0 fP/\s'.heap.UpToSlots fP) (λ_ _=>False) s':=by
  unfold leaving;refine aa (wpAny_noteFrame_againW hf yB.2.2.2 ?_);exact wpAny_landsW yB λfP fl us=>⟨fP,rfl,fl,us⟩
 refine aT (p7 (M3 _ _) hl) (λ_ s2 h2=>?_) (λ_ _ z=>z.1.elim);obtain⟨⟨fP,rfl,fl,us⟩,dk⟩:=h2;obtain⟨k1,k2,⟨_,_,k3⟩,k4⟩:=fl;refine vQ J eJ hex hf (λb o e n q=>l.mz b o e n (q.imp id λ⟨o0,q⟩=>I.base.there b o0 q (by rw[hex];simp))) (λb hb o e=>?_) ⟨k1,k2,k3,k4⟩ (dc.keep dk) hE;obtain⟨o1,e1,nf⟩:=J9 J hb;rw[e] at e1;cases e1;exact us b o e nf
def wF(X:Cx)(Ξ:XK):Prop:=∀(pins:List (Addr×Obj)) (U:St) (H:Hp) (s:Shared) (ea C t:Addr) (od:Option Addr),Inv X pins U H s->s.heap.get? ea=some { cls:=.ref C,dict:=od,data:=.fields #[.ref t,.none,.none,.none,.bool false,.none] }->H ea=none->X.cF.heap.get? ea=none->Ξ (.ref C) od H->X.xe (.ref ea) s
def wG(X:Cx)(Ξ:XK):Prop:=∀(pins:List (Addr×Obj)) (U:St) (H:Hp) (s:Shared) (h':Heap) (ea C:Addr) (vs:List Value),Inv X pins U H s->Heap.MadeExcOf s.heap h' ea (.ref C) vs->Ξ (.ref C) none H->X.xe (.ref ea) { s with heap:=h' }
def O5(X:Cx)(Ξ:XK):Prop:=∀(pins:List (Addr×Obj)) (U:St) (H H':Hp) (s s':Shared) (B:Heap) (ea C:Addr) (od:Option Addr) (a0:Value),Inv X pins U H s->Lies X H H' s B ea C a0 s'->Heap.HeldW B X.stack ea (.ref C) a0 X.env.locals s'.heap->lD (.ref ea) od s'.heap->Ξ (.ref C) od H'->X.xe (.ref ea) s'
def Om(C:Addr)(Ξ:XK)(t:TA):TS:=λ_ U H=>t U H λvs H1=>vs.length<=sizeLine/\Ξ (.ref C) none H1
theorem Yi{x:Str}{B:String}{bm:List Value}{np dM:Pos}{fj:Expr}{t:TA}(hc:X.calm=true)(O:OwnCls x C bm newId X.mg X.base)(FB:ExcBaseFacts B newId cZ bm)(hg:Gl X x)(ha:PA X (fj::rest) t)(hr:wG X Ξ)(he:starEach (fj::rest) X.env=(false,eval fj X.env)::starEach rest X.env)(gD:(backTo dM (starEach rest X.env)).any (·.1)=false)(hd:(x==("__debug__":Str))=false) :
  PS X (.Raise (some (.Call (.Name x np) (fj::rest) [] dM)) none pos) (Om C Ξ t):=by
 intro pins s U H D I h;obtain⟨tl,N,nm,q,bs,hdct,sn,sub,ab,col,dd,k0,k1,k2,k3,k5,mN,hC,hN,nt,T⟩:=O.obj;refine wpAny_Raise_call_subT (nm:=nm) (q:=q) (N:=N) (bs:=bs) (hdct:=hdct) (sn:=sn) (sub:=sub) (ab:=ab) (col:=col) (dd:=dd) (k0:=k0) (k1:=k1) (k2:=k2) (k3:=k3) (k5:=k5)
  FB (T.hasType FB.hasBase) (I.ok.hd hc) (by rw[he];show(false||(backTo dM (starEach rest X.env)).any (·.1))=false;rw[gD];rfl) nt (B9 I hg O.bound ⟨rfl,?_⟩ hd)
 have h':=ha dM pins s U H _ I h;rw[he] at h' ⊢;refine kj (aT h' (λvs eV iM=>?_) λ_ _ y=>y);obtain⟨ws,H1,I1,rv,hz,hE⟩:=iM;exact⟨rfl,by rw[<- rv.length];exact hz,I1.bk _ _ hC,hN.keeps I1.bk,T.keeps I1.bk,λh2 ea hm=>hr pins U H1 eV h2 ea C vs I1 hm hE⟩
def C8(X:Cx)(pins:List (Addr×Obj))(xe:Value->Shared->Prop)(o:Option St:=none):Cx:={ X with pn:=X.pn++pins,xe:=xe,sg:=o }
def o8(X:Cx)(ea:Addr):Cx:={ X with A:=X.A.mark (some (.ref ea)),calm:=false,xe:=λ_ _=>False,sg:=none }
theorem Inv.LM{xe:Value->Shared->Prop}{o:Option St}(ho:∀τ,o=some τ->U=τ)(I:Inv X pins U H s):Inv (C8 X pins xe o) [] U H s :=
 ⟨⟨I.ok.mod,I.ok.kind,I.ok.glob,I.ok.blt,I.ok.above,I.ok.inj,I.ok.has,I.ok.og,I.ok.hd,I.ok.frames,I.ok.oG,I.ok.tL,I.ok.bs,I.ok.mh,I.ok.jE,I.ok.ky,I.ok.E2,I.ok.mG⟩,I.os,I.bare,I.base,I.loc,I.cell,I.free,I.dF,
  λp hp=>I.pin p (by simpa [C8] using hp),I.bB,I.len,ho⟩
theorem Inv.S8{xe:Value->Shared->Prop}{o:Option St}{fy:List (Addr×Obj)}(hs:X.sg=none)(I:Inv (C8 X pins xe o) fy U H s):Inv X pins U H s :=
 ⟨⟨I.ok.mod,I.ok.kind,I.ok.glob,I.ok.blt,I.ok.above,I.ok.inj,I.ok.has,I.ok.og,I.ok.hd,I.ok.frames,I.ok.oG,I.ok.tL,I.ok.bs,I.ok.mh,I.ok.jE,I.ok.ky,I.ok.E2,I.ok.mG⟩,I.os,I.bare,I.base,I.loc,I.cell,I.free,I.dF,
  λp hp=>I.pin p (bq _ hp),I.bB,I.len,λ_ z=>by simp_all⟩
theorem Inv.zR(I:Inv X pins U H s):Inv (o8 X ea) pins U H s :=
 ⟨⟨I.ok.mod,I.ok.kind,I.ok.glob,I.ok.blt,I.ok.above,I.ok.inj,I.ok.has,I.ok.og,λz=>(by cases z),I.ok.frames,I.ok.oG,I.ok.tL,I.ok.bs,I.ok.mh,I.ok.jE,I.ok.ky,I.ok.E2,I.ok.mG⟩,I.os,I.bare,I.base,I.loc,I.cell,I.free,I.dF,I.pin,I.bB,I.len,λcM z=>absurd (show(none:Option St)=some cM from z) (by simp)⟩
theorem Inv.O0(hs:X.sg=none)(J:X.Ok)(I:Inv (o8 X ea) pins U H s):Inv X pins U H s :=
 ⟨J,I.os,I.bare,I.base,I.loc,I.cell,I.free,I.dF,I.pin,I.bB,I.len,λ_ z=>by simp_all⟩
theorem SP.S8{xe:Value->Shared->Prop}{o:Option St}{D:Ends}{f:Flow}(hs:X.sg=none)(h:SP (C8 X pins xe o) [] D f s):SP X pins D f s:=by
 cases f with
 |next=>obtain⟨a,b,I,q⟩:=h;exact⟨a,b,I.S8 hs,q⟩
 |brk=>obtain⟨a,b,I,q⟩:=h;exact⟨a,b,I.S8 hs,q⟩
 |cont=>obtain⟨a,b,I,q⟩:=h;exact⟨a,b,I.S8 hs,q⟩
 |ret u=>obtain⟨v,a,b,I,r,q⟩:=h;exact⟨v,a,b,I.S8 hs,r,q⟩
theorem SP.O0{ea:Addr}{D:Ends}{f:Flow}(hs:X.sg=none)(J:X.Ok)(h:SP (o8 X ea) pins D f s):SP X pins D f s:=by
 cases f with
 |next=>obtain⟨a,b,I,q⟩:=h;exact⟨a,b,I.O0 hs J,q⟩
 |brk=>obtain⟨a,b,I,q⟩:=h;exact⟨a,b,I.O0 hs J,q⟩
 |cont=>obtain⟨a,b,I,q⟩:=h;exact⟨a,b,I.O0 hs J,q⟩
 |ret u=>obtain⟨v,a,b,I,r,q⟩:=h;exact⟨v,a,b,I.O0 hs J,r,q⟩
end
structure iR(x:Str)(C fI:Addr)(iY:List Value)(newId:String)(mg:Str->Option Value)(h:Heap):Prop where
 bound:mg x=some (.ref C)
 obj:∃bm N nm q bs hdct sn sub ab col dd k0 k1 k2 k3 k5 mN,h.get? C=some (excClassObj nm q C N bs bm hdct sn sub ab col dd k0 k1 k2 k3 k5 newId)/\h.Ns N mN/\mN "__init__"=some (.ref fI)/\OwnTail h iY bm
 fn:∃oI,h.get? fI=some oI/\oI.cls=.type "function"
def uC(C:Addr)(f:Str):Sp:=λvs H Q _=>∃ea t v,vs=[.ref ea,v]/\H ea=some (XE ea (·=o9 C t none))/\∀dA,H dA=none->Q .bA (upd (upd H dA (.xd [(f,v)])) ea (XE ea (·=o9 C t (some dA))))
def QD(C:Addr)(f:Str)(Ξ:XK)(t:TA):TS:=λ_ U H=>t U H λvs H1=>∃v,vs=[v]/\∀dA,H1 dA=none->Ξ (.ref C) (some dA) (upd H1 dA (.xd [(f,v)]))
section
variable{fI:Addr}
theorem VR{x:Str}{k:Nat}{fd:FuncData}{ps:List Str}{B:String}{iY:List Value}{np dM:Pos}{fj:Expr}{t:TA}(hc:X.calm=true)(O:iR x C fI iY newId X.mg X.base)(FB:ExcBaseFacts B newId cZ iY)(hg:Gl X x)(F:fQ X.prog X.w X.K X.mg X.base (gR X.prog X.w) k fI fd ps (uC C f))(hr:k6 (k+1) X.A)(hb:Binds X.K fd ps [])(ha:PA X (fj::rest) t)(hx:wF X Ξ)(hex:X.ex=[])(he:starEach (fj::rest) X.env=(false,eval fj X.env)::starEach rest X.env)(gE:(backTo dM (starEach rest X.env)).any (·.1)=false)(hd:(x==("__debug__":Str))=false) :
  PS X (.Raise (some (.Call (.Name x np) (fj::rest) [] dM)) none pos) (QD C f Ξ t):=by
 intro pins s U H D I h;obtain⟨bm,N,nm,q,bs,hdct,sn,sub,ab,col,dd,k0,k1,k2,k3,k5,mN,hC,hN,nt,T⟩:=O.obj;obtain⟨oI,hf,Kw⟩:=O.fn;rw[arm_exec_Raise];refine aa (eK (VT (C:=C) (nm:=nm) (q:=q) (N:=N) (bs:=bs) (bm:=bm) (hdct:=hdct) (sn:=sn) (sub:=sub) (ab:=ab) (col:=col) (dd:=dd) (k0:=k0) (k1:=k1) (k2:=k2) (k3:=k3) (k5:=k5) (newId:=newId) (T.hasType FB.hasBase) (I.ok.hd hc)
  (aa (aT (wpAny_Call_ofName (B9 I hg O.bound ?_ hd)) (λv gB nj=>aa (eK (ah nj))) λ_ _ x=>x))))
 have h':=ha dM pins s U H _ I h;rw[he] at h' ⊢;unfold callWith;refine aa (aY (aT (kj (Q:=λa eV=>a.kw=[]/\∃vs H1,Inv X pins U H1 eV/\Vals vs a.pos/\∃v,vs=[v]/\∀dA,H1 dA=none->Ξ (.ref C) (some dA) (upd H1 dA (.xd [(f,v)]))) (aT h' (λvs eV iM=>?_) λ_ _ y=>y)) (λa eV iM=>aa (eK ?_)) λ_ _ x=>x))
 ·obtain⟨ws,H1,I1,rv,z⟩:=iM;exact⟨rfl,ws,H1,I1,rv,z⟩
 obtain⟨apos,Um⟩:=a;obtain⟨Ks,vs,H1,I1,rv,v,rfl,JW⟩:=iM;obtain rfl:Um=[]:=Ks;obtain⟨u,rfl,ru⟩:=vals1 rv;have bk:=I1.bk;obtain⟨hp,g,d,tk,os⟩:=eV;have yk:((backTo dM ((false,eval fj X.env)::starEach rest X.env)).any λx=>x.1)=false:=by show(false||(backTo dM (starEach rest X.env)).any (·.1))=false;rw[gE];rfl
 simp only[yk];refine aa (wpAny_keeperOf_exc (bk _ _ hC) ?_);refine aa (Wn (rest:=[u]) FB (T.keeps bk) (bk _ _ hC) (hN.keeps bk) nt (bk _ _ hf) Kw (λh2 e hm=>?_) (by rw[iH,fU];omega));have en:H1 e=none:=by
  cases z:H1 e with
  |none=>rfl
  |some o =>
   obtain⟨ob,z2⟩:=(I1.bB e o z).get;exact absurd (show hp.get? e=some ob from z2) (by rw[hm.new];simp)
 have ne:∀b o,hp.get? b=some o->b≠e:=λb o z1 z2=>by rw[z2,hm.new] at z1;cases z1
 obtain⟨t0,ht,_,_⟩:=hm.there;have h0:X.cF.heap.get? e=none:=by
  cases z:X.cF.heap.get? e with
  |none=>rfl
  |some o=>obtain⟨o',z2⟩:=I1.base.there e o z (by rw[hex];simp);exact absurd rfl (ne _ _ z2)
 have I2:=(I1.kept (h':=h2) (t':=tk) hm.keeps).GO (φ:=(·=o9 C t0 none)) en ht rfl h0
  (λz=>by obtain⟨m,⟨o,_,_,q,_⟩,_⟩:=I1.loc;exact ne _ _ q z.symm)
  (λy c z=>by obtain⟨_,o,q,_⟩:=I1.cell y c z;exact ne _ _ q) λp hp=>ne _ _ (I1.pin p hp).1
 have sp:uC C f [.ref e,v] (upd H1 e (XE e (·=o9 C t0 none))) (λr H3=>r=.bA/\∃dA,dA≠e/\H1 dA=none/\H3=upd (upd (upd H1 e (XE e (·=o9 C t0 none))) dA (.xd [(f,v)])) e (XE e (·=o9 C t0 (some dA)))) (λ_ _ _=>False) :=
  ⟨e,t0,v,rfl,i3,λdA hd=>by
   have n:dA≠e:=λz=>by rw[z,i3] at hd;cases hd
   exact ⟨rfl,dA,n,by rw [c7 n] at hd;exact hd,rfl⟩⟩
 have r2:Vals [V.ref e,v] [Value.ref e,u]:=.cons rfl rv;have hl:([Value.ref e,u]++[]).length=ps.length:=F.len _ _ _ _ sp;refine jd (fo (F.run _ X.stack _ _ ⟨[.ref e,u],[]⟩ [.ref e,u] _ _ _ (hr.make C [u] []) (I2.BG.make C [u] []) (hb _ [.ref e,u] I2.gC hl) r2 sp) λr s' jK=>?_);cases r with
 |error x=>obtain⟨_,_,_,_,_,_,_,_,_,z⟩:=jK;exact z.elim
 |ok fl =>
  cases fl with
  |ret u' =>
   obtain⟨v',H3,I3,xC,ev,dA,n,hn,e3⟩:=I2.after jK;subst ev;subst e3;have h3:upd (upd (upd H1 e (XE e (·=o9 C t0 none))) dA (.xd [(f,v)])) e (XE e (·=o9 C t0 (some dA))) e=some (XE e (·=o9 C t0 (some dA))):=i3;obtain⟨o3,g3,p3⟩:=XE.get I3.bB h3;have I4:=I3.HL h3;have eH:(λb=>if b=e then none else upd (upd (upd H1 e (XE e (·=o9 C t0 none))) dA (.xd [(f,v)])) e (XE e (·=o9 C t0 (some dA))) b)=upd H1 dA (.xd [(f,v)]):=by
    funext b
    by_cases z:b=e
    ·rw[aF z,z,c7 n.symm,en]
    ·rw[aA z,c7 z];unfold upd;split
     ·rfl
     ·rfl
   rw[eH] at I4;refine⟨xC,aa (aY (wpAny_point (ah ?_)))⟩;refine⟨e,t0,some dA,rfl,I4.bk _ _ hC,by rw[g3,p3],hx pins U _ s' e C t0 (some dA) I4 (by rw[g3,p3]) (by rw[c7 n.symm,en]) h0 (JW dA hn)⟩
  |next=>exact False.elim jK
  |brk=>exact False.elim jK
  |cont=>exact False.elim jK
def Ts(K:PySem.W.Frag)(ta tv:TE)(f:Str):TS:=λD U H=>tv U H λy H1=>ta U H1 λx H2=>∃ea C t,x=.ref ea/\H2 ea=some (XE ea (·=o9 C t none))/\I9 K C f/\∀dA,H2 dA=none->D.nx U (upd (upd H2 dA (.xd [(f,y)])) ea (XE ea (·=o9 C t (some dA))))
theorem PQ{o value:Expr}{pos':Pos}{ta tv:TE}(ha:PE X o ta)(hv:PE X value tv)(hs:swapsWith value (some (.Attribute o f pos')) pos.line X.env=pure false):PS X (.Assign [.Attribute o f pos'] value pos) (Ts X.K ta tv f):=by
 intro pins s U H D I h;refine nL (cL (hv pins s U H _ I h) λu s1 ⟨y,H1,I1,ry,q⟩=>cL (ha pins s1 U H1 _ I1 q) λov s2 br=>?_) hs;obtain⟨x,H2,I2,rx,a,C,t,ex,ea,c,q2⟩:=br;subst ex;obtain rfl:ov=Value.ref a:=rx;exact Qo I2 ea c ry λdA s3 hd I3=>⟨U,_,I3,q2 dA hd⟩
def LF(K:PySem.W.Frag)(ta:TE)(f:Str):TE:=λU H Q=>ta U H λx H1=>∃ea C dA φ fs v,x=.ref ea/\H1 ea=some (XE ea φ)/\(∀o,φ o->o.cls=.ref C/\o.dict=some dA/\PySem.W.notCls o=true)/\I9 K C f/\H1 dA=some (.xd fs)/\fs.lookup f=some v/\Q v H1
theorem Py{ta:TE}(he:PE X e ta)(hb:attributeBase e f X.env (eval e X.env)=eval e X.env):PE X (.Attribute e f pos) (LF X.K ta f):=by
 intro pins s U H Q I h;refine Ha hb (cL (he pins s U H _ I h) λu s1 br=>?_);obtain⟨x,H1,I1,rx,a,C,dA,φ,fs,v,ex,ea,xY,c,ed,l,q⟩:=br;subst ex;obtain rfl:u=Value.ref a:=rx;exact OM I1 ea xY c ed l λu' s2 I2 ru=>⟨v,H1,I2,ru,q⟩
def uc:List Stmt->Option (Str×Str×Str)
 |[.Assign [.Attribute (.Name a _) f _] (.Name b _) _]=>some (a,f,b)
 |_=>none
theorem XD{l:List Stmt}{a g b:Str}(h:uc l=some (a,g,b)):∃p1 p2 p3 p4,l=[.Assign [.Attribute (.Name a p1) g p2] (.Name b p3) p4]:=by
 unfold uc at h;split at h
 ·cases h;exact⟨_,_,_,_,rfl⟩
 ·cases h
theorem Mm{CX:lE}{K:PySem.W.Frag}{mg:Str->Option Value}{base:Heap}{k:Nat}{qn a b:Str}{st:Stmt}{fd:FuncData}(F:mn K "__init__" qn st fI fd)(S:fT [a,b] [a,b] (d8 st))(hB:uc (j4 st)=some (a,f,b))(hl:(d8 st).names.lookup a=some .local/\(d8 st).names.lookup b=some .local)(hd:a≠"__debug__"/\b≠"__debug__"/\a≠"__classdict__"/\b≠"__classdict__")(c:I9 K C f):fQ P w K mg base CX (k+1) fI fd [a,b] (uC C f):=by
 obtain⟨oc,od,kV,doc,pm,an,eB,ct,jb,rfl,lk,jl⟩:=F.ex;obtain⟨p1,p2,p3,p4,eb⟩:=XD hB;refine Ig lk jl S (λvs H Q E ⟨_,_,_,z,_⟩=>by rw[z];rfl) λA outer s H vs Q E hr h=>?_;obtain⟨ea,t,v,rfl,he,q⟩:=h;have va:PE (L6 CX P w K mg base [a,b] qn (d8 st) fI eB A outer s H E) (.Name a p1) (AM 0):=wA rfl (.inl hl.1) (by simpa using hd.1) (by simpa using hd.2.2.1);have vb:PE (L6 CX P w K mg base [a,b] qn (d8 st) fI eB A outer s H E) (.Name b p3) (AM 1):=wA rfl (.inl hl.2) (by simpa using hd.2.1) (by simpa using hd.2.2.2);rw[eb];exact⟨_,AA (PQ va vb rfl) Ak,⟨v,rfl,.ref ea,rfl,ea,C,t,rfl,he,c,λdA hn=>q dA hn⟩⟩
end
section
variable{D:Ends}{y:Str}{su:List Stmt}
theorem Inv.MN{m':Str->Option Value}{tk:Nat}(I:Inv X pins U H s)(hs:X.sg=none)(hn:h'.Ns X.env.locals m')(sb:Heap.SameBut X.env.locals s.heap h'):Inv X pins (List.replicate X.N.length none) H { s with heap:=h',toks:=tk }:=by
 have xO:∀b o,X.cF.heap.get? b=some o->b≠X.env.locals:=λb o e=>aC (au (aj e) I.ok.above);have gt:∀{b o},b≠X.env.locals->s.heap.get? b=some o->h'.get? b=some o:=λ{b o} n e=>(sb.2 b n).trans e;refine⟨I.ok,I.os,I.bare,⟨λb o e n hb hx=>gt (xO b o e) (I.base.keep b o e n hb hx),λb o e n hb hx=>?_,I.base.free,λb o e hx=>?_,I.base.gz,I.base.gi,I.base.gA⟩,⟨m',hn,λi x v _ e _=>?_⟩,λx c e=>?_,I.free,I.dF,λp hp=>?_,λa o e=>?_,by simp,λ_ z=>by rw[hs] at z;cases z⟩
 ·obtain⟨sl,q⟩:=I.base.slot b o e n hb hx;exact⟨sl,gt (xO b o e) q⟩
 ·obtain⟨o',q⟩:=I.base.there b o e hx;exact⟨o',gt (xO b o e) q⟩
 ·rw[cg] at e;split at e<;>cases e
 ·obtain⟨w',z⟩:=I.cell x c e;exact⟨w',z.sameBut sb (I.oa x c e)⟩
 ·obtain⟨e,n,ne,nf,d⟩:=I.pin p hp;exact⟨gt ne e,n,ne,nf,d⟩
 ·refine(I.bB a o e).v8 (λb u hb q=>gt (λz=>?_) q) (λ_ q=>q) λ_ _ q=>q;rcases hb with rfl|hb
  ·rw[z,I.free] at e;cases e
  ·rw[z,I.free] at hb;cases hb
def Eh(X:Cx)(D:Ends)(C:Addr)(od:Option Addr)(H:Hp)(y:Str)(su:List Stmt):Prop :=
 ∃(f:Str) (p1 p2 p3 p4:Pos) (i:Nat) (dA:Addr) (fs:List (Str×V)) (v:V),su=[.Return (some (.List [.Attribute (.Name y p1) f p2] p3)) p4]/\X.N[i]?=some y/\X.N.Nodup/\X.env.scope.names.lookup y=some .local /\
  (y==("__debug__":Str))=false/\(y==("__classdict__":Str))=false/\od=some dA/\H dA=some (.xd fs)/\fs.lookup f=some v/\I9 X.K C f/\∀p,H p=none->D.rt (.ref p) (upd H p (.lst [v]))
def M8(X:Cx)(D:Ends)(cM:St)(C:Addr)(od:Option Addr)(H:Hp):List ExceptHandler->Prop
 |.ExceptHandler (some (.Name x _)) none (kz::kB) _::rest=>Gl X x/\(x==("__debug__":Str))=false/\∃C' b,X.mg x=some (.ref C')/\PySem.W.exmOne X.K (.ref C) (.ref C')=some b /\
   (if b=true then ∃t:TS,(∀ea,iZ (o8 X ea) (kz::kB) t)/\t D cM H else M8 X D cM C od H rest)
 |.ExceptHandler (some (.Name x _)) (some y) (kz::kB) _::rest=>Gl X x/\(x==("__debug__":Str))=false/\∃C' b,X.mg x=some (.ref C')/\PySem.W.exmOne X.K (.ref C) (.ref C')=some b /\
   (if b=true then Eh X D C od H y (kz::kB) else M8 X D cM C od H rest)
 |[]=>∃Ξ:XK,O5 X Ξ/\Ξ (.ref C) od H
 |_=>False
theorem VV(jJ:X.sg=none)(I:Inv X pins U H s)(hn:H ea=none)(he:s.heap.get? ea=some o)(ho:o.cls=.ref C/\o.dict=od/\PySem.W.notCls o=true)(h0:X.cF.heap.get? ea=none)(hl:ea≠X.env.locals)(hc:∀x c,X.env.cells.lookup x=some c->c≠ea)(hp:∀p∈X.pn++pins,p.1≠ea)(R:Eh X D C od H y su) :
  wpAny (model X.prog X.w) (X.A.mark (some (.ref ea))) (storeName X.env y (.ref ea)) (λ_ eV=>wpAny (model X.prog X.w) (X.A.mark (some (.ref ea))) (execs su X.env) (λf gB =>
   wpAny (model X.prog X.w) X.A (do bindName X.env y .none;unbindBehindTheSuite X.env y pos) (λ_ jB=>SP X pins D f jB) X.xe gB) (λ_ _=>False) eV) E s:=by
 obtain⟨f,p1,p2,p3,p4,i,dA,fs,v,rfl,hi,hN,hy,d1,d2,rfl,hd,hv,cl,q⟩:=R;have nf:dA≠ea:=λz=>by rw[z,hn] at hd;cases hd
 have J:=(I.GO (φ:=λo=>o.cls=.ref C/\o.dict=some dA/\PySem.W.notCls o=true) hn he ho h0 hl hc hp).zR (ea:=ea);refine AF (X:=o8 X ea) (v:=.ref ea) J ⟨hN,rfl⟩ hi (.inl hy) rfl (λs2 J2=>?_) (.inr hy);have T:iZ (o8 X ea) [.Return (some (.List [.Attribute (.Name y p1) f p2] p3)) p4] _:=AA (GC (GA (B8 (Py (f:=f) (wA (X:=o8 X ea) hi (.inl hy) d1 d2) rfl) K8))) Ak;refine aT (T pins s2 _ _ { nx:=λ_ _=>False,rt:=λw H1=>∃p,w=.ref p/\upd H ea (XE ea λo=>o.cls=.ref C/\o.dict=some dA/\PySem.W.notCls o=true) p=none/\H1=upd (upd H ea (XE ea λo=>o.cls=.ref C/\o.dict=some dA/\PySem.W.notCls o=true)) p (.lst [v]),bk:=λ_ _=>False,ct:=λ_ _=>False } J2 ?_) (λfl s3 h3=>?_) λ_ _ z=>z.elim
 ·refine⟨.ref ea,?_,ea,C,dA,_,fs,v,rfl,i3,λ_ z=>z,cl,by rw[c7 nf];exact hd,hv,by rw[iH,fU];omega,λp hp=>⟨p,rfl,hp,rfl⟩⟩;rw[aR (by rw[J.len];exact(ax.mp hi).1)]
 ·cases fl with
  |next=>obtain⟨_,_,_,z⟩:=h3;exact z.elim
  |brk=>obtain⟨_,_,_,z⟩:=h3;exact z.elim
  |cont=>obtain⟨_,_,_,z⟩:=h3;exact z.elim
  |ret u =>
   obtain⟨w,cx,H1,J3,eF,p,rfl,hp,rfl⟩:=h3;have I3:=J3.O0 jJ I.ok;obtain⟨m,hm,_⟩:=I3.loc;refine wpAny_nameGoes (by unfold Env.kindOf;exact hy) hm (by rw[I.ok.kind];rfl) λh' m' yv sb=>?_;have pe:p≠ea:=λz=>by rw[z,i3] at hp;cases hp
   have I4:=(I3.MN (tk:=s3.toks+1) jJ yv sb).HL (ea:=ea) (by rw[c7 pe.symm,i3]);refine⟨.ref p,_,_,I4,eF,?_⟩;have eH:(λb=>if b=ea then none else upd (upd H ea (XE ea λo=>o.cls=.ref C/\o.dict=some dA/\PySem.W.notCls o=true)) p (.lst [v]) b)=upd H p (.lst [v]):=by
    funext b
    by_cases z:b=ea
    ·rw[aF z,z,c7 pe.symm,hn]
    ·rw[aA z];unfold upd;split
     ·rfl
     ·rfl
   rw[eH];exact q p (by rw[c7 pe] at hp;exact hp)
end
section
variable{e:Value}{D:Ends}
def S4(X:Cx)(pins:List (Addr×Obj))(D:Ends)(hs:List ExceptHandler):Value->Shared->Prop:=λe bE =>
 wpAny (model X.prog X.w) X.A (noteFrame e X.env) (λ_ eV=>wpAny (model X.prog X.w) X.A (setFlight e none) (λ_ gB=>wpAny (model X.prog X.w) X.A (handleBy e X.env hs) (SP X pins D) X.xe gB) X.xe eV) X.xe bE
theorem Lies.step{h1:Heap}(I:Inv X pins U H s)(l:Lies X H H' s B ea C a0 s')(st:B.StaysIn h1)(us:s'.heap.UpToSlots h1):Lies X H H' s B ea C a0 { s' with heap:=h1 }:=by
 have J:=l.inv I;obtain⟨u,ok,ib⟩:=UT l.un l.bB l.mz st us λb hb=>⟨J.Z3 b hb,J9 J hb⟩
 exact⟨l.os,l.bare,u,ok,ib⟩
theorem Xb{l:List Env}{L:Addr}{cls:Value}{Q:Unit->Shared->Prop}(fw:Heap.FlyingW B l ea cls a0 s.heap)(h:∀h',Heap.HeldW B l ea cls a0 L h'->(∀b o,s.heap.get? b=some o->(∀vs,o.data≠.fields vs)->h'.get? b=some o)->Q Unit.unit { s with heap:=h' }):wpAny M A (setFlight (.ref ea) (some L)) Q E s:=by
 obtain⟨f1,f2,f3,oe,vs,T,oT,ts,he,jM,hd,h1,sW,vE,hT,qf,h3⟩:=fw;have sS:=(dI.mp h3).1;have other:∀b,b≠T->(s.heap.update T (Obj.mapFields (·.setIfInBounds 3 ((some L).elim Value.none λf=>rawInt f)))).get? b=s.heap.get? b :=
  λb hb=>bU _ _ (dg hb)
 have jF:∀b o,s.heap.get? b=some o->(∀vs,o.data≠.fields vs)->b≠T:=λb o hb sV q=>by
  rw[q,hT] at hb;injection hb with hb;subst hb;exact sV ts qf
 refine aa (bQ he hd h1 ?_);refine cG hT qf sS (h _ ⟨λb o KJ=>(other b λq=>by simp_all).trans (f1 b o KJ),f2,
  f3.of_keeps λb o hb sV=>⟨o,(other b (jF b o hb sV)).trans hb,rfl⟩,?_⟩ λb o hb sV=>(other b (jF b o hb sV)).trans hb)
 exact⟨oe,vs,T,_,_,(other ea (dg vE)).trans he,jM,hd,h1,sW,vE,aL _ hT (cC (aZ qf _)),aZ qf _,by simp[sS]⟩
theorem X9{B:Heap}{ea C:Addr}{a0:Value}{cM:St}(jJ:X.sg=none)(hex:X.ex=[])(hf:X.env.frame=some X.env.locals)(sY:cM.length=U.length)(sQ:∀(i:Nat) v,cM[i]?=some (some v)->U[i]?=some (some v)):∀(hs:List ExceptHandler) (s':Shared),Inv X pins U H s->Lies X H H' s B ea C a0 s'->Heap.FlyingW B X.stack ea (.ref C) a0 s'.heap->lD (.ref ea) od s'.heap->M8 X D cM C od H' hs ->
  wpAny (model X.prog X.w) X.A (handleBy (.ref ea) X.env hs) (SP X pins D) X.xe s'
 |[],s',I,l,fw,dc,t=>by
  obtain⟨Ξ,hh,hE⟩:=t;refine wpAny_handleBy_nil ?_;unfold PySem.passOn;obtain⟨f1,f2,f3,oe,vs,T,oT,ts,he,jM,hd,h1,_⟩:=id fw;refine aa (bQ he hd h1 ?_);rw[aA (by simp),hf];refine aa (aT (p7 (F6 _ _) (Xb (E:=λ_ _=>False) (Q:=λ_ s2=>∃h2,s2={ s' with heap:=h2 }/\Heap.HeldW B X.stack ea (.ref C) a0 X.env.locals h2/\∀b o,s'.heap.get? b=some o->(∀vs,o.data≠.fields vs)->h2.get? b=some o) fw λh2 held k=>⟨h2,rfl,held,k⟩)) (λ_ s2 z=>?_) λ_ _ z=>z.1.elim);obtain⟨⟨h2,rfl,held,k⟩,dk⟩:=z;refine wpAny_throw ?_;have l2:=l.step I held.1 (λb o hb hn=>⟨o.slots,k b o hb hn⟩);exact hh pins U H H' s _ B ea C od a0 I l2 held (dc.keep dk) hE
 |.ExceptHandler none _ _ _::_,_,_,_,_,_,t=>by unfold M8 at t;exact t.elim
 |.ExceptHandler (some e) nm bd pos::rest,s',I,l,fw,dc,t=>by
  have J:=l.inv I;have JM:Inv (o8 X ea) pins U H' s':=J.zR;have LT:PySem.W.Looks (model X.prog X.w) s'.heap (typeOf (.ref ea)) (.ref C):=λA Q E s2 k q=>by
   obtain⟨ob,ho,hc⟩:=fw.there;exact wpAny_typeOf_ref (k _ _ ho) (by rw[hc];exact q)
  cases e
  case Name x np =>
   cases bd with
   |nil=>cases nm<;>exact t.elim
   |cons kz kB =>
    cases nm with
    |some y =>
     obtain⟨hg,gh,C',b,hm,hx,q⟩:=t;refine wpAny_handleBy_cons (codeAny_handlers_test ?_) (by intro z;cases z);refine B9 (X:=o8 X ea) JM hg hm ?_ gh;refine(PySem.W.exm_one (M:=model X.prog X.w) J.gC LT hx).here ?_;cases b with
     |false =>
      simp only[Bool.false_eq_true,if_false] at q;exact X9 jJ hex hf sY sQ rest s' I l fw dc q
     |true =>
      simp only[if_true] at q;refine codeAny_handlers_suite_as (aT (p7 (F6 _ _) (wpAny_setFlight_noneW (E:=λ_ _=>False) (Q:=λ_ s2=>∃h2,s2={ s' with heap:=h2 }/\B.StaysIn h2/\h2.TracedW B ea (.ref C) a0/\∀b o,s'.heap.get? b=some o->(∀vs,o.data≠.fields vs)->h2.get? b=some o) fw.1 fw.2.2.1 fw.2.2.2.at λh2 k1 k2 k3 k4=>⟨h2,rfl,k1,k3,k4⟩)) (λ_ s2 z=>?_) λ_ _ z=>z.1.elim);obtain⟨⟨h2,rfl,k1,k3,k4⟩,dk⟩:=z;have l2:=l.step I k1 (λb o hb hn=>⟨o.slots,k4 b o hb hn⟩);have J2:=l2.inv I;obtain⟨oe,vs,_,_,_,he,jM,hd,_⟩:=k3;obtain⟨Zf,ob,ee,hb,Kg⟩:=dc.keep dk;cases ee;obtain rfl:ob=oe:=by
       have z:h2.get? ea=some ob:=hb;rw[he] at z;exact(aq z).symm
      have hB:B.get? ea=none:=fw.2.1;have Cs:ea∉eR X.stack:=λz=>by
       obtain⟨o1,e1,nf⟩:=J9 J2 z;rw[show({ s' with heap:=h2 }:Shared).heap.get? ea=_ from he] at e1;cases e1;exact nf _ hd
      have ns:∀b o,s.heap.get? b=some o->b≠ea:=λb o q z=>by
       rw[z] at q;have:=l2.mz ea ob he Cs (.inr ⟨o,q⟩);rw[hB] at this;cases this
      have hn:H' ea=none:=by
       cases z:H' ea with
       |none=>rfl
       |some o =>
        have:=l2.mz ea ob he Cs (.inl (by rw[z];simp));rw[hB] at this;cases this
      refine aT (VV jJ J2 hn he ⟨jM.1,Kg,by unfold PySem.W.notCls;rw[hd]⟩ ?_ ?_ ?_ (λp hp=>ns _ _ (I.pin p hp).1) q) (λ_ _ z=>aT z (λ_ _ z=>z) λ_ _ z=>z.elim) λ_ _ z=>z
      ·cases z:X.cF.heap.get? ea with
       |none=>rfl
       |some o =>
        obtain⟨o',z2⟩:=I.base.there ea o z (by rw[hex];simp);exact absurd rfl (ns _ _ z2)
      ·obtain⟨m,⟨o,_,_,q,_⟩,_⟩:=I.loc;exact λz=>ns _ _ q z.symm
      ·intro x c z;obtain⟨_,o,q,_⟩:=I.cell x c z;exact ns _ _ q
    |none =>
     obtain⟨hg,gh,C',b,hm,hx,q⟩:=t;refine wpAny_handleBy_cons (codeAny_handlers_test ?_) (by intro z;cases z);refine B9 (X:=o8 X ea) JM hg hm ?_ gh;refine(PySem.W.exm_one (M:=model X.prog X.w) J.gC LT hx).here ?_;cases b with
     |false =>
      simp only[Bool.false_eq_true,if_false] at q;exact X9 jJ hex hf sY sQ rest s' I l fw dc q
     |true =>
      simp only[if_true] at q;obtain⟨t,ht,hq⟩:=q;refine codeAny_handlers_suite ?_;refine wpAny_setFlight_noneW fw.1 fw.2.2.1 fw.2.2.2.at λh2 k1 k2 k3 k4=>?_;have l2:=l.step I k1 (λb o hb hn=>⟨o.slots,k4 b o hb hn⟩);have J2:=l2.inv I;have J3:Inv (o8 X ea) pins cM H' { s' with heap:=h2 }:=(Inv.weak jJ J2 sY sQ).zR;refine aT (ht ea pins _ _ H' D J3 hq) (λf s2 hf=>hf.O0 jJ I.ok) λ_ _ z=>z.elim
  all_goals (cases nm<;>exact t.elim)
theorem X'{hs:List ExceptHandler}{o:Option St}{cM:St}(jJ:X.sg=none)(hex:X.ex=[])(eJ:X.stack=X.env::X.outer)(hf:X.env.frame=some X.env.locals)(xZ:∀U:St,U.length=X.N.length->(∀τ,o=some τ->U=τ)->cM.length=U.length/\∀(i:Nat) v,cM[i]?=some (some v)->U[i]?=some (some v))(hT:∀C od H',Ξ (.ref C) od H'->M8 X D cM C od H' hs) :
  Passes (gR X.prog X.w) (C8 X pins (S4 X pins D hs) o) Ξ:=by
 intro fy U H s e s' I0 h;have I:Inv X pins U H s:=I0.S8 jJ;obtain⟨sY,sQ⟩:=xZ U I.len I0.sg;obtain⟨C,od,H',ho,hb,hu,bB,⟨ea,a0,B,rfl,fw,hB⟩,dc,hE⟩:=h;have l:Lies X H H' s B ea C a0 s':=⟨ho,hb,hu,bB,hB⟩
 have fw:Heap.FlyingW B X.stack ea (.ref C) a0 s'.heap:=fw;show S4 X pins D hs (.ref ea) s';unfold S4;have qp:=fw;rw[eJ] at qp;refine aT (p7 (Ho _ _) (wpAny_looks_onW (E:=λ_ _=>False) (Q:=λ_ s2=>∃h1,s2={ s' with heap:=h1 }/\Heap.HeldW B (X.env::X.outer) ea (.ref C) a0 X.env.locals h1/\s'.heap.UpToSlots h1) (by rw[I.ok.frames,eJ]) hf qp λh1 held us=>⟨h1,rfl,held,us⟩)) (λ_ s2 z=>?_) λ_ _ z=>z.1.elim;obtain⟨⟨h1,rfl,held,us⟩,Lu⟩:=z;have l1:=l.step I held.1 us;refine aT (p7 (F6 _ _) (wpAny_landsW (E:=λ_ _=>False) (Q:=λ_ s2=>∃h2,s2={ s' with heap:=h2 }/\Heap.FlyingW B (X.env::X.outer) ea (.ref C) a0 h2/\h1.UpToSlots h2) held λh2 fl xw=>⟨h2,rfl,fl,xw⟩)) (λ_ s2 z=>?_) λ_ _ z=>z.1.elim;obtain⟨⟨h2,rfl,fl,xw⟩,Ls⟩:=z;have l2:=l1.step I fl.1 xw;rw[<- eJ] at fl;exact X9 jJ hex hf sY sQ hs _ I l2 fl ((dc.keep Lu).keep Ls) (hT C od H' hE)
theorem GF{hs:List ExceptHandler}{h₀:ExceptHandler}{body:List Stmt}{t:Ends->St->TS}{Ξ:Ends->St->XK}(f:St->Option St)(z:St->St)(hz:∀U τ,f U=some τ->U=τ)(jJ:X.sg=none)(hb:∀pins D U,(∀C od H',Ξ D U (.ref C) od H'->M8 X D (z U) C od H' (h₀::hs))->iZ (C8 X pins (S4 X pins D (h₀::hs)) (f U)) body (t D U)) :
  PS X (.Try body (h₀::hs) [] [] pos) (λD U H=>(∀C od H',Ξ D U (.ref C) od H'->M8 X D (z U) C od H' (h₀::hs))/\t D U D U H):=by
 intro pins s U H D I ⟨hT,h⟩;refine wpAny_Try_except (aT (hb pins D U hT [] s U H D (I.LM (hz U)) h) (λf s1 q=>?_) λe s1 q=>q);have q:=q.S8 jJ;cases f with
 |next =>
  obtain⟨cx,H',I',q⟩:=q;exact cL (qY ⟨cx,H',I',q⟩) λ_ _ z=>z
 |brk=>exact q
 |cont=>exact q
 |ret u=>exact q
end
theorem V0{B B' h h2:Heap}{C:Addr}(hB:∀b,b≠C->B'.get? b=B.get? b)(hh:∀b,b≠C->h2.get? b=h.get? b){oC:Obj}(hC:B.get? C=some oC):∀{l:List Env},h.FunFrames B l->h2.FunFrames B' l
 |[],x=>x
 |env::r,⟨x1,⟨L,o,x2,x3,x4,x5⟩,x6⟩=>by
  have hL:L≠C:=λz=>by rw[z,hC] at x3;cases x3
  exact⟨x1,⟨L,o,x2,(hB L hL).trans x3,(hh L hL).trans x4,x5⟩,V0 hB hh hC x6⟩
theorem Lies.Ik{h2:Heap}{Cc L:Addr}{o2:Obj}(l:Lies X H H' s B ea Cc a0 s')(held:Heap.HeldW B X.stack ea (.ref Cc) a0 L s'.heap)(sb:Heap.SameBut C s'.heap h2)(vH:h2.get? C=some o2)(Cp:o2.isFreed=false)(hn:H C=none)(hs:s.heap.get? C=some o)(nf:C∉eR X.stack) :
  ∃B',Lies X H H' { s with heap:=s.heap.update C λ_=>o2 } B' ea Cc a0 { s' with heap:=h2 }/\Heap.HeldW B' X.stack ea (.ref Cc) a0 L h2:=by
 obtain⟨oC,eC⟩:=l.un.there C o hs (by simp);have n':H' C=none:=l.un.free C o hs hn (by simp);have hB:B.get? C=some oC:=l.mz C oC eC nf (.inr ⟨o,hs⟩);have b1:(B.update C λ_=>o2).get? C=some o2:=aL _ hB Cp;have b2:∀b,b≠C->(B.update C λ_=>o2).get? b=B.get? b:=λb hb=>bU _ _ (dg hb);have s1:(s.heap.update C λ_=>o2).get? C=some o2:=aL _ hs Cp;have s2:∀b,b≠C->(s.heap.update C λ_=>o2).get? b=s.heap.get? b:=λb hb=>bU _ _ (dg hb);have nA:∀b,b≠C->h2.get? b=s'.heap.get? b:=sb.2;have ne:∀{b:Addr},B.get? b=none->b≠C:=λ{b} h z=>by rw[z,hB] at h;cases h
 obtain⟨f1,f2,f3,oe,vs,T,oT,ts,he,jM,hd,h1,sW,vE,hT,qf,h3⟩:=held;refine⟨B.update C λ_=>o2,⟨l.os,l.bare,⟨λb u e n1 n2 n3=>?_,λb u e n1 n2 n3=>?_,λb u e n1 n2=>?_,λb u e n1=>?_,l.un.gz,l.un.gi,l.un.gA⟩,?_,λb u e n1 q=>?_⟩,λb u e=>?_,(b2 ea (ne f2)).trans f2,V0 b2 nA hB f3,oe,vs,T,oT,ts,(nA ea (ne f2)).trans he,jM,hd,h1,(b2 T (ne sW)).trans sW,vE,(nA T (ne sW)).trans hT,qf,h3⟩
 ·by_cases z:b=C
  ·subst z;rw[show({ s with heap:=s.heap.update b λ_=>o2 }:Shared).heap.get? b=_ from s1] at e;cases e;exact vH
  ·exact(nA b z).trans (l.un.keep b u ((s2 b z).symm.trans e) n1 n2 n3)
 ·have z:b≠C:=λz=>nf (z▸n2);obtain⟨sl,q⟩:=l.un.slot b u ((s2 b z).symm.trans e) n1 n2 n3;exact⟨sl,(nA b z).trans q⟩
 ·by_cases z:b=C
  ·subst z;exact n'
  ·exact l.un.free b u ((s2 b z).symm.trans e) n1 n2
 ·by_cases z:b=C
  ·subst z;exact⟨_,vH⟩
  ·obtain⟨w,q⟩:=l.un.there b u ((s2 b z).symm.trans e) n1;exact⟨w,(nA b z).trans q⟩
 ·intro a u e;exact (l.bB a u e).v8 (λb w hb q=>by
   have:b≠C:=λz=>by
    rcases hb with rfl|hb
    ·rw[z,n'] at e;cases e
    ·rw[z,n'] at hb;cases hb
   exact (nA b this).trans q) (λb hb=>hb) (λb xs hb=>hb)
 ·by_cases z:b=C
  ·subst z;rw[show({ s' with heap:=h2 }:Shared).heap.get? b=_ from vH] at e;cases e;exact b1
  ·refine(b2 b z).trans (l.mz b u ((nA b z).symm.trans e) n1 ?_);rcases q with q|⟨o0,q⟩
   ·exact .inl q
   ·exact .inr ⟨o0,(s2 b z).symm.trans q⟩
 ·by_cases z:b=C
  ·subst z;rw[b1] at e;cases e;exact vH
  ·exact(nA b z).trans (f1 b u ((b2 b z).symm.trans e))
theorem Td{t:TE}(he:PE X e t):PE X (.FormattedValue e (-1) none pos) (λU H Q=>t U H λx H1=>(∃i,x=.int i/\i.natAbs.log2<1920/\Q (.str (toString i)) H1)\/∃y,x=.str y/\y.length<=sizeLine/\Q (.str y) H1):=by
 intro pins s U H Q I h;refine wpAny_FormattedValue_plain (cL (he pins s U H _ I h) λv s1 br=>?_);obtain⟨x,H1,I1,r1,q1⟩:=br;rcases q1 with⟨i,rfl,hd,q⟩|⟨y,rfl,hy,q⟩
 ·obtain⟨t,rfl⟩:=r1;exact wpAny_formatField_int hd ⟨.str _,H1,I1.tok _,⟨_,rfl⟩,q⟩
 ·obtain⟨t,rfl⟩:=r1;exact wpAny_formatField_str ⟨.str _,H1,I1,⟨_,rfl⟩,q⟩ ⟨.str _,H1,I1.tok _,⟨_,rfl⟩,q⟩ hy
inductive qU(X:Cx):List Expr->List TE->Prop
 |nil:qU X [] []
 |cons {e:Expr} {t:TE} {es:List Expr} {ts:List TE} (h:PE X e t) (r:qU X es ts):qU X (e::es) (t::ts)
def wc:List TE->St->Hp->Str->(Str->Hp->Prop)->Prop
 |[],_,H,acc,Q=>Q acc H
 |t::ts,U,H,acc,Q=>t U H λx H1=>∃y,x=.str y/\(acc++y).length<=sizeLine/\wc ts U H1 (acc++y) Q
theorem ED{pins:List (Addr×Obj)}{U:St}{Q:Str->Hp->Prop}:∀{es:List Expr} {ts:List TE},qU X es ts->∀{s:Shared} {H:Hp} {acc:Str},Inv X pins U H s->wc ts U H acc Q ->
  Joins (model X.prog X.w) X.A X.xe (evalEach es X.env) acc (λout s1=>∃H1,Inv X pins U H1 s1/\Q out H1) s
 |_,_,.nil,s,H,acc,I,h=>⟨H,I,h⟩
 |_,_,.cons he r,s,H,acc,I,h=>by
  refine cL (he pins s U H _ I h) λv s1 br=>?_;obtain⟨x,H1,I1,r1,y,ey,hy,q1⟩:=br;subst ey;obtain⟨t,rfl⟩:=r1;exact⟨y,t,rfl,hy,ED r I1 q1⟩
theorem FH{M:Model}{A:Around}{E:Value->Shared->Prop}{Q Q':Str->Shared->Prop}(hq:∀x s,Q x s->Q' x s):∀{l:List (Sem Value)} {acc:Str} {s:Shared},Joins M A E l acc Q s->Joins M A E l acc Q' s
 |[],acc,s,h=>hq _ _ h
 |x::r,acc,s,h=>cL h λv s1 ⟨y,t,e,hz,h1⟩=>⟨y,t,e,hz,FH hq h1⟩
theorem Pz{kO kN:Expr}{ts:List TE}(h:qU X (kO::kN::rest) ts):PE X (.JoinedStr (kO::kN::rest) pos) (λU H Q=>wc ts U H Str.empty λout H1=>out.length<=sizeLine/\Q (.str out) H1):=by
 intro pins s U H Q I hw;refine wpAny_JoinedStr (FH (λx s1 ⟨H1,I1,hl,q⟩=>⟨hl,.str x,H1,I1.tok _,⟨_,rfl⟩,q⟩) (ED h I hw))
theorem Wu{lo:Int}{acc:Array Value}{n:Nat}(h:ItemsOf (λi v=>∃t,v=.int (lo+i*1) t) acc n):Vals ((List.range n).map λ(k:Nat)=>V.int (lo+k)) acc.toList:=by
 have hl:acc.toList.length=n:=by
  have:=h.1;omega
 have go:∀(m:Nat) (l:List Value),l.length<=n->m+l.length=n->(∀i v,l[i]?=some v->∃t,v=Value.int (lo+((m+i:Nat):Int)) t)->Vals ((List.range' m l.length).map λ(k:Nat)=>V.int (lo+k)) l:=by
  intro m l
  induction l generalizing m with
  |nil=>intro _ _ _;exact .nil
  |cons x r ih =>
   intro h1 h2 h3;refine .cons ?_ (ih (m+1) (by simp at h1;omega) (by simp at h2;omega) λi v hv=>?_)
   ·obtain⟨t,e⟩:=h3 0 x rfl;exact⟨t,by rw[e];simp⟩
   ·obtain⟨t,e⟩:=h3 (i+1) v (by simpa using hv)
    grind
 have:=go 0 acc.toList () () λi v hv=>?_
 ·rw[hl,<- List.range_eq_range'] at this;exact this
 ·have:acc[i]?=some v:=by rw[<- fb];exact hv
  obtain⟨t,e⟩:=h.2 i v this;refine⟨t,?_⟩;rw[e];simp
theorem U9(hc:X.calm=true):k9 X (.type "list") (λxs H Q=>∃a lo hi,xs=[.ref a]/\H a=some (.lu lo hi)/\(-(2 ^ 62)<=lo/\lo<2 ^ 62/\-(2 ^ 62)<=hi/\hi<2 ^ 62/\hi-lo<=100000)/\∀p,H p=none->Q (.ref p) (upd H p (.lst ((List.range (hi-lo).toNat).map λ(k:Nat)=>V.int (lo+k))))):=by
 intro pins s U H xs us Q I r h;obtain⟨a,lo,hi,rfl,ha,⟨h1,h2,h3,h4,h5⟩,q⟩:=h;obtain⟨t,u,v,ho⟩:=I.bB a _ ha;cases r with
 |cons r rr =>
 cases rr;cases r;have hn:Builtin.Range.rangeSize lo hi 1=((hi-lo).toNat:Nat):=by rw[rangeSize_one];split<;>omega
 refine call_list_range (I.ok.hd hc) ho (small_one h1 h2 h3 h4) hn () λh' lO acc c hk hS oZ=>?_;have hp:=I.bB.fresh (ai _);refine⟨.ref _,_,I.laid (o:=.lst ((List.range (hi-lo).toNat).map λ(k:Nat)=>V.int (lo+k))) (t':=lO) hk (ai _) ⟨?_,acc.toList,c,Wu oZ,by simpa using hS⟩,rfl,q _ hp⟩;rw[av,Yu];have:(hi-lo).toNat<=100000:=by omega
 exact aD this ∅
theorem VJ{a:Expr}{ta:TA}{p:Pos}(hg:Gl X "range")(hm:X.mg "range"=none)(ha:PA X [a] ta)(hs:starEach [a] X.env=[(false,eval a X.env)]):PE X (.Call (.Name "range" p) [a] [] pos) (λU H Q=>ta U H λvs H1=>∃j:Int,vs=[.int j]/\∀q,H1 q=none->Q (.ref q) (upd H1 q (.lu 0 j))):=by
 intro pins s U H Q I h;refine cE (K9 I hg hm boot_range (cp (cL (ha pos pins s U H _ I h) λus s1 br=>?_) hs rfl));obtain⟨vs,H1,I1,r1,q1⟩:=br;obtain⟨j,e,q⟩:=q1;subst e;cases r1 with
 |cons r rr =>
  cases rr;obtain⟨t,rfl⟩:=r;exact call_range_1 ⟨.ref s1.heap.objs.size,_,I1.laid (o:=.lu 0 j) (λb o e=>ag _ e) (ai _) ⟨_,_,_,ak _ rfl⟩,rfl,q _ (I1.bB.fresh (ai _))⟩
theorem VL{a b:Expr}{ta:TA}{p:Pos}(hg:Gl X "range")(hm:X.mg "range"=none)(ha:PA X [a,b] ta)(hs:starEach [a,b] X.env=[(false,eval a X.env),(false,eval b X.env)])(fO:starEach [b] X.env=[(false,eval b X.env)]):PE X (.Call (.Name "range" p) [a,b] [] pos) (λU H Q=>ta U H λvs H1=>∃i j:Int,vs=[.int i,.int j]/\∀q,H1 q=none->Q (.ref q) (upd H1 q (.lu i j))):=by
 intro pins s U H Q I h;refine cE (K9 I hg hm boot_range (cp (cL (ha pos pins s U H _ I h) λus s1 br=>?_) (by rw[hs,fO]) (by rw[fO];rfl)));obtain⟨vs,H1,I1,r1,q1⟩:=br;obtain⟨i,j,e,q⟩:=q1;subst e;cases r1 with
 |cons r rr =>
  cases rr with
  |cons r' rr =>
   cases rr;obtain⟨t,rfl⟩:=r;obtain⟨t',rfl⟩:=r';exact call_range_2 ⟨.ref s1.heap.objs.size,_,I1.laid (o:=.lu i j) (λb o e=>ag _ e) (ai _) ⟨_,_,_,ak _ rfl⟩,rfl,q _ (I1.bB.fresh (ai _))⟩
def AQ(K:PySem.W.Frag)(P:Params)(a:Addr)(aU:List (Str×V)):Prop :=
 ∃es n,K.lookup a=some ⟨.type "dict",none,.dict es n,#[]⟩/\PySem.W.KeysLit P es.toList/\(a==sysModules)=false/\∀x,A9 (aU.lookup x) (findBy Value.isStrOf es x)
theorem OR(hu:X.A.units+1<cLine):qW X (λx y H Q=>∃a v,x=.ref a/\Q3 H a y (some v)/\Q v H):=by
 intro value slice pins s U H x y v u Q I rx ry h hs;obtain⟨a,d,rfl,g,q⟩:=h;cases rx;exact tail_any (W' I g) slot_dict_getitem.lookup (Vh hu I g ry λw' s3 I3 eF=>⟨d,H,I3,eF,q⟩) hs
end L2
namespace ST
open PySem PyProof.Rows
variable{xs:Array Nat}{i k j n ep:Nat}{t:SetTable}{h h':Heap}{L:Bool}{es:Array (Int×Value)}{x f:Value}{prog:Program}{w:World}{a I b l:Addr}{ks ns:List Int}{A:Around}{E Q:Value->Shared->Prop}{s:Shared}{pl:List Nat}{α:Type}{r:Rd}{items:Array Value}
noncomputable abbrev jW(xs:Array Nat):Prop:=xs.toList.Pairwise (· < ·)
theorem jW.lt(h:jW xs)(gq:i<k)(hk:k<xs.size):xs.getD i 0<xs.getD k 0:=by
 have:=dP.mp h i k (by simpa using du gq hk) (by simpa using hk) gq;rw[<- eZ (h:=du gq hk),<- eZ (h:=hk)];exact this
theorem jW.le(h:jW xs)(gq:i<=k)(hk:k<xs.size):xs.getD i 0<=xs.getD k 0:=by
 rcases Nat.eq_or_lt_of_le gq with e|e
 ·rw[e];exact ai _
 ·exact dw (h.lt e hk)
theorem Ad{xs:Array Nat}{j:Nat}(h:jW xs):∀(fuel lo hi:Nat),hi-lo<=fuel->lo<=hi->hi<=xs.size->(∀i,i<lo->xs.getD i 0<j)->(∀i,hi<=i->i<xs.size->j<=xs.getD i 0) ->
  SetTable.below.go xs j fuel lo hi<=xs.size/\(∀i,i<SetTable.below.go xs j fuel lo hi->xs.getD i 0<j)/\∀i,SetTable.below.go xs j fuel lo hi<=i->i<xs.size->j<=xs.getD i 0
 |0,lo,hi,h1,h2,h3,h4,h5=>by
  have:lo=hi:=by omega
  subst this;exact⟨h3,h4,h5⟩
 |fuel+1,lo,hi,h1,h2,h3,h4,h5=>by
  unfold SetTable.below.go;split
  ·have hm:(lo+hi) / 2<xs.size:=by omega
   have em:xs.getD ((lo+hi) / 2) j=xs.getD ((lo+hi) / 2) 0:=by simp[Array.getD,hm]
   dsimp only;rw[em];by_cases hc:xs.getD ((lo+hi) / 2) 0<j
   ·rw[aF hc];exact Ad h fuel _ hi () () h3 (λi oZ=>eg (h.le () hm) hc) h5
   ·rw[aA hc];exact Ad h fuel lo _ () () () h4 λi oZ hs=>aD (Nat.le_of_not_lt hc) (h.le oZ hs)
  ·have:lo=hi:=by omega
   subst this;exact⟨h3,h4,h5⟩
theorem M4(j:Nat)(h:jW xs):SetTable.below xs j<=xs.size/\(∀i,i<SetTable.below xs j->xs.getD i 0<j)/\∀i,SetTable.below xs j<=i->i<xs.size->j<=xs.getD i 0 :=
 Ad h _ 0 _ () () (ai _) (λi hi=>absurd hi (Nat.not_lt_zero _)) λi h1 h2=>absurd h2 ()
theorem below_at(h:jW xs)(hi:i<xs.size):SetTable.below xs (xs.getD i 0)=i:=by
 obtain⟨h1,h2,h3⟩:=M4 (xs.getD i 0) h;rcases kc (SetTable.below xs (xs.getD i 0)) i with z|z|z
 ·exact absurd (h3 _ (ai _) ()) (Nat.not_le_of_lt (h.lt z hi))
 ·exact z
 ·exact absurd (h2 i z) (bK _)
theorem Wl(h:jW xs)(hi:i<xs.size):SetTable.below xs (xs.getD i 0+1)=i+1:=by
 obtain⟨h1,h2,h3⟩:=M4 (xs.getD i 0+1) h;rcases kc (SetTable.below xs (xs.getD i 0+1)) (i+1) with z|z|z
 ·have:=h3 i () hi;omega
 ·exact z
 ·have:=h2 (i+1) z;have:=h.lt (kJ i) (k:=i+1) ();omega
theorem Wm(h:jW xs):SetTable.below xs 0=0:=by
 obtain⟨_,h2,_⟩:=M4 0 h;rcases Nat.eq_zero_or_pos (SetTable.below xs 0) with z|z
 ·exact z
 ·exact absurd (h2 0 z) (Nat.not_lt_zero _)
theorem getD_mem(hi:i<xs.size):xs[i]?=some (xs.getD i 0):=by simp[Array.getD,hi]
theorem WM(h:jW t.place)(hs:t.slot j=.empty):j∉t.place.toList:=by
 intro hm;obtain⟨i,hi,e⟩:=bH.mp hm;have oZ:i<t.place.size:=by simpa using hi
 have ej:t.place.getD i 0=j:=by rw[<- eZ];simpa using e
 have hb:=below_at h oZ;rw[ej] at hb;unfold SetTable.slot at hs;dsimp only at hs;rw[hb,getD_mem oZ,ej] at hs;simp at hs
theorem WJ(h:jW xs)(hj:j∉xs.toList):jW (SetTable.insertAt xs (SetTable.below xs j) j):=by
 obtain⟨h1,h2,h3⟩:=M4 j h;show(SetTable.insertAt xs (SetTable.below xs j) j).toList.Pairwise (· < ·);rw[SetTable.toList_insertAt,aH];have tk:∀a∈xs.toList.take (SetTable.below xs j),a<j:=λa ha=>by
  obtain⟨i,hi,e⟩:=bH.mp ha;rw[bC] at hi;have hs:i<xs.size:=by omega
  have:=h2 i ()
  simp_all
 have dp:∀b∈xs.toList.drop (SetTable.below xs j),j<b:=λb hb=>by
  obtain⟨i,hi,e⟩:=bH.mp hb;have hs:SetTable.below xs j+i<xs.size:=by grind
  have:=h3 (SetTable.below xs j+i) () hs;rw[<- eZ (h:=hs)] at this;have gM:b≠j:=λz=>hj (by rw[<- z];exact fu hb);simp at e;omega
 refine⟨h.take,eh.mpr ⟨dp,h.drop⟩,λa ha b hb=>?_⟩;have mF:=tk a ha
 grind
theorem VU(n:Nat):jW (Array.range n):=by
 show(Array.range n).toList.Pairwise (· < ·);rw[Array.toList_range];exact rn
structure Well(L:Bool)(t:SetTable):Prop where
 uZ:jW t.place
 zi:t.dummies=#[]
 led:t.led=L
theorem XX(hd:t.dummies=#[])(j:Nat):t.slot j≠.dummy:=by
 unfold SetTable.slot;dsimp only;split
 ·simp
 ·rw[hd];split
  ·rename_i z;simp[SetTable.has] at z
  simp
theorem Gd{t:SetTable}(hd:t.dummies=#[]){hashAt:Nat->Int}{h:Int}:∀(fuel:Nat) (p:SetTable.Probe) {j:Nat} {dm:Option Nat},p.dummy=none->SetTable.probe.go t hashAt h fuel p=some (.empty j dm)->t.slot j=.empty/\dm=none
 |0,p,j,dm,_,e=>by simp[SetTable.probe.go] at e
 |fuel+1,p,j,dm,hp,e=>by
  unfold SetTable.probe.go at e;have ad:∀q:SetTable.Probe,q.dummy=none->(t.advance q).dummy=none:=λq hq=>by
   unfold SetTable.advance;split
   ·exact hq
   ·exact hq
  split at e
  ·simp_all
  ·rename_i hs;exact absurd hs (XX hd _)
  ·split at e
   ·cases e
   ·exact Gd hd fuel _ (ad p hp) e
theorem Vl(hd:t.dummies=#[]){h:Int}{wd:Bool}(e:t.freeSlot h=some (j,wd)):t.slot j=.empty/\wd=false:=by
 unfold SetTable.freeSlot at e;split at e
 ·rename_i j' dm hp;obtain⟨h1,h2⟩:=Gd hd _ _ rfl hp;subst h2;cases e;exact⟨h1,rfl⟩
 ·cases e
theorem F1(h:Well L t)(n:Nat):Well L (t.standIn n):=⟨VU n,rfl,h.led⟩
theorem Xc{h:Int}(hw:Well L t):Well L (layNew t es h x).2.1/\(layNew t es h x).2.2.1=false:=by
 unfold layNew;split
 ·rename_i slot wd e;obtain⟨h1,h2⟩:=Vl hw.zi e;refine⟨?_,h2⟩;have hd:SetTable.has t.dummies slot=false:=by rw[hw.zi];rfl
  have w2:Well L (t.put slot).1:=⟨WJ hw.uZ (WM hw.uZ h1),by simp only[SetTable.put,hd];exact hw.zi,hw.led⟩
  dsimp only;unfold SetTable.orStandIn;split
  ·exact w2
  ·exact F1 w2 _
 ·exact⟨F1 hw _,rfl⟩
theorem VA{mask finger moves:Nat}{led plain:Bool}{hashes:Array Int}{o:Array Nat}(hl:led=L)(e:SetTable.laid mask finger moves led plain hashes=some (t,o)):Well L t:=by
 unfold SetTable.laid at e;cases ho:SetTable.layClean mask hashes with
 |none=>rw[ho] at e;cases e
 |some owner =>
  rw[ho] at e;simp only[Option.bind_eq_bind,Option.bind_some,Option.pure_def,Option.some.injEq,Prod.mk.injEq] at e;obtain⟨rfl,_⟩:=e;refine⟨?_,rfl,hl⟩;show(List.map _ _).toArray.toList.Pairwise (· < ·);rw[List.toList_toArray];have sub:((List.range (mask+1)).filterMap λj=>(owner.getD j none).map (j,·)).map (·.1) |>.Sublist (List.range (mask+1)):=by
   generalize List.range (mask+1)=l
   induction l with
   |nil=>simp
   |cons a r ih =>
    rw[dR];cases owner.getD a none with
    |none=>exact ih.cons a
    |some k=>exact ih.cons_cons a
  exact List.Pairwise.sublist sub rn
theorem Uj(hw:Well L t):Well L (relayAll t es n).2.1:=by
 unfold relayAll;split
 ·rename_i t' order e;dsimp only;split
  ·exact VA hw.led e
  ·exact F1 hw _
 ·exact F1 hw _
def toI:Value->Int
 |.int k _=>k
 |_=>0
def Led(w:World):Bool:=!(w.params.followText "set-order")
def o6(prog:Program)(w:World)(h:Heap)(a:Addr)(ks:List Int):Prop :=
 ∃o es ep t,h.get? a=some o/\o.ExactSet/\o.data=.set es ep t/\ElemsOf (intKind prog w) es.toList/\(es.toList.map λe=>toI e.2).Perm ks/\ks.Nodup/\es.size<scanBound/\t.fits es.size=true/\Well (Led w) t
theorem o6.at(x:o6 prog w h a ks)(k:∀o,h.get? a=some o->h'.get? a=some o):o6 prog w h' a ks:=by
 obtain⟨o,es,ep,t,e,r⟩:=x;exact⟨o,es,ep,t,k o e,r⟩
theorem Hi{e:Int×Value}{es:List (Int×Value)}(h:ElemsOf (intKind prog w) es)(he:e∈es):∃tk,e.2=.int (toI e.2) tk/\e.1=(intKind prog w).hash (toI e.2):=by
 obtain⟨⟨k,h1,h2⟩,_⟩:=h e he;obtain⟨t,ht⟩:=Value.isInt_shape h1;refine⟨t,by rw[ht];rfl,?_⟩;rw[h2,ht]
 rfl
theorem Gm{e:Int×Value}{es:List (Int×Value)}(h:ElemsOf (intKind prog w) es)(he:e∈es)(k:Int):(intKind prog w).is k e.2=decide (toI e.2=k):=by
 obtain⟨t,ht,_⟩:=Hi h he;rw[ht]
 rfl
theorem o6.mem{a:Addr}{es:List (Int×Value)}(h:ElemsOf (intKind prog w) es)(hp:(es.map λe=>toI e.2).Perm ks)(k:Int):(es.findIdx? λe=>(intKind prog w).is k e.2).isSome=decide (k∈ks):=by
 rw[cT,decide_eq_true_iff,<- hp.mem_iff,aW,cB];constructor
 ·rintro⟨i,hi⟩;obtain⟨h1,h2,_⟩:=jS.mp hi;have hm:=fg h1;rw[Gm h hm] at h2;exact⟨_,hm,aN h2⟩
 ·rintro⟨e,he,rfl⟩;cases hf:es.findIdx? λe'=>(intKind prog w).is (toI e.2) e'.2 with
  |some i=>exact⟨i,rfl⟩
  |none =>
   have:=List.findIdx?_eq_none_iff.mp hf e he;rw[Gm h he] at this;simp at this
def C4(ks:List Int)(k:Int):List Int:=if k∈ks then ks else ks++[k]
theorem Xg(ks:List Int)(k:Int):(C4 ks k).length<=ks.length+1:=by unfold C4;split<;>simp
theorem Sb{k:Int}{tk:Tok}{Q:Bool->Shared->Prop}(hS:o6 prog w s.heap a ks)(hr:ks.length+1<scanBound)(h:∀h' b,Heap.SameBut a s.heap h'->o6 prog w h' a (C4 ks k)->Q b { s with heap:=h' }):wpAny (model prog w) A (setAddHashed a (.int k tk) ((intKind prog w).hash k)) Q E s:=by
 obtain⟨o,es,ep,t,ho,hx,hd,pk,hp,hn,hb,hf,hw⟩:=hS;have hlen:es.size=ks.length:=by rw[<- hp.length_eq];simp
 have gN:(intKind prog w).is k (.int k tk)=true:=xb _ _ _ _;have gv:∀(b:Bool) (s1:Shared) (Q':Unit->Shared->Prop),Q' Unit.unit s1->wpAny (model prog w) A (match b with|true=>rule "set.scan.the-table-gave-way"|false=>pure Unit.unit) Q' E s1:=λb s1 Q' q=>by
  cases b
  ·exact ah q
  ·exact cV q
 refine aY (aa (cv ho hd hf ?_));dsimp only;rw[byScan_of rfl hb pk,aF rfl];refine aa (aa (cV (aa (wpAny_setScan_of gN ho hd hf pk ?_))));have hm:=o6.mem (a:=a) pk hp k;cases vq:es.toList.findIdx? (λe=>(intKind prog w).is k e.2) with
 |some j =>
  have hk:k∈ks:=by simp_all
  refine ah (ah ?_);refine h s.heap _ (Heap.SameBut.refl a s.heap) ?_;unfold C4;rw[aF hk];exact⟨o,es,ep,t,ho,hx,hd,pk,hp,hn,hb,hf,hw⟩
 |none =>
  rw[vq] at hm;have hk:k∉ks:=by simpa using hm.symm
  have p1:=layNew_perm t es ((intKind prog w).hash k) (.int k tk);have f1:=layNew_fits t es ((intKind prog w).hash k) (.int k tk);obtain⟨w1,Ci⟩:=Xc hw;generalize layNew t es ((intKind prog w).hash k) (.int k tk)=R1 at p1 f1 w1 Ci ⊢;obtain⟨hV,t1,wd,Lh⟩:=R1;subst Ci;rw[cY] at p1;have DF:=(pk.push gN rfl).perm p1;have Yz:hV.size=es.size+1:=by rw[<- bS,p1.length_eq];simp
  have k1:(hV.toList.map λe=>toI e.2).Perm (C4 ks k):=by
   unfold C4;rw[aA hk];refine(p1.map _).trans ?_;rw[bu];exact hp.append_right _
  have n1:(C4 ks k).Nodup:=by
   unfold C4;rw[aA hk,eN];exact⟨hn,by simp,λx hx y hy=>by grind⟩
  refine aa (gv _ _ _ ?_);have fin:∀ (t2:SetTable),t2.fits hV.size=true->Well (Led w) t2->wpAny (model prog w) A (do
    storeSet a hV t2
    if(!false&&t2.tooFull)=true then do
      (match(relayAll t2 hV (SetTable.grown hV.size)).2.2 with|true=>rule "set.scan.the-table-gave-way"|false=>pure Unit.unit)
      storeSet a (relayAll t2 hV (SetTable.grown hV.size)).1 (relayAll t2 hV (SetTable.grown hV.size)).2.1
      pure (some true)
     else pure (some true)) (λr s'=>wpAny (model prog w) A (match r with | some added=>pure added | none=>setAddHashedIn a (.int k tk) ((intKind prog w).hash k) 99999) Q E s') E s:=λt2 f2 w2=>by
   have g1:(s.heap.update a (Obj.putSet hV t2)).get? a=some { o with data:=.set hV (ep+1) t2 }:=by
    have:=aL (Obj.putSet hV t2) ho (by rw[Ym hV t2 hd];rfl);rw[Ym hV t2 hd] at this;exact this
   refine aa (wpAny_storeSet_of ho hd ?_ (fits_of_scanBound ()));have rV:=bx s.heap a (Obj.putSet hV t2);split
   ·have p2:=relayAll_perm t2 hV (SetTable.grown hV.size);have f3:=relayAll_fits t2 hV (SetTable.grown hV.size);have w3:=Uj (es:=hV) (n:=SetTable.grown hV.size) w2;generalize relayAll t2 hV (SetTable.grown hV.size)=R2 at p2 f3 w3 ⊢;obtain⟨tM,t3,Za⟩:=R2;dsimp only at p2 f3 w3 ⊢;have Yy:tM.size=hV.size:=by rw[<- bS,p2.length_eq,bS]
    refine aa (gv _ _ _ ?_);refine aa (wpAny_storeSet_of g1 rfl ?_ (fits_of_scanBound ()));refine ah (ah (h _ _ (rV.trans (bx _ a _)) ?_));have g2:((s.heap.update a (Obj.putSet hV t2)).update a (Obj.putSet tM t3)).get? a=some { o with data:=.set tM (ep+1+1) t3 }:=by
     have:=aL (Obj.putSet tM t3) g1 (by rfl);exact this
    exact⟨_,tM,_,t3,g2,hx,rfl,DF.perm p2,(p2.map _).trans k1,n1,by omega,f3,w3⟩
   ·exact ah (ah (h _ _ rV ⟨_,hV,_,t2,g1,hx,rfl,DF,k1,n1,by omega,f1 |> λ_=>f2,w2⟩))
  split
  ·refine aa (dS (hashByValue_scannable 8 rfl) ?_);exact fin _ f1 w1
  ·refine aa (ah ?_);exact fin _ f1 w1
theorem TR:entryFor table "set.__iter__"=some Builtin.«frozenset.__iter__» :=
 entryFor_alias (id':="frozenset.__iter__") (by kernel_rfl) rfl (by decide +kernel) (by kernel_rfl)
theorem v9:Slot "set_iterator" "__next__" "set_iterator.__next__" :=
 .of (owner:="set_iterator") (n:="__next__") (by rw[typeLookup_type,builtinLookup_eq_fast];kernel_rfl) (by decide +kernel) (by decide +kernel) (by decide +kernel)
  (by first|exact .inl (by decide +kernel)|exact .inr (by decide +kernel)) (by rw[jY];kernel_rfl)
theorem FX:entryFor table "set_iterator.__next__"=some Builtin.«set_iterator.__next__»:=entryFor_of_tree (by kernel_rfl)
theorem Y8(a:Value):argsOk "set_iterator.__next__" ⟨[a],[]⟩:=by
 unfold argsOk
 kernel_rfl
theorem V7:Slot "set_iterator" "__iter__" "set_iterator.__iter__" :=
 .of (owner:="set_iterator") (n:="__iter__") (by rw[typeLookup_type,builtinLookup_eq_fast];kernel_rfl) (by decide +kernel) (by decide +kernel) (by decide +kernel)
  (by first|exact .inl (by decide +kernel)|exact .inr (by decide +kernel)) (by rw[jY];kernel_rfl)
theorem Xa:entryFor table "set_iterator.__iter__"=some Builtin.«dict_keyiterator.__iter__» :=
 entryFor_alias (id':="dict_keyiterator.__iter__") (by kernel_rfl) rfl (by decide +kernel) (by kernel_rfl)
theorem TF(a:Value):argsOk "set_iterator.__iter__" ⟨[a],[]⟩:=by
 unfold argsOk
 kernel_rfl
inductive Rd|text|plain|drawn
structure Lies(h:Heap)(a:Addr)(es:Array (Int×Value))(ep:Nat)(t:SetTable):Prop where
 at_:∃o,h.get? a=some o/\o.cls=.type "set"/\o.data=.set es ep t
 fit:t.fits es.size=true
theorem Lies.at(x:Lies h a es ep t)(k:∀o,h.get? a=some o->h'.get? a=some o):Lies h' a es ep t :=
 ⟨let ⟨o,e,r⟩:=x.at_;⟨o,k o e,r⟩,x.fit⟩
def A2(h:Heap)(I a:Addr)(f:Value)(i n ep:Nat):Prop:=∃o,h.get? I=some o/\o.cls=.type "set_iterator"/\o.data=.fields #[f,rawInt i,.ref a,rawInt n,rawInt ep]
theorem A2.at(x:A2 h I a f i n ep)(k:∀o,h.get? I=some o->h'.get? I=some o):A2 h' I a f i n ep:=let ⟨o,e,r⟩:=x;⟨o,k o e,r⟩
theorem A2.ty(x:A2 s.heap I a f i n ep):s.TypeIs (.ref I) "set_iterator":=let ⟨o,e,c,_⟩:=x;⟨o,e,c⟩
def uA(w:World)(a:Addr)(es:Array (Int×Value))(ep:Nat)(pl:List Nat):Rd->List Value
 |.text=>(pickOrder (w.params.setOrder a ep) es).toList.map (·.2)
 |.plain=>es.toList.map (·.2)
 |.drawn=>pl.map λj=>(es.getD j (0,.none)).2
def slotAt(t:SetTable):Nat->Nat
 |0=>0
 |i+1=>t.place.getD i 0+1
def K1(h:Heap)(t:SetTable)(b:Addr)(pl:List Nat)(i:Nat)(f:Value):Rd->Prop
 |.text=>∃k:Nat,f=rawInt k
 |.plain=>f=rawInt (slotAt t i)
 |.drawn=>f=.ref b/\∃o e,h.get? b=some o/\o.cls=.type "tuple"/\o.data=.seq (pl.map λj=>rawInt (j:Nat)).toArray e
def qx(w:World)(es:Array (Int×Value))(t:SetTable)(pl:List Nat):Rd->Prop
 |.text=>w.params.followText "set-order"=true
 |.plain=>w.params.followText "set-order"=false/\(t.plain=true\/es.size<=1)/\Well true t
 |.drawn=>w.params.followText "set-order"=false/\pl.Perm (List.range es.size)
theorem Y5{Q:Bool->Shared->Prop}(h:Q (w.params.followText "set-order") s):wpAny (model prog w) A setsByText Q E s:=by
 exact aa (wpAny_askSetting (ah h))
theorem Fy(hL:Lies s.heap a es ep t)(ht:w.params.followText "set-order"=true){sl g:Nat}{Q:Option (Value×Nat)->Shared->Prop}(h:Q (((pickOrder (w.params.setOrder a ep) es)[g]?).map λe=>(e.2,sl)) s) :
  wpAny (model prog w) A (setNext a sl g ep) Q E s:=by
 obtain⟨o,ho,_,hd⟩:=hL.at_;refine aa (cv ho hd hL.fit ?_);refine aa (Y5 ?_);rw[ht,aF rfl,aA (by simp)];refine aa (aa (cv ho hd hL.fit ?_));refine aa (Y5 ?_);rw[ht,aF rfl];exact aa (wpAny_askSetting (ah (ah h)))
theorem FQ(hL:Lies s.heap a es ep t)(ht:w.params.followText "set-order"=false)(hp:t.plain=true\/es.size<=1)(hl:t.led=true){sl g:Nat}{Q:Option (Value×Nat)->Shared->Prop}(h:Q (match es[SetTable.below t.place sl]?,t.place[SetTable.below t.place sl]? with|some (_,x),some j=>some (x,j+1)|_,_=>none) s):wpAny (model prog w) A (setNext a sl g ep) Q E s:=by
 obtain⟨o,ho,_,hd⟩:=hL.at_;refine aa (cv ho hd hL.fit ?_);refine aa (Y5 ?_);rw[ht,aA ∅];show wpAny _ _ (if(!t.plain&&decide (es.size>1))=true then _ else _) _ _ _;rw[aA (by rcases hp with e|e<;>simp[e])];refine aa (dS (a:=Unit.unit) ?_ (ah h));show((if(!t.led&&!es.isEmpty)=true then unsupported "set:maker-not-led" else pure Unit.unit):Sem Unit)=pure Unit.unit;rw[hl]
 rfl
theorem WG(hL:Lies s.heap a es ep t)(hj:j<es.size)(h:Q (es.getD j (0,.none)).2 s):wpAny (model prog w) A (setNextDrawn a j ep) Q E s:=by
 obtain⟨o,ho,_,hd⟩:=hL.at_;refine aa (cv ho hd hL.fit ?_);dsimp only;rw[aA (by simp)];have e:es[j]?=some (es.getD j (0,.none)):=by simp_all
 rw[e];exact ah h
theorem EX(hL:Lies s.heap a es ep t):t.place.size=es.size:=by
 have:=hL.fit;unfold SetTable.fits at this;simp at this;exact this.1
theorem FI(hw:jW t.place)(hi:i<=t.place.size):SetTable.below t.place (slotAt t i)=i:=by
 cases i with
 |zero=>exact Wm hw
 |succ i=>exact Wl hw ()
theorem entries{Q:Array (Int×Value)->Shared->Prop}(hL:Lies s.heap a es ep t)(h:Q es s):wpAny (model prog w) A (setEntries a) Q E s:=by
 obtain⟨o,ho,_,hd⟩:=hL.at_;exact aa (cv ho hd hL.fit (ah h))
theorem QQ{f':Value}(hi:A2 h I a f i n ep)(hx:x=rawInt ((i:Int)+1)):A2 ((h.update I (Obj.mapFields (·.setIfInBounds 0 f'))).update I (Obj.mapFields (·.setIfInBounds 1 x))) I a f' (i+1) n ep:=by
 obtain⟨o,ho,hc,hd⟩:=hi;have h1:=aL (Obj.mapFields (·.setIfInBounds 0 f')) ho (cC (aZ hd _));have d1:(Obj.mapFields (·.setIfInBounds 0 f') o).data=.fields #[f',rawInt i,.ref a,rawInt n,rawInt ep]:=by rw[aZ hd];simp
 have h2:=aL (Obj.mapFields (·.setIfInBounds 1 x)) h1 (cC (aZ d1 _));refine⟨_,h2,(iy ..).trans ((iy ..).trans hc),?_⟩;rw[aZ d1]
 simp_all
theorem QP(hi:A2 h I a f i n ep)(hx:x=rawInt ((i:Int)+1)):A2 (h.update I (Obj.mapFields (·.setIfInBounds 1 x))) I a f (i+1) n ep:=by
 obtain⟨o,ho,hc,hd⟩:=hi;have h2:=aL (Obj.mapFields (·.setIfInBounds 1 x)) ho (cC (aZ hd _));refine⟨_,h2,(iy ..).trans hc,?_⟩;rw[aZ hd];subst hx;simp[rawInt]
theorem Ea{f':Value}{m:Sem α}{Q':α->Shared->Prop}(hi:A2 s.heap I a f i n ep)(hx:x=rawInt ((i:Int)+1))(h:∀h',A2 h' I a f' (i+1) n ep->Heap.SameBut I s.heap h'->wpAny (model prog w) A m Q' E { s with heap:=h' }) :
  wpAny (model prog w) A (do setField (.ref I) 0 f';setField (.ref I) 1 x;m) Q' E s:=by
 obtain⟨o,ho,hc,hd⟩:=id hi;refine aa (cG ho hd (by simp) ?_);have h1:=aL (Obj.mapFields (·.setIfInBounds 0 f')) ho (cC (aZ hd _));have d1:(Obj.mapFields (·.setIfInBounds 0 f') o).data=.fields #[f',rawInt i,.ref a,rawInt n,rawInt ep]:=by rw[aZ hd];simp
 refine aa (cG h1 d1 (by simp) ?_);exact h _ (QQ hi hx) ((bx ..).trans (bx ..))
theorem RC{m:Sem α}{Q':α->Shared->Prop}(hi:A2 s.heap I a f i n ep)(hx:x=rawInt ((i:Int)+1))(h:∀h',A2 h' I a f (i+1) n ep->Heap.SameBut I s.heap h'->wpAny (model prog w) A m Q' E { s with heap:=h' }) :
  wpAny (model prog w) A (do setField (.ref I) 1 x;m) Q' E s:=by
 obtain⟨o,ho,hc,hd⟩:=id hi;refine aa (cG ho hd (by simp) ?_);exact h _ (QP hi hx) (bx ..)
theorem Az(next:Nat->Nat)(xs:Array α):(pickOrder next xs).toList.Perm xs.toList:=by
 have go:∀(fuel k:Nat) (left:List α) (out:Array α),fuel=left.length->(pickOrder.go next fuel k left out).toList.Perm (out.toList++left):=by
  intro fuel
  induction fuel with
  |zero =>
   intro k left out e;have:=lj e.symm;subst this;simp[pickOrder.go]
  |succ n ih =>
   intro k left out e;have eA:next k % left.length<left.length:=Nat.mod_lt _ ()
   unfold pickOrder.go;rw[az eA];refine(ih _ _ _ (by rw[mR eA];omega)).trans ?_;rw[cY,bw];refine dB _ ?_;have:left.Perm (left[next k % left.length]::left.eraseIdx (next k % left.length)):=by
    rw[kA]
    conv=>lhs;rw[<- bj (next k % left.length) left,cS eA]
    exact Zn
   exact this.symm
 have:=go xs.size 0 xs.toList #[] (by simp);simpa[pickOrder] using this
theorem next_item{Q:Option Value->Shared->Prop}(hL:Lies s.heap a es ep t)(hr:qx w es t pl r)(hi:A2 s.heap I a f i es.size ep)(hf:K1 s.heap t b pl i f r)(gM:b≠I)(eA:i<es.size)(h:∀v h' f',(uA w a es ep pl r)[i]?=some v->A2 h' I a f' (i+1) es.size ep->K1 h' t b pl (i+1) f' r->Heap.SameBut I s.heap h'->Q (some v) { s with heap:=h' }):wpAny (model prog w) A (pyNext (.ref I)) Q E s:=by
 obtain⟨o,ho,hc,hd⟩:=id hi;refine aa (fR (bO hi.ty v9 (bT v9 hi.ty FX ?_ (Y8 _))));refine aa (ah ?_);refine aa (wpAny_fieldsOf ho hd ?_);refine aa (entries hL ?_);rw[aA (by simp)];rw[cX,cX];cases r with
 |text =>
  obtain⟨k,rfl⟩:=hf;refine aa (Fy hL hr ?_);have hl:i<(pickOrder (w.params.setOrder a ep) es).size:=by
   have:=(Az (w.params.setOrder a ep) es).length_eq
   simp_all
  rw[nM hl];refine Ea hi rfl λh' h1 h2=>ah ⟨_,rfl,ah (h _ _ _ ?_ h1 ⟨_,rfl⟩ h2)⟩;show((pickOrder (w.params.setOrder a ep) es).toList.map (·.2))[i]?=_;simp[hl]
 |plain =>
  obtain⟨r1,r2,r3⟩:=hr;have hs:=EX hL;obtain rfl:=hf;dsimp only[rawInt];rw[cX];refine aa (FQ hL r1 r2 r3.led ?_);rw[FI r3.uZ (),nM eA,getD_mem ()];refine Ea hi rfl λh' h1 h2=>ah ⟨_,rfl,ah (h _ _ _ ?_ h1 rfl h2)⟩;show(es.toList.map (·.2))[i]?=_;simp[eA]
 |drawn =>
  obtain⟨r1,r2⟩:=hr;obtain⟨rfl,ob,e,hb,Dp,vB⟩:=hf;have gE:i<pl.length:=by rw[r2.length_eq];simpa using eA
  refine aa (cU hb vB ?_);have hj:pl[i]<es.size:=by
   have:=r2.mem_iff.mp (fg gE)
   simp_all
  have e1:(pl.map λj=>rawInt (j:Nat)).toArray[i]?=some (rawInt (pl[i]:Nat)):=by simp[gE]
  dsimp only;rw[e1];refine aa (WG hL hj ?_);refine RC hi rfl λh' h1 h2=>ah ⟨_,rfl,ah (h _ _ _ ?_ h1 ⟨rfl,ob,e,by rw[h2.2 b gM];exact hb,Dp,vB⟩ h2)⟩;show(pl.map λj=>(es.getD j (0,.none)).2)[i]?=_;simp[gE]
theorem AE{Q:Option Value->Shared->Prop}{h0:Heap}(hh:A.handled=none)(Ld:Heap.ExtBut I h0 s.heap)(h:∀h',Heap.ExtBut I h0 h'->Q none { s with heap:=h' }) :
  wpAny (model prog w) A.in1 (newExc (.type "StopIteration") [] >>= λe=>(raiseNew e:Sem Fin)) (λfin s'=>∃v,fin=Fin.done (Flow.ret v)/\wpAny (model prog w) A (pure (some v)) Q E s')
   (λe s'=>wpAny (model prog w) A (do
     let x <- isInstance e (Value.type "StopIteration")
     if x=true then pure none else throw e) Q E s') s:=by
 refine aa ?_;refine aa (cw ?_ (by size_fits));refine aa (dS (a:=Value.none) (by rfl) ?_);refine cw ?_ (by size_fits);refine aa (wpAny_handled ?_);rw[show A.in1.handled=none from hh];refine aa (ah (wpAny_throw ?_));refine aa (fK ⟨_,ak _ rfl,rfl⟩ isSubtype_stop ?_);exact ah (h _ ((Ld.push _).push _))
theorem next_end{Q:Option Value->Shared->Prop}(hh:A.handled=none)(hL:Lies s.heap a es ep t)(hr:qx w es t pl r)(hi:A2 s.heap I a f es.size es.size ep)(hf:K1 s.heap t b pl es.size f r)(gM:b≠I)(h:∀h',Heap.ExtBut I s.heap h'->Q none { s with heap:=h' }):wpAny (model prog w) A (pyNext (.ref I)) Q E s:=by
 obtain⟨o,ho,hc,hd⟩:=id hi;refine aa (fR (bO hi.ty v9 (bT v9 hi.ty FX ?_ (Y8 _))));refine aa (ah ?_);refine aa (wpAny_fieldsOf ho hd ?_);refine aa (entries hL ?_);rw[aA (by simp)];rw[cX,cX];cases r with
 |text =>
  obtain⟨k,rfl⟩:=hf;refine aa (Fy hL hr ?_);have hl:(pickOrder (w.params.setOrder a ep) es).size<=es.size:=by
   have:=(Az (w.params.setOrder a ep) es).length_eq
   grind
  rw[rz hl];refine aa (cG ho hd (by simp) ?_);exact AE hh (bx ..).extBut h
 |plain =>
  obtain⟨r1,r2,r3⟩:=hr;have hs:=EX hL;obtain rfl:=hf;dsimp only[rawInt];rw[cX];refine aa (FQ hL r1 r2 r3.led ?_);rw[FI r3.uZ (),rz (ai _)];refine aa (cG ho hd (by simp) ?_);exact AE hh (bx ..).extBut h
 |drawn =>
  obtain⟨r1,r2⟩:=hr;obtain⟨rfl,ob,e,hb,Dp,vB⟩:=hf;have gE:pl.length=es.size:=by rw[r2.length_eq];simp
  refine aa (cU hb vB ?_);have e1:(pl.map λj=>rawInt (j:Nat)).toArray[es.size]?=none:=by simp[gE]
  dsimp only;rw[e1];refine aa (cG ho hd (by simp) ?_);have h1:=aL (Obj.mapFields (·.setIfInBounds 0 (Value.int 0 0))) ho (cC (aZ hd _));refine aa (cG h1 (aZ hd _) (by simp) ?_);exact AE hh ((bx ..).trans (bx ..)).extBut h
theorem VM{l:List α}(eA:k<l.length):(l[k]::l.eraseIdx k).Perm l:=by
 rw[kA]
 conv=>rhs;rw[<- bj k l,cS eA]
 exact Zn.symm
theorem FK{α:Type}:∀(n:Nat) (xs:List α) (s:Shared) (Q:List α->Shared->Prop),n=xs.length->(∀ys d,ys.Perm xs->Q ys { s with drawn:=d })->wpAny (model prog w) A (drawOrder n xs) Q E s
 |0,xs,s,Q,e,h=>by
  have:=lj e.symm;subst this;exact ah (h [] s.drawn (iT _))
 |n+1,[],s,Q,e,h=>by simp at e
 |n+1,x::xs,s,Q,e,h=>by
  refine aa ?_;intro Γ p YH;refine⟨by simp,?_⟩;generalize (model prog w).w.draws .order (s.drawn.get .order)=k;have eA:k % (x::xs).length<(x::xs).length:=Nat.mod_lt _ (by simp);have go:wpAny (model prog w) A (match (x :: xs)[k % (x :: xs).length]? with
   |some y=>do
    let ys <- drawOrder n ((x::xs).eraseIdx (k % (x::xs).length))
    pure (y::ys)
   | none=>unsupported "internal:drawOrder") Q E { s with drawn:=s.drawn.bump .order }:=by
   rw[az eA];refine aa (FK n _ _ _ (by rw[mR eA];omega) λys d hp=>ah ?_);exact h _ d ((List.Perm.cons _ hp).trans (VM eA))
  exact go
theorem EK(hr:qx w es t pl r):(uA w a es ep pl r).Perm (es.toList.map (·.2)):=by
 cases r with
 |text=>exact(Az _ es).map _
 |plain=>rfl
 |drawn =>
  refine(hr.2.map _).trans ?_;have:(List.range es.size).map (λj=>(es.getD j (0,.none)).2)=es.toList.map (·.2):=by
   apply Zq
   ·simp
   simp_all
  rw[this]
theorem Lies.ty(hL:Lies s.heap a es ep t):s.TypeIs (.ref a) "set":=let ⟨o,e,c,_⟩:=hL.at_;⟨o,e,c⟩
theorem UI(hL:Lies s.heap a es ep t)(hw:Well (Led w) t)(hz:es.size<=10000)(h:∀r pl b f I h' d',qx w es t pl r->A2 h' I a f 0 es.size ep->K1 h' t b pl 0 f r->b≠I->(b=a\/s.heap.objs.size<=b)->(∀c o,s.heap.get? c=some o->h'.get? c=some o)->s.heap.objs.size<=I->s.heap.objs.size<=h'.objs.size->Q (.ref I) { s with heap:=h',drawn:=d' }) :
  wpAny (model prog w) A (pyIter (.ref a)) Q E s:=by
 obtain⟨o,ho,yo,hd⟩:=hL.at_;refine wpAny_pyIter_slot hL.ty F.slot_set_iter (bT F.slot_set_iter hL.ty TR ?_ (F.args_set_iter_1 _));refine aa (ah ?_);refine aa (aa (entries hL (ah ?_)));refine aa (aa (cv ho hd hL.fit ?_));refine aa (Y5 (ah ?_));have eA:=aj ho;have fin:∀(r:Rd) (f:Value) (b:Addr) (pl:List Nat) (h1:Heap) (d1:Drawn),qx w es t pl r->(∀h',(∀c o,h1.get? c=some o->h'.get? c=some o)->K1 h' t b pl 0 f r)->b<h1.objs.size->(b=a\/s.heap.objs.size<=b)->(∀c o,s.heap.get? c=some o->h1.get? c=some o)->s.heap.objs.size<=h1.objs.size ->
   wpAny (model prog w) A.in1 (do
    let e <- setEpoch a
    ret (<- newFields "set_iterator" [f,rawInt 0,.ref a,rawInt es.size,rawInt e])) (λfin s'=>∃ v,fin=Fin.done (Flow.ret v)/\∃ T' r,s'.TypeIs v T'/\typeLookup (.type T') "__next__"=pure (some r)/\Q v s') E { s with heap:=h1,drawn:=d1 }:=λr f b pl h1 d1 hr hf hb vC he gp=>by
  have ql:=hL.at λo e=>he a o e;obtain⟨o1,vt,_,yG⟩:=ql.at_;refine aa (aa (cv vt yG ql.fit (ah ?_)));refine aa (cw (ah ⟨_,rfl,"set_iterator",_,⟨_,ak _ rfl,rfl⟩,v9.lookup,?_⟩));refine h r pl b f h1.objs.size _ d1 hr ⟨_,ak _ rfl,rfl,rfl⟩ (hf _ λc o e=>ag _ e) (aC hb) vC (λc o e=>ag _ (he c o e)) gp (by rw[size_push'];exact Nat.le_succ_of_le gp)
 cases hT:w.params.followText "set-order" with
 |true =>
  refine aa (ah ?_);exact fin .text (rawInt 0) a [] s.heap s.drawn hT (λh' _=>⟨0,rfl⟩) eA (.inl rfl) (λc o e=>e) (ai _)
 |false =>
  show wpAny _ _ (if(!false&&(!t.plain&&decide (es.size>1)))=true then _ else _ ) _ _ _;by_cases hp:t.plain=true\/es.size<=1
  ·rw[aA (by rcases hp with e|e<;>simp[e])];refine aa (ah ?_);refine fin .plain (rawInt 0) a [] s.heap s.drawn ⟨hT,hp,?_⟩ (λh' _=>rfl) eA (.inl rfl) (λc o e=>e) (ai _);have:Led w=true:=by unfold Led;rw[hT];rfl
   simp_all
  ·rw[aF (by grind)];refine aa (FK _ _ _ _ (Yu).symm λys d hy=>?_);have hl:ys.length=es.size:=by rw[hy.length_eq];simp
   refine aa (cw ?_ (by show(List.map _ ys).toArray.size<=sizeLine;rw[aJ,av,hl];exact aD hz ∅));refine fin .drawn (.ref s.heap.objs.size) s.heap.objs.size ys _ d ⟨hT,hy⟩ (λh' hk=>⟨rfl,_,_,hk _ _ (ak _ rfl),rfl,rfl⟩) (by simp) (.inr (ai _)) (λc o e=>ag _ e) (by simp)
theorem VX(hh:A.handled=none)(hr:qx w es t pl r)(gM:b≠I)(CZ:a≠I) :
  Walks prog w A I [I,a,b] [I] es.size (λi v=>(uA w a es ep pl r)[i]?=some v) (λi h=>Lies h a es ep t/\∃f,A2 h I a f i es.size ep/\K1 h t b pl i f r) where
 sub:=λc hc=>by simp_all
 frame:=λi h h' st hk=>by
  obtain⟨hL,f,hi,hf⟩:=st;refine⟨hL.at λo e=>hk a (by simp) o e,f,hi.at λo e=>hk I (by simp) o e,?_⟩;cases r with
  |text=>exact hf
  |plain=>exact hf
  |drawn =>
   obtain⟨e1,o,e,h1,h2⟩:=hf;exact⟨e1,o,e,hk b (by simp) o h1,h2⟩
 item:=λi s Q E hi st hQ=>by
  obtain⟨hL,f,hI,hf⟩:=st;exact next_item hL hr hI hf gM hi λv h' f' hv h1 h2 h3=>hQ v h' s.toks hv ⟨hL.at λo e=>by rw[h3.2 a CZ];exact e,f',h1,h2⟩ λc o hc e=>h3.extBut c o (λz=>hc (by simp[z])) e
 done:=λs Q E st hQ=>by
  obtain⟨hL,f,hI,hf⟩:=st;exact next_end hh hL hr hI hf gM λh' he=>hQ h' s.toks λc o hc e=>he c o (λz=>hc (by simp[z])) e
 self:=λi s Q E st hQ=>by
  obtain⟨hL,f,hI,hf⟩:=st;refine wpAny_pyIter_slot hI.ty V7 (bT V7 hI.ty Xa ?_ (TF _));exact aa (ah (ah ⟨_,rfl,"set_iterator",_,hI.ty,v9.lookup,hQ⟩))
theorem TY:typeLookup (.type "set") "__len__"=pure (some (.builtin "set.__len__")):=by rfl
theorem Tx(hh:A.handled=none)(hL:Lies s.heap a es ep t)(hw:Well (Led w) t)(hz:es.size<=10000){Q:List Value->Shared->Prop}(h:∀(vs:List Value) h' d' lO,vs.Perm (es.toList.map (·.2))->(∀c o,s.heap.get? c=some o->h'.get? c=some o)->s.heap.objs.size<=h'.objs.size->s.toks<=lO->Q vs { s with heap:=h',drawn:=d',toks:=lO }) :
  wpAny (model prog w) A (collect (.ref a)) Q E s:=by
 have eA:=let ⟨o,ho,_⟩:=hL.at_;aj ho
 refine aa (wpAny_runValue (eQ F.entry_proto_collect ?_));refine aa (cw ?_);refine ah ⟨lg F.plain_list_iadd _,eQ F.entry_list_iadd ?_⟩;have ql:Lies (s.heap.push { cls:=.type "list",data:=.seq ([]:List Value).toArray }) a es ep t:=hL.at λo e=>ag _ e;have KQ:(s.heap.push { cls:=.type "list",data:=.seq ([]:List Value).toArray }).get? s.heap.objs.size=some { cls:=.type "list",data:=.seq ([]:List Value).toArray }:=ak _ rfl;have gM:=bY eA;have h1:Builtin.List.listSameRef (.ref s.heap.objs.size) (.ref a)=false:=by simp[Builtin.List.listSameRef,gM]
 show wpAny _ A.in1 (Builtin.List.listExtendWith (.ref s.heap.objs.size) (.ref a) (.ref s.heap.objs.size)) _ _ _;refine aa (ef (Lies.ty ql) ?_);rw[aA (by rw[h1];decide)];refine aa (UI ql hw hz λr pl b f I h2 d2 hr hI hf hb KI he yO YZ=>?_);have vF:=ql.at λo e=>he a o e;have tG:=he _ _ KQ;refine aa (aY ?_);refine aa (wpAny_specialOf (Lies.ty vF) TY ?_);generalize Dg:("set.__len__":String)=JT;dsimp only;rw[show splitId JT=some ("set","__len__") from by subst Dg;decide +kernel];refine aa (fK (b:=true) (Lies.ty vF) (by rfl) ?_);rw[aA ∅];subst Dg;rw[aF (by decide +kernel)];refine aa (ef (Lies.ty vF) ?_);refine ah ?_;rw[aF (by decide +kernel)];refine aa (cV ?_);refine aa ?_;refine aa (wpAny_updateSeq tG rfl ?_);have Ds:=aL (Obj.mapSeq (·.push Value.none)) tG rfl;refine wpAny_updateSeq (s:={ s with heap:=_,drawn:=d2 }) Ds rfl ?_;have KP:=aL (Obj.mapSeq (·.pop)) Ds rfl;have rZ:∀c o,c≠s.heap.objs.size->h2.get? c=some o->((h2.update s.heap.objs.size (Obj.mapSeq (·.push Value.none))).update s.heap.objs.size (Obj.mapSeq (·.pop))).get? c=some o :=
  λc o hc e=>(bU _ _ (dg hc)).trans ((bU _ _ (dg hc)).trans e)
 have qb:s.heap.objs.size<(s.heap.push { cls:=.type "list",data:=.seq ([]:List Value).toArray }).objs.size:=by simp
 have YY:=bY (au qb yO);have YX:b≠s.heap.objs.size:=by
  rcases KI with z|z
  ·rw[z];exact dg gM
  ·exact bY (au qb z)
 have W:=(VX (prog:=prog) (A:=A.in1) (ep:=ep) hh hr hb (aC (au (du eA qb) yO))).toS;have st:Lies h2 a es ep t/\∃f,A2 h2 I a f 0 es.size ep/\K1 h2 t b pl 0 f r:=⟨vF,f,hI,hf⟩
 have gI:=W.frame 0 ({ s with heap:=h2,drawn:=d2 }:Shared) _ s.toks st (ai _) λc hc o e=>rZ c o (λz=>by simp at hc;rcases hc with y|y|y<;>simp_all) e;refine ah ⟨lg F.plain_extend_loop _,codeAny_extend_loopS W (aD hz ∅) _ (λz=>by simp at z;rcases z with y|y|y<;>simp_all) _ es.size 0 _ _ _ rfl (cJ _) gI KP (ItemsOf.nil _) λs' uE c' hm qi tF=>?_⟩;refine aa (wpAny_load qi ?_);refine ah ?_;have eS:s'={ s with heap:=s'.heap,drawn:=d2,toks:=s'.toks }:=by
  obtain⟨lz,g',d',lO,sd⟩:=s';have m1:g'=s.gens:=hm.gens;have m2:d'=d2:=hm.drawn;have m3:sd=s.os:=hm.os
  grind
 have eo:uE.toList=uA w a es ep pl r:=by
  have l1:(uA w a es ep pl r).length=es.size:=by rw[(EK hr).length_eq];simp
  apply Zq
  ·rw[l1];simpa using tF.1
  ·intro i h1 h2;have:=tF.2 i uE.toList[i] (by simp at h1 ⊢);dsimp only at this;rw[az h2] at this;exact(aq this).symm
 rw[eo,eS];refine h _ _ d2 s'.toks (EK hr) (λc o e=>?_) (dw (aj qi)) hm.toks;have hc:=aj e;have n1:=aC hc;have n2:=aC (au (du hc qb) yO);exact hm.heap c o (by simp[n1,n2]) (rZ c o n1 (he c o (ag _ e)))
theorem WN(hh:A.handled=none)(hS:o6 prog w s.heap a ks)(yQ:ks.length<=600)(h:∀(S:Addr) (vs:List Value) (ns:List Int) e h' d' lO,IntsAre vs ns->ns.Perm ks->ns.Pairwise (·<=·)->h'.get? S=some (seqObj "list" vs.toArray e)->s.heap.objs.size<=S->(∀c o,s.heap.get? c=some o->h'.get? c=some o)->s.toks<=lO->Q (.ref S) { s with heap:=h',drawn:=d',toks:=lO }) :
  wpAny (model prog w) A (call (.builtin "sorted") [.ref a]) Q E s:=by
 obtain⟨o,es,ep,t,ho,hx,hd,pk,hp,hn,hb,hf,hw⟩:=hS;have hL:Lies s.heap a es ep t:=⟨⟨o,ho,hx.1,hd⟩,hf⟩
 have hz:es.size=ks.length:=by rw[<- hp.length_eq];simp
 refine Calls.call_function_entry kind_sorted plain_sorted entry_sorted (args_sorted1 _) ?_;unfold Builtin.«sorted»;refine aa (ah ?_);refine aa (Tx (A:=A.in1) hh hL hw () λvs h1 d1 Cj hv he qb vn=>?_);have hI:IntsAre vs (vs.map toI):=by
  have all:∀v∈vs,∃tk,v=.int (toI v) tk:=λv yh=>by
   obtain⟨e,jL,rfl⟩:=aW.mp (hv.mem_iff.mp yh);obtain⟨tk,h1,_⟩:=Hi pk jL;exact⟨tk,h1⟩
  clear hv
  induction vs with
  |nil=>exact .nil
  |cons v r ih =>
   obtain⟨tk,e⟩:=all v (by simp);have:=IntsAre.cons (toI v) tk (ih λu hu=>all u (by simp[hu]));rw[<- e] at this;exact this
 have hk:(vs.map toI).Perm ks:=by
  refine(hv.map toI).trans ?_;rw[cI];exact hp
 have hl:vs.length<=100000:=by rw[hv.length_eq];simp;omega
 refine aa (IT ?_);have sU:(h1.push (seqObj "list" vs.toArray 0)).get? h1.objs.size=some (seqObj "list" vs.toArray 0):=ak _ rfl;refine aa (aY (bT (s:={ s with heap:=h1.push (seqObj "list" vs.toArray 0),drawn:=d1,toks:=Cj }) slot_list_sort ⟨_,sU,rfl⟩ entry_list_sort (TS.UJ sU hI hl λout ng a1 a2 a3=>⟨_,rfl,?_⟩) (args_list_sort _)));obtain⟨e,jL⟩:=sortedHeap_at sU;refine ah ⟨_,rfl,h h1.objs.size out.toList ng e _ d1 Cj a1 (a2.trans hk) a3 jL qb (λc o' e'=>?_) vn⟩;have hc:=aj (he c o' e');rw[sortedHeap_old (aC hc) (by rw[size_push'];exact Ys hc)];exact ag _ (he c o' e')
def j8(ks xs:List Int):List Int:=xs.foldl C4 ks
theorem M6:∀(xs ks:List Int),(j8 ks xs).length<=ks.length+xs.length
 |[],ks=>by simp[j8]
 |x::xs,ks=>by
  have:=M6 xs (C4 ks x);have h2:=Xg ks x;show(j8 (C4 ks x) xs).length<=_
  grind
theorem Fx:∀(xs ks:List Int),ks.Nodup->(j8 ks xs).Nodup
 |[],ks,h=>h
 |x::xs,ks,h=>by
  refine Fx xs _ ?_;unfold C4;split
  ·exact h
  ·rename_i hk;rw[eN];exact⟨h,by simp,λa ha b hb=>by simp at hb;subst hb;exact λz=>hk (z▸ha)⟩
theorem Wq:Well (Led w) (SetTable.fresh 0 0 (Led w)):=⟨by simp[jW,SetTable.fresh],rfl,rfl⟩
theorem Vm(e:h.get? a=some { cls:=.type "set",dict:=none,data:=.set #[] 0 (.fresh 0 0 (Led w)) }):o6 prog w h a [] :=
 ⟨_,#[],0,_,e,⟨rfl,rfl,rfl⟩,rfl,(by intro e he;simp at he),by simp,by simp,by decide,by rfl,Wq⟩
theorem UU{R:Result->Shared->Prop}{fp wr:List Addr}{G:Array GenState->Array GenState->Prop}{P:Nat->Value->Prop}{St:Nat->Shared->Prop}(W:WalksS prog w A.in1 I fp wr G n P St)(Dr:a∉fp)(hn:n=ns.length)(hv:∀i v,P i v->∃tk,v=.int (ns.getD i 0) tk)(hb:n+1<scanBound):∀(k i:Nat) (s:Shared),i+k=n->St i s->o6 prog w s.heap a (j8 [] (ns.take i)) ->
   (∀s',Moved (a::wr) G s s'->o6 prog w s'.heap a (j8 [] ns)->R (.ok (.ret .none)) s')->codeAny (model prog w) A (.builtin "set.update.loop" ⟨[.ref a,.ref I],[]⟩) R s:=by
 have hw:a∉wr:=λh=>Dr (W.sub _ h);have rK:∀b∈wr,b∈a::wr:=λb hb=>by simp[hb]
 intro k
 induction k with
 |zero =>
  intro i s e st hS hR;obtain rfl:i=n:=by omega
  refine eQ jg ?_;refine aa (W.done s _ _ st λs' m=>ah (hR s' (m.mono rK) (o6.at ?_ λo e=>m.heap a o hw e)))
  simp_all
 |succ k ih =>
  intro i s e st hS hR;have eA:i<ns.length:=by omega
  refine eQ jg ?_;refine aa (W.item i s _ _ () st λv s' hP aQ m=>?_);obtain⟨tk,rfl⟩:=hv i v hP;have qi:=o6.at hS λo e=>m.heap a o hw e;have hl:=M6 (ns.take i) [];rw[bC] at hl;simp only[List.length_nil] at hl;refine aa (aY ?_);refine aY (aa ((intKind prog w).pyHash (k:=ns.getD i 0) (xb _ _ _ _) ?_));refine Sb (s:={ s' with toks:=s'.toks+1 }) qi () λh' bb sb tG=>?_;have e2:C4 (j8 [] (ns.take i)) (ns.getD i 0)=j8 [] (ns.take (i+1)):=by
   unfold j8;rw[mQ,Yv,az eA];simp[List.getD,eA]
  rw[e2] at tG;refine ah ⟨lg PyProof.Rows.F.plain_set_update_loop _,ih (i+1) _ () (W.frame _ s' _ _ aQ (cD _) λb hb o e=>by rw[sb.2 b λz=>Dr (z▸hb)];exact e) tG λs2 m2 h2=>?_⟩;exact hR s2 (Moved.trans W.gtrans ((m.mono rK).then_heap (cD _) λb o hb e=>by rw[sb.2 b λz=>hb (by rw[z];simp)];exact e) m2) h2
noncomputable abbrev B6(w:World):Obj:={ cls:=.type "set",dict:=none,data:=.set #[] 0 (.fresh 0 0 (Led w)) }
theorem Pe(h:Q (.ref s.heap.objs.size) { s with heap:=s.heap.push (B6 w) }):wpAny (model prog w) A (newSet (.type "set")) Q E s:=by
 refine aa (Y5 ?_);exact cw h (cJ _)
theorem Xo(x:Value)(h:Q (.ref s.heap.objs.size) { s with heap:=s.heap.push (B6 w) }):codeAny (model prog w) A (.call (.builtin "set.__new__") ⟨[.type "set",x],[]⟩) (wants Q E) s:=by
 refine qZ (?_:wpAny _ A.in1 (do
  checkBuiltinCall "set.__new__" ⟨[.type "set",x],[]⟩
  again (.builtin "set.__new__" ⟨[.type "set",x],[]⟩)) _ _ s)
 refine aa (dS (F.newCall_set_1 x) (ah ⟨lg F.plain_set_new _,?_⟩));refine eQ F.entry_set_new ?_;have sub:=sub_set_self;refine aa ?_;refine aa (dS (by rfl) ?_);refine aa (dS sub ?_);refine ah ?_;exact aa (Pe (ah h))
theorem EC{vs:List Value}(h:IntsAre vs ns):vs.length=ns.length:=by
 induction h with
 |nil=>rfl
 |cons n t r ih=>simp[ih]
def ua(h:Heap)(l:Addr)(items:Array Value):Prop:=h.IsList l items\/h.IsTuple l items
theorem ua.lt(x:ua h l items):l<h.objs.size:=by
 rcases x with⟨_,e,_⟩|⟨_,e,_⟩<;>exact aj e
theorem XF{Q:Fin->Shared->Prop}(hh:A.handled=none)(hS:s.heap.get? a=some (B6 w))(hl:ua s.heap l items)(hi:IntsAre items.toList ns)(hb:items.size+1<scanBound)(gM:a≠l)(h:∀h' tk,o6 prog w h' a (j8 [] ns)->(∀b o,b≠a->s.heap.get? b=some o->h'.get? b=some o)->s.toks<=tk->wpAny (model prog w) A (ret .none) Q E { s with heap:=h',toks:=tk }) :
  wpAny (model prog w) A (Builtin.«set.__init__» ⟨[.ref a,.ref l],[]⟩) Q E s:=by
 have hT:s.TypeIs (.ref a) "set":=⟨_,hS,rfl⟩
 have eA:=hl.lt;have Dc:=aC eA;refine aa (dS rfl ?_);have nm:∀{Q':String->Shared->Prop},(∀x,Q' x s)->wpAny (model prog w) A (typeNameOfCut 200 (.ref a)) Q' E s:=λ{Q'} q=>by
  refine aa (aa (ef hT ?_));refine ah (dS (a:="set") ?_ (q _))
  rfl
 refine aa (nm λx=>?_);refine aa (ah ?_);refine aa (ah ?_);refine aa (aa (cv hS rfl rfl (ah ?_)));rw[aA (by unfold SetTable.fill;simp[SetTable.fresh])];unfold Builtin.Frozenset.updateFrom Builtin.Frozenset.isAnySet;obtain⟨c,qg,yM,it,hit,Df,St,W,eJ⟩:∃c:String,(c="list"\/c="tuple")/\s.TypeIs (.ref l) c/\∃it:Obj,(∀Q':Value->Shared->Prop,Q' (.ref s.heap.objs.size) { s with heap:=s.heap.push it }->wpAny (model prog w) A (pyIter (.ref l)) Q' E s) /\
   (∀b o,s.heap.get? b=some o->(s.heap.push it).get? b=some o)/\∃St:Nat->Shared->Prop,WalksS prog w A.in1 s.heap.objs.size [s.heap.objs.size,l] [s.heap.objs.size] (λa b=>b=a) items.size (λi v=>items[i]?=some v) St/\St 0 { s with heap:=s.heap.push it }:=by
  rcases hl with hl|hl
  ·obtain⟨o,ho,hc,_⟩:=id hl;exact⟨"list",.inl rfl,⟨o,ho,hc⟩,_,λQ' q=>dO hl q,λb o e=>ag _ e,_,(xc (A:=A.in1) hh _ l Dc items).toS,⟨⟨_,ak _ rfl,rfl,rfl⟩,hl.push _⟩⟩
  ·obtain⟨o,ho,hc,_⟩:=id hl;exact⟨"tuple",.inr rfl,⟨o,ho,hc⟩,_,λQ' q=>lF hl q,λb o e=>ag _ e,_,(Walks.tuple (A:=A.in1) hh _ l Dc items).toS,⟨⟨_,ak _ rfl,rfl,rfl⟩,hl.push _⟩⟩
 refine aa (aa (aa (fK (b:=false) yM (by rcases qg with rfl|rfl<;>(rw[jY];kernel_rfl)) ?_)));refine fK (b:=false) yM (by rcases qg with rfl|rfl<;>(rw[jY];kernel_rfl)) ?_;rw[aA ∅];refine aa (ef yM ?_);rw[aA (by rcases qg with rfl|rfl<;>decide)];refine aa (hit _ ?_);refine aa (wpAny_runValue ?_);have KN:=aj hS;have gp:items.size=ns.length:=by exact EC hi
 refine UU W (by simp only[List.mem_cons,List.not_mem_nil,or_false,not_or];exact⟨aC KN,gM⟩) gp (λi v hv=>IntsAre.int_at hi i v (by rw[fb];exact hv)) hb items.size 0 _ ()
  eJ (Vm (Df _ _ hS)) λs' m qi=>?_
 have eS:s'={ s with heap:=s'.heap,toks:=s'.toks }:=by
  obtain⟨lz,g',d',lO,sd⟩:=s';have m1:g'=s.gens:=m.gens;have m2:d'=s.drawn:=m.drawn;have m3:sd=s.os:=m.os
  simp_all
 rw[eS];refine ah (h _ _ qi (λb o hb e=>?_) m.toks);exact m.heap b o (by simp only[List.mem_cons,List.not_mem_nil,or_false,not_or];exact⟨hb,aC (aj e)⟩) (Df _ _ e)
theorem Xk(hh:A.handled=none)(hl:ua s.heap l items)(hi:IntsAre items.toList ns)(hb:items.size+1<scanBound)(h:∀h' tk,o6 prog w h' s.heap.objs.size (j8 [] ns)->(∀b o,s.heap.get? b=some o->h'.get? b=some o)->s.toks<=tk->Q (.ref s.heap.objs.size) { s with heap:=h',toks:=tk }) :
  wpAny (model prog w) A (call (.type "set") [.ref l]) Q E s:=by
 have cs:=F.called_set;obtain⟨_,_,y1⟩:=cs.mro;have y2:=cs.made;have y3:=cs.sub;have y6:=F.typeCall_set_1 (.ref l);refine jd (qZ (?_:wpAny _ _ (callAny (.type "set") _) _ _ _));refine ah ⟨lK _ (by decide +kernel),eQ F.entry_type_call ?_⟩;rw[Around.under_plain (weight_type_call_type "set" [.ref l] []) rfl]
 repeat (any_goals (first|assumption|wp_step))
 refine fo (Xo (.ref l) (E:=E) (Q:=λv s1=>v=.ref s.heap.objs.size/\s1={ s with heap:=s.heap.push (B6 w) }) ⟨rfl,rfl⟩) ?_;rintro(e|fl) s1 hr
 ·exact hr
 cases fl with
 |next=>exact hr
 |brk=>exact hr
 |cont=>exact hr
 |ret v =>
 obtain⟨rfl,rfl⟩:=hr;have hS:(s.heap.push (B6 w)).get? s.heap.objs.size=some (B6 w):=ak _ rfl;have hT:Shared.TypeIs { s with heap:=s.heap.push (B6 w) } (.ref s.heap.objs.size) "set":=⟨_,hS,rfl⟩
 have y7:=cs.init.lookup;have y8:=cs.init.bind (.ref s.heap.objs.size)
 repeat (any_goals (first|assumption|wp_step))
 refine fo (jZ (R:=wants (λv s2=>v=.none/\∃h' tk,s2={ s with heap:=h',toks:=tk }/\o6 prog w h' s.heap.objs.size (j8 [] ns)/\(∀b o,s.heap.get? b=some o->h'.get? b=some o)/\s.toks<=tk) E) cs.init.plain F.entry_set_init (check_set_init_1 hT ?_)) ?_
 ·have Kq:ua (s.heap.push (B6 w)) l items:=hl.imp (·.push _) (·.push _);have Kn:=hl.lt;refine XF (by simp[hh]) hS Kq hi hb (bY Kn) λh' tk h1 h2 h3=>ah ⟨rfl,h',tk,rfl,h1,λb o e=>h2 b o (aC (aj e)) (ag _ e),h3⟩
 ·rintro(e|fl) s2 hr
  ·exact hr
  cases fl with
  |next=>exact hr
  |brk=>exact hr
  |cont=>exact hr
  |ret v =>
  obtain⟨rfl,h',tk,rfl,h1,h2,h3⟩:=hr
  repeat (any_goals (first|assumption|wp_step))
  exact h _ _ h1 h2 h3
end ST
namespace L2
open PySem PySem.Spec PyProof.Rows
def wW(X:Cx)(a:Addr)(ks:List Int):HO:=.ext λh=>ST.o6 X.prog X.w h a ks
def u4(ns:List Int):List Int:=(ST.j8 [] ns).mergeSort (λa b=>decide (a<=b))
theorem W6:∀{a b:List Int},a.Perm b->a.Pairwise (·<=·)->b.Pairwise (·<=·)->a=b
 |[],b,h,_,_=>by simp_all
 |x::a,[],h,_,_=>absurd h.length_eq (by simp)
 |x::a,y::b,h,h1,h2=>by
  rw[eh] at h1 h2;have e:x=y:=by
   have m1:=h.mem_iff (a:=y);have m2:=h.mem_iff (a:=x);simp only[List.mem_cons,true_or,true_iff,iff_true] at m1 m2;rcases m1 with z|z
   ·exact z.symm
   ·grind
  subst e;rw[W6 (h.cons_inv) h1.2 h2.2]
theorem S5(ns:List Int):(u4 ns).Pairwise (·<=·):=by
 have:=List.pairwise_mergeSort (le:=λa b:Int=>decide (a<=b)) (λa b c h1 h2=>by simp at *;omega) (λa b=>by simp;omega) (ST.j8 [] ns);exact this.imp λh=>by simpa using h
theorem L8(ns:List Int):(u4 ns).Perm (ST.j8 [] ns):=List.mergeSort_perm _ _
theorem VZ(ns:List Int):(u4 ns).length<=ns.length:=by
 rw[(L8 ns).length_eq];have:=ST.M6 ns []
 simp_all
section
variable{X:Cx}{pins:List (Addr×Obj)}{U:St}{H:Hp}{s:Shared}
theorem Inv.draw(I:Inv X pins U H s)(d:Drawn):Inv X pins U H { s with drawn:=d } :=
 I.step (g':=s.gens) (t':=s.toks) (d':=d) (ch:=[]) (by simp) (λb o _ _ _ e _=>e) (λb o _ _ _ e _=>⟨o.slots,e⟩) (λb o _ _ e=>e) (λb o _ e=>⟨o,e⟩) (λ_ _ e=>e) (λ_ _ _ e=>e) (λb ps e=>⟨#[],by simp[e]⟩) (λm hm=>hm) I.bB I.bare
theorem Qk{h:Heap}{a:Addr}{ks:List Int}(x:ST.o6 X.prog X.w h a ks):j3 X.prog X.w H h a (wW X a ks) :=
 ⟨x,by obtain⟨o,_,_,_,e,_⟩:=x;exact⟨o,e⟩,λh1 h2 y k=>y.at k⟩
theorem WS{ns:List Int}{vs:List Value}(h:IntsAre vs ns):Vals (ns.map V.int) vs:=by
 induction h with
 |nil=>exact .nil
 |cons n t r ih=>exact .cons ⟨t,rfl⟩ ih
theorem FO:∀{ns:List Int} {vs:List Value},Vals (ns.map V.int) vs->IntsAre vs ns
 |[],_,h=>by cases h;exact .nil
 |n::ns,_,h=>by
  cases h with
  |cons r rr =>
   obtain⟨t,rfl⟩:=r;exact .cons n t (FO rr)
theorem Y3(hc:X.calm=true):k9 X (.type "set") (λxs H Q=>∃a ns,xs=[.ref a]/\gs X.K H a (ns.map V.int)/\ns.length<600/\∀p,H p=none->Q (.ref p) (upd H p (wW X p (ST.j8 [] ns)))):=by
 intro pins s U H xs us Q I r h;obtain⟨a,ns,rfl,hq,hl,q⟩:=h;cases r with
 |cons r rr =>
 cases rr;cases r;obtain⟨bf,rv,p,hz⟩:=I.list hq;have hI:=FO rv;have hlen:=ST.EC hI;refine ST.Xk (ns:=ns) (I.ok.hd hc) (.inl p.isList) (by simpa using hI) (by rw[aJ,hlen];exact au (Nat.succ_lt_succ hl) ∅) λh' tk hS hk _=>?_;exact⟨.ref _,_,I.laid (a:=s.heap.objs.size) (t':=tk) hk (ai _) (Qk hS),rfl,q _ (I.bB.fresh (ai _))⟩
theorem Uo(hc:X.calm=true):k9 X (.builtin "sorted") (λxs H Q=>∃a ns,xs=[.ref a]/\H a=some (wW X a (ST.j8 [] ns))/\ns.length<600/\∀p,H p=none->Q (.ref p) (upd H p (.lst ((u4 ns).map V.int)))):=by
 intro pins s U H xs us Q I r h;obtain⟨a,ns,rfl,ha,hl,q⟩:=h;cases r with
 |cons r rr =>
 cases rr;cases r;have hS:ST.o6 X.prog X.w s.heap a (ST.j8 [] ns):=(I.bB a _ ha).1;have hn:=ST.M6 ns [];simp only[List.length_nil] at hn;refine ST.WN (I.ok.hd hc) hS () λS vs ng e h' d' lO h1 h2 h3 h4 h5 h6 _=>?_;have e1:ng=u4 ns:=W6 (h2.trans (L8 ns).symm) h3 (S5 ns);subst e1;have hz:=VZ ns;exact⟨.ref S,_,(I.laid (a:=S) (o:=.lst ((u4 ns).map V.int)) (t':=lO) h6 h5 ⟨by rw[av];exact aD hz (aD (dw hl) ∅),vs,e,WS h1,h4⟩).draw d',rfl,q S (I.bB.fresh h5)⟩
end
end L2
namespace ST
open PySem PyProof.Rows
end ST
namespace L2
open PySem PySem.Spec PyProof.Rows
end L2
namespace HT
open PySem PyProof.Rows Builtin
end HT
namespace L2
open PySem PySem.Spec PyProof.Rows
section
variable{X:Cx}
def A6(sep:Str)(ys:List Str):Nat:=ys.foldl (λn y=>n+y.length+sep.length) 0
theorem Wb:∀{ys:List Str} {vs:List Value},Vals (ys.map V.str) vs->∃l:List (Str×Tok),vs=strValues l/\l.map (·.1)=ys:=by
 intro ys
 induction ys with
 |nil=>intro vs h;cases h;exact⟨[],rfl,rfl⟩
 |cons y ys ih =>
  intro vs h;cases h with
  |cons r rr =>
   obtain⟨t,rfl⟩:=r;obtain⟨l,rfl,e⟩:=ih rr;exact⟨(y,t)::l,rfl,by simp_all⟩
theorem Vo(sep:Str):∀(ps:List Str) (acc:Array Nat) (n:Nat),acc.size<=n->(ps.foldl (λacc p=>acc++sep.cps++p.cps) acc).size<=ps.foldl (λn y=>n+y.length+sep.length) n:=by
 intro ps
 induction ps with
 |nil=>intro acc n h;exact h
 |cons p ps ih =>
  intro acc n h;rw[fB,fB];refine ih _ _ ?_;rw[cq,cq];have:p.length=p.cps.size:=rfl;have:sep.length=sep.cps.size:=rfl;omega
theorem Fq(sep:Str)(ys:List Str):(Builtin.Str.glued sep ys).length<=A6 sep ys:=by
 cases ys with
 |nil=>exact ai _
 |cons y ys =>
  show((ys.foldl (λacc p=>acc++sep.cps++p.cps) y.cps)).size<=ys.foldl (λn y=>n+y.length+sep.length) (0+y.length+sep.length);refine Vo sep ys _ _ ?_;have:y.length=y.cps.size:=rfl;omega
theorem Pb:jP X "str.join" (λx xs H Q=>∃sep a ys,x=.str sep/\xs=[.ref a]/\gs X.K H a (ys.map V.str)/\A6 sep ys<=sizeLine/\Q (.str (Builtin.Str.glued sep ys)) H):=by
 intro pins s U H x xs v us Q I rx r h;obtain⟨sep,a,ys,rfl,rfl,hq,hz,q⟩:=h;obtain⟨t,rfl⟩:=rx;cases r with
 |cons r rr =>
 cases rr;cases r;obtain⟨bf,rv,pl,_⟩:=I.list hq;obtain⟨l,rfl,el⟩:=Wb rv;have hl:Builtin.Str.tooLong ((l.map (·.1)).toArray.foldl (·+·.length+sep.length) 0)=false:=by
  unfold Builtin.Str.tooLong;rw[decide_eq_false_iff_not,List.foldl_toArray,el];exact mO.mpr hz
 refine eU F.slot_str_join (fM s sep t) F.entry_str_join (F.args_str_join_2 _ _) (meets_str_join_list sep t a l hl) ⟨pl.isList,?_⟩;have fin:wants (EP X pins U Q) X.xe (Except.ok (Flow.ret (.str (Builtin.Str.glued sep ys) s.toks))) { s with toks:=s.toks+1 }:=⟨.str _,H,I.tok _,⟨_,rfl⟩,q⟩
 have gen:(Made.str (Builtin.Str.glued sep (l.map (·.1)))).post (λv s'=>wants (EP X pins U Q) X.xe (Except.ok (Flow.ret v)) s') s:=by
  rw[el];exact⟨aD (Fq sep ys) hz,fin⟩
 rcases l with _|⟨p,_|⟨p2,l⟩⟩
 ·exact gen
 ·subst el;exact⟨.str p.1,H,I,⟨_,rfl⟩,q⟩
 ·exact gen
end
end L2
namespace HT
open PySem PyProof.Rows Builtin PySem.SeqAt
end HT
namespace L2
open PySem PySem.Spec PyProof.Rows
def Bz(K:PySem.W.Frag)(H:Hp)(a:Addr)(xs:List V):Prop :=
 H a=some (.tup xs)\/∃(o:Obj) (bf:Array Value) (n:Nat),K.lookup a=some o/\o.cls=.type "tuple"/\o.dict=none/\o.data=.seq bf n/\bf.size<=sizeLine/\Vals xs bf.toList
theorem Bz.sq{K:PySem.W.Frag}{H:Hp}{a:Addr}{xs:List V}(h:Bz K H a xs):iw K H a xs:=by
 rcases h with h|⟨o,bf,n,h1,h2,_,h3,h4,h5⟩
 ·exact .inl (.inl h)
 ·exact .inr ⟨o,bf,n,h1,h2,h3,h4,h5⟩
end L2
namespace ST
open PySem PyProof.Rows
variable{h:Heap}
def Spot(k:Int):Prop:=0<=k/\k<8
structure Own(mask:Nat)(owner:Array (Option Nat))(pre:List Int):Prop where
 sz:owner.size=mask+1
 fwd:∀(i:Nat) (k:Int),pre[i]?=some k->owner[k.toNat]?=some (some i)
 bwd:∀(j i:Nat),owner[j]?=some (some i)->pre[i]?=some (j:Int)
section
variable{prog:Program}{w:World}{a:Addr}
def QI(prog:Program)(w:World)(h:Heap)(a:Addr)(ks:List Int):Prop :=
 ∃o es ep t,h.get? a=some o/\o.ExactSet/\o.data=.set es ep t/\ElemsOf (intKind prog w) es.toList/\(es.toList.map λe=>toI e.2).Perm ks/\ks.Nodup/\es.size<scanBound/\t.fits es.size=true/\Well (Led w) t/\(ks=[]->7<=t.mask)
theorem o6.toV{ks:List Int}(x:o6 prog w h a ks)(hn:ks≠[]):QI prog w h a ks:=by
 obtain⟨o,es,ep,t,h1,h2,h3,h4,h5,h6,h7,h8,h9⟩:=x;exact⟨o,es,ep,t,h1,h2,h3,h4,h5,h6,h7,h8,h9,λz=>absurd z hn⟩
theorem o6.same{ks us:List Int}(x:o6 prog w h a ks)(hp:ks.Perm us):o6 prog w h a us:=by
 obtain⟨o,es,ep,t,h1,h2,h3,h4,h5,h6,h7⟩:=x;exact⟨o,es,ep,t,h1,h2,h3,h4,h5.trans hp,hp.nodup_iff.mp h6,h7⟩
theorem J8{o:Obj}{es nH:Array (Int×Value)}{ep:Nat}{t t':SetTable}(ho:h.get? a=some o)(hd:o.data=.set es ep t):(h.update a (Obj.putSet nH t')).get? a=some { o with data:=.set nH (ep+1) t' }:=by
 have:=aL (Obj.putSet nH t') ho (by rw[Ym nH t' hd];rfl);rw[Ym nH t' hd] at this;exact this
theorem above:∀n,n<300->7<SetTable.sizeAbove n/\n<SetTable.sizeAbove n/\SetTable.sizeAbove n<=sizeLine:=by decide +kernel
end
end ST
namespace L2
open PySem PySem.Spec PyProof.Rows
variable{X:Cx}
end L2
namespace ST
open PySem PyProof.Rows
end ST
namespace L2
open PySem PySem.Spec PyProof.Rows
variable{X:Cx}
theorem Z0:∀{ns ks:List Int},(ks++ns).Nodup->ST.j8 ks ns=ks++ns
 |[],ks,_=>by simp[ST.j8]
 |n::r,ks,h=>by
  have hn:n∉ks:=λz=>by
   have:=(eN.mp h).2.2 n z n (by simp);exact this rfl
  have e:ST.C4 ks n=ks++[n]:=by
   unfold ST.C4;rw[aA (by simpa using hn)]
  show ST.j8 (ST.C4 ks n) r=_;rw[e,Z0 (by simp_all),bw]
  rfl
theorem Vd(hc:X.calm=true):k9 X (.builtin "all") (λxs H Q=>∃(a:Addr) (ns:List Int),xs=[.ref a]/\gs X.K H a (ns.map V.int)/\Q (.bl (ns.all λn=>n != 0)) H):=by
 intro pins s U H xs us Q I r h;obtain⟨a,ns,rfl,ha,q⟩:=h;obtain⟨u,rfl,ru⟩:=vals1 r;cases ru;obtain⟨bf,rv,p,hz⟩:=I.list ha;refine call_all_walk ?_;refine dO p.isList ?_;have gM:a≠s.heap.objs.size:=by
  obtain⟨o,e,_⟩:=id p.isList;exact aC (aj e)
 have hl:=rv.length;rw[av] at hl;refine⟨s.heap.objs.size,_,_,_,_,_,λi=>ns.getD i 1 != 0,rfl,xc (A:=X.A.in1) (I.ok.hd hc) _ a gM bf.toArray,⟨⟨_,ak _ rfl,rfl,rfl⟩,?_⟩,?_,λh' tk k=>?_⟩
 ·obtain⟨o,e,q1⟩:=id p.isList;exact⟨o,ag _ e,q1⟩
 ·intro i v s' Q' E' hP hQ;have hv:bf[i]?=some v:=by simpa using hP
  have hi:i<ns.length:=by rw[hl];exact(ax.mp hv).1
  obtain⟨u',sR,xD⟩:=rv.get (i:=i) (x:=V.int ns[i]) (by rw[aP,az hi];rfl);rw[hv] at sR;cases sR;obtain⟨t,rfl⟩:=xD;refine truthy_int ?_;have:ns.getD i 1=ns[i]:=by simp[List.getD,hi]
  dsimp only at hQ;rw[this] at hQ;exact hQ
 ·have e1:(List.range bf.toArray.size).all (λi=>ns.getD i 1 != 0)=ns.all λn=>n != 0:=by
   rw[aJ,<- hl];rw[cT];simp only[List.all_eq_true,List.mem_range];constructor
   ·intro hh x hx;obtain⟨i,hi,rfl⟩:=bH.mp hx;have:=hh i hi;simpa[List.getD,hi] using this
   ·intro hh i hi;have:=hh ns[i] (fg hi);simpa[List.getD,hi] using this
  rw[e1];exact ⟨.bl _,H,I.kept (t':=tk) λb o e=>k b o (by
   intro hb;have:b=s.heap.objs.size:=by simpa using hb
   exact absurd (aj e) (by rw [this];exact bK _)) (ag _ e),rfl,q⟩
theorem Ug:k9 X (.builtin "len") (λxs H Q=>∃a,∃ks:List Int,xs=[.ref a]/\H a=some (wW X a ks)/\Q (.int ks.length) H):=by
 intro pins s U H xs us Q I r h;obtain⟨a,ks,rfl,ha,q⟩:=h;obtain⟨u,rfl,ru⟩:=vals1 r;cases ru;have hS:ST.o6 X.prog X.w s.heap a ks:=(I.bB a _ ha).1;obtain⟨o,es,ep,t,e,ex,ed,_,hp,nd,hz,hf,_⟩:=hS;have hl:es.size=ks.length:=by have:=hp.length_eq;simpa using this
 refine call_len_set e ex ed hf (by have:scanBound<2 ^ 62:=∅;omega) ⟨.int ks.length,H,I.tok _,⟨_,by rw[hl]⟩,q⟩
theorem VF:fF X (compareOp .In) (λx y H Q=>∃i a S n,x=.int i/\y=.ref a/\H a=some (.set S n)/\Q (.bl (S i)) H):=by
 intro pins s U H x y v u Q I rx ry h;obtain⟨i,a,S,n,rfl,rfl,ha,q⟩:=h;obtain⟨t,rfl⟩:=rx;cases ry;exact wpAny_inSet_of (xb _ _ _ _) rfl (I.bB a _ ha) ⟨.bl (S i),H,I.tok _,rfl,q⟩
theorem Ub:fF X (compareOp .NotIn) (λx y H Q=>∃i a S n,x=.int i/\y=.ref a/\H a=some (.set S n)/\Q (.bl (!S i)) H):=by
 intro pins s U H x y v u Q I rx ry h;obtain⟨i,a,S,n,rfl,rfl,ha,q⟩:=h;obtain⟨t,rfl⟩:=rx;cases ry;exact wpAny_notInSet_of (xb _ _ _ _) rfl (I.bB a _ ha) ⟨.bl (!S i),H,I.tok _,rfl,q⟩
end L2
namespace ST
open PySem PyProof.Rows
end ST
namespace L2
open PySem PyProof.Rows
def Lw(ns:List Int):List Int:=ns.mergeSort (λa b=>decide (a<=b))
end L2
namespace ST
open PySem PyProof.Rows
end ST
namespace L2
open PySem PyProof.Rows
end L2
namespace L2
open PySem PySem.Spec PyProof.Rows
variable{prog P:Program}{w:World}{A:Around}{s:Shared}{X:Cx}{l t z i1 i2:Addr}{i:Nat}
theorem wK{k:Key}{u:Value}(h:(l9 P w).is k u=true):RelV (kV k) u:=by
 rw[WE] at h;rcases l3 h with⟨j,t,e1,e2⟩|⟨x,t,e1,e2⟩
 ·subst e1 e2;exact⟨t,rfl⟩
 ·subst e1 e2;exact⟨t,rfl⟩
theorem KV.at{aU:List (Key×V)}{vs:List (Key×Value)}(r:KV aU vs):∀{i:Nat} {k:Key} {x:V},aU[i]?=some (k,x)->∃u,vs[i]?=some (k,u)/\RelV x u:=by
 unfold KV at r
 induction r with
 |nil=>intro i k x h;simp at h
 |cons h r ih =>
  intro i k x e;cases i with
  |zero =>
   simp at e;subst e;obtain⟨h1,h2⟩:=h;exact ⟨_,by
    show some _=some (k,_);have yZ:k=_:=h1;rw [yZ],h2⟩
  |succ i=>simpa using ih (by simpa using e)
theorem V2:∀l:List (Str×Tok),Vals ((l.map (·.1)).map V.str) (strValues l)
 |[]=>.nil
 |p::l=>.cons ⟨_,rfl⟩ (V2 l)
theorem EG{pins:List (Addr×Obj)}{U:St}{H:Hp}{Q:VK}{l:List (Str×Tok)}{ys:List Str}{t':Nat}(I:Inv X pins U H s)(hl:l.map (·.1)=ys)(hz:ys.length<=sizeLine)(q:∀p,H p=none->Q (.ref p) (upd H p (.lst (ys.map V.str)))) :
  EP X pins U Q (.ref s.heap.objs.size) { s with heap:=s.heap.push { cls:=.type "list",data:=.seq (strValues l).toArray },toks:=t' }:=by
 subst hl;exact⟨.ref s.heap.objs.size,_,I.laid (a:=s.heap.objs.size) (o:=.lst ((l.map (·.1)).map V.str)) (t':=t') (λ_ _ e=>ag _ e) (ai _) ⟨by rw[av];exact hz,strValues l,_,V2 l,ak _ rfl⟩,rfl,q _ (I.bB.fresh (ai _))⟩
theorem XW:jP X "str.split" (λx xs H Q=>∃a b:Str,x=.str a/\xs=[.str b]/\(b.length==0)=false/\a.length<=sizeLine/\(Txt.split a b).length<=sizeLine/\∀p,H p=none->Q (.ref p) (upd H p (.lst ((Txt.split a b).map V.str)))):=by
 intro pins s U H x xs v us Q I rx r h;obtain⟨a,b,rfl,rfl,hb,ha,hz,q⟩:=h;obtain⟨t,rfl⟩:=rx;cases r with
 |cons r rr =>
 cases rr;obtain⟨u,rfl⟩:=r;have one:Txt.split a b=[a]->EP X pins U Q (.ref s.heap.objs.size) { s with heap:=s.heap.push { cls:=.type "list",data:=.seq [Value.str a t].toArray } }:=λe=>by
  have:=EG (l:=[(a,t)]) (ys:=Txt.split a b) (t':=s.toks) I (by rw[e];rfl) hz q;exact this
 cases h1:(decide (a.length<b.length)||decide (Builtin.Str.strKind a<Builtin.Str.strKind b))
 ·cases hf:(Builtin.Str.occurrences a b 0 a.length (a.length+1)).isEmpty
  ·have es:Txt.split a b=Builtin.Str.partsBetween a (Builtin.Str.occurrences a b 0 a.length (a.length+1)) b.length:=by unfold Txt.split;rw[aA (by rw[h1];decide),aA (by rw[hf];decide)]
   refine eU ot (fM _ _ _) mS (lJ _ _) (meets_str_split_sep a b t u h1 hb hf ha (by rw[<- es];exact hz)) ?_;rw[strsFrom_eq];exact EG (l:=numbered s.toks _) (ys:=Txt.split a b) I ((numbered_texts _ _).trans es.symm) hz q
  ·exact eU ot (fM _ _ _) mS (lJ _ _) (meets_str_split_not_found a b t u h1 hb hf) (one (by unfold Txt.split;rw[aA (by rw[h1];decide),aF hf]))
 ·exact eU ot (fM _ _ _) mS (lJ _ _) (meets_str_split_cannot_occur a b t u h1) (one (by unfold Txt.split;rw[aF h1]))
theorem Pa:jP X "str.find" (λx xs H Q=>∃a b:Str,x=.str a/\xs=[.str b]/\Q (.int (Txt.find a b)) H):=by
 intro pins s U H x xs v us Q I rx r h;obtain⟨a,b,rfl,rfl,q⟩:=h;obtain⟨t,rfl⟩:=rx;cases r with
 |cons r rr =>
 cases rr;obtain⟨u,rfl⟩:=r;exact SC.find ⟨.int _,H,I.tok _,⟨_,rfl⟩,q⟩
def jr(a b:Str):List Str:=match Builtin.Str.occurrences a b 0 a.length 1 with
 |i::_=>[Builtin.Str.strSub a 0 i,b,Builtin.Str.strSub a (i+b.length) a.length]
 |[]=>[a,Str.empty,Str.empty]
theorem Ua:jP X "str.partition" (λx xs H Q=>∃a b:Str,x=.str a/\xs=[.str b]/\(b.length==0)=false/\a.length<=sizeLine/\∀p,H p=none->Q (.ref p) (upd H p (.tup ((jr a b).map V.str)))):=by
 intro pins s U H x xs v us Q I rx r h;obtain⟨a,b,rfl,rfl,hb,ha,q⟩:=h;obtain⟨t,rfl⟩:=rx;cases r with
 |cons r rr =>
 cases rr;obtain⟨u,rfl⟩:=r;have new:∀(l:List (Str×Tok)) (t':Nat),l.map (·.1)=jr a b->EP X pins U Q (.ref s.heap.objs.size) { s with heap:=s.heap.push { cls:=.type "tuple",data:=.seq (strValues l).toArray },toks:=t' }:=λl t' hl=>by
  have hz:((jr a b).map V.str).length<=sizeLine:=by
   rw[av];unfold jr;split<;>(show 3<=sizeLine;decide)
  rw[<- hl] at q hz;exact⟨.ref s.heap.objs.size,_,I.laid (a:=s.heap.objs.size) (o:=.tup ((l.map (·.1)).map V.str)) (t':=t') (λ_ _ e=>ag _ e) (ai _) ⟨hz,strValues l,V2 l,H9.new _ _⟩,rfl,q _ (I.bB.fresh (ai _))⟩
 refine eU F.slot_str_partition (fM _ _ _) F.entry_str_partition (F.args_str_partition_2 _ _) (meets_str_partition a b t u hb ha) ?_;unfold jr at new;cases e:Builtin.Str.occurrences a b 0 a.length 1 with
 |nil =>
  rw[e] at new;exact new [(a,t),(Str.empty,s.toks),(Str.empty,s.toks)] _ rfl
 |cons i is =>
  rw[e] at new;exact new [(Builtin.Str.strSub a 0 i,s.toks),(b,u),(Builtin.Str.strSub a (i+b.length) a.length,s.toks+1)] _ rfl
theorem GJ(n:Nat)(v:Option Int):HT.de n n v<=n/\(HT.de n n v=n->True):=⟨by
 cases v with
 |none=>exact ai _
 |some v =>
  show(if v<0 then(v+(n:Int)).toNat else min v.toNat n)<=n;split <;> omega,λ_=>trivial⟩
def E3(x:Str)(lo hi:Option Int):Str:=⟨((x.cps.toList.drop (HT.de x.length 0 lo)).take (HT.de x.length x.length hi-HT.de x.length 0 lo)).toArray⟩
theorem part_of{v:Value}{lo:Option Int}(h:IsPart v lo):∃l:Option (Int×Tok),v=partValue l/\l.map (·.1)=lo:=by
 cases h with
 |none=>exact⟨none,rfl,rfl⟩
 |int i t=>exact⟨some (i,t),rfl,rfl⟩
theorem ET(lo hi:Option Int)(n:Nat):Builtin.Str.strSliceIndices lo hi 1 n=(List.range (HT.de n n hi-HT.de n 0 lo)).map (HT.de n 0 lo+·):=by
 obtain⟨h1,h2,h3⟩:=V8 lo hi n;show sliceRange (sliceBounds lo hi none n).1 (sliceBounds lo hi none n).2.1 1=_;rw[h1,h2,sliceRange_one]
theorem NX:qT X (λx lo hi H Q=>∃a:Str,x=.str a/\a.length<=sizeLine/\Q (.str (E3 a lo hi)) H):=by
 intro pins s U H x v vl vu lo hi sl Q I rx hs pl pu h;obtain⟨a,rfl,hz,q⟩:=h;obtain⟨t,rfl⟩:=rx;obtain⟨l,rfl,rfl⟩:=part_of pl;obtain⟨u,rfl,rfl⟩:=part_of pu;refine⟨"str",_,F.slot_str_getitem.lookup,fM _ _ _,?_⟩;refine wpAny_getItem_str_slice (l:=l) (u:=u) (st:=none) hs rfl ?_;have e:(slicePicked a l u none).filterMap (a.cps[·]?)=(E3 a (l.map (·.1)) (u.map (·.1))).cps.toList:=by
  show(Builtin.Str.strSliceIndices (l.map (·.1)) (u.map (·.1)) 1 a.length).filterMap (a.cps[·]?)=_;rw[ET,pick_run]
  rfl
 unfold sliceMade;split
 ·rename_i hc;rw[cj,bp] at hc;have hl:(slicePicked a l u none).length=HT.de a.length a.length (u.map (·.1))-HT.de a.length 0 (l.map (·.1)):=by
   show(Builtin.Str.strSliceIndices (l.map (·.1)) (u.map (·.1)) 1 a.length).length=_;rw[ET];simp
  have h2:=(GJ a.length (u.map (·.1))).1;have nX:=hc.2;rw[bp,hl] at nX;have:E3 a (l.map (·.1)) (u.map (·.1))=a:=by
   unfold E3;have e1:HT.de a.length a.length (u.map (·.1))=a.length:=by omega
   have e2:a.length=0\/HT.de a.length 0 (l.map (·.1))=0:=by omega
   rw[e1];rcases e2 with e2|e2
   ·obtain⟨c⟩:=a;have:c.size=0:=e2;have hc:c=#[]:=Array.eq_empty_of_size_eq_zero this;subst hc;simp
   rw[e2];obtain⟨c⟩:=a;show(⟨((c.toList.drop 0).take c.size).toArray⟩:Str)=⟨c⟩;rw[List.drop_zero,dy (by simp),Array.toArray_toList]
  rw[this] at q;exact⟨.str a,H,I,⟨_,rfl⟩,q⟩
 ·rw[e];refine⟨aD ?_ hz,.str _,H,I.tok _,⟨_,rfl⟩,by simpa using q⟩;show(E3 a (l.map (·.1)) (u.map (·.1))).cps.toList.toArray.size<=a.cps.size;unfold E3;simp;omega
theorem TH:k9 X (.type "int") (λxs H Q=>∃a:Str,∃n,xs=[.str a]/\a.length<=640/\PySem.intText? a=some n/\Q (.int n) H):=by
 intro pins s U H xs us Q I r h;obtain⟨a,n,rfl,hl,hn,q⟩:=h;obtain⟨u,rfl,t,rfl⟩:=vals1 r;exact PySem.W.KIN.call_text hn hl ⟨.int n,H,I.tok _,⟨_,rfl⟩,q⟩
theorem VD:BN X "list.insert" (λx vs H Q=>∃l i xs y,x=.ref l/\vs=[.int i,y]/\H l=some (.lst xs)/\0<=i/\i<=100000/\xs.length<sizeLine/\Q .bA (upd H l (.lst (xs.take i.toNat++y::xs.drop i.toNat)))):=by
 intro pins s U H x vs v us Q I rx rv h;obtain⟨l,i,xs,y,rfl,rfl,hH,h0,h1,hz,q⟩:=h;cases rx;obtain⟨v,u,rfl,⟨t,rfl⟩,ru⟩:=vals2 rv;obtain⟨z,bf,n,r,hl,e⟩:=I.ud hH;refine eU F.slot_list_insert ⟨_,e,rfl⟩ F.entry_list_insert (F.args_list_insert_3 _ _ _) (PySem.AutoSeq1.list_insert_list_int_val_1 l bf.toArray n i t u (by rw[fitsIndex_both () ()];decide) (by rw[aJ];omega)) ⟨e,?_⟩;refine⟨.bA,_,I.pK (its':=bf.take i.toNat++u::bf.drop i.toNat) hH e ?_ ((r.take _).append (.cons ru (r.drop _))) ?_,rfl,q⟩
 ·have e1:(if i<0 then(i+(bf.toArray.size:Int)).toNat else min i.toNat bf.toArray.size)=min i.toNat bf.length:=by rw[aA (),aJ]
  show(bf.toArray.extract 0 (if i<0 then(i+(bf.toArray.size:Int)).toNat else min i.toNat bf.toArray.size)).push u++bf.toArray.extract (if i<0 then(i+(bf.toArray.size:Int)).toNat else min i.toNat bf.toArray.size)=_;rw[e1];apply Array.ext';by_cases hi:i.toNat<=bf.length
  ·rw[iz hi];simp[List.take_of_length_le]
  ·rw[Nat.min_eq_right ()];simp[List.take_of_length_le,List.drop_eq_nil_of_le,show bf.length<=i.toNat by omega]
 ·simp;omega
def BQ(x:Str):It:=⟨λi _=>i<x.length,λi H v H'=>H'=H/\∃c,x.cps[i]?=some c/\v=.str ⟨#[c]⟩,λi _=>x.length<=i⟩
theorem UQ{K:PySem.W.Frag}{tg:Expr}(x:Str)(t:Tok)(it:Addr):Turn P w K tg (BQ x) [it] it (λi h=>h.IsStrIter it "str_ascii_iterator" x t i) where
 mem:=by simp
 obj:=λi h st b hb=>by
  have e:b=it:=by simpa using hb
  subst e;obtain⟨o,e,c,d⟩:=st;exact⟨o,e,λv z=>by rw[d] at z;cases z⟩
 keep:=λi h h' st k=>let ⟨o,ho,r⟩:=st;⟨o,k it (by simp) o ho,r⟩
 item:=by
  intro X hP hw hK hc i pins s U H E I hf st hg;subst hP hw hK;obtain⟨f0,f1,f2,f3,f4,f5⟩:=hf it (by simp);have hg:i<x.cps.size:=hg;refine wpAny_pyNext_ascii_item st (c:=x.cps[i]) (by simp[hg]) λh' aQ sb=>?_;have I1:Inv X pins U H { s with heap:=h',toks:=s.toks+1 }:=I.turned (λb o hb e=>(sb.2 b hb).trans e) f0 f1 f3 f4 f5;obtain⟨o,e,c,d⟩:=id aQ;exact⟨_,rfl,vU (s:={ s with heap:=h',toks:=s.toks+1 }) e c d ∅ ⟨.str ⟨#[x.cps[i]]⟩,H,I1,⟨_,rfl⟩,⟨rfl,_,by simp[hg],rfl⟩,aQ,λb hb=>(hf b hb).1⟩⟩
 done:=by
  intro X hP hw hK hc i pins s U H E I hf st hg;subst hP hw hK;obtain⟨f0,f1,f2,f3,f4,f5⟩:=hf it (by simp);have hg:x.cps.size<=i:=hg;exact wpAny_pyNext_ascii_end (I.ok.hd hc) st (by simp[hg]) λh' eb=>⟨rfl,I.turned (t':=s.toks) (λb o hb e=>eb b o hb e) f0 f1 f3 f4 f5⟩
 self:=λ_ _ _ _ _ st h=>wpAny_pyIter_striter_ascii st h
section
theorem UM{E:Value->Shared->Prop}{y:Value}{ys:List Value}{Q:List Value->Shared->Prop}(hh:A.handled=none)(hl:s.heap.IsList l (y::ys).toArray)(hz:ys.length<sizeLine)(hQ:∀(h':Heap) (tk:Nat),(∀b o,s.heap.get? b=some o->h'.get? b=some o)->Q [y,.ref h'.objs.size] { s with heap:=h'.push { cls:=.type "list",data:=.seq ys.toArray },toks:=tk }):wpAny (model prog w) A (unpackItems (.ref l) 2 (some 1)) Q E s:=by
 have ll:l<s.heap.objs.size:=by obtain⟨o,ho,_⟩:=hl;exact aj ho
 have ne:l≠s.heap.objs.size:=aC ll;unfold unpackItems notIterableAtAll;refine aa (aa (wpAny_specialOf hl.typeIs PySem.F.slot_list_iter.lookup (ah ?_)));simp only[Bool.false_eq_true,if_false];refine aa (aY (dO hl ?_));refine aa (aY (PySem.W.kun_draw ne 1 0 _ _ ⟨_,ak _ rfl,rfl,rfl⟩ (hl.push _) (by simp) λh1 CD rV=>?_));have l1:h1.IsList l (y::ys).toArray:=(hl.push _).extBut rV.extBut ne;have JR:=CD;obtain⟨o1,e1,_⟩:=JR;have l2:=l1;obtain⟨o2,e2,_⟩:=l2;show wpAny _ _ (if(1:Nat)<1 then _ else _) _ _ _;rw[aA ()];refine aa (aY (PySem.W.kun_collect (s:={ s with heap:=h1 }) (T:="list_iterator") (.inr (.inr (.inl rfl))) (xc (A:=A.in1) hh s.heap.objs.size l ne (y::ys).toArray) (λj u st=>st.1.typeIs) (k:=1) (by simp) ⟨CD,l1⟩ (aj e1) (aj e2) (λh2 tk hk=>?_) (by rw[aJ,bg];omega)));show wpAny _ _ (if ys.length<0 then _ else _) _ _ _;rw[aA ()];show wpAny _ _ (newList (ys.take (ys.length-0)) >>= λd=>pure ([y]++[d]++ys.drop (ys.length-0))) _ _ _;rw[Nat.sub_zero,dh,List.drop_length];exact aa (IT (s:={ s with heap:=h2,toks:=tk }) (ah (hQ h2 tk λb o e=>hk b o (aC (aj e)) (rV.extBut b o (aC (aj e)) (ag _ e)))) ())
variable{pos:Pos}
def Ii(K:PySem.W.Frag)(t:mJ):TG:=λv U H Q=>∃l x xs,v=.ref l/\gs K H l (x::xs)/\∀p,H p=none->t [x,.ref p] U (upd H p (.lst xs)) Q
theorem PH{a b:Expr}{pb:Pos}{k:Nat}{t:mJ}(hc:X.calm=true)(h:qV X [a,b] t)(ha:∀e p,a≠.Starred e p:=by intro _ _ h;cases h)(hb:∀e p,b≠.Starred e p:=by intro _ _ h;cases h):PG X (.Tuple [a,.Starred b pb] k pos) (Ii X.K t):=by
 intro pins s U H v u Q I r hw;obtain⟨l,x,xs,rfl,hq,hw⟩:=hw;cases r;obtain⟨bf,rv,p,hz⟩:=I.list hq;cases rv with
 |@cons _ y _ ys r rr =>
 have e1:assignEach [a,.Starred b pb] X.env=[(false,assign a X.env),(true,assign b X.env)]:=by
  cases a<;>first|rfl|exact(ha _ _ rfl).elim
 have e2:assignEach [a,b] X.env=[(false,assign a X.env),(false,assign b X.env)]:=by
  cases a<;>first|exact(ha _ _ rfl).elim|(cases b<;>first|rfl|exact(hb _ _ rfl).elim)
 rw[assign_Tuple];refine aa (eK ?_);unfold unpack;rw[e1];refine aa (aY (UM (I.ok.hd hc) p.isList (by have:=rr.length;rw[bg] at hz;omega) λh' tk hk=>?_));have I2:Inv X pins U H { s with heap:=h',toks:=tk }:=I.kept hk;have:=h pins { s with heap:=h'.push { cls:=.type "list",data:=.seq ys.toArray },toks:=tk } U (upd H h'.objs.size (.lst xs)) [x,.ref h'.objs.size] [y,.ref h'.objs.size] Q
  (I2.laid (t':=tk) (λc o e=>ag _ e) (ai _) ⟨by rw[bg] at hz;omega,ys,_,rr,ak _ rfl⟩) (.cons r (.cons rfl .nil)) (hw _ (I2.bB.fresh (ai _)))
 rw[e2] at this;exact this
end
section
variable{E:Value->Shared->Prop}
theorem SS{it:Addr}{items:Array Value}{x:Value}{Q:Value->Shared->Prop}(hit:s.heap.IsTupleIter it t i)(ht:s.heap.IsTuple t items)(hx:items[i]?=some x)(hQ:∀h',h'.IsTupleIter it t (i+1)->Heap.SameBut it s.heap h'->Q x { s with heap:=h' }):wpAny (model prog w) A (Builtin.SmallTypes.nextOf (.ref it)) Q E s:=by
 obtain⟨o,e1,e2,e3⟩:=id hit;obtain⟨p,e4,_,m,e5⟩:=ht;unfold Builtin.SmallTypes.nextOf;refine aa (bO (name:=Str.ofString "__next__") hit.typeIs cW (bT cW hit.typeIs jR ?_ (jx _)));show wpAny _ _ (field (.ref it) 0 >>= _) _ _ s;refine aa (bQ e1 e3 (x:=.ref t) rfl ?_);show wpAny _ _ (if(Value.ref t==Value.none)=true then _ else _) _ _ s;rw[aA (show ¬((Value.ref t==Value.none)=true) from ei)];show wpAny _ _ (field (.ref it) 1 >>= _) _ _ s;refine aa (bQ e1 e3 (x:=.int i 0) rfl ?_);show wpAny _ _ (seqItems? (.ref t) >>= _) _ _ s;refine aa (cU e4 e5 ?_);simp only[Int.toNat_natCast,hx];refine aa (cG e1 e3 (by simp) (ah ⟨x,rfl,ah (hQ _ ?_ (bx ..))⟩));exact⟨_,aL _ e1 (cC (aZ e3 _)),(iy ..).trans e2,by rw[aZ e3];simp[rawInt]⟩
theorem MP{it:Addr}{items:Array Value}{Q:Value->Shared->Prop}(hh:A.handled=none)(hit:s.heap.IsTupleIter it t i)(ht:s.heap.IsTuple t items)(hx:items[i]?=none)(hE:∀h' e,Heap.ExtBut it s.heap h'->(∃o,h'.get? e=some o/\o.cls=.type "StopIteration")->E (.ref e) { s with heap:=h' }):wpAny (model prog w) A (Builtin.SmallTypes.nextOf (.ref it)) Q E s:=by
 obtain⟨o,e1,e2,e3⟩:=id hit;obtain⟨p,e4,_,m,e5⟩:=ht;unfold Builtin.SmallTypes.nextOf;refine aa (bO (name:=Str.ofString "__next__") hit.typeIs cW (bT cW hit.typeIs jR ?_ (jx _)));show wpAny _ _ (field (.ref it) 0 >>= _) _ _ s;refine aa (bQ e1 e3 (x:=.ref t) rfl ?_);show wpAny _ _ (if(Value.ref t==Value.none)=true then _ else _) _ _ s;rw[aA (show ¬((Value.ref t==Value.none)=true) from ei)];show wpAny _ _ (field (.ref it) 1 >>= _) _ _ s;refine aa (bQ e1 e3 (x:=.int i 0) rfl ?_);show wpAny _ _ (seqItems? (.ref t) >>= _) _ _ s;refine aa (cU e4 e5 ?_);simp only[Int.toNat_natCast,hx];refine aa (cV (aa (cG e1 e3 (by simp) ?_)));show wpAny _ _ (newExc (.type "StopIteration") [] >>= _) _ _ _;refine aa ?_;simp only[newExc,newTuple];refine aa (cw ?_ (by size_fits));refine aa (m:=firstArgMember _ _) (dS (a:=Value.none) (by first|rfl|(simp only[firstArgMember];rfl)) ?_);refine cw ?_ (by size_fits);simp only[raiseNew];refine aa (wpAny_handled ?_)
 first|rw[show A.in1.handled=none from hh]|rw[hh]
 refine aa (ah (wpAny_throw ?_));exact hE _ _ (((bx ..).extBut.push _).push _) ⟨_,ak _ rfl,rfl⟩
structure Zd(z TI TO i1 i2:Addr):Prop where
 TIz:TI≠z
 TOz:TO≠z
 i1z:i1≠z
 i2z:i2≠z
 TITO:TI≠TO
 TIi1:TI≠i1
 TIi2:TI≠i2
 TOi1:TO≠i1
 TOi2:TO≠i2
 i12:i1≠i2
structure Zp(h:Heap)(z TI TO i1 i2 t l:Addr)(i:Nat)(f:Value):Prop where
 z:IsZip h z TI TO f
 p:IsPair h TI (.ref i1) (.ref i2)
 o:∃a b,IsPair h TO a b
 a:h.IsTupleIter i1 t i
 b:h.IsListIter i2 l i
theorem LW{TI TO:Addr}{xs ys:Array Value}{x y:Value}{Q:Option Value->Shared->Prop}(D:Zd z TI TO i1 i2)(Z:Zp s.heap z TI TO i1 i2 t l i .none)(ht:s.heap.IsTuple t xs)(hl:s.heap.IsList l ys)(hx:xs[i]?=some x)(hy:ys[i]?=some y)(hQ:∀h',Zp h' z TI TO i1 i2 t l (i+1) (rawInt s.heap.objs.size)->IsPair h' s.heap.objs.size x y->(∀c o,c≠z->c≠TO->c≠i1->c≠i2->s.heap.get? c=some o->h'.get? c=some o)->Q (some (.ref s.heap.objs.size)) { s with heap:=h' }):wpAny (model prog w) A (pyNext (.ref z)) Q E s:=by
 have l1z:t≠z:=by
  rintro rfl;obtain⟨o,e,c,_⟩:=ht;rw[Z.z] at e;cases e;simp at c
 have l2z:l≠z:=by
  rintro rfl;obtain⟨o,e,c,_⟩:=hl;rw[Z.z] at e;cases e;simp at c
 have l2i1:l≠i1:=by
  rintro rfl;obtain⟨o,e,c,_⟩:=hl;obtain⟨o',e',c',_⟩:=Z.a;rw[e'] at e;cases e;rw[c'] at c;simp at c
 have l2TO:l≠TO:=by
  rintro rfl;obtain⟨o,e,c,_⟩:=hl;obtain⟨a,b,h⟩:=Z.o;rw[h] at e;cases e;simp at c
 have hT:s.TypeIs (.ref z) "zip":=⟨_,Z.z,rfl⟩
 obtain⟨a,b,ho⟩:=Z.o;unfold pyNext;refine aa (fR (bO (name:=Str.ofString "__next__") hT eY (bT eY hT rg ?_ (pN _))));show wpAny _ _ (field (.ref z) 2 >>= _) _ _ _;refine aa (bQ Z.z rfl (x:=.bool false) rfl ?_);show wpAny _ _ (field (.ref z) 3 >>= _) _ _ _;refine aa (bQ Z.z rfl (x:=.ref TI) rfl (aa (cU Z.p rfl ?_)));show wpAny _ _ (Builtin.SmallTypes.ownedTupleIsFree (.ref z) >>= _) _ _ _;unfold Builtin.SmallTypes.ownedTupleIsFree;refine aa (aa (bQ Z.z rfl (x:=.none) rfl (ah ?_)));simp only[if_true];refine aa (cV (aa (bQ Z.z rfl (x:=.ref TO) rfl (aa (eT Z.z (by simp) λh1 z1 s1=>?_)))))
 replace z1:IsZip h1 z TI TO .ellipsis:=z1
 refine aa ?_;simp only[List.zipIdx_cons,List.zipIdx_nil,List.forIn_cons,List.forIn_nil];refine aa (aa (IS ?_));show wpAny _ _ (Builtin.SmallTypes.nextOf (.ref i1) >>= _) _ _ _;refine aa (SS (Z.a.extBut s1.extBut D.i1z) (ht.extBut s1.extBut l1z) hx λh2 a2 s2=>ah ?_);have o2:IsPair h2 TO a b:=s2.extBut _ _ D.TOi1 (s1.extBut _ _ D.TOz ho);refine aa (cU o2 rfl (aa (wpAny_updateSeq_pair o2 λh3 o3 s3=>?_)))
 replace o3:IsPair h3 TO x b:=o3
 refine aa (wpAny_letGo (ah ?_));refine aa (aa (IS ?_));show wpAny _ _ (Builtin.SmallTypes.nextOf (.ref i2) >>= _) _ _ _;refine aa (wpAny_nextOf_list_item (((Z.b.extBut s1.extBut D.i2z).extBut s2.extBut D.i12.symm).extBut s3.extBut D.TOi2.symm) (((hl.extBut s1.extBut l2z).extBut s2.extBut l2i1).extBut s3.extBut l2TO) hy λh4 b4 s4=>ah ?_);have o4:IsPair h4 TO x b:=s4.extBut _ _ D.TOi2 o3;refine aa (cU o4 rfl (aa (wpAny_updateSeq_pair o4 λh5 o5 s5=>?_)))
 replace o5:IsPair h5 TO x y:=o5
 refine aa (wpAny_letGo (ah (ah (aa (cU o5 rfl (aa (wpAny_newTuple ?_)))))));have sz:h5.objs.size=s.heap.objs.size:=by rw[s5.1,s4.1,s3.1,s2.1,s1.1]
 have z5:IsZip h5 z TI TO .ellipsis:=s5.extBut _ _ D.TOz.symm (s4.extBut _ _ D.i2z.symm (s3.extBut _ _ D.TOz.symm (s2.extBut _ _ D.i1z.symm z1)));have k5:∀c o,c≠z->c≠TO->c≠i1->c≠i2->s.heap.get? c=some o->h5.get? c=some o:=λc o c1 c2 c3 c4 e=>s5.extBut _ _ c2 (s4.extBut _ _ c4 (s3.extBut _ _ c2 (s2.extBut _ _ c3 (s1.extBut _ _ c1 e))));have a5:=((a2.extBut s3.extBut D.TOi1.symm).extBut s4.extBut D.i12).extBut s5.extBut D.TOi1.symm;have b5:=b4.extBut s5.extBut D.TOi2.symm;have zl:z<h5.objs.size:=aj z5;show wpAny _ _ (Builtin.SmallTypes.ownedTupleHandOut (.ref z) (.ref h5.objs.size) >>= _) _ _ _;unfold Builtin.SmallTypes.ownedTupleHandOut;have z6:IsZip (h5.push { cls:=.type "tuple",data:=.seq #[x,y] }) z TI TO .ellipsis:=ag _ z5;refine aa (aa (eT z6 (by simp) λh7 z7 s7=>?_))
 replace z7:IsZip h7 z TI TO (rawInt h5.objs.size):=z7
 refine eT z7 (by simp) λh8 z8 s8=>?_
 replace z8:IsZip h8 z TI TO (rawInt h5.objs.size):=z8
 have up:∀c o,c≠z->h5.get? c=some o->h8.get? c=some o:=λc o c1 e=>s8.extBut _ _ c1 (s7.extBut _ _ c1 (ag _ e));have t8:IsPair h8 h5.objs.size x y:=s8.extBut _ _ (bY zl) (s7.extBut _ _ (bY zl) (ak _ rfl));rw[sz] at z8 t8;refine ah ⟨_,rfl,ah ?_⟩;show Q (some (.ref h5.objs.size)) _;rw[sz];exact hQ h8 ⟨z8,up _ _ D.TIz (k5 _ _ D.TIz D.TITO D.TIi1 D.TIi2 Z.p),⟨x,y,up _ _ D.TOz o5⟩,a5.at λo e=>up _ o D.i1z e,b5.at λo e=>up _ o D.i2z e⟩ t8 λc o c1 c2 c3 c4 e=>up c o c1 (k5 c o c1 c2 c3 c4 e)
theorem Ow{TI TO:Addr}{xs:Array Value}{f:Value}{Q:Option Value->Shared->Prop}(hh:A.handled=none)(D:Zd z TI TO i1 i2)(Z:Zp s.heap z TI TO i1 i2 t l i .none)(ht:s.heap.IsTuple t xs)(hx:xs[i]?=none)(hQ:∀h',(∀c o,c≠z->c≠TO->c≠i1->c≠i2->s.heap.get? c=some o->h'.get? c=some o)->Q none { s with heap:=h' }):wpAny (model prog w) A (pyNext (.ref z)) Q E s:=by
 have l1z:t≠z:=by
  rintro rfl;obtain⟨o,e,c,_⟩:=ht;rw[Z.z] at e;cases e;simp at c
 have hT:s.TypeIs (.ref z) "zip":=⟨_,Z.z,rfl⟩
 obtain⟨a,b,ho⟩:=Z.o;unfold pyNext;refine aa (fR (bO (name:=Str.ofString "__next__") hT eY (bT eY hT rg ?_ (pN _))));show wpAny _ _ (field (.ref z) 2 >>= _) _ _ _;refine aa (bQ Z.z rfl (x:=.bool false) rfl ?_);show wpAny _ _ (field (.ref z) 3 >>= _) _ _ _;refine aa (bQ Z.z rfl (x:=.ref TI) rfl (aa (cU Z.p rfl ?_)));show wpAny _ _ (Builtin.SmallTypes.ownedTupleIsFree (.ref z) >>= _) _ _ _;unfold Builtin.SmallTypes.ownedTupleIsFree;refine aa (aa (bQ Z.z rfl (x:=.none) rfl (ah ?_)));simp only[if_true];refine aa (cV (aa (bQ Z.z rfl (x:=.ref TO) rfl (aa (eT Z.z (by simp) λh1 z1 s1=>?_)))))
 replace z1:IsZip h1 z TI TO .ellipsis:=z1
 refine aa ?_;simp only[List.zipIdx_cons,List.zipIdx_nil,List.forIn_cons,List.forIn_nil];refine aa (aa (IS ?_));show wpAny _ _ (Builtin.SmallTypes.nextOf (.ref i1) >>= _) _ _ _;refine aa (MP hh (Z.a.extBut s1.extBut D.i1z) (ht.extBut s1.extBut l1z) hx λh2 e s2 he=>?_);obtain⟨oe,e1,e2⟩:=he;have z2:IsZip h2 z TI TO .ellipsis:=s2 _ _ D.i1z.symm z1;have ne:e≠z:=λx=>by subst x;rw[z2] at e1;cases e1;simp at e2
 refine eT z2 (by simp) λh3 _ s3=>?_;refine aa (fK (T:="StopIteration") (b:=true) ⟨oe,s3.extBut _ _ ne e1,e2⟩ isSubtype_stop ?_);exact ah (hQ _ λc o c1 _ c3 _ x=>s3.extBut _ _ c1 (s2 _ _ c3 (s1.extBut _ _ c1 x)))
noncomputable abbrev uT(h:Heap)(t:Addr):Heap:=h.push { cls:=.type "tuple_iterator",data:=.fields #[.ref t,.int 0 0] }
noncomputable abbrev uS(h:Heap)(t l:Addr):Heap:=(uT h t).push { cls:=.type "list_iterator",data:=.fields #[.ref l,.int 0 0] }
noncomputable abbrev uR(h:Heap)(t l:Addr):Heap:=(uS h t l).push { cls:=.type "tuple",data:=.seq #[.ref h.objs.size,.ref (uT h t).objs.size] }
noncomputable abbrev rB(h:Heap)(t l:Addr):Heap:=(uR h t l).push { cls:=.type "tuple",data:=.seq #[.none,.none] }
noncomputable abbrev pR(h:Heap)(t l:Addr):Heap:=(rB h t l).push { cls:=.type "zip",data:=.fields #[.none,.bool false,.bool false,.ref (uS h t l).objs.size,.ref (uR h t l).objs.size] }
theorem TZ(t l:Addr)(xs ys:Array Value):Meets (Builtin.«zip.__new__» ⟨[.type "zip",.ref t,.ref l],[]⟩) (λ_ R s=>s.heap.IsTuple t xs/\s.heap.IsList l ys/\R (.ok (.ret (.ref (rB s.heap t l).objs.size))) { s with heap:=pR s.heap t l }) :=
 .of_wp λprog w A R s h=>by
  obtain⟨hp,g,d,tk,os⟩:=s;obtain⟨a,b,h⟩:=h;have sT:=sub_zip;have b1:Heap.IsTuple (Shared.heap ⟨hp,g,d,tk,os⟩) t xs:=a;have b2:Heap.IsList (Shared.heap ⟨hp.push { cls:=.type "tuple_iterator",data:=.fields #[.ref t,.int 0 0] },g,d,tk,os⟩) l ys:=Heap.IsList.push b _
  wp_walk using lF b1,dO b2
  exact⟨_,rfl,h⟩
theorem WX{xs ys:Array Value}{Q:Value->Shared->Prop}(ht:s.heap.IsTuple t xs)(hl:s.heap.IsList l ys)(h:∀h',Zp h' (s.heap.objs.size+4) (s.heap.objs.size+2) (s.heap.objs.size+3) s.heap.objs.size (s.heap.objs.size+1) t l 0 .none->(∀c o,s.heap.get? c=some o->h'.get? c=some o)->Q (.ref (s.heap.objs.size+4)) { s with heap:=h' }):wpAny (model prog w) A (call (.type "zip") [.ref t,.ref l]) Q E s:=by
 refine callType_new PySem.F.called_zip ∅ (PySem.F.typeCall_zip_2 _ _) (PySem.F.newCall_zip_2 _ _) (λobj=>PySem.F.args_object_init_3 obj _ _) PySem.F.entry_zip_new (TZ t l xs ys) ⟨ht,hl,?_⟩;have z1:(uT s.heap t).objs.size=s.heap.objs.size+1:=cH ..;have z2:(uS s.heap t l).objs.size=s.heap.objs.size+2:=by rw[cH,z1]
 have z3:(uR s.heap t l).objs.size=s.heap.objs.size+3:=by rw[cH,z2]
 have z4:(rB s.heap t l).objs.size=s.heap.objs.size+4:=by rw[cH,z3]
 have g5:(pR s.heap t l).get? (rB s.heap t l).objs.size=some _:=ak _ rfl;have g4:(pR s.heap t l).get? (uR s.heap t l).objs.size=some _:=ag _ (ak _ rfl);have g3:(pR s.heap t l).get? (uS s.heap t l).objs.size=some _:=ag _ (ag _ (ak _ rfl));have g2:(pR s.heap t l).get? (uT s.heap t).objs.size=some _:=ag _ (ag _ (ag _ (ak _ rfl)));have g1:(pR s.heap t l).get? s.heap.objs.size=some _:=ag _ (ag _ (ag _ (ag _ (ak _ rfl))));show _/\Q (.ref (rB s.heap t l).objs.size) _;rw[z2,z3,z4] at g5;rw[z1,z2] at g3;rw[z3] at g4;rw[z1] at g2;rw[z4];refine⟨⟨_,g5,rfl⟩,?_⟩;exact h _ ⟨g5,g3,⟨_,_,g4⟩,⟨_,g1,rfl,rfl⟩,⟨_,g2,rfl,rfl⟩⟩ λc o e=>ag _ (ag _ (ag _ (ag _ (ag _ e))))
def BO(K:PySem.W.Frag)(t a:Addr):It :=
 ⟨λi H=>∃xs ys x y,iw K H t xs/\gs K H a ys/\xs[i]?=some x/\ys[i]?=some y,λi H v H'=>∃p x y,H p=none/\v=.ref p/\(∀xs,iw K H t xs->xs[i]?=some x)/\(∀ys,gs K H a ys->ys[i]?=some y)/\H'=upd H p (.tup [x,y]),λi H=>∃xs,iw K H t xs/\xs.length<=i⟩
theorem UR{K:PySem.W.Frag}{elts:List Expr}{x1:Nat}{tp:Pos}{a TI TO:Addr}(D:Zd z TI TO i1 i2):Turn P w K (.Tuple elts x1 tp) (BO K t a) [z,TI,TO,i1,i2] z (λi h=>Zp h z TI TO i1 i2 t a i .none) where
 mem:=by simp
 obj:=λi h st b hb=>by
  obtain⟨a',b',ho⟩:=st.o;obtain⟨o1,e1,_,d1⟩:=st.a;obtain⟨o2,e2,_,d2⟩:=st.b;simp only[List.mem_cons,List.mem_nil_iff,or_false] at hb;rcases hb with rfl|rfl|rfl|rfl|rfl
  ·exact⟨_,st.z,λv z=>by cases (show Data.fields _=Data.cell v from z)⟩
  ·exact⟨_,st.p,λv z=>by cases (show Data.seq _ _=Data.cell v from z)⟩
  ·exact⟨_,ho,λv z=>by cases (show Data.seq _ _=Data.cell v from z)⟩
  ·exact⟨_,e1,λv z=>by rw[d1] at z;cases z⟩
  ·exact⟨_,e2,λv z=>by rw[d2] at z;cases z⟩
 keep:=λi h h' st k=>by
  obtain⟨a',b',ho⟩:=st.o;exact⟨k z (by simp) _ st.z,k TI (by simp) _ st.p,⟨a',b',k TO (by simp) _ ho⟩,st.a.at λo e=>k i1 (by simp) o e,st.b.at λo e=>k i2 (by simp) o e⟩
 item:=by
  intro X hP hw hK hc i pins s U H E I hf st hg;subst hP hw hK;obtain⟨xs,ys,x,y,hq,hr,hx,hy⟩:=hg;obtain⟨bf,rv,p,hz⟩:=I.tuple hq;obtain⟨u,hu,ru⟩:=rv.get hx;obtain⟨JP,eF,p',YJ⟩:=I.list hr;obtain⟨v,hv,xC⟩:=eF.get hy;refine LW D st (show s.heap.IsTuple t bf.toArray from p) p'.isList (x:=u) (y:=v) (by simpa using hu) (by simpa using hv) λh' er pr k1=>?_;refine⟨_,rfl,wpAny_letOwnedTupleGo_zip er.z λh2 z2 s2=>?_⟩;have s2:Heap.SameBut z h' h2:=s2;have kp:∀b o,b∉[z,TI,TO,i1,i2]->s.heap.get? b=some o->h2.get? b=some o:=λb o hb q=>by
   simp only[List.mem_cons,List.mem_nil_iff,or_false,not_or] at hb;exact(s2.2 b hb.1).trans (k1 b o hb.1 hb.2.2.1 hb.2.2.2.1 hb.2.2.2.2 q)
  have zl:z<s.heap.objs.size:=aj st.z;have hn:H s.heap.objs.size=none:=I.bB.fresh (ai _);have t2:h2.get? s.heap.objs.size=some { cls:=.type "tuple",data:=.seq #[u,v] }:=(s2.2 _ (bY zl)).trans pr;have ne:∀b u',H b=some u'->b∉[z,TI,TO,i1,i2]:=λb u' q hb=>by rw[(hf b hb).1] at q;cases q
  have bB:fG X.prog X.w (upd H s.heap.objs.size (.tup [x,y])) h2:=λb o q=>by
   by_cases hb:b=s.heap.objs.size
   ·subst hb;rw[i3] at q;cases q;exact⟨by show 2<=sizeLine;decide,[u,v],.cons ru (.cons xC .nil),_,t2,rfl,⟨_,rfl⟩,rfl⟩
   ·rw[c7 hb] at q;refine(I.bB b o q).v8 (λc v hc q'=>?_) (λc q'=>by rw[c7 (i7 q' hn)];exact q') λc ys q'=>by rw[c7 (i7 q' hn)];exact q'
    rcases hc with z|z
    ·subst z;exact kp _ _ (ne _ _ q) q'
    ·exact kp _ _ (ne _ _ z) q'
  have I2:Inv X pins U (upd H s.heap.objs.size (.tup [x,y])) { s with heap:=h2 }:=by
   refine I.step (g':=s.gens) (d':=s.drawn) (t':=s.toks) (ch:=[z,TI,TO,i1,i2]) (λb hb=>?_) (λb o _ _ hb q _=>kp b o hb q) (λb o _ _ hb q _=>⟨o.slots,kp b o hb q⟩)
    (λb o _ q n=>by rw[c7 (aC (aj q))];exact n) (λb o hb q=>⟨o,kp b o hb q⟩)
    (λb ys q=>by rw[c7 (i7 q hn)];exact q) (λb o' ys q=>by rw[c7 (i7 q hn)];exact q) (λb ps q=>⟨#[],by rw[c7 (i7 q hn),q];simp⟩) (λm hm=>?_) bB I.bare
   ·obtain⟨e0,e1,e2,e3,e4,e5⟩:=hf b hb;exact⟨e3,e1,e4,e5⟩
   ·obtain⟨o,es,ep,ho,r⟩:=hm;exact⟨o,es,ep,kp _ o (λhb=>(hf _ hb).2.1 rfl) ho,r⟩
  refine⟨.ref s.heap.objs.size,_,I2,rfl,⟨s.heap.objs.size,x,y,hn,rfl,λzs yc=>by rw[I.FE yc hq];exact hx,λzs yc=>by rw[I.EF yc hr];exact hy,rfl⟩,?_,λb hb=>?_⟩
  ·obtain⟨a',b',ho⟩:=er.o;exact⟨z2,(s2.2 _ D.TIz).trans er.p,⟨a',b',(s2.2 _ D.TOz).trans ho⟩,er.a.at λo e=>(s2.2 _ D.i1z).trans e,er.b.at λo e=>(s2.2 _ D.i2z).trans e⟩
  have js:b<s.heap.objs.size:=by
   obtain⟨a',b',ho⟩:=st.o;obtain⟨o1,e1,_⟩:=st.a;obtain⟨o2,e2,_⟩:=st.b;have vD:=hb;simp only[List.mem_cons,List.mem_nil_iff,or_false] at vD;rcases vD with rfl|rfl|rfl|rfl|rfl
   ·exact zl
   ·exact aj st.p
   ·exact aj ho
   ·exact aj e1
   ·exact aj e2
  rw[c7 (aC js)];exact(hf b hb).1
 done:=by
  intro X hP hw hK hc i pins s U H E I hf st hg;subst hP hw hK;obtain⟨xs,hq,hx⟩:=hg;obtain⟨bf,rv,p,hz⟩:=I.tuple hq;have hl:=rv.length;refine Ow (f:=.none) (I.ok.hd hc) D st (show s.heap.IsTuple t bf.toArray from p) (by simp;omega) λh' eb=>⟨rfl,?_⟩
  have kp:∀b o,b∉[z,TI,TO,i1,i2]->s.heap.get? b=some o->h'.get? b=some o:=λb o hb q=>by
   simp only[List.mem_cons,List.mem_nil_iff,or_false,not_or] at hb;exact eb b o hb.1 hb.2.2.1 hb.2.2.2.1 hb.2.2.2.2 q
  have ne:∀b u',H b=some u'->b∉[z,TI,TO,i1,i2]:=λb u' q hb=>by rw[(hf b hb).1] at q;cases q
  have bB:fG X.prog X.w H h':=λb o q=>by
   refine(I.bB b o q).v8 (λc v hc q'=>?_) (λc q'=>q') λc ys q'=>q';rcases hc with z|z
   ·subst z;exact kp _ _ (ne _ _ q) q'
   ·exact kp _ _ (ne _ _ z) q'
  refine I.step (g':=s.gens) (d':=s.drawn) (t':=s.toks) (ch:=[z,TI,TO,i1,i2]) (λb hb=>?_) (λb o _ _ hb q _=>kp b o hb q) (λb o _ _ hb q _=>⟨o.slots,kp b o hb q⟩)
   (λb o _ q n=>n) (λb o hb q=>⟨o,kp b o hb q⟩) (λb ys q=>q) (λb o' ys q=>q) (λb ps q=>⟨#[],by rw[q];simp⟩) (λm hm=>?_) bB I.bare
  ·obtain⟨e0,e1,e2,e3,e4,e5⟩:=hf b hb;exact⟨e3,e1,e4,e5⟩
  ·obtain⟨o,es,ep,ho,r⟩:=hm;exact⟨o,es,ep,kp _ o (λhb=>(hf _ hb).2.1 rfl) ho,r⟩
 self:=λ_ _ _ _ _ st h=>wpAny_pyIter_zip st.z h
theorem Nx{a b:Expr}{ta:TA}{p pos tp:Pos}{elts:List Expr}{x1:Nat}(hg:Gl X "zip")(hm:X.mg "zip"=none)(ha:PA X [a,b] ta)(hs:starEach [a,b] X.env=[(false,eval a X.env),(false,eval b X.env)])(fO:starEach [b] X.env=[(false,eval b X.env)]) :
  PI X (.Tuple elts x1 tp) (.Call (.Name "zip" p) [a,b] [] pos) (λU H R=>ta U H λvs H1=>∃t a,vs=[.ref t,.ref a]/\(∃xs,iw X.K H1 t xs)/\(∃ys,gs X.K H1 a ys)/\R (BO X.K t a) H1):=by
 intro pins s U H R I h;refine Call_ (K9 I hg hm PyProof.Rows.boot_zip (cp (cL (ha pos pins s U H _ I h) λus s1 br=>?_) (by rw[hs,fO]) (by rw[fO];rfl)));obtain⟨vs,H1,I1,r1,q1⟩:=br;obtain⟨t,a,e,⟨xs,hq⟩,⟨ys,hr⟩,q⟩:=q1;subst e;cases r1 with
 |cons r rr =>
  cases rr with
  |cons r' rr =>
   cases rr;cases r;cases r';obtain⟨bf,rv,p1,hz⟩:=I1.tuple hq;obtain⟨JP,eF,p2,CL⟩:=I1.list hr;refine WX (show s1.heap.IsTuple t bf.toArray from p1) p2.isList λh' Z hk=>wpAny_pyIter_zip Z.z ?_;have ne:∀n j k:Nat,j≠k->n+j≠n+k:=λn j k h=>by omega
   have le:∀n k:Nat,n<=n+k:=λn k=>by omega
   have dd:Zd (s1.heap.objs.size+4) (s1.heap.objs.size+2) (s1.heap.objs.size+3) s1.heap.objs.size (s1.heap.objs.size+1):=⟨ne _ 2 4 ∅,ne _ 3 4 ∅,ne _ 0 4 ∅,ne _ 1 4 ∅,ne _ 2 3 ∅,ne _ 2 0 ∅,ne _ 2 1 ∅,ne _ 3 0 ∅,ne _ 3 1 ∅,ne _ 0 1 ∅⟩
   refine⟨_,[s1.heap.objs.size+4,s1.heap.objs.size+2,s1.heap.objs.size+3,s1.heap.objs.size,s1.heap.objs.size+1],_,_,H1,rfl,I1.kept (t':=s1.toks) hk,UR (t:=t) (a:=a) dd,Z,λb hb=>?_,q⟩;have js:s1.heap.objs.size<=b:=by
    simp only[List.mem_cons,List.mem_nil_iff,or_false] at hb;rcases hb with rfl|rfl|rfl|rfl|rfl
    ·exact le _ 4
    ·exact le _ 2
    ·exact le _ 3
    ·exact le _ 0
    ·exact le _ 1
   exact I1.Y0 js (I1.bB.fresh js)
end
theorem Xj:k9 X (.builtin "isinstance") (λxs H Q=>∃a C dx fs,xs=[.ref a,.ref C]/\H a=some (.ins C dx fs)/\Q (.bl true) H):=by
 intro pins s U H xs us Q I r h;obtain⟨a,C,dx,fs,rfl,ha,q⟩:=h;obtain⟨u,w',rfl,ru,eF⟩:=vals2 r;cases (show u=Value.ref a from ru);cases (show w'=Value.ref C from eF);obtain⟨_,_,_,ob,_⟩:=(show j3 X.prog X.w H s.heap a (.ins C dx fs) from I.bB a _ ha)
 refine PyProof.Rows.call_isinstance_of ?_;unfold Builtin.«isinstance.nested»;have L:PySem.W.Looks (model X.prog X.w) s.heap (typeOf (.ref a)) (.ref C):=(Zk ob).andThen .now;obtain⟨h,g,dd,tk,os⟩:=s;refine aa (L.at ?_);rw[aF (by simp)]
 repeat (first|refine ah ?_|refine cV ?_|refine aa ?_)
 exact⟨.bl true,H,I,rfl,q⟩
end L2
namespace M
open PySem L2
set_option genInjectivity true in
inductive D where
 |bA|bl (b:Bool)|int (i:Int)|str (x:Str)|ty (n:String)|ref (i:Nat)|tup (l:List D)
set_option genInjectivity true in
inductive O where
 |lst (l:List D)|nC (l:List D)
 |iP (aU:List (Key×D))
 |ins (c:Str) (fs:List (Str×D))
 |set (S:Int->Bool) (n:Nat)
def O.mut:O->Bool
 |.nC _=>false
 |_=>true
def qE:D->Option Key
 |.int i=>some (.inl i)
 |.str x=>some (.inr x)
 |_=>none
def qJ(aU:List (Key×D))(k:Key):Option D:=(aU.find? λkv=>decide (kv.1=k)).map (·.2)
def putD(aU:List (Key×D))(k:Key)(v:D):List (Key×D) :=
 if(aU.any λkv=>decide (kv.1=k))=true then aU.map (λkv=>if kv.1=k then(kv.1,v) else kv) else aU++[(k,v)]
def O9(f:Str)(v:D):List (Str×D)->List (Str×D)
 |[]=>[(f,v)]
 |(g,x)::r=>if g=f then(g,v)::r else(g,x)::O9 f v r
def uz:List D->Str->Option D
 |.tup [.str y,v]::r,x=>if x=y then some v else uz r x
 |_::_,_=>none
 |[],_=>none
def P5:List D->Option Str
 |[]=>some Str.empty
 |.str x::r=>(P5 r).map λy=>x++y
 |_=>none
structure Xn where
 cls:Str
noncomputable abbrev ui(n:Nat):Xn:=⟨⟨#[n]⟩⟩
noncomputable abbrev G:=List O
noncomputable abbrev S:=List (Option D)
noncomputable abbrev KD:=D->G->Prop
noncomputable abbrev KX:=Xn->G->Prop
noncomputable abbrev jX:KX:=λ_ _=>False
def zB:Option O->Option (List D)
 |some (.lst l)=>some l
 |some (.nC l)=>some l
 |_=>none
noncomputable abbrev c8(g:G)(a:Nat):Option (List D):=zB g[a]?
def rd(g:G):Nat->D->Option PyData
 |_,.bA=>some .none
 |_,.bl b=>some (.bool b)
 |_,.int i=>some (.int i)
 |_,.str x=>some (.str x)
 |_,.ty _=>none
 |0,.ref _=>none
 |0,.tup _=>none
 |n+1,.ref a=>match c8 g a with
  |some l=>(l.mapM (rd g n)).map .list
  |none=>none
 |n+1,.tup l=>(l.mapM (rd g n)).map .tuple
def Jy(g:G)(l:List D):Option (List PyData):=l.mapM (rd g 6)
def B4(g:G):D->Option (List D)
 |.tup l=>some l
 |.ref a=>c8 g a
 |_=>none
def K3:D->Bool
 |.bA=>true
 |_=>false
def cut{α:Type}(xs:List α)(lo hi:Option Int):List α:=(xs.drop (HT.de xs.length 0 lo)).take (HT.de xs.length xs.length hi-HT.de xs.length 0 lo)
def pI(g:G)(x:D)(c:String):Option Bool:=match x with
 |.bA=>some (c=="NoneType")
 |.bl _=>some (c=="bool"||c=="int")
 |.int _=>some (c=="int")
 |.str _=>some (c=="str")
 |.tup _=>some (c=="tuple")
 |.ref a=>match g[a]? with
  |some (.lst _)=>some (c=="list")
  |_=>none
 |.ty _=>none
def A7(lo:Int)(n:Nat):List D:=(List.range n).map λ(k:Nat)=>.int (lo+k)
def P8:List D->Option Bool
 |[]=>some true
 |.bl b::r=>(P8 r).map λc=>b&&c
 |_=>none
inductive Pr where
 |bin (op:Operator)|un (op:UnaryOp)|cmp (op:CmpOp)
 |ix|jC (lo hi:Bool)|rev|tup|lst|kZ
 |len|list|tuple|isin|all|max|min|int|str|lU|lT|sset|Js|tS
 |Lg|zb|tI|fv|kY|fld (f:Str)
 |append|pop|get|index|join|iadd|clear|xE|extend|any|rO|sum|pK|xT|rW|xQ|zk|tP|rS (i:Int)|split|xU (c:Str)|find|jr|fS
noncomputable abbrev DR:=List D->G->D->G->Prop
def Ud:Operator->Int->Int->Int->Prop
 |.Add,i,j,r=>r=i+j
 |.Sub,i,j,r=>r=i-j
 |.Mult,i,j,r=>pF i j/\r=i*j
 |.FloorDiv,i,j,r=>Bv i j/\r=i / j
 |.Mod,i,j,r=>0<j/\r=i % j
 |.Pow,i,j,r=>O6 i j/\r=i ^ j.toNat
 |.LShift,i,j,r=>O6 i j/\r=i*2 ^ j.toNat
 |.BitAnd,i,j,r=>r=Builtin.bitAnd i j
 |.BitOr,i,j,r=>r=Builtin.bitOr i j
 |_,_,_,_=>False
def QM(op:Operator):DR:=λxs g d g' =>
 (∃i j r,xs=[.int i,.int j]/\Ud op i j r/\d=.int r/\g'=g) \/
 (op=.Add/\((∃ l m,xs=[.tup l,.tup m]/\l.length + m.length <= 100000/\d=.tup (l ++ m)/\g'=g) \/
  (∃a b l m,xs=[.ref a,.ref b]/\g[a]?=some (.lst l)/\g[b]?=some (.lst m)/\l.length+m.length<=100000/\d=.ref g.length/\g'=g++[.lst (l++m)]) \/
  (∃ x y,xs=[.str x,.str y]/\x.length + y.length <= 100000/\d=.str (x ++ y)/\g'=g)))
def Jk(op:UnaryOp):DR:=λxs g d g'=>op=.USub/\∃i,xs=[.int i]/\d=.int (-i)/\g'=g
def tN(g:G)(x y:D)(b:Bool):Prop :=
 (∃i j,x=.int i/\y=.int j/\b=decide (i=j))\/(∃i j,x=.bl i/\y=.bl j/\b=(i==j))\/(∃i j,x=.str i/\y=.str j/\b=decide (i=j)) \/
 ∃p q,rd g 6 x=some p/\rd g 6 y=some q/\p.canLay0=true/\q.canLay0=true/\b=PyData.eqv p q
def inR(g:G)(x y:D)(b:Bool):Prop :=
 (∃a aU c,y=.ref a/\g[a]?=some (.iP aU)/\qE x=some c/\b=(qJ aU c).isSome) \/
 ∃l ps p,B4 g y=some l/\Jy g l=some ps/\rd g 6 x=some p/\PyData.canLayAll0 ps=true/\p.canLay0=true/\b=(ps.any λq=>PyData.eqv q p)
def Eb(g:G)(x y:D)(b:Bool):Prop:=∃a S n i,y=.ref a/\g[a]?=some (.set S n)/\x=.int i/\b=S i
def Ee(x y:D)(b:Bool):Prop:=∃i j,x=.str i/\y=.str j/\b=!(Builtin.Str.occurrences j i 0 j.length 1).isEmpty
def sgn(a:Str):List D:=a.cps.toList.map λc=>.str ⟨#[c]⟩
def DP(g:G)(x y:D)(b:Bool):CmpOp->Prop
 |.Eq=>tN g x y b
 |.NotEq=>tN g x y (!b)
 |.In=>inR g x y b\/Eb g x y b\/Ee x y b
 |.NotIn=>inR g x y (!b)\/Eb g x y (!b)\/Ee x y (!b)
 |.Lt=>∃i j,x=.int i/\y=.int j/\b=decide (i<j)
 |.LtE=>∃i j,x=.int i/\y=.int j/\b=decide (i<=j)
 |.Gt=>∃i j,x=.int i/\y=.int j/\b=decide (j<i)
 |.GtE=>∃i j,x=.int i/\y=.int j/\b=decide (j<=i)
 |.Is=>y=.bA/\b=K3 x
 |.IsNot=>y=.bA/\b=!K3 x
def QN(op:CmpOp):DR:=λxs g d g'=>∃x y b,xs=[x,y]/\DP g x y b op/\d=.bl b/\g'=g
def Ef(g:G)(x:D)(b:Bool):Prop :=
 (x=.bA/\b=false)\/x=.bl b\/(∃i,x=.int i/\b=(i != 0))\/(∃l,x=.tup l/\b=!l.isEmpty)\/∃a l,x=.ref a/\c8 g a=some l/\b=!l.isEmpty
def JQ:DR:=λxs g d g'=>g'=g/\((∃x l i,xs=[x,.int i]/\B4 g x=some l/\iQ l i=some d)\/(∃a aU y c,xs=[.ref a,y]/\g[a]?=some (.iP aU)/\qE y=some c/\qJ aU c=some d) \/
 ∃ x i c,xs=[.str x,.int i]/\x.length <= 100000/\iQ x.cps.toList i=some c/\d=.str ⟨#[c]⟩)
def rQ(x:D)(lo hi:Option Int)(g:G)(d:D)(g':G):Prop:=(∃l,x=.tup l/\d=.tup (cut l lo hi)/\g'=g)\/(∃a l,x=.ref a/\c8 g a=some l/\d=.ref g.length/\g'=g++[.lst (cut l lo hi)])\/∃a:Str,x=.str a/\a.length<=100000/\d=.str (L2.E3 a lo hi)/\g'=g
def RG:Bool->Bool->DR
 |false,false,xs,g,d,g'=>∃x,xs=[x]/\rQ x none none g d g'
 |true,false,xs,g,d,g'=>∃x i,xs=[x,.int i]/\rQ x (some i) none g d g'
 |false,true,xs,g,d,g'=>∃x j,xs=[x,.int j]/\rQ x none (some j) g d g'
 |true,true,xs,g,d,g'=>∃x i j,xs=[x,.int i,.int j]/\rQ x (some i) (some j) g d g'
def RA:DR:=λxs g d g'=>(∃l,xs=[.tup l]/\d=.tup l.reverse/\g'=g)\/∃a l,xs=[.ref a]/\c8 g a=some l/\d=.ref g.length/\g'=g++[.lst l.reverse]
def RY:DR:=λxs g d g'=>xs.length<=1000/\d=.tup xs/\g'=g
def Rb:DR:=λxs g d g'=>xs.length<=1000/\d=.ref g.length/\g'=g++[.lst xs]
def Si:DR:=λxs g d g'=>xs=[]/\d=.ref g.length/\g'=g++[.iP []]
def QZ:DR:=λxs g d g'=>g'=g/\((∃x l,xs=[x]/\B4 g x=some l/\d=.int l.length)\/False\/∃x,xs=[.str x]/\x.length<=100000/\d=.int x.length)
def SG:DR:=λxs g d g'=>(∃x l,xs=[x]/\B4 g x=some l/\d=.ref g.length/\g'=g++[.lst l])\/False
def Ou:DR:=λxs g d g'=>∃x l,xs=[x]/\B4 g x=some l/\d=.tup l/\g'=g
def Ss:DR:=λxs g d g'=>∃x c b,xs=[x,.ty c]/\c∈["int","bool","str","tuple","list"]/\pI g x c=some b/\d=.bl b/\g'=g
def allR:DR:=λxs g d g'=>∃a l b,xs=[.ref a]/\c8 g a=some l/\(P8 l=some b\/∃ns:List Int,l=ns.map .int/\b=ns.all λn=>n != 0)/\d=.bl b/\g'=g
def Ek:List D->Option Bool
 |[]=>some false
 |.bl b::r=>(Ek r).map λc=>b||c
 |_=>none
def anyR:DR:=λxs g d g'=>∃a l b,xs=[.ref a]/\c8 g a=some l/\Ek l=some b/\d=.bl b/\g'=g
def NZ:DR:=λxs g d g'=>False\/∃x,∃ns:List Int,xs=[x]/\B4 g x=some (ns.map .int)/\ns.length<=10000/\d=.ref g.length/\g'=g++[.lst ((Lw ns).map .int)]
def Rc:DR:=λxs g d g'=>g'=g/\((∃i j,xs=[.int i,.int j]/\d=.int (if j>i then j else i))\/∃a,∃(ns:List Int) (M:Int),xs=[.ref a]/\c8 g a=some (ns.map .int)/\M∈ns/\(∀x∈ns,x<=M)/\d=.int M)
def Rf:DR:=λxs g d g'=>g'=g/\((∃i j,xs=[.int i,.int j]/\d=.int (if j<i then j else i))\/(∃a,∃(ns:List Int) (M:Int),xs=[.ref a]/\c8 g a=some (ns.map .int)/\M∈ns/\(∀x∈ns,M<=x)/\d=.int M))
def Tt:DR:=λxs g d g'=>∃a i S n,xs=[.ref a,.int i]/\g[a]?=some (.set S n)/\n+1<4096/\d=.bA/\g'=g.set a (.set (λk=>S k||decide (k=i)) (if S i then n else n+1))
def SE:DR:=λxs g d g'=>∃a,∃ns:List Int,xs=[.ref a]/\c8 g a=some (ns.map .int)/\ns.length<600/\d=.ref g.length/\g'=g++[.set (λk=>decide (k∈ns)) (ST.j8 [] ns).length]
def NK(i:Int):DR:=λxs g d g'=>xs=[]/\d=.ref g.length/\g'=g++[.set (λk=>decide (k=i)) 1]
def RI:DR:=λxs g d g'=>∃a,∃ns:List Int,xs=[.ref a]/\c8 g a=some (ns.map .int)/\d=.int ns.sum/\g'=g
def SH:DR:=λxs g d g'=>∃a,∃ns:List Int,xs=[.ref a]/\c8 g a=some (ns.map .int)/\ns.length<60/\d=.int (ST.j8 [] ns).length/\g'=g
def Su:DR:=λxs g d g'=>∃i j,xs=[.int i,.int j]/\d=.int (i-j)/\g'=g
def QW:DR:=λxs g d g'=>g'=g/\((∃i,xs=[.int i]/\d=.int i)\/(∃b,xs=[.bl b]/\d=.int (if b then 1 else 0))\/∃x n,xs=[.str x]/\x.length<=640/\PySem.intText? x=some n/\d=.int n)
def Oa:DR:=λxs g d g'=>∃a b:Str,xs=[.str a,.str b]/\(b.length==0)=false/\a.length<=100000/\(Txt.split a b).length<=100000/\d=.ref g.length/\g'=g++[.lst ((Txt.split a b).map .str)]
def findR:DR:=λxs g d g'=>∃a b:Str,xs=[.str a,.str b]/\d=.int (Txt.find a b)/\g'=g
def Rq:DR:=λxs g d g'=>∃a b:Str,xs=[.str a,.str b]/\(b.length==0)=false/\a.length<=100000/\d=.tup ((L2.jr a b).map .str)/\g'=g
def XQ:DR:=λxs g d g'=>∃a i l y,xs=[.ref a,.int i,y]/\g[a]?=some (.lst l)/\0<=i/\i<=100000/\l.length<100000/\d=.bA/\g'=g.set a (.lst (l.take i.toNat++y::l.drop i.toNat))
def QX(c:Str):DR:=λxs g d g'=>∃x,xs=[x]/\(∃a fs,x=.ref a/\g[a]?=some (.ins c fs))/\d=.bl true/\g'=g
def RH:DR:=λxs g d g'=>(∃i,xs=[.int i]/\i.natAbs.log2<1920/\d=.str (toString i)/\g'=g)\/∃x,xs=[.str x]/\d=.str x/\g'=g
def Mz:DR:=λxs g d g'=>∃j,xs=[.int j]/\-(2 ^ 62)<=j/\j<=100000/\d=.ref g.length/\g'=g++[.lst (A7 0 j.toNat)]
def MA:DR:=λxs g d g'=>∃i j,xs=[.int i,.int j]/\(-(2 ^ 62)<=i/\i<2 ^ 62/\-(2 ^ 62)<=j/\j<2 ^ 62/\j-i<=100000)/\d=.ref g.length/\g'=g++[.lst (A7 i (j-i).toNat)]
def Lx:DR:=λxs g d g'=>∃a ns,xs=[.ref a]/\c8 g a=some (ns.map .int)/\ns.length<600/\d=.ref g.length/\g'=g++[.lst ((u4 ns).map .int)]
def RJ:DR:=λxs g d g'=>∃ns ms:List Int,xs=[.tup (ns.map .int),.tup (ms.map .int)]/\(∀k∈ns,ST.Spot k)/\(∀k∈ms,ST.Spot k)/\ns.length+ms.length<50/\d=.ref g.length/\g'=g++[.lst ((u4 (ns++ms)).map .int)]
def DV(neg:Bool):DR:=λxs g d g'=>∃aU x,xs=[.tup aU,.str x]/\d=.bl (xor neg (uz aU x).isSome)/\g'=g
def Sn:DR:=λxs g d g'=>∃aU x,xs=[.tup aU,.str x]/\uz aU x=some d/\g'=g
def Li:DR:=λxs g d g'=>g'=g/\((∃i,xs=[.int i]/\i.natAbs.log2<1920/\d=.str (toString i))\/∃x,xs=[.str x]/\x.length<=2000/\d=.str x)
def Sl:DR:=λxs g d g'=>∃x,P5 xs=some x/\d=.str x/\g'=g
def QR(f:Str):DR:=λxs g d g'=>∃a c fs,xs=[.ref a]/\g[a]?=some (.ins c fs)/\fs.lookup f=some d/\g'=g
def appendR:DR:=λxs g d g'=>∃a y l,xs=[.ref a,y]/\g[a]?=some (.lst l)/\l.length<100000/\d=.bA/\g'=g.set a (.lst (l++[y]))
def Rp:DR:=λxs g d g'=>∃a i l k,xs=[.ref a,.int i]/\g[a]?=some (.lst l)/\-(2 ^ 63)<=i/\i<2 ^ 63/\seqIndex? i l.length=some k/\l[k]?=some d/\g'=g.set a (.lst (l.eraseIdx k))
def QU:DR:=λxs g d g'=>∃a y z aU c,xs=[.ref a,y,z]/\g[a]?=some (.iP aU)/\qE y=some c/\d=(qJ aU c).getD z/\g'=g
def Ie:D->Bool
 |.bA=>true
 |.bl _=>true
 |.int _=>true
 |.str _=>true
 |_=>false
def toV:D->V
 |.bl b=>.bl b
 |.int i=>.int i
 |.str x=>.str x
 |_=>.bA
def LY(l:List D)(y:D)(n:Nat):Prop:=l.all Ie=true/\Ie y=true/\(∃z,l[n]?=some z/\DD (toV z) (toV y)=true)/\∀(m:Nat) z,m<n->l[m]?=some z->DD (toV z) (toV y)=false
def Ml:DR:=λxs g d g'=>∃x y l n,xs=[x,y]/\B4 g x=some l/\LY l y n/\l.length<=100000/\d=.int n/\g'=g
def joinR:DR:=λxs g d g'=>∃sep a ys,xs=[.str sep,.ref a]/\c8 g a=some (ys.map .str)/\A6 sep ys<=100000/\d=.str (Builtin.Str.glued sep ys)/\g'=g
def Sr:DR:=λxs g d g'=>(∃i j,xs=[.int i,.int j]/\d=.int (i+j)/\g'=g)\/False
def Mb:DR:=λxs g d g'=>∃a l,xs=[.ref a]/\g[a]?=some (.lst l)/\d=.bA/\g'=g.set a (.lst [])
def Ti:DR:=λxs g d g'=>∃a l,xs=[.ref a]/\g[a]?=some (.lst (l++[d]))/\g'=g.set a (.lst l)
def OF:DR:=λxs g d g'=>∃a b l m,xs=[.ref a,.ref b]/\g[a]?=some (.lst l)/\g[b]?=some (.lst m)/\l.length+m.length<=100000/\d=.bA/\g'=g.set a (.lst (l++m))
def Me:DR:=λxs g d g'=>False\/∃a,∃ks:List Int,xs=[.ref a]/\c8 g a=some (ks.map λk=>.tup [.int k,.bl true])/\ks.length<=1000/\ks.Nodup/\d=.ref g.length/\g'=g++[.iP (ks.map λk=>(.inl k,.bl true))]
def qq(p:Key×Int×Int):Key×D:=(p.1,.tup [.int p.2.1,.int p.2.2])
def SD(n:Int)(p:Key×Int×Int):Bool:=!(decide (p.2.1=n)||decide (p.2.2=n))
def Sg:DR:=λxs g d g'=>∃a n,∃fs:List (Key×Int×Int),xs=[.ref a,.int n]/\g[a]?=some (.iP (fs.map qq))/\fs.length<1000/\(fs.map (·.1)).Nodup/\d=.ref g.length/\g'=g++[.iP ((fs.filter (SD n)).map qq)]
def delD(aU:List (Key×D))(k:Key):List (Key×D):=aU.filter λkv=>decide (kv.1≠k)
def Sj:DR:=λxs g d g'=>∃a y aU c,xs=[.ref a,y]/\g[a]?=some (.iP aU)/\qE y=some c/\qJ aU c=some d/\g'=g.set a (.iP (delD aU c))
def PR:Pr->DR
 |.zk=>Sg
 |.tP=>Sj
 |.split=>Oa
 |.find=>findR
 |.jr=>Rq
 |.fS=>XQ
 |.xU c=>QX c
 |.clear=>Mb
 |.any=>anyR
 |.sum=>RI
 |.rW=>Tt
 |.xQ=>SE
 |.rS i=>NK i
 |.pK=>SH
 |.xT=>Su
 |.rO=>NZ
 |.extend=>OF
 |.xE=>Ti
 |.tS=>Me
 |.bin op=>QM op
 |.un op=>Jk op
 |.cmp op=>QN op
 |.ix=>JQ
 |.jC a b=>RG a b
 |.rev=>RA
 |.tup=>RY
 |.lst=>Rb
 |.kZ=>Si
 |.len=>QZ
 |.list=>SG
 |.tuple=>Ou
 |.isin=>Ss
 |.all=>allR
 |.max=>Rc
 |.min=>Rf
 |.int=>QW
 |.str=>RH
 |.lU=>Mz
 |.lT=>MA
 |.sset=>Lx
 |.Js=>RJ
 |.Lg=>DV false
 |.zb=>DV true
 |.tI=>Sn
 |.fv=>Li
 |.kY=>Sl
 |.fld f=>QR f
 |.append=>appendR
 |.pop=>Rp
 |.get=>QU
 |.index=>Ml
 |.join=>joinR
 |.iadd=>Sr
def cN(p:Pr)(xs:List D)(g:G)(Q:KD):Prop:=∃d g',PR p xs g d g'/\Q d g'
def qv(g:G)(x y:D)(k:Bool->Prop):Prop:=∃b,tN g x y b/\k b
def xV(g:G)(x y:D)(k:Bool->Prop):Prop:=∃b,inR g x y b/\k b
def V4(g:G)(x:D)(k:Bool->Prop):Prop:=∃b,Ef g x b/\k b
def RD(x y v:D)(g g':G):Prop:=(∃a i l j,x=.ref a/\y=.int i/\g[a]?=some (.lst l)/\kS l.length i=some j/\g'=g.set a (.lst (l.set j v))) \/
 ∃a aU c,x=.ref a/\g[a]?=some (.iP aU)/\qE y=some c/\aU.length<100000/\g'=g.set a (.iP (putD aU c v))
def V9(x y v:D)(g:G)(k:G->Prop):Prop:=∃g',RD x y v g g'/\k g'
def Ir(f:Str)(cs:List Str)(x v:D)(g g':G):Prop:=∃a c fs,x=.ref a/\g[a]?=some (.ins c fs)/\c∈cs/\fs.length<100/\g'=g.set a (.ins c (O9 f v fs))
def Bg(f:Str)(cs:List Str)(x v:D)(g:G)(k:G->Prop):Prop:=∃g',Ir f cs x v g g'/\k g'
def kQ:Pr->D->G->Prop
 |.get,x,g=>∃a aU,x=.ref a/\g[a]?=some (.iP aU)
 |.tP,x,g=>∃a aU,x=.ref a/\g[a]?=some (.iP aU)
 |.join,x,g=>∃y,x=.str y
 |.split,x,g=>∃y,x=.str y
 |.find,x,g=>∃y,x=.str y
 |.jr,x,g=>∃y,x=.str y
 |.rW,x,g=>∃a S n,x=.ref a/\g[a]?=some (.set S n)
 |.index,x,g=>∃a l,x=.ref a/\c8 g a=some l
 |_,x,g=>∃a l,x=.ref a/\c8 g a=some l
inductive IK where
 |fix (l:List D)|lst (a:Nat)|DE (a:Nat)|Cm (a n:Nat)|uQ (l:List D) (a:Nat)
def IK.at:IK->Nat->G->Option (Option D)
 |.fix l,i,_=>some l[i]?
 |.lst a,i,g=>match c8 g a with
  |some l=>some l[i]?
  |none=>none
 |.DE a,i,g=>match c8 g a with
  |some l=>some (l[i]?.map λd=>.tup [.int i,d])
  |none=>none
 |.uQ l a,i,g=>match c8 g a with
  |some m=>if l.length=m.length then some ((l.zip m)[i]?.map λp=>.tup [p.1,p.2]) else none
  |none=>none
 |.Cm a n,i,g=>match c8 g a with
  |some l=>if l.length=n then some (if i<n then l[n-1-i]? else none) else none
  |none=>none
inductive MT where
 |one (i:Nat)|many (is:List Nat)
def K6:List Nat->List D->S->Option S
 |[],[],U=>some U
 |i::is,d::ds,U=>K6 is ds (U.set i (some d))
 |_,_,_=>none
def km(t:MT)(x:D)(U:S)(k:S->Prop):Prop:=match t with
 |.one i=>k (U.set i (some x))
 |.many is=>∃l cx,x=.tup l/\K6 is l U=some cx/\k cx
set_option genInjectivity false in
set_option genSizeOf false in
inductive ME where
 |var (i:Nat)|lit (d:D)
 |nil|cons (a b:ME)|prim (p:Pr) (es:ME)|et (p:Pr) (o es:ME)
 |chain (o1 o2:CmpOp) (a b c:ME)
 |eG (a b:ME)|iW (a b:ME)|dW (a:ME)|ite (c a b:ME)
 |call (f:Nat) (es:ME)|make (c:Str) (f:Nat) (es:ME)
 |comp (d5:List Nat) (n:Nat) (tg:MT) (it cond elt:ME)|jD (d5:List Nat) (n:Nat) (tg:MT) (it cond elt:ME)
 |iX (e:ME)|gL (a:ME)|jH (a b:ME)|qa (e:ME)|pZ (e:ME)|nT (a b:ME)|gb (e:ME)|no
noncomputable abbrev fe:=Nat->List D->G->KD->KX->Prop
def P7(U:S)(d5:List Nat)(n:Nat):S:=d5.map (λj=>(U[j]?).join)++List.replicate (n-d5.length) none
def turns(k:IK)(U:S)(g:G)(fin:S->G->Prop)(turn:D->(S->G->Prop)->S->G->Prop):Prop :=
 ∃W:Nat->Nat->S->G->Prop,(∃m,W 0 m U g)/\∀i m U g,W i m U g->(k.at i g=some none/\fin U g)\/∃x,k.at i g=some (some x)/\∃N2:S->G->Prop,(∀cx g',N2 cx g'->∃m',m'<m/\W (i+1) m' cx g')/\turn x N2 U g
def zS(k:IK)(U:S)(g:G)(fin:List D->G->Prop)(turn:D->(Option D->S->G->Prop)->S->G->Prop):Prop :=
 ∃W:Nat->Nat->List D->S->G->Prop,(∃m,W 0 m [] U g)/\∀i m ys U g,W i m ys U g->(k.at i g=some none/\fin ys g) \/
  ∃x,k.at i g=some (some x)/\ys.length<100000/\turn x (λy cx g'=>∃m',m'<m/\W (i+1) m' (ys++y.toList) cx g') U g
def zT(k:IK)(U:S)(g:G)(fin:List Int->G->Prop)(turn:D->(Option Int->S->G->Prop)->S->G->Prop):Prop :=
 ∃W:Nat->Nat->List Int->S->G->Prop,(∃m,W 0 m [] U g)/\∀i m ys U g,W i m ys U g->(k.at i g=some none/\ys.length<60/\fin ys g) \/
  ∃x,k.at i g=some (some x)/\ys.length<60/\turn x (λy cx g'=>∃m',m'<m/\W (i+1) m' (ys++y.toList) cx g') U g
mutual
noncomputable def aV(P:fe):ME->S->G->KD->KX->Prop
 |.var i,U,g,Q,_=>∃d,U[i]?=some (some d)/\Q d g
 |.lit d,_,g,Q,_=>Q d g
 |.prim p es,U,g,Q,E=>fJ P es U g (λxs g1=>cN p xs g1 Q) E
 |.et p o es,U,g,Q,E=>aV P o U g (λx g1=>kQ p x g1/\fJ P es U g1 (λxs g2=>cN p (x::xs) g2 Q) E) E
 |.chain o1 o2 a b c,U,g,Q,E=>aV P a U g (λx g1=>aV P b U g1 (λy g2=>cN (.cmp o1) [x,y] g2 λz g3=>∃t,z=.bl t/\if t=true then aV P c U g3 (λw g4=>cN (.cmp o2) [y,w] g4 Q) E else Q (.bl false) g3) E) E
 |.eG a b,U,g,Q,E=>aV P a U g (λx g1=>∃t,x=.bl t/\if t=true then aV P b U g1 Q E else Q (.bl false) g1) E
 |.iW a b,U,g,Q,E=>aV P a U g (λx g1=>∃t,x=.bl t/\if t=true then Q (.bl true) g1 else aV P b U g1 Q E) E
 |.dW a,U,g,Q,E=>aV P a U g (λx g1=>∃t,x=.bl t/\Q (.bl (!t)) g1) E
 |.ite c a b,U,g,Q,E=>dD P c U g (λt g1=>if t=true then aV P a U g1 Q E else aV P b U g1 Q E) E
 |.call f es,U,g,Q,E=>fJ P es U g (λxs g1=>P f xs g1 Q E) E
 |.make c f es,U,g,Q,E=>fJ P es U g (λxs g1=>P f (.ref g1.length::xs) (g1++[.ins c []]) (λd g2=>d=.bA/\Q (.ref g1.length) g2) E) E
 |.comp d5 n tg it cond elt,U,g,Q,E=>jh P it U g (λk g1=>zS k (P7 U d5 n) g1 (λys g=>Q (.ref g.length) (g++[.lst ys])) λx N U g=>km tg x U λdz=>dD P cond dz g (λb g3=>if b=true then aV P elt dz g3 (λy g4=>N (some y) dz g4) jX else N none dz g3) jX) E
 |.jD d5 n tg it cond elt,U,g,Q,E=>jh P it U g (λk g1=>zT k (P7 U d5 n) g1 (λys g=>Q (.ref g.length) (g++[.lst ((u4 ys).map .int)])) λx N U g=>km tg x U λdz=>dD P cond dz g (λb g3=>if b=true then aV P elt dz g3 (λy g4=>∃j,y=.int j/\N (some j) dz g4) jX else N none dz g3) jX) E
 |.nil,_,_,_,_=>False
 |.cons _ _,_,_,_,_=>False
 |.iX _,_,_,_,_=>False
 |.gL _,_,_,_,_=>False
 |.jH _ _,_,_,_,_=>False
 |.qa _,_,_,_,_=>False
 |.pZ _,_,_,_,_=>False
 |.nT _ _,_,_,_,_=>False
 |.gb _,_,_,_,_=>False
 |.no,_,_,_,_=>False
noncomputable def fJ(P:fe):ME->S->G->(List D->G->Prop)->KX->Prop
 |.nil,_,g,Q,_=>Q [] g
 |.cons a b,U,g,Q,E=>aV P a U g (λx g1=>fJ P b U g1 (λxs g2=>Q (x::xs) g2) E) E
 |_,_,_,_,_=>False
noncomputable def dD(P:fe):ME->S->G->(Bool->G->Prop)->KX->Prop
 |.eG a b,U,g,Q,E=>dD P a U g (λt g1=>if t=true then dD P b U g1 Q E else Q false g1) E
 |.iW a b,U,g,Q,E=>dD P a U g (λt g1=>if t=true then Q true g1 else dD P b U g1 Q E) E
 |.dW a,U,g,Q,E=>dD P a U g (λt g1=>Q (!t) g1) E
 |.no,_,g,Q,_=>Q true g
 |.gb e,U,g,Q,E=>aV P e U g (λx g1=>V4 g1 x λb=>Q b g1) E
 |_,_,_,_,_=>False
noncomputable def jh(P:fe):ME->S->G->(IK->G->Prop)->KX->Prop
 |.iX e,U,g,R,E=>aV P e U g (λx g1=>(∃l,x=.tup l/\R (.fix l) g1)\/(∃a l,x=.ref a/\c8 g1 a=some l/\R (.lst a) g1)\/∃a:Str,x=.str a/\a.cps.all (·<128)=true/\R (.fix (sgn a)) g1) E
 |.gL a,U,g,R,E=>aV P a U g (λx g1=>∃j:Int,x=.int j/\-(2 ^ 62)<=j/\j<2 ^ 62/\R (.fix (A7 0 j.toNat)) g1) E
 |.jH a b,U,g,R,E=>aV P a U g (λx g1=>aV P b U g1 (λy g2=>∃i j:Int,x=.int i/\y=.int j/\(-(2 ^ 62)<=i/\i<2 ^ 62/\-(2 ^ 62)<=j/\j<2 ^ 62)/\R (.fix (A7 i (j-i).toNat)) g2) E) E
 |.qa e,U,g,R,E=>aV P e U g (λx g1=>∃a l,x=.ref a/\c8 g1 a=some l/\R (.DE a) g1) E
 |.nT a b,U,g,R,E=>aV P a U g (λx g1=>aV P b U g1 (λy g2=>∃l i m,x=.tup l/\y=.ref i/\c8 g2 i=some m/\R (.uQ l i) g2) E) E
 |.pZ e,U,g,R,E=>aV P e U g (λx g1=>∃a l,x=.ref a/\c8 g1 a=some l/\R (.Cm a l.length) g1) E
 |_,_,_,_,_=>False
end
set_option genInjectivity false in
set_option genSizeOf false in
inductive MS where
 |pass|seq (a b:MS)|expr (e:ME)|set (i:Nat) (e:ME)|mr (t:MT) (e:ME)|eE (o i v:ME)|mZ (f:Str) (cs:List Str) (o v:ME)
 |uf (i:Nat) (p:Pr) (v:ME)|uX (o1 i1 o2 i2 e:ME)|mV (i j:Nat) (e:ME)
 |ifs (c:ME) (a b:MS)|jN (t:MT) (it:ME) (b:MS)|rC (c:ME) (b:MS)|ret (e:ME)|oO|brk|cont
 |raise (x:Str) (es:ME)|V3 (b:MS) (hs:List (Str×ME))|raiser (es:ME)|lN (e:ME)
structure Ends where
 nx:S->G->Prop
 rt:KD
 bk:S->G->Prop:=λ_ _=>False
 ct:S->G->Prop:=λ_ _=>False
def nN(P:fe)(N:Ends)(U:S)(E:KX):List (Str×ME)->KX
 |[],x,g=>E x g
 |(y,e)::r,x,g=>if x.cls=y\/y="MintError" then aV P e U g N.rt jX else nN P N U E r x g
def wpS(P:fe):MS->Ends->S->G->KX->Prop
 |.pass,N,U,g,_=>N.nx U g
 |.seq a b,N,U,g,E=>wpS P a { N with nx:=λjA g1=>wpS P b N jA g1 E } U g E
 |.expr e,N,U,g,E=>aV P e U g (λ_ g1=>N.nx U g1) E
 |.set i e,N,U,g,E=>aV P e U g (λx g1=>N.nx (U.set i (some x)) g1) E
 |.mr t e,N,U,g,E=>aV P e U g (λx g1=>km t x U λjA=>N.nx jA g1) E
 |.mV i j e,N,U,g,E=>aV P e U g (λv g1=>∃a x l,v=.ref a/\c8 g1 a=some (x::l)/\N.nx ((U.set i (some x)).set j (some (.ref g1.length))) (g1++[.lst l])) E
 |.eE o i v,N,U,g,E=>aV P v U g (λx g1=>aV P o U g1 (λy g2=>aV P i U g2 (λz g3=>V9 y z x g3 λg4=>N.nx U g4) E) E) E
 |.mZ f cs o v,N,U,g,E=>aV P v U g (λx g1=>aV P o U g1 (λy g2=>Bg f cs y x g2 λg3=>N.nx U g3) E) E
 |.uX o1 i1 o2 i2 e,N,U,g,E=>aV P e U g (λx g1=>∃u v,x=.tup [u,v]/\aV P o1 U g1 (λy1 g2=>aV P i1 U g2 (λz1 g3=>V9 y1 z1 u g3 λg4=>aV P o2 U g4 (λy2 g5=>aV P i2 U g5 (λz2 g6=>V9 y2 z2 v g6 λg7=>N.nx U g7) E) E) E) E) E
 |.uf i p v,N,U,g,E=>∃x,U[i]?=some (some x)/\aV P v U g (λz g1=>cN p [x,z] g1 λw g2=>N.nx (U.set i (some w)) g2) E
 |.ifs c a b,N,U,g,E=>dD P c U g (λt g1=>if t=true then wpS P a N U g1 E else wpS P b N U g1 E) E
 |.jN t it b,N,U,g,E=>jh P it U g (λk g1=>turns k U g1 N.nx λx N2 U g=>km t x U λdz=>wpS P b { N with nx:=N2,ct:=N2,bk:=N.nx } dz g E) E
 |.rC c b,N,U,g,E=>∃W:Nat->S->G->Prop,(∃m,W m U g)/\∀m U g,W m U g->dD P c U g (λt g1=>if t=true then ∃N2:S->G->Prop,(∀cx g',N2 cx g'->∃m',m'<m/\W m' cx g')/\wpS P b { N with nx:=N2,ct:=N2,bk:=N.nx } U g1 E else N.nx U g1) E
 |.ret e,N,U,g,E=>aV P e U g N.rt E
 |.oO,N,_,g,_=>N.rt .bA g
 |.brk,N,U,g,_=>N.bk U g
 |.cont,N,U,g,_=>N.ct U g
 |.raise x es,_,U,g,E=>fJ P es U g (λvs g1=>vs.length<=1000/\E ⟨x⟩ g1) E
 |.V3 b hs,N,U,g,E=>wpS P b N U g (nN P N (U.map λ_=>none) E hs)
 |.raiser es,_,U,g,E=>fJ P es U g (λvs g1=>∃n:Nat,vs=[.int n]/\E (ui n) g1) E
 |.lN e,N,U,g,E=>aV P e U g N.rt λx g1=>(∃n:Nat,x=ui n/\N.rt (.ref g1.length) (g1++[.lst [.int n]]))\/(x.cls.cps.size≠1/\E x g1)
structure bN where
 ar:Nat
 n:Nat
 body:MS
def d7(m:bN)(ds:List D):S:=ds.map some++List.replicate (m.n-ds.length) none
def d4(T:Nat->Option bN):Nat->fe
 |0,_,_,_,_,_=>False
 |k+1,f,ds,g,Q,E=>∃m,T f=some m/\ds.length=m.ar/\wpS (d4 T k) m.body ⟨λ_ g'=>Q .bA g',Q,λ_ _=>False,λ_ _=>False⟩ (d7 m ds) g E
end M
namespace M
open PySem L2
variable{g:G}{K:PySem.W.Frag}{H:Hp}{a p:Addr}{vs:List V}{i:Nat}{o:O}{u:HO}{l:List D}
theorem l7{p xs}{Q Q':KD}(h:∀d g,Q d g->Q' d g)(q:cN p xs g Q):cN p xs g Q':=by
 obtain⟨d,g',a,b⟩:=q;exact⟨d,g',a,h _ _ b⟩
theorem Wd{x}{k k':Bool->Prop}(h:∀b,k b->k' b)(q:V4 g x k):V4 g x k':=by
 obtain⟨b,a,z⟩:=q;exact⟨b,a,h _ z⟩
theorem O8{x y v}{k k':G->Prop}(h:∀g,k g->k' g)(q:V9 x y v g k):V9 x y v g k':=by
 obtain⟨b,a,z⟩:=q;exact⟨b,a,h _ z⟩
theorem WL{f cs x v}{k k':G->Prop}(h:∀g,k g->k' g)(q:Bg f cs x v g k):Bg f cs x v g k':=by
 obtain⟨b,a,z⟩:=q;exact⟨b,a,h _ z⟩
theorem J7{t x U}{k k':S->Prop}(h:∀U,k U->k' U)(q:km t x U k):km t x U k':=by
 cases t with
 |one i=>exact h _ q
 |many is=>obtain⟨l,cx,a,b,c⟩:=q;exact⟨l,cx,a,b,h _ c⟩
theorem WR{k U g}{fin jO:S->G->Prop}{turn hX:D->(S->G->Prop)->S->G->Prop}(h:∀U g,fin U g->jO U g)(h2:∀x N U g,turn x N U g->hX x N U g)(q:turns k U g fin turn):turns k U g jO hX:=by
 obtain⟨W,w0,q⟩:=q;refine⟨W,w0,λi m U g w=>?_⟩;rcases q i m U g w with⟨a,b⟩|⟨x,a,N2,b,c⟩
 ·exact .inl ⟨a,h _ _ b⟩
 ·exact .inr ⟨x,a,N2,b,h2 _ _ _ _ c⟩
theorem TB{k U g}{fin jO:List D->G->Prop}{turn hX:D->(Option D->S->G->Prop)->S->G->Prop}(h:∀ys g,fin ys g->jO ys g)(h2:∀x N U g,turn x N U g->hX x N U g)(q:zS k U g fin turn):zS k U g jO hX:=by
 obtain⟨W,w0,q⟩:=q;refine⟨W,w0,λi m ys U g w=>?_⟩;rcases q i m ys U g w with⟨a,b⟩|⟨x,a,b,c⟩
 ·exact .inl ⟨a,h _ _ b⟩
 ·exact .inr ⟨x,a,b,h2 _ _ _ _ c⟩
theorem TC{k U g}{fin jO:List Int->G->Prop}{turn hX:D->(Option Int->S->G->Prop)->S->G->Prop}(h:∀ys g,fin ys g->jO ys g)(h2:∀x N U g,turn x N U g->hX x N U g)(q:zT k U g fin turn):zT k U g jO hX:=by
 obtain⟨W,w0,q⟩:=q;refine⟨W,w0,λi m ys U g w=>?_⟩;rcases q i m ys U g w with⟨a,b,c⟩|⟨x,a,b,c⟩
 ·exact .inl ⟨a,b,h _ _ c⟩
 ·exact .inr ⟨x,a,b,h2 _ _ _ _ c⟩
theorem B5{t:Bool}{A B A' B':Prop}(h1:A->A')(h2:B->B')(q:if t=true then A else B):if t=true then A' else B':=by
 cases t
 ·exact h2 q
 ·exact h1 q
def i4(P:fe):Prop:=∀f xs g Q Q' E E',(∀d g,Q d g->Q' d g)->(∀x g,E x g->E' x g)->P f xs g Q E->P f xs g Q' E'
mutual
theorem a9{P:fe}(hP:i4 P):∀(e:ME) (U:S) (g:G) (Q Q':KD) (E E':KX),(∀d g,Q d g->Q' d g)->(∀x g,E x g->E' x g)->aV P e U g Q E->aV P e U g Q' E'
 |.var i,U,g,Q,Q',E,E',h,hx,q=>by
  obtain⟨d,a,b⟩:=q;exact⟨d,a,h _ _ b⟩
 |.lit d,U,g,Q,Q',E,E',h,hx,q=>by exact h _ _ q
 |.prim p es,U,g,Q,Q',E,E',h,hx,q=>by
  exact r9 hP es _ _ _ _ _ _ (λxs g1 q=>l7 h q) hx q
 |.et p o es,U,g,Q,Q',E,E',h,hx,q=>by
  exact a9 hP o _ _ _ _ _ _ (λx g1 q=>⟨q.1,r9 hP es _ _ _ _ _ _ (λxs g2 q=>l7 h q) hx q.2⟩) hx q
 |.chain o1 o2 a b c,U,g,Q,Q',E,E',h,hx,q=>by
  refine a9 hP a _ _ _ _ _ _ (λx g1 q=>a9 hP b _ _ _ _ _ _ (λy g2 q=>l7 (λz g3 q=>?_) q) hx q) hx q;obtain⟨t,e,q⟩:=q;exact⟨t,e,B5 (λq=>a9 hP c _ _ _ _ _ _ (λw g4 q=>l7 h q) hx q) (h _ _) q⟩
 |.eG a b,U,g,Q,Q',E,E',h,hx,q=>by
  refine a9 hP a _ _ _ _ _ _ (λx g1 q=>?_) hx q;obtain⟨t,e,q⟩:=q;exact⟨t,e,B5 (λq=>a9 hP b _ _ _ _ _ _ h hx q) (h _ _) q⟩
 |.iW a b,U,g,Q,Q',E,E',h,hx,q=>by
  refine a9 hP a _ _ _ _ _ _ (λx g1 q=>?_) hx q;obtain⟨t,e,q⟩:=q;exact⟨t,e,B5 (h _ _) (λq=>a9 hP b _ _ _ _ _ _ h hx q) q⟩
 |.dW a,U,g,Q,Q',E,E',h,hx,q=>by
  refine a9 hP a _ _ _ _ _ _ (λx g1 q=>?_) hx q;obtain⟨t,e,q⟩:=q;exact⟨t,e,h _ _ q⟩
 |.ite c a b,U,g,Q,Q',E,E',h,hx,q=>by
  exact q9 hP c _ _ _ _ _ _ (λt g1 q=>B5 (λq=>a9 hP a _ _ _ _ _ _ h hx q) (λq=>a9 hP b _ _ _ _ _ _ h hx q) q) hx q
 |.call f es,U,g,Q,Q',E,E',h,hx,q=>by
  exact r9 hP es _ _ _ _ _ _ (λxs g1 q=>hP _ _ _ _ _ _ _ h hx q) hx q
 |.make c f es,U,g,Q,Q',E,E',h,hx,q=>by
  exact r9 hP es _ _ _ _ _ _ (λxs g1 q=>hP _ _ _ _ _ _ _ (λd g2 q=>⟨q.1,h _ _ q.2⟩) hx q) hx q
 |.comp d5 n tg it cond elt,U,g,Q,Q',E,E',h,hx,q=>by
  exact E0 hP it _ _ _ _ _ _ (λk g1 q=>TB (λys g q=>h _ _ q) (λ_ _ _ _ q=>q) q) hx q
 |.jD d5 n tg it cond elt,U,g,Q,Q',E,E',h,hx,q=>by
  exact E0 hP it _ _ _ _ _ _ (λk g1 q=>TC (λys g q=>h _ _ q) (λ_ _ _ _ q=>q) q) hx q
 |.nil,U,g,Q,Q',E,E',h,hx,q=>(show False from q).elim
 |.cons _ _,U,g,Q,Q',E,E',h,hx,q=>(show False from q).elim
 |.iX _,U,g,Q,Q',E,E',h,hx,q=>(show False from q).elim
 |.gL _,U,g,Q,Q',E,E',h,hx,q=>(show False from q).elim
 |.jH _ _,U,g,Q,Q',E,E',h,hx,q=>(show False from q).elim
 |.qa _,U,g,Q,Q',E,E',h,hx,q|.pZ _,U,g,Q,Q',E,E',h,hx,q|.nT _ _,U,g,Q,Q',E,E',h,hx,q=>(show False from q).elim
 |.gb _,U,g,Q,Q',E,E',h,hx,q=>(show False from q).elim
 |.no,U,g,Q,Q',E,E',h,hx,q=>(show False from q).elim
theorem r9{P:fe}(hP:i4 P):∀(e:ME) (U:S) (g:G) (Q Q':List D->G->Prop) (E E':KX),(∀d g,Q d g->Q' d g)->(∀x g,E x g->E' x g)->fJ P e U g Q E->fJ P e U g Q' E'
 |.nil,U,g,Q,Q',E,E',h,hx,q=>by exact h _ _ q
 |.cons a b,U,g,Q,Q',E,E',h,hx,q=>by
  exact a9 hP a _ _ _ _ _ _ (λx g1 q=>r9 hP b _ _ _ _ _ _ (λxs g2 q=>h _ _ q) hx q) hx q
 |.var _,U,g,Q,Q',E,E',h,hx,q|.lit _,U,g,Q,Q',E,E',h,hx,q|.prim _ _,U,g,Q,Q',E,E',h,hx,q|.et _ _ _,U,g,Q,Q',E,E',h,hx,q|.chain _ _ _ _ _,U,g,Q,Q',E,E',h,hx,q|.eG _ _,U,g,Q,Q',E,E',h,hx,q|.iW _ _,U,g,Q,Q',E,E',h,hx,q|.dW _,U,g,Q,Q',E,E',h,hx,q|.ite _ _ _,U,g,Q,Q',E,E',h,hx,q|.call _ _,U,g,Q,Q',E,E',h,hx,q
 |.make _ _ _,U,g,Q,Q',E,E',h,hx,q|.comp _ _ _ _ _ _,U,g,Q,Q',E,E',h,hx,q|.jD _ _ _ _ _ _,U,g,Q,Q',E,E',h,hx,q|.iX _,U,g,Q,Q',E,E',h,hx,q|.gL _,U,g,Q,Q',E,E',h,hx,q|.jH _ _,U,g,Q,Q',E,E',h,hx,q|.qa _,U,g,Q,Q',E,E',h,hx,q|.pZ _,U,g,Q,Q',E,E',h,hx,q|.nT _ _,U,g,Q,Q',E,E',h,hx,q|.gb _,U,g,Q,Q',E,E',h,hx,q|.no,U,g,Q,Q',E,E',h,hx,q=>(show False from q).elim
theorem q9{P:fe}(hP:i4 P):∀(e:ME) (U:S) (g:G) (Q Q':Bool->G->Prop) (E E':KX),(∀d g,Q d g->Q' d g)->(∀x g,E x g->E' x g)->dD P e U g Q E->dD P e U g Q' E'
 |.eG a b,U,g,Q,Q',E,E',h,hx,q=>by
  exact q9 hP a _ _ _ _ _ _ (λt g1 q=>B5 (λq=>q9 hP b _ _ _ _ _ _ h hx q) (h _ _) q) hx q
 |.iW a b,U,g,Q,Q',E,E',h,hx,q=>by
  exact q9 hP a _ _ _ _ _ _ (λt g1 q=>B5 (h _ _) (λq=>q9 hP b _ _ _ _ _ _ h hx q) q) hx q
 |.dW a,U,g,Q,Q',E,E',h,hx,q=>by exact q9 hP a _ _ _ _ _ _ (λt g1 q=>h _ _ q) hx q
 |.no,U,g,Q,Q',E,E',h,hx,q=>by exact h _ _ q
 |.gb e,U,g,Q,Q',E,E',h,hx,q=>by exact a9 hP e _ _ _ _ _ _ (λx g1 q=>Wd (λb q=>h _ _ q) q) hx q
 |.var _,U,g,Q,Q',E,E',h,hx,q|.lit _,U,g,Q,Q',E,E',h,hx,q|.prim _ _,U,g,Q,Q',E,E',h,hx,q|.et _ _ _,U,g,Q,Q',E,E',h,hx,q|.chain _ _ _ _ _,U,g,Q,Q',E,E',h,hx,q|.ite _ _ _,U,g,Q,Q',E,E',h,hx,q|.call _ _,U,g,Q,Q',E,E',h,hx,q|.nil,U,g,Q,Q',E,E',h,hx,q|.cons _ _,U,g,Q,Q',E,E',h,hx,q
 |.make _ _ _,U,g,Q,Q',E,E',h,hx,q|.comp _ _ _ _ _ _,U,g,Q,Q',E,E',h,hx,q|.jD _ _ _ _ _ _,U,g,Q,Q',E,E',h,hx,q|.iX _,U,g,Q,Q',E,E',h,hx,q|.gL _,U,g,Q,Q',E,E',h,hx,q|.jH _ _,U,g,Q,Q',E,E',h,hx,q|.qa _,U,g,Q,Q',E,E',h,hx,q|.pZ _,U,g,Q,Q',E,E',h,hx,q|.nT _ _,U,g,Q,Q',E,E',h,hx,q=>(show False from q).elim
theorem E0{P:fe}(hP:i4 P):∀(e:ME) (U:S) (g:G) (Q Q':IK->G->Prop) (E E':KX),(∀d g,Q d g->Q' d g)->(∀x g,E x g->E' x g)->jh P e U g Q E->jh P e U g Q' E'
 |.iX e,U,g,Q,Q',E,E',h,hx,q=>by
  exact a9 hP e _ _ _ _ _ _ (λx g1 q=>q.imp (λ⟨l,a,b⟩=>⟨l,a,h _ _ b⟩) λq=>q.imp (λ⟨i,l,a,b,c⟩=>⟨i,l,a,b,h _ _ c⟩) λ⟨a,b,c,d⟩=>⟨a,b,c,h _ _ d⟩) hx q
 |.gL a,U,g,Q,Q',E,E',h,hx,q=>by
  exact a9 hP a _ _ _ _ _ _ (λx g1 ⟨j,a,b,c,d⟩=>⟨j,a,b,c,h _ _ d⟩) hx q
 |.jH a b,U,g,Q,Q',E,E',h,hx,q=>by
  exact a9 hP a _ _ _ _ _ _ (λx g1 q=>a9 hP b _ _ _ _ _ _ (λy g2 ⟨i,j,a,b,c,d⟩=>⟨i,j,a,b,c,h _ _ d⟩) hx q) hx q
 |.qa e,U,g,Q,Q',E,E',h,hx,q=>by
  exact a9 hP e _ _ _ _ _ _ (λx g1 ⟨i,l,a,b,c⟩=>⟨i,l,a,b,h _ _ c⟩) hx q
 |.nT a b,U,g,Q,Q',E,E',h,hx,q=>by
  exact a9 hP a _ _ _ _ _ _ (λx g1 q=>a9 hP b _ _ _ _ _ _ (λy g2 ⟨l,i,m,e1,e2,e3,q⟩=>⟨l,i,m,e1,e2,e3,h _ _ q⟩) hx q) hx q
 |.pZ e,U,g,Q,Q',E,E',h,hx,q=>by
  exact a9 hP e _ _ _ _ _ _ (λx g1 ⟨i,l,a,b,c⟩=>⟨i,l,a,b,h _ _ c⟩) hx q
 |.var _,U,g,Q,Q',E,E',h,hx,q|.lit _,U,g,Q,Q',E,E',h,hx,q|.prim _ _,U,g,Q,Q',E,E',h,hx,q|.et _ _ _,U,g,Q,Q',E,E',h,hx,q|.chain _ _ _ _ _,U,g,Q,Q',E,E',h,hx,q|.ite _ _ _,U,g,Q,Q',E,E',h,hx,q|.call _ _,U,g,Q,Q',E,E',h,hx,q|.nil,U,g,Q,Q',E,E',h,hx,q|.cons _ _,U,g,Q,Q',E,E',h,hx,q
 |.eG _ _,U,g,Q,Q',E,E',h,hx,q|.iW _ _,U,g,Q,Q',E,E',h,hx,q|.dW _,U,g,Q,Q',E,E',h,hx,q|.gb _,U,g,Q,Q',E,E',h,hx,q|.no,U,g,Q,Q',E,E',h,hx,q
 |.make _ _ _,U,g,Q,Q',E,E',h,hx,q|.comp _ _ _ _ _ _,U,g,Q,Q',E,E',h,hx,q|.jD _ _ _ _ _ _,U,g,Q,Q',E,E',h,hx,q=>(show False from q).elim
end
structure Ends.le(N N':Ends):Prop where
 nx:∀U g,N.nx U g->N'.nx U g
 rt:∀d g,N.rt d g->N'.rt d g
 bk:∀U g,N.bk U g->N'.bk U g
 ct:∀U g,N.ct U g->N'.ct U g
theorem Fb{P:fe}(hP:i4 P){N N':Ends}{E E':KX}(h:N.le N')(hx:∀x g,E x g->E' x g){U:S}:∀(hs:List (Str×ME)) x g,nN P N U E hs x g->nN P N' U E' hs x g
 |[],x,g,q=>hx x g q
 |(y,e)::r,x,g,q=>by
  unfold nN at q ⊢;split
  ·rename_i hh;rw[aF hh] at q;exact a9 hP e _ _ _ _ _ _ h.rt (λ_ _ z=>z) q
  ·rename_i hh;rw[aA hh] at q;exact Fb hP h hx r x g q
theorem wpS_mono{P:fe}(hP:i4 P):∀(s:MS) (N N':Ends) (U:S) (g:G) (E E':KX),N.le N'->(∀x g,E x g->E' x g)->wpS P s N U g E->wpS P s N' U g E'
 |.pass,N,N',U,g,E,E',h,hx,q=>h.nx _ _ q
 |.seq a b,N,N',U,g,E,E',h,hx,q=>wpS_mono hP a { N with nx:=λjA g1=>wpS P b N jA g1 E } { N' with nx:=λjA g1=>wpS P b N' jA g1 E' } _ _ _ _ ⟨λjA g1 q=>wpS_mono hP b _ _ _ _ _ _ h hx q,h.rt,h.bk,h.ct⟩ hx q
 |.expr e,N,N',U,g,E,E',h,hx,q=>a9 hP e _ _ _ _ _ _ (λx g1 q=>h.nx _ _ q) hx q
 |.set i e,N,N',U,g,E,E',h,hx,q=>a9 hP e _ _ _ _ _ _ (λx g1 q=>h.nx _ _ q) hx q
 |.mr t e,N,N',U,g,E,E',h,hx,q=>a9 hP e _ _ _ _ _ _ (λx g1 q=>J7 (λU q=>h.nx _ _ q) q) hx q
 |.mV i j e,N,N',U,g,E,E',h,hx,q=>a9 hP e _ _ _ _ _ _ (λx g1 ⟨a,y,l,e1,e2,q⟩=>⟨a,y,l,e1,e2,h.nx _ _ q⟩) hx q
 |.eE o i v,N,N',U,g,E,E',h,hx,q=>a9 hP v _ _ _ _ _ _ (λx g1 q=>a9 hP o _ _ _ _ _ _ (λy g2 q=>a9 hP i _ _ _ _ _ _ (λz g3 q=>O8 (λg q=>h.nx _ _ q) q) hx q) hx q) hx q
 |.mZ f cs o v,N,N',U,g,E,E',h,hx,q=>a9 hP v _ _ _ _ _ _ (λx g1 q=>a9 hP o _ _ _ _ _ _ (λy g2 q=>WL (λg q=>h.nx _ _ q) q) hx q) hx q
 |.uX o1 i1 o2 i2 e,N,N',U,g,E,E',h,hx,q=>a9 hP e _ _ _ _ _ _ (λx g1 q=>let ⟨u,v,q1,q⟩:=q;⟨u,v,q1,a9 hP o1 _ _ _ _ _ _ (λy g2 q=>a9 hP i1 _ _ _ _ _ _ (λz g3 q=>O8 (λg4 q=>a9 hP o2 _ _ _ _ _ _ (λy g5 q=>a9 hP i2 _ _ _ _ _ _ (λz g6 q=>O8 (λg q=>h.nx _ _ q) q) hx q) hx q) q) hx q) hx q⟩) hx q
 |.uf i p v,N,N',U,g,E,E',h,hx,q=>let ⟨x,q1,q⟩:=q;⟨x,q1,a9 hP v _ _ _ _ _ _ (λz g1 q=>l7 (λw g2 q=>h.nx _ _ q) q) hx q⟩
 |.ifs c a b,N,N',U,g,E,E',h,hx,q=>q9 hP c _ _ _ _ _ _ (λt g1 q=>B5 (λq=>wpS_mono hP a _ _ _ _ _ _ h hx q) (λq=>wpS_mono hP b _ _ _ _ _ _ h hx q) q) hx q
 |.jN t it b,N,N',U,g,E,E',h,hx,q=>E0 hP it _ _ _ _ _ _ (λk g1 q=>WR h.nx (λx N2 U g q=>J7 (λdz q=>wpS_mono hP b { N with nx:=N2,ct:=N2,bk:=N.nx } { N' with nx:=N2,ct:=N2,bk:=N'.nx } _ _ _ _ ⟨λ_ _ z=>z,h.rt,h.nx,λ_ _ z=>z⟩ hx q) q) q) hx q
 |.rC c b,N,N',U,g,E,E',h,hx,q=>by
  obtain⟨W,w0,q⟩:=q;refine⟨W,w0,λm U g w=>q9 hP c _ _ _ _ _ _ (λt g1 q=>B5 (λq=>?_) (h.nx _ _) q) hx (q m U g w)⟩;obtain⟨N2,a,q⟩:=q;exact⟨N2,a,wpS_mono hP b { N with nx:=N2,ct:=N2,bk:=N.nx } { N' with nx:=N2,ct:=N2,bk:=N'.nx } _ _ _ _ ⟨λ_ _ z=>z,h.rt,h.nx,λ_ _ z=>z⟩ hx q⟩
 |.ret e,N,N',U,g,E,E',h,hx,q=>a9 hP e _ _ _ _ _ _ h.rt hx q
 |.oO,N,N',U,g,E,E',h,hx,q=>h.rt _ _ q
 |.brk,N,N',U,g,E,E',h,hx,q=>h.bk _ _ q
 |.cont,N,N',U,g,E,E',h,hx,q=>h.ct _ _ q
 |.raise x es,N,N',U,g,E,E',h,hx,q=>r9 hP es _ _ _ _ _ _ (λvs g1 q=>⟨q.1,hx _ _ q.2⟩) hx q
 |.V3 b hs,N,N',U,g,E,E',h,hx,q=>wpS_mono hP b _ _ _ _ _ _ h (λx g q=>Fb hP h hx hs x g q) q
 |.raiser es,N,N',U,g,E,E',h,hx,q=>r9 hP es _ _ _ _ _ _ (λvs g1 ⟨n,a,b⟩=>⟨n,a,hx _ _ b⟩) hx q
 |.lN e,N,N',U,g,E,E',h,hx,q=>a9 hP e _ _ _ _ _ _ h.rt (λx g1 z=>z.imp (λ⟨n,a,b⟩=>⟨n,a,h.rt _ _ b⟩) λ⟨a,b⟩=>⟨a,hx _ _ b⟩) q
theorem d9(T:Nat->Option bN):∀k,i4 (d4 T k)
 |0=>λf xs g Q Q' E E' h hx q=>q.elim
 |k+1=>λf xs g Q Q' E E' h hx q=>by
  obtain⟨m,a,b,q⟩:=q;exact⟨m,a,b,wpS_mono (d9 T k) m.body ⟨λ_ g'=>Q .bA g',Q,λ_ _=>False,λ_ _=>False⟩ _ _ _ _ _ ⟨λ_ _ z=>h _ _ z,h,λ_ _ z=>z,λ_ _ z=>z⟩ hx q⟩
def TupAt(K:PySem.W.Frag)(H:Hp)(a:Addr)(vs:List V):Prop :=
 H a=some (.tup vs)\/∃(o:Obj) (bf:Array Value) (n:Nat),K.lookup a=some o/\o.cls=.type "tuple"/\o.dict=none/\o.data=.seq bf n/\bf.size<=sizeLine/\Vals vs bf.toList
theorem TupAt.d(h:TupAt K H a vs):Bz K H a vs:=h
theorem TupAt.sq{K:PySem.W.Frag}{H:Hp}{a:Addr}{vs:List V}(h:TupAt K H a vs):iw K H a vs:=h.d.sq
mutual
inductive c9(K:PySem.W.Frag)(ρ:List Addr)(H:Hp):D->V->Prop
 |bA:c9 K ρ H .bA .bA
 |bl (b:Bool):c9 K ρ H (.bl b) (.bl b)
 |int (i:Int):c9 K ρ H (.int i) (.int i)
 |str (x:Str):c9 K ρ H (.str x) (.str x)
 |ty (n:String):c9 K ρ H (.ty n) (.ty n)
 |ref {i:Nat} {a:Addr} (h:ρ[i]?=some a):c9 K ρ H (.ref i) (.ref a)
 |tup {l:List D} {a:Addr} {vs:List V} (h:TupAt K H a vs) (r:a8 K ρ H l vs):c9 K ρ H (.tup l) (.ref a)
inductive a8(K:PySem.W.Frag)(ρ:List Addr)(H:Hp):List D->List V->Prop
 |nil:a8 K ρ H [] []
 |cons {d:D} {v:V} {ds:List D} {vs:List V} (h:c9 K ρ H d v) (r:a8 K ρ H ds vs):a8 K ρ H (d::ds) (v::vs)
end
structure Ext(ρ:List Addr)(H:Hp)(bP:List Addr)(H':Hp):Prop where
 pre:∃more,bP=ρ++more
 tup:∀a xs,H a=some (.tup xs)->H' a=some (.tup xs)
theorem Ext.refl(ρ:List Addr)(H:Hp):Ext ρ H ρ H:=⟨⟨[],by simp⟩,λ_ _ h=>h⟩
theorem Ext.trans{ρ H cc H1 fC H2}(a:Ext ρ H cc H1)(b:Ext cc H1 fC H2):Ext ρ H fC H2:=by
 obtain⟨⟨m,rfl⟩,t⟩:=a;obtain⟨⟨m',rfl⟩,t'⟩:=b;exact⟨⟨m++m',by simp⟩,λx xs h=>t' _ _ (t _ _ h)⟩
theorem Ext.get{ρ H bP H'}(e:Ext ρ H bP H')(h:ρ[i]?=some a):bP[i]?=some a:=by
 obtain⟨⟨m,rfl⟩,_⟩:=e;rw[aK (ax.mp h).1];exact h
theorem TupAt.ext{K ρ H bP H'}(e:Ext ρ H bP H'){a:Addr}{vs:List V}(h:TupAt K H a vs):TupAt K H' a vs:=h.elim (λz=>.inl (e.tup _ _ z)) .inr
mutual
theorem c9.ext{K ρ H bP H'}(e:Ext ρ H bP H'):∀{d v},c9 K ρ H d v->c9 K bP H' d v
 |_,_,.bA=>.bA
 |_,_,.bl b=>.bl b
 |_,_,.int i=>.int i
 |_,_,.str x=>.str x
 |_,_,.ty n=>.ty n
 |_,_,.ref h=>.ref (e.get h)
 |_,_,.tup h r=>.tup (h.ext e) (a8.ext e r)
theorem a8.ext{K ρ H bP H'}(e:Ext ρ H bP H'):∀{ds vs},a8 K ρ H ds vs->a8 K bP H' ds vs
 |_,_,.nil=>.nil
 |_,_,.cons h r=>.cons (c9.ext e h) (a8.ext e r)
end
theorem a8.length{K ρ H}{ds:List D}{vs:List V}(h:a8 K ρ H ds vs):ds.length=vs.length:=by
 induction ds generalizing vs with
 |nil=>cases h;rfl
 |cons d ds ih =>
  cases h with
  |cons q r=>simp[ih r]
theorem a8.get{K ρ H}:∀{ds vs} {i:Nat} {d:D},a8 K ρ H ds vs->ds[i]?=some d->∃v,vs[i]?=some v/\c9 K ρ H d v
 |_,_,_,_,.nil,h=>by simp at h
 |_,_,0,_,.cons h _,e=>by simp at e;subst e;exact⟨_,rfl,h⟩
 |_,_,i+1,d,.cons _ r,e=>by
  obtain⟨v,h1,h2⟩:=a8.get r (by simpa using e);exact⟨v,by simpa using h1,h2⟩
theorem a8.set{K ρ H}{d:D}{v:V}(h:c9 K ρ H d v):∀{ds vs} (i:Nat),a8 K ρ H ds vs->a8 K ρ H (ds.set i d) (vs.set i v)
 |_,_,_,.nil=>.nil
 |_,_,0,.cons _ r=>.cons h r
 |_,_,i+1,.cons q r=>.cons q (a8.set h i r)
theorem a8.append{K ρ H}{ds es:List D}{ws:List V}(h:a8 K ρ H ds vs)(s:a8 K ρ H es ws):a8 K ρ H (ds++es) (vs++ws):=by
 induction ds generalizing vs with
 |nil=>cases h;exact s
 |cons d ds ih =>
  cases h with
  |cons q r=>exact .cons q (ih r)
theorem a8.erase{K ρ H}:∀{ds:List D} {vs:List V} (i:Nat),a8 K ρ H ds vs->a8 K ρ H (ds.eraseIdx i) (vs.eraseIdx i)
 |_,_,_,.nil=>.nil
 |_,_,0,.cons _ r=>r
 |_,_,i+1,.cons q r=>.cons q (a8.erase i r)
theorem a8.take{K ρ H}:∀{ds:List D} {vs:List V} (n:Nat),a8 K ρ H ds vs->a8 K ρ H (ds.take n) (vs.take n)
 |_,_,0,_=>.nil
 |_,_,_+1,.nil=>.nil
 |_,_,n+1,.cons h r=>.cons h (a8.take n r)
theorem a8.drop{K ρ H}:∀{ds:List D} {vs:List V} (n:Nat),a8 K ρ H ds vs->a8 K ρ H (ds.drop n) (vs.drop n)
 |_,_,0,r=>r
 |_,_,_+1,.nil=>.nil
 |_,_,n+1,.cons _ r=>a8.drop n r
theorem a8.reverse{K ρ H}:∀{ds:List D} {vs:List V},a8 K ρ H ds vs->a8 K ρ H ds.reverse vs.reverse
 |_,_,.nil=>.nil
 |_,_,.cons h r=>by
  rw[gF,gF];exact a8.append (a8.reverse r) (.cons h .nil)
theorem a8.cut{K ρ H}{ds:List D}{vs:List V}(r:a8 K ρ H ds vs)(lo hi:Option Int):a8 K ρ H (M.cut ds lo hi) (U0 vs lo hi):=by
 unfold M.cut U0;rw[r.length];exact(r.drop _).take _
theorem a8.ints{K ρ H}:∀{ns:List Int} {vs:List V},a8 K ρ H (ns.map D.int) vs->vs=ns.map V.int
 |[],_,.nil=>rfl
 |_::_,_,.cons h r=>by cases h;rw[a8.ints r];rfl
theorem a8.ofInts{K ρ H}:∀(ns:List Int),a8 K ρ H (ns.map D.int) (ns.map V.int)
 |[]=>.nil
 |n::r=>.cons (.int n) (a8.ofInts r)
def qK(K:PySem.W.Frag)(H:Hp)(a:Addr)(vs:List V):Prop :=
 (∃o,H a=some (.jm o (.lst vs)))\/∃(o:Obj) (bf:Array Value) (n:Nat),K.lookup a=some o/\o.cls=.type "list"/\o.dict=none/\o.data=.seq bf n/\bf.size<=sizeLine/\Vals vs bf.toList
theorem qK.sq(h:qK K H a vs):gs K H a vs:=h.elim (λ⟨o,z⟩=>.inl (.inr ⟨o,z⟩)) .inr
inductive f6{α:Type}(K:PySem.W.Frag)(ρ:List Addr)(H:Hp):List (α×D)->List (α×V)->Prop
 |nil:f6 K ρ H [] []
 |cons {k:α} {d:D} {v:V} {ds:List (α×D)} {vs:List (α×V)} (h:c9 K ρ H d v) (r:f6 K ρ H ds vs):f6 K ρ H ((k,d)::ds) ((k,v)::vs)
theorem f6.ext{α:Type}{K ρ H bP H'}(e:Ext ρ H bP H'){ds:List (α×D)}{vs:List (α×V)}(h:f6 K ρ H ds vs):f6 K bP H' ds vs:=by
 induction h with
 |nil=>exact .nil
 |cons h r ih=>exact .cons (h.ext e) ih
theorem f6.drop{K ρ H}{ds:List (Key×D)}{vs:List (Key×V)}(k:Key)(h:f6 K ρ H ds vs):f6 K ρ H (delD ds k) (vR vs k):=by
 unfold delD vR
 induction h with
 |nil=>exact .nil
 |cons h r ih =>
  rw[gX,gX];split
  ·exact .cons h ih
  ·exact ih
theorem f6.get{α:Type}{K ρ H}{ds:List (α×D)}{vs:List (α×V)}(h:f6 K ρ H ds vs):∀{i:Nat} {k:α} {d:D},ds[i]?=some (k,d)->∃v,vs[i]?=some (k,v)/\c9 K ρ H d v:=by
 induction h with
 |nil=>intro i k d e;simp at e
 |cons h r ih =>
  intro i k d e;cases i with
  |zero=>simp at e;obtain⟨rfl,rfl⟩:=e;exact⟨_,rfl,h⟩
  |succ i=>simpa using ih (by simpa using e)
theorem f6.length{α:Type}{K ρ H}{ds:List (α×D)}{vs:List (α×V)}(h:f6 K ρ H ds vs):ds.length=vs.length:=by
 induction h with
 |nil=>rfl
 |cons h r ih=>simp[ih]
def U4(K:PySem.W.Frag)(ρ:List Addr)(H:Hp):Option D->Option V->Prop
 |some d,some v=>c9 K ρ H d v
 |none,none=>True
 |_,_=>False
theorem f6.val{K ρ H}:∀{ds vs} (k:Key),f6 K ρ H ds vs->U4 K ρ H (qJ ds k) (J5 vs k)
 |_,_,k,.nil=>trivial
 |_,_,k,.cons (k:=k') h r=>by
  unfold qJ J5;rw[List.find?_cons,List.find?_cons];by_cases e:k'=k
  ·simp only[e,decide_true];exact h
  ·simp only[e,decide_false];exact f6.val k r
theorem f6.El{K ρ H}:∀{ds vs} (k:Key),f6 K ρ H ds vs->(ds.any λkv=>decide (kv.1=k))=(vs.any λkv=>decide (kv.1=k))
 |_,_,k,.nil=>rfl
 |_,_,k,.cons h r=>by simp only[List.any_cons,f6.El k r]
theorem f6.snoc{K ρ H}{k:Key}{d:D}{v:V}(h:c9 K ρ H d v){ds vs}(t:f6 K ρ H ds vs):f6 K ρ H (ds++[(k,d)]) (vs++[(k,v)]):=by
 induction ds generalizing vs with
 |nil=>cases t;exact .cons h .nil
 |cons d ds ih =>
  cases t with
  |cons q r=>exact .cons q (ih r)
theorem f6.zE{K ρ H}{k:Key}{d:D}{v:V}(h:c9 K ρ H d v):∀{ds vs},f6 K ρ H ds vs->f6 K ρ H (ds.map λkv=>if kv.1=k then(kv.1,d) else kv) (vs.map λkv=>if kv.1=k then(kv.1,v) else kv)
 |_,_,.nil=>.nil
 |_,_,.cons (k:=k') q r=>by
  simp only[List.map_cons];by_cases e:k'=k
  ·rw[aF e,aF e];exact .cons h (f6.zE h r)
  ·rw[aA e,aA e];exact .cons q (f6.zE h r)
theorem f6.put{K ρ H}{k:Key}{d:D}{v:V}(h:c9 K ρ H d v){ds vs}(r:f6 K ρ H ds vs):f6 K ρ H (putD ds k d) (putK vs k v):=by
 unfold putD putK;rw[r.El k];split
 ·exact r.zE h
 ·exact r.snoc h
noncomputable abbrev f9(K:PySem.W.Frag)(x:Str)(C:Addr):Prop:=PySem.W.nsIn K mainGlobals x=some (some (.ref C))
theorem f6.look{K ρ H}{ds:List (Str×D)}{vs:List (Str×V)}(f:Str)(h:f6 K ρ H ds vs):U4 K ρ H (ds.lookup f) (vs.lookup f):=by
 induction h with
 |nil=>trivial
 |cons h r ih =>
  rename_i k d v ds vs;rw[dj,dj];cases f==k
  ·exact ih
  ·exact h
theorem f6.s9{K ρ H}{f:Str}{d:D}{v:V}(h:c9 K ρ H d v){ds:List (Str×D)}{vs:List (Str×V)}(r:f6 K ρ H ds vs):f6 K ρ H (O9 f d ds) (L2.s9 f v vs):=by
 induction r with
 |nil=>exact .cons h .nil
 |cons q r ih =>
  unfold O9 L2.s9;split
  ·exact .cons h r
  ·exact .cons q ih
theorem FR{f:Str}{d:D}{p:Str->Prop}(hf:p f):∀{ds:List (Str×D)},(∀x∈ds,p x.1)->∀x∈O9 f d ds,p x.1
 |[],_,x,hx=>by
  have:x=(f,d):=by simpa[O9] using hx
  simp_all
 |(k,e)::r,h,x,hx=>by
  unfold O9 at hx;split at hx
  ·rcases aB.mp hx with z|z
   ·rw[z];exact h (k,e) (by simp)
   ·exact h x (by simp[z])
  ·rcases aB.mp hx with z|z
   ·rw[z];exact h (k,e) (by simp)
   ·exact FR hf (λy hy=>h y (by simp[hy])) x z
def OH(K:PySem.W.Frag)(ρ:List Addr)(H:Hp):O->HO->Prop
 |.lst l,.lst vs=>a8 K ρ H l vs
 |.iP aU,.dK vs=>f6 K ρ H aU vs
 |.set S n,.set S' n'=>S=S'/\n=n'
 |.ins c fs,.ins C _ vs=>f9 K c C/\ju K C/\f6 K ρ H fs vs/\∀x∈fs,w6 K C x.1
 |_,_=>False
theorem OH.ext{K ρ H bP H'}(e:Ext ρ H bP H'){o:O}{u:HO}(h:OH K ρ H o u):OH K bP H' o u:=by
 cases o<;>cases u<;>first|exact h.elim|exact a8.ext e h|exact f6.ext e h|exact⟨h.1,h.2.1,h.2.2.1.ext e,h.2.2.2⟩|exact h
theorem OH.S9{K ρ H}{xs:List V}(h:OH K ρ H o (.tup xs)):False:=by cases o<;>exact h
theorem OH.SR{K ρ H}{ob:Obj}(h:OH K ρ H o (.jm ob u)):False:=by cases o<;>exact h
def C5(K:PySem.W.Frag)(ρ:List Addr)(H:Hp)(o:O)(a:Addr):Prop:=match o with
 |.nC l=>∃vs,qK K H a vs/\a8 K ρ H l vs
 |o=>∃u,H a=some u/\OH K ρ H o u
theorem C5.of{K ρ H}(hu:H a=some u)(h:OH K ρ H o u):C5 K ρ H o a:=by
 cases o<;>first|exact⟨u,hu,h⟩|(cases u<;>exact h.elim)
theorem C5.inv{K ρ H}(m:o.mut=true)(h:C5 K ρ H o a):∃u,H a=some u/\OH K ρ H o u:=by
 cases o<;>first|exact h|cases m
theorem C5.lst{K ρ H}{l:List D}{a:Addr}(h:C5 K ρ H (.lst l) a):∃vs,H a=some (.lst vs)/\a8 K ρ H l vs:=by
 obtain⟨u,h1,h2⟩:=h;cases u<;>first|exact⟨_,h1,h2⟩|exact h2.elim
theorem C5.iP{K ρ H}{l:List (Key×D)}{a:Addr}(h:C5 K ρ H (.iP l) a):∃vs,H a=some (.dK vs)/\f6 K ρ H l vs:=by
 obtain⟨u,h1,h2⟩:=h;cases u<;>first|exact⟨_,h1,h2⟩|exact h2.elim
theorem C5.set{K ρ H}{S:Int->Bool}{n:Nat}{a:Addr}(h:C5 K ρ H (.set S n) a):H a=some (.set S n):=by
 obtain⟨u,h1,h2⟩:=h;cases u<;>first|(obtain⟨rfl,rfl⟩:=(show _/\_ from h2);exact h1)|exact h2.elim
theorem C5.ins{K ρ H}{c:Str}{fs:List (Str×D)}{a:Addr}(h:C5 K ρ H (.ins c fs) a):∃C dx vs,H a=some (.ins C dx vs)/\f9 K c C/\ju K C/\f6 K ρ H fs vs/\∀x∈fs,w6 K C x.1:=by
 obtain⟨u,h1,h2⟩:=h;cases u<;>first|exact⟨_,_,_,h1,h2⟩|exact h2.elim
structure Rl(K:PySem.W.Frag)(ρ:List Addr)(g:G)(H:Hp):Prop where
 len:ρ.length=g.length
 obj:∀(i:Nat) o a,g[i]?=some o->ρ[i]?=some a->C5 K ρ H o a
 nd:∀(i j:Nat) o o' a,g[i]?=some o->g[j]?=some o'->o.mut=true->o'.mut=true->ρ[i]?=some a->ρ[j]?=some a->i=j
section
variable{ρ:List Addr}
theorem Rl.lst(R:Rl K ρ g H){i:Nat}{l:List D}{a:Addr}(h:g[i]?=some (.lst l))(ha:ρ[i]?=some a):∃vs,H a=some (.lst vs)/\a8 K ρ H l vs:=(R.obj _ _ _ h ha).lst
theorem Rl.iP(R:Rl K ρ g H){i:Nat}{l:List (Key×D)}{a:Addr}(h:g[i]?=some (.iP l))(ha:ρ[i]?=some a):∃vs,H a=some (.dK vs)/\f6 K ρ H l vs:=(R.obj _ _ _ h ha).iP
theorem Rl.set(R:Rl K ρ g H){i:Nat}{S:Int->Bool}{n:Nat}{a:Addr}(h:g[i]?=some (.set S n))(ha:ρ[i]?=some a):H a=some (.set S n):=(R.obj _ _ _ h ha).set
theorem Rl.ins(R:Rl K ρ g H){i:Nat}{c:Str}{fs:List (Str×D)}{a:Addr}(h:g[i]?=some (.ins c fs))(ha:ρ[i]?=some a):∃C dx vs,H a=some (.ins C dx vs)/\f9 K c C/\ju K C/\f6 K ρ H fs vs/\∀x∈fs,w6 K C x.1:=(R.obj _ _ _ h ha).ins
theorem Rl.items(R:Rl K ρ g H)(h:c8 g i=some l)(ha:ρ[i]?=some a):∃vs,gs K H a vs/\a8 K ρ H l vs:=by
 cases e:g[i]? with
 |none=>rw[c8,e] at h;cases h
 |some o =>
  rw[c8,e] at h;have q:=R.obj _ _ _ e ha;cases o with
  |lst m=>cases h;obtain⟨vs,z,r⟩:=q.lst;exact⟨vs,gs.of z,r⟩
  |nC m=>cases h;obtain⟨vs,z,r⟩:=q;exact⟨vs,z.sq,r⟩
  |_=>cases h
theorem p8{o:HO}(hp:H p=none):Ext ρ H ρ (upd H p o):=⟨⟨[],by simp⟩,λa xs h=>by rw[c7 (i7 h hp)];exact h⟩
theorem qK.upd{p a:Addr}{o:HO}{vs:List V}(h:qK K H a vs)(hp:∀ob u,H p≠some (.jm ob u)):qK K (upd H p o) a vs:=by
 rcases h with⟨ob,z⟩|z
 ·refine .inl ⟨ob,?_⟩;rw[c7 ?_]
  ·exact z
  ·intro e;subst e;exact hp _ _ z
 ·exact .inr z
theorem C5.upd{p a:Addr}{o:O}{u:HO}{bP:List Addr}(h:C5 K ρ H o a)(gM:o.mut=true->a≠p)(hp:∀ob u,H p≠some (.jm ob u))(e:Ext ρ H bP (L2.upd H p u)):C5 K bP (L2.upd H p u) o a:=by
 cases hm:o.mut with
 |true =>
  obtain⟨u',h1,h2⟩:=h.inv hm;exact .of (by rw[c7 (gM hm)];exact h1) (h2.ext e)
 |false =>
  cases o<;>first|cases hm|skip
  obtain⟨vs,z,r⟩:=h;exact⟨vs,z.upd hp,r.ext e⟩
theorem Rl.grow{o:HO}(R:Rl K ρ g H)(hp:H p=none):Rl K ρ g (upd H p o):=by
 have e:Ext ρ H ρ (upd H p o):=p8 hp;refine⟨R.len,λi ob a h1 h2=>?_,R.nd⟩;have q:=R.obj _ _ _ h1 h2;refine q.upd (λhm=>?_) (λob u z=>by simp_all) e;obtain⟨u,h1,_⟩:=q.inv hm;exact i7 h1 hp
theorem Rl.x8(R:Rl K ρ g H)(p:Addr):(ρ++[p])[g.length]?=some p:=by rw[<- R.len];simp
theorem K0{o:HO}(hp:H p=none):Ext ρ H (ρ++[p]) (upd H p o):=⟨⟨[p],rfl⟩,(p8 (ρ:=ρ) hp).tup⟩
theorem Rl.new(R:Rl K ρ g H)(hp:H p=none)(r:OH K ρ H o u):Rl K (ρ++[p]) (g++[o]) (upd H p u):=by
 have e:Ext ρ H (ρ++[p]) (upd H p u):=K0 hp;have old:∀{i:Nat} {ob:O} {a:Addr},g[i]?=some ob->(ρ++[p])[i]?=some a->ρ[i]?=some a:=λ{i ob a} h1 h2=>by
  rw[aK (by rw[R.len];exact(ax.mp h1).1)] at h2;exact h2
 have split:∀{i:Nat} {ob:O},(g++[o])[i]?=some ob->g[i]?=some ob\/(i=g.length/\ob=o):=λ{i ob} h=>by
  rcases kc i g.length with q|q|q
  ·rw[aK q] at h;exact .inl h
  ·subst q;simp at h;exact .inr ⟨rfl,h.symm⟩
  ·rw[iK (by simp;omega)] at h;cases h
 refine⟨by simp[R.len],λi ob a h1 h2=>?_,λi j o1 o2 a h1 h2 m1 m2 h3 h4=>?_⟩
 ·rcases split h1 with q|⟨rfl,rfl⟩
  ·have z:=R.obj _ _ _ q (old q h2);refine z.upd (λhm=>?_) (λob u z=>by simp_all) e;obtain⟨u,h1,_⟩:=z.inv hm;exact i7 h1 hp
  ·rw[R.x8] at h2;cases h2;exact .of i3 (r.ext e)
 ·have nq:∀{i:Nat} {o:O} {a:Addr},g[i]?=some o->o.mut=true->ρ[i]?=some a->a≠p:=λ{i o a} h1 hm h2=>by
   obtain⟨u,z,_⟩:=(R.obj _ _ _ h1 h2).inv hm;exact i7 z hp
  rcases split h1 with q|⟨rfl,_⟩
  ·rcases split h2 with q'|⟨rfl,_⟩
   ·exact R.nd _ _ _ _ _ q q' m1 m2 (old q h3) (old q' h4)
   ·rw[R.x8] at h4;cases h4;exact absurd rfl (nq q m1 (old q h3))
  ·rcases split h2 with q'|⟨rfl,_⟩
   ·rw[R.x8] at h3;cases h3;exact absurd rfl (nq q' m2 (old q' h4))
   ·rfl
theorem Rl.alloc(R:Rl K ρ g H)(hp:H p=none)(r:a8 K ρ H l vs):Rl K (ρ++[p]) (g++[.lst l]) (upd H p (.lst vs)):=R.new hp r
theorem Rl.put{o':O}(R:Rl K ρ g H)(h:g[i]?=some o)(hm:o.mut=true)(ha:ρ[i]?=some a)(r:OH K ρ H o' u) :
  Rl K ρ (g.set i o') (upd H a u)/\Ext ρ H ρ (upd H a u):=by
 obtain⟨u0,z0,Co⟩:=(R.obj _ _ _ h ha).inv hm;have e:Ext ρ H ρ (upd H a u):=⟨⟨[],by simp⟩,λb xs q=>by rw[c7];exact q;intro z;subst z;rw[z0] at q;cases q;exact Co.S9⟩
 refine⟨⟨by simp[R.len],λj ob b h1 h2=>?_,λj k o1 o2 b h1 h2 m1 m2 h3 h4=>?_⟩,e⟩
 ·by_cases iu:i=j
  ·subst iu;rw[ha] at h2;cases h2;have hi:=(ax.mp h).1;rw[aR hi] at h1;cases h1;exact .of i3 (r.ext e)
  ·rw[aO iu] at h1;refine(R.obj _ _ _ h1 h2).upd (λoY ez=>?_) (λob u z=>by rw[z0] at z;cases z;exact Co.SR) e;subst ez;exact iu (R.nd _ _ _ _ _ h h1 hm oY ha h2)
 ·have back:∀{j:Nat} {m:O},(g.set i o')[j]?=some m->m.mut=true->∃m',g[j]?=some m'/\m'.mut=true:=λ{j m} q oY=>by
   by_cases iu:i=j
   ·subst iu;exact⟨o,h,hm⟩
   ·rw[aO iu] at q;exact⟨m,q,oY⟩
  obtain⟨_,q1,n1⟩:=back h1 m1;obtain⟨_,q2,n2⟩:=back h2 m2;exact R.nd _ _ _ _ _ q1 q2 n1 n2 h3 h4
theorem Rl.write{l':List D}(R:Rl K ρ g H)(h:g[i]?=some (.lst l))(ha:ρ[i]?=some a)(r:a8 K ρ H l' vs) :
  Rl K ρ (g.set i (.lst l')) (upd H a (.lst vs))/\Ext ρ H ρ (upd H a (.lst vs)):=R.put h rfl ha r
end
structure l0(K:PySem.W.Frag)(ρ:List Addr)(H:Hp)(U:S)(cb:St):Prop where
 len:U.length=cb.length
 val:∀(i:Nat) d,U[i]?=some (some d)->∃v,cb[i]?=some (some v)/\c9 K ρ H d v
section
variable{ρ bP:List Addr}{H':Hp}
theorem l0.ext{U cb}(e:Ext ρ H bP H')(r:l0 K ρ H U cb):l0 K bP H' U cb:=⟨r.len,λi d h=>let ⟨v,a,b⟩:=r.val i d h;⟨v,a,b.ext e⟩⟩
theorem l0.set{U cb d v}(r:l0 K ρ H U cb)(i:Nat)(h:c9 K ρ H d v):l0 K ρ H (U.set i (some d)) (cb.set i (some v)):=by
 refine⟨by simp[r.len],λj e q=>?_⟩;by_cases iu:i=j
 ·subst iu;have hi:i<U.length:=by
   have:=(ax.mp q).1
   simp_all
  rw[aR hi] at q;cases q;exact⟨v,by rw[aR (by rw[<- r.len];exact hi)],h⟩
 ·rw[aO iu] at q ⊢;exact r.val j e q
theorem l0.start{ds vs}{n:Nat}(r:a8 K ρ H ds vs):l0 K ρ H (ds.map some++List.replicate (n-ds.length) none) (vs.map some++List.replicate (n-vs.length) none):=by
 refine⟨by simp[r.length],λi d h=>?_⟩;by_cases hi:i<ds.length
 ·rw[aK (by simpa using hi),aP] at h;cases e:ds[i]? with
  |none=>rw[e] at h;cases h
  |some x =>
   rw[e] at h;cases h;obtain⟨v,h1,h2⟩:=r.get e;refine⟨v,?_,h2⟩;rw[aK (by rw[av,<- r.length];exact hi),aP,h1]
   rfl
 ·rw[dH (by simpa using hi),cg] at h;split at h<;>cases h
theorem l0.d5{U cb}(r:l0 K ρ H U cb)(d5:List Nat)(n:Nat):l0 K ρ H (P7 U d5 n) (B7 cb d5 n):=by
 refine⟨by simp[P7,B7],λi d h=>?_⟩;unfold P7 at h;unfold B7;by_cases hi:i<d5.length
 ·rw[aK (by simpa using hi),aP,az hi] at h;rw[aK (by simpa using hi),aP,az hi];simp only[Option.map_some] at h ⊢;cases e:U[d5[i]]? with
  |none=>simp_all
  |some x =>
   rw[e] at h;have hx:=aq h;subst hx;obtain⟨v,h1,h2⟩:=r.val _ _ e;exact⟨v,by rw[h1];rfl,h2⟩
 ·rw[dH (by simpa using hi),cg] at h;split at h<;>cases h
end
end M
namespace M
open PySem L2 PySem.Spec PyProof.Rows
variable{g:G}{l:List D}{vs:List V}{b:Bool}{d:D}{X:Cx}{ρ:List Addr}{H:Hp}{U:L2.St}{s:Shared}{v x:V}
def LQ(K:PySem.W.Frag)(ρ:List Addr)(H:Hp)(Q:VK):KD:=λd g'=>∀bP H' v,Ext ρ H bP H'->Rl K bP g' H'->c9 K bP H' d v->Q v H'
theorem LQ.ext{K ρ H cc H1 Q d g}(e:Ext ρ H cc H1)(h:LQ K ρ H Q d g):LQ K cc H1 Q d g:=λbP H' v e' R r=>h bP H' v (e.trans e') R r
theorem LQ.now{K ρ H Q d g v}(h:LQ K ρ H Q d g)(R:Rl K ρ g H)(r:c9 K ρ H d v):Q v H:=h ρ H v (.refl _ _) R r
theorem LQ.new{K ρ H Q}{p:Addr}(h:LQ K ρ H Q (.ref g.length) (g++[.lst l]))(R:Rl K ρ g H)(hp:H p=none)(r:a8 K ρ H l vs):Q (.ref p) (upd H p (.lst vs)) :=
 h (ρ++[p]) _ _ (K0 hp) (R.alloc hp r) (.ref (R.x8 p))
theorem LQ.tup{K ρ H Q}{g:G}{l:List D}{vs:List V}{p:Addr}(h:LQ K ρ H Q (.tup l) g)(R:Rl K ρ g H)(hp:H p=none)(r:a8 K ρ H l vs):Q (.ref p) (upd H p (.tup vs)) :=
 h ρ _ _ (p8 hp) (R.grow hp) (.tup (.inl i3) (r.ext (p8 hp)))
def r2(K:PySem.W.Frag)(p:Pr):R2:=λx y H Q=>∃d e g ρ,Rl K ρ g H/\c9 K ρ H d x/\c9 K ρ H e y/\cN p [d,e] g (LQ K ρ H Q)
def r1(K:PySem.W.Frag)(p:Pr):V->Hp->VK->Prop:=λx H Q=>∃d g ρ,Rl K ρ g H/\c9 K ρ H d x/\cN p [d] g (LQ K ρ H Q)
def rN(K:PySem.W.Frag)(p:Pr):List V->Hp->VK->Prop:=λxs H Q=>∃ds g ρ,Rl K ρ g H/\a8 K ρ H ds xs/\cN p ds g (LQ K ρ H Q)
theorem i9{n:Nat}(h:n<=100000):n<=sizeLine:=aD h ∅
theorem wL{n:Nat}(h:n<100000):n<sizeLine:=au h ∅
theorem c9.j0{K ρ H i v}(h:c9 K ρ H (.int i) v):v=.int i:=by cases h;rfl
theorem c9.j5{K ρ H i v}(h:c9 K ρ H (.str i) v):v=.str i:=by cases h;rfl
theorem c9.F9{K ρ H i v}(h:c9 K ρ H (.bl i) v):v=.bl i:=by cases h;rfl
theorem c9.wy{K ρ H v}(h:c9 K ρ H .bA v):v=.bA:=by cases h;rfl
theorem c9.LU{K ρ H n v}(h:c9 K ρ H (.ty n) v):v=.ty n:=by cases h;rfl
theorem c9.j7{K ρ H i v}(h:c9 K ρ H (.ref i) v):∃a,v=.ref a/\ρ[i]?=some a:=by cases h;exact⟨_,rfl,by assumption⟩
theorem c9.N4{K ρ H l v}(h:c9 K ρ H (.tup l) v):∃a vs,v=.ref a/\TupAt K H a vs/\a8 K ρ H l vs:=by cases h;exact⟨_,_,rfl,by assumption,by assumption⟩
theorem a8.one{K ρ H d vs}(h:a8 K ρ H [d] vs):∃v,vs=[v]/\c9 K ρ H d v:=by
 cases h with
 |cons r rr=>cases rr;exact⟨_,rfl,r⟩
theorem a8.two{K ρ H d e vs}(h:a8 K ρ H [d,e] vs):∃v w,vs=[v,w]/\c9 K ρ H d v/\c9 K ρ H e w:=by
 cases h with
 |cons r rr=>obtain⟨w,rfl,q⟩:=rr.one;exact⟨_,_,rfl,r,q⟩
theorem E6{a b c:D}(h:[a,b]=[c,d]):a=c/\b=d:=by cases h;exact⟨rfl,rfl⟩
section
theorem MX(op:Operator):fF X (binaryOp op) (r2 X.K (.bin op)):=by
 intro pins s U H x y v u Q I rx ry h;obtain⟨d,e,g,ρ,R,rd,re,d',g',h,q⟩:=h;rcases h with⟨i,j,r,ex,ha,rfl,rfl⟩|⟨rfl,h⟩
 ·obtain⟨rfl,rfl⟩:=E6 ex;obtain rfl:=rd.j0;obtain rfl:=re.j0;have fin:=q.now R (.int r);cases op<;>first|exact(show False from ha).elim|skip
  ·cases ha;exact MV pins s U H _ _ v u Q I rx ry ⟨i,j,rfl,rfl,fin⟩
  ·cases ha;exact Nf pins s U H _ _ v u Q I rx ry ⟨i,j,rfl,rfl,fin⟩
  ·obtain⟨hc,rfl⟩:=ha;exact Na pins s U H _ _ v u Q I rx ry ⟨i,j,rfl,rfl,hc,fin⟩
  ·obtain⟨hc,rfl⟩:=ha;exact M' pins s U H _ _ v u Q I rx ry ⟨i,j,rfl,rfl,hc,fin⟩
  ·obtain⟨hc,rfl⟩:=ha;exact Nb pins s U H _ _ v u Q I rx ry ⟨i,j,rfl,rfl,hc,fin⟩
  ·obtain⟨hc,rfl⟩:=ha;exact Nc pins s U H _ _ v u Q I rx ry ⟨i,j,rfl,rfl,hc,fin⟩
  ·cases ha;exact SY pins s U H _ _ v u Q I rx ry ⟨i,j,rfl,rfl,fin⟩
  ·cases ha;exact MW pins s U H _ _ v u Q I rx ry ⟨i,j,rfl,rfl,fin⟩
  ·obtain⟨hc,rfl⟩:=ha;exact Po pins s U H _ _ v u Q I rx ry ⟨i,j,rfl,rfl,hc,fin⟩
 ·rcases h with⟨l,m,ex,hz,rfl,rfl⟩|⟨a,b,l,m,ex,ha,hb,hz,rfl,rfl⟩|⟨x',y',ex,hz,rfl,rfl⟩
  ·obtain⟨rfl,rfl⟩:=E6 ex;obtain⟨a,vs,rfl,ta,rs⟩:=rd.N4;obtain⟨b,ws,rfl,tb,rt⟩:=re.N4;refine XZ pins s U H _ _ v u Q I rx ry ⟨a,b,vs,ws,rfl,rfl,ta.sq,tb.sq,?_,λz=>?_,λz=>?_,λp hp=>q.tup R hp (rs.append rt)⟩
   ·rw[<- rs.length,<- rt.length];exact i9 hz
   ·subst z;cases rs;exact q.now R (.tup tb rt)
   ·subst z;cases rt;rw[dZ] at q;exact q.now R (.tup ta rs)
  ·obtain⟨rfl,rfl⟩:=E6 ex;obtain⟨a',rfl,ra⟩:=rd.j7;obtain⟨b',rfl,rb⟩:=re.j7;obtain⟨vs,z1,rs⟩:=R.lst ha ra;obtain⟨ws,z2,rt⟩:=R.lst hb rb;exact MY pins s U H _ _ v u Q I rx ry ⟨_,_,vs,ws,rfl,rfl,z1,z2,by rw[<- rs.length,<- rt.length];exact i9 hz,λp hp=>q.new R hp (rs.append rt)⟩
  ·obtain⟨rfl,rfl⟩:=E6 ex;obtain rfl:=rd.j5;obtain rfl:=re.j5;exact WH pins s U H _ _ v u Q I rx ry ⟨_,_,rfl,rfl,i9 hz,q.now R (.str _)⟩
theorem Ta(op:UnaryOp):wY X (unaryOp op) (r1 X.K (.un op)):=by
 intro pins s U H x v Q I rx h;obtain⟨d,g,ρ,R,rd,d',g',⟨rfl,i,ex,rfl,rfl⟩,q⟩:=h;cases ex;obtain rfl:=rd.j0;exact Ov pins s U H _ v Q I rx ⟨_,rfl,q.now R (.int _)⟩
section
variable{pins:List (Addr×Obj)}
theorem Ge(I:Inv X pins U H s)(R:Rl X.K ρ g H)(n:Nat)(ih:∀{d:D} {v:V} {u:Value} {p:PyData},rd g n d=some p->c9 X.K ρ H d v->RelV v u->∃as,Reads s.heap u p as/\p.depth<=n):∀{vs:List V} {us:List Value} {ps:List PyData},l.mapM (rd g n)=some ps->a8 X.K ρ H l vs->Vals vs us->∃as,ReadsAll s.heap us ps as/\PyData.depthAll ps<=n:=by
 induction l with
 |nil =>
  intro vs us ps h rs rv;cases rs;cases rv;simp at h;subst h;exact⟨_,.nil,cJ _⟩
 |cons d l il =>
  intro vs us ps h rs rv;cases rs with
  |cons gK rs =>
   cases rv with
   |cons ru rv =>
    rw[eO] at h;cases e:rd g n d with
    |none=>simp_all
    |some p =>
     rw[e] at h;cases e2:l.mapM (rd g n) with
     |none=>rw[e2] at h;cases h
     |some qs =>
      rw[e2] at h;cases h;obtain⟨as,q1,d1⟩:=ih e gK ru;obtain⟨bs,q2,d2⟩:=il e2 rs rv;refine⟨_,.cons q1 q2,?_⟩;simp only[PyData.depthAll];omega
theorem N9(I:Inv X pins U H s)(R:Rl X.K ρ g H)(n:Nat):∀{d:D} {v:V} {u:Value} {p:PyData},rd g n d=some p->c9 X.K ρ H d v->RelV v u->∃as,Reads s.heap u p as/\p.depth<=n:=by
 induction n with
 |zero =>
  intro d v u p h r ru;cases r with
  |bA=>simp only[rd] at h;cases h;cases ru;exact⟨_,.none,Nat.zero_le _⟩
  |bl b=>simp only[rd] at h;cases h;cases ru;exact⟨_,.bool b,Nat.zero_le _⟩
  |int i=>simp only[rd] at h;cases h;obtain⟨t,rfl⟩:=ru;exact⟨_,.int i t,Nat.zero_le _⟩
  |str x=>simp only[rd] at h;cases h;obtain⟨t,rfl⟩:=ru;exact⟨_,.str x t,Nat.zero_le _⟩
  |_=>simp only[rd] at h;cases h
 |succ n ih =>
  intro d v u p h r ru;cases r with
  |bA=>simp only[rd] at h;cases h;cases ru;exact⟨_,.none,Nat.zero_le _⟩
  |bl b=>simp only[rd] at h;cases h;cases ru;exact⟨_,.bool b,Nat.zero_le _⟩
  |int i=>simp only[rd] at h;cases h;obtain⟨t,rfl⟩:=ru;exact⟨_,.int i t,Nat.zero_le _⟩
  |str x=>simp only[rd] at h;cases h;obtain⟨t,rfl⟩:=ru;exact⟨_,.str x t,Nat.zero_le _⟩
  |ty x=>simp only[rd] at h;cases h
  |ref ha =>
   rename_i i a;simp only[rd] at h;cases e:c8 g i with
   |none=>simp_all
   |some l =>
    rw[e] at h;dsimp only at h;cases e2:l.mapM (rd g n) with
    |none=>simp_all
    |some ps =>
     rw[e2] at h;cases h;cases ru;obtain⟨vs,hq,rs⟩:=R.items e ha;obtain⟨bf,rv,p,hz⟩:=I.list hq;obtain⟨as,q,hd⟩:=Ge I R n ih e2 rs rv;obtain⟨o,ho,hc,k,pq⟩:=p.isList;refine⟨_,.list ho hc pq (by simpa using q),?_⟩;simp only[PyData.depth];omega
  |tup ht rs =>
   rename_i l a vs;simp only[rd] at h;cases e2:l.mapM (rd g n) with
   |none=>simp_all
   |some ps =>
    rw[e2] at h;cases h;cases ru;obtain⟨bf,rv,pt,hz⟩:=I.tuple ht.sq;obtain⟨as,q,hd⟩:=Ge I R n ih e2 rs rv;obtain⟨o,ho,hc,k,pq⟩:=id pt;refine⟨_,.tuple ho hc pq (by simpa using q),?_⟩;simp only[PyData.depth];omega
end
end
theorem wK{K ρ H}{c:Key}(h:qE d=some c)(r:c9 K ρ H d v):v=kV c:=by
 cases r<;>first|(cases h;rfl)|cases h
theorem U4.some{K ρ H}{o:Option V}{d:D}(h:U4 K ρ H (some d) o):∃v,o=some v/\c9 K ρ H d v:=by
 cases o with
 |none=>exact h.elim
 |some v=>exact⟨v,rfl,h⟩
theorem U4.isSome{K ρ H}{o:Option V}{d:Option D}(h:U4 K ρ H d o):d.isSome=o.isSome:=by
 cases o<;>cases d<;>first|rfl|exact h.elim
theorem Ic{pins:List (Addr×Obj)}{e:D}{y:V}{v u:Value}{Q:VK}(hu:X.A.units+100<cLine)(I:Inv X pins U H s)(rx:RelV x v)(ry:RelV y u)(R:Rl X.K ρ g H)(gK:c9 X.K ρ H d x)(re:c9 X.K ρ H e y)(h:tN g d e b)(neg:Bool)(q:Q (.bl (xor neg b)) H):wpAny (model X.prog X.w) X.A (compareOp (if neg then .NotEq else .Eq) v u) (EP X pins U Q) X.xe s:=by
 rcases h with⟨i,j,rfl,rfl,rfl⟩|⟨i,j,rfl,rfl,rfl⟩|⟨i,j,rfl,rfl,rfl⟩|⟨p,p',h1,h2,c1,c2,rfl⟩
 ·obtain rfl:=gK.j0;obtain rfl:=re.j0;cases neg
  ·exact Bb pins s U H _ _ v u Q I rx ry ⟨rfl,by simp_all⟩
  ·exact Bc pins s U H _ _ v u Q I rx ry ⟨rfl,by simp_all⟩
 ·obtain rfl:=gK.F9;obtain rfl:=re.F9;cases neg
  ·exact Bb pins s U H _ _ v u Q I rx ry ⟨rfl,by rw[wo];simpa using q⟩
  ·exact Bc pins s U H _ _ v u Q I rx ry ⟨rfl,by rw[wo];simpa using q⟩
 ·obtain rfl:=gK.j5;obtain rfl:=re.j5;cases neg
  ·exact Bb pins s U H _ _ v u Q I rx ry ⟨rfl,by simp_all⟩
  ·exact Bc pins s U H _ _ v u Q I rx ry ⟨rfl,by simp_all⟩
 ·obtain⟨as,q1,d1⟩:=N9 I R 6 h1 gK rx;obtain⟨bs,q2,d2⟩:=N9 I R 6 h2 re ry;have hr:X.A.units+min p.depth p'.depth<cLine:=by omega
  cases neg
  ·exact SeqAt.compareEq_reads q1 q2 c1 c2 hr ⟨.bl _,H,I,rfl,by simpa using q⟩
  ·exact SeqAt.compareNe_reads q1 q2 c1 c2 hr ⟨.bl _,H,I,rfl,by simpa using q⟩
theorem in_of{pins:List (Addr×Obj)}{e:D}{y:V}{v u:Value}{Q:VK}(hu:X.A.units+100<cLine)(I:Inv X pins U H s)(rx:RelV x v)(ry:RelV y u)(R:Rl X.K ρ g H)(gK:c9 X.K ρ H d x)(re:c9 X.K ρ H e y)(h:inR g d e b)(neg:Bool)(q:Q (.bl (xor neg b)) H):wpAny (model X.prog X.w) X.A (compareOp (if neg then .NotIn else .In) v u) (EP X pins U Q) X.xe s:=by
 rcases h with⟨a,aU,c,rfl,ha,hc,rfl⟩|⟨l,ps,p,h0,h1,h2,c1,c2,rfl⟩
 ·obtain⟨a',rfl,ra⟩:=re.j7;obtain⟨vs,z,rs⟩:=R.iP ha ra;have:=wK hc gK;subst this;cases ry;rw[(rs.val c).isSome] at q;cases neg
  ·exact QO () I (Q3.k z) rx λs' I'=>⟨.bl _,H,I',rfl,by simpa using q⟩
  ·exact OD () I (Q3.k z) rx λs' I'=>⟨.bl _,H,I',rfl,by simpa using q⟩
 ·obtain⟨as,q1,d1⟩:=N9 I R 6 h2 gK rx;cases e with
  |tup m =>
   cases h0;have h3:rd g 7 (.tup l)=some (.tuple ps):=by simp only[rd];rw[show l.mapM (rd g 6)=some ps from h1];rfl
   obtain⟨bs,q2,d2⟩:=N9 I R 7 h3 re ry;have hr:X.A.units+1+min (PyData.depthAll ps) p.depth<cLine:=by omega
   cases neg
   ·exact SeqAt.in_tuple_reads q2 q1 c1 c2 hr ⟨.bl _,H,I,rfl,by simpa using q⟩
   ·exact SeqAt.notIn_tuple_reads q2 q1 c1 c2 hr ⟨.bl _,H,I,rfl,by simpa using q⟩
  |ref a =>
   have h3:rd g 7 (.ref a)=some (.list ps):=by
    simp only[rd];rw[show c8 g a=some l from h0];dsimp only;rw[show l.mapM (rd g 6)=some ps from h1]
    rfl
   obtain⟨bs,q2,d2⟩:=N9 I R 7 h3 re ry;have hr:X.A.units+1+min (PyData.depthAll ps) p.depth<cLine:=by omega
   cases neg
   ·exact SeqAt.in_list_reads q2 q1 c1 c2 hr ⟨.bl _,H,I,rfl,by simpa using q⟩
   ·exact SeqAt.notIn_list_reads q2 q1 c1 c2 hr ⟨.bl _,H,I,rfl,by simpa using q⟩
  |_=>cases h0
theorem Q6(hu:X.A.units+100<cLine)(op:CmpOp):fF X (compareOp op) (r2 X.K (.cmp op)):=by
 intro pins s U H x y v u Q I rx ry h;obtain⟨d,e,g,ρ,R,gK,re,d',g',⟨x',y',b,ex,h,rfl,rfl⟩,q⟩:=h;obtain⟨rfl,rfl⟩:=E6 ex;have fin:=q.now R (.bl b);have ni:∀{P:Int->Int->Bool},(∃i j,d=.int i/\e=.int j/\b=P i j)->∃i j,x=.int i/\y=.int j/\b=P i j:=λhh=>by
  obtain⟨i,j,z1,z2,z3⟩:=hh;exact⟨i,j,(z1▸gK).j0,(z2▸re).j0,z3⟩
 cases op
 ·exact Ic hu I rx ry R gK re h false (by simpa using fin)
 ·exact Ic hu I rx ry R gK re h true (by simpa using fin)
 ·obtain⟨i,j,e1,e2,e3⟩:=ni (P:=λi j=>decide (i<j)) h;exact SX pins s U H _ _ v u Q I rx ry ⟨i,j,e1,e2,by subst e3;exact fin⟩
 ·obtain⟨i,j,e1,e2,e3⟩:=ni (P:=λi j=>decide (i<=j)) h;exact SW pins s U H _ _ v u Q I rx ry ⟨i,j,e1,e2,by subst e3;exact fin⟩
 ·obtain⟨i,j,e1,e2,e3⟩:=ni (P:=λi j=>decide (j<i)) h;exact SV pins s U H _ _ v u Q I rx ry ⟨i,j,e1,e2,by subst e3;exact fin⟩
 ·obtain⟨i,j,e1,e2,e3⟩:=ni (P:=λi j=>decide (j<=i)) h;exact SU pins s U H _ _ v u Q I rx ry ⟨i,j,e1,e2,by subst e3;exact fin⟩
 ·obtain⟨rfl,rfl⟩:=(show _/\_ from h)
  obtain rfl:=re.wy;refine MZ pins s U H _ _ v u Q I rx ry ⟨rfl,?_⟩;have e:K3 d=decide (x=V.bA):=by cases gK<;>simp[K3]
  rw[<- e];exact fin
 ·obtain⟨rfl,rfl⟩:=(show _/\_ from h)
  obtain rfl:=re.wy;refine Pp pins s U H _ _ v u Q I rx ry ⟨rfl,?_⟩;have e:K3 d=decide (x=V.bA):=by cases gK<;>simp[K3]
  rw[<- e];exact fin
 ·rcases h with h|⟨a,S,n,i,rfl,ha,rfl,rfl⟩|⟨i,j,rfl,rfl,rfl⟩
  ·exact in_of hu I rx ry R gK re h false (by simpa using fin)
  ·obtain⟨a',rfl,ra⟩:=re.j7;obtain rfl:=gK.j0;exact VF pins s U H _ _ v u Q I rx ry ⟨i,a',S,n,rfl,rfl,R.set ha ra,fin⟩
  ·obtain rfl:=re.j5;obtain rfl:=gK.j5;exact VG pins s U H _ _ v u Q I rx ry ⟨i,j,rfl,rfl,fin⟩
 ·rcases h with h|⟨a,S,n,i,rfl,ha,rfl,hb⟩|⟨i,j,rfl,rfl,hb⟩
  ·exact in_of hu I rx ry R gK re h true (by simpa using fin)
  ·obtain⟨a',rfl,ra⟩:=re.j7;obtain rfl:=gK.j0;exact Ub pins s U H _ _ v u Q I rx ry ⟨i,a',S,n,rfl,rfl,R.set ha ra,by rw[<- hb,Bool.not_not];exact fin⟩
  ·obtain rfl:=re.j5;obtain rfl:=gK.j5;exact Uc pins s U H _ _ v u Q I rx ry ⟨i,j,rfl,rfl,by rw[<- hb,Bool.not_not];exact fin⟩
theorem empty_eq{K ρ H}(r:a8 K ρ H l vs):l.isEmpty=vs.isEmpty:=by cases r<;>rfl
theorem Oq{K:PySem.W.Frag}(R:Rl K ρ g H)(r:c9 K ρ H d x)(h:Ef g d b):By K x H b:=by
 rcases h with⟨rfl,rfl⟩|rfl|⟨i,rfl,rfl⟩|⟨l,rfl,rfl⟩|⟨a,l,rfl,hl,rfl⟩
 ·obtain rfl:=r.wy;rfl
 ·obtain rfl:=r.F9;rfl
 ·obtain rfl:=r.j0;rfl
 ·obtain⟨a,vs,rfl,ht,rs⟩:=r.N4;exact .inr (.inl ⟨_,ht.sq,by rw[empty_eq rs]⟩)
 ·obtain⟨a',rfl,ha⟩:=r.j7;obtain⟨vs,hq,rs⟩:=R.items hl ha;exact .inl ⟨_,hq,by rw[empty_eq rs]⟩
theorem Oz{K ρ H}{i:Int}(r:a8 K ρ H l vs)(h:iQ l i=some d):∃v,iQ vs i=some v/\c9 K ρ H d v:=by
 unfold iQ at h ⊢;rw[<- r.length];cases e:kS l.length i with
 |none=>simp_all
 |some j =>
  rw[e] at h;exact r.get h
theorem wB{K ρ H}{x:D}(R:Rl K ρ g H)(r:c9 K ρ H x v)(h:B4 g x=some l):∃a vs,v=.ref a/\a8 K ρ H l vs/\((∃i,x=.ref i/\ρ[i]?=some a)/\gs K H a vs\/x=.tup l/\TupAt K H a vs):=by
 cases r with
 |tup ht rs=>cases h;exact⟨_,_,rfl,rs,.inr ⟨rfl,ht⟩⟩
 |ref ha=>obtain⟨vs,hq,rs⟩:=R.items h ha;exact⟨_,_,rfl,rs,.inl ⟨⟨_,rfl,ha⟩,hq⟩⟩
 |_=>cases h
theorem Sv(hu:X.A.units+100<cLine):qW X (r2 X.K .ix):=by
 intro value slice pins s U H x y v u Q I rx ry h hs;obtain⟨d,e,g,ρ,R,gK,re,d',g',⟨rfl,h⟩,q⟩:=h;rcases h with⟨x',l,i,ex,hl,ha⟩|⟨a,aU,y',c,ex,ha,hc,hv⟩|⟨x',i,c,ex,h0,h1,rfl⟩
 ·obtain⟨rfl,rfl⟩:=E6 ex;obtain rfl:=re.j0;obtain⟨a,vs,rfl,rs,h⟩:=wB R gK hl;obtain⟨w,hw,eF⟩:=Oz rs ha;rcases h with⟨_,hq⟩|⟨_,ht⟩
  ·exact OS value slice pins s U H _ _ v u Q I rx ry ⟨_,_,i,w,rfl,rfl,hq,hw,q.now R eF⟩ hs
  ·exact Mp value slice pins s U H _ _ v u Q I rx ry ⟨_,_,i,w,rfl,rfl,ht.sq,hw,q.now R eF⟩ hs
 ·obtain⟨rfl,rfl⟩:=E6 ex;obtain⟨a',rfl,ra⟩:=gK.j7;obtain⟨vs,z,rs⟩:=R.iP ha ra;have:=wK hc re;have q2:=rs.val c;rw[hv] at q2;obtain⟨w,hw,eF⟩:=q2.some;exact OR () value slice pins s U H _ _ v u Q I rx ry ⟨_,w,rfl,by have:=Q3.k (k:=c) z;simp_all,q.now R eF⟩ hs
 ·obtain⟨rfl,rfl⟩:=E6 ex;obtain rfl:=gK.j5;obtain rfl:=re.j0;exact Mo value slice pins s U H _ _ v u Q I rx ry ⟨x',i,c,rfl,rfl,i9 h0,h1,q.now R (.str _)⟩ hs
def Jz(K:PySem.W.Frag):V->Option Int->Option Int->Hp->VK->Prop:=λx lo hi H Q=>∃d g ρ d' g',Rl K ρ g H/\c9 K ρ H d x/\rQ d lo hi g d' g'/\LQ K ρ H Q d' g'
theorem Iu:qT X (Jz X.K):=by
 intro pins s U H x v vl vu lo hi sl Q I rx hs pl pu h;obtain⟨d,g,ρ,d',g',R,gK,h,q⟩:=h;rcases h with⟨l,rfl,rfl,rfl⟩|⟨a,l,rfl,hl,rfl,rfl⟩|⟨a,rfl,hz,rfl,rfl⟩
 ·obtain⟨a,vs,rfl,ht,rs⟩:=gK.N4;refine Qt pins s U H _ v vl vu lo hi sl Q I rx hs pl pu ⟨_,_,rfl,ht.sq,λz=>?_,λp hp=>q.tup R hp (rs.cut lo hi)⟩;refine q.now R (.tup ht ?_);have:=rs.cut lo hi;rw[z] at this;exact this
 ·obtain⟨a',rfl,ha⟩:=gK.j7;obtain⟨vs,hq,rs⟩:=R.items hl ha;exact Qs pins s U H _ v vl vu lo hi sl Q I rx hs pl pu ⟨_,_,rfl,hq,λp hp=>q.new R hp (rs.cut lo hi)⟩
 ·obtain rfl:=gK.j5;exact NX pins s U H _ v vl vu lo hi sl Q I rx hs pl pu ⟨a,rfl,i9 hz,q.now R (.str _)⟩
def Rx(K:PySem.W.Frag):V->V->V->Hp->(Hp->Prop)->Prop:=λo i v H Q=>∃zj di dv g ρ,Rl K ρ g H/\c9 K ρ H zj o/\c9 K ρ H di i/\c9 K ρ H dv v/\V9 zj di dv g (λg'=>∀bP H',Ext ρ H bP H'->Rl K bP g' H'->Q H')
theorem NT(hu:X.A.units+100<cLine):Bw X (Rx X.K):=by
 intro pins s U H o i v ov iv u Q I ro ri rv h;obtain⟨zj,di,dv,g,ρ,R,r1,r2,r3,g',h,q⟩:=h;rcases h with⟨a,i',l,j,rfl,rfl,hl,hj,rfl⟩|⟨a,aU,c,rfl,ha,hc,hz,rfl⟩
 ·obtain⟨a',rfl,ha⟩:=r1.j7;obtain rfl:=r2.j0;obtain⟨vs,z,rs⟩:=R.lst hl ha;obtain⟨R',e'⟩:=R.write hl ha (rs.set r3 j);exact set_list pins s U H _ _ _ ov iv u Q I ro ri rv ⟨_,vs,_,j,rfl,rfl,z,by rw[<- rs.length];exact hj,q ρ _ e' R'⟩
 ·obtain⟨a',rfl,ra⟩:=r1.j7;obtain⟨vs,z,rs⟩:=R.iP ha ra;have:=wK hc r2;subst this;obtain⟨R',e'⟩:=R.put (o':=.iP (putD aU c dv)) (u:=.dK (putK vs c v)) ha rfl ra (rs.put r3);cases ro;exact Vi () I (wM.k z (by rw[<- rs.length];exact wL hz)) ri rv λs' I'=>⟨_,I',q ρ _ e' R'⟩
theorem My:k9 X (.builtin "len") (rN X.K .len):=by
 intro pins s U H xs us Q I r h;obtain⟨ds,g,ρ,R,rs,d',g',⟨rfl,h⟩,q⟩:=h;rcases h with⟨x,l,rfl,hl,rfl⟩|z|⟨x,rfl,hz,rfl⟩
 ·obtain⟨v,rfl,rv⟩:=rs.one;obtain⟨a,vs,rfl,rl,h⟩:=wB R rv hl;refine TJ pins s U H _ us Q I r ⟨_,_,rfl,?_,by rw[<- rl.length];exact q.now R (.int _)⟩;exact h.imp (λz=>z.2) (λz=>z.2.sq)
 ·exact z.elim
 ·obtain⟨v,rfl,rv⟩:=rs.one;obtain rfl:=rv.j5;exact TK pins s U H _ us Q I r ⟨_,rfl,i9 hz,q.now R (.int _)⟩
theorem OX(hc:X.calm=true):k9 X (.type "list") (rN X.K .list):=by
 intro pins s U H xs us Q I r h;obtain⟨ds,g,ρ,R,rs,d',g',⟨x,l,rfl,hl,rfl,rfl⟩|⟨⟨⟩⟩,q⟩:=h;obtain⟨v,rfl,rv⟩:=rs.one;obtain⟨a,vs,rfl,rl,h⟩:=wB R rv hl;exact TL pins s U H _ us Q I r ⟨_,_,rfl,h.imp (λz=>z.2) (λz=>z.2.sq),λp hp=>q.new R hp rl⟩
theorem UP:k9 X (.type "tuple") (rN X.K .tuple):=by
 intro pins s U H xs us Q I r h;obtain⟨ds,g,ρ,R,rs,d',g',⟨x,l,rfl,hl,rfl,rfl⟩,q⟩:=h;obtain⟨v,rfl,rv⟩:=rs.one;obtain⟨a,vs,rfl,rl,h⟩:=wB R rv hl;refine Uh pins s U H _ us Q I r ⟨a,vs,rfl,?_⟩;exact h.imp (λz=>⟨z.2,λp hp=>q.tup R hp rl⟩) (λz=>⟨z.2.sq,q.now R (.tup z.2 rl)⟩)
theorem OP:k9 X (.builtin "isinstance") (rN X.K .isin):=by
 intro pins s U H xs us Q I r h;obtain⟨ds,g,ρ,R,rs,d',g',⟨x,c,b,rfl,hc,hb,rfl,rfl⟩,q⟩:=h;obtain⟨v,w,rfl,r1,r2⟩:=rs.two;obtain rfl:=r2.LU;have fin:=q.now R (.bl b);have go:∀(t:Value) (v:V),gO X.K H v t->PySem.W.kitOne X.K t (.type c)=some b->Vals [v,V.ty c] us->wpAny (model X.prog X.w) X.A (call (.builtin "isinstance") us) (EP X pins U Q) X.xe s :=
  λt v ht hk r=>WW pins s U H _ us Q I r ⟨v,t,c,b,rfl,ht,hk,fin⟩
 simp only[List.mem_cons,List.mem_nil_iff,or_false] at hc;cases r1 with
 |bA=>refine go _ _ .bA ?_ r;cases hb;rcases hc with rfl|rfl|rfl|rfl|rfl<;>rfl
 |bl y=>refine go _ _ (.bl y) ?_ r;cases hb;rcases hc with rfl|rfl|rfl|rfl|rfl<;>rfl
 |int y=>refine go _ _ (.int y) ?_ r;cases hb;rcases hc with rfl|rfl|rfl|rfl|rfl<;>rfl
 |str y=>refine go _ _ (.str y) ?_ r;cases hb;rcases hc with rfl|rfl|rfl|rfl|rfl<;>rfl
 |ty _=>cases hb
 |tup ht rs =>
  cases hb;rcases ht with ht|ht
  ·refine go _ _ (.tup ht) ?_ r;rcases hc with rfl|rfl|rfl|rfl|rfl<;>rfl
  ·obtain⟨o,bf,n,lk,ku,_⟩:=ht;obtain⟨u,w',rfl,ru,eF⟩:=vals2 r;cases (show w'=Value.type c from eF);cases ru;have hk:PySem.W.kitOne X.K (.type "tuple") (.type c)=some (c=="tuple"):=by rcases hc with rfl|rfl|rfl|rfl|rfl<;>rfl
   exact bJ IY I.gC ⟨o,I.gC _ _ lk,ku⟩ hk (λz=>nomatch z) λtk=>⟨.bl _,H,I.tok tk,rfl,fin⟩
 |@ref i a ha =>
  have vD:∃m,g'[i]?=some (.lst m)/\b=(c=="list"):=by
   simp only[pI] at hb;split at hb
   ·exact⟨_,by assumption,(aq hb).symm⟩
   ·cases hb
  obtain⟨m,e,rfl⟩:=vD;obtain⟨vs,z,_⟩:=R.lst e ha;refine go _ _ (.lst z) ?_ r;rcases hc with rfl|rfl|rfl|rfl|rfl<;>rfl
theorem Wh:∀{l:List D} {b:Bool},P8 l=some b->∃bs:List Bool,l=bs.map D.bl/\b=bs.all id:=by
 intro l
 induction l with
 |nil=>intro b h;cases h;exact⟨[],rfl,rfl⟩
 |cons d r ih =>
  intro b h;cases d<;>first|(cases h;done)|skip
  rename_i c;simp only[P8] at h;cases e:P8 r with
  |none=>simp_all
  |some b' =>
   rw[e] at h;cases h;obtain⟨bs,rfl,rfl⟩:=ih e;exact⟨c::bs,rfl,by simp⟩
theorem a8.Oh{K ρ H}:∀{bs:List Bool} {vs:List V},a8 K ρ H (bs.map D.bl) vs->vs=bs.map V.bl:=by
 intro bs
 induction bs with
 |nil=>intro vs h;cases h;rfl
 |cons b r ih =>
  intro vs h;cases h with
  |cons h rr=>rw[ih rr,h.F9];rfl
theorem L'(hc:X.calm=true):k9 X (.builtin "all") (rN X.K .all):=by
 intro pins s U H xs us Q I r h;obtain⟨ds,g,ρ,R,rs,d',g',⟨a,l,b,rfl,hl,hb,rfl,rfl⟩,q⟩:=h;obtain⟨v,rfl,rv⟩:=rs.one;obtain⟨a',rfl,ra⟩:=rv.j7;obtain⟨vs,hq,rs⟩:=R.items hl ra;rcases hb with hb|⟨ns,rfl,rfl⟩
 rotate_left
 ·have:=rs.ints;subst this;exact Vd hc pins s U H _ us Q I r ⟨_,ns,rfl,hq,q.now R (.bl _)⟩
 obtain⟨bs,rfl,rfl⟩:=Wh hb;have:=rs.Oh;subst this;exact Vc hc pins s U H _ us Q I r ⟨_,bs,rfl,hq,q.now R (.bl _)⟩
theorem Mn:k9 X (.type "int") (rN X.K .int):=by
 intro pins s U H xs us Q I r h;obtain⟨ds,g,ρ,R,rs,d',g',⟨rfl,h⟩,q⟩:=h;rcases h with⟨i,rfl,rfl⟩|⟨b,rfl,rfl⟩|⟨x,n,rfl,hl,hn,rfl⟩
 ·obtain⟨v,rfl,rv⟩:=rs.one;obtain rfl:=rv.j0;exact Fh pins s U H _ us Q I r (.inl ⟨i,rfl,q.now R (.int _)⟩)
 ·obtain⟨v,rfl,rv⟩:=rs.one;obtain rfl:=rv.F9;exact Fh pins s U H _ us Q I r (.inr ⟨b,rfl,q.now R (.int _)⟩)
 ·obtain⟨v,rfl,rv⟩:=rs.one;obtain rfl:=rv.j5;exact TH pins s U H _ us Q I r ⟨x,n,rfl,hl,hn,q.now R (.int _)⟩
theorem Oe:k9 X (.type "str") (rN X.K .str):=by
 intro pins s U H xs us Q I r h;obtain⟨ds,g,ρ,R,rs,d',g',⟨i,rfl,hi,rfl,rfl⟩|⟨x,rfl,rfl,rfl⟩,q⟩:=h
 ·obtain⟨v,rfl,rv⟩:=rs.one;obtain rfl:=rv.j0;exact TM pins s U H _ us Q I r ⟨i,rfl,hi,q.now R (.str _)⟩
 ·obtain⟨v,rfl,rv⟩:=rs.one;obtain rfl:=rv.j5;obtain⟨u,rfl,t,rfl⟩:=vals1 r;exact PySem.P.str_of_str ⟨.str _,H,I,⟨_,rfl⟩,q.now R (.str _)⟩
def rM(K:PySem.W.Frag)(p:Pr):V->List V->Hp->VK->Prop:=λx xs H Q=>∃d ds g ρ,Rl K ρ g H/\c9 K ρ H d x/\a8 K ρ H ds xs/\cN p (d::ds) g (LQ K ρ H Q)
theorem E5{a b:D}{m:List D}(h:a::l=b::m):a=b/\l=m:=by cases h;exact⟨rfl,rfl⟩
theorem UZ:jP X "list.append" (rM X.K .append):=by
 intro pins s U H x xs v us Q I rx r h;obtain⟨d,ds,g,ρ,R,rd,rs,d',g',⟨a,y,l,ex,ha,hz,rfl,rfl⟩,q⟩:=h;obtain⟨rfl,rfl⟩:=E5 ex;obtain⟨a',rfl,ra⟩:=rd.j7;obtain⟨w,rfl,eF⟩:=rs.one;obtain⟨vs,z1,rv⟩:=R.lst ha ra;obtain⟨R2,e2⟩:=R.write ha ra (rv.append (.cons eF .nil));exact VC pins s U H _ _ v us Q I rx r ⟨_,vs,_,rfl,rfl,z1,by rw[<- rv.length];exact wL hz,q ρ _ _ e2 R2 .bA⟩
theorem Yh:jP X "list.pop" (rM X.K .pop):=by
 intro pins s U H x xs v us Q I rx r h;obtain⟨d,ds,g,ρ,R,rd,rs,y,g',⟨a,i,l,k,ex,ha,h1,h2,hk,hy,rfl⟩,q⟩:=h;obtain⟨rfl,rfl⟩:=E5 ex;obtain⟨a',rfl,ra⟩:=rd.j7;obtain⟨w,rfl,eF⟩:=rs.one;obtain rfl:=eF.j0;obtain⟨vs,z1,rv⟩:=R.lst ha ra;obtain⟨w,hw,eF⟩:=rv.get hy;obtain⟨R2,e2⟩:=R.write ha ra (rv.erase k);exact XU pins s U H _ _ v us Q I rx r ⟨_,vs,i,k,w,rfl,rfl,z1,h1,h2,by rw[<- rv.length];exact hk,hw,q ρ _ _ e2 R2 (eF.ext e2)⟩
theorem a8.strs{K ρ H}{ys:List Str}(h:a8 K ρ H (ys.map D.str) vs):vs=ys.map V.str:=by
 induction ys generalizing vs with
 |nil=>cases h;rfl
 |cons y ys ih =>
  cases h with
  |cons q r=>cases q;rw[ih r];rfl
theorem OT:jP X "str.join" (rM X.K .join):=by
 intro pins s U H x xs v us Q I rx r h;obtain⟨d,ds,g,ρ,R,rd,rs,d',g',⟨sep,a,ys,ex,ha,hz,rfl,rfl⟩,q⟩:=h;obtain⟨rfl,rfl⟩:=E5 ex;obtain rfl:=rd.j5;obtain⟨w,rfl,eF⟩:=rs.one;obtain⟨a',rfl,ra⟩:=eF.j7;obtain⟨vs,hq,rv⟩:=R.items ha ra;obtain rfl:=rv.strs;exact Pb pins s U H _ _ v us Q I rx r ⟨sep,a',ys,rfl,rfl,hq,i9 hz,q.now R (.str _)⟩
theorem a8.ofStrs{K ρ H}:∀ys:List Str,a8 K ρ H (ys.map D.str) (ys.map V.str)
 |[]=>.nil
 |y::ys=>.cons (.str _) (a8.ofStrs ys)
theorem UK:jP X "str.split" (rM X.K .split):=by
 intro pins s U H x xs v us Q I rx r h;obtain⟨d,ds,g,ρ,R,rd,rs,d',g',⟨a,b,ex,hb,ha,hz,rfl,rfl⟩,q⟩:=h;obtain⟨rfl,rfl⟩:=E5 ex;obtain rfl:=rd.j5;obtain⟨w,rfl,eF⟩:=rs.one;obtain rfl:=eF.j5;refine XW pins s U H _ _ v us Q I rx r ⟨a,b,rfl,rfl,hb,i9 ha,i9 hz,λp hp=>?_⟩;exact q (ρ++[p]) _ _ (K0 hp) (R.new hp (o:=.lst ((Txt.split a b).map .str)) (u:=.lst ((Txt.split a b).map V.str)) (a8.ofStrs _)) (.ref (R.x8 p))
theorem OJ:jP X "str.find" (rM X.K .find):=by
 intro pins s U H x xs v us Q I rx r h;obtain⟨d,ds,g,ρ,R,rd,rs,d',g',⟨a,b,ex,rfl,rfl⟩,q⟩:=h;obtain⟨rfl,rfl⟩:=E5 ex;obtain rfl:=rd.j5;obtain⟨w,rfl,eF⟩:=rs.one;obtain rfl:=eF.j5;exact Pa pins s U H _ _ v us Q I rx r ⟨a,b,rfl,rfl,q.now R (.int _)⟩
theorem NB:jP X "str.partition" (rM X.K .jr):=by
 intro pins s U H x xs v us Q I rx r h;obtain⟨d,ds,g,ρ,R,rd,rs,d',g',⟨a,b,ex,hb,ha,rfl,rfl⟩,q⟩:=h;obtain⟨rfl,rfl⟩:=E5 ex;obtain rfl:=rd.j5;obtain⟨w,rfl,eF⟩:=rs.one;obtain rfl:=eF.j5;exact Ua pins s U H _ _ v us Q I rx r ⟨a,b,rfl,rfl,hb,i9 ha,λp hp=>q.tup R hp (a8.ofStrs _)⟩
theorem a8.putIn{K ρ H}{y:D}{w:V}(r:c9 K ρ H y w):∀{l:List D} {vs:List V} (k:Nat),a8 K ρ H l vs->a8 K ρ H (l.take k++y::l.drop k) (vs.take k++w::vs.drop k)
 |_,_,0,h=>.cons r h
 |_,_,k+1,.nil=>.cons r .nil
 |_,_,k+1,.cons a b=>.cons a (a8.putIn r k b)
theorem Wy:jP X "list.insert" (rM X.K .fS):=by
 intro pins s U H x xs v us Q I rx r h;obtain⟨d,ds,g,ρ,R,rd,rs,d',g',⟨a,i,l,y,ex,ha,h0,h1,hz,rfl,rfl⟩,q⟩:=h;obtain⟨rfl,rfl⟩:=E5 ex;obtain⟨a',rfl,ra⟩:=rd.j7;obtain⟨w1,w2,rfl,r1,r2⟩:=rs.two;obtain rfl:=r1.j0;obtain⟨vs,z1,rv⟩:=R.lst ha ra;obtain⟨R2,e2⟩:=R.write ha ra (a8.putIn r2 i.toNat rv);exact VD pins s U H _ _ v us Q I rx r ⟨_,i,vs,w2,rfl,rfl,z1,h0,h1,by rw[<- rv.length];exact wL hz,q ρ _ _ e2 R2 .bA⟩
theorem ty_str(R:Rl X.K ρ g H)(r:c9 X.K ρ H d v)(h:∃y,d=.str y):mW X.K "str" v H:=by
 obtain⟨y,rfl⟩:=h;obtain rfl:=r.j5;exact rfl
theorem ty_list(R:Rl X.K ρ g H)(r:c9 X.K ρ H d v)(h:∃a l,d=.ref a/\c8 g a=some l):mW X.K "list" v H:=by
 obtain⟨a,l,rfl,hl⟩:=h;obtain⟨a',rfl,ra⟩:=r.j7;obtain⟨vs,hq,_⟩:=R.items hl ra;exact .inl ⟨rfl,vs,hq⟩
noncomputable abbrev gQ:=List Str×XK
def BA(K:PySem.W.Frag)(ex:List Str)(x:Xn)(C:Addr)(od:Option Addr)(H:Hp):Prop :=
 (x.cls∈ex/\x.cls.cps.size≠1/\f9 K x.cls C/\od=none)\/∃n dA,x=ui n/\f9 K "BadText" C/\od=some dA/\H dA=some (.xd [("row",.int n)])
def LX(K:PySem.W.Frag)(ρ:List Addr)(H:Hp)(Ξ:gQ):KX:=λx g'=>∀bP H' C od,Ext ρ H bP H'->Rl K bP g' H'->BA K Ξ.1 x C od H'->Ξ.2 (.ref C) od H'
theorem LX.ext{K:PySem.W.Frag}{ρ cc:List Addr}{H H1:Hp}{Ξ:gQ}(e:Ext ρ H cc H1){x:Xn}{g:G}(h:LX K ρ H Ξ x g):LX K cc H1 Ξ x g:=λbP H' C od e' R hm=>h bP H' C od (e.trans e') R hm
noncomputable abbrev oh(ex:List Str):gQ:=(ex,λ_ _ _=>False)
def LE(K:PySem.W.Frag)(Ξ:gQ)(t:S->G->KD->KX->Prop):TE:=λcb H Q=>∃U g ρ,l0 K ρ H U cb/\Rl K ρ g H/\t U g (LQ K ρ H Q) (LX K ρ H Ξ)
def LT(K:PySem.W.Frag)(Ξ:gQ)(t:S->G->(Bool->G->Prop)->KX->Prop):TT:=λcb H Q=>∃U g ρ,l0 K ρ H U cb/\Rl K ρ g H/\t U g (λb g'=>∀bP H',Ext ρ H bP H'->Rl K bP g' H'->Q b H') (LX K ρ H Ξ)
def LA(K:PySem.W.Frag)(Ξ:gQ)(t:S->G->(List D->G->Prop)->KX->Prop):TA:=λcb H Q=>∃U g ρ,l0 K ρ H U cb/\Rl K ρ g H/\t U g (λds g'=>∀bP H' vs,Ext ρ H bP H'->Rl K bP g' H'->a8 K bP H' ds vs->Q vs H') (LX K ρ H Ξ)
def U5(K:PySem.W.Frag)(gw:List Addr)(H0:Hp)(k:IK)(J:It):Prop:=∀ρ g H,Ext gw H0 ρ H->Rl K ρ g H->∀i,(k.at i g=some none->J.stop i H) /\
 ∀d,k.at i g=some (some d)->J.go i H/\∀v H',J.pS i H v H'->Ext ρ H ρ H'/\Rl K ρ g H'/\c9 K ρ H' d v
def LI(K:PySem.W.Frag)(Ξ:gQ)(t:S->G->(IK->G->Prop)->KX->Prop):TI:=λcb H R=>∃U g ρ,l0 K ρ H U cb/\Rl K ρ g H/\t U g (λk g'=>∀bP H' J,Ext ρ H bP H'->Rl K bP g' H'->U5 K bP H' k J->R J H') (LX K ρ H Ξ)
def LG(K:PySem.W.Frag)(t:MT):TG:=λv cb H Q=>∃d U g ρ,l0 K ρ H U cb/\Rl K ρ g H/\c9 K ρ H d v/\km t d U (λcx=>∀dC,l0 K ρ H cx dC->Q dC H)
def LN(K:PySem.W.Frag)(ρ:List Addr)(H:Hp)(N:L2.Ends):Ends where
 nx:=λcx g'=>∀bP H' dC,Ext ρ H bP H'->Rl K bP g' H'->l0 K bP H' cx dC->N.nx dC H'
 rt:=LQ K ρ H N.rt
 bk:=λcx g'=>∀bP H' dC,Ext ρ H bP H'->Rl K bP g' H'->l0 K bP H' cx dC->N.bk dC H'
 ct:=λcx g'=>∀bP H' dC,Ext ρ H bP H'->Rl K bP g' H'->l0 K bP H' cx dC->N.ct dC H'
def LS(K:PySem.W.Frag)(Ξ:gQ)(t:Ends->S->G->KX->Prop):TS:=λN cb H=>∃U g ρ,l0 K ρ H U cb/\Rl K ρ g H/\t (LN K ρ H N) U g (LX K ρ H Ξ)
end M
namespace L2
open PySem PySem.Spec PyProof.Rows
variable{t t':TT}
section
variable{X:Cx}{e:Expr}
theorem PE.imp{t t':TE}(h:PE X e t)(i:∀U H Q,t' U H Q->t U H Q):PE X e t':=λpins s U H Q I q=>h pins s U H Q I (i U H Q q)
theorem PT.imp(h:PT X e t)(i:∀U H Q,t' U H Q->t U H Q):PT X e t':=λpins s U H Q I q=>h pins s U H Q I (i U H Q q)
theorem PW.imp(h:PW X e t)(i:∀U H Q,t' U H Q->t U H Q):PW X e t':=λw pins s U H Q I q=>h w pins s U H Q I (i U H Q q)
theorem PA.imp{es:List Expr}{t t':TA}(h:PA X es t)(i:∀U H Q,t' U H Q->t U H Q):PA X es t':=λp pins s U H Q I q=>h p pins s U H Q I (i U H Q q)
theorem lB.imp{es:List Expr}(h:lB X es t)(i:∀U H Q,t' U H Q->t U H Q):lB X es t':=λpins s U H Q I q=>h pins s U H Q I (i U H Q q)
theorem PI.imp{tg:Expr}{t t':TI}(h:PI X tg e t)(i:∀U H Q,t' U H Q->t U H Q):PI X tg e t':=λpins s U H Q I q=>h pins s U H Q I (i U H Q q)
theorem PG.imp{t t':TG}(h:PG X e t)(i:∀v U H Q,t' v U H Q->t v U H Q):PG X e t':=λpins s U H v u Q I r q=>h pins s U H v u Q I r (i v U H Q q)
theorem PS.imp{st:Stmt}{t t':TS}(h:PS X st t)(i:∀N U H,t' N U H->t N U H):PS X st t':=λpins s U H N I q=>h pins s U H N I (i N U H q)
theorem iZ.imp{st:List Stmt}{t t':TS}(h:iZ X st t)(i:∀N U H,t' N U H->t N U H):iZ X st t':=λpins s U H N I q=>h pins s U H N I (i N U H q)
end
end L2
namespace M
open PySem L2 PySem.Spec PyProof.Rows
variable{Ξ:gQ}{P:fe}{op hZ:CmpOp}{rest es:List Expr}{hJ:ME}{p2 q ko:Pos}
section
variable{K:PySem.W.Frag}(hP:i4 P){ρ gw:List Addr}{H H0:Hp}{U:S}{cb:L2.St}{g:G}{m:ME}
include hP
theorem fE{Q0:KD}{Q:VK}(s:l0 K ρ H U cb)(R:Rl K ρ g H)(e0:Ext gw H0 ρ H)(h:aV P m U g Q0 (LX K gw H0 Ξ))(k:∀x g1 cc H1 v1,Ext ρ H cc H1->Rl K cc g1 H1->c9 K cc H1 x v1->Q0 x g1->Q v1 H1):LE K Ξ (aV P m) cb H Q :=
 ⟨U,g,ρ,s,R,a9 hP m _ _ _ _ _ _ (λx g1 h cc H1 v1 e1 R1 r1=>k x g1 cc H1 v1 e1 R1 r1 h) (λ_ _ z=>LX.ext e0 z) h⟩
theorem jT{Q0:List D->G->Prop}{Q:List V->Hp->Prop}(s:l0 K ρ H U cb)(R:Rl K ρ g H)(e0:Ext gw H0 ρ H)(h:fJ P m U g Q0 (LX K gw H0 Ξ))(k:∀x g1 cc H1 v1,Ext ρ H cc H1->Rl K cc g1 H1->a8 K cc H1 x v1->Q0 x g1->Q v1 H1):LA K Ξ (fJ P m) cb H Q :=
 ⟨U,g,ρ,s,R,r9 hP m _ _ _ _ _ _ (λx g1 h cc H1 v1 e1 R1 r1=>k x g1 cc H1 v1 e1 R1 r1 h) (λ_ _ z=>LX.ext e0 z) h⟩
theorem oE{Q0:Bool->G->Prop}{Q:Bool->Hp->Prop}(s:l0 K ρ H U cb)(R:Rl K ρ g H)(e0:Ext gw H0 ρ H)(h:dD P m U g Q0 (LX K gw H0 Ξ))(k:∀t g1 cc H1,Ext ρ H cc H1->Rl K cc g1 H1->Q0 t g1->Q t H1):LT K Ξ (dD P m) cb H Q :=
 ⟨U,g,ρ,s,R,q9 hP m _ _ _ _ _ _ (λt g1 h cc H1 e1 R1=>k t g1 cc H1 e1 R1 h) (λ_ _ z=>LX.ext e0 z) h⟩
theorem rG{ms:MS}{N:L2.Ends}{N0:Ends}(s:l0 K ρ H U cb)(R:Rl K ρ g H)(e0:Ext gw H0 ρ H)(h:wpS P ms N0 U g (LX K gw H0 Ξ))(k:N0.le (LN K ρ H N)):LS K Ξ (wpS P ms) N cb H :=
 ⟨U,g,ρ,s,R,wpS_mono hP ms _ _ _ _ _ _ k (λ_ _ z=>LX.ext e0 z) h⟩
end
theorem a8.lu{K ρ H}(lo:Int)(n:Nat):a8 K ρ H (A7 lo n) ((List.range n).map λ(k:Nat)=>V.int (lo+k)):=by
 have:∀l:List Nat,a8 K ρ H (l.map λ(k:Nat)=>D.int (lo+k)) (l.map λ(k:Nat)=>V.int (lo+k)):=by
  intro l
  induction l with
  |nil=>exact .nil
  |cons x r ih=>exact .cons (.int _) ih
 exact this _
section
variable{X:Cx}(hP:i4 P){a b c e:Expr}{ma mb mc:ME}{pos:Pos}{p:Pr}
include hP
theorem zL(h:PE X e (pT (r2 X.K p) (LE X.K Ξ (aV P ma)) (LE X.K Ξ (aV P mb)))):PE X e (LE X.K Ξ (aV P (.prim p (.cons ma (.cons mb .nil))))) :=
 h.imp λcb H Q br=>by
  obtain⟨U,g,ρ,s,R,h⟩:=br;exact fE hP s R (.refl _ _) h λx g1 cc H1 v1 e1 R1 r1 h=>fE hP (s.ext e1) R1 e1 h λy g2 fC H2 v2 e2 R2 r2 h =>
   ⟨x,y,g2,fC,R2,r1.ext e2,r2,l7 (λd g' h=>h.ext (e1.trans e2)) h⟩
theorem Oc(h:PT X e (Bk (pT (r2 X.K (.cmp op)) (LE X.K Ξ (aV P ma)) (LE X.K Ξ (aV P mb))))):PT X e (LT X.K Ξ (dD P (.gb (.prim (.cmp op) (.cons ma (.cons mb .nil)))))) :=
 h.imp λcb H Q br=>by
  obtain⟨U,g,ρ,s,R,h⟩:=br;refine fE hP s R (.refl _ _) h λx g1 cc H1 v1 e1 R1 r1 h=>fE hP (s.ext e1) R1 e1 h λy g2 fC H2 v2 e2 R2 r2 h=>?_;obtain⟨d',g',h,q⟩:=h;obtain⟨x',y',t,ex,hc,rfl,rfl⟩:=id h;refine⟨x,y,g',fC,R2,r1.ext e2,r2,_,_,h,λbP H' v e' R' r'=>?_⟩;obtain⟨t',ht,q⟩:=q;rcases ht with⟨z,_⟩|z|⟨i,z,_⟩|⟨l,z,_⟩|⟨a,l,z,_⟩<;>cases z
  exact⟨_,r'.F9,q bP H' (e1.trans (e2.trans e')) R'⟩
theorem Tw{op:UnaryOp}(ha:PE X a (LE X.K Ξ (aV P ma))):PE X (.UnaryOp op a pos) (LE X.K Ξ (aV P (.prim (.un op) (.cons ma .nil)))) :=
 (Th (Ta op) ha).imp λcb H Q br=>by
  obtain⟨U,g,ρ,s,R,h⟩:=br;exact fE hP s R (.refl _ _) h λx g1 cc H1 v1 e1 R1 r1 h=>⟨x,g1,cc,R1,r1,l7 (λd g' h=>h.ext e1) h⟩
theorem Ew:∀cb H Q,LE X.K Ξ (aV P (.chain op hZ ma mb mc)) cb H Q->zQ (r2 X.K (.cmp op)) (r2 X.K (.cmp hZ)) (LE X.K Ξ (aV P ma)) (LE X.K Ξ (aV P mb)) (LE X.K Ξ (aV P mc)) cb H Q:=λcb H Q br=>by
 obtain⟨U,g,ρ,s,R,h⟩:=br;refine fE hP s R (.refl _ _) h λx g1 cc H1 v1 e1 R1 r1 h=>fE hP (s.ext e1) R1 e1 h λy g2 fC H2 v2 e2 R2 r2 h=>?_;refine⟨x,y,g2,fC,R2,r1.ext e2,r2,l7 (λd g3 h lq H3 v3 e3 R3 r3=>?_) h⟩;obtain⟨t,rfl,h⟩:=h;obtain rfl:=r3.F9;refine⟨t,rfl,?_⟩;cases t
 ·exact h lq H3 _ (e1.trans (e2.trans e3)) R3 (.bl _)
 ·exact fE hP (s.ext (e1.trans (e2.trans e3))) R3 (e1.trans (e2.trans e3)) h λz g4 rA H4 v4 e4 R4 r4 h =>
   ⟨y,z,g4,rA,R4,r2.ext (e3.trans e4),r4,l7 (λd g' h=>h.ext (e1.trans (e2.trans (e3.trans e4)))) h⟩
theorem UA(hu:X.A.units+100<cLine)(ha:PE X a (LE X.K Ξ (aV P ma)))(hb:PE X b (LE X.K Ξ (aV P mb)))(hc:PE X c (LE X.K Ξ (aV P mc)))(hm:lastMarks [op,hZ] [b,c]=false) :
  PE X (.Compare a [op,hZ] [b,c] pos) (LE X.K Ξ (aV P (.chain op hZ ma mb mc))):=(Yb (Q6 hu op) (Q6 hu hZ) ha hb hc hm).imp (Ew hP)
theorem Xm{U:S}{g:G}{Q:Bool->G->Prop}{E:KX}(h:dD P (.gb (.chain op hZ ma mb mc)) U g Q E):aV P (.chain op hZ ma mb mc) U g (λd g'=>∃t,d=.bl t/\Q t g') E:=by
 have one:∀{o:CmpOp} {xs:List D} {g:G},cN (.cmp o) xs g (λd g1=>V4 g1 d λb=>Q b g1)->cN (.cmp o) xs g λd g'=>∃t,d=.bl t/\Q t g':=by
  intro o xs g h;obtain⟨d',g',h,t',ht,q⟩:=h;obtain⟨x',y',t,ex,hc,rfl,rfl⟩:=id h;refine⟨_,_,h,t',?_,q⟩;rcases ht with⟨z,_⟩|z|⟨i,z,_⟩|⟨l,z,_⟩|⟨a,l,z,_⟩<;>first|exact z|cases z
 refine a9 hP ma _ _ _ _ _ _ (λx g1 h=>a9 hP mb _ _ _ _ _ _ (λy g2 h=>l7 (λz g3 h=>?_) h) (λ_ _ z=>z) h) (λ_ _ z=>z) h;obtain⟨t,rfl,h⟩:=h;refine⟨t,rfl,?_⟩;cases t
 ·obtain⟨b,hb,q⟩:=(show V4 g3 (.bl false) λb=>Q b g3 from h)
  rcases hb with⟨z,_⟩|z|⟨i,z,_⟩|⟨l,z,_⟩|⟨a,l,z,_⟩<;>first|(cases z;exact⟨_,rfl,q⟩)|cases z
 ·exact a9 hP mc _ _ _ _ _ _ (λw g4 h=>one h) (λ_ _ z=>z) h
theorem UL(hu:X.A.units+100<cLine)(ha:PE X a (LE X.K Ξ (aV P ma)))(hb:PE X b (LE X.K Ξ (aV P mb)))(hc:PE X c (LE X.K Ξ (aV P mc)))(hm:lastMarks [op,hZ] [b,c]=false) :
  PT X (.Compare a [op,hZ] [b,c] pos) (LT X.K Ξ (dD P (.gb (.chain op hZ ma mb mc)))) :=
 (Yj (Q6 hu op) (Q6 hu hZ) ha hb hc hm).imp λcb H Q ⟨U,g,ρ,s,R,h⟩ =>
  Ew hP cb H _ (fE hP s R (.refl _ _) (Xm hP h) λx g1 cc H1 v1 e1 R1 r1 h=>by
   obtain⟨t,rfl,h⟩:=h;exact ⟨t,r1.F9,h cc H1 e1 R1⟩)
theorem NL(ha:PE X a (LE X.K Ξ (aV P ma)))(hb:PE X (.BoolOp .And (b::rest) pos) (LE X.K Ξ (aV P mb))):PE X (.BoolOp .And (a::b::rest) pos) (LE X.K Ξ (aV P (.eG ma mb))) :=
 (Nj ha hb).imp λcb H Q br=>by
  obtain⟨U,g,ρ,s,R,h⟩:=br;refine fE hP s R (.refl _ _) h λx g1 cc H1 v1 e1 R1 r1 h=>?_;obtain⟨t,rfl,h⟩:=h;refine⟨t,r1.F9,?_⟩;cases t
  ·exact h cc H1 _ e1 R1 (.bl _)
  ·exact fE hP (s.ext e1) R1 e1 h λy g2 fC H2 v2 e2 R2 r2 h=>h fC H2 v2 (e1.trans e2) R2 r2
theorem Tv(ha:PE X a (LE X.K Ξ (aV P ma)))(hb:PE X (.BoolOp .Or (b::rest) pos) (LE X.K Ξ (aV P mb))):PE X (.BoolOp .Or (a::b::rest) pos) (LE X.K Ξ (aV P (.iW ma mb))) :=
 (Tg ha hb).imp λcb H Q br=>by
  obtain⟨U,g,ρ,s,R,h⟩:=br;refine fE hP s R (.refl _ _) h λx g1 cc H1 v1 e1 R1 r1 h=>?_;obtain⟨t,rfl,h⟩:=h;refine⟨t,r1.F9,?_⟩;cases t
  ·exact fE hP (s.ext e1) R1 e1 h λy g2 fC H2 v2 e2 R2 r2 h=>h fC H2 v2 (e1.trans e2) R2 r2
  ·exact h cc H1 _ e1 R1 (.bl _)
theorem NQ(ha:PE X a (LE X.K Ξ (aV P ma))):PE X (.UnaryOp .Not a pos) (LE X.K Ξ (aV P (.dW ma))) :=
 (Np ha).imp λcb H Q br=>by
  obtain⟨U,g,ρ,s,R,h⟩:=br;refine fE hP s R (.refl _ _) h λx g1 cc H1 v1 e1 R1 r1 h=>?_;obtain⟨t,rfl,h⟩:=h;exact⟨t,r1.F9,h cc H1 _ e1 R1 (.bl _)⟩
theorem NP(hc:PT X c (LT X.K Ξ (dD P mc)))(ha:PE X a (LE X.K Ξ (aV P ma)))(hb:PE X b (LE X.K Ξ (aV P mb))):PE X (.IfExp c a b pos) (LE X.K Ξ (aV P (.ite mc ma mb))) :=
 (Yd hc ha hb).imp λcb H Q br=>by
  obtain⟨U,g,ρ,s,R,h⟩:=br;refine oE hP s R (.refl _ _) h λt g1 cc H1 e1 R1 h=>?_;cases t
  ·exact fE hP (s.ext e1) R1 e1 h λy g2 fC H2 v2 e2 R2 r2 h=>h fC H2 v2 (e1.trans e2) R2 r2
  ·exact fE hP (s.ext e1) R1 e1 h λy g2 fC H2 v2 e2 R2 r2 h=>h fC H2 v2 (e1.trans e2) R2 r2
theorem NR{k:Nat}(h:PA X es (LA X.K Ξ (fJ P hJ))):PE X (.Tuple es k pos) (LE X.K Ξ (aV P (.prim .tup hJ))) :=
 (Nt h).imp λcb H Q br=>by
  obtain⟨U,g,ρ,s,R,h⟩:=br;refine jT hP s R (.refl _ _) h λds g1 cc H1 vs e1 R1 r1 h=>?_;obtain⟨d',g',⟨hz,rfl,rfl⟩,q⟩:=h;exact⟨by rw[<- r1.length];exact i9 (aD hz ∅),λp hp=>(q.ext e1).tup R1 hp r1⟩
theorem GK(h:PA X es (LA X.K Ξ (fJ P hJ))):PE X (.List es pos) (LE X.K Ξ (aV P (.prim .lst hJ))) :=
 (GA h).imp λcb H Q br=>by
  obtain⟨U,g,ρ,s,R,h⟩:=br;refine jT hP s R (.refl _ _) h λds g1 cc H1 vs e1 R1 r1 h=>?_;obtain⟨d',g',⟨hz,rfl,rfl⟩,q⟩:=h;exact⟨by rw[<- r1.length];exact i9 (aD hz ∅),λp hp=>(q.ext e1).new R1 hp r1⟩
theorem F2:PA X [] (LA X.K Ξ (fJ P .nil)) :=
 (K8).imp λcb H Q br=>by
  obtain⟨U,g,ρ,s,R,h⟩:=br;exact h ρ H [] (.refl _ _) R .nil
theorem t9(ha:PE X a (LE X.K Ξ (aV P ma)))(h:PA X es (LA X.K Ξ (fJ P hJ)))(hs:starEach (a::es) X.env=(false,eval a X.env)::starEach es X.env):PA X (a::es) (LA X.K Ξ (fJ P (.cons ma hJ))) :=
 (B8 ha h hs).imp λcb H Q br=>by
  obtain⟨U,g,ρ,s,R,h⟩:=br;exact fE hP s R (.refl _ _) h λx g1 cc H1 v1 e1 R1 r1 h=>jT hP (s.ext e1) R1 e1 h λxs g2 fC H2 vs e2 R2 r2 h=>h fC H2 _ (e1.trans e2) R2 (.cons (r1.ext e2) r2)
theorem UH(ha:PE X a (LE X.K Ξ (aV P ma)))(hb:PE X b (LE X.K Ξ (aV P mb))):PE X (.Subscript a (.Slice (some b) none none p2) pos) (LE X.K Ξ (aV P (.prim (.jC true false) (.cons ma (.cons mb .nil))))) :=
 (EL Iu ha (HC hb) HB).imp λcb H Q br=>by
  obtain⟨U,g,ρ,s,R,h⟩:=br;refine fE hP s R (.refl _ _) h λx g1 cc H1 v1 e1 R1 r1 h=>fE hP (s.ext e1) R1 e1 h λy g2 fC H2 v2 e2 R2 r2 h=>?_;obtain⟨d',g',⟨x',i,ex,h⟩,q⟩:=h;cases ex;exact⟨i,r2.j0,x,g2,fC,d',g',R2,r1.ext e2,h,q.ext (e1.trans e2)⟩
theorem UG(ha:PE X a (LE X.K Ξ (aV P ma)))(hb:PE X b (LE X.K Ξ (aV P mb))):PE X (.Subscript a (.Slice none (some b) none p2) pos) (LE X.K Ξ (aV P (.prim (.jC false true) (.cons ma (.cons mb .nil))))) :=
 (EL Iu ha HB (HC hb)).imp λcb H Q br=>by
  obtain⟨U,g,ρ,s,R,h⟩:=br;refine fE hP s R (.refl _ _) h λx g1 cc H1 v1 e1 R1 r1 h=>fE hP (s.ext e1) R1 e1 h λy g2 fC H2 v2 e2 R2 r2 h=>?_;obtain⟨d',g',⟨x',i,ex,h⟩,q⟩:=h;cases ex;exact⟨i,r2.j0,x,g2,fC,d',g',R2,r1.ext e2,h,q.ext (e1.trans e2)⟩
theorem Od(ha:PE X a (LE X.K Ξ (aV P ma)))(he:∀whole,isTrue a X.env whole=(do let v <- whole;standAt a.pos;holding [v] (truthy v))):PT X a (LT X.K Ξ (dD P (.gb ma))) :=
 (Uu ha he).imp λcb H Q br=>by
  obtain⟨U,g,ρ,s,R,h⟩:=br;refine fE hP s R (.refl _ _) h λx g1 cc H1 v1 e1 R1 r1 h=>?_;obtain⟨b,h1,h2⟩:=h;exact⟨b,Oq R1 r1 h1,h2 cc H1 e1 R1⟩
theorem Ob(ha:PT X a (LT X.K Ξ (dD P ma))):PT X (.UnaryOp .Not a pos) (LT X.K Ξ (dD P (.dW ma))) :=
 (NA ha).imp λcb H Q br=>by
  obtain⟨U,g,ρ,s,R,h⟩:=br;exact oE hP s R (.refl _ _) h λt g1 cc H1 e1 R1 h=>h cc H1 e1 R1
theorem Of(ha:PT X a (LT X.K Ξ (dD P ma)))(hb:PW X (.BoolOp .And (b::rest) pos) (LT X.K Ξ (dD P mb))):PW X (.BoolOp .And (a::b::rest) pos) (LT X.K Ξ (dD P (.eG ma mb))) :=
 (NC ha hb).imp λcb H Q br=>by
  obtain⟨U,g,ρ,s,R,h⟩:=br;refine oE hP s R (.refl _ _) h λt g1 cc H1 e1 R1 h=>?_;cases t
  ·exact h cc H1 e1 R1
  ·exact oE hP (s.ext e1) R1 e1 h λt g2 fC H2 e2 R2 h=>h fC H2 (e1.trans e2) R2
theorem Ly(ha:PT X a (LT X.K Ξ (dD P ma)))(hb:PW X (.BoolOp .Or (b::rest) pos) (LT X.K Ξ (dD P mb))):PW X (.BoolOp .Or (a::b::rest) pos) (LT X.K Ξ (dD P (.iW ma mb))) :=
 (Tn ha hb).imp λcb H Q br=>by
  obtain⟨U,g,ρ,s,R,h⟩:=br;refine oE hP s R (.refl _ _) h λt g1 cc H1 e1 R1 h=>?_;cases t
  ·exact oE hP (s.ext e1) R1 e1 h λt g2 fC H2 e2 R2 h=>h fC H2 (e1.trans e2) R2
  ·exact h cc H1 e1 R1
theorem Qw:lB X [] (LT X.K Ξ (dD P .no)) :=
 (PY).imp λcb H Q br=>by
  obtain⟨U,g,ρ,s,R,h⟩:=br;exact h ρ H (.refl _ _) R
theorem NM{x:Str}{v:Value}(hv:(∃id,v=.builtin id)\/∃T,v=.type T)(hc:k9 X v (rN X.K p))(hg:Gl X x)(hm:X.mg x=none)(hb:bootBuiltins x=some v)(ha:PA X (e::es) (LA X.K Ξ (fJ P hJ)))(hn:x≠"__name__")(hd:(x==("__debug__":Str))=false)(eJ:starEach (e::es) X.env=(false,eval e X.env)::starEach es X.env)(gE:(backTo pos (starEach es X.env)).any (·.1)=false):PE X (.Call (.Name x q) (e::es) [] pos) (LE X.K Ξ (aV P (.prim p hJ))):=by
 have base:PE X (.Call (.Name x q) (e::es) [] pos) (xB (rN X.K p) (LA X.K Ξ (fJ P hJ))):=by
  rcases hv with⟨id,rfl⟩|⟨T,rfl⟩
  ·exact S7 hc hg hm hb ha hn hd eJ gE
  ·exact K7 hc hg hm hb ha hn hd eJ gE
 refine base.imp λcb H Q br=>?_;obtain⟨U,g,ρ,s,R,h⟩:=br;exact jT hP s R (.refl _ _) h λxs g1 cc H1 vs e1 R1 r1 h=>⟨xs,g1,cc,R1,r1,l7 (λd g' h=>h.ext e1) h⟩
theorem Qi{o:Expr}{mo:ME}{T:String}{name:Str}{id:String}{apos:Pos}(pa:PlainAttrs T)(slot:Slot T name id)(oR:typeOf (.builtin id)=pure (.type "method_descriptor"))(hm:jP X id (rM X.K p))(hk:∀{d:D} {v:V} {g:G} {ρ:List Addr} {H:Hp},Rl X.K ρ g H->c9 X.K ρ H d v->kQ p d g->mW X.K T v H)(ho:PE X o (LE X.K Ξ (aV P mo)))(ha:PA X (e::es) (LA X.K Ξ (fJ P hJ)))(iO:attributeBase o name X.env (eval o X.env)=eval o X.env)(pj:((backTo pos (starEach (e::es) X.env)).all (λx=>!x.1)&&(backToKw pos (keywordEach [] X.env)).all (λx=>x.1.isSome)&&decide ((e::es).length+([]:List Keyword).length+(if([]:List Keyword).isEmpty then 0 else 1)<30))=true)(iN:(apos.endLine==pos.line)=true)(hs:starEach (e::es) X.env=(false,eval e X.env)::starEach es X.env)(gD:(backTo pos (starEach es X.env)).any (·.1)=false) :
  PE X (.Call (.Attribute o name apos) (e::es) [] pos) (LE X.K Ξ (aV P (.et p mo hJ))) :=
 (Tc pa slot oR hm ho ha iO pj iN hs gD).imp λcb H Q br=>by
  obtain⟨U,g,ρ,s,R,h⟩:=br;exact fE hP s R (.refl _ _) h λx g1 cc H1 v1 e1 R1 r1 h=>⟨hk R1 r1 h.1,jT hP (s.ext e1) R1 e1 h.2 λxs g2 fC H2 ws e2 R2 r2 h =>
   ⟨x,xs,g2,fC,R2,r1.ext e2,r2,l7 (λd g' h=>h.ext (e1.trans e2)) h⟩⟩
theorem UE{o:Expr}{mo:ME}{T:String}{name:Str}{id:String}{apos:Pos}(pa:PlainAttrs T)(slot:Slot T name id)(oR:typeOf (.builtin id)=pure (.type "method_descriptor"))(hm:jP X id (rM X.K p))(hk:∀{d:D} {v:V} {g:G} {ρ:List Addr} {H:Hp},Rl X.K ρ g H->c9 X.K ρ H d v->kQ p d g->mW X.K T v H)(ho:PE X o (LE X.K Ξ (aV P mo)))(iO:attributeBase o name X.env (eval o X.env)=eval o X.env)(iN:(apos.endLine==pos.line)=true) :
  PE X (.Call (.Attribute o name apos) [] [] pos) (LE X.K Ξ (aV P (.et p mo .nil))) :=
 (Nk pa slot oR hm ho iO iN).imp λcb H Q br=>by
  obtain⟨U,g,ρ,s,R,h⟩:=br;exact fE hP s R (.refl _ _) h λx g1 cc H1 v1 e1 R1 r1 h=>⟨hk R1 r1 h.1,x,[],g1,cc,R1,r1,.nil,l7 (λd g' h=>h.ext e1) h.2⟩
theorem UB(hc:X.calm=true)(ha:PE X a (LE X.K Ξ (aV P ma)))(ph:Gl X "list")(oX:X.mg "list"=none)(hg:Gl X "range")(hm:X.mg "range"=none)(hs:starEach [a] X.env=[(false,eval a X.env)]) :
  PE X (.Call (.Name "list" p2) [.Call (.Name "range" q) [a] [] pos] [] ko) (LE X.K Ξ (aV P (.prim .lU (.cons ma .nil)))) :=
 (K7 (U9 hc) ph oX (by rfl) (B8 (VJ hg hm (t9 hP ha (F2 hP) (by rw[hs];rfl)) hs) K8)).imp λcb H Q br=>by
  obtain⟨U,g,ρ,s,R,h⟩:=br;refine jT hP s R (.refl _ _) h λxs g1 cc H1 vs e1 R1 r1 h=>?_;obtain⟨d',g',⟨j,rfl,h1,h2,rfl,rfl⟩,q⟩:=h;obtain⟨v,rfl,rv⟩:=r1.one;obtain rfl:=rv.j0;refine⟨j,rfl,λq' hq=>⟨q',0,j,rfl,i3,⟨by omega,by omega,h1,by omega,by omega⟩,λp hp=>?_⟩⟩;rw[show(j-0).toNat=j.toNat by omega];exact(q.ext (e1.trans (p8 hq))).new (R1.grow hq) hp (a8.lu 0 _)
theorem UC(hc:X.calm=true)(ha:PE X a (LE X.K Ξ (aV P ma)))(hb:PE X b (LE X.K Ξ (aV P mb)))(ph:Gl X "list")(oX:X.mg "list"=none)(hg:Gl X "range")(hm:X.mg "range"=none)(hs:starEach [a,b] X.env=[(false,eval a X.env),(false,eval b X.env)])(fO:starEach [b] X.env=[(false,eval b X.env)]) :
  PE X (.Call (.Name "list" p2) [.Call (.Name "range" q) [a,b] [] pos] [] ko) (LE X.K Ξ (aV P (.prim .lT (.cons ma (.cons mb .nil))))) :=
 (K7 (U9 hc) ph oX (by rfl) (B8 (VL hg hm (t9 hP ha (t9 hP hb (F2 hP) (by rw[fO];rfl)) (by rw[hs,fO])) hs fO) K8)).imp λcb H Q br=>by
  obtain⟨U,g,ρ,s,R,h⟩:=br;refine jT hP s R (.refl _ _) h λxs g1 cc H1 vs e1 R1 r1 h=>?_;obtain⟨d',g',⟨i,j,rfl,hb,rfl,rfl⟩,q⟩:=h;obtain⟨v,w,rfl,rv,eF⟩:=r1.two;obtain rfl:=rv.j0;obtain rfl:=eF.j0;exact⟨i,j,rfl,λq' hq=>⟨q',i,j,rfl,i3,hb,λp hp=>(q.ext (e1.trans (p8 hq))).new (R1.grow hq) hp (a8.lu i _)⟩⟩
theorem Qj(hc:X.calm=true)(ha:PE X a (LE X.K Ξ (aV P ma)))(ph:Gl X "sorted")(oX:X.mg "sorted"=none)(hg:Gl X "set")(hm:X.mg "set"=none)(hs:starEach [a] X.env=[(false,eval a X.env)]) :
  PE X (.Call (.Name "sorted" p2) [.Call (.Name "set" q) [a] [] pos] [] ko) (LE X.K Ξ (aV P (.prim .sset (.cons ma .nil)))) :=
 (S7 (Uo hc) ph oX (by rfl) (B8 (K7 (Y3 hc) hg hm (by rfl) (t9 hP ha (F2 hP) (by rw[hs];rfl)) ∅ ∅ (by rw[hs];rfl) rfl) K8)).imp λcb H Q br=>by
  obtain⟨U,g,ρ,s,R,h⟩:=br;refine jT hP s R (.refl _ _) h λxs g1 cc H1 vs e1 R1 r1 h=>?_;obtain⟨d',g',⟨i,ns,rfl,hl,hz,rfl,rfl⟩,q⟩:=h;obtain⟨v,rfl,rv⟩:=r1.one;obtain⟨a',rfl,ra⟩:=rv.j7;obtain⟨ws,hq,rs⟩:=R1.items hl ra;obtain rfl:=rs.ints;refine⟨_,ns,rfl,hq,hz,λq' jK=>⟨q',ns,rfl,i3,hz,λp hp=>?_⟩⟩;exact(q.ext (e1.trans (p8 jK))).new (R1.grow jK) hp (a8.ofInts _)
theorem Qg(hc:X.calm=true)(ha:PE X a (LE X.K Ξ (aV P ma)))(ph:Gl X "len")(oX:X.mg "len"=none)(hg:Gl X "set")(hm:X.mg "set"=none)(hs:starEach [a] X.env=[(false,eval a X.env)]) :
  PE X (.Call (.Name "len" p2) [.Call (.Name "set" q) [a] [] pos] [] ko) (LE X.K Ξ (aV P (.prim .pK (.cons ma .nil)))) :=
 (S7 Ug ph oX PySem.boot_len (B8 (K7 (Y3 hc) hg hm (by rfl) (t9 hP ha (F2 hP) (by rw[hs];rfl)) ∅ ∅ (by rw[hs];rfl) rfl) K8)).imp λcb H Q br=>by
  obtain⟨U,g,ρ,s,R,h⟩:=br;refine jT hP s R (.refl _ _) h λxs g1 cc H1 vs e1 R1 r1 h=>?_;obtain⟨d',g',⟨i,ns,rfl,hl,hz,rfl,rfl⟩,q⟩:=h;obtain⟨v,rfl,rv⟩:=r1.one;obtain⟨a',rfl,ra⟩:=rv.j7;obtain⟨ws,hq,rs⟩:=R1.items hl ra;obtain rfl:=rs.ints;refine⟨_,ns,rfl,hq,by omega,λq' jK=>⟨q',_,rfl,i3,?_⟩⟩;exact(q.ext (e1.trans (p8 jK))).now (R1.grow jK) (.int _)
theorem NN{f:Str}(ha:PE X a (LE X.K Ξ (aV P ma)))(hb:attributeBase a f X.env (eval a X.env)=eval a X.env):PE X (.Attribute a f pos) (LE X.K Ξ (aV P (.prim (.fld f) (.cons ma .nil)))) :=
 (Nl ha hb).imp λcb H Q br=>by
  obtain⟨U,g,ρ,s,R,h⟩:=br;refine fE hP s R (.refl _ _) h λx g1 cc H1 v1 e1 R1 r1 h=>?_;obtain⟨d',g',⟨i,c,fs,ex,hi,hf,rfl⟩,q⟩:=h;cases ex;obtain⟨a',rfl,ra⟩:=r1.j7;obtain⟨C,dx,vs,hH,_,hC,rk,na⟩:=R1.ins hi ra;have lk:=rk.look f;rw[hf] at lk;obtain⟨v,hv,rv⟩:=lk.some;exact⟨a',C,dx,vs,v,rfl,hH,hC,na _ (aE hf),hv,q cc H1 v e1 R1 rv⟩
end
section
variable{X:Cx}{pos:Pos}
theorem NS{i:Nat}{x:Str}(hN:X.N[i]?=some x)(hv:wX X.env.scope x)(hd:(x==("__debug__":Str))=false)(jl:(x==("__classdict__":Str))=false):PE X (.Name x pos) (LE X.K Ξ (aV P (.var i))) :=
 (wA hN hv hd jl).imp λcb H Q br=>by
  obtain⟨U,g,ρ,s,R,h⟩:=br;obtain⟨d,e,h⟩:=h;obtain⟨v,h1,h2⟩:=s.val _ _ e;exact⟨v,h1,h.now R h2⟩
theorem N8{e:Expr}{d:D}{v:V}(h:PE X e (tC v))(r:∀ρ H,c9 X.K ρ H d v):PE X e (LE X.K Ξ (aV P (.lit d))) :=
 h.imp λcb H Q br=>by
  obtain⟨U,g,ρ,s,R,h⟩:=br;exact LQ.now h R (r ρ H)
theorem Qe:PE X (.Dict [] [] pos) (LE X.K Ξ (aV P (.prim .kZ .nil))) :=
 (Yc).imp λcb H Q ⟨U,g,ρ,s,R,h⟩ p hp=>by
  obtain⟨d',g',⟨_,rfl,rfl⟩,q⟩:=h;exact q (ρ++[p]) _ _ (K0 hp) (R.new hp f6.nil) (.ref (R.x8 p))
end
end M
namespace L2
open PySem PySem.Spec PyProof.Rows
end L2
namespace M
open PySem L2 PySem.Spec PyProof.Rows
variable{K:PySem.W.Frag}{H H0:Hp}{a C fa:Addr}{k f:Nat}{fd:FuncData}{ps:List Str}{gw mf:List Addr}{vs:List V}{x:Str}{p:Pos}{ns:List Expr}
inductive Z1(K:PySem.W.Frag):List D->List (Str×V)->Prop
 |nil:Z1 K [] []
 |cons {x:Str} {d:D} {v:V} {ds:List D} {vs:List (Str×V)} (h:∀ρ H,c9 K ρ H d v) (r:Z1 K ds vs):Z1 K (.tup [.str x,d]::ds) ((x,v)::vs)
theorem Z1.look{ρ:List Addr}{ds vs}(x:Str)(h:Z1 K ds vs):U4 K ρ H (uz ds x) (vs.lookup x):=by
 induction h with
 |nil=>trivial
 |cons h r ih =>
  rename_i y d v ds vs;unfold uz;rw[dj];by_cases e:x=y
  ·rw[aF e,show(x==y)=true from by simp[e]];exact h ρ H
  ·rw[aA e,show(x==y)=false from by simpa using e];exact ih
def Sa(X:Cx)(x:Str)(aU:List D):Prop:=∃A vs,X.mg x=some (.ref A)/\AQ X.K X.w.params A vs/\Z1 X.K aU vs
theorem Wa(a b c:Str):a++b++c=a++(b++c):=by
 exact cO Str.mk (Jd ..)
theorem Pf(x:Str):Str.empty++x=x:=by cases x;show Str.mk _=_;simp[Str.empty]
section
variable{X:Cx}{Ξ:gQ}{P:fe}(hP:i4 P){a c:Expr}{ma:ME}{pos:Pos}
include hP
theorem NO{y:Str}{q p2:Pos}(ha:PE X a (LE X.K Ξ (aV P ma)))(hg:Gl X "isinstance")(hm:X.mg "isinstance"=none)(yC:Gl X y)(KA:(y==("__debug__":Str))=false)(Ki:X.mg y=some (.ref C))(hC:f9 X.K y C)(hs:starEach [a,.Name y p2] X.env=(false,eval a X.env)::starEach [.Name y p2] X.env) :
  PE X (.Call (.Name "isinstance" q) [a,.Name y p2] [] pos) (LE X.K Ξ (aV P (.prim (.xU y) (.cons ma .nil)))) :=
 (S7 Xj hg hm (by first|exact lH|decide +kernel) (B8 ha (B8 (Aj (v:=.ref C) yC Ki rfl KA) K8) hs) ∅ ∅ hs rfl).imp λcb H Q br=>by
  obtain⟨U,g,ρ,s,R,h⟩:=br;refine fE hP s R (.refl _ _) h λd g1 cc H1 v1 e1 R1 r1 h=>?_;obtain⟨d',g',⟨x,ex,⟨i,fs,rfl,hi⟩,rfl,rfl⟩,q⟩:=h;cases ex;obtain⟨a',rfl,ra⟩:=r1.j7;obtain⟨C',dx,vs,hH,nY,_⟩:=R1.ins hi ra;obtain rfl:C'=C:=by
   have z:=nY.symm.trans hC;injection z with z;injection z with z;injection z
  exact⟨a',C',dx,vs,rfl,hH,q cc H1 _ e1 R1 (.bl true)⟩
theorem Tu(ha:PE X a (LE X.K Ξ (aV P ma))):PE X (.FormattedValue a (-1) none pos) (LE X.K Ξ (aV P (.prim .fv (.cons ma .nil)))) :=
 (Td ha).imp λcb H Q br=>by
  obtain⟨U,g,ρ,s,R,h⟩:=br;refine fE hP s R (.refl _ _) h λd g1 cc H1 v1 e1 R1 r1 h=>?_;obtain⟨d',g',⟨rfl,h⟩,q⟩:=h;rcases h with⟨i,ex,h1,rfl⟩|⟨z,ex,h1,rfl⟩
  ·cases ex;exact .inl ⟨i,r1.j0,h1,q cc H1 _ e1 R1 (.str _)⟩
  ·cases ex;exact .inr ⟨z,r1.j5,i9 (),q cc H1 _ e1 R1 (.str _)⟩
omit hP in
inductive lC(X:Cx)(Ξ:gQ)(P:fe):List Expr->ME->List TE->Prop
 |nil:lC X Ξ P [] .nil []
 |lit {x:Str} {j:Nat} {p:Pos} {es:List Expr} {ms:ME} {ts:List TE} (hx:x.length<=2000) (r:lC X Ξ P es ms ts):lC X Ξ P (.Constant (.str x) j p::es) (.cons (.lit (.str x)) ms) (LE X.K Ξ (aV P (.lit (.str x)))::ts)
 |val {e:Expr} {m:ME} {p:Pos} {es:List Expr} {ms:ME} {ts:List TE} (he:PE X e (LE X.K Ξ (aV P m))) (r:lC X Ξ P es ms ts):lC X Ξ P (.FormattedValue e (-1) none p::es) (.cons (.prim .fv (.cons m .nil)) ms) (LE X.K Ξ (aV P (.prim .fv (.cons m .nil)))::ts)
theorem lC.JC{es ms ts}(h:lC X Ξ P es ms ts):qU X es ts:=by
 induction h with
 |nil=>exact .nil
 |lit hx r ih=>exact .cons (N8 GB λ_ _=>.str _) ih
 |val he r ih=>exact .cons (Tu hP he) ih
theorem lC.join{cb:L2.St}{Q:Str->Hp->Prop}{es ms ts}(hf:lC X Ξ P es ms ts):∀{U:S} {g:G} {ρ:List Addr} {H:Hp} {acc:Str},acc.length+2000*es.length<=100000->l0 X.K ρ H U cb->Rl X.K ρ g H ->
  fJ P ms U g (λds g1=>∃x,P5 ds=some x/\∀bP H',Ext ρ H bP H'->Rl X.K bP g1 H'->Q (acc++x) H') (LX X.K ρ H Ξ)->wc ts cb H acc (λout H1=>out.length<=sizeLine/\Q out H1):=by
 have tl:∀{acc y:Str} {ρ:List Addr} {H:Hp} {cc:List Addr} {H1:Hp} {ds:List D} {g1:G},Ext ρ H cc H1->(∃x,P5 (.str y::ds)=some x/\∀bP H',Ext ρ H bP H'->Rl X.K bP g1 H'->Q (acc++x) H')->∃x,P5 ds=some x/\∀bP H',Ext cc H1 bP H'->Rl X.K bP g1 H'->Q (acc++y++x) H':=by
  intro acc y ρ H cc H1 ds g1 e1 h;obtain⟨x,hx,h⟩:=h;simp only[P5] at hx;cases hj:P5 ds with
  |none=>simp_all
  |some x' =>
   rw[hj] at hx;cases hx;refine⟨x',rfl,λbP H' e' R'=>?_⟩;rw[Wa];exact h bP H' (e1.trans e') R'
 induction hf with
 |nil =>
  intro U g ρ H acc ha s R h;obtain⟨x,hx,h⟩:=h;cases hx;exact⟨i9 (by simpa using ha),h ρ H (.refl _ _) R⟩
 |lit hx r ih =>
  rename_i y j p es ms ts;intro U g ρ H acc ha s R h;refine⟨U,g,ρ,s,R,?_⟩;intro cc H1 v1 e1 R1 r1;obtain rfl:=r1.j5;have hl:(acc++y).length<=acc.length+2000:=by rw[strLen_append];omega
  simp only[List.length_cons] at ha;exact⟨y,rfl,i9 (),ih () (s.ext e1) R1 (r9 hP _ _ _ _ _ _ _ (λds g1 h=>tl e1 h) (λ_ _ z=>LX.ext e1 z) h)⟩
 |val he r ih =>
  rename_i e m p es ms ts;intro U g ρ H acc ha s R h;refine⟨U,g,ρ,s,R,?_⟩;simp only[List.length_cons] at ha;refine a9 hP m _ _ _ _ _ _ (λd g1 h=>?_) (λ_ _ z=>z) h;obtain⟨d',g',⟨rfl,h⟩,q⟩:=h;have hy:∃y,d'=.str y/\y.length<=2000:=by
   rcases h with⟨i,ex,h1,rfl⟩|⟨z,ex,h1,rfl⟩
   ·exact⟨_,rfl,by rw[iD];have:=int_text_length_le ∅ h1;omega⟩
   ·exact⟨z,rfl,h1⟩
  obtain⟨y,rfl,hy⟩:=hy;refine⟨_,_,⟨rfl,h⟩,λcc H1 v1 e1 R1 r1=>?_⟩;obtain rfl:=r1.j5;have hl:(acc++y).length<=acc.length+2000:=by rw[strLen_append];omega
  exact⟨y,rfl,i9 (),ih () (s.ext e1) R1 (r9 hP _ _ _ _ _ _ _ (λds g1 h=>tl e1 h) (λ_ _ z=>LX.ext e1 z) q)⟩
theorem Qf{kO kN:Expr}{rest:List Expr}{ms:ME}{ts:List TE}(h:lC X Ξ P (kO::kN::rest) ms ts)(hl:(kO::kN::rest).length<=40):PE X (.JoinedStr (kO::kN::rest) pos) (LE X.K Ξ (aV P (.prim .kY ms))) :=
 (Pz (h.JC hP)).imp λcb H Q br=>by
  obtain⟨U,g,ρ,s,R,hw⟩:=br;refine lC.join hP h ?_ s R (r9 hP ms _ _ _ _ _ _ (λds g1 hw=>?_) (λ_ _ z=>z) hw)
  ·have:Str.empty.length=0:=rfl;omega
  ·obtain⟨d',g',⟨x,hx,rfl,rfl⟩,q⟩:=hw;refine⟨x,hx,λbP H' e' R'=>?_⟩;rw[Pf];exact q bP H' _ e' R' (.str _)
omit hP in
def nP(ex:List Str)(K:PySem.W.Frag)(n:Nat)(t:List D->G->KD->KX->Prop):Sp:=λvs H Q E=>vs.length=n/\∃ds g ρ,a8 K ρ H ds vs/\Rl K ρ g H/\t ds g (LQ K ρ H Q) (LX K ρ H (ex,E))
omit hP in
def mq(X:Cx)(P:fe)(ex:List Str)(k f:Nat)(fa:Addr)(fd:FuncData)(ps:List Str):Prop :=
 fQ X.prog X.w X.K X.mg X.base (gR X.prog X.w) k fa fd ps (nP ex X.K ps.length (P f))/\Binds X.K fd ps []/\∀ds g Q E,P f ds g Q E->ds.length=ps.length
theorem Bi{k:Nat}(F:mq X P Ξ.1 k f fa fd ps){ρ:List Addr}{g:G}{xs:List D}{Q0:KD}{Q:VK}(e0:Ext gw H0 ρ H)(R:Rl X.K ρ g H)(r:a8 X.K ρ H xs vs)(h:P f xs g Q0 (LX X.K gw H0 Ξ))(k:∀d g',Q0 d g'->LQ X.K ρ H Q d g'):nP Ξ.1 X.K ps.length (P f) (vs++[]) H Q Ξ.2:=by
 rw[dZ];exact⟨by rw[<- r.length];exact F.2.2 _ _ _ _ h,xs,g,ρ,r,R,hP _ _ _ _ _ _ _ k (λ_ _ z=>LX.ext e0 z) h⟩
theorem Qd{es:List Expr}{e:Expr}{hJ:ME}(hx:Passes (gR X.prog X.w) X Ξ.2)(F:mq X P Ξ.1 k f fa fd ps)(hr:k6 k X.A)(hg:Gl X x)(hm:X.mg x=some (.ref fa))(hk:PySem.W.keepIn X.K (.ref fa)=true)(ha:PA X (e::es) (LA X.K Ξ (fJ P hJ)))(hd:(x==("__debug__":Str))=false)(eJ:starEach (e::es) X.env=(false,eval e X.env)::starEach es X.env)(gE:(backTo pos (starEach es X.env)).any (·.1)=false):PE X (.Call (.Name x p) (e::es) [] pos) (LE X.K Ξ (aV P (.call f hJ))) :=
 (Pw F.1 hr hg hm hk F.2.1 .nil hx ha hd eJ gE).imp λcb H Q br=>by
  obtain⟨U,g,ρ,s,R,h⟩:=br;exact jT hP s R (.refl _ _) h λxs g1 cc H1 vs e1 R1 r1 h=>Bi hP F e1 R1 r1 h λd g' h=>h.ext e1
theorem Uz(hx:Passes (gR X.prog X.w) X Ξ.2)(F:mq X P Ξ.1 k f fa fd ps)(hr:k6 k X.A)(hg:Gl X x)(hm:X.mg x=some (.ref fa))(hk:PySem.W.keepIn X.K (.ref fa)=true)(hd:(x==("__debug__":Str))=false):PE X (.Call (.Name x p) [] [] pos) (LE X.K Ξ (aV P (.call f .nil))) :=
 (Ya F.1 hr hg hm hk F.2.1 .nil hx hd).imp λcb H Q br=>by
  obtain⟨U,g,ρ,s,R,h⟩:=br;exact Bi hP F (.refl _ _) R .nil h λd g' h=>h
omit hP in
inductive M9(X:Cx)(P:fe)(ex:List Str):List Expr->List Nat->List Addr->Prop
 |nil:M9 X P ex [] [] []
 |cons {x:Str} {p:Pos} {k f:Nat} {fa:Addr} {fd:FuncData} {ps:List Str} {ns:List Expr} {fs:List Nat} {mf:List Addr} (hg:Gl X x) (hm:X.mg x=some (.ref fa)) (hk:PySem.W.keepIn X.K (.ref fa)=true) (F:mq X P ex k f fa fd ps) (hr:k6 k X.A) (hd:(x==("__debug__":Str))=false) (r:M9 X P ex ns fs mf):M9 X P ex (.Name x p::ns) (f::fs) (fa::mf)
omit hP in
theorem M9.pa{ex:List Str}{fs:List Nat}(h:M9 X P ex ns fs mf):PA X ns (λ_ H Q=>Q (mf.map V.ref) H):=by
 induction h with
 |nil=>exact K8
 |cons hg hm hk F hr hd r ih=>exact(B8 (Aj (v:=.ref _) hg hm rfl hd) ih).imp λ_ _ _ q=>q
omit hP in
theorem M9.get{ex:List Str}{fs:List Nat}(h:M9 X P ex ns fs mf):∀{i f:Nat},fs[i]?=some f->∃fa k fd ps,(mf.map V.ref)[i]?=some (.ref fa)/\PySem.W.keepIn X.K (.ref fa)=true/\mq X P ex k f fa fd ps/\k6 k X.A:=by
 induction h with
 |nil=>intro i f e;cases e
 |cons hg hm hk F hr hd r ih =>
  intro i f e;cases i with
  |zero=>cases e;exact⟨_,_,_,_,rfl,hk,F,hr⟩
  |succ i=>exact ih e
omit hP in
theorem M9.len{ex:List Str}{fs:List Nat}(h:M9 X P ex ns fs mf):(mf.map V.ref).length=fs.length:=by
 induction h with
 |nil=>rfl
 |cons _ _ _ _ _ _ _ ih=>simp only[List.map_cons,List.length_cons,ih]
theorem Hr{c:Str}(F:mq X P Ξ.1 k f fa fd ps)(hC:f9 X.K c C)(hc:ju X.K C){ρ:List Addr}{g1:G}{xs:List D}{Q:VK}(e0:Ext gw H0 ρ H)(R:Rl X.K ρ g1 H)(r:a8 X.K ρ H xs vs)(h:P f (.ref g1.length::xs) (g1++[.ins c []]) (λd g2=>d=.bA/\LQ X.K gw H0 Q (.ref g1.length) g2) (LX X.K gw H0 Ξ)):∀x dx,H x=none->H dx=none->dx≠x->nP Ξ.1 X.K ps.length (P f) (.ref x::(vs++[])) (upd (upd H dx (.own x)) x (.ins C dx [])) (λv H2=>v=.bA/\Q (.ref x) H2) Ξ.2:=by
 intro x dx hx Dm gM;have vm:upd H dx (.own x) x=none:=by rw[c7 (dg gM)];exact hx
 have R2:=R.grow (o:=.own x) Dm;have e2:Ext ρ H ρ (upd H dx (.own x)):=p8 Dm;have R3:=R2.new (o:=.ins c []) (u:=.ins C dx []) vm ⟨hC,hc,.nil,λx hx=>absurd hx (by simp)⟩;have e3:Ext ρ (upd H dx (.own x)) (ρ++[x]) (upd (upd H dx (.own x)) x (.ins C dx [])):=K0 vm;have:=Bi hP F (e0.trans (e2.trans e3)) R3 (.cons (.ref (R.x8 x)) (r.ext (e2.trans e3))) h (Q:=λv H2=>v=.bA/\Q (.ref x) H2) λd g' q bP H' v e' R' r'=>by
  obtain⟨rfl,q⟩:=q;exact⟨r'.wy,q bP H' _ (e0.trans (e2.trans (e3.trans e'))) R' (.ref (e'.get (R.x8 x)))⟩
 exact this
theorem Qh{es:List Expr}{e:Expr}{hJ:ME}(hx:Passes (gR X.prog X.w) X Ξ.2)(F:mq X P Ξ.1 k f fa fd ps)(M:Mk X.K C fa)(hC:f9 X.K x C)(hc:ju X.K C)(hr:k6 (k+1) X.A)(hg:Gl X x)(hm:X.mg x=some (.ref C))(ha:PA X (e::es) (LA X.K Ξ (fJ P hJ)))(hd:(x==("__debug__":Str))=false)(eJ:starEach (e::es) X.env=(false,eval e X.env)::starEach es X.env)(gE:(backTo pos (starEach es X.env)).any (·.1)=false):PE X (.Call (.Name x p) (e::es) [] pos) (LE X.K Ξ (aV P (.make x f hJ))) :=
 (PD M F.1 hr hg hm F.2.1 .nil hx ha hd eJ gE).imp λcb H Q br=>by
  obtain⟨U,g,ρ,s,R,h⟩:=br;exact jT hP s R (.refl _ _) h λxs g1 cc H1 vs e1 R1 r1 h=>Hr hP F hC hc e1 R1 r1 h
theorem UD(hx:Passes (gR X.prog X.w) X Ξ.2)(F:mq X P Ξ.1 k f fa fd ps)(M:Mk X.K C fa)(hC:f9 X.K x C)(hc:ju X.K C)(hr:k6 (k+1) X.A)(hg:Gl X x)(hm:X.mg x=some (.ref C))(hd:(x==("__debug__":Str))=false):PE X (.Call (.Name x p) [] [] pos) (LE X.K Ξ (aV P (.make x f .nil))) :=
 (Ye M F.1 hr hg hm F.2.1 .nil hx hd).imp λcb H Q br=>by
  obtain⟨U,g,ρ,s,R,h⟩:=br;exact Hr hP F hC hc (.refl _ _) R .nil h
end
inductive ml(K:PySem.W.Frag)(ρ:List Addr)(H:Hp):List D->List (V×V)->Prop
 |nil:ml K ρ H [] []
 |cons {k d:D} {x y:V} {ds:List D} {ps:List (V×V)} (h1:c9 K ρ H k x) (h2:c9 K ρ H d y) (r:ml K ρ H ds ps):ml K ρ H (k::d::ds) ((x,y)::ps)
section
variable{X:Cx}{Ξ:gQ}{P:fe}(hP:i4 P)
inductive uK(X:Cx)(Ξ:gQ)(P:fe):List (Option Expr)->List Expr->ME->List (TE×TE)->Prop
 |nil:uK X Ξ P [] [] .nil []
 |cons {k v:Expr} {ks:List (Option Expr)} {vs:List Expr} {mk mv ms:ME} {uV:List (TE×TE)} (hk:PE X k (LE X.K Ξ (aV P mk))) (hv:PE X v (LE X.K Ξ (aV P mv))) (r:uK X Ξ P ks vs ms uV) :
   uK X Ξ P (some k::ks) (v::vs) (.cons mk (.cons mv ms)) ((LE X.K Ξ (aV P mk),LE X.K Ξ (aV P mv))::uV)
theorem uK.len{ks vs ms uV}(h:uK X Ξ P ks vs ms uV):ks.all (·.isSome)=true/\ks.length=vs.length:=by
 induction h with
 |nil=>exact⟨rfl,rfl⟩
 |cons hk hv r ih=>exact⟨by simpa using ih.1,by simp[ih.2]⟩
include hP
end
theorem Sy{l:List D}(ht:TupAt K H0 a vs)(rs:a8 K gw H0 l vs):U5 K gw H0 (.fix l) (BP K a):=by
 intro ρ g H e R i;have oS:=ht.ext e;have rX:=rs.ext e;refine⟨λh=>⟨vs,oS.sq,?_⟩,λd h=>?_⟩
 ·have:=cR.mp (aq h);rw[<- rX.length];exact this
 ·obtain⟨v,hv,rv⟩:=rX.get (aq h);refine⟨⟨vs,v,oS.sq,hv⟩,λw H' y=>?_⟩;obtain⟨rfl,y⟩:=y;have:=y vs oS.sq;rw[hv] at this;cases this;exact⟨.refl _ _,R,rv⟩
theorem Sw{j:Nat}(ha:gw[j]?=some a):U5 K gw H0 (.lst j) (BR K a):=by
 intro ρ g H e R i;have mF:=e.get ha;refine⟨λh=>?_,λd h=>?_⟩
 ·simp only[IK.at] at h;cases el:c8 g j with
  |none=>simp_all
  |some l =>
   rw[el] at h;obtain⟨vs,hq,rs⟩:=R.items el mF;refine⟨vs,hq,?_⟩;have:=cR.mp (aq h);rw[<- rs.length];exact this
 ·simp only[IK.at] at h;cases el:c8 g j with
  |none=>simp_all
  |some l =>
   rw[el] at h;obtain⟨vs,hq,rs⟩:=R.items el mF;obtain⟨v,hv,rv⟩:=rs.get (aq h);refine⟨⟨vs,v,hq,hv⟩,λw H' y=>?_⟩;obtain⟨rfl,y⟩:=y;have:=y vs hq;rw[hv] at this;cases this;exact⟨.refl _ _,R,rv⟩
theorem Ij{lo:Int}{n:Nat}:U5 K gw H0 (.fix (A7 lo n)) (uI lo n):=by
 unfold A7;intro ρ g H e R i;refine⟨λh=>?_,λd h=>?_⟩
 ·have:=cR.mp (aq h);show n<=i;simpa using this
 ·have h:=aq h;have hi:i<n:=by
   have:=(ax.mp h).1
   simp_all
  rw[aP,BZ hi] at h;cases h;refine⟨hi,λw H' y=>?_⟩;obtain⟨rfl,rfl⟩:=y;exact⟨.refl _ _,R,.int _⟩
theorem Sx{a:Str}:U5 K gw H0 (.fix (sgn a)) (BQ a):=by
 intro ρ g H e R i;refine⟨λh=>?_,λd h=>?_⟩
 ·simp only[IK.at] at h;have:=cR.mp (aq h);show a.cps.size<=i;simpa[sgn] using this
 ·simp only[IK.at] at h;have h:=aq h;unfold sgn at h;rw[aP,af] at h;obtain⟨c,hc,rfl⟩:=h;have hc:a.cps[i]?=some c:=by simpa using hc
  refine⟨(dI.mp hc).1,λw H' y=>?_⟩;obtain⟨rfl,c',h',rfl⟩:=y;rw[hc] at h';cases h';exact⟨.refl _ _,R,.str _⟩
theorem Sz{t:Addr}{l:List D}{j:Nat}(ht:TupAt K H0 t vs)(rs:a8 K gw H0 l vs)(ha:gw[j]?=some a):U5 K gw H0 (.uQ l j) (BO K t a):=by
 intro ρ g H e R i;have oS:=ht.ext e;have rX:=rs.ext e;have mF:=e.get ha;refine⟨λh=>?_,λd h=>?_⟩
 ·simp only[IK.at] at h;cases el:c8 g j with
  |none=>rw[el] at h;cases h
  |some m =>
   rw[el] at h;dsimp only at h;by_cases hl:l.length=m.length
   ·rw[aF hl] at h;have h:=aq h;rw[Option.map_eq_none_iff] at h;have:=cR.mp h;rw[List.length_zip] at this;refine⟨vs,oS.sq,?_⟩;rw[<- rX.length];omega
   ·rw[aA hl] at h;cases h
 ·simp only[IK.at] at h;cases el:c8 g j with
  |none=>rw[el] at h;cases h
  |some m =>
   rw[el] at h;dsimp only at h;by_cases hl:l.length=m.length
   ·rw[aF hl] at h;have h:=aq h;rw[af] at h;obtain⟨⟨d1,d2⟩,hd,rfl⟩:=h;obtain⟨h1,h2⟩:=List.getElem?_zip_eq_some.mp hd;obtain⟨v1,CQ,Jx⟩:=rX.get h1;obtain⟨ws,hq,rws⟩:=R.items el mF;obtain⟨v2,yg,Jw⟩:=rws.get h2;refine⟨⟨vs,ws,v1,v2,oS.sq,hq,CQ,yg⟩,λw H' y=>?_⟩;obtain⟨p,x,x',hp,rfl,y1,y2,rfl⟩:=y;have y1:=y1 vs oS.sq;rw[CQ] at y1;cases y1;have y2:=y2 ws hq;rw[yg] at y2;cases y2;exact⟨p8 hp,R.grow hp,.tup (.inl i3) (.cons (Jx.ext (p8 hp)) (.cons (Jw.ext (p8 hp)) .nil))⟩
   ·rw[aA hl] at h;cases h
end M
namespace L2
open PySem PySem.Spec PyProof.Rows
theorem Nw{X:Cx}{tg l:Expr}{tl:TE}(hl:PE X l tl):PI X tg l (λU H R=>tl U H λx H1=>(∃a,x=.ref a/\(∃xs,gs X.K H1 a xs)/\R (BR X.K a) H1)\/(∃a,x=.ref a/\(∃xs,iw X.K H1 a xs)/\R (BP X.K a) H1)\/∃a:Str,x=.str a/\a.cps.all (·<128)=true/\R (BQ a) H1):=by
 intro pins s U H R I h;refine cL (hl pins s U H _ I h) λv s1 br=>?_;obtain⟨x,H1,I1,r1,q1⟩:=br;rcases q1 with⟨a,e,⟨xs,hq⟩,q⟩|⟨a,e,⟨xs,hq⟩,q⟩|⟨a,rfl,ha,q⟩
 ·subst e;cases r1;obtain⟨bf,rv,p,hz⟩:=I1.list hq;refine dO p.isList ?_;refine⟨s1.heap.objs.size,[s1.heap.objs.size],_,_,H1,rfl,I1.kept (t':=s1.toks) λb o e=>ag _ e,We a _,⟨_,ak _ rfl,rfl,rfl⟩,λb hb=>?_,q⟩;have e:b=s1.heap.objs.size:=by simpa using hb
  subst e;exact I1.Y0 (ai _) (I1.bB.fresh (ai _))
 ·subst e;cases r1;obtain⟨bf,rv,p,hz⟩:=I1.tuple hq;refine lF (show s1.heap.IsTuple a bf.toArray from p) ?_;refine⟨s1.heap.objs.size,[s1.heap.objs.size],_,_,H1,rfl,I1.kept (t':=s1.toks) λb o e=>ag _ e,WQ a _,⟨_,ak _ rfl,rfl,rfl⟩,λb hb=>?_,q⟩;have e:b=s1.heap.objs.size:=by simpa using hb
  subst e;exact I1.Y0 (ai _) (I1.bB.fresh (ai _))
 ·obtain⟨t,rfl⟩:=r1;refine wpAny_pyIter_ascii ha ?_;refine⟨s1.heap.objs.size,[s1.heap.objs.size],_,_,H1,rfl,I1.kept (t':=s1.toks) λb o e=>ag _ e,UQ a t _,⟨_,ak _ rfl,rfl,rfl⟩,λb hb=>?_,q⟩;have e:b=s1.heap.objs.size:=by simpa using hb
  subst e;exact I1.Y0 (ai _) (I1.bB.fresh (ai _))
end L2
namespace M
open PySem L2 PySem.Spec PyProof.Rows
variable{X:Cx}{pos p tp:Pos}{i:Nat}{t:MT}{mi:ME}
section
variable{Ξ:gQ}{P:fe}(hP:i4 P){a b tg:Expr}{ma mb:ME}
include hP
theorem NV(ha:PE X a (LE X.K Ξ (aV P ma))):PI X tg a (LI X.K Ξ (jh P (.iX ma))) :=
 (Nw ha).imp λcb H R br=>by
  obtain⟨U,g,ρ,s,Rr,h⟩:=br;refine fE hP s Rr (.refl _ _) h λx g1 cc H1 v1 e1 R1 r1 h=>?_;rcases h with⟨l,rfl,h⟩|⟨i,l,rfl,hl,h⟩|⟨w,rfl,ha,h⟩
  ·obtain⟨a',vs,rfl,ht,rs⟩:=r1.N4;exact .inr (.inl ⟨_,rfl,⟨_,ht.sq⟩,h cc H1 _ e1 R1 (Sy ht rs)⟩)
  ·obtain⟨a',rfl,mF⟩:=r1.j7;obtain⟨vs,hq,rs⟩:=R1.items hl mF;exact .inl ⟨_,rfl,⟨_,hq⟩,h cc H1 _ e1 R1 (Sw mF)⟩
  ·obtain rfl:=r1.j5;exact .inr (.inr ⟨_,rfl,ha,h cc H1 _ e1 R1 Sx⟩)
theorem NW{elts:List Expr}{x1:Nat}(ha:PE X a (LE X.K Ξ (aV P ma)))(hb:PE X b (LE X.K Ξ (aV P mb)))(hg:Gl X "zip")(hm:X.mg "zip"=none)(hs:starEach [a,b] X.env=[(false,eval a X.env),(false,eval b X.env)])(fO:starEach [b] X.env=[(false,eval b X.env)]) :
  PI X (.Tuple elts x1 tp) (.Call (.Name "zip" p) [a,b] [] pos) (LI X.K Ξ (jh P (.nT ma mb))) :=
 (Nx hg hm (t9 hP ha (t9 hP hb (F2 hP) (by rw[fO];rfl)) (by rw[hs,fO])) hs fO).imp λcb H R br=>by
  obtain⟨U,g,ρ,s,Rr,h⟩:=br;refine jT hP (m:=.cons ma (.cons mb .nil)) s Rr (.refl _ _) (Q0:=λxs g1=>∃l i m,xs=[.tup l,.ref i]/\c8 g1 i=some m/\∀bP H' J,Ext ρ H bP H'->Rl X.K bP g1 H'->U5 X.K bP H' (.uQ l i) J->R J H') ?_ λxs g1 cc H1 vs e1 R1 r1 h=>?_
  ·skip
   exact a9 hP ma _ _ _ _ _ _ (λx g1 h=>a9 hP mb _ _ _ _ _ _ (λy g2 ⟨l,i,m,e,e',h1,h⟩=>⟨l,i,m,by rw[e,e'],h1,h⟩) (λ_ _ z=>z) h) (λ_ _ z=>z) h
  ·obtain⟨l,i,m,rfl,hl,h⟩:=h;obtain⟨v,w,rfl,rv,eF⟩:=r1.two;obtain⟨t,vs,rfl,ht,rs⟩:=rv.N4;obtain⟨a',rfl,ra⟩:=eF.j7;obtain⟨ws,hq,_⟩:=R1.items hl ra;exact⟨_,_,rfl,⟨_,ht.sq⟩,⟨_,hq⟩,h cc H1 _ e1 R1 (Sz ht rs ra)⟩
theorem Qp(ha:PE X a (LE X.K Ξ (aV P ma)))(hg:Gl X "range")(hm:X.mg "range"=none)(hs:starEach [a] X.env=[(false,eval a X.env)]):PI X tg (.Call (.Name "range" p) [a] [] pos) (LI X.K Ξ (jh P (.gL ma))) :=
 (VN hg hm (t9 hP ha (F2 hP) (by rw[hs];rfl)) hs).imp λcb H R br=>by
  obtain⟨U,g,ρ,s,Rr,h⟩:=br;refine jT hP s Rr (.refl _ _) (Q0:=λxs g1=>∃j:Int,xs=[.int j]/\-(2 ^ 62)<=j/\j<2 ^ 62/\∀bP H' J,Ext ρ H bP H'->Rl X.K bP g1 H'->U5 X.K bP H' (.fix (A7 0 j.toNat)) J->R J H') ?_ λxs g1 cc H1 vs e1 R1 r1 h=>?_
  ·exact a9 hP ma _ _ _ _ _ _ (λx g1 ⟨j,e,h1,h2,h⟩=>⟨j,by rw[e],h1,h2,h⟩) (λ_ _ z=>z) h
  ·obtain⟨j,rfl,h1,h2,h⟩:=h;obtain⟨v,rfl,rv⟩:=r1.one;obtain rfl:=rv.j0;exact⟨_,rfl,h1,h2,h cc H1 _ e1 R1 Ij⟩
theorem Qq(ha:PE X a (LE X.K Ξ (aV P ma)))(hb:PE X b (LE X.K Ξ (aV P mb)))(hg:Gl X "range")(hm:X.mg "range"=none)(hs:starEach [a,b] X.env=[(false,eval a X.env),(false,eval b X.env)])(fO:starEach [b] X.env=[(false,eval b X.env)]) :
  PI X tg (.Call (.Name "range" p) [a,b] [] pos) (LI X.K Ξ (jh P (.jH ma mb))) :=
 (VO hg hm (t9 hP ha (t9 hP hb (F2 hP) (by rw[fO];rfl)) (by rw[hs,fO])) hs fO).imp λcb H R br=>by
  obtain⟨U,g,ρ,s,Rr,h⟩:=br;refine jT hP s Rr (.refl _ _) (Q0:=λxs g1=>∃i j:Int,xs=[.int i,.int j]/\(-(2 ^ 62)<=i/\i<2 ^ 62/\-(2 ^ 62)<=j/\j<2 ^ 62)/\∀bP H' J,Ext ρ H bP H'->Rl X.K bP g1 H'->U5 X.K bP H' (.fix (A7 i (j-i).toNat)) J->R J H') ?_ λxs g1 cc H1 vs e1 R1 r1 h=>?_
  ·exact a9 hP ma _ _ _ _ _ _ (λx g1 h=>a9 hP mb _ _ _ _ _ _ (λy g2 ⟨i,j,e,e',h1,h⟩=>⟨i,j,by rw[e,e'],h1,h⟩) (λ_ _ z=>z) h) (λ_ _ z=>z) h
  ·obtain⟨i,j,rfl,h1,h⟩:=h;obtain⟨v,w,rfl,rv,eF⟩:=r1.two;obtain rfl:=rv.j0;obtain rfl:=eF.j0;exact⟨_,_,rfl,h1,h cc H1 _ e1 R1 Ij⟩
end
theorem NU{x:Str}(hN:X.Nd)(hi:X.N[i]?=some x)(hx:Loc X.env.scope x)(hf:X.fn x=true\/X.env.scope.names.lookup x=some .local):PG X (.Name x pos) (LG X.K (.one i)) :=
 (HA hN hi hx hf).imp λv cb H Q hq=>by
  obtain⟨d,U,g,ρ,s,R,r,h⟩:=hq;exact h _ (s.set i r)
inductive fx(X:Cx):List Expr->List Nat->Prop
 |nil:fx X [] []
 |cons {x:Str} {p:Pos} {i:Nat} {es:List Expr} {is:List Nat} (hi:X.N[i]?=some x) (hx:Loc X.env.scope x) (hf:X.fn x=true\/X.env.scope.names.lookup x=some .local) (r:fx X es is):fx X (.Name x p::es) (i::is)
def wq:List Nat->mJ
 |[]=>DT
 |i::is=>Ih (qP i) (wq is)
theorem Fz(hN:X.Nd){es:List Expr}{is:List Nat}(h:fx X es is):qV X es (wq is):=by
 induction h with
 |nil=>exact PJ
 |cons hi hx hf r ih=>exact Yf (HA hN hi hx hf) ih rfl
theorem V6:∀{es:List Expr} {is:List Nat},fx X es is->(assignEach es X.env).length=is.length/\(assignEach es X.env).findIdx? (·.1)=none
 |_,_,.nil=>⟨rfl,rfl⟩
 |_,_,.cons (x:=x) (p:=p) (es:=es) hi hx hf r=>by
  obtain⟨h1,h2⟩:=V6 r;have e:assignEach (.Name x p::es) X.env=(false,assign (.Name x p) X.env)::assignEach es X.env:=rfl;rw[e];refine⟨by simp[h1],?_⟩;rw[List.findIdx?_cons,h2]
  rfl
theorem Fo{K:PySem.W.Frag}{ρ:List Addr}{H:Hp}{k:S->Prop}{Q:L2.St->Hp->Prop}:∀{is:List Nat} {l:List D} {vs:List V} {U cx:S} {cb:L2.St},K6 is l U=some cx->a8 K ρ H l vs->l0 K ρ H U cb->(∀dC,l0 K ρ H cx dC->Q dC H)->wq is vs cb H Q
 |[],_,_,_,_,_,h,.nil,s,q=>by
  cases h;exact⟨rfl,q _ s⟩
 |[],_,_,_,_,_,h,.cons _ _,s,q=>by cases h
 |i::is,_,_,_,_,_,h,.nil,s,q=>by cases h
 |i::is,_,_,_,_,_,h,.cons r rr,s,q=>by
  exact⟨_,_,rfl,Fo (k:=k) h rr (s.set i r) q⟩
theorem FT:∀{is:List Nat} {l:List D} {U cx:S},K6 is l U=some cx->l.length=is.length
 |[],[],_,_,_=>rfl
 |[],_::_,_,_,h=>by simp only[K6] at h;cases h
 |_::_,[],_,_,h=>by simp only[K6] at h;cases h
 |_::is,_::l,_,_,h=>by simp only[K6] at h;simp[FT h]
theorem HG{es:List Expr}{is:List Nat}{k:Nat}(hc:X.calm=true)(hN:X.Nd)(hs:fx X es is):PG X (.Tuple es k pos) (LG X.K (.many is)) :=
 (Nv hc (Fz hN hs) (V6 hs).1 (V6 hs).2).imp λv cb H Q br=>by
  obtain⟨d,U,g,ρ,s,R,r,h⟩:=br;obtain⟨l,cx,rfl,e,h⟩:=h;obtain⟨a',vs,rfl,ht,rs⟩:=r.N4;exact⟨_,_,rfl,ht.sq,by rw[<- rs.length];exact FT e,Fo (k:=λ_=>True) e rs s h⟩
theorem LN.ext{K ρ H N cc H1}(e:Ext ρ H cc H1):(LN K ρ H N).le (LN K cc H1 N) :=
 ⟨λU g h bP H' dC e' R s=>h bP H' dC (e.trans e') R s,λd g h=>h.ext e,λU g h bP H' dC e' R s=>h bP H' dC (e.trans e') R s,λU g h bP H' dC e' R s=>h bP H' dC (e.trans e') R s⟩
section
variable{Ξ:gQ}{P:fe}(hP:i4 P){a b c tg:Expr}{ma mb mc:ME}{st:Stmt}{rest:List Stmt}{xM lR:MS}
include hP
theorem zO:iZ X [] (LS X.K Ξ (wpS P .pass)) :=
 (Ak).imp λN cb H ⟨U,g,ρ,s,R,h⟩=>h ρ H cb (.refl _ _) R s
theorem Ao(h1:PS X st (LS X.K Ξ (wpS P xM)))(h2:iZ X rest (LS X.K Ξ (wpS P lR))):iZ X (st::rest) (LS X.K Ξ (wpS P (.seq xM lR))) :=
 (AA h1 h2).imp λN cb H ⟨U,g,ρ,s,R,h⟩ =>
  rG hP s R (.refl _ _) (show wpS P xM { LN X.K ρ H N with nx:=λjA g1=>wpS P lR (LN X.K ρ H N) jA g1 (LX X.K ρ H Ξ) } U g (LX X.K ρ H Ξ) from h) ⟨λjA g1 h cc H1 Je e1 R1 s1=>rG hP s1 R1 e1 h (LN.ext e1),λ_ _ z=>z,λ_ _ z=>z,λ_ _ z=>z⟩
theorem Qy(ha:PE X a (LE X.K Ξ (aV P ma)))(hs:swapsWith a none pos.line X.env=pure false):PS X (.Expr a pos) (LS X.K Ξ (wpS P (.expr ma))) :=
 (PK ha hs).imp λN cb H ⟨U,g,ρ,s,R,h⟩=>fE hP s R (.refl _ _) h λx g1 cc H1 v1 e1 R1 r1 h=>h cc H1 cb e1 R1 (s.ext e1)
theorem GN{x:Str}(h0:PS X (.Assign [.Name x p] a pos) (qH (LE X.K Ξ (aV P ma)) (qP i))):PS X (.Assign [.Name x p] a pos) (LS X.K Ξ (wpS P (.set i ma))) :=
 h0.imp λN cb H ⟨U,g,ρ,s,R,h⟩=>fE hP s R (.refl _ _) h λx g1 cc H1 v1 e1 R1 r1 h=>h cc H1 _ e1 R1 ((s.ext e1).set i r1)
theorem Oj(h0:PS X (.Assign [tg] a pos) (qH (LE X.K Ξ (aV P ma)) (LG X.K t))):PS X (.Assign [tg] a pos) (LS X.K Ξ (wpS P (.mr t ma))) :=
 h0.imp λN cb H ⟨U,g,ρ,s,R,h⟩=>fE hP s R (.refl _ _) h λx g1 cc H1 v1 e1 R1 r1 h=>⟨x,U,g1,cc,s.ext e1,R1,r1,J7 (λcx h dC s'=>h cc H1 dC e1 R1 s') h⟩
theorem QB{j:Nat}(h0:PS X (.Assign [tg] a pos) (qH (LE X.K Ξ (aV P ma)) (Ii X.K (wq [i,j])))):PS X (.Assign [tg] a pos) (LS X.K Ξ (wpS P (.mV i j ma))) :=
 h0.imp λN cb H ⟨U,g,ρ,s,R,h⟩=>fE hP s R (.refl _ _) h λv g1 cc H1 v1 e1 R1 r1 h=>by
  obtain⟨b,x,l,rfl,hl,h⟩:=h;obtain⟨a',rfl,ra⟩:=r1.j7;obtain⟨vs,hq,rs⟩:=R1.items hl ra;cases rs with
  |@cons _ y _ ys rx rs =>
  refine⟨a',y,ys,rfl,hq,λp hp=>⟨y,_,rfl,.ref p,[],rfl,rfl,?_⟩⟩;have e2:=K0 (ρ:=cc) (o:=.lst ys) hp;exact h (cc++[p]) _ _ (e1.trans e2) (R1.new hp (o:=.lst l) (u:=.lst ys) rs) (((s.ext (e1.trans e2)).set i (rx.ext e2)).set j (.ref (R1.x8 p)))
theorem UO(hu:X.A.units+100<cLine){o i:Expr}{mo:ME}(ha:PE X a (LE X.K Ξ (aV P ma)))(ho:PE X o (LE X.K Ξ (aV P mo)))(hi:PE X i (LE X.K Ξ (aV P mi)))(hs:swapsWithSole [.Subscript o i tp] a pos.line X.env=pure false)(mF:∀ v,assign (.Subscript o i tp) X.env v=(do
   let ov <- holding [v] (eval o X.env)
   let iv <- holding [v,ov] (eval i X.env)
   standAt tp
   holding [v,ov,iv] (setItem ov iv v)
   release [v,ov,iv] [])):PS X (.Assign [.Subscript o i tp] a pos) (LS X.K Ξ (wpS P (.eE mo mi ma))) :=
 (zI ha (Nu ho hi (NT hu) mF) hs).imp λN cb H ⟨U,g,ρ,s,R,h⟩ =>
  fE hP s R (.refl _ _) h λx g1 cc H1 v1 e1 R1 r1 h=>fE hP (s.ext e1) R1 e1 h λy g2 fC H2 v2 e2 R2 r2 h=>fE hP (s.ext (e1.trans e2)) R2 (e1.trans e2) h λz g3 lq H3 v3 e3 R3 r3 h =>
   ⟨y,z,x,g3,lq,R3,r2.ext e3,r3,r1.ext (e2.trans e3),O8 (λg4 h rA H4 e4 R4=>h rA H4 cb (e1.trans (e2.trans (e3.trans e4))) R4 (s.ext (e1.trans (e2.trans (e3.trans e4))))) h⟩
omit hP in
def zq(K:PySem.W.Frag)(f:Str)(cs:List Str):Prop:=∀c C,c∈cs->f9 K c C->w6 K C f
omit hP in
theorem Qn{f:Str}{cs:List Str}(hF:zq X.K f cs){ρ:List Addr}{H:Hp}{g g':G}{x v:D}{xv vv:V}(R:Rl X.K ρ g H)(rx:c9 X.K ρ H x xv)(rv:c9 X.K ρ H v vv)(h:Ir f cs x v g g') :
  ∃a C dx fs,xv=.ref a/\H a=some (.ins C dx fs)/\ju X.K C/\w6 X.K C f/\fs.length<1000/\Rl X.K ρ g' (upd H a (.ins C dx (s9 f vv fs)))/\Ext ρ H ρ (upd H a (.ins C dx (s9 f vv fs))):=by
 obtain⟨i,c,fs,rfl,hi,hc,hz,rfl⟩:=h;obtain⟨a',rfl,ra⟩:=rx.j7;obtain⟨C,dx,vs,hH,hC,ku,rk,na⟩:=R.ins hi ra;obtain⟨R',e'⟩:=R.put (o':=.ins c (O9 f v fs)) (u:=.ins C dx (s9 f vv vs)) hi rfl ra ⟨hC,ku,rk.s9 rv,FR (hF c C hc hC) na⟩;exact⟨a',C,dx,vs,rfl,hH,ku,hF c C hc hC,by rw[<- rk.length];omega,R',e'⟩
theorem Qz{f:Str}{cs:List Str}{o:Expr}{mo:ME}(hF:zq X.K f cs)(ho:PE X o (LE X.K Ξ (aV P mo)))(ha:PE X a (LE X.K Ξ (aV P ma)))(hs:swapsWith a (some (.Attribute o f tp)) pos.line X.env=pure false):PS X (.Assign [.Attribute o f tp] a pos) (LS X.K Ξ (wpS P (.mZ f cs mo ma))) :=
 (Ny ho ha hs).imp λN cb H ⟨U,g,ρ,s,R,h⟩=>fE hP s R (.refl _ _) h λx g1 cc H1 v1 e1 R1 r1 h=>fE hP (s.ext e1) R1 e1 h λy g2 fC H2 v2 e2 R2 r2 h=>by
  obtain⟨g3,h,q⟩:=h;obtain⟨a',C,dx,fs,hx,hH,ku,na,hz,R3,e3⟩:=Qn hF R2 r2 (r1.ext e2) h;exact⟨a',C,dx,fs,hx,hH,ku,na,hz,q fC _ cb (e1.trans (e2.trans e3)) R3 (s.ext (e1.trans (e2.trans e3)))⟩
theorem Lz{sa sb:List Stmt}{CA msb:MS}(hc:PT X c (LT X.K Ξ (dD P mc)))(ha:iZ X sa (LS X.K Ξ (wpS P CA)))(hb:iZ X sb (LS X.K Ξ (wpS P msb))):PS X (.If c sa sb pos) (LS X.K Ξ (wpS P (.ifs mc CA msb))) :=
 (Tj hc ha hb).imp λN cb H ⟨U,g,ρ,s,R,h⟩=>oE hP s R (.refl _ _) h λt g1 cc H1 e1 R1 h=>by
  cases t
  ·exact rG hP (s.ext e1) R1 e1 h (LN.ext e1)
  ·exact rG hP (s.ext e1) R1 e1 h (LN.ext e1)
theorem zP(ha:PE X a (LE X.K Ξ (aV P ma))):PS X (.Return (some a) pos) (LS X.K Ξ (wpS P (.ret ma))) :=
 (GC ha).imp λN cb H ⟨U,g,ρ,s,R,h⟩=>⟨U,g,ρ,s,R,h⟩
theorem Og{iter:Expr}{body:List Stmt}{mb:MS}(hp:PassesOwn (model X.prog X.w) X.A X.env X.xe)(hc:X.calm=true)(hi:PI X tg iter (LI X.K Ξ (jh P mi)))(hg:PG X tg (LG X.K t))(hb:iZ X body (LS X.K Ξ (wpS P mb)))(hs:∀x,foldedSetIterable iter X.env x=pure x):PS X (.For tg iter body [] pos) (LS X.K Ξ (wpS P (.jN t mi mb))) :=
 (Nz hp hc hi hg hb hs).imp λN cb H br=>by
  obtain⟨U,g,ρ,s,R,h⟩:=br;refine⟨U,g,ρ,s,R,E0 hP mi _ _ _ _ _ _ (λk g1 h cc H1 J e1 R1 j1=>?_) (λ_ _ z=>z) h⟩;obtain⟨W,⟨m0,w0⟩,h⟩:=h;refine⟨λi m dC H'=>∃cx g' bP,Ext cc H1 bP H'/\l0 X.K bP H' cx dC/\Rl X.K bP g' H'/\W i m cx g',⟨m0,U,g1,cc,.refl _ _,s.ext e1,R1,w0⟩,?_⟩;rintro i m dC H' ⟨cx,g',bP,e',s',R',w'⟩;obtain⟨xS,xR⟩:=j1 bP g' H' e' R' i;rcases h i m cx g' w' with⟨ek,q⟩|⟨x,ek,N2,qk,q⟩
  ·exact .inl ⟨xS ek,q bP H' dC (e1.trans e') R' s'⟩
  ·obtain⟨go,yl⟩:=xR x ek;refine .inr ⟨go,λmT H2=>∃dz g2 fC,Ext cc H1 fC H2/\l0 X.K fC H2 dz mT/\Rl X.K fC g2 H2/\N2 dz g2,?_,?_⟩
   ·rintro mT H2 ⟨dz,g2,fC,e2,s2,R2,n2⟩;obtain⟨m',hm,w2⟩:=qk dz g2 n2;exact⟨m',hm,dz,g2,fC,e2,s2,R2,w2⟩
   ·intro v H2 y;obtain⟨e2,R2,r2⟩:=yl v H2 y;refine⟨x,cx,g',bP,s'.ext e2,R2,r2,J7 (λdz q mT s2=>?_) q⟩;refine rG hP s2 R2 (e1.trans (e'.trans e2)) q ⟨?_,?_,?_,?_⟩
    ·exact λkM g3 n3 lq H3 ou e3 R3 s3=>⟨kM,g3,lq,(e'.trans e2).trans e3,s3,R3,n3⟩
    ·exact λd g3 h=>h.ext (e1.trans (e'.trans e2))
    ·exact λkM g3 h lq H3 ou e3 R3 s3=>h lq H3 ou (e1.trans ((e'.trans e2).trans e3)) R3 s3
    ·exact λkM g3 n3 lq H3 ou e3 R3 s3=>⟨kM,g3,lq,(e'.trans e2).trans e3,s3,R3,n3⟩
theorem EA{d5:List Nat}{n:Nat}{lS me:ME}:∀cb H Q,LE X.K Ξ (aV P (.comp d5 n t mi lS me)) cb H Q->Bj (LI X.K Ξ (jh P mi)) d5 n (LG X.K t) (LT X.K (oh Ξ.1) (dD P lS)) (LE X.K (oh Ξ.1) (aV P me)) cb H Q:=λcb H Q br=>by
 obtain⟨U,g,ρ,s,R,h⟩:=br;refine⟨U,g,ρ,s,R,E0 hP mi _ _ _ _ _ _ (λk g1 h cc H1 J e1 R1 j1=>?_) (λ_ _ z=>z) h⟩;obtain⟨W,⟨m0,w0⟩,h⟩:=h;refine⟨λi m Cb dC H'=>∃ys cx g' bP,Ext cc H1 bP H'/\l0 X.K bP H' cx dC/\Rl X.K bP g' H'/\a8 X.K bP H' ys Cb/\W i m ys cx g',⟨m0,[],_,g1,cc,.refl _ _,(s.ext e1).d5 d5 n,R1,.nil,w0⟩,?_⟩;rintro i m Cb dC H' ⟨ys,cx,g',bP,e',s',R',ry,w'⟩;obtain⟨xS,xR⟩:=j1 bP g' H' e' R' i;rcases h i m ys cx g' w' with⟨ek,q⟩|⟨x,ek,hz,q⟩
 ·exact .inl ⟨xS ek,λp hp=>(q.ext (e1.trans e')).new R' hp ry⟩
 ·obtain⟨go,yl⟩:=xR x ek;refine .inr ⟨go,by rw[<- ry.length];exact wL hz,λv H2 y=>?_⟩;obtain⟨e2,R2,r2⟩:=yl v H2 y;refine⟨x,cx,g',bP,s'.ext e2,R2,r2,J7 (λdz q mT s2=>?_) q⟩;refine⟨dz,g',bP,s2,R2,q9 hP lS _ _ _ _ _ _ (λb g3 q lq H3 e3 R3=>?_) (λ_ _ z=>z.elim) q⟩;cases b
  ·obtain⟨m',hm,w3⟩:=q;exact⟨m',hm,ys,dz,g3,lq,(e'.trans e2).trans e3,s2.ext e3,R3,(ry.ext e2).ext e3,by simpa using w3⟩
  ·refine⟨dz,g3,lq,s2.ext e3,R3,a9 hP me _ _ _ _ _ _ (λz g4 q rA H4 v4 e4 R4 r4=>?_) (λ_ _ z=>z.elim) q⟩;obtain⟨m',hm,w4⟩:=q;exact⟨m',hm,ys++[z],dz,g4,rA,(e'.trans e2).trans (e3.trans e4),(s2.ext e3).ext e4,R4,(((ry.ext e2).ext e3).ext e4).append (.cons r4 .nil),by simpa using w4⟩
end
end M
namespace M
open PySem L2
section
variable{P:fe}(hP:i4 P)
include hP
end
end M
namespace M
open PySem L2 PySem.Spec PyProof.Rows
variable{X:Cx}{Ξ:gQ}{P:fe}{x qual:Str}{pos px:Pos}{H:Hp}{k i n:Nat}{e o a:Expr}{p:Pr}{c:d6}{es args:List Expr}{env:Env}{m:ME}{f:Addr}{r:CF}{s:Shared}{cd:Value}{N:List Str}{scope:Scope}{A:Around}{outer:List Env}{E:XK}
section
variable(hP:i4 P)
include hP
theorem UN{C:Addr}{B newId cZ:String}{bm:List Value}{np dM:Pos}{fj:Expr}{rest:List Expr}{hJ:ME}(hc:X.calm=true)(O:OwnCls x C bm newId X.mg X.base)(FB:ExcBaseFacts B newId cZ bm)(hg:Gl X x)(ha:PA X (fj::rest) (LA X.K Ξ (fJ P hJ)))(hr:wG X Ξ.2)(hx:x∈Ξ.1)(gp:x.cps.size≠1)(hC:f9 X.K x C)(he:starEach (fj::rest) X.env=(false,eval fj X.env)::starEach rest X.env)(gD:(backTo dM (starEach rest X.env)).any (·.1)=false)(hd:(x==("__debug__":Str))=false):PS X (.Raise (some (.Call (.Name x np) (fj::rest) [] dM)) none pos) (LS X.K Ξ (wpS P (.raise x hJ))) :=
 (Yi hc O FB hg ha hr he gD hd).imp λN cb H br=>by
  obtain⟨U,g,ρ,s,R,h⟩:=br;refine jT hP s R (.refl _ _) h λds g1 cc H1 vs e1 R1 r1 h=>?_;exact⟨by rw[<- r1.length];exact i9 (aD h.1 ∅),h.2 cc H1 C none e1 R1 (.inl ⟨hx,gp,hC,rfl⟩)⟩
def pL(X:Cx)(ex:List Str)(D:L2.Ends)(cM:L2.St)(hs:List ExceptHandler):gQ:=(ex,λv od H=>∃C,v=.ref C/\M8 X D cM C od H hs)
inductive jQ(X:Cx)(Ξ:gQ)(P:fe):List ExceptHandler->List (Str×ME)->Prop
 |nil (hh:O5 X Ξ.2):jQ X Ξ P [] []
 |cons {y:Str} {C':Addr} {p p1 p2:Pos} {e:Expr} {me:ME} {hs:List ExceptHandler} {ms:List (Str×ME)} (hg:Gl X y) (hd:(y==("__debug__":Str))=false) (hm:X.mg y=some (.ref C'))
   (hx:∀x C,x∈Ξ.1->f9 X.K x C->PySem.W.exmOne X.K (.ref C) (.ref C')=some (decide (x=y\/y="MintError"))) (hy:y.cps.size≠1) (lY:∀C,f9 X.K "BadText" C->PySem.W.exmOne X.K (.ref C) (.ref C')=some (decide (y="MintError"))) (he:∀ea,PE (o8 X ea) e (LE X.K (oh Ξ.1) (aV P me))) (r:jQ X Ξ P hs ms) :
   jQ X Ξ P (.ExceptHandler (some (.Name y p)) none [.Return (some e) p1] p2::hs) ((y,me)::ms)
 |rZ {y:Str} {C':Addr} {p p2:Pos} {kz:Stmt} {su:List Stmt} {hs:List ExceptHandler} {ms:List (Str×ME)} (hg:Gl X y) (hd:(y==("__debug__":Str))=false) (hm:X.mg y=some (.ref C'))
   (hx:∀x C,x∈Ξ.1->f9 X.K x C->PySem.W.exmOne X.K (.ref C) (.ref C')=some (decide (x=y\/y="MintError"))) (hy:y.cps.size≠1) (lY:∀C,f9 X.K "BadText" C->PySem.W.exmOne X.K (.ref C) (.ref C')=some (decide (y="MintError"))) (r:jQ X Ξ P hs ms) :
   jQ X Ξ P (.ExceptHandler (some (.Name y p)) none (kz::su) p2::hs) ((y,.no)::ms)
theorem Gn{y:Str}{x:Xn}{C C':Addr}{od:Option Addr}(hx:∀x C,x∈Ξ.1->f9 X.K x C->PySem.W.exmOne X.K (.ref C) (.ref C')=some (decide (x=y\/y="MintError")))(hy:y.cps.size≠1)(lY:∀C,f9 X.K "BadText" C->PySem.W.exmOne X.K (.ref C) (.ref C')=some (decide (y="MintError")))(h:BA X.K Ξ.1 x C od H) :
  PySem.W.exmOne X.K (.ref C) (.ref C')=some (decide (x.cls=y\/y="MintError")):=by
 rcases h with⟨h,_,hC,_⟩|⟨n,dA,rfl,hC,_⟩
 ·exact hx _ _ h hC
 ·rw[lY _ hC];have:((ui n).cls=y\/y="MintError")↔y="MintError":=⟨λz=>z.elim (λz=>absurd (by rw[<- z];rfl) hy) id,.inr⟩
  simp only[this]
theorem AG{N:L2.Ends}{ρ bP:List Addr}{H H':Hp}{U:S}{g:G}{x:Xn}{C:Addr}{od:Option Addr}(hl:U.length=X.N.length)(e:Ext ρ H bP H')(R:Rl X.K bP g H')(hx:BA X.K Ξ.1 x C od H') :
  ∀{hs:List ExceptHandler} {ms:List (Str×ME)},jQ X Ξ P hs ms->nN P (LN X.K ρ H N) (U.map λ_=>none) (LX X.K ρ H Ξ) ms x g->M8 X N (List.replicate X.N.length none) C od H' hs
 |_,_,.nil hh,q=>⟨Ξ.2,hh,q bP H' C od e R hx⟩
 |_,_,.cons (me:=me) hg hd hm yd hy lY he r,q=>by
  refine⟨hg,hd,_,_,hm,Gn hP yd hy lY hx,?_⟩;unfold nN at q;split at q
  ·rename_i ex;rw[aF (by simpa using ex)];refine⟨LS X.K (oh Ξ.1) (wpS P (.seq (.ret me) .pass)),λea=>Ao (X:=o8 X ea) (Ξ:=oh Ξ.1) hP (zP (X:=o8 X ea) hP (he ea)) (zO (X:=o8 X ea) hP),?_⟩;refine⟨U.map λ_=>none,g,bP,⟨by simp[hl],λi d z=>?_⟩,R,?_⟩
   ·rw[aP] at z;cases e:U[i]? with
    |none=>rw[e] at z;cases z
    |some y=>rw[e] at z;cases z
   ·skip
    refine a9 hP me _ _ _ _ _ _ (λd g1 h=>?_) (λ_ _ z=>z.elim) q;exact h.ext e
  ·rename_i ex;rw[aA (by simpa using ex)];exact AG hl e R hx r q
 |_,_,.rZ hg hd hm yd hy lY r,q=>by
  refine⟨hg,hd,_,_,hm,Gn hP yd hy lY hx,?_⟩;unfold nN at q;split at q
  ·exact(show False from q).elim
  ·rename_i ex;rw[aA (by simpa using ex)];exact AG hl e R hx r q
theorem Oi{h₀:ExceptHandler}{hs:List ExceptHandler}{ms:List (Str×ME)}{body:List Stmt}{mb:MS}(jJ:X.sg=none)(hb:∀pins D,iZ (C8 X pins (S4 X pins D (h₀::hs))) body (LS X.K (pL X Ξ.1 D (List.replicate X.N.length none) (h₀::hs)) (wpS P mb)))(hh:jQ X Ξ P (h₀::hs) ms):PS X (.Try body (h₀::hs) [] [] pos) (LS X.K Ξ (wpS P (.V3 mb ms))):=by
 intro pins s cb H N I ⟨U,g,ρ,sr,R,h⟩;refine GF (t:=λD _=>LS X.K (pL X Ξ.1 D (List.replicate X.N.length none) (h₀::hs)) (wpS P mb)) (Ξ:=λD _=>(pL X Ξ.1 D (List.replicate X.N.length none) (h₀::hs)).2) (λ_=>none) (λ_=>List.replicate X.N.length none) (λ_ _ z=>by cases z) jJ (λpins D _ _=>hb pins D) pins s cb H N I ⟨λC od H' ⟨C',e,z⟩=>by cases e;exact z,?_⟩;refine⟨U,g,ρ,sr,R,wpS_mono hP mb _ _ _ _ _ _ ⟨λ_ _ z=>z,λ_ _ z=>z,λ_ _ z=>z,λ_ _ z=>z⟩ (λx g1 q bP H' C od e' R' hm=>⟨C,rfl,?_⟩) h⟩;exact AG (Ξ:=Ξ) hP (sr.len.trans I.len) e' R' hm hh q
theorem Wc{fI C:Addr}{fd:FuncData}{ps:List Str}{B newId cZ:String}{iY:List Value}{np dM:Pos}{fj:Expr}{rest:List Expr}{hJ:ME}(hc:X.calm=true)(O:iR "BadText" C fI iY newId X.mg X.base)(FB:ExcBaseFacts B newId cZ iY)(hg:Gl X "BadText")(F:fQ X.prog X.w X.K X.mg X.base (gR X.prog X.w) k fI fd ps (uC C "row"))(hr:k6 (k+1) X.A)(hb:Binds X.K fd ps [])(ha:PA X (fj::rest) (LA X.K Ξ (fJ P hJ)))(hx:wF X Ξ.2)(hex:X.ex=[])(hC:f9 X.K "BadText" C)(he:starEach (fj::rest) X.env=(false,eval fj X.env)::starEach rest X.env)(gE:(backTo dM (starEach rest X.env)).any (·.1)=false):PS X (.Raise (some (.Call (.Name "BadText" np) (fj::rest) [] dM)) none pos) (LS X.K Ξ (wpS P (.raiser hJ))) :=
 (VR hc O FB hg F hr hb ha hx hex he gE ∅).imp λN cb H br=>by
  obtain⟨U,g,ρ,s,R,h⟩:=br;refine jT hP s R (.refl _ _) h λds g1 cc H1 vs e1 R1 r1 ⟨n,e2,h⟩=>?_;subst e2;obtain⟨v,rfl,rv⟩:=r1.one;obtain rfl:=rv.j0;exact⟨_,rfl,λdA hn=>h cc _ C _ (e1.trans (p8 hn)) (R1.grow hn) (.inr ⟨n,dA,rfl,hC,rfl,i3⟩)⟩
theorem QA{C':Addr}{me:ME}{z:Str}{p p0 p1 p2 p3 p4 p5:Pos}(jJ:X.sg=none)(hg:Gl X "BadText")(hm:X.mg "BadText"=some (.ref C'))(hC:f9 X.K "BadText" C')(hx:∀x C,x∈Ξ.1->f9 X.K x C->PySem.W.exmOne X.K (.ref C) (.ref C')=some false)(lY:PySem.W.exmOne X.K (.ref C') (.ref C')=some true)(ku:I9 X.K C' "row")(hh:O5 X Ξ.2)(hi:X.N[i]?=some z)(hN:X.N.Nodup)(hz:X.env.scope.names.lookup z=some .local)(yG:(z==("__debug__":Str))=false)(hd2:(z==("__classdict__":Str))=false)(hb:∀pins D,PE (C8 X pins (S4 X pins D [.ExceptHandler (some (.Name "BadText" p)) (some z) [.Return (some (.List [.Attribute (.Name z p1) "row" p2] p3)) p4] p5])) e (LE X.K (pL X Ξ.1 D (List.replicate X.N.length none) [.ExceptHandler (some (.Name "BadText" p)) (some z) [.Return (some (.List [.Attribute (.Name z p1) "row" p2] p3)) p4] p5]) (aV P me))) :
  PS X (.Try [.Return (some e) p0] [.ExceptHandler (some (.Name "BadText" p)) (some z) [.Return (some (.List [.Attribute (.Name z p1) "row" p2] p3)) p4] p5] [] [] pos) (LS X.K Ξ (wpS P (.lN me))):=by
 intro pins s cb H N I ⟨U,g,ρ,sr,R,h⟩;refine GF (t:=λD _=>LS X.K (pL X Ξ.1 D (List.replicate X.N.length none) [.ExceptHandler (some (.Name "BadText" p)) (some z) [.Return (some (.List [.Attribute (.Name z p1) "row" p2] p3)) p4] p5]) (wpS P (.seq (.ret me) .pass))) (Ξ:=λD _=>(pL X Ξ.1 D (List.replicate X.N.length none) [.ExceptHandler (some (.Name "BadText" p)) (some z) [.Return (some (.List [.Attribute (.Name z p1) "row" p2] p3)) p4] p5]).2) (λ_=>none) (λ_=>List.replicate X.N.length none) (λ_ _ z=>by cases z) jJ
  (λpins D _ _=>Ao (X:=C8 X pins _) hP (zP (X:=C8 X pins _) hP (hb pins D)) (zO (X:=C8 X pins _) hP)) pins s cb H N I ⟨λC od H' ⟨C',e,z⟩=>by cases e;exact z,?_⟩
 refine⟨U,g,ρ,sr,R,a9 hP me _ _ _ _ _ _ (λ_ g1 z=>z) (λx g1 q bP H' C od e' R' Kb=>⟨C,rfl,hg,by decide,C',?_⟩) h⟩;rcases Kb with⟨h1,h2,h3,h4⟩|⟨n,dA,rfl,h3,h4,h5⟩
 ·rcases q with⟨n,rfl,_⟩|⟨_,q⟩
  ·exact absurd rfl h2
  ·exact⟨false,hm,hx _ _ h1 h3,by rw[aA ∅];exact⟨Ξ.2,hh,q bP H' C od e' R' (.inl ⟨h1,h2,h3,h4⟩)⟩⟩
 ·obtain rfl:C=C':=by
   have w:=(show PySem.W.nsIn X.K mainGlobals "BadText"=_ from h3).symm.trans hC;cases w
   rfl
  rcases q with⟨m,em,q⟩|⟨q,_⟩
  ·have:m=n:=by
    have:=cO (λw:Xn=>w.cls.cps[0]?) em;simpa using this.symm
   subst this;exact⟨true,hm,lY,by rw[aF rfl];exact⟨"row",p1,p2,p3,p4,i,dA,_,.int m,rfl,hi,hN,hz,yG,hd2,h4,h5,rfl,ku,λp hp=>LQ.new (q.ext e') R' hp (.cons (.int _) .nil)⟩⟩
  ·exact absurd rfl q
end
structure d6 where
 N:List Str
 nm:List (Str×NameKind)
 nE:Bool
 fns:List (Str×Nat)
 con:List (Str×D)
 blt:List Str
 exc:List Str
 gd:List (Str×List D)
 cls:List (Str×Nat)
 nS:List (Str×Str×Nat)
 mH:List (Str×Str)
 ik:Bool
 iL:Bool
 wr:Bool:=true
 row:Option (Nat×Nat):=none
def gn:Expr->Bool
 |.Set ..=>false
 |.Starred ..=>false
 |.Slice ..=>false
 |_=>true
def o7:Expr->Bool
 |.ListComp ..=>false
 |.SetComp ..=>false
 |.DictComp ..=>false
 |_=>true
def S9:Expr->Bool
 |.Tuple ..=>false
 |_=>true
def W4:Expr->Bool
 |.Name ..=>true
 |.Call ..=>true
 |.Subscript ..=>true
 |.Constant ..=>true
 |.Attribute ..=>true
 |.BinOp ..=>true
 |_=>false
def wz:Expr->Bool
 |.Call (.Name ..) [] ..=>false
 |_=>true
def d6.idx(c:d6)(x:Str):Option Nat:=c.N.findIdx? λy=>decide (y=x)
def d6.xq(c:d6)(x:Str):Bool:=match c.nm.lookup x with
 |some .local=>true
 |some .cell=>true
 |some .free=>true
 |_=>false
def d6.gl(c:d6)(x:Str):Bool:=decide (c.nm.lookup x=some .globalImplicit)
def d6.z9(c:d6)(x:Str):Bool:=decide (c.nm.lookup x=some .local)||decide (c.nm.lookup x=some .cell)
def O1(x:Str):Bool:=(x==("__debug__":Str))==false&&(x==("__classdict__":Str))==false&&decide (x≠"__name__")
def Bn:List (Str×String):=[("int","int"),("bool","bool"),("str","str"),("tuple","tuple"),("list","list")]
def zx:List (Str×Pr):=[("len",.len),("list",.list),("tuple",.tuple),("isinstance",.isin),("all",.all),("int",.int),("str",.str)]
def Z9:List (Str×Pr):=[]
def zF:List (Str×Pr):=[("append",.append),("pop",.pop),("join",.join),("split",.split),("find",.find),("partition",.jr),("insert",.fS)]
def wI:Expr->Option (Str×List Expr)
 |.Call (.Name x _) args [] _=>some (x,args)
 |_=>none
def Eo:Expr->Bool
 |.Tuple ..=>true
 |_=>false
def asName:Expr->Option Str
 |.Name x _=>some x
 |_=>none
def frees(sc:Scope):List Str:=(sc.names.filter λy=>decide (y.2=.free)).map (·.1)
def locals(sc:Scope):List Str:=(sc.names.filter λy=>decide (y.2=.local)||decide (y.2=.cell)).map (·.1)
def d6.inner(c:d6)(sc:Scope):d6:={ c with N:=frees sc++locals sc,nm:=sc.names,nE:=false,ik:=false,iL:=false,wr:=true }
def d6.d5(c:d6)(sc:Scope):List Nat:=(frees sc).map λx=>(c.idx x).getD 0
def d6.Am(c:d6)(sc:Scope):Bool :=
 decide (sc.kind=.function)&&sc.names.all (λy=>!decide (y.2=.cell)||decide (sc.names.lookup y.1=some .cell))&&sc.names.all (λy=>!decide (y.2=.local)||decide (sc.names.lookup y.1=some .local)) &&
 decide (frees sc++locals sc).Nodup&&(frees sc).all (λx=>(c.idx x).isSome&&decide (sc.names.lookup x=some .free)&&(decide (c.nm.lookup x=some .cell)||decide (c.nm.lookup x=some .free)))
def d6.slot(c:d6)(e:Expr):Option Nat:=(asName e).bind λx=>if c.z9 x then c.idx x else none
def d6.slots(c:d6):List Expr->Option (List Nat)
 |[]=>some []
 |e::r=>(c.slot e).bind λi=>(c.slots r).map λis=>i::is
def d6.tg(c:d6)(e:Expr):Option MT:=((c.slot e).map .one).orElse λ_=>match e with
 |.Tuple es _ _=>(c.slots es).map .many
 |_=>none
def U1:Const->Option D
 |.int i=>some (.int i)
 |.bool b=>some (.bl b)
 |.none=>some .bA
 |.str x=>some (.str x)
 |_=>none
structure CF where
 e:d6->Expr->Option ME
 t:d6->Expr->Option ME
 s:d6->Stmt->Option MS
section
variable(r:CF)(c:d6)
def c1(p:Pr)(a:Expr):Option ME:=(r.e c a).map λm=>.prim p (.cons m .nil)
def c2(p:Pr)(a b:Expr):Option ME:=(r.e c a).bind λma=>(r.e c b).map λmb=>.prim p (.cons ma (.cons mb .nil))
def B2:List Expr->Option ME
 |[]=>some .nil
 |e::es=>if gn e then(r.e c e).bind λm=>(B2 es).map λms=>.cons m ms else none
def Gg:Expr->Option Str
 |.Constant (.str x) _ _=>some x
 |_=>none
def DI:Expr->Option Expr
 |.FormattedValue e k none _=>if k=-1 then some e else none
 |_=>none
def uu:List Expr->Option ME
 |[]=>some .nil
 |e::es=>((Gg e).bind λx=>if x.length<=2000 then(uu es).map λms=>.cons (.lit (.str x)) ms else none).orElse λ_ =>
   (DI e).bind λa=>(r.e c a).bind λm=>(uu es).map λms=>.cons (.prim .fv (.cons m .nil)) ms
def AX(op:BoolOp):List Expr->Option ME
 |[]=>none
 |[a]=>r.e c a
 |a::b::rs=>(r.e c a).bind λma=>(AX op (b::rs)).map λmb=>match op with
  |.And=>.eG ma mb
  |.Or=>.iW ma mb
def AY(op:BoolOp):List Expr->Option ME
 |[]=>none
 |[a]=>r.t c a
 |a::b::rs=>(r.t c a).bind λma=>(AY op (b::rs)).map λmb=>match op with
  |.And=>.eG ma mb
  |.Or=>.iW ma mb
def Gj:List Expr->Option ME
 |[]=>some .no
 |[e]=>r.t c e
 |_=>none
def u9:List Stmt->Option MS
 |[]=>some .pass
 |s::rs=>(r.s c s).bind λm=>(u9 rs).map λms=>.seq m ms
def Bt(x:Str):Option ME :=
 if O1 x then(if c.xq x then(c.idx x).map .var else if c.gl x then((c.con.lookup x).map .lit).orElse λ_=>if c.blt.contains x then(Bn.lookup x).map λt=>.lit (.ty t) else none else none) else none
def xn(op:UnaryOp)(a:Expr):Option ME:=if op=.Not then(r.e c a).map .dW else c1 r c (.un op) a
def d6.DU(b:Expr):Option (List D):=(λ(_:d6) (_:Expr)=>none) c b
def ur(a:Expr)(ops:List CmpOp)(bs:List Expr):Option ME:=match ops,bs with
 |[op],[b]=>if behindInMarks op b then none else c2 r c (.cmp op) a b
 |[op,hZ],[b,d]=>if lastMarks [op,hZ] [b,d] then none else(r.e c a).bind λma=>(r.e c b).bind λmb=>(r.e c d).map λmd=>.chain op hZ ma mb md
 |_,_=>none
def QL:Expr->Option (Option Expr×Option Expr×Option Expr)
 |.Slice lo hi st _=>some (lo,hi,st)
 |_=>none
def Cf(a:Expr):Option Expr->Option Expr->Option Expr->Option ME
 |some b,none,none=>c2 r c (.jC true false) a b
 |none,some b,none=>c2 r c (.jC false true) a b
 |_,_,_=>none
def AN(a b:Expr):Option ME:=((QL b).bind λq=>Cf r c a q.1 q.2.1 q.2.2).orElse λ_=>if gn b then((c.DU a).bind λaU=>(r.e c b).map λmb=>.prim .tI (.cons (.lit (.tup aU)) (.cons mb .nil))).orElse λ_=>c2 r c .ix a b else none
def Ce(x:Str)(e:Expr):Option ME:=(wI e).bind λq =>
 if x="list" && q.1="range" && c.blt.contains "list" && c.blt.contains "range" && c.gl "range" then (match q.2 with
  |[a]=>if gn a then c1 r c .lU a else none
  |[a,b]=>if gn a&&gn b then c2 r c .lT a b else none
  | _=>none)
 else if x="sorted" && q.1="set" && c.blt.contains "sorted" && c.blt.contains "set" && c.gl "set" then (match q.2 with
  |[a]=>if gn a then c1 r c .sset a else none
  | _=>none)
 else if x="len" && q.1="set" && c.blt.contains "len" && c.blt.contains "set" && c.gl "set" then (match q.2 with
  |[a]=>if gn a then c1 r c .pK a else none
  | _=>none)
 else none
def RZ(x:Str)(e:Expr):List Expr->Option ME
 |[]=>Ce r c x e
 |_=>none
def Cg(x:Str)(e:Expr):List Expr->Option ME
 |[b]=>(asName b).bind λy=>if decide (x="isinstance")&&c.blt.contains "isinstance"&&c.gl y&&O1 y&&gn e&&(c.cls.lookup y).isSome then c1 r c (.xU y) e else none
 |_=>none
def zW(x:Str):Option ME:=if O1 x&&c.gl x then((c.fns.lookup x).map λf=>.call f .nil).orElse λ_=>(c.cls.lookup x).map λf=>.make x f .nil else none
def zX(x:Str)(e:Expr)(es:List Expr):Option ME:=if O1 x&&c.gl x then(Cg r c x e es).orElse λ_=>(RZ r c x e es).orElse λ_=>(B2 r c (e::es)).bind λms=>((c.fns.lookup x).map λf=>.call f ms).orElse λ_=>((c.cls.lookup x).map λf=>.make x f ms).orElse λ_=>if c.blt.contains x then(zx.lookup x).map λp=>.prim p ms else none else none
def GY(x:Str):List Expr->Option ME
 |[]=>zW c x
 |e::es=>zX r c x e es
def zY(o:Expr)(m:Str)(apos pos:Pos)(args:List Expr):Option ME :=
 if wz o && (apos.endLine == pos.line) && decide (args.length < 20) then (r.e c o).bind λmo=>(B2 r c args).bind λms=>if m="index" then none else if args.isEmpty && (Z9.lookup m).isSome then (Z9.lookup m).map λp=>.et p mo ms else (match zF.lookup m with
  |some p=>if args.isEmpty then none else some (.et p mo ms)
  | none=>none) else none
def d6.fnOf:List Expr->Option (List Nat)
 |[]=>some []
 |e::es=>(asName e).bind λx=>if c.gl x&&O1 x then(c.fns.lookup x).bind λf=>(d6.fnOf es).map λfs=>f::fs else none
def Bs(f:Expr)(args:List Expr)(jj:List Keyword)(pos:Pos):Option ME:=if jj.isEmpty then(match f with
 |.Name x _=>GY r c x args
 |.Attribute o m apos=>zY r c o m apos pos args
 | _=>none) else none
def uv(tg e:Expr):Option ME:=(((wI e).bind λq =>
  if q.1="range" then (match q.2 with
   |[a]=>if c.gl "range"&&c.blt.contains "range"&&gn a then(r.e c a).map .gL else none
   |[a,b]=>if c.gl "range"&&c.blt.contains "range"&&gn a&&gn b then(r.e c a).bind λma=>(r.e c b).map λmb=>.jH ma mb else none
   | _=>none)
  else if q.1="zip" then (match q.2 with
   |[a,b]=>if c.gl "zip"&&c.blt.contains "zip"&&gn a&&gn b&&Eo tg then(r.e c a).bind λma=>(r.e c b).map λmb=>.nT ma mb else none
   | _=>none)
  else none):Option ME).orElse λ_=>if gn e then (r.e c e).map .iX else none
def Z2(elt:Expr)(gens:List Comprehension)(sc:Scope):Option ME:=match gens with
 |[⟨tg,it,ifs,CG⟩]=>if c.Am sc&&decide (CG=0)&&gn it then((c.inner sc).tg tg).bind λt=>(uv r c tg it).bind λmi=>(Gj r (c.inner sc) ifs).bind λmc=>(r.e (c.inner sc) elt).map λme=>.comp (c.d5 sc) (frees sc++locals sc).length t mi mc me else none
 |_=>none
def xo(f:Expr)(args:List Expr)(jj:List Keyword):Option ME:=(λ(_:CF) (_:d6)=>none) r c
def uU(f:Expr)(args:List Expr)(jj:List Keyword):Option ME:=(λ(_:d6)=>none) c
def Em:Expr->Option (Expr×Str×Pos)
 |.Attribute o m p=>some (o,m,p)
 |_=>none
def Iv:Expr->Option ME
 |.Name x _=>Bt c x
 |.Constant k _ _=>(U1 k).map .lit
 |.BinOp a op b _=>c2 r c (.bin op) a b
 |.UnaryOp op a _=>xn r c op a
 |.Compare a ops bs _=>ur r c a ops bs
 |.BoolOp op vs _=>AX r c op vs
 |.IfExp t a b _=>(r.t c t).bind λmt=>(r.e c a).bind λma=>(r.e c b).map λmb=>.ite mt ma mb
 |.Tuple es _ _=>(B2 r c es).map (.prim .tup)
 |.List es _=>(B2 r c es).map (.prim .lst)
 |.Subscript a b _=>AN r c a b
 |.Dict ks vs _=>if ks.isEmpty&&vs.isEmpty then some (.prim .kZ .nil) else none
 |.JoinedStr vs _=>if decide (2<=vs.length)&&decide (vs.length<=40) then(uu r c vs).map (.prim .kY) else none
 |.Attribute o f _=>if wz o then c1 r c (.fld f) o else none
 |.Call f args jj pos=>(xo r c f args jj).orElse λ_=>(uU c f args jj).orElse λ_=>Bs r c f args jj pos
 |.ListComp elt gens sc _=>Z2 r c elt gens sc
 |_=>none
def stepT:Expr->Option ME
 |.UnaryOp op a _=>if op=.Not then(r.t c a).map .dW else none
 |.BoolOp op vs _=>AY r c op vs
 |.Compare a ops bs _=>(ur r c a ops bs).map .gb
 |e=>if W4 e then(r.e c e).map .gb else none
def Ib:Expr->Option ME
 |.Constant k _ _=>(U1 k).map .lit
 |_=>none
def zy:List Expr->Option ME
 |[]=>some .nil
 |e::es=>(Ib e).bind λm=>(zy es).map λms=>.cons m ms
def Ia:Expr->Option ME
 |.List es _=>(zy es).map (.prim .lst)
 |.Constant k _ _=>(U1 k).map .lit
 |_=>none
def Se:List Stmt->Option Expr
 | [s]=>(match s with
  |.Return e _=>e
  | _=>none)
 |_=>none
def Oy:ExceptHandler->Option Str
 |.ExceptHandler t n b _=>if n.isNone&&!b.isEmpty then t.bind asName else none
def Gf:ExceptHandler->Option (Str×Expr)
 |.ExceptHandler t n b _=>if n.isNone then t.bind λt=>(asName t).bind λy=>(Se b).map λe=>(y,e) else none
def qO:List ExceptHandler->Option (List (Str×ME))
 |[]=>some []
 |h::hs=>((Gf h).bind λq=>if c.exc.contains q.1&&c.gl q.1&&O1 q.1 then(Ia q.2).bind λm=>(qO hs).map λms=>(q.1,m)::ms else none).orElse λ_=>(Oy h).bind λy=>if c.exc.contains y&&c.gl y&&O1 y then(qO hs).map λms=>(y,.no)::ms else none
def G'(e f:Option Expr):Option (Str×Expr×List Expr):=if f.isNone then e.bind λe=>(wI e).bind λq=>q.2.head?.map λa=>(q.1,a,q.2.tail) else none
def d6.DQ(f:Str):List Str:=(c.mH.filter λy=>decide (y.1=f)).map (·.2)
def zt:List Expr->Option (Expr×Expr×Expr×Expr)
 |_=>none
def Y7{α:Type}:List α->Option α
 |[x]=>some x
 |_=>none
def Gh:List Expr->Option (Expr×Expr)
 |[a,.Starred b _]=>some (a,b)
 |_=>none
def we(es:List Expr)(e:Expr):Option MS:=(Gh es).bind λq=>if S9 e&&o7 e then(c.slot q.1).bind λi=>(c.slot q.2).bind λj=>(r.e c e).map λm=>.mV i j m else none
def DZ(tg e:Expr):Option MS:=match tg with
 |.Name x _=>if c.z9 x then(c.idx x).bind λi=>(r.e c e).map λm=>.set i m else none
 |.Tuple es _ _=>(we r c es e).orElse λ_=>(zt es).elim (if S9 e&&o7 e then(c.slots es).bind λis=>(r.e c e).map λm=>.mr (.many is) m else none) λq=>if o7 e&&gn q.2.1&&gn q.2.2.2 then(r.e c q.1).bind λm1=>(r.e c q.2.1).bind λn1=>(r.e c q.2.2.1).bind λm2=>(r.e c q.2.2.2).bind λn2=>(r.e c e).map λm=>.uX m1 n1 m2 n2 m else none
 |.Subscript o i _=>if gn i&&o7 e then(r.e c o).bind λmo=>(r.e c i).bind λmi=>(r.e c e).map λm=>.eE mo mi m else none
 |.Attribute o f _=>(r.e c o).bind λmo=>(r.e c e).map λm=>.mZ f (c.DQ f) mo m
 |_=>none
def toR(e:Expr)(m:ME):ME:=(λ(_:d6)=>m) c
def BB:Stmt->Option (Expr×Pos)
 |.Return (some e) p=>some (e,p)
 |_=>none
def En:Expr->Option (List Expr×Pos)
 |.List es p=>some (es,p)
 |_=>none
def zr:ExceptHandler->Option Str
 |.ExceptHandler t n b _=>t.bind λt=>(asName t).bind λx=>n.bind λz=>(Y7 b).bind λs=>(BB s).bind λq=>(En q.1).bind λl=>(Y7 l.1).bind λa=>(Em a).bind λo=>(asName o.1).bind λw=>if decide (x="BadText")&&decide (w=z)&&decide (o.2.1="row") then some z else none
def wg(body:List Stmt)(hs:List ExceptHandler):Option MS:=(Y7 body).bind λs=>(BB s).bind λe=>(Y7 hs).bind λh=>(zr h).bind λz=>if c.row.isSome&&c.gl "BadText"&&decide (c.nm.lookup z=some .local)&&O1 z then(c.idx z).bind λ_=>(r.e { c with ik:=false,iL:=false,wr:=true } e.1).map .lN else none
def Iw:Stmt->Option MS
 |.Expr e _=>if o7 e then(r.e c e).map .expr else none
 | .Assign xA e _=>(match xA with
  |[tg]=>DZ r c tg e
  | _=>none)
 |.If t a b _=>(r.t c t).bind λmt=>(u9 r c a).bind λma=>(u9 r c b).map λmb=>.ifs mt ma mb
 |.For tg it body vJ _=>if c.nE&&(vJ.isEmpty&&gn it) then(c.tg tg).bind λt=>(uv r c tg it).bind λmi=>(u9 r c body).map λmb=>.jN t mi mb else none
 | .Return e _=>(match e with
  |some e=>(r.e c e).map λm=>.ret (toR c e m)
  | none=>some .oO)
 |.Pass _=>some .pass
 |.Raise e f _=>(G' e f).bind λq=>if c.ik&&c.exc.contains q.1&&c.gl q.1&&O1 q.1 then(B2 r c (q.2.1::q.2.2)).map (.raise q.1) else if c.ik&&c.row.isSome&&decide (q.1="BadText")&&c.gl q.1 then(B2 r c (q.2.1::q.2.2)).map .raiser else none
 |.Try body hs el fi _=>if c.iL&&!hs.isEmpty&&el.isEmpty&&fi.isEmpty then(wg r c body hs).orElse λ_=>(u9 r { c with ik:=false,iL:=false,wr:=true } body).bind λmb=>(qO c hs).map λms=>.V3 mb ms else none
 |_=>none
end
def comp:Nat->CF
 |0=>⟨λ_ _=>none,λ_ _=>none,λ_ _=>none⟩
 |n+1=>⟨Iv (comp n),stepT (comp n),λc s=>(Iw (comp n) c s).orElse λ_=>some (.expr .no)⟩
def QH(X:Cx)(ex:List Str):Prop:=∃k C fI fd ps B newId cZ iY,X.mg "BadText"=some (.ref C)/\f9 X.K "BadText" C/\iR "BadText" C fI iY newId X.mg X.base/\ExcBaseFacts B newId cZ iY/\I9 X.K C "row" /\
 fQ X.prog X.w X.K X.mg X.base (gR X.prog X.w) k fI fd ps (uC C "row")/\Binds X.K fd ps []/\k6 (k+1) X.A/\PySem.W.exmOne X.K (.ref C) (.ref C)=some true/\∀x C',x∈ex->f9 X.K x C'->PySem.W.exmOne X.K (.ref C') (.ref C)=some false
structure gP(X:Cx)(c:d6)(P:fe)(Ξ:gQ):Prop where
 N:X.N=c.N
 nd:c.N.Nodup
 loc:∀x,c.nm.lookup x=some .local->X.env.scope.names.lookup x=some .local
 vM:∀x,c.nm.lookup x=some .cell->X.env.scope.names.lookup x=some .cell
 zd:∀x,c.nm.lookup x=some .free->X.env.scope.names.lookup x=some .cell\/X.env.scope.names.lookup x=some .free
 Dy:∀x,c.nm.lookup x=some .globalImplicit->X.env.scope.names.lookup x=some .globalImplicit
 cells:∀x,(c.nm.lookup x=some .cell\/c.nm.lookup x=some .free)->∃a,X.env.cells.lookup x=some a
 nE:∀x,c.nm.lookup x=some .cell->X.fn x=true
 calm:X.calm=true
 units:X.A.units+100<cLine
 own:c.nE=true->PassesOwn (model X.prog X.w) X.A X.env X.xe
 mono:i4 P
 con:∀x d,c.con.lookup x=some d->∃v u,X.mg x=some u/\RelV v u/\∀ρ H,c9 X.K ρ H d v
 blt:∀x,c.blt.contains x=true->X.mg x=none
 fns:∀x f,c.fns.lookup x=some f->∃k fa fd ps,mq X P Ξ.1 k f fa fd ps/\k6 k X.A/\X.mg x=some (.ref fa)/\PySem.W.keepIn X.K (.ref fa)=true
 cls:∀x f,c.cls.lookup x=some f->∃k C fa fd ps,mq X P Ξ.1 k f fa fd ps/\k6 (k+1) X.A/\X.mg x=some (.ref C)/\f9 X.K x C/\ju X.K C/\Mk X.K C fa
 nS:∀m y f C,(m,y,f)∈c.nS->f9 X.K y C->∃k fa fd ps,Meth X.K C m fa/\mq X P Ξ.1 k f fa fd ps/\k6 k X.A
 mH:∀f y C,(f,y)∈c.mH->f9 X.K y C->w6 X.K C f
 qt:Ξ.1=c.exc
 pass:Passes (gR X.prog X.w) X Ξ.2
 ik:c.ik=true->wG X Ξ.2/\wF X Ξ.2/\X.ex=[]
 iL:c.iL=true->X.stack=X.env::X.outer/\X.env.frame=some X.env.locals/\O5 X Ξ.2/\X.ex=[]
 exc:∀x,c.exc.contains x=true->∃C,X.mg x=some (.ref C)/\f9 X.K x C/\∃B newId cZ bm,OwnCls x C bm newId X.mg X.base/\ExcBaseFacts B newId cZ bm
 vI:∀x y C C',c.exc.contains x=true->c.exc.contains y=true->f9 X.K x C->f9 X.K y C'->PySem.W.exmOne X.K (.ref C) (.ref C')=some (decide (x=y\/y="MintError"))
 Dz:∀x aU,c.gd.lookup x=some aU->Sa X x aU
 code:c.nE=true->PySem.W.kdsCode X.K X.env.code=true
 sgn:c.wr=true->X.sg=none
 pC:∀x,c.exc.contains x=true->x.cps.size≠1
 qr:∀y C C',c.exc.contains y=true->f9 X.K "BadText" C->f9 X.K y C'->PySem.W.exmOne X.K (.ref C) (.ref C')=some (decide (y="MintError"))
 row:c.row.isSome=true->QH X c.exc
theorem OO(h:c.idx x=some i):c.N[i]?=some x:=by
 unfold d6.idx at h;rw[jS] at h;obtain⟨h1,h2,_⟩:=h;rw[az h1,aN h2]
theorem gP.LV(C:gP X c P Ξ)(h:c.xq x=true):wX X.env.scope x:=by
 unfold d6.xq at h;split at h
 ·rename_i e;exact .inl (C.loc x e)
 ·rename_i e;exact .inr (.inl (C.vM x e))
 ·rename_i e;rcases C.zd x e with z|z
  ·exact .inr (.inl z)
  ·exact .inr (.inr z)
 ·cases h
theorem gP.n9(C:gP X c P Ξ)(h:c.gl x=true):Gl X x:=C.Dy x (aN h)
theorem gP.z9(C:gP X c P Ξ){x:Str}(h:c.z9 x=true):Loc X.env.scope x/\(X.fn x=true\/X.env.scope.names.lookup x=some .local):=by
 unfold d6.z9 at h;rw[iB] at h;rcases h with h|h
 ·have:=C.loc x (aN h);exact⟨.inl this,.inr this⟩
 ·exact⟨.inr (C.vM x (aN h)),.inl (C.nE x (aN h))⟩
theorem gP.pH(C:gP X c P Ξ)(h:c.idx x=some i):X.N[i]?=some x:=by rw[C.N];exact OO h
theorem gP.pX(C:gP X c P Ξ)(hw:c.wr=true):X.Nd:=⟨by rw[C.N];exact C.nd,C.sgn hw⟩
theorem C3(h:asName e=some x):∃p,e=.Name x p:=by
 cases e<;>first|(cases h;exact⟨_,rfl⟩)|cases h
theorem EU(h:c.slot e=some i):∃x p,e=.Name x p/\c.z9 x=true/\c.idx x=some i:=by
 obtain⟨x,hx,h2⟩:=ae.mp h;obtain⟨p,rfl⟩:=C3 hx;split at h2
 ·exact⟨x,p,rfl,by assumption,h2⟩
 ·cases h2
theorem gP.slots(C:gP X c P Ξ):∀{es:List Expr} {is:List Nat},c.slots es=some is->fx X es is:=by
 intro es
 induction es with
 |nil=>intro is h;cases h;exact .nil
 |cons e r ih =>
  intro is h;obtain⟨i,hi,h⟩:=ae.mp h;obtain⟨YD,hs,rfl⟩:=af.mp h;obtain⟨x,p,rfl,hl,hx⟩:=EU hi;exact .cons (C.pH hx) (C.z9 hl).1 (C.z9 hl).2 (ih hs)
theorem orElse_some{α:Type}{a:Option α}{b:Unit->Option α}{m:α}(h:a.orElse b=some m):a=some m\/b Unit.unit=some m:=by
 cases a with
 |none=>exact .inr h
 |some x=>exact .inl h
theorem gP.Ed(C:gP X c P Ξ)(hw:c.wr=true){tg:Expr}{t:MT}(h:c.tg tg=some t):PG X tg (LG X.K t):=by
 rcases orElse_some h with h|h
 ·obtain⟨i,hi,rfl⟩:=af.mp h;obtain⟨x,p,rfl,hl,hx⟩:=EU hi;exact NU (C.pX hw) (C.pH hx) (C.z9 hl).1 (C.z9 hl).2
 ·cases tg<;>first|(cases h;done)|skip
  obtain⟨is,hs,rfl⟩:=af.mp (show(c.slots _).map MT.many=some t from h);exact HG C.calm (C.pX hw) (C.slots hs)
theorem i6(h:gn e=true):starEach (e::es) env=(false,eval e env)::starEach es env:=by
 cases e<;>first|rfl|cases h
theorem Ay(h:gn e=true):∀x,foldedSetIterable e env x=pure x:=by
 intro x;cases e<;>first|rfl|cases h
theorem MU(h:gn e=true):GZ e:=by
 intro o i;cases e<;>first|rfl|cases h
theorem Pm{i:Expr}{tp:Pos}(h:gn i=true):∀v,assign (.Subscript o i tp) env v=(do
      let ov <- holding [v] (eval o env)
      let iv <- holding [v,ov] (eval i env)
      standAt tp
      holding [v,ov,iv] (setItem ov iv v)
      release [v,ov,iv] []):=by
  intro v;cases i<;>first|rfl|cases h
theorem W7{t:Option Expr}(h:o7 e=true):swapsWith e t n env=pure false:=by
 cases e<;>first|rfl|cases h
theorem EI{p:Pos}(h:S9 e=true):swappedStores [.Tuple es k p] e env=pure none:=by
 cases e<;>first|rfl|cases h
theorem VP(h:W4 e=true):∀whole,isTrue e env whole=(do let v <- whole;standAt e.pos;holding [v] (truthy v)):=by
 intro w;cases e<;>first|rfl|cases h
theorem Q2{q:Str×List Expr}(h:wI e=some q):∃p pos,e=.Call (.Name q.1 p) q.2 [] pos:=by
 cases e<;>first|(cases h;done)|skip
 rename_i f as jj pos;cases f<;>first|(cases h;done)|skip
 cases jj<;>first|(cases h;done)|skip
 cases h;exact⟨_,_,rfl⟩
theorem Ox{m:Str}{p:Pos}(h:Em e=some (o,m,p)):e=.Attribute o m p:=by
 cases e<;>cases h
 rfl
theorem Va(h:Eo e=true):∃es k p,e=.Tuple es k p:=by
 cases e<;>first|exact⟨_,_,_,rfl⟩|cases h
theorem N3{f:Str}(h:wz o=true):attributeBase o f env (eval o env)=eval o env:=by
 cases o<;>first|rfl|skip
 rename_i f as jj pos;cases f<;>first|rfl|skip
 cases as with
 |nil=>cases h
 |cons=>rfl
theorem Ab{env:Env}:∀(names:List (Str×NameKind)) (acc:List (Str×Addr)),(∀y∈names,y.2=.free->∃a,env.cells.lookup y.1=some a)->(∀x a,acc.lookup x=some a->env.cells.lookup x=some a) ->
  ∃ cl,(forIn names acc λ(y:Str × NameKind) (cs:List (Str × Addr))=>(match y with
   |(name,kind)=>if(kind==NameKind.free)=true then do
     let __do_lift <- cellOf env name
     pure (ForInStep.yield ((name,__do_lift)::cs))
    else pure (ForInStep.yield cs):Sem (ForInStep (List (Str × Addr)))))=pure cl/\(∀ x a,cl.lookup x=some a->env.cells.lookup x=some a)/\(∀ y ∈ names,y.2=.free->∃ a,cl.lookup y.1=some a)/\∀ x a,acc.lookup x=some a->∃ a',cl.lookup x=some a'
 |[],acc,_,h2=>⟨acc,rfl,h2,λy hy=>absurd hy (by simp),λx a h=>⟨a,h⟩⟩
 |(n,k)::r,acc,h1,h2=>by
  rw[List.forIn_cons];by_cases hk:k=.free
  ·subst hk;obtain⟨a,ha⟩:=h1 (n,.free) (by simp) rfl;have hc:cellOf env n=pure a:=by unfold cellOf;rw[ha]
   obtain ⟨cl,e,q1,q2,q3⟩:=Ab r ((n,a) :: acc) (λy hy=>h1 y (by simp [hy])) (λx b hb=>by
    rw[dj] at hb;cases hx:x==n with
    |true=>simp_all
    | false=>rw [hx] at hb;exact h2 x b hb)
   refine⟨cl,?_,q1,λy hy hf=>?_,λx b hb=>?_⟩
   ·simp only[beq_self_eq_true,if_true,hc];exact e
   ·rcases aB.mp hy with z|z
    ·subst z;exact q3 n a (by simp)
    ·exact q2 y z hf
   ·cases hx:x==n with
    |true=>exact q3 x a (by rw[dj,hx])
    |false=>exact q3 x b (by rw[dj,hx];exact hb)
  ·have hb:(k==NameKind.free)=false:=by simpa using hk
   obtain⟨cl,e,q1,q2,q3⟩:=Ab r acc (λy hy=>h1 y (by simp[hy])) h2;refine⟨cl,?_,q1,λy hy hf=>?_,q3⟩
   ·simp only[hb,Bool.false_eq_true,if_false];exact e
   ·rcases aB.mp hy with z|z
    ·simp_all
    ·exact q2 y z hf
theorem VI{P:Program}{w:World}:Passes (gR P w) X (λ_ _ _=>False):=λ_ _ _ _ _ _ _ h=>by
 obtain⟨_,_,_,_,_,_,_,_,_,z⟩:=h;exact z.elim
theorem L7{env:Env}:∀{names:List (Str×NameKind)} {x:Str},names.lookup x=some .globalImplicit ->
  (names.map λ(n,k)=>if(k==NameKind.free&&env.scope.kind==.function&&env.kindOf n==some .cell) then(n,NameKind.cell) else(n,k)).lookup x=some .globalImplicit
 |[],_,h=>by simp at h
 |(n,k)::r,x,h=>by
  have ih:=@L7 env r x;show List.lookup x ((if(k==NameKind.free&&env.scope.kind==.function&&env.kindOf n==some .cell)=true then(n,NameKind.cell) else(n,k))::_)=_;cases hx:x==n with
  |true =>
   simp only[List.lookup_cons,hx] at h;cases h;simp[List.lookup_cons,hx]
  |false =>
   simp only[List.lookup_cons,hx] at h;by_cases hc:(k==NameKind.free&&env.scope.kind==.function&&env.kindOf n==some .cell)=true
   ·rw[aF hc];simp only[List.lookup_cons,hx];exact ih h
   ·rw[aA hc];simp only[List.lookup_cons,hx];exact ih h
theorem gP.comp(C:gP X c P Ξ){sc:Scope}(h:c.Am sc=true):∃cl,dN X sc (frees sc++locals sc) (c.d5 sc) cl/\∀pins A s H fp,gP (f7 X pins sc (frees sc++locals sc) cl A s H fp) (c.inner sc) P (oh Ξ.1):=by
 unfold d6.Am at h;simp only[Bool.and_eq_true,decide_eq_true_eq,List.all_eq_true] at h;obtain⟨⟨⟨⟨h1,h2⟩,h3⟩,h4⟩,h5⟩:=h;have lW:∀x,sc.names.lookup x=some .free->x∈frees sc:=λx hx=>by
  unfold frees;exact aW.mpr ⟨(x,.free),fA.mpr ⟨aE hx,by simp⟩,rfl⟩
 have fr:∀x∈frees sc,(∃i,c.idx x=some i)/\sc.names.lookup x=some .free/\(c.nm.lookup x=some .cell\/c.nm.lookup x=some .free):=λx hx=>by
  have:=h5 x hx;rw[cB,iB] at this;simp only[decide_eq_true_eq] at this;exact⟨this.1.1,this.1.2,this.2⟩
 have pE:∀y∈sc.names,y.2=.free->∃a,X.env.cells.lookup y.1=some a:=λy hy hf=>by
  have hm:y.1∈frees sc:=aW.mpr ⟨y,fA.mpr ⟨hy,by simp[hf]⟩,rfl⟩;exact C.cells y.1 (fr y.1 hm).2.2
 obtain⟨cl,e,q1,q2,_⟩:=Ab sc.names [] pE (λx a h=>by simp at h);have h2:∀y∈sc.names,y.2=.cell->sc.names.lookup y.1=some .cell:=λy hy hl=>by
  have:=h2 y hy;rw[iB] at this;simp only[Bool.not_eq_true',decide_eq_false_iff_not,decide_eq_true_eq] at this;exact this.resolve_left λz=>z hl
 refine⟨cl,⟨h1,h2,λy hy hl=>?_,?_,q1,λx hx=>q2 (x,.free) (aE hx) rfl,h4,λi j iu=>?_,?_⟩,λpins A s H fp=>?_⟩
 ·have:=h3 y hy;rw[iB] at this;simp only[Bool.not_eq_true',decide_eq_false_iff_not,decide_eq_true_eq] at this;exact this.resolve_left λz=>z hl
 ·simp only[closureFor];rw[e]
  rfl
 ·unfold d6.d5 at iu;rw[aP] at iu;cases ex:(frees sc)[i]? with
  |none=>rw[ex] at iu;cases iu
  |some x =>
   rw[ex] at iu;have hx:x∈frees sc:=dG ex;obtain⟨⟨k,hk⟩,hl,hc⟩:=fr x hx;have hj:k=j:=by
    have:=aq iu;dsimp only at this;rw[hk] at this;exact this
   subst hj;refine⟨x,?_,C.pH hk,hl,?_⟩
   ·rw[aK (ax.mp ex).1];exact ex
   ·rcases hc with z|z
    ·exact .inl (C.vM x z)
    ·exact C.zd x z
 ·unfold d6.d5;rw[av,aS];omega
 ·refine⟨rfl,h4,λx hx=>lookup_relabel_local hx,λx hx=>?_,λx hx=>A8 hx,λx hx=>L7 hx,λx hx=>?_,λx _=>?_,rfl,C.units,(λ_=>PassesOwn.never),C.mono,C.con,C.blt,C.fns,C.cls,C.nS,C.mH,C.qt,VI,(λz=>by cases z),(λz=>by cases z),C.exc,C.vI,C.Dz,(λz=>by cases z),λ_=>rfl,C.pC,C.qr,C.row⟩
  ·exact J0 hx
  ·rcases hx with hx|hx
   ·exact Fj (.inl hx)
   ·exact Fj (.inr (q2 (x,.free) (aE hx) rfl))
  ·exact bh ‹_›
theorem A5(h:O1 x=true):(x==("__debug__":Str))=false/\(x==("__classdict__":Str))=false/\x≠"__name__":=by
 unfold O1 at h;simp only[Bool.and_eq_true,decide_eq_true_eq,beq_iff_eq] at h;exact⟨h.1.1,h.1.2,h.2⟩
theorem US{t:String}(h:Bn.lookup x=some t):bootBuiltins x=some (.type t):=by
 have hm:=aE h;simp only[Bn,List.mem_cons,List.mem_nil_iff,or_false] at hm;rcases hm with z|z|z|z|z<;>(cases z;first|exact uM|exact PyProof.Rows.boot_bool|exact uL|exact pO|exact rj|decide +kernel|rfl)
theorem Vb(hc:X.calm=true)(hu:X.A.units+100<cLine)(h:zx.lookup x=some p):∃v,((∃id,v=.builtin id)\/∃T,v=.type T)/\bootBuiltins x=some v/\k9 X v (rN X.K p):=by
 have hm:=aE h;simp only[zx,List.mem_cons,List.mem_nil_iff,or_false] at hm;rcases hm with z|z|z|z|z|z|z
 ·cases z;exact⟨.builtin "len",.inl ⟨_,rfl⟩,PySem.boot_len,My⟩
 ·cases z;exact⟨.type "list",.inr ⟨_,rfl⟩,by first|exact rj|decide +kernel,OX hc⟩
 ·cases z;exact⟨.type "tuple",.inr ⟨_,rfl⟩,by first|exact pO|decide +kernel,UP⟩
 ·cases z;exact⟨.builtin "isinstance",.inl ⟨_,rfl⟩,by first|exact lH|decide +kernel,OP⟩
 ·cases z;exact⟨.builtin "all",.inl ⟨_,rfl⟩,by first|exact PyProof.Rows.boot_all|decide +kernel,L' hc⟩
 ·cases z;exact⟨.type "int",.inr ⟨_,rfl⟩,by first|exact uM|decide +kernel,Mn⟩
 ·cases z;exact⟨.type "str",.inr ⟨_,rfl⟩,by first|exact uL|decide +kernel,Oe⟩
theorem WD(h:Z9.lookup x=some p):∃T id,PlainAttrs T/\Slot T x id/\typeOf (.builtin id)=pure (.type "method_descriptor")/\jP X id (rM X.K p) /\
  ∀{d:D} {v:V} {g:G} {ρ:List Addr} {H:Hp},Rl X.K ρ g H->c9 X.K ρ H d v->kQ p d g->mW X.K T v H:=by
 cases h
theorem VB(hu:X.A.units+100<cLine)(h:zF.lookup x=some p):∃T id,PlainAttrs T/\Slot T x id/\typeOf (.builtin id)=pure (.type "method_descriptor")/\jP X id (rM X.K p) /\
  ∀{d:D} {v:V} {g:G} {ρ:List Addr} {H:Hp},Rl X.K ρ g H->c9 X.K ρ H d v->kQ p d g->mW X.K T v H:=by
 have hm:=aE h;simp only[zF,List.mem_cons,List.mem_nil_iff,or_false] at hm;rcases hm with z|z|z|z|z|z|z
 ·cases z;exact⟨_,_,gU,PySem.F.slot_list_append,PySem.F.type_list_append,UZ,λR r h=>ty_list R r h⟩
 ·cases z;exact⟨_,_,gU,PySem.F.slot_list_pop,PySem.F.type_list_pop,Yh,λR r h=>ty_list R r h⟩
 ·cases z;exact⟨_,_,eL,PySem.F.slot_str_join,PySem.F.type_str_join,OT,λR r h=>ty_str R r h⟩
 ·cases z;exact⟨_,_,eL,PySem.F.slot_str_split,PySem.F.type_str_split,UK,λR r h=>ty_str R r h⟩
 ·cases z;exact⟨_,_,eL,PySem.F.slot_str_find,PySem.F.type_str_find,OJ,λR r h=>ty_str R r h⟩
 ·cases z;exact⟨_,_,eL,PySem.F.slot_str_partition,PySem.F.type_str_partition,NB,λR r h=>ty_str R r h⟩
 ·cases z;exact⟨_,_,gU,PySem.F.slot_list_insert,PySem.F.type_list_insert,Wy,λR r h=>ty_list R r h⟩
theorem EW{pos:Pos}{env:Env}:∀{es:List Expr},(∀e∈es,gn e=true)->(backTo pos (starEach es env)).all (λx=>!x.1)=true
 |[],_=>rfl
 |e::es,h=>by
  rw[i6 (h e (by simp))];have ih:=EW (pos:=pos) (env:=env) (es:=es) λx hx=>h x (by simp[hx]);unfold backTo at ih ⊢;rw[aG,List.all_cons,ih]
  rfl
theorem N6{pos:Pos}{env:Env}:∀{es:List Expr},(∀e∈es,gn e=true)->(backTo pos (starEach es env)).any (·.1)=false
 |[],_=>rfl
 |e::es,h=>by
  rw[i6 (h e (by simp))];have ih:=N6 (pos:=pos) (env:=env) (es:=es) λx hx=>h x (by simp[hx]);unfold backTo at ih ⊢;rw[aG,jq,ih]
  rfl
theorem U2:∀{es:List Expr} {m:ME},B2 r c es=some m->∀e∈es,gn e=true:=by
 intro es
 induction es with
 |nil=>intro m _ e he;simp_all
 |cons a es ih =>
  intro m h e he;unfold B2 at h;split at h
  ·obtain⟨m1,h1,h⟩:=ae.mp h;obtain⟨m2,h2,_⟩:=af.mp h;rcases aB.mp he with z|z
   ·rw[z];assumption
   ·exact ih h2 e z
  ·cases h
theorem Wj(h:Gg a=some x):∃j p,a=.Constant (.str x) j p:=by
 cases a with
 |Constant k j p=>cases k with
  |str y=>cases h;exact⟨_,_,rfl⟩
  |_=>cases h
 |_=>cases h
theorem Xh(h:DI a=some e):∃p,a=.FormattedValue e (-1) none p:=by
 cases a with
 |FormattedValue v k f p=>cases f with
  |none =>
   have h2:(if k=-1 then some v else none)=some e:=h
   simp_all
  |some _=>cases h
 |_=>cases h
structure oi(P:fe)(r:CF):Prop where
 e:∀X c Ξ,gP X c P Ξ->∀e m,r.e c e=some m->PE X e (LE X.K Ξ (aV P m))
 t:∀X c Ξ,gP X c P Ξ->∀e m,r.t c e=some m->PT X e (LT X.K Ξ (dD P m))
 s:∀X c Ξ,gP X c P Ξ->c.wr=true->∀st m,r.s c st=some m->PS X st (LS X.K Ξ (wpS P m))
section
variable(S:oi P r)(C:gP X c P Ξ){b:Expr}
include S C
theorem R9(h:c1 r c p a=some m):∃ma,PE X a (LE X.K Ξ (aV P ma))/\m=.prim p (.cons ma .nil):=by
 obtain⟨ma,ha,rfl⟩:=af.mp h;exact⟨ma,S.e X c Ξ C _ _ ha,rfl⟩
theorem R8(h:c2 r c p a b=some m):∃ma mb,PE X a (LE X.K Ξ (aV P ma))/\PE X b (LE X.K Ξ (aV P mb))/\m=.prim p (.cons ma (.cons mb .nil)):=by
 obtain⟨ma,ha,h⟩:=ae.mp h;obtain⟨mb,hb,rfl⟩:=af.mp h;exact⟨ma,mb,S.e X c Ξ C _ _ ha,S.e X c Ξ C _ _ hb,rfl⟩
theorem pY:∀{es:List Expr} {m:ME},B2 r c es=some m->PA X es (LA X.K Ξ (fJ P m)):=by
 intro es
 induction es with
 |nil=>intro m h;cases h;exact F2 C.mono
 |cons a es ih =>
  intro m h;unfold B2 at h;split at h
  ·rename_i bB;obtain⟨m1,h1,h⟩:=ae.mp h;obtain⟨m2,h2,rfl⟩:=af.mp h;exact t9 C.mono (S.e X c Ξ C _ _ h1) (ih h2) (i6 bB)
  ·cases h
theorem JG:∀{es:List Expr} {m:ME},uu r c es=some m->∃ts,lC X Ξ P es m ts:=by
 intro es
 induction es with
 |nil=>intro m h;cases h;exact⟨_,.nil⟩
 |cons a es ih =>
  intro m h;rcases orElse_some h with h1|h1
  ·obtain⟨x,hx,h2⟩:=ae.mp h1;obtain⟨j,p,rfl⟩:=Wj hx;split at h2
   ·obtain⟨m2,h3,rfl⟩:=af.mp h2;obtain⟨ts,F⟩:=ih h3;exact⟨_,.lit (by assumption) F⟩
   ·cases h2
  ·obtain⟨x,hx,h2⟩:=ae.mp h1;obtain⟨m1,h3,h4⟩:=ae.mp h2;obtain⟨m2,h5,rfl⟩:=af.mp h4;obtain⟨p,rfl⟩:=Xh hx;obtain⟨ts,F⟩:=ih h5;exact⟨_,.val (S.e X c Ξ C _ _ h3) F⟩
theorem JI{op:BoolOp}:∀{vs:List Expr} {m:ME},AX r c op vs=some m->PE X (.BoolOp op vs pos) (LE X.K Ξ (aV P m)):=by
 intro vs
 induction vs with
 |nil=>intro m h;cases h
 |cons a vs ih =>
  intro m h;cases vs with
  |nil=>exact Nq (S.e X c Ξ C _ _ h)
  |cons b vs =>
   obtain⟨m1,h1,h⟩:=ae.mp h;obtain⟨m2,h2,rfl⟩:=af.mp h;cases op
   ·exact NL C.mono (S.e X c Ξ C _ _ h1) (ih h2)
   ·exact Tv C.mono (S.e X c Ξ C _ _ h1) (ih h2)
theorem JD{op:BoolOp}:∀{vs:List Expr} {m:ME},AY r c op vs=some m->PW X (.BoolOp op vs pos) (LT X.K Ξ (dD P m)):=by
 intro vs
 induction vs with
 |nil=>intro m h;cases h
 |cons a vs ih =>
  intro m h;cases vs with
  |nil =>
   cases op
   ·exact Qa (S.t X c Ξ C _ _ h)
   ·exact NG (S.t X c Ξ C _ _ h)
  |cons b vs =>
   obtain⟨m1,h1,h⟩:=ae.mp h;obtain⟨m2,h2,rfl⟩:=af.mp h;cases op
   ·exact Of C.mono (S.t X c Ξ C _ _ h1) (ih h2)
   ·exact Ly C.mono (S.t X c Ξ C _ _ h1) (ih h2)
theorem Rk(h:Gj r c es=some m):lB X es (LT X.K Ξ (dD P m)):=by
 rcases es with _|⟨e,_|⟨_,_⟩⟩
 ·cases h;exact Qw C.mono
 ·exact PZ (S.t X c Ξ C _ _ h)
 ·cases h
theorem ug(hw:c.wr=true):∀{Ck:List Stmt} {m:MS},u9 r c Ck=some m->iZ X Ck (LS X.K Ξ (wpS P m)):=by
 intro es
 induction es with
 |nil=>intro m h;cases h;exact zO C.mono
 |cons a es ih =>
  intro m h;obtain⟨m1,h1,h⟩:=ae.mp h;obtain⟨m2,h2,rfl⟩:=af.mp h;exact Ao C.mono (S.s X c Ξ C hw _ _ h1) (ih h2)
end
theorem P9{t:Expr}(h:o7 e=true):swapsWithSole [t] e n env=pure false:=by
 exact W7 h
theorem gP.V3(C:gP X c P Ξ)(hw:c.wr=true)(hex:X.ex=[])(eJ:X.stack=X.env::X.outer)(hf:X.env.frame=some X.env.locals)(pins:List (Addr×Obj))(D:L2.Ends)(hs:List ExceptHandler){o:Option L2.St}{cM:L2.St}{w:Bool}(xZ:∀U:L2.St,U.length=X.N.length->(∀τ,o=some τ->U=τ)->cM.length=U.length/\∀(i:Nat) v,cM[i]?=some (some v)->U[i]?=some (some v))(ho:w=true->o=none) :
  gP (C8 X pins (S4 X pins D hs) o) { c with ik:=false,iL:=false,wr:=w } P (pL X Ξ.1 D cM hs) :=
 ⟨C.N,C.nd,C.loc,C.vM,C.zd,C.Dy,C.cells,C.nE,C.calm,C.units,(λ_=>PassesOwn.looking),C.mono,C.con,C.blt,C.fns,C.cls,C.nS,C.mH,C.qt,X' (C.sgn hw) hex eJ hf xZ λC od H' ⟨C',e,z⟩=>(by cases e;exact z),(λz=>by cases z),(λz=>by cases z),C.exc,C.vI,C.Dz,C.code,ho,C.pC,C.qr,C.row⟩
section
variable(S:oi P r)(C:gP X c P Ξ){b d:Expr}
include C
theorem MK(h:Bt c x=some m):PE X (.Name x pos) (LE X.K Ξ (aV P m)):=by
 unfold Bt at h;split at h
 ·rename_i gh;obtain⟨d1,d2,d3⟩:=A5 gh;split at h
  ·rename_i hv;obtain⟨i,hi,rfl⟩:=af.mp h;exact NS (C.pH hi) (C.LV hv) d1 d2
  ·split at h
   ·rename_i hg;rcases orElse_some h with h|h
    ·obtain⟨d,hd,rfl⟩:=af.mp h;obtain⟨v,u,hm,r,rr⟩:=C.con x d hd;exact N8 (Aj (C.n9 hg) hm r d1) rr
    ·split at h
     ·rename_i hb;obtain⟨t,ht,rfl⟩:=af.mp h;exact N8 (v:=.ty t) (Pu (C.n9 hg) (C.blt x hb) (US ht) rfl d3 d1) λ_ _=>.ty t
     ·cases h
   ·cases h
 ·cases h
omit C in
theorem xJ{k:Const}{j:Nat}{d:D}(h:U1 k=some d):PE X (.Constant k j pos) (LE X.K Ξ (aV P (.lit d))):=by
 cases k<;>first|(cases h;done)|skip
 ·cases h;exact N8 Nn λ_ _=>.bA
 ·cases h;exact N8 Tb λ_ _=>.bl _
 ·cases h;exact N8 Nm λ_ _=>.int _
 ·cases h;exact N8 GB λ_ _=>.str _
include S
theorem Rm{op:UnaryOp}(h:xn r c op a=some m):PE X (.UnaryOp op a pos) (LE X.K Ξ (aV P m)):=by
 unfold xn at h;split at h
 ·rename_i ho;subst ho;obtain⟨ma,ha,rfl⟩:=af.mp h;exact NQ C.mono (S.e X c Ξ C _ _ ha)
 ·obtain⟨ma,ha,rfl⟩:=R9 S C h;exact Tw C.mono ha
theorem Im{ops:List CmpOp}{bs:List Expr}(h:ur r c a ops bs=some m):PE X (.Compare a ops bs pos) (LE X.K Ξ (aV P m))/\PT X (.Compare a ops bs pos) (LT X.K Ξ (dD P (.gb m))):=by
 unfold ur at h;split at h
 ·rename_i op b;split at h
  ·cases h
  ·rename_i hm;have hm:behindInMarks op b=false:=by simpa using hm
   obtain⟨ma,mb,ha,hb,rfl⟩:=R8 S C h;exact⟨zL C.mono (Px (Q6 C.units op) ha hb hm),Oc C.mono (PU (Q6 C.units op) ha hb hm)⟩
 ·split at h
  ·cases h
  ·rename_i hm;obtain⟨ma,ha,h⟩:=ae.mp h;obtain⟨mb,hb,h⟩:=ae.mp h;obtain⟨md,hd,rfl⟩:=af.mp h;exact⟨UA C.mono C.units (S.e X c Ξ C _ _ ha) (S.e X c Ξ C _ _ hb) (S.e X c Ξ C _ _ hd) (by simpa using hm),UL C.mono C.units (S.e X c Ξ C _ _ ha) (S.e X c Ξ C _ _ hb) (S.e X c Ξ C _ _ hd) (by simpa using hm)⟩
 ·cases h
theorem Ri{lo hi st:Option Expr}{p2:Pos}(h:Cf r c a lo hi st=some m):PE X (.Subscript a (.Slice lo hi st p2) pos) (LE X.K Ξ (aV P m)):=by
 cases lo<;>cases hi<;>cases st<;>first|(cases h;done)|skip
 ·obtain⟨ma,mb,ha,hb,rfl⟩:=R8 S C h;exact UG C.mono ha hb
 ·obtain⟨ma,mb,ha,hb,rfl⟩:=R8 S C h;exact UH C.mono ha hb
theorem SO(h:AN r c a b=some m):PE X (.Subscript a b pos) (LE X.K Ξ (aV P m)):=by
 unfold AN at h;rcases orElse_some h with h|h
 ·obtain⟨q,hq,h⟩:=ae.mp h;have eb:∃p,b=.Slice q.1 q.2.1 q.2.2 p:=by cases b<;>first|(cases hq;exact⟨_,rfl⟩)|cases hq
  obtain⟨p,rfl⟩:=eb;exact Ri S C h
 ·split at h
  ·rename_i hb;rcases orElse_some h with h|h
   ·obtain⟨aU,hk,h⟩:=ae.mp h;unfold d6.DU at hk;cases hk
   ·obtain⟨ma,mb,ha,js,rfl⟩:=R8 S C h;exact zL C.mono (Te (Sv C.units) ha js (MU hb))
  ·cases h
theorem Rj(hg:c.gl x=true)(h:Ce r c x e=some m):PE X (.Call (.Name x px) [e] [] pos) (LE X.K Ξ (aV P m)):=by
 obtain⟨q,hq,h'⟩:=ae.mp h;clear h;have h:=h';clear h';obtain⟨p,pos',rfl⟩:=Q2 hq;obtain⟨y,as⟩:=q;dsimp only at h ⊢;split at h
 ·rename_i hc;simp only[Bool.and_eq_true,decide_eq_true_eq] at hc;obtain⟨⟨⟨⟨rfl,rfl⟩,hl⟩,hr⟩,qe⟩:=hc;rcases as with _|⟨a,_|⟨b,_|⟨_,_⟩⟩⟩
  ·cases h
  ·dsimp only at h;split at h
   ·rename_i ho;obtain⟨ma,ha,rfl⟩:=R9 S C h;exact UB C.mono C.calm ha (C.n9 hg) (C.blt _ hl) (C.n9 qe) (C.blt _ hr) (i6 ho)
   ·cases h
  ·dsimp only at h;split at h
   ·rename_i ho;rw[cj] at ho;obtain⟨ma,mb,ha,hb,rfl⟩:=R8 S C h;exact UC C.mono C.calm ha hb (C.n9 hg) (C.blt _ hl) (C.n9 qe) (C.blt _ hr) (by rw[i6 ho.1,i6 ho.2];rfl) (i6 ho.2)
   ·cases h
  ·cases h
 ·split at h
  ·rename_i hc;simp only[Bool.and_eq_true,decide_eq_true_eq] at hc;obtain⟨⟨⟨⟨rfl,rfl⟩,hl⟩,hr⟩,qe⟩:=hc;rcases as with _|⟨a,_|⟨_,_⟩⟩
   ·cases h
   ·dsimp only at h;split at h
    ·rename_i ho;obtain⟨ma,ha,rfl⟩:=R9 S C h;exact Qj C.mono C.calm ha (C.n9 hg) (C.blt _ hl) (C.n9 qe) (C.blt _ hr) (i6 ho)
    ·cases h
   ·cases h
  ·split at h
   ·rename_i hc;simp only[Bool.and_eq_true,decide_eq_true_eq] at hc;obtain⟨⟨⟨⟨rfl,rfl⟩,hl⟩,hr⟩,qe⟩:=hc;rcases as with _|⟨a,_|⟨_,_⟩⟩
    ·cases h
    ·dsimp only at h;split at h
     ·rename_i ho;obtain⟨ma,ha,rfl⟩:=R9 S C h;exact Qg C.mono C.calm ha (C.n9 hg) (C.blt _ hl) (C.n9 qe) (C.blt _ hr) (i6 ho)
     ·cases h
    ·cases h
   ·cases h
theorem Rg(hg:c.gl x=true)(h:Cg r c x e es=some m):PE X (.Call (.Name x px) (e::es) [] pos) (LE X.K Ξ (aV P m)):=by
 rcases es with _|⟨b,_|⟨_,_⟩⟩
 ·cases h
 ·obtain⟨y,hy,h2⟩:=ae.mp (show(asName b).bind _=some m from h);obtain⟨p,rfl⟩:=C3 hy;split at h2
  ·rename_i hc;simp only[Bool.and_eq_true,decide_eq_true_eq] at hc;obtain⟨⟨⟨⟨⟨rfl,hb⟩,yC⟩,hd⟩,ho⟩,hs⟩:=hc;obtain⟨ma,ha,rfl⟩:=R9 S C h2;obtain⟨f,hf⟩:=cB.mp hs;obtain⟨k,C',fa,fd,ps,F,hr,hm,hC,ku,M⟩:=C.cls y f hf;exact NO C.mono ha (C.n9 hg) (C.blt _ hb) (C.n9 yC) (A5 hd).1 hm hC (i6 ho)
  ·cases h2
 ·cases h
theorem Pd(h:GY r c x args=some m):PE X (.Call (.Name x px) args [] pos) (LE X.K Ξ (aV P m)):=by
 cases args with
 |nil =>
  have h2:zW c x=some m:=h;unfold zW at h2;split at h2
  ·rename_i gh;rw[cj] at gh;rcases orElse_some h2 with h2|h2
   ·obtain⟨f,hf,rfl⟩:=af.mp h2;obtain⟨k,fa,fd,ps,F,hr,hm,hk⟩:=C.fns x f hf;exact Uz C.mono C.pass F hr (C.n9 gh.2) hm hk (A5 gh.1).1
   obtain⟨f,hf,rfl⟩:=af.mp h2;obtain⟨k,C',fa,fd,ps,F,hr,hm,hC,ku,M⟩:=C.cls x f hf;exact UD C.mono C.pass F M hC ku hr (C.n9 gh.2) hm (A5 gh.1).1
  ·cases h2
 |cons e es =>
  have h0:zX r c x e es=some m:=h;clear h;have h:=h0;clear h0;unfold zX at h;split at h
  ·rename_i gh;rw[cj] at gh;obtain⟨d1,d2,d3⟩:=A5 gh.1;rcases orElse_some h with h|h
   ·exact Rg S C gh.2 h
   rcases orElse_some h with h|h
   ·cases es with
    |nil=>exact Rj S C gh.2 h
    |cons _ _=>cases h
   ·obtain⟨ms,nU,h⟩:=ae.mp h;have ok:=U2 nU;have pa:=pY S C nU;have eJ:=i6 (env:=X.env) (es:=es) (ok e (by simp));have gE:=N6 (pos:=pos) (env:=X.env) (es:=es) λz hz=>ok z (by simp[hz]);rcases orElse_some h with h|h
    ·obtain⟨f,hf,rfl⟩:=af.mp h;obtain⟨k,fa,fd,ps,F,hr,hm,hk⟩:=C.fns x f hf;exact Qd C.mono C.pass F hr (C.n9 gh.2) hm hk pa d1 eJ gE
    ·rcases orElse_some h with h|h
     ·obtain⟨f,hf,rfl⟩:=af.mp h;obtain⟨k,C',fa,fd,ps,F,hr,hm,hC,ku,M⟩:=C.cls x f hf;exact Qh C.mono C.pass F M hC ku hr (C.n9 gh.2) hm pa d1 eJ gE
     ·split at h
      ·rename_i hb;obtain⟨p,hp,rfl⟩:=af.mp h;obtain⟨v,hv,yJ,hc⟩:=Vb (X:=X) C.calm C.units hp;exact NM C.mono hv hc (C.n9 gh.2) (C.blt x hb) yJ pa d3 d1 eJ gE
      ·cases h
  ·cases h
theorem Pc{mt:Str}{apos:Pos}(h:zY r c o mt apos pos args=some m):PE X (.Call (.Attribute o mt apos) args [] pos) (LE X.K Ξ (aV P m)):=by
 unfold zY at h;split at h
 ·rename_i hc;simp only[Bool.and_eq_true,decide_eq_true_eq] at hc;obtain⟨⟨hb,hl⟩,hn⟩:=hc;obtain⟨mo,ho,h⟩:=ae.mp h;obtain⟨ms,nU,h⟩:=ae.mp h;have ok:=U2 nU;have pa:=pY S C nU;have po:=S.e X c Ξ C _ _ ho;have hf:methodCallForm args.length (backTo pos (starEach args X.env)) (backToKw pos (keywordEach [] X.env))=true:=by
   unfold methodCallForm;rw[EW ok];have:args.length+0<30:=by omega
   show(true&&true&&decide (args.length+0<30))=true;rw[bh this]
   rfl
  by_cases tj:mt="index"
  ·subst tj;rw[aF rfl] at h;cases h
  rw[aA tj] at h;cases args with
  |nil =>
   cases nU;by_cases h0:(Z9.lookup mt).isSome=true
   ·rw[aF (by rw[h0];rfl)] at h;obtain⟨p,hp,rfl⟩:=af.mp h;obtain⟨T,id,xF,sl,ty,xK,hk⟩:=WD (X:=X) hp;exact UE C.mono xF sl ty xK hk po (N3 hb) hl
   rw[aA (by rw[cj];exact λz=>h0 z.2)] at h;split at h
   ·cases h
   ·cases h
  |cons e es =>
   have eJ:=i6 (env:=X.env) (es:=es) (ok e (by simp));have gE:=N6 (pos:=pos) (env:=X.env) (es:=es) λz hz=>ok z (by simp[hz]);rw[aA (by simp)] at h;split at h
   ·rename_i p hp;cases h;obtain⟨T,id,xF,sl,ty,xK,hk⟩:=VB (X:=X) C.units hp;exact Qi C.mono xF sl ty xK hk po pa (N3 hb) hf hl eJ gE
   ·cases h
 ·cases h
theorem Cz{tg:Expr}(h:uv r c tg e=some m):PI X tg e (LI X.K Ξ (jh P m)):=by
 unfold uv at h;rcases orElse_some h with h|h
 ·obtain⟨q,hq,h'⟩:=ae.mp h;rename_i h0;clear h h0;have h:=h';clear h';obtain⟨p,pos',rfl⟩:=Q2 hq;obtain⟨y,as⟩:=q;dsimp only at h ⊢
  ·split at h
   ·rename_i hy;subst hy;rcases as with _|⟨a,_|⟨b,_|⟨_,_⟩⟩⟩
    ·cases h
    ·dsimp only at h;split at h
     ·rename_i hc;simp only[Bool.and_eq_true] at hc;obtain⟨⟨hg,hb⟩,ho⟩:=hc;obtain⟨ma,ha,rfl⟩:=af.mp h;exact Qp C.mono (S.e X c Ξ C _ _ ha) (C.n9 hg) (C.blt _ hb) (i6 ho)
     ·cases h
    ·dsimp only at h;split at h
     ·rename_i hc;simp only[Bool.and_eq_true] at hc;obtain⟨⟨⟨hg,hb⟩,ho⟩,kW⟩:=hc;obtain⟨ma,ha,h⟩:=ae.mp h;obtain⟨mb,js,rfl⟩:=af.mp h;exact Qq C.mono (S.e X c Ξ C _ _ ha) (S.e X c Ξ C _ _ js) (C.n9 hg) (C.blt _ hb) (by rw[i6 ho,i6 kW];rfl) (i6 kW)
     ·cases h
    ·cases h
   ·split at h
    ·rename_i hy;subst hy;rcases as with _|⟨a,_|⟨b,_|⟨_,_⟩⟩⟩
     ·cases h
     ·cases h
     ·dsimp only at h;split at h
      ·rename_i hc;simp only[Bool.and_eq_true] at hc;obtain⟨⟨⟨⟨hg,hb⟩,ho⟩,kW⟩,ht⟩:=hc;obtain⟨ma,ha,h⟩:=ae.mp h;obtain⟨mb,js,rfl⟩:=af.mp h;obtain⟨es,k,tp,rfl⟩:=Va ht;exact NW C.mono (S.e X c Ξ C _ _ ha) (S.e X c Ξ C _ _ js) (C.n9 hg) (C.blt _ hb) (by rw[i6 ho,i6 kW];rfl) (i6 kW)
      ·cases h
     ·cases h
    ·cases h
 ·split at h
  ·obtain⟨ma,ha,rfl⟩:=af.mp h;exact NV C.mono (S.e X c Ξ C _ _ ha)
  ·cases h
theorem Hv{elt:Expr}{gens:List Comprehension}{sc:Scope}(h:Z2 r c elt gens sc=some m):∃tg it ifs t mi mc me cl,gens=[⟨tg,it,ifs,0⟩]/\m=.comp (c.d5 sc) (frees sc++locals sc).length t mi mc me/\gn it=true /\
  dN X sc (frees sc++locals sc) (c.d5 sc) cl/\PI X tg it (LI X.K Ξ (jh P mi))/\(∀pins A s H fp,PG (f7 X pins sc (frees sc++locals sc) cl A s H fp) tg (LG X.K t)) /\
   (∀pins A s H fp,lB (f7 X pins sc (frees sc++locals sc) cl A s H fp) ifs (LT X.K (oh Ξ.1) (dD P mc)))/\(∀pins A s H fp,PE (f7 X pins sc (frees sc++locals sc) cl A s H fp) elt (LE X.K (oh Ξ.1) (aV P me))):=by
 unfold Z2 at h;rcases gens with _|⟨⟨tg,it,ifs,CG⟩,_|⟨_,_⟩⟩
 ·cases h
 ·dsimp only at h;split at h
  ·rename_i hs;simp only[Bool.and_eq_true,decide_eq_true_eq] at hs;obtain⟨⟨hs,rfl⟩,hit⟩:=hs;obtain⟨t,h1,h⟩:=ae.mp h;obtain⟨mi,h2,h⟩:=ae.mp h;obtain⟨mc,h3,h⟩:=ae.mp h;obtain⟨me,h4,rfl⟩:=af.mp h;obtain⟨cl,Sc,I⟩:=C.comp hs;exact⟨tg,it,ifs,t,mi,mc,me,cl,rfl,rfl,hit,Sc,Cz S C h2,λpins A s H fp=>(I pins A s H fp).Ed rfl h1,λpins A s H fp=>Rk S (I pins A s H fp) h3,λpins A s H fp=>S.e _ _ _ (I pins A s H fp) elt me h4⟩
  ·cases h
 ·cases h
omit S in
theorem Rh{f:Expr}{jj:List Keyword}(h:uU c f args jj=some m):PE X (.Call f args jj pos) (LE X.K Ξ (aV P m)):=by
 unfold uU at h;cases h
theorem JH:∀e m,Iv r c e=some m->PE X e (LE X.K Ξ (aV P m)):=by
 intro e m h;cases e with
 |Name x p=>exact MK C h
 |Constant k j p =>
  obtain⟨d,hd,rfl⟩:=af.mp (show(U1 k).map ME.lit=some m from h);exact xJ hd
 |BinOp a op b p =>
  obtain⟨ma,mb,ha,hb,rfl⟩:=R8 S C h;exact zL C.mono (Tf (MX op) ha hb)
 |UnaryOp op a p=>exact Rm S C h
 |Compare a ops bs p=>exact(Im S C h).1
 |BoolOp op vs p=>exact JI S C h
 |IfExp t a b p =>
  obtain⟨mt,ht,h⟩:=ae.mp h;obtain⟨ma,ha,h⟩:=ae.mp h;obtain⟨mb,hb,rfl⟩:=af.mp h;exact NP C.mono (S.t X c Ξ C _ _ ht) (S.e X c Ξ C _ _ ha) (S.e X c Ξ C _ _ hb)
 |Tuple es k p =>
  obtain⟨ma,ha,rfl⟩:=af.mp h;exact NR C.mono (pY S C ha)
 |List es p =>
  obtain⟨ma,ha,rfl⟩:=af.mp h;exact GK C.mono (pY S C ha)
 |Subscript a b p=>exact SO S C h
 |Dict ks vs p =>
  have h2:(if ks.isEmpty&&vs.isEmpty then some (ME.prim .kZ .nil) else none)=some m:=h;split at h2
  ·rename_i hc;cases ks<;>cases vs<;>first|(cases hc;done)|skip
   cases h2;exact Qe
  ·cases h2
 |JoinedStr vs p =>
  have h2:(if decide (2<=vs.length)&&decide (vs.length<=40) then(uu r c vs).map (ME.prim .kY) else none)=some m:=h;split at h2
  ·rename_i hc;simp only[Bool.and_eq_true,decide_eq_true_eq] at hc;obtain⟨ms,hm,rfl⟩:=af.mp h2;obtain⟨ts,F⟩:=JG S C hm;rcases vs with _|⟨v1,_|⟨v2,vs⟩⟩
   ·simp at hc
   ·simp at hc
   ·exact Qf C.mono F hc.2
  ·cases h2
 |Attribute o f p =>
  have h2:(if wz o then c1 r c (.fld f) o else none)=some m:=h;split at h2
  ·rename_i hb;obtain⟨ma,ha,rfl⟩:=R9 S C h2;exact NN C.mono ha (N3 hb)
  ·cases h2
 |Call f args jj pos =>
  have h1:((xo r c f args jj).orElse λ_=>(uU c f args jj).orElse λ_=>Bs r c f args jj pos)=some m:=h;rcases orElse_some h1 with h2|h2
  ·unfold xo at h2;cases h2
  clear h h1;rcases orElse_some h2 with h3|h3
  ·exact Rh C h3
  clear h2;unfold Bs at h3;split at h3
  ·rename_i hk;cases jj<;>first|(cases hk;done)|skip
   cases f with
   |Name x p=>exact Pd S C h3
   |Attribute o a p=>exact Pc S C h3
   |_=>cases h3
  ·cases h3
 |ListComp elt gens sc p =>
  obtain⟨tg,it,ifs,t,mi,mc,me,cl,rfl,rfl,hit,Sc,q1,q2,q3,q4⟩:=Hv S C h;exact(Hz Sc C.calm q1 q2 q3 q4 (Ay hit)).imp λU H Q h=>EA C.mono U H Q h
 |_=>cases h
theorem JE:∀e m,stepT r c e=some m->PT X e (LT X.K Ξ (dD P m)):=by
 intro e m h;have plain:∀{e:Expr} {m:ME},(if W4 e then(r.e c e).map ME.gb else none)=some m->PT X e (LT X.K Ξ (dD P m)):=λ{e m} h=>by
  split at h
  ·rename_i hp;obtain⟨ma,ha,rfl⟩:=af.mp h;exact Od C.mono (S.e X c Ξ C _ _ ha) (VP hp)
  ·cases h
 cases e with
 |UnaryOp op a p =>
  have h2:(if op=.Not then(r.t c a).map ME.dW else none)=some m:=h;split at h2
  ·rename_i ho;subst ho;obtain⟨ma,ha,rfl⟩:=af.mp h2;exact Ob C.mono (S.t X c Ξ C _ _ ha)
  ·cases h2
 |BoolOp op vs p=>exact(JD S C h).pt
 |Compare a ops bs p =>
  obtain⟨ma,ha,rfl⟩:=af.mp (show(ur r c a ops bs).map ME.gb=some m from h);exact(Im S C ha).2
 |_=>exact plain h
end
theorem M5{α:Type}{l:List α}{x:α}(h:Y7 l=some x):l=[x]:=by
 rcases l with _|⟨a,_|⟨_,_⟩⟩<;>cases h
 rfl
theorem Eu{s:Stmt}{q:Expr×Pos}(h:BB s=some q):s=.Return (some q.1) q.2:=by
 cases s<;>first|(cases h;done)|skip
 rename_i e p;cases e<;>cases h
 rfl
theorem U'{q:List Expr×Pos}(h:En e=some q):e=.List q.1 q.2:=by
 cases e<;>cases h
 rfl
theorem Wk{h:ExceptHandler}{z:Str}(e:zr h=some z):∃p p1 p2 p3 p4 p5,h=.ExceptHandler (some (.Name "BadText" p)) (some z) [.Return (some (.List [.Attribute (.Name z p1) "row" p2] p3)) p4] p5:=by
 obtain⟨t,n,b,p⟩:=h;unfold zr at e;obtain⟨t,rfl,e1⟩:=ae.mp e;obtain⟨x,h1,e2⟩:=ae.mp e1;obtain⟨z',rfl,e3⟩:=ae.mp e2;obtain⟨s,h2,e4⟩:=ae.mp e3;obtain⟨q,h3,e5⟩:=ae.mp e4;obtain⟨l,h4,e6⟩:=ae.mp e5;obtain⟨a,h5,e7⟩:=ae.mp e6;obtain⟨o,h6,e8⟩:=ae.mp e7;obtain⟨w,h7,e9⟩:=ae.mp e8;clear e e1 e2 e3 e4 e5 e6 e7 e8;split at e9
 case isFalse=>cases e9
 rename_i hc;simp only[Bool.and_eq_true,decide_eq_true_eq] at hc;obtain⟨⟨rfl,rfl⟩,hr⟩:=hc;cases e9;obtain⟨p1,rfl⟩:=C3 h1;have:=M5 h2;subst this;have:=Eu h3;subst this;obtain⟨q1,q2⟩:=q;have:=U' h4;obtain rfl:q1=_:=this;obtain⟨l1,l2⟩:=l;have:=M5 h5;obtain rfl:l1=_:=this;obtain⟨o1,o2,o3⟩:=o;have:=Ox h6;subst this;obtain⟨p2,e0⟩:=C3 h7;obtain rfl:o1=_:=e0;obtain rfl:o2="row":=hr;exact⟨_,_,_,_,_,_,rfl⟩
section
theorem Ez(h:Ib e=some m):PE X e (LE X.K Ξ (aV P m))/\gn e=true:=by
 cases e<;>first|(cases h;done)|skip
 obtain⟨d,hd,rfl⟩:=af.mp (show(U1 _).map ME.lit=some m from h);exact⟨xJ hd,rfl⟩
theorem Vg(hP:i4 P):∀{es:List Expr} {m:ME},zy es=some m->PA X es (LA X.K Ξ (fJ P m)):=by
 intro es
 induction es with
 |nil=>intro m h;cases h;exact F2 hP
 |cons e es ih =>
  intro m h;obtain⟨m1,h1,h⟩:=ae.mp h;obtain⟨m2,h2,rfl⟩:=af.mp h;exact t9 hP (Ez h1).1 (ih h2) (i6 (Ez (X:=X) (Ξ:=Ξ) (P:=P) h1).2)
theorem Xr(hP:i4 P)(h:Ia e=some m):PE X e (LE X.K Ξ (aV P m)):=by
 cases e<;>first|(cases h;done)|skip
 ·obtain⟨d,hd,rfl⟩:=af.mp (show(U1 _).map ME.lit=some m from h);exact xJ hd
 ·obtain⟨ms,hm,rfl⟩:=af.mp h;exact GK hP (Vg hP hm)
theorem Wi{h:ExceptHandler}{q:Str×Expr}(hq:Gf h=some q):∃p p1 p2,h=.ExceptHandler (some (.Name q.1 p)) none [.Return (some q.2) p1] p2:=by
 obtain⟨t,n,b,p0⟩:=h;cases n with
 |some _=>cases hq
 |none =>
  obtain⟨t,rfl,hq⟩:=ae.mp (show t.bind _=some q from hq);obtain⟨y,hy,hq⟩:=ae.mp hq;obtain⟨e,he,rfl⟩:=af.mp hq;obtain⟨p,rfl⟩:=C3 hy;rcases b with _|⟨s,_|⟨_,_⟩⟩
  ·cases he
  ·cases s<;>first|(cases he;done)|(cases he;exact⟨_,_,_,rfl⟩)
  ·cases he
theorem Xq(C:gP X c P Ξ)(vy:O5 X Ξ.2):∀{hs:List ExceptHandler} {ms:List (Str×ME)},qO c hs=some ms->jQ X Ξ P hs ms:=by
 intro hs
 induction hs with
 |nil=>intro ms h;cases h;exact .nil vy
 |cons hd hs ih =>
  intro ms h;unfold qO at h;rcases orElse_some h with h|h
  rotate_left
  ·obtain⟨y,hy,h5⟩:=ae.mp h;clear h;obtain⟨t,n,b,p2⟩:=hd;have hy:(if n.isNone&&!b.isEmpty then t.bind asName else none)=some y:=hy;split at hy
   case isFalse=>cases hy
   rename_i yI;simp only[Bool.and_eq_true] at yI;cases n<;>first|(cases yI.1;done)|skip
   rcases b with _|⟨kz,su⟩
   ·cases yI.2
   obtain⟨t,rfl,hy⟩:=ae.mp hy;obtain⟨p,rfl⟩:=C3 hy;split at h5
   ·rename_i hc;simp only[Bool.and_eq_true] at hc;obtain⟨sD,h2,rfl⟩:=af.mp h5;obtain⟨C',hm,hi,_⟩:=C.exc y hc.1.1;refine .rZ (C.n9 hc.1.2) (A5 hc.2).1 hm (λx C1 hx h1=>C.vI x y C1 C' ?_ hc.1.1 h1 hi) (C.pC y hc.1.1) (λC1 h1=>C.qr y C1 C' hc.1.1 h1 hi) (ih h2);rw[C.qt] at hx;simpa using hx
   ·cases h5
  rename_i h0;clear h0;obtain⟨q,hq,h'⟩:=ae.mp h;clear h;have h:=h';clear h';obtain⟨p,p1,p2,rfl⟩:=Wi hq;obtain⟨y,e⟩:=q;dsimp only at h ⊢;split at h
  ·rename_i hc;simp only[Bool.and_eq_true] at hc;obtain⟨m,h1,h⟩:=ae.mp h;obtain⟨sD,h2,rfl⟩:=af.mp h;obtain⟨C',hm,hi,_⟩:=C.exc y hc.1.1;refine .cons (C.n9 hc.1.2) (A5 hc.2).1 hm (λx C1 hx h1=>C.vI x y C1 C' ?_ hc.1.1 h1 hi) (C.pC y hc.1.1) (λC1 h1=>C.qr y C1 C' hc.1.1 h1 hi) (λea=>Xr (X:=o8 X ea) C.mono h1) (ih h2);rw[C.qt] at hx;simpa using hx
  ·cases h
theorem WU{e f:Option Expr}{q:Str×Expr×List Expr}(h:G' e f=some q):f=none/\∃p p',e=some (.Call (.Name q.1 p) (q.2.1::q.2.2) [] p'):=by
 cases f with
 |some _=>cases h
 |none =>
  obtain⟨t,rfl,h⟩:=ae.mp (show e.bind _=some q from h);obtain⟨z,hz,h⟩:=ae.mp h;obtain⟨p,p',rfl⟩:=Q2 hz;obtain⟨x,as⟩:=z;cases as with
  |nil=>cases h
  |cons a as=>cases h;exact⟨rfl,_,_,rfl⟩
theorem OK(C:gP X c P Ξ){f:Str}:zq X.K f (c.DQ f):=λy C' h hC=>by
 obtain⟨⟨f',y'⟩,h1,h2⟩:=aW.mp h;obtain⟨h3,h4⟩:=fA.mp h1;cases h2;have:f'=f:=by simpa using h4
 subst this;exact C.mH f' y' C' h3 hC
variable(S:oi P r)(C:gP X c P Ξ)
include S C
theorem ML{pt:Pos}{m:MS}(hw:c.wr=true)(h:we r c es e=some m):PS X (.Assign [.Tuple es k pt] e pos) (LS X.K Ξ (wpS P m)):=by
 unfold we at h;obtain⟨q,hq,h1⟩:=ae.mp h;clear h;split at h1
 ·rename_i hn;rw[cj] at hn;obtain⟨i,hi,h2⟩:=ae.mp h1;obtain⟨j,hj,h3⟩:=ae.mp h2;obtain⟨me,he,rfl⟩:=af.mp h3;unfold Gh at hq;split at hq
  ·cases hq;dsimp only at hi hj;rename_i a b pb;have so:=C.slots (es:=[a,b]) (is:=[i,j]) (by simp[d6.slots,hi,hj]);exact QB C.mono (zI (S.e X c Ξ C _ _ he) (PH C.calm (Fz (C.pX hw) so) (λ_ _ z=>by subst z;cases hi) (λ_ _ z=>by subst z;cases hj)) (P9 hn.2) (EI hn.1))
  ·cases hq
 ·cases h1
theorem SN{tg:Expr}{m:MS}(hw:c.wr=true)(hS:∀e m,r.e c e=some m->o7 e=false->∃elt gens sc p,e=.ListComp elt gens sc p/\∃r',oi P r'/\Z2 r' c elt gens sc=some m)(hT:∀a b k p m,r.e c (.Tuple [a,b] k p)=some m->∃r' ms,oi P r'/\B2 r' c [a,b]=some ms/\m=.prim .tup ms)(h:DZ r c tg e=some m):PS X (.Assign [tg] e pos) (LS X.K Ξ (wpS P m)):=by
 cases tg with
 |Name x px =>
  have h2:(if c.z9 x then(c.idx x).bind λi=>(r.e c e).map λm=>MS.set i m else none)=some m:=h;split at h2
  ·rename_i hl;obtain⟨i,hi,h2⟩:=ae.mp h2;obtain⟨me,he,rfl⟩:=af.mp h2;cases hn:o7 e with
   |true=>exact GN C.mono (GD (C.pX hw) (C.pH hi) (C.z9 hl).1 (S.e X c Ξ C _ _ he) (W7 hn) (C.z9 hl).2)
   |false =>
    obtain⟨elt,gens,sc,p,rfl,r',S',hx⟩:=hS e me he hn;obtain⟨tg,it,ifs,t,mi,mc,me,cl,rfl,rfl,hit,Sc,q1,q2,q3,q4⟩:=Hv S' C hx;refine GN C.mono ?_;exact(Xf Sc C.calm q1 q2 q3 q4 (Ay hit) (C.pX hw) (C.pH hi) (C.z9 hl).1 (C.z9 hl).2).imp λN U H h=>EA C.mono U H _ h
  ·cases h2
 |Tuple es k pt =>
  rcases orElse_some (show((we r c es e).orElse λ_=>_)=some m from h) with h|h
  ·exact ML S C hw h
  have h0:((zt es).elim (if S9 e&&o7 e then(c.slots es).bind λis=>(r.e c e).map λm=>MS.mr (.many is) m else none) λq=>if o7 e&&gn q.2.1&&gn q.2.2.2 then(r.e c q.1).bind λm1=>(r.e c q.2.1).bind λn1=>(r.e c q.2.2.1).bind λm2=>(r.e c q.2.2.2).bind λn2=>(r.e c e).map λm=>MS.uX m1 n1 m2 n2 m else none)=some m:=h;cases hq:zt es with
  |some q =>
   rw[hq] at h0;dsimp only[Option.elim] at h0;split at h0
   ·cases hq
   ·cases h0
  |none =>
  rw[hq] at h0;have h2:(if S9 e&&o7 e then(c.slots es).bind λis=>(r.e c e).map λm=>MS.mr (.many is) m else none)=some m:=h0;split at h2
  ·rename_i hn;rw[cj] at hn;obtain⟨is,hs,h2⟩:=ae.mp h2;obtain⟨me,he,rfl⟩:=af.mp h2;exact Oj C.mono (zI (S.e X c Ξ C _ _ he) (HG C.calm (C.pX hw) (C.slots hs)) (P9 hn.2) (EI hn.1))
  ·cases h2
 |Subscript o i pt =>
  have h2:(if gn i&&o7 e then(r.e c o).bind λmo=>(r.e c i).bind λmi=>(r.e c e).map λm=>MS.eE mo mi m else none)=some m:=h;split at h2
  ·rename_i hn;rw[cj] at hn;obtain⟨mo,ho,h2⟩:=ae.mp h2;obtain⟨mi,hi,h2⟩:=ae.mp h2;obtain⟨me,he,rfl⟩:=af.mp h2;exact UO C.mono C.units (S.e X c Ξ C _ _ he) (S.e X c Ξ C _ _ ho) (S.e X c Ξ C _ _ hi) (P9 hn.2) (Pm hn.1)
  ·cases h2
 |Attribute o f pt =>
  obtain⟨mo,ho,h⟩:=ae.mp h;obtain⟨me,he,rfl⟩:=af.mp h;exact Qz C.mono (OK C) (S.e X c Ξ C _ _ ho) (S.e X c Ξ C _ _ he) (by cases e<;>rfl)
 |_=>cases h
theorem MM(hw:c.wr=true)(vk:X.ex=[])(eJ:X.stack=X.env::X.outer)(hf:X.env.frame=some X.env.locals)(hh:O5 X Ξ.2){body:List Stmt}{hs:List ExceptHandler}{m:MS}{p:Pos}(h:wg r c body hs=some m):PS X (.Try body hs [] [] p) (LS X.K Ξ (wpS P m)):=by
 unfold wg at h;obtain⟨s,h1,g1⟩:=ae.mp h;obtain⟨e,h2,g2⟩:=ae.mp g1;obtain⟨hd,h3,g3⟩:=ae.mp g2;obtain⟨z,h4,g4⟩:=ae.mp g3;clear h g1 g2 g3;have:=M5 h1;subst this;have:=Eu h2;subst this;have:=M5 h3;subst this;obtain⟨p0,p1,p2,p3,p4,p5,rfl⟩:=Wk h4;split at g4
 case isFalse=>cases g4
 rename_i hc;simp only[Bool.and_eq_true,decide_eq_true_eq] at hc;obtain⟨⟨⟨hr,hg⟩,hl⟩,hd⟩:=hc;obtain⟨i,hi,g5⟩:=ae.mp g4;obtain⟨me,Kj,rfl⟩:=af.mp g5;obtain⟨k,C',fI,fd,ps,B,nI,iI,bm,hm,hC,O,FB,cl,F,bi,YO,lY,hx⟩:=C.row hr;refine QA C.mono (C.sgn hw) (C.n9 hg) hm hC (λx C1 h1 h2=>hx x C1 (by rw[C.qt] at h1;exact h1) h2) lY cl hh (C.pH hi) (by rw[C.N];exact C.nd) (C.loc z hl) (A5 hd).1 (A5 hd).2.1 (λpins D=>S.e _ _ _ (C.V3 hw vk eJ hf pins D _ (λU hl _=>⟨by rw[iJ,hl],λi v z=>?_⟩) λ_=>rfl) _ _ Kj);rw[cg] at z;split at z<;>cases z
theorem JF(hw:c.wr=true)(hS:∀e m,r.e c e=some m->o7 e=false->∃elt gens sc p,e=.ListComp elt gens sc p/\∃r',oi P r'/\Z2 r' c elt gens sc=some m)(hT:∀a b k p m,r.e c (.Tuple [a,b] k p)=some m->∃r' ms,oi P r'/\B2 r' c [a,b]=some ms/\m=.prim .tup ms) :
  ∀st m,Iw r c st=some m->PS X st (LS X.K Ξ (wpS P m)):=by
 intro st m h;have hP:=C.mono;cases st with
 |Expr e p =>
  have h2:(if o7 e then(r.e c e).map MS.expr else none)=some m:=h;split at h2
  ·rename_i hn;obtain⟨me,he,rfl⟩:=af.mp h2;exact Qy hP (S.e X c Ξ C _ _ he) (W7 hn)
  ·cases h2
 |Assign xA e p =>
  rcases xA with _|⟨tg,_|⟨_,_⟩⟩
  ·cases h
  ·exact SN S C hw hS hT h
  ·cases h
 |If t a b p =>
  obtain⟨mt,ht,h⟩:=ae.mp h;obtain⟨ma,ha,h⟩:=ae.mp h;obtain⟨mb,hb,rfl⟩:=af.mp h;exact Lz hP (S.t X c Ξ C _ _ ht) (ug S C hw ha) (ug S C hw hb)
 |For tg it body vJ p =>
  have h2:(if c.nE&&(vJ.isEmpty&&gn it) then(c.tg tg).bind λt=>(uv r c tg it).bind λmi=>(u9 r c body).map λmb=>MS.jN t mi mb else none)=some m:=h;split at h2
  ·rename_i hc;rw[cj,cj] at hc;cases vJ<;>first|(cases hc.2.1;done)|skip
   obtain⟨t,h1,h2⟩:=ae.mp h2;obtain⟨mi,h3,h2⟩:=ae.mp h2;obtain⟨mb,h4,rfl⟩:=af.mp h2;exact Og hP (C.own hc.1) C.calm (Cz S C h3) (C.Ed hw h1) (ug S C hw h4) (Ay hc.2.2)
  ·cases h2
 |Return e p =>
  cases e with
  |none=>cases h;exact(PN (X:=X)).imp λN cb H ⟨U,g,ρ,s,R,h⟩=>LQ.now h R .bA
  |some e =>
   obtain⟨me,he,rfl⟩:=af.mp (show(r.e c e).map (λm=>MS.ret (toR c e m))=some m from h);refine zP hP ?_;exact S.e X c Ξ C _ _ he
 |Raise e f p =>
  obtain⟨q,hq,h2⟩:=ae.mp h;clear h;obtain⟨rfl,px,p2,rfl⟩:=WU hq;obtain⟨x,e,es⟩:=q;dsimp only at h2 ⊢;split at h2
  ·rename_i hc;simp only[Bool.and_eq_true] at hc;obtain⟨ma,ha,rfl⟩:=af.mp h2;have ok:=U2 ha;obtain⟨C',hm,hi,B,nI,iI,bm,O,FB⟩:=C.exc x hc.1.1.2;exact UN hP C.calm O FB (C.n9 hc.1.2) (pY S C ha) (C.ik hc.1.1.1).1 (by rw[C.qt];simpa using hc.1.1.2) (C.pC x hc.1.1.2) hi (i6 (ok e (by simp))) (N6 λz hz=>ok z (by simp[hz])) (A5 hc.2).1
  ·split at h2
   ·rename_i hc;simp only[Bool.and_eq_true,decide_eq_true_eq] at hc;obtain⟨ma,ha,rfl⟩:=af.mp h2;have ok:=U2 ha;obtain⟨k,C',fI,fd,ps,B,nI,iI,bm,hm,hi,O,FB,cl,F,bi,hr,_⟩:=C.row hc.1.1.2;obtain rfl:x="BadText":=hc.1.2;obtain⟨_,hx,hex⟩:=C.ik hc.1.1.1;exact Wc hP C.calm O FB (C.n9 hc.2) F hr bi (pY S C ha) hx hex hi (i6 (ok e (by simp))) (N6 λz hz=>ok z (by simp[hz]))
   ·cases h2
 |Try body hs el fi p =>
  have h2:(if c.iL&&!hs.isEmpty&&el.isEmpty&&fi.isEmpty then(wg r c body hs).orElse λ_=>(u9 r { c with ik:=false,iL:=false,wr:=true } body).bind λmb=>(qO c hs).map λms=>MS.V3 mb ms else none)=some m:=h;split at h2
  ·rename_i hc;simp only[Bool.and_eq_true] at hc;obtain⟨⟨⟨ht,hh⟩,he⟩,hf⟩:=hc;cases el<;>first|(cases he;done)|skip
   cases fi<;>first|(cases hf;done)|skip
   cases hs<;>first|(cases hh;done)|skip
   obtain⟨eJ,hf,vy,vk⟩:=C.iL ht;rcases orElse_some h2 with h2|h2
   ·exact MM S C hw vk eJ hf vy h2
   ·obtain⟨mb,h1,h2⟩:=ae.mp h2;obtain⟨ms,h3,rfl⟩:=af.mp h2;refine Oi hP (C.sgn hw) (λpins D=>ug S (C.V3 hw vk eJ hf pins D _ (λU hl _=>⟨by rw[iJ,hl],λi v z=>?_⟩) λ_=>rfl) rfl h1) (Xq C vy h3);rw[cg] at z;split at z<;>cases z
  ·cases h2
 |Pass p=>cases h;exact(PL (X:=X)).imp λN cb H ⟨U,g,ρ,s,R,h⟩=>h ρ H cb (.refl _ _) R s
 |_=>cases h
end
theorem WZ(h:(comp (n+1)).e c e=some m)(hn:o7 e=false):∃elt gens sc p,e=.ListComp elt gens sc p/\Z2 (comp n) c elt gens sc=some m:=by
 cases e<;>first|(cases hn;done)|(cases h;done)|exact⟨_,_,_,_,rfl,h⟩
theorem snd:∀n,(∀k,k<=n->oi P (comp k)):=by
 intro n
 induction n with
 |zero =>
  intro k hk;obtain rfl:=Nat.le_zero.mp hk;exact⟨λ_ _ _ _ _ _ h=>(by cases h),λ_ _ _ _ _ _ h=>(by cases h),λ_ _ _ _ _ _ _ h=>(by cases h)⟩
 |succ n ih =>
  intro k hk;rcases Nat.lt_or_ge k (n+1) with eA|jU
  ·grind
  obtain rfl:k=n+1:=by omega
  have I:=ih n (ai n);refine⟨λX c Ξ C e m h=>JH I C e m h,λX c Ξ C e m h=>JE I C e m h,λX c Ξ C hw st m h=>?_⟩;rcases orElse_some h with h|h
  rotate_left
  ·cases h;exact λpins s U H D I q=>by obtain⟨_,_,_,_,_,z⟩:=q;exact(show False from z).elim
  refine JF I C hw (λe m he hn=>?_) (λa b k p m he=>?_) st m h
  ·cases n with
   |zero=>cases he
   |succ n =>
    obtain⟨elt,gens,sc,p,rfl,hx⟩:=WZ he hn;exact⟨_,_,_,_,rfl,comp n,ih n (),hx⟩
  ·cases n with
   |zero=>cases he
   |succ n =>
    obtain⟨ms,hm,rfl⟩:=af.mp (show(B2 (comp n) c [a,b]).map (ME.prim .tup)=some m from he);exact⟨comp n,ms,ih n (),hm,rfl⟩
structure nJ where
 nm:Str
 qn:Str
 N:List Str
 ps:List Str
 st:Stmt
def d6.at(c:d6)(d:nJ):d6:={ c with N:=d.N,nm:=(d8 d.st).names,nE:=true,ik:=true,iL:=true,wr:=true }
structure jc(K:PySem.W.Frag)(c:d6)(d:nJ)(m:bN)(f:Addr)(fd:FuncData):Prop where
 fn:mn K d.nm d.qn d.st f fd
 bi:Binds K fd d.ps []
 sc:fT d.N d.ps (d8 d.st)
 co:u9 (comp 60) (c.at d) (j4 d.st)=some m.body
 ar:m.ar=d.ps.length
 nn:m.n=d.N.length
structure mj(w:World)(K:PySem.W.Frag)(mg:Str->Option Value)(c:d6)(T:Nat->Option bN):Prop where
 fns:∀x i,c.fns.lookup x=some i->∃d m f fd,T i=some m/\jc K c d m f fd/\mg x=some (.ref f)
 cls:∀x i,c.cls.lookup x=some i->∃C d m f fd,T i=some m/\jc K c d m f fd/\mg x=some (.ref C)/\f9 K x C/\ju K C/\Mk K C f
 nS:∀x y i C,(x,y,i)∈c.nS->f9 K y C->∃d m f fd,T i=some m/\jc K c d m f fd/\Meth K C x f
 mH:∀f y C,(f,y)∈c.mH->f9 K y C->w6 K C f
 con:∀x d,c.con.lookup x=some d->∃v u,mg x=some u/\RelV v u/\∀ρ H,c9 K ρ H d v
 blt:∀x,c.blt.contains x=true->mg x=none
 zg:∀x,c.exc.contains x=true->∃C,mg x=some (.ref C)/\f9 K x C/\∀base:Heap,K.In base->base.Ns mainGlobals mg->∃B newId cZ bm,OwnCls x C bm newId mg base/\ExcBaseFacts B newId cZ bm
 zf:∀x y C C',c.exc.contains x=true->c.exc.contains y=true->f9 K x C->f9 K y C'->PySem.W.exmOne K (.ref C) (.ref C')=some (decide (x=y\/y="MintError"))
 pC:∀x,c.exc.contains x=true->x.cps.size≠1
 qr:∀y C C',c.exc.contains y=true->f9 K "BadText" C->f9 K y C'->PySem.W.exmOne K (.ref C) (.ref C')=some (decide (y="MintError"))
 row:c.row.isSome=true->∃(C fI:Addr) (fd:FuncData) (qn:Str) (st:Stmt),mg "BadText"=some (.ref C)/\f9 K "BadText" C/\(∀base:Heap,K.In base->base.Ns mainGlobals mg->∃B newId cZ iY,iR "BadText" C fI iY newId mg base/\ExcBaseFacts B newId cZ iY)/\I9 K C "row" /\
  mn K "__init__" qn st fI fd/\fT ["self","row"] ["self","row"] (d8 st)/\uc (j4 st)=some (("self":Str),("row":Str),("row":Str))/\((d8 st).names.lookup ("self":Str)=some .local/\(d8 st).names.lookup ("row":Str)=some .local)/\Binds K fd ["self","row"] [] /\
  PySem.W.exmOne K (.ref C) (.ref C)=some true/\∀x C',x∈c.exc->f9 K x C'->PySem.W.exmOne K (.ref C') (.ref C)=some false
 pA:∀x aU,c.gd.lookup x=some aU->∃A vs,mg x=some (.ref A)/\AQ K w.params A vs/\Z1 K aU vs
section
variable{Pg:Program}{w:World}{K:PySem.W.Frag}{mg:Str->Option Value}{base:Heap}{T:Nat->Option bN}
theorem Mr{q:Str}(h:PySem.W.codeIn K cd q=true):PySem.W.kdsCode K cd=true:=by
 unfold PySem.W.codeIn at h;unfold PySem.W.kdsCode;split at h
 ·dsimp only;split at h
  ·rename_i e;rw[e]
  ·cases h
 ·cases h
theorem Pt:Passes (gR Pg w) (L6 (gR Pg w) Pg w K mg base N qual scope f cd A outer s H E) E:=λpins U H1 s1 e s' I h=>by
 obtain⟨C,od,H',J,fl,dc,hE⟩:=I.flew h;exact TX J fl (λb o q=>I.base.there b o q (by intro z;cases z)) rfl rfl rfl dc hE
theorem Uy:wG (L6 (gR Pg w) Pg w K mg base N qual scope f cd A outer s H E) E:=λpins U H1 s1 h' ea C vs I hm hE =>
 Wx I hm rfl rfl rfl hE
theorem Ux:wF (L6 (gR Pg w) Pg w K mg base N qual scope f cd A outer s H E) E:=λpins U H1 s1 ea C t od I he hn h0 hE =>
 Ww I he hn h0 rfl rfl rfl hE
theorem ON:O5 (L6 (gR Pg w) Pg w K mg base N qual scope f cd A outer s H E) E:=λpins U H1 H2 s1 s2 B ea C od a0 I l hh dc hE =>
 leave_held I l hh rfl rfl rfl dc hE
theorem Aa{m:bN}(hT:T i=some m){ds:List D}{g:G}{Q:KD}{E:KX}(h:d4 T k i ds g Q E):ds.length=m.ar:=by
 cases k with
 |zero=>exact h.elim
 |succ k =>
  obtain⟨m',e,h,_⟩:=h
  simp_all
theorem LZ(kR:K.In base)(nZ:base.Ns mainGlobals mg)(A:mj w K mg c T):∀(k i:Nat) d m f fd,T i=some m->jc K c d m f fd->fQ Pg w K mg base (gR Pg w) (2*k+2) f fd d.ps (nP c.exc K d.ps.length (d4 T k i)):=by
 intro k
 induction k with
 |zero =>
  intro i d m f fd hm O;refine⟨λvs H Q E h=>h.1,λA outer s H args us vs Q E _ _ _ _ h=>?_⟩;obtain⟨_,_,_,_,_,_,q⟩:=h;exact q.elim
 |succ k ih =>
  intro i d m f fd hm O;obtain⟨oc,od,kV,doc,pm,an,eB,ct,jb,rfl,lk,jl⟩:=O.fn.ex;refine Ig (k:=2*k+3) lk jl O.sc (λvs H Q E h=>h.1) (λA0 outer s H vs Q E hr h=>?_);obtain⟨hl,xs,g,ρ,rs,R,q⟩:=h;have C:gP (L6 (gR Pg w) Pg w K mg base d.N d.qn (d8 d.st) f eB A0 outer s H E) (c.at d) (d4 T k) (c.exc,E):=by
   refine⟨rfl,O.sc.nd,λx h=>h,λx h=>h,λx h=>.inr h,λx h=>h,λx h=>?_,λ_ _=>rfl,rfl,?_,(λ_=>PassesOwn.leaving),d9 T k,A.con,A.blt,λx j hj=>?_,λx j hj=>?_,λx y j C' hj hC=>?_,A.mH,rfl,Pt,λ_=>⟨Uy,Ux,rfl⟩,λ_=>⟨rfl,rfl,ON,rfl⟩,λx hx=>?_,A.zf,A.pA,λ_=>Mr jl,λ_=>rfl,A.pC,A.qr,λhx=>?_⟩
   ·rcases h with h|h
    ·exact Aq h
    ·exact absurd rfl (O.sc.lQ _ (aE h))
   ·have:=hr.un;show(A0.deeper _).units+100<cLine;omega
   ·obtain⟨d',m',f',mI,hT,O',hmg⟩:=A.fns x j hj;exact⟨2*k+2,f',mI,d'.ps,⟨ih j d' m' f' mI hT O',O'.bi,λDG g' Q' E' h'=>(Aa hT h').trans O'.ar⟩,hr.mono (),hmg,O'.fn.kp⟩
   ·obtain⟨C',d',m',f',mI,hT,O',hmg,hC,ku,M⟩:=A.cls x j hj;exact⟨2*k+2,C',f',mI,d'.ps,⟨ih j d' m' f' mI hT O',O'.bi,λDG g' Q' E' h'=>(Aa hT h').trans O'.ar⟩,hr,hmg,hC,ku,M⟩
   ·obtain⟨d',m',f',mI,hT,O',M⟩:=A.nS x y j C' hj hC;exact⟨2*k+2,f',mI,d'.ps,M,⟨ih j d' m' f' mI hT O',O'.bi,λDG g' Q' E' h'=>(Aa hT h').trans O'.ar⟩,hr.mono ()⟩
   ·obtain⟨C,h1,h2,h3⟩:=A.zg x hx;exact⟨C,h1,h2,h3 base kR nZ⟩
   ·obtain⟨C,fI,mI,qn,st,h1,h2,h3,h4,h5,h6,h7,h8,h9,Dx,yY⟩:=A.row hx;obtain⟨B,nI,iI,bm,O',FB⟩:=h3 base kR nZ;exact⟨1,C,fI,mI,_,B,nI,iI,bm,h1,h2,O',FB,h4,Mm (k:=0) h5 h6 h7 h8 ∅ h4,h9,hr.mono (),Dx,yY⟩
  refine⟨_,ug (snd (P:=d4 T k) 60 60 (ai _)) C rfl O.co,?_⟩;obtain⟨m',e,q1,q⟩:=q;rw[hm] at e;cases e;refine⟨d7 m xs,g,ρ,?_,R,wpS_mono (d9 T k) m.body ⟨λ_ g'=>LQ K ρ H Q .bA g',LQ K ρ H Q,λ_ _=>False,λ_ _=>False⟩ _ _ _ _ _ ⟨λU g' h bP H' dC e R' s'=>h bP H' _ e R' .bA,λd g' h=>h,λ_ _ h=>h.elim,λ_ _ h=>h.elim⟩ (λ_ _ z=>z) q⟩;have:=l0.start (n:=d.N.length) rs;unfold d7 L2.start;rw[O.nn];exact this
theorem Mx{L k0:Nat}{a:Addr}{ns:List Int}(hO:wN H)(hS:gs K H a (ns.map V.int))(h:d4 T k0 L [.ref 0] [.nC (ns.map .int)] (λd _=>d=.bl true) jX) :
  nP exc K 1 (d4 T k0 L) [.ref a] H (λv _=>v=.bl true) λ_ _ _=>False:=by
 refine⟨rfl,[.ref 0],[.nC (ns.map .int)],[a],.cons (.ref rfl) .nil,⟨rfl,λi o b h1 h2=>?_,λi j l m b h1 h2 m1=>?_⟩,d9 T k0 _ _ _ _ _ _ _ (λd g' e bP H' v _ _ r=>?_) (λ_ _ z=>z.elim) h⟩
 ·cases i with
  |zero =>
   cases h1;cases h2;refine⟨_,?_,a8.ofInts ns⟩;rcases hS with(z|⟨o,z⟩)|z
   ·rcases hO a with q|⟨o,xs,q⟩
    ·simp_all
    simp_all
   ·exact .inl ⟨o,z⟩
   ·exact .inr z
  |succ i=>simp at h1
 ·cases i with
  |zero=>cases h1;cases m1
  |succ i=>simp at h1
 ·subst e;cases r
  rfl
end
end M
namespace M
open PySem L2
variable{U:S}{g:G}{Q:Bool->G->Prop}{E:KX}{a i n:Nat}{b:Bool}{o cond elt:ME}{x:Str}{y d:D}{l:List D}{A B:Prop}{d5:List Nat}{R:IK->G->Prop}
section
variable{P:fe}{Q:KD}{N:Ends}{a b c:ME}{x y:MS}{p:Pr}
theorem wD(h:N.nx U g):wpS P .pass N U g E:=h
theorem C7(h:wpS P x ⟨λjA g1=>wpS P y N jA g1 E,N.rt,N.bk,N.ct⟩ U g E):wpS P (.seq x y) N U g E:=h
theorem GV(h:wpS P x N U g E):wpS P (.seq x .pass) N U g E:=h
theorem GR(h:aV P a U g (λ_ g1=>N.nx U g1) E):wpS P (.expr a) N U g E:=h
theorem IG(h:aV P a U g (λx g1=>N.nx (U.set i (some x)) g1) E):wpS P (.set i a) N U g E:=h
theorem II{t:MT}(h:aV P a U g (λx g1=>km t x U λjA=>N.nx jA g1) E):wpS P (.mr t a) N U g E:=h
theorem HQ{i:ME}(h:aV P a U g (λx g1=>aV P o U g1 (λy g2=>aV P i U g2 (λz g3=>V9 y z x g3 λg4=>N.nx U g4) E) E) E):wpS P (.eE o i a) N U g E:=h
theorem Bo(h:dD P c U g (λt g1=>if t=true then wpS P x N U g1 E else wpS P y N U g1 E) E):wpS P (.ifs c x y) N U g E:=h
theorem S3(h:aV P a U g N.rt E):wpS P (.ret a) N U g E:=h
theorem HP{x:Str}(h:fJ P a U g (λvs g1=>vs.length<=1000/\E ⟨x⟩ g1) E):wpS P (.raise x a) N U g E:=h
theorem w_var(e:U[i]?=some (some d))(h:Q d g):aV P (.var i) U g Q E:=by exact⟨d,e,h⟩
theorem w_lit(h:Q d g):aV P (.lit d) U g Q E:=h
theorem GU(h:fJ P a U g (λxs g1=>cN p xs g1 Q) E):aV P (.prim p a) U g Q E:=h
theorem Eg(h:cN p [] g Q):aV P (.prim p .nil) U g Q E:=by exact h
theorem uo(h:aV P a U g (λx g1=>cN p [x] g1 Q) E):aV P (.prim p (.cons a .nil)) U g Q E:=by exact h
theorem uq(h:aV P a U g (λx g1=>aV P b U g1 (λy g2=>cN p [x,y] g2 Q) E) E):aV P (.prim p (.cons a (.cons b .nil))) U g Q E:=by exact h
theorem HN{o1 o2:CmpOp}(h:aV P a U g (λx g1=>aV P b U g1 (λy g2=>cN (.cmp o1) [x,y] g2 λz g3=>∃t,z=.bl t/\if t=true then aV P c U g3 (λw g4=>cN (.cmp o2) [y,w] g4 Q) E else Q (.bl false) g3) E) E):aV P (.chain o1 o2 a b c) U g Q E:=h
theorem w_and(h:aV P a U g (λx g1=>∃t,x=.bl t/\if t=true then aV P b U g1 Q E else Q (.bl false) g1) E):aV P (.eG a b) U g Q E:=h
theorem w_not(h:aV P a U g (λx g1=>∃t,x=.bl t/\Q (.bl (!t)) g1) E):aV P (.dW a) U g Q E:=h
theorem w_ite(h:dD P c U g (λt g1=>if t=true then aV P a U g1 Q E else aV P b U g1 Q E) E):aV P (.ite c a b) U g Q E:=h
theorem zV{f:Nat}(h:fJ P a U g (λxs g1=>P f xs g1 Q E) E):aV P (.call f a) U g Q E:=h
theorem GS(h:aV P o U g (λx g1=>kQ p x g1/\fJ P a U g1 (λxs g2=>cN p (x::xs) g2 Q) E) E):aV P (.et p o a) U g Q E:=h
theorem Bp{Q:List D->G->Prop}(h:Q [] g):fJ P .nil U g Q E:=h
theorem wC{Q:List D->G->Prop}(h:aV P a U g (λx g1=>fJ P b U g1 (λxs g2=>Q (x::xs) g2) E) E):fJ P (.cons a b) U g Q E:=h
theorem GW{Q:Bool->G->Prop}(h:dD P a U g (λt g1=>if t=true then dD P b U g1 Q E else Q false g1) E):dD P (.eG a b) U g Q E:=h
theorem IH{Q:Bool->G->Prop}(h:dD P a U g (λt g1=>if t=true then Q true g1 else dD P b U g1 Q E) E):dD P (.iW a b) U g Q E:=h
theorem GX{Q:Bool->G->Prop}(h:dD P a U g (λt g1=>Q (!t) g1) E):dD P (.dW a) U g Q E:=h
theorem Bq{Q:Bool->G->Prop}(h:Q true g):dD P .no U g Q E:=h
theorem Br{Q:Bool->G->Prop}(h:aV P a U g (λx g1=>V4 g1 x λb=>Q b g1) E):dD P (.gb a) U g Q E:=h
end
section
variable{Q:KD}{i j:Int}{kb:Bool->Prop}{t s:Bool}{m:List D}
theorem Ei(h:Q (.int (i+j)) g):cN (.bin .Add) [.int i,.int j] g Q:=⟨_,_,.inl ⟨i,j,_,rfl,rfl,rfl,rfl⟩,h⟩
theorem qL(c:pF i j)(h:Q (.int (i*j)) g):cN (.bin .Mult) [.int i,.int j] g Q:=⟨_,_,.inl ⟨i,j,_,rfl,⟨c,rfl⟩,rfl,rfl⟩,h⟩
theorem M7(c:0<j)(h:Q (.int (i % j)) g):cN (.bin .Mod) [.int i,.int j] g Q:=⟨_,_,.inl ⟨i,j,_,rfl,⟨c,rfl⟩,rfl,rfl⟩,h⟩
theorem Ej(c:Bv i j)(h:Q (.int (i / j)) g):cN (.bin .FloorDiv) [.int i,.int j] g Q:=⟨_,_,.inl ⟨i,j,_,rfl,⟨c,rfl⟩,rfl,rfl⟩,h⟩
theorem qN(c:O6 i j)(h:Q (.int (i ^ j.toNat)) g):cN (.bin .Pow) [.int i,.int j] g Q:=⟨_,_,.inl ⟨i,j,_,rfl,⟨c,rfl⟩,rfl,rfl⟩,h⟩
theorem vO(hl:l.length+m.length<=100000)(h:Q (.tup (l++m)) g):cN (.bin .Add) [.tup l,.tup m] g Q:=⟨_,_,.inr ⟨rfl,.inl ⟨l,m,rfl,hl,rfl,rfl⟩⟩,h⟩
theorem K4{y:Str}(hl:x.length+y.length<=100000)(h:Q (.str (x++y)) g):cN (.bin .Add) [.str x,.str y] g Q:=⟨_,_,.inr ⟨rfl,.inr (.inr ⟨x,y,rfl,hl,rfl,rfl⟩)⟩,h⟩
theorem Sf{i j:Nat}(hi:g[i]?=some (.lst l))(hj:g[j]?=some (.lst m))(hl:l.length+m.length<=100000)(h:Q (.ref g.length) (g++[.lst (l++m)])):cN (.bin .Add) [.ref i,.ref j] g Q:=⟨_,_,.inr ⟨rfl,.inr (.inl ⟨i,j,l,m,rfl,hi,hj,hl,rfl,rfl⟩)⟩,h⟩
theorem ID(h:Q (.int (-i)) g):cN (.un .USub) [.int i] g Q:=⟨_,_,⟨rfl,i,rfl,rfl,rfl⟩,h⟩
theorem U3{op:CmpOp}{x:D}(hb:DP g x y b op)(h:Q (.bl b) g):cN (.cmp op) [x,y] g Q:=⟨_,_,⟨x,y,b,rfl,hb,rfl,rfl⟩,h⟩
theorem DO(h:Q (.bl (decide (i<j))) g):cN (.cmp .Lt) [.int i,.int j] g Q:=U3 ⟨i,j,rfl,rfl,rfl⟩ h
theorem DN(h:Q (.bl (decide (i<=j))) g):cN (.cmp .LtE) [.int i,.int j] g Q:=U3 ⟨i,j,rfl,rfl,rfl⟩ h
theorem DL(h:Q (.bl (decide (j<i))) g):cN (.cmp .Gt) [.int i,.int j] g Q:=U3 ⟨i,j,rfl,rfl,rfl⟩ h
theorem DJ(h:Q (.bl (decide (j<=i))) g):cN (.cmp .GtE) [.int i,.int j] g Q:=U3 ⟨i,j,rfl,rfl,rfl⟩ h
theorem BE{x:D}(h:qv g x y λb=>Q (.bl b) g):cN (.cmp .Eq) [x,y] g Q:=let ⟨_,hb,h⟩:=h;U3 hb h
theorem wQ{x:D}(h:qv g x y λb=>Q (.bl (!b)) g):cN (.cmp .NotEq) [x,y] g Q:=let ⟨b,hb,h⟩:=h;U3 (show tN g x y (!(!b)) from by simp_all) h
theorem DM{x:D}(h:xV g x y λb=>Q (.bl b) g):cN (.cmp .In) [x,y] g Q:=let ⟨_,hb,h⟩:=h;U3 (.inl hb) h
theorem AV{i j:Str}(h:Q (.bl (!(Builtin.Str.occurrences j i 0 j.length 1).isEmpty)) g):cN (.cmp .In) [.str i,.str j] g Q:=U3 (.inr (.inr ⟨i,j,rfl,rfl,rfl⟩)) h
theorem Io(h:kb (decide (i=j))):qv g (.int i) (.int j) kb:=⟨_,.inl ⟨i,j,rfl,rfl,rfl⟩,h⟩
theorem DY(h:kb (t==s)):qv g (.bl t) (.bl s) kb:=⟨_,.inr (.inl ⟨t,s,rfl,rfl,rfl⟩),h⟩
theorem Ip{y:Str}(h:kb (decide (x=y))):qv g (.str x) (.str y) kb:=⟨_,.inr (.inr (.inl ⟨x,y,rfl,rfl,rfl⟩)),h⟩
theorem Er(h:Q (.bl (decide (i=j))) g):cN (.cmp .Eq) [.int i,.int j] g Q:=BE (Io h)
theorem AU(h:Q (.bl (!decide (i=j))) g):cN (.cmp .NotEq) [.int i,.int j] g Q:=wQ (Io h)
theorem Ep(h:Q (.bl (t==s)) g):cN (.cmp .Eq) [.bl t,.bl s] g Q:=BE (DY h)
theorem HY(h:Q (.bl (!(t==s))) g):cN (.cmp .NotEq) [.bl t,.bl s] g Q:=wQ (DY h)
theorem Es{p q:Str}(h:Q (.bl (decide (p=q))) g):cN (.cmp .Eq) [.str p,.str q] g Q:=BE (Ip h)
theorem HZ{p q:Str}(h:Q (.bl (!decide (p=q))) g):cN (.cmp .NotEq) [.str p,.str q] g Q:=wQ (Ip h)
theorem Y4(h:Q (.bl (K3 d)) g):cN (.cmp .Is) [d,.bA] g Q:=U3 ⟨rfl,rfl⟩ h
theorem Et(h:Q (.bl true) g):cN (.cmp .Is) [.bA,.bA] g Q:=Y4 h
theorem HU(h:Q (.bl false) g):cN (.cmp .Is) [.int i,.bA] g Q:=Y4 h
theorem HS(h:Q (.bl false) g):cN (.cmp .Is) [.bl t,.bA] g Q:=Y4 h
theorem HW(h:Q (.bl false) g):cN (.cmp .Is) [.str x,.bA] g Q:=Y4 h
theorem HX(h:Q (.bl false) g):cN (.cmp .Is) [.tup l,.bA] g Q:=Y4 h
theorem HV(h:Q (.bl false) g):cN (.cmp .Is) [.ref n,.bA] g Q:=Y4 h
theorem uk(h:kb t):V4 g (.bl t) kb:=⟨t,.inr (.inl rfl),h⟩
theorem LL(h:kb (!l.isEmpty)):V4 g (.tup l) kb:=⟨_,.inr (.inr (.inr (.inl ⟨l,rfl,rfl⟩))),h⟩
theorem N1{p:Bool->Prop}(h:p t):∃s,D.bl t=D.bl s/\p s:=⟨t,rfl,h⟩
theorem if2{c:Prop}[Decidable c](h1:c->A)(h2:¬c->B):if decide c=true then A else B:=by
 simp_all
theorem kT(h:A):if true=true then A else B:=by rw[aF rfl];exact h
theorem O2(h:B):if false=true then A else B:=by rw[aA ∅];exact h
theorem qD(h:A):if(!false)=true then A else B:=by exact h
theorem ub(h:B):if(!true)=true then A else B:=by rw[aA ∅];exact h
theorem qz{c:Prop}[Decidable c](h1:c->B)(h2:¬c->A):if(!decide c)=true then A else B:=by
 by_cases h:c
 ·rw[bh h];exact ub (h1 h)
 ·rw[bt h];exact qD (h2 h)
theorem fN(hb:b=false)(h:B):if b=true then A else B:=by rw[hb];exact O2 h
theorem ly(hb:b=true)(h:A):if b=true then A else B:=by rw[hb];exact kT h
theorem L5(hl:c8 g a=some l)(h2:iQ l i=some d)(h:Q d g):cN .ix [.ref a,.int i] g Q:=⟨_,_,⟨rfl,.inl ⟨_,l,i,rfl,hl,h2⟩⟩,h⟩
theorem pJ(h2:iQ l i=some d)(h:Q d g):cN .ix [.tup l,.int i] g Q:=⟨_,_,⟨rfl,.inl ⟨_,l,i,rfl,rfl,h2⟩⟩,h⟩
theorem BI{c:Nat}(hl:x.length<=100000)(hc:iQ x.cps.toList i=some c)(h:Q (.str ⟨#[c]⟩) g):cN .ix [.str x,.int i] g Q:=⟨_,_,⟨rfl,.inr (.inr ⟨x,i,c,rfl,hl,hc,rfl⟩)⟩,h⟩
theorem L9{v:D}{kg:G->Prop}(hl:g[a]?=some (.lst l))(hn:kS l.length i=some n)(h:kg (g.set a (.lst (l.set n v)))):V9 (.ref a) (.int i) v g kg:=⟨_,.inl ⟨a,i,l,n,rfl,rfl,hl,hn,rfl⟩,h⟩
theorem b9(h:g[a]?=some (.lst l)):c8 g a=some l:=by simp only[c8,h,zB]
theorem Vt(h:g[a]?=some (.nC l)):c8 g a=some l:=by simp only[c8,h,zB]
theorem qQ(hl:c8 g a=some l)(h:Q (.int l.length) g):cN .len [.ref a] g Q:=⟨_,_,⟨rfl,.inl ⟨_,l,rfl,hl,rfl⟩⟩,h⟩
theorem GL(hl:c8 g a=some l)(h:Q (.ref g.length) (g++[.lst (cut l none (some i))])):cN (.jC false true) [.ref a,.int i] g Q:=⟨_,_,⟨_,i,rfl,.inr (.inl ⟨a,l,rfl,hl,rfl,rfl⟩)⟩,h⟩
theorem Z7(hl:l.length<=1000)(h:Q (.tup l) g):cN .tup l g Q:=⟨_,_,⟨hl,rfl,rfl⟩,h⟩
theorem Z8(hl:l.length<=1000)(h:Q (.ref g.length) (g++[.lst l])):cN .lst l g Q:=⟨_,_,⟨hl,rfl,rfl⟩,h⟩
theorem SI(hl:c8 g a=some l)(h:Q (.ref g.length) (g++[.lst l])):cN .list [.ref a] g Q:=⟨_,_,.inl ⟨_,l,rfl,hl,rfl,rfl⟩,h⟩
theorem Bm(hl:c8 g a=some l)(h:Q (.tup l) g):cN .tuple [.ref a] g Q:=⟨_,_,⟨_,l,rfl,hl,rfl,rfl⟩,h⟩
theorem gf{c:String}(hc:c∈["int","bool","str","tuple","list"])(hb:pI g d c=some b)(h:Q (.bl b) g):cN .isin [d,.ty c] g Q:=⟨_,_,⟨d,c,b,rfl,hc,hb,rfl,rfl⟩,h⟩
theorem Il{i:Nat}(hg:g[i]?=some (.lst l))(hl:l.length<100000)(h:Q .bA (g.set i (.lst (l++[y])))):cN .append [.ref i,y] g Q:=⟨_,_,⟨i,y,l,rfl,hg,hl,rfl,rfl⟩,h⟩
theorem SK{i j:Nat}{n:Int}(hg:g[i]?=some (.lst l))(hn:n=j)(hj:l[j]?=some y)(hl:l.length<100000)(h:Q y (g.set i (.lst (l.eraseIdx j)))):cN .pop [.ref i,.int n] g Q:=by
 have eA:=(ax.mp hj).1;refine⟨_,_,⟨i,n,l,j,rfl,hg,by omega,by omega,?_,hj,rfl⟩,h⟩;rw[hn];exact PySem.StrLaws.seqIndex_nonneg () () |>.trans (by simp)
theorem wu:kQ .join (.str x) g:=⟨x,rfl⟩
theorem Hs:kQ .find (.str x) g:=⟨x,rfl⟩
theorem MJ:kQ .jr (.str x) g:=⟨x,rfl⟩
theorem MH(hl:c8 g a=some l):kQ .fS (.ref a) g:=⟨a,l,rfl,hl⟩
theorem m_find{a b:Str}(h:Q (.int (Txt.find a b)) g):cN .find [.str a,.str b] g Q:=⟨_,_,⟨a,b,rfl,rfl,rfl⟩,h⟩
theorem SM{a b:Str}(hb:(b.length==0)=false)(ha:a.length<=100000)(h:Q (.tup ((L2.jr a b).map .str)) g):cN .jr [.str a,.str b] g Q:=⟨_,_,⟨a,b,rfl,hb,ha,rfl,rfl⟩,h⟩
theorem SJ(hl:g[a]?=some (.lst l))(h0:0<=i)(h1:i<=100000)(hz:l.length<100000)(h:Q .bA (g.set a (.lst (l.take i.toNat++y::l.drop i.toNat)))):cN .fS [.ref a,.int i,y] g Q:=⟨_,_,⟨a,i,l,y,rfl,hl,h0,h1,hz,rfl,rfl⟩,h⟩
theorem zM{a:Str}(hz:a.length<=100000)(h:Q (.str (L2.E3 a none (some i))) g):cN (.jC false true) [.str a,.int i] g Q:=⟨_,_,⟨_,i,rfl,.inr (.inr ⟨a,rfl,hz,rfl,rfl⟩)⟩,h⟩
theorem zN{a:Str}(hz:a.length<=100000)(h:Q (.str (L2.E3 a (some i) none)) g):cN (.jC true false) [.str a,.int i] g Q:=⟨_,_,⟨_,i,rfl,.inr (.inr ⟨a,rfl,hz,rfl,rfl⟩)⟩,h⟩
theorem zH:kQ .split (.str x) g:=⟨x,rfl⟩
theorem m_split{a b:Str}{l:List Str}(hb:(b.length==0)=false)(ha:a.length<=100000)(e:Txt.split a b=l)(hz:l.length<=100000)(h:Q (.ref g.length) (g++[.lst (l.map .str)])):cN .split [.str a,.str b] g Q:=⟨_,_,⟨a,b,rfl,hb,ha,by rw[e];exact hz,rfl,by rw[e]⟩,h⟩
theorem wt{sep:Str}{i:Nat}{ys:List Str}(hl:c8 g i=some (ys.map .str))(hz:A6 sep ys<=100000)(h:Q (.str (Builtin.Str.glued sep ys)) g):cN .join [.str sep,.ref i] g Q:=⟨_,_,⟨sep,i,ys,rfl,hl,hz,rfl,rfl⟩,h⟩
theorem zG{i:Nat}(hg:g[i]?=some (.lst l)):kQ .append (.ref i) g:=⟨i,l,rfl,b9 hg⟩
theorem Gy{i:Nat}(hg:g[i]?=some (.lst l)):kQ .pop (.ref i) g:=⟨i,l,rfl,b9 hg⟩
theorem Ni{ns:List Int}(hl:c8 g a=some (ns.map .int))(hz:ns.length<600)(h:Q (.ref g.length) (g++[.lst ((u4 ns).map .int)])):cN .sset [.ref a] g Q:=⟨_,_,⟨a,ns,rfl,hl,hz,rfl,rfl⟩,h⟩
theorem vW{n:Int}(hl:x.length<=640)(hn:PySem.intText? x=some n)(h:Q (.int n) g):cN .int [.str x] g Q:=⟨_,_,⟨rfl,.inr (.inr ⟨x,n,rfl,hl,hn,rfl⟩)⟩,h⟩
theorem uB(hi:i.natAbs.log2<1920)(h:Q (.str (toString i)) g):cN .str [.int i] g Q:=⟨_,_,.inl ⟨i,rfl,hi,rfl,rfl⟩,h⟩
theorem Nh(hx:P5 l=some x)(h:Q (.str x) g):cN .kY l g Q:=⟨_,_,⟨x,hx,rfl,rfl⟩,h⟩
theorem AR{i:Nat}{v:Bool}(hl:c8 g i=some l)(hv:P8 l=some v)(h:Q (.bl v) g):cN .all [.ref i] g Q:=⟨_,_,⟨i,l,v,rfl,hl,.inl hv,rfl,rfl⟩,h⟩
theorem B3{i:Nat}{x:D}{k:S->Prop}(h:k (U.set i (some x))):km (.one i) x U k:=h
theorem J6{is:List Nat}{cx:S}{k:S->Prop}(e:K6 is l U=some cx)(h:k cx):km (.many is) (.tup l) U k:=⟨l,cx,rfl,e,h⟩
end
theorem Y9:∀(bs:List Bool),P8 (bs.map D.bl)=some (bs.all id):=by
 intro bs
 induction bs with
 |nil=>rfl
 |cons b r ih=>simp[P8,ih]
theorem call_of{T:Nat->Option bN}{k f:Nat}{m:bN}{ds:List D}{Q:KD}(hT:T f=some m)(hl:ds.length=m.ar)(h:wpS (d4 T k) m.body ⟨λ_ g'=>Q .bA g',Q,λ_ _=>False,λ_ _=>False⟩ (d7 m ds) g E):d4 T (k+1) f ds g Q E:=⟨m,hT,hl,h⟩
def IK.Is(k:IK)(l:List D)(g:G):Prop:=∀i,k.at i g=some l[i]?
theorem F7:(IK.fix l).Is l g:=λ_=>rfl
theorem Gs(h:c8 g a=some l):(IK.lst a).Is l g:=λi=>by simp only[IK.at,h]
theorem Al{lo:Int}{x:D}(h:(A7 lo n)[i]?=some x):i<n/\x=.int (lo+i):=by
 unfold A7 at h;have hi:i<n:=by
  have:=(ax.mp h).1;simpa using this
 rw[aP,BZ hi] at h;cases h;exact⟨hi,rfl⟩
theorem Z6(lo:Int)(n:Nat):(A7 lo n).length=n:=by simp[A7]
section
variable{P:fe}{N:Ends}{it a c:ME}{s:MS}{t:MT}{Q:KD}
theorem EY{k:IK}{fin:S->G->Prop}{turn:D->(S->G->Prop)->S->G->Prop}(I:Nat->S->G->Prop)(hk:∀i U g,I i U g->k.Is l g)(h0:I 0 U g)(hs:∀i x U g,l[i]?=some x->I i U g->turn x (I (i+1)) U g)(hd:∀U g,I l.length U g->fin U g):turns k U g fin turn:=by
 refine⟨λi m U g=>m=l.length-i/\i<=l.length/\I i U g,⟨l.length,by simp,cJ _,h0⟩,?_⟩;rintro i m U g ⟨rfl,hi,p⟩;rw[hk i U g p i];by_cases eA:i<l.length
 ·rw[az eA];exact .inr ⟨_,rfl,I (i+1),λcx g' p'=>⟨l.length-(i+1),by omega,rfl,eA,p'⟩,hs i l[i] U g (az eA) p⟩
 ·have e:i=l.length:=by omega
  subst e;rw[iK (ai _)];exact .inl ⟨rfl,hd U g p⟩
inductive uJ(P:fe)(t:MT)(s:MS)(N:Ends)(E:KX)(U:S)(k:IK)(g1:G):Prop
 |mk (l:List D) (I:Nat->S->G->Prop) (hk:∀i U g,I i U g->k.Is l g) (h0:I 0 U g1)
   (hs:∀i x U g,l[i]?=some x->I i U g->km t x U λdz=>wpS P s ⟨I (i+1),N.rt,N.nx,I (i+1)⟩ dz g E) (hd:∀U g,I l.length U g->N.nx U g):uJ P t s N E U k g1
theorem IF(hP:i4 P)(h:jh P it U g (uJ P t s N E U) E):wpS P (.jN t it s) N U g E :=
 E0 hP it _ _ _ _ _ _ (λk g1 hq=>by obtain⟨l,I,hk,h0,hs,hd⟩:=hq;exact EY I hk h0 hs hd) (λ_ _ z=>z) h
theorem Wf(hn:(n:Int)<2 ^ 62)(I:Nat->S->G->Prop)(h0:I 0 U g)(hs:∀(i:Nat) U g,i<n->I i U g->km t (.int i) U λdz=>wpS P s ⟨I (i+1),N.rt,N.nx,I (i+1)⟩ dz g E)(hd:∀U g,I n U g->N.nx U g):wpS P (.jN t (.gL (.lit (.int n))) s) N U g E:=by
 refine⟨n,rfl,by omega,hn,EY (l:=A7 0 n) I (λ_ _ _ _=>F7) h0 (λi x U g hx p=>?_) (λU g p=>hd U g (by rw[Z6] at p;exact p))⟩;obtain⟨hi,rfl⟩:=Al hx;have:=hs i U g hi p;rw[show(0:Int)+(i:Int)=i by omega];exact this
inductive CompI(P:fe)(t:MT)(cond elt:ME)(E:KX)(Q:KD)(U:S)(k:IK)(g1:G):Prop
 |mk (l:List D) (I:Nat->List D->S->G->Prop) (hl:l.length<=1000) (hk:∀i ys U g,I i ys U g->k.Is l g/\ys.length<=i) (h0:I 0 [] U g1)
   (hs:∀i x ys U g,l[i]?=some x->I i ys U g->km t x U λdz=>dD P cond dz g (λc g3=>if c=true then aV P elt dz g3 (λy g4=>I (i+1) (ys++[y]) dz g4) E else I (i+1) ys dz g3) jX)
   (hd:∀ys U g,I l.length ys U g->Q (.ref g.length) (g++[.lst ys])):CompI P t cond elt E Q U k g1
theorem K5(hP:i4 P)(h:jh P it U g (CompI P t cond elt jX Q (P7 U d5 n)) E):aV P (.comp d5 n t it cond elt) U g Q E:=by
 refine E0 hP it _ _ _ _ _ _ (λk g1 h=>?_) (λ_ _ z=>z) h;obtain⟨l,I,hl,hk,h0,hs,hd⟩:=h;refine⟨λi m ys U g=>m=l.length-i/\i<=l.length/\I i ys U g,⟨l.length,by simp,cJ _,h0⟩,?_⟩;rintro i m ys U g ⟨rfl,hi,p⟩;obtain⟨vx,hy⟩:=hk i ys U g p;rw[vx i];by_cases eA:i<l.length
 ·rw[az eA];refine .inr ⟨_,rfl,by omega,J7 (λdz q=>q9 hP cond _ _ _ _ _ _ (λc g3 q=>?_) (λ_ _ z=>z) q) (hs i l[i] ys U g (az eA) p)⟩;cases c
  ·exact⟨l.length-(i+1),by omega,rfl,eA,by simpa using(show I (i+1) ys dz g3 from q)⟩
  ·exact a9 hP elt _ _ _ _ _ _ (λy g4 q=>⟨l.length-(i+1),by omega,rfl,eA,by simpa using q⟩) (λ_ _ z=>z) q
 ·have e:i=l.length:=by omega
  subst e;rw[iK (ai _)];exact .inl ⟨rfl,hd ys U g p⟩
theorem WT(hP:i4 P)(h:aV P a U g (λx g1=>∃j:Nat,x=.int j/\j<=1000/\∃I:Nat->List D->S->G->Prop,I 0 [] (P7 U d5 n) g1/\(∀i ys U g,I i ys U g->ys.length<=i) /\
      (∀(i:Nat) ys U g,i<j->I i ys U g->km t (.int i) U λdz=>dD P cond dz g (λc g3=>if c=true then aV P elt dz g3 (λy g4=>I (i+1) (ys++[y]) dz g4) jX else I (i+1) ys dz g3) jX) /\
      ∀ ys U g,I j ys U g->Q (.ref g.length) (g ++ [.lst ys])) E):aV P (.comp d5 n t (.gL a) cond elt) U g Q E:=by
  refine K5 hP ?_;refine a9 hP a _ _ _ _ _ _ (λx g1 h=>?_) (λ_ _ z=>z) h;obtain⟨j,rfl,hj,I,h0,hz,hs,hd⟩:=h;refine⟨j,rfl,by omega,by omega,_,I,by rw[Z6];simpa using hj,λi ys U g p=>⟨F7,hz i ys U g p⟩,h0,λi x ys U g hx p=>?_,λys U g p=>hd ys U g (by rw[Z6] at p;simpa using p)⟩;obtain⟨hi,rfl⟩:=Al hx;rw[show(0:Int)+(i:Int)=i by omega];exact hs i ys U g (by simpa using hi) p
theorem FV(hP:i4 P)(h:aV P a U g (λx g1=>∃l,x=.tup l/\l.length<=1000/\∃I:Nat->List D->S->G->Prop,I 0 [] (P7 U d5 n) g1/\(∀i ys U g,I i ys U g->ys.length<=i) /\
      (∀(i:Nat) x ys U g,l[i]?=some x->I i ys U g->km t x U λdz=>dD P cond dz g (λc g3=>if c=true then aV P elt dz g3 (λy g4=>I (i+1) (ys++[y]) dz g4) jX else I (i+1) ys dz g3) jX) /\
      ∀ ys U g,I l.length ys U g->Q (.ref g.length) (g ++ [.lst ys])) E):aV P (.comp d5 n t (.iX a) cond elt) U g Q E:=by
  refine K5 hP ?_;refine a9 hP a _ _ _ _ _ _ (λx g1 h=>?_) (λ_ _ z=>z) h;obtain⟨l,rfl,hj,I,h0,hz,hs,hd⟩:=h;exact .inl ⟨l,rfl,_,I,hj,λi ys U g p=>⟨F7,hz i ys U g p⟩,h0,hs,hd⟩
theorem QV(hP:i4 P)(h:aV P a U g (λx g1=>∃j:Int,x=.int j/\-(2 ^ 62)<=j/\j<2 ^ 62/\R (.fix (A7 0 j.toNat)) g1) E):jh P (.gL a) U g R E:=h
theorem JU(hP:i4 P)(h:aV P a U g (λx g1=>∃l,x=.tup l/\R (.fix l) g1) E):jh P (.iX a) U g R E:=by
 exact a9 hP a _ _ _ _ _ _ (λx g1 h=>.inl h) (λ_ _ z=>z) h
theorem CK(hP:i4 P)(h:aV P a U g (λx g1=>∃i l,x=.ref i/\c8 g1 i=some l/\R (.lst i) g1) E):jh P (.iX a) U g R E:=by
 exact a9 hP a _ _ _ _ _ _ (λx g1 h=>.inr (.inl h)) (λ_ _ z=>z) h
theorem vj(hP:i4 P)(h:aV P a U g (λx g1=>∃w:Str,x=.str w/\w.cps.all (·<128)=true/\R (.fix (sgn w)) g1) E):jh P (.iX a) U g R E:=by
 exact a9 hP a _ _ _ _ _ _ (λx g1 h=>.inr (.inr h)) (λ_ _ z=>z) h
end
end M
namespace M
open PySem L2 PySem.Spec PyProof.Rows
variable{K:PySem.W.Frag}{x:Str}{f C:Addr}{oc:Value}{h₀:Heap}
structure RF where
 id:Nat
 nm:Str
 N:List Str
 k:Nat
 i:Nat
 m:bN
structure RM where
 id:Nat
 cl:Str
 nm:Str
 qn:Str
 N:List Str
 k:Nat
 i:Nat
 j:Nat
 m:bN
def RF.d(tp:Nat->Stmt)(r:RF):nJ:=⟨r.nm,r.nm,r.N,r.N.take r.k,tp r.i⟩
def RM.d(mt:Nat->Nat->Stmt)(r:RM):nJ:=⟨r.nm,r.qn,r.N,r.N.take r.k,mt r.i r.j⟩
def qI(F:List RF)(M:List RM)(i:Nat):Option bN:=match F.find? λr=>Nat.beq r.id i with
 |some r=>some r.m
 |none=>(M.find? λr=>Nat.beq r.id i).map (·.m)
section
variable(tp:Nat->Stmt)(mt:Nat->Nat->Stmt)(K:PySem.W.Frag)
def PF:List RF->Prop
 |[]=>True
 |r::l=>(∃f fd,PySem.W.nsIn K mainGlobals r.nm=some (some (.ref f))/\mn K r.nm r.nm (tp r.i) f fd)/\PF l
def PM:List RM->Prop
 |[]=>True
 |r::l=>(∃C f fd,PySem.W.nsIn K mainGlobals r.cl=some (some (.ref C))/\Meth K C r.nm f/\mn K r.nm r.qn (mt r.i r.j) f fd)/\PM l
def PC:List (Str×Nat)->Prop
 |[]=>True
 |r::l=>(∃C,PySem.W.nsIn K mainGlobals r.1=some (some (.ref C))/\ju K C/\PySem.W.makesIn K C=true/\PySem.W.keepIn K (.ref C)=true)/\PC l
def PA:List (Str×Str)->Prop
 |[]=>True
 |r::l=>(∃C,PySem.W.nsIn K mainGlobals r.2=some (some (.ref C))/\PySem.W.findIn K (.ref C) r.1=some none)/\PA l
def PB:List Str->Prop
 |[]=>True
 |r::l=>PySem.W.nsIn K mainGlobals r=some none/\PB l
def PX:List Str->Prop
 |[]=>True
 |r::l=>(∃C,PySem.W.nsIn K mainGlobals r=some (some (.ref C))/\PySem.W.excIn K C [.type "ValueError",.type "Exception",.type "BaseException",.type "object"] "ValueError.__new__"=true)/\PX l
def BF:List RF->Prop
 |[]=>True
 |r::l=>(∀(kV doc pm:Value) (an:Option Addr) (eB ct:Value) (us:List Value),us.length=(r.N.take r.k).length->bindArgs (PySem.W.fnOf r.nm r.nm (p9 (tp r.i)) (j4 (tp r.i)) (d8 (tp r.i)) .none kV doc pm an eB ct) ⟨us,[]⟩=pure ((r.N.take r.k).zip us))/\BF l
def BM:List RM->Prop
 |[]=>True
 |r::l=>(∀(kV doc pm:Value) (an:Option Addr) (eB ct:Value) (us:List Value),us.length=(r.N.take r.k).length->bindArgs (PySem.W.fnOf r.nm r.qn (p9 (mt r.i r.j)) (j4 (mt r.i r.j)) (d8 (mt r.i r.j)) .none kV doc pm an eB ct) ⟨us,[]⟩=pure ((r.N.take r.k).zip us))/\BM l
def YF(c:d6):List RF->Prop
 |[]=>True
 |r::l=>u9 (comp 60) (c.at (r.d tp)) (j4 (tp r.i))=some r.m.body/\YF c l
def YM(c:d6):List RM->Prop
 |[]=>True
 |r::l=>u9 (comp 60) (c.at (r.d mt)) (j4 (mt r.i r.j))=some r.m.body/\YM c l
end
section
variable{tp:Nat->Stmt}{mt:Nat->Nat->Stmt}{c:d6}{id k i j:Nat}{cl nm qn:Str}{N:List Str}{m:bN}{kV doc pm eB ct:Value}{od an:Option Addr}{jb:Array (Option Value)}
theorem PF.nil:PF tp K []:=trivial
theorem PF.cons{l:List RF}(a:PySem.W.nsIn K mainGlobals nm=some (some (.ref f)))(lk:K.lookup f=some ⟨oc,od,.func (PySem.W.fnOf nm nm (p9 (tp i)) (j4 (tp i)) (d8 (tp i)) .none kV doc pm an eB ct),jb⟩)(cd:PySem.W.codeIn K eB nm=true)(kp:PySem.W.keepIn K (.ref f)=true)(h:PF tp K l):PF tp K (⟨id,nm,N,k,i,m⟩::l):=⟨⟨f,_,a,Gp lk cd kp⟩,h⟩
theorem PM.nil:PM mt K []:=trivial
theorem PC.nil:PC K []:=trivial
theorem PA.nil:PA K []:=trivial
theorem PB.nil:PB K []:=trivial
theorem PB.cons{l:List Str}(cn:PySem.W.nsIn K mainGlobals x=some none)(h:PB K l):PB K (x::l):=⟨cn,h⟩
theorem PX.nil:PX K []:=trivial
theorem PX.cons{l:List Str}(cn:PySem.W.nsIn K mainGlobals x=some (some (.ref C)))(q:PySem.W.excIn K C [.type "ValueError",.type "Exception",.type "BaseException",.type "object"] "ValueError.__new__"=true)(h:PX K l):PX K (x::l):=⟨⟨C,cn,q⟩,h⟩
theorem xu{P:List Value->Prop}{n:Nat}(h:∀a vs,vs.length=n->P (a::vs))(us:List Value)(hl:us.length=n+1):P us:=by
 cases us with
 |nil=>cases hl
 |cons a vs=>exact h a vs (Nat.succ.inj hl)
theorem xt{P:List Value->Prop}(h:P [])(us:List Value)(hl:us.length=0):P us:=by
 simp_all
theorem BF.nil:BF tp []:=trivial
theorem BF.cons{l:List RF}(h:∀(kV doc pm:Value) (an:Option Addr) (eB ct:Value) (us:List Value),us.length=(N.take k).length->bindArgs (PySem.W.fnOf nm nm (p9 (tp i)) (j4 (tp i)) (d8 (tp i)) .none kV doc pm an eB ct) ⟨us,[]⟩=pure ((N.take k).zip us))(h2:BF tp l):BF tp (⟨id,nm,N,k,i,m⟩::l):=⟨h,h2⟩
theorem BM.nil:BM mt []:=trivial
theorem YF.nil:YF tp c []:=trivial
theorem YF.cons{l:List RF}(h:u9 (comp 60) (c.at ⟨nm,nm,N,N.take k,tp i⟩) (j4 (tp i))=some m.body)(h2:YF tp c l):YF tp c (⟨id,nm,N,k,i,m⟩::l):=⟨h,h2⟩
theorem YM.nil:YM mt c []:=trivial
theorem YF.get:∀{l:List RF},YF tp c l->∀r∈l,u9 (comp 60) (c.at (r.d tp)) (j4 (tp r.i))=some r.m.body
 |_::_,h,r,hr=>(aB.mp hr).elim (λz=>z▸h.1) (YF.get h.2 r)
theorem YM.get:∀{l:List RM},YM mt c l->∀r∈l,u9 (comp 60) (c.at (r.d mt)) (j4 (mt r.i r.j))=some r.m.body
 |_::_,h,r,hr=>(aB.mp hr).elim (λz=>z▸h.1) (YM.get h.2 r)
theorem PF.get:∀{l:List RF},PF tp K l->∀r∈l,∃f fd,PySem.W.nsIn K mainGlobals r.nm=some (some (.ref f))/\mn K r.nm r.nm (tp r.i) f fd
 |_::_,h,r,hr=>(aB.mp hr).elim (λz=>z▸h.1) (PF.get h.2 r)
theorem PM.get:∀{l:List RM},PM mt K l->∀r∈l,∃C f fd,PySem.W.nsIn K mainGlobals r.cl=some (some (.ref C))/\Meth K C r.nm f/\mn K r.nm r.qn (mt r.i r.j) f fd
 |_::_,h,r,hr=>(aB.mp hr).elim (λz=>z▸h.1) (PM.get h.2 r)
theorem PC.get:∀{l:List (Str×Nat)},PC K l->∀r∈l,∃C,PySem.W.nsIn K mainGlobals r.1=some (some (.ref C))/\ju K C/\PySem.W.makesIn K C=true/\PySem.W.keepIn K (.ref C)=true
 |_::_,h,r,hr=>(aB.mp hr).elim (λz=>z▸h.1) (PC.get h.2 r)
theorem PA.get:∀{l:List (Str×Str)},PA K l->∀r∈l,∃C,PySem.W.nsIn K mainGlobals r.2=some (some (.ref C))/\PySem.W.findIn K (.ref C) r.1=some none
 |_::_,h,r,hr=>(aB.mp hr).elim (λz=>z▸h.1) (PA.get h.2 r)
theorem PB.get:∀{l:List Str},PB K l->∀r∈l,PySem.W.nsIn K mainGlobals r=some none
 |_::_,h,r,hr=>(aB.mp hr).elim (λz=>z▸h.1) (PB.get h.2 r)
theorem PX.get:∀{l:List Str},PX K l->∀r∈l,∃C,PySem.W.nsIn K mainGlobals r=some (some (.ref C))/\PySem.W.excIn K C [.type "ValueError",.type "Exception",.type "BaseException",.type "object"] "ValueError.__new__"=true
 |_::_,h,r,hr=>(aB.mp hr).elim (λz=>z▸h.1) (PX.get h.2 r)
theorem BF.get:∀{l:List RF},BF tp l->∀r∈l,∀(kV doc pm:Value) (an:Option Addr) (eB ct:Value) (us:List Value),us.length=(r.N.take r.k).length->bindArgs (PySem.W.fnOf r.nm r.nm (p9 (tp r.i)) (j4 (tp r.i)) (d8 (tp r.i)) .none kV doc pm an eB ct) ⟨us,[]⟩=pure ((r.N.take r.k).zip us)
 |_::_,h,r,hr=>(aB.mp hr).elim (λz=>z▸h.1) (BF.get h.2 r)
theorem BM.get:∀{l:List RM},BM mt l->∀r∈l,∀(kV doc pm:Value) (an:Option Addr) (eB ct:Value) (us:List Value),us.length=(r.N.take r.k).length->bindArgs (PySem.W.fnOf r.nm r.qn (p9 (mt r.i r.j)) (j4 (mt r.i r.j)) (d8 (mt r.i r.j)) .none kV doc pm an eB ct) ⟨us,[]⟩=pure ((r.N.take r.k).zip us)
 |_::_,h,r,hr=>(aB.mp hr).elim (λz=>z▸h.1) (BM.get h.2 r)
end
def rT(N P:List Str)(sc:Scope):Bool:=decide (sc.kind=.function)&&!sc.isCoroutine&&!sc.isGenerator&&decide N.Nodup&&decide (N.take P.length=P)&&P.all (λx=>decide (sc.names.lookup x=some .local)||decide (sc.names.lookup x=some .cell))&&sc.names.all λy=>decide (y.2≠.free)
theorem zK{N P:List Str}{sc:Scope}(h:rT N P sc=true):fT N P sc:=by
 unfold rT at h;simp only[Bool.and_eq_true,decide_eq_true_eq,Bool.not_eq_true',List.all_eq_true,Bool.or_eq_true] at h;obtain⟨⟨⟨⟨⟨⟨h1,h2⟩,h3⟩,h4⟩,h5⟩,h6⟩,h7⟩:=h;exact⟨h1,h2,h3,h4,h5,h6,h7⟩
theorem VH{mg:Str->Option Value}{iY:List Value}{newId:String}(X:K.In h₀)(G:h₀.Ns mainGlobals mg)(e:PySem.W.nsIn K mainGlobals x=some (some (.ref C)))(q:PySem.W.excIn K C iY newId=true):PyProof.Rows.OwnCls x C iY newId mg h₀:=by
 refine⟨bW X G e,?_⟩;unfold PySem.W.excIn at q;split at q
 ·rename_i dd cd sl ho;split at q
  ·rename_i C' bm k0 k1 k2 k3 n k5 hm hs;simp only[Bool.and_eq_true,beq_iff_eq,Bool.not_eq_true'] at q;obtain⟨⟨⟨⟨⟨z1,z2⟩,lX⟩,ht⟩,bB⟩,nt⟩:=q;subst z1;subst z2;obtain⟨nm,bs,mro,ns,qn,hd,sn,sub,ab,col,del⟩:=cd;dsimp only at hm lX bB nt;subst hm lX;have yi:sl=#[k0,k1,k2,k3,some (.builtin n),k5]:=by
    obtain⟨l⟩:=sl;simp only at hs;rw[hs]
   subst yi;exact⟨bm,ns,nm,qn,bs,hd,sn,sub,ab,col,dd,k0,k1,k2,k3,k5,_,X _ _ ho,.of_isNs (jw X bB),PySem.W.nsMap_none_of_in X bB nt,IW X ht⟩
  ·cases q
 ·cases q
def u2(K:PySem.W.Frag)(x:Str):Addr:=match PySem.W.nsIn K mainGlobals x with
 |some (some (.ref C))=>C
 |_=>0
def Hj(K:PySem.W.Frag)(exc:List Str):Bool:=exc.all λx=>exc.all λy=>decide (PySem.W.exmOne K (.ref (u2 K x)) (.ref (u2 K y))=some (decide (x=y\/y="MintError")))
theorem Mh{exc:List Str}(h:Hj K exc=true){y:Str}{C':Addr}(hx:exc.contains x=true)(hy:exc.contains y=true)(hC:f9 K x C)(nY:f9 K y C'):PySem.W.exmOne K (.ref C) (.ref C')=some (decide (x=y\/y="MintError")):=by
 have h1:=bD.mp h x (by simpa using hx);have h2:=aN (bD.mp h1 y (by simpa using hy));have e1:u2 K x=C:=by unfold u2;simp_all
 have e2:u2 K y=C':=by unfold u2;simp_all
 rw[e1,e2] at h2;exact h2
theorem Ac{α:Type}{f:α->Nat}:∀{l:List α},(l.map f).Nodup->∀r∈l,l.find? (λx=>Nat.beq (f x) (f r))=some r
 |y::l,nd,r,hr=>by
  rw[aG,fz] at nd;rcases aB.mp hr with rfl|hr
  ·rw[List.find?_cons_of_pos];exact Nat.beq_refl _
  ·rw[List.find?_cons_of_neg]
   ·exact Ac nd.2 r hr
   ·intro z;exact nd.1 (aW.mpr ⟨r,hr,(iE z).symm⟩)
theorem OI{α β:Type}{f:α->Nat}{g:β->Nat}{l:List α}{r:β}(h:g r∉l.map f):l.find? (λx=>Nat.beq (f x) (g r))=none:=by
 rw[List.find?_eq_none];intro x hx z;exact h (aW.mpr ⟨x,hx,iE z⟩)
section
variable{w:World}{mg:Str->Option Value}{c:d6}{F:List RF}{M:List RM}{tp:Nat->Stmt}{mt:Nat->Nat->Stmt}
def vV(K:PySem.W.Frag)(C f:Addr):Bool:=match K.lookup C with
 | some ⟨.type "type",_,.cls cd,sl⟩=>(match cd.mro,sl.toList with
  |.ref C2::bm,[_,_,_,_,some (.builtin n),_]=>C2==C&&n=="ValueError.__new__"&&!cd.hasDel&&PySem.W.tailIn K [.type "ValueError",.type "Exception",.type "BaseException",.type "object"] bm&&PySem.W.nsOkIn K cd.ns&&PySem.W.nsIn K cd.ns "__init__"==some (some (.ref f))
  | _,_=>false)
 |_=>false
theorem MO{h:Heap}{N:Addr}{n:Str}{v:Value}(X:K.In h)(G:h.Ns N mg)(e:PySem.W.nsIn K N n=some (some v)):mg n=some v:=by
 obtain⟨o,es,ep,ho,hd,_,hf⟩:=G;unfold PySem.W.nsIn at e;split at e<;>try cases e
 have z:=X _ _ ‹_›;rw[ho] at z;cases z;cases hd;split at e
 ·rename_i y hy;cases e;rw[<- hf];unfold nsFind findBy;rw[<- Jc,hy]
  rfl
 ·split at e<;>cases e
theorem Vq{od:Option Addr}{fd:FuncData}{jb:Array (Option Value)}(X:K.In h₀)(G:h₀.Ns mainGlobals mg)(e:PySem.W.nsIn K mainGlobals "BadText"=some (some (.ref C)))(q:vV K C f=true)(lk:K.lookup f=some ⟨oc,od,.func fd,jb⟩)(ho:oc=.type "function") :
  iR "BadText" C f [.type "ValueError",.type "Exception",.type "BaseException",.type "object"] "ValueError.__new__" mg h₀:=by
 refine⟨bW X G e,?_,_,X _ _ lk,ho⟩;unfold vV at q;split at q
 ·rename_i dd cd sl hC;split at q
  ·rename_i C2 bm k0 k1 k2 k3 n k5 hm hs;simp only[Bool.and_eq_true,beq_iff_eq,Bool.not_eq_true'] at q;obtain⟨⟨⟨⟨⟨z1,z2⟩,lX⟩,ht⟩,bB⟩,nt⟩:=q;subst z1;subst z2;obtain⟨nm,bs,mro,ns,qn,hd,sn,sub,ab,col,del⟩:=cd;dsimp only at hm lX bB nt;subst hm lX;have yi:sl=#[k0,k1,k2,k3,some (.builtin "ValueError.__new__"),k5]:=by
    obtain⟨l⟩:=sl;simp only at hs;rw[hs]
   subst yi;refine⟨bm,ns,nm,qn,bs,hd,sn,sub,ab,col,dd,k0,k1,k2,k3,k5,_,X _ _ hC,.of_isNs (jw X bB),MO X (.of_isNs (jw X bB)) nt,IW X ht⟩
  ·cases q
 ·cases q
def Gi(K:PySem.W.Frag)(C:Addr)(exc:List Str):Bool:=exc.all λx=>decide (PySem.W.exmOne K (.ref (u2 K x)) (.ref C)=some false)
def Hk(K:PySem.W.Frag)(exc:List Str):Bool:=match PySem.W.nsIn K mainGlobals "BadText" with
 |some (some (.ref C))=>exc.all λy=>decide (PySem.W.exmOne K (.ref C) (.ref (u2 K y))=some (decide (y="MintError")))
 |_=>true
def Bu(K:PySem.W.Frag)(C:Addr):Bool:=uD K C&&decide (PySem.W.findIn K (.ref C) "__getattribute__"=some (some (.builtin "BaseException.__getattribute__")))&&decide (PySem.W.findIn K (.ref C) "__getattr__"=some none)&&decide (PySem.W.findIn K (.ref C) "__setattr__"=some (some (.builtin "object.__setattr__"))) &&
 PySem.W.hasDictIn K C&&decide (PySem.W.findIn K (.ref C) "row"=some none)&&decide (PySem.W.exmOne K (.ref C) (.ref C)=some true)
structure vN(K:PySem.W.Frag)(exc:List Str)(st:Stmt):Prop where
 ex:∃(C f:Addr) (oc kV doc pm eB ct:Value) (od an:Option Addr) (jb:Array (Option Value)),PySem.W.nsIn K mainGlobals "BadText"=some (some (.ref C))/\K.lookup f=some ⟨oc,od,.func (PySem.W.fnOf "__init__" "BadText.__init__" (p9 st) (j4 st) (d8 st) .none kV doc pm an eB ct),jb⟩ /\
  PySem.W.codeIn K eB "BadText.__init__"=true/\PySem.W.keepIn K (.ref f)=true/\oc=.type "function"/\vV K C f=true/\Bu K C=true/\Gi K C exc=true
theorem vN.of{exc:List Str}{st:Stmt}{kV doc pm eB ct:Value}{od an:Option Addr}{jb:Array (Option Value)}(h1:PySem.W.nsIn K mainGlobals "BadText"=some (some (.ref C)))(_:PySem.W.findIn K (.ref C) "__init__"=some (some (.ref f)))(h2:K.lookup f=some ⟨oc,od,.func (PySem.W.fnOf "__init__" "BadText.__init__" (p9 st) (j4 st) (d8 st) .none kV doc pm an eB ct),jb⟩)(h3:PySem.W.codeIn K eB "BadText.__init__"=true)(h4:PySem.W.keepIn K (.ref f)=true)(h5:oc=.type "function")(h6:vV K C f=true)(h7:Bu K C=true)(h8:Gi K C exc=true):vN K exc st :=
 ⟨C,f,oc,kV,doc,pm,eB,ct,od,an,jb,h1,h2,h3,h4,h5,h6,h7,h8⟩
structure uG(st:Stmt):Prop where
 sc:rT ["self","row"] ["self","row"] (d8 st)=true
 bo:uc (j4 st)=some (("self":Str),("row":Str),("row":Str))
 lo:(d8 st).names.lookup ("self":Str)=some .local/\(d8 st).names.lookup ("row":Str)=some .local
 bi:∀(kV doc pm:Value) (an:Option Addr) (eB ct:Value) (us:List Value),us.length=2->bindArgs (PySem.W.fnOf "__init__" "BadText.__init__" (p9 st) (j4 st) (d8 st) .none kV doc pm an eB ct) ⟨us,[]⟩=pure ((["self","row"]:List Str).zip us)
structure kI(K:PySem.W.Frag)(c:d6)(F:List RF)(M:List RM)(tp:Nat->Stmt)(mt:Nat->Nat->Stmt):Prop where
 qF:PF tp K F
 qM:PM mt K M
 qC:PC K c.cls
 qA:PA K c.mH
 qB:PB K c.blt
 qX:PX K c.exc
 xm:Hj K c.exc=true
 xr:Hk K c.exc=true
 qR:∀p,c.row=some p->vN K c.exc (mt p.1 p.2)
structure kH(c:d6)(F:List RF)(M:List RM)(tp:Nat->Stmt)(mt:Nat->Nat->Stmt):Prop where
 cf:c.fns=F.map λr=>(r.nm,r.id)
 cm:c.nS=M.map λr=>(r.nm,r.cl,r.id)
 ci:c.cls.all (λy=>M.any λr=>decide (r.cl=y.1)&&decide (r.nm="__init__")&&Nat.beq r.id y.2)=true
 nd:(F.map (·.id)++M.map (·.id)).Nodup
 sF:F.all (λr=>rT r.N (r.N.take r.k) (d8 (tp r.i))&&decide (r.m.ar=(r.N.take r.k).length)&&decide (r.m.n=r.N.length))=true
 sM:M.all (λr=>rT r.N (r.N.take r.k) (d8 (mt r.i r.j))&&decide (r.m.ar=(r.N.take r.k).length)&&decide (r.m.n=r.N.length))=true
 oF:YF tp c F
 oM:YM mt c M
 bF:BF tp F
 bM:BM mt M
 xz:c.exc.all (λx=>decide (x.cps.size≠1))=true
 tR:∀p,c.row=some p->uG (mt p.1 p.2)
theorem HD(I:kI K c F M tp mt)(X:kH c F M tp mt)(r:RF)(hr:r∈F):∃f fd,jc K c (r.d tp) r.m f fd/\PySem.W.nsIn K mainGlobals r.nm=some (some (.ref f))/\qI F M r.id=some r.m:=by
 obtain⟨f,fd,a,q⟩:=I.qF.get r hr;have s:=bD.mp X.sF r hr;simp only[Bool.and_eq_true,decide_eq_true_eq] at s;have o:=X.oF.get r hr;refine⟨f,fd,⟨q,q.binds (X.bF.get r hr),zK s.1.1,o,s.1.2,s.2⟩,a,?_⟩;unfold qI;rw[Ac (eN.mp X.nd).1 r hr]
theorem HE(I:kI K c F M tp mt)(X:kH c F M tp mt)(r:RM)(hr:r∈M):∃C f fd,jc K c (r.d mt) r.m f fd/\PySem.W.nsIn K mainGlobals r.cl=some (some (.ref C))/\Meth K C r.nm f/\qI F M r.id=some r.m:=by
 obtain⟨C,f,fd,a,q1,q⟩:=I.qM.get r hr;have s:=bD.mp X.sM r hr;simp only[Bool.and_eq_true,decide_eq_true_eq] at s;have o:=X.oM.get r hr;refine⟨C,f,fd,⟨q,q.binds (X.bM.get r hr),zK s.1.1,o,s.1.2,s.2⟩,a,q1,?_⟩;have nd:=eN.mp X.nd;unfold qI;rw[OI (λz=>nd.2.2 _ z _ (aW.mpr ⟨r,hr,rfl⟩) rfl),Ac nd.2.1 r hr]
 rfl
theorem Oo(I:kI K c F M tp mt)(Y:kH c F M tp mt)(X:K.In h₀)(G:h₀.Ns mainGlobals mg)(con:∀x d,c.con.lookup x=some d->∃v u,mg x=some u/\RelV v u/\∀ρ H,c9 K ρ H d v)(pA:∀x aU,c.gd.lookup x=some aU->∃A vs,mg x=some (.ref A)/\AQ K w.params A vs/\Z1 K aU vs):mj w K mg c (qI F M):=by
 refine⟨λx i hx=>?_,λx i hx=>?_,λx y i C hx hC=>?_,λf y C hx hC=>?_,con,λx hx=>?_,λx hx=>?_,λx y C C' hx hy hC nY=>Mh I.xm hx hy hC nY,λx hx=>?_,λy C C' hy hC nY=>?_,λhr=>?_,pA⟩
 ·have hm:=aE hx;rw[Y.cf] at hm;obtain⟨r,hr,e⟩:=aW.mp hm;cases e;obtain⟨f,fd,O,a,t⟩:=HD I Y r hr;exact⟨_,_,f,fd,t,O,bW X G a⟩
 ·have hm:=aE hx;have h1:=bD.mp Y.ci _ hm;obtain⟨r,hr,e⟩:=Zr.mp h1;simp only[Bool.and_eq_true,decide_eq_true_eq] at e;obtain⟨⟨e1,e2⟩,e3⟩:=e;have e3:=iE e3;obtain⟨C,f,fd,O,a,q,t⟩:=HE I Y r hr;obtain⟨C',a',hc,mk,kp⟩:=I.qC.get _ hm;rw[e1] at a;cases a.symm.trans a';rw[e2] at q;rw[e3] at t;exact⟨C,_,_,f,fd,t,O,bW X G a,a,hc,⟨mk,q.at_,q.fn,kp⟩⟩
 ·rw[Y.cm] at hx;obtain⟨r,hr,e⟩:=aW.mp hx;cases e;obtain⟨C',f,fd,O,a,q,t⟩:=HE I Y r hr;cases a.symm.trans hC;exact⟨_,_,f,fd,t,O,q⟩
 ·obtain⟨C',a,q⟩:=I.qA.get _ hx;cases a.symm.trans hC;exact q
 ·exact PySem.W.mg_none_of X G (I.qB.get x (by simpa using hx))
 ·obtain⟨C,a,q⟩:=I.qX.get x (by simpa using hx);exact⟨_,bW X G a,a,λbase kR nZ=>⟨_,_,_,_,VH kR nZ a q,mL⟩⟩
 ·exact aN (bD.mp Y.xz x (by simpa using hx))
 ·have h1:=I.xr;unfold Hk at h1;rw[show PySem.W.nsIn K mainGlobals "BadText"=_ from hC] at h1;have h2:=aN (bD.mp h1 y (by simpa using hy));have e2:u2 K y=C':=by unfold u2;rw[show PySem.W.nsIn K mainGlobals y=_ from nY]
  rw[e2] at h2;exact h2
 ·obtain⟨p,hp⟩:=cB.mp hr;obtain⟨C,f,oc,kV,doc,pm,eB,ct,od,an,jb,h1,h2,h3,h4,h5,h6,h7,h8⟩:=(I.qR p hp).ex;have tr:=Y.tR p hp;unfold Bu at h7;simp only[Bool.and_eq_true,decide_eq_true_eq] at h7;obtain⟨⟨⟨⟨⟨⟨a1,a2⟩,a3⟩,a4⟩,a5⟩,a6⟩,a7⟩:=h7;have Fu:mn K "__init__" "BadText.__init__" (mt p.1 p.2) f _:=Gp h2 h3 h4;refine⟨C,f,_,_,_,bW X G h1,h1,λbase kR nZ=>⟨_,_,_,_,Vq kR nZ h1 h6 h2 h5,mL⟩,⟨a1,a2,a3,a4,a5,a6⟩,Fu,zK tr.sc,tr.bo,tr.lo,Fu.binds tr.bi,a7,λx C' hx nY=>?_⟩;have h9:=aN (bD.mp h8 x hx);have e2:u2 K x=C':=by unfold u2;rw[show PySem.W.nsIn K mainGlobals x=_ from nY]
  rw[e2] at h9;exact h9
end
end M
namespace M
open PySem L2
variable{g g':G}{i n:Int}{o:O}{Q:KD}{E:KX}{k:Nat}{ms:List Int}{c:n4}
set_option hygiene false
local macro_rules|`(tactic|walk_at"w1")=>`(tactic|with_reducible first|refine GV ?_|refine C7 ?_|refine IG ?_|refine S3 ?_|refine GR ?_|refine II ?_|refine HQ ?_|refine oz ?_|refine Bo ?_|refine wD ?_|refine oA ?_|(refine w_var (d:=?_) ?_ ?_;rotate_left;·with_unfolding_all rfl)|refine w_lit ?_|refine uq ?_|refine uo ?_|refine Eg ?_|refine GU ?_|refine HN ?_|refine w_and ?_|refine w_or ?_|refine w_not ?_|refine w_ite ?_|refine zV ?_|refine oB ?_|refine mU ?_|refine Bp ?_|refine wC ?_|refine GW ?_|refine IH ?_|refine GX ?_|refine Bq ?_|refine Br ?_|refine Ei ?_|refine uF ?_|refine ID ?_|refine DO ?_|refine DN ?_|refine DL ?_|refine DJ ?_|refine Er ?_|refine AU ?_|refine Ep ?_|refine HY ?_|refine Es ?_|refine Et ?_|refine HU ?_|refine HS ?_|refine HW ?_|refine HX ?_|refine HV ?_|refine Y4 ?_|refine tZ ?_|refine tY ?_|refine tW ?_|refine tX ?_|refine tV ?_|refine uk ?_|refine N1 ?_|refine oP ?_|refine kT ?_|refine O2 ?_|refine qD ?_|refine ub ?_|refine sJ ?_|refine oN ?_|refine oJ ?_|refine oK ?_|refine rY ?_|refine sI ?_|refine rF ?_)
local macro_rules|`(tactic|walk_at"w2")=>`(tactic|repeat(with_reducible first|walk_at "w1"|refine Z7 (by simp) ?_|refine Z8 (by simp) ?_|refine L5 (b9 (by assumption)) (by with_unfolding_all rfl) ?_|refine qQ (b9 (by assumption)) ?_|refine qN (by unfold O6;decide) ?_))
local macro_rules|`(tactic|walk_at"w3")=>`(tactic|repeat(with_reducible first|walk_at "w1"|refine Z7 (by simp) ?_|refine Z8 (by simp) ?_|refine L5 (b9 (by assumption)) (by with_unfolding_all rfl) ?_|refine qQ (b9 (by assumption)) ?_|refine qN (by unfold O6;decide) ?_|refine And.intro (show List.length _ <= 1000 from by simp) ?_|refine J6 (by with_unfolding_all rfl) ?_|refine B3 ?_|refine pJ (by with_unfolding_all rfl) ?_))
local macro_rules|`(tactic|walk_at"")=>`(tactic|repeat(with_reducible first|walk_at "w1"|refine HP ?_|refine rD ?_|refine GS ?_|refine HZ ?_|refine rJ ?_|refine rH ?_|refine max2 ?_|refine min2 ?_|refine sP ?_|refine kZ ?_|refine zc ?_|refine tJ ?_|refine Z7 (by simp) ?_|refine Z8 (by simp) ?_|refine L5 (b9 (by assumption)) (by with_unfolding_all rfl) ?_|refine qQ (b9 (by assumption)) ?_|refine qN (by unfold O6;decide) ?_|refine And.intro (show List.length _ <= 1000 from by simp) ?_|refine J6 (by with_unfolding_all rfl) ?_|refine B3 ?_|refine pJ (by with_unfolding_all rfl) ?_|refine And.intro (zG (by assumption)) ?_|refine And.intro (Gy (by assumption)) ?_|refine And.intro (xN (by assumption)) ?_|refine M7 (by decide) ?_|refine pM (by decide) (by decide) ?_|refine JV ?_))
abbrev kl(a:ME):ME:=.cons a .nil
abbrev Ji(a b:ME):ME:=.cons a (.cons b .nil)
abbrev Jg(a b c:ME):ME:=.cons a (.cons b (.cons c .nil))
abbrev Jh(a b c d:ME):ME:=.cons a (.cons b (.cons c (.cons d .nil)))
abbrev Cd(a b c d e:ME):ME:=.cons a (.cons b (.cons c (.cons d (.cons e .nil))))
abbrev Ca(a b c d e f g:ME):ME:=.cons a (.cons b (.cons c (.cons d (.cons e (.cons f (.cons g .nil))))))
abbrev hU(f:Nat)(a:ME):ME:=.call f (.cons a .nil)
abbrev ir(f:Nat)(a b:ME):ME:=.call f (.cons a (.cons b .nil))
abbrev vc(f:Nat)(a b c:ME):ME:=.call f (.cons a (.cons b (.cons c .nil)))
abbrev fh(o:PySem.CmpOp)(a b:ME):ME:=.gb (.prim (.cmp o) (.cons a (.cons b .nil)))
abbrev gj(a:ME)(b c:MS):MS:=.seq (.ifs a b .pass) c
abbrev za(t:MT)(a:ME)(b c:MS):MS:=.seq (.jN t a b) c
abbrev fk(a b:ME):ME:=.prim .ix (.cons a (.cons b .nil))
abbrev bV(a:Int):ME:=.lit (.int a)
abbrev eI(a:PySem.Str):ME:=.lit (.str a)
abbrev fc(p:Pr)(a:ME):ME:=.prim p (.cons a .nil)
abbrev cQ(p:Pr)(a b:ME):ME:=.prim p (.cons a (.cons b .nil))
abbrev eu(a:ME):MS:=.seq (.ret a) .pass
abbrev jI(a:MS):MS:=.seq a .pass
abbrev pz(a b:MS):MS:=.seq a b
abbrev fZ(n:Nat)(a:ME)(b:MS):MS:=.seq (.set n a) b
abbrev ba:ME:=.var 0
abbrev bR:ME:=.var 1
abbrev dJ:ME:=.var 2
abbrev dE:ME:=.var 3
abbrev eW:ME:=.var 4
abbrev jG:ME:=.var 5
abbrev sL:ME:=.var 6
abbrev xP:ME:=.var 7
abbrev Jf(a:ME)(b:MS):MS:=.seq (.expr a) b
def P2:bN:=⟨2,5,(gj (.eG (fh .Lt (fk ba (bV 2)) bR) (fh .Lt (fk ba (bV 1)) (fc .len (fk ba (bV 0))))) (fZ 2 (fk (fk ba (bV 0)) (fk ba (bV 1))) (pz (.eE ba (bV 1) (cQ (.bin .Add) (fk ba (bV 1)) (bV 1))) (pz (.eE ba (bV 2) (bV 0)) (jI (.ifs (fh .GtE dJ (cQ (.bin .Pow) (bV 10) (bV 18))) (jI (.eE ba (bV 2) dJ)) (jI (.eE ba (bV 3) (cQ (.bin .Mod) (cQ (.bin .Add) (cQ (.bin .Add) (cQ (.bin .Mult) (fk ba (bV 3)) (bV 48271)) (cQ (.bin .Mult) (cQ (.bin .Mod) dJ (bV 2147483629)) (bV 69621))) (bV 12345)) (bV 2147483647))))))))) (gj (fh .GtE (fk ba (bV 2)) bR) (fZ 3 (cQ (.bin .Mod) (fk ba (bV 2)) bR) (pz (.eE ba (bV 2) (cQ (.bin .FloorDiv) (fk ba (bV 2)) bR)) (eu dE))) (fZ 4 (fk ba (bV 3)) (pz (.eE ba (bV 3) (cQ (.bin .Mod) (cQ (.bin .Add) (cQ (.bin .Add) (cQ (.bin .Mult) (cQ (.bin .Mod) (cQ (.bin .Mult) eW eW) (bV 2147483629)) (bV 5)) (cQ (.bin .Mult) eW (bV 16811))) (bV 2531011)) (bV 2147483647))) (eu (cQ (.bin .Mod) (cQ (.bin .Add) (cQ (.bin .FloorDiv) (fk ba (bV 3)) (bV 59)) (cQ (.bin .Mult) (cQ (.bin .Mod) (fk ba (bV 3)) (bV 8191)) (bV 31))) bR))))))⟩
structure l5(g:G)(d:Nat):Prop where
 ex:∃(s:Nat) (p b r:Int) (xs:List Int),g[d]?=some (.lst [.ref s,.int p,.int b,.int r])/\g[s]?=some (.lst (xs.map .int))/\s<d/\0<=p/\0<=b/\0<=r/\r<2147483647
structure Gr(d:Nat)(g g':G):Prop where
 len:g.length<=g'.length
 old:∀i,i≠d->i<g.length->g'[i]?=g[i]?
theorem Gr.refl(d:Nat)(g:G):Gr d g g:=⟨ai _,λ_ _ _=>rfl⟩
theorem Gr.trans{d:Nat}{g g1 g2:G}(a:Gr d g g1)(b:Gr d g1 g2):Gr d g g2:=⟨aD a.len b.len,λi h1 h2=>(b.old i h1 (au h2 a.len)).trans (a.old i h1 h2)⟩
theorem Gr.set(d:Nat)(g:G)(o:O):Gr d g (g.set d o):=⟨by simp,λi h1 h2=>aO (dg h1)⟩
theorem Gr.snoc(d:Nat)(g:G)(o:O):Gr d g (g++[o]):=⟨by simp,λi h1 h2=>aK h2⟩
theorem Gr.at{d:Nat}(h:Gr d g g'){i:Nat}(hi:i≠d)(e:g[i]?=some o):g'[i]?=some o:=(h.old i hi (ax.mp e).1).trans e
theorem F8{i:Nat}(h:g[i]?=some o):i<g.length:=(ax.mp h).1
theorem l5.lt{d:Nat}(h:l5 g d):d<g.length:=by
 obtain⟨_,_,_,_,_,e,_⟩:=h.ex;exact F8 e
theorem l5.snoc{d:Nat}(h:l5 g d)(o:O):l5 (g++[o]) d:=by
 obtain⟨s,p,b,r,xs,e1,e2,q⟩:=h.ex;exact⟨s,p,b,r,xs,by rw[aK (F8 e1)];exact e1,by rw[aK (F8 e2)];exact e2,q⟩
def u7:MS->MS
 |.seq _ b=>b
 |x=>x
theorem Mc{j:Int}(h1:-(2 ^ 64)<i)(h2:i<2 ^ 64):pF i j:=.inl ⟨h1,h2⟩
theorem Y1{j:Int}(h1:-(2 ^ 64)<j)(h2:j<2 ^ 64):pF i j:=.inr ⟨h1,h2⟩
theorem VS{P:fe}{d:Nat}{N:Ends}{c2:Option D}(hN:N.rt=Q)(D0:l5 g d)(hn:0<n)(kD:n<1073741824)(h:∀r g',0<=r->r<n->l5 g' d->Gr d g g'->Q (.int r) g'):wpS P (u7 P2.body) N [some (.ref d),some (.int n),c2,none,none] g E:=by
 obtain⟨s,p,b,r,xs,e1,e2,nk,hp,hb,hr,yj⟩:=D0.ex;have eA:=F8 e1;subst hN;dsimp[P2,u7];walk_at "w2";refine if2 (λc=>?_) (λc=>?_)
 ·walk_at "w2";refine M7 hn ?_;walk_at "w2";refine Ej ⟨hn,kD⟩ ?_;walk_at "w2";refine L9 e1 (by rfl) ?_;walk_at "w2";refine h _ _ (iA _ ()) (fY _ hn) ⟨s,p,b / n,r,xs,?_,?_,nk,hp,Int.ediv_nonneg hb (),hr,yj⟩ (Gr.set d g _)
  ·rw[aR eA];rfl
  ·rw[aO (bY nk)];exact e2
 ·walk_at "w2";have Cn:-(2 ^ 64)<r/\r<2 ^ 64:=⟨by omega,by omega⟩
  refine qL (Mc Cn.1 Cn.2) ?_;refine M7 ∅ ?_;refine qL (Y1 ∅ ∅) ?_;walk_at "w2";refine qL (Y1 ∅ ∅) ?_;walk_at "w2";refine M7 ∅ ?_;walk_at "w2";refine L9 e1 (by rfl) ?_;generalize vq:(r*r % 2147483629*5+r*16811+2531011) % 2147483647=r';have q0:0<=r':=by rw[<- vq];exact iA _ ∅
  have q1:r'<2147483647:=by rw[<- vq];exact fY _ ∅
  have Lr:(g.set d (.lst [.ref s,.int p,.int b,.int r']))[d]?=some (.lst [.ref s,.int p,.int b,.int r']):=aR eA;show wpS P _ _ _ (g.set d (.lst [.ref s,.int p,.int b,.int r'])) E;walk_at "w2";refine Ej ⟨by decide,by decide⟩ ?_;walk_at "w2";refine M7 ∅ ?_;refine qL (Y1 ∅ ∅) ?_;walk_at "w2";refine M7 hn ?_;refine h _ _ (iA _ ()) (fY _ hn) ⟨s,p,b,r',xs,Lr,?_,nk,hp,hb,q0,q1⟩ (Gr.set d g _);rw[aO (bY nk)];exact e2
theorem l6{T:Nat->Option bN}(hT:T 4=some P2){d:Nat}(D0:l5 g d)(hn:0<n)(kD:n<1073741824)(h:∀r g',0<=r->r<n->l5 g' d->Gr d g g'->Q (.int r) g'):d4 T (k+1) 4 [.ref d,.int n] g Q E:=by
 obtain⟨s,p,b,r,xs,e1,e2,nk,hp,hb,hr,yj⟩:=D0.ex;have eA:=F8 e1;refine call_of hT rfl ?_;have tail:∀(g':G) (c2:Option D),l5 g' d->Gr d g g'->wpS (d4 T k) (u7 P2.body) ⟨λ_ g'=>Q .bA g',Q,λ_ _=>False,λ_ _=>False⟩ [some (.ref d),some (.int n),c2,none,none] g' E :=
  λg' c2 D1 gr=>VS rfl D1 hn kD λr g2 a b c e=>h r g2 a b c (gr.trans e)
 dsimp[P2,d7,List.replicate];walk_at "w2";refine if2 (λc=>?_) (λc=>?_)
 ·walk_at "w2";refine if2 (λc'=>?_) (λc'=>?_)
  ·walk_at "w2";have lz:p.toNat<xs.length:=by
    rw[av] at c';omega
   have ea:iQ (xs.map D.int) p=some (.int xs[p.toNat]):=by
    have:=S0 (xs:=xs.map D.int) (by rw[aP,az lz];rfl)
    rwa [show((p.toNat:Nat):Int)=p by omega] at this
   refine L5 (b9 e2) ea ?_;generalize xs[p.toNat]=cell;walk_at "w2";refine L9 e1 (by rfl) ?_;have f1:(g.set d (.lst [.ref s,.int (p+1),.int b,.int r]))[d]?=some (.lst [.ref s,.int (p+1),.int b,.int r]):=aR eA;walk_at "w2";refine L9 f1 (by rfl) ?_;rw[rm];have f2:(g.set d (.lst [.ref s,.int (p+1),.int 0,.int r]))[d]?=some (.lst [.ref s,.int (p+1),.int 0,.int r]):=aR eA;show wpS (d4 T k) _ _ _ (g.set d (.lst [.ref s,.int (p+1),.int 0,.int r])) E;walk_at "w2";refine if2 (λc2=>?_) (λc2=>?_)
   ·walk_at "w2";refine L9 f2 (by rfl) ?_;rw[rm];refine tail _ _ ⟨s,p+1,cell,r,xs,aR eA,by rw[aO (bY nk)];exact e2,nk,by omega,?_,hr,yj⟩ (Gr.set d g _);have Dx:(0:Int)<=10 ^ (18:Int).toNat:=by decide
    omega
   ·walk_at "w2";refine qL (Y1 ∅ ∅) ?_;walk_at "w2";refine M7 ∅ ?_;refine qL (Y1 ∅ ∅) ?_;walk_at "w2";refine M7 ∅ ?_;walk_at "w2";refine L9 f2 (by rfl) ?_;rw[rm];exact tail _ _ ⟨s,p+1,0,_,xs,aR eA,by rw[aO (bY nk)];exact e2,nk,by omega,by decide,iA _ ∅,fY _ ∅⟩ (Gr.set d g _)
  ·exact tail _ _ D0 (Gr.refl _ _)
 ·exact tail _ _ D0 (Gr.refl _ _)
def P4:bN:=⟨1,1,(eu (.eG (cQ .isin ba (.lit (.ty "int"))) (.dW (cQ .isin ba (.lit (.ty "bool"))))))⟩
def K2:bN:=⟨3,3,(eu (.eG (hU 38 ba) (.chain .LtE .LtE bR ba dJ)))⟩
structure NF(T:Nat->Option bN):Prop where
 nf:T 1=some K2
 is:T 38=some P4
def F4:bN:=⟨1,3,(fZ 1 (bV 0) (za (.one 2) (.iX ba) (gj (.dW (.gb (vc 1 dJ bR (bV 7)))) (eu (.lit (.bl false))) (jI (.set 1 (cQ (.bin .Add) dJ (bV 1))))) (eu (.lit (.bl true)))))⟩
def vZ:bN:=⟨1,1,(eu (.prim .lst (Jh (fc .list (cQ (.jC false true) ba (bV 63))) (bV 0) (bV 0) (bV 29))))⟩
def ue:bN:=⟨1,1,(eu (.eG (cQ .isin ba (.lit (.ty "int"))) (.dW (cQ .isin ba (.lit (.ty "bool"))))))⟩
def B1:bN:=⟨2,2,(gj (fh .Is bR (.lit .bA)) (eu (cQ (.cmp .Is) ba (.lit .bA))) (gj (.gb (cQ .isin bR (.lit (.ty "bool")))) (eu (.eG (cQ .isin ba (.lit (.ty "bool"))) (cQ (.cmp .Eq) ba bR))) (gj (.gb (cQ .isin bR (.lit (.ty "int")))) (eu (.eG (hU 6 ba) (cQ (.cmp .Eq) ba bR))) (gj (.gb (cQ .isin bR (.lit (.ty "str")))) (eu (.eG (cQ .isin ba (.lit (.ty "str"))) (cQ (.cmp .Eq) ba bR))) (gj (.iW (fh .NotEq (cQ .isin bR (.lit (.ty "tuple"))) (cQ .isin ba (.lit (.ty "tuple")))) (fh .NotEq (cQ .isin bR (.lit (.ty "list"))) (cQ .isin ba (.lit (.ty "list"))))) (eu (.lit (.bl false))) (gj (fh .NotEq (fc .len ba) (fc .len bR)) (eu (.lit (.bl false))) (eu (fc .all (.comp [1,0] 4 (.one 3) (.gL (fc .len bR)) .no (ir 7 (fk bR dE) (fk ba dE)))))))))))⟩
def M0:bN:=⟨2,2,(eu (fc .tuple (.comp [0,1] 4 (.one 3) (.gL (bV 8)) (fh .Eq (ir 4 ba bR) (bV 0)) dE)))⟩
theorem E8{g:G}{n:Nat}:∀ms:List Int,(ms.map D.int).mapM (rd g n)=some (ms.map PyData.int)
 |[]=>rfl
 |m::r=>by
  rw[aG,eO,E8 r];cases n<;>rfl
theorem lay_ints:∀ms:List Int,PyData.canLayAll0 (ms.map PyData.int)=true
 |[]=>by rfl
 |m::r=>by simp[PyData.canLayAll0,PyData.canLay0,lay_ints r]
theorem FY:∀ms ns:List Int,PyData.eqvAll (ms.map PyData.int) (ns.map PyData.int)=decide (ms=ns)
 |[],[]=>by rfl
 |[],_::_=>by rfl
 |_::_,[]=>by rfl
 |m::r,n::q=>by
  simp only[List.map_cons,PyData.eqvAll,PyData.eqv,FY r q];by_cases h:m=n
  ·subst h;simp
  ·simp[h]
theorem Vj{a b:Nat}{ns:List Int}{k:Bool->Prop}(ha:c8 g a=some (ms.map .int))(hb:c8 g b=some (ns.map .int))(h:k (decide (ms=ns))):qv g (.ref a) (.ref b) k:=by
 refine⟨_,.inr (.inr (.inr ⟨.list (ms.map .int),.list (ns.map .int),?_,?_,?_,?_,rfl⟩)),?_⟩
 ·simp only[rd];rw[ha];dsimp only;rw[E8];rfl
 ·simp only[rd];rw[hb];dsimp only;rw[E8];rfl
 ·simp[PyData.canLay0,lay_ints]
 ·simp[PyData.canLay0,lay_ints]
 ·simp only[PyData.eqv,FY];exact h
section
variable{T:Nat->Option bN}{d:Nat}
theorem TV(h1:NF T)(h:Q (.bl true) g):d4 T (k+1) 38 [.int i] g Q E:=by
 refine call_of h1.is rfl ?_;dsimp[P4,d7,List.replicate];walk_at "w2";refine gf (b:=true) ∅ rfl ?_;walk_at "w2";refine gf ∅ rfl ?_;walk_at "w2";exact h
theorem w5(h1:NF T){l m:Int}(h:Q (.bl (decide (l<=i)&&decide (i<=m))) g):d4 T (k+2) 1 [.int i,.int l,.int m] g Q E:=by
 refine call_of h1.nf rfl ?_;dsimp[K2,d7,List.replicate];walk_at "w2";refine TV h1 ?_;walk_at "w2";refine if2 (λc=>?_) (λc=>?_)
 ·rw[bh c] at h;walk_at "w2";exact h
 ·rw[bt c] at h;exact h
def gm:Int->List Int->Bool
 |_,[]=>true
 |l,x::r=>(decide (l<=x)&&decide (x<=7))&&gm (x+1) r
theorem C9(h1:NF T)(h2:T 2=some F4)(h:Q (.bl (gm 0 ms)) g):d4 T (k+3) 2 [.tup (ms.map .int)] g Q E:=by
 refine call_of h2 rfl ?_;refine IF (d9 T _) (JU (d9 T _) ?_);walk_at "w2";refine⟨_,rfl,_,λi U g'=>g'=g/\∃(l:Int) (z:Option D),U=[some (.tup (ms.map .int)),some (.int l),z]/\gm 0 ms=gm l (ms.drop i),λ_ _ _ _=>F7,⟨rfl,0,none,rfl,rfl⟩,λi x U g' hx p=>?_,λU g' p=>?_⟩
 ·obtain⟨rfl,l,z,rfl,e⟩:=p;rw[aP] at hx;cases em:ms[i]? with
  |none=>rw[em] at hx;cases hx
  |some m =>
   rw[em] at hx;cases hx;have hi:=(ax.mp em).1;have ed:ms.drop i=m::ms.drop (i+1):=by
    rw[cS hi]
    congr 1
    exact(ax.mp em).2
   rw[ed] at e;simp only[gm] at e;show wpS _ _ _ _ _ _;walk_at "w2";refine w5 h1 ?_;walk_at "w2";cases hc:(decide (l<=m)&&decide (m<=7)) with
   |true =>
    rw[hc,Bool.true_and] at e;walk_at "w2";exact⟨rfl,m+1,some (.int m),rfl,e⟩
   |false =>
    rw[hc,Bool.false_and] at e;rw[e] at h;exact h
 ·obtain⟨rfl,l,z,rfl,e⟩:=p;rw[ig (by simp)] at e;rw[e] at h;exact h
theorem Pq(h3:T 3=some vZ){a:Nat}{ns:List Int}(hg:g[a]?=some (.nC (ns.map .int)))(h:∀d g',l5 g' d->g.length<=d->(∀i,i<g.length->g'[i]?=g[i]?)->Q (.ref d) g'):d4 T (k+1) 3 [.ref a] g Q E:=by
 refine call_of h3 rfl ?_;dsimp[vZ,d7,List.replicate];walk_at "w2";refine GL (Vt hg) ?_;refine SI (l:=cut (ns.map D.int) none (some 63)) (b9 (by simp)) ?_;walk_at "w2";have ec:cut (ns.map D.int) none (some 63)=(cut ns none (some 63)).map D.int:=by
  unfold cut;simp[List.map_take,List.map_drop]
 refine h _ _ ⟨g.length+1,0,0,29,cut ns none (some 63),?_,?_,?_,by decide,by decide,by decide,by decide⟩ (by simp) (λi hi=>?_)
 ·simp
 ·rw[<- ec];simp
 ·simp
 ·simp[List.getElem?_append,hi,Nat.lt_of_lt_of_le hi (by omega:g.length<=g.length+1),Nat.lt_of_lt_of_le hi (by omega:g.length<=g.length+1+1)]
end
theorem vT:∀{ms:List Int} {l:Int},ms.Pairwise (· < ·)->(∀m∈ms,l<=m/\m<=7)->gm l ms=true
 |[],_,_,_=>rfl
 |m::r,l,hp,h=>by
  obtain⟨h1,h2⟩:=eh.mp hp;have hm:=h m (by simp);simp only[gm];rw[bh hm.1,bh hm.2,vT h2 λx hx=>⟨by have:=h1 x hx;omega,(h x (by simp[hx])).2⟩]
  rfl
theorem O4{α:Type}{l:List α}{r:Int}(h0:0<=r)(h1:r<l.length):∃v,iQ l r=some v/\v∈l:=by
 have hi:r.toNat<l.length:=by omega
 refine⟨l[r.toNat],?_,fg hi⟩;have:=S0 (az hi)
 rwa [show((r.toNat:Nat):Int)=r by omega] at this
section
variable{T:Nat->Option bN}{d:Nat}
theorem Hq(h7:T 7=some B1){a b:Bool}(h:Q (.bl (a==b)) g):d4 T (k+1) 7 [.bl a,.bl b] g Q E:=by
 refine call_of h7 rfl ?_;dsimp[B1,d7,List.replicate];walk_at "w2";walk_at "w2";refine gf (c:="bool") (b:=true) ∅ rfl ?_;walk_at "w2";refine gf (c:="bool") (b:=true) ∅ rfl ?_;walk_at "w2";exact h
theorem U6(h4:T 4=some P2)(h9:T 9=some M0)(D0:l5 g d)(hn:0<n)(kD:n<1073741824)(h:∀(ms:List Int) g',ms.Pairwise (· < ·)->(∀m∈ms,0<=m/\m<=7)->ms.length<=8->l5 g' d->Gr d g g'->Q (.tup (ms.map .int)) g'):d4 T (k+2) 9 [.ref d,.int n] g Q E:=by
 refine call_of h9 rfl ?_;dsimp[M0,d7,List.replicate];walk_at "w2";refine WT (d9 T _) ?_;walk_at "w2";refine ⟨8,rfl,by decide,λi ys U g'=>∃ ms:List Int,ys=ms.map .int/\ms.length <= i/\ms.Pairwise (· < ·)/\(∀ m ∈ ms,0 <= m/\m < i)/\(∃ z w,U=[some (.ref d),some (.int n),z,w])/\l5 g' d/\Gr d g g',
  ⟨[],rfl,by simp,List.Pairwise.nil,by simp,⟨none,none,rfl⟩,D0,Gr.refl _ _⟩,λi ys U g' p=>?_,λi ys U g' hi p=>?_,λys U g' p=>?_⟩
 ·obtain⟨ms,rfl,hl,_⟩:=p;simpa using hl
 ·obtain⟨ms,rfl,hl,hp,hr,⟨z,w,rfl⟩,D1,G1⟩:=p;show dD _ _ _ _ _ _;walk_at "w2";refine l6 h4 D1 hn kD λr g2 _ _ D2 G2=>?_;walk_at "w2";refine if2 (λc=>?_) (λc=>?_)
  ·walk_at "w2";refine⟨ms++[(i:Int)],by simp,by simp;omega,?_,?_,⟨_,_,rfl⟩,D2,G1.trans G2⟩
   ·rw[aH];refine⟨hp,by simp,λa ha b hb=>?_⟩;have:=hr a ha;simp at hb;omega
   ·intro m hm;rcases aX.mp hm with z|z
    ·have:=hr m z;omega
    ·simp at z;omega
  ·exact⟨ms,rfl,by omega,hp,λm hm=>by have:=hr m hm;omega,⟨_,_,rfl⟩,D2,G1.trans G2⟩
 ·obtain⟨ms,rfl,hl,hp,hr,_,D1,G1⟩:=p;refine Bm (b9 (l:=ms.map .int) (by simp)) ?_;exact h ms _ hp (λm hm=>by have:=hr m hm;omega) hl (D1.snoc _) (G1.trans (Gr.snoc _ _ _))
end
def k7:bN:=⟨1,8,(pz (.mr (.many [1,2,3,4,5]) ba) (fZ 6 (.eG (vc 1 bR (bV 1) (bV 99)) (hU 2 dJ)) (fZ 7 (.eG (vc 1 dE (bV 1) (bV 99)) (hU 2 eW)) (eu (.eG sL (.eG xP (vc 1 jG (bV 0) (bV 9999))))))))⟩
structure n4 where
 lo:Int
 lm:List Int
 up:Int
 um:List Int
 yr:Int
def n4.d(c:n4):D:=.tup [.int c.lo,.tup (c.lm.map .int),.int c.up,.tup (c.um.map .int),.int c.yr]
def j9(c:n4):Bool:=((decide (1<=c.lo)&&decide (c.lo<=99))&&gm 0 c.lm)&&(((decide (1<=c.up)&&decide (c.up<=99))&&gm 0 c.um)&&(decide (0<=c.yr)&&decide (c.yr<=9999)))
section
variable{T:Nat->Option bN}{d:Nat}
theorem TU(h1:NF T)(h2:T 2=some F4)(qm:T 12=some k7)(h:Q (.bl (j9 c)) g):d4 T (k+4) 12 [c.d] g Q E:=by
 refine call_of qm rfl ?_;dsimp[k7,d7,List.replicate,n4.d];walk_at "w3";refine w5 h1 ?_;have s1:∀b:Bool,b=((decide (1<=c.lo)&&decide (c.lo<=99))&&gm 0 c.lm)->wpS (d4 T (k+3)) (u7 (u7 k7.body)) ⟨λ_ g'=>Q .bA g',Q,λ_ _=>False,λ_ _=>False⟩ [some c.d,some (.int c.lo),some (.tup (c.lm.map .int)),some (.int c.up),some (.tup (c.um.map .int)),some (.int c.yr),some (.bl b),none] g E:=by
  intro b hb;dsimp[k7,u7];walk_at "w3";refine w5 h1 ?_;have s2:∀b':Bool,b'=((decide (1<=c.up)&&decide (c.up<=99))&&gm 0 c.um)->wpS (d4 T (k+3)) (u7 (u7 (u7 k7.body))) ⟨λ_ g'=>Q .bA g',Q,λ_ _=>False,λ_ _=>False⟩ [some c.d,some (.int c.lo),some (.tup (c.lm.map .int)),some (.int c.up),some (.tup (c.um.map .int)),some (.int c.yr),some (.bl b),some (.bl b')] g E:=by
   intro b' js;dsimp[k7,u7];have e:j9 c=(b&&(b'&&(decide (0<=c.yr)&&decide (c.yr<=9999)))):=by unfold j9;rw[hb,js]
   rw[e] at h;walk_at "w3";cases b
   ·exact O2 h
   ·refine kT ?_;walk_at "w3";cases b'
    ·exact O2 h
    ·refine kT ?_;walk_at "w3";exact w5 h1 h
  refine N1 ?_;cases hc:(decide (1<=c.up)&&decide (c.up<=99)) with
  |false=>exact O2 (s2 false (by rw[hc];rfl))
  |true =>
   refine kT ?_;walk_at "w1";walk_at "w1";walk_at "w1";walk_at "w1";exact C9 h1 h2 (s2 _ (by rw[hc];rfl))
 refine N1 ?_;cases hc:(decide (1<=c.lo)&&decide (c.lo<=99)) with
 |false=>exact O2 (s1 false (by rw[hc];rfl))
 |true =>
  refine kT ?_;walk_at "w1";walk_at "w1";walk_at "w1";walk_at "w1";exact C9 h1 h2 (s1 _ (by rw[hc];rfl))
end
theorem j2:(g++[o])[g.length]?=some o:=by simp
theorem get_set{i:Nat}{o':O}(h:g[i]?=some o):(g.set i o')[i]?=some o':=aR (F8 h)
theorem Fp{i j:Nat}{o':O}(h:g[i]?=some o)(hn:j≠i):(g.set j o')[i]?=some o:=by rw[aO hn];exact h
def T6:bN:=⟨1,1,(jI (.ifs (.dW (.gb (hU 12 ba))) (jI (.raise "BadCoin" (kl (eI "it is no coin")))) .pass))⟩
structure Ex(g g':G):Prop where
 len:g.length<=g'.length
 old:∀i,i<g.length->g'[i]?=g[i]?
theorem Ex.refl(g:G):Ex g g:=⟨ai _,λ_ _=>rfl⟩
theorem Ex.trans{g g1 g2:G}(a:Ex g g1)(b:Ex g1 g2):Ex g g2:=⟨aD a.len b.len,λi h=>(b.old i (au h a.len)).trans (a.old i h)⟩
theorem Ex.snoc(g:G)(o:O):Ex g (g++[o]):=⟨by simp,λi h=>aK h⟩
theorem Ex.at(h:Ex g g'){i:Nat}(e:g[i]?=some o):g'[i]?=some o:=(h.old i (F8 e)).trans e
theorem Ex.gr(h:Ex g g')(d:Nat):Gr d g g':=⟨h.len,λi _ h2=>h.old i h2⟩
theorem Ex.draw{d:Nat}(h:Ex g g')(D0:l5 g d):l5 g' d:=by
 obtain⟨s,p,b,r,xs,e1,e2,q⟩:=D0.ex;exact⟨s,p,b,r,xs,h.at e1,h.at e2,q⟩
inductive v5(g:G):Nat->D->D->Prop
 |bA {n:Nat}:v5 g n .bA .bA
 |bl {n:Nat} (b:Bool):v5 g n (.bl b) (.bl b)
 |int {n:Nat} (i:Int):v5 g n (.int i) (.int i)
 |str {n:Nat} (x:Str):v5 g n (.str x) (.str x)
 |tup {n:Nat} {l m:List D} (hl:l.length=m.length) (h:∀(i:Nat) x y,l[i]?=some x->m[i]?=some y->v5 g n x y) (hz:m.length<=1000):v5 g (n+1) (.tup l) (.tup m)
 |lst {n a b:Nat} {l m:List D} (ha:g[a]?=some (.lst l)) (hb:g[b]?=some (.lst m)) (hl:l.length=m.length) (h:∀(i:Nat) x y,l[i]?=some x->m[i]?=some y->v5 g n x y) (hz:m.length<=1000):v5 g (n+1) (.ref a) (.ref b)
theorem v5.ex(e:Ex g g'){n:Nat}{x y:D}(h:v5 g n x y):v5 g' n x y:=by
 induction h with
 |bA=>exact .bA
 |bl b=>exact .bl b
 |int i=>exact .int i
 |str x=>exact .str x
 |tup hl h hz ih=>exact .tup hl ih hz
 |lst ha hb hl h hz ih=>exact .lst (e.at ha) (e.at hb) hl ih hz
section
variable{T:Nat->Option bN}
theorem Gz(h6:T 6=some ue)(h:Q (.bl true) g):d4 T (k+1) 6 [.int i] g Q E:=by
 refine call_of h6 rfl ?_;dsimp[ue,d7,List.replicate];left;refine gf (b:=true) ∅ rfl ?_;left;refine gf ∅ rfl ?_;left;exact h
def OW:MS:=match B1.body with
 |.seq _ (.seq _ (.seq _ (.seq _ (.seq _ b))))=>b
 |x=>x
theorem X6(h6:T 6=some ue)(h7:T 7=some B1):∀(n:Nat) {k:Nat} {g:G} {x y:D} {Q:KD} {E:KX},v5 g n x y->(∀g',Ex g g'->Q (.bl true) g')->d4 T (k+n+2) 7 [x,y] g Q E:=by
 have rR:∀(n:Nat),(∀{k:Nat} {g:G} {x y:D} {Q:KD} {E:KX},v5 g n x y->(∀g',Ex g g'->Q (.bl true) g')->d4 T (k+n+2) 7 [x,y] g Q E) ->
   ∀{k:Nat} {g:G} {x y:D} {l m:List D} {Q:KD} {E:KX},(∀g',Ex g g'->B4 g' x=some l)->(∀g',Ex g g'->B4 g' y=some m)->l.length=m.length->m.length<=1000->(∀(i:Nat) x y,l[i]?=some x->m[i]?=some y->v5 g n x y)->(∀g',Ex g g'->Q (.bl true) g') ->
   wpS (d4 T (k+n+2)) OW ⟨λ_ g'=>Q .bA g',Q,λ_ _=>False,λ_ _=>False⟩ [some x,some y] g E:=by
  intro n ih k g x y l m Q E hx hy hl hz hs hQ;have len:∀(z:D) (l:List D) (g':G) (Q':KD),B4 g' z=some l->Q' (.int l.length) g'->cN .len [z] g' Q':=λz l g' Q' e q=>⟨_,_,⟨rfl,.inl ⟨z,l,rfl,e,rfl⟩⟩,q⟩
  refine C7 (Bo (Br (uq (uo (w_var rfl (len _ _ _ _ (hx g (Ex.refl g)) ?_))))));refine uo (w_var rfl (len _ _ _ _ (hy g (Ex.refl g)) ?_));refine AU ?_;rw[hl,bh rfl];left;refine K5 (d9 T _) (QV (d9 T _) ?_);refine uo (w_var rfl (len _ _ _ _ (hy g (Ex.refl g)) ?_));refine⟨_,rfl,by omega,by omega,A7 0 m.length,λi ys U g'=>∃z w,ys=List.replicate i (.bl true)/\U=[some y,some x,z,w]/\Ex g g',by rw[Z6];exact hz,λi ys U g' p=>⟨F7,?_⟩,⟨none,none,rfl,rfl,Ex.refl g⟩,λi z ys U g' hz p=>?_,λys U g' p=>?_⟩
  ·obtain⟨z,w,rfl,_⟩:=p;simp
  ·obtain⟨z,w,rfl,rfl,e⟩:=p;obtain⟨hi,rfl⟩:=Al hz;have h1:l[i]?=some l[i]:=az ();have h2:=az hi;have a1:iQ l (0+(i:Int))=some l[i]:=by rw[Int.zero_add];exact S0 h1
   have a2:iQ m (0+(i:Int))=some m[i]:=by rw[Int.zero_add];exact S0 h2
   show dD _ _ _ _ _ _;refine Bq (kT (zV (wC (uq (w_var rfl (w_var rfl ⟨_,_,⟨rfl,.inl ⟨_,l,_,rfl,hx g' e,a1⟩⟩,?_⟩))))));refine wC (uq (w_var rfl (w_var rfl ⟨_,_,⟨rfl,.inl ⟨_,m,_,rfl,hy g' e,a2⟩⟩,?_⟩)));refine Bp (ih ((hs i _ _ h1 h2).ex e) λg2 e2=>?_);exact⟨_,_,by rw[List.replicate_succ'],rfl,e.trans e2⟩
  ·obtain⟨z,w,rfl,rfl,e⟩:=p;refine AR (b9 j2) ?_ (hQ _ (e.trans (Ex.snoc _ _)));have:List.replicate (A7 0 m.length).length (D.bl true)=(List.replicate (A7 0 m.length).length true).map D.bl:=by simp
   rw[this,Y9];simp
 intro n
 induction n with
 |zero =>
  intro k g x y Q E h hQ;have h0:=hQ g (Ex.refl g);cases h with
  |bA =>
   refine call_of h7 rfl ?_;dsimp[B1,d7,List.replicate];left;exact h0
  |bl b=>exact Hq h7 (by simpa using h0)
  |int i =>
   refine call_of h7 rfl ?_;dsimp[B1,d7,List.replicate];left;refine gf (c:="bool") (b:=false) ∅ rfl ?_;left;refine gf (c:="int") (b:=true) ∅ rfl ?_;left;refine Gz h6 ?_;left;simpa using h0
  |str x =>
   refine call_of h7 rfl ?_;dsimp[B1,d7,List.replicate];left;refine gf (c:="bool") (b:=false) ∅ rfl ?_;left;refine gf (c:="int") (b:=false) ∅ rfl ?_;left;refine gf (c:="str") (b:=true) ∅ rfl ?_;left;refine gf (c:="str") (b:=true) ∅ rfl ?_;left;simpa using h0
 |succ n ih =>
  intro k g x y Q E h hQ;have h0:=hQ g (Ex.refl g);cases h with
  |bA =>
   refine call_of h7 rfl ?_;dsimp[B1,d7,List.replicate];left;exact h0
  |bl b=>exact Hq h7 (by simpa using h0)
  |int i =>
   refine call_of h7 rfl ?_;dsimp[B1,d7,List.replicate];left;refine gf (c:="bool") (b:=false) ∅ rfl ?_;left;refine gf (c:="int") (b:=true) ∅ rfl ?_;left;refine Gz h6 ?_;left;simpa using h0
  |str x =>
   refine call_of h7 rfl ?_;dsimp[B1,d7,List.replicate];left;refine gf (c:="bool") (b:=false) ∅ rfl ?_;left;refine gf (c:="int") (b:=false) ∅ rfl ?_;left;refine gf (c:="str") (b:=true) ∅ rfl ?_;left;refine gf (c:="str") (b:=true) ∅ rfl ?_;left;simpa using h0
  |@tup _ l m hl hs hz =>
   refine call_of h7 rfl ?_;have body:=rR n ih (k:=k) (x:=.tup l) (y:=.tup m) (E:=E) (λ_ _=>rfl) (λ_ _=>rfl) hl hz hs hQ;dsimp[B1,d7,List.replicate];left;refine gf (c:="bool") (b:=false) ∅ rfl ?_;left;refine gf (c:="int") (b:=false) ∅ rfl ?_;left;refine gf (c:="str") (b:=false) ∅ rfl ?_;left;refine gf (c:="tuple") (b:=true) ∅ rfl ?_;left;refine gf (c:="tuple") (b:=true) ∅ rfl ?_;left;refine fN rfl ?_;left;refine gf (c:="list") (b:=false) ∅ rfl ?_;left;refine gf (c:="list") (b:=false) ∅ rfl ?_;left;refine fN rfl (wD ?_);exact body
  |@lst _ a b l m ha hb hl hs hz =>
   refine call_of h7 rfl ?_;have body:=rR n ih (k:=k) (x:=.ref a) (y:=.ref b) (E:=E) (λg' e=>b9 (e.at ha)) (λg' e=>b9 (e.at hb)) hl hz hs hQ;have ta:∀c,pI g (.ref a) c=some (c=="list"):=λc=>by simp only[pI,ha]
   have tb:∀c,pI g (.ref b) c=some (c=="list"):=λc=>by simp only[pI,hb]
   dsimp[B1,d7,List.replicate];left;refine gf (c:="bool") (b:=false) ∅ (tb _) ?_;left;refine gf (c:="int") (b:=false) ∅ (tb _) ?_;left;refine gf (c:="str") (b:=false) ∅ (tb _) ?_;left;refine gf (c:="tuple") (b:=false) ∅ (tb _) ?_;left;refine gf (c:="tuple") (b:=false) ∅ (ta _) ?_;left;refine fN rfl ?_;left;refine gf (c:="list") (b:=true) ∅ (tb _) ?_;left;refine gf (c:="list") (b:=true) ∅ (ta _) ?_;left;refine fN rfl (wD ?_);exact body
end
def CB(c:n4):Prop:=c.lm.length<=8/\c.um.length<=8
def T2:bN:=⟨1,1,(gj (.dW (.gb ba)) (eu (eI "-")) (eu (.et .join (eI "") (kl (.comp [] 2 (.one 1) (.iX ba) .no (fc .str bR))))))⟩
def W8:bN:=⟨1,1,(gj (fh .Eq ba (bV 0)) (eu (eI "-")) (eu (fc .str ba)))⟩
def X4:bN:=⟨1,6,(Jf (hU 39 ba) (pz (.mr (.many [1,2,3,4,5]) ba) (eu (.prim .kY (.cons (fc .fv bR) (.cons (eI "/") (Ca (fc .fv (hU 69 dJ)) (eI " ") (fc .fv dE) (eI "/") (fc .fv (hU 69 eW)) (eI " ") (fc .fv (hU 70 jG)))))))))⟩
def T4:bN:=⟨1,5,(fZ 1 (cQ (.bin .Add) (bV 1) (ir 4 ba (fk (cQ .tup (bV 9) (bV 99)) (ir 4 ba (bV 2))))) (fZ 2 (cQ (.bin .Add) (bV 1) (ir 4 ba (fk (cQ .tup (bV 9) (bV 99)) (ir 4 ba (bV 2))))) (fZ 3 (fk (.prim .tup (Jg (bV 2) (bV 5) (bV 20))) (ir 4 ba (bV 3))) (fZ 4 (fk (.prim .lst (Cd (bV 0) (bV 1) (bV 9999) (bV 7) (cQ (.bin .Add) (bV 1) (ir 4 ba (bV 9999))))) (ir 4 ba (bV 5))) (eu (.prim .tup (Cd bR (ir 9 ba dE) dJ (ir 9 ba dE) eW)))))))⟩
def T5:bN:=⟨1,5,(fZ 1 (.prim .lst .nil) (za (.many [2,3]) (.iX (cQ .lst (cQ .tup (fk ba (bV 0)) (fk ba (bV 1))) (cQ .tup (fk ba (bV 2)) (fk ba (bV 3))))) (fZ 4 (.et .join (eI "") (kl (.comp [] 2 (.one 1) (.iX dE) .no (fk (eI "01234567") bR)))) (jI (.expr (.et .append bR (kl (cQ (.bin .Add) (cQ (.bin .Add) (fc .str dJ) (eI "/")) (.ite (fh .NotEq eW (eI "")) eW (eI "-")))))))) (eu (.et .join (eI " ") (kl (cQ (.bin .Add) bR (fc .lst (.ite (fh .Gt (fk ba (bV 4)) (bV 0)) (fc .str (fk ba (bV 4))) (eI "-")))))))))⟩
def jo(i:Int):Str:=⟨#[48+i.toNat]⟩
theorem IE(h:0<=i/\i<=7):i=0\/i=1\/i=2\/i=3\/i=4\/i=5\/i=6\/i=7:=by omega
theorem OE(h:0<=i/\i<=7):Str.ofString (toString i)=jo i:=by
 rcases IE h with rfl|rfl|rfl|rfl|rfl|rfl|rfl|rfl<;>decide +kernel
theorem Mf(h:0<=i/\i<=7):iQ (Str.ofString "01234567").cps.toList i=some (48+i.toNat):=by
 rcases IE h with rfl|rfl|rfl|rfl|rfl|rfl|rfl|rfl<;>decide +kernel
theorem u5(h:0<=i/\i<=9999):i.natAbs.log2<1920:=by
 by_cases z:i.natAbs=0
 ·rw[z];decide
 ·exact(Nat.log2_lt z).mpr (au (show i.natAbs<2 ^ 14 by omega) (xh ∅ ∅))
def T9(ms:List Int):Str:=Builtin.Str.glued "" (ms.map jo)
def i8(ms:List Int):Str:=if ms=[] then "-" else T9 ms
def j6(y:Int):Str:=if y=0 then "-" else Str.ofString (toString y)
def n8(c:n4):Str:=Str.ofString (toString c.lo)++("/"++(i8 c.lm++(" "++(Str.ofString (toString c.up)++("/"++(i8 c.um++(" "++(j6 c.yr++Str.empty))))))))
theorem Au:∀(ms:List Int) (n:Nat),(ms.map jo).foldl (λn y=>n+y.length+("":Str).length) n=n+ms.length:=by
 intro ms
 induction ms with
 |nil=>intro n;rfl
 |cons x r ih =>
  intro n;rw[aG,fB,ih];show n+1+0+r.length=n+(r.length+1);omega
theorem Xw(ms:List Int):(T9 ms).length<=ms.length:=by
 have h1:=Fq "" (ms.map jo);have h2:=Au ms 0;unfold T9;unfold A6 at h1;rw[h2] at h1;omega
theorem Vn(sep:Str):∀(ps:List Str) (acc:Array Nat),acc.size<=(ps.foldl (λacc p=>acc++sep.cps++p.cps) acc).size:=by
 intro ps
 induction ps with
 |nil=>intro acc;exact ai _
 |cons p ps ih =>
  intro acc;rw[fB];refine aD ?_ (ih _);rw[cq,cq];omega
theorem OG{x:Int}{r:List Int}:T9 (x::r)≠"":=λz=>by
 have h1:=Vn "" (r.map jo) (jo x).cps;have h2:(T9 (x::r)).length=((r.map jo).foldl (λacc p=>acc++("":Str).cps++p.cps) (jo x).cps).size:=rfl;rw[z] at h2;have h3:("":Str).length=0:=by decide +kernel
 have h4:(jo x).cps.size=1:=rfl;omega
theorem S1(c:n4):Builtin.Str.glued " " [Str.ofString (toString c.lo)++"/"++i8 c.lm,Str.ofString (toString c.up)++"/"++i8 c.um,j6 c.yr]=n8 c:=by
 have e:∀a b:Str,a++b=⟨a.cps++b.cps⟩:=λ_ _=>rfl;unfold n8 Builtin.Str.glued;simp only[e,List.drop_succ_cons,List.drop_zero,List.foldl_cons,List.foldl_nil,List.headD_cons,Array.append_assoc]
 congr 1
theorem zA:∀{ms:List Int} {l:Int},0<=l->gm l ms=true->∀m∈ms,0<=m/\m<=7:=by
 intro ms
 induction ms with
 |nil=>intro l _ _ m hm;simp at hm
 |cons x r ih =>
  intro l hl h m hm;simp only[gm,Bool.and_eq_true,decide_eq_true_eq] at h;rcases aB.mp hm with rfl|hm
  ·omega
  ·exact ih () h.2 m hm
structure qS(T:Nat->Option bN):Prop where
 nf:NF T
 h2:T 2=some F4
 h4:T 4=some P2
 h9:T 9=some M0
 qm:T 12=some k7
 Lb:T 39=some T6
 La:T 69=some T2
 K':T 70=some W8
 KZ:T 71=some X4
 KY:T 72=some T4
 KW:T 73=some T5
section
variable{T:Nat->Option bN}{d:Nat}
theorem U7(hT:qS T)(hm:∀m∈ms,0<=m/\m<=7)(hz:ms.length<=8)(h:∀g',Ex g g'->Q (.str (i8 ms)) g'):d4 T (k+1) 69 [.tup (ms.map .int)] g Q E:=by
 refine call_of hT.La rfl ?_;dsimp[T2,d7,List.replicate];left;refine LL ?_;cases ms with
 |nil =>
  refine ly rfl ?_;left;exact h g (Ex.refl g)
 |cons x r =>
  refine fN rfl ?_;left;refine⟨wu,?_⟩;left;refine FV (d9 T _) ?_;left;refine⟨_,rfl,by simp at hz ⊢;omega,λi ys U g'=>∃z w,ys=((((x::r).take i).map jo).map D.str)/\U=[z,w]/\g'=g,⟨none,none,rfl,rfl,rfl⟩,λi ys U g' p=>?_,λi y ys U g' hy p=>?_,λys U g' p=>?_⟩
  ·obtain⟨z,w,rfl,rfl,rfl⟩:=p;simp;omega
  ·obtain⟨z,w,rfl,rfl,rfl⟩:=p;rw[aP,af] at hy;obtain⟨s,hs,rfl⟩:=hy;have vp:=hm s (dG hs);refine B3 ?_
   try show dD _ _ _ _ _ _
   left;refine uB (u5 ⟨vp.1,by omega⟩) ?_;rw[OE vp];refine⟨_,_,?_,rfl,rfl⟩;rw[mQ,hs];simp
  ·obtain⟨z,w,rfl,rfl,rfl⟩:=p;rw[av,dh];left;refine wt (ys:=(x::r).map jo) (b9 j2) ?_ ?_
   ·have:=Au (x::r) 0;unfold A6;rw[this];simp at hz ⊢;omega
   ·left;have:=h _ (Ex.snoc g' (.lst (((x::r).map jo).map D.str)));unfold i8 T9 at this;rw[aA (by simp)] at this;exact this
theorem Ue(hT:qS T){y:Int}(hy:0<=y/\y<=9999)(h:Q (.str (j6 y)) g):d4 T (k+1) 70 [.int y] g Q E:=by
 refine call_of hT.K' rfl ?_;dsimp[W8,d7,List.replicate];left;unfold j6 at h;refine if2 (λc=>?_) (λc=>?_)
 ·left;rw[aF c] at h;exact h
 ·left;rw[aA c] at h;exact uB (u5 hy) h
theorem FN(h:j9 c=true):(1<=c.lo/\c.lo<=99)/\(∀m∈c.lm,0<=m/\m<=7)/\(1<=c.up/\c.up<=99)/\(∀m∈c.um,0<=m/\m<=7)/\(0<=c.yr/\c.yr<=9999):=by
 unfold j9 at h;simp only[Bool.and_eq_true,decide_eq_true_eq] at h;exact⟨h.1.1,zA ∅ h.1.2,h.2.1.1,zA ∅ h.2.1.2,h.2.2⟩
theorem y9(hz:ms.length<=8):(i8 ms).length<=8:=by
 unfold i8;split
 ·decide +kernel
 ·exact aD (Xw ms) hz
theorem FG{y:Int}(hy:0<=y/\y<=9999):(j6 y).length<=1921:=by
 unfold j6;split
 ·decide +kernel
 ·rw[iD];exact om (k:=1920) ∅ (u5 hy)
theorem DS(hi:i.natAbs.log2<1920)(h:Q (.str (Str.ofString (toString i))) g):cN .fv [.int i] g Q:=⟨_,_,⟨rfl,.inl ⟨i,rfl,hi,rfl⟩⟩,h⟩
theorem BH{x:Str}(hx:x.length<=2000)(h:Q (.str x) g):cN .fv [.str x] g Q:=⟨_,_,⟨rfl,.inr ⟨x,rfl,hx,rfl⟩⟩,h⟩
theorem TN(hT:qS T)(hB:CB c)(h1:j9 c=false->E ⟨"BadCoin"⟩ g)(h:j9 c=true->∀g',Ex g g'->Q (.str (n8 c)) g'):d4 T (k+6) 71 [c.d] g Q E:=by
 refine call_of hT.KZ rfl ?_;dsimp[X4,d7,List.replicate];left;refine call_of hT.Lb rfl ?_;dsimp[T6,d7,List.replicate];left;refine TU (k:=k) hT.nf hT.h2 hT.qm ?_;left;cases e:j9 c with
 |false =>
  refine qD ?_;left;exact h1 e
 |true =>
  obtain⟨f1,f2,f3,f4,f5⟩:=FN e;left;unfold n4.d;left;refine DS (u5 ⟨by omega,by omega⟩) ?_;left;refine U7 (k:=k+4) hT f2 hB.1 λg1 e1=>?_;left;refine BH (aD (y9 hB.1) ∅) ?_;left;refine DS (u5 ⟨by omega,by omega⟩) ?_;left;refine U7 (k:=k+4) hT f4 hB.2 λg2 e2=>?_;left;refine BH (aD (y9 hB.2) ∅) ?_;left;refine Ue (k:=k+4) hT f5 ?_;left;refine BH (aD (FG f5) ∅) ?_;left;refine Nh rfl ?_;exact h e _ (e1.trans e2)
theorem str_len(hi:0<=i/\i<=9999):(Str.ofString (toString i)).length<=1921:=by rw[iD];exact om (k:=1920) ∅ (u5 hi)
theorem F0(a b:Str):(a++b).length=a.length+b.length:=cq
theorem O7:("/":Str).length=1:=by decide +kernel
theorem V':(" ":Str).length=1:=by decide +kernel
noncomputable abbrev pV(c:n4):List D:=[.tup [.int c.lo,.tup (c.lm.map .int)],.tup [.int c.up,.tup (c.um.map .int)]]
noncomputable abbrev oy(c:n4):List Str:=[Str.ofString (toString c.lo)++"/"++i8 c.lm,Str.ofString (toString c.up)++"/"++i8 c.um]
theorem U8(hT:qS T)(hB:CB c)(e:j9 c=true)(h:∀g',Ex g g'->Q (.str (n8 c)) g'):d4 T (k+1) 73 [c.d] g Q E:=by
 obtain⟨f1,f2,f3,f4,f5⟩:=FN e;refine call_of hT.KW rfl ?_;dsimp[T5,d7,List.replicate];unfold n4.d;left;have e1:Ex g (g++[O.lst []]):=Ex.snoc _ _;have hw:(g++[O.lst []])[g.length]?=some (.lst []):=j2;generalize YV:g++[O.lst []]=g1 at *;have YT:g.length<g1.length:=F8 hw;refine IF (d9 T _) (CK (d9 T _) ?_);left;have e2:Ex g1 (g1++[O.lst (pV c)]):=Ex.snoc _ _;have yy:(g1++[O.lst (pV c)])[g1.length]?=some (.lst (pV c)):=j2;have Kc:=e2.at hw;generalize g1++[O.lst (pV c)]=g2 at *;refine ⟨g1.length,_,rfl,b9 yy,pV c,λi U g'=>∃ z2 z3 z4,U=[some (.tup [.int c.lo,.tup (c.lm.map .int),.int c.up,.tup (c.um.map .int),.int c.yr]),some (.ref g.length),z2,z3,z4] /\
   g'[g1.length]?=some (.lst (pV c))/\g'[g.length]?=some (.lst (((oy c).take i).map D.str))/\g.length<=g'.length/\(∀j,j<g.length->g'[j]?=g[j]?),
  λi U g' p=>?_,⟨_,_,_,rfl,yy,Kc,aD e1.len e2.len,λj hj=>(e1.trans e2).old j hj⟩,λi y U g' hy p=>?_,λU g' p=>?_⟩
 ·obtain⟨_,_,_,rfl,hl,_⟩:=p;exact Gs (b9 hl)
 ·obtain⟨z2,z3,z4,rfl,hl,oQ,hlen,hold⟩:=p;obtain⟨tQ,ms,wd,rfl,hd,nU,De,CP⟩:∃(tQ:Int) (ms:List Int) (wd:Str),y=.tup [.int tQ,.tup (ms.map .int)]/\(0<=tQ/\tQ<=9999)/\(∀m∈ms,0<=m/\m<=7)/\ms.length<=8 /\
    ((oy c).take (i+1))=((oy c).take i)++[Str.ofString (toString tQ)++"/"++i8 ms]:=by
   match i,hy with
   |0,hy=>cases hy;exact⟨c.lo,c.lm,"",rfl,⟨by omega,by omega⟩,f2,hB.1,rfl⟩
   |1,hy=>cases hy;exact⟨c.up,c.um,"",rfl,⟨by omega,by omega⟩,f4,hB.2,rfl⟩
   |i+2,hy=>simp at hy
  refine J6 (by with_unfolding_all rfl) ?_
  try show wpS _ _ _ _ _ _
  left;refine⟨wu,?_⟩;left;refine FV (d9 T _) ?_;left;refine⟨_,rfl,by simp;omega,λi ys U g3=>∃z w,ys=(((ms.take i).map jo).map D.str)/\U=[z,w]/\g3=g',⟨none,none,rfl,rfl,rfl⟩,λi ys U g3 p=>?_,λi y ys U g3 hy p=>?_,λys U g3 p=>?_⟩
  ·obtain⟨z,w,rfl,rfl,rfl⟩:=p;simp;omega
  ·obtain⟨z,w,rfl,rfl,rfl⟩:=p;rw[aP,af] at hy;obtain⟨s,hs,rfl⟩:=hy;have vp:=nU s (dG hs);refine B3 ?_
   try show dD _ _ _ _ _ _
   left;refine BI (by decide +kernel) (Mf vp) ?_;refine⟨_,_,?_,rfl,rfl⟩;rw[mQ,hs];simp[jo]
  ·obtain⟨z,w,rfl,rfl,rfl⟩:=p;rw[av,dh];left;refine wt (ys:=ms.map jo) (b9 j2) ?_ ?_
   ·have:=Au ms 0;unfold A6;rw[this];omega
   have x4:Ex g3 (g3++[O.lst ((ms.map jo).map D.str)]):=Ex.snoc _ _;generalize g3++[O.lst ((ms.map jo).map D.str)]=g4 at *;left;refine⟨zG (x4.at oQ),?_⟩;left;refine uB (u5 hd) ?_;left;refine K4 (by rw[O7];have:=str_len hd;omega) ?_;left;cases ms with
   |nil =>
    refine fN (by decide +kernel) ?_;left;rw[show(Str.ofString "-")=i8 [] from rfl];refine K4 (by rw[F0,O7];have:=str_len hd;have:=y9 De;omega) ?_;left;refine Il (x4.at oQ) (by simp;omega) ?_;left;refine⟨_,_,_,rfl,Fp (x4.at hl) (),?_,by rw[dY];exact aD hlen x4.len,λj hj=>?_⟩
    ·rw[CP,bu];exact get_set (x4.at oQ)
    ·rw[aO ()];exact(x4.old j ()).trans (hold j hj)
   |cons s r =>
    refine ly (by rw[bt (show ¬(Builtin.Str.glued (Str.ofString "") ((s::r).map jo)=Str.ofString "") from OG)];rfl) ?_;left;rw[show Builtin.Str.glued "" ((s::r).map jo)=i8 (s::r) by unfold i8 T9;rw[aA (by simp)]];refine K4 (by rw[F0,O7];have:=str_len hd;have:=y9 De;omega) ?_;left;refine Il (x4.at oQ) (by simp;omega) ?_;left;refine⟨_,_,_,rfl,Fp (x4.at hl) (),?_,by rw[dY];exact aD hlen x4.len,λj hj=>?_⟩
    ·rw[CP,bu];exact get_set (x4.at oQ)
    ·rw[aO ()];exact(x4.old j ()).trans (hold j hj)
 ·obtain⟨z2,z3,z4,rfl,hl,oQ,hlen,hold⟩:=p;have ye:g'[g.length]?=some (.lst ((oy c).map D.str)):=oQ;have DC:Ex g g':=⟨hlen,hold⟩
  try show wpS _ _ _ _ _ _
  left;refine⟨wu,?_⟩;left;have fin:∀(y:Str) (Q':KD),y=j6 c.yr->(∀g4,Ex g' g4->Q' (.str (n8 c)) g4)->cN (.bin .Add) [.ref g.length,.ref g'.length] (g'++[O.lst [.str y]]) (λx g1=>cN .join [.str " ",x] g1 Q'):=by
   intro y Q' hy q;have x4:Ex g' (g'++[O.lst [.str y]]):=Ex.snoc _ _;refine Sf (x4.at ye) j2 (by simp) ?_;refine wt (ys:=oy c++[y]) (by rw[bu];exact b9 j2) ?_ ?_
   ·have h1:=y9 hB.1;have h2:=y9 hB.2;have h3:=FG f5;have h4:=str_len (i:=c.lo) ⟨by omega,by omega⟩;have h5:=str_len (i:=c.up) ⟨by omega,by omega⟩;unfold A6;simp only[oy,List.cons_append,List.nil_append,List.foldl_cons,List.foldl_nil,F0,O7,V',hy];omega
   ·rw[show oy c++[y]=[Str.ofString (toString c.lo)++"/"++i8 c.lm,Str.ofString (toString c.up)++"/"++i8 c.um,j6 c.yr] by rw[hy];rfl,S1];exact q _ (x4.trans (Ex.snoc _ _))
  refine if2 (λcy=>?_) (λcy=>?_)
  ·left;refine uB (u5 f5) ?_;left;exact fin _ _ (by unfold j6;rw[aA ()]) λg4 e4=>h _ (DC.trans e4)
  ·left;exact fin _ _ (by unfold j6;rw[aF ()]) λg4 e4=>h _ (DC.trans e4)
theorem Ui(hT:qS T)(D0:l5 g d)(h:∀(c:n4) g',CB c->j9 c=true->l5 g' d->Gr d g g'->Q c.d g'):d4 T (k+3) 72 [.ref d] g Q E:=by
 refine call_of hT.KY rfl ?_;dsimp[T4,d7,List.replicate];left;refine l6 hT.h4 D0 ∅ ∅ λr1 g1 a1 b1 D1 G1=>?_;left;have pick:∀{r:Int},0<=r->r<2->∃n:Int,iQ [D.int 9,.int 99] r=some (.int n)/\0<n/\n<1073741824/\n<=99:=λ{r} h0 h1=>by
  obtain⟨v,hv,hm⟩:=O4 (l:=[D.int 9,.int 99]) h0 (by simpa using h1);simp only[List.mem_cons,List.mem_nil_iff,or_false] at hm;rcases hm with rfl|rfl
  ·exact⟨9,hv,by decide,by decide,by decide⟩
  ·exact⟨99,hv,by decide,by decide,by decide⟩
 obtain⟨n1,sX,p1,q1,u1⟩:=pick a1 b1;refine pJ sX ?_;left;refine l6 hT.h4 D1 p1 q1 λr2 g2 a2 b2 D2 G2=>?_;left;refine l6 hT.h4 D2 ∅ ∅ λr3 g3 a3 b3 D3 G3=>?_;left;obtain⟨n3,nu,p3,q3,u3⟩:=pick a3 b3;refine pJ nu ?_;left;refine l6 hT.h4 D3 p3 q3 λr4 g4 a4 b4 D4 G4=>?_;left;refine l6 hT.h4 D4 ∅ ∅ λr5 g5 a5 b5 D5 G5=>?_;left;obtain⟨n5,Kh,p5,q5⟩:∃n:Int,iQ [D.int 2,.int 5,.int 20] r5=some (.int n)/\0<n/\n<1073741824:=by
  obtain⟨v,hv,hm⟩:=O4 (l:=[D.int 2,.int 5,.int 20]) a5 (by simpa using b5);simp only[List.mem_cons,List.mem_nil_iff,or_false] at hm;rcases hm with rfl|rfl|rfl
  ·exact⟨2,hv,by decide,by decide⟩
  ·exact⟨5,hv,by decide,by decide⟩
  ·exact⟨20,hv,by decide,by decide⟩
 refine pJ Kh ?_;left;refine l6 hT.h4 D5 ∅ ∅ λr6 g6 a6 b6 D6 G6=>?_;left;refine l6 hT.h4 (D6.snoc _) ∅ ∅ λr7 g7 a7 b7 D7 G7=>?_;have e7:=G7.at (i:=g6.length) (by have:=D6.lt;omega) (o:=.lst ([0,1,9999,7,1+r6].map D.int)) (by simp);obtain⟨v,hv,hm⟩:=O4 (l:=[0,1,9999,7,1+r6].map D.int) a7 (by simpa using b7);obtain⟨yr,CM,rfl⟩:=aW.mp hm;refine L5 (b9 e7) hv ?_;left;refine U6 (k:=k) hT.h4 hT.h9 D7 p5 q5 λlm g8 w8 m8 l8 D8 G8=>?_;left;refine U6 (k:=k) hT.h4 hT.h9 D8 p5 q5 λum g9 w9 m9 u8 D9 G9=>?_;left;have gy:0<=yr/\yr<=9999:=by
  simp only[List.mem_cons,List.mem_nil_iff,or_false] at CM;rcases CM with rfl|rfl|rfl|rfl|rfl<;>omega
 exact h ⟨_,lm,_,um,yr⟩ g9 ⟨l8,u8⟩ (by
  unfold j9;rw[vT w8 m8,vT w9 m9];simp only[Bool.and_eq_true,decide_eq_true_eq,Bool.and_true];exact ⟨⟨by omega,by omega⟩,⟨by omega,by omega⟩,gy⟩) D9 (G1.trans (G2.trans (G3.trans (G4.trans (G5.trans (G6.trans ((Gr.snoc _ _ _).trans (G7.trans (G8.trans G9)))))))))
end
end M
namespace M
open PySem L2
variable{i:Int}
def jn(c:Nat):List (List Nat)->List Nat
 |[]=>[]
 |[a]=>a
 |a::r=>a++c::jn c r
theorem E9{c:Nat}{a b:List Nat}{r:List (List Nat)}:jn c (a::b::r)=a++c::jn c (b::r):=rfl
theorem wH{c:Nat}:∀{a b:List Nat} {x y:List Nat},c∉a->c∉b->a++c::x=b++c::y->a=b/\x=y
 |[],[],x,y,_,_,h=>by simpa using h
 |[],d::b,x,y,_,hb,h=>by
  have:=(oq (show c::x=d::(b++c::y) from h)).1;exact absurd (by simp[this]) hb
 |d::a,[],x,y,ha,_,h=>by
  have:=(oq (show d::(a++c::x)=c::y from h)).1;exact absurd (by simp[this]) ha
 |d::a,e::b,x,y,ha,hb,h=>by
  obtain⟨h1,h2⟩:=oq (show d::(a++c::x)=e::(b++c::y) from h);obtain⟨h3,h4⟩:=wH (λz=>ha (by simp[z])) (λz=>hb (by simp[z])) h2;exact⟨by rw[h1,h3],h4⟩
theorem Gu{c:Nat}:∀{l m:List (List Nat)},l≠[]->m≠[]->(∀a∈l,c∉a)->(∀a∈m,c∉a)->jn c l=jn c m->l=m
 |[],_,h,_,_,_,_=>absurd rfl h
 |_::_,[],_,h,_,_,_=>absurd rfl h
 |[a],[b],_,_,_,_,h=>by rw[show a=b from h]
 |[a],b::d::r,_,_,h1,_,h=>absurd (by rw[show a=_ from h,E9];simp) (h1 a (by simp))
 |b::d::r,[a],_,_,_,h2,h=>absurd (by rw[<- show _=a from h,E9];simp) (h2 a (by simp))
 |a::b::r,d::e::s,_,_,h1,h2,h=>by
  rw[E9,E9] at h;obtain⟨h3,h4⟩:=wH (h1 a (by simp)) (h2 d (by simp)) h;rw[h3,Gu (by simp) (by simp) (λx hx=>h1 x (by simp[hx])) (λx hx=>h2 x (by simp[hx])) h4]
theorem R6{c:Nat}:∀ys:List Str,(PySem.Str.join ⟨#[c]⟩ ys).cps.toList=jn c (ys.map λy=>y.cps.toList)
 |[]=>rfl
 |[y]=>rfl
 |y::z::r=>by
  have ih:=R6 (c:=c) (z::r);show(y++(⟨#[c]⟩:Str)++PySem.Str.join ⟨#[c]⟩ (z::r)).cps.toList=_;rw[dU,dU,aI,aI,ih,aG,aG,aG,E9,bw]
  rfl
theorem Tz{c:Nat}{ys:List Str}(gM:ys≠[])(hf:∀y∈ys,c∉y.cps.toList):Txt.split (Builtin.Str.glued ⟨#[c]⟩ ys) ⟨#[c]⟩=ys:=by
 have h1:=lG (Builtin.Str.glued ⟨#[c]⟩ ys) ⟨#[c]⟩;have h2:=StrLaws.split_free (Builtin.Str.glued ⟨#[c]⟩ ys) c;have h3:Txt.split (Builtin.Str.glued ⟨#[c]⟩ ys) ⟨#[c]⟩≠[]:=λz=>by
  have:=rh (Builtin.Str.glued ⟨#[c]⟩ ys) ⟨#[c]⟩;rw[z] at this;exact absurd this ∅
 generalize Txt.split (Builtin.Str.glued ⟨#[c]⟩ ys) ⟨#[c]⟩=zs at *;rw[fH] at h1;have e:jn c (zs.map λy=>y.cps.toList)=jn c (ys.map λy=>y.cps.toList):=by rw[<- R6,<- R6,h1]
 have:=Gu (by simpa using h3) (by simpa using gM) (λa ha=>by obtain⟨y,hy,rfl⟩:=aW.mp ha;exact h2 y hy) (λa ha=>by obtain⟨y,hy,rfl⟩:=aW.mp ha;exact hf y hy) e;exact List.map_inj_right (λx y h=>by cases x;cases y;simpa using h) |>.mp this
theorem P0(m:Nat):(Str.ofString (toString ((m:Nat):Int))).cps.toList=(Nat.toDigits 10 m).map Char.toNat:=PySem.W.KIN.signs_num m
theorem Hx(h:0<=i):∀c∈(Str.ofString (toString i)).cps.toList,48<=c/\c<=57:=by
 obtain⟨m,rfl⟩:=gZ h;intro c hc;rw[P0] at hc;obtain⟨d,hd,rfl⟩:=aW.mp hc;have:=Nat.isDigit_of_mem_toDigits (b:=10) ∅ ∅ hd;simp only[Char.isDigit,Bool.and_eq_true,decide_eq_true_eq] at this;exact⟨this.1,this.2⟩
theorem Pj(h:0<=i/\i<=9999):1<=(Str.ofString (toString i)).length/\(Str.ofString (toString i)).length<=4:=by
 obtain⟨m,rfl⟩:=gZ h.1;have e:(Str.ofString (toString ((m:Nat):Int))).length=(Nat.toDigits 10 m).length:=by
  show(Str.ofString (toString ((m:Nat):Int))).cps.size=_;rw[<- bS,P0,av]
 rw[e];exact⟨Nat.length_toDigits_pos,(mP ∅ ∅).mpr ()⟩
theorem Ax(h:0<=i/\i<=9999):PySem.intText? (Str.ofString (toString i))=some i:=PySem.W.KIN.num_reads h.1 ()
end M
namespace M
open PySem L2 PySem.NumText
variable{x w:Str}{d i:Int}{c:n4}{ms:List Int}{u v:List Nat}{ws:List Str}{B:Nat}
noncomputable abbrev As(x:Str):Prop:=x.cps.all (·<128)=true
theorem As.mem(h:As x):∀c∈x.cps.toList,c<128:=by
 have h:=h;unfold As at h;rw[<- Zt,bD] at h;exact λc hc=>aN (h c hc)
theorem G0(h:∀c∈x.cps.toList,c<128):As x:=by
 unfold As;rw[<- Zt,bD];exact λc hc=>bh (h c hc)
theorem t6{y:Str}(h:x.cps.toList=y.cps.toList):x=y:=by
 cases x;cases y;simpa using h
theorem i5(x:Str):x.length=x.cps.toList.length:=bS.symm
noncomputable abbrev v7(i:Int):Str:=Str.ofString (toString i)
theorem Fl(u:List Nat)(c:Nat):digitsVal (u++[c])=digitsVal u*10+(c-48):=by unfold digitsVal;rw[Yv];rfl
theorem zm{d:Nat}(h:d<10):(Nat.digitChar d).toNat=48+d:=by
 obtain rfl|rfl|rfl|rfl|rfl|rfl|rfl|rfl|rfl|rfl:d=0\/d=1\/d=2\/d=3\/d=4\/d=5\/d=6\/d=7\/d=8\/d=9:=by omega
 all_goals rfl
theorem HJ{l:List Nat}(h:l≠[]):∃u c,l=u++[c]:=⟨l.dropLast,l.getLast h,(List.dropLast_concat_getLast h).symm⟩
theorem Hh:∀(n:Nat) (l:List Nat),l.length=n->AllDigits l->digitsVal l<10 ^ n
 |0,l,hl,_=>by rw[pQ.mp hl];decide
 |n+1,l,hl,h=>by
  obtain⟨u,c,rfl⟩:=HJ (l:=l) (by intro z;rw[z] at hl;cases hl);have ih:=Hh n u (by simpa using hl) λd hd=>h d (by simp[hd]);have hc:=h c (by simp);rw[Fl,Nat.pow_succ];omega
theorem Gk:∀(n:Nat) (l:List Nat),l.length=n->AllDigits l->l≠[]->l.head?≠some 48->0<digitsVal l/\(Nat.toDigits 10 (digitsVal l)).map Char.toNat=l
 |0,l,hl,_,h1,_=>absurd (pQ.mp hl) h1
 |n+1,l,hl,h,h1,h2=>by
  obtain⟨u,c,rfl⟩:=HJ h1;have hc:=h c (by simp);rw[Fl];by_cases hu:u=[]
  ·subst hu;have:c≠48:=λz=>h2 (by rw[z];rfl);have e:digitsVal []*10+(c-48)=c-48:=by show 0*10+(c-48)=_;omega
   rw[e,pP ()];refine⟨by omega,?_⟩;rw[jy,zm ()];show[_]=[c]
   congr 1
   omega
  ·obtain ⟨p,ih⟩:=Gk n u (by simpa using hl) (λd hd=>h d (by simp [hd])) hu (by
    intro z;refine h2 ?_;cases u with
    |nil=>exact absurd rfl hu
    | cons a r=>exact z)
   refine⟨by omega,?_⟩;rw[Nat.mul_comm,<- Nat.toDigits_append_toDigits ∅ p (),bu,ih,pP (),jy,zm ()]
   congr 2
   omega
theorem Mj:∀m:Nat,0<m->((Nat.toDigits 10 m).map Char.toNat).head?≠some 48:=by
 intro m
 induction m using Nat.strongRecOn with
 |_ m ih =>
  intro h z;rw[Nat.toDigits_eq_if ∅] at z;split at z
  ·rw[jy,zm ‹_›] at z;have:=aq z;omega
  ·rw[bu] at z;have gM:(Nat.toDigits 10 (m / 10)).map Char.toNat≠[]:=by simp[Nat.toDigits_ne_nil]
   have CI:=ih (m / 10) () ();cases q:(Nat.toDigits 10 (m / 10)).map Char.toNat with
   |nil=>exact gM q
   |cons a r=>rw[q] at z CI;exact CI z
theorem MQ(h:AllDigits x.cps.toList)(h1:x.cps.toList≠[])(h2:x.cps.toList.head?≠some 48)(h3:x.length<=4):∃i:Int,(1<=i/\i<=9999)/\x=v7 i:=by
 obtain⟨p,e⟩:=Gk _ _ rfl h h1 h2;refine⟨(digitsVal x.cps.toList:Nat),⟨by omega,?_⟩,t6 (by rw[P0,e])⟩;have:=(mP (b:=10) (k:=4) (n:=digitsVal x.cps.toList) ∅ ∅).mp (by
  have q:=cO List.length e;rw[av] at q;rw[q,<- i5];exact h3)
 omega
theorem MR(h:1<=i):(v7 i).cps.toList.head?≠some 48:=by
 obtain⟨m,rfl⟩:=gZ (by omega:0<=i);rw[P0];exact Mj m ()
theorem Q9(h:0<=i/\i<=9999):1<=(v7 i).length/\(v7 i).length<=4:=Pj h
theorem wx(h:0<=i):AllDigits (v7 i).cps.toList:=Hx h
theorem Hu(h:0<=i/\i<=9999):PySem.intText? (v7 i)=some i:=Ax h
theorem XG(h:AllDigits x.cps.toList)(h1:x.cps.toList≠[])(h2:x.length<=4300):PySem.intText? x=some ((digitsVal x.cps.toList:Nat):Int):=intText_digits h h1 h2
theorem Q8{j:Int}(hi:0<=i/\i<=9999)(hj:0<=j/\j<=9999)(h:v7 i=v7 j):i=j:=by
 have a:=Ax hi;rw[show Str.ofString (toString i)=_ from h,Ax hj] at a;exact(aq a).symm
theorem Q7(h:0<=i){c:Nat}(hc:c<48):c∉(v7 i).cps.toList:=λz=>by have:=Hx h c z;omega
theorem join_nil:∀ys:List Str,(PySem.Str.join "" ys).cps.toList=(ys.map λy=>y.cps.toList).flatten
 |[]=>rfl
 |[y]=>by simp[PySem.Str.join]
 |y::z::r=>by
  have ih:=join_nil (z::r);show(y++("":Str)++PySem.Str.join "" (z::r)).cps.toList=_;rw[dU,dU,aI,aI,ih];show y.cps.toList++[]++_=_;simp
theorem Vk(ms:List Int):(T9 ms).cps.toList=ms.map λm=>48+m.toNat:=by
 unfold T9;rw[fH,join_nil,cI]
 induction ms with
 |nil=>rfl
 |cons m r ih=>rw[aG,List.flatten_cons,ih];rfl
theorem E1(ms:List Int):(i8 ms).cps.toList=if ms=[] then[45] else ms.map λm=>48+m.toNat:=by
 unfold i8;split
 ·rfl
 ·exact Vk ms
theorem EH(h:∀m∈ms,0<=m/\m<=7):∀c∈(i8 ms).cps.toList,c=45\/(48<=c/\c<=55):=by
 rw[E1];intro c hc;split at hc
 ·simp at hc;exact .inl hc
 ·obtain⟨m,hm,rfl⟩:=aW.mp hc;have:=h m hm;exact .inr ()
theorem Ht{ns:List Int}(h:∀m∈ms,0<=m/\m<=7)(h':∀m∈ns,0<=m/\m<=7)(e:i8 ms=i8 ns):ms=ns:=by
 have e:=cO (λx:Str=>x.cps.toList) e;rw[E1,E1] at e;have inj:∀(a b:List Int),(∀m∈a,0<=m/\m<=7)->(∀m∈b,0<=m/\m<=7)->(a.map λm=>48+m.toNat)=(b.map λm=>48+m.toNat)->a=b:=by
  intro a
  induction a with
  |nil=>intro b _ _ z;cases b with
   |nil=>rfl
   |cons _ _=>cases z
  |cons x r ih =>
   intro b ha hb z;cases b with
   |nil=>cases z
   |cons y t =>
    rw[aG,aG] at z;injection z with z1 z2;have p:=ha x (by simp);have q:=hb y (by simp);rw[ih t (λm hm=>ha m (by simp[hm])) (λm hm=>hb m (by simp[hm])) z2]
    congr 1
    omega
 split at e
 ·split at e
  ·rename_i a b;rw[a,b]
  ·rename_i a b;cases ns with
   |nil=>exact absurd rfl b
   |cons y t =>
    rw[aG] at e;injection e with e1 _;omega
 ·split at e
  ·rename_i a b;cases ms with
   |nil=>exact absurd rfl a
   |cons y t =>
    rw[aG] at e;injection e with e1 _;omega
  ·exact inj _ _ h h' e
theorem R7:∀(ms:List Int) (l:Int),0<=l->l<=8->gm l ms=true->(ms.length:Int)<=8-l
 |[],l,h,h8,_=>by simp;omega
 |m::r,l,h,h8,g=>by
  simp only[gm,Bool.and_eq_true,decide_eq_true_eq] at g;have:=R7 r (m+1) () () g.2;rw[bg];omega
theorem Hm:∀(ms:List Int) (l:Int),gm l ms=true->ms.Pairwise (· < ·)/\∀m∈ms,l<=m
 |[],_,_=>⟨.nil,by simp⟩
 |m::r,l,g=>by
  simp only[gm,Bool.and_eq_true,decide_eq_true_eq] at g;obtain⟨p,q⟩:=Hm r (m+1) g.2;exact ⟨.cons (λx hx=>by have:=q x hx;omega) p,λx hx=>by
   rcases aB.mp hx with rfl|hx
   ·omega
   ·have:=q x hx;omega⟩
noncomputable abbrev l4(d:Int)(ms:List Int):Str:=v7 d++"/"++i8 ms
def p6(d:Int)(ms:List Int):Prop:=(1<=d/\d<=99)/\gm 0 ms=true
theorem p6.mk'(h:p6 d ms):(0<=d/\d<=9999)/\∀m∈ms,0<=m/\m<=7:=⟨⟨by have:=h.1;omega,by have:=h.1;omega⟩,zA () h.2⟩
theorem u6(d:Int)(ms:List Int):(l4 d ms).cps.toList=(v7 d).cps.toList++47::(i8 ms).cps.toList:=by
 rw[dU,dU,aI,aI,bw]
 rfl
theorem ES{d':Int}{sD:List Int}(h:p6 d ms)(h':p6 d' sD)(e:l4 d ms=l4 d' sD):d=d'/\ms=sD:=by
 have e:=cO (λx:Str=>x.cps.toList) e;rw[u6,u6] at e;obtain⟨a,b⟩:=wH (Q7 h.mk'.1.1 ∅) (Q7 h'.mk'.1.1 ∅) e;exact⟨Q8 h.mk'.1 h'.mk'.1 (t6 a),Ht h.mk'.2 h'.mk'.2 (t6 b)⟩
theorem A1:j9 c=true↔p6 c.lo c.lm/\p6 c.up c.um/\(0<=c.yr/\c.yr<=9999):=by
 unfold j9 p6;simp only[Bool.and_eq_true,decide_eq_true_eq]
theorem QG{y:Int}(h:0<=y/\y<=9999):32∉(j6 y).cps.toList:=by
 unfold j6;split
 ·decide
 ·exact Q7 h.1 ∅
theorem Fc{y z:Int}(h:0<=y/\y<=9999)(h':0<=z/\z<=9999)(e:j6 y=j6 z):y=z:=by
 have no:∀{i:Int},0<=i->("-":Str)≠v7 i:=λ{i} hi z=>Q7 hi (c:=45) ∅ (by rw[<- z];decide);unfold j6 at e;split at e<;>split at e
 ·omega
 ·exact absurd e (no h'.1)
 ·exact absurd e.symm (no h.1)
 ·exact Q8 h h' e
theorem HH(h:p6 d ms):32∉(l4 d ms).cps.toList:=by
 rw[u6];intro z;rcases aX.mp z with z|z
 ·exact Q7 h.mk'.1.1 ∅ z
 ·rcases aB.mp z with z|z
  ·cases z
  ·rcases EH h.mk'.2 32 z with z|z<;>omega
theorem Bh:(" ":Str)=⟨#[32]⟩:=by decide +kernel
theorem C0(h:j9 c=true):Txt.split (n8 c) " "=[l4 c.lo c.lm,l4 c.up c.um,j6 c.yr]:=by
 obtain⟨a,b,y⟩:=A1.mp h;rw[<- S1,Bh];refine Tz (by simp) λw hw=>?_;simp only[List.mem_cons,List.mem_nil_iff,or_false] at hw;rcases hw with rfl|rfl|rfl
 ·exact HH a
 ·exact HH b
 ·exact QG y
theorem Ey{c':n4}(h:j9 c=true)(h':j9 c'=true)(e:n8 c=n8 c'):c=c':=by
 have s:=C0 h;rw[e,C0 h'] at s;obtain⟨a,b,y⟩:=A1.mp h;obtain⟨a',b',y'⟩:=A1.mp h';injection s with s1 s;injection s with s2 s;injection s with s3 s;obtain⟨q1,q2⟩:=ES a' a s1;obtain⟨q3,q4⟩:=ES b' b s2;have q5:=Fc y' y s3;cases c;cases c';simp only at q1 q2 q3 q4 q5;subst q1;subst q2;subst q3;subst q4;subst q5
 rfl
theorem Ve{t:Str}{w1 w2 w3:Str}(e:Txt.split t " "=[w1,w2,w3])(e1:w1=l4 c.lo c.lm)(e2:w2=l4 c.up c.um)(e3:w3=j6 c.yr):t=n8 c:=by
 have h1:=lG t " ";rw[e,e1,e2,e3,<- fH,S1] at h1;exact h1.symm
theorem Hy(x:Str)(c:Nat):(Builtin.Str.occurrences x ⟨#[c]⟩ 0 x.length 1=[]/\c∉x.cps.toList)\/∃u v r,Builtin.Str.occurrences x ⟨#[c]⟩ 0 x.length 1=u.length::r/\x.cps.toList=u++c::v/\c∉u:=by
 rcases StrLaws.occ_head x ⟨#[c]⟩ 1 ∅ with⟨h,n⟩|⟨i,r,h,a,n⟩
 ·refine .inl ⟨h,λz=>?_⟩;obtain⟨i,hi⟩:=uO.mp z;exact n i ((mK x c i).mpr hi)
 ·have hi:=(mK x c i).mp a;obtain⟨hl,hc⟩:=ax.mp hi;refine .inr ⟨x.cps.toList.take i,x.cps.toList.drop (i+1),r,?_,?_,λz=>?_⟩
  ·rw[h,bC,iz (dw hl)]
  ·rw[<- hc,<- cS hl,bj]
  ·obtain⟨k,hk⟩:=uO.mp z;have vx:k<i:=by
    have:=(ax.mp hk).1;rw[bC] at this;omega
   rw[oo vx] at hk;exact n k vx ((mK x c k).mpr hk)
theorem Gq(x:Str)(c:Nat):(!(Builtin.Str.occurrences x ⟨#[c]⟩ 0 x.length 1).isEmpty)=decide (c∈x.cps.toList):=StrLaws.found_one x c
theorem zz(c:Nat):(!(Builtin.Str.occurrences "0123456789" ⟨#[c]⟩ 0 ("0123456789":Str).length 1).isEmpty)=decide (48<=c/\c<=57):=by
 rw[Gq,show("0123456789":Str).cps.toList=[48,49,50,51,52,53,54,55,56,57] from by decide +kernel];refine Zi.mpr ?_;simp only[List.mem_cons,List.mem_nil_iff,or_false];omega
theorem Qu(c:Nat):(!(Builtin.Str.occurrences "01234567" ⟨#[c]⟩ 0 ("01234567":Str).length 1).isEmpty)=decide (48<=c/\c<=55):=by
 rw[Gq,show("01234567":Str).cps.toList=[48,49,50,51,52,53,54,55] from by decide +kernel];refine Zi.mpr ?_;simp only[List.mem_cons,List.mem_nil_iff,or_false];omega
def nD(c:Nat):Int:=if 48<=c/\c<=57 then(c:Int)-48 else -1
theorem Xv(c:Nat):Txt.find "0123456789" ⟨#[c]⟩=nD c:=by
 unfold nD;split
 ·rename_i h;obtain rfl|rfl|rfl|rfl|rfl|rfl|rfl|rfl|rfl|rfl:c=48\/c=49\/c=50\/c=51\/c=52\/c=53\/c=54\/c=55\/c=56\/c=57:=by omega
  all_goals decide +kernel
 ·rename_i h;have:=zz c;rw[bt h] at this;unfold Txt.find;cases q:Builtin.Str.occurrences "0123456789" ⟨#[c]⟩ 0 ("0123456789":Str).length 1 with
  |nil=>rfl
  |cons a r=>rw[q] at this;cases this
theorem int_sign{c:Nat}(h:48<=c/\c<=57):PySem.intText? ⟨#[c]⟩=some ((c:Int)-48):=by
 rw[intText_digits (x:=⟨#[c]⟩) (λd hd=>by rw[show d=c from by simpa using hd];exact h) (by simp) (by show 1<=4300;decide)];show some ((0*10+(c-48):Nat):Int)=_
 congr 1
 omega
theorem Xy{m:Int}(h:0<=m/\m<=7):nD (48+m.toNat)=m:=by unfold nD;rw[aF ()];omega
theorem Ec:("/":Str)=⟨#[47]⟩:=by decide +kernel
theorem PV(w:Str):(47∉w.cps.toList/\L2.jr w "/"=([w,Str.empty,Str.empty]:List Str))\/∃u v:List Nat,w.cps.toList=u++47::v/\47∉u/\L2.jr w "/"=([⟨u.toArray⟩,"/",⟨v.toArray⟩]:List Str):=by
 rw[Ec];unfold L2.jr;rcases Hy w 47 with⟨h,n⟩|⟨u,v,r,h,e,n⟩
 ·rw[h];exact .inl ⟨n,rfl⟩
 ·rw[h];have a:Builtin.Str.strSub w 0 u.length=⟨u.toArray⟩:=t6 (by rw[StrLaws.strSub_toList,e];simp);have b:Builtin.Str.strSub w (u.length+1) w.length=⟨v.toArray⟩:=by
   refine t6 ?_;rw[StrLaws.strSub_toList,i5,e,List.drop_append,ig (),show u.length+1-u.length=1 by omega];show(v:List Nat).take _=v;refine dy ?_;rw[aS,bg];omega
  refine .inr ⟨u,v,e,n,?_⟩;show[Builtin.Str.strSub w 0 u.length,(⟨#[47]⟩:Str),Builtin.Str.strSub w (u.length+1) w.length]=_;rw[a,b]
theorem Xx(w:Str):(47∉w.cps.toList/\Txt.find w "/"=-1)\/∃u v:List Nat,w.cps.toList=u++47::v/\47∉u/\Txt.find w "/"=(u.length:Int):=by
 rw[Ec];unfold Txt.find;rcases Hy w 47 with⟨h,n⟩|⟨u,v,r,h,e,n⟩
 ·rw[h];exact .inl ⟨n,rfl⟩
 ·rw[h];exact .inr ⟨u,v,e,n,rfl⟩
theorem AB(h:p6 d ms)(hu:47∉u)(e:w.cps.toList=u++47::v)(z:w=l4 d ms):(⟨u.toArray⟩:Str)=v7 d/\(⟨v.toArray⟩:Str)=i8 ms:=by
 rw[z,u6] at e;obtain⟨a,b⟩:=wH (Q7 h.mk'.1.1 ∅) hu e;exact⟨t6 a.symm,t6 b.symm⟩
theorem AD(z:w=l4 d ms):47∈w.cps.toList:=by
 rw[z,u6];simp
theorem zC{c:Nat}:∀{l:List (List Nat)},l≠[]->(jn c l).length+1=(l.map List.length).sum+l.length
 |[],h=>absurd rfl h
 |[a],_=>by simp[jn]
 |a::b::r,_=>by
  have ih:=zC (c:=c) (l:=b::r) (by simp);rw[E9,aS,bg,aG,cK,bg];omega
theorem Gv{c:Nat}:∀{l:List (List Nat)} {a:List Nat},a∈l->∀x∈a,x∈jn c l
 |[b],a,h,x,hx=>by rw[cA] at h;subst h;exact hx
 |b::d::r,a,h,x,hx=>by
  rw[E9];rcases aB.mp h with rfl|h
  ·simp[hx]
  ·have:=Gv (c:=c) h x hx;simp[this]
theorem Ah:∀{l:List Nat} {a:Nat},a∈l->a<=l.sum
 |b::r,a,h=>by
  rw[cK];rcases aB.mp h with rfl|h
  ·omega
  ·have:=Ah h;omega
theorem words_of(t:Str)(ha:As t):Txt.split t " "≠[]/\((Txt.split t " ").map Str.length).sum+(Txt.split t " ").length=t.length+1/\∀w∈Txt.split t " ",As w/\w.length<=t.length:=by
 have h1:=lG t " ";have h3:Txt.split t " "≠[]:=λz=>by
  have:=rh t " ";rw[z] at this;exact absurd this ∅
 generalize Txt.split t " "=ws at *;rw[Bh] at h1;have e:t.cps.toList=jn 32 (ws.map λy=>y.cps.toList):=by rw[<- R6,h1]
 have hl:=zC (c:=32) (l:=ws.map λy=>y.cps.toList) (by simpa using h3);rw[<- e,<- i5,cI,av] at hl;have hs:(ws.map (List.length ∘ λy:Str=>y.cps.toList))=ws.map Str.length:=dQ λy _=>(i5 y).symm;rw[hs] at hl;refine⟨h3,hl.symm,λw hw=>⟨G0 λc hc=>ha.mem c ?_,?_⟩⟩
 ·rw[e];exact Gv (aW.mpr ⟨w,hw,rfl⟩) c hc
 ·have:=Ah (aW.mpr ⟨w,hw,rfl⟩:w.length∈ws.map Str.length);have:1<=ws.length:=BY.mpr h3;omega
theorem three{α:Type}{l:List α}(h:l.length=3):∃a b c,l=[a,b,c]:=by
 rcases l with _|⟨a,_|⟨b,_|⟨c,_|⟨d,r⟩⟩⟩⟩<;>simp at h
 exact⟨a,b,c,rfl⟩
theorem Md(e:w.cps.toList=u++v):L2.E3 w none (some (u.length:Int))=⟨u.toArray⟩:=by
 refine t6 ?_;unfold L2.E3;rw[HT.ER,HT.HF,i5,e];simp
theorem Xt{n:Int}(e:w.cps.toList=u++v)(hn:n=(u.length:Int)):L2.E3 w (some n) none=⟨v.toArray⟩:=by
 subst hn;refine t6 ?_;unfold L2.E3;rw[HT.ER,HT.HF,i5,e];simp
theorem EV{ns:List Int}:ns=u4 ns↔ns.Pairwise (· < ·):=by
 constructor
 ·intro h;have h1:=S5 ns;have h2:(u4 ns).Nodup:=(L8 ns).nodup_iff.mpr (ST.Fx _ _ (by simp));rw[<- h] at h1 h2;exact(h1.and h2).imp λz=>by have:=z.1;have:=z.2;omega
 ·intro h;refine(L2.W6 ((L8 _).trans ?_) (S5 _) (h.imp λz=>by omega)).symm;rw[L2.Z0 (ks:=[]) (by rw[List.nil_append];exact h.imp λz e=>by omega)];exact iT _
def ic(c:Nat):Int:=if 48<=c/\c<=55 then(c:Int)-48 else -1
theorem XT{m:Int}(h:0<=m/\m<=7):ic (48+m.toNat)=m:=by unfold ic;rw[aF ()];omega
theorem OZ(h:∀m∈ms,0<=m/\m<=7)(ne:ms≠[])(e:(⟨v.toArray⟩:Str)=i8 ms):v.map ic=ms:=by
 have e2:=cO (λx:Str=>x.cps.toList) e;simp only[List.toList_toArray] at e2;rw[e2,E1,aA ne,cI];exact(dQ λm hm=>XT (h m hm)).trans (xi _)
theorem XS(hv:v≠[])(h:(-1:Int)∉v.map ic)(hp:v.map ic=u4 (v.map ic)):gm 0 (v.map ic)=true/\(⟨v.toArray⟩:Str)=i8 (v.map ic):=by
 have sp:∀c∈v,48<=c/\c<=55:=λc hc=>by
  by_cases z:48<=c/\c<=55
  ·exact z
  ·exact absurd (aW.mpr ⟨c,hc,by unfold ic;rw[aA z]⟩) h
 refine⟨vT (EV.mp hp) λm hm=>?_,t6 ?_⟩
 ·obtain⟨c,hc,rfl⟩:=aW.mp hm;have:=sp c hc;unfold ic;rw[aF this];omega
 ·rw[E1,aA (by simpa using hv),cI];show v=_;refine((dQ λc hc=>?_).trans (xi _)).symm;have:=sp c hc;show 48+(ic c).toNat=c;unfold ic;rw[aF this];omega
structure WB(ws:List Str)(B:Nat):Prop where
 as:∀w∈ws,As w
 sz:(ws.map Str.length).sum+ws.length<=B
theorem Gw{c:Nat}:∀{l:List (List Nat)} {x:Nat},x∈jn c l->x=c\/∃a∈l,x∈a
 |[b],x,h=>.inr ⟨b,by simp,h⟩
 |b::e::r,x,h=>by
  rw[E9] at h;rcases aX.mp h with h|h
  ·exact .inr ⟨b,by simp,h⟩
  ·rcases aB.mp h with h|h
   ·exact .inl h
   ·rcases Gw h with h|⟨a,ha,h⟩
    ·exact .inl h
    ·exact .inr ⟨a,by simp[ha],h⟩
theorem WB.glued{ws:List Str}{B:Nat}(h:WB ws B):As (Builtin.Str.glued " " ws)/\(Builtin.Str.glued " " ws).length<=B:=by
 have e:(Builtin.Str.glued " " ws).cps.toList=jn 32 (ws.map λy=>y.cps.toList):=by rw[fH,Bh,R6]
 refine⟨G0 λc hc=>?_,?_⟩
 ·rw[e] at hc;rcases Gw hc with rfl|⟨a,ha,hc⟩
  ·decide
  ·obtain⟨w,hw,rfl⟩:=aW.mp ha;exact(h.as w hw).mem c hc
 ·rw[i5,e];cases ws with
  |nil=>exact Nat.zero_le _
  |cons w r =>
   have hl:=zC (c:=32) (l:=(w::r).map λy=>y.cps.toList) (by simp);rw[cI,av] at hl;have hs:((w::r).map (List.length ∘ λy:Str=>y.cps.toList))=(w::r).map Str.length:=dQ λy _=>(i5 y).symm;rw[hs] at hl;have:=h.sz;omega
theorem WB.join(h:WB ws B):A6 " " ws<=B:=by
 unfold A6;rw[StrLaws.foldl_total,show(" ":Str).length=1 from by decide +kernel,show(ws.map λx:Str=>x.length)=ws.map Str.length from rfl];have:=h.sz;omega
theorem WB.up{B':Nat}(h:WB ws B)(hb:B<=B'):WB ws B':=⟨h.as,aD h.sz hb⟩
theorem WB.put(h:WB ws B)(hw:As w)(i:Nat):WB (ws.take i++w::ws.drop i) (B+w.length+1):=by
 refine⟨λx hx=>?_,?_⟩
 ·rcases aX.mp hx with hx|hx
  ·exact h.as x (ft hx)
  ·rcases aB.mp hx with rfl|hx
   ·exact hw
   ·exact h.as x (fu hx)
 ·have e:ws=ws.take i++ws.drop i:=(bj i ws).symm;have:=h.sz;rw[e,bu,List.sum_append,aS] at this;rw[bu,aG,List.sum_append,cK,aS,bg];omega
theorem WB.set{ws:List Str}{B:Nat}(h:WB ws B){w:Str}(hw:As w)(i:Nat):WB (ws.set i w) (B+w.length):=by
 have s:∀(l:List Str) (i:Nat),((l.set i w).map Str.length).sum<=(l.map Str.length).sum+w.length:=by
  intro l
  induction l with
  |nil=>intro i;simp
  |cons a r ih =>
   intro i;cases i with
   |zero=>rw[List.set_cons_zero,aG,aG,cK,cK];omega
   |succ i=>have:=ih i;rw[List.set_cons_succ,aG,aG,cK,cK];omega
 refine⟨λx hx=>?_,?_⟩
 ·rcases List.mem_or_eq_of_mem_set hx with hx|rfl
  ·exact h.as x hx
  ·exact hw
 ·have:=h.sz;have:=s ws i;rw[dY];omega
theorem WB.del(h:WB ws B)(i:Nat):WB (ws.eraseIdx i) B:=by
 have s:∀(l:List Str) (i:Nat),((l.eraseIdx i).map Str.length).sum+(l.eraseIdx i).length<=(l.map Str.length).sum+l.length:=by
  intro l
  induction l with
  |nil=>intro i;simp
  |cons a r ih =>
   intro i;cases i with
   |zero=>rw[List.eraseIdx_cons_zero,aG,cK,bg];omega
   |succ i=>have:=ih i;rw[gY,aG,aG,cK,cK,bg,bg];omega
 exact⟨λx hx=>h.as x (List.mem_of_mem_eraseIdx hx),aD (s ws i) h.sz⟩
theorem Fm{α β:Type}(f:α->β):∀(l:List α) (i:Nat),(l.map f).eraseIdx i=(l.eraseIdx i).map f
 |[],_=>rfl
 |_::_,0=>rfl
 |a::r,i+1=>by rw[aG,gY,gY,Fm f r i,aG]
theorem wJ(h:As x)(lo hi:Option Int):As (L2.E3 x lo hi)/\(L2.E3 x lo hi).length<=x.length:=by
 refine⟨G0 λc hc=>h.mem c ?_,?_⟩
 ·exact fu (ft hc)
 ·rw[i5,i5 x];show((x.cps.toList.drop _).take _).length<=_;rw[bC,kK];omega
theorem wj{y:Str}(hx:As x)(hy:As y):As (x++y):=G0 λc hc=>by
 rw[dU,aI] at hc;exact(aX.mp hc).elim (hx.mem c) (hy.mem c)
theorem OC(h:j9 c=true):As (n8 c)/\(n8 c).length<=40:=by
 obtain⟨a,b,y⟩:=A1.mp h;have side:∀{d:Int} {ms:List Int},p6 d ms->As (l4 d ms)/\(l4 d ms).length<=13:=λ{d ms} q=>by
  have l1:=(Q9 q.mk'.1).2;have l2:=y9 (ms:=ms) (by have:=R7 ms 0 ∅ ∅ q.2;omega);refine⟨G0 λc hc=>?_,?_⟩
  ·rw[u6] at hc;rcases aX.mp hc with hc|hc
   ·have:=wx q.mk'.1.1 c hc;omega
   ·rcases aB.mp hc with rfl|hc
    ·decide
    ·rcases EH q.mk'.2 c hc with hc|hc<;>omega
  ·rw[i5,u6,aS,bg,<- i5,<- i5];omega
 have yr:As (j6 c.yr)/\(j6 c.yr).length<=4:=by
  unfold j6;split
  ·exact⟨by decide +kernel,by decide +kernel⟩
  ·exact⟨G0 λc hc=>by have:=wx y.1 c hc;omega,(Q9 y).2⟩
 have w:WB [l4 c.lo c.lm,l4 c.up c.um,j6 c.yr] 40:=by
  refine⟨λx hx=>?_,?_⟩
  ·simp only[List.mem_cons,List.mem_nil_iff,or_false] at hx;rcases hx with rfl|rfl|rfl
   ·exact(side a).1
   ·exact(side b).1
   ·exact yr.1
  ·have:=(side a).2;have:=(side b).2;have:=yr.2;simp only[List.map_cons,List.map_nil,List.sum_cons,List.sum_nil,List.length_cons,List.length_nil];omega
 have:=w.glued
 rwa [S1] at this
end M
namespace M
open PySem L2
variable{k d a:Nat}{g:G}{Q:KD}{E:KX}{x w t:Str}
local macro_rules|`(tactic|walk_at"w1")=>`(tactic|with_reducible first|refine GV ?_|refine C7 ?_|refine IG ?_|refine S3 ?_|refine GR ?_|refine II ?_|refine HQ ?_|refine oz ?_|refine Bo ?_|refine wD ?_|refine oA ?_|(refine w_var (d:=?_) ?_ ?_;rotate_left;·with_unfolding_all rfl)|refine w_lit ?_|refine uq ?_|refine uo ?_|refine Eg ?_|refine GU ?_|refine HN ?_|refine w_and ?_|refine w_or ?_|refine w_not ?_|refine w_ite ?_|refine zV ?_|refine oB ?_|refine mU ?_|refine Bp ?_|refine wC ?_|refine GW ?_|refine IH ?_|refine GX ?_|refine Bq ?_|refine Br ?_|refine Ei ?_|refine uF ?_|refine ID ?_|refine DO ?_|refine DN ?_|refine DL ?_|refine DJ ?_|refine Er ?_|refine AU ?_|refine Ep ?_|refine HY ?_|refine Es ?_|refine Et ?_|refine HU ?_|refine HS ?_|refine HW ?_|refine HX ?_|refine HV ?_|refine Y4 ?_|refine tZ ?_|refine tY ?_|refine tW ?_|refine tX ?_|refine tV ?_|refine uk ?_|refine N1 ?_|refine oP ?_|refine kT ?_|refine O2 ?_|refine qD ?_|refine ub ?_|refine sJ ?_|refine oN ?_|refine oJ ?_|refine oK ?_|refine rY ?_|refine sI ?_|refine rF ?_)
local macro_rules|`(tactic|walk_at"w2")=>`(tactic|repeat(with_reducible first|walk_at "w1"|refine Z7 (by simp) ?_|refine Z8 (by simp) ?_|refine L5 (b9 (by assumption)) (by with_unfolding_all rfl) ?_|refine qQ (b9 (by assumption)) ?_|refine qN (by unfold O6;decide) ?_))
local macro_rules|`(tactic|walk_at"w3")=>`(tactic|repeat(with_reducible first|walk_at "w1"|refine Z7 (by simp) ?_|refine Z8 (by simp) ?_|refine L5 (b9 (by assumption)) (by with_unfolding_all rfl) ?_|refine qQ (b9 (by assumption)) ?_|refine qN (by unfold O6;decide) ?_|refine And.intro (show List.length _ <= 1000 from by simp) ?_|refine J6 (by with_unfolding_all rfl) ?_|refine B3 ?_|refine pJ (by with_unfolding_all rfl) ?_))
local macro_rules|`(tactic|walk_at"")=>`(tactic|repeat(with_reducible first|walk_at "w1"|refine HP ?_|refine rD ?_|refine GS ?_|refine HZ ?_|refine rJ ?_|refine rH ?_|refine max2 ?_|refine min2 ?_|refine sP ?_|refine kZ ?_|refine zc ?_|refine tJ ?_|refine Z7 (by simp) ?_|refine Z8 (by simp) ?_|refine L5 (b9 (by assumption)) (by with_unfolding_all rfl) ?_|refine qQ (b9 (by assumption)) ?_|refine qN (by unfold O6;decide) ?_|refine And.intro (show List.length _ <= 1000 from by simp) ?_|refine J6 (by with_unfolding_all rfl) ?_|refine B3 ?_|refine pJ (by with_unfolding_all rfl) ?_|refine And.intro (zG (by assumption)) ?_|refine And.intro (Gy (by assumption)) ?_|refine And.intro (xN (by assumption)) ?_|refine M7 (by decide) ?_|refine pM (by decide) (by decide) ?_|refine JV ?_))
set_option hygiene true
def F3:bN:=⟨1,2,(gj (.iW (.dW (.gb (.chain .Lt .LtE (bV 0) (fc .len ba) (bV 4)))) (.dW (.gb (fc .all (.comp [] 2 (.one 1) (.iX ba) .no (cQ (.cmp .In) bR (eI "0123456789"))))))) (eu (.lit .bA)) (fZ 1 (fc .int ba) (gj (fh .NotEq (fc .str bR) ba) (eu (.lit .bA)) (eu bR))))⟩
def M1:bN:=⟨1,1,(gj (fh .Eq ba (eI "-")) (eu (.prim .tup .nil)) (eu (fc .tuple (.comp [] 2 (.one 1) (.iX ba) .no (.et .find (eI "0123456789") (kl bR))))))⟩
def Aw:bN:=⟨1,4,(pz (.mr (.many [1,2,3]) (.et .jr ba (kl (eI "/")))) (eu (cQ .tup (hU 166 bR) (hU 167 dE))))⟩
def X0:bN:=⟨1,1,(gj (fh .Eq ba (eI "-")) (eu (bV 0)) (eu (hU 166 ba)))⟩
def X3:bN:=⟨1,3,(fZ 1 (.et .split ba (kl (eI " "))) (gj (fh .NotEq (fc .len bR) (bV 3)) (jI (.raiser (kl (bV 0)))) (fZ 2 (cQ (.bin .Add) (cQ (.bin .Add) (hU 168 (fk bR (bV 0))) (hU 168 (fk bR (bV 1)))) (fc .tup (hU 169 (fk bR (bV 2))))) (gj (.iW (.dW (.gb (hU 12 dJ))) (fh .NotEq (hU 71 dJ) ba)) (jI (.raiser (kl (bV 0)))) (eu dJ)))))⟩
structure wZ(T:Nat->Option bN):Prop where
 ct:qS T
 lZ:T 166=some F3
 kX:T 167=some M1
 yX:T 168=some Aw
 yW:T 169=some X0
 yV:T 170=some X3
section
variable{T:Nat->Option bN}
theorem len_str(hz:x.length<=100000)(h:Q (.int x.length) g):cN .len [.str x] g Q:=⟨_,_,⟨rfl,.inr (.inr ⟨x,rfl,hz,rfl⟩)⟩,h⟩
theorem E7(x:Str):(sgn x).length=x.length:=by
 unfold sgn;rw[av,bS]
 rfl
theorem Z4{j:Nat}{y:D}(h:(sgn x)[j]?=some y):∃c,x.cps.toList[j]?=some c/\y=.str ⟨#[c]⟩:=by
 unfold sgn at h;rw[aP,af] at h;obtain⟨c,hc,rfl⟩:=h;exact⟨c,hc,rfl⟩
theorem take_snoc{α:Type}{l:List α}{j:Nat}{a:α}(h:l[j]?=some a):l.take (j+1)=l.take j++[a]:=by
 rw[List.take_add_one,h];rfl
theorem W3(lZ:T 166=some F3)(ha:As x)(hz:x.length<=1000)(h1:∀i g',Ex g g'->0<=i/\i<=9999->x=v7 i->Q (.int i) g')(h0:∀g',Ex g g'->(∀i,0<=i/\i<=9999->x≠v7 i)->Q .bA g'):d4 T (k+1) 166 [.str x] g Q E:=by
 refine call_of lZ rfl ?_;dsimp[F3,d7,List.replicate];left;refine len_str () ?_;left;refine if2 (λc1=>?_) (λc1=>?_)
 rotate_left
 ·left;exact h0 _ (Ex.refl _) λi hi z=>by have:=(Q9 hi).1;rw[<- z] at this;omega
 left;refine qz (λc2=>?_) (λc2=>?_)
 rotate_left
 ·left;exact h0 _ (Ex.refl _) λi hi z=>by have:=(Q9 hi).2;rw[<- z] at this;omega
 left;refine K5 (d9 T _) (vj (d9 T _) ?_);left;refine⟨_,rfl,ha,sgn x,λj ys U g'=>(∃z,U=[none,z])/\g'=g/\ys=(x.cps.toList.take j).map λc=>.bl (decide (48<=c/\c<=57)),?_,λj ys U g' p=>⟨F7,?_⟩,⟨⟨none,rfl⟩,rfl,rfl⟩,λj y ys U g' hx p=>?_,λys U g' p=>?_⟩
 ·rw[E7];omega
 ·obtain⟨_,_,rfl⟩:=p;rw[av,bC];omega
 ·obtain⟨⟨z,rfl⟩,rfl,rfl⟩:=p;obtain⟨c,hc,rfl⟩:=Z4 hx;refine B3 ?_
  try show dD _ _ _ _ _ _
  left;refine AV ?_;show _/\_/\_++[D.bl (!(Builtin.Str.occurrences "0123456789" ⟨#[c]⟩ 0 ("0123456789":Str).length 1).isEmpty)]=_;rw[zz,take_snoc hc,bu];exact⟨⟨_,rfl⟩,rfl,rfl⟩
 ·obtain⟨⟨z,rfl⟩,rfl,rfl⟩:=p;rw[E7,i5,dh];have e1:Ex g' (g'++[.lst (x.cps.toList.map λc=>.bl (decide (48<=c/\c<=57)))]):=Ex.snoc _ _;have b1:(g'++[O.lst (x.cps.toList.map λc=>.bl (decide (48<=c/\c<=57)))])[g'.length]?=some (.lst ((x.cps.toList.map λc=>decide (48<=c/\c<=57)).map D.bl)):=by rw[j2,cI];rfl
  generalize g'++[O.lst (x.cps.toList.map λc=>.bl (decide (48<=c/\c<=57)))]=g1 at *;refine AR (b9 b1) (Y9 _) ?_;left;cases hb:(x.cps.toList.map λc=>decide (48<=c/\c<=57)).all id with
  |false =>
   left;refine h0 _ e1 λi hi z=>?_;have hd:=wx hi.1;rw[<- z] at hd;rw[kh,Yw] at hb;obtain⟨c,hc,q⟩:=hb;exact q (bh (hd c hc))
  |true =>
   have hd:NumText.AllDigits x.cps.toList:=λc hc=>by
    rw[kh,bD] at hb;exact aN (hb c hc)
   have hv:=Hh _ _ rfl hd;have hi:=XG hd (λz=>by rw[i5,z] at c1;exact absurd c1 ∅) ();rw[<- i5] at hv;have yg:NumText.digitsVal x.cps.toList<10 ^ 4:=au hv (xh ∅ ());generalize NumText.digitsVal x.cps.toList=n at *;left;refine vW () hi ?_;left;refine uB (u5 ⟨by omega,by omega⟩) ?_;left;refine qz (λc3=>?_) (λc3=>?_)
   ·left;exact h1 _ _ e1 ⟨by omega,by omega⟩ c3.symm
   ·left;refine h0 _ e1 λi hj z=>c3 ?_;have:=Hu hj;rw[<- z,hi] at this;rw[aq this];exact z.symm
theorem P1(kX:T 167=some M1)(ha:As x)(hz:x.length<=1000)(h:∀ms g',Ex g g'->(∀ns,(∀m∈ns,0<=m/\m<=7)->x=i8 ns->ms=ns)->Q (.tup (ms.map .int)) g'):d4 T (k+1) 167 [.str x] g Q E:=by
 refine call_of kX rfl ?_;dsimp[M1,d7,List.replicate];left;refine if2 (λc1=>?_) (λc1=>?_)
 ·left;refine h [] _ (Ex.refl _) λns hn z=>?_;exact Ht (ms:=[]) (by simp) hn (by rw[<- z,c1];rfl)
 left;refine K5 (d9 T _) (vj (d9 T _) ?_);left;refine⟨_,rfl,ha,sgn x,λj ys U g'=>(∃z,U=[none,z])/\g'=g/\ys=(x.cps.toList.take j).map λc=>.int (nD c),?_,λj ys U g' p=>⟨F7,?_⟩,⟨⟨none,rfl⟩,rfl,rfl⟩,λj y ys U g' hx p=>?_,λys U g' p=>?_⟩
 ·rw[E7];omega
 ·obtain⟨_,_,rfl⟩:=p;rw[av,bC];omega
 ·obtain⟨⟨z,rfl⟩,rfl,rfl⟩:=p;obtain⟨c,hc,rfl⟩:=Z4 hx;refine B3 ?_
  try show dD _ _ _ _ _ _
  left;refine⟨Hs,?_⟩;left;refine m_find ?_;rw[Xv,take_snoc hc,bu];exact⟨⟨_,rfl⟩,rfl,rfl⟩
 ·obtain⟨⟨z,rfl⟩,rfl,rfl⟩:=p;rw[E7,i5,dh];have e1:Ex g' (g'++[.lst (x.cps.toList.map λc=>.int (nD c))]):=Ex.snoc _ _;have b1:(g'++[O.lst (x.cps.toList.map λc=>.int (nD c))])[g'.length]?=some (.lst ((x.cps.toList.map nD).map D.int)):=by rw[j2,cI];rfl
  generalize g'++[O.lst (x.cps.toList.map λc=>.int (nD c))]=g1 at *;refine Bm (b9 b1) ?_;refine h _ _ e1 λns hn z=>?_;have ne:ns≠[]:=λq=>c1 (by rw[z,q];rfl);rw[z,E1,aA ne,cI];refine(dQ λm hm=>?_).trans (xi _);exact Xy (hn m hm)
theorem Hg(hT:wZ T)(ha:As w)(hz:w.length<=1000)(h:∀(o:Option Int) ms g',Ex g g'->(∀d ns,p6 d ns->w=l4 d ns->o=some d/\ms=ns)->Q (.tup [(o.map D.int).getD .bA,.tup (ms.map .int)]) g'):d4 T (k+2) 168 [.str w] g Q E:=by
 refine call_of hT.yX rfl ?_;dsimp[Aw,d7,List.replicate];left;refine⟨MJ,?_⟩;left;refine SM (by decide +kernel) () ?_;rcases PV w with⟨n,e⟩|⟨u,v,e,n,e2⟩
 ·rw[e];refine J6 rfl ?_
  try show wpS _ _ _ _ _ _
  left;refine W3 hT.lZ ha hz (λi g1 e1 hi hx=>?_) (λg1 e1 hx=>?_)
  ·left;refine P1 hT.kX (x:=Str.empty) (by decide +kernel) ∅ λms g2 e2 hm=>?_;left;exact h (some i) ms g2 (e1.trans e2) λd ns hd z=>absurd (AD z) n
  ·left;refine P1 hT.kX (x:=Str.empty) (by decide +kernel) ∅ λms g2 e2 hm=>?_;left;exact h none ms g2 (e1.trans e2) λd ns hd z=>absurd (AD z) n
 ·rw[e2];refine J6 rfl ?_;have hu:As ⟨u.toArray⟩:=G0 λc hc=>ha.mem c (by rw[e];simp at hc;simp[hc]);have hv:As ⟨v.toArray⟩:=G0 λc hc=>ha.mem c (by rw[e];simp at hc;simp[hc]);have CL:u.length+1+v.length<=1000:=by
   rw[i5,e,aS,bg] at hz;omega
  have zu:(⟨u.toArray⟩:Str).length<=1000:=by show u.toArray.size<=_;simp;omega
  have zv:(⟨v.toArray⟩:Str).length<=1000:=by show v.toArray.size<=_;simp;omega
  try show wpS _ _ _ _ _ _
  left;refine W3 hT.lZ hu zu (λi g1 e1 hi hx=>?_) (λg1 e1 hx=>?_)
  ·left;refine P1 hT.kX hv zv λms g2 e3 hm=>?_;left;refine h (some i) ms g2 (e1.trans e3) λd ns hd z=>?_;obtain⟨q1,q2⟩:=AB hd n e z;exact⟨by rw[Q8 hi hd.mk'.1 (hx.symm.trans q1)],hm ns hd.mk'.2 q2⟩
  ·left;refine P1 hT.kX hv zv λms g2 e3 hm=>?_;left;refine h none ms g2 (e1.trans e3) λd ns hd z=>?_;exact absurd (AB hd n e z).1 (hx d hd.mk'.1)
noncomputable abbrev oD(o:Option Int):D:=(o.map D.int).getD .bA
def lx(o:Option Int)(l m:Int):Bool:=match o with
 |some i=>decide (l<=i)&&decide (i<=m)
 |none=>false
theorem Ar(h1:NF T){o:Option Int}{l m:Int}(h:Q (.bl (lx o l m)) g):d4 T (k+2) 1 [oD o,.int l,.int m] g Q E:=by
 cases o with
 |some i=>exact w5 h1 h
 |none =>
  show d4 T (k+2) 1 [.bA,.int l,.int m] g Q E;refine call_of h1.nf rfl ?_;dsimp[K2,d7,List.replicate];left;refine call_of h1.is rfl ?_;dsimp[P4,d7,List.replicate];left;refine gf (c:="int") (b:=false) ∅ rfl ?_;left;exact h
def P6(o1:Option Int)(m1:List Int)(o2:Option Int)(m2:List Int)(y:Option Int):Bool:=(lx o1 1 99&&gm 0 m1)&&((lx o2 1 99&&gm 0 m2)&&lx y 0 9999)
theorem Ws{o1 o2 y:Option Int}{m1 m2:List Int}(h:P6 o1 m1 o2 m2 y=true):∃c:n4,j9 c=true/\o1=some c.lo/\m1=c.lm/\o2=some c.up/\m2=c.um/\y=some c.yr:=by
 cases o1 with
 |none=>exact absurd h (by simp[P6,lx])
 |some a =>
  cases o2 with
  |none=>exact absurd h (by simp[P6,lx])
  |some b =>
   cases y with
   |none=>exact absurd h (by simp[P6,lx])
   |some y=>exact⟨⟨a,m1,b,m2,y⟩,h,rfl,rfl,rfl,rfl,rfl⟩
noncomputable abbrev uh(o1:Option Int)(m1:List Int)(o2:Option Int)(m2:List Int)(y:Option Int):D:=.tup [oD o1,.tup (m1.map .int),oD o2,.tup (m2.map .int),oD y]
theorem XA(h1:NF T)(h2:T 2=some F4)(qm:T 12=some k7){o1 o2 y:Option Int}{m1 m2:List Int}(h:Q (.bl (P6 o1 m1 o2 m2 y)) g):d4 T (k+4) 12 [uh o1 m1 o2 m2 y] g Q E:=by
 refine call_of qm rfl ?_;dsimp[k7,d7,List.replicate,uh];left;refine Ar h1 ?_;have s1:∀b:Bool,b=(lx o1 1 99&&gm 0 m1)->wpS (d4 T (k+3)) (u7 (u7 k7.body)) ⟨λ_ g'=>Q .bA g',Q,λ_ _=>False,λ_ _=>False⟩ [some (uh o1 m1 o2 m2 y),some (oD o1),some (.tup (m1.map .int)),some (oD o2),some (.tup (m2.map .int)),some (oD y),some (.bl b),none] g E:=by
  intro b hb;dsimp[k7,u7];left;refine Ar h1 ?_;have s2:∀b':Bool,b'=(lx o2 1 99&&gm 0 m2)->wpS (d4 T (k+3)) (u7 (u7 (u7 k7.body))) ⟨λ_ g'=>Q .bA g',Q,λ_ _=>False,λ_ _=>False⟩ [some (uh o1 m1 o2 m2 y),some (oD o1),some (.tup (m1.map .int)),some (oD o2),some (.tup (m2.map .int)),some (oD y),some (.bl b),some (.bl b')] g E:=by
   intro b' js;dsimp[k7,u7];have e:P6 o1 m1 o2 m2 y=(b&&(b'&&lx y 0 9999)):=by unfold P6;rw[hb,js]
   rw[e] at h;left;cases b
   ·exact O2 h
   ·refine kT ?_;left;cases b'
    ·exact O2 h
    ·refine kT ?_;left;exact Ar h1 h
  refine N1 ?_;cases hc:lx o2 1 99 with
  |false=>exact O2 (s2 false (by rw[hc];rfl))
  |true =>
   refine kT ?_;left;exact C9 h1 h2 (s2 _ (by rw[hc];rfl))
 refine N1 ?_;cases hc:lx o1 1 99 with
 |false=>exact O2 (s1 false (by rw[hc];rfl))
 |true =>
  refine kT ?_;left;exact C9 h1 h2 (s1 _ (by rw[hc];rfl))
theorem UX(hT:wZ T)(ha:As w)(hz:w.length<=1000)(h:∀(o:Option Int) g',Ex g g'->(∀y,0<=y/\y<=9999->w=j6 y->o=some y)->Q (oD o) g'):d4 T (k+2) 169 [.str w] g Q E:=by
 refine call_of hT.yW rfl ?_;dsimp[X0,d7,List.replicate];left;refine if2 (λc1=>?_) (λc1=>?_)
 ·left;exact h (some 0) _ (Ex.refl _) λy hy z=>cO some (Fc (y:=0) () hy (by rw[<- z,c1];rfl))
 have nz:∀{y:Int},w=j6 y->w=v7 y:=λ{y} z=>by
  unfold j6 at z;split at z
  ·exact absurd z c1
  ·exact z
 left;refine W3 hT.lZ ha hz (λi g1 e1 hi hx=>?_) (λg1 e1 hx=>?_)
 ·exact h (some i) _ e1 λy hy z=>cO some (Q8 hi hy (hx.symm.trans (nz z)))
 ·exact h none _ e1 λy hy z=>absurd (nz z) (hx y hy)
theorem Xp{c c':n4}(h1:c.lo=c'.lo)(h2:c.lm=c'.lm)(h3:c.up=c'.up)(h4:c.um=c'.um)(h5:c.yr=c'.yr):c=c':=by
 cases c;cases c';simp only at h1 h2 h3 h4 h5;subst h1;subst h2;subst h3;subst h4;subst h5
 rfl
theorem Vf(hT:wZ T)(ha:As t)(hz:t.length<=1000)(h1:∀c g',Ex g g'->j9 c=true->t=n8 c->Q c.d g')(h0:∀g',Ex g g'->(∀c,j9 c=true->t≠n8 c)->E (ui 0) g'):d4 T (k+7) 170 [.str t] g Q E:=by
 obtain⟨wn,ws,wa⟩:=words_of t ha;refine call_of hT.yV rfl ?_;dsimp[X3,d7,List.replicate];left;refine⟨zH,?_⟩;left;refine m_split (by decide +kernel) () rfl () ?_;have e0:Ex g (g++[.lst ((Txt.split t " ").map .str)]):=Ex.snoc _ _;have b0:(g++[O.lst ((Txt.split t " ").map D.str)])[g.length]?=some (.lst ((Txt.split t " ").map D.str)):=j2;generalize g++[O.lst ((Txt.split t " ").map D.str)]=g0 at *;left;rw[av];refine qz (λc3=>?_) (λc3=>?_)
 rotate_left
 ·refine C7 ?_;show fJ _ _ _ _ _ _;left;exact⟨0,rfl,h0 _ e0 λc hc z=>c3 (by rw[z,C0 hc];rfl)⟩
 obtain⟨w1,w2,w3,e3⟩:=three (by omega:(Txt.split t " ").length=3);rw[e3] at b0 wa ws;have b0:g0[g.length]?=some (.lst [.str w1,.str w2,.str w3]):=b0;obtain⟨a1,z1⟩:=wa w1 (by simp);obtain⟨a2,z2⟩:=wa w2 (by simp);obtain⟨a3,z3⟩:=wa w3 (by simp);left;refine Hg hT a1 () λo1 m1 g1 x1 f1=>?_;have b1:=x1.at b0;left;refine Hg hT a2 () λo2 m2 g2 x2 f2=>?_;have b2:=x2.at b1;left;refine vO (by simp) ?_;left;refine UX hT a3 () λo3 g3 x3 f3=>?_;left;refine vO (by simp) ?_;left;have key:∀c:n4,j9 c=true->t=n8 c->o1=some c.lo/\m1=c.lm/\o2=some c.up/\m2=c.um/\o3=some c.yr:=λc hc z=>by
  have s:=C0 hc;rw[<- z,e3] at s;injection s with s1 s;injection s with s2 s;injection s with s3 s;obtain⟨p,q,r⟩:=A1.mp hc;obtain⟨q1,q2⟩:=f1 _ _ p s1;obtain⟨q3,q4⟩:=f2 _ _ q s2;exact⟨q1,q2,q3,q4,f3 _ r s3⟩
 have x4:=e0.trans (x1.trans (x2.trans x3));show d4 T (k+6) 12 [uh o1 m1 o2 m2 o3] g3 _ _;refine XA (k:=k+2) hT.ct.nf hT.ct.h2 hT.ct.qm ?_;left;cases hg:P6 o1 m1 o2 m2 o3 with
 |false =>
  refine qD ?_;refine kT ?_;refine C7 ?_;show fJ _ _ _ _ _ _;left;refine⟨0,rfl,h0 _ x4 λc hc z=>?_⟩;obtain⟨rfl,rfl,rfl,rfl,rfl⟩:=key c hc z;exact absurd (hg.symm.trans hc) ∅
 |true =>
  obtain⟨c,hc,rfl,rfl,rfl,rfl,rfl⟩:=Ws hg;obtain⟨p,q,r⟩:=A1.mp hc;refine ub ?_;left;refine TN (k:=k) (c:=c) hT.ct ⟨by have:=R7 _ 0 ∅ ∅ p.2;omega,by have:=R7 _ 0 ∅ ∅ q.2;omega⟩ (λz=>by rw[hc] at z;cases z) λ_ g4 x5=>?_;generalize hy:n8 c=y;left;refine qz (λc4=>?_) (λc4=>?_)
  ·left;exact h1 c _ (x4.trans x5) hc (c4.symm.trans hy.symm)
  ·refine C7 ?_;show fJ _ _ _ _ _ _;left;refine⟨0,rfl,h0 _ (x4.trans x5) λc' pv z=>c4 ?_⟩;obtain⟨q1,q2,q3,q4,q5⟩:=key c' pv z;have:c=c':=Xp (aq q1) q2 (aq q3) q4 (aq q5);exact hy.symm.trans ((cO n8 this).trans z.symm)
end
def T3:bN:=⟨2,2,(gj (.iW (fh .Eq (fc .len ba) (bV 0)) (.iW (fh .Gt (fc .len ba) (bV 4)) (.iW (.dW (.gb (fc .all (.comp [] 2 (.one 1) (.iX ba) .no (cQ (.cmp .In) bR (eI "0123456789")))))) (fh .Eq (fk ba (bV 0)) (eI "0"))))) (eu (.lit .bA)) (eu (.ite (fh .LtE (fc .int ba) bR) (fc .int ba) (.lit .bA))))⟩
def W9:bN:=⟨1,5,(fZ 1 (.et .find ba (kl (eI "/"))) (gj (fh .Lt bR (bV 0)) (eu (.lit .bA)) (fZ 2 (ir 172 (cQ (.jC false true) ba bR) (bV 99)) (fZ 3 (cQ (.jC true false) ba (cQ (.bin .Add) bR (bV 1))) (gj (.iW (fh .Is dJ (.lit .bA)) (fh .Eq dE (eI ""))) (eu (.lit .bA)) (gj (fh .Eq dE (eI "-")) (eu (cQ .tup dJ (.prim .tup .nil))) (fZ 4 (.comp [] 2 (.one 1) (.iX dE) .no (.ite (fh .In bR (eI "01234567")) (fc .int bR) (fc (.un .USub) (bV 1)))) (eu (.ite (.iW (fh .In (fc (.un .USub) (bV 1)) eW) (fh .NotEq eW (fc .sset eW))) (.lit .bA) (cQ .tup dJ (fc .tuple eW)))))))))))⟩
def AZ:bN:=⟨1,4,(fZ 1 (.et .split ba (kl (eI " "))) (gj (fh .NotEq (fc .len bR) (bV 3)) (eu (.lit .bA)) (fZ 2 (.comp [] 2 (.one 1) (.iX (cQ (.jC false true) bR (bV 2))) .no (hU 173 bR)) (fZ 3 (.ite (fh .Eq (fk bR (bV 2)) (eI "-")) (bV 0) (ir 172 (fk bR (bV 2)) (bV 9999))) (gj (.iW (fh .In (.lit .bA) dJ) (fh .Is dE (.lit .bA))) (eu (.lit .bA)) (eu (cQ (.bin .Add) (cQ (.bin .Add) (fk dJ (bV 0)) (fk dJ (bV 1))) (fc .tup dE))))))))⟩
structure BL(T:Nat->Option bN):Prop where
 nB:T 172=some T3
 yT:T 173=some W9
 yS:T 174=some AZ
section
variable{T:Nat->Option bN}
theorem Hl(nB:T 172=some T3)(ha:As x)(hz:x.length<=1000){m:Int}(hm:m<=9999)(h1:∀i g',Ex g g'->1<=i/\i<=m->x=v7 i->Q (.int i) g')(h0:∀g',Ex g g'->(∀i,1<=i/\i<=m->x≠v7 i)->Q .bA g'):d4 T (k+1) 172 [.str x,.int m] g Q E:=by
 refine call_of nB rfl ?_;dsimp[T3,d7,List.replicate];left;refine len_str () ?_;left;refine if2 (λc1=>?_) (λc1=>?_)
 ·left;exact h0 _ (Ex.refl _) λi hi z=>by have:=(Q9 (i:=i) ()).1;rw[<- z] at this;omega
 left;refine len_str () ?_;left;refine if2 (λc2=>?_) (λc2=>?_)
 ·left;exact h0 _ (Ex.refl _) λi hi z=>by have:=(Q9 (i:=i) ()).2;rw[<- z] at this;omega
 left;refine K5 (d9 T _) (vj (d9 T _) ?_);left;refine⟨_,rfl,ha,sgn x,λj ys U g'=>(∃z,U=[none,z])/\g'=g/\ys=(x.cps.toList.take j).map λc=>.bl (decide (48<=c/\c<=57)),?_,λj ys U g' p=>⟨F7,?_⟩,⟨⟨none,rfl⟩,rfl,rfl⟩,λj y ys U g' hx p=>?_,λys U g' p=>?_⟩
 ·rw[E7];omega
 ·obtain⟨_,_,rfl⟩:=p;rw[av,bC];omega
 ·obtain⟨⟨z,rfl⟩,rfl,rfl⟩:=p;obtain⟨c,hc,rfl⟩:=Z4 hx;refine B3 ?_
  try show dD _ _ _ _ _ _
  left;refine AV ?_;show _/\_/\_++[D.bl (!(Builtin.Str.occurrences "0123456789" ⟨#[c]⟩ 0 ("0123456789":Str).length 1).isEmpty)]=_;rw[zz,take_snoc hc,bu];exact⟨⟨_,rfl⟩,rfl,rfl⟩
 ·obtain⟨⟨z,rfl⟩,rfl,rfl⟩:=p;rw[E7,i5,dh];have e1:Ex g' (g'++[.lst (x.cps.toList.map λc=>.bl (decide (48<=c/\c<=57)))]):=Ex.snoc _ _;have b1:(g'++[O.lst (x.cps.toList.map λc=>.bl (decide (48<=c/\c<=57)))])[g'.length]?=some (.lst ((x.cps.toList.map λc=>decide (48<=c/\c<=57)).map D.bl)):=by rw[j2,cI];rfl
  generalize g'++[O.lst (x.cps.toList.map λc=>.bl (decide (48<=c/\c<=57)))]=g1 at *;refine AR (b9 b1) (Y9 _) ?_;left;cases hb:(x.cps.toList.map λc=>decide (48<=c/\c<=57)).all id with
  |false =>
   refine qD ?_;left;refine h0 _ e1 λi hi z=>?_;have hd:=wx (i:=i) ();rw[<- z] at hd;rw[kh,Yw] at hb;obtain⟨c,hc,q⟩:=hb;exact q (bh (hd c hc))
  |true =>
   have hd:NumText.AllDigits x.cps.toList:=λc hc=>by
    rw[kh,bD] at hb;exact aN (hb c hc)
   have gM:x.cps.toList≠[]:=λz=>by rw[i5,z] at c1;exact c1 rfl
   obtain⟨a,r,ea⟩:∃a r,x.cps.toList=a::r:=List.exists_cons_of_ne_nil gM;refine ub ?_;left;refine BI (i:=0) (c:=a) () (by rw[ea];exact S0 (j:=0) rfl) ?_;left;refine if2 (λc3=>?_) (λc3=>?_)
   ·left;refine h0 _ e1 λi hi z=>?_;have hh:=MR (i:=i) hi.1;rw[<- z,ea] at hh;have c4:(⟨#[a]⟩:Str)=⟨#[48]⟩:=c3.trans (by decide +kernel);simp at c4;exact hh (by rw[c4];rfl)
   ·obtain⟨i,hi,hx⟩:=MQ hd gM (by rw[ea];intro z;refine c3 ?_;rw[show a=48 from aq z];decide +kernel) ();have hint:PySem.intText? x=some i:=by rw[hx];exact Hu ()
    left;refine vW () hint ?_;left;refine if2 (λc4=>?_) (λc4=>?_)
    ·left;refine vW () hint ?_;exact h1 i _ e1 ⟨hi.1,c4⟩ hx
    ·left;refine h0 _ e1 λj hj z=>c4 ?_;rw[Q8 (i:=i) (j:=j) () () (hx.symm.trans z)];exact hj.2
theorem XC{ms:List Int}{i:Int}{k:Bool->Prop}(ha:c8 g a=some (ms.map .int))(h:k (decide (i∈ms))):xV g (.int i) (.ref a) k:=by
 refine⟨_,.inr ⟨_,ms.map PyData.int,.int i,ha,E8 ms,rfl,lay_ints ms,rfl,rfl⟩,?_⟩;rw[List.any_map];have:(ms.any ((λq=>PyData.eqv q (.int i)) ∘ PyData.int))=decide (i∈ms):=by
  rw[cT,Zr,decide_eq_true_eq];constructor
  ·rintro⟨m,hm,e⟩;have:m=i:=by simpa[PyData.eqv] using e
   rw[<- this];exact hm
  ·intro hm;exact⟨i,hm,by simp[PyData.eqv]⟩
 rw[this];exact h
theorem VY(hT:BL T)(ha:As w)(hz:w.length<=500)(h1:∀d ms g',Ex g g'->p6 d ms->w=l4 d ms->Q (.tup [.int d,.tup (ms.map .int)]) g')(h0:∀g',Ex g g'->(∀d ms,p6 d ms->w≠l4 d ms)->Q .bA g'):d4 T (k+2) 173 [.str w] g Q E:=by
 refine call_of hT.yT rfl ?_;dsimp[W9,d7,List.replicate];left;refine⟨Hs,?_⟩;left;refine m_find ?_;rcases Xx w with⟨n,e⟩|⟨u,v,e,n,e2⟩
 ·rw[e];left;refine if2 (λ_=>?_) (λc=>absurd ∅ c);left;exact h0 _ (Ex.refl _) λd ms hd z=>n (AD z)
 rw[e2];left;refine if2 (λc=>by omega) (λ_=>?_);have hu:As ⟨u.toArray⟩:=G0 λc hc=>ha.mem c (by rw[e];simp at hc;simp[hc]);have hv:As ⟨v.toArray⟩:=G0 λc hc=>ha.mem c (by rw[e];simp at hc;simp[hc]);have CL:u.length+1+v.length<=500:=by
  rw[i5,e,aS,bg] at hz;omega
 have zu:(⟨u.toArray⟩:Str).length<=1000:=by show u.toArray.size<=_;simp;omega
 have e3:w.cps.toList=(u++[47])++v:=by rw[e];simp
 left;refine zM () ?_;rw[Md e];left;have sl:∀{g':G} {Q':KD},Q' (.str ⟨v.toArray⟩) g'->cN (.jC true false) [.str w,.int (u.length+1)] g' Q':=λ{g' Q'} q=>zN () (by rw[Xt e3 (by simp)];exact q);have no:∀d ms,p6 d ms->w=l4 d ms->(⟨u.toArray⟩:Str)=v7 d/\(⟨v.toArray⟩:Str)=i8 ms:=λd ms hd z=>AB hd n e z;refine Hl hT.nB hu zu ∅ (λi g1 x1 hi hx=>?_) (λg1 x1 hx=>?_)
 rotate_left
 ·left;refine sl ?_;left;exact h0 _ x1 λd ms hd z=>hx d hd.1 (no d ms hd z).1
 left;refine sl ?_;left;refine if2 (λc1=>?_) (λc1=>?_)
 ·left;refine h0 _ x1 λd ms hd z=>?_;have q:=(cO (λx:Str=>x.cps.toList) ((no d ms hd z).2.symm.trans c1))
  simp only[E1] at q;split at q
  ·exact absurd q ∅
  ·exact absurd q (by rename_i ne;cases ms with
    |nil=>exact absurd rfl ne
    | cons a r=>exact λz=>by cases z)
 have Jj:v≠[]:=λz=>c1 (by rw[z];rfl);left;refine if2 (λc2=>?_) (λc2=>?_)
 ·left;refine h1 i [] _ x1 ⟨hi,rfl⟩ (t6 ?_);rw[u6,e,<- show(⟨u.toArray⟩:Str)=v7 i from hx,show i8 []=(⟨v.toArray⟩:Str) from c2.symm]
 have sk:∀d ms,p6 d ms->w=l4 d ms->v.map ic=ms:=λd ms hd z=>by
  refine OZ hd.mk'.2 (λq=>c2 ?_) (no d ms hd z).2;rw[(no d ms hd z).2,q]
  rfl
 left;refine K5 (d9 T _) (vj (d9 T _) ?_);left;refine⟨_,rfl,hv,sgn ⟨v.toArray⟩,λj ys U g'=>(∃z,U=[none,z])/\g'=g1/\ys=(v.take j).map λc=>.int (ic c),?_,λj ys U g' p=>⟨F7,?_⟩,⟨⟨none,rfl⟩,rfl,rfl⟩,λj y ys U g' hx p=>?_,λys U g' p=>?_⟩
 ·rw[E7];show v.toArray.size<=_;simp;omega
 ·obtain⟨_,_,rfl⟩:=p;rw[av,bC];omega
 ·obtain⟨⟨z,rfl⟩,rfl,rfl⟩:=p;obtain⟨c,hc,rfl⟩:=Z4 hx;refine B3 ?_
  try show dD _ _ _ _ _ _
  left;refine AV ?_;rw[Qu];left;refine if2 (λc5=>?_) (λc5=>?_)
  ·left;refine vW (by show 1<=640;decide) (int_sign ()) ?_;rw[take_snoc (show v[j]?=some c from hc),bu];refine⟨⟨_,rfl⟩,rfl,?_⟩;show _=_++[D.int (ic c)];unfold ic;rw[aF c5]
  ·left;rw[take_snoc (show v[j]?=some c from hc),bu];refine⟨⟨_,rfl⟩,rfl,?_⟩;show _=_++[D.int (ic c)];unfold ic;rw[aA c5]
 ·obtain⟨⟨z,rfl⟩,rfl,rfl⟩:=p;have el:(sgn ⟨v.toArray⟩).length=v.length:=by rw[E7];show v.toArray.size=_;simp
  rw[el,dh];have x2:Ex g' (g'++[.lst (v.map λc=>.int (ic c))]):=Ex.snoc _ _;have b2:(g'++[O.lst (v.map λc=>.int (ic c))])[g'.length]?=some (.lst ((v.map ic).map D.int)):=by rw[j2,cI];rfl
  generalize g'++[O.lst (v.map λc=>.int (ic c))]=g2 at *;left;refine DM (XC (b9 b2) ?_);left;refine if2 (λc5=>?_) (λc5=>?_)
  ·left;refine h0 _ (x1.trans x2) λd ms hd z=>?_;rw[sk d ms hd z] at c5;have:=hd.mk'.2 _ c5;omega
  left;refine Ni (b9 b2) (by rw[av];omega) ?_;have x3:Ex g2 (g2++[.lst ((u4 (v.map ic)).map .int)]):=Ex.snoc _ _;have b3:(g2++[O.lst ((u4 (v.map ic)).map D.int)])[g2.length]?=some (.lst ((u4 (v.map ic)).map D.int)):=j2;have b4:=x3.at b2;generalize g2++[O.lst ((u4 (v.map ic)).map D.int)]=g3 at *;left;refine wQ (Vj (b9 b4) (b9 b3) ?_);left;refine qz (λc6=>?_) (λc6=>?_)
  ·obtain⟨gg,mm⟩:=XS Jj c5 c6;left;refine Bm (b9 b4) ?_;left;refine h1 i _ _ (x1.trans (x2.trans x3)) ⟨hi,gg⟩ (t6 ?_);rw[u6,e,<- show(⟨u.toArray⟩:Str)=v7 i from hx,<- mm]
  ·left;refine h0 _ (x1.trans (x2.trans x3)) λd ms hd z=>c6 ?_;rw[sk d ms hd z];exact EV.mpr (Hm ms 0 hd.2).1
def Sd(w:Str)(y:D):Prop:=(∃d ms,p6 d ms/\w=l4 d ms/\y=.tup [.int d,.tup (ms.map .int)])\/((∀d ms,p6 d ms->w≠l4 d ms)/\y=.bA)
theorem Sd.rd{w:Str}{y:D}(h:Sd w y):∃p,M.rd g 6 y=some p/\p.canLay0=true/\PyData.eqv p .none=K3 y:=by
 rcases h with⟨d,ms,_,_,rfl⟩|⟨_,rfl⟩
 ·have e:=E8 (g:=g) (n:=5) ms;refine⟨.tuple [.int d,.tuple (ms.map .int)],?_,?_,rfl⟩
  ·have q:M.rd g 5 (.tup (ms.map .int))=some (.tuple (ms.map .int)):=by
    show(((ms.map D.int).mapM (M.rd g 4)).map PyData.tuple)=_;rw[E8]
    rfl
   show(([D.int d,.tup (ms.map .int)].mapM (M.rd g 5)).map PyData.tuple)=_;rw[eO,eO,List.mapM_nil,q]
   rfl
  ·show(true&&(PyData.canLayAll0 (ms.map PyData.int)&&true))=true;rw[lay_ints]
   rfl
 ·exact⟨.none,rfl,rfl,rfl⟩
theorem Ph{w1 w2:Str}{y1 y2:D}{kb:Bool->Prop}(ha:g[a]?=some (.lst [y1,y2]))(h1:Sd w1 y1)(h2:Sd w2 y2)(h:kb (K3 y1||K3 y2)):xV g .bA (.ref a) kb:=by
 obtain⟨p1,r1,c1,e1⟩:=h1.rd (g:=g);obtain⟨p2,r2,c2,e2⟩:=h2.rd (g:=g);refine⟨_,.inr ⟨[y1,y2],[p1,p2],.none,b9 ha,?_,rfl,?_,rfl,rfl⟩,?_⟩
 ·show[y1,y2].mapM (M.rd g 6)=_;rw[eO,eO,List.mapM_nil,r1,r2]
  rfl
 ·show(p1.canLay0&&(p2.canLay0&&true))=true;rw[c1,c2]
  rfl
 ·rw[jq,jq,List.any_nil,e1,e2,Bool.or_false];exact h
theorem XO(hT:BL T)(ha:As t)(hz:t.length<=500)(h1:∀c g',Ex g g'->j9 c=true->t=n8 c->Q c.d g')(h0:∀g',Ex g g'->(∀c,j9 c=true->t≠n8 c)->Q .bA g'):d4 T (k+3) 174 [.str t] g Q E:=by
 obtain⟨wn,ws,wa⟩:=words_of t ha;refine call_of hT.yS rfl ?_;dsimp[AZ,d7,List.replicate];left;refine⟨zH,?_⟩;left;refine m_split (by decide +kernel) () rfl () ?_;have e0:Ex g (g++[.lst ((Txt.split t " ").map .str)]):=Ex.snoc _ _;have b0:(g++[O.lst ((Txt.split t " ").map D.str)])[g.length]?=some (.lst ((Txt.split t " ").map D.str)):=j2;generalize g++[O.lst ((Txt.split t " ").map D.str)]=g0 at *;left;rw[av];refine qz (λc3=>?_) (λc3=>?_)
 rotate_left
 ·left;exact h0 _ e0 λc hc z=>c3 (by rw[z,C0 hc];rfl)
 obtain⟨w1,w2,w3,e3⟩:=three (by omega:(Txt.split t " ").length=3);rw[e3] at b0 wa ws;have b0:g0[g.length]?=some (.lst [.str w1,.str w2,.str w3]):=b0;obtain⟨a1,z1⟩:=wa w1 (by simp);obtain⟨a2,z2⟩:=wa w2 (by simp);obtain⟨a3,z3⟩:=wa w3 (by simp);have key:∀c:n4,j9 c=true->t=n8 c->(p6 c.lo c.lm/\w1=l4 c.lo c.lm)/\(p6 c.up c.um/\w2=l4 c.up c.um)/\(0<=c.yr/\c.yr<=9999)/\w3=j6 c.yr:=λc hc z=>by
  have s:=C0 hc;rw[<- z,e3] at s;injection s with s1 s;injection s with s2 s;injection s with s3 s;obtain⟨p,q,r⟩:=A1.mp hc;exact⟨⟨p,s1⟩,⟨q,s2⟩,r,s3⟩
 left;refine K5 (d9 T _) (CK (d9 T _) ?_);left;refine GL (i:=2) (b9 b0) ?_;have e1:Ex g0 (g0++[.lst [.str w1,.str w2]]):=Ex.snoc _ _;have b1:(g0++[O.lst [D.str w1,.str w2]])[g0.length]?=some (.lst [.str w1,.str w2]):=j2;rw[show cut [D.str w1,.str w2,.str w3] none (some 2)=[.str w1,.str w2] from rfl];generalize g0++[O.lst [D.str w1,.str w2]]=g1 at *;refine⟨_,_,rfl,b9 b1,[.str w1,.str w2],λj ys U g'=>(∃z,U=[none,z])/\Ex g1 g'/\((j=0/\ys=[])\/(j=1/\∃y1,ys=[y1]/\Sd w1 y1)\/(j=2/\∃y1 y2,ys=[y1,y2]/\Sd w1 y1/\Sd w2 y2)),by simp,λj ys U g' p=>⟨Gs (b9 (p.2.1.at b1)),?_⟩,⟨⟨none,rfl⟩,Ex.refl _,.inl ⟨rfl,rfl⟩⟩,λj y ys U g' hx p=>?_,λys U g' p=>?_⟩
 ·obtain⟨_,_,⟨rfl,rfl⟩|⟨rfl,_,rfl,_⟩|⟨rfl,_,_,rfl,_⟩⟩:=p<;>simp
 ·obtain⟨⟨z,rfl⟩,x1,q⟩:=p;have turn:∀w,As w->w.length<=500->y=.str w->(∀y' g2,Ex g' g2->Sd w y'->(∃z,[none,some y]=[none,z])/\Ex g1 g2/\((j+1=0/\ys++[y']=[])\/(j+1=1/\∃y1,ys++[y']=[y1]/\Sd w1 y1)\/(j+1=2/\∃y1 y2,ys++[y']=[y1,y2]/\Sd w1 y1/\Sd w2 y2))) ->
    dD (d4 T (k+2)) .no [none,some y] g' (λc g3=>if c=true then aV (d4 T (k+2)) (.call 173 (.cons (.var 1) .nil)) [none,some y] g3 (λy' g4=>(∃z,[none,some y]=[none,z])/\Ex g1 g4/\((j+1=0/\ys++[y']=[])\/(j+1=1/\∃y1,ys++[y']=[y1]/\Sd w1 y1)\/(j+1=2/\∃y1 y2,ys++[y']=[y1,y2]/\Sd w1 y1/\Sd w2 y2))) jX else(∃z,[none,some y]=[none,z])/\Ex g1 g3/\((j+1=0/\ys=[])\/(j+1=1/\∃y1,ys=[y1]/\Sd w1 y1)\/(j+1=2/\∃y1 y2,ys=[y1,y2]/\Sd w1 y1/\Sd w2 y2))) jX:=by
   rintro w aw zw rfl fin;left;refine VY hT aw zw (λd ms g2 x2 hd hw=>fin _ _ x2 (.inl ⟨d,ms,hd,hw,rfl⟩)) λg2 x2 hn=>fin _ _ x2 (.inr ⟨hn,rfl⟩)
  refine B3 ?_;rcases q with⟨rfl,rfl⟩|⟨rfl,y1,rfl,s1⟩|⟨rfl,_⟩
  ·exact turn w1 a1 () (aq hx).symm λy' g2 x2 sy=>⟨⟨_,rfl⟩,x1.trans x2,.inr (.inl ⟨rfl,y',rfl,sy⟩)⟩
  ·exact turn w2 a2 () (aq hx).symm λy' g2 x2 sy=>⟨⟨_,rfl⟩,x1.trans x2,.inr (.inr ⟨rfl,y1,y',rfl,s1,sy⟩)⟩
  ·cases hx
 obtain⟨_,x1,⟨z,_⟩|⟨z,_⟩|⟨_,y1,y2,rfl,s1,s2⟩⟩:=p
 ·cases z
 ·cases z
 have x2:Ex g' (g'++[.lst [y1,y2]]):=Ex.snoc _ _;have b2:(g'++[O.lst [y1,y2]])[g'.length]?=some (.lst [y1,y2]):=j2;have b3:=x2.at (x1.at (e1.at b0));generalize g'++[O.lst [y1,y2]]=g2 at *;have x3:=e0.trans (e1.trans (x1.trans x2));have fin:∀(y3:D) g3,Ex g2 g3->((∃y,(0<=y/\y<=9999)/\w3=j6 y/\y3=.int y)\/((∀y,0<=y/\y<=9999->w3≠j6 y)/\y3=.bA)) ->
   wpS (d4 T (k+2)) ((MS.ifs (.iW (.gb (.prim (.cmp .In) (.cons (.lit .bA) (.cons (.var 2) .nil)))) (.gb (.prim (.cmp .Is) (.cons (.var 3) (.cons (.lit .bA) .nil))))) (.seq (.ret (.lit .bA)) .pass) .pass).seq (.seq (.ret (.prim (.bin .Add) (.cons (.prim (.bin .Add) (.cons (.prim .ix (.cons (.var 2) (.cons (.lit (.int 0)) .nil))) (.cons (.prim .ix (.cons (.var 2) (.cons (.lit (.int 1)) .nil))) .nil))) (.cons (.prim .tup (.cons (.var 3) .nil)) .nil)))) .pass)) ⟨λ_ g'=>Q .bA g',Q,λ_ _=>False,λ_ _=>False⟩ [some (.str t),some (.ref g.length),some (.ref g'.length),some y3] g3 E:=by
  intro y3 g3 x4 s3;have b4:=x4.at b2;left;refine DM (Ph b4 s1 s2 ?_);rcases s1 with⟨d1,m1,q1,v1,rfl⟩|⟨n1,rfl⟩
  rotate_left
  ·refine uk ?_;left;exact h0 _ (x3.trans x4) λc hc z=>n1 _ _ (key c hc z).1.1 (key c hc z).1.2
  rcases s2 with⟨d2,m2,q2,v2,rfl⟩|⟨n2,rfl⟩
  rotate_left
  ·refine uk ?_;left;exact h0 _ (x3.trans x4) λc hc z=>n2 _ _ (key c hc z).2.1.1 (key c hc z).2.1.2
  refine uk ?_;refine fN rfl ?_;left;rcases s3 with⟨y,hy,v3,rfl⟩|⟨n3,rfl⟩
  ·left;refine fN rfl ?_;left;refine vO (by exact uN rfl) ?_;left;refine vO (by exact uN rfl) ?_;exact h1 ⟨d1,m1,d2,m2,y⟩ _ (x3.trans x4) (A1.mpr ⟨q1,q2,hy⟩) (Ve e3 v1 v2 v3)
  ·left;exact h0 _ (x3.trans x4) λc hc z=>n3 _ (key c hc z).2.2.1 (key c hc z).2.2.2
 try show wpS _ _ _ _ _ _
 left;refine if2 (λc5=>?_) (λc5=>?_)
 ·refine w_lit ?_;exact fin (.int 0) _ (Ex.refl _) (.inl ⟨0,by omega,by rw[c5];rfl,rfl⟩)
 ·left;refine Hl hT.nB a3 () ∅ (λi g3 x4 hi hx=>?_) (λg3 x4 hx=>?_)
  ·exact fin (.int i) _ x4 (.inl ⟨i,by omega,by unfold j6;rw[aA ()];exact hx,rfl⟩)
  ·refine fin .bA _ x4 (.inr ⟨λy hy z=>?_,rfl⟩);unfold j6 at z;split at z
   ·exact c5 z
   ·exact hx y () z
end
def Ba:bN:=⟨1,2,(fZ 1 (cQ (.bin .Add) (eI " 0123456789-. 0123456789-.!\"#$&'\x28\x29*+,/:;<=>?@ABCDEFGHIJKLMNOPQRSTUVWXYZ[\\]^_") (eI "\n")) (fZ 1 (cQ (.bin .Add) (cQ (.bin .Add) bR (eI "abcdefghijklmnopqrstuvwxyz{|}~")) (eI "`")) (eu (fk bR (ir 4 ba (fc .len bR))))))⟩
def zD:bN:=⟨1,2,(jI (.lN (hU 170 ba)))⟩
def Af:bN:=⟨2,7,(fZ 2 (ir 4 ba (bV 9)) (fZ 3 (.et .split bR (kl (eI " "))) (fZ 4 (ir 4 ba (fc .len dE)) (gj (fh .Eq dJ (bV 0)) (jI (.expr (.et .fS dE (Ji eW (fk dE (ir 4 ba (fc .len dE))))))) (gj (fh .Eq dJ (bV 1)) (jI (.expr (.et .pop dE (kl eW)))) (gj (fh .Eq dJ (bV 2)) (jI (.eE dE eW (fk dE (ir 4 ba (fc .len dE))))) (gj (fh .Eq dJ (bV 3)) (jI (.eE dE eW (cQ (.bin .Add) (eI "0") (fk dE eW)))) (gj (fh .Eq dJ (bV 4)) (jI (.eE dE eW (fk (.prim .lst (.cons (eI "") (.cons (eI "-") (.cons (eI "100/0") (Ca (eI "1/8") (eI "1/10") (eI "10000") (eI "0") (eI "9\x2f-0") (eI "1/") (eI "/1")))))) (ir 4 ba (bV 10))))) (gj (fh .Lt dJ (bV 5)) (eu (.et .join (eI " ") (kl dE))) (fZ 5 (ir 4 ba (cQ (.bin .Add) (fc .len bR) (bV 1))) (fZ 6 (hU 171 ba) (gj (fh .Eq dJ (bV 5)) (eu (cQ (.bin .Add) (cQ (.jC false true) bR jG) (cQ (.jC true false) bR (cQ (.bin .Add) jG (bV 1))))) (eu (cQ (.bin .Add) (cQ (.bin .Add) (cQ (.jC false true) bR jG) sL) (cQ (.jC true false) bR (cQ (.bin .Add) jG (cQ (.bin .Mod) dJ (bV 2))))))))))))))))))⟩
def BJ:bN:=⟨1,6,(fZ 1 (hU 3 ba) (za (.one 2) (.gL (bV 6)) (fZ 3 (hU 72 bR) (gj (.dW (.gb (ir 7 (hU 30 (hU 73 dE)) dE))) (eu (.lit (.bl false))) (fZ 4 (ir 175 bR (hU 73 dE)) (gj (fh .Eq (ir 4 bR (bV 3)) (bV 0)) (jI (.set 4 (ir 175 bR eW))) (fZ 5 (hU 174 eW) (jI (.ifs (.dW (.gb (ir 7 (hU 30 eW) (.ite (fh .Is jG (.lit .bA)) (fc .lst (bV 0)) jG)))) (eu (.lit (.bl false))) .pass))))))) (eu (.lit (.bl true)))))⟩
structure xa(T:Nat->Option bN):Prop where
 rc:wZ T
 lr:BL T
 h3:T 3=some vZ
 h6:T 6=some ue
 h7:T 7=some B1
 yY:T 11=some BJ
 Lc:T 30=some zD
 yU:T 171=some Ba
 yR:T 175=some Af
section
variable{T:Nat->Option bN}
theorem Qr(hT:xa T)(D0:l5 g d)(h:∀c g',c<128->l5 g' d->Gr d g g'->Q (.str ⟨#[c]⟩) g'):d4 T (k+2) 171 [.ref d] g Q E:=by
 refine call_of hT.yU rfl ?_;dsimp[Ba,d7,List.replicate];left;refine K4 (by decide +kernel) ?_;left;refine K4 (by decide +kernel) ?_;left;refine K4 (by decide +kernel) ?_;have sz:∀S:Str,S=(Str.ofString " 0123456789-. 0123456789-.!\"#$&'\x28\x29*+,/:;<=>?@ABCDEFGHIJKLMNOPQRSTUVWXYZ[\\]^_"++Str.ofString "\n")++Str.ofString "abcdefghijklmnopqrstuvwxyz{|}~"++Str.ofString "`"->As S/\0<S.length/\S.length<=1000:=by
  rintro S rfl;exact⟨by decide +kernel,by decide +kernel,by decide +kernel⟩
 obtain⟨s1,s2,s3⟩:=sz _ rfl;generalize (Str.ofString " 0123456789-. 0123456789-.!\"#$&'\x28\x29*+,/:;<=>?@ABCDEFGHIJKLMNOPQRSTUVWXYZ[\\]^_"++Str.ofString "\n")++Str.ofString "abcdefghijklmnopqrstuvwxyz{|}~"++Str.ofString "`"=S at *
 left;refine len_str () ?_;left;refine l6 hT.rc.ct.h4 D0 () () λr g1 a1 b1 D1 G1=>?_;left;obtain⟨c,hc,hm⟩:=O4 (l:=S.cps.toList) a1 (by rw[<- i5];exact b1);refine BI () hc ?_;exact h c g1 (s1.mem c hm) D1 G1
theorem OQ{n:Nat}{r:Int}(h0:0<=r)(h1:r<n):kS n r=some r.toNat:=by unfold kS;rw[aF h0,aF h1]
theorem Y6{ws:List Str}{r:Int}(h0:0<=r)(h1:r<((ws.map D.str).length:Nat)):∃w,iQ (ws.map D.str) r=some (.str w)/\w∈ws:=by
 obtain⟨v,hv,hm⟩:=O4 h0 h1;obtain⟨w,hw,rfl⟩:=aW.mp hm;exact⟨w,hv,hw⟩
theorem Ag{ws:List Str}{B:Nat}(h:WB ws B)(hw:w∈ws):w.length+1<=B:=by
 have:=Ah (aW.mpr ⟨w,hw,rfl⟩:w.length∈ws.map Str.length);have:=List.length_pos_of_mem hw;have:=h.sz;omega
theorem l5.uj{o:O}(D0:l5 g d)(hd:d<a):l5 (g.set a o) d:=by
 obtain⟨s,p,b,r,xs,e1,e2,q⟩:=D0.ex;exact⟨s,p,b,r,xs,by rw[aO ()];exact e1,by rw[aO ()];exact e2,q⟩
noncomputable abbrev qG:List Str:=["","-","100/0","1/8","1/10","10000","0","9\x2f-0","1/","/1"]
theorem Pk:∀w∈qG,As w/\w.length<=5:=by decide +kernel
theorem FC(hT:xa T)(D0:l5 g d)(ha:As t)(hz:t.length<=300)(h:∀t' g',As t'->t'.length<=2*t.length+10->l5 g' d->Gr d g g'->Q (.str t') g'):d4 T (k+3) 175 [.ref d,.str t] g Q E:=by
 obtain⟨wn,ws,wa⟩:=words_of t ha;have B0:WB (Txt.split t " ") (t.length+1):=⟨λw hw=>(wa w hw).1,by omega⟩
 refine call_of hT.yR rfl ?_;dsimp[Af,d7,List.replicate];left;refine l6 hT.rc.ct.h4 D0 ∅ ∅ λr g1 a1 b1 D1 G1=>?_;left;refine⟨zH,?_⟩;left;refine m_split (by decide +kernel) () rfl () ?_;have hd:=D1.lt;have e2:Ex g1 (g1++[.lst ((Txt.split t " ").map .str)]):=Ex.snoc _ _;have b2:(g1++[O.lst ((Txt.split t " ").map D.str)])[g1.length]?=some (.lst ((Txt.split t " ").map D.str)):=j2;have D2:=e2.draw D1;have G2:=G1.trans (e2.gr d);have vz:g1.length≠d:=by omega
 have Dh:=G1.len;generalize Txt.split t " "=W at *;have hW:0<W.length:=BY.mpr wn;generalize g1.length=a at *;generalize g1++[O.lst (W.map D.str)]=g2 at *;left;refine l6 hT.rc.ct.h4 D2 (by rw[av];omega) (by rw[av];omega) λat_ g3 a3 c3 D3 G3=>?_;have b3:=G3.at vz b2;have G4:=G2.trans G3;have back:∀xp g',WB xp (2*t.length+10)->g'[a]?=some (.lst (xp.map .str))->l5 g' d->Gr d g g'->∀{z5 z6:Option D},aV (d4 T (k+2)) (.et .join (.lit (.str " ")) (.cons (.var 3) .nil)) [some (.ref d),some (.str t),some (.int r),some (.ref a),some (.int at_),z5,z6] g' Q E:=by
  intro xp g' hB hb hD hG z5 z6;left;refine⟨wu,?_⟩;left;refine wt (b9 hb) (aD hB.join ()) ?_;exact h _ _ hB.glued.1 hB.glued.2 hD hG
 have put:∀{g':G} {o:O},Gr d g g'->Gr d g (g'.set a o):=λ{g' o} G=>⟨by rw[dY];exact G.len,λi h1 h2=>by rw[aO ()];exact G.old i h1 h2⟩
 have got:∀{g':G} {o o':O},g'[a]?=some o'->(g'.set a o)[a]?=some o:=λ{g' o o'} q=>aR (F8 q);have ix:kS (W.map D.str).length at_=some at_.toNat:=OQ a3 c3;obtain rfl|rfl|rfl|rfl|rfl|hr:r=0\/r=1\/r=2\/r=3\/r=4\/5<=r:=by omega
 ·try show wpS _ _ _ _ _ _
  left;refine ly rfl ?_;left;refine⟨MH (b9 b3),?_⟩;left;refine l6 hT.rc.ct.h4 D3 (by rw[av];omega) (by rw[av];omega) λp g4 a5 c5 D4 G5=>?_;have b4:=G5.at vz b3;obtain⟨w,hw,mw⟩:=Y6 a5 c5;have lw:=Ag B0 mw;left;refine L5 (b9 b4) hw ?_;left;refine SJ b4 a3 (by rw[av] at c3;omega) (by rw[av];omega) ?_;left;refine fN rfl ?_;left;refine fN rfl ?_;left;refine fN rfl ?_;left;refine fN rfl ?_;left;refine ly rfl ?_;refine C7 (S3 ?_);exact back (W.take at_.toNat++w::W.drop at_.toNat) _ ((B0.put (B0.as w mw) _).up ()) (by rw[bu,aG,List.map_take,List.map_drop];exact got b4) (D4.uj hd) (put (G4.trans G5))
 ·try show wpS _ _ _ _ _ _
  left;refine fN rfl ?_;left;refine ly rfl ?_;left;obtain⟨w,hw,mw⟩:=Y6 a3 c3;refine SK (n:=at_) (j:=at_.toNat) b3 () (az ()) (by rw[av];omega) ?_;left;refine fN rfl ?_;left;refine fN rfl ?_;left;refine fN rfl ?_;left;refine ly rfl ?_;refine C7 (S3 ?_);exact back (W.eraseIdx at_.toNat) _ ((B0.del _).up ()) (by rw[<- Fm];exact got b3) (D3.uj hd) (put G4)
 ·try show wpS _ _ _ _ _ _
  left;refine fN rfl ?_;left;refine fN rfl ?_;left;refine ly rfl ?_;left;refine l6 hT.rc.ct.h4 D3 (by rw[av];omega) (by rw[av];omega) λp g4 a5 c5 D4 G5=>?_;have b4:=G5.at vz b3;obtain⟨w,hw,mw⟩:=Y6 a5 c5;have lw:=Ag B0 mw;left;refine L5 (b9 b4) hw ?_;left;refine L9 b4 ix ?_;left;refine fN rfl ?_;left;refine fN rfl ?_;left;refine ly rfl ?_;refine C7 (S3 ?_);exact back (W.set at_.toNat w) _ ((B0.set (B0.as w mw) _).up ()) (by rw[rp];exact got b4) (D4.uj hd) (put (G4.trans G5))
 ·try show wpS _ _ _ _ _ _
  left;refine fN rfl ?_;left;refine fN rfl ?_;left;refine fN rfl ?_;left;refine ly rfl ?_;left;obtain⟨w,hw,mw⟩:=Y6 a3 c3;have lw:=Ag B0 mw;refine L5 (b9 b3) hw ?_;left;refine K4 (by rw[show(Str.ofString "0").length=1 from by decide +kernel];omega) ?_;left;refine L9 b3 ix ?_;left;refine fN rfl ?_;left;refine ly rfl ?_;refine C7 (S3 ?_);exact back (W.set at_.toNat (Str.ofString "0"++w)) _ ((B0.set (wj (by decide +kernel) (B0.as w mw)) _).up (by rw[F0,show(Str.ofString "0").length=1 from by decide +kernel];omega)) (by rw[rp];exact got b3) (D3.uj hd) (put G4)
 ·try show wpS _ _ _ _ _ _
  left;refine fN rfl ?_;left;refine fN rfl ?_;left;refine fN rfl ?_;left;refine fN rfl ?_;left;refine ly rfl ?_;left;have x4:Ex g3 (g3++[.lst (qG.map D.str)]):=Ex.snoc _ _;have b0:(g3++[O.lst (qG.map D.str)])[g3.length]?=some (.lst (qG.map D.str)):=j2;have Kp:g3.length≠d:=by have:=D3.lt;omega
  refine l6 hT.rc.ct.h4 (n:=10) (g:=g3++[.lst (qG.map D.str)]) (D3.snoc _) ∅ ∅ λp g4 a5 c5 D4 G5=>?_;have b4:=G5.at vz (x4.at b3);have bL:=G5.at Kp b0;obtain⟨w,hw,mw⟩:=Y6 (ws:=qG) a5 c5;obtain⟨aw,lw⟩:=Pk w mw;left;refine L5 (b9 bL) hw ?_;left;refine L9 b4 ix ?_;left;refine ly rfl ?_;refine C7 (S3 ?_);exact back (W.set at_.toNat w) _ ((B0.set aw _).up ()) (by rw[rp];exact got b4) (D4.uj hd) (put (G4.trans ((x4.gr d).trans G5)))
 ·try show wpS _ _ _ _ _ _
  left;refine fN (bt ()) ?_;left;refine fN (bt ()) ?_;left;refine fN (bt ()) ?_;left;refine fN (bt ()) ?_;left;refine fN (bt ()) ?_;left;refine fN (bt ()) ?_;left;refine len_str () ?_;left;refine l6 hT.rc.ct.h4 D3 () () λp g4 a5 c5 D4 G5=>?_;left;refine Qr (k:=k) hT D4 λc g5 hc D5 G6=>?_;have GG:=G4.trans (G5.trans G6);have c1:As ⟨#[c]⟩/\(⟨#[c]⟩:Str).length=1:=⟨G0 λx hx=>by simp at hx;omega,rfl⟩
  left;refine if2 (λc6=>?_) (λc6=>?_)
  ·left;refine zM () ?_;left;refine zN () ?_;have q1:=wJ ha none (some p);have q2:=wJ ha (some (p+1)) none;refine K4 () ?_;exact h _ _ (wj q1.1 q2.1) (by rw[F0];omega) D5 GG
  ·left;refine zM () ?_;have q1:=wJ ha none (some p);left;refine K4 () ?_;left;refine zN () ?_;have q2:=wJ ha (some (p+r % 2)) none;refine K4 (by rw[F0];omega) ?_;exact h _ _ (wj (wj q1.1 c1.1) q2.1) (by rw[F0,F0];omega) D5 GG
theorem Ft{ms:List Int}(hz:ms.length<=1000):v5 g 1 (.tup (ms.map .int)) (.tup (ms.map .int)):=by
 refine .tup rfl (λi x y hx hy=>?_) (by rw[av];exact hz);rw[hx] at hy;cases hy;rw[aP,af] at hx;obtain⟨m,_,rfl⟩:=hx;exact .int m
theorem Fi{c:n4}(h:j9 c=true):v5 g 2 c.d c.d:=by
 obtain⟨p,q,_⟩:=A1.mp h;have l1:=R7 c.lm 0 ∅ ∅ p.2;have l2:=R7 c.um 0 ∅ ∅ q.2;unfold n4.d;refine .tup rfl (λi x y hx hy=>?_) (by show 5<=1000;decide);rw[hx] at hy;cases hy
 match i,hx with
 |0,hx=>cases hx;exact .int _
 |1,hx=>cases hx;exact Ft ()
 |2,hx=>cases hx;exact .int _
 |3,hx=>cases hx;exact Ft ()
 |4,hx=>cases hx;exact .int _
 |i+5,hx=>simp at hx
theorem Ap(hT:xa T)(ha:As t)(hz:t.length<=500)(h1:∀c g',Ex g g'->j9 c=true->t=n8 c->Q c.d g')(h0:∀g',Ex g g'->(∀c,j9 c=true->t≠n8 c)->Q (.ref g'.length) (g'++[.lst [.int 0]])):d4 T (k+8) 30 [.str t] g Q E:=by
 refine call_of hT.Lc rfl ?_;dsimp[zD,d7,List.replicate];refine C7 ?_;show aV _ _ _ _ _ _;left;exact Vf (k:=k) hT.rc ha () h1 λg' x hn=>.inl ⟨0,rfl,h0 g' x hn⟩
theorem XM(hT:xa T){ns:List Int}:d4 T (k+12) 11 [.ref 0] [.nC (ns.map .int)] (λd _=>d=.bl true) jX:=by
 refine call_of hT.yY rfl ?_;dsimp[BJ,d7,List.replicate];left;refine Pq hT.h3 (a:=0) (ns:=ns) rfl λd g D0 _ _=>?_;left;refine Wf (n:=6) ∅ (λi U g=>l5 g d/\∃z2 z3 z4 z5,U=[some (.ref 0),some (.ref d),z2,z3,z4,z5]) ⟨D0,none,none,none,none,rfl⟩ (λi U g hi p=>?_) (λU g p=>?_)
 ·obtain⟨D1,z2,z3,z4,z5,rfl⟩:=p
  try show wpS _ _ _ _ _ _
  left;refine Ui (k:=k+8) hT.rc.ct D1 λc g1 hB hg D2 G2=>?_;obtain⟨ca,cz⟩:=OC hg;left;refine U8 (k:=k+10) hT.rc.ct hB hg λg2 e2=>?_;have D3:=e2.draw D2;left;refine Ap (k:=k+3) hT ca () (λc' g3 e3 tm he=>?_) (λg3 e3 hn=>absurd rfl (hn c hg));obtain rfl:=Ey hg tm he;have D4:=e3.draw D3;left;refine X6 hT.h6 hT.h7 2 (k:=k+7) (Fi hg) λg4 e4=>?_;have D5:=e4.draw D4;left;have fin:∀(N:Ends) (t:Str) (g':G) (z3 z5:Option D),(∀g2 y4 y5,l5 g2 d->N.nx [some (.ref 0),some (.ref d),some (.int i),z3,y4,y5] g2)->As t->t.length<=200->l5 g' d->wpS (d4 T (k+11)) (.seq (.set 5 (.call 174 (.cons (.var 4) .nil))) (.seq (.ifs (.dW (.gb (.call 7 (.cons (.call 30 (.cons (.var 4) .nil)) (.cons (.ite (.gb (.prim (.cmp .Is) (.cons (.var 5) (.cons (.lit .bA) .nil)))) (.prim .lst (.cons (.lit (.int 0)) .nil)) (.var 5)) .nil))))) (.seq (.ret (.lit (.bl false))) .pass) .pass) .pass)) N [some (.ref 0),some (.ref d),some (.int i),z3,some (.str t),z5] g' jX:=by
   intro N t g' z3 z5 hN ta tz D6;left;refine XO (k:=k+8) hT.lr ta () (λc' g7 e7 tm he=>?_) (λg7 e7 hn=>?_)
   ·have D7:=e7.draw D6;left;refine Ap (k:=k+3) hT ta () (λc2 g8 e8 yD yE=>?_) (λg8 e8 hn=>absurd he (hn c' tm));obtain rfl:=Ey tm yD (he.symm.trans yE);have D8:=e8.draw D7;left;refine fN rfl ?_;left;refine X6 hT.h6 hT.h7 2 (k:=k+7) (Fi tm) λg9 e9=>?_;have D9:=e9.draw D8;left;exact hN _ _ _ D9
   ·have D7:=e7.draw D6;left;refine Ap (k:=k+3) hT ta () (λc2 g8 e8 yD yE=>absurd yE (hn c2 yD)) (λg8 e8 _=>?_);have D8:=(e8.draw D7).snoc (.lst [.int 0]);have b8:(g8++[O.lst [.int 0]])[g8.length]?=some (.lst [.int 0]):=j2;generalize g8++[O.lst [.int 0]]=g9 at *;left;have x9:Ex g9 (g9++[O.lst [.int 0]]):=Ex.snoc _ _;have hl:v5 (g9++[O.lst [.int 0]]) 1 (.ref g8.length) (.ref g9.length):=by
     refine .lst (x9.at b8) j2 rfl (λi x y hx hy=>?_) (by simp);rw[hx] at hy;cases hy
     match i,hx with
     |0,hx=>cases hx;exact .int _
     |i+1,hx=>simp at hx
    refine X6 hT.h6 hT.h7 1 (k:=k+8) hl λZb Lq=>?_;have Yl:=(x9.trans Lq).draw D8;left;exact hN _ _ _ Yl
  refine U8 (k:=k+10) hT.rc.ct hB hg λg5 e5=>?_;have D6:=e5.draw D5;left;refine FC (k:=k+8) hT D6 ca () λt g6 ta tz D7 _=>?_;left;refine l6 hT.rc.ct.h4 D7 ∅ ∅ λr g7 a7 b7 D8 _=>?_;left;refine if2 (λc1=>?_) (λc1=>?_)
  ·left;refine FC (k:=k+8) hT D8 ta () λt2 g8 Jm Yx D9 _=>?_;exact fin _ t2 g8 _ _ (λg2 y4 y5 D=>⟨D,_,_,_,_,rfl⟩) Jm () D9
  ·refine fin _ t g7 _ _ (λg2 y4 y5 D=>⟨D,_,_,_,_,rfl⟩) ta () D8
 ·obtain⟨_,z2,z3,z4,z5,rfl⟩:=p
  try show wpS _ _ _ _ _ _
  left
  rfl
end
end M
namespace Lk
open PySem L2 M
def top(i:Nat):Stmt:=PySem.Challenge.pw_trussel_k31_whole_coins_read_back.main.body.getD i (.Pass ⟨0,0,0,0⟩)
def OB:Stmt->List Stmt
 |.ClassDef (body:=b) ..=>b
 |_=>[]
def DX(i j:Nat):Stmt:=(OB (top i)).getD j (.Pass ⟨0,0,0,0⟩)
def F:List RF:=[⟨38,"is_number",["thing"],1,6,P4⟩,⟨1,"number_from",["number","least","most"],3,7,K2⟩,⟨2,"good_marks",["marks","least","spot"],1,8,F4⟩,⟨12,"good_coin",["coin","lower","lower_marks","upper","upper_marks","year","good_lower","good_upper"],1,12,k7⟩,⟨39,"check_coin",["coin"],1,13,T6⟩,⟨166,"plain_number",["text","number"],1,18,F3⟩,⟨69,"marks_text",["marks"],1,19,T2⟩,⟨70,"year_text",["year"],1,20,W8⟩,⟨71,"coin_text",["coin","lower","lower_marks","upper","upper_marks","year"],1,21,X4⟩,⟨167,"read_marks",["text"],1,22,M1⟩,⟨168,"read_die",["word","number","stroke","marks"],1,23,Aw⟩,⟨169,"read_year",["word"],1,24,X0⟩,⟨170,"read_coin",["text","words","coin"],1,25,X3⟩,⟨3,"_law_open",["_law_script"],1,27,vZ⟩,⟨4,"_law_pull",["_law_draw","_law_total_of","_law_cell","_law_got","_law_seed"],2,28,P2⟩,⟨6,"_law_num",["_law_found"],1,29,ue⟩,⟨7,"_law_like",["_law_found","_law_due"],2,30,B1⟩,⟨171,"_law_sign",["_law_draw","_law_signs"],1,31,Ba⟩,⟨9,"_law_some_marks",["_law_draw","_law_often"],2,32,M0⟩,⟨72,"_law_drawn_coin",["_law_draw","_law_lower","_law_upper","_law_often","_law_year"],1,33,T4⟩,⟨73,"_law_coin_words",["_law_coin","_law_words","_law_die","_law_marks","_law_figures_here"],1,34,T5⟩,⟨30,"_law_asked",["_law_text","e"],1,35,zD⟩,⟨172,"_law_figures",["_law_word","_law_most"],2,36,T3⟩,⟨173,"_law_side_read",["_law_word","_law_spot","_law_die","_law_rest","_law_marks"],1,37,W9⟩,⟨174,"_law_read",["_law_text","_law_words","_law_pairs","_law_year"],1,38,AZ⟩,⟨175,"_law_spoilt",["_law_draw","_law_text","_law_way","_law_words","_law_at","_law_spot","_law_sign_here"],2,39,Af⟩,⟨11,"law",["_law_script","_law_draw","_law_turn","_law_coin","_law_text","_law_due"],1,40,BJ⟩]
def Ms:List RM:=[]
def con:List (Str×D):=[("LAST_SPOT",.int 7),("LAST_DIE",.int 99),("LAST_YEAR",.int 9999),("FIGURES",.str "0123456789"),("MOST_FIGURES",.int 4),("NONE",.str "-")]
def gd:List (Str×List D):=[]
def exc:List Str:=["BadCoin"]
def c0:d6:=⟨[],[],true,F.map λr=>(r.nm,r.id),con,["len","list","tuple","isinstance","all","range","int","bool","str","sorted","set"],exc,gd,[],Ms.map λr=>(r.nm,r.cl,r.id),[],true,true,true,some (3,0)⟩
noncomputable abbrev T:Nat->Option bN:=qI F Ms
theorem tx:kH c0 F Ms top DX:=by
 refine⟨rfl,rfl,by decide +kernel,by decide +kernel,by decide +kernel,by decide +kernel,?_,?_,?_,?_,by decide +kernel,λp hp=>(by cases hp;exact⟨by decide +kernel,by decide +kernel,by decide +kernel,λ_ _ _ _ _ _=>(by(repeat refine xu λ_=>?_);exact xt rfl)⟩)⟩
 all_goals
  repeat first
   |exact BF.nil
   |exact BM.nil
   |exact YF.nil
   |exact YM.nil
   |refine YF.cons (by kernel_rfl) ?_
   |refine YM.cons (by kernel_rfl) ?_
   |refine BF.cons (λ_ _ _ _ _ _=>(by(repeat refine xu λ_=>?_);exact xt rfl)) ?_
   |refine BM.cons (λ_ _ _ _ _ _=>(by(repeat refine xu λ_=>?_);exact xt rfl)) ?_
theorem all_mk{l:PySem.W.OpenLaw}{w:World}{K:PySem.W.Frag}{h:Heap}{mg:Str->Option Value}{fa:Addr}{t0 t1 t2 t3 t4 t5:Tok}(X:K.In h)(G:h.Ns mainGlobals mg)(Kx:mg "law"=some (.ref fa))(I:kI K c0 F Ms top DX)(e0:PySem.W.nsIn K mainGlobals "LAST_SPOT"=some (some (Value.int 7 t0)))(e1:PySem.W.nsIn K mainGlobals "LAST_DIE"=some (some (Value.int 99 t1)))(e2:PySem.W.nsIn K mainGlobals "LAST_YEAR"=some (some (Value.int 9999 t2)))(e3:PySem.W.nsIn K mainGlobals "FIGURES"=some (some (Value.str "0123456789" t3)))(e4:PySem.W.nsIn K mainGlobals "MOST_FIGURES"=some (some (Value.int 4 t4)))(e5:PySem.W.nsIn K mainGlobals "NONE"=some (some (Value.str "-" t5)))
  : ∃fd:FuncData,(∀(s:Shared) (v:Value),BindsTo s fd ⟨[v],[]⟩ [("_law_script",v)])/\∀base:Heap,K.In base->base.Ns mainGlobals mg->fQ l.prog w K mg base (gR l.prog w) 82 fa fd ["_law_script"] (nP exc K 1 (d4 T 40 11)):=by
 have A:mj w K mg c0 T:=by
  refine Oo I tx X G (λx d hx=>?_) (λx aU hx=>?_)
  ·have hm:=aE hx;simp only[c0,con,List.mem_cons,List.mem_nil_iff,or_false] at hm;rcases hm with z|z|z|z|z|z
   ·cases z;exact⟨(.int 7),_,bW X G e0,⟨_,rfl⟩,λ_ _=>.int _⟩
   ·cases z;exact⟨(.int 99),_,bW X G e1,⟨_,rfl⟩,λ_ _=>.int _⟩
   ·cases z;exact⟨(.int 9999),_,bW X G e2,⟨_,rfl⟩,λ_ _=>.int _⟩
   ·cases z;exact⟨(.str "0123456789"),_,bW X G e3,⟨_,rfl⟩,λ_ _=>.str _⟩
   ·cases z;exact⟨(.int 4),_,bW X G e4,⟨_,rfl⟩,λ_ _=>.int _⟩
   ·cases z;exact⟨(.str "-"),_,bW X G e5,⟨_,rfl⟩,λ_ _=>.str _⟩
  ·have hm:=aE hx;simp[c0,gd] at hm
 obtain⟨f,fd,O,a,t⟩:=HD I tx _ (dG (i:=26) rfl);cases Kx.symm.trans (bW X G a);obtain⟨oc,od,kV,doc,pm,an,eB,ct,jb,rfl,lk,jl⟩:=O.fn.ex;exact⟨_,λs v=>.of_eq rfl,λbase kR nZ=>LZ kR nZ A 40 11 _ _ fa _ rfl O⟩
theorem walk{l:PySem.W.OpenLaw}{q:Program}{loose:List Str}{XP:(Str->Option Value)->Heap->Prop}{YP:World->Heap->Prop}{d:DefRec}{K:Params->PySem.W.Frag}(hn:l.most=some 63)(tw:d.params.defaults=[])(hY:∀(w:World) (h:Heap),YP w h->(K w.params).In h)(F:∀ (w:World) (mg:Str->Option Value) (fa:Addr) (h:Heap),(K w.params).In h->h.Ns mainGlobals mg->mg d.name=some (.ref fa) ->
   ∃ fd:FuncData,(∀ (s:Shared) (u:Value),BindsTo s fd ⟨[u],[]⟩ [("_law_script",u)])/\∀ base:Heap,(K w.params).In base->base.Ns mainGlobals mg->fQ l.prog w (K w.params) mg base (gR l.prog w) 82 fa fd ["_law_script"] (nP exc (K w.params) 1 (d4 T 40 11))) :
  PySem.W.WalkO q loose XP YP l.row.toRowW d [] (λf vs=>PySem.call f vs) :=
 L2.QE (n:=63) (k:=82) (x:="_law_script") (CX:=λw=>gR l.prog w) (sp:=λw=>nP exc (K w.params) 1 (d4 T 40 11)) hn ∅ tw ⟨rfl,by decide,by decide⟩ hY F (λw H a ns hl hO hS=>Mx hO hS (XM (k:=28) ⟨⟨⟨⟨rfl,rfl⟩,rfl,rfl,rfl,rfl,rfl,rfl,rfl,rfl,rfl,rfl⟩,rfl,rfl,rfl,rfl,rfl⟩,⟨rfl,rfl,rfl⟩,rfl,rfl,rfl,rfl,rfl,rfl,rfl⟩)) λ_ _ _ _ _ ⟨_,_,_,_,_,_,_,_,_,z⟩=>z
end Lk
end _X
open _X
open PySem PySem.W PyProof.Rows
set_option maxRecDepth 100000 in
set_option maxHeartbeats 0 in
theorem PySem.Challenge.cw_trussel_k31_whole_coins_read_back_holds : PySem.Challenge.rw_trussel_k31_whole_coins_read_back.Holds := by
 w_on;o_law;k_head;(case hw=>w_witness2)
 k_fill
 refine Lk.walk (l:=PySem.Challenge.rw_trussel_k31_whole_coins_read_back) rfl rfl (fun w h Y=>PySem.W.kIn_of Y) ?F
 case F =>
  intro w mg fa h KX G hmg
  refine' Lk.all_mk KX G hmg ⟨?zz1,?zz2,?zz3,?zz4,?zz5,?zz6,?zz7,?zz8,?zz9⟩ ?_ ?_ ?_ ?_ ?_ ?_
  (case zz1=>repeat' first | (with_reducible show _=_;k_is) | exact M.PF.nil | apply M.PF.cons)
  (case zz2=>repeat' first | (with_reducible show _=_;k_is) | exact M.PM.nil | apply M.PM.cons)
  (case zz3=>repeat' first | (with_reducible show _=_;k_is) | exact M.PC.nil | apply M.PC.cons)
  (case zz4=>repeat' first | (with_reducible show _=_;k_is) | exact M.PA.nil | apply M.PA.cons)
  (case zz5=>repeat' first | (with_reducible show _=_;k_is) | exact M.PB.nil | apply M.PB.cons)
  (case zz6=>repeat' first | (with_reducible show _=_;first | (with_reducible show PySem.W.excIn _ _ _ _=true;k_exc) | k_is) | exact M.PX.nil | apply M.PX.cons)
  (case zz7=>kernel_rfl)
  (case zz8=>kernel_rfl)
  (case zz9=>intro p hp;cases hp;apply M.vN.of <;> first | (with_reducible show _=_;k_is) | kernel_rfl)
  all_goals try (with_reducible show _=_;k_is)
#print axioms PySem.Challenge.cw_trussel_k31_whole_coins_read_back_holds
