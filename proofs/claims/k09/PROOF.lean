import PyProof.Rows.All
import Wide.All
import OpenK.AllK
import Wide.FinOn
import Lean
import PyProof.EqAt
import PyProof.EqKinds
import PyProof.TupleCall
import PySem.Challenge.RW_trussel_k09_whole_heaps_and_chains
set_option Elab.async false
set_option linter.all false
set_option maxRecDepth 100000
set_option maxHeartbeats 4000000
set_option genInjectivity false
set_option bootstrap.genMatcherCode false
set_option genSizeOf false
local macro_rules|`(def $i:declId $s:optDeclSig $v:declVal)=>`(noncomputable def $i:declId $s:optDeclSig $v:declVal)
structure PySem.W.Fast:Prop where(tw15288317105467771429 tw17269522757649343706 tw49681667454149103 tw9882282535395633830 tw15548570305486150874 tw6204972636189812049 tw755625853881621170 tw4731268295570638317 tw1504393473265075863 tw15466716304171372187 tw6821939326197934863 tw8506503072685878922 tw760322093692612494 tw6430795844705993883 tw3693589553799694488 tw12239472702397774883 tw3470638274961389 tw14831775844180862613 tw7075654956185963484 tw16505377899805570354 tw6443811067364965180 tw501160485287304352 tw2769015556471773530 tw7047539669296675974 tw1382765087642129791 tw13543382944916583964 tw688471780320807254 tw6643786685288277030 tw15353540707255741320 tw13844642298355946947 tw7421227128474897929 tw10033332243712804051 tw10070573451388880361 tw16821395392204979078 tw1726580122656326836 tw14923686971675296886 tw13593901846921800615 tw5976472172767795612 tw11209840533817398062 tw4264865782505264555 tw9540646380046547606 tw7218255926714312798 tw15032347130986405368 tw11776618110162006789 tw15948636245478647318 tw5083624804912424492 tw14589044667207721361 tw13892248804669619872 tw9347279778545821322 tw6175597672889380443 tw15388098635666400731 tw7014261875131889505 tw468287713160394413 tw11448401739553991733 tw16974284505195007423 tw4410680968310061363 tw7105134357326576609 tw3183776676866470739 tw18337895650091055775 tw9484047597756153428 tw6559761291530307705 tw6765168989289043534 tw2946829965156176597 tw13260961573284603731 tw1273304324472170820 tw156373621471187610 tw15819448643335420314 tw13371117210894129351 tw12609799040594075804 tw4636234705618102336 tw7761765129547763457 tw772829329119005732 tw5719955802844015955 tw15670461362427613920 tw7068952175559400967 tw6532565613451437080 tw8886972295581164774 tw16895982055653795013 tw6111230406206933028 tw4930481328770276198 tw1138109051663909719 tw13754189192151292677 tw5769933942268421390 tw12819780992977823502 tw3493685141425833302 tw6045327322102210162 tw12930978012732040948 tw5183605578328461894 tw1950376563731438570 tw3442578186056584596 tw9279074061912408412 tw12527299299478532496 tw2274884160503931184 tw17649998746311520574 tw14652098724202583947 tw14143439083354392448 tw17618167693985769829 tw1593256150394426902 tw9901170350668584830 tw2119045193736160657 tw6550076836782282833 tw13664432555240123255 tw3693531238405762688 tw6843424312605026426 tw3222607880304853066 tw4437644855177660077 tw5406260373729942083 tw17625944028396717169 tw1940420558605312388 tw11597460181741506405 tw17577181971046740847 tw14319096708258563987 tw7458672893381416545 tw17009605297156251159 tw10755894997373162685 tw16770638015763796000 tw5450236295371503927 tw8187299753658919304 tw17413722636273318509 tw470506020854808655 tw16452271758681197825 tw8499586808260429038 tw10047545426640092492 tw11921059413689700595 tw6442365415513328013 tw5354142940292865285 tw17891956457267955400 tw16759138664468346862 tw1491476946996968343 tw16269037703995767223 tw6894334223784377654 tw5909335601426009998 tw9424304985006583808 tw7657982988563089423 tw1779466037818069155 tw4403673836155828173 tw13842753928405735286 tw1082938640872949383 tw15001586101461227252 tw16289700452458123587 tw10663353286100989061 tw1619525297511269901 tw13083096956723143200 tw13002784113041909539 tw7500892463732671781 tw2712366135630166987 tw2567622672888085079 tw15439674070804703813 tw11396197597423839504 tw17106073356277015048 tw6600010820775589827 tw12002354095852303316 tw14516949890563725438 tw18286340051087111913 tw15310995655625053502 tw7709521628414775816 tw5107543192683864529 tw15230615638917938520 tw1269145159665872144 tw8187494308891399170 tw8822427220172332549 tw11859266070820945917 tw9321419731566348563 tw16147683801344617480 tw6431450840789067251 tw18025832660519833875 tw7237552898770996652 tw17535583774768215463 tw796362802456525149 tw15073047366681743164 tw435716464118740427 tw17265795902180488400 tw2316641884558363852 tw7373462099390019840 tw11313661376837264422 tw5232732667302280951 tw18304200053573521420 tw18381542258548104526 tw12587669996273483 tw9308682711740007134 tw3498172928329388560 tw16556583122296386761 tw3022051389372292526 tw15819990898686436167 tw15523845374845558053 tw7654771525910509812 tw1222172578847953801 tw15403507699093006927 tw11658208385887991500 tw8546739325828695206 tw5127966650526171930 tw16697028938562262140 tw3415341923818307671 tw6666607655865754535 tw3246974937413243285 tw3048860440848035673 tw11257641659674409333 tw5458029617391794118 tw1381302451931507958 tw10735814638484134680 tw4452780598321749415 tw14912660161802768127 tw313902477568959088 tw666199558905160801 tw7342459934266434411 tw10166670600681823121 tw5913416398019242976 tw15218082902216058501 tw16354620378772531808 tw10697486190874294842 tw4017022443933259317 tw10959782542383935855 tw17976726668149680297 tw5048701479004693331 tw5307800915368272954 tw11330118344586464626 tw8011025638463059920 tw4766708238265642541 tw2560513382343554641 tw15589373741808375246 tw16763677698451005510 tw2929734956635118309 tw5303822096631986865 tw10511378843238299508 tw12426925038876514125 tw18383919649365664544 tw2012943044646231543 tw16439175539711755663 tw2745591449060488826 tw2173795715916967322 tw9544456897498914408 tw13381564761277245182 tw17814440863825216569 tw18069654160371833999 tw12446003662710740227 tw2838065616544470475 tw2041241076147093806 tw16800723666269066482 tw2593891737159507417 tw14213248905640939051 tw16752634044150841604 tw1346222195643634058 tw11593348104726249368 tw11843723290326750548 tw14169984428283393115 tw13109799672407755948 tw16628349400341009020 tw371883526883571613 tw13847246725352161218:True)
namespace _X
local macro_rules|`(tactic|omega)=>`(tactic|lia)
def Aa:=@PySem.W.callWith_K0
def Ab:=@List.mergeSort_perm
def Ac:=@List.length_pos_iff
def Ad:=@List.filter_sublist
def FG:=@PySem.wpAny_newList
def FH:=@PySem.wpAny_attempt
def FI:=@PySem.seq_tuple_add
def FJ:=@PySem.W.of_hideAll
def FK:=@PySem.W.kitx_tuple
def FL:=@PySem.W.callWith_K
def FN:=@List.find?_eq_none
def FO:=@Array.append_assoc
def Vc:=@PySem.putSet_of
def Vd:=@PySem.list_append
def Ve:=@PySem.W.kitx_list
def Vf:=@PySem.W.kitx_dict
def Vg:=@List.length_range
def Vh:=@List.foldl_append
def Vi:=@Eq.symm
def Vj:=@Array.toList_push
def Wa:=@PySem.seqIndex_neg
def Wb:=@PySem.concat_meets
def Wc:=@PySem.seqSlot_of
def Wd:=@PySem.P.add_list
def We:=@PySem.IsL.update
def Wf:=@Nat.succ_lt_succ
def Wg:=@List.perm_middle
def Wh:=@List.mem_flatten
def Wi:=@List.ext_getElem
def Wj:=@PySem.Calls.callWith_builtin
def aA:=@List.getElem?_set_ne
def aB:=@List.size_toArray
def aC:=@List.getElem?_map
def aD:=@List.mem_cons
def aE:=@Option.some.inj
def aF:=@Nat.ne_of_lt
def aG:=@Nat.le_trans
def aH:=@if_neg
def aI:=@PySem.mem_of_lookup
def aJ:=@decide_eq_false
def aK:=@List.length_append
def aL:=@List.mem_of_getElem?
def aM:=@List.mem_map
def aN:=@if_pos
def aP:=@List.getElem?_set_self
def aQ:=@Nat.lt_irrefl
def aR:=@PySem.Heap.get?_update_self
def aS:=@List.mem_append
def aV:=@List.map_cons
def aX:=@decide_eq_true
def aY:=@List.getElem?_append_right
def aZ:=@List.mem_append_right
def aa:=@PySem.wpAny_bind
def ae:=@Option.map_eq_some_iff
def af:=@PySem.Heap.get?_push_of_some
def ag:=@PySem.wpAny_pure
def ah:=@Option.bind_eq_some_iff
def ai:=@List.getElem?_eq_getElem
def aj:=@Nat.le_refl
def ak:=@List.length_map
def ao:=@List.getElem?_eq_some_iff
def aq:=@PySem.Heap.lt_size
def aw:=@List.getElem?_append_left
def ay:=@PySem.Heap.get?_push_size
def az:=@Nat.lt_of_lt_of_le
def bA:=@PyProof.Rows.slot_tuple_getitem
def bB:=@List.mem_cons_of_mem
def bC:=@PySem.W.kia_one
def bE:=@Nat.ne_of_gt
def bH:=@PySem.Obj.data_mapFields
def bI:=@PySem.Around.under_plainId
def bL:=@List.replicate_succ
def bN:=@List.append_assoc
def bO:=@PySem.wpAny_call_entry
def bQ:=@List.mem_filter
def bR:=@PySem.Heap.SameBut.update
def bS:=@PySem.wpAny_truthy_bool
def bT:=@PyProof.Rows.callWith_type1
def bU:=@Ne.symm
def bW:=@Nat.lt_trans
def bY:=@Nat.zero_le
def bZ:=@Bool.eq_iff_iff
def ba:=@Array.length_toList
def bf:=@List.flatten_cons
def bg:=@List.mem_singleton
def bh:=@List.mem_append_left
def bj:=@List.eq_nil_of_length_eq_zero
def bp:=@decide_eq_true_iff
def bq:=@PySem.wpAny_newObj_type
def br:=@PySem.wpAny_mono
def bt:=@PySem.Heap.get?_update_other
def bu:=@Bool.and_eq_true
def bw:=@of_decide_eq_true
def bx:=@PySem.wpAny_holding
def cA:=@PySem.W.mg_of
def cD:=@PySem.wpAny_Call_Name_kw
def cG:=@Nat.le_of_lt
def cH:=@Nat.le_of_not_lt
def cJ:=@List.mem_range
def cK:=@List.getElem?_eq_none
def cM:=@PySem.wpAny_isInstance
def cN:=@List.map_append
def cO:=@List.append_nil
def cP:=@Nat.lt_succ_of_lt
def cQ:=@List.mem_iff_getElem
def cR:=@Int.toNat_natCast
def cW:=@beq_eq_false_iff_ne
def cX:=@PySem.wpAny_typeOf
def cY:=@List.length_cons
def cg:=@PySem.wpAny_setState_of
def cq:=@List.lookup_cons
def cw:=@List.length_take
def cz:=@PySem.codeAny_builtin
def dB:=@PySem.wpAny_passesOwn
def dC:=@PySem.plainId_quiet
def dD:=@PySem.Obj.isFreed_of_fields
def dE:=@Nat.lt_succ_self
def dF:=@List.map_map
def dG:=@List.getElem_mem
def dH:=@List.all_eq_true
def dJ:=@PySem.wpAny_pyIter_list
def dM:=@List.getElem?_eq_none_iff
def dN:=@List.drop_eq_getElem_cons
def dO:=@PyProof.Rows.F.plain_set_update_loop
def dP:=@List.filterMap_cons
def dS:=@PySem.wpAny_setField
def dU:=@Option.isSome_iff_exists
def dY:=@Int.emod_nonneg
def dZ:=@Bool.or_eq_true
def dc:=@PySem.W.cellsFrom_some
def de:=@List.pairwise_lt_range
def df:=@Int.emod_lt_of_pos
def dg:=@Bool.false_ne_true
def dk:=@PySem.Heap.size_push
def dn:=@List.length_filter_le
def dq:=@Array.getElem_eq_getD
def dt:=@PySem.wpAny_of_eq
def du:=@Nat.lt_trichotomy
def dz:=@List.nodup_append
def eA:=@decide_eq_false_iff_not
def eB:=@List.getElem?_replicate
def eI:=@PySem.wpAny_standAt
def eJ:=@PyProof.Rows.boot_list
def eK:=@List.pairwise_map
def eM:=@PySem.wpAny_updateSeq
def eP:=@PySem.wpAny_rule
def eQ:=@PySem.tupleKind_room_in1
def eT:=@PySem.wpAny_callSpecial?_slot
def eU:=@decide_eq_decide
def eV:=@List.take_length
def eY:=@PySem.isSubtype_type
def eZ:=@congrArg
def et:=@List.filter_append
def fA:=@List.pairwise_cons
def fB:=@List.mem_cons_self
def fC:=@List.length_eraseIdx_of_lt
def fP:=@Option.isSome_map
def fQ:=@Nat.le_succ
def fR:=@List.reverse_cons
def fS:=@PySem.codeAny_mono
def fT:=@PySem.F.args_tuple_add_2
def fU:=@PyProof.Rows.boot_sorted
def fV:=@List.any_cons
def fY:=@PyProof.Rows.size_push'
def fk:=@List.nodup_cons
def fq:=@PySem.builtinLookup_eq_fast
def fy:=@Nat.lt_of_le_of_lt
def fz:=@List.take_succ
def gF:=@PySem.F.slot_tuple_add
def gG:=@List.not_of_lt_findIdx
def gH:=@PySem.Calls.call_function_entry
def gN:=@List.length_set
def gO:=@List.find?_cons
def gP:=@PySem.F.plain_list_iadd
def gU:=@PySem.wpAny_comprehension_free
def gW:=@PySem.F.slot_dict_get
def gX:=@PyProof.Rows.boot_set
def gY:=@Nat.eq_of_beq_eq_true
def gZ:=@List.length_singleton
def gh:=@PySem.intKind_is
def gi:=@PySem.F.entry_tuple_add
def gj:=@List.filter_cons
def gk:=@List.any_eq_true
def hJ:=@Array.getElem?_toList
def iA:=@PySem.F.plain_sum_loop
def iP:=@PySem.call_meets
def iQ:=@PyProof.Rows.F.entry_set_update_loop
def iR:=@List.getElem?_range
def iz:=@List.pairwise_append
def jD:=@PySem.wpAny_seqItems
def jE:=@PySem.sizeLine_eq
def jF:=@Nat.le_of_eq
def jM:=@List.eraseIdx_eq_take_drop_succ
def jX:=@List.length_drop
def jd:=@PySem.typeLookup_type
def je:=@PySem.F.slot_int_rmul
def jh:=@of_decide_eq_false
def ji:=@beq_iff_eq
def jj:=@Nat.not_lt
def jk:=@List.mem_filterMap
def jx:=@List.findIdx?_eq_some_iff_getElem
def kA:=@PySem.Walks.list
def kB:=@Nat.le_antisymm
def kC:=@List.range_succ
def kE:=@List.of_mem_zip
def kl:=@PySem.Paired.length
def kz:=@PySem.typeIs_int
def lX:=@PySem.Value.isInt_shape
def lY:=@PySem.Obj.cls_mapFields
def lZ:=@List.perm_ext_iff_of_nodup
def mR:=@List.mem_or_eq_of_mem_set
def mS:=@Array.getElem?_eq_getElem
def nN:=@PySem.wpAny_askSetting
def nO:=@PySem.noFill_tuple_add
def nP:=@PySem.F.slot_tuple_mul
def nQ:=@Bool.false_or
def pG:=@PySem.F.plainAttrs_list
def pH:=@PySem.F.args_dict_get_3
def pI:=@PyProof.Rows.boot_tuple
def pJ:=@List.pairwise_mergeSort
def qq:=@PySem.wpAny_execs_nil
def qr:=@PySem.codeAny_of_tree
def qt:=@PySem.F.entry_dict_get
def qu:=@Nat.mul_comm
def qv:=@List.set_set
def qw:=@List.map_nil
def qx:=@List.length_pos_of_mem
def qy:=@Bool.not_not
def qz:=@Array.getElem?_eq_none
def tM:=@PyProof.Rows.assignInOrder_cons
def tN:=@PyProof.Rows.boot_int
def tO:=@List.take_append_drop
def tP:=@List.length_replicate
def tQ:=@List.Pairwise.sublist
def vx:=@PySem.wpAny_runValue
def vy:=@Sum.inl.inj
def vz:=@PySem.Calls.Name_function_global
def zY:=@PySem.wpAny_binaryOp_repeat_ref
def zZ:=@PySem.W.hideAll_get
namespace L2
open PySem PySem.Spec PyProof.Rows
variable{xs vs:List V}{us:List Value}{H H':Hp}{a b f C dx:Addr}{o:HO}{u:Value}{P:Program}{w:World}{h h' base:Heap}{α:Type}{x:Str}{e c tg:Expr}{X:Cx}{pins:List (Addr×Obj)}{Z:St}{s:Shared}{t' i j k:Nat}{ch fp:List Addr}{N ps:List Str}{M:Model}{A:Around}{E Q:Value->Shared->Prop}{v:V}{t:TA}{ta tb te:TE}{pos p:Pos}{K:PySem.W.Frag}{es:List Expr}{body:List Stmt}{op:CmpOp}{r:R2}{fd:FuncData}{CX:lE}{sp:Sp}
noncomputable abbrev Key:=Sum Int Str
def P8:Key->Value->Bool
 |.inl k,v=>Value.isInt k v
 |.inr x,v=>Value.isStrOf x v
def Jd(w:World):Key->Int
 |.inl k=>hashInt k
 |.inr x=>hashStr w x
theorem m8:∀{k:Key} {v:Value},P8 k v=true->(∃i t,k=Sum.inl i/\v=Value.int i t)\/(∃x t,k=Sum.inr x/\v=Value.str x t)
 |.inl i,v,h=>by
  obtain⟨t,e⟩:=lX (k:=i) (v:=v) h;exact .inl ⟨i,t,rfl,e⟩
 |.inr x,v,h=>by
  obtain⟨t,e⟩:=Value.isStrOf_shape (x:=x) (v:=v) h;exact .inr ⟨x,t,rfl,e⟩
theorem RB(i:Int)(t:Tok):P8 (.inl i) (.int i t)=true:=by simp[P8,Value.isInt]
theorem RC(x:Str)(t:Tok):P8 (.inr x) (.str x t)=true:=by simp[P8,Value.isStrOf]
theorem Mt(a b:Int):decide ((Sum.inl a:Key)=Sum.inl b)=(a==b):=by
 by_cases e:a=b
 ·subst e;simp
 ·have h:¬(Sum.inl a:Key)=Sum.inl b:=λq=>e (vy q);rw[aJ h];exact(cW.mpr e).symm
theorem Mw(a b:Str):decide ((Sum.inr a:Key)=Sum.inr b)=decide (a=b):=by
 by_cases e:a=b
 ·subst e;simp
 ·have h:¬(Sum.inr a:Key)=Sum.inr b:=λq=>e (Sum.inr.inj q);rw[aJ h,aJ e]
theorem Mu(a:Int)(b:Str):decide ((Sum.inl a:Key)=Sum.inr b)=false:=aJ (λq=>nomatch q)
theorem Mv(a:Str)(b:Int):decide ((Sum.inr a:Key)=Sum.inl b)=false:=aJ (λq=>nomatch q)
def k6(prog:Program)(w:World):PySem.KeyKind prog w Key where
 is:=P8
 hash:=Jd w
 inj:=λv a b ha hb=>by
  rcases m8 ha with⟨i,t,rfl,rfl⟩|⟨x,t,rfl,rfl⟩
  ·rcases m8 hb with⟨j,u,rfl,e⟩|⟨y,u,rfl,e⟩
   ·injection e with e1 _;rw[e1]
   ·exact nomatch e
  ·rcases m8 hb with⟨j,u,rfl,e⟩|⟨y,u,rfl,e⟩
   ·exact nomatch e
   ·injection e with e1 _;rw[e1]
 byValue:=λk v h=>by
  rcases m8 h with⟨i,t,rfl,rfl⟩|⟨x,t,rfl,rfl⟩<;>rfl
 pyHash:=λhv h=>by
  rcases m8 hv with⟨i,t,rfl,rfl⟩|⟨x,t,rfl,rfl⟩
  ·exact wpAny_pyHash_int h
  ·exact wpAny_pyHash_str h
 eqBool:=λhu hv h=>by
  rcases m8 hu with⟨i,t,rfl,rfl⟩|⟨x,t,rfl,rfl⟩
  ·rcases m8 hv with⟨j,u,rfl,rfl⟩|⟨y,u,rfl,rfl⟩
   ·rw[Mt] at h;exact wpAny_eqBool_int h
   ·rw[Mu] at h;exact SeqAt.EqAt.int_str i t y u _ _ _ _ h
  ·rcases m8 hv with⟨j,u,rfl,rfl⟩|⟨y,u,rfl,rfl⟩
   ·rw[Mv] at h;exact SeqAt.EqAt.str_int x t j u _ _ _ _ h
   ·rw[Mw] at h;exact wpAny_eqBool_str h
 «strs»:=λk x t v h=>by
  rcases m8 h with⟨i,u,rfl,e⟩|⟨y,u,rfl,e⟩
  ·exact nomatch e
  ·injection e with e1 _;subst e1;cases v<;>rfl
theorem DX(prog:Program)(w:World)(k:Key)(v:Value):(k6 prog w).is k v=P8 k v:=rfl
theorem NM(prog:Program)(w:World)(i:Int)(t:Tok):(k6 prog w).is (.inl i) (.int i t)=true:=RB i t
theorem NN(prog:Program)(w:World)(x:Str)(t:Tok):(k6 prog w).is (.inr x) (.str x t)=true:=RC x t
set_option genInjectivity true in
inductive V where
 |bV|bl (b:Bool)|int (i:Int)|str (x:Str)|jT (b:Array UInt8)|oT (b:UInt64)|ref (a:Addr)|ty (n:String)
 deriving DecidableEq
def RelV:V->Value->Prop
 |.bV,u=>u=Value.none
 |.bl b,u=>u=Value.bool b
 |.int i,u=>∃t,u=Value.int i t
 |.str x,u=>∃t,u=Value.str x t
 |.jT b,u=>∃t,u=Value.bytes b t
 |.oT b,u=>∃t,u=Value.float b t
 |.ref a,u=>u=Value.ref a
 |.ty n,u=>u=Value.type n
noncomputable abbrev Vals:List V->List Value->Prop:=Paired RelV
theorem Vals.length{xs:List V}{us:List Value}(r:Vals xs us):xs.length=us.length:=kl r
theorem Vals.get:∀{xs:List V} {us:List Value} {i:Nat} {x:V},Vals xs us->xs[i]?=some x->∃u,us[i]?=some u/\RelV x u
 |_,_,_,_,.nil,e=>by simp at e
 |_,_,0,_,.cons r _,e=>by simp at e;subst e;exact⟨_,rfl,r⟩
 |_,_,i+1,x,.cons _ t,e=>by
  obtain⟨u,h1,h2⟩:=Vals.get (i:=i) (x:=x) t (by simpa using e);exact⟨u,by simpa using h1,h2⟩
theorem Vals.set{x:V}{u:Value}(r:RelV x u):∀{xs:List V} {us:List Value} (i:Nat),Vals xs us->Vals (xs.set i x) (us.set i u)
 |_,_,_,.nil=>.nil
 |_,_,0,.cons _ t=>.cons r t
 |_,_,i+1,.cons q t=>.cons q (Vals.set r i t)
theorem Vals.append{ys:List V}{ws:List Value}(h:Vals xs us)(s:Vals ys ws):Vals (xs++ys) (us++ws):=by
 induction h with
 |nil=>exact s
 |cons r t ih=>exact .cons r ih
theorem Vals.take:∀{xs:List V} {us:List Value} (n:Nat),Vals xs us->Vals (xs.take n) (us.take n)
 |_,_,0,_=>.nil
 |_,_,_+1,.nil=>.nil
 |_,_,n+1,.cons r t=>.cons r (Vals.take n t)
theorem Vals.drop:∀{xs:List V} {us:List Value} (n:Nat),Vals xs us->Vals (xs.drop n) (us.drop n)
 |_,_,0,r=>r
 |_,_,_+1,.nil=>.nil
 |_,_,n+1,.cons _ t=>Vals.drop n t
def E2:Option V->Option Value->Prop
 |some v,some u=>RelV v u
 |none,none=>True
 |_,_=>False
def KV{κ:Type}:List (κ×V)->List (κ×Value)->Prop:=Paired λ(p:κ×V) (q:κ×Value)=>p.1=q.1/\RelV p.2 q.2
def kV:Key->V
 |.inl i=>.int i
 |.inr x=>.str x
inductive HO where
 |lst (xs:List V)
 |tup (xs:List V)
 |dK (kvs:List (Key×V))|dT (kvs:List (List Key×V))
 |set (S:Int->Bool) (n:Nat)
 |ins (C dx:Addr) (fs:List (Str×V))
 |own (x:Addr)
 |xd (fs:List (Str×V))
 |met (f x:Addr)
 |kq (lo hi:Int)
 |iZ (o:Obj) (u:HO)
 |mU (ps:Array Value)
 |ext (φ:Heap->Prop)
noncomputable abbrev Hp:=Addr->Option HO
def upd(H:Hp)(a:Addr)(o:HO):Hp:=λb=>if b=a then some o else H b
theorem n9:upd H a o a=some o:=by unfold upd;rw[aN rfl]
theorem d8(h:b≠a):upd H a o b=H b:=by unfold upd;rw[aH h]
theorem KR{u:HO}(h:H a=some o)(h':H b=some u)(d:o≠u):a≠b:=by
 intro e;subst e;rw[h] at h';exact d (aE h')
theorem j9(h:H a=some o)(h':H b=none):a≠b:=by
 intro e;subst e;rw[h] at h';cases h'
def J8(h:Heap)(a:Addr)(items:Array Value):Prop:=∃o,h.get? a=some o/\o.cls=.type "tuple"/\(∃n,o.data=.seq items n)/\o.dict=none
theorem J8.tup{h:Heap}{a:Addr}{items:Array Value}(x:J8 h a items):IsTup h a items:=let ⟨o,e,c,d,_⟩:=x;⟨o,e,c,d⟩
theorem J8.new(h:Heap)(items:Array Value):J8 (h.push { cls:=.type "tuple",data:=.seq items }) h.objs.size items:=⟨_,ay _ rfl,rfl,⟨_,rfl⟩,rfl⟩
section
variable(P:Program)(w:World)
def k8(H:Hp)(h:Heap)(a:Addr):HO->Prop
 |.lst xs=>xs.length<=sizeLine/\∃(aO:List Value) (n:Nat),Vals xs aO/\h.get? a=some { cls:=.type "list",data:=.seq aO.toArray n }
 |.tup xs=>xs.length<=sizeLine/\∃aO:List Value,Vals xs aO/\J8 h a aO.toArray
 |.dK kvs=>kvs.length<=sizeLine/\(a==sysModules)=false/\∃vs,KV kvs vs/\h.DictOf (k6 P w) a vs
 |.dT kvs=>kvs.length<=sizeLine/\(a==sysModules)=false/\∃xs:List (List Key×Addr×Value),
   Paired (λ(p:List Key×V) (q:List Key×Addr×Value)=>p.1=q.1/\H q.2.1=some (.tup (p.1.map kV))/\RelV p.2 q.2.2) kvs xs /\
   ∃o es ep,h.get? a=some o/\o.ExactDict/\o.data=.dict es ep/\es.toList=xs.map (entryOfKey (tupleKind (k6 P w)))/\(xs.map (·.1)).Nodup
 |.set S n=>h.SetOf (intKind P w) a S n
 |.ins C dx fs=>H dx=some (.own a)/\fs.length<=1000/\dx≠a/\h.get? a=some (PySem.W.instObj C dx) /\
   ∃mA,h.Ns1 dx mA/\(∀f,E2 (fs.lookup f) (mA f))/\PySem.Within mA (fs.map (·.1))
 |.own _=>∃o,h.get? a=some o
 |.xd fs=>∃mA,h.Ns1 a mA/\∀f,E2 (fs.lookup f) (mA f)
 |.kq lo hi=>∃t u v,h.get? a=some { cls:=.type "range",data:=.fields #[.int lo t,.int hi u,.int 1 v] }
 |.iZ o u=>h.get? a=some o/\k8 H h a u
 |.mU ps=>h.get? a=some { cls:=.none,data:=.fields ps }
 |.met f x=>h.get? a=some (PySem.W.methodObj (.ref f) (.ref x))
 |.ext φ=>φ h/\(∃o,h.get? a=some o)/\∀h1 h2:Heap,φ h1->(∀o,h1.get? a=some o->h2.get? a=some o)->φ h2
def fH(H:Hp)(h:Heap):Prop:=∀a o,H a=some o->k8 P w H h a o
end
theorem k8.lt(x:k8 P w H h a o):a<h.objs.size:=by
 cases o with
 |lst xs=>obtain⟨_,_,_,_,e⟩:=x;exact aq e
 |tup xs=>obtain⟨_,_,_,p⟩:=x;exact p.tup.lt
 |dK kvs=>obtain⟨_,_,_,_,o,_,_,e,_⟩:=x;exact aq e
 |dT kvs=>obtain⟨_,_,_,_,o,_,_,e,_⟩:=x;exact aq e
 |set S n=>obtain⟨o,_,_,_,e,_⟩:=x;exact aq e
 |ins C dx fs=>obtain⟨_,_,_,e,_⟩:=x;exact aq e
 |own y=>obtain⟨_,e⟩:=x;exact aq e
 |xd fs=>obtain⟨_,⟨_,_,_,e,_⟩,_⟩:=x;exact aq e
 |kq lo hi=>obtain⟨_,_,_,e⟩:=x;exact aq e
 |iZ ob u=>obtain⟨e,_⟩:=x;exact aq e
 |mU ps=>exact aq (show h.get? a=some _ from x)
 |met f y=>exact aq (show h.get? a=some _ from x)
 |ext φ=>obtain⟨_,⟨_,e⟩,_⟩:=x;exact aq e
theorem Paired.Cs{β:Type}{F G:α->β->Prop}{rq:List α}{rn:List β}(h:Paired F rq rn)(f:∀a b,F a b->G a b):Paired G rq rn:=by
 induction h with
 |nil=>exact .nil
 |cons r t ih=>exact .cons (f _ _ r) ih
theorem k8.T7(x:k8 P w H h a o)(k:∀b u,(b=a\/H b=some (.own a))->h.get? b=some u->h'.get? b=some u)(ho:∀b,H b=some (.own a)->H' b=some (.own a))(ht:∀b xs,H b=some (.tup xs)->H' b=some (.tup xs)):k8 P w H' h' a o:=by
 induction o with
 |lst xs=>obtain⟨z,aO,n,r,e⟩:=x;exact⟨z,aO,n,r,k _ _ (.inl rfl) e⟩
 |tup xs=>obtain⟨z,aO,r,ob,e,c⟩:=x;exact⟨z,aO,r,ob,k _ _ (.inl rfl) e,c⟩
 |dK kvs=>obtain⟨z,y,vs,r,ob,es,ep,e,c⟩:=x;exact⟨z,y,vs,r,ob,es,ep,k _ _ (.inl rfl) e,c⟩
 |dT kvs =>
  obtain⟨z,y,xs,r,ob,es,ep,e,c⟩:=x;exact⟨z,y,xs,Paired.Cs r λp q z=>⟨z.1,ht _ _ z.2.1,z.2.2⟩,ob,es,ep,k _ _ (.inl rfl) e,c⟩
 |set S n=>obtain⟨ob,es,ep,t,e,c⟩:=x;exact⟨ob,es,ep,t,k _ _ (.inl rfl) e,c⟩
 |ins C dx fs =>
  obtain⟨d,z,ne,e,mA,⟨od,es,ep,e2,c⟩,r⟩:=x;exact⟨ho _ d,z,ne,k _ _ (.inl rfl) e,mA,⟨od,es,ep,k _ _ (.inr d) e2,c⟩,r⟩
 |own y=>obtain⟨ob,e⟩:=x;exact⟨ob,k _ _ (.inl rfl) e⟩
 |xd fs=>obtain⟨mA,⟨od,es,ep,e,c⟩,r⟩:=x;exact⟨mA,⟨od,es,ep,k _ _ (.inl rfl) e,c⟩,r⟩
 |kq lo hi=>obtain⟨t,u,v,e⟩:=x;exact⟨t,u,v,k _ _ (.inl rfl) e⟩
 |iZ ob u ih=>obtain⟨e,q⟩:=x;exact⟨k _ _ (.inl rfl) e,ih q⟩
 |mU ps =>
  have e:h.get? a=some { cls:=.none,data:=.fields ps }:=x;show h'.get? a=some { cls:=.none,data:=.fields ps };exact k a _ (.inl rfl) e
 |met f y =>
  have e:h.get? a=some (PySem.W.methodObj (.ref f) (.ref y)):=x;show h'.get? a=some (PySem.W.methodObj (.ref f) (.ref y));exact k a _ (.inl rfl) e
 |ext φ=>obtain⟨p,⟨o,e⟩,st⟩:=x;exact⟨st _ _ p λo q=>k _ _ (.inl rfl) q,⟨o,k _ _ (.inl rfl) e⟩,st⟩
theorem fH.lt(x:fH P w H h)(e:H a=some o):a<h.objs.size:=(x a o e).lt
theorem fH.fresh(x:fH P w H h)(e:h.objs.size<=a):H a=none:=by
 cases q:H a with
 |none=>rfl
 |some u=>exact absurd (az (x.lt q) e) (aQ _)
theorem fH.kept(x:fH P w H h)(k:∀b u,h.get? b=some u->h'.get? b=some u):fH P w H h':=λa o e =>
 (x a o e).T7 (λb u _ q=>k b u q) (λ_ q=>q) λ_ _ q=>q
theorem fH.laid(x:fH P w H h)(k:∀b u,h.get? b=some u->h'.get? b=some u)(hp:h.objs.size<=a)(new:k8 P w (upd H a o) h' a o):fH P w (upd H a o) h':=λb u e=>by
 have hn:=x.fresh hp;by_cases hb:b=a
 ·subst hb;rw[n9] at e;cases e;exact new
 ·rw[d8 hb] at e;exact(x b u e).T7 (λc v _ q=>k c v q) (λc q=>by rw[d8 (j9 q hn)];exact q) λc xs q=>by rw[d8 (j9 q hn)];exact q
def Rd(H:Hp)(a:Addr)(u:HO):Prop:=H a=some u\/∃o,H a=some (.iZ o u)
theorem Rd.ok{u:HO}(r:Rd H a u)(x:fH P w H h):k8 P w H h a u:=by
 rcases r with r|⟨o,r⟩
 ·exact x a u r
 ·obtain⟨_,q⟩:=x a _ r;exact q
def tG:Option HO->Prop
 |some (.lst _)=>True
 |some (.dK _)=>True
 |some (.dT _)=>True
 |some (.set _ _)=>True
 |some (.ins _ _ _)=>True
 |some (.ext _)=>True
 |_=>False
section
variable{x e:Addr}{o':HO}
theorem fH.write(ok:fH P w H h)(mu:tG (H x))(he:e=x\/H e=some (.own x))(k:∀b u,b≠e->h.get? b=some u->h'.get? b=some u)(nt:∃u,h'.get? e=some u)(new:k8 P w (upd H x o') h' x o'):fH P w (upd H x o') h':=λb u q=>by
 have qZ:∀c y,H c=some (.own y)->c≠x:=λc y r z=>by subst z;rw[r] at mu;exact mu
 have vX:∀c xs,H c=some (.tup xs)->c≠x:=λc xs r z=>by subst z;rw[r] at mu;exact mu
 by_cases hb:b=x
 ·subst hb;rw[n9] at q;cases q;exact new
 ·rw[d8 hb] at q;by_cases oK:b=e
  ·have q':H b=some (.own x):=by
    rcases he with z|z
    ·exact absurd (oK.trans z) hb
    ·rw[oK];exact z
   rw[q] at q';cases q';obtain⟨v,hv⟩:=nt;exact⟨v,by rw[oK];exact hv⟩
  ·refine(ok b u q).T7 (λc v hc r=>k c v ?_ r) (λc r=>by rw[d8 (qZ c b r)];exact r) λc xs r=>by rw[d8 (vX c xs r)];exact r
   rcases hc with rfl|hc
   ·exact oK
   ·rintro rfl;rcases he with z|z
    ·exact qZ c b hc z
    ·rw[hc] at z;cases z;exact hb rfl
end
structure Un(fs ex:List Addr)(H H':Hp)(h h':Heap):Prop where
 keep:∀b o,h.get? b=some o->H b=none->b∉fs->b∉ex->h'.get? b=some o
 slot:∀b o,h.get? b=some o->H b=none->b∈fs->b∉ex->∃sl,h'.get? b=some { o with slots:=sl }
 free:∀b o,h.get? b=some o->H b=none->b∉ex->H' b=none
 there:∀b o,h.get? b=some o->b∉ex->∃o',h'.get? b=some o'
 hV:∀b xs,H b=some (.tup xs)->H' b=some (.tup xs)
 gL:∀b o u,H b=some (.iZ o u)->H' b=some (.iZ o u)
 hW:∀b ps,H b=some (.mU ps)->∃more,H' b=some (.mU (ps++more))
section
variable{fs ex:List Addr}{H1:Hp}{h1:Heap}{x e:Addr}
theorem Un.any(u:Un fs ex H H1 h h1){ob:Obj}(q:h.get? b=some ob)(n:H b=none)(hx:b∉ex):∃sl,h1.get? b=some { ob with slots:=sl }:=by
 by_cases hb:b∈fs
 ·exact u.slot b ob q n hb hx
 ·exact⟨ob.slots,u.keep b ob q n hb hx⟩
theorem Un.kept(k:∀b u,h.get? b=some u->h'.get? b=some u):Un fs ex H H h h' :=
 ⟨λb ob q _ _ _=>k b ob q,λb ob q _ _ _=>⟨ob.slots,k b ob q⟩,λ_ _ _ n _=>n,λb ob q _=>⟨ob,k b ob q⟩,λ_ _ q=>q,λ_ _ _ q=>q,λ_ ps q=>⟨#[],by rw[q];simp⟩⟩
theorem Un.refl:Un fs ex H H h h:=Un.kept λ_ _ q=>q
theorem Un.laid(k:∀b u,h.get? b=some u->h'.get? b=some u)(hp:h.objs.size<=a)(hn:H a=none):Un fs ex H (upd H a o) h h' where
 keep:=λb u q _ _ _=>k b u q
 slot:=λb u q _ _ _=>⟨u.slots,k b u q⟩
 free:=λb u q n _=>by rw[d8 (aF (az (aq q) hp))];exact n
 there:=λb u q _=>⟨u,k b u q⟩
 hV:=λb xs q=>by rw[d8 (j9 q hn)];exact q
 gL:=λb u xs q=>by rw[d8 (j9 q hn)];exact q
 hW:=λb ps q=>⟨#[],by rw[d8 (j9 q hn),q];simp⟩
theorem Un.write(mu:tG (H x))(he:e=x\/H e=some (.own x))(k:∀b u,b≠e->h.get? b=some u->h'.get? b=some u)(nt:∃u,h'.get? e=some u):Un fs ex H (upd H x o) h h':=by
 have hx:∀b,H b=none->b≠x:=λb n z=>by subst z;rw[n] at mu;exact mu
 have hb:∀b,H b=none->b≠e:=λb n z=>by
  subst z;rcases he with r|r
  ·exact hx b n r
  ·rw[n] at r;cases r
 have hm:∀b u,H b=some u->¬tG (some u)->b≠x:=λb u q nm z=>by subst z;rw[q] at mu;exact nm mu
 refine ⟨λb u q n _ _=>k b u (hb b n) q,λb u q n _ _=>⟨u.slots,k b u (hb b n) q⟩,λb u q n _=>by rw [d8 (hx b n)];exact n,λb u q _=>?_,
  λb xs q=>by rw [d8 (hm b _ q λz=>z)];exact q,λb u xs q=>by rw [d8 (hm b _ q λz=>z)];exact q,λb ps q=>⟨#[],by rw [d8 (hm b _ q λz=>z),q];simp⟩⟩
 by_cases oK:b=e
 ·subst oK;exact nt
 ·exact⟨u,k b u oK q⟩
end
def nV(h:Heap)(H:Hp):List Addr:=(List.range h.objs.size).filter λa=>(H a).isSome
def V2(h:Heap)(H:Hp):Heap:=PySem.W.hideAll h (nV h H)
theorem Rw(h:Heap)(H:Hp):(V2 h H).objs.size=h.objs.size:=PySem.W.hideAll_size _ _
theorem PV{o:Obj}(e:h.get? b=some o)(n:H b=none):(V2 h H).get? b=some o :=
 zZ _ e λhm=>by
  have q:(H b).isSome=true:=(bQ.mp hm).2;rw[n] at q;simp at q
theorem UI{o:Obj}(e:(V2 h H).get? b=some o):h.get? b=some o/\H b=none:=by
 have e':h.get? b=some o:=FJ (nV h H) e;refine⟨e',?_⟩;cases q:H b with
 |none=>rfl
 |some x =>
  have hm:b∈nV h H:=bQ.mpr ⟨cJ.mpr (aq e'),by simp[q]⟩;have z:(V2 h H).get? b=none:=PySem.W.hideAll_none (nV h H) hm;rw[z] at e;cases e
structure Mod(K:PySem.W.Frag)(mg:Str->Option Value)(base:Heap):Prop where
 lK:K.In base
 glob:base.Ns mainGlobals mg
 blt:∃mb,base.Ns builtinsNs mb/\∀x:Str,x≠"__name__"->mb x=bootBuiltins x
 nolimit:base.NoLimit
structure Cx where
 prog:Program
 w:World
 K:PySem.W.Frag
 mg:Str->Option Value
 base:Heap
 A:Around
 N:List Str
 cV:Shared
 iF:Hp
 env:Env
 outer:List Env
 stack:List Env
 ex:List Addr
 fn:Str->Bool
 calm:Bool
 pn:List (Addr×Obj)
 xe:Value->Shared->Prop
def gg(l:List Env):List Addr:=l.filterMap (·.frame)
noncomputable abbrev Cx.fs(X:Cx):List Addr:=gg X.outer
def vo(sc:Scope)(x:Str):Prop:=sc.names.lookup x=some .local\/sc.names.lookup x=some .cell\/sc.names.lookup x=some .free
def Loc(sc:Scope)(x:Str):Prop:=sc.names.lookup x=some .local\/sc.names.lookup x=some .cell
def Look(env:Env)(h:Heap)(m:Str->Option Value)(x:Str)(u:Value):Prop :=
 (env.kindOf x=some .local/\m x=some u)\/((env.kindOf x=some .cell\/env.kindOf x=some .free)/\∃c,env.cells.lookup x=some c/\h.IsCell c (some u))
structure Cx.Ok(X:Cx):Prop where
 mod:Mod X.K X.mg X.base
 kind:X.env.scope.kind=.function
 glob:X.env.globals=mainGlobals
 blt:X.env.builtins=builtinsNs
 above:X.cV.heap.objs.size<=X.env.locals
 inj:∀x y c,X.env.cells.lookup x=some c->X.env.cells.lookup y=some c->x=y
 has:∀x,(X.env.kindOf x=some .cell\/X.env.kindOf x=some .free)->∃c,X.env.cells.lookup x=some c
 sU:∀x c,X.fn x=true->X.env.cells.lookup x=some c->X.cV.heap.objs.size<=c
 hd:X.calm=true->X.A.handled=none
 frames:X.A.frames=some X.stack
 tW:X.stack=X.outer\/(X.stack=X.env::X.outer/\X.env.frame=some X.env.locals)
 BI:∀b∈X.ex,b≠X.env.locals/\∀x c,X.env.cells.lookup x=some c->c≠b
 bs:∀b o,X.base.get? b=some o->X.cV.heap.get? b=some o/\X.iF b=none
 nJ:X.base.objs.size<=X.cV.heap.objs.size
 kQ:∀b o,X.base.get? b=some o->b∉X.ex
 mJ:∀b∈X.ex,b∉X.fs
 M4:X.cV.heap.FunFrames X.base X.outer
 oS:∀b∈X.fs,X.iF b=none
structure Inv(X:Cx)(pins:List (Addr×Obj))(Z:List (Option V))(H:Hp)(s:Shared):Prop where
 ok:X.Ok
 os:s.os=X.cV.os
 bare:AllBare s.gens
 base:Un X.fs X.ex X.iF H X.cV.heap s.heap
 loc:∃m,s.heap.Ns X.env.locals m/\∀(i:Nat) (x:Str) (v:V),X.N[i]?=some x->Z[i]?=some (some v)->vo X.env.scope x->∃u,RelV v u/\Look X.env s.heap m x u
 cell:∀x c,X.env.cells.lookup x=some c->∃v,s.heap.IsCell c v
 free:H X.env.locals=none
 fi:∀x c,X.env.cells.lookup x=some c->H c=none
 pin:∀p∈X.pn++pins,s.heap.get? p.1=some p.2/\H p.1=none/\p.1≠X.env.locals/\p.1∉X.fs/\∀v,p.2.data≠.cell v
 bD:fH X.prog X.w H s.heap
 len:Z.length=X.N.length
section
variable{Z:List (Option V)}
theorem Cx.Ok.Jo(ok:X.Ok){o:Obj}(e:X.base.get? b=some o):b∉X.fs:=λhb=>by
 have:=(ok.M4.mem hb).1;rw[e] at this;cases this
theorem Inv.bs(I:Inv X pins Z H s):∀b o,X.base.get? b=some o->s.heap.get? b=some o/\H b=none:=λb o e =>
 ⟨I.base.keep b o (I.ok.bs b o e).1 (I.ok.bs b o e).2 (I.ok.Jo e) (I.ok.kQ b o e),I.base.free b o (I.ok.bs b o e).1 (I.ok.bs b o e).2 (I.ok.kQ b o e)⟩
theorem Inv.bk(I:Inv X pins Z H s):∀b o,X.base.get? b=some o->s.heap.get? b=some o:=λb o e=>(I.bs b o e).1
theorem Inv.mod(I:Inv X pins Z H s):Mod X.K X.mg X.base:=I.ok.mod
theorem Inv.gb(I:Inv X pins Z H s):X.K.In s.heap:=I.ok.mod.lK.keeps I.bk
theorem Inv.lt(I:Inv X pins Z H s):X.env.locals<s.heap.objs.size:=let ⟨_,hn,_⟩:=I.loc;hn.lt
theorem Inv.sz(I:Inv X pins Z H s):X.cV.heap.objs.size<=s.heap.objs.size:=aG I.ok.above (cG I.lt)
theorem Inv.sZ(I:Inv X pins Z H s)(h:s.heap.objs.size<=a):a∉X.fs:=λhb=>by
 obtain⟨_,o,ho,_⟩:=I.ok.M4.mem hb;exact absurd (az (aq ho) (aG I.sz h)) (aQ _)
theorem Inv.oZ(I:Inv X pins Z H s):∀x c,X.env.cells.lookup x=some c->c≠X.env.locals:=λx c e z=>by
 obtain⟨v,o,ho,hd⟩:=I.cell x c e;obtain⟨m,⟨o',es,ep,kX,wR,_⟩,_⟩:=I.loc;rw[z,kX] at ho;cases ho;rw[wR] at hd;cases hd
theorem Inv.M4(I:Inv X pins Z H s):s.heap.FunFrames X.base X.outer:=by
 have all:∀(l:List Env),(∀b∈gg l,b∈X.fs)->X.cV.heap.FunFrames X.base l->s.heap.FunFrames X.base l:=by
  intro l
  induction l with
  |nil=>intro _ _;trivial
  |cons env r ih =>
   intro hs hl;obtain⟨hk,⟨L,o,hf,hn,ho,hd⟩,hr⟩:=hl;have hL:L∈X.fs:=hs L (by unfold gg;rw[dP,hf];exact fB);obtain⟨sl,e⟩:=I.base.slot L o ho (I.ok.oS L hL) hL λz=>I.ok.mJ L z hL;exact⟨hk,⟨L,_,hf,hn,e,hd⟩,ih (λb hb=>hs b (by unfold gg;rw[dP,hf];exact bB _ hb)) hr⟩
 exact all X.outer (λ_ hb=>hb) I.ok.M4
theorem Inv.stack(I:Inv X pins Z H s):s.heap.FunFrames X.base X.stack:=by
 rcases I.ok.tW with e|⟨e,hf⟩
 ·rw[e];exact I.M4
 ·rw[e];obtain⟨m,hn,_⟩:=I.loc;refine .cons (by rw[I.ok.kind];decide) hf hn ?_ I.M4;exact Heap.get?_none_of_le (aG I.ok.nJ I.ok.above)
theorem Inv.G0(I:Inv X pins Z H s):∀b∈gg X.stack,b∈X.env.locals::X.fs:=λb hb=>by
 rcases I.ok.tW with e|⟨e,hf⟩
 ·rw[e] at hb;exact bB _ hb
 ·rw[e] at hb;unfold gg at hb;rw[dP,hf] at hb;exact hb
theorem Inv.yU(I:Inv X pins Z H s):∀b∈gg X.stack,H b=none:=λb hb=>by
 rcases aD.mp (I.G0 b hb) with e|hb
 ·rw[e];exact I.free
 ·obtain⟨_,o,ho,_⟩:=I.ok.M4.mem hb;exact I.base.free b o ho (I.ok.oS b hb) λz=>I.ok.mJ b z hb
theorem Inv.step{g':Array GenState}{t':Nat}{d':Drawn}{ch:List Addr}(I:Inv X pins Z H s)(lP:∀b∈ch,(b∈X.ex\/X.cV.heap.objs.size<=b)/\b≠X.env.locals/\(∀x c,X.env.cells.lookup x=some c->c≠b)/\∀p∈X.pn++pins,p.1≠b)(keep:∀b o,b≠X.env.locals->b∉X.fs->b∉ch->s.heap.get? b=some o->H b=none->h'.get? b=some o)(slot:∀b o,b≠X.env.locals->b∈X.fs->b∉ch->s.heap.get? b=some o->H b=none->∃sl,h'.get? b=some { o with slots:=sl })(free:∀b o,b∉ch->s.heap.get? b=some o->H b=none->H' b=none)(there:∀b o,b∉ch->s.heap.get? b=some o->∃o',h'.get? b=some o')(hV:∀b xs,H b=some (.tup xs)->H' b=some (.tup xs))(gL:∀b o u,H b=some (.iZ o u)->H' b=some (.iZ o u))(hW:∀b ps,H b=some (.mU ps)->∃more,H' b=some (.mU (ps++more)))(ns:∀m,s.heap.Ns X.env.locals m->h'.Ns X.env.locals m)(bD:fH X.prog X.w H' h')(hg:AllBare g') :
  Inv X pins Z H' { s with heap:=h',gens:=g',drawn:=d',toks:=t' }:=by
 have AL:∀b o,X.cV.heap.get? b=some o->b≠X.env.locals:=λb o e=>aF (az (aq e) I.ok.above);have mY:∀b o,X.cV.heap.get? b=some o->b∉X.ex->b∉ch:=λb o e hx hb=>by
  rcases(lP b hb).1 with z|z
  ·exact hx z
  ·exact absurd (az (aq e) z) (aQ _)
 have cellK:∀x c,X.env.cells.lookup x=some c->∀v,s.heap.IsCell c v->h'.IsCell c v:=λx c e v bc=>by
  obtain⟨o,ho,hd⟩:=bc;have rm:c∉ch:=λz=>(lP c z).2.2.1 x c e rfl;by_cases hc:c∈X.fs
  ·obtain⟨sl,q⟩:=slot c o (I.oZ x c e) hc rm ho (I.fi x c e);exact⟨_,q,hd⟩
  ·exact⟨o,keep c o (I.oZ x c e) hc rm ho (I.fi x c e),hd⟩
 refine⟨I.ok,I.os,hg,⟨λb o e n hb hx=>?_,λb o e n hb hx=>?_,λb o e n hx=>?_,λb o e hx=>?_,λb xs e=>hV b xs (I.base.hV b xs e),λb o xs e=>gL b o xs (I.base.gL b o xs e),λb ps e=>?_⟩,?_,λx c e=>?_,?_,λx c e=>?_,λp hp=>?_,bD,I.len⟩
 ·exact keep b o (AL b o e) hb (mY b o e hx) (I.base.keep b o e n hb hx) (I.base.free b o e n hx)
 ·obtain⟨sl,e1⟩:=I.base.slot b o e n hb hx;obtain⟨Gg,e2⟩:=slot b _ (AL b o e) hb (mY b o e hx) e1 (I.base.free b o e n hx);exact⟨Gg,e2⟩
 ·obtain⟨o',e1⟩:=I.base.there b o e hx;exact free b o' (mY b o e hx) e1 (I.base.free b o e n hx)
 ·obtain⟨o',e1⟩:=I.base.there b o e hx;exact there b o' (mY b o e hx) e1
 ·obtain⟨m1,e1⟩:=I.base.hW b ps e;obtain⟨m2,e2⟩:=hW b _ e1;exact⟨m1++m2,by rw[e2,FO]⟩
 ·obtain⟨m,hn,hl⟩:=I.loc;refine⟨m,ns m hn,λi x v e1 e2 e3=>?_⟩;obtain⟨u,r,l⟩:=hl i x v e1 e2 e3;refine⟨u,r,?_⟩;rcases l with l|⟨k,c,e,z⟩
  ·exact .inl l
  ·exact .inr ⟨k,c,e,cellK x c e _ z⟩
 ·obtain⟨v,z⟩:=I.cell x c e;exact⟨v,cellK x c e v z⟩
 ·obtain⟨m,⟨o,_,_,ho,_⟩,_⟩:=I.loc;exact free _ o (λz=>(lP _ z).2.1 rfl) ho I.free
 ·obtain⟨v,o,ho,hd⟩:=I.cell x c e;exact free c o (λz=>(lP c z).2.2.1 x c e rfl) ho (I.fi x c e)
 ·obtain⟨e,n,ne,nf,d⟩:=I.pin p hp;have rm:p.1∉ch:=λz=>(lP p.1 z).2.2.2 p hp rfl;exact⟨keep p.1 p.2 ne nf rm e n,free p.1 p.2 rm e n,ne,nf,d⟩
theorem Inv.un{t':Nat}(I:Inv X pins Z H s)(u:Un X.fs [] H H' s.heap h')(bD:fH X.prog X.w H' h'):Inv X pins Z H' { s with heap:=h',toks:=t' }:=by
 obtain⟨m,⟨o,es,ep,ho,r⟩,_⟩:=id I.loc;obtain⟨sl,hL⟩:=u.any ho I.free (by simp);exact I.step (g':=s.gens) (d':=s.drawn) (ch:=[]) (λ_ z=>nomatch z) (λb o _ hb _ e n=>u.keep b o e n hb (by simp)) (λb o _ hb _ e n=>u.slot b o e n hb (by simp)) (λb o _ e n=>u.free b o e n (by simp)) (λb o _ e=>u.there b o e (by simp)) u.hV u.gL u.hW (λm' hm=>by
  obtain⟨o',xH,xI,kX,r'⟩:=hm;rw[ho] at kX;cases kX;exact ⟨_,xH,xI,hL,r'⟩) bD I.bare
theorem Inv.call{g':Array GenState}{t':Nat}{d':Drawn}(I:Inv X pins Z H s)(u:Un (gg X.stack) ch H H' s.heap h')(bD:fH X.prog X.w H' h')(hg:AllBare g')(lP:∀b∈ch,(b∈X.ex\/X.cV.heap.objs.size<=b)/\b≠X.env.locals/\(∀x c,X.env.cells.lookup x=some c->c≠b)/\∀p∈X.pn++pins,p.1≠b) :
  Inv X pins Z H' { s with heap:=h',gens:=g',drawn:=d',toks:=t' }:=by
 obtain⟨m,⟨o,es,ep,ho,r⟩,_⟩:=id I.loc;obtain⟨sl,hL⟩:=u.any ho I.free λz=>(lP _ z).2.1 rfl;exact I.step (ch:=ch) lP (λb o hL hb hc e n=>u.keep b o e n (λz=>(aD.mp (I.G0 b z)).elim hL hb) hc) (λb o _ _ hc e n=>u.any e n hc) (λb o hc e n=>u.free b o e n hc) (λb o hc e=>u.there b o e hc) u.hV u.gL u.hW (λm' hm=>by
  obtain⟨o',xH,xI,kX,r'⟩:=hm;rw[ho] at kX;cases kX;exact ⟨_,xH,xI,hL,r'⟩) bD hg
theorem Inv.turned{t':Nat}{it:Addr}(I:Inv X pins Z H s)(k:∀b o,b≠it->s.heap.get? b=some o->h'.get? b=some o)(hn:H it=none)(hL:it≠X.env.locals)(h1:it∈X.ex\/X.cV.heap.objs.size<=it)(h2:∀x c,X.env.cells.lookup x=some c->c≠it)(h3:∀p∈X.pn++pins,p.1≠it):Inv X pins Z H { s with heap:=h',toks:=t' }:=by
 have AK:∀b u,H b=some u->b≠it:=λb u e z=>by rw[z,hn] at e;cases e
 refine I.step (g':=s.gens) (d':=s.drawn) (ch:=[it]) (λb hb=>?_) (λb o _ _ hc e _=>k b o (λz=>hc (by simp[z])) e) (λb o _ _ hc e _=>⟨o.slots,k b o (λz=>hc (by simp[z])) e⟩) (λ_ _ _ _ n=>n)
  (λb o hc e=>⟨o,k b o (λz=>hc (by simp[z])) e⟩) (λ_ _ e=>e) (λ_ _ _ e=>e) (λb ps e=>⟨#[],by rw[e];simp⟩) (λm hm=>?_) (λb u e=>?_) I.bare
 ·have e:b=it:=by simpa using hb
  subst e;exact⟨h1,hL,h2,h3⟩
 ·obtain⟨o,es,ep,ho,r⟩:=hm;exact⟨o,es,ep,k _ o (bU hL) ho,r⟩
 ·refine(I.bD b u e).T7 (λc v hc q=>k c v ?_ q) (λ_ q=>q) λ_ _ q=>q;rcases hc with z|z
  ·rw[z];exact AK b u e
  ·exact AK c _ z
theorem Inv.tok(I:Inv X pins Z H s)(t:Nat):Inv X pins Z H { s with toks:=t }:=I.un (h':=s.heap) (t':=t) Un.refl I.bD
theorem Inv.kept{t':Nat}(I:Inv X pins Z H s)(k:∀b u,s.heap.get? b=some u->h'.get? b=some u):Inv X pins Z H { s with heap:=h',toks:=t' }:=I.un (Un.kept k) (I.bD.kept k)
theorem Inv.laid{a:Addr}{o:HO}{t':Nat}(I:Inv X pins Z H s)(k:∀b u,s.heap.get? b=some u->h'.get? b=some u)(hp:s.heap.objs.size<=a)(new:k8 X.prog X.w (upd H a o) h' a o) :
  Inv X pins Z (upd H a o) { s with heap:=h',toks:=t' }:=I.un (Un.laid k hp (I.bD.fresh hp)) (I.bD.laid k hp new)
theorem Inv.write{x e:Addr}{o:HO}{t':Nat}(I:Inv X pins Z H s)(mu:tG (H x))(he:e=x\/H e=some (.own x))(k:∀b u,b≠e->s.heap.get? b=some u->h'.get? b=some u)(nt:∃u,h'.get? e=some u)(new:k8 X.prog X.w (upd H x o) h' x o):Inv X pins Z (upd H x o) { s with heap:=h',toks:=t' }:=I.un (Un.write mu he k nt) (I.bD.write mu he k nt new)
theorem Inv.F4{jN:List (Addr×Obj)}(I:Inv X pins Z H s)(h:∀p∈jN,s.heap.get? p.1=some p.2/\H p.1=none/\p.1≠X.env.locals/\p.1∉X.fs/\∀v,p.2.data≠.cell v):Inv X jN Z H s :=
 ⟨I.ok,I.os,I.bare,I.base,I.loc,I.cell,I.free,I.fi,λp hp=>(aS.mp hp).elim (λz=>I.pin p (bh _ z)) (h p),I.bD,I.len⟩
theorem Dj(hN:N.Nodup)(a:N[i]?=some x)(b:N[j]?=some x):i=j:=by
 obtain⟨h1,e1⟩:=ao.mp a;obtain⟨h2,e2⟩:=ao.mp b;exact(List.getElem_inj hN).mp (e1.trans e2.symm)
theorem DL{Q:Unit->Shared->Prop}(I:Inv X pins Z H s)(hN:X.N.Nodup)(hi:X.N[i]?=some x)(hx:Loc X.env.scope x)(r:RelV v u)(h:∀s',Inv X pins (Z.set i (some v)) H s'->(∃a,Heap.SameBut a s.heap s'.heap/\(a=X.env.locals\/X.env.cells.lookup x=some a))->Q () s')(hf:X.fn x=true\/X.env.scope.names.lookup x=some .local:=by first|exact .inl rfl|exact .inr rfl|assumption):wpAny M A (storeName X.env x u) Q E s:=by
 obtain⟨m,hn,hl⟩:=id I.loc;have wV:(X.env.scope.kind==.class||(X.env.scope.kind==.module&&X.env.locals != X.env.globals))=false:=by rw[I.ok.kind];rfl
 have rW:i<Z.length:=by rw[I.len];exact(ao.mp hi).1
 have oZ:=I.oZ;have tracked:∀{a:Addr} {h':Heap},(∃o,s.heap.get? a=some o/\H a=none)->Heap.SameBut a s.heap h'->fH X.prog X.w H h':=λ{a h'} ha hs b ob e=>by
  obtain⟨_,_,kZ⟩:=ha;refine(I.bD b ob e).T7 (λc w' hc q=>(hs.2 c ?_).trans q) (λ_ q=>q) λ_ _ q=>q;rintro rfl;rcases hc with rfl|hc
  ·rw[kZ] at e;cases e
  ·rw[kZ] at hc;cases hc
 rcases hx with hk|hk
 ·refine wpAny_storeName_local hk hn (λh' GU hs=>?_) wV;obtain⟨oL,_,_,kd,_⟩:=id hn;refine h _ ⟨I.ok,I.os,I.bare,⟨λb o e n hb hx=>?_,λb o e n hb hx=>?_,I.base.free,λb o e hx=>?_,I.base.hV,I.base.gL,I.base.hW⟩,⟨_,GU,λj y v' e1 e2 e3=>?_⟩,λy c e=>?_,I.free,I.fi,λp hp=>?_,tracked ⟨oL,kd,I.free⟩ hs,by simpa using I.len⟩ ⟨_,hs,.inl rfl⟩
  ·exact(hs.2 b (aF (az (aq e) I.ok.above))).trans (I.base.keep b o e n hb hx)
  ·obtain⟨sl,e1⟩:=I.base.slot b o e n hb hx;exact⟨sl,(hs.2 b (aF (az (aq e) I.ok.above))).trans e1⟩
  ·obtain⟨o',e1⟩:=I.base.there b o e hx;exact⟨o',(hs.2 b (aF (az (aq e) I.ok.above))).trans e1⟩
  ·by_cases hj:j=i
   ·subst hj;rw[hi] at e1;cases e1;rw[aP rW] at e2;cases e2;exact⟨u,r,.inl ⟨hk,by simp⟩⟩
   ·rw[aA (bU hj)] at e2;obtain⟨u',r',q⟩:=hl j y v' e1 e2 e3;refine⟨u',r',?_⟩;rcases q with⟨k,e⟩|⟨k,c,e,z⟩
    ·refine .inl ⟨k,?_⟩;have:y≠x:=λe=>hj (Dj hN e1 (e▸hi));simp[this,e]
    ·exact .inr ⟨k,c,e,z.sameBut hs (oZ y c e)⟩
  ·obtain⟨w',z⟩:=I.cell y c e;exact⟨w',z.sameBut hs (oZ y c e)⟩
  ·obtain⟨e,n,ne,nf,d⟩:=I.pin p hp;exact⟨(hs.2 p.1 ne).trans e,n,ne,nf,d⟩
 ·have pY:X.fn x=true:=by
   rcases hf with z|z
   ·exact z
   ·rw[z] at hk;cases hk
  obtain⟨c,hc⟩:=I.ok.has x (.inl hk);obtain⟨w',z⟩:=I.cell x c hc;refine wpAny_storeName_cell I.ok.kind hk hc z (λh' iN hs=>?_);obtain⟨oc,wI,wH⟩:=id z;refine h { s with heap:=h' } ⟨I.ok,I.os,I.bare,⟨λb o e n hb hx=>?_,λb o e n hb hx=>?_,I.base.free,λb o e hx=>?_,I.base.hV,I.base.gL,I.base.hW⟩,⟨m,hn.sameBut hs (bU (oZ x c hc)),λj y v' e1 e2 e3=>?_⟩,λy c' e=>?_,I.free,I.fi,λp hp=>?_,tracked ⟨oc,wI,I.fi x c hc⟩ hs,by simpa using I.len⟩ ⟨c,hs,.inr hc⟩
  ·exact(hs.2 b (aF (az (aq e) (I.ok.sU x c pY hc)))).trans (I.base.keep b o e n hb hx)
  ·obtain⟨sl,e1⟩:=I.base.slot b o e n hb hx;exact⟨sl,(hs.2 b (aF (az (aq e) (I.ok.sU x c pY hc)))).trans e1⟩
  ·obtain⟨o',e1⟩:=I.base.there b o e hx;exact⟨o',(hs.2 b (aF (az (aq e) (I.ok.sU x c pY hc)))).trans e1⟩
  ·by_cases hj:j=i
   ·subst hj;rw[hi] at e1;cases e1;rw[aP rW] at e2;cases e2;exact⟨u,r,.inr ⟨.inl hk,c,hc,iN⟩⟩
   ·rw[aA (bU hj)] at e2;obtain⟨u',r',q⟩:=hl j y v' e1 e2 e3;refine⟨u',r',?_⟩;rcases q with q|⟨k,c',e,z'⟩
    ·exact .inl q
    ·refine .inr ⟨k,c',e,z'.sameBut hs ?_⟩;rintro rfl;exact hj (Dj hN e1 (I.ok.inj _ _ _ e hc▸hi))
  ·by_cases pZ:c'=c
   ·subst pZ;exact⟨_,iN⟩
   ·obtain⟨w2,z2⟩:=I.cell y c' e;exact⟨w2,z2.sameBut hs pZ⟩
  ·obtain⟨e,n,ne,nf,d⟩:=I.pin p hp;refine⟨(hs.2 p.1 ?_).trans e,n,ne,nf,d⟩;intro q;rw[q,wI] at e;have q':oc=p.2:=aE e;exact d w' (by rw[<- q'];exact wH)
theorem T6{Q:Unit->Shared->Prop}(I:Inv X pins Z H s)(hN:X.N.Nodup)(hi:X.N[i]?=some x)(hx:Loc X.env.scope x)(r:RelV v u)(h:∀s',Inv X pins (Z.set i (some v)) H s'->Q () s')(hf:X.fn x=true\/X.env.scope.names.lookup x=some .local:=by first|exact .inl rfl|exact .inr rfl|assumption):wpAny M A (storeName X.env x u) Q E s :=
 DL I hN hi hx r (λs' I' _=>h s' I') hf
theorem Inv.zG{s':Shared}(I:Inv X pins Z H s)(ho:s'.os=s.os)(u:Un (gg X.stack) ch H H' s.heap s'.heap)(bD:fH X.prog X.w H' s'.heap)(hg:AllBare s'.gens)(lP:∀b∈ch,(b∈X.ex\/X.cV.heap.objs.size<=b)/\b≠X.env.locals/\(∀x c,X.env.cells.lookup x=some c->c≠b)/\∀p∈X.pn++pins,p.1≠b):Inv X pins Z H' s':=by
 obtain⟨h',g',d',t',o'⟩:=s';have e:o'=s.os:=ho;subst e;exact I.call (g':=g') (t':=t') (d':=d') u bD hg lP
end
noncomputable abbrev XK:=Value->Option Addr->Hp->Prop
noncomputable abbrev St:=List (Option V)
noncomputable abbrev VK:=V->Hp->Prop
noncomputable abbrev TE:=St->Hp->VK->Prop
noncomputable abbrev TT:=St->Hp->(Bool->Hp->Prop)->Prop
noncomputable abbrev TA:=St->Hp->(List V->Hp->Prop)->Prop
structure Ends where
 nx:St->Hp->Prop
 rt:VK
 bk:St->Hp->Prop:=λ_ _=>False
 ct:St->Hp->Prop:=λ_ _=>False
noncomputable abbrev TS:=Ends->St->Hp->Prop
def EP(X:Cx)(pins:List (Addr×Obj))(Z:St)(Q:VK)(u:Value)(s':Shared):Prop:=∃v H',Inv X pins Z H' s'/\RelV v u/\Q v H'
def TP(X:Cx)(pins:List (Addr×Obj))(Z:St)(Q:Bool->Hp->Prop)(b:Bool)(s':Shared):Prop:=∃H',Inv X pins Z H' s'/\Q b H'
def AP(X:Cx)(pins:List (Addr×Obj))(Z:St)(Q:List V->Hp->Prop)(us:List Value)(s':Shared):Prop:=∃vs H',Inv X pins Z H' s'/\Vals vs us/\Q vs H'
def SP(X:Cx)(pins:List (Addr×Obj))(D:Ends)(f:Flow)(s':Shared):Prop :=
 match f with
 |.next=>∃bJ H',Inv X pins bJ H' s'/\D.nx bJ H'
 |.brk=>∃bJ H',Inv X pins bJ H' s'/\D.bk bJ H'
 |.cont=>∃bJ H',Inv X pins bJ H' s'/\D.ct bJ H'
 |.ret u=>∃v bJ H',Inv X pins bJ H' s'/\RelV v u/\D.rt v H'
def PE(X:Cx)(e:Expr)(t:TE):Prop :=
 ∀(pins:List (Addr×Obj)) (s:Shared) (Z:St) (H:Hp) (Q:VK),Inv X pins Z H s->t Z H Q->wpAny (model X.prog X.w) X.A (eval e X.env) (EP X pins Z Q) X.xe s
def PT(X:Cx)(e:Expr)(t:TT):Prop :=
 ∀(pins:List (Addr×Obj)) (s:Shared) (Z:St) (H:Hp) (Q:Bool->Hp->Prop),Inv X pins Z H s->t Z H Q->wpAny (model X.prog X.w) X.A (isTrue e X.env (eval e X.env)) (TP X pins Z Q) X.xe s
def PW(X:Cx)(e:Expr)(t:TT):Prop :=
 ∀(whole:Sem Value) (pins:List (Addr×Obj)) (s:Shared) (Z:St) (H:Hp) (Q:Bool->Hp->Prop),Inv X pins Z H s->t Z H Q->wpAny (model X.prog X.w) X.A (isTrue e X.env whole) (TP X pins Z Q) X.xe s
theorem PW.pt{t:TT}(h:PW X e t):PT X e t:=h _
def PA(X:Cx)(es:List Expr)(t:TA):Prop :=
 ∀(pos:Pos) (pins:List (Addr×Obj)) (s:Shared) (Z:St) (H:Hp) (Q:List V->Hp->Prop),Inv X pins Z H s->t Z H Q->wpAny (model X.prog X.w) X.A (spliced (backTo pos (starEach es X.env))) (AP X pins Z Q) X.xe s
def PS(X:Cx)(st:Stmt)(t:TS):Prop :=
 ∀(pins:List (Addr×Obj)) (s:Shared) (Z:St) (H:Hp) (D:Ends),Inv X pins Z H s->t D Z H->wpAny (model X.prog X.w) X.A (exec st X.env) (SP X pins D) X.xe s
def jc(X:Cx)(st:List Stmt)(t:TS):Prop :=
 ∀(pins:List (Addr×Obj)) (s:Shared) (Z:St) (H:Hp) (D:Ends),Inv X pins Z H s->t D Z H->wpAny (model X.prog X.w) X.A (execs st X.env) (SP X pins D) X.xe s
theorem cC{t:Sem α}{Q Q':α->Shared->Prop}(h:wpAny M A t Q E s)(hQ:∀a s,Q a s->Q' a s):wpAny M A t Q' E s:=br h hQ λ_ _ x=>x
section
theorem bin{a b:Expr}(ha:PE X a ta)(hb:PE X b tb){R:V->V->Hp->Prop}(I:Inv X pins Z H s)(h:ta Z H λx H1=>tb Z H1 λy H2=>R x y H2){Q:α->Shared->Prop}{f:Value->Value->Sem α}(hf:∀v u s2 x y H2,Inv X pins Z H2 s2->RelV x v->RelV y u->R x y H2->wpAny (model X.prog X.w) X.A (f v u) Q X.xe s2) :
  wpAny (model X.prog X.w) X.A (eval a X.env) (λv bG=>wpAny (model X.prog X.w) X.A (eval b X.env) (λu fW=>wpAny (model X.prog X.w) X.A (f v u) Q X.xe fW) X.xe bG) X.xe s:=by
 refine cC (ha pins s Z H _ I h) λv s1 bc=>?_;obtain⟨x,H1,I1,r1,q1⟩:=bc;refine cC (hb pins s1 Z H1 _ I1 q1) λu s2 bc=>?_;obtain⟨y,H2,I2,r2,q2⟩:=bc;exact hf v u s2 x y H2 I2 r1 r2 q2
def JT(i:Nat):TE:=λZ H Q=>∃v,Z[i]?=some (some v)/\Q v H
def tC(v:V):TE:=λ_ H Q=>Q v H
theorem Ng(hN:X.N[i]?=some x)(hv:vo X.env.scope x)(hd:(x==("__debug__":Str))=false:=by decide)(ke:(x==("__classdict__":Str))=false:=by decide):PE X (.Name x pos) (JT i):=by
 intro pins s Z H Q I h;obtain⟨v,e,h⟩:=h;obtain⟨m,hn,hl⟩:=I.loc;obtain⟨u,r,l⟩:=hl i x v hN e hv;have fin:EP X pins Z Q u s:=⟨v,H,I,r,h⟩
 rcases l with⟨hk,hm⟩|⟨hk,c,hc,nu⟩
 ·exact wpAny_Name (wpAny_loadName_local I.ok.kind hk hn hm fin) hd
 ·rcases hk with hk|hk
  ·exact wpAny_Name (wpAny_loadName_cell I.ok.kind hk hc nu fin) hd
  ·exact wpAny_Name (wpAny_loadName_free I.ok.kind hk hc nu fin ke) hd
theorem MZ{i j pos}:PE X (.Constant (.int i) j pos) (tC (.int i)):=λ_ _ _ H _ I h=>wpAny_Constant_int ⟨.int i,H,I.tok _,⟨_,rfl⟩,h⟩
theorem Lb{b j pos}:PE X (.Constant (.bool b) j pos) (tC (.bl b)):=λ_ _ _ H _ I h=>Constant_bool ⟨.bl b,H,I,rfl,h⟩
theorem Na{j pos}:PE X (.Constant .none j pos) (tC .bV):=λ_ _ _ H _ I h=>Constant_none ⟨.bV,H,I,rfl,h⟩
theorem Nd{x j pos}:PE X (.Constant (.str x) j pos) (tC (.str x)):=λ_ _ _ H _ I h=>Calls.Constant_str ⟨.str x,H,I.tok _,⟨_,rfl⟩,h⟩
def Gl(X:Cx)(x:Str):Prop:=X.env.kindOf x=some .globalImplicit
theorem N7(I:Inv X pins Z H s)(hg:Gl X x)(hm:X.mg x=some u)(h:Q u s)(hd:(x==("__debug__":Str))=false:=by decide):wpAny (model X.prog X.w) X.A (eval (.Name x pos) X.env) Q E s :=
 vz I.ok.kind hg (Calls.loadGlobal_global (by rw[I.ok.glob];exact I.mod.glob.keeps I.bk) hm h) hd
theorem M0(I:Inv X pins Z H s)(hg:Gl X x)(hm:X.mg x=none)(hv:bootBuiltins x=some u)(h:Q u s)(hn:x≠"__name__":=by decide)(hd:(x==("__debug__":Str))=false:=by decide):wpAny (model X.prog X.w) X.A (eval (.Name x pos) X.env) Q E s:=by
 obtain⟨mb,h1,h2⟩:=I.mod.blt;exact vz I.ok.kind hg (Calls.loadGlobal_builtin (by rw[I.ok.glob];exact I.mod.glob.keeps I.bk) hm (by rw[I.ok.blt];exact h1.keeps I.bk) ((h2 x hn).trans hv) h) hd
theorem Z9(hg:Gl X x)(hm:X.mg x=some u)(r:RelV v u)(hd:(x==("__debug__":Str))=false:=by decide):PE X (.Name x pos) (tC v) :=
 λ_ _ _ H _ I h=>N7 I hg hm ⟨v,H,I,r,h⟩ hd
theorem UT(hg:Gl X x)(hm:X.mg x=none)(hv:bootBuiltins x=some u)(r:RelV v u)(hn:x≠"__name__":=by decide)(hd:(x==("__debug__":Str))=false:=by decide):PE X (.Name x pos) (tC v) :=
 λ_ _ _ H _ I h=>M0 I hg hm hv ⟨v,H,I,r,h⟩ hn hd
variable{a b:Expr}
variable{tA tU:TT}{rest:List Expr}
def JH(t u:TT):TT:=λZ H Q=>t Z H λc H1=>if c=true then u Z H1 Q else Q false H1
def F'(t u:TT):TT:=λZ H Q=>t Z H λc H1=>if c=true then Q true H1 else u Z H1 Q
def JN(t:TT):TT:=λZ H Q=>t Z H λc H1=>Q (!c) H1
theorem OS(ha:PT X a tA):PW X (.BoolOp .And [a] pos) tA:=by
 intro wh pins s Z H Q I h;refine isTrue_and (cC (ha pins s Z H Q I h) λc s1 e=>?_);cases c with
 |true=>exact isTrue_and_nil e
 |false=>exact e
theorem SS(ha:PT X a tA):PW X (.BoolOp .Or [a] pos) tA:=by
 intro wh pins s Z H Q I h;refine isTrue_or (cC (ha pins s Z H Q I h) λc s1 e=>?_);cases c with
 |false=>exact isTrue_or_nil e
 |true=>exact e
theorem SR(ha:PT X a tA)(hb:PW X (.BoolOp .And (b::rest) pos) tU):PW X (.BoolOp .And (a::b::rest) pos) (JH tA tU):=by
 intro wh pins s Z H Q I h;refine isTrue_and (cC (ha pins s Z H _ I h) λc s1 ⟨H1,I1,q1⟩=>?_);cases c with
 |true=>exact hb wh pins s1 Z H1 Q I1 q1
 |false=>exact⟨H1,I1,q1⟩
theorem Li(ha:PT X a tA)(hb:PW X (.BoolOp .Or (b::rest) pos) tU):PW X (.BoolOp .Or (a::b::rest) pos) (F' tA tU):=by
 intro wh pins s Z H Q I h;refine isTrue_or (cC (ha pins s Z H _ I h) λc s1 ⟨H1,I1,q1⟩=>?_);cases c with
 |true=>exact⟨H1,I1,q1⟩
 |false=>exact hb wh pins s1 Z H1 Q I1 q1
theorem Np(ha:PT X a tA):PT X (.UnaryOp .Not a pos) (JN tA):=by
 intro pins s Z H Q I h;exact isTrue_not (ha pins s Z H (λc H1=>Q (!c) H1) I h)
def Lv(ta tb:TE):TE:=λZ H Q=>ta Z H λx H1=>∃c,x=.bl c/\if c=true then tb Z H1 Q else Q (.bl false) H1
def JO(ta tb:TE):TE:=λZ H Q=>ta Z H λx H1=>∃c,x=.bl c/\if c=true then Q (.bl true) H1 else tb Z H1 Q
def Lz(ta:TE):TE:=λZ H Q=>ta Z H λx H1=>∃c,x=.bl c/\Q (.bl (!c)) H1
theorem Nc{op}{t:TE}(h:PE X a t):PE X (.BoolOp op [a] pos) t:=λpins s Z H Q I hw=>BoolOp_one (h pins s Z H Q I hw)
theorem MW(ha:PE X a ta)(hb:PE X (.BoolOp .And (b::rest) pos) tb):PE X (.BoolOp .And (a::b::rest) pos) (Lv ta tb):=by
 intro pins s Z H Q I h;refine BoolOp_and (cC (ha pins s Z H _ I h) λv s1 bc=>?_);obtain⟨x,H1,I1,r1,q1⟩:=bc;obtain⟨c,rfl,q1⟩:=q1;cases r1;refine bS ?_;cases c with
 |true=>exact hb pins s1 Z H1 Q I1 q1
 |false=>exact⟨.bl false,H1,I1,rfl,q1⟩
theorem Le(ha:PE X a ta)(hb:PE X (.BoolOp .Or (b::rest) pos) tb):PE X (.BoolOp .Or (a::b::rest) pos) (JO ta tb):=by
 intro pins s Z H Q I h;refine BoolOp_or (cC (ha pins s Z H _ I h) λv s1 bc=>?_);obtain⟨x,H1,I1,r1,q1⟩:=bc;obtain⟨c,rfl,q1⟩:=q1;cases r1;refine bS ?_;cases c with
 |false=>exact hb pins s1 Z H1 Q I1 q1
 |true=>exact⟨.bl true,H1,I1,rfl,q1⟩
theorem Nb(ha:PE X a ta):PE X (.UnaryOp .Not a pos) (Lz ta):=by
 intro pins s Z H Q I h;refine UnaryOp_ (cC (ha pins s Z H _ I h) λv s1 bc=>?_);obtain⟨x,H1,I1,r1,q1⟩:=bc;obtain⟨c,rfl,q1⟩:=q1;cases r1;exact not_of (bS ⟨.bl (!c),H1,I1,rfl,q1⟩)
def Ga(t:TT)(ta tb:TE):TE:=λZ H Q=>t Z H λc H1=>if c=true then ta Z H1 Q else tb Z H1 Q
theorem Qm(hc:PT X c tA)(ha:PE X a ta)(hb:PE X b tb):PE X (.IfExp c a b pos) (Ga tA ta tb):=by
 intro pins s Z H Q I h;refine wpAny_IfExp (cC (hc pins s Z H _ I h) λd s1 ⟨H1,I1,q1⟩=>?_);cases d with
 |true=>exact ha pins s1 Z H1 Q I1 q1
 |false=>exact hb pins s1 Z H1 Q I1 q1
end
def fe(K:PySem.W.Frag)(H:Hp)(a:Addr)(xs:List V):Prop :=
 Rd H a (.lst xs) \/
  ∃(o:Obj) (aO:Array Value) (n:Nat),K.lookup a=some o/\o.cls=.type "list"/\o.dict=none/\o.data=.seq aO n/\aO.size<=sizeLine/\Vals xs aO.toList
def gS(K:PySem.W.Frag)(H:Hp)(a:Addr)(xs:List V):Prop :=
 Rd H a (.tup xs) \/
  ∃(o:Obj) (aO:Array Value) (n:Nat),K.lookup a=some o/\o.cls=.type "tuple"/\o.data=.seq aO n/\aO.size<=sizeLine/\Vals xs aO.toList
def IC:Value->Option V
 |.none=>some .bV
 |.bool b=>some (.bl b)
 |.int i _=>some (.int i)
 |.str x _=>some (.str x)
 |.bytes b _=>some (.jT b)
 |.float b _=>some (.oT b)
 |.ref a=>some (.ref a)
 |.type n=>some (.ty n)
 |_=>none
theorem RelV.abs{x:V}(r:RelV x u):IC u=some x:=by
 cases x with
 |bV=>cases r;rfl
 |bl _=>cases r;rfl
 |int _=>obtain⟨t,rfl⟩:=r;rfl
 |str _=>obtain⟨t,rfl⟩:=r;rfl
 |jT _=>obtain⟨t,rfl⟩:=r;rfl
 |oT _=>obtain⟨t,rfl⟩:=r;rfl
 |ref _=>cases r;rfl
 |ty _=>cases r;rfl
theorem RelV.inj{x y:V}{u:Value}(r:RelV x u)(q:RelV y u):x=y:=aE (r.abs.symm.trans q.abs)
theorem Vals.inj{xs ys:List V}{us:List Value}(h:Vals xs us)(h':Vals ys us):xs=ys:=by
 induction h generalizing ys with
 |nil=>cases h';rfl
 |cons r t ih =>
  cases h' with
  |cons r' t'=>rw[r.inj r',ih t']
section
variable{ys:List V}
theorem fe.of(h:H a=some (.lst xs)):fe K H a xs:=.inl (.inl h)
theorem Inv.list(I:Inv X pins Z H s)(h:fe X.K H a xs):∃aO:List Value,Vals xs aO/\PlainL s.heap a aO.toArray/\xs.length<=sizeLine:=by
 rcases h with h|⟨o,aO,n,hk,hc,hd,hs,hz,r⟩
 ·obtain⟨z,aO,n,r,e⟩:=h.ok I.bD;exact⟨aO,r,⟨_,n,e,rfl,rfl,rfl⟩,z⟩
 ·refine⟨aO.toList,r,⟨o,n,I.gb a o hk,hc,hd,by simpa using hs⟩,?_⟩;have e:=r.length;simp only[Array.length_toList] at e;omega
theorem Inv.tuple(I:Inv X pins Z H s)(h:gS X.K H a xs):∃aO:List Value,Vals xs aO/\IsTup s.heap a aO.toArray/\xs.length<=sizeLine:=by
 rcases h with h|⟨o,aO,n,hk,hc,hs,hz,r⟩
 ·obtain⟨z,aO,r,p⟩:=h.ok I.bD;exact⟨aO,r,p.tup,z⟩
 ·refine⟨aO.toList,r,⟨o,I.gb a o hk,hc,n,by simpa using hs⟩,?_⟩;have e:=r.length;simp only[Array.length_toList] at e;omega
theorem Inv.Dg(I:Inv X pins Z H s)(h:fe X.K H a xs)(h':fe X.K H a ys):xs=ys:=by
 obtain⟨aO,r,⟨o,n,e,_,_,d⟩,_⟩:=I.list h;obtain⟨its',r',⟨o',n',e',_,_,d'⟩,_⟩:=I.list h';rw[e] at e';cases e';rw[d] at d';injection d' with d1 _;have:aO=its':=by simpa using eZ Array.toList d1
 subst this;exact r.inj r'
theorem Inv.Sl(I:Inv X pins Z H s)(h:gS X.K H a xs)(h':gS X.K H a ys):xs=ys:=by
 obtain⟨aO,r,⟨o,e,_,n,d⟩,_⟩:=I.tuple h;obtain⟨its',r',⟨o',e',_,n',d'⟩,_⟩:=I.tuple h';rw[e] at e';cases e';rw[d] at d';injection d' with d1 _;have:aO=its':=by simpa using eZ Array.toList d1
 subst this;exact r.inj r'
end
noncomputable abbrev Cx.T3(X:Cx)(E:Value->Shared->Prop):Cx:={ X with xe:=E }
theorem Cx.Ok.T3{X:Cx}(ok:X.Ok)(E:Value->Shared->Prop):(X.T3 E).Ok :=
 ⟨ok.mod,ok.kind,ok.glob,ok.blt,ok.above,ok.inj,ok.has,ok.sU,ok.hd,ok.frames,ok.tW,ok.BI,ok.bs,ok.nJ,ok.kQ,ok.mJ,ok.M4,ok.oS⟩
theorem Cx.Ok.yA(ok:(X.T3 E).Ok):X.Ok :=
 ⟨ok.mod,ok.kind,ok.glob,ok.blt,ok.above,ok.inj,ok.has,ok.sU,ok.hd,ok.frames,ok.tW,ok.BI,ok.bs,ok.nJ,ok.kQ,ok.mJ,ok.M4,ok.oS⟩
theorem Inv.T3(I:Inv X pins Z H s)(E:Value->Shared->Prop):Inv (X.T3 E) pins Z H s:=⟨I.ok.T3 E,I.os,I.bare,I.base,I.loc,I.cell,I.free,I.fi,I.pin,I.bD,I.len⟩
theorem Inv.yA(I:Inv (X.T3 E) pins Z H s):Inv X pins Z H s:=⟨I.ok.yA,I.os,I.bare,I.base,I.loc,I.cell,I.free,I.fi,I.pin,I.bD,I.len⟩
section
variable{st:Stmt}{rest:List Stmt}{t u:TS}
def ES:TS:=λD Z H=>D.nx Z H
def JR(t u:TS):TS:=λD Z H=>t { D with nx:=u D } Z H
theorem OO:jc X [] ES:=λ_ _ Z H _ I h=>qq ⟨Z,H,I,h⟩
theorem Qv(h1:PS X st t)(h2:jc X rest u):jc X (st::rest) (JR t u):=by
 intro pins s Z H D I h;refine wpAny_execs_cons (cC (h1 pins s Z H { D with nx:=u D } I h) λf s1 q=>?_);cases f with
 |next =>
  obtain⟨bJ,H',I',q⟩:=q;exact h2 pins s1 bJ H' D I' q
 |ret v=>exact q
 |brk=>exact q
 |cont=>exact q
theorem OM:PS X (.Pass pos) ES:=λ_ _ Z H _ I h=>wpAny_Pass ⟨Z,H,I,h⟩
theorem Inv.quiet(I:Inv X pins Z H s):interactive X.env=false:=by simp[interactive,I.ok.kind]
def Ly(te:TE):TS:=λD Z H=>te Z H λ_ H1=>D.nx Z H1
theorem OL(he:PE X e te)(hs:swapsWith e none pos.line X.env=pure false:=by rfl):PS X (.Expr e pos) (Ly te):=by
 intro pins s Z H D I h;exact wpAny_Expr_any (cC (he pins s Z H _ I h) λv s1 ⟨x,H1,I1,r1,q1⟩=>⟨Z,H1,I1,q1⟩) I.quiet hs
def JQ(te:TE):TS:=λD Z H=>te Z H D.rt
theorem Nn(he:PE X e te):PS X (.Return (some e) pos) (JQ te):=by
 intro pins s Z H D I h;exact wpAny_Return_some (cC (he pins s Z H _ I h) λv s1 ⟨x,H1,I1,r1,q1⟩=>⟨x,Z,H1,I1,r1,q1⟩)
def LC:TS:=λD _ H=>D.rt .bV H
theorem ON:PS X (.Return none pos) LC:=λ_ _ Z H _ I h=>wpAny_Return_none ⟨.bV,Z,H,I,rfl,h⟩
def JL(c:TT)(t u:TS):TS:=λD Z H=>c Z H λb H1=>if b=true then t D Z H1 else u D Z H1
theorem Lh{a b:List Stmt}{tc:TT}(hc:PT X c tc)(ha:jc X a t)(hb:jc X b u):PS X (.If c a b pos) (JL tc t u):=by
 intro pins s Z H D I h;refine wpAny_If (cC (hc pins s Z H _ I h) λd s1 ⟨H1,I1,q1⟩=>?_);cases d with
 |true=>exact ha pins s1 Z H1 D I1 q1
 |false=>exact hb pins s1 Z H1 D I1 q1
end
noncomputable abbrev TG:=V->St->Hp->(St->Hp->Prop)->Prop
noncomputable abbrev nK:=List V->St->Hp->(St->Hp->Prop)->Prop
def PG(X:Cx)(target:Expr)(t:TG):Prop :=
 ∀(pins:List (Addr×Obj)) (s:Shared) (Z:St) (H:Hp) (v:V) (u:Value) (Q:St->Hp->Prop),Inv X pins Z H s->RelV v u->t v Z H Q ->
  wpAny (model X.prog X.w) X.A (assign target X.env u) (λ_ s'=>∃bJ H',Inv X pins bJ H' s'/\Q bJ H') X.xe s
def tF(X:Cx)(ts:List Expr)(t:nK):Prop :=
 ∀(pins:List (Addr×Obj)) (s:Shared) (Z:St) (H:Hp) (vs:List V) (us:List Value) (Q:St->Hp->Prop),Inv X pins Z H s->Vals vs us->t vs Z H Q ->
  wpAny (model X.prog X.w) X.A (assignInOrder ((assignEach ts X.env).map (·.2)) us) (λ_ s'=>∃bJ H',Inv X pins bJ H' s'/\Q bJ H') X.xe s
noncomputable abbrev zl:=V->V->V->Hp->(Hp->Prop)->Prop
def zk(X:Cx)(t:zl):Prop :=
 ∀(pins:List (Addr×Obj)) (s:Shared) (Z:St) (H:Hp) (o i v:V) (ov iv u:Value) (Q:Hp->Prop),Inv X pins Z H s->RelV o ov->RelV i iv->RelV v u->t o i v H Q ->
  wpAny (model X.prog X.w) X.A (setItem ov iv u) (λ_ s'=>∃H',Inv X pins Z H' s'/\Q H') X.xe s
def qo(i:Nat):TG:=λv Z H Q=>Q (Z.set i (some v)) H
theorem CK(hN:X.N.Nodup)(hi:X.N[i]?=some x)(hx:Loc X.env.scope x)(hf:X.fn x=true\/X.env.scope.names.lookup x=some .local:=by first|exact .inl rfl|exact .inr rfl|assumption):PG X (.Name x pos) (qo i):=by
 intro pins s Z H v u Q I r h;exact wpAny_assign_Name (T6 I hN hi hx r (λs' I'=>⟨_,H,I',h⟩) hf)
def Cp:nK:=λvs Z H Q=>vs=[]/\Q Z H
def Ez(t:TG)(u:nK):nK:=λvs Z H Q=>∃v r,vs=v::r/\t v Z H λbJ H'=>u r bJ H' Q
theorem OI:tF X [] Cp:=by
 intro pins s Z H vs us Q I r h;obtain⟨e,h⟩:=h;subst e;cases r;exact assignInOrder_nil ⟨Z,H,I,h⟩
theorem Qp{t:TG}{u:nK}(h1:PG X e t)(h2:tF X es u)(hs:(assignEach (e::es) X.env).map (·.2)=assign e X.env::(assignEach es X.env).map (·.2):=by rfl):tF X (e::es) (Ez t u):=by
 intro pins s Z H vs us Q I r h;obtain⟨v,vr,e1,h⟩:=h;subst e1;cases r with
 |cons r rr =>
  rw[hs];refine tM (cC (h1 pins s Z H _ _ _ I r h) λ_ s1 bc=>?_);obtain⟨gQ,H1,I1,q1⟩:=bc;exact h2 pins s1 gQ H1 _ _ Q I1 rr q1
def IX(K:PySem.W.Frag)(n:Nat)(t:nK):TG:=λv Z H Q=>∃a xs,v=.ref a/\gS K H a xs/\xs.length=n/\t xs Z H Q
theorem Ni{t:nK}{n:Nat}(hc:X.calm=true)(h:tF X es t)(hn:(assignEach es X.env).length=n:=by rfl)(dR:(assignEach es X.env).findIdx? (·.1)=none:=by rfl):PG X (.Tuple es k pos) (IX X.K n t):=by
 intro pins s Z H v u Q I r hw;obtain⟨a,xs,e1,hq,hl,hw⟩:=hw;subst e1;cases r;obtain⟨aO,rv,ht,hz⟩:=I.tuple hq;refine assign_Tuple_tuple (I.ok.hd hc) ht (by simp[hn,<- hl,rv.length]) dR λh' hx=>?_;have I1:Inv X pins Z H { s with heap:=h' }:=I.kept (t':=s.toks) λb o e=>hx b o (aF (aq e)) e;exact h pins _ Z H xs _ Q I1 (by simpa using rv) hw
def IW(to ti:TE)(t:zl):TG:=λv Z H Q=>to Z H λo H1=>ti Z H1 λi H2=>t o i v H2 λH3=>Q Z H3
theorem Nh{o i:Expr}{to ti:TE}{t:zl}(ho:PE X o to)(hi:PE X i ti)(hs:zk X t)(ha:∀ v,assign (.Subscript o i pos) X.env v=(do
   let ov <- holding [v] (eval o X.env)
   let iv <- holding [v,ov] (eval i X.env)
   standAt pos
   holding [v,ov,iv] (setItem ov iv v)
   release [v,ov,iv] []):=by intro _;rfl):PG X (.Subscript o i pos) (IW to ti t):=by
 intro pins s Z H v u Q I r h;rw[ha];refine aa (bx (cC (ho pins s Z H _ I h) λov s1 bc=>?_));obtain⟨x,H1,I1,r1,q1⟩:=bc;refine aa (bx (cC (hi pins s1 Z H1 _ I1 q1) λiv s2 bc=>?_));obtain⟨y,H2,I2,r2,q2⟩:=bc;refine aa (eI (aa (bx (cC (hs pins s2 Z H2 x y v ov iv u _ I2 r1 r2 r q2) λ_ s3 ⟨H3,I3,q3⟩=>?_))));exact wpAny_release ⟨Z,H3,I3,q3⟩
def tf(te:TE)(g:TG):TS:=λD Z H=>te Z H λx H1=>g x Z H1 D.nx
theorem Fe{g:TG}(he:PE X e te)(hg:PG X tg g)(hs:swapsWithSole [tg] e pos.line X.env=pure false:=by rfl)(hw:swappedStores [tg] e X.env=pure none:=by rfl)(h1:(assignEach [tg] X.env).map (·.2)=[assign tg X.env]:=by rfl):PS X (.Assign [tg] e pos) (tf te g):=by
 intro pins s Z H D I h;refine wpAny_Assign_stores (cC (he pins s Z H _ I h) λv s1 bc=>?_) hs hw;obtain⟨x,H1,I1,r1,q1⟩:=bc;rw[h1];exact cC (hg pins s1 Z H1 x v _ I1 r1 q1) λ_ s2 q=>q
theorem Ff{pos':Pos}(hN:X.N.Nodup)(hi:X.N[i]?=some x)(hx:Loc X.env.scope x)(he:PE X e te)(hs:swapsWith e (some (.Name x pos')) pos.line X.env=pure false:=by rfl)(hf:X.fn x=true\/X.env.scope.names.lookup x=some .local:=by first|exact .inl rfl|exact .inr rfl|assumption) :
  PS X (.Assign [.Name x pos'] e pos) (tf te (qo i)):=by
 intro pins s Z H D I h;refine wpAny_Assign_Name (cC (he pins s Z H _ I h) λv s1 bc=>?_) hs;obtain⟨y,H1,I1,r1,q1⟩:=bc;exact T6 I1 hN hi hx r1 (λs2 I2=>⟨_,H1,I2,q1⟩) hf
def JP(i j:Nat)(ta:TA):TS:=λD Z H=>ta Z H λvs H1=>∃v w,vs=[v,w]/\D.nx ((Z.set i (some v)).set j (some w)) H1
theorem Nm{y:Str}{a b:Expr}{ta:TA}{px py pt:Pos}{kt k2 mX}(hc:X.calm=true)(hN:X.N.Nodup)(hi:X.N[i]?=some x)(hj:X.N[j]?=some y)(iM:i≠j)(hx:X.env.scope.names.lookup x=some .local)(hy:X.env.scope.names.lookup y=some .local)(ha:PA X [a,b] ta)(hw:swappedStores [.Tuple [.Name x px,.Name y py] kt pt] (.Tuple [a,b] k2 mX) X.env=pure (some [x,y]))(hs:swapsWithSole [.Tuple [.Name x px,.Name y py] kt pt] (.Tuple [a,b] k2 mX) pos.line X.env=pure false:=by rfl) :
  PS X (.Assign [.Tuple [.Name x px,.Name y py] kt pt] (.Tuple [a,b] k2 mX) pos) (JP i j ta):=by
 intro pins s Z H D I h;rw[exec_Assign_arm];refine aa (eI ?_);rw[hs];refine aa (ag ?_);rw[aH (by decide)];refine aa (Tuple_ (cC (ha _ pins s Z H _ I h) λus s1 bc=>?_));obtain⟨vs,H1,I1,r1,q1⟩:=bc;obtain⟨v,w,e1,q1⟩:=q1;subst e1;obtain⟨u1,u2,rfl,rv,fg⟩:∃u1 u2,us=[u1,u2]/\RelV v u1/\RelV w u2:=by
  cases r1 with
  |cons p q =>
   cases q with
   |cons p' q' =>
    cases q';exact⟨_,_,rfl,p,p'⟩
 refine bq ?_ (by show 2<=sizeLine;decide);have I2:Inv X pins Z H1 { s1 with heap:=s1.heap.push { cls:=.type "tuple",data:=.seq [u1,u2].toArray } }:=I1.kept (t':=s1.toks) λb o e=>af _ e;rw[hw];refine aa (ag ?_);show wpAny (model X.prog X.w) X.A (do rule "assign.swapped-stores";let items <- unpackItems (.ref s1.heap.objs.size) 2 none;assignInOrder [λv=>bindName X.env y v,λv=>bindName X.env x v] items.reverse;pure Flow.next) _ _ _;refine aa (eP (aa (unpackItems_tuple (items:=#[u1,u2]) (I.ok.hd hc) (IsTup.new s1.heap _) λh' rO=>?_)));have I3:=I2.kept (h':=h') (t':=s1.toks) λb o e=>rO b o (aF (aq e)) e;show wpAny _ _ (assignInOrder [λv=>bindName X.env y v,λv=>bindName X.env x v] [u2,u1] >>= λ_=>pure Flow.next) _ _ _;refine aa (tM (wpAny_bindName (T6 I3 hN hj (.inl hy) fg (λs2 I4=>?_) (.inr hy))));refine tM (wpAny_bindName (T6 I4 hN hi (.inl hx) rv (λs3 I5=>assignInOrder_nil (ag ?_)) (.inr hx)));rw[List.set_comm _ _ (bU iM)] at I5;exact⟨_,H1,I5,q1⟩
def TQ(c:TT)(tb:TS):TS:=λD Z H=>∃W:Nat->St->Hp->Prop,(∃m,W m Z H)/\∀m Z H,W m Z H ->
 c Z H λb H1=>if b=true then ∃N:St->Hp->Prop,(∀bJ H',N bJ H'->∃m',m'<m/\W m' bJ H')/\tb { D with nx:=N,ct:=N,bk:=D.nx } Z H1 else D.nx Z H1
theorem Qu{tc:TT}{tb:TS}(hp:PassesOwn (model X.prog X.w) X.A X.env X.xe)(hc:PT X c tc)(hb:jc X body tb):PS X (.While c body [] pos) (TQ tc tb):=by
 intro pins s Z H D I h;obtain⟨W,⟨m0,w0⟩,turn⟩:=h;refine wpAny_While (codeAny_whileLoop (λn s'=>∃bJ H',Inv X pins bJ H' s'/\W n bJ H') ?_ m0 ⟨Z,H,I,w0⟩);rintro n s1 ⟨gQ,H1,I1,w1⟩;refine dB hp (cC (hc pins s1 gQ H1 _ I1 (turn n gQ H1 w1)) λb s2 ⟨H2,I2,q2⟩=>?_);cases b with
 |true =>
  obtain⟨N,hN,q2⟩:=q2;rw[aN rfl];refine dB hp (cC (hb pins s2 gQ H2 _ I2 q2) λf s3 q3=>?_);cases f with
  |next =>
   obtain⟨gI,H3,I3,n3⟩:=q3;obtain⟨m',hm,w3⟩:=hN gI H3 n3;exact⟨m',hm,gI,H3,I3,w3⟩
  |cont =>
   obtain⟨gI,H3,I3,n3⟩:=q3;obtain⟨m',hm,w3⟩:=hN gI H3 n3;exact⟨m',hm,gI,H3,I3,w3⟩
  |brk=>exact q3
  |ret v=>exact q3
 |false =>
  rw[aH dg];exact qq ⟨gQ,H2,I2,q2⟩
structure It where
 go:Nat->Hp->Prop
 nT:Nat->Hp->V->Hp->Prop
 stop:Nat->Hp->Prop
def B0(X:Cx)(pins:List (Addr×Obj))(H:Hp)(b:Addr):Prop :=
 H b=none/\b≠X.env.locals/\b∉X.fs/\(b∈X.ex\/X.cV.heap.objs.size<=b)/\(∀x c,X.env.cells.lookup x=some c->c≠b)/\∀p∈X.pn++pins,p.1≠b
theorem Inv.pj(I:Inv X pins Z H s)(hb:s.heap.objs.size<=b)(hn:H' b=none):B0 X pins H' b:=by
 refine⟨hn,bE (az I.lt hb),I.sZ hb,.inr (aG I.sz hb),λx c e z=>?_,λp hp z=>?_⟩
 ·obtain⟨v,q⟩:=I.cell x c e;exact absurd (az q.lt (by rw[z];exact hb)) (aQ _)
 ·exact absurd (az (aq (I.pin p hp).1) (by rw[z];exact hb)) (aQ _)
structure Turn(P:Program)(w:World)(K:PySem.W.Frag)(tg:Expr)(J:It)(fp:List Addr)(it:Addr)(tn:Nat->Heap->Prop):Prop where
 mem:it∈fp
 obj:∀i h,tn i h->∀b∈fp,∃o,h.get? b=some o/\∀v,o.data≠.cell v
 keep:∀i h h',tn i h->(∀b∈fp,∀o,h.get? b=some o->h'.get? b=some o)->tn i h'
 item:∀(X:Cx),X.prog=P->X.w=w->X.K=K->X.calm=true->∀(i:Nat) (pins:List (Addr×Obj)) (s:Shared) (Z:St) (H:Hp) (E:Value->Shared->Prop),Inv X pins Z H s->(∀b∈fp,B0 X pins H b)->tn i s.heap->J.go i H ->
  wpAny (model P w) X.A (pyNext (.ref it)) (λr s1=>∃ u,r=some u /\
   wpAny (model P w) X.A (letOwnedTupleGo tg (.ref it) u) (λ_ s2=>∃ x H',Inv X pins Z H' s2/\RelV x u/\J.nT i H x H'/\tn (i + 1) s2.heap/\∀ b ∈ fp,H' b=none) E s1) E s
 done:∀(X:Cx),X.prog=P->X.w=w->X.K=K->X.calm=true->∀(i:Nat) (pins:List (Addr×Obj)) (s:Shared) (Z:St) (H:Hp) (E:Value->Shared->Prop),Inv X pins Z H s->(∀b∈fp,B0 X pins H b)->tn i s.heap->J.stop i H ->
  wpAny (model P w) X.A (pyNext (.ref it)) (λr s1=>r=none/\Inv X pins Z H s1) E s
 self:∀(A:Around) (i:Nat) (s:Shared) (Q:Value->Shared->Prop) (E:Value->Shared->Prop),tn i s.heap->Q (.ref it) s->wpAny (model P w) A (pyIter (.ref it)) Q E s
noncomputable abbrev TI:=St->Hp->(It->Hp->Prop)->Prop
def Fy(X:Cx)(pins:List (Addr×Obj))(Z:St)(tg:Expr)(R:It->Hp->Prop)(rH:Value)(s2:Shared):Prop :=
 ∃(it:Addr) (fp:List Addr) (tn:Nat->Heap->Prop) (J:It) (H':Hp),rH=.ref it/\Inv X pins Z H' s2/\Turn X.prog X.w X.K tg J fp it tn/\tn 0 s2.heap/\(∀b∈fp,B0 X pins H' b)/\R J H'
def PI(X:Cx)(tg iter:Expr)(wi:TI):Prop :=
 ∀(pins:List (Addr×Obj)) (s:Shared) (Z:St) (H:Hp) (R:It->Hp->Prop),Inv X pins Z H s->wi Z H R ->
  wpAny (model X.prog X.w) X.A (eval iter X.env) (λv s1=>wpAny (model X.prog X.w) X.A (pyIter v) (Fy X pins Z tg R) X.xe s1) X.xe s
theorem zJ{it:Addr}{o:Obj}{n:String}{vs:Array Value}{Q:Unit->Shared->Prop}(ho:s.heap.get? it=some o)(hc:o.cls=.type n)(hd:o.data=.fields vs)(hn:["enumerate","zip","dict_itemiterator","dict_reverseitemiterator","odict_iterator","itertools.zip_longest","itertools.pairwise"].contains n=false)(hQ:Q () s):wpAny M A (letOwnedTupleGo tg (.ref it) u) Q E s:=by
  unfold letOwnedTupleGo;cases tg<;>first
    |exact ag hQ
    | (cases u <;> first
        |exact ag hQ
        | (refine aa (wpAny_load ho ?_)
           rw[hc,hd];show wpAny M A (if(["enumerate","zip","dict_itemiterator","dict_reverseitemiterator","odict_iterator","itertools.zip_longest","itertools.pairwise"].contains n&&vs[0]?==some (rawInt _))=true then _ else _) Q E s;rw[aH (by intro h;rw[hn,Bool.false_and] at h;cases h)];exact ag hQ))
def zS(K:PySem.W.Frag)(a:Addr):It :=
 ⟨λi H=>∃xs x,fe K H a xs/\xs[i]?=some x,λi H x H'=>H'=H/\∀xs,fe K H a xs->xs[i]?=some x,λi H=>∃xs,fe K H a xs/\xs.length<=i⟩
def zR(K:PySem.W.Frag)(a:Addr):It :=
 ⟨λi H=>∃xs x,gS K H a xs/\xs[i]?=some x,λi H x H'=>H'=H/\∀xs,gS K H a xs->xs[i]?=some x,λi H=>∃xs,gS K H a xs/\xs.length<=i⟩
def tH(lo:Int)(n:Nat):It:=⟨λi _=>i<n,λi H x H'=>H'=H/\x=.int (lo+i),λi _=>n<=i⟩
theorem So(a it:Addr):Turn P w K tg (zS K a) [it] it (λi h=>h.IsListIter it a i) where
 mem:=by simp
 obj:=λi h st b hb=>by
  have e:b=it:=by simpa using hb
  subst e;obtain⟨o,e,c,d⟩:=st;exact⟨o,e,λv z=>by rw[d] at z;cases z⟩
 keep:=λi h h' st k=>st.at λo e=>k it (by simp) o e
 item:=by
  intro X hP hw hK hc i pins s Z H E I hf st hg;subst hP hw hK;obtain⟨xs,x,hq,hx⟩:=hg;obtain⟨aO,rv,p,hz⟩:=I.list hq;obtain⟨u,hu,ru⟩:=rv.get hx;obtain⟨f0,f1,f2,f3,f4,f5⟩:=hf it (by simp);refine wpAny_pyNext_list_item st p.isList (x:=u) (by simpa using hu) λh' lG sb=>?_;have I1:Inv X pins Z H { s with heap:=h' }:=I.turned (t':=s.toks) (λb o hb e=>(sb.2 b hb).trans e) f0 f1 f3 f4 f5;obtain⟨o,e,c,d⟩:=id lG;exact⟨u,rfl,zJ (s:={ s with heap:=h' }) e c d (by decide) ⟨x,H,I1,ru,⟨rfl,λys hy=>by rw[I.Dg hy hq];exact hx⟩,lG,λb hb=>(hf b hb).1⟩⟩
 done:=by
  intro X hP hw hK hc i pins s Z H E I hf st hg;subst hP hw hK;obtain⟨xs,hq,hx⟩:=hg;obtain⟨aO,rv,p,hz⟩:=I.list hq;obtain⟨f0,f1,f2,f3,f4,f5⟩:=hf it (by simp);have hl:=rv.length;exact wpAny_pyNext_list_end (I.ok.hd hc) st p.isList (by simp;omega) λh' eb=>⟨rfl,I.turned (t':=s.toks) (λb o hb e=>eb b o hb e) f0 f1 f3 f4 f5⟩
 self:=λ_ _ _ _ _ st h=>wpAny_pyIter_listiter st h
theorem Nz(a it:Addr):Turn P w K tg (zR K a) [it] it (λi h=>h.IsTupleIter it a i) where
 mem:=by simp
 obj:=λi h st b hb=>by
  have e:b=it:=by simpa using hb
  subst e;obtain⟨o,e,c,d⟩:=st;exact⟨o,e,λv z=>by rw[d] at z;cases z⟩
 keep:=λi h h' st k=>st.at λo e=>k it (by simp) o e
 item:=by
  intro X hP hw hK hc i pins s Z H E I hf st hg;subst hP hw hK;obtain⟨xs,x,hq,hx⟩:=hg;obtain⟨aO,rv,p,hz⟩:=I.tuple hq;obtain⟨u,hu,ru⟩:=rv.get hx;obtain⟨f0,f1,f2,f3,f4,f5⟩:=hf it (by simp);refine wpAny_pyNext_tuple_item st (show s.heap.IsTuple a aO.toArray from p) (x:=u) (by simpa using hu) λh' lG sb=>?_;have I1:Inv X pins Z H { s with heap:=h' }:=I.turned (t':=s.toks) (λb o hb e=>(sb.2 b hb).trans e) f0 f1 f3 f4 f5;obtain⟨o,e,c,d⟩:=id lG;exact⟨u,rfl,zJ (s:={ s with heap:=h' }) e c d (by decide) ⟨x,H,I1,ru,⟨rfl,λys hy=>by rw[I.Sl hy hq];exact hx⟩,lG,λb hb=>(hf b hb).1⟩⟩
 done:=by
  intro X hP hw hK hc i pins s Z H E I hf st hg;subst hP hw hK;obtain⟨xs,hq,hx⟩:=hg;obtain⟨aO,rv,p,hz⟩:=I.tuple hq;obtain⟨f0,f1,f2,f3,f4,f5⟩:=hf it (by simp);have hl:=rv.length;exact wpAny_pyNext_tuple_end (I.ok.hd hc) st (show s.heap.IsTuple a aO.toArray from p) (by simp;omega) λh' eb=>⟨rfl,I.turned (t':=s.toks) (λb o hb e=>eb b o hb e) f0 f1 f3 f4 f5⟩
 self:=λ_ _ _ _ _ st h=>wpAny_pyIter_tupleiter st h
theorem Nx(it:Addr)(lo:Int)(n:Nat):Turn P w K tg (tH lo n) [it] it (λi h=>IsRangeIter h it (lo+(i:Nat)*1) ((n:Int)-(i:Nat)) 1) where
 mem:=by simp
 obj:=λi h st b hb=>by
  have e:b=it:=by simpa using hb
  subst e;exact ⟨_,st,λv z=>by
   have z':Data.fields _=Data.cell v:=z;cases z'⟩
 keep:=λi h h' st k=>k it (by simp) _ st
 item:=by
  intro X hP hw hK hc i pins s Z H E I hf st hg;subst hP hw hK;obtain⟨f0,f1,f2,f3,f4,f5⟩:=hf it (by simp);have W:=Walks.range (prog:=X.prog) (w:=X.w) (I.ok.hd hc) it lo 1 n;refine W.item i s _ _ hg st λv h' tk hv lG kk=>?_;obtain⟨t,rfl⟩:=hv;have I1:Inv X pins Z H { s with heap:=h',toks:=tk }:=I.turned (λb o hb e=>kk b o (by simpa using hb) e) f0 f1 f3 f4 f5;refine⟨_,rfl,zJ (s:={ s with heap:=h',toks:=tk }) (n:="range_iterator") lG rfl rfl (by decide) ⟨.int (lo+i),H,I1,⟨t,?_⟩,⟨rfl,rfl⟩,lG,λb hb=>(hf b hb).1⟩⟩;rw[Int.mul_one]
 done:=by
  intro X hP hw hK hc i pins s Z H E I hf st hg;subst hP hw hK;obtain⟨f0,f1,f2,f3,f4,f5⟩:=hf it (by simp);exact wpAny_pyNext_range_end (I.ok.hd hc) st (by have:n<=i:=hg;omega) λh' eb=>⟨rfl,I.turned (t':=s.toks) (λb o hb e=>eb b o hb e) f0 f1 f3 f4 f5⟩
 self:=λ_ _ _ _ _ st h=>wpAny_pyIter_rangeiter st h
theorem Dm{R:It->Hp->Prop}{lo hi:Int}{t u v:Tok}{tk:Nat}(I:Inv X pins Z H s)(h1:-(2 ^ 62)<=lo)(h2:lo<2 ^ 62)(h3:-(2 ^ 62)<=hi)(h4:hi<2 ^ 62)(q:R (tH lo (hi-lo).toNat) H):wpAny (model X.prog X.w) X.A (pyIter (.ref s.heap.objs.size)) (Fy X pins Z tg R) E { s with heap:=s.heap.push { cls:=.type "range",data:=.fields #[.int lo t,.int hi u,.int 1 v] },toks:=tk }:=by
 refine wpAny_pyIter_range (IsRange.new ..) (small_one h1 h2 h3 h4) ?_;have I1:Inv X pins Z H { s with heap:=s.heap.push { cls:=.type "range",data:=.fields #[.int lo t,.int hi u,.int 1 v] },toks:=tk }:=I.kept λb o e=>af _ e;refine ⟨(s.heap.push { cls:=.type "range",data:=.fields #[.int lo t,.int hi u,.int 1 v] }).objs.size,[(s.heap.push { cls:=.type "range",data:=.fields #[.int lo t,.int hi u,.int 1 v] }).objs.size],_,_,H,rfl,
  I1.kept (t':=tk) λb o e=>af _ e,Nx _ lo (hi - lo).toNat,?_,λb hb=>?_,q⟩
 ·have e1:lo+((0:Nat):Int)*1=lo:=by simp
  have e2:(((hi-lo).toNat:Nat):Int)-((0:Nat):Int)=Builtin.Range.rangeSize lo hi 1:=by rw[rangeSize_one];split<;>omega
  show IsRangeIter _ _ (lo+((0:Nat):Int)*1) ((((hi-lo).toNat:Nat):Int)-((0:Nat):Int)) 1;rw[e1,e2];exact ay _ rfl
 ·have e:b=(s.heap.push { cls:=.type "range",data:=.fields #[.int lo t,.int hi u,.int 1 v] }).objs.size:=by simpa using hb
  subst e;exact I1.pj (aj _) (I1.bD.fresh (aj _))
def Ks(ta:TA):TI:=λZ H R=>ta Z H λvs H1=>∃j:Int,vs=[.int j]/\-(2 ^ 62)<=j/\j<2 ^ 62/\R (tH 0 j.toNat) H1
def Kt(ta:TA):TI:=λZ H R=>ta Z H λvs H1=>∃i j:Int,vs=[.int i,.int j]/\(-(2 ^ 62)<=i/\i<2 ^ 62/\-(2 ^ 62)<=j/\j<2 ^ 62)/\R (tH i (j-i).toNat) H1
theorem RX{a:Expr}{ta:TA}(hg:Gl X "range")(hm:X.mg "range"=none)(ha:PA X [a] ta)(hs:starEach [a] X.env=[(false,eval a X.env)]:=by rfl):PI X tg (.Call (.Name "range" p) [a] [] pos) (Ks ta):=by
 intro pins s Z H R I h;refine Call_ (M0 I hg hm boot_range (bT (cC (ha pos pins s Z H _ I h) λus s1 bc=>?_) hs rfl));obtain⟨vs,H1,I1,r1,q1⟩:=bc;obtain⟨j,e,q1,q2,q⟩:=q1;subst e;cases r1 with
 |cons r rr =>
  cases rr;obtain⟨t,rfl⟩:=r;exact call_range_1 (Dm I1 (by omega) (by omega) q1 q2 (by simpa using q))
theorem RY{a b:Expr}{ta:TA}(hg:Gl X "range")(hm:X.mg "range"=none)(ha:PA X [a,b] ta)(hs:starEach [a,b] X.env=[(false,eval a X.env),(false,eval b X.env)]:=by rfl)(iw:starEach [b] X.env=[(false,eval b X.env)]:=by rfl) :
  PI X tg (.Call (.Name "range" p) [a,b] [] pos) (Kt ta):=by
 intro pins s Z H R I h;refine Call_ (M0 I hg hm boot_range (bT (cC (ha pos pins s Z H _ I h) λus s1 bc=>?_) (by rw[hs,iw]) (by rw[iw];rfl)));obtain⟨vs,H1,I1,r1,q1⟩:=bc;obtain⟨i,j,e,⟨q1,q2,q3,q4⟩,q⟩:=q1;subst e;cases r1 with
 |cons r rr =>
  cases rr with
  |cons r' rr =>
   cases rr;obtain⟨t,rfl⟩:=r;obtain⟨t',rfl⟩:=r';exact call_range_2 (Dm I1 q1 q2 q3 q4 q)
def JK(wi:TI)(g:TG)(tb:TS):TS:=λD Z H=>wi Z H λJ H1=>∃W:Nat->Nat->St->Hp->Prop,(∃m,W 0 m Z H1)/\∀i m Z H,W i m Z H ->
 (J.stop i H/\D.nx Z H)\/(J.go i H/\∃N:St->Hp->Prop,(∀bJ H',N bJ H'->∃m',m'<m/\W (i+1) m' bJ H')/\∀x H',J.nT i H x H'->g x Z H' λcE H2=>tb { D with nx:=N,ct:=N,bk:=D.nx } cE H2)
def R5(fp:List Addr)(h:Heap):List (Addr×Obj):=fp.filterMap λb=>(h.get? b).map λo=>(b,o)
theorem M9{o:Obj}(hb:b∈fp)(e:h.get? b=some o):(b,o)∈R5 fp h:=jk.mpr ⟨b,hb,by rw[e];rfl⟩
theorem RJ{p:Addr×Obj}(hp:p∈R5 fp h):p.1∈fp/\h.get? p.1=some p.2:=by
 obtain⟨b,hb,e⟩:=jk.mp hp;cases q:h.get? b with
 |none=>rw[q] at e;cases e
 |some o =>
  rw[q] at e;have e':(b,o)=p:=aE e;subst e';exact⟨hb,q⟩
theorem Inv.pinned(I:Inv X pins Z H s)(hf:∀b∈fp,B0 X pins H b)(ho:∀b∈fp,∃o,s.heap.get? b=some o/\∀v,o.data≠.cell v):Inv X (pins++R5 fp s.heap) Z H s :=
 I.F4 λp hp=>(aS.mp hp).elim (λz=>I.pin p (aZ _ z)) λz=>by
  obtain⟨hb,e⟩:=RJ z;obtain⟨f0,f1,f2,_⟩:=hf p.1 hb;obtain⟨o,e',d⟩:=ho p.1 hb;rw[e] at e';cases e';exact⟨e,f0,f1,f2,d⟩
theorem Inv.zg{pl:List (Addr×Obj)}(I:Inv X (pins++pl) Z H s):Inv X pins Z H s:=I.F4 λp hp=>I.pin p (aZ _ (bh _ hp))
theorem Nl{iter:Expr}{wi:TI}{g:TG}{tb:TS}(hp:PassesOwn (model X.prog X.w) X.A X.env X.xe)(hc:X.calm=true)(hi:PI X tg iter wi)(hg:PG X tg g)(hb:jc X body tb)(hs:∀x,foldedSetIterable iter X.env x=pure x:=by intro _;rfl):PS X (.For tg iter body [] pos) (JK wi g tb):=by
 intro pins s Z H D I h;refine wpAny_For (cC (hi pins s Z H _ I h) λv s1 h1=>cC h1 λrH s2 h2=>?_) hs;obtain⟨it,fp,tn,J,H2,e,I2,T,kL,f2,W,⟨m0,w0⟩,turn⟩:=h2;subst e;have nY:∀{H':Hp},(∀b∈fp,H' b=none)->∀b∈fp,B0 X pins H' b:=λhn b hb=>⟨hn b hb,(f2 b hb).2⟩
 refine codeAny_forLoop_any (λn s'=>∃i bJ H',Inv X pins bJ H' s'/\tn i s'.heap/\(∀b∈fp,H' b=none)/\W i n bJ H') ?_ m0 ⟨0,Z,H2,I2,kL,λb hb=>(f2 b hb).1,w0⟩;rintro n s3 ⟨i,gI,H3,I3,mV,nF,w3⟩;rcases turn i n gI H3 w3 with⟨stop,qn⟩|⟨go,N,hN,step⟩
 ·refine dB hp (cC (T.done X rfl rfl rfl hc i pins s3 gI H3 X.xe I3 (nY nF) mV stop) λr s4 ⟨hr,I4⟩=>?_);subst hr;exact qq ⟨gI,H3,I4,qn⟩
 ·refine dB hp (cC (T.item X rfl rfl rfl hc i pins s3 gI H3 X.xe I3 (nY nF) mV go) λr s4 ⟨u,hr,h4⟩=>?_);subst hr;refine dB hp (cC h4 λ_ s5 bc=>?_);obtain⟨x,H5,I5,r5,y5,kK,sH⟩:=bc;have tI:=I5.pinned (nY sH) (T.obj _ _ kK);refine dB hp (cC (hg _ s5 gI H5 x u _ tI r5 (step x H5 y5)) λ_ s6 bc=>?_);obtain⟨jY,H6,I6,q6⟩:=bc;refine dB hp (cC (hb _ s6 jY H6 _ I6 q6) λf s7 q7=>?_);have again:∀{kF:St} {H7:Hp},Inv X (pins++R5 fp s5.heap) kF H7 s7->N kF H7->∃m,m<n/\∃i bJ H',Inv X pins bJ H' s7/\tn i s7.heap/\(∀b∈fp,H' b=none)/\W i m bJ H':=λ{kF H7} I7 n7=>by
   obtain⟨m',hm,w7⟩:=hN kF H7 n7;refine⟨m',hm,i+1,kF,H7,I7.zg,T.keep _ _ _ kK λb hb o e=>(I7.pin (b,o) (aZ _ (aZ _ (M9 hb e)))).1,λb hb=>?_,w7⟩;obtain⟨o,e,d⟩:=T.obj _ _ kK b hb;exact(I7.pin (b,o) (aZ _ (aZ _ (M9 hb e)))).2.1
  cases f with
  |next=>obtain⟨kF,H7,I7,n7⟩:=q7;exact again I7 n7
  |cont=>obtain⟨kF,H7,I7,n7⟩:=q7;exact again I7 n7
  |brk=>obtain⟨kF,H7,I7,q7⟩:=q7;exact⟨kF,H7,I7.zg,q7⟩
  |ret v=>obtain⟨x7,kF,H7,I7,r7,q7⟩:=q7;exact⟨x7,kF,H7,I7.zg,r7,q7⟩
noncomputable abbrev R2:=V->V->Hp->VK->Prop
def fj(X:Cx)(f:Value->Value->Sem Value)(r:R2):Prop :=
 ∀(pins:List (Addr×Obj)) (s:Shared) (Z:St) (H:Hp) (x y:V) (v u:Value) (Q:VK),Inv X pins Z H s->RelV x v->RelV y u->r x y H Q ->
  wpAny (model X.prog X.w) X.A (f v u) (EP X pins Z Q) X.xe s
def vp(X:Cx)(f:Value->Sem Value)(r:V->Hp->VK->Prop):Prop :=
 ∀(pins:List (Addr×Obj)) (s:Shared) (Z:St) (H:Hp) (x:V) (v:Value) (Q:VK),Inv X pins Z H s->RelV x v->r x H Q ->
  wpAny (model X.prog X.w) X.A (f v) (EP X pins Z Q) X.xe s
def i8(X:Cx)(f:Value)(r:List V->Hp->VK->Prop):Prop :=
 ∀(pins:List (Addr×Obj)) (s:Shared) (Z:St) (H:Hp) (xs:List V) (us:List Value) (Q:VK),Inv X pins Z H s->Vals xs us->r xs H Q ->
  wpAny (model X.prog X.w) X.A (call f us) (EP X pins Z Q) X.xe s
def IB(X:Cx)(r:V->Hp->(Bool->Hp->Prop)->Prop):Prop :=
 ∀(pins:List (Addr×Obj)) (s:Shared) (Z:St) (H:Hp) (x:V) (v:Value) (Q:Bool->Hp->Prop),Inv X pins Z H s->RelV x v->r x H Q ->
  wpAny (model X.prog X.w) X.A (truthy v) (TP X pins Z Q) X.xe s
def pL(r:R2)(ta tb:TE):TE:=λZ H Q=>ta Z H λx H1=>tb Z H1 λy H2=>r x y H2 Q
def FY(r:V->Hp->VK->Prop)(ta:TE):TE:=λZ H Q=>ta Z H λx H1=>r x H1 Q
def rI(C:Int->Int->Prop)(g:Int->Int->V):R2:=λx y H Q=>∃i j,x=.int i/\y=.int j/\C i j/\Q (g i j) H
def lI(g:Int->Int->V):R2:=λx y H Q=>∃i j,x=.int i/\y=.int j/\Q (g i j) H
def rU(g:Int->V):V->Hp->VK->Prop:=λx H Q=>∃i,x=.int i/\Q (g i) H
section
variable{a b:Expr}
theorem zp(ha:PE X a ta)(hb:PE X b tb){R:V->V->Hp->Prop}(I:Inv X pins Z H s)(h:ta Z H λx H1=>tb Z H1 λy H2=>R x y H2){f:Value->Value->Sem Value}(hf:∀v u s2 x y H2,Inv X pins Z H2 s2->RelV x v->RelV y u->R x y H2->wpAny (model X.prog X.w) X.A (f v u) Q X.xe s2) :
  wpAny (model X.prog X.w) X.A (eval a X.env) (λv bG=>wpAny (model X.prog X.w) X.A (eval b X.env) (λu fW=>wpAny (model X.prog X.w) X.A (f v u) Q X.xe fW) X.xe bG) X.xe s:=by
 refine cC (ha pins s Z H _ I h) λv s1 bc=>?_;obtain⟨x,H1,I1,r1,q1⟩:=bc;refine cC (hb pins s1 Z H1 _ I1 q1) λu s2 bc=>?_;obtain⟨y,H2,I2,r2,q2⟩:=bc;exact hf v u s2 x y H2 I2 r1 r2 q2
theorem Ld{op:Operator}(ho:fj X (binaryOp op) r)(ha:PE X a ta)(hb:PE X b tb):PE X (.BinOp a op b pos) (pL r ta tb):=by
 intro pins s Z H Q I h;exact wpAny_BinOp (zp ha hb I h λv u s2 x y H2 I2 rx ry q=>ho pins s2 Z H2 x y v u Q I2 rx ry q)
theorem Lf{op:UnaryOp}{r:V->Hp->VK->Prop}(ho:vp X (unaryOp op) r)(ha:PE X a ta):PE X (.UnaryOp op a pos) (FY r ta):=by
 intro pins s Z H Q I h;exact UnaryOp_ (cC (ha pins s Z H _ I h) λv s1 ⟨x,H1,I1,r1,q1⟩=>ho pins s1 Z H1 x v Q I1 r1 q1)
theorem qU{f:Value->Value->Sem Value}{C:Int->Int->Prop}{g:Int->Int->Int}(rule:∀(i j:Int) (t u:Tok) (s:Shared) (Q:Value->Shared->Prop) (E:Value->Shared->Prop),C i j->Q (.int (g i j) s.toks) { s with toks:=s.toks+1 }->wpAny (model X.prog X.w) X.A (f (.int i t) (.int j u)) Q E s) :
  fj X f (rI C λi j=>.int (g i j)):=by
 intro pins s Z H x y v u Q I rx ry h;obtain⟨i,j,rfl,rfl,hc,q⟩:=h;obtain⟨t,rfl⟩:=rx;obtain⟨t',rfl⟩:=ry;exact rule i j t t' s _ _ hc ⟨.int (g i j),H,I.tok _,⟨_,rfl⟩,q⟩
theorem vn{f:Value->Value->Sem Value}{g:Int->Int->Int}(rule:∀(i j:Int) (t u:Tok) (s:Shared) (Q:Value->Shared->Prop) (E:Value->Shared->Prop),Q (.int (g i j) s.toks) { s with toks:=s.toks+1 }->wpAny (model X.prog X.w) X.A (f (.int i t) (.int j u)) Q E s) :
  fj X f (lI λi j=>.int (g i j)):=by
 intro pins s Z H x y v u Q I rx ry h;obtain⟨i,j,rfl,rfl,q⟩:=h;obtain⟨t,rfl⟩:=rx;obtain⟨t',rfl⟩:=ry;exact rule i j t t' s _ _ ⟨.int (g i j),H,I.tok _,⟨_,rfl⟩,q⟩
theorem vm{f:Value->Value->Sem Value}{g:Int->Int->Bool}(rule:∀(i j:Int) (t u:Tok) (s:Shared) (Q:Value->Shared->Prop) (E:Value->Shared->Prop),Q (.bool (g i j)) s->wpAny (model X.prog X.w) X.A (f (.int i t) (.int j u)) Q E s) :
  fj X f (lI λi j=>.bl (g i j)):=by
 intro pins s Z H x y v u Q I rx ry h;obtain⟨i,j,rfl,rfl,q⟩:=h;obtain⟨t,rfl⟩:=rx;obtain⟨t',rfl⟩:=ry;exact rule i j t t' s _ _ ⟨.bl (g i j),H,I,rfl,q⟩
def zj(i j:Int):Prop:=0<j/\j<1073741824
def Z4(i j:Int):Prop:=0<=j/\j<=1000000/\i.natAbs<2 ^ 64
def V9(i j:Int):Prop:=(-(2 ^ 64)<i/\i<2 ^ 64)\/(-(2 ^ 64)<j/\j<2 ^ 64)
theorem V9.ok{i j:Int}(h:V9 i j):IntMulOk i j:=by
 rcases h with⟨h1,h2⟩|⟨h1,h2⟩
 ·exact .of_left (intBits_le_64 h1 h2)
 ·exact .of_right (intBits_le_64 h1 h2)
theorem MJ:fj X (binaryOp .Add) (lI λi j=>.int (i+j)):=vn λ_ _ _ _ _ _ _ q=>add_int q
theorem MV:fj X (binaryOp .Sub) (lI λi j=>.int (i-j)):=vn λ_ _ _ _ _ _ _ q=>sub_int q
theorem MP:fj X (binaryOp .Mult) (rI V9 λi j=>.int (i*j)):=qU λ_ _ _ _ _ _ _ hc q=>mul_int q hc.ok
theorem UM:fj X (binaryOp .FloorDiv) (rI zj λi j=>.int (i / j)):=qU λi j _ _ _ _ _ hc q=>by
 have h1:(0:Int)<j:=hc.1;have h2:j<1073741824:=hc.2;exact floordiv_int (by omega) (by rw[Int.fdiv_eq_ediv_of_nonneg i (by omega)];exact q) (.inl (PyProof.noPylong_small (by omega)))
theorem MO:fj X (binaryOp .Mod) (rI (λ_ j=>0<j) λi j=>.int (i % j)):=qU λi j _ _ _ _ _ hc q=>by
 have h1:(0:Int)<j:=hc;exact mod_int' (by omega) (by rw[Int.fmod_eq_emod_of_nonneg i (by omega)];exact q)
theorem MQ:fj X (binaryOp .Pow) (rI Z4 λi j=>.int (i ^ j.toNat)):=qU λ_ _ _ _ _ _ _ hc q=>pow_int_small hc.1 hc.2.1 hc.2.2 q
theorem MU:fj X (binaryOp .LShift) (rI Z4 λi j=>.int (i*2 ^ j.toNat)):=qU λ_ _ _ _ _ _ _ hc q=>lshift_int_small hc.1 hc.2.1 hc.2.2 q
theorem MK:fj X (binaryOp .BitAnd) (lI λi j=>.int (Builtin.bitAnd i j)):=vn λ_ _ _ _ _ _ _ q=>and_int q
theorem K':fj X (binaryOp .BitOr) (lI λi j=>.int (Builtin.bitOr i j)):=vn λ_ _ _ _ _ _ _ q=>or_int q
theorem FX{f:Value->Sem Value}{g:Int->Int}(rule:∀(i:Int) (t:Tok) (s:Shared) (Q:Value->Shared->Prop) (E:Value->Shared->Prop),Q (.int (g i) s.toks) { s with toks:=s.toks+1 }->wpAny (model X.prog X.w) X.A (f (.int i t)) Q E s) :
  vp X f (rU λi=>.int (g i)):=by
 intro pins s Z H x v Q I rx h;obtain⟨i,rfl,q⟩:=h;obtain⟨t,rfl⟩:=rx;exact rule i t s _ _ ⟨.int (g i),H,I.tok _,⟨_,rfl⟩,q⟩
theorem TZ:vp X (unaryOp .USub) (rU λi=>.int (-i)):=FX λ_ _ _ _ _ q=>neg_int q
end
def Fo:V->V->Bool
 |.bV,.bV=>true|.bV,.int _=>true|.int _,.bV=>true|.bV,.bl _=>true|.bl _,.bV=>true|.bV,.str _=>true|.str _,.bV=>true
 |.int _,.int _=>true|.bl _,.bl _=>true|.str _,.str _=>true|.jT _,.jT _=>true
 |.int _,.str _=>true|.str _,.int _=>true|.bl _,.str _=>true|.str _,.bl _=>true
 |_,_=>false
def Gm:R2:=λx y H Q=>Fo x y=true/\Q (.bl (decide (x=y))) H
def Gk:R2:=λx y H Q=>Fo x y=true/\Q (.bl (!decide (x=y))) H
theorem va{i j:Int}:decide (V.int i=V.int j)=(i==j):=by
 rw[bZ];simp
theorem uP{i j:Bool}:decide (V.bl i=V.bl j)=(i==j):=by
 rw[bZ];simp
theorem vc{i j:Str}:decide (V.str i=V.str j)=(i==j):=by
 rw[bZ];simp
theorem Cw{i j:Array UInt8}:decide (V.jT i=V.jT j)=(i.toList==j.toList):=by
 rw[bZ];cases i;cases j;simp
section
variable{a b:Expr}{tc:TE}
theorem j3{Q:VK}{k k':Bool}(I:Inv X pins Z H s)(q:Q (.bl k) H)(e:k=k'):EP X pins Z Q (.bool k') s:=by
 subst e;exact⟨.bl k,H,I,rfl,q⟩
theorem zM:fj X (compareOp .Eq) Gm:=by
 intro pins s Z H x y v u Q I rx ry h;obtain⟨hs,q⟩:=h;cases x with
 |bV =>
  cases rx;cases y with
  |bV=>cases ry;exact PySem.EqNone.eq_none_none (j3 I q (by simp))
  |bl j=>cases ry;exact PySem.EqNone.eq_none_bool (j3 I q (by simp))
  |int j=>obtain⟨t',rfl⟩:=ry;exact PySem.EqNone.eq_none_int (j3 I q (by simp))
  |str j=>obtain⟨t',rfl⟩:=ry;exact PySem.EqNone.eq_none_str (j3 I q (by simp))
  |_=>exact absurd (show false=true from hs) Bool.false_ne_true
 |bl i =>
  cases rx;cases y with
  |bV=>cases ry;exact PySem.EqNone.eq_bool_none (j3 I q (by simp))
  |bl j=>cases ry;exact eq_bool (j3 I q uP)
  |str j=>obtain⟨t',rfl⟩:=ry;exact PySem.EqMixed.eq_bool_str (j3 I q (by simp))
  |_=>exact absurd (show false=true from hs) Bool.false_ne_true
 |int i =>
  obtain⟨t,rfl⟩:=rx;cases y with
  |bV=>cases ry;exact PySem.EqNone.eq_int_none (j3 I q (by simp))
  |int j=>obtain⟨t',rfl⟩:=ry;exact eq_int (j3 I q va)
  |str j=>obtain⟨t',rfl⟩:=ry;exact PySem.EqMixed.eq_int_str (j3 I q (by simp))
  |_=>exact absurd (show false=true from hs) Bool.false_ne_true
 |str i =>
  obtain⟨t,rfl⟩:=rx;cases y with
  |bV=>cases ry;exact PySem.EqNone.eq_str_none (j3 I q (by simp))
  |bl j=>cases ry;exact PySem.EqMixed.eq_str_bool (j3 I q (by simp))
  |int j=>obtain⟨t',rfl⟩:=ry;exact PySem.EqMixed.eq_str_int (j3 I q (by simp))
  |str j=>obtain⟨t',rfl⟩:=ry;exact eq_str (j3 I q vc)
  |_=>exact absurd (show false=true from hs) Bool.false_ne_true
 |jT i =>
  obtain⟨t,rfl⟩:=rx;cases y with
  |jT j=>obtain⟨t',rfl⟩:=ry;exact PySem.W.eq_bytes (j3 I q Cw)
  |_=>exact absurd (show false=true from hs) Bool.false_ne_true
 |_=>cases y<;>exact absurd (show false=true from hs) dg
theorem zN:fj X (compareOp .NotEq) Gk:=by
 intro pins s Z H x y v u Q I rx ry h;obtain⟨hs,q⟩:=h;cases x with
 |bV =>
  cases rx;cases y with
  |bV=>cases ry;exact PySem.EqNone.ne_none_none (j3 I q (by simp))
  |bl j=>cases ry;exact PySem.EqNone.ne_none_bool (j3 I q (by simp))
  |int j=>obtain⟨t',rfl⟩:=ry;exact PySem.EqNone.ne_none_int (j3 I q (by simp))
  |str j=>obtain⟨t',rfl⟩:=ry;exact PySem.EqNone.ne_none_str (j3 I q (by simp))
  |_=>exact absurd (show false=true from hs) Bool.false_ne_true
 |bl i =>
  cases rx;cases y with
  |bV=>cases ry;exact PySem.EqNone.ne_bool_none (j3 I q (by simp))
  |bl j=>cases ry;exact ne_bool (j3 I q (congrArg not uP))
  |str j=>obtain⟨t',rfl⟩:=ry;exact PySem.EqMixed.ne_bool_str (j3 I q (by simp))
  |_=>exact absurd (show false=true from hs) Bool.false_ne_true
 |int i =>
  obtain⟨t,rfl⟩:=rx;cases y with
  |bV=>cases ry;exact PySem.EqNone.ne_int_none (j3 I q (by simp))
  |int j=>obtain⟨t',rfl⟩:=ry;exact ne_int (j3 I q (congrArg not va))
  |str j=>obtain⟨t',rfl⟩:=ry;exact PySem.EqMixed.ne_int_str (j3 I q (by simp))
  |_=>exact absurd (show false=true from hs) Bool.false_ne_true
 |str i =>
  obtain⟨t,rfl⟩:=rx;cases y with
  |bV=>cases ry;exact PySem.EqNone.ne_str_none (j3 I q (by simp))
  |bl j=>cases ry;exact PySem.EqMixed.ne_str_bool (j3 I q (by simp))
  |int j=>obtain⟨t',rfl⟩:=ry;exact PySem.EqMixed.ne_str_int (j3 I q (by simp))
  |str j=>obtain⟨t',rfl⟩:=ry;exact ne_str (j3 I q (congrArg not vc))
  |_=>exact absurd (show false=true from hs) Bool.false_ne_true
 |jT i =>
  obtain⟨t,rfl⟩:=rx;cases y with
  |jT j=>obtain⟨t',rfl⟩:=ry;exact PySem.W.ne_bytes (j3 I q (congrArg not Cw))
  |_=>exact absurd (show false=true from hs) Bool.false_ne_true
 |_=>cases y<;>exact absurd (show false=true from hs) dg
theorem KZ:fj X (compareOp .Lt) (lI λi j=>.bl (decide (i<j))):=vm λ_ _ _ _ _ _ _ q=>lt_int q
theorem KY:fj X (compareOp .LtE) (lI λi j=>.bl (decide (i<=j))):=vm λ_ _ _ _ _ _ _ q=>le_int q
theorem KW:fj X (compareOp .Gt) (lI λi j=>.bl (decide (j<i))):=vm λ_ _ _ _ _ _ _ q=>gt_int q
theorem KU:fj X (compareOp .GtE) (lI λi j=>.bl (decide (j<=i))):=vm λ_ _ _ _ _ _ _ q=>ge_int q
theorem MN:fj X (compareOp .Is) (λx y H Q=>y=.bV/\Q (.bl (decide (x=.bV))) H):=by
 intro pins s Z H x y v u Q I rx ry h;obtain⟨rfl,q⟩:=h;cases ry;refine is_none_gen (j3 I q ?_);cases x<;>first
  |(cases rx;rfl)
  |(obtain⟨t,rfl⟩:=rx;rfl)
theorem UN:fj X (compareOp .IsNot) (λx y H Q=>y=.bV/\Q (.bl (!decide (x=.bV))) H):=by
 intro pins s Z H x y v u Q I rx ry h;obtain⟨rfl,q⟩:=h;cases ry;refine isnot_none_gen (j3 I q ?_);cases x<;>first
  |(cases rx;rfl)
  |(obtain⟨t,rfl⟩:=rx;rfl)
theorem CI(ho:fj X (compareOp op) r)(ha:PE X a ta)(hb:PE X b tb)(hm:behindInMarks op b=false):PE X (.Compare a [op] [b] pos) (pL r ta tb):=by
 intro pins s Z H Q I h;exact wpAny_Compare1 (zp ha hb I h λv u s2 x y H2 I2 rx ry q=>ho pins s2 Z H2 x y v u Q I2 rx ry q) hm
def yb(t:TE):TT:=λZ H Q=>t Z H λx H'=>∃k,x=.bl k/\Q k H'
theorem CM(ho:fj X (compareOp op) r)(ha:PE X a ta)(hb:PE X b tb)(hm:behindInMarks op b=false):PT X (.Compare a [op] [b] pos) (yb (pL r ta tb)):=by
 intro pins s Z H Q I h;refine wpAny_isTrue_Compare1 (cC (ha pins s Z H _ I h) λv s1 ⟨x,H1,I1,r1,q1⟩=>cC (hb pins s1 Z H1 _ I1 q1) λu s2 ⟨y,H2,I2,r2,q2⟩ =>
  cC (ho pins s2 Z H2 x y v u _ I2 r1 r2 q2) λc s3 ⟨z,H3,I3,r3,k,e,q3⟩=>?_) hm
 subst e;cases r3;exact bS ⟨H3,I3,q3⟩
def yy(r r':R2)(ta tb tc:TE):TE:=λZ H Q=>ta Z H λx H1=>tb Z H1 λy H2=>r x y H2 λz H3=>∃k,z=.bl k /\
 (if k=true then tc Z H3 λw' H4=>r' y w' H4 Q else Q (.bl false) H3)
theorem Qk{gC:CmpOp}{r':R2}(ho:fj X (compareOp op) r)(kX:fj X (compareOp gC) r')(ha:PE X a ta)(hb:PE X b tb)(hc:PE X c tc)(hm:lastMarks [op,gC] [b,c]=false:=by with_unfolding_all rfl):PE X (.Compare a [op,gC] [b,c] pos) (yy r r' ta tb tc):=by
 intro pins s Z H Q I h;refine Compare_chain (cC (ha pins s Z H _ I h) λv s1 ⟨x,H1,I1,r1,q1⟩=>chain_link (cC (hb pins s1 Z H1 _ I1 q1) λu s2 ⟨y,H2,I2,r2,q2⟩ =>
  cC (ho pins s2 Z H2 x y v u _ I2 r1 r2 q2) λd s3 ⟨z,H3,I3,r3,k,e,q3⟩=>?_)) hm
 subst e;cases r3;refine bS ?_;cases k with
 |false=>exact ite_ff ⟨.bl false,H3,I3,rfl,q3⟩
 |true=>exact ite_tt (chain_last (cC (hc pins s3 Z H3 _ I3 q3) λw' s4 ⟨z',H4,I4,r4,q4⟩=>kX pins s4 Z H4 y z' u w' Q I4 r2 r4 q4))
theorem Qw{gC:CmpOp}{r':R2}(ho:fj X (compareOp op) r)(kX:fj X (compareOp gC) r')(ha:PE X a ta)(hb:PE X b tb)(hc:PE X c tc)(hm:lastMarks [op,gC] [b,c]=false:=by with_unfolding_all rfl):PT X (.Compare a [op,gC] [b,c] pos) (yb (yy r r' ta tb tc)):=by
 intro pins s Z H Q I h;refine isTrue_chain (cC (ha pins s Z H _ I h) λv s1 ⟨x,H1,I1,r1,q1⟩=>test_link (cC (hb pins s1 Z H1 _ I1 q1) λu s2 ⟨y,H2,I2,r2,q2⟩ =>
  cC (ho pins s2 Z H2 x y v u _ I2 r1 r2 q2) λd s3 ⟨z,H3,I3,r3,k,e,q3⟩=>?_)) hm
 subst e;cases r3;refine bS ?_;cases k with
 |false =>
  obtain⟨k',e',q'⟩:=q3;cases e';exact ite_ff ⟨H3,I3,q'⟩
 |true =>
  refine ite_tt (test_last (cC (hc pins s3 Z H3 _ I3 q3) λw' s4 ⟨z',H4,I4,r4,q4⟩=>cC (kX pins s4 Z H4 y z' u w' _ I4 r2 r4 q4) λd' s5 bc=>?_));obtain⟨z2,H5,I5,r5,k2,e2,q5⟩:=bc;subst e2;cases r5;exact bS ⟨H5,I5,q5⟩
def zm(K:PySem.W.Frag)(x:V)(H:Hp)(k:Bool):Prop :=
 match x with
 |.bV=>k=false
 |.bl b=>k=b
 |.int i=>k=(i != 0)
 |.str y=>y.length<=sizeLine/\k=((y.length:Int) != 0)
 |.jT y=>y.size<=sizeLine/\k=((y.size:Int) != 0)
 |.ref p=>(∃xs,fe K H p xs/\k=!xs.isEmpty)\/(∃xs,gS K H p xs/\k=!xs.isEmpty)\/∃kvs,H p=some (.dK kvs)/\k=!kvs.isEmpty
 |_=>False
theorem SA{κ:Type}{kvs:List (κ×V)}{vs:List (κ×Value)}(r:KV kvs vs):(!vs.isEmpty)=!kvs.isEmpty:=by
 cases r<;>rfl
theorem DW{aO:List Value}(r:Vals xs aO):(!aO.toArray.isEmpty)=!xs.isEmpty:=by
 cases r<;>simp
theorem O7:(sizeLine:Nat)<2 ^ 63:=by rw[jE];decide
theorem TX:IB X (λx H Q=>∃k,zm X.K x H k/\Q k H):=by
 intro pins s Z H x v Q I rx h;obtain⟨k,e,q⟩:=h;have hl:=O7;have hs:sizeLine=16777216:=jE;cases x with
 |bV =>
  cases rx;have e':k=false:=e;subst e';exact truthy_none ⟨H,I,q⟩
 |bl b =>
  cases rx;have e':k=b:=e;subst e';exact bS ⟨H,I,q⟩
 |int i =>
  obtain⟨t,rfl⟩:=rx;have e':k=(i != 0):=e;subst e';exact PySem.P.truthy_int ⟨H,I,q⟩
 |str y =>
  obtain⟨t,rfl⟩:=rx;obtain⟨hy,e'⟩:y.length<=sizeLine/\k=((y.length:Int) != 0):=e;subst e';exact PySem.P.truthy_str (by omega) ⟨H,I.tok _,q⟩
 |jT y =>
  obtain⟨t,rfl⟩:=rx;obtain⟨hy,e'⟩:y.size<=sizeLine/\k=((y.size:Int) != 0):=e;subst e';exact PySem.W.truthy_bytes (by omega) ⟨H,I.tok _,q⟩
 |ref p =>
  cases rx;have e':(∃xs,fe X.K H p xs/\k=!xs.isEmpty)\/(∃xs,gS X.K H p xs/\k=!xs.isEmpty)\/∃kvs,H p=some (.dK kvs)/\k=!kvs.isEmpty:=e;rcases e' with⟨xs,hx,e'⟩|⟨xs,hx,e'⟩|⟨kvs,hx,e'⟩
  ·subst e';obtain⟨aO,r,pl,hz⟩:=I.list hx;have hlen:=r.length;exact wpAny_truthy_list pl.isList (by simp only[List.size_toArray];omega) ⟨H,I.tok _,by rw[DW r];exact q⟩
  ·subst e';obtain⟨aO,r,pl,hz⟩:=I.tuple hx;have hlen:=r.length;exact truthy_tuple pl (by simp only[List.size_toArray];omega) ⟨H,I.tok _,by rw[DW r];exact q⟩
  ·subst e';obtain⟨hz,hS,vs,r,m⟩:kvs.length<=sizeLine/\(p==sysModules)=false/\∃vs,KV kvs vs/\s.heap.DictOf (k6 X.prog X.w) p vs:=I.bD p _ hx;have hlen:kvs.length=vs.length:=kl r;exact wpAny_truthy_dict hS m (by omega) ⟨H,I.tok _,by rw[SA r];exact q⟩
 |_=>exact(show False from e).elim
theorem Qx(ha:PE X a ta)(he:∀whole,isTrue a X.env whole=(do let v <- whole;standAt a.pos;holding [v] (truthy v))) :
  PT X a (λZ H Q=>ta Z H λx H'=>∃k,zm X.K x H' k/\Q k H'):=by
 intro pins s Z H Q I h;exact isTrue_plain (cC (ha pins s Z H _ I h) λv s1 ⟨x,H1,I1,r1,q1⟩=>TX pins s1 Z H1 x v Q I1 r1 q1) (he _)
theorem SM:fj X (binaryOp .Add) (λx y H Q=>∃i j,x=.str i/\y=.str j/\i.length+j.length<=sizeLine/\Q (.str (i++j)) H):=by
 intro pins s Z H x y v u Q I rx ry h;obtain⟨i,j,rfl,rfl,hz,q⟩:=h;obtain⟨t,rfl⟩:=rx;obtain⟨t',rfl⟩:=ry;exact add_str (λt' tk=>⟨.str (i++j),H,I.tok _,⟨_,rfl⟩,q⟩) hz
theorem vals1{x:V}(r:Vals [x] us):∃u,us=[u]/\RelV x u:=by
 cases r with
 |cons r1 r2=>cases r2;exact⟨_,rfl,r1⟩
theorem vals2{x y:V}(r:Vals [x,y] us):∃u w',us=[u,w']/\RelV x u/\RelV y w':=by
 cases r with
 |cons r1 r2 =>
  cases r2 with
  |cons r3 r4=>cases r4;exact⟨_,_,rfl,r1,r3⟩
theorem Rh(hc:X.calm=true):i8 X (.builtin "max") (λxs H Q=>∃i j,xs=[.int i,.int j]/\Q (.int (if j>i then j else i)) H):=by
 intro pins s Z H xs us Q I r h;obtain⟨i,j,rfl,q⟩:=h;obtain⟨u,w',rfl,⟨t,rfl⟩,⟨t',rfl⟩⟩:=vals2 r;refine max_two_ints (I.ok.hd hc) λh' tk k=>⟨_,H,I.kept k,?_,q⟩
 by_cases hj:j>i
 ·rw[aN hj,aN hj];exact⟨_,rfl⟩
 ·rw[aH hj,aH hj];exact⟨_,rfl⟩
theorem Rj(hc:X.calm=true):i8 X (.builtin "min") (λxs H Q=>∃i j,xs=[.int i,.int j]/\Q (.int (if j<i then j else i)) H):=by
 intro pins s Z H xs us Q I r h;obtain⟨i,j,rfl,q⟩:=h;obtain⟨u,w',rfl,⟨t,rfl⟩,⟨t',rfl⟩⟩:=vals2 r;refine min_two_ints (I.ok.hd hc) λh' tk k=>⟨_,H,I.kept k,?_,q⟩
 by_cases hj:j<i
 ·rw[aN hj,aN hj];exact⟨_,rfl⟩
 ·rw[aH hj,aH hj];exact⟨_,rfl⟩
theorem DA:i8 X (.type "int") (λxs H Q=>(∃i,xs=[.int i]/\Q (.int i) H)\/∃k,xs=[.bl k]/\Q (.int (if k then 1 else 0)) H):=by
 intro pins s Z H xs us Q I r h;rcases h with⟨i,rfl,q⟩|⟨k,rfl,q⟩
 ·obtain⟨u,rfl,t,rfl⟩:=vals1 r;exact call_int_int ⟨.int i,H,I,⟨_,rfl⟩,q⟩
 ·obtain⟨u,rfl,r1⟩:=vals1 r;cases r1;exact call_int_bool ⟨.int (if k then 1 else 0),H,I.tok _,⟨_,rfl⟩,q⟩
end
structure qf(h:Heap)(x dx C:Addr)(mA:Str->Option Value):Prop where
 obj:h.get? x=some (PySem.W.instObj C dx)
 ns:h.Ns1 dx mA
 ne:dx≠x
theorem DG{mA:Str->Option Value}(n:h.Ns1 dx mA):∃od,h.get? dx=some od/\∀name,PySem.W.lookIn name od=some (mA name):=by
 obtain⟨o,es,ep,ho,hd,hk,_,hm⟩:=n;refine⟨o,ho,λname=>?_⟩;have e:=hm name;unfold nsFind findBy at e;rw[<- Array.find?_toList] at e;unfold PySem.W.lookIn;rw[hd];dsimp only;split
 ·rename_i y q;rw[q] at e;exact eZ some e
 ·rename_i q;rw[q] at e;have a:es.toList.any (·.refKey)=false:=by
   rw[List.any_eq_false];intro y hy;obtain⟨z,t,jt⟩:=hk y (Array.mem_toList_iff.mp hy);simp[DictEntry.refKey,jt]
  have a':¬es.toList.any (·.refKey)=true:=by rw[a];exact dg
  rw[aH a'];exact eZ some e
theorem qf.look{x:Addr}{mA:Str->Option Value}(I:qf h x dx C mA):∃od,PySem.W.InstAt h x (PySem.W.instObj C dx) C (some od)/\∀name,PySem.W.lookIn name od=some (mA name) :=
 let ⟨od,ho,hl⟩:=DG I.ns
 ⟨od,⟨I.obj,rfl,rfl,ho⟩,hl⟩
section
variable{prog:Program}{x:Addr}{mA:Str->Option Value}{name:Str}{v:Value}
theorem get_map{expr:Bool}(X:K.In s.heap)(I:qf s.heap x dx C mA)(hg:PySem.W.plainGet K C name=true)(hh:PySem.W.hasDictIn K C=true)(ha:PySem.W.findIn K (.ref C) name=some none)(hv:mA name=some v)(wy:PySem.W.handedIn v=true)(h:Q v { s with toks:=s.toks+1 }) :
  wpAny (model prog w) A (getAttr (.ref x) name expr) Q E s:=by
 obtain⟨od,J,hl⟩:=I.look;exact PySem.W.get_value X J (PySem.W.plainGet_of hg).1 (PySem.W.findObj_own hh ha rfl (by rw[hl,hv])) wy h
theorem Pc{ns:List Str}{Q:Unit->Shared->Prop}(X:K.In s.heap)(I:qf s.heap x dx C mA)(hs:PySem.W.findIn K (.ref C) "__setattr__"=some (some (.builtin "object.__setattr__")))(hp:PySem.W.plainOver K C=true)(ht:PySem.W.takerIn K C name=some none)(hh:PySem.W.hasDictIn K C=true)(hw:PySem.Within mA ns)(hsz:ns.length<=sizeLine)(h:∀h',qf h' x dx C (λy=>if y=name then some v else mA y)->Heap.SameBut dx s.heap h'->Q () { s with heap:=h',toks:=s.toks+2 }) :
  wpAny (model prog w) A (setAttr (.ref x) name v) Q E s:=by
 obtain⟨od,J,hl⟩:=I.look;refine PySem.W.set_plain X J hs (PySem.W.osa_open (s:={ s with toks:=s.toks+1 }) (r:=none) X J hp ht λb=>?_);obtain⟨cd,hc,wR⟩:=PySem.W.any_some hh;have hx:s.heap.get? x=some ⟨.ref C,some dx,.plain,#[]⟩:=I.obj;refine aa (ag (aa (aa (wpAny_loadPart hx (aa (PySem.W.Looks.here (s:={ s with toks:=s.toks+1 }) (PySem.W.looks_clsIn X hc) ?_))))));rw[wR];refine ag (a:=some dx) (aa (ag (aa ?_)));refine wpAny_nsSet1 (s:={ s with toks:=s.toks+1 }) I.ns λh' nj iw=>?_;obtain⟨oD,VQ,VS,GO,Hf,Hj⟩:=nj.count (PySem.Within.cons name v hw);refine aa (wpAny_lookBehind GO (by rw[Hf];exact pastItsLine_dict (aG Hj (by rw[cY];omega))) ?_);exact ag (h _ ⟨(iw.2 _ (bU I.ne)).trans I.obj,nj,I.ne⟩ iw)
theorem Qb{R:Result->Shared->Prop}{vs:List Value}{kw:List (Str×Value)}(X:K.In s.heap)(hm:PySem.W.makesIn K C=true)(hi:PySem.W.findIn K (.ref C) "__init__"=some (some (.ref f)))(hf:PySem.W.typeIn K (.ref f)=some (.type "function"))(h:codeAny (model prog w) (A.under (.builtin "type.__call__" ⟨.ref C :: vs,kw⟩)) (.call (.ref f) ⟨.ref (s.heap.objs.size + 1) :: vs,kw⟩) (PySem.W.InitBack (s.heap.objs.size + 1) R)
   { s with heap:=(s.heap.push PySem.W.emptyDict).push (PySem.W.instObj C s.heap.objs.size) }) :
  codeAny (model prog w) A (.call (.ref C) ⟨vs,kw⟩) R s:=by
 obtain⟨hh,g,d,t,os⟩:=s;exact PySem.W.make_core (PySem.W.makes_of X hm) (PySem.W.looks_findIn X hi) (λself=>PySem.W.bind_fn X self hf) (.inl rfl) h
end
def u9(f:Str)(v:V):List (Str×V)->List (Str×V)
 |[]=>[(f,v)]
 |(g,x)::r=>if g=f then(g,v)::r else(g,x)::u9 f v r
theorem Ej(f g:Str)(v:V):∀fs:List (Str×V),(u9 f v fs).lookup g=if g=f then some v else fs.lookup g
 |[]=>by
  show List.lookup g [(f,v)]=_;by_cases h:g=f
  ·have hb:(g==f)=true:=ji.mpr h;simp only[List.lookup,hb,if_pos h]
  ·have hb:(g==f)=false:=cW.mpr h;simp only[List.lookup,hb,if_neg h]
 |(k,x)::r=>by
  have ih:=Ej f g v r;rw[show u9 f v ((k,x)::r)=(if k=f then(k,v)::r else(k,x)::u9 f v r) from rfl];by_cases hk:k=f
  ·rw[aN hk];by_cases h:g=k
   ·have hb:(g==k)=true:=ji.mpr h;simp only[List.lookup,hb,if_pos (h.trans hk)]
   ·have hb:(g==k)=false:=cW.mpr h;simp only[List.lookup,hb,if_neg (λe:g=f=>h (e.trans hk.symm))]
  ·rw[aH hk];by_cases h:g=k
   ·have hb:(g==k)=true:=ji.mpr h;simp only[List.lookup,hb,if_neg (λe:g=f=>hk (h.symm.trans e))]
   ·have hb:(g==k)=false:=cW.mpr h;simp only[List.lookup,hb];exact ih
theorem Y3(f:Str)(v:V):∀fs:List (Str×V),f∈(u9 f v fs).map (·.1)/\∀g,g∈fs.map (·.1)->g∈(u9 f v fs).map (·.1)
 |[]=>⟨by simp[u9],λg h=>by simp at h⟩
 |(k,x)::r=>by
  obtain⟨i1,i2⟩:=Y3 f v r;rw[show u9 f v ((k,x)::r)=(if k=f then(k,v)::r else(k,x)::u9 f v r) from rfl];by_cases hk:k=f
  ·rw[aN hk];subst hk;exact⟨by simp,λg h=>by simpa using h⟩
  ·rw[aH hk];refine⟨?_,λg h=>?_⟩
   ·rw[aV];exact bB _ i1
   ·rw[aV] at h ⊢;rcases aD.mp h with e|e
    ·exact aD.mpr (.inl e)
    ·exact bB _ (i2 g e)
theorem Ei(f:Str)(v:V):∀fs:List (Str×V),(u9 f v fs).length<=fs.length+1
 |[]=>by simp[u9]
 |(k,x)::r=>by
  have ih:=Ei f v r;rw[show u9 f v ((k,x)::r)=(if k=f then(k,v)::r else(k,x)::u9 f v r) from rfl];by_cases hk:k=f
  ·rw[aN hk,cY,cY];omega
  ·rw[aH hk,cY,cY];omega
theorem E2.some_of{o:Option Value}(r:E2 (some v) o):∃u,o=some u/\RelV v u:=by
 cases o with
 |none=>exact(show False from r).elim
 |some u=>exact⟨u,rfl,r⟩
theorem Rv(r:RelV v u):PySem.W.handedIn u=true:=by
 cases v with
 |bV=>cases (show u=Value.none from r);rfl
 |bl b=>cases (show u=Value.bool b from r);rfl
 |int i=>obtain⟨t,e⟩:=(show ∃t,u=Value.int i t from r);cases e;rfl
 |str x=>obtain⟨t,e⟩:=(show ∃t,u=Value.str x t from r);cases e;rfl
 |jT b=>obtain⟨t,e⟩:=(show ∃t,u=Value.bytes b t from r);cases e;rfl
 |oT b=>obtain⟨t,e⟩:=(show ∃t,u=Value.float b t from r);cases e;rfl
 |ref a=>cases (show u=Value.ref a from r);rfl
 |ty n=>cases (show u=Value.type n from r);rfl
section
variable{fs:List (Str×V)}
theorem yP(bD:fH P w H h)(e:H a=some (.ins C dx fs)):∃mA,qf h a dx C mA/\(∀f,E2 (fs.lookup f) (mA f))/\PySem.Within mA (fs.map (·.1))/\fs.length<=1000/\H dx=some (.own a):=by
 obtain⟨d,z,ne,ob,mA,n,r,q⟩:=(show k8 P w H h a (.ins C dx fs) from bD a _ e)
 exact⟨mA,⟨ob,n,ne⟩,r,q,z,d⟩
end
structure jg(K:PySem.W.Frag)(C:Addr):Prop where
 pg:PySem.W.plainGet K C Str.empty=true
 hd:PySem.W.hasDictIn K C=true
 po:PySem.W.plainOver K C=true
 sa:PySem.W.findIn K (.ref C) "__setattr__"=some (some (.builtin "object.__setattr__"))
theorem jg.get(c:jg K C)(f:Str):PySem.W.plainGet K C f=true:=c.pg
def A2(K:PySem.W.Frag)(C:Addr)(f:Str):Prop:=PySem.W.findIn K (.ref C) f=some none
theorem A2.LH{f:Str}(n:A2 K C f):PySem.W.takerIn K C f=some none:=by
 unfold PySem.W.takerIn;rw[show PySem.W.findIn K (.ref C) f=some none from n]
 rfl
structure Meth(K:PySem.W.Frag)(C:Addr)(m:Str)(f:Addr):Prop where
 at_:PySem.W.findIn K (.ref C) m=some (some (.ref f))
 fn:PySem.W.isFn K (.ref f)=true
 kp:PySem.W.keepIn K (.ref f)=true
section
variable{fs:List (Str×V)}{f:Str}
theorem Sz{b:Bool}(I:Inv X pins Z H s)(e:H a=some (.ins C dx fs))(c:jg X.K C)(n:A2 X.K C f)(l:fs.lookup f=some v)(h:∀u s',Inv X pins Z H s'->RelV v u->Q u s'):wpAny (model X.prog X.w) A (getAttr (.ref a) f b) Q E s:=by
 obtain⟨mA,O,r,_,_,_⟩:=yP I.bD e;obtain⟨u,hu,ru⟩:=E2.some_of (v:=v) (o:=mA f) (by rw[<- l];exact r f);exact get_map I.gb O (c.get f) c.hd n hu (Rv ru) (h u _ (I.tok _) ru)
theorem Nr{y:V}{Q:Unit->Shared->Prop}(I:Inv X pins Z H s)(e:H a=some (.ins C dx fs))(c:jg X.K C)(n:A2 X.K C f)(hl:fs.length<1000)(ry:RelV y u)(h:∀s',Inv X pins Z (upd H a (.ins C dx (u9 f y fs))) s'->Q () s'):wpAny (model X.prog X.w) A (setAttr (.ref a) f u) Q E s:=by
 obtain⟨mA,O,r,wi,_,ho⟩:=yP I.bD e;have hz:(fs.map (·.1)).length<=sizeLine:=by rw[ak,jE];omega
 refine Pc I.gb O c.sa c.po n.LH c.hd wi hz λh' O' sb=>h _ ?_;have hd:∃o,h'.get? dx=some o:=let ⟨o,_,_,e',_⟩:=O'.ns;⟨o,e'⟩
 refine I.write (x:=a) (e:=dx) (by rw[e];exact True.intro) (.inr ho) (λb q hb z=>(sb.2 b hb).trans z) hd ?_;refine⟨by rw[d8 O.ne];exact ho,?_,O.ne,O'.obj,_,O'.ns,λg=>?_,λg hg=>?_⟩
 ·have:=Ei f y fs;omega
 ·show E2 ((u9 f y fs).lookup g) (if g=f then some u else mA g);rw[Ej];by_cases q:g=f
  ·rw[aN q,aN q];exact ry
  ·rw[aH q,aH q];exact r g
 ·by_cases q:g=f
  ·rw[q];exact(Y3 f y fs).1
  ·refine(Y3 f y fs).2 g (wi g λz=>hg ?_);show(if g=f then some u else mA g)=none;rw[aH q];exact z
theorem Inv.made(I:Inv X pins Z H s):Inv X pins Z (upd (upd H s.heap.objs.size (.own (s.heap.objs.size+1))) (s.heap.objs.size+1) (.ins C s.heap.objs.size []))
  { s with heap:=(s.heap.push PySem.W.emptyDict).push (PySem.W.instObj C s.heap.objs.size) }:=by
 have e1:(s.heap.push PySem.W.emptyDict).get? s.heap.objs.size=some PySem.W.emptyDict:=ay s.heap rfl;have e2:((s.heap.push PySem.W.emptyDict).push (PySem.W.instObj C s.heap.objs.size)).get? (s.heap.objs.size+1)=some (PySem.W.instObj C s.heap.objs.size):=by
  have:=ay (s.heap.push PySem.W.emptyDict) (o:=PySem.W.instObj C s.heap.objs.size) rfl
  rwa [dk] at this
 have e3:(s.heap.push PySem.W.emptyDict).Ns s.heap.objs.size (λ_=>none):=⟨PySem.W.emptyDict,#[],_,e1,rfl,(λe he=>absurd he (by simp)),λ_=>rfl⟩
 have I1:=I.laid (a:=s.heap.objs.size) (o:=.own (s.heap.objs.size+1)) (h':=s.heap.push PySem.W.emptyDict) (t':=s.toks) (λb u q=>af _ q) (aj _) ⟨_,e1⟩;refine I1.laid (a:=s.heap.objs.size+1) (o:=.ins C s.heap.objs.size []) (t':=s.toks) (λb u q=>af _ q) (jF (dk _ _)) ?_;have ne:s.heap.objs.size≠s.heap.objs.size+1:=aF (dE _);refine⟨by rw[d8 ne,n9],bY _,ne,e2,λ_=>none,(Heap.Ns1.of_empty e3).at λo q=>af _ q,λ_=>True.intro,λy hy=>absurd rfl hy⟩
theorem Ui{prog:Program}{env:Env}(hb:attributeBase e f env (eval e env)=eval e env)(h:wpAny (model prog w) A (eval e env) (λo bG=>wpAny (model prog w) A (getAttr o f true) Q E bG) E s):wpAny (model prog w) A (eval (.Attribute e f pos) env) Q E s :=
 Attribute_any_ h (by rw[arm_eval_Attribute,hb])
end
def JJ(K:PySem.W.Frag)(ta:TE)(f:Str):TE:=λZ H Q=>ta Z H λx H1=>∃a C dx fs v,x=.ref a/\H1 a=some (.ins C dx fs)/\jg K C/\A2 K C f/\fs.lookup f=some v/\Q v H1
def JA(K:PySem.W.Frag)(ta tv:TE)(f:Str):TS:=λD Z H=>tv Z H λy H1=>ta Z H1 λx H2=>∃a C dx fs,x=.ref a/\H2 a=some (.ins C dx fs)/\jg K C/\A2 K C f/\fs.length<1000 /\
 D.nx Z (upd H2 a (.ins C dx (u9 f y fs)))
section
variable{o value:Expr}{f:Str}{pos':Pos}{tv:TE}
theorem MY(he:PE X e ta)(hb:attributeBase e f X.env (eval e X.env)=eval e X.env):PE X (.Attribute e f pos) (JJ X.K ta f):=by
 intro pins s Z H Q I h;refine Ui hb (cC (he pins s Z H _ I h) λu s1 bc=>?_);obtain⟨x,H1,I1,rx,a,C,dx,fs,v,ex,ea,c,n,l,q⟩:=bc;subst ex;obtain rfl:u=Value.ref a:=rx;exact Sz I1 ea c n l λu' s2 I2 ru=>⟨v,H1,I2,ru,q⟩
theorem Nk(ha:PE X o ta)(hv:PE X value tv)(hs:swapsWith value (some (.Attribute o f pos')) pos.line X.env=pure false):PS X (.Assign [.Attribute o f pos'] value pos) (JA X.K ta tv f):=by
 intro pins s Z H D I h;refine plainObj_wpAny_Assign_Attribute (cC (hv pins s Z H _ I h) λu s1 ⟨y,H1,I1,ry,q⟩=>cC (ha pins s1 Z H1 _ I1 q) λov s2 bc=>?_) hs;obtain⟨x,H2,I2,rx,a,C,dx,fs,ex,ea,c,n,l,q2⟩:=bc;subst ex;obtain rfl:ov=Value.ref a:=rx;exact Nr I2 ea c n l ry λs3 I3=>⟨Z,_,I3,q2⟩
end
section
variable{c:Value}{b:Bool}
inductive fX(K:PySem.W.Frag)(H:Hp):V->Value->Prop where
 |bV:fX K H .bV (.type "NoneType")
 |bl (x:Bool):fX K H (.bl x) (.type "bool")
 |int (i:Int):fX K H (.int i) (.type "int")
 |str (x:Str):fX K H (.str x) (.type "str")
 |oT (x:UInt64):fX K H (.oT x) (.type "float")
 |lst {a:Addr} {xs:List V} (e:H a=some (.lst xs)):fX K H (.ref a) (.type "list")
 |iZ {a:Addr} {o:Obj} {xs:List V} (e:H a=some (.iZ o (.lst xs))):fX K H (.ref a) (.type "list")
 |tup {a:Addr} {xs:List V} (e:H a=some (.tup xs)):fX K H (.ref a) (.type "tuple")
 |dK {a:Addr} {kvs:List (Key×V)} (e:H a=some (.dK kvs)):fX K H (.ref a) (.type "dict")
 |dT {a:Addr} {kvs:List (List Key×V)} (e:H a=some (.dT kvs)):fX K H (.ref a) (.type "dict")
 |ins {a C dx:Addr} {fs:List (Str×V)} (e:H a=some (.ins C dx fs)) (cl:jg K C) (ha:PySem.W.findIn K (.ref C) "__class__"=some (some (.builtin "object.__class__")))
   (hn:PySem.W.specialIn K (.builtin "object.__class__") "__get__"=some (some (.builtin "getset_descriptor.__get__"))) (pS:PySem.W.takesIn K (.builtin "object.__class__")=some true)
   (hm:PySem.W.mroIn K C (.type "object")=some true):fX K H (.ref a) (.ref C)
theorem Rz{x:V}{t:Value}(I:Inv X pins Z H s)(rx:RelV x u)(ty:fX X.K H x t)(e:PySem.W.kitOne X.K t c=some b)(h:∀tk,Q (.bool b) { s with toks:=tk }) :
  wpAny (model X.prog X.w) A (call (.builtin "isinstance") [u,c]) Q E s:=by
 cases ty with
 |bV=>cases (show u=Value.none from rx);exact bC PySem.W.kitx_none I.gb True.intro e (λz=>nomatch z) h
 |bl y=>cases (show u=Value.bool y from rx);exact bC PySem.W.kitx_bool I.gb True.intro e (λz=>nomatch z) h
 |int i=>obtain⟨t,q⟩:=(show ∃t,u=Value.int i t from rx);cases q;exact bC PySem.W.kitx_int I.gb True.intro e (λz=>nomatch z) h
 |str y=>obtain⟨t,q⟩:=(show ∃t,u=Value.str y t from rx);cases q;exact bC PySem.W.kitx_str I.gb True.intro e (λz=>nomatch z) h
 |oT y=>obtain⟨t,q⟩:=(show ∃t,u=Value.float y t from rx);cases q;exact bC PySem.W.kitx_float I.gb True.intro e (λz=>nomatch z) h
 |@lst a xs ea =>
  cases (show u=Value.ref a from rx);obtain⟨_,_,n,_,h1⟩:=(show k8 X.prog X.w H s.heap a (.lst xs) from I.bD a _ ea)
  exact bC Ve I.gb ⟨_,h1,rfl⟩ e (λz=>nomatch z) h
 |@iZ a ob xs ea =>
  cases (show u=Value.ref a from rx);obtain⟨_,_,_,n,_,h1⟩:=(show k8 X.prog X.w H s.heap a (.iZ ob (.lst xs)) from I.bD a _ ea)
  exact bC Ve I.gb ⟨_,h1,rfl⟩ e (λz=>nomatch z) h
 |@tup a xs ea =>
  cases (show u=Value.ref a from rx);obtain⟨_,_,_,p⟩:=(show k8 X.prog X.w H s.heap a (.tup xs) from I.bD a _ ea)
  obtain⟨o,h1,h2,_⟩:=p;exact bC FK I.gb ⟨o,h1,h2⟩ e (λz=>nomatch z) h
 |@dK a kvs ea =>
  cases (show u=Value.ref a from rx);obtain⟨_,_,vs,_,p⟩:=(show k8 X.prog X.w H s.heap a (.dK kvs) from I.bD a _ ea)
  obtain⟨o,es,ep,h1,h2,_⟩:=p;exact bC Vf I.gb ⟨o,h1,h2.1⟩ e (λz=>nomatch z) h
 |@dT a kvs ea =>
  cases (show u=Value.ref a from rx);obtain⟨_,_,xs,_,o,es,ep,h1,h2,_⟩:=(show k8 X.prog X.w H s.heap a (.dT kvs) from I.bD a _ ea)
  exact bC Vf I.gb ⟨o,h1,h2.1⟩ e (λz=>nomatch z) h
 |@ins a C dx fs ea cl ha hn pS hm =>
  cases (show u=Value.ref a from rx);obtain⟨mA,O,_⟩:=yP I.bD ea;obtain⟨od,J,_⟩:=O.look;exact bC (PySem.W.kitx_own (cl.get _) cl.hd ha hn pS hm) I.gb J e (λz=>nomatch z) h
end
structure q8(k:Nat)(A:Around):Prop where
 hd:A.handled=none
 dp:A.depth+3*k+5<recursionLimit
 un:A.units+16*k+200<cLine
theorem q8.mono(r:q8 k A)(h:j<=k):q8 j A:=⟨r.hd,by have:=r.dp;omega,by have:=r.un;omega⟩
theorem q8.deeper{k:Nat}{A:Around}(r:q8 (k+1) A)(env:Env):q8 k (A.deeper env) :=
 ⟨r.hd,by have:=r.dp;show A.depth+1+3*k+5<_;omega,by have:=r.un;show A.units+3+16*k+200<_;omega⟩
theorem SG{kw:List (Str×Value)}:(A.under (.builtin "type.__call__" ⟨.ref C::us,kw⟩)).depth=A.depth+1:=by
 first|rfl|simp[Around.under,Code.weight,Code.isCreation,Code.isGuard,Code.isCaller,Code.frames,Code.isFrame,guardIds]
theorem SH{kw:List (Str×Value)}:(A.under (.builtin "type.__call__" ⟨.ref C::us,kw⟩)).units=A.units+1:=by
 first|rfl|simp[Around.under,Code.cUnits,Code.frames,Code.isFrame]
theorem q8.make(r:q8 (k+1) A)(C:Addr)(us:List Value)(kw:List (Str×Value)):q8 k (A.under (.builtin "type.__call__" ⟨.ref C::us,kw⟩)) :=
 ⟨r.hd,by have:=r.dp;rw[SG];omega,by have:=r.un;rw[SH];omega⟩
theorem q8.depth{k:Nat}{A:Around}(r:q8 k A):A.depth<recursionLimit:=by have:=r.dp;omega
def zz:TA:=λ_ H Q=>Q [] H
def Lw(ta:TE)(tr:TA):TA:=λZ H Q=>ta Z H λx H1=>tr Z H1 λxs H2=>Q (x::xs) H2
theorem R6:PA X [] zz:=λ_ _ _ _ H Q I h=>Calls.spliced_nil ⟨[],H,I,.nil,h⟩
theorem N5(ha:PE X e te)(hr:PA X es t)(hs:starEach (e::es) X.env=(false,eval e X.env)::starEach es X.env:=by rfl):PA X (e::es) (Lw te t):=by
 intro pos pins s Z H Q I h;rw[hs];show wpAny _ _ (spliced ((false,eval e X.env)::backTo pos (starEach es X.env))) _ _ s;refine Calls.spliced_cons (cC (ha pins s Z H _ I h) λu s1 bc=>?_);obtain⟨x,H1,I1,r1,q1⟩:=bc;exact cC (hr pos pins s1 Z H1 _ I1 q1) λus s2 ⟨xs,H2,I2,r2,q2⟩=>⟨x::xs,H2,I2,.cons r1 r2,q2⟩
def JS(t:TA):TE:=λZ H Q=>t Z H λxs H1=>xs.length<=sizeLine/\∀p,H1 p=none->Q (.ref p) (upd H1 p (.tup xs))
def JM(t:TA):TE:=λZ H Q=>t Z H λxs H1=>xs.length<=sizeLine/\∀p,H1 p=none->Q (.ref p) (upd H1 p (.lst xs))
theorem Nf{x1}(h:PA X es t):PE X (.Tuple es x1 pos) (JS t):=by
 intro pins s Z H Q I hq;refine wpAny_Tuple_spliced (cC (h pos pins s Z H _ I hq) λus s1 ⟨xs,H1,I1,r,z,q⟩=>⟨by rw[<- r.length];exact z,?_⟩);have hf:H1 s1.heap.objs.size=none:=I1.bD.fresh (aj _);refine⟨.ref s1.heap.objs.size,upd H1 s1.heap.objs.size (.tup xs),I1.laid (t':=s1.toks) (λb u e=>af _ e) (aj _) ?_,rfl,q _ hf⟩;exact⟨z,us,r,⟨_,ay _ rfl,rfl,⟨_,rfl⟩,rfl⟩⟩
theorem M'(h:PA X es t):PE X (.List es pos) (JM t):=by
 intro pins s Z H Q I hq;refine wpAny_List_spliced (cC (h pos pins s Z H _ I hq) λus s1 ⟨xs,H1,I1,r,z,q⟩=>⟨by rw[<- r.length];exact z,?_⟩);have hf:H1 s1.heap.objs.size=none:=I1.bD.fresh (aj _);refine⟨.ref s1.heap.objs.size,upd H1 s1.heap.objs.size (.lst xs),I1.laid (t':=s1.toks) (λb u e=>af _ e) (aj _) ?_,rfl,q _ hf⟩;exact⟨z,us,0,r,ay _ rfl⟩
noncomputable abbrev Sp:=List V->Hp->VK->XK->Prop
noncomputable abbrev lE:=List Env->Hp->Shared->XK->Value->Shared->Prop
structure ph(P:Program)(w:World)(K:PySem.W.Frag)(mg:Str->Option Value)(base:Heap)(A:Around)(outer:List Env)(s:Shared)(H:Hp):Prop where
 frames:A.frames=some outer
 mod:Mod K mg base
 bs:∀b o,base.get? b=some o->s.heap.get? b=some o/\H b=none
 nJ:base.objs.size<=s.heap.objs.size
 M4:s.heap.FunFrames base outer
 oS:∀b∈gg outer,H b=none
 bD:fH P w H s.heap
 bare:AllBare s.gens
def CE(outer:List Env)(P:Program)(w:World)(H:Hp)(s:Shared)(Q:VK)(u:Value)(s':Shared):Prop :=
 ∃v H',s'.os=s.os/\AllBare s'.gens/\Un (gg outer) [] H H' s.heap s'.heap/\fH P w H' s'.heap/\RelV v u/\Q v H'
def CR(CX:lE)(outer:List Env)(P:Program)(w:World)(H:Hp)(s:Shared)(Q:VK)(E:XK)(r:Result)(s':Shared):Prop :=
 match r with
 |.ok (.ret u)=>CE outer P w H s Q u s'
 |.ok _=>False
 |.error e=>CX outer H s E e s'
structure gy(P:Program)(w:World)(K:PySem.W.Frag)(mg:Str->Option Value)(base:Heap)(CX:lE)(k:Nat)(f:Addr)(fd:FuncData)(ps:List Str)(sp:Sp):Prop where
 len:∀vs H Q E,sp vs H Q E->vs.length=ps.length
 run:∀(A:Around) (outer:List Env) (s:Shared) (H:Hp) (args:Args) (us:List Value) (vs:List V) (Q:VK) (E:XK),q8 k A->ph P w K mg base A outer s H->BindsTo s fd args (ps.zip us)->Vals vs us->sp vs H Q E ->
  codeAny (model P w) A (.call (.ref f) args) (CR CX outer P w H s Q E) s
theorem ph.make{mg:Str->Option Value}{outer:List Env}(e:ph P w K mg base A outer s H)(C:Addr)(us:List Value)(kw:List (Str×Value)) :
  ph P w K mg base (A.under (.builtin "type.__call__" ⟨.ref C::us,kw⟩)) outer s H:=⟨by first|exact e.frames|(simpa[Around.under,Code.envs,Code.isFrame,pushEnvs] using e.frames),e.mod,e.bs,e.nJ,e.M4,e.oS,e.bD,e.bare⟩
section
variable{s':Shared}
theorem Inv.Co(I:Inv X pins Z H s):ph X.prog X.w X.K X.mg X.base X.A X.stack s H :=
 ⟨I.ok.frames,I.ok.mod,I.bs,aG I.ok.nJ I.sz,I.stack,I.yU,I.bD,I.bare⟩
theorem Inv.after{Q:VK}(I:Inv X pins Z H s)(h:CE X.stack X.prog X.w H s Q u s'):EP X pins Z Q u s':=by
 obtain⟨v,H',os,bare,un,bD,r,q⟩:=h;obtain⟨hh,g,d,t,ot⟩:=s';obtain rfl:ot=s.os:=os;exact⟨v,H',I.call (h':=hh) (g':=g) (d':=d) (t':=t) (ch:=[]) un bD bare (λb z=>absurd z (by simp)),r,q⟩
end
def EN(sp:Sp)(jb:List V)(E:XK)(t:TA):TE:=λZ H Q=>t Z H λvs H1=>sp (vs++jb) H1 Q E
def ER(C:Addr)(sp:Sp)(jb:List V)(E:XK)(t:TA):TE:=λZ H Q=>t Z H λvs H1=>∀x dx,H1 x=none->H1 dx=none->dx≠x ->
 sp (.ref x::(vs++jb)) (upd (upd H1 dx (.own x)) x (.ins C dx [])) (λv H2=>v=.bV/\Q (.ref x) H2) E
def Binds(K:PySem.W.Frag)(fd:FuncData)(ps:List Str)(ds:List Value):Prop :=
 ∀(s:Shared) (us:List Value),K.In s.heap->(us++ds).length=ps.length->BindsTo s fd ⟨us,[]⟩ (ps.zip (us++ds))
theorem Binds.all(h:∀us:List Value,us.length=ps.length->bindArgs fd ⟨us,[]⟩=pure (ps.zip us)):Binds K fd ps []:=λs us _ hl=>by
 rw[cO] at hl ⊢;exact .of_eq (h us hl)
def Passes(CX:lE)(X:Cx)(E:XK):Prop:=∀(pins:List (Addr×Obj)) (Z:St) (H:Hp) (s:Shared) (e:Value) (s':Shared),Inv X pins Z H s->CX X.stack H s E e s'->X.xe e s'
section
variable{jb:List V}{ds:List Value}{E:XK}
theorem Fg{Q:VK}(F:gy X.prog X.w X.K X.mg X.base CX k f fd ps sp)(hr:q8 k X.A)(hb:Binds X.K fd ps ds)(hd:Vals jb ds)(hx:Passes CX X E)(I:Inv X pins Z H s)(r:Vals vs us)(h:sp (vs++jb) H Q E):wpAny (model X.prog X.w) X.A (call (.ref f) us) (EP X pins Z Q) X.xe s:=by
 have r2:Vals (vs++jb) (us++ds):=r.append hd;have hl:(us++ds).length=ps.length:=by rw[<- r2.length];exact F.len _ _ _ _ h
 refine wpAny_call (fS (F.run X.A X.stack s H ⟨us,[]⟩ (us++ds) (vs++jb) Q E hr I.Co (hb s us I.gb hl) r2 h) λr s' hq=>?_);cases r with
 |error e=>exact hx pins Z H s e s' I hq
 |ok fl =>
  cases fl with
  |ret u=>exact I.after hq
  |next=>exact False.elim hq
  |brk=>exact False.elim hq
  |cont=>exact False.elim hq
theorem UU(F:gy X.prog X.w X.K X.mg X.base CX k f fd ps sp)(hr:q8 k X.A)(hg:Gl X x)(hm:X.mg x=some (.ref f))(hk:PySem.W.keepIn X.K (.ref f)=true)(hb:Binds X.K fd ps ds)(hd:Vals jb ds)(hx:Passes CX X E)(ha:PA X (e::es) t)(gD:(x==("__debug__":Str))=false:=by decide)(he:starEach (e::es) X.env=(false,eval e X.env)::starEach es X.env:=by rfl)(gx:(backTo pos (starEach es X.env)).any (·.1)=false:=by rfl) :
  PE X (.Call (.Name x p) (e::es) [] pos) (EN sp jb E t):=by
 intro pins s Z H Q I h;refine cD (N7 I hg hm ?_ gD);refine FL (h₀:=X.base) I.ok.mod.lK hk (cC (ha pos pins s Z H _ I h) λus s1 ⟨vs,H1,I1,r,q⟩=>⟨I1.gb,?_⟩) he gx;exact Fg F hr hb hd hx I1 r q
theorem Qj(F:gy X.prog X.w X.K X.mg X.base CX k f fd ps sp)(hr:q8 k X.A)(hg:Gl X x)(hm:X.mg x=some (.ref f))(hk:PySem.W.keepIn X.K (.ref f)=true)(hb:Binds X.K fd ps ds)(hd:Vals jb ds)(hx:Passes CX X E)(gD:(x==("__debug__":Str))=false:=by decide):PE X (.Call (.Name x p) [] [] pos) (EN sp jb E zz):=by
 intro pins s Z H Q I h;refine cD (N7 I hg hm ?_ gD);exact Aa I.gb hk (Fg (us:=[]) F hr hb hd hx I .nil h)
structure Mk(K:PySem.W.Frag)(C f:Addr):Prop where
 makes:PySem.W.makesIn K C=true
 init:PySem.W.findIn K (.ref C) "__init__"=some (some (.ref f))
 fn:PySem.W.isFn K (.ref f)=true
 kp:PySem.W.keepIn K (.ref C)=true
theorem Dn{Q:VK}(M:Mk X.K C f)(F:gy X.prog X.w X.K X.mg X.base CX k f fd ps sp)(hr:q8 (k+1) X.A)(hb:Binds X.K fd ps ds)(hd:Vals jb ds)(hx:Passes CX X E)(I:Inv X pins Z H s)(r:Vals vs us)(h:∀x dx,H x=none->H dx=none->dx≠x->sp (.ref x::(vs++jb)) (upd (upd H dx (.own x)) x (.ins C dx [])) (λv H2=>v=.bV/\Q (.ref x) H2) E) :
  wpAny (model X.prog X.w) X.A (call (.ref C) us) (EP X pins Z Q) X.xe s:=by
 have hq:=h (s.heap.objs.size+1) s.heap.objs.size (I.bD.fresh (fQ _)) (I.bD.fresh (aj _)) (aF (dE _));have I2:=Inv.made (C:=C) I;have r2:Vals (V.ref (s.heap.objs.size+1)::(vs++jb)) (Value.ref (s.heap.objs.size+1)::(us++ds)):=.cons rfl (r.append hd);have hl:(Value.ref (s.heap.objs.size+1)::us++ds).length=ps.length:=by
  have e:=r2.length;rw[F.len _ _ _ _ hq] at e;exact e.symm
 refine wpAny_call (Qb (f:=f) I.gb M.makes M.init (ji.mp M.fn) (fS (F.run _ X.stack _ _ ⟨Value.ref (s.heap.objs.size + 1) :: us,[]⟩ (Value.ref (s.heap.objs.size + 1) :: (us ++ ds)) _ _ E (hr.make C us [])
  (I2.Co.make C us []) (hb _ (Value.ref (s.heap.objs.size + 1) :: us) I2.gb hl) r2 hq) λr s' kW=>?_))
 cases r with
 |error e=>exact hx pins Z _ _ e s' I2 kW
 |ok fl =>
  cases fl with
  |ret u =>
   obtain⟨v,H',I3,rv,ev,q3⟩:=I2.after kW;subst ev;exact⟨rv,⟨V.ref (s.heap.objs.size+1),H',I3,rfl,q3⟩⟩
  |next=>exact False.elim kW
  |brk=>exact False.elim kW
  |cont=>exact False.elim kW
theorem UX(M:Mk X.K C f)(F:gy X.prog X.w X.K X.mg X.base CX k f fd ps sp)(hr:q8 (k+1) X.A)(hg:Gl X x)(hm:X.mg x=some (.ref C))(hb:Binds X.K fd ps ds)(hd:Vals jb ds)(hx:Passes CX X E)(ha:PA X (e::es) t)(gD:(x==("__debug__":Str))=false:=by decide)(he:starEach (e::es) X.env=(false,eval e X.env)::starEach es X.env:=by rfl)(gx:(backTo pos (starEach es X.env)).any (·.1)=false:=by rfl) :
  PE X (.Call (.Name x p) (e::es) [] pos) (ER C sp jb E t):=by
 intro pins s Z H Q I h;refine cD (N7 I hg hm ?_ gD);refine FL (h₀:=X.base) I.ok.mod.lK M.kp (cC (ha pos pins s Z H _ I h) λus s1 ⟨vs,H1,I1,r,q⟩=>⟨I1.gb,?_⟩) he gx;exact Dn M F hr hb hd hx I1 r q
theorem Qn(M:Mk X.K C f)(F:gy X.prog X.w X.K X.mg X.base CX k f fd ps sp)(hr:q8 (k+1) X.A)(hg:Gl X x)(hm:X.mg x=some (.ref C))(hb:Binds X.K fd ps ds)(hd:Vals jb ds)(hx:Passes CX X E)(gD:(x==("__debug__":Str))=false:=by decide):PE X (.Call (.Name x p) [] [] pos) (ER C sp jb E zz):=by
 intro pins s Z H Q I h;refine cD (N7 I hg hm ?_ gD);exact Aa I.gb M.kp (Dn (us:=[]) M F hr hb hd hx I .nil h)
end
structure gT(N P:List Str)(sc:Scope):Prop where
 kind:sc.kind=.function
 co:sc.isCoroutine=false
 gen:sc.isGenerator=false
 nd:N.Nodup
 pre:N.take P.length=P
 par:∀x∈P,sc.names.lookup x=some .local\/sc.names.lookup x=some .cell
 kP:∀y∈sc.names,y.2≠.free
theorem Dz{kindOf:Str->Option NameKind}{x:Str}:∀{binds:List (Str×Value)} {m:Str->Option Value},(∀v,(x,v)∉binds)->bindL kindOf binds m x=m x
 |[],_,_=>rfl
 |(n,v)::r,m,h=>by
  unfold bindL;rw[Dz λw hw=>h w (bB _ hw)];split
  ·have:x≠n:=by rintro rfl;exact h v fB
   simp[this]
  ·rfl
theorem Dx{kindOf:Str->Option NameKind}{x:Str}:∀{binds:List (Str×Value)} {m:Str->Option Value},(∀v,(x,v)∉binds)->bindC kindOf binds m x=m x
 |[],_,_=>rfl
 |(n,v)::r,m,h=>by
  unfold bindC;rw[Dx λw hw=>h w (bB _ hw)];split
  ·rfl
  ·have:x≠n:=by rintro rfl;exact h v fB
   simp[this]
theorem Dy{kindOf:Str->Option NameKind}{x:Str}{v:Value}:∀{P:List Str} {vs:List Value} {i:Nat} {m:Str->Option Value},P.Nodup->P[i]?=some x->vs[i]?=some v->kindOf x=some .local ->
  bindL kindOf (P.zip vs) m x=some v
 |[],_,_,_,_,h,_,_=>by simp at h
 |_::_,[],_,_,_,_,h,_=>by simp at h
 |p::P,w::vs,0,m,nd,h1,h2,hk=>by
  simp at h1 h2;subst h1;subst h2;show bindL kindOf ((p,w)::P.zip vs) m p=_;unfold bindL;rw[Dz λv hv=>(fk.mp nd).1 (kE hv).1,aN hk];simp
 |p::P,w::vs,i+1,m,nd,h1,h2,hk=>by
  show bindL kindOf ((p,w)::P.zip vs) m x=_;unfold bindL;exact Dy (i:=i) (fk.mp nd).2 (by simpa using h1) (by simpa using h2) hk
theorem Dw{kindOf:Str->Option NameKind}{x:Str}{v:Value}:∀{P:List Str} {vs:List Value} {i:Nat} {m:Str->Option Value},P.Nodup->P[i]?=some x->vs[i]?=some v->kindOf x≠some .local ->
  bindC kindOf (P.zip vs) m x=some v
 |[],_,_,_,_,h,_,_=>by simp at h
 |_::_,[],_,_,_,_,h,_=>by simp at h
 |p::P,w::vs,0,m,nd,h1,h2,hk=>by
  simp at h1 h2;subst h1;subst h2;show bindC kindOf ((p,w)::P.zip vs) m p=_;unfold bindC;rw[Dx λv hv=>(fk.mp nd).1 (kE hv).1,aH hk];simp
 |p::P,w::vs,i+1,m,nd,h1,h2,hk=>by
  show bindC kindOf ((p,w)::P.zip vs) m x=_;unfold bindC;exact Dw (i:=i) (fk.mp nd).2 (by simpa using h1) (by simpa using h2) hk
def start(N:List Str)(vs:List V):St:=vs.map some++List.replicate (N.length-vs.length) none
def V5(CX:lE)(P:Program)(w:World)(K:PySem.W.Frag)(mg:Str->Option Value)(base:Heap)(N:List Str)(qual:Str)(scope:Scope)(f:Addr)(cd:Value)(A:Around)(outer:List Env)(s:Shared)(H:Hp)(E:XK):Cx where
 prog:=P
 w:=w
 K:=K
 mg:=mg
 base:=base
 A:=A.deeper (envOfC qual scope s.heap.objs.size f cd)
 N:=N
 cV:=s
 iF:=H
 env:=envOfC qual scope s.heap.objs.size f cd
 outer:=outer
 stack:=envOfC qual scope s.heap.objs.size f cd::outer
 ex:=[]
 calm:=true
 fn:=λ_=>true
 pn:=[]
 xe:=λe s'=>wpAny (model P w) (A.deeper (envOfC qual scope s.heap.objs.size f cd)) (leaving (envOfC qual scope s.heap.objs.size f cd) e) (λ_ mq=>CX outer H s E e mq) (λe' mq=>CX outer H s E e' mq) s'
theorem yX{sc:Scope}{n:Nat}(h:sc.names.lookup x=some .cell):∃c,(cellsFrom n sc.names []).lookup x=some c:=by
 have q:=dc sc.names n [] (.inl h);exact dU.mp q
theorem Ry{mg:Str->Option Value}{qual:Str}{scope:Scope}{cd:Value}{outer:List Env}{s1:Shared}{E:XK}(S:gT N ps scope)(hd:A.handled=none)(e0:ph P w K mg base A outer s H)(hl:vs.length=ps.length)(r:Vals vs us)(x:InCallC s s.heap.objs.size (bindL (envOfC qual scope s.heap.objs.size f cd).kindOf (ps.zip us) λ_=>none) (cellsFrom (s.heap.objs.size+1) scope.names []) (bindC (envOfC qual scope s.heap.objs.size f cd).kindOf (ps.zip us) λ_=>none) s1) :
  Inv (V5 CX P w K mg base N qual scope f cd A outer s H E) [] (start N vs) H s1:=by
 have gx:ps.length<=N.length:=by have:=eZ List.length S.pre;rw[cw] at this;omega
 obtain⟨h1,tk,rfl,hk⟩:=x.done;have rg:∀b:Addr,b∉(V5 CX P w K mg base N qual scope f cd A outer s H E).ex:=λb z=>absurd (show b∈([]:List Addr) from z) (by simp);refine ⟨⟨e0.mod,S.kind,rfl,rfl,aj _,λy z c h1 h2=>?_,λy hy=>?_,λy c _ h=>?_,λ_=>hd,Around.frames_deeper e0.frames,.inr ⟨rfl,rfl⟩,λb z=>absurd z (rg b),e0.bs,e0.nJ,λb _ _=>rg b,λb z=>absurd z (rg b),e0.M4,e0.oS⟩,
  rfl,e0.bare,Un.kept hk,⟨_,x.toInCall.ns,λi y v h1 h2 h3=>?_⟩,λy c h=>⟨_,x.cell y c h⟩,e0.bD.fresh (aj _),λy c h=>?_,λp hp=>absurd (show p ∈ ([]:List (Addr × Obj)) from hp) (by simp),e0.bD.kept hk,?_⟩
 ·exact name_of_addr x.apart (aI h1) (aI h2)
 ·have hy:scope.names.lookup y=some .cell\/scope.names.lookup y=some .free:=hy;rcases hy with hy|hy
  ·exact yX hy
  ·exact absurd rfl (S.kP _ (aI hy))
 ·exact cG (x.above y c (aI h))
 ·have hi:i<vs.length:=by
   unfold start at h2;by_cases hi:i<vs.length
   ·exact hi
   ·rw[aY (by simpa using hi)] at h2;rw[eB] at h2;split at h2<;>cases h2
  have ha:vs[i]?=some v:=by
   unfold start at h2;rw[aw (by simpa using hi),aC] at h2;cases e:vs[i]? with
   |none=>rw[e] at h2;cases h2
   |some a=>rw[e] at h2;cases h2;rfl
  obtain⟨u,hu,rv⟩:=r.get ha;have hp:ps[i]?=some y:=by
   rw[<- S.pre,List.getElem?_take_of_lt (by omega)];exact h1
  have AM:ps.Nodup:=by rw[<- S.pre];exact S.nd.sublist (List.take_sublist _ _)
  refine⟨u,rv,?_⟩;rcases S.par y (aL hp) with k|k
  ·exact .inl ⟨k,Dy AM hp hu k⟩
  ·obtain⟨c,e⟩:=yX (n:=s.heap.objs.size+1) k;refine .inr ⟨.inl k,c,e,?_⟩;have q:=x.cell y c e;rw[Dw AM hp hu (by show scope.names.lookup y≠_;rw[k];decide)] at q;exact q
 ·exact e0.bD.fresh (cG (x.above y c (aI h)))
 ·unfold start;show _=N.length;rw[aK,ak,tP];omega
theorem Kp{mg:Str->Option Value}{name qual:Str}{params:Arguments}{scope:Scope}{dV kV doc pm fx ct oc:Value}{an od:Option Addr}{kO:Array (Option Value)}(lk:K.lookup f=some ⟨oc,od,.func (PySem.W.fnOf name qual params body scope dV kV doc pm an fx ct),kO⟩)(ke:PySem.W.codeIn K fx qual=true)(S:gT N ps scope)(len:∀vs H Q E,sp vs H Q E->vs.length=ps.length)(sk:∀ (A:Around) (outer:List Env) (s:Shared) (H:Hp) (vs:List V) (Q:VK) (E:XK),q8 k (A.deeper (envOfC qual scope s.heap.objs.size f fx))->sp vs H Q E ->
   ∃ t,jc (V5 CX P w K mg base N qual scope f fx A outer s H E) body t/\t { nx:=λ_ H'=>Q .bV H',rt:=Q } (start N vs) H) :
  gy P w K mg base CX (k+1) f (PySem.W.fnOf name qual params body scope dV kV doc pm an fx ct) ps sp:=by
 refine⟨len,λA outer s H args us vs Q E hr e0 hb r pT=>?_⟩;have hl:=len _ _ _ _ pT;have KX:K.In s.heap:=e0.mod.lK.keeps λb o e=>(e0.bs b o e).1;have lim:s.heap.NoLimit:=e0.mod.nolimit.keeps λb o e=>(e0.bs b o e).1;have rV:∀y∈ps.zip us,scope.names.lookup y.1=some .local\/(scope.names.lookup y.1=some .cell/\((cellsFrom (s.heap.objs.size+1) scope.names []).lookup y.1).isSome=true):=λ⟨n,v⟩ hy=>by
  rcases S.par n (kE hy).1 with q|q
  ·exact .inl q
  ·exact .inr ⟨q,dc _ _ _ (.inl q)⟩
 refine codeAny_call_function hr.depth (KX _ _ lk) rfl S.co S.gen rfl (PySem.W.codeRec_of KX ke) (hb _ _ _ _ ?_);refine wpAny_newFunctionEnv_cells S.kind rV λenv he s1 x=>?_;subst he;refine⟨lim.keeps x.toInCall.keep,codeAny_func ?_⟩;obtain⟨t,ht,hq⟩:=sk A outer s H vs Q E (hr.deeper _) pT;have I:Inv (V5 CX P w K mg base N qual scope f fx A outer s H E) [] (start N vs) H s1:=Ry S hr.hd e0 hl r x;refine br (ht [] s1 (start N vs) H _ I hq) (λfl s' hs=>?_) λe s' hs=>hs;have fin:∀{bJ:St} {H':Hp} {v:V} {u:Value},Inv (V5 CX P w K mg base N qual scope f fx A outer s H E) [] bJ H' s'->RelV v u->Q v H'->CE outer P w H s Q u s' :=
  λ{bJ H' v u} J rv q=>⟨v,H',J.os,J.bare,J.base,J.bD,rv,q⟩
 cases fl with
 |ret u =>
  obtain⟨v,bJ,H',J,rv,q⟩:=hs;exact fin J rv q
 |next =>
  obtain⟨bJ,H',J,q⟩:=hs;exact fin (v:=V.bV) (u:=Value.none) J rfl q
 |brk =>
  obtain⟨_,_,_,q⟩:=hs;exact False.elim q
 |cont =>
  obtain⟨_,_,_,q⟩:=hs;exact False.elim q
section
variable{id T:String}{r:List V->Hp->VK->Prop}
def vQ(r:List V->Hp->VK->Prop)(t:TA):TE:=λZ H Q=>t Z H λvs H1=>r vs H1 Q
theorem U4(hc:i8 X (.builtin id) r)(hg:Gl X x)(hm:X.mg x=none)(hv:bootBuiltins x=some (.builtin id))(ha:PA X (e::es) t)(hn:x≠"__name__":=by decide)(gD:(x==("__debug__":Str))=false:=by decide)(he:starEach (e::es) X.env=(false,eval e X.env)::starEach es X.env:=by rfl)(gx:(backTo pos (starEach es X.env)).any (·.1)=false:=by rfl):PE X (.Call (.Name x p) (e::es) [] pos) (vQ r t):=by
 intro pins s Z H Q I h;refine cD (M0 I hg hm hv ?_ hn gD);exact PyProof.Rows.callWith_builtin1 (cC (ha pos pins s Z H _ I h) λus s1 ⟨vs,H1,I1,r1,q1⟩=>hc pins s1 Z H1 vs us Q I1 r1 q1) he gx
theorem L9(hc:i8 X (.type T) r)(hg:Gl X x)(hm:X.mg x=none)(hv:bootBuiltins x=some (.type T))(ha:PA X (e::es) t)(hn:x≠"__name__":=by decide)(gD:(x==("__debug__":Str))=false:=by decide)(he:starEach (e::es) X.env=(false,eval e X.env)::starEach es X.env:=by rfl)(gx:(backTo pos (starEach es X.env)).any (·.1)=false:=by rfl):PE X (.Call (.Name x p) (e::es) [] pos) (vQ r t):=by
 intro pins s Z H Q I h;refine cD (M0 I hg hm hv ?_ hn gD);exact bT (cC (ha pos pins s Z H _ I h) λus s1 ⟨vs,H1,I1,r1,q1⟩=>hc pins s1 Z H1 vs us Q I1 r1 q1) he gx
end
end L2
namespace HT
open PySem PyProof.Rows
section
variable{prog:Program}{w:World}{A:Around}{E:Value->Shared->Prop}{s:Shared}
theorem Uj{t b:Addr}{vs ws:List Value}{Q:Value->Shared->Prop}(ht:IsTup s.heap t vs.toArray)(hb:IsTup s.heap b ws.toArray)(hv:vs≠[])(h1:ws=[]->Q (.ref t) s)(h2:ws≠[]->Q (.ref s.heap.objs.size) { s with heap:=s.heap.push { cls:=.type "tuple",data:=.seq (vs++ws).toArray } })(hsz:vs.length+ws.length<=sizeLine):wpAny (model prog w) A (binaryOp .Add (.ref t) (.ref b)) Q E s:=by
 obtain⟨⟨cls,dd,data,sl⟩,ho,hc,n,hd⟩:=id ht;obtain⟨⟨xQ,uF,data2,nZ⟩,lN,jL,n2,hd2⟩:=id hb;simp only at hc hd jL hd2;subst hc hd jL hd2;have e:vs.toArray++ws.toArray=(vs++ws).toArray:=by simp
 by_cases hw:ws=[]
 ·exact Wb ⟨_,ho,rfl⟩ ⟨_,lN,rfl⟩ nO FI gF gi (fT _ _)
   (tuple_addW1 t b vs.toArray ws.toArray n n2 dd uF sl nZ (by simpa using hv) (by simp[hw])) ⟨ho,lN,h1 hw⟩
 ·refine Wb ⟨_,ho,rfl⟩ ⟨_,lN,rfl⟩ nO FI gF gi (fT _ _)
   (tuple_addW2 t b vs.toArray ws.toArray n n2 dd uF sl nZ (by simpa using hv) (by simpa using hw) (by rw[aB,aB];exact hsz)) ⟨ho,lN,?_⟩
  rw[e];exact h2 hw
def dh(n d:Nat):Option Int->Nat
 |none=>d
 |some v=>if v<0 then(v+(n:Int)).toNat else min v.toNat n
theorem SX(n d:Nat)(hd:d<=n)(o:Option Int):dh n d o<=n:=by
 cases o with
 |none=>exact hd
 |some v =>
  show(if v<0 then(v+(n:Int)).toNat else min v.toNat n)<=n;by_cases hv:v<0
  ·rw[aN hv];omega
  ·rw[aH hv];exact Nat.min_le_right _ _
theorem Cu(v:Int)(n d:Nat):(if v<0 then max (v+(n:Int)) 0 else min v (n:Int))=((dh n d (some v):Nat):Int):=by
 show(if v<0 then max (v+(n:Int)) 0 else min v (n:Int))=(((if v<0 then(v+(n:Int)).toNat else min v.toNat n):Nat):Int);by_cases hv:v<0
 ·simp only[if_pos hv];omega
 ·simp only[if_neg hv];omega
theorem Sr(lo hi:Option Int)(n:Nat):Builtin.Slice.sliceAdjust lo hi 1 (n:Int)=(((dh n 0 lo:Nat):Int),((dh n n hi:Nat):Int)):=by
 have h1:¬((1:Int)<0):=by omega
 unfold Builtin.Slice.sliceAdjust;simp only[h1,if_false];refine Prod.ext ?_ ?_
 ·cases lo with
  |none=>rfl
  |some v=>exact Cu v n 0
 ·cases hi with
  |none=>rfl
  |some v=>exact Cu v n n
theorem SO(i j:Nat):Builtin.Slice.slicePlaces (i:Int) (j:Int) 1=j-i:=by
 unfold Builtin.Slice.slicePlaces;have h1:(1:Int)>0:=by omega
 simp only[h1,if_true,Int.ediv_one];split<;>omega
theorem Eb{v:Value}{o:Option Int}{Q:Option Int->Shared->Prop}(p:IsPart v o)(h:Q o s):wpAny (model prog w) A (Builtin.Slice.slicePartIndex v) Q E s:=by
 cases p with
 |none=>exact slicePart_none h
 |int i t=>exact slicePart_int h
theorem O3{sl:Addr}{vl vu:Value}{lo hi:Option Int}{n:Nat}{Q:Int×Int×Nat->Shared->Prop}(hs:s.heap.IsSliceOf sl vl vu .none)(pl:IsPart vl lo)(pu:IsPart vu hi)(h:Q (((dh n 0 lo:Nat):Int),1,dh n n hi-dh n 0 lo) s):wpAny (model prog w) A (Builtin.Slice.sliceApplied (.ref sl) (pure (n:Int))) Q E s:=by
 obtain⟨os,oC,uu,se⟩:=id hs;unfold Builtin.Slice.sliceApplied Builtin.Slice.sliceFields;refine aa (aa (wpAny_field oC se (x:=vl) rfl (aa (wpAny_field oC se (x:=vu) rfl (aa (wpAny_field oC se (x:=.none) rfl (ag ?_)))))));refine aa (slicePart_none ?_);show wpAny _ _ (if((1:Int)==0)=true then _ else _) _ _ s;rw[aH (by decide)];refine aa (Eb pl (aa (Eb pu (aa (ag ?_)))));show wpAny _ _ (match Builtin.Slice.sliceAdjust lo hi 1 (n:Int) with|(lo,hi)=>pure (lo,(1:Int),Builtin.Slice.slicePlaces lo hi 1)) _ _ s;rw[Sr lo hi n];show wpAny _ _ (pure (((dh n 0 lo:Nat):Int),(1:Int),Builtin.Slice.slicePlaces ((dh n 0 lo:Nat):Int) ((dh n n hi:Nat):Int) 1)) _ _ s;rw[SO];exact ag h
theorem Qq(xs:Array Value)(i k:Nat):((List.range k).filterMap λ(m:Nat)=>xs[((i:Int)+(m:Int)*1).toNat]?).toArray=((xs.toList.drop i).take k).toArray:=by
 have e:(λ(m:Nat)=>xs[((i:Int)+(m:Int)*1).toNat]?)=λm=>xs[i+m]?:=by
  funext m
  have:((i:Int)+(m:Int)*1).toNat=i+m:=by omega
  rw[this]
 rw[e];have:=pick_run xs i k;rw[List.filterMap_map] at this;have e2:((λx=>xs[x]?) ∘ λx=>i+x)=λm=>xs[i+m]?:=rfl;rw[e2] at this;rw[this]
theorem OG{t sl:Addr}{items:Array Value}{vl vu:Value}{lo hi:Option Int}{Q:Value->Shared->Prop}(ht:IsTup s.heap t items)(hs:s.heap.IsSliceOf sl vl vu .none)(pl:IsPart vl lo)(pu:IsPart vu hi)(hw:¬(dh items.size 0 lo=0/\dh items.size items.size hi=items.size))(h:Q (.ref s.heap.objs.size) { s with heap:=s.heap.push { cls:=.type "tuple",data:=.seq ((items.toList.drop (dh items.size 0 lo)).take (dh items.size items.size hi-dh items.size 0 lo)).toArray } })(hsz:items.size<=sizeLine):wpAny (model prog w) A (getItem (.ref t) (.ref sl)) Q E s:=by
 have jR:sizeOk (.seq ((items.toList.drop (dh items.size 0 lo)).take (dh items.size items.size hi-dh items.size 0 lo)).toArray):=by
  show((items.toList.drop (dh items.size 0 lo)).take (dh items.size items.size hi-dh items.size 0 lo)).toArray.size<=sizeLine;rw[aB,cw,jX,ba];omega
 have hj:dh items.size items.size hi<=items.size:=SX _ _ (aj _) hi;obtain⟨os,oC,uu,se⟩:=id hs;have xa:s.TypeIs (.ref sl) "slice":=⟨os,oC,uu⟩
 unfold getItem
 try with_reducible refine bx ?_
 first|refine aa (ag ?_)|skip
 refine aa (wpAny_sequenceKey ht.typeIs (by decide) ?_);refine aa (eT (name:=Str.ofString "__getitem__") ht.typeIs bA
  (bO bA ht.typeIs entry_tuple_getitem ?_ (args_tuple_getitem _ _)))
 show wpAny _ _ (Builtin.Tuple.tupleItemsOf (.ref t) >>= _) _ _ s;refine aa (tupleItemsOf_ ht ?_);refine aa (cX xa ?_);rw[aN (by decide)];refine aa (O3 hs pl pu ?_);have ni:¬((((dh items.size 0 lo:Nat):Int)==0&&(1:Int)==1&&(dh items.size items.size hi-dh items.size 0 lo)==items.size)=true):=by
  intro q;rw[bu,bu] at q;have q1:((dh items.size 0 lo:Nat):Int)=0:=eq_of_beq q.1.1;have q2:dh items.size items.size hi-dh items.size 0 lo=items.size:=eq_of_beq q.2;exact hw ⟨by omega,by omega⟩
 show wpAny _ _ (if(((dh items.size 0 lo:Nat):Int)==0&&(1:Int)==1&&(dh items.size items.size hi-dh items.size 0 lo)==items.size)=true then _ else _) _ _ s;rw[aH ni,Qq]
 first
  |exact wpAny_bind (m:=Builtin.Tuple.tupleExact _) (wpAny_newObj_type (wpAny_pure ⟨_,rfl,wpAny_pure h⟩) jR)
  |exact wpAny_bind (m:=Builtin.Tuple.tupleExact _) (wpAny_newObj_type (wpAny_bind (wpAny_pure (wpAny_pure ⟨_,rfl,wpAny_pure h⟩))) jR)
  |exact wpAny_bind (wpAny_bind (m:=Builtin.Tuple.tupleExact _) (wpAny_newObj_type (wpAny_pure (wpAny_pure ⟨_,rfl,wpAny_pure h⟩)) jR))
  |exact wpAny_bind (wpAny_bind (m:=Builtin.Tuple.tupleExact _) (wpAny_newObj_type (wpAny_pure ⟨_,rfl,wpAny_pure h⟩) jR))
end
end HT
namespace L2
open PySem PySem.Spec PyProof.Rows
variable{X:Cx}{e:Expr}{pos:Pos}{n t':Nat}{α:Type}{a:Addr}{pins:List (Addr×Obj)}{Z:St}{H H':Hp}{s:Shared}{aO:List Value}{o:Option V}{w:World}{A:Around}{E:Value->Shared->Prop}{u:Value}{kvs:List (List Key×V)}{y:V}{P:Program}
noncomputable abbrev TO:=St->Hp->(Option Int->Hp->Prop)->Prop
def PO(X:Cx)(e:Option Expr)(t:TO):Prop :=
 ∀(pins:List (Addr×Obj)) (s:Shared) (Z:St) (H:Hp) (Q:Option Int->Hp->Prop),Inv X pins Z H s->t Z H Q ->
  wpAny (model X.prog X.w) X.A (evalPart e X.env) (λu s'=>∃o H',Inv X pins Z H' s'/\IsPart u o/\Q o H') X.xe s
def Pq:TO:=λ_ H Q=>Q none H
def LB(t:TE):TO:=λZ H Q=>t Z H λx H1=>∃i,x=.int i/\Q (some i) H1
section
variable{te:TE}{lo hi:Option Expr}{tl th:TO}{p2:Pos}
theorem Z8:PO X none Pq:=by
 intro pins s Z H Q I h;rw[evalPart_none];exact ag ⟨none,H,I,.none,h⟩
theorem CL(h:PE X e te):PO X (some e) (LB te):=by
 intro pins s Z H Q I hw;rw[evalPart_some];refine cC (h pins s Z H _ I hw) λu s1 bc=>?_;obtain⟨x,H1,I1,r1,q1⟩:=bc;obtain⟨i,rfl,q⟩:=q1;obtain⟨t,rfl⟩:=r1;exact⟨some i,H1,I1,.int i t,q⟩
def tD(X:Cx)(r:V->Option Int->Option Int->Hp->VK->Prop):Prop :=
 ∀(pins:List (Addr×Obj)) (s:Shared) (Z:St) (H:Hp) (x:V) (v vl vu:Value) (lo hi:Option Int) (sl:Addr) (Q:VK),Inv X pins Z H s->RelV x v->s.heap.IsSliceOf sl vl vu .none->IsPart vl lo->IsPart vu hi->r x lo hi H Q ->
  ∃T id,typeLookup (.type T) "__getitem__"=pure (some (.builtin id))/\s.TypeIs v T/\wpAny (model X.prog X.w) X.A (getItem v (.ref sl)) (EP X pins Z Q) X.xe s
def FZ(r:V->Option Int->Option Int->Hp->VK->Prop)(te:TE)(tl th:TO):TE:=λZ H Q=>te Z H λx H1=>tl Z H1 λl H2=>th Z H2 λu H3=>r x l u H3 Q
theorem zd{r:V->Option Int->Option Int->Hp->VK->Prop}(hr:tD X r)(he:PE X e te)(hl:PO X lo tl)(hu:PO X hi th):PE X (.Subscript e (.Slice lo hi none p2) pos) (FZ r te tl th):=by
 intro pins s Z H Q I h;refine Subscript_ (cC (he pins s Z H _ I h) λv s1 bc=>?_);obtain⟨x,H1,I1,r1,q1⟩:=bc;refine wpAny_Slice (cC (hl pins s1 Z H1 _ I1 q1) λvl s2 ⟨l,H2,I2,pl,q2⟩=>cC (hu pins s2 Z H2 _ I2 q2) λvu s3 bc=>?_);obtain⟨u,H3,I3,pu,q3⟩:=bc;rw[evalPart_none];refine ag ?_;have I4:Inv X pins Z H3 { s3 with heap:=s3.heap.push { cls:=.type "slice",data:=.fields #[vl,vu,.none] } }:=I3.kept (t':=s3.toks) λb ob q=>af _ q;obtain⟨T,id,hT,ht,hg⟩:=hr pins { s3 with heap:=s3.heap.push { cls:=.type "slice",data:=.fields #[vl,vu,.none] } } Z H3 x v vl vu l u s3.heap.objs.size Q I4 r1 (Heap.IsSliceOf.new ..) pl pu q3;show wpAny (model X.prog X.w) X.A (subscriptTail e (.Slice lo hi none p2) v (.ref s3.heap.objs.size)) (EP X pins Z Q) X.xe { s3 with heap:=s3.heap.push { cls:=.type "slice",data:=.fields #[vl,vu,.none] } };exact tail_any (ops:=[.ref s3.heap.objs.size,v]) ht hT hg (by with_unfolding_all rfl)
def O9(xs:List V)(lo hi:Option Int):List V:=(xs.drop (HT.dh xs.length 0 lo)).take (HT.dh xs.length xs.length hi-HT.dh xs.length 0 lo)
theorem Ee(xs:List V)(lo hi:Option Int):(O9 xs lo hi).length<=xs.length:=by
 unfold O9;rw[cw,jX];omega
def Jy(K:PySem.W.Frag):V->Option Int->Option Int->Hp->VK->Prop:=λx lo hi H Q=>∃a xs,x=.ref a/\gS K H a xs /\
 ¬(HT.dh xs.length 0 lo=0/\HT.dh xs.length xs.length hi=xs.length)/\∀p,H p=none->Q (.ref p) (upd H p (.tup (O9 xs lo hi)))
theorem Tq:tD X (Jy X.K):=by
 intro pins s Z H x v vl vu lo hi sl Q I rx hs pl pu h;obtain⟨a,xs,rfl,hx,hw,q⟩:=h;cases rx;obtain⟨aO,r,ht,hz⟩:=I.tuple hx;have hlen:aO.toArray.size=xs.length:=by rw[aB];exact r.length.symm
 refine⟨"tuple",_,bA.lookup,ht.typeIs,?_⟩;refine HT.OG ht hs pl pu (by rw[hlen];exact hw) ?_ (by rw[hlen];exact hz);rw[hlen];refine⟨.ref s.heap.objs.size,_,I.laid (t':=s.toks) (o:=.tup (O9 xs lo hi)) (λb ob q=>af _ q) (aj _) ?_,rfl,q _ (I.bD.fresh (aj _))⟩;exact⟨aG (Ee xs lo hi) hz,_,(r.drop (HT.dh xs.length 0 lo)).take (HT.dh xs.length xs.length hi-HT.dh xs.length 0 lo),J8.new _ _⟩
def Lj(K:PySem.W.Frag):R2:=λx y H Q=>∃a b xs ys,x=.ref a/\y=.ref b/\gS K H a xs/\gS K H b ys/\xs≠[]/\xs.length+ys.length<=sizeLine /\
 (ys=[]->Q (.ref a) H)/\(ys≠[]->∀p,H p=none->Q (.ref p) (upd H p (.tup (xs++ys))))
theorem Vals.vg{xs:List V}{us:List Value}(r:Vals xs us):us=[]↔xs=[]:=by
 cases r with
 |nil=>simp
 |cons _ _=>simp
theorem UK:fj X (binaryOp .Add) (Lj X.K):=by
 intro pins s Z H x y v u Q I rx ry h;obtain⟨a,b,xs,ys,rfl,rfl,ha,hb,hx,hz,q1,q2⟩:=h;cases rx;cases ry;obtain⟨aO,r1,p1,_⟩:=I.tuple ha;obtain⟨mx,r2,p2,_⟩:=I.tuple hb;refine HT.Uj p1 p2 (λz=>hx (r1.vg.mp z)) (λz=>⟨.ref a,H,I,rfl,q1 (r2.vg.mp z)⟩) (λz=>?_) (by rw[<- r1.length,<- r2.length];exact hz);refine⟨.ref s.heap.objs.size,_,I.laid (t':=s.toks) (o:=.tup (xs++ys)) (λb ob q=>af _ q) (aj _) ?_,rfl,q2 (λw=>z (r2.vg.mpr w)) _ (I.bD.fresh (aj _))⟩;exact⟨by rw[aK];exact hz,_,r1.append r2,J8.new _ _⟩
end
def jA(n:Nat)(i:Int):Option Nat:=if 0<=i then(if i<n then some i.toNat else none) else if -(n:Int)<=i then some (i+n).toNat else none
def fO{α:Type}(xs:List α)(i:Int):Option α:=(jA xs.length i).bind λj=>xs[j]?
theorem CC{i:Int}{j:Nat}(h:jA n i=some j):seqIndex? i n=some j/\j<n/\-(n:Int)<=i/\i<n:=by
 unfold jA at h;by_cases h0:0<=i
 ·rw[aN h0] at h;by_cases h1:i<n
  ·rw[aN h1] at h;have e:i.toNat=j:=aE h;exact⟨by rw[seqIndex_of h0 h1,e],by omega,by omega,h1⟩
  ·rw[aH h1] at h;cases h
 ·rw[aH h0] at h;by_cases h1:-(n:Int)<=i
  ·rw[aN h1] at h;have e:(i+n).toNat=j:=aE h;exact⟨by rw[Wa (by omega) h1,e],by omega,h1,by omega⟩
  ·rw[aH h1] at h;cases h
theorem yI{xs:List α}{i:Int}{v:α}(h:fO xs i=some v):∃j,seqIndex? i xs.length=some j/\xs[j]?=some v/\j<xs.length/\-(xs.length:Int)<=i/\i<xs.length:=by
 unfold fO at h;cases e:jA xs.length i with
 |none=>rw[e] at h;cases h
 |some j =>
  rw[e] at h;obtain⟨h1,h2,h3,h4⟩:=CC e;exact⟨j,h1,h,h2,h3,h4⟩
theorem y9{xs:List α}{j:Nat}{v:α}(h:xs[j]?=some v):fO xs (j:Int)=some v:=by
 have hj:j<xs.length:=(ao.mp h).1;have e:jA xs.length (j:Int)=some j:=by
  unfold jA;rw[aN (by omega),aN (by omega)];simp
 unfold fO;rw[e];exact h
theorem CV(xs:List α)(v:α):fO (xs++[v]) (-1)=some v:=by
 have hl:(xs++[v]).length=xs.length+1:=by simp
 have e:jA (xs++[v]).length (-1)=some xs.length:=by
  unfold jA;rw[hl,aH (by decide),aN (by omega)]
  congr 1
  omega
 unfold fO;rw[e];show(xs++[v])[xs.length]?=some v;simp
def yG(b:Expr):Prop:=∀o i,subscripted b false o i=operate [o,i] (getItem o i)
def pD(X:Cx)(r:R2):Prop :=
 ∀(value slice:Expr) (pins:List (Addr×Obj)) (s:Shared) (Z:St) (H:Hp) (x y:V) (v u:Value) (Q:VK),Inv X pins Z H s->RelV x v->RelV y u->r x y H Q ->
  subscripted slice false v u=operate [v,u] (getItem v u)->wpAny (model X.prog X.w) X.A (subscriptTail value slice v u) (EP X pins Z Q) X.xe s
def mO(X:Cx)(id:String)(r:V->List V->Hp->VK->Prop):Prop :=
 ∀(pins:List (Addr×Obj)) (s:Shared) (Z:St) (H:Hp) (x:V) (xs:List V) (v:Value) (us:List Value) (Q:VK),Inv X pins Z H s->RelV x v->Vals xs us->r x xs H Q ->
  wpAny (model X.prog X.w) X.A (call (.builtin id) (v::us)) (EP X pins Z Q) X.xe s
section
variable{a b:Expr}{ta tb:TE}
theorem EG{r:R2}(hr:pD X r)(ha:PE X a ta)(hb:PE X b tb)(hs:yG b):PE X (.Subscript a b pos) (pL r ta tb):=by
 intro pins s Z H Q I h;exact Subscript_ (zp ha hb I h λv u s2 x y H2 I2 rx ry q=>hr a b pins s2 Z H2 x y v u Q I2 rx ry q (hs _ _))
def Js(K:PySem.W.Frag):R2:=λx y H Q=>∃p xs i v,x=.ref p/\y=.int i/\fe K H p xs/\fO xs i=some v/\Q v H
def Ju(K:PySem.W.Frag):R2:=λx y H Q=>∃p xs i v,x=.ref p/\y=.int i/\gS K H p xs/\fO xs i=some v/\Q v H
def Jt:R2:=λx y H Q=>∃z i c,x=.str z/\y=.int i/\z.length<=sizeLine/\fO z.cps.toList i=some c/\Q (.str ⟨#[c]⟩) H
theorem Ux:pD X (Js X.K):=by
 intro value slice pins s Z H x y v u Q I rx ry h hs;obtain⟨p,xs,i,z,rfl,rfl,hq,he,q⟩:=h;cases rx;obtain⟨t,rfl⟩:=ry;obtain⟨aO,r,pl,hz⟩:=I.list hq;obtain⟨j,h1,h2,h3,h4,h5⟩:=yI he;obtain⟨w,ew,fg⟩:=r.get h2;have hl:=r.length;have hn:=O7;have fin:EP X pins Z Q w s:=⟨z,H,I,fg,q⟩
 by_cases h0:0<=i
 ·have hj:i.toNat=j:=by
   rw[seqIndex_of h0 h5] at h1;exact aE h1
  exact item_listR pl.isList h0 (by omega) (by rw[hj];simpa using ew) fin hs
 ·have hj:(i+(aO.toArray.size:Int)).toNat=j:=by
   rw[Wa (by omega) h4] at h1;rw[aB,<- hl];exact aE h1
  exact subscriptTail_builtinR (x:=w) pl.isList.typeIs slot_list_getitem.lookup
   (wpAny_getItem_list_neg (Q:=λr s'=>r=w/\EP X pins Z Q r s') pl.isList (by omega) (by rw[aB]<;>omega) (by omega) (by rw[hj];simpa using ew) ⟨rfl,fin⟩) hs
theorem Mq:pD X (Ju X.K):=by
 intro value slice pins s Z H x y v u Q I rx ry h hs;obtain⟨p,xs,i,z,rfl,rfl,hq,he,q⟩:=h;cases rx;obtain⟨t,rfl⟩:=ry;obtain⟨aO,r,pl,hz⟩:=I.tuple hq;obtain⟨j,h1,h2,h3,h4,h5⟩:=yI he;obtain⟨w,ew,fg⟩:=r.get h2;have hl:=r.length;have hn:=O7;have fin:EP X pins Z Q w s:=⟨z,H,I,fg,q⟩
 exact subscriptTail_builtinR (x:=w) pl.typeIs slot_tuple_getitem.lookup
  (getItem_tuple (j:=j) (Q:=λr s'=>r=w/\EP X pins Z Q r s') pl (by omega) (by omega) (by rw[aB,<- hl];exact h1) (by simpa using ew) ⟨rfl,fin⟩) hs
theorem Mp:pD X Jt:=by
 intro value slice pins s Z H x y v u Q I rx ry h hs;obtain⟨z,i,c,rfl,rfl,hz,he,q⟩:=h;obtain⟨t,rfl⟩:=rx;obtain⟨t',rfl⟩:=ry;obtain⟨j,h1,h2,h3,h4,h5⟩:=yI he;have hl:z.cps.toList.length=z.length:=by simp[Str.length]
 rw[hl] at h1 h4 h5;have hn:=O7;exact tail_any (typeIs_str s z t) slot_str_getitem.lookup (getItem_str (c:=c) (by
  have e1:decide (i < -(2 ^ 63:Int))=false:=aJ (by omega);have e2:decide (i>=2 ^ 63)=false:=aJ (by omega);rw [e1,e2,Bool.or_false]) (by rw [h1];simpa using h2) ⟨.str ⟨#[c]⟩,H,I.tok _,⟨_,rfl⟩,q⟩) hs
theorem SI(aO:List Value)(n j:Nat)(u:Value):Obj.mapSeq (·.setIfInBounds j u) { cls:=.type "list",data:=.seq aO.toArray n }={ cls:=.type "list",data:=.seq (aO.set j u).toArray n }:=by
 simp[Obj.mapSeq]
theorem Inv.lst{pins:List (Addr×Obj)}{Z:St}{H:Hp}{s:Shared}{p:Addr}{xs:List V}(I:Inv X pins Z H s)(h:H p=some (.lst xs)) :
  ∃(aO:List Value) (n:Nat),Vals xs aO/\s.heap.get? p=some { cls:=.type "list",data:=.seq aO.toArray n }/\xs.length<=sizeLine:=by
 obtain⟨z,aO,n,r,e⟩:=I.bD p _ h;exact⟨aO,n,r,e,z⟩
theorem Inv.MC{p:Addr}{xs ys:List V}{its':List Value}{n':Nat}{f:Obj->Obj}(I:Inv X pins Z H s)(h:H p=some (.lst xs))(ho:s.heap.get? p=some { cls:=.type "list",data:=.seq aO.toArray n })(hf:f { cls:=.type "list",data:=.seq aO.toArray n }={ cls:=.type "list",data:=.seq its'.toArray n' })(r:Vals ys its')(hz:ys.length<=sizeLine)(t:Nat) :
  Inv X pins Z (upd H p (.lst ys)) { s with heap:=s.heap.update p f,toks:=t }:=by
 have e:(s.heap.update p f).get? p=some { cls:=.type "list",data:=.seq its'.toArray n' }:=by
  rw[aR f ho (by rw[hf]<;>rfl),hf]
 refine I.write (x:=p) (e:=p) (by rw[h];trivial) (.inl rfl) (λb u hb q=>(bt _ _ (bU hb)).trans q) ⟨_,e⟩ ?_;exact⟨hz,its',n',r,e⟩
def Lm:V->V->V->Hp->(Hp->Prop)->Prop:=λo i v H Q=>∃p xs k j,o=.ref p/\i=.int k/\H p=some (.lst xs)/\jA xs.length k=some j/\Q (upd H p (.lst (xs.set j v)))
theorem set_list:zk X Lm:=by
 intro pins s Z H o i v ov iv u Q I ro ri rv h;obtain⟨p,xs,k,j,rfl,rfl,hp,hj,q⟩:=h;cases ro;obtain⟨t,rfl⟩:=ri;obtain⟨aO,n,r,ho,hz⟩:=I.lst hp;obtain⟨h1,h2,h3,h4⟩:=CC hj;have hl:=r.length;have hn:=O7;have I':Inv X pins Z (upd H p (.lst (xs.set j v))) { s with heap:=s.heap.update p (Obj.mapSeq (·.setIfInBounds j u)) } :=
  I.MC hp ho (SI aO n j u) (r.set rv j) (by rw[gN];exact hz) s.toks
 by_cases h0:0<=k
 ·have hk:k.toNat=j:=by
   rw[seqIndex_of h0 h4] at h1;exact aE h1
  exact PySem.W.ki_setAt ho h0 (by omega) (by rw[aB,<- hl];exact h4) (by rw[hk];exact⟨_,I',q⟩)
 ·have hk:(k+(aO.toArray.size:Int)).toNat=j:=by
   rw[Wa (by omega) h3] at h1;rw[aB,<- hl];exact aE h1
  exact PySem.W.ki_setBack ho (by omega) (by rw[aB,<- hl];exact h3) (by omega) (by rw[hk];exact⟨_,I',q⟩)
theorem Oj(lo hi:Option Int)(n:Nat):(sliceBounds lo hi none n).1=((HT.dh n 0 lo:Nat):Int)/\(sliceBounds lo hi none n).2.1=((HT.dh n n hi:Nat):Int)/\(sliceBounds lo hi none n).2.2=1:=by
 refine⟨?_,?_,rfl⟩
 ·cases lo with
  |none=>simp[sliceBounds,HT.dh]
  |some i =>
   simp only[sliceBounds,HT.dh,Option.getD_none,show(1:Int)>0 by decide,if_true];by_cases h:i<0
   ·simp only[h,if_true]<;>omega
   ·simp only[h,if_false]<;>omega
 ·cases hi with
  |none=>simp[sliceBounds,HT.dh]
  |some i =>
   simp only[sliceBounds,HT.dh,Option.getD_none,show(1:Int)>0 by decide,if_true];by_cases h:i<0
   ·simp only[h,if_true]<;>omega
   ·simp only[h,if_false]<;>omega
theorem Ow(aO:List Value)(lo hi:Option Int):slicePick aO.toArray lo hi none=((aO.drop (HT.dh aO.length 0 lo)).take (HT.dh aO.length aO.length hi-HT.dh aO.length 0 lo)).toArray:=by
 obtain⟨h1,h2,h3⟩:=Oj lo hi aO.toArray.size;unfold slicePick;rw[h1,h2,h3];simp only[sliceRange_one,pick_run,List.size_toArray]<;>rfl
def Jx(K:PySem.W.Frag):V->Option Int->Option Int->Hp->VK->Prop:=λx lo hi H Q=>∃a xs,x=.ref a/\fe K H a xs/\∀p,H p=none->Q (.ref p) (upd H p (.lst (O9 xs lo hi)))
theorem Pj:tD X (Jx X.K):=by
 intro pins s Z H x v vl vu lo hi sl Q I rx hs pl pu h;obtain⟨a,xs,rfl,hx,q⟩:=h;cases rx;obtain⟨aO,r,ht,hz⟩:=I.list hx;have hlen:=r.length;refine⟨"list",_,slot_list_getitem.lookup,ht.isList.typeIs,?_⟩;refine wpAny_getItem_list_slice ht.isList hs pl pu .none (by simp) ?_ (by rw[aB]<;>omega);rw[Ow,<- hlen];refine⟨.ref s.heap.objs.size,_,I.laid (t':=s.toks) (o:=.lst (O9 xs lo hi)) (λb ob q=>af _ q) (aj _) ?_,rfl,q _ (I.bD.fresh (aj _))⟩;exact⟨aG (Ee xs lo hi) hz,_,0,(r.drop (HT.dh xs.length 0 lo)).take (HT.dh xs.length xs.length hi-HT.dh xs.length 0 lo),ay _ rfl⟩
def BN:V->V->Bool
 |.bV,.bV=>true
 |.bl a,.bl b=>a==b
 |.bl a,.int b=>(if a then 1 else 0)==b
 |.int a,.bl b=>a==(if b then 1 else 0)
 |.int a,.int b=>a==b
 |.str a,.str b=>a==b
 |_,_=>false
theorem NV:i8 X (.builtin "len") (λxs H Q=>∃p ys,xs=[.ref p]/\(fe X.K H p ys\/gS X.K H p ys)/\Q (.int ys.length) H):=by
 intro pins s Z H xs us Q I r h;obtain⟨p,ys,rfl,hq,q⟩:=h;obtain⟨u,rfl,rx⟩:=vals1 r;cases rx;have hn:=O7;rcases hq with hq|hq
 ·obtain⟨aO,r',pl,hz⟩:=I.list hq;have hlen:=r'.length;exact Calls.call_len_list pl.isList (by simp only[List.size_toArray]<;>omega) ⟨.int ys.length,H,I.tok _,⟨s.toks+1,by rw[aB,hlen]⟩,q⟩
 ·obtain⟨aO,r',pl,hz⟩:=I.tuple hq;have hlen:=r'.length;exact len_tuple pl (by simp only[List.size_toArray]<;>omega) ⟨.int ys.length,H,I.tok _,⟨s.toks+1,by rw[aB,hlen]⟩,q⟩
theorem NW:i8 X (.builtin "len") (λxs H Q=>∃z,xs=[.str z]/\z.length<=sizeLine/\Q (.int z.length) H):=by
 intro pins s Z H xs us Q I r h;obtain⟨z,rfl,hz,q⟩:=h;obtain⟨u,rfl,t,rfl⟩:=vals1 r;have hn:=O7;exact len_str (by omega) ⟨.int z.length,H,I.tok _,⟨_,rfl⟩,q⟩
theorem NX:i8 X (.type "list") (λxs H Q=>∃p ys,xs=[.ref p]/\(fe X.K H p ys\/gS X.K H p ys)/\∀l,H l=none->Q (.ref l) (upd H l (.lst ys))):=by
 intro pins s Z H xs us Q I r h;obtain⟨p,ys,rfl,hq,q⟩:=h;obtain⟨u,rfl,rx⟩:=vals1 r;cases rx;have fin:∀(aO:List Value),Vals ys aO->ys.length<=sizeLine->∀(h':Heap) (c':Nat),(∀b o',s.heap.get? b=some o'->h'.get? b=some o') ->
   h'.get? s.heap.objs.size=some { cls:=.type "list",dict:=none,data:=.seq aO.toArray c',slots:=#[] }->EP X pins Z Q (.ref s.heap.objs.size) { s with heap:=h' }:=λaO r' hz h' c' kp e =>
  ⟨.ref s.heap.objs.size,_,I.laid (t':=s.toks) kp (aj _) (show k8 X.prog X.w _ h' _ (.lst ys) from⟨hz,aO,c',r',e⟩),rfl,q _ (I.bD.fresh (aj _))⟩
 rcases hq with hq|hq
 ·obtain⟨aO,r',pl,hz⟩:=I.list hq;have hlen:=r'.length;obtain⟨o,ho,hc,n,hd⟩:=pl.isList;exact call_list_seq p (.inl rfl) ho hc hd (λh' c' kp e=>fin aO r' hz h' c' kp e) (by simp only[List.size_toArray]<;>omega)
 ·obtain⟨aO,r',pl,hz⟩:=I.tuple hq;have hlen:=r'.length;obtain⟨o,ho,hc,n,hd⟩:=pl;exact call_list_seq p (.inr rfl) ho hc hd (λh' c' kp e=>fin aO r' hz h' c' kp e) (by simp only[List.size_toArray]<;>omega)
theorem Oo:i8 X (.type "tuple") (λxs H Q=>∃p ys,xs=[.ref p]/\((fe X.K H p ys/\∀l,H l=none->Q (.ref l) (upd H l (.tup ys)))\/(gS X.K H p ys/\Q (.ref p) H))):=by
 intro pins s Z H xs us Q I r h;obtain⟨p,ys,rfl,h⟩:=h;obtain⟨u,rfl,rx⟩:=vals1 r;cases rx;rcases h with⟨hq,q⟩|⟨hq,q⟩
 ·obtain⟨aO,r',pl,hz⟩:=I.list hq;have hlen:=r'.length;refine call_tuple_list pl.isList (λh' kp=>?_) (by simp only[List.size_toArray]<;>omega);have I1:Inv X pins Z H { s with heap:=h' }:=I.kept (t':=s.toks) kp;have I2:Inv X pins Z (upd H h'.objs.size (.tup ys)) { s with heap:=h'.push { cls:=.type "tuple",data:=.seq aO.toArray } } :=
   I1.laid (t':=s.toks) (λb o e=>af _ e) (aj _) (show k8 X.prog X.w _ _ _ (.tup ys) from⟨hz,aO,r',J8.new _ _⟩)
  exact⟨.ref h'.objs.size,_,I2,rfl,q _ (I1.bD.fresh (aj _))⟩
 ·obtain⟨aO,r',pl,hz⟩:=I.tuple hq;exact call_tuple_same pl ⟨.ref p,H,I,rfl,q⟩
def mj(K:PySem.W.Frag)(T:String)(x:V)(H:Hp):Prop:=match x with
 |.str _=>T="str"
 |.int _=>T="int"
 |.ref p=>(T="list"/\∃xs,fe K H p xs)\/(T="tuple"/\∃o,K.lookup p=some o/\o.cls=.type "tuple"/\o.dict=none) \/
   (T="dict"/\((∃kvs,H p=some (.dK kvs))\/∃kvs,H p=some (.dT kvs)))\/(T="set"/\∃S n,H p=some (.set S n))
 |_=>False
theorem Fl{T:String}{x:V}{v:Value}(I:Inv X pins Z H s)(r:RelV x v)(ty:mj X.K T x H) :
  s.TypeIs v T/\∀a,v=.ref a->∃ob,s.heap.get? a=some ob/\ob.dict=none:=by
 cases x with
 |str z =>
  obtain⟨t,rfl⟩:=r;cases (show T="str" from ty);exact⟨typeIs_str s z t,λ_ e=>nomatch e⟩
 |int i =>
  obtain⟨t,rfl⟩:=r;cases (show T="int" from ty);exact⟨kz s i t,λ_ e=>nomatch e⟩
 |ref p =>
  cases r;rcases ty with⟨rfl,xs,hq⟩|⟨rfl,o,hk,hc,hd⟩|⟨rfl,hk⟩|⟨rfl,S,n,hk⟩
  ·obtain⟨aO,_,pl,_⟩:=I.list hq;refine⟨pl.isList.typeIs,λa e=>?_⟩;cases e;obtain⟨o,n,e,c,hd,_⟩:=pl;exact⟨o,e,hd⟩
  ·refine⟨⟨o,I.gb p o hk,hc⟩,λa e=>?_⟩;cases e;exact⟨o,I.gb _ o hk,hd⟩
  ·have z:∃o,s.heap.get? p=some o/\o.ExactDict:=by
    rcases hk with⟨kvs,hk⟩|⟨kvs,hk⟩
    ·obtain⟨_,_,_,_,o,_,_,e,ex,_⟩:=I.bD p _ hk;exact⟨o,e,ex⟩
    ·obtain⟨_,_,_,_,o,_,_,e,ex,_⟩:=I.bD p _ hk;exact⟨o,e,ex⟩
   obtain⟨o,e,ex⟩:=z;refine⟨⟨o,e,ex.1⟩,λa e2=>?_⟩;cases e2;exact⟨o,e,ex.2.1⟩
  ·obtain⟨o,_,_,_,e,ex,_⟩:=I.bD p _ hk;refine⟨⟨o,e,ex.1⟩,λa e2=>?_⟩;cases e2;exact⟨o,e,ex.2.1⟩
 |_=>exact False.elim ty
def JI(K:PySem.W.Frag)(T:String)(r:V->List V->Hp->VK->Prop)(to:TE):TE:=λZ H Q=>to Z H λx H1=>mj K T x H1/\r x [] H1 Q
def Gb(K:PySem.W.Frag)(T:String)(r:V->List V->Hp->VK->Prop)(to:TE)(t:TA):TE:=λZ H Q=>to Z H λx H1=>mj K T x H1/\t Z H1 λxs H2=>r x xs H2 Q
variable{o:Expr}{es:List Expr}{to:TE}{t:TA}{name:Str}{apos fo:Pos}{T id:String}{r:V->List V->Hp->VK->Prop}
theorem MX(pa:PlainAttrs T)(slot:Slot T name id)(iK:typeOf (.builtin id)=pure (.type "method_descriptor"))(hm:mO X id r)(ho:PE X o to)(ik:attributeBase o name X.env (eval o X.env)=eval o X.env:=by rfl)(ij:(apos.endLine==fo.line)=true:=by rfl):PE X (.Call (.Attribute o name apos) [] [] fo) (JI X.K T r to):=by
 intro pins s Z H Q I h;refine wpAny_Call_method0_late ik ij (cC (ho pins s Z H _ I h) λv s1 bc=>?_);obtain⟨x,H1,I1,r1,ty,q1⟩:=bc;obtain⟨h1,h2⟩:=Fl I1 r1 ty;exact⟨T,id,pa,slot,iK,h1,h2,Wj rfl (PySem.evalArgs_none (hm pins s1 Z H1 x [] v [] Q I1 r1 .nil q1))⟩
theorem Lc(pa:PlainAttrs T)(slot:Slot T name id)(iK:typeOf (.builtin id)=pure (.type "method_descriptor"))(hm:mO X id r)(ho:PE X o to)(ha:PA X (e::es) t)(ik:attributeBase o name X.env (eval o X.env)=eval o X.env:=by rfl)(oH:((backTo fo (starEach (e :: es) X.env)).all (λx=>!x.1) && (backToKw fo (keywordEach [] X.env)).all (λx=>x.1.isSome)
   && decide ((e :: es).length + ([]:List Keyword).length + (if ([]:List Keyword).isEmpty then 0 else 1) < 30))=true:=by rfl)(ij:(apos.endLine==fo.line)=true:=by rfl)(hs:starEach (e::es) X.env=(false,eval e X.env)::starEach es X.env:=by rfl)(fL:(backTo fo (starEach es X.env)).any (·.1)=false:=by rfl) :
  PE X (.Call (.Attribute o name apos) (e::es) [] fo) (Gb X.K T r to t):=by
 intro pins s Z H Q I h;refine wpAny_Call_method_late ik oH ij rfl (cC (ho pins s Z H _ I h) λv s1 bc=>?_);obtain⟨x,H1,I1,r1,ty,q1⟩:=bc;obtain⟨h1,h2⟩:=Fl I1 r1 ty;refine⟨T,id,pa,slot,iK,h1,h2,?_⟩;have hA:=ha fo pins s1 Z H1 _ I1 q1;rw[hs] at hA ⊢;refine Wj (by show(false||(backTo fo (starEach es X.env)).any (·.1))=false;rw[fL]<;>rfl) (Calls.evalArgs_plain ?_);exact cC hA λus s2 ⟨vs,H2,I2,r2,q2⟩=>hm pins s2 Z H2 x vs v us Q I2 r1 r2 q2
end
def Fz(X:Cx)(id:String)(r:V->List V->Hp->VK->Prop):Prop :=
 ∀(pins:List (Addr×Obj)) (s:Shared) (Z:St) (H:Hp) (x:V) (xs:List V) (v:Value) (us:List Value) (Q:VK),Inv X pins Z H s->RelV x v->Vals xs us->r x xs H Q ->
  wpAny (model X.prog X.w) X.A (call (.builtin id) (v::us)) (EP X pins Z Q) X.xe s
theorem Vals.one{x:V}{us:List Value}(h:Vals [x] us):∃u,us=[u]/\RelV x u:=by
 cases h with
 |cons r h =>
  cases h;exact⟨_,rfl,r⟩
theorem Vals.zero:∀{us:List Value},Vals [] us->us=[]
 |_,.nil=>rfl
theorem Vals.eraseIdx:∀{xs:List V} {us:List Value} (i:Nat),Vals xs us->Vals (xs.eraseIdx i) (us.eraseIdx i)
 |_,_,_,.nil=>.nil
 |_,_,0,.cons _ t=>t
 |_,_,i+1,.cons r t=>.cons r (Vals.eraseIdx i t)
theorem Vals.reverse{xs:List V}{us:List Value}(h:Vals xs us):Vals xs.reverse us.reverse:=by
 induction h with
 |nil=>exact .nil
 |cons r t ih=>rw[fR,fR];exact Vals.append ih (.cons r .nil)
theorem Vals.rep{xs:List V}{us:List Value}(h:Vals xs us):∀k:Nat,Vals (List.replicate k xs).flatten (List.replicate k us).flatten
 |0=>.nil
 |k+1=>by
  rw[bL,bL,bf,bf];exact Vals.append h (Vals.rep h k)
theorem DF{α:Type}:∀(l:List α) (i:Nat),(l.eraseIdx i).length<=l.length
 |[],_=>aj _
 |_::_,0=>fQ _
 |_::r,i+1=>Nat.succ_le_succ (DF r i)
theorem foldl_rep(aO:List Value):∀(k:Nat) (acc:List Value),
  List.foldl (λx1 x2=>x1++x2) acc.toArray (List.replicate k aO.toArray)=(acc++(List.replicate k aO).flatten).toArray
 |0,acc=>by simp
 |k+1,acc=>by
  have e:acc.toArray++aO.toArray=(acc++aO).toArray:=by simp
  have e2:(acc++aO)++(List.replicate k aO).flatten=acc++(List.replicate (k+1) aO).flatten:=by
   rw[bL,bf,bN]
  rw[<- e2,<- foldl_rep aO k (acc++aO),<- e,bL,List.foldl_cons]
section
variable{l:Addr}{xs ys:List V}
theorem Inv.Y2{its':List Value}{f:Array Value->Array Value}{t':Nat}(I:Inv X pins Z H s)(hH:H l=some (.lst xs))(e:s.heap.get? l=some { cls:=.type "list",data:=.seq aO.toArray n })(hf:f aO.toArray=its'.toArray)(hv:Vals ys its')(hz:ys.length<=sizeLine) :
  Inv X pins Z (upd H l (.lst ys)) { s with heap:=s.heap.update l (Obj.mapSeq f),toks:=t' }:=by
 have q:=We e f;rw[hf] at q;refine I.write (x:=l) (e:=l) (by rw[hH];exact trivial) (.inl rfl) (λb' u hb hu=>(bt s.heap (Obj.mapSeq f) (bU hb)).trans hu) ⟨_,q⟩ ?_;exact⟨hz,its',_,hv,q⟩
theorem Inv.Cr{t':Nat}(I:Inv X pins Z H s)(hv:Vals ys aO)(hz:ys.length<=sizeLine) :
  Inv X pins Z (upd H s.heap.objs.size (.lst ys)) { s with heap:=s.heap.push { cls:=.type "list",data:=.seq aO.toArray },toks:=t' } :=
 I.laid (λ_ _ q=>af _ q) (aj _) ⟨hz,aO,0,hv,ay _ rfl⟩
theorem Inv.fresh(I:Inv X pins Z H s):H s.heap.objs.size=none:=I.bD.fresh (aj _)
theorem Inv.pz(I:Inv X pins Z H s)(hH:H l=some (.lst xs)):xs.length<=sizeLine/\∃(aO:List Value) (n:Nat),Vals xs aO/\xs.length=aO.length/\s.heap.get? l=some { cls:=.type "list",data:=.seq aO.toArray n }:=by
 obtain⟨z,aO,n,r,e⟩:=I.bD l _ hH;exact⟨z,aO,n,r,r.length,e⟩
theorem Qg(h:n<=sizeLine):Builtin.List.listTooLong n=false:=by
 unfold Builtin.List.listTooLong;exact aJ (by omega)
end
def OT:V->List V->Hp->VK->Prop:=λx vs H Q=>∃l xs y,x=.ref l/\vs=[y]/\H l=some (.lst xs)/\xs.length<sizeLine/\Q .bV (upd H l (.lst (xs++[y])))
theorem RI:Fz X "list.append" OT:=by
 intro pins s Z H x vs v us Q I rx rv h;obtain⟨l,xs,y,rfl,rfl,hH,hz,q⟩:=h;cases rx;obtain⟨u,rfl,ru⟩:=rv.one;obtain⟨z,aO,n,r,hl,e⟩:=I.pz hH;refine iP F.slot_list_append ⟨_,e,rfl⟩ F.entry_list_append (F.args_list_append_2 _ _) (Vd l aO.toArray n u (by rw[aB];omega)) ⟨e,?_⟩;refine⟨.bV,_,I.Y2 (its':=aO++[u]) hH e (by simp) (r.append (.cons ru .nil)) ?_,rfl,q⟩;rw[aK,gZ];omega
def SV:V->List V->Hp->VK->Prop:=λx vs H Q=>∃l xs i k y,x=.ref l/\vs=[.int i]/\H l=some (.lst xs)/\-(2 ^ 63)<=i/\i<2 ^ 63/\seqIndex? i xs.length=some k/\xs[k]?=some y/\Q y (upd H l (.lst (xs.eraseIdx k)))
theorem Qc:Fz X "list.pop" SV:=by
 intro pins s Z H x vs v us Q I rx rv h;obtain⟨l,xs,i,k,y,rfl,rfl,hH,h1,h2,hk,hy,q⟩:=h;cases rx;obtain⟨u,rfl,ru⟩:=rv.one;obtain⟨t,rfl⟩:=ru;obtain⟨z,aO,n,r,hl,e⟩:=I.pz hH;obtain⟨w,hw,fg⟩:=r.get hy;refine iP F.slot_list_pop ⟨_,e,rfl⟩ F.entry_list_pop (F.args_list_pop_2 _ _)
  (MeetsSeq.list_pop_at l aO.toArray n i t k w (fitsIndex_both h1 h2) (by rw[aB,<- hl];exact hk) (by rw[<- hJ];exact hw) (by rw[aB];omega)) ⟨e,?_⟩
 refine⟨y,_,I.Y2 (its':=aO.eraseIdx k) hH e ?_ (r.eraseIdx k) ?_,fg,q⟩
 ·show aO.toArray.eraseIdxIfInBounds k=(aO.eraseIdx k).toArray;rw[List.eraseIdxIfInBounds_toArray]
 ·have:=DF xs k;omega
def Jr:R2:=λx y H Q=>∃l b xs zs,x=.ref l/\y=.ref b/\H l=some (.lst xs)/\H b=some (.lst zs)/\xs.length+zs.length<=sizeLine/\∀p,H p=none->Q (.ref p) (upd H p (.lst (xs++zs)))
theorem MM:fj X (binaryOp .Add) Jr:=by
 intro pins s Z H x y v u Q I rx ry h;obtain⟨l,b,xs,zs,rfl,rfl,hH,hB,hz,q⟩:=h;cases rx;cases ry;obtain⟨z,aO,n,r,hl,e⟩:=I.pz hH;obtain⟨z2,mx,n2,r2,pV,e2⟩:=I.pz hB;refine Wd e e2 ?_ (by rw[aB,aB];omega);have ea:aO.toArray++mx.toArray=(aO++mx).toArray:=by simp
 rw[ea];exact⟨.ref _,_,I.Cr (t':=s.toks) (r.append r2) (by rw[aK];omega),rfl,q _ I.fresh⟩
def Jv:R2:=λx y H Q=>∃l k xs,x=.ref l/\y=.int k/\H l=some (.lst xs)/\-(2 ^ 63)<=k/\k<2 ^ 63/\xs.length*k.toNat<=sizeLine /\
 ∀p,H p=none->Q (.ref p) (upd H p (.lst (List.replicate k.toNat xs).flatten))
theorem len_rep(xs:List α)(k:Nat):(List.replicate k xs).flatten.length=k*xs.length:=by
 induction k with
 |zero=>simp
 |succ k ih=>rw[bL,bf,aK,ih,Nat.succ_mul,Nat.add_comm]
theorem MR:fj X (binaryOp .Mult) Jv:=by
 intro pins s Z H x y v u Q I rx ry h;obtain⟨l,k,xs,rfl,rfl,hH,h1,h2,hz,q⟩:=h;cases rx;obtain⟨t,rfl⟩:=ry;obtain⟨z,aO,n,r,hl,e⟩:=I.pz hH;have hlen:aO.toArray.size*k.toNat<=sizeLine:=by rw[aB,<- hl];exact hz
 have wW:¬aO.toArray.size*k.toNat>(2 ^ 63-1) / 8:=by
  have:(sizeLine:Nat)<=(2 ^ 63-1) / 8:=by decide
  omega
 have wQ:¬(!Builtin.List.listFitsIndex k)=true:=by
  rw[fitsIndex_both h1 h2];exact dg
 have rT:¬Builtin.List.listTooLong (aO.toArray.size*k.toNat)=true:=by
  rw[Qg hlen];exact dg
 have oG:List.foldl (λx1 x2=>x1++x2) #[] (List.replicate (if aO.toArray.isEmpty=true then 0 else k.toNat) aO.toArray)=(List.replicate k.toNat aO).flatten.toArray:=by
  have f0:∀m:Nat,List.foldl (λx1 x2=>x1++x2) #[] (List.replicate m aO.toArray)=(List.replicate m aO).flatten.toArray:=λm=>by
   have:=foldl_rep aO m [];rw[List.nil_append] at this;exact this
  rw[f0];cases aO with
  |nil=>simp
  |cons a r'=>rw[if_neg (by simp)]
 refine zY (T:="list") (U:="int") (by decide) ⟨_,e,rfl⟩ (λs'=>kz s' k t) noFill_list_mul F.fills_int_mul je repeat_list F.slot_int_index.lookup
  (iP je (kz s k t) F.entry_int_rmul (F.args_int_rmul_2 _ _) (int___rmul___int_list k t l aO.toArray n)
   ⟨e,rfl,⟨_,e,rfl⟩,iP F.slot_list_mul ⟨_,e,rfl⟩ F.entry_list_mul (F.args_list_mul_2 _ _) (AutoListH.list___mul___list_int_3 l aO.toArray n k t wQ wW rT) ⟨e,?_⟩⟩)
 rw[oG];exact⟨.ref _,_,I.Cr (t':=s.toks) (r.rep k.toNat) (by rw[len_rep,qu];exact hz),rfl,q _ I.fresh⟩
section
variable{κ:Type}[DecidableEq κ]
def F8(kvs:List (κ×V))(k:κ):Option V:=(kvs.find? λkv=>decide (kv.1=k)).map (·.2)
def putK(kvs:List (κ×V))(k:κ)(v:V):List (κ×V) :=
 if(kvs.any λkv=>decide (kv.1=k))=true then kvs.map (λkv=>if kv.1=k then(kv.1,v) else kv) else kvs++[(k,v)]
def uL(kvs:List (κ×V))(k:κ):List (κ×V):=kvs.filter λkv=>decide (kv.1≠k)
theorem zi{p:κ×V}{r:List (κ×V)}{k:κ}(e:p.1=k):F8 (p::r) k=some p.2:=by simp[F8,List.find?_cons,e]
theorem zh{p:κ×V}{r:List (κ×V)}{k:κ}(e:¬p.1=k):F8 (p::r) k=F8 r k:=by simp[F8,List.find?_cons,e]
theorem Ds(k:κ):∀kvs:List (κ×V),(kvs.any λkv=>decide (kv.1=k))=(F8 kvs k).isSome
 |[]=>rfl
 |p::r=>by
  rw[fV];by_cases e:p.1=k
  ·simp only[zi e,decide_eq_true e,Bool.true_or,Option.isSome_some]
  ·rw[zh e,aJ e,nQ];exact Ds k r
theorem Q6(kvs:List (κ×V))(k:κ)(v:V):(putK kvs k v).length<=kvs.length+1:=by
 unfold putK;split
 ·rw[ak];omega
 ·rw[aK,cY,List.length_nil];omega
theorem E2.M1{u:Option Value}(r:E2 o u):o.isSome=u.isSome:=by
 cases o with
 |none=>cases u with
  |none=>rfl
  |some _=>exact(show False from r).elim
 |some _=>cases u with
  |none=>exact(show False from r).elim
  |some _=>rfl
theorem E2.getD{o:Option V}{u:Option Value}{d:V}{d':Value}(r:E2 o u)(rd:RelV d d'):RelV (o.getD d) (u.getD d'):=by
 cases o with
 |none=>cases u with
  |none=>exact rd
  |some _=>exact(show False from r).elim
 |some _=>cases u with
  |none=>exact(show False from r).elim
  |some _=>exact r
theorem KV.val{kvs:List (κ×V)}{vs:List (κ×Value)}(r:KV kvs vs)(k:κ):E2 (F8 kvs k) (valueAt vs k):=by
 unfold KV at r
 induction r with
 |nil=>exact True.intro
 |@cons p q ps qs h t ih =>
  obtain⟨h1,h2⟩:=h;by_cases e:p.1=k
  ·have e':q.1=k:=h1.symm.trans e;have b:valueAt (q::qs) k=some q.2:=by simp[valueAt,List.find?_cons,e']
   rw[zi e,b];exact h2
  ·have e':¬q.1=k:=λz=>e (h1.trans z);have b:valueAt (q::qs) k=valueAt qs k:=by simp[valueAt,List.find?_cons,e']
   rw[zh e,b];exact ih
theorem KV.any{kvs:List (κ×V)}{vs:List (κ×Value)}(r:KV kvs vs)(k:κ):(kvs.any λkv=>decide (kv.1=k))=vs.any λkv=>decide (kv.1=k):=by
 unfold KV at r
 induction r with
 |nil=>rfl
 |cons h t ih=>rw[fV,fV,ih,h.1]
theorem KV.zy{kvs:List (κ×V)}{vs:List (κ×Value)}(r:KV kvs vs)(k:κ)(ry:RelV y u) :
  KV (kvs.map λkv=>if kv.1=k then(kv.1,y) else kv) (vs.map λkv=>if kv.1=k then(kv.1,u) else kv):=by
 unfold KV at r ⊢
 induction r with
 |nil=>exact .nil
 |@cons p q ps qs h t ih =>
  rw[aV,aV];refine .cons ?_ ih;obtain⟨h1,h2⟩:=h;by_cases e:p.1=k
  ·rw[aN e,aN (h1.symm.trans e)];exact⟨h1,ry⟩
  ·rw[aH e,aH (λz=>e (h1.trans z))];exact⟨h1,h2⟩
theorem KV.put{kvs:List (κ×V)}{vs:List (κ×Value)}(r:KV kvs vs)(k:κ)(ry:RelV y u):KV (putK kvs k y) (stored vs k u):=by
 unfold putK stored;rw[r.any k];by_cases e:(vs.any λkv=>decide (kv.1=k))=true
 ·rw[aN e,aN e];exact r.zy k ry
 ·rw[aH e,aH e];exact Paired.snoc r ⟨rfl,ry⟩
theorem KV.drop{kvs:List (κ×V)}{vs:List (κ×Value)}(r:KV kvs vs)(k:κ):KV (uL kvs k) (without vs k):=by
 unfold KV at r ⊢;unfold uL without
 induction r with
 |nil=>exact .nil
 |@cons p q ps qs h t ih =>
  obtain⟨h1,h2⟩:=h;rw[gj,gj];by_cases e:p.1=k
  ·have a:¬decide (p.1≠k)=true:=by simp[e]
   have b:¬decide (q.1≠k)=true:=by simp[h1.symm.trans e]
   rw[aH a,aH b];exact ih
  ·have e':¬q.1=k:=λz=>e (h1.trans z);have a:decide (p.1≠k)=true:=by simp[e]
   have b:decide (q.1≠k)=true:=by simp[e']
   rw[aN a,aN b];exact .cons ⟨h1,h2⟩ ih
theorem KV.keys{kvs:List (κ×V)}{vs:List (κ×Value)}(r:KV kvs vs):kvs.map (·.1)=vs.map (·.1):=by
 unfold KV at r
 induction r with
 |nil=>rfl
 |cons h t ih=>rw[aV,aV,ih,h.1]
theorem KV.length{kvs:List (κ×V)}{vs:List (κ×Value)}(r:KV kvs vs):kvs.length=vs.length:=kl r
end
theorem U9{k:Key}(r:RelV (kV k) u):(k6 P w).is k u=true:=by
 cases k with
 |inl i=>obtain⟨t,e⟩:=(show ∃t,u=Value.int i t from r);subst e;exact NM P w i t
 |inr x=>obtain⟨t,e⟩:=(show ∃t,u=Value.str x t from r);subst e;exact NN P w x t
theorem DE{P:Program}{w:World}:∀{ks:List Key} {us:List Value},Vals (ks.map kV) us->ItemsAre (k6 P w) ks us
 |[],_,r=>by rw[qw] at r;cases r;exact .nil
 |k::ks,_,r=>by
  rw[aV] at r;cases r with
  |cons h t=>exact .cons (U9 h) (DE t)
noncomputable abbrev KT(H:Hp):List (List Key×V)->List (List Key×Addr×Value)->Prop:=Paired λp q=>p.1=q.1/\H q.2.1=some (.tup (p.1.map kV))/\RelV p.2 q.2.2
theorem KT.val{xs:List (List Key×Addr×Value)}(r:KT H kvs xs)(k:List Key):E2 (F8 kvs k) ((atKey xs k).map (·.2)):=by
 induction r with
 |nil=>exact True.intro
 |@cons p q ps qs h t ih =>
  obtain⟨h1,_,h2⟩:=h;by_cases e:p.1=k
  ·have e':q.1=k:=h1.symm.trans e;have b:atKey (q::qs) k=some q.2:=by simp[atKey,List.find?_cons,e']
   rw[zi e,b];exact h2
  ·have e':¬q.1=k:=λz=>e (h1.trans z);have b:atKey (q::qs) k=atKey qs k:=by simp[atKey,List.find?_cons,e']
   rw[zh e,b];exact ih
theorem KT.zy{xs:List (List Key×Addr×Value)}(r:KT H kvs xs)(k:List Key)(ry:RelV y u) :
  KT H (kvs.map λkv=>if kv.1=k then(kv.1,y) else kv) (xs.map (putAt k u)):=by
 induction r with
 |nil=>exact .nil
 |@cons p q ps qs h t ih =>
  rw[aV,aV];refine .cons ?_ ih;obtain⟨h1,h2,h3⟩:=h;unfold putAt;by_cases e:p.1=k
  ·rw[aN e,aN (h1.symm.trans e)];exact⟨h1,h2,ry⟩
  ·rw[aH e,aH (λz=>e (h1.trans z))];exact⟨h1,h2,h3⟩
theorem KT.put{xs:List (List Key×Addr×Value)}(r:KT H kvs xs)(k:List Key){b:Addr}(hb:H b=some (.tup (k.map kV)))(ry:RelV y u) :
  KT H (putK kvs k y) (storedH xs k b u):=by
 have e:(kvs.any λkv=>decide (kv.1=k))=(atKey xs k).isSome:=by
  rw[Ds,(r.val k).M1,fP]
 unfold putK storedH;rw[e];by_cases q:(atKey xs k).isSome=true
 ·rw[aN q,aN q];exact r.zy k ry
 ·rw[aH q,aH q];exact Paired.snoc r ⟨rfl,hb,ry⟩
theorem KT.keeps{xs:List (List Key×Addr×Value)}(r:KT H kvs xs)(ht:∀b ys,H b=some (.tup ys)->H' b=some (.tup ys)):KT H' kvs xs :=
 Paired.Cs r λ_ _ z=>⟨z.1,ht _ _ z.2.1,z.2.2⟩
section
variable{h:Heap}
theorem EI{u:HO}(ok:fH P w H h)(e:Rd H a u):k8 P w H h a u:=e.ok ok
theorem V4{kvs:List (Key×V)}(ok:fH P w H h)(e:Rd H a (.dK kvs)):kvs.length<=sizeLine/\(a==sysModules)=false/\∃vs,KV kvs vs/\h.DictOf (k6 P w) a vs :=
 show k8 P w H h a (.dK kvs) from EI ok e
theorem uK{kvs:List (Key×V)}(ok:fH P w H h)(e:H a=some (.dK kvs)):kvs.length<=sizeLine/\(a==sysModules)=false/\∃vs,KV kvs vs/\h.DictOf (k6 P w) a vs:=V4 ok (.inl e)
theorem R9{ks:List Key}(ok:fH P w H h)(e:H a=some (.tup (ks.map kV))):(tupleKind (k6 P w)).is h ks a:=by
 obtain⟨_,aO,r,o,h1,h2,⟨n,h3⟩,_⟩:=(show k8 P w H h a (.tup (ks.map kV)) from ok a _ e)
 exact⟨o,aO.toArray,n,h1,h2,h3,by simpa using DE r⟩
theorem qm(ok:fH P w H h)(e:Rd H a (.dT kvs)):kvs.length<=sizeLine/\(a==sysModules)=false /\
  ∃xs,KT H kvs xs/\h.DictOfH (tupleKind (k6 P w)) a xs:=by
 obtain⟨z,y,xs,r,o,es,ep,h1,h2,h3,h4,h5⟩:=(show k8 P w H h a (.dT kvs) from EI ok e)
 refine⟨z,y,xs,r,o,es,ep,h1,h2,h3,h4,λx hx=>?_,h5⟩;have all:∀{l:List (List Key×V)} {m:List (List Key×Addr×Value)},KT H l m->∀x∈m,(tupleKind (k6 P w)).is h x.1 x.2.1:=by
  intro l m q
  induction q with
  |nil=>intro x hx;exact nomatch hx
  |@cons p q ps qs hq t ih =>
   intro x hx;rcases aD.mp hx with e|hx
   ·subst e;exact R9 ok (by rw[<- hq.1];exact hq.2.1)
   ·exact ih x hx
 exact all r x hx
theorem Ko(ok:fH P w H h)(e:H a=some (.dT kvs)):kvs.length<=sizeLine/\(a==sysModules)=false /\
  ∃xs,KT H kvs xs/\h.DictOfH (tupleKind (k6 P w)) a xs:=qm ok (.inl e)
end
def M5(H:Hp)(a:Addr)(y:V)(r:Option V):Prop :=
 (∃kvs k,Rd H a (.dK kvs)/\y=kV k/\r=F8 kvs k)\/∃kvs k b,Rd H a (.dT kvs)/\y=.ref b/\H b=some (.tup (k.map kV))/\r=F8 kvs k
def vh(H:Hp)(a:Addr)(y v:V)(H':Hp):Prop :=
 (∃kvs k,H a=some (.dK kvs)/\y=kV k/\kvs.length<sizeLine/\H'=upd H a (.dK (putK kvs k v))) \/
 ∃kvs k b,H a=some (.dT kvs)/\y=.ref b/\H b=some (.tup (k.map kV))/\kvs.length<sizeLine/\H'=upd H a (.dT (putK kvs k v))
theorem M5.k{H:Hp}{a:Addr}{kvs:List (Key×V)}{k:Key}(e:H a=some (.dK kvs)):M5 H a (kV k) (F8 kvs k):=.inl ⟨kvs,k,.inl e,rfl,rfl⟩
theorem vh.k{H:Hp}{a:Addr}{kvs:List (Key×V)}{k:Key}{v:V}(e:H a=some (.dK kvs))(hl:kvs.length<sizeLine):vh H a (kV k) v (upd H a (.dK (putK kvs k v))):=.inl ⟨kvs,k,e,rfl,hl,rfl⟩
section
variable{v:V}{r:Value}
theorem Inv.big(I:Inv X pins Z H s):sysModules<s.heap.objs.size:=by
 have h:mainGlobals<s.heap.objs.size:=(I.mod.glob.keeps I.bk).lt;exact bW (by decide) h
theorem Rp{Q:Value->Shared->Prop}(hu:A.units+1<cLine)(I:Inv X pins Z H s)(g:M5 H a y (some v))(ry:RelV y u)(h:∀w' s',Inv X pins Z H s'->RelV v w'->Q w' s') :
  wpAny (model X.prog X.w) A (getItem (.ref a) u) Q E s:=by
 rcases g with⟨kvs,k,e,ey,l⟩|⟨kvs,k,b,e,ey,eb,l⟩
 ·subst ey;obtain⟨z,hd,vs,rel,dd⟩:=V4 I.bD e;obtain⟨w',hw,fg⟩:=E2.some_of (v:=v) (o:=valueAt vs k) (by rw[l];exact rel.val k);exact wpAny_getItem_of (U9 ry) dd.mapOf hw (h w' _ (I.tok _) fg)
 ·subst ey;cases (show u=Value.ref b from ry);obtain⟨z,hd,xs,rel,dd⟩:=qm I.bD e;obtain⟨w',hw,fg⟩:=E2.some_of (v:=v) (o:=(atKey xs k).map (·.2)) (by rw[l];exact rel.val k);obtain⟨p,hp,rS⟩:=ae.mp hw;refine wpAny_getItem_heap (eQ hu) (R9 I.bD eb) dd hp ?_;rw[rS];exact h w' _ (I.tok _) fg
theorem IS{Q:Value->Shared->Prop}(hu:A.units+1<cLine)(I:Inv X pins Z H s)(g:M5 H a y o)(ry:RelV y u)(h:∀s',Inv X pins Z H s'->Q (.bool o.isSome) s') :
  wpAny (model X.prog X.w) A (compareOp .In u (.ref a)) Q E s:=by
 rcases g with⟨kvs,k,e,ey,l⟩|⟨kvs,k,b,e,ey,eb,l⟩
 ·subst ey;obtain⟨z,hd,vs,rel,dd⟩:=V4 I.bD e;refine wpAny_in_of (U9 ry) hd dd.mapOf ?_;rw[<- (rel.val k).M1,<- l];exact h _ (I.tok _)
 ·subst ey;cases (show u=Value.ref b from ry);obtain⟨z,hd,xs,rel,dd⟩:=qm I.bD e;refine wpAny_in_heap (eQ hu) (R9 I.bD eb) hd dd ?_;have q:=(rel.val k).M1;rw[fP] at q;rw[<- q,<- l];exact h _ (I.tok _)
theorem Ul{Q:Value->Shared->Prop}(hu:A.units+1<cLine)(I:Inv X pins Z H s)(g:M5 H a y o)(ry:RelV y u)(h:∀s',Inv X pins Z H s'->Q (.bool (!o.isSome)) s') :
  wpAny (model X.prog X.w) A (compareOp .NotIn u (.ref a)) Q E s:=by
 rcases g with⟨kvs,k,e,ey,l⟩|⟨kvs,k,b,e,ey,eb,l⟩
 ·subst ey;obtain⟨z,hd,vs,rel,dd⟩:=V4 I.bD e;refine wpAny_notIn_of (U9 ry) hd dd.mapOf ?_;rw[<- (rel.val k).M1,<- l];exact h _ (I.tok _)
 ·subst ey;cases (show u=Value.ref b from ry);obtain⟨z,hd,xs,rel,dd⟩:=qm I.bD e;refine wpAny_notIn_heap (eQ hu) (R9 I.bD eb) hd dd ?_;have q:=(rel.val k).M1;rw[fP] at q;rw[<- q,<- l];exact h _ (I.tok _)
theorem yM{h':Heap}{t':Nat}{ob:HO}(I:Inv X pins Z H s)(mu:tG (H a))(hs:Heap.SameBut a s.heap h')(he:∃q,h'.get? a=some q)(new:k8 X.prog X.w (upd H a ob) h' a ob) :
  Inv X pins Z (upd H a ob) { s with heap:=h',toks:=t' } :=
 I.write (x:=a) (e:=a) mu (.inl rfl) (λb q hb z=>(hs.2 b hb).trans z) he new
theorem EZ{h':Heap}{kvs:List (Key×V)}{vs:List (Key×Value)}(z:kvs.length<=sizeLine)(hd:(a==sysModules)=false)(rel:KV kvs vs)(dd:h'.DictOf (k6 P w) a vs) :
  k8 P w H' h' a (.dK kvs):=⟨z,hd,vs,rel,dd⟩
theorem Rq{Q:Unit->Shared->Prop}(hu:A.units+1<cLine)(I:Inv X pins Z H s)(g:vh H a y v H')(ry:RelV y u)(rv:RelV v r)(h:∀s',Inv X pins Z H' s'->Q () s') :
  wpAny (model X.prog X.w) A (setItem (.ref a) u r) Q E s:=by
 rcases g with⟨kvs,k,e,ey,l,eH⟩|⟨kvs,k,b,e,ey,eb,l,eH⟩
 ·subst ey eH;obtain⟨z,hd,vs,rel,dd⟩:=uK I.bD e;have hz:vs.length<=sizeLine:=by rw[<- rel.length];exact z
  have hl:(putK kvs k v).length<=sizeLine:=by have:=Q6 kvs k v;omega
  refine wpAny_setItem_pairs (hsz:=hz) (U9 ry) dd λh' oY hs=>h _ ?_;have he:∃q,h'.get? a=some q:=let ⟨q,_,_,hq,_⟩:=oY;⟨q,hq⟩
  exact yM I (by rw[e];exact True.intro) hs he (EZ hl hd (rel.put k rv) oY)
 ·subst ey eH;cases (show u=Value.ref b from ry);obtain⟨z,hd,xs,rel,dd⟩:=Ko I.bD e;have hz:xs.length<=sizeLine:=by rw[<- kl rel];exact z
  have hl:(putK kvs k v).length<=sizeLine:=by have:=Q6 kvs k v;omega
  refine wpAny_setItem_heap (hsz:=hz) (eQ hu) (R9 I.bD eb) dd λh' oY hs=>h _ ?_;obtain⟨q,es,ep,hq,h2,h3,h4,_,h5⟩:=oY;refine yM I (by rw[e];exact True.intro) hs ⟨q,hq⟩ ⟨hl,hd,_,(rel.put k eb rv).keeps λc ys ec=>?_,q,es,ep,hq,h2,h3,h4,h5⟩;rw[d8 (KR ec e (λz=>nomatch z))];exact ec
end
section
variable{kvs:List (Key×V)}
theorem Kk{Q:Value->Shared->Prop}(I:Inv X pins Z H s)(e:Rd H a (.dK kvs))(h:∀t s',Inv X pins Z H s'->Q (.int kvs.length t) s'):wpAny (model X.prog X.w) A (call (.builtin "len") [.ref a]) Q E s:=by
 obtain⟨z,hd,vs,rel,dd⟩:=V4 I.bD e;refine call_len_dict hd dd (by rw[<- rel.length];rw[jE] at z;omega) ?_;rw[<- rel.length];exact h _ _ (I.tok _)
end
theorem NJ(I:Inv X pins Z H s)(g:M5 H a y o):s.TypeIs (.ref a) "dict":=by
 rcases g with⟨kvs,k,e,_,_⟩|⟨kvs,k,b,e,_,_,_⟩
 ·obtain⟨_,_,vs,_,dd⟩:=V4 I.bD e;exact dd.typeIs
 ·obtain⟨_,_,xs,_,dd⟩:=qm I.bD e;exact dd.typeIs
theorem Dd(h:Heap)(hb:sysModules<h.objs.size):k8 P w H (h.push { cls:=.type "dict",data:=.dict #[] }) h.objs.size (.dK []) :=
 ⟨bY _,cW.mpr (bU (aF hb)),[],.nil,Heap.DictOf.new h⟩
def TL:TE:=λ_ H Q=>∀p,H p=none->Q (.ref p) (upd H p (.dK []))
theorem Ql:PE X (.Dict [] [] pos) TL:=λpins s Z H Q I h =>
 wpAny_Dict_empty ⟨.ref s.heap.objs.size,_,I.laid (a:=s.heap.objs.size) (o:=.dK []) (t':=s.toks) (λ_ _ q=>af _ q) (aj _) (Dd s.heap I.big),rfl,h _ (I.bD.fresh (aj _))⟩
def uV:List (TE×TE)->St->Hp->(List (V×V)->Hp->Prop)->Prop
 |[],_,H,Q=>Q [] H
 |(tk,tv)::r,Z,H,Q=>tk Z H λx H1=>tv Z H1 λy H2=>uV r Z H2 λps H3=>Q ((x,y)::ps) H3
noncomputable abbrev VV:List (V×V)->List (Value×Value)->Prop:=Paired λp q=>RelV p.1 q.1/\RelV p.2 q.2
def tE(X:Cx)(pos:Pos)(keys:List (Option Expr))(values:List Expr)(gA:List (TE×TE)):Prop :=
 ∀(pins:List (Addr×Obj)) (s:Shared) (Z:St) (H:Hp) (Q:List (V×V)->Hp->Prop),Inv X pins Z H s->uV gA Z H Q ->
  wpAny (model X.prog X.w) X.A (evalPairs (pairTrees keys values X.env pos)) (λvs s'=>∃ps H',Inv X pins Z H' s'/\VV ps vs/\Q ps H') X.xe s
theorem OK:tE X pos [] [] []:=λpins s Z H Q I h=>pairTrees_nil_walk ⟨[],H,I,.nil,h⟩
theorem Qs{k v:Expr}{ks:List (Option Expr)}{vs:List Expr}{tk tv:TE}{gA:List (TE×TE)}(hk:PE X k tk)(hv:PE X v tv)(hr:tE X pos ks vs gA) :
  tE X pos (some k::ks) (v::vs) ((tk,tv)::gA):=λpins s Z H Q I h =>
 pairTrees_cons_walk (cC (hk pins s Z H _ I h) λu s1 ⟨x,H1,I1,rx,q1⟩=>cC (hv pins s1 Z H1 _ I1 q1) λw2 s2 ⟨y,H2,I2,ry,q2⟩ =>
  cC (hr pins s2 Z H2 _ I2 q2) λws s3 ⟨ps,H3,I3,rel,q3⟩=>⟨(x,y) :: ps,H3,I3,.cons ⟨rx,ry⟩ rel,q3⟩)
def O5(kvs more:List (Key×V)):List (Key×V):=more.foldl (λacc kv=>putK acc kv.1 kv.2) kvs
theorem KV.merge:∀{more:List (Key×V)} {rs:List (Key×Value)} {kvs:List (Key×V)} {vs:List (Key×Value)},KV more rs->KV kvs vs->KV (O5 kvs more) (merged vs rs):=by
 intro more rs kvs vs r;unfold KV at r
 induction r generalizing kvs vs with
 |nil=>intro q;exact q
 |@cons p q ps qs h t ih =>
  intro r0;have e:KV (putK kvs p.1 p.2) (stored vs q.1 q.2):=by
   have:=r0.put p.1 h.2;rw[<- h.1];exact this
  exact ih e
theorem W3:∀(more kvs:List (Key×V)),(O5 kvs more).length<=kvs.length+more.length
 |[],kvs=>by show kvs.length<=kvs.length+0;omega
 |p::r,kvs=>by
  have h1:=W3 r (putK kvs p.1 p.2);have h2:=Q6 kvs p.1 p.2;show(O5 (putK kvs p.1 p.2) r).length<=_;rw[cY];omega
theorem DQ{P:Program}{w:World}:∀{kvs:List (Key×V)} {ws:List (Value×Value)},VV (kvs.map λkv=>(kV kv.1,kv.2)) ws->∃rs,Carries (k6 P w) ws rs/\KV kvs rs
 |[],_,r=>by rw[qw] at r;cases r;exact⟨[],True.intro,.nil⟩
 |p::kvs,_,r=>by
  rw[aV] at r;cases r with
  |@cons a b as bs h t =>
   obtain⟨rs,c,q⟩:=DQ (P:=P) (w:=w) t;obtain⟨b1,b2⟩:=b;exact⟨(p.1,b2)::rs,⟨U9 h.1,rfl,c⟩,.cons ⟨rfl,h.2⟩ q⟩
def Lx(gA:List (TE×TE)):TE:=λZ H Q=>∀p,H p=none->uV gA Z (upd H p (.dK [])) λps H2=>H2 p=some (.dK [])/\∃kvs:List (Key×V),ps=kvs.map (λkv=>(kV kv.1,kv.2))/\kvs.length<=15/\Q (.ref p) (upd H2 p (.dK (O5 [] kvs)))
theorem UW{keys:List (Option Expr)}{values:List Expr}{gA:List (TE×TE)}(h:tE X pos keys values gA)(oO:keys.all (·.isSome)=true)(hl:keys.length=values.length)(h0:keys≠[])(xu:keys.length<=15):PE X (.Dict keys values pos) (Lx gA):=by
 intro pins s Z H Q I q;have hn:=I.bD.fresh (aj s.heap.objs.size);have I1:=I.laid (a:=s.heap.objs.size) (o:=.dK []) (h':=s.heap.push { cls:=.type "dict",data:=.dict #[] }) (t':=s.toks) (λ_ _ q=>af _ q) (aj _) (Dd s.heap I.big);refine wpAny_Dict_walk (knd:=k6 X.prog X.w) oO hl h0 xu (cC (h pins _ Z _ _ I1 (q _ hn)) λws s2 bc=>?_);obtain⟨ps,H2,I2,rel,e,kvs,ep,lk,q2⟩:=bc;subst ep;obtain⟨rs,c,rk⟩:=DQ (P:=X.prog) (w:=X.w) rel;obtain⟨z,hd,Vk,r0,dd⟩:=uK I2.bD e;cases r0;refine⟨rs,c,dd,λh' oY hs=>⟨.ref s.heap.objs.size,_,?_,rfl,q2⟩⟩;have hz:(O5 [] kvs).length<=sizeLine:=by
  have h1:=W3 kvs [];rw[List.length_nil] at h1;rw[jE];omega
 have he:∃q,h'.get? s.heap.objs.size=some q:=let ⟨q,_,_,hq,_⟩:=oY;⟨q,hq⟩
 exact yM I2 (by rw[e];exact True.intro) hs he (EZ hz hd (rk.merge .nil) oY)
section
variable{d:V}{r:Value}
theorem Md{Q:Value->Shared->Prop}(hu:A.units+1<cLine)(I:Inv X pins Z H s)(g:M5 H a y o)(ry:RelV y u)(rd:RelV d r)(h:∀w' s',Inv X pins Z H s'->RelV (o.getD d) w'->Q w' s') :
  wpAny (model X.prog X.w) A (call (.builtin "dict.get") [.ref a,u,r]) Q E s:=by
 rcases g with⟨kvs,k,e,ey,l⟩|⟨kvs,k,b,e,ey,eb,l⟩
 ·subst ey;obtain⟨z,hd,vs,rel,dd⟩:=V4 I.bD e;refine call_meetsIn gW dd.typeIs qt (pH _ _ _) (meets_dict_get_default (k6 X.prog X.w) a (U9 ry) hd r) ⟨_,dd.mapOf,h _ _ (I.tok _) ?_⟩;rw[l];exact(rel.val k).getD rd
 ·subst ey;cases (show u=Value.ref b from ry);obtain⟨z,hd,xs,rel,dd⟩:=qm I.bD e;refine call_meetsIn gW dd.typeIs qt (pH _ _ _) (meetsH_dict_get_default (tupleKind (k6 X.prog X.w)) a b hd r) ⟨eQ hu,k,xs,R9 I.bD eb,dd,h _ _ (I.tok _) ?_⟩;rw[l];exact(rel.val k).getD rd
end
end L2
namespace FF
open PySem PySem.W PySem.Calls PyProof.Rows
theorem OC{P:Params}{h:Heap}:∀(ns:List Int) (vs:List Value),WellAll P h vs (ns.map WData.int)->IntsAre vs ns:=by
 intro ns
 induction ns with
 |nil =>
  intro vs w;rw[qw] at w;cases w;exact .nil
 |cons n ns ih =>
  intro vs w;rw[aV] at w;cases w with
  |cons a b =>
   cases a;exact .cons _ _ (ih _ b)
theorem Se{l:OpenLaw}{n:Nat}(hn:l.most=some n){P:Params}{h:Heap}{args:List WData}{vals:List Value}(mB:l.row.toRowW.claim.pre args=true)(wx:WellAll P h vals args) :
  ∃a vs ns,vals=[Value.ref a]/\args=[WData.list (ns.map WData.int)]/\h.get? a=some { cls:=.type "list",data:=.seq vs.toArray }/\IntsAre vs ns/\ns.length<=n:=by
 have iW:WShape.hasAll [] args [.list .int]=true:=(pre_splitW mB).1;have hc:l.pre.holds [] { args:=args }=true:=(pre_splitW mB).2;obtain⟨d,r,rfl,h1,h2⟩:=hasAllW_cons iW;obtain rfl:=hasAllW_nil h2;obtain⟨xs,rfl,h3⟩:=hasW_list h1;obtain⟨ns,rfl⟩:=items_int h3;have hlen:ns.length<=n:=by
  unfold OpenLaw.pre at hc;have h4:(WTm.not (.lt (.lit (.int (n:Int))) (.len (.arg 0)))).holds [] { args:=[.list (ns.map .int)] }=true:=by
   have h4:=(holds_andW hc).1;rw[hn] at h4;exact h4
  have h5:=condW_of h4 (w_not (w_lt w_lit (w_len_list (w_arg rfl))));rw[ak] at h5;refine cH λq=>?_;have q':(n:Int)<((ns.length:Nat):Int):=by omega
  first
   |(rw[aX q'] at h5;exact absurd h5 (by decide))
   |(simp at h5;omega)
 cases wx with
 |cons w1 w2 =>
  cases w2;cases w1 with
  |list ho oO=>exact⟨_,_,ns,rfl,rfl,ho,OC ns _ oO,hlen⟩
theorem Sa(l:OpenLaw)(args:List WData):l.row.toRowW.claim.post args (.bool true) args=true :=
 postW_of (r:=l.row.toRowW) (X:=(true==true))
  (show WShape.has [] (.bool true) .bool=true by first|rfl|decide|simp[WShape.has,WShape.arms,WShape.armsAll])
  (show(WTm.eq .res (.lit (.bool true))).value [] { args:=args,res:=some (.bool true),after:=args }=some (.bool (true==true)) from w_eq_bool (w_res rfl) w_lit) rfl
theorem NG{l:OpenLaw}{n:Nat}{q:Program}{loose:List Str}{XP:(Str->Option Value)->Heap->Prop}{YP:World->Heap->Prop}{d:DefRec}(hn:l.most=some n)(sf:d.params.defaults=[])(call:∀ (w:World) (cV bG:Shared) (mg mb:Str->Option Value) (fa:Addr) (o:Obj) (pm cd doc:Value) (a:Addr) (vs:List Value) (ns:List Int),
   Ground q loose [] XP w cV mg mb bG.heap->YP w bG.heap ->
   bG.heap.get? fa=some o->o.data=.func (docDef d.name d.params d.body d.scope pm cd doc)->bG.heap.CodeRec cd d.name->mg d.name=some (.ref fa) ->
   bG.heap.get? a=some { cls:=.type "list",data:=.seq vs.toArray }->IntsAre vs ns->ns.length<=n->bG.gens=#[] ->
   codeAny (model l.prog w) callerA (.call (.ref fa) ⟨[.ref a],[]⟩) (λr s'=>r=.ok (.ret (.bool true))/\OldK bG.heap s'.heap/\s'.os=bG.os/\AllBare s'.gens) bG) :
  WalkO q loose XP YP l.row.toRowW d [] (λf vs=>PySem.call f vs):=by
 intro w cV bG mg mb G Y fa o pm cd doc dV kV ho hd ke hD hmg hg args vals as mB GY VC wx uk;obtain rfl:dV=.none:=Dflts.none hD sf;obtain rfl:kV=.none:=Dflts.noKw hD;obtain⟨a,vs,ns,rfl,rfl,ig,hints,hlen⟩:=Se hn mB wx;refine enter_call (fS (call w cV bG mg mb fa o pm cd doc a vs ns G Y ho (fd_plain hd) ke hmg ig hints hlen hg) λr s' hq=>?_);obtain⟨rfl,h2,h3,h4⟩:=hq;exact⟨.inl ⟨.bool true,.bool true,[],rfl,λ_=>rfl,.bool true,Sa l _,λ_=>⟨List.Pairwise.nil,λ_ hm=>(nomatch hm)⟩⟩,h2,h3,h4⟩
end FF
namespace L2
open PySem PySem.Spec PyProof.Rows
variable{w:World}{x qual:Str}{X:Cx}{A:Around}{s:Shared}{elt iter tg:Expr}{ifs:List Expr}{scope:Scope}{pos:Pos}{cl:List (Str×Addr)}{C:Addr}{N':List Str}{c8:List Nat}{fp:List Addr}{g:TG}{tc:TT}{te:TE}
theorem DM:∀{vs:List Value} {ns:List Int},IntsAre vs ns->Vals (ns.map V.int) vs
 |_,_,.nil=>.nil
 |_,_,.cons n t h=>.cons ⟨t,rfl⟩ (DM h)
def vi(H:Hp):Prop:=∀b,H b=none\/∃o xs,H b=some (.iZ o (.lst xs))
theorem Qa{P:Program}{K:PySem.W.Frag}{mg mb:Str->Option Value}{CX:lE}{k:Nat}{fa a:Addr}{fd:FuncData}{sp:Sp}{bG:Shared}{vs:List Value}{ns:List Int}(KX:K.In bG.heap)(oE:bG.heap.Ns mainGlobals mg)(hb:bG.heap.Ns builtinsNs mb)(wY:∀x:Str,x≠"__name__"->mb x=bootBuiltins x)(wM:bG.heap.NoLimit)(hg:bG.gens=#[])(ha:bG.heap.get? a=some { cls:=.type "list",data:=.seq vs.toArray })(hi:IntsAre vs ns)(hl:ns.length<=sizeLine)(hr:q8 k callerA)(F:∀base:Heap,K.In base->base.Ns mainGlobals mg->gy P w K mg base CX k fa fd [x] sp)(sm:∀(s:Shared) (u:Value),BindsTo s fd ⟨[u],[]⟩ [(x,u)])(pT:∀H:Hp,vi H->fe K H a (ns.map V.int)->sp [.ref a] H (λv _=>v=.bl true) λ_ _ _=>False)(xj:∀H e s',CX [] H bG (λ_ _ _=>False) e s'->False) :
  codeAny (model P w) callerA (.call (.ref fa) ⟨[.ref a],[]⟩) (λr s'=>r=.ok (.ret (.bool true))/\OldK bG.heap s'.heap/\s'.os=bG.os/\AllBare s'.gens) bG:=by
 have rv:=DM hi;have wa:=hi.length;have core:∀H:Hp,vi H->fe K H a (ns.map V.int)->fH P w H bG.heap->(∀b,H b≠none->b=a)->(H a≠none->K.lookup a=none) ->
   codeAny (model P w) callerA (.call (.ref fa) ⟨[.ref a],[]⟩) (λr s'=>r=.ok (.ret (.bool true))/\OldK bG.heap s'.heap/\s'.os=bG.os/\AllBare s'.gens) bG:=by
  intro H hO hS bD hA hK;have O0:∀{b:Addr} {o:Obj},bG.heap.get? b=some o->H b=none->(V2 bG.heap H).get? b=some o:=λe n=>PV e n;have rg:∀{b:Addr} {o:Obj} {es:Array DictEntry} {ep:Nat},bG.heap.get? b=some o->o.data=.dict es ep->H b=none:=λ{b o es ep} e d=>by
   cases q:H b with
   |none=>rfl
   |some u =>
    have e':b=a:=hA b (by rw[q];simp);subst e';rw[ha] at e;cases e;have d':Data.seq vs.toArray _=Data.dict es ep:=d;cases d'
  have ua:∀{b:Addr} {m:Str->Option Value},bG.heap.Ns b m->(V2 bG.heap H).Ns b m:=λ{b m} ⟨o,es,ep,e,d,r⟩=>⟨o,es,ep,O0 e (rg e d),d,r⟩
  have BB:K.In (V2 bG.heap H):=λb o e=>O0 (KX b o e) (by
   cases q:H b with
   |none=>rfl
   |some u =>
    have e':b=a:=hA b (by rw[q];simp);subst e';rw [hK (by rw [q];simp)] at e;cases e)
  have hM:Mod K mg (V2 bG.heap H):=⟨BB,ua oE,⟨mb,ua hb,wY⟩,let ⟨mc,h1,h2⟩:=wM;⟨mc,ua h1,h2⟩⟩
  have e0:ph P w K mg (V2 bG.heap H) callerA [] bG H:=⟨rfl,hM,λb o e=>UI e,jF (Rw _ _),trivial,λb hb=>absurd (show b∈([]:List Addr) from hb) (by simp),bD,.of_eq hg⟩
  refine fS ((F _ BB (ua oE)).run callerA [] bG H ⟨[.ref a],[]⟩ [.ref a] [.ref a] _ _ hr e0 (sm bG (.ref a)) (.cons rfl .nil) (pT H hO hS)) λr s' h=>?_;cases r with
  |error e=>exact(xj H e s' h).elim
  |ok fl =>
   cases fl with
   |next=>exact False.elim h
   |brk=>exact False.elim h
   |cont=>exact False.elim h
   |ret u =>
    obtain⟨v,H',os,bare,un,wG,r',q⟩:=h;have q':v=.bl true:=q;subst q';obtain rfl:u=Value.bool true:=r';refine⟨rfl,OldK.of_keep λb o e=>?_,os,bare⟩;cases q:H b with
    |none=>exact un.keep b o e q (by intro z;exact absurd (show b∈([]:List Addr) from z) (by simp)) (by simp)
    |some u =>
     rcases hO b with z|⟨ob,xs,z⟩
     ·rw[q] at z;cases z
     ·have z2:=un.gL b ob _ z;obtain⟨e1,_⟩:=bD b _ z;obtain⟨e2,_⟩:=wG b _ z2;rw[e] at e1;cases e1;exact e2
 cases hk:K.lookup a with
 |some o =>
  have e:=KX a o hk;rw[ha] at e;cases e;refine core (λ_=>none) (λ_=>.inl rfl) (.inr ⟨_,vs.toArray,_,hk,rfl,rfl,rfl,by rw[aB,wa];exact hl,by simpa using rv⟩) (λb u z=>by have z':(none:Option HO)=some u:=z;cases z') (λb z=>absurd rfl z) λz=>absurd rfl z
 |none =>
  refine core (λb=>if b=a then some (.iZ { cls:=.type "list",data:=.seq vs.toArray } (.lst (ns.map V.int))) else none) (λb=>?_) (.inl (.inr ⟨{ cls:=.type "list",data:=.seq vs.toArray },aN rfl⟩)) (λb u z=>?_) (λb z=>?_) λ_=>hk
  ·by_cases hb:b=a
   ·exact .inr ⟨_,_,aN hb⟩
   ·exact .inl (aH hb)
  ·by_cases hb:b=a
   ·have z':=(aN hb).symm.trans z;cases z';subst hb;exact⟨ha,by rw[ak];exact hl,vs,_,rv,ha⟩
   ·have z':=(aH hb).symm.trans z;cases z'
  ·by_cases hb:b=a
   ·exact hb
   ·exact absurd (aH hb) z
theorem Pw{l:PySem.W.OpenLaw}{n k:Nat}{q:Program}{loose:List Str}{XP:(Str->Option Value)->Heap->Prop}{YP:World->Heap->Prop}{d:DefRec}{K:Params->PySem.W.Frag}{CX:World->lE}{sp:World->Sp}(hn:l.most=some n)(nj:n<=sizeLine)(sf:d.params.defaults=[])(hr:q8 k callerA)(hY:∀(w:World) (h:Heap),YP w h->(K w.params).In h)(F:∀ (w:World) (mg:Str->Option Value) (fa:Addr) (h:Heap),(K w.params).In h->h.Ns mainGlobals mg->mg d.name=some (.ref fa) ->
   ∃fd:FuncData,(∀(s:Shared) (u:Value),BindsTo s fd ⟨[u],[]⟩ [(x,u)]) /\
    ∀ base:Heap,(K w.params).In base->base.Ns mainGlobals mg->gy l.prog w (K w.params) mg base (CX w) k fa fd [x] (sp w))(pT:∀(w:World) (H:Hp) (a:Addr) (ns:List Int),ns.length<=n->vi H->fe (K w.params) H a (ns.map V.int)->sp w [.ref a] H (λv _=>v=.bl true) λ_ _ _=>False)(xj:∀(w:World) (H:Hp) (s:Shared) (e:Value) (s':Shared),CX w [] H s (λ_ _ _=>False) e s'->False) :
  PySem.W.WalkO q loose XP YP l.row.toRowW d [] (λf vs=>PySem.call f vs):=by
 refine FF.NG hn sf λw cV bG mg mb fa o pm cd doc a vs ns G Y ho hd ke hmg ig hints hlen hg=>?_;have KX:=hY w _ Y;obtain⟨fd,hb,hF⟩:=F w mg fa _ KX G.T.g hmg;exact Qa KX G.T.g G.T.b G.T.builtins G.T.nolimit hg ig hints (aG hlen nj) hr hF hb (λH hO hS=>pT w H a ns hlen hO hS) λH e s'=>xj w H bG e s'
def C7(s:Stmt):Arguments:=match s with
 |.FunctionDef _ a _ _ _ _ _ _ _ _=>a
 |_=>{ posonlyargs:=[],args:=[],vararg:=none,kwonlyargs:=[],kw_defaults:=[],kwarg:=none,defaults:=[] }
def p9(s:Stmt):List Stmt:=match s with
 |.FunctionDef _ _ b _ _ _ _ _ _ _=>b
 |_=>[]
def o6(s:Stmt):Scope:=match s with
 |.FunctionDef _ _ _ _ _ _ sc _ _ _=>sc
 |_=>{ kind:=.function,names:=[],isGenerator:=false,isCoroutine:=false }
structure nM(K:PySem.W.Frag)(x qual:Str)(st:Stmt)(f:Addr)(fd:FuncData):Prop where
 ex:∃(oc:Value) (od:Option Addr) (kV doc pm:Value) (an:Option Addr) (fx ct:Value) (kO:Array (Option Value)),
  fd=PySem.W.fnOf x qual (C7 st) (p9 st) (o6 st) .none kV doc pm an fx ct/\K.lookup f=some ⟨oc,od,.func fd,kO⟩/\PySem.W.codeIn K fx qual=true
 kp:PySem.W.keepIn K (.ref f)=true
section
variable{K:PySem.W.Frag}
theorem nM.binds{st:Stmt}{f:Addr}{fd:FuncData}{ps:List Str}(F:nM K x qual st f fd)(h:∀(kV doc pm:Value) (an:Option Addr) (fx ct:Value) (us:List Value),us.length=ps.length->bindArgs (PySem.W.fnOf x qual (C7 st) (p9 st) (o6 st) .none kV doc pm an fx ct) ⟨us,[]⟩=pure (ps.zip us)):Binds K fd ps []:=by
 obtain⟨oc,od,kV,doc,pm,an,fx,ct,kO,rfl,lk,ke⟩:=F.ex;exact .all (h kV doc pm an fx ct)
theorem Mh{st:Stmt}{f:Addr}{oc:Value}{od an:Option Addr}{kO:Array (Option Value)}{kV doc pm fx ct:Value}(l:K.lookup f=some ⟨oc,od,.func (PySem.W.fnOf x qual (C7 st) (p9 st) (o6 st) .none kV doc pm an fx ct),kO⟩)(c:PySem.W.codeIn K fx qual=true)(k:PySem.W.keepIn K (.ref f)=true):nM K x qual st f (PySem.W.fnOf x qual (C7 st) (p9 st) (o6 st) .none kV doc pm an fx ct):=⟨⟨oc,od,kV,doc,pm,an,fx,ct,kO,rfl,l,c⟩,k⟩
end
theorem Rg:i8 X (.builtin "len") (λxs H Q=>∃a kvs,xs=[V.ref a]/\H a=some (.dK kvs)/\Q (.int kvs.length) H):=by
 intro pins s Z H xs us Q I r h;obtain⟨a,kvs,rfl,ha,q⟩:=h;obtain⟨u,rfl,ru⟩:=vals1 r;cases ru;exact Kk I (.inl ha) λt s' I'=>⟨.int kvs.length,H,I',⟨t,rfl⟩,q⟩
section
variable{prog:Program}{R:Result->Shared->Prop}
theorem NY{target:Expr}{it acc:Value}{env:Env}(I:Nat->Shared->Prop)(turn:∀ n s,I n s->wpAny (model prog w) A (pyNext it) (λr bG=>match r with
   |none=>R (.ok .next) bG
   | some v=>wpAny (model prog w) A (letOwnedTupleGo target it v) (λ_ bG=>wpAny (model prog w) A (assign target env v) (λ_ fW =>
     wpAny (model prog w) A (forIn ifs true λc r=>if r=true then do let ok <- isTrue c env (eval c env);pure (ForInStep.yield ok) else pure (ForInStep.yield r)) (λok fb =>
      if ok=true then wpAny (model prog w) A (eval elt env) (λx iS =>
       wpAny (model prog w) A (call (.builtin "list.append") [acc,x]) (λ_ kJ=>∃ m,m < n/\I m kJ) (λ_ _=>False) iS) (notedBy (model prog w) A env λe s'=>R (.error e) s') fb
      else ∃ m,m < n/\I m fb) (λ_ _=>False) fW) (λ_ _=>False) bG) (λ_ _=>False) bG) (λ_ _=>False) s)(n:Nat)(h:I n s) :
  codeAny (model prog w) A (.compLoop (.ListComp elt [⟨target,iter,ifs,0⟩] scope pos) 0 it acc env) R s:=by
 refine codeAny_loop rfl I (λn s hI=>?_) n h;show wpAny _ A ((compTurn (.ListComp elt [⟨target,iter,ifs,0⟩] scope pos) 0 it acc env).onRaise (λx=>do noteFrame x env;theTreesLotGoes x)) _ _ s;refine wpAny_noted ?_;rw[compTurn_list];refine aa (eI (aa (br (turn n s hI) (λr bG dj=>?_) λ_ _ h'=>h'.elim)));cases r with
 |none=>exact ag dj
 |some v =>
  refine aa (br dj (λ_ bG dj=>?_) λ_ _ h'=>h'.elim);refine aa (br dj (λ_ fW ie=>aa (br ie (λok fb kU=>?_) λ_ _ h'=>h'.elim)) λ_ _ h'=>h'.elim);cases ok with
  |false=>exact wpAny_pure ⟨rfl,kU⟩
  |true =>
   exact aa (aa (br kU (λx iS oA=>aa (br oA (λ_ kJ oz=>ag (ag ⟨rfl,oz⟩)) λ_ _ h'=>h'.elim)) λ_ _ h'=>h'))
end
def jW(X:Cx)(es:List Expr)(t:TT):Prop :=
 ∀(pins:List (Addr×Obj)) (s:Shared) (Z:St) (H:Hp) (Q:Bool->Hp->Prop),Inv X pins Z H s->t Z H Q ->
  wpAny (model X.prog X.w) X.A (forIn es true λc r=>if r=true then do let ok <- isTrue c X.env (eval c X.env);pure (ForInStep.yield ok) else pure (ForInStep.yield r)) (TP X pins Z Q) X.xe s
def JU:TT:=λ_ H Q=>Q true H
theorem OP:jW X [] JU:=λpins s Z H Q I h=>ag ⟨H,I,h⟩
theorem OQ{c:Expr}{t:TT}(h:PT X c t):jW X [c] t:=by
 intro pins s Z H Q I q;simp only[List.forIn_cons,List.forIn_nil,if_true];exact aa (aa (br (h pins s Z H Q I q) (λb s' hb=>ag (ag hb)) λ_ _ x=>x))
def F0(scope:Scope)(cl:List (Str×Addr))(C:Addr):List (Str×Addr):=cellsFrom (C+1) scope.names []++cl
theorem C1:∀(names:List (Str×NameKind)) (n:Nat) (acc:List (Str×Addr)),cellsFrom n names acc=cellsFrom n names []++acc
 |[],_,_=>rfl
 |(y,k)::r,n,acc=>by
  unfold cellsFrom;split
  ·rw[C1 r (n+1) ((y,n)::acc),C1 r (n+1) [(y,n)],bN]
   rfl
  ·exact C1 r n acc
theorem P0{x:Str}{c:Addr}:∀{names:List (Str×NameKind)} {n:Nat},(x,c)∈cellsFrom n names []->(x,NameKind.cell)∈names
 |[],_,h=>by simp[cellsFrom] at h
 |(y,k)::r,n,h=>by
  unfold cellsFrom at h;split at h
  ·rename_i hk;rw[C1] at h;rcases aS.mp h with z|z
   ·exact bB _ (P0 z)
   ·cases bg.mp z;rw[show k=NameKind.cell from by simpa using hk];exact fB
  ·exact bB _ (P0 h)
theorem E6{α:Type}{x:Str}:∀{a b:List (Str×α)},(a++b).lookup x=(a.lookup x).or (b.lookup x)
 |[],_=>rfl
 |(y,v)::r,b=>by
  rw[List.cons_append,cq,cq];cases x==y
  ·exact E6
  ·rfl
theorem DB(h:scope.names.lookup x=some .cell\/∃c,cl.lookup x=some c):∃c,(F0 scope cl C).lookup x=some c:=by
 unfold F0;rw[E6];cases e:(cellsFrom (C+1) scope.names []).lookup x with
 |some c=>exact⟨c,rfl⟩
 |none =>
  rcases h with h|h
  ·have q:=dc scope.names (C+1) [] (.inl h);rw[e] at q;cases q
  ·exact h
theorem J9{env:Env}:∀{names:List (Str×NameKind)} {x:Str},names.lookup x=some .cell ->
  (names.map λ(n,k)=>if(k==NameKind.free&&env.scope.kind==.function&&env.kindOf n==some .cell) then(n,NameKind.cell) else(n,k)).lookup x=some .cell
 |[],_,h=>by simp at h
 |(n,k)::r,x,h=>by
  have ih:=@J9 env r x;show List.lookup x ((if(k==NameKind.free&&env.scope.kind==.function&&env.kindOf n==some .cell)=true then(n,NameKind.cell) else(n,k))::_)=_;cases hx:x==n with
  |true =>
   simp only[List.lookup_cons,hx] at h;cases h;simp[List.lookup_cons,hx]
  |false =>
   simp only[List.lookup_cons,hx] at h;by_cases hc:(k==NameKind.free&&env.scope.kind==.function&&env.kindOf n==some .cell)=true
   ·rw[aN hc];simp only[List.lookup_cons,hx];exact ih h
   ·rw[aH hc];simp only[List.lookup_cons,hx];exact ih h
theorem V6{h:Heap}(ck:CellsOk h (C+1) (cellsFrom (C+1) scope.names [])){c:Addr}(e:(F0 scope cl C).lookup x=some c):C<c\/cl.lookup x=some c:=by
 unfold F0 at e;rw[E6] at e;cases e2:(cellsFrom (C+1) scope.names []).lookup x with
 |some c' =>
  rw[e2] at e;cases e;exact .inl (ck.empty x c (aI e2)).2
 |none =>
  rw[e2] at e;exact .inr e
theorem W0{M:Model}{E:Value->Shared->Prop}{globals:Addr}{outer:Env}{Q:Env->Shared->Prop}(hQ:∀ dj:Heap,dj.Ns s.heap.objs.size (λ_=>none)->(∀ b o,s.heap.get? b=some o->dj.get? b=some o)->CellsOk dj (s.heap.objs.size + 1) (cellsFrom (s.heap.objs.size + 1) scope.names []) ->
   Q (newEnv scope s.heap.objs.size globals (F0 scope cl s.heap.objs.size) qual none .none (some outer) builtinsNs) { s with heap:=dj }) :
  wpAny M A (newFunctionEnv scope globals cl [] qual none .none (some outer)) Q E s:=by
 simp only[newFunctionEnv,Option.isSome_some,if_true];refine aa (wpAny_alloc ?_);refine aa (wpAny_layCells _ (λname kind cells=>by cases Ha:kind==NameKind.cell<;>simp[Ha]) _ _ _ _ ?_);have ok:=cellsFrom_ok scope.names (s.heap.push { cls:=.type "dict",data:=.dict #[] }) (s.heap.objs.size+1) [] ⟨λ_ _ hm=>(nomatch hm),List.Pairwise.nil⟩ (by rw[dk];exact aj _);rw[dk] at ok;rw[show({ s with heap:=s.heap.push { cls:=.type "dict",data:=.dict #[] } }:Shared).heap.objs.size=s.heap.objs.size+1 from dk ..];rw[List.forIn_nil];refine aa (ag (ag ?_));rw[C1];exact hQ _ ((Heap.Ns.new s.heap (.type "dict")).keeps (pushCells_keeps _ _)) (λb o e=>pushCells_keeps _ _ b o (af _ e)) ok
def d4(X:Cx)(pins:List (Addr×Obj))(scope:Scope)(N':List Str)(cl:List (Str×Addr))(C:Addr)(s:Shared)(H:Hp)(fp:List Addr):Cx where
 prog:=X.prog
 w:=X.w
 K:=X.K
 mg:=X.mg
 base:=X.base
 A:=X.A
 N:=N'
 cV:=s
 iF:=H
 env:=compEnvC scope (F0 scope cl C) C X.env
 outer:=X.stack
 stack:=X.stack
 ex:=fp
 calm:=true
 fn:=λx=>decide (scope.names.lookup x=some .cell)
 pn:=X.pn++pins
 xe:=λ_ _=>False
structure cZ(X:Cx)(scope:Scope)(N':List Str)(c8:List Nat)(cl:List (Str×Addr)):Prop where
 kind:scope.kind=.function
 cells:∀y∈scope.names,y.2=.cell->scope.names.lookup y.1=some .cell
 names:∀y∈scope.names,y.2=.local->scope.names.lookup y.1=some .local
 pb:closureFor scope X.env=pure cl
 cin:∀x c,cl.lookup x=some c->X.env.cells.lookup x=some c
 sT:∀x,scope.names.lookup x=some .free->∃c,cl.lookup x=some c
 nd:N'.Nodup
 Iz:∀(i j:Nat),c8[i]?=some j->∃x,N'[i]?=some x/\X.N[j]?=some x/\scope.names.lookup x=some .free/\(X.env.kindOf x=some .cell\/X.env.kindOf x=some .free)
 xR:c8.length<=N'.length
theorem C8{env:Env}:∀{names:List (Str×NameKind)} {x:Str},names.lookup x=some .free ->
  (names.map λ(n,k)=>if(k==NameKind.free&&env.scope.kind==.function&&env.kindOf n==some .cell) then(n,NameKind.cell) else(n,k)).lookup x=some .cell \/
  (names.map λ(n,k)=>if(k==NameKind.free&&env.scope.kind==.function&&env.kindOf n==some .cell) then(n,NameKind.cell) else(n,k)).lookup x=some .free
 |[],_,h=>by simp at h
 |(n,k)::r,x,h=>by
  have ih:=@C8 env r x;show List.lookup x ((if(k==NameKind.free&&env.scope.kind==.function&&env.kindOf n==some .cell)=true then(n,NameKind.cell) else(n,k))::_)=_\/List.lookup x ((if(k==NameKind.free&&env.scope.kind==.function&&env.kindOf n==some .cell)=true then(n,NameKind.cell) else(n,k))::_)=_;cases hx:x==n with
  |true =>
   simp only[List.lookup_cons,hx] at h;cases h;by_cases hc:(NameKind.free==NameKind.free&&env.scope.kind==.function&&env.kindOf n==some .cell)=true
   ·rw[aN hc];simp[List.lookup_cons,hx]
   ·rw[aH hc];simp[List.lookup_cons,hx]
  |false =>
   simp only[List.lookup_cons,hx] at h;by_cases hc:(k==NameKind.free&&env.scope.kind==.function&&env.kindOf n==some .cell)=true
   ·rw[aN hc];simp only[List.lookup_cons,hx];exact ih h
   ·rw[aH hc];simp only[List.lookup_cons,hx];exact ih h
theorem K0{env:Env}:∀{names:List (Str×NameKind)} {x:Str},((names.map λ(n,k)=>if(k==NameKind.free&&env.scope.kind==.function&&env.kindOf n==some .cell) then(n,NameKind.cell) else(n,k)).lookup x=some .cell \/
  (names.map λ(n,k)=>if (k == NameKind.free && env.scope.kind == .function && env.kindOf n == some .cell) then (n,NameKind.cell) else (n,k)).lookup x=some .free)->names.lookup x=some .free \/ names.lookup x=some .cell
 |[],_,h=>by simp at h
 |(n,k)::r,x,h=>by
  have ih:=@K0 env r x;rw[aV] at h;cases hx:x==n with
  |true =>
   simp only[List.lookup_cons,hx];by_cases hc:(k==NameKind.free&&env.scope.kind==.function&&env.kindOf n==some .cell)=true
   ·left;simp only[Bool.and_eq_true,beq_iff_eq] at hc;rw[hc.1.1]
   ·simp only[if_neg hc,List.lookup_cons,hx] at h;rcases h with h|h
    ·exact .inr h
    ·exact .inl h
  |false =>
   simp only[List.lookup_cons,hx];by_cases hc:(k==NameKind.free&&env.scope.kind==.function&&env.kindOf n==some .cell)=true
   ·simp only[if_pos hc,List.lookup_cons,hx] at h;exact ih h
   ·simp only[if_neg hc,List.lookup_cons,hx] at h;exact ih h
def A9(Z:St)(c8:List Nat)(n:Nat):St:=c8.map (λj=>(Z[j]?).join)++List.replicate (n-c8.length) none
section
variable{pins:List (Addr×Obj)}{Z:St}{H:Hp}
theorem Inv.DT{h1:Heap}{tk:Nat}(I:Inv X pins Z H s)(S:cZ X scope N' c8 cl)(hc:X.calm=true)(hf:∀b∈fp,B0 X pins H b)(ho:∀b∈fp,∃o,s.heap.get? b=some o)(hC:s.heap.objs.size<=C)(hn:∃m,h1.Ns C m)(k:∀b o,s.heap.get? b=some o->h1.get? b=some o)(ck:CellsOk h1 (C+1) (cellsFrom (C+1) scope.names [])) :
  Inv (d4 X pins scope N' cl C s H fp) [] (A9 Z c8 N'.length) H { s with heap:=h1,toks:=tk }:=by
 obtain⟨m,hm⟩:=hn;have GZ:(relabel scope X.env).kind=.function:=S.kind;have AJ:∀b o,s.heap.get? b=some o->b≠C:=λb o e z=>absurd (aq e) (by rw[z];exact jj.mpr hC);have two:∀{x:Str} {c:Addr},(F0 scope cl C).lookup x=some c->(C<c/\h1.IsCell c none/\(x,c)∈cellsFrom (C+1) scope.names [])\/(cl.lookup x=some c/\(cellsFrom (C+1) scope.names []).lookup x=none):=λ{x c} h=>by
  unfold F0 at h;rw[E6] at h;cases e:(cellsFrom (C+1) scope.names []).lookup x with
  |some c' =>
   rw[e] at h;cases h;have hm:=aI e;exact .inl ⟨(ck.empty x c hm).2,(ck.empty x c hm).1,hm⟩
  |none =>
   rw[e] at h;exact .inr ⟨h,rfl⟩
 have qV:∀{x:Str} {c:Addr},cl.lookup x=some c->c<s.heap.objs.size:=λ{x c} h=>by
  obtain⟨v,o,e,_⟩:=I.cell x c (S.cin x c h);exact aq e
 have frees:∀{x:Str},scope.names.lookup x=some .free->(F0 scope cl C).lookup x=cl.lookup x:=λ{x} h=>by
  unfold F0;rw[E6];cases e:(cellsFrom (C+1) scope.names []).lookup x with
  |some c' =>
   have:=S.cells _ (P0 (aI e)) rfl;rw[h] at this;cases this
  |none=>rfl
 refine⟨⟨I.mod,GZ,I.ok.glob,I.ok.blt,hC,?_,?_,?_,λ_=>I.ok.hd hc,I.ok.frames,.inl rfl,?_,I.bs,?_,?_,?_,I.stack,I.yU⟩,rfl,I.bare,Un.kept k,⟨m,hm,?_⟩,?_,?_,?_,?_,I.bD.kept k,?_⟩
 ·intro x y c h1 h2;rcases two h1 with⟨l1,_,q1⟩|⟨q1,_⟩<;>rcases two h2 with⟨l2,_,q2⟩|⟨q2,_⟩
  ·exact PySem.name_of_addr ck.apart q1 q2
  ·exact absurd (bW l1 (az (qV q2) hC)) (aQ _)
  ·exact absurd (bW l2 (az (qV q1) hC)) (aQ _)
  ·exact I.ok.inj x y c (S.cin x c q1) (S.cin y c q2)
 ·intro x hx;rcases K0 (env:=X.env) (names:=scope.names) hx with z|z
  ·obtain⟨c,hc⟩:=S.sT x z;exact⟨c,(frees z).trans hc⟩
  ·have q:=dc scope.names (C+1) [] (.inl z);obtain⟨c,hc⟩:=dU.mp q;refine⟨c,?_⟩;show(F0 scope cl C).lookup x=some c;unfold F0;rw[E6,hc]
   rfl
 ·intro x c hf h;have z:scope.names.lookup x=some .cell:=bw hf;have q:=dc scope.names (C+1) [] (.inl z);rcases two h with⟨l,_⟩|⟨_,e⟩
  ·exact cG (fy hC l)
  ·rw[e] at q;cases q
 ·intro b hb;obtain⟨f0,f1,f2,f3,f4,f5⟩:=hf b hb;obtain⟨o,e⟩:=ho b hb;refine⟨AJ b o e,λx c h=>?_⟩;rcases two h with⟨l,_⟩|⟨q,_⟩
  ·intro z;subst z;exact absurd (bW l (az (aq e) hC)) (aQ _)
  ·exact f4 x c (S.cin x c q)
 ·exact aG I.ok.nJ I.sz
 ·intro b o e hb;obtain⟨f0,f1,f2,f3,f4,f5⟩:=hf b hb;rcases f3 with f3|f3
  ·exact I.ok.kQ b o e f3
  ·exact absurd (aq (I.ok.bs b o e).1) (jj.mpr f3)
 ·intro b hb z;obtain⟨f0,f1,f2,f3,f4,f5⟩:=hf b hb;rcases aD.mp (I.G0 b z) with z|z
  ·exact f1 z
  ·exact f2 z
 ·intro i x v xw h2 h3;have hi:i<c8.length:=by
   unfold A9 at h2;by_cases hi:i<c8.length
   ·exact hi
   ·rw[aY (by simpa using hi),eB] at h2;split at h2<;>cases h2
  obtain⟨j,hj⟩:∃j,c8[i]?=some j:=⟨_,ai hi⟩
  have hs:Z[j]?=some (some v):=by
   unfold A9 at h2;rw[aw (by simpa using hi),aC,hj] at h2;simp only[Option.map_some] at h2;cases e:Z[j]? with
   |none=>rw[e] at h2;cases h2
   |some a=>rw[e] at h2;exact eZ some (aE h2)
  obtain⟨y,wt,wq,uf,ue⟩:=S.Iz i j hj;have ey:y=x:=by
   have sD:N'[i]?=some x:=xw;rw[wt] at sD;exact aE sD
  subst ey;obtain⟨m0,Bm,hl⟩:=I.loc;obtain ⟨u,ru,hu⟩:=hl j y v wq hs (by
   rcases ue with z|z
   ·exact .inr (.inl z)
   ·exact .inr (.inr z))
  refine⟨u,ru,.inr ⟨C8 (env:=X.env) (names:=scope.names) uf,?_⟩⟩;rcases hu with⟨z,_⟩|⟨_,c,sj,jL⟩
  ·rcases ue with z'|z'<;>(rw[z'] at z;cases z)
  ·obtain⟨c',iN⟩:=S.sT y uf;have e:=S.cin y c' iN;rw[sj] at e;cases e;obtain⟨o,e1,e2⟩:=jL;exact⟨c,(frees uf).trans iN,o,k _ _ e1,e2⟩
 ·intro x c h;rcases two h with⟨_,q,_⟩|⟨q,_⟩
  ·exact⟨none,q⟩
  ·obtain⟨v,o,e1,e2⟩:=I.cell x c (S.cin x c q);exact⟨v,o,k _ _ e1,e2⟩
 ·exact I.bD.fresh hC
 ·intro x c h;rcases two h with⟨l,_⟩|⟨q,_⟩
  ·exact I.bD.fresh (cG (fy hC l))
  ·exact I.fi x c (S.cin x c q)
 ·intro p hp;have iL:p∈X.pn++pins:=by simpa[d4] using hp
  obtain⟨p1,p2,p3,p4,p5⟩:=I.pin p iL;refine⟨k _ _ p1,p2,AJ _ _ p1,λz=>?_,p5⟩;rcases aD.mp (I.G0 _ z) with z|z
  ·exact p3 z
  ·exact p4 z
 ·unfold A9;show _=N'.length;rw[aK,ak,tP];have:=S.xR;omega
theorem Inv.CZ{jN:List (Addr×Obj)}{bJ:St}{H':Hp}{s':Shared}(I:Inv X pins Z H s)(hf:∀b∈fp,B0 X pins H b)(J:Inv (d4 X pins scope N' cl C s H fp) jN bJ H' s'):Inv X pins Z H' s' :=
 I.zG (ch:=fp) J.os J.base J.bD J.bare λb hb=>by
  obtain⟨f0,f1,f2,f3,f4,f5⟩:=hf b hb;exact⟨f3,f1,f4,f5⟩
theorem Inv.LJ{D:Addr}{ys:List V}{aO:List Value}{n:Nat}(I:Inv X pins Z H s)(f:B0 X pins H D)(hs:X.cV.heap.objs.size<=D)(hv:Vals ys aO)(hz:ys.length<=sizeLine)(ho:s.heap.get? D=some { cls:=.type "list",data:=.seq aO.toArray n }):Inv X pins Z (upd H D (.lst ys)) s:=by
 obtain⟨f0,f1,f2,f3,f4,f5⟩:=f;have dI:∀b o,X.cV.heap.get? b=some o->b≠D:=λb o e z=>absurd (aq e) (by rw[z];exact jj.mpr hs);have tup:∀b u,H b=some u->upd H D (.lst ys) b=some u:=λb u e=>by rw[d8 (j9 e f0)];exact e
 refine⟨I.ok,I.os,I.bare,⟨?_,?_,?_,I.base.there,?_,?_,?_⟩,I.loc,I.cell,?_,?_,?_,?_,I.len⟩
 ·exact λb o e n1 n2 n3=>I.base.keep b o e n1 n2 n3
 ·exact λb o e n1 n2 n3=>I.base.slot b o e n1 n2 n3
 ·exact λb o e n1 n2=>by rw[d8 (dI b o e)];exact I.base.free b o e n1 n2
 ·exact λb xs e=>tup _ _ (I.base.hV b xs e)
 ·exact λb o u e=>tup _ _ (I.base.gL b o u e)
 ·exact λb ps e=>by
   obtain⟨more,q⟩:=I.base.hW b ps e;exact⟨more,tup _ _ q⟩
 ·rw[d8 f1.symm];exact I.free
 ·exact λx c e=>by rw[d8 (f4 x c e)];exact I.fi x c e
 ·intro p hp;obtain⟨p1,p2,p3⟩:=I.pin p hp;exact⟨p1,by rw[d8 (f5 p hp)];exact p2,p3⟩
 ·intro a o e;by_cases ha:a=D
  ·subst ha;rw[n9] at e;cases e;exact⟨hz,aO,n,hv,ho⟩
  ·rw[d8 ha] at e;have q:=I.bD a o e;refine q.T7 (λb u _ h=>h) (λb hb=>tup _ _ hb) (λb xs hb=>tup _ _ hb)
end
def ya(wi:TI)(c8:List Nat)(n:Nat)(g:TG)(tc:TT)(te:TE):TE:=λZ H Q=>wi Z H λJ H1=>∃W:Nat->Nat->List V->St->Hp->Prop,(∃m,W 0 m [] (A9 Z c8 n) H1)/\∀i m ys Z H,W i m ys Z H ->
 (J.stop i H/\∀p,H p=none->Q (.ref p) (upd H p (.lst ys))) \/
 (J.go i H/\ys.length < sizeLine/\∀ x H',J.nT i H x H'->g x Z H' λcE H2=>tc cE H2 λb H3 =>
  if b=true then te cE H3 λy H4=>∃ m',m' < m/\W (i + 1) m' (ys ++ [y]) cE H4 else ∃ m',m' < m/\W (i + 1) m' ys cE H3)
noncomputable abbrev K2(aO:List Value)(n:Nat):Obj:={ cls:=.type "list",data:=.seq aO.toArray n }
section
variable{pins:List (Addr×Obj)}{Z:St}{H:Hp}
theorem DS{it:Addr}{tn:Nat->Heap->Prop}{J:It}{xx:Addr->Shared->Hp->Value->Shared->Prop}{RR:Value->Addr->Result->Shared->Prop}{E:Value->Shared->Prop}{W:Nat->Nat->List V->St->Hp->Prop}{m0:Nat}{Q:VK}(S:cZ X scope N' c8 cl)(hc:X.calm=true)(hg:∀C s H,PG (d4 X pins scope N' cl C s H fp) tg g)(ht:∀C s H,jW (d4 X pins scope N' cl C s H fp) ifs tc)(he:∀C s H,PE ((d4 X pins scope N' cl C s H fp).T3 (xx C s H)) elt te)(I:Inv X pins Z H s)(T:Turn X.prog X.w X.K tg J fp it tn)(st:tn 0 s.heap)(hf:∀b∈fp,B0 X pins H b)(w0:W 0 m0 [] (A9 Z c8 N'.length) H)(turn:∀ i m ys Z H,W i m ys Z H->(J.stop i H/\∀ p,H p=none->Q (.ref p) (upd H p (.lst ys))) \/
   (J.go i H/\ys.length < sizeLine/\∀ x H',J.nT i H x H'->g x Z H' λcE H2=>tc cE H2 λb H3 =>
    if b=true then te cE H3 λy H4=>∃ m',m' < m/\W (i + 1) m' (ys ++ [y]) cE H4 else ∃ m',m' < m/\W (i + 1) m' ys cE H3))(xf:∀D C s' H' m,Inv X pins Z H' s'->Q (.ref D) H'->s'.heap.Ns C m->H' C=none->s.heap.objs.size<=C->RR (.ref D) C (.ok .next) s')(Hx:∀D C e s',s.heap.objs.size<=C->xx C s H e s'->notedBy (model X.prog X.w) X.A (compEnvC scope (F0 scope cl C) C X.env) (λe s'=>RR (.ref D) C (.error e) s') e s') :
  wpAny (model X.prog X.w) X.A (newList []) (λacc fb=>wpAny (model X.prog X.w) X.A (newFunctionEnv scope X.env.globals cl [] X.env.qual none .none (some X.env)) (λkh iS =>
   kh.frame=X.env.frame/\codeAny (model X.prog X.w) X.A (.compStart (.ListComp elt [⟨tg,iter,ifs,0⟩] scope pos) 0 (.ref it) acc { kh with scope:=relabel scope X.env }) (RR acc kh.locals) iS) E fb) E s:=by
 refine bq (W0 λdj fM fc lp=>?_);dsimp only at fM fc lp ⊢;generalize lT:s.heap.push { cls:=.type "list",dict:=none,data:=.seq ([]:List Value).toArray }=H2 at fM fc lp ⊢;generalize eD:s.heap.objs.size=D at *;have hC:H2.objs.size=D+1:=by rw[<- lT,dk,eD]
 generalize eC:H2.objs.size=C at *;have sx:D≠C:=by omega
 have lt:∀b o,s.heap.get? b=some o->b<D:=λb o e=>by rw[<- eD];exact aq e
 have ox:D<=C:=by omega
 have mY:∀b o,s.heap.get? b=some o->b≠C:=λb o e=>aF (az (lt b o e) ox);have kR:∀b o,s.heap.get? b=some o->b≠D:=λb o e=>aF (lt b o e);have old:∀b o,s.heap.get? b=some o->dj.get? b=some o:=λb o e=>fc b o (lT▸af _ e);have iE:dj.get? D=some (K2 [] 0):=fc _ _ (by rw[<- lT,<- eD];exact ay _ rfl);have ig:∀b∈fp,∃o,s.heap.get? b=some o:=λb hb=>by
  obtain⟨o,e,_⟩:=T.obj _ _ st b hb;exact⟨o,e⟩
 have sv:D∉fp:=λhm=>by
  obtain⟨o,e⟩:=ig D hm;exact kR D o e rfl
 have X1:Inv (d4 X pins scope N' cl C s H fp) [] (A9 Z c8 N'.length) H { s with heap:=dj } :=
  I.DT S hc hf ig (by rw[eD];omega) ⟨_,fM⟩ old lp
 have qN:tn 0 dj:=T.keep _ _ _ st λb _ o e=>old b o e;have xA:∀{H':Hp},(∀b∈fp,H' b=none)->∀b∈fp,B0 (d4 X pins scope N' cl C s H fp) [] H' b:=λhn b hb=>by
  obtain⟨f0,f1,f2,f3,f4,f5⟩:=hf b hb;obtain⟨o,e⟩:=ig b hb;refine⟨hn b hb,?_,?_,.inl hb,λx c q=>(V6 lp q).elim (λl z=>absurd (bW (z▸l) (az (lt b o e) ox)) (aQ _)) λq=>f4 x c (S.cin x c q),λp hp=>?_⟩
  ·exact mY b o e
  ·exact λz=>by
    rcases aD.mp (I.G0 b z) with z|z
    ·exact f1 z
    ·exact f2 z
  ·have iL:p∈X.pn++pins:=by simpa[d4] using hp
   exact f5 p iL
 have fD:∀{H':Hp},H' D=none->B0 (d4 X pins scope N' cl C s H fp) [] H' D:=λhn=>by
  refine⟨hn,sx,λz=>?_,.inr (by show s.heap.objs.size<=D;omega),λx c q=>?_,λp hp=>?_⟩
  ·exact absurd (I.sZ (a:=D) (by omega)) λni=>by
    rcases aD.mp (I.G0 D z) with z|z
    ·exact absurd I.lt (by rw[<- z,eD];exact aQ _)
    ·exact ni z
  ·rcases V6 lp q with l|q
   ·exact λz=>absurd (az (z▸l) ox) (aQ _)
   ·obtain⟨v,o,e,_⟩:=I.cell x c (S.cin x c q);exact kR c o e
  ·have iL:p∈X.pn++pins:=by simpa[d4] using hp
   exact kR _ _ (I.pin p iL).1
 have oq:∀{H':Hp} {s':Shared} {bJ:St} {aO:List Value} {n:Nat},Inv (d4 X pins scope N' cl C s H fp) [] bJ H' s'->H' D=none->s'.heap.get? D=some (K2 aO n) ->
   Inv (d4 X pins scope N' cl C s H fp) [(D,K2 aO n)] bJ H' s':=λ{H' s' bJ aO n} J0 hn e=>J0.F4 λp hp=>by
  have z:p=(D,K2 aO n):=by simpa using hp
  subst z;obtain⟨f0,f1,f2,_⟩:=fD hn;exact⟨e,f0,f1,f2,λv z=>nomatch z⟩
 have lU:∀{H':Hp} {aO:List Value} {n:Nat},(∀b∈fp,H' b=none)->∀b∈fp,B0 (d4 X pins scope N' cl C s H fp) [(D,K2 aO n)] H' b:=λ{H' aO n} hn b hb=>by
  obtain⟨f0,f1,f2,f3,f4,f5⟩:=xA hn b hb;refine⟨f0,f1,f2,f3,f4,λp hp=>?_⟩;have iL:p∈(d4 X pins scope N' cl C s H fp).pn\/p=(D,K2 aO n):=by simpa using hp
  rcases iL with z|z
  ·exact f5 p (bh _ z)
  ·subst z;exact λz=>sv (by rw[show D=b from z];exact hb)
 have loop:∀fb:Shared,fb={ s with heap:=dj } ->
   codeAny (model X.prog X.w) X.A (.compLoop (.ListComp elt [⟨tg,iter,ifs,0⟩] scope pos) 0 (.ref it) (.ref D) (compEnvC scope (F0 scope cl C) C X.env)) (RR (.ref D) C) fb:=by
  rintro fb rfl;refine NY (λn s'=>∃ i ys bJ H' aO nn,Inv (d4 X pins scope N' cl C s H fp) [] bJ H' s'/\tn i s'.heap/\(∀ b ∈ fp,H' b=none)/\H' D=none/\Vals ys aO/\ys.length <= sizeLine /\
   s'.heap.get? D=some (K2 aO nn)/\W i n ys bJ H') ?_ m0 ⟨0,[],_,H,[],0,X1,qN,λb hb=>(hf b hb).1,I.bD.fresh (by omega),.nil,bY _,iE,w0⟩
  rintro n s3 ⟨i,ys,gI,H3,aO,nn,I3,mV,nF,d3,v3,z3,o3,w3⟩;have tJ:=oq I3 d3 o3;rcases turn i n ys gI H3 w3 with⟨stop,q⟩|⟨go,hz,step⟩
  ·refine cC (T.done (d4 X pins scope N' cl C s H fp) rfl rfl rfl rfl i _ s3 _ H3 _ tJ (lU nF) mV stop) λr s4 ⟨hr,I4⟩=>?_;subst hr;have o4:=(I4.pin (D,K2 aO nn) (by simp)).1;have J4:Inv X pins Z H3 s4:=I.CZ hf I4;have xC:B0 X pins H3 D:=by
    refine⟨d3,bE (by rw[<- eD];exact I.lt),I.sZ (by omega),.inr (by have:=I.sz;omega),λx c q=>?_,λp hp=>?_⟩
    ·obtain⟨v,o,e,_⟩:=I.cell x c q;exact kR c o e
    ·exact kR _ _ (I.pin p hp).1
   obtain⟨mC,wJ,_⟩:=I4.loc;exact xf D C s4 (upd H3 D (.lst ys)) mC (J4.LJ xC (by have:=I.sz;omega) v3 z3 o4) (q D d3) wJ (by rw[d8 sx.symm];exact I4.free) (by omega)
  ·refine cC (T.item (d4 X pins scope N' cl C s H fp) rfl rfl rfl rfl i _ s3 _ H3 _ tJ (lU nF) mV go) λr s4 ⟨u,hr,h4⟩=>?_;subst hr;refine cC h4 λ_ s5 bc=>?_;obtain⟨x,H5,I5,r5,y5,kK,sH⟩:=bc;have o5:=I5.pin (D,K2 aO nn) (by simp);have tI:=I5.pinned (lU sH) (T.obj _ _ kK);refine cC (hg C s H _ s5 _ H5 x u _ tI r5 (step x H5 y5)) λ_ s6 bc=>?_;obtain⟨jY,H6,I6,q6⟩:=bc;refine cC (ht C s H _ s6 jY H6 _ I6 q6) λok s7 ⟨H7,I7,q7⟩=>?_;have back:∀{qD:St} {H8:Hp} {s8:Shared},Inv (d4 X pins scope N' cl C s H fp) ([(D,K2 aO nn)]++R5 fp s5.heap) qD H8 s8->(∀b∈fp,H8 b=none)/\tn (i+1) s8.heap/\H8 D=none/\s8.heap.get? D=some (K2 aO nn) :=
    λ{qD H8 s8} I8=>by
     have pf:∀b∈fp,∀o,s5.heap.get? b=some o->s8.heap.get? b=some o/\H8 b=none:=λb hb o e=>by
      have:=I8.pin (b,o) (aZ _ (aZ _ (M9 hb e)));exact⟨this.1,this.2.1⟩
     have pd:=I8.pin (D,K2 aO nn) (by simp);refine⟨λb hb=>?_,T.keep _ _ _ kK λb hb o e=>(pf b hb o e).1,pd.2.1,pd.1⟩;obtain⟨o,e,_⟩:=T.obj _ _ kK b hb;exact(pf b hb o e).2
   cases ok with
   |false =>
    obtain⟨m',hm,w7⟩:=q7;obtain⟨b1,b2,b3,b4⟩:=back I7;exact⟨m',hm,i+1,ys,jY,H7,aO,nn,I7.F4 λp hp=>absurd hp (by simp),b2,b1,b3,v3,z3,b4,w7⟩
   |true =>
    refine br (he C s H _ s7 jY H7 _ (I7.T3 _) q7) (λxv s8 bc=>?_) λe s' hx=>Hx D C e s' (by omega) hx;obtain⟨y,H8,I8,r8,m',hm,w8⟩:=bc;have I8:=I8.yA;obtain⟨b1,b2,b3,b4⟩:=back I8;refine iP F.slot_list_append ⟨_,b4,rfl⟩ F.entry_list_append (F.args_list_append_2 _ _) (Vd D aO.toArray nn xv (by rw[aB];have:=v3.length;omega)) ⟨b4,?_⟩;have q:∃n',(s8.heap.update D (Obj.mapSeq (·.push xv))).get? D=some (K2 (aO++[xv]) n'):=by
     have q0:=We b4 (·.push xv);have e0:aO.toArray.push xv=(aO++[xv]).toArray:=by simp
     rw[e0] at q0;exact⟨_,q0⟩
    obtain⟨n',q⟩:=q;have zU:Inv (d4 X pins scope N' cl C s H fp) [] jY H8 s8:=I8.F4 λp hp=>absurd hp (by simp);obtain⟨f0,f1,f2,f3,f4,f5⟩:=fD (H':=H8) b3;have kp:∀b o,b≠D->s8.heap.get? b=some o->(s8.heap.update D (Obj.mapSeq (·.push xv))).get? b=some o:=λb' u hb hu=>(bt s8.heap (Obj.mapSeq (·.push xv)) (bU hb)).trans hu;refine⟨m',hm,i+1,ys++[y],jY,H8,aO++[xv],n',zU.turned (it:=D) (t':=s8.toks) kp f0 f1 f3 f4 f5,T.keep _ _ _ b2 λb hb o e=>kp b o (λz=>sv (by rw[<- z];exact hb)) e,b1,b3,v3.append (.cons r8 .nil),?_,q,w8⟩;rw[aK,gZ];omega
 exact⟨rfl,codeAny_compStart_list (loop _ rfl) (T.self _ 0 _ _ _ qN (loop _ rfl))⟩
theorem Inv.ED{h':Heap}{s2:Shared}{H2:Hp}(I:Inv X pins Z H s)(hC:s2.heap.objs.size<=C)(I2:Inv X pins Z H2 s2)(hn:H C=none)(sb:Heap.SameBut C s.heap h'):Inv X pins Z H { s with heap:=h' }:=by
 have f:=I2.pj (b:=C) (H':=H) hC hn;obtain⟨f0,f1,f2,f3,f4,f5⟩:=f;exact I.turned (t':=s.toks) (λb o hb e=>sb.extBut b o hb e) f0 f1 f3 f4 f5
theorem DV{M:Model}{E:Value->Shared->Prop}{a:Sem Value}{b:Sem Env}{P:Env->Prop}{Q:Value->Env->Shared->Prop}(h:wpAny M A a (λx s1=>wpAny M A b (λy s2=>P y/\Q x y s2) E s1) E s):wpAny M A a (λx s1=>wpAny M A b (λy s2=>Q x y s2) E s1) E s :=
 br h (λ_ _ h=>br h (λ_ _ h=>h.2) λ_ _ z=>z) λ_ _ z=>z
theorem CJ{wi:TI}(S:cZ X scope N' c8 cl)(hc:X.calm=true)(hi:PI X tg iter wi)(hg:∀pins C s H fp,PG (d4 X pins scope N' cl C s H fp) tg g)(ht:∀pins C s H fp,jW (d4 X pins scope N' cl C s H fp) ifs tc)(he:∀pins C s H fp,PE (d4 X pins scope N' cl C s H fp) elt te)(hs:∀x,foldedSetIterable iter X.env x=pure x):PE X (.ListComp elt [⟨tg,iter,ifs,0⟩] scope pos) (ya wi c8 N'.length g tc te):=by
 intro pins s Z H Q I h;rw[eval_ListComp];refine gU (use:=none) rfl hs S.pb S.kind S.names (cC (hi pins s Z H _ I h) λxv bG dj=>cC dj λrH fW ie=>?_);obtain⟨it,fp,tn,J,H2,e,I2,T,kL,f2,W,⟨m0,w0⟩,turn⟩:=ie;subst e;refine DV (DS (xx:=λ_ _ _ _ _=>False) (RR:=λacc C=>compPost (model X.prog X.w) X.A X.xe none (EP X pins Z Q) acc C) S hc (λC s H=>hg pins C s H fp) (λC s H=>ht pins C s H fp) (λC s H=>he pins C s H fp) I2 T kL f2 w0 turn ?_ λ_ _ _ _ _ z=>z.elim);intro D C s' H' m I' q hn hC hsz;exact⟨m,hn,λh' sb=>⟨.ref D,H',I'.ED hsz I2 hC sb,rfl,q⟩⟩
theorem NO{qO px:Pos}{wi:TI}{i:Nat}(S:cZ X scope N' c8 cl)(hc:X.calm=true)(hi:PI X tg iter wi)(hg:∀pins C s H fp,PG (d4 X pins scope N' cl C s H fp) tg g)(ht:∀pins C s H fp,jW (d4 X pins scope N' cl C s H fp) ifs tc)(he:∀pins C s H fp,PE (d4 X pins scope N' cl C s H fp) elt te)(hs:∀x,foldedSetIterable iter X.env x=pure x)(hN:X.N.Nodup)(rX:X.N[i]?=some x)(hx:Loc X.env.scope x)(hf:X.fn x=true\/X.env.scope.names.lookup x=some .local) :
  PS X (.Assign [.Name x px] (.ListComp elt [⟨tg,iter,ifs,0⟩] scope pos) qO) (tf (ya wi c8 N'.length g tc te) (qo i)):=by
 intro pins s Z H D I h;have uh:∃b,swapsWith (.ListComp elt [⟨tg,iter,ifs,0⟩] scope pos) (some (.Name x px)) qO.line X.env=pure b:=⟨_,rfl⟩
 obtain⟨b,uh⟩:=uh;cases b with
 |false=>exact Ff hN rX hx (CJ S hc hi hg ht he hs) uh hf pins s Z H D I h
 |true =>
  rw[exec_Assign_Name_used _ _ _ _ uh];refine aa (eI (aa ?_));show wpAny _ X.A (do let _ <- comprehension (.ListComp elt [⟨tg,iter,ifs,0⟩] scope pos) scope X.env _ (newList []) false (eval iter X.env) (some (assign (.Name x px) X.env))) _ _ s;refine aa (br (gU (use:=some (assign (.Name x px) X.env)) (Q:=λ_ s'=>SP X pins D .next s') rfl hs S.pb S.kind S.names
   (cC (hi pins s Z H _ I h) λxv bG dj=>cC dj λrH fW ie=>?_)) (λ_ s' hq=>ag (ag hq)) λ_ _ e=>e)
  obtain⟨it,fp,tn,J,H2,e,I2,T,kL,f2,W,⟨m0,w0⟩,turn⟩:=ie;subst e;refine DV (DS (xx:=λ_ _ _ _ _=>False) (Q:=λv H1=>qo i v Z H1 D.nx) (RR:=λacc C=>compPost (model X.prog X.w) X.A X.xe (some (assign (.Name x px) X.env)) (λ_ s'=>SP X pins D .next s') acc C) S hc (λC s H=>hg pins C s H fp) (λC s H=>ht pins C s H fp) (λC s H=>he pins C s H fp) I2 T kL f2 w0 turn ?_ λ_ _ _ _ _ z=>z.elim);intro Dl C s' H' m I' q hn hC hsz;show wpAny _ X.A (assign (.Name x px) X.env (.ref Dl)) _ _ _;refine wpAny_assign_Name (DL I' hN rX hx (v:=.ref Dl) rfl (λs3 I3 ⟨a,sb,ha⟩=>?_) hf);have HB:C≠a:=by
   obtain⟨f0,f1,f2,f3,f4,f5⟩:=I2.pj (b:=C) (H':=H') hsz hC;rcases ha with z|z
   ·rw[z];exact f1
   ·exact λz'=>f4 _ _ z z'.symm
  obtain⟨f0,f1,f2,f3,f4,f5⟩:=I2.pj (b:=C) (H':=H') hsz hC;refine⟨m,hn.sameBut sb HB,λh3 Gh=>⟨_,H',I3.turned (t':=s3.toks) (λb o hb e=>Gh.extBut b o hb e) f0 f1 f3 f4 f5,q⟩⟩
end
end L2
namespace HT
open PySem PyProof.Rows
section
variable{prog:Program}{w:World}{A:Around}{E:Value->Shared->Prop}{s:Shared}
theorem PD{t b:Addr}{ws:List Value}{Q:Value->Shared->Prop}(ht:IsTup s.heap t #[])(hb:IsTup s.heap b ws.toArray)(h1:Q (.ref b) s):wpAny (model prog w) A (binaryOp .Add (.ref t) (.ref b)) Q E s:=by
 obtain⟨⟨cls,dd,data,sl⟩,ho,hc,n,hd⟩:=id ht;obtain⟨⟨xQ,uF,data2,nZ⟩,lN,jL,n2,hd2⟩:=id hb;simp only at hc hd jL hd2;subst hc hd jL hd2;exact Wb ⟨_,ho,rfl⟩ ⟨_,lN,rfl⟩ nO FI gF gi (fT _ _)
   (tuple_addW0 t b #[] ws.toArray n n2 dd uF sl nZ rfl) ⟨ho,lN,h1⟩
theorem W7{t sl:Addr}{items:Array Value}{vl vu:Value}{lo hi:Option Int}{Q:Value->Shared->Prop}(ht:IsTup s.heap t items)(hs:s.heap.IsSliceOf sl vl vu .none)(pl:IsPart vl lo)(pu:IsPart vu hi)(hw:dh items.size 0 lo=0/\dh items.size items.size hi=items.size)(h:Q (.ref t) s):wpAny (model prog w) A (getItem (.ref t) (.ref sl)) Q E s:=by
 obtain⟨os,oC,uu,se⟩:=id hs;have xa:s.TypeIs (.ref sl) "slice":=⟨os,oC,uu⟩
 unfold getItem
 try with_reducible refine bx ?_
 first|refine aa (ag ?_)|skip
 refine aa (wpAny_sequenceKey ht.typeIs (by decide) ?_);refine aa (eT (name:=Str.ofString "__getitem__") ht.typeIs bA
  (bO bA ht.typeIs entry_tuple_getitem ?_ (args_tuple_getitem _ _)))
 show wpAny _ _ (Builtin.Tuple.tupleItemsOf (.ref t) >>= _) _ _ s;refine aa (tupleItemsOf_ ht ?_);refine aa (cX xa ?_);rw[aN (by decide)];refine aa (O3 hs pl pu ?_);have wo:((((dh items.size 0 lo:Nat):Int)==0&&(1:Int)==1&&(dh items.size items.size hi-dh items.size 0 lo)==items.size)=true):=by
  rw[hw.1,hw.2];simp
 show wpAny _ _ (if(((dh items.size 0 lo:Nat):Int)==0&&(1:Int)==1&&(dh items.size items.size hi-dh items.size 0 lo)==items.size)=true then _ else _) _ _ s;rw[aN wo];obtain⟨o,ho,hc,_⟩:=id ht;unfold Builtin.Tuple.tupleIsExact;refine aa (aa (cX ht.typeIs (ag ?_)));rw[aN (by decide)]
 first
  |exact wpAny_bind (wpAny_rule (wpAny_bind (wpAny_pure ⟨_,rfl,wpAny_pure h⟩)))
  |exact wpAny_bind (wpAny_rule (wpAny_pure ⟨_,rfl,wpAny_pure h⟩))
  |exact wpAny_bind (wpAny_rule (wpAny_bind (wpAny_pure (wpAny_pure ⟨_,rfl,wpAny_pure h⟩))))
end
end HT
namespace L2
open PySem PySem.Spec PyProof.Rows
section
variable{X:Cx}
def SU(K:PySem.W.Frag):R2:=λx y H Q=>∃a b xs ys,x=.ref a/\y=.ref b/\gS K H a xs/\gS K H b ys/\xs.length+ys.length<=sizeLine /\
 (xs=[]->Q (.ref b) H)/\(ys=[]->Q (.ref a) H)/\(∀p,H p=none->Q (.ref p) (upd H p (.tup (xs++ys))))
theorem Qi:fj X (binaryOp .Add) (SU X.K):=by
 intro pins s Z H x y v u Q I rx ry h;obtain⟨a,b,xs,ys,rfl,rfl,ha,hb,hz,q0,q1,q2⟩:=h;by_cases hx:xs=[]
 ·subst hx;cases rx;cases ry;obtain⟨aO,r1,p1,_⟩:=I.tuple ha;obtain⟨mx,r2,p2,_⟩:=I.tuple hb;cases r1;exact HT.PD p1 p2 ⟨.ref b,H,I,rfl,q0 rfl⟩
 ·exact UK pins s Z H _ _ v u Q I rx ry ⟨a,b,xs,ys,rfl,rfl,ha,hb,hx,hz,q1,λ_=>q2⟩
def Ln(K:PySem.W.Frag):V->Option Int->Option Int->Hp->VK->Prop:=λx lo hi H Q=>∃a xs,x=.ref a/\gS K H a xs /\
 (O9 xs lo hi=xs->Q (.ref a) H)/\∀p,H p=none->Q (.ref p) (upd H p (.tup (O9 xs lo hi)))
theorem Pk:tD X (Ln X.K):=by
 intro pins s Z H x v vl vu lo hi sl Q I rx hs pl pu h;obtain⟨a,xs,rfl,hx,q0,q⟩:=h;by_cases hw:HT.dh xs.length 0 lo=0/\HT.dh xs.length xs.length hi=xs.length
 ·cases rx;obtain⟨aO,r,ht,hz⟩:=I.tuple hx;have hlen:aO.toArray.size=xs.length:=by rw[aB];exact r.length.symm
  refine⟨"tuple",_,bA.lookup,ht.typeIs,?_⟩;exact HT.W7 ht hs pl pu (by rw[hlen];exact hw) ⟨.ref a,H,I,rfl,q0 (by unfold O9;rw[hw.1,hw.2];simp)⟩
 ·exact Tq pins s Z H _ v vl vu lo hi sl Q I rx hs pl pu ⟨a,xs,rfl,hx,hw,q⟩
theorem NH:i8 X (.builtin "isinstance") (λxs H Q=>∃x t c b,xs=[x,.ty c]/\fX X.K H x t/\PySem.W.kitOne X.K t (.type c)=some b/\Q (.bl b) H):=by
 intro pins s Z H xs us Q I r h;obtain⟨x,t,c,b,rfl,hT,hk,q⟩:=h;obtain⟨u,w',rfl,ru,fg⟩:=vals2 r;cases (show w'=Value.type c from fg);exact Rz I ru hT hk λtk=>⟨.bl b,H,I.tok tk,rfl,q⟩
theorem Rb(hc:X.calm=true):i8 X (.builtin "all") (λxs H Q=>∃(a:Addr) (bs:List Bool),xs=[.ref a]/\fe X.K H a (bs.map V.bl)/\Q (.bl (bs.all id)) H):=by
 intro pins s Z H xs us Q I r h;obtain⟨a,bs,rfl,ha,q⟩:=h;obtain⟨u,rfl,ru⟩:=vals1 r;cases ru;obtain⟨aO,rv,p,hz⟩:=I.list ha;refine call_all_walk ?_;refine dJ p.isList ?_;have dI:a≠s.heap.objs.size:=by
  obtain⟨o,e,_⟩:=id p.isList;exact aF (aq e)
 have hl:=rv.length;rw[ak] at hl;refine⟨s.heap.objs.size,_,_,_,_,_,λi=>bs.getD i true,rfl,kA (A:=X.A.in1) (I.ok.hd hc) _ a dI aO.toArray,⟨⟨_,ay _ rfl,rfl,rfl⟩,?_⟩,?_,λh' tk k=>?_⟩
 ·obtain⟨o,e,q1⟩:=id p.isList;exact⟨o,af _ e,q1⟩
 ·intro i v s' Q' E' hP hQ;have hv:aO[i]?=some v:=by simpa using hP
  have hi:i<bs.length:=by rw[hl];exact(ao.mp hv).1
  obtain⟨u',nh,qS⟩:=rv.get (i:=i) (x:=V.bl bs[i]) (by rw[aC,ai hi];rfl);rw[hv] at nh;cases nh;cases (show v=Value.bool bs[i] from qS);refine bS ?_;have:bs.getD i true=bs[i]:=by simp[List.getD,hi]
  dsimp only at hQ;rw[this] at hQ;exact hQ
 ·have e1:(List.range aO.toArray.size).all (λi=>bs.getD i true)=bs.all id:=by
   rw[aB,<- hl];rw[bZ];simp only[List.all_eq_true,List.mem_range,id];constructor
   ·intro hh x hx;obtain⟨i,hi,rfl⟩:=cQ.mp hx;have:=hh i hi;simpa[List.getD,hi] using this
   ·intro hh i hi;have:=hh bs[i] (dG hi);simpa[List.getD,hi] using this
  rw[e1];exact ⟨.bl (bs.all id),H,I.kept (t':=tk) λb o e=>k b o (by
   intro hb;have:b=s.heap.objs.size:=by simpa using hb
   exact absurd (aq e) (by rw [this];exact aQ _)) (af _ e),rfl,q⟩
end
end L2
namespace HT
open PySem PyProof.Rows
end HT
namespace L2
open PySem PySem.Spec PyProof.Rows
variable{X:Cx}{pos p:Pos}{H H':Hp}{Z:St}{s s':Shared}{B:Heap}{ea C:Addr}{a0:Value}{ta:TA}
theorem k8.get{P:Program}{w:World}{h:Heap}{a:Addr}:∀{o:HO},k8 P w H h a o->∃ob,h.get? a=some ob
 |.lst _,x=>by obtain⟨_,_,_,_,e⟩:=x;exact⟨_,e⟩
 |.tup _,x=>by obtain⟨_,_,_,o,e,_⟩:=x;exact⟨o,e⟩
 |.dK _,x=>by obtain⟨_,_,_,_,o,es,ep,e,_⟩:=x;exact⟨o,e⟩
 |.dT _,x=>by obtain⟨_,_,_,_,o,es,ep,e,_⟩:=x;exact⟨o,e⟩
 |.set _ _,x=>by obtain⟨o,es,ep,t,e,_⟩:=x;exact⟨o,e⟩
 |.ins _ _ _,x=>by obtain⟨_,_,_,e,_⟩:=x;exact⟨_,e⟩
 |.own _,x=>x
 |.xd _,x=>by obtain⟨mA,n,_⟩:=x;obtain⟨od,e,_⟩:=DG n;exact⟨od,e⟩
 |.kq _ _,x=>by obtain⟨_,_,_,e⟩:=x;exact⟨_,e⟩
 |.iZ _ _,x=>⟨_,x.1⟩
 |.mU _,x=>⟨_,x⟩
 |.met _ _,x=>⟨_,x⟩
 |.ext _,x=>x.2.1
def zB(H':Hp)(h0:Heap)(l:List Env)(e:Value)(C:Addr)(h:Heap):Prop :=
 ∃(ea:Addr) (a0:Value) (B:Heap),e=.ref ea/\Heap.FlyingW B l ea (.ref C) a0 h/\∀b o,h.get? b=some o->b∉gg l->(H' b≠none\/∃o0,h0.get? b=some o0)->B.get? b=some o
def iy(P:Program)(w:World):lE:=λouter H s E e s'=>∃(C:Addr) (H':Hp),s'.os=s.os/\AllBare s'.gens/\Un (gg outer) [] H H' s.heap s'.heap/\fH P w H' s'.heap/\zB H' s.heap outer e C s'.heap/\E (.ref C) none H'
section
variable{pins:List (Addr×Obj)}{E:XK}{e:Value}
theorem Inv.flew(I:Inv X pins Z H s)(h:iy X.prog X.w X.stack H s E e s'):∃C H',Inv X pins Z H' s'/\zB H' s.heap X.stack e C s'.heap/\E (.ref C) none H':=by
 obtain⟨C,H',ho,hb,hu,bD,fl,hE⟩:=h;exact⟨C,H',I.zG (ch:=[]) ho hu bD hb (by simp),fl,hE⟩
theorem za(I:Inv X pins Z H s){b:Addr}(hb:b∈gg X.stack):∃o,s.heap.get? b=some o/\∀vs,o.data≠.fields vs:=(I.stack.mem hb).2
theorem zI{kx:Heap}(I:Inv X pins Z H s)(dR:X.stack=X.env::X.outer)(hex:X.ex=[])(hf:X.env.frame=some X.env.locals)(rL:∀b o,s.heap.get? b=some o->b∉gg X.stack->(H b≠none\/∃o0,X.cV.heap.get? b=some o0)->B.get? b=some o)(sl:∀b∈gg X.stack,∀o,s.heap.get? b=some o->∃sl,kx.get? b=some { o with slots:=sl })(fw:Heap.FlyingW B X.outer ea (.ref C) a0 kx)(hE:E (.ref C) none H):iy X.prog X.w X.outer X.iF X.cV E (.ref ea) { s with heap:=kx }:=by
 have wA:∀b,b∈gg X.outer->b∈gg X.stack:=λb hb=>by rw[dR];unfold gg at hb ⊢;rw[dP,hf];exact bB _ hb
 have rf:∀b o,X.cV.heap.get? b=some o->b∉gg X.outer->b∉gg X.stack:=λb o e hb z=>by
  rcases aD.mp (I.G0 b z) with z|z
  ·exact absurd (aq e) (by rw[z];exact jj.mpr I.ok.above)
  ·exact hb z
 have nV:∀b u,H b=some u->b∉gg X.stack:=λb u e z=>by rw[I.yU b z] at e;cases e
 have kept:∀b o,s.heap.get? b=some o->b∉gg X.stack->(H b≠none\/∃o0,X.cV.heap.get? b=some o0)->kx.get? b=some o:=λb o e n q=>fw.1 b o (rL b o e n q);have rh:∀b,b∉X.ex:=λb=>by rw[hex];simp
 refine⟨C,H,I.os,I.bare,⟨?_,?_,?_,?_,I.base.hV,I.base.gL,I.base.hW⟩,?_,⟨ea,a0,B,rfl,fw,?_⟩,hE⟩
 ·exact λb o e n1 n2 _=>kept b o (I.base.keep b o e n1 n2 (rh b)) (rf b o e n2) (.inr ⟨o,e⟩)
 ·intro b o e n1 n2 _;obtain⟨Vp,e1⟩:=I.base.slot b o e n1 n2 (rh b);obtain⟨nZ,e2⟩:=sl b (wA b n2) _ e1;exact⟨nZ,e2⟩
 ·exact λb o e n1 _=>I.base.free b o e n1 (rh b)
 ·intro b o e _;obtain⟨o1,e1⟩:=I.base.there b o e (rh b);by_cases hb:b∈gg X.stack
  ·obtain⟨nZ,e2⟩:=sl b hb _ e1;exact⟨_,e2⟩
  ·exact⟨o1,kept b o1 e1 hb (.inr ⟨o,e⟩)⟩
 ·intro a o e;exact (I.bD a o e).T7 (λb u hb q=>by
   have jB:∃v,H b=some v:=by
    rcases hb with rfl|hb
    ·exact⟨o,e⟩
    ·exact⟨_,hb⟩
   obtain⟨v,hv⟩:=jB;exact kept b u q (nV b v hv) (.inl (by rw [hv];simp))) (λb hb=>hb) (λb xs hb=>hb)
 ·intro b o e n q;rcases q with q|⟨o0,q⟩
  ·obtain⟨v,hv⟩:=Option.ne_none_iff_exists'.mp q;obtain⟨o1,e1⟩:=(I.bD b v hv).get;have z:=rL b o1 e1 (nV b v hv) (.inl (by rw[hv];simp));have z':=fw.1 b o1 z;have:o=o1:=by
    have e':kx.get? b=some o:=e;rw[z'] at e';exact(aE e').symm
   subst this;exact z
  ·obtain⟨o1,e1⟩:=I.base.there b o0 q (rh b);have z:=rL b o1 e1 (rf b o0 q n) (.inr ⟨o0,q⟩);have z':=fw.1 b o1 z;have:o=o1:=by
    have e':kx.get? b=some o:=e;rw[z'] at e';exact(aE e').symm
   subst this;exact z
theorem Of{h0:Heap}{Ex:Value->Shared->Prop}(I:Inv X pins Z H s)(fl:zB H h0 X.stack e C s.heap)(HK:∀b o,X.cV.heap.get? b=some o->∃o',h0.get? b=some o')(dR:X.stack=X.env::X.outer)(hex:X.ex=[])(hf:X.env.frame=some X.env.locals)(hE:E (.ref C) none H):wpAny (model X.prog X.w) X.A (leaving X.env e) (λ_ mq=>iy X.prog X.w X.outer X.iF X.cV E e mq) Ex s:=by
 obtain⟨ea,a0,B,rfl,fw,hB⟩:=fl;have VO:=fw;rw[dR] at fw;refine wpAny_leaves_onW (by rw[I.ok.frames,dR]) hf fw λkx HZ us=>?_;refine zI I dR hex hf (λb o e n q=>hB b o e n (q.imp id λ⟨o0,q⟩=>HK b o0 q)) (λb hb o e=>?_) HZ hE;obtain⟨o1,e1,nf⟩:=za I hb;rw[e] at e1;cases e1;exact us b o e nf
theorem SF{h':Heap}{vs:List Value}{Ex:Value->Shared->Prop}(I:Inv X pins Z H s)(hx:Heap.MadeExcOf s.heap h' ea (.ref C) vs)(dR:X.stack=X.env::X.outer)(hex:X.ex=[])(hf:X.env.frame=some X.env.locals)(hE:E (.ref C) none H):wpAny (model X.prog X.w) X.A (leaving X.env (.ref ea)) (λ_ mq=>iy X.prog X.w X.outer X.iF X.cV E (.ref ea) mq) Ex { s with heap:=h' }:=by
 have pY:=I.stack;rw[dR] at pY;have mE:∀env∈(X.env::X.outer),∀b,env.frame=some b->b∈gg X.stack:=λenv he b hb=>by rw[dR];exact jk.mpr ⟨env,he,hb⟩
 refine wpAny_leaves_madeW (s:={ s with heap:=h' }) (base:=PySem.W.hideAll s.heap (gg X.stack)) (h:=s.heap) (by rw[I.ok.frames,dR]) hf (λb o q=>FJ _ q) (PySem.W.funFrames_hide pY mE) hx λkx t fw _ _ us=>?_;refine(show iy X.prog X.w X.outer X.iF X.cV E (.ref ea) { s with heap:=kx } from zI I dR hex hf (λb o e n _=>zZ _ e n) (λb hb o e=>?_) fw hE);obtain⟨o1,e1,nf⟩:=za I hb;rw[e] at e1;cases e1;exact us b o (hx.keeps b o e) nf
structure Lies(X:Cx)(H H':Hp)(s:Shared)(B:Heap)(ea C:Addr)(a0:Value)(s':Shared):Prop where
 os:s'.os=s.os
 bare:AllBare s'.gens
 un:Un (gg X.stack) [] H H' s.heap s'.heap
 bD:fH X.prog X.w H' s'.heap
 rL:∀b o,s'.heap.get? b=some o->b∉gg X.stack->(H' b≠none\/∃o0,s.heap.get? b=some o0)->B.get? b=some o
theorem Lies.inv(I:Inv X pins Z H s)(l:Lies X H H' s B ea C a0 s'):Inv X pins Z H' s':=I.zG (ch:=[]) l.os l.un l.bD l.bare (by simp)
theorem leave_held{Ex:Value->Shared->Prop}(I:Inv X pins Z H s)(l:Lies X H H' s B ea C a0 s')(hh:Heap.HeldW B X.stack ea (.ref C) a0 X.env.locals s'.heap)(dR:X.stack=X.env::X.outer)(hex:X.ex=[])(hf:X.env.frame=some X.env.locals)(hE:E (.ref C) none H'):wpAny (model X.prog X.w) X.A (leaving X.env (.ref ea)) (λ_ mq=>iy X.prog X.w X.outer X.iF X.cV E (.ref ea) mq) Ex s':=by
 have J:=l.inv I;have wO:=hh;rw[dR] at wO;unfold leaving;refine aa (wpAny_noteFrame_againW hf wO.2.2.2 ?_);refine wpAny_landsW wO λkx fl us=>?_;obtain⟨k1,k2,⟨_,_,k3⟩,k4⟩:=fl;refine zI J dR hex hf (λb o e n q=>l.rL b o e n (q.imp id λ⟨o0,q⟩=>I.base.there b o0 q (by rw[hex];simp))) (λb hb o e=>?_) ⟨k1,k2,k3,k4⟩ hE;obtain⟨o1,e1,nf⟩:=za J hb;rw[e] at e1;cases e1;exact us b o e nf
def uX(X:Cx)(Ξ:XK):Prop:=∀(pins:List (Addr×Obj)) (Z:St) (H:Hp) (s:Shared) (h':Heap) (ea C:Addr) (vs:List Value),Inv X pins Z H s->Heap.MadeExcOf s.heap h' ea (.ref C) vs->Ξ (.ref C) none H->X.xe (.ref ea) { s with heap:=h' }
def EX(X:Cx)(Ξ:XK):Prop:=∀(pins:List (Addr×Obj)) (Z:St) (H H':Hp) (s s':Shared) (B:Heap) (ea C:Addr) (a0:Value),Inv X pins Z H s->Lies X H H' s B ea C a0 s'->Heap.HeldW B X.stack ea (.ref C) a0 X.env.locals s'.heap->Ξ (.ref C) none H'->X.xe (.ref ea) s'
def TM(C:Addr)(Ξ:XK)(t:TA):TS:=λ_ Z H=>t Z H λvs H1=>vs.length<=sizeLine/\Ξ (.ref C) none H1
theorem Qt{x:Str}{B newId fK:String}{bm:List Value}{np fo:Pos}{ja:Expr}{rest:List Expr}{t:TA}{Ξ:XK}(hc:X.calm=true)(O:OwnCls x C bm newId X.mg X.base)(FB:ExcBaseFacts B newId fK bm)(hg:Gl X x)(ha:PA X (ja::rest) t)(hr:uX X Ξ)(he:starEach (ja::rest) X.env=(false,eval ja X.env)::starEach rest X.env)(fL:(backTo fo (starEach rest X.env)).any (·.1)=false)(hd:(x==("__debug__":Str))=false) :
  PS X (.Raise (some (.Call (.Name x np) (ja::rest) [] fo)) none pos) (TM C Ξ t):=by
 intro pins s Z H D I h;obtain⟨tl,N,nm,q,bs,hdct,sn,sub,ab,col,dd,k0,k1,k2,k3,k5,mN,hC,hN,uj,T⟩:=O.obj;refine wpAny_Raise_call_subT (C:=C) (nm:=nm) (q:=q) (N:=N) (bs:=bs) (bm:=tl) (hdct:=hdct) (sn:=sn) (sub:=sub) (ab:=ab) (col:=col) (dd:=dd) (k0:=k0) (k1:=k1) (k2:=k2) (k3:=k3) (k5:=k5)
  FB (mN:=mN) (T.hasType FB.hasBase) (I.ok.hd hc) (by rw[he];show(false||(backTo fo (starEach rest X.env)).any (·.1))=false;rw[fL];rfl) uj (N7 I hg O.bound ⟨rfl,?_⟩ hd)
 have h':=ha fo pins s Z H _ I h;rw[he] at h' ⊢;refine Calls.evalArgs_plain (br h' (λvs fW ie=>?_) λ_ _ y=>y);obtain⟨ws,H1,I1,rv,hz,hE⟩:=ie;exact⟨rfl,by rw[<- rv.length];exact hz,I1.bk _ _ hC,hN.keeps I1.bk,T.keeps I1.bk,λh2 ea hm=>hr pins Z H1 fW h2 ea C vs I1 hm hE⟩
end
def zT(K:PySem.W.Frag)(a:Addr):It :=
 ⟨λi H=>∃xs x,fe K H a xs/\xs[i]?=some x,λi H v H'=>∃p x,H p=none/\v=.ref p/\(∀xs,fe K H a xs->xs[i]?=some x)/\H'=upd H p (.tup [.int i,x]),λi H=>∃xs,fe K H a xs/\xs.length<=i⟩
theorem Sn{P:Program}{w:World}{K:PySem.W.Frag}{elts:List Expr}{x1:Nat}{tp:Pos}(a e it:Addr)(Bv:e≠it):Turn P w K (.Tuple elts x1 tp) (zT K a) [e,it] e (λi h=>(∃old,IsEnum h e it i old)/\h.IsListIter it a i) where
 mem:=by simp
 obj:=λi h st b hb=>by
  obtain⟨⟨old,h1⟩,o,h2,c,d⟩:=st;rcases aD.mp hb with z|z
  ·subst z;exact ⟨_,h1,λv z=>by
    have z':Data.fields _=Data.cell v:=z;cases z'⟩
  ·have z:b=it:=by simpa using z
   subst z;exact⟨o,h2,λv z=>by rw[d] at z;cases z⟩
 keep:=λi h h' st k=>by
  obtain⟨⟨old,h1⟩,h2⟩:=st;exact⟨⟨old,k e (by simp) _ h1⟩,h2.at λo x=>k it (by simp) o x⟩
 item:=by
  intro X hP hw hK hc i pins s Z H E I hf st hg;subst hP hw hK;obtain⟨⟨old,h1⟩,h2⟩:=st;obtain⟨xs,x,hq,hx⟩:=hg;obtain⟨aO,rv,p,hz⟩:=I.list hq;obtain⟨u,hu,ru⟩:=rv.get hx;obtain⟨e0,e1,e2,e3,e4,e5⟩:=hf e (by simp);obtain⟨f0,f1,f2,f3,f4,f5⟩:=hf it (by simp);refine wpAny_pyNext_enum_item h1 h2 p.isList (x:=u) (by simpa using hu) Bv λh' nt wN oB Ba lO=>?_;refine⟨_,rfl,wpAny_letOwnedTupleGo_enum nt λsC He iw=>?_⟩;have iw:Heap.SameBut e h' sC:=iw;have elt:e<s.heap.objs.size:=aq h1;have kp:∀b o,b≠e->b≠it->s.heap.get? b=some o->sC.get? b=some o:=λb o b1 b2 q=>(iw.2 b b1).trans (lO b o b1 b2 q);have hn:H s.heap.objs.size=none:=I.bD.fresh (aj _);have vM:sC.get? s.heap.objs.size=some { cls:=.type "tuple",data:=.seq #[.int i s.toks,u] }:=(iw.2 _ (bE elt)).trans oB;have ne:∀b u',H b=some u'->b≠e/\b≠it:=λb u' q=>And.intro (λ(z:b=e)=>by rw[z,e0] at q;cases q) (λ(z:b=it)=>by rw[z,f0] at q;cases q);have bD:fH X.prog X.w (upd H s.heap.objs.size (.tup [.int i,x])) sC:=λb o q=>by
   by_cases hb:b=s.heap.objs.size
   ·subst hb;rw[n9] at q;cases q;exact⟨by show 2<=sizeLine;decide,[.int i s.toks,u],.cons ⟨_,rfl⟩ (.cons ru .nil),_,vM,rfl,⟨_,rfl⟩,rfl⟩
   ·rw[d8 hb] at q;refine(I.bD b o q).T7 (λc v hc q'=>?_) (λc q'=>by rw[d8 (j9 q' hn)];exact q') λc ys q'=>by rw[d8 (j9 q' hn)];exact q'
    rcases hc with z|z
    ·subst z;exact kp _ _ (ne _ _ q).1 (ne _ _ q).2 q'
    ·exact kp _ _ (ne _ _ z).1 (ne _ _ z).2 q'
  have I2:Inv X pins Z (upd H s.heap.objs.size (.tup [.int i,x])) { s with heap:=sC,toks:=s.toks+1 }:=by
   refine I.step (g':=s.gens) (d':=s.drawn) (t':=s.toks+1) (ch:=[e,it]) (λb hb=>?_) (λb o _ _ hb q _=>kp b o (λz=>hb (by simp[z])) (λz=>hb (by simp[z])) q) (λb o _ _ hb q _=>⟨o.slots,kp b o (λz=>hb (by simp[z])) (λz=>hb (by simp[z])) q⟩)
    (λb o _ q n=>by rw[d8 (aF (aq q))];exact n) (λb o hb q=>⟨o,kp b o (λz=>hb (by simp[z])) (λz=>hb (by simp[z])) q⟩)
    (λb ys q=>by rw[d8 (j9 q hn)];exact q) (λb o' ys q=>by rw[d8 (j9 q hn)];exact q) (λb ps q=>⟨#[],by rw[d8 (j9 q hn),q];simp⟩) (λm hm=>?_) bD I.bare
   ·rcases aD.mp hb with z|z
    ·subst z;exact⟨e3,e1,e4,e5⟩
    ·have z:b=it:=by simpa using z
     subst z;exact⟨f3,f1,f4,f5⟩
   ·obtain⟨o,es,ep,ho,r⟩:=hm;exact⟨o,es,ep,kp _ o (bU e1) (bU f1) ho,r⟩
  refine⟨.ref s.heap.objs.size,_,I2,rfl,⟨s.heap.objs.size,x,hn,rfl,λys hy=>by rw[I.Dg hy hq];exact hx,rfl⟩,⟨⟨u,by simpa using He⟩,wN.at λo y=>(iw.2 it Bv.symm).trans y⟩,λb hb=>?_⟩;have jB:b<s.heap.objs.size:=by
   rcases aD.mp hb with z|z
   ·subst z;exact elt
   ·have z:b=it:=by simpa using z
    subst z;obtain⟨o,h2,_⟩:=h2;exact aq h2
  rw[d8 (aF jB)];exact(hf b hb).1
 done:=by
  intro X hP hw hK hc i pins s Z H E I hf st hg;subst hP hw hK;obtain⟨⟨old,h1⟩,h2⟩:=st;obtain⟨xs,hq,hx⟩:=hg;obtain⟨aO,rv,p,hz⟩:=I.list hq;obtain⟨f0,f1,f2,f3,f4,f5⟩:=hf it (by simp);have hl:=rv.length;exact wpAny_pyNext_enum_end (I.ok.hd hc) h1 h2 p.isList (by simp;omega) λh' eb=>⟨rfl,I.turned (t':=s.toks) (λb o hb e=>eb b o hb e) f0 f1 f3 f4 f5⟩
 self:=λ_ _ _ _ _ st h=>by
  obtain⟨⟨old,h1⟩,h2⟩:=st;exact wpAny_pyIter_enum h1 h
theorem OJ{l:Expr}{tp:Pos}{elts:List Expr}{x1:Nat}(hg:Gl X "enumerate")(hm:X.mg "enumerate"=none)(ha:PA X [l] ta)(hs:starEach [l] X.env=[(false,eval l X.env)]) :
  PI X (.Tuple elts x1 tp) (.Call (.Name "enumerate" p) [l] [] pos) (λZ H R=>ta Z H λvs H1=>∃a,vs=[.ref a]/\(∃xs,fe X.K H1 a xs)/\R (zT X.K a) H1):=by
 intro pins s Z H R I h;refine Call_ (M0 I hg hm PyProof.Rows.boot_enumerate (bT (cC (ha pos pins s Z H _ I h) λus s1 bc=>?_) hs rfl));obtain⟨vs,H1,I1,r1,q1⟩:=bc;obtain⟨a,e,⟨xs,hq⟩,q⟩:=q1;subst e;cases r1 with
 |cons r rr =>
  cases rr;cases r;obtain⟨aO,rv,p,hz⟩:=I1.list hq;refine call_enumerate_list p.isList λh' he hit hsz hk=>wpAny_pyIter_enum he ?_;refine⟨s1.heap.objs.size+1,[s1.heap.objs.size+1,s1.heap.objs.size],_,_,H1,rfl,I1.kept (t':=s1.toks) hk,Sn a _ _ (by simp),⟨⟨_,he⟩,hit⟩,λb hb=>?_,q⟩;have jB:s1.heap.objs.size<=b:=by
   rcases aD.mp hb with z|z
   ·rw[z];exact fQ _
   ·have z:b=s1.heap.objs.size:=by simpa using z
    rw[z];exact aj _
  exact I1.pj jB (I1.bD.fresh jB)
inductive zQ(X:Cx):List Expr->List TE->Prop
 |nil:zQ X [] []
 |cons {e:Expr} {t:TE} {es:List Expr} {ts:List TE} (h:PE X e t) (r:zQ X es ts):zQ X (e::es) (t::ts)
def EO:List TE->St->Hp->Str->(Str->Hp->Prop)->Prop
 |[],_,H,acc,Q=>Q acc H
 |t::ts,Z,H,acc,Q=>t Z H λx H1=>∃y,x=.str y/\(acc++y).length<=sizeLine/\EO ts Z H1 (acc++y) Q
theorem SD{lo:Int}{acc:Array Value}{n:Nat}(h:ItemsOf (λi v=>∃t,v=.int (lo+i*1) t) acc n):Vals ((List.range n).map λ(k:Nat)=>V.int (lo+k)) acc.toList:=by
 have hl:acc.toList.length=n:=by
  have:=h.1;simpa using this
 have go:∀(m:Nat) (l:List Value),l.length<=n->m+l.length=n->(∀i v,l[i]?=some v->∃t,v=Value.int (lo+((m+i:Nat):Int)) t)->Vals ((List.range' m l.length).map λ(k:Nat)=>V.int (lo+k)) l:=by
  intro m l
  induction l generalizing m with
  |nil=>intro _ _ _;exact .nil
  |cons x r ih =>
   intro h1 h2 h3;simp only[List.length_cons,List.range'_succ,List.map_cons];refine .cons ?_ (ih (m+1) (by simp at h1;omega) (by simp at h2;omega) λi v hv=>?_)
   ·obtain⟨t,e⟩:=h3 0 x rfl;exact⟨t,by rw[e];simp⟩
   ·obtain⟨t,e⟩:=h3 (i+1) v (by simpa using hv);exact⟨t,by rw[e,show m+(i+1)=m+1+i by omega]⟩
 have:=go 0 acc.toList (by omega) (by omega) λi v hv=>?_
 ·rw[hl,<- List.range_eq_range'] at this;exact this
 ·have hi:i<n:=by
   have:=(ao.mp hv).1;omega
  have:acc[i]?=some v:=by rw[<- hJ];exact hv
  obtain⟨t,e⟩:=h.2 i v this;refine⟨t,?_⟩;rw[e];simp
theorem W6(hc:X.calm=true):i8 X (.type "list") (λxs H Q=>∃a lo hi,xs=[.ref a]/\H a=some (.kq lo hi)/\(-(2 ^ 62)<=lo/\lo<2 ^ 62/\-(2 ^ 62)<=hi/\hi<2 ^ 62/\hi-lo<=100000)/\∀p,H p=none->Q (.ref p) (upd H p (.lst ((List.range (hi-lo).toNat).map λ(k:Nat)=>V.int (lo+k))))):=by
 intro pins s Z H xs us Q I r h;obtain⟨a,lo,hi,rfl,ha,⟨h1,h2,h3,h4,h5⟩,q⟩:=h;obtain⟨t,u,v,ho⟩:=I.bD a _ ha;cases r with
 |cons r rr =>
 cases rr;cases r;have hn:Builtin.Range.rangeSize lo hi 1=((hi-lo).toNat:Nat):=by rw[rangeSize_one];split<;>omega
 refine call_list_range (n:=(hi-lo).toNat) (I.ok.hd hc) ho (small_one h1 h2 h3 h4) hn (by omega) λh' iG acc c hk hS nr=>?_;have hp:H s.heap.objs.size=none:=I.bD.fresh (aj _);refine⟨.ref _,_,I.laid (a:=s.heap.objs.size) (o:=.lst ((List.range (hi-lo).toNat).map λ(k:Nat)=>V.int (lo+k))) (t':=iG) hk (aj _) ⟨?_,acc.toList,c,SD nr,by simpa using hS⟩,rfl,q _ hp⟩;rw[ak,Vg];have:(hi-lo).toNat<=100000:=by omega
 exact aG this (by decide)
theorem RS{a:Expr}(hg:Gl X "range")(hm:X.mg "range"=none)(ha:PA X [a] ta)(hs:starEach [a] X.env=[(false,eval a X.env)]):PE X (.Call (.Name "range" p) [a] [] pos) (λZ H Q=>ta Z H λvs H1=>∃j:Int,vs=[.int j]/\∀q,H1 q=none->Q (.ref q) (upd H1 q (.kq 0 j))):=by
 intro pins s Z H Q I h;refine cD (M0 I hg hm boot_range (bT (cC (ha pos pins s Z H _ I h) λus s1 bc=>?_) hs rfl));obtain⟨vs,H1,I1,r1,q1⟩:=bc;obtain⟨j,e,q⟩:=q1;subst e;cases r1 with
 |cons r rr =>
  cases rr;obtain⟨t,rfl⟩:=r;exact call_range_1 ⟨.ref s1.heap.objs.size,_,I1.laid (a:=s1.heap.objs.size) (o:=.kq 0 j) (λb o e=>af _ e) (aj _) ⟨_,_,_,ay _ rfl⟩,rfl,q _ (I1.bD.fresh (aj _))⟩
theorem RT{a b:Expr}(hg:Gl X "range")(hm:X.mg "range"=none)(ha:PA X [a,b] ta)(hs:starEach [a,b] X.env=[(false,eval a X.env),(false,eval b X.env)])(iw:starEach [b] X.env=[(false,eval b X.env)]):PE X (.Call (.Name "range" p) [a,b] [] pos) (λZ H Q=>ta Z H λvs H1=>∃i j:Int,vs=[.int i,.int j]/\∀q,H1 q=none->Q (.ref q) (upd H1 q (.kq i j))):=by
 intro pins s Z H Q I h;refine cD (M0 I hg hm boot_range (bT (cC (ha pos pins s Z H _ I h) λus s1 bc=>?_) (by rw[hs,iw]) (by rw[iw];rfl)));obtain⟨vs,H1,I1,r1,q1⟩:=bc;obtain⟨i,j,e,q⟩:=q1;subst e;cases r1 with
 |cons r rr =>
  cases rr with
  |cons r' rr =>
   cases rr;obtain⟨t,rfl⟩:=r;obtain⟨t',rfl⟩:=r';exact call_range_2 ⟨.ref s1.heap.objs.size,_,I1.laid (a:=s1.heap.objs.size) (o:=.kq i j) (λb o e=>af _ e) (aj _) ⟨_,_,_,ay _ rfl⟩,rfl,q _ (I1.bD.fresh (aj _))⟩
def tm(K:PySem.W.Frag)(P:Params)(a:Addr)(kvs:List (Str×V)):Prop :=
 ∃es n,K.lookup a=some ⟨.type "dict",none,.dict es n,#[]⟩/\PySem.W.KeysLit P es.toList/\(a==sysModules)=false/\∀x,E2 (kvs.lookup x) (findBy Value.isStrOf es x)
theorem Fd{kvs:List (Str×V)}(neg:Bool):fj X (compareOp (if neg then .NotIn else .In)) (λx y H Q=>∃a z,y=.ref a/\tm X.K X.w.params a kvs/\x=.str z/\Q (.bl (xor neg (kvs.lookup z).isSome)) H):=by
 intro pins s Z H x y v u Q I rx ry h;obtain⟨a,z,rfl,⟨es,n,hl,hk,lo,hf⟩,rfl,q⟩:=h;obtain⟨t,rfl⟩:=rx;cases ry;have hm:=PySem.W.mapOf_K (prog:=X.prog) (w:=X.w) I.gb hl hk;have e:=hf z;have ee:(findBy Value.isStrOf es z).isSome=(kvs.lookup z).isSome:=by
  cases h1:kvs.lookup z<;>cases h2:findBy Value.isStrOf es z<;>rw[h1,h2] at e<;>first|rfl|exact e.elim
 cases neg
 ·exact wpAny_in_of (strKind_is X.prog X.w z t) lo hm ⟨.bl _,H,I.tok _,by rw[ee];rfl,by simpa using q⟩
 ·exact wpAny_notIn_of (strKind_is X.prog X.w z t) lo hm ⟨.bl _,H,I.tok _,by rw[ee];rfl,by simpa using q⟩
theorem Ky{kvs:List (Str×V)}:pD X (λx y H Q=>∃a z v,x=.ref a/\tm X.K X.w.params a kvs/\y=.str z/\kvs.lookup z=some v/\Q v H):=by
 intro value slice pins s Z H x y v u Q I rx ry h hs;obtain⟨a,z,d,rfl,⟨es,n,hl,hk,lo,hf⟩,rfl,hz,q⟩:=h;cases rx;obtain⟨t,rfl⟩:=ry;have hm:=PySem.W.mapOf_K (prog:=X.prog) (w:=X.w) I.gb hl hk;have e:=hf z;rw[hz] at e;cases h2:findBy Value.isStrOf es z with
 |none=>rw[h2] at e;exact e.elim
 |some r =>
  rw[h2] at e;exact tail_any hm.typeIs slot_dict_getitem.lookup (wpAny_getItem_of (strKind_is X.prog X.w z t) hm h2 ⟨d,H,I.tok _,e,q⟩) hs
theorem Uw(hu:X.A.units+1<cLine):pD X (λx y H Q=>∃a v,x=.ref a/\M5 H a y (some v)/\Q v H):=by
 intro value slice pins s Z H x y v u Q I rx ry h hs;obtain⟨a,d,rfl,g,q⟩:=h;cases rx;exact tail_any (NJ I g) slot_dict_getitem.lookup (Rp hu I g ry λw' s3 I3 fg=>⟨d,H,I3,fg,q⟩) hs
end L2
namespace ST
open PySem PyProof.Rows
variable{xs:Array Nat}{i k j n ep:Nat}{t:SetTable}{h h':Heap}{L:Bool}{es:Array (Int×Value)}{x f:Value}{prog:Program}{w:World}{a I b l:Addr}{ks ns:List Int}{A:Around}{E Q:Value->Shared->Prop}{s:Shared}{pl:List Nat}{α:Type}{r:Rd}{items:Array Value}
noncomputable abbrev jC(xs:Array Nat):Prop:=xs.toList.Pairwise (· < ·)
theorem jC.lt(h:jC xs)(rY:i<k)(hk:k<xs.size):xs.getD i 0<xs.getD k 0:=by
 have:=List.pairwise_iff_getElem.mp h i k (by simpa using bW rY hk) (by simpa using hk) rY;simp only[Array.getElem_toList] at this;rw[<- dq (h:=bW rY hk),<- dq (h:=hk)];exact this
theorem jC.le(h:jC xs)(rY:i<=k)(hk:k<xs.size):xs.getD i 0<=xs.getD k 0:=by
 rcases Nat.eq_or_lt_of_le rY with e|e
 ·rw[e];exact aj _
 ·exact cG (h.lt e hk)
theorem yO{xs:Array Nat}{j:Nat}(h:jC xs):∀(fuel lo hi:Nat),hi-lo<=fuel->lo<=hi->hi<=xs.size->(∀i,i<lo->xs.getD i 0<j)->(∀i,hi<=i->i<xs.size->j<=xs.getD i 0) ->
  SetTable.below.go xs j fuel lo hi<=xs.size/\(∀i,i<SetTable.below.go xs j fuel lo hi->xs.getD i 0<j)/\∀i,SetTable.below.go xs j fuel lo hi<=i->i<xs.size->j<=xs.getD i 0
 |0,lo,hi,h1,h2,h3,h4,h5=>by
  unfold SetTable.below.go;have:lo=hi:=by omega
  subst this;exact⟨h3,h4,h5⟩
 |fuel+1,lo,hi,h1,h2,h3,h4,h5=>by
  unfold SetTable.below.go;split
  ·rename_i hl;have hm:(lo+hi) / 2<xs.size:=by omega
   have em:xs.getD ((lo+hi) / 2) j=xs.getD ((lo+hi) / 2) 0:=by simp[Array.getD,hm]
   dsimp only;rw[em];by_cases hc:xs.getD ((lo+hi) / 2) 0<j
   ·rw[aN hc];exact yO h fuel _ hi (by omega) (by omega) h3 (λi nr=>fy (h.le (by omega) hm) hc) h5
   ·rw[aH hc];exact yO h fuel lo _ (by omega) (by omega) (by omega) h4 λi nr hs=>aG (cH hc) (h.le nr hs)
  ·have:lo=hi:=by omega
   subst this;exact⟨h3,h4,h5⟩
theorem N4(j:Nat)(h:jC xs):SetTable.below xs j<=xs.size/\(∀i,i<SetTable.below xs j->xs.getD i 0<j)/\∀i,SetTable.below xs j<=i->i<xs.size->j<=xs.getD i 0 :=
 yO h _ 0 _ (by omega) (by omega) (aj _) (λi hi=>absurd hi (Nat.not_lt_zero _)) λi h1 h2=>absurd h2 (by omega)
theorem below_at(h:jC xs)(hi:i<xs.size):SetTable.below xs (xs.getD i 0)=i:=by
 obtain⟨h1,h2,h3⟩:=N4 (xs.getD i 0) h;rcases du (SetTable.below xs (xs.getD i 0)) i with z|z|z
 ·exact absurd (h3 _ (aj _) (by omega)) (Nat.not_le_of_lt (h.lt z hi))
 ·exact z
 ·exact absurd (h2 i z) (aQ _)
theorem Sv(h:jC xs)(hi:i<xs.size):SetTable.below xs (xs.getD i 0+1)=i+1:=by
 obtain⟨h1,h2,h3⟩:=N4 (xs.getD i 0+1) h;rcases du (SetTable.below xs (xs.getD i 0+1)) (i+1) with z|z|z
 ·have:=h3 i (by omega) hi;omega
 ·exact z
 ·have:=h2 (i+1) z;have:=h.lt (dE i) (k:=i+1) (by omega);omega
theorem Sw(h:jC xs):SetTable.below xs 0=0:=by
 obtain⟨_,h2,_⟩:=N4 0 h;rcases Nat.eq_zero_or_pos (SetTable.below xs 0) with z|z
 ·exact z
 ·exact absurd (h2 0 z) (Nat.not_lt_zero _)
theorem getD_mem(hi:i<xs.size):xs[i]?=some (xs.getD i 0):=by simp[Array.getD,hi]
theorem Nu(h:jC t.place)(hs:t.slot j=.empty):j∉t.place.toList:=by
 intro hm;obtain⟨i,hi,e⟩:=cQ.mp hm;have nr:i<t.place.size:=by simpa using hi
 have ej:t.place.getD i 0=j:=by rw[<- dq (h:=nr)];simpa using e
 have hb:=below_at h nr;rw[ej] at hb;unfold SetTable.slot at hs;dsimp only at hs;rw[hb,getD_mem nr,ej] at hs;simp at hs
theorem SQ(h:jC xs)(hj:j∉xs.toList):jC (SetTable.insertAt xs (SetTable.below xs j) j):=by
 obtain⟨h1,h2,h3⟩:=N4 j h;show(SetTable.insertAt xs (SetTable.below xs j) j).toList.Pairwise (· < ·);rw[SetTable.toList_insertAt,iz];have tk:∀a∈xs.toList.take (SetTable.below xs j),a<j:=λa ha=>by
  obtain⟨i,hi,e⟩:=cQ.mp ha;rw[cw] at hi;rw[List.getElem_take] at e;have hs:i<xs.size:=by simp at hi;omega
  have:=h2 i (by omega);rw[<- dq (h:=hs)] at this;simp at e;omega
 have dp:∀b∈xs.toList.drop (SetTable.below xs j),j<b:=λb hb=>by
  obtain⟨i,hi,e⟩:=cQ.mp hb;rw[jX] at hi;rw[List.getElem_drop] at e;have hs:SetTable.below xs j+i<xs.size:=by simp at hi;omega
  have:=h3 (SetTable.below xs j+i) (by omega) hs;rw[<- dq (h:=hs)] at this;have dI:b≠j:=λz=>hj (by rw[<- z];exact List.mem_of_mem_drop hb);simp at e;omega
 refine⟨h.take,fA.mpr ⟨dp,h.drop⟩,λa ha b hb=>?_⟩;have lq:=tk a ha;rcases aD.mp hb with z|z
 ·omega
 ·have:=dp b z;omega
theorem Sd(n:Nat):jC (Array.range n):=by
 show(Array.range n).toList.Pairwise (· < ·);rw[Array.toList_range];exact de
structure Well(L:Bool)(t:SetTable):Prop where
 tY:jC t.place
 xK:t.dummies=#[]
 led:t.led=L
theorem Qf(hd:t.dummies=#[])(j:Nat):t.slot j≠.dummy:=by
 unfold SetTable.slot;dsimp only;split
 ·intro z;cases z
 ·rw[hd];split
  ·rename_i z;simp[SetTable.has] at z
  ·intro z;cases z
theorem Em{t:SetTable}(hd:t.dummies=#[]){hashAt:Nat->Int}{h:Int}:∀(fuel:Nat) (p:SetTable.Probe) {j:Nat} {dm:Option Nat},p.dummy=none->SetTable.probe.go t hashAt h fuel p=some (.empty j dm)->t.slot j=.empty/\dm=none
 |0,p,j,dm,_,e=>by simp[SetTable.probe.go] at e
 |fuel+1,p,j,dm,hp,e=>by
  unfold SetTable.probe.go at e;have ad:∀q:SetTable.Probe,q.dummy=none->(t.advance q).dummy=none:=λq hq=>by
   unfold SetTable.advance;split
   ·exact hq
   ·exact hq
  split at e
  ·rename_i hs;cases e;exact⟨hs,hp⟩
  ·rename_i hs;exact absurd hs (Qf hd _)
  ·split at e
   ·cases e
   ·exact Em hd fuel _ (ad p hp) e
theorem Rt(hd:t.dummies=#[]){h:Int}{wd:Bool}(e:t.freeSlot h=some (j,wd)):t.slot j=.empty/\wd=false:=by
 unfold SetTable.freeSlot at e;split at e
 ·rename_i j' dm hp;obtain⟨h1,h2⟩:=Em hd _ _ rfl hp;subst h2;cases e;exact⟨h1,rfl⟩
 ·cases e
theorem H9(h:Well L t)(n:Nat):Well L (t.standIn n):=⟨Sd n,rfl,h.led⟩
theorem NL{h:Int}(hw:Well L t):Well L (layNew t es h x).2.1/\(layNew t es h x).2.2.1=false:=by
 unfold layNew;split
 ·rename_i slot wd e;obtain⟨h1,h2⟩:=Rt hw.xK e;refine⟨?_,h2⟩;have hd:SetTable.has t.dummies slot=false:=by rw[hw.xK];simp[SetTable.has]
  have w2:Well L (t.put slot).1:=⟨SQ hw.tY (Nu hw.tY h1),by simp only[SetTable.put,hd];exact hw.xK,hw.led⟩
  dsimp only;unfold SetTable.orStandIn;split
  ·exact w2
  ·exact H9 w2 _
 ·exact⟨H9 hw _,rfl⟩
theorem RD{mask finger moves:Nat}{led plain:Bool}{hashes:Array Int}{o:Array Nat}(hl:led=L)(e:SetTable.laid mask finger moves led plain hashes=some (t,o)):Well L t:=by
 unfold SetTable.laid at e;cases ho:SetTable.layClean mask hashes with
 |none=>rw[ho] at e;cases e
 |some owner =>
  rw[ho] at e;simp only[Option.bind_eq_bind,Option.bind_some,Option.pure_def,Option.some.injEq,Prod.mk.injEq] at e;obtain⟨rfl,_⟩:=e;refine⟨?_,rfl,hl⟩;show(List.map _ _).toArray.toList.Pairwise (· < ·);rw[List.toList_toArray];have sub:((List.range (mask+1)).filterMap λj=>(owner.getD j none).map (j,·)).map (·.1) |>.Sublist (List.range (mask+1)):=by
   generalize List.range (mask+1)=l
   induction l with
   |nil=>simp
   |cons a r ih =>
    rw[dP];cases owner.getD a none with
    |none=>exact ih.cons a
    |some k=>exact ih.cons_cons a
  exact tQ sub de
theorem Ou(hw:Well L t):Well L (relayAll t es n).2.1:=by
 unfold relayAll;split
 ·rename_i t' order e;dsimp only;split
  ·exact RD hw.led e
  ·exact H9 hw _
 ·exact H9 hw _
def toI:Value->Int
 |.int k _=>k
 |_=>0
def Led(w:World):Bool:=!(w.params.followText "set-order")
def o7(prog:Program)(w:World)(h:Heap)(a:Addr)(ks:List Int):Prop :=
 ∃o es ep t,h.get? a=some o/\o.ExactSet/\o.data=.set es ep t/\ElemsOf (intKind prog w) es.toList/\(es.toList.map λe=>toI e.2).Perm ks/\ks.Nodup/\es.size<scanBound/\t.fits es.size=true/\Well (Led w) t
theorem o7.at(x:o7 prog w h a ks)(k:∀o,h.get? a=some o->h'.get? a=some o):o7 prog w h' a ks:=by
 obtain⟨o,es,ep,t,e,r⟩:=x;exact⟨o,es,ep,t,k o e,r⟩
theorem vd{e:Int×Value}{es:List (Int×Value)}(h:ElemsOf (intKind prog w) es)(he:e∈es):∃tk,e.2=.int (toI e.2) tk/\e.1=(intKind prog w).hash (toI e.2):=by
 obtain⟨⟨k,h1,h2⟩,_⟩:=h e he;obtain⟨t,ht⟩:=lX (k:=k) (v:=e.2) h1;refine⟨t,by rw[ht];rfl,?_⟩;rw[h2,ht]
 rfl
theorem Fb{e:Int×Value}{es:List (Int×Value)}(h:ElemsOf (intKind prog w) es)(he:e∈es)(k:Int):(intKind prog w).is k e.2=decide (toI e.2=k):=by
 obtain⟨t,ht,_⟩:=vd h he;show Value.isInt k e.2=_;rw[ht];generalize toI e.2=m;show Value.isInt k (.int m t)=decide (m=k);by_cases z:m=k
 ·subst z;simp[Value.isInt]
 ·rw[aJ z];cases hv:Value.isInt k (.int m t) with
  |false=>rfl
  |true =>
   obtain⟨t',e'⟩:=lX hv;cases e';exact absurd rfl z
theorem o7.mem{a:Addr}{es:List (Int×Value)}(h:ElemsOf (intKind prog w) es)(hp:(es.map λe=>toI e.2).Perm ks)(k:Int):(es.findIdx? λe=>(intKind prog w).is k e.2).isSome=decide (k∈ks):=by
 rw[bZ,bp,<- hp.mem_iff,aM,dU];constructor
 ·rintro⟨i,hi⟩;obtain⟨h1,h2,_⟩:=jx.mp hi;have hm:=dG h1;rw[Fb h hm] at h2;exact⟨_,hm,bw h2⟩
 ·rintro⟨e,he,rfl⟩;cases hf:es.findIdx? λe'=>(intKind prog w).is (toI e.2) e'.2 with
  |some i=>exact⟨i,rfl⟩
  |none =>
   have:=List.findIdx?_eq_none_iff.mp hf e he;rw[Fb h he] at this;simp at this
def w6(ks:List Int)(k:Int):List Int:=if k∈ks then ks else ks++[k]
theorem Py(ks:List Int)(k:Int):(w6 ks k).length<=ks.length+1:=by unfold w6;split<;>simp
theorem Ep{k:Int}{tk:Tok}{Q:Bool->Shared->Prop}(hS:o7 prog w s.heap a ks)(hr:ks.length+1<scanBound)(h:∀h' b,Heap.SameBut a s.heap h'->o7 prog w h' a (w6 ks k)->Q b { s with heap:=h' }):wpAny (model prog w) A (setAddHashed a (.int k tk) ((intKind prog w).hash k)) Q E s:=by
 obtain⟨o,es,ep,t,ho,hx,hd,lg,hp,hn,hb,hf,hw⟩:=hS;have hlen:es.size=ks.length:=by rw[<- hp.length_eq];simp
 have jt:(intKind prog w).is k (.int k tk)=true:=gh _ _ _ _;have gv:∀(b:Bool) (s1:Shared) (Q':Unit->Shared->Prop),Q' () s1->wpAny (model prog w) A (match b with|true=>rule "set.scan.the-table-gave-way"|false=>pure ()) Q' E s1:=λb s1 Q' q=>by
  cases b
  ·exact ag q
  ·exact eP q
 unfold setAddHashed setAddHashedIn;refine bx (aa (cg ho hd hf ?_));dsimp only;rw[byScan_of rfl hb lg,aN rfl];unfold setAddByScan;refine aa (aa (eP (aa (wpAny_setScan_of jt ho hd hf lg ?_))));have hm:=o7.mem (a:=a) lg hp k;cases rR:es.toList.findIdx? (λe=>(intKind prog w).is k e.2) with
 |some j =>
  rw[rR] at hm;have hk:k∈ks:=by simpa using hm.symm
  refine ag (ag ?_);have e0:s={ s with heap:=s.heap }:=rfl;rw[e0];refine h s.heap _ (Heap.SameBut.refl a s.heap) ?_;unfold w6;rw[aN hk];exact⟨o,es,ep,t,ho,hx,hd,lg,hp,hn,hb,hf,hw⟩
 |none =>
  rw[rR] at hm;have hk:k∉ks:=by simpa using hm.symm
  dsimp only;have p1:=layNew_perm t es ((intKind prog w).hash k) (.int k tk);have f1:=layNew_fits t es ((intKind prog w).hash k) (.int k tk);obtain⟨w1,vH⟩:=NL (es:=es) (h:=(intKind prog w).hash k) (x:=.int k tk) hw;generalize layNew t es ((intKind prog w).hash k) (.int k tk)=R1 at p1 f1 w1 vH ⊢;obtain⟨fN,t1,wd,HS⟩:=R1;dsimp only at p1 f1 w1 vH ⊢;subst vH;rw[Vj] at p1;have BO:ElemsOf (intKind prog w) fN.toList:=(lg.push jt rfl).perm p1;have Vo:fN.size=es.size+1:=by rw[<- ba,p1.length_eq];simp
  have k1:(fN.toList.map λe=>toI e.2).Perm (w6 ks k):=by
   unfold w6;rw[aH hk];refine(p1.map _).trans ?_;rw[cN];exact hp.append_right _
  have n1:(w6 ks k).Nodup:=by
   unfold w6;rw[aH hk,dz];exact⟨hn,by simp,λx hx y hy=>by simp at hy;subst hy;exact λz=>hk (z▸hx)⟩
  refine aa (gv _ _ _ ?_);have fin:∀ (t2:SetTable),t2.fits fN.size=true->Well (Led w) t2->wpAny (model prog w) A (do
    storeSet a fN t2
    if(!false&&t2.tooFull)=true then do
      (match(relayAll t2 fN (SetTable.grown fN.size)).2.2 with|true=>rule "set.scan.the-table-gave-way"|false=>pure ())
      storeSet a (relayAll t2 fN (SetTable.grown fN.size)).1 (relayAll t2 fN (SetTable.grown fN.size)).2.1
      pure (some true)
     else pure (some true)) (λr s'=>wpAny (model prog w) A (match r with | some added=>pure added | none=>setAddHashedIn a (.int k tk) ((intKind prog w).hash k) 99999) Q E s') E s:=λt2 f2 w2=>by
   have g1:(s.heap.update a (Obj.putSet fN t2)).get? a=some { o with data:=.set fN (ep+1) t2 }:=by
    have:=aR (Obj.putSet fN t2) ho (by rw[Vc fN t2 hd];rfl);rw[Vc fN t2 hd] at this;exact this
   refine aa (wpAny_storeSet_of ho hd ?_ (fits_of_scanBound (by omega)));have As:=bR s.heap a (Obj.putSet fN t2);split
   ·have p2:=relayAll_perm t2 fN (SetTable.grown fN.size);have f3:=relayAll_fits t2 fN (SetTable.grown fN.size);have w3:=Ou (es:=fN) (n:=SetTable.grown fN.size) w2;generalize relayAll t2 fN (SetTable.grown fN.size)=R2 at p2 f3 w3 ⊢;obtain⟨lC,t3,VM⟩:=R2;dsimp only at p2 f3 w3 ⊢;have Vn:lC.size=fN.size:=by rw[<- ba,p2.length_eq,ba]
    refine aa (gv _ _ _ ?_);refine aa (wpAny_storeSet_of g1 rfl ?_ (fits_of_scanBound (by omega)));refine ag (ag (h _ _ (As.trans (bR _ a _)) ?_));have g2:((s.heap.update a (Obj.putSet fN t2)).update a (Obj.putSet lC t3)).get? a=some { o with data:=.set lC (ep+1+1) t3 }:=by
     have:=aR (Obj.putSet lC t3) g1 (by rw[Vc lC t3 rfl];rfl);rw[Vc lC t3 rfl] at this;exact this
    exact⟨_,lC,_,t3,g2,hx,rfl,BO.perm p2,(p2.map _).trans k1,n1,by omega,f3,w3⟩
   ·exact ag (ag (h _ _ As ⟨_,fN,_,t2,g1,hx,rfl,BO,k1,n1,by omega,f1 |> λ_=>f2,w2⟩))
  split
  ·refine aa (dt (hashByValue_scannable 8 rfl) ?_);exact fin _ f1 w1
  ·refine aa (ag ?_);exact fin _ f1 w1
theorem Oa:entryFor table "set.__iter__"=some Builtin.«frozenset.__iter__» :=
 entryFor_alias (id':="frozenset.__iter__") (by kernel_rfl) rfl (by decide +kernel) (by kernel_rfl)
theorem A6:Slot "set_iterator" "__next__" "set_iterator.__next__" :=
 .of (owner:="set_iterator") (n:="__next__") (by rw[jd,fq];kernel_rfl) (by decide +kernel) (by decide +kernel) (by decide +kernel)
  (by first|exact .inl (by decide +kernel)|exact .inr (by decide +kernel)) (by rw[eY];kernel_rfl)
theorem Ef:entryFor table "set_iterator.__next__"=some Builtin.«set_iterator.__next__»:=entryFor_of_tree (by kernel_rfl)
theorem Z1(a:Value):argsOk "set_iterator.__next__" ⟨[a],[]⟩:=by
 unfold argsOk
 kernel_rfl
theorem X3:Slot "set_iterator" "__iter__" "set_iterator.__iter__" :=
 .of (owner:="set_iterator") (n:="__iter__") (by rw[jd,fq];kernel_rfl) (by decide +kernel) (by decide +kernel) (by decide +kernel)
  (by first|exact .inl (by decide +kernel)|exact .inr (by decide +kernel)) (by rw[eY];kernel_rfl)
theorem NK:entryFor table "set_iterator.__iter__"=some Builtin.«dict_keyiterator.__iter__» :=
 entryFor_alias (id':="dict_keyiterator.__iter__") (by kernel_rfl) rfl (by decide +kernel) (by kernel_rfl)
theorem NU(a:Value):argsOk "set_iterator.__iter__" ⟨[a],[]⟩:=by
 unfold argsOk
 kernel_rfl
inductive Rd|text|plain|drawn
structure Lies(h:Heap)(a:Addr)(es:Array (Int×Value))(ep:Nat)(t:SetTable):Prop where
 at_:∃o,h.get? a=some o/\o.cls=.type "set"/\o.data=.set es ep t
 fit:t.fits es.size=true
theorem Lies.at(x:Lies h a es ep t)(k:∀o,h.get? a=some o->h'.get? a=some o):Lies h' a es ep t :=
 ⟨let ⟨o,e,r⟩:=x.at_;⟨o,k o e,r⟩,x.fit⟩
def B9(h:Heap)(I a:Addr)(f:Value)(i n ep:Nat):Prop:=∃o,h.get? I=some o/\o.cls=.type "set_iterator"/\o.data=.fields #[f,rawInt i,.ref a,rawInt n,rawInt ep]
theorem B9.at(x:B9 h I a f i n ep)(k:∀o,h.get? I=some o->h'.get? I=some o):B9 h' I a f i n ep:=let ⟨o,e,r⟩:=x;⟨o,k o e,r⟩
theorem B9.ty(x:B9 s.heap I a f i n ep):s.TypeIs (.ref I) "set_iterator":=let ⟨o,e,c,_⟩:=x;⟨o,e,c⟩
def tB(w:World)(a:Addr)(es:Array (Int×Value))(ep:Nat)(pl:List Nat):Rd->List Value
 |.text=>(pickOrder (w.params.setOrder a ep) es).toList.map (·.2)
 |.plain=>es.toList.map (·.2)
 |.drawn=>pl.map λj=>(es.getD j (0,.none)).2
def slotAt(t:SetTable):Nat->Nat
 |0=>0
 |i+1=>t.place.getD i 0+1
def K6(h:Heap)(t:SetTable)(b:Addr)(pl:List Nat)(i:Nat)(f:Value):Rd->Prop
 |.text=>∃k:Nat,f=rawInt k
 |.plain=>f=rawInt (slotAt t i)
 |.drawn=>f=.ref b/\∃o e,h.get? b=some o/\o.cls=.type "tuple"/\o.data=.seq (pl.map λj=>rawInt (j:Nat)).toArray e
def qg(w:World)(es:Array (Int×Value))(t:SetTable)(pl:List Nat):Rd->Prop
 |.text=>w.params.followText "set-order"=true
 |.plain=>w.params.followText "set-order"=false/\(t.plain=true\/es.size<=1)/\Well true t
 |.drawn=>w.params.followText "set-order"=false/\pl.Perm (List.range es.size)
theorem Z0{Q:Bool->Shared->Prop}(h:Q (w.params.followText "set-order") s):wpAny (model prog w) A setsByText Q E s:=by
 unfold setsByText;exact aa (nN (ag h))
theorem DI(hL:Lies s.heap a es ep t)(ht:w.params.followText "set-order"=true){sl g:Nat}{Q:Option (Value×Nat)->Shared->Prop}(h:Q (((pickOrder (w.params.setOrder a ep) es)[g]?).map λe=>(e.2,sl)) s) :
  wpAny (model prog w) A (setNext a sl g ep) Q E s:=by
 obtain⟨o,ho,_,hd⟩:=hL.at_;unfold setNext;refine aa (cg ho hd hL.fit ?_);refine aa (Z0 ?_);rw[ht,aN rfl,aH (by simp)];unfold setWalk;refine aa (aa (cg ho hd hL.fit ?_));refine aa (Z0 ?_);rw[ht,aN rfl];exact aa (nN (ag (ag h)))
theorem DY(hL:Lies s.heap a es ep t)(ht:w.params.followText "set-order"=false)(hp:t.plain=true\/es.size<=1)(hl:t.led=true){sl g:Nat}{Q:Option (Value×Nat)->Shared->Prop}(h:Q (match es[SetTable.below t.place sl]?,t.place[SetTable.below t.place sl]? with|some (_,x),some j=>some (x,j+1)|_,_=>none) s):wpAny (model prog w) A (setNext a sl g ep) Q E s:=by
 obtain⟨o,ho,_,hd⟩:=hL.at_;unfold setNext;refine aa (cg ho hd hL.fit ?_);refine aa (Z0 ?_);rw[ht,aH (by decide)];show wpAny _ _ (if(!t.plain&&decide (es.size>1))=true then _ else _) _ _ _;rw[aH (by rcases hp with e|e<;>simp[e])];refine aa (dt (a:=()) ?_ (ag h));show((if(!t.led&&!es.isEmpty)=true then unsupported "set:maker-not-led" else pure ()):Sem Unit)=pure ();rw[hl]
 rfl
theorem SK(hL:Lies s.heap a es ep t)(hj:j<es.size)(h:Q (es.getD j (0,.none)).2 s):wpAny (model prog w) A (setNextDrawn a j ep) Q E s:=by
 obtain⟨o,ho,_,hd⟩:=hL.at_;unfold setNextDrawn;refine aa (cg ho hd hL.fit ?_);dsimp only;rw[aH (by simp)];have e:es[j]?=some (es.getD j (0,.none)):=by simp[Array.getD,hj]
 rw[e];exact ag h
theorem Dr(hL:Lies s.heap a es ep t):t.place.size=es.size:=by
 have:=hL.fit;unfold SetTable.fits at this;simp at this;exact this.1
theorem DP(hw:jC t.place)(hi:i<=t.place.size):SetTable.below t.place (slotAt t i)=i:=by
 cases i with
 |zero=>exact Sw hw
 |succ i=>exact Sv hw (by omega)
theorem entries{Q:Array (Int×Value)->Shared->Prop}(hL:Lies s.heap a es ep t)(h:Q es s):wpAny (model prog w) A (setEntries a) Q E s:=by
 obtain⟨o,ho,_,hd⟩:=hL.at_;unfold setEntries;exact aa (cg ho hd hL.fit (ag h))
theorem IU{f':Value}(hi:B9 h I a f i n ep)(hx:x=rawInt ((i:Int)+1)):B9 ((h.update I (Obj.mapFields (·.setIfInBounds 0 f'))).update I (Obj.mapFields (·.setIfInBounds 1 x))) I a f' (i+1) n ep:=by
 obtain⟨o,ho,hc,hd⟩:=hi;have h1:=aR (Obj.mapFields (·.setIfInBounds 0 f')) ho (dD (bH hd _));have d1:(Obj.mapFields (·.setIfInBounds 0 f') o).data=.fields #[f',rawInt i,.ref a,rawInt n,rawInt ep]:=by rw[bH hd];simp
 have h2:=aR (Obj.mapFields (·.setIfInBounds 1 x)) h1 (dD (bH d1 _));refine⟨_,h2,(lY ..).trans ((lY ..).trans hc),?_⟩;rw[bH d1];subst hx;simp[rawInt]
theorem IT(hi:B9 h I a f i n ep)(hx:x=rawInt ((i:Int)+1)):B9 (h.update I (Obj.mapFields (·.setIfInBounds 1 x))) I a f (i+1) n ep:=by
 obtain⟨o,ho,hc,hd⟩:=hi;have h2:=aR (Obj.mapFields (·.setIfInBounds 1 x)) ho (dD (bH hd _));refine⟨_,h2,(lY ..).trans hc,?_⟩;rw[bH hd];subst hx;simp[rawInt]
theorem Fp{f':Value}{m:Sem α}{Q':α->Shared->Prop}(hi:B9 s.heap I a f i n ep)(hx:x=rawInt ((i:Int)+1))(h:∀h',B9 h' I a f' (i+1) n ep->Heap.SameBut I s.heap h'->wpAny (model prog w) A m Q' E { s with heap:=h' }) :
  wpAny (model prog w) A (do setField (.ref I) 0 f';setField (.ref I) 1 x;m) Q' E s:=by
 obtain⟨o,ho,hc,hd⟩:=id hi;refine aa (dS ho hd (by simp) ?_);have h1:=aR (Obj.mapFields (·.setIfInBounds 0 f')) ho (dD (bH hd _));have d1:(Obj.mapFields (·.setIfInBounds 0 f') o).data=.fields #[f',rawInt i,.ref a,rawInt n,rawInt ep]:=by rw[bH hd];simp
 refine aa (dS (s:={ s with heap:=_ }) h1 d1 (by simp) ?_);exact h _ (IU hi hx) ((bR ..).trans (bR ..))
theorem JB{m:Sem α}{Q':α->Shared->Prop}(hi:B9 s.heap I a f i n ep)(hx:x=rawInt ((i:Int)+1))(h:∀h',B9 h' I a f (i+1) n ep->Heap.SameBut I s.heap h'->wpAny (model prog w) A m Q' E { s with heap:=h' }) :
  wpAny (model prog w) A (do setField (.ref I) 1 x;m) Q' E s:=by
 obtain⟨o,ho,hc,hd⟩:=id hi;refine aa (dS ho hd (by simp) ?_);exact h _ (IT hi hx) (bR ..)
theorem ze(next:Nat->Nat)(xs:Array α):(pickOrder next xs).toList.Perm xs.toList:=by
 have go:∀(fuel k:Nat) (left:List α) (out:Array α),fuel=left.length->(pickOrder.go next fuel k left out).toList.Perm (out.toList++left):=by
  intro fuel
  induction fuel with
  |zero =>
   intro k left out e;have:left=[]:=bj e.symm;subst this;simp[pickOrder.go]
  |succ n ih =>
   intro k left out e;have dW:next k % left.length<left.length:=Nat.mod_lt _ (by omega)
   unfold pickOrder.go;rw[ai dW];refine(ih _ _ _ (by rw[fC dW];omega)).trans ?_;rw[Vj,bN];refine List.Perm.append_left _ ?_;have:left.Perm (left[next k % left.length]::left.eraseIdx (next k % left.length)):=by
    rw[jM]
    conv=>lhs;rw[<- tO (next k % left.length) left,dN dW]
    exact Wg
   exact this.symm
 have:=go xs.size 0 xs.toList #[] (by simp);simpa[pickOrder] using this
theorem next_item{Q:Option Value->Shared->Prop}(hL:Lies s.heap a es ep t)(hr:qg w es t pl r)(hi:B9 s.heap I a f i es.size ep)(hf:K6 s.heap t b pl i f r)(dI:b≠I)(dW:i<es.size)(h:∀v h' f',(tB w a es ep pl r)[i]?=some v->B9 h' I a f' (i+1) es.size ep->K6 h' t b pl (i+1) f' r->Heap.SameBut I s.heap h'->Q (some v) { s with heap:=h' }):wpAny (model prog w) A (pyNext (.ref I)) Q E s:=by
 obtain⟨o,ho,hc,hd⟩:=id hi;unfold pyNext;refine aa (FH (eT (name:=Str.ofString "__next__") hi.ty A6 (bO A6 hi.ty Ef ?_ (Z1 _))));unfold Builtin.«set_iterator.__next__»;refine aa (ag ?_);refine aa (wpAny_fieldsOf ho hd ?_);dsimp only[rawInt];refine aa (entries hL ?_);rw[aH (by simp)];rw[cR,cR];cases r with
 |text =>
  obtain⟨k,rfl⟩:=hf;dsimp only[rawInt];refine aa (DI hL hr ?_);have hl:i<(pickOrder (w.params.setOrder a ep) es).size:=by
   have:=(ze (w.params.setOrder a ep) es).length_eq;simp at this;omega
  rw[mS hl];refine Fp hi rfl λh' h1 h2=>ag ⟨_,rfl,ag (h _ _ _ ?_ h1 ⟨_,rfl⟩ h2)⟩;show((pickOrder (w.params.setOrder a ep) es).toList.map (·.2))[i]?=_;simp[hl]
 |plain =>
  obtain⟨r1,r2,r3⟩:=hr;have hs:=Dr hL;obtain rfl:=hf;dsimp only[rawInt];rw[cR];refine aa (DY hL r1 r2 r3.led ?_);rw[DP r3.tY (by omega),mS dW,getD_mem (by omega)];refine Fp hi rfl λh' h1 h2=>ag ⟨_,rfl,ag (h _ _ _ ?_ h1 rfl h2)⟩;show(es.toList.map (·.2))[i]?=_;simp[dW]
 |drawn =>
  obtain⟨r1,r2⟩:=hr;obtain⟨rfl,ob,e,hb,By,uw⟩:=hf;have gx:i<pl.length:=by rw[r2.length_eq];simpa using dW
  dsimp only;refine aa (jD hb uw ?_);have hj:pl[i]<es.size:=by
   have:=r2.mem_iff.mp (dG gx);simpa using this
  have e1:(pl.map λj=>rawInt (j:Nat)).toArray[i]?=some (rawInt (pl[i]:Nat)):=by simp[gx]
  dsimp only;rw[e1];dsimp only[rawInt];rw[cR];refine aa (SK hL hj ?_);refine JB hi rfl λh' h1 h2=>ag ⟨_,rfl,ag (h _ _ _ ?_ h1 ⟨rfl,ob,e,by rw[h2.2 b dI];exact hb,By,uw⟩ h2)⟩;show(pl.map λj=>(es.getD j (0,.none)).2)[i]?=_;simp[gx]
theorem zf{Q:Option Value->Shared->Prop}{h0:Heap}(hh:A.handled=none)(HJ:Heap.ExtBut I h0 s.heap)(h:∀h',Heap.ExtBut I h0 h'->Q none { s with heap:=h' }) :
  wpAny (model prog w) A.in1 (newExc (.type "StopIteration") [] >>= λe=>(raiseNew e:Sem Fin)) (λfin s'=>∃v,fin=Fin.done (Flow.ret v)/\wpAny (model prog w) A (pure (some v)) Q E s')
   (λe s'=>wpAny (model prog w) A (do
     let x <- isInstance e (Value.type "StopIteration")
     if x=true then pure none else throw e) Q E s') s:=by
 refine aa ?_;simp only[newExc,newTuple];refine aa (bq ?_ (by size_fits));refine aa (m:=firstArgMember _ _) (dt (a:=Value.none) (by first|rfl|(simp only[firstArgMember];rfl)) ?_);refine bq ?_ (by size_fits);simp only[raiseNew];refine aa (wpAny_handled ?_);rw[show A.in1.handled=none from hh];refine aa (ag (wpAny_throw ?_));refine aa (cM (T:="StopIteration") (b:=true) ⟨_,ay _ rfl,rfl⟩ isSubtype_stop ?_);exact ag (h _ ((HJ.push _).push _))
theorem next_end{Q:Option Value->Shared->Prop}(hh:A.handled=none)(hL:Lies s.heap a es ep t)(hr:qg w es t pl r)(hi:B9 s.heap I a f es.size es.size ep)(hf:K6 s.heap t b pl es.size f r)(dI:b≠I)(h:∀h',Heap.ExtBut I s.heap h'->Q none { s with heap:=h' }):wpAny (model prog w) A (pyNext (.ref I)) Q E s:=by
 obtain⟨o,ho,hc,hd⟩:=id hi;unfold pyNext;refine aa (FH (eT (name:=Str.ofString "__next__") hi.ty A6 (bO A6 hi.ty Ef ?_ (Z1 _))));unfold Builtin.«set_iterator.__next__»;refine aa (ag ?_);refine aa (wpAny_fieldsOf ho hd ?_);dsimp only[rawInt];refine aa (entries hL ?_);rw[aH (by simp)];rw[cR,cR];cases r with
 |text =>
  obtain⟨k,rfl⟩:=hf;dsimp only[rawInt];refine aa (DI hL hr ?_);have hl:(pickOrder (w.params.setOrder a ep) es).size<=es.size:=by
   have:=(ze (w.params.setOrder a ep) es).length_eq;simp at this;omega
  rw[qz hl];refine aa (dS ho hd (by simp) ?_);exact zf (s:={ s with heap:=_ }) hh (bR ..).extBut h
 |plain =>
  obtain⟨r1,r2,r3⟩:=hr;have hs:=Dr hL;obtain rfl:=hf;dsimp only[rawInt];rw[cR];refine aa (DY hL r1 r2 r3.led ?_);rw[DP r3.tY (by omega),qz (aj _)];refine aa (dS ho hd (by simp) ?_);exact zf (s:={ s with heap:=_ }) hh (bR ..).extBut h
 |drawn =>
  obtain⟨r1,r2⟩:=hr;obtain⟨rfl,ob,e,hb,By,uw⟩:=hf;have gx:pl.length=es.size:=by rw[r2.length_eq];simp
  dsimp only;refine aa (jD hb uw ?_);have e1:(pl.map λj=>rawInt (j:Nat)).toArray[es.size]?=none:=by simp[gx]
  dsimp only;rw[e1];dsimp only[rawInt];refine aa (dS ho hd (by simp) ?_);have h1:=aR (Obj.mapFields (·.setIfInBounds 0 (Value.int 0 0))) ho (dD (bH hd _));refine aa (dS (s:={ s with heap:=_ }) h1 (bH hd _) (by simp) ?_);exact zf (s:={ s with heap:=_ }) hh ((bR ..).trans (bR ..)).extBut h
theorem RU{l:List α}(dW:k<l.length):(l[k]::l.eraseIdx k).Perm l:=by
 rw[jM]
 conv=>rhs;rw[<- tO k l,dN dW]
 exact Wg.symm
theorem DU{α:Type}:∀(n:Nat) (xs:List α) (s:Shared) (Q:List α->Shared->Prop),n=xs.length->(∀ys d,ys.Perm xs->Q ys { s with drawn:=d })->wpAny (model prog w) A (drawOrder n xs) Q E s
 |0,xs,s,Q,e,h=>by
  have:xs=[]:=bj e.symm;subst this;exact ag (h [] s.drawn (List.Perm.refl _))
 |n+1,[],s,Q,e,h=>by simp at e
 |n+1,x::xs,s,Q,e,h=>by
  unfold drawOrder;refine aa ?_;intro Γ p VB;refine⟨by simp,?_⟩;generalize (model prog w).w.draws .order (s.drawn.get .order)=k;have dW:k % (x::xs).length<(x::xs).length:=Nat.mod_lt _ (by simp);have go:wpAny (model prog w) A (match (x :: xs)[k % (x :: xs).length]? with
   |some y=>do
    let ys <- drawOrder n ((x::xs).eraseIdx (k % (x::xs).length))
    pure (y::ys)
   | none=>unsupported "internal:drawOrder") Q E { s with drawn:=s.drawn.bump .order }:=by
   rw[ai dW];refine aa (DU n _ _ _ (by rw[fC dW];simp at e ⊢;omega) λys d hp=>ag ?_);exact h _ d ((List.Perm.cons _ hp).trans (RU dW))
  exact go
theorem Dk(hr:qg w es t pl r):(tB w a es ep pl r).Perm (es.toList.map (·.2)):=by
 cases r with
 |text=>exact(ze _ es).map _
 |plain=>exact List.Perm.refl _
 |drawn =>
  refine(hr.2.map _).trans ?_;have:(List.range es.size).map (λj=>(es.getD j (0,.none)).2)=es.toList.map (·.2):=by
   apply Wi
   ·simp
   ·intro i h1 h2;simp at h1;simp[Array.getD,h1]
  rw[this]
theorem Lies.ty(hL:Lies s.heap a es ep t):s.TypeIs (.ref a) "set":=let ⟨o,e,c,_⟩:=hL.at_;⟨o,e,c⟩
theorem QK(hL:Lies s.heap a es ep t)(hw:Well (Led w) t)(hz:es.size<=10000)(h:∀r pl b f I h' d',qg w es t pl r->B9 h' I a f 0 es.size ep->K6 h' t b pl 0 f r->b≠I->(b=a\/s.heap.objs.size<=b)->(∀c o,s.heap.get? c=some o->h'.get? c=some o)->s.heap.objs.size<=I->s.heap.objs.size<=h'.objs.size->Q (.ref I) { s with heap:=h',drawn:=d' }) :
  wpAny (model prog w) A (pyIter (.ref a)) Q E s:=by
 obtain⟨o,ho,wI,hd⟩:=hL.at_;refine wpAny_pyIter_slot hL.ty F.slot_set_iter (bO F.slot_set_iter hL.ty Oa ?_ (F.args_set_iter_1 _));unfold Builtin.«frozenset.__iter__»;refine aa (ag ?_);unfold Builtin.Frozenset.sizeOf;refine aa (aa (entries hL (ag ?_)));unfold setDrawn;refine aa (aa (cg ho hd hL.fit ?_));refine aa (Z0 (ag ?_));have dW:=aq ho;have fin:∀(r:Rd) (f:Value) (b:Addr) (pl:List Nat) (h1:Heap) (d1:Drawn),qg w es t pl r->(∀h',(∀c o,h1.get? c=some o->h'.get? c=some o)->K6 h' t b pl 0 f r)->b<h1.objs.size->(b=a\/s.heap.objs.size<=b)->(∀c o,s.heap.get? c=some o->h1.get? c=some o)->s.heap.objs.size<=h1.objs.size ->
   wpAny (model prog w) A.in1 (do
    let e <- setEpoch a
    ret (<- newFields "set_iterator" [f,rawInt 0,.ref a,rawInt es.size,rawInt e])) (λfin s'=>∃ v,fin=Fin.done (Flow.ret v)/\∃ T' r,s'.TypeIs v T'/\typeLookup (.type T') "__next__"=pure (some r)/\Q v s') E { s with heap:=h1,drawn:=d1 }:=λr f b pl h1 d1 hr hf hb Ho he hsz=>by
  have lR:Lies h1 a es ep t:=hL.at λo e=>he a o e;obtain⟨o1,GP,_,Hg⟩:=lR.at_;unfold setEpoch;refine aa (aa (cg (s:={ s with heap:=h1,drawn:=d1 }) GP Hg lR.fit (ag ?_)));refine aa (bq (ag ⟨_,rfl,"set_iterator",_,⟨_,ay _ rfl,rfl⟩,A6.lookup,?_⟩));refine h r pl b f h1.objs.size _ d1 hr ⟨_,ay _ rfl,rfl,rfl⟩ (hf _ λc o e=>af _ e) (aF hb) Ho (λc o e=>af _ (he c o e)) hsz (by rw[fY];exact Nat.le_succ_of_le hsz)
 have e0:s={ s with heap:=s.heap,drawn:=s.drawn }:=rfl;cases hT:w.params.followText "set-order" with
 |true =>
  dsimp only[Bool.not_true,Bool.false_and];rw[aH (by simp)];refine aa (ag ?_);rw[e0];exact fin .text (rawInt 0) a [] s.heap s.drawn hT (λh' _=>⟨0,rfl⟩) dW (.inl rfl) (λc o e=>e) (aj _)
 |false =>
  show wpAny _ _ (if(!false&&(!t.plain&&decide (es.size>1)))=true then _ else _ ) _ _ _;by_cases hp:t.plain=true\/es.size<=1
  ·rw[aH (by rcases hp with e|e<;>simp[e])];refine aa (ag ?_);rw[e0];refine fin .plain (rawInt 0) a [] s.heap s.drawn ⟨hT,hp,?_⟩ (λh' _=>rfl) dW (.inl rfl) (λc o e=>e) (aj _);have:Led w=true:=by unfold Led;rw[hT];rfl
   rw[<- this];exact hw
  ·have h1:t.plain=false:=by cases hq:t.plain with|true=>exact absurd (.inl hq) hp|false=>rfl
   have h2:¬es.size<=1:=λz=>hp (.inr z);rw[aN (by simp[h1];omega)];refine aa (DU _ _ _ _ (Vg).symm λys d hy=>?_);have hl:ys.length=es.size:=by rw[hy.length_eq];simp
   refine aa (bq ?_ (by show(List.map _ ys).toArray.size<=sizeLine;rw[aB,ak,hl];exact aG hz (by decide)));refine fin .drawn (.ref s.heap.objs.size) s.heap.objs.size ys _ d ⟨hT,hy⟩ (λh' hk=>⟨rfl,_,_,hk _ _ (ay _ rfl),rfl,rfl⟩) (by rw[fY];exact dE _) (.inr (aj _)) (λc o e=>af _ e) (by rw[fY];exact fQ _)
theorem Sg(hh:A.handled=none)(hr:qg w es t pl r)(dI:b≠I)(GS:a≠I) :
  Walks prog w A I [I,a,b] [I] es.size (λi v=>(tB w a es ep pl r)[i]?=some v) (λi h=>Lies h a es ep t/\∃f,B9 h I a f i es.size ep/\K6 h t b pl i f r) where
 sub:=λc hc=>by simp at hc;simp[hc]
 frame:=λi h h' st hk=>by
  obtain⟨hL,f,hi,hf⟩:=st;refine⟨hL.at λo e=>hk a (by simp) o e,f,hi.at λo e=>hk I (by simp) o e,?_⟩;cases r with
  |text=>exact hf
  |plain=>exact hf
  |drawn =>
   obtain⟨e1,o,e,h1,h2⟩:=hf;exact⟨e1,o,e,hk b (by simp) o h1,h2⟩
 item:=λi s Q E hi st hQ=>by
  obtain⟨hL,f,hI,hf⟩:=st;exact next_item hL hr hI hf dI hi λv h' f' hv h1 h2 h3=>hQ v h' s.toks hv ⟨hL.at λo e=>by rw[h3.2 a GS];exact e,f',h1,h2⟩ λc o hc e=>h3.extBut c o (λz=>hc (by simp[z])) e
 done:=λs Q E st hQ=>by
  obtain⟨hL,f,hI,hf⟩:=st;exact next_end hh hL hr hI hf dI λh' he=>hQ h' s.toks λc o hc e=>he c o (λz=>hc (by simp[z])) e
 self:=λi s Q E st hQ=>by
  obtain⟨hL,f,hI,hf⟩:=st;refine wpAny_pyIter_slot hI.ty X3 (bO X3 hI.ty NK ?_ (NU _));exact aa (ag (ag ⟨_,rfl,"set_iterator",_,hI.ty,A6.lookup,hQ⟩))
theorem Og:typeLookup (.type "set") "__len__"=pure (some (.builtin "set.__len__")):=by rw[jd,fq];kernel_rfl
theorem NQ(hh:A.handled=none)(hL:Lies s.heap a es ep t)(hw:Well (Led w) t)(hz:es.size<=10000){Q:List Value->Shared->Prop}(h:∀(vs:List Value) h' d' iG,vs.Perm (es.toList.map (·.2))->(∀c o,s.heap.get? c=some o->h'.get? c=some o)->s.heap.objs.size<=h'.objs.size->s.toks<=iG->Q vs { s with heap:=h',drawn:=d',toks:=iG }) :
  wpAny (model prog w) A (collect (.ref a)) Q E s:=by
 have dW:a<s.heap.objs.size:=let ⟨o,ho,_⟩:=hL.at_;aq ho
 unfold collect;refine aa (vx (cz F.entry_proto_collect ?_));rw[bI F.plain_proto_collect _];show wpAny _ A.in1 (newList [] >>= λl=>again (.builtin "list.__iadd__" ⟨[l,.ref a],[]⟩)) _ _ s;refine aa (bq ?_);refine ag ⟨dC gP _,cz F.entry_list_iadd ?_⟩;rw[bI gP _];have lR:Lies (s.heap.push { cls:=.type "list",data:=.seq ([]:List Value).toArray }) a es ep t:=hL.at λo e=>af _ e;have qa:(s.heap.push { cls:=.type "list",data:=.seq ([]:List Value).toArray }).get? s.heap.objs.size=some { cls:=.type "list",data:=.seq ([]:List Value).toArray }:=ay _ rfl;have dI:s.heap.objs.size≠a:=bE dW;have h1:Builtin.List.listSameRef (.ref s.heap.objs.size) (.ref a)=false:=by simp[Builtin.List.listSameRef,dI]
 show wpAny _ A.in1 (Builtin.List.listExtendWith (.ref s.heap.objs.size) (.ref a) (.ref s.heap.objs.size)) _ _ _;unfold Builtin.List.listExtendWith;refine aa (cX (Lies.ty (s:={ s with heap:=_ }) lR) ?_);rw[aH (by rw[h1];decide)];refine aa (QK (s:={ s with heap:=_ }) lR hw hz λr pl b f I h2 d2 hr hI hf hb Hl he xh VL=>?_);have mG:Lies h2 a es ep t:=lR.at λo e=>he a o e;have lQ:=he _ _ qa;refine aa (bx ?_);unfold Builtin.List.listLengthHint;refine aa (wpAny_specialOf (Lies.ty (s:={ s with heap:=h2,drawn:=d2 }) mG) Og ?_);generalize rZ:("set.__len__":String)=wg;dsimp only;rw[show splitId wg=some ("set","__len__") from by subst rZ;decide +kernel];dsimp only;refine aa (cM (b:=true) (Lies.ty (s:={ s with heap:=h2,drawn:=d2 }) mG) (by rw[eY];kernel_rfl) ?_);rw[aH (by decide)];subst rZ;rw[aN (by decide +kernel)];refine aa (cX (Lies.ty (s:={ s with heap:=h2,drawn:=d2 }) mG) ?_);refine ag ?_;rw[aN (by decide +kernel)];refine aa (eP ?_);refine aa ?_;show wpAny _ A.in1 (updateSeq s.heap.objs.size (·.push .none) >>= λ_=>updateSeq s.heap.objs.size (·.pop)) _ _ _;refine aa (eM (s:={ s with heap:=h2,drawn:=d2 }) lQ rfl ?_);have nv:=aR (Obj.mapSeq (·.push Value.none)) lQ rfl;refine eM (s:={ s with heap:=_,drawn:=d2 }) nv rfl ?_;have xc:=aR (Obj.mapSeq (·.pop)) nv rfl;have qT:∀c o,c≠s.heap.objs.size->h2.get? c=some o->((h2.update s.heap.objs.size (Obj.mapSeq (·.push Value.none))).update s.heap.objs.size (Obj.mapSeq (·.pop))).get? c=some o :=
  λc o hc e=>(bt _ _ (bU hc)).trans ((bt _ _ (bU hc)).trans e)
 have kr:s.heap.objs.size<(s.heap.push { cls:=.type "list",data:=.seq ([]:List Value).toArray }).objs.size:=by rw[fY];exact dE _
 have Hw:I≠s.heap.objs.size:=bE (az kr xh);have VH:b≠s.heap.objs.size:=by
  rcases Hl with z|z
  ·rw[z];exact bU dI
  ·exact bE (az kr z)
 have W:=(Sg (prog:=prog) (w:=w) (A:=A.in1) (a:=a) (b:=b) (I:=I) (es:=es) (ep:=ep) (t:=t) (pl:=pl) hh hr hb (aF (az (bW dW kr) xh))).toS;have st:Lies h2 a es ep t/\∃f,B9 h2 I a f 0 es.size ep/\K6 h2 t b pl 0 f r:=⟨mG,f,hI,hf⟩
 have kL:=W.frame 0 ({ s with heap:=h2,drawn:=d2 }:Shared) _ s.toks st (aj _) λc hc o e=>qT c o (λz=>by simp at hc;rcases hc with y|y|y<;>simp_all) e;refine ag ⟨dC F.plain_extend_loop _,codeAny_extend_loopS W (aG hz (by decide)) _ (λz=>by simp at z;rcases z with y|y|y<;>simp_all) _ es.size 0 _ _ _ rfl (bY _) kL xc (ItemsOf.nil _) λs' pB c' hm ku iE=>?_⟩;show wpAny _ A (load s.heap.objs.size >>= _) _ _ s';refine aa (wpAny_load ku ?_);refine ag ?_;have eS:s'={ s with heap:=s'.heap,drawn:=d2,toks:=s'.toks }:=by
  obtain⟨iL,g',d',iG,ot⟩:=s';have m1:g'=s.gens:=hm.gens;have m2:d'=d2:=hm.drawn;have m3:ot=s.os:=hm.os;subst m1;subst m2;subst m3
  rfl
 have eo:pB.toList=tB w a es ep pl r:=by
  have l1:(tB w a es ep pl r).length=es.size:=by rw[(Dk hr).length_eq];simp
  apply Wi
  ·rw[l1];simpa using iE.1
  ·intro i h1 h2;have:=iE.2 i pB.toList[i] (by simp at h1 ⊢);dsimp only at this;rw[ai h2] at this;exact(aE this).symm
 rw[eo,eS];refine h _ _ d2 s'.toks (Dk hr) (λc o e=>?_) (cG (aq ku)) hm.toks;have hc:c<s.heap.objs.size:=aq e;have n1:c≠s.heap.objs.size:=aF hc;have n2:c≠I:=aF (az (bW hc kr) xh);exact hm.heap c o (by simp[n1,n2]) (qT c o n1 (he c o (af _ e)))
theorem Nw(hh:A.handled=none)(hS:o7 prog w s.heap a ks)(xr:ks.length<64)(h:∀(S:Addr) (vs:List Value) (ns:List Int) e h' d' iG,IntsAre vs ns->ns.Perm ks->ns.Pairwise (·<=·)->h'.get? S=some (seqObj "list" vs.toArray e)->s.heap.objs.size<=S->(∀c o,s.heap.get? c=some o->h'.get? c=some o)->s.toks<=iG->Q (.ref S) { s with heap:=h',drawn:=d',toks:=iG }) :
  wpAny (model prog w) A (call (.builtin "sorted") [.ref a]) Q E s:=by
 obtain⟨o,es,ep,t,ho,hx,hd,lg,hp,hn,hb,hf,hw⟩:=hS;have hL:Lies s.heap a es ep t:=⟨⟨o,ho,hx.1,hd⟩,hf⟩
 have hz:es.size=ks.length:=by rw[<- hp.length_eq];simp
 refine gH kind_sorted plain_sorted entry_sorted (args_sorted1 _) ?_;unfold Builtin.«sorted»;refine aa (m:=checkCount "sorted" 1 1 _) (ag ?_);refine aa (NQ (A:=A.in1) hh hL hw (by omega) λvs h1 d1 nW hv he kr pS=>?_);have hI:IntsAre vs (vs.map toI):=by
  have all:∀v∈vs,∃tk,v=.int (toI v) tk:=λv wy=>by
   obtain⟨e,oI,rfl⟩:=aM.mp (hv.mem_iff.mp wy);obtain⟨tk,h1,_⟩:=vd lg oI;exact⟨tk,h1⟩
  clear hv
  induction vs with
  |nil=>exact .nil
  |cons v r ih =>
   obtain⟨tk,e⟩:=all v (by simp);have:=IntsAre.cons (toI v) tk (ih λu hu=>all u (by simp[hu]));rw[<- e] at this;exact this
 have hk:(vs.map toI).Perm ks:=by
  refine(hv.map toI).trans ?_;rw[dF];exact hp
 have hl:vs.length<64:=by rw[hv.length_eq];simp;omega
 refine aa (FG (s:={ s with heap:=h1,drawn:=d1,toks:=nW }) ?_);have kd:(h1.push (seqObj "list" vs.toArray 0)).get? h1.objs.size=some (seqObj "list" vs.toArray 0):=ay _ rfl;refine aa (bx (bO (s:={ s with heap:=h1.push (seqObj "list" vs.toArray 0),drawn:=d1,toks:=nW }) slot_list_sort ⟨_,kd,rfl⟩ entry_list_sort (list_sort_tree kd hI hl λout iV a1 a2 a3=>⟨_,rfl,?_⟩) (args_list_sort _)));obtain⟨e,oI⟩:=sortedHeap_at (vs:=vs) (out:=out) kd;refine ag ⟨_,rfl,h h1.objs.size out.toList iV e _ d1 nW a1 (a2.trans hk) a3 oI kr (λc o' e'=>?_) pS⟩;have hc:=aq (he c o' e');rw[sortedHeap_old (aF hc) (by rw[fY];exact cP hc)];exact af _ (he c o' e')
def f9(ks xs:List Int):List Int:=xs.foldl w6 ks
theorem J6:∀(xs ks:List Int),(f9 ks xs).length<=ks.length+xs.length
 |[],ks=>by simp[f9]
 |x::xs,ks=>by
  have:=J6 xs (w6 ks x);have h2:=Py ks x;show(f9 (w6 ks x) xs).length<=_;simp only[List.length_cons];omega
theorem U6:∀(xs ks:List Int) (k:Int),k∈f9 ks xs↔k∈ks\/k∈xs
 |[],ks,k=>by simp[f9]
 |x::xs,ks,k=>by
  show k∈f9 (w6 ks x) xs↔_;rw[U6 xs];unfold w6;split
  ·rename_i h;constructor
   ·rintro(a|a)
    ·exact .inl a
    ·exact .inr (by simp[a])
   ·rintro(a|a)
    ·exact .inl a
    ·rcases aD.mp a with rfl|b
     ·exact .inl h
     ·exact .inr b
  ·simp[or_assoc]
theorem DH:∀(xs ks:List Int),ks.Nodup->(f9 ks xs).Nodup
 |[],ks,h=>h
 |x::xs,ks,h=>by
  show(f9 (w6 ks x) xs).Nodup;refine DH xs _ ?_;unfold w6;split
  ·exact h
  ·rename_i hk;rw[dz];exact⟨h,by simp,λa ha b hb=>by simp at hb;subst hb;exact λz=>hk (z▸ha)⟩
theorem Sy:Well (Led w) (SetTable.fresh 0 0 (Led w)):=⟨by simp[jC,SetTable.fresh],rfl,rfl⟩
theorem DC(e:h.get? a=some { cls:=.type "set",dict:=none,data:=.set #[] 0 (.fresh 0 0 (Led w)) }):o7 prog w h a [] :=
 ⟨_,#[],0,_,e,⟨rfl,rfl,rfl⟩,rfl,(by intro e he;simp at he),by simp,by simp,by decide,by rfl,Sy⟩
theorem QV{R:Result->Shared->Prop}{fp wr:List Addr}{G:Array GenState->Array GenState->Prop}{P:Nat->Value->Prop}{St:Nat->Shared->Prop}(W:WalksS prog w A.in1 I fp wr G n P St)(BA:a∉fp)(hn:n=ns.length)(hv:∀i v,P i v->∃tk,v=.int (ns.getD i 0) tk)(hb:n+1<scanBound):∀(k i:Nat) (s:Shared),i+k=n->St i s->o7 prog w s.heap a (f9 [] (ns.take i)) ->
   (∀s',Moved (a::wr) G s s'->o7 prog w s'.heap a (f9 [] ns)->R (.ok (.ret .none)) s')->codeAny (model prog w) A (.builtin "set.update.loop" ⟨[.ref a,.ref I],[]⟩) R s:=by
 have hw:a∉wr:=λh=>BA (W.sub _ h);have qL:∀b∈wr,b∈a::wr:=λb hb=>by simp[hb]
 intro k
 induction k with
 |zero =>
  intro i s e st hS hR;obtain rfl:i=n:=by omega
  refine cz iQ ?_;rw[bI dO _];unfold Builtin.«set.update.loop»;refine aa (W.done s _ _ st λs' m=>ag (hR s' (m.mono qL) (o7.at ?_ λo e=>m.heap a o hw e)));rw[hn,eV] at hS;exact hS
 |succ k ih =>
  intro i s e st hS hR;have dW:i<ns.length:=by omega
  refine cz iQ ?_;rw[bI dO _];unfold Builtin.«set.update.loop»;refine aa (W.item i s _ _ (by omega) st λv s' hP lG m=>?_);obtain⟨tk,rfl⟩:=hv i v hP;have ku:=o7.at hS λo e=>m.heap a o hw e;have hl:=J6 (ns.take i) [];rw[cw] at hl;simp only[List.length_nil] at hl;refine aa (bx ?_);unfold setAdd;refine bx (aa ((intKind prog w).pyHash (k:=ns.getD i 0) (gh _ _ _ _) ?_));refine Ep (s:={ s' with toks:=s'.toks+1 }) ku (by omega) λh' bb sb lQ=>?_;have e2:w6 (f9 [] (ns.take i)) (ns.getD i 0)=f9 [] (ns.take (i+1)):=by
   unfold f9;rw[fz,Vh,ai dW];simp[List.getD,dW]
  rw[e2] at lQ;refine ag ⟨dC dO _,ih (i+1) _ (by omega) (W.frame _ s' _ _ lG (fQ _) λb hb o e=>by rw[sb.2 b λz=>BA (z▸hb)];exact e) lQ λs2 m2 h2=>?_⟩;exact hR s2 (Moved.trans W.gtrans ((m.mono qL).then_heap (fQ _) λb o hb e=>by rw[sb.2 b λz=>hb (by rw[z];simp)];exact e) m2) h2
noncomputable abbrev t7(w:World):Obj:={ cls:=.type "set",dict:=none,data:=.set #[] 0 (.fresh 0 0 (Led w)) }
theorem CH(h:Q (.ref s.heap.objs.size) { s with heap:=s.heap.push (t7 w) }):wpAny (model prog w) A (newSet (.type "set")) Q E s:=by
 unfold newSet;refine aa (Z0 ?_);exact bq h (bY _)
theorem PK(x:Value)(h:Q (.ref s.heap.objs.size) { s with heap:=s.heap.push (t7 w) }):codeAny (model prog w) A (.call (.builtin "set.__new__") ⟨[.type "set",x],[]⟩) (wants Q E) s:=by
 refine qr (?_:wpAny _ A.in1 (do
  checkBuiltinCall "set.__new__" ⟨[.type "set",x],[]⟩
  again (.builtin "set.__new__" ⟨[.type "set",x],[]⟩)) _ _ s)
 refine aa (dt (F.newCall_set_1 x) (ag ⟨dC F.plain_set_new _,?_⟩));refine cz F.entry_set_new ?_;rw[bI F.plain_set_new _];unfold Builtin.«set.__new__»;have sub:=sub_set_self;refine aa (m:=Builtin.Frozenset.newClass "set" _) ?_;unfold Builtin.Frozenset.newClass;dsimp only;refine aa (dt (a:=true) (by first|rfl|(simp[isType];rfl)) ?_);rw[aH (by decide)];refine aa (dt sub ?_);rw[aH (by decide)];refine ag ?_;exact aa (CH (ag h))
theorem V1{vs:List Value}(h:IntsAre vs ns):vs.length=ns.length:=by
 induction h with
 |nil=>rfl
 |cons n t r ih=>simp[ih]
def sX(h:Heap)(l:Addr)(items:Array Value):Prop:=h.IsList l items\/h.IsTuple l items
theorem sX.lt(x:sX h l items):l<h.objs.size:=by
 rcases x with⟨_,e,_⟩|⟨_,e,_⟩<;>exact aq e
theorem P'{Q:Fin->Shared->Prop}(hh:A.handled=none)(hS:s.heap.get? a=some (t7 w))(hl:sX s.heap l items)(hi:IntsAre items.toList ns)(hb:items.size+1<scanBound)(dI:a≠l)(h:∀h' tk,o7 prog w h' a (f9 [] ns)->(∀b o,b≠a->s.heap.get? b=some o->h'.get? b=some o)->s.toks<=tk->wpAny (model prog w) A (ret .none) Q E { s with heap:=h',toks:=tk }) :
  wpAny (model prog w) A (Builtin.«set.__init__» ⟨[.ref a,.ref l],[]⟩) Q E s:=by
 have hT:s.TypeIs (.ref a) "set":=⟨_,hS,rfl⟩
 have VI:Lies s.heap a #[] 0 (SetTable.fresh 0 0 (Led w)):=⟨⟨_,hS,rfl,rfl⟩,rfl⟩
 have dW:=hl.lt;have Bk:l≠s.heap.objs.size:=aF dW;unfold Builtin.«set.__init__» noKeywords;dsimp only;refine aa (dt (a:=()) rfl ?_);have nm:∀{Q':String->Shared->Prop},(∀x,Q' x s)->wpAny (model prog w) A (typeNameOfCut 200 (.ref a)) Q' E s:=λ{Q'} q=>by
  unfold typeNameOfCut shownTypeOf;refine aa (aa (cX hT ?_));rw[aH (by decide)];refine ag (dt (a:="set") ?_ (q _));unfold typeNameCut;dsimp only
  first|(unfold typeName;rw[find?_eq_fast];kernel_rfl)|kernel_rfl
 refine aa (nm λx=>?_);refine aa (m:=checkCount _ 0 1 _) (ag ?_);refine aa (m:=Builtin.Frozenset.addrOf _) (ag ?_);unfold setUsed;refine aa (aa (cg hS rfl rfl (ag ?_)));rw[aH (by show ¬((SetTable.fill (SetTable.fresh 0 0 (Led w)) != 0)=true);unfold SetTable.fill;simp[SetTable.fresh])];unfold Builtin.Frozenset.updateFrom Builtin.Frozenset.isAnySet;obtain⟨c,pZ,xb,it,hit,Bq,St,W,dR⟩:∃c:String,(c="list"\/c="tuple")/\s.TypeIs (.ref l) c/\∃it:Obj,(∀Q':Value->Shared->Prop,Q' (.ref s.heap.objs.size) { s with heap:=s.heap.push it }->wpAny (model prog w) A (pyIter (.ref l)) Q' E s) /\
   (∀b o,s.heap.get? b=some o->(s.heap.push it).get? b=some o)/\∃St:Nat->Shared->Prop,WalksS prog w A.in1 s.heap.objs.size [s.heap.objs.size,l] [s.heap.objs.size] (λa b=>b=a) items.size (λi v=>items[i]?=some v) St/\St 0 { s with heap:=s.heap.push it }:=by
  rcases hl with hl|hl
  ·obtain⟨o,ho,hc,_⟩:=id hl;exact⟨"list",.inl rfl,⟨o,ho,hc⟩,_,λQ' q=>dJ hl q,λb o e=>af _ e,_,(kA (A:=A.in1) hh _ l Bk items).toS,⟨⟨_,ay _ rfl,rfl,rfl⟩,hl.push _⟩⟩
  ·obtain⟨o,ho,hc,_⟩:=id hl;exact⟨"tuple",.inr rfl,⟨o,ho,hc⟩,_,λQ' q=>wpAny_pyIter_tuple hl q,λb o e=>af _ e,_,(Walks.tuple (A:=A.in1) hh _ l Bk items).toS,⟨⟨_,ay _ rfl,rfl,rfl⟩,hl.push _⟩⟩
 refine aa (aa (aa (cM (b:=false) xb (by rcases pZ with rfl|rfl<;>(rw[eY];kernel_rfl)) ?_)));show wpAny (model prog w) A (isInstance (Value.ref l) (Value.type "frozenset")) _ _ _;refine cM (b:=false) xb (by rcases pZ with rfl|rfl<;>(rw[eY];kernel_rfl)) ?_;rw[aH (by decide)];refine aa (cX xb ?_);rw[aH (by rcases pZ with rfl|rfl<;>decide)];refine aa (hit _ ?_);refine aa (vx ?_);have Hq:a<s.heap.objs.size:=aq hS;have hsz:items.size=ns.length:=by rw[<- ba];exact V1 hi
 refine QV (a:=a) (ns:=ns) W (by simp only[List.mem_cons,List.not_mem_nil,or_false,not_or];exact⟨aF Hq,dI⟩) hsz (λi v hv=>IntsAre.int_at hi i v (by rw[hJ];exact hv)) hb items.size 0 _ (by omega)
  dR (DC (Bq _ _ hS)) λs' m ku=>?_
 have eS:s'={ s with heap:=s'.heap,toks:=s'.toks }:=by
  obtain⟨iL,g',d',iG,ot⟩:=s';have m1:g'=s.gens:=m.gens;have m2:d'=s.drawn:=m.drawn;have m3:ot=s.os:=m.os;subst m1;subst m2;subst m3
  rfl
 rw[eS];refine ag (h _ _ ku (λb o hb e=>?_) m.toks);exact m.heap b o (by simp only[List.mem_cons,List.not_mem_nil,or_false,not_or];exact⟨hb,aF (aq e)⟩) (Bq _ _ e)
theorem CW(hh:A.handled=none)(hl:sX s.heap l items)(hi:IntsAre items.toList ns)(hb:items.size+1<scanBound)(h:∀h' tk,o7 prog w h' s.heap.objs.size (f9 [] ns)->(∀b o,s.heap.get? b=some o->h'.get? b=some o)->s.toks<=tk->Q (.ref s.heap.objs.size) { s with heap:=h',toks:=tk }) :
  wpAny (model prog w) A (call (.type "set") [.ref l]) Q E s:=by
 have cs:=F.called_set;obtain⟨_,_,y1⟩:=cs.mro;have y2:=cs.made;have y3:=cs.sub;have y4:=cs.notType;have y5:=cs.canCreate;have y6:=F.typeCall_set_1 (.ref l);refine wpAny_call (qr (?_:wpAny _ _ (callAny (.type "set") _) _ _ _));refine ag ⟨Code.quiet_builtin _ (by decide +kernel),cz F.entry_type_call ?_⟩;rw[Around.under_plain (weight_type_call_type "set" [.ref l] []) rfl]
 repeat (any_goals (first|assumption|wp_step))
 refine fS (PK (.ref l) (E:=E) (Q:=λv s1=>v=.ref s.heap.objs.size/\s1={ s with heap:=s.heap.push (t7 w) }) ⟨rfl,rfl⟩) ?_;rintro(e|fl) s1 hr
 ·exact hr
 cases fl with
 |next=>exact hr
 |brk=>exact hr
 |cont=>exact hr
 |ret v =>
 obtain⟨rfl,rfl⟩:=hr;have hS:(s.heap.push (t7 w)).get? s.heap.objs.size=some (t7 w):=ay _ rfl;have hT:Shared.TypeIs { s with heap:=s.heap.push (t7 w) } (.ref s.heap.objs.size) "set":=⟨_,hS,rfl⟩
 have y7:=cs.init.lookup;have y8:=cs.init.bind (.ref s.heap.objs.size)
 repeat (any_goals (first|assumption|wp_step))
 refine fS (codeAny_call_builtin (R:=wants (λv s2=>v=.none/\∃h' tk,s2={ s with heap:=h',toks:=tk }/\o7 prog w h' s.heap.objs.size (f9 [] ns)/\(∀b o,s.heap.get? b=some o->h'.get? b=some o)/\s.toks<=tk) E) cs.init.plain F.entry_set_init (check_set_init_1 hT ?_)) ?_
 ·have iX:sX (s.heap.push (t7 w)) l items:=hl.imp (·.push _) (·.push _);have GW:=hl.lt;refine P' (s:={ s with heap:=s.heap.push (t7 w) }) (by simp[hh]) hS iX hi hb (bE GW) λh' tk h1 h2 h3=>ag ⟨rfl,h',tk,rfl,h1,λb o e=>h2 b o (aF (aq e)) (af _ e),h3⟩
 ·rintro(e|fl) s2 hr
  ·exact hr
  cases fl with
  |next=>exact hr
  |brk=>exact hr
  |cont=>exact hr
  |ret v =>
  obtain⟨rfl,h',tk,rfl,h1,h2,h3⟩:=hr
  repeat (any_goals (first|assumption|wp_step))
  exact h _ _ h1 h2 h3
end ST
namespace L2
open PySem PySem.Spec PyProof.Rows
def pA(X:Cx)(a:Addr)(ks:List Int):HO:=.ext λh=>ST.o7 X.prog X.w h a ks
def A1(ns:List Int):List Int:=(ST.f9 [] ns).mergeSort (λa b=>decide (a<=b))
theorem F5:∀{a b:List Int},a.Perm b->a.Pairwise (·<=·)->b.Pairwise (·<=·)->a=b
 |[],b,h,_,_=>by rw[List.nil_perm.mp h]
 |x::a,[],h,_,_=>absurd h.length_eq (by simp)
 |x::a,y::b,h,h1,h2=>by
  rw[fA] at h1 h2;have e:x=y:=by
   have m1:=h.mem_iff (a:=y);have m2:=h.mem_iff (a:=x);simp only[List.mem_cons,true_or,true_iff,iff_true] at m1 m2;rcases m1 with z|z
   ·exact z.symm
   ·rcases m2 with z'|z'
    ·exact z'
    ·have:=h1.1 y z;have:=h2.1 x z';omega
  subst e;rw[F5 (h.cons_inv) h1.2 h2.2]
theorem U0(ns:List Int):(A1 ns).Pairwise (·<=·):=by
 have:=pJ (le:=λa b:Int=>decide (a<=b)) (λa b c h1 h2=>by simp at *;omega) (λa b=>by simp;omega) (ST.f9 [] ns);exact this.imp λh=>by simpa using h
theorem M7(ns:List Int):(A1 ns).Perm (ST.f9 [] ns):=Ab _ _
theorem DJ(ns:List Int):(A1 ns).length<=ns.length:=by
 rw[(M7 ns).length_eq];have:=ST.J6 ns [];simpa using this
section
variable{X:Cx}{pins:List (Addr×Obj)}{Z:St}{H:Hp}{s:Shared}
theorem Inv.draw(I:Inv X pins Z H s)(d:Drawn):Inv X pins Z H { s with drawn:=d } :=
 I.step (g':=s.gens) (t':=s.toks) (d':=d) (ch:=[]) (by simp) (λb o _ _ _ e _=>e) (λb o _ _ _ e _=>⟨o.slots,e⟩) (λb o _ _ e=>e) (λb o _ e=>⟨o,e⟩) (λ_ _ e=>e) (λ_ _ _ e=>e) (λb ps e=>⟨#[],by simp[e]⟩) (λm hm=>hm) I.bD I.bare
theorem CQ{h:Heap}{a:Addr}{ks:List Int}(x:ST.o7 X.prog X.w h a ks):k8 X.prog X.w H h a (pA X a ks) :=
 ⟨x,by obtain⟨o,_,_,_,e,_⟩:=x;exact⟨o,e⟩,λh1 h2 y k=>y.at k⟩
theorem T4{ns:List Int}{vs:List Value}(h:IntsAre vs ns):Vals (ns.map V.int) vs:=by
 induction h with
 |nil=>exact .nil
 |cons n t r ih=>exact .cons ⟨t,rfl⟩ ih
theorem B5:∀{ns:List Int} {vs:List Value},Vals (ns.map V.int) vs->IntsAre vs ns
 |[],_,h=>by cases h;exact .nil
 |n::ns,_,h=>by
  cases h with
  |cons r rr =>
   obtain⟨t,rfl⟩:=r;exact .cons n t (B5 rr)
theorem Y9(hc:X.calm=true):i8 X (.type "set") (λxs H Q=>∃a ns,xs=[.ref a]/\fe X.K H a (ns.map V.int)/\ns.length<60/\∀p,H p=none->Q (.ref p) (upd H p (pA X p (ST.f9 [] ns)))):=by
 intro pins s Z H xs us Q I r h;obtain⟨a,ns,rfl,hq,hl,q⟩:=h;cases r with
 |cons r rr =>
 cases rr;cases r;obtain⟨aO,rv,p,hz⟩:=I.list hq;have hI:=B5 rv;have hlen:=ST.V1 hI;refine ST.CW (ns:=ns) (I.ok.hd hc) (.inl p.isList) (by simpa using hI) (by rw[aB,hlen];exact az (Wf hl) (by decide)) λh' tk hS hk _=>?_;exact⟨.ref _,_,I.laid (a:=s.heap.objs.size) (t':=tk) hk (aj _) (CQ hS),rfl,q _ (I.bD.fresh (aj _))⟩
theorem Q1(hc:X.calm=true):i8 X (.builtin "sorted") (λxs H Q=>∃a ns,xs=[.ref a]/\H a=some (pA X a (ST.f9 [] ns))/\ns.length<60/\∀p,H p=none->Q (.ref p) (upd H p (.lst ((A1 ns).map V.int)))):=by
 intro pins s Z H xs us Q I r h;obtain⟨a,ns,rfl,ha,hl,q⟩:=h;cases r with
 |cons r rr =>
 cases rr;cases r;have hS:ST.o7 X.prog X.w s.heap a (ST.f9 [] ns):=(I.bD a _ ha).1;have hn:=ST.J6 ns [];simp only[List.length_nil] at hn;refine ST.Nw (I.ok.hd hc) hS (by omega) λS vs iV e h' d' iG h1 h2 h3 h4 h5 h6 _=>?_;have e1:iV=A1 ns:=F5 (h2.trans (M7 ns).symm) h3 (U0 ns);subst e1;have hz:=DJ ns;exact⟨.ref S,_,(I.laid (a:=S) (o:=.lst ((A1 ns).map V.int)) (t':=iG) h6 h5 ⟨by rw[ak];exact aG hz (aG (cG hl) (by decide)),vs,e,T4 h1,h4⟩).draw d',rfl,q S (I.bD.fresh h5)⟩
end
end L2
namespace ST
open PySem PyProof.Rows
theorem Pz{prog:Program}{w:World}{A:Around}{E:Value->Shared->Prop}{s:Shared}{a:Addr}{ks:List Int}{k:Int}{tk:Tok}{Q:Value->Shared->Prop}(hS:o7 prog w s.heap a ks)(hr:ks.length+1<scanBound)(h:∀h',Heap.SameBut a s.heap h'->o7 prog w h' a (w6 ks k)->Q .none { s with heap:=h',toks:=s.toks+1 }):wpAny (model prog w) A (call (.builtin "set.add") [.ref a,.int k tk]) Q E s:=by
 have hT:s.TypeIs (.ref a) "set":=let ⟨o,_,_,_,e,x,_⟩:=hS;⟨o,e,x.1⟩
 refine bO F.slot_set_add hT F.entry_set_add ?_ (F.args_set_add_2 _ _);have go:∀(Q':Fin->Shared->Prop),(∀h',Heap.SameBut a s.heap h'->o7 prog w h' a (w6 ks k)->wpAny (model prog w) A.in1 (ret .none) Q' E { s with heap:=h',toks:=s.toks+1 })->wpAny (model prog w) A.in1 (do let _ <- setAdd a (.int k tk);ret .none) Q' E s:=λQ' q=>by
  unfold setAdd;refine aa (bx (aa ((intKind prog w).pyHash (k:=k) (gh _ _ _ _) ?_)));exact Ep (s:={ s with toks:=s.toks+1 }) hS hr λh' b sb S2=>q h' sb S2
 unfold Builtin.«set.add» Builtin.Frozenset.oneOther;simp only[List.isEmpty_nil,bind_assoc];unfold Builtin.Frozenset.addrOf;refine aa (ag ?_)
 try dsimp only
 refine aa (ag ?_)
 try dsimp only
 exact go _ λh' sb S2=>ag ⟨_,rfl,h h' sb S2⟩
end ST
namespace L2
open PySem PySem.Spec PyProof.Rows
variable{elt iter:Expr}{ifs:List Expr}{scope:Scope}{pos:Pos}
section
variable{prog:Program}{w:World}{A:Around}{R:Result->Shared->Prop}{s:Shared}
theorem Ny(elt target iter:Expr)(ifs:List Expr)(scope:Scope)(pos:Pos)(it acc:Value)(env:Env):compTurn (.SetComp elt [⟨target,iter,ifs,0⟩] scope pos) 0 it acc env=(do
      standAt iter.pos
      match <- pyNext it with
      |none=>pure (.done .next)
      |some v =>
        letOwnedTupleGo target it v
        assign target env v
        let mut ok:=true
        for c in ifs do if ok then ok <- isTrue c env (eval c env)
        if ok then(do let x <- eval elt env;standAt elt.pos;let _ <- call (.builtin "set.add") [acc,x])
        again (.compLoop (.SetComp elt [⟨target,iter,ifs,0⟩] scope pos) 0 it acc env)):=by rfl
theorem Ov{target:Expr}{it acc:Value}{env:Env}(I:Nat->Shared->Prop)(turn:∀ n s,I n s->wpAny (model prog w) A (pyNext it) (λr bG=>match r with
   |none=>R (.ok .next) bG
   | some v=>wpAny (model prog w) A (letOwnedTupleGo target it v) (λ_ bG=>wpAny (model prog w) A (assign target env v) (λ_ fW =>
     wpAny (model prog w) A (forIn ifs true λc r=>if r=true then do let ok <- isTrue c env (eval c env);pure (ForInStep.yield ok) else pure (ForInStep.yield r)) (λok fb =>
      if ok=true then wpAny (model prog w) A (eval elt env) (λx iS =>
       wpAny (model prog w) A (call (.builtin "set.add") [acc,x]) (λ_ kJ=>∃ m,m < n/\I m kJ) (λ_ _=>False) iS) (λ_ _=>False) fb
      else ∃ m,m < n/\I m fb) (λ_ _=>False) fW) (λ_ _=>False) bG) (λ_ _=>False) bG) (λ_ _=>False) s)(n:Nat)(h:I n s) :
  codeAny (model prog w) A (.compLoop (.SetComp elt [⟨target,iter,ifs,0⟩] scope pos) 0 it acc env) R s:=by
 refine codeAny_loop rfl I (λn s hI=>?_) n h;show wpAny _ A ((compTurn (.SetComp elt [⟨target,iter,ifs,0⟩] scope pos) 0 it acc env).onRaise (λx=>do noteFrame x env;theTreesLotGoes x)) _ _ s;refine wpAny_noted ?_;rw[Ny];refine aa (eI (aa (br (turn n s hI) (λr bG dj=>?_) λ_ _ h'=>h'.elim)));cases r with
 |none=>exact ag dj
 |some v =>
  refine aa (br dj (λ_ bG dj=>?_) λ_ _ h'=>h'.elim);refine aa (br dj (λ_ fW ie=>aa (br ie (λok fb kU=>?_) λ_ _ h'=>h'.elim)) λ_ _ h'=>h'.elim);cases ok with
  |false=>exact wpAny_pure ⟨rfl,kU⟩
  |true =>
   exact aa (aa (br kU (λx iS oA=>aa (eI (aa (br oA (λ_ kJ oz=>ag (ag ⟨rfl,oz⟩)) λ_ _ h'=>h'.elim)))) λ_ _ h'=>h'.elim))
theorem Nq{target:Expr}{it acc:Value}{env:Env}(h0:codeAny (model prog w) A (.compLoop (.SetComp elt [⟨target,iter,ifs,0⟩] scope pos) 0 it acc env) R s)(h:wpAny (model prog w) A (pyIter it) (λAW s'=>codeAny (model prog w) A (.compLoop (.SetComp elt [⟨target,iter,ifs,0⟩] scope pos) 0 AW acc env) R s') (notedBy (model prog w) A env λx s'=>R (.error x) s') s) :
  codeAny (model prog w) A (.compStart (.SetComp elt [⟨target,iter,ifs,0⟩] scope pos) 0 it acc env) R s:=by
 refine qr (?_:wpAny _ _ ((compStart (.SetComp elt [⟨target,iter,ifs,0⟩] scope pos) 0 it acc env).onRaise (λx=>do noteFrame x env;standAt theWindowsPlace)) _ _ s);refine wpAny_notedAt ?_;unfold compStart;refine aa (nN (wpAny_ite ?_));split
 ·first
   |exact ag ⟨rfl,h0⟩
   |exact aa (ag (ag ⟨rfl,h0⟩))
 ·refine aa (eP ?_);exact aa (eI (aa (br h (λAW s' h'=>ag ⟨rfl,h'⟩) λ_ _ x=>x)))
end
def yi(o:Obj):Prop:=∀v,o.data≠.cell v
def TN(X:Cx)(wi:TI)(c8:List Nat)(n:Nat)(g:TG)(tc:TT)(te:TE):TE:=λZ H Q=>wi Z H λJ H1=>∃W:Nat->Nat->List Int->St->Hp->Prop,(∃m,W 0 m [] (A9 Z c8 n) H1)/\∀i m ys Z H,W i m ys Z H ->
 (J.stop i H/\∀p,H p=none->Q (.ref p) (upd H p (pA X p (ST.f9 [] ys)))) \/
 (J.go i H/\ys.length < 60/\∀ x H',J.nT i H x H'->g x Z H' λcE H2=>tc cE H2 λb H3 =>
  if b=true then te cE H3 λy H4=>∃ k,y=.int k/\∃ m',m' < m/\W (i + 1) m' (ys ++ [k]) cE H4 else ∃ m',m' < m/\W (i + 1) m' ys cE H3)
section
variable{X:Cx}{pins:List (Addr×Obj)}{Z:St}{H:Hp}{s:Shared}
theorem Inv.TU{D:Addr}{φ:Heap->Prop}(I:Inv X pins Z H s)(f:B0 X pins H D)(hs:X.cV.heap.objs.size<=D)(ho:k8 X.prog X.w (upd H D (.ext φ)) s.heap D (.ext φ)):Inv X pins Z (upd H D (.ext φ)) s:=by
 obtain⟨f0,f1,f2,f3,f4,f5⟩:=f;have dI:∀b o,X.cV.heap.get? b=some o->b≠D:=λb o e z=>absurd (aq e) (by rw[z];exact jj.mpr hs);have tup:∀b u,H b=some u->upd H D (.ext φ) b=some u:=λb u e=>by rw[d8 (j9 e f0)];exact e
 refine⟨I.ok,I.os,I.bare,⟨?_,?_,?_,I.base.there,?_,?_,?_⟩,I.loc,I.cell,?_,?_,?_,?_,I.len⟩
 ·exact λb o e n1 n2 n3=>I.base.keep b o e n1 n2 n3
 ·exact λb o e n1 n2 n3=>I.base.slot b o e n1 n2 n3
 ·exact λb o e n1 n2=>by rw[d8 (dI b o e)];exact I.base.free b o e n1 n2
 ·exact λb xs e=>tup _ _ (I.base.hV b xs e)
 ·exact λb o u e=>tup _ _ (I.base.gL b o u e)
 ·exact λb ps e=>by
   obtain⟨more,q⟩:=I.base.hW b ps e;exact⟨more,tup _ _ q⟩
 ·rw[d8 f1.symm];exact I.free
 ·exact λx c e=>by rw[d8 (f4 x c e)];exact I.fi x c e
 ·intro p hp;obtain⟨p1,p2,p3⟩:=I.pin p hp;exact⟨p1,by rw[d8 (f5 p hp)];exact p2,p3⟩
 ·intro a o e;by_cases ha:a=D
  ·subst ha;rw[n9] at e;cases e;exact ho
  ·rw[d8 ha] at e;have q:=I.bD a o e;refine q.T7 (λb u _ h=>h) (λb hb=>tup _ _ hb) (λb xs hb=>tup _ _ hb)
theorem NP{tg:Expr}{N':List Str}{c8:List Nat}{cl:List (Str×Addr)}{it:Addr}{fp:List Addr}{tn:Nat->Heap->Prop}{J:It}{g:TG}{tc:TT}{te:TE}{RR:Value->Addr->Result->Shared->Prop}{E:Value->Shared->Prop}{W:Nat->Nat->List Int->St->Hp->Prop}{m0:Nat}{Q:VK}(S:cZ X scope N' c8 cl)(hc:X.calm=true)(hg:∀C s H,PG (d4 X pins scope N' cl C s H fp) tg g)(ht:∀C s H,jW (d4 X pins scope N' cl C s H fp) ifs tc)(he:∀C s H,PE (d4 X pins scope N' cl C s H fp) elt te)(I:Inv X pins Z H s)(T:Turn X.prog X.w X.K tg J fp it tn)(st:tn 0 s.heap)(hf:∀b∈fp,B0 X pins H b)(w0:W 0 m0 [] (A9 Z c8 N'.length) H)(turn:∀ i m ys Z H,W i m ys Z H->(J.stop i H/\∀ p,H p=none->Q (.ref p) (upd H p (pA X p (ST.f9 [] ys)))) \/
   (J.go i H/\ys.length < 60/\∀ x H',J.nT i H x H'->g x Z H' λcE H2=>tc cE H2 λb H3 =>
    if b=true then te cE H3 λy H4=>∃ k,y=.int k/\∃ m',m' < m/\W (i + 1) m' (ys ++ [k]) cE H4 else ∃ m',m' < m/\W (i + 1) m' ys cE H3))(xf:∀D C s' H' m,Inv X pins Z H' s'->Q (.ref D) H'->s'.heap.Ns C m->H' C=none->s.heap.objs.size<=C->RR (.ref D) C (.ok .next) s') :
  wpAny (model X.prog X.w) X.A (newSet (.type "set")) (λacc fb=>wpAny (model X.prog X.w) X.A (newFunctionEnv scope X.env.globals cl [] X.env.qual none .none (some X.env)) (λkh iS =>
   codeAny (model X.prog X.w) X.A (.compStart (.SetComp elt [⟨tg,iter,ifs,0⟩] scope pos) 0 (.ref it) acc { kh with scope:=relabel scope X.env }) (RR acc kh.locals) iS) E fb) E s:=by
 refine ST.CH (W0 λdj fM fc lp=>?_);dsimp only at fM fc lp ⊢;generalize lT:s.heap.push (ST.t7 X.w)=H2 at fM fc lp ⊢;generalize eD:s.heap.objs.size=D at *;have hC:H2.objs.size=D+1:=by rw[<- lT,dk,eD]
 generalize eC:H2.objs.size=C at *;have sx:D≠C:=by omega
 have lt:∀b o,s.heap.get? b=some o->b<D:=λb o e=>by rw[<- eD];exact aq e
 have ox:D<=C:=by omega
 have mY:∀b o,s.heap.get? b=some o->b≠C:=λb o e=>aF (az (lt b o e) ox);have kR:∀b o,s.heap.get? b=some o->b≠D:=λb o e=>aF (lt b o e);have old:∀b o,s.heap.get? b=some o->dj.get? b=some o:=λb o e=>fc b o (lT▸af _ e);have iE:dj.get? D=some (ST.t7 X.w):=fc _ _ (by rw[<- lT,<- eD];exact ay _ rfl);have ig:∀b∈fp,∃o,s.heap.get? b=some o:=λb hb=>by
  obtain⟨o,e,_⟩:=T.obj _ _ st b hb;exact⟨o,e⟩
 have sv:D∉fp:=λhm=>by
  obtain⟨o,e⟩:=ig D hm;exact kR D o e rfl
 have X1:Inv (d4 X pins scope N' cl C s H fp) [] (A9 Z c8 N'.length) H { s with heap:=dj } :=
  I.DT S hc hf ig (by rw[eD];omega) ⟨_,fM⟩ old lp
 have qN:tn 0 dj:=T.keep _ _ _ st λb _ o e=>old b o e;have xA:∀{H':Hp},(∀b∈fp,H' b=none)->∀b∈fp,B0 (d4 X pins scope N' cl C s H fp) [] H' b:=λhn b hb=>by
  obtain⟨f0,f1,f2,f3,f4,f5⟩:=hf b hb;obtain⟨o,e⟩:=ig b hb;refine⟨hn b hb,?_,?_,.inl hb,λx c q=>(V6 lp q).elim (λl z=>absurd (bW (z▸l) (az (lt b o e) ox)) (aQ _)) λq=>f4 x c (S.cin x c q),λp hp=>?_⟩
  ·exact mY b o e
  ·exact λz=>by
    rcases aD.mp (I.G0 b z) with z|z
    ·exact f1 z
    ·exact f2 z
  ·have iL:p∈X.pn++pins:=by simpa[d4] using hp
   exact f5 p iL
 have fD:∀{H':Hp},H' D=none->B0 (d4 X pins scope N' cl C s H fp) [] H' D:=λhn=>by
  refine⟨hn,sx,λz=>?_,.inr (by show s.heap.objs.size<=D;omega),λx c q=>?_,λp hp=>?_⟩
  ·exact absurd (I.sZ (a:=D) (by omega)) λni=>by
    rcases aD.mp (I.G0 D z) with z|z
    ·exact absurd I.lt (by rw[<- z,eD];exact aQ _)
    ·exact ni z
  ·rcases V6 lp q with l|q
   ·exact λz=>absurd (az (z▸l) ox) (aQ _)
   ·obtain⟨v,o,e,_⟩:=I.cell x c (S.cin x c q);exact kR c o e
  ·have iL:p∈X.pn++pins:=by simpa[d4] using hp
   exact kR _ _ (I.pin p iL).1
 have oq:∀{H':Hp} {s':Shared} {bJ:St} {oD:Obj},yi oD->Inv (d4 X pins scope N' cl C s H fp) [] bJ H' s'->H' D=none->s'.heap.get? D=some oD ->
   Inv (d4 X pins scope N' cl C s H fp) [(D,oD)] bJ H' s':=λ{H' s' bJ oD} jS J0 hn e=>J0.F4 λp hp=>by
  have z:p=(D,oD):=by simpa using hp
  subst z;obtain⟨f0,f1,f2,_⟩:=fD hn;exact⟨e,f0,f1,f2,jS⟩
 have lU:∀{H':Hp} {oD:Obj},(∀b∈fp,H' b=none)->∀b∈fp,B0 (d4 X pins scope N' cl C s H fp) [(D,oD)] H' b:=λ{H' oD} hn b hb=>by
  obtain⟨f0,f1,f2,f3,f4,f5⟩:=xA hn b hb;refine⟨f0,f1,f2,f3,f4,λp hp=>?_⟩;have iL:p∈(d4 X pins scope N' cl C s H fp).pn\/p=(D,oD):=by simpa using hp
  rcases iL with z|z
  ·exact f5 p (bh _ z)
  ·subst z;exact λz=>sv (by rw[show D=b from z];exact hb)
 have loop:∀fb:Shared,fb={ s with heap:=dj } ->
   codeAny (model X.prog X.w) X.A (.compLoop (.SetComp elt [⟨tg,iter,ifs,0⟩] scope pos) 0 (.ref it) (.ref D) (compEnvC scope (F0 scope cl C) C X.env)) (RR (.ref D) C) fb:=by
  rintro fb rfl;refine Ov (λn s'=>∃ (i:Nat) (ys:List Int) (bJ:St) (H':Hp) (oD:Obj),Inv (d4 X pins scope N' cl C s H fp) [] bJ H' s'/\tn i s'.heap/\(∀ b ∈ fp,H' b=none)/\H' D=none/\ys.length <= 60/\yi oD /\
   s'.heap.get? D=some oD/\ST.o7 X.prog X.w s'.heap D (ST.f9 [] ys)/\W i n ys bJ H') ?_ m0 ⟨0,[],_,H,ST.t7 X.w,X1,qN,λb hb=>(hf b hb).1,I.bD.fresh (by omega),bY _,(λv (z:Data.set _ _ _=_)=>by cases z),iE,ST.DC iE,w0⟩
  rintro n s3 ⟨i,ys,gI,H3,oD,I3,mV,nF,d3,z3,c3,o3,S3,w3⟩;have tJ:=oq c3 I3 d3 o3;rcases turn i n ys gI H3 w3 with⟨stop,q⟩|⟨go,hz,step⟩
  ·refine cC (T.done (d4 X pins scope N' cl C s H fp) rfl rfl rfl rfl i _ s3 _ H3 _ tJ (lU nF) mV stop) λr s4 ⟨hr,I4⟩=>?_;subst hr;have o4:=(I4.pin (D,oD) (by simp)).1;have J4:Inv X pins Z H3 s4:=I.CZ hf I4;have xC:B0 X pins H3 D:=by
    refine⟨d3,bE (by rw[<- eD];exact I.lt),I.sZ (by omega),.inr (by have:=I.sz;omega),λx c q=>?_,λp hp=>?_⟩
    ·obtain⟨v,o,e,_⟩:=I.cell x c q;exact kR c o e
    ·exact kR _ _ (I.pin p hp).1
   obtain⟨mC,wJ,_⟩:=I4.loc;exact xf D C s4 (upd H3 D (pA X D (ST.f9 [] ys))) mC (J4.TU xC (by have:=I.sz;omega) (CQ (S3.at λo e=>by rw[o3] at e;cases e;exact o4))) (q D d3) wJ (by rw[d8 sx.symm];exact I4.free) (by omega)
  ·refine cC (T.item (d4 X pins scope N' cl C s H fp) rfl rfl rfl rfl i _ s3 _ H3 _ tJ (lU nF) mV go) λr s4 ⟨u,hr,h4⟩=>?_;subst hr;refine cC h4 λ_ s5 bc=>?_;obtain⟨x,H5,I5,r5,y5,kK,sH⟩:=bc;have o5:=I5.pin (D,oD) (by simp);have tI:=I5.pinned (lU sH) (T.obj _ _ kK);refine cC (hg C s H _ s5 _ H5 x u _ tI r5 (step x H5 y5)) λ_ s6 bc=>?_;obtain⟨jY,H6,I6,q6⟩:=bc;refine cC (ht C s H _ s6 jY H6 _ I6 q6) λok s7 ⟨H7,I7,q7⟩=>?_;have back:∀{qD:St} {H8:Hp} {s8:Shared},Inv (d4 X pins scope N' cl C s H fp) ([(D,oD)]++R5 fp s5.heap) qD H8 s8->(∀b∈fp,H8 b=none)/\tn (i+1) s8.heap/\H8 D=none/\s8.heap.get? D=some oD :=
    λ{qD H8 s8} I8=>by
     have pf:∀b∈fp,∀o,s5.heap.get? b=some o->s8.heap.get? b=some o/\H8 b=none:=λb hb o e=>by
      have:=I8.pin (b,o) (aZ _ (aZ _ (M9 hb e)));exact⟨this.1,this.2.1⟩
     have pd:=I8.pin (D,oD) (by simp);refine⟨λb hb=>?_,T.keep _ _ _ kK λb hb o e=>(pf b hb o e).1,pd.2.1,pd.1⟩;obtain⟨o,e,_⟩:=T.obj _ _ kK b hb;exact(pf b hb o e).2
   cases ok with
   |false =>
    obtain⟨m',hm,w7⟩:=q7;obtain⟨b1,b2,b3,b4⟩:=back I7;exact⟨m',hm,i+1,ys,jY,H7,oD,I7.F4 λp hp=>absurd hp (by simp),b2,b1,b3,z3,c3,b4,S3.at λo e=>by rw[o3] at e;cases e;exact b4,w7⟩
   |true =>
    refine cC (he C s H _ s7 jY H7 _ I7 q7) λxv s8 bc=>?_;obtain⟨y,H8,I8,r8,kk,ey,m',hm,w8⟩:=bc;subst ey;obtain⟨tk,rfl⟩:=r8;obtain⟨b1,b2,b3,b4⟩:=back I8;have S8:ST.o7 X.prog X.w s8.heap D (ST.f9 [] ys):=S3.at λo e=>by rw[o3] at e;cases e;exact b4
    have wb:=ST.J6 ys [];simp only[List.length_nil] at wb;refine ST.Pz S8 (az (by omega:_<62) (by decide)) λh' sb S9=>?_;have e9:ST.w6 (ST.f9 [] ys) kk=ST.f9 [] (ys++[kk]):=by unfold ST.f9;rw[Vh];rfl
    rw[e9] at S9;obtain⟨o9,VR,VT,t9,g9,x9,d9,r9⟩:=id S9;have c9:yi o9:=λv z=>by rw[d9] at z;cases z
    have zU:Inv (d4 X pins scope N' cl C s H fp) [] jY H8 s8:=I8.F4 λp hp=>absurd hp (by simp);obtain⟨f0,f1,f2,f3,f4,f5⟩:=fD (H':=H8) b3;have kp:∀b o,b≠D->s8.heap.get? b=some o->h'.get? b=some o:=λb' u hb hu=>by rw[sb.2 b' hb];exact hu
    refine⟨m',hm,i+1,ys++[kk],jY,H8,o9,zU.turned (it:=D) (t':=s8.toks+1) kp f0 f1 f3 f4 f5,T.keep _ _ _ b2 λb hb o e=>kp b o (λz=>sv (by rw[<- z];exact hb)) e,b1,b3,?_,c9,g9,S9,w8⟩;rw[aK,gZ];omega
 exact Nq (loop _ rfl) (T.self _ 0 _ _ _ qN (loop _ rfl))
theorem Qo{tg:Expr}{N':List Str}{c8:List Nat}{cl:List (Str×Addr)}{wi:TI}{g:TG}{tc:TT}{te:TE}(S:cZ X scope N' c8 cl)(hc:X.calm=true)(hi:PI X tg iter wi)(hg:∀pins C s H fp,PG (d4 X pins scope N' cl C s H fp) tg g)(ht:∀pins C s H fp,jW (d4 X pins scope N' cl C s H fp) ifs tc)(he:∀pins C s H fp,PE (d4 X pins scope N' cl C s H fp) elt te)(hs:∀x,foldedSetIterable iter X.env x=pure x):PE X (.SetComp elt [⟨tg,iter,ifs,0⟩] scope pos) (TN X wi c8 N'.length g tc te):=by
 intro pins s Z H Q I h;rw[arm_eval_SetComp];refine gU (use:=none) rfl hs S.pb S.kind S.names (cC (hi pins s Z H _ I h) λxv bG dj=>cC dj λrH fW ie=>?_);obtain⟨it,fp,tn,J,H2,e,I2,T,kL,f2,W,⟨m0,w0⟩,turn⟩:=ie;subst e;refine NP (RR:=λacc C=>compPost (model X.prog X.w) X.A X.xe none (EP X pins Z Q) acc C) S hc (λC s H=>hg pins C s H fp) (λC s H=>ht pins C s H fp) (λC s H=>he pins C s H fp) I2 T kL f2 w0 turn ?_;intro D C s' H' m I' q hn hC hsz;exact⟨m,hn,λh' sb=>⟨.ref D,H',I'.ED hsz I2 hC sb,rfl,q⟩⟩
end
end L2
namespace HT
open PySem PyProof.Rows Builtin
theorem OE:fillsNumberSlot (.type "tuple") "mul"=pure false :=
 PySem.fillsNumberSlot_seq (id:="tuple.__mul__") (r:=some (.builtin "tuple.__rmul__")) nP.lookup (by decide +kernel) F.slot_tuple_rmul.lookup (by decide +kernel)
theorem Oi:seqRepeat? (.type "tuple")=pure (some (.builtin "tuple.__mul__")):=by
 unfold seqRepeat?;rw[Wc (T:="tuple") (name:="__mul__") (id:="tuple.__mul__") nP.lookup (by decide +kernel),Wc (T:="tuple") (name:="__rmul__") (id:="tuple.__rmul__") F.slot_tuple_rmul.lookup (by decide +kernel)]
 rfl
theorem OA(a:Int)(t:Tok)(l:Addr)(items:Array Value)(n:Nat)(dd:Option Addr)(sl:Array (Option Value)) :
  Meets (Builtin.«int.__rmul__» ⟨[.int a t,.ref l],[]⟩) (λ_ R s=>s.heap.get? l=some { cls:=.type "tuple",dict:=dd,data:=.seq items n,slots:=sl }/\R (.ok (.ret Value.notImplemented)) s) :=
 .of_wp λprog w A R s h=>by obtain⟨hp,g,d,tk,os⟩:=s;obtain⟨hl,h⟩:=h;wp_walk;exact⟨_,rfl,h⟩
theorem OB(t:Value)(c:Value):Builtin.«tuple.__mul__» ⟨[t,c],[]⟩=(do
 let n <- asIndex c
 if n < -(2 ^ 63)||n>=2 ^ 63 then
  rule "tuple.repeat.overflow";raiseError "OverflowError" s!"cannot fit '{<- typeNameOf c}' into an index-sized integer"
 let xs <- Builtin.Tuple.tupleItemsOf t
 if xs.isEmpty||n==1 then
  if <- Builtin.Tuple.tupleIsExact t then rule "tuple.repeat.same-object";return <- ret t
 if n<=0||xs.isEmpty then return <- ret (<- Builtin.Tuple.tupleExact #[])
 if xs.size*n>(2 ^ 63-1) / 8 then rule "tuple.repeat.no-memory";raiseNew (<- newExc (.type "MemoryError") [])
 if Builtin.Tuple.tupleTooMany (xs.size*n) then unsupported "tuple.__mul__:memory"
 ret (<- Builtin.Tuple.tupleExact ((List.replicate n.toNat xs).foldl (· ++ ·) #[]))):=rfl
section
variable{prog:Program}{w:World}{A:Around}{E:Value->Shared->Prop}{s:Shared}
theorem Sx(aO:List Value):∀(m:Nat) (acc:Array Value),List.foldl (λx1 x2=>x1++x2) acc (List.replicate m aO.toArray)=acc++(List.replicate m aO).flatten.toArray:=by
 intro m
 induction m with
 |zero=>intro acc;simp
 |succ m ih=>intro acc;rw[bL,List.foldl_cons,ih,bL,bf];simp
theorem Sm{a:Addr}{aO:List Value}{n:Int}{t:Tok}{Q:Value->Shared->Prop}(ht:IsTup s.heap a aO.toArray)(dI:aO≠[])(h1:1<=n)(h2:n<2 ^ 62)(hz:aO.length*n.toNat<=sizeLine)(q1:n=1->Q (.ref a) s)(q2:Q (.ref s.heap.objs.size) { s with heap:=s.heap.push { cls:=.type "tuple",data:=.seq (List.replicate n.toNat aO).flatten.toArray } }):wpAny (model prog w) A (binaryOp .Mult (.ref a) (.int n t)) Q E s:=by
 obtain⟨o,ho,hc,k,hd⟩:=id ht;obtain⟨cls,dict,data,slots⟩:=o;dsimp only at hc hd;subst hc hd;have he:aO.toArray.isEmpty=false:=by cases aO<;>first|exact absurd rfl dI|rfl
 refine zY (T:="tuple") (U:="int") (by decide) ht.typeIs (λs'=>kz s' n t) OE F.fills_int_mul je Oi F.slot_int_index.lookup
  (iP je (kz s n t) F.entry_int_rmul (F.args_int_rmul_2 _ _) (OA n t a aO.toArray k dict slots) ⟨ho,rfl,ht.typeIs,?_⟩)
 refine bO nP ht.typeIs F.entry_tuple_mul ?_ (F.args_tuple_mul_2 _ _);rw[OB];refine aa (dt (show asIndex (.int n t)=pure n from rfl) ?_);dsimp only;rw[aH (by simp only[Bool.or_eq_true,decide_eq_true_eq];omega)];refine aa (tupleItemsOf_ ht ?_);have big:¬((aO.toArray.size:Int)*n>(2 ^ 63-1) / 8):=by
  rw[aB];have:((aO.length*n.toNat:Nat):Int)=(aO.length:Int)*n:=by rw[Int.natCast_mul];rw[show((n.toNat:Nat):Int)=n by omega]
  rw[<- this];have hs:sizeLine<2 ^ 59:=by decide
  omega
 have many:¬(Builtin.Tuple.tupleTooMany ((aO.toArray.size:Int)*n)=true):=by
  unfold Builtin.Tuple.tupleTooMany;rw[aB,bp];have:((aO.length*n.toNat:Nat):Int)=(aO.length:Int)*n:=by rw[Int.natCast_mul];rw[show((n.toNat:Nat):Int)=n by omega]
  rw[<- this];omega
 have hsz:sizeOk (.seq (List.replicate n.toNat aO).flatten.toArray):=by
  show(List.replicate n.toNat aO).flatten.toArray.size<=sizeLine;simp only[List.size_toArray,List.length_flatten,List.map_replicate,List.sum_replicate_nat];rw[qu];exact hz
 by_cases e1:n=1
 ·subst e1;rw[aN (by rw[he];rfl)];unfold Builtin.Tuple.tupleIsExact;refine aa (aa (cX ht.typeIs (ag ?_)));rw[aN (by decide)]
  first
   |exact aa (eP (aa (ag ⟨_,rfl,ag (q1 rfl)⟩)))
   |exact aa (eP (ag ⟨_,rfl,(q1 rfl)⟩))
   |exact aa (eP (ag ⟨_,rfl,ag (q1 rfl)⟩))
 ·rw[aH (by rw[he];simpa using e1)];rw[aH (by rw[he];simp;omega),aH big,aH many];rw[show List.foldl (λx1 x2=>x1++x2) #[] (List.replicate n.toNat aO.toArray)=(List.replicate n.toNat aO).flatten.toArray by rw[Sx];simp]
  first
   |exact aa (m:=Builtin.Tuple.tupleExact _) (bq (ag ⟨_,rfl,q2⟩) hsz)
   |exact aa (m:=Builtin.Tuple.tupleExact _) (bq (ag ⟨_,rfl,ag q2⟩) hsz)
end
end HT
namespace L2
open PySem PySem.Spec PyProof.Rows
section
variable{X:Cx}
def Ll(K:PySem.W.Frag):R2:=λx y H Q=>∃(a:Addr) (n:Int) (xs:List V),x=.ref a/\y=.int n/\gS K H a xs/\xs≠[]/\1<=n/\n<2 ^ 62/\xs.length*n.toNat<=sizeLine /\
 (n=1->Q (.ref a) H)/\(∀p,H p=none->Q (.ref p) (upd H p (.tup (List.replicate n.toNat xs).flatten)))
theorem UO:fj X (binaryOp .Mult) (Ll X.K):=by
 intro pins s Z H x y v u Q I rx ry h;obtain⟨a,n,xs,rfl,rfl,ha,dI,h1,h2,hz,q1,q2⟩:=h;cases rx;obtain⟨tk,rfl⟩:=ry;obtain⟨aO,r,p,_⟩:=I.tuple ha;refine HT.Sm p (λz=>dI (r.vg.mp z)) h1 h2 (by rw[<- r.length];exact hz) (λe=>⟨.ref a,H,I,rfl,q1 e⟩) ?_;refine⟨.ref s.heap.objs.size,_,I.laid (t':=s.toks) (o:=.tup (List.replicate n.toNat xs).flatten) (λb ob q=>af _ q) (aj _) ?_,rfl,q2 _ (I.bD.fresh (aj _))⟩;exact⟨by rw[len_rep,qu];exact hz,_,r.rep _,J8.new _ _⟩
def Uy(sep:Str)(ys:List Str):Nat:=ys.foldl (λn y=>n+y.length+sep.length) 0
end
end L2
namespace HT
open PySem PyProof.Rows Builtin PySem.SeqAt
end HT
namespace L2
open PySem PySem.Spec PyProof.Rows
def zo(K:PySem.W.Frag)(H:Hp)(a:Addr)(xs:List V):Prop :=
 H a=some (.tup xs)\/∃(o:Obj) (aO:Array Value) (n:Nat),K.lookup a=some o/\o.cls=.type "tuple"/\o.dict=none/\o.data=.seq aO n/\aO.size<=sizeLine/\Vals xs aO.toList
theorem zo.sq{K:PySem.W.Frag}{H:Hp}{a:Addr}{xs:List V}(h:zo K H a xs):gS K H a xs:=by
 rcases h with h|⟨o,aO,n,h1,h2,_,h3,h4,h5⟩
 ·exact .inl (.inl h)
 ·exact .inr ⟨o,aO,n,h1,h2,h3,h4,h5⟩
end L2
namespace ST
open PySem PyProof.Rows
def Spot(k:Int):Prop:=0<=k/\k<8
structure Own(mask:Nat)(owner:Array (Option Nat))(pre:List Int):Prop where
 sz:owner.size=mask+1
 fwd:∀(i:Nat) (k:Int),pre[i]?=some k->owner[k.toNat]?=some (some i)
 bwd:∀(j i:Nat),owner[j]?=some (some i)->pre[i]?=some (j:Int)
section
variable{prog:Program}{w:World}{a:Addr}
def IA(prog:Program)(w:World)(h:Heap)(a:Addr)(ks:List Int):Prop :=
 ∃o es ep t,h.get? a=some o/\o.ExactSet/\o.data=.set es ep t/\ElemsOf (intKind prog w) es.toList/\(es.toList.map λe=>toI e.2).Perm ks/\ks.Nodup/\es.size<scanBound/\t.fits es.size=true/\Well (Led w) t/\(ks=[]->7<=t.mask)
theorem o7.toV{h:Heap}{ks:List Int}(x:o7 prog w h a ks)(hn:ks≠[]):IA prog w h a ks:=by
 obtain⟨o,es,ep,t,h1,h2,h3,h4,h5,h6,h7,h8,h9⟩:=x;exact⟨o,es,ep,t,h1,h2,h3,h4,h5,h6,h7,h8,h9,λz=>absurd z hn⟩
theorem o7.same{h:Heap}{ks us:List Int}(x:o7 prog w h a ks)(hp:ks.Perm us):o7 prog w h a us:=by
 obtain⟨o,es,ep,t,h1,h2,h3,h4,h5,h6,h7⟩:=x;exact⟨o,es,ep,t,h1,h2,h3,h4,h5.trans hp,hp.nodup_iff.mp h6,h7⟩
theorem above:∀n,n<300->7<SetTable.sizeAbove n/\n<SetTable.sizeAbove n/\SetTable.sizeAbove n<=sizeLine:=by decide +kernel
end
end ST
namespace L2
open PySem PySem.Spec PyProof.Rows
variable{X:Cx}
end L2
namespace ST
open PySem PyProof.Rows
theorem Ot:typeLookup (.type "dict") "__len__"=pure (some (.builtin "dict.__len__")):=by rw[jd,fq];kernel_rfl
section
variable{prog:Program}{w:World}{A:Around}{E:Value->Shared->Prop}{s:Shared}{a:Addr}{ep:Nat}{K:Type}[DecidableEq K]{knd:PySem.KeyKind prog w K}{kvs:List (K×Value)}
theorem NZ(hh:A.handled=none)(hd:(a==sysModules)=false)(hm:s.heap.DictAt knd a kvs ep)(hz:kvs.length<=10000){Q:List Value->Shared->Prop}(h:∀(vs:List Value) h' iG,vs.length=kvs.length->(∀(i:Nat) v,vs[i]?=some v->∃k x,kvs[i]?=some (k,x)/\knd.is k v=true)->(∀c o,s.heap.get? c=some o->h'.get? c=some o)->s.heap.objs.size<=h'.objs.size->s.toks<=iG->Q vs { s with heap:=h',toks:=iG }) :
  wpAny (model prog w) A (collect (.ref a)) Q E s:=by
 have dW:a<s.heap.objs.size:=hm.lt_size;unfold collect;refine aa (vx (cz F.entry_proto_collect ?_));rw[bI F.plain_proto_collect _];show wpAny _ A.in1 (newList [] >>= λl=>again (.builtin "list.__iadd__" ⟨[l,.ref a],[]⟩)) _ _ s;refine aa (bq ?_);refine ag ⟨dC gP _,cz F.entry_list_iadd ?_⟩;rw[bI gP _];have lR:=hm.push { cls:=.type "list",data:=.seq ([]:List Value).toArray };have qa:(s.heap.push { cls:=.type "list",data:=.seq ([]:List Value).toArray }).get? s.heap.objs.size=some { cls:=.type "list",data:=.seq ([]:List Value).toArray }:=ay _ rfl;have dI:s.heap.objs.size≠a:=bE dW;have h1:Builtin.List.listSameRef (.ref s.heap.objs.size) (.ref a)=false:=by simp[Builtin.List.listSameRef,dI]
 show wpAny _ A.in1 (Builtin.List.listExtendWith (.ref s.heap.objs.size) (.ref a) (.ref s.heap.objs.size)) _ _ _;unfold Builtin.List.listExtendWith;refine aa (cX (s:={ s with heap:=_ }) lR.dictOf.typeIs ?_);rw[aH (by rw[h1];decide)];refine aa (wpAny_pyIter_dict (s:={ s with heap:=_ }) hd lR ?_);have kr:s.heap.objs.size<(s.heap.push { cls:=.type "list",data:=.seq ([]:List Value).toArray }).objs.size:=by rw[fY];exact dE _
 have Hy:((s.heap.push { cls:=.type "list",data:=.seq ([]:List Value).toArray }).push { cls:=.type "dict_keyiterator",data:=.fields #[.ref a,.int 0 0,.int kvs.length 0,.int ep 0] }).IsKeyIter (s.heap.push { cls:=.type "list",data:=.seq ([]:List Value).toArray }).objs.size a 0 kvs.length ep:=⟨_,ay _ rfl,rfl,rfl⟩
 have mG:=lR.push { cls:=.type "dict_keyiterator",data:=.fields #[.ref a,.int 0 0,.int kvs.length 0,.int ep 0] };have he:∀c o,(s.heap.push { cls:=.type "list",data:=.seq ([]:List Value).toArray }).get? c=some o->((s.heap.push { cls:=.type "list",data:=.seq ([]:List Value).toArray }).push { cls:=.type "dict_keyiterator",data:=.fields #[.ref a,.int 0 0,.int kvs.length 0,.int ep 0] }).get? c=some o:=λc o e=>af _ e;have lQ:=he _ _ qa;generalize ((s.heap.push { cls:=.type "list",data:=.seq ([]:List Value).toArray }).push { cls:=.type "dict_keyiterator",data:=.fields #[.ref a,.int 0 0,.int kvs.length 0,.int ep 0] })=h2 at *;generalize VJ:(s.heap.push { cls:=.type "list",data:=.seq ([]:List Value).toArray }).objs.size=I at *;refine aa (bx ?_);unfold Builtin.List.listLengthHint;refine aa (wpAny_specialOf (s:={ s with heap:=h2 }) mG.dictOf.typeIs Ot ?_);generalize rZ:("dict.__len__":String)=wg;dsimp only;rw[show splitId wg=some ("dict","__len__") from by subst rZ;decide +kernel];dsimp only;refine aa (cM (s:={ s with heap:=h2 }) (b:=true) mG.dictOf.typeIs (by rw[eY];kernel_rfl) ?_);rw[aH (by decide)];subst rZ;rw[aN (by decide +kernel)];refine aa (cX (s:={ s with heap:=h2 }) mG.dictOf.typeIs ?_);refine ag ?_;rw[aN (by decide +kernel)];refine aa (eP ?_);refine aa ?_;show wpAny _ A.in1 (updateSeq s.heap.objs.size (·.push .none) >>= λ_=>updateSeq s.heap.objs.size (·.pop)) _ _ _;refine aa (eM (s:={ s with heap:=h2 }) lQ rfl ?_);have nv:=aR (Obj.mapSeq (·.push Value.none)) lQ rfl;refine eM (s:={ s with heap:=_ }) nv rfl ?_;have xc:=aR (Obj.mapSeq (·.pop)) nv rfl;have qT:∀c o,c≠s.heap.objs.size->h2.get? c=some o->((h2.update s.heap.objs.size (Obj.mapSeq (·.push Value.none))).update s.heap.objs.size (Obj.mapSeq (·.pop))).get? c=some o :=
  λc o hc e=>(bt _ _ (bU hc)).trans ((bt _ _ (bU hc)).trans e)
 have Hw:I≠s.heap.objs.size:=bE kr;have Ht:a≠I:=aF (bW dW kr);have W:=(Walks.dictKeys (prog:=prog) (w:=w) (A:=A.in1) (knd:=knd) hh I a Ht kvs ep).toS;have st:h2.IsKeyIter I a 0 kvs.length ep/\h2.DictAt knd a kvs ep:=⟨Hy,mG⟩
 have kL:=W.frame 0 ({ s with heap:=h2 }:Shared) _ s.toks st (aj _) λc hc o e=>qT c o (λz=>by simp at hc;rcases hc with y|y<;>simp_all) e;refine ag ⟨dC F.plain_extend_loop _,codeAny_extend_loopS W (aG hz (by decide)) _ (λz=>by simp at z;rcases z with y|y<;>simp_all) _ kvs.length 0 _ _ _ rfl (bY _) kL xc (ItemsOf.nil _) λs' pB c' hm ku iE=>?_⟩;show wpAny _ A (load s.heap.objs.size >>= _) _ _ s';refine aa (wpAny_load ku ?_);refine ag ?_;have eS:s'={ s with heap:=s'.heap,toks:=s'.toks }:=by
  obtain⟨iL,g',d',iG,ot⟩:=s';have m1:g'=s.gens:=hm.gens;have m2:d'=s.drawn:=hm.drawn;have m3:ot=s.os:=hm.os;subst m1;subst m2;subst m3
  rfl
 rw[eS];refine h _ _ s'.toks (by simpa using iE.1) (λi v hv=>iE.2 i v (by simpa using hv)) (λc o e=>?_) (cG (aq ku)) hm.toks;have hc:c<s.heap.objs.size:=aq e;have n1:c≠s.heap.objs.size:=aF hc;have n2:c≠I:=aF (bW hc kr);exact hm.heap c o (by simp[n1,n2]) (qT c o n1 (he c o (af _ e)))
theorem Uz{i:Int}{v:Value}(h:(L2.k6 prog w).is (.inl i) v=true):∃t,v=.int i t:=by
 rw[L2.DX] at h;rcases L2.m8 h with⟨j,t,e1,e2⟩|⟨x,t,e1,_⟩
 ·cases e1;exact⟨t,e2⟩
 ·cases e1
theorem NR{kvs:List (L2.Key×Value)}{ns:List Int}(hh:A.handled=none)(hd:(a==sysModules)=false)(hm:s.heap.DictAt (L2.k6 prog w) a kvs ep)(hk:kvs.map (·.1)=ns.map Sum.inl)(xr:ns.length<64){Q:Value->Shared->Prop}(h:∀(S:Addr) (vs:List Value) (iV:List Int) e h' iG,IntsAre vs iV->iV.Perm ns->iV.Pairwise (·<=·)->h'.get? S=some (seqObj "list" vs.toArray e)->s.heap.objs.size<=S->(∀c o,s.heap.get? c=some o->h'.get? c=some o)->s.toks<=iG->Q (.ref S) { s with heap:=h',toks:=iG }) :
  wpAny (model prog w) A (call (.builtin "sorted") [.ref a]) Q E s:=by
 have hl:kvs.length=ns.length:=by simpa using eZ List.length hk
 refine gH kind_sorted plain_sorted entry_sorted (args_sorted1 _) ?_;unfold Builtin.«sorted»;refine aa (m:=checkCount "sorted" 1 1 _) (ag ?_);refine aa (NZ (A:=A.in1) hh hd hm (by omega) λvs h1 nW Bg hv he kr pS=>?_);have hI:IntsAre vs ns:=by
  have all:∀(i:Nat) v,vs[i]?=some v->∃n tk,ns[i]?=some n/\v=.int n tk:=λi v e=>by
   obtain⟨k,x,h1,h2⟩:=hv i v e;have h3:(kvs.map (·.1))[i]?=some k:=by rw[aC,h1];rfl
   rw[hk,aC,ae] at h3;obtain⟨n,h4,rfl⟩:=h3;obtain⟨tk,e⟩:=Uz h2;exact⟨n,tk,h4,e⟩
  have wL:vs.length=ns.length:=Bg.trans hl;clear hv Bg hl hk h
  induction vs generalizing ns with
  |nil =>
   cases ns with
   |nil=>exact .nil
   |cons=>simp at wL
  |cons v r ih =>
   cases ns with
   |nil=>simp at wL
   |cons n ns =>
    obtain⟨n',tk,e1,e2⟩:=all 0 v rfl;cases e1;rw[e2];exact .cons n tk (ih (by simp at xr;omega) (λi v e=>all (i+1) v e) (by simpa using wL))
 have pV:vs.length<64:=by omega
 refine aa (FG (s:={ s with heap:=h1,toks:=nW }) ?_);have kd:(h1.push (seqObj "list" vs.toArray 0)).get? h1.objs.size=some (seqObj "list" vs.toArray 0):=ay _ rfl;refine aa (bx (bO (s:={ s with heap:=h1.push (seqObj "list" vs.toArray 0),toks:=nW }) slot_list_sort ⟨_,kd,rfl⟩ entry_list_sort (list_sort_tree kd hI pV λout iV a1 a2 a3=>⟨_,rfl,?_⟩) (args_list_sort _)));obtain⟨e,oI⟩:=sortedHeap_at (vs:=vs) (out:=out) kd;refine ag ⟨_,rfl,h h1.objs.size out.toList iV e _ nW a1 a2 a3 oI kr (λc o' e'=>?_) pS⟩;have hc:=aq (he c o' e');rw[sortedHeap_old (aF hc) (by rw[fY];exact cP hc)];exact af _ (he c o' e')
end
end ST
namespace L2
open PySem PySem.Spec PyProof.Rows
variable{X:Cx}
theorem Rf(hc:X.calm=true):i8 X (.builtin "any") (λxs H Q=>∃(a:Addr) (bs:List Bool),xs=[.ref a]/\fe X.K H a (bs.map V.bl)/\Q (.bl (bs.any id)) H):=by
 intro pins s Z H xs us Q I r h;obtain⟨a,bs,rfl,ha,q⟩:=h;obtain⟨u,rfl,ru⟩:=vals1 r;cases ru;obtain⟨aO,rv,p,hz⟩:=I.list ha;refine call_any_walk ?_;refine dJ p.isList ?_;have dI:a≠s.heap.objs.size:=by
  obtain⟨o,e,_⟩:=id p.isList;exact aF (aq e)
 have hl:=rv.length;rw[ak] at hl;refine⟨s.heap.objs.size,_,_,_,_,_,λi=>bs.getD i false,rfl,kA (A:=X.A.in1) (I.ok.hd hc) _ a dI aO.toArray,⟨⟨_,ay _ rfl,rfl,rfl⟩,?_⟩,?_,λh' tk k=>?_⟩
 ·obtain⟨o,e,q1⟩:=id p.isList;exact⟨o,af _ e,q1⟩
 ·intro i v s' Q' E' hP hQ;have hv:aO[i]?=some v:=by simpa using hP
  have hi:i<bs.length:=by rw[hl];exact(ao.mp hv).1
  obtain⟨u',nh,qS⟩:=rv.get (i:=i) (x:=V.bl bs[i]) (by rw[aC,ai hi];rfl);rw[hv] at nh;cases nh;cases (show v=Value.bool bs[i] from qS);refine bS ?_;have:bs.getD i false=bs[i]:=by simp[List.getD,hi]
  dsimp only at hQ;rw[this] at hQ;exact hQ
 ·have e1:(List.range aO.toArray.size).any (λi=>bs.getD i false)=bs.any id:=by
   rw[aB,<- hl];rw[bZ];simp only[List.any_eq_true,List.mem_range,id];constructor
   ·rintro⟨i,hi,hh⟩;exact⟨bs[i],dG hi,by simpa[List.getD,hi] using hh⟩
   ·rintro⟨x,hx,hh⟩;obtain⟨i,hi,rfl⟩:=cQ.mp hx;exact⟨i,hi,by simpa[List.getD,hi] using hh⟩
  rw[e1];exact ⟨.bl (bs.any id),H,I.kept (t':=tk) λb o e=>k b o (by
   intro hb;have:b=s.heap.objs.size:=by simpa using hb
   exact absurd (aq e) (by rw [this];exact aQ _)) (af _ e),rfl,q⟩
theorem P1:∀{ns ks:List Int},(ks++ns).Nodup->ST.f9 ks ns=ks++ns
 |[],ks,_=>by simp[ST.f9]
 |n::r,ks,h=>by
  have hn:n∉ks:=λz=>by
   have:=(dz.mp h).2.2 n z n (by simp);exact this rfl
  have e:ST.w6 ks n=ks++[n]:=by
   unfold ST.w6;rw[aH (by simpa using hn)]
  show ST.f9 (ST.w6 ks n) r=_;rw[e,P1 (by rw[bN];exact h),bN]
  rfl
theorem OD(hc:X.calm=true):i8 X (.builtin "sorted") (λxs H Q=>∃a kvs ns,xs=[.ref a]/\H a=some (.dK kvs)/\kvs.map (·.1)=ns.map Sum.inl/\ns.length<60/\∀p,H p=none->Q (.ref p) (upd H p (.lst ((A1 ns).map V.int)))):=by
 intro pins s Z H xs us Q I r h;obtain⟨a,kvs,ns,rfl,ha,hk,hl,q⟩:=h;cases r with
 |cons r rr =>
 cases rr;cases r;obtain⟨_,hd,vs,kv,hD⟩:=uK I.bD ha;obtain⟨ep,hA⟩:=hD.dictAt;have uq:vs.map (·.1)=ns.map Sum.inl:=kv.keys.symm.trans hk;have GR:ns.Nodup:=by
  obtain⟨_,_,_,_,_,_,_,_,nd⟩:=id hD;rw[uq] at nd;exact(eK.mp nd).imp λh e=>h (eZ _ e)
 refine ST.NR (I.ok.hd hc) hd hA uq (by omega) λS us iV e h' iG h1 h2 h3 h4 h5 h6 _=>?_;have e1:iV=A1 ns:=F5 (h2.trans ((M7 ns).trans (by rw[P1 (ks:=[]) GR];exact .refl _)).symm) h3 (U0 ns);subst e1;have hz:=DJ ns;exact⟨.ref S,_,(I.laid (a:=S) (o:=.lst ((A1 ns).map V.int)) (t':=iG) h6 h5 ⟨by rw[ak];exact aG hz (aG (cG hl) (by decide)),us,e,T4 h1,h4⟩),rfl,q S (I.bD.fresh h5)⟩
theorem Q7{aO:List Value}{ns:List Int}(hi:IntsAre aO ns):∃xs,aO.toArray=intItems xs/\ns=xs.toList.map (·.1):=by
 obtain⟨xs,e⟩:=hi.allInts.items;exact⟨xs,e,by rw[<- hi.numsOf,<- nums_intItems,<- e]⟩
theorem Rm(hc:X.calm=true):i8 X (.builtin "sum") (λxs H Q=>∃a,∃ns:List Int,xs=[.ref a]/\fe X.K H a (ns.map V.int)/\Q (.int ns.sum) H):=by
 intro pins s Z H xs us Q I r h;obtain⟨a,ns,rfl,ha,q⟩:=h;obtain⟨u,rfl,ru⟩:=vals1 r;cases ru;obtain⟨aO,rv,p,hz⟩:=I.list ha;obtain⟨xs,e,en⟩:=Q7 (B5 rv);refine sum_intListG (xs:=xs) (I.ok.hd hc) (by rw[<- e];exact p.isList) λh' tk t' k=>⟨.int ns.sum,H,I.kept k,⟨t',?_⟩,q⟩
 rw[preSum_eq,List.take_of_length_le (by simp),en]
theorem Ri(hc:X.calm=true):i8 X (.builtin "max") (λxs H Q=>∃a,∃(ns:List Int) (M:Int),xs=[.ref a]/\fe X.K H a (ns.map V.int)/\M∈ns/\(∀x∈ns,x<=M)/\Q (.int M) H):=by
 intro pins s Z H xs us Q I r h;obtain⟨a,ns,M,rfl,ha,hm,hM,q⟩:=h;obtain⟨u,rfl,ru⟩:=vals1 r;cases ru;obtain⟨aO,rv,p,hz⟩:=I.list ha;obtain⟨xs,e,en⟩:=Q7 (B5 rv);have hsz:0<xs.size:=by
  have:=qx hm;rw[en,ak,ba] at this;exact this
 refine max_intList (xs:=xs) (I.ok.hd hc) (by rw[<- e];exact p.isList) hsz λv h' tk hv k=>?_;obtain⟨t,rfl⟩:=intItems_at hv;obtain⟨h1,h2⟩:=argBest_gt (numAt xs) (xs.size-1);generalize argBest (λi j=>decide (numAt xs i>numAt xs j)) (xs.size-1)=j0 at *;have m1:numAt xs j0∈ns:=by rw[en,numAt_eq];exact getD_mem (by rw[ak,ba];omega)
 have m2:M<=numAt xs j0:=by
  rw[en] at hm;obtain⟨j,hj,rfl⟩:=mem_getD hm;rw[ak,ba] at hj;rw[<- numAt_eq];exact h2 j (by omega)
 have e2:numAt xs j0=M:=Int.le_antisymm (hM _ m1) m2;exact⟨.int M,H,I.kept k,⟨t,by rw[e2]⟩,q⟩
theorem Rk(hc:X.calm=true):i8 X (.builtin "min") (λxs H Q=>∃a,∃(ns:List Int) (M:Int),xs=[.ref a]/\fe X.K H a (ns.map V.int)/\M∈ns/\(∀x∈ns,M<=x)/\Q (.int M) H):=by
 intro pins s Z H xs us Q I r h;obtain⟨a,ns,M,rfl,ha,hm,hM,q⟩:=h;obtain⟨u,rfl,ru⟩:=vals1 r;cases ru;obtain⟨aO,rv,p,hz⟩:=I.list ha;obtain⟨xs,e,en⟩:=Q7 (B5 rv);have hsz:0<xs.size:=by
  have:=qx hm;rw[en,ak,ba] at this;exact this
 refine min_intList (xs:=xs) (I.ok.hd hc) (by rw[<- e];exact p.isList) hsz λv h' tk hv k=>?_;obtain⟨t,rfl⟩:=intItems_at hv;obtain⟨h1,h2⟩:=argBest_lt (numAt xs) (xs.size-1);generalize argBest (λi j=>decide (numAt xs i<numAt xs j)) (xs.size-1)=j0 at *;have m1:numAt xs j0∈ns:=by rw[en,numAt_eq];exact getD_mem (by rw[ak,ba];omega)
 have m2:numAt xs j0<=M:=by
  rw[en] at hm;obtain⟨j,hj,rfl⟩:=mem_getD hm;rw[ak,ba] at hj;rw[<- numAt_eq];exact h2 j (by omega)
 have e2:numAt xs j0=M:=Int.le_antisymm m2 (hM _ m1);exact⟨.int M,H,I.kept k,⟨t,by rw[e2]⟩,q⟩
theorem Rc(hc:X.calm=true):i8 X (.builtin "all") (λxs H Q=>∃(a:Addr) (ns:List Int),xs=[.ref a]/\fe X.K H a (ns.map V.int)/\Q (.bl (ns.all λn=>n != 0)) H):=by
 intro pins s Z H xs us Q I r h;obtain⟨a,ns,rfl,ha,q⟩:=h;obtain⟨u,rfl,ru⟩:=vals1 r;cases ru;obtain⟨aO,rv,p,hz⟩:=I.list ha;refine call_all_walk ?_;refine dJ p.isList ?_;have dI:a≠s.heap.objs.size:=by
  obtain⟨o,e,_⟩:=id p.isList;exact aF (aq e)
 have hl:=rv.length;rw[ak] at hl;refine⟨s.heap.objs.size,_,_,_,_,_,λi=>ns.getD i 1 != 0,rfl,kA (A:=X.A.in1) (I.ok.hd hc) _ a dI aO.toArray,⟨⟨_,ay _ rfl,rfl,rfl⟩,?_⟩,?_,λh' tk k=>?_⟩
 ·obtain⟨o,e,q1⟩:=id p.isList;exact⟨o,af _ e,q1⟩
 ·intro i v s' Q' E' hP hQ;have hv:aO[i]?=some v:=by simpa using hP
  have hi:i<ns.length:=by rw[hl];exact(ao.mp hv).1
  obtain⟨u',nh,qS⟩:=rv.get (i:=i) (x:=V.int ns[i]) (by rw[aC,ai hi];rfl);rw[hv] at nh;cases nh;obtain⟨t,rfl⟩:=qS;refine truthy_int ?_;have:ns.getD i 1=ns[i]:=by simp[List.getD,hi]
  dsimp only at hQ;rw[this] at hQ;exact hQ
 ·have e1:(List.range aO.toArray.size).all (λi=>ns.getD i 1 != 0)=ns.all λn=>n != 0:=by
   rw[aB,<- hl];rw[bZ];simp only[List.all_eq_true,List.mem_range];constructor
   ·intro hh x hx;obtain⟨i,hi,rfl⟩:=cQ.mp hx;have:=hh i hi;simpa[List.getD,hi] using this
   ·intro hh i hi;have:=hh ns[i] (dG hi);simpa[List.getD,hi] using this
  rw[e1];exact ⟨.bl _,H,I.kept (t':=tk) λb o e=>k b o (by
   intro hb;have:b=s.heap.objs.size:=by simpa using hb
   exact absurd (aq e) (by rw [this];exact aQ _)) (af _ e),rfl,q⟩
theorem Ol:i8 X (.builtin "len") (λxs H Q=>∃a,∃ks:List Int,xs=[.ref a]/\H a=some (pA X a ks)/\Q (.int ks.length) H):=by
 intro pins s Z H xs us Q I r h;obtain⟨a,ks,rfl,ha,q⟩:=h;obtain⟨u,rfl,ru⟩:=vals1 r;cases ru;have hS:ST.o7 X.prog X.w s.heap a ks:=(I.bD a _ ha).1;obtain⟨o,es,ep,t,e,ex,ed,_,hp,nd,hz,hf,_⟩:=hS;have hl:es.size=ks.length:=by have:=hp.length_eq;simpa using this
 refine call_len_set e ex ed hf (by have:scanBound<2 ^ 62:=(by decide);omega) ⟨.int ks.length,H,I.tok _,⟨_,by rw[hl]⟩,q⟩
theorem RK:fj X (compareOp .In) (λx y H Q=>∃i a S n,x=.int i/\y=.ref a/\H a=some (.set S n)/\Q (.bl (S i)) H):=by
 intro pins s Z H x y v u Q I rx ry h;obtain⟨i,a,S,n,rfl,rfl,ha,q⟩:=h;obtain⟨t,rfl⟩:=rx;cases ry;exact wpAny_inSet_of (knd:=intKind X.prog X.w) (k:=i) (gh _ _ _ _) rfl (I.bD a _ ha) ⟨.bl (S i),H,I.tok _,rfl,q⟩
theorem Oh:fj X (compareOp .NotIn) (λx y H Q=>∃i a S n,x=.int i/\y=.ref a/\H a=some (.set S n)/\Q (.bl (!S i)) H):=by
 intro pins s Z H x y v u Q I rx ry h;obtain⟨i,a,S,n,rfl,rfl,ha,q⟩:=h;obtain⟨t,rfl⟩:=rx;cases ry;exact wpAny_notInSet_of (knd:=intKind X.prog X.w) (k:=i) (gh _ _ _ _) rfl (I.bD a _ ha) ⟨.bl (!S i),H,I.tok _,rfl,q⟩
end L2
namespace ST
open PySem PyProof.Rows
section
variable{prog:Program}{w:World}{A:Around}{E:Value->Shared->Prop}{s:Shared}{a:Addr}
theorem Nv{T:String}{o:Obj}{items:Array Value}{n:Nat}{ns:List Int}(hT:T="list"\/T="tuple")(ho:s.heap.get? a=some o)(hc:o.cls=.type T)(hd:o.data=.seq items n)(hI:IntsAre items.toList ns)(xr:ns.length<60){Q:Value->Shared->Prop}(h:∀(h1:Heap) (vs:List Value) (iV:List Int) e h',(∀b o',s.heap.get? b=some o'->h1.get? b=some o')->IntsAre vs iV->iV.Perm ns->iV.Pairwise (·<=·)->h'.get? h1.objs.size=some (seqObj "list" vs.toArray e)->(∀c o,h1.get? c=some o->h'.get? c=some o)->Q (.ref h1.objs.size) { s with heap:=h' }) :
  wpAny (model prog w) A (call (.builtin "sorted") [.ref a]) Q E s:=by
 have hl:items.toList.length=ns.length:=V1 hI;refine gH kind_sorted plain_sorted entry_sorted (args_sorted1 _) ?_;unfold Builtin.«sorted»;refine aa (m:=checkCount "sorted" 1 1 _) (ag ?_);refine aa (wpAny_collect_seq (A:=A.in1) a hT ho hc hd (λh1 kp=>?_) (by simp at hl;unfold sizeLine;omega));have pV:items.toList.length<64:=by omega
 generalize items.toList=vs at *;refine aa (FG (s:={ s with heap:=h1 }) ?_);have kd:(h1.push (seqObj "list" vs.toArray 0)).get? h1.objs.size=some (seqObj "list" vs.toArray 0):=ay _ rfl;refine aa (bx (bO (s:={ s with heap:=h1.push (seqObj "list" vs.toArray 0) }) slot_list_sort ⟨_,kd,rfl⟩ entry_list_sort (list_sort_tree kd hI pV λout iV a1 a2 a3=>⟨_,rfl,?_⟩) (args_list_sort _)));obtain⟨e,oI⟩:=sortedHeap_at (vs:=vs) (out:=out) kd;refine ag ⟨_,rfl,h h1 out.toList iV e _ kp a1 a2 a3 oI (λc o' e'=>?_)⟩;have hc:=aq e';rw[sortedHeap_old (aF hc) (by rw[fY];exact cP hc)];exact af _ e'
end
end ST
namespace L2
open PySem PyProof.Rows
def I0(ns:List Int):List Int:=ns.mergeSort (λa b=>decide (a<=b))
theorem Ec(ns:List Int):(I0 ns).Pairwise (·<=·):=by
 have:=pJ (le:=λa b:Int=>decide (a<=b)) (λa b c h1 h2=>by simp at *;omega) (λa b=>by simp;omega) ns;exact this.imp λh=>by simpa using h
theorem U1(ns:List Int):(I0 ns).Perm ns:=Ab _ _
section
variable{X:Cx}
theorem Oy:i8 X (.builtin "sorted") (λxs H Q=>∃p,∃ns:List Int,xs=[.ref p]/\(fe X.K H p (ns.map V.int)\/gS X.K H p (ns.map V.int))/\ns.length<60/\∀l,H l=none->Q (.ref l) (upd H l (.lst ((I0 ns).map V.int)))):=by
 intro pins s Z H xs us Q I r h;obtain⟨p,ns,rfl,hq,hl,q⟩:=h;obtain⟨u,rfl,rx⟩:=vals1 r;cases rx;obtain⟨T,aO,o,n,hT,r',ho,hc,hd⟩:∃T,∃(aO:List Value) (o:Obj) (n:Nat),(T="list"\/T="tuple")/\Vals (ns.map V.int) aO/\s.heap.get? p=some o/\o.cls=.type T/\o.data=.seq aO.toArray n:=by
  rcases hq with hq|hq
  ·obtain⟨aO,r',pl,_⟩:=I.list hq;obtain⟨o,ho,hc,n,hd⟩:=pl.isList;exact⟨_,aO,o,n,.inl rfl,r',ho,hc,hd⟩
  ·obtain⟨aO,r',⟨o,ho,hc,n,hd⟩,_⟩:=I.tuple hq;exact⟨_,aO,o,n,.inr rfl,r',ho,hc,hd⟩
 refine ST.Nv hT ho hc hd (B5 r') hl λh1 vs iV e h' kp i1 i2 i3 i4 i5=>?_;have e1:iV=I0 ns:=F5 (i2.trans (U1 ns).symm) i3 (Ec ns);subst e1;have I1:Inv X pins Z H { s with heap:=h1 }:=I.kept (t':=s.toks) kp;have hz:(I0 ns).length<=10000:=by rw[(U1 ns).length_eq];omega
 exact⟨.ref h1.objs.size,_,(I1.laid (a:=h1.objs.size) (o:=.lst ((I0 ns).map V.int)) (t':=s.toks) i5 (aj _) ⟨by rw[ak];exact aG hz (by decide),vs,e,T4 i1,i4⟩),rfl,q _ (I1.bD.fresh (aj _))⟩
theorem DN:∀{ks:List Key} {l:List Value},l.length=ks.length->(∀(i:Nat) v,l[i]?=some v->∃k,ks[i]?=some k/\P8 k v=true)->Vals (ks.map kV) l
 |[],[],_,_=>.nil
 |k::ks,v::l,hl,h=>by
  obtain⟨k',e,hk⟩:=h 0 v rfl;cases e;refine .cons ?_ (DN (by simpa using hl) λi v e=>h (i+1) v e);rcases m8 hk with⟨i,t,rfl,rfl⟩|⟨x,t,rfl,rfl⟩<;>exact⟨t,rfl⟩
theorem Ox(hc:X.calm=true):i8 X (.type "list") (λxs H Q=>∃a kvs,xs=[.ref a]/\H a=some (.dK kvs)/\kvs.length<=10000/\∀p,H p=none->Q (.ref p) (upd H p (.lst ((kvs.map (·.1)).map kV)))):=by
 intro pins s Z H xs us Q I r h;obtain⟨a,kvs,rfl,ha,hl,q⟩:=h;obtain⟨u,rfl,rx⟩:=vals1 r;cases rx;obtain⟨_,hd,vs,kv,hD⟩:=uK I.bD ha;obtain⟨ep,hA⟩:=hD.dictAt;have pV:vs.length<=10000:=by rw[<- kv.length];exact hl
 refine PySem.W.kdl_call (PySem.W.kdl_dict (kvs:=vs) (ep:=ep) hd) (I.ok.hd hc) hA (aG pV (by decide)) λh' tk acc c k1 k2 k3=>?_;have hv:Vals ((kvs.map (·.1)).map kV) acc.toList:=by
  refine DN (by rw[ba,k3.1,ak,kv.length]) λi v e=>?_;obtain⟨k,x,e1,e2⟩:=k3.2 i v (by simpa using e);exact⟨k,by rw[kv.keys,aC,e1];rfl,e2⟩
 exact⟨.ref s.heap.objs.size,_,(I.laid (a:=s.heap.objs.size) (o:=.lst ((kvs.map (·.1)).map kV)) (t':=tk) k1 (aj _) ⟨by rw[ak,ak];exact aG hl (by decide),acc.toList,c,hv,by simpa using k2⟩),rfl,q _ (I.bD.fresh (aj _))⟩
end
end L2
namespace ST
open PySem PyProof.Rows
end ST
namespace L2
open PySem PyProof.Rows
section
variable{X:Cx}
theorem Pb{h:Heap}{a:Addr}{ns:List Int}(x:ST.o7 X.prog X.w h a (ST.f9 [] ns)):h.SetOf (intKind X.prog X.w) a (λk=>decide (k∈ns)) (ST.f9 [] ns).length:=by
 obtain⟨o,es,ep,t,ho,hx,hd,lg,hp,hn,hb,hf,hw⟩:=x;refine⟨o,es,ep,t,ho,hx,hd,lg,λk=>?_,hb,hf,by rw[<- hp.length_eq];simp⟩;have mem:k∈ns↔k∈es.toList.map λe=>ST.toI e.2:=by rw[hp.mem_iff,ST.U6];simp
 rw[bp,mem];constructor
 ·intro z;obtain⟨e,he,rfl⟩:=aM.mp z;obtain⟨tk,h1,_⟩:=ST.vd lg he;refine⟨e,he,?_⟩;rw[h1];exact gh _ _ _ _
 ·rintro⟨e,he,z⟩;obtain⟨tk,h1,_⟩:=ST.vd lg he;refine aM.mpr ⟨e,he,?_⟩;have h2:(intKind X.prog X.w).is (ST.toI e.2) e.2=true:=by rw[h1];exact gh _ _ _ _
  exact(intKind X.prog X.w).inj _ _ _ h2 z
theorem Om(hc:X.calm=true):i8 X (.type "set") (λxs H Q=>∃a ns,xs=[.ref a]/\fe X.K H a (ns.map V.int)/\ns.length<600/\∀p,H p=none->Q (.ref p) (upd H p (.set (λk=>decide (k∈ns)) (ST.f9 [] ns).length))):=by
 intro pins s Z H xs us Q I r h;obtain⟨a,ns,rfl,hq,hl,q⟩:=h;cases r with
 |cons r rr =>
 cases rr;cases r;obtain⟨aO,rv,p,hz⟩:=I.list hq;have hI:=B5 rv;have hlen:=ST.V1 hI;refine ST.CW (ns:=ns) (I.ok.hd hc) (.inl p.isList) (by simpa using hI) (by rw[aB,hlen];exact az (Wf hl) (by decide)) λh' tk hS hk _=>?_;exact⟨.ref _,_,I.laid (a:=s.heap.objs.size) (o:=.set (λk=>decide (k∈ns)) (ST.f9 [] ns).length) (t':=tk) hk (aj _) (Pb hS),rfl,q _ (I.bD.fresh (aj _))⟩
end
end L2
namespace L2
open PySem PySem.Spec PyProof.Rows
variable{w:World}
theorem N8{P:Program}{k:Key}{u:Value}(h:(k6 P w).is k u=true):RelV (kV k) u:=by
 rw[DX] at h;rcases m8 h with⟨j,t,e1,e2⟩|⟨x,t,e1,e2⟩
 ·subst e1 e2;exact⟨t,rfl⟩
 ·subst e1 e2;exact⟨t,rfl⟩
theorem KV.at{kvs:List (Key×V)}{vs:List (Key×Value)}(r:KV kvs vs):∀{i:Nat} {k:Key} {x:V},kvs[i]?=some (k,x)->∃u,vs[i]?=some (k,u)/\RelV x u:=by
 unfold KV at r
 induction r with
 |nil=>intro i k x h;simp at h
 |cons h r ih =>
  intro i k x e;cases i with
  |zero =>
   simp at e;subst e;obtain⟨h1,h2⟩:=h;exact ⟨_,by
    show some _=some (k,_);have xw:k=_:=h1;rw [xw],h2⟩
  |succ i=>simpa using ih (by simpa using e)
theorem QY(a b:Value):argsOk "sum" ⟨[a,b],[]⟩:=by unfold argsOk;kernel_rfl
section
variable{prog:Program}{A:Around}{R:Result->Shared->Prop}
theorem OF{I ax S lo:Addr}{bs:List Addr}{vss:List (List Value)}(hh:A.handled=none)(dI:ax≠I)(qa:S≠I)(lQ:S≠ax)(uk:lo<=I)(hl:bs.length=vss.length)(hb:∀b∈bs,b≠I/\b≠S) :
  ∀(k i:Nat) (s:Shared) (t:Addr) (acc:List Value) (c n:Nat),bs.length-i=k->i<=bs.length->s.heap.IsListIter I ax i/\s.heap.IsList ax (bs.map Value.ref).toArray ->
   s.heap.get? S=some { cls:=.type "list",dict:=none,data:=.seq #[.ref t] c,slots:=#[] }->t≠I->t≠S->s.heap.get? t=some { cls:=.type "list",data:=.seq acc.toArray n } ->
   (∀(j:Nat) b vs,bs[j]?=some b->vss[j]?=some vs->∃n,s.heap.get? b=some { cls:=.type "list",data:=.seq vs.toArray n })->acc.length+(vss.drop i).flatten.length<=sizeLine ->
   (∀h' tk t' n',(∀b o,b≠I->b≠S->s.heap.get? b=some o->h'.get? b=some o)->h'.get? t'=some { cls:=.type "list",data:=.seq (acc++(vss.drop i).flatten).toArray n' }->(i=bs.length/\t'=t)\/(i<bs.length/\lo<=t')->R (.ok (.ret (.ref t'))) { s with heap:=h',toks:=tk }) ->
  codeAny (model prog w) A (.builtin "sum.loop" ⟨[.ref I,.ref S,rawInt 2,rawInt 0],[]⟩) R s:=by
 have W:=kA (prog:=prog) (w:=w) (A:=A.in1) hh I ax dI (bs.map Value.ref).toArray;have hz:(bs.map Value.ref).toArray.size=bs.length:=by simp
 intro k
 induction k with
 |zero =>
  intro i s t acc c n hk hi dR hS wz GJ ht wX hsz hR;have mE:i=bs.length:=by omega
  subst mE;refine cz F.entry_sum_loop ?_;rw[bI iA _];show wpAny _ A.in1 (seqItems? (.ref S) >>= _) _ _ s;refine aa (jD hS rfl ?_);show wpAny _ A.in1 (tryCatch (pyNext (.ref I)) _ >>= _) _ _ s;refine aa (wpAny_tryCatch (W.done s _ _ (by rw[hz];exact dR) λh' tk lO=>?_));have e:vss.drop bs.length=[]:=by rw[hl];simp
  rw[e] at hR;exact ag (hR h' tk t n (λb o hb _ e=>lO b o (by simpa using hb) e) (by simpa using lO t _ (by simpa using wz) ht) (.inl ⟨rfl,rfl⟩))
 |succ k ih =>
  intro i s t acc c n hk hi dR hS wz GJ ht wX hsz hR;have dW:i<bs.length:=by omega
  obtain⟨b,eb⟩:∃b,bs[i]?=some b:=⟨_,ai dW⟩
  obtain⟨vs,ev⟩:∃vs,vss[i]?=some vs:=⟨_,ai (by omega)⟩
  have dr:vss.drop i=vs::vss.drop (i+1):=by
   obtain⟨h1,h2⟩:=ao.mp ev;rw[dN h1,h2]
  have Hm:=hb b (aL eb);rw[dr,bf,aK] at hsz;refine cz F.entry_sum_loop ?_;rw[bI iA _];show wpAny _ A.in1 (seqItems? (.ref S) >>= _) _ _ s;refine aa (jD hS rfl ?_);show wpAny _ A.in1 (tryCatch (pyNext (.ref I)) _ >>= _) _ _ s;refine aa (wpAny_tryCatch (W.item i s _ _ (by rw[hz];exact dW) dR λv h' tk hP rP lO=>?_));have hv:v=.ref b:=by
   have:(bs.map Value.ref)[i]?=some v:=by simpa using hP
   rw[aC,eb] at this;exact(aE this).symm
  subst hv;have kp:∀b o,b≠I->s.heap.get? b=some o->h'.get? b=some o:=λb o hb e=>lO b o (by simpa using hb) e;have ku:=kp S _ qa hS;have oB:=kp t _ wz ht;obtain⟨n2,wZ⟩:=wX i b vs eb ev;have jB:=kp b _ Hm.1 wZ;have hI:I<h'.objs.size:=by
   obtain⟨_,e,_⟩:=rP.1;exact aq e
  show wpAny _ A.in1 ((holding [Value.ref b] (binaryOp .Add (.ref t) (.ref b))).attempt >>= _) _ _ _;refine aa (FH (bx (Wd oB jB ?_ (by rw[aB,aB];omega))));have ea:acc.toArray++vs.toArray=(acc++vs).toArray:=by simp
  rw[ea];generalize lT:h'.push { cls:=.type "list",data:=.seq (acc++vs).toArray }=H2;have k2:∀b o,h'.get? b=some o->H2.get? b=some o:=λb o e=>by rw[<- lT];exact af _ e
  have oG:H2.get? h'.objs.size=some { cls:=.type "list",data:=.seq (acc++vs).toArray }:=by rw[<- lT];exact ay _ rfl
  have su:=k2 S _ ku;have nS:h'.objs.size≠S:=λz=>aQ _ (by have:=aq ku;rwa [<- z] at this);show wpAny _ A.in1 (updateSeq S (λ_=>#[.ref h'.objs.size]) >>= _) _ _ _;refine aa (eM su rfl ?_);have nv:=aR (Obj.mapSeq λ_=>#[Value.ref h'.objs.size]) su rfl;refine aa (wpAny_letGo ?_);have o3:∀b o,b≠S->H2.get? b=some o->((H2.update S (Obj.mapSeq λ_=>#[Value.ref h'.objs.size])).update S (Obj.mapSeq λ_=>#[Value.ref h'.objs.size])).get? b=some o:=λb o hb e=>(bt _ _ (bU hb)).trans ((bt _ _ (bU hb)).trans e);refine aa (eM nv rfl (ag ⟨dC iA _,ih (i+1) _ h'.objs.size (acc++vs) _ _ (by omega) dW (W.frame _ _ _ rP λb hm o e=>o3 b o (λz=>?_) (k2 b o e)) (aR _ nv rfl) (λz=>aQ _ (by rw[z] at hI;exact hI)) nS (o3 _ _ nS oG) (λj b vs e1 e2=>?_) ?_ λkx vO Ge Gy kk e q=>?_⟩))
  ·subst z;rcases aD.mp hm with z|z
   ·exact qa z
   ·exact lQ (bg.mp z)
  ·obtain⟨n3,h3⟩:=wX j b vs e1 e2;have m:=hb b (aL e1);exact⟨n3,o3 b _ m.2 (k2 b _ (kp b _ m.1 h3))⟩
  ·rw[aK];omega
  ·refine hR kx vO Ge Gy (λb o b1 b2 e=>kk b o b1 b2 (o3 b o b2 (k2 b o (kp b o b1 e)))) ?_ (.inr ⟨dW,?_⟩)
   ·rw[dr,bf,<- bN];exact e
   ·rcases q with⟨_,z⟩|⟨_,z⟩
    ·rw[z];exact cG (fy uk hI)
    ·exact z
end
section
variable{X:Cx}
theorem Oz(hc:X.calm=true):i8 X (.builtin "sum") (λxs H Q=>∃a b,∃(bs:List Addr) (vss:List (List V)),xs=[.ref a,.ref b]/\fe X.K H a (bs.map V.ref)/\H b=some (.lst [])/\bs.length=vss.length/\(∀(j:Nat) c vs,bs[j]?=some c->vss[j]?=some vs->H c=some (.lst vs))/\vss.flatten.length<=10000 /\
  (bs=[]->Q (.ref b) H)/\(bs ≠ []->∀ p,H p=none->Q (.ref p) (upd H p (.lst vss.flatten)))):=by
 intro pins s Z H xs us Q I r h;obtain⟨a,b,bs,vss,rfl,ha,hb,hl,jL,hz,q1,q2⟩:=h;obtain⟨u1,u2,rfl,r1,r2⟩:=vals2 r;cases r1;cases r2;obtain⟨aO,rv,p,wj⟩:=I.list ha;obtain rfl:aO=bs.map Value.ref:=by
  clear wj p ha hl jL q1 q2
  induction bs generalizing aO with
  |nil=>cases rv;rfl
  |cons c bs ih =>
   cases rv with
   |cons r rr=>cases r;rw[ih _ rr];rfl
 obtain⟨_,GD,nb,rb,GX,eb⟩:=I.pz hb;obtain rfl:GD=[]:=by cases rb;rfl
 obtain⟨jZ,hw,hv⟩:∃jZ:List (List Value),jZ.length=vss.length/\∀(j:Nat) c vs,bs[j]?=some c->vss[j]?=some vs->∃ws n,jZ[j]?=some ws/\Vals vs ws/\s.heap.get? c=some { cls:=.type "list",data:=.seq ws.toArray n }:=by
  clear q1 q2 hz p ha rv wj
  induction vss generalizing bs with
  |nil=>exact⟨[],rfl,λj c vs _ e=>by simp at e⟩
  |cons v vss ih =>
   cases bs with
   |nil=>simp at hl
   |cons c bs =>
    obtain⟨jZ,h1,h2⟩:=ih bs (by simpa using hl) (λj c vs e1 e2=>jL (j+1) c vs (by simpa using e1) (by simpa using e2));obtain⟨_,ws,n,fg,_,e⟩:=I.pz (jL 0 c v rfl rfl);refine⟨ws::jZ,by simp[h1],λj c' vs e1 e2=>?_⟩;cases j with
    |zero=>simp at e1 e2;subst e1 e2;exact⟨ws,n,rfl,fg,e⟩
    |succ j=>simpa using h2 j c' vs (by simpa using e1) (by simpa using e2)
 have hf:Vals vss.flatten jZ.flatten:=by
  clear q1 q2 hz p ha rv wj
  induction vss generalizing bs jZ with
  |nil=>obtain rfl:=List.eq_nil_of_length_eq_zero hw;exact .nil
  |cons v vss ih =>
   cases bs with
   |nil=>simp at hl
   |cons c bs =>
    cases jZ with
    |nil=>simp at hw
    |cons ws jZ =>
     obtain⟨FU,n,e1,e2,_⟩:=hv 0 c v rfl rfl;obtain rfl:=aE e1;rw[bf,bf];exact e2.append (ih bs (by simpa using hl) (λj c vs e1 e2=>jL (j+1) c vs (by simpa using e1) (by simpa using e2)) jZ (by simpa using hw) (λj c vs e1 e2=>by simpa using hv (j+1) c vs (by simpa using e1) (by simpa using e2)))
 have xB:jZ.flatten.length<=10000:=by rw[<- hf.length];exact hz
 refine call_function_tree F.kind_sum F.plain_sum F.entry_sum (QY _ _) ?_;unfold Builtin.«sum»;simp only[List.length_cons,List.length_nil];rw[aH (by decide)];refine aa (dt (show Builtin.Builtins.bindParams "sum" ["start"] 0 ⟨[.ref b],[]⟩=pure [some (.ref b)] from rfl) ?_);have pl:=p.isList;have alt:a<s.heap.objs.size:=by obtain⟨_,e,_⟩:=pl;exact aq e
 refine aa (dJ pl ?_);generalize xi:s.heap.push { cls:=.type "list_iterator",data:=.fields #[.ref a,.int 0 0] }=H1;have k1:∀b o,s.heap.get? b=some o->H1.get? b=some o:=λb o e=>by rw[<- xi];exact af _ e
 have z1:H1.objs.size=s.heap.objs.size+1:=by rw[<- xi,dk]
 have tb:∀t,({ s with heap:=H1,toks:=t }:Shared).TypeIs (.ref b) "list":=λt=>⟨_,k1 b _ eb,rfl⟩
 refine aa (ag ?_);simp only[List.forIn_cons,List.forIn_nil];refine aa (aa (aa (cM (T:="list") (b:=false) (tb _) PySem.F.sub_list_str ?_)));simp only[Bool.false_eq_true,if_false];refine ag (aa (aa (cM (T:="list") (b:=false) (tb _) PySem.F.sub_list_bytes ?_)));simp only[Bool.false_eq_true,if_false];refine ag (aa (aa (cM (T:="list") (b:=false) (tb _) PySem.F.sub_list_bytearray ?_)));simp only[Bool.false_eq_true,if_false];refine ag (ag ?_);refine aa (bq ?_);have lt:∀{c o},s.heap.get? c=some o->c<s.heap.objs.size:=λe=>aq e;have blt:=lt eb;have Ci:∀c∈bs,c<s.heap.objs.size:=λc hc=>by
  obtain⟨j,hj,e⟩:=List.getElem_of_mem hc;obtain⟨vs,ev⟩:∃vs,vss[j]?=some vs:=⟨_,ai (by omega)⟩
  obtain⟨ws,n,_,_,e2⟩:=hv j c vs (by rw[ai hj,e]) ev;exact lt e2
 have ne:∀{c d:Addr},c<d->c≠d:=λh=>aF h;refine ag ⟨dC iA _,OF (lo:=s.heap.objs.size) (vss:=jZ) (I.ok.hd hc) (ne alt) (by rw [z1];exact Nat.succ_ne_self _) (by rw [z1];exact bE (cP alt)) (aj _) (by omega) (λc hc=>⟨ne (Ci c hc),by rw [z1];exact ne (cP (Ci c hc))⟩) bs.length 0 _ b [] _ _ (by omega) (bY _)
  ⟨⟨_,af _ (by rw [<- xi];exact ay _ rfl),rfl,rfl⟩,(pl.at λo e=>k1 a o e).push _⟩ (ay _ rfl) (ne blt) (by rw [z1];exact ne (cP blt)) (af _ (k1 b _ eb)) (λj c ws e1 e2=>?_) (by rw [List.drop_zero];exact aG (by simpa using xB) (by decide)) λh' tk t' n' kk e q=>?_⟩
 ·obtain⟨vs,ev⟩:∃vs,vss[j]?=some vs:=⟨_,ai (by have:=(ao.mp e1).1;omega)⟩
  obtain⟨FU,n,e3,_,e4⟩:=hv j c vs e1 ev;rw[e2] at e3;obtain rfl:=aE e3;exact⟨n,af _ (k1 c _ e4)⟩
 ·have kept:∀c o,s.heap.get? c=some o->h'.get? c=some o:=λc o e=>kk c o (ne (lt e)) (by rw[z1];exact ne (cP (lt e))) (af _ (k1 c o e));rcases q with⟨z,rfl⟩|⟨z,l2⟩
  ·exact⟨.ref t',H,I.kept kept,rfl,q1 (bj z.symm)⟩
  ·refine⟨.ref t',_,(I.laid (a:=t') (o:=.lst vss.flatten) (t':=tk) kept l2 ⟨aG hz (by decide),jZ.flatten,n',hf,by simpa using e⟩),rfl,q2 (λz'=>by subst z';exact aQ _ z) _ (I.bD.fresh l2)⟩
end
end L2
namespace M
open PySem L2
set_option genInjectivity true in
inductive D where
 |bV|bl (b:Bool)|int (i:Int)|str (x:Str)|ty (n:String)|ref (i:Nat)|tup (l:List D)
set_option genInjectivity true in
inductive O where
 |lst (l:List D)|mH (l:List D)
 |cL (kvs:List (Key×D))
 |ins (c:Str) (fs:List (Str×D))
 |set (S:Int->Bool) (n:Nat)
def O.mut:O->Bool
 |.mH _=>false
 |_=>true
def O8:D->Option Key
 |.int i=>some (.inl i)
 |.str x=>some (.inr x)
 |_=>none
def p6(kvs:List (Key×D))(k:Key):Option D:=(kvs.find? λkv=>decide (kv.1=k)).map (·.2)
def putD(kvs:List (Key×D))(k:Key)(v:D):List (Key×D) :=
 if(kvs.any λkv=>decide (kv.1=k))=true then kvs.map (λkv=>if kv.1=k then(kv.1,v) else kv) else kvs++[(k,v)]
def M8(f:Str)(v:D):List (Str×D)->List (Str×D)
 |[]=>[(f,v)]
 |(g,x)::r=>if g=f then(g,v)::r else(g,x)::M8 f v r
def L1:List D->Str->Option D
 |.tup [.str y,v]::r,x=>if x=y then some v else L1 r x
 |_::_,_=>none
 |[],_=>none
def V0:List D->Option Str
 |[]=>some Str.empty
 |.str x::r=>(V0 r).map λy=>x++y
 |_=>none
structure Xn where
 cls:Str
noncomputable abbrev G:=List O
noncomputable abbrev S:=List (Option D)
noncomputable abbrev KD:=D->G->Prop
noncomputable abbrev KX:=Xn->G->Prop
noncomputable abbrev jw:KX:=λ_ _=>False
def yo:Option O->Option (List D)
 |some (.lst l)=>some l
 |some (.mH l)=>some l
 |_=>none
noncomputable abbrev c6(g:G)(a:Nat):Option (List D):=yo g[a]?
def rd(g:G):Nat->D->Option PyData
 |_,.bV=>some .none
 |_,.bl b=>some (.bool b)
 |_,.int i=>some (.int i)
 |_,.str x=>some (.str x)
 |_,.ty _=>none
 |0,.ref _=>none
 |0,.tup _=>none
 |n+1,.ref a=>match c6 g a with
  |some l=>(l.mapM (rd g n)).map .list
  |none=>none
 |n+1,.tup l=>(l.mapM (rd g n)).map .tuple
def AB(g:G)(l:List D):Option (List PyData):=l.mapM (rd g 6)
def I9(g:G):D->Option (List D)
 |.tup l=>some l
 |.ref a=>c6 g a
 |_=>none
def P9:D->Bool
 |.bV=>true
 |_=>false
def cut{α:Type}(xs:List α)(lo hi:Option Int):List α:=(xs.drop (HT.dh xs.length 0 lo)).take (HT.dh xs.length xs.length hi-HT.dh xs.length 0 lo)
def zu(g:G)(x:D)(c:String):Option Bool:=match x with
 |.bV=>some (c=="NoneType")
 |.bl _=>some (c=="bool"||c=="int")
 |.int _=>some (c=="int")
 |.str _=>some (c=="str")
 |.tup _=>some (c=="tuple")
 |.ref a=>match g[a]? with
  |some (.lst _)=>some (c=="list")
  |_=>none
 |.ty _=>none
def j5(lo:Int)(n:Nat):List D:=(List.range n).map λ(k:Nat)=>.int (lo+k)
def Q3:List D->Option Bool
 |[]=>some true
 |.bl b::r=>(Q3 r).map λc=>b&&c
 |_=>none
inductive Pr where
 |bin (op:Operator)|un (op:UnaryOp)|cmp (op:CmpOp)
 |ix|lH (lo hi:Bool)|rev|tup|lst|Y6
 |len|list|tuple|isin|all|max|min|int|str|iH|jq|sset|Gf|sQ
 |BD|sG|lB|fv|xy|fld (f:Str)
 |append|pop|get|index|join|iadd|clear|vU|extend|any|hX|sum|Y2|we|qR|oy|xN|sO|qQ (i:Int)
noncomputable abbrev DR:=List D->G->D->G->Prop
def Ob:Operator->Int->Int->Int->Prop
 |.Add,i,j,r=>r=i+j
 |.Sub,i,j,r=>r=i-j
 |.Mult,i,j,r=>V9 i j/\r=i*j
 |.FloorDiv,i,j,r=>zj i j/\r=i / j
 |.Mod,i,j,r=>0<j/\r=i % j
 |.Pow,i,j,r=>Z4 i j/\r=i ^ j.toNat
 |.LShift,i,j,r=>Z4 i j/\r=i*2 ^ j.toNat
 |.BitAnd,i,j,r=>r=Builtin.bitAnd i j
 |.BitOr,i,j,r=>r=Builtin.bitOr i j
 |_,_,_,_=>False
def IG(op:Operator):DR:=λxs g d g' =>
 (∃i j r,xs=[.int i,.int j]/\Ob op i j r/\d=.int r/\g'=g) \/
 (op=.Add/\((∃ l m,xs=[.tup l,.tup m]/\l.length + m.length <= 100000/\d=.tup (l ++ m)/\g'=g) \/
  (∃a b l m,xs=[.ref a,.ref b]/\g[a]?=some (.lst l)/\g[b]?=some (.lst m)/\l.length+m.length<=100000/\d=.ref g.length/\g'=g++[.lst (l++m)]) \/
  (∃ x y,xs=[.str x,.str y]/\x.length + y.length <= 100000/\d=.str (x ++ y)/\g'=g))) \/
 (op=.Mult/\((∃ a l n,xs=[.ref a,.int n]/\g[a]?=some (.lst l)/\-(2 ^ 62) <= n/\n < 2 ^ 62/\l.length * n.toNat <= 100000/\d=.ref g.length/\g'=g ++ [.lst (List.replicate n.toNat l).flatten]) \/
  (∃ l n,xs=[.tup l,.int n]/\l ≠ []/\1 <= n/\n < 2 ^ 62/\l.length * n.toNat <= 100000/\d=.tup (List.replicate n.toNat l).flatten/\g'=g)))
def FW(op:UnaryOp):DR:=λxs g d g'=>op=.USub/\∃i,xs=[.int i]/\d=.int (-i)/\g'=g
def sI(g:G)(x y:D)(b:Bool):Prop :=
 (∃i j,x=.int i/\y=.int j/\b=decide (i=j))\/(∃i j,x=.bl i/\y=.bl j/\b=(i==j))\/(∃i j,x=.str i/\y=.str j/\b=decide (i=j)) \/
 ∃p q,rd g 6 x=some p/\rd g 6 y=some q/\p.canLay0=true/\q.canLay0=true/\b=PyData.eqv p q
def inR(g:G)(x y:D)(b:Bool):Prop :=
 (∃a kvs c,y=.ref a/\g[a]?=some (.cL kvs)/\O8 x=some c/\b=(p6 kvs c).isSome) \/
 ∃l ps p,I9 g y=some l/\AB g l=some ps/\rd g 6 x=some p/\PyData.canLayAll0 ps=true/\p.canLay0=true/\b=(ps.any λq=>PyData.eqv q p)
def Fq(g:G)(x y:D)(b:Bool):Prop:=∃a S n i,y=.ref a/\g[a]?=some (.set S n)/\x=.int i/\b=S i
def Cn(g:G)(x y:D)(b:Bool):CmpOp->Prop
 |.Eq=>sI g x y b
 |.NotEq=>sI g x y (!b)
 |.In=>inR g x y b\/Fq g x y b
 |.NotIn=>inR g x y (!b)\/Fq g x y (!b)
 |.Lt=>∃i j,x=.int i/\y=.int j/\b=decide (i<j)
 |.LtE=>∃i j,x=.int i/\y=.int j/\b=decide (i<=j)
 |.Gt=>∃i j,x=.int i/\y=.int j/\b=decide (j<i)
 |.GtE=>∃i j,x=.int i/\y=.int j/\b=decide (j<=i)
 |.Is=>y=.bV/\b=P9 x
 |.IsNot=>y=.bV/\b=!P9 x
def IQ(op:CmpOp):DR:=λxs g d g'=>∃x y b,xs=[x,y]/\Cn g x y b op/\d=.bl b/\g'=g
def Fv(g:G)(x:D)(b:Bool):Prop :=
 (x=.bV/\b=false)\/x=.bl b\/(∃i,x=.int i/\b=(i != 0))\/(∃l,x=.tup l/\b=!l.isEmpty)\/∃a l,x=.ref a/\c6 g a=some l/\b=!l.isEmpty
def GC:DR:=λxs g d g'=>g'=g/\((∃x l i,xs=[x,.int i]/\I9 g x=some l/\fO l i=some d)\/(∃a kvs y c,xs=[.ref a,y]/\g[a]?=some (.cL kvs)/\O8 y=some c/\p6 kvs c=some d) \/
 ∃ x i c,xs=[.str x,.int i]/\x.length <= 100000/\fO x.cps.toList i=some c/\d=.str ⟨#[c]⟩)
def qP(x:D)(lo hi:Option Int)(g:G)(d:D)(g':G):Prop:=(∃l,x=.tup l/\d=.tup (cut l lo hi)/\g'=g)\/∃a l,x=.ref a/\c6 g a=some l/\d=.ref g.length/\g'=g++[.lst (cut l lo hi)]
def JD:Bool->Bool->DR
 |false,false,xs,g,d,g'=>∃x,xs=[x]/\qP x none none g d g'
 |true,false,xs,g,d,g'=>∃x i,xs=[x,.int i]/\qP x (some i) none g d g'
 |false,true,xs,g,d,g'=>∃x j,xs=[x,.int j]/\qP x none (some j) g d g'
 |true,true,xs,g,d,g'=>∃x i j,xs=[x,.int i,.int j]/\qP x (some i) (some j) g d g'
def Jz:DR:=λxs g d g'=>(∃l,xs=[.tup l]/\d=.tup l.reverse/\g'=g)\/∃a l,xs=[.ref a]/\c6 g a=some l/\d=.ref g.length/\g'=g++[.lst l.reverse]
def JX:DR:=λxs g d g'=>xs.length<=1000/\d=.tup xs/\g'=g
def Jf:DR:=λxs g d g'=>xs.length<=1000/\d=.ref g.length/\g'=g++[.lst xs]
def qi:List D->List (Key×D)->Option (List (Key×D))
 |[],kvs=>some kvs
 |k::v::r,kvs=>(O8 k).bind λc=>qi r (putD kvs c v)
 |_,_=>none
def Km:DR:=λxs g d g'=>xs=[]/\d=.ref g.length/\g'=g++[.cL []]
def Je:DR:=λxs g d g'=>g'=g/\((∃x l,xs=[x]/\I9 g x=some l/\d=.int l.length)\/(∃a kvs,xs=[.ref a]/\g[a]?=some (.cL kvs)/\d=.int kvs.length)\/∃x,xs=[.str x]/\x.length<=100000/\d=.int x.length)
def kD:Key->D
 |.inl i=>.int i
 |.inr x=>.str x
def KJ:DR:=λxs g d g'=>(∃x l,xs=[x]/\I9 g x=some l/\d=.ref g.length/\g'=g++[.lst l])\/∃a kvs,xs=[.ref a]/\g[a]?=some (.cL kvs)/\kvs.length<=10000/\d=.ref g.length/\g'=g++[.lst ((kvs.map (·.1)).map kD)]
def TY:DR:=λxs g d g'=>∃x l,xs=[x]/\I9 g x=some l/\d=.tup l/\g'=g
def Kw:DR:=λxs g d g'=>∃x c b,xs=[x,.ty c]/\c∈["int","bool","str","tuple","list"]/\zu g x c=some b/\d=.bl b/\g'=g
def allR:DR:=λxs g d g'=>∃a l b,xs=[.ref a]/\c6 g a=some l/\(Q3 l=some b\/∃ns:List Int,l=ns.map .int/\b=ns.all λn=>n != 0)/\d=.bl b/\g'=g
def Q2:List D->Option Bool
 |[]=>some false
 |.bl b::r=>(Q2 r).map λc=>b||c
 |_=>none
def anyR:DR:=λxs g d g'=>∃a l b,xs=[.ref a]/\c6 g a=some l/\Q2 l=some b/\d=.bl b/\g'=g
def Ts:DR:=λxs g d g'=>(∃a kvs ns,xs=[.ref a]/\g[a]?=some (.cL kvs)/\kvs.map (·.1)=ns.map Sum.inl/\ns.length<60/\d=.ref g.length/\g'=g++[.lst ((A1 ns).map .int)])\/∃x,∃ns:List Int,xs=[x]/\I9 g x=some (ns.map .int)/\ns.length<60/\d=.ref g.length/\g'=g++[.lst ((I0 ns).map .int)]
def Jg:DR:=λxs g d g'=>g'=g/\((∃i j,xs=[.int i,.int j]/\d=.int (if j>i then j else i))\/∃a,∃(ns:List Int) (M:Int),xs=[.ref a]/\c6 g a=some (ns.map .int)/\M∈ns/\(∀x∈ns,x<=M)/\d=.int M)
def Jh:DR:=λxs g d g'=>g'=g/\((∃i j,xs=[.int i,.int j]/\d=.int (if j<i then j else i))\/∃a,∃(ns:List Int) (M:Int),xs=[.ref a]/\c6 g a=some (ns.map .int)/\M∈ns/\(∀x∈ns,M<=x)/\d=.int M)
def Lo:DR:=λxs g d g'=>∃a i S n,xs=[.ref a,.int i]/\g[a]?=some (.set S n)/\n+1<4096/\d=.bV/\g'=g.set a (.set (λk=>S k||decide (k=i)) (if S i then n else n+1))
def KI:DR:=λxs g d g'=>∃a,∃ns:List Int,xs=[.ref a]/\c6 g a=some (ns.map .int)/\ns.length<600/\d=.ref g.length/\g'=g++[.set (λk=>decide (k∈ns)) (ST.f9 [] ns).length]
def SY(i:Int):DR:=λxs g d g'=>xs=[]/\d=.ref g.length/\g'=g++[.set (λk=>decide (k=i)) 1]
def Ft:DR:=λxs g d g'=>∃a b,∃(rs:List Nat) (lss:List (List D)),xs=[.ref a,.ref b]/\c6 g a=some (rs.map .ref)/\g[b]?=some (.lst [])/\rs.length=lss.length/\(∀(j:Nat) r l,rs[j]?=some r->lss[j]?=some l->g[r]?=some (.lst l))/\lss.flatten.length<=10000 /\
 ((rs=[]/\d=.ref b/\g'=g)\/(rs≠[]/\d=.ref g.length/\g'=g++[.lst lss.flatten]))
def JF:DR:=λxs g d g'=>(∃a,∃ns:List Int,xs=[.ref a]/\c6 g a=some (ns.map .int)/\d=.int ns.sum/\g'=g)\/Ft xs g d g'
def KL:DR:=λxs g d g'=>∃a,∃ns:List Int,xs=[.ref a]/\c6 g a=some (ns.map .int)/\ns.length<60/\d=.int (ST.f9 [] ns).length/\g'=g
def Kx:DR:=λxs g d g'=>∃i j,xs=[.int i,.int j]/\d=.int (i-j)/\g'=g
def Jb:DR:=λxs g d g'=>g'=g/\((∃i,xs=[.int i]/\d=.int i)\/∃b,xs=[.bl b]/\d=.int (if b then 1 else 0))
def JE:DR:=λxs g d g'=>(∃i,xs=[.int i]/\i.natAbs.log2<1920/\d=.str (toString i)/\g'=g)\/∃x,xs=[.str x]/\d=.str x/\g'=g
def Mz:DR:=λxs g d g'=>∃j,xs=[.int j]/\-(2 ^ 62)<=j/\j<=100000/\d=.ref g.length/\g'=g++[.lst (j5 0 j.toNat)]
def MA:DR:=λxs g d g'=>∃i j,xs=[.int i,.int j]/\(-(2 ^ 62)<=i/\i<2 ^ 62/\-(2 ^ 62)<=j/\j<2 ^ 62/\j-i<=100000)/\d=.ref g.length/\g'=g++[.lst (j5 i (j-i).toNat)]
def Lr:DR:=λxs g d g'=>∃a ns,xs=[.ref a]/\c6 g a=some (ns.map .int)/\ns.length<60/\d=.ref g.length/\g'=g++[.lst ((A1 ns).map .int)]
def JG:DR:=λxs g d g'=>∃ns ms:List Int,xs=[.tup (ns.map .int),.tup (ms.map .int)]/\(∀k∈ns,ST.Spot k)/\(∀k∈ms,ST.Spot k)/\ns.length+ms.length<50/\d=.ref g.length/\g'=g++[.lst ((A1 (ns++ms)).map .int)]
def zt(neg:Bool):DR:=λxs g d g'=>∃kvs x,xs=[.tup kvs,.str x]/\d=.bl (xor neg (L1 kvs x).isSome)/\g'=g
def Kr:DR:=λxs g d g'=>∃kvs x,xs=[.tup kvs,.str x]/\L1 kvs x=some d/\g'=g
def Ia:DR:=λxs g d g'=>g'=g/\((∃i,xs=[.int i]/\i.natAbs.log2<1920/\d=.str (toString i))\/∃x,xs=[.str x]/\x.length<=2000/\d=.str x)
def Kq:DR:=λxs g d g'=>∃x,V0 xs=some x/\d=.str x/\g'=g
def IV(f:Str):DR:=λxs g d g'=>∃a c fs,xs=[.ref a]/\g[a]?=some (.ins c fs)/\fs.lookup f=some d/\g'=g
def appendR:DR:=λxs g d g'=>∃a y l,xs=[.ref a,y]/\g[a]?=some (.lst l)/\l.length<100000/\d=.bV/\g'=g.set a (.lst (l++[y]))
def Jp:DR:=λxs g d g'=>∃a i l k,xs=[.ref a,.int i]/\g[a]?=some (.lst l)/\-(2 ^ 63)<=i/\i<2 ^ 63/\seqIndex? i l.length=some k/\l[k]?=some d/\g'=g.set a (.lst (l.eraseIdx k))
def IY:DR:=λxs g d g'=>∃a y z kvs c,xs=[.ref a,y,z]/\g[a]?=some (.cL kvs)/\O8 y=some c/\d=(p6 kvs c).getD z/\g'=g
def Ey:D->Bool
 |.bV=>true
 |.bl _=>true
 |.int _=>true
 |.str _=>true
 |_=>false
def toV:D->V
 |.bl b=>.bl b
 |.int i=>.int i
 |.str x=>.str x
 |_=>.bV
def LW(l:List D)(y:D)(n:Nat):Prop:=l.all Ey=true/\Ey y=true/\(∃z,l[n]?=some z/\BN (toV z) (toV y)=true)/\∀(m:Nat) z,m<n->l[m]?=some z->BN (toV z) (toV y)=false
def Ml:DR:=λxs g d g'=>∃x y l n,xs=[x,y]/\I9 g x=some l/\LW l y n/\l.length<=100000/\d=.int n/\g'=g
def joinR:DR:=λxs g d g'=>∃sep a ys,xs=[.str sep,.ref a]/\c6 g a=some (ys.map .str)/\Uy sep ys<=100000/\d=.str (Builtin.Str.glued sep ys)/\g'=g
def Ku:DR:=λxs g d g'=>(∃i j,xs=[.int i,.int j]/\d=.int (i+j)/\g'=g)\/∃l m,xs=[.tup l,.tup m]/\l.length+m.length<=100000/\d=.tup (l++m)/\g'=g
def Mb:DR:=λxs g d g'=>∃a l,xs=[.ref a]/\g[a]?=some (.lst l)/\d=.bV/\g'=g.set a (.lst [])
def Lg:DR:=λxs g d g'=>∃a l,xs=[.ref a]/\g[a]?=some (.lst (l++[d]))/\g'=g.set a (.lst l)
def Uq:DR:=λxs g d g'=>∃a b l m,xs=[.ref a,.ref b]/\g[a]?=some (.lst l)/\g[b]?=some (.lst m)/\l.length+m.length<=100000/\d=.bV/\g'=g.set a (.lst (l++m))
def Me:DR:=λxs g d g'=>(∃a kvs,xs=[.ref a]/\g[a]?=some (.cL kvs)/\d=.ref g.length/\g'=g++[.cL kvs])\/∃a,∃ks:List Int,xs=[.ref a]/\c6 g a=some (ks.map λk=>.tup [.int k,.bl true])/\ks.length<=1000/\ks.Nodup/\d=.ref g.length/\g'=g++[.cL (ks.map λk=>(.inl k,.bl true))]
def lU(p:Key×Int×Int):Key×D:=(p.1,.tup [.int p.2.1,.int p.2.2])
def KH(n:Int)(p:Key×Int×Int):Bool:=!(decide (p.2.1=n)||decide (p.2.2=n))
def Kl:DR:=λxs g d g'=>∃a n,∃fs:List (Key×Int×Int),xs=[.ref a,.int n]/\g[a]?=some (.cL (fs.map lU))/\fs.length<1000/\(fs.map (·.1)).Nodup/\d=.ref g.length/\g'=g++[.cL ((fs.filter (KH n)).map lU)]
def delD(kvs:List (Key×D))(k:Key):List (Key×D):=kvs.filter λkv=>decide (kv.1≠k)
def Kn:DR:=λxs g d g'=>∃a y kvs c,xs=[.ref a,y]/\g[a]?=some (.cL kvs)/\O8 y=some c/\p6 kvs c=some d/\g'=g.set a (.cL (delD kvs c))
def PR:Pr->DR
 |.xN=>Kl
 |.sO=>Kn
 |.clear=>Mb
 |.any=>anyR
 |.sum=>JF
 |.qR=>Lo
 |.oy=>KI
 |.qQ i=>SY i
 |.Y2=>KL
 |.we=>Kx
 |.hX=>Ts
 |.extend=>Uq
 |.vU=>Lg
 |.sQ=>Me
 |.bin op=>IG op
 |.un op=>FW op
 |.cmp op=>IQ op
 |.ix=>GC
 |.lH a b=>JD a b
 |.rev=>Jz
 |.tup=>JX
 |.lst=>Jf
 |.Y6=>Km
 |.len=>Je
 |.list=>KJ
 |.tuple=>TY
 |.isin=>Kw
 |.all=>allR
 |.max=>Jg
 |.min=>Jh
 |.int=>Jb
 |.str=>JE
 |.iH=>Mz
 |.jq=>MA
 |.sset=>Lr
 |.Gf=>JG
 |.BD=>zt false
 |.sG=>zt true
 |.lB=>Kr
 |.fv=>Ia
 |.xy=>Kq
 |.fld f=>IV f
 |.append=>appendR
 |.pop=>Jp
 |.get=>IY
 |.index=>Ml
 |.join=>joinR
 |.iadd=>Ku
def cT(p:Pr)(xs:List D)(g:G)(Q:KD):Prop:=∃d g',PR p xs g d g'/\Q d g'
def sJ(g:G)(x y:D)(k:Bool->Prop):Prop:=∃b,sI g x y b/\k b
def rK(g:G)(x y:D)(k:Bool->Prop):Prop:=∃b,inR g x y b/\k b
def X0(g:G)(x:D)(k:Bool->Prop):Prop:=∃b,Fv g x b/\k b
def JC(x y v:D)(g g':G):Prop:=(∃a i l j,x=.ref a/\y=.int i/\g[a]?=some (.lst l)/\jA l.length i=some j/\g'=g.set a (.lst (l.set j v))) \/
 ∃a kvs c,x=.ref a/\g[a]?=some (.cL kvs)/\O8 y=some c/\kvs.length<100000/\g'=g.set a (.cL (putD kvs c v))
def U2(x y v:D)(g:G)(k:G->Prop):Prop:=∃g',JC x y v g g'/\k g'
def EK(f:Str)(cs:List Str)(x v:D)(g g':G):Prop:=∃a c fs,x=.ref a/\g[a]?=some (.ins c fs)/\c∈cs/\fs.length<100/\g'=g.set a (.ins c (M8 f v fs))
def xX(f:Str)(cs:List Str)(x v:D)(g:G)(k:G->Prop):Prop:=∃g',EK f cs x v g g'/\k g'
def lJ:Pr->D->G->Prop
 |.get,x,g=>∃a kvs,x=.ref a/\g[a]?=some (.cL kvs)
 |.sO,x,g=>∃a kvs,x=.ref a/\g[a]?=some (.cL kvs)
 |.join,x,g=>∃y,x=.str y
 |.qR,x,g=>∃a S n,x=.ref a/\g[a]?=some (.set S n)
 |.index,x,g=>(∃l,x=.tup l)\/∃a l,x=.ref a/\c6 g a=some l
 |_,x,g=>∃a l,x=.ref a/\c6 g a=some l
inductive IK where
 |fix (l:List D)|lst (a:Nat)|qb (a:Nat)|Av (a n:Nat)
def IK.at:IK->Nat->G->Option (Option D)
 |.fix l,i,_=>some l[i]?
 |.lst a,i,g=>match c6 g a with
  |some l=>some l[i]?
  |none=>none
 |.qb a,i,g=>match c6 g a with
  |some l=>some (l[i]?.map λd=>.tup [.int i,d])
  |none=>none
 |.Av a n,i,g=>match c6 g a with
  |some l=>if l.length=n then some (if i<n then l[n-1-i]? else none) else none
  |none=>none
inductive MT where
 |one (i:Nat)|many (is:List Nat)
def C0:List Nat->List D->S->Option S
 |[],[],Z=>some Z
 |i::is,d::ds,Z=>C0 is ds (Z.set i (some d))
 |_,_,_=>none
def jz(t:MT)(x:D)(Z:S)(k:S->Prop):Prop:=match t with
 |.one i=>k (Z.set i (some x))
 |.many is=>∃l bJ,x=.tup l/\C0 is l Z=some bJ/\k bJ
set_option genInjectivity false in
set_option genSizeOf false in
inductive ME where
 |var (i:Nat)|lit (d:D)
 |nil|cons (a b:ME)|prim (p:Pr) (es:ME)|eG (p:Pr) (o es:ME)|lW (es:ME)
 |chain (o1 o2:CmpOp) (a b c:ME)
 |dX (a b:ME)|iU (a b:ME)|eW (a:ME)|ite (c a b:ME)
 |call (f:Nat) (es:ME)|make (c:Str) (f:Nat) (es:ME)|jo (m:Str) (cs:List (Str×Nat)) (o es:ME)
 |comp (c8:List Nat) (n:Nat) (tg:MT) (it cond elt:ME)|hZ (c8:List Nat) (n:Nat) (tg:MT) (it cond elt:ME)|jn (c8:List Nat) (n:Nat) (tg:MT) (it cond elt:ME)
 |iu (e:ME)|dQ (a:ME)|js (a b:ME)|lL (e:ME)|pP (e:ME)|gJ (e:ME)|no
noncomputable abbrev eR:=Nat->List D->G->KD->KX->Prop
def J3(Z:S)(c8:List Nat)(n:Nat):S:=c8.map (λj=>(Z[j]?).join)++List.replicate (n-c8.length) none
def turns(k:IK)(Z:S)(g:G)(fin:S->G->Prop)(turn:D->(S->G->Prop)->S->G->Prop):Prop :=
 ∃W:Nat->Nat->S->G->Prop,(∃m,W 0 m Z g)/\∀i m Z g,W i m Z g->(k.at i g=some none/\fin Z g)\/∃x,k.at i g=some (some x)/\∃N2:S->G->Prop,(∀bJ g',N2 bJ g'->∃m',m'<m/\W (i+1) m' bJ g')/\turn x N2 Z g
def uW(k:IK)(Z:S)(g:G)(fin:List D->G->Prop)(turn:D->(Option D->S->G->Prop)->S->G->Prop):Prop :=
 ∃W:Nat->Nat->List D->S->G->Prop,(∃m,W 0 m [] Z g)/\∀i m ys Z g,W i m ys Z g->(k.at i g=some none/\fin ys g) \/
  ∃x,k.at i g=some (some x)/\ys.length<100000/\turn x (λy bJ g'=>∃m',m'<m/\W (i+1) m' (ys++y.toList) bJ g') Z g
def yz(k:IK)(Z:S)(g:G)(fin:List Int->G->Prop)(turn:D->(Option Int->S->G->Prop)->S->G->Prop):Prop :=
 ∃W:Nat->Nat->List Int->S->G->Prop,(∃m,W 0 m [] Z g)/\∀i m ys Z g,W i m ys Z g->(k.at i g=some none/\ys.length<60/\fin ys g) \/
  ∃x,k.at i g=some (some x)/\ys.length<60/\turn x (λy bJ g'=>∃m',m'<m/\W (i+1) m' (ys++y.toList) bJ g') Z g
mutual
noncomputable def aT(P:eR):ME->S->G->KD->KX->Prop
 |.var i,Z,g,Q,_=>∃d,Z[i]?=some (some d)/\Q d g
 |.lit d,_,g,Q,_=>Q d g
 |.prim p es,Z,g,Q,E=>ft P es Z g (λxs g1=>cT p xs g1 Q) E
 |.eG p o es,Z,g,Q,E=>aT P o Z g (λx g1=>lJ p x g1/\ft P es Z g1 (λxs g2=>cT p (x::xs) g2 Q) E) E
 |.lW es,Z,g,Q,E=>ft P es Z (g++[.cL []]) (λxs g1=>∃kvs,qi xs []=some kvs/\xs.length<=30/\g1[g.length]?=some (.cL [])/\Q (.ref g.length) (g1.set g.length (.cL kvs))) E
 |.chain o1 o2 a b c,Z,g,Q,E=>aT P a Z g (λx g1=>aT P b Z g1 (λy g2=>cT (.cmp o1) [x,y] g2 λz g3=>∃t,z=.bl t/\if t=true then aT P c Z g3 (λw g4=>cT (.cmp o2) [y,w] g4 Q) E else Q (.bl false) g3) E) E
 |.dX a b,Z,g,Q,E=>aT P a Z g (λx g1=>∃t,x=.bl t/\if t=true then aT P b Z g1 Q E else Q (.bl false) g1) E
 |.iU a b,Z,g,Q,E=>aT P a Z g (λx g1=>∃t,x=.bl t/\if t=true then Q (.bl true) g1 else aT P b Z g1 Q E) E
 |.eW a,Z,g,Q,E=>aT P a Z g (λx g1=>∃t,x=.bl t/\Q (.bl (!t)) g1) E
 |.ite c a b,Z,g,Q,E=>da P c Z g (λt g1=>if t=true then aT P a Z g1 Q E else aT P b Z g1 Q E) E
 |.call f es,Z,g,Q,E=>ft P es Z g (λxs g1=>P f xs g1 Q E) E
 |.make c f es,Z,g,Q,E=>ft P es Z g (λxs g1=>P f (.ref g1.length::xs) (g1++[.ins c []]) (λd g2=>d=.bV/\Q (.ref g1.length) g2) E) E
 |.jo m cs o es,Z,g,Q,E=>aT P o Z g (λx g1=>∃a c fs f,x=.ref a/\g1[a]?=some (.ins c fs)/\fs.lookup m=none/\cs.lookup c=some f/\ft P es Z g1 (λxs g2=>P f (x::xs) g2 Q E) E) E
 |.comp c8 n tg it cond elt,Z,g,Q,E=>hU P it Z g (λk g1=>uW k (J3 Z c8 n) g1 (λys g=>Q (.ref g.length) (g++[.lst ys])) λx N Z g=>jz tg x Z λcE=>da P cond cE g (λb g3=>if b=true then aT P elt cE g3 (λy g4=>N (some y) cE g4) jw else N none cE g3) jw) E
 |.jn c8 n tg it cond elt,Z,g,Q,E=>hU P it Z g (λk g1=>uW k (J3 Z c8 n) g1 (λys g=>Q (.ref g.length) (g++[.lst ys])) λx N Z g=>jz tg x Z λcE=>da P cond cE g (λb g3=>if b=true then aT P elt cE g3 (λy g4=>N (some y) cE g4) E else N none cE g3) jw) E
 |.hZ c8 n tg it cond elt,Z,g,Q,E=>hU P it Z g (λk g1=>yz k (J3 Z c8 n) g1 (λys g=>Q (.ref g.length) (g++[.lst ((A1 ys).map .int)])) λx N Z g=>jz tg x Z λcE=>da P cond cE g (λb g3=>if b=true then aT P elt cE g3 (λy g4=>∃j,y=.int j/\N (some j) cE g4) jw else N none cE g3) jw) E
 |.nil,_,_,_,_=>False
 |.cons _ _,_,_,_,_=>False
 |.iu _,_,_,_,_=>False
 |.dQ _,_,_,_,_=>False
 |.js _ _,_,_,_,_=>False
 |.lL _,_,_,_,_=>False
 |.pP _,_,_,_,_=>False
 |.gJ _,_,_,_,_=>False
 |.no,_,_,_,_=>False
noncomputable def ft(P:eR):ME->S->G->(List D->G->Prop)->KX->Prop
 |.nil,_,g,Q,_=>Q [] g
 |.cons a b,Z,g,Q,E=>aT P a Z g (λx g1=>ft P b Z g1 (λxs g2=>Q (x::xs) g2) E) E
 |_,_,_,_,_=>False
noncomputable def da(P:eR):ME->S->G->(Bool->G->Prop)->KX->Prop
 |.dX a b,Z,g,Q,E=>da P a Z g (λt g1=>if t=true then da P b Z g1 Q E else Q false g1) E
 |.iU a b,Z,g,Q,E=>da P a Z g (λt g1=>if t=true then Q true g1 else da P b Z g1 Q E) E
 |.eW a,Z,g,Q,E=>da P a Z g (λt g1=>Q (!t) g1) E
 |.no,_,g,Q,_=>Q true g
 |.gJ e,Z,g,Q,E=>aT P e Z g (λx g1=>X0 g1 x λb=>Q b g1) E
 |_,_,_,_,_=>False
noncomputable def hU(P:eR):ME->S->G->(IK->G->Prop)->KX->Prop
 |.iu e,Z,g,R,E=>aT P e Z g (λx g1=>(∃l,x=.tup l/\R (.fix l) g1)\/∃a l,x=.ref a/\c6 g1 a=some l/\R (.lst a) g1) E
 |.dQ a,Z,g,R,E=>aT P a Z g (λx g1=>∃j:Int,x=.int j/\-(2 ^ 62)<=j/\j<2 ^ 62/\R (.fix (j5 0 j.toNat)) g1) E
 |.js a b,Z,g,R,E=>aT P a Z g (λx g1=>aT P b Z g1 (λy g2=>∃i j:Int,x=.int i/\y=.int j/\(-(2 ^ 62)<=i/\i<2 ^ 62/\-(2 ^ 62)<=j/\j<2 ^ 62)/\R (.fix (j5 i (j-i).toNat)) g2) E) E
 |.lL e,Z,g,R,E=>aT P e Z g (λx g1=>∃a l,x=.ref a/\c6 g1 a=some l/\R (.qb a) g1) E
 |.pP e,Z,g,R,E=>aT P e Z g (λx g1=>∃a l,x=.ref a/\c6 g1 a=some l/\R (.Av a l.length) g1) E
 |_,_,_,_,_=>False
end
set_option genInjectivity false in
set_option genSizeOf false in
inductive MS where
 |pass|seq (a b:MS)|expr (e:ME)|set (i:Nat) (e:ME)|mh (t:MT) (e:ME)|eh (o i v:ME)|mm (f:Str) (cs:List Str) (o v:ME)
 |sW (f:Str) (cs:List Str) (o v:ME)|sV (i:Nat) (p:Pr) (v:ME)|tV (o1 i1 o2 i2 e:ME)
 |ifs (c:ME) (a b:MS)|eL (t:MT) (it:ME) (b:MS)|jm (c:ME) (b:MS)|ret (e:ME)|og|brk|cont
 |raise (x:Str) (es:ME)|qK (b:MS) (hs:List (Str×ME))
structure Ends where
 nx:S->G->Prop
 rt:KD
 bk:S->G->Prop:=λ_ _=>False
 ct:S->G->Prop:=λ_ _=>False
def qJ(P:eR)(N:Ends)(Z:S)(E:KX):List (Str×ME)->KX
 |[],x,g=>E x g
 |(y,e)::r,x,g=>if x.cls=y\/y="MintError" then aT P e Z g N.rt jw else qJ P N Z E r x g
def wpS(P:eR):MS->Ends->S->G->KX->Prop
 |.pass,N,Z,g,_=>N.nx Z g
 |.seq a b,N,Z,g,E=>wpS P a { N with nx:=λgQ g1=>wpS P b N gQ g1 E } Z g E
 |.expr e,N,Z,g,E=>aT P e Z g (λ_ g1=>N.nx Z g1) E
 |.set i e,N,Z,g,E=>aT P e Z g (λx g1=>N.nx (Z.set i (some x)) g1) E
 |.mh t e,N,Z,g,E=>aT P e Z g (λx g1=>jz t x Z λgQ=>N.nx gQ g1) E
 |.eh o i v,N,Z,g,E=>aT P v Z g (λx g1=>aT P o Z g1 (λy g2=>aT P i Z g2 (λz g3=>U2 y z x g3 λg4=>N.nx Z g4) E) E) E
 |.mm f cs o v,N,Z,g,E=>aT P v Z g (λx g1=>aT P o Z g1 (λy g2=>xX f cs y x g2 λg3=>N.nx Z g3) E) E
 |.sW f cs o v,N,Z,g,E=>aT P o Z g (λy g1=>∃a c fs x,y=.ref a/\g1[a]?=some (.ins c fs)/\c∈cs/\fs.lookup f=some x/\aT P v Z g1 (λz g3=>cT .iadd [x,z] g3 λw g4=>∃oR,g4[a]?=some (.ins c oR)/\oR.length<100/\N.nx Z (g4.set a (.ins c (M8 f w oR)))) E) E
 |.tV o1 i1 o2 i2 e,N,Z,g,E=>aT P e Z g (λx g1=>∃u v,x=.tup [u,v]/\aT P o1 Z g1 (λy1 g2=>aT P i1 Z g2 (λz1 g3=>U2 y1 z1 u g3 λg4=>aT P o2 Z g4 (λy2 g5=>aT P i2 Z g5 (λz2 g6=>U2 y2 z2 v g6 λg7=>N.nx Z g7) E) E) E) E) E
 |.sV i p v,N,Z,g,E=>∃x,Z[i]?=some (some x)/\aT P v Z g (λz g1=>cT p [x,z] g1 λw g2=>N.nx (Z.set i (some w)) g2) E
 |.ifs c a b,N,Z,g,E=>da P c Z g (λt g1=>if t=true then wpS P a N Z g1 E else wpS P b N Z g1 E) E
 |.eL t it b,N,Z,g,E=>hU P it Z g (λk g1=>turns k Z g1 N.nx λx N2 Z g=>jz t x Z λcE=>wpS P b { N with nx:=N2,ct:=N2,bk:=N.nx } cE g E) E
 |.jm c b,N,Z,g,E=>∃W:Nat->S->G->Prop,(∃m,W m Z g)/\∀m Z g,W m Z g->da P c Z g (λt g1=>if t=true then ∃N2:S->G->Prop,(∀bJ g',N2 bJ g'->∃m',m'<m/\W m' bJ g')/\wpS P b { N with nx:=N2,ct:=N2,bk:=N.nx } Z g1 E else N.nx Z g1) E
 |.ret e,N,Z,g,E=>aT P e Z g N.rt E
 |.og,N,_,g,_=>N.rt .bV g
 |.brk,N,Z,g,_=>N.bk Z g
 |.cont,N,Z,g,_=>N.ct Z g
 |.raise x es,_,Z,g,E=>ft P es Z g (λvs g1=>vs.length<=1000/\E ⟨x⟩ g1) E
 |.qK b hs,N,Z,g,E=>wpS P b N Z g (qJ P N (Z.map λ_=>none) E hs)
structure bo where
 ar:Nat
 n:Nat
 body:MS
def j2(m:bo)(ds:List D):S:=ds.map some++List.replicate (m.n-ds.length) none
def d7(T:Nat->Option bo):Nat->eR
 |0,_,_,_,_,_=>False
 |k+1,f,ds,g,Q,E=>∃m,T f=some m/\ds.length=m.ar/\wpS (d7 T k) m.body ⟨λ_ g'=>Q .bV g',Q,λ_ _=>False,λ_ _=>False⟩ (j2 m ds) g E
end M
namespace M
open PySem L2
variable{g:G}{K:PySem.W.Frag}{H:Hp}{a p:Addr}{vs:List V}{i:Nat}{o:O}{u:HO}{l:List D}
theorem p7{p xs}{Q Q':KD}(h:∀d g,Q d g->Q' d g)(q:cT p xs g Q):cT p xs g Q':=by
 obtain⟨d,g',a,b⟩:=q;exact⟨d,g',a,h _ _ b⟩
theorem Sk{x}{k k':Bool->Prop}(h:∀b,k b->k' b)(q:X0 g x k):X0 g x k':=by
 obtain⟨b,a,z⟩:=q;exact⟨b,a,h _ z⟩
theorem P4{x y v}{k k':G->Prop}(h:∀g,k g->k' g)(q:U2 x y v g k):U2 x y v g k':=by
 obtain⟨b,a,z⟩:=q;exact⟨b,a,h _ z⟩
theorem Nt{f cs x v}{k k':G->Prop}(h:∀g,k g->k' g)(q:xX f cs x v g k):xX f cs x v g k':=by
 obtain⟨b,a,z⟩:=q;exact⟨b,a,h _ z⟩
theorem B1{t x Z}{k k':S->Prop}(h:∀Z,k Z->k' Z)(q:jz t x Z k):jz t x Z k':=by
 cases t with
 |one i=>exact h _ q
 |many is=>obtain⟨l,bJ,a,b,c⟩:=q;exact⟨l,bJ,a,b,h _ c⟩
theorem NA{k Z g}{fin ju:S->G->Prop}{turn gz:D->(S->G->Prop)->S->G->Prop}(h:∀Z g,fin Z g->ju Z g)(h2:∀x N Z g,turn x N Z g->gz x N Z g)(q:turns k Z g fin turn):turns k Z g ju gz:=by
 obtain⟨W,w0,q⟩:=q;refine⟨W,w0,λi m Z g w=>?_⟩;rcases q i m Z g w with⟨a,b⟩|⟨x,a,N2,b,c⟩
 ·exact .inl ⟨a,h _ _ b⟩
 ·exact .inr ⟨x,a,N2,b,h2 _ _ _ _ c⟩
theorem Eo{k Z g}{fin ju:List D->G->Prop}{turn gz:D->(Option D->S->G->Prop)->S->G->Prop}(h:∀ys g,fin ys g->ju ys g)(h2:∀x N Z g,turn x N Z g->gz x N Z g)(q:uW k Z g fin turn):uW k Z g ju gz:=by
 obtain⟨W,w0,q⟩:=q;refine⟨W,w0,λi m ys Z g w=>?_⟩;rcases q i m ys Z g w with⟨a,b⟩|⟨x,a,b,c⟩
 ·exact .inl ⟨a,h _ _ b⟩
 ·exact .inr ⟨x,a,b,h2 _ _ _ _ c⟩
theorem NT{k Z g}{fin ju:List Int->G->Prop}{turn gz:D->(Option Int->S->G->Prop)->S->G->Prop}(h:∀ys g,fin ys g->ju ys g)(h2:∀x N Z g,turn x N Z g->gz x N Z g)(q:yz k Z g fin turn):yz k Z g ju gz:=by
 obtain⟨W,w0,q⟩:=q;refine⟨W,w0,λi m ys Z g w=>?_⟩;rcases q i m ys Z g w with⟨a,b,c⟩|⟨x,a,b,c⟩
 ·exact .inl ⟨a,b,h _ _ c⟩
 ·exact .inr ⟨x,a,b,h2 _ _ _ _ c⟩
theorem E1{t:Bool}{A B A' B':Prop}(h1:A->A')(h2:B->B')(q:if t=true then A else B):if t=true then A' else B':=by
 cases t
 ·exact h2 q
 ·exact h1 q
def j4(P:eR):Prop:=∀f xs g Q Q' E E',(∀d g,Q d g->Q' d g)->(∀x g,E x g->E' x g)->P f xs g Q E->P f xs g Q' E'
mutual
theorem b8{P:eR}(hP:j4 P):∀(e:ME) (Z:S) (g:G) (Q Q':KD) (E E':KX),(∀d g,Q d g->Q' d g)->(∀x g,E x g->E' x g)->aT P e Z g Q E->aT P e Z g Q' E'
 |.var i,Z,g,Q,Q',E,E',h,hx,q=>by
  obtain⟨d,a,b⟩:=q;exact⟨d,a,h _ _ b⟩
 |.lit d,Z,g,Q,Q',E,E',h,hx,q=>by exact h _ _ q
 |.prim p es,Z,g,Q,Q',E,E',h,hx,q=>by
  exact u7 hP es _ _ _ _ _ _ (λxs g1 q=>p7 h q) hx q
 |.eG p o es,Z,g,Q,Q',E,E',h,hx,q=>by
  exact b8 hP o _ _ _ _ _ _ (λx g1 q=>⟨q.1,u7 hP es _ _ _ _ _ _ (λxs g2 q=>p7 h q) hx q.2⟩) hx q
 |.lW es,Z,g,Q,Q',E,E',h,hx,q=>by
  exact u7 hP es _ _ _ _ _ _ (λxs g1 ⟨kvs,a,b,c,d⟩=>⟨kvs,a,b,c,h _ _ d⟩) hx q
 |.chain o1 o2 a b c,Z,g,Q,Q',E,E',h,hx,q=>by
  refine b8 hP a _ _ _ _ _ _ (λx g1 q=>b8 hP b _ _ _ _ _ _ (λy g2 q=>p7 (λz g3 q=>?_) q) hx q) hx q;obtain⟨t,e,q⟩:=q;exact⟨t,e,E1 (λq=>b8 hP c _ _ _ _ _ _ (λw g4 q=>p7 h q) hx q) (h _ _) q⟩
 |.dX a b,Z,g,Q,Q',E,E',h,hx,q=>by
  refine b8 hP a _ _ _ _ _ _ (λx g1 q=>?_) hx q;obtain⟨t,e,q⟩:=q;exact⟨t,e,E1 (λq=>b8 hP b _ _ _ _ _ _ h hx q) (h _ _) q⟩
 |.iU a b,Z,g,Q,Q',E,E',h,hx,q=>by
  refine b8 hP a _ _ _ _ _ _ (λx g1 q=>?_) hx q;obtain⟨t,e,q⟩:=q;exact⟨t,e,E1 (h _ _) (λq=>b8 hP b _ _ _ _ _ _ h hx q) q⟩
 |.eW a,Z,g,Q,Q',E,E',h,hx,q=>by
  refine b8 hP a _ _ _ _ _ _ (λx g1 q=>?_) hx q;obtain⟨t,e,q⟩:=q;exact⟨t,e,h _ _ q⟩
 |.ite c a b,Z,g,Q,Q',E,E',h,hx,q=>by
  exact n8 hP c _ _ _ _ _ _ (λt g1 q=>E1 (λq=>b8 hP a _ _ _ _ _ _ h hx q) (λq=>b8 hP b _ _ _ _ _ _ h hx q) q) hx q
 |.call f es,Z,g,Q,Q',E,E',h,hx,q=>by
  exact u7 hP es _ _ _ _ _ _ (λxs g1 q=>hP _ _ _ _ _ _ _ h hx q) hx q
 |.make c f es,Z,g,Q,Q',E,E',h,hx,q=>by
  exact u7 hP es _ _ _ _ _ _ (λxs g1 q=>hP _ _ _ _ _ _ _ (λd g2 q=>⟨q.1,h _ _ q.2⟩) hx q) hx q
 |.jo m cs o es,Z,g,Q,Q',E,E',h,hx,q=>by
  refine b8 hP o _ _ _ _ _ _ (λx g1 q=>?_) hx q;obtain⟨a,c,fs,f,q1,q2,q3,q4,q⟩:=q;exact⟨a,c,fs,f,q1,q2,q3,q4,u7 hP es _ _ _ _ _ _ (λxs g2 q=>hP _ _ _ _ _ _ _ h hx q) hx q⟩
 |.comp c8 n tg it cond elt,Z,g,Q,Q',E,E',h,hx,q=>by
  exact A3 hP it _ _ _ _ _ _ (λk g1 q=>Eo (λys g q=>h _ _ q) (λ_ _ _ _ q=>q) q) hx q
 |.jn c8 n tg it cond elt,Z,g,Q,Q',E,E',h,hx,q=>by
  exact A3 hP it _ _ _ _ _ _ (λk g1 q=>Eo (λys g q=>h _ _ q) (λx N Z g q=>B1 (λcE q=>n8 hP cond _ _ _ _ _ _ (λb g3 q=>by
   cases b
   ·exact q
   ·exact b8 hP elt _ _ _ _ _ _ (λ_ _ z=>z) hx q) (λ_ _ z=>z) q) q) q) hx q
 |.hZ c8 n tg it cond elt,Z,g,Q,Q',E,E',h,hx,q=>by
  exact A3 hP it _ _ _ _ _ _ (λk g1 q=>NT (λys g q=>h _ _ q) (λ_ _ _ _ q=>q) q) hx q
 |.nil,Z,g,Q,Q',E,E',h,hx,q=>(show False from q).elim
 |.cons _ _,Z,g,Q,Q',E,E',h,hx,q=>(show False from q).elim
 |.iu _,Z,g,Q,Q',E,E',h,hx,q=>(show False from q).elim
 |.dQ _,Z,g,Q,Q',E,E',h,hx,q=>(show False from q).elim
 |.js _ _,Z,g,Q,Q',E,E',h,hx,q=>(show False from q).elim
 |.lL _,Z,g,Q,Q',E,E',h,hx,q|.pP _,Z,g,Q,Q',E,E',h,hx,q=>(show False from q).elim
 |.gJ _,Z,g,Q,Q',E,E',h,hx,q=>(show False from q).elim
 |.no,Z,g,Q,Q',E,E',h,hx,q=>(show False from q).elim
theorem u7{P:eR}(hP:j4 P):∀(e:ME) (Z:S) (g:G) (Q Q':List D->G->Prop) (E E':KX),(∀d g,Q d g->Q' d g)->(∀x g,E x g->E' x g)->ft P e Z g Q E->ft P e Z g Q' E'
 |.nil,Z,g,Q,Q',E,E',h,hx,q=>by exact h _ _ q
 |.cons a b,Z,g,Q,Q',E,E',h,hx,q=>by
  exact b8 hP a _ _ _ _ _ _ (λx g1 q=>u7 hP b _ _ _ _ _ _ (λxs g2 q=>h _ _ q) hx q) hx q
 |.var _,Z,g,Q,Q',E,E',h,hx,q|.lit _,Z,g,Q,Q',E,E',h,hx,q|.prim _ _,Z,g,Q,Q',E,E',h,hx,q|.eG _ _ _,Z,g,Q,Q',E,E',h,hx,q|.lW _,Z,g,Q,Q',E,E',h,hx,q|.chain _ _ _ _ _,Z,g,Q,Q',E,E',h,hx,q|.dX _ _,Z,g,Q,Q',E,E',h,hx,q|.iU _ _,Z,g,Q,Q',E,E',h,hx,q|.eW _,Z,g,Q,Q',E,E',h,hx,q|.ite _ _ _,Z,g,Q,Q',E,E',h,hx,q|.call _ _,Z,g,Q,Q',E,E',h,hx,q
 |.make _ _ _,Z,g,Q,Q',E,E',h,hx,q|.jo _ _ _ _,Z,g,Q,Q',E,E',h,hx,q|.comp _ _ _ _ _ _,Z,g,Q,Q',E,E',h,hx,q|.hZ _ _ _ _ _ _,Z,g,Q,Q',E,E',h,hx,q|.jn _ _ _ _ _ _,Z,g,Q,Q',E,E',h,hx,q|.iu _,Z,g,Q,Q',E,E',h,hx,q|.dQ _,Z,g,Q,Q',E,E',h,hx,q|.js _ _,Z,g,Q,Q',E,E',h,hx,q|.lL _,Z,g,Q,Q',E,E',h,hx,q|.pP _,Z,g,Q,Q',E,E',h,hx,q|.gJ _,Z,g,Q,Q',E,E',h,hx,q|.no,Z,g,Q,Q',E,E',h,hx,q=>(show False from q).elim
theorem n8{P:eR}(hP:j4 P):∀(e:ME) (Z:S) (g:G) (Q Q':Bool->G->Prop) (E E':KX),(∀d g,Q d g->Q' d g)->(∀x g,E x g->E' x g)->da P e Z g Q E->da P e Z g Q' E'
 |.dX a b,Z,g,Q,Q',E,E',h,hx,q=>by
  exact n8 hP a _ _ _ _ _ _ (λt g1 q=>E1 (λq=>n8 hP b _ _ _ _ _ _ h hx q) (h _ _) q) hx q
 |.iU a b,Z,g,Q,Q',E,E',h,hx,q=>by
  exact n8 hP a _ _ _ _ _ _ (λt g1 q=>E1 (h _ _) (λq=>n8 hP b _ _ _ _ _ _ h hx q) q) hx q
 |.eW a,Z,g,Q,Q',E,E',h,hx,q=>by exact n8 hP a _ _ _ _ _ _ (λt g1 q=>h _ _ q) hx q
 |.no,Z,g,Q,Q',E,E',h,hx,q=>by exact h _ _ q
 |.gJ e,Z,g,Q,Q',E,E',h,hx,q=>by exact b8 hP e _ _ _ _ _ _ (λx g1 q=>Sk (λb q=>h _ _ q) q) hx q
 |.var _,Z,g,Q,Q',E,E',h,hx,q|.lit _,Z,g,Q,Q',E,E',h,hx,q|.prim _ _,Z,g,Q,Q',E,E',h,hx,q|.eG _ _ _,Z,g,Q,Q',E,E',h,hx,q|.lW _,Z,g,Q,Q',E,E',h,hx,q|.chain _ _ _ _ _,Z,g,Q,Q',E,E',h,hx,q|.ite _ _ _,Z,g,Q,Q',E,E',h,hx,q|.call _ _,Z,g,Q,Q',E,E',h,hx,q|.nil,Z,g,Q,Q',E,E',h,hx,q|.cons _ _,Z,g,Q,Q',E,E',h,hx,q
 |.make _ _ _,Z,g,Q,Q',E,E',h,hx,q|.jo _ _ _ _,Z,g,Q,Q',E,E',h,hx,q|.comp _ _ _ _ _ _,Z,g,Q,Q',E,E',h,hx,q|.hZ _ _ _ _ _ _,Z,g,Q,Q',E,E',h,hx,q|.jn _ _ _ _ _ _,Z,g,Q,Q',E,E',h,hx,q|.iu _,Z,g,Q,Q',E,E',h,hx,q|.dQ _,Z,g,Q,Q',E,E',h,hx,q|.js _ _,Z,g,Q,Q',E,E',h,hx,q|.lL _,Z,g,Q,Q',E,E',h,hx,q|.pP _,Z,g,Q,Q',E,E',h,hx,q=>(show False from q).elim
theorem A3{P:eR}(hP:j4 P):∀(e:ME) (Z:S) (g:G) (Q Q':IK->G->Prop) (E E':KX),(∀d g,Q d g->Q' d g)->(∀x g,E x g->E' x g)->hU P e Z g Q E->hU P e Z g Q' E'
 |.iu e,Z,g,Q,Q',E,E',h,hx,q=>by
  exact b8 hP e _ _ _ _ _ _ (λx g1 q=>q.imp (λ⟨l,a,b⟩=>⟨l,a,h _ _ b⟩) λ⟨i,l,a,b,c⟩=>⟨i,l,a,b,h _ _ c⟩) hx q
 |.dQ a,Z,g,Q,Q',E,E',h,hx,q=>by
  exact b8 hP a _ _ _ _ _ _ (λx g1 ⟨j,a,b,c,d⟩=>⟨j,a,b,c,h _ _ d⟩) hx q
 |.js a b,Z,g,Q,Q',E,E',h,hx,q=>by
  exact b8 hP a _ _ _ _ _ _ (λx g1 q=>b8 hP b _ _ _ _ _ _ (λy g2 ⟨i,j,a,b,c,d⟩=>⟨i,j,a,b,c,h _ _ d⟩) hx q) hx q
 |.lL e,Z,g,Q,Q',E,E',h,hx,q=>by
  exact b8 hP e _ _ _ _ _ _ (λx g1 ⟨i,l,a,b,c⟩=>⟨i,l,a,b,h _ _ c⟩) hx q
 |.pP e,Z,g,Q,Q',E,E',h,hx,q=>by
  exact b8 hP e _ _ _ _ _ _ (λx g1 ⟨i,l,a,b,c⟩=>⟨i,l,a,b,h _ _ c⟩) hx q
 |.var _,Z,g,Q,Q',E,E',h,hx,q|.lit _,Z,g,Q,Q',E,E',h,hx,q|.prim _ _,Z,g,Q,Q',E,E',h,hx,q|.eG _ _ _,Z,g,Q,Q',E,E',h,hx,q|.lW _,Z,g,Q,Q',E,E',h,hx,q|.chain _ _ _ _ _,Z,g,Q,Q',E,E',h,hx,q|.ite _ _ _,Z,g,Q,Q',E,E',h,hx,q|.call _ _,Z,g,Q,Q',E,E',h,hx,q|.nil,Z,g,Q,Q',E,E',h,hx,q|.cons _ _,Z,g,Q,Q',E,E',h,hx,q
 |.dX _ _,Z,g,Q,Q',E,E',h,hx,q|.iU _ _,Z,g,Q,Q',E,E',h,hx,q|.eW _,Z,g,Q,Q',E,E',h,hx,q|.gJ _,Z,g,Q,Q',E,E',h,hx,q|.no,Z,g,Q,Q',E,E',h,hx,q
 |.make _ _ _,Z,g,Q,Q',E,E',h,hx,q|.jo _ _ _ _,Z,g,Q,Q',E,E',h,hx,q|.comp _ _ _ _ _ _,Z,g,Q,Q',E,E',h,hx,q|.hZ _ _ _ _ _ _,Z,g,Q,Q',E,E',h,hx,q|.jn _ _ _ _ _ _,Z,g,Q,Q',E,E',h,hx,q=>(show False from q).elim
end
structure Ends.le(N N':Ends):Prop where
 nx:∀Z g,N.nx Z g->N'.nx Z g
 rt:∀d g,N.rt d g->N'.rt d g
 bk:∀Z g,N.bk Z g->N'.bk Z g
 ct:∀Z g,N.ct Z g->N'.ct Z g
theorem Du{P:eR}(hP:j4 P){N N':Ends}{E E':KX}(h:N.le N')(hx:∀x g,E x g->E' x g){Z:S}:∀(hs:List (Str×ME)) x g,qJ P N Z E hs x g->qJ P N' Z E' hs x g
 |[],x,g,q=>hx x g q
 |(y,e)::r,x,g,q=>by
  unfold qJ at q ⊢;split
  ·rename_i hh;rw[aN hh] at q;exact b8 hP e _ _ _ _ _ _ h.rt (λ_ _ z=>z) q
  ·rename_i hh;rw[aH hh] at q;exact Du hP h hx r x g q
theorem wpS_mono{P:eR}(hP:j4 P):∀(s:MS) (N N':Ends) (Z:S) (g:G) (E E':KX),N.le N'->(∀x g,E x g->E' x g)->wpS P s N Z g E->wpS P s N' Z g E'
 |.pass,N,N',Z,g,E,E',h,hx,q=>h.nx _ _ q
 |.seq a b,N,N',Z,g,E,E',h,hx,q=>wpS_mono hP a { N with nx:=λgQ g1=>wpS P b N gQ g1 E } { N' with nx:=λgQ g1=>wpS P b N' gQ g1 E' } _ _ _ _ ⟨λgQ g1 q=>wpS_mono hP b _ _ _ _ _ _ h hx q,h.rt,h.bk,h.ct⟩ hx q
 |.expr e,N,N',Z,g,E,E',h,hx,q=>b8 hP e _ _ _ _ _ _ (λx g1 q=>h.nx _ _ q) hx q
 |.set i e,N,N',Z,g,E,E',h,hx,q=>b8 hP e _ _ _ _ _ _ (λx g1 q=>h.nx _ _ q) hx q
 |.mh t e,N,N',Z,g,E,E',h,hx,q=>b8 hP e _ _ _ _ _ _ (λx g1 q=>B1 (λZ q=>h.nx _ _ q) q) hx q
 |.eh o i v,N,N',Z,g,E,E',h,hx,q=>b8 hP v _ _ _ _ _ _ (λx g1 q=>b8 hP o _ _ _ _ _ _ (λy g2 q=>b8 hP i _ _ _ _ _ _ (λz g3 q=>P4 (λg q=>h.nx _ _ q) q) hx q) hx q) hx q
 |.mm f cs o v,N,N',Z,g,E,E',h,hx,q=>b8 hP v _ _ _ _ _ _ (λx g1 q=>b8 hP o _ _ _ _ _ _ (λy g2 q=>Nt (λg q=>h.nx _ _ q) q) hx q) hx q
 | .sW f cs o v,N,N',Z,g,E,E',h,hx,q=>b8 hP o _ _ _ _ _ _ (λy g1 q=>by
   obtain⟨a,c,fs,x,q1,q2,q3,q4,q⟩:=q;exact ⟨a,c,fs,x,q1,q2,q3,q4,b8 hP v _ _ _ _ _ _ (λz g3 q=>p7 (λw g4 q=>by
    obtain⟨oR,k1,k2,k3⟩:=q;exact ⟨oR,k1,k2,h.nx _ _ k3⟩) q) hx q⟩) hx q
 |.tV o1 i1 o2 i2 e,N,N',Z,g,E,E',h,hx,q=>b8 hP e _ _ _ _ _ _ (λx g1 q=>let ⟨u,v,q1,q⟩:=q;⟨u,v,q1,b8 hP o1 _ _ _ _ _ _ (λy g2 q=>b8 hP i1 _ _ _ _ _ _ (λz g3 q=>P4 (λg4 q=>b8 hP o2 _ _ _ _ _ _ (λy g5 q=>b8 hP i2 _ _ _ _ _ _ (λz g6 q=>P4 (λg q=>h.nx _ _ q) q) hx q) hx q) q) hx q) hx q⟩) hx q
 |.sV i p v,N,N',Z,g,E,E',h,hx,q=>let ⟨x,q1,q⟩:=q;⟨x,q1,b8 hP v _ _ _ _ _ _ (λz g1 q=>p7 (λw g2 q=>h.nx _ _ q) q) hx q⟩
 |.ifs c a b,N,N',Z,g,E,E',h,hx,q=>n8 hP c _ _ _ _ _ _ (λt g1 q=>E1 (λq=>wpS_mono hP a _ _ _ _ _ _ h hx q) (λq=>wpS_mono hP b _ _ _ _ _ _ h hx q) q) hx q
 |.eL t it b,N,N',Z,g,E,E',h,hx,q=>A3 hP it _ _ _ _ _ _ (λk g1 q=>NA h.nx (λx N2 Z g q=>B1 (λcE q=>wpS_mono hP b { N with nx:=N2,ct:=N2,bk:=N.nx } { N' with nx:=N2,ct:=N2,bk:=N'.nx } _ _ _ _ ⟨λ_ _ z=>z,h.rt,h.nx,λ_ _ z=>z⟩ hx q) q) q) hx q
 |.jm c b,N,N',Z,g,E,E',h,hx,q=>by
  obtain⟨W,w0,q⟩:=q;refine⟨W,w0,λm Z g w=>n8 hP c _ _ _ _ _ _ (λt g1 q=>E1 (λq=>?_) (h.nx _ _) q) hx (q m Z g w)⟩;obtain⟨N2,a,q⟩:=q;exact⟨N2,a,wpS_mono hP b { N with nx:=N2,ct:=N2,bk:=N.nx } { N' with nx:=N2,ct:=N2,bk:=N'.nx } _ _ _ _ ⟨λ_ _ z=>z,h.rt,h.nx,λ_ _ z=>z⟩ hx q⟩
 |.ret e,N,N',Z,g,E,E',h,hx,q=>b8 hP e _ _ _ _ _ _ h.rt hx q
 |.og,N,N',Z,g,E,E',h,hx,q=>h.rt _ _ q
 |.brk,N,N',Z,g,E,E',h,hx,q=>h.bk _ _ q
 |.cont,N,N',Z,g,E,E',h,hx,q=>h.ct _ _ q
 |.raise x es,N,N',Z,g,E,E',h,hx,q=>u7 hP es _ _ _ _ _ _ (λvs g1 q=>⟨q.1,hx _ _ q.2⟩) hx q
 |.qK b hs,N,N',Z,g,E,E',h,hx,q=>wpS_mono hP b _ _ _ _ _ _ h (λx g q=>Du hP h hx hs x g q) q
theorem b0(T:Nat->Option bo):∀k,j4 (d7 T k)
 |0=>λf xs g Q Q' E E' h hx q=>q.elim
 |k+1=>λf xs g Q Q' E E' h hx q=>by
  obtain⟨m,a,b,q⟩:=q;exact⟨m,a,b,wpS_mono (b0 T k) m.body ⟨λ_ g'=>Q .bV g',Q,λ_ _=>False,λ_ _=>False⟩ _ _ _ _ _ ⟨λ_ _ z=>h _ _ z,h,λ_ _ z=>z,λ_ _ z=>z⟩ hx q⟩
def TupAt(K:PySem.W.Frag)(H:Hp)(a:Addr)(vs:List V):Prop :=
 H a=some (.tup vs)\/∃(o:Obj) (aO:Array Value) (n:Nat),K.lookup a=some o/\o.cls=.type "tuple"/\o.dict=none/\o.data=.seq aO n/\aO.size<=sizeLine/\Vals vs aO.toList
theorem TupAt.d(h:TupAt K H a vs):zo K H a vs:=h
theorem TupAt.sq{K:PySem.W.Frag}{H:Hp}{a:Addr}{vs:List V}(h:TupAt K H a vs):gS K H a vs:=h.d.sq
mutual
inductive d5(K:PySem.W.Frag)(ρ:List Addr)(H:Hp):D->V->Prop
 |bV:d5 K ρ H .bV .bV
 |bl (b:Bool):d5 K ρ H (.bl b) (.bl b)
 |int (i:Int):d5 K ρ H (.int i) (.int i)
 |str (x:Str):d5 K ρ H (.str x) (.str x)
 |ty (n:String):d5 K ρ H (.ty n) (.ty n)
 |ref {i:Nat} {a:Addr} (h:ρ[i]?=some a):d5 K ρ H (.ref i) (.ref a)
 |tup {l:List D} {a:Addr} {vs:List V} (h:TupAt K H a vs) (r:b7 K ρ H l vs):d5 K ρ H (.tup l) (.ref a)
inductive b7(K:PySem.W.Frag)(ρ:List Addr)(H:Hp):List D->List V->Prop
 |nil:b7 K ρ H [] []
 |cons {d:D} {v:V} {ds:List D} {vs:List V} (h:d5 K ρ H d v) (r:b7 K ρ H ds vs):b7 K ρ H (d::ds) (v::vs)
end
structure Ext(ρ:List Addr)(H:Hp)(bz:List Addr)(H':Hp):Prop where
 pre:∃more,bz=ρ++more
 tup:∀a xs,H a=some (.tup xs)->H' a=some (.tup xs)
theorem Ext.refl(ρ:List Addr)(H:Hp):Ext ρ H ρ H:=⟨⟨[],by simp⟩,λ_ _ h=>h⟩
theorem Ext.trans{ρ H bK H1 eF H2}(a:Ext ρ H bK H1)(b:Ext bK H1 eF H2):Ext ρ H eF H2:=by
 obtain⟨⟨m,rfl⟩,t⟩:=a;obtain⟨⟨m',rfl⟩,t'⟩:=b;exact⟨⟨m++m',by simp⟩,λx xs h=>t' _ _ (t _ _ h)⟩
theorem Ext.get{ρ H bz H'}(e:Ext ρ H bz H')(h:ρ[i]?=some a):bz[i]?=some a:=by
 obtain⟨⟨m,rfl⟩,_⟩:=e;rw[aw (ao.mp h).1];exact h
theorem TupAt.ext{K ρ H bz H'}(e:Ext ρ H bz H')(h:TupAt K H a vs):TupAt K H' a vs:=h.elim (λz=>.inl (e.tup _ _ z)) .inr
mutual
theorem d5.ext{K ρ H bz H'}(e:Ext ρ H bz H'):∀{d v},d5 K ρ H d v->d5 K bz H' d v
 |_,_,.bV=>.bV
 |_,_,.bl b=>.bl b
 |_,_,.int i=>.int i
 |_,_,.str x=>.str x
 |_,_,.ty n=>.ty n
 |_,_,.ref h=>.ref (e.get h)
 |_,_,.tup h r=>.tup (h.ext e) (b7.ext e r)
theorem b7.ext{K ρ H bz H'}(e:Ext ρ H bz H'):∀{ds vs},b7 K ρ H ds vs->b7 K bz H' ds vs
 |_,_,.nil=>.nil
 |_,_,.cons h r=>.cons (d5.ext e h) (b7.ext e r)
end
theorem b7.length{K ρ H}{ds:List D}{vs:List V}(h:b7 K ρ H ds vs):ds.length=vs.length:=by
 induction ds generalizing vs with
 |nil=>cases h;rfl
 |cons d ds ih =>
  cases h with
  |cons q r=>simp[ih r]
theorem b7.get{K ρ H}:∀{ds vs} {i:Nat} {d:D},b7 K ρ H ds vs->ds[i]?=some d->∃v,vs[i]?=some v/\d5 K ρ H d v
 |_,_,_,_,.nil,h=>by simp at h
 |_,_,0,_,.cons h _,e=>by simp at e;subst e;exact⟨_,rfl,h⟩
 |_,_,i+1,d,.cons _ r,e=>by
  obtain⟨v,h1,h2⟩:=b7.get (i:=i) (d:=d) r (by simpa using e);exact⟨v,by simpa using h1,h2⟩
theorem b7.set{K ρ H}{d:D}{v:V}(h:d5 K ρ H d v):∀{ds vs} (i:Nat),b7 K ρ H ds vs->b7 K ρ H (ds.set i d) (vs.set i v)
 |_,_,_,.nil=>.nil
 |_,_,0,.cons _ r=>.cons h r
 |_,_,i+1,.cons q r=>.cons q (b7.set h i r)
theorem b7.append{K ρ H}{ds es:List D}{ws:List V}(h:b7 K ρ H ds vs)(s:b7 K ρ H es ws):b7 K ρ H (ds++es) (vs++ws):=by
 induction ds generalizing vs with
 |nil=>cases h;exact s
 |cons d ds ih =>
  cases h with
  |cons q r=>exact .cons q (ih r)
theorem b7.rep{K ρ H}{ds:List D}{vs:List V}(r:b7 K ρ H ds vs):∀n,b7 K ρ H (List.replicate n ds).flatten (List.replicate n vs).flatten
 |0=>.nil
 |n+1=>by
  rw[bL,bL,bf,bf];exact b7.append r (b7.rep r n)
theorem b7.erase{K ρ H}:∀{ds:List D} {vs:List V} (i:Nat),b7 K ρ H ds vs->b7 K ρ H (ds.eraseIdx i) (vs.eraseIdx i)
 |_,_,_,.nil=>.nil
 |_,_,0,.cons _ r=>r
 |_,_,i+1,.cons q r=>.cons q (b7.erase i r)
theorem b7.take{K ρ H}:∀{ds:List D} {vs:List V} (n:Nat),b7 K ρ H ds vs->b7 K ρ H (ds.take n) (vs.take n)
 |_,_,0,_=>.nil
 |_,_,_+1,.nil=>.nil
 |_,_,n+1,.cons h r=>.cons h (b7.take n r)
theorem b7.drop{K ρ H}:∀{ds:List D} {vs:List V} (n:Nat),b7 K ρ H ds vs->b7 K ρ H (ds.drop n) (vs.drop n)
 |_,_,0,r=>r
 |_,_,_+1,.nil=>.nil
 |_,_,n+1,.cons _ r=>b7.drop n r
theorem b7.reverse{K ρ H}:∀{ds:List D} {vs:List V},b7 K ρ H ds vs->b7 K ρ H ds.reverse vs.reverse
 |_,_,.nil=>.nil
 |_,_,.cons h r=>by
  rw[fR,fR];exact b7.append (b7.reverse r) (.cons h .nil)
theorem b7.cut{K ρ H}{ds:List D}{vs:List V}(r:b7 K ρ H ds vs)(lo hi:Option Int):b7 K ρ H (M.cut ds lo hi) (O9 vs lo hi):=by
 unfold M.cut O9;rw[r.length];exact(r.drop _).take _
theorem b7.ints{K ρ H}:∀{ns:List Int} {vs:List V},b7 K ρ H (ns.map D.int) vs->vs=ns.map V.int
 |[],_,.nil=>rfl
 |_::_,_,.cons h r=>by cases h;rw[b7.ints r];rfl
theorem b7.ofInts{K ρ H}:∀(ns:List Int),b7 K ρ H (ns.map D.int) (ns.map V.int)
 |[]=>.nil
 |n::r=>.cons (.int n) (b7.ofInts r)
def ql(K:PySem.W.Frag)(H:Hp)(a:Addr)(vs:List V):Prop :=
 (∃o,H a=some (.iZ o (.lst vs)))\/∃(o:Obj) (aO:Array Value) (n:Nat),K.lookup a=some o/\o.cls=.type "list"/\o.dict=none/\o.data=.seq aO n/\aO.size<=sizeLine/\Vals vs aO.toList
theorem ql.sq(h:ql K H a vs):fe K H a vs:=h.elim (λ⟨o,z⟩=>.inl (.inr ⟨o,z⟩)) .inr
inductive i0{α:Type}(K:PySem.W.Frag)(ρ:List Addr)(H:Hp):List (α×D)->List (α×V)->Prop
 |nil:i0 K ρ H [] []
 |cons {k:α} {d:D} {v:V} {ds:List (α×D)} {vs:List (α×V)} (h:d5 K ρ H d v) (r:i0 K ρ H ds vs):i0 K ρ H ((k,d)::ds) ((k,v)::vs)
theorem i0.ext{α:Type}{K ρ H bz H'}(e:Ext ρ H bz H'){ds:List (α×D)}{vs:List (α×V)}(h:i0 K ρ H ds vs):i0 K bz H' ds vs:=by
 induction h with
 |nil=>exact .nil
 |cons h r ih=>exact .cons (h.ext e) ih
theorem i0.drop{K ρ H}{ds:List (Key×D)}{vs:List (Key×V)}(k:Key)(h:i0 K ρ H ds vs):i0 K ρ H (delD ds k) (uL vs k):=by
 unfold delD uL
 induction h with
 |nil=>exact .nil
 |cons h r ih =>
  rw[gj,gj];split
  ·exact .cons h ih
  ·exact ih
theorem i0.get{α:Type}{K ρ H}{ds:List (α×D)}{vs:List (α×V)}(h:i0 K ρ H ds vs):∀{i:Nat} {k:α} {d:D},ds[i]?=some (k,d)->∃v,vs[i]?=some (k,v)/\d5 K ρ H d v:=by
 induction h with
 |nil=>intro i k d e;simp at e
 |cons h r ih =>
  intro i k d e;cases i with
  |zero=>simp at e;obtain⟨rfl,rfl⟩:=e;exact⟨_,rfl,h⟩
  |succ i=>simpa using ih (by simpa using e)
theorem i0.length{α:Type}{K ρ H}{ds:List (α×D)}{vs:List (α×V)}(h:i0 K ρ H ds vs):ds.length=vs.length:=by
 induction h with
 |nil=>rfl
 |cons h r ih=>simp[ih]
def V8(K:PySem.W.Frag)(ρ:List Addr)(H:Hp):Option D->Option V->Prop
 |some d,some v=>d5 K ρ H d v
 |none,none=>True
 |_,_=>False
theorem i0.val{K ρ H}:∀{ds vs} (k:Key),i0 K ρ H ds vs->V8 K ρ H (p6 ds k) (F8 vs k)
 |_,_,k,.nil=>trivial
 |_,_,k,.cons (k:=k') h r=>by
  unfold p6 F8;rw[gO,gO];by_cases e:k'=k
  ·simp only[e,decide_true];exact h
  ·simp only[e,decide_false];exact i0.val k r
theorem i0.Es{K ρ H}:∀{ds vs} (k:Key),i0 K ρ H ds vs->(ds.any λkv=>decide (kv.1=k))=(vs.any λkv=>decide (kv.1=k))
 |_,_,k,.nil=>rfl
 |_,_,k,.cons h r=>by simp only[List.any_cons,i0.Es k r]
theorem i0.snoc{K ρ H}{k:Key}{d:D}{v:V}(h:d5 K ρ H d v){ds vs}(t:i0 K ρ H ds vs):i0 K ρ H (ds++[(k,d)]) (vs++[(k,v)]):=by
 induction ds generalizing vs with
 |nil=>cases t;exact .cons h .nil
 |cons d ds ih =>
  cases t with
  |cons q r=>exact .cons q (ih r)
theorem i0.yq{K ρ H}{k:Key}{d:D}{v:V}(h:d5 K ρ H d v):∀{ds vs},i0 K ρ H ds vs->i0 K ρ H (ds.map λkv=>if kv.1=k then(kv.1,d) else kv) (vs.map λkv=>if kv.1=k then(kv.1,v) else kv)
 |_,_,.nil=>.nil
 |_,_,.cons (k:=k') q r=>by
  simp only[List.map_cons];by_cases e:k'=k
  ·rw[aN e,aN e];exact .cons h (i0.yq h r)
  ·rw[aH e,aH e];exact .cons q (i0.yq h r)
theorem i0.put{K ρ H}{k:Key}{d:D}{v:V}(h:d5 K ρ H d v){ds vs}(r:i0 K ρ H ds vs):i0 K ρ H (putD ds k d) (putK vs k v):=by
 unfold putD putK;rw[r.Es k];split
 ·exact r.yq h
 ·exact r.snoc h
noncomputable abbrev p8(K:PySem.W.Frag)(x:Str)(C:Addr):Prop:=PySem.W.nsIn K mainGlobals x=some (some (.ref C))
theorem i0.look{K ρ H}{ds:List (Str×D)}{vs:List (Str×V)}(f:Str)(h:i0 K ρ H ds vs):V8 K ρ H (ds.lookup f) (vs.lookup f):=by
 induction h with
 |nil=>trivial
 |cons h r ih =>
  rename_i k d v ds vs;rw[cq,cq];cases f==k
  ·exact ih
  ·exact h
theorem i0.u9{K ρ H}{f:Str}{d:D}{v:V}(h:d5 K ρ H d v){ds:List (Str×D)}{vs:List (Str×V)}(r:i0 K ρ H ds vs):i0 K ρ H (M8 f d ds) (L2.u9 f v vs):=by
 induction r with
 |nil=>exact .cons h .nil
 |cons q r ih =>
  unfold M8 L2.u9;split
  ·exact .cons h r
  ·exact .cons q ih
theorem Ea{f:Str}{d:D}{p:Str->Prop}(hf:p f):∀{ds:List (Str×D)},(∀x∈ds,p x.1)->∀x∈M8 f d ds,p x.1
 |[],_,x,hx=>by
  have:x=(f,d):=by simpa[M8] using hx
  rw[this];exact hf
 |(k,e)::r,h,x,hx=>by
  unfold M8 at hx;split at hx
  ·rcases aD.mp hx with z|z
   ·rw[z];exact h (k,e) (by simp)
   ·exact h x (by simp[z])
  ·rcases aD.mp hx with z|z
   ·rw[z];exact h (k,e) (by simp)
   ·exact Ea hf (λy hy=>h y (by simp[hy])) x z
def OH(K:PySem.W.Frag)(ρ:List Addr)(H:Hp):O->HO->Prop
 |.lst l,.lst vs=>b7 K ρ H l vs
 |.cL kvs,.dK vs=>i0 K ρ H kvs vs
 |.set S n,.set S' n'=>S=S'/\n=n'
 |.ins c fs,.ins C _ vs=>p8 K c C/\jg K C/\i0 K ρ H fs vs/\∀x∈fs,A2 K C x.1
 |_,_=>False
theorem OH.ext{K ρ H bz H'}(e:Ext ρ H bz H'){o:O}{u:HO}(h:OH K ρ H o u):OH K bz H' o u:=by
 cases o<;>cases u<;>first|exact h.elim|exact b7.ext e h|exact i0.ext e h|exact⟨h.1,h.2.1,h.2.2.1.ext e,h.2.2.2⟩|exact h
theorem OH.qp{K ρ H}{xs:List V}(h:OH K ρ H o (.tup xs)):False:=by cases o<;>exact h
theorem OH.KS{K ρ H}{ob:Obj}(h:OH K ρ H o (.iZ ob u)):False:=by cases o<;>exact h
def E8(K:PySem.W.Frag)(ρ:List Addr)(H:Hp)(o:O)(a:Addr):Prop:=match o with
 |.mH l=>∃vs,ql K H a vs/\b7 K ρ H l vs
 |o=>∃u,H a=some u/\OH K ρ H o u
theorem E8.of{K ρ H}(hu:H a=some u)(h:OH K ρ H o u):E8 K ρ H o a:=by
 cases o<;>first|exact⟨u,hu,h⟩|(cases u<;>exact h.elim)
theorem E8.inv{K ρ H}(m:o.mut=true)(h:E8 K ρ H o a):∃u,H a=some u/\OH K ρ H o u:=by
 cases o<;>first|exact h|cases m
theorem E8.lst{K ρ H}{l:List D}{a:Addr}(h:E8 K ρ H (.lst l) a):∃vs,H a=some (.lst vs)/\b7 K ρ H l vs:=by
 obtain⟨u,h1,h2⟩:=h;cases u<;>first|exact⟨_,h1,h2⟩|exact h2.elim
theorem E8.cL{K ρ H}{l:List (Key×D)}{a:Addr}(h:E8 K ρ H (.cL l) a):∃vs,H a=some (.dK vs)/\i0 K ρ H l vs:=by
 obtain⟨u,h1,h2⟩:=h;cases u<;>first|exact⟨_,h1,h2⟩|exact h2.elim
theorem E8.set{K ρ H}{S:Int->Bool}{n:Nat}{a:Addr}(h:E8 K ρ H (.set S n) a):H a=some (.set S n):=by
 obtain⟨u,h1,h2⟩:=h;cases u<;>first|(obtain⟨rfl,rfl⟩:=(show _/\_ from h2);exact h1)|exact h2.elim
theorem E8.ins{K ρ H}{c:Str}{fs:List (Str×D)}{a:Addr}(h:E8 K ρ H (.ins c fs) a):∃C dx vs,H a=some (.ins C dx vs)/\p8 K c C/\jg K C/\i0 K ρ H fs vs/\∀x∈fs,A2 K C x.1:=by
 obtain⟨u,h1,h2⟩:=h;cases u<;>first|exact⟨_,_,_,h1,h2⟩|exact h2.elim
structure Rl(K:PySem.W.Frag)(ρ:List Addr)(g:G)(H:Hp):Prop where
 len:ρ.length=g.length
 obj:∀(i:Nat) o a,g[i]?=some o->ρ[i]?=some a->E8 K ρ H o a
 nd:∀(i j:Nat) o o' a,g[i]?=some o->g[j]?=some o'->o.mut=true->o'.mut=true->ρ[i]?=some a->ρ[j]?=some a->i=j
section
variable{ρ:List Addr}
theorem Rl.lst(R:Rl K ρ g H){i:Nat}{l:List D}{a:Addr}(h:g[i]?=some (.lst l))(ha:ρ[i]?=some a):∃vs,H a=some (.lst vs)/\b7 K ρ H l vs:=(R.obj _ _ _ h ha).lst
theorem Rl.cL(R:Rl K ρ g H){i:Nat}{l:List (Key×D)}{a:Addr}(h:g[i]?=some (.cL l))(ha:ρ[i]?=some a):∃vs,H a=some (.dK vs)/\i0 K ρ H l vs:=(R.obj _ _ _ h ha).cL
theorem Rl.set(R:Rl K ρ g H){i:Nat}{S:Int->Bool}{n:Nat}{a:Addr}(h:g[i]?=some (.set S n))(ha:ρ[i]?=some a):H a=some (.set S n):=(R.obj _ _ _ h ha).set
theorem Rl.ins(R:Rl K ρ g H){i:Nat}{c:Str}{fs:List (Str×D)}{a:Addr}(h:g[i]?=some (.ins c fs))(ha:ρ[i]?=some a):∃C dx vs,H a=some (.ins C dx vs)/\p8 K c C/\jg K C/\i0 K ρ H fs vs/\∀x∈fs,A2 K C x.1:=(R.obj _ _ _ h ha).ins
theorem Rl.items(R:Rl K ρ g H)(h:c6 g i=some l)(ha:ρ[i]?=some a):∃vs,fe K H a vs/\b7 K ρ H l vs:=by
 cases e:g[i]? with
 |none=>rw[c6,e] at h;cases h
 |some o =>
  rw[c6,e] at h;have q:=R.obj _ _ _ e ha;cases o with
  |lst m=>cases h;obtain⟨vs,z,r⟩:=q.lst;exact⟨vs,fe.of z,r⟩
  |mH m=>cases h;obtain⟨vs,z,r⟩:=q;exact⟨vs,z.sq,r⟩
  |_=>cases h
theorem w9{o:HO}(hp:H p=none):Ext ρ H ρ (upd H p o):=⟨⟨[],by simp⟩,λa xs h=>by rw[d8 (j9 h hp)];exact h⟩
theorem ql.upd{p a:Addr}{o:HO}{vs:List V}(h:ql K H a vs)(hp:∀ob u,H p≠some (.iZ ob u)):ql K (upd H p o) a vs:=by
 rcases h with⟨ob,z⟩|z
 ·refine .inl ⟨ob,?_⟩;rw[d8 ?_]
  ·exact z
  ·intro e;subst e;exact hp _ _ z
 ·exact .inr z
theorem E8.upd{p a:Addr}{o:O}{u:HO}{bz:List Addr}(h:E8 K ρ H o a)(dI:o.mut=true->a≠p)(hp:∀ob u,H p≠some (.iZ ob u))(e:Ext ρ H bz (L2.upd H p u)):E8 K bz (L2.upd H p u) o a:=by
 cases hm:o.mut with
 |true =>
  obtain⟨u',h1,h2⟩:=h.inv hm;exact .of (by rw[d8 (dI hm)];exact h1) (h2.ext e)
 |false =>
  cases o<;>first|cases hm|skip
  obtain⟨vs,z,r⟩:=h;exact⟨vs,z.upd hp,r.ext e⟩
theorem Rl.grow{o:HO}(R:Rl K ρ g H)(hp:H p=none):Rl K ρ g (upd H p o):=by
 have e:Ext ρ H ρ (upd H p o):=w9 hp;refine⟨R.len,λi ob a h1 h2=>?_,R.nd⟩;have q:=R.obj _ _ _ h1 h2;refine q.upd (λhm=>?_) (λob u z=>by rw[hp] at z;cases z) e;obtain⟨u,h1,_⟩:=q.inv hm;exact j9 h1 hp
theorem Rl.t6(R:Rl K ρ g H)(p:Addr):(ρ++[p])[g.length]?=some p:=by rw[<- R.len];simp
theorem B7{o:HO}(hp:H p=none):Ext ρ H (ρ++[p]) (upd H p o):=⟨⟨[p],rfl⟩,(w9 (ρ:=ρ) hp).tup⟩
theorem Rl.new(R:Rl K ρ g H)(hp:H p=none)(r:OH K ρ H o u):Rl K (ρ++[p]) (g++[o]) (upd H p u):=by
 have e:Ext ρ H (ρ++[p]) (upd H p u):=B7 hp;have old:∀{i:Nat} {ob:O} {a:Addr},g[i]?=some ob->(ρ++[p])[i]?=some a->ρ[i]?=some a:=λ{i ob a} h1 h2=>by
  rw[aw (by rw[R.len];exact(ao.mp h1).1)] at h2;exact h2
 have split:∀{i:Nat} {ob:O},(g++[o])[i]?=some ob->g[i]?=some ob\/(i=g.length/\ob=o):=λ{i ob} h=>by
  rcases du i g.length with q|q|q
  ·rw[aw q] at h;exact .inl h
  ·subst q;simp at h;exact .inr ⟨rfl,h.symm⟩
  ·rw[cK (by simp;omega)] at h;cases h
 refine⟨by simp[R.len],λi ob a h1 h2=>?_,λi j o1 o2 a h1 h2 m1 m2 h3 h4=>?_⟩
 ·rcases split h1 with q|⟨rfl,rfl⟩
  ·have z:=R.obj _ _ _ q (old q h2);refine z.upd (λhm=>?_) (λob u z=>by rw[hp] at z;cases z) e;obtain⟨u,h1,_⟩:=z.inv hm;exact j9 h1 hp
  ·rw[R.t6] at h2;cases h2;exact .of n9 (r.ext e)
 ·have nq:∀{i:Nat} {o:O} {a:Addr},g[i]?=some o->o.mut=true->ρ[i]?=some a->a≠p:=λ{i o a} h1 hm h2=>by
   obtain⟨u,z,_⟩:=(R.obj _ _ _ h1 h2).inv hm;exact j9 z hp
  rcases split h1 with q|⟨rfl,_⟩
  ·rcases split h2 with q'|⟨rfl,_⟩
   ·exact R.nd _ _ _ _ _ q q' m1 m2 (old q h3) (old q' h4)
   ·rw[R.t6] at h4;cases h4;exact absurd rfl (nq q m1 (old q h3))
  ·rcases split h2 with q'|⟨rfl,_⟩
   ·rw[R.t6] at h3;cases h3;exact absurd rfl (nq q' m2 (old q' h4))
   ·rfl
theorem Rl.alloc(R:Rl K ρ g H)(hp:H p=none)(r:b7 K ρ H l vs):Rl K (ρ++[p]) (g++[.lst l]) (upd H p (.lst vs)):=R.new hp r
theorem Rl.put{o':O}(R:Rl K ρ g H)(h:g[i]?=some o)(hm:o.mut=true)(ha:ρ[i]?=some a)(r:OH K ρ H o' u) :
  Rl K ρ (g.set i o') (upd H a u)/\Ext ρ H ρ (upd H a u):=by
 obtain⟨u0,z0,AI⟩:=(R.obj _ _ _ h ha).inv hm;have e:Ext ρ H ρ (upd H a u):=⟨⟨[],by simp⟩,λb xs q=>by rw[d8];exact q;intro z;subst z;rw[z0] at q;cases q;exact AI.qp⟩
 refine⟨⟨by simp[R.len],λj ob b h1 h2=>?_,λj k o1 o2 b h1 h2 m1 m2 h3 h4=>?_⟩,e⟩
 ·by_cases iM:i=j
  ·subst iM;rw[ha] at h2;cases h2;have hi:i<g.length:=(ao.mp h).1;rw[aP hi] at h1;cases h1;exact .of n9 (r.ext e)
  ·rw[aA iM] at h1;refine(R.obj _ _ _ h1 h2).upd (λpU ez=>?_) (λob u z=>by rw[z0] at z;cases z;exact AI.KS) e;subst ez;exact iM (R.nd _ _ _ _ _ h h1 hm pU ha h2)
 ·have back:∀{j:Nat} {m:O},(g.set i o')[j]?=some m->m.mut=true->∃m',g[j]?=some m'/\m'.mut=true:=λ{j m} q pU=>by
   by_cases iM:i=j
   ·subst iM;exact⟨o,h,hm⟩
   ·rw[aA iM] at q;exact⟨m,q,pU⟩
  obtain⟨_,q1,n1⟩:=back h1 m1;obtain⟨_,q2,n2⟩:=back h2 m2;exact R.nd _ _ _ _ _ q1 q2 n1 n2 h3 h4
theorem Rl.write{l':List D}(R:Rl K ρ g H)(h:g[i]?=some (.lst l))(ha:ρ[i]?=some a)(r:b7 K ρ H l' vs) :
  Rl K ρ (g.set i (.lst l')) (upd H a (.lst vs))/\Ext ρ H ρ (upd H a (.lst vs)):=R.put h rfl ha r
end
structure m5(K:PySem.W.Frag)(ρ:List Addr)(H:Hp)(Z:S)(bP:St):Prop where
 len:Z.length=bP.length
 val:∀(i:Nat) d,Z[i]?=some (some d)->∃v,bP[i]?=some (some v)/\d5 K ρ H d v
section
variable{ρ bz:List Addr}{H':Hp}
theorem m5.ext{Z bP}(e:Ext ρ H bz H')(r:m5 K ρ H Z bP):m5 K bz H' Z bP:=⟨r.len,λi d h=>let ⟨v,a,b⟩:=r.val i d h;⟨v,a,b.ext e⟩⟩
theorem m5.set{Z bP d v}(r:m5 K ρ H Z bP)(i:Nat)(h:d5 K ρ H d v):m5 K ρ H (Z.set i (some d)) (bP.set i (some v)):=by
 refine⟨by simp[r.len],λj e q=>?_⟩;by_cases iM:i=j
 ·subst iM;have hi:i<Z.length:=by
   have:=(ao.mp q).1;simpa using this
  rw[aP hi] at q;cases q;exact⟨v,by rw[aP (by rw[<- r.len];exact hi)],h⟩
 ·rw[aA iM] at q ⊢;exact r.val j e q
theorem m5.start{ds vs}{n:Nat}(r:b7 K ρ H ds vs):m5 K ρ H (ds.map some++List.replicate (n-ds.length) none) (vs.map some++List.replicate (n-vs.length) none):=by
 refine⟨by simp[r.length],λi d h=>?_⟩;by_cases hi:i<ds.length
 ·rw[aw (by simpa using hi),aC] at h;cases e:ds[i]? with
  |none=>rw[e] at h;cases h
  |some x =>
   rw[e] at h;cases h;obtain⟨v,h1,h2⟩:=r.get e;refine⟨v,?_,h2⟩;rw[aw (by rw[ak,<- r.length];exact hi),aC,h1]
   rfl
 ·rw[aY (by simpa using hi),eB] at h;split at h<;>cases h
theorem m5.c8{Z bP}(r:m5 K ρ H Z bP)(c8:List Nat)(n:Nat):m5 K ρ H (J3 Z c8 n) (A9 bP c8 n):=by
 refine⟨by simp[J3,A9],λi d h=>?_⟩;unfold J3 at h;unfold A9;by_cases hi:i<c8.length
 ·rw[aw (by simpa using hi),aC,ai hi] at h;rw[aw (by simpa using hi),aC,ai hi];simp only[Option.map_some] at h ⊢;cases e:Z[c8[i]]? with
  |none=>rw[e] at h;cases h
  |some x =>
   rw[e] at h;have hx:x=some d:=aE h;subst hx;obtain⟨v,h1,h2⟩:=r.val _ _ e;exact⟨v,by rw[h1];rfl,h2⟩
 ·rw[aY (by simpa using hi),eB] at h;split at h<;>cases h
end
end M
namespace M
open PySem L2 PySem.Spec PyProof.Rows
variable{g:G}{l:List D}{vs:List V}{b:Bool}{d:D}{X:Cx}{ρ:List Addr}{H:Hp}{Z:L2.St}{s:Shared}{v x:V}
def LQ(K:PySem.W.Frag)(ρ:List Addr)(H:Hp)(Q:VK):KD:=λd g'=>∀bz H' v,Ext ρ H bz H'->Rl K bz g' H'->d5 K bz H' d v->Q v H'
theorem LQ.ext{K ρ H bK H1 Q d g}(e:Ext ρ H bK H1)(h:LQ K ρ H Q d g):LQ K bK H1 Q d g:=λbz H' v e' R r=>h bz H' v (e.trans e') R r
theorem LQ.now{K ρ H Q d g v}(h:LQ K ρ H Q d g)(R:Rl K ρ g H)(r:d5 K ρ H d v):Q v H:=h ρ H v (.refl _ _) R r
theorem LQ.new{K ρ H Q}{p:Addr}(h:LQ K ρ H Q (.ref g.length) (g++[.lst l]))(R:Rl K ρ g H)(hp:H p=none)(r:b7 K ρ H l vs):Q (.ref p) (upd H p (.lst vs)) :=
 h (ρ++[p]) _ _ (B7 hp) (R.alloc hp r) (.ref (R.t6 p))
theorem LQ.tup{K ρ H Q}{g:G}{l:List D}{vs:List V}{p:Addr}(h:LQ K ρ H Q (.tup l) g)(R:Rl K ρ g H)(hp:H p=none)(r:b7 K ρ H l vs):Q (.ref p) (upd H p (.tup vs)) :=
 h ρ _ _ (w9 hp) (R.grow hp) (.tup (.inl n9) (r.ext (w9 hp)))
def r2(K:PySem.W.Frag)(p:Pr):R2:=λx y H Q=>∃d e g ρ,Rl K ρ g H/\d5 K ρ H d x/\d5 K ρ H e y/\cT p [d,e] g (LQ K ρ H Q)
def r1(K:PySem.W.Frag)(p:Pr):V->Hp->VK->Prop:=λx H Q=>∃d g ρ,Rl K ρ g H/\d5 K ρ H d x/\cT p [d] g (LQ K ρ H Q)
def rN(K:PySem.W.Frag)(p:Pr):List V->Hp->VK->Prop:=λxs H Q=>∃ds g ρ,Rl K ρ g H/\b7 K ρ H ds xs/\cT p ds g (LQ K ρ H Q)
theorem m9{n:Nat}(h:n<=100000):n<=sizeLine:=aG h (by decide)
theorem yQ{n:Nat}(h:n<100000):n<sizeLine:=az h (by decide)
theorem d5.j6{K ρ H i v}(h:d5 K ρ H (.int i) v):v=.int i:=by cases h;rfl
theorem d5.C9{K ρ H i v}(h:d5 K ρ H (.str i) v):v=.str i:=by cases h;rfl
theorem d5.J5{K ρ H i v}(h:d5 K ρ H (.bl i) v):v=.bl i:=by cases h;rfl
theorem d5.uT{K ρ H v}(h:d5 K ρ H .bV v):v=.bV:=by cases h;rfl
theorem d5.LL{K ρ H n v}(h:d5 K ρ H (.ty n) v):v=.ty n:=by cases h;rfl
theorem d5.i7{K ρ H i v}(h:d5 K ρ H (.ref i) v):∃a,v=.ref a/\ρ[i]?=some a:=by cases h;exact⟨_,rfl,by assumption⟩
theorem d5.O1{K ρ H l v}(h:d5 K ρ H (.tup l) v):∃a vs,v=.ref a/\TupAt K H a vs/\b7 K ρ H l vs:=by cases h;exact⟨_,_,rfl,by assumption,by assumption⟩
theorem b7.one{K ρ H d vs}(h:b7 K ρ H [d] vs):∃v,vs=[v]/\d5 K ρ H d v:=by
 cases h with
 |cons r rr=>cases rr;exact⟨_,rfl,r⟩
theorem b7.two{K ρ H d e vs}(h:b7 K ρ H [d,e] vs):∃v w,vs=[v,w]/\d5 K ρ H d v/\d5 K ρ H e w:=by
 cases h with
 |cons r rr=>obtain⟨w,rfl,q⟩:=rr.one;exact⟨_,_,rfl,r,q⟩
theorem C5{a b c:D}(h:[a,b]=[c,d]):a=c/\b=d:=by cases h;exact⟨rfl,rfl⟩
section
theorem ML(op:Operator):fj X (binaryOp op) (r2 X.K (.bin op)):=by
 intro pins s Z H x y v u Q I rx ry h;obtain⟨d,e,g,ρ,R,rd,re,d',g',h,q⟩:=h;rcases h with⟨i,j,r,ex,ha,rfl,rfl⟩|⟨rfl,h⟩|⟨rfl,h⟩
 ·obtain⟨rfl,rfl⟩:=C5 ex;obtain rfl:=rd.j6;obtain rfl:=re.j6;have fin:=q.now R (.int r);cases op<;>first|exact(show False from ha).elim|skip
  ·cases ha;exact MJ pins s Z H _ _ v u Q I rx ry ⟨i,j,rfl,rfl,fin⟩
  ·cases ha;exact MV pins s Z H _ _ v u Q I rx ry ⟨i,j,rfl,rfl,fin⟩
  ·obtain⟨hc,rfl⟩:=ha;exact MP pins s Z H _ _ v u Q I rx ry ⟨i,j,rfl,rfl,hc,fin⟩
  ·obtain⟨hc,rfl⟩:=ha;exact MO pins s Z H _ _ v u Q I rx ry ⟨i,j,rfl,rfl,hc,fin⟩
  ·obtain⟨hc,rfl⟩:=ha;exact MQ pins s Z H _ _ v u Q I rx ry ⟨i,j,rfl,rfl,hc,fin⟩
  ·obtain⟨hc,rfl⟩:=ha;exact MU pins s Z H _ _ v u Q I rx ry ⟨i,j,rfl,rfl,hc,fin⟩
  ·cases ha;exact K' pins s Z H _ _ v u Q I rx ry ⟨i,j,rfl,rfl,fin⟩
  ·cases ha;exact MK pins s Z H _ _ v u Q I rx ry ⟨i,j,rfl,rfl,fin⟩
  ·obtain⟨hc,rfl⟩:=ha;exact UM pins s Z H _ _ v u Q I rx ry ⟨i,j,rfl,rfl,hc,fin⟩
 ·rcases h with⟨l,m,ex,hz,rfl,rfl⟩|⟨a,b,l,m,ex,ha,hb,hz,rfl,rfl⟩|⟨x',y',ex,hz,rfl,rfl⟩
  ·obtain⟨rfl,rfl⟩:=C5 ex;obtain⟨a,vs,rfl,ta,rs⟩:=rd.O1;obtain⟨b,ws,rfl,tb,rt⟩:=re.O1;refine Qi pins s Z H _ _ v u Q I rx ry ⟨a,b,vs,ws,rfl,rfl,ta.sq,tb.sq,?_,λz=>?_,λz=>?_,λp hp=>q.tup R hp (rs.append rt)⟩
   ·rw[<- rs.length,<- rt.length];exact m9 hz
   ·subst z;cases rs;exact q.now R (.tup tb rt)
   ·subst z;cases rt;rw[cO] at q;exact q.now R (.tup ta rs)
  ·obtain⟨rfl,rfl⟩:=C5 ex;obtain⟨a',rfl,ra⟩:=rd.i7;obtain⟨b',rfl,rb⟩:=re.i7;obtain⟨vs,z1,rs⟩:=R.lst ha ra;obtain⟨ws,z2,rt⟩:=R.lst hb rb;exact MM pins s Z H _ _ v u Q I rx ry ⟨_,_,vs,ws,rfl,rfl,z1,z2,by rw[<- rs.length,<- rt.length];exact m9 hz,λp hp=>q.new R hp (rs.append rt)⟩
  ·obtain⟨rfl,rfl⟩:=C5 ex;obtain rfl:=rd.C9;obtain rfl:=re.C9;exact SM pins s Z H _ _ v u Q I rx ry ⟨_,_,rfl,rfl,m9 hz,q.now R (.str _)⟩
 ·rcases h with⟨a,l,n,ex,ha,h1,h2,hz,rfl,rfl⟩|⟨l,n,ex,dI,h1,h2,hz,rfl,rfl⟩
  rotate_left
  ·obtain⟨rfl,rfl⟩:=C5 ex;obtain⟨a',vs,rfl,ta,rs⟩:=rd.O1;obtain rfl:=re.j6;refine UO pins s Z H _ _ v u Q I rx ry ⟨_,_,vs,rfl,rfl,ta.sq,λz=>?_,h1,h2,by rw[<- rs.length];exact m9 hz,λz=>?_,λp hp=>q.tup R hp (rs.rep _)⟩
   ·subst z;cases rs;exact dI rfl
   ·subst z;have:(List.replicate (Int.toNat 1) l).flatten=l:=by simp
    rw[this] at q;exact q.now R (.tup ta rs)
  obtain⟨rfl,rfl⟩:=C5 ex;obtain⟨a',rfl,ra⟩:=rd.i7;obtain rfl:=re.j6;obtain⟨vs,z1,rs⟩:=R.lst ha ra;exact MR pins s Z H _ _ v u Q I rx ry ⟨_,_,vs,rfl,rfl,z1,by omega,by omega,by rw[<- rs.length];exact m9 hz,λp hp=>q.new R hp (rs.rep _)⟩
theorem La(op:UnaryOp):vp X (unaryOp op) (r1 X.K (.un op)):=by
 intro pins s Z H x v Q I rx h;obtain⟨d,g,ρ,R,rd,d',g',⟨rfl,i,ex,rfl,rfl⟩,q⟩:=h;cases ex;obtain rfl:=rd.j6;exact TZ pins s Z H _ v Q I rx ⟨_,rfl,q.now R (.int _)⟩
section
variable{pins:List (Addr×Obj)}
theorem En(I:Inv X pins Z H s)(R:Rl X.K ρ g H)(n:Nat)(ih:∀{d:D} {v:V} {u:Value} {p:PyData},rd g n d=some p->d5 X.K ρ H d v->RelV v u->∃as,Reads s.heap u p as/\p.depth<=n):∀{vs:List V} {us:List Value} {ps:List PyData},l.mapM (rd g n)=some ps->b7 X.K ρ H l vs->Vals vs us->∃as,ReadsAll s.heap us ps as/\PyData.depthAll ps<=n:=by
 induction l with
 |nil =>
  intro vs us ps h rs rv;cases rs;cases rv;simp at h;subst h;exact⟨_,.nil,bY _⟩
 |cons d l il =>
  intro vs us ps h rs rv;cases rs with
  |cons gB rs =>
   cases rv with
   |cons ru rv =>
    rw[List.mapM_cons] at h;cases e:rd g n d with
    |none=>rw[e] at h;cases h
    |some p =>
     rw[e] at h;cases e2:l.mapM (rd g n) with
     |none=>rw[e2] at h;cases h
     |some qs =>
      rw[e2] at h;cases h;obtain⟨as,q1,d1⟩:=ih e gB ru;obtain⟨bs,q2,d2⟩:=il e2 rs rv;refine⟨_,.cons q1 q2,?_⟩;simp only[PyData.depthAll];omega
theorem O4(I:Inv X pins Z H s)(R:Rl X.K ρ g H)(n:Nat):∀{d:D} {v:V} {u:Value} {p:PyData},rd g n d=some p->d5 X.K ρ H d v->RelV v u->∃as,Reads s.heap u p as/\p.depth<=n:=by
 induction n with
 |zero =>
  intro d v u p h r ru;cases r with
  |bV=>simp only[rd] at h;cases h;cases ru;exact⟨_,.none,Nat.zero_le _⟩
  |bl b=>simp only[rd] at h;cases h;cases ru;exact⟨_,.bool b,Nat.zero_le _⟩
  |int i=>simp only[rd] at h;cases h;obtain⟨t,rfl⟩:=ru;exact⟨_,.int i t,Nat.zero_le _⟩
  |str x=>simp only[rd] at h;cases h;obtain⟨t,rfl⟩:=ru;exact⟨_,.str x t,Nat.zero_le _⟩
  |_=>simp only[rd] at h;cases h
 |succ n ih =>
  intro d v u p h r ru;cases r with
  |bV=>simp only[rd] at h;cases h;cases ru;exact⟨_,.none,Nat.zero_le _⟩
  |bl b=>simp only[rd] at h;cases h;cases ru;exact⟨_,.bool b,Nat.zero_le _⟩
  |int i=>simp only[rd] at h;cases h;obtain⟨t,rfl⟩:=ru;exact⟨_,.int i t,Nat.zero_le _⟩
  |str x=>simp only[rd] at h;cases h;obtain⟨t,rfl⟩:=ru;exact⟨_,.str x t,Nat.zero_le _⟩
  |ty x=>simp only[rd] at h;cases h
  |ref ha =>
   rename_i i a;simp only[rd] at h;cases e:c6 g i with
   |none=>rw[e] at h;cases h
   |some l =>
    rw[e] at h;dsimp only at h;cases e2:l.mapM (rd g n) with
    |none=>rw[e2] at h;cases h
    |some ps =>
     rw[e2] at h;cases h;cases ru;obtain⟨vs,hq,rs⟩:=R.items e ha;obtain⟨aO,rv,p,hz⟩:=I.list hq;obtain⟨as,q,hd⟩:=En I R n ih e2 rs rv;obtain⟨o,ho,hc,k,oJ⟩:=p.isList;refine⟨_,.list ho hc oJ (by simpa using q),?_⟩;simp only[PyData.depth];omega
  |tup ht rs =>
   rename_i l a vs;simp only[rd] at h;cases e2:l.mapM (rd g n) with
   |none=>rw[e2] at h;cases h
   |some ps =>
    rw[e2] at h;cases h;cases ru;obtain⟨aO,rv,pt,hz⟩:=I.tuple ht.sq;obtain⟨as,q,hd⟩:=En I R n ih e2 rs rv;obtain⟨o,ho,hc,k,oJ⟩:=id pt;refine⟨_,.tuple ho hc oJ (by simpa using q),?_⟩;simp only[PyData.depth];omega
end
end
theorem uZ{α:Type}[BEq α][LawfulBEq α][DecidableEq α](a b:α):decide (a=b)=(a==b):=by
 by_cases e:a=b
 ·subst e;simp
 ·rw[aJ e];exact(cW.mpr e).symm
theorem N8{K ρ H}{c:Key}(h:O8 d=some c)(r:d5 K ρ H d v):v=kV c:=by
 cases r<;>first|(cases h;rfl)|cases h
theorem V8.some{K ρ H}{o:Option V}{d:D}(h:V8 K ρ H (some d) o):∃v,o=some v/\d5 K ρ H d v:=by
 cases o with
 |none=>exact h.elim
 |some v=>exact⟨v,rfl,h⟩
theorem V8.isSome{K ρ H}{o:Option V}{d:Option D}(h:V8 K ρ H d o):d.isSome=o.isSome:=by
 cases o<;>cases d<;>first|rfl|exact h.elim
theorem Ew{pins:List (Addr×Obj)}{e:D}{y:V}{v u:Value}{Q:VK}(hu:X.A.units+100<cLine)(I:Inv X pins Z H s)(rx:RelV x v)(ry:RelV y u)(R:Rl X.K ρ g H)(gB:d5 X.K ρ H d x)(re:d5 X.K ρ H e y)(h:sI g d e b)(neg:Bool)(q:Q (.bl (xor neg b)) H):wpAny (model X.prog X.w) X.A (compareOp (if neg then .NotEq else .Eq) v u) (EP X pins Z Q) X.xe s:=by
 rcases h with⟨i,j,rfl,rfl,rfl⟩|⟨i,j,rfl,rfl,rfl⟩|⟨i,j,rfl,rfl,rfl⟩|⟨p,p',h1,h2,c1,c2,rfl⟩
 ·obtain rfl:=gB.j6;obtain rfl:=re.j6;cases neg
  ·exact zM pins s Z H _ _ v u Q I rx ry ⟨rfl,by rw[va];simpa[uZ] using q⟩
  ·exact zN pins s Z H _ _ v u Q I rx ry ⟨rfl,by rw[va];simpa[uZ] using q⟩
 ·obtain rfl:=gB.J5;obtain rfl:=re.J5;cases neg
  ·exact zM pins s Z H _ _ v u Q I rx ry ⟨rfl,by rw[uP];simpa using q⟩
  ·exact zN pins s Z H _ _ v u Q I rx ry ⟨rfl,by rw[uP];simpa using q⟩
 ·obtain rfl:=gB.C9;obtain rfl:=re.C9;cases neg
  ·exact zM pins s Z H _ _ v u Q I rx ry ⟨rfl,by rw[vc];simpa[uZ] using q⟩
  ·exact zN pins s Z H _ _ v u Q I rx ry ⟨rfl,by rw[vc];simpa[uZ] using q⟩
 ·obtain⟨as,q1,d1⟩:=O4 I R 6 h1 gB rx;obtain⟨bs,q2,d2⟩:=O4 I R 6 h2 re ry;have hr:X.A.units+min p.depth p'.depth<cLine:=by omega
  cases neg
  ·exact SeqAt.compareEq_reads q1 q2 c1 c2 hr ⟨.bl _,H,I,rfl,by simpa using q⟩
  ·exact SeqAt.compareNe_reads q1 q2 c1 c2 hr ⟨.bl _,H,I,rfl,by simpa using q⟩
theorem in_of{pins:List (Addr×Obj)}{e:D}{y:V}{v u:Value}{Q:VK}(hu:X.A.units+100<cLine)(I:Inv X pins Z H s)(rx:RelV x v)(ry:RelV y u)(R:Rl X.K ρ g H)(gB:d5 X.K ρ H d x)(re:d5 X.K ρ H e y)(h:inR g d e b)(neg:Bool)(q:Q (.bl (xor neg b)) H):wpAny (model X.prog X.w) X.A (compareOp (if neg then .NotIn else .In) v u) (EP X pins Z Q) X.xe s:=by
 rcases h with⟨a,kvs,c,rfl,ha,hc,rfl⟩|⟨l,ps,p,h0,h1,h2,c1,c2,rfl⟩
 ·obtain⟨a',rfl,ra⟩:=re.i7;obtain⟨vs,z,rs⟩:=R.cL ha ra;have:=N8 hc gB;subst this;cases ry;rw[(rs.val c).isSome] at q;cases neg
  ·exact IS (by omega) I (M5.k z) rx λs' I'=>⟨.bl _,H,I',rfl,by simpa using q⟩
  ·exact Ul (by omega) I (M5.k z) rx λs' I'=>⟨.bl _,H,I',rfl,by simpa using q⟩
 ·obtain⟨as,q1,d1⟩:=O4 I R 6 h2 gB rx;cases e with
  |tup m =>
   cases h0;have h3:rd g 7 (.tup l)=some (.tuple ps):=by simp only[rd];rw[show l.mapM (rd g 6)=some ps from h1];rfl
   obtain⟨bs,q2,d2⟩:=O4 I R 7 h3 re ry;have hr:X.A.units+1+min (PyData.depthAll ps) p.depth<cLine:=by omega
   cases neg
   ·exact SeqAt.in_tuple_reads q2 q1 c1 c2 hr ⟨.bl _,H,I,rfl,by simpa using q⟩
   ·exact SeqAt.notIn_tuple_reads q2 q1 c1 c2 hr ⟨.bl _,H,I,rfl,by simpa using q⟩
  |ref a =>
   have h3:rd g 7 (.ref a)=some (.list ps):=by
    simp only[rd];rw[show c6 g a=some l from h0];dsimp only;rw[show l.mapM (rd g 6)=some ps from h1]
    rfl
   obtain⟨bs,q2,d2⟩:=O4 I R 7 h3 re ry;have hr:X.A.units+1+min (PyData.depthAll ps) p.depth<cLine:=by omega
   cases neg
   ·exact SeqAt.in_list_reads q2 q1 c1 c2 hr ⟨.bl _,H,I,rfl,by simpa using q⟩
   ·exact SeqAt.notIn_list_reads q2 q1 c1 c2 hr ⟨.bl _,H,I,rfl,by simpa using q⟩
  |_=>cases h0
theorem R7(hu:X.A.units+100<cLine)(op:CmpOp):fj X (compareOp op) (r2 X.K (.cmp op)):=by
 intro pins s Z H x y v u Q I rx ry h;obtain⟨d,e,g,ρ,R,gB,re,d',g',⟨x',y',b,ex,h,rfl,rfl⟩,q⟩:=h;obtain⟨rfl,rfl⟩:=C5 ex;have fin:=q.now R (.bl b);have my:∀{P:Int->Int->Bool},(∃i j,d=.int i/\e=.int j/\b=P i j)->∃i j,x=.int i/\y=.int j/\b=P i j:=λhh=>by
  obtain⟨i,j,z1,z2,z3⟩:=hh;exact⟨i,j,(z1▸gB).j6,(z2▸re).j6,z3⟩
 cases op
 ·exact Ew hu I rx ry R gB re h false (by simpa using fin)
 ·exact Ew hu I rx ry R gB re h true (by simpa using fin)
 ·obtain⟨i,j,e1,e2,e3⟩:=my (P:=λi j=>decide (i<j)) h;exact KZ pins s Z H _ _ v u Q I rx ry ⟨i,j,e1,e2,by subst e3;exact fin⟩
 ·obtain⟨i,j,e1,e2,e3⟩:=my (P:=λi j=>decide (i<=j)) h;exact KY pins s Z H _ _ v u Q I rx ry ⟨i,j,e1,e2,by subst e3;exact fin⟩
 ·obtain⟨i,j,e1,e2,e3⟩:=my (P:=λi j=>decide (j<i)) h;exact KW pins s Z H _ _ v u Q I rx ry ⟨i,j,e1,e2,by subst e3;exact fin⟩
 ·obtain⟨i,j,e1,e2,e3⟩:=my (P:=λi j=>decide (j<=i)) h;exact KU pins s Z H _ _ v u Q I rx ry ⟨i,j,e1,e2,by subst e3;exact fin⟩
 ·obtain⟨rfl,rfl⟩:=(show _/\_ from h)
  obtain rfl:=re.uT;refine MN pins s Z H _ _ v u Q I rx ry ⟨rfl,?_⟩;have e:P9 d=decide (x=V.bV):=by cases gB<;>simp[P9]
  rw[<- e];exact fin
 ·obtain⟨rfl,rfl⟩:=(show _/\_ from h)
  obtain rfl:=re.uT;refine UN pins s Z H _ _ v u Q I rx ry ⟨rfl,?_⟩;have e:P9 d=decide (x=V.bV):=by cases gB<;>simp[P9]
  rw[<- e];exact fin
 ·rcases h with h|⟨a,S,n,i,rfl,ha,rfl,rfl⟩
  ·exact in_of hu I rx ry R gB re h false (by simpa using fin)
  ·obtain⟨a',rfl,ra⟩:=re.i7;obtain rfl:=gB.j6;exact RK pins s Z H _ _ v u Q I rx ry ⟨i,a',S,n,rfl,rfl,R.set ha ra,fin⟩
 ·rcases h with h|⟨a,S,n,i,rfl,ha,rfl,hb⟩
  ·exact in_of hu I rx ry R gB re h true (by simpa using fin)
  ·obtain⟨a',rfl,ra⟩:=re.i7;obtain rfl:=gB.j6;exact Oh pins s Z H _ _ v u Q I rx ry ⟨i,a',S,n,rfl,rfl,R.set ha ra,by rw[<- hb,qy];exact fin⟩
theorem empty_eq{K ρ H}(r:b7 K ρ H l vs):l.isEmpty=vs.isEmpty:=by cases r<;>rfl
theorem TV{K:PySem.W.Frag}(R:Rl K ρ g H)(r:d5 K ρ H d x)(h:Fv g d b):zm K x H b:=by
 rcases h with⟨rfl,rfl⟩|rfl|⟨i,rfl,rfl⟩|⟨l,rfl,rfl⟩|⟨a,l,rfl,hl,rfl⟩
 ·obtain rfl:=r.uT;rfl
 ·obtain rfl:=r.J5;rfl
 ·obtain rfl:=r.j6;rfl
 ·obtain⟨a,vs,rfl,ht,rs⟩:=r.O1;exact .inr (.inl ⟨_,ht.sq,by rw[empty_eq rs]⟩)
 ·obtain⟨a',rfl,ha⟩:=r.i7;obtain⟨vs,hq,rs⟩:=R.items hl ha;exact .inl ⟨_,hq,by rw[empty_eq rs]⟩
theorem Ug{K ρ H}{i:Int}(r:b7 K ρ H l vs)(h:fO l i=some d):∃v,fO vs i=some v/\d5 K ρ H d v:=by
 unfold fO at h ⊢;rw[<- r.length];cases e:jA l.length i with
 |none=>rw[e] at h;cases h
 |some j =>
  rw[e] at h;exact r.get h
theorem X5{K ρ H}{x:D}(R:Rl K ρ g H)(r:d5 K ρ H x v)(h:I9 g x=some l):∃a vs,v=.ref a/\b7 K ρ H l vs/\((∃i,x=.ref i/\ρ[i]?=some a)/\fe K H a vs\/x=.tup l/\TupAt K H a vs):=by
 cases r with
 |tup ht rs=>cases h;exact⟨_,_,rfl,rs,.inr ⟨rfl,ht⟩⟩
 |ref ha=>obtain⟨vs,hq,rs⟩:=R.items h ha;exact⟨_,_,rfl,rs,.inl ⟨⟨_,rfl,ha⟩,hq⟩⟩
 |_=>cases h
theorem Kz(hu:X.A.units+100<cLine):pD X (r2 X.K .ix):=by
 intro value slice pins s Z H x y v u Q I rx ry h hs;obtain⟨d,e,g,ρ,R,gB,re,d',g',⟨rfl,h⟩,q⟩:=h;rcases h with⟨x',l,i,ex,hl,ha⟩|⟨a,kvs,y',c,ex,ha,hc,hv⟩|⟨x',i,c,ex,h0,h1,rfl⟩
 ·obtain⟨rfl,rfl⟩:=C5 ex;obtain rfl:=re.j6;obtain⟨a,vs,rfl,rs,h⟩:=X5 R gB hl;obtain⟨w,hw,fg⟩:=Ug rs ha;rcases h with⟨_,hq⟩|⟨_,ht⟩
  ·exact Ux value slice pins s Z H _ _ v u Q I rx ry ⟨_,_,i,w,rfl,rfl,hq,hw,q.now R fg⟩ hs
  ·exact Mq value slice pins s Z H _ _ v u Q I rx ry ⟨_,_,i,w,rfl,rfl,ht.sq,hw,q.now R fg⟩ hs
 ·obtain⟨rfl,rfl⟩:=C5 ex;obtain⟨a',rfl,ra⟩:=gB.i7;obtain⟨vs,z,rs⟩:=R.cL ha ra;have:=N8 hc re;subst this;have q2:=rs.val c;rw[hv] at q2;obtain⟨w,hw,fg⟩:=q2.some;exact Uw (by omega) value slice pins s Z H _ _ v u Q I rx ry ⟨_,w,rfl,by have:=M5.k (k:=c) z;rw[hw] at this;exact this,q.now R fg⟩ hs
 ·obtain⟨rfl,rfl⟩:=C5 ex;obtain rfl:=gB.C9;obtain rfl:=re.j6;exact Mp value slice pins s Z H _ _ v u Q I rx ry ⟨x',i,c,rfl,rfl,m9 h0,h1,q.now R (.str _)⟩ hs
def Gj(K:PySem.W.Frag):V->Option Int->Option Int->Hp->VK->Prop:=λx lo hi H Q=>∃d g ρ d' g',Rl K ρ g H/\d5 K ρ H d x/\qP d lo hi g d' g'/\LQ K ρ H Q d' g'
theorem xY:tD X (Gj X.K):=by
 intro pins s Z H x v vl vu lo hi sl Q I rx hs pl pu h;obtain⟨d,g,ρ,d',g',R,gB,h,q⟩:=h;rcases h with⟨l,rfl,rfl,rfl⟩|⟨a,l,rfl,hl,rfl,rfl⟩
 ·obtain⟨a,vs,rfl,ht,rs⟩:=gB.O1;refine Pk pins s Z H _ v vl vu lo hi sl Q I rx hs pl pu ⟨_,_,rfl,ht.sq,λz=>?_,λp hp=>q.tup R hp (rs.cut lo hi)⟩;refine q.now R (.tup ht ?_);have:=rs.cut lo hi;rw[z] at this;exact this
 ·obtain⟨a',rfl,ha⟩:=gB.i7;obtain⟨vs,hq,rs⟩:=R.items hl ha;exact Pj pins s Z H _ v vl vu lo hi sl Q I rx hs pl pu ⟨_,_,rfl,hq,λp hp=>q.new R hp (rs.cut lo hi)⟩
def Jw(K:PySem.W.Frag):V->V->V->Hp->(Hp->Prop)->Prop:=λo i v H Q=>∃xM di dv g ρ,Rl K ρ g H/\d5 K ρ H xM o/\d5 K ρ H di i/\d5 K ρ H dv v/\U2 xM di dv g (λg'=>∀bz H',Ext ρ H bz H'->Rl K bz g' H'->Q H')
theorem Tn(hu:X.A.units+100<cLine):zk X (Jw X.K):=by
 intro pins s Z H o i v ov iv u Q I ro ri rv h;obtain⟨xM,di,dv,g,ρ,R,r1,r2,r3,g',h,q⟩:=h;rcases h with⟨a,i',l,j,rfl,rfl,hl,hj,rfl⟩|⟨a,kvs,c,rfl,ha,hc,hz,rfl⟩
 ·obtain⟨a',rfl,ha⟩:=r1.i7;obtain rfl:=r2.j6;obtain⟨vs,z,rs⟩:=R.lst hl ha;obtain⟨R',e'⟩:=R.write hl ha (rs.set r3 j);exact set_list pins s Z H _ _ _ ov iv u Q I ro ri rv ⟨_,vs,_,j,rfl,rfl,z,by rw[<- rs.length];exact hj,q ρ _ e' R'⟩
 ·obtain⟨a',rfl,ra⟩:=r1.i7;obtain⟨vs,z,rs⟩:=R.cL ha ra;have:=N8 hc r2;subst this;obtain⟨R',e'⟩:=R.put (o':=.cL (putD kvs c dv)) (u:=.dK (putK vs c v)) ha rfl ra (rs.put r3);cases ro;exact Rq (by omega) I (vh.k z (by rw[<- rs.length];exact yQ hz)) ri rv λs' I'=>⟨_,I',q ρ _ e' R'⟩
theorem My:i8 X (.builtin "len") (rN X.K .len):=by
 intro pins s Z H xs us Q I r h;obtain⟨ds,g,ρ,R,rs,d',g',⟨rfl,h⟩,q⟩:=h;rcases h with⟨x,l,rfl,hl,rfl⟩|⟨a,kvs,rfl,ha,rfl⟩|⟨x,rfl,hz,rfl⟩
 ·obtain⟨v,rfl,rv⟩:=rs.one;obtain⟨a,vs,rfl,rl,h⟩:=X5 R rv hl;refine NV pins s Z H _ us Q I r ⟨_,_,rfl,?_,by rw[<- rl.length];exact q.now R (.int _)⟩;exact h.imp (λz=>z.2) (λz=>z.2.sq)
 ·obtain⟨v,rfl,rv⟩:=rs.one;obtain⟨a',rfl,ra⟩:=rv.i7;obtain⟨vs,z,rk⟩:=R.cL ha ra;exact Rg pins s Z H _ us Q I r ⟨_,_,rfl,z,by rw[<- rk.length];exact q.now R (.int _)⟩
 ·obtain⟨v,rfl,rv⟩:=rs.one;obtain rfl:=rv.C9;exact NW pins s Z H _ us Q I r ⟨_,rfl,m9 hz,q.now R (.int _)⟩
theorem zc{K ρ H}:∀(ks:List Key),b7 K ρ H (ks.map kD) (ks.map kV)
 |[]=>.nil
 |.inl _::r=>.cons (.int _) (zc r)
 |.inr _::r=>.cons (.str _) (zc r)
theorem i0.keys{α:Type}{K ρ H}{ds:List (α×D)}{vs:List (α×V)}(h:i0 K ρ H ds vs):ds.map (·.1)=vs.map (·.1):=by
 induction h with
 |nil=>rfl
 |cons _ _ ih=>rw[aV,aV,ih]
theorem UC(hc:X.calm=true):i8 X (.type "list") (rN X.K .list):=by
 intro pins s Z H xs us Q I r h;obtain⟨ds,g,ρ,R,rs,d',g',⟨x,l,rfl,hl,rfl,rfl⟩|⟨a,kvs,rfl,ha,hn,rfl,rfl⟩,q⟩:=h
 rotate_left
 ·obtain⟨v,rfl,rv⟩:=rs.one;obtain⟨a',rfl,ra⟩:=rv.i7;obtain⟨vs,z,rk⟩:=R.cL ha ra;exact Ox hc pins s Z H _ us Q I r ⟨_,vs,rfl,z,by rw[<- rk.length];exact hn,λp hp=>q (ρ++[p]) _ _ (B7 hp) (R.new hp (o:=.lst ((kvs.map (·.1)).map kD)) (u:=.lst ((vs.map (·.1)).map kV)) (by rw[rk.keys];exact zc _)) (.ref (R.t6 p))⟩
 obtain⟨v,rfl,rv⟩:=rs.one;obtain⟨a,vs,rfl,rl,h⟩:=X5 R rv hl;exact NX pins s Z H _ us Q I r ⟨_,_,rfl,h.imp (λz=>z.2) (λz=>z.2.sq),λp hp=>q.new R hp rl⟩
theorem QS:i8 X (.type "tuple") (rN X.K .tuple):=by
 intro pins s Z H xs us Q I r h;obtain⟨ds,g,ρ,R,rs,d',g',⟨x,l,rfl,hl,rfl,rfl⟩,q⟩:=h;obtain⟨v,rfl,rv⟩:=rs.one;obtain⟨a,vs,rfl,rl,h⟩:=X5 R rv hl;refine Oo pins s Z H _ us Q I r ⟨a,vs,rfl,?_⟩;exact h.imp (λz=>⟨z.2,λp hp=>q.tup R hp rl⟩) (λz=>⟨z.2.sq,q.now R (.tup z.2 rl)⟩)
theorem Uv:i8 X (.builtin "isinstance") (rN X.K .isin):=by
 intro pins s Z H xs us Q I r h;obtain⟨ds,g,ρ,R,rs,d',g',⟨x,c,b,rfl,hc,hb,rfl,rfl⟩,q⟩:=h;obtain⟨v,w,rfl,r1,r2⟩:=rs.two;obtain rfl:=r2.LL;have fin:=q.now R (.bl b);have go:∀(t:Value) (v:V),fX X.K H v t->PySem.W.kitOne X.K t (.type c)=some b->Vals [v,V.ty c] us->wpAny (model X.prog X.w) X.A (call (.builtin "isinstance") us) (EP X pins Z Q) X.xe s :=
  λt v ht hk r=>NH pins s Z H _ us Q I r ⟨v,t,c,b,rfl,ht,hk,fin⟩
 simp only[List.mem_cons,List.mem_nil_iff,or_false] at hc;cases r1 with
 |bV=>refine go _ _ .bV ?_ r;cases hb;rcases hc with rfl|rfl|rfl|rfl|rfl<;>rfl
 |bl y=>refine go _ _ (.bl y) ?_ r;cases hb;rcases hc with rfl|rfl|rfl|rfl|rfl<;>rfl
 |int y=>refine go _ _ (.int y) ?_ r;cases hb;rcases hc with rfl|rfl|rfl|rfl|rfl<;>rfl
 |str y=>refine go _ _ (.str y) ?_ r;cases hb;rcases hc with rfl|rfl|rfl|rfl|rfl<;>rfl
 |ty _=>cases hb
 |tup ht rs =>
  cases hb;rcases ht with ht|ht
  ·refine go _ _ (.tup ht) ?_ r;rcases hc with rfl|rfl|rfl|rfl|rfl<;>rfl
  ·obtain⟨o,aO,n,lk,jS,_⟩:=ht;obtain⟨u,w',rfl,ru,fg⟩:=vals2 r;cases (show w'=Value.type c from fg);cases ru;have hk:PySem.W.kitOne X.K (.type "tuple") (.type c)=some (c=="tuple"):=by rcases hc with rfl|rfl|rfl|rfl|rfl<;>rfl
   exact bC FK I.gb ⟨o,I.gb _ _ lk,jS⟩ hk (λz=>nomatch z) λtk=>⟨.bl _,H,I.tok tk,rfl,fin⟩
 |@ref i a ha =>
  have wZ:∃m,g'[i]?=some (.lst m)/\b=(c=="list"):=by
   simp only[zu] at hb;split at hb
   ·exact⟨_,by assumption,(aE hb).symm⟩
   ·cases hb
  obtain⟨m,e,rfl⟩:=wZ;obtain⟨vs,z,_⟩:=R.lst e ha;refine go _ _ (.lst z) ?_ r;rcases hc with rfl|rfl|rfl|rfl|rfl<;>rfl
theorem Ss:∀{l:List D} {b:Bool},Q3 l=some b->∃bs:List Bool,l=bs.map D.bl/\b=bs.all id:=by
 intro l
 induction l with
 |nil=>intro b h;cases h;exact⟨[],rfl,rfl⟩
 |cons d r ih =>
  intro b h;cases d<;>first|(cases h;done)|skip
  rename_i c;simp only[Q3] at h;cases e:Q3 r with
  |none=>rw[e] at h;cases h
  |some b' =>
   rw[e] at h;cases h;obtain⟨bs,rfl,rfl⟩:=ih e;exact⟨c::bs,rfl,by simp⟩
theorem b7.Ck{K ρ H}:∀{bs:List Bool} {vs:List V},b7 K ρ H (bs.map D.bl) vs->vs=bs.map V.bl:=by
 intro bs
 induction bs with
 |nil=>intro vs h;cases h;rfl
 |cons b r ih =>
  intro vs h;cases h with
  |cons h rr=>rw[ih rr,h.J5];rfl
theorem L'(hc:X.calm=true):i8 X (.builtin "all") (rN X.K .all):=by
 intro pins s Z H xs us Q I r h;obtain⟨ds,g,ρ,R,rs,d',g',⟨a,l,b,rfl,hl,hb,rfl,rfl⟩,q⟩:=h;obtain⟨v,rfl,rv⟩:=rs.one;obtain⟨a',rfl,ra⟩:=rv.i7;obtain⟨vs,hq,rs⟩:=R.items hl ra;rcases hb with hb|⟨ns,rfl,rfl⟩
 rotate_left
 ·have:=rs.ints;subst this;exact Rc hc pins s Z H _ us Q I r ⟨_,ns,rfl,hq,q.now R (.bl _)⟩
 obtain⟨bs,rfl,rfl⟩:=Ss hb;have:=rs.Ck;subst this;exact Rb hc pins s Z H _ us Q I r ⟨_,bs,rfl,hq,q.now R (.bl _)⟩
theorem Su:∀{l:List D} {b:Bool},Q2 l=some b->∃bs:List Bool,l=bs.map D.bl/\b=bs.any id:=by
 intro l
 induction l with
 |nil=>intro b h;cases h;exact⟨[],rfl,rfl⟩
 |cons d r ih =>
  intro b h;cases d<;>first|(cases h;done)|skip
  rename_i c;simp only[Q2] at h;cases e:Q2 r with
  |none=>rw[e] at h;cases h
  |some c' =>
   rw[e] at h;cases h;obtain⟨bs,rfl,rfl⟩:=ih e;exact⟨c::bs,rfl,rfl⟩
theorem Ma(hc:X.calm=true):i8 X (.builtin "any") (rN X.K .any):=by
 intro pins s Z H xs us Q I r h;obtain⟨ds,g,ρ,R,rs,d',g',⟨a,l,b,rfl,hl,hb,rfl,rfl⟩,q⟩:=h;obtain⟨bs,rfl,rfl⟩:=Su hb;obtain⟨v,rfl,rv⟩:=rs.one;obtain⟨a',rfl,ra⟩:=rv.i7;obtain⟨vs,hq,rs⟩:=R.items hl ra;have:=rs.Ck;subst this;exact Rf hc pins s Z H _ us Q I r ⟨_,bs,rfl,hq,q.now R (.bl _)⟩
theorem zb{K ρ H}:∀(ns:List Int),b7 K ρ H (ns.map D.int) (ns.map V.int)
 |[]=>.nil
 |_::r=>.cons (.int _) (zb r)
theorem QM(hc:X.calm=true):i8 X (.builtin "sorted") (rN X.K .hX):=by
 intro pins s Z H xs us Q I r h;obtain⟨ds,g,ρ,R,rs,d',g',⟨a,kvs,ns,rfl,ha,hk,hn,rfl,rfl⟩|⟨x,ns,rfl,hx,hn,rfl,rfl⟩,q⟩:=h
 rotate_left
 ·obtain⟨v,rfl,rv⟩:=rs.one;obtain⟨a,vs,rfl,rl,h⟩:=X5 R rv hx;have:=rl.ints;subst this;exact Oy pins s Z H _ us Q I r ⟨_,ns,rfl,h.imp (λz=>z.2) (λz=>z.2.sq),hn,λp hp=>q (ρ++[p]) _ _ (B7 hp) (R.new hp (o:=.lst ((I0 ns).map .int)) (u:=.lst ((I0 ns).map V.int)) (zb _)) (.ref (R.t6 p))⟩
 obtain⟨v,rfl,rv⟩:=rs.one;obtain⟨a',rfl,ra⟩:=rv.i7;obtain⟨vs,z1,rk⟩:=R.cL ha ra;exact OD hc pins s Z H _ us Q I r ⟨_,vs,ns,rfl,z1,rk.keys.symm.trans hk,hn,λp hp=>q (ρ++[p]) _ _ (B7 hp) (R.new hp (o:=.lst ((A1 ns).map .int)) (u:=.lst ((A1 ns).map V.int)) (zb _)) (.ref (R.t6 p))⟩
theorem MD(hc:X.calm=true):i8 X (.builtin "max") (rN X.K .max):=by
 intro pins s Z H xs us Q I r h;obtain⟨ds,g,ρ,R,rs,d',g',⟨rfl,⟨i,j,rfl,rfl⟩|⟨a,ns,M,rfl,hl,h1,h2,rfl⟩⟩,q⟩:=h
 rotate_left
 ·obtain⟨v,rfl,rv⟩:=rs.one;obtain⟨a',rfl,ra⟩:=rv.i7;obtain⟨vs,hq,rs⟩:=R.items hl ra;have:=rs.ints;subst this;exact Ri hc pins s Z H _ us Q I r ⟨_,ns,M,rfl,hq,h1,h2,q.now R (.int _)⟩
 obtain⟨v,w,rfl,r1,r2⟩:=rs.two;obtain rfl:=r1.j6;obtain rfl:=r2.j6;exact Rh hc pins s Z H _ us Q I r ⟨i,j,rfl,q.now R (.int _)⟩
theorem MF(hc:X.calm=true):i8 X (.builtin "min") (rN X.K .min):=by
 intro pins s Z H xs us Q I r h;obtain⟨ds,g,ρ,R,rs,d',g',⟨rfl,⟨i,j,rfl,rfl⟩|⟨a,ns,M,rfl,hl,h1,h2,rfl⟩⟩,q⟩:=h
 rotate_left
 ·obtain⟨v,rfl,rv⟩:=rs.one;obtain⟨a',rfl,ra⟩:=rv.i7;obtain⟨vs,hq,rs⟩:=R.items hl ra;have:=rs.ints;subst this;exact Rk hc pins s Z H _ us Q I r ⟨_,ns,M,rfl,hq,h1,h2,q.now R (.int _)⟩
 obtain⟨v,w,rfl,r1,r2⟩:=rs.two;obtain rfl:=r1.j6;obtain rfl:=r2.j6;exact Rj hc pins s Z H _ us Q I r ⟨i,j,rfl,q.now R (.int _)⟩
theorem Dh{K:PySem.W.Frag}{ρ:List Addr}{g:G}{H:Hp}(R:Rl K ρ g H):∀{rs:List Nat} {lss:List (List D)} {vs:List V},rs.length=lss.length->(∀(j:Nat) r l,rs[j]?=some r->lss[j]?=some l->g[r]?=some (.lst l))->b7 K ρ H (rs.map .ref) vs ->
  ∃(bs:List Addr) (vss:List (List V)),vs=bs.map V.ref/\bs.length=rs.length/\bs.length=vss.length/\(∀(j:Nat) c w,bs[j]?=some c->vss[j]?=some w->H c=some (.lst w))/\b7 K ρ H lss.flatten vss.flatten
 |[],[],_,_,_,.nil=>⟨[],[],rfl,rfl,rfl,λj c w e=>by simp at e,.nil⟩
 |r::rs,l::lss,_,hl,hg,.cons h t=>by
  obtain⟨c,rfl,rc⟩:=h.i7;obtain⟨w,hw,dw⟩:=R.lst (hg 0 r l rfl rfl) rc;obtain⟨bs,vss,rfl,h1,h2,h3,h4⟩:=Dh R (by simpa using hl) (λj r l e1 e2=>hg (j+1) r l (by simpa using e1) (by simpa using e2)) t;refine⟨c::bs,w::vss,rfl,by simp[h1],by simp[h2],λj c' w' e1 e2=>?_,?_⟩
  ·cases j with
   |zero=>simp at e1 e2;subst e1 e2;exact hw
   |succ j=>exact h3 j c' w' (by simpa using e1) (by simpa using e2)
  ·rw[bf,bf];exact dw.append h4
 |[],_::_,_,hl,_,_=>by simp at hl
 |_::_,[],_,hl,_,_=>by simp at hl
theorem Tr(hc:X.calm=true):i8 X (.builtin "sum") (λxs H Q=>∃ds g ρ,Rl X.K ρ g H/\b7 X.K ρ H ds xs/\∃d g',Ft ds g d g'/\LQ X.K ρ H Q d g'):=by
 intro pins s Z H xs us Q I r h;obtain⟨ds,g,ρ,R,rs,d',g',⟨a,b,rr,lss,rfl,hl,hb,hn,hg,hz,hd⟩,q⟩:=h;obtain⟨v,w,rfl,rv,fg⟩:=rs.two;obtain⟨a',rfl,ra⟩:=rv.i7;obtain⟨b',rfl,rb⟩:=fg.i7;obtain⟨vs,hq,rs⟩:=R.items hl ra;obtain⟨bs,vss,rfl,n1,n2,hv,hf⟩:=Dh R hn hg rs;obtain⟨vb,GI,Iv⟩:=R.lst hb rb;cases Iv;refine Oz hc pins s Z H _ us Q I r ⟨_,_,bs,vss,rfl,hq,GI,n2,hv,by rw[<- hf.length];exact hz,λz=>?_,λz p hp=>?_⟩
 ·rcases hd with⟨_,rfl,rfl⟩|⟨z2,_,_⟩
  ·exact q.now R (.ref rb)
  ·subst z;exact absurd (bj n1.symm) z2
 ·rcases hd with⟨z2,_,_⟩|⟨_,rfl,rfl⟩
  ·subst z2;exact absurd (bj n1) z
  ·exact q.new R hp hf
theorem TB(hc:X.calm=true):i8 X (.builtin "sum") (rN X.K .sum):=by
 intro pins s Z H xs us Q I r h;obtain⟨ds,g,ρ,R,rs,d',g',h,q⟩:=h;rcases h with h|h
 case inr=>exact Tr hc pins s Z H xs us Q I r ⟨ds,g,ρ,R,rs,d',g',h,q⟩
 obtain⟨a,ns,rfl,hl,rfl,rfl⟩:=h;obtain⟨v,rfl,rv⟩:=rs.one;obtain⟨a',rfl,ra⟩:=rv.i7;obtain⟨vs,hq,rs⟩:=R.items hl ra;have:=rs.ints;subst this;exact Rm hc pins s Z H _ us Q I r ⟨_,ns,rfl,hq,q.now R (.int _)⟩
theorem Mn:i8 X (.type "int") (rN X.K .int):=by
 intro pins s Z H xs us Q I r h;obtain⟨ds,g,ρ,R,rs,d',g',⟨rfl,h⟩,q⟩:=h;rcases h with⟨i,rfl,rfl⟩|⟨b,rfl,rfl⟩
 ·obtain⟨v,rfl,rv⟩:=rs.one;obtain rfl:=rv.j6;exact DA pins s Z H _ us Q I r (.inl ⟨i,rfl,q.now R (.int _)⟩)
 ·obtain⟨v,rfl,rv⟩:=rs.one;obtain rfl:=rv.J5;exact DA pins s Z H _ us Q I r (.inr ⟨b,rfl,q.now R (.int _)⟩)
def rM(K:PySem.W.Frag)(p:Pr):V->List V->Hp->VK->Prop:=λx xs H Q=>∃d ds g ρ,Rl K ρ g H/\d5 K ρ H d x/\b7 K ρ H ds xs/\cT p (d::ds) g (LQ K ρ H Q)
theorem yZ{a b:D}{m:List D}(h:a::l=b::m):a=b/\l=m:=by cases h;exact⟨rfl,rfl⟩
theorem QX:mO X "list.append" (rM X.K .append):=by
 intro pins s Z H x xs v us Q I rx r h;obtain⟨d,ds,g,ρ,R,rd,rs,d',g',⟨a,y,l,ex,ha,hz,rfl,rfl⟩,q⟩:=h;obtain⟨rfl,rfl⟩:=yZ ex;obtain⟨a',rfl,ra⟩:=rd.i7;obtain⟨w,rfl,fg⟩:=rs.one;obtain⟨vs,z1,rv⟩:=R.lst ha ra;obtain⟨R2,e2⟩:=R.write ha ra (rv.append (.cons fg .nil));exact RI pins s Z H _ _ v us Q I rx r ⟨_,vs,_,rfl,rfl,z1,by rw[<- rv.length];exact yQ hz,q ρ _ _ e2 R2 .bV⟩
theorem UA(hc:X.calm=true):i8 X (.type "set") (rN X.K .oy):=by
 intro pins s Z H xs us Q I r h;obtain⟨ds,g,ρ,R,rs,d',g',⟨a,ns,rfl,ha,hz,rfl,rfl⟩,q⟩:=h;obtain⟨v,rfl,rv⟩:=rs.one;obtain⟨a',rfl,ra⟩:=rv.i7;obtain⟨vs,z1,rk⟩:=R.items ha ra;obtain rfl:=rk.ints;refine Om hc pins s Z H _ us Q I r ⟨a',ns,rfl,z1,hz,λp hp=>?_⟩;exact q (ρ++[p]) _ _ (B7 hp) (R.new hp (o:=.set (λk=>decide (k∈ns)) (ST.f9 [] ns).length) (u:=.set (λk=>decide (k∈ns)) (ST.f9 [] ns).length) ⟨rfl,rfl⟩) (.ref (R.t6 p))
theorem Mi(hu:X.A.units+100<cLine):mO X "dict.get" (rM X.K .get):=by
 intro pins s Z H x xs v us Q I rx r h;obtain⟨d,ds,g,ρ,R,rd,rs,d',g',⟨a,y,z,kvs,c,ex,ha,hc,rfl,rfl⟩,q⟩:=h;obtain⟨rfl,rfl⟩:=yZ ex;obtain⟨a',rfl,ra⟩:=rd.i7;obtain⟨w1,w2,rfl,r1,r2⟩:=rs.two;obtain⟨vs,z1,rv⟩:=R.cL ha ra;have:=N8 hc r1;subst this;obtain⟨u1,u2,rfl,p1,p2⟩:=vals2 r;cases rx;refine Md (by omega) I (M5.k z1) p1 p2 λw' s4 I4 fg=>⟨_,H,I4,fg,q.now R ?_⟩
 have q:=rv.val c;cases e1:p6 kvs c with
 |none =>
  rw[e1] at q;cases e2:F8 vs c with
  |none=>exact r2
  |some w=>rw[e2] at q;exact q.elim
 |some d' =>
  rw[e1] at q;obtain⟨w,hw,q⟩:=q.some;rw[hw];exact q
theorem Qr:mO X "list.pop" (rM X.K .pop):=by
 intro pins s Z H x xs v us Q I rx r h;obtain⟨d,ds,g,ρ,R,rd,rs,y,g',⟨a,i,l,k,ex,ha,h1,h2,hk,hy,rfl⟩,q⟩:=h;obtain⟨rfl,rfl⟩:=yZ ex;obtain⟨a',rfl,ra⟩:=rd.i7;obtain⟨w,rfl,fg⟩:=rs.one;obtain rfl:=fg.j6;obtain⟨vs,z1,rv⟩:=R.lst ha ra;obtain⟨w,hw,fg⟩:=rv.get hy;obtain⟨R2,e2⟩:=R.write ha ra (rv.erase k);exact Qc pins s Z H _ _ v us Q I rx r ⟨_,vs,i,k,w,rfl,rfl,z1,h1,h2,by rw[<- rv.length];exact hk,hw,q ρ _ _ e2 R2 (fg.ext e2)⟩
theorem b7.strs{K ρ H}{ys:List Str}(h:b7 K ρ H (ys.map D.str) vs):vs=ys.map V.str:=by
 induction ys generalizing vs with
 |nil=>cases h;rfl
 |cons y ys ih =>
  cases h with
  |cons q r=>cases q;rw[ih r];rfl
theorem ty_list(R:Rl X.K ρ g H)(r:d5 X.K ρ H d v)(h:∃a l,d=.ref a/\c6 g a=some l):mj X.K "list" v H:=by
 obtain⟨a,l,rfl,hl⟩:=h;obtain⟨a',rfl,ra⟩:=r.i7;obtain⟨vs,hq,_⟩:=R.items hl ra;exact .inl ⟨rfl,vs,hq⟩
theorem ty_dict(R:Rl X.K ρ g H)(r:d5 X.K ρ H d v)(h:lJ .get d g):mj X.K "dict" v H:=by
 obtain⟨a,l,rfl,hl⟩:=h;obtain⟨a',rfl,ra⟩:=r.i7;obtain⟨vs,hq,_⟩:=R.cL hl ra;exact .inr (.inr (.inl ⟨rfl,.inl ⟨vs,hq⟩⟩))
noncomputable abbrev gE:=List Str×XK
def LX(K:PySem.W.Frag)(ρ:List Addr)(H:Hp)(Ξ:gE):KX:=λx g'=>∀bz H' C,Ext ρ H bz H'->Rl K bz g' H'->x.cls∈Ξ.1->p8 K x.cls C->Ξ.2 (.ref C) none H'
theorem LX.ext{K:PySem.W.Frag}{bK:List Addr}{H1:Hp}{Ξ:gE}(e:Ext ρ H bK H1){x:Xn}(h:LX K ρ H Ξ x g):LX K bK H1 Ξ x g:=λbz H' C e' R hm c=>h bz H' C (e.trans e') R hm c
noncomputable abbrev pC(ex:List Str):gE:=(ex,λ_ _ _=>False)
def LE(K:PySem.W.Frag)(Ξ:gE)(t:S->G->KD->KX->Prop):TE:=λbP H Q=>∃Z g ρ,m5 K ρ H Z bP/\Rl K ρ g H/\t Z g (LQ K ρ H Q) (LX K ρ H Ξ)
def LT(K:PySem.W.Frag)(Ξ:gE)(t:S->G->(Bool->G->Prop)->KX->Prop):TT:=λbP H Q=>∃Z g ρ,m5 K ρ H Z bP/\Rl K ρ g H/\t Z g (λb g'=>∀bz H',Ext ρ H bz H'->Rl K bz g' H'->Q b H') (LX K ρ H Ξ)
def LA(K:PySem.W.Frag)(Ξ:gE)(t:S->G->(List D->G->Prop)->KX->Prop):TA:=λbP H Q=>∃Z g ρ,m5 K ρ H Z bP/\Rl K ρ g H/\t Z g (λds g'=>∀bz H' vs,Ext ρ H bz H'->Rl K bz g' H'->b7 K bz H' ds vs->Q vs H') (LX K ρ H Ξ)
def Z2(K:PySem.W.Frag)(fE:List Addr)(H0:Hp)(k:IK)(J:It):Prop:=∀ρ g H,Ext fE H0 ρ H->Rl K ρ g H->∀i,(k.at i g=some none->J.stop i H) /\
 ∀d,k.at i g=some (some d)->J.go i H/\∀v H',J.nT i H v H'->Ext ρ H ρ H'/\Rl K ρ g H'/\d5 K ρ H' d v
def LI(K:PySem.W.Frag)(Ξ:gE)(t:S->G->(IK->G->Prop)->KX->Prop):TI:=λbP H R=>∃Z g ρ,m5 K ρ H Z bP/\Rl K ρ g H/\t Z g (λk g'=>∀bz H' J,Ext ρ H bz H'->Rl K bz g' H'->Z2 K bz H' k J->R J H') (LX K ρ H Ξ)
def LG(K:PySem.W.Frag)(t:MT):TG:=λv bP H Q=>∃d Z g ρ,m5 K ρ H Z bP/\Rl K ρ g H/\d5 K ρ H d v/\jz t d Z (λbJ=>∀cS,m5 K ρ H bJ cS->Q cS H)
def LN(K:PySem.W.Frag)(ρ:List Addr)(H:Hp)(N:L2.Ends):Ends where
 nx:=λbJ g'=>∀bz H' cS,Ext ρ H bz H'->Rl K bz g' H'->m5 K bz H' bJ cS->N.nx cS H'
 rt:=LQ K ρ H N.rt
 bk:=λbJ g'=>∀bz H' cS,Ext ρ H bz H'->Rl K bz g' H'->m5 K bz H' bJ cS->N.bk cS H'
 ct:=λbJ g'=>∀bz H' cS,Ext ρ H bz H'->Rl K bz g' H'->m5 K bz H' bJ cS->N.ct cS H'
def LS(K:PySem.W.Frag)(Ξ:gE)(t:Ends->S->G->KX->Prop):TS:=λN bP H=>∃Z g ρ,m5 K ρ H Z bP/\Rl K ρ g H/\t (LN K ρ H N) Z g (LX K ρ H Ξ)
end M
namespace L2
open PySem PySem.Spec PyProof.Rows
variable{t t':TT}
section
variable{X:Cx}{e:Expr}
theorem PE.imp{t t':TE}(h:PE X e t)(i:∀Z H Q,t' Z H Q->t Z H Q):PE X e t':=λpins s Z H Q I q=>h pins s Z H Q I (i Z H Q q)
theorem PT.imp(h:PT X e t)(i:∀Z H Q,t' Z H Q->t Z H Q):PT X e t':=λpins s Z H Q I q=>h pins s Z H Q I (i Z H Q q)
theorem PW.imp(h:PW X e t)(i:∀Z H Q,t' Z H Q->t Z H Q):PW X e t':=λw pins s Z H Q I q=>h w pins s Z H Q I (i Z H Q q)
theorem PA.imp{es:List Expr}{t t':TA}(h:PA X es t)(i:∀Z H Q,t' Z H Q->t Z H Q):PA X es t':=λp pins s Z H Q I q=>h p pins s Z H Q I (i Z H Q q)
theorem jW.imp{es:List Expr}(h:jW X es t)(i:∀Z H Q,t' Z H Q->t Z H Q):jW X es t':=λpins s Z H Q I q=>h pins s Z H Q I (i Z H Q q)
theorem PI.imp{tg:Expr}{t t':TI}(h:PI X tg e t)(i:∀Z H Q,t' Z H Q->t Z H Q):PI X tg e t':=λpins s Z H Q I q=>h pins s Z H Q I (i Z H Q q)
theorem PG.imp{t t':TG}(h:PG X e t)(i:∀v Z H Q,t' v Z H Q->t v Z H Q):PG X e t':=λpins s Z H v u Q I r q=>h pins s Z H v u Q I r (i v Z H Q q)
theorem PS.imp{st:Stmt}{t t':TS}(h:PS X st t)(i:∀N Z H,t' N Z H->t N Z H):PS X st t':=λpins s Z H N I q=>h pins s Z H N I (i N Z H q)
theorem jc.imp{st:List Stmt}{t t':TS}(h:jc X st t)(i:∀N Z H,t' N Z H->t N Z H):jc X st t':=λpins s Z H N I q=>h pins s Z H N I (i N Z H q)
end
end L2
namespace M
open PySem L2 PySem.Spec PyProof.Rows
variable{Ξ:gE}{P:eR}{op gC:CmpOp}{rest es:List Expr}{fZ:ME}{p2 q iT:Pos}
section
variable{K:PySem.W.Frag}(hP:j4 P){ρ fE:List Addr}{H H0:Hp}{Z:S}{bP:L2.St}{g:G}{m:ME}
include hP
theorem eX{Q0:KD}{Q:VK}(s:m5 K ρ H Z bP)(R:Rl K ρ g H)(e0:Ext fE H0 ρ H)(h:aT P m Z g Q0 (LX K fE H0 Ξ))(k:∀x g1 bK H1 v1,Ext ρ H bK H1->Rl K bK g1 H1->d5 K bK H1 x v1->Q0 x g1->Q v1 H1):LE K Ξ (aT P m) bP H Q :=
 ⟨Z,g,ρ,s,R,b8 hP m _ _ _ _ _ _ (λx g1 h bK H1 v1 e1 R1 r1=>k x g1 bK H1 v1 e1 R1 r1 h) (λ_ _ z=>LX.ext e0 z) h⟩
theorem jy{Q0:List D->G->Prop}{Q:List V->Hp->Prop}(s:m5 K ρ H Z bP)(R:Rl K ρ g H)(e0:Ext fE H0 ρ H)(h:ft P m Z g Q0 (LX K fE H0 Ξ))(k:∀x g1 bK H1 v1,Ext ρ H bK H1->Rl K bK g1 H1->b7 K bK H1 x v1->Q0 x g1->Q v1 H1):LA K Ξ (ft P m) bP H Q :=
 ⟨Z,g,ρ,s,R,u7 hP m _ _ _ _ _ _ (λx g1 h bK H1 v1 e1 R1 r1=>k x g1 bK H1 v1 e1 R1 r1 h) (λ_ _ z=>LX.ext e0 z) h⟩
theorem mT{Q0:Bool->G->Prop}{Q:Bool->Hp->Prop}(s:m5 K ρ H Z bP)(R:Rl K ρ g H)(e0:Ext fE H0 ρ H)(h:da P m Z g Q0 (LX K fE H0 Ξ))(k:∀t g1 bK H1,Ext ρ H bK H1->Rl K bK g1 H1->Q0 t g1->Q t H1):LT K Ξ (da P m) bP H Q :=
 ⟨Z,g,ρ,s,R,n8 hP m _ _ _ _ _ _ (λt g1 h bK H1 e1 R1=>k t g1 bK H1 e1 R1 h) (λ_ _ z=>LX.ext e0 z) h⟩
theorem pK{ms:MS}{N:L2.Ends}{N0:Ends}(s:m5 K ρ H Z bP)(R:Rl K ρ g H)(e0:Ext fE H0 ρ H)(h:wpS P ms N0 Z g (LX K fE H0 Ξ))(k:N0.le (LN K ρ H N)):LS K Ξ (wpS P ms) N bP H :=
 ⟨Z,g,ρ,s,R,wpS_mono hP ms _ _ _ _ _ _ k (λ_ _ z=>LX.ext e0 z) h⟩
end
theorem b7.kq{K ρ H}(lo:Int)(n:Nat):b7 K ρ H (j5 lo n) ((List.range n).map λ(k:Nat)=>V.int (lo+k)):=by
 unfold j5;have:∀l:List Nat,b7 K ρ H (l.map λ(k:Nat)=>D.int (lo+k)) (l.map λ(k:Nat)=>V.int (lo+k)):=by
  intro l
  induction l with
  |nil=>exact .nil
  |cons x r ih=>exact .cons (.int _) ih
 exact this _
section
variable{X:Cx}(hP:j4 P){a b c e:Expr}{ma mb mc:ME}{pos:Pos}{p:Pr}
include hP
theorem yw(h:PE X e (pL (r2 X.K p) (LE X.K Ξ (aT P ma)) (LE X.K Ξ (aT P mb)))):PE X e (LE X.K Ξ (aT P (.prim p (.cons ma (.cons mb .nil))))) :=
 h.imp λbP H Q bc=>by
  obtain⟨Z,g,ρ,s,R,h⟩:=bc;exact eX hP s R (.refl _ _) h λx g1 bK H1 v1 e1 R1 r1 h=>eX hP (s.ext e1) R1 e1 h λy g2 eF H2 v2 e2 R2 r2 h =>
   ⟨x,y,g2,eF,R2,r1.ext e2,r2,p7 (λd g' h=>h.ext (e1.trans e2)) h⟩
theorem Tw(h:PT X e (yb (pL (r2 X.K (.cmp op)) (LE X.K Ξ (aT P ma)) (LE X.K Ξ (aT P mb))))):PT X e (LT X.K Ξ (da P (.gJ (.prim (.cmp op) (.cons ma (.cons mb .nil)))))) :=
 h.imp λbP H Q bc=>by
  obtain⟨Z,g,ρ,s,R,h⟩:=bc;refine eX hP s R (.refl _ _) h λx g1 bK H1 v1 e1 R1 r1 h=>eX hP (s.ext e1) R1 e1 h λy g2 eF H2 v2 e2 R2 r2 h=>?_;obtain⟨d',g',h,q⟩:=h;obtain⟨x',y',t,ex,hc,rfl,rfl⟩:=id h;refine⟨x,y,g',eF,R2,r1.ext e2,r2,_,_,h,λbz H' v e' R' r'=>?_⟩;obtain⟨t',ht,q⟩:=q;rcases ht with⟨z,_⟩|z|⟨i,z,_⟩|⟨l,z,_⟩|⟨a,l,z,_⟩<;>cases z
  exact⟨_,r'.J5,q bz H' (e1.trans (e2.trans e')) R'⟩
theorem Lq{op:UnaryOp}(ha:PE X a (LE X.K Ξ (aT P ma))):PE X (.UnaryOp op a pos) (LE X.K Ξ (aT P (.prim (.un op) (.cons ma .nil)))) :=
 (Lf (La op) ha).imp λbP H Q bc=>by
  obtain⟨Z,g,ρ,s,R,h⟩:=bc;exact eX hP s R (.refl _ _) h λx g1 bK H1 v1 e1 R1 r1 h=>⟨x,g1,bK,R1,r1,p7 (λd g' h=>h.ext e1) h⟩
theorem CY:∀bP H Q,LE X.K Ξ (aT P (.chain op gC ma mb mc)) bP H Q->yy (r2 X.K (.cmp op)) (r2 X.K (.cmp gC)) (LE X.K Ξ (aT P ma)) (LE X.K Ξ (aT P mb)) (LE X.K Ξ (aT P mc)) bP H Q:=λbP H Q bc=>by
 obtain⟨Z,g,ρ,s,R,h⟩:=bc;refine eX hP s R (.refl _ _) h λx g1 bK H1 v1 e1 R1 r1 h=>eX hP (s.ext e1) R1 e1 h λy g2 eF H2 v2 e2 R2 r2 h=>?_;refine⟨x,y,g2,eF,R2,r1.ext e2,r2,p7 (λd g3 h iB H3 v3 e3 R3 r3=>?_) h⟩;obtain⟨t,rfl,h⟩:=h;obtain rfl:=r3.J5;refine⟨t,rfl,?_⟩;cases t
 ·exact h iB H3 _ (e1.trans (e2.trans e3)) R3 (.bl _)
 ·exact eX hP (s.ext (e1.trans (e2.trans e3))) R3 (e1.trans (e2.trans e3)) h λz g4 nR H4 v4 e4 R4 r4 h =>
   ⟨y,z,g4,nR,R4,r2.ext (e3.trans e4),r4,p7 (λd g' h=>h.ext (e1.trans (e2.trans (e3.trans e4)))) h⟩
theorem QB(hu:X.A.units+100<cLine)(ha:PE X a (LE X.K Ξ (aT P ma)))(hb:PE X b (LE X.K Ξ (aT P mb)))(hc:PE X c (LE X.K Ξ (aT P mc)))(hm:lastMarks [op,gC] [b,c]=false) :
  PE X (.Compare a [op,gC] [b,c] pos) (LE X.K Ξ (aT P (.chain op gC ma mb mc))):=(Qk (R7 hu op) (R7 hu gC) ha hb hc hm).imp (CY hP)
theorem PH{Z:S}{g:G}{Q:Bool->G->Prop}{E:KX}(h:da P (.gJ (.chain op gC ma mb mc)) Z g Q E):aT P (.chain op gC ma mb mc) Z g (λd g'=>∃t,d=.bl t/\Q t g') E:=by
 have one:∀{o:CmpOp} {xs:List D} {g:G},cT (.cmp o) xs g (λd g1=>X0 g1 d λb=>Q b g1)->cT (.cmp o) xs g λd g'=>∃t,d=.bl t/\Q t g':=by
  intro o xs g h;obtain⟨d',g',h,t',ht,q⟩:=h;obtain⟨x',y',t,ex,hc,rfl,rfl⟩:=id h;refine⟨_,_,h,t',?_,q⟩;rcases ht with⟨z,_⟩|z|⟨i,z,_⟩|⟨l,z,_⟩|⟨a,l,z,_⟩<;>first|exact z|cases z
 refine b8 hP ma _ _ _ _ _ _ (λx g1 h=>b8 hP mb _ _ _ _ _ _ (λy g2 h=>p7 (λz g3 h=>?_) h) (λ_ _ z=>z) h) (λ_ _ z=>z) h;obtain⟨t,rfl,h⟩:=h;refine⟨t,rfl,?_⟩;cases t
 ·obtain⟨b,hb,q⟩:=(show X0 g3 (.bl false) λb=>Q b g3 from h)
  rcases hb with⟨z,_⟩|z|⟨i,z,_⟩|⟨l,z,_⟩|⟨a,l,z,_⟩<;>first|(cases z;exact⟨_,rfl,q⟩)|cases z
 ·exact b8 hP mc _ _ _ _ _ _ (λw g4 h=>one h) (λ_ _ z=>z) h
theorem QN(hu:X.A.units+100<cLine)(ha:PE X a (LE X.K Ξ (aT P ma)))(hb:PE X b (LE X.K Ξ (aT P mb)))(hc:PE X c (LE X.K Ξ (aT P mc)))(hm:lastMarks [op,gC] [b,c]=false) :
  PT X (.Compare a [op,gC] [b,c] pos) (LT X.K Ξ (da P (.gJ (.chain op gC ma mb mc)))) :=
 (Qw (R7 hu op) (R7 hu gC) ha hb hc hm).imp λbP H Q ⟨Z,g,ρ,s,R,h⟩ =>
  CY hP bP H _ (eX hP s R (.refl _ _) (PH hP h) λx g1 bK H1 v1 e1 R1 r1 h=>by
   obtain⟨t,rfl,h⟩:=h;exact ⟨t,r1.J5,h bK H1 e1 R1⟩)
theorem Ta(ha:PE X a (LE X.K Ξ (aT P ma)))(hb:PE X (.BoolOp .And (b::rest) pos) (LE X.K Ξ (aT P mb))):PE X (.BoolOp .And (a::b::rest) pos) (LE X.K Ξ (aT P (.dX ma mb))) :=
 (MW ha hb).imp λbP H Q bc=>by
  obtain⟨Z,g,ρ,s,R,h⟩:=bc;refine eX hP s R (.refl _ _) h λx g1 bK H1 v1 e1 R1 r1 h=>?_;obtain⟨t,rfl,h⟩:=h;refine⟨t,r1.J5,?_⟩;cases t
  ·exact h bK H1 _ e1 R1 (.bl _)
  ·exact eX hP (s.ext e1) R1 e1 h λy g2 eF H2 v2 e2 R2 r2 h=>h eF H2 v2 (e1.trans e2) R2 r2
theorem Lp(ha:PE X a (LE X.K Ξ (aT P ma)))(hb:PE X (.BoolOp .Or (b::rest) pos) (LE X.K Ξ (aT P mb))):PE X (.BoolOp .Or (a::b::rest) pos) (LE X.K Ξ (aT P (.iU ma mb))) :=
 (Le ha hb).imp λbP H Q bc=>by
  obtain⟨Z,g,ρ,s,R,h⟩:=bc;refine eX hP s R (.refl _ _) h λx g1 bK H1 v1 e1 R1 r1 h=>?_;obtain⟨t,rfl,h⟩:=h;refine⟨t,r1.J5,?_⟩;cases t
  ·exact eX hP (s.ext e1) R1 e1 h λy g2 eF H2 v2 e2 R2 r2 h=>h eF H2 v2 (e1.trans e2) R2 r2
  ·exact h bK H1 _ e1 R1 (.bl _)
theorem Th(ha:PE X a (LE X.K Ξ (aT P ma))):PE X (.UnaryOp .Not a pos) (LE X.K Ξ (aT P (.eW ma))) :=
 (Nb ha).imp λbP H Q bc=>by
  obtain⟨Z,g,ρ,s,R,h⟩:=bc;refine eX hP s R (.refl _ _) h λx g1 bK H1 v1 e1 R1 r1 h=>?_;obtain⟨t,rfl,h⟩:=h;exact⟨t,r1.J5,h bK H1 _ e1 R1 (.bl _)⟩
theorem Tf(hc:PT X c (LT X.K Ξ (da P mc)))(ha:PE X a (LE X.K Ξ (aT P ma)))(hb:PE X b (LE X.K Ξ (aT P mb))):PE X (.IfExp c a b pos) (LE X.K Ξ (aT P (.ite mc ma mb))) :=
 (Qm hc ha hb).imp λbP H Q bc=>by
  obtain⟨Z,g,ρ,s,R,h⟩:=bc;refine mT hP s R (.refl _ _) h λt g1 bK H1 e1 R1 h=>?_;cases t
  ·exact eX hP (s.ext e1) R1 e1 h λy g2 eF H2 v2 e2 R2 r2 h=>h eF H2 v2 (e1.trans e2) R2 r2
  ·exact eX hP (s.ext e1) R1 e1 h λy g2 eF H2 v2 e2 R2 r2 h=>h eF H2 v2 (e1.trans e2) R2 r2
theorem Ti{k:Nat}(h:PA X es (LA X.K Ξ (ft P fZ))):PE X (.Tuple es k pos) (LE X.K Ξ (aT P (.prim .tup fZ))) :=
 (Nf h).imp λbP H Q bc=>by
  obtain⟨Z,g,ρ,s,R,h⟩:=bc;refine jy hP s R (.refl _ _) h λds g1 bK H1 vs e1 R1 r1 h=>?_;obtain⟨d',g',⟨hz,rfl,rfl⟩,q⟩:=h;exact⟨by rw[<- r1.length];exact m9 (aG hz (by decide)),λp hp=>(q.ext e1).tup R1 hp r1⟩
theorem Tg(h:PA X es (LA X.K Ξ (ft P fZ))):PE X (.List es pos) (LE X.K Ξ (aT P (.prim .lst fZ))) :=
 (M' h).imp λbP H Q bc=>by
  obtain⟨Z,g,ρ,s,R,h⟩:=bc;refine jy hP s R (.refl _ _) h λds g1 bK H1 vs e1 R1 r1 h=>?_;obtain⟨d',g',⟨hz,rfl,rfl⟩,q⟩:=h;exact⟨by rw[<- r1.length];exact m9 (aG hz (by decide)),λp hp=>(q.ext e1).new R1 hp r1⟩
theorem L8:PA X [] (LA X.K Ξ (ft P .nil)) :=
 (R6 (X:=X)).imp λbP H Q bc=>by
  obtain⟨Z,g,ρ,s,R,h⟩:=bc;exact h ρ H [] (.refl _ _) R .nil
theorem C6(ha:PE X a (LE X.K Ξ (aT P ma)))(h:PA X es (LA X.K Ξ (ft P fZ)))(hs:starEach (a::es) X.env=(false,eval a X.env)::starEach es X.env):PA X (a::es) (LA X.K Ξ (ft P (.cons ma fZ))) :=
 (N5 ha h hs).imp λbP H Q bc=>by
  obtain⟨Z,g,ρ,s,R,h⟩:=bc;exact eX hP s R (.refl _ _) h λx g1 bK H1 v1 e1 R1 r1 h=>jy hP (s.ext e1) R1 e1 h λxs g2 eF H2 vs e2 R2 r2 h=>h eF H2 _ (e1.trans e2) R2 (.cons (r1.ext e2) r2)
theorem QH(ha:PE X a (LE X.K Ξ (aT P ma))):PE X (.Subscript a (.Slice none none none p2) pos) (LE X.K Ξ (aT P (.prim (.lH false false) (.cons ma .nil)))) :=
 (zd xY ha Z8 Z8).imp λbP H Q bc=>by
  obtain⟨Z,g,ρ,s,R,h⟩:=bc;refine eX hP s R (.refl _ _) h λx g1 bK H1 v1 e1 R1 r1 h=>?_;obtain⟨d',g',⟨x',ex,h⟩,q⟩:=h;cases ex;exact⟨x,g1,bK,d',g',R1,r1,h,q.ext e1⟩
theorem QJ(ha:PE X a (LE X.K Ξ (aT P ma)))(hb:PE X b (LE X.K Ξ (aT P mb))):PE X (.Subscript a (.Slice (some b) none none p2) pos) (LE X.K Ξ (aT P (.prim (.lH true false) (.cons ma (.cons mb .nil))))) :=
 (zd xY ha (CL hb) Z8).imp λbP H Q bc=>by
  obtain⟨Z,g,ρ,s,R,h⟩:=bc;refine eX hP s R (.refl _ _) h λx g1 bK H1 v1 e1 R1 r1 h=>eX hP (s.ext e1) R1 e1 h λy g2 eF H2 v2 e2 R2 r2 h=>?_;obtain⟨d',g',⟨x',i,ex,h⟩,q⟩:=h;cases ex;exact⟨i,r2.j6,x,g2,eF,d',g',R2,r1.ext e2,h,q.ext (e1.trans e2)⟩
theorem QI(ha:PE X a (LE X.K Ξ (aT P ma)))(hb:PE X b (LE X.K Ξ (aT P mb))):PE X (.Subscript a (.Slice none (some b) none p2) pos) (LE X.K Ξ (aT P (.prim (.lH false true) (.cons ma (.cons mb .nil))))) :=
 (zd xY ha Z8 (CL hb)).imp λbP H Q bc=>by
  obtain⟨Z,g,ρ,s,R,h⟩:=bc;refine eX hP s R (.refl _ _) h λx g1 bK H1 v1 e1 R1 r1 h=>eX hP (s.ext e1) R1 e1 h λy g2 eF H2 v2 e2 R2 r2 h=>?_;obtain⟨d',g',⟨x',i,ex,h⟩,q⟩:=h;cases ex;exact⟨i,r2.j6,x,g2,eF,d',g',R2,r1.ext e2,h,q.ext (e1.trans e2)⟩
theorem Tx(ha:PE X a (LE X.K Ξ (aT P ma)))(he:∀whole,isTrue a X.env whole=(do let v <- whole;standAt a.pos;holding [v] (truthy v))):PT X a (LT X.K Ξ (da P (.gJ ma))) :=
 (Qx ha he).imp λbP H Q bc=>by
  obtain⟨Z,g,ρ,s,R,h⟩:=bc;refine eX hP s R (.refl _ _) h λx g1 bK H1 v1 e1 R1 r1 h=>?_;obtain⟨b,h1,h2⟩:=h;exact⟨b,TV R1 r1 h1,h2 bK H1 e1 R1⟩
theorem Tv(ha:PT X a (LT X.K Ξ (da P ma))):PT X (.UnaryOp .Not a pos) (LT X.K Ξ (da P (.eW ma))) :=
 (Np ha).imp λbP H Q bc=>by
  obtain⟨Z,g,ρ,s,R,h⟩:=bc;exact mT hP s R (.refl _ _) h λt g1 bK H1 e1 R1 h=>h bK H1 e1 R1
theorem TC(ha:PT X a (LT X.K Ξ (da P ma)))(hb:PW X (.BoolOp .And (b::rest) pos) (LT X.K Ξ (da P mb))):PW X (.BoolOp .And (a::b::rest) pos) (LT X.K Ξ (da P (.dX ma mb))) :=
 (SR ha hb).imp λbP H Q bc=>by
  obtain⟨Z,g,ρ,s,R,h⟩:=bc;refine mT hP s R (.refl _ _) h λt g1 bK H1 e1 R1 h=>?_;cases t
  ·exact h bK H1 e1 R1
  ·exact mT hP (s.ext e1) R1 e1 h λt g2 eF H2 e2 R2 h=>h eF H2 (e1.trans e2) R2
theorem Ls(ha:PT X a (LT X.K Ξ (da P ma)))(hb:PW X (.BoolOp .Or (b::rest) pos) (LT X.K Ξ (da P mb))):PW X (.BoolOp .Or (a::b::rest) pos) (LT X.K Ξ (da P (.iU ma mb))) :=
 (Li ha hb).imp λbP H Q bc=>by
  obtain⟨Z,g,ρ,s,R,h⟩:=bc;refine mT hP s R (.refl _ _) h λt g1 bK H1 e1 R1 h=>?_;cases t
  ·exact mT hP (s.ext e1) R1 e1 h λt g2 eF H2 e2 R2 h=>h eF H2 (e1.trans e2) R2
  ·exact h bK H1 e1 R1
theorem Pn:jW X [] (LT X.K Ξ (da P .no)) :=
 (OP (X:=X)).imp λbP H Q bc=>by
  obtain⟨Z,g,ρ,s,R,h⟩:=bc;exact h ρ H (.refl _ _) R
theorem Tb{x:Str}{v:Value}(hv:(∃id,v=.builtin id)\/∃T,v=.type T)(hc:i8 X v (rN X.K p))(hg:Gl X x)(hm:X.mg x=none)(hb:bootBuiltins x=some v)(ha:PA X (e::es) (LA X.K Ξ (ft P fZ)))(hn:x≠"__name__")(hd:(x==("__debug__":Str))=false)(dR:starEach (e::es) X.env=(false,eval e X.env)::starEach es X.env)(gx:(backTo pos (starEach es X.env)).any (·.1)=false):PE X (.Call (.Name x q) (e::es) [] pos) (LE X.K Ξ (aT P (.prim p fZ))):=by
 have base:PE X (.Call (.Name x q) (e::es) [] pos) (vQ (rN X.K p) (LA X.K Ξ (ft P fZ))):=by
  rcases hv with⟨id,rfl⟩|⟨T,rfl⟩
  ·exact U4 hc hg hm hb ha hn hd dR gx
  ·exact L9 hc hg hm hb ha hn hd dR gx
 refine base.imp λbP H Q bc=>?_;obtain⟨Z,g,ρ,s,R,h⟩:=bc;exact jy hP s R (.refl _ _) h λxs g1 bK H1 vs e1 R1 r1 h=>⟨xs,g1,bK,R1,r1,p7 (λd g' h=>h.ext e1) h⟩
theorem OZ{o:Expr}{mo:ME}{T:String}{name:Str}{id:String}{apos:Pos}(pa:PlainAttrs T)(slot:Slot T name id)(iK:typeOf (.builtin id)=pure (.type "method_descriptor"))(hm:mO X id (rM X.K p))(hk:∀{d:D} {v:V} {g:G} {ρ:List Addr} {H:Hp},Rl X.K ρ g H->d5 X.K ρ H d v->lJ p d g->mj X.K T v H)(ho:PE X o (LE X.K Ξ (aT P mo)))(ha:PA X (e::es) (LA X.K Ξ (ft P fZ)))(ik:attributeBase o name X.env (eval o X.env)=eval o X.env)(oH:((backTo pos (starEach (e::es) X.env)).all (λx=>!x.1)&&(backToKw pos (keywordEach [] X.env)).all (λx=>x.1.isSome)&&decide ((e::es).length+([]:List Keyword).length+(if([]:List Keyword).isEmpty then 0 else 1)<30))=true)(ij:(apos.endLine==pos.line)=true)(hs:starEach (e::es) X.env=(false,eval e X.env)::starEach es X.env)(fL:(backTo pos (starEach es X.env)).any (·.1)=false) :
  PE X (.Call (.Attribute o name apos) (e::es) [] pos) (LE X.K Ξ (aT P (.eG p mo fZ))) :=
 (Lc pa slot iK hm ho ha ik oH ij hs fL).imp λbP H Q bc=>by
  obtain⟨Z,g,ρ,s,R,h⟩:=bc;exact eX hP s R (.refl _ _) h λx g1 bK H1 v1 e1 R1 r1 h=>⟨hk R1 r1 h.1,jy hP (s.ext e1) R1 e1 h.2 λxs g2 eF H2 ws e2 R2 r2 h =>
   ⟨x,xs,g2,eF,R2,r1.ext e2,r2,p7 (λd g' h=>h.ext (e1.trans e2)) h⟩⟩
theorem QF{o:Expr}{mo:ME}{T:String}{name:Str}{id:String}{apos:Pos}(pa:PlainAttrs T)(slot:Slot T name id)(iK:typeOf (.builtin id)=pure (.type "method_descriptor"))(hm:mO X id (rM X.K p))(hk:∀{d:D} {v:V} {g:G} {ρ:List Addr} {H:Hp},Rl X.K ρ g H->d5 X.K ρ H d v->lJ p d g->mj X.K T v H)(ho:PE X o (LE X.K Ξ (aT P mo)))(ik:attributeBase o name X.env (eval o X.env)=eval o X.env)(ij:(apos.endLine==pos.line)=true) :
  PE X (.Call (.Attribute o name apos) [] [] pos) (LE X.K Ξ (aT P (.eG p mo .nil))) :=
 (MX pa slot iK hm ho ik ij).imp λbP H Q bc=>by
  obtain⟨Z,g,ρ,s,R,h⟩:=bc;exact eX hP s R (.refl _ _) h λx g1 bK H1 v1 e1 R1 r1 h=>⟨hk R1 r1 h.1,x,[],g1,bK,R1,r1,.nil,p7 (λd g' h=>h.ext e1) h.2⟩
theorem QC(hc:X.calm=true)(ha:PE X a (LE X.K Ξ (aT P ma)))(kY:Gl X "list")(mD:X.mg "list"=none)(hg:Gl X "range")(hm:X.mg "range"=none)(hs:starEach [a] X.env=[(false,eval a X.env)]) :
  PE X (.Call (.Name "list" p2) [.Call (.Name "range" q) [a] [] pos] [] iT) (LE X.K Ξ (aT P (.prim .iH (.cons ma .nil)))) :=
 (L9 (W6 hc) kY mD (by first|exact eJ|decide +kernel) (N5 (RS hg hm (C6 hP ha (L8 hP) (by rw[hs];rfl)) hs) R6)).imp λbP H Q bc=>by
  obtain⟨Z,g,ρ,s,R,h⟩:=bc;refine jy hP s R (.refl _ _) h λxs g1 bK H1 vs e1 R1 r1 h=>?_;obtain⟨d',g',⟨j,rfl,h1,h2,rfl,rfl⟩,q⟩:=h;obtain⟨v,rfl,rv⟩:=r1.one;obtain rfl:=rv.j6;refine⟨j,rfl,λq' hq=>⟨q',0,j,rfl,n9,⟨by omega,by omega,h1,by omega,by omega⟩,λp hp=>?_⟩⟩;rw[show(j-0).toNat=j.toNat by omega];exact(q.ext (e1.trans (w9 hq))).new (R1.grow hq) hp (b7.kq 0 _)
theorem QD(hc:X.calm=true)(ha:PE X a (LE X.K Ξ (aT P ma)))(hb:PE X b (LE X.K Ξ (aT P mb)))(kY:Gl X "list")(mD:X.mg "list"=none)(hg:Gl X "range")(hm:X.mg "range"=none)(hs:starEach [a,b] X.env=[(false,eval a X.env),(false,eval b X.env)])(iw:starEach [b] X.env=[(false,eval b X.env)]) :
  PE X (.Call (.Name "list" p2) [.Call (.Name "range" q) [a,b] [] pos] [] iT) (LE X.K Ξ (aT P (.prim .jq (.cons ma (.cons mb .nil))))) :=
 (L9 (W6 hc) kY mD (by first|exact eJ|decide +kernel) (N5 (RT hg hm (C6 hP ha (C6 hP hb (L8 hP) (by rw[iw];rfl)) (by rw[hs,iw])) hs iw) R6)).imp λbP H Q bc=>by
  obtain⟨Z,g,ρ,s,R,h⟩:=bc;refine jy hP s R (.refl _ _) h λxs g1 bK H1 vs e1 R1 r1 h=>?_;obtain⟨d',g',⟨i,j,rfl,hb,rfl,rfl⟩,q⟩:=h;obtain⟨v,w,rfl,rv,fg⟩:=r1.two;obtain rfl:=rv.j6;obtain rfl:=fg.j6;exact⟨i,j,rfl,λq' hq=>⟨q',i,j,rfl,n9,hb,λp hp=>(q.ext (e1.trans (w9 hq))).new (R1.grow hq) hp (b7.kq i _)⟩⟩
theorem Pa(hc:X.calm=true)(ha:PE X a (LE X.K Ξ (aT P ma)))(kY:Gl X "sorted")(mD:X.mg "sorted"=none)(hg:Gl X "set")(hm:X.mg "set"=none)(hs:starEach [a] X.env=[(false,eval a X.env)]) :
  PE X (.Call (.Name "sorted" p2) [.Call (.Name "set" q) [a] [] pos] [] iT) (LE X.K Ξ (aT P (.prim .sset (.cons ma .nil)))) :=
 (U4 (Q1 hc) kY mD (by first|exact fU|decide +kernel) (N5 (L9 (Y9 hc) hg hm (by first|exact gX|decide +kernel) (C6 hP ha (L8 hP) (by rw[hs];rfl)) (by decide) (by decide) (by rw[hs];rfl) rfl) R6)).imp λbP H Q bc=>by
  obtain⟨Z,g,ρ,s,R,h⟩:=bc;refine jy hP s R (.refl _ _) h λxs g1 bK H1 vs e1 R1 r1 h=>?_;obtain⟨d',g',⟨i,ns,rfl,hl,hz,rfl,rfl⟩,q⟩:=h;obtain⟨v,rfl,rv⟩:=r1.one;obtain⟨a',rfl,ra⟩:=rv.i7;obtain⟨ws,hq,rs⟩:=R1.items hl ra;obtain rfl:=rs.ints;refine⟨_,ns,rfl,hq,hz,λq' kW=>⟨q',ns,rfl,n9,hz,λp hp=>?_⟩⟩;exact(q.ext (e1.trans (w9 kW))).new (R1.grow kW) hp (b7.ofInts _)
theorem OX(hc:X.calm=true)(ha:PE X a (LE X.K Ξ (aT P ma)))(kY:Gl X "len")(mD:X.mg "len"=none)(hg:Gl X "set")(hm:X.mg "set"=none)(hs:starEach [a] X.env=[(false,eval a X.env)]) :
  PE X (.Call (.Name "len" p2) [.Call (.Name "set" q) [a] [] pos] [] iT) (LE X.K Ξ (aT P (.prim .Y2 (.cons ma .nil)))) :=
 (U4 Ol kY mD PySem.boot_len (N5 (L9 (Y9 hc) hg hm (by first|exact gX|decide +kernel) (C6 hP ha (L8 hP) (by rw[hs];rfl)) (by decide) (by decide) (by rw[hs];rfl) rfl) R6)).imp λbP H Q bc=>by
  obtain⟨Z,g,ρ,s,R,h⟩:=bc;refine jy hP s R (.refl _ _) h λxs g1 bK H1 vs e1 R1 r1 h=>?_;obtain⟨d',g',⟨i,ns,rfl,hl,hz,rfl,rfl⟩,q⟩:=h;obtain⟨v,rfl,rv⟩:=r1.one;obtain⟨a',rfl,ra⟩:=rv.i7;obtain⟨ws,hq,rs⟩:=R1.items hl ra;obtain rfl:=rs.ints;refine⟨_,ns,rfl,hq,by omega,λq' kW=>⟨q',_,rfl,n9,?_⟩⟩;exact(q.ext (e1.trans (w9 kW))).now (R1.grow kW) (.int _)
theorem Td{f:Str}(ha:PE X a (LE X.K Ξ (aT P ma)))(hb:attributeBase a f X.env (eval a X.env)=eval a X.env):PE X (.Attribute a f pos) (LE X.K Ξ (aT P (.prim (.fld f) (.cons ma .nil)))) :=
 (MY ha hb).imp λbP H Q bc=>by
  obtain⟨Z,g,ρ,s,R,h⟩:=bc;refine eX hP s R (.refl _ _) h λx g1 bK H1 v1 e1 R1 r1 h=>?_;obtain⟨d',g',⟨i,c,fs,ex,hi,hf,rfl⟩,q⟩:=h;cases ex;obtain⟨a',rfl,ra⟩:=r1.i7;obtain⟨C,dx,vs,hH,_,hC,rk,na⟩:=R1.ins hi ra;have lk:=rk.look f;rw[hf] at lk;obtain⟨v,hv,rv⟩:=lk.some;exact⟨a',C,dx,vs,v,rfl,hH,hC,na _ (aI hf),hv,q bK H1 v e1 R1 rv⟩
end
section
variable{X:Cx}{pos:Pos}
theorem Tj{i:Nat}{x:Str}(hN:X.N[i]?=some x)(hv:vo X.env.scope x)(hd:(x==("__debug__":Str))=false)(ke:(x==("__classdict__":Str))=false):PE X (.Name x pos) (LE X.K Ξ (aT P (.var i))) :=
 (Ng hN hv hd ke).imp λbP H Q bc=>by
  obtain⟨Z,g,ρ,s,R,h⟩:=bc;obtain⟨d,e,h⟩:=h;obtain⟨v,h1,h2⟩:=s.val _ _ e;exact⟨v,h1,h.now R h2⟩
theorem R0{e:Expr}{d:D}{v:V}(h:PE X e (tC v))(r:∀ρ H,d5 X.K ρ H d v):PE X e (LE X.K Ξ (aT P (.lit d))) :=
 h.imp λbP H Q bc=>by
  obtain⟨Z,g,ρ,s,R,h⟩:=bc;exact LQ.now h R (r ρ H)
theorem OV:PE X (.Dict [] [] pos) (LE X.K Ξ (aT P (.prim .Y6 .nil))) :=
 (Ql (X:=X)).imp λbP H Q ⟨Z,g,ρ,s,R,h⟩ p hp=>by
  obtain⟨d',g',⟨_,rfl,rfl⟩,q⟩:=h;exact q (ρ++[p]) _ _ (B7 hp) (R.new hp (o:=.cL []) (u:=.dK []) i0.nil) (.ref (R.t6 p))
end
end M
namespace L2
open PySem PySem.Spec PyProof.Rows
end L2
namespace M
open PySem L2 PySem.Spec PyProof.Rows
variable{K:PySem.W.Frag}{H H0:Hp}{neg:Bool}{a fa C:Addr}{x:Str}{p:Pos}{kvs xs:List D}{k f:Nat}{fd:FuncData}{ps:List Str}{fE:List Addr}{vs:List V}
inductive Z3(K:PySem.W.Frag):List D->List (Str×V)->Prop
 |nil:Z3 K [] []
 |cons {x:Str} {d:D} {v:V} {ds:List D} {vs:List (Str×V)} (h:∀ρ H,d5 K ρ H d v) (r:Z3 K ds vs):Z3 K (.tup [.str x,d]::ds) ((x,v)::vs)
theorem Z3.look{ρ:List Addr}{ds vs}(x:Str)(h:Z3 K ds vs):V8 K ρ H (L1 ds x) (vs.lookup x):=by
 induction h with
 |nil=>trivial
 |cons h r ih =>
  rename_i y d v ds vs;unfold L1;rw[cq];by_cases e:x=y
  ·rw[aN e,show(x==y)=true from by simp[e]];exact h ρ H
  ·rw[aH e,show(x==y)=false from by simpa using e];exact ih
def uG(X:Cx)(x:Str)(kvs:List D):Prop:=∃A vs,X.mg x=some (.ref A)/\tm X.K X.w.params A vs/\Z3 X.K kvs vs
def uM(neg:Bool):Pr:=if neg then .sG else .BD
theorem CA:PR (uM neg)=zt neg:=by cases neg<;>rfl
theorem Si(a b c:Str):a++b++c=a++(b++c):=by
 cases a;cases b;cases c;show Str.mk _=Str.mk _;exact eZ Str.mk (FO ..)
theorem Pm(x:Str):x++Str.empty=x:=by cases x;show Str.mk _=_;simp[Str.empty]
section
variable{X:Cx}{Ξ:gE}{P:eR}(hP:j4 P){a c:Expr}{ma:ME}{pos:Pos}
include hP
theorem Te(hg:Gl X x)(hd:(x==("__debug__":Str))=false)(hG:uG X x kvs)(ha:PE X a (LE X.K Ξ (aT P ma)))(hm:behindInMarks (if neg then .NotIn else .In) (.Name x p)=false) :
  PE X (.Compare a [if neg then .NotIn else .In] [.Name x p] pos) (LE X.K Ξ (aT P (.prim (uM neg) (.cons (.lit (.tup kvs)) (.cons ma .nil))))):=by
 obtain⟨A,vs,hmg,hk,gr⟩:=hG;refine(CI (Fd (kvs:=vs) neg) ha (Z9 (v:=.ref A) hg hmg rfl hd) hm).imp λbP H Q bc=>?_;obtain⟨Z,g,ρ,s,R,h⟩:=bc;refine eX hP s R (.refl _ _) h λd g1 bK H1 v1 e1 R1 r1 h=>?_;obtain⟨d',g',h,q⟩:=h;rw[CA] at h;obtain⟨ic,z,ex,rfl,rfl⟩:=h;cases ex;obtain rfl:=r1.C9;refine⟨A,z,rfl,hk,rfl,?_⟩;rw[<- (gr.look (ρ:=bK) (H:=H1) z).isSome];exact q bK H1 _ e1 R1 (.bl _)
theorem Tu(hg:Gl X x)(hd:(x==("__debug__":Str))=false)(hG:uG X x kvs)(ha:PE X a (LE X.K Ξ (aT P ma)))(hm:behindInMarks (if neg then .NotIn else .In) (.Name x p)=false) :
  PT X (.Compare a [if neg then .NotIn else .In] [.Name x p] pos) (LT X.K Ξ (da P (.gJ (.prim (uM neg) (.cons (.lit (.tup kvs)) (.cons ma .nil)))))):=by
 obtain⟨A,vs,hmg,hk,gr⟩:=hG;refine(CM (Fd (kvs:=vs) neg) ha (Z9 (v:=.ref A) hg hmg rfl hd) hm).imp λbP H Q bc=>?_;obtain⟨Z,g,ρ,s,R,h⟩:=bc;refine eX hP s R (.refl _ _) h λd g1 bK H1 v1 e1 R1 r1 h=>?_;obtain⟨d',g',h,t,ht,q⟩:=h;rw[CA] at h;obtain⟨ic,z,ex,rfl,rfl⟩:=h;cases ex;obtain rfl:=r1.C9;refine⟨A,z,rfl,hk,rfl,t,?_,q bK H1 e1 R1⟩;rw[<- (gr.look (ρ:=bK) (H:=H1) z).isSome];rcases ht with⟨z,_⟩|z|⟨i,z,_⟩|⟨l,z,_⟩|⟨a,l,z,_⟩<;>cases z
 rfl
theorem OW(hg:Gl X x)(hd:(x==("__debug__":Str))=false)(hG:uG X x kvs)(ha:PE X a (LE X.K Ξ (aT P ma)))(hs:yG a):PE X (.Subscript (.Name x p) a pos) (LE X.K Ξ (aT P (.prim .lB (.cons (.lit (.tup kvs)) (.cons ma .nil))))):=by
 obtain⟨A,vs,hmg,hk,gr⟩:=hG;refine(EG (Ky (kvs:=vs)) (Z9 (v:=.ref A) hg hmg rfl hd) ha hs).imp λbP H Q bc=>?_;obtain⟨Z,g,ρ,s,R,h⟩:=bc;refine eX hP s R (.refl _ _) h λd g1 bK H1 v1 e1 R1 r1 h=>?_;obtain⟨d',g',⟨ic,z,ex,hz,rfl⟩,q⟩:=h;cases ex;obtain rfl:=r1.C9;have lk:=gr.look (ρ:=bK) (H:=H1) z;rw[hz] at lk;obtain⟨w,hw,lk⟩:=lk.some;exact⟨A,z,w,rfl,hk,rfl,hw,q bK H1 _ e1 R1 lk⟩
omit hP in
inductive pE(X:Cx)(Ξ:gE)(P:eR):List Expr->ME->List TE->Prop
 |nil:pE X Ξ P [] .nil []
 |lit {x:Str} {j:Nat} {p:Pos} {es:List Expr} {ms:ME} {ts:List TE} (hx:x.length<=2000) (r:pE X Ξ P es ms ts):pE X Ξ P (.Constant (.str x) j p::es) (.cons (.lit (.str x)) ms) (LE X.K Ξ (aT P (.lit (.str x)))::ts)
 |val {e:Expr} {m:ME} {p:Pos} {es:List Expr} {ms:ME} {ts:List TE} (he:PE X e (LE X.K Ξ (aT P m))) (r:pE X Ξ P es ms ts):pE X Ξ P (.FormattedValue e (-1) none p::es) (.cons (.prim .fv (.cons m .nil)) ms) (LE X.K Ξ (aT P (.prim .fv (.cons m .nil)))::ts)
theorem pE.join{bP:L2.St}{Q:Str->Hp->Prop}{es ms ts}(hf:pE X Ξ P es ms ts):∀{Z:S} {g:G} {ρ:List Addr} {H:Hp} {acc:Str},acc.length+2000*es.length<=100000->m5 X.K ρ H Z bP->Rl X.K ρ g H ->
  ft P ms Z g (λds g1=>∃x,V0 ds=some x/\∀bz H',Ext ρ H bz H'->Rl X.K bz g1 H'->Q (acc++x) H') (LX X.K ρ H Ξ)->EO ts bP H acc (λout H1=>out.length<=sizeLine/\Q out H1):=by
 have tl:∀{acc y:Str} {ρ:List Addr} {H:Hp} {bK:List Addr} {H1:Hp} {ds:List D} {g1:G},Ext ρ H bK H1->(∃x,V0 (.str y::ds)=some x/\∀bz H',Ext ρ H bz H'->Rl X.K bz g1 H'->Q (acc++x) H')->∃x,V0 ds=some x/\∀bz H',Ext bK H1 bz H'->Rl X.K bz g1 H'->Q (acc++y++x) H':=by
  intro acc y ρ H bK H1 ds g1 e1 h;obtain⟨x,hx,h⟩:=h;simp only[V0] at hx;cases hj:V0 ds with
  |none=>rw[hj] at hx;cases hx
  |some x' =>
   rw[hj] at hx;cases hx;refine⟨x',rfl,λbz H' e' R'=>?_⟩;rw[Si];exact h bz H' (e1.trans e') R'
 induction hf with
 |nil =>
  intro Z g ρ H acc ha s R h;obtain⟨x,hx,h⟩:=h;cases hx;rw[Pm] at h;exact⟨m9 (by simpa using ha),h ρ H (.refl _ _) R⟩
 |lit hx r ih =>
  rename_i y j p es ms ts;intro Z g ρ H acc ha s R h;refine⟨Z,g,ρ,s,R,?_⟩;intro bK H1 v1 e1 R1 r1;obtain rfl:=r1.C9;have hl:(acc++y).length<=acc.length+2000:=by rw[strLen_append];omega
  simp only[List.length_cons] at ha;exact⟨y,rfl,m9 (by omega),ih (by omega) (s.ext e1) R1 (u7 hP _ _ _ _ _ _ _ (λds g1 h=>tl e1 h) (λ_ _ z=>LX.ext e1 z) h)⟩
 |val he r ih =>
  rename_i e m p es ms ts;intro Z g ρ H acc ha s R h;refine⟨Z,g,ρ,s,R,?_⟩;simp only[List.length_cons] at ha;refine b8 hP m _ _ _ _ _ _ (λd g1 h=>?_) (λ_ _ z=>z) h;obtain⟨d',g',⟨rfl,h⟩,q⟩:=h;have hy:∃y,d'=.str y/\y.length<=2000:=by
   rcases h with⟨i,ex,h1,rfl⟩|⟨z,ex,h1,rfl⟩
   ·exact⟨_,rfl,by rw[PySem.ofString_length];have:=int_text_length_le (k:=1920) (by decide) h1;omega⟩
   ·exact⟨z,rfl,h1⟩
  obtain⟨y,rfl,hy⟩:=hy;refine⟨_,_,⟨rfl,h⟩,λbK H1 v1 e1 R1 r1=>?_⟩;obtain rfl:=r1.C9;have hl:(acc++y).length<=acc.length+2000:=by rw[strLen_append];omega
  exact⟨y,rfl,m9 (by omega),ih (by omega) (s.ext e1) R1 (u7 hP _ _ _ _ _ _ _ (λds g1 h=>tl e1 h) (λ_ _ z=>LX.ext e1 z) q)⟩
omit hP in
def mW(ex:List Str)(K:PySem.W.Frag)(n:Nat)(t:List D->G->KD->KX->Prop):Sp:=λvs H Q E=>vs.length=n/\∃ds g ρ,b7 K ρ H ds vs/\Rl K ρ g H/\t ds g (LQ K ρ H Q) (LX K ρ H (ex,E))
omit hP in
def mP(X:Cx)(P:eR)(ex:List Str)(k f:Nat)(fa:Addr)(fd:FuncData)(ps:List Str):Prop :=
 gy X.prog X.w X.K X.mg X.base (iy X.prog X.w) k fa fd ps (mW ex X.K ps.length (P f))/\Binds X.K fd ps []/\∀ds g Q E,P f ds g Q E->ds.length=ps.length
theorem xZ{k:Nat}(F:mP X P Ξ.1 k f fa fd ps){ρ:List Addr}{g:G}{Q0:KD}{Q:VK}(e0:Ext fE H0 ρ H)(R:Rl X.K ρ g H)(r:b7 X.K ρ H xs vs)(h:P f xs g Q0 (LX X.K fE H0 Ξ))(k:∀d g',Q0 d g'->LQ X.K ρ H Q d g'):mW Ξ.1 X.K ps.length (P f) (vs++[]) H Q Ξ.2:=by
 rw[cO];exact⟨by rw[<- r.length];exact F.2.2 _ _ _ _ h,xs,g,ρ,r,R,hP _ _ _ _ _ _ _ k (λ_ _ z=>LX.ext e0 z) h⟩
theorem OU{es:List Expr}{e:Expr}{fZ:ME}(hx:Passes (iy X.prog X.w) X Ξ.2)(F:mP X P Ξ.1 k f fa fd ps)(hr:q8 k X.A)(hg:Gl X x)(hm:X.mg x=some (.ref fa))(hk:PySem.W.keepIn X.K (.ref fa)=true)(ha:PA X (e::es) (LA X.K Ξ (ft P fZ)))(hd:(x==("__debug__":Str))=false)(dR:starEach (e::es) X.env=(false,eval e X.env)::starEach es X.env)(gx:(backTo pos (starEach es X.env)).any (·.1)=false):PE X (.Call (.Name x p) (e::es) [] pos) (LE X.K Ξ (aT P (.call f fZ))) :=
 (UU F.1 hr hg hm hk F.2.1 .nil hx ha hd dR gx).imp λbP H Q bc=>by
  obtain⟨Z,g,ρ,s,R,h⟩:=bc;exact jy hP s R (.refl _ _) h λxs g1 bK H1 vs e1 R1 r1 h=>xZ hP F e1 R1 r1 h λd g' h=>h.ext e1
theorem QA(hx:Passes (iy X.prog X.w) X Ξ.2)(F:mP X P Ξ.1 k f fa fd ps)(hr:q8 k X.A)(hg:Gl X x)(hm:X.mg x=some (.ref fa))(hk:PySem.W.keepIn X.K (.ref fa)=true)(hd:(x==("__debug__":Str))=false):PE X (.Call (.Name x p) [] [] pos) (LE X.K Ξ (aT P (.call f .nil))) :=
 (Qj F.1 hr hg hm hk F.2.1 .nil hx hd).imp λbP H Q bc=>by
  obtain⟨Z,g,ρ,s,R,h⟩:=bc;exact xZ hP F (.refl _ _) R .nil h λd g' h=>h
theorem CD{c:Str}(F:mP X P Ξ.1 k f fa fd ps)(hC:p8 X.K c C)(hc:jg X.K C){ρ:List Addr}{g1:G}{Q:VK}(e0:Ext fE H0 ρ H)(R:Rl X.K ρ g1 H)(r:b7 X.K ρ H xs vs)(h:P f (.ref g1.length::xs) (g1++[.ins c []]) (λd g2=>d=.bV/\LQ X.K fE H0 Q (.ref g1.length) g2) (LX X.K fE H0 Ξ)):∀x dx,H x=none->H dx=none->dx≠x->mW Ξ.1 X.K ps.length (P f) (.ref x::(vs++[])) (upd (upd H dx (.own x)) x (.ins C dx [])) (λv H2=>v=.bV/\Q (.ref x) H2) Ξ.2:=by
 intro x dx hx Bw dI;have Bf:upd H dx (.own x) x=none:=by rw[d8 (bU dI)];exact hx
 have R2:=R.grow (o:=.own x) Bw;have e2:Ext ρ H ρ (upd H dx (.own x)):=w9 Bw;have R3:=R2.new (o:=.ins c []) (u:=.ins C dx []) Bf ⟨hC,hc,.nil,λx hx=>absurd hx (by simp)⟩;have e3:Ext ρ (upd H dx (.own x)) (ρ++[x]) (upd (upd H dx (.own x)) x (.ins C dx [])):=B7 Bf;have:=xZ hP F (e0.trans (e2.trans e3)) R3 (.cons (.ref (R.t6 x)) (r.ext (e2.trans e3))) h (Q:=λv H2=>v=.bV/\Q (.ref x) H2) λd g' q bz H' v e' R' r'=>by
  obtain⟨rfl,q⟩:=q;exact⟨r'.uT,q bz H' _ (e0.trans (e2.trans (e3.trans e'))) R' (.ref (e'.get (R.t6 x)))⟩
 exact this
theorem OY{es:List Expr}{e:Expr}{fZ:ME}(hx:Passes (iy X.prog X.w) X Ξ.2)(F:mP X P Ξ.1 k f fa fd ps)(M:Mk X.K C fa)(hC:p8 X.K x C)(hc:jg X.K C)(hr:q8 (k+1) X.A)(hg:Gl X x)(hm:X.mg x=some (.ref C))(ha:PA X (e::es) (LA X.K Ξ (ft P fZ)))(hd:(x==("__debug__":Str))=false)(dR:starEach (e::es) X.env=(false,eval e X.env)::starEach es X.env)(gx:(backTo pos (starEach es X.env)).any (·.1)=false):PE X (.Call (.Name x p) (e::es) [] pos) (LE X.K Ξ (aT P (.make x f fZ))) :=
 (UX M F.1 hr hg hm F.2.1 .nil hx ha hd dR gx).imp λbP H Q bc=>by
  obtain⟨Z,g,ρ,s,R,h⟩:=bc;exact jy hP s R (.refl _ _) h λxs g1 bK H1 vs e1 R1 r1 h=>CD hP F hC hc e1 R1 r1 h
theorem QE(hx:Passes (iy X.prog X.w) X Ξ.2)(F:mP X P Ξ.1 k f fa fd ps)(M:Mk X.K C fa)(hC:p8 X.K x C)(hc:jg X.K C)(hr:q8 (k+1) X.A)(hg:Gl X x)(hm:X.mg x=some (.ref C))(hd:(x==("__debug__":Str))=false):PE X (.Call (.Name x p) [] [] pos) (LE X.K Ξ (aT P (.make x f .nil))) :=
 (Qn M F.1 hr hg hm F.2.1 .nil hx hd).imp λbP H Q bc=>by
  obtain⟨Z,g,ρ,s,R,h⟩:=bc;exact CD hP F hC hc (.refl _ _) R .nil h
end
inductive jv(K:PySem.W.Frag)(ρ:List Addr)(H:Hp):List D->List (V×V)->Prop
 |nil:jv K ρ H [] []
 |cons {k d:D} {x y:V} {ds:List D} {ps:List (V×V)} (h1:d5 K ρ H k x) (h2:d5 K ρ H d y) (r:jv K ρ H ds ps):jv K ρ H (k::d::ds) ((x,y)::ps)
theorem Mf{K ρ H}{ps:List (V×V)}(r:jv K ρ H xs ps):∀{acc kvs:List (Key×D)} {accV:List (Key×V)},qi xs acc=some kvs->i0 K ρ H acc accV->∃more:List (Key×V),ps=more.map (λkv=>(kV kv.1,kv.2))/\2*more.length=xs.length/\i0 K ρ H kvs (O5 accV more):=by
 induction r with
 |nil =>
  intro acc kvs accV h ra;cases h;exact⟨[],rfl,rfl,ra⟩
 |cons h1 h2 r ih =>
  rename_i k d x y ds ps;intro acc kvs accV h ra;simp only[qi] at h;cases hk:O8 k with
  |none=>rw[hk] at h;cases h
  |some c =>
   rw[hk] at h;obtain⟨more,e1,e2,r2⟩:=ih (show qi ds (putD acc c d)=some kvs from h) (ra.put h2);have ex:=N8 hk h1;subst ex;refine⟨(c,y)::more,by rw[aV,<- e1],by simp only[List.length_cons];omega,r2⟩
section
variable{X:Cx}{Ξ:gE}{P:eR}(hP:j4 P){pos:Pos}
inductive ky(X:Cx)(Ξ:gE)(P:eR):List (Option Expr)->List Expr->ME->List (TE×TE)->Prop
 |nil:ky X Ξ P [] [] .nil []
 |cons {k v:Expr} {ks:List (Option Expr)} {vs:List Expr} {mk mv ms:ME} {gA:List (TE×TE)} (hk:PE X k (LE X.K Ξ (aT P mk))) (hv:PE X v (LE X.K Ξ (aT P mv))) (r:ky X Ξ P ks vs ms gA) :
   ky X Ξ P (some k::ks) (v::vs) (.cons mk (.cons mv ms)) ((LE X.K Ξ (aT P mk),LE X.K Ξ (aT P mv))::gA)
theorem ky.Gn{ks vs ms gA}(h:ky X Ξ P ks vs ms gA):tE X pos ks vs gA:=by
 induction h with
 |nil=>exact OK
 |cons hk hv r ih=>exact Qs hk hv ih
theorem ky.len{ks vs ms gA}(h:ky X Ξ P ks vs ms gA):ks.all (·.isSome)=true/\ks.length=vs.length:=by
 induction h with
 |nil=>exact⟨rfl,rfl⟩
 |cons hk hv r ih=>exact⟨by simpa using ih.1,by simp[ih.2]⟩
include hP
theorem ky.pairs{ks vs ms gA}(hd:ky X Ξ P ks vs ms gA):∀{bP:L2.St} {Z:S} {g:G} {ρ fE:List Addr} {H H0:Hp} {Qd:List D->G->Prop} {Q:List (V×V)->Hp->Prop},m5 X.K ρ H Z bP->Rl X.K ρ g H->Ext fE H0 ρ H->ft P ms Z g Qd (LX X.K fE H0 Ξ) ->
  (∀ds g' bz H' ps,Ext ρ H bz H'->Rl X.K bz g' H'->jv X.K bz H' ds ps->Qd ds g'->Q ps H')->uV gA bP H Q:=by
 induction hd with
 |nil =>
  intro bP Z g ρ fE H H0 Qd Q s R e0 h k;exact k [] g ρ H [] (.refl _ _) R .nil h
 |cons hk hv r ih =>
  intro bP Z g ρ fE H H0 Qd Q s R e0 h k;refine eX hP s R e0 h λx g1 bK H1 v1 e1 R1 r1 h=>eX hP (s.ext e1) R1 (e0.trans e1) h λy g2 eF H2 v2 e2 R2 r2 h=>?_;refine ih (s.ext (e1.trans e2)) R2 (e0.trans (e1.trans e2)) h λds g' bz H' ps e' R' rp hq=>?_;exact k _ g' bz H' _ (e1.trans (e2.trans e')) R' (.cons (r1.ext (e2.trans e')) (r2.ext e') rp) hq
theorem Tc{ks:List (Option Expr)}{vs:List Expr}{ms:ME}{gA:List (TE×TE)}(hd:ky X Ξ P ks vs ms gA)(h0:ks≠[])(xu:ks.length<=15):PE X (.Dict ks vs pos) (LE X.K Ξ (aT P (.lW ms))) :=
 (UW hd.Gn hd.len.1 hd.len.2 h0 xu).imp λbP H Q ⟨Z,g,ρ,s,R,h⟩ p hp=>by
  have e1:Ext ρ H (ρ++[p]) (upd H p (.dK [])):=B7 hp;refine ky.pairs hP hd (s.ext e1) (R.new hp (o:=.cL []) (u:=.dK []) i0.nil) e1 h λds g2 eF H2 ps e2 R2 rp hq=>?_;obtain⟨kvs,hk,hz,hg,q⟩:=hq;have rS:eF[g.length]?=some p:=e2.get (R.t6 p);obtain⟨Vl,hv,rv⟩:=R2.cL hg rS;cases rv;obtain⟨more,em,hl,rk⟩:=Mf rp hk (accV:=[]) .nil;refine⟨hv,more,em,by omega,?_⟩;obtain⟨R3,e3⟩:=R2.put (o':=.cL kvs) (u:=.dK (O5 [] more)) hg rfl rS rk;exact q eF _ _ (e1.trans (e2.trans e3)) R3 (.ref rS)
end
theorem KG{l:List D}(ht:TupAt K H0 a vs)(rs:b7 K fE H0 l vs):Z2 K fE H0 (.fix l) (zR K a):=by
 intro ρ g H e R i;have oB:=ht.ext e;have Aw:=rs.ext e;refine⟨λh=>⟨vs,oB.sq,?_⟩,λd h=>?_⟩
 ·simp only[IK.at] at h;have:=dM.mp (aE h);rw[<- Aw.length];exact this
 ·simp only[IK.at] at h;obtain⟨v,hv,rv⟩:=Aw.get (aE h);refine⟨⟨vs,v,oB.sq,hv⟩,λw H' y=>?_⟩;obtain⟨rfl,y⟩:=y;have:=y vs oB.sq;rw[hv] at this;cases this;exact⟨.refl _ _,R,rv⟩
theorem KC{j:Nat}(ha:fE[j]?=some a):Z2 K fE H0 (.lst j) (zS K a):=by
 intro ρ g H e R i;have lq:=e.get ha;refine⟨λh=>?_,λd h=>?_⟩
 ·simp only[IK.at] at h;cases el:c6 g j with
  |none=>rw[el] at h;cases h
  |some l =>
   rw[el] at h;obtain⟨vs,hq,rs⟩:=R.items el lq;refine⟨vs,hq,?_⟩;have:=dM.mp (aE h);rw[<- rs.length];exact this
 ·simp only[IK.at] at h;cases el:c6 g j with
  |none=>rw[el] at h;cases h
  |some l =>
   rw[el] at h;obtain⟨vs,hq,rs⟩:=R.items el lq;obtain⟨v,hv,rv⟩:=rs.get (aE h);refine⟨⟨vs,v,hq,hv⟩,λw H' y=>?_⟩;obtain⟨rfl,y⟩:=y;have:=y vs hq;rw[hv] at this;cases this;exact⟨.refl _ _,R,rv⟩
theorem EC{lo:Int}{n:Nat}:Z2 K fE H0 (.fix (j5 lo n)) (tH lo n):=by
 unfold j5;intro ρ g H e R i;refine⟨λh=>?_,λd h=>?_⟩
 ·simp only[IK.at] at h;have:=dM.mp (aE h);show n<=i;simpa using this
 ·simp only[IK.at] at h;have h:=aE h;have hi:i<n:=by
   have:=(ao.mp h).1;simpa using this
  rw[aC,iR hi] at h;cases h;refine⟨hi,λw H' y=>?_⟩;obtain⟨rfl,rfl⟩:=y;exact⟨.refl _ _,R,.int _⟩
theorem KA{j:Nat}(ha:fE[j]?=some a):Z2 K fE H0 (.qb j) (zT K a):=by
 intro ρ g H e R i;have lq:=e.get ha;refine⟨λh=>?_,λd h=>?_⟩
 ·simp only[IK.at] at h;cases el:c6 g j with
  |none=>rw[el] at h;cases h
  |some l =>
   rw[el] at h;obtain⟨vs,hq,rs⟩:=R.items el lq;refine⟨vs,hq,?_⟩;have h:=aE h;rw[Option.map_eq_none_iff] at h;have:=dM.mp h;rw[<- rs.length];exact this
 ·simp only[IK.at] at h;cases el:c6 g j with
  |none=>rw[el] at h;cases h
  |some l =>
   rw[el] at h;obtain⟨vs,hq,rs⟩:=R.items el lq;have h:=aE h;rw[ae] at h;obtain⟨d',hd,rfl⟩:=h;obtain⟨v,hv,rv⟩:=rs.get hd;refine⟨⟨vs,v,hq,hv⟩,λw H' y=>?_⟩;obtain⟨p,x,hp,rfl,y,rfl⟩:=y;have:=y vs hq;rw[hv] at this;cases this;exact⟨w9 hp,R.grow hp,.tup (.inl n9) (.cons (.int _) (.cons (rv.ext (w9 hp)) .nil))⟩
end M
namespace L2
open PySem PySem.Spec PyProof.Rows
theorem Nj{X:Cx}{tg l:Expr}{tl:TE}(hl:PE X l tl):PI X tg l (λZ H R=>tl Z H λx H1=>(∃a,x=.ref a/\(∃xs,fe X.K H1 a xs)/\R (zS X.K a) H1)\/(∃a,x=.ref a/\(∃xs,gS X.K H1 a xs)/\R (zR X.K a) H1)):=by
 intro pins s Z H R I h;refine cC (hl pins s Z H _ I h) λv s1 bc=>?_;obtain⟨x,H1,I1,r1,q1⟩:=bc;rcases q1 with⟨a,e,⟨xs,hq⟩,q⟩|⟨a,e,⟨xs,hq⟩,q⟩
 ·subst e;cases r1;obtain⟨aO,rv,p,hz⟩:=I1.list hq;refine dJ p.isList ?_;refine⟨s1.heap.objs.size,[s1.heap.objs.size],_,_,H1,rfl,I1.kept (t':=s1.toks) λb o e=>af _ e,So a _,⟨_,ay _ rfl,rfl,rfl⟩,λb hb=>?_,q⟩;have e:b=s1.heap.objs.size:=by simpa using hb
  subst e;exact I1.pj (aj _) (I1.bD.fresh (aj _))
 ·subst e;cases r1;obtain⟨aO,rv,p,hz⟩:=I1.tuple hq;refine wpAny_pyIter_tuple (show s1.heap.IsTuple a aO.toArray from p) ?_;refine⟨s1.heap.objs.size,[s1.heap.objs.size],_,_,H1,rfl,I1.kept (t':=s1.toks) λb o e=>af _ e,Nz a _,⟨_,ay _ rfl,rfl,rfl⟩,λb hb=>?_,q⟩;have e:b=s1.heap.objs.size:=by simpa using hb
  subst e;exact I1.pj (aj _) (I1.bD.fresh (aj _))
end L2
namespace M
open PySem L2 PySem.Spec PyProof.Rows
variable{X:Cx}{tg:Expr}{pos p tp:Pos}{t:MT}{mi:ME}
section
variable{Ξ:gE}{P:eR}(hP:j4 P){a b:Expr}{ma mb:ME}
include hP
theorem Tp(ha:PE X a (LE X.K Ξ (aT P ma))):PI X tg a (LI X.K Ξ (hU P (.iu ma))) :=
 (Nj ha).imp λbP H R bc=>by
  obtain⟨Z,g,ρ,s,Rr,h⟩:=bc;refine eX hP s Rr (.refl _ _) h λx g1 bK H1 v1 e1 R1 r1 h=>?_;rcases h with⟨l,rfl,h⟩|⟨i,l,rfl,hl,h⟩
  ·obtain⟨a',vs,rfl,ht,rs⟩:=r1.O1;exact .inr ⟨_,rfl,⟨_,ht.sq⟩,h bK H1 _ e1 R1 (KG ht rs)⟩
  ·obtain⟨a',rfl,lq⟩:=r1.i7;obtain⟨vs,hq,rs⟩:=R1.items hl lq;exact .inl ⟨_,rfl,⟨_,hq⟩,h bK H1 _ e1 R1 (KC lq)⟩
theorem Pe{elts:List Expr}{x1:Nat}(ha:PE X a (LE X.K Ξ (aT P ma)))(hg:Gl X "enumerate")(hm:X.mg "enumerate"=none)(hs:starEach [a] X.env=[(false,eval a X.env)]):PI X (.Tuple elts x1 tp) (.Call (.Name "enumerate" p) [a] [] pos) (LI X.K Ξ (hU P (.lL ma))) :=
 (OJ hg hm (C6 hP ha (L8 hP) (by rw[hs];rfl)) hs).imp λbP H R bc=>by
  obtain⟨Z,g,ρ,s,Rr,h⟩:=bc;refine jy hP (m:=.cons ma .nil) s Rr (.refl _ _) (Q0:=λxs g1=>∃a l,xs=[.ref a]/\c6 g1 a=some l/\∀bz H' J,Ext ρ H bz H'->Rl X.K bz g1 H'->Z2 X.K bz H' (.qb a) J->R J H') ?_ λxs g1 bK H1 vs e1 R1 r1 h=>?_
  ·skip
   exact b8 hP ma _ _ _ _ _ _ (λx g1 ⟨i,l,e,hl,h⟩=>⟨i,l,by rw[e],hl,h⟩) (λ_ _ z=>z) h
  ·obtain⟨j,l,rfl,hl,h⟩:=h;obtain⟨v,rfl,rv⟩:=r1.one;obtain⟨a',rfl,ra⟩:=rv.i7;obtain⟨vs,hq,rs⟩:=R1.items hl ra;exact⟨_,rfl,⟨_,hq⟩,h bK H1 _ e1 R1 (KA ra)⟩
theorem Pf(ha:PE X a (LE X.K Ξ (aT P ma)))(hg:Gl X "range")(hm:X.mg "range"=none)(hs:starEach [a] X.env=[(false,eval a X.env)]):PI X tg (.Call (.Name "range" p) [a] [] pos) (LI X.K Ξ (hU P (.dQ ma))) :=
 (RX hg hm (C6 hP ha (L8 hP) (by rw[hs];rfl)) hs).imp λbP H R bc=>by
  obtain⟨Z,g,ρ,s,Rr,h⟩:=bc;refine jy hP (m:=.cons ma .nil) s Rr (.refl _ _) (Q0:=λxs g1=>∃j:Int,xs=[.int j]/\-(2 ^ 62)<=j/\j<2 ^ 62/\∀bz H' J,Ext ρ H bz H'->Rl X.K bz g1 H'->Z2 X.K bz H' (.fix (j5 0 j.toNat)) J->R J H') ?_ λxs g1 bK H1 vs e1 R1 r1 h=>?_
  ·skip
   exact b8 hP ma _ _ _ _ _ _ (λx g1 ⟨j,e,h1,h2,h⟩=>⟨j,by rw[e],h1,h2,h⟩) (λ_ _ z=>z) h
  ·obtain⟨j,rfl,h1,h2,h⟩:=h;obtain⟨v,rfl,rv⟩:=r1.one;obtain rfl:=rv.j6;exact⟨_,rfl,h1,h2,h bK H1 _ e1 R1 EC⟩
theorem Ph(ha:PE X a (LE X.K Ξ (aT P ma)))(hb:PE X b (LE X.K Ξ (aT P mb)))(hg:Gl X "range")(hm:X.mg "range"=none)(hs:starEach [a,b] X.env=[(false,eval a X.env),(false,eval b X.env)])(iw:starEach [b] X.env=[(false,eval b X.env)]) :
  PI X tg (.Call (.Name "range" p) [a,b] [] pos) (LI X.K Ξ (hU P (.js ma mb))) :=
 (RY hg hm (C6 hP ha (C6 hP hb (L8 hP) (by rw[iw];rfl)) (by rw[hs,iw])) hs iw).imp λbP H R bc=>by
  obtain⟨Z,g,ρ,s,Rr,h⟩:=bc;refine jy hP (m:=.cons ma (.cons mb .nil)) s Rr (.refl _ _) (Q0:=λxs g1=>∃i j:Int,xs=[.int i,.int j]/\(-(2 ^ 62)<=i/\i<2 ^ 62/\-(2 ^ 62)<=j/\j<2 ^ 62)/\∀bz H' J,Ext ρ H bz H'->Rl X.K bz g1 H'->Z2 X.K bz H' (.fix (j5 i (j-i).toNat)) J->R J H') ?_ λxs g1 bK H1 vs e1 R1 r1 h=>?_
  ·skip
   exact b8 hP ma _ _ _ _ _ _ (λx g1 h=>b8 hP mb _ _ _ _ _ _ (λy g2 ⟨i,j,e,e',h1,h⟩=>⟨i,j,by rw[e,e'],h1,h⟩) (λ_ _ z=>z) h) (λ_ _ z=>z) h
  ·obtain⟨i,j,rfl,h1,h⟩:=h;obtain⟨v,w,rfl,rv,fg⟩:=r1.two;obtain rfl:=rv.j6;obtain rfl:=fg.j6;exact⟨_,_,rfl,h1,h bK H1 _ e1 R1 EC⟩
end
theorem To{i:Nat}{x:Str}(hN:X.N.Nodup)(hi:X.N[i]?=some x)(hx:Loc X.env.scope x)(hf:X.fn x=true\/X.env.scope.names.lookup x=some .local):PG X (.Name x pos) (LG X.K (.one i)) :=
 (CK hN hi hx hf).imp λv bP H Q hq=>by
  obtain⟨d,Z,g,ρ,s,R,r,h⟩:=hq;exact h _ (s.set i r)
inductive ff(X:Cx):List Expr->List Nat->Prop
 |nil:ff X [] []
 |cons {x:Str} {p:Pos} {i:Nat} {es:List Expr} {is:List Nat} (hi:X.N[i]?=some x) (hx:Loc X.env.scope x) (hf:X.fn x=true\/X.env.scope.names.lookup x=some .local) (r:ff X es is):ff X (.Name x p::es) (i::is)
def yn:List Nat->nK
 |[]=>Cp
 |i::is=>Ez (qo i) (yn is)
theorem RV(hN:X.N.Nodup){es:List Expr}{is:List Nat}(h:ff X es is):tF X es (yn is):=by
 induction h with
 |nil=>exact OI
 |cons hi hx hf r ih=>exact Qp (CK hN hi hx hf) ih rfl
theorem X2:∀{es:List Expr} {is:List Nat},ff X es is->(assignEach es X.env).length=is.length/\(assignEach es X.env).findIdx? (·.1)=none
 |_,_,.nil=>⟨rfl,rfl⟩
 |_,_,.cons (x:=x) (p:=p) (es:=es) hi hx hf r=>by
  obtain⟨h1,h2⟩:=X2 r;have e:assignEach (.Name x p::es) X.env=(false,assign (.Name x p) X.env)::assignEach es X.env:=rfl;rw[e];refine⟨by simp[h1],?_⟩;rw[List.findIdx?_cons,h2]
  rfl
theorem DD{K:PySem.W.Frag}{ρ:List Addr}{H:Hp}{k:S->Prop}{Q:L2.St->Hp->Prop}:∀{is:List Nat} {l:List D} {vs:List V} {Z bJ:S} {bP:L2.St},C0 is l Z=some bJ->b7 K ρ H l vs->m5 K ρ H Z bP->(∀cS,m5 K ρ H bJ cS->Q cS H)->yn is vs bP H Q
 |[],_,_,_,_,_,h,.nil,s,q=>by
  simp only[C0] at h;cases h;exact⟨rfl,q _ s⟩
 |[],_,_,_,_,_,h,.cons _ _,s,q=>by simp only[C0] at h;cases h
 |i::is,_,_,_,_,_,h,.nil,s,q=>by simp only[C0] at h;cases h
 |i::is,_,_,_,_,_,h,.cons r rr,s,q=>by
  simp only[C0] at h;exact⟨_,_,rfl,DD (k:=k) h rr (s.set i r) q⟩
theorem U3:∀{is:List Nat} {l:List D} {Z bJ:S},C0 is l Z=some bJ->l.length=is.length
 |[],[],_,_,_=>rfl
 |[],_::_,_,_,h=>by simp only[C0] at h;cases h
 |_::_,[],_,_,h=>by simp only[C0] at h;cases h
 |_::is,_::l,_,_,h=>by simp only[C0] at h;simp[U3 h]
theorem CS{es:List Expr}{is:List Nat}{k:Nat}(hc:X.calm=true)(hN:X.N.Nodup)(hs:ff X es is):PG X (.Tuple es k pos) (LG X.K (.many is)) :=
 (Ni hc (RV hN hs) (X2 hs).1 (X2 hs).2).imp λv bP H Q bc=>by
  obtain⟨d,Z,g,ρ,s,R,r,h⟩:=bc;obtain⟨l,bJ,rfl,e,h⟩:=h;obtain⟨a',vs,rfl,ht,rs⟩:=r.O1;exact⟨_,_,rfl,ht.sq,by rw[<- rs.length];exact U3 e,DD (k:=λ_=>True) e rs s h⟩
theorem LN.ext{K ρ H N bK H1}(e:Ext ρ H bK H1):(LN K ρ H N).le (LN K bK H1 N) :=
 ⟨λZ g h bz H' cS e' R s=>h bz H' cS (e.trans e') R s,λd g h=>h.ext e,λZ g h bz H' cS e' R s=>h bz H' cS (e.trans e') R s,λZ g h bz H' cS e' R s=>h bz H' cS (e.trans e') R s⟩
section
variable{Ξ:gE}{P:eR}(hP:j4 P){a b c:Expr}{ma mb mc:ME}{st:Stmt}{rest:List Stmt}{vZ kS:MS}
include hP
theorem Tt:jc X [] (LS X.K Ξ (wpS P .pass)) :=
 (OO (X:=X)).imp λN bP H ⟨Z,g,ρ,s,R,h⟩=>h ρ H bP (.refl _ _) R s
theorem Pl(h1:PS X st (LS X.K Ξ (wpS P vZ)))(h2:jc X rest (LS X.K Ξ (wpS P kS))):jc X (st::rest) (LS X.K Ξ (wpS P (.seq vZ kS))) :=
 (Qv h1 h2).imp λN bP H ⟨Z,g,ρ,s,R,h⟩ =>
  pK hP s R (.refl _ _) (show wpS P vZ { LN X.K ρ H N with nx:=λgQ g1=>wpS P kS (LN X.K ρ H N) gQ g1 (LX X.K ρ H Ξ) } Z g (LX X.K ρ H Ξ) from h) ⟨λgQ g1 h bK H1 FP e1 R1 s1=>pK hP s1 R1 e1 h (LN.ext e1),λ_ _ z=>z,λ_ _ z=>z,λ_ _ z=>z⟩
theorem Po(ha:PE X a (LE X.K Ξ (aT P ma)))(hs:swapsWith a none pos.line X.env=pure false):PS X (.Expr a pos) (LS X.K Ξ (wpS P (.expr ma))) :=
 (OL ha hs).imp λN bP H ⟨Z,g,ρ,s,R,h⟩=>eX hP s R (.refl _ _) h λx g1 bK H1 v1 e1 R1 r1 h=>h bK H1 bP e1 R1 (s.ext e1)
theorem Fj{i:Nat}{x:Str}(h0:PS X (.Assign [.Name x p] a pos) (tf (LE X.K Ξ (aT P ma)) (qo i))):PS X (.Assign [.Name x p] a pos) (LS X.K Ξ (wpS P (.set i ma))) :=
 h0.imp λN bP H ⟨Z,g,ρ,s,R,h⟩=>eX hP s R (.refl _ _) h λx g1 bK H1 v1 e1 R1 r1 h=>h bK H1 _ e1 R1 ((s.ext e1).set i r1)
theorem TK(h0:PS X (.Assign [tg] a pos) (tf (LE X.K Ξ (aT P ma)) (LG X.K t))):PS X (.Assign [tg] a pos) (LS X.K Ξ (wpS P (.mh t ma))) :=
 h0.imp λN bP H ⟨Z,g,ρ,s,R,h⟩=>eX hP s R (.refl _ _) h λx g1 bK H1 v1 e1 R1 r1 h=>⟨x,Z,g1,bK,s.ext e1,R1,r1,B1 (λbJ h cS s'=>h bK H1 cS e1 R1 s') h⟩
theorem QQ(hu:X.A.units+100<cLine){o i:Expr}{mo:ME}(ha:PE X a (LE X.K Ξ (aT P ma)))(ho:PE X o (LE X.K Ξ (aT P mo)))(hi:PE X i (LE X.K Ξ (aT P mi)))(hs:swapsWithSole [.Subscript o i tp] a pos.line X.env=pure false)(lq:∀ v,assign (.Subscript o i tp) X.env v=(do
   let ov <- holding [v] (eval o X.env)
   let iv <- holding [v,ov] (eval i X.env)
   standAt tp
   holding [v,ov,iv] (setItem ov iv v)
   release [v,ov,iv] [])):PS X (.Assign [.Subscript o i tp] a pos) (LS X.K Ξ (wpS P (.eh mo mi ma))) :=
 (Fe ha (Nh ho hi (Tn hu) lq) hs).imp λN bP H ⟨Z,g,ρ,s,R,h⟩ =>
  eX hP s R (.refl _ _) h λx g1 bK H1 v1 e1 R1 r1 h=>eX hP (s.ext e1) R1 e1 h λy g2 eF H2 v2 e2 R2 r2 h=>eX hP (s.ext (e1.trans e2)) R2 (e1.trans e2) h λz g3 iB H3 v3 e3 R3 r3 h =>
   ⟨y,z,x,g3,iB,R3,r2.ext e3,r3,r1.ext (e2.trans e3),P4 (λg4 h nR H4 e4 R4=>h nR H4 bP (e1.trans (e2.trans (e3.trans e4))) R4 (s.ext (e1.trans (e2.trans (e3.trans e4))))) h⟩
omit hP in
def yh(K:PySem.W.Frag)(f:Str)(cs:List Str):Prop:=∀c C,c∈cs->p8 K c C->A2 K C f
omit hP in
theorem Pd{f:Str}{cs:List Str}(hF:yh X.K f cs){ρ:List Addr}{H:Hp}{g g':G}{x v:D}{xv vv:V}(R:Rl X.K ρ g H)(rx:d5 X.K ρ H x xv)(rv:d5 X.K ρ H v vv)(h:EK f cs x v g g') :
  ∃a C dx fs,xv=.ref a/\H a=some (.ins C dx fs)/\jg X.K C/\A2 X.K C f/\fs.length<1000/\Rl X.K ρ g' (upd H a (.ins C dx (u9 f vv fs)))/\Ext ρ H ρ (upd H a (.ins C dx (u9 f vv fs))):=by
 obtain⟨i,c,fs,rfl,hi,hc,hz,rfl⟩:=h;obtain⟨a',rfl,ra⟩:=rx.i7;obtain⟨C,dx,vs,hH,hC,jS,rk,na⟩:=R.ins hi ra;obtain⟨R',e'⟩:=R.put (o':=.ins c (M8 f v fs)) (u:=.ins C dx (u9 f vv vs)) hi rfl ra ⟨hC,jS,rk.u9 rv,Ea (p:=λy=>A2 X.K C y) (hF c C hc hC) na⟩;exact⟨a',C,dx,vs,rfl,hH,jS,hF c C hc hC,by rw[<- rk.length];omega,R',e'⟩
theorem Pp{f:Str}{cs:List Str}{o:Expr}{mo:ME}(hF:yh X.K f cs)(ho:PE X o (LE X.K Ξ (aT P mo)))(ha:PE X a (LE X.K Ξ (aT P ma)))(hs:swapsWith a (some (.Attribute o f tp)) pos.line X.env=pure false):PS X (.Assign [.Attribute o f tp] a pos) (LS X.K Ξ (wpS P (.mm f cs mo ma))) :=
 (Nk ho ha hs).imp λN bP H ⟨Z,g,ρ,s,R,h⟩=>eX hP s R (.refl _ _) h λx g1 bK H1 v1 e1 R1 r1 h=>eX hP (s.ext e1) R1 e1 h λy g2 eF H2 v2 e2 R2 r2 h=>by
  obtain⟨g3,h,q⟩:=h;obtain⟨a',C,dx,fs,hx,hH,jS,na,hz,R3,e3⟩:=Pd hF R2 r2 (r1.ext e2) h;exact⟨a',C,dx,fs,hx,hH,jS,na,hz,q eF _ bP (e1.trans (e2.trans e3)) R3 (s.ext (e1.trans (e2.trans e3)))⟩
theorem Lu{sa sb:List Stmt}{AO msb:MS}(hc:PT X c (LT X.K Ξ (da P mc)))(ha:jc X sa (LS X.K Ξ (wpS P AO)))(hb:jc X sb (LS X.K Ξ (wpS P msb))):PS X (.If c sa sb pos) (LS X.K Ξ (wpS P (.ifs mc AO msb))) :=
 (Lh hc ha hb).imp λN bP H ⟨Z,g,ρ,s,R,h⟩=>mT hP s R (.refl _ _) h λt g1 bK H1 e1 R1 h=>by
  cases t
  ·exact pK hP (s.ext e1) R1 e1 h (LN.ext e1)
  ·exact pK hP (s.ext e1) R1 e1 h (LN.ext e1)
theorem TJ(ha:PE X a (LE X.K Ξ (aT P ma))):PS X (.Return (some a) pos) (LS X.K Ξ (wpS P (.ret ma))) :=
 (Nn ha).imp λN bP H ⟨Z,g,ρ,s,R,h⟩=>⟨Z,g,ρ,s,R,h⟩
theorem QR{body:List Stmt}{mb:MS}(hp:PassesOwn (model X.prog X.w) X.A X.env X.xe)(hc:PT X c (LT X.K Ξ (da P mc)))(hb:jc X body (LS X.K Ξ (wpS P mb))):PS X (.While c body [] pos) (LS X.K Ξ (wpS P (.jm mc mb))) :=
 (Qu hp hc hb).imp λN bP H bc=>by
  obtain⟨Z,g,ρ,s,R,h⟩:=bc;obtain⟨W,⟨m0,w0⟩,h⟩:=h;refine⟨λm cS H'=>∃bJ g' bz,Ext ρ H bz H'/\m5 X.K bz H' bJ cS/\Rl X.K bz g' H'/\W m bJ g',⟨m0,Z,g,ρ,.refl _ _,s,R,w0⟩,?_⟩;rintro m cS H' ⟨bJ,g',bz,e1,s',R',w'⟩;refine mT hP s' R' e1 (h m bJ g' w') λt g1 bK H1 e2 R1 q=>?_;cases t
  ·exact q bK H1 cS (e1.trans e2) R1 (s'.ext e2)
  ·obtain⟨N2,xg,q⟩:=q;refine⟨λjl H2=>∃cE g2 eF,Ext ρ H eF H2/\m5 X.K eF H2 cE jl/\Rl X.K eF g2 H2/\N2 cE g2,?_,?_⟩
   ·rintro jl H2 ⟨cE,g2,eF,e3,s2,R2,n2⟩;obtain⟨m',hm,w2⟩:=xg cE g2 n2;exact⟨m',hm,cE,g2,eF,e3,s2,R2,w2⟩
   ·refine pK hP (s'.ext e2) R1 (e1.trans e2) q ⟨?_,?_,?_,?_⟩
    ·exact λgI g3 n3 iB H3 jG e3 R3 s3=>⟨gI,g3,iB,(e1.trans e2).trans e3,s3,R3,n3⟩
    ·exact λd g3 h=>h.ext (e1.trans e2)
    ·exact λgI g3 h iB H3 jG e3 R3 s3=>h iB H3 jG ((e1.trans e2).trans e3) R3 s3
    ·exact λgI g3 n3 iB H3 jG e3 R3 s3=>⟨gI,g3,iB,(e1.trans e2).trans e3,s3,R3,n3⟩
theorem TF{iter:Expr}{body:List Stmt}{mb:MS}(hp:PassesOwn (model X.prog X.w) X.A X.env X.xe)(hc:X.calm=true)(hi:PI X tg iter (LI X.K Ξ (hU P mi)))(hg:PG X tg (LG X.K t))(hb:jc X body (LS X.K Ξ (wpS P mb)))(hs:∀x,foldedSetIterable iter X.env x=pure x):PS X (.For tg iter body [] pos) (LS X.K Ξ (wpS P (.eL t mi mb))) :=
 (Nl hp hc hi hg hb hs).imp λN bP H bc=>by
  obtain⟨Z,g,ρ,s,R,h⟩:=bc;refine⟨Z,g,ρ,s,R,A3 hP mi _ _ _ _ _ _ (λk g1 h bK H1 J e1 R1 j1=>?_) (λ_ _ z=>z) h⟩;obtain⟨W,⟨m0,w0⟩,h⟩:=h;refine⟨λi m cS H'=>∃bJ g' bz,Ext bK H1 bz H'/\m5 X.K bz H' bJ cS/\Rl X.K bz g' H'/\W i m bJ g',⟨m0,Z,g1,bK,.refl _ _,s.ext e1,R1,w0⟩,?_⟩;rintro i m cS H' ⟨bJ,g',bz,e',s',R',w'⟩;obtain⟨rG,rF⟩:=j1 bz g' H' e' R' i;rcases h i m bJ g' w' with⟨ek,q⟩|⟨x,ek,N2,xg,q⟩
  ·exact .inl ⟨rG ek,q bz H' cS (e1.trans e') R' s'⟩
  ·obtain⟨go,yl⟩:=rF x ek;refine .inr ⟨go,λjl H2=>∃cE g2 eF,Ext bK H1 eF H2/\m5 X.K eF H2 cE jl/\Rl X.K eF g2 H2/\N2 cE g2,?_,?_⟩
   ·rintro jl H2 ⟨cE,g2,eF,e2,s2,R2,n2⟩;obtain⟨m',hm,w2⟩:=xg cE g2 n2;exact⟨m',hm,cE,g2,eF,e2,s2,R2,w2⟩
   ·intro v H2 y;obtain⟨e2,R2,r2⟩:=yl v H2 y;refine⟨x,bJ,g',bz,s'.ext e2,R2,r2,B1 (λcE q jl s2=>?_) q⟩;refine pK hP s2 R2 (e1.trans (e'.trans e2)) q ⟨?_,?_,?_,?_⟩
    ·exact λgI g3 n3 iB H3 jG e3 R3 s3=>⟨gI,g3,iB,(e'.trans e2).trans e3,s3,R3,n3⟩
    ·exact λd g3 h=>h.ext (e1.trans (e'.trans e2))
    ·exact λgI g3 h iB H3 jG e3 R3 s3=>h iB H3 jG (e1.trans ((e'.trans e2).trans e3)) R3 s3
    ·exact λgI g3 n3 iB H3 jG e3 R3 s3=>⟨gI,g3,iB,(e'.trans e2).trans e3,s3,R3,n3⟩
theorem Dc{c8:List Nat}{n:Nat}{ia me:ME}:∀bP H Q,LE X.K Ξ (aT P (.comp c8 n t mi ia me)) bP H Q->ya (LI X.K Ξ (hU P mi)) c8 n (LG X.K t) (LT X.K (pC Ξ.1) (da P ia)) (LE X.K (pC Ξ.1) (aT P me)) bP H Q:=λbP H Q bc=>by
 obtain⟨Z,g,ρ,s,R,h⟩:=bc;refine⟨Z,g,ρ,s,R,A3 hP mi _ _ _ _ _ _ (λk g1 h bK H1 J e1 R1 j1=>?_) (λ_ _ z=>z) h⟩;obtain⟨W,⟨m0,w0⟩,h⟩:=h;refine⟨λi m Ae cS H'=>∃ys bJ g' bz,Ext bK H1 bz H'/\m5 X.K bz H' bJ cS/\Rl X.K bz g' H'/\b7 X.K bz H' ys Ae/\W i m ys bJ g',⟨m0,[],_,g1,bK,.refl _ _,(s.ext e1).c8 c8 n,R1,.nil,w0⟩,?_⟩;rintro i m Ae cS H' ⟨ys,bJ,g',bz,e',s',R',ry,w'⟩;obtain⟨rG,rF⟩:=j1 bz g' H' e' R' i;rcases h i m ys bJ g' w' with⟨ek,q⟩|⟨x,ek,hz,q⟩
 ·exact .inl ⟨rG ek,λp hp=>(q.ext (e1.trans e')).new R' hp ry⟩
 ·obtain⟨go,yl⟩:=rF x ek;refine .inr ⟨go,by rw[<- ry.length];exact yQ hz,λv H2 y=>?_⟩;obtain⟨e2,R2,r2⟩:=yl v H2 y;refine⟨x,bJ,g',bz,s'.ext e2,R2,r2,B1 (λcE q jl s2=>?_) q⟩;refine⟨cE,g',bz,s2,R2,n8 hP ia _ _ _ _ _ _ (λb g3 q iB H3 e3 R3=>?_) (λ_ _ z=>z.elim) q⟩;cases b
  ·obtain⟨m',hm,w3⟩:=q;exact⟨m',hm,ys,cE,g3,iB,(e'.trans e2).trans e3,s2.ext e3,R3,(ry.ext e2).ext e3,by simpa using w3⟩
  ·refine⟨cE,g3,iB,s2.ext e3,R3,b8 hP me _ _ _ _ _ _ (λz g4 q nR H4 v4 e4 R4 r4=>?_) (λ_ _ z=>z.elim) q⟩;obtain⟨m',hm,w4⟩:=q;exact⟨m',hm,ys++[z],cE,g4,nR,(e'.trans e2).trans (e3.trans e4),(s2.ext e3).ext e4,R4,(((ry.ext e2).ext e3).ext e4).append (.cons r4 .nil),by simpa using w4⟩
theorem QG{elt iter:Expr}{ifs:List Expr}{scope:Scope}{N':List Str}{c8:List Nat}{cl:List (Str×Addr)}{p2 iT:Pos}{ia me:ME}(S:cZ X scope N' c8 cl)(hc:X.calm=true)(hi:PI X tg iter (LI X.K Ξ (hU P mi)))(hg:∀pins C s H fp,PG (d4 X pins scope N' cl C s H fp) tg (LG X.K t))(ht:∀pins C s H fp,jW (d4 X pins scope N' cl C s H fp) ifs (LT X.K (pC Ξ.1) (da P ia)))(he:∀pins C s H fp,PE (d4 X pins scope N' cl C s H fp) elt (LE X.K (pC Ξ.1) (aT P me)))(hs:∀x,foldedSetIterable iter X.env x=pure x)(kY:Gl X "sorted")(mD:X.mg "sorted"=none):PE X (.Call (.Name "sorted" p2) [.SetComp elt [⟨tg,iter,ifs,0⟩] scope pos] [] iT) (LE X.K Ξ (aT P (.hZ c8 N'.length t mi ia me))) :=
 (U4 (Q1 hc) kY mD (by first|exact fU|decide +kernel) (N5 (Qo S hc hi hg ht he hs) R6)).imp λbP H Q bc=>by
  obtain⟨Z,g,ρ,s,R,h⟩:=bc;refine⟨Z,g,ρ,s,R,A3 hP mi _ _ _ _ _ _ (λk g1 h bK H1 J e1 R1 j1=>?_) (λ_ _ z=>z) h⟩;obtain⟨W,⟨m0,w0⟩,h⟩:=h;refine⟨λi m ys cS H'=>∃bJ g' bz,Ext bK H1 bz H'/\m5 X.K bz H' bJ cS/\Rl X.K bz g' H'/\W i m ys bJ g',⟨m0,_,g1,bK,.refl _ _,(s.ext e1).c8 c8 _,R1,w0⟩,?_⟩;rintro i m ys cS H' ⟨bJ,g',bz,e',s',R',w'⟩;obtain⟨rG,rF⟩:=j1 bz g' H' e' R' i;rcases h i m ys bJ g' w' with⟨ek,hz,q⟩|⟨x,ek,hz,q⟩
  ·exact .inl ⟨rG ek,λp hp=>⟨p,ys,rfl,n9,by omega,λp' iL=>(q.ext ((e1.trans e').trans (w9 hp))).new (R'.grow hp) iL (b7.ofInts _)⟩⟩
  ·obtain⟨go,yl⟩:=rF x ek;refine .inr ⟨go,hz,λv H2 y=>?_⟩;obtain⟨e2,R2,r2⟩:=yl v H2 y;refine⟨x,bJ,g',bz,s'.ext e2,R2,r2,B1 (λcE q jl s2=>?_) q⟩;refine⟨cE,g',bz,s2,R2,n8 hP ia _ _ _ _ _ _ (λb g3 q iB H3 e3 R3=>?_) (λ_ _ z=>z.elim) q⟩;cases b
   ·obtain⟨m',hm,w3⟩:=q;exact⟨m',hm,cE,g3,iB,(e'.trans e2).trans e3,s2.ext e3,R3,by simpa using w3⟩
   ·refine⟨cE,g3,iB,s2.ext e3,R3,b8 hP me _ _ _ _ _ _ (λz g4 q nR H4 v4 e4 R4 r4=>?_) (λ_ _ z=>z.elim) q⟩;obtain⟨j,rfl,m',hm,w4⟩:=q;obtain rfl:=r4.j6;exact⟨j,rfl,m',hm,cE,g4,nR,(e'.trans e2).trans (e3.trans e4),(s2.ext e3).ext e4,R4,by simpa using w4⟩
end
end M
namespace M
open PySem L2
section
variable{P:eR}(hP:j4 P)
include hP
end
end M
namespace M
open PySem L2 PySem.Spec PyProof.Rows
variable{X:Cx}{Ξ:gE}{P:eR}{x qual:Str}{pos px:Pos}{c:f6}{i n:Nat}{e o b a:Expr}{es args:List Expr}{env:Env}{p:Pr}{f:Addr}{r:CF}{m:ME}{cd:Value}{N:List Str}{scope:Scope}{A:Around}{outer:List Env}{s:Shared}{H:Hp}{E:XK}
section
variable(hP:j4 P)
include hP
theorem QP{C:Addr}{B newId fK:String}{bm:List Value}{np fo:Pos}{ja:Expr}{rest:List Expr}{fZ:ME}(hc:X.calm=true)(O:OwnCls x C bm newId X.mg X.base)(FB:ExcBaseFacts B newId fK bm)(hg:Gl X x)(ha:PA X (ja::rest) (LA X.K Ξ (ft P fZ)))(hr:uX X Ξ.2)(hx:x∈Ξ.1)(hC:p8 X.K x C)(he:starEach (ja::rest) X.env=(false,eval ja X.env)::starEach rest X.env)(fL:(backTo fo (starEach rest X.env)).any (·.1)=false)(hd:(x==("__debug__":Str))=false):PS X (.Raise (some (.Call (.Name x np) (ja::rest) [] fo)) none pos) (LS X.K Ξ (wpS P (.raise x fZ))) :=
 (Qt hc O FB hg ha hr he fL hd).imp λN bP H bc=>by
  obtain⟨Z,g,ρ,s,R,h⟩:=bc;refine jy hP s R (.refl _ _) h λds g1 bK H1 vs e1 R1 r1 h=>?_;exact⟨by rw[<- r1.length];exact m9 (aG h.1 (by decide)),h.2 bK H1 C e1 R1 hx hC⟩
end
structure f6 where
 N:List Str
 nm:List (Str×NameKind)
 lV:Bool
 fns:List (Str×Nat)
 con:List (Str×D)
 blt:List Str
 exc:List Str
 gd:List (Str×List D)
 cls:List (Str×Nat)
 ow:List (Str×Str×Nat)
 mI:List (Str×Str)
 kc:Bool
 ml:Bool
def fu:Expr->Bool
 |.Set ..=>false
 |.Starred ..=>false
 |.Slice ..=>false
 |_=>true
def v7:Expr->Bool
 |.ListComp ..=>false
 |.SetComp ..=>false
 |.DictComp ..=>false
 |_=>true
def qp:Expr->Bool
 |.Tuple ..=>false
 |_=>true
def X6:Expr->Bool
 |.Name ..=>true
 |.Call ..=>true
 |.Subscript ..=>true
 |.Constant ..=>true
 |.Attribute ..=>true
 |.BinOp ..=>true
 |_=>false
def uU:Expr->Bool
 |.Call (.Name ..) ..=>false
 |_=>true
def f6.idx(c:f6)(x:Str):Option Nat:=c.N.findIdx? λy=>decide (y=x)
def f6.vL(c:f6)(x:Str):Bool:=match c.nm.lookup x with
 |some .local=>true
 |some .cell=>true
 |some .free=>true
 |_=>false
def f6.gl(c:f6)(x:Str):Bool:=decide (c.nm.lookup x=some .globalImplicit)
def f6.B4(c:f6)(x:Str):Bool:=decide (c.nm.lookup x=some .local)||decide (c.nm.lookup x=some .cell)
def X7(x:Str):Bool:=(x==("__debug__":Str))==false&&(x==("__classdict__":Str))==false&&decide (x≠"__name__")
def yc:List (Str×String):=[("int","int"),("bool","bool"),("str","str"),("tuple","tuple"),("list","list")]
def yk:List (Str×Pr):=[("len",.len),("list",.list),("tuple",.tuple),("isinstance",.isin),("all",.all),("max",.max),("min",.min),("int",.int),("any",.any),("sorted",.hX),("sum",.sum),("set",.oy)]
def vf:List (Str×Pr):=[]
def yt:List (Str×Pr):=[("append",.append),("pop",.pop),("get",.get)]
def uY:Expr->Option (Str×List Expr)
 |.Call (.Name x _) args [] _=>some (x,args)
 |_=>none
def Eu:Expr->Bool
 |.Tuple ..=>true
 |_=>false
def asName:Expr->Option Str
 |.Name x _=>some x
 |_=>none
def frees(sc:Scope):List Str:=(sc.names.filter λy=>decide (y.2=.free)).map (·.1)
def locals(sc:Scope):List Str:=(sc.names.filter λy=>decide (y.2=.local)||decide (y.2=.cell)).map (·.1)
def f6.inner(c:f6)(sc:Scope):f6:={ c with N:=frees sc++locals sc,nm:=sc.names,lV:=false,kc:=false,ml:=false }
def f6.c8(c:f6)(sc:Scope):List Nat:=(frees sc).map λx=>(c.idx x).getD 0
def f6.yT(c:f6)(sc:Scope):Bool :=
 decide (sc.kind=.function)&&sc.names.all (λy=>!decide (y.2=.cell)||decide (sc.names.lookup y.1=some .cell))&&sc.names.all (λy=>!decide (y.2=.local)||decide (sc.names.lookup y.1=some .local)) &&
 decide (frees sc++locals sc).Nodup&&(frees sc).all (λx=>(c.idx x).isSome&&decide (sc.names.lookup x=some .free)&&(decide (c.nm.lookup x=some .cell)||decide (c.nm.lookup x=some .free)))
def f6.slot(c:f6)(e:Expr):Option Nat:=(asName e).bind λx=>if c.B4 x then c.idx x else none
def f6.slots(c:f6):List Expr->Option (List Nat)
 |[]=>some []
 |e::r=>(c.slot e).bind λi=>(c.slots r).map λis=>i::is
def f6.tg(c:f6)(e:Expr):Option MT:=((c.slot e).map .one).orElse λ_=>match e with
 |.Tuple es _ _=>(c.slots es).map .many
 |_=>none
def zH:Const->Option D
 |.int i=>some (.int i)
 |.bool b=>some (.bl b)
 |.none=>some .bV
 |.str x=>some (.str x)
 |_=>none
structure CF where
 e:f6->Expr->Option ME
 t:f6->Expr->Option ME
 s:f6->Stmt->Option MS
section
variable(r:CF)(c:f6)
def c1(p:Pr)(a:Expr):Option ME:=(r.e c a).map λm=>.prim p (.cons m .nil)
def c2(p:Pr)(a b:Expr):Option ME:=(r.e c a).bind λma=>(r.e c b).map λmb=>.prim p (.cons ma (.cons mb .nil))
def E7:List Expr->Option ME
 |[]=>some .nil
 |e::es=>if fu e then(r.e c e).bind λm=>(E7 es).map λms=>.cons m ms else none
def tq:List (Option Expr)->List Expr->Option ME
 |[],[]=>some .nil
 |some k::ks,v::vs=>(r.e c k).bind λmk=>(r.e c v).bind λmv=>(tq ks vs).map λms=>.cons mk (.cons mv ms)
 |_,_=>none
def uI(op:BoolOp):List Expr->Option ME
 |[]=>none
 |[a]=>r.e c a
 |a::b::rs=>(r.e c a).bind λma=>(uI op (b::rs)).map λmb=>match op with
  |.And=>.dX ma mb
  |.Or=>.iU ma mb
def uJ(op:BoolOp):List Expr->Option ME
 |[]=>none
 |[a]=>r.t c a
 |a::b::rs=>(r.t c a).bind λma=>(uJ op (b::rs)).map λmb=>match op with
  |.And=>.dX ma mb
  |.Or=>.iU ma mb
def EY:List Expr->Option ME
 |[]=>some .no
 |[e]=>r.t c e
 |_=>none
def v9:List Stmt->Option MS
 |[]=>some .pass
 |s::rs=>(r.s c s).bind λm=>(v9 rs).map λms=>.seq m ms
def yg(x:Str):Option ME :=
 if X7 x then(if c.vL x then(c.idx x).map .var else if c.gl x then((c.con.lookup x).map .lit).orElse λ_=>if c.blt.contains x then(yc.lookup x).map λt=>.lit (.ty t) else none else none) else none
def vB(op:UnaryOp)(a:Expr):Option ME:=if op=.Not then(r.e c a).map .eW else c1 r c (.un op) a
def f6.vj(b:Expr):Option (List D):=(asName b).bind λx=>if c.gl x&&X7 x then c.gd.lookup x else none
def Ja:CmpOp->Option Bool
 |.In=>some false
 |.NotIn=>some true
 |_=>none
def tj(a:Expr)(ops:List CmpOp)(bs:List Expr):Option ME:=match ops,bs with
 |[op],[b]=>if behindInMarks op b then none else((Ja op).bind λneg=>(c.vj b).bind λkvs=>(r.e c a).map λma=>.prim (uM neg) (.cons (.lit (.tup kvs)) (.cons ma .nil))).orElse λ_=>c2 r c (.cmp op) a b
 |[op,gC],[b,d]=>if lastMarks [op,gC] [b,d] then none else(r.e c a).bind λma=>(r.e c b).bind λmb=>(r.e c d).map λmd=>.chain op gC ma mb md
 |_,_=>none
def IF:Expr->Option (Option Expr×Option Expr×Option Expr)
 |.Slice lo hi st _=>some (lo,hi,st)
 |_=>none
def Ag(a:Expr):Option Expr->Option Expr->Option Expr->Option ME
 |none,none,none=>c1 r c (.lH false false) a
 |some b,none,none=>c2 r c (.lH true false) a b
 |none,some b,none=>c2 r c (.lH false true) a b
 |_,_,_=>none
def zA(a b:Expr):Option ME:=((IF b).bind λq=>Ag r c a q.1 q.2.1 q.2.2).orElse λ_=>if fu b then((c.vj a).bind λkvs=>(r.e c b).map λmb=>.prim .lB (.cons (.lit (.tup kvs)) (.cons mb .nil))).orElse λ_=>c2 r c .ix a b else none
def vC(x:Str)(e:Expr):Option ME:=(uY e).bind λq =>
 if x="list" && q.1="range" && c.blt.contains "list" && c.blt.contains "range" && c.gl "range" then (match q.2 with
  |[a]=>if fu a then c1 r c .iH a else none
  |[a,b]=>if fu a&&fu b then c2 r c .jq a b else none
  | _=>none)
 else if x="sorted" && q.1="set" && c.blt.contains "sorted" && c.blt.contains "set" && c.gl "set" then (match q.2 with
  |[a]=>if fu a then c1 r c .sset a else none
  | _=>none)
 else if x="len" && q.1="set" && c.blt.contains "len" && c.blt.contains "set" && c.gl "set" then (match q.2 with
  |[a]=>if fu a then c1 r c .Y2 a else none
  | _=>none)
 else none
def JZ(x:Str)(e:Expr):List Expr->Option ME
 |[]=>vC r c x e
 |_=>none
def yD(x:Str):Option ME:=if X7 x&&c.gl x then((c.fns.lookup x).map λf=>.call f .nil).orElse λ_=>(c.cls.lookup x).map λf=>.make x f .nil else none
def yE(x:Str)(e:Expr)(es:List Expr):Option ME:=if X7 x&&c.gl x then(JZ r c x e es).orElse λ_=>(E7 r c (e::es)).bind λms=>((c.fns.lookup x).map λf=>.call f ms).orElse λ_=>((c.cls.lookup x).map λf=>.make x f ms).orElse λ_=>if c.blt.contains x then(yk.lookup x).map λp=>.prim p ms else none else none
def Fm(x:Str):List Expr->Option ME
 |[]=>yD c x
 |e::es=>yE r c x e es
def yF(o:Expr)(m:Str)(apos pos:Pos)(args:List Expr):Option ME :=
 if uU o && (apos.endLine == pos.line) && decide (args.length < 20) then (r.e c o).bind λmo=>(E7 r c args).bind λms=>if m="index" then none else if args.isEmpty && (vf.lookup m).isSome then (vf.lookup m).map λp=>.eG p mo ms else (match yt.lookup m with
  |some p=>if args.isEmpty then none else some (.eG p mo ms)
  | none=>none) else none
def yf(f:Expr)(args:List Expr)(iD:List Keyword)(pos:Pos):Option ME:=if iD.isEmpty then(match f with
 |.Name x _=>Fm r c x args
 |.Attribute o m apos=>yF r c o m apos pos args
 | _=>none) else none
def tu(tg e:Expr):Option ME:=(((uY e).bind λq =>
  if q.1="enumerate" then (match q.2 with
   |[a]=>if c.gl "enumerate"&&c.blt.contains "enumerate"&&fu a&&Eu tg then(r.e c a).map .lL else none
   | _=>none)
  else if q.1="range" then (match q.2 with
   |[a]=>if c.gl "range"&&c.blt.contains "range"&&fu a then(r.e c a).map .dQ else none
   |[a,b]=>if c.gl "range"&&c.blt.contains "range"&&fu a&&fu b then(r.e c a).bind λma=>(r.e c b).map λmb=>.js ma mb else none
   | _=>none)
  else none):Option ME).orElse λ_=>if fu e then (r.e c e).map .iu else none
def T2(elt:Expr)(gens:List Comprehension)(sc:Scope):Option ME:=match gens with
 |[⟨tg,it,ifs,AX⟩]=>if c.yT sc&&decide (AX=0)&&fu it then((c.inner sc).tg tg).bind λt=>(tu r c tg it).bind λmi=>(EY r (c.inner sc) ifs).bind λmc=>(r.e (c.inner sc) elt).map λme=>.comp (c.c8 sc) (frees sc++locals sc).length t mi mc me else none
 |_=>none
def ID:Expr->Option Str
 |.Name x _=>some x
 |_=>none
def IE:Expr->Option (Expr×List Comprehension×Scope)
 |.SetComp elt gens sc _=>some (elt,gens,sc)
 |_=>none
def JW:ME->Option ME
 |.comp a n t i k e=>some (.hZ a n t i k e)
 |_=>none
def vD(f:Expr)(args:List Expr)(iD:List Keyword):Option ME:=match args with
 |[a]=>if iD.isEmpty&&decide (ID f=some "sorted")&&c.gl "sorted"&&c.blt.contains "sorted" then(IE a).bind λq=>(T2 r c q.1 q.2.1 q.2.2).bind JW else none
 |_=>none
def tS(f:Expr)(args:List Expr)(iD:List Keyword):Option ME:=(λ(_:f6)=>none) c
def EL:Expr->Option ME
 |.Name x _=>yg c x
 |.Constant k _ _=>(zH k).map .lit
 |.BinOp a op b _=>c2 r c (.bin op) a b
 |.UnaryOp op a _=>vB r c op a
 |.Compare a ops bs _=>tj r c a ops bs
 |.BoolOp op vs _=>uI r c op vs
 |.IfExp t a b _=>(r.t c t).bind λmt=>(r.e c a).bind λma=>(r.e c b).map λmb=>.ite mt ma mb
 |.Tuple es _ _=>(E7 r c es).map (.prim .tup)
 |.List es _=>(E7 r c es).map (.prim .lst)
 |.Subscript a b _=>zA r c a b
 |.Dict ks vs _=>if ks.isEmpty&&vs.isEmpty then some (.prim .Y6 .nil) else if decide (ks.length<=15) then(tq r c ks vs).map .lW else none
 |.Attribute o f _=>if uU o then c1 r c (.fld f) o else none
 |.Call f args iD pos=>(vD r c f args iD).orElse λ_=>(tS c f args iD).orElse λ_=>yf r c f args iD pos
 |.ListComp elt gens sc _=>T2 r c elt gens sc
 |_=>none
def stepT:Expr->Option ME
 |.UnaryOp op a _=>if op=.Not then(r.t c a).map .eW else none
 |.BoolOp op vs _=>uJ r c op vs
 |.Compare a ops bs _=>(tj r c a ops bs).map .gJ
 |e=>if X6 e then(r.e c e).map .gJ else none
def Et:Expr->Option (Str×Pos)
 |.Name x p=>some (x,p)
 |_=>none
def Kc:Expr->Option (Expr×Expr)
 | .Tuple es _ _=>(match es with
  |[a,b]=>some (a,b)
  | _=>none)
 |_=>none
def f6.zx(x:Str)(px:Pos)(y:Str)(py:Pos)(a b:Expr):Bool:=decide (c.nm.lookup x=some .local)&&decide (c.nm.lookup y=some .local)&&decide (x≠y)&&decide (py.line=px.line)&&fu a&&fu b&&!([a,b].all (foldedForSure 8))&&!([a,b].all (constantsAlone 8))
def f6.uO:List Expr->Expr->Bool
 |[s,t],e=>((Et s).bind λp=>(Et t).bind λq=>(Kc e).map λz=>c.zx p.1 p.2 q.1 q.2 z.1 z.2).getD false
 |_,_=>false
def yH(e f:Option Expr):Option (Str×Expr×List Expr):=if f.isNone then e.bind λe=>(uY e).bind λq=>q.2.head?.map λa=>(q.1,a,q.2.tail) else none
def f6.zr(f:Str):List Str:=(c.mI.filter λy=>decide (y.1=f)).map (·.2)
def yj:List Expr->Option (Expr×Expr×Expr×Expr)
 |_=>none
def Fn(tg e:Expr):Option MS:=match tg with
 |.Name x _=>if c.B4 x then(c.idx x).bind λi=>(r.e c e).map λm=>.set i m else none
 |.Tuple es _ _=>(yj es).elim (if(qp e&&v7 e)||c.uO es e then(c.slots es).bind λis=>(r.e c e).map λm=>.mh (.many is) m else none) λq=>if v7 e&&fu q.2.1&&fu q.2.2.2 then(r.e c q.1).bind λm1=>(r.e c q.2.1).bind λn1=>(r.e c q.2.2.1).bind λm2=>(r.e c q.2.2.2).bind λn2=>(r.e c e).map λm=>.tV m1 n1 m2 n2 m else none
 |.Subscript o i _=>if fu i&&v7 e then(r.e c o).bind λmo=>(r.e c i).bind λmi=>(r.e c e).map λm=>.eh mo mi m else none
 |.Attribute o f _=>(r.e c o).bind λmo=>(r.e c e).map λm=>.mm f (c.zr f) mo m
 |_=>none
def toR(e:Expr)(m:ME):ME:=(λ(_:f6)=>m) c
def EM:Stmt->Option MS
 |.Expr e _=>if v7 e then(r.e c e).map .expr else none
 | .Assign vP e _=>(match vP with
  |[tg]=>Fn r c tg e
  | _=>none)
 |.If t a b _=>(r.t c t).bind λmt=>(v9 r c a).bind λma=>(v9 r c b).map λmb=>.ifs mt ma mb
 |.For tg it body mK _=>if c.lV&&(mK.isEmpty&&fu it) then(c.tg tg).bind λt=>(tu r c tg it).bind λmi=>(v9 r c body).map λmb=>.eL t mi mb else none
 |.While t body mK _=>if c.lV&&mK.isEmpty then(r.t c t).bind λmt=>(v9 r c body).map λmb=>.jm mt mb else none
 | .Return e _=>(match e with
  |some e=>(r.e c e).map λm=>.ret (toR c e m)
  | none=>some .og)
 |.Pass _=>some .pass
 |.Raise e f _=>(yH e f).bind λq=>if c.kc&&c.exc.contains q.1&&c.gl q.1&&X7 q.1 then(E7 r c (q.2.1::q.2.2)).map (.raise q.1) else none
 |_=>none
end
def comp:Nat->CF
 |0=>⟨λ_ _=>none,λ_ _=>none,λ_ _=>none⟩
 |n+1=>⟨EL (comp n),stepT (comp n),λc s=>(EM (comp n) c s).orElse λ_=>some (.expr .no)⟩
structure gM(X:Cx)(c:f6)(P:eR)(Ξ:gE):Prop where
 N:X.N=c.N
 nd:c.N.Nodup
 loc:∀x,c.nm.lookup x=some .local->X.env.scope.names.lookup x=some .local
 xV:∀x,c.nm.lookup x=some .cell->X.env.scope.names.lookup x=some .cell
 BG:∀x,c.nm.lookup x=some .free->X.env.scope.names.lookup x=some .cell\/X.env.scope.names.lookup x=some .free
 HQ:∀x,c.nm.lookup x=some .globalImplicit->X.env.scope.names.lookup x=some .globalImplicit
 cells:∀x,(c.nm.lookup x=some .cell\/c.nm.lookup x=some .free)->∃a,X.env.cells.lookup x=some a
 lV:∀x,c.nm.lookup x=some .cell->X.fn x=true
 calm:X.calm=true
 units:X.A.units+100<cLine
 own:c.lV=true->PassesOwn (model X.prog X.w) X.A X.env X.xe
 mono:j4 P
 con:∀x d,c.con.lookup x=some d->∃v u,X.mg x=some u/\RelV v u/\∀ρ H,d5 X.K ρ H d v
 blt:∀x,c.blt.contains x=true->X.mg x=none
 fns:∀x f,c.fns.lookup x=some f->∃k fa fd ps,mP X P Ξ.1 k f fa fd ps/\q8 k X.A/\X.mg x=some (.ref fa)/\PySem.W.keepIn X.K (.ref fa)=true
 cls:∀x f,c.cls.lookup x=some f->∃k C fa fd ps,mP X P Ξ.1 k f fa fd ps/\q8 (k+1) X.A/\X.mg x=some (.ref C)/\p8 X.K x C/\jg X.K C/\Mk X.K C fa
 ow:∀m y f C,(m,y,f)∈c.ow->p8 X.K y C->∃k fa fd ps,Meth X.K C m fa/\mP X P Ξ.1 k f fa fd ps/\q8 k X.A
 mI:∀f y C,(f,y)∈c.mI->p8 X.K y C->A2 X.K C f
 BH:Ξ.1=c.exc
 pass:Passes (iy X.prog X.w) X Ξ.2
 kc:c.kc=true->uX X Ξ.2
 ml:c.ml=true->X.stack=X.env::X.outer/\X.env.frame=some X.env.locals/\EX X Ξ.2
 exc:∀x,c.exc.contains x=true->∃C,X.mg x=some (.ref C)/\p8 X.K x C/\∃B newId fK bm,OwnCls x C bm newId X.mg X.base/\ExcBaseFacts B newId fK bm
 Ib:∀x y C C',c.exc.contains x=true->c.exc.contains y=true->p8 X.K x C->p8 X.K y C'->PySem.W.exmOne X.K (.ref C) (.ref C')=some (decide (x=y\/y="MintError"))
 uA:∀x kvs,c.gd.lookup x=some kvs->uG X x kvs
 code:c.lV=true->PySem.W.kdsCode X.K X.env.code=true
theorem Uu(h:c.idx x=some i):c.N[i]?=some x:=by
 unfold f6.idx at h;rw[jx] at h;obtain⟨h1,h2,_⟩:=h;rw[ai h1,bw h2]
theorem gM.LO(C:gM X c P Ξ)(h:c.vL x=true):vo X.env.scope x:=by
 unfold f6.vL at h;split at h
 ·rename_i e;exact .inl (C.loc x e)
 ·rename_i e;exact .inr (.inl (C.xV x e))
 ·rename_i e;rcases C.BG x e with z|z
  ·exact .inr (.inl z)
  ·exact .inr (.inr z)
 ·cases h
theorem gM.v8(C:gM X c P Ξ)(h:c.gl x=true):Gl X x:=C.HQ x (bw h)
theorem gM.B4(C:gM X c P Ξ){x:Str}(h:c.B4 x=true):Loc X.env.scope x/\(X.fn x=true\/X.env.scope.names.lookup x=some .local):=by
 unfold f6.B4 at h;rw[dZ] at h;rcases h with h|h
 ·have:=C.loc x (bw h);exact⟨.inl this,.inr this⟩
 ·exact⟨.inr (C.xV x (bw h)),.inl (C.lV x (bw h))⟩
theorem gM.qj(C:gM X c P Ξ)(h:c.idx x=some i):X.N[i]?=some x:=by rw[C.N];exact Uu h
theorem gM.pN(C:gM X c P Ξ):X.N.Nodup:=by rw[C.N];exact C.nd
theorem DO(h:asName e=some x):∃p,e=.Name x p:=by
 cases e<;>first|(cases h;exact⟨_,rfl⟩)|cases h
theorem Dp(h:c.slot e=some i):∃x p,e=.Name x p/\c.B4 x=true/\c.idx x=some i:=by
 unfold f6.slot at h;obtain⟨x,hx,h2⟩:=ah.mp h;obtain⟨p,rfl⟩:=DO hx;split at h2
 ·exact⟨x,p,rfl,by assumption,h2⟩
 ·cases h2
theorem gM.slots(C:gM X c P Ξ):∀{es:List Expr} {is:List Nat},c.slots es=some is->ff X es is:=by
 intro es
 induction es with
 |nil=>intro is h;cases h;exact .nil
 |cons e r ih =>
  intro is h;unfold f6.slots at h;obtain⟨i,hi,h⟩:=ah.mp h;obtain⟨VA,hs,rfl⟩:=ae.mp h;obtain⟨x,p,rfl,hl,hx⟩:=Dp hi;exact .cons (C.qj hx) (C.B4 hl).1 (C.B4 hl).2 (ih hs)
theorem orElse_some{α:Type}{a:Option α}{b:Unit->Option α}{m:α}(h:a.orElse b=some m):a=some m\/b ()=some m:=by
 cases a with
 |none=>exact .inr h
 |some x=>exact .inl h
theorem gM.Fu(C:gM X c P Ξ){tg:Expr}{t:MT}(h:c.tg tg=some t):PG X tg (LG X.K t):=by
 unfold f6.tg at h;rcases orElse_some h with h|h
 ·obtain⟨i,hi,rfl⟩:=ae.mp h;obtain⟨x,p,rfl,hl,hx⟩:=Dp hi;exact To C.pN (C.qj hx) (C.B4 hl).1 (C.B4 hl).2
 ·cases tg<;>first|(cases h;done)|skip
  obtain⟨is,hs,rfl⟩:=ae.mp (show(c.slots _).map MT.many=some t from h);exact CS C.calm C.pN (C.slots hs)
theorem m6(h:fu e=true):starEach (e::es) env=(false,eval e env)::starEach es env:=by
 cases e<;>first|rfl|cases h
theorem U5(h:fu e=true):∀x,foldedSetIterable e env x=pure x:=by
 intro x;cases e<;>first|rfl|cases h
theorem Fc(h:fu e=true):yG e:=by
 intro o i;cases e<;>first|rfl|cases h
theorem UJ{i:Expr}{tp:Pos}(h:fu i=true):∀v,assign (.Subscript o i tp) env v=(do
      let ov <- holding [v] (eval o env)
      let iv <- holding [v,ov] (eval i env)
      standAt tp
      holding [v,ov,iv] (setItem ov iv v)
      release [v,ov,iv] []):=by
  intro v;cases i<;>first|rfl|cases h
theorem X8{t:Option Expr}(h:v7 e=true):swapsWith e t n env=pure false:=by
 cases e<;>first|rfl|cases h
theorem Qe{k:Nat}{p:Pos}(h:qp e=true):swappedStores [.Tuple es k p] e env=pure none:=by
 cases e<;>first|rfl|cases h
theorem RZ(h:X6 e=true):∀whole,isTrue e env whole=(do let v <- whole;standAt e.pos;holding [v] (truthy v)):=by
 intro w;cases e<;>first|rfl|cases h
theorem Q9{q:Str×List Expr}(h:uY e=some q):∃p pos,e=.Call (.Name q.1 p) q.2 [] pos:=by
 cases e<;>first|(cases h;done)|skip
 rename_i f as iD pos;cases f<;>first|(cases h;done)|skip
 cases iD<;>first|(cases h;done)|skip
 cases h;exact⟨_,_,rfl⟩
theorem QZ(h:Eu e=true):∃es k p,e=.Tuple es k p:=by
 cases e<;>first|exact⟨_,_,_,rfl⟩|cases h
theorem De{kvs:List D}(h:c.vj b=some kvs):∃x p,b=.Name x p/\c.gl x=true/\X7 x=true/\c.gd.lookup x=some kvs:=by
 unfold f6.vj at h;obtain⟨x,hx,h2⟩:=ah.mp h;obtain⟨p,rfl⟩:=DO hx;split at h2
 ·rename_i hc;rw[bu] at hc;exact⟨x,p,rfl,hc.1,hc.2,h2⟩
 ·cases h2
theorem O0{f:Str}(h:uU o=true):attributeBase o f env (eval o env)=eval o env:=by
 cases o<;>first|rfl|skip
 rename_i f as iD pos;cases f<;>first|rfl|cases h
theorem yL{env:Env}:∀(names:List (Str×NameKind)) (acc:List (Str×Addr)),(∀y∈names,y.2=.free->∃a,env.cells.lookup y.1=some a)->(∀x a,acc.lookup x=some a->env.cells.lookup x=some a) ->
  ∃ cl,(forIn names acc λ(y:Str × NameKind) (cs:List (Str × Addr))=>(match y with
   |(name,kind)=>if(kind==NameKind.free)=true then do
     let __do_lift <- cellOf env name
     pure (ForInStep.yield ((name,__do_lift)::cs))
    else pure (ForInStep.yield cs):Sem (ForInStep (List (Str × Addr)))))=pure cl/\(∀ x a,cl.lookup x=some a->env.cells.lookup x=some a)/\(∀ y ∈ names,y.2=.free->∃ a,cl.lookup y.1=some a)/\∀ x a,acc.lookup x=some a->∃ a',cl.lookup x=some a'
 |[],acc,_,h2=>⟨acc,rfl,h2,λy hy=>absurd hy (by simp),λx a h=>⟨a,h⟩⟩
 |(n,k)::r,acc,h1,h2=>by
  rw[List.forIn_cons];by_cases hk:k=.free
  ·subst hk;obtain⟨a,ha⟩:=h1 (n,.free) (by simp) rfl;have hc:cellOf env n=pure a:=by unfold cellOf;rw[ha]
   obtain ⟨cl,e,q1,q2,q3⟩:=yL r ((n,a) :: acc) (λy hy=>h1 y (by simp [hy])) (λx b hb=>by
    rw[cq] at hb;cases hx:x==n with
    |true=>rw[hx] at hb;cases hb;rw[eq_of_beq hx];exact ha
    | false=>rw [hx] at hb;exact h2 x b hb)
   refine⟨cl,?_,q1,λy hy hf=>?_,λx b hb=>?_⟩
   ·simp only[beq_self_eq_true,if_true,hc];exact e
   ·rcases aD.mp hy with z|z
    ·subst z;exact q3 n a (by simp[List.lookup_cons])
    ·exact q2 y z hf
   ·cases hx:x==n with
    |true=>exact q3 x a (by rw[cq,hx])
    |false=>exact q3 x b (by rw[cq,hx];exact hb)
  ·have hb:(k==NameKind.free)=false:=by simpa using hk
   obtain⟨cl,e,q1,q2,q3⟩:=yL r acc (λy hy=>h1 y (by simp[hy])) h2;refine⟨cl,?_,q1,λy hy hf=>?_,q3⟩
   ·simp only[hb,Bool.false_eq_true,if_false];exact e
   ·rcases aD.mp hy with z|z
    ·subst z;exact absurd hf hk
    ·exact q2 y z hf
theorem RQ{P:Program}{w:World}:Passes (iy P w) X (λ_ _ _=>False):=λ_ _ _ _ _ _ _ h=>by
 obtain⟨_,_,_,_,_,_,_,z⟩:=h;exact z.elim
theorem M6{env:Env}:∀{names:List (Str×NameKind)} {x:Str},names.lookup x=some .globalImplicit ->
  (names.map λ(n,k)=>if(k==NameKind.free&&env.scope.kind==.function&&env.kindOf n==some .cell) then(n,NameKind.cell) else(n,k)).lookup x=some .globalImplicit
 |[],_,h=>by simp at h
 |(n,k)::r,x,h=>by
  have ih:=@M6 env r x;show List.lookup x ((if(k==NameKind.free&&env.scope.kind==.function&&env.kindOf n==some .cell)=true then(n,NameKind.cell) else(n,k))::_)=_;cases hx:x==n with
  |true =>
   simp only[List.lookup_cons,hx] at h;cases h;simp[List.lookup_cons,hx]
  |false =>
   simp only[List.lookup_cons,hx] at h;by_cases hc:(k==NameKind.free&&env.scope.kind==.function&&env.kindOf n==some .cell)=true
   ·rw[aN hc];simp only[List.lookup_cons,hx];exact ih h
   ·rw[aH hc];simp only[List.lookup_cons,hx];exact ih h
theorem gM.comp(C:gM X c P Ξ){sc:Scope}(h:c.yT sc=true):∃cl,cZ X sc (frees sc++locals sc) (c.c8 sc) cl/\∀pins A s H fp,gM (d4 X pins sc (frees sc++locals sc) cl A s H fp) (c.inner sc) P (pC Ξ.1):=by
 unfold f6.yT at h;simp only[Bool.and_eq_true,decide_eq_true_eq,List.all_eq_true] at h;obtain⟨⟨⟨⟨h1,h2⟩,h3⟩,h4⟩,h5⟩:=h;have kZ:∀x,sc.names.lookup x=some .free->x∈frees sc:=λx hx=>by
  unfold frees;exact aM.mpr ⟨(x,.free),bQ.mpr ⟨aI hx,by simp⟩,rfl⟩
 have fr:∀x∈frees sc,(∃i,c.idx x=some i)/\sc.names.lookup x=some .free/\(c.nm.lookup x=some .cell\/c.nm.lookup x=some .free):=λx hx=>by
  have:=h5 x hx;rw[dU,dZ] at this;simp only[decide_eq_true_eq] at this;exact⟨this.1.1,this.1.2,this.2⟩
 have pe:∀y∈sc.names,y.2=.free->∃a,X.env.cells.lookup y.1=some a:=λy hy hf=>by
  have hm:y.1∈frees sc:=aM.mpr ⟨y,bQ.mpr ⟨hy,by simp[hf]⟩,rfl⟩;exact C.cells y.1 (fr y.1 hm).2.2
 obtain⟨cl,e,q1,q2,_⟩:=yL sc.names [] pe (λx a h=>by simp at h);have h2:∀y∈sc.names,y.2=.cell->sc.names.lookup y.1=some .cell:=λy hy hl=>by
  have:=h2 y hy;rw[dZ] at this;simp only[Bool.not_eq_true',decide_eq_false_iff_not,decide_eq_true_eq] at this;exact this.resolve_left λz=>z hl
 refine⟨cl,⟨h1,h2,λy hy hl=>?_,?_,q1,λx hx=>q2 (x,.free) (aI hx) rfl,h4,λi j iM=>?_,?_⟩,λpins A s H fp=>?_⟩
 ·have:=h3 y hy;rw[dZ] at this;simp only[Bool.not_eq_true',decide_eq_false_iff_not,decide_eq_true_eq] at this;exact this.resolve_left λz=>z hl
 ·simp only[closureFor];rw[e]
  rfl
 ·unfold f6.c8 at iM;rw[aC] at iM;cases ex:(frees sc)[i]? with
  |none=>rw[ex] at iM;cases iM
  |some x =>
   rw[ex] at iM;have hx:x∈frees sc:=aL ex;obtain⟨⟨k,hk⟩,hl,hc⟩:=fr x hx;have hj:k=j:=by
    have:=aE iM;dsimp only at this;rw[hk] at this;exact this
   subst hj;refine⟨x,?_,C.qj hk,hl,?_⟩
   ·rw[aw (ao.mp ex).1];exact ex
   ·rcases hc with z|z
    ·exact .inl (C.xV x z)
    ·exact C.BG x z
 ·unfold f6.c8;rw[ak,aK];omega
 ·refine⟨rfl,h4,λx hx=>lookup_relabel_local hx,λx hx=>?_,λx hx=>C8 hx,λx hx=>M6 hx,λx hx=>?_,λx _=>?_,rfl,C.units,(λ_=>PassesOwn.never),C.mono,C.con,C.blt,C.fns,C.cls,C.ow,C.mI,C.BH,RQ,(λz=>by cases z),(λz=>by cases z),C.exc,C.Ib,C.uA,(λz=>by cases z)⟩
  ·exact J9 hx
  ·rcases hx with hx|hx
   ·exact DB (.inl hx)
   ·exact DB (.inr (q2 (x,.free) (aI hx) rfl))
  ·exact aX ‹_›
theorem F6(h:X7 x=true):(x==("__debug__":Str))=false/\(x==("__classdict__":Str))=false/\x≠"__name__":=by
 unfold X7 at h;simp only[Bool.and_eq_true,decide_eq_true_eq,beq_iff_eq] at h;exact⟨h.1.1,h.1.2,h.2⟩
theorem QU{t:String}(h:yc.lookup x=some t):bootBuiltins x=some (.type t):=by
 have hm:=aI h;simp only[yc,List.mem_cons,List.mem_nil_iff,or_false] at hm;rcases hm with z|z|z|z|z<;>(cases z;first|exact tN|exact PyProof.Rows.boot_bool|exact PyProof.Rows.boot_str|exact pI|exact eJ|decide +kernel|rfl)
theorem Ra(hc:X.calm=true)(h:yk.lookup x=some p):∃v,((∃id,v=.builtin id)\/∃T,v=.type T)/\bootBuiltins x=some v/\i8 X v (rN X.K p):=by
 have hm:=aI h;simp only[yk,List.mem_cons,List.mem_nil_iff,or_false] at hm;rcases hm with z|z|z|z|z|z|z|z|z|z|z|z
 ·cases z;exact⟨.builtin "len",.inl ⟨_,rfl⟩,PySem.boot_len,My⟩
 ·cases z;exact⟨.type "list",.inr ⟨_,rfl⟩,by first|exact eJ|decide +kernel,UC hc⟩
 ·cases z;exact⟨.type "tuple",.inr ⟨_,rfl⟩,by first|exact pI|decide +kernel,QS⟩
 ·cases z;exact⟨.builtin "isinstance",.inl ⟨_,rfl⟩,by first|exact PyProof.Rows.boot_isinstance|decide +kernel,Uv⟩
 ·cases z;exact⟨.builtin "all",.inl ⟨_,rfl⟩,by first|exact PyProof.Rows.boot_all|decide +kernel,L' hc⟩
 ·cases z;exact⟨.builtin "max",.inl ⟨_,rfl⟩,by first|exact PyProof.Rows.boot_max|decide +kernel,MD hc⟩
 ·cases z;exact⟨.builtin "min",.inl ⟨_,rfl⟩,by first|exact PyProof.Rows.boot_min|decide +kernel,MF hc⟩
 ·cases z;exact⟨.type "int",.inr ⟨_,rfl⟩,by first|exact tN|decide +kernel,Mn⟩
 ·cases z;exact⟨.builtin "any",.inl ⟨_,rfl⟩,by first|exact PyProof.Rows.boot_any|decide +kernel,Ma hc⟩
 ·cases z;exact⟨.builtin "sorted",.inl ⟨_,rfl⟩,by first|exact fU|decide +kernel,QM hc⟩
 ·cases z;exact⟨.builtin "sum",.inl ⟨_,rfl⟩,by first|exact PyProof.Rows.boot_sum|decide +kernel,TB hc⟩
 ·cases z;exact⟨.type "set",.inr ⟨_,rfl⟩,by first|exact gX|decide +kernel,UA hc⟩
theorem SJ(h:vf.lookup x=some p):∃T id,PlainAttrs T/\Slot T x id/\typeOf (.builtin id)=pure (.type "method_descriptor")/\mO X id (rM X.K p) /\
  ∀{d:D} {v:V} {g:G} {ρ:List Addr} {H:Hp},Rl X.K ρ g H->d5 X.K ρ H d v->lJ p d g->mj X.K T v H:=by
 cases h
theorem RH(hu:X.A.units+100<cLine)(h:yt.lookup x=some p):∃T id,PlainAttrs T/\Slot T x id/\typeOf (.builtin id)=pure (.type "method_descriptor")/\mO X id (rM X.K p) /\
  ∀{d:D} {v:V} {g:G} {ρ:List Addr} {H:Hp},Rl X.K ρ g H->d5 X.K ρ H d v->lJ p d g->mj X.K T v H:=by
 have hm:=aI h;simp only[yt,List.mem_cons,List.mem_nil_iff,or_false] at hm;rcases hm with z|z|z
 ·cases z;exact⟨_,_,pG,PySem.F.slot_list_append,PySem.F.type_list_append,QX,λR r h=>ty_list R r h⟩
 ·cases z;exact⟨_,_,pG,PySem.F.slot_list_pop,PySem.F.type_list_pop,Qr,λR r h=>ty_list R r h⟩
 ·cases z;exact⟨_,_,PySem.F.plainAttrs_dict,gW,PySem.F.type_dict_get,Mi hu,λR r h=>ty_dict R r h⟩
theorem Dq{pos:Pos}{env:Env}:∀{es:List Expr},(∀e∈es,fu e=true)->(backTo pos (starEach es env)).all (λx=>!x.1)=true
 |[],_=>rfl
 |e::es,h=>by
  rw[m6 (h e (by simp))];have ih:=Dq (pos:=pos) (env:=env) (es:=es) λx hx=>h x (by simp[hx]);unfold backTo at ih ⊢;rw[aV,List.all_cons,ih]
  rfl
theorem T8{pos:Pos}{env:Env}:∀{es:List Expr},(∀e∈es,fu e=true)->(backTo pos (starEach es env)).any (·.1)=false
 |[],_=>rfl
 |e::es,h=>by
  rw[m6 (h e (by simp))];have ih:=T8 (pos:=pos) (env:=env) (es:=es) λx hx=>h x (by simp[hx]);unfold backTo at ih ⊢;rw[aV,fV,ih]
  rfl
theorem yY:∀{es:List Expr} {m:ME},E7 r c es=some m->∀e∈es,fu e=true:=by
 intro es
 induction es with
 |nil=>intro m _ e he;exact absurd he (by simp)
 |cons a es ih =>
  intro m h e he;unfold E7 at h;split at h
  ·obtain⟨m1,h1,h⟩:=ah.mp h;obtain⟨m2,h2,_⟩:=ae.mp h;rcases aD.mp he with z|z
   ·rw[z];assumption
   ·exact ih h2 e z
  ·cases h
structure nL(P:eR)(r:CF):Prop where
 e:∀X c Ξ,gM X c P Ξ->∀e m,r.e c e=some m->PE X e (LE X.K Ξ (aT P m))
 t:∀X c Ξ,gM X c P Ξ->∀e m,r.t c e=some m->PT X e (LT X.K Ξ (da P m))
 s:∀X c Ξ,gM X c P Ξ->∀st m,r.s c st=some m->PS X st (LS X.K Ξ (wpS P m))
section
variable(S:nL P r)(C:gM X c P Ξ)
include S C
theorem T1(h:c1 r c p a=some m):∃ma,PE X a (LE X.K Ξ (aT P ma))/\m=.prim p (.cons ma .nil):=by
 obtain⟨ma,ha,rfl⟩:=ae.mp h;exact⟨ma,S.e X c Ξ C _ _ ha,rfl⟩
theorem S7(h:c2 r c p a b=some m):∃ma mb,PE X a (LE X.K Ξ (aT P ma))/\PE X b (LE X.K Ξ (aT P mb))/\m=.prim p (.cons ma (.cons mb .nil)):=by
 obtain⟨ma,ha,h⟩:=ah.mp h;obtain⟨mb,hb,rfl⟩:=ae.mp h;exact⟨ma,mb,S.e X c Ξ C _ _ ha,S.e X c Ξ C _ _ hb,rfl⟩
theorem pO:∀{es:List Expr} {m:ME},E7 r c es=some m->PA X es (LA X.K Ξ (ft P m)):=by
 intro es
 induction es with
 |nil=>intro m h;cases h;exact L8 C.mono
 |cons a es ih =>
  intro m h;unfold E7 at h;split at h
  ·rename_i bD;obtain⟨m1,h1,h⟩:=ah.mp h;obtain⟨m2,h2,rfl⟩:=ae.mp h;exact C6 C.mono (S.e X c Ξ C _ _ h1) (ih h2) (m6 bD)
  ·cases h
theorem Gw:∀{ks:List (Option Expr)} {vs:List Expr} {m:ME},tq r c ks vs=some m->∃gA,ky X Ξ P ks vs m gA:=by
 intro ks
 induction ks with
 |nil=>intro vs m h;cases vs<;>first|(cases h;exact⟨_,.nil⟩)|cases h
 |cons k ks ih =>
  intro vs m h;cases k<;>first|(cases h;done)|skip
  cases vs<;>first|(cases h;done)|skip
  unfold tq at h;obtain⟨m1,h1,h⟩:=ah.mp h;obtain⟨m2,h2,h⟩:=ah.mp h;obtain⟨m3,h3,rfl⟩:=ae.mp h;obtain⟨gA,D⟩:=ih h3;exact⟨_,.cons (S.e X c Ξ C _ _ h1) (S.e X c Ξ C _ _ h2) D⟩
theorem Gx{op:BoolOp}:∀{vs:List Expr} {m:ME},uI r c op vs=some m->PE X (.BoolOp op vs pos) (LE X.K Ξ (aT P m)):=by
 intro vs
 induction vs with
 |nil=>intro m h;cases h
 |cons a vs ih =>
  intro m h;cases vs with
  |nil=>exact Nc (S.e X c Ξ C _ _ h)
  |cons b vs =>
   unfold uI at h;obtain⟨m1,h1,h⟩:=ah.mp h;obtain⟨m2,h2,rfl⟩:=ae.mp h;cases op
   ·exact Ta C.mono (S.e X c Ξ C _ _ h1) (ih h2)
   ·exact Lp C.mono (S.e X c Ξ C _ _ h1) (ih h2)
theorem Gp{op:BoolOp}:∀{vs:List Expr} {m:ME},uJ r c op vs=some m->PW X (.BoolOp op vs pos) (LT X.K Ξ (da P m)):=by
 intro vs
 induction vs with
 |nil=>intro m h;cases h
 |cons a vs ih =>
  intro m h;cases vs with
  |nil =>
   cases op
   ·exact OS (S.t X c Ξ C _ _ h)
   ·exact SS (S.t X c Ξ C _ _ h)
  |cons b vs =>
   unfold uJ at h;obtain⟨m1,h1,h⟩:=ah.mp h;obtain⟨m2,h2,rfl⟩:=ae.mp h;cases op
   ·exact TC C.mono (S.t X c Ξ C _ _ h1) (ih h2)
   ·exact Ls C.mono (S.t X c Ξ C _ _ h1) (ih h2)
theorem Jm(h:EY r c es=some m):jW X es (LT X.K Ξ (da P m)):=by
 rcases es with _|⟨e,_|⟨_,_⟩⟩
 ·cases h;exact Pn C.mono
 ·exact OQ (S.t X c Ξ C _ _ h)
 ·cases h
theorem sY:∀{Ap:List Stmt} {m:MS},v9 r c Ap=some m->jc X Ap (LS X.K Ξ (wpS P m)):=by
 intro es
 induction es with
 |nil=>intro m h;cases h;exact Tt C.mono
 |cons a es ih =>
  intro m h;unfold v9 at h;obtain⟨m1,h1,h⟩:=ah.mp h;obtain⟨m2,h2,rfl⟩:=ae.mp h;exact Pl C.mono (S.s X c Ξ C _ _ h1) (ih h2)
end
theorem Ek{t:Expr}(h:v7 e=true):swapsWithSole [t] e n env=pure false:=by
 show swapsWith e (some t) n env=pure false;exact X8 h
theorem SN{y:Str}{py pt mX:Pos}{kt k2:Nat}(hk:env.scope.kind=.function)(hx:env.kindOf x=some .local)(hy:env.kindOf y=some .local)(dI:x≠y)(hl:py.line=px.line)(ha:fu a=true)(hb:fu b=true)(h1:[a,b].all (foldedForSure 8)=false)(h2:[a,b].all (constantsAlone 8)=false):swappedStores [.Tuple [.Name x px,.Name y py] kt pt] (.Tuple [a,b] k2 mX) env=pure (some [x,y]):=by
 have Hn:env.blockKind=.function:=by simp[Env.blockKind,hk,ScopeKind.isAnnotationScope]
 have hd:[x,y].eraseDups.length=2:=by
  have:(y==x)=false:=by simpa using bU dI
  simp[List.eraseDups_cons,this]
 have rO:(env.kindOf x==some NameKind.local&&px.line==px.line)=true:=by simp[hx]
 have wu:(env.kindOf y==some NameKind.local&&py.line==px.line)=true:=by simp[hy,hl]
 have hp:Expr.pos (.Name x px)=px:=rfl;unfold swappedStores;simp only[List.length_cons,List.length_nil,Hn,List.head?_cons,Option.map_some,Option.getD_some,hp,List.filterMap_cons,List.filterMap_nil,rO,wu,if_true,hd,h1,h2];rw[aH (by decide),aH ?_]
 ·rfl
 ·simp only[List.any_cons,List.any_nil,Bool.or_false,Bool.or_eq_true,not_or];constructor
  ·cases a<;>first|(intro h;cases h;done)|cases ha
  ·cases b<;>first|(intro h;cases h;done)|cases hb
theorem TH(hP:j4 P){j:Nat}{y:Str}{py pt mX:Pos}{kt k2:Nat}{fZ:ME}(hc:X.calm=true)(hN:X.N.Nodup)(hi:X.N[i]?=some x)(hj:X.N[j]?=some y)(dI:x≠y)(hl:py.line=px.line)(hx:X.env.scope.names.lookup x=some .local)(hy:X.env.scope.names.lookup y=some .local)(oa:fu a=true)(ob:fu b=true)(h1:[a,b].all (foldedForSure 8)=false)(h2:[a,b].all (constantsAlone 8)=false)(ha:PA X [a,b] (LA X.K Ξ (ft P fZ))):PS X (.Assign [.Tuple [.Name x px,.Name y py] kt pt] (.Tuple [a,b] k2 mX) pos) (LS X.K Ξ (wpS P (.mh (.many [i,j]) (.prim .tup fZ)))):=by
 intro pins s bP H D I h;have iM:i≠j:=by
  rintro rfl;rw[hi] at hj;cases hj;exact dI rfl
 refine Nm hc hN hi hj iM hx hy ha (SN I.ok.kind hx hy dI hl oa ob h1 h2) rfl pins s bP H D I ?_;obtain⟨Z,g,ρ,sr,R,h⟩:=h;refine jy hP sr R (.refl _ _) (show ft P fZ Z g (λxs g1=>cT .tup xs g1 _) _ from h) λds g1 bK H1 vs e1 R1 r1 h=>?_;obtain⟨d',g',⟨_,rfl,rfl⟩,l,bJ,ex,hs,h⟩:=h;cases ex;have hl:=U3 hs;have e2:∃d1 d2,ds=[d1,d2]:=by
  rcases ds with _|⟨d1,_|⟨d2,_|⟨d3,r⟩⟩⟩<;>first|exact⟨_,_,rfl⟩|(simp at hl;done)|(simp at hl;omega)
 obtain⟨d1,d2,rfl⟩:=e2;obtain⟨v,w,rfl,q1,q2⟩:=r1.two;cases hs;exact⟨_,_,rfl,h bK H1 _ e1 R1 (((sr.ext e1).set i q1).set j q2)⟩
section
variable(S:nL P r)(C:gM X c P Ξ){d:Expr}
include C
theorem MH(h:yg c x=some m):PE X (.Name x pos) (LE X.K Ξ (aT P m)):=by
 unfold yg at h;split at h
 ·rename_i gD;obtain⟨d1,d2,d3⟩:=F6 gD;split at h
  ·rename_i hv;obtain⟨i,hi,rfl⟩:=ae.mp h;exact Tj (C.qj hi) (C.LO hv) d1 d2
  ·split at h
   ·rename_i hg;rcases orElse_some h with h|h
    ·obtain⟨d,hd,rfl⟩:=ae.mp h;obtain⟨v,u,hm,r,rr⟩:=C.con x d hd;exact R0 (Z9 (C.v8 hg) hm r d1) rr
    ·split at h
     ·rename_i hb;obtain⟨t,ht,rfl⟩:=ae.mp h;exact R0 (v:=.ty t) (UT (C.v8 hg) (C.blt x hb) (QU ht) rfl d3 d1) λ_ _=>.ty t
     ·cases h
   ·cases h
 ·cases h
omit C in
theorem Gu{k:Const}{j:Nat}{d:D}(h:zH k=some d):PE X (.Constant k j pos) (LE X.K Ξ (aT P (.lit d))):=by
 cases k<;>first|(cases h;done)|skip
 ·cases h;exact R0 Na λ_ _=>.bV
 ·cases h;exact R0 Lb λ_ _=>.bl _
 ·cases h;exact R0 MZ λ_ _=>.int _
 ·cases h;exact R0 Nd λ_ _=>.str _
include S
theorem Jn{op:UnaryOp}(h:vB r c op a=some m):PE X (.UnaryOp op a pos) (LE X.K Ξ (aT P m)):=by
 unfold vB at h;split at h
 ·rename_i ho;subst ho;obtain⟨ma,ha,rfl⟩:=ae.mp h;exact Th C.mono (S.e X c Ξ C _ _ ha)
 ·obtain⟨ma,ha,rfl⟩:=T1 S C h;exact Lq C.mono ha
theorem EF{ops:List CmpOp}{bs:List Expr}(h:tj r c a ops bs=some m):PE X (.Compare a ops bs pos) (LE X.K Ξ (aT P m))/\PT X (.Compare a ops bs pos) (LT X.K Ξ (da P (.gJ m))):=by
 unfold tj at h;split at h
 ·rename_i op b;split at h
  ·cases h
  ·rename_i hm;have hm:behindInMarks op b=false:=by simpa using hm
   rcases orElse_some h with h|h
   ·obtain⟨neg,hn,h⟩:=ah.mp h;obtain⟨kvs,hk,h⟩:=ah.mp h;obtain⟨ma,ha,rfl⟩:=ae.mp h;obtain⟨x,p,rfl,hg,hd,hk⟩:=De hk;have ho:op=if neg then .NotIn else .In:=by cases op<;>cases hn<;>rfl
    subst ho;exact⟨Te C.mono (C.v8 hg) (F6 hd).1 (C.uA x kvs hk) (S.e X c Ξ C _ _ ha) hm,Tu C.mono (C.v8 hg) (F6 hd).1 (C.uA x kvs hk) (S.e X c Ξ C _ _ ha) hm⟩
   ·obtain⟨ma,mb,ha,hb,rfl⟩:=S7 S C h;exact⟨yw C.mono (CI (R7 C.units op) ha hb hm),Tw C.mono (CM (R7 C.units op) ha hb hm)⟩
 ·split at h
  ·cases h
  ·rename_i hm;obtain⟨ma,ha,h⟩:=ah.mp h;obtain⟨mb,hb,h⟩:=ah.mp h;obtain⟨md,hd,rfl⟩:=ae.mp h;exact⟨QB C.mono C.units (S.e X c Ξ C _ _ ha) (S.e X c Ξ C _ _ hb) (S.e X c Ξ C _ _ hd) (by simpa using hm),QN C.mono C.units (S.e X c Ξ C _ _ ha) (S.e X c Ξ C _ _ hb) (S.e X c Ξ C _ _ hd) (by simpa using hm)⟩
 ·cases h
theorem Jk{lo hi st:Option Expr}{p2:Pos}(h:Ag r c a lo hi st=some m):PE X (.Subscript a (.Slice lo hi st p2) pos) (LE X.K Ξ (aT P m)):=by
 cases lo<;>cases hi<;>cases st<;>first|(cases h;done)|skip
 ·obtain⟨ma,ha,rfl⟩:=T1 S C h;exact QH C.mono ha
 ·obtain⟨ma,mb,ha,hb,rfl⟩:=S7 S C h;exact QI C.mono ha hb
 ·obtain⟨ma,mb,ha,hb,rfl⟩:=S7 S C h;exact QJ C.mono ha hb
theorem KQ(h:zA r c a b=some m):PE X (.Subscript a b pos) (LE X.K Ξ (aT P m)):=by
 unfold zA at h;rcases orElse_some h with h|h
 ·obtain⟨q,hq,h⟩:=ah.mp h;have eb:∃p,b=.Slice q.1 q.2.1 q.2.2 p:=by cases b<;>first|(cases hq;exact⟨_,rfl⟩)|cases hq
  obtain⟨p,rfl⟩:=eb;exact Jk S C h
 ·split at h
  ·rename_i hb;rcases orElse_some h with h|h
   ·obtain⟨kvs,hk,h⟩:=ah.mp h;obtain⟨mb,jB,rfl⟩:=ae.mp h;obtain⟨x,p,rfl,hg,hd,hk⟩:=De hk;exact OW C.mono (C.v8 hg) (F6 hd).1 (C.uA x kvs hk) (S.e X c Ξ C _ _ jB) (Fc hb)
   ·obtain⟨ma,mb,ha,jB,rfl⟩:=S7 S C h;exact yw C.mono (EG (Kz C.units) ha jB (Fc hb))
  ·cases h
theorem Jl(hg:c.gl x=true)(h:vC r c x e=some m):PE X (.Call (.Name x px) [e] [] pos) (LE X.K Ξ (aT P m)):=by
 unfold vC at h;obtain⟨q,hq,h'⟩:=ah.mp h;clear h;have h:=h';clear h';obtain⟨p,pos',rfl⟩:=Q9 hq;obtain⟨y,as⟩:=q;dsimp only at h ⊢;split at h
 ·rename_i hc;simp only[Bool.and_eq_true,decide_eq_true_eq] at hc;obtain⟨⟨⟨⟨rfl,rfl⟩,hl⟩,hr⟩,pX⟩:=hc;rcases as with _|⟨a,_|⟨b,_|⟨_,_⟩⟩⟩
  ·cases h
  ·dsimp only at h;split at h
   ·rename_i ho;obtain⟨ma,ha,rfl⟩:=T1 S C h;exact QC C.mono C.calm ha (C.v8 hg) (C.blt _ hl) (C.v8 pX) (C.blt _ hr) (m6 ho)
   ·cases h
  ·dsimp only at h;split at h
   ·rename_i ho;rw[bu] at ho;obtain⟨ma,mb,ha,hb,rfl⟩:=S7 S C h;exact QD C.mono C.calm ha hb (C.v8 hg) (C.blt _ hl) (C.v8 pX) (C.blt _ hr) (by rw[m6 ho.1,m6 ho.2];rfl) (m6 ho.2)
   ·cases h
  ·cases h
 ·split at h
  ·rename_i hc;simp only[Bool.and_eq_true,decide_eq_true_eq] at hc;obtain⟨⟨⟨⟨rfl,rfl⟩,hl⟩,hr⟩,pX⟩:=hc;rcases as with _|⟨a,_|⟨_,_⟩⟩
   ·cases h
   ·dsimp only at h;split at h
    ·rename_i ho;obtain⟨ma,ha,rfl⟩:=T1 S C h;exact Pa C.mono C.calm ha (C.v8 hg) (C.blt _ hl) (C.v8 pX) (C.blt _ hr) (m6 ho)
    ·cases h
   ·cases h
  ·split at h
   ·rename_i hc;simp only[Bool.and_eq_true,decide_eq_true_eq] at hc;obtain⟨⟨⟨⟨rfl,rfl⟩,hl⟩,hr⟩,pX⟩:=hc;rcases as with _|⟨a,_|⟨_,_⟩⟩
    ·cases h
    ·dsimp only at h;split at h
     ·rename_i ho;obtain⟨ma,ha,rfl⟩:=T1 S C h;exact OX C.mono C.calm ha (C.v8 hg) (C.blt _ hl) (C.v8 pX) (C.blt _ hr) (m6 ho)
     ·cases h
    ·cases h
   ·cases h
theorem UH(h:Fm r c x args=some m):PE X (.Call (.Name x px) args [] pos) (LE X.K Ξ (aT P m)):=by
 cases args with
 |nil =>
  have h2:yD c x=some m:=h;unfold yD at h2;split at h2
  ·rename_i gD;rw[bu] at gD;rcases orElse_some h2 with h2|h2
   ·obtain⟨f,hf,rfl⟩:=ae.mp h2;obtain⟨k,fa,fd,ps,F,hr,hm,hk⟩:=C.fns x f hf;exact QA C.mono C.pass F hr (C.v8 gD.2) hm hk (F6 gD.1).1
   obtain⟨f,hf,rfl⟩:=ae.mp h2;obtain⟨k,C',fa,fd,ps,F,hr,hm,hC,jS,M⟩:=C.cls x f hf;exact QE C.mono C.pass F M hC jS hr (C.v8 gD.2) hm (F6 gD.1).1
  ·cases h2
 |cons e es =>
  have h0:yE r c x e es=some m:=h;clear h;have h:=h0;clear h0;unfold yE at h;split at h
  ·rename_i gD;rw[bu] at gD;obtain⟨d1,d2,d3⟩:=F6 gD.1;rcases orElse_some h with h|h
   ·cases es with
    |nil=>exact Jl S C gD.2 h
    |cons _ _=>cases h
   ·obtain⟨ms,nk,h⟩:=ah.mp h;have ok:=yY nk;have pa:=pO S C nk;have dR:=m6 (env:=X.env) (es:=es) (ok e (by simp));have gx:=T8 (pos:=pos) (env:=X.env) (es:=es) λz hz=>ok z (by simp[hz]);rcases orElse_some h with h|h
    ·obtain⟨f,hf,rfl⟩:=ae.mp h;obtain⟨k,fa,fd,ps,F,hr,hm,hk⟩:=C.fns x f hf;exact OU C.mono C.pass F hr (C.v8 gD.2) hm hk pa d1 dR gx
    ·rcases orElse_some h with h|h
     ·obtain⟨f,hf,rfl⟩:=ae.mp h;obtain⟨k,C',fa,fd,ps,F,hr,hm,hC,jS,M⟩:=C.cls x f hf;exact OY C.mono C.pass F M hC jS hr (C.v8 gD.2) hm pa d1 dR gx
     ·split at h
      ·rename_i hb;obtain⟨p,hp,rfl⟩:=ae.mp h;obtain⟨v,hv,wY,hc⟩:=Ra (X:=X) C.calm hp;exact Tb C.mono hv hc (C.v8 gD.2) (C.blt x hb) wY pa d3 d1 dR gx
      ·cases h
  ·cases h
theorem UG{mt:Str}{apos:Pos}(h:yF r c o mt apos pos args=some m):PE X (.Call (.Attribute o mt apos) args [] pos) (LE X.K Ξ (aT P m)):=by
 unfold yF at h;split at h
 ·rename_i hc;simp only[Bool.and_eq_true,decide_eq_true_eq] at hc;obtain⟨⟨hb,hl⟩,hn⟩:=hc;obtain⟨mo,ho,h⟩:=ah.mp h;obtain⟨ms,nk,h⟩:=ah.mp h;have ok:=yY nk;have pa:=pO S C nk;have po:=S.e X c Ξ C _ _ ho;have hf:methodCallForm args.length (backTo pos (starEach args X.env)) (backToKw pos (keywordEach [] X.env))=true:=by
   unfold methodCallForm;rw[Dq ok];have:args.length+0<30:=by omega
   show(true&&true&&decide (args.length+0<30))=true;rw[aX this]
   rfl
  by_cases rX:mt="index"
  ·subst rX;rw[aN rfl] at h;cases h
  rw[aH rX] at h;cases args with
  |nil =>
   cases nk;by_cases h0:(vf.lookup mt).isSome=true
   ·rw[aN (by rw[h0];rfl)] at h;obtain⟨p,hp,rfl⟩:=ae.mp h;obtain⟨T,id,vV,sl,ty,vY,hk⟩:=SJ (X:=X) hp;exact QF C.mono vV sl ty vY hk po (O0 hb) hl
   rw[aH (by rw[bu];exact λz=>h0 z.2)] at h;split at h
   ·cases h
   ·cases h
  |cons e es =>
   have dR:=m6 (env:=X.env) (es:=es) (ok e (by simp));have gx:=T8 (pos:=pos) (env:=X.env) (es:=es) λz hz=>ok z (by simp[hz]);rw[aH (by simp)] at h;split at h
   ·rename_i p hp;cases h;obtain⟨T,id,vV,sl,ty,vY,hk⟩:=RH (X:=X) C.units hp;exact OZ C.mono vV sl ty vY hk po pa (O0 hb) hf hl dR gx
   ·cases h
 ·cases h
theorem AN{tg:Expr}(h:tu r c tg e=some m):PI X tg e (LI X.K Ξ (hU P m)):=by
 unfold tu at h;rcases orElse_some h with h|h
 ·obtain⟨q,hq,h'⟩:=ah.mp h;rename_i h0;clear h h0;have h:=h';clear h';obtain⟨p,pos',rfl⟩:=Q9 hq;obtain⟨y,as⟩:=q;dsimp only at h ⊢;split at h
  ·rename_i hy;subst hy;rcases as with _|⟨a,_|⟨_,_⟩⟩
   ·cases h
   ·dsimp only at h;split at h
    ·rename_i hc;simp only[Bool.and_eq_true] at hc;obtain⟨⟨⟨hg,hb⟩,ho⟩,ht⟩:=hc;obtain⟨ma,ha,rfl⟩:=ae.mp h;obtain⟨es,k,tp,rfl⟩:=QZ ht;exact Pe C.mono (S.e X c Ξ C _ _ ha) (C.v8 hg) (C.blt _ hb) (m6 ho)
    ·cases h
   ·cases h
  ·split at h
   ·rename_i hy;subst hy;rcases as with _|⟨a,_|⟨b,_|⟨_,_⟩⟩⟩
    ·cases h
    ·dsimp only at h;split at h
     ·rename_i hc;simp only[Bool.and_eq_true] at hc;obtain⟨⟨hg,hb⟩,ho⟩:=hc;obtain⟨ma,ha,rfl⟩:=ae.mp h;exact Pf C.mono (S.e X c Ξ C _ _ ha) (C.v8 hg) (C.blt _ hb) (m6 ho)
     ·cases h
    ·dsimp only at h;split at h
     ·rename_i hc;simp only[Bool.and_eq_true] at hc;obtain⟨⟨⟨hg,hb⟩,ho⟩,lN⟩:=hc;obtain⟨ma,ha,h⟩:=ah.mp h;obtain⟨mb,jB,rfl⟩:=ae.mp h;exact Ph C.mono (S.e X c Ξ C _ _ ha) (S.e X c Ξ C _ _ jB) (C.v8 hg) (C.blt _ hb) (by rw[m6 ho,m6 lN];rfl) (m6 lN)
     ·cases h
    ·cases h
   ·cases h
 ·split at h
  ·obtain⟨ma,ha,rfl⟩:=ae.mp h;exact Tp C.mono (S.e X c Ξ C _ _ ha)
  ·cases h
theorem yS{elt:Expr}{gens:List Comprehension}{sc:Scope}(h:T2 r c elt gens sc=some m):∃tg it ifs t mi mc me cl,gens=[⟨tg,it,ifs,0⟩]/\m=.comp (c.c8 sc) (frees sc++locals sc).length t mi mc me/\fu it=true /\
  cZ X sc (frees sc++locals sc) (c.c8 sc) cl/\PI X tg it (LI X.K Ξ (hU P mi))/\(∀pins A s H fp,PG (d4 X pins sc (frees sc++locals sc) cl A s H fp) tg (LG X.K t)) /\
   (∀pins A s H fp,jW (d4 X pins sc (frees sc++locals sc) cl A s H fp) ifs (LT X.K (pC Ξ.1) (da P mc)))/\(∀pins A s H fp,PE (d4 X pins sc (frees sc++locals sc) cl A s H fp) elt (LE X.K (pC Ξ.1) (aT P me))):=by
 unfold T2 at h;rcases gens with _|⟨⟨tg,it,ifs,AX⟩,_|⟨_,_⟩⟩
 ·cases h
 ·dsimp only at h;split at h
  ·rename_i hs;simp only[Bool.and_eq_true,decide_eq_true_eq] at hs;obtain⟨⟨hs,rfl⟩,hit⟩:=hs;obtain⟨t,h1,h⟩:=ah.mp h;obtain⟨mi,h2,h⟩:=ah.mp h;obtain⟨mc,h3,h⟩:=ah.mp h;obtain⟨me,h4,rfl⟩:=ae.mp h;obtain⟨cl,Sc,I⟩:=C.comp hs;exact⟨tg,it,ifs,t,mi,mc,me,cl,rfl,rfl,hit,Sc,AN S C h2,λpins A s H fp=>(I pins A s H fp).Fu h1,λpins A s H fp=>Jm S (I pins A s H fp) h3,λpins A s H fp=>S.e _ _ _ (I pins A s H fp) elt me h4⟩
  ·cases h
 ·cases h
omit S in
theorem Jj{f:Expr}{iD:List Keyword}(h:tS c f args iD=some m):PE X (.Call f args iD pos) (LE X.K Ξ (aT P m)):=by
 unfold tS at h;cases h
theorem Gv:∀e m,EL r c e=some m->PE X e (LE X.K Ξ (aT P m)):=by
 intro e m h;cases e with
 |Name x p=>exact MH C h
 |Constant k j p =>
  obtain⟨d,hd,rfl⟩:=ae.mp (show(zH k).map ME.lit=some m from h);exact Gu hd
 |BinOp a op b p =>
  obtain⟨ma,mb,ha,hb,rfl⟩:=S7 S C h;exact yw C.mono (Ld (ML op) ha hb)
 |UnaryOp op a p=>exact Jn S C h
 |Compare a ops bs p=>exact(EF S C h).1
 |BoolOp op vs p=>exact Gx S C h
 |IfExp t a b p =>
  obtain⟨mt,ht,h⟩:=ah.mp h;obtain⟨ma,ha,h⟩:=ah.mp h;obtain⟨mb,hb,rfl⟩:=ae.mp h;exact Tf C.mono (S.t X c Ξ C _ _ ht) (S.e X c Ξ C _ _ ha) (S.e X c Ξ C _ _ hb)
 |Tuple es k p =>
  obtain⟨ma,ha,rfl⟩:=ae.mp h;exact Ti C.mono (pO S C ha)
 |List es p =>
  obtain⟨ma,ha,rfl⟩:=ae.mp h;exact Tg C.mono (pO S C ha)
 |Subscript a b p=>exact KQ S C h
 |Dict ks vs p =>
  have h2:(if ks.isEmpty&&vs.isEmpty then some (ME.prim .Y6 .nil) else if decide (ks.length<=15) then(tq r c ks vs).map .lW else none)=some m:=h;split at h2
  ·rename_i hc;cases ks<;>cases vs<;>first|(cases hc;done)|skip
   cases h2;exact OV
  ·rename_i hc;split at h2
   ·rename_i hl;obtain⟨ms,hm,rfl⟩:=ae.mp h2;obtain⟨gA,D⟩:=Gw S C hm;refine Tc C.mono D (λz=>hc ?_) (bw hl);have:=D.len.2;subst z;cases vs<;>first|rfl|cases this
   ·cases h2
 |Attribute o f p =>
  have h2:(if uU o then c1 r c (.fld f) o else none)=some m:=h;split at h2
  ·rename_i hb;obtain⟨ma,ha,rfl⟩:=T1 S C h2;exact Td C.mono ha (O0 hb)
  ·cases h2
 |Call f args iD pos =>
  have h1:((vD r c f args iD).orElse λ_=>(tS c f args iD).orElse λ_=>yf r c f args iD pos)=some m:=h;rcases orElse_some h1 with h2|h2
  ·unfold vD at h2;rcases args with _|⟨a,_|⟨_,_⟩⟩
   ·cases h2
   ·dsimp only at h2;split at h2
    ·rename_i hk;simp only[Bool.and_eq_true,decide_eq_true_eq] at hk;obtain⟨⟨⟨hk,hf⟩,kY⟩,hb⟩:=hk;cases iD<;>first|(cases hk;done)|skip
     obtain⟨q,hq,h3⟩:=ah.mp h2;obtain⟨m1,h4,h5⟩:=ah.mp h3;cases f<;>first|(cases hf;done)|skip
     cases a<;>first|(cases hq;done)|skip
     cases hf;cases hq;obtain⟨tg,it,ifs,t,mi,mc,me,cl,eg,rfl,hit,Sc,q1,q2,q3,q4⟩:=yS S C h4;dsimp only at eg;subst eg;cases h5;exact QG C.mono Sc C.calm q1 q2 q3 q4 (U5 hit) (C.v8 kY) (C.blt _ hb)
    ·cases h2
   ·cases h2
  clear h h1;rcases orElse_some h2 with h3|h3
  ·exact Jj C h3
  clear h2;unfold yf at h3;split at h3
  ·rename_i hk;cases iD<;>first|(cases hk;done)|skip
   cases f with
   |Name x p=>exact UH S C h3
   |Attribute o a p=>exact UG S C h3
   |_=>cases h3
  ·cases h3
 |ListComp elt gens sc p =>
  obtain⟨tg,it,ifs,t,mi,mc,me,cl,rfl,rfl,hit,Sc,q1,q2,q3,q4⟩:=yS S C h;exact(CJ Sc C.calm q1 q2 q3 q4 (U5 hit)).imp λZ H Q h=>Dc C.mono Z H Q h
 |_=>cases h
theorem Gq:∀e m,stepT r c e=some m->PT X e (LT X.K Ξ (da P m)):=by
 intro e m h;have plain:∀{e:Expr} {m:ME},(if X6 e then(r.e c e).map ME.gJ else none)=some m->PT X e (LT X.K Ξ (da P m)):=λ{e m} h=>by
  split at h
  ·rename_i hp;obtain⟨ma,ha,rfl⟩:=ae.mp h;exact Tx C.mono (S.e X c Ξ C _ _ ha) (RZ hp)
  ·cases h
 cases e with
 |UnaryOp op a p =>
  have h2:(if op=.Not then(r.t c a).map ME.eW else none)=some m:=h;split at h2
  ·rename_i ho;subst ho;obtain⟨ma,ha,rfl⟩:=ae.mp h2;exact Tv C.mono (S.t X c Ξ C _ _ ha)
  ·cases h2
 |BoolOp op vs p=>exact(Gp S C h).pt
 |Compare a ops bs p =>
  obtain⟨ma,ha,rfl⟩:=ae.mp (show(tj r c a ops bs).map ME.gJ=some m from h);exact(EF S C ha).2
 |_=>exact plain h
end
section
theorem ND{e f:Option Expr}{q:Str×Expr×List Expr}(h:yH e f=some q):f=none/\∃p p',e=some (.Call (.Name q.1 p) (q.2.1::q.2.2) [] p'):=by
 unfold yH at h;cases f with
 |some _=>cases h
 |none =>
  obtain⟨t,rfl,h⟩:=ah.mp (show e.bind _=some q from h);obtain⟨z,hz,h⟩:=ah.mp h;obtain⟨p,p',rfl⟩:=Q9 hz;obtain⟨x,as⟩:=z;cases as with
  |nil=>cases h
  |cons a as=>cases h;exact⟨rfl,_,_,rfl⟩
theorem RO(h:c.uO es e=true):∃x px y py a b k p,es=[.Name x px,.Name y py]/\e=.Tuple [a,b] k p/\c.zx x px y py a b=true:=by
 rcases es with _|⟨s,_|⟨t,_|⟨_,_⟩⟩⟩
 ·cases h
 ·cases h
 ·cases s<;>first|(cases h;done)|skip
  cases t<;>first|(cases h;done)|skip
  cases e<;>first|(cases h;done)|skip
  rename_i l _ _;rcases l with _|⟨a,_|⟨b,_|⟨_,_⟩⟩⟩
  ·cases h
  ·cases h
  ·exact⟨_,_,_,_,_,_,_,_,rfl,rfl,h⟩
  ·cases h
 ·cases h
theorem Us(C:gM X c P Ξ){f:Str}:yh X.K f (c.zr f):=λy C' h hC=>by
 unfold f6.zr at h;obtain⟨⟨f',y'⟩,h1,h2⟩:=aM.mp h;obtain⟨h3,h4⟩:=bQ.mp h1;cases h2;have:f'=f:=by simpa using h4
 subst this;exact C.mI f' y' C' h3 hC
variable(S:nL P r)(C:gM X c P Ξ)
include S C
theorem KP{tg:Expr}{m:MS}(hS:∀e m,r.e c e=some m->v7 e=false->∃elt gens sc p,e=.ListComp elt gens sc p/\∃r',nL P r'/\T2 r' c elt gens sc=some m)(hT:∀a b k p m,r.e c (.Tuple [a,b] k p)=some m->∃r' ms,nL P r'/\E7 r' c [a,b]=some ms/\m=.prim .tup ms)(h:Fn r c tg e=some m):PS X (.Assign [tg] e pos) (LS X.K Ξ (wpS P m)):=by
 cases tg with
 |Name x px =>
  have h2:(if c.B4 x then(c.idx x).bind λi=>(r.e c e).map λm=>MS.set i m else none)=some m:=h;split at h2
  ·rename_i hl;obtain⟨i,hi,h2⟩:=ah.mp h2;obtain⟨me,he,rfl⟩:=ae.mp h2;cases hn:v7 e with
   |true=>exact Fj C.mono (Ff C.pN (C.qj hi) (C.B4 hl).1 (S.e X c Ξ C _ _ he) (X8 hn) (C.B4 hl).2)
   |false =>
    obtain⟨elt,gens,sc,p,rfl,r',S',hx⟩:=hS e me he hn;obtain⟨tg,it,ifs,t,mi,mc,me,cl,rfl,rfl,hit,Sc,q1,q2,q3,q4⟩:=yS S' C hx;refine Fj C.mono ?_;exact(NO Sc C.calm q1 q2 q3 q4 (U5 hit) C.pN (C.qj hi) (C.B4 hl).1 (C.B4 hl).2).imp λN Z H h=>Dc C.mono Z H _ h
  ·cases h2
 |Tuple es k pt =>
  have h0:((yj es).elim (if(qp e&&v7 e)||c.uO es e then(c.slots es).bind λis=>(r.e c e).map λm=>MS.mh (.many is) m else none) λq=>if v7 e&&fu q.2.1&&fu q.2.2.2 then(r.e c q.1).bind λm1=>(r.e c q.2.1).bind λn1=>(r.e c q.2.2.1).bind λm2=>(r.e c q.2.2.2).bind λn2=>(r.e c e).map λm=>MS.tV m1 n1 m2 n2 m else none)=some m:=h;cases hq:yj es with
  |some q =>
   rw[hq] at h0;dsimp only[Option.elim] at h0;split at h0
   ·cases hq
   ·cases h0
  |none =>
  rw[hq] at h0;have h2:(if(qp e&&v7 e)||c.uO es e then(c.slots es).bind λis=>(r.e c e).map λm=>MS.mh (.many is) m else none)=some m:=h0;split at h2
  ·rename_i hn;rw[dZ,bu] at hn;obtain⟨is,hs,h2⟩:=ah.mp h2;obtain⟨me,he,rfl⟩:=ae.mp h2;rcases hn with hn|hn
   ·exact TK C.mono (Fe (S.e X c Ξ C _ _ he) (CS C.calm C.pN (C.slots hs)) (Ek hn.2) (Qe hn.1))
   ·obtain⟨x,px,y,py,a,b,k2,mX,rfl,rfl,hk⟩:=RO hn
    ·unfold f6.zx at hk;simp only[Bool.and_eq_true,decide_eq_true_eq,Bool.not_eq_true'] at hk;obtain⟨⟨⟨⟨⟨⟨⟨l1,l2⟩,dI⟩,hl⟩,oa⟩,ob⟩,f1⟩,f2⟩:=hk;obtain⟨r',ms,S',nk,rfl⟩:=hT _ _ _ _ _ he;have so:=C.slots hs;cases so with
     |cons hi _ _ so =>
     cases so with
     |cons hj _ _ so =>
     cases so;exact TH C.mono C.calm C.pN hi hj dI hl (C.loc x l1) (C.loc y l2) oa ob f1 f2 (pO S' C nk)
  ·cases h2
 |Subscript o i pt =>
  have h2:(if fu i&&v7 e then(r.e c o).bind λmo=>(r.e c i).bind λmi=>(r.e c e).map λm=>MS.eh mo mi m else none)=some m:=h;split at h2
  ·rename_i hn;rw[bu] at hn;obtain⟨mo,ho,h2⟩:=ah.mp h2;obtain⟨mi,hi,h2⟩:=ah.mp h2;obtain⟨me,he,rfl⟩:=ae.mp h2;exact QQ C.mono C.units (S.e X c Ξ C _ _ he) (S.e X c Ξ C _ _ ho) (S.e X c Ξ C _ _ hi) (Ek hn.2) (UJ hn.1)
  ·cases h2
 |Attribute o f pt =>
  obtain⟨mo,ho,h⟩:=ah.mp h;obtain⟨me,he,rfl⟩:=ae.mp h;exact Pp C.mono (Us C) (S.e X c Ξ C _ _ ho) (S.e X c Ξ C _ _ he) (by cases e<;>rfl)
 |_=>cases h
theorem Gs(hS:∀e m,r.e c e=some m->v7 e=false->∃elt gens sc p,e=.ListComp elt gens sc p/\∃r',nL P r'/\T2 r' c elt gens sc=some m)(hT:∀a b k p m,r.e c (.Tuple [a,b] k p)=some m->∃r' ms,nL P r'/\E7 r' c [a,b]=some ms/\m=.prim .tup ms) :
  ∀st m,EM r c st=some m->PS X st (LS X.K Ξ (wpS P m)):=by
 intro st m h;have hP:=C.mono;cases st with
 |Expr e p =>
  have h2:(if v7 e then(r.e c e).map MS.expr else none)=some m:=h;split at h2
  ·rename_i hn;obtain⟨me,he,rfl⟩:=ae.mp h2;exact Po hP (S.e X c Ξ C _ _ he) (X8 hn)
  ·cases h2
 |Assign vP e p =>
  rcases vP with _|⟨tg,_|⟨_,_⟩⟩
  ·cases h
  ·exact KP S C hS hT h
  ·cases h
 |If t a b p =>
  obtain⟨mt,ht,h⟩:=ah.mp h;obtain⟨ma,ha,h⟩:=ah.mp h;obtain⟨mb,hb,rfl⟩:=ae.mp h;exact Lu hP (S.t X c Ξ C _ _ ht) (sY S C ha) (sY S C hb)
 |For tg it body mK p =>
  have h2:(if c.lV&&(mK.isEmpty&&fu it) then(c.tg tg).bind λt=>(tu r c tg it).bind λmi=>(v9 r c body).map λmb=>MS.eL t mi mb else none)=some m:=h;split at h2
  ·rename_i hc;rw[bu,bu] at hc;cases mK<;>first|(cases hc.2.1;done)|skip
   obtain⟨t,h1,h2⟩:=ah.mp h2;obtain⟨mi,h3,h2⟩:=ah.mp h2;obtain⟨mb,h4,rfl⟩:=ae.mp h2;exact TF hP (C.own hc.1) C.calm (AN S C h3) (C.Fu h1) (sY S C h4) (U5 hc.2.2)
  ·cases h2
 |While t body mK p =>
  have h2:(if c.lV&&mK.isEmpty then(r.t c t).bind λmt=>(v9 r c body).map λmb=>MS.jm mt mb else none)=some m:=h;split at h2
  ·rename_i hc;rw[bu] at hc;cases mK<;>first|(cases hc.2;done)|skip
   obtain⟨mt,h1,h2⟩:=ah.mp h2;obtain⟨mb,h4,rfl⟩:=ae.mp h2;exact QR hP (C.own hc.1) (S.t X c Ξ C _ _ h1) (sY S C h4)
  ·cases h2
 |Return e p =>
  cases e with
  |none=>cases h;exact(ON (X:=X)).imp λN bP H ⟨Z,g,ρ,s,R,h⟩=>LQ.now h R .bV
  |some e =>
   obtain⟨me,he,rfl⟩:=ae.mp (show(r.e c e).map (λm=>MS.ret (toR c e m))=some m from h);refine TJ hP ?_;exact S.e X c Ξ C _ _ he
 |Raise e f p =>
  obtain⟨q,hq,h2⟩:=ah.mp h;clear h;obtain⟨rfl,px,p2,rfl⟩:=ND hq;obtain⟨x,e,es⟩:=q;dsimp only at h2 ⊢;split at h2
  ·rename_i hc;simp only[Bool.and_eq_true] at hc;obtain⟨ma,ha,rfl⟩:=ae.mp h2;have ok:=yY ha;obtain⟨C',hm,hi,B,nI,iI,bm,O,FB⟩:=C.exc x hc.1.1.2;exact QP hP C.calm O FB (C.v8 hc.1.2) (pO S C ha) (C.kc hc.1.1.1) (by rw[C.BH];simpa using hc.1.1.2) hi (m6 (ok e (by simp))) (T8 λz hz=>ok z (by simp[hz])) (F6 hc.2).1
  ·cases h2
 |Pass p=>cases h;exact(OM (X:=X)).imp λN bP H ⟨Z,g,ρ,s,R,h⟩=>h ρ H bP (.refl _ _) R s
 |_=>cases h
end
theorem NI(h:(comp (n+1)).e c e=some m)(hn:v7 e=false):∃elt gens sc p,e=.ListComp elt gens sc p/\T2 (comp n) c elt gens sc=some m:=by
 cases e<;>first|(cases hn;done)|(cases h;done)|exact⟨_,_,_,_,rfl,h⟩
theorem snd:∀n,(∀k,k<=n->nL P (comp k)):=by
 intro n
 induction n with
 |zero =>
  intro k hk;obtain rfl:=Nat.le_zero.mp hk;exact⟨λ_ _ _ _ _ _ h=>(by cases h),λ_ _ _ _ _ _ h=>(by cases h),λ_ _ _ _ _ _ h=>(by cases h)⟩
 |succ n ih =>
  intro k hk;rcases Nat.lt_or_ge k (n+1) with dW|VE
  ·exact ih k (by omega)
  obtain rfl:k=n+1:=by omega
  have I:=ih n (aj n);refine⟨λX c Ξ C e m h=>Gv I C e m h,λX c Ξ C e m h=>Gq I C e m h,λX c Ξ C st m h=>?_⟩;rcases orElse_some h with h|h
  rotate_left
  ·cases h;exact λpins s Z H D I q=>by obtain⟨_,_,_,_,_,z⟩:=q;exact(show False from z).elim
  refine Gs I C (λe m he hn=>?_) (λa b k p m he=>?_) st m h
  ·cases n with
   |zero=>cases he
   |succ n =>
    obtain⟨elt,gens,sc,p,rfl,hx⟩:=NI he hn;exact⟨_,_,_,_,rfl,comp n,ih n (by omega),hx⟩
  ·cases n with
   |zero=>cases he
   |succ n =>
    obtain⟨ms,hm,rfl⟩:=ae.mp (show(E7 (comp n) c [a,b]).map (ME.prim .tup)=some m from he);exact⟨comp n,ms,ih n (by omega),hm,rfl⟩
structure mQ where
 nm:Str
 qn:Str
 N:List Str
 ps:List Str
 st:Stmt
def f6.at(c:f6)(d:mQ):f6:={ c with N:=d.N,nm:=(o6 d.st).names,lV:=true,kc:=true,ml:=true }
structure iO(K:PySem.W.Frag)(c:f6)(d:mQ)(m:bo)(f:Addr)(fd:FuncData):Prop where
 fn:nM K d.nm d.qn d.st f fd
 bi:Binds K fd d.ps []
 sc:gT d.N d.ps (o6 d.st)
 co:v9 (comp 60) (c.at d) (p9 d.st)=some m.body
 ar:m.ar=d.ps.length
 nn:m.n=d.N.length
structure lD(w:World)(K:PySem.W.Frag)(mg:Str->Option Value)(c:f6)(T:Nat->Option bo):Prop where
 fns:∀x i,c.fns.lookup x=some i->∃d m f fd,T i=some m/\iO K c d m f fd/\mg x=some (.ref f)
 cls:∀x i,c.cls.lookup x=some i->∃C d m f fd,T i=some m/\iO K c d m f fd/\mg x=some (.ref C)/\p8 K x C/\jg K C/\Mk K C f
 ow:∀x y i C,(x,y,i)∈c.ow->p8 K y C->∃d m f fd,T i=some m/\iO K c d m f fd/\Meth K C x f
 mI:∀f y C,(f,y)∈c.mI->p8 K y C->A2 K C f
 con:∀x d,c.con.lookup x=some d->∃v u,mg x=some u/\RelV v u/\∀ρ H,d5 K ρ H d v
 blt:∀x,c.blt.contains x=true->mg x=none
 xE:∀x,c.exc.contains x=true->∃C,mg x=some (.ref C)/\p8 K x C/\∀base:Heap,K.In base->base.Ns mainGlobals mg->∃B newId fK bm,OwnCls x C bm newId mg base/\ExcBaseFacts B newId fK bm
 xD:∀x y C C',c.exc.contains x=true->c.exc.contains y=true->p8 K x C->p8 K y C'->PySem.W.exmOne K (.ref C) (.ref C')=some (decide (x=y\/y="MintError"))
 oQ:∀x kvs,c.gd.lookup x=some kvs->∃A vs,mg x=some (.ref A)/\tm K w.params A vs/\Z3 K kvs vs
section
variable{Pg:Program}{w:World}{K:PySem.W.Frag}{mg:Str->Option Value}{base:Heap}{T:Nat->Option bo}
theorem Mr{q:Str}(h:PySem.W.codeIn K cd q=true):PySem.W.kdsCode K cd=true:=by
 unfold PySem.W.codeIn at h;unfold PySem.W.kdsCode;split at h
 ·dsimp only;split at h
  ·rename_i e;rw[e]
  ·cases h
 ·cases h
theorem US:Passes (iy Pg w) (V5 (iy Pg w) Pg w K mg base N qual scope f cd A outer s H E) E:=λpins Z H1 s1 e s' I h=>by
 obtain⟨C,H',J,fl,hE⟩:=I.flew h;exact Of J fl (λb o q=>I.base.there b o q (by intro z;cases z)) rfl rfl rfl hE
theorem Qz:uX (V5 (iy Pg w) Pg w K mg base N qual scope f cd A outer s H E) E:=λpins Z H1 s1 h' ea C vs I hm hE =>
 SF I hm rfl rfl rfl hE
theorem Ut:EX (V5 (iy Pg w) Pg w K mg base N qual scope f cd A outer s H E) E:=λpins Z H1 H2 s1 s2 B ea C a0 I l hh hE =>
 leave_held I l hh rfl rfl rfl hE
theorem yK{k:Nat}{m:bo}(hT:T i=some m){ds:List D}{g:G}{Q:KD}{E:KX}(h:d7 T k i ds g Q E):ds.length=m.ar:=by
 cases k with
 |zero=>exact h.elim
 |succ k =>
  obtain⟨m',e,h,_⟩:=h;rw[hT] at e;cases e;exact h
theorem LZ(lK:K.In base)(sE:base.Ns mainGlobals mg)(A:lD w K mg c T):∀(k i:Nat) d m f fd,T i=some m->iO K c d m f fd->gy Pg w K mg base (iy Pg w) (2*k) f fd d.ps (mW c.exc K d.ps.length (d7 T k i)):=by
 intro k
 induction k with
 |zero =>
  intro i d m f fd hm O;refine⟨λvs H Q E h=>h.1,λA outer s H args us vs Q E _ _ _ _ h=>?_⟩;obtain⟨_,_,_,_,_,_,q⟩:=h;exact q.elim
 |succ k ih =>
  intro i d m f fd hm O;obtain⟨oc,od,kV,doc,pm,an,fx,ct,kO,rfl,lk,ke⟩:=O.fn.ex;refine Kp (k:=2*k+1) lk ke O.sc (λvs H Q E h=>h.1) (λA0 outer s H vs Q E hr h=>?_);obtain⟨hl,xs,g,ρ,rs,R,q⟩:=h;have C:gM (V5 (iy Pg w) Pg w K mg base d.N d.qn (o6 d.st) f fx A0 outer s H E) (c.at d) (d7 T k) (c.exc,E):=by
   refine⟨rfl,O.sc.nd,λx h=>h,λx h=>h,λx h=>.inr h,λx h=>h,λx h=>?_,λ_ _=>rfl,rfl,?_,(λ_=>PassesOwn.leaving),b0 T k,A.con,A.blt,λx j hj=>?_,λx j hj=>?_,λx y j C' hj hC=>?_,A.mI,rfl,US,λ_=>Qz,λ_=>⟨rfl,rfl,Ut⟩,λx hx=>?_,A.xD,A.oQ,λ_=>Mr ke⟩
   ·rcases h with h|h
    ·exact yX h
    ·exact absurd rfl (O.sc.kP _ (aI h))
   ·have:=hr.un;show(A0.deeper _).units+100<cLine;omega
   ·obtain⟨d',m',f',nG,hT,O',hmg⟩:=A.fns x j hj;exact⟨2*k,f',nG,d'.ps,⟨ih j d' m' f' nG hT O',O'.bi,λBU g' Q' E' h'=>(yK hT h').trans O'.ar⟩,hr.mono (by omega),hmg,O'.fn.kp⟩
   ·obtain⟨C',d',m',f',nG,hT,O',hmg,hC,jS,M⟩:=A.cls x j hj;exact⟨2*k,C',f',nG,d'.ps,⟨ih j d' m' f' nG hT O',O'.bi,λBU g' Q' E' h'=>(yK hT h').trans O'.ar⟩,hr,hmg,hC,jS,M⟩
   ·obtain⟨d',m',f',nG,hT,O',M⟩:=A.ow x y j C' hj hC;exact⟨2*k,f',nG,d'.ps,M,⟨ih j d' m' f' nG hT O',O'.bi,λBU g' Q' E' h'=>(yK hT h').trans O'.ar⟩,hr.mono (by omega)⟩
   ·obtain⟨C,h1,h2,h3⟩:=A.xE x hx;exact⟨C,h1,h2,h3 base lK sE⟩
  refine⟨_,sY (snd (P:=d7 T k) 60 60 (aj _)) C O.co,?_⟩;obtain⟨m',e,q1,q⟩:=q;rw[hm] at e;cases e;refine⟨j2 m xs,g,ρ,?_,R,wpS_mono (b0 T k) m.body ⟨λ_ g'=>LQ K ρ H Q .bV g',LQ K ρ H Q,λ_ _=>False,λ_ _=>False⟩ _ _ _ _ _ ⟨λZ g' h bz H' cS e R' s'=>h bz H' _ e R' .bV,λd g' h=>h,λ_ _ h=>h.elim,λ_ _ h=>h.elim⟩ (λ_ _ z=>z) q⟩;have:=m5.start (n:=d.N.length) rs;unfold j2 L2.start;rw[O.nn];exact this
theorem Mx{L k0:Nat}{a:Addr}{ns:List Int}(hO:vi H)(hS:fe K H a (ns.map V.int))(h:d7 T k0 L [.ref 0] [.mH (ns.map .int)] (λd _=>d=.bl true) jw) :
  mW exc K 1 (d7 T k0 L) [.ref a] H (λv _=>v=.bl true) λ_ _ _=>False:=by
 refine⟨rfl,[.ref 0],[.mH (ns.map .int)],[a],.cons (.ref rfl) .nil,⟨rfl,λi o b h1 h2=>?_,λi j l m b h1 h2 m1=>?_⟩,b0 T k0 _ _ _ _ _ _ _ (λd g' e bz H' v _ _ r=>?_) (λ_ _ z=>z.elim) h⟩
 ·cases i with
  |zero =>
   cases h1;cases h2;refine⟨_,?_,b7.ofInts ns⟩;rcases hS with(z|⟨o,z⟩)|z
   ·rcases hO a with q|⟨o,xs,q⟩
    ·rw[z] at q;cases q
    ·rw[z] at q;cases q
   ·exact .inl ⟨o,z⟩
   ·exact .inr z
  |succ i=>simp at h1
 ·cases i with
  |zero=>cases h1;cases m1
  |succ i=>simp at h1
 ·subst e;cases r
  rfl
end
end M
namespace M
open PySem L2
variable{Z:S}{g:G}{Q:Bool->G->Prop}{E:KX}{a i n:Nat}{b:Bool}{o cond elt:ME}{x y d v:D}{j:Int}{l:List D}{A B:Prop}{kvs:List (Key×D)}{k:Key}{ns:List Int}{c8:List Nat}{R:IK->G->Prop}
section
variable{P:eR}{Q:KD}{N:Ends}{a b c:ME}{x y:MS}{p:Pr}
theorem W8(h:N.nx Z g):wpS P .pass N Z g E:=h
theorem EU(h:wpS P x ⟨λgQ g1=>wpS P y N gQ g1 E,N.rt,N.bk,N.ct⟩ Z g E):wpS P (.seq x y) N Z g E:=h
theorem yC(h:wpS P x N Z g E):wpS P (.seq x .pass) N Z g E:=h
theorem Ua(h:aT P a Z g (λ_ g1=>N.nx Z g1) E):wpS P (.expr a) N Z g E:=h
theorem EV(h:aT P a Z g (λx g1=>N.nx (Z.set i (some x)) g1) E):wpS P (.set i a) N Z g E:=h
theorem LV{t:MT}(h:aT P a Z g (λx g1=>jz t x Z λgQ=>N.nx gQ g1) E):wpS P (.mh t a) N Z g E:=h
theorem CT{i:ME}(h:aT P a Z g (λx g1=>aT P o Z g1 (λy g2=>aT P i Z g2 (λz g3=>U2 y z x g3 λg4=>N.nx Z g4) E) E) E):wpS P (.eh o i a) N Z g E:=h
theorem ET(h:da P c Z g (λt g1=>if t=true then wpS P x N Z g1 E else wpS P y N Z g1 E) E):wpS P (.ifs c x y) N Z g E:=h
theorem LR(h:aT P a Z g N.rt E):wpS P (.ret a) N Z g E:=h
theorem Pu{x:Str}(h:ft P a Z g (λvs g1=>vs.length<=1000/\E ⟨x⟩ g1) E):wpS P (.raise x a) N Z g E:=h
theorem w_var(e:Z[i]?=some (some d))(h:Q d g):aT P (.var i) Z g Q E:=by exact⟨d,e,h⟩
theorem w_lit(h:Q d g):aT P (.lit d) Z g Q E:=h
theorem Uc(h:ft P a Z g (λxs g1=>cT p xs g1 Q) E):aT P (.prim p a) Z g Q E:=h
theorem JY(h:cT p [] g Q):aT P (.prim p .nil) Z g Q E:=by exact h
theorem Fw(h:aT P a Z g (λx g1=>cT p [x] g1 Q) E):aT P (.prim p (.cons a .nil)) Z g Q E:=by exact h
theorem Fx(h:aT P a Z g (λx g1=>aT P b Z g1 (λy g2=>cT p [x,y] g2 Q) E) E):aT P (.prim p (.cons a (.cons b .nil))) Z g Q E:=by exact h
theorem Pt{o1 o2:CmpOp}(h:aT P a Z g (λx g1=>aT P b Z g1 (λy g2=>cT (.cmp o1) [x,y] g2 λz g3=>∃t,z=.bl t/\if t=true then aT P c Z g3 (λw g4=>cT (.cmp o2) [y,w] g4 Q) E else Q (.bl false) g3) E) E):aT P (.chain o1 o2 a b c) Z g Q E:=h
theorem w_and(h:aT P a Z g (λx g1=>∃t,x=.bl t/\if t=true then aT P b Z g1 Q E else Q (.bl false) g1) E):aT P (.dX a b) Z g Q E:=h
theorem w_or(h:aT P a Z g (λx g1=>∃t,x=.bl t/\if t=true then Q (.bl true) g1 else aT P b Z g1 Q E) E):aT P (.iU a b) Z g Q E:=h
theorem w_not(h:aT P a Z g (λx g1=>∃t,x=.bl t/\Q (.bl (!t)) g1) E):aT P (.eW a) Z g Q E:=h
theorem w_ite(h:da P c Z g (λt g1=>if t=true then aT P a Z g1 Q E else aT P b Z g1 Q E) E):aT P (.ite c a b) Z g Q E:=h
theorem yB{f:Nat}(h:ft P a Z g (λxs g1=>P f xs g1 Q E) E):aT P (.call f a) Z g Q E:=h
theorem Ub(h:aT P o Z g (λx g1=>lJ p x g1/\ft P a Z g1 (λxs g2=>cT p (x::xs) g2 Q) E) E):aT P (.eG p o a) Z g Q E:=h
theorem LP(h:ft P a Z (g++[.cL []]) (λxs g1=>∃kvs,qi xs []=some kvs/\xs.length<=30/\g1[g.length]?=some (.cL [])/\Q (.ref g.length) (g1.set g.length (.cL kvs))) E):aT P (.lW a) Z g Q E:=h
theorem ye{Q:List D->G->Prop}(h:Q [] g):ft P .nil Z g Q E:=h
theorem W9{Q:List D->G->Prop}(h:aT P a Z g (λx g1=>ft P b Z g1 (λxs g2=>Q (x::xs) g2) E) E):ft P (.cons a b) Z g Q E:=h
theorem Ud{Q:Bool->G->Prop}(h:da P a Z g (λt g1=>if t=true then da P b Z g1 Q E else Q false g1) E):da P (.dX a b) Z g Q E:=h
theorem LU{Q:Bool->G->Prop}(h:da P a Z g (λt g1=>if t=true then Q true g1 else da P b Z g1 Q E) E):da P (.iU a b) Z g Q E:=h
theorem Ue{Q:Bool->G->Prop}(h:da P a Z g (λt g1=>Q (!t) g1) E):da P (.eW a) Z g Q E:=h
theorem Z5{Q:Bool->G->Prop}(h:Q true g):da P .no Z g Q E:=h
theorem EW{Q:Bool->G->Prop}(h:aT P a Z g (λx g1=>X0 g1 x λb=>Q b g1) E):da P (.gJ a) Z g Q E:=h
end
section
variable{Q:KD}{i:Int}{kb:Bool->Prop}{t s:Bool}{m:List D}
theorem J'(h:Q (.int (i+j)) g):cT (.bin .Add) [.int i,.int j] g Q:=⟨_,_,.inl ⟨i,j,_,rfl,rfl,rfl,rfl⟩,h⟩
theorem Ka(h:Q (.int (i-j)) g):cT (.bin .Sub) [.int i,.int j] g Q:=⟨_,_,.inl ⟨i,j,_,rfl,rfl,rfl,rfl⟩,h⟩
theorem J7(c:V9 i j)(h:Q (.int (i*j)) g):cT (.bin .Mult) [.int i,.int j] g Q:=⟨_,_,.inl ⟨i,j,_,rfl,⟨c,rfl⟩,rfl,rfl⟩,h⟩
theorem L4(c:0<j)(h:Q (.int (i % j)) g):cT (.bin .Mod) [.int i,.int j] g Q:=⟨_,_,.inl ⟨i,j,_,rfl,⟨c,rfl⟩,rfl,rfl⟩,h⟩
theorem uH(c:zj i j)(h:Q (.int (i / j)) g):cT (.bin .FloorDiv) [.int i,.int j] g Q:=⟨_,_,.inl ⟨i,j,_,rfl,⟨c,rfl⟩,rfl,rfl⟩,h⟩
theorem LY(h1:0<j)(h2:j<1073741824)(h:Q (.int (i / j)) g):cT (.bin .FloorDiv) [.int i,.int j] g Q:=uH ⟨h1,h2⟩ h
theorem zD(c:Z4 i j)(h:Q (.int (i ^ j.toNat)) g):cT (.bin .Pow) [.int i,.int j] g Q:=⟨_,_,.inl ⟨i,j,_,rfl,⟨c,rfl⟩,rfl,rfl⟩,h⟩
theorem Kd{i j:Nat}(hi:g[i]?=some (.lst l))(hj:g[j]?=some (.lst m))(hl:l.length+m.length<=100000)(h:Q (.ref g.length) (g++[.lst (l++m)])):cT (.bin .Add) [.ref i,.ref j] g Q:=⟨_,_,.inr (.inl ⟨rfl,.inr (.inl ⟨i,j,l,m,rfl,hi,hj,hl,rfl,rfl⟩)⟩),h⟩
theorem LM(h:Q (.int (-i)) g):cT (.un .USub) [.int i] g Q:=⟨_,_,⟨rfl,i,rfl,rfl,rfl⟩,h⟩
theorem Q8{op:CmpOp}(hb:Cn g x y b op)(h:Q (.bl b) g):cT (.cmp op) [x,y] g Q:=⟨_,_,⟨x,y,b,rfl,hb,rfl,rfl⟩,h⟩
theorem IP(h:Q (.bl (decide (i<j))) g):cT (.cmp .Lt) [.int i,.int j] g Q:=Q8 ⟨i,j,rfl,rfl,rfl⟩ h
theorem IM(h:Q (.bl (decide (i<=j))) g):cT (.cmp .LtE) [.int i,.int j] g Q:=Q8 ⟨i,j,rfl,rfl,rfl⟩ h
theorem IJ(h:Q (.bl (decide (j<i))) g):cT (.cmp .Gt) [.int i,.int j] g Q:=Q8 ⟨i,j,rfl,rfl,rfl⟩ h
theorem II(h:Q (.bl (decide (j<=i))) g):cT (.cmp .GtE) [.int i,.int j] g Q:=Q8 ⟨i,j,rfl,rfl,rfl⟩ h
theorem IH(h:sJ g x y λb=>Q (.bl b) g):cT (.cmp .Eq) [x,y] g Q:=let ⟨_,hb,h⟩:=h;Q8 hb h
theorem zq(h:sJ g x y λb=>Q (.bl (!b)) g):cT (.cmp .NotEq) [x,y] g Q:=let ⟨b,hb,h⟩:=h;Q8 (b:=!b) (show sI g x y (!(!b)) from by rw[qy];exact hb) h
theorem Cm(h:rK g x y λb=>Q (.bl b) g):cT (.cmp .In) [x,y] g Q:=let ⟨_,hb,h⟩:=h;Q8 (.inl hb) h
theorem zF(h:rK g x y λb=>Q (.bl (!b)) g):cT (.cmp .NotIn) [x,y] g Q:=let ⟨b,hb,h⟩:=h;Q8 (b:=!b) (.inl (show inR g x y (!(!b)) from by rw[qy];exact hb)) h
theorem EH(h:kb (decide (i=j))):sJ g (.int i) (.int j) kb:=⟨_,.inl ⟨i,j,rfl,rfl,rfl⟩,h⟩
theorem Jq(h:kb (t==s)):sJ g (.bl t) (.bl s) kb:=⟨_,.inr (.inl ⟨t,s,rfl,rfl,rfl⟩),h⟩
theorem Ke(h:Q (.bl (decide (i=j))) g):cT (.cmp .Eq) [.int i,.int j] g Q:=IH (EH h)
theorem Ki(h:Q (.bl (!decide (i=j))) g):cT (.cmp .NotEq) [.int i,.int j] g Q:=zq (EH h)
theorem Kh(h:Q (.bl (!(t==s))) g):cT (.cmp .NotEq) [.bl t,.bl s] g Q:=zq (Jq h)
theorem IL(h:Q (.bl (P9 d)) g):cT (.cmp .Is) [d,.bV] g Q:=Q8 ⟨rfl,rfl⟩ h
theorem zE(h:Q (.bl (!P9 d)) g):cT (.cmp .IsNot) [d,.bV] g Q:=Q8 ⟨rfl,rfl⟩ h
theorem Kf(h:Q (.bl false) g):cT (.cmp .IsNot) [.bV,.bV] g Q:=zE h
theorem Kg(h:Q (.bl true) g):cT (.cmp .IsNot) [.ref n,.bV] g Q:=zE h
theorem JV(h:kb t):X0 g (.bl t) kb:=⟨t,.inr (.inl rfl),h⟩
theorem LD{i:Nat}(hl:c6 g i=some l)(h:kb (!l.isEmpty)):X0 g (.ref i) kb:=⟨_,.inr (.inr (.inr (.inr ⟨i,l,rfl,hl,rfl⟩))),h⟩
theorem yJ{p:Bool->Prop}(h:p t):∃s,D.bl t=D.bl s/\p s:=⟨t,rfl,h⟩
theorem Mm{p:Int->Prop}(h:p i):∃s,D.int i=D.int s/\p s:=⟨i,rfl,h⟩
theorem if2{c:Prop}[Decidable c](h1:c->A)(h2:¬c->B):if decide c=true then A else B:=by
 by_cases h:c
 ·rw[aN (aX h)];exact h1 h
 ·rw[aH (by rw[aJ h];decide)];exact h2 h
theorem jQ(h:A):if true=true then A else B:=by rw[aN rfl];exact h
theorem pq(h:B):if false=true then A else B:=by rw[aH (by decide)];exact h
theorem Cq(h:A):if(!false)=true then A else B:=by rw[aN (show(!false)=true from rfl)];exact h
theorem IZ(h:B):if(!true)=true then A else B:=by rw[aH (by decide)];exact h
theorem jf(hb:b=false)(h:B):if b=true then A else B:=by rw[hb];exact pq h
theorem lM(hb:b=true)(h:A):if b=true then A else B:=by rw[hb];exact jQ h
theorem k7(hl:c6 g a=some l)(h2:fO l i=some d)(h:Q d g):cT .ix [.ref a,.int i] g Q:=⟨_,_,⟨rfl,.inl ⟨_,l,i,rfl,hl,h2⟩⟩,h⟩
theorem M3(h2:fO l i=some d)(h:Q d g):cT .ix [.tup l,.int i] g Q:=⟨_,_,⟨rfl,.inl ⟨_,l,i,rfl,rfl,h2⟩⟩,h⟩
theorem zv{i:Nat}(hg:g[i]?=some (.cL kvs))(hk:O8 y=some k)(hv:p6 kvs k=some v)(h:Q v g):cT .ix [.ref i,y] g Q:=⟨_,_,⟨rfl,.inr (.inl ⟨i,kvs,y,k,rfl,hg,hk,hv⟩)⟩,h⟩
theorem P2{kg:G->Prop}(hl:g[a]?=some (.lst l))(hn:jA l.length i=some n)(h:kg (g.set a (.lst (l.set n v)))):U2 (.ref a) (.int i) v g kg:=⟨_,.inl ⟨a,i,l,n,rfl,rfl,hl,hn,rfl⟩,h⟩
theorem EJ{i:Nat}{kg:G->Prop}(hg:g[i]?=some (.cL kvs))(hk:O8 y=some k)(hl:kvs.length<100000)(h:kg (g.set i (.cL (putD kvs k v)))):U2 (.ref i) y v g kg:=⟨_,.inr ⟨i,kvs,k,rfl,hg,hk,hl,rfl⟩,h⟩
theorem a8(h:g[a]?=some (.lst l)):c6 g a=some l:=by simp only[c6,h,yo]
theorem RA(h:g[a]?=some (.mH l)):c6 g a=some l:=by simp only[c6,h,yo]
theorem E9(hl:c6 g a=some l)(h:Q (.int l.length) g):cT .len [.ref a] g Q:=⟨_,_,⟨rfl,.inl ⟨_,l,rfl,hl,rfl⟩⟩,h⟩
theorem Fi(hl:c6 g a=some l)(h:Q (.ref g.length) (g++[.lst (cut l none (some i))])):cT (.lH false true) [.ref a,.int i] g Q:=⟨_,_,⟨_,i,rfl,.inr ⟨a,l,rfl,hl,rfl,rfl⟩⟩,h⟩
theorem zP(hl:l.length<=1000)(h:Q (.tup l) g):cT .tup l g Q:=⟨_,_,⟨hl,rfl,rfl⟩,h⟩
theorem zO(hl:l.length<=1000)(h:Q (.ref g.length) (g++[.lst l])):cT .lst l g Q:=⟨_,_,⟨hl,rfl,rfl⟩,h⟩
theorem EE(hl:c6 g a=some l)(h:Q (.ref g.length) (g++[.lst l])):cT .list [.ref a] g Q:=⟨_,_,.inl ⟨_,l,rfl,hl,rfl,rfl⟩,h⟩
theorem LK(hl:c6 g a=some l)(h:Q (.tup l) g):cT .tuple [.ref a] g Q:=⟨_,_,⟨_,l,rfl,hl,rfl,rfl⟩,h⟩
theorem rJ{c:String}(hc:c∈["int","bool","str","tuple","list"])(hb:zu g d c=some b)(h:Q (.bl b) g):cT .isin [d,.ty c] g Q:=⟨_,_,⟨d,c,b,rfl,hc,hb,rfl,rfl⟩,h⟩
theorem P7{i:Nat}(hg:g[i]?=some (.lst l))(hl:l.length<100000)(h:Q .bV (g.set i (.lst (l++[y])))):cT .append [.ref i,y] g Q:=⟨_,_,⟨i,y,l,rfl,hg,hl,rfl,rfl⟩,h⟩
theorem KN{i j:Nat}{n:Int}(hg:g[i]?=some (.lst l))(hn:n=j)(hj:l[j]?=some y)(hl:l.length<100000)(h:Q y (g.set i (.lst (l.eraseIdx j)))):cT .pop [.ref i,.int n] g Q:=by
 have dW:=(ao.mp hj).1;refine⟨_,_,⟨i,n,l,j,rfl,hg,by omega,by omega,?_,hj,rfl⟩,h⟩;rw[hn];exact PySem.StrLaws.seqIndex_nonneg (by omega) (by omega) |>.trans (by simp)
theorem zL{i:Nat}{z:D}(hg:g[i]?=some (.cL kvs))(hk:O8 y=some k)(h:Q ((p6 kvs k).getD z) g):cT .get [.ref i,y,z] g Q:=⟨_,_,⟨i,y,z,kvs,k,rfl,hg,hk,rfl,rfl⟩,h⟩
theorem Kb{i:Nat}{v:Bool}(hl:c6 g i=some l)(hv:Q2 l=some v)(h:Q (.bl v) g):cT .any [.ref i] g Q:=⟨_,_,⟨i,l,v,rfl,hl,hv,rfl,rfl⟩,h⟩
theorem UQ{i:Nat}(hg:g[i]?=some (.cL kvs))(hk:kvs.map (·.1)=ns.map Sum.inl)(hz:ns.length<60)(h:Q (.ref g.length) (g++[.lst ((A1 ns).map .int)])):cT .hX [.ref i] g Q:=⟨_,_,.inl ⟨i,kvs,ns,rfl,hg,hk,hz,rfl,rfl⟩,h⟩
theorem UR{i:Nat}(hl:c6 g i=some (ns.map .int))(hz:ns.length<60)(h:Q (.ref g.length) (g++[.lst ((I0 ns).map .int)])):cT .hX [.ref i] g Q:=⟨_,_,.inr ⟨_,ns,rfl,hl,hz,rfl,rfl⟩,h⟩
theorem R8{i:Nat}(hg:g[i]?=some (.lst l)):lJ .append (.ref i) g:=⟨i,l,rfl,a8 hg⟩
theorem MG{i:Nat}(hg:g[i]?=some (.lst l)):lJ .pop (.ref i) g:=⟨i,l,rfl,a8 hg⟩
theorem Ji{i:Nat}{l:List (Key×D)}(hg:g[i]?=some (.cL l)):lJ .get (.ref i) g:=⟨i,l,rfl,hg⟩
theorem AS(h1:-(2 ^ 62)<=j)(h2:j<=100000)(h:Q (.ref g.length) (g++[.lst (j5 0 j.toNat)])):cT .iH [.int j] g Q:=⟨_,_,⟨j,rfl,h1,h2,rfl,rfl⟩,h⟩
theorem Gz(h1:-(2 ^ 62)<=i/\i<2 ^ 62/\-(2 ^ 62)<=j/\j<2 ^ 62/\j-i<=100000)(h:Q (.ref g.length) (g++[.lst (j5 i (j-i).toNat)])):cT .jq [.int i,.int j] g Q:=⟨_,_,⟨i,j,rfl,h1,rfl,rfl⟩,h⟩
theorem Y6(h:Q (.ref g.length) (g++[.cL []])):cT .Y6 [] g Q:=⟨_,_,⟨rfl,rfl,rfl⟩,h⟩
theorem max2(h:Q (.int (if j>i then j else i)) g):cT .max [.int i,.int j] g Q:=⟨_,_,⟨rfl,.inl ⟨i,j,rfl,rfl⟩⟩,h⟩
theorem KO{M:Int}(hl:c6 g a=some (ns.map .int))(h1:M∈ns)(h2:∀x∈ns,M<=x)(h:Q (.int M) g):cT .min [.ref a] g Q:=⟨_,_,⟨rfl,.inr ⟨a,ns,M,rfl,hl,h1,h2,rfl⟩⟩,h⟩
noncomputable abbrev U'(g g':G):Prop:=∃l,g'=g++l
theorem Tz{b:Nat}{rs:List Nat}{lss:List (List D)}(hl:c6 g a=some (rs.map .ref))(hb:g[b]?=some (.lst []))(hn:rs.length=lss.length)(hg:∀(j:Nat) r l,rs[j]?=some r->lss[j]?=some l->g[r]?=some (.lst l))(hz:lss.flatten.length<=10000)(h:∀r g',U' g g'->g'[r]?=some (.lst lss.flatten)->Q (.ref r) g'):cT .sum [.ref a,.ref b] g Q:=by
 by_cases h0:rs=[]
 ·obtain rfl:lss=[]:=bj (by rw[<- hn,h0];rfl);exact⟨_,_,.inr ⟨a,b,rs,[],rfl,hl,hb,hn,hg,hz,.inl ⟨h0,rfl,rfl⟩⟩,h b g ⟨[],by simp⟩ hb⟩
 ·exact⟨_,_,.inr ⟨a,b,rs,lss,rfl,hl,hb,hn,hg,hz,.inr ⟨h0,rfl,rfl⟩⟩,h _ _ ⟨_,rfl⟩ (by simp)⟩
theorem MB(hl:c6 g a=some (ns.map .int))(hz:ns.length<60)(h:Q (.int (ST.f9 [] ns).length) g):cT .Y2 [.ref a] g Q:=⟨_,_,⟨a,ns,rfl,hl,hz,rfl,rfl⟩,h⟩
theorem min2(h:Q (.int (if j<i then j else i)) g):cT .min [.int i,.int j] g Q:=⟨_,_,⟨rfl,.inl ⟨i,j,rfl,rfl⟩⟩,h⟩
theorem Kv{v:Bool}(h:Q (.int (if v then 1 else 0)) g):cT .int [.bl v] g Q:=⟨_,_,⟨rfl,.inr ⟨v,rfl,rfl⟩⟩,h⟩
theorem EA{kvs:List D}{x:Str}(hv:L1 kvs x=some v)(h:Q v g):cT .lB [.tup kvs,.str x] g Q:=⟨_,_,⟨kvs,x,rfl,hv,rfl⟩,h⟩
theorem Er{i:Nat}{v:Bool}(hl:c6 g i=some l)(hv:Q3 l=some v)(h:Q (.bl v) g):cT .all [.ref i] g Q:=⟨_,_,⟨i,l,v,rfl,hl,.inl hv,rfl,rfl⟩,h⟩
theorem s9{i:Nat}{k:S->Prop}(h:k (Z.set i (some x))):jz (.one i) x Z k:=h
theorem yV{is:List Nat}{bJ:S}{k:S->Prop}(e:C0 is l Z=some bJ)(h:k bJ):jz (.many is) (.tup l) Z k:=⟨l,bJ,rfl,e,h⟩
end
theorem Dv:∀(bs:List Bool),Q3 (bs.map D.bl)=some (bs.all id):=by
 intro bs
 induction bs with
 |nil=>rfl
 |cons b r ih=>simp[Q3,ih]
theorem call_of{T:Nat->Option bo}{k f:Nat}{m:bo}{ds:List D}{Q:KD}(hT:T f=some m)(hl:ds.length=m.ar)(h:wpS (d7 T k) m.body ⟨λ_ g'=>Q .bV g',Q,λ_ _=>False,λ_ _=>False⟩ (j2 m ds) g E):d7 T (k+1) f ds g Q E:=⟨m,hT,hl,h⟩
def IK.Is(k:IK)(l:List D)(g:G):Prop:=∀i,k.at i g=some l[i]?
theorem q9:(IK.fix l).Is l g:=λ_=>rfl
theorem S0(h:c6 g a=some l):(IK.lst a).Is l g:=λi=>by simp only[IK.at,h]
def oU(l:List D):List D:=l.mapIdx λi d=>.tup [.int i,d]
theorem Mo(h:c6 g a=some l):(IK.qb a).Is (oU l) g:=λi=>by
 simp only[IK.at,h,oU,List.getElem?_mapIdx]
theorem Cy(l:List D):(oU l).length=l.length:=by simp[oU]
theorem Up(h:(oU l)[i]?=some x):∃d,l[i]?=some d/\x=.tup [.int i,d]:=by
 rw[oU,List.getElem?_mapIdx,ae] at h;obtain⟨d,h1,h2⟩:=h;exact⟨d,h1,h2.symm⟩
theorem A7{lo:Int}(h:(j5 lo n)[i]?=some x):i<n/\x=.int (lo+i):=by
 unfold j5 at h;have hi:i<n:=by
  have:=(ao.mp h).1;simpa using this
 rw[aC,iR hi] at h;cases h;exact⟨hi,rfl⟩
theorem o8(lo:Int)(n:Nat):(j5 lo n).length=n:=by simp[j5]
section
variable{P:eR}{N:Ends}{it a c:ME}{s:MS}{t:MT}{Q:KD}
theorem QT{k:IK}{fin:S->G->Prop}{turn:D->(S->G->Prop)->S->G->Prop}(I:Nat->S->G->Prop)(hk:∀i Z g,I i Z g->k.Is l g)(h0:I 0 Z g)(hs:∀i x Z g,l[i]?=some x->I i Z g->turn x (I (i+1)) Z g)(hd:∀Z g,I l.length Z g->fin Z g):turns k Z g fin turn:=by
 refine⟨λi m Z g=>m=l.length-i/\i<=l.length/\I i Z g,⟨l.length,by simp,bY _,h0⟩,?_⟩;rintro i m Z g ⟨rfl,hi,p⟩;rw[hk i Z g p i];by_cases dW:i<l.length
 ·rw[ai dW];exact .inr ⟨_,rfl,I (i+1),λbJ g' p'=>⟨l.length-(i+1),by omega,rfl,dW,p'⟩,hs i l[i] Z g (ai dW) p⟩
 ·have e:i=l.length:=by omega
  subst e;rw[cK (aj _)];exact .inl ⟨rfl,hd Z g p⟩
inductive tK(P:eR)(t:MT)(s:MS)(N:Ends)(E:KX)(Z:S)(k:IK)(g1:G):Prop
 |mk (l:List D) (I:Nat->S->G->Prop) (hk:∀i Z g,I i Z g->k.Is l g) (h0:I 0 Z g1)
   (hs:∀i x Z g,l[i]?=some x->I i Z g->jz t x Z λcE=>wpS P s ⟨I (i+1),N.rt,N.nx,I (i+1)⟩ cE g E) (hd:∀Z g,I l.length Z g->N.nx Z g):tK P t s N E Z k g1
theorem E3(hP:j4 P)(h:hU P it Z g (tK P t s N E Z) E):wpS P (.eL t it s) N Z g E :=
 A3 hP it _ _ _ _ _ _ (λk g1 hq=>by obtain⟨l,I,hk,h0,hs,hd⟩:=hq;exact QT I hk h0 hs hd) (λ_ _ z=>z) h
inductive CompI(P:eR)(t:MT)(cond elt:ME)(E:KX)(Q:KD)(Z:S)(k:IK)(g1:G):Prop
 |mk (l:List D) (I:Nat->List D->S->G->Prop) (hl:l.length<=1000) (hk:∀i ys Z g,I i ys Z g->k.Is l g/\ys.length<=i) (h0:I 0 [] Z g1)
   (hs:∀i x ys Z g,l[i]?=some x->I i ys Z g->jz t x Z λcE=>da P cond cE g (λc g3=>if c=true then aT P elt cE g3 (λy g4=>I (i+1) (ys++[y]) cE g4) E else I (i+1) ys cE g3) jw)
   (hd:∀ys Z g,I l.length ys Z g->Q (.ref g.length) (g++[.lst ys])):CompI P t cond elt E Q Z k g1
theorem L6(hP:j4 P)(h:hU P it Z g (CompI P t cond elt jw Q (J3 Z c8 n)) E):aT P (.comp c8 n t it cond elt) Z g Q E:=by
 refine A3 hP it _ _ _ _ _ _ (λk g1 h=>?_) (λ_ _ z=>z) h;obtain⟨l,I,hl,hk,h0,hs,hd⟩:=h;refine⟨λi m ys Z g=>m=l.length-i/\i<=l.length/\I i ys Z g,⟨l.length,by simp,bY _,h0⟩,?_⟩;rintro i m ys Z g ⟨rfl,hi,p⟩;obtain⟨lO,hy⟩:=hk i ys Z g p;rw[lO i];by_cases dW:i<l.length
 ·rw[ai dW];refine .inr ⟨_,rfl,by omega,B1 (λcE q=>n8 hP cond _ _ _ _ _ _ (λc g3 q=>?_) (λ_ _ z=>z) q) (hs i l[i] ys Z g (ai dW) p)⟩;cases c
  ·exact⟨l.length-(i+1),by omega,rfl,dW,by simpa using(show I (i+1) ys cE g3 from q)⟩
  ·exact b8 hP elt _ _ _ _ _ _ (λy g4 q=>⟨l.length-(i+1),by omega,rfl,dW,by simpa using q⟩) (λ_ _ z=>z) q
 ·have e:i=l.length:=by omega
  subst e;rw[cK (aj _)];exact .inl ⟨rfl,hd ys Z g p⟩
theorem NB(hP:j4 P)(h:aT P a Z g (λx g1=>∃j:Nat,x=.int j/\j<=1000/\∃I:Nat->List D->S->G->Prop,I 0 [] (J3 Z c8 n) g1/\(∀i ys Z g,I i ys Z g->ys.length<=i) /\
      (∀(i:Nat) ys Z g,i<j->I i ys Z g->jz t (.int i) Z λcE=>da P cond cE g (λc g3=>if c=true then aT P elt cE g3 (λy g4=>I (i+1) (ys++[y]) cE g4) jw else I (i+1) ys cE g3) jw) /\
      ∀ ys Z g,I j ys Z g->Q (.ref g.length) (g ++ [.lst ys])) E):aT P (.comp c8 n t (.dQ a) cond elt) Z g Q E:=by
  refine L6 hP ?_;refine b8 hP a _ _ _ _ _ _ (λx g1 h=>?_) (λ_ _ z=>z) h;obtain⟨j,rfl,hj,I,h0,hz,hs,hd⟩:=h;refine⟨j,rfl,by omega,by omega,_,I,by rw[o8];simpa using hj,λi ys Z g p=>⟨q9,hz i ys Z g p⟩,h0,λi x ys Z g hx p=>?_,λys Z g p=>hd ys Z g (by rw[o8] at p;simpa using p)⟩;obtain⟨hi,rfl⟩:=A7 hx;rw[show(0:Int)+(i:Int)=i by omega];exact hs i ys Z g (by simpa using hi) p
theorem Ed(hP:j4 P)(h:aT P a Z g (λx g1=>∃l,x=.tup l/\l.length<=1000/\∃I:Nat->List D->S->G->Prop,I 0 [] (J3 Z c8 n) g1/\(∀i ys Z g,I i ys Z g->ys.length<=i) /\
      (∀(i:Nat) x ys Z g,l[i]?=some x->I i ys Z g->jz t x Z λcE=>da P cond cE g (λc g3=>if c=true then aT P elt cE g3 (λy g4=>I (i+1) (ys++[y]) cE g4) jw else I (i+1) ys cE g3) jw) /\
      ∀ ys Z g,I l.length ys Z g->Q (.ref g.length) (g ++ [.lst ys])) E):aT P (.comp c8 n t (.iu a) cond elt) Z g Q E:=by
  refine L6 hP ?_;refine b8 hP a _ _ _ _ _ _ (λx g1 h=>?_) (λ_ _ z=>z) h;obtain⟨l,rfl,hj,I,h0,hz,hs,hd⟩:=h;exact .inl ⟨l,rfl,_,I,hj,λi ys Z g p=>⟨q9,hz i ys Z g p⟩,h0,hs,hd⟩
theorem CU(I:Nat->S->G->Prop)(m0:Nat)(h0:I m0 Z g)(hs:∀m Z g,I m Z g->da P c Z g (λt g1=>if t=true then wpS P s ⟨λbJ g'=>∃m',m'<m/\I m' bJ g',N.rt,N.nx,λbJ g'=>∃m',m'<m/\I m' bJ g'⟩ Z g1 E else N.nx Z g1) E)(hP:j4 P):wpS P (.jm c s) N Z g E:=by
 refine⟨I,⟨m0,h0⟩,λm Z g p=>n8 hP c _ _ _ _ _ _ (λt g1 q=>?_) (λ_ _ z=>z) (hs m Z g p)⟩;cases t
 ·exact q
 ·exact⟨_,λ_ _ z=>z,q⟩
theorem J1(hP:j4 P)(h:aT P a Z g (λx g1=>∃j:Int,x=.int j/\-(2 ^ 62)<=j/\j<2 ^ 62/\R (.fix (j5 0 j.toNat)) g1) E):hU P (.dQ a) Z g R E:=h
theorem AY(hP:j4 P)(h:aT P a Z g (λx g1=>∃l,x=.tup l/\R (.fix l) g1) E):hU P (.iu a) Z g R E:=by
 exact b8 hP a _ _ _ _ _ _ (λx g1 h=>.inl h) (λ_ _ z=>z) h
theorem pR(hP:j4 P)(h:aT P a Z g (λx g1=>∃i l,x=.ref i/\c6 g1 i=some l/\R (.lst i) g1) E):hU P (.iu a) Z g R E:=by
 exact b8 hP a _ _ _ _ _ _ (λx g1 h=>.inr h) (λ_ _ z=>z) h
theorem AZ(h:aT P a Z g (λx g1=>∃i l,x=.ref i/\c6 g1 i=some l/\R (.qb i) g1) E):hU P (.lL a) Z g R E:=h
end
end M
namespace M
open PySem L2 PySem.Spec PyProof.Rows
variable{K:PySem.W.Frag}{x:Str}{C:Addr}
structure RF where
 id:Nat
 nm:Str
 N:List Str
 k:Nat
 i:Nat
 m:bo
structure RM where
 id:Nat
 cl:Str
 nm:Str
 qn:Str
 N:List Str
 k:Nat
 i:Nat
 j:Nat
 m:bo
def RF.d(tp:Nat->Stmt)(r:RF):mQ:=⟨r.nm,r.nm,r.N,r.N.take r.k,tp r.i⟩
def RM.d(mt:Nat->Nat->Stmt)(r:RM):mQ:=⟨r.nm,r.qn,r.N,r.N.take r.k,mt r.i r.j⟩
def qk(F:List RF)(M:List RM)(i:Nat):Option bo:=match F.find? λr=>Nat.beq r.id i with
 |some r=>some r.m
 |none=>(M.find? λr=>Nat.beq r.id i).map (·.m)
section
variable(tp:Nat->Stmt)(mt:Nat->Nat->Stmt)(K:PySem.W.Frag)
def PF:List RF->Prop
 |[]=>True
 |r::l=>(∃f fd,PySem.W.nsIn K mainGlobals r.nm=some (some (.ref f))/\nM K r.nm r.nm (tp r.i) f fd)/\PF l
def PM:List RM->Prop
 |[]=>True
 |r::l=>(∃C f fd,PySem.W.nsIn K mainGlobals r.cl=some (some (.ref C))/\Meth K C r.nm f/\nM K r.nm r.qn (mt r.i r.j) f fd)/\PM l
def PC:List (Str×Nat)->Prop
 |[]=>True
 |r::l=>(∃C,PySem.W.nsIn K mainGlobals r.1=some (some (.ref C))/\jg K C/\PySem.W.makesIn K C=true/\PySem.W.keepIn K (.ref C)=true)/\PC l
def PA:List (Str×Str)->Prop
 |[]=>True
 |r::l=>(∃C,PySem.W.nsIn K mainGlobals r.2=some (some (.ref C))/\PySem.W.findIn K (.ref C) r.1=some none)/\PA l
def PB:List Str->Prop
 |[]=>True
 |r::l=>PySem.W.nsIn K mainGlobals r=some none/\PB l
def PX:List Str->Prop
 |[]=>True
 |r::l=>(∃C,PySem.W.nsIn K mainGlobals r=some (some (.ref C))/\PySem.W.excIn K C [.type "ValueError",.type "Exception",.type "BaseException",.type "object"] "ValueError.__new__"=true)/\PX l
def BF:List RF->Prop
 |[]=>True
 |r::l=>(∀(kV doc pm:Value) (an:Option Addr) (fx ct:Value) (us:List Value),us.length=(r.N.take r.k).length->bindArgs (PySem.W.fnOf r.nm r.nm (C7 (tp r.i)) (p9 (tp r.i)) (o6 (tp r.i)) .none kV doc pm an fx ct) ⟨us,[]⟩=pure ((r.N.take r.k).zip us))/\BF l
def BM:List RM->Prop
 |[]=>True
 |r::l=>(∀(kV doc pm:Value) (an:Option Addr) (fx ct:Value) (us:List Value),us.length=(r.N.take r.k).length->bindArgs (PySem.W.fnOf r.nm r.qn (C7 (mt r.i r.j)) (p9 (mt r.i r.j)) (o6 (mt r.i r.j)) .none kV doc pm an fx ct) ⟨us,[]⟩=pure ((r.N.take r.k).zip us))/\BM l
def YF(c:f6):List RF->Prop
 |[]=>True
 |r::l=>v9 (comp 60) (c.at (r.d tp)) (p9 (tp r.i))=some r.m.body/\YF c l
def YM(c:f6):List RM->Prop
 |[]=>True
 |r::l=>v9 (comp 60) (c.at (r.d mt)) (p9 (mt r.i r.j))=some r.m.body/\YM c l
end
section
variable{tp:Nat->Stmt}{mt:Nat->Nat->Stmt}{c:f6}{id k i j:Nat}{cl nm qn:Str}{N:List Str}{m:bo}{f:Addr}{oc kV doc pm fx ct:Value}{od an:Option Addr}{kO:Array (Option Value)}
theorem PF.nil:PF tp K []:=trivial
theorem PF.cons{l:List RF}(a:PySem.W.nsIn K mainGlobals nm=some (some (.ref f)))(lk:K.lookup f=some ⟨oc,od,.func (PySem.W.fnOf nm nm (C7 (tp i)) (p9 (tp i)) (o6 (tp i)) .none kV doc pm an fx ct),kO⟩)(cd:PySem.W.codeIn K fx nm=true)(kp:PySem.W.keepIn K (.ref f)=true)(h:PF tp K l):PF tp K (⟨id,nm,N,k,i,m⟩::l):=⟨⟨f,_,a,Mh lk cd kp⟩,h⟩
theorem PM.nil:PM mt K []:=trivial
theorem PC.nil:PC K []:=trivial
theorem PA.nil:PA K []:=trivial
theorem PB.nil:PB K []:=trivial
theorem PB.cons{l:List Str}(cn:PySem.W.nsIn K mainGlobals x=some none)(h:PB K l):PB K (x::l):=⟨cn,h⟩
theorem PX.nil:PX K []:=trivial
theorem PX.cons{l:List Str}(cn:PySem.W.nsIn K mainGlobals x=some (some (.ref C)))(q:PySem.W.excIn K C [.type "ValueError",.type "Exception",.type "BaseException",.type "object"] "ValueError.__new__"=true)(h:PX K l):PX K (x::l):=⟨⟨C,cn,q⟩,h⟩
theorem Ak{P:List Value->Prop}{n:Nat}(h:∀a vs,vs.length=n->P (a::vs))(us:List Value)(hl:us.length=n+1):P us:=by
 cases us with
 |nil=>cases hl
 |cons a vs=>exact h a vs (Nat.succ.inj hl)
theorem Aj{P:List Value->Prop}(h:P [])(us:List Value)(hl:us.length=0):P us:=by
 cases List.length_eq_zero_iff.mp hl;exact h
theorem BF.nil:BF tp []:=trivial
theorem BF.cons{l:List RF}(h:∀(kV doc pm:Value) (an:Option Addr) (fx ct:Value) (us:List Value),us.length=(N.take k).length->bindArgs (PySem.W.fnOf nm nm (C7 (tp i)) (p9 (tp i)) (o6 (tp i)) .none kV doc pm an fx ct) ⟨us,[]⟩=pure ((N.take k).zip us))(h2:BF tp l):BF tp (⟨id,nm,N,k,i,m⟩::l):=⟨h,h2⟩
theorem BM.nil:BM mt []:=trivial
theorem YF.nil:YF tp c []:=trivial
theorem YF.cons{l:List RF}(h:v9 (comp 60) (c.at ⟨nm,nm,N,N.take k,tp i⟩) (p9 (tp i))=some m.body)(h2:YF tp c l):YF tp c (⟨id,nm,N,k,i,m⟩::l):=⟨h,h2⟩
theorem YM.nil:YM mt c []:=trivial
theorem YF.get:∀{l:List RF},YF tp c l->∀r∈l,v9 (comp 60) (c.at (r.d tp)) (p9 (tp r.i))=some r.m.body
 |_::_,h,r,hr=>(aD.mp hr).elim (λz=>z▸h.1) (YF.get h.2 r)
theorem YM.get:∀{l:List RM},YM mt c l->∀r∈l,v9 (comp 60) (c.at (r.d mt)) (p9 (mt r.i r.j))=some r.m.body
 |_::_,h,r,hr=>(aD.mp hr).elim (λz=>z▸h.1) (YM.get h.2 r)
theorem PF.get:∀{l:List RF},PF tp K l->∀r∈l,∃f fd,PySem.W.nsIn K mainGlobals r.nm=some (some (.ref f))/\nM K r.nm r.nm (tp r.i) f fd
 |_::_,h,r,hr=>(aD.mp hr).elim (λz=>z▸h.1) (PF.get h.2 r)
theorem PM.get:∀{l:List RM},PM mt K l->∀r∈l,∃C f fd,PySem.W.nsIn K mainGlobals r.cl=some (some (.ref C))/\Meth K C r.nm f/\nM K r.nm r.qn (mt r.i r.j) f fd
 |_::_,h,r,hr=>(aD.mp hr).elim (λz=>z▸h.1) (PM.get h.2 r)
theorem PC.get:∀{l:List (Str×Nat)},PC K l->∀r∈l,∃C,PySem.W.nsIn K mainGlobals r.1=some (some (.ref C))/\jg K C/\PySem.W.makesIn K C=true/\PySem.W.keepIn K (.ref C)=true
 |_::_,h,r,hr=>(aD.mp hr).elim (λz=>z▸h.1) (PC.get h.2 r)
theorem PA.get:∀{l:List (Str×Str)},PA K l->∀r∈l,∃C,PySem.W.nsIn K mainGlobals r.2=some (some (.ref C))/\PySem.W.findIn K (.ref C) r.1=some none
 |_::_,h,r,hr=>(aD.mp hr).elim (λz=>z▸h.1) (PA.get h.2 r)
theorem PB.get:∀{l:List Str},PB K l->∀r∈l,PySem.W.nsIn K mainGlobals r=some none
 |_::_,h,r,hr=>(aD.mp hr).elim (λz=>z▸h.1) (PB.get h.2 r)
theorem PX.get:∀{l:List Str},PX K l->∀r∈l,∃C,PySem.W.nsIn K mainGlobals r=some (some (.ref C))/\PySem.W.excIn K C [.type "ValueError",.type "Exception",.type "BaseException",.type "object"] "ValueError.__new__"=true
 |_::_,h,r,hr=>(aD.mp hr).elim (λz=>z▸h.1) (PX.get h.2 r)
theorem BF.get:∀{l:List RF},BF tp l->∀r∈l,∀(kV doc pm:Value) (an:Option Addr) (fx ct:Value) (us:List Value),us.length=(r.N.take r.k).length->bindArgs (PySem.W.fnOf r.nm r.nm (C7 (tp r.i)) (p9 (tp r.i)) (o6 (tp r.i)) .none kV doc pm an fx ct) ⟨us,[]⟩=pure ((r.N.take r.k).zip us)
 |_::_,h,r,hr=>(aD.mp hr).elim (λz=>z▸h.1) (BF.get h.2 r)
theorem BM.get:∀{l:List RM},BM mt l->∀r∈l,∀(kV doc pm:Value) (an:Option Addr) (fx ct:Value) (us:List Value),us.length=(r.N.take r.k).length->bindArgs (PySem.W.fnOf r.nm r.qn (C7 (mt r.i r.j)) (p9 (mt r.i r.j)) (o6 (mt r.i r.j)) .none kV doc pm an fx ct) ⟨us,[]⟩=pure ((r.N.take r.k).zip us)
 |_::_,h,r,hr=>(aD.mp hr).elim (λz=>z▸h.1) (BM.get h.2 r)
end
def tX(N P:List Str)(sc:Scope):Bool:=decide (sc.kind=.function)&&!sc.isCoroutine&&!sc.isGenerator&&decide N.Nodup&&decide (N.take P.length=P)&&P.all (λx=>decide (sc.names.lookup x=some .local)||decide (sc.names.lookup x=some .cell))&&sc.names.all λy=>decide (y.2≠.free)
theorem Fh{N P:List Str}{sc:Scope}(h:tX N P sc=true):gT N P sc:=by
 unfold tX at h;simp only[Bool.and_eq_true,decide_eq_true_eq,Bool.not_eq_true',List.all_eq_true,Bool.or_eq_true] at h;obtain⟨⟨⟨⟨⟨⟨h1,h2⟩,h3⟩,h4⟩,h5⟩,h6⟩,h7⟩:=h;exact⟨h1,h2,h3,h4,h5,h6,h7⟩
theorem RN{h₀:Heap}{mg:Str->Option Value}{Cj:List Value}{newId:String}(X:K.In h₀)(G:h₀.Ns mainGlobals mg)(e:PySem.W.nsIn K mainGlobals x=some (some (.ref C)))(q:PySem.W.excIn K C Cj newId=true):PyProof.Rows.OwnCls x C Cj newId mg h₀:=by
 refine⟨cA X G e,?_⟩;unfold PySem.W.excIn at q;split at q
 ·rename_i dd cd sl ho;split at q
  ·rename_i C' bm k0 k1 k2 k3 n k5 hm hs;simp only[Bool.and_eq_true,beq_iff_eq,Bool.not_eq_true'] at q;obtain⟨⟨⟨⟨⟨z1,z2⟩,sg⟩,ht⟩,bD⟩,uj⟩:=q;subst z1;subst z2;obtain⟨nm,bs,mro,ns,qn,hd,sn,sub,ab,col,del⟩:=cd;dsimp only at hm sg bD uj;subst hm sg;have GK:sl=#[k0,k1,k2,k3,some (.builtin n),k5]:=by
    obtain⟨l⟩:=sl;simp only at hs;rw[hs]
   subst GK;exact⟨bm,ns,nm,qn,bs,hd,sn,sub,ab,col,dd,k0,k1,k2,k3,k5,_,X _ _ ho,.of_isNs (PySem.W.isNs_of_in X bD),PySem.W.nsMap_none_of_in X bD uj,PySem.W.tail_of_in X ht⟩
  ·cases q
 ·cases q
def N9(K:PySem.W.Frag)(x:Str):Addr:=match PySem.W.nsIn K mainGlobals x with
 |some (some (.ref C))=>C
 |_=>0
def Cz(K:PySem.W.Frag)(exc:List Str):Bool:=exc.all λx=>exc.all λy=>decide (PySem.W.exmOne K (.ref (N9 K x)) (.ref (N9 K y))=some (decide (x=y\/y="MintError")))
theorem Mg{exc:List Str}(h:Cz K exc=true){y:Str}{C':Addr}(hx:exc.contains x=true)(hy:exc.contains y=true)(hC:p8 K x C)(xk:p8 K y C'):PySem.W.exmOne K (.ref C) (.ref C')=some (decide (x=y\/y="MintError")):=by
 have h1:=dH.mp h x (by simpa using hx);have h2:=bw (dH.mp h1 y (by simpa using hy));have e1:N9 K x=C:=by unfold N9;rw[show PySem.W.nsIn K mainGlobals x=_ from hC]
 have e2:N9 K y=C':=by unfold N9;rw[show PySem.W.nsIn K mainGlobals y=_ from xk]
 rw[e1,e2] at h2;exact h2
theorem yN{α:Type}{f:α->Nat}:∀{l:List α},(l.map f).Nodup->∀r∈l,l.find? (λx=>Nat.beq (f x) (f r))=some r
 |y::l,nd,r,hr=>by
  rw[aV,fk] at nd;rcases aD.mp hr with rfl|hr
  ·rw[List.find?_cons_of_pos];exact Nat.beq_refl _
  ·rw[List.find?_cons_of_neg]
   ·exact yN nd.2 r hr
   ·intro z;exact nd.1 (aM.mpr ⟨r,hr,(gY z).symm⟩)
theorem Ur{α β:Type}{f:α->Nat}{g:β->Nat}{l:List α}{r:β}(h:g r∉l.map f):l.find? (λx=>Nat.beq (f x) (g r))=none:=by
 rw[FN];intro x hx z;exact h (aM.mpr ⟨x,hx,gY z⟩)
section
variable{w:World}{h₀:Heap}{mg:Str->Option Value}{c:f6}{F:List RF}{M:List RM}{tp:Nat->Stmt}{mt:Nat->Nat->Stmt}
structure jV(K:PySem.W.Frag)(c:f6)(F:List RF)(M:List RM)(tp:Nat->Stmt)(mt:Nat->Nat->Stmt):Prop where
 qF:PF tp K F
 qM:PM mt K M
 qC:PC K c.cls
 qA:PA K c.mI
 qB:PB K c.blt
 qX:PX K c.exc
 xm:Cz K c.exc=true
structure jU(c:f6)(F:List RF)(M:List RM)(tp:Nat->Stmt)(mt:Nat->Nat->Stmt):Prop where
 cf:c.fns=F.map λr=>(r.nm,r.id)
 cm:c.ow=M.map λr=>(r.nm,r.cl,r.id)
 ci:c.cls.all (λy=>M.any λr=>decide (r.cl=y.1)&&decide (r.nm="__init__")&&Nat.beq r.id y.2)=true
 nd:(F.map (·.id)++M.map (·.id)).Nodup
 sF:F.all (λr=>tX r.N (r.N.take r.k) (o6 (tp r.i))&&decide (r.m.ar=(r.N.take r.k).length)&&decide (r.m.n=r.N.length))=true
 sM:M.all (λr=>tX r.N (r.N.take r.k) (o6 (mt r.i r.j))&&decide (r.m.ar=(r.N.take r.k).length)&&decide (r.m.n=r.N.length))=true
 oF:YF tp c F
 oM:YM mt c M
 bF:BF tp F
 bM:BM mt M
theorem CO(I:jV K c F M tp mt)(X:jU c F M tp mt)(r:RF)(hr:r∈F):∃f fd,iO K c (r.d tp) r.m f fd/\PySem.W.nsIn K mainGlobals r.nm=some (some (.ref f))/\qk F M r.id=some r.m:=by
 obtain⟨f,fd,a,q⟩:=I.qF.get r hr;have s:=dH.mp X.sF r hr;simp only[Bool.and_eq_true,decide_eq_true_eq] at s;have o:=X.oF.get r hr;refine⟨f,fd,⟨q,q.binds (X.bF.get r hr),Fh s.1.1,o,s.1.2,s.2⟩,a,?_⟩;unfold qk;rw[yN (f:=(·.id)) (dz.mp X.nd).1 r hr]
theorem CP(I:jV K c F M tp mt)(X:jU c F M tp mt)(r:RM)(hr:r∈M):∃C f fd,iO K c (r.d mt) r.m f fd/\PySem.W.nsIn K mainGlobals r.cl=some (some (.ref C))/\Meth K C r.nm f/\qk F M r.id=some r.m:=by
 obtain⟨C,f,fd,a,q1,q⟩:=I.qM.get r hr;have s:=dH.mp X.sM r hr;simp only[Bool.and_eq_true,decide_eq_true_eq] at s;have o:=X.oM.get r hr;refine⟨C,f,fd,⟨q,q.binds (X.bM.get r hr),Fh s.1.1,o,s.1.2,s.2⟩,a,q1,?_⟩;have nd:=dz.mp X.nd;unfold qk;rw[Ur (f:=λr:RF=>r.id) (g:=λr:RM=>r.id) (r:=r) (λz=>nd.2.2 _ z _ (aM.mpr ⟨r,hr,rfl⟩) rfl),yN (f:=λr:RM=>r.id) nd.2.1 r hr]
 rfl
theorem TR(I:jV K c F M tp mt)(Y:jU c F M tp mt)(X:K.In h₀)(G:h₀.Ns mainGlobals mg)(con:∀x d,c.con.lookup x=some d->∃v u,mg x=some u/\RelV v u/\∀ρ H,d5 K ρ H d v)(oQ:∀x kvs,c.gd.lookup x=some kvs->∃A vs,mg x=some (.ref A)/\tm K w.params A vs/\Z3 K kvs vs):lD w K mg c (qk F M):=by
 refine⟨λx i hx=>?_,λx i hx=>?_,λx y i C hx hC=>?_,λf y C hx hC=>?_,con,λx hx=>?_,λx hx=>?_,λx y C C' hx hy hC xk=>Mg I.xm hx hy hC xk,oQ⟩
 ·have hm:=aI hx;rw[Y.cf] at hm;obtain⟨r,hr,e⟩:=aM.mp hm;cases e;obtain⟨f,fd,O,a,t⟩:=CO I Y r hr;exact⟨_,_,f,fd,t,O,cA X G a⟩
 ·have hm:=aI hx;have h1:=dH.mp Y.ci _ hm;obtain⟨r,hr,e⟩:=gk.mp h1;simp only[Bool.and_eq_true,decide_eq_true_eq] at e;obtain⟨⟨e1,e2⟩,e3⟩:=e;have e3:=gY e3;obtain⟨C,f,fd,O,a,q,t⟩:=CP I Y r hr;obtain⟨C',a',hc,mk,kp⟩:=I.qC.get _ hm;rw[e1] at a;cases a.symm.trans a';rw[e2] at q;rw[e3] at t;exact⟨C,_,_,f,fd,t,O,cA X G a,a,hc,⟨mk,q.at_,q.fn,kp⟩⟩
 ·rw[Y.cm] at hx;obtain⟨r,hr,e⟩:=aM.mp hx;cases e;obtain⟨C',f,fd,O,a,q,t⟩:=CP I Y r hr;cases a.symm.trans hC;exact⟨_,_,f,fd,t,O,q⟩
 ·obtain⟨C',a,q⟩:=I.qA.get _ hx;cases a.symm.trans hC;exact q
 ·exact PySem.W.mg_none_of X G (I.qB.get x (by simpa using hx))
 ·obtain⟨C,a,q⟩:=I.qX.get x (by simpa using hx);exact⟨_,cA X G a,a,λbase lK sE=>⟨_,_,_,_,RN lK sE a q,PySem.F.excBase_ValueError⟩⟩
end
end M
namespace M
open PySem L2
variable{g g':G}{i j n k m a r x lo t p b sd q:Nat}{o o':O}{P:eR}{Q:KD}{E:KX}{N:Ends}{ms ns:List Int}{l:List D}{α:Type}{c c':b9}{v:Int}{kvs:List (Key×D)}{cs:List b9}{kb:Bool->Prop}
set_option hygiene false
local macro_rules|`(tactic|walk_at"w1")=>`(tactic|with_reducible first|refine yC ?_|refine EU ?_|refine EV ?_|refine LR ?_|refine Ua ?_|refine LV ?_|refine CT ?_|refine vI ?_|refine ET ?_|refine W8 ?_|refine vJ ?_|(refine w_var (d:=?_) ?_ ?_;rotate_left;·with_unfolding_all rfl)|refine w_lit ?_|refine Fx ?_|refine Fw ?_|refine JY ?_|refine Uc ?_|refine Pt ?_|refine w_and ?_|refine w_or ?_|refine w_not ?_|refine w_ite ?_|refine yB ?_|refine vK ?_|refine tT ?_|refine ye ?_|refine W9 ?_|refine Ud ?_|refine LU ?_|refine Ue ?_|refine Z5 ?_|refine EW ?_|refine J' ?_|refine Ka ?_|refine LM ?_|refine IP ?_|refine IM ?_|refine IJ ?_|refine II ?_|refine Ke ?_|refine Ki ?_|refine Cg ?_|refine Kh ?_|refine Cf ?_|refine Cc ?_|refine Ca ?_|refine Cb ?_|refine BY ?_|refine BX ?_|refine BZ ?_|refine IL ?_|refine Kf ?_|refine Ce ?_|refine Cd ?_|refine Kg ?_|refine zE ?_|refine JV ?_|refine yJ ?_|refine Mm ?_|refine jQ ?_|refine pq ?_|refine Cq ?_|refine IZ ?_|refine AU ?_|refine vT ?_|refine vR ?_|refine vS ?_|refine AA ?_|refine AQ ?_|refine Al ?_)
local macro_rules|`(tactic|walk_at"w2")=>`(tactic|repeat(with_reducible first|walk_at "w1"|refine zP (by simp) ?_|refine zO (by simp) ?_|refine k7 (a8 (by assumption)) (by with_unfolding_all rfl) ?_|refine E9 (a8 (by assumption)) ?_|refine zD (by unfold Z4;decide) ?_))
local macro_rules|`(tactic|walk_at"w3")=>`(tactic|repeat(with_reducible first|walk_at "w1"|refine zP (by simp) ?_|refine zO (by simp) ?_|refine k7 (a8 (by assumption)) (by with_unfolding_all rfl) ?_|refine E9 (a8 (by assumption)) ?_|refine zD (by unfold Z4;decide) ?_|refine And.intro (show List.length _ <= 1000 from by simp) ?_|refine yV (by with_unfolding_all rfl) ?_|refine s9 ?_|refine M3 (by with_unfolding_all rfl) ?_))
local macro_rules|`(tactic|walk_at"")=>`(tactic|repeat(with_reducible first|walk_at "w1"|refine Pu ?_|refine Ai ?_|refine Ub ?_|refine BW ?_|refine An ?_|refine Am ?_|refine max2 ?_|refine min2 ?_|refine Kv ?_|refine Y6 ?_|refine HU ?_|refine BE ?_|refine zP (by simp) ?_|refine zO (by simp) ?_|refine k7 (a8 (by assumption)) (by with_unfolding_all rfl) ?_|refine E9 (a8 (by assumption)) ?_|refine zD (by unfold Z4;decide) ?_|refine And.intro (show List.length _ <= 1000 from by simp) ?_|refine yV (by with_unfolding_all rfl) ?_|refine s9 ?_|refine M3 (by with_unfolding_all rfl) ?_|refine And.intro (R8 (by assumption)) ?_|refine And.intro (MG (by assumption)) ?_|refine And.intro (Ji (by assumption)) ?_|refine L4 (by decide) ?_|refine LY (by decide) (by decide) ?_|refine AZ ?_))
set_option hygiene true
abbrev gf(a:ME):ME:=.cons a .nil
abbrev eE(a b:ME):ME:=.cons a (.cons b .nil)
abbrev kH(a b c:ME):ME:=.cons a (.cons b (.cons c .nil))
abbrev tR(a b c d:ME):ME:=.cons a (.cons b (.cons c (.cons d .nil)))
abbrev qI(a b c d e:ME):ME:=.cons a (.cons b (.cons c (.cons d (.cons e .nil))))
abbrev HL(a b c d e f:ME):ME:=.cons a (.cons b (.cons c (.cons d (.cons e (.cons f .nil)))))
abbrev HM(a b c d e f g:ME):ME:=.cons a (.cons b (.cons c (.cons d (.cons e (.cons f (.cons g .nil))))))
abbrev fh(o:PySem.CmpOp)(a b:ME):ME:=.gJ (.prim (.cmp o) (.cons a (.cons b .nil)))
abbrev cU(a b:ME):ME:=.prim .ix (.cons a (.cons b .nil))
abbrev aW(a:Int):ME:=.lit (.int a)
abbrev ud(a:PySem.Str):ME:=.lit (.str a)
abbrev eO(p:Pr)(a:ME):ME:=.prim p (.cons a .nil)
abbrev cB(p:Pr)(a b:ME):ME:=.prim p (.cons a (.cons b .nil))
abbrev aU:ME:=.var 0
abbrev bX:ME:=.var 1
abbrev jP:ME:=.var 10
abbrev ng:ME:=.var 11
abbrev jO:ME:=.var 12
abbrev rD:ME:=.var 13
abbrev mZ:ME:=.var 15
abbrev rC:ME:=.var 16
abbrev cF:ME:=.var 2
abbrev cI:ME:=.var 3
abbrev dA:ME:=.var 4
abbrev fJ:ME:=.var 5
abbrev fG:ME:=.var 6
abbrev iC:ME:=.var 7
abbrev jr:ME:=.var 8
abbrev kT:ME:=.var 9
def B2:bo:=⟨2,5,(.seq (.ifs (.dX (fh .Lt (cU aU (aW 2)) bX) (fh .Lt (cU aU (aW 1)) (eO .len (cU aU (aW 0))))) (.seq (.set 2 (cU (cU aU (aW 0)) (cU aU (aW 1)))) (.seq (.eh aU (aW 1) (cB (.bin .Add) (cU aU (aW 1)) (aW 1))) (.seq (.eh aU (aW 2) (aW 0)) (.seq (.ifs (fh .GtE cF (cB (.bin .Pow) (aW 10) (aW 18))) (.seq (.eh aU (aW 2) cF) .pass) (.seq (.eh aU (aW 3) (cB (.bin .Mod) (cB (.bin .Add) (cB (.bin .Add) (cB (.bin .Mult) (cU aU (aW 3)) (aW 48271)) (cB (.bin .Mult) (cB (.bin .Mod) cF (aW 2147483629)) (aW 69621))) (aW 12345)) (aW 2147483647))) .pass)) .pass)))) .pass) (.seq (.ifs (fh .GtE (cU aU (aW 2)) bX) (.seq (.set 3 (cB (.bin .Mod) (cU aU (aW 2)) bX)) (.seq (.eh aU (aW 2) (cB (.bin .FloorDiv) (cU aU (aW 2)) bX)) (.seq (.ret cI) .pass))) .pass) (.seq (.set 4 (cU aU (aW 3))) (.seq (.eh aU (aW 3) (cB (.bin .Mod) (cB (.bin .Add) (cB (.bin .Add) (cB (.bin .Mult) (cB (.bin .Mod) (cB (.bin .Mult) dA dA) (aW 2147483629)) (aW 5)) (cB (.bin .Mult) dA (aW 16811))) (aW 2531011)) (aW 2147483647))) (.seq (.ret (cB (.bin .Mod) (cB (.bin .Add) (cB (.bin .FloorDiv) (cU aU (aW 3)) (aW 59)) (cB (.bin .Mult) (cB (.bin .Mod) (cU aU (aW 3)) (aW 8191)) (aW 31))) bX)) .pass)))))⟩
structure j7(g:G)(d:Nat):Prop where
 ex:∃(s:Nat) (p b r:Int) (xs:List Int),g[d]?=some (.lst [.ref s,.int p,.int b,.int r])/\g[s]?=some (.lst (xs.map .int))/\s<d/\0<=p/\0<=b/\0<=r/\r<2147483647
structure Gr(d:Nat)(g g':G):Prop where
 len:g.length<=g'.length
 old:∀i,i≠d->i<g.length->g'[i]?=g[i]?
theorem Gr.refl(d:Nat)(g:G):Gr d g g:=⟨aj _,λ_ _ _=>rfl⟩
theorem Gr.trans{d:Nat}{g g1 g2:G}(a:Gr d g g1)(b:Gr d g1 g2):Gr d g g2:=⟨aG a.len b.len,λi h1 h2=>(b.old i h1 (az h2 a.len)).trans (a.old i h1 h2)⟩
theorem Gr.set(d:Nat)(g:G)(o:O):Gr d g (g.set d o):=⟨by simp,λi h1 h2=>aA (bU h1)⟩
theorem Gr.snoc(d:Nat)(g:G)(o:O):Gr d g (g++[o]):=⟨by simp,λi h1 h2=>aw h2⟩
theorem Gr.at{d:Nat}(h:Gr d g g')(hi:i≠d)(e:g[i]?=some o):g'[i]?=some o:=(h.old i hi (ao.mp e).1).trans e
theorem p0(h:g[i]?=some o):i<g.length:=(ao.mp h).1
theorem j7.lt{d:Nat}(h:j7 g d):d<g.length:=by
 obtain⟨_,_,_,_,_,e,_⟩:=h.ex;exact p0 e
theorem j7.snoc{d:Nat}(h:j7 g d)(o:O):j7 (g++[o]) d:=by
 obtain⟨s,p,b,r,xs,e1,e2,q⟩:=h.ex;exact⟨s,p,b,r,xs,by rw[aw (p0 e1)];exact e1,by rw[aw (p0 e2)];exact e2,q⟩
def i9:MS->MS
 |.seq _ b=>b
 |x=>x
theorem ym{i j:Int}(h1:-(2 ^ 64)<i)(h2:i<2 ^ 64):V9 i j:=.inl ⟨h1,h2⟩
theorem S1{i j:Int}(h1:-(2 ^ 64)<j)(h2:j<2 ^ 64):V9 i j:=.inr ⟨h1,h2⟩
theorem Sb{d:Nat}{n:Int}{c2:Option D}(hN:N.rt=Q)(D0:j7 g d)(hn:0<n)(nj:n<1073741824)(h:∀r g',0<=r->r<n->j7 g' d->Gr d g g'->Q (.int r) g'):wpS P (i9 B2.body) N [some (.ref d),some (.int n),c2,none,none] g E:=by
 obtain⟨s,p,b,r,xs,e1,e2,mz,hp,hb,hr,ui⟩:=D0.ex;have dW:=p0 e1;subst hN;dsimp[B2,i9];walk_at "w2";refine if2 (λc=>?_) (λc=>?_)
 ·walk_at "w2";refine L4 hn ?_;walk_at "w2";refine uH ⟨hn,nj⟩ ?_;walk_at "w2";refine P2 e1 (by with_unfolding_all rfl) ?_;walk_at "w2";refine h _ _ (dY _ (by omega)) (df _ hn) ⟨s,p,b / n,r,xs,?_,?_,mz,hp,Int.ediv_nonneg hb (by omega),hr,ui⟩ (Gr.set d g _)
  ·rw[aP dW];rfl
  ·rw[aA (bE mz)];exact e2
 ·walk_at "w2";have AE:-(2 ^ 64)<r/\r<2 ^ 64:=⟨by omega,by omega⟩
  refine J7 (ym AE.1 AE.2) ?_;walk_at "w2";refine L4 (by decide) ?_;walk_at "w2";refine J7 (S1 (by decide) (by decide)) ?_;walk_at "w2";refine J7 (S1 (by decide) (by decide)) ?_;walk_at "w2";refine L4 (by decide) ?_;walk_at "w2";refine P2 e1 (by with_unfolding_all rfl) ?_;generalize rR:(r*r % 2147483629*5+r*16811+2531011) % 2147483647=r';have q0:0<=r':=by rw[<- rR];exact dY _ (by decide)
  have q1:r'<2147483647:=by rw[<- rR];exact df _ (by decide)
  have Iq:(g.set d (.lst [.ref s,.int p,.int b,.int r']))[d]?=some (.lst [.ref s,.int p,.int b,.int r']):=aP dW;show wpS P _ _ _ (g.set d (.lst [.ref s,.int p,.int b,.int r'])) E;walk_at "w2";refine uH ⟨by decide,by decide⟩ ?_;walk_at "w2";refine L4 (by decide) ?_;walk_at "w2";refine J7 (S1 (by decide) (by decide)) ?_;walk_at "w2";refine L4 hn ?_;walk_at "w2";refine h _ _ (dY _ (by omega)) (df _ hn) ⟨s,p,b,r',xs,Iq,?_,mz,hp,hb,q0,q1⟩ (Gr.set d g _);rw[aA (bE mz)];exact e2
theorem i6{T:Nat->Option bo}(hT:T 4=some B2){d:Nat}{n:Int}(D0:j7 g d)(hn:0<n)(nj:n<1073741824)(h:∀r g',0<=r->r<n->j7 g' d->Gr d g g'->Q (.int r) g'):d7 T (k+1) 4 [.ref d,.int n] g Q E:=by
 obtain⟨s,p,b,r,xs,e1,e2,mz,hp,hb,hr,ui⟩:=D0.ex;have dW:=p0 e1;refine call_of hT rfl ?_;have tail:∀(g':G) (c2:Option D),j7 g' d->Gr d g g'->wpS (d7 T k) (i9 B2.body) ⟨λ_ g'=>Q .bV g',Q,λ_ _=>False,λ_ _=>False⟩ [some (.ref d),some (.int n),c2,none,none] g' E :=
  λg' c2 D1 gr=>Sb rfl D1 hn nj λr g2 a b c e=>h r g2 a b c (gr.trans e)
 dsimp[B2,j2,List.replicate];walk_at "w2";refine if2 (λc=>?_) (λc=>?_)
 ·walk_at "w2";refine if2 (λc'=>?_) (λc'=>?_)
  ·walk_at "w2";have iL:p.toNat<xs.length:=by
    rw[ak] at c';omega
   have ea:fO (xs.map D.int) p=some (.int xs[p.toNat]):=by
    have:=y9 (xs:=xs.map D.int) (j:=p.toNat) (v:=.int xs[p.toNat]) (by rw[aC,ai iL];rfl)
    rwa [show((p.toNat:Nat):Int)=p by omega] at this
   refine k7 (a8 e2) ea ?_;generalize xs[p.toNat]=cell;walk_at "w2";refine P2 e1 (by with_unfolding_all rfl) ?_;have f1:(g.set d (.lst [.ref s,.int (p+1),.int b,.int r]))[d]?=some (.lst [.ref s,.int (p+1),.int b,.int r]):=aP dW;show wpS (d7 T k) _ _ _ (g.set d (.lst [.ref s,.int (p+1),.int b,.int r])) E;walk_at "w2";refine P2 f1 (by with_unfolding_all rfl) ?_;rw[qv];have f2:(g.set d (.lst [.ref s,.int (p+1),.int 0,.int r]))[d]?=some (.lst [.ref s,.int (p+1),.int 0,.int r]):=aP dW;show wpS (d7 T k) _ _ _ (g.set d (.lst [.ref s,.int (p+1),.int 0,.int r])) E;walk_at "w2";refine if2 (λc2=>?_) (λc2=>?_)
   ·walk_at "w2";refine P2 f2 (by with_unfolding_all rfl) ?_;rw[qv];refine tail _ _ ⟨s,p+1,cell,r,xs,aP dW,by rw[aA (bE mz)];exact e2,mz,by omega,?_,hr,ui⟩ (Gr.set d g _);have:(10:Int) ^ (18:Int).toNat<=cell:=c2;have BC:(0:Int)<=10 ^ (18:Int).toNat:=by decide
    omega
   ·walk_at "w2";refine J7 (S1 (by decide) (by decide)) ?_;walk_at "w2";refine L4 (by decide) ?_;walk_at "w2";refine J7 (S1 (by decide) (by decide)) ?_;walk_at "w2";refine L4 (by decide) ?_;walk_at "w2";refine P2 f2 (by with_unfolding_all rfl) ?_;rw[qv];exact tail _ _ ⟨s,p+1,0,_,xs,aP dW,by rw[aA (bE mz)];exact e2,mz,by omega,by decide,dY _ (by decide),df _ (by decide)⟩ (Gr.set d g _)
  ·walk_at "w1";exact tail _ _ D0 (Gr.refl _ _)
 ·walk_at "w1";walk_at "w1";exact tail _ _ D0 (Gr.refl _ _)
def Y0:bo:=⟨1,1,(.seq (.ret (.dX (cB .isin aU (.lit (.ty "int"))) (.eW (cB .isin aU (.lit (.ty "bool")))))) .pass)⟩
def Q4:bo:=⟨3,3,(.seq (.ret (.dX (.call 38 (gf aU)) (.chain .LtE .LtE bX aU cF))) .pass)⟩
structure NF(T:Nat->Option bo):Prop where
 nf:T 1=some Q4
 is:T 38=some Y0
def B3:bo:=⟨1,3,(.seq (.set 1 (aW 0)) (.seq (.eL (.one 2) (.iu aU) (.seq (.ifs (.eW (.gJ (.call 1 (kH cF bX (aW 7))))) (.seq (.ret (.lit (.bl false))) .pass) .pass) (.seq (.set 1 (cB (.bin .Add) cF (aW 1))) .pass))) (.seq (.ret (.lit (.bl true))) .pass)))⟩
def uN:bo:=⟨1,1,(.seq (.ret (.prim .lst (tR (eO .list (cB (.lH false true) aU (aW 63))) (aW 0) (aW 0) (aW 29)))) .pass)⟩
def vk:bo:=⟨1,1,(.seq (.ret (.dX (cB .isin aU (.lit (.ty "int"))) (.eW (cB .isin aU (.lit (.ty "bool")))))) .pass)⟩
theorem P6{g:G}{n:Nat}:∀ms:List Int,(ms.map D.int).mapM (rd g n)=some (ms.map PyData.int)
 |[]=>rfl
 |m::r=>by
  rw[aV,List.mapM_cons,P6 r];cases n<;>rfl
theorem lay_ints:∀ms:List Int,PyData.canLayAll0 (ms.map PyData.int)=true
 |[]=>by simp[PyData.canLayAll0]
 |m::r=>by simp[PyData.canLayAll0,PyData.canLay0,lay_ints r]
theorem Eg:∀ms ns:List Int,PyData.eqvAll (ms.map PyData.int) (ns.map PyData.int)=decide (ms=ns)
 |[],[]=>by simp[PyData.eqvAll]
 |[],_::_=>by simp[PyData.eqvAll]
 |_::_,[]=>by simp[PyData.eqvAll]
 |m::r,n::q=>by
  simp only[List.map_cons,PyData.eqvAll,PyData.eqv,Eg r q];by_cases h:m=n
  ·subst h;simp
  ·simp[h]
theorem Rx{i:Int}{k:Bool->Prop}(h:k (ms.any λm=>m==i)):rK g (.int i) (.tup (ms.map .int)) k:=by
 refine⟨_,.inr ⟨_,_,_,rfl,P6 ms,rfl,lay_ints ms,by simp[PyData.canLay0],rfl⟩,?_⟩;rw[List.any_map];exact h
section
variable{T:Nat->Option bo}{d:Nat}
theorem Oe(h1:NF T){i:Int}(h:Q (.bl true) g):d7 T (k+1) 38 [.int i] g Q E:=by
 refine call_of h1.is rfl ?_;dsimp[Y0,j2,List.replicate];walk_at "w2";refine rJ (c:="int") (b:=true) (by decide) rfl ?_;walk_at "w2";refine rJ (c:="bool") (b:=false) (by decide) rfl ?_;walk_at "w2";exact h
theorem A8(h1:NF T){i l m:Int}(h:Q (.bl (decide (l<=i)&&decide (i<=m))) g):d7 T (k+2) 1 [.int i,.int l,.int m] g Q E:=by
 refine call_of h1.nf rfl ?_;dsimp[Q4,j2,List.replicate];walk_at "w2";refine Oe h1 ?_;walk_at "w2";refine if2 (λc=>?_) (λc=>?_)
 ·rw[aX c] at h;walk_at "w2";exact h
 ·rw[aJ c] at h;exact h
def gm:Int->List Int->Bool
 |_,[]=>true
 |l,x::r=>(decide (l<=x)&&decide (x<=7))&&gm (x+1) r
theorem W5(h1:NF T)(h2:T 2=some B3)(h:Q (.bl (gm 0 ms)) g):d7 T (k+3) 2 [.tup (ms.map .int)] g Q E:=by
 refine call_of h2 rfl ?_;dsimp[B3,j2,List.replicate];walk_at "w2";refine E3 (b0 T _) (AY (b0 T _) ?_);walk_at "w2";refine⟨_,rfl,_,λi Z g'=>g'=g/\∃(l:Int) (z:Option D),Z=[some (.tup (ms.map .int)),some (.int l),z]/\gm 0 ms=gm l (ms.drop i),λ_ _ _ _=>q9,⟨rfl,0,none,rfl,rfl⟩,λi x Z g' hx p=>?_,λZ g' p=>?_⟩
 ·obtain⟨rfl,l,z,rfl,e⟩:=p;rw[aC] at hx;cases em:ms[i]? with
  |none=>rw[em] at hx;cases hx
  |some m =>
   rw[em] at hx;cases hx;have hi:=(ao.mp em).1;have ed:ms.drop i=m::ms.drop (i+1):=by
    rw[dN hi]
    congr 1
    exact(ao.mp em).2
   rw[ed] at e;simp only[gm] at e;show wpS _ _ _ _ _ _;walk_at "w2";refine A8 h1 ?_;walk_at "w2";cases hc:(decide (l<=m)&&decide (m<=7)) with
   |true =>
    rw[hc,Bool.true_and] at e;show wpS _ _ _ _ _ _;walk_at "w2";exact⟨rfl,m+1,some (.int m),rfl,e⟩
   |false =>
    rw[hc,Bool.false_and] at e;rw[e] at h;show wpS _ _ _ _ _ _;walk_at "w2";exact h
 ·obtain⟨rfl,l,z,rfl,e⟩:=p;rw[List.drop_eq_nil_of_le (by simp)] at e;simp only[gm] at e;rw[e] at h;show wpS _ _ _ _ _ _;walk_at "w2";exact h
theorem UP(h3:T 3=some uN)(hg:g[a]?=some (.mH (ns.map .int)))(h:∀d g',j7 g' d->g.length<=d->(∀i,i<g.length->g'[i]?=g[i]?)->Q (.ref d) g'):d7 T (k+1) 3 [.ref a] g Q E:=by
 refine call_of h3 rfl ?_;dsimp[uN,j2,List.replicate];walk_at "w2";refine Fi (RA hg) ?_;walk_at "w2";refine EE (l:=cut (ns.map D.int) none (some 63)) (a8 (by simp)) ?_;walk_at "w2";have ec:cut (ns.map D.int) none (some 63)=(cut ns none (some 63)).map D.int:=by
  unfold cut;simp[List.map_take,List.map_drop]
 refine h _ _ ⟨g.length+1,0,0,29,cut ns none (some 63),?_,?_,?_,by decide,by decide,by decide,by decide⟩ (by simp) (λi hi=>?_)
 ·simp
 ·rw[<- ec];simp
 ·simp
 ·simp[List.getElem?_append,hi,Nat.lt_of_lt_of_le hi (by omega:g.length<=g.length+1),Nat.lt_of_lt_of_le hi (by omega:g.length<=g.length+1+1)]
end
theorem EB:∀{ms:List Int} {l:Int},ms.Pairwise (· < ·)->(∀m∈ms,l<=m/\m<=7)->gm l ms=true
 |[],_,_,_=>rfl
 |m::r,l,hp,h=>by
  obtain⟨h1,h2⟩:=fA.mp hp;have hm:=h m (by simp);simp only[gm];rw[aX hm.1,aX hm.2,EB h2 λx hx=>⟨by have:=h1 x hx;omega,(h x (by simp[hx])).2⟩]
  rfl
theorem F1{l:List α}{r:Int}(h0:0<=r)(h1:r<l.length):∃v,fO l r=some v/\v∈l:=by
 have hi:r.toNat<l.length:=by omega
 refine⟨l[r.toNat],?_,dG hi⟩;have:=y9 (xs:=l) (j:=r.toNat) (v:=l[r.toNat]) (ai hi)
 rwa [show((r.toNat:Nat):Int)=r by omega] at this
def u6:bo:=⟨1,8,(.seq (.mh (.many [1,2,3,4,5]) aU) (.seq (.set 6 (.dX (.call 1 (kH bX (aW 1) (aW 99))) (.call 2 (gf cF)))) (.seq (.set 7 (.dX (.call 1 (kH cI (aW 1) (aW 99))) (.call 2 (gf dA)))) (.seq (.ret (.dX fG (.dX iC (.call 1 (kH fJ (aW 0) (aW 9999)))))) .pass))))⟩
structure b9 where
 lo:Int
 lm:List Int
 up:Int
 um:List Int
 yr:Int
def b9.d(c:b9):D:=.tup [.int c.lo,.tup (c.lm.map .int),.int c.up,.tup (c.um.map .int),.int c.yr]
def B6(c:b9):Bool:=((decide (1<=c.lo)&&decide (c.lo<=99))&&gm 0 c.lm)&&(((decide (1<=c.up)&&decide (c.up<=99))&&gm 0 c.um)&&(decide (0<=c.yr)&&decide (c.yr<=9999)))
section
variable{T:Nat->Option bo}{d:Nat}
theorem Oc(h1:NF T)(h2:T 2=some B3)(nz:T 12=some u6)(h:Q (.bl (B6 c)) g):d7 T (k+4) 12 [c.d] g Q E:=by
 refine call_of nz rfl ?_;dsimp[u6,j2,List.replicate,b9.d];walk_at "w3";refine A8 h1 ?_;have s1:∀b:Bool,b=((decide (1<=c.lo)&&decide (c.lo<=99))&&gm 0 c.lm)->wpS (d7 T (k+3)) (i9 (i9 u6.body)) ⟨λ_ g'=>Q .bV g',Q,λ_ _=>False,λ_ _=>False⟩ [some c.d,some (.int c.lo),some (.tup (c.lm.map .int)),some (.int c.up),some (.tup (c.um.map .int)),some (.int c.yr),some (.bl b),none] g E:=by
  intro b hb;dsimp[u6,i9];walk_at "w3";refine A8 h1 ?_;have s2:∀b':Bool,b'=((decide (1<=c.up)&&decide (c.up<=99))&&gm 0 c.um)->wpS (d7 T (k+3)) (i9 (i9 (i9 u6.body))) ⟨λ_ g'=>Q .bV g',Q,λ_ _=>False,λ_ _=>False⟩ [some c.d,some (.int c.lo),some (.tup (c.lm.map .int)),some (.int c.up),some (.tup (c.um.map .int)),some (.int c.yr),some (.bl b),some (.bl b')] g E:=by
   intro b' jB;dsimp[u6,i9];have e:B6 c=(b&&(b'&&(decide (0<=c.yr)&&decide (c.yr<=9999)))):=by unfold B6;rw[hb,jB]
   rw[e] at h;walk_at "w3";cases b
   ·exact pq h
   ·refine jQ ?_;walk_at "w3";cases b'
    ·exact pq h
    ·refine jQ ?_;walk_at "w3";exact A8 h1 h
  refine yJ ?_;cases hc:(decide (1<=c.up)&&decide (c.up<=99)) with
  |false=>exact pq (s2 false (by rw[hc];rfl))
  |true =>
   refine jQ ?_;walk_at "w1";walk_at "w1";walk_at "w1";walk_at "w1";exact W5 h1 h2 (s2 _ (by rw[hc];rfl))
 refine yJ ?_;cases hc:(decide (1<=c.lo)&&decide (c.lo<=99)) with
 |false=>exact pq (s1 false (by rw[hc];rfl))
 |true =>
  refine jQ ?_;walk_at "w1";walk_at "w1";walk_at "w1";walk_at "w1";exact W5 h1 h2 (s1 _ (by rw[hc];rfl))
end
def O6:bo:=⟨2,5,(.seq (.set 2 (eO .list bX)) (.seq (.set 3 (.prim .lst .nil)) (.seq (.eL (.one 4) (.dQ (eO .len bX)) (.seq (.expr (.eG .append cI (gf (.eG .pop cF (gf (.call 4 (eE aU (eO .len cF)))))))) .pass)) (.seq (.ret cI) .pass))))⟩
theorem DZ{α:Type}:∀{l:List α} {j:Nat} (h:j<l.length),(l[j]::l.eraseIdx j).Perm l
 |a::r,0,_=>by simp
 |a::r,j+1,h=>by
  simp only[List.getElem_cons_succ,List.eraseIdx_cons_succ];exact(List.Perm.swap _ _ _).trans ((DZ (l:=r) (j:=j) (by simpa using h)).cons a)
theorem Gr.K1{d:Nat}(h:Gr d g g')(hx:g.length<=x):Gr d g (g'.set x o):=⟨by simp[h.len],λi h1 h2=>by rw[aA (by omega)];exact h.old i h1 h2⟩
theorem j7.K1{d:Nat}(h:j7 g d)(hx:d<x):j7 (g.set x o) d:=by
 obtain⟨s,p,b,r,xs,e1,e2,hs,q⟩:=h.ex;exact⟨s,p,b,r,xs,by rw[aA (by omega)];exact e1,by rw[aA (by omega)];exact e2,hs,q⟩
theorem d6:(g++[o])[g.length]?=some o:=by simp
theorem l6(h:g[i]?=some o):(g++[o'])[i]?=some o:=by rw[aw (p0 h)];exact h
theorem get_set(h:g[i]?=some o):(g.set i o')[i]?=some o':=aP (p0 h)
theorem m7(h:g[i]?=some o)(hn:j≠i):(g.set j o')[i]?=some o:=by rw[aA hn];exact h
section
variable{T:Nat->Option bo}{d:Nat}
theorem El(h4:T 4=some B2)(xt:T 21=some O6)(ha:g[a]?=some (.lst l))(hl:l.length<=1000)(hd:a≠d)(D0:j7 g d)(h:∀(l':List D) b g',l'.Perm l->g'[b]?=some (.lst l')->g.length<=b->j7 g' d->Gr d g g'->Q (.ref b) g'):d7 T (k+2) 21 [.ref d,.ref a] g Q E:=by
 refine call_of xt rfl ?_;dsimp[O6,j2,List.replicate];walk_at"";refine EE (a8 ha) ?_;walk_at"";have dl:=D0.lt;refine E3 (b0 T _) (J1 (b0 T _) ?_);walk_at"";have Hu:(g++[O.lst l]++[O.lst []])[a]?=some (.lst l):=l6 (l6 ha);refine E9 (a8 Hu) ?_;refine ⟨_,rfl,by omega,by omega,j5 0 l.length,λi Z g'=>∃ left found w,Z=[some (.ref d),some (.ref a),some (.ref g.length),some (.ref (g.length + 1)),w]/\(left ++ found).Perm l/\left.length + i=l.length/\g'[g.length]?=some (.lst left)/\g'[g.length + 1]?=some (.lst found)/\j7 g' d/\Gr d g g',
  λi Z g p=>q9,?_,λi x Z g' hx p=>?_,λZ g' p=>?_⟩
 ·refine⟨l,[],none,?_,by simp,by simp,?_,?_,(D0.snoc _).snoc _,(Gr.snoc _ _ _).trans (Gr.snoc _ _ _)⟩
  ·simp
  ·exact l6 d6
  ·have:=d6 (g:=g++[O.lst l]) (o:=O.lst []);simpa using this
 ·obtain⟨left,found,w,rfl,hp,hn,e1,e2,D1,G1⟩:=p;obtain⟨hi,rfl⟩:=A7 hx;show wpS _ _ _ _ _ _;walk_at"";refine i6 (n:=(left.length:Int)) h4 D1 (by omega) (by omega) λr g2 r0 r1 D2 G2=>?_;have f1:=G2.at (by omega) e1;have f2:=G2.at (by omega) e2;have hr:r.toNat<left.length:=by omega
  walk_at"";refine KN (j:=r.toNat) f1 (by omega) (ai hr) (by omega) ?_;walk_at"";refine P7 (m7 f2 (by omega)) ?_ ?_
  ·have:=hp.length_eq;simp at this;omega
  walk_at"";refine⟨_,_,_,rfl,?_,?_,m7 (get_set f1) (by omega),get_set (m7 f2 (by omega)),(D2.K1 (by omega)).K1 (by omega),((G1.trans G2).K1 (by omega)).K1 (by omega)⟩
  ·refine List.Perm.trans ?_ hp;have:=DZ hr;refine List.Perm.trans ?_ (List.Perm.append_right found this);simp only[List.cons_append];rw[<- bN];exact(List.perm_append_singleton _ _)
  ·rw[fC hr];omega
 ·obtain⟨left,found,w,rfl,hp,hn,e1,e2,D1,G1⟩:=p;show wpS _ _ _ _ _ _;walk_at"";rw[o8] at hn;have:left=[]:=bj (by omega);subst this;exact h _ _ _ (by simpa using hp) e2 (by omega) D1 G1
end
def U8:bo:=⟨1,5,(.seq (.set 1 (.prim .lst (HM (.prim .tup .nil) (eO .tup (aW 0)) (cB .tup (aW 0) (aW 1)) (eO .tup (aW 1)) (.prim .tup (kH (aW 0) (aW 1) (aW 2))) (.prim .tup (tR (aW 0) (aW 1) (aW 2) (aW 7))) (eO .tup (aW 2))))) (.seq (.set 2 (cU bX (.call 4 (eE aU (cU (cB .tup (aW 4) (aW 7)) (eO .int (cB (.cmp .Eq) (.call 4 (eE aU (aW 4))) (aW 0)))))))) (.seq (.set 3 (cU bX (.call 4 (eE aU (aW 5))))) (.seq (.set 4 (cU (.prim .lst (HL (aW 0) (aW 0) (aW 1400) (aW 1400) (aW 1401) (aW 1))) (.call 4 (eE aU (aW 6))))) (.seq (.ret (.prim .tup (qI (cB (.bin .Add) (aW 1) (.call 4 (eE aU (aW 3)))) cF (cB (.bin .Add) (aW 1) (.call 4 (eE aU (aW 4)))) cI dA))) .pass)))))⟩
def E5:bo:=⟨4,4,(.seq (.ifs (.iU (fh .Eq (eO .len bX) (aW 0)) (.dX (fh .Lt (eO .len bX) cI) (fh .Eq (.call 4 (eE aU (aW 3))) (aW 0)))) (.seq (.expr (.eG .append bX (gf cF))) (.seq (.ret (cB (.bin .Add) cF (aW 1))) .pass)) .pass) (.seq (.ifs (fh .Eq (.call 4 (eE aU (aW 5))) (aW 0)) (.seq (.eh bX (.call 4 (eE aU (eO .len bX))) cF) (.seq (.ret (cB (.bin .Add) cF (aW 1))) .pass)) .pass) (.seq (.ret cF) .pass)))⟩
structure iq(c:b9):Prop where
 good:B6 c=true
 l8:c.lm.length<=8
 u8:c.um.length<=8
theorem iq.mk'{lo up yr:Int}{lm um:List Int}(h1:1<=lo)(h2:lo<=99)(h3:1<=up)(h4:up<=99)(h5:0<=yr)(h6:yr<=9999)(h7:gm 0 lm=true)(h8:gm 0 um=true)(h9:lm.length<=8)(BC:um.length<=8):iq ⟨lo,lm,up,um,yr⟩:=by
 refine⟨?_,h9,BC⟩;simp only[B6,h7,h8,decide_eq_true h1,decide_eq_true h2,decide_eq_true h3,decide_eq_true h4,decide_eq_true h5,decide_eq_true h6]
 rfl
theorem iq.inv(h:iq c):(1<=c.lo/\c.lo<=99)/\gm 0 c.lm=true/\(1<=c.up/\c.up<=99)/\gm 0 c.um=true/\0<=c.yr/\c.yr<=9999:=by
 have:=h.good;unfold B6 at this;simp only[Bool.and_eq_true,decide_eq_true_eq] at this;obtain⟨⟨⟨a,b⟩,e⟩,⟨⟨c',d⟩,f⟩,p,q⟩:=this;exact⟨⟨a,b⟩,e,⟨c',d⟩,f,p,q⟩
def K8:List (List Int):=[[],[0],[0,1],[1],[0,1,2],[0,1,2,7],[2]]
theorem UE:∀ms∈K8,gm 0 ms=true/\ms.length<=8:=by decide
theorem CG{r:Int}(h0:0<=r)(h7:r<7):∃ms,fO (K8.map λms=>D.tup (ms.map .int)) r=some (.tup (ms.map .int))/\gm 0 ms=true/\ms.length<=8:=by
 obtain⟨v,hv,hm⟩:=F1 (l:=K8.map λms=>D.tup (ms.map .int)) h0 (by simpa[K8] using h7);obtain⟨ms,h1,rfl⟩:=aM.mp hm;exact⟨ms,hv,UE ms h1⟩
section
variable{T:Nat->Option bo}{d:Nat}
theorem NC(h4:T 4=some B2)(HI:T 22=some U8)(D0:j7 g d)(h:∀c g',iq c->j7 g' d->Gr d g g'->Q c.d g'):d7 T (k+2) 22 [.ref d] g Q E:=by
 refine call_of HI rfl ?_;dsimp[U8,j2,List.replicate];have dl:=D0.lt;walk_at"";have D1:=D0.snoc (.lst (K8.map λms=>D.tup (ms.map .int)));have G1:=Gr.snoc d g (.lst (K8.map λms=>D.tup (ms.map .int)));have e1:(g++[O.lst (K8.map λms=>D.tup (ms.map .int))])[g.length]?=some (.lst (K8.map λms=>D.tup (ms.map .int))):=d6;show d7 _ _ _ _ (g++[O.lst (K8.map λms=>D.tup (ms.map .int))]) _ _;generalize g++[O.lst (K8.map λms=>D.tup (ms.map .int))]=g1 at *;refine i6 h4 D1 (by decide) (by decide) λr g2 r0 r1 D2 G2=>?_;walk_at"";have e2:=G2.at (by omega) e1;have hn:∃n:Int,fO [D.int 4,D.int 7] (if decide (r=0)=true then 1 else 0)=some (.int n)/\0<n/\n<=7:=by
  by_cases hr:r=0
  ·exact⟨7,by rw[aX hr];rfl,by decide,by decide⟩
  ·exact⟨4,by rw[aJ hr];rfl,by decide,by decide⟩
 obtain⟨n,en,n0,n7⟩:=hn;refine M3 en ?_;walk_at"";refine i6 h4 D2 n0 (by omega) λr3 g3 gK gR D3 G3=>?_;have e3:=G3.at (by omega) e2;obtain⟨lm,el,gl,ll⟩:=CG gK (by omega);refine k7 (a8 e3) el ?_;walk_at"";refine i6 h4 D3 (by decide) (by decide) λr4 g4 oh pM D4 G4=>?_;have e4:=G4.at (by omega) e3;obtain⟨um,eu,gu,lu⟩:=CG oh (by omega);refine k7 (a8 e4) eu ?_;walk_at"";have e5:(g4++[O.lst [.int 0,.int 0,.int 1400,.int 1400,.int 1401,.int 1]])[g4.length]?=some (.lst [.int 0,.int 0,.int 1400,.int 1400,.int 1401,.int 1]):=d6;refine i6 h4 (D4.snoc _) (by decide) (by decide) λr5 g5 jJ jI D5 G5=>?_;have e6:=G5.at (by have:=D4.lt;omega) e5;obtain⟨v,hv,hm⟩:=F1 (l:=[D.int 0,.int 0,.int 1400,.int 1400,.int 1401,.int 1]) jJ (by simpa using jI);have hy:∃y:Int,v=.int y/\0<=y/\y<=9999:=by
  simp only[List.mem_cons,List.mem_nil_iff,or_false] at hm;rcases hm with rfl|rfl|rfl|rfl|rfl|rfl<;>exact⟨_,rfl,by decide,by decide⟩
 obtain⟨y,rfl,y0,y1⟩:=hy;refine k7 (a8 e6) hv ?_;walk_at"";refine i6 h4 D5 (by decide) (by decide) λr6 g6 AG AF D6 G6=>?_;walk_at"";refine i6 h4 D6 (by decide) (by decide) λr7 g7 Vu Vt D7 G7=>?_;walk_at"";exact h ⟨1+r6,lm,1+r7,um,y⟩ _ (iq.mk' (by omega) (by omega) (by omega) (by omega) y0 y1 gl gu ll lu) D7 (G1.trans (G2.trans (G3.trans (G4.trans ((Gr.snoc _ _ _).trans (G5.trans (G6.trans G7)))))))
def zC(l:List D)(f:Int):Prop:=∃ns:List Int,l=ns.map .int/\∀n∈ns,1<=n/\n<f
theorem Sf(h4:T 4=some B2)(sA:T 23=some E5){f:Int}(ha:g[a]?=some (.lst l))(hl:l.length<1000)(hs:zC l f)(f1:1<=f)(hd:d<a)(D0:j7 g d)(h:∀(l':List D) (f':Int) g',l'≠[]->l'.length<=l.length+1->zC l' f'->f<=f'->f'<=f+1->g'[a]?=some (.lst l')->j7 g' d->(∀i,i≠d->i≠a->i<g.length->g'[i]?=g[i]?)->g.length<=g'.length->Q (.int f') g'):d7 T (k+2) 23 [.ref d,.ref a,.int f,.int v] g Q E:=by
 refine call_of sA rfl ?_;have dl:=D0.lt;obtain⟨ns,rfl,oE⟩:=id hs;have app:∀g':G,g'[a]?=some (.lst (ns.map D.int))->j7 g' d->Gr d g g'->wpS (d7 T (k+1)) (.seq (.expr (.eG .append (.var 1) (.cons (.var 2) .nil))) (.seq (.ret (.prim (.bin .Add) (.cons (.var 2) (.cons (.lit (.int 1)) .nil)))) .pass)) ⟨λgQ g1=>wpS (d7 T (k+1)) (i9 E5.body) ⟨λ_ g'=>Q .bV g',Q,λ_ _=>False,λ_ _=>False⟩ gQ g1 E,Q,λ_ _=>False,λ_ _=>False⟩ [some (.ref d),some (.ref a),some (.int f),some (.int v)] g' E:=by
  intro g' e D1 G1;walk_at"";refine P7 e (by simp at hl ⊢;omega) ?_;walk_at"";refine h _ _ _ (by simp) (by simp) ⟨ns++[f],by simp,λn hn=>?_⟩ (by omega) (by omega) (get_set e) (D1.K1 hd) (λi h1 h2 h3=>?_) (by simp[G1.len])
  ·rcases aS.mp hn with z|z
   ·have:=oE n z;omega
   ·simp at z;omega
  ·rw[aA (bU h2)];exact G1.old i h1 h3
 have rest:∀g':G,g'[a]?=some (.lst (ns.map D.int))->ns≠[]->j7 g' d->Gr d g g'->wpS (d7 T (k+1)) (i9 E5.body) ⟨λ_ g'=>Q .bV g',Q,λ_ _=>False,λ_ _=>False⟩ [some (.ref d),some (.ref a),some (.int f),some (.int v)] g' E:=by
  intro g' e dI D1 G1;dsimp[E5,i9];walk_at"";refine i6 h4 D1 (by decide) (by decide) λr g2 r0 r1 D2 G2=>?_;have e2:=G2.at (by omega) e;have hlen:0<ns.length:=Ac.mpr dI;walk_at"";refine if2 (λc=>?_) (λc=>?_)
  ·walk_at"";rw[ak];refine i6 h4 D2 (by omega) (by simp at hl;omega) λr3 g3 gK gR D3 G3=>?_;have e3:=G3.at (by omega) e2;have hj:jA (ns.map D.int).length r3=some r3.toNat:=by
    unfold jA;rw[aN gK,aN (by rw[ak];exact gR)]
   refine P2 e3 hj ?_;walk_at"";refine h _ _ _ (by simp[dI]) (by simp) ⟨ns.set r3.toNat f,by simp,λn hn=>?_⟩ (by omega) (by omega) (get_set e3) (D3.K1 hd) (λi h1 h2 h3=>?_) (by simp[((G1.trans G2).trans G3).len])
   ·rcases mR hn with z|z
    ·have:=oE n z;omega
    ·omega
   ·rw[aA (bU h2)];exact((G1.trans G2).trans G3).old i h1 h3
  ·walk_at"";exact h _ _ _ (by simp[dI]) (by simp) hs (by omega) (by omega) e2 D2 (λi h1 h2 h3=>(G1.trans G2).old i h1 h3) (G1.trans G2).len
 dsimp[E5,j2,List.replicate];walk_at"";refine if2 (λc=>?_) (λc=>?_)
 ·refine jQ ?_;exact app g ha D0 (Gr.refl _ _)
 ·have dI:ns≠[]:=λz=>c (by rw[z];rfl);walk_at"";refine if2 (λc2=>?_) (λc2=>?_)
  ·walk_at"";refine i6 h4 D0 (by decide) (by decide) λr g2 r0 r1 D2 G2=>?_;walk_at"";refine if2 (λc3=>?_) (λc3=>?_)
   ·exact app g2 (G2.at (by omega) ha) D2 G2
   ·walk_at "w1";exact rest g2 (G2.at (by omega) ha) dI D2 G2
  ·walk_at "w1";walk_at "w1";exact rest g ha dI D0 (Gr.refl _ _)
end
def E4:bo:=⟨3,17,(.seq (.set 3 (.prim .lst .nil)) (.seq (.set 4 (aW 1)) (.seq (.set 5 (.prim .Y6 .nil)) (.seq (.set 6 (cU (.prim .lst (kH (aW 0) (aW 1) (aW 1350))) (.call 4 (eE aU (aW 3))))) (.seq (.set 7 (cB (.bin .Add) (aW 1) (.call 4 (eE aU (aW 96))))) (.seq (.set 8 (cB (.bin .Add) (aW 2) (.call 4 (eE aU (aW 4))))) (.seq (.set 9 (cB .max (aW 0) (cB (.bin .Sub) (.call 4 (eE aU (aW 9))) (aW 6)))) (.seq (.set 10 (.prim .lst .nil)) (.seq (.eL (.one 11) (.dQ bX) (.seq (.set 4 (.call 23 (tR aU cI dA cF))) (.seq (.set 12 (cB .tup (cU cI (.call 4 (eE aU (eO .len cI)))) (cB (.bin .Add) (aW 50) (.call 4 (eE aU (cB (.bin .Add) (aW 2) cF)))))) (.seq (.eL (.one 13) (.iu jO) (.seq (.ifs (fh .Eq (.call 4 (eE aU jr)) (aW 0)) (.seq (.set 14 (.call 4 (eE aU (aW 8)))) (.seq (.eh fJ rD (eO .tuple (.comp [13,14,5] 5 (.one 4) (.dQ (aW 8)) (.iU (fh .Eq dA bX) (fh .In dA (.eG .get cF (eE aU (.prim .tup .nil))))) dA))) .pass)) .pass) .pass)) (.seq (.ifs (fh .Eq (.call 4 (eE aU (aW 5))) (aW 0)) (.seq (.set 6 (cB .min (aW 9999) (cB (.bin .Add) (cB (.bin .Add) fG (aW 1)) (.call 4 (eE aU (aW 9)))))) .pass) .pass) (.seq (.set 15 (.comp [9,7] 4 (.one 3) (.iu jO) .no (cB (.bin .Add) (cB (.bin .Add) (aW 1) aU) (cB (.bin .Mod) (cB (.bin .Mult) cI bX) (aW 97))))) (.seq (.set 16 (cB (.bin .Mult) fG (eO .int (cB (.cmp .Gt) (.call 4 (eE aU (aW 4))) (aW 0))))) (.seq (.expr (.eG .append jP (gf (.prim .tup (qI (cU mZ (aW 0)) (.eG .get fJ (eE (cU jO (aW 0)) (.prim .tup .nil))) (cU mZ (aW 1)) (.eG .get fJ (eE (cU jO (aW 1)) (.prim .tup .nil))) rC))))) .pass)))))))) (.seq (.ret jP) .pass))))))))))⟩
def V7(kvs:List (Key×D)):Prop:=∀k v,p6 kvs k=some v->∃ms:List Int,v=.tup (ms.map .int)/\gm 0 ms=true/\ms.length<=8
theorem QW(kvs:List (Key×D))(k k':Key)(v:D):p6 (putD kvs k v) k'=if k'=k then some v else p6 kvs k':=by
 unfold putD;split
 ·rename_i oN;have go:∀l:List (Key×D),p6 (l.map λkv=>if kv.1=k then(kv.1,v) else kv) k'=if k'=k then(if(l.any λkv=>decide (kv.1=k))=true then some v else none) else p6 l k':=by
   intro l
   induction l with
   |nil=>simp[p6]
   |cons p r ih =>
    obtain⟨pk,pv⟩:=p;by_cases e:pk=k
    ·subst e;by_cases e2:k'=pk
     ·subst e2;simp[p6]
     ·have:¬pk=k':=λz=>e2 z.symm;unfold p6 at ih ⊢;simp[this,e2] at ih ⊢;exact ih
    ·by_cases e2:k'=k
     ·subst e2;unfold p6 at ih ⊢;rw[fV,show decide (pk=k')=false from aJ e,nQ];simp[e] at ih ⊢;exact ih
     ·unfold p6 at ih ⊢;simp only[List.map_cons,e,if_false,List.find?_cons];by_cases e3:pk=k'
      ·simp[e3,e2]
      ·simp[e3];simp[e2] at ih;simp[e2];exact ih
  rw[go,oN]
  rfl
 ·rename_i oN;unfold p6;rw[List.find?_append];by_cases e:k'=k
  ·subst e;have:kvs.find? (λkv=>decide (kv.1=k'))=none:=by
    rw[FN];intro x hx hd;exact oN (gk.mpr ⟨x,hx,hd⟩)
   rw[this];simp
  ·have:¬k=k':=λz=>e z.symm;simp[this,e]
theorem Qy(kvs:List (Key×D))(k:Key)(v:D):(putD kvs k v).length<=kvs.length+1:=by
 unfold putD;split<;>simp
theorem V7.put{k:Key}(h:V7 kvs)(h1:gm 0 ms=true)(h2:ms.length<=8):V7 (putD kvs k (.tup (ms.map .int))):=λk' v hv=>by
 rw[QW] at hv;split at hv
 ·cases hv;exact⟨ms,rfl,h1,h2⟩
 ·exact h k' v hv
theorem V7.get(h:V7 kvs)(k:Key):∃ms:List Int,(p6 kvs k).getD (.tup [])=.tup (ms.map .int)/\gm 0 ms=true/\ms.length<=8:=by
 cases e:p6 kvs k with
 |none=>exact⟨[],rfl,rfl,by simp⟩
 |some v=>obtain⟨ms,rfl,h1,h2⟩:=h k v e;exact⟨ms,rfl,h1,h2⟩
theorem Ru(p:Int->Bool):gm 0 (((List.range 8).map λ(n:Nat)=>(n:Int)).filter p)=true/\(((List.range 8).map λ(n:Nat)=>(n:Int)).filter p).length<=8:=by
 refine⟨EB (List.Pairwise.filter _ (by decide)) λm hm=>?_,aG (dn _ _) (by decide)⟩;have:=(bQ.mp hm).1;revert this;revert m;intro m _ hm;simp at hm;obtain⟨a,ha,rfl⟩:=hm;omega
theorem List.X4{l:List α}{x:α}(h:l[i]?=some x):l.set i x=l:=by
 apply List.ext_getElem?;intro j;by_cases e:i=j
 ·subst e;rw[aP (ao.mp h).1];exact h.symm
 ·rw[aA e]
section
variable{T:Nat->Option bo}{d:Nat}
def Dt:MS:=match E4.body with
 |.seq _ (.seq _ (.seq _ (.seq _ (.seq _ (.seq _ (.seq _ (.seq _ (.seq (.eL _ _ (.seq _ (.seq _ (.seq (.eL _ _ b) _)))) _))))))))=>b
 |x=>x
theorem Px(h4:T 4=some B2){w0:Nat}{key wr:Int}{Z:S}(hw:g[w0]?=some (.cL kvs))(W:V7 kvs)(hk:kvs.length<1000)(hr:0<wr)(ui:wr<1000)(hd:d<w0)(D0:j7 g d)(s0:Z[0]?=some (some (.ref d)))(s5:Z[5]?=some (some (.ref w0)))(s8:Z[8]?=some (some (.int wr)))(Gi:Z[13]?=some (some (.int key)))(sl:Z.length=17)(h:∀z ic g',g'[w0]?=some (.cL ic)->V7 ic->ic.length<=kvs.length+1->j7 g' d->(∀i,i≠d->i≠w0->i<g.length->g'[i]?=g[i]?)->g.length<=g'.length->N.nx (Z.set 14 z) g'):wpS (d7 T (k+1)) Dt N Z g E:=by
 obtain⟨km,uE⟩:∃z,Z[14]?=some z:=⟨_,ai (by omega)⟩
 dsimp[Dt,E4];refine yC (ET (EW (Fx (yB (W9 (w_var s0 (W9 (w_var s8 (ye ?_)))))))));refine i6 h4 D0 hr (by omega) λr g2 r0 r1 D2 G2=>?_;have dl:=D0.lt;walk_at"";refine if2 (λc=>?_) (λc=>?_)
 ·refine EU (EV (yB (W9 (w_var s0 (W9 (w_lit (ye ?_)))))));refine i6 h4 D2 (by decide) (by decide) λr3 g3 gK gR D3 G3=>?_;have e3:=(G2.trans G3).at (by omega) hw;have t0:(Z.set 14 (some (.int r3)))[0]?=some (some (.ref d)):=by rw[aA (by decide)];exact s0
  have t5:(Z.set 14 (some (.int r3)))[5]?=some (some (.ref w0)):=by rw[aA (by decide)];exact s5
  have Ao:(Z.set 14 (some (.int r3)))[13]?=some (some (.int key)):=by rw[aA (by decide)];exact Gi
  have Gd:(Z.set 14 (some (.int r3)))[14]?=some (some (.int r3)):=aP (by omega);obtain⟨ms,em,_,_⟩:=W.get (.inl key);refine yC (CT (Fw ?_));refine NB (b0 T _) (w_lit ⟨8,rfl,by decide,λi ys bJ g'=>g'=g3/\ys.length<=i/\(∃z w,bJ=[some (.int key),some (.int r3),some (.ref w0),z,w])/\ys=((((List.range i).map λ(n:Nat)=>(n:Int)).filter λs=>decide (s=r3)||ms.any λm=>m==s).map D.int),⟨rfl,by simp,⟨none,none,?_⟩,rfl⟩,λi ys Z g' p=>p.2.1,λi ys bJ g' hi p=>?_,λys bJ g' p=>?_⟩)
  ·simp[J3,Ao,Gd,t5,List.replicate]
  ·obtain⟨rfl,hl,⟨z,w,rfl⟩,e⟩:=p;have er:(List.range (i+1)).map (λ(n:Nat)=>(n:Int))=(List.range i).map (λ(n:Nat)=>(n:Int))++[(i:Int)]:=by rw[kC];simp
   have yes:(decide ((i:Int)=r3)||ms.any λm=>m==(i:Int))=true->aT (d7 T (k+1)) (.var 4) [some (.int key),some (.int r3),some (.ref w0),z,some (.int i)] g' (λy g4=>g4=g'/\(ys++[y]).length<=i+1/\(∃z' w',[some (.int key),some (.int r3),some (.ref w0),z,some (D.int i)]=[some (.int key),some (.int r3),some (.ref w0),z',w'])/\(ys++[y])=((((List.range (i+1)).map λ(n:Nat)=>(n:Int)).filter λs=>decide (s=r3)||ms.any λm=>m==s).map D.int)) jw:=λhc=>by
    walk_at"";refine⟨rfl,by simp;omega,⟨_,_,rfl⟩,?_⟩;rw[er,et,cN,<- e];simp[hc]
   show da _ _ _ _ _ _;walk_at"";refine if2 (λc1=>?_) (λc1=>?_)
   ·refine jQ ?_;exact yes (by rw[aX c1];rfl)
   ·walk_at"";refine zL e3 (k:=.inl key) rfl ?_;rw[em];walk_at"";refine Cm (Rx ?_);walk_at"";cases hc:(ms.any λm=>m==(i:Int)) with
    |true =>
     refine jQ ?_;exact yes (by rw[hc];simp)
    |false =>
     refine pq ?_;refine⟨rfl,by omega,⟨_,_,rfl⟩,?_⟩;rw[er,et,cN,<- e];simp[hc,c1]
  ·obtain⟨rfl,hl,_,e⟩:=p;subst e;refine LK (a8 d6) ?_;obtain⟨f1,f2⟩:=Ru λs=>decide (s=r3)||ms.any λm=>m==s
   refine w_var t5 (w_var Ao ?_);refine EJ (l6 e3) (k:=.inl key) rfl (by omega) ?_;refine h _ _ _ (get_set (l6 e3)) (W.put f1 f2) (Qy _ _ _) ((D3.snoc _).K1 hd) (λi h1 h2 h3=>?_) ?_
   ·rw[aA (bU h2),aw (az h3 (G2.trans G3).len)];exact(G2.trans G3).old i h1 h3
   ·have:=(G2.trans G3).len;simp;omega
 ·refine W8 ?_;have e2:=G2.at (by omega) hw;have:=h km kvs g2 e2 W (by omega) D2 (λi h1 h2 h3=>G2.old i h1 h3) G2.len
  rwa [List.X4 uE] at this
end
section
variable{T:Nat->Option bo}{d:Nat}
def F9:MS:=match E4.body with
 |.seq _ (.seq _ (.seq _ (.seq _ (.seq _ (.seq _ (.seq _ (.seq _ (.seq (.eL _ _ b) _))))))))=>b
 |x=>x
structure ip(d s0 w0 f0 i:Nat)(g:G)(f y:Int):Prop where
 Ar:∃l,g[s0]?=some (.lst l)/\zC l f/\l.length<=i
 fr:1<=f/\f<=1+i
 FV:∃kvs,g[w0]?=some (.cL kvs)/\V7 kvs/\kvs.length<=2*i
 found:∃cs:List b9,g[f0]?=some (.lst (cs.map b9.d))/\cs.length=i/\∀c∈cs,iq c
 year:0<=y/\y<=9999
 dr:j7 g d
theorem NS{s0 w0 f0 n0:Nat}{n f y st wr sh:Int}{nU FT FR FQ vG vF:Option D}(h4:T 4=some B2)(sA:T 23=some E5)(S:ip d s0 w0 f0 i g f y)(hi:i<=100)(hv:1<=v/\v<=100)(dR:1<=st/\st<=96)(iJ:0<wr/\wr<1000)(iW:0<=sh/\sh<=2)(o1:d<n0)(o2:n0<=s0)(o3:s0<w0)(o4:w0<f0)(h:∀f' y' qH lF km qG qE g',ip d s0 w0 f0 (i+1) g' f' y'->(∀j,j≠d->j<n0->g'[j]?=g[j]?)->g.length<=g'.length->N.nx [some (.ref d),some (.int n),some (.int v),some (.ref s0),some (.int f'),some (.ref w0),some (.int y'),some (.int st),some (.int wr),some (.int sh),some (.ref f0),nU,qH,lF,km,qG,qE] g') :
  wpS (d7 T (k+2)) F9 N [some (.ref d),some (.int n),some (.int v),some (.ref s0),some (.int f),some (.ref w0),some (.int y),some (.int st),some (.int wr),some (.int sh),some (.ref f0),nU,FT,FR,FQ,vG,vF] g E:=by
 obtain⟨⟨l,es,hs,hl⟩,⟨f1,f2⟩,⟨kvs,ew,W,hk⟩,⟨cs,ef,hc,hg⟩,⟨y0,y1⟩,D0⟩:=S;have lf:=p0 ef;dsimp[F9,E4];walk_at"";refine Sf h4 sA es (by omega) hs f1 (by omega) D0 λl1 f' g1 dI iX Bh f3 f5 fN D1 mw fF=>?_;have BL:g1[w0]?=some (.cL kvs):=(mw w0 (by omega) (by omega) (p0 ew)).trans ew;have BR:g1[f0]?=some (.lst (cs.map b9.d)):=(mw f0 (by omega) (by omega) lf).trans ef;walk_at"";have fm:0<l1.length:=Ac.mpr dI;refine i6 (n:=(l1.length:Int)) h4 D1 (by omega) (by omega) λr2 g2 gs gn D2 G2=>?_;have lC:=G2.at (by omega) fN;have BK:=G2.at (by omega) BL;have BQ:=G2.at (by omega) BR;obtain⟨x,hx,hm⟩:=F1 (l:=l1) gs gn;obtain⟨ns,rfl,oE⟩:=id Bh;obtain⟨k1,Hb,rfl⟩:=aM.mp hm;refine k7 (a8 lC) hx ?_;walk_at"";refine i6 (n:=2+v) h4 D2 (by omega) (by omega) λr3 g3 gK gR D3 G3=>?_;have xG:=G3.at (by omega) lC;have BJ:=G3.at (by omega) BK;have xJ:=G3.at (by omega) BQ;walk_at"";have kb1:=oE k1 Hb;have qY:∀j,j≠d->j<n0->g3[j]?=g[j]?:=λj a b=>by
  have lj:j<g.length:=by omega
  rw[G3.old j a (by have:=G2.len;(clear hi hv dR iJ iW o1 hl f1 f2 hk hc y0 y1 f3 f5 gs iX fm gn gK gR kb1 a lj;omega)),G2.old j a (by omega),mw j a (by omega) lj]
 have gw:g.length<=g3.length:=by have:=G2.len;have:=G3.len;(clear hi hv dR iJ iW o1 o2 o3 o4 hl f1 f2 hk hc y0 y1 lf f3 f5 gs iX fm gn gK gR kb1;omega)
 refine E3 (b0 T _) (AY (b0 T _) ?_);walk_at"";refine ⟨_,rfl,_,λj Z g'=>∃ ic lF km,Z=[some (.ref d),some (.int n),some (.int v),some (.ref s0),some (.int f'),some (.ref w0),some (.int y),some (.int st),some (.int wr),some (.int sh),some (.ref f0),nU,some (.tup [.int k1,.int (50 + r3)]),lF,km,vG,vF]/\g'[w0]?=some (.cL ic)/\V7 ic/\ic.length <= 2 * i + j/\j7 g' d/\(∀ j,j ≠ d->j ≠ w0->j < g3.length->g'[j]?=g3[j]?)/\g3.length <= g'.length,
  λ_ _ _ _=>q9,⟨kvs,_,_,rfl,BJ,W,by omega,D3,λ_ _ _ _=>rfl,aj _⟩,λj x Z g' hx p=>?_,λZ g' p=>?_⟩
 ·obtain⟨ic,lF,km,rfl,Ig,W',lO,D',vW,rB⟩:=p;have jt:∃key:Int,x=.int key/\j<2:=by
   match j,hx with
   |0,hx=>cases hx;exact⟨_,rfl,by decide⟩
   |1,hx=>cases hx;exact⟨_,rfl,by decide⟩
   |j+2,hx=>simp at hx
  obtain⟨key,rfl,hj⟩:=jt;show wpS _ _ _ _ _ _;refine Px (k:=k+1) h4 Ig W' (by(clear hv dR iJ iW o1 o2 o3 o4 hl f1 f2 hk y0 y1 lf f3 f5 fF gs iX fm gn gK gR kb1 gw rB;omega)) iJ.1 iJ.2 (by omega) D' rfl rfl rfl rfl rfl λz wc VN e2 W2 uq Va ou rA=>?_;exact⟨wc,_,_,rfl,e2,W2,by(clear hi hv dR iJ iW o1 o2 o3 o4 hl f1 f2 hk y0 y1 lf f3 f5 fF gs iX fm gn gK gR kb1 gw rB hj rA;omega),Va,λj a b c=>(ou j a b (by omega)).trans (vW j a b c),by(clear hi hv dR iJ iW o1 o2 o3 o4 hl f1 f2 hk hc y0 y1 lf f3 f5 fF gs iX fm gn gK gR kb1 gw lO hj uq;omega)⟩
 obtain⟨rE,lF,km,rfl,Ie,W4,jK,D4,mr,ib⟩:=p;have Ij:g'[s0]?=some (.lst (ns.map D.int)):=(mr s0 (by omega) (by omega) (p0 xG)).trans xG;have Il:g'[f0]?=some (.lst (cs.map b9.d)):=(mr f0 (by omega) (by omega) (p0 xJ)).trans xJ;have qW:∀j,j≠d->j<n0->g'[j]?=g[j]?:=λj a b=>(mr j a (by omega) (by(clear hi hv dR iJ iW o1 hl f1 f2 hk hc y0 y1 f3 f5 fF gs iX fm gn gK gR kb1 jK ib a;omega))).trans (qY j a b);clear mr qY G2 G3 fN BL BR lC BK BQ xG BJ xJ mw;have jK:rE.length<=2*(i+1):=by simp at jK;(clear hi hv dR iJ iW o1 o2 o3 o4 hl f1 f2 hk y0 y1 lf f3 f5 fF gs iX fm gn gK gR kb1 gw ib;omega)
 show wpS _ _ _ _ _ _;walk_at"";refine i6 h4 D4 (by decide) (by decide) λr5 g5 jJ jI D5 G5=>?_;walk_at"";have tail:∀(y':Int) (g6:G),0<=y'->y'<=9999->j7 g6 d->Gr d g' g6->wpS (d7 T (k+2)) (i9 (i9 (i9 (i9 F9)))) N [some (.ref d),some (.int n),some (.int v),some (.ref s0),some (.int f'),some (.ref w0),some (.int y'),some (.int st),some (.int wr),some (.int sh),some (.ref f0),nU,some (.tup [.int k1,.int (50+r3)]),lF,km,vG,vF] g6 E:=by
  intro y' g6 ko kn D6 G6;have Ii:=G6.at (by omega) Ij;have Ic:=G6.at (by omega) Ie;have uD:=G6.at (by omega) Il;dsimp[F9,E4,i9];walk_at"";refine Ed (b0 T _) ?_;walk_at"";refine⟨_,rfl,by simp,λj ys Z g7=>g7=g6/\(∃z w,Z=[some (.int sh),some (.int st),z,w])/\ys=([k1,50+r3].take j).map (λkey=>D.int (1+sh+key*st % 97)),⟨rfl,⟨none,none,rfl⟩,rfl⟩,λj ys Z g7 p=>?_,λj x ys Z g7 hx p=>?_,λys Z g7 p=>?_⟩
  ·obtain⟨rfl,_,rfl⟩:=p;simp;omega
  ·obtain⟨rfl,⟨z,w,rfl⟩,rfl⟩:=p;have jt:∃key:Int,x=.int key/\([k1,50+r3].take j).map (λkey=>D.int (1+sh+key*st % 97))++[D.int (1+sh+key*st % 97)]=([k1,50+r3].take (j+1)).map (λkey=>D.int (1+sh+key*st % 97)):=by
    match j,hx with
    |0,hx=>cases hx;exact⟨_,rfl,rfl⟩
    |1,hx=>cases hx;exact⟨_,rfl,rfl⟩
    |j+2,hx=>simp at hx
   obtain⟨key,rfl,he⟩:=jt;show da _ _ _ _ _ _;walk_at"";refine J7 (S1 (by omega) (by omega)) ?_;walk_at"";exact⟨rfl,⟨_,_,rfl⟩,he⟩
  obtain⟨rfl,_,rfl⟩:=p;have eN:(g7++[O.lst [D.int (1+sh+k1*st % 97),D.int (1+sh+(50+r3)*st % 97)]])[g7.length]?=some (.lst [D.int (1+sh+k1*st % 97),D.int (1+sh+(50+r3)*st % 97)]):=d6;show wpS _ _ _ _ (g7++[O.lst [D.int (1+sh+k1*st % 97),D.int (1+sh+(50+r3)*st % 97)]]) _;walk_at"";refine i6 h4 (D6.snoc _) (by decide) (by decide) λr8 g8 kN kM D8 G8=>?_;have l7:=D6.lt;have VU:=G8.at (by omega) eN;have Ih:=G8.at (by omega) (l6 Ii);have xF:=G8.at (by omega) (l6 Ic);have BP:=G8.at (by omega) (l6 uD);walk_at"";refine J7 (ym (by omega) (by omega)) ?_;walk_at"";obtain⟨lm,el,gl,ll⟩:=W4.get (.inl k1);obtain⟨um,eu,gu,lu⟩:=W4.get (.inl (50+r3));refine zL xF (k:=.inl k1) rfl ?_;rw[el];walk_at"";refine zL xF (k:=.inl (50+r3)) rfl ?_;rw[eu];walk_at"";refine P7 BP (by simp;omega) ?_;generalize iK:y'*(if decide (0<r8)=true then 1 else 0)=ty;have ka:0<=ty/\ty<=9999:=by
   rw[<- iK];split<;>simp<;>omega
  walk_at"";refine h f' y' _ _ _ _ _ _ ⟨⟨_,m7 Ih (by omega),Bh,by(clear hi hv dR iJ iW o1 o2 o3 o4 f1 f2 hk y0 y1 lf f3 f5 fF gs fm gn gK gR kb1 gw ib jK jJ jI ko kn kN kM l7 ll lu iK ka;omega)⟩,⟨by omega,by(clear hi hv dR iJ iW o1 o2 o3 o4 hl f1 hk y0 y1 lf fF gs iX fm gn gK gR kb1 gw ib jK jJ jI ko kn kN kM l7 ll lu iK ka;omega)⟩,⟨rE,m7 xF (by omega),W4,jK⟩,⟨cs++[⟨1+sh+k1*st % 97,lm,1+sh+(50+r3)*st % 97,um,ty⟩],?_,by simp[hc],?_⟩,⟨ko,kn⟩,D8.K1 (by omega)⟩ (λj a b=>?_) ?_
  ·rw[get_set BP];simp[b9.d]
  ·intro c iN;rcases aS.mp iN with z|z
   ·exact hg c z
   ·simp at z;subst z;have m1:=dY (k1*st) (show(97:Int)≠0 by decide);have m2:=df (k1*st) (show(0:Int)<97 by decide);have m3:=dY ((50+r3)*st) (show(97:Int)≠0 by decide);have m4:=df ((50+r3)*st) (show(0:Int)<97 by decide);exact iq.mk' (by(clear hi hv dR iJ o1 o2 o3 o4 hl f1 f2 hk hc y0 y1 lf f3 f5 fF gs iX fm gn gK gR kb1 gw ib jK jJ jI ko kn kN kM l7 ll lu iK ka m2 m3 m4;omega)) (by(clear hi hv dR iJ o1 o2 o3 o4 hl f1 f2 hk hc y0 y1 lf f3 f5 fF gs iX fm gn gK gR kb1 gw ib jK jJ jI ko kn kN kM l7 ll lu iK ka m2 m3 m4;omega)) (by(clear hi hv dR iJ o1 o2 o3 o4 hl f1 f2 hk hc y0 y1 lf f3 f5 fF gs iX fm gn gK gR kb1 gw ib jK jJ jI ko kn kN kM l7 ll lu iK ka m1 m2 m4;omega)) (by(clear hi hv dR iJ o1 o2 o3 o4 hl f1 f2 hk hc y0 y1 lf f3 f5 fF gs iX fm gn gK gR kb1 gw ib jK jJ jI ko kn kN kM l7 ll lu iK ka m1 m2 m4;omega)) ka.1 ka.2 gl gu ll lu
  ·have lj:j<g'.length:=by(clear hi hv dR iJ iW o1 hl f1 f2 hk hc y0 y1 f3 f5 fF gs iX fm gn gK gR kb1 jK jJ jI ko kn kN kM l7 ll lu iK ka a;omega)
   rw[aA (by(clear hi hv dR iJ iW o1 hl f1 f2 hk hc y0 y1 lf f3 f5 fF gs iX fm gn gK gR kb1 gw ib jK jJ jI ko kn kN kM l7 ll lu iK ka a lj;omega)),G8.old j a (by have:=G6.len;simp;(clear hi hv dR iJ iW o1 o2 o3 o4 hl f1 f2 hk hc y0 y1 lf f3 f5 fF gs iX fm gn gK gR kb1 gw ib jK jJ jI ko kn kN kM l7 ll lu iK ka a b;omega)),aw (by have:=G6.len;(clear hi hv dR iJ iW o1 o2 o3 o4 hl f1 f2 hk hc y0 y1 lf f3 f5 fF gs iX fm gn gK gR kb1 gw ib jK jJ jI ko kn kN kM l7 ll lu iK ka a b;omega)),G6.old j a lj];exact qW j a b
  ·have:=G6.len;have:=G8.len;simp at this ⊢
   (clear hi hv dR iJ iW o1 o2 o3 o4 hl f1 f2 hk hc y0 y1 lf f3 f5 fF gs iX fm gn gK gR kb1 jK jJ jI ko kn kN kM l7 ll lu iK ka;omega)
 refine if2 (λc=>?_) (λc=>?_)
 ·walk_at"";refine i6 h4 D5 (by decide) (by decide) λr6 g6 AG AF D6 G6=>?_;walk_at"";generalize wu:(if y+1+r6<9999 then y+1+r6 else 9999)=y';have:0<=y'/\y'<=9999:=by rw[<- wu];split<;>omega
  exact tail y' g6 this.1 this.2 D6 (G5.trans G6)
 ·refine W8 ?_;exact tail y g5 y0 y1 D5 G5
theorem Sj(h4:T 4=some B2)(sA:T 23=some E5)(HH:T 24=some E4){n:Int}(hn:0<=n/\n<=100)(hv:1<=v/\v<=100)(D0:j7 g d)(h:∀(cs:List b9) a g',(cs.length:Int)=n->(∀c∈cs,iq c)->g'[a]?=some (.lst (cs.map b9.d))->g.length<=a->j7 g' d->Gr d g g'->Q (.ref a) g'):d7 T (k+3) 24 [.ref d,.int n,.int v] g Q E:=by
 refine call_of HH rfl ?_;dsimp[E4,j2,List.replicate];have dl:=D0.lt;walk_at"";have D1:j7 (g++[O.lst []]++[O.cL []]++[O.lst [.int 0,.int 1,.int 1350]]) d:=((D0.snoc _).snoc _).snoc _;have G1:Gr d g (g++[O.lst []]++[O.cL []]++[O.lst [.int 0,.int 1,.int 1350]]):=((Gr.snoc _ _ _).trans (Gr.snoc _ _ _)).trans (Gr.snoc _ _ _);have e0:(g++[O.lst []]++[O.cL []]++[O.lst [.int 0,.int 1,.int 1350]])[g.length]?=some (.lst []):=l6 (l6 d6);have e1:(g++[O.lst []]++[O.cL []]++[O.lst [.int 0,.int 1,.int 1350]])[(g++[O.lst []]).length]?=some (.cL []):=l6 d6;have e2:(g++[O.lst []]++[O.cL []]++[O.lst [.int 0,.int 1,.int 1350]])[(g++[O.lst []]++[O.cL []]).length]?=some (.lst [.int 0,.int 1,.int 1350]):=d6;have n1:(g++[O.lst []]).length=g.length+1:=by simp
 have n2:(g++[O.lst []]++[O.cL []]).length=g.length+2:=by simp
 rw[n1] at e1 ⊢;rw[n2] at e2 ⊢;generalize g++[O.lst []]++[O.cL []]++[O.lst [.int 0,.int 1,.int 1350]]=g1 at *;refine i6 h4 D1 (by decide) (by decide) λr2 g2 gs gn D2 G2=>?_;have Iu:=G2.at (by omega) e0;have qc:=G2.at (by omega) e1;have Ip:=G2.at (by omega) e2;obtain⟨x,hx,hm⟩:=F1 (l:=[D.int 0,.int 1,.int 1350]) gs (by simpa using gn);have hy:∃y:Int,x=.int y/\0<=y/\y<=9999:=by
  simp only[List.mem_cons,List.mem_nil_iff,or_false] at hm;rcases hm with rfl|rfl|rfl<;>exact⟨_,rfl,by decide,by decide⟩
 obtain⟨y,rfl,y0,y1⟩:=hy;refine k7 (a8 Ip) hx ?_;walk_at"";refine i6 h4 D2 (by decide) (by decide) λr3 g3 gK gR D3 G3=>?_;walk_at"";refine i6 h4 D3 (by decide) (by decide) λr4 g4 oh pM D4 G4=>?_;walk_at"";refine i6 h4 D4 (by decide) (by decide) λr5 g5 jJ jI D5 G5=>?_;have vt:=G3.trans (G4.trans G5);have Ir:=vt.at (by omega) Iu;have mM:=vt.at (by omega) qc;have l5:=(G1.trans (G2.trans vt)).len;have lw:=p0 mM;walk_at"";generalize iW:(if r5-6>0 then r5-6 else 0)=sh;have Aq:0<=sh/\sh<=2:=by rw[<- iW];split<;>omega
 have Io:(g5++[O.lst []])[g5.length]?=some (.lst []):=d6;refine E3 (b0 T _) (J1 (b0 T _) ?_);walk_at"";refine ⟨by omega,by omega,j5 0 n.toNat,λi Z g'=>∃ f' y' jH qH lF km qG qE,Z=[some (.ref d),some (.int n),some (.int v),some (.ref g.length),some (.int f'),some (.ref (g.length + 1)),some (.int y'),some (.int (1 + r3)),some (.int (2 + r4)),some (.int sh),some (.ref g5.length),jH,qH,lF,km,qG,qE]/\ip d g.length (g.length + 1) g5.length i g' f' y'/\Gr d g g',
  λ_ _ _ _=>q9,⟨1,y,none,none,none,none,none,none,rfl,⟨⟨[],l6 Ir,⟨[],rfl,by simp⟩,by simp⟩,⟨by omega,by omega⟩,⟨[],l6 mM,(λk v hv=>by cases hv),by simp⟩,⟨[],Io,rfl,by simp⟩,⟨y0,y1⟩,D5.snoc _⟩,(G1.trans (G2.trans vt)).trans (Gr.snoc _ _ _)⟩,λi x Z g' hx p=>?_,λZ g' p=>?_⟩
 ·obtain⟨f',y',jH,qH,lF,km,qG,qE,rfl,S,G'⟩:=p;obtain⟨hi,rfl⟩:=A7 hx;show wpS _ F9 _ _ _ _;refine NS (n0:=g.length) h4 sA S (by omega) hv ⟨by omega,by omega⟩ ⟨by omega,by omega⟩ Aq dl (aj _) (by omega) (by omega) λf2 y2 a b c e f g2 S2 ou rA=>?_;exact⟨f2,y2,_,_,_,_,_,_,rfl,S2,⟨by have:=G'.len;(clear hn hv dl gs gn y0 y1 gK gR oh pM jJ jI l5 lw iW Aq hi;omega),λj h1 h2=>(ou j h1 h2).trans (G'.old j h1 h2)⟩⟩
 ·obtain⟨f',y',jH,qH,lF,km,qG,qE,rfl,S,G'⟩:=p;show wpS _ _ _ _ _ _;walk_at"";obtain⟨cs,ef,hc,hg⟩:=S.found;rw[o8] at hc;exact h cs _ _ (by omega) hg ef (by omega) S.dr G'
end
def ve:bo:=⟨2,8,(.seq (.set 2 (cB .jq (aW 1) (cB (.bin .Add) (cB (.bin .Add) (cB (.bin .FloorDiv) bX (aW 2)) (cB (.bin .Mod) bX (aW 2))) (aW 1)))) (.seq (.set 3 (cB (.bin .Add) cF (cB (.lH false true) (.call 21 (eE aU cF)) (cB (.bin .FloorDiv) bX (aW 2))))) (.seq (.set 4 (.call 4 (eE aU (aW 3)))) (.seq (.set 5 (.prim .lst .nil)) (.seq (.eL (.one 6) (.dQ bX) (.seq (.set 7 (cU (.prim .lst (kH (cB (.bin .Add) (aW 1000) fG) (aW 0) (cB (.bin .Add) (aW 1) (cB (.bin .FloorDiv) (cB (.bin .Mult) (aW 2) fG) (cB .max (aW 1) bX))))) dA)) (.seq (.expr (.eG .append fJ (gf (.prim .tup (qI (cU cI fG) (.prim .tup .nil) (cB (.bin .Add) (aW 1) (.call 4 (eE aU (aW 9)))) (.prim .tup .nil) iC))))) .pass))) (.seq (.ret fJ) .pass))))))⟩
def N1:bo:=⟨2,9,(.seq (.set 2 (.call 4 (eE aU (cB (.bin .Add) bX (aW 1))))) (.seq (.set 3 (cB (.bin .Add) (aW 1) (.call 4 (eE aU (aW 3))))) (.seq (.set 4 (.call 4 (eE aU (aW 5)))) (.seq (.ifs (fh .Eq dA (aW 0)) (.seq (.ret (cB .tup (.comp [0] 3 (.one 2) (.dQ cF) .no (.call 22 (gf aU))) cI)) .pass) .pass) (.seq (.ifs (fh .Eq dA (aW 4)) (.seq (.set 3 (cB (.bin .Add) (aW 1) (.call 4 (eE aU (aW 6))))) .pass) .pass) (.seq (.set 5 (.ite (fh .Eq dA (aW 4)) (.call 25 (eE aU cF)) (.call 24 (kH aU cF cI)))) (.seq (.set 5 (.comp [5] 3 (.one 2) (.iu (.call 21 (eE aU (eO .iH cF)))) .no (cU aU cF))) (.seq (.ifs (.dX (fh .Eq dA (aW 1)) (fh .Gt cF (aW 0))) (.seq (.set 6 (.call 4 (eE aU cF))) (.seq (.set 7 (cU fJ fG)) (.seq (.set 8 (cU fJ (.call 4 (eE aU cF)))) (.seq (.eh fJ fG (.prim .tup (qI (cU iC (aW 0)) (cU jr (aW 1)) (cU jr (aW 2)) (cU iC (aW 3)) (cU (.prim .lst (kH (cU iC (aW 4)) (cU jr (aW 4)) (aW 9999))) (.call 4 (eE aU (aW 3))))))) .pass)))) .pass) (.seq (.ifs (fh .Eq dA (aW 2)) (.seq (.set 3 (aW 1)) .pass) .pass) (.seq (.ret (cB .tup fJ cI)) .pass))))))))))⟩
theorem CB{p:Int->Prop}:∀{l:List D},(∀x∈l,∃i:Int,x=.int i/\p i)->∃ns:List Int,l=ns.map .int/\∀i∈ns,p i
 |[],_=>⟨[],rfl,by simp⟩
 |x::r,h=>by
  obtain⟨i,rfl,hi⟩:=h x (by simp);obtain⟨ns,rfl,hn⟩:=CB (l:=r) λy hy=>h y (by simp[hy]);exact⟨i::ns,rfl,λj hj=>(aD.mp hj).elim (λz=>z▸hi) (hn j)⟩
theorem CN{lo:Int}{x:D}(h:x∈j5 lo n):∃i:Int,x=.int i/\lo<=i/\i<lo+n:=by
 unfold j5 at h;obtain⟨k,hk,rfl⟩:=aM.mp h;exact⟨_,rfl,by omega,by have:=cJ.mp hk;omega⟩
theorem Mc{l:List α}(h:n<=l.length):cut l none (some (n:Int))=l.take n:=by
 have:¬((n:Int)<0):=by omega
 unfold cut HT.dh;simp[this]
theorem Uh{r:Int}(h0:0<=r)(h1:r<ns.length):∃i∈ns,fO (ns.map D.int) r=some (.int i):=by
 obtain⟨v,hv,hm⟩:=F1 (l:=ns.map D.int) h0 (by simpa using h1);obtain⟨i,hi,rfl⟩:=aM.mp hm;exact⟨i,hi,hv⟩
theorem yW{r:Int}(h0:0<=r)(h1:r<cs.length):∃c∈cs,fO (cs.map b9.d) r=some c.d:=by
 obtain⟨v,hv,hm⟩:=F1 (l:=cs.map b9.d) h0 (by simpa using h1);obtain⟨i,hi,rfl⟩:=aM.mp hm;exact⟨i,hi,hv⟩
section
variable{T:Nat->Option bo}{d:Nat}
theorem RL(h4:T 4=some B2)(xt:T 21=some O6)(HG:T 25=some ve){n:Int}(hn:0<=n/\n<=100)(D0:j7 g d)(h:∀(cs:List b9) a g',(cs.length:Int)=n->(∀c∈cs,iq c)->g'[a]?=some (.lst (cs.map b9.d))->g.length<=a->j7 g' d->Gr d g g'->Q (.ref a) g'):d7 T (k+3) 25 [.ref d,.int n] g Q E:=by
 refine call_of HG rfl ?_;dsimp[ve,j2,List.replicate];have dl:=D0.lt;walk_at"";refine Gz (i:=1) (j:=n / 2+n % 2+1) (by omega) ?_;walk_at"";have hh:∃hf:Nat,(n / 2+n % 2+1-1).toNat=hf/\(hf:Int)=n / 2+n % 2/\hf<=50:=⟨_,rfl,by omega,by omega⟩
 obtain⟨hf,pW,Bt,Bs⟩:=hh;rw[pW];have e1:(g++[O.lst (j5 1 hf)])[g.length]?=some (.lst (j5 1 hf)):=d6;refine El h4 xt e1 (by rw[o8];omega) (by omega) (D0.snoc _) λl' b g2 hp e2 hb D2 G2=>?_;have qc:=G2.at (by omega) e1;walk_at"";refine Fi (a8 e2) ?_;have hle:l'.length=hf:=by rw[hp.length_eq,o8]
 have hc:cut l' none (some (n / 2))=l'.take (n / 2).toNat:=by
  have:=Mc (l:=l') (n:=(n / 2).toNat) (by omega)
  rwa [show(((n / 2).toNat:Nat):Int)=n / 2 by omega] at this
 rw[hc];refine Kd (l6 qc) d6 (by rw[o8,cw];omega) ?_;obtain⟨rl,er,hr⟩:=CB (p:=λi=>1<=i/\i<=50) (l:=j5 1 hf++l'.take (n / 2).toNat) λx hx=>by
  have rO:x∈j5 1 hf:=by
   rcases aS.mp hx with z|z
   ·exact z
   ·exact hp.mem_iff.mp (List.mem_of_mem_take z)
  obtain⟨i,rfl,h1,h2⟩:=CN rO;exact⟨i,rfl,h1,by omega⟩
 have GN:(rl.length:Int)=n:=by
  have:=eZ List.length er;rw[aK,o8,cw,ak] at this;omega
 rw[er];have D3:=(D2.snoc (.lst (l'.take (n / 2).toNat))).snoc (.lst (rl.map D.int));have G3:=(Gr.snoc d g (.lst (j5 1 hf))).trans (G2.trans ((Gr.snoc d g2 (.lst (l'.take (n / 2).toNat))).trans (Gr.snoc d _ (.lst (rl.map D.int)))));have e3:(g2++[O.lst (l'.take (n / 2).toNat)]++[O.lst (rl.map D.int)])[(g2++[O.lst (l'.take (n / 2).toNat)]).length]?=some (.lst (rl.map D.int)):=d6;have l3:g.length+1<=(g2++[O.lst (l'.take (n / 2).toNat)]).length:=by have:=G2.len;simp at this ⊢;omega
 generalize (g2++[O.lst (l'.take (n / 2).toNat)]).length=Au at *;generalize g2++[O.lst (l'.take (n / 2).toNat)]++[O.lst (rl.map D.int)]=g3 at *;walk_at"";refine i6 h4 D3 (by decide) (by decide) λr4 g4 oh pM D4 G4=>?_;have e4:=G4.at (by omega) e3;walk_at"";have FD:=G3.trans G4;have l4:=FD.len;have e5:(g4++[O.lst []])[g4.length]?=some (.lst ([].map b9.d)):=d6;have AR:=p0 e4;refine E3 (b0 T _) (J1 (b0 T _) ?_);walk_at"";refine ⟨by omega,by omega,j5 0 n.toNat,λi Z g'=>∃ cs z6 z7,Z=[some (.ref d),some (.int n),some (.ref g.length),some (.ref Au),some (.int r4),some (.ref g4.length),z6,z7]/\cs.length=i/\(∀ c ∈ cs,iq c)/\g'[g4.length]?=some (.lst (cs.map b9.d))/\g'[Au]?=some (.lst (rl.map D.int))/\j7 g' d/\Gr d g g',
  λ_ _ _ _=>q9,⟨[],none,none,rfl,rfl,by simp,e5,l6 e4,D4.snoc _,FD.trans (Gr.snoc _ _ _)⟩,λi x Z g' hx p=>?_,λZ g' p=>?_⟩
 ·obtain⟨cs,z6,z7,rfl,hc,hg,ef,erw,D',G'⟩:=p;obtain⟨hi,rfl⟩:=A7 hx;show wpS _ _ _ _ _ _;walk_at"";refine J7 (ym (by decide) (by decide)) ?_;walk_at"";refine uH ⟨by split<;>omega,by split<;>omega⟩ ?_;walk_at"";obtain⟨yv,hy,wm⟩:∃yv:Int,fO [D.int (1000+(0+(i:Int))),D.int 0,D.int (1+2*(0+(i:Int)) / (if n>1 then n else 1))] r4=some (.int yv)/\0<=yv/\yv<=9999:=by
   have VX:0<=2*(0+(i:Int)) / (if n>1 then n else 1):=Int.ediv_nonneg (by omega) (by split<;>omega);have VW:2*(0+(i:Int)) / (if n>1 then n else 1)<=2*(0+(i:Int)):=Int.ediv_le_self _ (by omega);have:r4=0\/r4=1\/r4=2:=by omega
   rcases this with rfl|rfl|rfl
   ·exact⟨_,rfl,by omega,by(clear dl pW Bs hb l3 l4 AR hc oh pM;omega)⟩
   ·exact⟨_,rfl,by omega,by omega⟩
   ·exact⟨_,rfl,by omega,by omega⟩
  refine k7 (a8 d6) hy ?_;walk_at"";obtain⟨lo,uk,wK⟩:=Uh (ns:=rl) (r:=0+(i:Int)) (by omega) (by(clear hn dl pW Bs hb l3 oh pM l4 AR wm;omega));have lf:=p0 ef;refine And.intro (R8 (l6 ef)) ?_;walk_at"";refine k7 (a8 (l6 erw)) wK ?_;walk_at"";refine i6 h4 (D'.snoc _) (by decide) (by decide) λr6 g6 AG AF D6 G6=>?_;have uD:=G6.at (by omega) (l6 ef);have Ik:=G6.at (by omega) (l6 erw);walk_at"";refine P7 uD (by simp;omega) ?_;walk_at"";have GX:=hr lo uk;refine⟨cs++[⟨lo,[],1+r6,[],yv⟩],_,_,rfl,by simp[hc],?_,?_,m7 Ik (by omega),D6.K1 (by omega),(G'.trans ((Gr.snoc _ _ _).trans G6)).K1 (by omega)⟩
  ·intro c iN;rcases aS.mp iN with z|z
   ·exact hg c z
   ·simp at z;subst z;exact iq.mk' (by omega) (by omega) (by omega) (by omega) wm.1 wm.2 rfl rfl (by simp) (by simp)
  ·rw[get_set uD];simp[b9.d]
 ·obtain⟨cs,z6,z7,rfl,hc,hg,ef,erw,D',G'⟩:=p;show wpS _ _ _ _ _ _;walk_at"";rw[o8] at hc;exact h cs _ _ (by omega) hg ef (by omega) D' G'
end
section
variable{T:Nat->Option bo}{d:Nat}
structure LF(T:Nat->Option bo):Prop where
 pull:T 4=some B2
 order:T 21=some O6
 any:T 22=some U8
 oe:T 23=some E5
 nX:T 24=some E4
 opened:T 25=some ve
 list:T 26=some N1
theorem SE(hT:LF T){n:Int}(hn:0<=n/\n<=99)(D0:j7 g d)(h:∀(cs:List b9) a (v:Int) g',(cs.length:Int)<=n->(∀c∈cs,iq c)->g'[a]?=some (.lst (cs.map b9.d))->g.length<=a->1<=v->v<=6->j7 g' d->Gr d g g'->Q (.tup [.ref a,.int v]) g'):d7 T (k+4) 26 [.ref d,.int n] g Q E:=by
 refine call_of hT.list rfl ?_;dsimp[N1,j2,List.replicate];have dl:=D0.lt;walk_at"";refine i6 (n:=n+1) hT.pull D0 (by omega) (by omega) λm g1 m0 m1 D1 G1=>?_;walk_at"";refine i6 hT.pull D1 (by decide) (by decide) λr2 g2 gs gn D2 G2=>?_;walk_at"";refine i6 hT.pull D2 (by decide) (by decide) λway g3 w0 w1 D3 G3=>?_;have vw:=G1.trans (G2.trans G3);have l3:=vw.len;walk_at"";refine if2 (λc=>?_) (λc=>?_)
 ·walk_at"";refine L6 (b0 T _) (J1 (b0 T _) ?_);walk_at"";refine⟨by omega,by omega,j5 0 m.toNat,λi ys Z g'=>∃cs z1 z2,ys=cs.map b9.d/\cs.length=i/\(∀c∈cs,iq c)/\Z=[some (.ref d),z1,z2]/\j7 g' d/\Gr d g g',by rw[o8];omega,λi ys Z g' p=>⟨q9,?_⟩,⟨[],none,none,rfl,rfl,by simp,rfl,D3,vw⟩,λi x ys Z g' hx p=>?_,λys Z g' p=>?_⟩
  ·obtain⟨cs,z1,z2,rfl,hc,_⟩:=p;simp[hc]
  ·obtain⟨cs,z1,z2,rfl,hc,hg,rfl,D',G'⟩:=p;show da _ _ _ _ _ _;walk_at"";refine NC hT.pull hT.any D' λc0 g4 gc D4 G4=>?_;refine⟨cs++[c0],_,_,by simp,by simp[hc],λc1 sj=>?_,rfl,D4,G'.trans G4⟩;rcases aS.mp sj with z|z
   ·exact hg c1 z
   ·simp at z;subst z;exact gc
  ·obtain⟨cs,z1,z2,rfl,hc,hg,rfl,D',G'⟩:=p;rw[o8] at hc;walk_at"";exact h cs _ _ _ (by omega) hg d6 G'.len (by omega) (by omega) (D'.snoc _) (G'.trans (Gr.snoc _ _ _))
 have tail:∀(v:Int) (g4:G),1<=v->v<=6->j7 g4 d->Gr d g g4->wpS (d7 T (k+3)) (i9 (i9 (i9 (i9 (i9 N1.body))))) ⟨λ_ g'=>Q .bV g',Q,λ_ _=>False,λ_ _=>False⟩ [some (.ref d),some (.int n),some (.int m),some (.int v),some (.int way),none,none,none,none] g4 E:=by
  intro v g4 v0 v1 D4 G4;dsimp[N1,i9];have after:∀(cs:List b9) a g5,(cs.length:Int)=m->(∀c∈cs,iq c)->g5[a]?=some (.lst (cs.map b9.d))->g4.length<=a->j7 g5 d->Gr d g4 g5->wpS (d7 T (k+3)) (i9 (i9 (i9 (i9 (i9 (i9 N1.body)))))) ⟨λ_ g'=>Q .bV g',Q,λ_ _=>False,λ_ _=>False⟩ [some (.ref d),some (.int n),some (.int m),some (.int v),some (.int way),some (.ref a),none,none,none] g5 E:=by
   intro cs a g5 hc hg ea la D5 G5;have FC:=G4.trans G5;have l4:=G4.len;dsimp[N1,i9];walk_at"";refine L6 (b0 T _) (pR (b0 T _) ?_);walk_at"";refine AS (by omega) (by omega) ?_;walk_at"";have e6:(g5++[O.lst (j5 0 m.toNat)])[g5.length]?=some (.lst (j5 0 m.toNat)):=d6;have l5:=D5.lt;refine El hT.pull hT.order e6 (by rw[o8];omega) (by omega) (D5.snoc _) λl' b g7 hp eb lb D7 G7=>?_;have Im:=G7.at (by omega) (l6 ea);have uo:l'.length=m.toNat:=by rw[hp.length_eq,o8]
   refine⟨b,l',rfl,a8 eb,l',λi ys Z g'=>∃fI z1 z2,ys=fI.map b9.d/\fI.length=i/\(∀c∈fI,iq c)/\Z=[some (.ref a),z1,z2]/\g'=g7,by omega,λi ys Z g' p=>?_,⟨[],none,none,rfl,rfl,by simp,rfl,rfl⟩,λi x ys Z g' hx p=>?_,λys Z g' p=>?_⟩
   ·obtain⟨fI,z1,z2,rfl,iN,_,_,rfl⟩:=p;exact⟨S0 (a8 eb),by simp[iN]⟩
   ·obtain⟨fI,z1,z2,rfl,iN,mF,rfl,rfl⟩:=p;obtain⟨j,rfl,j0,j1⟩:=CN (hp.mem_iff.mp (aL hx));show da _ _ _ _ _ _;walk_at"";obtain⟨c0,uv,e0⟩:=yW (cs:=cs) j0 (by omega);refine k7 (a8 Im) e0 ?_;refine⟨fI++[c0],_,_,by simp,by simp[iN],λc1 sj=>?_,rfl,rfl⟩;rcases aS.mp sj with z|z
    ·exact mF c1 z
    ·simp at z;subst z;exact hg c1 uv
   ·obtain⟨fI,z1,z2,rfl,iN,mF,rfl,rfl⟩:=p;have e8:(g'++[O.lst (fI.map b9.d)])[g'.length]?=some (.lst (fI.map b9.d)):=d6;have D8:=D7.snoc (.lst (fI.map b9.d));have G8:=(FC.trans ((Gr.snoc d g5 (.lst (j5 0 m.toNat))).trans G7)).trans (Gr.snoc d g' (.lst (fI.map b9.d)));have l8:g.length<=g'.length:=(FC.trans ((Gr.snoc d g5 (.lst (j5 0 m.toNat))).trans G7)).len;have fin:∀(qd:List b9) z6 z7 z8 g9,(qd.length:Int)=m->(∀c∈qd,iq c)->g9[g'.length]?=some (.lst (qd.map b9.d))->j7 g9 d->Gr d g g9->wpS (d7 T (k+3)) (i9 (i9 (i9 (i9 (i9 (i9 (i9 (i9 N1.body)))))))) ⟨λ_ g'=>Q .bV g',Q,λ_ _=>False,λ_ _=>False⟩ [some (.ref d),some (.int n),some (.int m),some (.int v),some (.int way),some (.ref g'.length),z6,z7,z8] g9 E:=by
     intro qd z6 z7 z8 g9 jL Bu e9 D9 G9;dsimp[N1,i9];walk_at"";refine if2 (λc=>?_) (λc=>?_)
     ·walk_at"";exact h qd _ _ _ (by omega) Bu e9 l8 (by omega) (by omega) D9 G9
     ·walk_at"";exact h qd _ _ _ (by omega) Bu e9 l8 v0 v1 D9 G9
    show wpS _ _ _ _ (g'++[O.lst (fI.map b9.d)]) _;have pU:(fI.length:Int)=m:=by omega
    have uc:=D7.lt;generalize VF:g'++[O.lst (fI.map b9.d)]=g8 at *;walk_at"";refine if2 (λc1=>?_) (λc1=>?_)
    ·walk_at"";refine if2 (λc2=>?_) (λc2=>?_)
     ·walk_at"";refine i6 (n:=m) hT.pull D8 c2 (by omega) λr g9 r0 r1 D9 G9=>?_;have e9:=G9.at (by omega) e8;obtain⟨c0,uv,e0⟩:=yW (cs:=fI) r0 (by(clear hn dl m0 m1 gs gn w0 w1 l3 c v0 v1 la l4 l5 lb uo iN l8 uc c1 c2 r0;omega));walk_at"";refine k7 (a8 e9) e0 ?_;walk_at"";refine i6 (n:=m) hT.pull D9 c2 (by omega) λr' nE tZ AH FE FA=>?_;have oX:=FA.at (by omega) e9;obtain⟨c3,Bx,e3⟩:=yW (cs:=fI) tZ (by(clear hn dl m0 m1 gs gn w0 w1 l3 c v0 v1 la l4 l5 lb uo iN l8 uc c1 c2 r0 r1 tZ;omega));refine k7 (a8 oX) e3 ?_;dsimp only[b9.d];walk_at"";refine i6 hT.pull (FE.snoc _) (by decide) (by decide) λVv uC oj oi Vb zV=>?_;have AV:=FE.lt;have oW:=zV.at (by omega) (d6 (g:=nE) (o:=.lst [.int c0.yr,.int c3.yr,.int 9999]));have sN:=zV.at (by omega) (l6 (o':=.lst [.int c0.yr,.int c3.yr,.int 9999]) oX);obtain⟨x,hx,hm⟩:=F1 (l:=[D.int c0.yr,.int c3.yr,.int 9999]) oj (by simpa using oi);obtain⟨a1,a2,a3,a4,a5,a6⟩:=(mF c0 uv).inv;obtain⟨b1,b2,b3,b4,b5,b6⟩:=(mF c3 Bx).inv;have hy:∃y:Int,x=.int y/\0<=y/\y<=9999:=by
       simp only[List.mem_cons,List.mem_nil_iff,or_false] at hm;rcases hm with rfl|rfl|rfl
       ·exact⟨_,rfl,a5,a6⟩
       ·exact⟨_,rfl,b5,b6⟩
       ·exact⟨_,rfl,by decide,by decide⟩
      obtain⟨y,rfl,y0,y1⟩:=hy;refine k7 (a8 oW) hx ?_;walk_at"";have hj:jA (fI.map b9.d).length r=some r.toNat:=by
       unfold jA;rw[aN r0,aN (by rw[ak];(clear hn dl m0 m1 gs gn w0 w1 l3 c v0 v1 la l4 l5 lb uo iN l8 uc c1 c2 r0 tZ AH oj oi AV a1 a3 a5 a6 b1 b3 b5 b6 y0 y1;omega))]
      refine P2 sN hj ?_;have gr:iq ⟨c0.lo,c3.lm,c3.up,c0.um,y⟩:=iq.mk' a1.1 a1.2 b3.1 b3.2 y0 y1 b2 a4 (mF c3 Bx).l8 (mF c0 uv).u8;refine fin (fI.set r.toNat ⟨c0.lo,c3.lm,c3.up,c0.um,y⟩) _ _ _ _ (by simp;(clear hn dl m0 m1 gs gn w0 w1 l3 c v0 v1 la l4 l5 lb uo iN l8 uc c1 c2 r0 r1 tZ AH oj oi AV a1 a3 a5 a6 b1 b3 b5 b6 y0 y1;omega)) (λc4 Hk=>?_) ?_ (Vb.K1 (by omega)) ((G8.trans (G9.trans (FA.trans ((Gr.snoc _ _ _).trans zV)))).K1 l8)
      ·rcases mR Hk with z|z
       ·exact mF c4 z
       ·rw[z];exact gr
      ·rw[get_set sN,List.map_set]
       rfl
     ·refine W8 ?_;exact fin fI _ _ _ _ pU mF e8 D8 G8
    ·exact fin fI _ _ _ _ pU mF e8 D8 G8
  walk_at"";refine if2 (λc=>?_) (λc=>?_)
  ·walk_at"";refine RL hT.pull hT.order hT.opened ⟨m0,by omega⟩ D4 λcs a g5 hc hg ea la D5 G5=>?_;exact after cs a g5 hc hg ea la D5 G5
  ·walk_at"";refine Sj hT.pull hT.oe hT.nX ⟨m0,by omega⟩ ⟨v0,by omega⟩ D4 λcs a g5 hc hg ea la D5 G5=>?_;exact after cs a g5 hc hg ea la D5 G5
 walk_at"";refine if2 (λc=>?_) (λc=>?_)
 ·walk_at"";refine i6 hT.pull D3 (by decide) (by decide) λr4 g4 oh pM D4 G4=>?_;walk_at "w1";walk_at "w1";exact tail _ _ (by omega) (by omega) D4 (vw.trans G4)
 ·refine W8 ?_;exact tail _ _ (by omega) (by omega) D3 vw
end
def U7:bo:=⟨1,1,(.seq (.ifs (.eW (.gJ (.call 12 (gf aU)))) (.seq (.raise "BadCoin" (gf (ud "it is no coin"))) .pass) .pass) .pass)⟩
def Q5:bo:=⟨1,2,(.seq (.ifs (fh .Gt (eO .len aU) (aW 9)) (.seq (.raise "TooMany" (gf (ud "at most nine coins are asked about at once"))) .pass) .pass) (.seq (.eL (.one 1) (.iu aU) (.seq (.expr (.call 39 (gf bX))) .pass)) .pass))⟩
def N3:bo:=⟨1,1,(.seq (.ifs (fh .NotIn aU (.lit (.tup [(.str "lower"),(.str "upper")]))) (.seq (.raise "BadSide" (gf (ud "a side is lower or upper"))) .pass) .pass) .pass)⟩
def Y1:bo:=⟨1,1,(.seq (.expr (.call 40 (gf aU))) (.seq (.ret (cB .lB (.lit (.tup [(.tup [(.str "lower"),(.int 0)]),(.tup [(.str "upper"),(.int 2)])])) aU)) .pass))⟩
noncomputable abbrev zW(T:Nat->Option bo):Prop:=T 18=some Q5/\T 39=some U7
noncomputable abbrev pF(T:Nat->Option bo):Prop:=T 19=some Y1/\T 40=some N3
structure Ex(g g':G):Prop where
 len:g.length<=g'.length
 old:∀i,i<g.length->g'[i]?=g[i]?
theorem Ex.refl(g:G):Ex g g:=⟨aj _,λ_ _=>rfl⟩
theorem Ex.trans{g g1 g2:G}(a:Ex g g1)(b:Ex g1 g2):Ex g g2:=⟨aG a.len b.len,λi h=>(b.old i (az h a.len)).trans (a.old i h)⟩
theorem Ex.snoc(g:G)(o:O):Ex g (g++[o]):=⟨by simp,λi h=>aw h⟩
theorem Ex.at(h:Ex g g')(e:g[i]?=some o):g'[i]?=some o:=(h.old i (p0 e)).trans e
theorem Ex.gr(h:Ex g g')(d:Nat):Gr d g g':=⟨h.len,λi _ h2=>h.old i h2⟩
theorem Ex.draw{d:Nat}(h:Ex g g')(D0:j7 g d):j7 g' d:=by
 obtain⟨s,p,b,r,xs,e1,e2,q⟩:=D0.ex;exact⟨s,p,b,r,xs,h.at e1,h.at e2,q⟩
section
variable{T:Nat->Option bo}
theorem MI(h6:T 6=some vk){i:Int}(h:Q (.bl true) g):d7 T (k+1) 6 [.int i] g Q E:=by
 refine call_of h6 rfl ?_;dsimp[vk,j2,List.replicate];walk_at"";refine rJ (c:="int") (b:=true) (by decide) rfl ?_;walk_at"";refine rJ (c:="bool") (b:=false) (by decide) rfl ?_;walk_at"";exact h
end
section
variable{T:Nat->Option bo}{d:Nat}
theorem PZ{x:Str}(hx:PyData.strOk x=true)(h:kb (decide (x="lower")||decide (x="upper"))):rK g (.str x) (.tup [.str "lower",.str "upper"]) kb:=by
 refine⟨_,.inr ⟨_,[.str "lower",.str "upper"],.str x,rfl,rfl,rfl,by simp only[PyData.canLayAll0,PyData.canLay0,Bool.and_true];decide +kernel,by simp only[PyData.canLay0];exact hx,rfl⟩,?_⟩;have e:∀y:Str,PyData.eqv (.str y) (.str x)=decide (x=y):=λy=>by
  simp only[PyData.eqv];rw[bZ,ji,bp];exact eq_comm
 simp only[List.any_cons,List.any_nil,Bool.or_false,e];exact h
theorem Oq(HF:T 40=some N3){x:Str}(ho:PyData.strOk x=true)(h1:x="lower"\/x="upper"->Q .bV g)(h3:x≠"lower"->x≠"upper"->E ⟨"BadSide"⟩ g):d7 T (k+1) 40 [.str x] g Q E:=by
 refine call_of HF rfl ?_;dsimp[N3,j2,List.replicate];walk_at"";refine zF (PZ ho ?_);walk_at"";by_cases e:x="lower"\/x="upper"
 ·refine jf (by rw[Bool.not_eq_false',dZ,bp,bp];exact e) ?_;walk_at"";exact h1 e
 ·refine lM (by rw[Bool.not_eq_true',Bool.or_eq_false_iff,eA,eA];exact not_or.mp e) ?_;walk_at"";exact h3 (λz=>e (.inl z)) (λz=>e (.inr z))
theorem J2(iY:pF T){x:Str}(ho:PyData.strOk x=true)(h1:x="lower"->Q (.int 0) g)(h2:x="upper"->Q (.int 2) g)(h3:x≠"lower"->x≠"upper"->E ⟨"BadSide"⟩ g):d7 T (k+2) 19 [.str x] g Q E:=by
 refine call_of iY.1 rfl ?_;dsimp[Y1,j2,List.replicate];walk_at"";refine Oq iY.2 ho (λhx=>?_) h3;walk_at"";by_cases e1:x="lower"
 ·have el:L1 [.tup [.str "lower",.int 0],.tup [.str "upper",.int 2]] x=some (.int 0):=by simp[L1,e1]
  refine EA el ?_;exact h1 e1
 ·have e2:x="upper":=hx.resolve_left e1;have el:L1 [.tup [.str "lower",.int 0],.tup [.str "upper",.int 2]] x=some (.int 2):=by simp[L1,e1];simp[e2]
  refine EA el ?_;exact h2 e2
theorem S5(h1:NF T)(h2:T 2=some B3)(nz:T 12=some u6)(oP:zW T)(ha:g[a]?=some (.lst (cs.map b9.d)))(hz:cs.length<=1000)(hm:9<cs.length->E ⟨"TooMany"⟩ g)(hb:cs.length<=9->cs.all B6=false->E ⟨"BadCoin"⟩ g)(h:cs.length<=9->cs.all B6=true->Q .bV g):d7 T (k+6) 18 [.ref a] g Q E:=by
 refine call_of oP.1 rfl ?_;dsimp[Q5,j2,List.replicate];walk_at"";rw[ak];refine if2 (λc=>?_) (λc=>?_)
 ·walk_at"";exact hm (by omega)
 have h9:cs.length<=9:=by omega
 walk_at"";refine E3 (b0 T _) (pR (b0 T _) ?_);walk_at"";refine⟨a,_,rfl,a8 ha,cs.map b9.d,λi Z g'=>∃z,Z=[some (.ref a),z]/\g'=g/\(cs.take i).all B6=true,λi Z g' p=>?_,⟨none,rfl,rfl,by simp⟩,λi x Z g' hx p=>?_,λZ g' p=>?_⟩
 ·obtain⟨z,rfl,rfl,_⟩:=p;exact S0 (a8 ha)
 ·obtain⟨z,rfl,rfl,hg⟩:=p;rw[aC,ae] at hx;obtain⟨c,hc,rfl⟩:=hx;refine s9 ?_
  try show wpS _ _ _ _ _ _
  walk_at"";refine call_of oP.2 rfl ?_;dsimp[U7,j2,List.replicate];walk_at"";refine Oc h1 h2 nz ?_;walk_at"";cases e:B6 c with
  |true =>
   walk_at"";refine⟨_,rfl,rfl,?_⟩;rw[fz,hc];simp[hg,e]
  |false =>
   refine Cq ?_;walk_at"";refine hb h9 ?_;rw[List.all_eq_false];exact⟨c,aL hc,by rw[e];decide⟩
 ·obtain⟨z,rfl,rfl,hg⟩:=p;rw[ak,eV] at hg;exact h h9 hg
end
def L0:bo:=⟨2,2,(.seq (.ifs (.eW (.gJ (.call 1 (kH bX (aW 0) (cB (.bin .Sub) (eO .len aU) (aW 1)))))) (.seq (.raise "NoPlace" (gf (ud "no coin has that place"))) .pass) .pass) .pass)⟩
section
variable{Z:S}
theorem Jc(hP:j4 P){o:ME}(hl:c6 g a=some l)(h:∀Q:KD,Q (.ref a) g->aT P o Z g Q E):∀R:IK->G->Prop,R (.lst a) g->hU P (.iu o) Z g R E:=λR r=>pR hP (h _ ⟨a,l,rfl,hl,r⟩)
end
section
variable{T:Nat->Option bo}
theorem S4(h1:NF T)(uy:T 83=some L0){i:Int}(ha:g[a]?=some (.lst l))(h:0<=i->i<l.length->Q .bV g)(hn:¬(0<=i/\i<l.length)->E ⟨"NoPlace"⟩ g):d7 T (k+3) 83 [.ref a,.int i] g Q E:=by
 refine call_of uy rfl ?_;dsimp[L0,j2,List.replicate];walk_at"";refine A8 (k:=k) h1 ?_;walk_at"";by_cases hi:0<=i/\i<l.length
 ·rw[aX hi.1,aX (show i<=(l.length:Int)-1 by omega)];walk_at"";exact h hi.1 hi.2
 ·have:(decide (0<=i)&&decide (i<=(l.length:Int)-1))=false:=by
   rw[Bool.and_eq_false_iff,eA,eA];omega
  rw[this];walk_at"";exact hn hi
end
section
variable{Z:S}{t:MT}{it c elt:ME}{c8:List Nat}
inductive tL(α:Type)(P:eR)(t:MT)(c elt:ME)(Q:KD)(Z:S)(k:IK)(g1:G):Prop
 |mk (l:List α) (fl:α->D) (Sh:S->Prop) (p:α->Bool) (w:α->D) (hk:∀g',Ex g1 g'->k.Is (l.map fl) g') (hl:l.length<=1000) (h0:Sh Z)
   (hs:∀x Z g',x∈l->Ex g1 g'->Sh Z->jz t (fl x) Z λcE=>da P c cE g' (λb g3=>b=p x/\Ex g1 g3/\if b=true then aT P elt cE g3 (λy g4=>y=w x/\Ex g1 g4/\Sh cE) jw else Sh cE) jw) (hd:∀g',Ex g1 g'->Q (.ref g'.length) (g'++[.lst ((l.filter p).map w)])):tL α P t c elt Q Z k g1
theorem Y8(hP:j4 P)(h:hU P it Z g (tL α P t c elt Q (J3 Z c8 n)) E):aT P (.comp c8 n t it c elt) Z g Q E:=by
 refine L6 hP (A3 hP it _ _ _ _ _ _ (λk g1 h=>?_) (λ_ _ z=>z) h);obtain⟨l,fl,Sh,p,w,hk,hl,h0,hs,hd⟩:=h;refine⟨l.map fl,λi ys Z g'=>Ex g1 g'/\ys=((l.take i).filter p).map w/\Sh Z,by simpa using hl,λi ys Z g' q=>⟨hk _ q.1,?_⟩,⟨Ex.refl _,by simp,h0⟩,λi x ys Z g' hx q=>?_,λys Z g' q=>?_⟩
 ·obtain⟨_,rfl,_⟩:=q;rw[ak];exact aG (dn _ _) (by rw[cw];omega)
 ·obtain⟨e1,rfl,sh⟩:=q;rw[aC,ae] at hx;obtain⟨x,hx,rfl⟩:=hx;refine B1 (λcE q=>n8 hP c _ _ _ _ _ _ (λb g3 q=>?_) (λ_ _ z=>z) q) (hs x Z g' (aL hx) e1 sh);obtain⟨rfl,e3,q⟩:=q;have ef:((l.take (i+1)).filter p).map w=((l.take i).filter p).map w++if p x=true then[w x] else[]:=by
   rw[fz,hx,et,cN]
   congr 1
   cases z:p x<;>simp[z]
  cases hp:p x with
  |true =>
   rw[hp] at q ef;rw[aN rfl] at q ⊢;refine b8 hP elt _ _ _ _ _ _ (λy g4 q=>?_) (λ_ _ z=>z) q;obtain⟨rfl,e4,sh⟩:=q;exact⟨e4,by rw[ef];rfl,sh⟩
  |false =>
   rw[hp] at q ef;rw[aH (by decide)] at q ⊢;exact⟨e3,by rw[ef];simp,q⟩
 ·obtain⟨e1,rfl,sh⟩:=q;rw[ak,eV];exact hd g' e1
end
theorem Y5(l:List α):l.filter (λ_=>true)=l:=List.filter_eq_self.mpr λ_ _=>rfl
theorem PY{y:D}{i:Int}(ha:I9 g y=some (ms.map .int))(h:kb (decide (i∈ms))):rK g (.int i) y kb:=by
 refine⟨_,.inr ⟨_,ms.map .int,.int i,ha,?_,rfl,?_,rfl,rfl⟩,?_⟩
 ·unfold AB;exact P6 ms
 ·exact lay_ints ms
 ·have:((ms.map PyData.int).any λq=>PyData.eqv q (.int i))=decide (i∈ms):=by
   rw[List.any_map,bZ,gk,bp];constructor
   ·rintro⟨x,hx,e⟩;have:x=i:=by simpa[PyData.eqv] using e
    rw[<- this];exact hx
   ·intro hx;exact⟨i,hx,by simp[PyData.eqv]⟩
  rw[this];exact h
def F7:bo:=⟨2,2,(.seq (.ret (eO .any (.comp [0,1] 4 (.one 3) (.iu (.lit (.tup [(.str "lower"),(.str "upper")]))) .no (cB (.cmp .Eq) (cU aU (.call 19 (gf cI))) (cU bX (.call 19 (gf cI))))))) .pass)⟩
def A5:bo:=⟨2,2,(.seq (.ret (.comp [0,1] 5 (.many [3,4]) (.lL aU) (.dX (fh .NotEq cI bX) (.gJ (.call 76 (eE dA (cU aU bX))))) cI)) .pass)⟩
def K4:bo:=⟨2,7,(.seq (.set 2 (.lW (eE bX (aW 0)))) (.seq (.set 3 (eO .lst bX)) (.seq (.jm (.gJ cI) (.seq (.set 4 (.prim .lst .nil)) (.seq (.eL (.one 5) (.iu cI) (.seq (.eL (.one 6) (.iu (.call 77 (eE aU fJ))) (.seq (.ifs (fh .NotIn fG cF) (.seq (.eh cF fG (cB (.bin .Add) (cU cF fJ) (aW 1))) (.seq (.expr (.eG .append dA (gf fG))) .pass)) .pass) .pass)) .pass)) (.seq (.set 3 dA) .pass)))) (.seq (.ret cF) .pass))))⟩
def uR:bo:=⟨1,4,(.seq (.expr (.call 18 (gf aU))) (.seq (.set 1 (.prim .lst .nil)) (.seq (.eL (.one 2) (.dQ (eO .len aU)) (.seq (.set 3 (eO .hX (.call 78 (eE aU cF)))) (.seq (.ifs (fh .Eq (cU cI (aW 0)) cF) (.seq (.expr (.eG .append bX (gf cI))) .pass) .pass) .pass))) (.seq (.ret bX) .pass))))⟩
def lk(c c':b9):Bool:=decide (c.lo=c'.lo)||decide (c.up=c'.up)
def t8(cs:List b9)(i j:Nat):Bool:=match cs[i]?,cs[j]? with
 |some c,some c'=>lk c c'
 |_,_=>false
inductive j8(cs:List b9):Nat->Nat->Prop
 |refl {i:Nat} (h:i<cs.length):j8 cs i i
 |step {i j l:Nat} (h:j8 cs i j) (a:t8 cs j l=true):j8 cs i l
def K7(cs:List b9)(p:Nat):List Nat:=(List.range cs.length).filter λj=>decide (j≠p)&&t8 cs j p
theorem N6(h:t8 cs i j=true):i<cs.length/\j<cs.length:=by
 unfold t8 at h;split at h
 ·rename_i h1 h2;exact⟨(ao.mp h1).1,(ao.mp h2).1⟩
 ·cases h
theorem UD:lk c c'=lk c' c:=by
 unfold lk;rw[eU.mpr (show c.lo=c'.lo↔c'.lo=c.lo from⟨Vi,Vi⟩),eU.mpr (show c.up=c'.up↔c'.up=c.up from⟨Vi,Vi⟩)]
theorem E0(h:t8 cs i j=true):t8 cs j i=true:=by
 unfold t8 at h ⊢;split at h
 ·rename_i h1 h2;rw[h1,h2];exact UD.trans h
 ·cases h
theorem j8.lt(h:j8 cs i j):i<cs.length/\j<cs.length:=by
 induction h with
 |refl h=>exact⟨h,h⟩
 |step _ a ih=>exact⟨ih.1,(N6 a).2⟩
theorem j8.trans{l:Nat}(a:j8 cs i j)(b:j8 cs j l):j8 cs i l:=by
 induction b with
 |refl _=>exact a
 |step _ e ih=>exact .step ih e
theorem j8.symm{cs:List b9}{i j:Nat}(h:j8 cs i j):j8 cs j i:=by
 induction h with
 |refl h=>exact .refl h
 |step _ a ih=>exact(j8.step (.refl (N6 a).2) (E0 a)).trans ih
theorem P5:j∈K7 cs p↔j≠p/\t8 cs j p=true:=by
 unfold K7;simp only[List.mem_filter,List.mem_range,Bool.and_eq_true,decide_eq_true_eq];exact⟨λh=>h.2,λh=>⟨(N6 h.2).1,h⟩⟩
section
variable{T:Nat->Option bo}{d:Nat}
theorem RE(iY:pF T)(kf:T 76=some F7)(h:∀g',Ex g g'->Q (.bl (lk c c')) g'):d7 T (k+3) 76 [c.d,c'.d] g Q E:=by
 refine call_of kf rfl ?_;dsimp[F7,j2,List.replicate];walk_at"";refine Ed (b0 T _) ?_;walk_at"";refine⟨_,rfl,by decide,λi ys Z g'=>∃z2 z3,ys=([D.bl (decide (c.lo=c'.lo)),.bl (decide (c.up=c'.up))].take i)/\Z=[some c.d,some c'.d,z2,z3]/\g'=g,⟨none,none,rfl,rfl,rfl⟩,λi ys Z g' q=>?_,λi x ys Z g' hx q=>?_,λys Z g' q=>?_⟩
 ·obtain⟨_,_,rfl,_⟩:=q;rw[cw];omega
 ·obtain⟨z2,z3,rfl,rfl,rfl⟩:=q;refine s9 ?_
  try show da _ _ _ _ _ _
  match i,hx with
  |0,hx =>
   cases hx;walk_at"";refine J2 (k:=k) iY (by decide +kernel) (λ_=>?_) (λz=>absurd z (by decide +kernel)) (λz=>absurd rfl z);walk_at"";refine M3 (l:=[.int c.lo,.tup (c.lm.map .int),.int c.up,.tup (c.um.map .int),.int c.yr]) rfl ?_;walk_at"";refine J2 (k:=k) iY (by decide +kernel) (λ_=>?_) (λz=>absurd z (by decide +kernel)) (λz=>absurd rfl z);walk_at"";refine M3 (l:=[.int c'.lo,.tup (c'.lm.map .int),.int c'.up,.tup (c'.um.map .int),.int c'.yr]) rfl ?_;walk_at"";exact⟨_,_,rfl,rfl,rfl⟩
  |1,hx =>
   cases hx;walk_at"";refine J2 (k:=k) iY (by decide +kernel) (λz=>absurd z (by decide +kernel)) (λ_=>?_) (λ_ z=>absurd rfl z);walk_at"";refine M3 (l:=[.int c.lo,.tup (c.lm.map .int),.int c.up,.tup (c.um.map .int),.int c.yr]) rfl ?_;walk_at"";refine J2 (k:=k) iY (by decide +kernel) (λz=>absurd z (by decide +kernel)) (λ_=>?_) (λ_ z=>absurd rfl z);walk_at"";refine M3 (l:=[.int c'.lo,.tup (c'.lm.map .int),.int c'.up,.tup (c'.um.map .int),.int c'.yr]) rfl ?_;walk_at"";exact⟨_,_,rfl,rfl,rfl⟩
  |i+2,hx=>simp at hx
 ·obtain⟨z2,z3,rfl,rfl,rfl⟩:=q;refine Kb (a8 d6) (v:=lk c c') ?_ ?_
  ·show(Q2 [D.bl (decide (c.lo=c'.lo)),.bl (decide (c.up=c'.up))])=some (lk c c');simp[Q2,lk]
  ·walk_at"";exact h _ (Ex.snoc _ _)
theorem Di(iY:pF T)(kf:T 76=some F7)(lx:T 77=some A5)(ha:g[a]?=some (.lst (cs.map b9.d)))(hz:cs.length<=9)(hp:p<cs.length)(h:∀g' i,Ex g g'->g.length<=i->g'[i]?=some (.lst ((K7 cs p).map λj=>.int (j:Nat)))->Q (.ref i) g'):d7 T (k+4) 77 [.ref a,.int (p:Nat)] g Q E:=by
 refine call_of lx rfl ?_;dsimp[A5,j2,List.replicate];walk_at"";refine L6 (b0 T _) (AZ ?_);walk_at"";have wU:=ai hp;generalize cs[p]=cp at wU;have gp:fO (cs.map b9.d) (p:Int)=some cp.d:=y9 (by rw[aC,wU];rfl);refine⟨a,_,rfl,a8 ha,oU (cs.map b9.d),λi ys Z g'=>Ex g g'/\ys=(((List.range i).filter λj=>decide (j≠p)&&t8 cs j p).map λj=>D.int (j:Nat))/\∃z2 z3 z4,Z=[some (.ref a),some (.int (p:Nat)),z2,z3,z4],by rw[Cy];simp;omega,λi ys Z g' q=>⟨Mo (a8 (q.1.at ha)),?_⟩,⟨Ex.refl _,rfl,none,none,none,rfl⟩,λi x ys Z g' hx q=>?_,λys Z g' q=>?_⟩
 ·obtain⟨_,rfl,_⟩:=q;rw[ak];exact aG (dn _ _) (by simp)
 ·obtain⟨e1,rfl,z2,z3,z4,rfl⟩:=q;obtain⟨dd,hd,rfl⟩:=Up hx;rw[aC,ae] at hd;obtain⟨c,hc,rfl⟩:=hd;refine yV rfl ?_
  try show da _ _ _ _ _ _
  have el:t8 cs i p=lk c cp:=by unfold t8;rw[hc,wU]
  have ef:(List.range (i+1)).filter (λj=>decide (j≠p)&&t8 cs j p)=(List.range i).filter (λj=>decide (j≠p)&&t8 cs j p)++if(decide (i≠p)&&t8 cs i p)=true then[i] else[]:=by
   rw[kC,et]
   congr 1
   cases z:(decide (i≠p)&&t8 cs i p)<;>simp only[List.filter_cons,z,List.filter_nil]<;>rfl
  walk_at"";have ei:decide (((i:Nat):Int)=((p:Nat):Int))=decide (i=p):=by
   rw[eU];omega
  rw[ei];by_cases ur:i=p
  ·refine jf (by simp[ur]) ?_;refine⟨e1,?_,_,_,_,rfl⟩;rw[ef,aH (by simp[ur]),cO]
  ·refine lM (by simp[ur]) ?_;walk_at"";refine k7 (a8 (e1.at ha)) gp ?_;walk_at"";refine RE (k:=k) iY kf λg2 e2=>?_;walk_at"";cases Bn:lk c cp with
   |true =>
    refine lM rfl ?_;walk_at"";refine⟨e1.trans e2,?_,_,_,_,rfl⟩;rw[ef,aN (by rw[el,Bn];simp[ur])];simp
   |false =>
    refine jf rfl ?_;refine⟨e1.trans e2,?_,_,_,_,rfl⟩;rw[ef,aH (by rw[el,Bn];simp),cO]
 ·obtain⟨e1,rfl,z2,z3,z4,rfl⟩:=q;walk_at"";rw[Cy,ak];exact h _ _ (e1.trans (Ex.snoc _ _)) e1.len d6
end
theorem T5{c:Key}:(p6 kvs c).isSome=true↔c∈kvs.map (·.1):=by
 unfold p6;rw[fP,List.find?_isSome];simp only[List.mem_map,decide_eq_true_eq]
theorem OR{c:Key}{v:D}(h:c∉kvs.map (·.1)):putD kvs c v=kvs++[(c,v)]:=by
 unfold putD;rw[aH];intro z;rw[gk] at z;obtain⟨kv,h1,h2⟩:=z;exact h (aM.mpr ⟨kv,h1,bw h2⟩)
noncomputable abbrev kI(j:Nat):Key:=.inl (j:Int)
theorem uQ{S:List Nat}{j:Nat}:kI j∈S.map kI↔j∈S:=by
 rw[aM];constructor
 ·rintro⟨i,h,e⟩;have:(i:Int)=j:=vy e;rw[show j=i by omega];exact h
 ·exact λh=>⟨j,h,rfl⟩
theorem K3:∀{n:Nat} {S:List Nat},S.Nodup->(∀j∈S,j<n)->S.length<=n
 |0,S,_,h=>by
  cases S with
  |nil=>simp
  |cons a l=>exact absurd (h a (by simp)) (by omega)
 |n+1,S,nd,h=>by
  have:=K3 (n:=n) (nd.erase n) λj hj=>by
   have h1:=(nd.mem_erase_iff.mp hj)
   have h2:=h j h1.2;omega
  by_cases hn:n∈S
  ·rw[List.length_erase_of_mem hn] at this;omega
  ·rw[List.erase_of_not_mem hn] at this;omega
structure UY(g:G)(sd:Nat)(S:List Nat):Prop where
 ex:∃kvs:List (Key×D),g[sd]?=some (.cL kvs)/\kvs.map (·.1)=S.map kI/\∀kv∈kvs,∃v,kv.2=.int v
section
variable{T:Nat->Option bo}{d:Nat}{S:List Nat}
theorem RG(h:i<cs.length):t8 cs i i=true:=by
 unfold t8;rw[ai h];simp[lk]
inductive Wk(cs:List b9)(i:Nat):Nat->Nat->Prop
 |zero (h:i<cs.length):Wk cs i 0 i
 |succ {n j l:Nat} (h:Wk cs i n j) (a:t8 cs j l=true):Wk cs i (n+1) l
theorem Wk.conn(h:Wk cs i n j):j8 cs i j:=by
 induction h with
 |zero h=>exact .refl h
 |succ _ a ih=>exact .step ih a
theorem Wk.up(h:Wk cs i n j):Wk cs i (n+1) j:=.succ h (RG h.conn.lt.2)
theorem Wk.mono(h:Wk cs i n j)(hm:n<=m):Wk cs i m j:=by
 induction hm with
 |refl=>exact h
 |step _ ih=>exact ih.up
theorem j8.wk(h:j8 cs i j):∃n,Wk cs i n j:=by
 induction h with
 |refl h=>exact⟨0,.zero h⟩
 |step _ a ih=>obtain⟨n,ih⟩:=ih;exact⟨n+1,.succ ih a⟩
theorem Wk.trans{l:Nat}(h:Wk cs i n j)(h2:Wk cs j m l):Wk cs i (n+m) l:=by
 induction h2 with
 |zero _=>exact h
 |succ _ a ih=>exact .succ ih a
theorem Wk.symm{i j n:Nat}(h:Wk cs i n j):Wk cs j n i:=by
 induction h with
 |zero h=>exact .zero h
 |succ h a ih =>
  have:=(Wk.succ (.zero (N6 a).2) (E0 a)).trans ih;exact this.mono (by omega)
theorem least{P:Nat->Prop}(h:P n):∃n,P n/\∀m,P m->n<=m:=by
 induction n using Nat.strongRecOn with
 |ind n ih =>
  by_cases z:∃m,m<n/\P m
  ·obtain⟨m,hm,pm⟩:=z;exact ih m hm pm
  ·exact⟨n,h,λm pm=>cH λhm=>z ⟨m,hm,pm⟩⟩
def kj(cs:List b9)(i j n:Nat):Prop:=Wk cs i n j/\∀m,Wk cs i m j->n<=m
def dst(cs:List b9)(i j:Nat):Nat:=@dite _ (∃n,kj cs i j n) (Classical.propDecidable _) (λh=>Classical.choose h) λ_=>0
theorem kj.eq(h:kj cs i j n):dst cs i j=n:=by
 have e:∃n,kj cs i j n:=⟨n,h⟩
 unfold dst;rw[dif_pos e];have:=Classical.choose_spec e;exact kB (this.2 _ h.1) (h.2 _ this.1)
theorem j8.pQ(h:j8 cs i j):kj cs i j (dst cs i j):=by
 obtain⟨n,hn⟩:=h.wk;obtain⟨m,hm⟩:=least (P:=λn=>Wk cs i n j) hn;have e:kj cs i j m:=hm;rw[e.eq];exact e
def ir(cs:List b9)(p:Nat)(S:List Nat):List (Key×D):=S.map λj=>(kI j,.int (dst cs p j:Nat))
theorem O2:(ir cs p S).map (·.1)=S.map kI:=by simp[ir]
theorem Z6:∀{S:List Nat} {j:Nat},j∈S->p6 (ir cs p S) (kI j)=some (.int (dst cs p j:Nat))
 |i::S,j,h=>by
  unfold p6 ir;rw[aV,gO];by_cases e:i=j
  ·subst e;simp
  ·have dI:decide (kI i=kI j)=false:=aJ λz=>e (by have:(i:Int)=j:=vy z;omega);simp only[dI];exact Z6 ((aD.mp h).resolve_left λz=>e z.symm)
theorem DK(iY:pF T)(kf:T 76=some F7)(lx:T 77=some A5)(ny:T 78=some K4)(ha:g[a]?=some (.lst (cs.map b9.d)))(hz:cs.length<=9)(hp:p<cs.length)(h:∀g' sd S,Ex g g'->g.length<=sd->g'[sd]?=some (.cL (ir cs p S))->S.Nodup->(∀j,j∈S↔j8 cs p j)->Q (.ref sd) g'):d7 T (k+5) 78 [.ref a,.int (p:Nat)] g Q E:=by
 have d0:kj cs p p 0:=⟨.zero hp,λ_ _=>bY _⟩
 have lt:∀{t:Nat} {S:List Nat},S.Nodup->(∀j∈S,Wk cs p t j)->S.length<=cs.length:=λnd w=>K3 nd λj hj=>(w j hj).conn.lt.2;refine call_of ny rfl ?_;dsimp[K4,j2,List.replicate];walk_at"";refine LP ?_;walk_at"";refine⟨[(kI p,.int 0)],rfl,by simp,by simp,?_⟩;have s1:((g++[O.cL []]).set g.length (.cL [(kI p,.int 0)]))[g.length]?=some (.cL (ir cs p [p])):=by
  rw[show ir cs p [p]=[(kI p,.int 0)] by simp[ir,d0.eq]];simp
 have x1:Ex g ((g++[O.cL []]).set g.length (.cL [(kI p,.int 0)])):=⟨by simp,λi hi=>by rw[aA (by omega),aw hi]⟩
 have l1:((g++[O.cL []]).set g.length (.cL [(kI p,.int 0)])).length=g.length+1:=by simp
 generalize (g++[O.cL []]).set g.length (.cL [(kI p,.int 0)])=g1 at *;walk_at"";have Ah:=Ex.snoc g1 (O.lst [.int (p:Nat)]);have x2:=x1.trans Ah;have s2:=Ah.at s1;have e2:(g1++[O.lst [.int (p:Nat)]])[g1.length]?=some (.lst (([p]:List Nat).map λj=>D.int (j:Nat))):=d6;generalize g1++[O.lst [.int (p:Nat)]]=g2 at *;refine CU (λm Z g'=>∃e S F t z4 z5 z6,Z=[some (.ref a),some (.int (p:Nat)),some (.ref g.length),some (.ref e),z4,z5,z6]/\Ex g g'/\g'[g.length]?=some (.cL (ir cs p S))/\g'[e]?=some (.lst (F.map λj=>D.int (j:Nat)))/\g.length<e/\S.Nodup/\(∀j,j∈S↔Wk cs p t j)/\(∀j,j∈F↔kj cs p j t)/\m=2*(cs.length-S.length)+(if F=[] then 0 else 1)) _ ⟨g1.length,[p],[p],0,none,none,none,rfl,x2,s2,e2,by omega,by simp,λj=>?_,λj=>?_,rfl⟩ (λm Z g' q=>?_) (b0 T _)
 ·rw[bg];exact⟨λz=>z▸d0.1,λz=>by cases z;rfl⟩
 ·rw[bg];exact⟨λz=>z▸d0,λz=>by cases z.1;rfl⟩
 obtain⟨e,S,F,t,z4,z5,z6,rfl,x3,s3,e3,Vz,nd,hS,hF,rfl⟩:=q;walk_at"";refine LD (a8 e3) ?_;cases ux:F with
 |nil =>
  refine jf rfl ?_;walk_at"";refine h _ _ S x3 (aj _) s3 nd λj=>⟨λhj=>((hS j).mp hj).conn,λhc=>?_⟩
  obtain⟨n,hn⟩:=hc.wk;have all:∀n,∀j,Wk cs p n j->Wk cs p t j:=λn=>by
   induction n with
   |zero=>exact λj w=>w.mono (bY _)
   |succ n ih =>
    intro j w;cases w with
    |succ w a =>
     have w:=ih _ w;cases t with
     |zero =>
      have:p∈F:=(hF p).mpr d0;rw[ux] at this;cases this
     |succ t =>
      refine Classical.byContradiction λz=>?_;have:¬Wk cs p t _:=λw'=>z (.succ w' a);have:_∈F:=(hF _).mpr ⟨w,λm hm=>cH λhl=>this (hm.mono (by omega))⟩;rw[ux] at this;cases this
  exact(hS j).mpr (all n j hn)
 |cons f0 fr =>
  refine lM rfl ?_;rw[<- ux];have UZ:F≠[]:=by rw[ux];simp
  walk_at"";have vE:=Ex.snoc g' (O.lst []);have x4:=x3.trans vE;have s4:=vE.at s3;have e4:=vE.at e3;have f4:(g'++[O.lst []])[g'.length]?=some (.lst (([]:List Nat).map λj=>D.int (j:Nat))):=d6;have l3:=x3.len;have el:=p0 e3;generalize g'++[O.lst []]=g4 at *;generalize g'.length=f at *;refine E3 (b0 T _) (pR (b0 T _) ?_);walk_at"";refine⟨e,_,rfl,a8 e4,F.map λj=>D.int (j:Nat),λi Z g5=>∃F2 z5 z6,Z=[some (.ref a),some (.int (p:Nat)),some (.ref g.length),some (.ref e),some (.ref f),z5,z6]/\Ex g g5/\g5[g.length]?=some (.cL (ir cs p (S++F2)))/\g5[e]?=some (.lst (F.map λj=>D.int (j:Nat)))/\g5[f]?=some (.lst (F2.map λj=>D.int (j:Nat)))/\(S++F2).Nodup/\(∀j∈F2,kj cs p j (t+1))/\∀x∈F.take i,∀y,t8 cs x y=true->y∈S++F2,λi Z g5 q=>S0 (a8 (by obtain⟨_,_,_,_,_,_,q,_⟩:=q;exact q)),⟨[],z5,z6,rfl,x4,by rw[cO];exact s4,e4,f4,by rw[cO];exact nd,λj hj=>(by cases hj),λx hx=>by simp at hx⟩,λi x Z g5 hx q=>?_,λZ g5 q=>?_⟩
  ·obtain⟨F2,z5,z6,rfl,x5,s5,e5,f5,ub,c5,done⟩:=q;rw[aC,ae] at hx;obtain⟨x,hx,rfl⟩:=hx;have ug:=(hF x).mp (aL hx);have Be:=(hS x).mpr ug.1;have GG:x<cs.length:=ug.1.conn.lt.2;refine s9 ?_
   try show wpS _ _ _ _ _ _
   walk_at"";refine E3 (b0 T _) (pR (b0 T _) ?_);walk_at"";refine Di (k:=k) iY kf lx (x5.at ha) hz GG λg6 nl e6 GQ n6=>?_;have lf:=p0 f5;have Vy:=p0 e5;refine⟨nl,_,rfl,a8 n6,(K7 cs x).map λj=>D.int (j:Nat),λj Z g7=>∃F3 z6,Z=[some (.ref a),some (.int (p:Nat)),some (.ref g.length),some (.ref e),some (.ref f),some (.int (x:Nat)),z6]/\Ex g g7/\g7[g.length]?=some (.cL (ir cs p (S++F3)))/\g7[e]?=some (.lst (F.map λj=>D.int (j:Nat)))/\g7[f]?=some (.lst (F3.map λj=>D.int (j:Nat)))/\g7[nl]?=some (.lst ((K7 cs x).map λj=>D.int (j:Nat)))/\(S++F3).Nodup/\(∀j∈F3,kj cs p j (t+1))/\(∀y∈S++F2,y∈S++F3)/\∀y∈(K7 cs x).take j,y∈S++F3,λj Z g7 q=>S0 (a8 (by obtain⟨_,_,_,_,_,_,_,q,_⟩:=q;exact q)),⟨F2,z6,rfl,x5.trans e6,e6.at s5,e6.at e5,e6.at f5,n6,ub,c5,λy hy=>hy,λy hy=>by simp at hy⟩,λj y Z g7 hy q=>?_,λZ g7 q=>?_⟩
   ·obtain⟨F3,z6,rfl,x7,s7,e7,f7,n7,rj,c7,sub,sP⟩:=q;rw[aC,ae] at hy;obtain⟨y,hy,rfl⟩:=hy;have GF:=P5.mp (aL hy);have tk:(K7 cs x).take (j+1)=(K7 cs x).take j++[y]:=by rw[fz,hy];rfl
    refine s9 ?_
    try show wpS _ _ _ _ _ _
    walk_at"";refine zF ⟨(p6 (ir cs p (S++F3)) (kI y)).isSome,.inl ⟨_,_,kI y,rfl,s7,rfl,rfl⟩,?_⟩;walk_at"";by_cases mE:y∈S++F3
    ·refine jf (by rw[T5.mpr (by rw[O2];exact uQ.mpr mE)];rfl) ?_;walk_at"";refine⟨F3,_,rfl,x7,s7,e7,f7,n7,rj,c7,sub,λw hw=>?_⟩;rw[tk] at hw;rcases aS.mp hw with hw|hw
     ·exact sP w hw
     ·cases bg.mp hw;exact mE
    ·have ni:kI y∉(ir cs p (S++F3)).map (·.1):=by rw[O2];exact λz=>mE (uQ.mp z)
     have dy:kj cs p y (t+1):=⟨.succ ug.1 (E0 GF.2),λm hm=>cH λhl=>mE (bh _ ((hS y).mpr (hm.mono (by omega))))⟩
     refine lM (by cases z:(p6 (ir cs p (S++F3)) (kI y)).isSome with|true=>exact absurd (T5.mp z) ni|false=>rfl) ?_;walk_at"";refine zv s7 rfl (Z6 (bh F3 Be)) ?_;walk_at"";have l9:(S++F3).length<=cs.length:=lt (t:=t+1) rj λj hj=>(aS.mp hj).elim (λz=>((hS j).mp z).up) λz=>(c7 j z).1;rw[aK] at l9;refine EJ s7 rfl (by simp[ir];omega) ?_;rw[OR ni,show(ir cs p (S++F3))++[(kI y,D.int ((dst cs p x:Nat)+1))]=ir cs p (S++(F3++[y])) by simp[ir,ug.eq,dy.eq]];have nf:g.length≠f:=by omega
     have ne:g.length≠e:=by omega
     have f8:=m7 f7 nf (o':=O.cL (ir cs p (S++(F3++[y]))));walk_at""
     try refine⟨R8 f8,?_⟩
     walk_at"";refine P7 f8 (by simp;omega) ?_;walk_at"";have dI:f≠e:=by omega
     refine⟨F3++[y],_,rfl,⟨by simp;exact x7.len,λi hi=>by rw[aA (by omega),aA (by omega)];exact x7.old i hi⟩,m7 (get_set s7) (by omega),m7 (m7 e7 ne) dI,by rw[cN];exact get_set f8,m7 (m7 n7 (by omega)) (by omega),?_,λw hw=>?_,λw hw=>?_,λw hw=>?_⟩
     ·rw[<- bN,dz];exact⟨rj,by simp,λw hw w' GH=>by cases bg.mp GH;exact λz=>mE (z▸hw)⟩
     ·rcases aS.mp hw with hw|hw
      ·exact c7 w hw
      ·cases bg.mp hw;exact dy
     ·rw[<- bN];exact bh _ (sub w hw)
     ·rw[tk] at hw;rw[<- bN];rcases aS.mp hw with hw|hw
      ·exact bh _ (sP w hw)
      ·exact aZ _ hw
   ·obtain⟨F3,z6,rfl,x7,s7,e7,f7,n7,rj,c7,sub,sP⟩:=q;rw[ak,eV] at sP
    try show wpS _ _ _ _ _ _
    walk_at"";refine⟨F3,_,_,rfl,x7,s7,e7,f7,rj,c7,λw hw y hy=>?_⟩;rw[fz,hx] at hw;rcases aS.mp hw with hw|hw
    ·exact sub y (done w hw y hy)
    ·have:w=x:=by simpa using hw
     subst this;by_cases Bb:y=w
     ·subst Bb;exact bh _ Be
     ·exact sP y (P5.mpr ⟨Bb,E0 hy⟩)
  ·obtain⟨F2,z5,z6,rfl,x5,s5,e5,f5,ub,c5,done⟩:=q;rw[ak,eV] at done
   try show wpS _ _ _ _ _ _
   walk_at"";have wS:∀j,j∈S++F2↔Wk cs p (t+1) j:=λj=>by
    constructor
    ·intro hj;exact(aS.mp hj).elim (λz=>((hS j).mp z).up) λz=>(c5 j z).1
    ·intro w;by_cases w0:Wk cs p t j
     ·exact bh _ ((hS j).mpr w0)
     ·cases w with
      |succ w a =>
       refine done _ ((hF _).mpr ⟨w,λm hm=>cH λhl=>w0 (Wk.mono (.succ hm a) (by omega))⟩) j a
   have lS:=lt ub λj hj=>(wS j).mp hj;rw[aK] at lS;refine⟨_,?_,f,S++F2,F2,t+1,_,_,_,rfl,x5,s5,f5,by omega,ub,wS,λj=>⟨c5 j,λz=>?_⟩,rfl⟩
   ·rw[aH UZ,aK];cases HA:F2 with
    |nil=>simp
    |cons u v =>
     rw[HA] at lS;simp at lS ⊢;omega
   ·refine(aS.mp ((wS j).mpr z.1)).resolve_left λw=>?_;have:=z.2 _ ((hS j).mp w);omega
theorem QO(iY:pF T)(kf:T 76=some F7)(lx:T 77=some A5)(ny:T 78=some K4)(ha:g[a]?=some (.lst (cs.map b9.d)))(hz:cs.length<=9)(hp:p<cs.length)(h:∀g' sd S,Ex g g'->g.length<=sd->UY g' sd S->S.Nodup->(∀j,j∈S↔j8 cs p j)->Q (.ref sd) g'):d7 T (k+5) 78 [.ref a,.int (p:Nat)] g Q E :=
 DK iY kf lx ny ha hz hp λg' sd S e l s nd hS=>h g' sd S e l ⟨⟨_,s,O2,λkv hk=>by obtain⟨j,_,rfl⟩:=aM.mp hk;exact⟨_,rfl⟩⟩⟩ nd hS
end
def uS:bo:=⟨2,2,(.seq (.ret (.iU (cB (.cmp .Eq) (cU aU (aW 0)) (cU bX (aW 0))) (cB (.cmp .Eq) (cU aU (aW 2)) (cU bX (aW 2))))) .pass)⟩
def cb(p:Prop):Bool:=@decide p (Classical.propDecidable p)
theorem S6{p:Prop}:cb p=true↔p:=by
 unfold cb;exact @decide_eq_true_iff p (Classical.propDecidable p)
theorem Kj{p:Prop}{b:Bool}(h:b=true↔p):cb p=b:=by
 cases b with
 |true=>exact S6.mpr (h.mp rfl)
 |false =>
  cases z:cb p with
  |false=>rfl
  |true=>exact absurd (h.mpr (S6.mp z)) (by decide)
def B8(cs:List b9)(p:Nat):List Nat:=(List.range cs.length).filter λj=>cb (j8 cs p j)
def Top(cs:List b9)(p:Nat):Prop:=∀j,j8 cs p j->p<=j
def K5(cs:List b9)(n:Nat):List (List Nat):=((List.range n).filter λp=>cb (Top cs p)).map (B8 cs)
noncomputable abbrev n5(cs:List b9):List (List Nat):=K5 cs cs.length
noncomputable abbrev k9(l:List Nat):List D:=l.map λj=>.int (j:Nat)
theorem A4:j∈B8 cs p↔j8 cs p j:=by
 unfold B8;rw[bQ,S6,cJ];exact⟨λh=>h.2,λh=>⟨h.lt.2,h⟩⟩
theorem Y7(cs:List b9)(p:Nat):(B8 cs p).Pairwise (· < ·):=de.sublist Ad
theorem Ro{S:List Nat}(nd:S.Nodup)(h:∀j,j∈S↔j8 cs p j):A1 (S.map λj:Nat=>(j:Int))=(B8 cs p).map λj:Nat=>(j:Int):=by
 have h1:((B8 cs p).map λj:Nat=>(j:Int)).Pairwise (· < ·):=by
  rw[eK];exact(Y7 cs p).imp λh=>by omega
 refine F5 ?_ (U0 _) (h1.imp λh=>Int.le_of_lt h);refine(M7 _).trans ?_;refine(lZ (ST.DH _ _ List.nodup_nil) (h1.imp λh=>Int.ne_of_lt h)).mpr λi=>?_;rw[ST.U6];simp only[List.not_mem_nil,false_or,List.mem_map];constructor
 ·rintro⟨j,hj,rfl⟩;exact⟨j,A4.mpr ((h j).mp hj),rfl⟩
 ·rintro⟨j,hj,rfl⟩;exact⟨j,(h j).mpr (A4.mp hj),rfl⟩
theorem Rn(hp:p<cs.length):∃m,(B8 cs p)[0]?=some m/\(m=p↔Top cs p):=by
 have h1:=A4.mpr (.refl hp:j8 cs p p);have h2:=Y7 cs p;have h3:=λj=>(A4 (cs:=cs) (p:=p) (j:=j))
 cases z:B8 cs p with
 |nil=>rw[z] at h1;cases h1
 |cons m t =>
  rw[z] at h1 h2 h3;rw[fA] at h2;refine⟨m,rfl,λe j hj=>?_,λe=>?_⟩
  ·rcases aD.mp ((h3 j).mpr hj) with w|w
   ·omega
   ·have:=h2.1 j w;omega
  ·have:=e m ((h3 m).mp (by simp));rcases aD.mp h1 with w|w
   ·exact w.symm
   ·have:=h2.1 p w;omega
theorem Y4:K5 cs (n+1)=K5 cs n++if cb (Top cs n)=true then[B8 cs n] else[]:=by
 unfold K5;rw[kC,et,cN]
 congr 1
 cases z:cb (Top cs n)<;>simp only[List.filter_cons,z,List.filter_nil]<;>rfl
theorem Eh:(K5 cs n).length<=n:=by
 unfold K5;rw[ak];exact aG (dn _ _) (by simp)
structure ki(g:G)(lo r:Nat)(rs:List Nat)(hs:List (List Nat)):Prop where
 len:rs.length=hs.length
 at_:∀(i a:Nat) (h:List Nat),rs[i]?=some a->hs[i]?=some h->lo<=a/\a≠r/\g[a]?=some (.lst (k9 h))
theorem ki.nil:ki g lo r [] []:=⟨rfl,λi a h e=>by simp at e⟩
theorem ki.ex{rs:List Nat}{hs:List (List Nat)}(L:ki g lo r rs hs)(e:Ex g g'):ki g' lo r rs hs:=⟨L.len,λi a h h1 h2=>let ⟨x,y,z⟩:=L.at_ i a h h1 h2;⟨x,y,e.at z⟩⟩
theorem ki.set{g:G}{lo r:Nat}{rs:List Nat}{hs:List (List Nat)}(L:ki g lo r rs hs)(o:O):ki (g.set r o) lo r rs hs:=⟨L.len,λi a h h1 h2=>let ⟨x,y,z⟩:=L.at_ i a h h1 h2;⟨x,y,m7 z (bU y)⟩⟩
theorem ki.add{rs:List Nat}{hs:List (List Nat)}{h:List Nat}(L:ki g lo r rs hs)(h1:lo<=a)(h2:a≠r)(h3:g[a]?=some (.lst (k9 h))):ki g lo r (rs++[a]) (hs++[h]):=by
 refine⟨by simp[L.len],λi b h' e1 e2=>?_⟩;have hl:=L.len;rcases du i rs.length with w|w|w
 ·rw[aw w] at e1;rw[aw (by omega)] at e2;exact L.at_ i b h' e1 e2
 ·subst w;rw[aY (aj _)] at e1;rw[hl,aY (aj _)] at e2;simp at e1 e2;subst e1 e2;exact⟨h1,h2,h3⟩
 ·rw[cK (by simp;omega)] at e1;cases e1
section
variable{T:Nat->Option bo}{d:Nat}{S:List Nat}
theorem PU(h1:NF T)(h2:T 2=some B3)(nz:T 12=some u6)(oP:zW T)(iY:pF T)(kf:T 76=some F7)(lx:T 77=some A5)(ny:T 78=some K4)(xq:T 79=some uR)(ha:g[a]?=some (.lst (cs.map b9.d)))(hz:cs.length<=1000)(hm:9<cs.length->E ⟨"TooMany"⟩ g)(hb:cs.length<=9->cs.all B6=false->E ⟨"BadCoin"⟩ g)(h:∀(g':G) (r:Nat) (rs:List Nat),cs.length<=9->cs.all B6=true->Ex g g'->g.length<=r->g'[r]?=some (.lst (rs.map .ref))->ki g' g.length r rs (n5 cs)->Q (.ref r) g'):d7 T (k+7) 79 [.ref a] g Q E:=by
 refine call_of xq rfl ?_;dsimp[uR,j2,List.replicate];walk_at"";refine S5 (k:=k) h1 h2 nz oP ha hz hm hb λh9 hg=>?_;walk_at"";have x1:=Ex.snoc g (O.lst []);have e1:(g++[O.lst []])[g.length]?=some (.lst (([]:List Nat).map D.ref)):=d6;generalize g++[O.lst []]=g1 at *;refine E3 (b0 T _) (J1 (b0 T _) ?_);walk_at"";refine E9 (a8 (x1.at ha)) ?_;rw[ak];refine⟨_,rfl,by omega,by omega,j5 0 cs.length,λi Z g'=>∃rs z2 z3,Z=[some (.ref a),some (.ref g.length),z2,z3]/\Ex g g'/\g'[g.length]?=some (.lst (rs.map .ref))/\ki g' g.length g.length rs (K5 cs i),λi Z g p=>q9,⟨[],none,none,rfl,x1,e1,.nil⟩,λi x Z g' hx p=>?_,λZ g' p=>?_⟩
 ·obtain⟨rs,z2,z3,rfl,x2,e2,L⟩:=p;obtain⟨hi,rfl⟩:=A7 hx;have ez:(0:Int)+(i:Nat)=(i:Nat):=by omega
  rw[ez]
  try show wpS _ _ _ _ _ _
  walk_at"";refine QO (k:=k+1) iY kf lx ny (x2.at ha) h9 hi λg3 sd S x3 l3 s3 nd hS=>?_;obtain⟨kvs,k1,k2,k3⟩:=s3.ex;have VG:S.length<=cs.length:=K3 nd λj hj=>((hS j).mp hj).lt.2;refine UQ (ns:=S.map λj:Nat=>(j:Int)) k1 (by rw[k2,dF];rfl) (by simp;omega) ?_;rw[Ro nd hS,dF];have x4:=Ex.snoc g3 (O.lst (k9 (B8 cs i)));have e4:(g3++[O.lst (k9 (B8 cs i))])[g3.length]?=some (.lst (k9 (B8 cs i))):=d6;have l4:=x3.len;have l2:=x2.len;have Vw:=p0 e2;have e5:=x4.at (x3.at e2);have L5:=(L.ex x3).ex x4;have x5:=(x2.trans x3).trans x4;show wpS _ _ _ _ (g3++[O.lst (k9 (B8 cs i))]) _;generalize g3++[O.lst (k9 (B8 cs i))]=g5 at *;walk_at"";obtain⟨m,Bm,GV⟩:=Rn (p:=i) hi;refine k7 (d:=.int (m:Nat)) (a8 e4) (y9 (j:=0) (by rw[aC,Bm];rfl)) ?_;walk_at"";have ec:cb (Top cs i)=decide ((m:Int)=(i:Int)):=Kj (by rw[bp,<- GV];omega);by_cases Bl:m=i
  ·refine lM (by rw[Bl];simp) ?_;walk_at""
   try refine⟨R8 e5,?_⟩
   walk_at"";have GN:=L.len;have GL:=Eh (cs:=cs) (n:=i);refine P7 e5 (by rw[ak];omega) ?_;walk_at"";refine⟨rs++[g3.length],_,_,rfl,⟨by rw[gN];exact x5.len,λj hj=>by rw[aA (by omega)];exact x5.old j hj⟩,by rw[cN];exact get_set e5,?_⟩;rw[Y4,ec,aN (by rw[Bl];simp)];exact(L5.set _).add (by omega) (by omega) (m7 e4 (by omega))
  ·refine jf (aJ (by omega)) ?_;walk_at"";refine⟨rs,_,_,rfl,x5,e5,?_⟩;rw[Y4,ec,aH (by rw[bp];omega),cO];exact L5
 ·obtain⟨rs,z2,z3,rfl,x2,e2,L⟩:=p;walk_at"";rw[show(j5 0 cs.length).length=cs.length by simp[j5]] at L;exact h _ _ rs h9 hg x2 (aj _) e2 L
end
section
variable{T:Nat->Option bo}{d:Nat}
theorem QL(xp:T 80=some uS)(h:Q (.bl (lk c c')) g):d7 T (k+1) 80 [c.d,c'.d] g Q E:=by
 refine call_of xp rfl ?_;dsimp[uS,j2,List.replicate];walk_at"";refine M3 (l:=[.int c.lo,.tup (c.lm.map .int),.int c.up,.tup (c.um.map .int),.int c.yr]) rfl ?_;walk_at"";refine M3 (l:=[.int c'.lo,.tup (c'.lm.map .int),.int c'.up,.tup (c'.um.map .int),.int c'.yr]) rfl ?_;walk_at"";by_cases e:c.lo=c'.lo
 ·refine lM (aX e) ?_;walk_at"";unfold lk at h;rw[aX e] at h;exact h
 ·refine jf (aJ e) ?_;walk_at"";refine M3 (l:=[.int c.lo,.tup (c.lm.map .int),.int c.up,.tup (c.um.map .int),.int c.yr]) rfl ?_;walk_at"";refine M3 (l:=[.int c'.lo,.tup (c'.lm.map .int),.int c'.up,.tup (c'.um.map .int),.int c'.yr]) rfl ?_;walk_at"";unfold lk at h;rw[aJ e,nQ] at h;exact h
theorem Z7:j5 0 n=k9 (List.range n):=by
 unfold j5;simp only[k9,Int.zero_add]
end
def yp:bo:=⟨3,6,(.seq (.expr (.call 18 (gf aU))) (.seq (.expr (.call 83 (eE aU bX))) (.seq (.expr (.call 83 (eE aU cF))) (.seq (.set 3 (.call 78 (eE aU cF))) (.seq (.ifs (fh .NotIn bX cI) (.seq (.ret (.lit .bV)) .pass) .pass) (.seq (.set 4 (eO .lst bX)) (.seq (.jm (fh .NotEq (cU dA (eO (.un .USub) (aW 1))) cF) (.seq (.set 5 (cB (.bin .Sub) (cU cI (cU dA (eO (.un .USub) (aW 1)))) (aW 1))) (.seq (.expr (.eG .append dA (gf (eO .min (.comp [5,3] 4 (.one 3) (.iu (.call 77 (eE aU (cU dA (eO (.un .USub) (aW 1)))))) (fh .Eq (cU bX cI) aU) cI))))) .pass))) (.seq (.ret dA) .pass))))))))⟩
def zK:bo:=⟨1,1,(.seq (.ret (.dX (cB .isin aU (.lit (.ty "list"))) (eO .all (.comp [] 2 (.one 1) (.iu aU) .no (.call 6 (gf bX)))))) .pass)⟩
def K9:bo:=⟨2,6,(.seq (.ifs (fh .Gt (.call 4 (eE aU (aW 3))) (aW 0)) (.seq (.ret bX) .pass) .pass) (.seq (.set 2 (.prim .lst .nil)) (.seq (.eL (.one 3) (.dQ (eO .len bX)) (.seq (.set 4 (cU bX cI)) (.seq (.set 5 (cB (.bin .Add) (aW 1) (cB (.bin .Mod) (cB (.bin .Add) (cU dA (aW 0)) (cB (.bin .Mult) (cB (.bin .FloorDiv) cI (aW 2)) (aW 7))) (aW 99)))) (.seq (.expr (.eG .append cF (gf (.prim .tup (qI fJ (cU dA (aW 1)) (cB (.bin .Add) (aW 1) (cB (.bin .Mod) (cB (.bin .Add) (cU dA (aW 2)) (cB (.bin .Mult) (cB (.bin .FloorDiv) cI (aW 3)) (aW 31))) (aW 99))) (cU dA (aW 3)) (cU dA (aW 4))))))) .pass)))) (.seq (.ret cF) .pass))))⟩
def yR:bo:=⟨4,4,(.seq (.ifs (.iU (.eW (.gJ (.call 86 (gf aU)))) (.iU (fh .Eq (eO .len aU) (aW 0)) (.iU (fh .NotEq (cU aU (aW 0)) cF) (fh .NotEq (cU aU (eO (.un .USub) (aW 1))) cI)))) (.seq (.ret (.lit (.bl false))) .pass) .pass) (.seq (.ifs (fh .Lt (eO .Y2 aU) (eO .len aU)) (.seq (.ret (.lit (.bl false))) .pass) .pass) (.seq (.ret (eO .all (.comp [1,0] 4 (.one 3) (.dQ (cB (.bin .Sub) (eO .len aU) (aW 1))) .no (.call 80 (eE (cU aU (cU bX cI)) (cU aU (cU bX (cB (.bin .Add) cI (aW 1))))))))) .pass)))⟩
def zw:bo:=⟨1,12,(.seq (.set 1 (.call 3 (gf aU))) (.seq (.set 2 (.call 82 (eE bX (cU (.call 26 (eE bX (aW 9))) (aW 0))))) (.seq (.set 3 (eO .len cF)) (.seq (.set 4 (.call 79 (gf cF))) (.seq (.ifs (fh .NotEq (eO .hX (cB .sum dA (.prim .lst .nil))) (eO .iH cI)) (.seq (.ret (.lit (.bl false))) .pass) .pass) (.seq (.set 5 (.comp [4] 3 (.one 2) (.dQ cI) .no (cU (.comp [2,0] 4 (.one 3) (.dQ (eO .len aU)) (fh .In aU (cU bX cI)) cI) (aW 0)))) (.seq (.set 8 (.comp [2,3] 4 (.one 3) (.dQ cI) .no (.comp [0,3] 4 (.one 3) (.dQ bX) .no (.call 84 (kH aU bX cI))))) (.seq (.eL (.one 6) (.dQ cI) (.seq (.eL (.one 7) (.dQ cI) (.seq (.set 9 (cU (cU jr fG) iC)) (.seq (.ifs (fh .NotEq (cB (.cmp .Is) kT (.lit .bV)) (cB (.cmp .NotEq) (cU fJ fG) (cU fJ iC))) (.seq (.ret (.lit (.bl false))) .pass) .pass) (.seq (.ifs (fh .IsNot kT (.lit .bV)) (.seq (.ifs (.iU (.eW (.gJ (.call 87 (tR kT cF fG iC)))) (fh .NotEq (eO .len (cU (cU jr iC) fG)) (eO .len kT))) (.seq (.ret (.lit (.bl false))) .pass) .pass) (.seq (.eL (.one 10) (.dQ cI) (.seq (.set 11 (cU (cU jr fG) jP)) (.seq (.ifs (.dX (fh .IsNot ng (.lit .bV)) (fh .GtE (eO .len kT) (cB (.bin .Add) (eO .len ng) (eO .len (cU (cU jr jP) iC))))) (.seq (.ret (.lit (.bl false))) .pass) .pass) .pass))) .pass)) .pass) .pass)))) .pass)) (.seq (.ret (.lit (.bl true))) .pass)))))))))⟩
structure T9(T:Nat->Option bo):Prop where
 nf:NF T
 lf:LF T
 h2:T 2=some B3
 nz:T 12=some u6
 oP:zW T
 iY:pF T
 kf:T 76=some F7
 lx:T 77=some A5
 ny:T 78=some K4
 xq:T 79=some uR
 uy:T 83=some L0
 HE:T 84=some yp
 h3:T 3=some uN
 h6:T 6=some vk
 xp:T 80=some uS
 xo:T 82=some K9
 HD:T 86=some zK
 HC:T 87=some yR
 uz:T 11=some zw
structure zX(cs:List b9)(p o:Nat)(l:List Nat):Prop where
 len:l.length=dst cs p o+1
 fst:l[0]?=some o
 lst:∃r,l=r++[p]
 dec:l.Pairwise λa b=>dst cs p b<dst cs p a
 GA:∀(i:Nat) x y,l[i]?=some x->l[i+1]?=some y->t8 cs x y=true
 con:∀j∈l,j8 cs p j
theorem Um(h:j8 cs p x)(hx:x≠p):∃y,y≠x/\t8 cs y x=true/\j8 cs p y/\dst cs p x=dst cs p y+1:=by
 have hd:=h.pQ;generalize e:dst cs p x=n at *;obtain⟨w,mn⟩:=hd;cases w with
 |zero _=>exact absurd rfl hx
 |succ w a =>
  rename_i n y;have dy:kj cs p y n:=⟨w,λm hm=>by have:=mn _ (.succ hm a);omega⟩
  refine⟨y,λz=>?_,a,w.conn,by rw[dy.eq]⟩;subst z;rw[dy.eq] at e;omega
section
variable{T:Nat->Option bo}{d:Nat}{o:Nat}
theorem PJ(hT:T9 T)(ha:g[a]?=some (.lst (cs.map b9.d)))(hz:cs.length<=9)(hg:cs.all B6=true)(ho:o<cs.length)(hp:p<cs.length)(hn:¬j8 cs p o->∀g',Ex g g'->Q .bV g')(h:j8 cs p o->∀g' r l,Ex g g'->g'[r]?=some (.lst (k9 l))->zX cs p o l->Q (.ref r) g'):d7 T (k+7) 84 [.ref a,.int (o:Nat),.int (p:Nat)] g Q E:=by
 refine call_of hT.HE rfl ?_;dsimp[yp,j2,List.replicate];walk_at"";refine S5 (k:=k) hT.nf hT.h2 hT.nz hT.oP ha (by omega) (λz=>by omega) (λ_ z=>by rw[hg] at z;cases z) λ_ _=>?_;walk_at"";refine S4 (k:=k+3) hT.nf hT.uy ha (λ_ _=>?_) (λz=>absurd ⟨by omega,by rw[ak];omega⟩ z);walk_at"";refine S4 (k:=k+3) hT.nf hT.uy ha (λ_ _=>?_) (λz=>absurd ⟨by omega,by rw[ak];omega⟩ z);walk_at"";refine DK (k:=k+1) hT.iY hT.kf hT.lx hT.ny ha hz hp λg1 sd S e1 l1 s1 nd hS=>?_;walk_at"";refine zF ⟨(p6 (ir cs p S) (kI o)).isSome,.inl ⟨_,_,kI o,rfl,s1,rfl,rfl⟩,?_⟩;walk_at"";by_cases hc:j8 cs p o
 case neg =>
  refine lM (by cases z:(p6 (ir cs p S) (kI o)).isSome with|true=>exact absurd ((hS o).mp (uQ.mp (by rw[<- O2];exact T5.mp z))) hc|false=>rfl) ?_;walk_at"";exact hn hc _ e1
 refine jf (by rw[T5.mpr (by rw[O2];exact uQ.mpr ((hS o).mpr hc))];rfl) ?_;walk_at"";have BS:=Ex.snoc g1 (O.lst [.int (o:Nat)]);have s2:=BS.at s1;have e2:=e1.trans BS;have r2:(g1++[O.lst [.int (o:Nat)]])[g1.length]?=some (.lst (k9 [o])):=d6;have lr:g.length<=g1.length:=e1.len;have Vx:=p0 s1;generalize g1++[O.lst [.int (o:Nat)]]=g2 at *;generalize g1.length=rr at *;refine CU (λm Z g'=>∃l x z5,Z=[some (.ref a),some (.int (o:Nat)),some (.int (p:Nat)),some (.ref sd),some (.ref rr),z5]/\Ex g g'/\g'[sd]?=some (.cL (ir cs p S))/\g'[rr]?=some (.lst (k9 (l++[x])))/\j8 cs p x/\(l++[x]).length+dst cs p x=dst cs p o+1/\(l++[x])[0]?=some o/\(l++[x]).Pairwise (λa b=>dst cs p b<dst cs p a)/\(∀(i:Nat) u v,(l++[x])[i]?=some u->(l++[x])[i+1]?=some v->t8 cs u v=true)/\(∀j∈l++[x],j8 cs p j)/\m=dst cs p x) _ ⟨[],o,none,rfl,e2,s2,r2,hc,by simp[Nat.add_comm],rfl,by simp,λi u v _ e=>(by simp at e),λj hj=>(by cases bg.mp hj;exact hc),rfl⟩ (λm Z g' q=>?_) (b0 T _);obtain⟨l,x,z5,rfl,e3,s3,r3,cx,hl,h0,pw,lk,ac,rfl⟩:=q;have la:fO (k9 (l++[x])) (-1)=some (.int (x:Nat)):=by
  rw[show k9 (l++[x])=k9 l++[.int (x:Nat)] by simp[k9]];exact CV _ _
 have xn:=cx.lt.2;walk_at"";refine k7 (a8 r3) la ?_;walk_at"";by_cases hx:x=p
 ·subst hx;refine jf (by simp) ?_;walk_at"";have d0:dst cs x x=0:=kj.eq ⟨.zero xn,λ_ _=>bY _⟩;exact h hc g' rr (l++[x]) e3 r3 ⟨by omega,h0,⟨l,rfl⟩,pw,lk,ac⟩
 refine lM (by simp;omega) ?_;walk_at"";refine k7 (a8 r3) la ?_;walk_at"";refine zv s3 rfl (Z6 ((hS x).mpr cx)) ?_;walk_at"";obtain⟨y0,wt,wq,uf,ue⟩:=Um cx hx
 try refine⟨R8 r3,?_⟩
 walk_at"";refine Y8 (α:=Nat) (b0 T _) (pR (b0 T _) ?_);walk_at"";refine k7 (a8 r3) la ?_;walk_at"";refine Di (k:=k+2) hT.iY hT.kf hT.lx (e3.at ha) hz xn λg4 nl e4 GQ n4=>?_;refine⟨nl,_,rfl,a8 n4,K7 cs x,λj=>.int (j:Nat),λZ=>∃z2 z3,Z=[some (.int ((dst cs p x:Nat)-1)),some (.ref sd),z2,z3],λj=>decide (dst cs p j+1=dst cs p x),λj=>.int (j:Nat),λg' e=>S0 (a8 (e.at n4)),aG (dn _ _) (by simp;omega),⟨none,none,rfl⟩,λj Z g5 hj e5 sh=>?_,λg5 e5=>?_⟩
 ·obtain⟨z2,z3,rfl⟩:=sh;have cj:j8 cs p j:=cx.step (E0 (P5.mp hj).2);refine s9 ?_
  try show da _ _ _ _ _ _
  walk_at"";refine zv ((e4.trans e5).at s3) rfl (Z6 ((hS j).mpr cj)) ?_;walk_at"";refine⟨eU.mpr (by omega),e5,?_⟩;refine if2 (λ_=>?_) (λ_=>?_)
  ·walk_at"";exact⟨rfl,e5,_,_,rfl⟩
  ·exact⟨_,_,rfl⟩
 generalize hL:(K7 cs x).filter (λj=>decide (dst cs p j+1=dst cs p x))=L at *;have mL:∀j,j∈L↔(j≠x/\t8 cs j x=true)/\dst cs p j+1=dst cs p x:=λj=>by rw[<- hL,bQ,P5,bp]
 obtain⟨y,Bc,vA⟩:=least (P:=λn=>n∈L) ((mL y0).mpr ⟨⟨wt,wq⟩,ue.symm⟩);obtain⟨⟨yx,Af⟩,yd⟩:=(mL y).mp Bc;refine KO (ns:=L.map λj:Nat=>(j:Int)) (M:=(y:Nat)) (a8 (by rw[dF];exact d6)) (aM.mpr ⟨y,Bc,rfl⟩) (λz hz=>by obtain⟨j,hj,rfl⟩:=aM.mp hz;have:=vA j hj;omega) ?_;have e6:=e4.trans (e5.trans (Ex.snoc g5 (O.lst (L.map λj=>D.int (j:Nat)))));generalize g5++[_]=g6 at *;have r6:=e6.at r3;have ln:(l++[x]).length<=cs.length:=K3 (pw.imp λz e=>by rw[e] at z;exact aQ _ z) λj hj=>(ac j hj).lt.2;have cy:j8 cs p y:=cx.step (E0 Af);walk_at"";refine P7 r6 (by rw[k9,ak];omega) ?_;walk_at"";rw[show k9 (l++[x])++[D.int (y:Nat)]=k9 ((l++[x])++[y]) by simp[k9]];refine⟨dst cs p y,by omega,l++[x],y,_,rfl,⟨by rw[gN];exact(e3.trans e6).len,λi hi=>by rw[aA (by omega)];exact(e3.trans e6).old i hi⟩,m7 (e6.at s3) (by omega),get_set r6,cy,by rw[aK];simp at hl ⊢;omega,by rw[aw (by simp)];exact h0,?_,λi u v e1 e2=>?_,λj hj=>?_,rfl⟩
 ·rw[iz];refine⟨pw,by simp,λu hu v hv=>?_⟩;cases bg.mp hv;rcases aS.mp hu with z|z
  ·have:=(iz.mp pw).2.2 u z x (by simp);omega
  ·cases bg.mp z;omega
 ·by_cases hi:i+1<(l++[x]).length
  ·rw[aw (by omega)] at e1;rw[aw hi] at e2;exact lk i u v e1 e2
  ·have Br:i+1=(l++[x]).length:=by
    have:=(ao.mp e2).1;rw[aK] at this;simp at this hi ⊢;omega
   rw[Br,aY (aj _)] at e2;simp at e2;subst e2;have Hc:i=l.length:=by simp at Br;omega
   subst Hc;simp at e1;subst e1;exact E0 Af
 ·rcases aS.mp hj with z|z
  ·exact ac j z
  ·cases bg.mp z;exact cy
theorem RP(h4:T 4=some B2)(xo:T 82=some K9)(ha:g[a]?=some (.lst (cs.map b9.d)))(hB:∀c∈cs,iq c)(hz:cs.length<=9)(hd:d<a)(D0:j7 g d)(h:∀(fI:List b9) b g',(∀c∈fI,iq c)->fI.length<=9->g'[b]?=some (.lst (fI.map b9.d))->(b=a\/g.length<=b)->j7 g' d->Gr d g g'->Q (.ref b) g'):d7 T (k+2) 82 [.ref d,.ref a] g Q E:=by
 refine call_of xo rfl ?_;dsimp[K9,j2,List.replicate];walk_at"";have dl:=D0.lt;refine i6 h4 D0 (by decide) (by decide) λr g2 r0 r1 D2 G2=>?_;have e2:=G2.at (by omega) ha;walk_at"";refine if2 (λhr=>?_) (λhr=>?_)
 ·walk_at"";exact h cs a g2 hB hz e2 (.inl rfl) D2 G2
 ·walk_at"";have x1:=Ex.snoc g2 (O.lst []);have e3:(g2++[O.lst []])[g2.length]?=some (.lst (([]:List b9).map b9.d)):=d6;have l2:=G2.len;generalize g2++[O.lst []]=g3 at *;refine E3 (b0 T _) (J1 (b0 T _) ?_);walk_at""
  try refine E9 (a8 (x1.at e2)) ?_
  try rw[ak]
  have rl:(j5 0 cs.length).length=cs.length:=by simp[j5]
  refine⟨_,rfl,by omega,by omega,j5 0 cs.length,λi Z g'=>∃fI z3 z4 z5,Z=[some (.ref d),some (.ref a),some (.ref g2.length),z3,z4,z5]/\fI.length=i/\(∀c∈fI,iq c)/\g'[g2.length]?=some (.lst (fI.map b9.d))/\Ex g2 g',λi Z g p=>q9,⟨[],none,none,none,rfl,rfl,by simp,e3,x1⟩,λi x Z g4 hx p=>?_,λZ g4 p=>?_⟩
  ·obtain⟨fI,z3,z4,z5,rfl,hl,xl,e4,x4⟩:=p;obtain⟨hi,rfl⟩:=A7 hx;have ez:(0:Int)+(i:Nat)=(i:Nat):=by omega
   rw[ez];have si:=ai hi;generalize cs[i]=c at si;refine s9 ?_
   try show wpS _ _ _ _ _ _
   walk_at"";refine k7 (d:=c.d) (a8 (x4.at e2)) (y9 (by rw[aC,si];rfl)) ?_;walk_at"";have ct:∀{q:Int} {v:D} {gq:G} {Q:KD},fO [D.int c.lo,.tup (c.lm.map .int),.int c.up,.tup (c.um.map .int),.int c.yr] q=some v->Q v gq->cT .ix [c.d,.int q] gq Q:=λe h=>M3 e h;refine ct rfl ?_;walk_at"";refine J7 (by unfold V9;omega) ?_;walk_at""
   try refine L4 (by decide) ?_
   walk_at""
   try refine ct rfl ?_
   walk_at""
   try refine ct rfl ?_
   walk_at"";refine J7 (by unfold V9;omega) ?_;walk_at""
   try refine L4 (by decide) ?_
   walk_at""
   try refine ct rfl ?_
   walk_at""
   try refine ct rfl ?_
   walk_at""
   try refine⟨R8 e4,?_⟩
   try walk_at""
   refine P7 e4 (by rw[ak];omega) ?_;walk_at"";refine⟨fI++[⟨1+(c.lo+(i:Nat) / 2*7) % 99,c.lm,1+(c.up+(i:Nat) / 3*31) % 99,c.um,c.yr⟩],_,_,_,rfl,by simp[hl],λc' iN=>?_,by rw[get_set e4,cN];rfl,⟨by rw[gN];exact x4.len,λq hq=>by rw[aA (by omega)];exact x4.old q hq⟩⟩;rcases aS.mp iN with z|z
   ·exact xl c' z
   ·cases bg.mp z;obtain⟨_,a2,_,a4,a5,a6⟩:=(hB c (aL si)).inv;exact iq.mk' (by omega) (by omega) (by omega) (by omega) a5 a6 a2 a4 (hB c (aL si)).l8 (hB c (aL si)).u8
  ·obtain⟨fI,z3,z4,z5,rfl,hl,xl,e4,x4⟩:=p;walk_at"";rw[rl] at hl;exact h fI _ g4 xl (by omega) e4 (.inr l2) (x4.draw D2) (G2.trans (x4.gr d))
theorem Qh(hT:T9 T){l:List Nat}(hr:g[r]?=some (.lst (k9 l)))(hz:l.length<=1000)(h:∀g',Ex g g'->Q (.bl true) g'):d7 T (k+2) 86 [.ref r] g Q E:=by
 refine call_of hT.HD rfl ?_;dsimp[zK,j2,List.replicate];walk_at"";refine rJ (c:="list") (b:=true) (by decide) (show(match g[r]? with|some (.lst _)=>some ("list"=="list")|_=>none)=some true by rw[hr];rfl) ?_;walk_at"";refine Y8 (α:=Nat) (b0 T _) (Jc (b0 T _) (a8 hr) (λQ q=>w_var rfl q) _ ?_);refine⟨l,λj=>.int (j:Nat),λZ=>∃z0 z1,Z=[z0,z1],λ_=>true,λ_=>.bl true,λg' e=>S0 (a8 (e.at hr)),hz,⟨none,none,rfl⟩,λj Z g' _ e sh=>?_,λg' e=>?_⟩
 ·obtain⟨z0,z1,rfl⟩:=sh;refine s9 (Z5 ⟨rfl,e,jQ ?_⟩);walk_at"";exact MI hT.h6 ⟨rfl,e,_,_,rfl⟩
 ·rw[Y5];refine Er (v:=true) (a8 d6) ?_ (h _ (e.trans (Ex.snoc _ _)));rw[show l.map (λ_=>D.bl true)=(l.map λ_=>true).map D.bl by simp,Dv];simp
theorem Cv(hj:j<cs.length):∃c,cs[j]?=some c/\fO (cs.map b9.d) (j:Nat)=some c.d:=by
 have:=ai hj;exact⟨_,this,y9 (by rw[aC,this];rfl)⟩
theorem yu{l:List Nat}(h:l[i]?=some x):fO (k9 l) (i:Nat)=some (.int (x:Nat)):=y9 (by rw[k9,aC,h];rfl)
theorem Sq(hT:T9 T){l:List Nat}(ha:g[a]?=some (.lst (cs.map b9.d)))(hz:cs.length<=9)(hr:g[r]?=some (.lst (k9 l)))(C:zX cs p o l)(h:∀g',Ex g g'->Q (.bl true) g'):d7 T (k+3) 87 [.ref r,.ref a,.int (o:Nat),.int (p:Nat)] g Q E:=by
 have nd:l.Nodup:=C.dec.imp λz e=>by rw[e] at z;exact aQ _ z
 have ln:l.length<=cs.length:=K3 nd λj hj=>(C.con j hj).lt.2;have l1:=C.len;obtain⟨l0,Bp⟩:=C.lst;have lz:(k9 l).length=l.length:=by simp[k9]
 refine call_of hT.HC rfl ?_;dsimp[yR,j2,List.replicate];walk_at"";refine Qh (k:=k) hT hr (by omega) λg1 e1=>?_;have r1:=e1.at hr;walk_at"";rw[lz];refine jf (aJ (by omega)) ?_;walk_at"";refine k7 (a8 r1) (yu (i:=0) C.fst) ?_;walk_at"";refine jf (by simp) ?_;walk_at"";refine k7 (d:=.int (p:Nat)) (a8 r1) (by rw[Bp,show k9 (l0++[p])=k9 l0++[.int (p:Nat)] by simp[k9]];exact CV _ _) ?_;walk_at"";refine jf (by simp) ?_;walk_at"";refine MB (ns:=l.map λj:Nat=>(j:Int)) (a8 (by rw[dF];exact r1)) (by rw[ak];omega) ?_;walk_at"";rw[lz,P1 (ks:=[]) (by rw[List.nil_append];exact eK.mpr (nd.imp λz e=>z (by omega)))];refine jf (aJ (by simp)) ?_;walk_at"";refine Y8 (α:=Nat) (b0 T _) (J1 (b0 T _) ?_);walk_at"";rw[lz];refine⟨by omega,by omega,List.range (l.length-1),λj=>.int (j:Nat),λZ=>∃z2 z3,Z=[some (.ref a),some (.ref r),z2,z3],λ_=>true,λ_=>.bl true,λg' e=>?_,by simp;omega,⟨none,none,rfl⟩,λj Z g2 hj e2 sh=>?_,λg2 e2=>?_⟩
 ·rw[show(List.range (l.length-1)).map (λj=>D.int (j:Nat))=j5 0 ((l.length:Int)-1).toNat by rw[Z7,show((l.length:Int)-1).toNat=l.length-1 by omega]];exact q9
 ·obtain⟨z2,z3,rfl⟩:=sh;have hj:=cJ.mp hj;obtain⟨u,hu⟩:∃u,l[j]?=some u:=⟨_,ai (by omega)⟩
  obtain⟨v,hv⟩:∃v,l[j+1]?=some v:=⟨_,ai (by omega)⟩
  have rz:=C.GA j u v hu hv;obtain⟨cu,Hi,au⟩:=Cv (N6 rz).1;obtain⟨cv,Hh,av⟩:=Cv (N6 rz).2;have ek:lk cu cv=true:=by unfold t8 at rz;rw[Hi,Hh] at rz;exact rz
  refine s9 (Z5 ⟨rfl,e2,jQ ?_⟩);walk_at"";refine k7 (a8 (e2.at r1)) (yu hu) ?_;walk_at"";refine k7 (a8 ((e1.trans e2).at ha)) au ?_;walk_at"";rw[show((j:Nat):Int)+1=((j+1:Nat):Int) by omega];refine k7 (a8 (e2.at r1)) (yu hv) ?_;walk_at"";refine k7 (a8 ((e1.trans e2).at ha)) av ?_;walk_at"";refine QL (k:=k+1) hT.xp ?_;exact⟨by rw[ek],e2,_,_,rfl⟩
 ·rw[Y5];refine Er (v:=true) (a8 d6) ?_ ?_
  ·rw[show(List.range (l.length-1)).map (λ_=>D.bl true)=((List.range (l.length-1)).map λ_=>true).map D.bl by simp,Dv];simp
  ·exact h _ ((e1.trans e2).trans (Ex.snoc _ _))
end
theorem X9{j:Nat}:j∈(n5 cs).flatten↔j<cs.length:=by
 rw[Wh];constructor
 ·rintro⟨l,hl,hj⟩;obtain⟨p,_,rfl⟩:=aM.mp hl;exact(A4.mp hj).lt.2
 ·intro hj;obtain⟨t,ht,hm⟩:=least (P:=λn=>j8 cs j n) (.refl hj);refine⟨B8 cs t,aM.mpr ⟨t,bQ.mpr ⟨cJ.mpr ht.lt.2,S6.mpr λi hi=>hm i (ht.trans hi)⟩,rfl⟩,A4.mpr ht.symm⟩
theorem V3{l:List Nat}(hl:l∈n5 cs)(hi:i∈l):j∈l↔j8 cs i j:=by
 obtain⟨p,_,rfl⟩:=aM.mp hl;have:=A4.mp hi;rw[A4];exact⟨λz=>this.symm.trans z,λz=>this.trans z⟩
theorem Df(cs:List b9):(n5 cs).flatten.Nodup:=by
 refine List.pairwise_flatten.mpr ⟨λl hl=>?_,?_⟩
 ·obtain⟨p,_,rfl⟩:=aM.mp hl;exact(Y7 cs p).imp λz=>aF z
 ·refine eK.mpr ?_;refine List.Pairwise.imp_of_mem ?_ (tQ Ad (de (n:=cs.length)));intro p q hp hq VD x hx y hy e;subst e;have hp:=S6.mp (bQ.mp hp).2;have hq:=S6.mp (bQ.mp hq).2;have:=hq p ((A4.mp hy).trans (A4.mp hx).symm);omega
theorem Od(cs:List b9):I0 ((n5 cs).flatten.map λj:Nat=>(j:Int))=(List.range cs.length).map λj:Nat=>(j:Int):=by
 refine F5 ((U1 _).trans (List.Perm.map _ ?_)) (Ec _) (eK.mpr (de.imp λz=>by omega));exact(lZ (Df cs) List.nodup_range).mpr λj=>by rw[X9,cJ]
def hx(cs:List b9)(p:Nat):Nat:=(n5 cs).findIdx λh=>decide (p∈h)
theorem tw(hp:p<cs.length):∃l,(n5 cs)[hx cs p]?=some l/\p∈l:=by
 obtain⟨l,hl,hj⟩:=Wh.mp (X9.mpr hp);have lt:hx cs p<(n5 cs).length:=List.findIdx_lt_length_of_exists ⟨l,hl,aX hj⟩;exact⟨_,ai lt,bw (List.findIdx_getElem (w:=lt))⟩
theorem Mj(hp:p<cs.length)(hq:q<cs.length):hx cs p=hx cs q↔j8 cs q p:=by
 constructor
 ·intro e;obtain⟨l,h1,h2⟩:=tw hp;obtain⟨l',h3,h4⟩:=tw hq;rw[e,h3] at h1;obtain rfl:=aE h1;exact(V3 (aL h3) h4).mp h2
 ·intro c;obtain⟨l,h1,h2⟩:=tw hp;obtain⟨l',h3,h4⟩:=tw hq;have a1:=aL h1;have a2:=aL h3;have m1:q∈l:=(V3 a1 h2).mpr c.symm;have m2:p∈l':=(V3 a2 h4).mpr c;obtain⟨b1,b2⟩:=ao.mp h1;obtain⟨b3,b4⟩:=ao.mp h3;refine kB (cH λz=>?_) (cH λz=>?_)
  ·exact jh (gG z) (by rw[b4];exact m2)
  ·exact jh (gG z) (by rw[b2];exact m1)
theorem PQ{q:Nat->Bool}(hj:j<n)(hp:q j=true)(hl:∀i,i<j->q i=false):((List.range n).filter q)[0]?=some j:=by
 rw[<- List.head?_eq_getElem?,List.head?_filter,List.find?_range_eq_some];exact⟨hp,cJ.mpr hj,λi hi=>by rw[hl i hi];rfl⟩
theorem PL(h:j8 cs p q):dst cs p q=dst cs q p:=by
 have h1:=h.pQ;have h2:=h.symm.pQ;exact kB (h1.2 _ h2.1.symm) (h2.2 _ h1.1.symm)
theorem Uo(h1:j8 cs p t)(h2:j8 cs t q):dst cs p q<=dst cs p t+dst cs t q:=(h1.trans h2).pQ.2 _ (h1.pQ.1.trans h2.pQ.1)
def Cell(cs:List b9)(g:G)(o p:Nat)(c:D):Prop:=(c=.bV/\¬j8 cs p o)\/∃r l,c=.ref r/\g[r]?=some (.lst (k9 l))/\j8 cs p o/\zX cs p o l
def qh(cs:List b9)(g:G)(o:Nat)(d:D):Prop:=∃r cells,d=.ref r/\g[r]?=some (.lst cells)/\cells.length=cs.length/\∀(j:Nat) c,cells[j]?=some c->Cell cs g o j c
theorem Cell.ex{o:Nat}{c:D}(h:Cell cs g o p c)(e:Ex g g'):Cell cs g' o p c:=h.imp id λ⟨r,l,h1,h2,h3⟩=>⟨r,l,h1,e.at h2,h3⟩
theorem qh.ex{cs:List b9}{g g':G}{o:Nat}{d:D}(h:qh cs g o d)(e:Ex g g'):qh cs g' o d:=let ⟨r,cells,h1,h2,h3,h4⟩:=h;⟨r,cells,h1,e.at h2,h3,λj c hc=>(h4 j c hc).ex e⟩
structure Tab(cs:List b9)(g:G)(t:Nat):Prop where
 ex:∃rows,g[t]?=some (.lst rows)/\rows.length=cs.length/\∀(o:Nat) d,rows[o]?=some d->qh cs g o d
theorem Tab.at{cs:List b9}{g g':G}{t:Nat}(h:Tab cs g t)(e:Ex g g'):Tab cs g' t:=let ⟨rows,h1,h2,h3⟩:=h.ex;⟨⟨rows,e.at h1,h2,λo d hd=>(h3 o d hd).ex e⟩⟩
theorem Tab.get{o:Nat}(h:Tab cs g t)(ho:o<cs.length)(hp:p<cs.length):∃rows r cells c,g[t]?=some (.lst rows)/\fO rows (o:Nat)=some (.ref r)/\g[r]?=some (.lst cells)/\fO cells (p:Nat)=some c/\Cell cs g o p c:=by
 obtain⟨rows,h1,h2,h3⟩:=h.ex;have e1:=ai (l:=rows) (i:=o) (by omega);obtain⟨r,cells,z,h4,h5,h6⟩:=h3 o _ e1;have e2:=ai (l:=cells) (i:=p) (by omega);rw[z] at e1;exact⟨rows,r,cells,_,h1,y9 e1,h4,y9 e2,h6 p _ e2⟩
section
variable{T:Nat->Option bo}{d:Nat}{o:Nat}
theorem PN(ha:g[a]?=some (.lst (ns.map .int)))(hb:g[b]?=some (.lst (ns.map .int)))(h:kb true):sJ g (.ref a) (.ref b) kb:=by
 have AD:∀{a},g[a]?=some (.lst (ns.map .int))->rd g 6 (.ref a)=some (.list (ns.map PyData.int)):=λ{a} ha=>by
  simp only[rd];rw[a8 ha];dsimp only;rw[P6]
  rfl
 refine⟨_,.inr (.inr (.inr ⟨_,_,AD ha,AD hb,?_,?_,rfl⟩)),?_⟩
 ·simp only[PyData.canLay0];exact lay_ints ns
 ·simp only[PyData.canLay0];exact lay_ints ns
 ·simp only[PyData.eqv];rw[Eg,aX rfl];exact h
theorem SW(hT:T9 T){z:Option D}(ha:g[a]?=some (.lst (cs.map b9.d)))(hz:cs.length<=9)(hg:cs.all B6=true)(ho:o<cs.length)(h:∀g' r,Ex g g'->qh cs g' o (.ref r)->Q (.ref r) g') :
  aT (d7 T (k+7)) (.comp [0,3] 4 (.one 3) (.dQ (.var 1)) .no (.call 84 (.cons (.var 0) (.cons (.var 1) (.cons (.var 3) .nil))))) [some (.ref a),some (.int (cs.length:Nat)),z,some (.int (o:Nat))] g Q E:=by
 refine L6 (b0 T _) (J1 (b0 T _) ?_);walk_at"";refine⟨by omega,by omega,j5 0 cs.length,λi ys Z g'=>Ex g g'/\ys.length=i/\(∀(j:Nat) c,ys[j]?=some c->Cell cs g' o j c)/\∃z2 z3,Z=[some (.ref a),some (.int (o:Nat)),z2,z3],by rw[o8];omega,λi ys Z g' q=>⟨q9,jF q.2.1⟩,⟨Ex.refl _,rfl,λj c e=>by simp at e,none,none,rfl⟩,λi y ys Z g1 hy q=>?_,λys Z g1 q=>?_⟩
 ·obtain⟨e1,hl,hc,z2,z3,rfl⟩:=q;obtain⟨hi,rfl⟩:=A7 hy;rw[show(0:Int)+(i:Nat)=(i:Nat) by omega];refine s9 (Z5 (jQ ?_));walk_at"";have fin:∀g2 c,Ex g1 g2->Cell cs g2 o i c->Ex g g2/\(ys++[c]).length=i+1/\(∀(j:Nat) c',(ys++[c])[j]?=some c'->Cell cs g2 o j c'):=λg2 c e2 jL=>by
   refine⟨e1.trans e2,by simp[hl],λj c' e=>?_⟩;rcases du j ys.length with w|w|w
   ·rw[aw w] at e;exact(hc j c' e).ex e2
   ·rw[w,aY (aj _)] at e;simp at e;subst e;rw[w,hl];exact jL
   ·rw[cK (by simp;omega)] at e;cases e
  refine PJ (k:=k) hT (e1.at ha) hz hg ho hi (λnc g2 e2=>?_) (λc g2 r l e2 hr C=>?_)
  ·obtain⟨f1,f2,f3⟩:=fin g2 .bV e2 (.inl ⟨rfl,nc⟩);exact⟨f1,f2,f3,_,_,rfl⟩
  ·obtain⟨f1,f2,f3⟩:=fin g2 (.ref r) e2 (.inr ⟨r,l,rfl,hr,c,C⟩);exact⟨f1,f2,f3,_,_,rfl⟩
 ·obtain⟨e1,hl,hc,z2,z3,rfl⟩:=q;rw[o8] at hl;have e2:=Ex.snoc g1 (O.lst ys);exact h _ _ (e1.trans e2) ⟨_,ys,rfl,d6,hl,λj c e=>(hc j c e).ex e2⟩
theorem UB(hT:T9 T):d7 T (k+9) 11 [.ref 0] [.mH (ns.map .int)] (λd _=>d=.bl true) jw:=by
 have h4:=hT.lf.pull;refine call_of hT.uz rfl ?_;dsimp[zw,j2,List.replicate];walk_at"";refine UP (k:=k+7) hT.h3 (a:=0) (ns:=ns) rfl λd g D0 _ _=>?_;walk_at"";refine SE (k:=k+4) hT.lf (by decide) D0 λVY a0 v g1 Bp Hz Hv Hr _ _ D1 G1=>?_;have dl:=D0.lt;walk_at"";refine RP (k:=k+6) h4 hT.xo Hv Hz (by omega) (by omega) D1 λcs a g2 hG hz ha _ _ _=>?_;have hg:cs.all B6=true:=dH.mpr λc hc=>(hG c hc).good;walk_at"";rw[ak];refine PU (k:=k+1) hT.nf hT.h2 hT.nz hT.oP hT.iY hT.kf hT.lx hT.ny hT.xq ha (by omega) (λz=>by omega) (λ_ z=>by rw[hg] at z;cases z) λg3 hr rs _ _ e3 _ s3 L3=>?_;have a3:=e3.at ha;have hlen:(n5 cs).length<=9:=aG Eh hz;have fl:(n5 cs).flatten.length<=cs.length:=K3 (Df cs) λj hj=>X9.mp hj;have mf:((n5 cs).map k9).flatten=k9 (n5 cs).flatten:=by rw[k9,List.map_flatten]
 walk_at"";have e4:=Ex.snoc g3 (O.lst []);refine Tz (lss:=(n5 cs).map k9) (a8 (e4.at s3)) d6 (by rw[ak];exact L3.len) (λj r l h1 h2=>?_) (by rw[mf,k9,ak];omega) λr5 g5 e5 s5=>?_
 ·rw[aC,ae] at h2;obtain⟨l,h2,rfl⟩:=h2;exact e4.at (L3.at_ j r l h1 h2).2.2
 have e5:Ex (g3++[O.lst []]) g5:=by
  obtain⟨l,rfl⟩:=e5;exact⟨by simp,λi hi=>aw hi⟩
 rw[mf] at s5;walk_at"";refine UR (ns:=(n5 cs).flatten.map λj:Nat=>(j:Int)) (a8 (by rw[dF];exact s5)) (by rw[ak];omega) ?_;rw[Od];walk_at"";have e6:=Ex.snoc g5 (O.lst (((List.range cs.length).map λj:Nat=>(j:Int)).map .int));have s6:=d6 (g:=g5) (o:=O.lst (((List.range cs.length).map λj:Nat=>(j:Int)).map .int));have x6:=e4.trans (e5.trans e6);generalize g5++[_]=g6 at *;refine AS (by omega) (by omega) ?_;rw[show j5 0 ((cs.length:Nat):Int).toNat=((List.range cs.length).map λj:Nat=>(j:Int)).map .int by rw[show((cs.length:Nat):Int).toNat=cs.length by omega,Z7,k9,dF];rfl];have e7:=Ex.snoc g6 (O.lst (((List.range cs.length).map λj:Nat=>(j:Int)).map .int));refine zq (PN (e7.at s6) d6 ?_);walk_at"";have x7:=x6.trans e7;generalize g6++[_]=g7 at *;have a7:=x7.at a3;have s7:=x7.at s3;have L7:=L3.ex x7;refine Y8 (α:=Nat) (b0 T _) (J1 (b0 T _) ?_);walk_at"";have hn:((cs.length:Nat):Int).toNat=cs.length:=by omega
 refine⟨by omega,by omega,List.range cs.length,λj=>.int (j:Nat),λZ=>∃z1 z2,Z=[some (.ref hr),z1,z2],λ_=>true,λj=>.int (hx cs j:Nat),λg' e=>by rw[hn,Z7];exact q9,by simp;omega,⟨none,none,rfl⟩,λj Z g8 hj e8 sh=>?_,λg8 e8=>?_⟩
 ·obtain⟨z1,z2,rfl⟩:=sh;have hj:=cJ.mp hj;obtain⟨lh,pW,Bt⟩:=tw (cs:=cs) hj;refine s9 (Z5 ⟨rfl,e8,jQ ?_⟩);walk_at"";refine Y8 (α:=Nat) (b0 T _) (J1 (b0 T _) ?_);walk_at"";refine E9 (a8 (e8.at s7)) ?_;rw[ak,L7.len];refine⟨_,rfl,by omega,by omega,List.range (n5 cs).length,λj=>.int (j:Nat),λZ=>∃z2 z3,Z=[some (.int (j:Nat)),some (.ref hr),z2,z3],λi=>decide (j∈(n5 cs).getD i []),λi=>.int (i:Nat),λg' e=>by rw[show(((n5 cs).length:Nat):Int).toNat=(n5 cs).length by omega,Z7];exact q9,by simp;omega,⟨none,none,rfl⟩,λi Z g9 hi e9 sh=>?_,λg9 e9=>?_⟩
  ·obtain⟨z2,z3,rfl⟩:=sh;have hi:=cJ.mp hi;obtain⟨ri,Bi⟩:∃r,rs[i]?=some r:=⟨_,ai (by rw[L7.len];exact hi)⟩
   have Bo:=ai hi;have x9:=e8.trans e9;refine s9 ?_
   try show da _ _ _ _ _ _
   walk_at"";refine k7 (d:=.ref ri) (a8 (x9.at s7)) (y9 (by rw[aC,Bi];rfl)) ?_;walk_at"";refine Cm (PY (ms:=((n5 cs)[i]).map λj:Nat=>(j:Int)) (by rw[dF];exact a8 ((L7.ex x9).at_ i ri _ Bi Bo).2.2) ?_);walk_at"";refine⟨eU.mpr ?_,e9,?_⟩
   ·rw[List.getD,Bo];exact⟨λz=>by obtain⟨q,hq,e⟩:=aM.mp z;rw[show j=q by omega];exact hq,λz=>aM.mpr ⟨j,z,rfl⟩⟩
   refine if2 (λ_=>?_) (λ_=>?_)
   ·walk_at"";exact⟨rfl,e9,_,_,rfl⟩
   ·exact⟨_,_,rfl⟩
  ·walk_at"";have lt:hx cs j<(n5 cs).length:=(ao.mp pW).1;have fa:=PQ (q:=λi=>decide (j∈(n5 cs).getD i [])) lt (aX (by rw[List.getD,pW];exact Bt)) λi hi=>aJ λz=>by
    rw[List.getD,ai (bW hi lt)] at z;exact jh (gG hi) z
   refine k7 (d:=.int (hx cs j:Nat)) (a8 d6) (y9 (j:=0) (by rw[aC,fa];rfl)) ?_;exact⟨rfl,e8.trans (e9.trans (Ex.snoc _ _)),_,_,rfl⟩
 rw[Y5];have x8:=e8.trans (Ex.snoc g8 (O.lst ((List.range cs.length).map λj=>D.int (hx cs j:Nat))));have s8:=d6 (g:=g8) (o:=O.lst ((List.range cs.length).map λj=>D.int (hx cs j:Nat)));generalize g8++[_]=g9 at *;generalize g8.length=wF at *;have a9:=x8.at a7;walk_at"";refine L6 (b0 T _) (J1 (b0 T _) ?_);walk_at"";refine⟨by omega,by omega,j5 0 cs.length,λi ys Z g'=>Ex g9 g'/\ys.length=i/\(∀(j:Nat) c,ys[j]?=some c->qh cs g' j c)/\∃z2 z3,Z=[some (.ref a),some (.int (cs.length:Nat)),z2,z3],by rw[o8];omega,λi ys Z g' q=>⟨by rw[hn];exact q9,jF q.2.1⟩,⟨Ex.refl _,rfl,λj c e=>by simp at e,none,none,rfl⟩,λi y ys Z nE hy q=>?_,λys Z nE q=>?_⟩
 ·obtain⟨oX,hl,hc,z2,z3,rfl⟩:=q;obtain⟨hi,rfl⟩:=A7 hy;rw[show(0:Int)+(i:Nat)=(i:Nat) by omega];refine s9 (Z5 (jQ ?_));refine SW (k:=k+1) hT (oX.at a9) hz hg hi λuC r oW hR=>?_;refine⟨oX.trans oW,by simp[hl],λj c' e=>?_,_,_,rfl⟩;rcases du j ys.length with w|w|w
  ·rw[aw w] at e;exact(hc j c' e).ex oW
  ·rw[w,aY (aj _)] at e;simp at e;subst e;rw[w,hl];exact hR
  ·rw[cK (by simp;omega)] at e;cases e
 obtain⟨oX,hl,hc,z2,z3,rfl⟩:=q;rw[o8] at hl;have oW:=Ex.snoc nE (O.lst ys);have vq:Tab cs (nE++[O.lst ys]) nE.length:=⟨⟨ys,d6,hl,λo d hd=>(hc o d hd).ex oW⟩⟩
 have nU:=oX.trans oW;have UL:=nU.at a9;have uz:=nU.at s8;generalize nE++[_]=uC at *;generalize nE.length=tr at *;have Bz:∀{j},j<cs.length->fO ((List.range cs.length).map λj=>D.int (hx cs j:Nat)) (j:Nat)=some (.int (hx cs j:Nat)):=λhj=>y9 (by rw[aC,iR hj];rfl);walk_at"";refine E3 (b0 T _) (J1 (b0 T _) ?_);walk_at"";refine⟨by omega,by omega,j5 0 cs.length,λi Z g'=>Ex uC g'/\∃z6 z7 z9 kG jH,Z=[some (.ref 0),some (.ref d),some (.ref a),some (.int (cs.length:Nat)),some (.ref hr),some (.ref wF),z6,z7,some (.ref tr),z9,kG,jH],λi Z g' _=>by rw[hn];exact q9,⟨Ex.refl _,none,none,none,none,none,rfl⟩,λo' y Z HY hy q=>?_,λZ HY q=>?_⟩
 ·obtain⟨qc,z6,z7,z9,kG,jH,rfl⟩:=q;obtain⟨ho,rfl⟩:=A7 hy;rw[show(0:Int)+(o':Nat)=(o':Nat) by omega];refine s9 ?_
  try show wpS _ _ _ _ _ _
  walk_at"";refine E3 (b0 T _) (J1 (b0 T _) ?_);walk_at"";refine⟨by omega,by omega,j5 0 cs.length,λi Z g'=>Ex uC g'/\∃z7 z9 kG jH,Z=[some (.ref 0),some (.ref d),some (.ref a),some (.int (cs.length:Nat)),some (.ref hr),some (.ref wF),some (.int (o':Nat)),z7,some (.ref tr),z9,kG,jH],λi Z g' _=>by rw[hn];exact q9,⟨qc,_,_,_,_,rfl⟩,λp' y Z HX hy q=>?_,λZ HX q=>?_⟩
  ·obtain⟨nH,z7,z9,kG,jH,rfl⟩:=q;obtain⟨hp,rfl⟩:=A7 hy;rw[show(0:Int)+(p':Nat)=(p':Nat) by omega];obtain⟨rows,r,cells,c,t1,t2,t3,t4,t5⟩:=(vq.at nH).get ho hp;refine s9 ?_
   try show wpS _ _ _ _ _ _
   walk_at"";refine k7 (a8 t1) t2 ?_;walk_at"";refine k7 (a8 t3) t4 ?_;walk_at"";refine k7 (a8 (nH.at uz)) (Bz ho) ?_;walk_at"";refine k7 (a8 (nH.at uz)) (Bz hp) ?_;walk_at"";have Bd:decide (((hx cs o':Nat):Int)=(hx cs p':Nat))=true↔j8 cs p' o':=by
    rw[bp,<- Mj ho hp];omega
   rcases t5 with⟨rfl,nc⟩|⟨rc,l,rfl,Bj,cc,C⟩
   ·have Ba:decide (((hx cs o':Nat):Int)=(hx cs p':Nat))=false:=Bool.eq_false_iff.mpr λz=>nc (Bd.mp z);refine jf (by rw[Ba];rfl) ?_;walk_at"";exact⟨nH,_,_,_,_,rfl⟩
   ·refine jf (by rw[Bd.mpr cc];rfl) ?_;walk_at"";refine Sq (k:=k+5) hT (nH.at UL) hz Bj C λHW uE=>?_;have oV:=nH.trans uE;obtain⟨Az,r2,xU,c2,u1,u2,u3,u4,u5⟩:=(vq.at oV).get hp ho;rcases u5 with⟨_,nc⟩|⟨Vs,l2,rfl,wD,VZ,C2⟩
    ·exact absurd cc.symm nc
    walk_at"";refine k7 (a8 u1) u2 ?_;walk_at"";refine k7 (a8 u3) u4 ?_;walk_at"";have rQ:=uE.at Bj
    try refine E9 (a8 wD) ?_
    try walk_at""
    try refine E9 (a8 rQ) ?_
    try walk_at""
    have n1:=C.len;have n2:=C2.len;have sy:=PL cc;have li:∀l:List Nat,(k9 l).length=l.length:=λl=>by simp[k9]
    rw[li,li];refine jf (by rw[aX (by omega)];rfl) ?_;walk_at"";refine E3 (b0 T _) (J1 (b0 T _) ?_);walk_at"";refine⟨by omega,by omega,j5 0 cs.length,λi Z g'=>Ex HW g'/\∃kG jH,Z=[some (.ref 0),some (.ref d),some (.ref a),some (.int (cs.length:Nat)),some (.ref hr),some (.ref wF),some (.int (o':Nat)),some (.int (p':Nat)),some (.ref tr),some (.ref rc),kG,jH],λi Z g' _=>by rw[hn];exact q9,⟨Ex.refl _,_,_,rfl⟩,λt' y Z HV hy q=>?_,λZ HV q=>?_⟩
    ·obtain⟨mM,kG,jH,rfl⟩:=q;obtain⟨ht,rfl⟩:=A7 hy;rw[show(0:Int)+(t':Nat)=(t':Nat) by omega];have sL:=oV.trans mM;obtain⟨Ay,r3,xT,c3,v1,v2,v3,v4,v5⟩:=(vq.at sL).get ho ht;refine s9 ?_
     try show wpS _ _ _ _ _ _
     walk_at"";refine k7 (a8 v1) v2 ?_;walk_at"";refine k7 (a8 v3) v4 ?_;walk_at"";rcases v5 with⟨rfl,_⟩|⟨Vr,l3,rfl,wC,BV,C3⟩
     ·refine jf rfl ?_;walk_at"";exact⟨mM,_,_,rfl⟩
     refine lM rfl ?_;walk_at"";obtain⟨Ax,r4,xS,c4,w1,w2,w3,w4,w5⟩:=(vq.at sL).get ht hp;rcases w5 with⟨_,nc⟩|⟨Vq,l4,rfl,wB,Iy,C4⟩
     ·exact absurd (cc.trans BV.symm) nc
     try refine E9 (a8 (mM.at rQ)) ?_
     walk_at""
     try refine E9 (a8 wC) ?_
     walk_at""
     try refine k7 (a8 w1) w2 ?_
     walk_at""
     try refine k7 (a8 w3) w4 ?_
     walk_at""
     try refine E9 (a8 wB) ?_
     walk_at"";rw[li,li,li];have n3:=C3.len;have n4:=C4.len;have Vm:=Uo Iy BV;refine jf (aJ (by omega)) ?_;walk_at"";exact⟨mM,_,_,rfl⟩
    ·obtain⟨mM,kG,jH,rfl⟩:=q
     try show wpS _ _ _ _ _ _
     walk_at"";exact⟨oV.trans mM,_,_,_,_,rfl⟩
  ·obtain⟨nH,z7,z9,kG,jH,rfl⟩:=q
   try show wpS _ _ _ _ _ _
   walk_at"";exact⟨nH,_,_,_,_,_,rfl⟩
 ·obtain⟨qc,z6,z7,z9,kG,jH,rfl⟩:=q
  try show wpS _ _ _ _ _ _
  walk_at""
  rfl
end
end M
namespace Lk
open PySem L2 M
def top(i:Nat):Stmt:=PySem.Challenge.pw_trussel_k09_whole_heaps_and_chains.main.body.getD i (.Pass ⟨0,0,0,0⟩)
def Uk:Stmt->List Stmt
 |.ClassDef (body:=b) ..=>b
 |_=>[]
def Ct(i j:Nat):Stmt:=(Uk (top i)).getD j (.Pass ⟨0,0,0,0⟩)
def F:List RF:=[⟨38,"is_number",["thing"],1,8,Y0⟩,⟨1,"number_from",["number","least","most"],3,9,Q4⟩,⟨2,"good_marks",["marks","least","spot"],1,10,B3⟩,⟨12,"good_coin",["coin","lower","lower_marks","upper","upper_marks","year","good_lower","good_upper"],1,17,u6⟩,⟨39,"check_coin",["coin"],1,18,U7⟩,⟨18,"check_coins",["coins","coin"],1,19,Q5⟩,⟨83,"check_place",["coins","place"],2,20,L0⟩,⟨40,"check_side",["side"],1,21,N3⟩,⟨19,"die_field",["side"],1,22,Y1⟩,⟨76,"linked",["one","other"],2,24,F7⟩,⟨77,"near_places",["coins","place"],2,25,A5⟩,⟨78,"steps_to",["coins","goal","steps","edge","further","place","near"],2,26,K4⟩,⟨79,"heaps",["coins","told","place","heap"],1,27,uR⟩,⟨84,"chain",["coins","one","other","steps","row","fewer"],3,28,yp⟩,⟨3,"_law_open",["_law_script"],1,30,uN⟩,⟨4,"_law_pull",["_law_draw","_law_total_of","_law_cell","_law_got","_law_seed"],2,31,B2⟩,⟨6,"_law_num",["_law_found"],1,32,vk⟩,⟨86,"_law_nums",["_law_found"],1,33,zK⟩,⟨21,"_law_order_of",["_law_draw","_law_numbers","_law_left","_law_found","_law_step"],2,34,O6⟩,⟨22,"_law_any_coin",["_law_draw","_law_menu","_law_lower","_law_upper","_law_year"],1,35,U8⟩,⟨23,"_law_seated",["_law_draw","_law_seats","_law_fresh","_law_anvils"],4,36,E5⟩,⟨24,"_law_struck",["_law_draw","_law_size","_law_anvils","_law_seats","_law_fresh","_law_worn","_law_year","_law_step","_law_wear","_law_shift","_law_found","_law_k","_law_keys","_law_key","_law_spot","_law_named","_law_told_year"],3,37,E4⟩,⟨25,"_law_opened",["_law_draw","_law_size","_law_dies","_law_row","_law_held","_law_found","_law_k","_law_year"],2,38,ve⟩,⟨26,"_law_list",["_law_draw","_law_most","_law_size","_law_anvils","_law_way","_law_found","_law_at","_law_coin","_law_other"],2,39,N1⟩,⟨80,"_law_share",["_law_one","_law_other"],2,40,uS⟩,⟨82,"_law_parted_dies",["_law_draw","_law_coins","_law_found","_law_k","_law_coin","_law_lower"],2,41,K9⟩,⟨87,"_law_walked",["_law_found","_law_coins","_law_one","_law_other"],4,42,yR⟩,⟨11,"law",["_law_script","_law_draw","_law_coins","_law_size","_law_some","_law_heap_at","_law_one","_law_other","_law_table","_law_found","_law_third","_law_by"],1,43,zw⟩]
def Ms:List RM:=[]
def con:List (Str×D):=[("LAST_SPOT",.int 7),("MOST_COINS",.int 9),("LAST_DIE",.int 99),("LAST_YEAR",.int 9999),("SIDES",.tup [(.str "lower"),(.str "upper")])]
def gd:List (Str×List D):=[("DIE_FIELDS",[.tup [.str "lower",.int 0],.tup [.str "upper",.int 2]])]
def exc:List Str:=["BadCoin","BadSide","NoPlace","TooMany"]
def c0:f6:=⟨[],[],true,F.map λr=>(r.nm,r.id),con,["len","enumerate","list","tuple","isinstance","all","range","int","bool","max","min","sorted","set","any","sum"],exc,gd,[],Ms.map λr=>(r.nm,r.cl,r.id),[],true,true⟩
noncomputable abbrev T:Nat->Option bo:=qk F Ms
theorem tx:jU c0 F Ms top Ct:=by
 refine⟨rfl,rfl,by decide +kernel,by decide +kernel,by decide +kernel,by decide +kernel,?_,?_,?_,?_⟩
 all_goals
  repeat first
   |exact BF.nil
   |exact BM.nil
   |exact YF.nil
   |exact YM.nil
   |refine YF.cons (by kernel_rfl) ?_
   |refine YM.cons (by kernel_rfl) ?_
   |refine BF.cons (λ_ _ _ _ _ _=>(by(repeat refine Ak λ_=>?_);exact Aj rfl)) ?_
   |refine BM.cons (λ_ _ _ _ _ _=>(by(repeat refine Ak λ_=>?_);exact Aj rfl)) ?_
inductive qe:List DictEntry->List (Str×V)->Prop
 |nil:qe [] []
 |cons {h:Int} {x:Str} {t:Tok} {u:Value} {v:V} {es:List DictEntry} {vs:List (Str×V)} (r:RelV v u) (q:qe es vs):qe (⟨h,.str x t,u⟩::es) ((x,v)::vs)
theorem qe.find{es vs}(x:Str)(h:qe es vs):E2 (vs.lookup x) (findBy Value.isStrOf es.toArray x):=by
 induction h with
 |nil=>trivial
 |cons r q ih =>
  rename_i h y t u v es vs;unfold findBy at ih ⊢;rw[List.find?_toArray] at ih ⊢;rw[gO,cq];by_cases e:x=y
  ·rw[show(x==y)=true from by simp[e],show Value.isStrOf x (.str y t)=true from by simp[Value.isStrOf,e]];exact r
  ·rw[show(x==y)=false from by simpa using e,show Value.isStrOf x (.str y t)=false from by simp[Value.isStrOf];exact λz=>e (z.symm)];exact ih
theorem all_mk{l:PySem.W.OpenLaw}{w:World}{K:PySem.W.Frag}{h:Heap}{mg:Str->Option Value}{fa:Addr}{xW uB:Addr}{t0 t1 t2 t3 sS sR nD nC nB nA:Tok}{xO:Array (Option Value)}{xP:Nat}{HP:Nat}{lA ly:Int}(X:K.In h)(G:h.Ns mainGlobals mg)(Hd:mg "law"=some (.ref fa))(I:jV K c0 F Ms top Ct)(e0:PySem.W.nsIn K mainGlobals "LAST_SPOT"=some (some (Value.int 7 t0)))(e1:PySem.W.nsIn K mainGlobals "MOST_COINS"=some (some (Value.int 9 t1)))(e2:PySem.W.nsIn K mainGlobals "LAST_DIE"=some (some (Value.int 99 t2)))(e3:PySem.W.nsIn K mainGlobals "LAST_YEAR"=some (some (Value.int 9999 t3)))(e4:PySem.W.nsIn K mainGlobals "SIDES"=some (some (.ref xW)))(Iw:K.lookup xW=some ⟨.type "tuple",none,.seq #[Value.str "lower" sS,Value.str "upper" sR] xP,xO⟩)(g0:PySem.W.nsIn K mainGlobals "DIE_FIELDS"=some (some (.ref uB)))(HR:K.lookup uB=some ⟨.type "dict",none,.dict #[⟨lA,Value.str "lower" nD,Value.int 0 nC⟩,⟨ly,Value.str "upper" nB,Value.int 2 nA⟩] HP,#[]⟩)(oo:lA=PyData.keyHash w.params "lower")(om:ly=PyData.keyHash w.params "upper")(HN:(uB==sysModules)=false)
  : ∃fd:FuncData,(∀(s:Shared) (v:Value),BindsTo s fd ⟨[v],[]⟩ [("_law_script",v)])/\∀base:Heap,K.In base->base.Ns mainGlobals mg->gy l.prog w K mg base (iy l.prog w) 80 fa fd ["_law_script"] (mW exc K 1 (d7 T 40 11)):=by
 have A:lD w K mg c0 T:=by
  refine TR I tx X G (λx d hx=>?_) (λx kvs hx=>?_)
  ·have hm:=aI hx;simp only[c0,con,List.mem_cons,List.mem_nil_iff,or_false] at hm;rcases hm with z|z|z|z|z
   ·cases z;exact⟨(.int 7),_,cA X G e0,⟨_,rfl⟩,λ_ _=>.int _⟩
   ·cases z;exact⟨(.int 9),_,cA X G e1,⟨_,rfl⟩,λ_ _=>.int _⟩
   ·cases z;exact⟨(.int 99),_,cA X G e2,⟨_,rfl⟩,λ_ _=>.int _⟩
   ·cases z;exact⟨(.int 9999),_,cA X G e3,⟨_,rfl⟩,λ_ _=>.int _⟩
   ·cases z;exact⟨.ref xW,_,cA X G e4,rfl,λ_ _=>.tup (vs:=[.str "lower",.str "upper"]) (.inr ⟨_,_,_,Iw,rfl,rfl,rfl,(by show 2<=sizeLine;decide),.cons ⟨_,rfl⟩ (.cons ⟨_,rfl⟩ (.nil))⟩) (.cons (.str _) (.cons (.str _) (.nil)))⟩
  ·have hm:=aI hx;simp only[c0,gd,List.mem_cons,List.mem_nil_iff,or_false] at hm;have z:=hm
   ·cases z;have er:qe [⟨lA,Value.str "lower" nD,Value.int 0 nC⟩,⟨ly,Value.str "upper" nB,Value.int 2 nA⟩] [("lower",.int 0),("upper",.int 2)]:=.cons (v:=.int 0) ⟨_,rfl⟩ (.cons (v:=.int 2) ⟨_,rfl⟩ (.nil));exact⟨uB,_,cA X G g0,⟨_,_,HR,⟨⟨_,_,rfl,oo⟩,⟨⟨_,_,rfl,om⟩,True.intro⟩⟩,HN,λx=>er.find x⟩,.cons (λ_ _=>.int _) (.cons (λ_ _=>.int _) (.nil))⟩
 obtain⟨f,fd,O,a,t⟩:=CO I tx _ (aL (i:=27) rfl);cases Hd.symm.trans (cA X G a);obtain⟨oc,od,kV,doc,pm,an,fx,ct,kO,rfl,lk,ke⟩:=O.fn.ex;exact⟨_,λs v=>.of_eq rfl,λbase lK sE=>LZ lK sE A 40 11 _ _ fa _ rfl O⟩
theorem walk{l:PySem.W.OpenLaw}{q:Program}{loose:List Str}{XP:(Str->Option Value)->Heap->Prop}{YP:World->Heap->Prop}{d:DefRec}{K:Params->PySem.W.Frag}(hn:l.most=some 63)(sf:d.params.defaults=[])(hY:∀(w:World) (h:Heap),YP w h->(K w.params).In h)(F:∀ (w:World) (mg:Str->Option Value) (fa:Addr) (h:Heap),(K w.params).In h->h.Ns mainGlobals mg->mg d.name=some (.ref fa) ->
   ∃ fd:FuncData,(∀ (s:Shared) (u:Value),BindsTo s fd ⟨[u],[]⟩ [("_law_script",u)])/\∀ base:Heap,(K w.params).In base->base.Ns mainGlobals mg->gy l.prog w (K w.params) mg base (iy l.prog w) 80 fa fd ["_law_script"] (mW exc (K w.params) 1 (d7 T 40 11))) :
  PySem.W.WalkO q loose XP YP l.row.toRowW d [] (λf vs=>PySem.call f vs) :=
 L2.Pw (n:=63) (k:=80) (x:="_law_script") (CX:=λw=>iy l.prog w) (sp:=λw=>mW exc (K w.params) 1 (d7 T 40 11)) hn (by decide) sf ⟨rfl,by decide,by decide⟩ hY F (λw H a ns hl hO hS=>Mx hO hS (UB (k:=31) ⟨⟨rfl,rfl⟩,⟨rfl,rfl,rfl,rfl,rfl,rfl,rfl⟩,rfl,rfl,⟨rfl,rfl⟩,⟨rfl,rfl⟩,rfl,rfl,rfl,rfl,rfl,rfl,rfl,rfl,rfl,rfl,rfl,rfl,rfl⟩)) λ_ _ _ _ _ ⟨_,_,_,_,_,_,_,z⟩=>z
end Lk
end _X
open _X
open PySem PySem.W PyProof.Rows
set_option maxRecDepth 100000 in
set_option maxHeartbeats 0 in
theorem PySem.Challenge.cw_trussel_k09_whole_heaps_and_chains_holds : PySem.Challenge.rw_trussel_k09_whole_heaps_and_chains.Holds := by
 w_on;o_law;k_head;(case hw=>w_witness2)
 k_fill
 refine Lk.walk (l:=PySem.Challenge.rw_trussel_k09_whole_heaps_and_chains) rfl rfl (fun w h Y=>PySem.W.kIn_of Y) ?F
 case F =>
  intro w mg fa h KX G hmg
  refine' Lk.all_mk KX G hmg ⟨?zz1,?zz2,?zz3,?zz4,?zz5,?zz6,?zz7⟩ ?_ ?_ ?_ ?_ ?_ ?_ ?_ ?_ ?_ ?_ ?_
  (case zz1=>repeat' first | (with_reducible show _=_;k_is) | exact M.PF.nil | apply M.PF.cons)
  (case zz2=>repeat' first | (with_reducible show _=_;k_is) | exact M.PM.nil | apply M.PM.cons)
  (case zz3=>repeat' first | (with_reducible show _=_;k_is) | exact M.PC.nil | apply M.PC.cons)
  (case zz4=>repeat' first | (with_reducible show _=_;k_is) | exact M.PA.nil | apply M.PA.cons)
  (case zz5=>repeat' first | (with_reducible show _=_;k_is) | exact M.PB.nil | apply M.PB.cons)
  (case zz6=>repeat' first | (with_reducible show _=_;first | (with_reducible show PySem.W.excIn _ _ _ _=true;k_exc) | k_is) | exact M.PX.nil | apply M.PX.cons)
  (case zz7=>kernel_rfl)
  all_goals try (with_reducible show _=_;k_is)
  all_goals try ((with_reducible show _=_);rfl)
#print axioms PySem.Challenge.cw_trussel_k09_whole_heaps_and_chains_holds
