import PyProof.Rows.All
import Wide.All
import OpenK.AllK
import Wide.FinOn
import Lean
import PyProof.EqAt
import PyProof.EqKinds
import PyProof.TupleCall
import PySem.Challenge.RW_trussel_k08_chains_of_coins
set_option Elab.async false
set_option linter.all false
set_option maxRecDepth 100000
set_option maxHeartbeats 4000000
set_option genInjectivity false
set_option bootstrap.genMatcherCode false
set_option genSizeOf false
local macro_rules|`(def $i:declId $s:optDeclSig $v:declVal)=>`(noncomputable def $i:declId $s:optDeclSig $v:declVal)
structure PySem.W.Fast:Prop where(tw6173991771497801715 tw14101726480698138210 tw17876136956803505137 tw359829172137868841 tw9831925606784873629 tw12371971800321539539 tw4168913758379662578 tw8899667755938718264 tw16546113139374448124 tw13241577660973909595 tw490745337658282495 tw10111455793403218166 tw17548138746883560481 tw3238152772843570653 tw444611142511945653 tw548325403531445489 tw13482688929791386738 tw6044404252240457504 tw17051940382163053356 tw13013661131667659553 tw17982499317126715645 tw8845687982718020674 tw10168712957142240447 tw3785659894529272130 tw9509502953165649437 tw7519443604985522970 tw5767496239881494221 tw13896878248215518484 tw4189508144548992861 tw5808686115355001500 tw10043137637381227637 tw17133241202204882358 tw2830194042807346183 tw17429512335749170096 tw10557857333084124687 tw10882287056559660488 tw10936418482915835832 tw2472725676581400462 tw15719858048571467837 tw11836336808016469542 tw3221389128244594241 tw955767524179357851 tw1550215969282962553 tw12168703014934040323 tw8993628684091434100 tw15947033090791784023 tw12692343395373264399 tw3719205427630285735 tw10731714624226122137 tw732157071349834087 tw12391478558922814167 tw3461738880714792232 tw11471520372382541874 tw5582783104374718750 tw15208057017985110745 tw15984754540351595849 tw8503535853512823207 tw7975189601376693208 tw14253806192007519551 tw14950493411417387466 tw3716720480432978573 tw4838470580949538197 tw7975774410509913876 tw15897119900554022459 tw11578893783457705406 tw7268746870677425438 tw10150125404649286036 tw908504678893109415 tw2575366476109269237 tw891007447693828236 tw12387363684810756703 tw8512576705777858408 tw4672386412357117043 tw12701720968001612204 tw11652381262806043065 tw776170052088294260 tw1939802231578002139 tw7506558731003292548 tw1373199783754829695 tw4474240622262434161 tw10776422699688172895 tw6304814802619787726 tw13503742946897712434 tw13520966650893254446 tw13985326175653423272 tw4139853359856049636 tw1324119047996621463 tw14950018865290938383 tw13772108058799855669 tw15960261234243302734 tw7681111784392940366 tw1305179458603755532 tw17481450768745086916 tw9365897408707421616 tw8352893757451376459 tw8759682786036149083 tw544240498672128251 tw17815071301266926898 tw430061273728112899 tw11046437720714049564 tw17731605759306626546 tw17694991620898875992 tw12560171247675170413 tw7629456644203754796 tw11323870162542731081 tw18031981741434135080 tw12170048331031737453 tw16214302073913665468 tw9014292609019687311 tw3158542054744938169 tw10706353331748008251 tw2745426328115010343 tw12113101384622460126 tw10671869338119512733 tw7343611360723703654 tw12801637303332650167 tw17534454590154120692 tw10323514242559448235 tw6480174035374468070 tw10184028021087731186 tw13708190961396618356 tw16603190350418504452 tw1102464793817772384 tw13230694896014090515 tw935351846742386911 tw295905620603701929 tw18030298850828919221 tw17006408716852102554 tw6967610455303674503 tw11473949068355461761 tw15879908986363863108 tw13716076328049271573 tw12761708413577674942 tw10665868473745342776 tw5474952233002799405 tw15662090620587504398 tw6149923402014108656 tw17715377487269827311 tw12804594527505493144 tw11701092752001474493 tw10334151224667378754 tw17925612582465049103 tw9661645356304410947 tw15398242234262352496 tw4638292607457698885 tw3020019870826988054 tw443215373560495239 tw10307883887760885036 tw10239993990078533039 tw9179352370705696976 tw9318327013143515403 tw3857759564035163023 tw16914131915978023442 tw16481807325959003688 tw2180643034954046694 tw6461233400682599320 tw17931024429145529170 tw4323198135398964332 tw7730633790206784977 tw6093570442686259238 tw7938097374892160064 tw11654156037007158013 tw565780040147850438 tw9310151158151266994 tw15004089834965174610 tw4112716649296976031 tw15123268909775096826 tw15317270624502328901 tw6563921618407692179 tw4489890044219325016 tw2226462589585066945 tw3527074255944685234 tw468932861912579333 tw2236123735793019942 tw14491553076935275452 tw9074138333934946235 tw18083789666087810118 tw4523286262962620354 tw205434991179049327 tw5921313630542409523 tw6119499592630520091 tw3065979744637950121 tw8694452906531244669 tw10112481679907707989 tw3116097543924518825 tw9405812412487287320 tw10516597792460842443 tw16340867965490073696 tw17997433042493852044 tw16222888035183567472 tw18419364840992610950 tw439288977856201982 tw18304688530229939294 tw13989195974359163096 tw3149555880803847350 tw2029117591963711282 tw8904167509964910411 tw8882219412018563877 tw2830288048233793949 tw15411854199300216800 tw10998291374713599811 tw10405146569411374816 tw14239661184160565373 tw688309137035414510 tw14046114558879564132 tw7273122054993669366 tw5244073244490924047 tw3671597515139370023 tw12080376029914356409 tw6498341920458318750 tw15101109190432389011 tw14286588239142056578 tw16886413879348935414 tw17112658024220802267 tw16302020101924284686 tw13559913968588720806 tw18212871647045592646 tw4687600735121215396 tw14120916858860588135 tw9393196036402796518 tw6344115582532041010 tw14486398024683925620 tw10789180088173472014 tw15537451332945615266 tw4681694578934589841 tw16109458242179321977 tw12516373812126375386 tw6091706085366485512 tw14468423971538510924 tw6497577905719341335 tw13980414198731731917 tw17794866664392324729 tw4628608240655670422 tw10956938343605271646 tw3769967572018083487 tw8823680961607740718 tw8220781290895678262 tw18052059361638662205 tw309723065517556407 tw12132170566653635887 tw12751303503318455095 tw10075780247099889055 tw18444534635341442469 tw7681666683622713222 tw4650913549585510585 tw688793452837649675 tw16511434405817843627 tw9538452485277493082 tw16030405686765117284 tw11285283145233126062 tw274050803014386027 tw4015965923234616767 tw114953266949495613 tw6231454324268915420 tw10650397153777161991 tw7022405871341351556 tw11939071509838783492 tw6167983091205043549 tw14439352614130047379 tw8455566824908401045 tw12990923176753696240 tw13248834303817717778 tw10650666949340203013 tw13597235009012666872 tw1171187542683016149 tw10831629941805078088 tw2012970015070808742 tw5790161600658403222 tw2039037271546858222 tw1775452532996399288 tw6788173620648487691 tw8831637701445623663 tw2152687997514854507 tw4808376867780845910 tw3339862994057294016 tw7326689226691906827 tw15968996079117646437 tw15307590860120577219 tw14450715519469875257 tw3632064130685255792 tw652512716585732235 tw4014857931656424404 tw8445932245780860279 tw2734122291459780632 tw4132108912414943857 tw5536144628458415713 tw2587140529266232228 tw409898685488993598 tw5488964291028228341 tw13962930369560558296 tw18233091169783401563 tw17144214457401066584 tw5283992017730179039 tw4106757468477428647 tw4372230122353348940 tw16623889786950742360 tw9703091548156974490:True)
namespace _X
local macro_rules|`(tactic|omega)=>`(tactic|lia)
def BR:=@PySem.wpAny_binaryOp_repeat_ref
def BS:=@PySem.W.hideAll_get
def BU:=@PySem.W.callWith_K0
def BV:=@List.mergeSort_perm
def BW:=@List.length_pos_iff
def BX:=@List.getElem?_range
def Iq:=@PySem.wpAny_newList
def Ir:=@PySem.seq_tuple_add
def Iu:=@PySem.W.of_hideAll
def Iv:=@PySem.W.kitx_tuple
def Iw:=@PySem.W.callWith_K
def Iy:=@List.find?_eq_none
def Iz:=@Array.append_assoc
def Xg:=@PySem.putSet_of
def Xh:=@PySem.list_append
def Xi:=@PySem.W.kitx_list
def Xj:=@PySem.W.kitx_dict
def Xk:=@PySem.MeetsSeq3.entry_eq_loop
def Xl:=@List.length_range
def Xm:=@List.foldl_append
def Xo:=@Eq.symm
def Xp:=@Array.toList_push
def Yo:=@PySem.seqIndex_neg
def Yp:=@PySem.concat_meets
def Yq:=@PySem.seqSlot_of
def Yr:=@PySem.IsL.update
def Ys:=@Nat.succ_lt_succ
def Yt:=@List.perm_middle
def Yu:=@List.ext_getElem
def Yv:=@PySem.Calls.callWith_builtin
def aA:=@List.mem_cons
def aB:=@if_neg
def aC:=@List.size_toArray
def aD:=@List.getElem?_map
def aE:=@if_pos
def aF:=@Nat.ne_of_lt
def aG:=@List.length_append
def aH:=@Option.some.inj
def aI:=@List.mem_append
def aJ:=@PySem.mem_of_lookup
def aK:=@List.mem_singleton
def aL:=@decide_eq_false
def aM:=@Nat.le_trans
def aN:=@List.mem_map
def aR:=@List.getElem?_set_self
def aS:=@PySem.Heap.get?_update_self
def aT:=@PySem.Heap.get?_update_other
def aU:=@decide_eq_true_iff
def aV:=@decide_eq_true
def aW:=@List.map_cons
def aY:=@List.mem_of_getElem?
def aZ:=@Nat.lt_irrefl
def aa:=@PySem.wpAny_bind
def ae:=@Option.map_eq_some_iff
def af:=@Option.bind_eq_some_iff
def ag:=@PySem.Heap.get?_push_of_some
def ah:=@List.length_map
def ai:=@PySem.wpAny_pure
def ak:=@Nat.le_refl
def ao:=@PySem.Heap.lt_size
def aq:=@List.getElem?_eq_some_iff
def au:=@List.getElem?_append_left
def av:=@List.getElem?_set_ne
def aw:=@PySem.Heap.get?_push_size
def ay:=@Nat.lt_of_lt_of_le
def az:=@List.getElem?_eq_getElem
def bA:=@PySem.codeAny_builtin
def bB:=@Ne.symm
def bD:=@PyProof.Rows.slot_tuple_getitem
def bE:=@PySem.wpAny_truthy_bool
def bG:=@Nat.zero_le
def bH:=@List.mem_cons_of_mem
def bK:=@PySem.W.kia_one
def bN:=@List.length_take
def bQ:=@List.replicate_succ
def bS:=@of_decide_eq_true
def bT:=@PySem.wpAny_call_entry
def bU:=@Nat.ne_of_gt
def bV:=@List.map_append
def bW:=@PySem.Heap.SameBut.update
def bX:=@Bool.eq_iff_iff
def bY:=@PyProof.Rows.callWith_type1
def bZ:=@List.getElem?_append_right
def ba:=@PySem.AutoSeq1.wpAny_loadPart'
def bc:=@PySem.Around.under_plainId
def bf:=@List.mem_append_right
def bg:=@Array.length_toList
def bo:=@List.mem_append_left
def bq:=@PySem.wpAny_newObj_type
def br:=@PySem.wpAny_mono
def bu:=@PySem.Obj.data_mapFields
def bw:=@PySem.wpAny_holding
def bx:=@Bool.and_eq_true
def cA:=@Nat.lt_trans
def cC:=@PySem.wpAny_Call_Name_kw
def cF:=@beq_eq_false_iff_ne
def cH:=@Nat.le_of_not_lt
def cI:=@List.drop_eq_getElem_cons
def cJ:=@List.mem_filter
def cK:=@Nat.le_of_lt
def cL:=@List.nodup_append
def cM:=@List.mem_iff_getElem
def cN:=@List.flatten_cons
def cO:=@Int.toNat_natCast
def cQ:=@PySem.Obj.isFreed_of_fields
def cU:=@PySem.wpAny_typeOf
def cV:=@decide_eq_false_iff_not
def cW:=@Nat.lt_succ_self
def cX:=@List.take_length
def cY:=@List.length_cons
def cZ:=@List.getElem?_replicate
def cb:=@List.append_assoc
def cq:=@PySem.plainId_quiet
def cu:=@PySem.wpAny_setState_of
def cv:=@PySem.Heap.size_push
def cw:=@List.lookup_cons
def cz:=@PySem.W.mg_of
def dA:=@List.append_nil
def dB:=@PySem.F.plain_min_loop
def dC:=@Array.getElem_eq_getD
def dE:=@PySem.wpAny_of_eq
def dG:=@PySem.wpAny_updateSeq
def dH:=@PySem.wpAny_passesOwn
def dI:=@congrArg
def dJ:=@List.take_succ
def dM:=@List.map_map
def dN:=@List.getElem_mem
def dP:=@List.getElem?_eq_none_iff
def dQ:=@PyProof.Rows.F.plain_set_update_loop
def dR:=@List.filterMap_cons
def dW:=@Option.isSome_iff_exists
def dY:=@List.nodup_cons
def dZ:=@Int.emod_nonneg
def dh:=@PySem.W.cellsFrom_some
def dj:=@List.pairwise_cons
def dk:=@List.filter_append
def dn:=@Int.emod_lt_of_pos
def dq:=@Bool.false_ne_true
def dz:=@PySem.wpAny_setField
def eG:=@Int.eq_ofNat_of_zero_le
def eJ:=@PySem.wpAny_standAt
def eK:=@PyProof.Rows.boot_list
def eO:=@PySem.wpAny_rule
def eP:=@PySem.tupleKind_room_in1
def eR:=@PySem.wpAny_callSpecial?_slot
def eT:=@PySem.MeetsSeq3.plain_eq_loop
def eU:=@List.length_filter_le
def eV:=@decide_eq_decide
def eW:=@List.any_eq_true
def eX:=@List.all_eq_true
def eZ:=@Int.ofNat.inj
def eh:=@Bool.or_eq_true
def fA:=@PySem.wpAny_isInstance
def fG:=@beq_iff_eq
def fH:=@List.mem_cons_self
def fI:=@List.length_eraseIdx_of_lt
def fT:=@Option.isSome_map
def fU:=@Nat.le_succ
def fV:=@List.reverse_cons
def fW:=@PySem.codeAny_mono
def fX:=@PySem.F.args_tuple_add_2
def fY:=@PyProof.Rows.boot_sorted
def fZ:=@List.any_cons
def fc:=@PySem.wpAny_pyIter_list
def fe:=@PySem.isSubtype_type
def ff:=@List.eq_nil_of_length_eq_zero
def fm:=@List.length_set
def fx:=@PySem.builtinLookup_eq_fast
def gD:=@PySem.typeIs_int
def gE:=@PySem.intKind_is
def gF:=@PySem.F.entry_tuple_add
def gG:=@List.length_drop
def gH:=@List.filter_cons
def gU:=@PySem.F.slot_tuple_add
def gW:=@List.drop_eq_nil_of_le
def gX:=@PySem.Calls.call_function_entry
def gw:=@PyProof.Rows.size_push'
def gz:=@PySem.wpAny_seqItems
def hW:=@List.find?_cons
def hX:=@PySem.F.plain_list_iadd
def iO:=@List.pairwise_append
def iP:=@List.Pairwise.filter
def ic:=@PySem.wpAny_comprehension_free
def ie:=@PySem.F.slot_dict_get
def ig:=@PyProof.Rows.boot_set
def ij:=@Nat.eq_of_beq_eq_true
def ik:=@List.length_singleton
def ip:=@List.length_replicate
def iq:=@List.getElem?_eq_none
def ir:=@Array.getElem?_toList
def jA:=@List.mem_filterMap
def jR:=@List.findIdx?_eq_some_iff_getElem
def jX:=@PySem.wpAny_tryCatch
def jY:=@PySem.wpAny_field
def jZ:=@PySem.sizeLine_eq
def jc:=@PySem.call_meets
def jd:=@PyProof.Rows.F.entry_set_update_loop
def jq:=@PySem.wpAny_execs_nil
def jr:=@PySem.typeLookup_type
def js:=@PySem.F.slot_int_rmul
def jy:=@Nat.not_lt
def jz:=@Nat.lt_of_le_of_lt
def kP:=@PySem.Paired.length
def kZ:=@PySem.wpAny_pyIter_tuple
def ka:=@Nat.lt_trichotomy
def kc:=@Nat.lt_succ_of_lt
def km:=@List.eraseIdx_eq_take_drop_succ
def lg:=@List.range_succ
def lh:=@List.of_mem_zip
def mV:=@PySem.Value.isInt_shape
def mW:=@Option.ne_none_iff_exists'
def mX:=@PySem.Obj.cls_mapFields
def mY:=@List.mem_range
def mZ:=@Bool.false_and
def nL:=@List.mem_or_eq_of_mem_set
def nM:=@Array.getElem?_eq_getElem
def oO:=@PySem.wpAny_askSetting
def oP:=@PySem.noFill_tuple_add
def oQ:=@PySem.F.slot_tuple_mul
def oR:=@PySem.F.entry_min_loop
def oS:=@Bool.false_or
def qu:=@PySem.wpAny_letGo
def qv:=@PySem.F.plainAttrs_list
def qw:=@PySem.F.args_dict_get_3
def qx:=@PyProof.Rows.boot_tuple
def qy:=@List.pairwise_mergeSort
def rO:=@PySem.codeAny_of_tree
def rP:=@PySem.F.entry_dict_get
def rQ:=@Nat.mul_comm
def rR:=@Nat.le_of_eq
def rS:=@List.take_of_length_le
def rT:=@List.set_set
def rV:=@List.pairwise_lt_range
def rW:=@List.map_nil
def rX:=@List.length_pos_of_mem
def rY:=@Bool.not_not
def rZ:=@Array.getElem?_eq_none
def vt:=@PyProof.Rows.assignInOrder_cons
def vx:=@PyProof.Rows.boot_int
def vy:=@List.take_append_drop
def xq:=@PySem.wpAny_runValue
def xr:=@PySem.Walks.list
def xt:=@Sum.inl.inj
def xu:=@List.mem_of_mem_take
def xw:=@List.mem_of_mem_drop
def xy:=@PySem.Calls.Name_function_global
namespace L2
open PySem PySem.Spec PyProof.Rows
variable{xs vs:List V}{us:List Value}{H H':Hp}{a b f C dx:Addr}{o:HO}{u:Value}{P:Program}{w:World}{h h' base:Heap}{α:Type}{x:Str}{e c tg:Expr}{X:Cx}{pins:List (Addr×Obj)}{Z:St}{s:Shared}{t' i j k:Nat}{ch fp:List Addr}{N ps:List Str}{M:Model}{A:Around}{E Q:Value->Shared->Prop}{v:V}{t:TA}{ta tb te:TE}{pos p:Pos}{K:PySem.W.Frag}{es:List Expr}{body:List Stmt}{op:CmpOp}{r:R2}{fd:FuncData}{CX:mr}{sp:Sp}
noncomputable abbrev Key:=Sum Int Str
def Q9:Key->Value->Bool
 |.inl k,v=>Value.isInt k v
 |.inr x,v=>Value.isStrOf x v
def QW(w:World):Key->Int
 |.inl k=>hashInt k
 |.inr x=>hashStr w x
theorem n5:∀{k:Key} {v:Value},Q9 k v=true->(∃i t,k=Sum.inl i/\v=Value.int i t)\/(∃x t,k=Sum.inr x/\v=Value.str x t)
 |.inl i,v,h=>by
  obtain⟨t,e⟩:=mV (k:=i) (v:=v) h;exact .inl ⟨i,t,rfl,e⟩
 |.inr x,v,h=>by
  obtain⟨t,e⟩:=Value.isStrOf_shape (x:=x) (v:=v) h;exact .inr ⟨x,t,rfl,e⟩
theorem Uy(i:Int)(t:Tok):Q9 (.inl i) (.int i t)=true:=by simp[Q9,Value.isInt]
theorem Uz(x:Str)(t:Tok):Q9 (.inr x) (.str x t)=true:=by simp[Q9,Value.isStrOf]
theorem NN(a b:Int):decide ((Sum.inl a:Key)=Sum.inl b)=(a==b):=by
 by_cases e:a=b
 ·subst e;simp
 ·have h:¬(Sum.inl a:Key)=Sum.inl b:=λq=>e (xt q);rw[aL h];exact(cF.mpr e).symm
theorem NQ(a b:Str):decide ((Sum.inr a:Key)=Sum.inr b)=decide (a=b):=by
 by_cases e:a=b
 ·subst e;simp
 ·have h:¬(Sum.inr a:Key)=Sum.inr b:=λq=>e (Sum.inr.inj q);rw[aL h,aL e]
theorem NO(a:Int)(b:Str):decide ((Sum.inl a:Key)=Sum.inr b)=false:=aL (λq=>nomatch q)
theorem NP(a:Str)(b:Int):decide ((Sum.inr a:Key)=Sum.inl b)=false:=aL (λq=>nomatch q)
def k6(prog:Program)(w:World):PySem.KeyKind prog w Key where
 is:=Q9
 hash:=QW w
 inj:=λv a b ha hb=>by
  rcases n5 ha with⟨i,t,rfl,rfl⟩|⟨x,t,rfl,rfl⟩
  ·rcases n5 hb with⟨j,u,rfl,e⟩|⟨y,u,rfl,e⟩
   ·injection e with e1 _;rw[e1]
   ·exact nomatch e
  ·rcases n5 hb with⟨j,u,rfl,e⟩|⟨y,u,rfl,e⟩
   ·exact nomatch e
   ·injection e with e1 _;rw[e1]
 byValue:=λk v h=>by
  rcases n5 h with⟨i,t,rfl,rfl⟩|⟨x,t,rfl,rfl⟩<;>rfl
 pyHash:=λhv h=>by
  rcases n5 hv with⟨i,t,rfl,rfl⟩|⟨x,t,rfl,rfl⟩
  ·exact wpAny_pyHash_int h
  ·exact wpAny_pyHash_str h
 eqBool:=λhu hv h=>by
  rcases n5 hu with⟨i,t,rfl,rfl⟩|⟨x,t,rfl,rfl⟩
  ·rcases n5 hv with⟨j,u,rfl,rfl⟩|⟨y,u,rfl,rfl⟩
   ·rw[NN] at h;exact wpAny_eqBool_int h
   ·rw[NO] at h;exact SeqAt.EqAt.int_str i t y u _ _ _ _ h
  ·rcases n5 hv with⟨j,u,rfl,rfl⟩|⟨y,u,rfl,rfl⟩
   ·rw[NP] at h;exact SeqAt.EqAt.str_int x t j u _ _ _ _ h
   ·rw[NQ] at h;exact wpAny_eqBool_str h
 «strs»:=λk x t v h=>by
  rcases n5 h with⟨i,u,rfl,e⟩|⟨y,u,rfl,e⟩
  ·exact nomatch e
  ·injection e with e1 _;subst e1;cases v<;>rfl
theorem Fm(prog:Program)(w:World)(k:Key)(v:Value):(k6 prog w).is k v=Q9 k v:=rfl
theorem Rt(prog:Program)(w:World)(i:Int)(t:Tok):(k6 prog w).is (.inl i) (.int i t)=true:=Uy i t
theorem Ru(prog:Program)(w:World)(x:Str)(t:Tok):(k6 prog w).is (.inr x) (.str x t)=true:=Uz x t
set_option genInjectivity true in
inductive V where
 |bL|bl (b:Bool)|int (i:Int)|str (x:Str)|kz (b:Array UInt8)|qd (b:UInt64)|ref (a:Addr)|ty (n:String)
 deriving DecidableEq
def RelV:V->Value->Prop
 |.bL,u=>u=Value.none
 |.bl b,u=>u=Value.bool b
 |.int i,u=>∃t,u=Value.int i t
 |.str x,u=>∃t,u=Value.str x t
 |.kz b,u=>∃t,u=Value.bytes b t
 |.qd b,u=>∃t,u=Value.float b t
 |.ref a,u=>u=Value.ref a
 |.ty n,u=>u=Value.type n
noncomputable abbrev Vals:List V->List Value->Prop:=Paired RelV
theorem Vals.length{xs:List V}{us:List Value}(r:Vals xs us):xs.length=us.length:=kP r
theorem Vals.get:∀{xs:List V} {us:List Value} {i:Nat} {x:V},Vals xs us->xs[i]?=some x->∃u,us[i]?=some u/\RelV x u
 |_,_,_,_,.nil,e=>by simp at e
 |_,_,0,_,.cons r _,e=>by simp at e;subst e;exact⟨_,rfl,r⟩
 |_,_,i+1,x,.cons _ t,e=>by
  obtain⟨u,h1,h2⟩:=Vals.get (i:=i) (x:=x) t (by simpa using e);exact⟨u,by simpa using h1,h2⟩
theorem Vals.set{x:V}{u:Value}(r:RelV x u):∀{xs:List V} {us:List Value} (i:Nat),Vals xs us->Vals (xs.set i x) (us.set i u)
 |_,_,_,.nil=>.nil
 |_,_,0,.cons _ t=>.cons r t
 |_,_,i+1,.cons q t=>.cons q (Vals.set r i t)
theorem Vals.append{ys:List V}{ws:List Value}(h:Vals xs us)(s:Vals ys ws):Vals (xs++ys) (us++ws):=by
 induction h with
 |nil=>exact s
 |cons r t ih=>exact .cons r ih
theorem Vals.take:∀{xs:List V} {us:List Value} (n:Nat),Vals xs us->Vals (xs.take n) (us.take n)
 |_,_,0,_=>.nil
 |_,_,_+1,.nil=>.nil
 |_,_,n+1,.cons r t=>.cons r (Vals.take n t)
theorem Vals.drop:∀{xs:List V} {us:List Value} (n:Nat),Vals xs us->Vals (xs.drop n) (us.drop n)
 |_,_,0,r=>r
 |_,_,_+1,.nil=>.nil
 |_,_,n+1,.cons _ t=>Vals.drop n t
def E0:Option V->Option Value->Prop
 |some v,some u=>RelV v u
 |none,none=>True
 |_,_=>False
def KV{κ:Type}:List (κ×V)->List (κ×Value)->Prop:=Paired λ(p:κ×V) (q:κ×Value)=>p.1=q.1/\RelV p.2 q.2
def kV:Key->V
 |.inl i=>.int i
 |.inr x=>.str x
inductive HO where
 |lst (xs:List V)
 |tup (xs:List V)
 |dK (kvs:List (Key×V))|dT (kvs:List (List Key×V))
 |set (S:Int->Bool) (n:Nat)
 |ins (C dx:Addr) (fs:List (Str×V))
 |own (x:Addr)
 |xd (fs:List (Str×V))
 |met (f x:Addr)
 |kT (lo hi:Int)
 |jm (o:Obj) (u:HO)
 |nO (ps:Array Value)
 |ext (φ:Heap->Prop)
noncomputable abbrev Hp:=Addr->Option HO
def upd(H:Hp)(a:Addr)(o:HO):Hp:=λb=>if b=a then some o else H b
theorem p6:upd H a o a=some o:=by unfold upd;rw[aE rfl]
theorem f6(h:b≠a):upd H a o b=H b:=by unfold upd;rw[aB h]
theorem My{u:HO}(h:H a=some o)(h':H b=some u)(d:o≠u):a≠b:=by
 intro e;subst e;rw[h] at h';exact d (aH h')
theorem j9(h:H a=some o)(h':H b=none):a≠b:=by
 intro e;subst e;rw[h] at h';cases h'
def K6(h:Heap)(a:Addr)(items:Array Value):Prop:=∃o,h.get? a=some o/\o.cls=.type "tuple"/\(∃n,o.data=.seq items n)/\o.dict=none
theorem K6.tup{h:Heap}{a:Addr}{items:Array Value}(x:K6 h a items):IsTup h a items:=let ⟨o,e,c,d,_⟩:=x;⟨o,e,c,d⟩
theorem K6.new(h:Heap)(items:Array Value):K6 (h.push { cls:=.type "tuple",data:=.seq items }) h.objs.size items:=⟨_,aw _ rfl,rfl,⟨_,rfl⟩,rfl⟩
section
variable(P:Program)(w:World)
def k7(H:Hp)(h:Heap)(a:Addr):HO->Prop
 |.lst xs=>xs.length<=sizeLine/\∃(aQ:List Value) (n:Nat),Vals xs aQ/\h.get? a=some { cls:=.type "list",data:=.seq aQ.toArray n }
 |.tup xs=>xs.length<=sizeLine/\∃aQ:List Value,Vals xs aQ/\K6 h a aQ.toArray
 |.dK kvs=>kvs.length<=sizeLine/\(a==sysModules)=false/\∃vs,KV kvs vs/\h.DictOf (k6 P w) a vs
 |.dT kvs=>kvs.length<=sizeLine/\(a==sysModules)=false/\∃xs:List (List Key×Addr×Value),
   Paired (λ(p:List Key×V) (q:List Key×Addr×Value)=>p.1=q.1/\H q.2.1=some (.tup (p.1.map kV))/\RelV p.2 q.2.2) kvs xs /\
   ∃o es ep,h.get? a=some o/\o.ExactDict/\o.data=.dict es ep/\es.toList=xs.map (entryOfKey (tupleKind (k6 P w)))/\(xs.map (·.1)).Nodup
 |.set S n=>h.SetOf (intKind P w) a S n
 |.ins C dx fs=>H dx=some (.own a)/\fs.length<=1000/\dx≠a/\h.get? a=some (PySem.W.instObj C dx) /\
   ∃mA,h.Ns1 dx mA/\(∀f,E0 (fs.lookup f) (mA f))/\PySem.Within mA (fs.map (·.1))
 |.own _=>∃o,h.get? a=some o
 |.xd fs=>∃mA,h.Ns1 a mA/\∀f,E0 (fs.lookup f) (mA f)
 |.kT lo hi=>∃t u v,h.get? a=some { cls:=.type "range",data:=.fields #[.int lo t,.int hi u,.int 1 v] }
 |.jm o u=>h.get? a=some o/\k7 H h a u
 |.nO ps=>h.get? a=some { cls:=.none,data:=.fields ps }
 |.met f x=>h.get? a=some (PySem.W.methodObj (.ref f) (.ref x))
 |.ext φ=>φ h/\(∃o,h.get? a=some o)/\∀h1 h2:Heap,φ h1->(∀o,h1.get? a=some o->h2.get? a=some o)->φ h2
def fC(H:Hp)(h:Heap):Prop:=∀a o,H a=some o->k7 P w H h a o
end
theorem k7.lt(x:k7 P w H h a o):a<h.objs.size:=by
 cases o with
 |lst xs=>obtain⟨_,_,_,_,e⟩:=x;exact ao e
 |tup xs=>obtain⟨_,_,_,p⟩:=x;exact p.tup.lt
 |dK kvs=>obtain⟨_,_,_,_,o,_,_,e,_⟩:=x;exact ao e
 |dT kvs=>obtain⟨_,_,_,_,o,_,_,e,_⟩:=x;exact ao e
 |set S n=>obtain⟨o,_,_,_,e,_⟩:=x;exact ao e
 |ins C dx fs=>obtain⟨_,_,_,e,_⟩:=x;exact ao e
 |own y=>obtain⟨_,e⟩:=x;exact ao e
 |xd fs=>obtain⟨_,⟨_,_,_,e,_⟩,_⟩:=x;exact ao e
 |kT lo hi=>obtain⟨_,_,_,e⟩:=x;exact ao e
 |jm ob u=>obtain⟨e,_⟩:=x;exact ao e
 |nO ps=>exact ao (show h.get? a=some _ from x)
 |met f y=>exact ao (show h.get? a=some _ from x)
 |ext φ=>obtain⟨_,⟨_,e⟩,_⟩:=x;exact ao e
theorem Paired.DT{β:Type}{F G:α->β->Prop}{sY:List α}{sX:List β}(h:Paired F sY sX)(f:∀a b,F a b->G a b):Paired G sY sX:=by
 induction h with
 |nil=>exact .nil
 |cons r t ih=>exact .cons (f _ _ r) ih
theorem k7.R8(x:k7 P w H h a o)(k:∀b u,(b=a\/H b=some (.own a))->h.get? b=some u->h'.get? b=some u)(ho:∀b,H b=some (.own a)->H' b=some (.own a))(ht:∀b xs,H b=some (.tup xs)->H' b=some (.tup xs)):k7 P w H' h' a o:=by
 induction o with
 |lst xs=>obtain⟨z,aQ,n,r,e⟩:=x;exact⟨z,aQ,n,r,k _ _ (.inl rfl) e⟩
 |tup xs=>obtain⟨z,aQ,r,ob,e,c⟩:=x;exact⟨z,aQ,r,ob,k _ _ (.inl rfl) e,c⟩
 |dK kvs=>obtain⟨z,y,vs,r,ob,es,ep,e,c⟩:=x;exact⟨z,y,vs,r,ob,es,ep,k _ _ (.inl rfl) e,c⟩
 |dT kvs =>
  obtain⟨z,y,xs,r,ob,es,ep,e,c⟩:=x;exact⟨z,y,xs,Paired.DT r λp q z=>⟨z.1,ht _ _ z.2.1,z.2.2⟩,ob,es,ep,k _ _ (.inl rfl) e,c⟩
 |set S n=>obtain⟨ob,es,ep,t,e,c⟩:=x;exact⟨ob,es,ep,t,k _ _ (.inl rfl) e,c⟩
 |ins C dx fs =>
  obtain⟨d,z,ne,e,mA,⟨od,es,ep,e2,c⟩,r⟩:=x;exact⟨ho _ d,z,ne,k _ _ (.inl rfl) e,mA,⟨od,es,ep,k _ _ (.inr d) e2,c⟩,r⟩
 |own y=>obtain⟨ob,e⟩:=x;exact⟨ob,k _ _ (.inl rfl) e⟩
 |xd fs=>obtain⟨mA,⟨od,es,ep,e,c⟩,r⟩:=x;exact⟨mA,⟨od,es,ep,k _ _ (.inl rfl) e,c⟩,r⟩
 |kT lo hi=>obtain⟨t,u,v,e⟩:=x;exact⟨t,u,v,k _ _ (.inl rfl) e⟩
 |jm ob u ih=>obtain⟨e,q⟩:=x;exact⟨k _ _ (.inl rfl) e,ih q⟩
 |nO ps =>
  have e:h.get? a=some { cls:=.none,data:=.fields ps }:=x;show h'.get? a=some { cls:=.none,data:=.fields ps };exact k a _ (.inl rfl) e
 |met f y =>
  have e:h.get? a=some (PySem.W.methodObj (.ref f) (.ref y)):=x;show h'.get? a=some (PySem.W.methodObj (.ref f) (.ref y));exact k a _ (.inl rfl) e
 |ext φ=>obtain⟨p,⟨o,e⟩,st⟩:=x;exact⟨st _ _ p λo q=>k _ _ (.inl rfl) q,⟨o,k _ _ (.inl rfl) e⟩,st⟩
theorem fC.lt(x:fC P w H h)(e:H a=some o):a<h.objs.size:=(x a o e).lt
theorem fC.fresh(x:fC P w H h)(e:h.objs.size<=a):H a=none:=by
 cases q:H a with
 |none=>rfl
 |some u=>exact absurd (ay (x.lt q) e) (aZ _)
theorem fC.kept(x:fC P w H h)(k:∀b u,h.get? b=some u->h'.get? b=some u):fC P w H h':=λa o e =>
 (x a o e).R8 (λb u _ q=>k b u q) (λ_ q=>q) λ_ _ q=>q
theorem fC.laid(x:fC P w H h)(k:∀b u,h.get? b=some u->h'.get? b=some u)(hp:h.objs.size<=a)(new:k7 P w (upd H a o) h' a o):fC P w (upd H a o) h':=λb u e=>by
 have hn:=x.fresh hp;by_cases hb:b=a
 ·subst hb;rw[p6] at e;cases e;exact new
 ·rw[f6 hb] at e;exact(x b u e).R8 (λc v _ q=>k c v q) (λc q=>by rw[f6 (j9 q hn)];exact q) λc xs q=>by rw[f6 (j9 q hn)];exact q
def Rd(H:Hp)(a:Addr)(u:HO):Prop:=H a=some u\/∃o,H a=some (.jm o u)
theorem Rd.ok{u:HO}(r:Rd H a u)(x:fC P w H h):k7 P w H h a u:=by
 rcases r with r|⟨o,r⟩
 ·exact x a u r
 ·obtain⟨_,q⟩:=x a _ r;exact q
def vh:Option HO->Prop
 |some (.lst _)=>True
 |some (.dK _)=>True
 |some (.dT _)=>True
 |some (.set _ _)=>True
 |some (.ins _ _ _)=>True
 |some (.ext _)=>True
 |_=>False
section
variable{x e:Addr}{o':HO}
theorem fC.write(ok:fC P w H h)(mu:vh (H x))(he:e=x\/H e=some (.own x))(k:∀b u,b≠e->h.get? b=some u->h'.get? b=some u)(om:∃u,h'.get? e=some u)(new:k7 P w (upd H x o') h' x o'):fC P w (upd H x o') h':=λb u q=>by
 have sR:∀c y,H c=some (.own y)->c≠x:=λc y r z=>by subst z;rw[r] at mu;exact mu
 have xW:∀c xs,H c=some (.tup xs)->c≠x:=λc xs r z=>by subst z;rw[r] at mu;exact mu
 by_cases hb:b=x
 ·subst hb;rw[p6] at q;cases q;exact new
 ·rw[f6 hb] at q;by_cases pW:b=e
  ·have q':H b=some (.own x):=by
    rcases he with z|z
    ·exact absurd (pW.trans z) hb
    ·rw[pW];exact z
   rw[q] at q';cases q';obtain⟨v,hv⟩:=om;exact⟨v,by rw[pW];exact hv⟩
  ·refine(ok b u q).R8 (λc v hc r=>k c v ?_ r) (λc r=>by rw[f6 (sR c b r)];exact r) λc xs r=>by rw[f6 (xW c xs r)];exact r
   rcases hc with rfl|hc
   ·exact pW
   ·rintro rfl;rcases he with z|z
    ·exact sR c b hc z
    ·rw[hc] at z;cases z;exact hb rfl
end
structure Un(fs ex:List Addr)(H H':Hp)(h h':Heap):Prop where
 keep:∀b o,h.get? b=some o->H b=none->b∉fs->b∉ex->h'.get? b=some o
 slot:∀b o,h.get? b=some o->H b=none->b∈fs->b∉ex->∃sl,h'.get? b=some { o with slots:=sl }
 free:∀b o,h.get? b=some o->H b=none->b∉ex->H' b=none
 there:∀b o,h.get? b=some o->b∉ex->∃o',h'.get? b=some o'
 gZ:∀b xs,H b=some (.tup xs)->H' b=some (.tup xs)
 gN:∀b o u,H b=some (.jm o u)->H' b=some (.jm o u)
 hJ:∀b ps,H b=some (.nO ps)->∃more,H' b=some (.nO (ps++more))
section
variable{fs ex:List Addr}{H1:Hp}{h1:Heap}{x e:Addr}
theorem Un.any(u:Un fs ex H H1 h h1){ob:Obj}(q:h.get? b=some ob)(n:H b=none)(hx:b∉ex):∃sl,h1.get? b=some { ob with slots:=sl }:=by
 by_cases hb:b∈fs
 ·exact u.slot b ob q n hb hx
 ·exact⟨ob.slots,u.keep b ob q n hb hx⟩
theorem Un.kept(k:∀b u,h.get? b=some u->h'.get? b=some u):Un fs ex H H h h' :=
 ⟨λb ob q _ _ _=>k b ob q,λb ob q _ _ _=>⟨ob.slots,k b ob q⟩,λ_ _ _ n _=>n,λb ob q _=>⟨ob,k b ob q⟩,λ_ _ q=>q,λ_ _ _ q=>q,λ_ ps q=>⟨#[],by rw[q];simp⟩⟩
theorem Un.refl:Un fs ex H H h h:=Un.kept λ_ _ q=>q
theorem Un.laid(k:∀b u,h.get? b=some u->h'.get? b=some u)(hp:h.objs.size<=a)(hn:H a=none):Un fs ex H (upd H a o) h h' where
 keep:=λb u q _ _ _=>k b u q
 slot:=λb u q _ _ _=>⟨u.slots,k b u q⟩
 free:=λb u q n _=>by rw[f6 (aF (ay (ao q) hp))];exact n
 there:=λb u q _=>⟨u,k b u q⟩
 gZ:=λb xs q=>by rw[f6 (j9 q hn)];exact q
 gN:=λb u xs q=>by rw[f6 (j9 q hn)];exact q
 hJ:=λb ps q=>⟨#[],by rw[f6 (j9 q hn),q];simp⟩
theorem Un.write(mu:vh (H x))(he:e=x\/H e=some (.own x))(k:∀b u,b≠e->h.get? b=some u->h'.get? b=some u)(om:∃u,h'.get? e=some u):Un fs ex H (upd H x o) h h':=by
 have hx:∀b,H b=none->b≠x:=λb n z=>by subst z;rw[n] at mu;exact mu
 have hb:∀b,H b=none->b≠e:=λb n z=>by
  subst z;rcases he with r|r
  ·exact hx b n r
  ·rw[n] at r;cases r
 have hm:∀b u,H b=some u->¬vh (some u)->b≠x:=λb u q nm z=>by subst z;rw[q] at mu;exact nm mu
 refine ⟨λb u q n _ _=>k b u (hb b n) q,λb u q n _ _=>⟨u.slots,k b u (hb b n) q⟩,λb u q n _=>by rw [f6 (hx b n)];exact n,λb u q _=>?_,
  λb xs q=>by rw [f6 (hm b _ q λz=>z)];exact q,λb u xs q=>by rw [f6 (hm b _ q λz=>z)];exact q,λb ps q=>⟨#[],by rw [f6 (hm b _ q λz=>z),q];simp⟩⟩
 by_cases pW:b=e
 ·subst pW;exact om
 ·exact⟨u,k b u pW q⟩
end
def nh(h:Heap)(H:Hp):List Addr:=(List.range h.objs.size).filter λa=>(H a).isSome
def X2(h:Heap)(H:Hp):Heap:=PySem.W.hideAll h (nh h H)
theorem Ut(h:Heap)(H:Hp):(X2 h H).objs.size=h.objs.size:=PySem.W.hideAll_size _ _
theorem SF{o:Obj}(e:h.get? b=some o)(n:H b=none):(X2 h H).get? b=some o :=
 BS _ e λhm=>by
  have q:(H b).isSome=true:=(cJ.mp hm).2;rw[n] at q;simp at q
theorem Qy{o:Obj}(e:(X2 h H).get? b=some o):h.get? b=some o/\H b=none:=by
 have e':h.get? b=some o:=Iu (nh h H) e;refine⟨e',?_⟩;cases q:H b with
 |none=>rfl
 |some x =>
  have hm:b∈nh h H:=cJ.mpr ⟨mY.mpr (ao e'),by simp[q]⟩;have z:(X2 h H).get? b=none:=PySem.W.hideAll_none (nh h H) hm;rw[z] at e;cases e
structure Mod(K:PySem.W.Frag)(mg:Str->Option Value)(base:Heap):Prop where
 mI:K.In base
 glob:base.Ns mainGlobals mg
 blt:∃mb,base.Ns builtinsNs mb/\∀x:Str,x≠"__name__"->mb x=bootBuiltins x
 nolimit:base.NoLimit
structure Cx where
 prog:Program
 w:World
 K:PySem.W.Frag
 mg:Str->Option Value
 base:Heap
 A:Around
 N:List Str
 cR:Shared
 iU:Hp
 env:Env
 outer:List Env
 stack:List Env
 ex:List Addr
 fn:Str->Bool
 calm:Bool
 pn:List (Addr×Obj)
 xe:Value->Shared->Prop
def ft(l:List Env):List Addr:=l.filterMap (·.frame)
noncomputable abbrev Cx.fs(X:Cx):List Addr:=ft X.outer
def xk(sc:Scope)(x:Str):Prop:=sc.names.lookup x=some .local\/sc.names.lookup x=some .cell\/sc.names.lookup x=some .free
def Loc(sc:Scope)(x:Str):Prop:=sc.names.lookup x=some .local\/sc.names.lookup x=some .cell
def Look(env:Env)(h:Heap)(m:Str->Option Value)(x:Str)(u:Value):Prop :=
 (env.kindOf x=some .local/\m x=some u)\/((env.kindOf x=some .cell\/env.kindOf x=some .free)/\∃c,env.cells.lookup x=some c/\h.IsCell c (some u))
structure Cx.Ok(X:Cx):Prop where
 mod:Mod X.K X.mg X.base
 kind:X.env.scope.kind=.function
 glob:X.env.globals=mainGlobals
 blt:X.env.builtins=builtinsNs
 above:X.cR.heap.objs.size<=X.env.locals
 inj:∀x y c,X.env.cells.lookup x=some c->X.env.cells.lookup y=some c->x=y
 has:∀x,(X.env.kindOf x=some .cell\/X.env.kindOf x=some .free)->∃c,X.env.cells.lookup x=some c
 oC:∀x c,X.fn x=true->X.env.cells.lookup x=some c->X.cR.heap.objs.size<=c
 hd:X.calm=true->X.A.handled=none
 frames:X.A.frames=some X.stack
 pj:X.stack=X.outer\/(X.stack=X.env::X.outer/\X.env.frame=some X.env.locals)
 uv:∀b∈X.ex,b≠X.env.locals/\∀x c,X.env.cells.lookup x=some c->c≠b
 bs:∀b o,X.base.get? b=some o->X.cR.heap.get? b=some o/\X.iU b=none
 ml:X.base.objs.size<=X.cR.heap.objs.size
 jG:∀b o,X.base.get? b=some o->b∉X.ex
 kl:∀b∈X.ex,b∉X.fs
 F5:X.cR.heap.FunFrames X.base X.outer
 mR:∀b∈X.fs,X.iU b=none
structure Inv(X:Cx)(pins:List (Addr×Obj))(Z:List (Option V))(H:Hp)(s:Shared):Prop where
 ok:X.Ok
 os:s.os=X.cR.os
 bare:AllBare s.gens
 base:Un X.fs X.ex X.iU H X.cR.heap s.heap
 loc:∃m,s.heap.Ns X.env.locals m/\∀(i:Nat) (x:Str) (v:V),X.N[i]?=some x->Z[i]?=some (some v)->xk X.env.scope x->∃u,RelV v u/\Look X.env s.heap m x u
 cell:∀x c,X.env.cells.lookup x=some c->∃v,s.heap.IsCell c v
 free:H X.env.locals=none
 dU:∀x c,X.env.cells.lookup x=some c->H c=none
 pin:∀p∈X.pn++pins,s.heap.get? p.1=some p.2/\H p.1=none/\p.1≠X.env.locals/\p.1∉X.fs/\∀v,p.2.data≠.cell v
 bC:fC X.prog X.w H s.heap
 len:Z.length=X.N.length
section
variable{Z:List (Option V)}
theorem Cx.Ok.Rk(ok:X.Ok){o:Obj}(e:X.base.get? b=some o):b∉X.fs:=λhb=>by
 have:=(ok.F5.mem hb).1;rw[e] at this;cases this
theorem Inv.bs(I:Inv X pins Z H s):∀b o,X.base.get? b=some o->s.heap.get? b=some o/\H b=none:=λb o e =>
 ⟨I.base.keep b o (I.ok.bs b o e).1 (I.ok.bs b o e).2 (I.ok.Rk e) (I.ok.jG b o e),I.base.free b o (I.ok.bs b o e).1 (I.ok.bs b o e).2 (I.ok.jG b o e)⟩
theorem Inv.bk(I:Inv X pins Z H s):∀b o,X.base.get? b=some o->s.heap.get? b=some o:=λb o e=>(I.bs b o e).1
theorem Inv.mod(I:Inv X pins Z H s):Mod X.K X.mg X.base:=I.ok.mod
theorem Inv.gg(I:Inv X pins Z H s):X.K.In s.heap:=I.ok.mod.mI.keeps I.bk
theorem Inv.lt(I:Inv X pins Z H s):X.env.locals<s.heap.objs.size:=let ⟨_,hn,_⟩:=I.loc;hn.lt
theorem Inv.sz(I:Inv X pins Z H s):X.cR.heap.objs.size<=s.heap.objs.size:=aM I.ok.above (cK I.lt)
theorem Inv.uO(I:Inv X pins Z H s)(h:s.heap.objs.size<=a):a∉X.fs:=λhb=>by
 obtain⟨_,o,ho,_⟩:=I.ok.F5.mem hb;exact absurd (ay (ao ho) (aM I.sz h)) (aZ _)
theorem Inv.qg(I:Inv X pins Z H s):∀x c,X.env.cells.lookup x=some c->c≠X.env.locals:=λx c e z=>by
 obtain⟨v,o,ho,hd⟩:=I.cell x c e;obtain⟨m,⟨o',es,ep,lO,yN,_⟩,_⟩:=I.loc;rw[z,lO] at ho;cases ho;rw[yN] at hd;cases hd
theorem Inv.F5(I:Inv X pins Z H s):s.heap.FunFrames X.base X.outer:=by
 have all:∀(l:List Env),(∀b∈ft l,b∈X.fs)->X.cR.heap.FunFrames X.base l->s.heap.FunFrames X.base l:=by
  intro l
  induction l with
  |nil=>intro _ _;trivial
  |cons env r ih =>
   intro hs hl;obtain⟨hk,⟨L,o,hf,hn,ho,hd⟩,hr⟩:=hl;have hL:L∈X.fs:=hs L (by unfold ft;rw[dR,hf];exact fH);obtain⟨sl,e⟩:=I.base.slot L o ho (I.ok.mR L hL) hL λz=>I.ok.kl L z hL;exact⟨hk,⟨L,_,hf,hn,e,hd⟩,ih (λb hb=>hs b (by unfold ft;rw[dR,hf];exact bH _ hb)) hr⟩
 exact all X.outer (λ_ hb=>hb) I.ok.F5
theorem Inv.stack(I:Inv X pins Z H s):s.heap.FunFrames X.base X.stack:=by
 rcases I.ok.pj with e|⟨e,hf⟩
 ·rw[e];exact I.F5
 ·rw[e];obtain⟨m,hn,_⟩:=I.loc;refine .cons (by rw[I.ok.kind];decide) hf hn ?_ I.F5;exact Heap.get?_none_of_le (aM I.ok.ml I.ok.above)
theorem Inv.J5(I:Inv X pins Z H s):∀b∈ft X.stack,b∈X.env.locals::X.fs:=λb hb=>by
 rcases I.ok.pj with e|⟨e,hf⟩
 ·rw[e] at hb;exact bH _ hb
 ·rw[e] at hb;unfold ft at hb;rw[dR,hf] at hb;exact hb
theorem Inv.xa(I:Inv X pins Z H s):∀b∈ft X.stack,H b=none:=λb hb=>by
 rcases aA.mp (I.J5 b hb) with e|hb
 ·rw[e];exact I.free
 ·obtain⟨_,o,ho,_⟩:=I.ok.F5.mem hb;exact I.base.free b o ho (I.ok.mR b hb) λz=>I.ok.kl b z hb
theorem Inv.step{g':Array GenState}{t':Nat}{d':Drawn}{ch:List Addr}(I:Inv X pins Z H s)(mP:∀b∈ch,(b∈X.ex\/X.cR.heap.objs.size<=b)/\b≠X.env.locals/\(∀x c,X.env.cells.lookup x=some c->c≠b)/\∀p∈X.pn++pins,p.1≠b)(keep:∀b o,b≠X.env.locals->b∉X.fs->b∉ch->s.heap.get? b=some o->H b=none->h'.get? b=some o)(slot:∀b o,b≠X.env.locals->b∈X.fs->b∉ch->s.heap.get? b=some o->H b=none->∃sl,h'.get? b=some { o with slots:=sl })(free:∀b o,b∉ch->s.heap.get? b=some o->H b=none->H' b=none)(there:∀b o,b∉ch->s.heap.get? b=some o->∃o',h'.get? b=some o')(gZ:∀b xs,H b=some (.tup xs)->H' b=some (.tup xs))(gN:∀b o u,H b=some (.jm o u)->H' b=some (.jm o u))(hJ:∀b ps,H b=some (.nO ps)->∃more,H' b=some (.nO (ps++more)))(ns:∀m,s.heap.Ns X.env.locals m->h'.Ns X.env.locals m)(bC:fC X.prog X.w H' h')(hg:AllBare g') :
  Inv X pins Z H' { s with heap:=h',gens:=g',drawn:=d',toks:=t' }:=by
 have Cw:∀b o,X.cR.heap.get? b=some o->b≠X.env.locals:=λb o e=>aF (ay (ao e) I.ok.above);have nT:∀b o,X.cR.heap.get? b=some o->b∉X.ex->b∉ch:=λb o e hx hb=>by
  rcases(mP b hb).1 with z|z
  ·exact hx z
  ·exact absurd (ay (ao e) z) (aZ _)
 have cellK:∀x c,X.env.cells.lookup x=some c->∀v,s.heap.IsCell c v->h'.IsCell c v:=λx c e v bh=>by
  obtain⟨o,ho,hd⟩:=bh;have sW:c∉ch:=λz=>(mP c z).2.2.1 x c e rfl;by_cases hc:c∈X.fs
  ·obtain⟨sl,q⟩:=slot c o (I.qg x c e) hc sW ho (I.dU x c e);exact⟨_,q,hd⟩
  ·exact⟨o,keep c o (I.qg x c e) hc sW ho (I.dU x c e),hd⟩
 refine⟨I.ok,I.os,hg,⟨λb o e n hb hx=>?_,λb o e n hb hx=>?_,λb o e n hx=>?_,λb o e hx=>?_,λb xs e=>gZ b xs (I.base.gZ b xs e),λb o xs e=>gN b o xs (I.base.gN b o xs e),λb ps e=>?_⟩,?_,λx c e=>?_,?_,λx c e=>?_,λp hp=>?_,bC,I.len⟩
 ·exact keep b o (Cw b o e) hb (nT b o e hx) (I.base.keep b o e n hb hx) (I.base.free b o e n hx)
 ·obtain⟨sl,e1⟩:=I.base.slot b o e n hb hx;obtain⟨IU,e2⟩:=slot b _ (Cw b o e) hb (nT b o e hx) e1 (I.base.free b o e n hx);exact⟨IU,e2⟩
 ·obtain⟨o',e1⟩:=I.base.there b o e hx;exact free b o' (nT b o e hx) e1 (I.base.free b o e n hx)
 ·obtain⟨o',e1⟩:=I.base.there b o e hx;exact there b o' (nT b o e hx) e1
 ·obtain⟨m1,e1⟩:=I.base.hJ b ps e;obtain⟨m2,e2⟩:=hJ b _ e1;exact⟨m1++m2,by rw[e2,Iz]⟩
 ·obtain⟨m,hn,hl⟩:=I.loc;refine⟨m,ns m hn,λi x v e1 e2 e3=>?_⟩;obtain⟨u,r,l⟩:=hl i x v e1 e2 e3;refine⟨u,r,?_⟩;rcases l with l|⟨k,c,e,z⟩
  ·exact .inl l
  ·exact .inr ⟨k,c,e,cellK x c e _ z⟩
 ·obtain⟨v,z⟩:=I.cell x c e;exact⟨v,cellK x c e v z⟩
 ·obtain⟨m,⟨o,_,_,ho,_⟩,_⟩:=I.loc;exact free _ o (λz=>(mP _ z).2.1 rfl) ho I.free
 ·obtain⟨v,o,ho,hd⟩:=I.cell x c e;exact free c o (λz=>(mP c z).2.2.1 x c e rfl) ho (I.dU x c e)
 ·obtain⟨e,n,ne,nf,d⟩:=I.pin p hp;have sW:p.1∉ch:=λz=>(mP p.1 z).2.2.2 p hp rfl;exact⟨keep p.1 p.2 ne nf sW e n,free p.1 p.2 sW e n,ne,nf,d⟩
theorem Inv.un{t':Nat}(I:Inv X pins Z H s)(u:Un X.fs [] H H' s.heap h')(bC:fC X.prog X.w H' h'):Inv X pins Z H' { s with heap:=h',toks:=t' }:=by
 obtain⟨m,⟨o,es,ep,ho,r⟩,_⟩:=id I.loc;obtain⟨sl,hL⟩:=u.any ho I.free (by simp);exact I.step (g':=s.gens) (d':=s.drawn) (ch:=[]) (λ_ z=>nomatch z) (λb o _ hb _ e n=>u.keep b o e n hb (by simp)) (λb o _ hb _ e n=>u.slot b o e n hb (by simp)) (λb o _ e n=>u.free b o e n (by simp)) (λb o _ e=>u.there b o e (by simp)) u.gZ u.gN u.hJ (λm' hm=>by
  obtain⟨o',zC,zD,lO,r'⟩:=hm;rw[ho] at lO;cases lO;exact ⟨_,zC,zD,hL,r'⟩) bC I.bare
theorem Inv.call{g':Array GenState}{t':Nat}{d':Drawn}(I:Inv X pins Z H s)(u:Un (ft X.stack) ch H H' s.heap h')(bC:fC X.prog X.w H' h')(hg:AllBare g')(mP:∀b∈ch,(b∈X.ex\/X.cR.heap.objs.size<=b)/\b≠X.env.locals/\(∀x c,X.env.cells.lookup x=some c->c≠b)/\∀p∈X.pn++pins,p.1≠b) :
  Inv X pins Z H' { s with heap:=h',gens:=g',drawn:=d',toks:=t' }:=by
 obtain⟨m,⟨o,es,ep,ho,r⟩,_⟩:=id I.loc;obtain⟨sl,hL⟩:=u.any ho I.free λz=>(mP _ z).2.1 rfl;exact I.step (ch:=ch) mP (λb o hL hb hc e n=>u.keep b o e n (λz=>(aA.mp (I.J5 b z)).elim hL hb) hc) (λb o _ _ hc e n=>u.any e n hc) (λb o hc e n=>u.free b o e n hc) (λb o hc e=>u.there b o e hc) u.gZ u.gN u.hJ (λm' hm=>by
  obtain⟨o',zC,zD,lO,r'⟩:=hm;rw[ho] at lO;cases lO;exact ⟨_,zC,zD,hL,r'⟩) bC hg
theorem Inv.turned{t':Nat}{it:Addr}(I:Inv X pins Z H s)(k:∀b o,b≠it->s.heap.get? b=some o->h'.get? b=some o)(hn:H it=none)(hL:it≠X.env.locals)(h1:it∈X.ex\/X.cR.heap.objs.size<=it)(h2:∀x c,X.env.cells.lookup x=some c->c≠it)(h3:∀p∈X.pn++pins,p.1≠it):Inv X pins Z H { s with heap:=h',toks:=t' }:=by
 have Cv:∀b u,H b=some u->b≠it:=λb u e z=>by rw[z,hn] at e;cases e
 refine I.step (g':=s.gens) (d':=s.drawn) (ch:=[it]) (λb hb=>?_) (λb o _ _ hc e _=>k b o (λz=>hc (by simp[z])) e) (λb o _ _ hc e _=>⟨o.slots,k b o (λz=>hc (by simp[z])) e⟩) (λ_ _ _ _ n=>n)
  (λb o hc e=>⟨o,k b o (λz=>hc (by simp[z])) e⟩) (λ_ _ e=>e) (λ_ _ _ e=>e) (λb ps e=>⟨#[],by rw[e];simp⟩) (λm hm=>?_) (λb u e=>?_) I.bare
 ·have e:b=it:=by simpa using hb
  subst e;exact⟨h1,hL,h2,h3⟩
 ·obtain⟨o,es,ep,ho,r⟩:=hm;exact⟨o,es,ep,k _ o (bB hL) ho,r⟩
 ·refine(I.bC b u e).R8 (λc v hc q=>k c v ?_ q) (λ_ q=>q) λ_ _ q=>q;rcases hc with z|z
  ·rw[z];exact Cv b u e
  ·exact Cv c _ z
theorem Inv.tok(I:Inv X pins Z H s)(t:Nat):Inv X pins Z H { s with toks:=t }:=I.un (h':=s.heap) (t':=t) Un.refl I.bC
theorem Inv.kept{t':Nat}(I:Inv X pins Z H s)(k:∀b u,s.heap.get? b=some u->h'.get? b=some u):Inv X pins Z H { s with heap:=h',toks:=t' }:=I.un (Un.kept k) (I.bC.kept k)
theorem Inv.laid{a:Addr}{o:HO}{t':Nat}(I:Inv X pins Z H s)(k:∀b u,s.heap.get? b=some u->h'.get? b=some u)(hp:s.heap.objs.size<=a)(new:k7 X.prog X.w (upd H a o) h' a o) :
  Inv X pins Z (upd H a o) { s with heap:=h',toks:=t' }:=I.un (Un.laid k hp (I.bC.fresh hp)) (I.bC.laid k hp new)
theorem Inv.write{x e:Addr}{o:HO}{t':Nat}(I:Inv X pins Z H s)(mu:vh (H x))(he:e=x\/H e=some (.own x))(k:∀b u,b≠e->s.heap.get? b=some u->h'.get? b=some u)(om:∃u,h'.get? e=some u)(new:k7 X.prog X.w (upd H x o) h' x o):Inv X pins Z (upd H x o) { s with heap:=h',toks:=t' }:=I.un (Un.write mu he k om) (I.bC.write mu he k om new)
theorem Inv.weak{bI:List (Option V)}(I:Inv X pins Z H s)(hl:bI.length=Z.length)(w:∀(i:Nat) v,bI[i]?=some (some v)->Z[i]?=some (some v)):Inv X pins bI H s :=
 ⟨I.ok,I.os,I.bare,I.base,let ⟨m,hn,jU⟩:=I.loc;⟨m,hn,λi x v e1 e2 e3=>jU i x v e1 (w i v e2) e3⟩,I.cell,I.free,I.dU,I.pin,I.bC,hl.trans I.len⟩
theorem Inv.F7{iw:List (Addr×Obj)}(I:Inv X pins Z H s)(h:∀p∈iw,s.heap.get? p.1=some p.2/\H p.1=none/\p.1≠X.env.locals/\p.1∉X.fs/\∀v,p.2.data≠.cell v):Inv X iw Z H s :=
 ⟨I.ok,I.os,I.bare,I.base,I.loc,I.cell,I.free,I.dU,λp hp=>(aI.mp hp).elim (λz=>I.pin p (bo _ z)) (h p),I.bC,I.len⟩
theorem Ep(hN:N.Nodup)(a:N[i]?=some x)(b:N[j]?=some x):i=j:=by
 obtain⟨h1,e1⟩:=aq.mp a;obtain⟨h2,e2⟩:=aq.mp b;exact(List.getElem_inj hN).mp (e1.trans e2.symm)
theorem EZ{Q:Unit->Shared->Prop}(I:Inv X pins Z H s)(hN:X.N.Nodup)(hi:X.N[i]?=some x)(hx:Loc X.env.scope x)(r:RelV v u)(h:∀s',Inv X pins (Z.set i (some v)) H s'->(∃a,Heap.SameBut a s.heap s'.heap/\(a=X.env.locals\/X.env.cells.lookup x=some a))->Q () s')(hf:X.fn x=true\/X.env.scope.names.lookup x=some .local:=by first|exact .inl rfl|exact .inr rfl|assumption):wpAny M A (storeName X.env x u) Q E s:=by
 obtain⟨m,hn,hl⟩:=id I.loc;have nD:(X.env.scope.kind==.class||(X.env.scope.kind==.module&&X.env.locals != X.env.globals))=false:=by rw[I.ok.kind];rfl
 have tP:i<Z.length:=by rw[I.len];exact(aq.mp hi).1
 have qg:=I.qg;have tracked:∀{a:Addr} {h':Heap},(∃o,s.heap.get? a=some o/\H a=none)->Heap.SameBut a s.heap h'->fC X.prog X.w H h':=λ{a h'} ha hs b ob e=>by
  obtain⟨_,_,lQ⟩:=ha;refine(I.bC b ob e).R8 (λc w' hc q=>(hs.2 c ?_).trans q) (λ_ q=>q) λ_ _ q=>q;rintro rfl;rcases hc with rfl|hc
  ·rw[lQ] at e;cases e
  ·rw[lQ] at hc;cases hc
 rcases hx with hk|hk
 ·refine wpAny_storeName_local hk hn (λh' JD hs=>?_) nD;obtain⟨oL,_,_,kH,_⟩:=id hn;refine h _ ⟨I.ok,I.os,I.bare,⟨λb o e n hb hx=>?_,λb o e n hb hx=>?_,I.base.free,λb o e hx=>?_,I.base.gZ,I.base.gN,I.base.hJ⟩,⟨_,JD,λj y v' e1 e2 e3=>?_⟩,λy c e=>?_,I.free,I.dU,λp hp=>?_,tracked ⟨oL,kH,I.free⟩ hs,by simpa using I.len⟩ ⟨_,hs,.inl rfl⟩
  ·exact(hs.2 b (aF (ay (ao e) I.ok.above))).trans (I.base.keep b o e n hb hx)
  ·obtain⟨sl,e1⟩:=I.base.slot b o e n hb hx;exact⟨sl,(hs.2 b (aF (ay (ao e) I.ok.above))).trans e1⟩
  ·obtain⟨o',e1⟩:=I.base.there b o e hx;exact⟨o',(hs.2 b (aF (ay (ao e) I.ok.above))).trans e1⟩
  ·by_cases hj:j=i
   ·subst hj;rw[hi] at e1;cases e1;rw[aR tP] at e2;cases e2;exact⟨u,r,.inl ⟨hk,by simp⟩⟩
   ·rw[av (bB hj)] at e2;obtain⟨u',r',q⟩:=hl j y v' e1 e2 e3;refine⟨u',r',?_⟩;rcases q with⟨k,e⟩|⟨k,c,e,z⟩
    ·refine .inl ⟨k,?_⟩;have:y≠x:=λe=>hj (Ep hN e1 (e▸hi));simp[this,e]
    ·exact .inr ⟨k,c,e,z.sameBut hs (qg y c e)⟩
  ·obtain⟨w',z⟩:=I.cell y c e;exact⟨w',z.sameBut hs (qg y c e)⟩
  ·obtain⟨e,n,ne,nf,d⟩:=I.pin p hp;exact⟨(hs.2 p.1 ne).trans e,n,ne,nf,d⟩
 ·have qT:X.fn x=true:=by
   rcases hf with z|z
   ·exact z
   ·rw[z] at hk;cases hk
  obtain⟨c,hc⟩:=I.ok.has x (.inl hk);obtain⟨w',z⟩:=I.cell x c hc;refine wpAny_storeName_cell I.ok.kind hk hc z (λh' gi hs=>?_);obtain⟨oc,yz,yy⟩:=id z;refine h { s with heap:=h' } ⟨I.ok,I.os,I.bare,⟨λb o e n hb hx=>?_,λb o e n hb hx=>?_,I.base.free,λb o e hx=>?_,I.base.gZ,I.base.gN,I.base.hJ⟩,⟨m,hn.sameBut hs (bB (qg x c hc)),λj y v' e1 e2 e3=>?_⟩,λy c' e=>?_,I.free,I.dU,λp hp=>?_,tracked ⟨oc,yz,I.dU x c hc⟩ hs,by simpa using I.len⟩ ⟨c,hs,.inr hc⟩
  ·exact(hs.2 b (aF (ay (ao e) (I.ok.oC x c qT hc)))).trans (I.base.keep b o e n hb hx)
  ·obtain⟨sl,e1⟩:=I.base.slot b o e n hb hx;exact⟨sl,(hs.2 b (aF (ay (ao e) (I.ok.oC x c qT hc)))).trans e1⟩
  ·obtain⟨o',e1⟩:=I.base.there b o e hx;exact⟨o',(hs.2 b (aF (ay (ao e) (I.ok.oC x c qT hc)))).trans e1⟩
  ·by_cases hj:j=i
   ·subst hj;rw[hi] at e1;cases e1;rw[aR tP] at e2;cases e2;exact⟨u,r,.inr ⟨.inl hk,c,hc,gi⟩⟩
   ·rw[av (bB hj)] at e2;obtain⟨u',r',q⟩:=hl j y v' e1 e2 e3;refine⟨u',r',?_⟩;rcases q with q|⟨k,c',e,z'⟩
    ·exact .inl q
    ·refine .inr ⟨k,c',e,z'.sameBut hs ?_⟩;rintro rfl;exact hj (Ep hN e1 (I.ok.inj _ _ _ e hc▸hi))
  ·by_cases qU:c'=c
   ·subst qU;exact⟨_,gi⟩
   ·obtain⟨w2,z2⟩:=I.cell y c' e;exact⟨w2,z2.sameBut hs qU⟩
  ·obtain⟨e,n,ne,nf,d⟩:=I.pin p hp;refine⟨(hs.2 p.1 ?_).trans e,n,ne,nf,d⟩;intro q;rw[q,yz] at e;have q':oc=p.2:=aH e;exact d w' (by rw[<- q'];exact yy)
theorem U9{Q:Unit->Shared->Prop}(I:Inv X pins Z H s)(hN:X.N.Nodup)(hi:X.N[i]?=some x)(hx:Loc X.env.scope x)(r:RelV v u)(h:∀s',Inv X pins (Z.set i (some v)) H s'->Q () s')(hf:X.fn x=true\/X.env.scope.names.lookup x=some .local:=by first|exact .inl rfl|exact .inr rfl|assumption):wpAny M A (storeName X.env x u) Q E s :=
 EZ I hN hi hx r (λs' I' _=>h s' I') hf
theorem Inv.Bh{s':Shared}(I:Inv X pins Z H s)(ho:s'.os=s.os)(u:Un (ft X.stack) ch H H' s.heap s'.heap)(bC:fC X.prog X.w H' s'.heap)(hg:AllBare s'.gens)(mP:∀b∈ch,(b∈X.ex\/X.cR.heap.objs.size<=b)/\b≠X.env.locals/\(∀x c,X.env.cells.lookup x=some c->c≠b)/\∀p∈X.pn++pins,p.1≠b):Inv X pins Z H' s':=by
 obtain⟨h',g',d',t',o'⟩:=s';have e:o'=s.os:=ho;subst e;exact I.call (g':=g') (t':=t') (d':=d') u bC hg mP
end
noncomputable abbrev XK:=Value->Option Addr->Hp->Prop
noncomputable abbrev St:=List (Option V)
noncomputable abbrev VK:=V->Hp->Prop
noncomputable abbrev TE:=St->Hp->VK->Prop
noncomputable abbrev TT:=St->Hp->(Bool->Hp->Prop)->Prop
noncomputable abbrev TA:=St->Hp->(List V->Hp->Prop)->Prop
structure Ends where
 nx:St->Hp->Prop
 rt:VK
 bk:St->Hp->Prop:=λ_ _=>False
 ct:St->Hp->Prop:=λ_ _=>False
noncomputable abbrev TS:=Ends->St->Hp->Prop
def EP(X:Cx)(pins:List (Addr×Obj))(Z:St)(Q:VK)(u:Value)(s':Shared):Prop:=∃v H',Inv X pins Z H' s'/\RelV v u/\Q v H'
def TP(X:Cx)(pins:List (Addr×Obj))(Z:St)(Q:Bool->Hp->Prop)(b:Bool)(s':Shared):Prop:=∃H',Inv X pins Z H' s'/\Q b H'
def AP(X:Cx)(pins:List (Addr×Obj))(Z:St)(Q:List V->Hp->Prop)(us:List Value)(s':Shared):Prop:=∃vs H',Inv X pins Z H' s'/\Vals vs us/\Q vs H'
def SP(X:Cx)(pins:List (Addr×Obj))(D:Ends)(f:Flow)(s':Shared):Prop :=
 match f with
 |.next=>∃bI H',Inv X pins bI H' s'/\D.nx bI H'
 |.brk=>∃bI H',Inv X pins bI H' s'/\D.bk bI H'
 |.cont=>∃bI H',Inv X pins bI H' s'/\D.ct bI H'
 |.ret u=>∃v bI H',Inv X pins bI H' s'/\RelV v u/\D.rt v H'
def PE(X:Cx)(e:Expr)(t:TE):Prop :=
 ∀(pins:List (Addr×Obj)) (s:Shared) (Z:St) (H:Hp) (Q:VK),Inv X pins Z H s->t Z H Q->wpAny (model X.prog X.w) X.A (eval e X.env) (EP X pins Z Q) X.xe s
def PT(X:Cx)(e:Expr)(t:TT):Prop :=
 ∀(pins:List (Addr×Obj)) (s:Shared) (Z:St) (H:Hp) (Q:Bool->Hp->Prop),Inv X pins Z H s->t Z H Q->wpAny (model X.prog X.w) X.A (isTrue e X.env (eval e X.env)) (TP X pins Z Q) X.xe s
def PW(X:Cx)(e:Expr)(t:TT):Prop :=
 ∀(whole:Sem Value) (pins:List (Addr×Obj)) (s:Shared) (Z:St) (H:Hp) (Q:Bool->Hp->Prop),Inv X pins Z H s->t Z H Q->wpAny (model X.prog X.w) X.A (isTrue e X.env whole) (TP X pins Z Q) X.xe s
theorem PW.pt{t:TT}(h:PW X e t):PT X e t:=h _
def PA(X:Cx)(es:List Expr)(t:TA):Prop :=
 ∀(pos:Pos) (pins:List (Addr×Obj)) (s:Shared) (Z:St) (H:Hp) (Q:List V->Hp->Prop),Inv X pins Z H s->t Z H Q->wpAny (model X.prog X.w) X.A (spliced (backTo pos (starEach es X.env))) (AP X pins Z Q) X.xe s
def PS(X:Cx)(st:Stmt)(t:TS):Prop :=
 ∀(pins:List (Addr×Obj)) (s:Shared) (Z:St) (H:Hp) (D:Ends),Inv X pins Z H s->t D Z H->wpAny (model X.prog X.w) X.A (exec st X.env) (SP X pins D) X.xe s
def iN(X:Cx)(st:List Stmt)(t:TS):Prop :=
 ∀(pins:List (Addr×Obj)) (s:Shared) (Z:St) (H:Hp) (D:Ends),Inv X pins Z H s->t D Z H->wpAny (model X.prog X.w) X.A (execs st X.env) (SP X pins D) X.xe s
theorem cB{t:Sem α}{Q Q':α->Shared->Prop}(h:wpAny M A t Q E s)(hQ:∀a s,Q a s->Q' a s):wpAny M A t Q' E s:=br h hQ λ_ _ x=>x
section
theorem bin{a b:Expr}(ha:PE X a ta)(hb:PE X b tb){R:V->V->Hp->Prop}(I:Inv X pins Z H s)(h:ta Z H λx H1=>tb Z H1 λy H2=>R x y H2){Q:α->Shared->Prop}{f:Value->Value->Sem α}(hf:∀v u s2 x y H2,Inv X pins Z H2 s2->RelV x v->RelV y u->R x y H2->wpAny (model X.prog X.w) X.A (f v u) Q X.xe s2) :
  wpAny (model X.prog X.w) X.A (eval a X.env) (λv bJ=>wpAny (model X.prog X.w) X.A (eval b X.env) (λu fK=>wpAny (model X.prog X.w) X.A (f v u) Q X.xe fK) X.xe bJ) X.xe s:=by
 refine cB (ha pins s Z H _ I h) λv s1 bh=>?_;obtain⟨x,H1,I1,r1,q1⟩:=bh;refine cB (hb pins s1 Z H1 _ I1 q1) λu s2 bh=>?_;obtain⟨y,H2,I2,r2,q2⟩:=bh;exact hf v u s2 x y H2 I2 r1 r2 q2
def LD(i:Nat):TE:=λZ H Q=>∃v,Z[i]?=some (some v)/\Q v H
def tC(v:V):TE:=λ_ H Q=>Q v H
theorem OA(hN:X.N[i]?=some x)(hv:xk X.env.scope x)(hd:(x==("__debug__":Str))=false:=by decide)(kJ:(x==("__classdict__":Str))=false:=by decide):PE X (.Name x pos) (LD i):=by
 intro pins s Z H Q I h;obtain⟨v,e,h⟩:=h;obtain⟨m,hn,hl⟩:=I.loc;obtain⟨u,r,l⟩:=hl i x v hN e hv;have fin:EP X pins Z Q u s:=⟨v,H,I,r,h⟩
 rcases l with⟨hk,hm⟩|⟨hk,c,hc,oo⟩
 ·exact wpAny_Name (wpAny_loadName_local I.ok.kind hk hn hm fin) hd
 ·rcases hk with hk|hk
  ·exact wpAny_Name (wpAny_loadName_cell I.ok.kind hk hc oo fin) hd
  ·exact wpAny_Name (wpAny_loadName_free I.ok.kind hk hc oo fin kJ) hd
theorem Ot{i j pos}:PE X (.Constant (.int i) j pos) (tC (.int i)):=λ_ _ _ H _ I h=>wpAny_Constant_int ⟨.int i,H,I.tok _,⟨_,rfl⟩,h⟩
theorem MH{b j pos}:PE X (.Constant (.bool b) j pos) (tC (.bl b)):=λ_ _ _ H _ I h=>Constant_bool ⟨.bl b,H,I,rfl,h⟩
theorem Ov{j pos}:PE X (.Constant .none j pos) (tC .bL):=λ_ _ _ H _ I h=>Constant_none ⟨.bL,H,I,rfl,h⟩
theorem Oy{x j pos}:PE X (.Constant (.str x) j pos) (tC (.str x)):=λ_ _ _ H _ I h=>Calls.Constant_str ⟨.str x,H,I.tok _,⟨_,rfl⟩,h⟩
def Gl(X:Cx)(x:Str):Prop:=X.env.kindOf x=some .globalImplicit
theorem L5(I:Inv X pins Z H s)(hg:Gl X x)(hm:X.mg x=some u)(h:Q u s)(hd:(x==("__debug__":Str))=false:=by decide):wpAny (model X.prog X.w) X.A (eval (.Name x pos) X.env) Q E s :=
 xy I.ok.kind hg (Calls.loadGlobal_global (by rw[I.ok.glob];exact I.mod.glob.keeps I.bk) hm h) hd
theorem N1(I:Inv X pins Z H s)(hg:Gl X x)(hm:X.mg x=none)(hv:bootBuiltins x=some u)(h:Q u s)(hn:x≠"__name__":=by decide)(hd:(x==("__debug__":Str))=false:=by decide):wpAny (model X.prog X.w) X.A (eval (.Name x pos) X.env) Q E s:=by
 obtain⟨mb,h1,h2⟩:=I.mod.blt;exact xy I.ok.kind hg (Calls.loadGlobal_builtin (by rw[I.ok.glob];exact I.mod.glob.keeps I.bk) hm (by rw[I.ok.blt];exact h1.keeps I.bk) ((h2 x hn).trans hv) h) hd
theorem wX(hg:Gl X x)(hm:X.mg x=some u)(r:RelV v u)(hd:(x==("__debug__":Str))=false:=by decide):PE X (.Name x pos) (tC v) :=
 λ_ _ _ H _ I h=>L5 I hg hm ⟨v,H,I,r,h⟩ hd
theorem Wj(hg:Gl X x)(hm:X.mg x=none)(hv:bootBuiltins x=some u)(r:RelV v u)(hn:x≠"__name__":=by decide)(hd:(x==("__debug__":Str))=false:=by decide):PE X (.Name x pos) (tC v) :=
 λ_ _ _ H _ I h=>N1 I hg hm hv ⟨v,H,I,r,h⟩ hn hd
variable{a b:Expr}
variable{tA vA:TT}{rest:List Expr}
def Lp(t u:TT):TT:=λZ H Q=>t Z H λc H1=>if c=true then u Z H1 Q else Q false H1
def IL(t u:TT):TT:=λZ H Q=>t Z H λc H1=>if c=true then Q true H1 else u Z H1 Q
def Lw(t:TT):TT:=λZ H Q=>t Z H λc H1=>Q (!c) H1
theorem Wy(ha:PT X a tA):PW X (.BoolOp .And [a] pos) tA:=by
 intro wh pins s Z H Q I h;refine isTrue_and (cB (ha pins s Z H Q I h) λc s1 e=>?_);cases c with
 |true=>exact isTrue_and_nil e
 |false=>exact e
theorem OM(ha:PT X a tA):PW X (.BoolOp .Or [a] pos) tA:=by
 intro wh pins s Z H Q I h;refine isTrue_or (cB (ha pins s Z H Q I h) λc s1 e=>?_);cases c with
 |false=>exact isTrue_or_nil e
 |true=>exact e
theorem OL(ha:PT X a tA)(hb:PW X (.BoolOp .And (b::rest) pos) vA):PW X (.BoolOp .And (a::b::rest) pos) (Lp tA vA):=by
 intro wh pins s Z H Q I h;refine isTrue_and (cB (ha pins s Z H _ I h) λc s1 ⟨H1,I1,q1⟩=>?_);cases c with
 |true=>exact hb wh pins s1 Z H1 Q I1 q1
 |false=>exact⟨H1,I1,q1⟩
theorem MO(ha:PT X a tA)(hb:PW X (.BoolOp .Or (b::rest) pos) vA):PW X (.BoolOp .Or (a::b::rest) pos) (IL tA vA):=by
 intro wh pins s Z H Q I h;refine isTrue_or (cB (ha pins s Z H _ I h) λc s1 ⟨H1,I1,q1⟩=>?_);cases c with
 |true=>exact⟨H1,I1,q1⟩
 |false=>exact hb wh pins s1 Z H1 Q I1 q1
theorem OK(ha:PT X a tA):PT X (.UnaryOp .Not a pos) (Lw tA):=by
 intro pins s Z H Q I h;exact isTrue_not (ha pins s Z H (λc H1=>Q (!c) H1) I h)
def Na(ta tb:TE):TE:=λZ H Q=>ta Z H λx H1=>∃c,x=.bl c/\if c=true then tb Z H1 Q else Q (.bl false) H1
def Lx(ta tb:TE):TE:=λZ H Q=>ta Z H λx H1=>∃c,x=.bl c/\if c=true then Q (.bl true) H1 else tb Z H1 Q
def Nf(ta:TE):TE:=λZ H Q=>ta Z H λx H1=>∃c,x=.bl c/\Q (.bl (!c)) H1
theorem Ox{op}{t:TE}(h:PE X a t):PE X (.BoolOp op [a] pos) t:=λpins s Z H Q I hw=>BoolOp_one (h pins s Z H Q I hw)
theorem Om(ha:PE X a ta)(hb:PE X (.BoolOp .And (b::rest) pos) tb):PE X (.BoolOp .And (a::b::rest) pos) (Na ta tb):=by
 intro pins s Z H Q I h;refine BoolOp_and (cB (ha pins s Z H _ I h) λv s1 bh=>?_);obtain⟨x,H1,I1,r1,q1⟩:=bh;obtain⟨c,rfl,q1⟩:=q1;cases r1;refine bE ?_;cases c with
 |true=>exact hb pins s1 Z H1 Q I1 q1
 |false=>exact⟨.bl false,H1,I1,rfl,q1⟩
theorem MK(ha:PE X a ta)(hb:PE X (.BoolOp .Or (b::rest) pos) tb):PE X (.BoolOp .Or (a::b::rest) pos) (Lx ta tb):=by
 intro pins s Z H Q I h;refine BoolOp_or (cB (ha pins s Z H _ I h) λv s1 bh=>?_);obtain⟨x,H1,I1,r1,q1⟩:=bh;obtain⟨c,rfl,q1⟩:=q1;cases r1;refine bE ?_;cases c with
 |false=>exact hb pins s1 Z H1 Q I1 q1
 |true=>exact⟨.bl true,H1,I1,rfl,q1⟩
theorem Ow(ha:PE X a ta):PE X (.UnaryOp .Not a pos) (Nf ta):=by
 intro pins s Z H Q I h;refine UnaryOp_ (cB (ha pins s Z H _ I h) λv s1 bh=>?_);obtain⟨x,H1,I1,r1,q1⟩:=bh;obtain⟨c,rfl,q1⟩:=q1;cases r1;exact not_of (bE ⟨.bl (!c),H1,I1,rfl,q1⟩)
def IM(t:TT)(ta tb:TE):TE:=λZ H Q=>t Z H λc H1=>if c=true then ta Z H1 Q else tb Z H1 Q
theorem Ta(hc:PT X c tA)(ha:PE X a ta)(hb:PE X b tb):PE X (.IfExp c a b pos) (IM tA ta tb):=by
 intro pins s Z H Q I h;refine wpAny_IfExp (cB (hc pins s Z H _ I h) λd s1 ⟨H1,I1,q1⟩=>?_);cases d with
 |true=>exact ha pins s1 Z H1 Q I1 q1
 |false=>exact hb pins s1 Z H1 Q I1 q1
end
def fj(K:PySem.W.Frag)(H:Hp)(a:Addr)(xs:List V):Prop :=
 Rd H a (.lst xs) \/
  ∃(o:Obj) (aQ:Array Value) (n:Nat),K.lookup a=some o/\o.cls=.type "list"/\o.dict=none/\o.data=.seq aQ n/\aQ.size<=sizeLine/\Vals xs aQ.toList
def hZ(K:PySem.W.Frag)(H:Hp)(a:Addr)(xs:List V):Prop :=
 Rd H a (.tup xs) \/
  ∃(o:Obj) (aQ:Array Value) (n:Nat),K.lookup a=some o/\o.cls=.type "tuple"/\o.data=.seq aQ n/\aQ.size<=sizeLine/\Vals xs aQ.toList
def QG:Value->Option V
 |.none=>some .bL
 |.bool b=>some (.bl b)
 |.int i _=>some (.int i)
 |.str x _=>some (.str x)
 |.bytes b _=>some (.kz b)
 |.float b _=>some (.qd b)
 |.ref a=>some (.ref a)
 |.type n=>some (.ty n)
 |_=>none
theorem RelV.abs{x:V}(r:RelV x u):QG u=some x:=by
 cases x with
 |bL=>cases r;rfl
 |bl _=>cases r;rfl
 |int _=>obtain⟨t,rfl⟩:=r;rfl
 |str _=>obtain⟨t,rfl⟩:=r;rfl
 |kz _=>obtain⟨t,rfl⟩:=r;rfl
 |qd _=>obtain⟨t,rfl⟩:=r;rfl
 |ref _=>cases r;rfl
 |ty _=>cases r;rfl
theorem RelV.inj{x y:V}{u:Value}(r:RelV x u)(q:RelV y u):x=y:=aH (r.abs.symm.trans q.abs)
theorem Vals.inj{xs ys:List V}{us:List Value}(h:Vals xs us)(h':Vals ys us):xs=ys:=by
 induction h generalizing ys with
 |nil=>cases h';rfl
 |cons r t ih =>
  cases h' with
  |cons r' t'=>rw[r.inj r',ih t']
section
variable{ys:List V}
theorem fj.of(h:H a=some (.lst xs)):fj K H a xs:=.inl (.inl h)
theorem Inv.list(I:Inv X pins Z H s)(h:fj X.K H a xs):∃aQ:List Value,Vals xs aQ/\PlainL s.heap a aQ.toArray/\xs.length<=sizeLine:=by
 rcases h with h|⟨o,aQ,n,hk,hc,hd,hs,hz,r⟩
 ·obtain⟨z,aQ,n,r,e⟩:=h.ok I.bC;exact⟨aQ,r,⟨_,n,e,rfl,rfl,rfl⟩,z⟩
 ·refine⟨aQ.toList,r,⟨o,n,I.gg a o hk,hc,hd,by simpa using hs⟩,?_⟩;have e:=r.length;simp only[Array.length_toList] at e;omega
theorem Inv.tuple(I:Inv X pins Z H s)(h:hZ X.K H a xs):∃aQ:List Value,Vals xs aQ/\IsTup s.heap a aQ.toArray/\xs.length<=sizeLine:=by
 rcases h with h|⟨o,aQ,n,hk,hc,hs,hz,r⟩
 ·obtain⟨z,aQ,r,p⟩:=h.ok I.bC;exact⟨aQ,r,p.tup,z⟩
 ·refine⟨aQ.toList,r,⟨o,I.gg a o hk,hc,n,by simpa using hs⟩,?_⟩;have e:=r.length;simp only[Array.length_toList] at e;omega
theorem Inv.El(I:Inv X pins Z H s)(h:fj X.K H a xs)(h':fj X.K H a ys):xs=ys:=by
 obtain⟨aQ,r,⟨o,n,e,_,_,d⟩,_⟩:=I.list h;obtain⟨its',r',⟨o',n',e',_,_,d'⟩,_⟩:=I.list h';rw[e] at e';cases e';rw[d] at d';injection d' with d1 _;have:aQ=its':=by simpa using dI Array.toList d1
 subst this;exact r.inj r'
theorem Inv.Vi(I:Inv X pins Z H s)(h:hZ X.K H a xs)(h':hZ X.K H a ys):xs=ys:=by
 obtain⟨aQ,r,⟨o,e,_,n,d⟩,_⟩:=I.tuple h;obtain⟨its',r',⟨o',e',_,n',d'⟩,_⟩:=I.tuple h';rw[e] at e';cases e';rw[d] at d';injection d' with d1 _;have:aQ=its':=by simpa using dI Array.toList d1
 subst this;exact r.inj r'
end
noncomputable abbrev Cx.U6(X:Cx)(E:Value->Shared->Prop):Cx:={ X with xe:=E }
theorem Cx.Ok.U6{X:Cx}(ok:X.Ok)(E:Value->Shared->Prop):(X.U6 E).Ok :=
 ⟨ok.mod,ok.kind,ok.glob,ok.blt,ok.above,ok.inj,ok.has,ok.oC,ok.hd,ok.frames,ok.pj,ok.uv,ok.bs,ok.ml,ok.jG,ok.kl,ok.F5,ok.mR⟩
theorem Cx.Ok.Af(ok:(X.U6 E).Ok):X.Ok :=
 ⟨ok.mod,ok.kind,ok.glob,ok.blt,ok.above,ok.inj,ok.has,ok.oC,ok.hd,ok.frames,ok.pj,ok.uv,ok.bs,ok.ml,ok.jG,ok.kl,ok.F5,ok.mR⟩
theorem Inv.U6(I:Inv X pins Z H s)(E:Value->Shared->Prop):Inv (X.U6 E) pins Z H s:=⟨I.ok.U6 E,I.os,I.bare,I.base,I.loc,I.cell,I.free,I.dU,I.pin,I.bC,I.len⟩
theorem Inv.Af(I:Inv (X.U6 E) pins Z H s):Inv X pins Z H s:=⟨I.ok.Af,I.os,I.bare,I.base,I.loc,I.cell,I.free,I.dU,I.pin,I.bC,I.len⟩
section
variable{st:Stmt}{rest:List Stmt}{t u:TS}
def HW:TS:=λD Z H=>D.nx Z H
def LB(t u:TS):TS:=λD Z H=>t { D with nx:=u D } Z H
theorem Wv:iN X [] HW:=λ_ _ Z H _ I h=>jq ⟨Z,H,I,h⟩
theorem Tj(h1:PS X st t)(h2:iN X rest u):iN X (st::rest) (LB t u):=by
 intro pins s Z H D I h;refine wpAny_execs_cons (cB (h1 pins s Z H { D with nx:=u D } I h) λf s1 q=>?_);cases f with
 |next =>
  obtain⟨bI,H',I',q⟩:=q;exact h2 pins s1 bI H' D I' q
 |ret v=>exact q
 |brk=>exact q
 |cont=>exact q
theorem Wt:PS X (.Pass pos) HW:=λ_ _ Z H _ I h=>wpAny_Pass ⟨Z,H,I,h⟩
theorem Inv.quiet(I:Inv X pins Z H s):interactive X.env=false:=by simp[interactive,I.ok.kind]
def Nd(te:TE):TS:=λD Z H=>te Z H λ_ H1=>D.nx Z H1
theorem Ws(he:PE X e te)(hs:swapsWith e none pos.line X.env=pure false:=by rfl):PS X (.Expr e pos) (Nd te):=by
 intro pins s Z H D I h;exact wpAny_Expr_any (cB (he pins s Z H _ I h) λv s1 ⟨x,H1,I1,r1,q1⟩=>⟨Z,H1,I1,q1⟩) I.quiet hs
def Lz(te:TE):TS:=λD Z H=>te Z H D.rt
theorem OI(he:PE X e te):PS X (.Return (some e) pos) (Lz te):=by
 intro pins s Z H D I h;exact wpAny_Return_some (cB (he pins s Z H _ I h) λv s1 ⟨x,H1,I1,r1,q1⟩=>⟨x,Z,H1,I1,r1,q1⟩)
def Nh:TS:=λD _ H=>D.rt .bL H
theorem Wu:PS X (.Return none pos) Nh:=λ_ _ Z H _ I h=>wpAny_Return_none ⟨.bL,Z,H,I,rfl,h⟩
def Lu(c:TT)(t u:TS):TS:=λD Z H=>c Z H λb H1=>if b=true then t D Z H1 else u D Z H1
theorem MN{a b:List Stmt}{tc:TT}(hc:PT X c tc)(ha:iN X a t)(hb:iN X b u):PS X (.If c a b pos) (Lu tc t u):=by
 intro pins s Z H D I h;refine wpAny_If (cB (hc pins s Z H _ I h) λd s1 ⟨H1,I1,q1⟩=>?_);cases d with
 |true=>exact ha pins s1 Z H1 D I1 q1
 |false=>exact hb pins s1 Z H1 D I1 q1
end
noncomputable abbrev TG:=V->St->Hp->(St->Hp->Prop)->Prop
noncomputable abbrev oJ:=List V->St->Hp->(St->Hp->Prop)->Prop
def PG(X:Cx)(target:Expr)(t:TG):Prop :=
 ∀(pins:List (Addr×Obj)) (s:Shared) (Z:St) (H:Hp) (v:V) (u:Value) (Q:St->Hp->Prop),Inv X pins Z H s->RelV v u->t v Z H Q ->
  wpAny (model X.prog X.w) X.A (assign target X.env u) (λ_ s'=>∃bI H',Inv X pins bI H' s'/\Q bI H') X.xe s
def vg(X:Cx)(ts:List Expr)(t:oJ):Prop :=
 ∀(pins:List (Addr×Obj)) (s:Shared) (Z:St) (H:Hp) (vs:List V) (us:List Value) (Q:St->Hp->Prop),Inv X pins Z H s->Vals vs us->t vs Z H Q ->
  wpAny (model X.prog X.w) X.A (assignInOrder ((assignEach ts X.env).map (·.2)) us) (λ_ s'=>∃bI H',Inv X pins bI H' s'/\Q bI H') X.xe s
noncomputable abbrev BB:=V->V->V->Hp->(Hp->Prop)->Prop
def BA(X:Cx)(t:BB):Prop :=
 ∀(pins:List (Addr×Obj)) (s:Shared) (Z:St) (H:Hp) (o i v:V) (ov iv u:Value) (Q:Hp->Prop),Inv X pins Z H s->RelV o ov->RelV i iv->RelV v u->t o i v H Q ->
  wpAny (model X.prog X.w) X.A (setItem ov iv u) (λ_ s'=>∃H',Inv X pins Z H' s'/\Q H') X.xe s
def rG(i:Nat):TG:=λv Z H Q=>Q (Z.set i (some v)) H
theorem GP(hN:X.N.Nodup)(hi:X.N[i]?=some x)(hx:Loc X.env.scope x)(hf:X.fn x=true\/X.env.scope.names.lookup x=some .local:=by first|exact .inl rfl|exact .inr rfl|assumption):PG X (.Name x pos) (rG i):=by
 intro pins s Z H v u Q I r h;exact wpAny_assign_Name (U9 I hN hi hx r (λs' I'=>⟨_,H,I',h⟩) hf)
def DO:oJ:=λvs Z H Q=>vs=[]/\Q Z H
def HC(t:TG)(u:oJ):oJ:=λvs Z H Q=>∃v r,vs=v::r/\t v Z H λbI H'=>u r bI H' Q
theorem Wo:vg X [] DO:=by
 intro pins s Z H vs us Q I r h;obtain⟨e,h⟩:=h;subst e;cases r;exact assignInOrder_nil ⟨Z,H,I,h⟩
theorem Td{t:TG}{u:oJ}(h1:PG X e t)(h2:vg X es u)(hs:(assignEach (e::es) X.env).map (·.2)=assign e X.env::(assignEach es X.env).map (·.2):=by rfl):vg X (e::es) (HC t u):=by
 intro pins s Z H vs us Q I r h;obtain⟨v,vr,e1,h⟩:=h;subst e1;cases r with
 |cons r rr =>
  rw[hs];refine vt (cB (h1 pins s Z H _ _ _ I r h) λ_ s1 bh=>?_);obtain⟨gP,H1,I1,q1⟩:=bh;exact h2 pins s1 gP H1 _ _ Q I1 rr q1
def QR(K:PySem.W.Frag)(n:Nat)(t:oJ):TG:=λv Z H Q=>∃a xs,v=.ref a/\hZ K H a xs/\xs.length=n/\t xs Z H Q
theorem OC{t:oJ}{n:Nat}(hc:X.calm=true)(h:vg X es t)(hn:(assignEach es X.env).length=n:=by rfl)(dg:(assignEach es X.env).findIdx? (·.1)=none:=by rfl):PG X (.Tuple es k pos) (QR X.K n t):=by
 intro pins s Z H v u Q I r hw;obtain⟨a,xs,e1,hq,hl,hw⟩:=hw;subst e1;cases r;obtain⟨aQ,rv,ht,hz⟩:=I.tuple hq;refine assign_Tuple_tuple (I.ok.hd hc) ht (by simp[hn,<- hl,rv.length]) dg λh' hx=>?_;have I1:Inv X pins Z H { s with heap:=h' }:=I.kept (t':=s.toks) λb o e=>hx b o (aF (ao e)) e;exact h pins _ Z H xs _ Q I1 (by simpa using rv) hw
def QQ(to ti:TE)(t:BB):TG:=λv Z H Q=>to Z H λo H1=>ti Z H1 λi H2=>t o i v H2 λH3=>Q Z H3
theorem OB{o i:Expr}{to ti:TE}{t:BB}(ho:PE X o to)(hi:PE X i ti)(hs:BA X t)(ha:∀ v,assign (.Subscript o i pos) X.env v=(do
   let ov <- holding [v] (eval o X.env)
   let iv <- holding [v,ov] (eval i X.env)
   standAt pos
   holding [v,ov,iv] (setItem ov iv v)
   release [v,ov,iv] []):=by intro _;rfl):PG X (.Subscript o i pos) (QQ to ti t):=by
 intro pins s Z H v u Q I r h;rw[ha];refine aa (bw (cB (ho pins s Z H _ I h) λov s1 bh=>?_));obtain⟨x,H1,I1,r1,q1⟩:=bh;refine aa (bw (cB (hi pins s1 Z H1 _ I1 q1) λiv s2 bh=>?_));obtain⟨y,H2,I2,r2,q2⟩:=bh;refine aa (eJ (aa (bw (cB (hs pins s2 Z H2 x y v ov iv u _ I2 r1 r2 r q2) λ_ s3 ⟨H3,I3,q3⟩=>?_))));exact wpAny_release ⟨Z,H3,I3,q3⟩
def uP(te:TE)(g:TG):TS:=λD Z H=>te Z H λx H1=>g x Z H1 D.nx
theorem Ga{g:TG}(he:PE X e te)(hg:PG X tg g)(hs:swapsWithSole [tg] e pos.line X.env=pure false:=by rfl)(hw:swappedStores [tg] e X.env=pure none:=by rfl)(h1:(assignEach [tg] X.env).map (·.2)=[assign tg X.env]:=by rfl):PS X (.Assign [tg] e pos) (uP te g):=by
 intro pins s Z H D I h;refine wpAny_Assign_stores (cB (he pins s Z H _ I h) λv s1 bh=>?_) hs hw;obtain⟨x,H1,I1,r1,q1⟩:=bh;rw[h1];exact cB (hg pins s1 Z H1 x v _ I1 r1 q1) λ_ s2 q=>q
theorem Gb{pos':Pos}(hN:X.N.Nodup)(hi:X.N[i]?=some x)(hx:Loc X.env.scope x)(he:PE X e te)(hs:swapsWith e (some (.Name x pos')) pos.line X.env=pure false:=by rfl)(hf:X.fn x=true\/X.env.scope.names.lookup x=some .local:=by first|exact .inl rfl|exact .inr rfl|assumption) :
  PS X (.Assign [.Name x pos'] e pos) (uP te (rG i)):=by
 intro pins s Z H D I h;refine wpAny_Assign_Name (cB (he pins s Z H _ I h) λv s1 bh=>?_) hs;obtain⟨y,H1,I1,r1,q1⟩:=bh;exact U9 I1 hN hi hx r1 (λs2 I2=>⟨_,H1,I2,q1⟩) hf
def Ly(i j:Nat)(ta:TA):TS:=λD Z H=>ta Z H λvs H1=>∃v w,vs=[v,w]/\D.nx ((Z.set i (some v)).set j (some w)) H1
theorem OG{y:Str}{a b:Expr}{ta:TA}{px py pt:Pos}{kt k2 nS}(hc:X.calm=true)(hN:X.N.Nodup)(hi:X.N[i]?=some x)(hj:X.N[j]?=some y)(ja:i≠j)(hx:X.env.scope.names.lookup x=some .local)(hy:X.env.scope.names.lookup y=some .local)(ha:PA X [a,b] ta)(hw:swappedStores [.Tuple [.Name x px,.Name y py] kt pt] (.Tuple [a,b] k2 nS) X.env=pure (some [x,y]))(hs:swapsWithSole [.Tuple [.Name x px,.Name y py] kt pt] (.Tuple [a,b] k2 nS) pos.line X.env=pure false:=by rfl) :
  PS X (.Assign [.Tuple [.Name x px,.Name y py] kt pt] (.Tuple [a,b] k2 nS) pos) (Ly i j ta):=by
 intro pins s Z H D I h;rw[exec_Assign_arm];refine aa (eJ ?_);rw[hs];refine aa (ai ?_);rw[aB (by decide)];refine aa (Tuple_ (cB (ha _ pins s Z H _ I h) λus s1 bh=>?_));obtain⟨vs,H1,I1,r1,q1⟩:=bh;obtain⟨v,w,e1,q1⟩:=q1;subst e1;obtain⟨u1,u2,rfl,rv,fF⟩:∃u1 u2,us=[u1,u2]/\RelV v u1/\RelV w u2:=by
  cases r1 with
  |cons p q =>
   cases q with
   |cons p' q' =>
    cases q';exact⟨_,_,rfl,p,p'⟩
 refine bq ?_ (by show 2<=sizeLine;decide);have I2:Inv X pins Z H1 { s1 with heap:=s1.heap.push { cls:=.type "tuple",data:=.seq [u1,u2].toArray } }:=I1.kept (t':=s1.toks) λb o e=>ag _ e;rw[hw];refine aa (ai ?_);show wpAny (model X.prog X.w) X.A (do rule "assign.swapped-stores";let items <- unpackItems (.ref s1.heap.objs.size) 2 none;assignInOrder [λv=>bindName X.env y v,λv=>bindName X.env x v] items.reverse;pure Flow.next) _ _ _;refine aa (eO (aa (unpackItems_tuple (items:=#[u1,u2]) (I.ok.hd hc) (IsTup.new s1.heap _) λh' nW=>?_)));have I3:=I2.kept (h':=h') (t':=s1.toks) λb o e=>nW b o (aF (ao e)) e;show wpAny _ _ (assignInOrder [λv=>bindName X.env y v,λv=>bindName X.env x v] [u2,u1] >>= λ_=>pure Flow.next) _ _ _;refine aa (vt (wpAny_bindName (U9 I3 hN hj (.inl hy) fF (λs2 I4=>?_) (.inr hy))));refine vt (wpAny_bindName (U9 I4 hN hi (.inl hx) rv (λs3 I5=>assignInOrder_nil (ai ?_)) (.inr hx)));rw[List.set_comm _ _ (bB ja)] at I5;exact⟨_,H1,I5,q1⟩
def Py(c:TT)(tb:TS):TS:=λD Z H=>∃W:Nat->St->Hp->Prop,(∃m,W m Z H)/\∀m Z H,W m Z H ->
 c Z H λb H1=>if b=true then ∃N:St->Hp->Prop,(∀bI H',N bI H'->∃m',m'<m/\W m' bI H')/\tb { D with nx:=N,ct:=N,bk:=D.nx } Z H1 else D.nx Z H1
theorem Ti{tc:TT}{tb:TS}(hp:PassesOwn (model X.prog X.w) X.A X.env X.xe)(hc:PT X c tc)(hb:iN X body tb):PS X (.While c body [] pos) (Py tc tb):=by
 intro pins s Z H D I h;obtain⟨W,⟨m0,w0⟩,turn⟩:=h;refine wpAny_While (codeAny_whileLoop (λn s'=>∃bI H',Inv X pins bI H' s'/\W n bI H') ?_ m0 ⟨Z,H,I,w0⟩);rintro n s1 ⟨gP,H1,I1,w1⟩;refine dH hp (cB (hc pins s1 gP H1 _ I1 (turn n gP H1 w1)) λb s2 ⟨H2,I2,q2⟩=>?_);cases b with
 |true =>
  obtain⟨N,hN,q2⟩:=q2;rw[aE rfl];refine dH hp (cB (hb pins s2 gP H2 _ I2 q2) λf s3 q3=>?_);cases f with
  |next =>
   obtain⟨gY,H3,I3,n3⟩:=q3;obtain⟨m',hm,w3⟩:=hN gY H3 n3;exact⟨m',hm,gY,H3,I3,w3⟩
  |cont =>
   obtain⟨gY,H3,I3,n3⟩:=q3;obtain⟨m',hm,w3⟩:=hN gY H3 n3;exact⟨m',hm,gY,H3,I3,w3⟩
  |brk=>exact q3
  |ret v=>exact q3
 |false =>
  rw[aB dq];exact jq ⟨gP,H2,I2,q2⟩
structure It where
 go:Nat->Hp->Prop
 oV:Nat->Hp->V->Hp->Prop
 stop:Nat->Hp->Prop
def A9(X:Cx)(pins:List (Addr×Obj))(H:Hp)(b:Addr):Prop :=
 H b=none/\b≠X.env.locals/\b∉X.fs/\(b∈X.ex\/X.cR.heap.objs.size<=b)/\(∀x c,X.env.cells.lookup x=some c->c≠b)/\∀p∈X.pn++pins,p.1≠b
theorem Inv.qk(I:Inv X pins Z H s)(hb:s.heap.objs.size<=b)(hn:H' b=none):A9 X pins H' b:=by
 refine⟨hn,bU (ay I.lt hb),I.uO hb,.inr (aM I.sz hb),λx c e z=>?_,λp hp z=>?_⟩
 ·obtain⟨v,q⟩:=I.cell x c e;exact absurd (ay q.lt (by rw[z];exact hb)) (aZ _)
 ·exact absurd (ay (ao (I.pin p hp).1) (by rw[z];exact hb)) (aZ _)
structure Turn(P:Program)(w:World)(K:PySem.W.Frag)(tg:Expr)(J:It)(fp:List Addr)(it:Addr)(tn:Nat->Heap->Prop):Prop where
 mem:it∈fp
 obj:∀i h,tn i h->∀b∈fp,∃o,h.get? b=some o/\∀v,o.data≠.cell v
 keep:∀i h h',tn i h->(∀b∈fp,∀o,h.get? b=some o->h'.get? b=some o)->tn i h'
 item:∀(X:Cx),X.prog=P->X.w=w->X.K=K->X.calm=true->∀(i:Nat) (pins:List (Addr×Obj)) (s:Shared) (Z:St) (H:Hp) (E:Value->Shared->Prop),Inv X pins Z H s->(∀b∈fp,A9 X pins H b)->tn i s.heap->J.go i H ->
  wpAny (model P w) X.A (pyNext (.ref it)) (λr s1=>∃ u,r=some u /\
   wpAny (model P w) X.A (letOwnedTupleGo tg (.ref it) u) (λ_ s2=>∃ x H',Inv X pins Z H' s2/\RelV x u/\J.oV i H x H'/\tn (i + 1) s2.heap/\∀ b ∈ fp,H' b=none) E s1) E s
 done:∀(X:Cx),X.prog=P->X.w=w->X.K=K->X.calm=true->∀(i:Nat) (pins:List (Addr×Obj)) (s:Shared) (Z:St) (H:Hp) (E:Value->Shared->Prop),Inv X pins Z H s->(∀b∈fp,A9 X pins H b)->tn i s.heap->J.stop i H ->
  wpAny (model P w) X.A (pyNext (.ref it)) (λr s1=>r=none/\Inv X pins Z H s1) E s
 self:∀(A:Around) (i:Nat) (s:Shared) (Q:Value->Shared->Prop) (E:Value->Shared->Prop),tn i s.heap->Q (.ref it) s->wpAny (model P w) A (pyIter (.ref it)) Q E s
noncomputable abbrev TI:=St->Hp->(It->Hp->Prop)->Prop
def Ie(X:Cx)(pins:List (Addr×Obj))(Z:St)(tg:Expr)(R:It->Hp->Prop)(tD:Value)(s2:Shared):Prop :=
 ∃(it:Addr) (fp:List Addr) (tn:Nat->Heap->Prop) (J:It) (H':Hp),tD=.ref it/\Inv X pins Z H' s2/\Turn X.prog X.w X.K tg J fp it tn/\tn 0 s2.heap/\(∀b∈fp,A9 X pins H' b)/\R J H'
def PI(X:Cx)(tg iter:Expr)(wi:TI):Prop :=
 ∀(pins:List (Addr×Obj)) (s:Shared) (Z:St) (H:Hp) (R:It->Hp->Prop),Inv X pins Z H s->wi Z H R ->
  wpAny (model X.prog X.w) X.A (eval iter X.env) (λv s1=>wpAny (model X.prog X.w) X.A (pyIter v) (Ie X pins Z tg R) X.xe s1) X.xe s
theorem Bk{it:Addr}{o:Obj}{n:String}{vs:Array Value}{Q:Unit->Shared->Prop}(ho:s.heap.get? it=some o)(hc:o.cls=.type n)(hd:o.data=.fields vs)(hn:["enumerate","zip","dict_itemiterator","dict_reverseitemiterator","odict_iterator","itertools.zip_longest","itertools.pairwise"].contains n=false)(hQ:Q () s):wpAny M A (letOwnedTupleGo tg (.ref it) u) Q E s:=by
  unfold letOwnedTupleGo;cases tg<;>first
    |exact ai hQ
    | (cases u <;> first
        |exact ai hQ
        | (refine aa (wpAny_load ho ?_)
           rw[hc,hd];show wpAny M A (if(["enumerate","zip","dict_itemiterator","dict_reverseitemiterator","odict_iterator","itertools.zip_longest","itertools.pairwise"].contains n&&vs[0]?==some (rawInt _))=true then _ else _) Q E s;rw[aB (by intro h;rw[hn,mZ] at h;cases h)];exact ai hQ))
def BL(K:PySem.W.Frag)(a:Addr):It :=
 ⟨λi H=>∃xs x,fj K H a xs/\xs[i]?=some x,λi H x H'=>H'=H/\∀xs,fj K H a xs->xs[i]?=some x,λi H=>∃xs,fj K H a xs/\xs.length<=i⟩
def BK(K:PySem.W.Frag)(a:Addr):It :=
 ⟨λi H=>∃xs x,hZ K H a xs/\xs[i]?=some x,λi H x H'=>H'=H/\∀xs,hZ K H a xs->xs[i]?=some x,λi H=>∃xs,hZ K H a xs/\xs.length<=i⟩
def vi(lo:Int)(n:Nat):It:=⟨λi _=>i<n,λi H x H'=>H'=H/\x=.int (lo+i),λi _=>n<=i⟩
theorem Vl(a it:Addr):Turn P w K tg (BL K a) [it] it (λi h=>h.IsListIter it a i) where
 mem:=by simp
 obj:=λi h st b hb=>by
  have e:b=it:=by simpa using hb
  subst e;obtain⟨o,e,c,d⟩:=st;exact⟨o,e,λv z=>by rw[d] at z;cases z⟩
 keep:=λi h h' st k=>st.at λo e=>k it (by simp) o e
 item:=by
  intro X hP hw hK hc i pins s Z H E I hf st hg;subst hP hw hK;obtain⟨xs,x,hq,hx⟩:=hg;obtain⟨aQ,rv,p,hz⟩:=I.list hq;obtain⟨u,hu,ru⟩:=rv.get hx;obtain⟨f0,f1,f2,f3,f4,f5⟩:=hf it (by simp);refine wpAny_pyNext_list_item st p.isList (x:=u) (by simpa using hu) λh' mB sb=>?_;have I1:Inv X pins Z H { s with heap:=h' }:=I.turned (t':=s.toks) (λb o hb e=>(sb.2 b hb).trans e) f0 f1 f3 f4 f5;obtain⟨o,e,c,d⟩:=id mB;exact⟨u,rfl,Bk (s:={ s with heap:=h' }) e c d (by decide) ⟨x,H,I1,ru,⟨rfl,λys hy=>by rw[I.El hy hq];exact hx⟩,mB,λb hb=>(hf b hb).1⟩⟩
 done:=by
  intro X hP hw hK hc i pins s Z H E I hf st hg;subst hP hw hK;obtain⟨xs,hq,hx⟩:=hg;obtain⟨aQ,rv,p,hz⟩:=I.list hq;obtain⟨f0,f1,f2,f3,f4,f5⟩:=hf it (by simp);have hl:=rv.length;exact wpAny_pyNext_list_end (I.ok.hd hc) st p.isList (by simp;omega) λh' eb=>⟨rfl,I.turned (t':=s.toks) (λb o hb e=>eb b o hb e) f0 f1 f3 f4 f5⟩
 self:=λ_ _ _ _ _ st h=>wpAny_pyIter_listiter st h
theorem VW(a it:Addr):Turn P w K tg (BK K a) [it] it (λi h=>h.IsTupleIter it a i) where
 mem:=by simp
 obj:=λi h st b hb=>by
  have e:b=it:=by simpa using hb
  subst e;obtain⟨o,e,c,d⟩:=st;exact⟨o,e,λv z=>by rw[d] at z;cases z⟩
 keep:=λi h h' st k=>st.at λo e=>k it (by simp) o e
 item:=by
  intro X hP hw hK hc i pins s Z H E I hf st hg;subst hP hw hK;obtain⟨xs,x,hq,hx⟩:=hg;obtain⟨aQ,rv,p,hz⟩:=I.tuple hq;obtain⟨u,hu,ru⟩:=rv.get hx;obtain⟨f0,f1,f2,f3,f4,f5⟩:=hf it (by simp);refine wpAny_pyNext_tuple_item st (show s.heap.IsTuple a aQ.toArray from p) (x:=u) (by simpa using hu) λh' mB sb=>?_;have I1:Inv X pins Z H { s with heap:=h' }:=I.turned (t':=s.toks) (λb o hb e=>(sb.2 b hb).trans e) f0 f1 f3 f4 f5;obtain⟨o,e,c,d⟩:=id mB;exact⟨u,rfl,Bk (s:={ s with heap:=h' }) e c d (by decide) ⟨x,H,I1,ru,⟨rfl,λys hy=>by rw[I.Vi hy hq];exact hx⟩,mB,λb hb=>(hf b hb).1⟩⟩
 done:=by
  intro X hP hw hK hc i pins s Z H E I hf st hg;subst hP hw hK;obtain⟨xs,hq,hx⟩:=hg;obtain⟨aQ,rv,p,hz⟩:=I.tuple hq;obtain⟨f0,f1,f2,f3,f4,f5⟩:=hf it (by simp);have hl:=rv.length;exact wpAny_pyNext_tuple_end (I.ok.hd hc) st (show s.heap.IsTuple a aQ.toArray from p) (by simp;omega) λh' eb=>⟨rfl,I.turned (t':=s.toks) (λb o hb e=>eb b o hb e) f0 f1 f3 f4 f5⟩
 self:=λ_ _ _ _ _ st h=>wpAny_pyIter_tupleiter st h
theorem VT(it:Addr)(lo:Int)(n:Nat):Turn P w K tg (vi lo n) [it] it (λi h=>IsRangeIter h it (lo+(i:Nat)*1) ((n:Int)-(i:Nat)) 1) where
 mem:=by simp
 obj:=λi h st b hb=>by
  have e:b=it:=by simpa using hb
  subst e;exact ⟨_,st,λv z=>by
   have z':Data.fields _=Data.cell v:=z;cases z'⟩
 keep:=λi h h' st k=>k it (by simp) _ st
 item:=by
  intro X hP hw hK hc i pins s Z H E I hf st hg;subst hP hw hK;obtain⟨f0,f1,f2,f3,f4,f5⟩:=hf it (by simp);have W:=Walks.range (prog:=X.prog) (w:=X.w) (I.ok.hd hc) it lo 1 n;refine W.item i s _ _ hg st λv h' tk hv mB kk=>?_;obtain⟨t,rfl⟩:=hv;have I1:Inv X pins Z H { s with heap:=h',toks:=tk }:=I.turned (λb o hb e=>kk b o (by simpa using hb) e) f0 f1 f3 f4 f5;refine⟨_,rfl,Bk (s:={ s with heap:=h',toks:=tk }) (n:="range_iterator") mB rfl rfl (by decide) ⟨.int (lo+i),H,I1,⟨t,?_⟩,⟨rfl,rfl⟩,mB,λb hb=>(hf b hb).1⟩⟩;rw[Int.mul_one]
 done:=by
  intro X hP hw hK hc i pins s Z H E I hf st hg;subst hP hw hK;obtain⟨f0,f1,f2,f3,f4,f5⟩:=hf it (by simp);exact wpAny_pyNext_range_end (I.ok.hd hc) st (by have:n<=i:=hg;omega) λh' eb=>⟨rfl,I.turned (t':=s.toks) (λb o hb e=>eb b o hb e) f0 f1 f3 f4 f5⟩
 self:=λ_ _ _ _ _ st h=>wpAny_pyIter_rangeiter st h
theorem Es{R:It->Hp->Prop}{lo hi:Int}{t u v:Tok}{tk:Nat}(I:Inv X pins Z H s)(h1:-(2 ^ 62)<=lo)(h2:lo<2 ^ 62)(h3:-(2 ^ 62)<=hi)(h4:hi<2 ^ 62)(q:R (vi lo (hi-lo).toNat) H):wpAny (model X.prog X.w) X.A (pyIter (.ref s.heap.objs.size)) (Ie X pins Z tg R) E { s with heap:=s.heap.push { cls:=.type "range",data:=.fields #[.int lo t,.int hi u,.int 1 v] },toks:=tk }:=by
 refine wpAny_pyIter_range (IsRange.new ..) (small_one h1 h2 h3 h4) ?_;have I1:Inv X pins Z H { s with heap:=s.heap.push { cls:=.type "range",data:=.fields #[.int lo t,.int hi u,.int 1 v] },toks:=tk }:=I.kept λb o e=>ag _ e;refine ⟨(s.heap.push { cls:=.type "range",data:=.fields #[.int lo t,.int hi u,.int 1 v] }).objs.size,[(s.heap.push { cls:=.type "range",data:=.fields #[.int lo t,.int hi u,.int 1 v] }).objs.size],_,_,H,rfl,
  I1.kept (t':=tk) λb o e=>ag _ e,VT _ lo (hi - lo).toNat,?_,λb hb=>?_,q⟩
 ·have e1:lo+((0:Nat):Int)*1=lo:=by simp
  have e2:(((hi-lo).toNat:Nat):Int)-((0:Nat):Int)=Builtin.Range.rangeSize lo hi 1:=by rw[rangeSize_one];split<;>omega
  show IsRangeIter _ _ (lo+((0:Nat):Int)*1) ((((hi-lo).toNat:Nat):Int)-((0:Nat):Int)) 1;rw[e1,e2];exact aw _ rfl
 ·have e:b=(s.heap.push { cls:=.type "range",data:=.fields #[.int lo t,.int hi u,.int 1 v] }).objs.size:=by simpa using hb
  subst e;exact I1.qk (ak _) (I1.bC.fresh (ak _))
def Md(ta:TA):TI:=λZ H R=>ta Z H λvs H1=>∃j:Int,vs=[.int j]/\-(2 ^ 62)<=j/\j<2 ^ 62/\R (vi 0 j.toNat) H1
def Me(ta:TA):TI:=λZ H R=>ta Z H λvs H1=>∃i j:Int,vs=[.int i,.int j]/\(-(2 ^ 62)<=i/\i<2 ^ 62/\-(2 ^ 62)<=j/\j<2 ^ 62)/\R (vi i (j-i).toNat) H1
theorem UW{a:Expr}{ta:TA}(hg:Gl X "range")(hm:X.mg "range"=none)(ha:PA X [a] ta)(hs:starEach [a] X.env=[(false,eval a X.env)]:=by rfl):PI X tg (.Call (.Name "range" p) [a] [] pos) (Md ta):=by
 intro pins s Z H R I h;refine Call_ (N1 I hg hm boot_range (bY (cB (ha pos pins s Z H _ I h) λus s1 bh=>?_) hs rfl));obtain⟨vs,H1,I1,r1,q1⟩:=bh;obtain⟨j,e,q1,q2,q⟩:=q1;subst e;cases r1 with
 |cons r rr =>
  cases rr;obtain⟨t,rfl⟩:=r;exact call_range_1 (Es I1 (by omega) (by omega) q1 q2 (by simpa using q))
theorem UX{a b:Expr}{ta:TA}(hg:Gl X "range")(hm:X.mg "range"=none)(ha:PA X [a,b] ta)(hs:starEach [a,b] X.env=[(false,eval a X.env),(false,eval b X.env)]:=by rfl)(iM:starEach [b] X.env=[(false,eval b X.env)]:=by rfl) :
  PI X tg (.Call (.Name "range" p) [a,b] [] pos) (Me ta):=by
 intro pins s Z H R I h;refine Call_ (N1 I hg hm boot_range (bY (cB (ha pos pins s Z H _ I h) λus s1 bh=>?_) (by rw[hs,iM]) (by rw[iM];rfl)));obtain⟨vs,H1,I1,r1,q1⟩:=bh;obtain⟨i,j,e,⟨q1,q2,q3,q4⟩,q⟩:=q1;subst e;cases r1 with
 |cons r rr =>
  cases rr with
  |cons r' rr =>
   cases rr;obtain⟨t,rfl⟩:=r;obtain⟨t',rfl⟩:=r';exact call_range_2 (Es I1 q1 q2 q3 q4 q)
def Ls(wi:TI)(g:TG)(tb:TS):TS:=λD Z H=>wi Z H λJ H1=>∃W:Nat->Nat->St->Hp->Prop,(∃m,W 0 m Z H1)/\∀i m Z H,W i m Z H ->
 (J.stop i H/\D.nx Z H)\/(J.go i H/\∃N:St->Hp->Prop,(∀bI H',N bI H'->∃m',m'<m/\W (i+1) m' bI H')/\∀x H',J.oV i H x H'->g x Z H' λcD H2=>tb { D with nx:=N,ct:=N,bk:=D.nx } cD H2)
def T4(fp:List Addr)(h:Heap):List (Addr×Obj):=fp.filterMap λb=>(h.get? b).map λo=>(b,o)
theorem N8{o:Obj}(hb:b∈fp)(e:h.get? b=some o):(b,o)∈T4 fp h:=jA.mpr ⟨b,hb,by rw[e];rfl⟩
theorem UK{p:Addr×Obj}(hp:p∈T4 fp h):p.1∈fp/\h.get? p.1=some p.2:=by
 obtain⟨b,hb,e⟩:=jA.mp hp;cases q:h.get? b with
 |none=>rw[q] at e;cases e
 |some o =>
  rw[q] at e;have e':(b,o)=p:=aH e;subst e';exact⟨hb,q⟩
theorem Inv.pinned(I:Inv X pins Z H s)(hf:∀b∈fp,A9 X pins H b)(ho:∀b∈fp,∃o,s.heap.get? b=some o/\∀v,o.data≠.cell v):Inv X (pins++T4 fp s.heap) Z H s :=
 I.F7 λp hp=>(aI.mp hp).elim (λz=>I.pin p (bf _ z)) λz=>by
  obtain⟨hb,e⟩:=UK z;obtain⟨f0,f1,f2,_⟩:=hf p.1 hb;obtain⟨o,e',d⟩:=ho p.1 hb;rw[e] at e';cases e';exact⟨e,f0,f1,f2,d⟩
theorem Inv.AL{pl:List (Addr×Obj)}(I:Inv X (pins++pl) Z H s):Inv X pins Z H s:=I.F7 λp hp=>I.pin p (bf _ (bo _ hp))
theorem OF{iter:Expr}{wi:TI}{g:TG}{tb:TS}(hp:PassesOwn (model X.prog X.w) X.A X.env X.xe)(hc:X.calm=true)(hi:PI X tg iter wi)(hg:PG X tg g)(hb:iN X body tb)(hs:∀x,foldedSetIterable iter X.env x=pure x:=by intro _;rfl):PS X (.For tg iter body [] pos) (Ls wi g tb):=by
 intro pins s Z H D I h;refine wpAny_For (cB (hi pins s Z H _ I h) λv s1 h1=>cB h1 λtD s2 h2=>?_) hs;obtain⟨it,fp,tn,J,H2,e,I2,T,lA,f2,W,⟨m0,w0⟩,turn⟩:=h2;subst e;have pq:∀{H':Hp},(∀b∈fp,H' b=none)->∀b∈fp,A9 X pins H' b:=λhn b hb=>⟨hn b hb,(f2 b hb).2⟩
 refine codeAny_forLoop_any (λn s'=>∃i bI H',Inv X pins bI H' s'/\tn i s'.heap/\(∀b∈fp,H' b=none)/\W i n bI H') ?_ m0 ⟨0,Z,H2,I2,lA,λb hb=>(f2 b hb).1,w0⟩;rintro n s3 ⟨i,gY,H3,I3,nQ,oA,w3⟩;rcases turn i n gY H3 w3 with⟨stop,qn⟩|⟨go,N,hN,step⟩
 ·refine dH hp (cB (T.done X rfl rfl rfl hc i pins s3 gY H3 X.xe I3 (pq oA) nQ stop) λr s4 ⟨hr,I4⟩=>?_);subst hr;exact jq ⟨gY,H3,I4,qn⟩
 ·refine dH hp (cB (T.item X rfl rfl rfl hc i pins s3 gY H3 X.xe I3 (pq oA) nQ go) λr s4 ⟨u,hr,h4⟩=>?_);subst hr;refine dH hp (cB h4 λ_ s5 bh=>?_);obtain⟨x,H5,I5,r5,y5,lz,uu⟩:=bh;have vj:=I5.pinned (pq uu) (T.obj _ _ lz);refine dH hp (cB (hg _ s5 gY H5 x u _ vj r5 (step x H5 y5)) λ_ s6 bh=>?_);obtain⟨kE,H6,I6,q6⟩:=bh;refine dH hp (cB (hb _ s6 kE H6 _ I6 q6) λf s7 q7=>?_);have again:∀{lp:St} {H7:Hp},Inv X (pins++T4 fp s5.heap) lp H7 s7->N lp H7->∃m,m<n/\∃i bI H',Inv X pins bI H' s7/\tn i s7.heap/\(∀b∈fp,H' b=none)/\W i m bI H':=λ{lp H7} I7 n7=>by
   obtain⟨m',hm,w7⟩:=hN lp H7 n7;refine⟨m',hm,i+1,lp,H7,I7.AL,T.keep _ _ _ lz λb hb o e=>(I7.pin (b,o) (bf _ (bf _ (N8 hb e)))).1,λb hb=>?_,w7⟩;obtain⟨o,e,d⟩:=T.obj _ _ lz b hb;exact(I7.pin (b,o) (bf _ (bf _ (N8 hb e)))).2.1
  cases f with
  |next=>obtain⟨lp,H7,I7,n7⟩:=q7;exact again I7 n7
  |cont=>obtain⟨lp,H7,I7,n7⟩:=q7;exact again I7 n7
  |brk=>obtain⟨lp,H7,I7,q7⟩:=q7;exact⟨lp,H7,I7.AL,q7⟩
  |ret v=>obtain⟨x7,lp,H7,I7,r7,q7⟩:=q7;exact⟨x7,lp,H7,I7.AL,r7,q7⟩
noncomputable abbrev R2:=V->V->Hp->VK->Prop
def fk(X:Cx)(f:Value->Value->Sem Value)(r:R2):Prop :=
 ∀(pins:List (Addr×Obj)) (s:Shared) (Z:St) (H:Hp) (x y:V) (v u:Value) (Q:VK),Inv X pins Z H s->RelV x v->RelV y u->r x y H Q ->
  wpAny (model X.prog X.w) X.A (f v u) (EP X pins Z Q) X.xe s
def xl(X:Cx)(f:Value->Sem Value)(r:V->Hp->VK->Prop):Prop :=
 ∀(pins:List (Addr×Obj)) (s:Shared) (Z:St) (H:Hp) (x:V) (v:Value) (Q:VK),Inv X pins Z H s->RelV x v->r x H Q ->
  wpAny (model X.prog X.w) X.A (f v) (EP X pins Z Q) X.xe s
def j2(X:Cx)(f:Value)(r:List V->Hp->VK->Prop):Prop :=
 ∀(pins:List (Addr×Obj)) (s:Shared) (Z:St) (H:Hp) (xs:List V) (us:List Value) (Q:VK),Inv X pins Z H s->Vals xs us->r xs H Q ->
  wpAny (model X.prog X.w) X.A (call f us) (EP X pins Z Q) X.xe s
def QF(X:Cx)(r:V->Hp->(Bool->Hp->Prop)->Prop):Prop :=
 ∀(pins:List (Addr×Obj)) (s:Shared) (Z:St) (H:Hp) (x:V) (v:Value) (Q:Bool->Hp->Prop),Inv X pins Z H s->RelV x v->r x H Q ->
  wpAny (model X.prog X.w) X.A (truthy v) (TP X pins Z Q) X.xe s
def qD(r:R2)(ta tb:TE):TE:=λZ H Q=>ta Z H λx H1=>tb Z H1 λy H2=>r x y H2 Q
def II(r:V->Hp->VK->Prop)(ta:TE):TE:=λZ H Q=>ta Z H λx H1=>r x H1 Q
def rI(C:Int->Int->Prop)(g:Int->Int->V):R2:=λx y H Q=>∃i j,x=.int i/\y=.int j/\C i j/\Q (g i j) H
def mE(g:Int->Int->V):R2:=λx y H Q=>∃i j,x=.int i/\y=.int j/\Q (g i j) H
def rU(g:Int->V):V->Hp->VK->Prop:=λx H Q=>∃i,x=.int i/\Q (g i) H
section
variable{a b:Expr}
theorem BE(ha:PE X a ta)(hb:PE X b tb){R:V->V->Hp->Prop}(I:Inv X pins Z H s)(h:ta Z H λx H1=>tb Z H1 λy H2=>R x y H2){f:Value->Value->Sem Value}(hf:∀v u s2 x y H2,Inv X pins Z H2 s2->RelV x v->RelV y u->R x y H2->wpAny (model X.prog X.w) X.A (f v u) Q X.xe s2) :
  wpAny (model X.prog X.w) X.A (eval a X.env) (λv bJ=>wpAny (model X.prog X.w) X.A (eval b X.env) (λu fK=>wpAny (model X.prog X.w) X.A (f v u) Q X.xe fK) X.xe bJ) X.xe s:=by
 refine cB (ha pins s Z H _ I h) λv s1 bh=>?_;obtain⟨x,H1,I1,r1,q1⟩:=bh;refine cB (hb pins s1 Z H1 _ I1 q1) λu s2 bh=>?_;obtain⟨y,H2,I2,r2,q2⟩:=bh;exact hf v u s2 x y H2 I2 r1 r2 q2
theorem MJ{op:Operator}(ho:fk X (binaryOp op) r)(ha:PE X a ta)(hb:PE X b tb):PE X (.BinOp a op b pos) (qD r ta tb):=by
 intro pins s Z H Q I h;exact wpAny_BinOp (BE ha hb I h λv u s2 x y H2 I2 rx ry q=>ho pins s2 Z H2 x y v u Q I2 rx ry q)
theorem ML{op:UnaryOp}{r:V->Hp->VK->Prop}(ho:xl X (unaryOp op) r)(ha:PE X a ta):PE X (.UnaryOp op a pos) (II r ta):=by
 intro pins s Z H Q I h;exact UnaryOp_ (cB (ha pins s Z H _ I h) λv s1 ⟨x,H1,I1,r1,q1⟩=>ho pins s1 Z H1 x v Q I1 r1 q1)
theorem sN{f:Value->Value->Sem Value}{C:Int->Int->Prop}{g:Int->Int->Int}(rule:∀(i j:Int) (t u:Tok) (s:Shared) (Q:Value->Shared->Prop) (E:Value->Shared->Prop),C i j->Q (.int (g i j) s.toks) { s with toks:=s.toks+1 }->wpAny (model X.prog X.w) X.A (f (.int i t) (.int j u)) Q E s) :
  fk X f (rI C λi j=>.int (g i j)):=by
 intro pins s Z H x y v u Q I rx ry h;obtain⟨i,j,rfl,rfl,hc,q⟩:=h;obtain⟨t,rfl⟩:=rx;obtain⟨t',rfl⟩:=ry;exact rule i j t t' s _ _ hc ⟨.int (g i j),H,I.tok _,⟨_,rfl⟩,q⟩
theorem xi{f:Value->Value->Sem Value}{g:Int->Int->Int}(rule:∀(i j:Int) (t u:Tok) (s:Shared) (Q:Value->Shared->Prop) (E:Value->Shared->Prop),Q (.int (g i j) s.toks) { s with toks:=s.toks+1 }->wpAny (model X.prog X.w) X.A (f (.int i t) (.int j u)) Q E s) :
  fk X f (mE λi j=>.int (g i j)):=by
 intro pins s Z H x y v u Q I rx ry h;obtain⟨i,j,rfl,rfl,q⟩:=h;obtain⟨t,rfl⟩:=rx;obtain⟨t',rfl⟩:=ry;exact rule i j t t' s _ _ ⟨.int (g i j),H,I.tok _,⟨_,rfl⟩,q⟩
theorem xh{f:Value->Value->Sem Value}{g:Int->Int->Bool}(rule:∀(i j:Int) (t u:Tok) (s:Shared) (Q:Value->Shared->Prop) (E:Value->Shared->Prop),Q (.bool (g i j)) s->wpAny (model X.prog X.w) X.A (f (.int i t) (.int j u)) Q E s) :
  fk X f (mE λi j=>.bl (g i j)):=by
 intro pins s Z H x y v u Q I rx ry h;obtain⟨i,j,rfl,rfl,q⟩:=h;obtain⟨t,rfl⟩:=rx;obtain⟨t',rfl⟩:=ry;exact rule i j t t' s _ _ ⟨.bl (g i j),H,I,rfl,q⟩
def Bz(i j:Int):Prop:=0<j/\j<1073741824
def N5(i j:Int):Prop:=0<=j/\j<=1000000/\i.natAbs<2 ^ 64
def Y4(i j:Int):Prop:=(-(2 ^ 64)<i/\i<2 ^ 64)\/(-(2 ^ 64)<j/\j<2 ^ 64)
theorem Y4.ok{i j:Int}(h:Y4 i j):IntMulOk i j:=by
 rcases h with⟨h1,h2⟩|⟨h1,h2⟩
 ·exact .of_left (intBits_le_64 h1 h2)
 ·exact .of_right (intBits_le_64 h1 h2)
theorem Oa:fk X (binaryOp .Add) (mE λi j=>.int (i+j)):=xi λ_ _ _ _ _ _ _ q=>add_int q
theorem Ol:fk X (binaryOp .Sub) (mE λi j=>.int (i-j)):=xi λ_ _ _ _ _ _ _ q=>sub_int q
theorem Og:fk X (binaryOp .Mult) (rI Y4 λi j=>.int (i*j)):=sN λ_ _ _ _ _ _ _ hc q=>mul_int q hc.ok
theorem QB:fk X (binaryOp .FloorDiv) (rI Bz λi j=>.int (i / j)):=sN λi j _ _ _ _ _ hc q=>by
 have h1:(0:Int)<j:=hc.1;have h2:j<1073741824:=hc.2;exact floordiv_int (by omega) (by rw[Int.fdiv_eq_ediv_of_nonneg i (by omega)];exact q) (.inl (PyProof.noPylong_small (by omega)))
theorem Of:fk X (binaryOp .Mod) (rI (λ_ j=>0<j) λi j=>.int (i % j)):=sN λi j _ _ _ _ _ hc q=>by
 have h1:(0:Int)<j:=hc;exact mod_int' (by omega) (by rw[Int.fmod_eq_emod_of_nonneg i (by omega)];exact q)
theorem Oh:fk X (binaryOp .Pow) (rI N5 λi j=>.int (i ^ j.toNat)):=sN λ_ _ _ _ _ _ _ hc q=>pow_int_small hc.1 hc.2.1 hc.2.2 q
theorem Oj:fk X (binaryOp .LShift) (rI N5 λi j=>.int (i*2 ^ j.toNat)):=sN λ_ _ _ _ _ _ _ hc q=>lshift_int_small hc.1 hc.2.1 hc.2.2 q
theorem Ob:fk X (binaryOp .BitAnd) (mE λi j=>.int (Builtin.bitAnd i j)):=xi λ_ _ _ _ _ _ _ q=>and_int q
theorem MF:fk X (binaryOp .BitOr) (mE λi j=>.int (Builtin.bitOr i j)):=xi λ_ _ _ _ _ _ _ q=>or_int q
theorem IH{f:Value->Sem Value}{g:Int->Int}(rule:∀(i:Int) (t:Tok) (s:Shared) (Q:Value->Shared->Prop) (E:Value->Shared->Prop),Q (.int (g i) s.toks) { s with toks:=s.toks+1 }->wpAny (model X.prog X.w) X.A (f (.int i t)) Q E s) :
  xl X f (rU λi=>.int (g i)):=by
 intro pins s Z H x v Q I rx h;obtain⟨i,rfl,q⟩:=h;obtain⟨t,rfl⟩:=rx;exact rule i t s _ _ ⟨.int (g i),H,I.tok _,⟨_,rfl⟩,q⟩
theorem PL:xl X (unaryOp .USub) (rU λi=>.int (-i)):=IH λ_ _ _ _ _ q=>neg_int q
end
def DX:V->V->Bool
 |.bL,.bL=>true|.bL,.int _=>true|.int _,.bL=>true|.bL,.bl _=>true|.bl _,.bL=>true|.bL,.str _=>true|.str _,.bL=>true
 |.int _,.int _=>true|.bl _,.bl _=>true|.str _,.str _=>true|.kz _,.kz _=>true
 |.int _,.str _=>true|.str _,.int _=>true|.bl _,.str _=>true|.str _,.bl _=>true
 |_,_=>false
def Jd:R2:=λx y H Q=>DX x y=true/\Q (.bl (decide (x=y))) H
def Jc:R2:=λx y H Q=>DX x y=true/\Q (.bl (!decide (x=y))) H
theorem wN{i j:Int}:decide (V.int i=V.int j)=(i==j):=by
 rw[bX];simp
theorem wC{i j:Bool}:decide (V.bl i=V.bl j)=(i==j):=by
 rw[bX];simp
theorem wO{i j:Str}:decide (V.str i=V.str j)=(i==j):=by
 rw[bX];simp
theorem Gy{i j:Array UInt8}:decide (V.kz i=V.kz j)=(i.toList==j.toList):=by
 rw[bX];cases i;cases j;simp
section
variable{a b:Expr}{tc:TE}
theorem j6{Q:VK}{k k':Bool}(I:Inv X pins Z H s)(q:Q (.bl k) H)(e:k=k'):EP X pins Z Q (.bool k') s:=by
 subst e;exact⟨.bl k,H,I,rfl,q⟩
theorem Bo:fk X (compareOp .Eq) Jd:=by
 intro pins s Z H x y v u Q I rx ry h;obtain⟨hs,q⟩:=h;cases x with
 |bL =>
  cases rx;cases y with
  |bL=>cases ry;exact PySem.EqNone.eq_none_none (j6 I q (by simp))
  |bl j=>cases ry;exact PySem.EqNone.eq_none_bool (j6 I q (by simp))
  |int j=>obtain⟨t',rfl⟩:=ry;exact PySem.EqNone.eq_none_int (j6 I q (by simp))
  |str j=>obtain⟨t',rfl⟩:=ry;exact PySem.EqNone.eq_none_str (j6 I q (by simp))
  |_=>exact absurd (show false=true from hs) Bool.false_ne_true
 |bl i =>
  cases rx;cases y with
  |bL=>cases ry;exact PySem.EqNone.eq_bool_none (j6 I q (by simp))
  |bl j=>cases ry;exact eq_bool (j6 I q wC)
  |str j=>obtain⟨t',rfl⟩:=ry;exact PySem.EqMixed.eq_bool_str (j6 I q (by simp))
  |_=>exact absurd (show false=true from hs) Bool.false_ne_true
 |int i =>
  obtain⟨t,rfl⟩:=rx;cases y with
  |bL=>cases ry;exact PySem.EqNone.eq_int_none (j6 I q (by simp))
  |int j=>obtain⟨t',rfl⟩:=ry;exact eq_int (j6 I q wN)
  |str j=>obtain⟨t',rfl⟩:=ry;exact PySem.EqMixed.eq_int_str (j6 I q (by simp))
  |_=>exact absurd (show false=true from hs) Bool.false_ne_true
 |str i =>
  obtain⟨t,rfl⟩:=rx;cases y with
  |bL=>cases ry;exact PySem.EqNone.eq_str_none (j6 I q (by simp))
  |bl j=>cases ry;exact PySem.EqMixed.eq_str_bool (j6 I q (by simp))
  |int j=>obtain⟨t',rfl⟩:=ry;exact PySem.EqMixed.eq_str_int (j6 I q (by simp))
  |str j=>obtain⟨t',rfl⟩:=ry;exact eq_str (j6 I q wO)
  |_=>exact absurd (show false=true from hs) Bool.false_ne_true
 |kz i =>
  obtain⟨t,rfl⟩:=rx;cases y with
  |kz j=>obtain⟨t',rfl⟩:=ry;exact PySem.W.eq_bytes (j6 I q Gy)
  |_=>exact absurd (show false=true from hs) Bool.false_ne_true
 |_=>cases y<;>exact absurd (show false=true from hs) dq
theorem Bp:fk X (compareOp .NotEq) Jc:=by
 intro pins s Z H x y v u Q I rx ry h;obtain⟨hs,q⟩:=h;cases x with
 |bL =>
  cases rx;cases y with
  |bL=>cases ry;exact PySem.EqNone.ne_none_none (j6 I q (by simp))
  |bl j=>cases ry;exact PySem.EqNone.ne_none_bool (j6 I q (by simp))
  |int j=>obtain⟨t',rfl⟩:=ry;exact PySem.EqNone.ne_none_int (j6 I q (by simp))
  |str j=>obtain⟨t',rfl⟩:=ry;exact PySem.EqNone.ne_none_str (j6 I q (by simp))
  |_=>exact absurd (show false=true from hs) Bool.false_ne_true
 |bl i =>
  cases rx;cases y with
  |bL=>cases ry;exact PySem.EqNone.ne_bool_none (j6 I q (by simp))
  |bl j=>cases ry;exact ne_bool (j6 I q (congrArg not wC))
  |str j=>obtain⟨t',rfl⟩:=ry;exact PySem.EqMixed.ne_bool_str (j6 I q (by simp))
  |_=>exact absurd (show false=true from hs) Bool.false_ne_true
 |int i =>
  obtain⟨t,rfl⟩:=rx;cases y with
  |bL=>cases ry;exact PySem.EqNone.ne_int_none (j6 I q (by simp))
  |int j=>obtain⟨t',rfl⟩:=ry;exact ne_int (j6 I q (congrArg not wN))
  |str j=>obtain⟨t',rfl⟩:=ry;exact PySem.EqMixed.ne_int_str (j6 I q (by simp))
  |_=>exact absurd (show false=true from hs) Bool.false_ne_true
 |str i =>
  obtain⟨t,rfl⟩:=rx;cases y with
  |bL=>cases ry;exact PySem.EqNone.ne_str_none (j6 I q (by simp))
  |bl j=>cases ry;exact PySem.EqMixed.ne_str_bool (j6 I q (by simp))
  |int j=>obtain⟨t',rfl⟩:=ry;exact PySem.EqMixed.ne_str_int (j6 I q (by simp))
  |str j=>obtain⟨t',rfl⟩:=ry;exact ne_str (j6 I q (congrArg not wO))
  |_=>exact absurd (show false=true from hs) Bool.false_ne_true
 |kz i =>
  obtain⟨t,rfl⟩:=rx;cases y with
  |kz j=>obtain⟨t',rfl⟩:=ry;exact PySem.W.ne_bytes (j6 I q (congrArg not Gy))
  |_=>exact absurd (show false=true from hs) Bool.false_ne_true
 |_=>cases y<;>exact absurd (show false=true from hs) dq
theorem MD:fk X (compareOp .Lt) (mE λi j=>.bl (decide (i<j))):=xh λ_ _ _ _ _ _ _ q=>lt_int q
theorem MC:fk X (compareOp .LtE) (mE λi j=>.bl (decide (i<=j))):=xh λ_ _ _ _ _ _ _ q=>le_int q
theorem MB:fk X (compareOp .Gt) (mE λi j=>.bl (decide (j<i))):=xh λ_ _ _ _ _ _ _ q=>gt_int q
theorem MA:fk X (compareOp .GtE) (mE λi j=>.bl (decide (j<=i))):=xh λ_ _ _ _ _ _ _ q=>ge_int q
theorem Oe:fk X (compareOp .Is) (λx y H Q=>y=.bL/\Q (.bl (decide (x=.bL))) H):=by
 intro pins s Z H x y v u Q I rx ry h;obtain⟨rfl,q⟩:=h;cases ry;refine is_none_gen (j6 I q ?_);cases x<;>first
  |(cases rx;rfl)
  |(obtain⟨t,rfl⟩:=rx;rfl)
theorem QC:fk X (compareOp .IsNot) (λx y H Q=>y=.bL/\Q (.bl (!decide (x=.bL))) H):=by
 intro pins s Z H x y v u Q I rx ry h;obtain⟨rfl,q⟩:=h;cases ry;refine isnot_none_gen (j6 I q ?_);cases x<;>first
  |(cases rx;rfl)
  |(obtain⟨t,rfl⟩:=rx;rfl)
theorem GN(ho:fk X (compareOp op) r)(ha:PE X a ta)(hb:PE X b tb)(hm:behindInMarks op b=false):PE X (.Compare a [op] [b] pos) (qD r ta tb):=by
 intro pins s Z H Q I h;exact wpAny_Compare1 (BE ha hb I h λv u s2 x y H2 I2 rx ry q=>ho pins s2 Z H2 x y v u Q I2 rx ry q) hm
def Bu(t:TE):TT:=λZ H Q=>t Z H λx H'=>∃k,x=.bl k/\Q k H'
theorem GR(ho:fk X (compareOp op) r)(ha:PE X a ta)(hb:PE X b tb)(hm:behindInMarks op b=false):PT X (.Compare a [op] [b] pos) (Bu (qD r ta tb)):=by
 intro pins s Z H Q I h;refine wpAny_isTrue_Compare1 (cB (ha pins s Z H _ I h) λv s1 ⟨x,H1,I1,r1,q1⟩=>cB (hb pins s1 Z H1 _ I1 q1) λu s2 ⟨y,H2,I2,r2,q2⟩ =>
  cB (ho pins s2 Z H2 x y v u _ I2 r1 r2 q2) λc s3 ⟨z,H3,I3,r3,k,e,q3⟩=>?_) hm
 subst e;cases r3;exact bE ⟨H3,I3,q3⟩
def Ad(r r':R2)(ta tb tc:TE):TE:=λZ H Q=>ta Z H λx H1=>tb Z H1 λy H2=>r x y H2 λz H3=>∃k,z=.bl k /\
 (if k=true then tc Z H3 λw' H4=>r' y w' H4 Q else Q (.bl false) H3)
theorem SX{gT:CmpOp}{r':R2}(ho:fk X (compareOp op) r)(lO:fk X (compareOp gT) r')(ha:PE X a ta)(hb:PE X b tb)(hc:PE X c tc)(hm:lastMarks [op,gT] [b,c]=false:=by with_unfolding_all rfl):PE X (.Compare a [op,gT] [b,c] pos) (Ad r r' ta tb tc):=by
 intro pins s Z H Q I h;refine Compare_chain (cB (ha pins s Z H _ I h) λv s1 ⟨x,H1,I1,r1,q1⟩=>chain_link (cB (hb pins s1 Z H1 _ I1 q1) λu s2 ⟨y,H2,I2,r2,q2⟩ =>
  cB (ho pins s2 Z H2 x y v u _ I2 r1 r2 q2) λd s3 ⟨z,H3,I3,r3,k,e,q3⟩=>?_)) hm
 subst e;cases r3;refine bE ?_;cases k with
 |false=>exact ite_ff ⟨.bl false,H3,I3,rfl,q3⟩
 |true=>exact ite_tt (chain_last (cB (hc pins s3 Z H3 _ I3 q3) λw' s4 ⟨z',H4,I4,r4,q4⟩=>lO pins s4 Z H4 y z' u w' Q I4 r2 r4 q4))
theorem Tn{gT:CmpOp}{r':R2}(ho:fk X (compareOp op) r)(lO:fk X (compareOp gT) r')(ha:PE X a ta)(hb:PE X b tb)(hc:PE X c tc)(hm:lastMarks [op,gT] [b,c]=false:=by with_unfolding_all rfl):PT X (.Compare a [op,gT] [b,c] pos) (Bu (Ad r r' ta tb tc)):=by
 intro pins s Z H Q I h;refine isTrue_chain (cB (ha pins s Z H _ I h) λv s1 ⟨x,H1,I1,r1,q1⟩=>test_link (cB (hb pins s1 Z H1 _ I1 q1) λu s2 ⟨y,H2,I2,r2,q2⟩ =>
  cB (ho pins s2 Z H2 x y v u _ I2 r1 r2 q2) λd s3 ⟨z,H3,I3,r3,k,e,q3⟩=>?_)) hm
 subst e;cases r3;refine bE ?_;cases k with
 |false =>
  obtain⟨k',e',q'⟩:=q3;cases e';exact ite_ff ⟨H3,I3,q'⟩
 |true =>
  refine ite_tt (test_last (cB (hc pins s3 Z H3 _ I3 q3) λw' s4 ⟨z',H4,I4,r4,q4⟩=>cB (lO pins s4 Z H4 y z' u w' _ I4 r2 r4 q4) λd' s5 bh=>?_));obtain⟨z2,H5,I5,r5,k2,e2,q5⟩:=bh;subst e2;cases r5;exact bE ⟨H5,I5,q5⟩
def BC(K:PySem.W.Frag)(x:V)(H:Hp)(k:Bool):Prop :=
 match x with
 |.bL=>k=false
 |.bl b=>k=b
 |.int i=>k=(i != 0)
 |.str y=>y.length<=sizeLine/\k=((y.length:Int) != 0)
 |.kz y=>y.size<=sizeLine/\k=((y.size:Int) != 0)
 |.ref p=>(∃xs,fj K H p xs/\k=!xs.isEmpty)\/(∃xs,hZ K H p xs/\k=!xs.isEmpty)\/∃kvs,H p=some (.dK kvs)/\k=!kvs.isEmpty
 |_=>False
theorem Vx{κ:Type}{kvs:List (κ×V)}{vs:List (κ×Value)}(r:KV kvs vs):(!vs.isEmpty)=!kvs.isEmpty:=by
 cases r<;>rfl
theorem Fj{aQ:List Value}(r:Vals xs aQ):(!aQ.toArray.isEmpty)=!xs.isEmpty:=by
 cases r<;>simp
theorem P4:(sizeLine:Nat)<2 ^ 63:=by rw[jZ];decide
theorem PJ:QF X (λx H Q=>∃k,BC X.K x H k/\Q k H):=by
 intro pins s Z H x v Q I rx h;obtain⟨k,e,q⟩:=h;have hl:=P4;have hs:sizeLine=16777216:=jZ;cases x with
 |bL =>
  cases rx;have e':k=false:=e;subst e';exact truthy_none ⟨H,I,q⟩
 |bl b =>
  cases rx;have e':k=b:=e;subst e';exact bE ⟨H,I,q⟩
 |int i =>
  obtain⟨t,rfl⟩:=rx;have e':k=(i != 0):=e;subst e';exact PySem.P.truthy_int ⟨H,I,q⟩
 |str y =>
  obtain⟨t,rfl⟩:=rx;obtain⟨hy,e'⟩:y.length<=sizeLine/\k=((y.length:Int) != 0):=e;subst e';exact PySem.P.truthy_str (by omega) ⟨H,I.tok _,q⟩
 |kz y =>
  obtain⟨t,rfl⟩:=rx;obtain⟨hy,e'⟩:y.size<=sizeLine/\k=((y.size:Int) != 0):=e;subst e';exact PySem.W.truthy_bytes (by omega) ⟨H,I.tok _,q⟩
 |ref p =>
  cases rx;have e':(∃xs,fj X.K H p xs/\k=!xs.isEmpty)\/(∃xs,hZ X.K H p xs/\k=!xs.isEmpty)\/∃kvs,H p=some (.dK kvs)/\k=!kvs.isEmpty:=e;rcases e' with⟨xs,hx,e'⟩|⟨xs,hx,e'⟩|⟨kvs,hx,e'⟩
  ·subst e';obtain⟨aQ,r,pl,hz⟩:=I.list hx;have hlen:=r.length;exact wpAny_truthy_list pl.isList (by simp only[List.size_toArray];omega) ⟨H,I.tok _,by rw[Fj r];exact q⟩
  ·subst e';obtain⟨aQ,r,pl,hz⟩:=I.tuple hx;have hlen:=r.length;exact truthy_tuple pl (by simp only[List.size_toArray];omega) ⟨H,I.tok _,by rw[Fj r];exact q⟩
  ·subst e';obtain⟨hz,hS,vs,r,m⟩:kvs.length<=sizeLine/\(p==sysModules)=false/\∃vs,KV kvs vs/\s.heap.DictOf (k6 X.prog X.w) p vs:=I.bC p _ hx;have hlen:kvs.length=vs.length:=kP r;exact wpAny_truthy_dict hS m (by omega) ⟨H,I.tok _,by rw[Vx r];exact q⟩
 |_=>exact(show False from e).elim
theorem To(ha:PE X a ta)(he:∀whole,isTrue a X.env whole=(do let v <- whole;standAt a.pos;holding [v] (truthy v))) :
  PT X a (λZ H Q=>ta Z H λx H'=>∃k,BC X.K x H' k/\Q k H'):=by
 intro pins s Z H Q I h;exact isTrue_plain (cB (ha pins s Z H _ I h) λv s1 ⟨x,H1,I1,r1,q1⟩=>PJ pins s1 Z H1 x v Q I1 r1 q1) (he _)
theorem VH:fk X (binaryOp .Add) (λx y H Q=>∃i j,x=.str i/\y=.str j/\i.length+j.length<=sizeLine/\Q (.str (i++j)) H):=by
 intro pins s Z H x y v u Q I rx ry h;obtain⟨i,j,rfl,rfl,hz,q⟩:=h;obtain⟨t,rfl⟩:=rx;obtain⟨t',rfl⟩:=ry;exact add_str (λt' tk=>⟨.str (i++j),H,I.tok _,⟨_,rfl⟩,q⟩) hz
theorem vals1{x:V}(r:Vals [x] us):∃u,us=[u]/\RelV x u:=by
 cases r with
 |cons r1 r2=>cases r2;exact⟨_,rfl,r1⟩
theorem vals2{x y:V}(r:Vals [x,y] us):∃u w',us=[u,w']/\RelV x u/\RelV y w':=by
 cases r with
 |cons r1 r2 =>
  cases r2 with
  |cons r3 r4=>cases r4;exact⟨_,_,rfl,r1,r3⟩
theorem Ue(hc:X.calm=true):j2 X (.builtin "max") (λxs H Q=>∃i j,xs=[.int i,.int j]/\Q (.int (if j>i then j else i)) H):=by
 intro pins s Z H xs us Q I r h;obtain⟨i,j,rfl,q⟩:=h;obtain⟨u,w',rfl,⟨t,rfl⟩,⟨t',rfl⟩⟩:=vals2 r;refine max_two_ints (I.ok.hd hc) λh' tk k=>⟨_,H,I.kept k,?_,q⟩
 by_cases hj:j>i
 ·rw[aE hj,aE hj];exact⟨_,rfl⟩
 ·rw[aB hj,aB hj];exact⟨_,rfl⟩
theorem Uh(hc:X.calm=true):j2 X (.builtin "min") (λxs H Q=>∃i j,xs=[.int i,.int j]/\Q (.int (if j<i then j else i)) H):=by
 intro pins s Z H xs us Q I r h;obtain⟨i,j,rfl,q⟩:=h;obtain⟨u,w',rfl,⟨t,rfl⟩,⟨t',rfl⟩⟩:=vals2 r;refine min_two_ints (I.ok.hd hc) λh' tk k=>⟨_,H,I.kept k,?_,q⟩
 by_cases hj:j<i
 ·rw[aE hj,aE hj];exact⟨_,rfl⟩
 ·rw[aB hj,aB hj];exact⟨_,rfl⟩
theorem EK:j2 X (.type "int") (λxs H Q=>(∃i,xs=[.int i]/\Q (.int i) H)\/∃k,xs=[.bl k]/\Q (.int (if k then 1 else 0)) H):=by
 intro pins s Z H xs us Q I r h;rcases h with⟨i,rfl,q⟩|⟨k,rfl,q⟩
 ·obtain⟨u,rfl,t,rfl⟩:=vals1 r;exact call_int_int ⟨.int i,H,I,⟨_,rfl⟩,q⟩
 ·obtain⟨u,rfl,r1⟩:=vals1 r;cases r1;exact call_int_bool ⟨.int (if k then 1 else 0),H,I.tok _,⟨_,rfl⟩,q⟩
end
structure rm(h:Heap)(x dx C:Addr)(mA:Str->Option Value):Prop where
 obj:h.get? x=some (PySem.W.instObj C dx)
 ns:h.Ns1 dx mA
 ne:dx≠x
theorem EV{mA:Str->Option Value}(n:h.Ns1 dx mA):∃od,h.get? dx=some od/\∀name,PySem.W.lookIn name od=some (mA name):=by
 obtain⟨o,es,ep,ho,hd,hk,_,hm⟩:=n;refine⟨o,ho,λname=>?_⟩;have e:=hm name;unfold nsFind findBy at e;rw[<- Array.find?_toList] at e;unfold PySem.W.lookIn;rw[hd];dsimp only;split
 ·rename_i y q;rw[q] at e;exact dI some e
 ·rename_i q;rw[q] at e;have a:es.toList.any (·.refKey)=false:=by
   rw[List.any_eq_false];intro y hy;obtain⟨z,t,jO⟩:=hk y (Array.mem_toList_iff.mp hy);simp[DictEntry.refKey,jO]
  have a':¬es.toList.any (·.refKey)=true:=by rw[a];exact dq
  rw[aB a'];exact dI some e
theorem rm.look{x:Addr}{mA:Str->Option Value}(I:rm h x dx C mA):∃od,PySem.W.InstAt h x (PySem.W.instObj C dx) C (some od)/\∀name,PySem.W.lookIn name od=some (mA name) :=
 let ⟨od,ho,hl⟩:=EV I.ns
 ⟨od,⟨I.obj,rfl,rfl,ho⟩,hl⟩
section
variable{prog:Program}{x:Addr}{mA:Str->Option Value}{name:Str}{v:Value}
theorem get_map{expr:Bool}(X:K.In s.heap)(I:rm s.heap x dx C mA)(hg:PySem.W.plainGet K C name=true)(hh:PySem.W.hasDictIn K C=true)(ha:PySem.W.findIn K (.ref C) name=some none)(hv:mA name=some v)(tE:PySem.W.handedIn v=true)(h:Q v { s with toks:=s.toks+1 }) :
  wpAny (model prog w) A (getAttr (.ref x) name expr) Q E s:=by
 obtain⟨od,J,hl⟩:=I.look;exact PySem.W.get_value X J (PySem.W.plainGet_of hg).1 (PySem.W.findObj_own hh ha rfl (by rw[hl,hv])) tE h
theorem WK{ns:List Str}{Q:Unit->Shared->Prop}(X:K.In s.heap)(I:rm s.heap x dx C mA)(hs:PySem.W.findIn K (.ref C) "__setattr__"=some (some (.builtin "object.__setattr__")))(hp:PySem.W.plainOver K C=true)(ht:PySem.W.takerIn K C name=some none)(hh:PySem.W.hasDictIn K C=true)(hw:PySem.Within mA ns)(hsz:ns.length<=sizeLine)(h:∀h',rm h' x dx C (λy=>if y=name then some v else mA y)->Heap.SameBut dx s.heap h'->Q () { s with heap:=h',toks:=s.toks+2 }) :
  wpAny (model prog w) A (setAttr (.ref x) name v) Q E s:=by
 obtain⟨od,J,hl⟩:=I.look;refine PySem.W.set_plain X J hs (PySem.W.osa_open (s:={ s with toks:=s.toks+1 }) (r:=none) X J hp ht λb=>?_);obtain⟨cd,hc,yN⟩:=PySem.W.any_some hh;have hx:s.heap.get? x=some ⟨.ref C,some dx,.plain,#[]⟩:=I.obj;refine aa (ai (aa (aa (wpAny_loadPart hx (aa (PySem.W.Looks.here (s:={ s with toks:=s.toks+1 }) (PySem.W.looks_clsIn X hc) ?_))))));rw[yN];refine ai (a:=some dx) (aa (ai (aa ?_)));refine wpAny_nsSet1 (s:={ s with toks:=s.toks+1 }) I.ns λh' nZ iM=>?_;obtain⟨oD,Yf,Yh,Jy,JN,JR⟩:=nZ.count (PySem.Within.cons name v hw);refine aa (wpAny_lookBehind Jy (by rw[JN];exact pastItsLine_dict (aM JR (by rw[cY];omega))) ?_);exact ai (h _ ⟨(iM.2 _ (bB I.ne)).trans I.obj,nZ,I.ne⟩ iM)
theorem SN{R:Result->Shared->Prop}{vs:List Value}{kw:List (Str×Value)}(X:K.In s.heap)(hm:PySem.W.makesIn K C=true)(hi:PySem.W.findIn K (.ref C) "__init__"=some (some (.ref f)))(hf:PySem.W.typeIn K (.ref f)=some (.type "function"))(h:codeAny (model prog w) (A.under (.builtin "type.__call__" ⟨.ref C :: vs,kw⟩)) (.call (.ref f) ⟨.ref (s.heap.objs.size + 1) :: vs,kw⟩) (PySem.W.InitBack (s.heap.objs.size + 1) R)
   { s with heap:=(s.heap.push PySem.W.emptyDict).push (PySem.W.instObj C s.heap.objs.size) }) :
  codeAny (model prog w) A (.call (.ref C) ⟨vs,kw⟩) R s:=by
 obtain⟨hh,g,d,t,os⟩:=s;exact PySem.W.make_core (PySem.W.makes_of X hm) (PySem.W.looks_findIn X hi) (λself=>PySem.W.bind_fn X self hf) (.inl rfl) h
end
def v8(f:Str)(v:V):List (Str×V)->List (Str×V)
 |[]=>[(f,v)]
 |(g,x)::r=>if g=f then(g,v)::r else(g,x)::v8 f v r
theorem FA(f g:Str)(v:V):∀fs:List (Str×V),(v8 f v fs).lookup g=if g=f then some v else fs.lookup g
 |[]=>by
  show List.lookup g [(f,v)]=_;by_cases h:g=f
  ·have hb:(g==f)=true:=fG.mpr h;simp only[List.lookup,hb,if_pos h]
  ·have hb:(g==f)=false:=cF.mpr h;simp only[List.lookup,hb,if_neg h]
 |(k,x)::r=>by
  have ih:=FA f g v r;rw[show v8 f v ((k,x)::r)=(if k=f then(k,v)::r else(k,x)::v8 f v r) from rfl];by_cases hk:k=f
  ·rw[aE hk];by_cases h:g=k
   ·have hb:(g==k)=true:=fG.mpr h;simp only[List.lookup,hb,if_pos (h.trans hk)]
   ·have hb:(g==k)=false:=cF.mpr h;simp only[List.lookup,hb,if_neg (λe:g=f=>h (e.trans hk.symm))]
  ·rw[aB hk];by_cases h:g=k
   ·have hb:(g==k)=true:=fG.mpr h;simp only[List.lookup,hb,if_neg (λe:g=f=>hk (h.symm.trans e))]
   ·have hb:(g==k)=false:=cF.mpr h;simp only[List.lookup,hb];exact ih
theorem AR(f:Str)(v:V):∀fs:List (Str×V),f∈(v8 f v fs).map (·.1)/\∀g,g∈fs.map (·.1)->g∈(v8 f v fs).map (·.1)
 |[]=>⟨by simp[v8],λg h=>by simp at h⟩
 |(k,x)::r=>by
  obtain⟨i1,i2⟩:=AR f v r;rw[show v8 f v ((k,x)::r)=(if k=f then(k,v)::r else(k,x)::v8 f v r) from rfl];by_cases hk:k=f
  ·rw[aE hk];subst hk;exact⟨by simp,λg h=>by simpa using h⟩
  ·rw[aB hk];refine⟨?_,λg h=>?_⟩
   ·rw[aW];exact bH _ i1
   ·rw[aW] at h ⊢;rcases aA.mp h with e|e
    ·exact aA.mpr (.inl e)
    ·exact bH _ (i2 g e)
theorem Fz(f:Str)(v:V):∀fs:List (Str×V),(v8 f v fs).length<=fs.length+1
 |[]=>by simp[v8]
 |(k,x)::r=>by
  have ih:=Fz f v r;rw[show v8 f v ((k,x)::r)=(if k=f then(k,v)::r else(k,x)::v8 f v r) from rfl];by_cases hk:k=f
  ·rw[aE hk,cY,cY];omega
  ·rw[aB hk,cY,cY];omega
theorem E0.some_of{o:Option Value}(r:E0 (some v) o):∃u,o=some u/\RelV v u:=by
 cases o with
 |none=>exact(show False from r).elim
 |some u=>exact⟨u,rfl,r⟩
theorem Us(r:RelV v u):PySem.W.handedIn u=true:=by
 cases v with
 |bL=>cases (show u=Value.none from r);rfl
 |bl b=>cases (show u=Value.bool b from r);rfl
 |int i=>obtain⟨t,e⟩:=(show ∃t,u=Value.int i t from r);cases e;rfl
 |str x=>obtain⟨t,e⟩:=(show ∃t,u=Value.str x t from r);cases e;rfl
 |kz b=>obtain⟨t,e⟩:=(show ∃t,u=Value.bytes b t from r);cases e;rfl
 |qd b=>obtain⟨t,e⟩:=(show ∃t,u=Value.float b t from r);cases e;rfl
 |ref a=>cases (show u=Value.ref a from r);rfl
 |ty n=>cases (show u=Value.type n from r);rfl
section
variable{fs:List (Str×V)}
theorem Av(bC:fC P w H h)(e:H a=some (.ins C dx fs)):∃mA,rm h a dx C mA/\(∀f,E0 (fs.lookup f) (mA f))/\PySem.Within mA (fs.map (·.1))/\fs.length<=1000/\H dx=some (.own a):=by
 obtain⟨d,z,ne,ob,mA,n,r,q⟩:=(show k7 P w H h a (.ins C dx fs) from bC a _ e)
 exact⟨mA,⟨ob,n,ne⟩,r,q,z,d⟩
end
structure jx(K:PySem.W.Frag)(C:Addr):Prop where
 pg:PySem.W.plainGet K C Str.empty=true
 hd:PySem.W.hasDictIn K C=true
 po:PySem.W.plainOver K C=true
 sa:PySem.W.findIn K (.ref C) "__setattr__"=some (some (.builtin "object.__setattr__"))
theorem jx.get(c:jx K C)(f:Str):PySem.W.plainGet K C f=true:=c.pg
def w9(K:PySem.W.Frag)(C:Addr)(f:Str):Prop:=PySem.W.findIn K (.ref C) f=some none
theorem w9.Nj{f:Str}(n:w9 K C f):PySem.W.takerIn K C f=some none:=by
 unfold PySem.W.takerIn;rw[show PySem.W.findIn K (.ref C) f=some none from n]
 rfl
structure Meth(K:PySem.W.Frag)(C:Addr)(m:Str)(f:Addr):Prop where
 at_:PySem.W.findIn K (.ref C) m=some (some (.ref f))
 fn:PySem.W.isFn K (.ref f)=true
 kp:PySem.W.keepIn K (.ref f)=true
section
variable{fs:List (Str×V)}{f:Str}
theorem Vw{b:Bool}(I:Inv X pins Z H s)(e:H a=some (.ins C dx fs))(c:jx X.K C)(n:w9 X.K C f)(l:fs.lookup f=some v)(h:∀u s',Inv X pins Z H s'->RelV v u->Q u s'):wpAny (model X.prog X.w) A (getAttr (.ref a) f b) Q E s:=by
 obtain⟨mA,O,r,_,_,_⟩:=Av I.bC e;obtain⟨u,hu,ru⟩:=E0.some_of (v:=v) (o:=mA f) (by rw[<- l];exact r f);exact get_map I.gg O (c.get f) c.hd n hu (Us ru) (h u _ (I.tok _) ru)
theorem VN{y:V}{Q:Unit->Shared->Prop}(I:Inv X pins Z H s)(e:H a=some (.ins C dx fs))(c:jx X.K C)(n:w9 X.K C f)(hl:fs.length<1000)(ry:RelV y u)(h:∀s',Inv X pins Z (upd H a (.ins C dx (v8 f y fs))) s'->Q () s'):wpAny (model X.prog X.w) A (setAttr (.ref a) f u) Q E s:=by
 obtain⟨mA,O,r,wi,_,ho⟩:=Av I.bC e;have hz:(fs.map (·.1)).length<=sizeLine:=by rw[ah,jZ];omega
 refine WK I.gg O c.sa c.po n.Nj c.hd wi hz λh' O' sb=>h _ ?_;have hd:∃o,h'.get? dx=some o:=let ⟨o,_,_,e',_⟩:=O'.ns;⟨o,e'⟩
 refine I.write (x:=a) (e:=dx) (by rw[e];exact True.intro) (.inr ho) (λb q hb z=>(sb.2 b hb).trans z) hd ?_;refine⟨by rw[f6 O.ne];exact ho,?_,O.ne,O'.obj,_,O'.ns,λg=>?_,λg hg=>?_⟩
 ·have:=Fz f y fs;omega
 ·show E0 ((v8 f y fs).lookup g) (if g=f then some u else mA g);rw[FA];by_cases q:g=f
  ·rw[aE q,aE q];exact ry
  ·rw[aB q,aB q];exact r g
 ·by_cases q:g=f
  ·rw[q];exact(AR f y fs).1
  ·refine(AR f y fs).2 g (wi g λz=>hg ?_);show(if g=f then some u else mA g)=none;rw[aB q];exact z
theorem Inv.made(I:Inv X pins Z H s):Inv X pins Z (upd (upd H s.heap.objs.size (.own (s.heap.objs.size+1))) (s.heap.objs.size+1) (.ins C s.heap.objs.size []))
  { s with heap:=(s.heap.push PySem.W.emptyDict).push (PySem.W.instObj C s.heap.objs.size) }:=by
 have e1:(s.heap.push PySem.W.emptyDict).get? s.heap.objs.size=some PySem.W.emptyDict:=aw s.heap rfl;have e2:((s.heap.push PySem.W.emptyDict).push (PySem.W.instObj C s.heap.objs.size)).get? (s.heap.objs.size+1)=some (PySem.W.instObj C s.heap.objs.size):=by
  have:=aw (s.heap.push PySem.W.emptyDict) (o:=PySem.W.instObj C s.heap.objs.size) rfl
  rwa [cv] at this
 have e3:(s.heap.push PySem.W.emptyDict).Ns s.heap.objs.size (λ_=>none):=⟨PySem.W.emptyDict,#[],_,e1,rfl,(λe he=>absurd he (by simp)),λ_=>rfl⟩
 have I1:=I.laid (a:=s.heap.objs.size) (o:=.own (s.heap.objs.size+1)) (h':=s.heap.push PySem.W.emptyDict) (t':=s.toks) (λb u q=>ag _ q) (ak _) ⟨_,e1⟩;refine I1.laid (a:=s.heap.objs.size+1) (o:=.ins C s.heap.objs.size []) (t':=s.toks) (λb u q=>ag _ q) (rR (cv _ _)) ?_;have ne:s.heap.objs.size≠s.heap.objs.size+1:=aF (cW _);refine⟨by rw[f6 ne,p6],bG _,ne,e2,λ_=>none,(Heap.Ns1.of_empty e3).at λo q=>ag _ q,λ_=>True.intro,λy hy=>absurd rfl hy⟩
theorem PU{prog:Program}{env:Env}(hb:attributeBase e f env (eval e env)=eval e env)(h:wpAny (model prog w) A (eval e env) (λo bJ=>wpAny (model prog w) A (getAttr o f true) Q E bJ) E s):wpAny (model prog w) A (eval (.Attribute e f pos) env) Q E s :=
 Attribute_any_ h (by rw[arm_eval_Attribute,hb])
end
def Lr(K:PySem.W.Frag)(ta:TE)(f:Str):TE:=λZ H Q=>ta Z H λx H1=>∃a C dx fs v,x=.ref a/\H1 a=some (.ins C dx fs)/\jx K C/\w9 K C f/\fs.lookup f=some v/\Q v H1
def Lh(K:PySem.W.Frag)(ta tv:TE)(f:Str):TS:=λD Z H=>tv Z H λy H1=>ta Z H1 λx H2=>∃a C dx fs,x=.ref a/\H2 a=some (.ins C dx fs)/\jx K C/\w9 K C f/\fs.length<1000 /\
 D.nx Z (upd H2 a (.ins C dx (v8 f y fs)))
section
variable{o value:Expr}{f:Str}{pos':Pos}{tv:TE}
theorem Oq(he:PE X e ta)(hb:attributeBase e f X.env (eval e X.env)=eval e X.env):PE X (.Attribute e f pos) (Lr X.K ta f):=by
 intro pins s Z H Q I h;refine PU hb (cB (he pins s Z H _ I h) λu s1 bh=>?_);obtain⟨x,H1,I1,rx,a,C,dx,fs,v,ex,ea,c,n,l,q⟩:=bh;subst ex;obtain rfl:u=Value.ref a:=rx;exact Vw I1 ea c n l λu' s2 I2 ru=>⟨v,H1,I2,ru,q⟩
theorem OE(ha:PE X o ta)(hv:PE X value tv)(hs:swapsWith value (some (.Attribute o f pos')) pos.line X.env=pure false):PS X (.Assign [.Attribute o f pos'] value pos) (Lh X.K ta tv f):=by
 intro pins s Z H D I h;refine plainObj_wpAny_Assign_Attribute (cB (hv pins s Z H _ I h) λu s1 ⟨y,H1,I1,ry,q⟩=>cB (ha pins s1 Z H1 _ I1 q) λov s2 bh=>?_) hs;obtain⟨x,H2,I2,rx,a,C,dx,fs,ex,ea,c,n,l,q2⟩:=bh;subst ex;obtain rfl:ov=Value.ref a:=rx;exact VN I2 ea c n l ry λs3 I3=>⟨Z,_,I3,q2⟩
end
section
variable{c:Value}{b:Bool}
inductive gn(K:PySem.W.Frag)(H:Hp):V->Value->Prop where
 |bL:gn K H .bL (.type "NoneType")
 |bl (x:Bool):gn K H (.bl x) (.type "bool")
 |int (i:Int):gn K H (.int i) (.type "int")
 |str (x:Str):gn K H (.str x) (.type "str")
 |qd (x:UInt64):gn K H (.qd x) (.type "float")
 |lst {a:Addr} {xs:List V} (e:H a=some (.lst xs)):gn K H (.ref a) (.type "list")
 |jm {a:Addr} {o:Obj} {xs:List V} (e:H a=some (.jm o (.lst xs))):gn K H (.ref a) (.type "list")
 |tup {a:Addr} {xs:List V} (e:H a=some (.tup xs)):gn K H (.ref a) (.type "tuple")
 |dK {a:Addr} {kvs:List (Key×V)} (e:H a=some (.dK kvs)):gn K H (.ref a) (.type "dict")
 |dT {a:Addr} {kvs:List (List Key×V)} (e:H a=some (.dT kvs)):gn K H (.ref a) (.type "dict")
 |ins {a C dx:Addr} {fs:List (Str×V)} (e:H a=some (.ins C dx fs)) (cl:jx K C) (ha:PySem.W.findIn K (.ref C) "__class__"=some (some (.builtin "object.__class__")))
   (hn:PySem.W.specialIn K (.builtin "object.__class__") "__get__"=some (some (.builtin "getset_descriptor.__get__"))) (qO:PySem.W.takesIn K (.builtin "object.__class__")=some true)
   (hm:PySem.W.mroIn K C (.type "object")=some true):gn K H (.ref a) (.ref C)
theorem Uw{x:V}{t:Value}(I:Inv X pins Z H s)(rx:RelV x u)(ty:gn X.K H x t)(e:PySem.W.kitOne X.K t c=some b)(h:∀tk,Q (.bool b) { s with toks:=tk }) :
  wpAny (model X.prog X.w) A (call (.builtin "isinstance") [u,c]) Q E s:=by
 cases ty with
 |bL=>cases (show u=Value.none from rx);exact bK PySem.W.kitx_none I.gg True.intro e (λz=>nomatch z) h
 |bl y=>cases (show u=Value.bool y from rx);exact bK PySem.W.kitx_bool I.gg True.intro e (λz=>nomatch z) h
 |int i=>obtain⟨t,q⟩:=(show ∃t,u=Value.int i t from rx);cases q;exact bK PySem.W.kitx_int I.gg True.intro e (λz=>nomatch z) h
 |str y=>obtain⟨t,q⟩:=(show ∃t,u=Value.str y t from rx);cases q;exact bK PySem.W.kitx_str I.gg True.intro e (λz=>nomatch z) h
 |qd y=>obtain⟨t,q⟩:=(show ∃t,u=Value.float y t from rx);cases q;exact bK PySem.W.kitx_float I.gg True.intro e (λz=>nomatch z) h
 |@lst a xs ea =>
  cases (show u=Value.ref a from rx);obtain⟨_,_,n,_,h1⟩:=(show k7 X.prog X.w H s.heap a (.lst xs) from I.bC a _ ea)
  exact bK Xi I.gg ⟨_,h1,rfl⟩ e (λz=>nomatch z) h
 |@jm a ob xs ea =>
  cases (show u=Value.ref a from rx);obtain⟨_,_,_,n,_,h1⟩:=(show k7 X.prog X.w H s.heap a (.jm ob (.lst xs)) from I.bC a _ ea)
  exact bK Xi I.gg ⟨_,h1,rfl⟩ e (λz=>nomatch z) h
 |@tup a xs ea =>
  cases (show u=Value.ref a from rx);obtain⟨_,_,_,p⟩:=(show k7 X.prog X.w H s.heap a (.tup xs) from I.bC a _ ea)
  obtain⟨o,h1,h2,_⟩:=p;exact bK Iv I.gg ⟨o,h1,h2⟩ e (λz=>nomatch z) h
 |@dK a kvs ea =>
  cases (show u=Value.ref a from rx);obtain⟨_,_,vs,_,p⟩:=(show k7 X.prog X.w H s.heap a (.dK kvs) from I.bC a _ ea)
  obtain⟨o,es,ep,h1,h2,_⟩:=p;exact bK Xj I.gg ⟨o,h1,h2.1⟩ e (λz=>nomatch z) h
 |@dT a kvs ea =>
  cases (show u=Value.ref a from rx);obtain⟨_,_,xs,_,o,es,ep,h1,h2,_⟩:=(show k7 X.prog X.w H s.heap a (.dT kvs) from I.bC a _ ea)
  exact bK Xj I.gg ⟨o,h1,h2.1⟩ e (λz=>nomatch z) h
 |@ins a C dx fs ea cl ha hn qO hm =>
  cases (show u=Value.ref a from rx);obtain⟨mA,O,_⟩:=Av I.bC ea;obtain⟨od,J,_⟩:=O.look;exact bK (PySem.W.kitx_own (cl.get _) cl.hd ha hn qO hm) I.gg J e (λz=>nomatch z) h
end
structure t7(k:Nat)(A:Around):Prop where
 hd:A.handled=none
 dp:A.depth+3*k+5<recursionLimit
 un:A.units+16*k+200<cLine
theorem t7.mono(r:t7 k A)(h:j<=k):t7 j A:=⟨r.hd,by have:=r.dp;omega,by have:=r.un;omega⟩
theorem t7.deeper{k:Nat}{A:Around}(r:t7 (k+1) A)(env:Env):t7 k (A.deeper env) :=
 ⟨r.hd,by have:=r.dp;show A.depth+1+3*k+5<_;omega,by have:=r.un;show A.units+3+16*k+200<_;omega⟩
theorem VB{kw:List (Str×Value)}:(A.under (.builtin "type.__call__" ⟨.ref C::us,kw⟩)).depth=A.depth+1:=by
 first|rfl|simp[Around.under,Code.weight,Code.isCreation,Code.isGuard,Code.isCaller,Code.frames,Code.isFrame,guardIds]
theorem VC{kw:List (Str×Value)}:(A.under (.builtin "type.__call__" ⟨.ref C::us,kw⟩)).units=A.units+1:=by
 first|rfl|simp[Around.under,Code.cUnits,Code.frames,Code.isFrame]
theorem t7.make(r:t7 (k+1) A)(C:Addr)(us:List Value)(kw:List (Str×Value)):t7 k (A.under (.builtin "type.__call__" ⟨.ref C::us,kw⟩)) :=
 ⟨r.hd,by have:=r.dp;rw[VB];omega,by have:=r.un;rw[VC];omega⟩
theorem t7.depth{k:Nat}{A:Around}(r:t7 k A):A.depth<recursionLimit:=by have:=r.dp;omega
def Bc:TA:=λ_ H Q=>Q [] H
def Nb(ta:TE)(tr:TA):TA:=λZ H Q=>ta Z H λx H1=>tr Z H1 λxs H2=>Q (x::xs) H2
theorem T5:PA X [] Bc:=λ_ _ _ _ H Q I h=>Calls.spliced_nil ⟨[],H,I,.nil,h⟩
theorem O2(ha:PE X e te)(hr:PA X es t)(hs:starEach (e::es) X.env=(false,eval e X.env)::starEach es X.env:=by rfl):PA X (e::es) (Nb te t):=by
 intro pos pins s Z H Q I h;rw[hs];show wpAny _ _ (spliced ((false,eval e X.env)::backTo pos (starEach es X.env))) _ _ s;refine Calls.spliced_cons (cB (ha pins s Z H _ I h) λu s1 bh=>?_);obtain⟨x,H1,I1,r1,q1⟩:=bh;exact cB (hr pos pins s1 Z H1 _ I1 q1) λus s2 ⟨xs,H2,I2,r2,q2⟩=>⟨x::xs,H2,I2,.cons r1 r2,q2⟩
def LC(t:TA):TE:=λZ H Q=>t Z H λxs H1=>xs.length<=sizeLine/\∀p,H1 p=none->Q (.ref p) (upd H1 p (.tup xs))
def Lv(t:TA):TE:=λZ H Q=>t Z H λxs H1=>xs.length<=sizeLine/\∀p,H1 p=none->Q (.ref p) (upd H1 p (.lst xs))
theorem Oz{x1}(h:PA X es t):PE X (.Tuple es x1 pos) (LC t):=by
 intro pins s Z H Q I hq;refine wpAny_Tuple_spliced (cB (h pos pins s Z H _ I hq) λus s1 ⟨xs,H1,I1,r,z,q⟩=>⟨by rw[<- r.length];exact z,?_⟩);have hf:H1 s1.heap.objs.size=none:=I1.bC.fresh (ak _);refine⟨.ref s1.heap.objs.size,upd H1 s1.heap.objs.size (.tup xs),I1.laid (t':=s1.toks) (λb u e=>ag _ e) (ak _) ?_,rfl,q _ hf⟩;exact⟨z,us,r,⟨_,aw _ rfl,rfl,⟨_,rfl⟩,rfl⟩⟩
theorem Ou(h:PA X es t):PE X (.List es pos) (Lv t):=by
 intro pins s Z H Q I hq;refine wpAny_List_spliced (cB (h pos pins s Z H _ I hq) λus s1 ⟨xs,H1,I1,r,z,q⟩=>⟨by rw[<- r.length];exact z,?_⟩);have hf:H1 s1.heap.objs.size=none:=I1.bC.fresh (ak _);refine⟨.ref s1.heap.objs.size,upd H1 s1.heap.objs.size (.lst xs),I1.laid (t':=s1.toks) (λb u e=>ag _ e) (ak _) ?_,rfl,q _ hf⟩;exact⟨z,us,0,r,aw _ rfl⟩
noncomputable abbrev Sp:=List V->Hp->VK->XK->Prop
noncomputable abbrev mr:=List Env->Hp->Shared->XK->Value->Shared->Prop
structure qj(P:Program)(w:World)(K:PySem.W.Frag)(mg:Str->Option Value)(base:Heap)(A:Around)(outer:List Env)(s:Shared)(H:Hp):Prop where
 frames:A.frames=some outer
 mod:Mod K mg base
 bs:∀b o,base.get? b=some o->s.heap.get? b=some o/\H b=none
 ml:base.objs.size<=s.heap.objs.size
 F5:s.heap.FunFrames base outer
 mR:∀b∈ft outer,H b=none
 bC:fC P w H s.heap
 bare:AllBare s.gens
def CE(outer:List Env)(P:Program)(w:World)(H:Hp)(s:Shared)(Q:VK)(u:Value)(s':Shared):Prop :=
 ∃v H',s'.os=s.os/\AllBare s'.gens/\Un (ft outer) [] H H' s.heap s'.heap/\fC P w H' s'.heap/\RelV v u/\Q v H'
def CR(CX:mr)(outer:List Env)(P:Program)(w:World)(H:Hp)(s:Shared)(Q:VK)(E:XK)(r:Result)(s':Shared):Prop :=
 match r with
 |.ok (.ret u)=>CE outer P w H s Q u s'
 |.ok _=>False
 |.error e=>CX outer H s E e s'
structure gO(P:Program)(w:World)(K:PySem.W.Frag)(mg:Str->Option Value)(base:Heap)(CX:mr)(k:Nat)(f:Addr)(fd:FuncData)(ps:List Str)(sp:Sp):Prop where
 len:∀vs H Q E,sp vs H Q E->vs.length=ps.length
 run:∀(A:Around) (outer:List Env) (s:Shared) (H:Hp) (args:Args) (us:List Value) (vs:List V) (Q:VK) (E:XK),t7 k A->qj P w K mg base A outer s H->BindsTo s fd args (ps.zip us)->Vals vs us->sp vs H Q E ->
  codeAny (model P w) A (.call (.ref f) args) (CR CX outer P w H s Q E) s
theorem qj.make{mg:Str->Option Value}{outer:List Env}(e:qj P w K mg base A outer s H)(C:Addr)(us:List Value)(kw:List (Str×Value)) :
  qj P w K mg base (A.under (.builtin "type.__call__" ⟨.ref C::us,kw⟩)) outer s H:=⟨by first|exact e.frames|(simpa[Around.under,Code.envs,Code.isFrame,pushEnvs] using e.frames),e.mod,e.bs,e.ml,e.F5,e.mR,e.bC,e.bare⟩
section
variable{s':Shared}
theorem Inv.DN(I:Inv X pins Z H s):qj X.prog X.w X.K X.mg X.base X.A X.stack s H :=
 ⟨I.ok.frames,I.ok.mod,I.bs,aM I.ok.ml I.sz,I.stack,I.xa,I.bC,I.bare⟩
theorem Inv.after{Q:VK}(I:Inv X pins Z H s)(h:CE X.stack X.prog X.w H s Q u s'):EP X pins Z Q u s':=by
 obtain⟨v,H',os,bare,un,bC,r,q⟩:=h;obtain⟨hh,g,d,t,pJ⟩:=s';obtain rfl:pJ=s.os:=os;exact⟨v,H',I.call (h':=hh) (g':=g) (d':=d) (t':=t) (ch:=[]) un bC bare (λb z=>absurd z (by simp)),r,q⟩
end
def HS(sp:Sp)(jo:List V)(E:XK)(t:TA):TE:=λZ H Q=>t Z H λvs H1=>sp (vs++jo) H1 Q E
def HV(C:Addr)(sp:Sp)(jo:List V)(E:XK)(t:TA):TE:=λZ H Q=>t Z H λvs H1=>∀x dx,H1 x=none->H1 dx=none->dx≠x ->
 sp (.ref x::(vs++jo)) (upd (upd H1 dx (.own x)) x (.ins C dx [])) (λv H2=>v=.bL/\Q (.ref x) H2) E
def Binds(K:PySem.W.Frag)(fd:FuncData)(ps:List Str)(ds:List Value):Prop :=
 ∀(s:Shared) (us:List Value),K.In s.heap->(us++ds).length=ps.length->BindsTo s fd ⟨us,[]⟩ (ps.zip (us++ds))
theorem Binds.all(h:∀us:List Value,us.length=ps.length->bindArgs fd ⟨us,[]⟩=pure (ps.zip us)):Binds K fd ps []:=λs us _ hl=>by
 rw[dA] at hl ⊢;exact .of_eq (h us hl)
def Passes(CX:mr)(X:Cx)(E:XK):Prop:=∀(pins:List (Addr×Obj)) (Z:St) (H:Hp) (s:Shared) (e:Value) (s':Shared),Inv X pins Z H s->CX X.stack H s E e s'->X.xe e s'
section
variable{jo:List V}{ds:List Value}{E:XK}
theorem Gd{Q:VK}(F:gO X.prog X.w X.K X.mg X.base CX k f fd ps sp)(hr:t7 k X.A)(hb:Binds X.K fd ps ds)(hd:Vals jo ds)(hx:Passes CX X E)(I:Inv X pins Z H s)(r:Vals vs us)(h:sp (vs++jo) H Q E):wpAny (model X.prog X.w) X.A (call (.ref f) us) (EP X pins Z Q) X.xe s:=by
 have r2:Vals (vs++jo) (us++ds):=r.append hd;have hl:(us++ds).length=ps.length:=by rw[<- r2.length];exact F.len _ _ _ _ h
 refine wpAny_call (fW (F.run X.A X.stack s H ⟨us,[]⟩ (us++ds) (vs++jo) Q E hr I.DN (hb s us I.gg hl) r2 h) λr s' hq=>?_);cases r with
 |error e=>exact hx pins Z H s e s' I hq
 |ok fl =>
  cases fl with
  |ret u=>exact I.after hq
  |next=>exact False.elim hq
  |brk=>exact False.elim hq
  |cont=>exact False.elim hq
theorem Wl(F:gO X.prog X.w X.K X.mg X.base CX k f fd ps sp)(hr:t7 k X.A)(hg:Gl X x)(hm:X.mg x=some (.ref f))(hk:PySem.W.keepIn X.K (.ref f)=true)(hb:Binds X.K fd ps ds)(hd:Vals jo ds)(hx:Passes CX X E)(ha:PA X (e::es) t)(gh:(x==("__debug__":Str))=false:=by decide)(he:starEach (e::es) X.env=(false,eval e X.env)::starEach es X.env:=by rfl)(gM:(backTo pos (starEach es X.env)).any (·.1)=false:=by rfl) :
  PE X (.Call (.Name x p) (e::es) [] pos) (HS sp jo E t):=by
 intro pins s Z H Q I h;refine cC (L5 I hg hm ?_ gh);refine Iw (h₀:=X.base) I.ok.mod.mI hk (cB (ha pos pins s Z H _ I h) λus s1 ⟨vs,H1,I1,r,q⟩=>⟨I1.gg,?_⟩) he gM;exact Gd F hr hb hd hx I1 r q
theorem SW(F:gO X.prog X.w X.K X.mg X.base CX k f fd ps sp)(hr:t7 k X.A)(hg:Gl X x)(hm:X.mg x=some (.ref f))(hk:PySem.W.keepIn X.K (.ref f)=true)(hb:Binds X.K fd ps ds)(hd:Vals jo ds)(hx:Passes CX X E)(gh:(x==("__debug__":Str))=false:=by decide):PE X (.Call (.Name x p) [] [] pos) (HS sp jo E Bc):=by
 intro pins s Z H Q I h;refine cC (L5 I hg hm ?_ gh);exact BU I.gg hk (Gd (us:=[]) F hr hb hd hx I .nil h)
structure Mk(K:PySem.W.Frag)(C f:Addr):Prop where
 makes:PySem.W.makesIn K C=true
 init:PySem.W.findIn K (.ref C) "__init__"=some (some (.ref f))
 fn:PySem.W.isFn K (.ref f)=true
 kp:PySem.W.keepIn K (.ref C)=true
theorem Et{Q:VK}(M:Mk X.K C f)(F:gO X.prog X.w X.K X.mg X.base CX k f fd ps sp)(hr:t7 (k+1) X.A)(hb:Binds X.K fd ps ds)(hd:Vals jo ds)(hx:Passes CX X E)(I:Inv X pins Z H s)(r:Vals vs us)(h:∀x dx,H x=none->H dx=none->dx≠x->sp (.ref x::(vs++jo)) (upd (upd H dx (.own x)) x (.ins C dx [])) (λv H2=>v=.bL/\Q (.ref x) H2) E) :
  wpAny (model X.prog X.w) X.A (call (.ref C) us) (EP X pins Z Q) X.xe s:=by
 have hq:=h (s.heap.objs.size+1) s.heap.objs.size (I.bC.fresh (fU _)) (I.bC.fresh (ak _)) (aF (cW _));have I2:=Inv.made (C:=C) I;have r2:Vals (V.ref (s.heap.objs.size+1)::(vs++jo)) (Value.ref (s.heap.objs.size+1)::(us++ds)):=.cons rfl (r.append hd);have hl:(Value.ref (s.heap.objs.size+1)::us++ds).length=ps.length:=by
  have e:=r2.length;rw[F.len _ _ _ _ hq] at e;exact e.symm
 refine wpAny_call (SN (f:=f) I.gg M.makes M.init (fG.mp M.fn) (fW (F.run _ X.stack _ _ ⟨Value.ref (s.heap.objs.size + 1) :: us,[]⟩ (Value.ref (s.heap.objs.size + 1) :: (us ++ ds)) _ _ E (hr.make C us [])
  (I2.DN.make C us []) (hb _ (Value.ref (s.heap.objs.size + 1) :: us) I2.gg hl) r2 hq) λr s' lN=>?_))
 cases r with
 |error e=>exact hx pins Z _ _ e s' I2 lN
 |ok fl =>
  cases fl with
  |ret u =>
   obtain⟨v,H',I3,rv,ev,q3⟩:=I2.after lN;subst ev;exact⟨rv,⟨V.ref (s.heap.objs.size+1),H',I3,rfl,q3⟩⟩
  |next=>exact False.elim lN
  |brk=>exact False.elim lN
  |cont=>exact False.elim lN
theorem Wn(M:Mk X.K C f)(F:gO X.prog X.w X.K X.mg X.base CX k f fd ps sp)(hr:t7 (k+1) X.A)(hg:Gl X x)(hm:X.mg x=some (.ref C))(hb:Binds X.K fd ps ds)(hd:Vals jo ds)(hx:Passes CX X E)(ha:PA X (e::es) t)(gh:(x==("__debug__":Str))=false:=by decide)(he:starEach (e::es) X.env=(false,eval e X.env)::starEach es X.env:=by rfl)(gM:(backTo pos (starEach es X.env)).any (·.1)=false:=by rfl) :
  PE X (.Call (.Name x p) (e::es) [] pos) (HV C sp jo E t):=by
 intro pins s Z H Q I h;refine cC (L5 I hg hm ?_ gh);refine Iw (h₀:=X.base) I.ok.mod.mI M.kp (cB (ha pos pins s Z H _ I h) λus s1 ⟨vs,H1,I1,r,q⟩=>⟨I1.gg,?_⟩) he gM;exact Et M F hr hb hd hx I1 r q
theorem Tb(M:Mk X.K C f)(F:gO X.prog X.w X.K X.mg X.base CX k f fd ps sp)(hr:t7 (k+1) X.A)(hg:Gl X x)(hm:X.mg x=some (.ref C))(hb:Binds X.K fd ps ds)(hd:Vals jo ds)(hx:Passes CX X E)(gh:(x==("__debug__":Str))=false:=by decide):PE X (.Call (.Name x p) [] [] pos) (HV C sp jo E Bc):=by
 intro pins s Z H Q I h;refine cC (L5 I hg hm ?_ gh);exact BU I.gg M.kp (Et (us:=[]) M F hr hb hd hx I .nil h)
end
structure ia(N P:List Str)(sc:Scope):Prop where
 kind:sc.kind=.function
 co:sc.isCoroutine=false
 gen:sc.isGenerator=false
 nd:N.Nodup
 pre:N.take P.length=P
 par:∀x∈P,sc.names.lookup x=some .local\/sc.names.lookup x=some .cell
 lH:∀y∈sc.names,y.2≠.free
theorem EJ{kindOf:Str->Option NameKind}{x:Str}:∀{binds:List (Str×Value)} {m:Str->Option Value},(∀v,(x,v)∉binds)->bindL kindOf binds m x=m x
 |[],_,_=>rfl
 |(n,v)::r,m,h=>by
  unfold bindL;rw[EJ λw hw=>h w (bH _ hw)];split
  ·have:x≠n:=by rintro rfl;exact h v fH
   simp[this]
  ·rfl
theorem EH{kindOf:Str->Option NameKind}{x:Str}:∀{binds:List (Str×Value)} {m:Str->Option Value},(∀v,(x,v)∉binds)->bindC kindOf binds m x=m x
 |[],_,_=>rfl
 |(n,v)::r,m,h=>by
  unfold bindC;rw[EH λw hw=>h w (bH _ hw)];split
  ·rfl
  ·have:x≠n:=by rintro rfl;exact h v fH
   simp[this]
theorem EI{kindOf:Str->Option NameKind}{x:Str}{v:Value}:∀{P:List Str} {vs:List Value} {i:Nat} {m:Str->Option Value},P.Nodup->P[i]?=some x->vs[i]?=some v->kindOf x=some .local ->
  bindL kindOf (P.zip vs) m x=some v
 |[],_,_,_,_,h,_,_=>by simp at h
 |_::_,[],_,_,_,_,h,_=>by simp at h
 |p::P,w::vs,0,m,nd,h1,h2,hk=>by
  simp at h1 h2;subst h1;subst h2;show bindL kindOf ((p,w)::P.zip vs) m p=_;unfold bindL;rw[EJ λv hv=>(dY.mp nd).1 (lh hv).1,aE hk];simp
 |p::P,w::vs,i+1,m,nd,h1,h2,hk=>by
  show bindL kindOf ((p,w)::P.zip vs) m x=_;unfold bindL;exact EI (i:=i) (dY.mp nd).2 (by simpa using h1) (by simpa using h2) hk
theorem EG{kindOf:Str->Option NameKind}{x:Str}{v:Value}:∀{P:List Str} {vs:List Value} {i:Nat} {m:Str->Option Value},P.Nodup->P[i]?=some x->vs[i]?=some v->kindOf x≠some .local ->
  bindC kindOf (P.zip vs) m x=some v
 |[],_,_,_,_,h,_,_=>by simp at h
 |_::_,[],_,_,_,_,h,_=>by simp at h
 |p::P,w::vs,0,m,nd,h1,h2,hk=>by
  simp at h1 h2;subst h1;subst h2;show bindC kindOf ((p,w)::P.zip vs) m p=_;unfold bindC;rw[EH λv hv=>(dY.mp nd).1 (lh hv).1,aB hk];simp
 |p::P,w::vs,i+1,m,nd,h1,h2,hk=>by
  show bindC kindOf ((p,w)::P.zip vs) m x=_;unfold bindC;exact EG (i:=i) (dY.mp nd).2 (by simpa using h1) (by simpa using h2) hk
def start(N:List Str)(vs:List V):St:=vs.map some++List.replicate (N.length-vs.length) none
def X5(CX:mr)(P:Program)(w:World)(K:PySem.W.Frag)(mg:Str->Option Value)(base:Heap)(N:List Str)(qual:Str)(scope:Scope)(f:Addr)(cd:Value)(A:Around)(outer:List Env)(s:Shared)(H:Hp)(E:XK):Cx where
 prog:=P
 w:=w
 K:=K
 mg:=mg
 base:=base
 A:=A.deeper (envOfC qual scope s.heap.objs.size f cd)
 N:=N
 cR:=s
 iU:=H
 env:=envOfC qual scope s.heap.objs.size f cd
 outer:=outer
 stack:=envOfC qual scope s.heap.objs.size f cd::outer
 ex:=[]
 calm:=true
 fn:=λ_=>true
 pn:=[]
 xe:=λe s'=>wpAny (model P w) (A.deeper (envOfC qual scope s.heap.objs.size f cd)) (leaving (envOfC qual scope s.heap.objs.size f cd) e) (λ_ nj=>CX outer H s E e nj) (λe' nj=>CX outer H s E e' nj) s'
theorem AA{sc:Scope}{n:Nat}(h:sc.names.lookup x=some .cell):∃c,(cellsFrom n sc.names []).lookup x=some c:=by
 have q:=dh sc.names n [] (.inl h);exact dW.mp q
theorem Uv{mg:Str->Option Value}{qual:Str}{scope:Scope}{cd:Value}{outer:List Env}{s1:Shared}{E:XK}(S:ia N ps scope)(hd:A.handled=none)(e0:qj P w K mg base A outer s H)(hl:vs.length=ps.length)(r:Vals vs us)(x:InCallC s s.heap.objs.size (bindL (envOfC qual scope s.heap.objs.size f cd).kindOf (ps.zip us) λ_=>none) (cellsFrom (s.heap.objs.size+1) scope.names []) (bindC (envOfC qual scope s.heap.objs.size f cd).kindOf (ps.zip us) λ_=>none) s1) :
  Inv (X5 CX P w K mg base N qual scope f cd A outer s H E) [] (start N vs) H s1:=by
 have gM:ps.length<=N.length:=by have:=dI List.length S.pre;rw[bN] at this;omega
 obtain⟨h1,tk,rfl,hk⟩:=x.done;have sT:∀b:Addr,b∉(X5 CX P w K mg base N qual scope f cd A outer s H E).ex:=λb z=>absurd (show b∈([]:List Addr) from z) (by simp);refine ⟨⟨e0.mod,S.kind,rfl,rfl,ak _,λy z c h1 h2=>?_,λy hy=>?_,λy c _ h=>?_,λ_=>hd,Around.frames_deeper e0.frames,.inr ⟨rfl,rfl⟩,λb z=>absurd z (sT b),e0.bs,e0.ml,λb _ _=>sT b,λb z=>absurd z (sT b),e0.F5,e0.mR⟩,
  rfl,e0.bare,Un.kept hk,⟨_,x.toInCall.ns,λi y v h1 h2 h3=>?_⟩,λy c h=>⟨_,x.cell y c h⟩,e0.bC.fresh (ak _),λy c h=>?_,λp hp=>absurd (show p ∈ ([]:List (Addr × Obj)) from hp) (by simp),e0.bC.kept hk,?_⟩
 ·exact name_of_addr x.apart (aJ h1) (aJ h2)
 ·have hy:scope.names.lookup y=some .cell\/scope.names.lookup y=some .free:=hy;rcases hy with hy|hy
  ·exact AA hy
  ·exact absurd rfl (S.lH _ (aJ hy))
 ·exact cK (x.above y c (aJ h))
 ·have hi:i<vs.length:=by
   unfold start at h2;by_cases hi:i<vs.length
   ·exact hi
   ·rw[bZ (by simpa using hi)] at h2;rw[cZ] at h2;split at h2<;>cases h2
  have ha:vs[i]?=some v:=by
   unfold start at h2;rw[au (by simpa using hi),aD] at h2;cases e:vs[i]? with
   |none=>rw[e] at h2;cases h2
   |some a=>rw[e] at h2;cases h2;rfl
  obtain⟨u,hu,rv⟩:=r.get ha;have hp:ps[i]?=some y:=by
   rw[<- S.pre,List.getElem?_take_of_lt (by omega)];exact h1
  have Cy:ps.Nodup:=by rw[<- S.pre];exact S.nd.sublist (List.take_sublist _ _)
  refine⟨u,rv,?_⟩;rcases S.par y (aY hp) with k|k
  ·exact .inl ⟨k,EI Cy hp hu k⟩
  ·obtain⟨c,e⟩:=AA (n:=s.heap.objs.size+1) k;refine .inr ⟨.inl k,c,e,?_⟩;have q:=x.cell y c e;rw[EG Cy hp hu (by show scope.names.lookup y≠_;rw[k];decide)] at q;exact q
 ·exact e0.bC.fresh (cK (x.above y c (aJ h)))
 ·unfold start;show _=N.length;rw[aG,ah,ip];omega
theorem Ma{mg:Str->Option Value}{name qual:Str}{params:Arguments}{scope:Scope}{dV kV doc pm fB ct oc:Value}{an od:Option Addr}{lG:Array (Option Value)}(lk:K.lookup f=some ⟨oc,od,.func (PySem.W.fnOf name qual params body scope dV kV doc pm an fB ct),lG⟩)(kJ:PySem.W.codeIn K fB qual=true)(S:ia N ps scope)(len:∀vs H Q E,sp vs H Q E->vs.length=ps.length)(tY:∀ (A:Around) (outer:List Env) (s:Shared) (H:Hp) (vs:List V) (Q:VK) (E:XK),t7 k (A.deeper (envOfC qual scope s.heap.objs.size f fB))->sp vs H Q E ->
   ∃ t,iN (X5 CX P w K mg base N qual scope f fB A outer s H E) body t/\t { nx:=λ_ H'=>Q .bL H',rt:=Q } (start N vs) H) :
  gO P w K mg base CX (k+1) f (PySem.W.fnOf name qual params body scope dV kV doc pm an fB ct) ps sp:=by
 refine⟨len,λA outer s H args us vs Q E hr e0 hb r qP=>?_⟩;have hl:=len _ _ _ _ qP;have KX:K.In s.heap:=e0.mod.mI.keeps λb o e=>(e0.bs b o e).1;have lim:s.heap.NoLimit:=e0.mod.nolimit.keeps λb o e=>(e0.bs b o e).1;have tO:∀y∈ps.zip us,scope.names.lookup y.1=some .local\/(scope.names.lookup y.1=some .cell/\((cellsFrom (s.heap.objs.size+1) scope.names []).lookup y.1).isSome=true):=λ⟨n,v⟩ hy=>by
  rcases S.par n (lh hy).1 with q|q
  ·exact .inl q
  ·exact .inr ⟨q,dh _ _ _ (.inl q)⟩
 refine codeAny_call_function hr.depth (KX _ _ lk) rfl S.co S.gen rfl (PySem.W.codeRec_of KX kJ) (hb _ _ _ _ ?_);refine wpAny_newFunctionEnv_cells S.kind tO λenv he s1 x=>?_;subst he;refine⟨lim.keeps x.toInCall.keep,codeAny_func ?_⟩;obtain⟨t,ht,hq⟩:=tY A outer s H vs Q E (hr.deeper _) qP;have I:Inv (X5 CX P w K mg base N qual scope f fB A outer s H E) [] (start N vs) H s1:=Uv S hr.hd e0 hl r x;refine br (ht [] s1 (start N vs) H _ I hq) (λfl s' hs=>?_) λe s' hs=>hs;have fin:∀{bI:St} {H':Hp} {v:V} {u:Value},Inv (X5 CX P w K mg base N qual scope f fB A outer s H E) [] bI H' s'->RelV v u->Q v H'->CE outer P w H s Q u s' :=
  λ{bI H' v u} J rv q=>⟨v,H',J.os,J.bare,J.base,J.bC,rv,q⟩
 cases fl with
 |ret u =>
  obtain⟨v,bI,H',J,rv,q⟩:=hs;exact fin J rv q
 |next =>
  obtain⟨bI,H',J,q⟩:=hs;exact fin (v:=V.bL) (u:=Value.none) J rfl q
 |brk =>
  obtain⟨_,_,_,q⟩:=hs;exact False.elim q
 |cont =>
  obtain⟨_,_,_,q⟩:=hs;exact False.elim q
section
variable{id T:String}{r:List V->Hp->VK->Prop}
def xR(r:List V->Hp->VK->Prop)(t:TA):TE:=λZ H Q=>t Z H λvs H1=>r vs H1 Q
theorem V6(hc:j2 X (.builtin id) r)(hg:Gl X x)(hm:X.mg x=none)(hv:bootBuiltins x=some (.builtin id))(ha:PA X (e::es) t)(hn:x≠"__name__":=by decide)(gh:(x==("__debug__":Str))=false:=by decide)(he:starEach (e::es) X.env=(false,eval e X.env)::starEach es X.env:=by rfl)(gM:(backTo pos (starEach es X.env)).any (·.1)=false:=by rfl):PE X (.Call (.Name x p) (e::es) [] pos) (xR r t):=by
 intro pins s Z H Q I h;refine cC (N1 I hg hm hv ?_ hn gh);exact PyProof.Rows.callWith_builtin1 (cB (ha pos pins s Z H _ I h) λus s1 ⟨vs,H1,I1,r1,q1⟩=>hc pins s1 Z H1 vs us Q I1 r1 q1) he gM
theorem M7(hc:j2 X (.type T) r)(hg:Gl X x)(hm:X.mg x=none)(hv:bootBuiltins x=some (.type T))(ha:PA X (e::es) t)(hn:x≠"__name__":=by decide)(gh:(x==("__debug__":Str))=false:=by decide)(he:starEach (e::es) X.env=(false,eval e X.env)::starEach es X.env:=by rfl)(gM:(backTo pos (starEach es X.env)).any (·.1)=false:=by rfl):PE X (.Call (.Name x p) (e::es) [] pos) (xR r t):=by
 intro pins s Z H Q I h;refine cC (N1 I hg hm hv ?_ hn gh);exact bY (cB (ha pos pins s Z H _ I h) λus s1 ⟨vs,H1,I1,r1,q1⟩=>hc pins s1 Z H1 vs us Q I1 r1 q1) he gM
end
end L2
namespace HT
open PySem PyProof.Rows
section
variable{prog:Program}{w:World}{A:Around}{E:Value->Shared->Prop}{s:Shared}
theorem PV{t b:Addr}{vs ws:List Value}{Q:Value->Shared->Prop}(ht:IsTup s.heap t vs.toArray)(hb:IsTup s.heap b ws.toArray)(hv:vs≠[])(h1:ws=[]->Q (.ref t) s)(h2:ws≠[]->Q (.ref s.heap.objs.size) { s with heap:=s.heap.push { cls:=.type "tuple",data:=.seq (vs++ws).toArray } })(hsz:vs.length+ws.length<=sizeLine):wpAny (model prog w) A (binaryOp .Add (.ref t) (.ref b)) Q E s:=by
 obtain⟨⟨cls,dd,data,sl⟩,ho,hc,n,hd⟩:=id ht;obtain⟨⟨zM,vY,data2,mD⟩,mM,oq,n2,hd2⟩:=id hb;simp only at hc hd oq hd2;subst hc hd oq hd2;have e:vs.toArray++ws.toArray=(vs++ws).toArray:=by simp
 by_cases hw:ws=[]
 ·exact Yp ⟨_,ho,rfl⟩ ⟨_,mM,rfl⟩ oP Ir gU gF (fX _ _)
   (tuple_addW1 t b vs.toArray ws.toArray n n2 dd vY sl mD (by simpa using hv) (by simp[hw])) ⟨ho,mM,h1 hw⟩
 ·refine Yp ⟨_,ho,rfl⟩ ⟨_,mM,rfl⟩ oP Ir gU gF (fX _ _)
   (tuple_addW2 t b vs.toArray ws.toArray n n2 dd vY sl mD (by simpa using hv) (by simpa using hw) (by rw[aC,aC];exact hsz)) ⟨ho,mM,?_⟩
  rw[e];exact h2 hw
def df(n d:Nat):Option Int->Nat
 |none=>d
 |some v=>if v<0 then(v+(n:Int)).toNat else min v.toNat n
theorem OP(n d:Nat)(hd:d<=n)(o:Option Int):df n d o<=n:=by
 cases o with
 |none=>exact hd
 |some v =>
  show(if v<0 then(v+(n:Int)).toNat else min v.toNat n)<=n;by_cases hv:v<0
  ·rw[aE hv];omega
  ·rw[aB hv];exact Nat.min_le_right _ _
theorem Gv(v:Int)(n d:Nat):(if v<0 then max (v+(n:Int)) 0 else min v (n:Int))=((df n d (some v):Nat):Int):=by
 show(if v<0 then max (v+(n:Int)) 0 else min v (n:Int))=(((if v<0 then(v+(n:Int)).toNat else min v.toNat n):Nat):Int);by_cases hv:v<0
 ·simp only[if_pos hv];omega
 ·simp only[if_neg hv];omega
theorem Vm(lo hi:Option Int)(n:Nat):Builtin.Slice.sliceAdjust lo hi 1 (n:Int)=(((df n 0 lo:Nat):Int),((df n n hi:Nat):Int)):=by
 have h1:¬((1:Int)<0):=by omega
 unfold Builtin.Slice.sliceAdjust;simp only[h1,if_false];refine Prod.ext ?_ ?_
 ·cases lo with
  |none=>rfl
  |some v=>exact Gv v n 0
 ·cases hi with
  |none=>rfl
  |some v=>exact Gv v n n
theorem VJ(i j:Nat):Builtin.Slice.slicePlaces (i:Int) (j:Int) 1=j-i:=by
 unfold Builtin.Slice.slicePlaces;have h1:(1:Int)>0:=by omega
 simp only[h1,if_true,Int.ediv_one];split<;>omega
theorem Fq{v:Value}{o:Option Int}{Q:Option Int->Shared->Prop}(p:IsPart v o)(h:Q o s):wpAny (model prog w) A (Builtin.Slice.slicePartIndex v) Q E s:=by
 cases p with
 |none=>exact slicePart_none h
 |int i t=>exact slicePart_int h
theorem O8{sl:Addr}{vl vu:Value}{lo hi:Option Int}{n:Nat}{Q:Int×Int×Nat->Shared->Prop}(hs:s.heap.IsSliceOf sl vl vu .none)(pl:IsPart vl lo)(pu:IsPart vu hi)(h:Q (((df n 0 lo:Nat):Int),1,df n n hi-df n 0 lo) s):wpAny (model prog w) A (Builtin.Slice.sliceApplied (.ref sl) (pure (n:Int))) Q E s:=by
 obtain⟨os,pQ,vR,tT⟩:=id hs;unfold Builtin.Slice.sliceApplied Builtin.Slice.sliceFields;refine aa (aa (jY pQ tT (x:=vl) rfl (aa (jY pQ tT (x:=vu) rfl (aa (jY pQ tT (x:=.none) rfl (ai ?_)))))));refine aa (slicePart_none ?_);show wpAny _ _ (if((1:Int)==0)=true then _ else _) _ _ s;rw[aB (by decide)];refine aa (Fq pl (aa (Fq pu (aa (ai ?_)))));show wpAny _ _ (match Builtin.Slice.sliceAdjust lo hi 1 (n:Int) with|(lo,hi)=>pure (lo,(1:Int),Builtin.Slice.slicePlaces lo hi 1)) _ _ s;rw[Vm lo hi n];show wpAny _ _ (pure (((df n 0 lo:Nat):Int),(1:Int),Builtin.Slice.slicePlaces ((df n 0 lo:Nat):Int) ((df n n hi:Nat):Int) 1)) _ _ s;rw[VJ];exact ai h
theorem Te(xs:Array Value)(i k:Nat):((List.range k).filterMap λ(m:Nat)=>xs[((i:Int)+(m:Int)*1).toNat]?).toArray=((xs.toList.drop i).take k).toArray:=by
 have e:(λ(m:Nat)=>xs[((i:Int)+(m:Int)*1).toNat]?)=λm=>xs[i+m]?:=by
  funext m
  have:((i:Int)+(m:Int)*1).toNat=i+m:=by omega
  rw[this]
 rw[e];have:=pick_run xs i k;rw[List.filterMap_map] at this;have e2:((λx=>xs[x]?) ∘ λx=>i+x)=λm=>xs[i+m]?:=rfl;rw[e2] at this;rw[this]
theorem Sv{t sl:Addr}{items:Array Value}{vl vu:Value}{lo hi:Option Int}{Q:Value->Shared->Prop}(ht:IsTup s.heap t items)(hs:s.heap.IsSliceOf sl vl vu .none)(pl:IsPart vl lo)(pu:IsPart vu hi)(hw:¬(df items.size 0 lo=0/\df items.size items.size hi=items.size))(h:Q (.ref s.heap.objs.size) { s with heap:=s.heap.push { cls:=.type "tuple",data:=.seq ((items.toList.drop (df items.size 0 lo)).take (df items.size items.size hi-df items.size 0 lo)).toArray } })(hsz:items.size<=sizeLine):wpAny (model prog w) A (getItem (.ref t) (.ref sl)) Q E s:=by
 have ku:sizeOk (.seq ((items.toList.drop (df items.size 0 lo)).take (df items.size items.size hi-df items.size 0 lo)).toArray):=by
  show((items.toList.drop (df items.size 0 lo)).take (df items.size items.size hi-df items.size 0 lo)).toArray.size<=sizeLine;rw[aC,bN,gG,bg];omega
 have hj:df items.size items.size hi<=items.size:=OP _ _ (ak _) hi;obtain⟨os,pQ,vR,tT⟩:=id hs;have yT:s.TypeIs (.ref sl) "slice":=⟨os,pQ,vR⟩
 unfold getItem
 try with_reducible refine bw ?_
 first|refine aa (ai ?_)|skip
 refine aa (wpAny_sequenceKey ht.typeIs (by decide) ?_);refine aa (eR (name:=Str.ofString "__getitem__") ht.typeIs bD
  (bT bD ht.typeIs entry_tuple_getitem ?_ (args_tuple_getitem _ _)))
 show wpAny _ _ (Builtin.Tuple.tupleItemsOf (.ref t) >>= _) _ _ s;refine aa (tupleItemsOf_ ht ?_);refine aa (cU yT ?_);rw[aE (by decide)];refine aa (O8 hs pl pu ?_);have nY:¬((((df items.size 0 lo:Nat):Int)==0&&(1:Int)==1&&(df items.size items.size hi-df items.size 0 lo)==items.size)=true):=by
  intro q;rw[bx,bx] at q;have q1:((df items.size 0 lo:Nat):Int)=0:=eq_of_beq q.1.1;have q2:df items.size items.size hi-df items.size 0 lo=items.size:=eq_of_beq q.2;exact hw ⟨by omega,by omega⟩
 show wpAny _ _ (if(((df items.size 0 lo:Nat):Int)==0&&(1:Int)==1&&(df items.size items.size hi-df items.size 0 lo)==items.size)=true then _ else _) _ _ s;rw[aB nY,Te]
 first
  |exact wpAny_bind (m:=Builtin.Tuple.tupleExact _) (wpAny_newObj_type (wpAny_pure ⟨_,rfl,wpAny_pure h⟩) ku)
  |exact wpAny_bind (m:=Builtin.Tuple.tupleExact _) (wpAny_newObj_type (wpAny_bind (wpAny_pure (wpAny_pure ⟨_,rfl,wpAny_pure h⟩))) ku)
  |exact wpAny_bind (wpAny_bind (m:=Builtin.Tuple.tupleExact _) (wpAny_newObj_type (wpAny_pure (wpAny_pure ⟨_,rfl,wpAny_pure h⟩)) ku))
  |exact wpAny_bind (wpAny_bind (m:=Builtin.Tuple.tupleExact _) (wpAny_newObj_type (wpAny_pure ⟨_,rfl,wpAny_pure h⟩) ku))
end
end HT
namespace L2
open PySem PySem.Spec PyProof.Rows
variable{X:Cx}{e:Expr}{pos:Pos}{n t':Nat}{α:Type}{a:Addr}{pins:List (Addr×Obj)}{Z:St}{H H':Hp}{s:Shared}{aQ:List Value}{o:Option V}{w:World}{A:Around}{E:Value->Shared->Prop}{u:Value}{kvs:List (List Key×V)}{y:V}{P:Program}
noncomputable abbrev TO:=St->Hp->(Option Int->Hp->Prop)->Prop
def PO(X:Cx)(e:Option Expr)(t:TO):Prop :=
 ∀(pins:List (Addr×Obj)) (s:Shared) (Z:St) (H:Hp) (Q:Option Int->Hp->Prop),Inv X pins Z H s->t Z H Q ->
  wpAny (model X.prog X.w) X.A (evalPart e X.env) (λu s'=>∃o H',Inv X pins Z H' s'/\IsPart u o/\Q o H') X.xe s
def WW:TO:=λ_ H Q=>Q none H
def Ng(t:TE):TO:=λZ H Q=>t Z H λx H1=>∃i,x=.int i/\Q (some i) H1
section
variable{te:TE}{lo hi:Option Expr}{tl th:TO}{p2:Pos}
theorem wY:PO X none WW:=by
 intro pins s Z H Q I h;rw[evalPart_none];exact ai ⟨none,H,I,.none,h⟩
theorem GQ(h:PE X e te):PO X (some e) (Ng te):=by
 intro pins s Z H Q I hw;rw[evalPart_some];refine cB (h pins s Z H _ I hw) λu s1 bh=>?_;obtain⟨x,H1,I1,r1,q1⟩:=bh;obtain⟨i,rfl,q⟩:=q1;obtain⟨t,rfl⟩:=r1;exact⟨some i,H1,I1,.int i t,q⟩
def ve(X:Cx)(r:V->Option Int->Option Int->Hp->VK->Prop):Prop :=
 ∀(pins:List (Addr×Obj)) (s:Shared) (Z:St) (H:Hp) (x:V) (v vl vu:Value) (lo hi:Option Int) (sl:Addr) (Q:VK),Inv X pins Z H s->RelV x v->s.heap.IsSliceOf sl vl vu .none->IsPart vl lo->IsPart vu hi->r x lo hi H Q ->
  ∃T id,typeLookup (.type T) "__getitem__"=pure (some (.builtin id))/\s.TypeIs v T/\wpAny (model X.prog X.w) X.A (getItem v (.ref sl)) (EP X pins Z Q) X.xe s
def IJ(r:V->Option Int->Option Int->Hp->VK->Prop)(te:TE)(tl th:TO):TE:=λZ H Q=>te Z H λx H1=>tl Z H1 λl H2=>th Z H2 λu H3=>r x l u H3 Q
theorem AI{r:V->Option Int->Option Int->Hp->VK->Prop}(hr:ve X r)(he:PE X e te)(hl:PO X lo tl)(hu:PO X hi th):PE X (.Subscript e (.Slice lo hi none p2) pos) (IJ r te tl th):=by
 intro pins s Z H Q I h;refine Subscript_ (cB (he pins s Z H _ I h) λv s1 bh=>?_);obtain⟨x,H1,I1,r1,q1⟩:=bh;refine wpAny_Slice (cB (hl pins s1 Z H1 _ I1 q1) λvl s2 ⟨l,H2,I2,pl,q2⟩=>cB (hu pins s2 Z H2 _ I2 q2) λvu s3 bh=>?_);obtain⟨u,H3,I3,pu,q3⟩:=bh;rw[evalPart_none];refine ai ?_;have I4:Inv X pins Z H3 { s3 with heap:=s3.heap.push { cls:=.type "slice",data:=.fields #[vl,vu,.none] } }:=I3.kept (t':=s3.toks) λb ob q=>ag _ q;obtain⟨T,id,hT,ht,hg⟩:=hr pins { s3 with heap:=s3.heap.push { cls:=.type "slice",data:=.fields #[vl,vu,.none] } } Z H3 x v vl vu l u s3.heap.objs.size Q I4 r1 (Heap.IsSliceOf.new ..) pl pu q3;show wpAny (model X.prog X.w) X.A (subscriptTail e (.Slice lo hi none p2) v (.ref s3.heap.objs.size)) (EP X pins Z Q) X.xe { s3 with heap:=s3.heap.push { cls:=.type "slice",data:=.fields #[vl,vu,.none] } };exact tail_any (ops:=[.ref s3.heap.objs.size,v]) ht hT hg (by with_unfolding_all rfl)
def P7(xs:List V)(lo hi:Option Int):List V:=(xs.drop (HT.df xs.length 0 lo)).take (HT.df xs.length xs.length hi-HT.df xs.length 0 lo)
theorem Fw(xs:List V)(lo hi:Option Int):(P7 xs lo hi).length<=xs.length:=by
 unfold P7;rw[bN,gG];omega
def Lf(K:PySem.W.Frag):V->Option Int->Option Int->Hp->VK->Prop:=λx lo hi H Q=>∃a xs,x=.ref a/\hZ K H a xs /\
 ¬(HT.df xs.length 0 lo=0/\HT.df xs.length xs.length hi=xs.length)/\∀p,H p=none->Q (.ref p) (upd H p (.tup (P7 xs lo hi)))
theorem Pe:ve X (Lf X.K):=by
 intro pins s Z H x v vl vu lo hi sl Q I rx hs pl pu h;obtain⟨a,xs,rfl,hx,hw,q⟩:=h;cases rx;obtain⟨aQ,r,ht,hz⟩:=I.tuple hx;have hlen:aQ.toArray.size=xs.length:=by rw[aC];exact r.length.symm
 refine⟨"tuple",_,bD.lookup,ht.typeIs,?_⟩;refine HT.Sv ht hs pl pu (by rw[hlen];exact hw) ?_ (by rw[hlen];exact hz);rw[hlen];refine⟨.ref s.heap.objs.size,_,I.laid (t':=s.toks) (o:=.tup (P7 xs lo hi)) (λb ob q=>ag _ q) (ak _) ?_,rfl,q _ (I.bC.fresh (ak _))⟩;exact⟨aM (Fw xs lo hi) hz,_,(r.drop (HT.df xs.length 0 lo)).take (HT.df xs.length xs.length hi-HT.df xs.length 0 lo),K6.new _ _⟩
def MP(K:PySem.W.Frag):R2:=λx y H Q=>∃a b xs ys,x=.ref a/\y=.ref b/\hZ K H a xs/\hZ K H b ys/\xs≠[]/\xs.length+ys.length<=sizeLine /\
 (ys=[]->Q (.ref a) H)/\(ys≠[]->∀p,H p=none->Q (.ref p) (upd H p (.tup (xs++ys))))
theorem Vals.wW{xs:List V}{us:List Value}(r:Vals xs us):us=[]↔xs=[]:=by
 cases r with
 |nil=>simp
 |cons _ _=>simp
theorem QA:fk X (binaryOp .Add) (MP X.K):=by
 intro pins s Z H x y v u Q I rx ry h;obtain⟨a,b,xs,ys,rfl,rfl,ha,hb,hx,hz,q1,q2⟩:=h;cases rx;cases ry;obtain⟨aQ,r1,p1,_⟩:=I.tuple ha;obtain⟨lL,r2,p2,_⟩:=I.tuple hb;refine HT.PV p1 p2 (λz=>hx (r1.wW.mp z)) (λz=>⟨.ref a,H,I,rfl,q1 (r2.wW.mp z)⟩) (λz=>?_) (by rw[<- r1.length,<- r2.length];exact hz);refine⟨.ref s.heap.objs.size,_,I.laid (t':=s.toks) (o:=.tup (xs++ys)) (λb ob q=>ag _ q) (ak _) ?_,rfl,q2 (λw=>z (r2.wW.mpr w)) _ (I.bC.fresh (ak _))⟩;exact⟨by rw[aG];exact hz,_,r1.append r2,K6.new _ _⟩
end
def jT(n:Nat)(i:Int):Option Nat:=if 0<=i then(if i<n then some i.toNat else none) else if -(n:Int)<=i then some (i+n).toNat else none
def gj{α:Type}(xs:List α)(i:Int):Option α:=(jT xs.length i).bind λj=>xs[j]?
theorem GF{i:Int}{j:Nat}(h:jT n i=some j):seqIndex? i n=some j/\j<n/\-(n:Int)<=i/\i<n:=by
 unfold jT at h;by_cases h0:0<=i
 ·rw[aE h0] at h;by_cases h1:i<n
  ·rw[aE h1] at h;have e:i.toNat=j:=aH h;exact⟨by rw[seqIndex_of h0 h1,e],by omega,by omega,h1⟩
  ·rw[aB h1] at h;cases h
 ·rw[aB h0] at h;by_cases h1:-(n:Int)<=i
  ·rw[aE h1] at h;have e:(i+n).toNat=j:=aH h;exact⟨by rw[Yo (by omega) h1,e],by omega,h1,by omega⟩
  ·rw[aB h1] at h;cases h
theorem Al{xs:List α}{i:Int}{v:α}(h:gj xs i=some v):∃j,seqIndex? i xs.length=some j/\xs[j]?=some v/\j<xs.length/\-(xs.length:Int)<=i/\i<xs.length:=by
 unfold gj at h;cases e:jT xs.length i with
 |none=>rw[e] at h;cases h
 |some j =>
  rw[e] at h;obtain⟨h1,h2,h3,h4⟩:=GF e;exact⟨j,h1,h,h2,h3,h4⟩
theorem L6{xs:List α}{j:Nat}{v:α}(h:xs[j]?=some v):gj xs (j:Int)=some v:=by
 have hj:j<xs.length:=(aq.mp h).1;have e:jT xs.length (j:Int)=some j:=by
  unfold jT;rw[aE (by omega),aE (by omega)];simp
 unfold gj;rw[e];exact h
theorem Xb(xs:List α)(v:α):gj (xs++[v]) (-1)=some v:=by
 have hl:(xs++[v]).length=xs.length+1:=by simp
 have e:jT (xs++[v]).length (-1)=some xs.length:=by
  unfold jT;rw[hl,aB (by decide),aE (by omega)]
  congr 1
  omega
 unfold gj;rw[e];show(xs++[v])[xs.length]?=some v;simp
def Aj(b:Expr):Prop:=∀o i,subscripted b false o i=operate [o,i] (getItem o i)
def qr(X:Cx)(r:R2):Prop :=
 ∀(value slice:Expr) (pins:List (Addr×Obj)) (s:Shared) (Z:St) (H:Hp) (x y:V) (v u:Value) (Q:VK),Inv X pins Z H s->RelV x v->RelV y u->r x y H Q ->
  subscripted slice false v u=operate [v,u] (getItem v u)->wpAny (model X.prog X.w) X.A (subscriptTail value slice v u) (EP X pins Z Q) X.xe s
def nH(X:Cx)(id:String)(r:V->List V->Hp->VK->Prop):Prop :=
 ∀(pins:List (Addr×Obj)) (s:Shared) (Z:St) (H:Hp) (x:V) (xs:List V) (v:Value) (us:List Value) (Q:VK),Inv X pins Z H s->RelV x v->Vals xs us->r x xs H Q ->
  wpAny (model X.prog X.w) X.A (call (.builtin id) (v::us)) (EP X pins Z Q) X.xe s
section
variable{a b:Expr}{ta tb:TE}
theorem HK{r:R2}(hr:qr X r)(ha:PE X a ta)(hb:PE X b tb)(hs:Aj b):PE X (.Subscript a b pos) (qD r ta tb):=by
 intro pins s Z H Q I h;exact Subscript_ (BE ha hb I h λv u s2 x y H2 I2 rx ry q=>hr a b pins s2 Z H2 x y v u Q I2 rx ry q (hs _ _))
def Rp(K:PySem.W.Frag):R2:=λx y H Q=>∃p xs i v,x=.ref p/\y=.int i/\fj K H p xs/\gj xs i=some v/\Q v H
def Lb(K:PySem.W.Frag):R2:=λx y H Q=>∃p xs i v,x=.ref p/\y=.int i/\hZ K H p xs/\gj xs i=some v/\Q v H
def La:R2:=λx y H Q=>∃z i c,x=.str z/\y=.int i/\z.length<=sizeLine/\gj z.cps.toList i=some c/\Q (.str ⟨#[c]⟩) H
theorem Ql:qr X (Rp X.K):=by
 intro value slice pins s Z H x y v u Q I rx ry h hs;obtain⟨p,xs,i,z,rfl,rfl,hq,he,q⟩:=h;cases rx;obtain⟨t,rfl⟩:=ry;obtain⟨aQ,r,pl,hz⟩:=I.list hq;obtain⟨j,h1,h2,h3,h4,h5⟩:=Al he;obtain⟨w,ew,fF⟩:=r.get h2;have hl:=r.length;have hn:=P4;have fin:EP X pins Z Q w s:=⟨z,H,I,fF,q⟩
 by_cases h0:0<=i
 ·have hj:i.toNat=j:=by
   rw[seqIndex_of h0 h5] at h1;exact aH h1
  exact item_listR pl.isList h0 (by omega) (by rw[hj];simpa using ew) fin hs
 ·have hj:(i+(aQ.toArray.size:Int)).toNat=j:=by
   rw[Yo (by omega) h4] at h1;rw[aC,<- hl];exact aH h1
  exact subscriptTail_builtinR (x:=w) pl.isList.typeIs slot_list_getitem.lookup
   (wpAny_getItem_list_neg (Q:=λr s'=>r=w/\EP X pins Z Q r s') pl.isList (by omega) (by rw[aC]<;>omega) (by omega) (by rw[hj];simpa using ew) ⟨rfl,fin⟩) hs
theorem NK:qr X (Lb X.K):=by
 intro value slice pins s Z H x y v u Q I rx ry h hs;obtain⟨p,xs,i,z,rfl,rfl,hq,he,q⟩:=h;cases rx;obtain⟨t,rfl⟩:=ry;obtain⟨aQ,r,pl,hz⟩:=I.tuple hq;obtain⟨j,h1,h2,h3,h4,h5⟩:=Al he;obtain⟨w,ew,fF⟩:=r.get h2;have hl:=r.length;have hn:=P4;have fin:EP X pins Z Q w s:=⟨z,H,I,fF,q⟩
 exact subscriptTail_builtinR (x:=w) pl.typeIs slot_tuple_getitem.lookup
  (getItem_tuple (j:=j) (Q:=λr s'=>r=w/\EP X pins Z Q r s') pl (by omega) (by omega) (by rw[aC,<- hl];exact h1) (by simpa using ew) ⟨rfl,fin⟩) hs
theorem NJ:qr X La:=by
 intro value slice pins s Z H x y v u Q I rx ry h hs;obtain⟨z,i,c,rfl,rfl,hz,he,q⟩:=h;obtain⟨t,rfl⟩:=rx;obtain⟨t',rfl⟩:=ry;obtain⟨j,h1,h2,h3,h4,h5⟩:=Al he;have hl:z.cps.toList.length=z.length:=by simp[Str.length]
 rw[hl] at h1 h4 h5;have hn:=P4;exact tail_any (typeIs_str s z t) slot_str_getitem.lookup (getItem_str (c:=c) (by
  have e1:decide (i < -(2 ^ 63:Int))=false:=aL (by omega);have e2:decide (i>=2 ^ 63)=false:=aL (by omega);rw [e1,e2,Bool.or_false]) (by rw [h1];simpa using h2) ⟨.str ⟨#[c]⟩,H,I.tok _,⟨_,rfl⟩,q⟩) hs
theorem VD(aQ:List Value)(n j:Nat)(u:Value):Obj.mapSeq (·.setIfInBounds j u) { cls:=.type "list",data:=.seq aQ.toArray n }={ cls:=.type "list",data:=.seq (aQ.set j u).toArray n }:=by
 simp[Obj.mapSeq]
theorem Inv.lst{pins:List (Addr×Obj)}{Z:St}{H:Hp}{s:Shared}{p:Addr}{xs:List V}(I:Inv X pins Z H s)(h:H p=some (.lst xs)) :
  ∃(aQ:List Value) (n:Nat),Vals xs aQ/\s.heap.get? p=some { cls:=.type "list",data:=.seq aQ.toArray n }/\xs.length<=sizeLine:=by
 obtain⟨z,aQ,n,r,e⟩:=I.bC p _ h;exact⟨aQ,n,r,e,z⟩
theorem Inv.NV{p:Addr}{xs ys:List V}{its':List Value}{n':Nat}{f:Obj->Obj}(I:Inv X pins Z H s)(h:H p=some (.lst xs))(ho:s.heap.get? p=some { cls:=.type "list",data:=.seq aQ.toArray n })(hf:f { cls:=.type "list",data:=.seq aQ.toArray n }={ cls:=.type "list",data:=.seq its'.toArray n' })(r:Vals ys its')(hz:ys.length<=sizeLine)(t:Nat) :
  Inv X pins Z (upd H p (.lst ys)) { s with heap:=s.heap.update p f,toks:=t }:=by
 have e:(s.heap.update p f).get? p=some { cls:=.type "list",data:=.seq its'.toArray n' }:=by
  rw[aS f ho (by rw[hf]<;>rfl),hf]
 refine I.write (x:=p) (e:=p) (by rw[h];trivial) (.inl rfl) (λb u hb q=>(aT _ _ (bB hb)).trans q) ⟨_,e⟩ ?_;exact⟨hz,its',n',r,e⟩
def MR:V->V->V->Hp->(Hp->Prop)->Prop:=λo i v H Q=>∃p xs k j,o=.ref p/\i=.int k/\H p=some (.lst xs)/\jT xs.length k=some j/\Q (upd H p (.lst (xs.set j v)))
theorem set_list:BA X MR:=by
 intro pins s Z H o i v ov iv u Q I ro ri rv h;obtain⟨p,xs,k,j,rfl,rfl,hp,hj,q⟩:=h;cases ro;obtain⟨t,rfl⟩:=ri;obtain⟨aQ,n,r,ho,hz⟩:=I.lst hp;obtain⟨h1,h2,h3,h4⟩:=GF hj;have hl:=r.length;have hn:=P4;have I':Inv X pins Z (upd H p (.lst (xs.set j v))) { s with heap:=s.heap.update p (Obj.mapSeq (·.setIfInBounds j u)) } :=
  I.NV hp ho (VD aQ n j u) (r.set rv j) (by rw[fm];exact hz) s.toks
 by_cases h0:0<=k
 ·have hk:k.toNat=j:=by
   rw[seqIndex_of h0 h4] at h1;exact aH h1
  exact PySem.W.ki_setAt ho h0 (by omega) (by rw[aC,<- hl];exact h4) (by rw[hk];exact⟨_,I',q⟩)
 ·have hk:(k+(aQ.toArray.size:Int)).toNat=j:=by
   rw[Yo (by omega) h3] at h1;rw[aC,<- hl];exact aH h1
  exact PySem.W.ki_setBack ho (by omega) (by rw[aC,<- hl];exact h3) (by omega) (by rw[hk];exact⟨_,I',q⟩)
theorem RX(lo hi:Option Int)(n:Nat):(sliceBounds lo hi none n).1=((HT.df n 0 lo:Nat):Int)/\(sliceBounds lo hi none n).2.1=((HT.df n n hi:Nat):Int)/\(sliceBounds lo hi none n).2.2=1:=by
 refine⟨?_,?_,rfl⟩
 ·cases lo with
  |none=>simp[sliceBounds,HT.df]
  |some i =>
   simp only[sliceBounds,HT.df,Option.getD_none,show(1:Int)>0 by decide,if_true];by_cases h:i<0
   ·simp only[h,if_true]<;>omega
   ·simp only[h,if_false]<;>omega
 ·cases hi with
  |none=>simp[sliceBounds,HT.df]
  |some i =>
   simp only[sliceBounds,HT.df,Option.getD_none,show(1:Int)>0 by decide,if_true];by_cases h:i<0
   ·simp only[h,if_true]<;>omega
   ·simp only[h,if_false]<;>omega
theorem Sk(aQ:List Value)(lo hi:Option Int):slicePick aQ.toArray lo hi none=((aQ.drop (HT.df aQ.length 0 lo)).take (HT.df aQ.length aQ.length hi-HT.df aQ.length 0 lo)).toArray:=by
 obtain⟨h1,h2,h3⟩:=RX lo hi aQ.toArray.size;unfold slicePick;rw[h1,h2,h3];simp only[sliceRange_one,pick_run,List.size_toArray]<;>rfl
def Le(K:PySem.W.Frag):V->Option Int->Option Int->Hp->VK->Prop:=λx lo hi H Q=>∃a xs,x=.ref a/\fj K H a xs/\∀p,H p=none->Q (.ref p) (upd H p (.lst (P7 xs lo hi)))
theorem WQ:ve X (Le X.K):=by
 intro pins s Z H x v vl vu lo hi sl Q I rx hs pl pu h;obtain⟨a,xs,rfl,hx,q⟩:=h;cases rx;obtain⟨aQ,r,ht,hz⟩:=I.list hx;have hlen:=r.length;refine⟨"list",_,slot_list_getitem.lookup,ht.isList.typeIs,?_⟩;refine wpAny_getItem_list_slice ht.isList hs pl pu .none (by simp) ?_ (by rw[aC]<;>omega);rw[Sk,<- hlen];refine⟨.ref s.heap.objs.size,_,I.laid (t':=s.toks) (o:=.lst (P7 xs lo hi)) (λb ob q=>ag _ q) (ak _) ?_,rfl,q _ (I.bC.fresh (ak _))⟩;exact⟨aM (Fw xs lo hi) hz,_,0,(r.drop (HT.df xs.length 0 lo)).take (HT.df xs.length xs.length hi-HT.df xs.length 0 lo),aw _ rfl⟩
def Dw:V->V->Bool
 |.bL,.bL=>true
 |.bl a,.bl b=>a==b
 |.bl a,.int b=>(if a then 1 else 0)==b
 |.int a,.bl b=>a==(if b then 1 else 0)
 |.int a,.int b=>a==b
 |.str a,.str b=>a==b
 |_,_=>false
theorem RE:j2 X (.builtin "len") (λxs H Q=>∃p ys,xs=[.ref p]/\(fj X.K H p ys\/hZ X.K H p ys)/\Q (.int ys.length) H):=by
 intro pins s Z H xs us Q I r h;obtain⟨p,ys,rfl,hq,q⟩:=h;obtain⟨u,rfl,rx⟩:=vals1 r;cases rx;have hn:=P4;rcases hq with hq|hq
 ·obtain⟨aQ,r',pl,hz⟩:=I.list hq;have hlen:=r'.length;exact Calls.call_len_list pl.isList (by simp only[List.size_toArray]<;>omega) ⟨.int ys.length,H,I.tok _,⟨s.toks+1,by rw[aC,hlen]⟩,q⟩
 ·obtain⟨aQ,r',pl,hz⟩:=I.tuple hq;have hlen:=r'.length;exact len_tuple pl (by simp only[List.size_toArray]<;>omega) ⟨.int ys.length,H,I.tok _,⟨s.toks+1,by rw[aC,hlen]⟩,q⟩
theorem RG:j2 X (.builtin "len") (λxs H Q=>∃z,xs=[.str z]/\z.length<=sizeLine/\Q (.int z.length) H):=by
 intro pins s Z H xs us Q I r h;obtain⟨z,rfl,hz,q⟩:=h;obtain⟨u,rfl,t,rfl⟩:=vals1 r;have hn:=P4;exact len_str (by omega) ⟨.int z.length,H,I.tok _,⟨_,rfl⟩,q⟩
theorem RH:j2 X (.type "list") (λxs H Q=>∃p ys,xs=[.ref p]/\(fj X.K H p ys\/hZ X.K H p ys)/\∀l,H l=none->Q (.ref l) (upd H l (.lst ys))):=by
 intro pins s Z H xs us Q I r h;obtain⟨p,ys,rfl,hq,q⟩:=h;obtain⟨u,rfl,rx⟩:=vals1 r;cases rx;have fin:∀(aQ:List Value),Vals ys aQ->ys.length<=sizeLine->∀(h':Heap) (c':Nat),(∀b o',s.heap.get? b=some o'->h'.get? b=some o') ->
   h'.get? s.heap.objs.size=some { cls:=.type "list",dict:=none,data:=.seq aQ.toArray c',slots:=#[] }->EP X pins Z Q (.ref s.heap.objs.size) { s with heap:=h' }:=λaQ r' hz h' c' kp e =>
  ⟨.ref s.heap.objs.size,_,I.laid (t':=s.toks) kp (ak _) (show k7 X.prog X.w _ h' _ (.lst ys) from⟨hz,aQ,c',r',e⟩),rfl,q _ (I.bC.fresh (ak _))⟩
 rcases hq with hq|hq
 ·obtain⟨aQ,r',pl,hz⟩:=I.list hq;have hlen:=r'.length;obtain⟨o,ho,hc,n,hd⟩:=pl.isList;exact call_list_seq p (.inl rfl) ho hc hd (λh' c' kp e=>fin aQ r' hz h' c' kp e) (by simp only[List.size_toArray]<;>omega)
 ·obtain⟨aQ,r',pl,hz⟩:=I.tuple hq;have hlen:=r'.length;obtain⟨o,ho,hc,n,hd⟩:=pl;exact call_list_seq p (.inr rfl) ho hc hd (λh' c' kp e=>fin aQ r' hz h' c' kp e) (by simp only[List.size_toArray]<;>omega)
theorem Sd:j2 X (.type "tuple") (λxs H Q=>∃p ys,xs=[.ref p]/\((fj X.K H p ys/\∀l,H l=none->Q (.ref l) (upd H l (.tup ys)))\/(hZ X.K H p ys/\Q (.ref p) H))):=by
 intro pins s Z H xs us Q I r h;obtain⟨p,ys,rfl,h⟩:=h;obtain⟨u,rfl,rx⟩:=vals1 r;cases rx;rcases h with⟨hq,q⟩|⟨hq,q⟩
 ·obtain⟨aQ,r',pl,hz⟩:=I.list hq;have hlen:=r'.length;refine call_tuple_list pl.isList (λh' kp=>?_) (by simp only[List.size_toArray]<;>omega);have I1:Inv X pins Z H { s with heap:=h' }:=I.kept (t':=s.toks) kp;have I2:Inv X pins Z (upd H h'.objs.size (.tup ys)) { s with heap:=h'.push { cls:=.type "tuple",data:=.seq aQ.toArray } } :=
   I1.laid (t':=s.toks) (λb o e=>ag _ e) (ak _) (show k7 X.prog X.w _ _ _ (.tup ys) from⟨hz,aQ,r',K6.new _ _⟩)
  exact⟨.ref h'.objs.size,_,I2,rfl,q _ (I1.bC.fresh (ak _))⟩
 ·obtain⟨aQ,r',pl,hz⟩:=I.tuple hq;exact call_tuple_same pl ⟨.ref p,H,I,rfl,q⟩
def ng(K:PySem.W.Frag)(T:String)(x:V)(H:Hp):Prop:=match x with
 |.str _=>T="str"
 |.int _=>T="int"
 |.ref p=>(T="list"/\∃xs,fj K H p xs)\/(T="tuple"/\∃o,K.lookup p=some o/\o.cls=.type "tuple"/\o.dict=none) \/
   (T="dict"/\((∃kvs,H p=some (.dK kvs))\/∃kvs,H p=some (.dT kvs)))\/(T="set"/\∃S n,H p=some (.set S n))
 |_=>False
theorem Gk{T:String}{x:V}{v:Value}(I:Inv X pins Z H s)(r:RelV x v)(ty:ng X.K T x H) :
  s.TypeIs v T/\∀a,v=.ref a->∃ob,s.heap.get? a=some ob/\ob.dict=none:=by
 cases x with
 |str z =>
  obtain⟨t,rfl⟩:=r;cases (show T="str" from ty);exact⟨typeIs_str s z t,λ_ e=>nomatch e⟩
 |int i =>
  obtain⟨t,rfl⟩:=r;cases (show T="int" from ty);exact⟨gD s i t,λ_ e=>nomatch e⟩
 |ref p =>
  cases r;rcases ty with⟨rfl,xs,hq⟩|⟨rfl,o,hk,hc,hd⟩|⟨rfl,hk⟩|⟨rfl,S,n,hk⟩
  ·obtain⟨aQ,_,pl,_⟩:=I.list hq;refine⟨pl.isList.typeIs,λa e=>?_⟩;cases e;obtain⟨o,n,e,c,hd,_⟩:=pl;exact⟨o,e,hd⟩
  ·refine⟨⟨o,I.gg p o hk,hc⟩,λa e=>?_⟩;cases e;exact⟨o,I.gg _ o hk,hd⟩
  ·have z:∃o,s.heap.get? p=some o/\o.ExactDict:=by
    rcases hk with⟨kvs,hk⟩|⟨kvs,hk⟩
    ·obtain⟨_,_,_,_,o,_,_,e,ex,_⟩:=I.bC p _ hk;exact⟨o,e,ex⟩
    ·obtain⟨_,_,_,_,o,_,_,e,ex,_⟩:=I.bC p _ hk;exact⟨o,e,ex⟩
   obtain⟨o,e,ex⟩:=z;refine⟨⟨o,e,ex.1⟩,λa e2=>?_⟩;cases e2;exact⟨o,e,ex.2.1⟩
  ·obtain⟨o,_,_,_,e,ex,_⟩:=I.bC p _ hk;refine⟨⟨o,e,ex.1⟩,λa e2=>?_⟩;cases e2;exact⟨o,e,ex.2.1⟩
 |_=>exact False.elim ty
def Lq(K:PySem.W.Frag)(T:String)(r:V->List V->Hp->VK->Prop)(to:TE):TE:=λZ H Q=>to Z H λx H1=>ng K T x H1/\r x [] H1 Q
def IP(K:PySem.W.Frag)(T:String)(r:V->List V->Hp->VK->Prop)(to:TE)(t:TA):TE:=λZ H Q=>to Z H λx H1=>ng K T x H1/\t Z H1 λxs H2=>r x xs H2 Q
variable{o:Expr}{es:List Expr}{to:TE}{t:TA}{name:Str}{apos fu:Pos}{T id:String}{r:V->List V->Hp->VK->Prop}
theorem Oo(pa:PlainAttrs T)(slot:Slot T name id)(iX:typeOf (.builtin id)=pure (.type "method_descriptor"))(hm:nH X id r)(ho:PE X o to)(iE:attributeBase o name X.env (eval o X.env)=eval o X.env:=by rfl)(iD:(apos.endLine==fu.line)=true:=by rfl):PE X (.Call (.Attribute o name apos) [] [] fu) (Lq X.K T r to):=by
 intro pins s Z H Q I h;refine wpAny_Call_method0_late iE iD (cB (ho pins s Z H _ I h) λv s1 bh=>?_);obtain⟨x,H1,I1,r1,ty,q1⟩:=bh;obtain⟨h1,h2⟩:=Gk I1 r1 ty;exact⟨T,id,pa,slot,iX,h1,h2,Yv rfl (PySem.evalArgs_none (hm pins s1 Z H1 x [] v [] Q I1 r1 .nil q1))⟩
theorem MI(pa:PlainAttrs T)(slot:Slot T name id)(iX:typeOf (.builtin id)=pure (.type "method_descriptor"))(hm:nH X id r)(ho:PE X o to)(ha:PA X (e::es) t)(iE:attributeBase o name X.env (eval o X.env)=eval o X.env:=by rfl)(pS:((backTo fu (starEach (e :: es) X.env)).all (λx=>!x.1) && (backToKw fu (keywordEach [] X.env)).all (λx=>x.1.isSome)
   && decide ((e :: es).length + ([]:List Keyword).length + (if ([]:List Keyword).isEmpty then 0 else 1) < 30))=true:=by rfl)(iD:(apos.endLine==fu.line)=true:=by rfl)(hs:starEach (e::es) X.env=(false,eval e X.env)::starEach es X.env:=by rfl)(fQ:(backTo fu (starEach es X.env)).any (·.1)=false:=by rfl) :
  PE X (.Call (.Attribute o name apos) (e::es) [] fu) (IP X.K T r to t):=by
 intro pins s Z H Q I h;refine wpAny_Call_method_late iE pS iD rfl (cB (ho pins s Z H _ I h) λv s1 bh=>?_);obtain⟨x,H1,I1,r1,ty,q1⟩:=bh;obtain⟨h1,h2⟩:=Gk I1 r1 ty;refine⟨T,id,pa,slot,iX,h1,h2,?_⟩;have hA:=ha fu pins s1 Z H1 _ I1 q1;rw[hs] at hA ⊢;refine Yv (by show(false||(backTo fu (starEach es X.env)).any (·.1))=false;rw[fQ]<;>rfl) (Calls.evalArgs_plain ?_);exact cB hA λus s2 ⟨vs,H2,I2,r2,q2⟩=>hm pins s2 Z H2 x vs v us Q I2 r1 r2 q2
end
def Ig(X:Cx)(id:String)(r:V->List V->Hp->VK->Prop):Prop :=
 ∀(pins:List (Addr×Obj)) (s:Shared) (Z:St) (H:Hp) (x:V) (xs:List V) (v:Value) (us:List Value) (Q:VK),Inv X pins Z H s->RelV x v->Vals xs us->r x xs H Q ->
  wpAny (model X.prog X.w) X.A (call (.builtin id) (v::us)) (EP X pins Z Q) X.xe s
theorem Vals.one{x:V}{us:List Value}(h:Vals [x] us):∃u,us=[u]/\RelV x u:=by
 cases h with
 |cons r h =>
  cases h;exact⟨_,rfl,r⟩
theorem Vals.zero:∀{us:List Value},Vals [] us->us=[]
 |_,.nil=>rfl
theorem Vals.eraseIdx:∀{xs:List V} {us:List Value} (i:Nat),Vals xs us->Vals (xs.eraseIdx i) (us.eraseIdx i)
 |_,_,_,.nil=>.nil
 |_,_,0,.cons _ t=>t
 |_,_,i+1,.cons r t=>.cons r (Vals.eraseIdx i t)
theorem Vals.reverse{xs:List V}{us:List Value}(h:Vals xs us):Vals xs.reverse us.reverse:=by
 induction h with
 |nil=>exact .nil
 |cons r t ih=>rw[fV,fV];exact Vals.append ih (.cons r .nil)
theorem Vals.rep{xs:List V}{us:List Value}(h:Vals xs us):∀k:Nat,Vals (List.replicate k xs).flatten (List.replicate k us).flatten
 |0=>.nil
 |k+1=>by
  rw[bQ,bQ,cN,cN];exact Vals.append h (Vals.rep h k)
theorem ET{α:Type}:∀(l:List α) (i:Nat),(l.eraseIdx i).length<=l.length
 |[],_=>ak _
 |_::_,0=>fU _
 |_::r,i+1=>Nat.succ_le_succ (ET r i)
theorem foldl_rep(aQ:List Value):∀(k:Nat) (acc:List Value),
  List.foldl (λx1 x2=>x1++x2) acc.toArray (List.replicate k aQ.toArray)=(acc++(List.replicate k aQ).flatten).toArray
 |0,acc=>by simp
 |k+1,acc=>by
  have e:acc.toArray++aQ.toArray=(acc++aQ).toArray:=by simp
  have e2:(acc++aQ)++(List.replicate k aQ).flatten=acc++(List.replicate (k+1) aQ).flatten:=by
   rw[bQ,cN,cb]
  rw[<- e2,<- foldl_rep aQ k (acc++aQ),<- e,bQ,List.foldl_cons]
section
variable{l:Addr}{xs ys:List V}
theorem Inv.rA{its':List Value}{f:Array Value->Array Value}{t':Nat}(I:Inv X pins Z H s)(hH:H l=some (.lst xs))(e:s.heap.get? l=some { cls:=.type "list",data:=.seq aQ.toArray n })(hf:f aQ.toArray=its'.toArray)(hv:Vals ys its')(hz:ys.length<=sizeLine) :
  Inv X pins Z (upd H l (.lst ys)) { s with heap:=s.heap.update l (Obj.mapSeq f),toks:=t' }:=by
 have q:=Yr e f;rw[hf] at q;refine I.write (x:=l) (e:=l) (by rw[hH];exact trivial) (.inl rfl) (λb' u hb hu=>(aT s.heap (Obj.mapSeq f) (bB hb)).trans hu) ⟨_,q⟩ ?_;exact⟨hz,its',_,hv,q⟩
theorem Inv.DQ{t':Nat}(I:Inv X pins Z H s)(hv:Vals ys aQ)(hz:ys.length<=sizeLine) :
  Inv X pins Z (upd H s.heap.objs.size (.lst ys)) { s with heap:=s.heap.push { cls:=.type "list",data:=.seq aQ.toArray },toks:=t' } :=
 I.laid (λ_ _ q=>ag _ q) (ak _) ⟨hz,aQ,0,hv,aw _ rfl⟩
theorem Inv.fresh(I:Inv X pins Z H s):H s.heap.objs.size=none:=I.bC.fresh (ak _)
theorem Inv.qm(I:Inv X pins Z H s)(hH:H l=some (.lst xs)):xs.length<=sizeLine/\∃(aQ:List Value) (n:Nat),Vals xs aQ/\xs.length=aQ.length/\s.heap.get? l=some { cls:=.type "list",data:=.seq aQ.toArray n }:=by
 obtain⟨z,aQ,n,r,e⟩:=I.bC l _ hH;exact⟨z,aQ,n,r,r.length,e⟩
theorem SS(h:n<=sizeLine):Builtin.List.listTooLong n=false:=by
 unfold Builtin.List.listTooLong;exact aL (by omega)
end
def Wz:V->List V->Hp->VK->Prop:=λx vs H Q=>∃l xs y,x=.ref l/\vs=[y]/\H l=some (.lst xs)/\xs.length<sizeLine/\Q .bL (upd H l (.lst (xs++[y])))
theorem UJ:Ig X "list.append" Wz:=by
 intro pins s Z H x vs v us Q I rx rv h;obtain⟨l,xs,y,rfl,rfl,hH,hz,q⟩:=h;cases rx;obtain⟨u,rfl,ru⟩:=rv.one;obtain⟨z,aQ,n,r,hl,e⟩:=I.qm hH;refine jc F.slot_list_append ⟨_,e,rfl⟩ F.entry_list_append (F.args_list_append_2 _ _) (Xh l aQ.toArray n u (by rw[aC];omega)) ⟨e,?_⟩;refine⟨.bL,_,I.rA (its':=aQ++[u]) hH e (by simp) (r.append (.cons ru .nil)) ?_,rfl,q⟩;rw[aG,ik];omega
def OO:V->List V->Hp->VK->Prop:=λx vs H Q=>∃l xs i k y,x=.ref l/\vs=[.int i]/\H l=some (.lst xs)/\-(2 ^ 63)<=i/\i<2 ^ 63/\seqIndex? i xs.length=some k/\xs[k]?=some y/\Q y (upd H l (.lst (xs.eraseIdx k)))
theorem SO:Ig X "list.pop" OO:=by
 intro pins s Z H x vs v us Q I rx rv h;obtain⟨l,xs,i,k,y,rfl,rfl,hH,h1,h2,hk,hy,q⟩:=h;cases rx;obtain⟨u,rfl,ru⟩:=rv.one;obtain⟨t,rfl⟩:=ru;obtain⟨z,aQ,n,r,hl,e⟩:=I.qm hH;obtain⟨w,hw,fF⟩:=r.get hy;refine jc F.slot_list_pop ⟨_,e,rfl⟩ F.entry_list_pop (F.args_list_pop_2 _ _)
  (MeetsSeq.list_pop_at l aQ.toArray n i t k w (fitsIndex_both h1 h2) (by rw[aC,<- hl];exact hk) (by rw[<- ir];exact hw) (by rw[aC];omega)) ⟨e,?_⟩
 refine⟨y,_,I.rA (its':=aQ.eraseIdx k) hH e ?_ (r.eraseIdx k) ?_,fF,q⟩
 ·show aQ.toArray.eraseIdxIfInBounds k=(aQ.eraseIdx k).toArray;rw[List.eraseIdxIfInBounds_toArray]
 ·have:=ET xs k;omega
def Ro:R2:=λx y H Q=>∃l b xs zs,x=.ref l/\y=.ref b/\H l=some (.lst xs)/\H b=some (.lst zs)/\xs.length+zs.length<=sizeLine/\∀p,H p=none->Q (.ref p) (upd H p (.lst (xs++zs)))
theorem Od:fk X (binaryOp .Add) Ro:=by
 intro pins s Z H x y v u Q I rx ry h;obtain⟨l,b,xs,zs,rfl,rfl,hH,hB,hz,q⟩:=h;cases rx;cases ry;obtain⟨z,aQ,n,r,hl,e⟩:=I.qm hH;obtain⟨z2,lL,n2,r2,oh,e2⟩:=I.qm hB;refine PySem.P.add_list e e2 ?_ (by rw[aC,aC];omega);have ea:aQ.toArray++lL.toArray=(aQ++lL).toArray:=by simp
 rw[ea];exact⟨.ref _,_,I.DQ (t':=s.toks) (r.append r2) (by rw[aG];omega),rfl,q _ I.fresh⟩
def Lc:R2:=λx y H Q=>∃l k xs,x=.ref l/\y=.int k/\H l=some (.lst xs)/\-(2 ^ 63)<=k/\k<2 ^ 63/\xs.length*k.toNat<=sizeLine /\
 ∀p,H p=none->Q (.ref p) (upd H p (.lst (List.replicate k.toNat xs).flatten))
theorem len_rep(xs:List α)(k:Nat):(List.replicate k xs).flatten.length=k*xs.length:=by
 induction k with
 |zero=>simp
 |succ k ih=>rw[bQ,cN,aG,ih,Nat.succ_mul,Nat.add_comm]
theorem Oi:fk X (binaryOp .Mult) Lc:=by
 intro pins s Z H x y v u Q I rx ry h;obtain⟨l,k,xs,rfl,rfl,hH,h1,h2,hz,q⟩:=h;cases rx;obtain⟨t,rfl⟩:=ry;obtain⟨z,aQ,n,r,hl,e⟩:=I.qm hH;have hlen:aQ.toArray.size*k.toNat<=sizeLine:=by rw[aC,<- hl];exact hz
 have yP:¬aQ.toArray.size*k.toNat>(2 ^ 63-1) / 8:=by
  have:(sizeLine:Nat)<=(2 ^ 63-1) / 8:=by decide
  omega
 have yM:¬(!Builtin.List.listFitsIndex k)=true:=by
  rw[fitsIndex_both h1 h2];exact dq
 have tM:¬Builtin.List.listTooLong (aQ.toArray.size*k.toNat)=true:=by
  rw[SS hlen];exact dq
 have yA:List.foldl (λx1 x2=>x1++x2) #[] (List.replicate (if aQ.toArray.isEmpty=true then 0 else k.toNat) aQ.toArray)=(List.replicate k.toNat aQ).flatten.toArray:=by
  have f0:∀m:Nat,List.foldl (λx1 x2=>x1++x2) #[] (List.replicate m aQ.toArray)=(List.replicate m aQ).flatten.toArray:=λm=>by
   have:=foldl_rep aQ m [];rw[List.nil_append] at this;exact this
  rw[f0];cases aQ with
  |nil=>simp
  |cons a r'=>rw[if_neg (by simp)]
 refine BR (T:="list") (U:="int") (by decide) ⟨_,e,rfl⟩ (λs'=>gD s' k t) noFill_list_mul F.fills_int_mul js repeat_list F.slot_int_index.lookup
  (jc js (gD s k t) F.entry_int_rmul (F.args_int_rmul_2 _ _) (int___rmul___int_list k t l aQ.toArray n)
   ⟨e,rfl,⟨_,e,rfl⟩,jc F.slot_list_mul ⟨_,e,rfl⟩ F.entry_list_mul (F.args_list_mul_2 _ _) (AutoListH.list___mul___list_int_3 l aQ.toArray n k t yM yP tM) ⟨e,?_⟩⟩)
 rw[yA];exact⟨.ref _,_,I.DQ (t':=s.toks) (r.rep k.toNat) (by rw[len_rep,rQ];exact hz),rfl,q _ I.fresh⟩
section
variable{κ:Type}[DecidableEq κ]
def I9(kvs:List (κ×V))(k:κ):Option V:=(kvs.find? λkv=>decide (kv.1=k)).map (·.2)
def putK(kvs:List (κ×V))(k:κ)(v:V):List (κ×V) :=
 if(kvs.any λkv=>decide (kv.1=k))=true then kvs.map (λkv=>if kv.1=k then(kv.1,v) else kv) else kvs++[(k,v)]
def wm(kvs:List (κ×V))(k:κ):List (κ×V):=kvs.filter λkv=>decide (kv.1≠k)
theorem AN{p:κ×V}{r:List (κ×V)}{k:κ}(e:p.1=k):I9 (p::r) k=some p.2:=by simp[I9,List.find?_cons,e]
theorem AM{p:κ×V}{r:List (κ×V)}{k:κ}(e:¬p.1=k):I9 (p::r) k=I9 r k:=by simp[I9,List.find?_cons,e]
theorem EC(k:κ):∀kvs:List (κ×V),(kvs.any λkv=>decide (kv.1=k))=(I9 kvs k).isSome
 |[]=>rfl
 |p::r=>by
  rw[fZ];by_cases e:p.1=k
  ·simp only[AN e,decide_eq_true e,Bool.true_or,Option.isSome_some]
  ·rw[AM e,aL e,oS];exact EC k r
theorem S1(kvs:List (κ×V))(k:κ)(v:V):(putK kvs k v).length<=kvs.length+1:=by
 unfold putK;split
 ·rw[ah];omega
 ·rw[aG,cY,List.length_nil];omega
theorem E0.N3{u:Option Value}(r:E0 o u):o.isSome=u.isSome:=by
 cases o with
 |none=>cases u with
  |none=>rfl
  |some _=>exact(show False from r).elim
 |some _=>cases u with
  |none=>exact(show False from r).elim
  |some _=>rfl
theorem E0.getD{o:Option V}{u:Option Value}{d:V}{d':Value}(r:E0 o u)(rd:RelV d d'):RelV (o.getD d) (u.getD d'):=by
 cases o with
 |none=>cases u with
  |none=>exact rd
  |some _=>exact(show False from r).elim
 |some _=>cases u with
  |none=>exact(show False from r).elim
  |some _=>exact r
theorem KV.val{kvs:List (κ×V)}{vs:List (κ×Value)}(r:KV kvs vs)(k:κ):E0 (I9 kvs k) (valueAt vs k):=by
 unfold KV at r
 induction r with
 |nil=>exact True.intro
 |@cons p q ps qs h t ih =>
  obtain⟨h1,h2⟩:=h;by_cases e:p.1=k
  ·have e':q.1=k:=h1.symm.trans e;have b:valueAt (q::qs) k=some q.2:=by simp[valueAt,List.find?_cons,e']
   rw[AN e,b];exact h2
  ·have e':¬q.1=k:=λz=>e (h1.trans z);have b:valueAt (q::qs) k=valueAt qs k:=by simp[valueAt,List.find?_cons,e']
   rw[AM e,b];exact ih
theorem KV.any{kvs:List (κ×V)}{vs:List (κ×Value)}(r:KV kvs vs)(k:κ):(kvs.any λkv=>decide (kv.1=k))=vs.any λkv=>decide (kv.1=k):=by
 unfold KV at r
 induction r with
 |nil=>rfl
 |cons h t ih=>rw[fZ,fZ,ih,h.1]
theorem KV.Bb{kvs:List (κ×V)}{vs:List (κ×Value)}(r:KV kvs vs)(k:κ)(ry:RelV y u) :
  KV (kvs.map λkv=>if kv.1=k then(kv.1,y) else kv) (vs.map λkv=>if kv.1=k then(kv.1,u) else kv):=by
 unfold KV at r ⊢
 induction r with
 |nil=>exact .nil
 |@cons p q ps qs h t ih =>
  rw[aW,aW];refine .cons ?_ ih;obtain⟨h1,h2⟩:=h;by_cases e:p.1=k
  ·rw[aE e,aE (h1.symm.trans e)];exact⟨h1,ry⟩
  ·rw[aB e,aB (λz=>e (h1.trans z))];exact⟨h1,h2⟩
theorem KV.put{kvs:List (κ×V)}{vs:List (κ×Value)}(r:KV kvs vs)(k:κ)(ry:RelV y u):KV (putK kvs k y) (stored vs k u):=by
 unfold putK stored;rw[r.any k];by_cases e:(vs.any λkv=>decide (kv.1=k))=true
 ·rw[aE e,aE e];exact r.Bb k ry
 ·rw[aB e,aB e];exact Paired.snoc r ⟨rfl,ry⟩
theorem KV.drop{kvs:List (κ×V)}{vs:List (κ×Value)}(r:KV kvs vs)(k:κ):KV (wm kvs k) (without vs k):=by
 unfold KV at r ⊢;unfold wm without
 induction r with
 |nil=>exact .nil
 |@cons p q ps qs h t ih =>
  obtain⟨h1,h2⟩:=h;rw[gH,gH];by_cases e:p.1=k
  ·have a:¬decide (p.1≠k)=true:=by simp[e]
   have b:¬decide (q.1≠k)=true:=by simp[h1.symm.trans e]
   rw[aB a,aB b];exact ih
  ·have e':¬q.1=k:=λz=>e (h1.trans z);have a:decide (p.1≠k)=true:=by simp[e]
   have b:decide (q.1≠k)=true:=by simp[e']
   rw[aE a,aE b];exact .cons ⟨h1,h2⟩ ih
theorem KV.keys{kvs:List (κ×V)}{vs:List (κ×Value)}(r:KV kvs vs):kvs.map (·.1)=vs.map (·.1):=by
 unfold KV at r
 induction r with
 |nil=>rfl
 |cons h t ih=>rw[aW,aW,ih,h.1]
theorem KV.length{kvs:List (κ×V)}{vs:List (κ×Value)}(r:KV kvs vs):kvs.length=vs.length:=kP r
end
theorem W7{k:Key}(r:RelV (kV k) u):(k6 P w).is k u=true:=by
 cases k with
 |inl i=>obtain⟨t,e⟩:=(show ∃t,u=Value.int i t from r);subst e;exact Rt P w i t
 |inr x=>obtain⟨t,e⟩:=(show ∃t,u=Value.str x t from r);subst e;exact Ru P w x t
theorem ES{P:Program}{w:World}:∀{ks:List Key} {us:List Value},Vals (ks.map kV) us->ItemsAre (k6 P w) ks us
 |[],_,r=>by rw[rW] at r;cases r;exact .nil
 |k::ks,_,r=>by
  rw[aW] at r;cases r with
  |cons h t=>exact .cons (W7 h) (ES t)
noncomputable abbrev KT(H:Hp):List (List Key×V)->List (List Key×Addr×Value)->Prop:=Paired λp q=>p.1=q.1/\H q.2.1=some (.tup (p.1.map kV))/\RelV p.2 q.2.2
theorem KT.val{xs:List (List Key×Addr×Value)}(r:KT H kvs xs)(k:List Key):E0 (I9 kvs k) ((atKey xs k).map (·.2)):=by
 induction r with
 |nil=>exact True.intro
 |@cons p q ps qs h t ih =>
  obtain⟨h1,_,h2⟩:=h;by_cases e:p.1=k
  ·have e':q.1=k:=h1.symm.trans e;have b:atKey (q::qs) k=some q.2:=by simp[atKey,List.find?_cons,e']
   rw[AN e,b];exact h2
  ·have e':¬q.1=k:=λz=>e (h1.trans z);have b:atKey (q::qs) k=atKey qs k:=by simp[atKey,List.find?_cons,e']
   rw[AM e,b];exact ih
theorem KT.Bb{xs:List (List Key×Addr×Value)}(r:KT H kvs xs)(k:List Key)(ry:RelV y u) :
  KT H (kvs.map λkv=>if kv.1=k then(kv.1,y) else kv) (xs.map (putAt k u)):=by
 induction r with
 |nil=>exact .nil
 |@cons p q ps qs h t ih =>
  rw[aW,aW];refine .cons ?_ ih;obtain⟨h1,h2,h3⟩:=h;unfold putAt;by_cases e:p.1=k
  ·rw[aE e,aE (h1.symm.trans e)];exact⟨h1,h2,ry⟩
  ·rw[aB e,aB (λz=>e (h1.trans z))];exact⟨h1,h2,h3⟩
theorem KT.put{xs:List (List Key×Addr×Value)}(r:KT H kvs xs)(k:List Key){b:Addr}(hb:H b=some (.tup (k.map kV)))(ry:RelV y u) :
  KT H (putK kvs k y) (storedH xs k b u):=by
 have e:(kvs.any λkv=>decide (kv.1=k))=(atKey xs k).isSome:=by
  rw[EC,(r.val k).N3,fT]
 unfold putK storedH;rw[e];by_cases q:(atKey xs k).isSome=true
 ·rw[aE q,aE q];exact r.Bb k ry
 ·rw[aB q,aB q];exact Paired.snoc r ⟨rfl,hb,ry⟩
theorem KT.keeps{xs:List (List Key×Addr×Value)}(r:KT H kvs xs)(ht:∀b ys,H b=some (.tup ys)->H' b=some (.tup ys)):KT H' kvs xs :=
 Paired.DT r λ_ _ z=>⟨z.1,ht _ _ z.2.1,z.2.2⟩
section
variable{h:Heap}
theorem HN{u:HO}(ok:fC P w H h)(e:Rd H a u):k7 P w H h a u:=e.ok ok
theorem X4{kvs:List (Key×V)}(ok:fC P w H h)(e:Rd H a (.dK kvs)):kvs.length<=sizeLine/\(a==sysModules)=false/\∃vs,KV kvs vs/\h.DictOf (k6 P w) a vs :=
 show k7 P w H h a (.dK kvs) from HN ok e
theorem wj{kvs:List (Key×V)}(ok:fC P w H h)(e:H a=some (.dK kvs)):kvs.length<=sizeLine/\(a==sysModules)=false/\∃vs,KV kvs vs/\h.DictOf (k6 P w) a vs:=X4 ok (.inl e)
theorem T9{ks:List Key}(ok:fC P w H h)(e:H a=some (.tup (ks.map kV))):(tupleKind (k6 P w)).is h ks a:=by
 obtain⟨_,aQ,r,o,h1,h2,⟨n,h3⟩,_⟩:=(show k7 P w H h a (.tup (ks.map kV)) from ok a _ e)
 exact⟨o,aQ.toArray,n,h1,h2,h3,by simpa using ES r⟩
theorem rF(ok:fC P w H h)(e:Rd H a (.dT kvs)):kvs.length<=sizeLine/\(a==sysModules)=false /\
  ∃xs,KT H kvs xs/\h.DictOfH (tupleKind (k6 P w)) a xs:=by
 obtain⟨z,y,xs,r,o,es,ep,h1,h2,h3,h4,h5⟩:=(show k7 P w H h a (.dT kvs) from HN ok e)
 refine⟨z,y,xs,r,o,es,ep,h1,h2,h3,h4,λx hx=>?_,h5⟩;have all:∀{l:List (List Key×V)} {m:List (List Key×Addr×Value)},KT H l m->∀x∈m,(tupleKind (k6 P w)).is h x.1 x.2.1:=by
  intro l m q
  induction q with
  |nil=>intro x hx;exact nomatch hx
  |@cons p q ps qs hq t ih =>
   intro x hx;rcases aA.mp hx with e|hx
   ·subst e;exact T9 ok (by rw[<- hq.1];exact hq.2.1)
   ·exact ih x hx
 exact all r x hx
theorem L'(ok:fC P w H h)(e:H a=some (.dT kvs)):kvs.length<=sizeLine/\(a==sysModules)=false /\
  ∃xs,KT H kvs xs/\h.DictOfH (tupleKind (k6 P w)) a xs:=rF ok (.inl e)
end
def N4(H:Hp)(a:Addr)(y:V)(r:Option V):Prop :=
 (∃kvs k,Rd H a (.dK kvs)/\y=kV k/\r=I9 kvs k)\/∃kvs k b,Rd H a (.dT kvs)/\y=.ref b/\H b=some (.tup (k.map kV))/\r=I9 kvs k
def xb(H:Hp)(a:Addr)(y v:V)(H':Hp):Prop :=
 (∃kvs k,H a=some (.dK kvs)/\y=kV k/\kvs.length<sizeLine/\H'=upd H a (.dK (putK kvs k v))) \/
 ∃kvs k b,H a=some (.dT kvs)/\y=.ref b/\H b=some (.tup (k.map kV))/\kvs.length<sizeLine/\H'=upd H a (.dT (putK kvs k v))
theorem N4.k{H:Hp}{a:Addr}{kvs:List (Key×V)}{k:Key}(e:H a=some (.dK kvs)):N4 H a (kV k) (I9 kvs k):=.inl ⟨kvs,k,.inl e,rfl,rfl⟩
theorem xb.k{H:Hp}{a:Addr}{kvs:List (Key×V)}{k:Key}{v:V}(e:H a=some (.dK kvs))(hl:kvs.length<sizeLine):xb H a (kV k) v (upd H a (.dK (putK kvs k v))):=.inl ⟨kvs,k,e,rfl,hl,rfl⟩
section
variable{v:V}{r:Value}
theorem Inv.big(I:Inv X pins Z H s):sysModules<s.heap.objs.size:=by
 have h:mainGlobals<s.heap.objs.size:=(I.mod.glob.keeps I.bk).lt;exact cA (by decide) h
theorem Um{Q:Value->Shared->Prop}(hu:A.units+1<cLine)(I:Inv X pins Z H s)(g:N4 H a y (some v))(ry:RelV y u)(h:∀w' s',Inv X pins Z H s'->RelV v w'->Q w' s') :
  wpAny (model X.prog X.w) A (getItem (.ref a) u) Q E s:=by
 rcases g with⟨kvs,k,e,ey,l⟩|⟨kvs,k,b,e,ey,eb,l⟩
 ·subst ey;obtain⟨z,hd,vs,rel,dd⟩:=X4 I.bC e;obtain⟨w',hw,fF⟩:=E0.some_of (v:=v) (o:=valueAt vs k) (by rw[l];exact rel.val k);exact wpAny_getItem_of (W7 ry) dd.mapOf hw (h w' _ (I.tok _) fF)
 ·subst ey;cases (show u=Value.ref b from ry);obtain⟨z,hd,xs,rel,dd⟩:=rF I.bC e;obtain⟨w',hw,fF⟩:=E0.some_of (v:=v) (o:=(atKey xs k).map (·.2)) (by rw[l];exact rel.val k);obtain⟨p,hp,tI⟩:=ae.mp hw;refine wpAny_getItem_heap (eP hu) (T9 I.bC eb) dd hp ?_;rw[tI];exact h w' _ (I.tok _) fF
theorem QM{Q:Value->Shared->Prop}(hu:A.units+1<cLine)(I:Inv X pins Z H s)(g:N4 H a y o)(ry:RelV y u)(h:∀s',Inv X pins Z H s'->Q (.bool o.isSome) s') :
  wpAny (model X.prog X.w) A (compareOp .In u (.ref a)) Q E s:=by
 rcases g with⟨kvs,k,e,ey,l⟩|⟨kvs,k,b,e,ey,eb,l⟩
 ·subst ey;obtain⟨z,hd,vs,rel,dd⟩:=X4 I.bC e;refine wpAny_in_of (W7 ry) hd dd.mapOf ?_;rw[<- (rel.val k).N3,<- l];exact h _ (I.tok _)
 ·subst ey;cases (show u=Value.ref b from ry);obtain⟨z,hd,xs,rel,dd⟩:=rF I.bC e;refine wpAny_in_heap (eP hu) (T9 I.bC eb) hd dd ?_;have q:=(rel.val k).N3;rw[fT] at q;rw[<- q,<- l];exact h _ (I.tok _)
theorem PZ{Q:Value->Shared->Prop}(hu:A.units+1<cLine)(I:Inv X pins Z H s)(g:N4 H a y o)(ry:RelV y u)(h:∀s',Inv X pins Z H s'->Q (.bool (!o.isSome)) s') :
  wpAny (model X.prog X.w) A (compareOp .NotIn u (.ref a)) Q E s:=by
 rcases g with⟨kvs,k,e,ey,l⟩|⟨kvs,k,b,e,ey,eb,l⟩
 ·subst ey;obtain⟨z,hd,vs,rel,dd⟩:=X4 I.bC e;refine wpAny_notIn_of (W7 ry) hd dd.mapOf ?_;rw[<- (rel.val k).N3,<- l];exact h _ (I.tok _)
 ·subst ey;cases (show u=Value.ref b from ry);obtain⟨z,hd,xs,rel,dd⟩:=rF I.bC e;refine wpAny_notIn_heap (eP hu) (T9 I.bC eb) hd dd ?_;have q:=(rel.val k).N3;rw[fT] at q;rw[<- q,<- l];exact h _ (I.tok _)
theorem Ar{h':Heap}{t':Nat}{ob:HO}(I:Inv X pins Z H s)(mu:vh (H a))(hs:Heap.SameBut a s.heap h')(he:∃q,h'.get? a=some q)(new:k7 X.prog X.w (upd H a ob) h' a ob) :
  Inv X pins Z (upd H a ob) { s with heap:=h',toks:=t' } :=
 I.write (x:=a) (e:=a) mu (.inl rfl) (λb q hb z=>(hs.2 b hb).trans z) he new
theorem FQ{h':Heap}{kvs:List (Key×V)}{vs:List (Key×Value)}(z:kvs.length<=sizeLine)(hd:(a==sysModules)=false)(rel:KV kvs vs)(dd:h'.DictOf (k6 P w) a vs) :
  k7 P w H' h' a (.dK kvs):=⟨z,hd,vs,rel,dd⟩
theorem Uo{Q:Unit->Shared->Prop}(hu:A.units+1<cLine)(I:Inv X pins Z H s)(g:xb H a y v H')(ry:RelV y u)(rv:RelV v r)(h:∀s',Inv X pins Z H' s'->Q () s') :
  wpAny (model X.prog X.w) A (setItem (.ref a) u r) Q E s:=by
 rcases g with⟨kvs,k,e,ey,l,eH⟩|⟨kvs,k,b,e,ey,eb,l,eH⟩
 ·subst ey eH;obtain⟨z,hd,vs,rel,dd⟩:=wj I.bC e;have hz:vs.length<=sizeLine:=by rw[<- rel.length];exact z
  have hl:(putK kvs k v).length<=sizeLine:=by have:=S1 kvs k v;omega
  refine wpAny_setItem_pairs (hsz:=hz) (W7 ry) dd λh' qf hs=>h _ ?_;have he:∃q,h'.get? a=some q:=let ⟨q,_,_,hq,_⟩:=qf;⟨q,hq⟩
  exact Ar I (by rw[e];exact True.intro) hs he (FQ hl hd (rel.put k rv) qf)
 ·subst ey eH;cases (show u=Value.ref b from ry);obtain⟨z,hd,xs,rel,dd⟩:=L' I.bC e;have hz:xs.length<=sizeLine:=by rw[<- kP rel];exact z
  have hl:(putK kvs k v).length<=sizeLine:=by have:=S1 kvs k v;omega
  refine wpAny_setItem_heap (hsz:=hz) (eP hu) (T9 I.bC eb) dd λh' qf hs=>h _ ?_;obtain⟨q,es,ep,hq,h2,h3,h4,_,h5⟩:=qf;refine Ar I (by rw[e];exact True.intro) hs ⟨q,hq⟩ ⟨hl,hd,_,(rel.put k eb rv).keeps λc ys ec=>?_,q,es,ep,hq,h2,h3,h4,h5⟩;rw[f6 (My ec e (λz=>nomatch z))];exact ec
end
section
variable{kvs:List (Key×V)}
theorem LV{Q:Value->Shared->Prop}(I:Inv X pins Z H s)(e:Rd H a (.dK kvs))(h:∀t s',Inv X pins Z H s'->Q (.int kvs.length t) s'):wpAny (model X.prog X.w) A (call (.builtin "len") [.ref a]) Q E s:=by
 obtain⟨z,hd,vs,rel,dd⟩:=X4 I.bC e;refine call_len_dict hd dd (by rw[<- rel.length];rw[jZ] at z;omega) ?_;rw[<- rel.length];exact h _ _ (I.tok _)
end
theorem Wd(I:Inv X pins Z H s)(g:N4 H a y o):s.TypeIs (.ref a) "dict":=by
 rcases g with⟨kvs,k,e,_,_⟩|⟨kvs,k,b,e,_,_,_⟩
 ·obtain⟨_,_,vs,_,dd⟩:=X4 I.bC e;exact dd.typeIs
 ·obtain⟨_,_,xs,_,dd⟩:=rF I.bC e;exact dd.typeIs
theorem Ei(h:Heap)(hb:sysModules<h.objs.size):k7 P w H (h.push { cls:=.type "dict",data:=.dict #[] }) h.objs.size (.dK []) :=
 ⟨bG _,cF.mpr (bB (aF hb)),[],.nil,Heap.DictOf.new h⟩
def Pu:TE:=λ_ H Q=>∀p,H p=none->Q (.ref p) (upd H p (.dK []))
theorem SY:PE X (.Dict [] [] pos) Pu:=λpins s Z H Q I h =>
 wpAny_Dict_empty ⟨.ref s.heap.objs.size,_,I.laid (a:=s.heap.objs.size) (o:=.dK []) (t':=s.toks) (λ_ _ q=>ag _ q) (ak _) (Ei s.heap I.big),rfl,h _ (I.bC.fresh (ak _))⟩
def wI:List (TE×TE)->St->Hp->(List (V×V)->Hp->Prop)->Prop
 |[],_,H,Q=>Q [] H
 |(tk,tv)::r,Z,H,Q=>tk Z H λx H1=>tv Z H1 λy H2=>wI r Z H2 λps H3=>Q ((x,y)::ps) H3
noncomputable abbrev VV:List (V×V)->List (Value×Value)->Prop:=Paired λp q=>RelV p.1 q.1/\RelV p.2 q.2
def vf(X:Cx)(pos:Pos)(keys:List (Option Expr))(values:List Expr)(gR:List (TE×TE)):Prop :=
 ∀(pins:List (Addr×Obj)) (s:Shared) (Z:St) (H:Hp) (Q:List (V×V)->Hp->Prop),Inv X pins Z H s->wI gR Z H Q ->
  wpAny (model X.prog X.w) X.A (evalPairs (pairTrees keys values X.env pos)) (λvs s'=>∃ps H',Inv X pins Z H' s'/\VV ps vs/\Q ps H') X.xe s
theorem Wr:vf X pos [] [] []:=λpins s Z H Q I h=>pairTrees_nil_walk ⟨[],H,I,.nil,h⟩
theorem Tg{k v:Expr}{ks:List (Option Expr)}{vs:List Expr}{tk tv:TE}{gR:List (TE×TE)}(hk:PE X k tk)(hv:PE X v tv)(hr:vf X pos ks vs gR) :
  vf X pos (some k::ks) (v::vs) ((tk,tv)::gR):=λpins s Z H Q I h =>
 pairTrees_cons_walk (cB (hk pins s Z H _ I h) λu s1 ⟨x,H1,I1,rx,q1⟩=>cB (hv pins s1 Z H1 _ I1 q1) λw2 s2 ⟨y,H2,I2,ry,q2⟩ =>
  cB (hr pins s2 Z H2 _ I2 q2) λws s3 ⟨ps,H3,I3,rel,q3⟩=>⟨(x,y) :: ps,H3,I3,.cons ⟨rx,ry⟩ rel,q3⟩)
def P1(kvs more:List (Key×V)):List (Key×V):=more.foldl (λacc kv=>putK acc kv.1 kv.2) kvs
theorem KV.merge:∀{more:List (Key×V)} {rs:List (Key×Value)} {kvs:List (Key×V)} {vs:List (Key×Value)},KV more rs->KV kvs vs->KV (P1 kvs more) (merged vs rs):=by
 intro more rs kvs vs r;unfold KV at r
 induction r generalizing kvs vs with
 |nil=>intro q;exact q
 |@cons p q ps qs h t ih =>
  intro r0;have e:KV (putK kvs p.1 p.2) (stored vs q.1 q.2):=by
   have:=r0.put p.1 h.2;rw[<- h.1];exact this
  exact ih e
theorem Y6:∀(more kvs:List (Key×V)),(P1 kvs more).length<=kvs.length+more.length
 |[],kvs=>by show kvs.length<=kvs.length+0;omega
 |p::r,kvs=>by
  have h1:=Y6 r (putK kvs p.1 p.2);have h2:=S1 kvs p.1 p.2;show(P1 (putK kvs p.1 p.2) r).length<=_;rw[cY];omega
theorem Fe{P:Program}{w:World}:∀{kvs:List (Key×V)} {ws:List (Value×Value)},VV (kvs.map λkv=>(kV kv.1,kv.2)) ws->∃rs,Carries (k6 P w) ws rs/\KV kvs rs
 |[],_,r=>by rw[rW] at r;cases r;exact⟨[],True.intro,.nil⟩
 |p::kvs,_,r=>by
  rw[aW] at r;cases r with
  |@cons a b as bs h t =>
   obtain⟨rs,c,q⟩:=Fe (P:=P) (w:=w) t;obtain⟨b1,b2⟩:=b;exact⟨(p.1,b2)::rs,⟨W7 h.1,rfl,c⟩,.cons ⟨rfl,h.2⟩ q⟩
def Nc(gR:List (TE×TE)):TE:=λZ H Q=>∀p,H p=none->wI gR Z (upd H p (.dK [])) λps H2=>H2 p=some (.dK [])/\∃kvs:List (Key×V),ps=kvs.map (λkv=>(kV kv.1,kv.2))/\kvs.length<=15/\Q (.ref p) (upd H2 p (.dK (P1 [] kvs)))
theorem Wm{keys:List (Option Expr)}{values:List Expr}{gR:List (TE×TE)}(h:vf X pos keys values gR)(pY:keys.all (·.isSome)=true)(hl:keys.length=values.length)(h0:keys≠[])(zo:keys.length<=15):PE X (.Dict keys values pos) (Nc gR):=by
 intro pins s Z H Q I q;have hn:=I.bC.fresh (ak s.heap.objs.size);have I1:=I.laid (a:=s.heap.objs.size) (o:=.dK []) (h':=s.heap.push { cls:=.type "dict",data:=.dict #[] }) (t':=s.toks) (λ_ _ q=>ag _ q) (ak _) (Ei s.heap I.big);refine wpAny_Dict_walk (knd:=k6 X.prog X.w) pY hl h0 zo (cB (h pins _ Z _ _ I1 (q _ hn)) λws s2 bh=>?_);obtain⟨ps,H2,I2,rel,e,kvs,ep,lk,q2⟩:=bh;subst ep;obtain⟨rs,c,rk⟩:=Fe (P:=X.prog) (w:=X.w) rel;obtain⟨z,hd,Xq,r0,dd⟩:=wj I2.bC e;cases r0;refine⟨rs,c,dd,λh' qf hs=>⟨.ref s.heap.objs.size,_,?_,rfl,q2⟩⟩;have hz:(P1 [] kvs).length<=sizeLine:=by
  have h1:=Y6 kvs [];rw[List.length_nil] at h1;rw[jZ];omega
 have he:∃q,h'.get? s.heap.objs.size=some q:=let ⟨q,_,_,hq,_⟩:=qf;⟨q,hq⟩
 exact Ar I2 (by rw[e];exact True.intro) hs he (FQ hz hd (rk.merge .nil) qf)
section
variable{d:V}{r:Value}
theorem Ny{Q:Value->Shared->Prop}(hu:A.units+1<cLine)(I:Inv X pins Z H s)(g:N4 H a y o)(ry:RelV y u)(rd:RelV d r)(h:∀w' s',Inv X pins Z H s'->RelV (o.getD d) w'->Q w' s') :
  wpAny (model X.prog X.w) A (call (.builtin "dict.get") [.ref a,u,r]) Q E s:=by
 rcases g with⟨kvs,k,e,ey,l⟩|⟨kvs,k,b,e,ey,eb,l⟩
 ·subst ey;obtain⟨z,hd,vs,rel,dd⟩:=X4 I.bC e;refine call_meetsIn ie dd.typeIs rP (qw _ _ _) (meets_dict_get_default (k6 X.prog X.w) a (W7 ry) hd r) ⟨_,dd.mapOf,h _ _ (I.tok _) ?_⟩;rw[l];exact(rel.val k).getD rd
 ·subst ey;cases (show u=Value.ref b from ry);obtain⟨z,hd,xs,rel,dd⟩:=rF I.bC e;refine call_meetsIn ie dd.typeIs rP (qw _ _ _) (meetsH_dict_get_default (tupleKind (k6 X.prog X.w)) a b hd r) ⟨eP hu,k,xs,T9 I.bC eb,dd,h _ _ (I.tok _) ?_⟩;rw[l];exact(rel.val k).getD rd
end
end L2
namespace Ip
open PySem PySem.W PySem.Calls PyProof.Rows
theorem Sr{P:Params}{h:Heap}:∀(ns:List Int) (vs:List Value),WellAll P h vs (ns.map WData.int)->IntsAre vs ns:=by
 intro ns
 induction ns with
 |nil =>
  intro vs w;rw[rW] at w;cases w;exact .nil
 |cons n ns ih =>
  intro vs w;rw[aW] at w;cases w with
  |cons a b =>
   cases a;exact .cons _ _ (ih _ b)
theorem Vb{l:OpenLaw}{n:Nat}(hn:l.most=some n){P:Params}{h:Heap}{args:List WData}{vals:List Value}(nA:l.row.toRowW.claim.pre args=true)(yq:WellAll P h vals args) :
  ∃a vs ns,vals=[Value.ref a]/\args=[WData.list (ns.map WData.int)]/\h.get? a=some { cls:=.type "list",data:=.seq vs.toArray }/\IntsAre vs ns/\ns.length<=n:=by
 have jk:WShape.hasAll [] args [.list .int]=true:=(pre_splitW nA).1;have hc:l.pre.holds [] { args:=args }=true:=(pre_splitW nA).2;obtain⟨d,r,rfl,h1,h2⟩:=hasAllW_cons jk;obtain rfl:=hasAllW_nil h2;obtain⟨xs,rfl,h3⟩:=hasW_list h1;obtain⟨ns,rfl⟩:=items_int h3;have hlen:ns.length<=n:=by
  unfold OpenLaw.pre at hc;have h4:(WTm.not (.lt (.lit (.int (n:Int))) (.len (.arg 0)))).holds [] { args:=[.list (ns.map .int)] }=true:=by
   have h4:=(holds_andW hc).1;rw[hn] at h4;exact h4
  have h5:=condW_of h4 (w_not (w_lt w_lit (w_len_list (w_arg rfl))));rw[ah] at h5;refine cH λq=>?_;have q':(n:Int)<((ns.length:Nat):Int):=by omega
  first
   |(rw[aV q'] at h5;exact absurd h5 (by decide))
   |(simp at h5;omega)
 cases yq with
 |cons w1 w2 =>
  cases w2;cases w1 with
  |list ho pY=>exact⟨_,_,ns,rfl,rfl,ho,Sr ns _ pY,hlen⟩
theorem UZ(l:OpenLaw)(args:List WData):l.row.toRowW.claim.post args (.bool true) args=true :=
 postW_of (r:=l.row.toRowW) (X:=(true==true))
  (show WShape.has [] (.bool true) .bool=true by first|rfl|decide|simp[WShape.has,WShape.arms,WShape.armsAll])
  (show(WTm.eq .res (.lit (.bool true))).value [] { args:=args,res:=some (.bool true),after:=args }=some (.bool (true==true)) from w_eq_bool (w_res rfl) w_lit) rfl
theorem Wa{l:OpenLaw}{n:Nat}{q:Program}{loose:List Str}{XP:(Str->Option Value)->Heap->Prop}{YP:World->Heap->Prop}{d:DefRec}(hn:l.most=some n)(tU:d.params.defaults=[])(call:∀ (w:World) (cR bJ:Shared) (mg mb:Str->Option Value) (fa:Addr) (o:Obj) (pm cd doc:Value) (a:Addr) (vs:List Value) (ns:List Int),
   Ground q loose [] XP w cR mg mb bJ.heap->YP w bJ.heap ->
   bJ.heap.get? fa=some o->o.data=.func (docDef d.name d.params d.body d.scope pm cd doc)->bJ.heap.CodeRec cd d.name->mg d.name=some (.ref fa) ->
   bJ.heap.get? a=some { cls:=.type "list",data:=.seq vs.toArray }->IntsAre vs ns->ns.length<=n->bJ.gens=#[] ->
   codeAny (model l.prog w) callerA (.call (.ref fa) ⟨[.ref a],[]⟩) (λr s'=>r=.ok (.ret (.bool true))/\OldK bJ.heap s'.heap/\s'.os=bJ.os/\AllBare s'.gens) bJ) :
  WalkO q loose XP YP l.row.toRowW d [] (λf vs=>PySem.call f vs):=by
 intro w cR bJ mg mb G Y fa o pm cd doc dV kV ho hd kJ hD hmg hg args vals as nA JF XR yq CU;obtain rfl:dV=.none:=Dflts.none hD tU;obtain rfl:kV=.none:=Dflts.noKw hD;obtain⟨a,vs,ns,rfl,rfl,iC,hints,hlen⟩:=Vb hn nA yq;refine enter_call (fW (call w cR bJ mg mb fa o pm cd doc a vs ns G Y ho (fd_plain hd) kJ hmg iC hints hlen hg) λr s' hq=>?_);obtain⟨rfl,h2,h3,h4⟩:=hq;exact⟨.inl ⟨.bool true,.bool true,[],rfl,λ_=>rfl,.bool true,UZ l _,λ_=>⟨List.Pairwise.nil,λ_ hm=>(nomatch hm)⟩⟩,h2,h3,h4⟩
end Ip
namespace L2
open PySem PySem.Spec PyProof.Rows
variable{w:World}{x qual:Str}{X:Cx}{A:Around}{s:Shared}{elt iter tg:Expr}{ifs:List Expr}{scope:Scope}{pos:Pos}{cl:List (Str×Addr)}{C:Addr}{N':List Str}{d4:List Nat}{fp:List Addr}{g:TG}{tc:TT}{te:TE}
theorem Fb:∀{vs:List Value} {ns:List Int},IntsAre vs ns->Vals (ns.map V.int) vs
 |_,_,.nil=>.nil
 |_,_,.cons n t h=>.cons ⟨t,rfl⟩ (Fb h)
def xc(H:Hp):Prop:=∀b,H b=none\/∃o xs,H b=some (.jm o (.lst xs))
theorem SK{P:Program}{K:PySem.W.Frag}{mg mb:Str->Option Value}{CX:mr}{k:Nat}{fa a:Addr}{fd:FuncData}{sp:Sp}{bJ:Shared}{vs:List Value}{ns:List Int}(KX:K.In bJ.heap)(pR:bJ.heap.Ns mainGlobals mg)(hb:bJ.heap.Ns builtinsNs mb)(yS:∀x:Str,x≠"__name__"->mb x=bootBuiltins x)(yF:bJ.heap.NoLimit)(hg:bJ.gens=#[])(ha:bJ.heap.get? a=some { cls:=.type "list",data:=.seq vs.toArray })(hi:IntsAre vs ns)(hl:ns.length<=sizeLine)(hr:t7 k callerA)(F:∀base:Heap,K.In base->base.Ns mainGlobals mg->gO P w K mg base CX k fa fd [x] sp)(tZ:∀(s:Shared) (u:Value),BindsTo s fd ⟨[u],[]⟩ [(x,u)])(qP:∀H:Hp,xc H->fj K H a (ns.map V.int)->sp [.ref a] H (λv _=>v=.bl true) λ_ _ _=>False)(zb:∀H e s',CX [] H bJ (λ_ _ _=>False) e s'->False) :
  codeAny (model P w) callerA (.call (.ref fa) ⟨[.ref a],[]⟩) (λr s'=>r=.ok (.ret (.bool true))/\OldK bJ.heap s'.heap/\s'.os=bJ.os/\AllBare s'.gens) bJ:=by
 have rv:=Fb hi;have ye:=hi.length;have core:∀H:Hp,xc H->fj K H a (ns.map V.int)->fC P w H bJ.heap->(∀b,H b≠none->b=a)->(H a≠none->K.lookup a=none) ->
   codeAny (model P w) callerA (.call (.ref fa) ⟨[.ref a],[]⟩) (λr s'=>r=.ok (.ret (.bool true))/\OldK bJ.heap s'.heap/\s'.os=bJ.os/\AllBare s'.gens) bJ:=by
  intro H hO hS bC hA hK;have O6:∀{b:Addr} {o:Obj},bJ.heap.get? b=some o->H b=none->(X2 bJ.heap H).get? b=some o:=λe n=>SF e n;have sT:∀{b:Addr} {o:Obj} {es:Array DictEntry} {ep:Nat},bJ.heap.get? b=some o->o.data=.dict es ep->H b=none:=λ{b o es ep} e d=>by
   cases q:H b with
   |none=>rfl
   |some u =>
    have e':b=a:=hA b (by rw[q];simp);subst e';rw[ha] at e;cases e;have d':Data.seq vs.toArray _=Data.dict es ep:=d;cases d'
  have vG:∀{b:Addr} {m:Str->Option Value},bJ.heap.Ns b m->(X2 bJ.heap H).Ns b m:=λ{b m} ⟨o,es,ep,e,d,r⟩=>⟨o,es,ep,O6 e (sT e d),d,r⟩
  have Dj:K.In (X2 bJ.heap H):=λb o e=>O6 (KX b o e) (by
   cases q:H b with
   |none=>rfl
   |some u =>
    have e':b=a:=hA b (by rw[q];simp);subst e';rw [hK (by rw [q];simp)] at e;cases e)
  have hM:Mod K mg (X2 bJ.heap H):=⟨Dj,vG pR,⟨mb,vG hb,yS⟩,let ⟨mc,h1,h2⟩:=yF;⟨mc,vG h1,h2⟩⟩
  have e0:qj P w K mg (X2 bJ.heap H) callerA [] bJ H:=⟨rfl,hM,λb o e=>Qy e,rR (Ut _ _),trivial,λb hb=>absurd (show b∈([]:List Addr) from hb) (by simp),bC,.of_eq hg⟩
  refine fW ((F _ Dj (vG pR)).run callerA [] bJ H ⟨[.ref a],[]⟩ [.ref a] [.ref a] _ _ hr e0 (tZ bJ (.ref a)) (.cons rfl .nil) (qP H hO hS)) λr s' h=>?_;cases r with
  |error e=>exact(zb H e s' h).elim
  |ok fl =>
   cases fl with
   |next=>exact False.elim h
   |brk=>exact False.elim h
   |cont=>exact False.elim h
   |ret u =>
    obtain⟨v,H',os,bare,un,yw,r',q⟩:=h;have q':v=.bl true:=q;subst q';obtain rfl:u=Value.bool true:=r';refine⟨rfl,OldK.of_keep λb o e=>?_,os,bare⟩;cases q:H b with
    |none=>exact un.keep b o e q (by intro z;exact absurd (show b∈([]:List Addr) from z) (by simp)) (by simp)
    |some u =>
     rcases hO b with z|⟨ob,xs,z⟩
     ·rw[q] at z;cases z
     ·have z2:=un.gN b ob _ z;obtain⟨e1,_⟩:=bC b _ z;obtain⟨e2,_⟩:=yw b _ z2;rw[e] at e1;cases e1;exact e2
 cases hk:K.lookup a with
 |some o =>
  have e:=KX a o hk;rw[ha] at e;cases e;refine core (λ_=>none) (λ_=>.inl rfl) (.inr ⟨_,vs.toArray,_,hk,rfl,rfl,rfl,by rw[aC,ye];exact hl,by simpa using rv⟩) (λb u z=>by have z':(none:Option HO)=some u:=z;cases z') (λb z=>absurd rfl z) λz=>absurd rfl z
 |none =>
  refine core (λb=>if b=a then some (.jm { cls:=.type "list",data:=.seq vs.toArray } (.lst (ns.map V.int))) else none) (λb=>?_) (.inl (.inr ⟨{ cls:=.type "list",data:=.seq vs.toArray },aE rfl⟩)) (λb u z=>?_) (λb z=>?_) λ_=>hk
  ·by_cases hb:b=a
   ·exact .inr ⟨_,_,aE hb⟩
   ·exact .inl (aB hb)
  ·by_cases hb:b=a
   ·have z':=(aE hb).symm.trans z;cases z';subst hb;exact⟨ha,by rw[ah];exact hl,vs,_,rv,ha⟩
   ·have z':=(aB hb).symm.trans z;cases z'
  ·by_cases hb:b=a
   ·exact hb
   ·exact absurd (aB hb) z
theorem WX{l:PySem.W.OpenLaw}{n k:Nat}{q:Program}{loose:List Str}{XP:(Str->Option Value)->Heap->Prop}{YP:World->Heap->Prop}{d:DefRec}{K:Params->PySem.W.Frag}{CX:World->mr}{sp:World->Sp}(hn:l.most=some n)(nZ:n<=sizeLine)(tU:d.params.defaults=[])(hr:t7 k callerA)(hY:∀(w:World) (h:Heap),YP w h->(K w.params).In h)(F:∀ (w:World) (mg:Str->Option Value) (fa:Addr) (h:Heap),(K w.params).In h->h.Ns mainGlobals mg->mg d.name=some (.ref fa) ->
   ∃fd:FuncData,(∀(s:Shared) (u:Value),BindsTo s fd ⟨[u],[]⟩ [(x,u)]) /\
    ∀ base:Heap,(K w.params).In base->base.Ns mainGlobals mg->gO l.prog w (K w.params) mg base (CX w) k fa fd [x] (sp w))(qP:∀(w:World) (H:Hp) (a:Addr) (ns:List Int),ns.length<=n->xc H->fj (K w.params) H a (ns.map V.int)->sp w [.ref a] H (λv _=>v=.bl true) λ_ _ _=>False)(zb:∀(w:World) (H:Hp) (s:Shared) (e:Value) (s':Shared),CX w [] H s (λ_ _ _=>False) e s'->False) :
  PySem.W.WalkO q loose XP YP l.row.toRowW d [] (λf vs=>PySem.call f vs):=by
 refine Ip.Wa hn tU λw cR bJ mg mb fa o pm cd doc a vs ns G Y ho hd kJ hmg iC hints hlen hg=>?_;have KX:=hY w _ Y;obtain⟨fd,hb,hF⟩:=F w mg fa _ KX G.T.g hmg;exact SK KX G.T.g G.T.b G.T.builtins G.T.nolimit hg iC hints (aM hlen nZ) hr hF hb (λH hO hS=>qP w H a ns hlen hO hS) λH e s'=>zb w H bJ e s'
def C3(s:Stmt):Arguments:=match s with
 |.FunctionDef _ a _ _ _ _ _ _ _ _=>a
 |_=>{ posonlyargs:=[],args:=[],vararg:=none,kwonlyargs:=[],kw_defaults:=[],kwarg:=none,defaults:=[] }
def t4(s:Stmt):List Stmt:=match s with
 |.FunctionDef _ _ b _ _ _ _ _ _ _=>b
 |_=>[]
def p8(s:Stmt):Scope:=match s with
 |.FunctionDef _ _ _ _ _ _ sc _ _ _=>sc
 |_=>{ kind:=.function,names:=[],isGenerator:=false,isCoroutine:=false }
structure oN(K:PySem.W.Frag)(x qual:Str)(st:Stmt)(f:Addr)(fd:FuncData):Prop where
 ex:∃(oc:Value) (od:Option Addr) (kV doc pm:Value) (an:Option Addr) (fB ct:Value) (lG:Array (Option Value)),
  fd=PySem.W.fnOf x qual (C3 st) (t4 st) (p8 st) .none kV doc pm an fB ct/\K.lookup f=some ⟨oc,od,.func fd,lG⟩/\PySem.W.codeIn K fB qual=true
 kp:PySem.W.keepIn K (.ref f)=true
section
variable{K:PySem.W.Frag}
theorem oN.binds{st:Stmt}{f:Addr}{fd:FuncData}{ps:List Str}(F:oN K x qual st f fd)(h:∀(kV doc pm:Value) (an:Option Addr) (fB ct:Value) (us:List Value),us.length=ps.length->bindArgs (PySem.W.fnOf x qual (C3 st) (t4 st) (p8 st) .none kV doc pm an fB ct) ⟨us,[]⟩=pure (ps.zip us)):Binds K fd ps []:=by
 obtain⟨oc,od,kV,doc,pm,an,fB,ct,lG,rfl,lk,kJ⟩:=F.ex;exact .all (h kV doc pm an fB ct)
theorem NC{st:Stmt}{f:Addr}{oc:Value}{od an:Option Addr}{lG:Array (Option Value)}{kV doc pm fB ct:Value}(l:K.lookup f=some ⟨oc,od,.func (PySem.W.fnOf x qual (C3 st) (t4 st) (p8 st) .none kV doc pm an fB ct),lG⟩)(c:PySem.W.codeIn K fB qual=true)(k:PySem.W.keepIn K (.ref f)=true):oN K x qual st f (PySem.W.fnOf x qual (C3 st) (t4 st) (p8 st) .none kV doc pm an fB ct):=⟨⟨oc,od,kV,doc,pm,an,fB,ct,lG,rfl,l,c⟩,k⟩
end
theorem Ud:j2 X (.builtin "len") (λxs H Q=>∃a kvs,xs=[V.ref a]/\H a=some (.dK kvs)/\Q (.int kvs.length) H):=by
 intro pins s Z H xs us Q I r h;obtain⟨a,kvs,rfl,ha,q⟩:=h;obtain⟨u,rfl,ru⟩:=vals1 r;cases ru;exact LV I (.inl ha) λt s' I'=>⟨.int kvs.length,H,I',⟨t,rfl⟩,q⟩
section
variable{prog:Program}{R:Result->Shared->Prop}
theorem RI{target:Expr}{it acc:Value}{env:Env}(I:Nat->Shared->Prop)(turn:∀ n s,I n s->wpAny (model prog w) A (pyNext it) (λr bJ=>match r with
   |none=>R (.ok .next) bJ
   | some v=>wpAny (model prog w) A (letOwnedTupleGo target it v) (λ_ bJ=>wpAny (model prog w) A (assign target env v) (λ_ fK =>
     wpAny (model prog w) A (forIn ifs true λc r=>if r=true then do let ok <- isTrue c env (eval c env);pure (ForInStep.yield ok) else pure (ForInStep.yield r)) (λok eQ =>
      if ok=true then wpAny (model prog w) A (eval elt env) (λx je =>
       wpAny (model prog w) A (call (.builtin "list.append") [acc,x]) (λ_ ly=>∃ m,m < n/\I m ly) (λ_ _=>False) je) (notedBy (model prog w) A env λe s'=>R (.error e) s') eQ
      else ∃ m,m < n/\I m eQ) (λ_ _=>False) fK) (λ_ _=>False) bJ) (λ_ _=>False) bJ) (λ_ _=>False) s)(n:Nat)(h:I n s) :
  codeAny (model prog w) A (.compLoop (.ListComp elt [⟨target,iter,ifs,0⟩] scope pos) 0 it acc env) R s:=by
 refine codeAny_loop rfl I (λn s hI=>?_) n h;show wpAny _ A ((compTurn (.ListComp elt [⟨target,iter,ifs,0⟩] scope pos) 0 it acc env).onRaise (λx=>do noteFrame x env;theTreesLotGoes x)) _ _ s;refine wpAny_noted ?_;rw[compTurn_list];refine aa (eJ (aa (br (turn n s hI) (λr bJ dt=>?_) λ_ _ h'=>h'.elim)));cases r with
 |none=>exact ai dt
 |some v =>
  refine aa (br dt (λ_ bJ dt=>?_) λ_ _ h'=>h'.elim);refine aa (br dt (λ_ fK iB=>aa (br iB (λok eQ lM=>?_) λ_ _ h'=>h'.elim)) λ_ _ h'=>h'.elim);cases ok with
  |false=>exact wpAny_pure ⟨rfl,lM⟩
  |true =>
   exact aa (aa (br lM (λx je pP=>aa (br pP (λ_ ly pO=>ai (ai ⟨rfl,pO⟩)) λ_ _ h'=>h'.elim)) λ_ _ h'=>h'))
end
def kC(X:Cx)(es:List Expr)(t:TT):Prop :=
 ∀(pins:List (Addr×Obj)) (s:Shared) (Z:St) (H:Hp) (Q:Bool->Hp->Prop),Inv X pins Z H s->t Z H Q ->
  wpAny (model X.prog X.w) X.A (forIn es true λc r=>if r=true then do let ok <- isTrue c X.env (eval c X.env);pure (ForInStep.yield ok) else pure (ForInStep.yield r)) (TP X pins Z Q) X.xe s
def LH:TT:=λ_ H Q=>Q true H
theorem Ww:kC X [] LH:=λpins s Z H Q I h=>ai ⟨H,I,h⟩
theorem Wx{c:Expr}{t:TT}(h:PT X c t):kC X [c] t:=by
 intro pins s Z H Q I q;simp only[List.forIn_cons,List.forIn_nil,if_true];exact aa (aa (br (h pins s Z H Q I q) (λb s' hb=>ai (ai hb)) λ_ _ x=>x))
def F6(scope:Scope)(cl:List (Str×Addr))(C:Addr):List (Str×Addr):=cellsFrom (C+1) scope.names []++cl
theorem C0:∀(names:List (Str×NameKind)) (n:Nat) (acc:List (Str×Addr)),cellsFrom n names acc=cellsFrom n names []++acc
 |[],_,_=>rfl
 |(y,k)::r,n,acc=>by
  unfold cellsFrom;split
  ·rw[C0 r (n+1) ((y,n)::acc),C0 r (n+1) [(y,n)],cb]
   rfl
  ·exact C0 r n acc
theorem P8{x:Str}{c:Addr}:∀{names:List (Str×NameKind)} {n:Nat},(x,c)∈cellsFrom n names []->(x,NameKind.cell)∈names
 |[],_,h=>by simp[cellsFrom] at h
 |(y,k)::r,n,h=>by
  unfold cellsFrom at h;split at h
  ·rename_i hk;rw[C0] at h;rcases aI.mp h with z|z
   ·exact bH _ (P8 z)
   ·cases aK.mp z;rw[show k=NameKind.cell from by simpa using hk];exact fH
  ·exact bH _ (P8 h)
theorem E6{α:Type}{x:Str}:∀{a b:List (Str×α)},(a++b).lookup x=(a.lookup x).or (b.lookup x)
 |[],_=>rfl
 |(y,v)::r,b=>by
  rw[List.cons_append,cw,cw];cases x==y
  ·exact E6
  ·rfl
theorem EL(h:scope.names.lookup x=some .cell\/∃c,cl.lookup x=some c):∃c,(F6 scope cl C).lookup x=some c:=by
 unfold F6;rw[E6];cases e:(cellsFrom (C+1) scope.names []).lookup x with
 |some c=>exact⟨c,rfl⟩
 |none =>
  rcases h with h|h
  ·have q:=dh scope.names (C+1) [] (.inl h);rw[e] at q;cases q
  ·exact h
theorem K7{env:Env}:∀{names:List (Str×NameKind)} {x:Str},names.lookup x=some .cell ->
  (names.map λ(n,k)=>if(k==NameKind.free&&env.scope.kind==.function&&env.kindOf n==some .cell) then(n,NameKind.cell) else(n,k)).lookup x=some .cell
 |[],_,h=>by simp at h
 |(n,k)::r,x,h=>by
  have ih:=@K7 env r x;show List.lookup x ((if(k==NameKind.free&&env.scope.kind==.function&&env.kindOf n==some .cell)=true then(n,NameKind.cell) else(n,k))::_)=_;cases hx:x==n with
  |true =>
   simp only[List.lookup_cons,hx] at h;cases h;simp[List.lookup_cons,hx]
  |false =>
   simp only[List.lookup_cons,hx] at h;by_cases hc:(k==NameKind.free&&env.scope.kind==.function&&env.kindOf n==some .cell)=true
   ·rw[aE hc];simp only[List.lookup_cons,hx];exact ih h
   ·rw[aB hc];simp only[List.lookup_cons,hx];exact ih h
theorem X6{h:Heap}(ck:CellsOk h (C+1) (cellsFrom (C+1) scope.names [])){c:Addr}(e:(F6 scope cl C).lookup x=some c):C<c\/cl.lookup x=some c:=by
 unfold F6 at e;rw[E6] at e;cases e2:(cellsFrom (C+1) scope.names []).lookup x with
 |some c' =>
  rw[e2] at e;cases e;exact .inl (ck.empty x c (aJ e2)).2
 |none =>
  rw[e2] at e;exact .inr e
theorem Y5{M:Model}{E:Value->Shared->Prop}{globals:Addr}{outer:Env}{Q:Env->Shared->Prop}(hQ:∀ dt:Heap,dt.Ns s.heap.objs.size (λ_=>none)->(∀ b o,s.heap.get? b=some o->dt.get? b=some o)->CellsOk dt (s.heap.objs.size + 1) (cellsFrom (s.heap.objs.size + 1) scope.names []) ->
   Q (newEnv scope s.heap.objs.size globals (F6 scope cl s.heap.objs.size) qual none .none (some outer) builtinsNs) { s with heap:=dt }) :
  wpAny M A (newFunctionEnv scope globals cl [] qual none .none (some outer)) Q E s:=by
 simp only[newFunctionEnv,Option.isSome_some,if_true];refine aa (wpAny_alloc ?_);refine aa (wpAny_layCells _ (λname kind cells=>by cases JH:kind==NameKind.cell<;>simp[JH]) _ _ _ _ ?_);have ok:=cellsFrom_ok scope.names (s.heap.push { cls:=.type "dict",data:=.dict #[] }) (s.heap.objs.size+1) [] ⟨λ_ _ hm=>(nomatch hm),List.Pairwise.nil⟩ (by rw[cv];exact ak _);rw[cv] at ok;rw[show({ s with heap:=s.heap.push { cls:=.type "dict",data:=.dict #[] } }:Shared).heap.objs.size=s.heap.objs.size+1 from cv ..];rw[List.forIn_nil];refine aa (ai (ai ?_));rw[C0];exact hQ _ ((Heap.Ns.new s.heap (.type "dict")).keeps (pushCells_keeps _ _)) (λb o e=>pushCells_keeps _ _ b o (ag _ e)) ok
def d6(X:Cx)(pins:List (Addr×Obj))(scope:Scope)(N':List Str)(cl:List (Str×Addr))(C:Addr)(s:Shared)(H:Hp)(fp:List Addr):Cx where
 prog:=X.prog
 w:=X.w
 K:=X.K
 mg:=X.mg
 base:=X.base
 A:=X.A
 N:=N'
 cR:=s
 iU:=H
 env:=compEnvC scope (F6 scope cl C) C X.env
 outer:=X.stack
 stack:=X.stack
 ex:=fp
 calm:=true
 fn:=λx=>decide (scope.names.lookup x=some .cell)
 pn:=X.pn++pins
 xe:=λ_ _=>False
structure dc(X:Cx)(scope:Scope)(N':List Str)(d4:List Nat)(cl:List (Str×Addr)):Prop where
 kind:scope.kind=.function
 cells:∀y∈scope.names,y.2=.cell->scope.names.lookup y.1=some .cell
 names:∀y∈scope.names,y.2=.local->scope.names.lookup y.1=some .local
 qh:closureFor scope X.env=pure cl
 cin:∀x c,cl.lookup x=some c->X.env.cells.lookup x=some c
 uD:∀x,scope.names.lookup x=some .free->∃c,cl.lookup x=some c
 nd:N'.Nodup
 K':∀(i j:Nat),d4[i]?=some j->∃x,N'[i]?=some x/\X.N[j]?=some x/\scope.names.lookup x=some .free/\(X.env.kindOf x=some .cell\/X.env.kindOf x=some .free)
 zN:d4.length<=N'.length
theorem C4{env:Env}:∀{names:List (Str×NameKind)} {x:Str},names.lookup x=some .free ->
  (names.map λ(n,k)=>if(k==NameKind.free&&env.scope.kind==.function&&env.kindOf n==some .cell) then(n,NameKind.cell) else(n,k)).lookup x=some .cell \/
  (names.map λ(n,k)=>if(k==NameKind.free&&env.scope.kind==.function&&env.kindOf n==some .cell) then(n,NameKind.cell) else(n,k)).lookup x=some .free
 |[],_,h=>by simp at h
 |(n,k)::r,x,h=>by
  have ih:=@C4 env r x;show List.lookup x ((if(k==NameKind.free&&env.scope.kind==.function&&env.kindOf n==some .cell)=true then(n,NameKind.cell) else(n,k))::_)=_\/List.lookup x ((if(k==NameKind.free&&env.scope.kind==.function&&env.kindOf n==some .cell)=true then(n,NameKind.cell) else(n,k))::_)=_;cases hx:x==n with
  |true =>
   simp only[List.lookup_cons,hx] at h;cases h;by_cases hc:(NameKind.free==NameKind.free&&env.scope.kind==.function&&env.kindOf n==some .cell)=true
   ·rw[aE hc];simp[List.lookup_cons,hx]
   ·rw[aB hc];simp[List.lookup_cons,hx]
  |false =>
   simp only[List.lookup_cons,hx] at h;by_cases hc:(k==NameKind.free&&env.scope.kind==.function&&env.kindOf n==some .cell)=true
   ·rw[aE hc];simp only[List.lookup_cons,hx];exact ih h
   ·rw[aB hc];simp only[List.lookup_cons,hx];exact ih h
theorem K8{env:Env}:∀{names:List (Str×NameKind)} {x:Str},((names.map λ(n,k)=>if(k==NameKind.free&&env.scope.kind==.function&&env.kindOf n==some .cell) then(n,NameKind.cell) else(n,k)).lookup x=some .cell \/
  (names.map λ(n,k)=>if (k == NameKind.free && env.scope.kind == .function && env.kindOf n == some .cell) then (n,NameKind.cell) else (n,k)).lookup x=some .free)->names.lookup x=some .free \/ names.lookup x=some .cell
 |[],_,h=>by simp at h
 |(n,k)::r,x,h=>by
  have ih:=@K8 env r x;rw[aW] at h;cases hx:x==n with
  |true =>
   simp only[List.lookup_cons,hx];by_cases hc:(k==NameKind.free&&env.scope.kind==.function&&env.kindOf n==some .cell)=true
   ·left;simp only[Bool.and_eq_true,beq_iff_eq] at hc;rw[hc.1.1]
   ·simp only[if_neg hc,List.lookup_cons,hx] at h;rcases h with h|h
    ·exact .inr h
    ·exact .inl h
  |false =>
   simp only[List.lookup_cons,hx];by_cases hc:(k==NameKind.free&&env.scope.kind==.function&&env.kindOf n==some .cell)=true
   ·simp only[if_pos hc,List.lookup_cons,hx] at h;exact ih h
   ·simp only[if_neg hc,List.lookup_cons,hx] at h;exact ih h
def A7(Z:St)(d4:List Nat)(n:Nat):St:=d4.map (λj=>(Z[j]?).join)++List.replicate (n-d4.length) none
section
variable{pins:List (Addr×Obj)}{Z:St}{H:Hp}
theorem Inv.Fg{h1:Heap}{tk:Nat}(I:Inv X pins Z H s)(S:dc X scope N' d4 cl)(hc:X.calm=true)(hf:∀b∈fp,A9 X pins H b)(ho:∀b∈fp,∃o,s.heap.get? b=some o)(hC:s.heap.objs.size<=C)(hn:∃m,h1.Ns C m)(k:∀b o,s.heap.get? b=some o->h1.get? b=some o)(ck:CellsOk h1 (C+1) (cellsFrom (C+1) scope.names [])) :
  Inv (d6 X pins scope N' cl C s H fp) [] (A7 Z d4 N'.length) H { s with heap:=h1,toks:=tk }:=by
 obtain⟨m,hm⟩:=hn;have JG:(relabel scope X.env).kind=.function:=S.kind;have Cu:∀b o,s.heap.get? b=some o->b≠C:=λb o e z=>absurd (ao e) (by rw[z];exact jy.mpr hC);have two:∀{x:Str} {c:Addr},(F6 scope cl C).lookup x=some c->(C<c/\h1.IsCell c none/\(x,c)∈cellsFrom (C+1) scope.names [])\/(cl.lookup x=some c/\(cellsFrom (C+1) scope.names []).lookup x=none):=λ{x c} h=>by
  unfold F6 at h;rw[E6] at h;cases e:(cellsFrom (C+1) scope.names []).lookup x with
  |some c' =>
   rw[e] at h;cases h;have hm:=aJ e;exact .inl ⟨(ck.empty x c hm).2,(ck.empty x c hm).1,hm⟩
  |none =>
   rw[e] at h;exact .inr ⟨h,rfl⟩
 have sO:∀{x:Str} {c:Addr},cl.lookup x=some c->c<s.heap.objs.size:=λ{x c} h=>by
  obtain⟨v,o,e,_⟩:=I.cell x c (S.cin x c h);exact ao e
 have frees:∀{x:Str},scope.names.lookup x=some .free->(F6 scope cl C).lookup x=cl.lookup x:=λ{x} h=>by
  unfold F6;rw[E6];cases e:(cellsFrom (C+1) scope.names []).lookup x with
  |some c' =>
   have:=S.cells _ (P8 (aJ e)) rfl;rw[h] at this;cases this
  |none=>rfl
 refine⟨⟨I.mod,JG,I.ok.glob,I.ok.blt,hC,?_,?_,?_,λ_=>I.ok.hd hc,I.ok.frames,.inl rfl,?_,I.bs,?_,?_,?_,I.stack,I.xa⟩,rfl,I.bare,Un.kept k,⟨m,hm,?_⟩,?_,?_,?_,?_,I.bC.kept k,?_⟩
 ·intro x y c h1 h2;rcases two h1 with⟨l1,_,q1⟩|⟨q1,_⟩<;>rcases two h2 with⟨l2,_,q2⟩|⟨q2,_⟩
  ·exact PySem.name_of_addr ck.apart q1 q2
  ·exact absurd (cA l1 (ay (sO q2) hC)) (aZ _)
  ·exact absurd (cA l2 (ay (sO q1) hC)) (aZ _)
  ·exact I.ok.inj x y c (S.cin x c q1) (S.cin y c q2)
 ·intro x hx;rcases K8 (env:=X.env) (names:=scope.names) hx with z|z
  ·obtain⟨c,hc⟩:=S.uD x z;exact⟨c,(frees z).trans hc⟩
  ·have q:=dh scope.names (C+1) [] (.inl z);obtain⟨c,hc⟩:=dW.mp q;refine⟨c,?_⟩;show(F6 scope cl C).lookup x=some c;unfold F6;rw[E6,hc]
   rfl
 ·intro x c hf h;have z:scope.names.lookup x=some .cell:=bS hf;have q:=dh scope.names (C+1) [] (.inl z);rcases two h with⟨l,_⟩|⟨_,e⟩
  ·exact cK (jz hC l)
  ·rw[e] at q;cases q
 ·intro b hb;obtain⟨f0,f1,f2,f3,f4,f5⟩:=hf b hb;obtain⟨o,e⟩:=ho b hb;refine⟨Cu b o e,λx c h=>?_⟩;rcases two h with⟨l,_⟩|⟨q,_⟩
  ·intro z;subst z;exact absurd (cA l (ay (ao e) hC)) (aZ _)
  ·exact f4 x c (S.cin x c q)
 ·exact aM I.ok.ml I.sz
 ·intro b o e hb;obtain⟨f0,f1,f2,f3,f4,f5⟩:=hf b hb;rcases f3 with f3|f3
  ·exact I.ok.jG b o e f3
  ·exact absurd (ao (I.ok.bs b o e).1) (jy.mpr f3)
 ·intro b hb z;obtain⟨f0,f1,f2,f3,f4,f5⟩:=hf b hb;rcases aA.mp (I.J5 b z) with z|z
  ·exact f1 z
  ·exact f2 z
 ·intro i x v zp h2 h3;have hi:i<d4.length:=by
   unfold A7 at h2;by_cases hi:i<d4.length
   ·exact hi
   ·rw[bZ (by simpa using hi),cZ] at h2;split at h2<;>cases h2
  obtain⟨j,hj⟩:∃j,d4[i]?=some j:=⟨_,az hi⟩
  have hs:Z[j]?=some (some v):=by
   unfold A7 at h2;rw[au (by simpa using hi),aD,hj] at h2;simp only[Option.map_some] at h2;cases e:Z[j]? with
   |none=>rw[e] at h2;cases h2
   |some a=>rw[e] at h2;exact dI some (aH h2)
  obtain⟨y,yo,yn,vL,vK⟩:=S.K' i j hj;have ey:y=x:=by
   have uj:N'[i]?=some x:=zp;rw[yo] at uj;exact aH uj
  subst ey;obtain⟨m0,XS,hl⟩:=I.loc;obtain ⟨u,ru,hu⟩:=hl j y v yn hs (by
   rcases vK with z|z
   ·exact .inr (.inl z)
   ·exact .inr (.inr z))
  refine⟨u,ru,.inr ⟨C4 (env:=X.env) (names:=scope.names) vL,?_⟩⟩;rcases hu with⟨z,_⟩|⟨_,c,tX,oq⟩
  ·rcases vK with z'|z'<;>(rw[z'] at z;cases z)
  ·obtain⟨c',gi⟩:=S.uD y vL;have e:=S.cin y c' gi;rw[tX] at e;cases e;obtain⟨o,e1,e2⟩:=oq;exact⟨c,(frees vL).trans gi,o,k _ _ e1,e2⟩
 ·intro x c h;rcases two h with⟨_,q,_⟩|⟨q,_⟩
  ·exact⟨none,q⟩
  ·obtain⟨v,o,e1,e2⟩:=I.cell x c (S.cin x c q);exact⟨v,o,k _ _ e1,e2⟩
 ·exact I.bC.fresh hC
 ·intro x c h;rcases two h with⟨l,_⟩|⟨q,_⟩
  ·exact I.bC.fresh (cK (jz hC l))
  ·exact I.dU x c (S.cin x c q)
 ·intro p hp;have iY:p∈X.pn++pins:=by simpa[d6] using hp
  obtain⟨p1,p2,p3,p4,p5⟩:=I.pin p iY;refine⟨k _ _ p1,p2,Cu _ _ p1,λz=>?_,p5⟩;rcases aA.mp (I.J5 _ z) with z|z
  ·exact p3 z
  ·exact p4 z
 ·unfold A7;show _=N'.length;rw[aG,ah,ip];have:=S.zN;omega
theorem Inv.Eg{iw:List (Addr×Obj)}{bI:St}{H':Hp}{s':Shared}(I:Inv X pins Z H s)(hf:∀b∈fp,A9 X pins H b)(J:Inv (d6 X pins scope N' cl C s H fp) iw bI H' s'):Inv X pins Z H' s' :=
 I.Bh (ch:=fp) J.os J.base J.bC J.bare λb hb=>by
  obtain⟨f0,f1,f2,f3,f4,f5⟩:=hf b hb;exact⟨f3,f1,f4,f5⟩
theorem Inv.Nl{D:Addr}{ys:List V}{aQ:List Value}{n:Nat}(I:Inv X pins Z H s)(f:A9 X pins H D)(hs:X.cR.heap.objs.size<=D)(hv:Vals ys aQ)(hz:ys.length<=sizeLine)(ho:s.heap.get? D=some { cls:=.type "list",data:=.seq aQ.toArray n }):Inv X pins Z (upd H D (.lst ys)) s:=by
 obtain⟨f0,f1,f2,f3,f4,f5⟩:=f;have dO:∀b o,X.cR.heap.get? b=some o->b≠D:=λb o e z=>absurd (ao e) (by rw[z];exact jy.mpr hs);have tup:∀b u,H b=some u->upd H D (.lst ys) b=some u:=λb u e=>by rw[f6 (j9 e f0)];exact e
 refine⟨I.ok,I.os,I.bare,⟨?_,?_,?_,I.base.there,?_,?_,?_⟩,I.loc,I.cell,?_,?_,?_,?_,I.len⟩
 ·exact λb o e n1 n2 n3=>I.base.keep b o e n1 n2 n3
 ·exact λb o e n1 n2 n3=>I.base.slot b o e n1 n2 n3
 ·exact λb o e n1 n2=>by rw[f6 (dO b o e)];exact I.base.free b o e n1 n2
 ·exact λb xs e=>tup _ _ (I.base.gZ b xs e)
 ·exact λb o u e=>tup _ _ (I.base.gN b o u e)
 ·exact λb ps e=>by
   obtain⟨more,q⟩:=I.base.hJ b ps e;exact⟨more,tup _ _ q⟩
 ·rw[f6 f1.symm];exact I.free
 ·exact λx c e=>by rw[f6 (f4 x c e)];exact I.dU x c e
 ·intro p hp;obtain⟨p1,p2,p3⟩:=I.pin p hp;exact⟨p1,by rw[f6 (f5 p hp)];exact p2,p3⟩
 ·intro a o e;by_cases ha:a=D
  ·subst ha;rw[p6] at e;cases e;exact⟨hz,aQ,n,hv,ho⟩
  ·rw[f6 ha] at e;have q:=I.bC a o e;refine q.R8 (λb u _ h=>h) (λb hb=>tup _ _ hb) (λb xs hb=>tup _ _ hb)
end
def Bt(wi:TI)(d4:List Nat)(n:Nat)(g:TG)(tc:TT)(te:TE):TE:=λZ H Q=>wi Z H λJ H1=>∃W:Nat->Nat->List V->St->Hp->Prop,(∃m,W 0 m [] (A7 Z d4 n) H1)/\∀i m ys Z H,W i m ys Z H ->
 (J.stop i H/\∀p,H p=none->Q (.ref p) (upd H p (.lst ys))) \/
 (J.go i H/\ys.length < sizeLine/\∀ x H',J.oV i H x H'->g x Z H' λcD H2=>tc cD H2 λb H3 =>
  if b=true then te cD H3 λy H4=>∃ m',m' < m/\W (i + 1) m' (ys ++ [y]) cD H4 else ∃ m',m' < m/\W (i + 1) m' ys cD H3)
noncomputable abbrev L1(aQ:List Value)(n:Nat):Obj:={ cls:=.type "list",data:=.seq aQ.toArray n }
section
variable{pins:List (Addr×Obj)}{Z:St}{H:Hp}
theorem Ff{it:Addr}{tn:Nat->Heap->Prop}{J:It}{xx:Addr->Shared->Hp->Value->Shared->Prop}{RR:Value->Addr->Result->Shared->Prop}{E:Value->Shared->Prop}{W:Nat->Nat->List V->St->Hp->Prop}{m0:Nat}{Q:VK}(S:dc X scope N' d4 cl)(hc:X.calm=true)(hg:∀C s H,PG (d6 X pins scope N' cl C s H fp) tg g)(ht:∀C s H,kC (d6 X pins scope N' cl C s H fp) ifs tc)(he:∀C s H,PE ((d6 X pins scope N' cl C s H fp).U6 (xx C s H)) elt te)(I:Inv X pins Z H s)(T:Turn X.prog X.w X.K tg J fp it tn)(st:tn 0 s.heap)(hf:∀b∈fp,A9 X pins H b)(w0:W 0 m0 [] (A7 Z d4 N'.length) H)(turn:∀ i m ys Z H,W i m ys Z H->(J.stop i H/\∀ p,H p=none->Q (.ref p) (upd H p (.lst ys))) \/
   (J.go i H/\ys.length < sizeLine/\∀ x H',J.oV i H x H'->g x Z H' λcD H2=>tc cD H2 λb H3 =>
    if b=true then te cD H3 λy H4=>∃ m',m' < m/\W (i + 1) m' (ys ++ [y]) cD H4 else ∃ m',m' < m/\W (i + 1) m' ys cD H3))(yX:∀D C s' H' m,Inv X pins Z H' s'->Q (.ref D) H'->s'.heap.Ns C m->H' C=none->s.heap.objs.size<=C->RR (.ref D) C (.ok .next) s')(Kc:∀D C e s',s.heap.objs.size<=C->xx C s H e s'->notedBy (model X.prog X.w) X.A (compEnvC scope (F6 scope cl C) C X.env) (λe s'=>RR (.ref D) C (.error e) s') e s') :
  wpAny (model X.prog X.w) X.A (newList []) (λacc eQ=>wpAny (model X.prog X.w) X.A (newFunctionEnv scope X.env.globals cl [] X.env.qual none .none (some X.env)) (λkN je =>
   kN.frame=X.env.frame/\codeAny (model X.prog X.w) X.A (.compStart (.ListComp elt [⟨tg,iter,ifs,0⟩] scope pos) 0 (.ref it) acc { kN with scope:=relabel scope X.env }) (RR acc kN.locals) je) E eQ) E s:=by
 refine bq (Y5 λdt fR fg lT=>?_);dsimp only at fR fg lT ⊢;generalize pZ:s.heap.push { cls:=.type "list",dict:=none,data:=.seq ([]:List Value).toArray }=H2 at fR fg lT ⊢;generalize eD:s.heap.objs.size=D at *;have hC:H2.objs.size=D+1:=by rw[<- pZ,cv,eD]
 generalize eC:H2.objs.size=C at *;have uc:D≠C:=by omega
 have lt:∀b o,s.heap.get? b=some o->b<D:=λb o e=>by rw[<- eD];exact ao e
 have pL:D<=C:=by omega
 have nT:∀b o,s.heap.get? b=some o->b≠C:=λb o e=>aF (ay (lt b o e) pL);have lI:∀b o,s.heap.get? b=some o->b≠D:=λb o e=>aF (lt b o e);have old:∀b o,s.heap.get? b=some o->dt.get? b=some o:=λb o e=>fg b o (pZ▸ag _ e);have iT:dt.get? D=some (L1 [] 0):=fg _ _ (by rw[<- pZ,<- eD];exact aw _ rfl);have iC:∀b∈fp,∃o,s.heap.get? b=some o:=λb hb=>by
  obtain⟨o,e,_⟩:=T.obj _ _ st b hb;exact⟨o,e⟩
 have ub:D∉fp:=λhm=>by
  obtain⟨o,e⟩:=iC D hm;exact lI D o e rfl
 have X1:Inv (d6 X pins scope N' cl C s H fp) [] (A7 Z d4 N'.length) H { s with heap:=dt } :=
  I.Fg S hc hf iC (by rw[eD];omega) ⟨_,fR⟩ old lT
 have sA:tn 0 dt:=T.keep _ _ _ st λb _ o e=>old b o e;have zu:∀{H':Hp},(∀b∈fp,H' b=none)->∀b∈fp,A9 (d6 X pins scope N' cl C s H fp) [] H' b:=λhn b hb=>by
  obtain⟨f0,f1,f2,f3,f4,f5⟩:=hf b hb;obtain⟨o,e⟩:=iC b hb;refine⟨hn b hb,?_,?_,.inl hb,λx c q=>(X6 lT q).elim (λl z=>absurd (cA (z▸l) (ay (lt b o e) pL)) (aZ _)) λq=>f4 x c (S.cin x c q),λp hp=>?_⟩
  ·exact nT b o e
  ·exact λz=>by
    rcases aA.mp (I.J5 b z) with z|z
    ·exact f1 z
    ·exact f2 z
  ·have iY:p∈X.pn++pins:=by simpa[d6] using hp
   exact f5 p iY
 have fD:∀{H':Hp},H' D=none->A9 (d6 X pins scope N' cl C s H fp) [] H' D:=λhn=>by
  refine⟨hn,uc,λz=>?_,.inr (by show s.heap.objs.size<=D;omega),λx c q=>?_,λp hp=>?_⟩
  ·exact absurd (I.uO (a:=D) (by omega)) λnY=>by
    rcases aA.mp (I.J5 D z) with z|z
    ·exact absurd I.lt (by rw[<- z,eD];exact aZ _)
    ·exact nY z
  ·rcases X6 lT q with l|q
   ·exact λz=>absurd (ay (z▸l) pL) (aZ _)
   ·obtain⟨v,o,e,_⟩:=I.cell x c (S.cin x c q);exact lI c o e
  ·have iY:p∈X.pn++pins:=by simpa[d6] using hp
   exact lI _ _ (I.pin p iY).1
 have pI:∀{H':Hp} {s':Shared} {bI:St} {aQ:List Value} {n:Nat},Inv (d6 X pins scope N' cl C s H fp) [] bI H' s'->H' D=none->s'.heap.get? D=some (L1 aQ n) ->
   Inv (d6 X pins scope N' cl C s H fp) [(D,L1 aQ n)] bI H' s':=λ{H' s' bI aQ n} J0 hn e=>J0.F7 λp hp=>by
  have z:p=(D,L1 aQ n):=by simpa using hp
  subst z;obtain⟨f0,f1,f2,_⟩:=fD hn;exact⟨e,f0,f1,f2,λv z=>nomatch z⟩
 have mS:∀{H':Hp} {aQ:List Value} {n:Nat},(∀b∈fp,H' b=none)->∀b∈fp,A9 (d6 X pins scope N' cl C s H fp) [(D,L1 aQ n)] H' b:=λ{H' aQ n} hn b hb=>by
  obtain⟨f0,f1,f2,f3,f4,f5⟩:=zu hn b hb;refine⟨f0,f1,f2,f3,f4,λp hp=>?_⟩;have iY:p∈(d6 X pins scope N' cl C s H fp).pn\/p=(D,L1 aQ n):=by simpa using hp
  rcases iY with z|z
  ·exact f5 p (bo _ z)
  ·subst z;exact λz=>ub (by rw[show D=b from z];exact hb)
 have loop:∀eQ:Shared,eQ={ s with heap:=dt } ->
   codeAny (model X.prog X.w) X.A (.compLoop (.ListComp elt [⟨tg,iter,ifs,0⟩] scope pos) 0 (.ref it) (.ref D) (compEnvC scope (F6 scope cl C) C X.env)) (RR (.ref D) C) eQ:=by
  rintro eQ rfl;refine RI (λn s'=>∃ i ys bI H' aQ nn,Inv (d6 X pins scope N' cl C s H fp) [] bI H' s'/\tn i s'.heap/\(∀ b ∈ fp,H' b=none)/\H' D=none/\Vals ys aQ/\ys.length <= sizeLine /\
   s'.heap.get? D=some (L1 aQ nn)/\W i n ys bI H') ?_ m0 ⟨0,[],_,H,[],0,X1,sA,λb hb=>(hf b hb).1,I.bC.fresh (by omega),.nil,bG _,iT,w0⟩
  rintro n s3 ⟨i,ys,gY,H3,aQ,nn,I3,nQ,oA,d3,v3,z3,o3,w3⟩;have vk:=pI I3 d3 o3;rcases turn i n ys gY H3 w3 with⟨stop,q⟩|⟨go,hz,step⟩
  ·refine cB (T.done (d6 X pins scope N' cl C s H fp) rfl rfl rfl rfl i _ s3 _ H3 _ vk (mS oA) nQ stop) λr s4 ⟨hr,I4⟩=>?_;subst hr;have o4:=(I4.pin (D,L1 aQ nn) (by simp)).1;have J4:Inv X pins Z H3 s4:=I.Eg hf I4;have zv:A9 X pins H3 D:=by
    refine⟨d3,bU (by rw[<- eD];exact I.lt),I.uO (by omega),.inr (by have:=I.sz;omega),λx c q=>?_,λp hp=>?_⟩
    ·obtain⟨v,o,e,_⟩:=I.cell x c q;exact lI c o e
    ·exact lI _ _ (I.pin p hp).1
   obtain⟨mC,yB,_⟩:=I4.loc;exact yX D C s4 (upd H3 D (.lst ys)) mC (J4.Nl zv (by have:=I.sz;omega) v3 z3 o4) (q D d3) yB (by rw[f6 uc.symm];exact I4.free) (by omega)
  ·refine cB (T.item (d6 X pins scope N' cl C s H fp) rfl rfl rfl rfl i _ s3 _ H3 _ vk (mS oA) nQ go) λr s4 ⟨u,hr,h4⟩=>?_;subst hr;refine cB h4 λ_ s5 bh=>?_;obtain⟨x,H5,I5,r5,y5,lz,uu⟩:=bh;have o5:=I5.pin (D,L1 aQ nn) (by simp);have vj:=I5.pinned (mS uu) (T.obj _ _ lz);refine cB (hg C s H _ s5 _ H5 x u _ vj r5 (step x H5 y5)) λ_ s6 bh=>?_;obtain⟨kE,H6,I6,q6⟩:=bh;refine cB (ht C s H _ s6 kE H6 _ I6 q6) λok s7 ⟨H7,I7,q7⟩=>?_;have back:∀{se:St} {H8:Hp} {s8:Shared},Inv (d6 X pins scope N' cl C s H fp) ([(D,L1 aQ nn)]++T4 fp s5.heap) se H8 s8->(∀b∈fp,H8 b=none)/\tn (i+1) s8.heap/\H8 D=none/\s8.heap.get? D=some (L1 aQ nn) :=
    λ{se H8 s8} I8=>by
     have pf:∀b∈fp,∀o,s5.heap.get? b=some o->s8.heap.get? b=some o/\H8 b=none:=λb hb o e=>by
      have:=I8.pin (b,o) (bf _ (bf _ (N8 hb e)));exact⟨this.1,this.2.1⟩
     have pd:=I8.pin (D,L1 aQ nn) (by simp);refine⟨λb hb=>?_,T.keep _ _ _ lz λb hb o e=>(pf b hb o e).1,pd.2.1,pd.1⟩;obtain⟨o,e,_⟩:=T.obj _ _ lz b hb;exact(pf b hb o e).2
   cases ok with
   |false =>
    obtain⟨m',hm,w7⟩:=q7;obtain⟨b1,b2,b3,b4⟩:=back I7;exact⟨m',hm,i+1,ys,kE,H7,aQ,nn,I7.F7 λp hp=>absurd hp (by simp),b2,b1,b3,v3,z3,b4,w7⟩
   |true =>
    refine br (he C s H _ s7 kE H7 _ (I7.U6 _) q7) (λxv s8 bh=>?_) λe s' hx=>Kc D C e s' (by omega) hx;obtain⟨y,H8,I8,r8,m',hm,w8⟩:=bh;have I8:=I8.Af;obtain⟨b1,b2,b3,b4⟩:=back I8;refine jc F.slot_list_append ⟨_,b4,rfl⟩ F.entry_list_append (F.args_list_append_2 _ _) (Xh D aQ.toArray nn xv (by rw[aC];have:=v3.length;omega)) ⟨b4,?_⟩;have q:∃n',(s8.heap.update D (Obj.mapSeq (·.push xv))).get? D=some (L1 (aQ++[xv]) n'):=by
     have q0:=Yr b4 (·.push xv);have e0:aQ.toArray.push xv=(aQ++[xv]).toArray:=by simp
     rw[e0] at q0;exact⟨_,q0⟩
    obtain⟨n',q⟩:=q;have BO:Inv (d6 X pins scope N' cl C s H fp) [] kE H8 s8:=I8.F7 λp hp=>absurd hp (by simp);obtain⟨f0,f1,f2,f3,f4,f5⟩:=fD (H':=H8) b3;have kp:∀b o,b≠D->s8.heap.get? b=some o->(s8.heap.update D (Obj.mapSeq (·.push xv))).get? b=some o:=λb' u hb hu=>(aT s8.heap (Obj.mapSeq (·.push xv)) (bB hb)).trans hu;refine⟨m',hm,i+1,ys++[y],kE,H8,aQ++[xv],n',BO.turned (it:=D) (t':=s8.toks) kp f0 f1 f3 f4 f5,T.keep _ _ _ b2 λb hb o e=>kp b o (λz=>ub (by rw[<- z];exact hb)) e,b1,b3,v3.append (.cons r8 .nil),?_,q,w8⟩;rw[aG,ik];omega
 exact⟨rfl,codeAny_compStart_list (loop _ rfl) (T.self _ 0 _ _ _ sA (loop _ rfl))⟩
theorem Inv.HG{h':Heap}{s2:Shared}{H2:Hp}(I:Inv X pins Z H s)(hC:s2.heap.objs.size<=C)(I2:Inv X pins Z H2 s2)(hn:H C=none)(sb:Heap.SameBut C s.heap h'):Inv X pins Z H { s with heap:=h' }:=by
 have f:=I2.qk (b:=C) (H':=H) hC hn;obtain⟨f0,f1,f2,f3,f4,f5⟩:=f;exact I.turned (t':=s.toks) (λb o hb e=>sb.extBut b o hb e) f0 f1 f3 f4 f5
theorem Fi{M:Model}{E:Value->Shared->Prop}{a:Sem Value}{b:Sem Env}{P:Env->Prop}{Q:Value->Env->Shared->Prop}(h:wpAny M A a (λx s1=>wpAny M A b (λy s2=>P y/\Q x y s2) E s1) E s):wpAny M A a (λx s1=>wpAny M A b (λy s2=>Q x y s2) E s1) E s :=
 br h (λ_ _ h=>br h (λ_ _ h=>h.2) λ_ _ z=>z) λ_ _ z=>z
theorem GO{wi:TI}(S:dc X scope N' d4 cl)(hc:X.calm=true)(hi:PI X tg iter wi)(hg:∀pins C s H fp,PG (d6 X pins scope N' cl C s H fp) tg g)(ht:∀pins C s H fp,kC (d6 X pins scope N' cl C s H fp) ifs tc)(he:∀pins C s H fp,PE (d6 X pins scope N' cl C s H fp) elt te)(hs:∀x,foldedSetIterable iter X.env x=pure x):PE X (.ListComp elt [⟨tg,iter,ifs,0⟩] scope pos) (Bt wi d4 N'.length g tc te):=by
 intro pins s Z H Q I h;rw[eval_ListComp];refine ic (use:=none) rfl hs S.qh S.kind S.names (cB (hi pins s Z H _ I h) λxv bJ dt=>cB dt λtD fK iB=>?_);obtain⟨it,fp,tn,J,H2,e,I2,T,lA,f2,W,⟨m0,w0⟩,turn⟩:=iB;subst e;refine Fi (Ff (xx:=λ_ _ _ _ _=>False) (RR:=λacc C=>compPost (model X.prog X.w) X.A X.xe none (EP X pins Z Q) acc C) S hc (λC s H=>hg pins C s H fp) (λC s H=>ht pins C s H fp) (λC s H=>he pins C s H fp) I2 T lA f2 w0 turn ?_ λ_ _ _ _ _ z=>z.elim);intro D C s' H' m I' q hn hC hsz;exact⟨m,hn,λh' sb=>⟨.ref D,H',I'.HG hsz I2 hC sb,rfl,q⟩⟩
theorem Rv{sC px:Pos}{wi:TI}{i:Nat}(S:dc X scope N' d4 cl)(hc:X.calm=true)(hi:PI X tg iter wi)(hg:∀pins C s H fp,PG (d6 X pins scope N' cl C s H fp) tg g)(ht:∀pins C s H fp,kC (d6 X pins scope N' cl C s H fp) ifs tc)(he:∀pins C s H fp,PE (d6 X pins scope N' cl C s H fp) elt te)(hs:∀x,foldedSetIterable iter X.env x=pure x)(hN:X.N.Nodup)(tQ:X.N[i]?=some x)(hx:Loc X.env.scope x)(hf:X.fn x=true\/X.env.scope.names.lookup x=some .local) :
  PS X (.Assign [.Name x px] (.ListComp elt [⟨tg,iter,ifs,0⟩] scope pos) sC) (uP (Bt wi d4 N'.length g tc te) (rG i)):=by
 intro pins s Z H D I h;have vM:∃b,swapsWith (.ListComp elt [⟨tg,iter,ifs,0⟩] scope pos) (some (.Name x px)) sC.line X.env=pure b:=⟨_,rfl⟩
 obtain⟨b,vM⟩:=vM;cases b with
 |false=>exact Gb hN tQ hx (GO S hc hi hg ht he hs) vM hf pins s Z H D I h
 |true =>
  rw[exec_Assign_Name_used _ _ _ _ vM];refine aa (eJ (aa ?_));show wpAny _ X.A (do let _ <- comprehension (.ListComp elt [⟨tg,iter,ifs,0⟩] scope pos) scope X.env _ (newList []) false (eval iter X.env) (some (assign (.Name x px) X.env))) _ _ s;refine aa (br (ic (use:=some (assign (.Name x px) X.env)) (Q:=λ_ s'=>SP X pins D .next s') rfl hs S.qh S.kind S.names
   (cB (hi pins s Z H _ I h) λxv bJ dt=>cB dt λtD fK iB=>?_)) (λ_ s' hq=>ai (ai hq)) λ_ _ e=>e)
  obtain⟨it,fp,tn,J,H2,e,I2,T,lA,f2,W,⟨m0,w0⟩,turn⟩:=iB;subst e;refine Fi (Ff (xx:=λ_ _ _ _ _=>False) (Q:=λv H1=>rG i v Z H1 D.nx) (RR:=λacc C=>compPost (model X.prog X.w) X.A X.xe (some (assign (.Name x px) X.env)) (λ_ s'=>SP X pins D .next s') acc C) S hc (λC s H=>hg pins C s H fp) (λC s H=>ht pins C s H fp) (λC s H=>he pins C s H fp) I2 T lA f2 w0 turn ?_ λ_ _ _ _ _ z=>z.elim);intro Dl C s' H' m I' q hn hC hsz;show wpAny _ X.A (assign (.Name x px) X.env (.ref Dl)) _ _ _;refine wpAny_assign_Name (EZ I' hN tQ hx (v:=.ref Dl) rfl (λs3 I3 ⟨a,sb,ha⟩=>?_) hf);have Kg:C≠a:=by
   obtain⟨f0,f1,f2,f3,f4,f5⟩:=I2.qk (b:=C) (H':=H') hsz hC;rcases ha with z|z
   ·rw[z];exact f1
   ·exact λz'=>f4 _ _ z z'.symm
  obtain⟨f0,f1,f2,f3,f4,f5⟩:=I2.qk (b:=C) (H':=H') hsz hC;refine⟨m,hn.sameBut sb Kg,λh3 IV=>⟨_,H',I3.turned (t':=s3.toks) (λb o hb e=>IV.extBut b o hb e) f0 f1 f3 f4 f5,q⟩⟩
end
end L2
namespace HT
open PySem PyProof.Rows
section
variable{prog:Program}{w:World}{A:Around}{E:Value->Shared->Prop}{s:Shared}
theorem Sx{t b:Addr}{ws:List Value}{Q:Value->Shared->Prop}(ht:IsTup s.heap t #[])(hb:IsTup s.heap b ws.toArray)(h1:Q (.ref b) s):wpAny (model prog w) A (binaryOp .Add (.ref t) (.ref b)) Q E s:=by
 obtain⟨⟨cls,dd,data,sl⟩,ho,hc,n,hd⟩:=id ht;obtain⟨⟨zM,vY,data2,mD⟩,mM,oq,n2,hd2⟩:=id hb;simp only at hc hd oq hd2;subst hc hd oq hd2;exact Yp ⟨_,ho,rfl⟩ ⟨_,mM,rfl⟩ oP Ir gU gF (fX _ _)
   (tuple_addW0 t b #[] ws.toArray n n2 dd vY sl mD rfl) ⟨ho,mM,h1⟩
theorem Y9{t sl:Addr}{items:Array Value}{vl vu:Value}{lo hi:Option Int}{Q:Value->Shared->Prop}(ht:IsTup s.heap t items)(hs:s.heap.IsSliceOf sl vl vu .none)(pl:IsPart vl lo)(pu:IsPart vu hi)(hw:df items.size 0 lo=0/\df items.size items.size hi=items.size)(h:Q (.ref t) s):wpAny (model prog w) A (getItem (.ref t) (.ref sl)) Q E s:=by
 obtain⟨os,pQ,vR,tT⟩:=id hs;have yT:s.TypeIs (.ref sl) "slice":=⟨os,pQ,vR⟩
 unfold getItem
 try with_reducible refine bw ?_
 first|refine aa (ai ?_)|skip
 refine aa (wpAny_sequenceKey ht.typeIs (by decide) ?_);refine aa (eR (name:=Str.ofString "__getitem__") ht.typeIs bD
  (bT bD ht.typeIs entry_tuple_getitem ?_ (args_tuple_getitem _ _)))
 show wpAny _ _ (Builtin.Tuple.tupleItemsOf (.ref t) >>= _) _ _ s;refine aa (tupleItemsOf_ ht ?_);refine aa (cU yT ?_);rw[aE (by decide)];refine aa (O8 hs pl pu ?_);have ym:((((df items.size 0 lo:Nat):Int)==0&&(1:Int)==1&&(df items.size items.size hi-df items.size 0 lo)==items.size)=true):=by
  rw[hw.1,hw.2];simp
 show wpAny _ _ (if(((df items.size 0 lo:Nat):Int)==0&&(1:Int)==1&&(df items.size items.size hi-df items.size 0 lo)==items.size)=true then _ else _) _ _ s;rw[aE ym];obtain⟨o,ho,hc,_⟩:=id ht;unfold Builtin.Tuple.tupleIsExact;refine aa (aa (cU ht.typeIs (ai ?_)));rw[aE (by decide)]
 first
  |exact wpAny_bind (wpAny_rule (wpAny_bind (wpAny_pure ⟨_,rfl,wpAny_pure h⟩)))
  |exact wpAny_bind (wpAny_rule (wpAny_pure ⟨_,rfl,wpAny_pure h⟩))
  |exact wpAny_bind (wpAny_rule (wpAny_bind (wpAny_pure (wpAny_pure ⟨_,rfl,wpAny_pure h⟩))))
end
end HT
namespace L2
open PySem PySem.Spec PyProof.Rows
section
variable{X:Cx}
def ON(K:PySem.W.Frag):R2:=λx y H Q=>∃a b xs ys,x=.ref a/\y=.ref b/\hZ K H a xs/\hZ K H b ys/\xs.length+ys.length<=sizeLine /\
 (xs=[]->Q (.ref b) H)/\(ys=[]->Q (.ref a) H)/\(∀p,H p=none->Q (.ref p) (upd H p (.tup (xs++ys))))
theorem SU:fk X (binaryOp .Add) (ON X.K):=by
 intro pins s Z H x y v u Q I rx ry h;obtain⟨a,b,xs,ys,rfl,rfl,ha,hb,hz,q0,q1,q2⟩:=h;by_cases hx:xs=[]
 ·subst hx;cases rx;cases ry;obtain⟨aQ,r1,p1,_⟩:=I.tuple ha;obtain⟨lL,r2,p2,_⟩:=I.tuple hb;cases r1;exact HT.Sx p1 p2 ⟨.ref b,H,I,rfl,q0 rfl⟩
 ·exact QA pins s Z H _ _ v u Q I rx ry ⟨a,b,xs,ys,rfl,rfl,ha,hb,hx,hz,q1,λ_=>q2⟩
def MU(K:PySem.W.Frag):V->Option Int->Option Int->Hp->VK->Prop:=λx lo hi H Q=>∃a xs,x=.ref a/\hZ K H a xs /\
 (P7 xs lo hi=xs->Q (.ref a) H)/\∀p,H p=none->Q (.ref p) (upd H p (.tup (P7 xs lo hi)))
theorem WR:ve X (MU X.K):=by
 intro pins s Z H x v vl vu lo hi sl Q I rx hs pl pu h;obtain⟨a,xs,rfl,hx,q0,q⟩:=h;by_cases hw:HT.df xs.length 0 lo=0/\HT.df xs.length xs.length hi=xs.length
 ·cases rx;obtain⟨aQ,r,ht,hz⟩:=I.tuple hx;have hlen:aQ.toArray.size=xs.length:=by rw[aC];exact r.length.symm
  refine⟨"tuple",_,bD.lookup,ht.typeIs,?_⟩;exact HT.Y9 ht hs pl pu (by rw[hlen];exact hw) ⟨.ref a,H,I,rfl,q0 (by unfold P7;rw[hw.1,hw.2];simp)⟩
 ·exact Pe pins s Z H _ v vl vu lo hi sl Q I rx hs pl pu ⟨a,xs,rfl,hx,hw,q⟩
theorem Wb:j2 X (.builtin "isinstance") (λxs H Q=>∃x t c b,xs=[x,.ty c]/\gn X.K H x t/\PySem.W.kitOne X.K t (.type c)=some b/\Q (.bl b) H):=by
 intro pins s Z H xs us Q I r h;obtain⟨x,t,c,b,rfl,hT,hk,q⟩:=h;obtain⟨u,w',rfl,ru,fF⟩:=vals2 r;cases (show w'=Value.type c from fF);exact Uw I ru hT hk λtk=>⟨.bl b,H,I.tok tk,rfl,q⟩
theorem Ua(hc:X.calm=true):j2 X (.builtin "all") (λxs H Q=>∃(a:Addr) (bs:List Bool),xs=[.ref a]/\fj X.K H a (bs.map V.bl)/\Q (.bl (bs.all id)) H):=by
 intro pins s Z H xs us Q I r h;obtain⟨a,bs,rfl,ha,q⟩:=h;obtain⟨u,rfl,ru⟩:=vals1 r;cases ru;obtain⟨aQ,rv,p,hz⟩:=I.list ha;refine call_all_walk ?_;refine fc p.isList ?_;have dO:a≠s.heap.objs.size:=by
  obtain⟨o,e,_⟩:=id p.isList;exact aF (ao e)
 have hl:=rv.length;rw[ah] at hl;refine⟨s.heap.objs.size,_,_,_,_,_,λi=>bs.getD i true,rfl,xr (A:=X.A.in1) (I.ok.hd hc) _ a dO aQ.toArray,⟨⟨_,aw _ rfl,rfl,rfl⟩,?_⟩,?_,λh' tk k=>?_⟩
 ·obtain⟨o,e,q1⟩:=id p.isList;exact⟨o,ag _ e,q1⟩
 ·intro i v s' Q' E' hP hQ;have hv:aQ[i]?=some v:=by simpa using hP
  have hi:i<bs.length:=by rw[hl];exact(aq.mp hv).1
  obtain⟨u',nX,sI⟩:=rv.get (i:=i) (x:=V.bl bs[i]) (by rw[aD,az hi];rfl);rw[hv] at nX;cases nX;cases (show v=Value.bool bs[i] from sI);refine bE ?_;have:bs.getD i true=bs[i]:=by simp[List.getD,hi]
  dsimp only at hQ;rw[this] at hQ;exact hQ
 ·have e1:(List.range aQ.toArray.size).all (λi=>bs.getD i true)=bs.all id:=by
   rw[aC,<- hl];rw[bX];simp only[List.all_eq_true,List.mem_range,id];constructor
   ·intro hh x hx;obtain⟨i,hi,rfl⟩:=cM.mp hx;have:=hh i hi;simpa[List.getD,hi] using this
   ·intro hh i hi;have:=hh bs[i] (dN hi);simpa[List.getD,hi] using this
  rw[e1];exact ⟨.bl (bs.all id),H,I.kept (t':=tk) λb o e=>k b o (by
   intro hb;have:b=s.heap.objs.size:=by simpa using hb
   exact absurd (ao e) (by rw [this];exact aZ _)) (ag _ e),rfl,q⟩
end
end L2
namespace HT
open PySem PyProof.Rows
end HT
namespace L2
open PySem PySem.Spec PyProof.Rows
variable{X:Cx}{pos p:Pos}{w:World}{H H':Hp}{Z:St}{s s':Shared}{B:Heap}{ea C:Addr}{a0:Value}{ta:TA}
theorem k7.get{P:Program}{h:Heap}{a:Addr}:∀{o:HO},k7 P w H h a o->∃ob,h.get? a=some ob
 |.lst _,x=>by obtain⟨_,_,_,_,e⟩:=x;exact⟨_,e⟩
 |.tup _,x=>by obtain⟨_,_,_,o,e,_⟩:=x;exact⟨o,e⟩
 |.dK _,x=>by obtain⟨_,_,_,_,o,es,ep,e,_⟩:=x;exact⟨o,e⟩
 |.dT _,x=>by obtain⟨_,_,_,_,o,es,ep,e,_⟩:=x;exact⟨o,e⟩
 |.set _ _,x=>by obtain⟨o,es,ep,t,e,_⟩:=x;exact⟨o,e⟩
 |.ins _ _ _,x=>by obtain⟨_,_,_,e,_⟩:=x;exact⟨_,e⟩
 |.own _,x=>x
 |.xd _,x=>by obtain⟨mA,n,_⟩:=x;obtain⟨od,e,_⟩:=EV n;exact⟨od,e⟩
 |.kT _ _,x=>by obtain⟨_,_,_,e⟩:=x;exact⟨_,e⟩
 |.jm _ _,x=>⟨_,x.1⟩
 |.nO _,x=>⟨_,x⟩
 |.met _ _,x=>⟨_,x⟩
 |.ext _,x=>x.2.1
def Be(H':Hp)(h0:Heap)(l:List Env)(e:Value)(C:Addr)(h:Heap):Prop :=
 ∃(ea:Addr) (a0:Value) (B:Heap),e=.ref ea/\Heap.FlyingW B l ea (.ref C) a0 h/\∀b o,h.get? b=some o->b∉ft l->(H' b≠none\/∃o0,h0.get? b=some o0)->B.get? b=some o
def iH(P:Program)(w:World):mr:=λouter H s E e s'=>∃(C:Addr) (H':Hp),s'.os=s.os/\AllBare s'.gens/\Un (ft outer) [] H H' s.heap s'.heap/\fC P w H' s'.heap/\Be H' s.heap outer e C s'.heap/\E (.ref C) none H'
section
variable{pins:List (Addr×Obj)}{E:XK}{e:Value}
theorem Inv.flew(I:Inv X pins Z H s)(h:iH X.prog X.w X.stack H s E e s'):∃C H',Inv X pins Z H' s'/\Be H' s.heap X.stack e C s'.heap/\E (.ref C) none H':=by
 obtain⟨C,H',ho,hb,hu,bC,fl,hE⟩:=h;exact⟨C,H',I.Bh (ch:=[]) ho hu bC hb (by simp),fl,hE⟩
theorem X3(I:Inv X pins Z H s){b:Addr}(hb:b∈ft X.stack):∃o,s.heap.get? b=some o/\∀vs,o.data≠.fields vs:=(I.stack.mem hb).2
theorem Bi{jv:Heap}(I:Inv X pins Z H s)(dg:X.stack=X.env::X.outer)(hex:X.ex=[])(hf:X.env.frame=some X.env.locals)(qL:∀b o,s.heap.get? b=some o->b∉ft X.stack->(H b≠none\/∃o0,X.cR.heap.get? b=some o0)->B.get? b=some o)(sl:∀b∈ft X.stack,∀o,s.heap.get? b=some o->∃sl,jv.get? b=some { o with slots:=sl })(fw:Heap.FlyingW B X.outer ea (.ref C) a0 jv)(hE:E (.ref C) none H):iH X.prog X.w X.outer X.iU X.cR E (.ref ea) { s with heap:=jv }:=by
 have yu:∀b,b∈ft X.outer->b∈ft X.stack:=λb hb=>by rw[dg];unfold ft at hb ⊢;rw[dR,hf];exact bH _ hb
 have sS:∀b o,X.cR.heap.get? b=some o->b∉ft X.outer->b∉ft X.stack:=λb o e hb z=>by
  rcases aA.mp (I.J5 b z) with z|z
  ·exact absurd (ao e) (by rw[z];exact jy.mpr I.ok.above)
  ·exact hb z
 have nh:∀b u,H b=some u->b∉ft X.stack:=λb u e z=>by rw[I.xa b z] at e;cases e
 have kept:∀b o,s.heap.get? b=some o->b∉ft X.stack->(H b≠none\/∃o0,X.cR.heap.get? b=some o0)->jv.get? b=some o:=λb o e n q=>fw.1 b o (qL b o e n q);have sU:∀b,b∉X.ex:=λb=>by rw[hex];simp
 refine⟨C,H,I.os,I.bare,⟨?_,?_,?_,?_,I.base.gZ,I.base.gN,I.base.hJ⟩,?_,⟨ea,a0,B,rfl,fw,?_⟩,hE⟩
 ·exact λb o e n1 n2 _=>kept b o (I.base.keep b o e n1 n2 (sU b)) (sS b o e n2) (.inr ⟨o,e⟩)
 ·intro b o e n1 n2 _;obtain⟨IT,e1⟩:=I.base.slot b o e n1 n2 (sU b);obtain⟨mD,e2⟩:=sl b (yu b n2) _ e1;exact⟨mD,e2⟩
 ·exact λb o e n1 _=>I.base.free b o e n1 (sU b)
 ·intro b o e _;obtain⟨o1,e1⟩:=I.base.there b o e (sU b);by_cases hb:b∈ft X.stack
  ·obtain⟨mD,e2⟩:=sl b hb _ e1;exact⟨_,e2⟩
  ·exact⟨o1,kept b o1 e1 hb (.inr ⟨o,e⟩)⟩
 ·intro a o e;exact (I.bC a o e).R8 (λb u hb q=>by
   have jV:∃v,H b=some v:=by
    rcases hb with rfl|hb
    ·exact⟨o,e⟩
    ·exact⟨_,hb⟩
   obtain⟨v,hv⟩:=jV;exact kept b u q (nh b v hv) (.inl (by rw [hv];simp))) (λb hb=>hb) (λb xs hb=>hb)
 ·intro b o e n q;rcases q with q|⟨o0,q⟩
  ·obtain⟨v,hv⟩:=mW.mp q;obtain⟨o1,e1⟩:=(I.bC b v hv).get;have z:=qL b o1 e1 (nh b v hv) (.inl (by rw[hv];simp));have z':=fw.1 b o1 z;have:o=o1:=by
    have e':jv.get? b=some o:=e;rw[z'] at e';exact(aH e').symm
   subst this;exact z
  ·obtain⟨o1,e1⟩:=I.base.there b o0 q (sU b);have z:=qL b o1 e1 (sS b o0 q n) (.inr ⟨o0,q⟩);have z':=fw.1 b o1 z;have:o=o1:=by
    have e':jv.get? b=some o:=e;rw[z'] at e';exact(aH e').symm
   subst this;exact z
theorem RO{h0:Heap}{Ex:Value->Shared->Prop}(I:Inv X pins Z H s)(fl:Be H h0 X.stack e C s.heap)(Ko:∀b o,X.cR.heap.get? b=some o->∃o',h0.get? b=some o')(dg:X.stack=X.env::X.outer)(hex:X.ex=[])(hf:X.env.frame=some X.env.locals)(hE:E (.ref C) none H):wpAny (model X.prog X.w) X.A (leaving X.env e) (λ_ nj=>iH X.prog X.w X.outer X.iU X.cR E e nj) Ex s:=by
 obtain⟨ea,a0,B,rfl,fw,hB⟩:=fl;have Yd:=fw;rw[dg] at fw;refine wpAny_leaves_onW (by rw[I.ok.frames,dg]) hf fw λjv vV us=>?_;refine Bi I dg hex hf (λb o e n q=>hB b o e n (q.imp id λ⟨o0,q⟩=>Ko b o0 q)) (λb hb o e=>?_) vV hE;obtain⟨o1,e1,nf⟩:=X3 I hb;rw[e] at e1;cases e1;exact us b o e nf
theorem VA{h':Heap}{vs:List Value}{Ex:Value->Shared->Prop}(I:Inv X pins Z H s)(hx:Heap.MadeExcOf s.heap h' ea (.ref C) vs)(dg:X.stack=X.env::X.outer)(hex:X.ex=[])(hf:X.env.frame=some X.env.locals)(hE:E (.ref C) none H):wpAny (model X.prog X.w) X.A (leaving X.env (.ref ea)) (λ_ nj=>iH X.prog X.w X.outer X.iU X.cR E (.ref ea) nj) Ex { s with heap:=h' }:=by
 have qT:=I.stack;rw[dg] at qT;have kX:∀env∈(X.env::X.outer),∀b,env.frame=some b->b∈ft X.stack:=λenv he b hb=>by rw[dg];exact jA.mpr ⟨env,he,hb⟩
 refine wpAny_leaves_madeW (s:={ s with heap:=h' }) (base:=PySem.W.hideAll s.heap (ft X.stack)) (h:=s.heap) (by rw[I.ok.frames,dg]) hf (λb o q=>Iu _ q) (PySem.W.funFrames_hide qT kX) hx λjv t fw _ _ us=>?_;refine(show iH X.prog X.w X.outer X.iU X.cR E (.ref ea) { s with heap:=jv } from Bi I dg hex hf (λb o e n _=>BS _ e n) (λb hb o e=>?_) fw hE);obtain⟨o1,e1,nf⟩:=X3 I hb;rw[e] at e1;cases e1;exact us b o (hx.keeps b o e) nf
theorem TU{l:List Env}{h0 h h1:Heap}{Pg:Program}(u:Un (ft l) [] H H' h0 h)(ok:fC Pg w H' h)(hB:∀b o,h.get? b=some o->b∉ft l->(H' b≠none\/∃o0,h0.get? b=some o0)->B.get? b=some o)(st:B.StaysIn h1)(us:h.UpToSlots h1)(CZ:∀b∈ft l,H' b=none/\∃o,h.get? b=some o/\∀vs,o.data≠.fields vs):Un (ft l) [] H H' h0 h1/\fC Pg w H' h1/\∀b o,h1.get? b=some o->b∉ft l->(H' b≠none\/∃o0,h0.get? b=some o0)->B.get? b=some o:=by
 have nh:∀b u,H' b=some u->b∉ft l:=λb u e z=>by rw[(CZ b z).1] at e;cases e
 have kept:∀b o,h.get? b=some o->b∉ft l->(H' b≠none\/∃o0,h0.get? b=some o0)->h1.get? b=some o:=λb o e n q=>st b o (hB b o e n q);have Ds:∀b∈ft l,∀o,h.get? b=some o->∃sl,h1.get? b=some { o with slots:=sl }:=λb hb o e=>by
  obtain⟨_,o1,e1,nf⟩:=CZ b hb;rw[e] at e1;cases e1;exact us b o e nf
 refine⟨⟨?_,?_,u.free,?_,u.gZ,u.gN,u.hJ⟩,?_,?_⟩
 ·exact λb o e n1 n2 n3=>kept b o (u.keep b o e n1 n2 n3) n2 (.inr ⟨o,e⟩)
 ·intro b o e n1 n2 n3;obtain⟨IT,e1⟩:=u.slot b o e n1 n2 n3;obtain⟨mD,e2⟩:=Ds b n2 _ e1;exact⟨mD,e2⟩
 ·intro b o e n;obtain⟨o1,e1⟩:=u.there b o e n;by_cases hb:b∈ft l
  ·obtain⟨mD,e2⟩:=Ds b hb _ e1;exact⟨_,e2⟩
  ·exact⟨o1,kept b o1 e1 hb (.inr ⟨o,e⟩)⟩
 ·intro a o e;exact (ok a o e).R8 (λb u hb q=>by
   have jV:∃v,H' b=some v:=by
    rcases hb with rfl|hb
    ·exact⟨o,e⟩
    ·exact⟨_,hb⟩
   obtain⟨v,hv⟩:=jV;exact kept b u q (nh b v hv) (.inl (by rw [hv];simp))) (λb hb=>hb) (λb xs hb=>hb)
 ·intro b o e n q;have:∃o1,h.get? b=some o1:=by
   rcases q with q|⟨o0,q⟩
   ·obtain⟨v,hv⟩:=mW.mp q;exact(ok b v hv).get
   ·exact u.there b o0 q (by simp)
  obtain⟨o1,e1⟩:=this;have z:=hB b o1 e1 n q;rw[st b o1 z] at e;cases e;exact z
structure Lies(X:Cx)(H H':Hp)(s:Shared)(B:Heap)(ea C:Addr)(a0:Value)(s':Shared):Prop where
 os:s'.os=s.os
 bare:AllBare s'.gens
 un:Un (ft X.stack) [] H H' s.heap s'.heap
 bC:fC X.prog X.w H' s'.heap
 qL:∀b o,s'.heap.get? b=some o->b∉ft X.stack->(H' b≠none\/∃o0,s.heap.get? b=some o0)->B.get? b=some o
theorem Lies.inv(I:Inv X pins Z H s)(l:Lies X H H' s B ea C a0 s'):Inv X pins Z H' s':=I.Bh (ch:=[]) l.os l.un l.bC l.bare (by simp)
theorem leave_held{Ex:Value->Shared->Prop}(I:Inv X pins Z H s)(l:Lies X H H' s B ea C a0 s')(hh:Heap.HeldW B X.stack ea (.ref C) a0 X.env.locals s'.heap)(dg:X.stack=X.env::X.outer)(hex:X.ex=[])(hf:X.env.frame=some X.env.locals)(hE:E (.ref C) none H'):wpAny (model X.prog X.w) X.A (leaving X.env (.ref ea)) (λ_ nj=>iH X.prog X.w X.outer X.iU X.cR E (.ref ea) nj) Ex s':=by
 have J:=l.inv I;have yL:=hh;rw[dg] at yL;unfold leaving;refine aa (wpAny_noteFrame_againW hf yL.2.2.2 ?_);refine wpAny_landsW yL λjv fl us=>?_;obtain⟨k1,k2,⟨_,_,k3⟩,k4⟩:=fl;refine Bi J dg hex hf (λb o e n q=>l.qL b o e n (q.imp id λ⟨o0,q⟩=>I.base.there b o0 q (by rw[hex];simp))) (λb hb o e=>?_) ⟨k1,k2,k3,k4⟩ hE;obtain⟨o1,e1,nf⟩:=X3 J hb;rw[e] at e1;cases e1;exact us b o e nf
def wK(X:Cx)(Ξ:XK):Prop:=∀(pins:List (Addr×Obj)) (Z:St) (H:Hp) (s:Shared) (h':Heap) (ea C:Addr) (vs:List Value),Inv X pins Z H s->Heap.MadeExcOf s.heap h' ea (.ref C) vs->Ξ (.ref C) none H->X.xe (.ref ea) { s with heap:=h' }
def uZ(X:Cx)(Ξ:XK):Prop:=∀(pins:List (Addr×Obj)) (Z:St) (H H':Hp) (s s':Shared) (B:Heap) (ea C:Addr) (a0:Value),Inv X pins Z H s->Lies X H H' s B ea C a0 s'->Heap.HeldW B X.stack ea (.ref C) a0 X.env.locals s'.heap->Ξ (.ref C) none H'->X.xe (.ref ea) s'
def Pw(C:Addr)(Ξ:XK)(t:TA):TS:=λ_ Z H=>t Z H λvs H1=>vs.length<=sizeLine/\Ξ (.ref C) none H1
theorem Th{x:Str}{B newId fP:String}{bm:List Value}{np fu:Pos}{jn:Expr}{rest:List Expr}{t:TA}{Ξ:XK}(hc:X.calm=true)(O:OwnCls x C bm newId X.mg X.base)(FB:ExcBaseFacts B newId fP bm)(hg:Gl X x)(ha:PA X (jn::rest) t)(hr:wK X Ξ)(he:starEach (jn::rest) X.env=(false,eval jn X.env)::starEach rest X.env)(fQ:(backTo fu (starEach rest X.env)).any (·.1)=false)(hd:(x==("__debug__":Str))=false) :
  PS X (.Raise (some (.Call (.Name x np) (jn::rest) [] fu)) none pos) (Pw C Ξ t):=by
 intro pins s Z H D I h;obtain⟨tl,N,nm,q,bs,hdct,sn,sub,ab,col,dd,k0,k1,k2,k3,k5,mN,hC,hN,vN,T⟩:=O.obj;refine wpAny_Raise_call_subT (C:=C) (nm:=nm) (q:=q) (N:=N) (bs:=bs) (bm:=tl) (hdct:=hdct) (sn:=sn) (sub:=sub) (ab:=ab) (col:=col) (dd:=dd) (k0:=k0) (k1:=k1) (k2:=k2) (k3:=k3) (k5:=k5)
  FB (mN:=mN) (T.hasType FB.hasBase) (I.ok.hd hc) (by rw[he];show(false||(backTo fu (starEach rest X.env)).any (·.1))=false;rw[fQ];rfl) vN (L5 I hg O.bound ⟨rfl,?_⟩ hd)
 have h':=ha fu pins s Z H _ I h;rw[he] at h' ⊢;refine Calls.evalArgs_plain (br h' (λvs fK iB=>?_) λ_ _ y=>y);obtain⟨ws,H1,I1,rv,hz,hE⟩:=iB;exact⟨rfl,by rw[<- rv.length];exact hz,I1.bk _ _ hC,hN.keeps I1.bk,T.keeps I1.bk,λh2 ea hm=>hr pins Z H1 fK h2 ea C vs I1 hm hE⟩
def Q1(X:Cx)(pins:List (Addr×Obj))(xe:Value->Shared->Prop):Cx:={ X with pn:=X.pn++pins,xe:=xe }
def B9(X:Cx)(ea:Addr):Cx:={ X with A:=X.A.mark (some (.ref ea)),calm:=false,xe:=λ_ _=>False }
theorem Inv.Nk{xe:Value->Shared->Prop}(I:Inv X pins Z H s):Inv (Q1 X pins xe) [] Z H s :=
 ⟨⟨I.ok.mod,I.ok.kind,I.ok.glob,I.ok.blt,I.ok.above,I.ok.inj,I.ok.has,I.ok.oC,I.ok.hd,I.ok.frames,I.ok.pj,I.ok.uv,I.ok.bs,I.ok.ml,I.ok.jG,I.ok.kl,I.ok.F5,I.ok.mR⟩,I.os,I.bare,I.base,I.loc,I.cell,I.free,I.dU,
  λp hp=>I.pin p (by simpa [Q1] using hp),I.bC,I.len⟩
theorem Inv.V8{xe:Value->Shared->Prop}{iw:List (Addr×Obj)}(I:Inv (Q1 X pins xe) iw Z H s):Inv X pins Z H s :=
 ⟨⟨I.ok.mod,I.ok.kind,I.ok.glob,I.ok.blt,I.ok.above,I.ok.inj,I.ok.has,I.ok.oC,I.ok.hd,I.ok.frames,I.ok.pj,I.ok.uv,I.ok.bs,I.ok.ml,I.ok.jG,I.ok.kl,I.ok.F5,I.ok.mR⟩,I.os,I.bare,I.base,I.loc,I.cell,I.free,I.dU,
  λp hp=>I.pin p (bo _ hp),I.bC,I.len⟩
theorem Inv.Gj(I:Inv X pins Z H s):Inv (B9 X ea) pins Z H s :=
 ⟨⟨I.ok.mod,I.ok.kind,I.ok.glob,I.ok.blt,I.ok.above,I.ok.inj,I.ok.has,I.ok.oC,λz=>(by cases z),I.ok.frames,I.ok.pj,I.ok.uv,I.ok.bs,I.ok.ml,I.ok.jG,I.ok.kl,I.ok.F5,I.ok.mR⟩,I.os,I.bare,I.base,I.loc,I.cell,I.free,I.dU,I.pin,I.bC,I.len⟩
theorem Inv.T7(J:X.Ok)(I:Inv (B9 X ea) pins Z H s):Inv X pins Z H s :=
 ⟨J,I.os,I.bare,I.base,I.loc,I.cell,I.free,I.dU,I.pin,I.bC,I.len⟩
theorem SP.V8{xe:Value->Shared->Prop}{D:Ends}{f:Flow}(h:SP (Q1 X pins xe) [] D f s):SP X pins D f s:=by
 cases f with
 |next=>obtain⟨a,b,I,q⟩:=h;exact⟨a,b,I.V8,q⟩
 |brk=>obtain⟨a,b,I,q⟩:=h;exact⟨a,b,I.V8,q⟩
 |cont=>obtain⟨a,b,I,q⟩:=h;exact⟨a,b,I.V8,q⟩
 |ret u=>obtain⟨v,a,b,I,r,q⟩:=h;exact⟨v,a,b,I.V8,r,q⟩
theorem SP.T7{ea:Addr}{D:Ends}{f:Flow}(J:X.Ok)(h:SP (B9 X ea) pins D f s):SP X pins D f s:=by
 cases f with
 |next=>obtain⟨a,b,I,q⟩:=h;exact⟨a,b,I.T7 J,q⟩
 |brk=>obtain⟨a,b,I,q⟩:=h;exact⟨a,b,I.T7 J,q⟩
 |cont=>obtain⟨a,b,I,q⟩:=h;exact⟨a,b,I.T7 J,q⟩
 |ret u=>obtain⟨v,a,b,I,r,q⟩:=h;exact⟨v,a,b,I.T7 J,r,q⟩
def Y2(X:Cx)(D:Ends)(C:Addr)(H:Hp):List ExceptHandler->Prop
 |.ExceptHandler (some (.Name x _)) none (uI::nP) _::rest=>Gl X x/\(x==("__debug__":Str))=false/\∃C' b,X.mg x=some (.ref C')/\PySem.W.exmOne X.K (.ref C) (.ref C')=some b /\
   (if b=true then ∃t:TS,(∀ea,iN (B9 X ea) (uI::nP) t)/\t D (List.replicate X.N.length none) H else Y2 X D C H rest)
 |[]=>∃Ξ:XK,uZ X Ξ/\Ξ (.ref C) none H
 |_=>False
end
section
variable{pins:List (Addr×Obj)}{e:Value}{D:Ends}
def rL(X:Cx)(pins:List (Addr×Obj))(D:Ends)(hs:List ExceptHandler):Value->Shared->Prop:=λe bJ =>
 wpAny (model X.prog X.w) X.A (noteFrame e X.env) (λ_ fK=>wpAny (model X.prog X.w) X.A (setFlight e none) (λ_ eQ=>wpAny (model X.prog X.w) X.A (handleBy e X.env hs) (SP X pins D) X.xe eQ) X.xe fK) X.xe bJ
theorem Lies.step{h1:Heap}(I:Inv X pins Z H s)(l:Lies X H H' s B ea C a0 s')(st:B.StaysIn h1)(us:s'.heap.UpToSlots h1):Lies X H H' s B ea C a0 { s' with heap:=h1 }:=by
 have J:=l.inv I;obtain⟨u,ok,ib⟩:=TU l.un l.bC l.qL st us λb hb=>⟨J.xa b hb,X3 J hb⟩
 exact⟨l.os,l.bare,u,ok,ib⟩
theorem Wf{l:List Env}{L:Addr}{cls:Value}{A:Around}{M:Model}{E:Value->Shared->Prop}{Q:Unit->Shared->Prop}(fw:Heap.FlyingW B l ea cls a0 s.heap)(h:∀h',Heap.HeldW B l ea cls a0 L h'->(∀b o,s.heap.get? b=some o->(∀vs,o.data≠.fields vs)->h'.get? b=some o)->Q () { s with heap:=h' }):wpAny M A (setFlight (.ref ea) (some L)) Q E s:=by
 obtain⟨f1,f2,f3,oe,vs,T,oT,ts,he,nD,hd,h1,CQ,Di,hT,vQ,h3⟩:=fw;have tG:3<ts.size:=(Array.getElem?_eq_some_iff.mp h3).1;have other:∀b,b≠T->(s.heap.update T (Obj.mapFields (·.setIfInBounds 3 ((some L).elim Value.none λf=>rawInt f)))).get? b=s.heap.get? b :=
  λb hb=>aT _ _ (bB hb)
 have jH:∀b o,s.heap.get? b=some o->(∀vs,o.data≠.fields vs)->b≠T:=λb o hb tK q=>by
  rw[q,hT] at hb;injection hb with hb;subst hb;exact tK ts vQ
 unfold setFlight;refine aa (jY he hd h1 ?_);rw[aE (show(Value.ref T != Value.none)=true from by simp)];refine dz hT vQ tG (h _ ⟨λb o yQ=>(other b λq=>by rw [q,CQ] at yQ;cases yQ).trans (f1 b o yQ),f2,
  f3.of_keeps λb o hb tK=>⟨o,(other b (jH b o hb tK)).trans hb,rfl⟩,?_⟩ λb o hb tK=>(other b (jH b o hb tK)).trans hb)
 exact⟨oe,vs,T,_,_,(other ea (bB Di)).trans he,nD,hd,h1,CQ,Di,aS _ hT (cQ (bu vQ _)),bu vQ _,by simp[tG]⟩
theorem EO{B:Heap}{ea C:Addr}{a0:Value}(hf:X.env.frame=some X.env.locals):∀(hs:List ExceptHandler) (s':Shared),Inv X pins Z H s->Lies X H H' s B ea C a0 s'->Heap.FlyingW B X.stack ea (.ref C) a0 s'.heap->Y2 X D C H' hs ->
  wpAny (model X.prog X.w) X.A (handleBy (.ref ea) X.env hs) (SP X pins D) X.xe s'
 |[],s',I,l,fw,t=>by
  obtain⟨Ξ,hh,hE⟩:=t;refine wpAny_handleBy_nil ?_;unfold PySem.passOn;obtain⟨f1,f2,f3,oe,vs,T,oT,ts,he,nD,hd,h1,_⟩:=id fw;refine aa (jY he hd h1 ?_);rw[aB (by simp),hf];refine aa (Wf fw λh2 held k=>wpAny_throw ?_);have l2:=l.step I held.1 (λb o hb hn=>⟨o.slots,k b o hb hn⟩);exact hh pins Z H H' s _ B ea C a0 I l2 held hE
 |.ExceptHandler none _ _ _::_,_,_,_,_,t=>t.elim
 |.ExceptHandler (some e) nm bd pos::rest,s',I,l,fw,t=>by
  cases e
  case Name x np =>
   cases nm with
   |some y=>exact t.elim
   |none =>
    cases bd with
    |nil=>exact t.elim
    |cons uI nP =>
     obtain⟨hg,gh,C',b,hm,hx,q⟩:=t;have J:=l.inv I;have JM:Inv (B9 X ea) pins Z H' s':=J.Gj;have LT:PySem.W.Looks (model X.prog X.w) s'.heap (typeOf (.ref ea)) (.ref C):=λA Q E s2 k q=>by
      obtain⟨ob,ho,hc⟩:=fw.there;exact wpAny_typeOf_ref (k _ _ ho) (by rw[hc];exact q)
     refine wpAny_handleBy_cons (codeAny_handlers_test ?_) (by intro z;cases z);refine L5 (X:=B9 X ea) JM hg hm ?_ gh;refine(PySem.W.exm_one (M:=model X.prog X.w) J.gg LT hx).here ?_;cases b with
     |false =>
      simp only[Bool.false_eq_true,if_false] at q;exact EO hf rest s' I l fw q
     |true =>
      simp only[if_true] at q;obtain⟨t,ht,hq⟩:=q;refine codeAny_handlers_suite ?_;refine wpAny_setFlight_noneW fw.1 fw.2.2.1 fw.2.2.2.at λh2 k1 k2 k3 k4=>?_;have l2:=l.step I k1 (λb o hb hn=>⟨o.slots,k4 b o hb hn⟩);have J2:=l2.inv I;have J3:Inv (B9 X ea) pins (List.replicate X.N.length none) H' { s' with heap:=h2 }:=(J2.weak (by rw [ip,J2.len]) λi v z=>by
       rw [cZ] at z;split at z <;> cases z).Gj
      refine br (ht ea pins _ _ H' D J3 hq) (λf s2 hf=>hf.T7 I.ok) λ_ _ z=>z.elim
  all_goals exact t.elim
theorem SV{hs:List ExceptHandler}{Ξ:XK}(dg:X.stack=X.env::X.outer)(hf:X.env.frame=some X.env.locals)(hT:∀C H',Ξ (.ref C) none H'->Y2 X D C H' hs) :
  Passes (iH X.prog X.w) (Q1 X pins (rL X pins D hs)) Ξ:=by
 intro iw Z H s e s' I0 h;have I:Inv X pins Z H s:=I0.V8;obtain⟨C,H',ho,hb,hu,bC,⟨ea,a0,B,rfl,fw,hB⟩,hE⟩:=h;have l:Lies X H H' s B ea C a0 s':=⟨ho,hb,hu,bC,hB⟩
 have fw:Heap.FlyingW B X.stack ea (.ref C) a0 s'.heap:=fw;show rL X pins D hs (.ref ea) s';unfold rL;have vV:=fw;rw[dg] at vV;refine wpAny_looks_onW (by rw[I.ok.frames,dg]) hf vV λh1 held us=>?_;have l1:=l.step I held.1 us;refine wpAny_landsW held λh2 fl IF=>?_;have l2:=l1.step I fl.1 IF;rw[<- dg] at fl;exact EO hf hs _ I l2 fl (hT C H' hE)
theorem OJ{hs:List ExceptHandler}{h₀:ExceptHandler}{body:List Stmt}{t:Ends->TS}{Ξ:Ends->XK}(dg:X.stack=X.env::X.outer)(hf:X.env.frame=some X.env.locals)(hb:∀pins D,(∀C H',Ξ D (.ref C) none H'->Y2 X D C H' (h₀::hs))->iN (Q1 X pins (rL X pins D (h₀::hs))) body (t D)) :
  PS X (.Try body (h₀::hs) [] [] pos) (λD Z H=>(∀C H',Ξ D (.ref C) none H'->Y2 X D C H' (h₀::hs))/\t D D Z H):=by
 intro pins s Z H D I ⟨hT,h⟩;refine wpAny_Try_except (br (hb pins D hT [] s Z H D I.Nk h) (λf s1 q=>?_) λe s1 q=>q);have q:=q.V8;cases f with
 |next =>
  obtain⟨bI,H',I',q⟩:=q;exact cB (jq ⟨bI,H',I',q⟩) λ_ _ z=>z
 |brk=>exact q
 |cont=>exact q
 |ret u=>exact q
end
def BN(K:PySem.W.Frag)(a:Addr):It :=
 ⟨λi H=>∃xs x,fj K H a xs/\xs[i]?=some x,λi H v H'=>∃p x,H p=none/\v=.ref p/\(∀xs,fj K H a xs->xs[i]?=some x)/\H'=upd H p (.tup [.int i,x]),λi H=>∃xs,fj K H a xs/\xs.length<=i⟩
theorem Vk{P:Program}{K:PySem.W.Frag}{elts:List Expr}{x1:Nat}{tp:Pos}(a e it:Addr)(Dc:e≠it):Turn P w K (.Tuple elts x1 tp) (BN K a) [e,it] e (λi h=>(∃old,IsEnum h e it i old)/\h.IsListIter it a i) where
 mem:=by simp
 obj:=λi h st b hb=>by
  obtain⟨⟨old,h1⟩,o,h2,c,d⟩:=st;rcases aA.mp hb with z|z
  ·subst z;exact ⟨_,h1,λv z=>by
    have z':Data.fields _=Data.cell v:=z;cases z'⟩
  ·have z:b=it:=by simpa using z
   subst z;exact⟨o,h2,λv z=>by rw[d] at z;cases z⟩
 keep:=λi h h' st k=>by
  obtain⟨⟨old,h1⟩,h2⟩:=st;exact⟨⟨old,k e (by simp) _ h1⟩,h2.at λo x=>k it (by simp) o x⟩
 item:=by
  intro X hP hw hK hc i pins s Z H E I hf st hg;subst hP hw hK;obtain⟨⟨old,h1⟩,h2⟩:=st;obtain⟨xs,x,hq,hx⟩:=hg;obtain⟨aQ,rv,p,hz⟩:=I.list hq;obtain⟨u,hu,ru⟩:=rv.get hx;obtain⟨e0,e1,e2,e3,e4,e5⟩:=hf e (by simp);obtain⟨f0,f1,f2,f3,f4,f5⟩:=hf it (by simp);refine wpAny_pyNext_enum_item h1 h2 p.isList (x:=u) (by simpa using hu) Dc λh' om yH tF XM jt=>?_;refine⟨_,rfl,wpAny_letOwnedTupleGo_enum om λuf JL iM=>?_⟩;have iM:Heap.SameBut e h' uf:=iM;have elt:e<s.heap.objs.size:=ao h1;have kp:∀b o,b≠e->b≠it->s.heap.get? b=some o->uf.get? b=some o:=λb o b1 b2 q=>(iM.2 b b1).trans (jt b o b1 b2 q);have hn:H s.heap.objs.size=none:=I.bC.fresh (ak _);have xO:uf.get? s.heap.objs.size=some { cls:=.type "tuple",data:=.seq #[.int i s.toks,u] }:=(iM.2 _ (bU elt)).trans tF;have ne:∀b u',H b=some u'->b≠e/\b≠it:=λb u' q=>And.intro (λ(z:b=e)=>by rw[z,e0] at q;cases q) (λ(z:b=it)=>by rw[z,f0] at q;cases q);have bC:fC X.prog X.w (upd H s.heap.objs.size (.tup [.int i,x])) uf:=λb o q=>by
   by_cases hb:b=s.heap.objs.size
   ·subst hb;rw[p6] at q;cases q;exact⟨by show 2<=sizeLine;decide,[.int i s.toks,u],.cons ⟨_,rfl⟩ (.cons ru .nil),_,xO,rfl,⟨_,rfl⟩,rfl⟩
   ·rw[f6 hb] at q;refine(I.bC b o q).R8 (λc v hc q'=>?_) (λc q'=>by rw[f6 (j9 q' hn)];exact q') λc ys q'=>by rw[f6 (j9 q' hn)];exact q'
    rcases hc with z|z
    ·subst z;exact kp _ _ (ne _ _ q).1 (ne _ _ q).2 q'
    ·exact kp _ _ (ne _ _ z).1 (ne _ _ z).2 q'
  have I2:Inv X pins Z (upd H s.heap.objs.size (.tup [.int i,x])) { s with heap:=uf,toks:=s.toks+1 }:=by
   refine I.step (g':=s.gens) (d':=s.drawn) (t':=s.toks+1) (ch:=[e,it]) (λb hb=>?_) (λb o _ _ hb q _=>kp b o (λz=>hb (by simp[z])) (λz=>hb (by simp[z])) q) (λb o _ _ hb q _=>⟨o.slots,kp b o (λz=>hb (by simp[z])) (λz=>hb (by simp[z])) q⟩)
    (λb o _ q n=>by rw[f6 (aF (ao q))];exact n) (λb o hb q=>⟨o,kp b o (λz=>hb (by simp[z])) (λz=>hb (by simp[z])) q⟩)
    (λb ys q=>by rw[f6 (j9 q hn)];exact q) (λb o' ys q=>by rw[f6 (j9 q hn)];exact q) (λb ps q=>⟨#[],by rw[f6 (j9 q hn),q];simp⟩) (λm hm=>?_) bC I.bare
   ·rcases aA.mp hb with z|z
    ·subst z;exact⟨e3,e1,e4,e5⟩
    ·have z:b=it:=by simpa using z
     subst z;exact⟨f3,f1,f4,f5⟩
   ·obtain⟨o,es,ep,ho,r⟩:=hm;exact⟨o,es,ep,kp _ o (bB e1) (bB f1) ho,r⟩
  refine⟨.ref s.heap.objs.size,_,I2,rfl,⟨s.heap.objs.size,x,hn,rfl,λys hy=>by rw[I.El hy hq];exact hx,rfl⟩,⟨⟨u,by simpa using JL⟩,yH.at λo y=>(iM.2 it Dc.symm).trans y⟩,λb hb=>?_⟩;have jV:b<s.heap.objs.size:=by
   rcases aA.mp hb with z|z
   ·subst z;exact elt
   ·have z:b=it:=by simpa using z
    subst z;obtain⟨o,h2,_⟩:=h2;exact ao h2
  rw[f6 (aF jV)];exact(hf b hb).1
 done:=by
  intro X hP hw hK hc i pins s Z H E I hf st hg;subst hP hw hK;obtain⟨⟨old,h1⟩,h2⟩:=st;obtain⟨xs,hq,hx⟩:=hg;obtain⟨aQ,rv,p,hz⟩:=I.list hq;obtain⟨f0,f1,f2,f3,f4,f5⟩:=hf it (by simp);have hl:=rv.length;exact wpAny_pyNext_enum_end (I.ok.hd hc) h1 h2 p.isList (by simp;omega) λh' eb=>⟨rfl,I.turned (t':=s.toks) (λb o hb e=>eb b o hb e) f0 f1 f3 f4 f5⟩
 self:=λ_ _ _ _ _ st h=>by
  obtain⟨⟨old,h1⟩,h2⟩:=st;exact wpAny_pyIter_enum h1 h
theorem Wq{l:Expr}{tp:Pos}{elts:List Expr}{x1:Nat}(hg:Gl X "enumerate")(hm:X.mg "enumerate"=none)(ha:PA X [l] ta)(hs:starEach [l] X.env=[(false,eval l X.env)]) :
  PI X (.Tuple elts x1 tp) (.Call (.Name "enumerate" p) [l] [] pos) (λZ H R=>ta Z H λvs H1=>∃a,vs=[.ref a]/\(∃xs,fj X.K H1 a xs)/\R (BN X.K a) H1):=by
 intro pins s Z H R I h;refine Call_ (N1 I hg hm PyProof.Rows.boot_enumerate (bY (cB (ha pos pins s Z H _ I h) λus s1 bh=>?_) hs rfl));obtain⟨vs,H1,I1,r1,q1⟩:=bh;obtain⟨a,e,⟨xs,hq⟩,q⟩:=q1;subst e;cases r1 with
 |cons r rr =>
  cases rr;cases r;obtain⟨aQ,rv,p,hz⟩:=I1.list hq;refine call_enumerate_list p.isList λh' he hit hsz hk=>wpAny_pyIter_enum he ?_;refine⟨s1.heap.objs.size+1,[s1.heap.objs.size+1,s1.heap.objs.size],_,_,H1,rfl,I1.kept (t':=s1.toks) hk,Vk a _ _ (by simp),⟨⟨_,he⟩,hit⟩,λb hb=>?_,q⟩;have jV:s1.heap.objs.size<=b:=by
   rcases aA.mp hb with z|z
   ·rw[z];exact fU _
   ·have z:b=s1.heap.objs.size:=by simpa using z
    rw[z];exact ak _
  exact I1.qk jV (I1.bC.fresh jV)
inductive BJ(X:Cx):List Expr->List TE->Prop
 |nil:BJ X [] []
 |cons {e:Expr} {t:TE} {es:List Expr} {ts:List TE} (h:PE X e t) (r:BJ X es ts):BJ X (e::es) (t::ts)
def HU:List TE->St->Hp->Str->(Str->Hp->Prop)->Prop
 |[],_,H,acc,Q=>Q acc H
 |t::ts,Z,H,acc,Q=>t Z H λx H1=>∃y,x=.str y/\(acc++y).length<=sizeLine/\HU ts Z H1 (acc++y) Q
theorem Vy{lo:Int}{acc:Array Value}{n:Nat}(h:ItemsOf (λi v=>∃t,v=.int (lo+i*1) t) acc n):Vals ((List.range n).map λ(k:Nat)=>V.int (lo+k)) acc.toList:=by
 have hl:acc.toList.length=n:=by
  have:=h.1;simpa using this
 have go:∀(m:Nat) (l:List Value),l.length<=n->m+l.length=n->(∀i v,l[i]?=some v->∃t,v=Value.int (lo+((m+i:Nat):Int)) t)->Vals ((List.range' m l.length).map λ(k:Nat)=>V.int (lo+k)) l:=by
  intro m l
  induction l generalizing m with
  |nil=>intro _ _ _;exact .nil
  |cons x r ih =>
   intro h1 h2 h3;simp only[List.length_cons,List.range'_succ,List.map_cons];refine .cons ?_ (ih (m+1) (by simp at h1;omega) (by simp at h2;omega) λi v hv=>?_)
   ·obtain⟨t,e⟩:=h3 0 x rfl;exact⟨t,by rw[e];simp⟩
   ·obtain⟨t,e⟩:=h3 (i+1) v (by simpa using hv);exact⟨t,by rw[e,show m+(i+1)=m+1+i by omega]⟩
 have:=go 0 acc.toList (by omega) (by omega) λi v hv=>?_
 ·rw[hl,<- List.range_eq_range'] at this;exact this
 ·have hi:i<n:=by
   have:=(aq.mp hv).1;omega
  have:acc[i]?=some v:=by rw[<- ir];exact hv
  obtain⟨t,e⟩:=h.2 i v this;refine⟨t,?_⟩;rw[e];simp
theorem Y8(hc:X.calm=true):j2 X (.type "list") (λxs H Q=>∃a lo hi,xs=[.ref a]/\H a=some (.kT lo hi)/\(-(2 ^ 62)<=lo/\lo<2 ^ 62/\-(2 ^ 62)<=hi/\hi<2 ^ 62/\hi-lo<=100000)/\∀p,H p=none->Q (.ref p) (upd H p (.lst ((List.range (hi-lo).toNat).map λ(k:Nat)=>V.int (lo+k))))):=by
 intro pins s Z H xs us Q I r h;obtain⟨a,lo,hi,rfl,ha,⟨h1,h2,h3,h4,h5⟩,q⟩:=h;obtain⟨t,u,v,ho⟩:=I.bC a _ ha;cases r with
 |cons r rr =>
 cases rr;cases r;have hn:Builtin.Range.rangeSize lo hi 1=((hi-lo).toNat:Nat):=by rw[rangeSize_one];split<;>omega
 refine call_list_range (n:=(hi-lo).toNat) (I.ok.hd hc) ho (small_one h1 h2 h3 h4) hn (by omega) λh' iV acc c hk hS oj=>?_;have hp:H s.heap.objs.size=none:=I.bC.fresh (ak _);refine⟨.ref _,_,I.laid (a:=s.heap.objs.size) (o:=.lst ((List.range (hi-lo).toNat).map λ(k:Nat)=>V.int (lo+k))) (t':=iV) hk (ak _) ⟨?_,acc.toList,c,Vy oj,by simpa using hS⟩,rfl,q _ hp⟩;rw[ah,Xl];have:(hi-lo).toNat<=100000:=by omega
 exact aM this (by decide)
theorem UR{a:Expr}(hg:Gl X "range")(hm:X.mg "range"=none)(ha:PA X [a] ta)(hs:starEach [a] X.env=[(false,eval a X.env)]):PE X (.Call (.Name "range" p) [a] [] pos) (λZ H Q=>ta Z H λvs H1=>∃j:Int,vs=[.int j]/\∀q,H1 q=none->Q (.ref q) (upd H1 q (.kT 0 j))):=by
 intro pins s Z H Q I h;refine cC (N1 I hg hm boot_range (bY (cB (ha pos pins s Z H _ I h) λus s1 bh=>?_) hs rfl));obtain⟨vs,H1,I1,r1,q1⟩:=bh;obtain⟨j,e,q⟩:=q1;subst e;cases r1 with
 |cons r rr =>
  cases rr;obtain⟨t,rfl⟩:=r;exact call_range_1 ⟨.ref s1.heap.objs.size,_,I1.laid (a:=s1.heap.objs.size) (o:=.kT 0 j) (λb o e=>ag _ e) (ak _) ⟨_,_,_,aw _ rfl⟩,rfl,q _ (I1.bC.fresh (ak _))⟩
theorem US{a b:Expr}(hg:Gl X "range")(hm:X.mg "range"=none)(ha:PA X [a,b] ta)(hs:starEach [a,b] X.env=[(false,eval a X.env),(false,eval b X.env)])(iM:starEach [b] X.env=[(false,eval b X.env)]):PE X (.Call (.Name "range" p) [a,b] [] pos) (λZ H Q=>ta Z H λvs H1=>∃i j:Int,vs=[.int i,.int j]/\∀q,H1 q=none->Q (.ref q) (upd H1 q (.kT i j))):=by
 intro pins s Z H Q I h;refine cC (N1 I hg hm boot_range (bY (cB (ha pos pins s Z H _ I h) λus s1 bh=>?_) (by rw[hs,iM]) (by rw[iM];rfl)));obtain⟨vs,H1,I1,r1,q1⟩:=bh;obtain⟨i,j,e,q⟩:=q1;subst e;cases r1 with
 |cons r rr =>
  cases rr with
  |cons r' rr =>
   cases rr;obtain⟨t,rfl⟩:=r;obtain⟨t',rfl⟩:=r';exact call_range_2 ⟨.ref s1.heap.objs.size,_,I1.laid (a:=s1.heap.objs.size) (o:=.kT i j) (λb o e=>ag _ e) (ak _) ⟨_,_,_,aw _ rfl⟩,rfl,q _ (I1.bC.fresh (ak _))⟩
def uR(K:PySem.W.Frag)(P:Params)(a:Addr)(kvs:List (Str×V)):Prop :=
 ∃es n,K.lookup a=some ⟨.type "dict",none,.dict es n,#[]⟩/\PySem.W.KeysLit P es.toList/\(a==sysModules)=false/\∀x,E0 (kvs.lookup x) (findBy Value.isStrOf es x)
theorem F'{kvs:List (Str×V)}(neg:Bool):fk X (compareOp (if neg then .NotIn else .In)) (λx y H Q=>∃a z,y=.ref a/\uR X.K X.w.params a kvs/\x=.str z/\Q (.bl (xor neg (kvs.lookup z).isSome)) H):=by
 intro pins s Z H x y v u Q I rx ry h;obtain⟨a,z,rfl,⟨es,n,hl,hk,lo,hf⟩,rfl,q⟩:=h;obtain⟨t,rfl⟩:=rx;cases ry;have hm:=PySem.W.mapOf_K (prog:=X.prog) (w:=X.w) I.gg hl hk;have e:=hf z;have ee:(findBy Value.isStrOf es z).isSome=(kvs.lookup z).isSome:=by
  cases h1:kvs.lookup z<;>cases h2:findBy Value.isStrOf es z<;>rw[h1,h2] at e<;>first|rfl|exact e.elim
 cases neg
 ·exact wpAny_in_of (strKind_is X.prog X.w z t) lo hm ⟨.bl _,H,I.tok _,by rw[ee];rfl,by simpa using q⟩
 ·exact wpAny_notIn_of (strKind_is X.prog X.w z t) lo hm ⟨.bl _,H,I.tok _,by rw[ee];rfl,by simpa using q⟩
theorem Mi{kvs:List (Str×V)}:qr X (λx y H Q=>∃a z v,x=.ref a/\uR X.K X.w.params a kvs/\y=.str z/\kvs.lookup z=some v/\Q v H):=by
 intro value slice pins s Z H x y v u Q I rx ry h hs;obtain⟨a,z,d,rfl,⟨es,n,hl,hk,lo,hf⟩,rfl,hz,q⟩:=h;cases rx;obtain⟨t,rfl⟩:=ry;have hm:=PySem.W.mapOf_K (prog:=X.prog) (w:=X.w) I.gg hl hk;have e:=hf z;rw[hz] at e;cases h2:findBy Value.isStrOf es z with
 |none=>rw[h2] at e;exact e.elim
 |some r =>
  rw[h2] at e;exact tail_any hm.typeIs slot_dict_getitem.lookup (wpAny_getItem_of (strKind_is X.prog X.w z t) hm h2 ⟨d,H,I.tok _,e,q⟩) hs
theorem Qk(hu:X.A.units+1<cLine):qr X (λx y H Q=>∃a v,x=.ref a/\N4 H a y (some v)/\Q v H):=by
 intro value slice pins s Z H x y v u Q I rx ry h hs;obtain⟨a,d,rfl,g,q⟩:=h;cases rx;exact tail_any (Wd I g) slot_dict_getitem.lookup (Um hu I g ry λw' s3 I3 fF=>⟨d,H,I3,fF,q⟩) hs
end L2
namespace ST
open PySem PyProof.Rows
variable{xs:Array Nat}{i k j n ep:Nat}{t:SetTable}{h h':Heap}{L:Bool}{es:Array (Int×Value)}{x f:Value}{prog:Program}{w:World}{a I b l:Addr}{ks ns:List Int}{A:Around}{E Q:Value->Shared->Prop}{s:Shared}{pl:List Nat}{α:Type}{r:Rd}{items:Array Value}
noncomputable abbrev jW(xs:Array Nat):Prop:=xs.toList.Pairwise (· < ·)
theorem jW.lt(h:jW xs)(tR:i<k)(hk:k<xs.size):xs.getD i 0<xs.getD k 0:=by
 have:=List.pairwise_iff_getElem.mp h i k (by simpa using cA tR hk) (by simpa using hk) tR;simp only[Array.getElem_toList] at this;rw[<- dC (h:=cA tR hk),<- dC (h:=hk)];exact this
theorem jW.le(h:jW xs)(tR:i<=k)(hk:k<xs.size):xs.getD i 0<=xs.getD k 0:=by
 rcases Nat.eq_or_lt_of_le tR with e|e
 ·rw[e];exact ak _
 ·exact cK (h.lt e hk)
theorem Au{xs:Array Nat}{j:Nat}(h:jW xs):∀(fuel lo hi:Nat),hi-lo<=fuel->lo<=hi->hi<=xs.size->(∀i,i<lo->xs.getD i 0<j)->(∀i,hi<=i->i<xs.size->j<=xs.getD i 0) ->
  SetTable.below.go xs j fuel lo hi<=xs.size/\(∀i,i<SetTable.below.go xs j fuel lo hi->xs.getD i 0<j)/\∀i,SetTable.below.go xs j fuel lo hi<=i->i<xs.size->j<=xs.getD i 0
 |0,lo,hi,h1,h2,h3,h4,h5=>by
  unfold SetTable.below.go;have:lo=hi:=by omega
  subst this;exact⟨h3,h4,h5⟩
 |fuel+1,lo,hi,h1,h2,h3,h4,h5=>by
  unfold SetTable.below.go;split
  ·rename_i hl;have hm:(lo+hi) / 2<xs.size:=by omega
   have em:xs.getD ((lo+hi) / 2) j=xs.getD ((lo+hi) / 2) 0:=by simp[Array.getD,hm]
   dsimp only;rw[em];by_cases hc:xs.getD ((lo+hi) / 2) 0<j
   ·rw[aE hc];exact Au h fuel _ hi (by omega) (by omega) h3 (λi oj=>jz (h.le (by omega) hm) hc) h5
   ·rw[aB hc];exact Au h fuel lo _ (by omega) (by omega) (by omega) h4 λi oj hs=>aM (cH hc) (h.le oj hs)
  ·have:lo=hi:=by omega
   subst this;exact⟨h3,h4,h5⟩
theorem O1(j:Nat)(h:jW xs):SetTable.below xs j<=xs.size/\(∀i,i<SetTable.below xs j->xs.getD i 0<j)/\∀i,SetTable.below xs j<=i->i<xs.size->j<=xs.getD i 0 :=
 Au h _ 0 _ (by omega) (by omega) (ak _) (λi hi=>absurd hi (Nat.not_lt_zero _)) λi h1 h2=>absurd h2 (by omega)
theorem below_at(h:jW xs)(hi:i<xs.size):SetTable.below xs (xs.getD i 0)=i:=by
 obtain⟨h1,h2,h3⟩:=O1 (xs.getD i 0) h;rcases ka (SetTable.below xs (xs.getD i 0)) i with z|z|z
 ·exact absurd (h3 _ (ak _) (by omega)) (Nat.not_le_of_lt (h.lt z hi))
 ·exact z
 ·exact absurd (h2 i z) (aZ _)
theorem Vr(h:jW xs)(hi:i<xs.size):SetTable.below xs (xs.getD i 0+1)=i+1:=by
 obtain⟨h1,h2,h3⟩:=O1 (xs.getD i 0+1) h;rcases ka (SetTable.below xs (xs.getD i 0+1)) (i+1) with z|z|z
 ·have:=h3 i (by omega) hi;omega
 ·exact z
 ·have:=h2 (i+1) z;have:=h.lt (cW i) (k:=i+1) (by omega);omega
theorem Vs(h:jW xs):SetTable.below xs 0=0:=by
 obtain⟨_,h2,_⟩:=O1 0 h;rcases Nat.eq_zero_or_pos (SetTable.below xs 0) with z|z
 ·exact z
 ·exact absurd (h2 0 z) (Nat.not_lt_zero _)
theorem getD_mem(hi:i<xs.size):xs[i]?=some (xs.getD i 0):=by simp[Array.getD,hi]
theorem VP(h:jW t.place)(hs:t.slot j=.empty):j∉t.place.toList:=by
 intro hm;obtain⟨i,hi,e⟩:=cM.mp hm;have oj:i<t.place.size:=by simpa using hi
 have ej:t.place.getD i 0=j:=by rw[<- dC (h:=oj)];simpa using e
 have hb:=below_at h oj;rw[ej] at hb;unfold SetTable.slot at hs;dsimp only at hs;rw[hb,getD_mem oj,ej] at hs;simp at hs
theorem VL(h:jW xs)(hj:j∉xs.toList):jW (SetTable.insertAt xs (SetTable.below xs j) j):=by
 obtain⟨h1,h2,h3⟩:=O1 j h;show(SetTable.insertAt xs (SetTable.below xs j) j).toList.Pairwise (· < ·);rw[SetTable.toList_insertAt,iO];have tk:∀a∈xs.toList.take (SetTable.below xs j),a<j:=λa ha=>by
  obtain⟨i,hi,e⟩:=cM.mp ha;rw[bN] at hi;rw[List.getElem_take] at e;have hs:i<xs.size:=by simp at hi;omega
  have:=h2 i (by omega);rw[<- dC (h:=hs)] at this;simp at e;omega
 have dp:∀b∈xs.toList.drop (SetTable.below xs j),j<b:=λb hb=>by
  obtain⟨i,hi,e⟩:=cM.mp hb;rw[gG] at hi;rw[List.getElem_drop] at e;have hs:SetTable.below xs j+i<xs.size:=by simp at hi;omega
  have:=h3 (SetTable.below xs j+i) (by omega) hs;rw[<- dC (h:=hs)] at this;have dO:b≠j:=λz=>hj (by rw[<- z];exact xw hb);simp at e;omega
 refine⟨h.take,dj.mpr ⟨dp,h.drop⟩,λa ha b hb=>?_⟩;have lV:=tk a ha;rcases aA.mp hb with z|z
 ·omega
 ·have:=dp b z;omega
theorem Va(n:Nat):jW (Array.range n):=by
 show(Array.range n).toList.Pairwise (· < ·);rw[Array.toList_range];exact rV
structure Well(L:Bool)(t:SetTable):Prop where
 vD:jW t.place
 zH:t.dummies=#[]
 led:t.led=L
theorem SR(hd:t.dummies=#[])(j:Nat):t.slot j≠.dummy:=by
 unfold SetTable.slot;dsimp only;split
 ·intro z;cases z
 ·rw[hd];split
  ·rename_i z;simp[SetTable.has] at z
  ·intro z;cases z
theorem FF{t:SetTable}(hd:t.dummies=#[]){hashAt:Nat->Int}{h:Int}:∀(fuel:Nat) (p:SetTable.Probe) {j:Nat} {dm:Option Nat},p.dummy=none->SetTable.probe.go t hashAt h fuel p=some (.empty j dm)->t.slot j=.empty/\dm=none
 |0,p,j,dm,_,e=>by simp[SetTable.probe.go] at e
 |fuel+1,p,j,dm,hp,e=>by
  unfold SetTable.probe.go at e;have ad:∀q:SetTable.Probe,q.dummy=none->(t.advance q).dummy=none:=λq hq=>by
   unfold SetTable.advance;split
   ·exact hq
   ·exact hq
  split at e
  ·rename_i hs;cases e;exact⟨hs,hp⟩
  ·rename_i hs;exact absurd hs (SR hd _)
  ·split at e
   ·cases e
   ·exact FF hd fuel _ (ad p hp) e
theorem Uq(hd:t.dummies=#[]){h:Int}{wd:Bool}(e:t.freeSlot h=some (j,wd)):t.slot j=.empty/\wd=false:=by
 unfold SetTable.freeSlot at e;split at e
 ·rename_i j' dm hp;obtain⟨h1,h2⟩:=FF hd _ _ rfl hp;subst h2;cases e;exact⟨h1,rfl⟩
 ·cases e
theorem J6(h:Well L t)(n:Nat):Well L (t.standIn n):=⟨Va n,rfl,h.led⟩
theorem Rq{h:Int}(hw:Well L t):Well L (layNew t es h x).2.1/\(layNew t es h x).2.2.1=false:=by
 unfold layNew;split
 ·rename_i slot wd e;obtain⟨h1,h2⟩:=Uq hw.zH e;refine⟨?_,h2⟩;have hd:SetTable.has t.dummies slot=false:=by rw[hw.zH];simp[SetTable.has]
  have w2:Well L (t.put slot).1:=⟨VL hw.vD (VP hw.vD h1),by simp only[SetTable.put,hd];exact hw.zH,hw.led⟩
  dsimp only;unfold SetTable.orStandIn;split
  ·exact w2
  ·exact J6 w2 _
 ·exact⟨J6 hw _,rfl⟩
theorem UA{mask finger moves:Nat}{led plain:Bool}{hashes:Array Int}{o:Array Nat}(hl:led=L)(e:SetTable.laid mask finger moves led plain hashes=some (t,o)):Well L t:=by
 unfold SetTable.laid at e;cases ho:SetTable.layClean mask hashes with
 |none=>rw[ho] at e;cases e
 |some owner =>
  rw[ho] at e;simp only[Option.bind_eq_bind,Option.bind_some,Option.pure_def,Option.some.injEq,Prod.mk.injEq] at e;obtain⟨rfl,_⟩:=e;refine⟨?_,rfl,hl⟩;show(List.map _ _).toArray.toList.Pairwise (· < ·);rw[List.toList_toArray];have sub:((List.range (mask+1)).filterMap λj=>(owner.getD j none).map (j,·)).map (·.1) |>.Sublist (List.range (mask+1)):=by
   generalize List.range (mask+1)=l
   induction l with
   |nil=>simp
   |cons a r ih =>
    rw[dR];cases owner.getD a none with
    |none=>exact ih.cons a
    |some k=>exact ih.cons_cons a
  exact List.Pairwise.sublist sub rV
theorem Si(hw:Well L t):Well L (relayAll t es n).2.1:=by
 unfold relayAll;split
 ·rename_i t' order e;dsimp only;split
  ·exact UA hw.led e
  ·exact J6 hw _
 ·exact J6 hw _
def toI:Value->Int
 |.int k _=>k
 |_=>0
def Led(w:World):Bool:=!(w.params.followText "set-order")
def p9(prog:Program)(w:World)(h:Heap)(a:Addr)(ks:List Int):Prop :=
 ∃o es ep t,h.get? a=some o/\o.ExactSet/\o.data=.set es ep t/\ElemsOf (intKind prog w) es.toList/\(es.toList.map λe=>toI e.2).Perm ks/\ks.Nodup/\es.size<scanBound/\t.fits es.size=true/\Well (Led w) t
theorem p9.at(x:p9 prog w h a ks)(k:∀o,h.get? a=some o->h'.get? a=some o):p9 prog w h' a ks:=by
 obtain⟨o,es,ep,t,e,r⟩:=x;exact⟨o,es,ep,t,k o e,r⟩
theorem wQ{e:Int×Value}{es:List (Int×Value)}(h:ElemsOf (intKind prog w) es)(he:e∈es):∃tk,e.2=.int (toI e.2) tk/\e.1=(intKind prog w).hash (toI e.2):=by
 obtain⟨⟨k,h1,h2⟩,_⟩:=h e he;obtain⟨t,ht⟩:=mV (k:=k) (v:=e.2) h1;refine⟨t,by rw[ht];rfl,?_⟩;rw[h2,ht]
 rfl
theorem FT{e:Int×Value}{es:List (Int×Value)}(h:ElemsOf (intKind prog w) es)(he:e∈es)(k:Int):(intKind prog w).is k e.2=decide (toI e.2=k):=by
 obtain⟨t,ht,_⟩:=wQ h he;show Value.isInt k e.2=_;rw[ht];generalize toI e.2=m;show Value.isInt k (.int m t)=decide (m=k);by_cases z:m=k
 ·subst z;simp[Value.isInt]
 ·rw[aL z];cases hv:Value.isInt k (.int m t) with
  |false=>rfl
  |true =>
   obtain⟨t',e'⟩:=mV hv;cases e';exact absurd rfl z
theorem p9.mem{a:Addr}{es:List (Int×Value)}(h:ElemsOf (intKind prog w) es)(hp:(es.map λe=>toI e.2).Perm ks)(k:Int):(es.findIdx? λe=>(intKind prog w).is k e.2).isSome=decide (k∈ks):=by
 rw[bX,aU,<- hp.mem_iff,aN,dW];constructor
 ·rintro⟨i,hi⟩;obtain⟨h1,h2,_⟩:=jR.mp hi;have hm:=dN h1;rw[FT h hm] at h2;exact⟨_,hm,bS h2⟩
 ·rintro⟨e,he,rfl⟩;cases hf:es.findIdx? λe'=>(intKind prog w).is (toI e.2) e'.2 with
  |some i=>exact⟨i,rfl⟩
  |none =>
   have:=List.findIdx?_eq_none_iff.mp hf e he;rw[FT h he] at this;simp at this
def A8(ks:List Int)(k:Int):List Int:=if k∈ks then ks else ks++[k]
theorem WZ(ks:List Int)(k:Int):(A8 ks k).length<=ks.length+1:=by unfold A8;split<;>simp
theorem Hf{k:Int}{tk:Tok}{Q:Bool->Shared->Prop}(hS:p9 prog w s.heap a ks)(hr:ks.length+1<scanBound)(h:∀h' b,Heap.SameBut a s.heap h'->p9 prog w h' a (A8 ks k)->Q b { s with heap:=h' }):wpAny (model prog w) A (setAddHashed a (.int k tk) ((intKind prog w).hash k)) Q E s:=by
 obtain⟨o,es,ep,t,ho,hx,hd,lR,hp,hn,hb,hf,hw⟩:=hS;have hlen:es.size=ks.length:=by rw[<- hp.length_eq];simp
 have jO:(intKind prog w).is k (.int k tk)=true:=gE _ _ _ _;have gv:∀(b:Bool) (s1:Shared) (Q':Unit->Shared->Prop),Q' () s1->wpAny (model prog w) A (match b with|true=>rule "set.scan.the-table-gave-way"|false=>pure ()) Q' E s1:=λb s1 Q' q=>by
  cases b
  ·exact ai q
  ·exact eO q
 unfold setAddHashed setAddHashedIn;refine bw (aa (cu ho hd hf ?_));dsimp only;rw[byScan_of rfl hb lR,aE rfl];unfold setAddByScan;refine aa (aa (eO (aa (wpAny_setScan_of jO ho hd hf lR ?_))));have hm:=p9.mem (a:=a) lR hp k;cases tH:es.toList.findIdx? (λe=>(intKind prog w).is k e.2) with
 |some j =>
  rw[tH] at hm;have hk:k∈ks:=by simpa using hm.symm
  refine ai (ai ?_);have e0:s={ s with heap:=s.heap }:=rfl;rw[e0];refine h s.heap _ (Heap.SameBut.refl a s.heap) ?_;unfold A8;rw[aE hk];exact⟨o,es,ep,t,ho,hx,hd,lR,hp,hn,hb,hf,hw⟩
 |none =>
  rw[tH] at hm;have hk:k∉ks:=by simpa using hm.symm
  dsimp only;have p1:=layNew_perm t es ((intKind prog w).hash k) (.int k tk);have f1:=layNew_fits t es ((intKind prog w).hash k) (.int k tk);obtain⟨w1,xM⟩:=Rq (es:=es) (h:=(intKind prog w).hash k) (x:=.int k tk) hw;generalize layNew t es ((intKind prog w).hash k) (.int k tk)=R1 at p1 f1 w1 xM ⊢;obtain⟨fS,t1,wd,Ku⟩:=R1;dsimp only at p1 f1 w1 xM ⊢;subst xM;rw[Xp] at p1;have Dx:ElemsOf (intKind prog w) fS.toList:=(lR.push jO rfl).perm p1;have Xu:fS.size=es.size+1:=by rw[<- bg,p1.length_eq];simp
  have k1:(fS.toList.map λe=>toI e.2).Perm (A8 ks k):=by
   unfold A8;rw[aB hk];refine(p1.map _).trans ?_;rw[bV];exact hp.append_right _
  have n1:(A8 ks k).Nodup:=by
   unfold A8;rw[aB hk,cL];exact⟨hn,by simp,λx hx y hy=>by simp at hy;subst hy;exact λz=>hk (z▸hx)⟩
  refine aa (gv _ _ _ ?_);have fin:∀ (t2:SetTable),t2.fits fS.size=true->Well (Led w) t2->wpAny (model prog w) A (do
    storeSet a fS t2
    if(!false&&t2.tooFull)=true then do
      (match(relayAll t2 fS (SetTable.grown fS.size)).2.2 with|true=>rule "set.scan.the-table-gave-way"|false=>pure ())
      storeSet a (relayAll t2 fS (SetTable.grown fS.size)).1 (relayAll t2 fS (SetTable.grown fS.size)).2.1
      pure (some true)
     else pure (some true)) (λr s'=>wpAny (model prog w) A (match r with | some added=>pure added | none=>setAddHashedIn a (.int k tk) ((intKind prog w).hash k) 99999) Q E s') E s:=λt2 f2 w2=>by
   have g1:(s.heap.update a (Obj.putSet fS t2)).get? a=some { o with data:=.set fS (ep+1) t2 }:=by
    have:=aS (Obj.putSet fS t2) ho (by rw[Xg fS t2 hd];rfl);rw[Xg fS t2 hd] at this;exact this
   refine aa (wpAny_storeSet_of ho hd ?_ (fits_of_scanBound (by omega)));have Ck:=bW s.heap a (Obj.putSet fS t2);split
   ·have p2:=relayAll_perm t2 fS (SetTable.grown fS.size);have f3:=relayAll_fits t2 fS (SetTable.grown fS.size);have w3:=Si (es:=fS) (n:=SetTable.grown fS.size) w2;generalize relayAll t2 fS (SetTable.grown fS.size)=R2 at p2 f3 w3 ⊢;obtain⟨mh,t3,Yb⟩:=R2;dsimp only at p2 f3 w3 ⊢;have Xt:mh.size=fS.size:=by rw[<- bg,p2.length_eq,bg]
    refine aa (gv _ _ _ ?_);refine aa (wpAny_storeSet_of g1 rfl ?_ (fits_of_scanBound (by omega)));refine ai (ai (h _ _ (Ck.trans (bW _ a _)) ?_));have g2:((s.heap.update a (Obj.putSet fS t2)).update a (Obj.putSet mh t3)).get? a=some { o with data:=.set mh (ep+1+1) t3 }:=by
     have:=aS (Obj.putSet mh t3) g1 (by rw[Xg mh t3 rfl];rfl);rw[Xg mh t3 rfl] at this;exact this
    exact⟨_,mh,_,t3,g2,hx,rfl,Dx.perm p2,(p2.map _).trans k1,n1,by omega,f3,w3⟩
   ·exact ai (ai (h _ _ Ck ⟨_,fS,_,t2,g1,hx,rfl,Dx,k1,n1,by omega,f1 |> λ_=>f2,w2⟩))
  split
  ·refine aa (dE (hashByValue_scannable 8 rfl) ?_);exact fin _ f1 w1
  ·refine aa (ai ?_);exact fin _ f1 w1
theorem RK:entryFor table "set.__iter__"=some Builtin.«frozenset.__iter__» :=
 entryFor_alias (id':="frozenset.__iter__") (by kernel_rfl) rfl (by decide +kernel) (by kernel_rfl)
theorem A3:Slot "set_iterator" "__next__" "set_iterator.__next__" :=
 .of (owner:="set_iterator") (n:="__next__") (by rw[jr,fx];kernel_rfl) (by decide +kernel) (by decide +kernel) (by decide +kernel)
  (by first|exact .inl (by decide +kernel)|exact .inr (by decide +kernel)) (by rw[fe];kernel_rfl)
theorem Fx:entryFor table "set_iterator.__next__"=some Builtin.«set_iterator.__next__»:=entryFor_of_tree (by kernel_rfl)
theorem FJ(a:Value):argsOk "set_iterator.__next__" ⟨[a],[]⟩:=by
 unfold argsOk
 kernel_rfl
theorem Z7:Slot "set_iterator" "__iter__" "set_iterator.__iter__" :=
 .of (owner:="set_iterator") (n:="__iter__") (by rw[jr,fx];kernel_rfl) (by decide +kernel) (by decide +kernel) (by decide +kernel)
  (by first|exact .inl (by decide +kernel)|exact .inr (by decide +kernel)) (by rw[fe];kernel_rfl)
theorem We:entryFor table "set_iterator.__iter__"=some Builtin.«dict_keyiterator.__iter__» :=
 entryFor_alias (id':="dict_keyiterator.__iter__") (by kernel_rfl) rfl (by decide +kernel) (by kernel_rfl)
theorem RC(a:Value):argsOk "set_iterator.__iter__" ⟨[a],[]⟩:=by
 unfold argsOk
 kernel_rfl
inductive Rd|text|plain|drawn
structure Lies(h:Heap)(a:Addr)(es:Array (Int×Value))(ep:Nat)(t:SetTable):Prop where
 at_:∃o,h.get? a=some o/\o.cls=.type "set"/\o.data=.set es ep t
 fit:t.fits es.size=true
theorem Lies.at(x:Lies h a es ep t)(k:∀o,h.get? a=some o->h'.get? a=some o):Lies h' a es ep t :=
 ⟨let ⟨o,e,r⟩:=x.at_;⟨o,k o e,r⟩,x.fit⟩
def B6(h:Heap)(I a:Addr)(f:Value)(i n ep:Nat):Prop:=∃o,h.get? I=some o/\o.cls=.type "set_iterator"/\o.data=.fields #[f,rawInt i,.ref a,rawInt n,rawInt ep]
theorem B6.at(x:B6 h I a f i n ep)(k:∀o,h.get? I=some o->h'.get? I=some o):B6 h' I a f i n ep:=let ⟨o,e,r⟩:=x;⟨o,k o e,r⟩
theorem B6.ty(x:B6 s.heap I a f i n ep):s.TypeIs (.ref I) "set_iterator":=let ⟨o,e,c,_⟩:=x;⟨o,e,c⟩
def uW(w:World)(a:Addr)(es:Array (Int×Value))(ep:Nat)(pl:List Nat):Rd->List Value
 |.text=>(pickOrder (w.params.setOrder a ep) es).toList.map (·.2)
 |.plain=>es.toList.map (·.2)
 |.drawn=>pl.map λj=>(es.getD j (0,.none)).2
def slotAt(t:SetTable):Nat->Nat
 |0=>0
 |i+1=>t.place.getD i 0+1
def L7(h:Heap)(t:SetTable)(b:Addr)(pl:List Nat)(i:Nat)(f:Value):Rd->Prop
 |.text=>∃k:Nat,f=rawInt k
 |.plain=>f=rawInt (slotAt t i)
 |.drawn=>f=.ref b/\∃o e,h.get? b=some o/\o.cls=.type "tuple"/\o.data=.seq (pl.map λj=>rawInt (j:Nat)).toArray e
def rn(w:World)(es:Array (Int×Value))(t:SetTable)(pl:List Nat):Rd->Prop
 |.text=>w.params.followText "set-order"=true
 |.plain=>w.params.followText "set-order"=false/\(t.plain=true\/es.size<=1)/\Well true t
 |.drawn=>w.params.followText "set-order"=false/\pl.Perm (List.range es.size)
theorem vc{Q:Bool->Shared->Prop}(h:Q (w.params.followText "set-order") s):wpAny (model prog w) A setsByText Q E s:=by
 unfold setsByText;exact aa (oO (ai h))
theorem EX(hL:Lies s.heap a es ep t)(ht:w.params.followText "set-order"=true){sl g:Nat}{Q:Option (Value×Nat)->Shared->Prop}(h:Q (((pickOrder (w.params.setOrder a ep) es)[g]?).map λe=>(e.2,sl)) s) :
  wpAny (model prog w) A (setNext a sl g ep) Q E s:=by
 obtain⟨o,ho,_,hd⟩:=hL.at_;unfold setNext;refine aa (cu ho hd hL.fit ?_);refine aa (vc ?_);rw[ht,aE rfl,aB (by simp)];unfold setWalk;refine aa (aa (cu ho hd hL.fit ?_));refine aa (vc ?_);rw[ht,aE rfl];exact aa (oO (ai (ai h)))
theorem Fn(hL:Lies s.heap a es ep t)(ht:w.params.followText "set-order"=false)(hp:t.plain=true\/es.size<=1)(hl:t.led=true){sl g:Nat}{Q:Option (Value×Nat)->Shared->Prop}(h:Q (match es[SetTable.below t.place sl]?,t.place[SetTable.below t.place sl]? with|some (_,x),some j=>some (x,j+1)|_,_=>none) s):wpAny (model prog w) A (setNext a sl g ep) Q E s:=by
 obtain⟨o,ho,_,hd⟩:=hL.at_;unfold setNext;refine aa (cu ho hd hL.fit ?_);refine aa (vc ?_);rw[ht,aB (by decide)];show wpAny _ _ (if(!t.plain&&decide (es.size>1))=true then _ else _) _ _ _;rw[aB (by rcases hp with e|e<;>simp[e])];refine aa (dE (a:=()) ?_ (ai h));show((if(!t.led&&!es.isEmpty)=true then unsupported "set:maker-not-led" else pure ()):Sem Unit)=pure ();rw[hl]
 rfl
theorem VF(hL:Lies s.heap a es ep t)(hj:j<es.size)(h:Q (es.getD j (0,.none)).2 s):wpAny (model prog w) A (setNextDrawn a j ep) Q E s:=by
 obtain⟨o,ho,_,hd⟩:=hL.at_;unfold setNextDrawn;refine aa (cu ho hd hL.fit ?_);dsimp only;rw[aB (by simp)];have e:es[j]?=some (es.getD j (0,.none)):=by simp[Array.getD,hj]
 rw[e];exact ai h
theorem Ey(hL:Lies s.heap a es ep t):t.place.size=es.size:=by
 have:=hL.fit;unfold SetTable.fits at this;simp at this;exact this.1
theorem Fd(hw:jW t.place)(hi:i<=t.place.size):SetTable.below t.place (slotAt t i)=i:=by
 cases i with
 |zero=>exact Vs hw
 |succ i=>exact Vr hw (by omega)
theorem entries{Q:Array (Int×Value)->Shared->Prop}(hL:Lies s.heap a es ep t)(h:Q es s):wpAny (model prog w) A (setEntries a) Q E s:=by
 obtain⟨o,ho,_,hd⟩:=hL.at_;unfold setEntries;exact aa (cu ho hd hL.fit (ai h))
theorem QO{f':Value}(hi:B6 h I a f i n ep)(hx:x=rawInt ((i:Int)+1)):B6 ((h.update I (Obj.mapFields (·.setIfInBounds 0 f'))).update I (Obj.mapFields (·.setIfInBounds 1 x))) I a f' (i+1) n ep:=by
 obtain⟨o,ho,hc,hd⟩:=hi;have h1:=aS (Obj.mapFields (·.setIfInBounds 0 f')) ho (cQ (bu hd _));have d1:(Obj.mapFields (·.setIfInBounds 0 f') o).data=.fields #[f',rawInt i,.ref a,rawInt n,rawInt ep]:=by rw[bu hd];simp
 have h2:=aS (Obj.mapFields (·.setIfInBounds 1 x)) h1 (cQ (bu d1 _));refine⟨_,h2,(mX ..).trans ((mX ..).trans hc),?_⟩;rw[bu d1];subst hx;simp[rawInt]
theorem QN(hi:B6 h I a f i n ep)(hx:x=rawInt ((i:Int)+1)):B6 (h.update I (Obj.mapFields (·.setIfInBounds 1 x))) I a f (i+1) n ep:=by
 obtain⟨o,ho,hc,hd⟩:=hi;have h2:=aS (Obj.mapFields (·.setIfInBounds 1 x)) ho (cQ (bu hd _));refine⟨_,h2,(mX ..).trans hc,?_⟩;rw[bu hd];subst hx;simp[rawInt]
theorem DY{f':Value}{m:Sem α}{Q':α->Shared->Prop}(hi:B6 s.heap I a f i n ep)(hx:x=rawInt ((i:Int)+1))(h:∀h',B6 h' I a f' (i+1) n ep->Heap.SameBut I s.heap h'->wpAny (model prog w) A m Q' E { s with heap:=h' }) :
  wpAny (model prog w) A (do setField (.ref I) 0 f';setField (.ref I) 1 x;m) Q' E s:=by
 obtain⟨o,ho,hc,hd⟩:=id hi;refine aa (dz ho hd (by simp) ?_);have h1:=aS (Obj.mapFields (·.setIfInBounds 0 f')) ho (cQ (bu hd _));have d1:(Obj.mapFields (·.setIfInBounds 0 f') o).data=.fields #[f',rawInt i,.ref a,rawInt n,rawInt ep]:=by rw[bu hd];simp
 refine aa (dz (s:={ s with heap:=_ }) h1 d1 (by simp) ?_);exact h _ (QO hi hx) ((bW ..).trans (bW ..))
theorem Li{m:Sem α}{Q':α->Shared->Prop}(hi:B6 s.heap I a f i n ep)(hx:x=rawInt ((i:Int)+1))(h:∀h',B6 h' I a f (i+1) n ep->Heap.SameBut I s.heap h'->wpAny (model prog w) A m Q' E { s with heap:=h' }) :
  wpAny (model prog w) A (do setField (.ref I) 1 x;m) Q' E s:=by
 obtain⟨o,ho,hc,hd⟩:=id hi;refine aa (dz ho hd (by simp) ?_);exact h _ (QN hi hx) (bW ..)
theorem AJ(next:Nat->Nat)(xs:Array α):(pickOrder next xs).toList.Perm xs.toList:=by
 have go:∀(fuel k:Nat) (left:List α) (out:Array α),fuel=left.length->(pickOrder.go next fuel k left out).toList.Perm (out.toList++left):=by
  intro fuel
  induction fuel with
  |zero =>
   intro k left out e;have:left=[]:=ff e.symm;subst this;simp[pickOrder.go]
  |succ n ih =>
   intro k left out e;have eF:next k % left.length<left.length:=Nat.mod_lt _ (by omega)
   unfold pickOrder.go;rw[az eF];refine(ih _ _ _ (by rw[fI eF];omega)).trans ?_;rw[Xp,cb];refine List.Perm.append_left _ ?_;have:left.Perm (left[next k % left.length]::left.eraseIdx (next k % left.length)):=by
    rw[km]
    conv=>lhs;rw[<- vy (next k % left.length) left,cI eF]
    exact Yt
   exact this.symm
 have:=go xs.size 0 xs.toList #[] (by simp);simpa[pickOrder] using this
theorem next_item{Q:Option Value->Shared->Prop}(hL:Lies s.heap a es ep t)(hr:rn w es t pl r)(hi:B6 s.heap I a f i es.size ep)(hf:L7 s.heap t b pl i f r)(dO:b≠I)(eF:i<es.size)(h:∀v h' f',(uW w a es ep pl r)[i]?=some v->B6 h' I a f' (i+1) es.size ep->L7 h' t b pl (i+1) f' r->Heap.SameBut I s.heap h'->Q (some v) { s with heap:=h' }):wpAny (model prog w) A (pyNext (.ref I)) Q E s:=by
 obtain⟨o,ho,hc,hd⟩:=id hi;unfold pyNext;refine aa (wpAny_attempt (eR (name:=Str.ofString "__next__") hi.ty A3 (bT A3 hi.ty Fx ?_ (FJ _))));unfold Builtin.«set_iterator.__next__»;refine aa (ai ?_);refine aa (wpAny_fieldsOf ho hd ?_);dsimp only[rawInt];refine aa (entries hL ?_);rw[aB (by simp)];rw[cO,cO];cases r with
 |text =>
  obtain⟨k,rfl⟩:=hf;dsimp only[rawInt];refine aa (EX hL hr ?_);have hl:i<(pickOrder (w.params.setOrder a ep) es).size:=by
   have:=(AJ (w.params.setOrder a ep) es).length_eq;simp at this;omega
  rw[nM hl];refine DY hi rfl λh' h1 h2=>ai ⟨_,rfl,ai (h _ _ _ ?_ h1 ⟨_,rfl⟩ h2)⟩;show((pickOrder (w.params.setOrder a ep) es).toList.map (·.2))[i]?=_;simp[hl]
 |plain =>
  obtain⟨r1,r2,r3⟩:=hr;have hs:=Ey hL;obtain rfl:=hf;dsimp only[rawInt];rw[cO];refine aa (Fn hL r1 r2 r3.led ?_);rw[Fd r3.vD (by omega),nM eF,getD_mem (by omega)];refine DY hi rfl λh' h1 h2=>ai ⟨_,rfl,ai (h _ _ _ ?_ h1 rfl h2)⟩;show(es.toList.map (·.2))[i]?=_;simp[eF]
 |drawn =>
  obtain⟨r1,r2⟩:=hr;obtain⟨rfl,ob,e,hb,Dg,vS⟩:=hf;have gM:i<pl.length:=by rw[r2.length_eq];simpa using eF
  dsimp only;refine aa (gz hb vS ?_);have hj:pl[i]<es.size:=by
   have:=r2.mem_iff.mp (dN gM);simpa using this
  have e1:(pl.map λj=>rawInt (j:Nat)).toArray[i]?=some (rawInt (pl[i]:Nat)):=by simp[gM]
  dsimp only;rw[e1];dsimp only[rawInt];rw[cO];refine aa (VF hL hj ?_);refine Li hi rfl λh' h1 h2=>ai ⟨_,rfl,ai (h _ _ _ ?_ h1 ⟨rfl,ob,e,by rw[h2.2 b dO];exact hb,Dg,vS⟩ h2)⟩;show(pl.map λj=>(es.getD j (0,.none)).2)[i]?=_;simp[gM]
theorem AK{Q:Option Value->Shared->Prop}{h0:Heap}(hh:A.handled=none)(Kn:Heap.ExtBut I h0 s.heap)(h:∀h',Heap.ExtBut I h0 h'->Q none { s with heap:=h' }) :
  wpAny (model prog w) A.in1 (newExc (.type "StopIteration") [] >>= λe=>(raiseNew e:Sem Fin)) (λfin s'=>∃v,fin=Fin.done (Flow.ret v)/\wpAny (model prog w) A (pure (some v)) Q E s')
   (λe s'=>wpAny (model prog w) A (do
     let x <- isInstance e (Value.type "StopIteration")
     if x=true then pure none else throw e) Q E s') s:=by
 refine aa ?_;simp only[newExc,newTuple];refine aa (bq ?_ (by size_fits));refine aa (m:=firstArgMember _ _) (dE (a:=Value.none) (by first|rfl|(simp only[firstArgMember];rfl)) ?_);refine bq ?_ (by size_fits);simp only[raiseNew];refine aa (wpAny_handled ?_);rw[show A.in1.handled=none from hh];refine aa (ai (wpAny_throw ?_));refine aa (fA (T:="StopIteration") (b:=true) ⟨_,aw _ rfl,rfl⟩ isSubtype_stop ?_);exact ai (h _ ((Kn.push _).push _))
theorem next_end{Q:Option Value->Shared->Prop}(hh:A.handled=none)(hL:Lies s.heap a es ep t)(hr:rn w es t pl r)(hi:B6 s.heap I a f es.size es.size ep)(hf:L7 s.heap t b pl es.size f r)(dO:b≠I)(h:∀h',Heap.ExtBut I s.heap h'->Q none { s with heap:=h' }):wpAny (model prog w) A (pyNext (.ref I)) Q E s:=by
 obtain⟨o,ho,hc,hd⟩:=id hi;unfold pyNext;refine aa (wpAny_attempt (eR (name:=Str.ofString "__next__") hi.ty A3 (bT A3 hi.ty Fx ?_ (FJ _))));unfold Builtin.«set_iterator.__next__»;refine aa (ai ?_);refine aa (wpAny_fieldsOf ho hd ?_);dsimp only[rawInt];refine aa (entries hL ?_);rw[aB (by simp)];rw[cO,cO];cases r with
 |text =>
  obtain⟨k,rfl⟩:=hf;dsimp only[rawInt];refine aa (EX hL hr ?_);have hl:(pickOrder (w.params.setOrder a ep) es).size<=es.size:=by
   have:=(AJ (w.params.setOrder a ep) es).length_eq;simp at this;omega
  rw[rZ hl];refine aa (dz ho hd (by simp) ?_);exact AK (s:={ s with heap:=_ }) hh (bW ..).extBut h
 |plain =>
  obtain⟨r1,r2,r3⟩:=hr;have hs:=Ey hL;obtain rfl:=hf;dsimp only[rawInt];rw[cO];refine aa (Fn hL r1 r2 r3.led ?_);rw[Fd r3.vD (by omega),rZ (ak _)];refine aa (dz ho hd (by simp) ?_);exact AK (s:={ s with heap:=_ }) hh (bW ..).extBut h
 |drawn =>
  obtain⟨r1,r2⟩:=hr;obtain⟨rfl,ob,e,hb,Dg,vS⟩:=hf;have gM:pl.length=es.size:=by rw[r2.length_eq];simp
  dsimp only;refine aa (gz hb vS ?_);have e1:(pl.map λj=>rawInt (j:Nat)).toArray[es.size]?=none:=by simp[gM]
  dsimp only;rw[e1];dsimp only[rawInt];refine aa (dz ho hd (by simp) ?_);have h1:=aS (Obj.mapFields (·.setIfInBounds 0 (Value.int 0 0))) ho (cQ (bu hd _));refine aa (dz (s:={ s with heap:=_ }) h1 (bu hd _) (by simp) ?_);exact AK (s:={ s with heap:=_ }) hh ((bW ..).trans (bW ..)).extBut h
theorem UT{l:List α}(eF:k<l.length):(l[k]::l.eraseIdx k).Perm l:=by
 rw[km]
 conv=>rhs;rw[<- vy k l,cI eF]
 exact Yt.symm
theorem Fh{α:Type}:∀(n:Nat) (xs:List α) (s:Shared) (Q:List α->Shared->Prop),n=xs.length->(∀ys d,ys.Perm xs->Q ys { s with drawn:=d })->wpAny (model prog w) A (drawOrder n xs) Q E s
 |0,xs,s,Q,e,h=>by
  have:xs=[]:=ff e.symm;subst this;exact ai (h [] s.drawn (List.Perm.refl _))
 |n+1,[],s,Q,e,h=>by simp at e
 |n+1,x::xs,s,Q,e,h=>by
  unfold drawOrder;refine aa ?_;intro Γ p XI;refine⟨by simp,?_⟩;generalize (model prog w).w.draws .order (s.drawn.get .order)=k;have eF:k % (x::xs).length<(x::xs).length:=Nat.mod_lt _ (by simp);have go:wpAny (model prog w) A (match (x :: xs)[k % (x :: xs).length]? with
   |some y=>do
    let ys <- drawOrder n ((x::xs).eraseIdx (k % (x::xs).length))
    pure (y::ys)
   | none=>unsupported "internal:drawOrder") Q E { s with drawn:=s.drawn.bump .order }:=by
   rw[az eF];refine aa (Fh n _ _ _ (by rw[fI eF];simp at e ⊢;omega) λys d hp=>ai ?_);exact h _ d ((List.Perm.cons _ hp).trans (UT eF))
  exact go
theorem Er(hr:rn w es t pl r):(uW w a es ep pl r).Perm (es.toList.map (·.2)):=by
 cases r with
 |text=>exact(AJ _ es).map _
 |plain=>exact List.Perm.refl _
 |drawn =>
  refine(hr.2.map _).trans ?_;have:(List.range es.size).map (λj=>(es.getD j (0,.none)).2)=es.toList.map (·.2):=by
   apply Yu
   ·simp
   ·intro i h1 h2;simp at h1;simp[Array.getD,h1]
  rw[this]
theorem Lies.ty(hL:Lies s.heap a es ep t):s.TypeIs (.ref a) "set":=let ⟨o,e,c,_⟩:=hL.at_;⟨o,e,c⟩
theorem TF(hL:Lies s.heap a es ep t)(hw:Well (Led w) t)(hz:es.size<=10000)(h:∀r pl b f I h' d',rn w es t pl r->B6 h' I a f 0 es.size ep->L7 h' t b pl 0 f r->b≠I->(b=a\/s.heap.objs.size<=b)->(∀c o,s.heap.get? c=some o->h'.get? c=some o)->s.heap.objs.size<=I->s.heap.objs.size<=h'.objs.size->Q (.ref I) { s with heap:=h',drawn:=d' }) :
  wpAny (model prog w) A (pyIter (.ref a)) Q E s:=by
 obtain⟨o,ho,yz,hd⟩:=hL.at_;refine wpAny_pyIter_slot hL.ty F.slot_set_iter (bT F.slot_set_iter hL.ty RK ?_ (F.args_set_iter_1 _));unfold Builtin.«frozenset.__iter__»;refine aa (ai ?_);unfold Builtin.Frozenset.sizeOf;refine aa (aa (entries hL (ai ?_)));unfold setDrawn;refine aa (aa (cu ho hd hL.fit ?_));refine aa (vc (ai ?_));have eF:=ao ho;have fin:∀(r:Rd) (f:Value) (b:Addr) (pl:List Nat) (h1:Heap) (d1:Drawn),rn w es t pl r->(∀h',(∀c o,h1.get? c=some o->h'.get? c=some o)->L7 h' t b pl 0 f r)->b<h1.objs.size->(b=a\/s.heap.objs.size<=b)->(∀c o,s.heap.get? c=some o->h1.get? c=some o)->s.heap.objs.size<=h1.objs.size ->
   wpAny (model prog w) A.in1 (do
    let e <- setEpoch a
    ret (<- newFields "set_iterator" [f,rawInt 0,.ref a,rawInt es.size,rawInt e])) (λfin s'=>∃ v,fin=Fin.done (Flow.ret v)/\∃ T' r,s'.TypeIs v T'/\typeLookup (.type T') "__next__"=pure (some r)/\Q v s') E { s with heap:=h1,drawn:=d1 }:=λr f b pl h1 d1 hr hf hb JV he hsz=>by
  have mQ:Lies h1 a es ep t:=hL.at λo e=>he a o e;obtain⟨o1,Jz,_,JO⟩:=mQ.at_;unfold setEpoch;refine aa (aa (cu (s:={ s with heap:=h1,drawn:=d1 }) Jz JO mQ.fit (ai ?_)));refine aa (bq (ai ⟨_,rfl,"set_iterator",_,⟨_,aw _ rfl,rfl⟩,A3.lookup,?_⟩));refine h r pl b f h1.objs.size _ d1 hr ⟨_,aw _ rfl,rfl,rfl⟩ (hf _ λc o e=>ag _ e) (aF hb) JV (λc o e=>ag _ (he c o e)) hsz (by rw[gw];exact Nat.le_succ_of_le hsz)
 have e0:s={ s with heap:=s.heap,drawn:=s.drawn }:=rfl;cases hT:w.params.followText "set-order" with
 |true =>
  dsimp only[Bool.not_true,Bool.false_and];rw[aB (by simp)];refine aa (ai ?_);rw[e0];exact fin .text (rawInt 0) a [] s.heap s.drawn hT (λh' _=>⟨0,rfl⟩) eF (.inl rfl) (λc o e=>e) (ak _)
 |false =>
  show wpAny _ _ (if(!false&&(!t.plain&&decide (es.size>1)))=true then _ else _ ) _ _ _;by_cases hp:t.plain=true\/es.size<=1
  ·rw[aB (by rcases hp with e|e<;>simp[e])];refine aa (ai ?_);rw[e0];refine fin .plain (rawInt 0) a [] s.heap s.drawn ⟨hT,hp,?_⟩ (λh' _=>rfl) eF (.inl rfl) (λc o e=>e) (ak _);have:Led w=true:=by unfold Led;rw[hT];rfl
   rw[<- this];exact hw
  ·have h1:t.plain=false:=by cases hq:t.plain with|true=>exact absurd (.inl hq) hp|false=>rfl
   have h2:¬es.size<=1:=λz=>hp (.inr z);rw[aE (by simp[h1];omega)];refine aa (Fh _ _ _ _ (Xl).symm λys d hy=>?_);have hl:ys.length=es.size:=by rw[hy.length_eq];simp
   refine aa (bq ?_ (by show(List.map _ ys).toArray.size<=sizeLine;rw[aC,ah,hl];exact aM hz (by decide)));refine fin .drawn (.ref s.heap.objs.size) s.heap.objs.size ys _ d ⟨hT,hy⟩ (λh' hk=>⟨rfl,_,_,hk _ _ (aw _ rfl),rfl,rfl⟩) (by rw[gw];exact cW _) (.inr (ak _)) (λc o e=>ag _ e) (by rw[gw];exact fU _)
theorem Vd(hh:A.handled=none)(hr:rn w es t pl r)(dO:b≠I)(JC:a≠I) :
  Walks prog w A I [I,a,b] [I] es.size (λi v=>(uW w a es ep pl r)[i]?=some v) (λi h=>Lies h a es ep t/\∃f,B6 h I a f i es.size ep/\L7 h t b pl i f r) where
 sub:=λc hc=>by simp at hc;simp[hc]
 frame:=λi h h' st hk=>by
  obtain⟨hL,f,hi,hf⟩:=st;refine⟨hL.at λo e=>hk a (by simp) o e,f,hi.at λo e=>hk I (by simp) o e,?_⟩;cases r with
  |text=>exact hf
  |plain=>exact hf
  |drawn =>
   obtain⟨e1,o,e,h1,h2⟩:=hf;exact⟨e1,o,e,hk b (by simp) o h1,h2⟩
 item:=λi s Q E hi st hQ=>by
  obtain⟨hL,f,hI,hf⟩:=st;exact next_item hL hr hI hf dO hi λv h' f' hv h1 h2 h3=>hQ v h' s.toks hv ⟨hL.at λo e=>by rw[h3.2 a JC];exact e,f',h1,h2⟩ λc o hc e=>h3.extBut c o (λz=>hc (by simp[z])) e
 done:=λs Q E st hQ=>by
  obtain⟨hL,f,hI,hf⟩:=st;exact next_end hh hL hr hI hf dO λh' he=>hQ h' s.toks λc o hc e=>he c o (λz=>hc (by simp[z])) e
 self:=λi s Q E st hQ=>by
  obtain⟨hL,f,hI,hf⟩:=st;refine wpAny_pyIter_slot hI.ty Z7 (bT Z7 hI.ty We ?_ (RC _));exact aa (ai (ai ⟨_,rfl,"set_iterator",_,hI.ty,A3.lookup,hQ⟩))
theorem RQ:typeLookup (.type "set") "__len__"=pure (some (.builtin "set.__len__")):=by rw[jr,fx];kernel_rfl
theorem Ry(hh:A.handled=none)(hL:Lies s.heap a es ep t)(hw:Well (Led w) t)(hz:es.size<=10000){Q:List Value->Shared->Prop}(h:∀(vs:List Value) h' d' iV,vs.Perm (es.toList.map (·.2))->(∀c o,s.heap.get? c=some o->h'.get? c=some o)->s.heap.objs.size<=h'.objs.size->s.toks<=iV->Q vs { s with heap:=h',drawn:=d',toks:=iV }) :
  wpAny (model prog w) A (collect (.ref a)) Q E s:=by
 have eF:a<s.heap.objs.size:=let ⟨o,ho,_⟩:=hL.at_;ao ho
 unfold collect;refine aa (xq (bA F.entry_proto_collect ?_));rw[bc F.plain_proto_collect _];show wpAny _ A.in1 (newList [] >>= λl=>again (.builtin "list.__iadd__" ⟨[l,.ref a],[]⟩)) _ _ s;refine aa (bq ?_);refine ai ⟨cq hX _,bA F.entry_list_iadd ?_⟩;rw[bc hX _];have mQ:Lies (s.heap.push { cls:=.type "list",data:=.seq ([]:List Value).toArray }) a es ep t:=hL.at λo e=>ag _ e;have yW:(s.heap.push { cls:=.type "list",data:=.seq ([]:List Value).toArray }).get? s.heap.objs.size=some { cls:=.type "list",data:=.seq ([]:List Value).toArray }:=aw _ rfl;have dO:s.heap.objs.size≠a:=bU eF;have h1:Builtin.List.listSameRef (.ref s.heap.objs.size) (.ref a)=false:=by simp[Builtin.List.listSameRef,dO]
 show wpAny _ A.in1 (Builtin.List.listExtendWith (.ref s.heap.objs.size) (.ref a) (.ref s.heap.objs.size)) _ _ _;unfold Builtin.List.listExtendWith;refine aa (cU (Lies.ty (s:={ s with heap:=_ }) mQ) ?_);rw[aB (by rw[h1];decide)];refine aa (TF (s:={ s with heap:=_ }) mQ hw hz λr pl b f I h2 d2 hr hI hf hb JT he za Ya=>?_);have nE:Lies h2 a es ep t:=mQ.at λo e=>he a o e;have ot:=he _ _ yW;refine aa (bw ?_);unfold Builtin.List.listLengthHint;refine aa (wpAny_specialOf (Lies.ty (s:={ s with heap:=h2,drawn:=d2 }) nE) RQ ?_);generalize tS:("set.__len__":String)=yi;dsimp only;rw[show splitId yi=some ("set","__len__") from by subst tS;decide +kernel];dsimp only;refine aa (fA (b:=true) (Lies.ty (s:={ s with heap:=h2,drawn:=d2 }) nE) (by rw[fe];kernel_rfl) ?_);rw[aB (by decide)];subst tS;rw[aE (by decide +kernel)];refine aa (cU (Lies.ty (s:={ s with heap:=h2,drawn:=d2 }) nE) ?_);refine ai ?_;rw[aE (by decide +kernel)];refine aa (eO ?_);refine aa ?_;show wpAny _ A.in1 (updateSeq s.heap.objs.size (·.push .none) >>= λ_=>updateSeq s.heap.objs.size (·.pop)) _ _ _;refine aa (dG (s:={ s with heap:=h2,drawn:=d2 }) ot rfl ?_);have ua:=aS (Obj.mapSeq (·.push Value.none)) ot rfl;refine dG (s:={ s with heap:=_,drawn:=d2 }) ua rfl ?_;have yV:=aS (Obj.mapSeq (·.pop)) ua rfl;have sL:∀c o,c≠s.heap.objs.size->h2.get? c=some o->((h2.update s.heap.objs.size (Obj.mapSeq (·.push Value.none))).update s.heap.objs.size (Obj.mapSeq (·.pop))).get? c=some o :=
  λc o hc e=>(aT _ _ (bB hc)).trans ((aT _ _ (bB hc)).trans e)
 have jN:s.heap.objs.size<(s.heap.push { cls:=.type "list",data:=.seq ([]:List Value).toArray }).objs.size:=by rw[gw];exact cW _
 have Kb:I≠s.heap.objs.size:=bU (ay jN za);have XY:b≠s.heap.objs.size:=by
  rcases JT with z|z
  ·rw[z];exact bB dO
  ·exact bU (ay jN z)
 have W:=(Vd (prog:=prog) (w:=w) (A:=A.in1) (a:=a) (b:=b) (I:=I) (es:=es) (ep:=ep) (t:=t) (pl:=pl) hh hr hb (aF (ay (cA eF jN) za))).toS;have st:Lies h2 a es ep t/\∃f,B6 h2 I a f 0 es.size ep/\L7 h2 t b pl 0 f r:=⟨nE,f,hI,hf⟩
 have lA:=W.frame 0 ({ s with heap:=h2,drawn:=d2 }:Shared) _ s.toks st (ak _) λc hc o e=>sL c o (λz=>by simp at hc;rcases hc with y|y|y<;>simp_all) e;refine ai ⟨cq F.plain_extend_loop _,codeAny_extend_loopS W (aM hz (by decide)) _ (λz=>by simp at z;rcases z with y|y|y<;>simp_all) _ es.size 0 _ _ _ rfl (bG _) lA yV (ItemsOf.nil _) λs' qq c' hm ju iT=>?_⟩;show wpAny _ A (load s.heap.objs.size >>= _) _ _ s';refine aa (wpAny_load ju ?_);refine ai ?_;have eS:s'={ s with heap:=s'.heap,drawn:=d2,toks:=s'.toks }:=by
  obtain⟨iY,g',d',iV,pJ⟩:=s';have m1:g'=s.gens:=hm.gens;have m2:d'=d2:=hm.drawn;have m3:pJ=s.os:=hm.os;subst m1;subst m2;subst m3
  rfl
 have eo:qq.toList=uW w a es ep pl r:=by
  have l1:(uW w a es ep pl r).length=es.size:=by rw[(Er hr).length_eq];simp
  apply Yu
  ·rw[l1];simpa using iT.1
  ·intro i h1 h2;have:=iT.2 i qq.toList[i] (by simp at h1 ⊢);dsimp only at this;rw[az h2] at this;exact(aH this).symm
 rw[eo,eS];refine h _ _ d2 s'.toks (Er hr) (λc o e=>?_) (cK (ao ju)) hm.toks;have hc:c<s.heap.objs.size:=ao e;have n1:c≠s.heap.objs.size:=aF hc;have n2:c≠I:=aF (ay (cA hc jN) za);exact hm.heap c o (by simp[n1,n2]) (sL c o n1 (he c o (ag _ e)))
theorem VS(hh:A.handled=none)(hS:p9 prog w s.heap a ks)(zh:ks.length<64)(h:∀(S:Addr) (vs:List Value) (ns:List Int) e h' d' iV,IntsAre vs ns->ns.Perm ks->ns.Pairwise (·<=·)->h'.get? S=some (seqObj "list" vs.toArray e)->s.heap.objs.size<=S->(∀c o,s.heap.get? c=some o->h'.get? c=some o)->s.toks<=iV->Q (.ref S) { s with heap:=h',drawn:=d',toks:=iV }) :
  wpAny (model prog w) A (call (.builtin "sorted") [.ref a]) Q E s:=by
 obtain⟨o,es,ep,t,ho,hx,hd,lR,hp,hn,hb,hf,hw⟩:=hS;have hL:Lies s.heap a es ep t:=⟨⟨o,ho,hx.1,hd⟩,hf⟩
 have hz:es.size=ks.length:=by rw[<- hp.length_eq];simp
 refine gX kind_sorted plain_sorted entry_sorted (args_sorted1 _) ?_;unfold Builtin.«sorted»;refine aa (m:=checkCount "sorted" 1 1 _) (ai ?_);refine aa (Ry (A:=A.in1) hh hL hw (by omega) λvs h1 d1 pe hv he jN qO=>?_);have hI:IntsAre vs (vs.map toI):=by
  have all:∀v∈vs,∃tk,v=.int (toI v) tk:=λv tE=>by
   obtain⟨e,pT,rfl⟩:=aN.mp (hv.mem_iff.mp tE);obtain⟨tk,h1,_⟩:=wQ lR pT;exact⟨tk,h1⟩
  clear hv
  induction vs with
  |nil=>exact .nil
  |cons v r ih =>
   obtain⟨tk,e⟩:=all v (by simp);have:=IntsAre.cons (toI v) tk (ih λu hu=>all u (by simp[hu]));rw[<- e] at this;exact this
 have hk:(vs.map toI).Perm ks:=by
  refine(hv.map toI).trans ?_;rw[dM];exact hp
 have hl:vs.length<64:=by rw[hv.length_eq];simp;omega
 refine aa (Iq (s:={ s with heap:=h1,drawn:=d1,toks:=pe }) ?_);have kH:(h1.push (seqObj "list" vs.toArray 0)).get? h1.objs.size=some (seqObj "list" vs.toArray 0):=aw _ rfl;refine aa (bw (bT (s:={ s with heap:=h1.push (seqObj "list" vs.toArray 0),drawn:=d1,toks:=pe }) slot_list_sort ⟨_,kH,rfl⟩ entry_list_sort (list_sort_tree kH hI hl λout ji a1 a2 a3=>⟨_,rfl,?_⟩) (args_list_sort _)));obtain⟨e,pT⟩:=sortedHeap_at (vs:=vs) (out:=out) kH;refine ai ⟨_,rfl,h h1.objs.size out.toList ji e _ d1 pe a1 (a2.trans hk) a3 pT jN (λc o' e'=>?_) qO⟩;have hc:=ao (he c o' e');rw[sortedHeap_old (aF hc) (by rw[gw];exact kc hc)];exact ag _ (he c o' e')
def i9(ks xs:List Int):List Int:=xs.foldl A8 ks
theorem K3:∀(xs ks:List Int),(i9 ks xs).length<=ks.length+xs.length
 |[],ks=>by simp[i9]
 |x::xs,ks=>by
  have:=K3 xs (A8 ks x);have h2:=WZ ks x;show(i9 (A8 ks x) xs).length<=_;simp only[List.length_cons];omega
theorem Fl:∀(xs ks:List Int) (k:Int),k∈i9 ks xs↔k∈ks\/k∈xs
 |[],ks,k=>by simp[i9]
 |x::xs,ks,k=>by
  show k∈i9 (A8 ks x) xs↔_;rw[Fl xs];unfold A8;split
  ·rename_i h;constructor
   ·rintro(a|a)
    ·exact .inl a
    ·exact .inr (by simp[a])
   ·rintro(a|a)
    ·exact .inl a
    ·rcases aA.mp a with rfl|b
     ·exact .inl h
     ·exact .inr b
  ·simp[or_assoc]
theorem Vv:Well (Led w) (SetTable.fresh 0 0 (Led w)):=⟨by simp[jW,SetTable.fresh],rfl,rfl⟩
theorem EM(e:h.get? a=some { cls:=.type "set",dict:=none,data:=.set #[] 0 (.fresh 0 0 (Led w)) }):p9 prog w h a [] :=
 ⟨_,#[],0,_,e,⟨rfl,rfl,rfl⟩,rfl,(by intro e he;simp at he),by simp,by simp,by decide,by rfl,Vv⟩
theorem TV{R:Result->Shared->Prop}{fp wr:List Addr}{G:Array GenState->Array GenState->Prop}{P:Nat->Value->Prop}{St:Nat->Shared->Prop}(W:WalksS prog w A.in1 I fp wr G n P St)(kL:a∉fp)(hn:n=ns.length)(hv:∀i v,P i v->∃tk,v=.int (ns.getD i 0) tk)(hb:n+1<scanBound):∀(k i:Nat) (s:Shared),i+k=n->St i s->p9 prog w s.heap a (i9 [] (ns.take i)) ->
   (∀s',Moved (a::wr) G s s'->p9 prog w s'.heap a (i9 [] ns)->R (.ok (.ret .none)) s')->codeAny (model prog w) A (.builtin "set.update.loop" ⟨[.ref a,.ref I],[]⟩) R s:=by
 have hw:a∉wr:=λh=>kL (W.sub _ h);have sy:∀b∈wr,b∈a::wr:=λb hb=>by simp[hb]
 intro k
 induction k with
 |zero =>
  intro i s e st hS hR;obtain rfl:i=n:=by omega
  refine bA jd ?_;rw[bc dQ _];unfold Builtin.«set.update.loop»;refine aa (W.done s _ _ st λs' m=>ai (hR s' (m.mono sy) (p9.at ?_ λo e=>m.heap a o hw e)));rw[hn,cX] at hS;exact hS
 |succ k ih =>
  intro i s e st hS hR;have eF:i<ns.length:=by omega
  refine bA jd ?_;rw[bc dQ _];unfold Builtin.«set.update.loop»;refine aa (W.item i s _ _ (by omega) st λv s' hP mB m=>?_);obtain⟨tk,rfl⟩:=hv i v hP;have ju:=p9.at hS λo e=>m.heap a o hw e;have hl:=K3 (ns.take i) [];rw[bN] at hl;simp only[List.length_nil] at hl;refine aa (bw ?_);unfold setAdd;refine bw (aa ((intKind prog w).pyHash (k:=ns.getD i 0) (gE _ _ _ _) ?_));refine Hf (s:={ s' with toks:=s'.toks+1 }) ju (by omega) λh' bb sb ot=>?_;have e2:A8 (i9 [] (ns.take i)) (ns.getD i 0)=i9 [] (ns.take (i+1)):=by
   unfold i9;rw[dJ,Xm,az eF];simp[List.getD,eF]
  rw[e2] at ot;refine ai ⟨cq dQ _,ih (i+1) _ (by omega) (W.frame _ s' _ _ mB (fU _) λb hb o e=>by rw[sb.2 b λz=>kL (z▸hb)];exact e) ot λs2 m2 h2=>?_⟩;exact hR s2 (Moved.trans W.gtrans ((m.mono sy).then_heap (fU _) λb o hb e=>by rw[sb.2 b λz=>hb (by rw[z];simp)];exact e) m2) h2
noncomputable abbrev u5(w:World):Obj:={ cls:=.type "set",dict:=none,data:=.set #[] 0 (.fresh 0 0 (Led w)) }
theorem GL(h:Q (.ref s.heap.objs.size) { s with heap:=s.heap.push (u5 w) }):wpAny (model prog w) A (newSet (.type "set")) Q E s:=by
 unfold newSet;refine aa (vc ?_);exact bq h (bG _)
theorem SA(x:Value)(h:Q (.ref s.heap.objs.size) { s with heap:=s.heap.push (u5 w) }):codeAny (model prog w) A (.call (.builtin "set.__new__") ⟨[.type "set",x],[]⟩) (wants Q E) s:=by
 refine rO (?_:wpAny _ A.in1 (do
  checkBuiltinCall "set.__new__" ⟨[.type "set",x],[]⟩
  again (.builtin "set.__new__" ⟨[.type "set",x],[]⟩)) _ _ s)
 refine aa (dE (F.newCall_set_1 x) (ai ⟨cq F.plain_set_new _,?_⟩));refine bA F.entry_set_new ?_;rw[bc F.plain_set_new _];unfold Builtin.«set.__new__»;have sub:=sub_set_self;refine aa (m:=Builtin.Frozenset.newClass "set" _) ?_;unfold Builtin.Frozenset.newClass;dsimp only;refine aa (dE (a:=true) (by first|rfl|(simp[isType];rfl)) ?_);rw[aB (by decide)];refine aa (dE sub ?_);rw[aB (by decide)];refine ai ?_;exact aa (GL (ai h))
theorem W9{vs:List Value}(h:IntsAre vs ns):vs.length=ns.length:=by
 induction h with
 |nil=>rfl
 |cons n t r ih=>simp[ih]
def uJ(h:Heap)(l:Addr)(items:Array Value):Prop:=h.IsList l items\/h.IsTuple l items
theorem uJ.lt(x:uJ h l items):l<h.objs.size:=by
 rcases x with⟨_,e,_⟩|⟨_,e,_⟩<;>exact ao e
theorem SH{Q:Fin->Shared->Prop}(hh:A.handled=none)(hS:s.heap.get? a=some (u5 w))(hl:uJ s.heap l items)(hi:IntsAre items.toList ns)(hb:items.size+1<scanBound)(dO:a≠l)(h:∀h' tk,p9 prog w h' a (i9 [] ns)->(∀b o,b≠a->s.heap.get? b=some o->h'.get? b=some o)->s.toks<=tk->wpAny (model prog w) A (ret .none) Q E { s with heap:=h',toks:=tk }) :
  wpAny (model prog w) A (Builtin.«set.__init__» ⟨[.ref a,.ref l],[]⟩) Q E s:=by
 have hT:s.TypeIs (.ref a) "set":=⟨_,hS,rfl⟩
 have XZ:Lies s.heap a #[] 0 (SetTable.fresh 0 0 (Led w)):=⟨⟨_,hS,rfl,rfl⟩,rfl⟩
 have eF:=hl.lt;have CS:l≠s.heap.objs.size:=aF eF;unfold Builtin.«set.__init__» noKeywords;dsimp only;refine aa (dE (a:=()) rfl ?_);have nm:∀{Q':String->Shared->Prop},(∀x,Q' x s)->wpAny (model prog w) A (typeNameOfCut 200 (.ref a)) Q' E s:=λ{Q'} q=>by
  unfold typeNameOfCut shownTypeOf;refine aa (aa (cU hT ?_));rw[aB (by decide)];refine ai (dE (a:="set") ?_ (q _));unfold typeNameCut;dsimp only
  first|(unfold typeName;rw[find?_eq_fast];kernel_rfl)|kernel_rfl
 refine aa (nm λx=>?_);refine aa (m:=checkCount _ 0 1 _) (ai ?_);refine aa (m:=Builtin.Frozenset.addrOf _) (ai ?_);unfold setUsed;refine aa (aa (cu hS rfl rfl (ai ?_)));rw[aB (by show ¬((SetTable.fill (SetTable.fresh 0 0 (Led w)) != 0)=true);unfold SetTable.fill;simp[SetTable.fresh])];unfold Builtin.Frozenset.updateFrom Builtin.Frozenset.isAnySet;obtain⟨c,qU,yU,it,hit,CV,St,W,dg⟩:∃c:String,(c="list"\/c="tuple")/\s.TypeIs (.ref l) c/\∃it:Obj,(∀Q':Value->Shared->Prop,Q' (.ref s.heap.objs.size) { s with heap:=s.heap.push it }->wpAny (model prog w) A (pyIter (.ref l)) Q' E s) /\
   (∀b o,s.heap.get? b=some o->(s.heap.push it).get? b=some o)/\∃St:Nat->Shared->Prop,WalksS prog w A.in1 s.heap.objs.size [s.heap.objs.size,l] [s.heap.objs.size] (λa b=>b=a) items.size (λi v=>items[i]?=some v) St/\St 0 { s with heap:=s.heap.push it }:=by
  rcases hl with hl|hl
  ·obtain⟨o,ho,hc,_⟩:=id hl;exact⟨"list",.inl rfl,⟨o,ho,hc⟩,_,λQ' q=>fc hl q,λb o e=>ag _ e,_,(xr (A:=A.in1) hh _ l CS items).toS,⟨⟨_,aw _ rfl,rfl,rfl⟩,hl.push _⟩⟩
  ·obtain⟨o,ho,hc,_⟩:=id hl;exact⟨"tuple",.inr rfl,⟨o,ho,hc⟩,_,λQ' q=>kZ hl q,λb o e=>ag _ e,_,(Walks.tuple (A:=A.in1) hh _ l CS items).toS,⟨⟨_,aw _ rfl,rfl,rfl⟩,hl.push _⟩⟩
 refine aa (aa (aa (fA (b:=false) yU (by rcases qU with rfl|rfl<;>(rw[fe];kernel_rfl)) ?_)));show wpAny (model prog w) A (isInstance (Value.ref l) (Value.type "frozenset")) _ _ _;refine fA (b:=false) yU (by rcases qU with rfl|rfl<;>(rw[fe];kernel_rfl)) ?_;rw[aB (by decide)];refine aa (cU yU ?_);rw[aB (by rcases qU with rfl|rfl<;>decide)];refine aa (hit _ ?_);refine aa (xq ?_);have JX:a<s.heap.objs.size:=ao hS;have hsz:items.size=ns.length:=by rw[<- bg];exact W9 hi
 refine TV (a:=a) (ns:=ns) W (by simp only[List.mem_cons,List.not_mem_nil,or_false,not_or];exact⟨aF JX,dO⟩) hsz (λi v hv=>IntsAre.int_at hi i v (by rw[ir];exact hv)) hb items.size 0 _ (by omega)
  dg (EM (CV _ _ hS)) λs' m ju=>?_
 have eS:s'={ s with heap:=s'.heap,toks:=s'.toks }:=by
  obtain⟨iY,g',d',iV,pJ⟩:=s';have m1:g'=s.gens:=m.gens;have m2:d'=s.drawn:=m.drawn;have m3:pJ=s.os:=m.os;subst m1;subst m2;subst m3
  rfl
 rw[eS];refine ai (h _ _ ju (λb o hb e=>?_) m.toks);exact m.heap b o (by simp only[List.mem_cons,List.not_mem_nil,or_false,not_or];exact⟨hb,aF (ao e)⟩) (CV _ _ e)
theorem Ed(hh:A.handled=none)(hl:uJ s.heap l items)(hi:IntsAre items.toList ns)(hb:items.size+1<scanBound)(h:∀h' tk,p9 prog w h' s.heap.objs.size (i9 [] ns)->(∀b o,s.heap.get? b=some o->h'.get? b=some o)->s.toks<=tk->Q (.ref s.heap.objs.size) { s with heap:=h',toks:=tk }) :
  wpAny (model prog w) A (call (.type "set") [.ref l]) Q E s:=by
 have cs:=F.called_set;obtain⟨_,_,y1⟩:=cs.mro;have y2:=cs.made;have y3:=cs.sub;have y4:=cs.notType;have y5:=cs.canCreate;have y6:=F.typeCall_set_1 (.ref l);refine wpAny_call (rO (?_:wpAny _ _ (callAny (.type "set") _) _ _ _));refine ai ⟨Code.quiet_builtin _ (by decide +kernel),bA F.entry_type_call ?_⟩;rw[Around.under_plain (weight_type_call_type "set" [.ref l] []) rfl]
 repeat (any_goals (first|assumption|wp_step))
 refine fW (SA (.ref l) (E:=E) (Q:=λv s1=>v=.ref s.heap.objs.size/\s1={ s with heap:=s.heap.push (u5 w) }) ⟨rfl,rfl⟩) ?_;rintro(e|fl) s1 hr
 ·exact hr
 cases fl with
 |next=>exact hr
 |brk=>exact hr
 |cont=>exact hr
 |ret v =>
 obtain⟨rfl,rfl⟩:=hr;have hS:(s.heap.push (u5 w)).get? s.heap.objs.size=some (u5 w):=aw _ rfl;have hT:Shared.TypeIs { s with heap:=s.heap.push (u5 w) } (.ref s.heap.objs.size) "set":=⟨_,hS,rfl⟩
 have y7:=cs.init.lookup;have y8:=cs.init.bind (.ref s.heap.objs.size)
 repeat (any_goals (first|assumption|wp_step))
 refine fW (codeAny_call_builtin (R:=wants (λv s2=>v=.none/\∃h' tk,s2={ s with heap:=h',toks:=tk }/\p9 prog w h' s.heap.objs.size (i9 [] ns)/\(∀b o,s.heap.get? b=some o->h'.get? b=some o)/\s.toks<=tk) E) cs.init.plain F.entry_set_init (check_set_init_1 hT ?_)) ?_
 ·have jl:uJ (s.heap.push (u5 w)) l items:=hl.imp (·.push _) (·.push _);have JE:=hl.lt;refine SH (s:={ s with heap:=s.heap.push (u5 w) }) (by simp[hh]) hS jl hi hb (bU JE) λh' tk h1 h2 h3=>ai ⟨rfl,h',tk,rfl,h1,λb o e=>h2 b o (aF (ao e)) (ag _ e),h3⟩
 ·rintro(e|fl) s2 hr
  ·exact hr
  cases fl with
  |next=>exact hr
  |brk=>exact hr
  |cont=>exact hr
  |ret v =>
  obtain⟨rfl,h',tk,rfl,h1,h2,h3⟩:=hr
  repeat (any_goals (first|assumption|wp_step))
  exact h _ _ h1 h2 h3
end ST
namespace L2
open PySem PySem.Spec PyProof.Rows
def qp(X:Cx)(a:Addr)(ks:List Int):HO:=.ext λh=>ST.p9 X.prog X.w h a ks
def B1(ns:List Int):List Int:=(ST.i9 [] ns).mergeSort (λa b=>decide (a<=b))
theorem Q4:∀{a b:List Int},a.Perm b->a.Pairwise (·<=·)->b.Pairwise (·<=·)->a=b
 |[],b,h,_,_=>by rw[List.nil_perm.mp h]
 |x::a,[],h,_,_=>absurd h.length_eq (by simp)
 |x::a,y::b,h,h1,h2=>by
  rw[dj] at h1 h2;have e:x=y:=by
   have m1:=h.mem_iff (a:=y);have m2:=h.mem_iff (a:=x);simp only[List.mem_cons,true_or,true_iff,iff_true] at m1 m2;rcases m1 with z|z
   ·exact z.symm
   ·rcases m2 with z'|z'
    ·exact z'
    ·have:=h1.1 y z;have:=h2.1 x z';omega
  subst e;rw[Q4 (h.cons_inv) h1.2 h2.2]
theorem Ft(ns:List Int):(B1 ns).Pairwise (·<=·):=by
 have:=qy (le:=λa b:Int=>decide (a<=b)) (λa b c h1 h2=>by simp at *;omega) (λa b=>by simp;omega) (ST.i9 [] ns);exact this.imp λh=>by simpa using h
theorem V2(ns:List Int):(B1 ns).Perm (ST.i9 [] ns):=BV _ _
theorem EY(ns:List Int):(B1 ns).length<=ns.length:=by
 rw[(V2 ns).length_eq];have:=ST.K3 ns [];simpa using this
section
variable{X:Cx}{pins:List (Addr×Obj)}{Z:St}{H:Hp}{s:Shared}
theorem Inv.draw(I:Inv X pins Z H s)(d:Drawn):Inv X pins Z H { s with drawn:=d } :=
 I.step (g':=s.gens) (t':=s.toks) (d':=d) (ch:=[]) (by simp) (λb o _ _ _ e _=>e) (λb o _ _ _ e _=>⟨o.slots,e⟩) (λb o _ _ e=>e) (λb o _ e=>⟨o,e⟩) (λ_ _ e=>e) (λ_ _ _ e=>e) (λb ps e=>⟨#[],by simp[e]⟩) (λm hm=>hm) I.bC I.bare
theorem GX{h:Heap}{a:Addr}{ks:List Int}(x:ST.p9 X.prog X.w h a ks):k7 X.prog X.w H h a (qp X a ks) :=
 ⟨x,by obtain⟨o,_,_,_,e,_⟩:=x;exact⟨o,e⟩,λh1 h2 y k=>y.at k⟩
theorem U7{ns:List Int}{vs:List Value}(h:IntsAre vs ns):Vals (ns.map V.int) vs:=by
 induction h with
 |nil=>exact .nil
 |cons n t r ih=>exact .cons ⟨t,rfl⟩ ih
theorem u9:∀{ns:List Int} {vs:List Value},Vals (ns.map V.int) vs->IntsAre vs ns
 |[],_,h=>by cases h;exact .nil
 |n::ns,_,h=>by
  cases h with
  |cons r rr =>
   obtain⟨t,rfl⟩:=r;exact .cons n t (u9 rr)
theorem FK(hc:X.calm=true):j2 X (.type "set") (λxs H Q=>∃a ns,xs=[.ref a]/\fj X.K H a (ns.map V.int)/\ns.length<60/\∀p,H p=none->Q (.ref p) (upd H p (qp X p (ST.i9 [] ns)))):=by
 intro pins s Z H xs us Q I r h;obtain⟨a,ns,rfl,hq,hl,q⟩:=h;cases r with
 |cons r rr =>
 cases rr;cases r;obtain⟨aQ,rv,p,hz⟩:=I.list hq;have hI:=u9 rv;have hlen:=ST.W9 hI;refine ST.Ed (ns:=ns) (I.ok.hd hc) (.inl p.isList) (by simpa using hI) (by rw[aC,hlen];exact ay (Ys hl) (by decide)) λh' tk hS hk _=>?_;exact⟨.ref _,_,I.laid (a:=s.heap.objs.size) (t':=tk) hk (ak _) (GX hS),rfl,q _ (I.bC.fresh (ak _))⟩
theorem R5(hc:X.calm=true):j2 X (.builtin "sorted") (λxs H Q=>∃a ns,xs=[.ref a]/\H a=some (qp X a (ST.i9 [] ns))/\ns.length<60/\∀p,H p=none->Q (.ref p) (upd H p (.lst ((B1 ns).map V.int)))):=by
 intro pins s Z H xs us Q I r h;obtain⟨a,ns,rfl,ha,hl,q⟩:=h;cases r with
 |cons r rr =>
 cases rr;cases r;have hS:ST.p9 X.prog X.w s.heap a (ST.i9 [] ns):=(I.bC a _ ha).1;have hn:=ST.K3 ns [];simp only[List.length_nil] at hn;refine ST.VS (I.ok.hd hc) hS (by omega) λS vs ji e h' d' iV h1 h2 h3 h4 h5 h6 _=>?_;have e1:ji=B1 ns:=Q4 (h2.trans (V2 ns).symm) h3 (Ft ns);subst e1;have hz:=EY ns;exact⟨.ref S,_,(I.laid (a:=S) (o:=.lst ((B1 ns).map V.int)) (t':=iV) h6 h5 ⟨by rw[ah];exact aM hz (aM (cK hl) (by decide)),vs,e,U7 h1,h4⟩).draw d',rfl,q S (I.bC.fresh h5)⟩
end
end L2
namespace ST
open PySem PyProof.Rows
theorem Xc{prog:Program}{w:World}{A:Around}{E:Value->Shared->Prop}{s:Shared}{a:Addr}{ks:List Int}{k:Int}{tk:Tok}{Q:Value->Shared->Prop}(hS:p9 prog w s.heap a ks)(hr:ks.length+1<scanBound)(h:∀h',Heap.SameBut a s.heap h'->p9 prog w h' a (A8 ks k)->Q .none { s with heap:=h',toks:=s.toks+1 }):wpAny (model prog w) A (call (.builtin "set.add") [.ref a,.int k tk]) Q E s:=by
 have hT:s.TypeIs (.ref a) "set":=let ⟨o,_,_,_,e,x,_⟩:=hS;⟨o,e,x.1⟩
 refine bT F.slot_set_add hT F.entry_set_add ?_ (F.args_set_add_2 _ _);have go:∀(Q':Fin->Shared->Prop),(∀h',Heap.SameBut a s.heap h'->p9 prog w h' a (A8 ks k)->wpAny (model prog w) A.in1 (ret .none) Q' E { s with heap:=h',toks:=s.toks+1 })->wpAny (model prog w) A.in1 (do let _ <- setAdd a (.int k tk);ret .none) Q' E s:=λQ' q=>by
  unfold setAdd;refine aa (bw (aa ((intKind prog w).pyHash (k:=k) (gE _ _ _ _) ?_)));exact Hf (s:={ s with toks:=s.toks+1 }) hS hr λh' b sb S2=>q h' sb S2
 unfold Builtin.«set.add» Builtin.Frozenset.oneOther;simp only[List.isEmpty_nil,bind_assoc];unfold Builtin.Frozenset.addrOf;refine aa (ai ?_)
 try dsimp only
 refine aa (ai ?_)
 try dsimp only
 exact go _ λh' sb S2=>ai ⟨_,rfl,h h' sb S2⟩
end ST
namespace L2
open PySem PySem.Spec PyProof.Rows
variable{elt iter:Expr}{ifs:List Expr}{scope:Scope}{pos:Pos}
section
variable{prog:Program}{w:World}{A:Around}{R:Result->Shared->Prop}{s:Shared}
theorem VU(elt target iter:Expr)(ifs:List Expr)(scope:Scope)(pos:Pos)(it acc:Value)(env:Env):compTurn (.SetComp elt [⟨target,iter,ifs,0⟩] scope pos) 0 it acc env=(do
      standAt iter.pos
      match <- pyNext it with
      |none=>pure (.done .next)
      |some v =>
        letOwnedTupleGo target it v
        assign target env v
        let mut ok:=true
        for c in ifs do if ok then ok <- isTrue c env (eval c env)
        if ok then(do let x <- eval elt env;standAt elt.pos;let _ <- call (.builtin "set.add") [acc,x])
        again (.compLoop (.SetComp elt [⟨target,iter,ifs,0⟩] scope pos) 0 it acc env)):=by rfl
theorem Sj{target:Expr}{it acc:Value}{env:Env}(I:Nat->Shared->Prop)(turn:∀ n s,I n s->wpAny (model prog w) A (pyNext it) (λr bJ=>match r with
   |none=>R (.ok .next) bJ
   | some v=>wpAny (model prog w) A (letOwnedTupleGo target it v) (λ_ bJ=>wpAny (model prog w) A (assign target env v) (λ_ fK =>
     wpAny (model prog w) A (forIn ifs true λc r=>if r=true then do let ok <- isTrue c env (eval c env);pure (ForInStep.yield ok) else pure (ForInStep.yield r)) (λok eQ =>
      if ok=true then wpAny (model prog w) A (eval elt env) (λx je =>
       wpAny (model prog w) A (call (.builtin "set.add") [acc,x]) (λ_ ly=>∃ m,m < n/\I m ly) (λ_ _=>False) je) (λ_ _=>False) eQ
      else ∃ m,m < n/\I m eQ) (λ_ _=>False) fK) (λ_ _=>False) bJ) (λ_ _=>False) bJ) (λ_ _=>False) s)(n:Nat)(h:I n s) :
  codeAny (model prog w) A (.compLoop (.SetComp elt [⟨target,iter,ifs,0⟩] scope pos) 0 it acc env) R s:=by
 refine codeAny_loop rfl I (λn s hI=>?_) n h;show wpAny _ A ((compTurn (.SetComp elt [⟨target,iter,ifs,0⟩] scope pos) 0 it acc env).onRaise (λx=>do noteFrame x env;theTreesLotGoes x)) _ _ s;refine wpAny_noted ?_;rw[VU];refine aa (eJ (aa (br (turn n s hI) (λr bJ dt=>?_) λ_ _ h'=>h'.elim)));cases r with
 |none=>exact ai dt
 |some v =>
  refine aa (br dt (λ_ bJ dt=>?_) λ_ _ h'=>h'.elim);refine aa (br dt (λ_ fK iB=>aa (br iB (λok eQ lM=>?_) λ_ _ h'=>h'.elim)) λ_ _ h'=>h'.elim);cases ok with
  |false=>exact wpAny_pure ⟨rfl,lM⟩
  |true =>
   exact aa (aa (br lM (λx je pP=>aa (eJ (aa (br pP (λ_ ly pO=>ai (ai ⟨rfl,pO⟩)) λ_ _ h'=>h'.elim)))) λ_ _ h'=>h'.elim))
theorem VM{target:Expr}{it acc:Value}{env:Env}(h0:codeAny (model prog w) A (.compLoop (.SetComp elt [⟨target,iter,ifs,0⟩] scope pos) 0 it acc env) R s)(h:wpAny (model prog w) A (pyIter it) (λCH s'=>codeAny (model prog w) A (.compLoop (.SetComp elt [⟨target,iter,ifs,0⟩] scope pos) 0 CH acc env) R s') (notedBy (model prog w) A env λx s'=>R (.error x) s') s) :
  codeAny (model prog w) A (.compStart (.SetComp elt [⟨target,iter,ifs,0⟩] scope pos) 0 it acc env) R s:=by
 refine rO (?_:wpAny _ _ ((compStart (.SetComp elt [⟨target,iter,ifs,0⟩] scope pos) 0 it acc env).onRaise (λx=>do noteFrame x env;standAt theWindowsPlace)) _ _ s);refine wpAny_notedAt ?_;unfold compStart;refine aa (oO (wpAny_ite ?_));split
 ·first
   |exact ai ⟨rfl,h0⟩
   |exact aa (ai (ai ⟨rfl,h0⟩))
 ·refine aa (eO ?_);exact aa (eJ (aa (br h (λCH s' h'=>ai ⟨rfl,h'⟩) λ_ _ x=>x)))
end
def zQ(o:Obj):Prop:=∀v,o.data≠.cell v
def Px(X:Cx)(wi:TI)(d4:List Nat)(n:Nat)(g:TG)(tc:TT)(te:TE):TE:=λZ H Q=>wi Z H λJ H1=>∃W:Nat->Nat->List Int->St->Hp->Prop,(∃m,W 0 m [] (A7 Z d4 n) H1)/\∀i m ys Z H,W i m ys Z H ->
 (J.stop i H/\∀p,H p=none->Q (.ref p) (upd H p (qp X p (ST.i9 [] ys)))) \/
 (J.go i H/\ys.length < 60/\∀ x H',J.oV i H x H'->g x Z H' λcD H2=>tc cD H2 λb H3 =>
  if b=true then te cD H3 λy H4=>∃ k,y=.int k/\∃ m',m' < m/\W (i + 1) m' (ys ++ [k]) cD H4 else ∃ m',m' < m/\W (i + 1) m' ys cD H3)
section
variable{X:Cx}{pins:List (Addr×Obj)}{Z:St}{H:Hp}{s:Shared}
theorem Inv.PD{D:Addr}{φ:Heap->Prop}(I:Inv X pins Z H s)(f:A9 X pins H D)(hs:X.cR.heap.objs.size<=D)(ho:k7 X.prog X.w (upd H D (.ext φ)) s.heap D (.ext φ)):Inv X pins Z (upd H D (.ext φ)) s:=by
 obtain⟨f0,f1,f2,f3,f4,f5⟩:=f;have dO:∀b o,X.cR.heap.get? b=some o->b≠D:=λb o e z=>absurd (ao e) (by rw[z];exact jy.mpr hs);have tup:∀b u,H b=some u->upd H D (.ext φ) b=some u:=λb u e=>by rw[f6 (j9 e f0)];exact e
 refine⟨I.ok,I.os,I.bare,⟨?_,?_,?_,I.base.there,?_,?_,?_⟩,I.loc,I.cell,?_,?_,?_,?_,I.len⟩
 ·exact λb o e n1 n2 n3=>I.base.keep b o e n1 n2 n3
 ·exact λb o e n1 n2 n3=>I.base.slot b o e n1 n2 n3
 ·exact λb o e n1 n2=>by rw[f6 (dO b o e)];exact I.base.free b o e n1 n2
 ·exact λb xs e=>tup _ _ (I.base.gZ b xs e)
 ·exact λb o u e=>tup _ _ (I.base.gN b o u e)
 ·exact λb ps e=>by
   obtain⟨more,q⟩:=I.base.hJ b ps e;exact⟨more,tup _ _ q⟩
 ·rw[f6 f1.symm];exact I.free
 ·exact λx c e=>by rw[f6 (f4 x c e)];exact I.dU x c e
 ·intro p hp;obtain⟨p1,p2,p3⟩:=I.pin p hp;exact⟨p1,by rw[f6 (f5 p hp)];exact p2,p3⟩
 ·intro a o e;by_cases ha:a=D
  ·subst ha;rw[p6] at e;cases e;exact ho
  ·rw[f6 ha] at e;have q:=I.bC a o e;refine q.R8 (λb u _ h=>h) (λb hb=>tup _ _ hb) (λb xs hb=>tup _ _ hb)
theorem Rx{tg:Expr}{N':List Str}{d4:List Nat}{cl:List (Str×Addr)}{it:Addr}{fp:List Addr}{tn:Nat->Heap->Prop}{J:It}{g:TG}{tc:TT}{te:TE}{RR:Value->Addr->Result->Shared->Prop}{E:Value->Shared->Prop}{W:Nat->Nat->List Int->St->Hp->Prop}{m0:Nat}{Q:VK}(S:dc X scope N' d4 cl)(hc:X.calm=true)(hg:∀C s H,PG (d6 X pins scope N' cl C s H fp) tg g)(ht:∀C s H,kC (d6 X pins scope N' cl C s H fp) ifs tc)(he:∀C s H,PE (d6 X pins scope N' cl C s H fp) elt te)(I:Inv X pins Z H s)(T:Turn X.prog X.w X.K tg J fp it tn)(st:tn 0 s.heap)(hf:∀b∈fp,A9 X pins H b)(w0:W 0 m0 [] (A7 Z d4 N'.length) H)(turn:∀ i m ys Z H,W i m ys Z H->(J.stop i H/\∀ p,H p=none->Q (.ref p) (upd H p (qp X p (ST.i9 [] ys)))) \/
   (J.go i H/\ys.length < 60/\∀ x H',J.oV i H x H'->g x Z H' λcD H2=>tc cD H2 λb H3 =>
    if b=true then te cD H3 λy H4=>∃ k,y=.int k/\∃ m',m' < m/\W (i + 1) m' (ys ++ [k]) cD H4 else ∃ m',m' < m/\W (i + 1) m' ys cD H3))(yX:∀D C s' H' m,Inv X pins Z H' s'->Q (.ref D) H'->s'.heap.Ns C m->H' C=none->s.heap.objs.size<=C->RR (.ref D) C (.ok .next) s') :
  wpAny (model X.prog X.w) X.A (newSet (.type "set")) (λacc eQ=>wpAny (model X.prog X.w) X.A (newFunctionEnv scope X.env.globals cl [] X.env.qual none .none (some X.env)) (λkN je =>
   codeAny (model X.prog X.w) X.A (.compStart (.SetComp elt [⟨tg,iter,ifs,0⟩] scope pos) 0 (.ref it) acc { kN with scope:=relabel scope X.env }) (RR acc kN.locals) je) E eQ) E s:=by
 refine ST.GL (Y5 λdt fR fg lT=>?_);dsimp only at fR fg lT ⊢;generalize pZ:s.heap.push (ST.u5 X.w)=H2 at fR fg lT ⊢;generalize eD:s.heap.objs.size=D at *;have hC:H2.objs.size=D+1:=by rw[<- pZ,cv,eD]
 generalize eC:H2.objs.size=C at *;have uc:D≠C:=by omega
 have lt:∀b o,s.heap.get? b=some o->b<D:=λb o e=>by rw[<- eD];exact ao e
 have pL:D<=C:=by omega
 have nT:∀b o,s.heap.get? b=some o->b≠C:=λb o e=>aF (ay (lt b o e) pL);have lI:∀b o,s.heap.get? b=some o->b≠D:=λb o e=>aF (lt b o e);have old:∀b o,s.heap.get? b=some o->dt.get? b=some o:=λb o e=>fg b o (pZ▸ag _ e);have iT:dt.get? D=some (ST.u5 X.w):=fg _ _ (by rw[<- pZ,<- eD];exact aw _ rfl);have iC:∀b∈fp,∃o,s.heap.get? b=some o:=λb hb=>by
  obtain⟨o,e,_⟩:=T.obj _ _ st b hb;exact⟨o,e⟩
 have ub:D∉fp:=λhm=>by
  obtain⟨o,e⟩:=iC D hm;exact lI D o e rfl
 have X1:Inv (d6 X pins scope N' cl C s H fp) [] (A7 Z d4 N'.length) H { s with heap:=dt } :=
  I.Fg S hc hf iC (by rw[eD];omega) ⟨_,fR⟩ old lT
 have sA:tn 0 dt:=T.keep _ _ _ st λb _ o e=>old b o e;have zu:∀{H':Hp},(∀b∈fp,H' b=none)->∀b∈fp,A9 (d6 X pins scope N' cl C s H fp) [] H' b:=λhn b hb=>by
  obtain⟨f0,f1,f2,f3,f4,f5⟩:=hf b hb;obtain⟨o,e⟩:=iC b hb;refine⟨hn b hb,?_,?_,.inl hb,λx c q=>(X6 lT q).elim (λl z=>absurd (cA (z▸l) (ay (lt b o e) pL)) (aZ _)) λq=>f4 x c (S.cin x c q),λp hp=>?_⟩
  ·exact nT b o e
  ·exact λz=>by
    rcases aA.mp (I.J5 b z) with z|z
    ·exact f1 z
    ·exact f2 z
  ·have iY:p∈X.pn++pins:=by simpa[d6] using hp
   exact f5 p iY
 have fD:∀{H':Hp},H' D=none->A9 (d6 X pins scope N' cl C s H fp) [] H' D:=λhn=>by
  refine⟨hn,uc,λz=>?_,.inr (by show s.heap.objs.size<=D;omega),λx c q=>?_,λp hp=>?_⟩
  ·exact absurd (I.uO (a:=D) (by omega)) λnY=>by
    rcases aA.mp (I.J5 D z) with z|z
    ·exact absurd I.lt (by rw[<- z,eD];exact aZ _)
    ·exact nY z
  ·rcases X6 lT q with l|q
   ·exact λz=>absurd (ay (z▸l) pL) (aZ _)
   ·obtain⟨v,o,e,_⟩:=I.cell x c (S.cin x c q);exact lI c o e
  ·have iY:p∈X.pn++pins:=by simpa[d6] using hp
   exact lI _ _ (I.pin p iY).1
 have pI:∀{H':Hp} {s':Shared} {bI:St} {oD:Obj},zQ oD->Inv (d6 X pins scope N' cl C s H fp) [] bI H' s'->H' D=none->s'.heap.get? D=some oD ->
   Inv (d6 X pins scope N' cl C s H fp) [(D,oD)] bI H' s':=λ{H' s' bI oD} kx J0 hn e=>J0.F7 λp hp=>by
  have z:p=(D,oD):=by simpa using hp
  subst z;obtain⟨f0,f1,f2,_⟩:=fD hn;exact⟨e,f0,f1,f2,kx⟩
 have mS:∀{H':Hp} {oD:Obj},(∀b∈fp,H' b=none)->∀b∈fp,A9 (d6 X pins scope N' cl C s H fp) [(D,oD)] H' b:=λ{H' oD} hn b hb=>by
  obtain⟨f0,f1,f2,f3,f4,f5⟩:=zu hn b hb;refine⟨f0,f1,f2,f3,f4,λp hp=>?_⟩;have iY:p∈(d6 X pins scope N' cl C s H fp).pn\/p=(D,oD):=by simpa using hp
  rcases iY with z|z
  ·exact f5 p (bo _ z)
  ·subst z;exact λz=>ub (by rw[show D=b from z];exact hb)
 have loop:∀eQ:Shared,eQ={ s with heap:=dt } ->
   codeAny (model X.prog X.w) X.A (.compLoop (.SetComp elt [⟨tg,iter,ifs,0⟩] scope pos) 0 (.ref it) (.ref D) (compEnvC scope (F6 scope cl C) C X.env)) (RR (.ref D) C) eQ:=by
  rintro eQ rfl;refine Sj (λn s'=>∃ (i:Nat) (ys:List Int) (bI:St) (H':Hp) (oD:Obj),Inv (d6 X pins scope N' cl C s H fp) [] bI H' s'/\tn i s'.heap/\(∀ b ∈ fp,H' b=none)/\H' D=none/\ys.length <= 60/\zQ oD /\
   s'.heap.get? D=some oD/\ST.p9 X.prog X.w s'.heap D (ST.i9 [] ys)/\W i n ys bI H') ?_ m0 ⟨0,[],_,H,ST.u5 X.w,X1,sA,λb hb=>(hf b hb).1,I.bC.fresh (by omega),bG _,(λv (z:Data.set _ _ _=_)=>by cases z),iT,ST.EM iT,w0⟩
  rintro n s3 ⟨i,ys,gY,H3,oD,I3,nQ,oA,d3,z3,c3,o3,S3,w3⟩;have vk:=pI c3 I3 d3 o3;rcases turn i n ys gY H3 w3 with⟨stop,q⟩|⟨go,hz,step⟩
  ·refine cB (T.done (d6 X pins scope N' cl C s H fp) rfl rfl rfl rfl i _ s3 _ H3 _ vk (mS oA) nQ stop) λr s4 ⟨hr,I4⟩=>?_;subst hr;have o4:=(I4.pin (D,oD) (by simp)).1;have J4:Inv X pins Z H3 s4:=I.Eg hf I4;have zv:A9 X pins H3 D:=by
    refine⟨d3,bU (by rw[<- eD];exact I.lt),I.uO (by omega),.inr (by have:=I.sz;omega),λx c q=>?_,λp hp=>?_⟩
    ·obtain⟨v,o,e,_⟩:=I.cell x c q;exact lI c o e
    ·exact lI _ _ (I.pin p hp).1
   obtain⟨mC,yB,_⟩:=I4.loc;exact yX D C s4 (upd H3 D (qp X D (ST.i9 [] ys))) mC (J4.PD zv (by have:=I.sz;omega) (GX (S3.at λo e=>by rw[o3] at e;cases e;exact o4))) (q D d3) yB (by rw[f6 uc.symm];exact I4.free) (by omega)
  ·refine cB (T.item (d6 X pins scope N' cl C s H fp) rfl rfl rfl rfl i _ s3 _ H3 _ vk (mS oA) nQ go) λr s4 ⟨u,hr,h4⟩=>?_;subst hr;refine cB h4 λ_ s5 bh=>?_;obtain⟨x,H5,I5,r5,y5,lz,uu⟩:=bh;have o5:=I5.pin (D,oD) (by simp);have vj:=I5.pinned (mS uu) (T.obj _ _ lz);refine cB (hg C s H _ s5 _ H5 x u _ vj r5 (step x H5 y5)) λ_ s6 bh=>?_;obtain⟨kE,H6,I6,q6⟩:=bh;refine cB (ht C s H _ s6 kE H6 _ I6 q6) λok s7 ⟨H7,I7,q7⟩=>?_;have back:∀{se:St} {H8:Hp} {s8:Shared},Inv (d6 X pins scope N' cl C s H fp) ([(D,oD)]++T4 fp s5.heap) se H8 s8->(∀b∈fp,H8 b=none)/\tn (i+1) s8.heap/\H8 D=none/\s8.heap.get? D=some oD :=
    λ{se H8 s8} I8=>by
     have pf:∀b∈fp,∀o,s5.heap.get? b=some o->s8.heap.get? b=some o/\H8 b=none:=λb hb o e=>by
      have:=I8.pin (b,o) (bf _ (bf _ (N8 hb e)));exact⟨this.1,this.2.1⟩
     have pd:=I8.pin (D,oD) (by simp);refine⟨λb hb=>?_,T.keep _ _ _ lz λb hb o e=>(pf b hb o e).1,pd.2.1,pd.1⟩;obtain⟨o,e,_⟩:=T.obj _ _ lz b hb;exact(pf b hb o e).2
   cases ok with
   |false =>
    obtain⟨m',hm,w7⟩:=q7;obtain⟨b1,b2,b3,b4⟩:=back I7;exact⟨m',hm,i+1,ys,kE,H7,oD,I7.F7 λp hp=>absurd hp (by simp),b2,b1,b3,z3,c3,b4,S3.at λo e=>by rw[o3] at e;cases e;exact b4,w7⟩
   |true =>
    refine cB (he C s H _ s7 kE H7 _ I7 q7) λxv s8 bh=>?_;obtain⟨y,H8,I8,r8,kk,ey,m',hm,w8⟩:=bh;subst ey;obtain⟨tk,rfl⟩:=r8;obtain⟨b1,b2,b3,b4⟩:=back I8;have S8:ST.p9 X.prog X.w s8.heap D (ST.i9 [] ys):=S3.at λo e=>by rw[o3] at e;cases e;exact b4
    have yf:=ST.K3 ys [];simp only[List.length_nil] at yf;refine ST.Xc S8 (ay (by omega:_<62) (by decide)) λh' sb S9=>?_;have e9:ST.A8 (ST.i9 [] ys) kk=ST.i9 [] (ys++[kk]):=by unfold ST.i9;rw[Xm];rfl
    rw[e9] at S9;obtain⟨o9,Yg,Yi,t9,g9,x9,d9,r9⟩:=id S9;have c9:zQ o9:=λv z=>by rw[d9] at z;cases z
    have BO:Inv (d6 X pins scope N' cl C s H fp) [] kE H8 s8:=I8.F7 λp hp=>absurd hp (by simp);obtain⟨f0,f1,f2,f3,f4,f5⟩:=fD (H':=H8) b3;have kp:∀b o,b≠D->s8.heap.get? b=some o->h'.get? b=some o:=λb' u hb hu=>by rw[sb.2 b' hb];exact hu
    refine⟨m',hm,i+1,ys++[kk],kE,H8,o9,BO.turned (it:=D) (t':=s8.toks+1) kp f0 f1 f3 f4 f5,T.keep _ _ _ b2 λb hb o e=>kp b o (λz=>ub (by rw[<- z];exact hb)) e,b1,b3,?_,c9,g9,S9,w8⟩;rw[aG,ik];omega
 exact VM (loop _ rfl) (T.self _ 0 _ _ _ sA (loop _ rfl))
theorem Tc{tg:Expr}{N':List Str}{d4:List Nat}{cl:List (Str×Addr)}{wi:TI}{g:TG}{tc:TT}{te:TE}(S:dc X scope N' d4 cl)(hc:X.calm=true)(hi:PI X tg iter wi)(hg:∀pins C s H fp,PG (d6 X pins scope N' cl C s H fp) tg g)(ht:∀pins C s H fp,kC (d6 X pins scope N' cl C s H fp) ifs tc)(he:∀pins C s H fp,PE (d6 X pins scope N' cl C s H fp) elt te)(hs:∀x,foldedSetIterable iter X.env x=pure x):PE X (.SetComp elt [⟨tg,iter,ifs,0⟩] scope pos) (Px X wi d4 N'.length g tc te):=by
 intro pins s Z H Q I h;rw[arm_eval_SetComp];refine ic (use:=none) rfl hs S.qh S.kind S.names (cB (hi pins s Z H _ I h) λxv bJ dt=>cB dt λtD fK iB=>?_);obtain⟨it,fp,tn,J,H2,e,I2,T,lA,f2,W,⟨m0,w0⟩,turn⟩:=iB;subst e;refine Rx (RR:=λacc C=>compPost (model X.prog X.w) X.A X.xe none (EP X pins Z Q) acc C) S hc (λC s H=>hg pins C s H fp) (λC s H=>ht pins C s H fp) (λC s H=>he pins C s H fp) I2 T lA f2 w0 turn ?_;intro D C s' H' m I' q hn hC hsz;exact⟨m,hn,λh' sb=>⟨.ref D,H',I'.HG hsz I2 hC sb,rfl,q⟩⟩
end
end L2
namespace HT
open PySem PyProof.Rows Builtin
theorem Su:fillsNumberSlot (.type "tuple") "mul"=pure false :=
 PySem.fillsNumberSlot_seq (id:="tuple.__mul__") (r:=some (.builtin "tuple.__rmul__")) oQ.lookup (by decide +kernel) F.slot_tuple_rmul.lookup (by decide +kernel)
theorem RV:seqRepeat? (.type "tuple")=pure (some (.builtin "tuple.__mul__")):=by
 unfold seqRepeat?;rw[Yq (T:="tuple") (name:="__mul__") (id:="tuple.__mul__") oQ.lookup (by decide +kernel),Yq (T:="tuple") (name:="__rmul__") (id:="tuple.__rmul__") F.slot_tuple_rmul.lookup (by decide +kernel)]
 rfl
theorem So(a:Int)(t:Tok)(l:Addr)(items:Array Value)(n:Nat)(dd:Option Addr)(sl:Array (Option Value)) :
  Meets (Builtin.«int.__rmul__» ⟨[.int a t,.ref l],[]⟩) (λ_ R s=>s.heap.get? l=some { cls:=.type "tuple",dict:=dd,data:=.seq items n,slots:=sl }/\R (.ok (.ret Value.notImplemented)) s) :=
 .of_wp λprog w A R s h=>by obtain⟨hp,g,d,tk,os⟩:=s;obtain⟨hl,h⟩:=h;wp_walk;exact⟨_,rfl,h⟩
theorem Sq(t:Value)(c:Value):Builtin.«tuple.__mul__» ⟨[t,c],[]⟩=(do
 let n <- asIndex c
 if n < -(2 ^ 63)||n>=2 ^ 63 then
  rule "tuple.repeat.overflow";raiseError "OverflowError" s!"cannot fit '{<- typeNameOf c}' into an index-sized integer"
 let xs <- Builtin.Tuple.tupleItemsOf t
 if xs.isEmpty||n==1 then
  if <- Builtin.Tuple.tupleIsExact t then rule "tuple.repeat.same-object";return <- ret t
 if n<=0||xs.isEmpty then return <- ret (<- Builtin.Tuple.tupleExact #[])
 if xs.size*n>(2 ^ 63-1) / 8 then rule "tuple.repeat.no-memory";raiseNew (<- newExc (.type "MemoryError") [])
 if Builtin.Tuple.tupleTooMany (xs.size*n) then unsupported "tuple.__mul__:memory"
 ret (<- Builtin.Tuple.tupleExact ((List.replicate n.toNat xs).foldl (· ++ ·) #[]))):=rfl
section
variable{prog:Program}{w:World}{A:Around}{E:Value->Shared->Prop}{s:Shared}
theorem Vu(aQ:List Value):∀(m:Nat) (acc:Array Value),List.foldl (λx1 x2=>x1++x2) acc (List.replicate m aQ.toArray)=acc++(List.replicate m aQ).flatten.toArray:=by
 intro m
 induction m with
 |zero=>intro acc;simp
 |succ m ih=>intro acc;rw[bQ,List.foldl_cons,ih,bQ,cN];simp
theorem Vj{a:Addr}{aQ:List Value}{n:Int}{t:Tok}{Q:Value->Shared->Prop}(ht:IsTup s.heap a aQ.toArray)(dO:aQ≠[])(h1:1<=n)(h2:n<2 ^ 62)(hz:aQ.length*n.toNat<=sizeLine)(q1:n=1->Q (.ref a) s)(q2:Q (.ref s.heap.objs.size) { s with heap:=s.heap.push { cls:=.type "tuple",data:=.seq (List.replicate n.toNat aQ).flatten.toArray } }):wpAny (model prog w) A (binaryOp .Mult (.ref a) (.int n t)) Q E s:=by
 obtain⟨o,ho,hc,k,hd⟩:=id ht;obtain⟨cls,dict,data,slots⟩:=o;dsimp only at hc hd;subst hc hd;have he:aQ.toArray.isEmpty=false:=by cases aQ<;>first|exact absurd rfl dO|rfl
 refine BR (T:="tuple") (U:="int") (by decide) ht.typeIs (λs'=>gD s' n t) Su F.fills_int_mul js RV F.slot_int_index.lookup
  (jc js (gD s n t) F.entry_int_rmul (F.args_int_rmul_2 _ _) (So n t a aQ.toArray k dict slots) ⟨ho,rfl,ht.typeIs,?_⟩)
 refine bT oQ ht.typeIs F.entry_tuple_mul ?_ (F.args_tuple_mul_2 _ _);rw[Sq];refine aa (dE (show asIndex (.int n t)=pure n from rfl) ?_);dsimp only;rw[aB (by simp only[Bool.or_eq_true,decide_eq_true_eq];omega)];refine aa (tupleItemsOf_ ht ?_);have big:¬((aQ.toArray.size:Int)*n>(2 ^ 63-1) / 8):=by
  rw[aC];have:((aQ.length*n.toNat:Nat):Int)=(aQ.length:Int)*n:=by rw[Int.natCast_mul];rw[show((n.toNat:Nat):Int)=n by omega]
  rw[<- this];have hs:sizeLine<2 ^ 59:=by decide
  omega
 have many:¬(Builtin.Tuple.tupleTooMany ((aQ.toArray.size:Int)*n)=true):=by
  unfold Builtin.Tuple.tupleTooMany;rw[aC,aU];have:((aQ.length*n.toNat:Nat):Int)=(aQ.length:Int)*n:=by rw[Int.natCast_mul];rw[show((n.toNat:Nat):Int)=n by omega]
  rw[<- this];omega
 have hsz:sizeOk (.seq (List.replicate n.toNat aQ).flatten.toArray):=by
  show(List.replicate n.toNat aQ).flatten.toArray.size<=sizeLine;simp only[List.size_toArray,List.length_flatten,List.map_replicate,List.sum_replicate_nat];rw[rQ];exact hz
 by_cases e1:n=1
 ·subst e1;rw[aE (by rw[he];rfl)];unfold Builtin.Tuple.tupleIsExact;refine aa (aa (cU ht.typeIs (ai ?_)));rw[aE (by decide)]
  first
   |exact aa (eO (aa (ai ⟨_,rfl,ai (q1 rfl)⟩)))
   |exact aa (eO (ai ⟨_,rfl,(q1 rfl)⟩))
   |exact aa (eO (ai ⟨_,rfl,ai (q1 rfl)⟩))
 ·rw[aB (by rw[he];simpa using e1)];rw[aB (by rw[he];simp;omega),aB big,aB many];rw[show List.foldl (λx1 x2=>x1++x2) #[] (List.replicate n.toNat aQ.toArray)=(List.replicate n.toNat aQ).flatten.toArray by rw[Vu];simp]
  first
   |exact aa (m:=Builtin.Tuple.tupleExact _) (bq (ai ⟨_,rfl,q2⟩) hsz)
   |exact aa (m:=Builtin.Tuple.tupleExact _) (bq (ai ⟨_,rfl,ai q2⟩) hsz)
end
end HT
namespace L2
open PySem PySem.Spec PyProof.Rows
section
variable{X:Cx}
def MQ(K:PySem.W.Frag):R2:=λx y H Q=>∃(a:Addr) (n:Int) (xs:List V),x=.ref a/\y=.int n/\hZ K H a xs/\xs≠[]/\1<=n/\n<2 ^ 62/\xs.length*n.toNat<=sizeLine /\
 (n=1->Q (.ref a) H)/\(∀p,H p=none->Q (.ref p) (upd H p (.tup (List.replicate n.toNat xs).flatten)))
theorem QD:fk X (binaryOp .Mult) (MQ X.K):=by
 intro pins s Z H x y v u Q I rx ry h;obtain⟨a,n,xs,rfl,rfl,ha,dO,h1,h2,hz,q1,q2⟩:=h;cases rx;obtain⟨tk,rfl⟩:=ry;obtain⟨aQ,r,p,_⟩:=I.tuple ha;refine HT.Vj p (λz=>dO (r.wW.mp z)) h1 h2 (by rw[<- r.length];exact hz) (λe=>⟨.ref a,H,I,rfl,q1 e⟩) ?_;refine⟨.ref s.heap.objs.size,_,I.laid (t':=s.toks) (o:=.tup (List.replicate n.toNat xs).flatten) (λb ob q=>ag _ q) (ak _) ?_,rfl,q2 _ (I.bC.fresh (ak _))⟩;exact⟨by rw[len_rep,rQ];exact hz,_,r.rep _,K6.new _ _⟩
def Qm(sep:Str)(ys:List Str):Nat:=ys.foldl (λn y=>n+y.length+sep.length) 0
end
end L2
namespace HT
open PySem PyProof.Rows Builtin PySem.SeqAt
end HT
namespace L2
open PySem PySem.Spec PyProof.Rows
def BD(K:PySem.W.Frag)(H:Hp)(a:Addr)(xs:List V):Prop :=
 H a=some (.tup xs)\/∃(o:Obj) (aQ:Array Value) (n:Nat),K.lookup a=some o/\o.cls=.type "tuple"/\o.dict=none/\o.data=.seq aQ n/\aQ.size<=sizeLine/\Vals xs aQ.toList
theorem BD.sq{K:PySem.W.Frag}{H:Hp}{a:Addr}{xs:List V}(h:BD K H a xs):hZ K H a xs:=by
 rcases h with h|⟨o,aQ,n,h1,h2,_,h3,h4,h5⟩
 ·exact .inl (.inl h)
 ·exact .inr ⟨o,aQ,n,h1,h2,h3,h4,h5⟩
end L2
namespace ST
open PySem PyProof.Rows
def Spot(k:Int):Prop:=0<=k/\k<8
structure Own(mask:Nat)(owner:Array (Option Nat))(pre:List Int):Prop where
 sz:owner.size=mask+1
 fwd:∀(i:Nat) (k:Int),pre[i]?=some k->owner[k.toNat]?=some (some i)
 bwd:∀(j i:Nat),owner[j]?=some (some i)->pre[i]?=some (j:Int)
section
variable{prog:Program}{w:World}{a:Addr}
def QE(prog:Program)(w:World)(h:Heap)(a:Addr)(ks:List Int):Prop :=
 ∃o es ep t,h.get? a=some o/\o.ExactSet/\o.data=.set es ep t/\ElemsOf (intKind prog w) es.toList/\(es.toList.map λe=>toI e.2).Perm ks/\ks.Nodup/\es.size<scanBound/\t.fits es.size=true/\Well (Led w) t/\(ks=[]->7<=t.mask)
theorem p9.toV{h:Heap}{ks:List Int}(x:p9 prog w h a ks)(hn:ks≠[]):QE prog w h a ks:=by
 obtain⟨o,es,ep,t,h1,h2,h3,h4,h5,h6,h7,h8,h9⟩:=x;exact⟨o,es,ep,t,h1,h2,h3,h4,h5,h6,h7,h8,h9,λz=>absurd z hn⟩
theorem p9.same{h:Heap}{ks us:List Int}(x:p9 prog w h a ks)(hp:ks.Perm us):p9 prog w h a us:=by
 obtain⟨o,es,ep,t,h1,h2,h3,h4,h5,h6,h7⟩:=x;exact⟨o,es,ep,t,h1,h2,h3,h4,h5.trans hp,hp.nodup_iff.mp h6,h7⟩
theorem above:∀n,n<300->7<SetTable.sizeAbove n/\n<SetTable.sizeAbove n/\SetTable.sizeAbove n<=sizeLine:=by decide +kernel
end
end ST
namespace L2
open PySem PySem.Spec PyProof.Rows
variable{X:Cx}
end L2
namespace ST
open PySem PyProof.Rows
theorem Sf:typeLookup (.type "dict") "__len__"=pure (some (.builtin "dict.__len__")):=by rw[jr,fx];kernel_rfl
section
variable{prog:Program}{w:World}{A:Around}{E:Value->Shared->Prop}{s:Shared}{a:Addr}{ep:Nat}{K:Type}[DecidableEq K]{knd:PySem.KeyKind prog w K}{kvs:List (K×Value)}
theorem RJ(hh:A.handled=none)(hd:(a==sysModules)=false)(hm:s.heap.DictAt knd a kvs ep)(hz:kvs.length<=10000){Q:List Value->Shared->Prop}(h:∀(vs:List Value) h' iV,vs.length=kvs.length->(∀(i:Nat) v,vs[i]?=some v->∃k x,kvs[i]?=some (k,x)/\knd.is k v=true)->(∀c o,s.heap.get? c=some o->h'.get? c=some o)->s.heap.objs.size<=h'.objs.size->s.toks<=iV->Q vs { s with heap:=h',toks:=iV }) :
  wpAny (model prog w) A (collect (.ref a)) Q E s:=by
 have eF:a<s.heap.objs.size:=hm.lt_size;unfold collect;refine aa (xq (bA F.entry_proto_collect ?_));rw[bc F.plain_proto_collect _];show wpAny _ A.in1 (newList [] >>= λl=>again (.builtin "list.__iadd__" ⟨[l,.ref a],[]⟩)) _ _ s;refine aa (bq ?_);refine ai ⟨cq hX _,bA F.entry_list_iadd ?_⟩;rw[bc hX _];have mQ:=hm.push { cls:=.type "list",data:=.seq ([]:List Value).toArray };have yW:(s.heap.push { cls:=.type "list",data:=.seq ([]:List Value).toArray }).get? s.heap.objs.size=some { cls:=.type "list",data:=.seq ([]:List Value).toArray }:=aw _ rfl;have dO:s.heap.objs.size≠a:=bU eF;have h1:Builtin.List.listSameRef (.ref s.heap.objs.size) (.ref a)=false:=by simp[Builtin.List.listSameRef,dO]
 show wpAny _ A.in1 (Builtin.List.listExtendWith (.ref s.heap.objs.size) (.ref a) (.ref s.heap.objs.size)) _ _ _;unfold Builtin.List.listExtendWith;refine aa (cU (s:={ s with heap:=_ }) mQ.dictOf.typeIs ?_);rw[aB (by rw[h1];decide)];refine aa (wpAny_pyIter_dict (s:={ s with heap:=_ }) hd mQ ?_);have jN:s.heap.objs.size<(s.heap.push { cls:=.type "list",data:=.seq ([]:List Value).toArray }).objs.size:=by rw[gw];exact cW _
 have Ke:((s.heap.push { cls:=.type "list",data:=.seq ([]:List Value).toArray }).push { cls:=.type "dict_keyiterator",data:=.fields #[.ref a,.int 0 0,.int kvs.length 0,.int ep 0] }).IsKeyIter (s.heap.push { cls:=.type "list",data:=.seq ([]:List Value).toArray }).objs.size a 0 kvs.length ep:=⟨_,aw _ rfl,rfl,rfl⟩
 have nE:=mQ.push { cls:=.type "dict_keyiterator",data:=.fields #[.ref a,.int 0 0,.int kvs.length 0,.int ep 0] };have he:∀c o,(s.heap.push { cls:=.type "list",data:=.seq ([]:List Value).toArray }).get? c=some o->((s.heap.push { cls:=.type "list",data:=.seq ([]:List Value).toArray }).push { cls:=.type "dict_keyiterator",data:=.fields #[.ref a,.int 0 0,.int kvs.length 0,.int ep 0] }).get? c=some o:=λc o e=>ag _ e;have ot:=he _ _ yW;generalize ((s.heap.push { cls:=.type "list",data:=.seq ([]:List Value).toArray }).push { cls:=.type "dict_keyiterator",data:=.fields #[.ref a,.int 0 0,.int kvs.length 0,.int ep 0] })=h2 at *;generalize X':(s.heap.push { cls:=.type "list",data:=.seq ([]:List Value).toArray }).objs.size=I at *;refine aa (bw ?_);unfold Builtin.List.listLengthHint;refine aa (wpAny_specialOf (s:={ s with heap:=h2 }) nE.dictOf.typeIs Sf ?_);generalize tS:("dict.__len__":String)=yi;dsimp only;rw[show splitId yi=some ("dict","__len__") from by subst tS;decide +kernel];dsimp only;refine aa (fA (s:={ s with heap:=h2 }) (b:=true) nE.dictOf.typeIs (by rw[fe];kernel_rfl) ?_);rw[aB (by decide)];subst tS;rw[aE (by decide +kernel)];refine aa (cU (s:={ s with heap:=h2 }) nE.dictOf.typeIs ?_);refine ai ?_;rw[aE (by decide +kernel)];refine aa (eO ?_);refine aa ?_;show wpAny _ A.in1 (updateSeq s.heap.objs.size (·.push .none) >>= λ_=>updateSeq s.heap.objs.size (·.pop)) _ _ _;refine aa (dG (s:={ s with heap:=h2 }) ot rfl ?_);have ua:=aS (Obj.mapSeq (·.push Value.none)) ot rfl;refine dG (s:={ s with heap:=_ }) ua rfl ?_;have yV:=aS (Obj.mapSeq (·.pop)) ua rfl;have sL:∀c o,c≠s.heap.objs.size->h2.get? c=some o->((h2.update s.heap.objs.size (Obj.mapSeq (·.push Value.none))).update s.heap.objs.size (Obj.mapSeq (·.pop))).get? c=some o :=
  λc o hc e=>(aT _ _ (bB hc)).trans ((aT _ _ (bB hc)).trans e)
 have Kb:I≠s.heap.objs.size:=bU jN;have JY:a≠I:=aF (cA eF jN);have W:=(Walks.dictKeys (prog:=prog) (w:=w) (A:=A.in1) (knd:=knd) hh I a JY kvs ep).toS;have st:h2.IsKeyIter I a 0 kvs.length ep/\h2.DictAt knd a kvs ep:=⟨Ke,nE⟩
 have lA:=W.frame 0 ({ s with heap:=h2 }:Shared) _ s.toks st (ak _) λc hc o e=>sL c o (λz=>by simp at hc;rcases hc with y|y<;>simp_all) e;refine ai ⟨cq F.plain_extend_loop _,codeAny_extend_loopS W (aM hz (by decide)) _ (λz=>by simp at z;rcases z with y|y<;>simp_all) _ kvs.length 0 _ _ _ rfl (bG _) lA yV (ItemsOf.nil _) λs' qq c' hm ju iT=>?_⟩;show wpAny _ A (load s.heap.objs.size >>= _) _ _ s';refine aa (wpAny_load ju ?_);refine ai ?_;have eS:s'={ s with heap:=s'.heap,toks:=s'.toks }:=by
  obtain⟨iY,g',d',iV,pJ⟩:=s';have m1:g'=s.gens:=hm.gens;have m2:d'=s.drawn:=hm.drawn;have m3:pJ=s.os:=hm.os;subst m1;subst m2;subst m3
  rfl
 rw[eS];refine h _ _ s'.toks (by simpa using iT.1) (λi v hv=>iT.2 i v (by simpa using hv)) (λc o e=>?_) (cK (ao ju)) hm.toks;have hc:c<s.heap.objs.size:=ao e;have n1:c≠s.heap.objs.size:=aF hc;have n2:c≠I:=aF (cA hc jN);exact hm.heap c o (by simp[n1,n2]) (sL c o n1 (he c o (ag _ e)))
theorem Qn{i:Int}{v:Value}(h:(L2.k6 prog w).is (.inl i) v=true):∃t,v=.int i t:=by
 rw[L2.Fm] at h;rcases L2.n5 h with⟨j,t,e1,e2⟩|⟨x,t,e1,_⟩
 ·cases e1;exact⟨t,e2⟩
 ·cases e1
theorem Rz{kvs:List (L2.Key×Value)}{ns:List Int}(hh:A.handled=none)(hd:(a==sysModules)=false)(hm:s.heap.DictAt (L2.k6 prog w) a kvs ep)(hk:kvs.map (·.1)=ns.map Sum.inl)(zh:ns.length<64){Q:Value->Shared->Prop}(h:∀(S:Addr) (vs:List Value) (ji:List Int) e h' iV,IntsAre vs ji->ji.Perm ns->ji.Pairwise (·<=·)->h'.get? S=some (seqObj "list" vs.toArray e)->s.heap.objs.size<=S->(∀c o,s.heap.get? c=some o->h'.get? c=some o)->s.toks<=iV->Q (.ref S) { s with heap:=h',toks:=iV }) :
  wpAny (model prog w) A (call (.builtin "sorted") [.ref a]) Q E s:=by
 have hl:kvs.length=ns.length:=by simpa using dI List.length hk
 refine gX kind_sorted plain_sorted entry_sorted (args_sorted1 _) ?_;unfold Builtin.«sorted»;refine aa (m:=checkCount "sorted" 1 1 _) (ai ?_);refine aa (RJ (A:=A.in1) hh hd hm (by omega) λvs h1 pe CO hv he jN qO=>?_);have hI:IntsAre vs ns:=by
  have all:∀(i:Nat) v,vs[i]?=some v->∃n tk,ns[i]?=some n/\v=.int n tk:=λi v e=>by
   obtain⟨k,x,h1,h2⟩:=hv i v e;have h3:(kvs.map (·.1))[i]?=some k:=by rw[aD,h1];rfl
   rw[hk,aD,ae] at h3;obtain⟨n,h4,rfl⟩:=h3;obtain⟨tk,e⟩:=Qn h2;exact⟨n,tk,h4,e⟩
  have yE:vs.length=ns.length:=CO.trans hl;clear hv CO hl hk h
  induction vs generalizing ns with
  |nil =>
   cases ns with
   |nil=>exact .nil
   |cons=>simp at yE
  |cons v r ih =>
   cases ns with
   |nil=>simp at yE
   |cons n ns =>
    obtain⟨n',tk,e1,e2⟩:=all 0 v rfl;cases e1;rw[e2];exact .cons n tk (ih (by simp at zh;omega) (λi v e=>all (i+1) v e) (by simpa using yE))
 have oh:vs.length<64:=by omega
 refine aa (Iq (s:={ s with heap:=h1,toks:=pe }) ?_);have kH:(h1.push (seqObj "list" vs.toArray 0)).get? h1.objs.size=some (seqObj "list" vs.toArray 0):=aw _ rfl;refine aa (bw (bT (s:={ s with heap:=h1.push (seqObj "list" vs.toArray 0),toks:=pe }) slot_list_sort ⟨_,kH,rfl⟩ entry_list_sort (list_sort_tree kH hI oh λout ji a1 a2 a3=>⟨_,rfl,?_⟩) (args_list_sort _)));obtain⟨e,pT⟩:=sortedHeap_at (vs:=vs) (out:=out) kH;refine ai ⟨_,rfl,h h1.objs.size out.toList ji e _ pe a1 a2 a3 pT jN (λc o' e'=>?_) qO⟩;have hc:=ao (he c o' e');rw[sortedHeap_old (aF hc) (by rw[gw];exact kc hc)];exact ag _ (he c o' e')
end
end ST
namespace L2
open PySem PySem.Spec PyProof.Rows
variable{X:Cx}
theorem Uc(hc:X.calm=true):j2 X (.builtin "any") (λxs H Q=>∃(a:Addr) (bs:List Bool),xs=[.ref a]/\fj X.K H a (bs.map V.bl)/\Q (.bl (bs.any id)) H):=by
 intro pins s Z H xs us Q I r h;obtain⟨a,bs,rfl,ha,q⟩:=h;obtain⟨u,rfl,ru⟩:=vals1 r;cases ru;obtain⟨aQ,rv,p,hz⟩:=I.list ha;refine call_any_walk ?_;refine fc p.isList ?_;have dO:a≠s.heap.objs.size:=by
  obtain⟨o,e,_⟩:=id p.isList;exact aF (ao e)
 have hl:=rv.length;rw[ah] at hl;refine⟨s.heap.objs.size,_,_,_,_,_,λi=>bs.getD i false,rfl,xr (A:=X.A.in1) (I.ok.hd hc) _ a dO aQ.toArray,⟨⟨_,aw _ rfl,rfl,rfl⟩,?_⟩,?_,λh' tk k=>?_⟩
 ·obtain⟨o,e,q1⟩:=id p.isList;exact⟨o,ag _ e,q1⟩
 ·intro i v s' Q' E' hP hQ;have hv:aQ[i]?=some v:=by simpa using hP
  have hi:i<bs.length:=by rw[hl];exact(aq.mp hv).1
  obtain⟨u',nX,sI⟩:=rv.get (i:=i) (x:=V.bl bs[i]) (by rw[aD,az hi];rfl);rw[hv] at nX;cases nX;cases (show v=Value.bool bs[i] from sI);refine bE ?_;have:bs.getD i false=bs[i]:=by simp[List.getD,hi]
  dsimp only at hQ;rw[this] at hQ;exact hQ
 ·have e1:(List.range aQ.toArray.size).any (λi=>bs.getD i false)=bs.any id:=by
   rw[aC,<- hl];rw[bX];simp only[List.any_eq_true,List.mem_range,id];constructor
   ·rintro⟨i,hi,hh⟩;exact⟨bs[i],dN hi,by simpa[List.getD,hi] using hh⟩
   ·rintro⟨x,hx,hh⟩;obtain⟨i,hi,rfl⟩:=cM.mp hx;exact⟨i,hi,by simpa[List.getD,hi] using hh⟩
  rw[e1];exact ⟨.bl (bs.any id),H,I.kept (t':=tk) λb o e=>k b o (by
   intro hb;have:b=s.heap.objs.size:=by simpa using hb
   exact absurd (ao e) (by rw [this];exact aZ _)) (ag _ e),rfl,q⟩
theorem FI:∀{ns ks:List Int},(ks++ns).Nodup->ST.i9 ks ns=ks++ns
 |[],ks,_=>by simp[ST.i9]
 |n::r,ks,h=>by
  have hn:n∉ks:=λz=>by
   have:=(cL.mp h).2.2 n z n (by simp);exact this rfl
  have e:ST.A8 ks n=ks++[n]:=by
   unfold ST.A8;rw[aB (by simpa using hn)]
  show ST.i9 (ST.A8 ks n) r=_;rw[e,FI (by rw[cb];exact h),cb]
  rfl
theorem Ss(hc:X.calm=true):j2 X (.builtin "sorted") (λxs H Q=>∃a kvs ns,xs=[.ref a]/\H a=some (.dK kvs)/\kvs.map (·.1)=ns.map Sum.inl/\ns.length<60/\∀p,H p=none->Q (.ref p) (upd H p (.lst ((B1 ns).map V.int)))):=by
 intro pins s Z H xs us Q I r h;obtain⟨a,kvs,ns,rfl,ha,hk,hl,q⟩:=h;cases r with
 |cons r rr =>
 cases rr;cases r;obtain⟨_,hd,vs,kv,hD⟩:=wj I.bC ha;obtain⟨ep,hA⟩:=hD.dictAt;have vO:vs.map (·.1)=ns.map Sum.inl:=kv.keys.symm.trans hk;have JB:ns.Nodup:=by
  obtain⟨_,_,_,_,_,_,_,_,nd⟩:=id hD;rw[vO] at nd;exact(List.pairwise_map.mp nd).imp λh e=>h (dI _ e)
 refine ST.Rz (I.ok.hd hc) hd hA vO (by omega) λS us ji e h' iV h1 h2 h3 h4 h5 h6 _=>?_;have e1:ji=B1 ns:=Q4 (h2.trans ((V2 ns).trans (by rw[FI (ks:=[]) JB];exact .refl _)).symm) h3 (Ft ns);subst e1;have hz:=EY ns;exact⟨.ref S,_,(I.laid (a:=S) (o:=.lst ((B1 ns).map V.int)) (t':=iV) h6 h5 ⟨by rw[ah];exact aM hz (aM (cK hl) (by decide)),us,e,U7 h1,h4⟩),rfl,q S (I.bC.fresh h5)⟩
theorem S4{aQ:List Value}{ns:List Int}(hi:IntsAre aQ ns):∃xs,aQ.toArray=intItems xs/\ns=xs.toList.map (·.1):=by
 obtain⟨xs,e⟩:=hi.allInts.items;exact⟨xs,e,by rw[<- hi.numsOf,<- nums_intItems,<- e]⟩
theorem Uj(hc:X.calm=true):j2 X (.builtin "sum") (λxs H Q=>∃a,∃ns:List Int,xs=[.ref a]/\fj X.K H a (ns.map V.int)/\Q (.int ns.sum) H):=by
 intro pins s Z H xs us Q I r h;obtain⟨a,ns,rfl,ha,q⟩:=h;obtain⟨u,rfl,ru⟩:=vals1 r;cases ru;obtain⟨aQ,rv,p,hz⟩:=I.list ha;obtain⟨xs,e,en⟩:=S4 (u9 rv);refine sum_intListG (xs:=xs) (I.ok.hd hc) (by rw[<- e];exact p.isList) λh' tk t' k=>⟨.int ns.sum,H,I.kept k,⟨t',?_⟩,q⟩
 rw[preSum_eq,rS (by simp),en]
theorem Ug(hc:X.calm=true):j2 X (.builtin "max") (λxs H Q=>∃a,∃(ns:List Int) (M:Int),xs=[.ref a]/\fj X.K H a (ns.map V.int)/\M∈ns/\(∀x∈ns,x<=M)/\Q (.int M) H):=by
 intro pins s Z H xs us Q I r h;obtain⟨a,ns,M,rfl,ha,hm,hM,q⟩:=h;obtain⟨u,rfl,ru⟩:=vals1 r;cases ru;obtain⟨aQ,rv,p,hz⟩:=I.list ha;obtain⟨xs,e,en⟩:=S4 (u9 rv);have hsz:0<xs.size:=by
  have:=rX hm;rw[en,ah,bg] at this;exact this
 refine max_intList (xs:=xs) (I.ok.hd hc) (by rw[<- e];exact p.isList) hsz λv h' tk hv k=>?_;obtain⟨t,rfl⟩:=intItems_at hv;obtain⟨h1,h2⟩:=argBest_gt (numAt xs) (xs.size-1);generalize argBest (λi j=>decide (numAt xs i>numAt xs j)) (xs.size-1)=j0 at *;have m1:numAt xs j0∈ns:=by rw[en,numAt_eq];exact getD_mem (by rw[ah,bg];omega)
 have m2:M<=numAt xs j0:=by
  rw[en] at hm;obtain⟨j,hj,rfl⟩:=mem_getD hm;rw[ah,bg] at hj;rw[<- numAt_eq];exact h2 j (by omega)
 have e2:numAt xs j0=M:=Int.le_antisymm (hM _ m1) m2;exact⟨.int M,H,I.kept k,⟨t,by rw[e2]⟩,q⟩
theorem Ui(hc:X.calm=true):j2 X (.builtin "min") (λxs H Q=>∃a,∃(ns:List Int) (M:Int),xs=[.ref a]/\fj X.K H a (ns.map V.int)/\M∈ns/\(∀x∈ns,M<=x)/\Q (.int M) H):=by
 intro pins s Z H xs us Q I r h;obtain⟨a,ns,M,rfl,ha,hm,hM,q⟩:=h;obtain⟨u,rfl,ru⟩:=vals1 r;cases ru;obtain⟨aQ,rv,p,hz⟩:=I.list ha;obtain⟨xs,e,en⟩:=S4 (u9 rv);have hsz:0<xs.size:=by
  have:=rX hm;rw[en,ah,bg] at this;exact this
 refine min_intList (xs:=xs) (I.ok.hd hc) (by rw[<- e];exact p.isList) hsz λv h' tk hv k=>?_;obtain⟨t,rfl⟩:=intItems_at hv;obtain⟨h1,h2⟩:=argBest_lt (numAt xs) (xs.size-1);generalize argBest (λi j=>decide (numAt xs i<numAt xs j)) (xs.size-1)=j0 at *;have m1:numAt xs j0∈ns:=by rw[en,numAt_eq];exact getD_mem (by rw[ah,bg];omega)
 have m2:numAt xs j0<=M:=by
  rw[en] at hm;obtain⟨j,hj,rfl⟩:=mem_getD hm;rw[ah,bg] at hj;rw[<- numAt_eq];exact h2 j (by omega)
 have e2:numAt xs j0=M:=Int.le_antisymm m2 (hM _ m1);exact⟨.int M,H,I.kept k,⟨t,by rw[e2]⟩,q⟩
theorem Ub(hc:X.calm=true):j2 X (.builtin "all") (λxs H Q=>∃(a:Addr) (ns:List Int),xs=[.ref a]/\fj X.K H a (ns.map V.int)/\Q (.bl (ns.all λn=>n != 0)) H):=by
 intro pins s Z H xs us Q I r h;obtain⟨a,ns,rfl,ha,q⟩:=h;obtain⟨u,rfl,ru⟩:=vals1 r;cases ru;obtain⟨aQ,rv,p,hz⟩:=I.list ha;refine call_all_walk ?_;refine fc p.isList ?_;have dO:a≠s.heap.objs.size:=by
  obtain⟨o,e,_⟩:=id p.isList;exact aF (ao e)
 have hl:=rv.length;rw[ah] at hl;refine⟨s.heap.objs.size,_,_,_,_,_,λi=>ns.getD i 1 != 0,rfl,xr (A:=X.A.in1) (I.ok.hd hc) _ a dO aQ.toArray,⟨⟨_,aw _ rfl,rfl,rfl⟩,?_⟩,?_,λh' tk k=>?_⟩
 ·obtain⟨o,e,q1⟩:=id p.isList;exact⟨o,ag _ e,q1⟩
 ·intro i v s' Q' E' hP hQ;have hv:aQ[i]?=some v:=by simpa using hP
  have hi:i<ns.length:=by rw[hl];exact(aq.mp hv).1
  obtain⟨u',nX,sI⟩:=rv.get (i:=i) (x:=V.int ns[i]) (by rw[aD,az hi];rfl);rw[hv] at nX;cases nX;obtain⟨t,rfl⟩:=sI;refine truthy_int ?_;have:ns.getD i 1=ns[i]:=by simp[List.getD,hi]
  dsimp only at hQ;rw[this] at hQ;exact hQ
 ·have e1:(List.range aQ.toArray.size).all (λi=>ns.getD i 1 != 0)=ns.all λn=>n != 0:=by
   rw[aC,<- hl];rw[bX];simp only[List.all_eq_true,List.mem_range];constructor
   ·intro hh x hx;obtain⟨i,hi,rfl⟩:=cM.mp hx;have:=hh i hi;simpa[List.getD,hi] using this
   ·intro hh i hi;have:=hh ns[i] (dN hi);simpa[List.getD,hi] using this
  rw[e1];exact ⟨.bl _,H,I.kept (t':=tk) λb o e=>k b o (by
   intro hb;have:b=s.heap.objs.size:=by simpa using hb
   exact absurd (ao e) (by rw [this];exact aZ _)) (ag _ e),rfl,q⟩
theorem Sa:j2 X (.builtin "len") (λxs H Q=>∃a,∃ks:List Int,xs=[.ref a]/\H a=some (qp X a ks)/\Q (.int ks.length) H):=by
 intro pins s Z H xs us Q I r h;obtain⟨a,ks,rfl,ha,q⟩:=h;obtain⟨u,rfl,ru⟩:=vals1 r;cases ru;have hS:ST.p9 X.prog X.w s.heap a ks:=(I.bC a _ ha).1;obtain⟨o,es,ep,t,e,ex,ed,_,hp,nd,hz,hf,_⟩:=hS;have hl:es.size=ks.length:=by have:=hp.length_eq;simpa using this
 refine call_len_set e ex ed hf (by have:scanBound<2 ^ 62:=(by decide);omega) ⟨.int ks.length,H,I.tok _,⟨_,by rw[hl]⟩,q⟩
theorem UL:fk X (compareOp .In) (λx y H Q=>∃i a S n,x=.int i/\y=.ref a/\H a=some (.set S n)/\Q (.bl (S i)) H):=by
 intro pins s Z H x y v u Q I rx ry h;obtain⟨i,a,S,n,rfl,rfl,ha,q⟩:=h;obtain⟨t,rfl⟩:=rx;cases ry;exact wpAny_inSet_of (knd:=intKind X.prog X.w) (k:=i) (gE _ _ _ _) rfl (I.bC a _ ha) ⟨.bl (S i),H,I.tok _,rfl,q⟩
theorem RU:fk X (compareOp .NotIn) (λx y H Q=>∃i a S n,x=.int i/\y=.ref a/\H a=some (.set S n)/\Q (.bl (!S i)) H):=by
 intro pins s Z H x y v u Q I rx ry h;obtain⟨i,a,S,n,rfl,rfl,ha,q⟩:=h;obtain⟨t,rfl⟩:=rx;cases ry;exact wpAny_notInSet_of (knd:=intKind X.prog X.w) (k:=i) (gE _ _ _ _) rfl (I.bC a _ ha) ⟨.bl (!S i),H,I.tok _,rfl,q⟩
end L2
namespace ST
open PySem PyProof.Rows
section
variable{prog:Program}{w:World}{A:Around}{E:Value->Shared->Prop}{s:Shared}{a:Addr}
theorem VR{T:String}{o:Obj}{items:Array Value}{n:Nat}{ns:List Int}(hT:T="list"\/T="tuple")(ho:s.heap.get? a=some o)(hc:o.cls=.type T)(hd:o.data=.seq items n)(hI:IntsAre items.toList ns)(zh:ns.length<60){Q:Value->Shared->Prop}(h:∀(h1:Heap) (vs:List Value) (ji:List Int) e h',(∀b o',s.heap.get? b=some o'->h1.get? b=some o')->IntsAre vs ji->ji.Perm ns->ji.Pairwise (·<=·)->h'.get? h1.objs.size=some (seqObj "list" vs.toArray e)->(∀c o,h1.get? c=some o->h'.get? c=some o)->Q (.ref h1.objs.size) { s with heap:=h' }) :
  wpAny (model prog w) A (call (.builtin "sorted") [.ref a]) Q E s:=by
 have hl:items.toList.length=ns.length:=W9 hI;refine gX kind_sorted plain_sorted entry_sorted (args_sorted1 _) ?_;unfold Builtin.«sorted»;refine aa (m:=checkCount "sorted" 1 1 _) (ai ?_);refine aa (wpAny_collect_seq (A:=A.in1) a hT ho hc hd (λh1 kp=>?_) (by simp at hl;unfold sizeLine;omega));have oh:items.toList.length<64:=by omega
 generalize items.toList=vs at *;refine aa (Iq (s:={ s with heap:=h1 }) ?_);have kH:(h1.push (seqObj "list" vs.toArray 0)).get? h1.objs.size=some (seqObj "list" vs.toArray 0):=aw _ rfl;refine aa (bw (bT (s:={ s with heap:=h1.push (seqObj "list" vs.toArray 0) }) slot_list_sort ⟨_,kH,rfl⟩ entry_list_sort (list_sort_tree kH hI oh λout ji a1 a2 a3=>⟨_,rfl,?_⟩) (args_list_sort _)));obtain⟨e,pT⟩:=sortedHeap_at (vs:=vs) (out:=out) kH;refine ai ⟨_,rfl,h h1 out.toList ji e _ kp a1 a2 a3 pT (λc o' e'=>?_)⟩;have hc:=ao e';rw[sortedHeap_old (aF hc) (by rw[gw];exact kc hc)];exact ag _ e'
end
end ST
namespace L2
open PySem PyProof.Rows
def B2(ns:List Int):List Int:=ns.mergeSort (λa b=>decide (a<=b))
theorem VQ(ns:List Int):(B2 ns).Pairwise (·<=·):=by
 have:=qy (le:=λa b:Int=>decide (a<=b)) (λa b c h1 h2=>by simp at *;omega) (λa b=>by simp;omega) ns;exact this.imp λh=>by simpa using h
theorem V3(ns:List Int):(B2 ns).Perm ns:=BV _ _
section
variable{X:Cx}
theorem Sn:j2 X (.builtin "sorted") (λxs H Q=>∃p,∃ns:List Int,xs=[.ref p]/\(fj X.K H p (ns.map V.int)\/hZ X.K H p (ns.map V.int))/\ns.length<60/\∀l,H l=none->Q (.ref l) (upd H l (.lst ((B2 ns).map V.int)))):=by
 intro pins s Z H xs us Q I r h;obtain⟨p,ns,rfl,hq,hl,q⟩:=h;obtain⟨u,rfl,rx⟩:=vals1 r;cases rx;obtain⟨T,aQ,o,n,hT,r',ho,hc,hd⟩:∃T,∃(aQ:List Value) (o:Obj) (n:Nat),(T="list"\/T="tuple")/\Vals (ns.map V.int) aQ/\s.heap.get? p=some o/\o.cls=.type T/\o.data=.seq aQ.toArray n:=by
  rcases hq with hq|hq
  ·obtain⟨aQ,r',pl,_⟩:=I.list hq;obtain⟨o,ho,hc,n,hd⟩:=pl.isList;exact⟨_,aQ,o,n,.inl rfl,r',ho,hc,hd⟩
  ·obtain⟨aQ,r',⟨o,ho,hc,n,hd⟩,_⟩:=I.tuple hq;exact⟨_,aQ,o,n,.inr rfl,r',ho,hc,hd⟩
 refine ST.VR hT ho hc hd (u9 r') hl λh1 vs ji e h' kp i1 i2 i3 i4 i5=>?_;have e1:ji=B2 ns:=Q4 (i2.trans (V3 ns).symm) i3 (VQ ns);subst e1;have I1:Inv X pins Z H { s with heap:=h1 }:=I.kept (t':=s.toks) kp;have hz:(B2 ns).length<=10000:=by rw[(V3 ns).length_eq];omega
 exact⟨.ref h1.objs.size,_,(I1.laid (a:=h1.objs.size) (o:=.lst ((B2 ns).map V.int)) (t':=s.toks) i5 (ak _) ⟨by rw[ah];exact aM hz (by decide),vs,e,U7 i1,i4⟩),rfl,q _ (I1.bC.fresh (ak _))⟩
theorem Fc:∀{ks:List Key} {l:List Value},l.length=ks.length->(∀(i:Nat) v,l[i]?=some v->∃k,ks[i]?=some k/\Q9 k v=true)->Vals (ks.map kV) l
 |[],[],_,_=>.nil
 |k::ks,v::l,hl,h=>by
  obtain⟨k',e,hk⟩:=h 0 v rfl;cases e;refine .cons ?_ (Fc (by simpa using hl) λi v e=>h (i+1) v e);rcases n5 hk with⟨i,t,rfl,rfl⟩|⟨x,t,rfl,rfl⟩<;>exact⟨t,rfl⟩
theorem Sl(hc:X.calm=true):j2 X (.type "list") (λxs H Q=>∃a kvs,xs=[.ref a]/\H a=some (.dK kvs)/\kvs.length<=10000/\∀p,H p=none->Q (.ref p) (upd H p (.lst ((kvs.map (·.1)).map kV)))):=by
 intro pins s Z H xs us Q I r h;obtain⟨a,kvs,rfl,ha,hl,q⟩:=h;obtain⟨u,rfl,rx⟩:=vals1 r;cases rx;obtain⟨_,hd,vs,kv,hD⟩:=wj I.bC ha;obtain⟨ep,hA⟩:=hD.dictAt;have oh:vs.length<=10000:=by rw[<- kv.length];exact hl
 refine PySem.W.kdl_call (PySem.W.kdl_dict (kvs:=vs) (ep:=ep) hd) (I.ok.hd hc) hA (aM oh (by decide)) λh' tk acc c k1 k2 k3=>?_;have hv:Vals ((kvs.map (·.1)).map kV) acc.toList:=by
  refine Fc (by rw[bg,k3.1,ah,kv.length]) λi v e=>?_;obtain⟨k,x,e1,e2⟩:=k3.2 i v (by simpa using e);exact⟨k,by rw[kv.keys,aD,e1];rfl,e2⟩
 exact⟨.ref s.heap.objs.size,_,(I.laid (a:=s.heap.objs.size) (o:=.lst ((kvs.map (·.1)).map kV)) (t':=tk) k1 (ak _) ⟨by rw[ah,ah];exact aM hl (by decide),acc.toList,c,hv,by simpa using k2⟩),rfl,q _ (I.bC.fresh (ak _))⟩
end
end L2
namespace ST
open PySem PyProof.Rows
end ST
namespace L2
open PySem PyProof.Rows
section
variable{X:Cx}
theorem WJ{h:Heap}{a:Addr}{ns:List Int}(x:ST.p9 X.prog X.w h a (ST.i9 [] ns)):h.SetOf (intKind X.prog X.w) a (λk=>decide (k∈ns)) (ST.i9 [] ns).length:=by
 obtain⟨o,es,ep,t,ho,hx,hd,lR,hp,hn,hb,hf,hw⟩:=x;refine⟨o,es,ep,t,ho,hx,hd,lR,λk=>?_,hb,hf,by rw[<- hp.length_eq];simp⟩;have mem:k∈ns↔k∈es.toList.map λe=>ST.toI e.2:=by rw[hp.mem_iff,ST.Fl];simp
 rw[aU,mem];constructor
 ·intro z;obtain⟨e,he,rfl⟩:=aN.mp z;obtain⟨tk,h1,_⟩:=ST.wQ lR he;refine⟨e,he,?_⟩;rw[h1];exact gE _ _ _ _
 ·rintro⟨e,he,z⟩;obtain⟨tk,h1,_⟩:=ST.wQ lR he;refine aN.mpr ⟨e,he,?_⟩;have h2:(intKind X.prog X.w).is (ST.toI e.2) e.2=true:=by rw[h1];exact gE _ _ _ _
  exact(intKind X.prog X.w).inj _ _ _ h2 z
theorem Sb(hc:X.calm=true):j2 X (.type "set") (λxs H Q=>∃a ns,xs=[.ref a]/\fj X.K H a (ns.map V.int)/\ns.length<600/\∀p,H p=none->Q (.ref p) (upd H p (.set (λk=>decide (k∈ns)) (ST.i9 [] ns).length))):=by
 intro pins s Z H xs us Q I r h;obtain⟨a,ns,rfl,hq,hl,q⟩:=h;cases r with
 |cons r rr =>
 cases rr;cases r;obtain⟨aQ,rv,p,hz⟩:=I.list hq;have hI:=u9 rv;have hlen:=ST.W9 hI;refine ST.Ed (ns:=ns) (I.ok.hd hc) (.inl p.isList) (by simpa using hI) (by rw[aC,hlen];exact ay (Ys hl) (by decide)) λh' tk hS hk _=>?_;exact⟨.ref _,_,I.laid (a:=s.heap.objs.size) (o:=.set (λk=>decide (k∈ns)) (ST.i9 [] ns).length) (t':=tk) hk (ak _) (WJ hS),rfl,q _ (I.bC.fresh (ak _))⟩
end
end L2
namespace L2
open PySem PySem.Spec PyProof.Rows
variable{prog:Program}{w:World}{A:Around}{s:Shared}{X:Cx}{vs:List Value}{ns:List Int}{I:Addr}{fp wr:List Addr}{vb:Value}{c:Nat}
theorem O4{P:Program}{k:Key}{u:Value}(h:(k6 P w).is k u=true):RelV (kV k) u:=by
 rw[Fm] at h;rcases n5 h with⟨j,t,e1,e2⟩|⟨x,t,e1,e2⟩
 ·subst e1 e2;exact⟨t,rfl⟩
 ·subst e1 e2;exact⟨t,rfl⟩
theorem KV.at{kvs:List (Key×V)}{vs:List (Key×Value)}(r:KV kvs vs):∀{i:Nat} {k:Key} {x:V},kvs[i]?=some (k,x)->∃u,vs[i]?=some (k,u)/\RelV x u:=by
 unfold KV at r
 induction r with
 |nil=>intro i k x h;simp at h
 |cons h r ih =>
  intro i k x e;cases i with
  |zero =>
   simp at e;subst e;obtain⟨h1,h2⟩:=h;exact ⟨_,by
    show some _=some (k,_);have zp:k=_:=h1;rw [zp],h2⟩
  |succ i=>simpa using ih (by simpa using e)
def C5:List Int->List Int->Bool
 |x::xs,y::ys=>if x=y then C5 xs ys else decide (x<y)
 |_,_=>false
theorem ints_get(h:IntsAre vs ns):∀{i:Nat} (hi:i<ns.length),∃t,vs[i]?=some (.int (ns[i]'hi) t):=by
 induction h with
 |nil=>intro i hi;simp at hi
 |cons _ _ _ ih =>
  intro i hi;cases i with
  |zero=>exact⟨_,rfl⟩
  |succ i=>simpa using ih (by simpa using hi)
section
open PySem.SeqAt
theorem UH(l b:Addr)(vs ws:List Value)(ns ms:List Int)(n n2:Nat)(hv:IntsAre vs ns)(hw:IntsAre ws ms)(hl:ns.length=ms.length)(k:Nat) :
  ∀i:Nat,ns.length-i=k->i<=ns.length->Meets (Builtin.«list.__eq__.loop» ⟨[.ref l,.ref b,rawInt i,rawInt 0],[]⟩)
   (λA R s=>s.heap.get? l=some { cls:=.type "list",data:=.seq vs.toArray n }/\s.heap.get? b=some { cls:=.type "list",data:=.seq ws.toArray n2 } /\
    R (.ok (.ret (.bool (C5 (ns.drop i) (ms.drop i))))) s):=by
 have lv:=hv.length;have lw:=hw.length
 induction k with
 |zero =>
  intro i hk JJ prog w A R s h;obtain⟨hp,g,d,tk,os⟩:=s;obtain⟨jU,hb,h⟩:=h;have hi:i=ns.length:=by omega
  wp_walk using ba jU,ba hb
  have qR:vs.toArray[((i:Nat):Int).toNat]?=none:=by simp;omega
  have mO:ws.toArray[((i:Nat):Int).toNat]?=none:=by simp;omega
  have hd:ns.drop i=[]:=by rw[hi];simp
  rw[hd] at h;rw[qR,mO]
  wp_walk using ba jU,ba hb
  show R (.ok (.ret (.bool (decide (vs.toArray.size<ws.toArray.size))))) _;rw[aL (by simp;omega)];exact h
 |succ k ih =>
  intro i hk JJ prog w A R s h;obtain⟨hp,g,d,tk,os⟩:=s;obtain⟨jU,hb,h⟩:=h;have eF:i<ns.length:=by omega
  have tL:i<ms.length:=by omega
  obtain⟨t1,e1⟩:=ints_get hv eF;obtain⟨t2,e2⟩:=ints_get hw tL
  wp_walk using ba jU,ba hb
  have qR:vs.toArray[((i:Nat):Int).toNat]?=some (.int ns[i] t1):=by simpa using e1
  have mO:ws.toArray[((i:Nat):Int).toNat]?=some (.int ms[i] t2):=by simpa using e2
  have hc:((i:Int)+1)=((i+1:Nat):Int):=by omega
  rw[cI eF,cI tL] at h;simp only[C5] at h;rw[qR,mO];refine aa (SeqAt.EqAt.int_int _ _ _ _ prog w _ _ ?_);by_cases he:ns[i]=ms[i]
  ·rw[aE he] at h;rw[show(ns[i]==ms[i])=true from fG.mpr he]
   wp_walk
   rw[hc];exact ⟨cq eT _,bA Xk (by
    rw[bc eT _];exact ih (i + 1) (by omega) (by omega) prog w A R _ ⟨jU,hb,h⟩)⟩
  ·rw[aB he] at h;rw[show(ns[i]==ms[i])=false from cF.mpr he]
   wp_walk using ba jU,ba hb
   rw[qR,mO];refine aa (richCompare_gives (op:=.Lt) (gD _ _ t1) (gD _ _ t2) F.slot_int_lt F.entry_int_lt (F.args_int_lt_2 _ _) (gives_int_lt _ _ t1 t2) (λx=>nomatch x) ?_);exact ai h
end
section
variable{E:Value->Shared->Prop}
theorem UE(l b:Addr)(vs ws:List Value)(ns ms:List Int)(n n2:Nat)(hv:IntsAre vs ns)(hw:IntsAre ws ms)(hl:ns.length=ms.length) :
  Meets (Builtin.«list.__lt__» ⟨[.ref l,.ref b],[]⟩)
   (λA R s=>s.heap.get? l=some { cls:=.type "list",data:=.seq vs.toArray n }/\s.heap.get? b=some { cls:=.type "list",data:=.seq ws.toArray n2 } /\
    R (.ok (.ret (.bool (C5 ns ms)))) s):=by
 intro prog w A R s h;obtain⟨hp,g,d,tk,os⟩:=s;obtain⟨jU,hb,h⟩:=h;have f3:=AutoSeq1.sub_list_list
 wp_walk using ba jU,ba hb
 exact ⟨cq eT _,bA Xk (by
  rw[bc eT _];exact UH l b vs ws ns ms n n2 hv hw hl _ 0 rfl (bG _) prog w A R _ ⟨jU,hb,h⟩)⟩
theorem SM{l b:Addr}{ws:List Value}{ms:List Int}{n n2:Nat}{Q:Value->Shared->Prop}(hv:IntsAre vs ns)(hw:IntsAre ws ms)(hl:ns.length=ms.length)(h1:s.heap.get? l=some { cls:=.type "list",data:=.seq vs.toArray n })(h2:s.heap.get? b=some { cls:=.type "list",data:=.seq ws.toArray n2 })(hu:A.units<cLine)(h:Q (.bool (C5 ns ms)) s) :
  wpAny (model prog w) A (richCompare .Lt (.ref l) (.ref b)) Q E s :=
 richCompare_meets_room (op:=.Lt) ⟨_,h1,rfl⟩ ⟨_,h2,rfl⟩ F.slot_list_lt F.entry_list_lt (F.args_list_lt_2 _ _) (UE l b vs ws ns ms n n2 hv hw hl)
  ⟨h1,h2,show Value.bool (C5 ns ms)≠Value.notImplemented/\Q (.bool (C5 ns ms)) s from⟨(λx=>nomatch x),h⟩⟩ hu
theorem FL{P:Nat->Value->Prop}{St:Nat->Heap->Prop}{R:Result->Shared->Prop}(W:Walks prog w A.in1 I fp wr 2 P St)(S:Addr)(kL:S∉fp)(dg:St 2 s.heap)(hS:s.heap.get? S=some { cls:=.type "list",dict:=none,data:=.seq #[vb,vb] c,slots:=#[] })(hR:∀h' tk,(∀b o,b∉wr->b≠S->s.heap.get? b=some o->h'.get? b=some o)->R (.ok (.ret vb)) { s with heap:=h',toks:=tk }) :
  codeAny (model prog w) A (.builtin "min.loop" ⟨[.ref I,.none,.ref S],[]⟩) R s:=by
 have lW:S∉wr:=λh=>kL (W.sub _ h);refine bA oR ?_;rw[bc dB _];show wpAny _ A.in1 (seqItems? (.ref S) >>= _) _ _ s;refine aa (gz hS rfl ?_);show wpAny _ A.in1 (tryCatch (pyNext (.ref I)) _ >>= _) _ _ s;refine aa (jX (W.done s _ _ dg λh' tk jt=>?_));have ju:=jt S _ lW hS;show wpAny _ A.in1 (updateSeq S (λ_=>#[]) >>= _) _ _ _;refine aa ?_;refine dG ju rfl (aa (qu (ai ?_)));exact hR _ tk λb o kK lU e=>(aT _ _ (bB lU)).trans (jt b o kK e)
theorem RT{P:Nat->Value->Prop}{St:Nat->Heap->Prop}{R:Result->Shared->Prop}(W:Walks prog w A.in1 I fp wr 2 P St)(S:Addr)(kL:S∉fp){va:Value}{bt:Bool}(dg:St 1 s.heap)(hP:∀v,P 1 v->v=vb)(hS:s.heap.get? S=some { cls:=.type "list",dict:=none,data:=.seq #[va,va] c,slots:=#[] })(pV:∀h' tk (Q:Value->Shared->Prop) (E:Value->Shared->Prop),(∀b o,b∉wr->s.heap.get? b=some o->h'.get? b=some o)->Q (.bool bt) { s with heap:=h',toks:=tk }->wpAny (model prog w) A.in1 (richCompare .Lt vb va) Q E { s with heap:=h',toks:=tk })(hR:∀h' tk,(∀b o,b∉wr->b≠S->s.heap.get? b=some o->h'.get? b=some o)->R (.ok (.ret (if bt then vb else va))) { s with heap:=h',toks:=tk }) :
  codeAny (model prog w) A (.builtin "min.loop" ⟨[.ref I,.none,.ref S],[]⟩) R s:=by
 have lW:S∉wr:=λh=>kL (W.sub _ h);have iZ:(toString "min"++toString ".loop":String)="min.loop":=by decide
 refine bA oR ?_;rw[bc dB _];show wpAny _ A.in1 (seqItems? (.ref S) >>= _) _ _ s;refine aa (gz hS rfl ?_);show wpAny _ A.in1 (tryCatch (pyNext (.ref I)) _ >>= _) _ _ s;refine aa (jX (W.item 1 s _ _ (by decide) dg λv h' tk yY ny jt=>?_));obtain rfl:=hP v yY;have ju:=jt S _ lW hS;show wpAny _ A.in1 (tryCatch (holding [v,v] (richCompare .Lt v va >>= _)) _ >>= _) _ _ _;refine aa (jX (bw (aa (pV h' tk _ _ jt ?_))));refine aa (bw (bE ?_));refine aa (qu (ai ?_));cases bt with
 |true =>
  simp only[if_true] at hR ⊢;refine aa ?_;refine dG ju rfl (aa (qu ?_));rw[iZ];refine ai ⟨cq dB _,FL W S kL (W.frame _ _ _ ny λb yR o e=>?_) (aS _ ju rfl) λjv ke kj=>?_⟩
  ·exact(aT _ _ (λh:S=b=>kL (by rw[h];exact yR))).trans e
  ·exact hR jv ke λb o kK lU e=>kj b o kK lU ((aT _ _ (bB lU)).trans (jt b o kK e))
 |false =>
  simp only[Bool.false_eq_true,if_false] at hR ⊢;refine aa (qu ?_);rw[iZ];refine ai ⟨cq dB _,FL W S kL ny ju λjv ke kj=>?_⟩;exact hR jv ke λb o kK lU e=>kj b o kK lU (jt b o kK e)
theorem RS{P:Nat->Value->Prop}{St:Nat->Heap->Prop}{R:Result->Shared->Prop}(W:Walks prog w A.in1 I fp wr 2 P St)(S:Addr)(kL:S∉fp){va:Value}{bt:Bool}(dg:St 0 s.heap)(Kd:∀v,P 0 v->v=va)(hP:∀v,P 1 v->v=vb)(hS:s.heap.get? S=some { cls:=.type "list",dict:=none,data:=.seq #[] c,slots:=#[] })(pV:∀h' tk (Q:Value->Shared->Prop) (E:Value->Shared->Prop),(∀b o,b∉wr->b≠S->s.heap.get? b=some o->h'.get? b=some o)->Q (.bool bt) { s with heap:=h',toks:=tk }->wpAny (model prog w) A.in1 (richCompare .Lt vb va) Q E { s with heap:=h',toks:=tk })(hR:∀h' tk,(∀b o,b∉wr->b≠S->s.heap.get? b=some o->h'.get? b=some o)->R (.ok (.ret (if bt then vb else va))) { s with heap:=h',toks:=tk }) :
  codeAny (model prog w) A (.builtin "min.loop" ⟨[.ref I,.none,.ref S],[]⟩) R s:=by
 have lW:S∉wr:=λh=>kL (W.sub _ h);have iZ:(toString "min"++toString ".loop":String)="min.loop":=by decide
 refine bA oR ?_;rw[bc dB _];show wpAny _ A.in1 (seqItems? (.ref S) >>= _) _ _ s;refine aa (gz hS rfl ?_);show wpAny _ A.in1 (tryCatch (pyNext (.ref I)) _ >>= _) _ _ s;refine aa (jX (W.item 0 s _ _ (by decide) dg λv h' tk yY ny jt=>?_));obtain rfl:=Kd v yY;have ju:=jt S _ lW hS;show wpAny _ A.in1 (updateSeq S (λ_=>#[v,v]) >>= _) _ _ _;refine aa ?_;refine dG ju rfl ?_;rw[iZ];refine ai ⟨cq dB _,RT (bt:=bt) W S kL (W.frame _ _ _ ny λb yR o e=>?_) hP (aS _ ju rfl) (λjv ke Q E kj q=>?_) λjv ke kj=>?_⟩
 ·exact(aT _ _ (λh:S=b=>kL (by rw[h];exact yR))).trans e
 ·exact pV jv ke Q E (λb o kK lU e=>kj b o kK ((aT _ _ (bB lU)).trans (jt b o kK e))) q
 ·exact hR jv ke λb o kK lU e=>kj b o kK lU ((aT _ _ (bB lU)).trans (jt b o kK e))
theorem Sg{a b:Addr}{ws:List Value}{ms:List Int}{n n2:Nat}{Q:Value->Shared->Prop}(hh:A.handled=none)(hu:A.in1.units<cLine)(hv:IntsAre vs ns)(hw:IntsAre ws ms)(hl:ms.length=ns.length)(h1:s.heap.get? a=some { cls:=.type "list",data:=.seq vs.toArray n })(h2:s.heap.get? b=some { cls:=.type "list",data:=.seq ws.toArray n2 })(h:∀h' tk,(∀c o,s.heap.get? c=some o->h'.get? c=some o)->Q (if C5 ms ns then .ref b else .ref a) { s with heap:=h',toks:=tk }) :
  wpAny (model prog w) A (call (.builtin "min") [.ref a,.ref b]) Q E s:=by
 have iZ:(toString "min"++toString ".loop":String)="min.loop":=by decide
 refine call_function_tree F.kind_min F.plain_min F.entry_min (F.args_min2 _ _) ?_;show wpAny _ A.in1 (Builtin.Builtins.bindParams "min" ["key","default"] 0 ⟨[],[]⟩ >>= _) _ _ s;refine aa (dE (show Builtin.Builtins.bindParams "min" ["key","default"] 0 ⟨[],[]⟩=pure [none,none] from rfl) ?_);show wpAny _ A.in1 (newTuple [.ref a,.ref b] >>= _) _ _ s;refine aa (bq ?_);have hT:(s.heap.push { cls:=.type "tuple",data:=.seq #[.ref a,.ref b] }).IsTuple s.heap.objs.size #[.ref a,.ref b]:=⟨_,aw _ rfl,rfl,0,rfl⟩
 have hsz:(s.heap.push { cls:=.type "tuple",data:=.seq #[.ref a,.ref b] }).objs.size=s.heap.objs.size+1:=cv ..;refine aa (kZ hT ?_);have dO:s.heap.objs.size≠(s.heap.push { cls:=.type "tuple",data:=.seq #[.ref a,.ref b] }).objs.size:=by rw[hsz];exact aF (cW _)
 have W:=Walks.tuple (prog:=prog) (w:=w) (A:=A.in1) hh (s.heap.push { cls:=.type "tuple",data:=.seq #[.ref a,.ref b] }).objs.size s.heap.objs.size dO #[.ref a,.ref b];refine aa (bq ?_);have kp:∀c o,s.heap.get? c=some o->c<s.heap.objs.size/\(((s.heap.push { cls:=.type "tuple",data:=.seq #[.ref a,.ref b] }).push { cls:=.type "tuple_iterator",data:=.fields #[.ref s.heap.objs.size,.int 0 0] }).push { cls:=.type "list",data:=.seq #[] }).get? c=some o:=λc o e=>⟨ao e,ag _ (ag _ (ag _ e))⟩
 have Ka:=hT.push { cls:=.type "tuple_iterator",data:=.fields #[.ref s.heap.objs.size,.int 0 0] };rw[iZ];have big:∀c,c<s.heap.objs.size->c∉[(s.heap.push { cls:=.type "tuple",data:=.seq #[.ref a,.ref b] }).objs.size]/\c≠((s.heap.push { cls:=.type "tuple",data:=.seq #[.ref a,.ref b] }).push { cls:=.type "tuple_iterator",data:=.fields #[.ref s.heap.objs.size,.int 0 0] }).objs.size:=λc hc=>by
  refine⟨λz=>?_,λz=>?_⟩
  ·have:=aK.mp z;rw[hsz] at this;omega
  ·rw[cv,hsz] at z;omega
 refine ai ⟨cq dB _,RS (va:=.ref a) (vb:=.ref b) (bt:=C5 ms ns) W _ (λz=>?_) (W.frame _ _ _ ⟨⟨_,aw _ rfl,rfl,rfl⟩,Ka⟩ λb _ o e=>ag _ e) (λv e=>by simpa using e.symm) (λv e=>by simpa using e.symm) (aw _ rfl) (λh' tk Q E hk q=>?_) λh' tk hk=>?_⟩
 ·rcases aA.mp z with z|z
  ·rw[cv] at z;exact absurd z (Nat.succ_ne_self _)
  ·have:=aK.mp z;rw[cv] at this;have t:(s.heap.push { cls:=.type "tuple",data:=.seq #[.ref a,.ref b] }).objs.size+1=s.heap.objs.size:=this;rw[hsz] at t;omega
 ·obtain⟨l1,k1⟩:=kp a _ h1;obtain⟨l2,k2⟩:=kp b _ h2;exact SM hw hv hl (hk b _ (big b l2).1 (big b l2).2 k2) (hk a _ (big a l1).1 (big a l1).2 k1) hu q
 ·exact h h' tk λc o e=>hk c o (big c (kp c o e).1).1 (big c (kp c o e).1).2 (kp c o e).2
end
theorem Sm(hc:X.calm=true)(hu:X.A.units+100<cLine):j2 X (.builtin "min") (λxs H Q=>∃a b,∃(ns ms:List Int),xs=[.ref a,.ref b]/\H a=some (.lst (ns.map V.int))/\H b=some (.lst (ms.map V.int))/\ms.length=ns.length/\Q (if C5 ms ns then .ref b else .ref a) H):=by
 intro pins s Z H xs us Q I r h;obtain⟨a,b,ns,ms,rfl,ha,hb,hl,q⟩:=h;obtain⟨u1,u2,rfl,r1,r2⟩:=vals2 r;cases r1;cases r2;obtain⟨_,aQ,n,rv,_,e1⟩:=I.qm ha;obtain⟨_,lL,n2,IX,_,e2⟩:=I.qm hb;refine Sg (I.ok.hd hc) (by show X.A.units+1<_;omega) (u9 rv) (u9 IX) hl e1 e2 λh' tk k=>⟨_,H,I.kept k,?_,q⟩
 cases C5 ms ns<;>rfl
end L2
namespace M
open PySem L2
set_option genInjectivity true in
inductive D where
 |bL|bl (b:Bool)|int (i:Int)|str (x:Str)|ty (n:String)|ref (i:Nat)|tup (l:List D)
set_option genInjectivity true in
inductive O where
 |lst (l:List D)|nF (l:List D)
 |cg (kvs:List (Key×D))
 |ins (c:Str) (fs:List (Str×D))
 |set (S:Int->Bool) (n:Nat)
def O.mut:O->Bool
 |.nF _=>false
 |_=>true
def P5:D->Option Key
 |.int i=>some (.inl i)
 |.str x=>some (.inr x)
 |_=>none
def m7(kvs:List (Key×D))(k:Key):Option D:=(kvs.find? λkv=>decide (kv.1=k)).map (·.2)
def putD(kvs:List (Key×D))(k:Key)(v:D):List (Key×D) :=
 if(kvs.any λkv=>decide (kv.1=k))=true then kvs.map (λkv=>if kv.1=k then(kv.1,v) else kv) else kvs++[(k,v)]
def N7(f:Str)(v:D):List (Str×D)->List (Str×D)
 |[]=>[(f,v)]
 |(g,x)::r=>if g=f then(g,v)::r else(g,x)::N7 f v r
def M3:List D->Str->Option D
 |.tup [.str y,v]::r,x=>if x=y then some v else M3 r x
 |_::_,_=>none
 |[],_=>none
def W8:List D->Option Str
 |[]=>some Str.empty
 |.str x::r=>(W8 r).map λy=>x++y
 |_=>none
structure Xn where
 cls:Str
noncomputable abbrev G:=List O
noncomputable abbrev S:=List (Option D)
noncomputable abbrev KD:=D->G->Prop
noncomputable abbrev KX:=Xn->G->Prop
noncomputable abbrev jw:KX:=λ_ _=>False
def zY:Option O->Option (List D)
 |some (.lst l)=>some l
 |some (.nF l)=>some l
 |_=>none
noncomputable abbrev c8(g:G)(a:Nat):Option (List D):=zY g[a]?
def rd(g:G):Nat->D->Option PyData
 |_,.bL=>some .none
 |_,.bl b=>some (.bool b)
 |_,.int i=>some (.int i)
 |_,.str x=>some (.str x)
 |_,.ty _=>none
 |0,.ref _=>none
 |0,.tup _=>none
 |n+1,.ref a=>match c8 g a with
  |some l=>(l.mapM (rd g n)).map .list
  |none=>none
 |n+1,.tup l=>(l.mapM (rd g n)).map .tuple
def IY(g:G)(l:List D):Option (List PyData):=l.mapM (rd g 6)
def C8(g:G):D->Option (List D)
 |.tup l=>some l
 |.ref a=>c8 g a
 |_=>none
def R0:D->Bool
 |.bL=>true
 |_=>false
def cut{α:Type}(xs:List α)(lo hi:Option Int):List α:=(xs.drop (HT.df xs.length 0 lo)).take (HT.df xs.length xs.length hi-HT.df xs.length 0 lo)
def ql(g:G)(x:D)(c:String):Option Bool:=match x with
 |.bL=>some (c=="NoneType")
 |.bl _=>some (c=="bool"||c=="int")
 |.int _=>some (c=="int")
 |.str _=>some (c=="str")
 |.tup _=>some (c=="tuple")
 |.ref a=>match g[a]? with
  |some (.lst _)=>some (c=="list")
  |_=>none
 |.ty _=>none
def j7(lo:Int)(n:Nat):List D:=(List.range n).map λ(k:Nat)=>.int (lo+k)
def R7:List D->Option Bool
 |[]=>some true
 |.bl b::r=>(R7 r).map λc=>b&&c
 |_=>none
inductive Pr where
 |bin (op:Operator)|un (op:UnaryOp)|cmp (op:CmpOp)
 |ix|ko (lo hi:Bool)|rev|tup|lst|S6
 |len|list|tuple|isin|all|max|min|int|str|iz|jJ|sset|IS|uA
 |Dr|uo|lZ|fv|zr|fld (f:Str)
 |append|pop|get|index|join|iadd|clear|xS|extend|any|jE|sum|rA|yh|sH|pM|zJ|uy|sG (i:Int)
noncomputable abbrev DR:=List D->G->D->G->Prop
def RY:Operator->Int->Int->Int->Prop
 |.Add,i,j,r=>r=i+j
 |.Sub,i,j,r=>r=i-j
 |.Mult,i,j,r=>Y4 i j/\r=i*j
 |.FloorDiv,i,j,r=>Bz i j/\r=i / j
 |.Mod,i,j,r=>0<j/\r=i % j
 |.Pow,i,j,r=>N5 i j/\r=i ^ j.toNat
 |.LShift,i,j,r=>N5 i j/\r=i*2 ^ j.toNat
 |.BitAnd,i,j,r=>r=Builtin.bitAnd i j
 |.BitOr,i,j,r=>r=Builtin.bitOr i j
 |_,_,_,_=>False
def QK(op:Operator):DR:=λxs g d g' =>
 (∃i j r,xs=[.int i,.int j]/\RY op i j r/\d=.int r/\g'=g) \/
 (op=.Add/\((∃ l m,xs=[.tup l,.tup m]/\l.length + m.length <= 100000/\d=.tup (l ++ m)/\g'=g) \/
  (∃a b l m,xs=[.ref a,.ref b]/\g[a]?=some (.lst l)/\g[b]?=some (.lst m)/\l.length+m.length<=100000/\d=.ref g.length/\g'=g++[.lst (l++m)]) \/
  (∃ x y,xs=[.str x,.str y]/\x.length + y.length <= 100000/\d=.str (x ++ y)/\g'=g))) \/
 (op=.Mult/\((∃ a l n,xs=[.ref a,.int n]/\g[a]?=some (.lst l)/\-(2 ^ 62) <= n/\n < 2 ^ 62/\l.length * n.toNat <= 100000/\d=.ref g.length/\g'=g ++ [.lst (List.replicate n.toNat l).flatten]) \/
  (∃ l n,xs=[.tup l,.int n]/\l ≠ []/\1 <= n/\n < 2 ^ 62/\l.length * n.toNat <= 100000/\d=.tup (List.replicate n.toNat l).flatten/\g'=g)))
def IG(op:UnaryOp):DR:=λxs g d g'=>op=.USub/\∃i,xs=[.int i]/\d=.int (-i)/\g'=g
def uw(g:G)(x y:D)(b:Bool):Prop :=
 (∃i j,x=.int i/\y=.int j/\b=decide (i=j))\/(∃i j,x=.bl i/\y=.bl j/\b=(i==j))\/(∃i j,x=.str i/\y=.str j/\b=decide (i=j)) \/
 ∃p q,rd g 6 x=some p/\rd g 6 y=some q/\p.canLay0=true/\q.canLay0=true/\b=PyData.eqv p q
def inR(g:G)(x y:D)(b:Bool):Prop :=
 (∃a kvs c,y=.ref a/\g[a]?=some (.cg kvs)/\P5 x=some c/\b=(m7 kvs c).isSome) \/
 ∃l ps p,C8 g y=some l/\IY g l=some ps/\rd g 6 x=some p/\PyData.canLayAll0 ps=true/\p.canLay0=true/\b=(ps.any λq=>PyData.eqv q p)
def DZ(g:G)(x y:D)(b:Bool):Prop:=∃a S n i,y=.ref a/\g[a]?=some (.set S n)/\x=.int i/\b=S i
def DM(g:G)(x y:D)(b:Bool):CmpOp->Prop
 |.Eq=>uw g x y b
 |.NotEq=>uw g x y (!b)
 |.In=>inR g x y b\/DZ g x y b
 |.NotIn=>inR g x y (!b)\/DZ g x y (!b)
 |.Lt=>∃i j,x=.int i/\y=.int j/\b=decide (i<j)
 |.LtE=>∃i j,x=.int i/\y=.int j/\b=decide (i<=j)
 |.Gt=>∃i j,x=.int i/\y=.int j/\b=decide (j<i)
 |.GtE=>∃i j,x=.int i/\y=.int j/\b=decide (j<=i)
 |.Is=>y=.bL/\b=R0 x
 |.IsNot=>y=.bL/\b=!R0 x
def QL(op:CmpOp):DR:=λxs g d g'=>∃x y b,xs=[x,y]/\DM g x y b op/\d=.bl b/\g'=g
def Eb(g:G)(x:D)(b:Bool):Prop :=
 (x=.bL/\b=false)\/x=.bl b\/(∃i,x=.int i/\b=(i != 0))\/(∃l,x=.tup l/\b=!l.isEmpty)\/∃a l,x=.ref a/\c8 g a=some l/\b=!l.isEmpty
def Jr:DR:=λxs g d g'=>g'=g/\((∃x l i,xs=[x,.int i]/\C8 g x=some l/\gj l i=some d)\/(∃a kvs y c,xs=[.ref a,y]/\g[a]?=some (.cg kvs)/\P5 y=some c/\m7 kvs c=some d) \/
 ∃ x i c,xs=[.str x,.int i]/\x.length <= 100000/\gj x.cps.toList i=some c/\d=.str ⟨#[c]⟩)
def sD(x:D)(lo hi:Option Int)(g:G)(d:D)(g':G):Prop:=(∃l,x=.tup l/\d=.tup (cut l lo hi)/\g'=g)\/∃a l,x=.ref a/\c8 g a=some l/\d=.ref g.length/\g'=g++[.lst (cut l lo hi)]
def Ll:Bool->Bool->DR
 |false,false,xs,g,d,g'=>∃x,xs=[x]/\sD x none none g d g'
 |true,false,xs,g,d,g'=>∃x i,xs=[x,.int i]/\sD x (some i) none g d g'
 |false,true,xs,g,d,g'=>∃x j,xs=[x,.int j]/\sD x none (some j) g d g'
 |true,true,xs,g,d,g'=>∃x i j,xs=[x,.int i,.int j]/\sD x (some i) (some j) g d g'
def Lg:DR:=λxs g d g'=>(∃l,xs=[.tup l]/\d=.tup l.reverse/\g'=g)\/∃a l,xs=[.ref a]/\c8 g a=some l/\d=.ref g.length/\g'=g++[.lst l.reverse]
def LK:DR:=λxs g d g'=>xs.length<=1000/\d=.tup xs/\g'=g
def QZ:DR:=λxs g d g'=>xs.length<=1000/\d=.ref g.length/\g'=g++[.lst xs]
def rq:List D->List (Key×D)->Option (List (Key×D))
 |[],kvs=>some kvs
 |k::v::r,kvs=>(P5 k).bind λc=>rq r (putD kvs c v)
 |_,_=>none
def LY:DR:=λxs g d g'=>xs=[]/\d=.ref g.length/\g'=g++[.cg []]
def QX:DR:=λxs g d g'=>g'=g/\((∃x l,xs=[x]/\C8 g x=some l/\d=.int l.length)\/(∃a kvs,xs=[.ref a]/\g[a]?=some (.cg kvs)/\d=.int kvs.length)\/∃x,xs=[.str x]/\x.length<=100000/\d=.int x.length)
def kD:Key->D
 |.inl i=>.int i
 |.inr x=>.str x
def Mr:DR:=λxs g d g'=>(∃x l,xs=[x]/\C8 g x=some l/\d=.ref g.length/\g'=g++[.lst l])\/∃a kvs,xs=[.ref a]/\g[a]?=some (.cg kvs)/\kvs.length<=10000/\d=.ref g.length/\g'=g++[.lst ((kvs.map (·.1)).map kD)]
def PK:DR:=λxs g d g'=>∃x l,xs=[x]/\C8 g x=some l/\d=.tup l/\g'=g
def Mg:DR:=λxs g d g'=>∃x c b,xs=[x,.ty c]/\c∈["int","bool","str","tuple","list"]/\ql g x c=some b/\d=.bl b/\g'=g
def allR:DR:=λxs g d g'=>∃a l b,xs=[.ref a]/\c8 g a=some l/\(R7 l=some b\/∃ns:List Int,l=ns.map .int/\b=ns.all λn=>n != 0)/\d=.bl b/\g'=g
def R6:List D->Option Bool
 |[]=>some false
 |.bl b::r=>(R6 r).map λc=>b||c
 |_=>none
def anyR:DR:=λxs g d g'=>∃a l b,xs=[.ref a]/\c8 g a=some l/\R6 l=some b/\d=.bl b/\g'=g
def Pf:DR:=λxs g d g'=>(∃a kvs ns,xs=[.ref a]/\g[a]?=some (.cg kvs)/\kvs.map (·.1)=ns.map Sum.inl/\ns.length<60/\d=.ref g.length/\g'=g++[.lst ((B1 ns).map .int)])\/∃x,∃ns:List Int,xs=[x]/\C8 g x=some (ns.map .int)/\ns.length<60/\d=.ref g.length/\g'=g++[.lst ((B2 ns).map .int)]
def Ra:DR:=λxs g d g'=>g'=g/\((∃i j,xs=[.int i,.int j]/\d=.int (if j>i then j else i))\/∃a,∃(ns:List Int) (M:Int),xs=[.ref a]/\c8 g a=some (ns.map .int)/\M∈ns/\(∀x∈ns,x<=M)/\d=.int M)
def Rb:DR:=λxs g d g'=>g'=g/\((∃i j,xs=[.int i,.int j]/\d=.int (if j<i then j else i))\/(∃a,∃(ns:List Int) (M:Int),xs=[.ref a]/\c8 g a=some (ns.map .int)/\M∈ns/\(∀x∈ns,M<=x)/\d=.int M)\/∃a b,∃(ns ms:List Int),xs=[.ref a,.ref b]/\g[a]?=some (.lst (ns.map .int))/\g[b]?=some (.lst (ms.map .int))/\ms.length=ns.length/\d=if L2.C5 ms ns then .ref b else .ref a)
def MV:DR:=λxs g d g'=>∃a i S n,xs=[.ref a,.int i]/\g[a]?=some (.set S n)/\n+1<4096/\d=.bL/\g'=g.set a (.set (λk=>S k||decide (k=i)) (if S i then n else n+1))
def Mq:DR:=λxs g d g'=>∃a,∃ns:List Int,xs=[.ref a]/\c8 g a=some (ns.map .int)/\ns.length<600/\d=.ref g.length/\g'=g++[.set (λk=>decide (k∈ns)) (ST.i9 [] ns).length]
def OQ(i:Int):DR:=λxs g d g'=>xs=[]/\d=.ref g.length/\g'=g++[.set (λk=>decide (k=i)) 1]
def Ln:DR:=λxs g d g'=>∃a,∃ns:List Int,xs=[.ref a]/\c8 g a=some (ns.map .int)/\d=.int ns.sum/\g'=g
def Mt:DR:=λxs g d g'=>∃a,∃ns:List Int,xs=[.ref a]/\c8 g a=some (ns.map .int)/\ns.length<60/\d=.int (ST.i9 [] ns).length/\g'=g
def Mh:DR:=λxs g d g'=>∃i j,xs=[.int i,.int j]/\d=.int (i-j)/\g'=g
def QV:DR:=λxs g d g'=>g'=g/\((∃i,xs=[.int i]/\d=.int i)\/∃b,xs=[.bl b]/\d=.int (if b then 1 else 0))
def Lm:DR:=λxs g d g'=>(∃i,xs=[.int i]/\i.natAbs.log2<1920/\d=.str (toString i)/\g'=g)\/∃x,xs=[.str x]/\d=.str x/\g'=g
def NT:DR:=λxs g d g'=>∃j,xs=[.int j]/\-(2 ^ 62)<=j/\j<=100000/\d=.ref g.length/\g'=g++[.lst (j7 0 j.toNat)]
def NU:DR:=λxs g d g'=>∃i j,xs=[.int i,.int j]/\(-(2 ^ 62)<=i/\i<2 ^ 62/\-(2 ^ 62)<=j/\j<2 ^ 62/\j-i<=100000)/\d=.ref g.length/\g'=g++[.lst (j7 i (j-i).toNat)]
def MY:DR:=λxs g d g'=>∃a ns,xs=[.ref a]/\c8 g a=some (ns.map .int)/\ns.length<60/\d=.ref g.length/\g'=g++[.lst ((B1 ns).map .int)]
def Lo:DR:=λxs g d g'=>∃ns ms:List Int,xs=[.tup (ns.map .int),.tup (ms.map .int)]/\(∀k∈ns,ST.Spot k)/\(∀k∈ms,ST.Spot k)/\ns.length+ms.length<50/\d=.ref g.length/\g'=g++[.lst ((B1 (ns++ms)).map .int)]
def AY(neg:Bool):DR:=λxs g d g'=>∃kvs x,xs=[.tup kvs,.str x]/\d=.bl (xor neg (M3 kvs x).isSome)/\g'=g
def Mc:DR:=λxs g d g'=>∃kvs x,xs=[.tup kvs,.str x]/\M3 kvs x=some d/\g'=g
def Kx:DR:=λxs g d g'=>g'=g/\((∃i,xs=[.int i]/\i.natAbs.log2<1920/\d=.str (toString i))\/∃x,xs=[.str x]/\x.length<=2000/\d=.str x)
def Mb:DR:=λxs g d g'=>∃x,W8 xs=some x/\d=.str x/\g'=g
def QP(f:Str):DR:=λxs g d g'=>∃a c fs,xs=[.ref a]/\g[a]?=some (.ins c fs)/\fs.lookup f=some d/\g'=g
def appendR:DR:=λxs g d g'=>∃a y l,xs=[.ref a,y]/\g[a]?=some (.lst l)/\l.length<100000/\d=.bL/\g'=g.set a (.lst (l++[y]))
def Rn:DR:=λxs g d g'=>∃a i l k,xs=[.ref a,.int i]/\g[a]?=some (.lst l)/\-(2 ^ 63)<=i/\i<2 ^ 63/\seqIndex? i l.length=some k/\l[k]?=some d/\g'=g.set a (.lst (l.eraseIdx k))
def QS:DR:=λxs g d g'=>∃a y z kvs c,xs=[.ref a,y,z]/\g[a]?=some (.cg kvs)/\P5 y=some c/\d=(m7 kvs c).getD z/\g'=g
def HB:D->Bool
 |.bL=>true
 |.bl _=>true
 |.int _=>true
 |.str _=>true
 |_=>false
def toV:D->V
 |.bl b=>.bl b
 |.int i=>.int i
 |.str x=>.str x
 |_=>.bL
def Nq(l:List D)(y:D)(n:Nat):Prop:=l.all HB=true/\HB y=true/\(∃z,l[n]?=some z/\Dw (toV z) (toV y)=true)/\∀(m:Nat) z,m<n->l[m]?=some z->Dw (toV z) (toV y)=false
def NG:DR:=λxs g d g'=>∃x y l n,xs=[x,y]/\C8 g x=some l/\Nq l y n/\l.length<=100000/\d=.int n/\g'=g
def joinR:DR:=λxs g d g'=>∃sep a ys,xs=[.str sep,.ref a]/\c8 g a=some (ys.map .str)/\Qm sep ys<=100000/\d=.str (Builtin.Str.glued sep ys)/\g'=g
def Mf:DR:=λxs g d g'=>(∃i j,xs=[.int i,.int j]/\d=.int (i+j)/\g'=g)\/∃l m,xs=[.tup l,.tup m]/\l.length+m.length<=100000/\d=.tup (l++m)/\g'=g
def Nv:DR:=λxs g d g'=>∃a l,xs=[.ref a]/\g[a]?=some (.lst l)/\d=.bL/\g'=g.set a (.lst [])
def MM:DR:=λxs g d g'=>∃a l,xs=[.ref a]/\g[a]?=some (.lst (l++[d]))/\g'=g.set a (.lst l)
def Qc:DR:=λxs g d g'=>∃a b l m,xs=[.ref a,.ref b]/\g[a]?=some (.lst l)/\g[b]?=some (.lst m)/\l.length+m.length<=100000/\d=.bL/\g'=g.set a (.lst (l++m))
def Nz:DR:=λxs g d g'=>(∃a kvs,xs=[.ref a]/\g[a]?=some (.cg kvs)/\d=.ref g.length/\g'=g++[.cg kvs])\/∃a,∃ks:List Int,xs=[.ref a]/\c8 g a=some (ks.map λk=>.tup [.int k,.bl true])/\ks.length<=1000/\ks.Nodup/\d=.ref g.length/\g'=g++[.cg (ks.map λk=>(.inl k,.bl true))]
def mS(p:Key×Int×Int):Key×D:=(p.1,.tup [.int p.2.1,.int p.2.2])
def Mp(n:Int)(p:Key×Int×Int):Bool:=!(decide (p.2.1=n)||decide (p.2.2=n))
def LW:DR:=λxs g d g'=>∃a n,∃fs:List (Key×Int×Int),xs=[.ref a,.int n]/\g[a]?=some (.cg (fs.map mS))/\fs.length<1000/\(fs.map (·.1)).Nodup/\d=.ref g.length/\g'=g++[.cg ((fs.filter (Mp n)).map mS)]
def delD(kvs:List (Key×D))(k:Key):List (Key×D):=kvs.filter λkv=>decide (kv.1≠k)
def LZ:DR:=λxs g d g'=>∃a y kvs c,xs=[.ref a,y]/\g[a]?=some (.cg kvs)/\P5 y=some c/\m7 kvs c=some d/\g'=g.set a (.cg (delD kvs c))
def PR:Pr->DR
 |.zJ=>LW
 |.uy=>LZ
 |.clear=>Nv
 |.any=>anyR
 |.sum=>Ln
 |.sH=>MV
 |.pM=>Mq
 |.sG i=>OQ i
 |.rA=>Mt
 |.yh=>Mh
 |.jE=>Pf
 |.extend=>Qc
 |.xS=>MM
 |.uA=>Nz
 |.bin op=>QK op
 |.un op=>IG op
 |.cmp op=>QL op
 |.ix=>Jr
 |.ko a b=>Ll a b
 |.rev=>Lg
 |.tup=>LK
 |.lst=>QZ
 |.S6=>LY
 |.len=>QX
 |.list=>Mr
 |.tuple=>PK
 |.isin=>Mg
 |.all=>allR
 |.max=>Ra
 |.min=>Rb
 |.int=>QV
 |.str=>Lm
 |.iz=>NT
 |.jJ=>NU
 |.sset=>MY
 |.IS=>Lo
 |.Dr=>AY false
 |.uo=>AY true
 |.lZ=>Mc
 |.fv=>Kx
 |.zr=>Mb
 |.fld f=>QP f
 |.append=>appendR
 |.pop=>Rn
 |.get=>QS
 |.index=>NG
 |.join=>joinR
 |.iadd=>Mf
def cG(p:Pr)(xs:List D)(g:G)(Q:KD):Prop:=∃d g',PR p xs g d g'/\Q d g'
def rf(g:G)(x y:D)(k:Bool->Prop):Prop:=∃b,uw g x y b/\k b
def qK(g:G)(x y:D)(k:Bool->Prop):Prop:=∃b,inR g x y b/\k b
def Z4(g:G)(x:D)(k:Bool->Prop):Prop:=∃b,Eb g x b/\k b
def Lj(x y v:D)(g g':G):Prop:=(∃a i l j,x=.ref a/\y=.int i/\g[a]?=some (.lst l)/\jT l.length i=some j/\g'=g.set a (.lst (l.set j v))) \/
 ∃a kvs c,x=.ref a/\g[a]?=some (.cg kvs)/\P5 y=some c/\kvs.length<100000/\g'=g.set a (.cg (putD kvs c v))
def V4(x y v:D)(g:G)(k:G->Prop):Prop:=∃g',Lj x y v g g'/\k g'
def HP(f:Str)(cs:List Str)(x v:D)(g g':G):Prop:=∃a c fs,x=.ref a/\g[a]?=some (.ins c fs)/\c∈cs/\fs.length<100/\g'=g.set a (.ins c (N7 f v fs))
def Bq(f:Str)(cs:List Str)(x v:D)(g:G)(k:G->Prop):Prop:=∃g',HP f cs x v g g'/\k g'
def mG:Pr->D->G->Prop
 |.get,x,g=>∃a kvs,x=.ref a/\g[a]?=some (.cg kvs)
 |.uy,x,g=>∃a kvs,x=.ref a/\g[a]?=some (.cg kvs)
 |.join,x,g=>∃y,x=.str y
 |.sH,x,g=>∃a S n,x=.ref a/\g[a]?=some (.set S n)
 |.index,x,g=>(∃l,x=.tup l)\/∃a l,x=.ref a/\c8 g a=some l
 |_,x,g=>∃a l,x=.ref a/\c8 g a=some l
inductive IK where
 |fix (l:List D)|lst (a:Nat)|rg (a:Nat)|Co (a n:Nat)
def IK.at:IK->Nat->G->Option (Option D)
 |.fix l,i,_=>some l[i]?
 |.lst a,i,g=>match c8 g a with
  |some l=>some l[i]?
  |none=>none
 |.rg a,i,g=>match c8 g a with
  |some l=>some (l[i]?.map λd=>.tup [.int i,d])
  |none=>none
 |.Co a n,i,g=>match c8 g a with
  |some l=>if l.length=n then some (if i<n then l[n-1-i]? else none) else none
  |none=>none
inductive MT where
 |one (i:Nat)|many (is:List Nat)
def B8:List Nat->List D->S->Option S
 |[],[],Z=>some Z
 |i::is,d::ds,Z=>B8 is ds (Z.set i (some d))
 |_,_,_=>none
def jD(t:MT)(x:D)(Z:S)(k:S->Prop):Prop:=match t with
 |.one i=>k (Z.set i (some x))
 |.many is=>∃l bI,x=.tup l/\B8 is l Z=some bI/\k bI
set_option genInjectivity false in
set_option genSizeOf false in
inductive ME where
 |var (i:Nat)|lit (d:D)
 |nil|cons (a b:ME)|prim (p:Pr) (es:ME)|eB (p:Pr) (o es:ME)|mj (es:ME)
 |chain (o1 o2:CmpOp) (a b c:ME)
 |dw (a b:ME)|jh (a b:ME)|et (a:ME)|ite (c a b:ME)
 |call (f:Nat) (es:ME)|make (c:Str) (f:Nat) (es:ME)|jI (m:Str) (cs:List (Str×Nat)) (o es:ME)
 |comp (d4:List Nat) (n:Nat) (tg:MT) (it cond elt:ME)|iu (d4:List Nat) (n:Nat) (tg:MT) (it cond elt:ME)|jF (d4:List Nat) (n:Nat) (tg:MT) (it cond elt:ME)
 |iL (e:ME)|eE (a:ME)|jL (a b:ME)|mJ (e:ME)|qJ (e:ME)|fE (e:ME)|no
noncomputable abbrev eM:=Nat->List D->G->KD->KX->Prop
def K1(Z:S)(d4:List Nat)(n:Nat):S:=d4.map (λj=>(Z[j]?).join)++List.replicate (n-d4.length) none
def turns(k:IK)(Z:S)(g:G)(fin:S->G->Prop)(turn:D->(S->G->Prop)->S->G->Prop):Prop :=
 ∃W:Nat->Nat->S->G->Prop,(∃m,W 0 m Z g)/\∀i m Z g,W i m Z g->(k.at i g=some none/\fin Z g)\/∃x,k.at i g=some (some x)/\∃N2:S->G->Prop,(∀bI g',N2 bI g'->∃m',m'<m/\W (i+1) m' bI g')/\turn x N2 Z g
def wJ(k:IK)(Z:S)(g:G)(fin:List D->G->Prop)(turn:D->(Option D->S->G->Prop)->S->G->Prop):Prop :=
 ∃W:Nat->Nat->List D->S->G->Prop,(∃m,W 0 m [] Z g)/\∀i m ys Z g,W i m ys Z g->(k.at i g=some none/\fin ys g) \/
  ∃x,k.at i g=some (some x)/\ys.length<100000/\turn x (λy bI g'=>∃m',m'<m/\W (i+1) m' (ys++y.toList) bI g') Z g
def Ae(k:IK)(Z:S)(g:G)(fin:List Int->G->Prop)(turn:D->(Option Int->S->G->Prop)->S->G->Prop):Prop :=
 ∃W:Nat->Nat->List Int->S->G->Prop,(∃m,W 0 m [] Z g)/\∀i m ys Z g,W i m ys Z g->(k.at i g=some none/\ys.length<60/\fin ys g) \/
  ∃x,k.at i g=some (some x)/\ys.length<60/\turn x (λy bI g'=>∃m',m'<m/\W (i+1) m' (ys++y.toList) bI g') Z g
mutual
noncomputable def aX(P:eM):ME->S->G->KD->KX->Prop
 |.var i,Z,g,Q,_=>∃d,Z[i]?=some (some d)/\Q d g
 |.lit d,_,g,Q,_=>Q d g
 |.prim p es,Z,g,Q,E=>fo P es Z g (λxs g1=>cG p xs g1 Q) E
 |.eB p o es,Z,g,Q,E=>aX P o Z g (λx g1=>mG p x g1/\fo P es Z g1 (λxs g2=>cG p (x::xs) g2 Q) E) E
 |.mj es,Z,g,Q,E=>fo P es Z (g++[.cg []]) (λxs g1=>∃kvs,rq xs []=some kvs/\xs.length<=30/\g1[g.length]?=some (.cg [])/\Q (.ref g.length) (g1.set g.length (.cg kvs))) E
 |.chain o1 o2 a b c,Z,g,Q,E=>aX P a Z g (λx g1=>aX P b Z g1 (λy g2=>cG (.cmp o1) [x,y] g2 λz g3=>∃t,z=.bl t/\if t=true then aX P c Z g3 (λw g4=>cG (.cmp o2) [y,w] g4 Q) E else Q (.bl false) g3) E) E
 |.dw a b,Z,g,Q,E=>aX P a Z g (λx g1=>∃t,x=.bl t/\if t=true then aX P b Z g1 Q E else Q (.bl false) g1) E
 |.jh a b,Z,g,Q,E=>aX P a Z g (λx g1=>∃t,x=.bl t/\if t=true then Q (.bl true) g1 else aX P b Z g1 Q E) E
 |.et a,Z,g,Q,E=>aX P a Z g (λx g1=>∃t,x=.bl t/\Q (.bl (!t)) g1) E
 |.ite c a b,Z,g,Q,E=>de P c Z g (λt g1=>if t=true then aX P a Z g1 Q E else aX P b Z g1 Q E) E
 |.call f es,Z,g,Q,E=>fo P es Z g (λxs g1=>P f xs g1 Q E) E
 |.make c f es,Z,g,Q,E=>fo P es Z g (λxs g1=>P f (.ref g1.length::xs) (g1++[.ins c []]) (λd g2=>d=.bL/\Q (.ref g1.length) g2) E) E
 |.jI m cs o es,Z,g,Q,E=>aX P o Z g (λx g1=>∃a c fs f,x=.ref a/\g1[a]?=some (.ins c fs)/\fs.lookup m=none/\cs.lookup c=some f/\fo P es Z g1 (λxs g2=>P f (x::xs) g2 Q E) E) E
 |.comp d4 n tg it cond elt,Z,g,Q,E=>iJ P it Z g (λk g1=>wJ k (K1 Z d4 n) g1 (λys g=>Q (.ref g.length) (g++[.lst ys])) λx N Z g=>jD tg x Z λcD=>de P cond cD g (λb g3=>if b=true then aX P elt cD g3 (λy g4=>N (some y) cD g4) jw else N none cD g3) jw) E
 |.jF d4 n tg it cond elt,Z,g,Q,E=>iJ P it Z g (λk g1=>wJ k (K1 Z d4 n) g1 (λys g=>Q (.ref g.length) (g++[.lst ys])) λx N Z g=>jD tg x Z λcD=>de P cond cD g (λb g3=>if b=true then aX P elt cD g3 (λy g4=>N (some y) cD g4) E else N none cD g3) jw) E
 |.iu d4 n tg it cond elt,Z,g,Q,E=>iJ P it Z g (λk g1=>Ae k (K1 Z d4 n) g1 (λys g=>Q (.ref g.length) (g++[.lst ((B1 ys).map .int)])) λx N Z g=>jD tg x Z λcD=>de P cond cD g (λb g3=>if b=true then aX P elt cD g3 (λy g4=>∃j,y=.int j/\N (some j) cD g4) jw else N none cD g3) jw) E
 |.nil,_,_,_,_=>False
 |.cons _ _,_,_,_,_=>False
 |.iL _,_,_,_,_=>False
 |.eE _,_,_,_,_=>False
 |.jL _ _,_,_,_,_=>False
 |.mJ _,_,_,_,_=>False
 |.qJ _,_,_,_,_=>False
 |.fE _,_,_,_,_=>False
 |.no,_,_,_,_=>False
noncomputable def fo(P:eM):ME->S->G->(List D->G->Prop)->KX->Prop
 |.nil,_,g,Q,_=>Q [] g
 |.cons a b,Z,g,Q,E=>aX P a Z g (λx g1=>fo P b Z g1 (λxs g2=>Q (x::xs) g2) E) E
 |_,_,_,_,_=>False
noncomputable def de(P:eM):ME->S->G->(Bool->G->Prop)->KX->Prop
 |.dw a b,Z,g,Q,E=>de P a Z g (λt g1=>if t=true then de P b Z g1 Q E else Q false g1) E
 |.jh a b,Z,g,Q,E=>de P a Z g (λt g1=>if t=true then Q true g1 else de P b Z g1 Q E) E
 |.et a,Z,g,Q,E=>de P a Z g (λt g1=>Q (!t) g1) E
 |.no,_,g,Q,_=>Q true g
 |.fE e,Z,g,Q,E=>aX P e Z g (λx g1=>Z4 g1 x λb=>Q b g1) E
 |_,_,_,_,_=>False
noncomputable def iJ(P:eM):ME->S->G->(IK->G->Prop)->KX->Prop
 |.iL e,Z,g,R,E=>aX P e Z g (λx g1=>(∃l,x=.tup l/\R (.fix l) g1)\/∃a l,x=.ref a/\c8 g1 a=some l/\R (.lst a) g1) E
 |.eE a,Z,g,R,E=>aX P a Z g (λx g1=>∃j:Int,x=.int j/\-(2 ^ 62)<=j/\j<2 ^ 62/\R (.fix (j7 0 j.toNat)) g1) E
 |.jL a b,Z,g,R,E=>aX P a Z g (λx g1=>aX P b Z g1 (λy g2=>∃i j:Int,x=.int i/\y=.int j/\(-(2 ^ 62)<=i/\i<2 ^ 62/\-(2 ^ 62)<=j/\j<2 ^ 62)/\R (.fix (j7 i (j-i).toNat)) g2) E) E
 |.mJ e,Z,g,R,E=>aX P e Z g (λx g1=>∃a l,x=.ref a/\c8 g1 a=some l/\R (.rg a) g1) E
 |.qJ e,Z,g,R,E=>aX P e Z g (λx g1=>∃a l,x=.ref a/\c8 g1 a=some l/\R (.Co a l.length) g1) E
 |_,_,_,_,_=>False
end
set_option genInjectivity false in
set_option genSizeOf false in
inductive MS where
 |pass|seq (a b:MS)|expr (e:ME)|set (i:Nat) (e:ME)|mz (t:MT) (e:ME)|dS (o i v:ME)|ni (f:Str) (cs:List Str) (o v:ME)
 |uN (f:Str) (cs:List Str) (o v:ME)|uM (i:Nat) (p:Pr) (v:ME)|vB (o1 i1 o2 i2 e:ME)
 |ifs (c:ME) (a b:MS)|dF (t:MT) (it:ME) (b:MS)|jC (c:ME) (b:MS)|ret (e:ME)|pE|brk|cont
 |raise (x:Str) (es:ME)|U8 (b:MS) (hs:List (Str×ME))
structure Ends where
 nx:S->G->Prop
 rt:KD
 bk:S->G->Prop:=λ_ _=>False
 ct:S->G->Prop:=λ_ _=>False
def kF(P:eM)(N:Ends)(Z:S)(E:KX):List (Str×ME)->KX
 |[],x,g=>E x g
 |(y,e)::r,x,g=>if x.cls=y\/y="MintError" then aX P e Z g N.rt jw else kF P N Z E r x g
def wpS(P:eM):MS->Ends->S->G->KX->Prop
 |.pass,N,Z,g,_=>N.nx Z g
 |.seq a b,N,Z,g,E=>wpS P a { N with nx:=λgP g1=>wpS P b N gP g1 E } Z g E
 |.expr e,N,Z,g,E=>aX P e Z g (λ_ g1=>N.nx Z g1) E
 |.set i e,N,Z,g,E=>aX P e Z g (λx g1=>N.nx (Z.set i (some x)) g1) E
 |.mz t e,N,Z,g,E=>aX P e Z g (λx g1=>jD t x Z λgP=>N.nx gP g1) E
 |.dS o i v,N,Z,g,E=>aX P v Z g (λx g1=>aX P o Z g1 (λy g2=>aX P i Z g2 (λz g3=>V4 y z x g3 λg4=>N.nx Z g4) E) E) E
 |.ni f cs o v,N,Z,g,E=>aX P v Z g (λx g1=>aX P o Z g1 (λy g2=>Bq f cs y x g2 λg3=>N.nx Z g3) E) E
 |.uN f cs o v,N,Z,g,E=>aX P o Z g (λy g1=>∃a c fs x,y=.ref a/\g1[a]?=some (.ins c fs)/\c∈cs/\fs.lookup f=some x/\aX P v Z g1 (λz g3=>cG .iadd [x,z] g3 λw g4=>∃qc,g4[a]?=some (.ins c qc)/\qc.length<100/\N.nx Z (g4.set a (.ins c (N7 f w qc)))) E) E
 |.vB o1 i1 o2 i2 e,N,Z,g,E=>aX P e Z g (λx g1=>∃u v,x=.tup [u,v]/\aX P o1 Z g1 (λy1 g2=>aX P i1 Z g2 (λz1 g3=>V4 y1 z1 u g3 λg4=>aX P o2 Z g4 (λy2 g5=>aX P i2 Z g5 (λz2 g6=>V4 y2 z2 v g6 λg7=>N.nx Z g7) E) E) E) E) E
 |.uM i p v,N,Z,g,E=>∃x,Z[i]?=some (some x)/\aX P v Z g (λz g1=>cG p [x,z] g1 λw g2=>N.nx (Z.set i (some w)) g2) E
 |.ifs c a b,N,Z,g,E=>de P c Z g (λt g1=>if t=true then wpS P a N Z g1 E else wpS P b N Z g1 E) E
 |.dF t it b,N,Z,g,E=>iJ P it Z g (λk g1=>turns k Z g1 N.nx λx N2 Z g=>jD t x Z λcD=>wpS P b { N with nx:=N2,ct:=N2,bk:=N.nx } cD g E) E
 |.jC c b,N,Z,g,E=>∃W:Nat->S->G->Prop,(∃m,W m Z g)/\∀m Z g,W m Z g->de P c Z g (λt g1=>if t=true then ∃N2:S->G->Prop,(∀bI g',N2 bI g'->∃m',m'<m/\W m' bI g')/\wpS P b { N with nx:=N2,ct:=N2,bk:=N.nx } Z g1 E else N.nx Z g1) E
 |.ret e,N,Z,g,E=>aX P e Z g N.rt E
 |.pE,N,_,g,_=>N.rt .bL g
 |.brk,N,Z,g,_=>N.bk Z g
 |.cont,N,Z,g,_=>N.ct Z g
 |.raise x es,_,Z,g,E=>fo P es Z g (λvs g1=>vs.length<=1000/\E ⟨x⟩ g1) E
 |.U8 b hs,N,Z,g,E=>wpS P b N Z g (kF P N (Z.map λ_=>none) E hs)
structure bj where
 ar:Nat
 n:Nat
 body:MS
def d8(m:bj)(ds:List D):S:=ds.map some++List.replicate (m.n-ds.length) none
def b9(T:Nat->Option bj):Nat->eM
 |0,_,_,_,_,_=>False
 |k+1,f,ds,g,Q,E=>∃m,T f=some m/\ds.length=m.ar/\wpS (b9 T k) m.body ⟨λ_ g'=>Q .bL g',Q,λ_ _=>False,λ_ _=>False⟩ (d8 m ds) g E
end M
namespace M
open PySem L2
variable{g:G}{K:PySem.W.Frag}{H:Hp}{a p:Addr}{vs:List V}{i:Nat}{o:O}{u:HO}{l:List D}
theorem s9{p xs}{Q Q':KD}(h:∀d g,Q d g->Q' d g)(q:cG p xs g Q):cG p xs g Q':=by
 obtain⟨d,g',a,b⟩:=q;exact⟨d,g',a,h _ _ b⟩
theorem Vh{x}{k k':Bool->Prop}(h:∀b,k b->k' b)(q:Z4 g x k):Z4 g x k':=by
 obtain⟨b,a,z⟩:=q;exact⟨b,a,h _ z⟩
theorem Q3{x y v}{k k':G->Prop}(h:∀g,k g->k' g)(q:V4 x y v g k):V4 x y v g k':=by
 obtain⟨b,a,z⟩:=q;exact⟨b,a,h _ z⟩
theorem VO{f cs x v}{k k':G->Prop}(h:∀g,k g->k' g)(q:Bq f cs x v g k):Bq f cs x v g k':=by
 obtain⟨b,a,z⟩:=q;exact⟨b,a,h _ z⟩
theorem B0{t x Z}{k k':S->Prop}(h:∀Z,k Z->k' Z)(q:jD t x Z k):jD t x Z k':=by
 cases t with
 |one i=>exact h _ q
 |many is=>obtain⟨l,bI,a,b,c⟩:=q;exact⟨l,bI,a,b,h _ c⟩
theorem VX{k Z g}{fin jP:S->G->Prop}{turn gQ:D->(S->G->Prop)->S->G->Prop}(h:∀Z g,fin Z g->jP Z g)(h2:∀x N Z g,turn x N Z g->gQ x N Z g)(q:turns k Z g fin turn):turns k Z g jP gQ:=by
 obtain⟨W,w0,q⟩:=q;refine⟨W,w0,λi m Z g w=>?_⟩;rcases q i m Z g w with⟨a,b⟩|⟨x,a,N2,b,c⟩
 ·exact .inl ⟨a,h _ _ b⟩
 ·exact .inr ⟨x,a,N2,b,h2 _ _ _ _ c⟩
theorem FH{k Z g}{fin jP:List D->G->Prop}{turn gQ:D->(Option D->S->G->Prop)->S->G->Prop}(h:∀ys g,fin ys g->jP ys g)(h2:∀x N Z g,turn x N Z g->gQ x N Z g)(q:wJ k Z g fin turn):wJ k Z g jP gQ:=by
 obtain⟨W,w0,q⟩:=q;refine⟨W,w0,λi m ys Z g w=>?_⟩;rcases q i m ys Z g w with⟨a,b⟩|⟨x,a,b,c⟩
 ·exact .inl ⟨a,h _ _ b⟩
 ·exact .inr ⟨x,a,b,h2 _ _ _ _ c⟩
theorem RB{k Z g}{fin jP:List Int->G->Prop}{turn gQ:D->(Option Int->S->G->Prop)->S->G->Prop}(h:∀ys g,fin ys g->jP ys g)(h2:∀x N Z g,turn x N Z g->gQ x N Z g)(q:Ae k Z g fin turn):Ae k Z g jP gQ:=by
 obtain⟨W,w0,q⟩:=q;refine⟨W,w0,λi m ys Z g w=>?_⟩;rcases q i m ys Z g w with⟨a,b,c⟩|⟨x,a,b,c⟩
 ·exact .inl ⟨a,b,h _ _ c⟩
 ·exact .inr ⟨x,a,b,h2 _ _ _ _ c⟩
theorem C9{t:Bool}{A B A' B':Prop}(h1:A->A')(h2:B->B')(q:if t=true then A else B):if t=true then A' else B':=by
 cases t
 ·exact h2 q
 ·exact h1 q
def j5(P:eM):Prop:=∀f xs g Q Q' E E',(∀d g,Q d g->Q' d g)->(∀x g,E x g->E' x g)->P f xs g Q E->P f xs g Q' E'
mutual
theorem b0{P:eM}(hP:j5 P):∀(e:ME) (Z:S) (g:G) (Q Q':KD) (E E':KX),(∀d g,Q d g->Q' d g)->(∀x g,E x g->E' x g)->aX P e Z g Q E->aX P e Z g Q' E'
 |.var i,Z,g,Q,Q',E,E',h,hx,q=>by
  obtain⟨d,a,b⟩:=q;exact⟨d,a,h _ _ b⟩
 |.lit d,Z,g,Q,Q',E,E',h,hx,q=>by exact h _ _ q
 |.prim p es,Z,g,Q,Q',E,E',h,hx,q=>by
  exact v7 hP es _ _ _ _ _ _ (λxs g1 q=>s9 h q) hx q
 |.eB p o es,Z,g,Q,Q',E,E',h,hx,q=>by
  exact b0 hP o _ _ _ _ _ _ (λx g1 q=>⟨q.1,v7 hP es _ _ _ _ _ _ (λxs g2 q=>s9 h q) hx q.2⟩) hx q
 |.mj es,Z,g,Q,Q',E,E',h,hx,q=>by
  exact v7 hP es _ _ _ _ _ _ (λxs g1 ⟨kvs,a,b,c,d⟩=>⟨kvs,a,b,c,h _ _ d⟩) hx q
 |.chain o1 o2 a b c,Z,g,Q,Q',E,E',h,hx,q=>by
  refine b0 hP a _ _ _ _ _ _ (λx g1 q=>b0 hP b _ _ _ _ _ _ (λy g2 q=>s9 (λz g3 q=>?_) q) hx q) hx q;obtain⟨t,e,q⟩:=q;exact⟨t,e,C9 (λq=>b0 hP c _ _ _ _ _ _ (λw g4 q=>s9 h q) hx q) (h _ _) q⟩
 |.dw a b,Z,g,Q,Q',E,E',h,hx,q=>by
  refine b0 hP a _ _ _ _ _ _ (λx g1 q=>?_) hx q;obtain⟨t,e,q⟩:=q;exact⟨t,e,C9 (λq=>b0 hP b _ _ _ _ _ _ h hx q) (h _ _) q⟩
 |.jh a b,Z,g,Q,Q',E,E',h,hx,q=>by
  refine b0 hP a _ _ _ _ _ _ (λx g1 q=>?_) hx q;obtain⟨t,e,q⟩:=q;exact⟨t,e,C9 (h _ _) (λq=>b0 hP b _ _ _ _ _ _ h hx q) q⟩
 |.et a,Z,g,Q,Q',E,E',h,hx,q=>by
  refine b0 hP a _ _ _ _ _ _ (λx g1 q=>?_) hx q;obtain⟨t,e,q⟩:=q;exact⟨t,e,h _ _ q⟩
 |.ite c a b,Z,g,Q,Q',E,E',h,hx,q=>by
  exact o8 hP c _ _ _ _ _ _ (λt g1 q=>C9 (λq=>b0 hP a _ _ _ _ _ _ h hx q) (λq=>b0 hP b _ _ _ _ _ _ h hx q) q) hx q
 |.call f es,Z,g,Q,Q',E,E',h,hx,q=>by
  exact v7 hP es _ _ _ _ _ _ (λxs g1 q=>hP _ _ _ _ _ _ _ h hx q) hx q
 |.make c f es,Z,g,Q,Q',E,E',h,hx,q=>by
  exact v7 hP es _ _ _ _ _ _ (λxs g1 q=>hP _ _ _ _ _ _ _ (λd g2 q=>⟨q.1,h _ _ q.2⟩) hx q) hx q
 |.jI m cs o es,Z,g,Q,Q',E,E',h,hx,q=>by
  refine b0 hP o _ _ _ _ _ _ (λx g1 q=>?_) hx q;obtain⟨a,c,fs,f,q1,q2,q3,q4,q⟩:=q;exact⟨a,c,fs,f,q1,q2,q3,q4,v7 hP es _ _ _ _ _ _ (λxs g2 q=>hP _ _ _ _ _ _ _ h hx q) hx q⟩
 |.comp d4 n tg it cond elt,Z,g,Q,Q',E,E',h,hx,q=>by
  exact y9 hP it _ _ _ _ _ _ (λk g1 q=>FH (λys g q=>h _ _ q) (λ_ _ _ _ q=>q) q) hx q
 |.jF d4 n tg it cond elt,Z,g,Q,Q',E,E',h,hx,q=>by
  exact y9 hP it _ _ _ _ _ _ (λk g1 q=>FH (λys g q=>h _ _ q) (λx N Z g q=>B0 (λcD q=>o8 hP cond _ _ _ _ _ _ (λb g3 q=>by
   cases b
   ·exact q
   ·exact b0 hP elt _ _ _ _ _ _ (λ_ _ z=>z) hx q) (λ_ _ z=>z) q) q) q) hx q
 |.iu d4 n tg it cond elt,Z,g,Q,Q',E,E',h,hx,q=>by
  exact y9 hP it _ _ _ _ _ _ (λk g1 q=>RB (λys g q=>h _ _ q) (λ_ _ _ _ q=>q) q) hx q
 |.nil,Z,g,Q,Q',E,E',h,hx,q=>(show False from q).elim
 |.cons _ _,Z,g,Q,Q',E,E',h,hx,q=>(show False from q).elim
 |.iL _,Z,g,Q,Q',E,E',h,hx,q=>(show False from q).elim
 |.eE _,Z,g,Q,Q',E,E',h,hx,q=>(show False from q).elim
 |.jL _ _,Z,g,Q,Q',E,E',h,hx,q=>(show False from q).elim
 |.mJ _,Z,g,Q,Q',E,E',h,hx,q|.qJ _,Z,g,Q,Q',E,E',h,hx,q=>(show False from q).elim
 |.fE _,Z,g,Q,Q',E,E',h,hx,q=>(show False from q).elim
 |.no,Z,g,Q,Q',E,E',h,hx,q=>(show False from q).elim
theorem v7{P:eM}(hP:j5 P):∀(e:ME) (Z:S) (g:G) (Q Q':List D->G->Prop) (E E':KX),(∀d g,Q d g->Q' d g)->(∀x g,E x g->E' x g)->fo P e Z g Q E->fo P e Z g Q' E'
 |.nil,Z,g,Q,Q',E,E',h,hx,q=>by exact h _ _ q
 |.cons a b,Z,g,Q,Q',E,E',h,hx,q=>by
  exact b0 hP a _ _ _ _ _ _ (λx g1 q=>v7 hP b _ _ _ _ _ _ (λxs g2 q=>h _ _ q) hx q) hx q
 |.var _,Z,g,Q,Q',E,E',h,hx,q|.lit _,Z,g,Q,Q',E,E',h,hx,q|.prim _ _,Z,g,Q,Q',E,E',h,hx,q|.eB _ _ _,Z,g,Q,Q',E,E',h,hx,q|.mj _,Z,g,Q,Q',E,E',h,hx,q|.chain _ _ _ _ _,Z,g,Q,Q',E,E',h,hx,q|.dw _ _,Z,g,Q,Q',E,E',h,hx,q|.jh _ _,Z,g,Q,Q',E,E',h,hx,q|.et _,Z,g,Q,Q',E,E',h,hx,q|.ite _ _ _,Z,g,Q,Q',E,E',h,hx,q|.call _ _,Z,g,Q,Q',E,E',h,hx,q
 |.make _ _ _,Z,g,Q,Q',E,E',h,hx,q|.jI _ _ _ _,Z,g,Q,Q',E,E',h,hx,q|.comp _ _ _ _ _ _,Z,g,Q,Q',E,E',h,hx,q|.iu _ _ _ _ _ _,Z,g,Q,Q',E,E',h,hx,q|.jF _ _ _ _ _ _,Z,g,Q,Q',E,E',h,hx,q|.iL _,Z,g,Q,Q',E,E',h,hx,q|.eE _,Z,g,Q,Q',E,E',h,hx,q|.jL _ _,Z,g,Q,Q',E,E',h,hx,q|.mJ _,Z,g,Q,Q',E,E',h,hx,q|.qJ _,Z,g,Q,Q',E,E',h,hx,q|.fE _,Z,g,Q,Q',E,E',h,hx,q|.no,Z,g,Q,Q',E,E',h,hx,q=>(show False from q).elim
theorem o8{P:eM}(hP:j5 P):∀(e:ME) (Z:S) (g:G) (Q Q':Bool->G->Prop) (E E':KX),(∀d g,Q d g->Q' d g)->(∀x g,E x g->E' x g)->de P e Z g Q E->de P e Z g Q' E'
 |.dw a b,Z,g,Q,Q',E,E',h,hx,q=>by
  exact o8 hP a _ _ _ _ _ _ (λt g1 q=>C9 (λq=>o8 hP b _ _ _ _ _ _ h hx q) (h _ _) q) hx q
 |.jh a b,Z,g,Q,Q',E,E',h,hx,q=>by
  exact o8 hP a _ _ _ _ _ _ (λt g1 q=>C9 (h _ _) (λq=>o8 hP b _ _ _ _ _ _ h hx q) q) hx q
 |.et a,Z,g,Q,Q',E,E',h,hx,q=>by exact o8 hP a _ _ _ _ _ _ (λt g1 q=>h _ _ q) hx q
 |.no,Z,g,Q,Q',E,E',h,hx,q=>by exact h _ _ q
 |.fE e,Z,g,Q,Q',E,E',h,hx,q=>by exact b0 hP e _ _ _ _ _ _ (λx g1 q=>Vh (λb q=>h _ _ q) q) hx q
 |.var _,Z,g,Q,Q',E,E',h,hx,q|.lit _,Z,g,Q,Q',E,E',h,hx,q|.prim _ _,Z,g,Q,Q',E,E',h,hx,q|.eB _ _ _,Z,g,Q,Q',E,E',h,hx,q|.mj _,Z,g,Q,Q',E,E',h,hx,q|.chain _ _ _ _ _,Z,g,Q,Q',E,E',h,hx,q|.ite _ _ _,Z,g,Q,Q',E,E',h,hx,q|.call _ _,Z,g,Q,Q',E,E',h,hx,q|.nil,Z,g,Q,Q',E,E',h,hx,q|.cons _ _,Z,g,Q,Q',E,E',h,hx,q
 |.make _ _ _,Z,g,Q,Q',E,E',h,hx,q|.jI _ _ _ _,Z,g,Q,Q',E,E',h,hx,q|.comp _ _ _ _ _ _,Z,g,Q,Q',E,E',h,hx,q|.iu _ _ _ _ _ _,Z,g,Q,Q',E,E',h,hx,q|.jF _ _ _ _ _ _,Z,g,Q,Q',E,E',h,hx,q|.iL _,Z,g,Q,Q',E,E',h,hx,q|.eE _,Z,g,Q,Q',E,E',h,hx,q|.jL _ _,Z,g,Q,Q',E,E',h,hx,q|.mJ _,Z,g,Q,Q',E,E',h,hx,q|.qJ _,Z,g,Q,Q',E,E',h,hx,q=>(show False from q).elim
theorem y9{P:eM}(hP:j5 P):∀(e:ME) (Z:S) (g:G) (Q Q':IK->G->Prop) (E E':KX),(∀d g,Q d g->Q' d g)->(∀x g,E x g->E' x g)->iJ P e Z g Q E->iJ P e Z g Q' E'
 |.iL e,Z,g,Q,Q',E,E',h,hx,q=>by
  exact b0 hP e _ _ _ _ _ _ (λx g1 q=>q.imp (λ⟨l,a,b⟩=>⟨l,a,h _ _ b⟩) λ⟨i,l,a,b,c⟩=>⟨i,l,a,b,h _ _ c⟩) hx q
 |.eE a,Z,g,Q,Q',E,E',h,hx,q=>by
  exact b0 hP a _ _ _ _ _ _ (λx g1 ⟨j,a,b,c,d⟩=>⟨j,a,b,c,h _ _ d⟩) hx q
 |.jL a b,Z,g,Q,Q',E,E',h,hx,q=>by
  exact b0 hP a _ _ _ _ _ _ (λx g1 q=>b0 hP b _ _ _ _ _ _ (λy g2 ⟨i,j,a,b,c,d⟩=>⟨i,j,a,b,c,h _ _ d⟩) hx q) hx q
 |.mJ e,Z,g,Q,Q',E,E',h,hx,q=>by
  exact b0 hP e _ _ _ _ _ _ (λx g1 ⟨i,l,a,b,c⟩=>⟨i,l,a,b,h _ _ c⟩) hx q
 |.qJ e,Z,g,Q,Q',E,E',h,hx,q=>by
  exact b0 hP e _ _ _ _ _ _ (λx g1 ⟨i,l,a,b,c⟩=>⟨i,l,a,b,h _ _ c⟩) hx q
 |.var _,Z,g,Q,Q',E,E',h,hx,q|.lit _,Z,g,Q,Q',E,E',h,hx,q|.prim _ _,Z,g,Q,Q',E,E',h,hx,q|.eB _ _ _,Z,g,Q,Q',E,E',h,hx,q|.mj _,Z,g,Q,Q',E,E',h,hx,q|.chain _ _ _ _ _,Z,g,Q,Q',E,E',h,hx,q|.ite _ _ _,Z,g,Q,Q',E,E',h,hx,q|.call _ _,Z,g,Q,Q',E,E',h,hx,q|.nil,Z,g,Q,Q',E,E',h,hx,q|.cons _ _,Z,g,Q,Q',E,E',h,hx,q
 |.dw _ _,Z,g,Q,Q',E,E',h,hx,q|.jh _ _,Z,g,Q,Q',E,E',h,hx,q|.et _,Z,g,Q,Q',E,E',h,hx,q|.fE _,Z,g,Q,Q',E,E',h,hx,q|.no,Z,g,Q,Q',E,E',h,hx,q
 |.make _ _ _,Z,g,Q,Q',E,E',h,hx,q|.jI _ _ _ _,Z,g,Q,Q',E,E',h,hx,q|.comp _ _ _ _ _ _,Z,g,Q,Q',E,E',h,hx,q|.iu _ _ _ _ _ _,Z,g,Q,Q',E,E',h,hx,q|.jF _ _ _ _ _ _,Z,g,Q,Q',E,E',h,hx,q=>(show False from q).elim
end
structure Ends.le(N N':Ends):Prop where
 nx:∀Z g,N.nx Z g->N'.nx Z g
 rt:∀d g,N.rt d g->N'.rt d g
 bk:∀Z g,N.bk Z g->N'.bk Z g
 ct:∀Z g,N.ct Z g->N'.ct Z g
theorem EE{P:eM}(hP:j5 P){N N':Ends}{E E':KX}(h:N.le N')(hx:∀x g,E x g->E' x g){Z:S}:∀(hs:List (Str×ME)) x g,kF P N Z E hs x g->kF P N' Z E' hs x g
 |[],x,g,q=>hx x g q
 |(y,e)::r,x,g,q=>by
  unfold kF at q ⊢;split
  ·rename_i hh;rw[aE hh] at q;exact b0 hP e _ _ _ _ _ _ h.rt (λ_ _ z=>z) q
  ·rename_i hh;rw[aB hh] at q;exact EE hP h hx r x g q
theorem wpS_mono{P:eM}(hP:j5 P):∀(s:MS) (N N':Ends) (Z:S) (g:G) (E E':KX),N.le N'->(∀x g,E x g->E' x g)->wpS P s N Z g E->wpS P s N' Z g E'
 |.pass,N,N',Z,g,E,E',h,hx,q=>h.nx _ _ q
 |.seq a b,N,N',Z,g,E,E',h,hx,q=>wpS_mono hP a { N with nx:=λgP g1=>wpS P b N gP g1 E } { N' with nx:=λgP g1=>wpS P b N' gP g1 E' } _ _ _ _ ⟨λgP g1 q=>wpS_mono hP b _ _ _ _ _ _ h hx q,h.rt,h.bk,h.ct⟩ hx q
 |.expr e,N,N',Z,g,E,E',h,hx,q=>b0 hP e _ _ _ _ _ _ (λx g1 q=>h.nx _ _ q) hx q
 |.set i e,N,N',Z,g,E,E',h,hx,q=>b0 hP e _ _ _ _ _ _ (λx g1 q=>h.nx _ _ q) hx q
 |.mz t e,N,N',Z,g,E,E',h,hx,q=>b0 hP e _ _ _ _ _ _ (λx g1 q=>B0 (λZ q=>h.nx _ _ q) q) hx q
 |.dS o i v,N,N',Z,g,E,E',h,hx,q=>b0 hP v _ _ _ _ _ _ (λx g1 q=>b0 hP o _ _ _ _ _ _ (λy g2 q=>b0 hP i _ _ _ _ _ _ (λz g3 q=>Q3 (λg q=>h.nx _ _ q) q) hx q) hx q) hx q
 |.ni f cs o v,N,N',Z,g,E,E',h,hx,q=>b0 hP v _ _ _ _ _ _ (λx g1 q=>b0 hP o _ _ _ _ _ _ (λy g2 q=>VO (λg q=>h.nx _ _ q) q) hx q) hx q
 | .uN f cs o v,N,N',Z,g,E,E',h,hx,q=>b0 hP o _ _ _ _ _ _ (λy g1 q=>by
   obtain⟨a,c,fs,x,q1,q2,q3,q4,q⟩:=q;exact ⟨a,c,fs,x,q1,q2,q3,q4,b0 hP v _ _ _ _ _ _ (λz g3 q=>s9 (λw g4 q=>by
    obtain⟨qc,k1,k2,k3⟩:=q;exact ⟨qc,k1,k2,h.nx _ _ k3⟩) q) hx q⟩) hx q
 |.vB o1 i1 o2 i2 e,N,N',Z,g,E,E',h,hx,q=>b0 hP e _ _ _ _ _ _ (λx g1 q=>let ⟨u,v,q1,q⟩:=q;⟨u,v,q1,b0 hP o1 _ _ _ _ _ _ (λy g2 q=>b0 hP i1 _ _ _ _ _ _ (λz g3 q=>Q3 (λg4 q=>b0 hP o2 _ _ _ _ _ _ (λy g5 q=>b0 hP i2 _ _ _ _ _ _ (λz g6 q=>Q3 (λg q=>h.nx _ _ q) q) hx q) hx q) q) hx q) hx q⟩) hx q
 |.uM i p v,N,N',Z,g,E,E',h,hx,q=>let ⟨x,q1,q⟩:=q;⟨x,q1,b0 hP v _ _ _ _ _ _ (λz g1 q=>s9 (λw g2 q=>h.nx _ _ q) q) hx q⟩
 |.ifs c a b,N,N',Z,g,E,E',h,hx,q=>o8 hP c _ _ _ _ _ _ (λt g1 q=>C9 (λq=>wpS_mono hP a _ _ _ _ _ _ h hx q) (λq=>wpS_mono hP b _ _ _ _ _ _ h hx q) q) hx q
 |.dF t it b,N,N',Z,g,E,E',h,hx,q=>y9 hP it _ _ _ _ _ _ (λk g1 q=>VX h.nx (λx N2 Z g q=>B0 (λcD q=>wpS_mono hP b { N with nx:=N2,ct:=N2,bk:=N.nx } { N' with nx:=N2,ct:=N2,bk:=N'.nx } _ _ _ _ ⟨λ_ _ z=>z,h.rt,h.nx,λ_ _ z=>z⟩ hx q) q) q) hx q
 |.jC c b,N,N',Z,g,E,E',h,hx,q=>by
  obtain⟨W,w0,q⟩:=q;refine⟨W,w0,λm Z g w=>o8 hP c _ _ _ _ _ _ (λt g1 q=>C9 (λq=>?_) (h.nx _ _) q) hx (q m Z g w)⟩;obtain⟨N2,a,q⟩:=q;exact⟨N2,a,wpS_mono hP b { N with nx:=N2,ct:=N2,bk:=N.nx } { N' with nx:=N2,ct:=N2,bk:=N'.nx } _ _ _ _ ⟨λ_ _ z=>z,h.rt,h.nx,λ_ _ z=>z⟩ hx q⟩
 |.ret e,N,N',Z,g,E,E',h,hx,q=>b0 hP e _ _ _ _ _ _ h.rt hx q
 |.pE,N,N',Z,g,E,E',h,hx,q=>h.rt _ _ q
 |.brk,N,N',Z,g,E,E',h,hx,q=>h.bk _ _ q
 |.cont,N,N',Z,g,E,E',h,hx,q=>h.ct _ _ q
 |.raise x es,N,N',Z,g,E,E',h,hx,q=>v7 hP es _ _ _ _ _ _ (λvs g1 q=>⟨q.1,hx _ _ q.2⟩) hx q
 |.U8 b hs,N,N',Z,g,E,E',h,hx,q=>wpS_mono hP b _ _ _ _ _ _ h (λx g q=>EE hP h hx hs x g q) q
theorem b7(T:Nat->Option bj):∀k,j5 (b9 T k)
 |0=>λf xs g Q Q' E E' h hx q=>q.elim
 |k+1=>λf xs g Q Q' E E' h hx q=>by
  obtain⟨m,a,b,q⟩:=q;exact⟨m,a,b,wpS_mono (b7 T k) m.body ⟨λ_ g'=>Q .bL g',Q,λ_ _=>False,λ_ _=>False⟩ _ _ _ _ _ ⟨λ_ _ z=>h _ _ z,h,λ_ _ z=>z,λ_ _ z=>z⟩ hx q⟩
def TupAt(K:PySem.W.Frag)(H:Hp)(a:Addr)(vs:List V):Prop :=
 H a=some (.tup vs)\/∃(o:Obj) (aQ:Array Value) (n:Nat),K.lookup a=some o/\o.cls=.type "tuple"/\o.dict=none/\o.data=.seq aQ n/\aQ.size<=sizeLine/\Vals vs aQ.toList
theorem TupAt.d(h:TupAt K H a vs):BD K H a vs:=h
theorem TupAt.sq{K:PySem.W.Frag}{H:Hp}{a:Addr}{vs:List V}(h:TupAt K H a vs):hZ K H a vs:=h.d.sq
mutual
inductive d7(K:PySem.W.Frag)(ρ:List Addr)(H:Hp):D->V->Prop
 |bL:d7 K ρ H .bL .bL
 |bl (b:Bool):d7 K ρ H (.bl b) (.bl b)
 |int (i:Int):d7 K ρ H (.int i) (.int i)
 |str (x:Str):d7 K ρ H (.str x) (.str x)
 |ty (n:String):d7 K ρ H (.ty n) (.ty n)
 |ref {i:Nat} {a:Addr} (h:ρ[i]?=some a):d7 K ρ H (.ref i) (.ref a)
 |tup {l:List D} {a:Addr} {vs:List V} (h:TupAt K H a vs) (r:a9 K ρ H l vs):d7 K ρ H (.tup l) (.ref a)
inductive a9(K:PySem.W.Frag)(ρ:List Addr)(H:Hp):List D->List V->Prop
 |nil:a9 K ρ H [] []
 |cons {d:D} {v:V} {ds:List D} {vs:List V} (h:d7 K ρ H d v) (r:a9 K ρ H ds vs):a9 K ρ H (d::ds) (v::vs)
end
structure Ext(ρ:List Addr)(H:Hp)(bz:List Addr)(H':Hp):Prop where
 pre:∃more,bz=ρ++more
 tup:∀a xs,H a=some (.tup xs)->H' a=some (.tup xs)
theorem Ext.refl(ρ:List Addr)(H:Hp):Ext ρ H ρ H:=⟨⟨[],by simp⟩,λ_ _ h=>h⟩
theorem Ext.trans{ρ H bP H1 eI H2}(a:Ext ρ H bP H1)(b:Ext bP H1 eI H2):Ext ρ H eI H2:=by
 obtain⟨⟨m,rfl⟩,t⟩:=a;obtain⟨⟨m',rfl⟩,t'⟩:=b;exact⟨⟨m++m',by simp⟩,λx xs h=>t' _ _ (t _ _ h)⟩
theorem Ext.get{ρ H bz H'}(e:Ext ρ H bz H')(h:ρ[i]?=some a):bz[i]?=some a:=by
 obtain⟨⟨m,rfl⟩,_⟩:=e;rw[au (aq.mp h).1];exact h
theorem TupAt.ext{K ρ H bz H'}(e:Ext ρ H bz H')(h:TupAt K H a vs):TupAt K H' a vs:=h.elim (λz=>.inl (e.tup _ _ z)) .inr
mutual
theorem d7.ext{K ρ H bz H'}(e:Ext ρ H bz H'):∀{d v},d7 K ρ H d v->d7 K bz H' d v
 |_,_,.bL=>.bL
 |_,_,.bl b=>.bl b
 |_,_,.int i=>.int i
 |_,_,.str x=>.str x
 |_,_,.ty n=>.ty n
 |_,_,.ref h=>.ref (e.get h)
 |_,_,.tup h r=>.tup (h.ext e) (a9.ext e r)
theorem a9.ext{K ρ H bz H'}(e:Ext ρ H bz H'):∀{ds vs},a9 K ρ H ds vs->a9 K bz H' ds vs
 |_,_,.nil=>.nil
 |_,_,.cons h r=>.cons (d7.ext e h) (a9.ext e r)
end
theorem a9.length{K ρ H}{ds:List D}{vs:List V}(h:a9 K ρ H ds vs):ds.length=vs.length:=by
 induction ds generalizing vs with
 |nil=>cases h;rfl
 |cons d ds ih =>
  cases h with
  |cons q r=>simp[ih r]
theorem a9.get{K ρ H}:∀{ds vs} {i:Nat} {d:D},a9 K ρ H ds vs->ds[i]?=some d->∃v,vs[i]?=some v/\d7 K ρ H d v
 |_,_,_,_,.nil,h=>by simp at h
 |_,_,0,_,.cons h _,e=>by simp at e;subst e;exact⟨_,rfl,h⟩
 |_,_,i+1,d,.cons _ r,e=>by
  obtain⟨v,h1,h2⟩:=a9.get (i:=i) (d:=d) r (by simpa using e);exact⟨v,by simpa using h1,h2⟩
theorem a9.set{K ρ H}{d:D}{v:V}(h:d7 K ρ H d v):∀{ds vs} (i:Nat),a9 K ρ H ds vs->a9 K ρ H (ds.set i d) (vs.set i v)
 |_,_,_,.nil=>.nil
 |_,_,0,.cons _ r=>.cons h r
 |_,_,i+1,.cons q r=>.cons q (a9.set h i r)
theorem a9.append{K ρ H}{ds es:List D}{ws:List V}(h:a9 K ρ H ds vs)(s:a9 K ρ H es ws):a9 K ρ H (ds++es) (vs++ws):=by
 induction ds generalizing vs with
 |nil=>cases h;exact s
 |cons d ds ih =>
  cases h with
  |cons q r=>exact .cons q (ih r)
theorem a9.rep{K ρ H}{ds:List D}{vs:List V}(r:a9 K ρ H ds vs):∀n,a9 K ρ H (List.replicate n ds).flatten (List.replicate n vs).flatten
 |0=>.nil
 |n+1=>by
  rw[bQ,bQ,cN,cN];exact a9.append r (a9.rep r n)
theorem a9.erase{K ρ H}:∀{ds:List D} {vs:List V} (i:Nat),a9 K ρ H ds vs->a9 K ρ H (ds.eraseIdx i) (vs.eraseIdx i)
 |_,_,_,.nil=>.nil
 |_,_,0,.cons _ r=>r
 |_,_,i+1,.cons q r=>.cons q (a9.erase i r)
theorem a9.take{K ρ H}:∀{ds:List D} {vs:List V} (n:Nat),a9 K ρ H ds vs->a9 K ρ H (ds.take n) (vs.take n)
 |_,_,0,_=>.nil
 |_,_,_+1,.nil=>.nil
 |_,_,n+1,.cons h r=>.cons h (a9.take n r)
theorem a9.drop{K ρ H}:∀{ds:List D} {vs:List V} (n:Nat),a9 K ρ H ds vs->a9 K ρ H (ds.drop n) (vs.drop n)
 |_,_,0,r=>r
 |_,_,_+1,.nil=>.nil
 |_,_,n+1,.cons _ r=>a9.drop n r
theorem a9.reverse{K ρ H}:∀{ds:List D} {vs:List V},a9 K ρ H ds vs->a9 K ρ H ds.reverse vs.reverse
 |_,_,.nil=>.nil
 |_,_,.cons h r=>by
  rw[fV,fV];exact a9.append (a9.reverse r) (.cons h .nil)
theorem a9.cut{K ρ H}{ds:List D}{vs:List V}(r:a9 K ρ H ds vs)(lo hi:Option Int):a9 K ρ H (M.cut ds lo hi) (P7 vs lo hi):=by
 unfold M.cut P7;rw[r.length];exact(r.drop _).take _
theorem a9.ints{K ρ H}:∀{ns:List Int} {vs:List V},a9 K ρ H (ns.map D.int) vs->vs=ns.map V.int
 |[],_,.nil=>rfl
 |_::_,_,.cons h r=>by cases h;rw[a9.ints r];rfl
theorem a9.ofInts{K ρ H}:∀(ns:List Int),a9 K ρ H (ns.map D.int) (ns.map V.int)
 |[]=>.nil
 |n::r=>.cons (.int n) (a9.ofInts r)
def rE(K:PySem.W.Frag)(H:Hp)(a:Addr)(vs:List V):Prop :=
 (∃o,H a=some (.jm o (.lst vs)))\/∃(o:Obj) (aQ:Array Value) (n:Nat),K.lookup a=some o/\o.cls=.type "list"/\o.dict=none/\o.data=.seq aQ n/\aQ.size<=sizeLine/\Vals vs aQ.toList
theorem rE.sq(h:rE K H a vs):fj K H a vs:=h.elim (λ⟨o,z⟩=>.inl (.inr ⟨o,z⟩)) .inr
inductive i8{α:Type}(K:PySem.W.Frag)(ρ:List Addr)(H:Hp):List (α×D)->List (α×V)->Prop
 |nil:i8 K ρ H [] []
 |cons {k:α} {d:D} {v:V} {ds:List (α×D)} {vs:List (α×V)} (h:d7 K ρ H d v) (r:i8 K ρ H ds vs):i8 K ρ H ((k,d)::ds) ((k,v)::vs)
theorem i8.ext{α:Type}{K ρ H bz H'}(e:Ext ρ H bz H'){ds:List (α×D)}{vs:List (α×V)}(h:i8 K ρ H ds vs):i8 K bz H' ds vs:=by
 induction h with
 |nil=>exact .nil
 |cons h r ih=>exact .cons (h.ext e) ih
theorem i8.drop{K ρ H}{ds:List (Key×D)}{vs:List (Key×V)}(k:Key)(h:i8 K ρ H ds vs):i8 K ρ H (delD ds k) (wm vs k):=by
 unfold delD wm
 induction h with
 |nil=>exact .nil
 |cons h r ih =>
  rw[gH,gH];split
  ·exact .cons h ih
  ·exact ih
theorem i8.get{α:Type}{K ρ H}{ds:List (α×D)}{vs:List (α×V)}(h:i8 K ρ H ds vs):∀{i:Nat} {k:α} {d:D},ds[i]?=some (k,d)->∃v,vs[i]?=some (k,v)/\d7 K ρ H d v:=by
 induction h with
 |nil=>intro i k d e;simp at e
 |cons h r ih =>
  intro i k d e;cases i with
  |zero=>simp at e;obtain⟨rfl,rfl⟩:=e;exact⟨_,rfl,h⟩
  |succ i=>simpa using ih (by simpa using e)
theorem i8.length{α:Type}{K ρ H}{ds:List (α×D)}{vs:List (α×V)}(h:i8 K ρ H ds vs):ds.length=vs.length:=by
 induction h with
 |nil=>rfl
 |cons h r ih=>simp[ih]
def Y3(K:PySem.W.Frag)(ρ:List Addr)(H:Hp):Option D->Option V->Prop
 |some d,some v=>d7 K ρ H d v
 |none,none=>True
 |_,_=>False
theorem i8.val{K ρ H}:∀{ds vs} (k:Key),i8 K ρ H ds vs->Y3 K ρ H (m7 ds k) (I9 vs k)
 |_,_,k,.nil=>trivial
 |_,_,k,.cons (k:=k') h r=>by
  unfold m7 I9;rw[hW,hW];by_cases e:k'=k
  ·simp only[e,decide_true];exact h
  ·simp only[e,decide_false];exact i8.val k r
theorem i8.Hh{K ρ H}:∀{ds vs} (k:Key),i8 K ρ H ds vs->(ds.any λkv=>decide (kv.1=k))=(vs.any λkv=>decide (kv.1=k))
 |_,_,k,.nil=>rfl
 |_,_,k,.cons h r=>by simp only[List.any_cons,i8.Hh k r]
theorem i8.snoc{K ρ H}{k:Key}{d:D}{v:V}(h:d7 K ρ H d v){ds vs}(t:i8 K ρ H ds vs):i8 K ρ H (ds++[(k,d)]) (vs++[(k,v)]):=by
 induction ds generalizing vs with
 |nil=>cases t;exact .cons h .nil
 |cons d ds ih =>
  cases t with
  |cons q r=>exact .cons q (ih r)
theorem i8.Aa{K ρ H}{k:Key}{d:D}{v:V}(h:d7 K ρ H d v):∀{ds vs},i8 K ρ H ds vs->i8 K ρ H (ds.map λkv=>if kv.1=k then(kv.1,d) else kv) (vs.map λkv=>if kv.1=k then(kv.1,v) else kv)
 |_,_,.nil=>.nil
 |_,_,.cons (k:=k') q r=>by
  simp only[List.map_cons];by_cases e:k'=k
  ·rw[aE e,aE e];exact .cons h (i8.Aa h r)
  ·rw[aB e,aB e];exact .cons q (i8.Aa h r)
theorem i8.put{K ρ H}{k:Key}{d:D}{v:V}(h:d7 K ρ H d v){ds vs}(r:i8 K ρ H ds vs):i8 K ρ H (putD ds k d) (putK vs k v):=by
 unfold putD putK;rw[r.Hh k];split
 ·exact r.Aa h
 ·exact r.snoc h
noncomputable abbrev o7(K:PySem.W.Frag)(x:Str)(C:Addr):Prop:=PySem.W.nsIn K mainGlobals x=some (some (.ref C))
theorem i8.look{K ρ H}{ds:List (Str×D)}{vs:List (Str×V)}(f:Str)(h:i8 K ρ H ds vs):Y3 K ρ H (ds.lookup f) (vs.lookup f):=by
 induction h with
 |nil=>trivial
 |cons h r ih =>
  rename_i k d v ds vs;rw[cw,cw];cases f==k
  ·exact ih
  ·exact h
theorem i8.v8{K ρ H}{f:Str}{d:D}{v:V}(h:d7 K ρ H d v){ds:List (Str×D)}{vs:List (Str×V)}(r:i8 K ρ H ds vs):i8 K ρ H (N7 f d ds) (L2.v8 f v vs):=by
 induction r with
 |nil=>exact .cons h .nil
 |cons q r ih =>
  unfold N7 L2.v8;split
  ·exact .cons h r
  ·exact .cons q ih
theorem Fp{f:Str}{d:D}{p:Str->Prop}(hf:p f):∀{ds:List (Str×D)},(∀x∈ds,p x.1)->∀x∈N7 f d ds,p x.1
 |[],_,x,hx=>by
  have:x=(f,d):=by simpa[N7] using hx
  rw[this];exact hf
 |(k,e)::r,h,x,hx=>by
  unfold N7 at hx;split at hx
  ·rcases aA.mp hx with z|z
   ·rw[z];exact h (k,e) (by simp)
   ·exact h x (by simp[z])
  ·rcases aA.mp hx with z|z
   ·rw[z];exact h (k,e) (by simp)
   ·exact Fp hf (λy hy=>h y (by simp[hy])) x z
def OH(K:PySem.W.Frag)(ρ:List Addr)(H:Hp):O->HO->Prop
 |.lst l,.lst vs=>a9 K ρ H l vs
 |.cg kvs,.dK vs=>i8 K ρ H kvs vs
 |.set S n,.set S' n'=>S=S'/\n=n'
 |.ins c fs,.ins C _ vs=>o7 K c C/\jx K C/\i8 K ρ H fs vs/\∀x∈fs,w9 K C x.1
 |_,_=>False
theorem OH.ext{K ρ H bz H'}(e:Ext ρ H bz H'){o:O}{u:HO}(h:OH K ρ H o u):OH K bz H' o u:=by
 cases o<;>cases u<;>first|exact h.elim|exact a9.ext e h|exact i8.ext e h|exact⟨h.1,h.2.1,h.2.2.1.ext e,h.2.2.2⟩|exact h
theorem OH.rH{K ρ H}{xs:List V}(h:OH K ρ H o (.tup xs)):False:=by cases o<;>exact h
theorem OH.Mz{K ρ H}{ob:Obj}(h:OH K ρ H o (.jm ob u)):False:=by cases o<;>exact h
def F0(K:PySem.W.Frag)(ρ:List Addr)(H:Hp)(o:O)(a:Addr):Prop:=match o with
 |.nF l=>∃vs,rE K H a vs/\a9 K ρ H l vs
 |o=>∃u,H a=some u/\OH K ρ H o u
theorem F0.of{K ρ H}(hu:H a=some u)(h:OH K ρ H o u):F0 K ρ H o a:=by
 cases o<;>first|exact⟨u,hu,h⟩|(cases u<;>exact h.elim)
theorem F0.inv{K ρ H}(m:o.mut=true)(h:F0 K ρ H o a):∃u,H a=some u/\OH K ρ H o u:=by
 cases o<;>first|exact h|cases m
theorem F0.lst{K ρ H}{l:List D}{a:Addr}(h:F0 K ρ H (.lst l) a):∃vs,H a=some (.lst vs)/\a9 K ρ H l vs:=by
 obtain⟨u,h1,h2⟩:=h;cases u<;>first|exact⟨_,h1,h2⟩|exact h2.elim
theorem F0.cg{K ρ H}{l:List (Key×D)}{a:Addr}(h:F0 K ρ H (.cg l) a):∃vs,H a=some (.dK vs)/\i8 K ρ H l vs:=by
 obtain⟨u,h1,h2⟩:=h;cases u<;>first|exact⟨_,h1,h2⟩|exact h2.elim
theorem F0.set{K ρ H}{S:Int->Bool}{n:Nat}{a:Addr}(h:F0 K ρ H (.set S n) a):H a=some (.set S n):=by
 obtain⟨u,h1,h2⟩:=h;cases u<;>first|(obtain⟨rfl,rfl⟩:=(show _/\_ from h2);exact h1)|exact h2.elim
theorem F0.ins{K ρ H}{c:Str}{fs:List (Str×D)}{a:Addr}(h:F0 K ρ H (.ins c fs) a):∃C dx vs,H a=some (.ins C dx vs)/\o7 K c C/\jx K C/\i8 K ρ H fs vs/\∀x∈fs,w9 K C x.1:=by
 obtain⟨u,h1,h2⟩:=h;cases u<;>first|exact⟨_,_,_,h1,h2⟩|exact h2.elim
structure Rl(K:PySem.W.Frag)(ρ:List Addr)(g:G)(H:Hp):Prop where
 len:ρ.length=g.length
 obj:∀(i:Nat) o a,g[i]?=some o->ρ[i]?=some a->F0 K ρ H o a
 nd:∀(i j:Nat) o o' a,g[i]?=some o->g[j]?=some o'->o.mut=true->o'.mut=true->ρ[i]?=some a->ρ[j]?=some a->i=j
section
variable{ρ:List Addr}
theorem Rl.lst(R:Rl K ρ g H){i:Nat}{l:List D}{a:Addr}(h:g[i]?=some (.lst l))(ha:ρ[i]?=some a):∃vs,H a=some (.lst vs)/\a9 K ρ H l vs:=(R.obj _ _ _ h ha).lst
theorem Rl.cg(R:Rl K ρ g H){i:Nat}{l:List (Key×D)}{a:Addr}(h:g[i]?=some (.cg l))(ha:ρ[i]?=some a):∃vs,H a=some (.dK vs)/\i8 K ρ H l vs:=(R.obj _ _ _ h ha).cg
theorem Rl.set(R:Rl K ρ g H){i:Nat}{S:Int->Bool}{n:Nat}{a:Addr}(h:g[i]?=some (.set S n))(ha:ρ[i]?=some a):H a=some (.set S n):=(R.obj _ _ _ h ha).set
theorem Rl.ins(R:Rl K ρ g H){i:Nat}{c:Str}{fs:List (Str×D)}{a:Addr}(h:g[i]?=some (.ins c fs))(ha:ρ[i]?=some a):∃C dx vs,H a=some (.ins C dx vs)/\o7 K c C/\jx K C/\i8 K ρ H fs vs/\∀x∈fs,w9 K C x.1:=(R.obj _ _ _ h ha).ins
theorem Rl.items(R:Rl K ρ g H)(h:c8 g i=some l)(ha:ρ[i]?=some a):∃vs,fj K H a vs/\a9 K ρ H l vs:=by
 cases e:g[i]? with
 |none=>rw[c8,e] at h;cases h
 |some o =>
  rw[c8,e] at h;have q:=R.obj _ _ _ e ha;cases o with
  |lst m=>cases h;obtain⟨vs,z,r⟩:=q.lst;exact⟨vs,fj.of z,r⟩
  |nF m=>cases h;obtain⟨vs,z,r⟩:=q;exact⟨vs,z.sq,r⟩
  |_=>cases h
theorem w5{o:HO}(hp:H p=none):Ext ρ H ρ (upd H p o):=⟨⟨[],by simp⟩,λa xs h=>by rw[f6 (j9 h hp)];exact h⟩
theorem rE.upd{p a:Addr}{o:HO}{vs:List V}(h:rE K H a vs)(hp:∀ob u,H p≠some (.jm ob u)):rE K (upd H p o) a vs:=by
 rcases h with⟨ob,z⟩|z
 ·refine .inl ⟨ob,?_⟩;rw[f6 ?_]
  ·exact z
  ·intro e;subst e;exact hp _ _ z
 ·exact .inr z
theorem F0.upd{p a:Addr}{o:O}{u:HO}{bz:List Addr}(h:F0 K ρ H o a)(dO:o.mut=true->a≠p)(hp:∀ob u,H p≠some (.jm ob u))(e:Ext ρ H bz (L2.upd H p u)):F0 K bz (L2.upd H p u) o a:=by
 cases hm:o.mut with
 |true =>
  obtain⟨u',h1,h2⟩:=h.inv hm;exact .of (by rw[f6 (dO hm)];exact h1) (h2.ext e)
 |false =>
  cases o<;>first|cases hm|skip
  obtain⟨vs,z,r⟩:=h;exact⟨vs,z.upd hp,r.ext e⟩
theorem Rl.grow{o:HO}(R:Rl K ρ g H)(hp:H p=none):Rl K ρ g (upd H p o):=by
 have e:Ext ρ H ρ (upd H p o):=w5 hp;refine⟨R.len,λi ob a h1 h2=>?_,R.nd⟩;have q:=R.obj _ _ _ h1 h2;refine q.upd (λhm=>?_) (λob u z=>by rw[hp] at z;cases z) e;obtain⟨u,h1,_⟩:=q.inv hm;exact j9 h1 hp
theorem Rl.u4(R:Rl K ρ g H)(p:Addr):(ρ++[p])[g.length]?=some p:=by rw[<- R.len];simp
theorem B5{o:HO}(hp:H p=none):Ext ρ H (ρ++[p]) (upd H p o):=⟨⟨[p],rfl⟩,(w5 (ρ:=ρ) hp).tup⟩
theorem Rl.new(R:Rl K ρ g H)(hp:H p=none)(r:OH K ρ H o u):Rl K (ρ++[p]) (g++[o]) (upd H p u):=by
 have e:Ext ρ H (ρ++[p]) (upd H p u):=B5 hp;have old:∀{i:Nat} {ob:O} {a:Addr},g[i]?=some ob->(ρ++[p])[i]?=some a->ρ[i]?=some a:=λ{i ob a} h1 h2=>by
  rw[au (by rw[R.len];exact(aq.mp h1).1)] at h2;exact h2
 have split:∀{i:Nat} {ob:O},(g++[o])[i]?=some ob->g[i]?=some ob\/(i=g.length/\ob=o):=λ{i ob} h=>by
  rcases ka i g.length with q|q|q
  ·rw[au q] at h;exact .inl h
  ·subst q;simp at h;exact .inr ⟨rfl,h.symm⟩
  ·rw[iq (by simp;omega)] at h;cases h
 refine⟨by simp[R.len],λi ob a h1 h2=>?_,λi j o1 o2 a h1 h2 m1 m2 h3 h4=>?_⟩
 ·rcases split h1 with q|⟨rfl,rfl⟩
  ·have z:=R.obj _ _ _ q (old q h2);refine z.upd (λhm=>?_) (λob u z=>by rw[hp] at z;cases z) e;obtain⟨u,h1,_⟩:=z.inv hm;exact j9 h1 hp
  ·rw[R.u4] at h2;cases h2;exact .of p6 (r.ext e)
 ·have nq:∀{i:Nat} {o:O} {a:Addr},g[i]?=some o->o.mut=true->ρ[i]?=some a->a≠p:=λ{i o a} h1 hm h2=>by
   obtain⟨u,z,_⟩:=(R.obj _ _ _ h1 h2).inv hm;exact j9 z hp
  rcases split h1 with q|⟨rfl,_⟩
  ·rcases split h2 with q'|⟨rfl,_⟩
   ·exact R.nd _ _ _ _ _ q q' m1 m2 (old q h3) (old q' h4)
   ·rw[R.u4] at h4;cases h4;exact absurd rfl (nq q m1 (old q h3))
  ·rcases split h2 with q'|⟨rfl,_⟩
   ·rw[R.u4] at h3;cases h3;exact absurd rfl (nq q' m2 (old q' h4))
   ·rfl
theorem Rl.alloc(R:Rl K ρ g H)(hp:H p=none)(r:a9 K ρ H l vs):Rl K (ρ++[p]) (g++[.lst l]) (upd H p (.lst vs)):=R.new hp r
theorem Rl.put{o':O}(R:Rl K ρ g H)(h:g[i]?=some o)(hm:o.mut=true)(ha:ρ[i]?=some a)(r:OH K ρ H o' u) :
  Rl K ρ (g.set i o') (upd H a u)/\Ext ρ H ρ (upd H a u):=by
 obtain⟨u0,z0,Ct⟩:=(R.obj _ _ _ h ha).inv hm;have e:Ext ρ H ρ (upd H a u):=⟨⟨[],by simp⟩,λb xs q=>by rw[f6];exact q;intro z;subst z;rw[z0] at q;cases q;exact Ct.rH⟩
 refine⟨⟨by simp[R.len],λj ob b h1 h2=>?_,λj k o1 o2 b h1 h2 m1 m2 h3 h4=>?_⟩,e⟩
 ·by_cases ja:i=j
  ·subst ja;rw[ha] at h2;cases h2;have hi:i<g.length:=(aq.mp h).1;rw[aR hi] at h1;cases h1;exact .of p6 (r.ext e)
  ·rw[av ja] at h1;refine(R.obj _ _ _ h1 h2).upd (λkW ez=>?_) (λob u z=>by rw[z0] at z;cases z;exact Ct.Mz) e;subst ez;exact ja (R.nd _ _ _ _ _ h h1 hm kW ha h2)
 ·have back:∀{j:Nat} {m:O},(g.set i o')[j]?=some m->m.mut=true->∃m',g[j]?=some m'/\m'.mut=true:=λ{j m} q kW=>by
   by_cases ja:i=j
   ·subst ja;exact⟨o,h,hm⟩
   ·rw[av ja] at q;exact⟨m,q,kW⟩
  obtain⟨_,q1,n1⟩:=back h1 m1;obtain⟨_,q2,n2⟩:=back h2 m2;exact R.nd _ _ _ _ _ q1 q2 n1 n2 h3 h4
theorem Rl.write{l':List D}(R:Rl K ρ g H)(h:g[i]?=some (.lst l))(ha:ρ[i]?=some a)(r:a9 K ρ H l' vs) :
  Rl K ρ (g.set i (.lst l')) (upd H a (.lst vs))/\Ext ρ H ρ (upd H a (.lst vs)):=R.put h rfl ha r
end
structure m8(K:PySem.W.Frag)(ρ:List Addr)(H:Hp)(Z:S)(bR:St):Prop where
 len:Z.length=bR.length
 val:∀(i:Nat) d,Z[i]?=some (some d)->∃v,bR[i]?=some (some v)/\d7 K ρ H d v
section
variable{ρ bz:List Addr}{H':Hp}
theorem m8.ext{Z bR}(e:Ext ρ H bz H')(r:m8 K ρ H Z bR):m8 K bz H' Z bR:=⟨r.len,λi d h=>let ⟨v,a,b⟩:=r.val i d h;⟨v,a,b.ext e⟩⟩
theorem m8.set{Z bR d v}(r:m8 K ρ H Z bR)(i:Nat)(h:d7 K ρ H d v):m8 K ρ H (Z.set i (some d)) (bR.set i (some v)):=by
 refine⟨by simp[r.len],λj e q=>?_⟩;by_cases ja:i=j
 ·subst ja;have hi:i<Z.length:=by
   have:=(aq.mp q).1;simpa using this
  rw[aR hi] at q;cases q;exact⟨v,by rw[aR (by rw[<- r.len];exact hi)],h⟩
 ·rw[av ja] at q ⊢;exact r.val j e q
theorem m8.start{ds vs}{n:Nat}(r:a9 K ρ H ds vs):m8 K ρ H (ds.map some++List.replicate (n-ds.length) none) (vs.map some++List.replicate (n-vs.length) none):=by
 refine⟨by simp[r.length],λi d h=>?_⟩;by_cases hi:i<ds.length
 ·rw[au (by simpa using hi),aD] at h;cases e:ds[i]? with
  |none=>rw[e] at h;cases h
  |some x =>
   rw[e] at h;cases h;obtain⟨v,h1,h2⟩:=r.get e;refine⟨v,?_,h2⟩;rw[au (by rw[ah,<- r.length];exact hi),aD,h1]
   rfl
 ·rw[bZ (by simpa using hi),cZ] at h;split at h<;>cases h
theorem m8.d4{Z bR}(r:m8 K ρ H Z bR)(d4:List Nat)(n:Nat):m8 K ρ H (K1 Z d4 n) (A7 bR d4 n):=by
 refine⟨by simp[K1,A7],λi d h=>?_⟩;unfold K1 at h;unfold A7;by_cases hi:i<d4.length
 ·rw[au (by simpa using hi),aD,az hi] at h;rw[au (by simpa using hi),aD,az hi];simp only[Option.map_some] at h ⊢;cases e:Z[d4[i]]? with
  |none=>rw[e] at h;cases h
  |some x =>
   rw[e] at h;have hx:x=some d:=aH h;subst hx;obtain⟨v,h1,h2⟩:=r.val _ _ e;exact⟨v,by rw[h1];rfl,h2⟩
 ·rw[bZ (by simpa using hi),cZ] at h;split at h<;>cases h
end
end M
namespace M
open PySem L2 PySem.Spec PyProof.Rows
variable{g:G}{l:List D}{vs:List V}{b:Bool}{d:D}{X:Cx}{ρ:List Addr}{H:Hp}{Z:L2.St}{s:Shared}{v x:V}
def LQ(K:PySem.W.Frag)(ρ:List Addr)(H:Hp)(Q:VK):KD:=λd g'=>∀bz H' v,Ext ρ H bz H'->Rl K bz g' H'->d7 K bz H' d v->Q v H'
theorem LQ.ext{K ρ H bP H1 Q d g}(e:Ext ρ H bP H1)(h:LQ K ρ H Q d g):LQ K bP H1 Q d g:=λbz H' v e' R r=>h bz H' v (e.trans e') R r
theorem LQ.now{K ρ H Q d g v}(h:LQ K ρ H Q d g)(R:Rl K ρ g H)(r:d7 K ρ H d v):Q v H:=h ρ H v (.refl _ _) R r
theorem LQ.new{K ρ H Q}{p:Addr}(h:LQ K ρ H Q (.ref g.length) (g++[.lst l]))(R:Rl K ρ g H)(hp:H p=none)(r:a9 K ρ H l vs):Q (.ref p) (upd H p (.lst vs)) :=
 h (ρ++[p]) _ _ (B5 hp) (R.alloc hp r) (.ref (R.u4 p))
theorem LQ.tup{K ρ H Q}{g:G}{l:List D}{vs:List V}{p:Addr}(h:LQ K ρ H Q (.tup l) g)(R:Rl K ρ g H)(hp:H p=none)(r:a9 K ρ H l vs):Q (.ref p) (upd H p (.tup vs)) :=
 h ρ _ _ (w5 hp) (R.grow hp) (.tup (.inl p6) (r.ext (w5 hp)))
def r2(K:PySem.W.Frag)(p:Pr):R2:=λx y H Q=>∃d e g ρ,Rl K ρ g H/\d7 K ρ H d x/\d7 K ρ H e y/\cG p [d,e] g (LQ K ρ H Q)
def r1(K:PySem.W.Frag)(p:Pr):V->Hp->VK->Prop:=λx H Q=>∃d g ρ,Rl K ρ g H/\d7 K ρ H d x/\cG p [d] g (LQ K ρ H Q)
def rN(K:PySem.W.Frag)(p:Pr):List V->Hp->VK->Prop:=λxs H Q=>∃ds g ρ,Rl K ρ g H/\a9 K ρ H ds xs/\cG p ds g (LQ K ρ H Q)
theorem n8{n:Nat}(h:n<=100000):n<=sizeLine:=aM h (by decide)
theorem Aw{n:Nat}(h:n<100000):n<sizeLine:=ay h (by decide)
theorem d7.j8{K ρ H i v}(h:d7 K ρ H (.int i) v):v=.int i:=by cases h;rfl
theorem d7.C6{K ρ H i v}(h:d7 K ρ H (.str i) v):v=.str i:=by cases h;rfl
theorem d7.K2{K ρ H i v}(h:d7 K ρ H (.bl i) v):v=.bl i:=by cases h;rfl
theorem d7.wF{K ρ H v}(h:d7 K ρ H .bL v):v=.bL:=by cases h;rfl
theorem d7.Nn{K ρ H n v}(h:d7 K ρ H (.ty n) v):v=.ty n:=by cases h;rfl
theorem d7.j3{K ρ H i v}(h:d7 K ρ H (.ref i) v):∃a,v=.ref a/\ρ[i]?=some a:=by cases h;exact⟨_,rfl,by assumption⟩
theorem d7.O7{K ρ H l v}(h:d7 K ρ H (.tup l) v):∃a vs,v=.ref a/\TupAt K H a vs/\a9 K ρ H l vs:=by cases h;exact⟨_,_,rfl,by assumption,by assumption⟩
theorem a9.one{K ρ H d vs}(h:a9 K ρ H [d] vs):∃v,vs=[v]/\d7 K ρ H d v:=by
 cases h with
 |cons r rr=>cases rr;exact⟨_,rfl,r⟩
theorem a9.two{K ρ H d e vs}(h:a9 K ρ H [d,e] vs):∃v w,vs=[v,w]/\d7 K ρ H d v/\d7 K ρ H e w:=by
 cases h with
 |cons r rr=>obtain⟨w,rfl,q⟩:=rr.one;exact⟨_,_,rfl,r,q⟩
theorem C2{a b c:D}(h:[a,b]=[c,d]):a=c/\b=d:=by cases h;exact⟨rfl,rfl⟩
section
theorem Oc(op:Operator):fk X (binaryOp op) (r2 X.K (.bin op)):=by
 intro pins s Z H x y v u Q I rx ry h;obtain⟨d,e,g,ρ,R,rd,re,d',g',h,q⟩:=h;rcases h with⟨i,j,r,ex,ha,rfl,rfl⟩|⟨rfl,h⟩|⟨rfl,h⟩
 ·obtain⟨rfl,rfl⟩:=C2 ex;obtain rfl:=rd.j8;obtain rfl:=re.j8;have fin:=q.now R (.int r);cases op<;>first|exact(show False from ha).elim|skip
  ·cases ha;exact Oa pins s Z H _ _ v u Q I rx ry ⟨i,j,rfl,rfl,fin⟩
  ·cases ha;exact Ol pins s Z H _ _ v u Q I rx ry ⟨i,j,rfl,rfl,fin⟩
  ·obtain⟨hc,rfl⟩:=ha;exact Og pins s Z H _ _ v u Q I rx ry ⟨i,j,rfl,rfl,hc,fin⟩
  ·obtain⟨hc,rfl⟩:=ha;exact Of pins s Z H _ _ v u Q I rx ry ⟨i,j,rfl,rfl,hc,fin⟩
  ·obtain⟨hc,rfl⟩:=ha;exact Oh pins s Z H _ _ v u Q I rx ry ⟨i,j,rfl,rfl,hc,fin⟩
  ·obtain⟨hc,rfl⟩:=ha;exact Oj pins s Z H _ _ v u Q I rx ry ⟨i,j,rfl,rfl,hc,fin⟩
  ·cases ha;exact MF pins s Z H _ _ v u Q I rx ry ⟨i,j,rfl,rfl,fin⟩
  ·cases ha;exact Ob pins s Z H _ _ v u Q I rx ry ⟨i,j,rfl,rfl,fin⟩
  ·obtain⟨hc,rfl⟩:=ha;exact QB pins s Z H _ _ v u Q I rx ry ⟨i,j,rfl,rfl,hc,fin⟩
 ·rcases h with⟨l,m,ex,hz,rfl,rfl⟩|⟨a,b,l,m,ex,ha,hb,hz,rfl,rfl⟩|⟨x',y',ex,hz,rfl,rfl⟩
  ·obtain⟨rfl,rfl⟩:=C2 ex;obtain⟨a,vs,rfl,ta,rs⟩:=rd.O7;obtain⟨b,ws,rfl,tb,rt⟩:=re.O7;refine SU pins s Z H _ _ v u Q I rx ry ⟨a,b,vs,ws,rfl,rfl,ta.sq,tb.sq,?_,λz=>?_,λz=>?_,λp hp=>q.tup R hp (rs.append rt)⟩
   ·rw[<- rs.length,<- rt.length];exact n8 hz
   ·subst z;cases rs;exact q.now R (.tup tb rt)
   ·subst z;cases rt;rw[dA] at q;exact q.now R (.tup ta rs)
  ·obtain⟨rfl,rfl⟩:=C2 ex;obtain⟨a',rfl,ra⟩:=rd.j3;obtain⟨b',rfl,rb⟩:=re.j3;obtain⟨vs,z1,rs⟩:=R.lst ha ra;obtain⟨ws,z2,rt⟩:=R.lst hb rb;exact Od pins s Z H _ _ v u Q I rx ry ⟨_,_,vs,ws,rfl,rfl,z1,z2,by rw[<- rs.length,<- rt.length];exact n8 hz,λp hp=>q.new R hp (rs.append rt)⟩
  ·obtain⟨rfl,rfl⟩:=C2 ex;obtain rfl:=rd.C6;obtain rfl:=re.C6;exact VH pins s Z H _ _ v u Q I rx ry ⟨_,_,rfl,rfl,n8 hz,q.now R (.str _)⟩
 ·rcases h with⟨a,l,n,ex,ha,h1,h2,hz,rfl,rfl⟩|⟨l,n,ex,dO,h1,h2,hz,rfl,rfl⟩
  rotate_left
  ·obtain⟨rfl,rfl⟩:=C2 ex;obtain⟨a',vs,rfl,ta,rs⟩:=rd.O7;obtain rfl:=re.j8;refine QD pins s Z H _ _ v u Q I rx ry ⟨_,_,vs,rfl,rfl,ta.sq,λz=>?_,h1,h2,by rw[<- rs.length];exact n8 hz,λz=>?_,λp hp=>q.tup R hp (rs.rep _)⟩
   ·subst z;cases rs;exact dO rfl
   ·subst z;have:(List.replicate (Int.toNat 1) l).flatten=l:=by simp
    rw[this] at q;exact q.now R (.tup ta rs)
  obtain⟨rfl,rfl⟩:=C2 ex;obtain⟨a',rfl,ra⟩:=rd.j3;obtain rfl:=re.j8;obtain⟨vs,z1,rs⟩:=R.lst ha ra;exact Oi pins s Z H _ _ v u Q I rx ry ⟨_,_,vs,rfl,rfl,z1,by omega,by omega,by rw[<- rs.length];exact n8 hz,λp hp=>q.new R hp (rs.rep _)⟩
theorem MG(op:UnaryOp):xl X (unaryOp op) (r1 X.K (.un op)):=by
 intro pins s Z H x v Q I rx h;obtain⟨d,g,ρ,R,rd,d',g',⟨rfl,i,ex,rfl,rfl⟩,q⟩:=h;cases ex;obtain rfl:=rd.j8;exact PL pins s Z H _ v Q I rx ⟨_,rfl,q.now R (.int _)⟩
section
variable{pins:List (Addr×Obj)}
theorem FG(I:Inv X pins Z H s)(R:Rl X.K ρ g H)(n:Nat)(ih:∀{d:D} {v:V} {u:Value} {p:PyData},rd g n d=some p->d7 X.K ρ H d v->RelV v u->∃as,Reads s.heap u p as/\p.depth<=n):∀{vs:List V} {us:List Value} {ps:List PyData},l.mapM (rd g n)=some ps->a9 X.K ρ H l vs->Vals vs us->∃as,ReadsAll s.heap us ps as/\PyData.depthAll ps<=n:=by
 induction l with
 |nil =>
  intro vs us ps h rs rv;cases rs;cases rv;simp at h;subst h;exact⟨_,.nil,bG _⟩
 |cons d l il =>
  intro vs us ps h rs rv;cases rs with
  |cons gS rs =>
   cases rv with
   |cons ru rv =>
    rw[List.mapM_cons] at h;cases e:rd g n d with
    |none=>rw[e] at h;cases h
    |some p =>
     rw[e] at h;cases e2:l.mapM (rd g n) with
     |none=>rw[e2] at h;cases h
     |some qs =>
      rw[e2] at h;cases h;obtain⟨as,q1,d1⟩:=ih e gS ru;obtain⟨bs,q2,d2⟩:=il e2 rs rv;refine⟨_,.cons q1 q2,?_⟩;simp only[PyData.depthAll];omega
theorem O9(I:Inv X pins Z H s)(R:Rl X.K ρ g H)(n:Nat):∀{d:D} {v:V} {u:Value} {p:PyData},rd g n d=some p->d7 X.K ρ H d v->RelV v u->∃as,Reads s.heap u p as/\p.depth<=n:=by
 induction n with
 |zero =>
  intro d v u p h r ru;cases r with
  |bL=>simp only[rd] at h;cases h;cases ru;exact⟨_,.none,Nat.zero_le _⟩
  |bl b=>simp only[rd] at h;cases h;cases ru;exact⟨_,.bool b,Nat.zero_le _⟩
  |int i=>simp only[rd] at h;cases h;obtain⟨t,rfl⟩:=ru;exact⟨_,.int i t,Nat.zero_le _⟩
  |str x=>simp only[rd] at h;cases h;obtain⟨t,rfl⟩:=ru;exact⟨_,.str x t,Nat.zero_le _⟩
  |_=>simp only[rd] at h;cases h
 |succ n ih =>
  intro d v u p h r ru;cases r with
  |bL=>simp only[rd] at h;cases h;cases ru;exact⟨_,.none,Nat.zero_le _⟩
  |bl b=>simp only[rd] at h;cases h;cases ru;exact⟨_,.bool b,Nat.zero_le _⟩
  |int i=>simp only[rd] at h;cases h;obtain⟨t,rfl⟩:=ru;exact⟨_,.int i t,Nat.zero_le _⟩
  |str x=>simp only[rd] at h;cases h;obtain⟨t,rfl⟩:=ru;exact⟨_,.str x t,Nat.zero_le _⟩
  |ty x=>simp only[rd] at h;cases h
  |ref ha =>
   rename_i i a;simp only[rd] at h;cases e:c8 g i with
   |none=>rw[e] at h;cases h
   |some l =>
    rw[e] at h;dsimp only at h;cases e2:l.mapM (rd g n) with
    |none=>rw[e2] at h;cases h
    |some ps =>
     rw[e2] at h;cases h;cases ru;obtain⟨vs,hq,rs⟩:=R.items e ha;obtain⟨aQ,rv,p,hz⟩:=I.list hq;obtain⟨as,q,hd⟩:=FG I R n ih e2 rs rv;obtain⟨o,ho,hc,k,pU⟩:=p.isList;refine⟨_,.list ho hc pU (by simpa using q),?_⟩;simp only[PyData.depth];omega
  |tup ht rs =>
   rename_i l a vs;simp only[rd] at h;cases e2:l.mapM (rd g n) with
   |none=>rw[e2] at h;cases h
   |some ps =>
    rw[e2] at h;cases h;cases ru;obtain⟨aQ,rv,pt,hz⟩:=I.tuple ht.sq;obtain⟨as,q,hd⟩:=FG I R n ih e2 rs rv;obtain⟨o,ho,hc,k,pU⟩:=id pt;refine⟨_,.tuple ho hc pU (by simpa using q),?_⟩;simp only[PyData.depth];omega
end
end
theorem wM{α:Type}[BEq α][LawfulBEq α][DecidableEq α](a b:α):decide (a=b)=(a==b):=by
 by_cases e:a=b
 ·subst e;simp
 ·rw[aL e];exact(cF.mpr e).symm
theorem O4{K ρ H}{c:Key}(h:P5 d=some c)(r:d7 K ρ H d v):v=kV c:=by
 cases r<;>first|(cases h;rfl)|cases h
theorem Y3.some{K ρ H}{o:Option V}{d:D}(h:Y3 K ρ H (some d) o):∃v,o=some v/\d7 K ρ H d v:=by
 cases o with
 |none=>exact h.elim
 |some v=>exact⟨v,rfl,h⟩
theorem Y3.isSome{K ρ H}{o:Option V}{d:Option D}(h:Y3 K ρ H d o):d.isSome=o.isSome:=by
 cases o<;>cases d<;>first|rfl|exact h.elim
theorem HA{pins:List (Addr×Obj)}{e:D}{y:V}{v u:Value}{Q:VK}(hu:X.A.units+100<cLine)(I:Inv X pins Z H s)(rx:RelV x v)(ry:RelV y u)(R:Rl X.K ρ g H)(gS:d7 X.K ρ H d x)(re:d7 X.K ρ H e y)(h:uw g d e b)(neg:Bool)(q:Q (.bl (xor neg b)) H):wpAny (model X.prog X.w) X.A (compareOp (if neg then .NotEq else .Eq) v u) (EP X pins Z Q) X.xe s:=by
 rcases h with⟨i,j,rfl,rfl,rfl⟩|⟨i,j,rfl,rfl,rfl⟩|⟨i,j,rfl,rfl,rfl⟩|⟨p,p',h1,h2,c1,c2,rfl⟩
 ·obtain rfl:=gS.j8;obtain rfl:=re.j8;cases neg
  ·exact Bo pins s Z H _ _ v u Q I rx ry ⟨rfl,by rw[wN];simpa[wM] using q⟩
  ·exact Bp pins s Z H _ _ v u Q I rx ry ⟨rfl,by rw[wN];simpa[wM] using q⟩
 ·obtain rfl:=gS.K2;obtain rfl:=re.K2;cases neg
  ·exact Bo pins s Z H _ _ v u Q I rx ry ⟨rfl,by rw[wC];simpa using q⟩
  ·exact Bp pins s Z H _ _ v u Q I rx ry ⟨rfl,by rw[wC];simpa using q⟩
 ·obtain rfl:=gS.C6;obtain rfl:=re.C6;cases neg
  ·exact Bo pins s Z H _ _ v u Q I rx ry ⟨rfl,by rw[wO];simpa[wM] using q⟩
  ·exact Bp pins s Z H _ _ v u Q I rx ry ⟨rfl,by rw[wO];simpa[wM] using q⟩
 ·obtain⟨as,q1,d1⟩:=O9 I R 6 h1 gS rx;obtain⟨bs,q2,d2⟩:=O9 I R 6 h2 re ry;have hr:X.A.units+min p.depth p'.depth<cLine:=by omega
  cases neg
  ·exact SeqAt.compareEq_reads q1 q2 c1 c2 hr ⟨.bl _,H,I,rfl,by simpa using q⟩
  ·exact SeqAt.compareNe_reads q1 q2 c1 c2 hr ⟨.bl _,H,I,rfl,by simpa using q⟩
theorem in_of{pins:List (Addr×Obj)}{e:D}{y:V}{v u:Value}{Q:VK}(hu:X.A.units+100<cLine)(I:Inv X pins Z H s)(rx:RelV x v)(ry:RelV y u)(R:Rl X.K ρ g H)(gS:d7 X.K ρ H d x)(re:d7 X.K ρ H e y)(h:inR g d e b)(neg:Bool)(q:Q (.bl (xor neg b)) H):wpAny (model X.prog X.w) X.A (compareOp (if neg then .NotIn else .In) v u) (EP X pins Z Q) X.xe s:=by
 rcases h with⟨a,kvs,c,rfl,ha,hc,rfl⟩|⟨l,ps,p,h0,h1,h2,c1,c2,rfl⟩
 ·obtain⟨a',rfl,ra⟩:=re.j3;obtain⟨vs,z,rs⟩:=R.cg ha ra;have:=O4 hc gS;subst this;cases ry;rw[(rs.val c).isSome] at q;cases neg
  ·exact QM (by omega) I (N4.k z) rx λs' I'=>⟨.bl _,H,I',rfl,by simpa using q⟩
  ·exact PZ (by omega) I (N4.k z) rx λs' I'=>⟨.bl _,H,I',rfl,by simpa using q⟩
 ·obtain⟨as,q1,d1⟩:=O9 I R 6 h2 gS rx;cases e with
  |tup m =>
   cases h0;have h3:rd g 7 (.tup l)=some (.tuple ps):=by simp only[rd];rw[show l.mapM (rd g 6)=some ps from h1];rfl
   obtain⟨bs,q2,d2⟩:=O9 I R 7 h3 re ry;have hr:X.A.units+1+min (PyData.depthAll ps) p.depth<cLine:=by omega
   cases neg
   ·exact SeqAt.in_tuple_reads q2 q1 c1 c2 hr ⟨.bl _,H,I,rfl,by simpa using q⟩
   ·exact SeqAt.notIn_tuple_reads q2 q1 c1 c2 hr ⟨.bl _,H,I,rfl,by simpa using q⟩
  |ref a =>
   have h3:rd g 7 (.ref a)=some (.list ps):=by
    simp only[rd];rw[show c8 g a=some l from h0];dsimp only;rw[show l.mapM (rd g 6)=some ps from h1]
    rfl
   obtain⟨bs,q2,d2⟩:=O9 I R 7 h3 re ry;have hr:X.A.units+1+min (PyData.depthAll ps) p.depth<cLine:=by omega
   cases neg
   ·exact SeqAt.in_list_reads q2 q1 c1 c2 hr ⟨.bl _,H,I,rfl,by simpa using q⟩
   ·exact SeqAt.notIn_list_reads q2 q1 c1 c2 hr ⟨.bl _,H,I,rfl,by simpa using q⟩
  |_=>cases h0
theorem T6(hu:X.A.units+100<cLine)(op:CmpOp):fk X (compareOp op) (r2 X.K (.cmp op)):=by
 intro pins s Z H x y v u Q I rx ry h;obtain⟨d,e,g,ρ,R,gS,re,d',g',⟨x',y',b,ex,h,rfl,rfl⟩,q⟩:=h;obtain⟨rfl,rfl⟩:=C2 ex;have fin:=q.now R (.bl b);have nu:∀{P:Int->Int->Bool},(∃i j,d=.int i/\e=.int j/\b=P i j)->∃i j,x=.int i/\y=.int j/\b=P i j:=λhh=>by
  obtain⟨i,j,z1,z2,z3⟩:=hh;exact⟨i,j,(z1▸gS).j8,(z2▸re).j8,z3⟩
 cases op
 ·exact HA hu I rx ry R gS re h false (by simpa using fin)
 ·exact HA hu I rx ry R gS re h true (by simpa using fin)
 ·obtain⟨i,j,e1,e2,e3⟩:=nu (P:=λi j=>decide (i<j)) h;exact MD pins s Z H _ _ v u Q I rx ry ⟨i,j,e1,e2,by subst e3;exact fin⟩
 ·obtain⟨i,j,e1,e2,e3⟩:=nu (P:=λi j=>decide (i<=j)) h;exact MC pins s Z H _ _ v u Q I rx ry ⟨i,j,e1,e2,by subst e3;exact fin⟩
 ·obtain⟨i,j,e1,e2,e3⟩:=nu (P:=λi j=>decide (j<i)) h;exact MB pins s Z H _ _ v u Q I rx ry ⟨i,j,e1,e2,by subst e3;exact fin⟩
 ·obtain⟨i,j,e1,e2,e3⟩:=nu (P:=λi j=>decide (j<=i)) h;exact MA pins s Z H _ _ v u Q I rx ry ⟨i,j,e1,e2,by subst e3;exact fin⟩
 ·obtain⟨rfl,rfl⟩:=(show _/\_ from h)
  obtain rfl:=re.wF;refine Oe pins s Z H _ _ v u Q I rx ry ⟨rfl,?_⟩;have e:R0 d=decide (x=V.bL):=by cases gS<;>simp[R0]
  rw[<- e];exact fin
 ·obtain⟨rfl,rfl⟩:=(show _/\_ from h)
  obtain rfl:=re.wF;refine QC pins s Z H _ _ v u Q I rx ry ⟨rfl,?_⟩;have e:R0 d=decide (x=V.bL):=by cases gS<;>simp[R0]
  rw[<- e];exact fin
 ·rcases h with h|⟨a,S,n,i,rfl,ha,rfl,rfl⟩
  ·exact in_of hu I rx ry R gS re h false (by simpa using fin)
  ·obtain⟨a',rfl,ra⟩:=re.j3;obtain rfl:=gS.j8;exact UL pins s Z H _ _ v u Q I rx ry ⟨i,a',S,n,rfl,rfl,R.set ha ra,fin⟩
 ·rcases h with h|⟨a,S,n,i,rfl,ha,rfl,hb⟩
  ·exact in_of hu I rx ry R gS re h true (by simpa using fin)
  ·obtain⟨a',rfl,ra⟩:=re.j3;obtain rfl:=gS.j8;exact RU pins s Z H _ _ v u Q I rx ry ⟨i,a',S,n,rfl,rfl,R.set ha ra,by rw[<- hb,rY];exact fin⟩
theorem empty_eq{K ρ H}(r:a9 K ρ H l vs):l.isEmpty=vs.isEmpty:=by cases r<;>rfl
theorem PH{K:PySem.W.Frag}(R:Rl K ρ g H)(r:d7 K ρ H d x)(h:Eb g d b):BC K x H b:=by
 rcases h with⟨rfl,rfl⟩|rfl|⟨i,rfl,rfl⟩|⟨l,rfl,rfl⟩|⟨a,l,rfl,hl,rfl⟩
 ·obtain rfl:=r.wF;rfl
 ·obtain rfl:=r.K2;rfl
 ·obtain rfl:=r.j8;rfl
 ·obtain⟨a,vs,rfl,ht,rs⟩:=r.O7;exact .inr (.inl ⟨_,ht.sq,by rw[empty_eq rs]⟩)
 ·obtain⟨a',rfl,ha⟩:=r.j3;obtain⟨vs,hq,rs⟩:=R.items hl ha;exact .inl ⟨_,hq,by rw[empty_eq rs]⟩
theorem PN{K ρ H}{i:Int}(r:a9 K ρ H l vs)(h:gj l i=some d):∃v,gj vs i=some v/\d7 K ρ H d v:=by
 unfold gj at h ⊢;rw[<- r.length];cases e:jT l.length i with
 |none=>rw[e] at h;cases h
 |some j =>
  rw[e] at h;exact r.get h
theorem Z9{K ρ H}{x:D}(R:Rl K ρ g H)(r:d7 K ρ H x v)(h:C8 g x=some l):∃a vs,v=.ref a/\a9 K ρ H l vs/\((∃i,x=.ref i/\ρ[i]?=some a)/\fj K H a vs\/x=.tup l/\TupAt K H a vs):=by
 cases r with
 |tup ht rs=>cases h;exact⟨_,_,rfl,rs,.inr ⟨rfl,ht⟩⟩
 |ref ha=>obtain⟨vs,hq,rs⟩:=R.items h ha;exact⟨_,_,rfl,rs,.inl ⟨⟨_,rfl,ha⟩,hq⟩⟩
 |_=>cases h
theorem Mj(hu:X.A.units+100<cLine):qr X (r2 X.K .ix):=by
 intro value slice pins s Z H x y v u Q I rx ry h hs;obtain⟨d,e,g,ρ,R,gS,re,d',g',⟨rfl,h⟩,q⟩:=h;rcases h with⟨x',l,i,ex,hl,ha⟩|⟨a,kvs,y',c,ex,ha,hc,hv⟩|⟨x',i,c,ex,h0,h1,rfl⟩
 ·obtain⟨rfl,rfl⟩:=C2 ex;obtain rfl:=re.j8;obtain⟨a,vs,rfl,rs,h⟩:=Z9 R gS hl;obtain⟨w,hw,fF⟩:=PN rs ha;rcases h with⟨_,hq⟩|⟨_,ht⟩
  ·exact Ql value slice pins s Z H _ _ v u Q I rx ry ⟨_,_,i,w,rfl,rfl,hq,hw,q.now R fF⟩ hs
  ·exact NK value slice pins s Z H _ _ v u Q I rx ry ⟨_,_,i,w,rfl,rfl,ht.sq,hw,q.now R fF⟩ hs
 ·obtain⟨rfl,rfl⟩:=C2 ex;obtain⟨a',rfl,ra⟩:=gS.j3;obtain⟨vs,z,rs⟩:=R.cg ha ra;have:=O4 hc re;subst this;have q2:=rs.val c;rw[hv] at q2;obtain⟨w,hw,fF⟩:=q2.some;exact Qk (by omega) value slice pins s Z H _ _ v u Q I rx ry ⟨_,w,rfl,by have:=N4.k (k:=c) z;rw[hw] at this;exact this,q.now R fF⟩ hs
 ·obtain⟨rfl,rfl⟩:=C2 ex;obtain rfl:=gS.C6;obtain rfl:=re.j8;exact NJ value slice pins s Z H _ _ v u Q I rx ry ⟨x',i,c,rfl,rfl,n8 h0,h1,q.now R (.str _)⟩ hs
def Jb(K:PySem.W.Frag):V->Option Int->Option Int->Hp->VK->Prop:=λx lo hi H Q=>∃d g ρ d' g',Rl K ρ g H/\d7 K ρ H d x/\sD d lo hi g d' g'/\LQ K ρ H Q d' g'
theorem Br:ve X (Jb X.K):=by
 intro pins s Z H x v vl vu lo hi sl Q I rx hs pl pu h;obtain⟨d,g,ρ,d',g',R,gS,h,q⟩:=h;rcases h with⟨l,rfl,rfl,rfl⟩|⟨a,l,rfl,hl,rfl,rfl⟩
 ·obtain⟨a,vs,rfl,ht,rs⟩:=gS.O7;refine WR pins s Z H _ v vl vu lo hi sl Q I rx hs pl pu ⟨_,_,rfl,ht.sq,λz=>?_,λp hp=>q.tup R hp (rs.cut lo hi)⟩;refine q.now R (.tup ht ?_);have:=rs.cut lo hi;rw[z] at this;exact this
 ·obtain⟨a',rfl,ha⟩:=gS.j3;obtain⟨vs,hq,rs⟩:=R.items hl ha;exact WQ pins s Z H _ v vl vu lo hi sl Q I rx hs pl pu ⟨_,_,rfl,hq,λp hp=>q.new R hp (rs.cut lo hi)⟩
def Ld(K:PySem.W.Frag):V->V->V->Hp->(Hp->Prop)->Prop:=λo i v H Q=>∃zI di dv g ρ,Rl K ρ g H/\d7 K ρ H zI o/\d7 K ρ H di i/\d7 K ρ H dv v/\V4 zI di dv g (λg'=>∀bz H',Ext ρ H bz H'->Rl K bz g' H'->Q H')
theorem Pa(hu:X.A.units+100<cLine):BA X (Ld X.K):=by
 intro pins s Z H o i v ov iv u Q I ro ri rv h;obtain⟨zI,di,dv,g,ρ,R,r1,r2,r3,g',h,q⟩:=h;rcases h with⟨a,i',l,j,rfl,rfl,hl,hj,rfl⟩|⟨a,kvs,c,rfl,ha,hc,hz,rfl⟩
 ·obtain⟨a',rfl,ha⟩:=r1.j3;obtain rfl:=r2.j8;obtain⟨vs,z,rs⟩:=R.lst hl ha;obtain⟨R',e'⟩:=R.write hl ha (rs.set r3 j);exact set_list pins s Z H _ _ _ ov iv u Q I ro ri rv ⟨_,vs,_,j,rfl,rfl,z,by rw[<- rs.length];exact hj,q ρ _ e' R'⟩
 ·obtain⟨a',rfl,ra⟩:=r1.j3;obtain⟨vs,z,rs⟩:=R.cg ha ra;have:=O4 hc r2;subst this;obtain⟨R',e'⟩:=R.put (o':=.cg (putD kvs c dv)) (u:=.dK (putK vs c v)) ha rfl ra (rs.put r3);cases ro;exact Uo (by omega) I (xb.k z (by rw[<- rs.length];exact Aw hz)) ri rv λs' I'=>⟨_,I',q ρ _ e' R'⟩
theorem NS:j2 X (.builtin "len") (rN X.K .len):=by
 intro pins s Z H xs us Q I r h;obtain⟨ds,g,ρ,R,rs,d',g',⟨rfl,h⟩,q⟩:=h;rcases h with⟨x,l,rfl,hl,rfl⟩|⟨a,kvs,rfl,ha,rfl⟩|⟨x,rfl,hz,rfl⟩
 ·obtain⟨v,rfl,rv⟩:=rs.one;obtain⟨a,vs,rfl,rl,h⟩:=Z9 R rv hl;refine RE pins s Z H _ us Q I r ⟨_,_,rfl,?_,by rw[<- rl.length];exact q.now R (.int _)⟩;exact h.imp (λz=>z.2) (λz=>z.2.sq)
 ·obtain⟨v,rfl,rv⟩:=rs.one;obtain⟨a',rfl,ra⟩:=rv.j3;obtain⟨vs,z,rk⟩:=R.cg ha ra;exact Ud pins s Z H _ us Q I r ⟨_,_,rfl,z,by rw[<- rk.length];exact q.now R (.int _)⟩
 ·obtain⟨v,rfl,rv⟩:=rs.one;obtain rfl:=rv.C6;exact RG pins s Z H _ us Q I r ⟨_,rfl,n8 hz,q.now R (.int _)⟩
theorem AF{K ρ H}:∀(ks:List Key),a9 K ρ H (ks.map kD) (ks.map kV)
 |[]=>.nil
 |.inl _::r=>.cons (.int _) (AF r)
 |.inr _::r=>.cons (.str _) (AF r)
theorem i8.keys{α:Type}{K ρ H}{ds:List (α×D)}{vs:List (α×V)}(h:i8 K ρ H ds vs):ds.map (·.1)=vs.map (·.1):=by
 induction h with
 |nil=>rfl
 |cons _ _ ih=>rw[aW,aW,ih]
theorem Qs(hc:X.calm=true):j2 X (.type "list") (rN X.K .list):=by
 intro pins s Z H xs us Q I r h;obtain⟨ds,g,ρ,R,rs,d',g',⟨x,l,rfl,hl,rfl,rfl⟩|⟨a,kvs,rfl,ha,hn,rfl,rfl⟩,q⟩:=h
 rotate_left
 ·obtain⟨v,rfl,rv⟩:=rs.one;obtain⟨a',rfl,ra⟩:=rv.j3;obtain⟨vs,z,rk⟩:=R.cg ha ra;exact Sl hc pins s Z H _ us Q I r ⟨_,vs,rfl,z,by rw[<- rk.length];exact hn,λp hp=>q (ρ++[p]) _ _ (B5 hp) (R.new hp (o:=.lst ((kvs.map (·.1)).map kD)) (u:=.lst ((vs.map (·.1)).map kV)) (by rw[rk.keys];exact AF _)) (.ref (R.u4 p))⟩
 obtain⟨v,rfl,rv⟩:=rs.one;obtain⟨a,vs,rfl,rl,h⟩:=Z9 R rv hl;exact RH pins s Z H _ us Q I r ⟨_,_,rfl,h.imp (λz=>z.2) (λz=>z.2.sq),λp hp=>q.new R hp rl⟩
theorem TQ:j2 X (.type "tuple") (rN X.K .tuple):=by
 intro pins s Z H xs us Q I r h;obtain⟨ds,g,ρ,R,rs,d',g',⟨x,l,rfl,hl,rfl,rfl⟩,q⟩:=h;obtain⟨v,rfl,rv⟩:=rs.one;obtain⟨a,vs,rfl,rl,h⟩:=Z9 R rv hl;refine Sd pins s Z H _ us Q I r ⟨a,vs,rfl,?_⟩;exact h.imp (λz=>⟨z.2,λp hp=>q.tup R hp rl⟩) (λz=>⟨z.2.sq,q.now R (.tup z.2 rl)⟩)
theorem Qj:j2 X (.builtin "isinstance") (rN X.K .isin):=by
 intro pins s Z H xs us Q I r h;obtain⟨ds,g,ρ,R,rs,d',g',⟨x,c,b,rfl,hc,hb,rfl,rfl⟩,q⟩:=h;obtain⟨v,w,rfl,r1,r2⟩:=rs.two;obtain rfl:=r2.Nn;have fin:=q.now R (.bl b);have go:∀(t:Value) (v:V),gn X.K H v t->PySem.W.kitOne X.K t (.type c)=some b->Vals [v,V.ty c] us->wpAny (model X.prog X.w) X.A (call (.builtin "isinstance") us) (EP X pins Z Q) X.xe s :=
  λt v ht hk r=>Wb pins s Z H _ us Q I r ⟨v,t,c,b,rfl,ht,hk,fin⟩
 simp only[List.mem_cons,List.mem_nil_iff,or_false] at hc;cases r1 with
 |bL=>refine go _ _ .bL ?_ r;cases hb;rcases hc with rfl|rfl|rfl|rfl|rfl<;>rfl
 |bl y=>refine go _ _ (.bl y) ?_ r;cases hb;rcases hc with rfl|rfl|rfl|rfl|rfl<;>rfl
 |int y=>refine go _ _ (.int y) ?_ r;cases hb;rcases hc with rfl|rfl|rfl|rfl|rfl<;>rfl
 |str y=>refine go _ _ (.str y) ?_ r;cases hb;rcases hc with rfl|rfl|rfl|rfl|rfl<;>rfl
 |ty _=>cases hb
 |tup ht rs =>
  cases hb;rcases ht with ht|ht
  ·refine go _ _ (.tup ht) ?_ r;rcases hc with rfl|rfl|rfl|rfl|rfl<;>rfl
  ·obtain⟨o,aQ,n,lk,kx,_⟩:=ht;obtain⟨u,w',rfl,ru,fF⟩:=vals2 r;cases (show w'=Value.type c from fF);cases ru;have hk:PySem.W.kitOne X.K (.type "tuple") (.type c)=some (c=="tuple"):=by rcases hc with rfl|rfl|rfl|rfl|rfl<;>rfl
   exact bK Iv I.gg ⟨o,I.gg _ _ lk,kx⟩ hk (λz=>nomatch z) λtk=>⟨.bl _,H,I.tok tk,rfl,fin⟩
 |@ref i a ha =>
  have JW:∃m,g'[i]?=some (.lst m)/\b=(c=="list"):=by
   simp only[ql] at hb;split at hb
   ·exact⟨_,by assumption,(aH hb).symm⟩
   ·cases hb
  obtain⟨m,e,rfl⟩:=JW;obtain⟨vs,z,_⟩:=R.lst e ha;refine go _ _ (.lst z) ?_ r;rcases hc with rfl|rfl|rfl|rfl|rfl<;>rfl
theorem Vn:∀{l:List D} {b:Bool},R7 l=some b->∃bs:List Bool,l=bs.map D.bl/\b=bs.all id:=by
 intro l
 induction l with
 |nil=>intro b h;cases h;exact⟨[],rfl,rfl⟩
 |cons d r ih =>
  intro b h;cases d<;>first|(cases h;done)|skip
  rename_i c;simp only[R7] at h;cases e:R7 r with
  |none=>rw[e] at h;cases h
  |some b' =>
   rw[e] at h;cases h;obtain⟨bs,rfl,rfl⟩:=ih e;exact⟨c::bs,rfl,by simp⟩
theorem a9.DS{K ρ H}:∀{bs:List Bool} {vs:List V},a9 K ρ H (bs.map D.bl) vs->vs=bs.map V.bl:=by
 intro bs
 induction bs with
 |nil=>intro vs h;cases h;rfl
 |cons b r ih =>
  intro vs h;cases h with
  |cons h rr=>rw[ih rr,h.K2];rfl
theorem Nt(hc:X.calm=true):j2 X (.builtin "all") (rN X.K .all):=by
 intro pins s Z H xs us Q I r h;obtain⟨ds,g,ρ,R,rs,d',g',⟨a,l,b,rfl,hl,hb,rfl,rfl⟩,q⟩:=h;obtain⟨v,rfl,rv⟩:=rs.one;obtain⟨a',rfl,ra⟩:=rv.j3;obtain⟨vs,hq,rs⟩:=R.items hl ra;rcases hb with hb|⟨ns,rfl,rfl⟩
 rotate_left
 ·have:=rs.ints;subst this;exact Ub hc pins s Z H _ us Q I r ⟨_,ns,rfl,hq,q.now R (.bl _)⟩
 obtain⟨bs,rfl,rfl⟩:=Vn hb;have:=rs.DS;subst this;exact Ua hc pins s Z H _ us Q I r ⟨_,bs,rfl,hq,q.now R (.bl _)⟩
theorem Vo:∀{l:List D} {b:Bool},R6 l=some b->∃bs:List Bool,l=bs.map D.bl/\b=bs.any id:=by
 intro l
 induction l with
 |nil=>intro b h;cases h;exact⟨[],rfl,rfl⟩
 |cons d r ih =>
  intro b h;cases d<;>first|(cases h;done)|skip
  rename_i c;simp only[R6] at h;cases e:R6 r with
  |none=>rw[e] at h;cases h
  |some c' =>
   rw[e] at h;cases h;obtain⟨bs,rfl,rfl⟩:=ih e;exact⟨c::bs,rfl,rfl⟩
theorem Nu(hc:X.calm=true):j2 X (.builtin "any") (rN X.K .any):=by
 intro pins s Z H xs us Q I r h;obtain⟨ds,g,ρ,R,rs,d',g',⟨a,l,b,rfl,hl,hb,rfl,rfl⟩,q⟩:=h;obtain⟨bs,rfl,rfl⟩:=Vo hb;obtain⟨v,rfl,rv⟩:=rs.one;obtain⟨a',rfl,ra⟩:=rv.j3;obtain⟨vs,hq,rs⟩:=R.items hl ra;have:=rs.DS;subst this;exact Uc hc pins s Z H _ us Q I r ⟨_,bs,rfl,hq,q.now R (.bl _)⟩
theorem AE{K ρ H}:∀(ns:List Int),a9 K ρ H (ns.map D.int) (ns.map V.int)
 |[]=>.nil
 |_::r=>.cons (.int _) (AE r)
theorem TJ(hc:X.calm=true):j2 X (.builtin "sorted") (rN X.K .jE):=by
 intro pins s Z H xs us Q I r h;obtain⟨ds,g,ρ,R,rs,d',g',⟨a,kvs,ns,rfl,ha,hk,hn,rfl,rfl⟩|⟨x,ns,rfl,hx,hn,rfl,rfl⟩,q⟩:=h
 rotate_left
 ·obtain⟨v,rfl,rv⟩:=rs.one;obtain⟨a,vs,rfl,rl,h⟩:=Z9 R rv hx;have:=rl.ints;subst this;exact Sn pins s Z H _ us Q I r ⟨_,ns,rfl,h.imp (λz=>z.2) (λz=>z.2.sq),hn,λp hp=>q (ρ++[p]) _ _ (B5 hp) (R.new hp (o:=.lst ((B2 ns).map .int)) (u:=.lst ((B2 ns).map V.int)) (AE _)) (.ref (R.u4 p))⟩
 obtain⟨v,rfl,rv⟩:=rs.one;obtain⟨a',rfl,ra⟩:=rv.j3;obtain⟨vs,z1,rk⟩:=R.cg ha ra;exact Ss hc pins s Z H _ us Q I r ⟨_,vs,ns,rfl,z1,rk.keys.symm.trans hk,hn,λp hp=>q (ρ++[p]) _ _ (B5 hp) (R.new hp (o:=.lst ((B1 ns).map .int)) (u:=.lst ((B1 ns).map V.int)) (AE _)) (.ref (R.u4 p))⟩
theorem NX(hc:X.calm=true):j2 X (.builtin "max") (rN X.K .max):=by
 intro pins s Z H xs us Q I r h;obtain⟨ds,g,ρ,R,rs,d',g',⟨rfl,⟨i,j,rfl,rfl⟩|⟨a,ns,M,rfl,hl,h1,h2,rfl⟩⟩,q⟩:=h
 rotate_left
 ·obtain⟨v,rfl,rv⟩:=rs.one;obtain⟨a',rfl,ra⟩:=rv.j3;obtain⟨vs,hq,rs⟩:=R.items hl ra;have:=rs.ints;subst this;exact Ug hc pins s Z H _ us Q I r ⟨_,ns,M,rfl,hq,h1,h2,q.now R (.int _)⟩
 obtain⟨v,w,rfl,r1,r2⟩:=rs.two;obtain rfl:=r1.j8;obtain rfl:=r2.j8;exact Ue hc pins s Z H _ us Q I r ⟨i,j,rfl,q.now R (.int _)⟩
theorem NY(hc:X.calm=true)(hu:X.A.units+100<cLine):j2 X (.builtin "min") (rN X.K .min):=by
 intro pins s Z H xs us Q I r h;obtain⟨ds,g,ρ,R,rs,d',g',⟨rfl,⟨i,j,rfl,rfl⟩|⟨a,ns,M,rfl,hl,h1,h2,rfl⟩|⟨a,b,ns,ms,rfl,h1,h2,hl,rfl⟩⟩,q⟩:=h
 rotate_left
 ·obtain⟨v,rfl,rv⟩:=rs.one;obtain⟨a',rfl,ra⟩:=rv.j3;obtain⟨vs,hq,rs⟩:=R.items hl ra;have:=rs.ints;subst this;exact Ui hc pins s Z H _ us Q I r ⟨_,ns,M,rfl,hq,h1,h2,q.now R (.int _)⟩
 ·obtain⟨v,w,rfl,r1,r2⟩:=rs.two;obtain⟨a',rfl,ra⟩:=r1.j3;obtain⟨b',rfl,rb⟩:=r2.j3;obtain⟨vs,hq,Ja⟩:=R.lst h1 ra;obtain⟨ws,Jx,IZ⟩:=R.lst h2 rb;have:=Ja.ints;subst this;have:=IZ.ints;subst this;refine Sm hc hu pins s Z H _ us Q I r ⟨_,_,ns,ms,rfl,hq,Jx,hl,?_⟩;cases z:C5 ms ns
  ·rw[z] at q;exact q.now R r1
  ·rw[z] at q;exact q.now R r2
 obtain⟨v,w,rfl,r1,r2⟩:=rs.two;obtain rfl:=r1.j8;obtain rfl:=r2.j8;exact Uh hc pins s Z H _ us Q I r ⟨i,j,rfl,q.now R (.int _)⟩
theorem Pm(hc:X.calm=true):j2 X (.builtin "sum") (rN X.K .sum):=by
 intro pins s Z H xs us Q I r h;obtain⟨ds,g,ρ,R,rs,d',g',h,q⟩:=h;obtain⟨a,ns,rfl,hl,rfl,rfl⟩:=h;obtain⟨v,rfl,rv⟩:=rs.one;obtain⟨a',rfl,ra⟩:=rv.j3;obtain⟨vs,hq,rs⟩:=R.items hl ra;have:=rs.ints;subst this;exact Uj hc pins s Z H _ us Q I r ⟨_,ns,rfl,hq,q.now R (.int _)⟩
theorem NH:j2 X (.type "int") (rN X.K .int):=by
 intro pins s Z H xs us Q I r h;obtain⟨ds,g,ρ,R,rs,d',g',⟨rfl,h⟩,q⟩:=h;rcases h with⟨i,rfl,rfl⟩|⟨b,rfl,rfl⟩
 ·obtain⟨v,rfl,rv⟩:=rs.one;obtain rfl:=rv.j8;exact EK pins s Z H _ us Q I r (.inl ⟨i,rfl,q.now R (.int _)⟩)
 ·obtain⟨v,rfl,rv⟩:=rs.one;obtain rfl:=rv.K2;exact EK pins s Z H _ us Q I r (.inr ⟨b,rfl,q.now R (.int _)⟩)
def rM(K:PySem.W.Frag)(p:Pr):V->List V->Hp->VK->Prop:=λx xs H Q=>∃d ds g ρ,Rl K ρ g H/\d7 K ρ H d x/\a9 K ρ H ds xs/\cG p (d::ds) g (LQ K ρ H Q)
theorem AD{a b:D}{m:List D}(h:a::l=b::m):a=b/\l=m:=by cases h;exact⟨rfl,rfl⟩
theorem TX:nH X "list.append" (rM X.K .append):=by
 intro pins s Z H x xs v us Q I rx r h;obtain⟨d,ds,g,ρ,R,rd,rs,d',g',⟨a,y,l,ex,ha,hz,rfl,rfl⟩,q⟩:=h;obtain⟨rfl,rfl⟩:=AD ex;obtain⟨a',rfl,ra⟩:=rd.j3;obtain⟨w,rfl,fF⟩:=rs.one;obtain⟨vs,z1,rv⟩:=R.lst ha ra;obtain⟨R2,e2⟩:=R.write ha ra (rv.append (.cons fF .nil));exact UJ pins s Z H _ _ v us Q I rx r ⟨_,vs,_,rfl,rfl,z1,by rw[<- rv.length];exact Aw hz,q ρ _ _ e2 R2 .bL⟩
theorem Qo(hc:X.calm=true):j2 X (.type "set") (rN X.K .pM):=by
 intro pins s Z H xs us Q I r h;obtain⟨ds,g,ρ,R,rs,d',g',⟨a,ns,rfl,ha,hz,rfl,rfl⟩,q⟩:=h;obtain⟨v,rfl,rv⟩:=rs.one;obtain⟨a',rfl,ra⟩:=rv.j3;obtain⟨vs,z1,rk⟩:=R.items ha ra;obtain rfl:=rk.ints;refine Sb hc pins s Z H _ us Q I r ⟨a',ns,rfl,z1,hz,λp hp=>?_⟩;exact q (ρ++[p]) _ _ (B5 hp) (R.new hp (o:=.set (λk=>decide (k∈ns)) (ST.i9 [] ns).length) (u:=.set (λk=>decide (k∈ns)) (ST.i9 [] ns).length) ⟨rfl,rfl⟩) (.ref (R.u4 p))
theorem ND(hu:X.A.units+100<cLine):nH X "dict.get" (rM X.K .get):=by
 intro pins s Z H x xs v us Q I rx r h;obtain⟨d,ds,g,ρ,R,rd,rs,d',g',⟨a,y,z,kvs,c,ex,ha,hc,rfl,rfl⟩,q⟩:=h;obtain⟨rfl,rfl⟩:=AD ex;obtain⟨a',rfl,ra⟩:=rd.j3;obtain⟨w1,w2,rfl,r1,r2⟩:=rs.two;obtain⟨vs,z1,rv⟩:=R.cg ha ra;have:=O4 hc r1;subst this;obtain⟨u1,u2,rfl,p1,p2⟩:=vals2 r;cases rx;refine Ny (by omega) I (N4.k z1) p1 p2 λw' s4 I4 fF=>⟨_,H,I4,fF,q.now R ?_⟩
 have q:=rv.val c;cases e1:m7 kvs c with
 |none =>
  rw[e1] at q;cases e2:I9 vs c with
  |none=>exact r2
  |some w=>rw[e2] at q;exact q.elim
 |some d' =>
  rw[e1] at q;obtain⟨w,hw,q⟩:=q.some;rw[hw];exact q
theorem Tf:nH X "list.pop" (rM X.K .pop):=by
 intro pins s Z H x xs v us Q I rx r h;obtain⟨d,ds,g,ρ,R,rd,rs,y,g',⟨a,i,l,k,ex,ha,h1,h2,hk,hy,rfl⟩,q⟩:=h;obtain⟨rfl,rfl⟩:=AD ex;obtain⟨a',rfl,ra⟩:=rd.j3;obtain⟨w,rfl,fF⟩:=rs.one;obtain rfl:=fF.j8;obtain⟨vs,z1,rv⟩:=R.lst ha ra;obtain⟨w,hw,fF⟩:=rv.get hy;obtain⟨R2,e2⟩:=R.write ha ra (rv.erase k);exact SO pins s Z H _ _ v us Q I rx r ⟨_,vs,i,k,w,rfl,rfl,z1,h1,h2,by rw[<- rv.length];exact hk,hw,q ρ _ _ e2 R2 (fF.ext e2)⟩
theorem a9.strs{K ρ H}{ys:List Str}(h:a9 K ρ H (ys.map D.str) vs):vs=ys.map V.str:=by
 induction ys generalizing vs with
 |nil=>cases h;rfl
 |cons y ys ih =>
  cases h with
  |cons q r=>cases q;rw[ih r];rfl
theorem ty_list(R:Rl X.K ρ g H)(r:d7 X.K ρ H d v)(h:∃a l,d=.ref a/\c8 g a=some l):ng X.K "list" v H:=by
 obtain⟨a,l,rfl,hl⟩:=h;obtain⟨a',rfl,ra⟩:=r.j3;obtain⟨vs,hq,_⟩:=R.items hl ra;exact .inl ⟨rfl,vs,hq⟩
theorem ty_dict(R:Rl X.K ρ g H)(r:d7 X.K ρ H d v)(h:mG .get d g):ng X.K "dict" v H:=by
 obtain⟨a,l,rfl,hl⟩:=h;obtain⟨a',rfl,ra⟩:=r.j3;obtain⟨vs,hq,_⟩:=R.cg hl ra;exact .inr (.inr (.inl ⟨rfl,.inl ⟨vs,hq⟩⟩))
noncomputable abbrev gk:=List Str×XK
def LX(K:PySem.W.Frag)(ρ:List Addr)(H:Hp)(Ξ:gk):KX:=λx g'=>∀bz H' C,Ext ρ H bz H'->Rl K bz g' H'->x.cls∈Ξ.1->o7 K x.cls C->Ξ.2 (.ref C) none H'
theorem LX.ext{K:PySem.W.Frag}{bP:List Addr}{H1:Hp}{Ξ:gk}(e:Ext ρ H bP H1){x:Xn}(h:LX K ρ H Ξ x g):LX K bP H1 Ξ x g:=λbz H' C e' R hm c=>h bz H' C (e.trans e') R hm c
noncomputable abbrev mU(ex:List Str):gk:=(ex,λ_ _ _=>False)
def LE(K:PySem.W.Frag)(Ξ:gk)(t:S->G->KD->KX->Prop):TE:=λbR H Q=>∃Z g ρ,m8 K ρ H Z bR/\Rl K ρ g H/\t Z g (LQ K ρ H Q) (LX K ρ H Ξ)
def LT(K:PySem.W.Frag)(Ξ:gk)(t:S->G->(Bool->G->Prop)->KX->Prop):TT:=λbR H Q=>∃Z g ρ,m8 K ρ H Z bR/\Rl K ρ g H/\t Z g (λb g'=>∀bz H',Ext ρ H bz H'->Rl K bz g' H'->Q b H') (LX K ρ H Ξ)
def LA(K:PySem.W.Frag)(Ξ:gk)(t:S->G->(List D->G->Prop)->KX->Prop):TA:=λbR H Q=>∃Z g ρ,m8 K ρ H Z bR/\Rl K ρ g H/\t Z g (λds g'=>∀bz H' vs,Ext ρ H bz H'->Rl K bz g' H'->a9 K bz H' ds vs->Q vs H') (LX K ρ H Ξ)
def oG(K:PySem.W.Frag)(fJ:List Addr)(H0:Hp)(k:IK)(J:It):Prop:=∀ρ g H,Ext fJ H0 ρ H->Rl K ρ g H->∀i,(k.at i g=some none->J.stop i H) /\
 ∀d,k.at i g=some (some d)->J.go i H/\∀v H',J.oV i H v H'->Ext ρ H ρ H'/\Rl K ρ g H'/\d7 K ρ H' d v
def LI(K:PySem.W.Frag)(Ξ:gk)(t:S->G->(IK->G->Prop)->KX->Prop):TI:=λbR H R=>∃Z g ρ,m8 K ρ H Z bR/\Rl K ρ g H/\t Z g (λk g'=>∀bz H' J,Ext ρ H bz H'->Rl K bz g' H'->oG K bz H' k J->R J H') (LX K ρ H Ξ)
def LG(K:PySem.W.Frag)(t:MT):TG:=λv bR H Q=>∃d Z g ρ,m8 K ρ H Z bR/\Rl K ρ g H/\d7 K ρ H d v/\jD t d Z (λbI=>∀cP,m8 K ρ H bI cP->Q cP H)
def LN(K:PySem.W.Frag)(ρ:List Addr)(H:Hp)(N:L2.Ends):Ends where
 nx:=λbI g'=>∀bz H' cP,Ext ρ H bz H'->Rl K bz g' H'->m8 K bz H' bI cP->N.nx cP H'
 rt:=LQ K ρ H N.rt
 bk:=λbI g'=>∀bz H' cP,Ext ρ H bz H'->Rl K bz g' H'->m8 K bz H' bI cP->N.bk cP H'
 ct:=λbI g'=>∀bz H' cP,Ext ρ H bz H'->Rl K bz g' H'->m8 K bz H' bI cP->N.ct cP H'
def LS(K:PySem.W.Frag)(Ξ:gk)(t:Ends->S->G->KX->Prop):TS:=λN bR H=>∃Z g ρ,m8 K ρ H Z bR/\Rl K ρ g H/\t (LN K ρ H N) Z g (LX K ρ H Ξ)
end M
namespace L2
open PySem PySem.Spec PyProof.Rows
variable{t t':TT}
section
variable{X:Cx}{e:Expr}
theorem PE.imp{t t':TE}(h:PE X e t)(i:∀Z H Q,t' Z H Q->t Z H Q):PE X e t':=λpins s Z H Q I q=>h pins s Z H Q I (i Z H Q q)
theorem PT.imp(h:PT X e t)(i:∀Z H Q,t' Z H Q->t Z H Q):PT X e t':=λpins s Z H Q I q=>h pins s Z H Q I (i Z H Q q)
theorem PW.imp(h:PW X e t)(i:∀Z H Q,t' Z H Q->t Z H Q):PW X e t':=λw pins s Z H Q I q=>h w pins s Z H Q I (i Z H Q q)
theorem PA.imp{es:List Expr}{t t':TA}(h:PA X es t)(i:∀Z H Q,t' Z H Q->t Z H Q):PA X es t':=λp pins s Z H Q I q=>h p pins s Z H Q I (i Z H Q q)
theorem kC.imp{es:List Expr}(h:kC X es t)(i:∀Z H Q,t' Z H Q->t Z H Q):kC X es t':=λpins s Z H Q I q=>h pins s Z H Q I (i Z H Q q)
theorem PI.imp{tg:Expr}{t t':TI}(h:PI X tg e t)(i:∀Z H Q,t' Z H Q->t Z H Q):PI X tg e t':=λpins s Z H Q I q=>h pins s Z H Q I (i Z H Q q)
theorem PG.imp{t t':TG}(h:PG X e t)(i:∀v Z H Q,t' v Z H Q->t v Z H Q):PG X e t':=λpins s Z H v u Q I r q=>h pins s Z H v u Q I r (i v Z H Q q)
theorem PS.imp{st:Stmt}{t t':TS}(h:PS X st t)(i:∀N Z H,t' N Z H->t N Z H):PS X st t':=λpins s Z H N I q=>h pins s Z H N I (i N Z H q)
theorem iN.imp{st:List Stmt}{t t':TS}(h:iN X st t)(i:∀N Z H,t' N Z H->t N Z H):iN X st t':=λpins s Z H N I q=>h pins s Z H N I (i N Z H q)
end
end L2
namespace M
open PySem L2 PySem.Spec PyProof.Rows
variable{Ξ:gk}{P:eM}{op gT:CmpOp}{rest es:List Expr}{gy:ME}{p2 q jg:Pos}
section
variable{K:PySem.W.Frag}(hP:j5 P){ρ fJ:List Addr}{H H0:Hp}{Z:S}{bR:L2.St}{g:G}{m:ME}
include hP
theorem fb{Q0:KD}{Q:VK}(s:m8 K ρ H Z bR)(R:Rl K ρ g H)(e0:Ext fJ H0 ρ H)(h:aX P m Z g Q0 (LX K fJ H0 Ξ))(k:∀x g1 bP H1 v1,Ext ρ H bP H1->Rl K bP g1 H1->d7 K bP H1 x v1->Q0 x g1->Q v1 H1):LE K Ξ (aX P m) bR H Q :=
 ⟨Z,g,ρ,s,R,b0 hP m _ _ _ _ _ _ (λx g1 h bP H1 v1 e1 R1 r1=>k x g1 bP H1 v1 e1 R1 r1 h) (λ_ _ z=>LX.ext e0 z) h⟩
theorem jS{Q0:List D->G->Prop}{Q:List V->Hp->Prop}(s:m8 K ρ H Z bR)(R:Rl K ρ g H)(e0:Ext fJ H0 ρ H)(h:fo P m Z g Q0 (LX K fJ H0 Ξ))(k:∀x g1 bP H1 v1,Ext ρ H bP H1->Rl K bP g1 H1->a9 K bP H1 x v1->Q0 x g1->Q v1 H1):LA K Ξ (fo P m) bR H Q :=
 ⟨Z,g,ρ,s,R,v7 hP m _ _ _ _ _ _ (λx g1 h bP H1 v1 e1 R1 r1=>k x g1 bP H1 v1 e1 R1 r1 h) (λ_ _ z=>LX.ext e0 z) h⟩
theorem nN{Q0:Bool->G->Prop}{Q:Bool->Hp->Prop}(s:m8 K ρ H Z bR)(R:Rl K ρ g H)(e0:Ext fJ H0 ρ H)(h:de P m Z g Q0 (LX K fJ H0 Ξ))(k:∀t g1 bP H1,Ext ρ H bP H1->Rl K bP g1 H1->Q0 t g1->Q t H1):LT K Ξ (de P m) bR H Q :=
 ⟨Z,g,ρ,s,R,o8 hP m _ _ _ _ _ _ (λt g1 h bP H1 e1 R1=>k t g1 bP H1 e1 R1 h) (λ_ _ z=>LX.ext e0 z) h⟩
theorem qz{ms:MS}{N:L2.Ends}{N0:Ends}(s:m8 K ρ H Z bR)(R:Rl K ρ g H)(e0:Ext fJ H0 ρ H)(h:wpS P ms N0 Z g (LX K fJ H0 Ξ))(k:N0.le (LN K ρ H N)):LS K Ξ (wpS P ms) N bR H :=
 ⟨Z,g,ρ,s,R,wpS_mono hP ms _ _ _ _ _ _ k (λ_ _ z=>LX.ext e0 z) h⟩
end
theorem a9.kT{K ρ H}(lo:Int)(n:Nat):a9 K ρ H (j7 lo n) ((List.range n).map λ(k:Nat)=>V.int (lo+k)):=by
 unfold j7;have:∀l:List Nat,a9 K ρ H (l.map λ(k:Nat)=>D.int (lo+k)) (l.map λ(k:Nat)=>V.int (lo+k)):=by
  intro l
  induction l with
  |nil=>exact .nil
  |cons x r ih=>exact .cons (.int _) ih
 exact this _
section
variable{X:Cx}(hP:j5 P){a b c e:Expr}{ma mb mc:ME}{pos:Pos}{p:Pr}
include hP
theorem Ac(h:PE X e (qD (r2 X.K p) (LE X.K Ξ (aX P ma)) (LE X.K Ξ (aX P mb)))):PE X e (LE X.K Ξ (aX P (.prim p (.cons ma (.cons mb .nil))))) :=
 h.imp λbR H Q bh=>by
  obtain⟨Z,g,ρ,s,R,h⟩:=bh;exact fb hP s R (.refl _ _) h λx g1 bP H1 v1 e1 R1 r1 h=>fb hP (s.ext e1) R1 e1 h λy g2 eI H2 v2 e2 R2 r2 h =>
   ⟨x,y,g2,eI,R2,r1.ext e2,r2,s9 (λd g' h=>h.ext (e1.trans e2)) h⟩
theorem Pk(h:PT X e (Bu (qD (r2 X.K (.cmp op)) (LE X.K Ξ (aX P ma)) (LE X.K Ξ (aX P mb))))):PT X e (LT X.K Ξ (de P (.fE (.prim (.cmp op) (.cons ma (.cons mb .nil)))))) :=
 h.imp λbR H Q bh=>by
  obtain⟨Z,g,ρ,s,R,h⟩:=bh;refine fb hP s R (.refl _ _) h λx g1 bP H1 v1 e1 R1 r1 h=>fb hP (s.ext e1) R1 e1 h λy g2 eI H2 v2 e2 R2 r2 h=>?_;obtain⟨d',g',h,q⟩:=h;obtain⟨x',y',t,ex,hc,rfl,rfl⟩:=id h;refine⟨x,y,g',eI,R2,r1.ext e2,r2,_,_,h,λbz H' v e' R' r'=>?_⟩;obtain⟨t',ht,q⟩:=q;rcases ht with⟨z,_⟩|z|⟨i,z,_⟩|⟨l,z,_⟩|⟨a,l,z,_⟩<;>cases z
  exact⟨_,r'.K2,q bz H' (e1.trans (e2.trans e')) R'⟩
theorem MX{op:UnaryOp}(ha:PE X a (LE X.K Ξ (aX P ma))):PE X (.UnaryOp op a pos) (LE X.K Ξ (aX P (.prim (.un op) (.cons ma .nil)))) :=
 (ML (MG op) ha).imp λbR H Q bh=>by
  obtain⟨Z,g,ρ,s,R,h⟩:=bh;exact fb hP s R (.refl _ _) h λx g1 bP H1 v1 e1 R1 r1 h=>⟨x,g1,bP,R1,r1,s9 (λd g' h=>h.ext e1) h⟩
theorem Ee:∀bR H Q,LE X.K Ξ (aX P (.chain op gT ma mb mc)) bR H Q->Ad (r2 X.K (.cmp op)) (r2 X.K (.cmp gT)) (LE X.K Ξ (aX P ma)) (LE X.K Ξ (aX P mb)) (LE X.K Ξ (aX P mc)) bR H Q:=λbR H Q bh=>by
 obtain⟨Z,g,ρ,s,R,h⟩:=bh;refine fb hP s R (.refl _ _) h λx g1 bP H1 v1 e1 R1 r1 h=>fb hP (s.ext e1) R1 e1 h λy g2 eI H2 v2 e2 R2 r2 h=>?_;refine⟨x,y,g2,eI,R2,r1.ext e2,r2,s9 (λd g3 h iQ H3 v3 e3 R3 r3=>?_) h⟩;obtain⟨t,rfl,h⟩:=h;obtain rfl:=r3.K2;refine⟨t,rfl,?_⟩;cases t
 ·exact h iQ H3 _ (e1.trans (e2.trans e3)) R3 (.bl _)
 ·exact fb hP (s.ext (e1.trans (e2.trans e3))) R3 (e1.trans (e2.trans e3)) h λz g4 oU H4 v4 e4 R4 r4 h =>
   ⟨y,z,g4,oU,R4,r2.ext (e3.trans e4),r4,s9 (λd g' h=>h.ext (e1.trans (e2.trans (e3.trans e4)))) h⟩
theorem Ts(hu:X.A.units+100<cLine)(ha:PE X a (LE X.K Ξ (aX P ma)))(hb:PE X b (LE X.K Ξ (aX P mb)))(hc:PE X c (LE X.K Ξ (aX P mc)))(hm:lastMarks [op,gT] [b,c]=false) :
  PE X (.Compare a [op,gT] [b,c] pos) (LE X.K Ξ (aX P (.chain op gT ma mb mc))):=(SX (T6 hu op) (T6 hu gT) ha hb hc hm).imp (Ee hP)
theorem Sy{Z:S}{g:G}{Q:Bool->G->Prop}{E:KX}(h:de P (.fE (.chain op gT ma mb mc)) Z g Q E):aX P (.chain op gT ma mb mc) Z g (λd g'=>∃t,d=.bl t/\Q t g') E:=by
 have one:∀{o:CmpOp} {xs:List D} {g:G},cG (.cmp o) xs g (λd g1=>Z4 g1 d λb=>Q b g1)->cG (.cmp o) xs g λd g'=>∃t,d=.bl t/\Q t g':=by
  intro o xs g h;obtain⟨d',g',h,t',ht,q⟩:=h;obtain⟨x',y',t,ex,hc,rfl,rfl⟩:=id h;refine⟨_,_,h,t',?_,q⟩;rcases ht with⟨z,_⟩|z|⟨i,z,_⟩|⟨l,z,_⟩|⟨a,l,z,_⟩<;>first|exact z|cases z
 refine b0 hP ma _ _ _ _ _ _ (λx g1 h=>b0 hP mb _ _ _ _ _ _ (λy g2 h=>s9 (λz g3 h=>?_) h) (λ_ _ z=>z) h) (λ_ _ z=>z) h;obtain⟨t,rfl,h⟩:=h;refine⟨t,rfl,?_⟩;cases t
 ·obtain⟨b,hb,q⟩:=(show Z4 g3 (.bl false) λb=>Q b g3 from h)
  rcases hb with⟨z,_⟩|z|⟨i,z,_⟩|⟨l,z,_⟩|⟨a,l,z,_⟩<;>first|(cases z;exact⟨_,rfl,q⟩)|cases z
 ·exact b0 hP mc _ _ _ _ _ _ (λw g4 h=>one h) (λ_ _ z=>z) h
theorem TK(hu:X.A.units+100<cLine)(ha:PE X a (LE X.K Ξ (aX P ma)))(hb:PE X b (LE X.K Ξ (aX P mb)))(hc:PE X c (LE X.K Ξ (aX P mc)))(hm:lastMarks [op,gT] [b,c]=false) :
  PT X (.Compare a [op,gT] [b,c] pos) (LT X.K Ξ (de P (.fE (.chain op gT ma mb mc)))) :=
 (Tn (T6 hu op) (T6 hu gT) ha hb hc hm).imp λbR H Q ⟨Z,g,ρ,s,R,h⟩ =>
  Ee hP bR H _ (fb hP s R (.refl _ _) (Sy hP h) λx g1 bP H1 v1 e1 R1 r1 h=>by
   obtain⟨t,rfl,h⟩:=h;exact ⟨t,r1.K2,h bP H1 e1 R1⟩)
theorem OR(ha:PE X a (LE X.K Ξ (aX P ma)))(hb:PE X (.BoolOp .And (b::rest) pos) (LE X.K Ξ (aX P mb))):PE X (.BoolOp .And (a::b::rest) pos) (LE X.K Ξ (aX P (.dw ma mb))) :=
 (Om ha hb).imp λbR H Q bh=>by
  obtain⟨Z,g,ρ,s,R,h⟩:=bh;refine fb hP s R (.refl _ _) h λx g1 bP H1 v1 e1 R1 r1 h=>?_;obtain⟨t,rfl,h⟩:=h;refine⟨t,r1.K2,?_⟩;cases t
  ·exact h bP H1 _ e1 R1 (.bl _)
  ·exact fb hP (s.ext e1) R1 e1 h λy g2 eI H2 v2 e2 R2 r2 h=>h eI H2 v2 (e1.trans e2) R2 r2
theorem MW(ha:PE X a (LE X.K Ξ (aX P ma)))(hb:PE X (.BoolOp .Or (b::rest) pos) (LE X.K Ξ (aX P mb))):PE X (.BoolOp .Or (a::b::rest) pos) (LE X.K Ξ (aX P (.jh ma mb))) :=
 (MK ha hb).imp λbR H Q bh=>by
  obtain⟨Z,g,ρ,s,R,h⟩:=bh;refine fb hP s R (.refl _ _) h λx g1 bP H1 v1 e1 R1 r1 h=>?_;obtain⟨t,rfl,h⟩:=h;refine⟨t,r1.K2,?_⟩;cases t
  ·exact fb hP (s.ext e1) R1 e1 h λy g2 eI H2 v2 e2 R2 r2 h=>h eI H2 v2 (e1.trans e2) R2 r2
  ·exact h bP H1 _ e1 R1 (.bl _)
theorem OX(ha:PE X a (LE X.K Ξ (aX P ma))):PE X (.UnaryOp .Not a pos) (LE X.K Ξ (aX P (.et ma))) :=
 (Ow ha).imp λbR H Q bh=>by
  obtain⟨Z,g,ρ,s,R,h⟩:=bh;refine fb hP s R (.refl _ _) h λx g1 bP H1 v1 e1 R1 r1 h=>?_;obtain⟨t,rfl,h⟩:=h;exact⟨t,r1.K2,h bP H1 _ e1 R1 (.bl _)⟩
theorem OW(hc:PT X c (LT X.K Ξ (de P mc)))(ha:PE X a (LE X.K Ξ (aX P ma)))(hb:PE X b (LE X.K Ξ (aX P mb))):PE X (.IfExp c a b pos) (LE X.K Ξ (aX P (.ite mc ma mb))) :=
 (Ta hc ha hb).imp λbR H Q bh=>by
  obtain⟨Z,g,ρ,s,R,h⟩:=bh;refine nN hP s R (.refl _ _) h λt g1 bP H1 e1 R1 h=>?_;cases t
  ·exact fb hP (s.ext e1) R1 e1 h λy g2 eI H2 v2 e2 R2 r2 h=>h eI H2 v2 (e1.trans e2) R2 r2
  ·exact fb hP (s.ext e1) R1 e1 h λy g2 eI H2 v2 e2 R2 r2 h=>h eI H2 v2 (e1.trans e2) R2 r2
theorem OY{k:Nat}(h:PA X es (LA X.K Ξ (fo P gy))):PE X (.Tuple es k pos) (LE X.K Ξ (aX P (.prim .tup gy))) :=
 (Oz h).imp λbR H Q bh=>by
  obtain⟨Z,g,ρ,s,R,h⟩:=bh;refine jS hP s R (.refl _ _) h λds g1 bP H1 vs e1 R1 r1 h=>?_;obtain⟨d',g',⟨hz,rfl,rfl⟩,q⟩:=h;exact⟨by rw[<- r1.length];exact n8 (aM hz (by decide)),λp hp=>(q.ext e1).tup R1 hp r1⟩
theorem Gf(h:PA X es (LA X.K Ξ (fo P gy))):PE X (.List es pos) (LE X.K Ξ (aX P (.prim .lst gy))) :=
 (Ou h).imp λbR H Q bh=>by
  obtain⟨Z,g,ρ,s,R,h⟩:=bh;refine jS hP s R (.refl _ _) h λds g1 bP H1 vs e1 R1 r1 h=>?_;obtain⟨d',g',⟨hz,rfl,rfl⟩,q⟩:=h;exact⟨by rw[<- r1.length];exact n8 (aM hz (by decide)),λp hp=>(q.ext e1).new R1 hp r1⟩
theorem J7:PA X [] (LA X.K Ξ (fo P .nil)) :=
 (T5 (X:=X)).imp λbR H Q bh=>by
  obtain⟨Z,g,ρ,s,R,h⟩:=bh;exact h ρ H [] (.refl _ _) R .nil
theorem A4(ha:PE X a (LE X.K Ξ (aX P ma)))(h:PA X es (LA X.K Ξ (fo P gy)))(hs:starEach (a::es) X.env=(false,eval a X.env)::starEach es X.env):PA X (a::es) (LA X.K Ξ (fo P (.cons ma gy))) :=
 (O2 ha h hs).imp λbR H Q bh=>by
  obtain⟨Z,g,ρ,s,R,h⟩:=bh;exact fb hP s R (.refl _ _) h λx g1 bP H1 v1 e1 R1 r1 h=>jS hP (s.ext e1) R1 e1 h λxs g2 eI H2 vs e2 R2 r2 h=>h eI H2 _ (e1.trans e2) R2 (.cons (r1.ext e2) r2)
theorem Tz(ha:PE X a (LE X.K Ξ (aX P ma))):PE X (.Subscript a (.Slice none none none p2) pos) (LE X.K Ξ (aX P (.prim (.ko false false) (.cons ma .nil)))) :=
 (AI Br ha wY wY).imp λbR H Q bh=>by
  obtain⟨Z,g,ρ,s,R,h⟩:=bh;refine fb hP s R (.refl _ _) h λx g1 bP H1 v1 e1 R1 r1 h=>?_;obtain⟨d',g',⟨x',ex,h⟩,q⟩:=h;cases ex;exact⟨x,g1,bP,d',g',R1,r1,h,q.ext e1⟩
theorem TC(ha:PE X a (LE X.K Ξ (aX P ma)))(hb:PE X b (LE X.K Ξ (aX P mb))):PE X (.Subscript a (.Slice (some b) none none p2) pos) (LE X.K Ξ (aX P (.prim (.ko true false) (.cons ma (.cons mb .nil))))) :=
 (AI Br ha (GQ hb) wY).imp λbR H Q bh=>by
  obtain⟨Z,g,ρ,s,R,h⟩:=bh;refine fb hP s R (.refl _ _) h λx g1 bP H1 v1 e1 R1 r1 h=>fb hP (s.ext e1) R1 e1 h λy g2 eI H2 v2 e2 R2 r2 h=>?_;obtain⟨d',g',⟨x',i,ex,h⟩,q⟩:=h;cases ex;exact⟨i,r2.j8,x,g2,eI,d',g',R2,r1.ext e2,h,q.ext (e1.trans e2)⟩
theorem TB(ha:PE X a (LE X.K Ξ (aX P ma)))(hb:PE X b (LE X.K Ξ (aX P mb))):PE X (.Subscript a (.Slice none (some b) none p2) pos) (LE X.K Ξ (aX P (.prim (.ko false true) (.cons ma (.cons mb .nil))))) :=
 (AI Br ha wY (GQ hb)).imp λbR H Q bh=>by
  obtain⟨Z,g,ρ,s,R,h⟩:=bh;refine fb hP s R (.refl _ _) h λx g1 bP H1 v1 e1 R1 r1 h=>fb hP (s.ext e1) R1 e1 h λy g2 eI H2 v2 e2 R2 r2 h=>?_;obtain⟨d',g',⟨x',i,ex,h⟩,q⟩:=h;cases ex;exact⟨i,r2.j8,x,g2,eI,d',g',R2,r1.ext e2,h,q.ext (e1.trans e2)⟩
theorem Pl(ha:PE X a (LE X.K Ξ (aX P ma)))(he:∀whole,isTrue a X.env whole=(do let v <- whole;standAt a.pos;holding [v] (truthy v))):PT X a (LT X.K Ξ (de P (.fE ma))) :=
 (To ha he).imp λbR H Q bh=>by
  obtain⟨Z,g,ρ,s,R,h⟩:=bh;refine fb hP s R (.refl _ _) h λx g1 bP H1 v1 e1 R1 r1 h=>?_;obtain⟨b,h1,h2⟩:=h;exact⟨b,PH R1 r1 h1,h2 bP H1 e1 R1⟩
theorem Pj(ha:PT X a (LT X.K Ξ (de P ma))):PT X (.UnaryOp .Not a pos) (LT X.K Ξ (de P (.et ma))) :=
 (OK ha).imp λbR H Q bh=>by
  obtain⟨Z,g,ρ,s,R,h⟩:=bh;exact nN hP s R (.refl _ _) h λt g1 bP H1 e1 R1 h=>h bP H1 e1 R1
theorem Pn(ha:PT X a (LT X.K Ξ (de P ma)))(hb:PW X (.BoolOp .And (b::rest) pos) (LT X.K Ξ (de P mb))):PW X (.BoolOp .And (a::b::rest) pos) (LT X.K Ξ (de P (.dw ma mb))) :=
 (OL ha hb).imp λbR H Q bh=>by
  obtain⟨Z,g,ρ,s,R,h⟩:=bh;refine nN hP s R (.refl _ _) h λt g1 bP H1 e1 R1 h=>?_;cases t
  ·exact h bP H1 e1 R1
  ·exact nN hP (s.ext e1) R1 e1 h λt g2 eI H2 e2 R2 h=>h eI H2 (e1.trans e2) R2
theorem MZ(ha:PT X a (LT X.K Ξ (de P ma)))(hb:PW X (.BoolOp .Or (b::rest) pos) (LT X.K Ξ (de P mb))):PW X (.BoolOp .Or (a::b::rest) pos) (LT X.K Ξ (de P (.jh ma mb))) :=
 (MO ha hb).imp λbR H Q bh=>by
  obtain⟨Z,g,ρ,s,R,h⟩:=bh;refine nN hP s R (.refl _ _) h λt g1 bP H1 e1 R1 h=>?_;cases t
  ·exact nN hP (s.ext e1) R1 e1 h λt g2 eI H2 e2 R2 h=>h eI H2 (e1.trans e2) R2
  ·exact h bP H1 e1 R1
theorem WT:kC X [] (LT X.K Ξ (de P .no)) :=
 (Ww (X:=X)).imp λbR H Q bh=>by
  obtain⟨Z,g,ρ,s,R,h⟩:=bh;exact h ρ H (.refl _ _) R
theorem OS{x:Str}{v:Value}(hv:(∃id,v=.builtin id)\/∃T,v=.type T)(hc:j2 X v (rN X.K p))(hg:Gl X x)(hm:X.mg x=none)(hb:bootBuiltins x=some v)(ha:PA X (e::es) (LA X.K Ξ (fo P gy)))(hn:x≠"__name__")(hd:(x==("__debug__":Str))=false)(dg:starEach (e::es) X.env=(false,eval e X.env)::starEach es X.env)(gM:(backTo pos (starEach es X.env)).any (·.1)=false):PE X (.Call (.Name x q) (e::es) [] pos) (LE X.K Ξ (aX P (.prim p gy))):=by
 have base:PE X (.Call (.Name x q) (e::es) [] pos) (xR (rN X.K p) (LA X.K Ξ (fo P gy))):=by
  rcases hv with⟨id,rfl⟩|⟨T,rfl⟩
  ·exact V6 hc hg hm hb ha hn hd dg gM
  ·exact M7 hc hg hm hb ha hn hd dg gM
 refine base.imp λbR H Q bh=>?_;obtain⟨Z,g,ρ,s,R,h⟩:=bh;exact jS hP s R (.refl _ _) h λxs g1 bP H1 vs e1 R1 r1 h=>⟨xs,g1,bP,R1,r1,s9 (λd g' h=>h.ext e1) h⟩
theorem WH{o:Expr}{mo:ME}{T:String}{name:Str}{id:String}{apos:Pos}(pa:PlainAttrs T)(slot:Slot T name id)(iX:typeOf (.builtin id)=pure (.type "method_descriptor"))(hm:nH X id (rM X.K p))(hk:∀{d:D} {v:V} {g:G} {ρ:List Addr} {H:Hp},Rl X.K ρ g H->d7 X.K ρ H d v->mG p d g->ng X.K T v H)(ho:PE X o (LE X.K Ξ (aX P mo)))(ha:PA X (e::es) (LA X.K Ξ (fo P gy)))(iE:attributeBase o name X.env (eval o X.env)=eval o X.env)(pS:((backTo pos (starEach (e::es) X.env)).all (λx=>!x.1)&&(backToKw pos (keywordEach [] X.env)).all (λx=>x.1.isSome)&&decide ((e::es).length+([]:List Keyword).length+(if([]:List Keyword).isEmpty then 0 else 1)<30))=true)(iD:(apos.endLine==pos.line)=true)(hs:starEach (e::es) X.env=(false,eval e X.env)::starEach es X.env)(fQ:(backTo pos (starEach es X.env)).any (·.1)=false) :
  PE X (.Call (.Attribute o name apos) (e::es) [] pos) (LE X.K Ξ (aX P (.eB p mo gy))) :=
 (MI pa slot iX hm ho ha iE pS iD hs fQ).imp λbR H Q bh=>by
  obtain⟨Z,g,ρ,s,R,h⟩:=bh;exact fb hP s R (.refl _ _) h λx g1 bP H1 v1 e1 R1 r1 h=>⟨hk R1 r1 h.1,jS hP (s.ext e1) R1 e1 h.2 λxs g2 eI H2 ws e2 R2 r2 h =>
   ⟨x,xs,g2,eI,R2,r1.ext e2,r2,s9 (λd g' h=>h.ext (e1.trans e2)) h⟩⟩
theorem Tw{o:Expr}{mo:ME}{T:String}{name:Str}{id:String}{apos:Pos}(pa:PlainAttrs T)(slot:Slot T name id)(iX:typeOf (.builtin id)=pure (.type "method_descriptor"))(hm:nH X id (rM X.K p))(hk:∀{d:D} {v:V} {g:G} {ρ:List Addr} {H:Hp},Rl X.K ρ g H->d7 X.K ρ H d v->mG p d g->ng X.K T v H)(ho:PE X o (LE X.K Ξ (aX P mo)))(iE:attributeBase o name X.env (eval o X.env)=eval o X.env)(iD:(apos.endLine==pos.line)=true) :
  PE X (.Call (.Attribute o name apos) [] [] pos) (LE X.K Ξ (aX P (.eB p mo .nil))) :=
 (Oo pa slot iX hm ho iE iD).imp λbR H Q bh=>by
  obtain⟨Z,g,ρ,s,R,h⟩:=bh;exact fb hP s R (.refl _ _) h λx g1 bP H1 v1 e1 R1 r1 h=>⟨hk R1 r1 h.1,x,[],g1,bP,R1,r1,.nil,s9 (λd g' h=>h.ext e1) h.2⟩
theorem Tt(hc:X.calm=true)(ha:PE X a (LE X.K Ξ (aX P ma)))(lP:Gl X "list")(nB:X.mg "list"=none)(hg:Gl X "range")(hm:X.mg "range"=none)(hs:starEach [a] X.env=[(false,eval a X.env)]) :
  PE X (.Call (.Name "list" p2) [.Call (.Name "range" q) [a] [] pos] [] jg) (LE X.K Ξ (aX P (.prim .iz (.cons ma .nil)))) :=
 (M7 (Y8 hc) lP nB (by first|exact eK|decide +kernel) (O2 (UR hg hm (A4 hP ha (J7 hP) (by rw[hs];rfl)) hs) T5)).imp λbR H Q bh=>by
  obtain⟨Z,g,ρ,s,R,h⟩:=bh;refine jS hP s R (.refl _ _) h λxs g1 bP H1 vs e1 R1 r1 h=>?_;obtain⟨d',g',⟨j,rfl,h1,h2,rfl,rfl⟩,q⟩:=h;obtain⟨v,rfl,rv⟩:=r1.one;obtain rfl:=rv.j8;refine⟨j,rfl,λq' hq=>⟨q',0,j,rfl,p6,⟨by omega,by omega,h1,by omega,by omega⟩,λp hp=>?_⟩⟩;rw[show(j-0).toNat=j.toNat by omega];exact(q.ext (e1.trans (w5 hq))).new (R1.grow hq) hp (a9.kT 0 _)
theorem Tu(hc:X.calm=true)(ha:PE X a (LE X.K Ξ (aX P ma)))(hb:PE X b (LE X.K Ξ (aX P mb)))(lP:Gl X "list")(nB:X.mg "list"=none)(hg:Gl X "range")(hm:X.mg "range"=none)(hs:starEach [a,b] X.env=[(false,eval a X.env),(false,eval b X.env)])(iM:starEach [b] X.env=[(false,eval b X.env)]) :
  PE X (.Call (.Name "list" p2) [.Call (.Name "range" q) [a,b] [] pos] [] jg) (LE X.K Ξ (aX P (.prim .jJ (.cons ma (.cons mb .nil))))) :=
 (M7 (Y8 hc) lP nB (by first|exact eK|decide +kernel) (O2 (US hg hm (A4 hP ha (A4 hP hb (J7 hP) (by rw[iM];rfl)) (by rw[hs,iM])) hs iM) T5)).imp λbR H Q bh=>by
  obtain⟨Z,g,ρ,s,R,h⟩:=bh;refine jS hP s R (.refl _ _) h λxs g1 bP H1 vs e1 R1 r1 h=>?_;obtain⟨d',g',⟨i,j,rfl,hb,rfl,rfl⟩,q⟩:=h;obtain⟨v,w,rfl,rv,fF⟩:=r1.two;obtain rfl:=rv.j8;obtain rfl:=fF.j8;exact⟨i,j,rfl,λq' hq=>⟨q',i,j,rfl,p6,hb,λp hp=>(q.ext (e1.trans (w5 hq))).new (R1.grow hq) hp (a9.kT i _)⟩⟩
theorem WI(hc:X.calm=true)(ha:PE X a (LE X.K Ξ (aX P ma)))(lP:Gl X "sorted")(nB:X.mg "sorted"=none)(hg:Gl X "set")(hm:X.mg "set"=none)(hs:starEach [a] X.env=[(false,eval a X.env)]) :
  PE X (.Call (.Name "sorted" p2) [.Call (.Name "set" q) [a] [] pos] [] jg) (LE X.K Ξ (aX P (.prim .sset (.cons ma .nil)))) :=
 (V6 (R5 hc) lP nB (by first|exact fY|decide +kernel) (O2 (M7 (FK hc) hg hm (by first|exact ig|decide +kernel) (A4 hP ha (J7 hP) (by rw[hs];rfl)) (by decide) (by decide) (by rw[hs];rfl) rfl) T5)).imp λbR H Q bh=>by
  obtain⟨Z,g,ρ,s,R,h⟩:=bh;refine jS hP s R (.refl _ _) h λxs g1 bP H1 vs e1 R1 r1 h=>?_;obtain⟨d',g',⟨i,ns,rfl,hl,hz,rfl,rfl⟩,q⟩:=h;obtain⟨v,rfl,rv⟩:=r1.one;obtain⟨a',rfl,ra⟩:=rv.j3;obtain⟨ws,hq,rs⟩:=R1.items hl ra;obtain rfl:=rs.ints;refine⟨_,ns,rfl,hq,hz,λq' lN=>⟨q',ns,rfl,p6,hz,λp hp=>?_⟩⟩;exact(q.ext (e1.trans (w5 lN))).new (R1.grow lN) hp (a9.ofInts _)
theorem WE(hc:X.calm=true)(ha:PE X a (LE X.K Ξ (aX P ma)))(lP:Gl X "len")(nB:X.mg "len"=none)(hg:Gl X "set")(hm:X.mg "set"=none)(hs:starEach [a] X.env=[(false,eval a X.env)]) :
  PE X (.Call (.Name "len" p2) [.Call (.Name "set" q) [a] [] pos] [] jg) (LE X.K Ξ (aX P (.prim .rA (.cons ma .nil)))) :=
 (V6 Sa lP nB PySem.boot_len (O2 (M7 (FK hc) hg hm (by first|exact ig|decide +kernel) (A4 hP ha (J7 hP) (by rw[hs];rfl)) (by decide) (by decide) (by rw[hs];rfl) rfl) T5)).imp λbR H Q bh=>by
  obtain⟨Z,g,ρ,s,R,h⟩:=bh;refine jS hP s R (.refl _ _) h λxs g1 bP H1 vs e1 R1 r1 h=>?_;obtain⟨d',g',⟨i,ns,rfl,hl,hz,rfl,rfl⟩,q⟩:=h;obtain⟨v,rfl,rv⟩:=r1.one;obtain⟨a',rfl,ra⟩:=rv.j3;obtain⟨ws,hq,rs⟩:=R1.items hl ra;obtain rfl:=rs.ints;refine⟨_,ns,rfl,hq,by omega,λq' lN=>⟨q',_,rfl,p6,?_⟩⟩;exact(q.ext (e1.trans (w5 lN))).now (R1.grow lN) (.int _)
theorem OU{f:Str}(ha:PE X a (LE X.K Ξ (aX P ma)))(hb:attributeBase a f X.env (eval a X.env)=eval a X.env):PE X (.Attribute a f pos) (LE X.K Ξ (aX P (.prim (.fld f) (.cons ma .nil)))) :=
 (Oq ha hb).imp λbR H Q bh=>by
  obtain⟨Z,g,ρ,s,R,h⟩:=bh;refine fb hP s R (.refl _ _) h λx g1 bP H1 v1 e1 R1 r1 h=>?_;obtain⟨d',g',⟨i,c,fs,ex,hi,hf,rfl⟩,q⟩:=h;cases ex;obtain⟨a',rfl,ra⟩:=r1.j3;obtain⟨C,dx,vs,hH,_,hC,rk,na⟩:=R1.ins hi ra;have lk:=rk.look f;rw[hf] at lk;obtain⟨v,hv,rv⟩:=lk.some;exact⟨a',C,dx,vs,v,rfl,hH,hC,na _ (aJ hf),hv,q bP H1 v e1 R1 rv⟩
end
section
variable{X:Cx}{pos:Pos}
theorem OZ{i:Nat}{x:Str}(hN:X.N[i]?=some x)(hv:xk X.env.scope x)(hd:(x==("__debug__":Str))=false)(kJ:(x==("__classdict__":Str))=false):PE X (.Name x pos) (LE X.K Ξ (aX P (.var i))) :=
 (OA hN hv hd kJ).imp λbR H Q bh=>by
  obtain⟨Z,g,ρ,s,R,h⟩:=bh;obtain⟨d,e,h⟩:=h;obtain⟨v,h1,h2⟩:=s.val _ _ e;exact⟨v,h1,h.now R h2⟩
theorem T3{e:Expr}{d:D}{v:V}(h:PE X e (tC v))(r:∀ρ H,d7 X.K ρ H d v):PE X e (LE X.K Ξ (aX P (.lit d))) :=
 h.imp λbR H Q bh=>by
  obtain⟨Z,g,ρ,s,R,h⟩:=bh;exact LQ.now h R (r ρ H)
theorem WC:PE X (.Dict [] [] pos) (LE X.K Ξ (aX P (.prim .S6 .nil))) :=
 (SY (X:=X)).imp λbR H Q ⟨Z,g,ρ,s,R,h⟩ p hp=>by
  obtain⟨d',g',⟨_,rfl,rfl⟩,q⟩:=h;exact q (ρ++[p]) _ _ (B5 hp) (R.new hp (o:=.cg []) (u:=.dK []) i8.nil) (.ref (R.u4 p))
end
end M
namespace L2
open PySem PySem.Spec PyProof.Rows
end L2
namespace M
open PySem L2 PySem.Spec PyProof.Rows
variable{K:PySem.W.Frag}{H H0:Hp}{neg:Bool}{a fa C:Addr}{x:Str}{p:Pos}{kvs xs:List D}{k f:Nat}{fd:FuncData}{ps:List Str}{fJ:List Addr}{vs:List V}
inductive oE(K:PySem.W.Frag):List D->List (Str×V)->Prop
 |nil:oE K [] []
 |cons {x:Str} {d:D} {v:V} {ds:List D} {vs:List (Str×V)} (h:∀ρ H,d7 K ρ H d v) (r:oE K ds vs):oE K (.tup [.str x,d]::ds) ((x,v)::vs)
theorem oE.look{ρ:List Addr}{ds vs}(x:Str)(h:oE K ds vs):Y3 K ρ H (M3 ds x) (vs.lookup x):=by
 induction h with
 |nil=>trivial
 |cons h r ih =>
  rename_i y d v ds vs;unfold M3;rw[cw];by_cases e:x=y
  ·rw[aE e,show(x==y)=true from by simp[e]];exact h ρ H
  ·rw[aB e,show(x==y)=false from by simpa using e];exact ih
def wa(X:Cx)(x:Str)(kvs:List D):Prop:=∃A vs,X.mg x=some (.ref A)/\uR X.K X.w.params A vs/\oE X.K kvs vs
def wo(neg:Bool):Pr:=if neg then .uo else .Dr
theorem GC:PR (wo neg)=AY neg:=by cases neg<;>rfl
theorem Vf(a b c:Str):a++b++c=a++(b++c):=by
 cases a;cases b;cases c;show Str.mk _=Str.mk _;exact dI Str.mk (Iz ..)
theorem WS(x:Str):x++Str.empty=x:=by cases x;show Str.mk _=_;simp[Str.empty]
section
variable{X:Cx}{Ξ:gk}{P:eM}(hP:j5 P){a c:Expr}{ma:ME}{pos:Pos}
include hP
theorem OV(hg:Gl X x)(hd:(x==("__debug__":Str))=false)(hG:wa X x kvs)(ha:PE X a (LE X.K Ξ (aX P ma)))(hm:behindInMarks (if neg then .NotIn else .In) (.Name x p)=false) :
  PE X (.Compare a [if neg then .NotIn else .In] [.Name x p] pos) (LE X.K Ξ (aX P (.prim (wo neg) (.cons (.lit (.tup kvs)) (.cons ma .nil))))):=by
 obtain⟨A,vs,hmg,hk,gr⟩:=hG;refine(GN (F' (kvs:=vs) neg) ha (wX (v:=.ref A) hg hmg rfl hd) hm).imp λbR H Q bh=>?_;obtain⟨Z,g,ρ,s,R,h⟩:=bh;refine fb hP s R (.refl _ _) h λd g1 bP H1 v1 e1 R1 r1 h=>?_;obtain⟨d',g',h,q⟩:=h;rw[GC] at h;obtain⟨gL,z,ex,rfl,rfl⟩:=h;cases ex;obtain rfl:=r1.C6;refine⟨A,z,rfl,hk,rfl,?_⟩;rw[<- (gr.look (ρ:=bP) (H:=H1) z).isSome];exact q bP H1 _ e1 R1 (.bl _)
theorem Ph(hg:Gl X x)(hd:(x==("__debug__":Str))=false)(hG:wa X x kvs)(ha:PE X a (LE X.K Ξ (aX P ma)))(hm:behindInMarks (if neg then .NotIn else .In) (.Name x p)=false) :
  PT X (.Compare a [if neg then .NotIn else .In] [.Name x p] pos) (LT X.K Ξ (de P (.fE (.prim (wo neg) (.cons (.lit (.tup kvs)) (.cons ma .nil)))))):=by
 obtain⟨A,vs,hmg,hk,gr⟩:=hG;refine(GR (F' (kvs:=vs) neg) ha (wX (v:=.ref A) hg hmg rfl hd) hm).imp λbR H Q bh=>?_;obtain⟨Z,g,ρ,s,R,h⟩:=bh;refine fb hP s R (.refl _ _) h λd g1 bP H1 v1 e1 R1 r1 h=>?_;obtain⟨d',g',h,t,ht,q⟩:=h;rw[GC] at h;obtain⟨gL,z,ex,rfl,rfl⟩:=h;cases ex;obtain rfl:=r1.C6;refine⟨A,z,rfl,hk,rfl,t,?_,q bP H1 e1 R1⟩;rw[<- (gr.look (ρ:=bP) (H:=H1) z).isSome];rcases ht with⟨z,_⟩|z|⟨i,z,_⟩|⟨l,z,_⟩|⟨a,l,z,_⟩<;>cases z
 rfl
theorem WD(hg:Gl X x)(hd:(x==("__debug__":Str))=false)(hG:wa X x kvs)(ha:PE X a (LE X.K Ξ (aX P ma)))(hs:Aj a):PE X (.Subscript (.Name x p) a pos) (LE X.K Ξ (aX P (.prim .lZ (.cons (.lit (.tup kvs)) (.cons ma .nil))))):=by
 obtain⟨A,vs,hmg,hk,gr⟩:=hG;refine(HK (Mi (kvs:=vs)) (wX (v:=.ref A) hg hmg rfl hd) ha hs).imp λbR H Q bh=>?_;obtain⟨Z,g,ρ,s,R,h⟩:=bh;refine fb hP s R (.refl _ _) h λd g1 bP H1 v1 e1 R1 r1 h=>?_;obtain⟨d',g',⟨gL,z,ex,hz,rfl⟩,q⟩:=h;cases ex;obtain rfl:=r1.C6;have lk:=gr.look (ρ:=bP) (H:=H1) z;rw[hz] at lk;obtain⟨w,hw,lk⟩:=lk.some;exact⟨A,z,w,rfl,hk,rfl,hw,q bP H1 _ e1 R1 lk⟩
omit hP in
inductive qt(X:Cx)(Ξ:gk)(P:eM):List Expr->ME->List TE->Prop
 |nil:qt X Ξ P [] .nil []
 |lit {x:Str} {j:Nat} {p:Pos} {es:List Expr} {ms:ME} {ts:List TE} (hx:x.length<=2000) (r:qt X Ξ P es ms ts):qt X Ξ P (.Constant (.str x) j p::es) (.cons (.lit (.str x)) ms) (LE X.K Ξ (aX P (.lit (.str x)))::ts)
 |val {e:Expr} {m:ME} {p:Pos} {es:List Expr} {ms:ME} {ts:List TE} (he:PE X e (LE X.K Ξ (aX P m))) (r:qt X Ξ P es ms ts):qt X Ξ P (.FormattedValue e (-1) none p::es) (.cons (.prim .fv (.cons m .nil)) ms) (LE X.K Ξ (aX P (.prim .fv (.cons m .nil)))::ts)
theorem qt.join{bR:L2.St}{Q:Str->Hp->Prop}{es ms ts}(hf:qt X Ξ P es ms ts):∀{Z:S} {g:G} {ρ:List Addr} {H:Hp} {acc:Str},acc.length+2000*es.length<=100000->m8 X.K ρ H Z bR->Rl X.K ρ g H ->
  fo P ms Z g (λds g1=>∃x,W8 ds=some x/\∀bz H',Ext ρ H bz H'->Rl X.K bz g1 H'->Q (acc++x) H') (LX X.K ρ H Ξ)->HU ts bR H acc (λout H1=>out.length<=sizeLine/\Q out H1):=by
 have tl:∀{acc y:Str} {ρ:List Addr} {H:Hp} {bP:List Addr} {H1:Hp} {ds:List D} {g1:G},Ext ρ H bP H1->(∃x,W8 (.str y::ds)=some x/\∀bz H',Ext ρ H bz H'->Rl X.K bz g1 H'->Q (acc++x) H')->∃x,W8 ds=some x/\∀bz H',Ext bP H1 bz H'->Rl X.K bz g1 H'->Q (acc++y++x) H':=by
  intro acc y ρ H bP H1 ds g1 e1 h;obtain⟨x,hx,h⟩:=h;simp only[W8] at hx;cases hj:W8 ds with
  |none=>rw[hj] at hx;cases hx
  |some x' =>
   rw[hj] at hx;cases hx;refine⟨x',rfl,λbz H' e' R'=>?_⟩;rw[Vf];exact h bz H' (e1.trans e') R'
 induction hf with
 |nil =>
  intro Z g ρ H acc ha s R h;obtain⟨x,hx,h⟩:=h;cases hx;rw[WS] at h;exact⟨n8 (by simpa using ha),h ρ H (.refl _ _) R⟩
 |lit hx r ih =>
  rename_i y j p es ms ts;intro Z g ρ H acc ha s R h;refine⟨Z,g,ρ,s,R,?_⟩;intro bP H1 v1 e1 R1 r1;obtain rfl:=r1.C6;have hl:(acc++y).length<=acc.length+2000:=by rw[strLen_append];omega
  simp only[List.length_cons] at ha;exact⟨y,rfl,n8 (by omega),ih (by omega) (s.ext e1) R1 (v7 hP _ _ _ _ _ _ _ (λds g1 h=>tl e1 h) (λ_ _ z=>LX.ext e1 z) h)⟩
 |val he r ih =>
  rename_i e m p es ms ts;intro Z g ρ H acc ha s R h;refine⟨Z,g,ρ,s,R,?_⟩;simp only[List.length_cons] at ha;refine b0 hP m _ _ _ _ _ _ (λd g1 h=>?_) (λ_ _ z=>z) h;obtain⟨d',g',⟨rfl,h⟩,q⟩:=h;have hy:∃y,d'=.str y/\y.length<=2000:=by
   rcases h with⟨i,ex,h1,rfl⟩|⟨z,ex,h1,rfl⟩
   ·exact⟨_,rfl,by rw[PySem.ofString_length];have:=int_text_length_le (k:=1920) (by decide) h1;omega⟩
   ·exact⟨z,rfl,h1⟩
  obtain⟨y,rfl,hy⟩:=hy;refine⟨_,_,⟨rfl,h⟩,λbP H1 v1 e1 R1 r1=>?_⟩;obtain rfl:=r1.C6;have hl:(acc++y).length<=acc.length+2000:=by rw[strLen_append];omega
  exact⟨y,rfl,n8 (by omega),ih (by omega) (s.ext e1) R1 (v7 hP _ _ _ _ _ _ _ (λds g1 h=>tl e1 h) (λ_ _ z=>LX.ext e1 z) q)⟩
omit hP in
def nR(ex:List Str)(K:PySem.W.Frag)(n:Nat)(t:List D->G->KD->KX->Prop):Sp:=λvs H Q E=>vs.length=n/\∃ds g ρ,a9 K ρ H ds vs/\Rl K ρ g H/\t ds g (LQ K ρ H Q) (LX K ρ H (ex,E))
omit hP in
def nJ(X:Cx)(P:eM)(ex:List Str)(k f:Nat)(fa:Addr)(fd:FuncData)(ps:List Str):Prop :=
 gO X.prog X.w X.K X.mg X.base (iH X.prog X.w) k fa fd ps (nR ex X.K ps.length (P f))/\Binds X.K fd ps []/\∀ds g Q E,P f ds g Q E->ds.length=ps.length
theorem Bs{k:Nat}(F:nJ X P Ξ.1 k f fa fd ps){ρ:List Addr}{g:G}{Q0:KD}{Q:VK}(e0:Ext fJ H0 ρ H)(R:Rl X.K ρ g H)(r:a9 X.K ρ H xs vs)(h:P f xs g Q0 (LX X.K fJ H0 Ξ))(k:∀d g',Q0 d g'->LQ X.K ρ H Q d g'):nR Ξ.1 X.K ps.length (P f) (vs++[]) H Q Ξ.2:=by
 rw[dA];exact⟨by rw[<- r.length];exact F.2.2 _ _ _ _ h,xs,g,ρ,r,R,hP _ _ _ _ _ _ _ k (λ_ _ z=>LX.ext e0 z) h⟩
theorem WA{es:List Expr}{e:Expr}{gy:ME}(hx:Passes (iH X.prog X.w) X Ξ.2)(F:nJ X P Ξ.1 k f fa fd ps)(hr:t7 k X.A)(hg:Gl X x)(hm:X.mg x=some (.ref fa))(hk:PySem.W.keepIn X.K (.ref fa)=true)(ha:PA X (e::es) (LA X.K Ξ (fo P gy)))(hd:(x==("__debug__":Str))=false)(dg:starEach (e::es) X.env=(false,eval e X.env)::starEach es X.env)(gM:(backTo pos (starEach es X.env)).any (·.1)=false):PE X (.Call (.Name x p) (e::es) [] pos) (LE X.K Ξ (aX P (.call f gy))) :=
 (Wl F.1 hr hg hm hk F.2.1 .nil hx ha hd dg gM).imp λbR H Q bh=>by
  obtain⟨Z,g,ρ,s,R,h⟩:=bh;exact jS hP s R (.refl _ _) h λxs g1 bP H1 vs e1 R1 r1 h=>Bs hP F e1 R1 r1 h λd g' h=>h.ext e1
theorem Tr(hx:Passes (iH X.prog X.w) X Ξ.2)(F:nJ X P Ξ.1 k f fa fd ps)(hr:t7 k X.A)(hg:Gl X x)(hm:X.mg x=some (.ref fa))(hk:PySem.W.keepIn X.K (.ref fa)=true)(hd:(x==("__debug__":Str))=false):PE X (.Call (.Name x p) [] [] pos) (LE X.K Ξ (aX P (.call f .nil))) :=
 (SW F.1 hr hg hm hk F.2.1 .nil hx hd).imp λbR H Q bh=>by
  obtain⟨Z,g,ρ,s,R,h⟩:=bh;exact Bs hP F (.refl _ _) R .nil h λd g' h=>h
theorem GJ{c:Str}(F:nJ X P Ξ.1 k f fa fd ps)(hC:o7 X.K c C)(hc:jx X.K C){ρ:List Addr}{g1:G}{Q:VK}(e0:Ext fJ H0 ρ H)(R:Rl X.K ρ g1 H)(r:a9 X.K ρ H xs vs)(h:P f (.ref g1.length::xs) (g1++[.ins c []]) (λd g2=>d=.bL/\LQ X.K fJ H0 Q (.ref g1.length) g2) (LX X.K fJ H0 Ξ)):∀x dx,H x=none->H dx=none->dx≠x->nR Ξ.1 X.K ps.length (P f) (.ref x::(vs++[])) (upd (upd H dx (.own x)) x (.ins C dx [])) (λv H2=>v=.bL/\Q (.ref x) H2) Ξ.2:=by
 intro x dx hx Dd dO;have CN:upd H dx (.own x) x=none:=by rw[f6 (bB dO)];exact hx
 have R2:=R.grow (o:=.own x) Dd;have e2:Ext ρ H ρ (upd H dx (.own x)):=w5 Dd;have R3:=R2.new (o:=.ins c []) (u:=.ins C dx []) CN ⟨hC,hc,.nil,λx hx=>absurd hx (by simp)⟩;have e3:Ext ρ (upd H dx (.own x)) (ρ++[x]) (upd (upd H dx (.own x)) x (.ins C dx [])):=B5 CN;have:=Bs hP F (e0.trans (e2.trans e3)) R3 (.cons (.ref (R.u4 x)) (r.ext (e2.trans e3))) h (Q:=λv H2=>v=.bL/\Q (.ref x) H2) λd g' q bz H' v e' R' r'=>by
  obtain⟨rfl,q⟩:=q;exact⟨r'.wF,q bz H' _ (e0.trans (e2.trans (e3.trans e'))) R' (.ref (e'.get (R.u4 x)))⟩
 exact this
theorem WG{es:List Expr}{e:Expr}{gy:ME}(hx:Passes (iH X.prog X.w) X Ξ.2)(F:nJ X P Ξ.1 k f fa fd ps)(M:Mk X.K C fa)(hC:o7 X.K x C)(hc:jx X.K C)(hr:t7 (k+1) X.A)(hg:Gl X x)(hm:X.mg x=some (.ref C))(ha:PA X (e::es) (LA X.K Ξ (fo P gy)))(hd:(x==("__debug__":Str))=false)(dg:starEach (e::es) X.env=(false,eval e X.env)::starEach es X.env)(gM:(backTo pos (starEach es X.env)).any (·.1)=false):PE X (.Call (.Name x p) (e::es) [] pos) (LE X.K Ξ (aX P (.make x f gy))) :=
 (Wn M F.1 hr hg hm F.2.1 .nil hx ha hd dg gM).imp λbR H Q bh=>by
  obtain⟨Z,g,ρ,s,R,h⟩:=bh;exact jS hP s R (.refl _ _) h λxs g1 bP H1 vs e1 R1 r1 h=>GJ hP F hC hc e1 R1 r1 h
theorem Tv(hx:Passes (iH X.prog X.w) X Ξ.2)(F:nJ X P Ξ.1 k f fa fd ps)(M:Mk X.K C fa)(hC:o7 X.K x C)(hc:jx X.K C)(hr:t7 (k+1) X.A)(hg:Gl X x)(hm:X.mg x=some (.ref C))(hd:(x==("__debug__":Str))=false):PE X (.Call (.Name x p) [] [] pos) (LE X.K Ξ (aX P (.make x f .nil))) :=
 (Tb M F.1 hr hg hm F.2.1 .nil hx hd).imp λbR H Q bh=>by
  obtain⟨Z,g,ρ,s,R,h⟩:=bh;exact GJ hP F hC hc (.refl _ _) R .nil h
end
inductive jQ(K:PySem.W.Frag)(ρ:List Addr)(H:Hp):List D->List (V×V)->Prop
 |nil:jQ K ρ H [] []
 |cons {k d:D} {x y:V} {ds:List D} {ps:List (V×V)} (h1:d7 K ρ H k x) (h2:d7 K ρ H d y) (r:jQ K ρ H ds ps):jQ K ρ H (k::d::ds) ((x,y)::ps)
theorem NA{K ρ H}{ps:List (V×V)}(r:jQ K ρ H xs ps):∀{acc kvs:List (Key×D)} {accV:List (Key×V)},rq xs acc=some kvs->i8 K ρ H acc accV->∃more:List (Key×V),ps=more.map (λkv=>(kV kv.1,kv.2))/\2*more.length=xs.length/\i8 K ρ H kvs (P1 accV more):=by
 induction r with
 |nil =>
  intro acc kvs accV h ra;cases h;exact⟨[],rfl,rfl,ra⟩
 |cons h1 h2 r ih =>
  rename_i k d x y ds ps;intro acc kvs accV h ra;simp only[rq] at h;cases hk:P5 k with
  |none=>rw[hk] at h;cases h
  |some c =>
   rw[hk] at h;obtain⟨more,e1,e2,r2⟩:=ih (show rq ds (putD acc c d)=some kvs from h) (ra.put h2);have ex:=O4 hk h1;subst ex;refine⟨(c,y)::more,by rw[aW,<- e1],by simp only[List.length_cons];omega,r2⟩
section
variable{X:Cx}{Ξ:gk}{P:eM}(hP:j5 P){pos:Pos}
inductive kY(X:Cx)(Ξ:gk)(P:eM):List (Option Expr)->List Expr->ME->List (TE×TE)->Prop
 |nil:kY X Ξ P [] [] .nil []
 |cons {k v:Expr} {ks:List (Option Expr)} {vs:List Expr} {mk mv ms:ME} {gR:List (TE×TE)} (hk:PE X k (LE X.K Ξ (aX P mk))) (hv:PE X v (LE X.K Ξ (aX P mv))) (r:kY X Ξ P ks vs ms gR) :
   kY X Ξ P (some k::ks) (v::vs) (.cons mk (.cons mv ms)) ((LE X.K Ξ (aX P mk),LE X.K Ξ (aX P mv))::gR)
theorem kY.Jg{ks vs ms gR}(h:kY X Ξ P ks vs ms gR):vf X pos ks vs gR:=by
 induction h with
 |nil=>exact Wr
 |cons hk hv r ih=>exact Tg hk hv ih
theorem kY.len{ks vs ms gR}(h:kY X Ξ P ks vs ms gR):ks.all (·.isSome)=true/\ks.length=vs.length:=by
 induction h with
 |nil=>exact⟨rfl,rfl⟩
 |cons hk hv r ih=>exact⟨by simpa using ih.1,by simp[ih.2]⟩
include hP
theorem kY.pairs{ks vs ms gR}(hd:kY X Ξ P ks vs ms gR):∀{bR:L2.St} {Z:S} {g:G} {ρ fJ:List Addr} {H H0:Hp} {Qd:List D->G->Prop} {Q:List (V×V)->Hp->Prop},m8 X.K ρ H Z bR->Rl X.K ρ g H->Ext fJ H0 ρ H->fo P ms Z g Qd (LX X.K fJ H0 Ξ) ->
  (∀ds g' bz H' ps,Ext ρ H bz H'->Rl X.K bz g' H'->jQ X.K bz H' ds ps->Qd ds g'->Q ps H')->wI gR bR H Q:=by
 induction hd with
 |nil =>
  intro bR Z g ρ fJ H H0 Qd Q s R e0 h k;exact k [] g ρ H [] (.refl _ _) R .nil h
 |cons hk hv r ih =>
  intro bR Z g ρ fJ H H0 Qd Q s R e0 h k;refine fb hP s R e0 h λx g1 bP H1 v1 e1 R1 r1 h=>fb hP (s.ext e1) R1 (e0.trans e1) h λy g2 eI H2 v2 e2 R2 r2 h=>?_;refine ih (s.ext (e1.trans e2)) R2 (e0.trans (e1.trans e2)) h λds g' bz H' ps e' R' rp hq=>?_;exact k _ g' bz H' _ (e1.trans (e2.trans e')) R' (.cons (r1.ext (e2.trans e')) (r2.ext e') rp) hq
theorem OT{ks:List (Option Expr)}{vs:List Expr}{ms:ME}{gR:List (TE×TE)}(hd:kY X Ξ P ks vs ms gR)(h0:ks≠[])(zo:ks.length<=15):PE X (.Dict ks vs pos) (LE X.K Ξ (aX P (.mj ms))) :=
 (Wm hd.Jg hd.len.1 hd.len.2 h0 zo).imp λbR H Q ⟨Z,g,ρ,s,R,h⟩ p hp=>by
  have e1:Ext ρ H (ρ++[p]) (upd H p (.dK [])):=B5 hp;refine kY.pairs hP hd (s.ext e1) (R.new hp (o:=.cg []) (u:=.dK []) i8.nil) e1 h λds g2 eI H2 ps e2 R2 rp hq=>?_;obtain⟨kvs,hk,hz,hg,q⟩:=hq;have tI:eI[g.length]?=some p:=e2.get (R.u4 p);obtain⟨Xr,hv,rv⟩:=R2.cg hg tI;cases rv;obtain⟨more,em,hl,rk⟩:=NA rp hk (accV:=[]) .nil;refine⟨hv,more,em,by omega,?_⟩;obtain⟨R3,e3⟩:=R2.put (o':=.cg kvs) (u:=.dK (P1 [] more)) hg rfl tI rk;exact q eI _ _ (e1.trans (e2.trans e3)) R3 (.ref tI)
end
theorem Mo{l:List D}(ht:TupAt K H0 a vs)(rs:a9 K fJ H0 l vs):oG K fJ H0 (.fix l) (BK K a):=by
 intro ρ g H e R i;have tF:=ht.ext e;have Cp:=rs.ext e;refine⟨λh=>⟨vs,tF.sq,?_⟩,λd h=>?_⟩
 ·simp only[IK.at] at h;have:=dP.mp (aH h);rw[<- Cp.length];exact this
 ·simp only[IK.at] at h;obtain⟨v,hv,rv⟩:=Cp.get (aH h);refine⟨⟨vs,v,tF.sq,hv⟩,λw H' y=>?_⟩;obtain⟨rfl,y⟩:=y;have:=y vs tF.sq;rw[hv] at this;cases this;exact⟨.refl _ _,R,rv⟩
theorem Mm{j:Nat}(ha:fJ[j]?=some a):oG K fJ H0 (.lst j) (BL K a):=by
 intro ρ g H e R i;have lV:=e.get ha;refine⟨λh=>?_,λd h=>?_⟩
 ·simp only[IK.at] at h;cases el:c8 g j with
  |none=>rw[el] at h;cases h
  |some l =>
   rw[el] at h;obtain⟨vs,hq,rs⟩:=R.items el lV;refine⟨vs,hq,?_⟩;have:=dP.mp (aH h);rw[<- rs.length];exact this
 ·simp only[IK.at] at h;cases el:c8 g j with
  |none=>rw[el] at h;cases h
  |some l =>
   rw[el] at h;obtain⟨vs,hq,rs⟩:=R.items el lV;obtain⟨v,hv,rv⟩:=rs.get (aH h);refine⟨⟨vs,v,hq,hv⟩,λw H' y=>?_⟩;obtain⟨rfl,y⟩:=y;have:=y vs hq;rw[hv] at this;cases this;exact⟨.refl _ _,R,rv⟩
theorem HF{lo:Int}{n:Nat}:oG K fJ H0 (.fix (j7 lo n)) (vi lo n):=by
 unfold j7;intro ρ g H e R i;refine⟨λh=>?_,λd h=>?_⟩
 ·simp only[IK.at] at h;have:=dP.mp (aH h);show n<=i;simpa using this
 ·simp only[IK.at] at h;have h:=aH h;have hi:i<n:=by
   have:=(aq.mp h).1;simpa using this
  rw[aD,BX hi] at h;cases h;refine⟨hi,λw H' y=>?_⟩;obtain⟨rfl,rfl⟩:=y;exact⟨.refl _ _,R,.int _⟩
theorem Ml{j:Nat}(ha:fJ[j]?=some a):oG K fJ H0 (.rg j) (BN K a):=by
 intro ρ g H e R i;have lV:=e.get ha;refine⟨λh=>?_,λd h=>?_⟩
 ·simp only[IK.at] at h;cases el:c8 g j with
  |none=>rw[el] at h;cases h
  |some l =>
   rw[el] at h;obtain⟨vs,hq,rs⟩:=R.items el lV;refine⟨vs,hq,?_⟩;have h:=aH h;rw[Option.map_eq_none_iff] at h;have:=dP.mp h;rw[<- rs.length];exact this
 ·simp only[IK.at] at h;cases el:c8 g j with
  |none=>rw[el] at h;cases h
  |some l =>
   rw[el] at h;obtain⟨vs,hq,rs⟩:=R.items el lV;have h:=aH h;rw[ae] at h;obtain⟨d',hd,rfl⟩:=h;obtain⟨v,hv,rv⟩:=rs.get hd;refine⟨⟨vs,v,hq,hv⟩,λw H' y=>?_⟩;obtain⟨p,x,hp,rfl,y,rfl⟩:=y;have:=y vs hq;rw[hv] at this;cases this;exact⟨w5 hp,R.grow hp,.tup (.inl p6) (.cons (.int _) (.cons (rv.ext (w5 hp)) .nil))⟩
end M
namespace L2
open PySem PySem.Spec PyProof.Rows
theorem OD{X:Cx}{tg l:Expr}{tl:TE}(hl:PE X l tl):PI X tg l (λZ H R=>tl Z H λx H1=>(∃a,x=.ref a/\(∃xs,fj X.K H1 a xs)/\R (BL X.K a) H1)\/(∃a,x=.ref a/\(∃xs,hZ X.K H1 a xs)/\R (BK X.K a) H1)):=by
 intro pins s Z H R I h;refine cB (hl pins s Z H _ I h) λv s1 bh=>?_;obtain⟨x,H1,I1,r1,q1⟩:=bh;rcases q1 with⟨a,e,⟨xs,hq⟩,q⟩|⟨a,e,⟨xs,hq⟩,q⟩
 ·subst e;cases r1;obtain⟨aQ,rv,p,hz⟩:=I1.list hq;refine fc p.isList ?_;refine⟨s1.heap.objs.size,[s1.heap.objs.size],_,_,H1,rfl,I1.kept (t':=s1.toks) λb o e=>ag _ e,Vl a _,⟨_,aw _ rfl,rfl,rfl⟩,λb hb=>?_,q⟩;have e:b=s1.heap.objs.size:=by simpa using hb
  subst e;exact I1.qk (ak _) (I1.bC.fresh (ak _))
 ·subst e;cases r1;obtain⟨aQ,rv,p,hz⟩:=I1.tuple hq;refine kZ (show s1.heap.IsTuple a aQ.toArray from p) ?_;refine⟨s1.heap.objs.size,[s1.heap.objs.size],_,_,H1,rfl,I1.kept (t':=s1.toks) λb o e=>ag _ e,VW a _,⟨_,aw _ rfl,rfl,rfl⟩,λb hb=>?_,q⟩;have e:b=s1.heap.objs.size:=by simpa using hb
  subst e;exact I1.qk (ak _) (I1.bC.fresh (ak _))
end L2
namespace M
open PySem L2 PySem.Spec PyProof.Rows
variable{X:Cx}{tg:Expr}{pos p tp:Pos}{t:MT}{mi:ME}
section
variable{Ξ:gk}{P:eM}(hP:j5 P){a b:Expr}{ma mb:ME}
include hP
theorem Pc(ha:PE X a (LE X.K Ξ (aX P ma))):PI X tg a (LI X.K Ξ (iJ P (.iL ma))) :=
 (OD ha).imp λbR H R bh=>by
  obtain⟨Z,g,ρ,s,Rr,h⟩:=bh;refine fb hP s Rr (.refl _ _) h λx g1 bP H1 v1 e1 R1 r1 h=>?_;rcases h with⟨l,rfl,h⟩|⟨i,l,rfl,hl,h⟩
  ·obtain⟨a',vs,rfl,ht,rs⟩:=r1.O7;exact .inr ⟨_,rfl,⟨_,ht.sq⟩,h bP H1 _ e1 R1 (Mo ht rs)⟩
  ·obtain⟨a',rfl,lV⟩:=r1.j3;obtain⟨vs,hq,rs⟩:=R1.items hl lV;exact .inl ⟨_,rfl,⟨_,hq⟩,h bP H1 _ e1 R1 (Mm lV)⟩
theorem WM{elts:List Expr}{x1:Nat}(ha:PE X a (LE X.K Ξ (aX P ma)))(hg:Gl X "enumerate")(hm:X.mg "enumerate"=none)(hs:starEach [a] X.env=[(false,eval a X.env)]):PI X (.Tuple elts x1 tp) (.Call (.Name "enumerate" p) [a] [] pos) (LI X.K Ξ (iJ P (.mJ ma))) :=
 (Wq hg hm (A4 hP ha (J7 hP) (by rw[hs];rfl)) hs).imp λbR H R bh=>by
  obtain⟨Z,g,ρ,s,Rr,h⟩:=bh;refine jS hP (m:=.cons ma .nil) s Rr (.refl _ _) (Q0:=λxs g1=>∃a l,xs=[.ref a]/\c8 g1 a=some l/\∀bz H' J,Ext ρ H bz H'->Rl X.K bz g1 H'->oG X.K bz H' (.rg a) J->R J H') ?_ λxs g1 bP H1 vs e1 R1 r1 h=>?_
  ·skip
   exact b0 hP ma _ _ _ _ _ _ (λx g1 ⟨i,l,e,hl,h⟩=>⟨i,l,by rw[e],hl,h⟩) (λ_ _ z=>z) h
  ·obtain⟨j,l,rfl,hl,h⟩:=h;obtain⟨v,rfl,rv⟩:=r1.one;obtain⟨a',rfl,ra⟩:=rv.j3;obtain⟨vs,hq,rs⟩:=R1.items hl ra;exact⟨_,rfl,⟨_,hq⟩,h bP H1 _ e1 R1 (Ml ra)⟩
theorem WN(ha:PE X a (LE X.K Ξ (aX P ma)))(hg:Gl X "range")(hm:X.mg "range"=none)(hs:starEach [a] X.env=[(false,eval a X.env)]):PI X tg (.Call (.Name "range" p) [a] [] pos) (LI X.K Ξ (iJ P (.eE ma))) :=
 (UW hg hm (A4 hP ha (J7 hP) (by rw[hs];rfl)) hs).imp λbR H R bh=>by
  obtain⟨Z,g,ρ,s,Rr,h⟩:=bh;refine jS hP (m:=.cons ma .nil) s Rr (.refl _ _) (Q0:=λxs g1=>∃j:Int,xs=[.int j]/\-(2 ^ 62)<=j/\j<2 ^ 62/\∀bz H' J,Ext ρ H bz H'->Rl X.K bz g1 H'->oG X.K bz H' (.fix (j7 0 j.toNat)) J->R J H') ?_ λxs g1 bP H1 vs e1 R1 r1 h=>?_
  ·skip
   exact b0 hP ma _ _ _ _ _ _ (λx g1 ⟨j,e,h1,h2,h⟩=>⟨j,by rw[e],h1,h2,h⟩) (λ_ _ z=>z) h
  ·obtain⟨j,rfl,h1,h2,h⟩:=h;obtain⟨v,rfl,rv⟩:=r1.one;obtain rfl:=rv.j8;exact⟨_,rfl,h1,h2,h bP H1 _ e1 R1 HF⟩
theorem WO(ha:PE X a (LE X.K Ξ (aX P ma)))(hb:PE X b (LE X.K Ξ (aX P mb)))(hg:Gl X "range")(hm:X.mg "range"=none)(hs:starEach [a,b] X.env=[(false,eval a X.env),(false,eval b X.env)])(iM:starEach [b] X.env=[(false,eval b X.env)]) :
  PI X tg (.Call (.Name "range" p) [a,b] [] pos) (LI X.K Ξ (iJ P (.jL ma mb))) :=
 (UX hg hm (A4 hP ha (A4 hP hb (J7 hP) (by rw[iM];rfl)) (by rw[hs,iM])) hs iM).imp λbR H R bh=>by
  obtain⟨Z,g,ρ,s,Rr,h⟩:=bh;refine jS hP (m:=.cons ma (.cons mb .nil)) s Rr (.refl _ _) (Q0:=λxs g1=>∃i j:Int,xs=[.int i,.int j]/\(-(2 ^ 62)<=i/\i<2 ^ 62/\-(2 ^ 62)<=j/\j<2 ^ 62)/\∀bz H' J,Ext ρ H bz H'->Rl X.K bz g1 H'->oG X.K bz H' (.fix (j7 i (j-i).toNat)) J->R J H') ?_ λxs g1 bP H1 vs e1 R1 r1 h=>?_
  ·skip
   exact b0 hP ma _ _ _ _ _ _ (λx g1 h=>b0 hP mb _ _ _ _ _ _ (λy g2 ⟨i,j,e,e',h1,h⟩=>⟨i,j,by rw[e,e'],h1,h⟩) (λ_ _ z=>z) h) (λ_ _ z=>z) h
  ·obtain⟨i,j,rfl,h1,h⟩:=h;obtain⟨v,w,rfl,rv,fF⟩:=r1.two;obtain rfl:=rv.j8;obtain rfl:=fF.j8;exact⟨_,_,rfl,h1,h bP H1 _ e1 R1 HF⟩
end
theorem Pb{i:Nat}{x:Str}(hN:X.N.Nodup)(hi:X.N[i]?=some x)(hx:Loc X.env.scope x)(hf:X.fn x=true\/X.env.scope.names.lookup x=some .local):PG X (.Name x pos) (LG X.K (.one i)) :=
 (GP hN hi hx hf).imp λv bR H Q hq=>by
  obtain⟨d,Z,g,ρ,s,R,r,h⟩:=hq;exact h _ (s.set i r)
inductive fh(X:Cx):List Expr->List Nat->Prop
 |nil:fh X [] []
 |cons {x:Str} {p:Pos} {i:Nat} {es:List Expr} {is:List Nat} (hi:X.N[i]?=some x) (hx:Loc X.env.scope x) (hf:X.fn x=true\/X.env.scope.names.lookup x=some .local) (r:fh X es is):fh X (.Name x p::es) (i::is)
def zW:List Nat->oJ
 |[]=>DO
 |i::is=>HC (rG i) (zW is)
theorem UU(hN:X.N.Nodup){es:List Expr}{is:List Nat}(h:fh X es is):vg X es (zW is):=by
 induction h with
 |nil=>exact Wo
 |cons hi hx hf r ih=>exact Td (GP hN hi hx hf) ih rfl
theorem Z6:∀{es:List Expr} {is:List Nat},fh X es is->(assignEach es X.env).length=is.length/\(assignEach es X.env).findIdx? (·.1)=none
 |_,_,.nil=>⟨rfl,rfl⟩
 |_,_,.cons (x:=x) (p:=p) (es:=es) hi hx hf r=>by
  obtain⟨h1,h2⟩:=Z6 r;have e:assignEach (.Name x p::es) X.env=(false,assign (.Name x p) X.env)::assignEach es X.env:=rfl;rw[e];refine⟨by simp[h1],?_⟩;rw[List.findIdx?_cons,h2]
  rfl
theorem EN{K:PySem.W.Frag}{ρ:List Addr}{H:Hp}{k:S->Prop}{Q:L2.St->Hp->Prop}:∀{is:List Nat} {l:List D} {vs:List V} {Z bI:S} {bR:L2.St},B8 is l Z=some bI->a9 K ρ H l vs->m8 K ρ H Z bR->(∀cP,m8 K ρ H bI cP->Q cP H)->zW is vs bR H Q
 |[],_,_,_,_,_,h,.nil,s,q=>by
  simp only[B8] at h;cases h;exact⟨rfl,q _ s⟩
 |[],_,_,_,_,_,h,.cons _ _,s,q=>by simp only[B8] at h;cases h
 |i::is,_,_,_,_,_,h,.nil,s,q=>by simp only[B8] at h;cases h
 |i::is,_,_,_,_,_,h,.cons r rr,s,q=>by
  simp only[B8] at h;exact⟨_,_,rfl,EN (k:=k) h rr (s.set i r) q⟩
theorem V5:∀{is:List Nat} {l:List D} {Z bI:S},B8 is l Z=some bI->l.length=is.length
 |[],[],_,_,_=>rfl
 |[],_::_,_,_,h=>by simp only[B8] at h;cases h
 |_::_,[],_,_,h=>by simp only[B8] at h;cases h
 |_::is,_::l,_,_,h=>by simp only[B8] at h;simp[V5 h]
theorem GY{es:List Expr}{is:List Nat}{k:Nat}(hc:X.calm=true)(hN:X.N.Nodup)(hs:fh X es is):PG X (.Tuple es k pos) (LG X.K (.many is)) :=
 (OC hc (UU hN hs) (Z6 hs).1 (Z6 hs).2).imp λv bR H Q bh=>by
  obtain⟨d,Z,g,ρ,s,R,r,h⟩:=bh;obtain⟨l,bI,rfl,e,h⟩:=h;obtain⟨a',vs,rfl,ht,rs⟩:=r.O7;exact⟨_,_,rfl,ht.sq,by rw[<- rs.length];exact V5 e,EN (k:=λ_=>True) e rs s h⟩
theorem LN.ext{K ρ H N bP H1}(e:Ext ρ H bP H1):(LN K ρ H N).le (LN K bP H1 N) :=
 ⟨λZ g h bz H' cP e' R s=>h bz H' cP (e.trans e') R s,λd g h=>h.ext e,λZ g h bz H' cP e' R s=>h bz H' cP (e.trans e') R s,λZ g h bz H' cP e' R s=>h bz H' cP (e.trans e') R s⟩
section
variable{Ξ:gk}{P:eM}(hP:j5 P){a b c:Expr}{ma mb mc:ME}{st:Stmt}{rest:List Stmt}{ya lJ:MS}
include hP
theorem Gg:iN X [] (LS X.K Ξ (wpS P .pass)) :=
 (Wv (X:=X)).imp λN bR H ⟨Z,g,ρ,s,R,h⟩=>h ρ H bR (.refl _ _) R s
theorem GZ(h1:PS X st (LS X.K Ξ (wpS P ya)))(h2:iN X rest (LS X.K Ξ (wpS P lJ))):iN X (st::rest) (LS X.K Ξ (wpS P (.seq ya lJ))) :=
 (Tj h1 h2).imp λN bR H ⟨Z,g,ρ,s,R,h⟩ =>
  qz hP s R (.refl _ _) (show wpS P ya { LN X.K ρ H N with nx:=λgP g1=>wpS P lJ (LN X.K ρ H N) gP g1 (LX X.K ρ H Ξ) } Z g (LX X.K ρ H Ξ) from h) ⟨λgP g1 h bP H1 IA e1 R1 s1=>qz hP s1 R1 e1 h (LN.ext e1),λ_ _ z=>z,λ_ _ z=>z,λ_ _ z=>z⟩
theorem WU(ha:PE X a (LE X.K Ξ (aX P ma)))(hs:swapsWith a none pos.line X.env=pure false):PS X (.Expr a pos) (LS X.K Ξ (wpS P (.expr ma))) :=
 (Ws ha hs).imp λN bR H ⟨Z,g,ρ,s,R,h⟩=>fb hP s R (.refl _ _) h λx g1 bP H1 v1 e1 R1 r1 h=>h bP H1 bR e1 R1 (s.ext e1)
theorem Gi{i:Nat}{x:Str}(h0:PS X (.Assign [.Name x p] a pos) (uP (LE X.K Ξ (aX P ma)) (rG i))):PS X (.Assign [.Name x p] a pos) (LS X.K Ξ (wpS P (.set i ma))) :=
 h0.imp λN bR H ⟨Z,g,ρ,s,R,h⟩=>fb hP s R (.refl _ _) h λx g1 bP H1 v1 e1 R1 r1 h=>h bP H1 _ e1 R1 ((s.ext e1).set i r1)
theorem Pt(h0:PS X (.Assign [tg] a pos) (uP (LE X.K Ξ (aX P ma)) (LG X.K t))):PS X (.Assign [tg] a pos) (LS X.K Ξ (wpS P (.mz t ma))) :=
 h0.imp λN bR H ⟨Z,g,ρ,s,R,h⟩=>fb hP s R (.refl _ _) h λx g1 bP H1 v1 e1 R1 r1 h=>⟨x,Z,g1,bP,s.ext e1,R1,r1,B0 (λbI h cP s'=>h bP H1 cP e1 R1 s') h⟩
theorem TM(hu:X.A.units+100<cLine){o i:Expr}{mo:ME}(ha:PE X a (LE X.K Ξ (aX P ma)))(ho:PE X o (LE X.K Ξ (aX P mo)))(hi:PE X i (LE X.K Ξ (aX P mi)))(hs:swapsWithSole [.Subscript o i tp] a pos.line X.env=pure false)(lV:∀ v,assign (.Subscript o i tp) X.env v=(do
   let ov <- holding [v] (eval o X.env)
   let iv <- holding [v,ov] (eval i X.env)
   standAt tp
   holding [v,ov,iv] (setItem ov iv v)
   release [v,ov,iv] [])):PS X (.Assign [.Subscript o i tp] a pos) (LS X.K Ξ (wpS P (.dS mo mi ma))) :=
 (Ga ha (OB ho hi (Pa hu) lV) hs).imp λN bR H ⟨Z,g,ρ,s,R,h⟩ =>
  fb hP s R (.refl _ _) h λx g1 bP H1 v1 e1 R1 r1 h=>fb hP (s.ext e1) R1 e1 h λy g2 eI H2 v2 e2 R2 r2 h=>fb hP (s.ext (e1.trans e2)) R2 (e1.trans e2) h λz g3 iQ H3 v3 e3 R3 r3 h =>
   ⟨y,z,x,g3,iQ,R3,r2.ext e3,r3,r1.ext (e2.trans e3),Q3 (λg4 h oU H4 e4 R4=>h oU H4 bR (e1.trans (e2.trans (e3.trans e4))) R4 (s.ext (e1.trans (e2.trans (e3.trans e4))))) h⟩
omit hP in
def zP(K:PySem.W.Frag)(f:Str)(cs:List Str):Prop:=∀c C,c∈cs->o7 K c C->w9 K C f
omit hP in
theorem WL{f:Str}{cs:List Str}(hF:zP X.K f cs){ρ:List Addr}{H:Hp}{g g':G}{x v:D}{xv vv:V}(R:Rl X.K ρ g H)(rx:d7 X.K ρ H x xv)(rv:d7 X.K ρ H v vv)(h:HP f cs x v g g') :
  ∃a C dx fs,xv=.ref a/\H a=some (.ins C dx fs)/\jx X.K C/\w9 X.K C f/\fs.length<1000/\Rl X.K ρ g' (upd H a (.ins C dx (v8 f vv fs)))/\Ext ρ H ρ (upd H a (.ins C dx (v8 f vv fs))):=by
 obtain⟨i,c,fs,rfl,hi,hc,hz,rfl⟩:=h;obtain⟨a',rfl,ra⟩:=rx.j3;obtain⟨C,dx,vs,hH,hC,kx,rk,na⟩:=R.ins hi ra;obtain⟨R',e'⟩:=R.put (o':=.ins c (N7 f v fs)) (u:=.ins C dx (v8 f vv vs)) hi rfl ra ⟨hC,kx,rk.v8 rv,Fp (p:=λy=>w9 X.K C y) (hF c C hc hC) na⟩;exact⟨a',C,dx,vs,rfl,hH,kx,hF c C hc hC,by rw[<- rk.length];omega,R',e'⟩
theorem WV{f:Str}{cs:List Str}{o:Expr}{mo:ME}(hF:zP X.K f cs)(ho:PE X o (LE X.K Ξ (aX P mo)))(ha:PE X a (LE X.K Ξ (aX P ma)))(hs:swapsWith a (some (.Attribute o f tp)) pos.line X.env=pure false):PS X (.Assign [.Attribute o f tp] a pos) (LS X.K Ξ (wpS P (.ni f cs mo ma))) :=
 (OE ho ha hs).imp λN bR H ⟨Z,g,ρ,s,R,h⟩=>fb hP s R (.refl _ _) h λx g1 bP H1 v1 e1 R1 r1 h=>fb hP (s.ext e1) R1 e1 h λy g2 eI H2 v2 e2 R2 r2 h=>by
  obtain⟨g3,h,q⟩:=h;obtain⟨a',C,dx,fs,hx,hH,kx,na,hz,R3,e3⟩:=WL hF R2 r2 (r1.ext e2) h;exact⟨a',C,dx,fs,hx,hH,kx,na,hz,q eI _ bR (e1.trans (e2.trans e3)) R3 (s.ext (e1.trans (e2.trans e3)))⟩
theorem M'{sa sb:List Stmt}{CA msb:MS}(hc:PT X c (LT X.K Ξ (de P mc)))(ha:iN X sa (LS X.K Ξ (wpS P CA)))(hb:iN X sb (LS X.K Ξ (wpS P msb))):PS X (.If c sa sb pos) (LS X.K Ξ (wpS P (.ifs mc CA msb))) :=
 (MN hc ha hb).imp λN bR H ⟨Z,g,ρ,s,R,h⟩=>nN hP s R (.refl _ _) h λt g1 bP H1 e1 R1 h=>by
  cases t
  ·exact qz hP (s.ext e1) R1 e1 h (LN.ext e1)
  ·exact qz hP (s.ext e1) R1 e1 h (LN.ext e1)
theorem Gh(ha:PE X a (LE X.K Ξ (aX P ma))):PS X (.Return (some a) pos) (LS X.K Ξ (wpS P (.ret ma))) :=
 (OI ha).imp λN bR H ⟨Z,g,ρ,s,R,h⟩=>⟨Z,g,ρ,s,R,h⟩
theorem TN{body:List Stmt}{mb:MS}(hp:PassesOwn (model X.prog X.w) X.A X.env X.xe)(hc:PT X c (LT X.K Ξ (de P mc)))(hb:iN X body (LS X.K Ξ (wpS P mb))):PS X (.While c body [] pos) (LS X.K Ξ (wpS P (.jC mc mb))) :=
 (Ti hp hc hb).imp λN bR H bh=>by
  obtain⟨Z,g,ρ,s,R,h⟩:=bh;obtain⟨W,⟨m0,w0⟩,h⟩:=h;refine⟨λm cP H'=>∃bI g' bz,Ext ρ H bz H'/\m8 X.K bz H' bI cP/\Rl X.K bz g' H'/\W m bI g',⟨m0,Z,g,ρ,.refl _ _,s,R,w0⟩,?_⟩;rintro m cP H' ⟨bI,g',bz,e1,s',R',w'⟩;refine nN hP s' R' e1 (h m bI g' w') λt g1 bP H1 e2 R1 q=>?_;cases t
  ·exact q bP H1 cP (e1.trans e2) R1 (s'.ext e2)
  ·obtain⟨N2,yZ,q⟩:=q;refine⟨λjB H2=>∃cD g2 eI,Ext ρ H eI H2/\m8 X.K eI H2 cD jB/\Rl X.K eI g2 H2/\N2 cD g2,?_,?_⟩
   ·rintro jB H2 ⟨cD,g2,eI,e3,s2,R2,n2⟩;obtain⟨m',hm,w2⟩:=yZ cD g2 n2;exact⟨m',hm,cD,g2,eI,e3,s2,R2,w2⟩
   ·refine qz hP (s'.ext e2) R1 (e1.trans e2) q ⟨?_,?_,?_,?_⟩
    ·exact λgY g3 n3 iQ H3 kd e3 R3 s3=>⟨gY,g3,iQ,(e1.trans e2).trans e3,s3,R3,n3⟩
    ·exact λd g3 h=>h.ext (e1.trans e2)
    ·exact λgY g3 h iQ H3 kd e3 R3 s3=>h iQ H3 kd ((e1.trans e2).trans e3) R3 s3
    ·exact λgY g3 n3 iQ H3 kd e3 R3 s3=>⟨gY,g3,iQ,(e1.trans e2).trans e3,s3,R3,n3⟩
theorem Po{iter:Expr}{body:List Stmt}{mb:MS}(hp:PassesOwn (model X.prog X.w) X.A X.env X.xe)(hc:X.calm=true)(hi:PI X tg iter (LI X.K Ξ (iJ P mi)))(hg:PG X tg (LG X.K t))(hb:iN X body (LS X.K Ξ (wpS P mb)))(hs:∀x,foldedSetIterable iter X.env x=pure x):PS X (.For tg iter body [] pos) (LS X.K Ξ (wpS P (.dF t mi mb))) :=
 (OF hp hc hi hg hb hs).imp λN bR H bh=>by
  obtain⟨Z,g,ρ,s,R,h⟩:=bh;refine⟨Z,g,ρ,s,R,y9 hP mi _ _ _ _ _ _ (λk g1 h bP H1 J e1 R1 j1=>?_) (λ_ _ z=>z) h⟩;obtain⟨W,⟨m0,w0⟩,h⟩:=h;refine⟨λi m cP H'=>∃bI g' bz,Ext bP H1 bz H'/\m8 X.K bz H' bI cP/\Rl X.K bz g' H'/\W i m bI g',⟨m0,Z,g1,bP,.refl _ _,s.ext e1,R1,w0⟩,?_⟩;rintro i m cP H' ⟨bI,g',bz,e',s',R',w'⟩;obtain⟨tB,tw⟩:=j1 bz g' H' e' R' i;rcases h i m bI g' w' with⟨ek,q⟩|⟨x,ek,N2,yZ,q⟩
  ·exact .inl ⟨tB ek,q bz H' cP (e1.trans e') R' s'⟩
  ·obtain⟨go,yl⟩:=tw x ek;refine .inr ⟨go,λjB H2=>∃cD g2 eI,Ext bP H1 eI H2/\m8 X.K eI H2 cD jB/\Rl X.K eI g2 H2/\N2 cD g2,?_,?_⟩
   ·rintro jB H2 ⟨cD,g2,eI,e2,s2,R2,n2⟩;obtain⟨m',hm,w2⟩:=yZ cD g2 n2;exact⟨m',hm,cD,g2,eI,e2,s2,R2,w2⟩
   ·intro v H2 y;obtain⟨e2,R2,r2⟩:=yl v H2 y;refine⟨x,bI,g',bz,s'.ext e2,R2,r2,B0 (λcD q jB s2=>?_) q⟩;refine qz hP s2 R2 (e1.trans (e'.trans e2)) q ⟨?_,?_,?_,?_⟩
    ·exact λgY g3 n3 iQ H3 kd e3 R3 s3=>⟨gY,g3,iQ,(e'.trans e2).trans e3,s3,R3,n3⟩
    ·exact λd g3 h=>h.ext (e1.trans (e'.trans e2))
    ·exact λgY g3 h iQ H3 kd e3 R3 s3=>h iQ H3 kd (e1.trans ((e'.trans e2).trans e3)) R3 s3
    ·exact λgY g3 n3 iQ H3 kd e3 R3 s3=>⟨gY,g3,iQ,(e'.trans e2).trans e3,s3,R3,n3⟩
theorem Eh{d4:List Nat}{n:Nat}{iy me:ME}:∀bR H Q,LE X.K Ξ (aX P (.comp d4 n t mi iy me)) bR H Q->Bt (LI X.K Ξ (iJ P mi)) d4 n (LG X.K t) (LT X.K (mU Ξ.1) (de P iy)) (LE X.K (mU Ξ.1) (aX P me)) bR H Q:=λbR H Q bh=>by
 obtain⟨Z,g,ρ,s,R,h⟩:=bh;refine⟨Z,g,ρ,s,R,y9 hP mi _ _ _ _ _ _ (λk g1 h bP H1 J e1 R1 j1=>?_) (λ_ _ z=>z) h⟩;obtain⟨W,⟨m0,w0⟩,h⟩:=h;refine⟨λi m BY cP H'=>∃ys bI g' bz,Ext bP H1 bz H'/\m8 X.K bz H' bI cP/\Rl X.K bz g' H'/\a9 X.K bz H' ys BY/\W i m ys bI g',⟨m0,[],_,g1,bP,.refl _ _,(s.ext e1).d4 d4 n,R1,.nil,w0⟩,?_⟩;rintro i m BY cP H' ⟨ys,bI,g',bz,e',s',R',ry,w'⟩;obtain⟨tB,tw⟩:=j1 bz g' H' e' R' i;rcases h i m ys bI g' w' with⟨ek,q⟩|⟨x,ek,hz,q⟩
 ·exact .inl ⟨tB ek,λp hp=>(q.ext (e1.trans e')).new R' hp ry⟩
 ·obtain⟨go,yl⟩:=tw x ek;refine .inr ⟨go,by rw[<- ry.length];exact Aw hz,λv H2 y=>?_⟩;obtain⟨e2,R2,r2⟩:=yl v H2 y;refine⟨x,bI,g',bz,s'.ext e2,R2,r2,B0 (λcD q jB s2=>?_) q⟩;refine⟨cD,g',bz,s2,R2,o8 hP iy _ _ _ _ _ _ (λb g3 q iQ H3 e3 R3=>?_) (λ_ _ z=>z.elim) q⟩;cases b
  ·obtain⟨m',hm,w3⟩:=q;exact⟨m',hm,ys,cD,g3,iQ,(e'.trans e2).trans e3,s2.ext e3,R3,(ry.ext e2).ext e3,by simpa using w3⟩
  ·refine⟨cD,g3,iQ,s2.ext e3,R3,b0 hP me _ _ _ _ _ _ (λz g4 q oU H4 v4 e4 R4 r4=>?_) (λ_ _ z=>z.elim) q⟩;obtain⟨m',hm,w4⟩:=q;exact⟨m',hm,ys++[z],cD,g4,oU,(e'.trans e2).trans (e3.trans e4),(s2.ext e3).ext e4,R4,(((ry.ext e2).ext e3).ext e4).append (.cons r4 .nil),by simpa using w4⟩
theorem Tx{elt iter:Expr}{ifs:List Expr}{scope:Scope}{N':List Str}{d4:List Nat}{cl:List (Str×Addr)}{p2 jg:Pos}{iy me:ME}(S:dc X scope N' d4 cl)(hc:X.calm=true)(hi:PI X tg iter (LI X.K Ξ (iJ P mi)))(hg:∀pins C s H fp,PG (d6 X pins scope N' cl C s H fp) tg (LG X.K t))(ht:∀pins C s H fp,kC (d6 X pins scope N' cl C s H fp) ifs (LT X.K (mU Ξ.1) (de P iy)))(he:∀pins C s H fp,PE (d6 X pins scope N' cl C s H fp) elt (LE X.K (mU Ξ.1) (aX P me)))(hs:∀x,foldedSetIterable iter X.env x=pure x)(lP:Gl X "sorted")(nB:X.mg "sorted"=none):PE X (.Call (.Name "sorted" p2) [.SetComp elt [⟨tg,iter,ifs,0⟩] scope pos] [] jg) (LE X.K Ξ (aX P (.iu d4 N'.length t mi iy me))) :=
 (V6 (R5 hc) lP nB (by first|exact fY|decide +kernel) (O2 (Tc S hc hi hg ht he hs) T5)).imp λbR H Q bh=>by
  obtain⟨Z,g,ρ,s,R,h⟩:=bh;refine⟨Z,g,ρ,s,R,y9 hP mi _ _ _ _ _ _ (λk g1 h bP H1 J e1 R1 j1=>?_) (λ_ _ z=>z) h⟩;obtain⟨W,⟨m0,w0⟩,h⟩:=h;refine⟨λi m ys cP H'=>∃bI g' bz,Ext bP H1 bz H'/\m8 X.K bz H' bI cP/\Rl X.K bz g' H'/\W i m ys bI g',⟨m0,_,g1,bP,.refl _ _,(s.ext e1).d4 d4 _,R1,w0⟩,?_⟩;rintro i m ys cP H' ⟨bI,g',bz,e',s',R',w'⟩;obtain⟨tB,tw⟩:=j1 bz g' H' e' R' i;rcases h i m ys bI g' w' with⟨ek,hz,q⟩|⟨x,ek,hz,q⟩
  ·exact .inl ⟨tB ek,λp hp=>⟨p,ys,rfl,p6,by omega,λp' iY=>(q.ext ((e1.trans e').trans (w5 hp))).new (R'.grow hp) iY (a9.ofInts _)⟩⟩
  ·obtain⟨go,yl⟩:=tw x ek;refine .inr ⟨go,hz,λv H2 y=>?_⟩;obtain⟨e2,R2,r2⟩:=yl v H2 y;refine⟨x,bI,g',bz,s'.ext e2,R2,r2,B0 (λcD q jB s2=>?_) q⟩;refine⟨cD,g',bz,s2,R2,o8 hP iy _ _ _ _ _ _ (λb g3 q iQ H3 e3 R3=>?_) (λ_ _ z=>z.elim) q⟩;cases b
   ·obtain⟨m',hm,w3⟩:=q;exact⟨m',hm,cD,g3,iQ,(e'.trans e2).trans e3,s2.ext e3,R3,by simpa using w3⟩
   ·refine⟨cD,g3,iQ,s2.ext e3,R3,b0 hP me _ _ _ _ _ _ (λz g4 q oU H4 v4 e4 R4 r4=>?_) (λ_ _ z=>z.elim) q⟩;obtain⟨j,rfl,m',hm,w4⟩:=q;obtain rfl:=r4.j8;exact⟨j,rfl,m',hm,cD,g4,oU,(e'.trans e2).trans (e3.trans e4),(s2.ext e3).ext e4,R4,by simpa using w4⟩
end
end M
namespace M
open PySem L2
section
variable{P:eM}(hP:j5 P)
include hP
end
end M
namespace M
open PySem L2 PySem.Spec PyProof.Rows
variable{X:Cx}{Ξ:gk}{P:eM}{x qual:Str}{pos px:Pos}{c:f9}{i n:Nat}{e o b a:Expr}{es args:List Expr}{env:Env}{p:Pr}{f:Addr}{r:CF}{m:ME}{cd:Value}{N:List Str}{scope:Scope}{A:Around}{outer:List Env}{s:Shared}{H:Hp}{E:XK}
section
variable(hP:j5 P)
include hP
theorem TL{C:Addr}{B newId fP:String}{bm:List Value}{np fu:Pos}{jn:Expr}{rest:List Expr}{gy:ME}(hc:X.calm=true)(O:OwnCls x C bm newId X.mg X.base)(FB:ExcBaseFacts B newId fP bm)(hg:Gl X x)(ha:PA X (jn::rest) (LA X.K Ξ (fo P gy)))(hr:wK X Ξ.2)(hx:x∈Ξ.1)(hC:o7 X.K x C)(he:starEach (jn::rest) X.env=(false,eval jn X.env)::starEach rest X.env)(fQ:(backTo fu (starEach rest X.env)).any (·.1)=false)(hd:(x==("__debug__":Str))=false):PS X (.Raise (some (.Call (.Name x np) (jn::rest) [] fu)) none pos) (LS X.K Ξ (wpS P (.raise x gy))) :=
 (Th hc O FB hg ha hr he fQ hd).imp λN bR H bh=>by
  obtain⟨Z,g,ρ,s,R,h⟩:=bh;refine jS hP s R (.refl _ _) h λds g1 bP H1 vs e1 R1 r1 h=>?_;exact⟨by rw[<- r1.length];exact n8 (aM h.1 (by decide)),h.2 bP H1 C e1 R1 hx hC⟩
def xj(X:Cx)(ex:List Str)(D:L2.Ends)(hs:List ExceptHandler):gk:=(ex,λv _ H=>∃C,v=.ref C/\Y2 X D C H hs)
inductive kO(X:Cx)(Ξ:gk)(P:eM):List ExceptHandler->List (Str×ME)->Prop
 |nil (hh:uZ X Ξ.2):kO X Ξ P [] []
 |cons {y:Str} {C':Addr} {p p1 p2:Pos} {e:Expr} {me:ME} {hs:List ExceptHandler} {ms:List (Str×ME)} (hg:Gl X y) (hd:(y==("__debug__":Str))=false) (hm:X.mg y=some (.ref C'))
   (hx:∀x C,x∈Ξ.1->o7 X.K x C->PySem.W.exmOne X.K (.ref C) (.ref C')=some (decide (x=y\/y="MintError"))) (he:∀ea,PE (B9 X ea) e (LE X.K (mU Ξ.1) (aX P me))) (r:kO X Ξ P hs ms) :
   kO X Ξ P (.ExceptHandler (some (.Name y p)) none [.Return (some e) p1] p2::hs) ((y,me)::ms)
theorem Ez{N:L2.Ends}{ρ bz:List Addr}{H H':Hp}{Z:S}{g:G}{x:Xn}{C:Addr}(hl:Z.length=X.N.length)(e:Ext ρ H bz H')(R:Rl X.K bz g H')(hx:x.cls∈Ξ.1)(hC:o7 X.K x.cls C) :
  ∀{hs:List ExceptHandler} {ms:List (Str×ME)},kO X Ξ P hs ms->kF P (LN X.K ρ H N) (Z.map λ_=>none) (LX X.K ρ H Ξ) ms x g->Y2 X N C H' hs
 |_,_,.nil hh,q=>⟨Ξ.2,hh,q bz H' C e R hx hC⟩
 |_,_,.cons (me:=me) hg hd hm Ju he r,q=>by
  refine⟨hg,hd,_,_,hm,Ju _ _ hx hC,?_⟩;unfold kF at q;split at q
  ·rename_i ex;rw[aE (by simpa using ex)];refine⟨LS X.K (mU Ξ.1) (wpS P (.seq (.ret me) .pass)),λea=>GZ (X:=B9 X ea) (Ξ:=mU Ξ.1) hP (Gh (X:=B9 X ea) hP (he ea)) (Gg (X:=B9 X ea) hP),?_⟩;refine⟨Z.map λ_=>none,g,bz,⟨by simp[hl],λi d z=>?_⟩,R,?_⟩
   ·rw[aD] at z;cases e:Z[i]? with
    |none=>rw[e] at z;cases z
    |some y=>rw[e] at z;cases z
   ·skip
    refine b0 hP me _ _ _ _ _ _ (λd g1 h=>?_) (λ_ _ z=>z.elim) q;exact h.ext e
  ·rename_i ex;rw[aB (by simpa using ex)];exact Ez hl e R hx hC r q
theorem Pq{h₀:ExceptHandler}{hs:List ExceptHandler}{ms:List (Str×ME)}{body:List Stmt}{mb:MS}(dg:X.stack=X.env::X.outer)(hf:X.env.frame=some X.env.locals)(hb:∀pins D,iN (Q1 X pins (rL X pins D (h₀::hs))) body (LS X.K (xj X Ξ.1 D (h₀::hs)) (wpS P mb)))(hh:kO X Ξ P (h₀::hs) ms):PS X (.Try body (h₀::hs) [] [] pos) (LS X.K Ξ (wpS P (.U8 mb ms))):=by
 intro pins s bR H N I ⟨Z,g,ρ,sr,R,h⟩;refine OJ (t:=λD=>LS X.K (xj X Ξ.1 D (h₀::hs)) (wpS P mb)) (Ξ:=λD=>(xj X Ξ.1 D (h₀::hs)).2) dg hf (λpins D _=>hb pins D) pins s bR H N I ⟨λC H' ⟨C',e,z⟩=>by cases e;exact z,?_⟩;refine⟨Z,g,ρ,sr,R,wpS_mono hP mb _ _ _ _ _ _ ⟨λ_ _ z=>z,λ_ _ z=>z,λ_ _ z=>z,λ_ _ z=>z⟩ (λx g1 q bz H' C e' R' hm hc=>⟨C,rfl,?_⟩) h⟩;exact Ez (Ξ:=Ξ) hP (sr.len.trans I.len) e' R' hm hc hh q
end
structure f9 where
 N:List Str
 nm:List (Str×NameKind)
 mf:Bool
 fns:List (Str×Nat)
 con:List (Str×D)
 blt:List Str
 exc:List Str
 gd:List (Str×List D)
 cls:List (Str×Nat)
 nU:List (Str×Str×Nat)
 mT:List (Str×Str)
 jf:Bool
 iR:Bool
def fy:Expr->Bool
 |.Set ..=>false
 |.Starred ..=>false
 |.Slice ..=>false
 |_=>true
def v9:Expr->Bool
 |.ListComp ..=>false
 |.SetComp ..=>false
 |.DictComp ..=>false
 |_=>true
def rH:Expr->Bool
 |.Tuple ..=>false
 |_=>true
def AW:Expr->Bool
 |.Name ..=>true
 |.Call ..=>true
 |.Subscript ..=>true
 |.Constant ..=>true
 |.Attribute ..=>true
 |.BinOp ..=>true
 |_=>false
def wG:Expr->Bool
 |.Call (.Name ..) ..=>false
 |_=>true
def f9.idx(c:f9)(x:Str):Option Nat:=c.N.findIdx? λy=>decide (y=x)
def f9.xN(c:f9)(x:Str):Bool:=match c.nm.lookup x with
 |some .local=>true
 |some .cell=>true
 |some .free=>true
 |_=>false
def f9.gl(c:f9)(x:Str):Bool:=decide (c.nm.lookup x=some .globalImplicit)
def f9.B4(c:f9)(x:Str):Bool:=decide (c.nm.lookup x=some .local)||decide (c.nm.lookup x=some .cell)
def V9(x:Str):Bool:=(x==("__debug__":Str))==false&&(x==("__classdict__":Str))==false&&decide (x≠"__name__")
def Bv:List (Str×String):=[("int","int"),("bool","bool"),("str","str"),("tuple","tuple"),("list","list")]
def zT:List (Str×Pr):=[("len",.len),("list",.list),("tuple",.tuple),("isinstance",.isin),("all",.all),("max",.max),("min",.min),("int",.int),("any",.any),("sorted",.jE),("sum",.sum),("set",.pM)]
def wV:List (Str×Pr):=[]
def Ab:List (Str×Pr):=[("append",.append),("pop",.pop),("get",.get)]
def wL:Expr->Option (Str×List Expr)
 |.Call (.Name x _) args [] _=>some (x,args)
 |_=>none
def Hj:Expr->Bool
 |.Tuple ..=>true
 |_=>false
def asName:Expr->Option Str
 |.Name x _=>some x
 |_=>none
def frees(sc:Scope):List Str:=(sc.names.filter λy=>decide (y.2=.free)).map (·.1)
def locals(sc:Scope):List Str:=(sc.names.filter λy=>decide (y.2=.local)||decide (y.2=.cell)).map (·.1)
def f9.inner(c:f9)(sc:Scope):f9:={ c with N:=frees sc++locals sc,nm:=sc.names,mf:=false,jf:=false,iR:=false }
def f9.d4(c:f9)(sc:Scope):List Nat:=(frees sc).map λx=>(c.idx x).getD 0
def f9.Ay(c:f9)(sc:Scope):Bool :=
 decide (sc.kind=.function)&&sc.names.all (λy=>!decide (y.2=.cell)||decide (sc.names.lookup y.1=some .cell))&&sc.names.all (λy=>!decide (y.2=.local)||decide (sc.names.lookup y.1=some .local)) &&
 decide (frees sc++locals sc).Nodup&&(frees sc).all (λx=>(c.idx x).isSome&&decide (sc.names.lookup x=some .free)&&(decide (c.nm.lookup x=some .cell)||decide (c.nm.lookup x=some .free)))
def f9.slot(c:f9)(e:Expr):Option Nat:=(asName e).bind λx=>if c.B4 x then c.idx x else none
def f9.slots(c:f9):List Expr->Option (List Nat)
 |[]=>some []
 |e::r=>(c.slot e).bind λi=>(c.slots r).map λis=>i::is
def f9.tg(c:f9)(e:Expr):Option MT:=((c.slot e).map .one).orElse λ_=>match e with
 |.Tuple es _ _=>(c.slots es).map .many
 |_=>none
def X7:Const->Option D
 |.int i=>some (.int i)
 |.bool b=>some (.bl b)
 |.none=>some .bL
 |.str x=>some (.str x)
 |_=>none
structure CF where
 e:f9->Expr->Option ME
 t:f9->Expr->Option ME
 s:f9->Stmt->Option MS
section
variable(r:CF)(c:f9)
def c1(p:Pr)(a:Expr):Option ME:=(r.e c a).map λm=>.prim p (.cons m .nil)
def c2(p:Pr)(a b:Expr):Option ME:=(r.e c a).bind λma=>(r.e c b).map λmb=>.prim p (.cons ma (.cons mb .nil))
def E7:List Expr->Option ME
 |[]=>some .nil
 |e::es=>if fy e then(r.e c e).bind λm=>(E7 es).map λms=>.cons m ms else none
def uT:List (Option Expr)->List Expr->Option ME
 |[],[]=>some .nil
 |some k::ks,v::vs=>(r.e c k).bind λmk=>(r.e c v).bind λmv=>(uT ks vs).map λms=>.cons mk (.cons mv ms)
 |_,_=>none
def we(op:BoolOp):List Expr->Option ME
 |[]=>none
 |[a]=>r.e c a
 |a::b::rs=>(r.e c a).bind λma=>(we op (b::rs)).map λmb=>match op with
  |.And=>.dw ma mb
  |.Or=>.jh ma mb
def wg(op:BoolOp):List Expr->Option ME
 |[]=>none
 |[a]=>r.t c a
 |a::b::rs=>(r.t c a).bind λma=>(wg op (b::rs)).map λmb=>match op with
  |.And=>.dw ma mb
  |.Or=>.jh ma mb
def FO:List Expr->Option ME
 |[]=>some .no
 |[e]=>r.t c e
 |_=>none
def u3:List Stmt->Option MS
 |[]=>some .pass
 |s::rs=>(r.s c s).bind λm=>(u3 rs).map λms=>.seq m ms
def By(x:Str):Option ME :=
 if V9 x then(if c.xN x then(c.idx x).map .var else if c.gl x then((c.con.lookup x).map .lit).orElse λ_=>if c.blt.contains x then(Bv.lookup x).map λt=>.lit (.ty t) else none else none) else none
def xF(op:UnaryOp)(a:Expr):Option ME:=if op=.Not then(r.e c a).map .et else c1 r c (.un op) a
def f9.xg(b:Expr):Option (List D):=(asName b).bind λx=>if c.gl x&&V9 x then c.gd.lookup x else none
def QU:CmpOp->Option Bool
 |.In=>some false
 |.NotIn=>some true
 |_=>none
def uQ(a:Expr)(ops:List CmpOp)(bs:List Expr):Option ME:=match ops,bs with
 |[op],[b]=>if behindInMarks op b then none else((QU op).bind λneg=>(c.xg b).bind λkvs=>(r.e c a).map λma=>.prim (wo neg) (.cons (.lit (.tup kvs)) (.cons ma .nil))).orElse λ_=>c2 r c (.cmp op) a b
 |[op,gT],[b,d]=>if lastMarks [op,gT] [b,d] then none else(r.e c a).bind λma=>(r.e c b).bind λmb=>(r.e c d).map λmd=>.chain op gT ma mb md
 |_,_=>none
def QJ:Expr->Option (Option Expr×Option Expr×Option Expr)
 |.Slice lo hi st _=>some (lo,hi,st)
 |_=>none
def BZ(a:Expr):Option Expr->Option Expr->Option Expr->Option ME
 |none,none,none=>c1 r c (.ko false false) a
 |some b,none,none=>c2 r c (.ko true false) a b
 |none,some b,none=>c2 r c (.ko false true) a b
 |_,_,_=>none
def Bd(a b:Expr):Option ME:=((QJ b).bind λq=>BZ r c a q.1 q.2.1 q.2.2).orElse λ_=>if fy b then((c.xg a).bind λkvs=>(r.e c b).map λmb=>.prim .lZ (.cons (.lit (.tup kvs)) (.cons mb .nil))).orElse λ_=>c2 r c .ix a b else none
def xG(x:Str)(e:Expr):Option ME:=(wL e).bind λq =>
 if x="list" && q.1="range" && c.blt.contains "list" && c.blt.contains "range" && c.gl "range" then (match q.2 with
  |[a]=>if fy a then c1 r c .iz a else none
  |[a,b]=>if fy a&&fy b then c2 r c .jJ a b else none
  | _=>none)
 else if x="sorted" && q.1="set" && c.blt.contains "sorted" && c.blt.contains "set" && c.gl "set" then (match q.2 with
  |[a]=>if fy a then c1 r c .sset a else none
  | _=>none)
 else if x="len" && q.1="set" && c.blt.contains "len" && c.blt.contains "set" && c.gl "set" then (match q.2 with
  |[a]=>if fy a then c1 r c .rA a else none
  | _=>none)
 else none
def LL(x:Str)(e:Expr):List Expr->Option ME
 |[]=>xG r c x e
 |_=>none
def Ag(x:Str):Option ME:=if V9 x&&c.gl x then((c.fns.lookup x).map λf=>.call f .nil).orElse λ_=>(c.cls.lookup x).map λf=>.make x f .nil else none
def Ah(x:Str)(e:Expr)(es:List Expr):Option ME:=if V9 x&&c.gl x then(LL r c x e es).orElse λ_=>(E7 r c (e::es)).bind λms=>((c.fns.lookup x).map λf=>.call f ms).orElse λ_=>((c.cls.lookup x).map λf=>.make x f ms).orElse λ_=>if c.blt.contains x then(zT.lookup x).map λp=>.prim p ms else none else none
def Gu(x:Str):List Expr->Option ME
 |[]=>Ag c x
 |e::es=>Ah r c x e es
def Ai(o:Expr)(m:Str)(apos pos:Pos)(args:List Expr):Option ME :=
 if wG o && (apos.endLine == pos.line) && decide (args.length < 20) then (r.e c o).bind λmo=>(E7 r c args).bind λms=>if m="index" then none else if args.isEmpty && (wV.lookup m).isSome then (wV.lookup m).map λp=>.eB p mo ms else (match Ab.lookup m with
  |some p=>if args.isEmpty then none else some (.eB p mo ms)
  | none=>none) else none
def Bx(f:Expr)(args:List Expr)(iS:List Keyword)(pos:Pos):Option ME:=if iS.isEmpty then(match f with
 |.Name x _=>Gu r c x args
 |.Attribute o m apos=>Ai r c o m apos pos args
 | _=>none) else none
def uV(tg e:Expr):Option ME:=(((wL e).bind λq =>
  if q.1="enumerate" then (match q.2 with
   |[a]=>if c.gl "enumerate"&&c.blt.contains "enumerate"&&fy a&&Hj tg then(r.e c a).map .mJ else none
   | _=>none)
  else if q.1="range" then (match q.2 with
   |[a]=>if c.gl "range"&&c.blt.contains "range"&&fy a then(r.e c a).map .eE else none
   |[a,b]=>if c.gl "range"&&c.blt.contains "range"&&fy a&&fy b then(r.e c a).bind λma=>(r.e c b).map λmb=>.jL ma mb else none
   | _=>none)
  else none):Option ME).orElse λ_=>if fy e then (r.e c e).map .iL else none
def U5(elt:Expr)(gens:List Comprehension)(sc:Scope):Option ME:=match gens with
 |[⟨tg,it,ifs,CI⟩]=>if c.Ay sc&&decide (CI=0)&&fy it then((c.inner sc).tg tg).bind λt=>(uV r c tg it).bind λmi=>(FO r (c.inner sc) ifs).bind λmc=>(r.e (c.inner sc) elt).map λme=>.comp (c.d4 sc) (frees sc++locals sc).length t mi mc me else none
 |_=>none
def QH:Expr->Option Str
 |.Name x _=>some x
 |_=>none
def QI:Expr->Option (Expr×List Comprehension×Scope)
 |.SetComp elt gens sc _=>some (elt,gens,sc)
 |_=>none
def LJ:ME->Option ME
 |.comp a n t i k e=>some (.iu a n t i k e)
 |_=>none
def xH(f:Expr)(args:List Expr)(iS:List Keyword):Option ME:=match args with
 |[a]=>if iS.isEmpty&&decide (QH f=some "sorted")&&c.gl "sorted"&&c.blt.contains "sorted" then(QI a).bind λq=>(U5 r c q.1 q.2.1 q.2.2).bind LJ else none
 |_=>none
def vz(f:Expr)(args:List Expr)(iS:List Keyword):Option ME:=(λ(_:f9)=>none) c
def HQ:Expr->Option ME
 |.Name x _=>By c x
 |.Constant k _ _=>(X7 k).map .lit
 |.BinOp a op b _=>c2 r c (.bin op) a b
 |.UnaryOp op a _=>xF r c op a
 |.Compare a ops bs _=>uQ r c a ops bs
 |.BoolOp op vs _=>we r c op vs
 |.IfExp t a b _=>(r.t c t).bind λmt=>(r.e c a).bind λma=>(r.e c b).map λmb=>.ite mt ma mb
 |.Tuple es _ _=>(E7 r c es).map (.prim .tup)
 |.List es _=>(E7 r c es).map (.prim .lst)
 |.Subscript a b _=>Bd r c a b
 |.Dict ks vs _=>if ks.isEmpty&&vs.isEmpty then some (.prim .S6 .nil) else if decide (ks.length<=15) then(uT r c ks vs).map .mj else none
 |.Attribute o f _=>if wG o then c1 r c (.fld f) o else none
 |.Call f args iS pos=>(xH r c f args iS).orElse λ_=>(vz c f args iS).orElse λ_=>Bx r c f args iS pos
 |.ListComp elt gens sc _=>U5 r c elt gens sc
 |_=>none
def stepT:Expr->Option ME
 |.UnaryOp op a _=>if op=.Not then(r.t c a).map .et else none
 |.BoolOp op vs _=>wg r c op vs
 |.Compare a ops bs _=>(uQ r c a ops bs).map .fE
 |e=>if AW e then(r.e c e).map .fE else none
def Hi:Expr->Option (Str×Pos)
 |.Name x p=>some (x,p)
 |_=>none
def LP:Expr->Option (Expr×Expr)
 | .Tuple es _ _=>(match es with
  |[a,b]=>some (a,b)
  | _=>none)
 |_=>none
def f9.Ba(x:Str)(px:Pos)(y:Str)(py:Pos)(a b:Expr):Bool:=decide (c.nm.lookup x=some .local)&&decide (c.nm.lookup y=some .local)&&decide (x≠y)&&decide (py.line=px.line)&&fy a&&fy b&&!([a,b].all (foldedForSure 8))&&!([a,b].all (constantsAlone 8))
def f9.wx:List Expr->Expr->Bool
 |[s,t],e=>((Hi s).bind λp=>(Hi t).bind λq=>(LP e).map λz=>c.Ba p.1 p.2 q.1 q.2 z.1 z.2).getD false
 |_,_=>false
def Hz:Expr->Option ME
 |.Constant k _ _=>(X7 k).map .lit
 |_=>none
def wB:List Expr->Option ME
 |[]=>some .nil
 |e::es=>(Hz e).bind λm=>(wB es).map λms=>.cons m ms
def Hy:Expr->Option ME
 |.List es _=>(wB es).map (.prim .lst)
 |.Constant k _ _=>(X7 k).map .lit
 |_=>none
def LO:List Stmt->Option Expr
 | [s]=>(match s with
  |.Return e _=>e
  | _=>none)
 |_=>none
def zR:ExceptHandler->Option (Str×Expr)
 |.ExceptHandler t n b _=>if n.isNone then t.bind λt=>(asName t).bind λy=>(LO b).map λe=>(y,e) else none
def uU:List ExceptHandler->Option (List (Str×ME))
 |[]=>some []
 |h::hs=>(zR h).bind λq=>if c.exc.contains q.1&&c.gl q.1&&V9 q.1 then(Hy q.2).bind λm=>(uU hs).map λms=>(q.1,m)::ms else none
def Ak(e f:Option Expr):Option (Str×Expr×List Expr):=if f.isNone then e.bind λe=>(wL e).bind λq=>q.2.head?.map λa=>(q.1,a,q.2.tail) else none
def f9.AX(f:Str):List Str:=(c.mT.filter λy=>decide (y.1=f)).map (·.2)
def zS:List Expr->Option (Expr×Expr×Expr×Expr)
 |_=>none
def DW(tg e:Expr):Option MS:=match tg with
 |.Name x _=>if c.B4 x then(c.idx x).bind λi=>(r.e c e).map λm=>.set i m else none
 |.Tuple es _ _=>(zS es).elim (if(rH e&&v9 e)||c.wx es e then(c.slots es).bind λis=>(r.e c e).map λm=>.mz (.many is) m else none) λq=>if v9 e&&fy q.2.1&&fy q.2.2.2 then(r.e c q.1).bind λm1=>(r.e c q.2.1).bind λn1=>(r.e c q.2.2.1).bind λm2=>(r.e c q.2.2.2).bind λn2=>(r.e c e).map λm=>.vB m1 n1 m2 n2 m else none
 |.Subscript o i _=>if fy i&&v9 e then(r.e c o).bind λmo=>(r.e c i).bind λmi=>(r.e c e).map λm=>.dS mo mi m else none
 |.Attribute o f _=>(r.e c o).bind λmo=>(r.e c e).map λm=>.ni f (c.AX f) mo m
 |_=>none
def toR(e:Expr)(m:ME):ME:=(λ(_:f9)=>m) c
def HR:Stmt->Option MS
 |.Expr e _=>if v9 e then(r.e c e).map .expr else none
 | .Assign xQ e _=>(match xQ with
  |[tg]=>DW r c tg e
  | _=>none)
 |.If t a b _=>(r.t c t).bind λmt=>(u3 r c a).bind λma=>(u3 r c b).map λmb=>.ifs mt ma mb
 |.For tg it body nG _=>if c.mf&&(nG.isEmpty&&fy it) then(c.tg tg).bind λt=>(uV r c tg it).bind λmi=>(u3 r c body).map λmb=>.dF t mi mb else none
 |.While t body nG _=>if c.mf&&nG.isEmpty then(r.t c t).bind λmt=>(u3 r c body).map λmb=>.jC mt mb else none
 | .Return e _=>(match e with
  |some e=>(r.e c e).map λm=>.ret (toR c e m)
  | none=>some .pE)
 |.Pass _=>some .pass
 |.Raise e f _=>(Ak e f).bind λq=>if c.jf&&c.exc.contains q.1&&c.gl q.1&&V9 q.1 then(E7 r c (q.2.1::q.2.2)).map (.raise q.1) else none
 |.Try body hs el fi _=>if c.iR&&!hs.isEmpty&&el.isEmpty&&fi.isEmpty then(u3 r { c with jf:=false,iR:=false } body).bind λmb=>(uU c hs).map λms=>.U8 mb ms else none
 |_=>none
end
def comp:Nat->CF
 |0=>⟨λ_ _=>none,λ_ _=>none,λ_ _=>none⟩
 |n+1=>⟨HQ (comp n),stepT (comp n),λc s=>(HR (comp n) c s).orElse λ_=>some (.expr .no)⟩
structure gs(X:Cx)(c:f9)(P:eM)(Ξ:gk):Prop where
 N:X.N=c.N
 nd:c.N.Nodup
 loc:∀x,c.nm.lookup x=some .local->X.env.scope.names.lookup x=some .local
 vZ:∀x,c.nm.lookup x=some .cell->X.env.scope.names.lookup x=some .cell
 zt:∀x,c.nm.lookup x=some .free->X.env.scope.names.lookup x=some .cell\/X.env.scope.names.lookup x=some .free
 Dq:∀x,c.nm.lookup x=some .globalImplicit->X.env.scope.names.lookup x=some .globalImplicit
 cells:∀x,(c.nm.lookup x=some .cell\/c.nm.lookup x=some .free)->∃a,X.env.cells.lookup x=some a
 mf:∀x,c.nm.lookup x=some .cell->X.fn x=true
 calm:X.calm=true
 units:X.A.units+100<cLine
 own:c.mf=true->PassesOwn (model X.prog X.w) X.A X.env X.xe
 mono:j5 P
 con:∀x d,c.con.lookup x=some d->∃v u,X.mg x=some u/\RelV v u/\∀ρ H,d7 X.K ρ H d v
 blt:∀x,c.blt.contains x=true->X.mg x=none
 fns:∀x f,c.fns.lookup x=some f->∃k fa fd ps,nJ X P Ξ.1 k f fa fd ps/\t7 k X.A/\X.mg x=some (.ref fa)/\PySem.W.keepIn X.K (.ref fa)=true
 cls:∀x f,c.cls.lookup x=some f->∃k C fa fd ps,nJ X P Ξ.1 k f fa fd ps/\t7 (k+1) X.A/\X.mg x=some (.ref C)/\o7 X.K x C/\jx X.K C/\Mk X.K C fa
 nU:∀m y f C,(m,y,f)∈c.nU->o7 X.K y C->∃k fa fd ps,Meth X.K C m fa/\nJ X P Ξ.1 k f fa fd ps/\t7 k X.A
 mT:∀f y C,(f,y)∈c.mT->o7 X.K y C->w9 X.K C f
 vW:Ξ.1=c.exc
 pass:Passes (iH X.prog X.w) X Ξ.2
 jf:c.jf=true->wK X Ξ.2
 iR:c.iR=true->X.stack=X.env::X.outer/\X.env.frame=some X.env.locals/\uZ X Ξ.2
 exc:∀x,c.exc.contains x=true->∃C,X.mg x=some (.ref C)/\o7 X.K x C/\∃B newId fP bm,OwnCls x C bm newId X.mg X.base/\ExcBaseFacts B newId fP bm
 zx:∀x y C C',c.exc.contains x=true->c.exc.contains y=true->o7 X.K x C->o7 X.K y C'->PySem.W.exmOne X.K (.ref C) (.ref C')=some (decide (x=y\/y="MintError"))
 uq:∀x kvs,c.gd.lookup x=some kvs->wa X x kvs
 code:c.mf=true->PySem.W.kdsCode X.K X.env.code=true
theorem Qh(h:c.idx x=some i):c.N[i]?=some x:=by
 unfold f9.idx at h;rw[jR] at h;obtain⟨h1,h2,_⟩:=h;rw[az h1,bS h2]
theorem gs.Np(C:gs X c P Ξ)(h:c.xN x=true):xk X.env.scope x:=by
 unfold f9.xN at h;split at h
 ·rename_i e;exact .inl (C.loc x e)
 ·rename_i e;exact .inr (.inl (C.vZ x e))
 ·rename_i e;rcases C.zt x e with z|z
  ·exact .inr (.inl z)
  ·exact .inr (.inr z)
 ·cases h
theorem gs.v5(C:gs X c P Ξ)(h:c.gl x=true):Gl X x:=C.Dq x (bS h)
theorem gs.B4(C:gs X c P Ξ){x:Str}(h:c.B4 x=true):Loc X.env.scope x/\(X.fn x=true\/X.env.scope.names.lookup x=some .local):=by
 unfold f9.B4 at h;rw[eh] at h;rcases h with h|h
 ·have:=C.loc x (bS h);exact⟨.inl this,.inr this⟩
 ·exact⟨.inr (C.vZ x (bS h)),.inl (C.mf x (bS h))⟩
theorem gs.rz(C:gs X c P Ξ)(h:c.idx x=some i):X.N[i]?=some x:=by rw[C.N];exact Qh h
theorem gs.qH(C:gs X c P Ξ):X.N.Nodup:=by rw[C.N];exact C.nd
theorem X9(h:asName e=some x):∃p,e=.Name x p:=by
 cases e<;>first|(cases h;exact⟨_,rfl⟩)|cases h
theorem Eu(h:c.slot e=some i):∃x p,e=.Name x p/\c.B4 x=true/\c.idx x=some i:=by
 unfold f9.slot at h;obtain⟨x,hx,h2⟩:=af.mp h;obtain⟨p,rfl⟩:=X9 hx;split at h2
 ·exact⟨x,p,rfl,by assumption,h2⟩
 ·cases h2
theorem gs.slots(C:gs X c P Ξ):∀{es:List Expr} {is:List Nat},c.slots es=some is->fh X es is:=by
 intro es
 induction es with
 |nil=>intro is h;cases h;exact .nil
 |cons e r ih =>
  intro is h;unfold f9.slots at h;obtain⟨i,hi,h⟩:=af.mp h;obtain⟨XH,hs,rfl⟩:=ae.mp h;obtain⟨x,p,rfl,hl,hx⟩:=Eu hi;exact .cons (C.rz hx) (C.B4 hl).1 (C.B4 hl).2 (ih hs)
theorem orElse_some{α:Type}{a:Option α}{b:Unit->Option α}{m:α}(h:a.orElse b=some m):a=some m\/b ()=some m:=by
 cases a with
 |none=>exact .inr h
 |some x=>exact .inl h
theorem gs.Ea(C:gs X c P Ξ){tg:Expr}{t:MT}(h:c.tg tg=some t):PG X tg (LG X.K t):=by
 unfold f9.tg at h;rcases orElse_some h with h|h
 ·obtain⟨i,hi,rfl⟩:=ae.mp h;obtain⟨x,p,rfl,hl,hx⟩:=Eu hi;exact Pb C.qH (C.rz hx) (C.B4 hl).1 (C.B4 hl).2
 ·cases tg<;>first|(cases h;done)|skip
  obtain⟨is,hs,rfl⟩:=ae.mp (show(c.slots _).map MT.many=some t from h);exact GY C.calm C.qH (C.slots hs)
theorem l0(h:fy e=true):starEach (e::es) env=(false,eval e env)::starEach es env:=by
 cases e<;>first|rfl|cases h
theorem V7(h:fy e=true):∀x,foldedSetIterable e env x=pure x:=by
 intro x;cases e<;>first|rfl|cases h
theorem FZ(h:fy e=true):Aj e:=by
 intro o i;cases e<;>first|rfl|cases h
theorem Qz{i:Expr}{tp:Pos}(h:fy i=true):∀v,assign (.Subscript o i tp) env v=(do
      let ov <- holding [v] (eval o env)
      let iv <- holding [v,ov] (eval i env)
      standAt tp
      holding [v,ov,iv] (setItem ov iv v)
      release [v,ov,iv] []):=by
  intro v;cases i<;>first|rfl|cases h
theorem AV{t:Option Expr}(h:v9 e=true):swapsWith e t n env=pure false:=by
 cases e<;>first|rfl|cases h
theorem SQ{k:Nat}{p:Pos}(h:rH e=true):swappedStores [.Tuple es k p] e env=pure none:=by
 cases e<;>first|rfl|cases h
theorem UY(h:AW e=true):∀whole,isTrue e env whole=(do let v <- whole;standAt e.pos;holding [v] (truthy v)):=by
 intro w;cases e<;>first|rfl|cases h
theorem T1{q:Str×List Expr}(h:wL e=some q):∃p pos,e=.Call (.Name q.1 p) q.2 [] pos:=by
 cases e<;>first|(cases h;done)|skip
 rename_i f as iS pos;cases f<;>first|(cases h;done)|skip
 cases iS<;>first|(cases h;done)|skip
 cases h;exact⟨_,_,rfl⟩
theorem TY(h:Hj e=true):∃es k p,e=.Tuple es k p:=by
 cases e<;>first|exact⟨_,_,_,rfl⟩|cases h
theorem Ek{kvs:List D}(h:c.xg b=some kvs):∃x p,b=.Name x p/\c.gl x=true/\V9 x=true/\c.gd.lookup x=some kvs:=by
 unfold f9.xg at h;obtain⟨x,hx,h2⟩:=af.mp h;obtain⟨p,rfl⟩:=X9 hx;split at h2
 ·rename_i hc;rw[bx] at hc;exact⟨x,p,rfl,hc.1,hc.2,h2⟩
 ·cases h2
theorem O6{f:Str}(h:wG o=true):attributeBase o f env (eval o env)=eval o env:=by
 cases o<;>first|rfl|skip
 rename_i f as iS pos;cases f<;>first|rfl|cases h
theorem An{env:Env}:∀(names:List (Str×NameKind)) (acc:List (Str×Addr)),(∀y∈names,y.2=.free->∃a,env.cells.lookup y.1=some a)->(∀x a,acc.lookup x=some a->env.cells.lookup x=some a) ->
  ∃ cl,(forIn names acc λ(y:Str × NameKind) (cs:List (Str × Addr))=>(match y with
   |(name,kind)=>if(kind==NameKind.free)=true then do
     let __do_lift <- cellOf env name
     pure (ForInStep.yield ((name,__do_lift)::cs))
    else pure (ForInStep.yield cs):Sem (ForInStep (List (Str × Addr)))))=pure cl/\(∀ x a,cl.lookup x=some a->env.cells.lookup x=some a)/\(∀ y ∈ names,y.2=.free->∃ a,cl.lookup y.1=some a)/\∀ x a,acc.lookup x=some a->∃ a',cl.lookup x=some a'
 |[],acc,_,h2=>⟨acc,rfl,h2,λy hy=>absurd hy (by simp),λx a h=>⟨a,h⟩⟩
 |(n,k)::r,acc,h1,h2=>by
  rw[List.forIn_cons];by_cases hk:k=.free
  ·subst hk;obtain⟨a,ha⟩:=h1 (n,.free) (by simp) rfl;have hc:cellOf env n=pure a:=by unfold cellOf;rw[ha]
   obtain ⟨cl,e,q1,q2,q3⟩:=An r ((n,a) :: acc) (λy hy=>h1 y (by simp [hy])) (λx b hb=>by
    rw[cw] at hb;cases hx:x==n with
    |true=>rw[hx] at hb;cases hb;rw[eq_of_beq hx];exact ha
    | false=>rw [hx] at hb;exact h2 x b hb)
   refine⟨cl,?_,q1,λy hy hf=>?_,λx b hb=>?_⟩
   ·simp only[beq_self_eq_true,if_true,hc];exact e
   ·rcases aA.mp hy with z|z
    ·subst z;exact q3 n a (by simp[List.lookup_cons])
    ·exact q2 y z hf
   ·cases hx:x==n with
    |true=>exact q3 x a (by rw[cw,hx])
    |false=>exact q3 x b (by rw[cw,hx];exact hb)
  ·have hb:(k==NameKind.free)=false:=by simpa using hk
   obtain⟨cl,e,q1,q2,q3⟩:=An r acc (λy hy=>h1 y (by simp[hy])) h2;refine⟨cl,?_,q1,λy hy hf=>?_,q3⟩
   ·simp only[hb,Bool.false_eq_true,if_false];exact e
   ·rcases aA.mp hy with z|z
    ·subst z;exact absurd hf hk
    ·exact q2 y z hf
theorem UQ{P:Program}{w:World}:Passes (iH P w) X (λ_ _ _=>False):=λ_ _ _ _ _ _ _ h=>by
 obtain⟨_,_,_,_,_,_,_,z⟩:=h;exact z.elim
theorem N6{env:Env}:∀{names:List (Str×NameKind)} {x:Str},names.lookup x=some .globalImplicit ->
  (names.map λ(n,k)=>if(k==NameKind.free&&env.scope.kind==.function&&env.kindOf n==some .cell) then(n,NameKind.cell) else(n,k)).lookup x=some .globalImplicit
 |[],_,h=>by simp at h
 |(n,k)::r,x,h=>by
  have ih:=@N6 env r x;show List.lookup x ((if(k==NameKind.free&&env.scope.kind==.function&&env.kindOf n==some .cell)=true then(n,NameKind.cell) else(n,k))::_)=_;cases hx:x==n with
  |true =>
   simp only[List.lookup_cons,hx] at h;cases h;simp[List.lookup_cons,hx]
  |false =>
   simp only[List.lookup_cons,hx] at h;by_cases hc:(k==NameKind.free&&env.scope.kind==.function&&env.kindOf n==some .cell)=true
   ·rw[aE hc];simp only[List.lookup_cons,hx];exact ih h
   ·rw[aB hc];simp only[List.lookup_cons,hx];exact ih h
theorem gs.comp(C:gs X c P Ξ){sc:Scope}(h:c.Ay sc=true):∃cl,dc X sc (frees sc++locals sc) (c.d4 sc) cl/\∀pins A s H fp,gs (d6 X pins sc (frees sc++locals sc) cl A s H fp) (c.inner sc) P (mU Ξ.1):=by
 unfold f9.Ay at h;simp only[Bool.and_eq_true,decide_eq_true_eq,List.all_eq_true] at h;obtain⟨⟨⟨⟨h1,h2⟩,h3⟩,h4⟩,h5⟩:=h;have lQ:∀x,sc.names.lookup x=some .free->x∈frees sc:=λx hx=>by
  unfold frees;exact aN.mpr ⟨(x,.free),cJ.mpr ⟨aJ hx,by simp⟩,rfl⟩
 have fr:∀x∈frees sc,(∃i,c.idx x=some i)/\sc.names.lookup x=some .free/\(c.nm.lookup x=some .cell\/c.nm.lookup x=some .free):=λx hx=>by
  have:=h5 x hx;rw[dW,eh] at this;simp only[decide_eq_true_eq] at this;exact⟨this.1.1,this.1.2,this.2⟩
 have qi:∀y∈sc.names,y.2=.free->∃a,X.env.cells.lookup y.1=some a:=λy hy hf=>by
  have hm:y.1∈frees sc:=aN.mpr ⟨y,cJ.mpr ⟨hy,by simp[hf]⟩,rfl⟩;exact C.cells y.1 (fr y.1 hm).2.2
 obtain⟨cl,e,q1,q2,_⟩:=An sc.names [] qi (λx a h=>by simp at h);have h2:∀y∈sc.names,y.2=.cell->sc.names.lookup y.1=some .cell:=λy hy hl=>by
  have:=h2 y hy;rw[eh] at this;simp only[Bool.not_eq_true',decide_eq_false_iff_not,decide_eq_true_eq] at this;exact this.resolve_left λz=>z hl
 refine⟨cl,⟨h1,h2,λy hy hl=>?_,?_,q1,λx hx=>q2 (x,.free) (aJ hx) rfl,h4,λi j ja=>?_,?_⟩,λpins A s H fp=>?_⟩
 ·have:=h3 y hy;rw[eh] at this;simp only[Bool.not_eq_true',decide_eq_false_iff_not,decide_eq_true_eq] at this;exact this.resolve_left λz=>z hl
 ·simp only[closureFor];rw[e]
  rfl
 ·unfold f9.d4 at ja;rw[aD] at ja;cases ex:(frees sc)[i]? with
  |none=>rw[ex] at ja;cases ja
  |some x =>
   rw[ex] at ja;have hx:x∈frees sc:=aY ex;obtain⟨⟨k,hk⟩,hl,hc⟩:=fr x hx;have hj:k=j:=by
    have:=aH ja;dsimp only at this;rw[hk] at this;exact this
   subst hj;refine⟨x,?_,C.rz hk,hl,?_⟩
   ·rw[au (aq.mp ex).1];exact ex
   ·rcases hc with z|z
    ·exact .inl (C.vZ x z)
    ·exact C.zt x z
 ·unfold f9.d4;rw[ah,aG];omega
 ·refine⟨rfl,h4,λx hx=>lookup_relabel_local hx,λx hx=>?_,λx hx=>C4 hx,λx hx=>N6 hx,λx hx=>?_,λx _=>?_,rfl,C.units,(λ_=>PassesOwn.never),C.mono,C.con,C.blt,C.fns,C.cls,C.nU,C.mT,C.vW,UQ,(λz=>by cases z),(λz=>by cases z),C.exc,C.zx,C.uq,(λz=>by cases z)⟩
  ·exact K7 hx
  ·rcases hx with hx|hx
   ·exact EL (.inl hx)
   ·exact EL (.inr (q2 (x,.free) (aJ hx) rfl))
  ·exact aV ‹_›
theorem E2(h:V9 x=true):(x==("__debug__":Str))=false/\(x==("__classdict__":Str))=false/\x≠"__name__":=by
 unfold V9 at h;simp only[Bool.and_eq_true,decide_eq_true_eq,beq_iff_eq] at h;exact⟨h.1.1,h.1.2,h.2⟩
theorem TR{t:String}(h:Bv.lookup x=some t):bootBuiltins x=some (.type t):=by
 have hm:=aJ h;simp only[Bv,List.mem_cons,List.mem_nil_iff,or_false] at hm;rcases hm with z|z|z|z|z<;>(cases z;first|exact vx|exact PyProof.Rows.boot_bool|exact PyProof.Rows.boot_str|exact qx|exact eK|decide +kernel|rfl)
theorem TZ(hc:X.calm=true)(hu:X.A.units+100<cLine)(h:zT.lookup x=some p):∃v,((∃id,v=.builtin id)\/∃T,v=.type T)/\bootBuiltins x=some v/\j2 X v (rN X.K p):=by
 have hm:=aJ h;simp only[zT,List.mem_cons,List.mem_nil_iff,or_false] at hm;rcases hm with z|z|z|z|z|z|z|z|z|z|z|z
 ·cases z;exact⟨.builtin "len",.inl ⟨_,rfl⟩,PySem.boot_len,NS⟩
 ·cases z;exact⟨.type "list",.inr ⟨_,rfl⟩,by first|exact eK|decide +kernel,Qs hc⟩
 ·cases z;exact⟨.type "tuple",.inr ⟨_,rfl⟩,by first|exact qx|decide +kernel,TQ⟩
 ·cases z;exact⟨.builtin "isinstance",.inl ⟨_,rfl⟩,by first|exact PyProof.Rows.boot_isinstance|decide +kernel,Qj⟩
 ·cases z;exact⟨.builtin "all",.inl ⟨_,rfl⟩,by first|exact PyProof.Rows.boot_all|decide +kernel,Nt hc⟩
 ·cases z;exact⟨.builtin "max",.inl ⟨_,rfl⟩,by first|exact PyProof.Rows.boot_max|decide +kernel,NX hc⟩
 ·cases z;exact⟨.builtin "min",.inl ⟨_,rfl⟩,by first|exact PyProof.Rows.boot_min|decide +kernel,NY hc hu⟩
 ·cases z;exact⟨.type "int",.inr ⟨_,rfl⟩,by first|exact vx|decide +kernel,NH⟩
 ·cases z;exact⟨.builtin "any",.inl ⟨_,rfl⟩,by first|exact PyProof.Rows.boot_any|decide +kernel,Nu hc⟩
 ·cases z;exact⟨.builtin "sorted",.inl ⟨_,rfl⟩,by first|exact fY|decide +kernel,TJ hc⟩
 ·cases z;exact⟨.builtin "sum",.inl ⟨_,rfl⟩,by first|exact PyProof.Rows.boot_sum|decide +kernel,Pm hc⟩
 ·cases z;exact⟨.type "set",.inr ⟨_,rfl⟩,by first|exact ig|decide +kernel,Qo hc⟩
theorem VE(h:wV.lookup x=some p):∃T id,PlainAttrs T/\Slot T x id/\typeOf (.builtin id)=pure (.type "method_descriptor")/\nH X id (rM X.K p) /\
  ∀{d:D} {v:V} {g:G} {ρ:List Addr} {H:Hp},Rl X.K ρ g H->d7 X.K ρ H d v->mG p d g->ng X.K T v H:=by
 cases h
theorem UI(hu:X.A.units+100<cLine)(h:Ab.lookup x=some p):∃T id,PlainAttrs T/\Slot T x id/\typeOf (.builtin id)=pure (.type "method_descriptor")/\nH X id (rM X.K p) /\
  ∀{d:D} {v:V} {g:G} {ρ:List Addr} {H:Hp},Rl X.K ρ g H->d7 X.K ρ H d v->mG p d g->ng X.K T v H:=by
 have hm:=aJ h;simp only[Ab,List.mem_cons,List.mem_nil_iff,or_false] at hm;rcases hm with z|z|z
 ·cases z;exact⟨_,_,qv,PySem.F.slot_list_append,PySem.F.type_list_append,TX,λR r h=>ty_list R r h⟩
 ·cases z;exact⟨_,_,qv,PySem.F.slot_list_pop,PySem.F.type_list_pop,Tf,λR r h=>ty_list R r h⟩
 ·cases z;exact⟨_,_,PySem.F.plainAttrs_dict,ie,PySem.F.type_dict_get,ND hu,λR r h=>ty_dict R r h⟩
theorem Ew{pos:Pos}{env:Env}:∀{es:List Expr},(∀e∈es,fy e=true)->(backTo pos (starEach es env)).all (λx=>!x.1)=true
 |[],_=>rfl
 |e::es,h=>by
  rw[l0 (h e (by simp))];have ih:=Ew (pos:=pos) (env:=env) (es:=es) λx hx=>h x (by simp[hx]);unfold backTo at ih ⊢;rw[aW,List.all_cons,ih]
  rfl
theorem V0{pos:Pos}{env:Env}:∀{es:List Expr},(∀e∈es,fy e=true)->(backTo pos (starEach es env)).any (·.1)=false
 |[],_=>rfl
 |e::es,h=>by
  rw[l0 (h e (by simp))];have ih:=V0 (pos:=pos) (env:=env) (es:=es) λx hx=>h x (by simp[hx]);unfold backTo at ih ⊢;rw[aW,fZ,ih]
  rfl
theorem AB:∀{es:List Expr} {m:ME},E7 r c es=some m->∀e∈es,fy e=true:=by
 intro es
 induction es with
 |nil=>intro m _ e he;exact absurd he (by simp)
 |cons a es ih =>
  intro m h e he;unfold E7 at h;split at h
  ·obtain⟨m1,h1,h⟩:=af.mp h;obtain⟨m2,h2,_⟩:=ae.mp h;rcases aA.mp he with z|z
   ·rw[z];assumption
   ·exact ih h2 e z
  ·cases h
structure oK(P:eM)(r:CF):Prop where
 e:∀X c Ξ,gs X c P Ξ->∀e m,r.e c e=some m->PE X e (LE X.K Ξ (aX P m))
 t:∀X c Ξ,gs X c P Ξ->∀e m,r.t c e=some m->PT X e (LT X.K Ξ (de P m))
 s:∀X c Ξ,gs X c P Ξ->∀st m,r.s c st=some m->PS X st (LS X.K Ξ (wpS P m))
section
variable(S:oK P r)(C:gs X c P Ξ)
include S C
theorem U3(h:c1 r c p a=some m):∃ma,PE X a (LE X.K Ξ (aX P ma))/\m=.prim p (.cons ma .nil):=by
 obtain⟨ma,ha,rfl⟩:=ae.mp h;exact⟨ma,S.e X c Ξ C _ _ ha,rfl⟩
theorem U2(h:c2 r c p a b=some m):∃ma mb,PE X a (LE X.K Ξ (aX P ma))/\PE X b (LE X.K Ξ (aX P mb))/\m=.prim p (.cons ma (.cons mb .nil)):=by
 obtain⟨ma,ha,h⟩:=af.mp h;obtain⟨mb,hb,rfl⟩:=ae.mp h;exact⟨ma,mb,S.e X c Ξ C _ _ ha,S.e X c Ξ C _ _ hb,rfl⟩
theorem qI:∀{es:List Expr} {m:ME},E7 r c es=some m->PA X es (LA X.K Ξ (fo P m)):=by
 intro es
 induction es with
 |nil=>intro m h;cases h;exact J7 C.mono
 |cons a es ih =>
  intro m h;unfold E7 at h;split at h
  ·rename_i bC;obtain⟨m1,h1,h⟩:=af.mp h;obtain⟨m2,h2,rfl⟩:=ae.mp h;exact A4 C.mono (S.e X c Ξ C _ _ h1) (ih h2) (l0 bC)
  ·cases h
theorem Jm:∀{ks:List (Option Expr)} {vs:List Expr} {m:ME},uT r c ks vs=some m->∃gR,kY X Ξ P ks vs m gR:=by
 intro ks
 induction ks with
 |nil=>intro vs m h;cases vs<;>first|(cases h;exact⟨_,.nil⟩)|cases h
 |cons k ks ih =>
  intro vs m h;cases k<;>first|(cases h;done)|skip
  cases vs<;>first|(cases h;done)|skip
  unfold uT at h;obtain⟨m1,h1,h⟩:=af.mp h;obtain⟨m2,h2,h⟩:=af.mp h;obtain⟨m3,h3,rfl⟩:=ae.mp h;obtain⟨gR,D⟩:=ih h3;exact⟨_,.cons (S.e X c Ξ C _ _ h1) (S.e X c Ξ C _ _ h2) D⟩
theorem Jn{op:BoolOp}:∀{vs:List Expr} {m:ME},we r c op vs=some m->PE X (.BoolOp op vs pos) (LE X.K Ξ (aX P m)):=by
 intro vs
 induction vs with
 |nil=>intro m h;cases h
 |cons a vs ih =>
  intro m h;cases vs with
  |nil=>exact Ox (S.e X c Ξ C _ _ h)
  |cons b vs =>
   unfold we at h;obtain⟨m1,h1,h⟩:=af.mp h;obtain⟨m2,h2,rfl⟩:=ae.mp h;cases op
   ·exact OR C.mono (S.e X c Ξ C _ _ h1) (ih h2)
   ·exact MW C.mono (S.e X c Ξ C _ _ h1) (ih h2)
theorem Ji{op:BoolOp}:∀{vs:List Expr} {m:ME},wg r c op vs=some m->PW X (.BoolOp op vs pos) (LT X.K Ξ (de P m)):=by
 intro vs
 induction vs with
 |nil=>intro m h;cases h
 |cons a vs ih =>
  intro m h;cases vs with
  |nil =>
   cases op
   ·exact Wy (S.t X c Ξ C _ _ h)
   ·exact OM (S.t X c Ξ C _ _ h)
  |cons b vs =>
   unfold wg at h;obtain⟨m1,h1,h⟩:=af.mp h;obtain⟨m2,h2,rfl⟩:=ae.mp h;cases op
   ·exact Pn C.mono (S.t X c Ξ C _ _ h1) (ih h2)
   ·exact MZ C.mono (S.t X c Ξ C _ _ h1) (ih h2)
theorem Ri(h:FO r c es=some m):kC X es (LT X.K Ξ (de P m)):=by
 rcases es with _|⟨e,_|⟨_,_⟩⟩
 ·cases h;exact WT C.mono
 ·exact Wx (S.t X c Ξ C _ _ h)
 ·cases h
theorem rB:∀{Cg:List Stmt} {m:MS},u3 r c Cg=some m->iN X Cg (LS X.K Ξ (wpS P m)):=by
 intro es
 induction es with
 |nil=>intro m h;cases h;exact Gg C.mono
 |cons a es ih =>
  intro m h;unfold u3 at h;obtain⟨m1,h1,h⟩:=af.mp h;obtain⟨m2,h2,rfl⟩:=ae.mp h;exact GZ C.mono (S.s X c Ξ C _ _ h1) (ih h2)
end
theorem FD{t:Expr}(h:v9 e=true):swapsWithSole [t] e n env=pure false:=by
 show swapsWith e (some t) n env=pure false;exact AV h
theorem VI{y:Str}{py pt nS:Pos}{kt k2:Nat}(hk:env.scope.kind=.function)(hx:env.kindOf x=some .local)(hy:env.kindOf y=some .local)(dO:x≠y)(hl:py.line=px.line)(ha:fy a=true)(hb:fy b=true)(h1:[a,b].all (foldedForSure 8)=false)(h2:[a,b].all (constantsAlone 8)=false):swappedStores [.Tuple [.Name x px,.Name y py] kt pt] (.Tuple [a,b] k2 nS) env=pure (some [x,y]):=by
 have JU:env.blockKind=.function:=by simp[Env.blockKind,hk,ScopeKind.isAnnotationScope]
 have hd:[x,y].eraseDups.length=2:=by
  have:(y==x)=false:=by simpa using bB dO
  simp[List.eraseDups_cons,this]
 have nW:(env.kindOf x==some NameKind.local&&px.line==px.line)=true:=by simp[hx]
 have yp:(env.kindOf y==some NameKind.local&&py.line==px.line)=true:=by simp[hy,hl]
 have hp:Expr.pos (.Name x px)=px:=rfl;unfold swappedStores;simp only[List.length_cons,List.length_nil,JU,List.head?_cons,Option.map_some,Option.getD_some,hp,List.filterMap_cons,List.filterMap_nil,nW,yp,if_true,hd,h1,h2];rw[aB (by decide),aB ?_]
 ·rfl
 ·simp only[List.any_cons,List.any_nil,Bool.or_false,Bool.or_eq_true,not_or];constructor
  ·cases a<;>first|(intro h;cases h;done)|cases ha
  ·cases b<;>first|(intro h;cases h;done)|cases hb
theorem Pp(hP:j5 P){j:Nat}{y:Str}{py pt nS:Pos}{kt k2:Nat}{gy:ME}(hc:X.calm=true)(hN:X.N.Nodup)(hi:X.N[i]?=some x)(hj:X.N[j]?=some y)(dO:x≠y)(hl:py.line=px.line)(hx:X.env.scope.names.lookup x=some .local)(hy:X.env.scope.names.lookup y=some .local)(oa:fy a=true)(ob:fy b=true)(h1:[a,b].all (foldedForSure 8)=false)(h2:[a,b].all (constantsAlone 8)=false)(ha:PA X [a,b] (LA X.K Ξ (fo P gy))):PS X (.Assign [.Tuple [.Name x px,.Name y py] kt pt] (.Tuple [a,b] k2 nS) pos) (LS X.K Ξ (wpS P (.mz (.many [i,j]) (.prim .tup gy)))):=by
 intro pins s bR H D I h;have ja:i≠j:=by
  rintro rfl;rw[hi] at hj;cases hj;exact dO rfl
 refine OG hc hN hi hj ja hx hy ha (VI I.ok.kind hx hy dO hl oa ob h1 h2) rfl pins s bR H D I ?_;obtain⟨Z,g,ρ,sr,R,h⟩:=h;refine jS hP sr R (.refl _ _) (show fo P gy Z g (λxs g1=>cG .tup xs g1 _) _ from h) λds g1 bP H1 vs e1 R1 r1 h=>?_;obtain⟨d',g',⟨_,rfl,rfl⟩,l,bI,ex,hs,h⟩:=h;cases ex;have hl:=V5 hs;have e2:∃d1 d2,ds=[d1,d2]:=by
  rcases ds with _|⟨d1,_|⟨d2,_|⟨d3,r⟩⟩⟩<;>first|exact⟨_,_,rfl⟩|(simp at hl;done)|(simp at hl;omega)
 obtain⟨d1,d2,rfl⟩:=e2;obtain⟨v,w,rfl,q1,q2⟩:=r1.two;cases hs;exact⟨_,_,rfl,h bP H1 _ e1 R1 (((sr.ext e1).set i q1).set j q2)⟩
theorem gs.U8(C:gs X c P Ξ)(dg:X.stack=X.env::X.outer)(hf:X.env.frame=some X.env.locals)(pins:List (Addr×Obj))(D:L2.Ends)(hs:List ExceptHandler) :
  gs (Q1 X pins (rL X pins D hs)) { c with jf:=false,iR:=false } P (xj X Ξ.1 D hs) :=
 ⟨C.N,C.nd,C.loc,C.vZ,C.zt,C.Dq,C.cells,C.mf,C.calm,C.units,(λ_=>PassesOwn.looking),C.mono,C.con,C.blt,C.fns,C.cls,C.nU,C.mT,C.vW,SV dg hf λC H' ⟨C',e,z⟩=>(by cases e;exact z),(λz=>by cases z),(λz=>by cases z),C.exc,C.zx,C.uq,C.code⟩
section
variable(S:oK P r)(C:gs X c P Ξ){d:Expr}
include C
theorem NZ(h:By c x=some m):PE X (.Name x pos) (LE X.K Ξ (aX P m)):=by
 unfold By at h;split at h
 ·rename_i gh;obtain⟨d1,d2,d3⟩:=E2 gh;split at h
  ·rename_i hv;obtain⟨i,hi,rfl⟩:=ae.mp h;exact OZ (C.rz hi) (C.Np hv) d1 d2
  ·split at h
   ·rename_i hg;rcases orElse_some h with h|h
    ·obtain⟨d,hd,rfl⟩:=ae.mp h;obtain⟨v,u,hm,r,rr⟩:=C.con x d hd;exact T3 (wX (C.v5 hg) hm r d1) rr
    ·split at h
     ·rename_i hb;obtain⟨t,ht,rfl⟩:=ae.mp h;exact T3 (v:=.ty t) (Wj (C.v5 hg) (C.blt x hb) (TR ht) rfl d3 d1) λ_ _=>.ty t
     ·cases h
   ·cases h
 ·cases h
omit C in
theorem xY{k:Const}{j:Nat}{d:D}(h:X7 k=some d):PE X (.Constant k j pos) (LE X.K Ξ (aX P (.lit d))):=by
 cases k<;>first|(cases h;done)|skip
 ·cases h;exact T3 Ov λ_ _=>.bL
 ·cases h;exact T3 MH λ_ _=>.bl _
 ·cases h;exact T3 Ot λ_ _=>.int _
 ·cases h;exact T3 Oy λ_ _=>.str _
include S
theorem Rj{op:UnaryOp}(h:xF r c op a=some m):PE X (.UnaryOp op a pos) (LE X.K Ξ (aX P m)):=by
 unfold xF at h;split at h
 ·rename_i ho;subst ho;obtain⟨ma,ha,rfl⟩:=ae.mp h;exact OX C.mono (S.e X c Ξ C _ _ ha)
 ·obtain⟨ma,ha,rfl⟩:=U3 S C h;exact MX C.mono ha
theorem HJ{ops:List CmpOp}{bs:List Expr}(h:uQ r c a ops bs=some m):PE X (.Compare a ops bs pos) (LE X.K Ξ (aX P m))/\PT X (.Compare a ops bs pos) (LT X.K Ξ (de P (.fE m))):=by
 unfold uQ at h;split at h
 ·rename_i op b;split at h
  ·cases h
  ·rename_i hm;have hm:behindInMarks op b=false:=by simpa using hm
   rcases orElse_some h with h|h
   ·obtain⟨neg,hn,h⟩:=af.mp h;obtain⟨kvs,hk,h⟩:=af.mp h;obtain⟨ma,ha,rfl⟩:=ae.mp h;obtain⟨x,p,rfl,hg,hd,hk⟩:=Ek hk;have ho:op=if neg then .NotIn else .In:=by cases op<;>cases hn<;>rfl
    subst ho;exact⟨OV C.mono (C.v5 hg) (E2 hd).1 (C.uq x kvs hk) (S.e X c Ξ C _ _ ha) hm,Ph C.mono (C.v5 hg) (E2 hd).1 (C.uq x kvs hk) (S.e X c Ξ C _ _ ha) hm⟩
   ·obtain⟨ma,mb,ha,hb,rfl⟩:=U2 S C h;exact⟨Ac C.mono (GN (T6 C.units op) ha hb hm),Pk C.mono (GR (T6 C.units op) ha hb hm)⟩
 ·split at h
  ·cases h
  ·rename_i hm;obtain⟨ma,ha,h⟩:=af.mp h;obtain⟨mb,hb,h⟩:=af.mp h;obtain⟨md,hd,rfl⟩:=ae.mp h;exact⟨Ts C.mono C.units (S.e X c Ξ C _ _ ha) (S.e X c Ξ C _ _ hb) (S.e X c Ξ C _ _ hd) (by simpa using hm),TK C.mono C.units (S.e X c Ξ C _ _ ha) (S.e X c Ξ C _ _ hb) (S.e X c Ξ C _ _ hd) (by simpa using hm)⟩
 ·cases h
theorem Rg{lo hi st:Option Expr}{p2:Pos}(h:BZ r c a lo hi st=some m):PE X (.Subscript a (.Slice lo hi st p2) pos) (LE X.K Ξ (aX P m)):=by
 cases lo<;>cases hi<;>cases st<;>first|(cases h;done)|skip
 ·obtain⟨ma,ha,rfl⟩:=U3 S C h;exact Tz C.mono ha
 ·obtain⟨ma,mb,ha,hb,rfl⟩:=U2 S C h;exact TB C.mono ha hb
 ·obtain⟨ma,mb,ha,hb,rfl⟩:=U2 S C h;exact TC C.mono ha hb
theorem Mx(h:Bd r c a b=some m):PE X (.Subscript a b pos) (LE X.K Ξ (aX P m)):=by
 unfold Bd at h;rcases orElse_some h with h|h
 ·obtain⟨q,hq,h⟩:=af.mp h;have eb:∃p,b=.Slice q.1 q.2.1 q.2.2 p:=by cases b<;>first|(cases hq;exact⟨_,rfl⟩)|cases hq
  obtain⟨p,rfl⟩:=eb;exact Rg S C h
 ·split at h
  ·rename_i hb;rcases orElse_some h with h|h
   ·obtain⟨kvs,hk,h⟩:=af.mp h;obtain⟨mb,jV,rfl⟩:=ae.mp h;obtain⟨x,p,rfl,hg,hd,hk⟩:=Ek hk;exact WD C.mono (C.v5 hg) (E2 hd).1 (C.uq x kvs hk) (S.e X c Ξ C _ _ jV) (FZ hb)
   ·obtain⟨ma,mb,ha,jV,rfl⟩:=U2 S C h;exact Ac C.mono (HK (Mj C.units) ha jV (FZ hb))
  ·cases h
theorem Rh(hg:c.gl x=true)(h:xG r c x e=some m):PE X (.Call (.Name x px) [e] [] pos) (LE X.K Ξ (aX P m)):=by
 unfold xG at h;obtain⟨q,hq,h'⟩:=af.mp h;clear h;have h:=h';clear h';obtain⟨p,pos',rfl⟩:=T1 hq;obtain⟨y,as⟩:=q;dsimp only at h ⊢;split at h
 ·rename_i hc;simp only[Bool.and_eq_true,decide_eq_true_eq] at hc;obtain⟨⟨⟨⟨rfl,rfl⟩,hl⟩,hr⟩,qS⟩:=hc;rcases as with _|⟨a,_|⟨b,_|⟨_,_⟩⟩⟩
  ·cases h
  ·dsimp only at h;split at h
   ·rename_i ho;obtain⟨ma,ha,rfl⟩:=U3 S C h;exact Tt C.mono C.calm ha (C.v5 hg) (C.blt _ hl) (C.v5 qS) (C.blt _ hr) (l0 ho)
   ·cases h
  ·dsimp only at h;split at h
   ·rename_i ho;rw[bx] at ho;obtain⟨ma,mb,ha,hb,rfl⟩:=U2 S C h;exact Tu C.mono C.calm ha hb (C.v5 hg) (C.blt _ hl) (C.v5 qS) (C.blt _ hr) (by rw[l0 ho.1,l0 ho.2];rfl) (l0 ho.2)
   ·cases h
  ·cases h
 ·split at h
  ·rename_i hc;simp only[Bool.and_eq_true,decide_eq_true_eq] at hc;obtain⟨⟨⟨⟨rfl,rfl⟩,hl⟩,hr⟩,qS⟩:=hc;rcases as with _|⟨a,_|⟨_,_⟩⟩
   ·cases h
   ·dsimp only at h;split at h
    ·rename_i ho;obtain⟨ma,ha,rfl⟩:=U3 S C h;exact WI C.mono C.calm ha (C.v5 hg) (C.blt _ hl) (C.v5 qS) (C.blt _ hr) (l0 ho)
    ·cases h
   ·cases h
  ·split at h
   ·rename_i hc;simp only[Bool.and_eq_true,decide_eq_true_eq] at hc;obtain⟨⟨⟨⟨rfl,rfl⟩,hl⟩,hr⟩,qS⟩:=hc;rcases as with _|⟨a,_|⟨_,_⟩⟩
    ·cases h
    ·dsimp only at h;split at h
     ·rename_i ho;obtain⟨ma,ha,rfl⟩:=U3 S C h;exact WE C.mono C.calm ha (C.v5 hg) (C.blt _ hl) (C.v5 qS) (C.blt _ hr) (l0 ho)
     ·cases h
    ·cases h
   ·cases h
theorem Qx(h:Gu r c x args=some m):PE X (.Call (.Name x px) args [] pos) (LE X.K Ξ (aX P m)):=by
 cases args with
 |nil =>
  have h2:Ag c x=some m:=h;unfold Ag at h2;split at h2
  ·rename_i gh;rw[bx] at gh;rcases orElse_some h2 with h2|h2
   ·obtain⟨f,hf,rfl⟩:=ae.mp h2;obtain⟨k,fa,fd,ps,F,hr,hm,hk⟩:=C.fns x f hf;exact Tr C.mono C.pass F hr (C.v5 gh.2) hm hk (E2 gh.1).1
   obtain⟨f,hf,rfl⟩:=ae.mp h2;obtain⟨k,C',fa,fd,ps,F,hr,hm,hC,kx,M⟩:=C.cls x f hf;exact Tv C.mono C.pass F M hC kx hr (C.v5 gh.2) hm (E2 gh.1).1
  ·cases h2
 |cons e es =>
  have h0:Ah r c x e es=some m:=h;clear h;have h:=h0;clear h0;unfold Ah at h;split at h
  ·rename_i gh;rw[bx] at gh;obtain⟨d1,d2,d3⟩:=E2 gh.1;rcases orElse_some h with h|h
   ·cases es with
    |nil=>exact Rh S C gh.2 h
    |cons _ _=>cases h
   ·obtain⟨ms,og,h⟩:=af.mp h;have ok:=AB og;have pa:=qI S C og;have dg:=l0 (env:=X.env) (es:=es) (ok e (by simp));have gM:=V0 (pos:=pos) (env:=X.env) (es:=es) λz hz=>ok z (by simp[hz]);rcases orElse_some h with h|h
    ·obtain⟨f,hf,rfl⟩:=ae.mp h;obtain⟨k,fa,fd,ps,F,hr,hm,hk⟩:=C.fns x f hf;exact WA C.mono C.pass F hr (C.v5 gh.2) hm hk pa d1 dg gM
    ·rcases orElse_some h with h|h
     ·obtain⟨f,hf,rfl⟩:=ae.mp h;obtain⟨k,C',fa,fd,ps,F,hr,hm,hC,kx,M⟩:=C.cls x f hf;exact WG C.mono C.pass F M hC kx hr (C.v5 gh.2) hm pa d1 dg gM
     ·split at h
      ·rename_i hb;obtain⟨p,hp,rfl⟩:=ae.mp h;obtain⟨v,hv,yS,hc⟩:=TZ (X:=X) C.calm C.units hp;exact OS C.mono hv hc (C.v5 gh.2) (C.blt x hb) yS pa d3 d1 dg gM
      ·cases h
  ·cases h
theorem Qw{mt:Str}{apos:Pos}(h:Ai r c o mt apos pos args=some m):PE X (.Call (.Attribute o mt apos) args [] pos) (LE X.K Ξ (aX P m)):=by
 unfold Ai at h;split at h
 ·rename_i hc;simp only[Bool.and_eq_true,decide_eq_true_eq] at hc;obtain⟨⟨hb,hl⟩,hn⟩:=hc;obtain⟨mo,ho,h⟩:=af.mp h;obtain⟨ms,og,h⟩:=af.mp h;have ok:=AB og;have pa:=qI S C og;have po:=S.e X c Ξ C _ _ ho;have hf:methodCallForm args.length (backTo pos (starEach args X.env)) (backToKw pos (keywordEach [] X.env))=true:=by
   unfold methodCallForm;rw[Ew ok];have:args.length+0<30:=by omega
   show(true&&true&&decide (args.length+0<30))=true;rw[aV this]
   rfl
  by_cases tQ:mt="index"
  ·subst tQ;rw[aE rfl] at h;cases h
  rw[aB tQ] at h;cases args with
  |nil =>
   cases og;by_cases h0:(wV.lookup mt).isSome=true
   ·rw[aE (by rw[h0];rfl)] at h;obtain⟨p,hp,rfl⟩:=ae.mp h;obtain⟨T,id,xT,sl,ty,xZ,hk⟩:=VE (X:=X) hp;exact Tw C.mono xT sl ty xZ hk po (O6 hb) hl
   rw[aB (by rw[bx];exact λz=>h0 z.2)] at h;split at h
   ·cases h
   ·cases h
  |cons e es =>
   have dg:=l0 (env:=X.env) (es:=es) (ok e (by simp));have gM:=V0 (pos:=pos) (env:=X.env) (es:=es) λz hz=>ok z (by simp[hz]);rw[aB (by simp)] at h;split at h
   ·rename_i p hp;cases h;obtain⟨T,id,xT,sl,ty,xZ,hk⟩:=UI (X:=X) C.units hp;exact WH C.mono xT sl ty xZ hk po pa (O6 hb) hf hl dg gM
   ·cases h
 ·cases h
theorem Cz{tg:Expr}(h:uV r c tg e=some m):PI X tg e (LI X.K Ξ (iJ P m)):=by
 unfold uV at h;rcases orElse_some h with h|h
 ·obtain⟨q,hq,h'⟩:=af.mp h;rename_i h0;clear h h0;have h:=h';clear h';obtain⟨p,pos',rfl⟩:=T1 hq;obtain⟨y,as⟩:=q;dsimp only at h ⊢;split at h
  ·rename_i hy;subst hy;rcases as with _|⟨a,_|⟨_,_⟩⟩
   ·cases h
   ·dsimp only at h;split at h
    ·rename_i hc;simp only[Bool.and_eq_true] at hc;obtain⟨⟨⟨hg,hb⟩,ho⟩,ht⟩:=hc;obtain⟨ma,ha,rfl⟩:=ae.mp h;obtain⟨es,k,tp,rfl⟩:=TY ht;exact WM C.mono (S.e X c Ξ C _ _ ha) (C.v5 hg) (C.blt _ hb) (l0 ho)
    ·cases h
   ·cases h
  ·split at h
   ·rename_i hy;subst hy;rcases as with _|⟨a,_|⟨b,_|⟨_,_⟩⟩⟩
    ·cases h
    ·dsimp only at h;split at h
     ·rename_i hc;simp only[Bool.and_eq_true] at hc;obtain⟨⟨hg,hb⟩,ho⟩:=hc;obtain⟨ma,ha,rfl⟩:=ae.mp h;exact WN C.mono (S.e X c Ξ C _ _ ha) (C.v5 hg) (C.blt _ hb) (l0 ho)
     ·cases h
    ·dsimp only at h;split at h
     ·rename_i hc;simp only[Bool.and_eq_true] at hc;obtain⟨⟨⟨hg,hb⟩,ho⟩,mM⟩:=hc;obtain⟨ma,ha,h⟩:=af.mp h;obtain⟨mb,jV,rfl⟩:=ae.mp h;exact WO C.mono (S.e X c Ξ C _ _ ha) (S.e X c Ξ C _ _ jV) (C.v5 hg) (C.blt _ hb) (by rw[l0 ho,l0 mM];rfl) (l0 mM)
     ·cases h
    ·cases h
   ·cases h
 ·split at h
  ·obtain⟨ma,ha,rfl⟩:=ae.mp h;exact Pc C.mono (S.e X c Ξ C _ _ ha)
  ·cases h
theorem Ax{elt:Expr}{gens:List Comprehension}{sc:Scope}(h:U5 r c elt gens sc=some m):∃tg it ifs t mi mc me cl,gens=[⟨tg,it,ifs,0⟩]/\m=.comp (c.d4 sc) (frees sc++locals sc).length t mi mc me/\fy it=true /\
  dc X sc (frees sc++locals sc) (c.d4 sc) cl/\PI X tg it (LI X.K Ξ (iJ P mi))/\(∀pins A s H fp,PG (d6 X pins sc (frees sc++locals sc) cl A s H fp) tg (LG X.K t)) /\
   (∀pins A s H fp,kC (d6 X pins sc (frees sc++locals sc) cl A s H fp) ifs (LT X.K (mU Ξ.1) (de P mc)))/\(∀pins A s H fp,PE (d6 X pins sc (frees sc++locals sc) cl A s H fp) elt (LE X.K (mU Ξ.1) (aX P me))):=by
 unfold U5 at h;rcases gens with _|⟨⟨tg,it,ifs,CI⟩,_|⟨_,_⟩⟩
 ·cases h
 ·dsimp only at h;split at h
  ·rename_i hs;simp only[Bool.and_eq_true,decide_eq_true_eq] at hs;obtain⟨⟨hs,rfl⟩,hit⟩:=hs;obtain⟨t,h1,h⟩:=af.mp h;obtain⟨mi,h2,h⟩:=af.mp h;obtain⟨mc,h3,h⟩:=af.mp h;obtain⟨me,h4,rfl⟩:=ae.mp h;obtain⟨cl,Sc,I⟩:=C.comp hs;exact⟨tg,it,ifs,t,mi,mc,me,cl,rfl,rfl,hit,Sc,Cz S C h2,λpins A s H fp=>(I pins A s H fp).Ea h1,λpins A s H fp=>Ri S (I pins A s H fp) h3,λpins A s H fp=>S.e _ _ _ (I pins A s H fp) elt me h4⟩
  ·cases h
 ·cases h
omit S in
theorem Rf{f:Expr}{iS:List Keyword}(h:vz c f args iS=some m):PE X (.Call f args iS pos) (LE X.K Ξ (aX P m)):=by
 unfold vz at h;cases h
theorem Jl:∀e m,HQ r c e=some m->PE X e (LE X.K Ξ (aX P m)):=by
 intro e m h;cases e with
 |Name x p=>exact NZ C h
 |Constant k j p =>
  obtain⟨d,hd,rfl⟩:=ae.mp (show(X7 k).map ME.lit=some m from h);exact xY hd
 |BinOp a op b p =>
  obtain⟨ma,mb,ha,hb,rfl⟩:=U2 S C h;exact Ac C.mono (MJ (Oc op) ha hb)
 |UnaryOp op a p=>exact Rj S C h
 |Compare a ops bs p=>exact(HJ S C h).1
 |BoolOp op vs p=>exact Jn S C h
 |IfExp t a b p =>
  obtain⟨mt,ht,h⟩:=af.mp h;obtain⟨ma,ha,h⟩:=af.mp h;obtain⟨mb,hb,rfl⟩:=ae.mp h;exact OW C.mono (S.t X c Ξ C _ _ ht) (S.e X c Ξ C _ _ ha) (S.e X c Ξ C _ _ hb)
 |Tuple es k p =>
  obtain⟨ma,ha,rfl⟩:=ae.mp h;exact OY C.mono (qI S C ha)
 |List es p =>
  obtain⟨ma,ha,rfl⟩:=ae.mp h;exact Gf C.mono (qI S C ha)
 |Subscript a b p=>exact Mx S C h
 |Dict ks vs p =>
  have h2:(if ks.isEmpty&&vs.isEmpty then some (ME.prim .S6 .nil) else if decide (ks.length<=15) then(uT r c ks vs).map .mj else none)=some m:=h;split at h2
  ·rename_i hc;cases ks<;>cases vs<;>first|(cases hc;done)|skip
   cases h2;exact WC
  ·rename_i hc;split at h2
   ·rename_i hl;obtain⟨ms,hm,rfl⟩:=ae.mp h2;obtain⟨gR,D⟩:=Jm S C hm;refine OT C.mono D (λz=>hc ?_) (bS hl);have:=D.len.2;subst z;cases vs<;>first|rfl|cases this
   ·cases h2
 |Attribute o f p =>
  have h2:(if wG o then c1 r c (.fld f) o else none)=some m:=h;split at h2
  ·rename_i hb;obtain⟨ma,ha,rfl⟩:=U3 S C h2;exact OU C.mono ha (O6 hb)
  ·cases h2
 |Call f args iS pos =>
  have h1:((xH r c f args iS).orElse λ_=>(vz c f args iS).orElse λ_=>Bx r c f args iS pos)=some m:=h;rcases orElse_some h1 with h2|h2
  ·unfold xH at h2;rcases args with _|⟨a,_|⟨_,_⟩⟩
   ·cases h2
   ·dsimp only at h2;split at h2
    ·rename_i hk;simp only[Bool.and_eq_true,decide_eq_true_eq] at hk;obtain⟨⟨⟨hk,hf⟩,lP⟩,hb⟩:=hk;cases iS<;>first|(cases hk;done)|skip
     obtain⟨q,hq,h3⟩:=af.mp h2;obtain⟨m1,h4,h5⟩:=af.mp h3;cases f<;>first|(cases hf;done)|skip
     cases a<;>first|(cases hq;done)|skip
     cases hf;cases hq;obtain⟨tg,it,ifs,t,mi,mc,me,cl,eg,rfl,hit,Sc,q1,q2,q3,q4⟩:=Ax S C h4;dsimp only at eg;subst eg;cases h5;exact Tx C.mono Sc C.calm q1 q2 q3 q4 (V7 hit) (C.v5 lP) (C.blt _ hb)
    ·cases h2
   ·cases h2
  clear h h1;rcases orElse_some h2 with h3|h3
  ·exact Rf C h3
  clear h2;unfold Bx at h3;split at h3
  ·rename_i hk;cases iS<;>first|(cases hk;done)|skip
   cases f with
   |Name x p=>exact Qx S C h3
   |Attribute o a p=>exact Qw S C h3
   |_=>cases h3
  ·cases h3
 |ListComp elt gens sc p =>
  obtain⟨tg,it,ifs,t,mi,mc,me,cl,rfl,rfl,hit,Sc,q1,q2,q3,q4⟩:=Ax S C h;exact(GO Sc C.calm q1 q2 q3 q4 (V7 hit)).imp λZ H Q h=>Eh C.mono Z H Q h
 |_=>cases h
theorem Jj:∀e m,stepT r c e=some m->PT X e (LT X.K Ξ (de P m)):=by
 intro e m h;have plain:∀{e:Expr} {m:ME},(if AW e then(r.e c e).map ME.fE else none)=some m->PT X e (LT X.K Ξ (de P m)):=λ{e m} h=>by
  split at h
  ·rename_i hp;obtain⟨ma,ha,rfl⟩:=ae.mp h;exact Pl C.mono (S.e X c Ξ C _ _ ha) (UY hp)
  ·cases h
 cases e with
 |UnaryOp op a p =>
  have h2:(if op=.Not then(r.t c a).map ME.et else none)=some m:=h;split at h2
  ·rename_i ho;subst ho;obtain⟨ma,ha,rfl⟩:=ae.mp h2;exact Pj C.mono (S.t X c Ξ C _ _ ha)
  ·cases h2
 |BoolOp op vs p=>exact(Ji S C h).pt
 |Compare a ops bs p =>
  obtain⟨ma,ha,rfl⟩:=ae.mp (show(uQ r c a ops bs).map ME.fE=some m from h);exact(HJ S C ha).2
 |_=>exact plain h
end
section
theorem Ef(h:Hz e=some m):PE X e (LE X.K Ξ (aX P m))/\fy e=true:=by
 cases e<;>first|(cases h;done)|skip
 obtain⟨d,hd,rfl⟩:=ae.mp (show(X7 _).map ME.lit=some m from h);exact⟨xY hd,rfl⟩
theorem Ul(hP:j5 P):∀{es:List Expr} {m:ME},wB es=some m->PA X es (LA X.K Ξ (fo P m)):=by
 intro es
 induction es with
 |nil=>intro m h;cases h;exact J7 hP
 |cons e es ih =>
  intro m h;unfold wB at h;obtain⟨m1,h1,h⟩:=af.mp h;obtain⟨m2,h2,rfl⟩:=ae.mp h;exact A4 hP (Ef h1).1 (ih h2) (l0 (Ef (X:=X) (Ξ:=Ξ) (P:=P) h1).2)
theorem SE(hP:j5 P)(h:Hy e=some m):PE X e (LE X.K Ξ (aX P m)):=by
 cases e<;>first|(cases h;done)|skip
 ·obtain⟨d,hd,rfl⟩:=ae.mp (show(X7 _).map ME.lit=some m from h);exact xY hd
 ·obtain⟨ms,hm,rfl⟩:=ae.mp h;exact Gf hP (Ul hP hm)
theorem Vq{h:ExceptHandler}{q:Str×Expr}(hq:zR h=some q):∃p p1 p2,h=.ExceptHandler (some (.Name q.1 p)) none [.Return (some q.2) p1] p2:=by
 obtain⟨t,n,b,p0⟩:=h;unfold zR at hq;cases n with
 |some _=>cases hq
 |none =>
  obtain⟨t,rfl,hq⟩:=af.mp (show t.bind _=some q from hq);obtain⟨y,hy,hq⟩:=af.mp hq;obtain⟨e,he,rfl⟩:=ae.mp hq;obtain⟨p,rfl⟩:=X9 hy;rcases b with _|⟨s,_|⟨_,_⟩⟩
  ·cases he
  ·cases s<;>first|(cases he;done)|(cases he;exact⟨_,_,_,rfl⟩)
  ·cases he
theorem SD(C:gs X c P Ξ)(yJ:uZ X Ξ.2):∀{hs:List ExceptHandler} {ms:List (Str×ME)},uU c hs=some ms->kO X Ξ P hs ms:=by
 intro hs
 induction hs with
 |nil=>intro ms h;cases h;exact .nil yJ
 |cons hd hs ih =>
  intro ms h;unfold uU at h;obtain⟨q,hq,h'⟩:=af.mp h;clear h;have h:=h';clear h';obtain⟨p,p1,p2,rfl⟩:=Vq hq;obtain⟨y,e⟩:=q;dsimp only at h ⊢;split at h
  ·rename_i hc;simp only[Bool.and_eq_true] at hc;obtain⟨m,h1,h⟩:=af.mp h;obtain⟨Xx,h2,rfl⟩:=ae.mp h;obtain⟨C',hm,hi,_⟩:=C.exc y hc.1.1;refine .cons (C.v5 hc.1.2) (E2 hc.2).1 hm (λx C1 hx h1=>C.zx x y C1 C' ?_ hc.1.1 h1 hi) (λea=>SE (X:=B9 X ea) C.mono h1) (ih h2);rw[C.vW] at hx;simpa using hx
  ·cases h
theorem VZ{e f:Option Expr}{q:Str×Expr×List Expr}(h:Ak e f=some q):f=none/\∃p p',e=some (.Call (.Name q.1 p) (q.2.1::q.2.2) [] p'):=by
 unfold Ak at h;cases f with
 |some _=>cases h
 |none =>
  obtain⟨t,rfl,h⟩:=af.mp (show e.bind _=some q from h);obtain⟨z,hz,h⟩:=af.mp h;obtain⟨p,p',rfl⟩:=T1 hz;obtain⟨x,as⟩:=z;cases as with
  |nil=>cases h
  |cons a as=>cases h;exact⟨rfl,_,_,rfl⟩
theorem UO(h:c.wx es e=true):∃x px y py a b k p,es=[.Name x px,.Name y py]/\e=.Tuple [a,b] k p/\c.Ba x px y py a b=true:=by
 rcases es with _|⟨s,_|⟨t,_|⟨_,_⟩⟩⟩
 ·cases h
 ·cases h
 ·cases s<;>first|(cases h;done)|skip
  cases t<;>first|(cases h;done)|skip
  cases e<;>first|(cases h;done)|skip
  rename_i l _ _;rcases l with _|⟨a,_|⟨b,_|⟨_,_⟩⟩⟩
  ·cases h
  ·cases h
  ·exact⟨_,_,_,_,_,_,_,_,rfl,rfl,h⟩
  ·cases h
 ·cases h
theorem Qf(C:gs X c P Ξ){f:Str}:zP X.K f (c.AX f):=λy C' h hC=>by
 unfold f9.AX at h;obtain⟨⟨f',y'⟩,h1,h2⟩:=aN.mp h;obtain⟨h3,h4⟩:=cJ.mp h1;cases h2;have:f'=f:=by simpa using h4
 subst this;exact C.mT f' y' C' h3 hC
variable(S:oK P r)(C:gs X c P Ξ)
include S C
theorem Mw{tg:Expr}{m:MS}(hS:∀e m,r.e c e=some m->v9 e=false->∃elt gens sc p,e=.ListComp elt gens sc p/\∃r',oK P r'/\U5 r' c elt gens sc=some m)(hT:∀a b k p m,r.e c (.Tuple [a,b] k p)=some m->∃r' ms,oK P r'/\E7 r' c [a,b]=some ms/\m=.prim .tup ms)(h:DW r c tg e=some m):PS X (.Assign [tg] e pos) (LS X.K Ξ (wpS P m)):=by
 cases tg with
 |Name x px =>
  have h2:(if c.B4 x then(c.idx x).bind λi=>(r.e c e).map λm=>MS.set i m else none)=some m:=h;split at h2
  ·rename_i hl;obtain⟨i,hi,h2⟩:=af.mp h2;obtain⟨me,he,rfl⟩:=ae.mp h2;cases hn:v9 e with
   |true=>exact Gi C.mono (Gb C.qH (C.rz hi) (C.B4 hl).1 (S.e X c Ξ C _ _ he) (AV hn) (C.B4 hl).2)
   |false =>
    obtain⟨elt,gens,sc,p,rfl,r',S',hx⟩:=hS e me he hn;obtain⟨tg,it,ifs,t,mi,mc,me,cl,rfl,rfl,hit,Sc,q1,q2,q3,q4⟩:=Ax S' C hx;refine Gi C.mono ?_;exact(Rv Sc C.calm q1 q2 q3 q4 (V7 hit) C.qH (C.rz hi) (C.B4 hl).1 (C.B4 hl).2).imp λN Z H h=>Eh C.mono Z H _ h
  ·cases h2
 |Tuple es k pt =>
  have h0:((zS es).elim (if(rH e&&v9 e)||c.wx es e then(c.slots es).bind λis=>(r.e c e).map λm=>MS.mz (.many is) m else none) λq=>if v9 e&&fy q.2.1&&fy q.2.2.2 then(r.e c q.1).bind λm1=>(r.e c q.2.1).bind λn1=>(r.e c q.2.2.1).bind λm2=>(r.e c q.2.2.2).bind λn2=>(r.e c e).map λm=>MS.vB m1 n1 m2 n2 m else none)=some m:=h;cases hq:zS es with
  |some q =>
   rw[hq] at h0;dsimp only[Option.elim] at h0;split at h0
   ·cases hq
   ·cases h0
  |none =>
  rw[hq] at h0;have h2:(if(rH e&&v9 e)||c.wx es e then(c.slots es).bind λis=>(r.e c e).map λm=>MS.mz (.many is) m else none)=some m:=h0;split at h2
  ·rename_i hn;rw[eh,bx] at hn;obtain⟨is,hs,h2⟩:=af.mp h2;obtain⟨me,he,rfl⟩:=ae.mp h2;rcases hn with hn|hn
   ·exact Pt C.mono (Ga (S.e X c Ξ C _ _ he) (GY C.calm C.qH (C.slots hs)) (FD hn.2) (SQ hn.1))
   ·obtain⟨x,px,y,py,a,b,k2,nS,rfl,rfl,hk⟩:=UO hn
    ·unfold f9.Ba at hk;simp only[Bool.and_eq_true,decide_eq_true_eq,Bool.not_eq_true'] at hk;obtain⟨⟨⟨⟨⟨⟨⟨l1,l2⟩,dO⟩,hl⟩,oa⟩,ob⟩,f1⟩,f2⟩:=hk;obtain⟨r',ms,S',og,rfl⟩:=hT _ _ _ _ _ he;have so:=C.slots hs;cases so with
     |cons hi _ _ so =>
     cases so with
     |cons hj _ _ so =>
     cases so;exact Pp C.mono C.calm C.qH hi hj dO hl (C.loc x l1) (C.loc y l2) oa ob f1 f2 (qI S' C og)
  ·cases h2
 |Subscript o i pt =>
  have h2:(if fy i&&v9 e then(r.e c o).bind λmo=>(r.e c i).bind λmi=>(r.e c e).map λm=>MS.dS mo mi m else none)=some m:=h;split at h2
  ·rename_i hn;rw[bx] at hn;obtain⟨mo,ho,h2⟩:=af.mp h2;obtain⟨mi,hi,h2⟩:=af.mp h2;obtain⟨me,he,rfl⟩:=ae.mp h2;exact TM C.mono C.units (S.e X c Ξ C _ _ he) (S.e X c Ξ C _ _ ho) (S.e X c Ξ C _ _ hi) (FD hn.2) (Qz hn.1)
  ·cases h2
 |Attribute o f pt =>
  obtain⟨mo,ho,h⟩:=af.mp h;obtain⟨me,he,rfl⟩:=ae.mp h;exact WV C.mono (Qf C) (S.e X c Ξ C _ _ ho) (S.e X c Ξ C _ _ he) (by cases e<;>rfl)
 |_=>cases h
theorem Jk(hS:∀e m,r.e c e=some m->v9 e=false->∃elt gens sc p,e=.ListComp elt gens sc p/\∃r',oK P r'/\U5 r' c elt gens sc=some m)(hT:∀a b k p m,r.e c (.Tuple [a,b] k p)=some m->∃r' ms,oK P r'/\E7 r' c [a,b]=some ms/\m=.prim .tup ms) :
  ∀st m,HR r c st=some m->PS X st (LS X.K Ξ (wpS P m)):=by
 intro st m h;have hP:=C.mono;cases st with
 |Expr e p =>
  have h2:(if v9 e then(r.e c e).map MS.expr else none)=some m:=h;split at h2
  ·rename_i hn;obtain⟨me,he,rfl⟩:=ae.mp h2;exact WU hP (S.e X c Ξ C _ _ he) (AV hn)
  ·cases h2
 |Assign xQ e p =>
  rcases xQ with _|⟨tg,_|⟨_,_⟩⟩
  ·cases h
  ·exact Mw S C hS hT h
  ·cases h
 |If t a b p =>
  obtain⟨mt,ht,h⟩:=af.mp h;obtain⟨ma,ha,h⟩:=af.mp h;obtain⟨mb,hb,rfl⟩:=ae.mp h;exact M' hP (S.t X c Ξ C _ _ ht) (rB S C ha) (rB S C hb)
 |For tg it body nG p =>
  have h2:(if c.mf&&(nG.isEmpty&&fy it) then(c.tg tg).bind λt=>(uV r c tg it).bind λmi=>(u3 r c body).map λmb=>MS.dF t mi mb else none)=some m:=h;split at h2
  ·rename_i hc;rw[bx,bx] at hc;cases nG<;>first|(cases hc.2.1;done)|skip
   obtain⟨t,h1,h2⟩:=af.mp h2;obtain⟨mi,h3,h2⟩:=af.mp h2;obtain⟨mb,h4,rfl⟩:=ae.mp h2;exact Po hP (C.own hc.1) C.calm (Cz S C h3) (C.Ea h1) (rB S C h4) (V7 hc.2.2)
  ·cases h2
 |While t body nG p =>
  have h2:(if c.mf&&nG.isEmpty then(r.t c t).bind λmt=>(u3 r c body).map λmb=>MS.jC mt mb else none)=some m:=h;split at h2
  ·rename_i hc;rw[bx] at hc;cases nG<;>first|(cases hc.2;done)|skip
   obtain⟨mt,h1,h2⟩:=af.mp h2;obtain⟨mb,h4,rfl⟩:=ae.mp h2;exact TN hP (C.own hc.1) (S.t X c Ξ C _ _ h1) (rB S C h4)
  ·cases h2
 |Return e p =>
  cases e with
  |none=>cases h;exact(Wu (X:=X)).imp λN bR H ⟨Z,g,ρ,s,R,h⟩=>LQ.now h R .bL
  |some e =>
   obtain⟨me,he,rfl⟩:=ae.mp (show(r.e c e).map (λm=>MS.ret (toR c e m))=some m from h);refine Gh hP ?_;exact S.e X c Ξ C _ _ he
 |Raise e f p =>
  obtain⟨q,hq,h2⟩:=af.mp h;clear h;obtain⟨rfl,px,p2,rfl⟩:=VZ hq;obtain⟨x,e,es⟩:=q;dsimp only at h2 ⊢;split at h2
  ·rename_i hc;simp only[Bool.and_eq_true] at hc;obtain⟨ma,ha,rfl⟩:=ae.mp h2;have ok:=AB ha;obtain⟨C',hm,hi,B,nI,iI,bm,O,FB⟩:=C.exc x hc.1.1.2;exact TL hP C.calm O FB (C.v5 hc.1.2) (qI S C ha) (C.jf hc.1.1.1) (by rw[C.vW];simpa using hc.1.1.2) hi (l0 (ok e (by simp))) (V0 λz hz=>ok z (by simp[hz])) (E2 hc.2).1
  ·cases h2
 |Try body hs el fi p =>
  have h2:(if c.iR&&!hs.isEmpty&&el.isEmpty&&fi.isEmpty then(u3 r { c with jf:=false,iR:=false } body).bind λmb=>(uU c hs).map λms=>MS.U8 mb ms else none)=some m:=h;split at h2
  ·rename_i hc;simp only[Bool.and_eq_true] at hc;obtain⟨⟨⟨ht,hh⟩,he⟩,hf⟩:=hc;cases el<;>first|(cases he;done)|skip
   cases fi<;>first|(cases hf;done)|skip
   cases hs<;>first|(cases hh;done)|skip
   obtain⟨mb,h1,h2⟩:=af.mp h2;obtain⟨ms,h3,rfl⟩:=ae.mp h2;obtain⟨dg,hf,yJ⟩:=C.iR ht;exact Pq hP dg hf (λpins D=>rB S (C.U8 dg hf pins D _) h1) (SD C yJ h3)
  ·cases h2
 |Pass p=>cases h;exact(Wt (X:=X)).imp λN bR H ⟨Z,g,ρ,s,R,h⟩=>h ρ H bR (.refl _ _) R s
 |_=>cases h
end
theorem Wc(h:(comp (n+1)).e c e=some m)(hn:v9 e=false):∃elt gens sc p,e=.ListComp elt gens sc p/\U5 (comp n) c elt gens sc=some m:=by
 cases e<;>first|(cases hn;done)|(cases h;done)|exact⟨_,_,_,_,rfl,h⟩
theorem snd:∀n,(∀k,k<=n->oK P (comp k)):=by
 intro n
 induction n with
 |zero =>
  intro k hk;obtain rfl:=Nat.le_zero.mp hk;exact⟨λ_ _ _ _ _ _ h=>(by cases h),λ_ _ _ _ _ _ h=>(by cases h),λ_ _ _ _ _ _ h=>(by cases h)⟩
 |succ n ih =>
  intro k hk;rcases Nat.lt_or_ge k (n+1) with eF|XW
  ·exact ih k (by omega)
  obtain rfl:k=n+1:=by omega
  have I:=ih n (ak n);refine⟨λX c Ξ C e m h=>Jl I C e m h,λX c Ξ C e m h=>Jj I C e m h,λX c Ξ C st m h=>?_⟩;rcases orElse_some h with h|h
  rotate_left
  ·cases h;exact λpins s Z H D I q=>by obtain⟨_,_,_,_,_,z⟩:=q;exact(show False from z).elim
  refine Jk I C (λe m he hn=>?_) (λa b k p m he=>?_) st m h
  ·cases n with
   |zero=>cases he
   |succ n =>
    obtain⟨elt,gens,sc,p,rfl,hx⟩:=Wc he hn;exact⟨_,_,_,_,rfl,comp n,ih n (by omega),hx⟩
  ·cases n with
   |zero=>cases he
   |succ n =>
    obtain⟨ms,hm,rfl⟩:=ae.mp (show(E7 (comp n) c [a,b]).map (ME.prim .tup)=some m from he);exact⟨comp n,ms,ih n (by omega),hm,rfl⟩
structure nK where
 nm:Str
 qn:Str
 N:List Str
 ps:List Str
 st:Stmt
def f9.at(c:f9)(d:nK):f9:={ c with N:=d.N,nm:=(p8 d.st).names,mf:=true,jf:=true,iR:=true }
structure jb(K:PySem.W.Frag)(c:f9)(d:nK)(m:bj)(f:Addr)(fd:FuncData):Prop where
 fn:oN K d.nm d.qn d.st f fd
 bi:Binds K fd d.ps []
 sc:ia d.N d.ps (p8 d.st)
 co:u3 (comp 60) (c.at d) (t4 d.st)=some m.body
 ar:m.ar=d.ps.length
 nn:m.n=d.N.length
structure mm(w:World)(K:PySem.W.Frag)(mg:Str->Option Value)(c:f9)(T:Nat->Option bj):Prop where
 fns:∀x i,c.fns.lookup x=some i->∃d m f fd,T i=some m/\jb K c d m f fd/\mg x=some (.ref f)
 cls:∀x i,c.cls.lookup x=some i->∃C d m f fd,T i=some m/\jb K c d m f fd/\mg x=some (.ref C)/\o7 K x C/\jx K C/\Mk K C f
 nU:∀x y i C,(x,y,i)∈c.nU->o7 K y C->∃d m f fd,T i=some m/\jb K c d m f fd/\Meth K C x f
 mT:∀f y C,(f,y)∈c.mT->o7 K y C->w9 K C f
 con:∀x d,c.con.lookup x=some d->∃v u,mg x=some u/\RelV v u/\∀ρ H,d7 K ρ H d v
 blt:∀x,c.blt.contains x=true->mg x=none
 zy:∀x,c.exc.contains x=true->∃C,mg x=some (.ref C)/\o7 K x C/\∀base:Heap,K.In base->base.Ns mainGlobals mg->∃B newId fP bm,OwnCls x C bm newId mg base/\ExcBaseFacts B newId fP bm
 zw:∀x y C C',c.exc.contains x=true->c.exc.contains y=true->o7 K x C->o7 K y C'->PySem.W.exmOne K (.ref C) (.ref C')=some (decide (x=y\/y="MintError"))
 qb:∀x kvs,c.gd.lookup x=some kvs->∃A vs,mg x=some (.ref A)/\uR K w.params A vs/\oE K kvs vs
section
variable{Pg:Program}{w:World}{K:PySem.W.Frag}{mg:Str->Option Value}{base:Heap}{T:Nat->Option bj}
theorem NM{q:Str}(h:PySem.W.codeIn K cd q=true):PySem.W.kdsCode K cd=true:=by
 unfold PySem.W.codeIn at h;unfold PySem.W.kdsCode;split at h
 ·dsimp only;split at h
  ·rename_i e;rw[e]
  ·cases h
 ·cases h
theorem Wi:Passes (iH Pg w) (X5 (iH Pg w) Pg w K mg base N qual scope f cd A outer s H E) E:=λpins Z H1 s1 e s' I h=>by
 obtain⟨C,H',J,fl,hE⟩:=I.flew h;exact RO J fl (λb o q=>I.base.there b o q (by intro z;cases z)) rfl rfl rfl hE
theorem Tq:wK (X5 (iH Pg w) Pg w K mg base N qual scope f cd A outer s H E) E:=λpins Z H1 s1 h' ea C vs I hm hE =>
 VA I hm rfl rfl rfl hE
theorem Qg:uZ (X5 (iH Pg w) Pg w K mg base N qual scope f cd A outer s H E) E:=λpins Z H1 H2 s1 s2 B ea C a0 I l hh hE =>
 leave_held I l hh rfl rfl rfl hE
theorem Am{k:Nat}{m:bj}(hT:T i=some m){ds:List D}{g:G}{Q:KD}{E:KX}(h:b9 T k i ds g Q E):ds.length=m.ar:=by
 cases k with
 |zero=>exact h.elim
 |succ k =>
  obtain⟨m',e,h,_⟩:=h;rw[hT] at e;cases e;exact h
theorem Nr(mI:K.In base)(uk:base.Ns mainGlobals mg)(A:mm w K mg c T):∀(k i:Nat) d m f fd,T i=some m->jb K c d m f fd->gO Pg w K mg base (iH Pg w) (2*k) f fd d.ps (nR c.exc K d.ps.length (b9 T k i)):=by
 intro k
 induction k with
 |zero =>
  intro i d m f fd hm O;refine⟨λvs H Q E h=>h.1,λA outer s H args us vs Q E _ _ _ _ h=>?_⟩;obtain⟨_,_,_,_,_,_,q⟩:=h;exact q.elim
 |succ k ih =>
  intro i d m f fd hm O;obtain⟨oc,od,kV,doc,pm,an,fB,ct,lG,rfl,lk,kJ⟩:=O.fn.ex;refine Ma (k:=2*k+1) lk kJ O.sc (λvs H Q E h=>h.1) (λA0 outer s H vs Q E hr h=>?_);obtain⟨hl,xs,g,ρ,rs,R,q⟩:=h;have C:gs (X5 (iH Pg w) Pg w K mg base d.N d.qn (p8 d.st) f fB A0 outer s H E) (c.at d) (b9 T k) (c.exc,E):=by
   refine⟨rfl,O.sc.nd,λx h=>h,λx h=>h,λx h=>.inr h,λx h=>h,λx h=>?_,λ_ _=>rfl,rfl,?_,(λ_=>PassesOwn.leaving),b7 T k,A.con,A.blt,λx j hj=>?_,λx j hj=>?_,λx y j C' hj hC=>?_,A.mT,rfl,Wi,λ_=>Tq,λ_=>⟨rfl,rfl,Qg⟩,λx hx=>?_,A.zw,A.qb,λ_=>NM kJ⟩
   ·rcases h with h|h
    ·exact AA h
    ·exact absurd rfl (O.sc.lH _ (aJ h))
   ·have:=hr.un;show(A0.deeper _).units+100<cLine;omega
   ·obtain⟨d',m',f',oB,hT,O',hmg⟩:=A.fns x j hj;exact⟨2*k,f',oB,d'.ps,⟨ih j d' m' f' oB hT O',O'.bi,λDH g' Q' E' h'=>(Am hT h').trans O'.ar⟩,hr.mono (by omega),hmg,O'.fn.kp⟩
   ·obtain⟨C',d',m',f',oB,hT,O',hmg,hC,kx,M⟩:=A.cls x j hj;exact⟨2*k,C',f',oB,d'.ps,⟨ih j d' m' f' oB hT O',O'.bi,λDH g' Q' E' h'=>(Am hT h').trans O'.ar⟩,hr,hmg,hC,kx,M⟩
   ·obtain⟨d',m',f',oB,hT,O',M⟩:=A.nU x y j C' hj hC;exact⟨2*k,f',oB,d'.ps,M,⟨ih j d' m' f' oB hT O',O'.bi,λDH g' Q' E' h'=>(Am hT h').trans O'.ar⟩,hr.mono (by omega)⟩
   ·obtain⟨C,h1,h2,h3⟩:=A.zy x hx;exact⟨C,h1,h2,h3 base mI uk⟩
  refine⟨_,rB (snd (P:=b9 T k) 60 60 (ak _)) C O.co,?_⟩;obtain⟨m',e,q1,q⟩:=q;rw[hm] at e;cases e;refine⟨d8 m xs,g,ρ,?_,R,wpS_mono (b7 T k) m.body ⟨λ_ g'=>LQ K ρ H Q .bL g',LQ K ρ H Q,λ_ _=>False,λ_ _=>False⟩ _ _ _ _ _ ⟨λZ g' h bz H' cP e R' s'=>h bz H' _ e R' .bL,λd g' h=>h,λ_ _ h=>h.elim,λ_ _ h=>h.elim⟩ (λ_ _ z=>z) q⟩;have:=m8.start (n:=d.N.length) rs;unfold d8 L2.start;rw[O.nn];exact this
theorem NR{L k0:Nat}{a:Addr}{ns:List Int}(hO:xc H)(hS:fj K H a (ns.map V.int))(h:b9 T k0 L [.ref 0] [.nF (ns.map .int)] (λd _=>d=.bl true) jw) :
  nR exc K 1 (b9 T k0 L) [.ref a] H (λv _=>v=.bl true) λ_ _ _=>False:=by
 refine⟨rfl,[.ref 0],[.nF (ns.map .int)],[a],.cons (.ref rfl) .nil,⟨rfl,λi o b h1 h2=>?_,λi j l m b h1 h2 m1=>?_⟩,b7 T k0 _ _ _ _ _ _ _ (λd g' e bz H' v _ _ r=>?_) (λ_ _ z=>z.elim) h⟩
 ·cases i with
  |zero =>
   cases h1;cases h2;refine⟨_,?_,a9.ofInts ns⟩;rcases hS with(z|⟨o,z⟩)|z
   ·rcases hO a with q|⟨o,xs,q⟩
    ·rw[z] at q;cases q
    ·rw[z] at q;cases q
   ·exact .inl ⟨o,z⟩
   ·exact .inr z
  |succ i=>simp at h1
 ·cases i with
  |zero=>cases h1;cases m1
  |succ i=>simp at h1
 ·subst e;cases r
  rfl
end
end M
namespace M
open PySem L2
variable{Z:S}{g:G}{Q:Bool->G->Prop}{E:KX}{a i n:Nat}{b:Bool}{o cond elt:ME}{x y d v:D}{j:Int}{l:List D}{A B:Prop}{kvs:List (Key×D)}{k:Key}{ns:List Int}{d4:List Nat}{R:IK->G->Prop}
section
variable{P:eM}{Q:KD}{N:Ends}{a b c:ME}{x y:MS}{p:Pr}
theorem B7(h:N.nx Z g):wpS P .pass N Z g E:=h
theorem wz(h:wpS P x ⟨λgP g1=>wpS P y N gP g1 E,N.rt,N.bk,N.ct⟩ Z g E):wpS P (.seq x y) N Z g E:=h
theorem H9(h:wpS P x N Z g E):wpS P (.seq x .pass) N Z g E:=h
theorem Gm(h:aX P a Z g (λ_ g1=>N.nx Z g1) E):wpS P (.expr a) N Z g E:=h
theorem P9(h:aX P a Z g (λx g1=>N.nx (Z.set i (some x)) g1) E):wpS P (.set i a) N Z g E:=h
theorem Ic{t:MT}(h:aX P a Z g (λx g1=>jD t x Z λgP=>N.nx gP g1) E):wpS P (.mz t a) N Z g E:=h
theorem Az{i:ME}(h:aX P a Z g (λx g1=>aX P o Z g1 (λy g2=>aX P i Z g2 (λz g3=>V4 y z x g3 λg4=>N.nx Z g4) E) E) E):wpS P (.dS o i a) N Z g E:=h
theorem wy(h:de P c Z g (λt g1=>if t=true then wpS P x N Z g1 E else wpS P y N Z g1 E) E):wpS P (.ifs c x y) N Z g E:=h
theorem HZ(h:aX P a Z g N.rt E):wpS P (.ret a) N Z g E:=h
theorem Hb{x:Str}(h:fo P a Z g (λvs g1=>vs.length<=1000/\E ⟨x⟩ g1) E):wpS P (.raise x a) N Z g E:=h
theorem Ib{hs:List (Str×ME)}(h:wpS P x N Z g (kF P N (Z.map λ_=>none) E hs)):wpS P (.U8 x hs) N Z g E:=h
theorem Bl{x:Xn}{y:Str}{e:ME}{r:List (Str×ME)}(hx:x.cls=y)(h:aX P e Z g N.rt jw):kF P N Z E ((y,e)::r) x g:=by unfold kF;rw[aE (.inl hx)];exact h
theorem zX{x:Xn}{y:Str}{e:ME}{r:List (Str×ME)}(hx:¬(x.cls=y\/y="MintError"))(h:kF P N Z E r x g):kF P N Z E ((y,e)::r) x g:=by unfold kF;rw[aB hx];exact h
theorem w_var(e:Z[i]?=some (some d))(h:Q d g):aX P (.var i) Z g Q E:=by exact⟨d,e,h⟩
theorem w_lit(h:Q d g):aX P (.lit d) Z g Q E:=h
theorem Gp(h:fo P a Z g (λxs g1=>cG p xs g1 Q) E):aX P (.prim p a) Z g Q E:=h
theorem Ec(h:cG p [] g Q):aX P (.prim p .nil) Z g Q E:=by exact h
theorem rD(h:aX P a Z g (λx g1=>cG p [x] g1 Q) E):aX P (.prim p (.cons a .nil)) Z g Q E:=by exact h
theorem Z1(h:aX P a Z g (λx g1=>aX P b Z g1 (λy g2=>cG p [x,y] g2 Q) E) E):aX P (.prim p (.cons a (.cons b .nil))) Z g Q E:=by exact h
theorem Ha{o1 o2:CmpOp}(h:aX P a Z g (λx g1=>aX P b Z g1 (λy g2=>cG (.cmp o1) [x,y] g2 λz g3=>∃t,z=.bl t/\if t=true then aX P c Z g3 (λw g4=>cG (.cmp o2) [y,w] g4 Q) E else Q (.bl false) g3) E) E):aX P (.chain o1 o2 a b c) Z g Q E:=h
theorem w_and(h:aX P a Z g (λx g1=>∃t,x=.bl t/\if t=true then aX P b Z g1 Q E else Q (.bl false) g1) E):aX P (.dw a b) Z g Q E:=h
theorem w_or(h:aX P a Z g (λx g1=>∃t,x=.bl t/\if t=true then Q (.bl true) g1 else aX P b Z g1 Q E) E):aX P (.jh a b) Z g Q E:=h
theorem w_not(h:aX P a Z g (λx g1=>∃t,x=.bl t/\Q (.bl (!t)) g1) E):aX P (.et a) Z g Q E:=h
theorem w_ite(h:de P c Z g (λt g1=>if t=true then aX P a Z g1 Q E else aX P b Z g1 Q E) E):aX P (.ite c a b) Z g Q E:=h
theorem Z3{f:Nat}(h:fo P a Z g (λxs g1=>P f xs g1 Q E) E):aX P (.call f a) Z g Q E:=h
theorem Gn(h:aX P o Z g (λx g1=>mG p x g1/\fo P a Z g1 (λxs g2=>cG p (x::xs) g2 Q) E) E):aX P (.eB p o a) Z g Q E:=h
theorem HY(h:fo P a Z (g++[.cg []]) (λxs g1=>∃kvs,rq xs []=some kvs/\xs.length<=30/\g1[g.length]?=some (.cg [])/\Q (.ref g.length) (g1.set g.length (.cg kvs))) E):aX P (.mj a) Z g Q E:=h
theorem uY{Q:List D->G->Prop}(h:Q [] g):fo P .nil Z g Q E:=h
theorem M5{Q:List D->G->Prop}(h:aX P a Z g (λx g1=>fo P b Z g1 (λxs g2=>Q (x::xs) g2) E) E):fo P (.cons a b) Z g Q E:=h
theorem Gq{Q:Bool->G->Prop}(h:de P a Z g (λt g1=>if t=true then de P b Z g1 Q E else Q false g1) E):de P (.dw a b) Z g Q E:=h
theorem Ia{Q:Bool->G->Prop}(h:de P a Z g (λt g1=>if t=true then Q true g1 else de P b Z g1 Q E) E):de P (.jh a b) Z g Q E:=h
theorem Gs{Q:Bool->G->Prop}(h:de P a Z g (λt g1=>Q (!t) g1) E):de P (.et a) Z g Q E:=h
theorem Bw{Q:Bool->G->Prop}(h:Q true g):de P .no Z g Q E:=h
theorem wA{Q:Bool->G->Prop}(h:aX P a Z g (λx g1=>Z4 g1 x λb=>Q b g1) E):de P (.fE a) Z g Q E:=h
end
section
variable{Q:KD}{i:Int}{kb:Bool->Prop}{t s:Bool}{m:List D}
theorem Hd(h:Q (.int (i+j)) g):cG (.bin .Add) [.int i,.int j] g Q:=⟨_,_,.inl ⟨i,j,_,rfl,rfl,rfl,rfl⟩,h⟩
theorem He(h:Q (.int (i-j)) g):cG (.bin .Sub) [.int i,.int j] g Q:=⟨_,_,.inl ⟨i,j,_,rfl,rfl,rfl,rfl⟩,h⟩
theorem K4(c:Y4 i j)(h:Q (.int (i*j)) g):cG (.bin .Mult) [.int i,.int j] g Q:=⟨_,_,.inl ⟨i,j,_,rfl,⟨c,rfl⟩,rfl,rfl⟩,h⟩
theorem K5(c:0<j)(h:Q (.int (i % j)) g):cG (.bin .Mod) [.int i,.int j] g Q:=⟨_,_,.inl ⟨i,j,_,rfl,⟨c,rfl⟩,rfl,rfl⟩,h⟩
theorem wb(c:Bz i j)(h:Q (.int (i / j)) g):cG (.bin .FloorDiv) [.int i,.int j] g Q:=⟨_,_,.inl ⟨i,j,_,rfl,⟨c,rfl⟩,rfl,rfl⟩,h⟩
theorem FN(h1:0<j)(h2:j<1073741824)(h:Q (.int (i / j)) g):cG (.bin .FloorDiv) [.int i,.int j] g Q:=wb ⟨h1,h2⟩ h
theorem Y0(c:N5 i j)(h:Q (.int (i ^ j.toNat)) g):cG (.bin .Pow) [.int i,.int j] g Q:=⟨_,_,.inl ⟨i,j,_,rfl,⟨c,rfl⟩,rfl,rfl⟩,h⟩
theorem uS{i j:Nat}(hi:g[i]?=some (.lst l))(hj:g[j]?=some (.lst m))(hl:l.length+m.length<=100000)(h:Q (.ref g.length) (g++[.lst (l++m)])):cG (.bin .Add) [.ref i,.ref j] g Q:=⟨_,_,.inr (.inl ⟨rfl,.inr (.inl ⟨i,j,l,m,rfl,hi,hj,hl,rfl,rfl⟩)⟩),h⟩
theorem LU{i:Nat}{n:Int}(hi:g[i]?=some (.lst l))(h1:-(2 ^ 62)<=n)(h2:n<2 ^ 62)(hl:l.length*n.toNat<=100000)(h:Q (.ref g.length) (g++[.lst (List.replicate n.toNat l).flatten])):cG (.bin .Mult) [.ref i,.int n] g Q:=⟨_,_,.inr (.inr ⟨rfl,.inl ⟨i,l,n,rfl,hi,h1,h2,hl,rfl,rfl⟩⟩),h⟩
theorem HX(h:Q (.int (-i)) g):cG (.un .USub) [.int i] g Q:=⟨_,_,⟨rfl,i,rfl,rfl,rfl⟩,h⟩
theorem S7{op:CmpOp}(hb:DM g x y b op)(h:Q (.bl b) g):cG (.cmp op) [x,y] g Q:=⟨_,_,⟨x,y,b,rfl,hb,rfl,rfl⟩,h⟩
theorem DL(h:Q (.bl (decide (i<j))) g):cG (.cmp .Lt) [.int i,.int j] g Q:=S7 ⟨i,j,rfl,rfl,rfl⟩ h
theorem DK(h:Q (.bl (decide (i<=j))) g):cG (.cmp .LtE) [.int i,.int j] g Q:=S7 ⟨i,j,rfl,rfl,rfl⟩ h
theorem DJ(h:Q (.bl (decide (j<i))) g):cG (.cmp .Gt) [.int i,.int j] g Q:=S7 ⟨i,j,rfl,rfl,rfl⟩ h
theorem DI(h:Q (.bl (decide (j<=i))) g):cG (.cmp .GtE) [.int i,.int j] g Q:=S7 ⟨i,j,rfl,rfl,rfl⟩ h
theorem xf(h:rf g x y λb=>Q (.bl b) g):cG (.cmp .Eq) [x,y] g Q:=let ⟨_,hb,h⟩:=h;S7 hb h
theorem BH(h:rf g x y λb=>Q (.bl (!b)) g):cG (.cmp .NotEq) [x,y] g Q:=let ⟨b,hb,h⟩:=h;S7 (b:=!b) (show uw g x y (!(!b)) from by rw[rY];exact hb) h
theorem BG(h:qK g x y λb=>Q (.bl b) g):cG (.cmp .In) [x,y] g Q:=let ⟨_,hb,h⟩:=h;S7 (.inl hb) h
theorem wc(h:qK g x y λb=>Q (.bl (!b)) g):cG (.cmp .NotIn) [x,y] g Q:=let ⟨b,hb,h⟩:=h;S7 (b:=!b) (.inl (show inR g x y (!(!b)) from by rw[rY];exact hb)) h
theorem HL(h:kb (decide (i=j))):rf g (.int i) (.int j) kb:=⟨_,.inl ⟨i,j,rfl,rfl,rfl⟩,h⟩
theorem DV(h:kb (t==s)):rf g (.bl t) (.bl s) kb:=⟨_,.inr (.inl ⟨t,s,rfl,rfl,rfl⟩),h⟩
theorem HM{x y:Str}(h:kb (decide (x=y))):rf g (.str x) (.str y) kb:=⟨_,.inr (.inr (.inl ⟨x,y,rfl,rfl,rfl⟩)),h⟩
theorem Hl(h:Q (.bl (decide (i=j))) g):cG (.cmp .Eq) [.int i,.int j] g Q:=xf (HL h)
theorem Bg(h:Q (.bl (!decide (i=j))) g):cG (.cmp .NotEq) [.int i,.int j] g Q:=BH (HL h)
theorem Hk(h:Q (.bl (t==s)) g):cG (.cmp .Eq) [.bl t,.bl s] g Q:=xf (DV h)
theorem Hw(h:Q (.bl (!(t==s))) g):cG (.cmp .NotEq) [.bl t,.bl s] g Q:=BH (DV h)
theorem Hm{p q:Str}(h:Q (.bl (decide (p=q))) g):cG (.cmp .Eq) [.str p,.str q] g Q:=xf (HM h)
theorem Hx{p q:Str}(h:Q (.bl (!decide (p=q))) g):cG (.cmp .NotEq) [.str p,.str q] g Q:=BH (HM h)
theorem oH(h:Q (.bl (R0 d)) g):cG (.cmp .Is) [d,.bL] g Q:=S7 ⟨rfl,rfl⟩ h
theorem Hv(h:Q (.bl (!R0 d)) g):cG (.cmp .IsNot) [d,.bL] g Q:=S7 ⟨rfl,rfl⟩ h
theorem Hn(h:Q (.bl true) g):cG (.cmp .Is) [.bL,.bL] g Q:=oH h
theorem Hq(h:Q (.bl false) g):cG (.cmp .Is) [.int i,.bL] g Q:=oH h
theorem Ho(h:Q (.bl false) g):cG (.cmp .Is) [.bl t,.bL] g Q:=oH h
theorem Ht{x:Str}(h:Q (.bl false) g):cG (.cmp .Is) [.str x,.bL] g Q:=oH h
theorem Hu(h:Q (.bl false) g):cG (.cmp .Is) [.tup l,.bL] g Q:=oH h
theorem Hr(h:Q (.bl false) g):cG (.cmp .Is) [.ref n,.bL] g Q:=oH h
theorem Z5(h:kb t):Z4 g (.bl t) kb:=⟨t,.inr (.inl rfl),h⟩
theorem Ni{i:Nat}(hl:c8 g i=some l)(h:kb (!l.isEmpty)):Z4 g (.ref i) kb:=⟨_,.inr (.inr (.inr (.inr ⟨i,l,rfl,hl,rfl⟩))),h⟩
theorem U4{p:Bool->Prop}(h:p t):∃s,D.bl t=D.bl s/\p s:=⟨t,rfl,h⟩
theorem FV{p:Int->Prop}(h:p i):∃s,D.int i=D.int s/\p s:=⟨i,rfl,h⟩
theorem if2{c:Prop}[Decidable c](h1:c->A)(h2:¬c->B):if decide c=true then A else B:=by
 by_cases h:c
 ·rw[aE (aV h)];exact h1 h
 ·rw[aB (by rw[aL h];decide)];exact h2 h
theorem jj(h:A):if true=true then A else B:=by rw[aE rfl];exact h
theorem E9(h:B):if false=true then A else B:=by rw[aB (by decide)];exact h
theorem S5(h:A):if(!false)=true then A else B:=by rw[aE (show(!false)=true from rfl)];exact h
theorem X0(h:B):if(!true)=true then A else B:=by rw[aB (by decide)];exact h
theorem QT{c:Prop}[Decidable c](h1:c->B)(h2:¬c->A):if(!decide c)=true then A else B:=by
 by_cases h:c
 ·rw[aV h];exact X0 (h1 h)
 ·rw[aL h];exact S5 (h2 h)
theorem jM(hb:b=false)(h:B):if b=true then A else B:=by rw[hb];exact E9 h
theorem kr(hb:b=true)(h:A):if b=true then A else B:=by rw[hb];exact jj h
theorem p7(hl:c8 g a=some l)(h2:gj l i=some d)(h:Q d g):cG .ix [.ref a,.int i] g Q:=⟨_,_,⟨rfl,.inl ⟨_,l,i,rfl,hl,h2⟩⟩,h⟩
theorem J9(h2:gj l i=some d)(h:Q d g):cG .ix [.tup l,.int i] g Q:=⟨_,_,⟨rfl,.inl ⟨_,l,i,rfl,rfl,h2⟩⟩,h⟩
theorem uK{i:Nat}(hg:g[i]?=some (.cg kvs))(hk:P5 y=some k)(hv:m7 kvs k=some v)(h:Q v g):cG .ix [.ref i,y] g Q:=⟨_,_,⟨rfl,.inr (.inl ⟨i,kvs,y,k,rfl,hg,hk,hv⟩)⟩,h⟩
theorem Q2{kg:G->Prop}(hl:g[a]?=some (.lst l))(hn:jT l.length i=some n)(h:kg (g.set a (.lst (l.set n v)))):V4 (.ref a) (.int i) v g kg:=⟨_,.inl ⟨a,i,l,n,rfl,rfl,hl,hn,rfl⟩,h⟩
theorem uX{i:Nat}{kg:G->Prop}(hg:g[i]?=some (.cg kvs))(hk:P5 y=some k)(hl:kvs.length<100000)(h:kg (g.set i (.cg (putD kvs k v)))):V4 (.ref i) y v g kg:=⟨_,.inr ⟨i,kvs,k,rfl,hg,hk,hl,rfl⟩,h⟩
theorem a7(h:g[a]?=some (.lst l)):c8 g a=some l:=by simp only[c8,h,zY]
theorem Ux(h:g[a]?=some (.nF l)):c8 g a=some l:=by simp only[c8,h,zY]
theorem M4(hl:c8 g a=some l)(h:Q (.int l.length) g):cG .len [.ref a] g Q:=⟨_,_,⟨rfl,.inl ⟨_,l,rfl,hl,rfl⟩⟩,h⟩
theorem Pd(hl:c8 g a=some l)(h:Q (.ref g.length) (g++[.lst (cut l (some i) none)])):cG (.ko true false) [.ref a,.int i] g Q:=⟨_,_,⟨_,i,rfl,.inr ⟨a,l,rfl,hl,rfl,rfl⟩⟩,h⟩
theorem wH(hl:c8 g a=some l)(h:Q (.ref g.length) (g++[.lst (cut l none (some i))])):cG (.ko false true) [.ref a,.int i] g Q:=⟨_,_,⟨_,i,rfl,.inr ⟨a,l,rfl,hl,rfl,rfl⟩⟩,h⟩
theorem rK(hl:l.length<=1000)(h:Q (.tup l) g):cG .tup l g Q:=⟨_,_,⟨hl,rfl,rfl⟩,h⟩
theorem rJ(hl:l.length<=1000)(h:Q (.ref g.length) (g++[.lst l])):cG .lst l g Q:=⟨_,_,⟨hl,rfl,rfl⟩,h⟩
theorem Bn(hl:c8 g a=some l)(h:Q (.ref g.length) (g++[.lst l])):cG .list [.ref a] g Q:=⟨_,_,.inl ⟨_,l,rfl,hl,rfl,rfl⟩,h⟩
theorem HH(hg:g[a]?=some (.cg kvs))(hz:kvs.length<=10000)(h:Q (.ref g.length) (g++[.lst ((kvs.map (·.1)).map kD)])):cG .list [.ref a] g Q:=⟨_,_,.inr ⟨a,kvs,rfl,hg,hz,rfl,rfl⟩,h⟩
theorem HI(h:Q (.ref g.length) (g++[.lst l])):cG .list [.tup l] g Q:=⟨_,_,.inl ⟨_,l,rfl,rfl,rfl,rfl⟩,h⟩
theorem Nm(hl:c8 g a=some l)(h:Q (.tup l) g):cG .tuple [.ref a] g Q:=⟨_,_,⟨_,l,rfl,hl,rfl,rfl⟩,h⟩
theorem fM{c:String}(hc:c∈["int","bool","str","tuple","list"])(hb:ql g d c=some b)(h:Q (.bl b) g):cG .isin [d,.ty c] g Q:=⟨_,_,⟨d,c,b,rfl,hc,hb,rfl,rfl⟩,h⟩
theorem Q6{i:Nat}(hg:g[i]?=some (.lst l))(hl:l.length<100000)(h:Q .bL (g.set i (.lst (l++[y])))):cG .append [.ref i,y] g Q:=⟨_,_,⟨i,y,l,rfl,hg,hl,rfl,rfl⟩,h⟩
theorem Mu{i j:Nat}{n:Int}(hg:g[i]?=some (.lst l))(hn:n=j)(hj:l[j]?=some y)(hl:l.length<100000)(h:Q y (g.set i (.lst (l.eraseIdx j)))):cG .pop [.ref i,.int n] g Q:=by
 have eF:=(aq.mp hj).1;refine⟨_,_,⟨i,n,l,j,rfl,hg,by omega,by omega,?_,hj,rfl⟩,h⟩;rw[hn];exact PySem.StrLaws.seqIndex_nonneg (by omega) (by omega) |>.trans (by simp)
theorem wu{i:Nat}{z:D}(hg:g[i]?=some (.cg kvs))(hk:P5 y=some k)(h:Q ((m7 kvs k).getD z) g):cG .get [.ref i,y,z] g Q:=⟨_,_,⟨i,y,z,kvs,k,rfl,hg,hk,rfl,rfl⟩,h⟩
theorem LM{i:Nat}{v:Bool}(hl:c8 g i=some l)(hv:R6 l=some v)(h:Q (.bl v) g):cG .any [.ref i] g Q:=⟨_,_,⟨i,l,v,rfl,hl,hv,rfl,rfl⟩,h⟩
theorem Wh{i:Nat}(hl:c8 g i=some (ns.map .int))(hz:ns.length<60)(h:Q (.ref g.length) (g++[.lst ((B2 ns).map .int)])):cG .jE [.ref i] g Q:=⟨_,_,.inr ⟨_,ns,rfl,hl,hz,rfl,rfl⟩,h⟩
theorem P0{i:Nat}(hg:g[i]?=some (.lst l)):mG .append (.ref i) g:=⟨i,l,rfl,a7 hg⟩
theorem FX{i:Nat}(hg:g[i]?=some (.lst l)):mG .pop (.ref i) g:=⟨i,l,rfl,a7 hg⟩
theorem AZ{i:Nat}{l:List (Key×D)}(hg:g[i]?=some (.cg l)):mG .get (.ref i) g:=⟨i,l,rfl,hg⟩
theorem yb(h1:-(2 ^ 62)<=j)(h2:j<=100000)(h:Q (.ref g.length) (g++[.lst (j7 0 j.toNat)])):cG .iz [.int j] g Q:=⟨_,_,⟨j,rfl,h1,h2,rfl,rfl⟩,h⟩
theorem Jo(h1:-(2 ^ 62)<=i/\i<2 ^ 62/\-(2 ^ 62)<=j/\j<2 ^ 62/\j-i<=100000)(h:Q (.ref g.length) (g++[.lst (j7 i (j-i).toNat)])):cG .jJ [.int i,.int j] g Q:=⟨_,_,⟨i,j,rfl,h1,rfl,rfl⟩,h⟩
theorem S6(h:Q (.ref g.length) (g++[.cg []])):cG .S6 [] g Q:=⟨_,_,⟨rfl,rfl,rfl⟩,h⟩
theorem max2(h:Q (.int (if j>i then j else i)) g):cG .max [.int i,.int j] g Q:=⟨_,_,⟨rfl,.inl ⟨i,j,rfl,rfl⟩⟩,h⟩
theorem Mv{M:Int}(hl:c8 g a=some (ns.map .int))(h1:M∈ns)(h2:∀x∈ns,M<=x)(h:Q (.int M) g):cG .min [.ref a] g Q:=⟨_,_,⟨rfl,.inr (.inl ⟨a,ns,M,rfl,hl,h1,h2,rfl⟩)⟩,h⟩
theorem FW{b:Nat}{ms:List Int}(ha:g[a]?=some (.lst (ns.map .int)))(hb:g[b]?=some (.lst (ms.map .int)))(hl:ms.length=ns.length)(h:Q (if L2.C5 ms ns then .ref b else .ref a) g):cG .min [.ref a,.ref b] g Q:=⟨_,_,⟨rfl,.inr (.inr ⟨a,b,ns,ms,rfl,ha,hb,hl,rfl⟩)⟩,h⟩
theorem min2(h:Q (.int (if j<i then j else i)) g):cG .min [.int i,.int j] g Q:=⟨_,_,⟨rfl,.inl ⟨i,j,rfl,rfl⟩⟩,h⟩
theorem HE{v:Bool}(h:Q (.int (if v then 1 else 0)) g):cG .int [.bl v] g Q:=⟨_,_,⟨rfl,.inr ⟨v,rfl,rfl⟩⟩,h⟩
theorem HD{kvs:List D}{x:Str}(hv:M3 kvs x=some v)(h:Q v g):cG .lZ [.tup kvs,.str x] g Q:=⟨_,_,⟨kvs,x,rfl,hv,rfl⟩,h⟩
theorem Hg{i:Nat}{v:Bool}(hl:c8 g i=some l)(hv:R7 l=some v)(h:Q (.bl v) g):cG .all [.ref i] g Q:=⟨_,_,⟨i,l,v,rfl,hl,.inl hv,rfl,rfl⟩,h⟩
theorem A2{i:Nat}{k:S->Prop}(h:k (Z.set i (some x))):jD (.one i) x Z k:=h
theorem T2{is:List Nat}{bI:S}{k:S->Prop}(e:B8 is l Z=some bI)(h:k bI):jD (.many is) (.tup l) Z k:=⟨l,bI,rfl,e,h⟩
end
theorem EF:∀(bs:List Bool),R7 (bs.map D.bl)=some (bs.all id):=by
 intro bs
 induction bs with
 |nil=>rfl
 |cons b r ih=>simp[R7,ih]
theorem call_of{T:Nat->Option bj}{k f:Nat}{m:bj}{ds:List D}{Q:KD}(hT:T f=some m)(hl:ds.length=m.ar)(h:wpS (b9 T k) m.body ⟨λ_ g'=>Q .bL g',Q,λ_ _=>False,λ_ _=>False⟩ (d8 m ds) g E):b9 T (k+1) f ds g Q E:=⟨m,hT,hl,h⟩
def IK.Is(k:IK)(l:List D)(g:G):Prop:=∀i,k.at i g=some l[i]?
theorem A6:(IK.fix l).Is l g:=λ_=>rfl
theorem P6(h:c8 g a=some l):(IK.lst a).Is l g:=λi=>by simp only[IK.at,h]
def qe(l:List D):List D:=l.mapIdx λi d=>.tup [.int i,d]
theorem NI(h:c8 g a=some l):(IK.rg a).Is (qe l) g:=λi=>by
 simp only[IK.at,h,qe,List.getElem?_mapIdx]
theorem GA(l:List D):(qe l).length=l.length:=by simp[qe]
theorem Qb(h:(qe l)[i]?=some x):∃d,l[i]?=some d/\x=.tup [.int i,d]:=by
 rw[qe,List.getElem?_mapIdx,ae] at h;obtain⟨d,h1,h2⟩:=h;exact⟨d,h1,h2.symm⟩
theorem E1{lo:Int}(h:(j7 lo n)[i]?=some x):i<n/\x=.int (lo+i):=by
 unfold j7 at h;have hi:i<n:=by
  have:=(aq.mp h).1;simpa using this
 rw[aD,BX hi] at h;cases h;exact⟨hi,rfl⟩
theorem t8(lo:Int)(n:Nat):(j7 lo n).length=n:=by simp[j7]
section
variable{P:eM}{N:Ends}{it a c:ME}{s:MS}{t:MT}{Q:KD}
theorem EA{k:IK}{fin:S->G->Prop}{turn:D->(S->G->Prop)->S->G->Prop}(I:Nat->S->G->Prop)(hk:∀i Z g,I i Z g->k.Is l g)(h0:I 0 Z g)(hs:∀i x Z g,l[i]?=some x->I i Z g->turn x (I (i+1)) Z g)(hd:∀Z g,I l.length Z g->fin Z g):turns k Z g fin turn:=by
 refine⟨λi m Z g=>m=l.length-i/\i<=l.length/\I i Z g,⟨l.length,by simp,bG _,h0⟩,?_⟩;rintro i m Z g ⟨rfl,hi,p⟩;rw[hk i Z g p i];by_cases eF:i<l.length
 ·rw[az eF];exact .inr ⟨_,rfl,I (i+1),λbI g' p'=>⟨l.length-(i+1),by omega,rfl,eF,p'⟩,hs i l[i] Z g (az eF) p⟩
 ·have e:i=l.length:=by omega
  subst e;rw[iq (ak _)];exact .inl ⟨rfl,hd Z g p⟩
inductive vn(P:eM)(t:MT)(s:MS)(N:Ends)(E:KX)(Z:S)(k:IK)(g1:G):Prop
 |mk (l:List D) (I:Nat->S->G->Prop) (hk:∀i Z g,I i Z g->k.Is l g) (h0:I 0 Z g1)
   (hs:∀i x Z g,l[i]?=some x->I i Z g->jD t x Z λcD=>wpS P s ⟨I (i+1),N.rt,N.nx,I (i+1)⟩ cD g E) (hd:∀Z g,I l.length Z g->N.nx Z g):vn P t s N E Z k g1
theorem F4(hP:j5 P)(h:iJ P it Z g (vn P t s N E Z) E):wpS P (.dF t it s) N Z g E :=
 y9 hP it _ _ _ _ _ _ (λk g1 hq=>by obtain⟨l,I,hk,h0,hs,hd⟩:=hq;exact EA I hk h0 hs hd) (λ_ _ z=>z) h
theorem Z2(hn:(n:Int)<2 ^ 62)(I:Nat->S->G->Prop)(h0:I 0 Z g)(hs:∀(i:Nat) Z g,i<n->I i Z g->jD t (.int i) Z λcD=>wpS P s ⟨I (i+1),N.rt,N.nx,I (i+1)⟩ cD g E)(hd:∀Z g,I n Z g->N.nx Z g):wpS P (.dF t (.eE (.lit (.int n))) s) N Z g E:=by
 refine⟨n,rfl,by omega,hn,EA (l:=j7 0 n) I (λ_ _ _ _=>A6) h0 (λi x Z g hx p=>?_) (λZ g p=>hd Z g (by rw[t8] at p;exact p))⟩;obtain⟨hi,rfl⟩:=E1 hx;have:=hs i Z g hi p;rw[show(0:Int)+(i:Int)=i by omega];exact this
inductive CompI(P:eM)(t:MT)(cond elt:ME)(E:KX)(Q:KD)(Z:S)(k:IK)(g1:G):Prop
 |mk (l:List D) (I:Nat->List D->S->G->Prop) (hl:l.length<=1000) (hk:∀i ys Z g,I i ys Z g->k.Is l g/\ys.length<=i) (h0:I 0 [] Z g1)
   (hs:∀i x ys Z g,l[i]?=some x->I i ys Z g->jD t x Z λcD=>de P cond cD g (λc g3=>if c=true then aX P elt cD g3 (λy g4=>I (i+1) (ys++[y]) cD g4) E else I (i+1) ys cD g3) jw)
   (hd:∀ys Z g,I l.length ys Z g->Q (.ref g.length) (g++[.lst ys])):CompI P t cond elt E Q Z k g1
theorem M6(hP:j5 P)(h:iJ P it Z g (CompI P t cond elt jw Q (K1 Z d4 n)) E):aX P (.comp d4 n t it cond elt) Z g Q E:=by
 refine y9 hP it _ _ _ _ _ _ (λk g1 h=>?_) (λ_ _ z=>z) h;obtain⟨l,I,hl,hk,h0,hs,hd⟩:=h;refine⟨λi m ys Z g=>m=l.length-i/\i<=l.length/\I i ys Z g,⟨l.length,by simp,bG _,h0⟩,?_⟩;rintro i m ys Z g ⟨rfl,hi,p⟩;obtain⟨jt,hy⟩:=hk i ys Z g p;rw[jt i];by_cases eF:i<l.length
 ·rw[az eF];refine .inr ⟨_,rfl,by omega,B0 (λcD q=>o8 hP cond _ _ _ _ _ _ (λc g3 q=>?_) (λ_ _ z=>z) q) (hs i l[i] ys Z g (az eF) p)⟩;cases c
  ·exact⟨l.length-(i+1),by omega,rfl,eF,by simpa using(show I (i+1) ys cD g3 from q)⟩
  ·exact b0 hP elt _ _ _ _ _ _ (λy g4 q=>⟨l.length-(i+1),by omega,rfl,eF,by simpa using q⟩) (λ_ _ z=>z) q
 ·have e:i=l.length:=by omega
  subst e;rw[iq (ak _)];exact .inl ⟨rfl,hd ys Z g p⟩
theorem Fu(hP:j5 P)(h:aX P a Z g (λx g1=>∃j:Nat,x=.int j/\j<=1000/\∃I:Nat->List D->S->G->Prop,I 0 [] (K1 Z d4 n) g1/\(∀i ys Z g,I i ys Z g->ys.length<=i) /\
      (∀(i:Nat) ys Z g,i<j->I i ys Z g->jD t (.int i) Z λcD=>de P cond cD g (λc g3=>if c=true then aX P elt cD g3 (λy g4=>I (i+1) (ys++[y]) cD g4) jw else I (i+1) ys cD g3) jw) /\
      ∀ ys Z g,I j ys Z g->Q (.ref g.length) (g ++ [.lst ys])) E):aX P (.comp d4 n t (.eE a) cond elt) Z g Q E:=by
  refine M6 hP ?_;refine b0 hP a _ _ _ _ _ _ (λx g1 h=>?_) (λ_ _ z=>z) h;obtain⟨j,rfl,hj,I,h0,hz,hs,hd⟩:=h;refine⟨j,rfl,by omega,by omega,_,I,by rw[t8];simpa using hj,λi ys Z g p=>⟨A6,hz i ys Z g p⟩,h0,λi x ys Z g hx p=>?_,λys Z g p=>hd ys Z g (by rw[t8] at p;simpa using p)⟩;obtain⟨hi,rfl⟩:=E1 hx;rw[show(0:Int)+(i:Int)=i by omega];exact hs i ys Z g (by simpa using hi) p
theorem Fv(hP:j5 P)(h:aX P a Z g (λx g1=>∃l,x=.tup l/\l.length<=1000/\∃I:Nat->List D->S->G->Prop,I 0 [] (K1 Z d4 n) g1/\(∀i ys Z g,I i ys Z g->ys.length<=i) /\
      (∀(i:Nat) x ys Z g,l[i]?=some x->I i ys Z g->jD t x Z λcD=>de P cond cD g (λc g3=>if c=true then aX P elt cD g3 (λy g4=>I (i+1) (ys++[y]) cD g4) jw else I (i+1) ys cD g3) jw) /\
      ∀ ys Z g,I l.length ys Z g->Q (.ref g.length) (g ++ [.lst ys])) E):aX P (.comp d4 n t (.iL a) cond elt) Z g Q E:=by
  refine M6 hP ?_;refine b0 hP a _ _ _ _ _ _ (λx g1 h=>?_) (λ_ _ z=>z) h;obtain⟨l,rfl,hj,I,h0,hz,hs,hd⟩:=h;exact .inl ⟨l,rfl,_,I,hj,λi ys Z g p=>⟨A6,hz i ys Z g p⟩,h0,hs,hd⟩
theorem Hc(I:Nat->S->G->Prop)(m0:Nat)(h0:I m0 Z g)(hs:∀m Z g,I m Z g->de P c Z g (λt g1=>if t=true then wpS P s ⟨λbI g'=>∃m',m'<m/\I m' bI g',N.rt,N.nx,λbI g'=>∃m',m'<m/\I m' bI g'⟩ Z g1 E else N.nx Z g1) E)(hP:j5 P):wpS P (.jC c s) N Z g E:=by
 refine⟨I,⟨m0,h0⟩,λm Z g p=>o8 hP c _ _ _ _ _ _ (λt g1 q=>?_) (λ_ _ z=>z) (hs m Z g p)⟩;cases t
 ·exact q
 ·exact⟨_,λ_ _ z=>z,q⟩
theorem oI(hP:j5 P)(h:aX P a Z g (λx g1=>∃j:Int,x=.int j/\-(2 ^ 62)<=j/\j<2 ^ 62/\R (.fix (j7 0 j.toNat)) g1) E):iJ P (.eE a) Z g R E:=h
theorem CJ(hP:j5 P)(h:aX P a Z g (λx g1=>∃l,x=.tup l/\R (.fix l) g1) E):iJ P (.iL a) Z g R E:=by
 exact b0 hP a _ _ _ _ _ _ (λx g1 h=>.inl h) (λ_ _ z=>z) h
theorem pN(hP:j5 P)(h:aX P a Z g (λx g1=>∃i l,x=.ref i/\c8 g1 i=some l/\R (.lst i) g1) E):iJ P (.iL a) Z g R E:=by
 exact b0 hP a _ _ _ _ _ _ (λx g1 h=>.inr h) (λ_ _ z=>z) h
theorem yj(h:aX P a Z g (λx g1=>∃i l,x=.ref i/\c8 g1 i=some l/\R (.rg i) g1) E):iJ P (.mJ a) Z g R E:=h
end
end M
namespace M
open PySem L2 PySem.Spec PyProof.Rows
variable{K:PySem.W.Frag}{x:Str}{C:Addr}
structure RF where
 id:Nat
 nm:Str
 N:List Str
 k:Nat
 i:Nat
 m:bj
structure RM where
 id:Nat
 cl:Str
 nm:Str
 qn:Str
 N:List Str
 k:Nat
 i:Nat
 j:Nat
 m:bj
def RF.d(tp:Nat->Stmt)(r:RF):nK:=⟨r.nm,r.nm,r.N,r.N.take r.k,tp r.i⟩
def RM.d(mt:Nat->Nat->Stmt)(r:RM):nK:=⟨r.nm,r.qn,r.N,r.N.take r.k,mt r.i r.j⟩
def rC(F:List RF)(M:List RM)(i:Nat):Option bj:=match F.find? λr=>Nat.beq r.id i with
 |some r=>some r.m
 |none=>(M.find? λr=>Nat.beq r.id i).map (·.m)
section
variable(tp:Nat->Stmt)(mt:Nat->Nat->Stmt)(K:PySem.W.Frag)
def PF:List RF->Prop
 |[]=>True
 |r::l=>(∃f fd,PySem.W.nsIn K mainGlobals r.nm=some (some (.ref f))/\oN K r.nm r.nm (tp r.i) f fd)/\PF l
def PM:List RM->Prop
 |[]=>True
 |r::l=>(∃C f fd,PySem.W.nsIn K mainGlobals r.cl=some (some (.ref C))/\Meth K C r.nm f/\oN K r.nm r.qn (mt r.i r.j) f fd)/\PM l
def PC:List (Str×Nat)->Prop
 |[]=>True
 |r::l=>(∃C,PySem.W.nsIn K mainGlobals r.1=some (some (.ref C))/\jx K C/\PySem.W.makesIn K C=true/\PySem.W.keepIn K (.ref C)=true)/\PC l
def PA:List (Str×Str)->Prop
 |[]=>True
 |r::l=>(∃C,PySem.W.nsIn K mainGlobals r.2=some (some (.ref C))/\PySem.W.findIn K (.ref C) r.1=some none)/\PA l
def PB:List Str->Prop
 |[]=>True
 |r::l=>PySem.W.nsIn K mainGlobals r=some none/\PB l
def PX:List Str->Prop
 |[]=>True
 |r::l=>(∃C,PySem.W.nsIn K mainGlobals r=some (some (.ref C))/\PySem.W.excIn K C [.type "ValueError",.type "Exception",.type "BaseException",.type "object"] "ValueError.__new__"=true)/\PX l
def BF:List RF->Prop
 |[]=>True
 |r::l=>(∀(kV doc pm:Value) (an:Option Addr) (fB ct:Value) (us:List Value),us.length=(r.N.take r.k).length->bindArgs (PySem.W.fnOf r.nm r.nm (C3 (tp r.i)) (t4 (tp r.i)) (p8 (tp r.i)) .none kV doc pm an fB ct) ⟨us,[]⟩=pure ((r.N.take r.k).zip us))/\BF l
def BM:List RM->Prop
 |[]=>True
 |r::l=>(∀(kV doc pm:Value) (an:Option Addr) (fB ct:Value) (us:List Value),us.length=(r.N.take r.k).length->bindArgs (PySem.W.fnOf r.nm r.qn (C3 (mt r.i r.j)) (t4 (mt r.i r.j)) (p8 (mt r.i r.j)) .none kV doc pm an fB ct) ⟨us,[]⟩=pure ((r.N.take r.k).zip us))/\BM l
def YF(c:f9):List RF->Prop
 |[]=>True
 |r::l=>u3 (comp 60) (c.at (r.d tp)) (t4 (tp r.i))=some r.m.body/\YF c l
def YM(c:f9):List RM->Prop
 |[]=>True
 |r::l=>u3 (comp 60) (c.at (r.d mt)) (t4 (mt r.i r.j))=some r.m.body/\YM c l
end
section
variable{tp:Nat->Stmt}{mt:Nat->Nat->Stmt}{c:f9}{id k i j:Nat}{cl nm qn:Str}{N:List Str}{m:bj}{f:Addr}{oc kV doc pm fB ct:Value}{od an:Option Addr}{lG:Array (Option Value)}
theorem PF.nil:PF tp K []:=trivial
theorem PF.cons{l:List RF}(a:PySem.W.nsIn K mainGlobals nm=some (some (.ref f)))(lk:K.lookup f=some ⟨oc,od,.func (PySem.W.fnOf nm nm (C3 (tp i)) (t4 (tp i)) (p8 (tp i)) .none kV doc pm an fB ct),lG⟩)(cd:PySem.W.codeIn K fB nm=true)(kp:PySem.W.keepIn K (.ref f)=true)(h:PF tp K l):PF tp K (⟨id,nm,N,k,i,m⟩::l):=⟨⟨f,_,a,NC lk cd kp⟩,h⟩
theorem PM.nil:PM mt K []:=trivial
theorem PC.nil:PC K []:=trivial
theorem PA.nil:PA K []:=trivial
theorem PB.nil:PB K []:=trivial
theorem PB.cons{l:List Str}(cn:PySem.W.nsIn K mainGlobals x=some none)(h:PB K l):PB K (x::l):=⟨cn,h⟩
theorem PX.nil:PX K []:=trivial
theorem PX.cons{l:List Str}(cn:PySem.W.nsIn K mainGlobals x=some (some (.ref C)))(q:PySem.W.excIn K C [.type "ValueError",.type "Exception",.type "BaseException",.type "object"] "ValueError.__new__"=true)(h:PX K l):PX K (x::l):=⟨⟨C,cn,q⟩,h⟩
theorem Ce{P:List Value->Prop}{n:Nat}(h:∀a vs,vs.length=n->P (a::vs))(us:List Value)(hl:us.length=n+1):P us:=by
 cases us with
 |nil=>cases hl
 |cons a vs=>exact h a vs (Nat.succ.inj hl)
theorem Cd{P:List Value->Prop}(h:P [])(us:List Value)(hl:us.length=0):P us:=by
 cases List.length_eq_zero_iff.mp hl;exact h
theorem BF.nil:BF tp []:=trivial
theorem BF.cons{l:List RF}(h:∀(kV doc pm:Value) (an:Option Addr) (fB ct:Value) (us:List Value),us.length=(N.take k).length->bindArgs (PySem.W.fnOf nm nm (C3 (tp i)) (t4 (tp i)) (p8 (tp i)) .none kV doc pm an fB ct) ⟨us,[]⟩=pure ((N.take k).zip us))(h2:BF tp l):BF tp (⟨id,nm,N,k,i,m⟩::l):=⟨h,h2⟩
theorem BM.nil:BM mt []:=trivial
theorem YF.nil:YF tp c []:=trivial
theorem YF.cons{l:List RF}(h:u3 (comp 60) (c.at ⟨nm,nm,N,N.take k,tp i⟩) (t4 (tp i))=some m.body)(h2:YF tp c l):YF tp c (⟨id,nm,N,k,i,m⟩::l):=⟨h,h2⟩
theorem YM.nil:YM mt c []:=trivial
theorem YF.get:∀{l:List RF},YF tp c l->∀r∈l,u3 (comp 60) (c.at (r.d tp)) (t4 (tp r.i))=some r.m.body
 |_::_,h,r,hr=>(aA.mp hr).elim (λz=>z▸h.1) (YF.get h.2 r)
theorem YM.get:∀{l:List RM},YM mt c l->∀r∈l,u3 (comp 60) (c.at (r.d mt)) (t4 (mt r.i r.j))=some r.m.body
 |_::_,h,r,hr=>(aA.mp hr).elim (λz=>z▸h.1) (YM.get h.2 r)
theorem PF.get:∀{l:List RF},PF tp K l->∀r∈l,∃f fd,PySem.W.nsIn K mainGlobals r.nm=some (some (.ref f))/\oN K r.nm r.nm (tp r.i) f fd
 |_::_,h,r,hr=>(aA.mp hr).elim (λz=>z▸h.1) (PF.get h.2 r)
theorem PM.get:∀{l:List RM},PM mt K l->∀r∈l,∃C f fd,PySem.W.nsIn K mainGlobals r.cl=some (some (.ref C))/\Meth K C r.nm f/\oN K r.nm r.qn (mt r.i r.j) f fd
 |_::_,h,r,hr=>(aA.mp hr).elim (λz=>z▸h.1) (PM.get h.2 r)
theorem PC.get:∀{l:List (Str×Nat)},PC K l->∀r∈l,∃C,PySem.W.nsIn K mainGlobals r.1=some (some (.ref C))/\jx K C/\PySem.W.makesIn K C=true/\PySem.W.keepIn K (.ref C)=true
 |_::_,h,r,hr=>(aA.mp hr).elim (λz=>z▸h.1) (PC.get h.2 r)
theorem PA.get:∀{l:List (Str×Str)},PA K l->∀r∈l,∃C,PySem.W.nsIn K mainGlobals r.2=some (some (.ref C))/\PySem.W.findIn K (.ref C) r.1=some none
 |_::_,h,r,hr=>(aA.mp hr).elim (λz=>z▸h.1) (PA.get h.2 r)
theorem PB.get:∀{l:List Str},PB K l->∀r∈l,PySem.W.nsIn K mainGlobals r=some none
 |_::_,h,r,hr=>(aA.mp hr).elim (λz=>z▸h.1) (PB.get h.2 r)
theorem PX.get:∀{l:List Str},PX K l->∀r∈l,∃C,PySem.W.nsIn K mainGlobals r=some (some (.ref C))/\PySem.W.excIn K C [.type "ValueError",.type "Exception",.type "BaseException",.type "object"] "ValueError.__new__"=true
 |_::_,h,r,hr=>(aA.mp hr).elim (λz=>z▸h.1) (PX.get h.2 r)
theorem BF.get:∀{l:List RF},BF tp l->∀r∈l,∀(kV doc pm:Value) (an:Option Addr) (fB ct:Value) (us:List Value),us.length=(r.N.take r.k).length->bindArgs (PySem.W.fnOf r.nm r.nm (C3 (tp r.i)) (t4 (tp r.i)) (p8 (tp r.i)) .none kV doc pm an fB ct) ⟨us,[]⟩=pure ((r.N.take r.k).zip us)
 |_::_,h,r,hr=>(aA.mp hr).elim (λz=>z▸h.1) (BF.get h.2 r)
theorem BM.get:∀{l:List RM},BM mt l->∀r∈l,∀(kV doc pm:Value) (an:Option Addr) (fB ct:Value) (us:List Value),us.length=(r.N.take r.k).length->bindArgs (PySem.W.fnOf r.nm r.qn (C3 (mt r.i r.j)) (t4 (mt r.i r.j)) (p8 (mt r.i r.j)) .none kV doc pm an fB ct) ⟨us,[]⟩=pure ((r.N.take r.k).zip us)
 |_::_,h,r,hr=>(aA.mp hr).elim (λz=>z▸h.1) (BM.get h.2 r)
end
def vC(N P:List Str)(sc:Scope):Bool:=decide (sc.kind=.function)&&!sc.isCoroutine&&!sc.isGenerator&&decide N.Nodup&&decide (N.take P.length=P)&&P.all (λx=>decide (sc.names.lookup x=some .local)||decide (sc.names.lookup x=some .cell))&&sc.names.all λy=>decide (y.2≠.free)
theorem Ge{N P:List Str}{sc:Scope}(h:vC N P sc=true):ia N P sc:=by
 unfold vC at h;simp only[Bool.and_eq_true,decide_eq_true_eq,Bool.not_eq_true',List.all_eq_true,Bool.or_eq_true] at h;obtain⟨⟨⟨⟨⟨⟨h1,h2⟩,h3⟩,h4⟩,h5⟩,h6⟩,h7⟩:=h;exact⟨h1,h2,h3,h4,h5,h6,h7⟩
theorem UN{h₀:Heap}{mg:Str->Option Value}{DP:List Value}{newId:String}(X:K.In h₀)(G:h₀.Ns mainGlobals mg)(e:PySem.W.nsIn K mainGlobals x=some (some (.ref C)))(q:PySem.W.excIn K C DP newId=true):PyProof.Rows.OwnCls x C DP newId mg h₀:=by
 refine⟨cz X G e,?_⟩;unfold PySem.W.excIn at q;split at q
 ·rename_i dd cd sl ho;split at q
  ·rename_i C' bm k0 k1 k2 k3 n k5 hm hs;simp only[Bool.and_eq_true,beq_iff_eq,Bool.not_eq_true'] at q;obtain⟨⟨⟨⟨⟨z1,z2⟩,tV⟩,ht⟩,bC⟩,vN⟩:=q;subst z1;subst z2;obtain⟨nm,bs,mro,ns,qn,hd,sn,sub,ab,col,del⟩:=cd;dsimp only at hm tV bC vN;subst hm tV;have Jw:sl=#[k0,k1,k2,k3,some (.builtin n),k5]:=by
    obtain⟨l⟩:=sl;simp only at hs;rw[hs]
   subst Jw;exact⟨bm,ns,nm,qn,bs,hd,sn,sub,ab,col,dd,k0,k1,k2,k3,k5,_,X _ _ ho,.of_isNs (PySem.W.isNs_of_in X bC),PySem.W.nsMap_none_of_in X bC vN,PySem.W.tail_of_in X ht⟩
  ·cases q
 ·cases q
def O5(K:PySem.W.Frag)(x:Str):Addr:=match PySem.W.nsIn K mainGlobals x with
 |some (some (.ref C))=>C
 |_=>0
def GB(K:PySem.W.Frag)(exc:List Str):Bool:=exc.all λx=>exc.all λy=>decide (PySem.W.exmOne K (.ref (O5 K x)) (.ref (O5 K y))=some (decide (x=y\/y="MintError")))
theorem NB{exc:List Str}(h:GB K exc=true){y:Str}{C':Addr}(hx:exc.contains x=true)(hy:exc.contains y=true)(hC:o7 K x C)(zc:o7 K y C'):PySem.W.exmOne K (.ref C) (.ref C')=some (decide (x=y\/y="MintError")):=by
 have h1:=eX.mp h x (by simpa using hx);have h2:=bS (eX.mp h1 y (by simpa using hy));have e1:O5 K x=C:=by unfold O5;rw[show PySem.W.nsIn K mainGlobals x=_ from hC]
 have e2:O5 K y=C':=by unfold O5;rw[show PySem.W.nsIn K mainGlobals y=_ from zc]
 rw[e1,e2] at h2;exact h2
theorem As{α:Type}{f:α->Nat}:∀{l:List α},(l.map f).Nodup->∀r∈l,l.find? (λx=>Nat.beq (f x) (f r))=some r
 |y::l,nd,r,hr=>by
  rw[aW,dY] at nd;rcases aA.mp hr with rfl|hr
  ·rw[List.find?_cons_of_pos];exact Nat.beq_refl _
  ·rw[List.find?_cons_of_neg]
   ·exact As nd.2 r hr
   ·intro z;exact nd.1 (aN.mpr ⟨r,hr,(ij z).symm⟩)
theorem Qe{α β:Type}{f:α->Nat}{g:β->Nat}{l:List α}{r:β}(h:g r∉l.map f):l.find? (λx=>Nat.beq (f x) (g r))=none:=by
 rw[Iy];intro x hx z;exact h (aN.mpr ⟨x,hx,ij z⟩)
section
variable{w:World}{h₀:Heap}{mg:Str->Option Value}{c:f9}{F:List RF}{M:List RM}{tp:Nat->Stmt}{mt:Nat->Nat->Stmt}
structure kB(K:PySem.W.Frag)(c:f9)(F:List RF)(M:List RM)(tp:Nat->Stmt)(mt:Nat->Nat->Stmt):Prop where
 qF:PF tp K F
 qM:PM mt K M
 qC:PC K c.cls
 qA:PA K c.mT
 qB:PB K c.blt
 qX:PX K c.exc
 xm:GB K c.exc=true
structure kA(c:f9)(F:List RF)(M:List RM)(tp:Nat->Stmt)(mt:Nat->Nat->Stmt):Prop where
 cf:c.fns=F.map λr=>(r.nm,r.id)
 cm:c.nU=M.map λr=>(r.nm,r.cl,r.id)
 ci:c.cls.all (λy=>M.any λr=>decide (r.cl=y.1)&&decide (r.nm="__init__")&&Nat.beq r.id y.2)=true
 nd:(F.map (·.id)++M.map (·.id)).Nodup
 sF:F.all (λr=>vC r.N (r.N.take r.k) (p8 (tp r.i))&&decide (r.m.ar=(r.N.take r.k).length)&&decide (r.m.n=r.N.length))=true
 sM:M.all (λr=>vC r.N (r.N.take r.k) (p8 (mt r.i r.j))&&decide (r.m.ar=(r.N.take r.k).length)&&decide (r.m.n=r.N.length))=true
 oF:YF tp c F
 oM:YM mt c M
 bF:BF tp F
 bM:BM mt M
theorem GV(I:kB K c F M tp mt)(X:kA c F M tp mt)(r:RF)(hr:r∈F):∃f fd,jb K c (r.d tp) r.m f fd/\PySem.W.nsIn K mainGlobals r.nm=some (some (.ref f))/\rC F M r.id=some r.m:=by
 obtain⟨f,fd,a,q⟩:=I.qF.get r hr;have s:=eX.mp X.sF r hr;simp only[Bool.and_eq_true,decide_eq_true_eq] at s;have o:=X.oF.get r hr;refine⟨f,fd,⟨q,q.binds (X.bF.get r hr),Ge s.1.1,o,s.1.2,s.2⟩,a,?_⟩;unfold rC;rw[As (f:=(·.id)) (cL.mp X.nd).1 r hr]
theorem GW(I:kB K c F M tp mt)(X:kA c F M tp mt)(r:RM)(hr:r∈M):∃C f fd,jb K c (r.d mt) r.m f fd/\PySem.W.nsIn K mainGlobals r.cl=some (some (.ref C))/\Meth K C r.nm f/\rC F M r.id=some r.m:=by
 obtain⟨C,f,fd,a,q1,q⟩:=I.qM.get r hr;have s:=eX.mp X.sM r hr;simp only[Bool.and_eq_true,decide_eq_true_eq] at s;have o:=X.oM.get r hr;refine⟨C,f,fd,⟨q,q.binds (X.bM.get r hr),Ge s.1.1,o,s.1.2,s.2⟩,a,q1,?_⟩;have nd:=cL.mp X.nd;unfold rC;rw[Qe (f:=λr:RF=>r.id) (g:=λr:RM=>r.id) (r:=r) (λz=>nd.2.2 _ z _ (aN.mpr ⟨r,hr,rfl⟩) rfl),As (f:=λr:RM=>r.id) nd.2.1 r hr]
 rfl
theorem Pz(I:kB K c F M tp mt)(Y:kA c F M tp mt)(X:K.In h₀)(G:h₀.Ns mainGlobals mg)(con:∀x d,c.con.lookup x=some d->∃v u,mg x=some u/\RelV v u/\∀ρ H,d7 K ρ H d v)(qb:∀x kvs,c.gd.lookup x=some kvs->∃A vs,mg x=some (.ref A)/\uR K w.params A vs/\oE K kvs vs):mm w K mg c (rC F M):=by
 refine⟨λx i hx=>?_,λx i hx=>?_,λx y i C hx hC=>?_,λf y C hx hC=>?_,con,λx hx=>?_,λx hx=>?_,λx y C C' hx hy hC zc=>NB I.xm hx hy hC zc,qb⟩
 ·have hm:=aJ hx;rw[Y.cf] at hm;obtain⟨r,hr,e⟩:=aN.mp hm;cases e;obtain⟨f,fd,O,a,t⟩:=GV I Y r hr;exact⟨_,_,f,fd,t,O,cz X G a⟩
 ·have hm:=aJ hx;have h1:=eX.mp Y.ci _ hm;obtain⟨r,hr,e⟩:=eW.mp h1;simp only[Bool.and_eq_true,decide_eq_true_eq] at e;obtain⟨⟨e1,e2⟩,e3⟩:=e;have e3:=ij e3;obtain⟨C,f,fd,O,a,q,t⟩:=GW I Y r hr;obtain⟨C',a',hc,mk,kp⟩:=I.qC.get _ hm;rw[e1] at a;cases a.symm.trans a';rw[e2] at q;rw[e3] at t;exact⟨C,_,_,f,fd,t,O,cz X G a,a,hc,⟨mk,q.at_,q.fn,kp⟩⟩
 ·rw[Y.cm] at hx;obtain⟨r,hr,e⟩:=aN.mp hx;cases e;obtain⟨C',f,fd,O,a,q,t⟩:=GW I Y r hr;cases a.symm.trans hC;exact⟨_,_,f,fd,t,O,q⟩
 ·obtain⟨C',a,q⟩:=I.qA.get _ hx;cases a.symm.trans hC;exact q
 ·exact PySem.W.mg_none_of X G (I.qB.get x (by simpa using hx))
 ·obtain⟨C,a,q⟩:=I.qX.get x (by simpa using hx);exact⟨_,cz X G a,a,λbase mI uk=>⟨_,_,_,_,UN mI uk a q,PySem.F.excBase_ValueError⟩⟩
end
end M
namespace M
open PySem L2
variable{g g':G}{i j n k a b m x p sd:Nat}{o o':O}{P:eM}{Q:KD}{E:KX}{N:Ends}{ms ns:List Int}{l:List D}{α:Type}{r v:Int}{c c':a8}{kvs:List (Key×D)}{cs:List a8}
set_option hygiene false
local macro_rules|`(tactic|walk_at"w1")=>`(tactic|with_reducible first|refine H9 ?_|refine wz ?_|refine P9 ?_|refine HZ ?_|refine Gm ?_|refine Ic ?_|refine Az ?_|refine oY ?_|refine wy ?_|refine B7 ?_|refine oZ ?_|(refine w_var (d:=?_) ?_ ?_;rotate_left;·with_unfolding_all rfl)|refine w_lit ?_|refine Z1 ?_|refine rD ?_|refine Ec ?_|refine Gp ?_|refine Ha ?_|refine w_and ?_|refine w_or ?_|refine w_not ?_|refine w_ite ?_|refine Z3 ?_|refine pb ?_|refine nc ?_|refine uY ?_|refine M5 ?_|refine Gq ?_|refine Ia ?_|refine Gs ?_|refine Bw ?_|refine wA ?_|refine Hd ?_|refine He ?_|refine HX ?_|refine DL ?_|refine DK ?_|refine DJ ?_|refine DI ?_|refine Hl ?_|refine Bg ?_|refine Hk ?_|refine Hw ?_|refine Hm ?_|refine Hn ?_|refine Hq ?_|refine Ho ?_|refine Ht ?_|refine Hu ?_|refine Hr ?_|refine oH ?_|refine uH ?_|refine uG ?_|refine uE ?_|refine uF ?_|refine Hv ?_|refine Z5 ?_|refine U4 ?_|refine FV ?_|refine jj ?_|refine E9 ?_|refine S5 ?_|refine X0 ?_|refine sZ ?_|refine pC ?_|refine pA ?_|refine pB ?_|refine sJ ?_|refine HI ?_|refine su ?_)
local macro_rules|`(tactic|walk_at"w2")=>`(tactic|repeat(with_reducible first|walk_at "w1"|refine rK (by simp) ?_|refine rJ (by simp) ?_|refine p7 (a7 (by assumption)) (by with_unfolding_all rfl) ?_|refine M4 (a7 (by assumption)) ?_|refine Y0 (by unfold N5;decide) ?_))
local macro_rules|`(tactic|walk_at"w3")=>`(tactic|repeat(with_reducible first|walk_at "w1"|refine rK (by simp) ?_|refine rJ (by simp) ?_|refine p7 (a7 (by assumption)) (by with_unfolding_all rfl) ?_|refine M4 (a7 (by assumption)) ?_|refine Y0 (by unfold N5;decide) ?_|refine And.intro (show List.length _ <= 1000 from by simp) ?_|refine T2 (by with_unfolding_all rfl) ?_|refine A2 ?_|refine J9 (by with_unfolding_all rfl) ?_))
local macro_rules|`(tactic|walk_at"")=>`(tactic|repeat(with_reducible first|walk_at "w1"|refine Hb ?_|refine Ib ?_|refine Gn ?_|refine Hx ?_|refine sx ?_|refine sv ?_|refine max2 ?_|refine min2 ?_|refine HE ?_|refine S6 ?_|refine zq ?_|refine ur ?_|refine rK (by simp) ?_|refine rJ (by simp) ?_|refine p7 (a7 (by assumption)) (by with_unfolding_all rfl) ?_|refine M4 (a7 (by assumption)) ?_|refine Y0 (by unfold N5;decide) ?_|refine And.intro (show List.length _ <= 1000 from by simp) ?_|refine T2 (by with_unfolding_all rfl) ?_|refine A2 ?_|refine J9 (by with_unfolding_all rfl) ?_|refine And.intro (P0 (by assumption)) ?_|refine And.intro (FX (by assumption)) ?_|refine And.intro (AZ (by assumption)) ?_|refine K5 (by decide) ?_|refine FN (by decide) (by decide) ?_|refine yj ?_))
abbrev fN(a:ME):ME:=.cons a .nil
abbrev cT(a b:ME):ME:=.cons a (.cons b .nil)
abbrev kn(a b c:ME):ME:=.cons a (.cons b (.cons c .nil))
abbrev sj(a b c d:ME):ME:=.cons a (.cons b (.cons c (.cons d .nil)))
abbrev my(a b c d e:ME):ME:=.cons a (.cons b (.cons c (.cons d (.cons e .nil))))
abbrev Dn(a b c d e f:ME):ME:=.cons a (.cons b (.cons c (.cons d (.cons e (.cons f .nil)))))
abbrev Kq(a b c d e f g:ME):ME:=.cons a (.cons b (.cons c (.cons d (.cons e (.cons f (.cons g .nil))))))
abbrev dX(o:PySem.CmpOp)(a b:ME):ME:=.fE (.prim (.cmp o) (.cons a (.cons b .nil)))
abbrev cS(a b:ME):ME:=.prim .ix (.cons a (.cons b .nil))
abbrev aP(a:Int):ME:=.lit (.int a)
abbrev mH(a:PySem.Str):ME:=.lit (.str a)
abbrev dD(p:Pr)(a:ME):ME:=.prim p (.cons a .nil)
abbrev bO(p:Pr)(a b:ME):ME:=.prim p (.cons a (.cons b .nil))
abbrev aO:ME:=.var 0
abbrev bp:ME:=.var 1
abbrev jK:ME:=.var 10
abbrev kq:ME:=.var 12
abbrev tq:ME:=.var 13
abbrev nV:ME:=.var 15
abbrev tm:ME:=.var 16
abbrev cc:ME:=.var 2
abbrev cE:ME:=.var 3
abbrev da:ME:=.var 4
abbrev eY:ME:=.var 5
abbrev eL:ME:=.var 6
abbrev gf:ME:=.var 7
abbrev hU:ME:=.var 8
abbrev nt:ME:=.var 9
def u7:bj:=⟨2,5,(.seq (.ifs (.dw (dX .Lt (cS aO (aP 2)) bp) (dX .Lt (cS aO (aP 1)) (dD .len (cS aO (aP 0))))) (.seq (.set 2 (cS (cS aO (aP 0)) (cS aO (aP 1)))) (.seq (.dS aO (aP 1) (bO (.bin .Add) (cS aO (aP 1)) (aP 1))) (.seq (.dS aO (aP 2) (aP 0)) (.seq (.ifs (dX .GtE cc (bO (.bin .Pow) (aP 10) (aP 18))) (.seq (.dS aO (aP 2) cc) .pass) (.seq (.dS aO (aP 3) (bO (.bin .Mod) (bO (.bin .Add) (bO (.bin .Add) (bO (.bin .Mult) (cS aO (aP 3)) (aP 48271)) (bO (.bin .Mult) (bO (.bin .Mod) cc (aP 2147483629)) (aP 69621))) (aP 12345)) (aP 2147483647))) .pass)) .pass)))) .pass) (.seq (.ifs (dX .GtE (cS aO (aP 2)) bp) (.seq (.set 3 (bO (.bin .Mod) (cS aO (aP 2)) bp)) (.seq (.dS aO (aP 2) (bO (.bin .FloorDiv) (cS aO (aP 2)) bp)) (.seq (.ret cE) .pass))) .pass) (.seq (.set 4 (cS aO (aP 3))) (.seq (.dS aO (aP 3) (bO (.bin .Mod) (bO (.bin .Add) (bO (.bin .Add) (bO (.bin .Mult) (bO (.bin .Mod) (bO (.bin .Mult) da da) (aP 2147483629)) (aP 5)) (bO (.bin .Mult) da (aP 16811))) (aP 2531011)) (aP 2147483647))) (.seq (.ret (bO (.bin .Mod) (bO (.bin .Add) (bO (.bin .FloorDiv) (cS aO (aP 3)) (aP 59)) (bO (.bin .Mult) (bO (.bin .Mod) (cS aO (aP 3)) (aP 8191)) (aP 31))) bp)) .pass)))))⟩
def W3:bj:=⟨1,2,(.seq (.set 1 (.call 4 (cT aO (bO (.bin .Pow) (aP 10) (aP 9))))) (.seq (.ifs (dX .Eq (.call 4 (cT aO (aP 2))) (aP 0)) (.seq (.set 1 (bO (.bin .Add) bp (bO (.bin .Pow) (aP 10) (aP 25)))) .pass) .pass) (.seq (.ifs (dX .Eq (.call 4 (cT aO (aP 2))) (aP 0)) (.seq (.ret (bO (.bin .Sub) (dD (.un .USub) (aP 1)) bp)) .pass) .pass) (.seq (.ret bp) .pass))))⟩
structure i6(g:G)(d:Nat):Prop where
 ex:∃(s:Nat) (p b r:Int) (xs:List Int),g[d]?=some (.lst [.ref s,.int p,.int b,.int r])/\g[s]?=some (.lst (xs.map .int))/\s<d/\0<=p/\0<=b/\0<=r/\r<2147483647
structure Gr(d:Nat)(g g':G):Prop where
 len:g.length<=g'.length
 old:∀i,i≠d->i<g.length->g'[i]?=g[i]?
theorem Gr.refl(d:Nat)(g:G):Gr d g g:=⟨ak _,λ_ _ _=>rfl⟩
theorem Gr.trans{d:Nat}{g g1 g2:G}(a:Gr d g g1)(b:Gr d g1 g2):Gr d g g2:=⟨aM a.len b.len,λi h1 h2=>(b.old i h1 (ay h2 a.len)).trans (a.old i h1 h2)⟩
theorem Gr.set(d:Nat)(g:G)(o:O):Gr d g (g.set d o):=⟨by simp,λi h1 h2=>av (bB h1)⟩
theorem Gr.snoc(d:Nat)(g:G)(o:O):Gr d g (g++[o]):=⟨by simp,λi h1 h2=>au h2⟩
theorem Gr.at{d:Nat}(h:Gr d g g')(hi:i≠d)(e:g[i]?=some o):g'[i]?=some o:=(h.old i hi (aq.mp e).1).trans e
theorem o6(h:g[i]?=some o):i<g.length:=(aq.mp h).1
theorem i6.lt{d:Nat}(h:i6 g d):d<g.length:=by
 obtain⟨_,_,_,_,_,e,_⟩:=h.ex;exact o6 e
theorem i6.snoc{d:Nat}(h:i6 g d)(o:O):i6 (g++[o]) d:=by
 obtain⟨s,p,b,r,xs,e1,e2,q⟩:=h.ex;exact⟨s,p,b,r,xs,by rw[au (o6 e1)];exact e1,by rw[au (o6 e2)];exact e2,q⟩
def i7:MS->MS
 |.seq _ b=>b
 |x=>x
theorem zU{i j:Int}(h1:-(2 ^ 64)<i)(h2:i<2 ^ 64):Y4 i j:=.inl ⟨h1,h2⟩
theorem U0{i j:Int}(h1:-(2 ^ 64)<j)(h2:j<2 ^ 64):Y4 i j:=.inr ⟨h1,h2⟩
theorem U'{d:Nat}{n:Int}{c2:Option D}(hN:N.rt=Q)(D0:i6 g d)(hn:0<n)(nZ:n<1073741824)(h:∀r g',0<=r->r<n->i6 g' d->Gr d g g'->Q (.int r) g'):wpS P (i7 u7.body) N [some (.ref d),some (.int n),c2,none,none] g E:=by
 obtain⟨s,p,b,r,xs,e1,e2,nz,hp,hb,hr,qQ⟩:=D0.ex;have eF:=o6 e1;subst hN;dsimp[u7,i7];walk_at "w2";refine if2 (λc=>?_) (λc=>?_)
 ·walk_at "w2";refine K5 hn ?_;walk_at "w2";refine wb ⟨hn,nZ⟩ ?_;walk_at "w2";refine Q2 e1 (by with_unfolding_all rfl) ?_;walk_at "w2";refine h _ _ (dZ _ (by omega)) (dn _ hn) ⟨s,p,b / n,r,xs,?_,?_,nz,hp,Int.ediv_nonneg hb (by omega),hr,qQ⟩ (Gr.set d g _)
  ·rw[aR eF];rfl
  ·rw[av (bU nz)];exact e2
 ·walk_at "w2";have Cq:-(2 ^ 64)<r/\r<2 ^ 64:=⟨by omega,by omega⟩
  refine K4 (zU Cq.1 Cq.2) ?_;walk_at "w2";refine K5 (by decide) ?_;walk_at "w2";refine K4 (U0 (by decide) (by decide)) ?_;walk_at "w2";refine K4 (U0 (by decide) (by decide)) ?_;walk_at "w2";refine K5 (by decide) ?_;walk_at "w2";refine Q2 e1 (by with_unfolding_all rfl) ?_;generalize tH:(r*r % 2147483629*5+r*16811+2531011) % 2147483647=r';have q0:0<=r':=by rw[<- tH];exact dZ _ (by decide)
  have q1:r'<2147483647:=by rw[<- tH];exact dn _ (by decide)
  have KU:(g.set d (.lst [.ref s,.int p,.int b,.int r']))[d]?=some (.lst [.ref s,.int p,.int b,.int r']):=aR eF;show wpS P _ _ _ (g.set d (.lst [.ref s,.int p,.int b,.int r'])) E;walk_at "w2";refine wb ⟨by decide,by decide⟩ ?_;walk_at "w2";refine K5 (by decide) ?_;walk_at "w2";refine K4 (U0 (by decide) (by decide)) ?_;walk_at "w2";refine K5 hn ?_;walk_at "w2";refine h _ _ (dZ _ (by omega)) (dn _ hn) ⟨s,p,b,r',xs,KU,?_,nz,hp,hb,q0,q1⟩ (Gr.set d g _);rw[av (bU nz)];exact e2
theorem d5{T:Nat->Option bj}(hT:T 4=some u7){d:Nat}{n:Int}(D0:i6 g d)(hn:0<n)(nZ:n<1073741824)(h:∀r g',0<=r->r<n->i6 g' d->Gr d g g'->Q (.int r) g'):b9 T (k+1) 4 [.ref d,.int n] g Q E:=by
 obtain⟨s,p,b,r,xs,e1,e2,nz,hp,hb,hr,qQ⟩:=D0.ex;have eF:=o6 e1;refine call_of hT rfl ?_;have tail:∀(g':G) (c2:Option D),i6 g' d->Gr d g g'->wpS (b9 T k) (i7 u7.body) ⟨λ_ g'=>Q .bL g',Q,λ_ _=>False,λ_ _=>False⟩ [some (.ref d),some (.int n),c2,none,none] g' E :=
  λg' c2 D1 gr=>U' rfl D1 hn nZ λr g2 a b c e=>h r g2 a b c (gr.trans e)
 dsimp[u7,d8,List.replicate];walk_at "w2";refine if2 (λc=>?_) (λc=>?_)
 ·walk_at "w2";refine if2 (λc'=>?_) (λc'=>?_)
  ·walk_at "w2";have iY:p.toNat<xs.length:=by
    rw[ah] at c';omega
   have ea:gj (xs.map D.int) p=some (.int xs[p.toNat]):=by
    have:=L6 (xs:=xs.map D.int) (j:=p.toNat) (v:=.int xs[p.toNat]) (by rw[aD,az iY];rfl)
    rwa [show((p.toNat:Nat):Int)=p by omega] at this
   refine p7 (a7 e2) ea ?_;generalize xs[p.toNat]=cell;walk_at "w2";refine Q2 e1 (by with_unfolding_all rfl) ?_;have f1:(g.set d (.lst [.ref s,.int (p+1),.int b,.int r]))[d]?=some (.lst [.ref s,.int (p+1),.int b,.int r]):=aR eF;show wpS (b9 T k) _ _ _ (g.set d (.lst [.ref s,.int (p+1),.int b,.int r])) E;walk_at "w2";refine Q2 f1 (by with_unfolding_all rfl) ?_;rw[rT];have f2:(g.set d (.lst [.ref s,.int (p+1),.int 0,.int r]))[d]?=some (.lst [.ref s,.int (p+1),.int 0,.int r]):=aR eF;show wpS (b9 T k) _ _ _ (g.set d (.lst [.ref s,.int (p+1),.int 0,.int r])) E;walk_at "w2";refine if2 (λc2=>?_) (λc2=>?_)
   ·walk_at "w2";refine Q2 f2 (by with_unfolding_all rfl) ?_;rw[rT];refine tail _ _ ⟨s,p+1,cell,r,xs,aR eF,by rw[av (bU nz)];exact e2,nz,by omega,?_,hr,qQ⟩ (Gr.set d g _);have:(10:Int) ^ (18:Int).toNat<=cell:=c2;have Dm:(0:Int)<=10 ^ (18:Int).toNat:=by decide
    omega
   ·walk_at "w2";refine K4 (U0 (by decide) (by decide)) ?_;walk_at "w2";refine K5 (by decide) ?_;walk_at "w2";refine K4 (U0 (by decide) (by decide)) ?_;walk_at "w2";refine K5 (by decide) ?_;walk_at "w2";refine Q2 f2 (by with_unfolding_all rfl) ?_;rw[rT];exact tail _ _ ⟨s,p+1,0,_,xs,aR eF,by rw[av (bU nz)];exact e2,nz,by omega,by decide,dZ _ (by decide),dn _ (by decide)⟩ (Gr.set d g _)
  ·walk_at "w1";exact tail _ _ D0 (Gr.refl _ _)
 ·walk_at "w1";walk_at "w1";exact tail _ _ D0 (Gr.refl _ _)
theorem zV{T:Nat->Option bj}(hT:T 4=some u7)(J':T 5=some W3){d:Nat}(D0:i6 g d)(h:∀r g',i6 g' d->Gr d g g'->Q (.int r) g'):b9 T (k+2) 5 [.ref d] g Q E:=by
 refine call_of J' rfl ?_;dsimp[W3,d8,List.replicate];walk_at "w2";refine d5 hT D0 (by decide) (by decide) λr1 g1 _ _ D1 G1=>?_;walk_at "w2";refine d5 hT D1 (by decide) (by decide) λr2 g2 _ _ D2 G2=>?_;walk_at "w2";have Ih:=G1.trans G2;have last:∀(x:Int),wpS (b9 T (k+1)) (i7 (i7 W3.body)) ⟨λ_ g'=>Q .bL g',Q,λ_ _=>False,λ_ _=>False⟩ [some (.ref d),some (.int x)] g2 E:=λx=>by
  dsimp[W3,i7];walk_at "w2";refine d5 hT D2 (by decide) (by decide) λr3 g3 _ _ D3 G3=>?_;walk_at "w2";refine if2 (λc=>?_) (λc=>?_)
  ·walk_at "w2";exact h _ _ D3 (Ih.trans G3)
  ·walk_at "w2";exact h _ _ D3 (Ih.trans G3)
 refine if2 (λc=>?_) (λc=>?_)
 ·refine H9 ?_;refine P9 ?_;refine Z1 ?_;walk_at "w1";refine Z1 ?_;walk_at "w1";walk_at "w1";refine Y0 (by unfold N5;decide) ?_;walk_at "w1";exact last _
 ·exact last _
def AU:bj:=⟨1,1,(.seq (.ret (.dw (bO .isin aO (.lit (.ty "int"))) (.et (bO .isin aO (.lit (.ty "bool")))))) .pass)⟩
def R9:bj:=⟨3,3,(.seq (.ret (.dw (.call 38 (fN aO)) (.chain .LtE .LtE bp aO cc))) .pass)⟩
structure NF(T:Nat->Option bj):Prop where
 nf:T 1=some R9
 is:T 38=some AU
def E5:bj:=⟨1,3,(.seq (.set 1 (aP 0)) (.seq (.dF (.one 2) (.iL aO) (.seq (.ifs (.et (.fE (.call 1 (kn cc bp (aP 7))))) (.seq (.ret (.lit (.bl false))) .pass) .pass) (.seq (.set 1 (bO (.bin .Add) cc (aP 1))) .pass))) (.seq (.ret (.lit (.bl true))) .pass)))⟩
def wt:bj:=⟨1,1,(.seq (.ret (.prim .lst (sj (dD .list (bO (.ko false true) aO (aP 63))) (aP 0) (aP 0) (aP 29)))) .pass)⟩
def uL:bj:=⟨1,1,(.seq (.ret (.dw (bO .isin aO (.lit (.ty "int"))) (.et (bO .isin aO (.lit (.ty "bool")))))) .pass)⟩
def B3:bj:=⟨2,2,(.seq (.ifs (dX .Is bp (.lit .bL)) (.seq (.ret (bO (.cmp .Is) aO (.lit .bL))) .pass) .pass) (.seq (.ifs (.fE (bO .isin bp (.lit (.ty "bool")))) (.seq (.ret (.dw (bO .isin aO (.lit (.ty "bool"))) (bO (.cmp .Eq) aO bp))) .pass) .pass) (.seq (.ifs (.fE (bO .isin bp (.lit (.ty "int")))) (.seq (.ret (.dw (.call 6 (fN aO)) (bO (.cmp .Eq) aO bp))) .pass) .pass) (.seq (.ifs (.fE (bO .isin bp (.lit (.ty "str")))) (.seq (.ret (.dw (bO .isin aO (.lit (.ty "str"))) (bO (.cmp .Eq) aO bp))) .pass) .pass) (.seq (.ifs (.jh (dX .NotEq (bO .isin bp (.lit (.ty "tuple"))) (bO .isin aO (.lit (.ty "tuple")))) (dX .NotEq (bO .isin bp (.lit (.ty "list"))) (bO .isin aO (.lit (.ty "list"))))) (.seq (.ret (.lit (.bl false))) .pass) .pass) (.seq (.ifs (dX .NotEq (dD .len aO) (dD .len bp)) (.seq (.ret (.lit (.bl false))) .pass) .pass) (.seq (.ret (dD .all (.comp [1,0] 4 (.one 3) (.eE (dD .len bp)) .no (.call 7 (cT (cS bp cE) (cS aO cE)))))) .pass)))))))⟩
def L3:bj:=⟨1,1,(.seq (.ret (bO (.cmp .Eq) (dD .list aO) (.comp [0] 3 (.one 2) (.eE (aP 8)) (dX .In cc aO) cc))) .pass)⟩
theorem M8{g:G}{n:Nat}:∀ms:List Int,(ms.map D.int).mapM (rd g n)=some (ms.map PyData.int)
 |[]=>rfl
 |m::r=>by
  rw[aW,List.mapM_cons,M8 r];cases n<;>rfl
theorem lay_ints:∀ms:List Int,PyData.canLayAll0 (ms.map PyData.int)=true
 |[]=>by simp[PyData.canLayAll0]
 |m::r=>by simp[PyData.canLayAll0,PyData.canLay0,lay_ints r]
theorem Fy:∀ms ns:List Int,PyData.eqvAll (ms.map PyData.int) (ns.map PyData.int)=decide (ms=ns)
 |[],[]=>by simp[PyData.eqvAll]
 |[],_::_=>by simp[PyData.eqvAll]
 |_::_,[]=>by simp[PyData.eqvAll]
 |m::r,n::q=>by
  simp only[List.map_cons,PyData.eqvAll,PyData.eqv,Fy r q];by_cases h:m=n
  ·subst h;simp
  ·simp[h]
theorem ER{i:Int}{k:Bool->Prop}(h:k (ms.any λm=>m==i)):qK g (.int i) (.tup (ms.map .int)) k:=by
 refine⟨_,.inr ⟨_,_,_,rfl,M8 ms,rfl,lay_ints ms,by simp[PyData.canLay0],rfl⟩,?_⟩;rw[List.any_map];exact h
theorem Up{k:Bool->Prop}(ha:c8 g a=some (ms.map .int))(hb:c8 g b=some (ns.map .int))(h:k (decide (ms=ns))):rf g (.ref a) (.ref b) k:=by
 refine⟨_,.inr (.inr (.inr ⟨.list (ms.map .int),.list (ns.map .int),?_,?_,?_,?_,rfl⟩)),?_⟩
 ·simp only[rd];rw[ha];dsimp only;rw[M8];rfl
 ·simp only[rd];rw[hb];dsimp only;rw[M8];rfl
 ·simp[PyData.canLay0,lay_ints]
 ·simp[PyData.canLay0,lay_ints]
 ·simp only[PyData.eqv,Fy];exact h
section
variable{T:Nat->Option bj}{d:Nat}
theorem RN(h1:NF T){i:Int}(h:Q (.bl true) g):b9 T (k+1) 38 [.int i] g Q E:=by
 refine call_of h1.is rfl ?_;dsimp[AU,d8,List.replicate];walk_at "w2";refine fM (c:="int") (b:=true) (by decide) rfl ?_;walk_at "w2";refine fM (c:="bool") (b:=false) (by decide) rfl ?_;walk_at "w2";exact h
theorem A5(h1:NF T){i l m:Int}(h:Q (.bl (decide (l<=i)&&decide (i<=m))) g):b9 T (k+2) 1 [.int i,.int l,.int m] g Q E:=by
 refine call_of h1.nf rfl ?_;dsimp[R9,d8,List.replicate];walk_at "w2";refine RN h1 ?_;walk_at "w2";refine if2 (λc=>?_) (λc=>?_)
 ·rw[aV c] at h;walk_at "w2";exact h
 ·rw[aL c] at h;exact h
def gm:Int->List Int->Bool
 |_,[]=>true
 |l,x::r=>(decide (l<=x)&&decide (x<=7))&&gm (x+1) r
theorem Y7(h1:NF T)(h2:T 2=some E5)(h:Q (.bl (gm 0 ms)) g):b9 T (k+3) 2 [.tup (ms.map .int)] g Q E:=by
 refine call_of h2 rfl ?_;dsimp[E5,d8,List.replicate];walk_at "w2";refine F4 (b7 T _) (CJ (b7 T _) ?_);walk_at "w2";refine⟨_,rfl,_,λi Z g'=>g'=g/\∃(l:Int) (z:Option D),Z=[some (.tup (ms.map .int)),some (.int l),z]/\gm 0 ms=gm l (ms.drop i),λ_ _ _ _=>A6,⟨rfl,0,none,rfl,rfl⟩,λi x Z g' hx p=>?_,λZ g' p=>?_⟩
 ·obtain⟨rfl,l,z,rfl,e⟩:=p;rw[aD] at hx;cases em:ms[i]? with
  |none=>rw[em] at hx;cases hx
  |some m =>
   rw[em] at hx;cases hx;have hi:=(aq.mp em).1;have ed:ms.drop i=m::ms.drop (i+1):=by
    rw[cI hi]
    congr 1
    exact(aq.mp em).2
   rw[ed] at e;simp only[gm] at e;show wpS _ _ _ _ _ _;walk_at "w2";refine A5 h1 ?_;walk_at "w2";cases hc:(decide (l<=m)&&decide (m<=7)) with
   |true =>
    rw[hc,Bool.true_and] at e;show wpS _ _ _ _ _ _;walk_at "w2";exact⟨rfl,m+1,some (.int m),rfl,e⟩
   |false =>
    rw[hc,mZ] at e;rw[e] at h;show wpS _ _ _ _ _ _;walk_at "w2";exact h
 ·obtain⟨rfl,l,z,rfl,e⟩:=p;rw[gW (by simp)] at e;simp only[gm] at e;rw[e] at h;show wpS _ _ _ _ _ _;walk_at "w2";exact h
theorem Wg(h3:T 3=some wt)(hg:g[a]?=some (.nF (ns.map .int)))(h:∀d g',i6 g' d->g.length<=d->(∀i,i<g.length->g'[i]?=g[i]?)->Q (.ref d) g'):b9 T (k+1) 3 [.ref a] g Q E:=by
 refine call_of h3 rfl ?_;dsimp[wt,d8,List.replicate];walk_at "w2";refine wH (Ux hg) ?_;walk_at "w2";refine Bn (l:=cut (ns.map D.int) none (some 63)) (a7 (by simp)) ?_;walk_at "w2";have ec:cut (ns.map D.int) none (some 63)=(cut ns none (some 63)).map D.int:=by
  unfold cut;simp[List.map_take,List.map_drop]
 refine h _ _ ⟨g.length+1,0,0,29,cut ns none (some 63),?_,?_,?_,by decide,by decide,by decide,by decide⟩ (by simp) (λi hi=>?_)
 ·simp
 ·rw[<- ec];simp
 ·simp
 ·simp[List.getElem?_append,hi,Nat.lt_of_lt_of_le hi (by omega:g.length<=g.length+1),Nat.lt_of_lt_of_le hi (by omega:g.length<=g.length+1+1)]
theorem FC(h8:T 8=some L3)(h:∀g',Gr d g g'->(i6 g d->i6 g' d)->Q (.bl (decide (ms=((List.range 8).map λ(n:Nat)=>(n:Int)).filter λs=>ms.any λm=>m==s))) g'):b9 T (k+1) 8 [.tup (ms.map .int)] g Q E:=by
 refine call_of h8 rfl ?_;dsimp[L3,d8,List.replicate];walk_at "w2";refine Fu (b7 T _) ?_;walk_at "w2";refine⟨8,rfl,by decide,λi ys Z g'=>g'=g++[.lst (ms.map .int)]/\ys.length<=i/\(∃z w,Z=[some (.tup (ms.map .int)),z,w])/\ys=((((List.range i).map λ(n:Nat)=>(n:Int)).filter λs=>ms.any λm=>m==s).map D.int),⟨rfl,by simp,⟨none,none,rfl⟩,rfl⟩,λi ys Z g' p=>p.2.1,λi ys Z g' hi p=>?_,λys Z g' p=>?_⟩
 ·obtain⟨rfl,hl,⟨z,w,rfl⟩,e⟩:=p;show de _ _ _ _ _ _;walk_at "w2";refine BG (ER ?_);walk_at "w2";have er:(List.range (i+1)).map (λ(n:Nat)=>(n:Int))=(List.range i).map (λ(n:Nat)=>(n:Int))++[(i:Int)]:=by rw[lg];simp
  cases hc:(ms.any λm=>m==(i:Int)) with
  |true =>
   refine jj ?_;walk_at "w2";refine⟨rfl,by simp;omega,⟨_,_,rfl⟩,?_⟩;rw[er,dk,bV,<- e];simp[hc]
  |false =>
   refine E9 ?_;refine⟨rfl,by omega,⟨_,_,rfl⟩,?_⟩;rw[er,dk,bV,<- e];simp[hc]
 ·obtain⟨rfl,hl,_,e⟩:=p;rw[e];refine xf (Up (ms:=ms) (a7 (by simp)) (a7 (by simp;rfl)) ?_);exact h _ ((Gr.snoc d g _).trans (Gr.snoc d _ _)) λD0=>(D0.snoc _).snoc _
end
theorem Ap{β:Type}(f:α->β)(l:List α)(lo hi:Option Int):cut (l.map f) lo hi=(cut l lo hi).map f:=by
 unfold cut;simp[List.map_take,List.map_drop]
theorem Gx(l:List α)(lo hi:Option Int):(cut l lo hi).length<=l.length:=by
 unfold cut;rw[bN,gG];omega
theorem Bj:∀{ms:List Int} {l:Int},ms.Pairwise (· < ·)->(∀m∈ms,l<=m/\m<=7)->gm l ms=true
 |[],_,_,_=>rfl
 |m::r,l,hp,h=>by
  obtain⟨h1,h2⟩:=dj.mp hp;have hm:=h m (by simp);simp only[gm];rw[aV hm.1,aV hm.2,Bj h2 λx hx=>⟨by have:=h1 x hx;omega,(h x (by simp[hx])).2⟩]
  rfl
theorem u6{l:List α}(h0:0<=r)(h1:r<l.length):∃v,gj l r=some v/\v∈l:=by
 have hi:r.toNat<l.length:=by omega
 refine⟨l[r.toNat],?_,dN hi⟩;have:=L6 (xs:=l) (j:=r.toNat) (v:=l[r.toNat]) (az hi)
 rwa [show((r.toNat:Nat):Int)=r by omega] at this
section
variable{T:Nat->Option bj}
theorem GH(h7:T 7=some B3){a b:Bool}(h:Q (.bl (a==b)) g):b9 T (k+1) 7 [.bl a,.bl b] g Q E:=by
 refine call_of h7 rfl ?_;dsimp[B3,d8,List.replicate];walk_at "w2";walk_at "w2";refine fM (c:="bool") (b:=true) (by decide) rfl ?_;walk_at "w2";refine fM (c:="bool") (b:=true) (by decide) rfl ?_;walk_at "w2";exact h
end
theorem EW(ms:List Int):gm 0 ms=decide (ms=((List.range 8).map λ(n:Nat)=>(n:Int)).filter λs=>ms.any λm=>m==s):=by
 rw[bX,aU];constructor
 ·intro h;have key:∀(ms:List Int) (l:Int),gm l ms=true->ms.Pairwise (· < ·)/\∀m∈ms,l<=m/\m<=7:=by
   intro ms
   induction ms with
   |nil=>intro l _;exact⟨List.Pairwise.nil,by simp⟩
   |cons m r ih =>
    intro l h;simp only[gm,Bool.and_eq_true,decide_eq_true_eq] at h;obtain⟨⟨h1,h2⟩,h3⟩:=h;obtain⟨p1,p2⟩:=ih (m+1) h3;refine⟨dj.mpr ⟨λx hx=>by have:=p2 x hx;omega,p1⟩,λx hx=>?_⟩;rcases aA.mp hx with z|z
    ·subst z;exact⟨h1,h2⟩
    ·have:=p2 x z;omega
  obtain⟨p1,p2⟩:=key ms 0 h;have uniq:∀(xs ys:List Int),xs.Pairwise (· < ·)->ys.Pairwise (· < ·)->(∀z,z∈xs↔z∈ys)->xs=ys:=by
   intro xs
   induction xs with
   |nil =>
    intro ys _ _ h;cases ys with
    |nil=>rfl
    |cons y r=>exact absurd ((h y).mpr (by simp)) (by simp)
   |cons x xs ih =>
    intro ys hx hy h;cases ys with
    |nil=>exact absurd ((h x).mp (by simp)) (by simp)
    |cons y ys =>
     obtain⟨a1,a2⟩:=dj.mp hx;obtain⟨b1,b2⟩:=dj.mp hy;have Ky:x=y:=by
      rcases aA.mp ((h x).mp (by simp)) with z|z
      ·exact z
      ·rcases aA.mp ((h y).mpr (by simp)) with w|w
       ·exact w.symm
       ·have:=b1 x z;have:=a1 y w;omega
     subst Ky
     congr 1
     refine ih ys a2 b2 λz=>⟨λhz=>?_,λhz=>?_⟩
     ·rcases aA.mp ((h z).mp (by simp[hz])) with w|w
      ·subst w;exact absurd (a1 z hz) (by omega)
      ·exact w
     ·rcases aA.mp ((h z).mpr (by simp[hz])) with w|w
      ·subst w;exact absurd (b1 z hz) (by omega)
      ·exact w
  refine uniq _ _ p1 ?_ λz=>?_
  ·refine iP _ ?_
   decide
  ·simp only[List.mem_filter,List.any_eq_true,beq_iff_eq,exists_eq_right,List.mem_map,List.mem_range];refine⟨λhz=>⟨⟨z.toNat,by have:=p2 z hz;omega,by have:=p2 z hz;omega⟩,hz⟩,λhz=>hz.2⟩
 ·intro h;rw[h];refine Bj ?_ λm hm=>?_
  ·refine iP _ ?_
   decide
  ·obtain⟨hm,_⟩:=cJ.mp hm;obtain⟨n,hn,rfl⟩:=aN.mp hm;have:=mY.mp hn;omega
def w6:bj:=⟨1,8,(.seq (.mz (.many [1,2,3,4,5]) aO) (.seq (.set 6 (.dw (.call 1 (kn bp (aP 1) (aP 99))) (.call 2 (fN cc)))) (.seq (.set 7 (.dw (.call 1 (kn cE (aP 1) (aP 99))) (.call 2 (fN da)))) (.seq (.ret (.dw eL (.dw gf (.call 1 (kn eY (aP 0) (aP 9999)))))) .pass))))⟩
def F8:bj:=⟨1,1,(.seq (.ifs (.jh (.et (.fE (.chain .LtE .LtE (aP 1) (cS aO (aP 0)) (aP 99)))) (.jh (.et (.fE (.chain .LtE .LtE (aP 1) (cS aO (aP 2)) (aP 99)))) (.et (.fE (.chain .LtE .LtE (aP 0) (cS aO (aP 4)) (aP 9999)))))) (.seq (.ret (.lit (.bl false))) .pass) .pass) (.seq (.ret (.dw (.call 8 (fN (cS aO (aP 1)))) (.call 8 (fN (cS aO (aP 3)))))) .pass))⟩
def M9:bj:=⟨2,10,(.seq (.set 2 (.call 4 (cT aO (aP 12)))) (.seq (.mz (.many [3,4,5,6,7]) bp) (.seq (.set 8 (cS (.prim .lst (Dn (bO .tup (aP 1) (aP 0)) (bO .tup (aP 3) (aP 3)) (dD .tup (aP 8)) (bO .tup (dD (.un .USub) (aP 1)) (aP 2)) (bO .tup (aP 0) (aP 9)) (bO .tup (aP 7) (bO (.bin .Pow) (aP 10) (aP 20))))) (.call 4 (cT aO (aP 6))))) (.seq (.set 9 (cS (.prim .lst (sj (aP 0) (aP 100) (dD (.un .USub) (aP 1)) (.call 5 (fN aO)))) (.call 4 (cT aO (aP 4))))) (.seq (.ifs (dX .Eq cc (aP 0)) (.seq (.ret (.prim .tup (my nt da eY eL gf))) .pass) .pass) (.seq (.ifs (dX .Eq cc (aP 1)) (.seq (.ret (.prim .tup (my cE hU eY eL gf))) .pass) .pass) (.seq (.ifs (dX .Eq cc (aP 2)) (.seq (.ret (.prim .tup (my cE da nt eL gf))) .pass) .pass) (.seq (.ifs (dX .Eq cc (aP 3)) (.seq (.ret (.prim .tup (my cE da eY hU gf))) .pass) .pass) (.seq (.ifs (dX .Eq cc (aP 4)) (.seq (.ret (.prim .tup (my cE da eY eL (cS (.prim .lst (sj (dD (.un .USub) (aP 1)) (aP 10000) (aP 9999) (.call 5 (fN aO)))) (.call 4 (cT aO (aP 4))))))) .pass) .pass) (.seq (.ret bp) .pass))))))))))⟩
structure a8 where
 lo:Int
 lm:List Int
 up:Int
 um:List Int
 yr:Int
def a8.d(c:a8):D:=.tup [.int c.lo,.tup (c.lm.map .int),.int c.up,.tup (c.um.map .int),.int c.yr]
def k8(c:a8):Bool:=((decide (1<=c.lo)&&decide (c.lo<=99))&&gm 0 c.lm)&&(((decide (1<=c.up)&&decide (c.up<=99))&&gm 0 c.um)&&(decide (0<=c.yr)&&decide (c.yr<=9999)))
section
variable{T:Nat->Option bj}{d:Nat}
theorem RL(h1:NF T)(h2:T 2=some E5)(qZ:T 12=some w6)(h:Q (.bl (k8 c)) g):b9 T (k+4) 12 [c.d] g Q E:=by
 refine call_of qZ rfl ?_;dsimp[w6,d8,List.replicate,a8.d];walk_at "w3";refine A5 h1 ?_;have s1:∀b:Bool,b=((decide (1<=c.lo)&&decide (c.lo<=99))&&gm 0 c.lm)->wpS (b9 T (k+3)) (i7 (i7 w6.body)) ⟨λ_ g'=>Q .bL g',Q,λ_ _=>False,λ_ _=>False⟩ [some c.d,some (.int c.lo),some (.tup (c.lm.map .int)),some (.int c.up),some (.tup (c.um.map .int)),some (.int c.yr),some (.bl b),none] g E:=by
  intro b hb;dsimp[w6,i7];walk_at "w3";refine A5 h1 ?_;have s2:∀b':Bool,b'=((decide (1<=c.up)&&decide (c.up<=99))&&gm 0 c.um)->wpS (b9 T (k+3)) (i7 (i7 (i7 w6.body))) ⟨λ_ g'=>Q .bL g',Q,λ_ _=>False,λ_ _=>False⟩ [some c.d,some (.int c.lo),some (.tup (c.lm.map .int)),some (.int c.up),some (.tup (c.um.map .int)),some (.int c.yr),some (.bl b),some (.bl b')] g E:=by
   intro b' jV;dsimp[w6,i7];have e:k8 c=(b&&(b'&&(decide (0<=c.yr)&&decide (c.yr<=9999)))):=by unfold k8;rw[hb,jV]
   rw[e] at h;walk_at "w3";cases b
   ·exact E9 h
   ·refine jj ?_;walk_at "w3";cases b'
    ·exact E9 h
    ·refine jj ?_;walk_at "w3";exact A5 h1 h
  refine U4 ?_;cases hc:(decide (1<=c.up)&&decide (c.up<=99)) with
  |false=>exact E9 (s2 false (by rw[hc];rfl))
  |true =>
   refine jj ?_;walk_at "w1";walk_at "w1";walk_at "w1";walk_at "w1";exact Y7 h1 h2 (s2 _ (by rw[hc];rfl))
 refine U4 ?_;cases hc:(decide (1<=c.lo)&&decide (c.lo<=99)) with
 |false=>exact E9 (s1 false (by rw[hc];rfl))
 |true =>
  refine jj ?_;walk_at "w1";walk_at "w1";walk_at "w1";walk_at "w1";exact Y7 h1 h2 (s1 _ (by rw[hc];rfl))
theorem Vt(h8:T 8=some L3)(ui:T 13=some F8)(h:∀g',Gr d g g'->(i6 g d->i6 g' d)->Q (.bl (k8 c)) g'):b9 T (k+2) 13 [c.d] g Q E:=by
 refine call_of ui rfl ?_;have no:k8 c=false->Q (.bl false) g:=λe=>by
  have:=h g (Gr.refl _ _) id
  rwa [e] at this
 dsimp[F8,d8,List.replicate,a8.d];walk_at "w3";have fin:k8 c=(gm 0 c.lm&&gm 0 c.um)->wpS (b9 T (k+1)) (i7 F8.body) ⟨λ_ g'=>Q .bL g',Q,λ_ _=>False,λ_ _=>False⟩ [some c.d] g E:=λe=>by
  dsimp[F8,i7,a8.d];walk_at "w3";refine FC h8 (d:=d) λg1 G1 D1=>?_;rw[<- EW];refine U4 ?_;have h':=h;rw[e] at h';cases hl:gm 0 c.lm with
  |false =>
   rw[hl,mZ] at h';exact E9 (h' g1 G1 D1)
  |true =>
   rw[hl,Bool.true_and] at h';refine jj ?_;walk_at "w3";refine FC h8 (d:=d) λg2 G2 D2=>?_;rw[<- EW];exact h' g2 (G1.trans G2) λz=>D2 (D1 z)
 have out:k8 c=false->wpS (b9 T (k+1)) (.seq (.ret (.lit (.bl false))) .pass) ⟨λgP g1=>wpS (b9 T (k+1)) (i7 F8.body) ⟨λ_ g'=>Q .bL g',Q,λ_ _=>False,λ_ _=>False⟩ gP g1 E,Q,λ_ _=>False,λ_ _=>False⟩ [some c.d] g E:=λe=>by
  walk_at "w3";exact no e
 refine if2 (λc1=>?_) (λc1=>?_)
 ·walk_at "w3";cases c2:decide (c.lo<=99) with
  |false=>exact out (by unfold k8;rw[c2];simp)
  |true =>
   walk_at "w3";refine if2 (λc3=>?_) (λc3=>?_)
   ·walk_at "w3";cases c4:decide (c.up<=99) with
    |false=>exact out (by unfold k8;rw[c4];simp)
    |true =>
     walk_at "w3";refine if2 (λc5=>?_) (λc5=>?_)
     ·walk_at "w3";cases c6:decide (c.yr<=9999) with
      |false=>exact out (by unfold k8;rw[c6];simp)
      |true=>exact fin (by unfold k8;rw[aV c1,c2,aV c3,c4,aV c5,c6];simp)
     ·walk_at "w3";exact no (by unfold k8;rw[aL c5];simp)
   ·walk_at "w3";exact no (by unfold k8;rw[aL c3];simp)
 ·walk_at "w3";exact no (by unfold k8;rw[aL c1];simp)
end
def P2:bj:=⟨2,5,(.seq (.set 2 (dD .list bp)) (.seq (.set 3 (.prim .lst .nil)) (.seq (.dF (.one 4) (.eE (dD .len bp)) (.seq (.expr (.eB .append cE (fN (.eB .pop cc (fN (.call 4 (cT aO (dD .len cc)))))))) .pass)) (.seq (.ret cE) .pass))))⟩
theorem Fo{α:Type}:∀{l:List α} {j:Nat} (h:j<l.length),(l[j]::l.eraseIdx j).Perm l
 |a::r,0,_=>by simp
 |a::r,j+1,h=>by
  simp only[List.getElem_cons_succ,List.eraseIdx_cons_succ];exact(List.Perm.swap _ _ _).trans ((Fo (l:=r) (j:=j) (by simpa using h)).cons a)
theorem Gr.L0{d:Nat}(h:Gr d g g')(hx:g.length<=x):Gr d g (g'.set x o):=⟨by simp[h.len],λi h1 h2=>by rw[av (by omega)];exact h.old i h1 h2⟩
theorem i6.L0{d:Nat}(h:i6 g d)(hx:d<x):i6 (g.set x o) d:=by
 obtain⟨s,p,b,r,xs,e1,e2,hs,q⟩:=h.ex;exact⟨s,p,b,r,xs,by rw[av (by omega)];exact e1,by rw[av (by omega)];exact e2,hs,q⟩
theorem b8:(g++[o])[g.length]?=some o:=by simp
theorem j4(h:g[i]?=some o):(g++[o'])[i]?=some o:=by rw[au (o6 h)];exact h
theorem get_set(h:g[i]?=some o):(g.set i o')[i]?=some o':=aR (o6 h)
theorem k9(h:g[i]?=some o)(hn:j≠i):(g.set j o')[i]?=some o:=by rw[av hn];exact h
section
variable{T:Nat->Option bj}{d:Nat}
theorem FE(h4:T 4=some u7)(zm:T 21=some P2)(ha:g[a]?=some (.lst l))(hl:l.length<=1000)(hd:a≠d)(D0:i6 g d)(h:∀(l':List D) b g',l'.Perm l->g'[b]?=some (.lst l')->g.length<=b->i6 g' d->Gr d g g'->Q (.ref b) g'):b9 T (k+2) 21 [.ref d,.ref a] g Q E:=by
 refine call_of zm rfl ?_;dsimp[P2,d8,List.replicate];walk_at"";refine Bn (a7 ha) ?_;walk_at"";have dl:=D0.lt;refine F4 (b7 T _) (oI (b7 T _) ?_);walk_at"";have JZ:(g++[O.lst l]++[O.lst []])[a]?=some (.lst l):=j4 (j4 ha);refine M4 (a7 JZ) ?_;refine ⟨_,rfl,by omega,by omega,j7 0 l.length,λi Z g'=>∃ left found w,Z=[some (.ref d),some (.ref a),some (.ref g.length),some (.ref (g.length + 1)),w]/\(left ++ found).Perm l/\left.length + i=l.length/\g'[g.length]?=some (.lst left)/\g'[g.length + 1]?=some (.lst found)/\i6 g' d/\Gr d g g',
  λi Z g p=>A6,?_,λi x Z g' hx p=>?_,λZ g' p=>?_⟩
 ·refine⟨l,[],none,?_,by simp,by simp,?_,?_,(D0.snoc _).snoc _,(Gr.snoc _ _ _).trans (Gr.snoc _ _ _)⟩
  ·simp
  ·exact j4 b8
  ·have:=b8 (g:=g++[O.lst l]) (o:=O.lst []);simpa using this
 ·obtain⟨left,found,w,rfl,hp,hn,e1,e2,D1,G1⟩:=p;obtain⟨hi,rfl⟩:=E1 hx;show wpS _ _ _ _ _ _;walk_at"";refine d5 (n:=(left.length:Int)) h4 D1 (by omega) (by omega) λr g2 r0 r1 D2 G2=>?_;have f1:=G2.at (by omega) e1;have f2:=G2.at (by omega) e2;have hr:r.toNat<left.length:=by omega
  walk_at"";refine Mu (j:=r.toNat) f1 (by omega) (az hr) (by omega) ?_;walk_at"";refine Q6 (k9 f2 (by omega)) ?_ ?_
  ·have:=hp.length_eq;simp at this;omega
  walk_at"";refine⟨_,_,_,rfl,?_,?_,k9 (get_set f1) (by omega),get_set (k9 f2 (by omega)),(D2.L0 (by omega)).L0 (by omega),((G1.trans G2).L0 (by omega)).L0 (by omega)⟩
  ·refine List.Perm.trans ?_ hp;have:=Fo hr;refine List.Perm.trans ?_ (List.Perm.append_right found this);simp only[List.cons_append];rw[<- cb];exact(List.perm_append_singleton _ _)
  ·rw[fI hr];omega
 ·obtain⟨left,found,w,rfl,hp,hn,e1,e2,D1,G1⟩:=p;show wpS _ _ _ _ _ _;walk_at"";rw[t8] at hn;have:left=[]:=ff (by omega);subst this;exact h _ _ _ (by simpa using hp) e2 (by omega) D1 G1
end
def W6:bj:=⟨1,5,(.seq (.set 1 (.prim .lst (Kq (.prim .tup .nil) (dD .tup (aP 0)) (bO .tup (aP 0) (aP 1)) (dD .tup (aP 1)) (.prim .tup (kn (aP 0) (aP 1) (aP 2))) (.prim .tup (sj (aP 0) (aP 1) (aP 2) (aP 7))) (dD .tup (aP 2))))) (.seq (.set 2 (cS bp (.call 4 (cT aO (cS (bO .tup (aP 4) (aP 7)) (dD .int (bO (.cmp .Eq) (.call 4 (cT aO (aP 4))) (aP 0)))))))) (.seq (.set 3 (cS bp (.call 4 (cT aO (aP 5))))) (.seq (.set 4 (cS (.prim .lst (Dn (aP 0) (aP 0) (aP 1400) (aP 1400) (aP 1401) (aP 1))) (.call 4 (cT aO (aP 6))))) (.seq (.ret (.prim .tup (my (bO (.bin .Add) (aP 1) (.call 4 (cT aO (aP 3)))) cc (bO (.bin .Add) (aP 1) (.call 4 (cT aO (aP 4)))) cE da))) .pass)))))⟩
def E4:bj:=⟨4,4,(.seq (.ifs (.jh (dX .Eq (dD .len bp) (aP 0)) (.dw (dX .Lt (dD .len bp) cE) (dX .Eq (.call 4 (cT aO (aP 3))) (aP 0)))) (.seq (.expr (.eB .append bp (fN cc))) (.seq (.ret (bO (.bin .Add) cc (aP 1))) .pass)) .pass) (.seq (.ifs (dX .Eq (.call 4 (cT aO (aP 5))) (aP 0)) (.seq (.dS bp (.call 4 (cT aO (dD .len bp))) cc) (.seq (.ret (bO (.bin .Add) cc (aP 1))) .pass)) .pass) (.seq (.ret cc) .pass)))⟩
structure iG(c:a8):Prop where
 good:k8 c=true
 l8:c.lm.length<=8
 u8:c.um.length<=8
theorem iG.mk'{lo up yr:Int}{lm um:List Int}(h1:1<=lo)(h2:lo<=99)(h3:1<=up)(h4:up<=99)(h5:0<=yr)(h6:yr<=9999)(h7:gm 0 lm=true)(h8:gm 0 um=true)(h9:lm.length<=8)(Dm:um.length<=8):iG ⟨lo,lm,up,um,yr⟩:=by
 refine⟨?_,h9,Dm⟩;simp only[k8,h7,h8,decide_eq_true h1,decide_eq_true h2,decide_eq_true h3,decide_eq_true h4,decide_eq_true h5,decide_eq_true h6]
 rfl
theorem iG.inv(h:iG c):(1<=c.lo/\c.lo<=99)/\gm 0 c.lm=true/\(1<=c.up/\c.up<=99)/\gm 0 c.um=true/\0<=c.yr/\c.yr<=9999:=by
 have:=h.good;unfold k8 at this;simp only[Bool.and_eq_true,decide_eq_true_eq] at this;obtain⟨⟨⟨a,b⟩,e⟩,⟨⟨c',d⟩,f⟩,p,q⟩:=this;exact⟨⟨a,b⟩,e,⟨c',d⟩,f,p,q⟩
def L9:List (List Int):=[[],[0],[0,1],[1],[0,1,2],[0,1,2,7],[2]]
theorem Qv:∀ms∈L9,gm 0 ms=true/\ms.length<=8:=by decide
theorem GK(h0:0<=r)(h7:r<7):∃ms,gj (L9.map λms=>D.tup (ms.map .int)) r=some (.tup (ms.map .int))/\gm 0 ms=true/\ms.length<=8:=by
 obtain⟨v,hv,hm⟩:=u6 (l:=L9.map λms=>D.tup (ms.map .int)) h0 (by simpa[L9] using h7);obtain⟨ms,h1,rfl⟩:=aN.mp hm;exact⟨ms,hv,Qv ms h1⟩
section
variable{T:Nat->Option bj}{d:Nat}
theorem VY(h4:T 4=some u7)(Kl:T 22=some W6)(D0:i6 g d)(h:∀c g',iG c->i6 g' d->Gr d g g'->Q c.d g'):b9 T (k+2) 22 [.ref d] g Q E:=by
 refine call_of Kl rfl ?_;dsimp[W6,d8,List.replicate];have dl:=D0.lt;walk_at"";have D1:=D0.snoc (.lst (L9.map λms=>D.tup (ms.map .int)));have G1:=Gr.snoc d g (.lst (L9.map λms=>D.tup (ms.map .int)));have e1:(g++[O.lst (L9.map λms=>D.tup (ms.map .int))])[g.length]?=some (.lst (L9.map λms=>D.tup (ms.map .int))):=b8;show b9 _ _ _ _ (g++[O.lst (L9.map λms=>D.tup (ms.map .int))]) _ _;generalize g++[O.lst (L9.map λms=>D.tup (ms.map .int))]=g1 at *;refine d5 h4 D1 (by decide) (by decide) λr g2 r0 r1 D2 G2=>?_;walk_at"";have e2:=G2.at (by omega) e1;have hn:∃n:Int,gj [D.int 4,D.int 7] (if decide (r=0)=true then 1 else 0)=some (.int n)/\0<n/\n<=7:=by
  by_cases hr:r=0
  ·exact⟨7,by rw[aV hr];rfl,by decide,by decide⟩
  ·exact⟨4,by rw[aL hr];rfl,by decide,by decide⟩
 obtain⟨n,en,n0,n7⟩:=hn;refine J9 en ?_;walk_at"";refine d5 h4 D2 n0 (by omega) λr3 g3 gb gx D3 G3=>?_;have e3:=G3.at (by omega) e2;obtain⟨lm,el,gl,ll⟩:=GK gb (by omega);refine p7 (a7 e3) el ?_;walk_at"";refine d5 h4 D3 (by decide) (by decide) λr4 g4 pF qE D4 G4=>?_;have e4:=G4.at (by omega) e3;obtain⟨um,eu,gu,lu⟩:=GK pF (by omega);refine p7 (a7 e4) eu ?_;walk_at"";have e5:(g4++[O.lst [.int 0,.int 0,.int 1400,.int 1400,.int 1401,.int 1]])[g4.length]?=some (.lst [.int 0,.int 0,.int 1400,.int 1400,.int 1401,.int 1]):=b8;refine d5 h4 (D4.snoc _) (by decide) (by decide) λr5 g5 kh kf D5 G5=>?_;have e6:=G5.at (by have:=D4.lt;omega) e5;obtain⟨v,hv,hm⟩:=u6 (l:=[D.int 0,.int 0,.int 1400,.int 1400,.int 1401,.int 1]) kh (by simpa using kf);have hy:∃y:Int,v=.int y/\0<=y/\y<=9999:=by
  simp only[List.mem_cons,List.mem_nil_iff,or_false] at hm;rcases hm with rfl|rfl|rfl|rfl|rfl|rfl<;>exact⟨_,rfl,by decide,by decide⟩
 obtain⟨y,rfl,y0,y1⟩:=hy;refine p7 (a7 e6) hv ?_;walk_at"";refine d5 h4 D5 (by decide) (by decide) λr6 g6 Cs Cr D6 G6=>?_;walk_at"";refine d5 h4 D6 (by decide) (by decide) λr7 g7 Xw Xv D7 G7=>?_;walk_at"";exact h ⟨1+r6,lm,1+r7,um,y⟩ _ (iG.mk' (by omega) (by omega) (by omega) (by omega) y0 y1 gl gu ll lu) D7 (G1.trans (G2.trans (G3.trans (G4.trans ((Gr.snoc _ _ _).trans (G5.trans (G6.trans G7)))))))
def Bf(l:List D)(f:Int):Prop:=∃ns:List Int,l=ns.map .int/\∀n∈ns,1<=n/\n<f
theorem Vc(h4:T 4=some u7)(ue:T 23=some E4){f:Int}(ha:g[a]?=some (.lst l))(hl:l.length<1000)(hs:Bf l f)(f1:1<=f)(hd:d<a)(D0:i6 g d)(h:∀(l':List D) (f':Int) g',l'≠[]->l'.length<=l.length+1->Bf l' f'->f<=f'->f'<=f+1->g'[a]?=some (.lst l')->i6 g' d->(∀i,i≠d->i≠a->i<g.length->g'[i]?=g[i]?)->g.length<=g'.length->Q (.int f') g'):b9 T (k+2) 23 [.ref d,.ref a,.int f,.int v] g Q E:=by
 refine call_of ue rfl ?_;have dl:=D0.lt;obtain⟨ns,rfl,pR⟩:=id hs;have app:∀g':G,g'[a]?=some (.lst (ns.map D.int))->i6 g' d->Gr d g g'->wpS (b9 T (k+1)) (.seq (.expr (.eB .append (.var 1) (.cons (.var 2) .nil))) (.seq (.ret (.prim (.bin .Add) (.cons (.var 2) (.cons (.lit (.int 1)) .nil)))) .pass)) ⟨λgP g1=>wpS (b9 T (k+1)) (i7 E4.body) ⟨λ_ g'=>Q .bL g',Q,λ_ _=>False,λ_ _=>False⟩ gP g1 E,Q,λ_ _=>False,λ_ _=>False⟩ [some (.ref d),some (.ref a),some (.int f),some (.int v)] g' E:=by
  intro g' e D1 G1;walk_at"";refine Q6 e (by simp at hl ⊢;omega) ?_;walk_at"";refine h _ _ _ (by simp) (by simp) ⟨ns++[f],by simp,λn hn=>?_⟩ (by omega) (by omega) (get_set e) (D1.L0 hd) (λi h1 h2 h3=>?_) (by simp[G1.len])
  ·rcases aI.mp hn with z|z
   ·have:=pR n z;omega
   ·simp at z;omega
  ·rw[av (bB h2)];exact G1.old i h1 h3
 have rest:∀g':G,g'[a]?=some (.lst (ns.map D.int))->ns≠[]->i6 g' d->Gr d g g'->wpS (b9 T (k+1)) (i7 E4.body) ⟨λ_ g'=>Q .bL g',Q,λ_ _=>False,λ_ _=>False⟩ [some (.ref d),some (.ref a),some (.int f),some (.int v)] g' E:=by
  intro g' e dO D1 G1;dsimp[E4,i7];walk_at"";refine d5 h4 D1 (by decide) (by decide) λr g2 r0 r1 D2 G2=>?_;have e2:=G2.at (by omega) e;have hlen:0<ns.length:=BW.mpr dO;walk_at"";refine if2 (λc=>?_) (λc=>?_)
  ·walk_at"";rw[ah];refine d5 h4 D2 (by omega) (by simp at hl;omega) λr3 g3 gb gx D3 G3=>?_;have e3:=G3.at (by omega) e2;have hj:jT (ns.map D.int).length r3=some r3.toNat:=by
    unfold jT;rw[aE gb,aE (by rw[ah];exact gx)]
   refine Q2 e3 hj ?_;walk_at"";refine h _ _ _ (by simp[dO]) (by simp) ⟨ns.set r3.toNat f,by simp,λn hn=>?_⟩ (by omega) (by omega) (get_set e3) (D3.L0 hd) (λi h1 h2 h3=>?_) (by simp[((G1.trans G2).trans G3).len])
   ·rcases nL hn with z|z
    ·have:=pR n z;omega
    ·omega
   ·rw[av (bB h2)];exact((G1.trans G2).trans G3).old i h1 h3
  ·walk_at"";exact h _ _ _ (by simp[dO]) (by simp) hs (by omega) (by omega) e2 D2 (λi h1 h2 h3=>(G1.trans G2).old i h1 h3) (G1.trans G2).len
 dsimp[E4,d8,List.replicate];walk_at"";refine if2 (λc=>?_) (λc=>?_)
 ·refine jj ?_;exact app g ha D0 (Gr.refl _ _)
 ·have dO:ns≠[]:=λz=>c (by rw[z];rfl);walk_at"";refine if2 (λc2=>?_) (λc2=>?_)
  ·walk_at"";refine d5 h4 D0 (by decide) (by decide) λr g2 r0 r1 D2 G2=>?_;walk_at"";refine if2 (λc3=>?_) (λc3=>?_)
   ·exact app g2 (G2.at (by omega) ha) D2 G2
   ·walk_at "w1";exact rest g2 (G2.at (by omega) ha) dO D2 G2
  ·walk_at "w1";walk_at "w1";exact rest g ha dO D0 (Gr.refl _ _)
end
def E3:bj:=⟨3,17,(.seq (.set 3 (.prim .lst .nil)) (.seq (.set 4 (aP 1)) (.seq (.set 5 (.prim .S6 .nil)) (.seq (.set 6 (cS (.prim .lst (kn (aP 0) (aP 1) (aP 1350))) (.call 4 (cT aO (aP 3))))) (.seq (.set 7 (bO (.bin .Add) (aP 1) (.call 4 (cT aO (aP 96))))) (.seq (.set 8 (bO (.bin .Add) (aP 2) (.call 4 (cT aO (aP 4))))) (.seq (.set 9 (bO .max (aP 0) (bO (.bin .Sub) (.call 4 (cT aO (aP 9))) (aP 6)))) (.seq (.set 10 (.prim .lst .nil)) (.seq (.dF (.one 11) (.eE bp) (.seq (.set 4 (.call 23 (sj aO cE da cc))) (.seq (.set 12 (bO .tup (cS cE (.call 4 (cT aO (dD .len cE)))) (bO (.bin .Add) (aP 50) (.call 4 (cT aO (bO (.bin .Add) (aP 2) cc)))))) (.seq (.dF (.one 13) (.iL kq) (.seq (.ifs (dX .Eq (.call 4 (cT aO hU)) (aP 0)) (.seq (.set 14 (.call 4 (cT aO (aP 8)))) (.seq (.dS eY tq (dD .tuple (.comp [13,14,5] 5 (.one 4) (.eE (aP 8)) (.jh (dX .Eq da bp) (dX .In da (.eB .get cc (cT aO (.prim .tup .nil))))) da))) .pass)) .pass) .pass)) (.seq (.ifs (dX .Eq (.call 4 (cT aO (aP 5))) (aP 0)) (.seq (.set 6 (bO .min (aP 9999) (bO (.bin .Add) (bO (.bin .Add) eL (aP 1)) (.call 4 (cT aO (aP 9)))))) .pass) .pass) (.seq (.set 15 (.comp [9,7] 4 (.one 3) (.iL kq) .no (bO (.bin .Add) (bO (.bin .Add) (aP 1) aO) (bO (.bin .Mod) (bO (.bin .Mult) cE bp) (aP 97))))) (.seq (.set 16 (bO (.bin .Mult) eL (dD .int (bO (.cmp .Gt) (.call 4 (cT aO (aP 4))) (aP 0))))) (.seq (.expr (.eB .append jK (fN (.prim .tup (my (cS nV (aP 0)) (.eB .get eY (cT (cS kq (aP 0)) (.prim .tup .nil))) (cS nV (aP 1)) (.eB .get eY (cT (cS kq (aP 1)) (.prim .tup .nil))) tm))))) .pass)))))))) (.seq (.ret jK) .pass))))))))))⟩
def Y1(kvs:List (Key×D)):Prop:=∀k v,m7 kvs k=some v->∃ms:List Int,v=.tup (ms.map .int)/\gm 0 ms=true/\ms.length<=8
theorem EB(kvs:List (Key×D))(k k':Key)(v:D):m7 (putD kvs k v) k'=if k'=k then some v else m7 kvs k':=by
 unfold putD;split
 ·rename_i pX;have go:∀l:List (Key×D),m7 (l.map λkv=>if kv.1=k then(kv.1,v) else kv) k'=if k'=k then(if(l.any λkv=>decide (kv.1=k))=true then some v else none) else m7 l k':=by
   intro l
   induction l with
   |nil=>simp[m7]
   |cons p r ih =>
    obtain⟨pk,pv⟩:=p;by_cases e:pk=k
    ·subst e;by_cases e2:k'=pk
     ·subst e2;simp[m7]
     ·have:¬pk=k':=λz=>e2 z.symm;unfold m7 at ih ⊢;simp[this,e2] at ih ⊢;exact ih
    ·by_cases e2:k'=k
     ·subst e2;unfold m7 at ih ⊢;rw[fZ,show decide (pk=k')=false from aL e,oS];simp[e] at ih ⊢;exact ih
     ·unfold m7 at ih ⊢;simp only[List.map_cons,e,if_false,List.find?_cons];by_cases e3:pk=k'
      ·simp[e3,e2]
      ·simp[e3];simp[e2] at ih;simp[e2];exact ih
  rw[go,pX]
  rfl
 ·rename_i pX;unfold m7;rw[List.find?_append];by_cases e:k'=k
  ·subst e;have:kvs.find? (λkv=>decide (kv.1=k'))=none:=by
    rw[Iy];intro x hx hd;exact pX (eW.mpr ⟨x,hx,hd⟩)
   rw[this];simp
  ·have:¬k=k':=λz=>e z.symm;simp[this,e]
theorem Tp(kvs:List (Key×D))(k:Key)(v:D):(putD kvs k v).length<=kvs.length+1:=by
 unfold putD;split<;>simp
theorem Y1.put{k:Key}(h:Y1 kvs)(h1:gm 0 ms=true)(h2:ms.length<=8):Y1 (putD kvs k (.tup (ms.map .int))):=λk' v hv=>by
 rw[EB] at hv;split at hv
 ·cases hv;exact⟨ms,rfl,h1,h2⟩
 ·exact h k' v hv
theorem Y1.get(h:Y1 kvs)(k:Key):∃ms:List Int,(m7 kvs k).getD (.tup [])=.tup (ms.map .int)/\gm 0 ms=true/\ms.length<=8:=by
 cases e:m7 kvs k with
 |none=>exact⟨[],rfl,rfl,by simp⟩
 |some v=>obtain⟨ms,rfl,h1,h2⟩:=h k v e;exact⟨ms,rfl,h1,h2⟩
theorem Ur(p:Int->Bool):gm 0 (((List.range 8).map λ(n:Nat)=>(n:Int)).filter p)=true/\(((List.range 8).map λ(n:Nat)=>(n:Int)).filter p).length<=8:=by
 refine⟨Bj (iP _ (by decide)) λm hm=>?_,aM (eU _ _) (by decide)⟩;have:=(cJ.mp hm).1;revert this;revert m;intro m _ hm;simp at hm;obtain⟨a,ha,rfl⟩:=hm;omega
theorem List.Z8{l:List α}{x:α}(h:l[i]?=some x):l.set i x=l:=by
 apply List.ext_getElem?;intro j;by_cases e:i=j
 ·subst e;rw[aR (aq.mp h).1];exact h.symm
 ·rw[av e]
section
variable{T:Nat->Option bj}{d:Nat}
def ED:MS:=match E3.body with
 |.seq _ (.seq _ (.seq _ (.seq _ (.seq _ (.seq _ (.seq _ (.seq _ (.seq (.dF _ _ (.seq _ (.seq _ (.seq (.dF _ _ b) _)))) _))))))))=>b
 |x=>x
theorem WY(h4:T 4=some u7){w0:Nat}{key wr:Int}{Z:S}(hw:g[w0]?=some (.cg kvs))(W:Y1 kvs)(hk:kvs.length<1000)(hr:0<wr)(qQ:wr<1000)(hd:d<w0)(D0:i6 g d)(s0:Z[0]?=some (some (.ref d)))(s5:Z[5]?=some (some (.ref w0)))(s8:Z[8]?=some (some (.int wr)))(IW:Z[13]?=some (some (.int key)))(sl:Z.length=17)(h:∀z gL g',g'[w0]?=some (.cg gL)->Y1 gL->gL.length<=kvs.length+1->i6 g' d->(∀i,i≠d->i≠w0->i<g.length->g'[i]?=g[i]?)->g.length<=g'.length->N.nx (Z.set 14 z) g'):wpS (b9 T (k+1)) ED N Z g E:=by
 obtain⟨kQ,KR⟩:∃z,Z[14]?=some z:=⟨_,az (by omega)⟩
 dsimp[ED,E3];refine H9 (wy (wA (Z1 (Z3 (M5 (w_var s0 (M5 (w_var s8 (uY ?_)))))))));refine d5 h4 D0 hr (by omega) λr g2 r0 r1 D2 G2=>?_;have dl:=D0.lt;walk_at"";refine if2 (λc=>?_) (λc=>?_)
 ·refine wz (P9 (Z3 (M5 (w_var s0 (M5 (w_lit (uY ?_)))))));refine d5 h4 D2 (by decide) (by decide) λr3 g3 gb gx D3 G3=>?_;have e3:=(G2.trans G3).at (by omega) hw;have t0:(Z.set 14 (some (.int r3)))[0]?=some (some (.ref d)):=by rw[av (by decide)];exact s0
  have t5:(Z.set 14 (some (.int r3)))[5]?=some (some (.ref w0)):=by rw[av (by decide)];exact s5
  have Cf:(Z.set 14 (some (.int r3)))[13]?=some (some (.int key)):=by rw[av (by decide)];exact IW
  have IQ:(Z.set 14 (some (.int r3)))[14]?=some (some (.int r3)):=aR (by omega);obtain⟨ms,em,_,_⟩:=W.get (.inl key);refine H9 (Az (rD ?_));refine Fu (b7 T _) (w_lit ⟨8,rfl,by decide,λi ys bI g'=>g'=g3/\ys.length<=i/\(∃z w,bI=[some (.int key),some (.int r3),some (.ref w0),z,w])/\ys=((((List.range i).map λ(n:Nat)=>(n:Int)).filter λs=>decide (s=r3)||ms.any λm=>m==s).map D.int),⟨rfl,by simp,⟨none,none,?_⟩,rfl⟩,λi ys Z g' p=>p.2.1,λi ys bI g' hi p=>?_,λys bI g' p=>?_⟩)
  ·simp[K1,Cf,IQ,t5,List.replicate]
  ·obtain⟨rfl,hl,⟨z,w,rfl⟩,e⟩:=p;have er:(List.range (i+1)).map (λ(n:Nat)=>(n:Int))=(List.range i).map (λ(n:Nat)=>(n:Int))++[(i:Int)]:=by rw[lg];simp
   have yes:(decide ((i:Int)=r3)||ms.any λm=>m==(i:Int))=true->aX (b9 T (k+1)) (.var 4) [some (.int key),some (.int r3),some (.ref w0),z,some (.int i)] g' (λy g4=>g4=g'/\(ys++[y]).length<=i+1/\(∃z' w',[some (.int key),some (.int r3),some (.ref w0),z,some (D.int i)]=[some (.int key),some (.int r3),some (.ref w0),z',w'])/\(ys++[y])=((((List.range (i+1)).map λ(n:Nat)=>(n:Int)).filter λs=>decide (s=r3)||ms.any λm=>m==s).map D.int)) jw:=λhc=>by
    walk_at"";refine⟨rfl,by simp;omega,⟨_,_,rfl⟩,?_⟩;rw[er,dk,bV,<- e];simp[hc]
   show de _ _ _ _ _ _;walk_at"";refine if2 (λc1=>?_) (λc1=>?_)
   ·refine jj ?_;exact yes (by rw[aV c1];rfl)
   ·walk_at"";refine wu e3 (k:=.inl key) rfl ?_;rw[em];walk_at"";refine BG (ER ?_);walk_at"";cases hc:(ms.any λm=>m==(i:Int)) with
    |true =>
     refine jj ?_;exact yes (by rw[hc];simp)
    |false =>
     refine E9 ?_;refine⟨rfl,by omega,⟨_,_,rfl⟩,?_⟩;rw[er,dk,bV,<- e];simp[hc,c1]
  ·obtain⟨rfl,hl,_,e⟩:=p;subst e;refine Nm (a7 b8) ?_;obtain⟨f1,f2⟩:=Ur λs=>decide (s=r3)||ms.any λm=>m==s
   refine w_var t5 (w_var Cf ?_);refine uX (j4 e3) (k:=.inl key) rfl (by omega) ?_;refine h _ _ _ (get_set (j4 e3)) (W.put f1 f2) (Tp _ _ _) ((D3.snoc _).L0 hd) (λi h1 h2 h3=>?_) ?_
   ·rw[av (bB h2),au (ay h3 (G2.trans G3).len)];exact(G2.trans G3).old i h1 h3
   ·have:=(G2.trans G3).len;simp;omega
 ·refine B7 ?_;have e2:=G2.at (by omega) hw;have:=h kQ kvs g2 e2 W (by omega) D2 (λi h1 h2 h3=>G2.old i h1 h3) G2.len
  rwa [List.Z8 KR] at this
end
section
variable{T:Nat->Option bj}{d:Nat}
def J1:MS:=match E3.body with
 |.seq _ (.seq _ (.seq _ (.seq _ (.seq _ (.seq _ (.seq _ (.seq _ (.seq (.dF _ _ b) _))))))))=>b
 |x=>x
structure iF(d s0 w0 f0 i:Nat)(g:G)(f y:Int):Prop where
 Cj:∃l,g[s0]?=some (.lst l)/\Bf l f/\l.length<=i
 fr:1<=f/\f<=1+i
 IE:∃kvs,g[w0]?=some (.cg kvs)/\Y1 kvs/\kvs.length<=2*i
 found:∃cs:List a8,g[f0]?=some (.lst (cs.map a8.d))/\cs.length=i/\∀c∈cs,iG c
 year:0<=y/\y<=9999
 dr:i6 g d
theorem RA{s0 w0 f0 n0:Nat}{n f y st wr sh:Int}{oX ID IC IB xJ xI:Option D}(h4:T 4=some u7)(ue:T 23=some E4)(S:iF d s0 w0 f0 i g f y)(hi:i<=100)(hv:1<=v/\v<=100)(dg:1<=st/\st<=96)(iW:0<wr/\wr<1000)(jk:0<=sh/\sh<=2)(o1:d<n0)(o2:n0<=s0)(o3:s0<w0)(o4:w0<f0)(h:∀f' y' si mx kQ sg sf g',iF d s0 w0 f0 (i+1) g' f' y'->(∀j,j≠d->j<n0->g'[j]?=g[j]?)->g.length<=g'.length->N.nx [some (.ref d),some (.int n),some (.int v),some (.ref s0),some (.int f'),some (.ref w0),some (.int y'),some (.int st),some (.int wr),some (.int sh),some (.ref f0),oX,si,mx,kQ,sg,sf] g') :
  wpS (b9 T (k+2)) J1 N [some (.ref d),some (.int n),some (.int v),some (.ref s0),some (.int f),some (.ref w0),some (.int y),some (.int st),some (.int wr),some (.int sh),some (.ref f0),oX,ID,IC,IB,xJ,xI] g E:=by
 obtain⟨⟨l,es,hs,hl⟩,⟨f1,f2⟩,⟨kvs,ew,W,hk⟩,⟨cs,ef,hc,hg⟩,⟨y0,y1⟩,D0⟩:=S;have lf:=o6 ef;dsimp[J1,E3];walk_at"";refine Vc h4 ue es (by omega) hs f1 (by omega) D0 λl1 f' g1 dO jl CP f3 f5 fS D1 nr fL=>?_;have Dv:g1[w0]?=some (.cg kvs):=(nr w0 (by omega) (by omega) (o6 ew)).trans ew;have DA:g1[f0]?=some (.lst (cs.map a8.d)):=(nr f0 (by omega) (by omega) lf).trans ef;walk_at"";have fq:0<l1.length:=BW.mpr dO;refine d5 (n:=(l1.length:Int)) h4 D1 (by omega) (by omega) λr2 g2 gJ gI D2 G2=>?_;have mh:=G2.at (by omega) fS;have Du:=G2.at (by omega) Dv;have Dz:=G2.at (by omega) DA;obtain⟨x,hx,hm⟩:=u6 (l:=l1) gJ gI;obtain⟨ns,rfl,pR⟩:=id CP;obtain⟨k1,JI,rfl⟩:=aN.mp hm;refine p7 (a7 mh) hx ?_;walk_at"";refine d5 (n:=2+v) h4 D2 (by omega) (by omega) λr3 g3 gb gx D3 G3=>?_;have zB:=G3.at (by omega) mh;have Dt:=G3.at (by omega) Du;have zE:=G3.at (by omega) Dz;walk_at"";have kb1:=pR k1 JI;have sQ:∀j,j≠d->j<n0->g3[j]?=g[j]?:=λj a b=>by
  have lj:j<g.length:=by omega
  rw[G3.old j a (by have:=G2.len;(clear hi hv dg iW jk o1 hl f1 f2 hk hc y0 y1 f3 f5 gJ jl fq gI gb gx kb1 a lj;omega)),G2.old j a (by omega),nr j a (by omega) lj]
 have gK:g.length<=g3.length:=by have:=G2.len;have:=G3.len;(clear hi hv dg iW jk o1 o2 o3 o4 hl f1 f2 hk hc y0 y1 lf f3 f5 gJ jl fq gI gb gx kb1;omega)
 refine F4 (b7 T _) (CJ (b7 T _) ?_);walk_at"";refine ⟨_,rfl,_,λj Z g'=>∃ gL mx kQ,Z=[some (.ref d),some (.int n),some (.int v),some (.ref s0),some (.int f'),some (.ref w0),some (.int y),some (.int st),some (.int wr),some (.int sh),some (.ref f0),oX,some (.tup [.int k1,.int (50 + r3)]),mx,kQ,xJ,xI]/\g'[w0]?=some (.cg gL)/\Y1 gL/\gL.length <= 2 * i + j/\i6 g' d/\(∀ j,j ≠ d->j ≠ w0->j < g3.length->g'[j]?=g3[j]?)/\g3.length <= g'.length,
  λ_ _ _ _=>A6,⟨kvs,_,_,rfl,Dt,W,by omega,D3,λ_ _ _ _=>rfl,ak _⟩,λj x Z g' hx p=>?_,λZ g' p=>?_⟩
 ·obtain⟨gL,mx,kQ,rfl,KC,W',jt,D',xU,tj⟩:=p;have jO:∃key:Int,x=.int key/\j<2:=by
   match j,hx with
   |0,hx=>cases hx;exact⟨_,rfl,by decide⟩
   |1,hx=>cases hx;exact⟨_,rfl,by decide⟩
   |j+2,hx=>simp at hx
  obtain⟨key,rfl,hj⟩:=jO;show wpS _ _ _ _ _ _;refine WY (k:=k+1) h4 KC W' (by(clear hv dg iW jk o1 o2 o3 o4 hl f1 f2 hk y0 y1 lf f3 f5 fL gJ jl fq gI gb gx kb1 gK tj;omega)) iW.1 iW.2 (by omega) D' rfl rfl rfl rfl rfl λz yg Kv e2 W2 vO vq pK tf=>?_;exact⟨yg,_,_,rfl,e2,W2,by(clear hi hv dg iW jk o1 o2 o3 o4 hl f1 f2 hk y0 y1 lf f3 f5 fL gJ jl fq gI gb gx kb1 gK tj hj tf;omega),vq,λj a b c=>(pK j a b (by omega)).trans (xU j a b c),by(clear hi hv dg iW jk o1 o2 o3 o4 hl f1 f2 hk hc y0 y1 lf f3 f5 fL gJ jl fq gI gb gx kb1 gK jt hj vO;omega)⟩
 obtain⟨tu,mx,kQ,rfl,KA,W4,ki,D4,nk,iA⟩:=p;have KI:g'[s0]?=some (.lst (ns.map D.int)):=(nk s0 (by omega) (by omega) (o6 zB)).trans zB;have KL:g'[f0]?=some (.lst (cs.map a8.d)):=(nk f0 (by omega) (by omega) (o6 zE)).trans zE;have sP:∀j,j≠d->j<n0->g'[j]?=g[j]?:=λj a b=>(nk j a (by omega) (by(clear hi hv dg iW jk o1 hl f1 f2 hk hc y0 y1 f3 f5 fL gJ jl fq gI gb gx kb1 ki iA a;omega))).trans (sQ j a b);clear nk sQ G2 G3 fS Dv DA mh Du Dz zB Dt zE nr;have ki:tu.length<=2*(i+1):=by simp at ki;(clear hi hv dg iW jk o1 o2 o3 o4 hl f1 f2 hk y0 y1 lf f3 f5 fL gJ jl fq gI gb gx kb1 gK iA;omega)
 show wpS _ _ _ _ _ _;walk_at"";refine d5 h4 D4 (by decide) (by decide) λr5 g5 kh kf D5 G5=>?_;walk_at"";have tail:∀(y':Int) (g6:G),0<=y'->y'<=9999->i6 g6 d->Gr d g' g6->wpS (b9 T (k+2)) (i7 (i7 (i7 (i7 J1)))) N [some (.ref d),some (.int n),some (.int v),some (.ref s0),some (.int f'),some (.ref w0),some (.int y'),some (.int st),some (.int wr),some (.int sh),some (.ref f0),oX,some (.tup [.int k1,.int (50+r3)]),mx,kQ,xJ,xI] g6 E:=by
  intro y' g6 kS kR D6 G6;have KH:=G6.at (by omega) KI;have Kz:=G6.at (by omega) KA;have vX:=G6.at (by omega) KL;dsimp[J1,E3,i7];walk_at"";refine Fv (b7 T _) ?_;walk_at"";refine⟨_,rfl,by simp,λj ys Z g7=>g7=g6/\(∃z w,Z=[some (.int sh),some (.int st),z,w])/\ys=([k1,50+r3].take j).map (λkey=>D.int (1+sh+key*st % 97)),⟨rfl,⟨none,none,rfl⟩,rfl⟩,λj ys Z g7 p=>?_,λj x ys Z g7 hx p=>?_,λys Z g7 p=>?_⟩
  ·obtain⟨rfl,_,rfl⟩:=p;simp;omega
  ·obtain⟨rfl,⟨z,w,rfl⟩,rfl⟩:=p;have jO:∃key:Int,x=.int key/\([k1,50+r3].take j).map (λkey=>D.int (1+sh+key*st % 97))++[D.int (1+sh+key*st % 97)]=([k1,50+r3].take (j+1)).map (λkey=>D.int (1+sh+key*st % 97)):=by
    match j,hx with
    |0,hx=>cases hx;exact⟨_,rfl,rfl⟩
    |1,hx=>cases hx;exact⟨_,rfl,rfl⟩
    |j+2,hx=>simp at hx
   obtain⟨key,rfl,he⟩:=jO;show de _ _ _ _ _ _;walk_at"";refine K4 (U0 (by omega) (by omega)) ?_;walk_at"";exact⟨rfl,⟨_,_,rfl⟩,he⟩
  obtain⟨rfl,_,rfl⟩:=p;have eN:(g7++[O.lst [D.int (1+sh+k1*st % 97),D.int (1+sh+(50+r3)*st % 97)]])[g7.length]?=some (.lst [D.int (1+sh+k1*st % 97),D.int (1+sh+(50+r3)*st % 97)]):=b8;show wpS _ _ _ _ (g7++[O.lst [D.int (1+sh+k1*st % 97),D.int (1+sh+(50+r3)*st % 97)]]) _;walk_at"";refine d5 h4 (D6.snoc _) (by decide) (by decide) λr8 g8 lC lB D8 G8=>?_;have l7:=D6.lt;have Yj:=G8.at (by omega) eN;have KG:=G8.at (by omega) (j4 KH);have zz:=G8.at (by omega) (j4 Kz);have Dy:=G8.at (by omega) (j4 vX);walk_at"";refine K4 (zU (by omega) (by omega)) ?_;walk_at"";obtain⟨lm,el,gl,ll⟩:=W4.get (.inl k1);obtain⟨um,eu,gu,lu⟩:=W4.get (.inl (50+r3));refine wu zz (k:=.inl k1) rfl ?_;rw[el];walk_at"";refine wu zz (k:=.inl (50+r3)) rfl ?_;rw[eu];walk_at"";refine Q6 Dy (by simp;omega) ?_;generalize iX:y'*(if decide (0<r8)=true then 1 else 0)=ty;have kG:0<=ty/\ty<=9999:=by
   rw[<- iX];split<;>simp<;>omega
  walk_at"";refine h f' y' _ _ _ _ _ _ ⟨⟨_,k9 KG (by omega),CP,by(clear hi hv dg iW jk o1 o2 o3 o4 f1 f2 hk y0 y1 lf f3 f5 fL gJ fq gI gb gx kb1 gK iA ki kh kf kS kR lC lB l7 ll lu iX kG;omega)⟩,⟨by omega,by(clear hi hv dg iW jk o1 o2 o3 o4 hl f1 hk y0 y1 lf fL gJ jl fq gI gb gx kb1 gK iA ki kh kf kS kR lC lB l7 ll lu iX kG;omega)⟩,⟨tu,k9 zz (by omega),W4,ki⟩,⟨cs++[⟨1+sh+k1*st % 97,lm,1+sh+(50+r3)*st % 97,um,ty⟩],?_,by simp[hc],?_⟩,⟨kS,kR⟩,D8.L0 (by omega)⟩ (λj a b=>?_) ?_
  ·rw[get_set Dy];simp[a8.d]
  ·intro c gi;rcases aI.mp gi with z|z
   ·exact hg c z
   ·simp at z;subst z;have m1:=dZ (k1*st) (show(97:Int)≠0 by decide);have m2:=dn (k1*st) (show(0:Int)<97 by decide);have m3:=dZ ((50+r3)*st) (show(97:Int)≠0 by decide);have m4:=dn ((50+r3)*st) (show(0:Int)<97 by decide);exact iG.mk' (by(clear hi hv dg iW o1 o2 o3 o4 hl f1 f2 hk hc y0 y1 lf f3 f5 fL gJ jl fq gI gb gx kb1 gK iA ki kh kf kS kR lC lB l7 ll lu iX kG m2 m3 m4;omega)) (by(clear hi hv dg iW o1 o2 o3 o4 hl f1 f2 hk hc y0 y1 lf f3 f5 fL gJ jl fq gI gb gx kb1 gK iA ki kh kf kS kR lC lB l7 ll lu iX kG m2 m3 m4;omega)) (by(clear hi hv dg iW o1 o2 o3 o4 hl f1 f2 hk hc y0 y1 lf f3 f5 fL gJ jl fq gI gb gx kb1 gK iA ki kh kf kS kR lC lB l7 ll lu iX kG m1 m2 m4;omega)) (by(clear hi hv dg iW o1 o2 o3 o4 hl f1 f2 hk hc y0 y1 lf f3 f5 fL gJ jl fq gI gb gx kb1 gK iA ki kh kf kS kR lC lB l7 ll lu iX kG m1 m2 m4;omega)) kG.1 kG.2 gl gu ll lu
  ·have lj:j<g'.length:=by(clear hi hv dg iW jk o1 hl f1 f2 hk hc y0 y1 f3 f5 fL gJ jl fq gI gb gx kb1 ki kh kf kS kR lC lB l7 ll lu iX kG a;omega)
   rw[av (by(clear hi hv dg iW jk o1 hl f1 f2 hk hc y0 y1 lf f3 f5 fL gJ jl fq gI gb gx kb1 gK iA ki kh kf kS kR lC lB l7 ll lu iX kG a lj;omega)),G8.old j a (by have:=G6.len;simp;(clear hi hv dg iW jk o1 o2 o3 o4 hl f1 f2 hk hc y0 y1 lf f3 f5 fL gJ jl fq gI gb gx kb1 gK iA ki kh kf kS kR lC lB l7 ll lu iX kG a b;omega)),au (by have:=G6.len;(clear hi hv dg iW jk o1 o2 o3 o4 hl f1 f2 hk hc y0 y1 lf f3 f5 fL gJ jl fq gI gb gx kb1 gK iA ki kh kf kS kR lC lB l7 ll lu iX kG a b;omega)),G6.old j a lj];exact sP j a b
  ·have:=G6.len;have:=G8.len;simp at this ⊢
   (clear hi hv dg iW jk o1 o2 o3 o4 hl f1 f2 hk hc y0 y1 lf f3 f5 fL gJ jl fq gI gb gx kb1 ki kh kf kS kR lC lB l7 ll lu iX kG;omega)
 refine if2 (λc=>?_) (λc=>?_)
 ·walk_at"";refine d5 h4 D5 (by decide) (by decide) λr6 g6 Cs Cr D6 G6=>?_;walk_at"";generalize yp:(if y+1+r6<9999 then y+1+r6 else 9999)=y';have:0<=y'/\y'<=9999:=by rw[<- yp];split<;>omega
  exact tail y' g6 this.1 this.2 D6 (G5.trans G6)
 ·refine B7 ?_;exact tail y g5 y0 y1 D5 G5
theorem Vg(h4:T 4=some u7)(ue:T 23=some E4)(Kk:T 24=some E3){n:Int}(hn:0<=n/\n<=100)(hv:1<=v/\v<=100)(D0:i6 g d)(h:∀(cs:List a8) a g',(cs.length:Int)=n->(∀c∈cs,iG c)->g'[a]?=some (.lst (cs.map a8.d))->g.length<=a->i6 g' d->Gr d g g'->Q (.ref a) g'):b9 T (k+3) 24 [.ref d,.int n,.int v] g Q E:=by
 refine call_of Kk rfl ?_;dsimp[E3,d8,List.replicate];have dl:=D0.lt;walk_at"";have D1:i6 (g++[O.lst []]++[O.cg []]++[O.lst [.int 0,.int 1,.int 1350]]) d:=((D0.snoc _).snoc _).snoc _;have G1:Gr d g (g++[O.lst []]++[O.cg []]++[O.lst [.int 0,.int 1,.int 1350]]):=((Gr.snoc _ _ _).trans (Gr.snoc _ _ _)).trans (Gr.snoc _ _ _);have e0:(g++[O.lst []]++[O.cg []]++[O.lst [.int 0,.int 1,.int 1350]])[g.length]?=some (.lst []):=j4 (j4 b8);have e1:(g++[O.lst []]++[O.cg []]++[O.lst [.int 0,.int 1,.int 1350]])[(g++[O.lst []]).length]?=some (.cg []):=j4 b8;have e2:(g++[O.lst []]++[O.cg []]++[O.lst [.int 0,.int 1,.int 1350]])[(g++[O.lst []]++[O.cg []]).length]?=some (.lst [.int 0,.int 1,.int 1350]):=b8;have n1:(g++[O.lst []]).length=g.length+1:=by simp
 have n2:(g++[O.lst []]++[O.cg []]).length=g.length+2:=by simp
 rw[n1] at e1 ⊢;rw[n2] at e2 ⊢;generalize g++[O.lst []]++[O.cg []]++[O.lst [.int 0,.int 1,.int 1350]]=g1 at *;refine d5 h4 D1 (by decide) (by decide) λr2 g2 gJ gI D2 G2=>?_;have KY:=G2.at (by omega) e0;have zG:=G2.at (by omega) e1;have KQ:=G2.at (by omega) e2;obtain⟨x,hx,hm⟩:=u6 (l:=[D.int 0,.int 1,.int 1350]) gJ (by simpa using gI);have hy:∃y:Int,x=.int y/\0<=y/\y<=9999:=by
  simp only[List.mem_cons,List.mem_nil_iff,or_false] at hm;rcases hm with rfl|rfl|rfl<;>exact⟨_,rfl,by decide,by decide⟩
 obtain⟨y,rfl,y0,y1⟩:=hy;refine p7 (a7 KQ) hx ?_;walk_at"";refine d5 h4 D2 (by decide) (by decide) λr3 g3 gb gx D3 G3=>?_;walk_at"";refine d5 h4 D3 (by decide) (by decide) λr4 g4 pF qE D4 G4=>?_;walk_at"";refine d5 h4 D4 (by decide) (by decide) λr5 g5 kh kf D5 G5=>?_;have xo:=G3.trans (G4.trans G5);have KW:=xo.at (by omega) KY;have DF:=xo.at (by omega) zG;have l5:=(G1.trans (G2.trans xo)).len;have lw:=o6 DF;walk_at"";generalize jk:(if r5-6>0 then r5-6 else 0)=sh;have Ci:0<=sh/\sh<=2:=by rw[<- jk];split<;>omega
 have KP:(g5++[O.lst []])[g5.length]?=some (.lst []):=b8;refine F4 (b7 T _) (oI (b7 T _) ?_);walk_at"";refine ⟨by omega,by omega,j7 0 n.toNat,λi Z g'=>∃ f' y' xD si mx kQ sg sf,Z=[some (.ref d),some (.int n),some (.int v),some (.ref g.length),some (.int f'),some (.ref (g.length + 1)),some (.int y'),some (.int (1 + r3)),some (.int (2 + r4)),some (.int sh),some (.ref g5.length),xD,si,mx,kQ,sg,sf]/\iF d g.length (g.length + 1) g5.length i g' f' y'/\Gr d g g',
  λ_ _ _ _=>A6,⟨1,y,none,none,none,none,none,none,rfl,⟨⟨[],j4 KW,⟨[],rfl,by simp⟩,by simp⟩,⟨by omega,by omega⟩,⟨[],j4 DF,(λk v hv=>by cases hv),by simp⟩,⟨[],KP,rfl,by simp⟩,⟨y0,y1⟩,D5.snoc _⟩,(G1.trans (G2.trans xo)).trans (Gr.snoc _ _ _)⟩,λi x Z g' hx p=>?_,λZ g' p=>?_⟩
 ·obtain⟨f',y',xD,si,mx,kQ,sg,sf,rfl,S,G'⟩:=p;obtain⟨hi,rfl⟩:=E1 hx;show wpS _ J1 _ _ _ _;refine RA (n0:=g.length) h4 ue S (by omega) hv ⟨by omega,by omega⟩ ⟨by omega,by omega⟩ Ci dl (ak _) (by omega) (by omega) λf2 y2 a b c e f g2 S2 pK tf=>?_;exact⟨f2,y2,_,_,_,_,_,_,rfl,S2,⟨by have:=G'.len;(clear hn hv dl gJ gI y0 y1 gb gx pF qE kh kf l5 lw jk Ci hi;omega),λj h1 h2=>(pK j h1 h2).trans (G'.old j h1 h2)⟩⟩
 ·obtain⟨f',y',xD,si,mx,kQ,sg,sf,rfl,S,G'⟩:=p;show wpS _ _ _ _ _ _;walk_at"";obtain⟨cs,ef,hc,hg⟩:=S.found;rw[t8] at hc;exact h cs _ _ (by omega) hg ef (by omega) S.dr G'
end
def wU:bj:=⟨2,8,(.seq (.set 2 (bO .jJ (aP 1) (bO (.bin .Add) (bO (.bin .Add) (bO (.bin .FloorDiv) bp (aP 2)) (bO (.bin .Mod) bp (aP 2))) (aP 1)))) (.seq (.set 3 (bO (.bin .Add) cc (bO (.ko false true) (.call 21 (cT aO cc)) (bO (.bin .FloorDiv) bp (aP 2))))) (.seq (.set 4 (.call 4 (cT aO (aP 3)))) (.seq (.set 5 (.prim .lst .nil)) (.seq (.dF (.one 6) (.eE bp) (.seq (.set 7 (cS (.prim .lst (kn (bO (.bin .Add) (aP 1000) eL) (aP 0) (bO (.bin .Add) (aP 1) (bO (.bin .FloorDiv) (bO (.bin .Mult) (aP 2) eL) (bO .max (aP 1) bp))))) da)) (.seq (.expr (.eB .append eY (fN (.prim .tup (my (cS cE eL) (.prim .tup .nil) (bO (.bin .Add) (aP 1) (.call 4 (cT aO (aP 9)))) (.prim .tup .nil) gf))))) .pass))) (.seq (.ret eY) .pass))))))⟩
def N9:bj:=⟨2,9,(.seq (.set 2 (.call 4 (cT aO (bO (.bin .Add) bp (aP 1))))) (.seq (.set 3 (bO (.bin .Add) (aP 1) (.call 4 (cT aO (aP 3))))) (.seq (.set 4 (.call 4 (cT aO (aP 5)))) (.seq (.ifs (dX .Eq da (aP 0)) (.seq (.ret (bO .tup (.comp [0] 3 (.one 2) (.eE cc) .no (.call 22 (fN aO))) cE)) .pass) .pass) (.seq (.ifs (dX .Eq da (aP 4)) (.seq (.set 3 (bO (.bin .Add) (aP 1) (.call 4 (cT aO (aP 6))))) .pass) .pass) (.seq (.set 5 (.ite (dX .Eq da (aP 4)) (.call 25 (cT aO cc)) (.call 24 (kn aO cc cE)))) (.seq (.set 5 (.comp [5] 3 (.one 2) (.iL (.call 21 (cT aO (dD .iz cc)))) .no (cS aO cc))) (.seq (.ifs (.dw (dX .Eq da (aP 1)) (dX .Gt cc (aP 0))) (.seq (.set 6 (.call 4 (cT aO cc))) (.seq (.set 7 (cS eY eL)) (.seq (.set 8 (cS eY (.call 4 (cT aO cc)))) (.seq (.dS eY eL (.prim .tup (my (cS gf (aP 0)) (cS hU (aP 1)) (cS hU (aP 2)) (cS gf (aP 3)) (cS (.prim .lst (kn (cS gf (aP 4)) (cS hU (aP 4)) (aP 9999))) (.call 4 (cT aO (aP 3))))))) .pass)))) .pass) (.seq (.ifs (dX .Eq da (aP 2)) (.seq (.set 3 (aP 1)) .pass) .pass) (.seq (.ret (bO .tup eY cE)) .pass))))))))))⟩
theorem GD{p:Int->Prop}:∀{l:List D},(∀x∈l,∃i:Int,x=.int i/\p i)->∃ns:List Int,l=ns.map .int/\∀i∈ns,p i
 |[],_=>⟨[],rfl,by simp⟩
 |x::r,h=>by
  obtain⟨i,rfl,hi⟩:=h x (by simp);obtain⟨ns,rfl,hn⟩:=GD (l:=r) λy hy=>h y (by simp[hy]);exact⟨i::ns,rfl,λj hj=>(aA.mp hj).elim (λz=>z▸hi) (hn j)⟩
theorem GU{lo:Int}{x:D}(h:x∈j7 lo n):∃i:Int,x=.int i/\lo<=i/\i<lo+n:=by
 unfold j7 at h;obtain⟨k,hk,rfl⟩:=aN.mp h;exact⟨_,rfl,by omega,by have:=mY.mp hk;omega⟩
theorem Aq{l:List α}{lo hi:Option Int}{x:α}(h:x∈cut l lo hi):x∈l:=by
 unfold cut at h;exact xw (xu h)
theorem FP{l:List α}(h:n<=l.length):cut l none (some (n:Int))=l.take n:=by
 have:¬((n:Int)<0):=by omega
 unfold cut HT.df;simp[this]
theorem PQ(h0:0<=r)(h1:r<ns.length):∃i∈ns,gj (ns.map D.int) r=some (.int i):=by
 obtain⟨v,hv,hm⟩:=u6 (l:=ns.map D.int) h0 (by simpa using h1);obtain⟨i,hi,rfl⟩:=aN.mp hm;exact⟨i,hi,hv⟩
theorem X8(h0:0<=r)(h1:r<cs.length):∃c∈cs,gj (cs.map a8.d) r=some c.d:=by
 obtain⟨v,hv,hm⟩:=u6 (l:=cs.map a8.d) h0 (by simpa using h1);obtain⟨i,hi,rfl⟩:=aN.mp hm;exact⟨i,hi,hv⟩
section
variable{T:Nat->Option bj}{d:Nat}
theorem UM(h4:T 4=some u7)(zm:T 21=some P2)(Kj:T 25=some wU){n:Int}(hn:0<=n/\n<=100)(D0:i6 g d)(h:∀(cs:List a8) a g',(cs.length:Int)=n->(∀c∈cs,iG c)->g'[a]?=some (.lst (cs.map a8.d))->g.length<=a->i6 g' d->Gr d g g'->Q (.ref a) g'):b9 T (k+3) 25 [.ref d,.int n] g Q E:=by
 refine call_of Kj rfl ?_;dsimp[wU,d8,List.replicate];have dl:=D0.lt;walk_at"";refine Jo (i:=1) (j:=n / 2+n % 2+1) (by omega) ?_;walk_at"";have hh:∃hf:Nat,(n / 2+n % 2+1-1).toNat=hf/\(hf:Int)=n / 2+n % 2/\hf<=50:=⟨_,rfl,by omega,by omega⟩
 obtain⟨hf,yK,XU,CW⟩:=hh;rw[yK];have e1:(g++[O.lst (j7 1 hf)])[g.length]?=some (.lst (j7 1 hf)):=b8;refine FE h4 zm e1 (by rw[t8];omega) (by omega) (D0.snoc _) λl' b g2 hp e2 hb D2 G2=>?_;have zG:=G2.at (by omega) e1;walk_at"";refine wH (a7 e2) ?_;have hle:l'.length=hf:=by rw[hp.length_eq,t8]
 have hc:cut l' none (some (n / 2))=l'.take (n / 2).toNat:=by
  have:=FP (l:=l') (n:=(n / 2).toNat) (by omega)
  rwa [show(((n / 2).toNat:Nat):Int)=n / 2 by omega] at this
 rw[hc];refine uS (j4 zG) b8 (by rw[t8,bN];omega) ?_;obtain⟨rl,er,hr⟩:=GD (p:=λi=>1<=i/\i<=50) (l:=j7 1 hf++l'.take (n / 2).toNat) λx hx=>by
  have nW:x∈j7 1 hf:=by
   rcases aI.mp hx with z|z
   ·exact z
   ·exact hp.mem_iff.mp (xu z)
  obtain⟨i,rfl,h1,h2⟩:=GU nW;exact⟨i,rfl,h1,by omega⟩
 have XQ:(rl.length:Int)=n:=by
  have:=dI List.length er;rw[aG,t8,bN,ah] at this;omega
 rw[er];have D3:=(D2.snoc (.lst (l'.take (n / 2).toNat))).snoc (.lst (rl.map D.int));have G3:=(Gr.snoc d g (.lst (j7 1 hf))).trans (G2.trans ((Gr.snoc d g2 (.lst (l'.take (n / 2).toNat))).trans (Gr.snoc d _ (.lst (rl.map D.int)))));have e3:(g2++[O.lst (l'.take (n / 2).toNat)]++[O.lst (rl.map D.int)])[(g2++[O.lst (l'.take (n / 2).toNat)]).length]?=some (.lst (rl.map D.int)):=b8;have l3:g.length+1<=(g2++[O.lst (l'.take (n / 2).toNat)]).length:=by have:=G2.len;simp at this ⊢;omega
 generalize (g2++[O.lst (l'.take (n / 2).toNat)]).length=Cn at *;generalize g2++[O.lst (l'.take (n / 2).toNat)]++[O.lst (rl.map D.int)]=g3 at *;walk_at"";refine d5 h4 D3 (by decide) (by decide) λr4 g4 pF qE D4 G4=>?_;have e4:=G4.at (by omega) e3;walk_at"";have vm:=G3.trans G4;have l4:=vm.len;have e5:(g4++[O.lst []])[g4.length]?=some (.lst ([].map a8.d)):=b8;have CD:=o6 e4;refine F4 (b7 T _) (oI (b7 T _) ?_);walk_at"";refine ⟨by omega,by omega,j7 0 n.toNat,λi Z g'=>∃ cs z6 z7,Z=[some (.ref d),some (.int n),some (.ref g.length),some (.ref Cn),some (.int r4),some (.ref g4.length),z6,z7]/\cs.length=i/\(∀ c ∈ cs,iG c)/\g'[g4.length]?=some (.lst (cs.map a8.d))/\g'[Cn]?=some (.lst (rl.map D.int))/\i6 g' d/\Gr d g g',
  λ_ _ _ _=>A6,⟨[],none,none,rfl,rfl,by simp,e5,j4 e4,D4.snoc _,vm.trans (Gr.snoc _ _ _)⟩,λi x Z g' hx p=>?_,λZ g' p=>?_⟩
 ·obtain⟨cs,z6,z7,rfl,hc,hg,ef,erw,D',G'⟩:=p;obtain⟨hi,rfl⟩:=E1 hx;show wpS _ _ _ _ _ _;walk_at"";refine K4 (zU (by decide) (by decide)) ?_;walk_at"";refine wb ⟨by split<;>omega,by split<;>omega⟩ ?_;walk_at"";obtain⟨yv,hy,yk⟩:∃yv:Int,gj [D.int (1000+(0+(i:Int))),D.int 0,D.int (1+2*(0+(i:Int)) / (if n>1 then n else 1))] r4=some (.int yv)/\0<=yv/\yv<=9999:=by
   have Yl:0<=2*(0+(i:Int)) / (if n>1 then n else 1):=Int.ediv_nonneg (by omega) (by split<;>omega);have Yk:2*(0+(i:Int)) / (if n>1 then n else 1)<=2*(0+(i:Int)):=Int.ediv_le_self _ (by omega);have:r4=0\/r4=1\/r4=2:=by omega
   rcases this with rfl|rfl|rfl
   ·exact⟨_,rfl,by omega,by(clear dl yK CW hb l3 l4 CD hc pF qE;omega)⟩
   ·exact⟨_,rfl,by omega,by omega⟩
   ·exact⟨_,rfl,by omega,by omega⟩
  refine p7 (a7 b8) hy ?_;walk_at"";obtain⟨lo,CU,yD⟩:=PQ (ns:=rl) (r:=0+(i:Int)) (by omega) (by(clear hn dl yK CW hb l3 pF qE l4 CD yk;omega));have lf:=o6 ef;refine And.intro (P0 (j4 ef)) ?_;walk_at"";refine p7 (a7 (j4 erw)) yD ?_;walk_at"";refine d5 h4 (D'.snoc _) (by decide) (by decide) λr6 g6 Cs Cr D6 G6=>?_;have vX:=G6.at (by omega) (j4 ef);have KJ:=G6.at (by omega) (j4 erw);walk_at"";refine Q6 vX (by simp;omega) ?_;walk_at"";have XT:=hr lo CU;refine⟨cs++[⟨lo,[],1+r6,[],yv⟩],_,_,rfl,by simp[hc],?_,?_,k9 KJ (by omega),D6.L0 (by omega),(G'.trans ((Gr.snoc _ _ _).trans G6)).L0 (by omega)⟩
  ·intro c gi;rcases aI.mp gi with z|z
   ·exact hg c z
   ·simp at z;subst z;exact iG.mk' (by omega) (by omega) (by omega) (by omega) yk.1 yk.2 rfl rfl (by simp) (by simp)
  ·rw[get_set vX];simp[a8.d]
 ·obtain⟨cs,z6,z7,rfl,hc,hg,ef,erw,D',G'⟩:=p;show wpS _ _ _ _ _ _;walk_at"";rw[t8] at hc;exact h cs _ _ (by omega) hg ef (by omega) D' G'
end
section
variable{T:Nat->Option bj}{d:Nat}
structure LF(T:Nat->Option bj):Prop where
 pull:T 4=some u7
 order:T 21=some P2
 any:T 22=some W6
 pD:T 23=some E4
 ph:T 24=some E3
 opened:T 25=some wU
 list:T 26=some N9
theorem Vz(hT:LF T){n:Int}(hn:0<=n/\n<=99)(D0:i6 g d)(h:∀(cs:List a8) a (v:Int) g',(cs.length:Int)<=n->(∀c∈cs,iG c)->g'[a]?=some (.lst (cs.map a8.d))->g.length<=a->1<=v->v<=6->i6 g' d->Gr d g g'->Q (.tup [.ref a,.int v]) g'):b9 T (k+4) 26 [.ref d,.int n] g Q E:=by
 refine call_of hT.list rfl ?_;dsimp[N9,d8,List.replicate];have dl:=D0.lt;walk_at"";refine d5 (n:=n+1) hT.pull D0 (by omega) (by omega) λm g1 m0 m1 D1 G1=>?_;walk_at"";refine d5 hT.pull D1 (by decide) (by decide) λr2 g2 gJ gI D2 G2=>?_;walk_at"";refine d5 hT.pull D2 (by decide) (by decide) λway g3 w0 w1 D3 G3=>?_;have xp:=G1.trans (G2.trans G3);have l3:=xp.len;walk_at"";refine if2 (λc=>?_) (λc=>?_)
 ·walk_at"";refine M6 (b7 T _) (oI (b7 T _) ?_);walk_at"";refine⟨by omega,by omega,j7 0 m.toNat,λi ys Z g'=>∃cs z1 z2,ys=cs.map a8.d/\cs.length=i/\(∀c∈cs,iG c)/\Z=[some (.ref d),z1,z2]/\i6 g' d/\Gr d g g',by rw[t8];omega,λi ys Z g' p=>⟨A6,?_⟩,⟨[],none,none,rfl,rfl,by simp,rfl,D3,xp⟩,λi x ys Z g' hx p=>?_,λys Z g' p=>?_⟩
  ·obtain⟨cs,z1,z2,rfl,hc,_⟩:=p;simp[hc]
  ·obtain⟨cs,z1,z2,rfl,hc,hg,rfl,D',G'⟩:=p;show de _ _ _ _ _ _;walk_at"";refine VY hT.pull hT.any D' λc0 g4 gc D4 G4=>?_;refine⟨cs++[c0],_,_,by simp,by simp[hc],λc1 tX=>?_,rfl,D4,G'.trans G4⟩;rcases aI.mp tX with z|z
   ·exact hg c1 z
   ·simp at z;subst z;exact gc
  ·obtain⟨cs,z1,z2,rfl,hc,hg,rfl,D',G'⟩:=p;rw[t8] at hc;walk_at"";exact h cs _ _ _ (by omega) hg b8 G'.len (by omega) (by omega) (D'.snoc _) (G'.trans (Gr.snoc _ _ _))
 have tail:∀(v:Int) (g4:G),1<=v->v<=6->i6 g4 d->Gr d g g4->wpS (b9 T (k+3)) (i7 (i7 (i7 (i7 (i7 N9.body))))) ⟨λ_ g'=>Q .bL g',Q,λ_ _=>False,λ_ _=>False⟩ [some (.ref d),some (.int n),some (.int m),some (.int v),some (.int way),none,none,none,none] g4 E:=by
  intro v g4 v0 v1 D4 G4;dsimp[N9,i7];have after:∀(cs:List a8) a g5,(cs.length:Int)=m->(∀c∈cs,iG c)->g5[a]?=some (.lst (cs.map a8.d))->g4.length<=a->i6 g5 d->Gr d g4 g5->wpS (b9 T (k+3)) (i7 (i7 (i7 (i7 (i7 (i7 N9.body)))))) ⟨λ_ g'=>Q .bL g',Q,λ_ _=>False,λ_ _=>False⟩ [some (.ref d),some (.int n),some (.int m),some (.int v),some (.int way),some (.ref a),none,none,none] g5 E:=by
   intro cs a g5 hc hg ea la D5 G5;have Ij:=G4.trans G5;have l4:=G4.len;dsimp[N9,i7];walk_at"";refine M6 (b7 T _) (pN (b7 T _) ?_);walk_at"";refine yb (by omega) (by omega) ?_;walk_at"";have e6:(g5++[O.lst (j7 0 m.toNat)])[g5.length]?=some (.lst (j7 0 m.toNat)):=b8;have l5:=D5.lt;refine FE hT.pull hT.order e6 (by rw[t8];omega) (by omega) (D5.snoc _) λl' b g7 hp eb lb D7 G7=>?_;have KN:=G7.at (by omega) (j4 ea);have jU:l'.length=m.toNat:=by rw[hp.length_eq,t8]
   refine⟨b,l',rfl,a7 eb,l',λi ys Z g'=>∃fz z1 z2,ys=fz.map a8.d/\fz.length=i/\(∀c∈fz,iG c)/\Z=[some (.ref a),z1,z2]/\g'=g7,by omega,λi ys Z g' p=>?_,⟨[],none,none,rfl,rfl,by simp,rfl,rfl⟩,λi x ys Z g' hx p=>?_,λys Z g' p=>?_⟩
   ·obtain⟨fz,z1,z2,rfl,gi,_,_,rfl⟩:=p;exact⟨P6 (a7 eb),by simp[gi]⟩
   ·obtain⟨fz,z1,z2,rfl,gi,nC,rfl,rfl⟩:=p;obtain⟨j,rfl,j0,j1⟩:=GU (hp.mem_iff.mp (aY hx));show de _ _ _ _ _ _;walk_at"";obtain⟨c0,qV,e0⟩:=X8 (cs:=cs) j0 (by omega);refine p7 (a7 KN) e0 ?_;refine⟨fz++[c0],_,_,by simp,by simp[gi],λc1 tX=>?_,rfl,rfl⟩;rcases aI.mp tX with z|z
    ·exact nC c1 z
    ·simp at z;subst z;exact hg c1 qV
   ·obtain⟨fz,z1,z2,rfl,gi,nC,rfl,rfl⟩:=p;have e8:(g'++[O.lst (fz.map a8.d)])[g'.length]?=some (.lst (fz.map a8.d)):=b8;have D8:=D7.snoc (.lst (fz.map a8.d));have G8:=(Ij.trans ((Gr.snoc d g5 (.lst (j7 0 m.toNat))).trans G7)).trans (Gr.snoc d g' (.lst (fz.map a8.d)));have l8:g.length<=g'.length:=(Ij.trans ((Gr.snoc d g5 (.lst (j7 0 m.toNat))).trans G7)).len;have fin:∀(rh:List a8) z6 z7 z8 g9,(rh.length:Int)=m->(∀c∈rh,iG c)->g9[g'.length]?=some (.lst (rh.map a8.d))->i6 g9 d->Gr d g g9->wpS (b9 T (k+3)) (i7 (i7 (i7 (i7 (i7 (i7 (i7 (i7 N9.body)))))))) ⟨λ_ g'=>Q .bL g',Q,λ_ _=>False,λ_ _=>False⟩ [some (.ref d),some (.int n),some (.int m),some (.int v),some (.int way),some (.ref g'.length),z6,z7,z8] g9 E:=by
     intro rh z6 z7 z8 g9 oq CY e9 D9 G9;dsimp[N9,i7];walk_at"";refine if2 (λc=>?_) (λc=>?_)
     ·walk_at"";exact h rh _ _ _ (by omega) CY e9 l8 (by omega) (by omega) D9 G9
     ·walk_at"";exact h rh _ _ _ (by omega) CY e9 l8 v0 v1 D9 G9
    show wpS _ _ _ _ (g'++[O.lst (fz.map a8.d)]) _;have kW:(fz.length:Int)=m:=by omega
    have vJ:=D7.lt;generalize XX:g'++[O.lst (fz.map a8.d)]=g8 at *;walk_at"";refine if2 (λc1=>?_) (λc1=>?_)
    ·walk_at"";refine if2 (λc2=>?_) (λc2=>?_)
     ·walk_at"";refine d5 (n:=m) hT.pull D8 c2 (by omega) λr g9 r0 r1 D9 G9=>?_;have e9:=G9.at (by omega) e8;obtain⟨c0,qV,e0⟩:=X8 (cs:=fz) r0 (by(clear hn dl m0 m1 gJ gI w0 w1 l3 c v0 v1 la l4 l5 lb jU gi l8 vJ c1 c2 r0;omega));walk_at"";refine p7 (a7 e9) e0 ?_;walk_at"";refine d5 (n:=m) hT.pull D9 c2 (by omega) λr' Kw qG vE Im Ii=>?_;have DG:=Ii.at (by omega) e9;obtain⟨c3,Df,e3⟩:=X8 (cs:=fz) qG (by(clear hn dl m0 m1 gJ gI w0 w1 l3 c v0 v1 la l4 l5 lb jU gi l8 vJ c1 c2 r0 r1 qG;omega));refine p7 (a7 DG) e3 ?_;dsimp only[a8.d];walk_at"";refine d5 hT.pull (Im.snoc _) (by decide) (by decide) λJf Yc lE lD Xf BP=>?_;have CG:=Im.lt;have KS:=BP.at (by omega) (b8 (g:=Kw) (o:=.lst [.int c0.yr,.int c3.yr,.int 9999]));have ux:=BP.at (by omega) (j4 (o':=.lst [.int c0.yr,.int c3.yr,.int 9999]) DG);obtain⟨x,hx,hm⟩:=u6 (l:=[D.int c0.yr,.int c3.yr,.int 9999]) lE (by simpa using lD);obtain⟨a1,a2,a3,a4,a5,a6⟩:=(nC c0 qV).inv;obtain⟨b1,b2,b3,b4,b5,b6⟩:=(nC c3 Df).inv;have hy:∃y:Int,x=.int y/\0<=y/\y<=9999:=by
       simp only[List.mem_cons,List.mem_nil_iff,or_false] at hm;rcases hm with rfl|rfl|rfl
       ·exact⟨_,rfl,a5,a6⟩
       ·exact⟨_,rfl,b5,b6⟩
       ·exact⟨_,rfl,by decide,by decide⟩
      obtain⟨y,rfl,y0,y1⟩:=hy;refine p7 (a7 KS) hx ?_;walk_at"";have hj:jT (fz.map a8.d).length r=some r.toNat:=by
       unfold jT;rw[aE r0,aE (by rw[ah];(clear hn dl m0 m1 gJ gI w0 w1 l3 c v0 v1 la l4 l5 lb jU gi l8 vJ c1 c2 r0 qG vE lE lD CG a1 a3 a5 a6 b1 b3 b5 b6 y0 y1;omega))]
      refine Q2 ux hj ?_;have gr:iG ⟨c0.lo,c3.lm,c3.up,c0.um,y⟩:=iG.mk' a1.1 a1.2 b3.1 b3.2 y0 y1 b2 a4 (nC c3 Df).l8 (nC c0 qV).u8;refine fin (fz.set r.toNat ⟨c0.lo,c3.lm,c3.up,c0.um,y⟩) _ _ _ _ (by simp;(clear hn dl m0 m1 gJ gI w0 w1 l3 c v0 v1 la l4 l5 lb jU gi l8 vJ c1 c2 r0 r1 qG vE lE lD CG a1 a3 a5 a6 b1 b3 b5 b6 y0 y1;omega)) (λc4 JS=>?_) ?_ (Xf.L0 (by omega)) ((G8.trans (G9.trans (Ii.trans ((Gr.snoc _ _ _).trans BP)))).L0 l8)
      ·rcases nL JS with z|z
       ·exact nC c4 z
       ·rw[z];exact gr
      ·rw[get_set ux,List.map_set]
       rfl
     ·refine B7 ?_;exact fin fz _ _ _ _ kW nC e8 D8 G8
    ·exact fin fz _ _ _ _ kW nC e8 D8 G8
  walk_at"";refine if2 (λc=>?_) (λc=>?_)
  ·walk_at"";refine UM hT.pull hT.order hT.opened ⟨m0,by omega⟩ D4 λcs a g5 hc hg ea la D5 G5=>?_;exact after cs a g5 hc hg ea la D5 G5
  ·walk_at"";refine Vg hT.pull hT.pD hT.ph ⟨m0,by omega⟩ ⟨v0,by omega⟩ D4 λcs a g5 hc hg ea la D5 G5=>?_;exact after cs a g5 hc hg ea la D5 G5
 walk_at"";refine if2 (λc=>?_) (λc=>?_)
 ·walk_at"";refine d5 hT.pull D3 (by decide) (by decide) λr4 g4 pF qE D4 G4=>?_;walk_at "w1";walk_at "w1";exact tail _ _ (by omega) (by omega) D4 (xp.trans G4)
 ·refine B7 ?_;exact tail _ _ (by omega) (by omega) D3 xp
end
def wq:bj:=⟨2,2,(.seq (.ifs (dX .Eq (.call 4 (cT aO (aP 12))) (aP 7)) (.seq (.ret (.call 5 (fN aO))) .pass) .pass) (.seq (.ret (bO (.bin .Sub) (.call 4 (cT aO (bO (.bin .Add) bp (aP 4)))) (aP 2))) .pass))⟩
def W5:bj:=⟨1,1,(.seq (.ifs (.et (.fE (.call 12 (fN aO)))) (.seq (.raise "BadCoin" (fN (mH "it is no coin"))) .pass) .pass) .pass)⟩
def S0:bj:=⟨1,2,(.seq (.ifs (dX .Gt (dD .len aO) (aP 9)) (.seq (.raise "TooMany" (fN (mH "at most nine coins are asked about at once"))) .pass) .pass) (.seq (.dF (.one 1) (.iL aO) (.seq (.expr (.call 39 (fN bp))) .pass)) .pass))⟩
def O0:bj:=⟨1,1,(.seq (.ifs (dX .NotIn aO (.lit (.tup [(.str "lower"),(.str "upper")]))) (.seq (.raise "BadSide" (fN (mH "a side is lower or upper"))) .pass) .pass) .pass)⟩
def AS:bj:=⟨1,1,(.seq (.expr (.call 40 (fN aO))) (.seq (.ret (bO .lZ (.lit (.tup [(.tup [(.str "lower"),(.int 0)]),(.tup [(.str "upper"),(.int 2)])])) aO)) .pass))⟩
noncomputable abbrev Io(T:Nat->Option bj):Prop:=T 18=some S0/\T 39=some W5
noncomputable abbrev vp(T:Nat->Option bj):Prop:=T 19=some AS/\T 40=some O0
def F9:bj:=⟨2,3,(.seq (.ifs (.dw (dX .Gt (dD .len bp) (aP 0)) (dX .Eq (.call 4 (cT aO (aP 4))) (aP 0))) (.seq (.set 2 (.call 4 (cT aO (dD .len bp)))) (.seq (.set 1 (bO (.bin .Add) (bO (.bin .Add) (bO (.ko false true) bp cc) (dD .lst (.call 14 (cT aO (cS bp cc))))) (bO (.ko true false) bp (bO (.bin .Add) cc (aP 1))))) .pass)) .pass) (.seq (.ifs (.dw (dX .Gt (dD .len bp) (aP 0)) (dX .Eq (.call 4 (cT aO (aP 8))) (aP 0))) (.seq (.set 1 (bO (.ko false true) (bO (.bin .Mult) bp (aP 10)) (cS (.prim .lst (kn (aP 10) (aP 11) (aP 9))) (.call 4 (cT aO (aP 3)))))) .pass) .pass) (.seq (.ret bp) .pass)))⟩
def Q8:bj:=⟨1,1,(.seq (.ifs (dX .Gt (dD .len aO) (aP 9)) (.seq (.ret (mH "TooMany")) .pass) .pass) (.seq (.ifs (.et (.fE (dD .all (.comp [] 2 (.one 1) (.iL aO) .no (.call 13 (fN bp)))))) (.seq (.ret (mH "BadCoin")) .pass) .pass) (.seq (.ret (mH "")) .pass)))⟩
structure Ex(g g':G):Prop where
 len:g.length<=g'.length
 old:∀i,i<g.length->g'[i]?=g[i]?
theorem Ex.refl(g:G):Ex g g:=⟨ak _,λ_ _=>rfl⟩
theorem Ex.trans{g g1 g2:G}(a:Ex g g1)(b:Ex g1 g2):Ex g g2:=⟨aM a.len b.len,λi h=>(b.old i (ay h a.len)).trans (a.old i h)⟩
theorem Ex.snoc(g:G)(o:O):Ex g (g++[o]):=⟨by simp,λi h=>au h⟩
theorem Ex.at(h:Ex g g')(e:g[i]?=some o):g'[i]?=some o:=(h.old i (o6 e)).trans e
theorem Ex.gr(h:Ex g g')(d:Nat):Gr d g g':=⟨h.len,λi _ h2=>h.old i h2⟩
theorem Ex.draw{d:Nat}(h:Ex g g')(D0:i6 g d):i6 g' d:=by
 obtain⟨s,p,b,r,xs,e1,e2,q⟩:=D0.ex;exact⟨s,p,b,r,xs,h.at e1,h.at e2,q⟩
inductive A1(g:G):Nat->D->D->Prop
 |bL {n:Nat}:A1 g n .bL .bL
 |bl {n:Nat} (b:Bool):A1 g n (.bl b) (.bl b)
 |int {n:Nat} (i:Int):A1 g n (.int i) (.int i)
 |str {n:Nat} (x:Str):A1 g n (.str x) (.str x)
 |tup {n:Nat} {l m:List D} (hl:l.length=m.length) (h:∀(i:Nat) x y,l[i]?=some x->m[i]?=some y->A1 g n x y) (hz:m.length<=1000):A1 g (n+1) (.tup l) (.tup m)
 |lst {n a b:Nat} {l m:List D} (ha:g[a]?=some (.lst l)) (hb:g[b]?=some (.lst m)) (hl:l.length=m.length) (h:∀(i:Nat) x y,l[i]?=some x->m[i]?=some y->A1 g n x y) (hz:m.length<=1000):A1 g (n+1) (.ref a) (.ref b)
theorem A1.ex(e:Ex g g'){x y:D}(h:A1 g n x y):A1 g' n x y:=by
 induction h with
 |bL=>exact .bL
 |bl b=>exact .bl b
 |int i=>exact .int i
 |str x=>exact .str x
 |tup hl h hz ih=>exact .tup hl ih hz
 |lst ha hb hl h hz ih=>exact .lst (e.at ha) (e.at hb) hl ih hz
section
variable{T:Nat->Option bj}
theorem FY(h6:T 6=some uL){i:Int}(h:Q (.bl true) g):b9 T (k+1) 6 [.int i] g Q E:=by
 refine call_of h6 rfl ?_;dsimp[uL,d8,List.replicate];walk_at"";refine fM (c:="int") (b:=true) (by decide) rfl ?_;walk_at"";refine fM (c:="bool") (b:=false) (by decide) rfl ?_;walk_at"";exact h
def GG:MS:=match B3.body with
 |.seq _ (.seq _ (.seq _ (.seq _ (.seq _ b))))=>b
 |x=>x
theorem UC(h6:T 6=some uL)(h7:T 7=some B3):∀(n:Nat) {k:Nat} {g:G} {x y:D} {Q:KD} {E:KX},A1 g n x y->(∀g',Ex g g'->Q (.bl true) g')->b9 T (k+n+2) 7 [x,y] g Q E:=by
 have sE:∀(n:Nat),(∀{k:Nat} {g:G} {x y:D} {Q:KD} {E:KX},A1 g n x y->(∀g',Ex g g'->Q (.bl true) g')->b9 T (k+n+2) 7 [x,y] g Q E) ->
   ∀{k:Nat} {g:G} {x y:D} {l m:List D} {Q:KD} {E:KX},(∀g',Ex g g'->C8 g' x=some l)->(∀g',Ex g g'->C8 g' y=some m)->l.length=m.length->m.length<=1000->(∀(i:Nat) x y,l[i]?=some x->m[i]?=some y->A1 g n x y)->(∀g',Ex g g'->Q (.bl true) g') ->
   wpS (b9 T (k+n+2)) GG ⟨λ_ g'=>Q .bL g',Q,λ_ _=>False,λ_ _=>False⟩ [some x,some y] g E:=by
  intro n ih k g x y l m Q E hx hy hl hz hs hQ;have len:∀(z:D) (l:List D) (g':G) (Q':KD),C8 g' z=some l->Q' (.int l.length) g'->cG .len [z] g' Q':=λz l g' Q' e q=>⟨_,_,⟨rfl,.inl ⟨z,l,rfl,e,rfl⟩⟩,q⟩
  dsimp[GG,B3];refine wz (wy (wA (Z1 (rD (w_var rfl (len _ _ _ _ (hx g (Ex.refl g)) ?_))))));refine rD (w_var rfl (len _ _ _ _ (hy g (Ex.refl g)) ?_));refine Bg ?_;rw[hl,aV rfl];walk_at"";refine M6 (b7 T _) (oI (b7 T _) ?_);refine rD (w_var rfl (len _ _ _ _ (hy g (Ex.refl g)) ?_));refine⟨_,rfl,by omega,by omega,j7 0 m.length,λi ys Z g'=>∃z w,ys=List.replicate i (.bl true)/\Z=[some y,some x,z,w]/\Ex g g',by rw[t8];exact hz,λi ys Z g' p=>⟨A6,?_⟩,⟨none,none,rfl,rfl,Ex.refl g⟩,λi z ys Z g' hz p=>?_,λys Z g' p=>?_⟩
  ·obtain⟨z,w,rfl,_⟩:=p;simp
  ·obtain⟨z,w,rfl,rfl,e⟩:=p;obtain⟨hi,rfl⟩:=E1 hz;have h1:l[i]?=some l[i]:=az (by omega);have h2:m[i]?=some m[i]:=az hi;have a1:gj l (0+(i:Int))=some l[i]:=by rw[Int.zero_add];exact L6 h1
   have a2:gj m (0+(i:Int))=some m[i]:=by rw[Int.zero_add];exact L6 h2
   show de _ _ _ _ _ _;refine Bw (jj (Z3 (M5 (Z1 (w_var rfl (w_var rfl ⟨_,_,⟨rfl,.inl ⟨_,l,_,rfl,hx g' e,a1⟩⟩,?_⟩))))));refine M5 (Z1 (w_var rfl (w_var rfl ⟨_,_,⟨rfl,.inl ⟨_,m,_,rfl,hy g' e,a2⟩⟩,?_⟩)));refine uY (ih ((hs i _ _ h1 h2).ex e) λg2 e2=>?_);exact⟨_,_,by rw[List.replicate_succ'],rfl,e.trans e2⟩
  ·obtain⟨z,w,rfl,rfl,e⟩:=p;refine Hg (a7 b8) (v:=true) ?_ (hQ _ (e.trans (Ex.snoc _ _)));have:List.replicate (j7 0 m.length).length (D.bl true)=(List.replicate (j7 0 m.length).length true).map D.bl:=by simp
   rw[this,EF];simp
 intro n
 induction n with
 |zero =>
  intro k g x y Q E h hQ;have h0:=hQ g (Ex.refl g);cases h with
  |bL =>
   refine call_of h7 rfl ?_;dsimp[B3,d8,List.replicate];walk_at"";exact h0
  |bl b=>exact GH h7 (by simpa using h0)
  |int i =>
   refine call_of h7 rfl ?_;dsimp[B3,d8,List.replicate];walk_at""
   try show wpS _ _ _ _ _ _
   walk_at"";refine fM (c:="bool") (b:=false) (by decide) rfl ?_;walk_at"";refine fM (c:="int") (b:=true) (by decide) rfl ?_;walk_at"";refine FY h6 ?_;walk_at"";simpa using h0
  |str x =>
   refine call_of h7 rfl ?_;dsimp[B3,d8,List.replicate];walk_at""
   try show wpS _ _ _ _ _ _
   walk_at"";refine fM (c:="bool") (b:=false) (by decide) rfl ?_;walk_at"";refine fM (c:="int") (b:=false) (by decide) rfl ?_;walk_at"";refine fM (c:="str") (b:=true) (by decide) rfl ?_;walk_at"";refine fM (c:="str") (b:=true) (by decide) rfl ?_;walk_at"";simpa using h0
 |succ n ih =>
  intro k g x y Q E h hQ;have h0:=hQ g (Ex.refl g);cases h with
  |bL =>
   refine call_of h7 rfl ?_;dsimp[B3,d8,List.replicate];walk_at"";exact h0
  |bl b=>exact GH h7 (by simpa using h0)
  |int i =>
   refine call_of h7 rfl ?_;dsimp[B3,d8,List.replicate];walk_at""
   try show wpS _ _ _ _ _ _
   walk_at"";refine fM (c:="bool") (b:=false) (by decide) rfl ?_;walk_at"";refine fM (c:="int") (b:=true) (by decide) rfl ?_;walk_at"";refine FY h6 ?_;walk_at"";simpa using h0
  |str x =>
   refine call_of h7 rfl ?_;dsimp[B3,d8,List.replicate];walk_at""
   try show wpS _ _ _ _ _ _
   walk_at"";refine fM (c:="bool") (b:=false) (by decide) rfl ?_;walk_at"";refine fM (c:="int") (b:=false) (by decide) rfl ?_;walk_at"";refine fM (c:="str") (b:=true) (by decide) rfl ?_;walk_at"";refine fM (c:="str") (b:=true) (by decide) rfl ?_;walk_at"";simpa using h0
  |@tup _ l m hl hs hz =>
   refine call_of h7 rfl ?_;have body:=sE n ih (k:=k) (x:=.tup l) (y:=.tup m) (E:=E) (λ_ _=>rfl) (λ_ _=>rfl) hl hz hs hQ;dsimp[B3,d8,List.replicate];walk_at""
   try show wpS _ _ _ _ _ _
   walk_at"";refine fM (c:="bool") (b:=false) (by decide) rfl ?_;walk_at"";refine fM (c:="int") (b:=false) (by decide) rfl ?_;walk_at"";refine fM (c:="str") (b:=false) (by decide) rfl ?_;walk_at"";refine fM (c:="tuple") (b:=true) (by decide) rfl ?_;walk_at"";refine fM (c:="tuple") (b:=true) (by decide) rfl ?_;walk_at"";refine jM rfl ?_;walk_at"";refine fM (c:="list") (b:=false) (by decide) rfl ?_;walk_at"";refine fM (c:="list") (b:=false) (by decide) rfl ?_;walk_at"";refine jM rfl (B7 ?_);exact body
  |@lst _ a b l m ha hb hl hs hz =>
   refine call_of h7 rfl ?_;have body:=sE n ih (k:=k) (x:=.ref a) (y:=.ref b) (E:=E) (λg' e=>a7 (e.at ha)) (λg' e=>a7 (e.at hb)) hl hz hs hQ;have ta:∀c,ql g (.ref a) c=some (c=="list"):=λc=>by simp only[ql,ha]
   have tb:∀c,ql g (.ref b) c=some (c=="list"):=λc=>by simp only[ql,hb]
   dsimp[B3,d8,List.replicate];walk_at""
   try show wpS _ _ _ _ _ _
   walk_at"";refine fM (c:="bool") (b:=false) (by decide) (tb _) ?_;walk_at"";refine fM (c:="int") (b:=false) (by decide) (tb _) ?_;walk_at"";refine fM (c:="str") (b:=false) (by decide) (tb _) ?_;walk_at"";refine fM (c:="tuple") (b:=false) (by decide) (tb _) ?_;walk_at"";refine fM (c:="tuple") (b:=false) (by decide) (ta _) ?_;walk_at"";refine jM rfl ?_;walk_at"";refine fM (c:="list") (b:=true) (by decide) (tb _) ?_;walk_at"";refine fM (c:="list") (b:=true) (by decide) (ta _) ?_;walk_at"";refine jM rfl (B7 ?_);exact body
end
theorem Ex.Rm(h:Gr g.length g g'):Ex g g':=⟨h.len,λi hi=>h.old i (by omega) hi⟩
section
variable{T:Nat->Option bj}{d:Nat}
theorem SG{x:Str}{kb:Bool->Prop}(hx:PyData.strOk x=true)(h:kb (decide (x="lower")||decide (x="upper"))):qK g (.str x) (.tup [.str "lower",.str "upper"]) kb:=by
 refine⟨_,.inr ⟨_,[.str "lower",.str "upper"],.str x,rfl,rfl,rfl,by simp only[PyData.canLayAll0,PyData.canLay0,Bool.and_true];decide +kernel,by simp only[PyData.canLay0];exact hx,rfl⟩,?_⟩;have e:∀y:Str,PyData.eqv (.str y) (.str x)=decide (x=y):=λy=>by
  simp only[PyData.eqv];rw[bX,fG,aU];exact eq_comm
 simp only[List.any_cons,List.any_nil,Bool.or_false,e];exact h
theorem Se(Kh:T 40=some O0){x:Str}(ho:PyData.strOk x=true)(h1:x="lower"\/x="upper"->Q .bL g)(h3:x≠"lower"->x≠"upper"->E ⟨"BadSide"⟩ g):b9 T (k+1) 40 [.str x] g Q E:=by
 refine call_of Kh rfl ?_;dsimp[O0,d8,List.replicate];walk_at"";refine wc (SG ho ?_);walk_at"";by_cases e:x="lower"\/x="upper"
 ·refine jM (by rw[Bool.not_eq_false',eh,aU,aU];exact e) ?_;walk_at"";exact h1 e
 ·refine kr (by rw[Bool.not_eq_true',Bool.or_eq_false_iff,cV,cV];exact not_or.mp e) ?_;walk_at"";exact h3 (λz=>e (.inl z)) (λz=>e (.inr z))
theorem K0(ky:vp T){x:Str}(ho:PyData.strOk x=true)(h1:x="lower"->Q (.int 0) g)(h2:x="upper"->Q (.int 2) g)(h3:x≠"lower"->x≠"upper"->E ⟨"BadSide"⟩ g):b9 T (k+2) 19 [.str x] g Q E:=by
 refine call_of ky.1 rfl ?_;dsimp[AS,d8,List.replicate];walk_at"";refine Se ky.2 ho (λhx=>?_) h3;walk_at"";by_cases e1:x="lower"
 ·have el:M3 [.tup [.str "lower",.int 0],.tup [.str "upper",.int 2]] x=some (.int 0):=by simp[M3,e1]
  refine HD el ?_;exact h1 e1
 ·have e2:x="upper":=hx.resolve_left e1;have el:M3 [.tup [.str "lower",.int 0],.tup [.str "upper",.int 2]] x=some (.int 2):=by simp[M3,e1];simp[e2]
  refine HD el ?_;exact h2 e2
def CB(c:a8):Prop:=c.lm.length<=8/\c.um.length<=8
theorem U1(h1:NF T)(h2:T 2=some E5)(qZ:T 12=some w6)(ug:Io T)(ha:g[a]?=some (.lst (cs.map a8.d)))(hz:cs.length<=1000)(hm:9<cs.length->E ⟨"TooMany"⟩ g)(hb:cs.length<=9->cs.all k8=false->E ⟨"BadCoin"⟩ g)(h:cs.length<=9->cs.all k8=true->Q .bL g):b9 T (k+6) 18 [.ref a] g Q E:=by
 refine call_of ug.1 rfl ?_;dsimp[S0,d8,List.replicate];walk_at"";rw[ah];refine if2 (λc=>?_) (λc=>?_)
 ·walk_at"";exact hm (by omega)
 have h9:cs.length<=9:=by omega
 walk_at"";refine F4 (b7 T _) (pN (b7 T _) ?_);walk_at"";refine⟨a,_,rfl,a7 ha,cs.map a8.d,λi Z g'=>∃z,Z=[some (.ref a),z]/\g'=g/\(cs.take i).all k8=true,λi Z g' p=>?_,⟨none,rfl,rfl,by simp⟩,λi x Z g' hx p=>?_,λZ g' p=>?_⟩
 ·obtain⟨z,rfl,rfl,_⟩:=p;exact P6 (a7 ha)
 ·obtain⟨z,rfl,rfl,hg⟩:=p;rw[aD,ae] at hx;obtain⟨c,hc,rfl⟩:=hx;refine A2 ?_
  try show wpS _ _ _ _ _ _
  walk_at"";refine call_of ug.2 rfl ?_;dsimp[W5,d8,List.replicate];walk_at"";refine RL h1 h2 qZ ?_;walk_at"";cases e:k8 c with
  |true =>
   walk_at"";refine⟨_,rfl,rfl,?_⟩;rw[dJ,hc];simp[hg,e]
  |false =>
   refine S5 ?_;walk_at"";refine hb h9 ?_;rw[List.all_eq_false];exact⟨c,aY hc,by rw[e];decide⟩
 ·obtain⟨z,rfl,rfl,hg⟩:=p;rw[ah,cX] at hg;exact h h9 hg
def wordOf(cs:List a8):Str:=if 9<cs.length then "TooMany" else if cs.all k8=true then "" else "BadCoin"
theorem RP(h8:T 8=some L3)(ui:T 13=some F8)(zk:T 28=some Q8)(ha:g[a]?=some (.lst (cs.map a8.d)))(hz:cs.length<=1000)(h:∀g',Ex g g'->Q (.str (wordOf cs)) g'):b9 T (k+3) 28 [.ref a] g Q E:=by
 refine call_of zk rfl ?_;dsimp[Q8,d8,List.replicate];walk_at"";rw[ah];refine if2 (λc=>?_) (λc=>?_)
 ·walk_at"";have:=h g (Ex.refl g);unfold wordOf at this
  rwa [aE (by omega)] at this
 have h9:¬9<cs.length:=by omega
 walk_at"";refine M6 (b7 T _) (pN (b7 T _) ?_);walk_at"";refine⟨a,_,rfl,a7 ha,cs.map a8.d,λi ys Z g'=>∃z w,ys=((cs.take i).map k8).map D.bl/\Z=[z,w]/\Ex g g',by simpa using hz,λi ys Z g' p=>?_,⟨none,none,rfl,rfl,Ex.refl g⟩,λi x ys Z g' hx p=>?_,λys Z g' p=>?_⟩
 ·obtain⟨z,w,rfl,rfl,e⟩:=p;exact⟨P6 (a7 (e.at ha)),by simp;omega⟩
 ·obtain⟨z,w,rfl,rfl,e⟩:=p;rw[aD,ae] at hx;obtain⟨c,hc,rfl⟩:=hx;show de _ _ _ _ _ _;walk_at"";refine Vt (d:=g'.length) h8 ui λg2 G2 _=>?_;refine⟨_,_,?_,rfl,e.trans (Ex.Rm G2)⟩;rw[dJ,hc];simp
 ·obtain⟨z,w,rfl,rfl,e⟩:=p;refine Hg (a7 b8) (EF _) ?_;have eb:((cs.take (cs.map a8.d).length).map k8).all id=cs.all k8:=by
   rw[ah,cX,List.all_map]
   rfl
  rw[eb];have h':=h _ (e.trans (Ex.snoc _ (.lst (((cs.take (cs.map a8.d).length).map k8).map D.bl))));unfold wordOf at h';rw[aB h9] at h';cases hc:cs.all k8 with
  |true =>
   rw[hc,aE rfl] at h';walk_at"";exact h'
  |false =>
   rw[hc,aB (by decide)] at h';walk_at"";exact h'
end
section
variable{T:Nat->Option bj}{d:Nat}
theorem RZ(h4:T 4=some u7)(h5:T 5=some W3)(uh:T 14=some M9)(hB:CB c)(D0:i6 g d)(h:∀(c':a8) g',CB c'->i6 g' d->Gr d g g'->Q c'.d g'):b9 T (k+3) 14 [.ref d,c.d] g Q E:=by
 refine call_of uh rfl ?_;dsimp[M9,d8,List.replicate,a8.d];walk_at"";refine d5 h4 D0 (by decide) (by decide) λway g1 _ _ D1 G1=>?_;walk_at"";refine d5 h4 (D1.snoc _) (by decide) (by decide) λr g2 r0 r1 D2 G2=>?_;have e2:=G2.at (i:=g1.length) (by have:=D1.lt;omega) (o:=.lst ([[1,0],[3,3],[8],[-1,2],[0,9],[7,10 ^ 20]].map λl=>D.tup (l.map D.int))) (by simp);obtain⟨v,hv,hm⟩:=u6 (l:=[[1,0],[3,3],[8],[-1,2],[0,9],[7,10 ^ 20]].map λl=>D.tup (l.map D.int)) r0 (by simpa using r1);obtain⟨odd,ho,rfl⟩:=aN.mp hm;have tJ:odd.length<=8:=by
  simp only[List.mem_cons,List.mem_nil_iff,or_false] at ho;rcases ho with rfl|rfl|rfl|rfl|rfl|rfl<;>decide
 refine p7 (a7 e2) hv ?_;walk_at"";refine zV h4 h5 D2 λf g3 D3 G3=>?_;walk_at"";refine d5 h4 (D3.snoc _) (by decide) (by decide) λr' g4 qG vE D4 G4=>?_;have e4:=G4.at (i:=g3.length) (by have:=D3.lt;omega) (o:=.lst ([0,100,-1,f].map D.int)) (by simp);obtain⟨v',tE,kW⟩:=u6 (l:=[0,100,-1,f].map D.int) qG (by simpa using vE);obtain⟨num,_,rfl⟩:=aN.mp kW;refine p7 (a7 e4) tE ?_;have G:Gr d g g4:=G1.trans ((Gr.snoc _ _ _).trans (G2.trans (G3.trans ((Gr.snoc _ _ _).trans G4))));walk_at"";refine if2 (λ_=>?_) (λ_=>?_)
 ·walk_at"";exact h ⟨num,c.lm,c.up,c.um,c.yr⟩ g4 hB D4 G
 walk_at"";refine if2 (λ_=>?_) (λ_=>?_)
 ·walk_at"";exact h ⟨c.lo,odd,c.up,c.um,c.yr⟩ g4 ⟨tJ,hB.2⟩ D4 G
 walk_at"";refine if2 (λ_=>?_) (λ_=>?_)
 ·walk_at"";exact h ⟨c.lo,c.lm,num,c.um,c.yr⟩ g4 hB D4 G
 walk_at"";refine if2 (λ_=>?_) (λ_=>?_)
 ·walk_at"";exact h ⟨c.lo,c.lm,c.up,odd,c.yr⟩ g4 ⟨hB.1,tJ⟩ D4 G
 walk_at"";refine if2 (λ_=>?_) (λ_=>?_)
 ·walk_at"";refine zV h4 h5 D4 λf' g5 D5 G5=>?_;walk_at"";refine d5 h4 (D5.snoc _) (by decide) (by decide) λJf g6 lE lD D6 G6=>?_;have e6:=G6.at (i:=g5.length) (by have:=D5.lt;omega) (o:=.lst ([-1,10000,9999,f'].map D.int)) (by simp);obtain⟨Xs,yt,yC⟩:=u6 (l:=[-1,10000,9999,f'].map D.int) lE (by simpa using lD);obtain⟨xV,_,rfl⟩:=aN.mp yC;refine p7 (a7 e6) yt ?_;walk_at"";exact h ⟨c.lo,c.lm,c.up,c.um,xV⟩ g6 hB D6 (G.trans (G5.trans ((Gr.snoc _ _ _).trans G6)))
 walk_at"";exact h c g4 hB D4 G
theorem Nx{l:List α}:cut l (some (n:Int)) none=l.drop n:=by
 have:¬((n:Int)<0):=by omega
 unfold cut HT.df;simp[this];by_cases h:n<=l.length
 ·rw[Nat.min_eq_left h,rS (by simp)]
 ·rw[Nat.min_eq_right (by omega),gW (ak _),gW (by omega)];simp
theorem RD(h4:T 4=some u7)(h5:T 5=some W3)(uh:T 14=some M9)(zl:T 27=some F9)(ha:g[a]?=some (.lst (cs.map a8.d)))(hB:∀c∈cs,CB c)(hz:cs.length<=9)(hd:d<a)(D0:i6 g d)(h:∀(fz:List a8) b g',(∀c∈fz,CB c)->fz.length<=11->g'[b]?=some (.lst (fz.map a8.d))->(b=a\/g.length<=b)->i6 g' d->Gr d g g'->Q (.ref b) g'):b9 T (k+4) 27 [.ref d,.ref a] g Q E:=by
 refine call_of zl rfl ?_;have dl:=D0.lt;have rest:∀(kM:List a8) b z g1,(∀c∈kM,CB c)->kM.length<=9->g1[b]?=some (.lst (kM.map a8.d))->(b=a\/g.length<=b)->i6 g1 d->Gr d g g1->wpS (b9 T (k+3)) (i7 F9.body) ⟨λ_ g'=>Q .bL g',Q,λ_ _=>False,λ_ _=>False⟩ [some (.ref d),some (.ref b),z] g1 E:=by
  intro kM b z g1 qa jN eb hb D1 G1;have lb:d<b:=by rcases hb with z|z<;>omega
  dsimp[F9,i7];walk_at"";rw[ah];refine if2 (λc=>?_) (λc=>?_)
  ·walk_at"";refine d5 h4 D1 (by decide) (by decide) λr g2 r0 r1 D2 G2=>?_;have DB:=G2.at (by omega) eb;walk_at"";refine if2 (λc=>?_) (λc=>?_)
   ·walk_at"";refine LU DB (by decide) (by decide) (by simp;omega) ?_;walk_at"";have D3:=(D2.snoc (.lst (List.replicate (Int.toNat 10) (kM.map a8.d)).flatten)).snoc (.lst [.int 10,.int 11,.int 9]);refine d5 h4 D3 (by decide) (by decide) λr3 g3 gb gx D4 G4=>?_;have l2:=D2.lt;have e5:=G4.at (by simp;omega) (b8 (g:=g2++[.lst (List.replicate (Int.toNat 10) (kM.map a8.d)).flatten]) (o:=.lst [.int 10,.int 11,.int 9]));have e6:=G4.at (by omega) (j4 (o':=.lst [.int 10,.int 11,.int 9]) (b8 (g:=g2) (o:=.lst (List.replicate (Int.toNat 10) (kM.map a8.d)).flatten)));obtain⟨x,hx,hm⟩:=u6 (l:=[D.int 10,.int 11,.int 9]) gb (by simpa using gx);have hn:∃n:Nat,x=.int n/\n<=11:=by
     simp only[List.mem_cons,List.mem_nil_iff,or_false] at hm;rcases hm with rfl|rfl|rfl
     ·exact⟨10,rfl,by decide⟩
     ·exact⟨11,rfl,by decide⟩
     ·exact⟨9,rfl,by decide⟩
    obtain⟨n,rfl,hn⟩:=hn;refine p7 (a7 e5) hx ?_;walk_at"";refine wH (a7 e6) ?_;have er:(List.replicate (Int.toNat 10) (kM.map a8.d)).flatten=((List.replicate 10 kM).flatten).map a8.d:=by
     rw[List.map_flatten,List.map_replicate]
     rfl
    rw[er,Ap];have lc:(cut (List.replicate 10 kM).flatten none (some (n:Int))).length<=11:=by
     unfold cut;rw[bN];have:HT.df (List.replicate 10 kM).flatten.length (List.replicate 10 kM).flatten.length (some (n:Int))<=n:=by
      have h0:¬((n:Int)<0):=by omega
      simp only[HT.df,h0,if_false];omega
     omega
    walk_at"";refine h _ _ _ (λc hc=>?_) lc b8 (.inr ?_) (D4.snoc _) ((G1.trans (G2.trans ((Gr.snoc _ _ _).trans ((Gr.snoc _ _ _).trans G4)))).trans (Gr.snoc _ _ _))
    ·have:=Aq hc;obtain⟨l,hl,hc⟩:=List.mem_flatten.mp this;rw[List.eq_of_mem_replicate hl] at hc;exact qa c hc
    ·exact(G1.trans (G2.trans ((Gr.snoc _ _ _).trans ((Gr.snoc _ _ _).trans G4)))).len
   ·walk_at"";exact h _ _ _ qa (by omega) DB hb D2 (G1.trans G2)
  ·walk_at"";exact h _ _ _ qa (by omega) eb hb D1 G1
 dsimp[F9,d8,List.replicate];walk_at"";rw[ah];refine if2 (λc=>?_) (λc=>?_)
 ·walk_at"";refine d5 h4 D0 (by decide) (by decide) λr g2 r0 r1 D2 G2=>?_;have DC:=G2.at (by omega) ha;walk_at"";refine if2 (λc=>?_) (λc=>?_)
  ·walk_at"";rw[ah];refine d5 (n:=(cs.length:Int)) h4 D2 (by omega) (by omega) λr3 g3 gb gx D3 G3=>?_;have zF:=G3.at (by omega) DC;walk_at"";refine wH (a7 zF) ?_;walk_at"";obtain⟨c0,qV,e0⟩:=X8 (cs:=cs) gb gx;refine p7 (a7 (j4 zF)) e0 ?_;walk_at"";refine RZ h4 h5 uh (hB c0 qV) (D3.snoc _) λc' g4 gi D4 G4=>?_;walk_at"";have l3:=D3.lt;have f1:=G4.at (by omega) (b8 (g:=g3) (o:=.lst (cut (cs.map a8.d) none (some r3))));have KO:=G4.at (by omega) (j4 (o':=.lst (cut (cs.map a8.d) none (some r3))) zF);rw[Ap] at f1;have XG:=Gx cs none (some r3);have XF:=Gx cs (some (r3+1)) none;refine uS (j4 f1) b8 (by simp;omega) ?_;walk_at"";refine Pd (a7 (j4 (j4 KO))) ?_;rw[Ap];refine uS (l:=(cut cs none (some r3)).map a8.d++[c'.d]) (m:=(cut cs (some (r3+1)) none).map a8.d) (j4 b8) b8 (by simp;omega) ?_;have er:List.map a8.d (cut cs none (some r3))++[c'.d]++List.map a8.d (cut cs (some (r3+1)) none)=(cut cs none (some r3)++[c']++cut cs (some (r3+1)) none).map a8.d:=by simp
   rw[er];walk_at "w1";walk_at "w1";have vm:=G2.trans (G3.trans ((Gr.snoc _ _ _).trans G4));have Je:∃n:Nat,r3=n:=⟨r3.toNat,by omega⟩
   obtain⟨n3,rfl⟩:=Je;have l9:(cut cs none (some (n3:Int))++[c']++cut cs (some ((n3:Int)+1)) none).length<=9:=by
    rw[FP (by omega),show((n3:Int)+1)=((n3+1:Nat):Int) by omega,Nx];simp;omega
   refine rest _ _ _ _ (λc hc=>?_) l9 b8 (.inr ?_) ((((D4.snoc _).snoc _).snoc _).snoc _) (vm.trans ((Gr.snoc _ _ _).trans ((Gr.snoc _ _ _).trans ((Gr.snoc _ _ _).trans (Gr.snoc _ _ _)))))
   ·rcases aI.mp hc with z|z
    ·rcases aI.mp z with z|z
     ·exact hB c (Aq z)
     ·simp at z;subst z;exact gi
    ·exact hB c (Aq z)
   ·have:=vm.len;simp;omega
  ·refine B7 ?_;exact rest _ _ _ _ hB hz DC (.inl rfl) D2 G2
 ·walk_at "w1";refine B7 ?_;exact rest _ _ _ _ hB hz ha (.inl rfl) D0 (Gr.refl _ _)
end
theorem EU(ha:g[a]?=some (.lst l))(hb:g[b]?=some (.lst l))(h:∀x∈l,(∃i,x=.int i)\/∃y,x=.str y)(hz:l.length<=1000):A1 g 1 (.ref a) (.ref b):=by
 refine .lst ha hb rfl (λi x y hx hy=>?_) hz;rw[hx] at hy;cases hy;rcases h x (aY hx) with⟨j,rfl⟩|⟨y,rfl⟩
 ·exact .int _
 ·exact .str _
def Bm(l:List Nat):List D:=l.map λ(i:Nat)=>D.int i
def M1:bj:=⟨2,2,(.seq (.ifs (.et (.fE (.call 1 (kn bp (aP 0) (bO (.bin .Sub) (dD .len aO) (aP 1)))))) (.seq (.raise "NoPlace" (fN (mH "no coin has that place"))) .pass) .pass) .pass)⟩
theorem SI(l:List Nat):Bm l=(l.map λ(i:Nat)=>(i:Int)).map D.int:=by simp[Bm]
section
variable{T:Nat->Option bj}
theorem E8(h1:NF T)(qW:T 83=some M1){i:Int}(ha:g[a]?=some (.lst l))(h:0<=i->i<l.length->Q .bL g)(hn:¬(0<=i/\i<l.length)->E ⟨"NoPlace"⟩ g):b9 T (k+3) 83 [.ref a,.int i] g Q E:=by
 refine call_of qW rfl ?_;dsimp[M1,d8,List.replicate];walk_at"";refine A5 (k:=k) h1 ?_;walk_at"";by_cases hi:0<=i/\i<l.length
 ·rw[aV hi.1,aV (show i<=(l.length:Int)-1 by omega)];walk_at"";exact h hi.1 hi.2
 ·have:(decide (0<=i)&&decide (i<=(l.length:Int)-1))=false:=by
   rw[Bool.and_eq_false_iff,cV,cV];omega
  rw[this];walk_at"";exact hn hi
end
theorem Uu{i:Int}{k:Bool->Prop}(ha:c8 g a=some (ms.map .int))(h:k (ms.any λm=>m==i)):qK g (.int i) (.ref a) k:=by
 refine⟨_,.inr ⟨_,_,_,ha,M8 ms,rfl,lay_ints ms,by simp[PyData.canLay0],rfl⟩,?_⟩;rw[List.any_map];exact h
theorem Qi{l:List Nat}{k:Bool->Prop}(ha:g[a]?=some (.lst (Bm l)))(h:k (decide (i∈l))):qK g (.int (i:Nat)) (.ref a) k:=by
 refine Uu (ms:=l.map λ(i:Nat)=>(i:Int)) (by rw[<- SI];exact a7 ha) ?_;have:((l.map λ(i:Nat)=>(i:Int)).any λm=>m==(i:Int))=decide (i∈l):=by
  rw[bX,eW,decide_eq_true_eq];constructor
  ·rintro⟨x,hx,e⟩;obtain⟨j,hj,rfl⟩:=aN.mp hx;rw[fG] at e;rw[show i=j by omega];exact hj
  ·exact λhi=>⟨_,aN.mpr ⟨i,hi,rfl⟩,by simp⟩
 rw[this];exact h
section
variable{Z:S}{t:MT}{it c elt:ME}{d4:List Nat}
inductive vo(α:Type)(P:eM)(t:MT)(c elt:ME)(Q:KD)(Z:S)(k:IK)(g1:G):Prop
 |mk (l:List α) (fl:α->D) (Sh:S->Prop) (p:α->Bool) (w:α->D) (hk:∀g',Ex g1 g'->k.Is (l.map fl) g') (hl:l.length<=1000) (h0:Sh Z)
   (hs:∀x Z g',x∈l->Ex g1 g'->Sh Z->jD t (fl x) Z λcD=>de P c cD g' (λb g3=>b=p x/\Ex g1 g3/\if b=true then aX P elt cD g3 (λy g4=>y=w x/\Ex g1 g4/\Sh cD) jw else Sh cD) jw) (hd:∀g',Ex g1 g'->Q (.ref g'.length) (g'++[.lst ((l.filter p).map w)])):vo α P t c elt Q Z k g1
theorem Nw(hP:j5 P)(h:iJ P it Z g (vo α P t c elt Q (K1 Z d4 n)) E):aX P (.comp d4 n t it c elt) Z g Q E:=by
 refine M6 hP (y9 hP it _ _ _ _ _ _ (λk g1 h=>?_) (λ_ _ z=>z) h);obtain⟨l,fl,Sh,p,w,hk,hl,h0,hs,hd⟩:=h;refine⟨l.map fl,λi ys Z g'=>Ex g1 g'/\ys=((l.take i).filter p).map w/\Sh Z,by simpa using hl,λi ys Z g' q=>⟨hk _ q.1,?_⟩,⟨Ex.refl _,by simp,h0⟩,λi x ys Z g' hx q=>?_,λys Z g' q=>?_⟩
 ·obtain⟨_,rfl,_⟩:=q;rw[ah];exact aM (eU _ _) (by rw[bN];omega)
 ·obtain⟨e1,rfl,sh⟩:=q;rw[aD,ae] at hx;obtain⟨x,hx,rfl⟩:=hx;refine B0 (λcD q=>o8 hP c _ _ _ _ _ _ (λb g3 q=>?_) (λ_ _ z=>z) q) (hs x Z g' (aY hx) e1 sh);obtain⟨rfl,e3,q⟩:=q;have ef:((l.take (i+1)).filter p).map w=((l.take i).filter p).map w++if p x=true then[w x] else[]:=by
   rw[dJ,hx,dk,bV]
   congr 1
   cases z:p x<;>simp[z]
  cases hp:p x with
  |true =>
   rw[hp] at q ef;rw[aE rfl] at q ⊢;refine b0 hP elt _ _ _ _ _ _ (λy g4 q=>?_) (λ_ _ z=>z) q;obtain⟨rfl,e4,sh⟩:=q;exact⟨e4,by rw[ef];rfl,sh⟩
  |false =>
   rw[hp] at q ef;rw[aB (by decide)] at q ⊢;exact⟨e3,by rw[ef];simp,q⟩
 ·obtain⟨e1,rfl,sh⟩:=q;rw[ah,cX];exact hd g' e1
end
def O3:bj:=⟨2,2,(.seq (.ret (dD .any (.comp [0,1] 4 (.one 3) (.iL (.lit (.tup [(.str "lower"),(.str "upper")]))) .no (bO (.cmp .Eq) (cS aO (.call 19 (fN cE))) (cS bp (.call 19 (fN cE))))))) .pass)⟩
def F1:bj:=⟨2,2,(.seq (.ret (.comp [0,1] 5 (.many [3,4]) (.mJ aO) (.dw (dX .NotEq cE bp) (.fE (.call 76 (cT da (cS aO bp))))) cE)) .pass)⟩
def W0:bj:=⟨2,7,(.seq (.set 2 (.mj (cT bp (aP 0)))) (.seq (.set 3 (dD .lst bp)) (.seq (.jC (.fE cE) (.seq (.set 4 (.prim .lst .nil)) (.seq (.dF (.one 5) (.iL cE) (.seq (.dF (.one 6) (.iL (.call 77 (cT aO eY))) (.seq (.ifs (dX .NotIn eL cc) (.seq (.dS cc eL (bO (.bin .Add) (cS cc eY) (aP 1))) (.seq (.expr (.eB .append da (fN eL))) .pass)) .pass) .pass)) .pass)) (.seq (.set 3 da) .pass)))) (.seq (.ret cc) .pass))))⟩
def lk(c c':a8):Bool:=decide (c.lo=c'.lo)||decide (c.up=c'.up)
def m5(cs:List a8)(i j:Nat):Bool:=match cs[i]?,cs[j]? with
 |some c,some c'=>lk c c'
 |_,_=>false
inductive m9(cs:List a8):Nat->Nat->Prop
 |refl {i:Nat} (h:i<cs.length):m9 cs i i
 |step {i j l:Nat} (h:m9 cs i j) (a:m5 cs j l=true):m9 cs i l
def L8(cs:List a8)(p:Nat):List Nat:=(List.range cs.length).filter λj=>decide (j≠p)&&m5 cs j p
theorem L4(h:m5 cs i j=true):i<cs.length/\j<cs.length:=by
 unfold m5 at h;split at h
 ·rename_i h1 h2;exact⟨(aq.mp h1).1,(aq.mp h2).1⟩
 ·cases h
theorem Qt:lk c c'=lk c' c:=by
 unfold lk;rw[eV.mpr (show c.lo=c'.lo↔c'.lo=c.lo from⟨Xo,Xo⟩),eV.mpr (show c.up=c'.up↔c'.up=c.up from⟨Xo,Xo⟩)]
theorem t6(h:m5 cs i j=true):m5 cs j i=true:=by
 unfold m5 at h ⊢;split at h
 ·rename_i h1 h2;rw[h1,h2];exact Qt.trans h
 ·cases h
theorem m9.lt(h:m9 cs i j):i<cs.length/\j<cs.length:=by
 induction h with
 |refl h=>exact⟨h,h⟩
 |step _ a ih=>exact⟨ih.1,(L4 a).2⟩
theorem m9.trans{l:Nat}(a:m9 cs i j)(b:m9 cs j l):m9 cs i l:=by
 induction b with
 |refl _=>exact a
 |step _ e ih=>exact .step ih e
theorem m9.symm{cs:List a8}{i j:Nat}(h:m9 cs i j):m9 cs j i:=by
 induction h with
 |refl h=>exact .refl h
 |step _ a ih=>exact(m9.step (.refl (L4 a).2) (t6 a)).trans ih
theorem Q5:j∈L8 cs p↔j≠p/\m5 cs j p=true:=by
 unfold L8;simp only[List.mem_filter,List.mem_range,Bool.and_eq_true,decide_eq_true_eq];exact⟨λh=>h.2,λh=>⟨(L4 h.2).1,h⟩⟩
section
variable{T:Nat->Option bj}{d:Nat}
theorem UD(ky:vp T)(ou:T 76=some O3)(h:∀g',Ex g g'->Q (.bl (lk c c')) g'):b9 T (k+3) 76 [c.d,c'.d] g Q E:=by
 refine call_of ou rfl ?_;dsimp[O3,d8,List.replicate];walk_at"";refine Fv (b7 T _) ?_;walk_at"";refine⟨_,rfl,by decide,λi ys Z g'=>∃z2 z3,ys=([D.bl (decide (c.lo=c'.lo)),.bl (decide (c.up=c'.up))].take i)/\Z=[some c.d,some c'.d,z2,z3]/\g'=g,⟨none,none,rfl,rfl,rfl⟩,λi ys Z g' q=>?_,λi x ys Z g' hx q=>?_,λys Z g' q=>?_⟩
 ·obtain⟨_,_,rfl,_⟩:=q;rw[bN];omega
 ·obtain⟨z2,z3,rfl,rfl,rfl⟩:=q;refine A2 ?_
  try show de _ _ _ _ _ _
  match i,hx with
  |0,hx =>
   cases hx;walk_at"";refine K0 (k:=k) ky (by decide +kernel) (λ_=>?_) (λz=>absurd z (by decide +kernel)) (λz=>absurd rfl z);walk_at"";refine J9 (l:=[.int c.lo,.tup (c.lm.map .int),.int c.up,.tup (c.um.map .int),.int c.yr]) rfl ?_;walk_at"";refine K0 (k:=k) ky (by decide +kernel) (λ_=>?_) (λz=>absurd z (by decide +kernel)) (λz=>absurd rfl z);walk_at"";refine J9 (l:=[.int c'.lo,.tup (c'.lm.map .int),.int c'.up,.tup (c'.um.map .int),.int c'.yr]) rfl ?_;walk_at"";exact⟨_,_,rfl,rfl,rfl⟩
  |1,hx =>
   cases hx;walk_at"";refine K0 (k:=k) ky (by decide +kernel) (λz=>absurd z (by decide +kernel)) (λ_=>?_) (λ_ z=>absurd rfl z);walk_at"";refine J9 (l:=[.int c.lo,.tup (c.lm.map .int),.int c.up,.tup (c.um.map .int),.int c.yr]) rfl ?_;walk_at"";refine K0 (k:=k) ky (by decide +kernel) (λz=>absurd z (by decide +kernel)) (λ_=>?_) (λ_ z=>absurd rfl z);walk_at"";refine J9 (l:=[.int c'.lo,.tup (c'.lm.map .int),.int c'.up,.tup (c'.um.map .int),.int c'.yr]) rfl ?_;walk_at"";exact⟨_,_,rfl,rfl,rfl⟩
  |i+2,hx=>simp at hx
 ·obtain⟨z2,z3,rfl,rfl,rfl⟩:=q;refine LM (a7 b8) (v:=lk c c') ?_ ?_
  ·show(R6 [D.bl (decide (c.lo=c'.lo)),.bl (decide (c.up=c'.up))])=some (lk c c');simp[R6,lk]
  ·walk_at"";exact h _ (Ex.snoc _ _)
theorem Eo(ky:vp T)(ou:T 76=some O3)(qY:T 77=some F1)(ha:g[a]?=some (.lst (cs.map a8.d)))(hz:cs.length<=9)(hp:p<cs.length)(h:∀g' i,Ex g g'->g.length<=i->g'[i]?=some (.lst ((L8 cs p).map λj=>.int (j:Nat)))->Q (.ref i) g'):b9 T (k+4) 77 [.ref a,.int (p:Nat)] g Q E:=by
 refine call_of qY rfl ?_;dsimp[F1,d8,List.replicate];walk_at"";refine M6 (b7 T _) (yj ?_);walk_at"";have yO:=az hp;generalize cs[p]=cp at yO;have gp:gj (cs.map a8.d) (p:Int)=some cp.d:=L6 (by rw[aD,yO];rfl);refine⟨a,_,rfl,a7 ha,qe (cs.map a8.d),λi ys Z g'=>Ex g g'/\ys=(((List.range i).filter λj=>decide (j≠p)&&m5 cs j p).map λj=>D.int (j:Nat))/\∃z2 z3 z4,Z=[some (.ref a),some (.int (p:Nat)),z2,z3,z4],by rw[GA];simp;omega,λi ys Z g' q=>⟨NI (a7 (q.1.at ha)),?_⟩,⟨Ex.refl _,rfl,none,none,none,rfl⟩,λi x ys Z g' hx q=>?_,λys Z g' q=>?_⟩
 ·obtain⟨_,rfl,_⟩:=q;rw[ah];exact aM (eU _ _) (by simp)
 ·obtain⟨e1,rfl,z2,z3,z4,rfl⟩:=q;obtain⟨dd,hd,rfl⟩:=Qb hx;rw[aD,ae] at hd;obtain⟨c,hc,rfl⟩:=hd;refine T2 rfl ?_
  try show de _ _ _ _ _ _
  have el:m5 cs i p=lk c cp:=by unfold m5;rw[hc,yO]
  have ef:(List.range (i+1)).filter (λj=>decide (j≠p)&&m5 cs j p)=(List.range i).filter (λj=>decide (j≠p)&&m5 cs j p)++if(decide (i≠p)&&m5 cs i p)=true then[i] else[]:=by
   rw[lg,dk]
   congr 1
   cases z:(decide (i≠p)&&m5 cs i p)<;>simp only[List.filter_cons,z,List.filter_nil]<;>rfl
  walk_at"";have ei:decide (((i:Nat):Int)=((p:Nat):Int))=decide (i=p):=by
   rw[eV];omega
  rw[ei];by_cases vP:i=p
  ·refine jM (by simp[vP]) ?_;refine⟨e1,?_,_,_,_,rfl⟩;rw[ef,aB (by simp[vP]),dA]
  ·refine kr (by simp[vP]) ?_;walk_at"";refine p7 (a7 (e1.at ha)) gp ?_;walk_at"";refine UD (k:=k) ky ou λg2 e2=>?_;walk_at"";cases tN:lk c cp with
   |true =>
    refine kr rfl ?_;walk_at"";refine⟨e1.trans e2,?_,_,_,_,rfl⟩;rw[ef,aE (by rw[el,tN];simp[vP])];simp
   |false =>
    refine jM rfl ?_;refine⟨e1.trans e2,?_,_,_,_,rfl⟩;rw[ef,aB (by rw[el,tN];simp),dA]
 ·obtain⟨e1,rfl,z2,z3,z4,rfl⟩:=q;walk_at"";rw[GA,ah];exact h _ _ (e1.trans (Ex.snoc _ _)) e1.len b8
end
theorem K9{c:Key}:(m7 kvs c).isSome=true↔c∈kvs.map (·.1):=by
 unfold m7;rw[fT,List.find?_isSome];simp only[List.mem_map,decide_eq_true_eq]
theorem GS{c:Key}{v:D}(h:c∉kvs.map (·.1)):putD kvs c v=kvs++[(c,v)]:=by
 unfold putD;rw[aB];intro z;rw[eW] at z;obtain⟨kv,h1,h2⟩:=z;exact h (aN.mpr ⟨kv,h1,bS h2⟩)
noncomputable abbrev kI(j:Nat):Key:=.inl (j:Int)
theorem J8{S:List Nat}{j:Nat}:kI j∈S.map kI↔j∈S:=by
 rw[aN];constructor
 ·rintro⟨i,h,e⟩;have:(i:Int)=j:=xt e;rw[show j=i by omega];exact h
 ·exact λh=>⟨j,h,rfl⟩
theorem C7:∀{n:Nat} {S:List Nat},S.Nodup->(∀j∈S,j<n)->S.length<=n
 |0,S,_,h=>by
  cases S with
  |nil=>simp
  |cons a l=>exact absurd (h a (by simp)) (by omega)
 |n+1,S,nd,h=>by
  have:=C7 (n:=n) (nd.erase n) λj hj=>by
   have h1:=(nd.mem_erase_iff.mp hj)
   have h2:=h j h1.2;omega
  by_cases hn:n∈S
  ·rw[List.length_erase_of_mem hn] at this;omega
  ·rw[List.erase_of_not_mem hn] at this;omega
section
variable{T:Nat->Option bj}{d:Nat}{S:List Nat}
theorem UG(h:i<cs.length):m5 cs i i=true:=by
 unfold m5;rw[az h];simp[lk]
inductive Wk(cs:List a8)(i:Nat):Nat->Nat->Prop
 |zero (h:i<cs.length):Wk cs i 0 i
 |succ {n j l:Nat} (h:Wk cs i n j) (a:m5 cs j l=true):Wk cs i (n+1) l
theorem Wk.conn(h:Wk cs i n j):m9 cs i j:=by
 induction h with
 |zero h=>exact .refl h
 |succ _ a ih=>exact .step ih a
theorem Wk.up(h:Wk cs i n j):Wk cs i (n+1) j:=.succ h (UG h.conn.lt.2)
theorem Wk.mono(h:Wk cs i n j)(hm:n<=m):Wk cs i m j:=by
 induction hm with
 |refl=>exact h
 |step _ ih=>exact ih.up
theorem m9.wk(h:m9 cs i j):∃n,Wk cs i n j:=by
 induction h with
 |refl h=>exact⟨0,.zero h⟩
 |step _ a ih=>obtain⟨n,ih⟩:=ih;exact⟨n+1,.succ ih a⟩
theorem Wk.trans{l:Nat}(h:Wk cs i n j)(h2:Wk cs j m l):Wk cs i (n+m) l:=by
 induction h2 with
 |zero _=>exact h
 |succ _ a ih=>exact .succ ih a
theorem Wk.symm{i j n:Nat}(h:Wk cs i n j):Wk cs j n i:=by
 induction h with
 |zero h=>exact .zero h
 |succ h a ih =>
  have:=(Wk.succ (.zero (L4 a).2) (t6 a)).trans ih;exact this.mono (by omega)
theorem least{P:Nat->Prop}(h:P n):∃n,P n/\∀m,P m->n<=m:=by
 induction n using Nat.strongRecOn with
 |ind n ih =>
  by_cases z:∃m,m<n/\P m
  ·obtain⟨m,hm,pm⟩:=z;exact ih m hm pm
  ·exact⟨n,h,λm pm=>cH λhm=>z ⟨m,hm,pm⟩⟩
def fO(cs:List a8)(i j n:Nat):Prop:=Wk cs i n j/\∀m,Wk cs i m j->n<=m
def dst(cs:List a8)(i j:Nat):Nat:=@dite _ (∃n,fO cs i j n) (Classical.propDecidable _) (λh=>Classical.choose h) λ_=>0
theorem fO.eq(h:fO cs i j n):dst cs i j=n:=by
 have e:∃n,fO cs i j n:=⟨n,h⟩
 unfold dst;rw[dif_pos e];have:=Classical.choose_spec e;exact Nat.le_antisymm (this.2 _ h.1) (h.2 _ this.1)
theorem m9.mK(h:m9 cs i j):fO cs i j (dst cs i j):=by
 obtain⟨n,hn⟩:=h.wk;obtain⟨m,hm⟩:=least (P:=λn=>Wk cs i n j) hn;have e:fO cs i j m:=hm;rw[e.eq];exact e
def iK(cs:List a8)(p:Nat)(S:List Nat):List (Key×D):=S.map λj=>(kI j,.int (dst cs p j:Nat))
theorem V1:(iK cs p S).map (·.1)=S.map kI:=by simp[iK]
theorem wZ:∀{S:List Nat} {j:Nat},j∈S->m7 (iK cs p S) (kI j)=some (.int (dst cs p j:Nat))
 |i::S,j,h=>by
  unfold m7 iK;rw[aW,hW];by_cases e:i=j
  ·subst e;simp
  ·have dO:decide (kI i=kI j)=false:=aL λz=>e (by have:(i:Int)=j:=xt z;omega);simp only[dO];exact wZ ((aA.mp h).resolve_left λz=>e z.symm)
theorem Ve(ky:vp T)(ou:T 76=some O3)(qY:T 77=some F1)(zg:T 78=some W0)(ha:g[a]?=some (.lst (cs.map a8.d)))(hz:cs.length<=9)(hp:p<cs.length)(h:∀g' sd S,Ex g g'->g.length<=sd->g'[sd]?=some (.cg (iK cs p S))->S.Nodup->(∀j,j∈S↔m9 cs p j)->Q (.ref sd) g'):b9 T (k+5) 78 [.ref a,.int (p:Nat)] g Q E:=by
 have d0:fO cs p p 0:=⟨.zero hp,λ_ _=>bG _⟩
 have lt:∀{t:Nat} {S:List Nat},S.Nodup->(∀j∈S,Wk cs p t j)->S.length<=cs.length:=λnd w=>C7 nd λj hj=>(w j hj).conn.lt.2;refine call_of zg rfl ?_;dsimp[W0,d8,List.replicate];walk_at"";refine HY ?_;walk_at"";refine⟨[(kI p,.int 0)],rfl,by simp,by simp,?_⟩;have s1:((g++[O.cg []]).set g.length (.cg [(kI p,.int 0)]))[g.length]?=some (.cg (iK cs p [p])):=by
  rw[show iK cs p [p]=[(kI p,.int 0)] by simp[iK,d0.eq]];simp
 have x1:Ex g ((g++[O.cg []]).set g.length (.cg [(kI p,.int 0)])):=⟨by simp,λi hi=>by rw[av (by omega),au hi]⟩
 have l1:((g++[O.cg []]).set g.length (.cg [(kI p,.int 0)])).length=g.length+1:=by simp
 generalize (g++[O.cg []]).set g.length (.cg [(kI p,.int 0)])=g1 at *;walk_at"";have sm:=Ex.snoc g1 (O.lst [.int (p:Nat)]);have x2:=x1.trans sm;have s2:=sm.at s1;have e2:(g1++[O.lst [.int (p:Nat)]])[g1.length]?=some (.lst (([p]:List Nat).map λj=>D.int (j:Nat))):=b8;generalize g1++[O.lst [.int (p:Nat)]]=g2 at *;refine Hc (λm Z g'=>∃e S F t z4 z5 z6,Z=[some (.ref a),some (.int (p:Nat)),some (.ref g.length),some (.ref e),z4,z5,z6]/\Ex g g'/\g'[g.length]?=some (.cg (iK cs p S))/\g'[e]?=some (.lst (F.map λj=>D.int (j:Nat)))/\g.length<e/\S.Nodup/\(∀j,j∈S↔Wk cs p t j)/\(∀j,j∈F↔fO cs p j t)/\m=2*(cs.length-S.length)+(if F=[] then 0 else 1)) _ ⟨g1.length,[p],[p],0,none,none,none,rfl,x2,s2,e2,by omega,by simp,λj=>?_,λj=>?_,rfl⟩ (λm Z g' q=>?_) (b7 T _)
 ·rw[aK];exact⟨λz=>z▸d0.1,λz=>by cases z;rfl⟩
 ·rw[aK];exact⟨λz=>z▸d0,λz=>by cases z.1;rfl⟩
 obtain⟨e,S,F,t,z4,z5,z6,rfl,x3,s3,e3,XE,nd,hS,hF,rfl⟩:=q;walk_at"";refine Ni (a7 e3) ?_;cases vT:F with
 |nil =>
  refine jM rfl ?_;walk_at"";refine h _ _ S x3 (ak _) s3 nd λj=>⟨λhj=>((hS j).mp hj).conn,λhc=>?_⟩
  obtain⟨n,hn⟩:=hc.wk;have all:∀n,∀j,Wk cs p n j->Wk cs p t j:=λn=>by
   induction n with
   |zero=>exact λj w=>w.mono (bG _)
   |succ n ih =>
    intro j w;cases w with
    |succ w a =>
     have w:=ih _ w;cases t with
     |zero =>
      have:p∈F:=(hF p).mpr d0;rw[vT] at this;cases this
     |succ t =>
      refine Classical.byContradiction λz=>?_;have:¬Wk cs p t _:=λw'=>z (.succ w' a);have:_∈F:=(hF _).mpr ⟨w,λm hm=>cH λhl=>this (hm.mono (by omega))⟩;rw[vT] at this;cases this
  exact(hS j).mpr (all n j hn)
 |cons f0 fr =>
  refine kr rfl ?_;rw[<- vT];have Xe:F≠[]:=by rw[vT];simp
  walk_at"";have oW:=Ex.snoc g' (O.lst []);have x4:=x3.trans oW;have s4:=oW.at s3;have e4:=oW.at e3;have f4:(g'++[O.lst []])[g'.length]?=some (.lst (([]:List Nat).map λj=>D.int (j:Nat))):=b8;have l3:=x3.len;have el:=o6 e3;generalize g'++[O.lst []]=g4 at *;generalize g'.length=f at *;refine F4 (b7 T _) (pN (b7 T _) ?_);walk_at"";refine⟨e,_,rfl,a7 e4,F.map λj=>D.int (j:Nat),λi Z g5=>∃F2 z5 z6,Z=[some (.ref a),some (.int (p:Nat)),some (.ref g.length),some (.ref e),some (.ref f),z5,z6]/\Ex g g5/\g5[g.length]?=some (.cg (iK cs p (S++F2)))/\g5[e]?=some (.lst (F.map λj=>D.int (j:Nat)))/\g5[f]?=some (.lst (F2.map λj=>D.int (j:Nat)))/\(S++F2).Nodup/\(∀j∈F2,fO cs p j (t+1))/\∀x∈F.take i,∀y,m5 cs x y=true->y∈S++F2,λi Z g5 q=>P6 (a7 (by obtain⟨_,_,_,_,_,_,q,_⟩:=q;exact q)),⟨[],z5,z6,rfl,x4,by rw[dA];exact s4,e4,f4,by rw[dA];exact nd,λj hj=>(by cases hj),λx hx=>by simp at hx⟩,λi x Z g5 hx q=>?_,λZ g5 q=>?_⟩
  ·obtain⟨F2,z5,z6,rfl,x5,s5,e5,f5,vI,c5,done⟩:=q;rw[aD,ae] at hx;obtain⟨x,hx,rfl⟩:=hx;have qN:=(hF x).mp (aY hx);have CM:=(hS x).mpr qN.1;have Jt:x<cs.length:=qN.1.conn.lt.2;refine A2 ?_
   try show wpS _ _ _ _ _ _
   walk_at"";refine F4 (b7 T _) (pN (b7 T _) ?_);walk_at"";refine Eo (k:=k) ky ou qY (x5.at ha) hz Jt λg6 nl e6 JA n6=>?_;have lf:=o6 f5;have XD:=o6 e5;refine⟨nl,_,rfl,a7 n6,(L8 cs x).map λj=>D.int (j:Nat),λj Z g7=>∃F3 z6,Z=[some (.ref a),some (.int (p:Nat)),some (.ref g.length),some (.ref e),some (.ref f),some (.int (x:Nat)),z6]/\Ex g g7/\g7[g.length]?=some (.cg (iK cs p (S++F3)))/\g7[e]?=some (.lst (F.map λj=>D.int (j:Nat)))/\g7[f]?=some (.lst (F3.map λj=>D.int (j:Nat)))/\g7[nl]?=some (.lst ((L8 cs x).map λj=>D.int (j:Nat)))/\(S++F3).Nodup/\(∀j∈F3,fO cs p j (t+1))/\(∀y∈S++F2,y∈S++F3)/\∀y∈(L8 cs x).take j,y∈S++F3,λj Z g7 q=>P6 (a7 (by obtain⟨_,_,_,_,_,_,_,q,_⟩:=q;exact q)),⟨F2,z6,rfl,x5.trans e6,e6.at s5,e6.at e5,e6.at f5,n6,vI,c5,λy hy=>hy,λy hy=>by simp at hy⟩,λj y Z g7 hy q=>?_,λZ g7 q=>?_⟩
   ·obtain⟨F3,z6,rfl,x7,s7,e7,f7,n7,sV,c7,sub,uz⟩:=q;rw[aD,ae] at hy;obtain⟨y,hy,rfl⟩:=hy;have Js:=Q5.mp (aY hy);have tk:(L8 cs x).take (j+1)=(L8 cs x).take j++[y]:=by rw[dJ,hy];rfl
    refine A2 ?_
    try show wpS _ _ _ _ _ _
    walk_at"";refine wc ⟨(m7 (iK cs p (S++F3)) (kI y)).isSome,.inl ⟨_,_,kI y,rfl,s7,rfl,rfl⟩,?_⟩;walk_at"";by_cases kX:y∈S++F3
    ·refine jM (by rw[K9.mpr (by rw[V1];exact J8.mpr kX)];rfl) ?_;walk_at"";refine⟨F3,_,rfl,x7,s7,e7,f7,n7,sV,c7,sub,λw hw=>?_⟩;rw[tk] at hw;rcases aI.mp hw with hw|hw
     ·exact uz w hw
     ·cases aK.mp hw;exact kX
    ·have nY:kI y∉(iK cs p (S++F3)).map (·.1):=by rw[V1];exact λz=>kX (J8.mp z)
     have dy:fO cs p y (t+1):=⟨.succ qN.1 (t6 Js.2),λm hm=>cH λhl=>kX (bo _ ((hS y).mpr (hm.mono (by omega))))⟩
     refine kr (by cases z:(m7 (iK cs p (S++F3)) (kI y)).isSome with|true=>exact absurd (K9.mp z) nY|false=>rfl) ?_;walk_at"";refine uK s7 rfl (wZ (bo F3 CM)) ?_;walk_at"";have l9:(S++F3).length<=cs.length:=lt (t:=t+1) sV λj hj=>(aI.mp hj).elim (λz=>((hS j).mp z).up) λz=>(c7 j z).1;rw[aG] at l9;refine uX s7 rfl (by simp[iK];omega) ?_;rw[GS nY,show(iK cs p (S++F3))++[(kI y,D.int ((dst cs p x:Nat)+1))]=iK cs p (S++(F3++[y])) by simp[iK,qN.eq,dy.eq]];have nf:g.length≠f:=by omega
     have ne:g.length≠e:=by omega
     have f8:=k9 f7 nf (o':=O.cg (iK cs p (S++(F3++[y]))));walk_at""
     try refine⟨P0 f8,?_⟩
     walk_at"";refine Q6 f8 (by simp;omega) ?_;walk_at"";have dO:f≠e:=by omega
     refine⟨F3++[y],_,rfl,⟨by simp;exact x7.len,λi hi=>by rw[av (by omega),av (by omega)];exact x7.old i hi⟩,k9 (get_set s7) (by omega),k9 (k9 e7 ne) dO,by rw[bV];exact get_set f8,k9 (k9 n7 (by omega)) (by omega),?_,λw hw=>?_,λw hw=>?_,λw hw=>?_⟩
     ·rw[<- cb,cL];exact⟨sV,by simp,λw hw w' Jv=>by cases aK.mp Jv;exact λz=>kX (z▸hw)⟩
     ·rcases aI.mp hw with hw|hw
      ·exact c7 w hw
      ·cases aK.mp hw;exact dy
     ·rw[<- cb];exact bo _ (sub w hw)
     ·rw[tk] at hw;rw[<- cb];rcases aI.mp hw with hw|hw
      ·exact bo _ (uz w hw)
      ·exact bf _ hw
   ·obtain⟨F3,z6,rfl,x7,s7,e7,f7,n7,sV,c7,sub,uz⟩:=q;rw[ah,cX] at uz
    try show wpS _ _ _ _ _ _
    walk_at"";refine⟨F3,_,_,rfl,x7,s7,e7,f7,sV,c7,λw hw y hy=>?_⟩;rw[dJ,hx] at hw;rcases aI.mp hw with hw|hw
    ·exact sub y (done w hw y hy)
    ·have:w=x:=by simpa using hw
     subst this;by_cases CK:y=w
     ·subst CK;exact bo _ CM
     ·exact uz y (Q5.mpr ⟨CK,t6 hy⟩)
  ·obtain⟨F2,z5,z6,rfl,x5,s5,e5,f5,vI,c5,done⟩:=q;rw[ah,cX] at done
   try show wpS _ _ _ _ _ _
   walk_at"";have wS:∀j,j∈S++F2↔Wk cs p (t+1) j:=λj=>by
    constructor
    ·intro hj;exact(aI.mp hj).elim (λz=>((hS j).mp z).up) λz=>(c5 j z).1
    ·intro w;by_cases w0:Wk cs p t j
     ·exact bo _ ((hS j).mpr w0)
     ·cases w with
      |succ w a =>
       refine done _ ((hF _).mpr ⟨w,λm hm=>cH λhl=>w0 (Wk.mono (.succ hm a) (by omega))⟩) j a
   have lS:=lt vI λj hj=>(wS j).mp hj;rw[aG] at lS;refine⟨_,?_,f,S++F2,F2,t+1,_,_,_,rfl,x5,s5,f5,by omega,vI,wS,λj=>⟨c5 j,λz=>?_⟩,rfl⟩
   ·rw[aB Xe,aG];cases Kf:F2 with
    |nil=>simp
    |cons u v =>
     rw[Kf] at lS;simp at lS ⊢;omega
   ·refine(aI.mp ((wS j).mpr z.1)).resolve_left λw=>?_;have:=z.2 _ ((hS j).mp w);omega
end
def vd:bj:=⟨2,2,(.seq (.ret (.jh (bO (.cmp .Eq) (cS aO (aP 0)) (cS bp (aP 0))) (bO (.cmp .Eq) (cS aO (aP 2)) (cS bp (aP 2))))) .pass)⟩
noncomputable abbrev l6(l:List Nat):List D:=l.map λj=>.int (j:Nat)
section
variable{T:Nat->Option bj}{d:Nat}
theorem TH(ud:T 80=some vd)(h:Q (.bl (lk c c')) g):b9 T (k+1) 80 [c.d,c'.d] g Q E:=by
 refine call_of ud rfl ?_;dsimp[vd,d8,List.replicate];walk_at"";refine J9 (l:=[.int c.lo,.tup (c.lm.map .int),.int c.up,.tup (c.um.map .int),.int c.yr]) rfl ?_;walk_at"";refine J9 (l:=[.int c'.lo,.tup (c'.lm.map .int),.int c'.up,.tup (c'.um.map .int),.int c'.yr]) rfl ?_;walk_at"";by_cases e:c.lo=c'.lo
 ·refine kr (aV e) ?_;walk_at"";unfold lk at h;rw[aV e] at h;exact h
 ·refine jM (aL e) ?_;walk_at"";refine J9 (l:=[.int c.lo,.tup (c.lm.map .int),.int c.up,.tup (c.um.map .int),.int c.yr]) rfl ?_;walk_at"";refine J9 (l:=[.int c'.lo,.tup (c'.lm.map .int),.int c'.up,.tup (c'.um.map .int),.int c'.yr]) rfl ?_;walk_at"";unfold lk at h;rw[aL e,oS] at h;exact h
end
def wD:bj:=⟨3,6,(.seq (.expr (.call 18 (fN aO))) (.seq (.expr (.call 83 (cT aO bp))) (.seq (.expr (.call 83 (cT aO cc))) (.seq (.set 3 (.call 78 (cT aO cc))) (.seq (.ifs (dX .NotIn bp cE) (.seq (.ret (.lit .bL)) .pass) .pass) (.seq (.set 4 (dD .lst bp)) (.seq (.jC (dX .NotEq (cS da (dD (.un .USub) (aP 1))) cc) (.seq (.set 5 (bO (.bin .Sub) (cS cE (cS da (dD (.un .USub) (aP 1)))) (aP 1))) (.seq (.expr (.eB .append da (fN (dD .min (.comp [5,3] 4 (.one 3) (.iL (.call 77 (cT aO (cS da (dD (.un .USub) (aP 1)))))) (dX .Eq (cS bp cE) aO) cE))))) .pass))) (.seq (.ret da) .pass))))))))⟩
def M0:bj:=⟨2,6,(.seq (.ifs (dX .Gt (.call 4 (cT aO (aP 3))) (aP 0)) (.seq (.ret bp) .pass) .pass) (.seq (.set 2 (.prim .lst .nil)) (.seq (.dF (.one 3) (.eE (dD .len bp)) (.seq (.set 4 (cS bp cE)) (.seq (.set 5 (bO (.bin .Add) (aP 1) (bO (.bin .Mod) (bO (.bin .Add) (cS da (aP 0)) (bO (.bin .Mult) (bO (.bin .FloorDiv) cE (aP 2)) (aP 7))) (aP 99)))) (.seq (.expr (.eB .append cc (fN (.prim .tup (my eY (cS da (aP 1)) (bO (.bin .Add) (aP 1) (bO (.bin .Mod) (bO (.bin .Add) (cS da (aP 2)) (bO (.bin .Mult) (bO (.bin .FloorDiv) cE (aP 3)) (aP 31))) (aP 99))) (cS da (aP 3)) (cS da (aP 4))))))) .pass)))) (.seq (.ret cc) .pass))))⟩
structure BI(T:Nat->Option bj):Prop where
 nf:NF T
 h2:T 2=some E5
 qZ:T 12=some w6
 ug:Io T
 ky:vp T
 ou:T 76=some O3
 qY:T 77=some F1
 zg:T 78=some W0
 qW:T 83=some M1
 Dk:T 84=some wD
inductive Rw(cs:List a8)(o:Nat):Nat->Nat->List Nat->Prop
 |zero (h:o<cs.length):Rw cs o 0 o [o]
 |succ {n x y:Nat} {l:List Nat} (w:Rw cs o n x l) (a:m5 cs x y=true):Rw cs o (n+1) y (l++[y])
def Mn(cs:List a8)(p u v:Nat):Prop:=dst cs p v+1=dst cs p u/\∀z,z≠u->m5 cs z u=true->dst cs p z+1=dst cs p u->v<=z
structure BQ(cs:List a8)(p o:Nat)(l:List Nat):Prop where
 len:l.length=dst cs p o+1
 fst:l[0]?=some o
 lst:∃r,l=r++[p]
 dec:l.Pairwise λa b=>dst cs p b<dst cs p a
 XA:∀(i:Nat) x y,l[i]?=some x->l[i+1]?=some y->m5 cs x y=true
 con:∀j∈l,m9 cs p j
 rw:Rw cs o (dst cs p o) p l
 mn:∀(i:Nat) x y,l[i]?=some x->l[i+1]?=some y->Mn cs p x y
theorem Gz(h:m9 cs p x)(hx:x≠p):∃y,y≠x/\m5 cs y x=true/\m9 cs p y/\dst cs p x=dst cs p y+1:=by
 have hd:=h.mK;generalize e:dst cs p x=n at *;obtain⟨w,mn⟩:=hd;cases w with
 |zero _=>exact absurd rfl hx
 |succ w a =>
  rename_i n y;have dy:fO cs p y n:=⟨w,λm hm=>by have:=mn _ (.succ hm a);omega⟩
  refine⟨y,λz=>?_,a,w.conn,by rw[dy.eq]⟩;subst z;rw[dy.eq] at e;omega
section
variable{T:Nat->Option bj}{d:Nat}{o:Nat}
theorem Sz(hT:BI T)(ha:g[a]?=some (.lst (cs.map a8.d)))(hz:cs.length<=9)(hg:cs.all k8=true)(ho:o<cs.length)(hp:p<cs.length)(hn:¬m9 cs p o->∀g',Ex g g'->Q .bL g')(h:m9 cs p o->∀g' r l,Ex g g'->g.length<=r->g'[r]?=some (.lst (l6 l))->BQ cs p o l->Q (.ref r) g'):b9 T (k+7) 84 [.ref a,.int (o:Nat),.int (p:Nat)] g Q E:=by
 refine call_of hT.Dk rfl ?_;dsimp[wD,d8,List.replicate];walk_at"";refine U1 (k:=k) hT.nf hT.h2 hT.qZ hT.ug ha (by omega) (λz=>by omega) (λ_ z=>by rw[hg] at z;cases z) λ_ _=>?_;walk_at"";refine E8 (k:=k+3) hT.nf hT.qW ha (λ_ _=>?_) (λz=>absurd ⟨by omega,by rw[ah];omega⟩ z);walk_at"";refine E8 (k:=k+3) hT.nf hT.qW ha (λ_ _=>?_) (λz=>absurd ⟨by omega,by rw[ah];omega⟩ z);walk_at"";refine Ve (k:=k+1) hT.ky hT.ou hT.qY hT.zg ha hz hp λg1 sd S e1 l1 s1 nd hS=>?_;walk_at"";refine wc ⟨(m7 (iK cs p S) (kI o)).isSome,.inl ⟨_,_,kI o,rfl,s1,rfl,rfl⟩,?_⟩;walk_at"";by_cases hc:m9 cs p o
 case neg =>
  refine kr (by cases z:(m7 (iK cs p S) (kI o)).isSome with|true=>exact absurd ((hS o).mp (J8.mp (by rw[<- V1];exact K9.mp z))) hc|false=>rfl) ?_;walk_at"";exact hn hc _ e1
 refine jM (by rw[K9.mpr (by rw[V1];exact J8.mpr ((hS o).mpr hc))];rfl) ?_;walk_at"";have DE:=Ex.snoc g1 (O.lst [.int (o:Nat)]);have s2:=DE.at s1;have e2:=e1.trans DE;have r2:(g1++[O.lst [.int (o:Nat)]])[g1.length]?=some (.lst (l6 [o])):=b8;have lr:g.length<=g1.length:=e1.len;have Xy:=o6 s1;generalize g1++[O.lst [.int (o:Nat)]]=g2 at *;generalize g1.length=rr at *;refine Hc (λm Z g'=>∃l x z5,Z=[some (.ref a),some (.int (o:Nat)),some (.int (p:Nat)),some (.ref sd),some (.ref rr),z5]/\Ex g g'/\g'[sd]?=some (.cg (iK cs p S))/\g'[rr]?=some (.lst (l6 (l++[x])))/\m9 cs p x/\(l++[x]).length+dst cs p x=dst cs p o+1/\(l++[x])[0]?=some o/\(l++[x]).Pairwise (λa b=>dst cs p b<dst cs p a)/\(∀(i:Nat) u v,(l++[x])[i]?=some u->(l++[x])[i+1]?=some v->m5 cs u v=true)/\(∀j∈l++[x],m9 cs p j)/\(Rw cs o l.length x (l++[x])/\∀(i:Nat) u v,(l++[x])[i]?=some u->(l++[x])[i+1]?=some v->Mn cs p u v)/\m=dst cs p x) _ ⟨[],o,none,rfl,e2,s2,r2,hc,by simp[Nat.add_comm],rfl,by simp,λi u v _ e=>(by simp at e),λj hj=>(by cases aK.mp hj;exact hc),⟨.zero ho,λi u v _ e=>(by simp at e)⟩,rfl⟩ (λm Z g' q=>?_) (b7 T _);obtain⟨l,x,z5,rfl,e3,s3,r3,cx,hl,h0,pw,lk,ac,⟨Cm,CC⟩,rfl⟩:=q;have la:gj (l6 (l++[x])) (-1)=some (.int (x:Nat)):=by
  rw[show l6 (l++[x])=l6 l++[.int (x:Nat)] by simp[l6]];exact Xb _ _
 have xn:=cx.lt.2;walk_at"";refine p7 (a7 r3) la ?_;walk_at"";by_cases hx:x=p
 ·subst hx;refine jM (by simp) ?_;walk_at"";have d0:dst cs x x=0:=fO.eq ⟨.zero xn,λ_ _=>bG _⟩;exact h hc g' rr (l++[x]) e3 lr r3 ⟨by omega,h0,⟨l,rfl⟩,pw,lk,ac,by rw[show dst cs x o=l.length by simp at hl;omega];exact Cm,CC⟩
 refine kr (by simp;omega) ?_;walk_at"";refine p7 (a7 r3) la ?_;walk_at"";refine uK s3 rfl (wZ ((hS x).mpr cx)) ?_;walk_at"";obtain⟨y0,yo,yn,vL,vK⟩:=Gz cx hx
 try refine⟨P0 r3,?_⟩
 walk_at"";refine Nw (α:=Nat) (b7 T _) (pN (b7 T _) ?_);walk_at"";refine p7 (a7 r3) la ?_;walk_at"";refine Eo (k:=k+2) hT.ky hT.ou hT.qY (e3.at ha) hz xn λg4 nl e4 JA n4=>?_;refine⟨nl,_,rfl,a7 n4,L8 cs x,λj=>.int (j:Nat),λZ=>∃z2 z3,Z=[some (.int ((dst cs p x:Nat)-1)),some (.ref sd),z2,z3],λj=>decide (dst cs p j+1=dst cs p x),λj=>.int (j:Nat),λg' e=>P6 (a7 (e.at n4)),aM (eU _ _) (by simp;omega),⟨none,none,rfl⟩,λj Z g5 hj e5 sh=>?_,λg5 e5=>?_⟩
 ·obtain⟨z2,z3,rfl⟩:=sh;have cj:m9 cs p j:=cx.step (t6 (Q5.mp hj).2);refine A2 ?_
  try show de _ _ _ _ _ _
  walk_at"";refine uK ((e4.trans e5).at s3) rfl (wZ ((hS j).mpr cj)) ?_;walk_at"";refine⟨eV.mpr (by omega),e5,?_⟩;refine if2 (λ_=>?_) (λ_=>?_)
  ·walk_at"";exact⟨rfl,e5,_,_,rfl⟩
  ·exact⟨_,_,rfl⟩
 generalize hL:(L8 cs x).filter (λj=>decide (dst cs p j+1=dst cs p x))=L at *;have mL:∀j,j∈L↔(j≠x/\m5 cs j x=true)/\dst cs p j+1=dst cs p x:=λj=>by rw[<- hL,cJ,Q5,aU]
 obtain⟨y,CL,sk⟩:=least (P:=λn=>n∈L) ((mL y0).mpr ⟨⟨yo,yn⟩,vK.symm⟩);obtain⟨⟨yx,xE⟩,yd⟩:=(mL y).mp CL;refine Mv (ns:=L.map λj:Nat=>(j:Int)) (M:=(y:Nat)) (a7 (by rw[dM];exact b8)) (aN.mpr ⟨y,CL,rfl⟩) (λz hz=>by obtain⟨j,hj,rfl⟩:=aN.mp hz;have:=sk j hj;omega) ?_;have e6:=e4.trans (e5.trans (Ex.snoc g5 (O.lst (L.map λj=>D.int (j:Nat)))));generalize g5++[_]=g6 at *;have r6:=e6.at r3;have ln:(l++[x]).length<=cs.length:=C7 (pw.imp λz e=>by rw[e] at z;exact aZ _ z) λj hj=>(ac j hj).lt.2;have cy:m9 cs p y:=cx.step (t6 xE);walk_at"";refine Q6 r6 (by rw[l6,ah];omega) ?_;walk_at"";rw[show l6 (l++[x])++[D.int (y:Nat)]=l6 ((l++[x])++[y]) by simp[l6]];refine⟨dst cs p y,by omega,l++[x],y,_,rfl,⟨by rw[fm];exact(e3.trans e6).len,λi hi=>by rw[av (by omega)];exact(e3.trans e6).old i hi⟩,k9 (e6.at s3) (by omega),get_set r6,cy,by rw[aG];simp at hl ⊢;omega,by rw[au (by simp)];exact h0,?_,λi u v e1 e2=>?_,λj hj=>?_,⟨by rw[aG];exact Cm.succ (t6 xE),λi u v e1 e2=>?_⟩,rfl⟩
 ·rw[iO];refine⟨pw,by simp,λu hu v hv=>?_⟩;cases aK.mp hv;rcases aI.mp hu with z|z
  ·have:=(iO.mp pw).2.2 u z x (by simp);omega
  ·cases aK.mp z;omega
 ·by_cases hi:i+1<(l++[x]).length
  ·rw[au (by omega)] at e1;rw[au hi] at e2;exact lk i u v e1 e2
  ·have mO:i+1=(l++[x]).length:=by
    have:=(aq.mp e2).1;rw[aG] at this;simp at this hi ⊢;omega
   rw[mO,bZ (ak _)] at e2;simp at e2;subst e2;have yI:i=l.length:=by simp at mO;omega
   subst yI;simp at e1;subst e1;exact t6 xE
 ·rcases aI.mp hj with z|z
  ·exact ac j z
  ·cases aK.mp z;exact cy
 ·by_cases hi:i+1<(l++[x]).length
  ·rw[au (by omega)] at e1;rw[au hi] at e2;exact CC i u v e1 e2
  ·have mO:i+1=(l++[x]).length:=by
    have:=(aq.mp e2).1;rw[aG] at this;simp at this hi ⊢;omega
   rw[mO,bZ (ak _)] at e2;simp at e2;subst e2;have yI:i=l.length:=by simp at mO;omega
   subst yI;simp at e1;subst e1;exact⟨yd,λz z1 z2 z3=>sk z ((mL z).mpr ⟨⟨z1,z2⟩,z3⟩)⟩
theorem UP(h4:T 4=some u7)(zf:T 82=some M0)(ha:g[a]?=some (.lst (cs.map a8.d)))(hB:∀c∈cs,iG c)(hz:cs.length<=9)(hd:d<a)(D0:i6 g d)(h:∀(fz:List a8) b g',(∀c∈fz,iG c)->fz.length<=9->g'[b]?=some (.lst (fz.map a8.d))->(b=a\/g.length<=b)->i6 g' d->Gr d g g'->Q (.ref b) g'):b9 T (k+2) 82 [.ref d,.ref a] g Q E:=by
 refine call_of zf rfl ?_;dsimp[M0,d8,List.replicate];walk_at"";have dl:=D0.lt;refine d5 h4 D0 (by decide) (by decide) λr g2 r0 r1 D2 G2=>?_;have e2:=G2.at (by omega) ha;walk_at"";refine if2 (λhr=>?_) (λhr=>?_)
 ·walk_at"";exact h cs a g2 hB hz e2 (.inl rfl) D2 G2
 ·walk_at"";have x1:=Ex.snoc g2 (O.lst []);have e3:(g2++[O.lst []])[g2.length]?=some (.lst (([]:List a8).map a8.d)):=b8;have l2:=G2.len;generalize g2++[O.lst []]=g3 at *;refine F4 (b7 T _) (oI (b7 T _) ?_);walk_at""
  try refine M4 (a7 (x1.at e2)) ?_
  try rw[ah]
  have rl:(j7 0 cs.length).length=cs.length:=by simp[j7]
  refine⟨_,rfl,by omega,by omega,j7 0 cs.length,λi Z g'=>∃fz z3 z4 z5,Z=[some (.ref d),some (.ref a),some (.ref g2.length),z3,z4,z5]/\fz.length=i/\(∀c∈fz,iG c)/\g'[g2.length]?=some (.lst (fz.map a8.d))/\Ex g2 g',λi Z g p=>A6,⟨[],none,none,none,rfl,rfl,by simp,e3,x1⟩,λi x Z g4 hx p=>?_,λZ g4 p=>?_⟩
  ·obtain⟨fz,z3,z4,z5,rfl,hl,zd,e4,x4⟩:=p;obtain⟨hi,rfl⟩:=E1 hx;have ez:(0:Int)+(i:Nat)=(i:Nat):=by omega
   rw[ez];have tW:=az hi;generalize cs[i]=c at tW;refine A2 ?_
   try show wpS _ _ _ _ _ _
   walk_at"";refine p7 (d:=c.d) (a7 (x4.at e2)) (L6 (by rw[aD,tW];rfl)) ?_;walk_at"";have ct:∀{q:Int} {v:D} {gq:G} {Q:KD},gj [D.int c.lo,.tup (c.lm.map .int),.int c.up,.tup (c.um.map .int),.int c.yr] q=some v->Q v gq->cG .ix [c.d,.int q] gq Q:=λe h=>J9 e h;refine ct rfl ?_;walk_at"";refine K4 (by unfold Y4;omega) ?_;walk_at""
   try refine K5 (by decide) ?_
   walk_at""
   try refine ct rfl ?_
   walk_at""
   try refine ct rfl ?_
   walk_at"";refine K4 (by unfold Y4;omega) ?_;walk_at""
   try refine K5 (by decide) ?_
   walk_at""
   try refine ct rfl ?_
   walk_at""
   try refine ct rfl ?_
   walk_at""
   try refine⟨P0 e4,?_⟩
   try walk_at""
   refine Q6 e4 (by rw[ah];omega) ?_;walk_at"";refine⟨fz++[⟨1+(c.lo+(i:Nat) / 2*7) % 99,c.lm,1+(c.up+(i:Nat) / 3*31) % 99,c.um,c.yr⟩],_,_,_,rfl,by simp[hl],λc' gi=>?_,by rw[get_set e4,bV];rfl,⟨by rw[fm];exact x4.len,λq hq=>by rw[av (by omega)];exact x4.old q hq⟩⟩;rcases aI.mp gi with z|z
   ·exact zd c' z
   ·cases aK.mp z;obtain⟨_,a2,_,a4,a5,a6⟩:=(hB c (aY tW)).inv;exact iG.mk' (by omega) (by omega) (by omega) (by omega) a5 a6 a2 a4 (hB c (aY tW)).l8 (hB c (aY tW)).u8
  ·obtain⟨fz,z3,z4,z5,rfl,hl,zd,e4,x4⟩:=p;walk_at"";rw[rl] at hl;exact h fz _ g4 zd (by omega) e4 (.inr l2) (x4.draw D2) (G2.trans (x4.gr d))
theorem Gw(hj:j<cs.length):∃c,cs[j]?=some c/\gj (cs.map a8.d) (j:Nat)=some c.d:=by
 have:=az hj;exact⟨_,this,L6 (by rw[aD,this];rfl)⟩
end
end M
namespace M
open PySem L2
variable{l:List Nat}{y o n x p wd:Nat}{cs:List a8}{g g':G}
def lx:List Nat->List Nat->Bool
 |x::xs,y::ys=>if x=y then lx xs ys else decide (x<y)
 |_,_=>false
theorem AG:∀(l l':List Nat),C5 (l.map λj:Nat=>(j:Int)) (l'.map λj:Nat=>(j:Int))=lx l l'
 |[],_=>by simp[C5,lx]
 |_::_,[]=>by simp[C5,lx]
 |x::l,y::l'=>by
  rw[aW,aW,C5,lx,AG l l'];by_cases h:x=y
  ·rw[aE h,aE (by omega)]
  ·rw[aB h,aB (by omega)];exact eV.mpr (by omega)
theorem Em:∀{l l':List Nat},l.length=l'.length->l=l'\/lx l l'=true\/lx l' l=true
 |[],[],_=>.inl rfl
 |x::l,y::l',h=>by
  simp only[lx];by_cases e:x=y
  ·subst e;rcases Em (l:=l) (l':=l') (by simpa using h) with z|z|z
   ·exact .inl (by rw[z])
   ·exact .inr (.inl (by simpa using z))
   ·exact .inr (.inr (by simpa using z))
  ·rw[aB e,aB (bB e),aU,aU];omega
theorem AH:∀{l l':List Nat},lx l l'=true->lx l' l=false
 |[],_,h=>by simp[lx] at h
 |_::_,[],h=>by simp[lx] at h
 |x::l,y::l',h=>by
  simp only[lx] at h ⊢;by_cases e:x=y
  ·subst e;rw[aE rfl] at h ⊢;exact AH h
  ·rw[aB e,aU] at h;rw[aB (bB e),cV];omega
theorem NW:lx l l=false:=by
 cases h:lx l l with
 |false=>rfl
 |true=>exact absurd (AH h) (by rw[h];simp)
theorem En:∀{l m r:List Nat},lx l m=true->lx m r=true->lx l r=true
 |[],_,_,h,_=>by simp[lx] at h
 |_::_,[],_,h,_=>by simp[lx] at h
 |_::_,_::_,[],_,h=>by simp[lx] at h
 |x::l,y::m,z::r,h1,h2=>by
  simp only[lx] at h1 h2 ⊢;by_cases e:x=y
  ·subst e;rw[aE rfl] at h1;by_cases f:x=z
   ·subst f;rw[aE rfl] at h2 ⊢;exact En h1 h2
   ·rw[aB f] at h2 ⊢;exact h2
  ·rw[aB e,aU] at h1;by_cases f:y=z
   ·subst f;rw[aB e,aU];exact h1
   ·rw[aB f,aU] at h2;rw[aB (by omega),aU];omega
theorem GI:∀{l l':List Nat} {y:Nat},l.length=l'.length->lx (l++[y]) (l'++[y])=lx l l'
 |[],[],y,_=>by simp[lx]
 |x::l,z::l',y,h=>by
  simp only[List.cons_append,lx];rw[GI (by simpa using h)]
def le(l l':List Nat):Prop:=l=l'\/lx l l'=true
theorem le_trans'{m r:List Nat}(h1:le l m)(h2:le m r):le l r:=by
 rcases h1 with rfl|h1
 ·exact h2
 ·rcases h2 with rfl|h2
  ·exact .inr h1
  ·exact .inr (En h1 h2)
theorem Qq{m:List Nat}(h1:le l m)(h2:le m l):l=m:=by
 rcases h1 with h1|h1
 ·exact h1
 ·rcases h2 with h2|h2
  ·exact h2.symm
  ·rw[AH h1] at h2;cases h2
theorem Qr{l':List Nat}(hl:l.length=l'.length)(h:le l l'):le (l++[y]) (l'++[y]):=by
 rcases h with rfl|h
 ·exact .inl rfl
 ·exact .inr (by rw[GI hl];exact h)
theorem Rw.len(h:Rw cs o n x l):l.length=n+1:=by
 induction h with
 |zero _=>rfl
 |succ _ _ ih=>rw[aG,ih];rfl
theorem Rw.wk(h:Rw cs o n x l):Wk cs o n x:=by
 induction h with
 |zero h=>exact .zero h
 |succ _ a ih=>exact .succ ih a
def LR(cs:List a8)(o n x:Nat)(l:List Nat):Prop:=Rw cs o n x l/\∀l',Rw cs o n x l'->le l l'
theorem LR.eq{l':List Nat}(h:LR cs o n x l)(h':LR cs o n x l'):l=l':=Qq (h.2 _ h'.1) (h'.2 _ h.1)
inductive Rc(cs:List a8)(p:Nat):Nat->Nat->List Nat->Prop
 |zero (h:p<cs.length):Rc cs p 0 p [p]
 |succ {n x y:Nat} {l:List Nat} (a:m5 cs x y=true) (w:Rc cs p n y l):Rc cs p (n+1) x (x::l)
theorem Rc.snoc(h:Rc cs x n o l)(a:m5 cs x y=true):Rc cs y (n+1) o (l++[y]):=by
 induction h with
 |zero h=>exact .succ a (.zero (L4 a).2)
 |succ b _ ih=>exact .succ b ih
theorem Rw.rc(h:Rw cs o n x l):Rc cs x n o l:=by
 induction h with
 |zero h=>exact .zero h
 |succ _ a ih=>exact ih.snoc a
theorem Rc.wk(h:Rc cs p n x l):Wk cs p n x:=by
 induction h with
 |zero h=>exact .zero h
 |succ a _ ih=>exact .succ ih (t6 a)
theorem FU{cs:List a8}{p:Nat}:∀{l:List Nat} {x:Nat},l[0]?=some x->(∃r,l=r++[p])->(∀(i:Nat) u v,l[i]?=some u->l[i+1]?=some v->Mn cs p u v)->∀{n:Nat} {l':List Nat},n=dst cs p x->Rc cs p n x l'->le l l'
 |[],_,h,_,_,_,_,_,_=>by simp at h
 |[x],x',h,⟨r,hr⟩,_,n,l',hn,w=>by
  obtain rfl:x=x':=by simpa using h
  have:x=p:=by
   cases r with
   |nil=>simpa using hr
   |cons a r=>simp at hr
  subst this;have c:=w.wk.conn;have d0:dst cs x x=0:=fO.eq ⟨.zero c.lt.1,λ_ _=>bG _⟩;rw[d0] at hn;subst hn;cases w;exact .inl rfl
 |x::y::l,x',h,⟨r,hr⟩,mn,n,l',hn,w=>by
  obtain rfl:x=x':=by simpa using h
  obtain⟨m1,m2⟩:=mn 0 x y rfl rfl;cases w with
  |zero _ =>
   omega
  |succ a w =>
   rename_i n z Jp;have jN:dst cs p z<=n:=(w.wk.conn.mK).2 _ w.wk;have XJ:dst cs p x<=dst cs p z+1:=((w.wk.conn.step (t6 a)).mK).2 _ (.succ w.wk.conn.mK.1 (t6 a));have XN:y<=z:=m2 z (λe=>by subst e;omega) (t6 a) (by omega);have qQ:∃r,y::l=r++[p]:=by
    cases r with
    |nil=>simp at hr
    |cons a r=>exact⟨r,by simpa using(List.cons.inj hr).2⟩
   by_cases e:y=z
   ·subst e;rcases FU (l:=y::l) rfl qQ (λi u v e1 e2=>mn (i+1) u v (by simpa using e1) (by simpa using e2)) (by omega) w with q|q
    ·exact .inl (by rw[q])
    ·exact .inr (by rw[lx,aE rfl];exact q)
   ·refine .inr ?_;rw[lx,aE rfl];have hh:∃l3,Jp=z::l3:=by
     cases w with
     |zero _=>exact⟨_,rfl⟩
     |succ _ _=>exact⟨_,rfl⟩
    obtain⟨l3,rfl⟩:=hh;rw[lx,aB e,aU];omega
theorem BQ.lr(C:BQ cs p o l):LR cs o (dst cs p o) p l :=
 ⟨C.rw,λ_ w=>FU C.fst C.lst C.mn rfl w.rc⟩
theorem Qu{t:Nat}(hd:fO cs o y (t+1))(h1:∃x m,LR cs o t x m/\m5 cs x y=true/\l=m++[y])(h2:∀x m,fO cs o x t->LR cs o t x m->m5 cs x y=true->le l (m++[y]))(hm:∀x,fO cs o x t->∃m,LR cs o t x m):LR cs o (t+1) y l:=by
 obtain⟨x,m,hx,a,rfl⟩:=h1;refine⟨hx.1.succ a,λl' w=>?_⟩;cases w with
 |succ w b =>
  rename_i x' l2;have nW:fO cs o x' t:=⟨w.wk,λn hn=>by have:=hd.2 _ (.succ hn b);omega⟩
  obtain⟨m',kW⟩:=hm x' nW;exact le_trans' (h2 x' m' nW kW b) (Qr (by rw[kW.1.len,w.len]) (kW.2 _ w))
local macro_rules|`(tactic|walk_at"w1")=>`(tactic|with_reducible first|refine H9 ?_|refine wz ?_|refine P9 ?_|refine HZ ?_|refine Gm ?_|refine Ic ?_|refine Az ?_|refine oY ?_|refine wy ?_|refine B7 ?_|refine oZ ?_|(refine w_var (d:=?_) ?_ ?_;rotate_left;·with_unfolding_all rfl)|refine w_lit ?_|refine Z1 ?_|refine rD ?_|refine Ec ?_|refine Gp ?_|refine Ha ?_|refine w_and ?_|refine w_or ?_|refine w_not ?_|refine w_ite ?_|refine Z3 ?_|refine pb ?_|refine nc ?_|refine uY ?_|refine M5 ?_|refine Gq ?_|refine Ia ?_|refine Gs ?_|refine Bw ?_|refine wA ?_|refine Hd ?_|refine He ?_|refine HX ?_|refine DL ?_|refine DK ?_|refine DJ ?_|refine DI ?_|refine Hl ?_|refine Bg ?_|refine Hk ?_|refine Hw ?_|refine Hm ?_|refine Hn ?_|refine Hq ?_|refine Ho ?_|refine Ht ?_|refine Hu ?_|refine Hr ?_|refine oH ?_|refine uH ?_|refine uG ?_|refine uE ?_|refine uF ?_|refine Hv ?_|refine Z5 ?_|refine U4 ?_|refine FV ?_|refine jj ?_|refine E9 ?_|refine S5 ?_|refine X0 ?_|refine sZ ?_|refine pC ?_|refine pA ?_|refine pB ?_|refine sJ ?_|refine HI ?_|refine su ?_)
local macro_rules|`(tactic|walk_at"w2")=>`(tactic|repeat(with_reducible first|walk_at "w1"|refine rK (by simp) ?_|refine rJ (by simp) ?_|refine p7 (a7 (by assumption)) (by with_unfolding_all rfl) ?_|refine M4 (a7 (by assumption)) ?_|refine Y0 (by unfold N5;decide) ?_))
local macro_rules|`(tactic|walk_at"w3")=>`(tactic|repeat(with_reducible first|walk_at "w1"|refine rK (by simp) ?_|refine rJ (by simp) ?_|refine p7 (a7 (by assumption)) (by with_unfolding_all rfl) ?_|refine M4 (a7 (by assumption)) ?_|refine Y0 (by unfold N5;decide) ?_|refine And.intro (show List.length _ <= 1000 from by simp) ?_|refine T2 (by with_unfolding_all rfl) ?_|refine A2 ?_|refine J9 (by with_unfolding_all rfl) ?_))
local macro_rules|`(tactic|walk_at"")=>`(tactic|repeat(with_reducible first|walk_at "w1"|refine Hb ?_|refine Ib ?_|refine Gn ?_|refine Hx ?_|refine sx ?_|refine sv ?_|refine max2 ?_|refine min2 ?_|refine HE ?_|refine S6 ?_|refine zq ?_|refine ur ?_|refine rK (by simp) ?_|refine rJ (by simp) ?_|refine p7 (a7 (by assumption)) (by with_unfolding_all rfl) ?_|refine M4 (a7 (by assumption)) ?_|refine Y0 (by unfold N5;decide) ?_|refine And.intro (show List.length _ <= 1000 from by simp) ?_|refine T2 (by with_unfolding_all rfl) ?_|refine A2 ?_|refine J9 (by with_unfolding_all rfl) ?_|refine And.intro (P0 (by assumption)) ?_|refine And.intro (FX (by assumption)) ?_|refine And.intro (AZ (by assumption)) ?_|refine K5 (by decide) ?_|refine FN (by decide) (by decide) ?_|refine yj ?_))
set_option hygiene true
def wR:bj:=⟨3,10,(.seq (.set 3 (.mj (cT bp (dD .lst bp)))) (.seq (.set 4 (dD .lst bp)) (.seq (.dF (.one 5) (.eE (dD .len aO)) (.seq (.ifs (dX .In cc cE) (.seq (.ret (cS cE cc)) .pass) .pass) (.seq (.set 6 (.prim .S6 .nil)) (.seq (.dF (.one 7) (.iL (dD .jE (dD .list cE))) (.seq (.dF (.one 8) (.eE (dD .len aO)) (.seq (.ifs (.dw (dX .NotIn hU da) (.fE (.call 80 (cT (cS aO gf) (cS aO hU))))) (.seq (.set 9 (bO (.bin .Add) (cS cE gf) (dD .lst hU))) (.seq (.dS eL hU (bO .min nt (.eB .get eL (cT hU nt)))) .pass)) .pass) .pass)) .pass)) (.seq (.set 4 (bO (.bin .Add) da (dD .list eL))) (.seq (.set 3 eL) .pass)))))) (.seq (.ret (.lit .bL)) .pass))))⟩
theorem SJ{kvs:List (Key×D)}{c:Key}{v:D}(h:c∈kvs.map (·.1)):(putD kvs c v).map (·.1)=kvs.map (·.1):=by
 unfold putD;rw [aE (by
  obtain⟨kv,m,e⟩:=aN.mp h;exact eW.mpr ⟨kv,m,aV e⟩),dM]
 refine List.map_congr_left λkv _=>?_;show(if kv.1=c then(kv.1,v) else kv).1=kv.1;split<;>rfl
theorem NL{i j:Nat}(h:kI i=kI j):i=j:=by
 have:=J8 (S:=[j]) (j:=i);simpa using this.mp (by simp[h])
def Dp(g:G)(wd:Nat)(P:Nat->Prop)(V:Nat->List Nat->Prop):Prop:=∃kvs,∃S:List Nat,g[wd]?=some (.cg kvs)/\kvs.map (·.1)=S.map kI/\S.Nodup/\(∀y,y∈S↔P y)/\∀y,P y->∃r l,m7 kvs (kI y)=some (.ref r)/\g[r]?=some (.lst (l6 l))/\V y l
theorem Dp.ex{P:Nat->Prop}{V:Nat->List Nat->Prop}(h:Dp g wd P V)(e:Ex g g'):Dp g' wd P V :=
 let ⟨kvs,S,h1,h2,h3,h4,h5⟩:=h
 ⟨kvs,S,e.at h1,h2,h3,h4,λy hy=>let ⟨r,l,a,b,c⟩:=h5 y hy;⟨r,l,a,e.at b,c⟩⟩
theorem Dp.imp{P P':Nat->Prop}{V V':Nat->List Nat->Prop}(h:Dp g wd P V)(hP:∀y,P y↔P' y)(hV:∀y l,P y->V y l->V' y l):Dp g wd P' V' :=
 let ⟨kvs,S,h1,h2,h3,h4,h5⟩:=h
 ⟨kvs,S,h1,h2,h3,λy=>(h4 y).trans (hP y),λy hy=>let ⟨r,l,a,b,c⟩:=h5 y ((hP y).mpr hy);⟨r,l,a,b,hV y l ((hP y).mpr hy) c⟩⟩
theorem Dp.put{r:Nat}{kvs:List (Key×D)}{P P':Nat->Prop}{V V':Nat->List Nat->Prop}(h:Dp g wd P V)(hk:g[wd]?=some (.cg kvs))(hr:g[r]?=some (.lst (l6 l)))(hP:∀z,P' z↔P z\/z=y)(hy:V' y l)(hV:∀z l,z≠y->P z->V z l->V' z l):Dp (g.set wd (.cg (putD kvs (kI y) (.ref r)))) wd P' V':=by
 obtain⟨gL,S,h1,h2,h3,h4,h5⟩:=h;rw[hk] at h1;obtain rfl:kvs=gL:=by simpa using h1
 have ne:∀{q:Nat} {m:List D},g[q]?=some (.lst m)->wd≠q:=λ{q m} e z=>by rw[<- z,hk] at e;cases e
 refine⟨_,if y∈S then S else S++[y],get_set hk,?_,?_,λz=>?_,λz hz=>?_⟩
 ·by_cases hm:y∈S
  ·rw[SJ (by rw[h2];exact J8.mpr hm),aE hm,h2]
  ·rw[GS (by rw[h2];exact λq=>hm (J8.mp q)),aB hm,bV,bV,h2]
   rfl
 ·split
  ·exact h3
  ·rename_i hm;exact cL.mpr ⟨h3,by simp,λu hu v hv e=>hm (by cases aK.mp hv;exact e▸hu)⟩
 ·rw[hP];split
  ·rename_i hm;rw[h4];exact⟨.inl,λq=>q.elim id λe=>e▸(h4 y).mp hm⟩
  ·rw[aI,aK,h4]
 ·rw[EB];by_cases e:z=y
  ·subst e;exact⟨r,l,by rw[aE rfl],k9 hr (ne hr),hy⟩
  ·rw[aB λq=>e (NL q)];have pz:=((hP z).mp hz).resolve_right e;obtain⟨r',l',a,b,c⟩:=h5 z pz;exact⟨r',l',a,k9 b (ne b),hV z l' e pz c⟩
theorem FR{cs:List a8}{p:Nat}:∀{n x:Nat},m9 cs p x->dst cs p x=n->∃l:List Nat,l.length=n+1/\l.Nodup/\∀j∈l,j<cs.length/\dst cs p j<=n
 |0,x,c,e=>⟨[x],rfl,by simp,λj hj=>by cases aK.mp hj;exact⟨c.lt.2,rR e⟩⟩
 |n+1,x,c,e=>by
  have hx:x≠p:=λz=>by
   subst z;have:dst cs x x=0:=fO.eq ⟨.zero c.lt.1,λ_ _=>bG _⟩;omega
  obtain⟨y,_,_,cy,ey⟩:=Gz c hx;obtain⟨l,h1,h2,h3⟩:=FR (n:=n) cy (by omega);refine⟨x::l,by simp[h1],dY.mpr ⟨λhm=>?_,h2⟩,λj hj=>?_⟩
  ·have:=(h3 x hm).2;omega
  ·rcases aA.mp hj with rfl|hj
   ·exact⟨c.lt.2,by omega⟩
   ·exact⟨(h3 j hj).1,by have:=(h3 j hj).2;omega⟩
theorem Ao(c:m9 cs p x):dst cs p x<cs.length:=by
 obtain⟨l,h1,h2,h3⟩:=FR c rfl;have:=C7 h2 λj hj=>(h3 j hj).1;omega
theorem Qa{q:Nat}(h:m9 cs p q):dst cs p q=dst cs q p:=by
 have h1:=h.mK;have h2:=h.symm.mK;exact Nat.le_antisymm (h1.2 _ h2.1.symm) (h2.2 _ h1.1.symm)
def Kp(cs:List a8)(o t:Nat)(seen:Nat->Nat->Prop)(y:Nat):Prop:=(∃x,seen x y/\fO cs o x t/\m5 cs x y=true)/\¬Wk cs o t y
def Vp(cs:List a8)(o t:Nat)(seen:Nat->Nat->Prop)(y:Nat)(l:List Nat):Prop:=(∃x m,LR cs o t x m/\m5 cs x y=true/\l=m++[y])/\∀x m,seen x y->fO cs o x t->LR cs o t x m->m5 cs x y=true->le l (m++[y])
theorem Kp.mK{t:Nat}{seen:Nat->Nat->Prop}(h:Kp cs o t seen y):fO cs o y (t+1):=by
 obtain⟨⟨x,_,hx,a⟩,hn⟩:=h;exact⟨.succ hx.1 a,λm hm=>cH λhl=>hn (hm.mono (by omega))⟩
section
variable{T:Nat->Option bj}{k d:Nat}{Q:KD}{E:KX}{a:Nat}
theorem UB(ud:T 80=some vd)(ze:T 85=some wR)(ha:g[a]?=some (.lst (cs.map a8.d)))(hz:cs.length<=9)(ho:o<cs.length)(hp:p<cs.length)(hn:¬m9 cs o p->∀g',Ex g g'->Q .bL g')(h:m9 cs o p->∀g' r l,Ex g g'->g'[r]?=some (.lst (l6 l))->LR cs o (dst cs o p) p l->Q (.ref r) g'):b9 T (k+2) 85 [.ref a,.int (o:Nat),.int (p:Nat)] g Q E:=by
 have d0:fO cs o o 0:=⟨.zero ho,λ_ _=>bG _⟩
 have i0:∀{j},fO cs o j 0↔j=o:=λ{j}=>⟨λz=>by cases z.1;rfl,λz=>z▸d0⟩
 have ez:∀i:Nat,(0:Int)+(i:Nat)=(i:Nat):=λi=>by omega
 refine call_of ze rfl ?_;dsimp[wR,d8,List.replicate];walk_at"";refine HY ?_;walk_at"";refine⟨[(kI o,.ref (g++[O.cg []]).length)],rfl,by simp,by simp,?_⟩;have x1:Ex g ((g++[O.cg []]++[O.lst [D.int (o:Nat)]]).set g.length (.cg [(kI o,.ref (g++[O.cg []]).length)])):=⟨by simp,λi hi=>by rw[av (by omega),au (by simp;omega),au hi]⟩
 have D1:Dp ((g++[O.cg []]++[O.lst [D.int (o:Nat)]]).set g.length (.cg [(kI o,.ref (g++[O.cg []]).length)])) g.length (λj=>fO cs o j 0) (LR cs o 0):=by
  refine⟨[(kI o,.ref (g++[O.cg []]).length)],[o],get_set (o:=O.cg []) (by simp),rfl,by simp,λy=>aK.trans i0.symm,λy hy=>?_⟩;obtain rfl:=i0.mp hy;refine⟨(g++[O.cg []]).length,[y],by simp[m7],by rw[av (by simp)];simp[l6],.zero ho,λl' w=>?_⟩;cases w;exact .inl rfl
 generalize (g++[O.cg []]++[O.lst [D.int (o:Nat)]]).set g.length (.cg [(kI o,.ref (g++[O.cg []]).length)])=g1 at *;show wpS _ _ _ _ _ _;walk_at"";have sm:=Ex.snoc g1 (O.lst [.int (o:Nat)]);have x2:=x1.trans sm;have D2:=D1.ex sm;have p2:(g1++[O.lst [.int (o:Nat)]])[g1.length]?=some (.lst (l6 [o])):=b8;generalize g1++[O.lst [.int (o:Nat)]]=g2 at *;refine F4 (b7 T _) (oI (b7 T _) ?_);walk_at""
 try refine M4 (a7 (x2.at ha)) ?_
 try rw[ah]
 have rl:(j7 0 cs.length).length=cs.length:=by simp[j7]
 refine⟨_,rfl,by omega,by omega,j7 0 cs.length,λt Z g'=>∃lv ps S z5 z6 z7 z8 z9,Z=[some (.ref a),some (.int (o:Nat)),some (.int (p:Nat)),some (.ref lv),some (.ref ps),z5,z6,z7,z8,z9]/\Ex g g'/\Dp g' lv (λj=>fO cs o j t) (LR cs o t)/\g'[ps]?=some (.lst (l6 S))/\S.Nodup/\(∀j,j∈S↔Wk cs o t j)/\∀s,s<t->¬fO cs o p s,λi Z g p=>A6,⟨g.length,g1.length,[o],none,none,none,none,none,rfl,x2,D2,p2,by simp,λj=>?_,λs hs=>by omega⟩,λt x Z g3 hx q=>?_,λZ g3 q=>?_⟩
 ·rw[aK];exact⟨λz=>z▸d0.1,λz=>by cases z;rfl⟩
 ·obtain⟨lv,ps,S,z5,z6,z7,z8,z9,rfl,x3,D3,p3,xX,hS,no⟩:=q;obtain⟨ht,rfl⟩:=E1 hx;rw[ez];obtain⟨kvs,F,hk,hF,Jh,mF,vF⟩:=id D3;have lF:F.length<=cs.length:=C7 Jh λj hj=>((mF j).mp hj).1.conn.lt.2;have lS:S.length<=cs.length:=C7 xX λj hj=>((hS j).mp hj).conn.lt.2;refine A2 ?_
  try show wpS _ _ _ _ _ _
  walk_at"";refine BG ⟨(m7 kvs (kI p)).isSome,.inl ⟨_,_,kI p,rfl,hk,rfl,rfl⟩,?_⟩;walk_at"";by_cases hd:fO cs o p t
  ·obtain⟨r,l,v1,v2,v3⟩:=vF p hd;refine kr (by rw[v1];rfl) ?_;walk_at"";refine uK hk rfl v1 ?_;exact h hd.1.conn g3 r l x3 v2 (by rw[hd.eq];exact v3)
  refine jM (by cases z:(m7 kvs (kI p)).isSome with|true=>exact absurd ((mF p).mp (J8.mp (by rw[<- hF];exact K9.mp z))) hd|false=>rfl) ?_;walk_at"";have oW:=Ex.snoc g3 (O.cg []);have Il:Dp (g3++[O.cg []]) g3.length (Kp cs o t λ_ _=>False) (Vp cs o t λ_ _=>False):=⟨[],[],b8,rfl,by simp,λy=>Iff.intro (λz=>(by cases z)) (λz=>(let ⟨⟨_,w,_⟩,_⟩:=z;w.elim)),λy z=>(let ⟨⟨_,w,_⟩,_⟩:=z;w.elim)⟩
  have XC:=o6 hk;have Xz:=o6 p3;generalize g3++[O.cg []]=g4 at *;generalize XO:g3.length=wd at *;refine F4 (b7 T _) (pN (b7 T _) ?_);walk_at"";refine HH (oW.at hk) (by have:=dI List.length hF;rw[ah,ah] at this;omega) ?_;rw[hF,show(F.map kI).map kD=(F.map λj:Nat=>(j:Int)).map .int by rw[dM,dM];rfl];walk_at"";have x5:=Ex.snoc g4 (O.lst ((F.map λj:Nat=>(j:Int)).map .int));refine Wh (ns:=F.map λj:Nat=>(j:Int)) (a7 b8) (by rw[ah];omega) ?_;have Cb:=x5.trans (Ex.snoc _ (O.lst ((B2 (F.map λj:Nat=>(j:Int))).map .int)));have q6:=b8 (g:=g4++[O.lst ((F.map λj:Nat=>(j:Int)).map .int)]) (o:=O.lst ((B2 (F.map λj:Nat=>(j:Int))).map .int));have mq:∀x,x∈B2 (F.map λj:Nat=>(j:Int))↔∃j,j∈F/\x=(j:Nat):=λx=>by
   rw[(V3 _).mem_iff,aN];exact⟨λ⟨j,a,b⟩=>⟨j,a,b.symm⟩,λ⟨j,a,b⟩=>⟨j,a,b.symm⟩⟩
  have lq:wd<(g4++[O.lst ((F.map λj:Nat=>(j:Int)).map .int)]).length:=by
   have:=oW.len;obtain⟨_,_,e,_⟩:=id Il;have:=o6 e;rw[aG];omega
  generalize g4++[O.lst ((F.map λj:Nat=>(j:Int)).map .int)]++[O.lst ((B2 (F.map λj:Nat=>(j:Int))).map .int)]=g6 at *;generalize (g4++[O.lst ((F.map λj:Nat=>(j:Int)).map .int)]).length=sq at *;generalize B2 (F.map λj:Nat=>(j:Int))=so at *;have D6:=Il.ex Cb;have x6:=oW.trans Cb;refine⟨sq,_,rfl,a7 q6,so.map .int,λi Z g7=>∃z7 z8 z9,Z=[some (.ref a),some (.int (o:Nat)),some (.int (p:Nat)),some (.ref lv),some (.ref ps),some (.int (t:Nat)),some (.ref wd),z7,z8,z9]/\Ex g3 g7/\g7[sq]?=some (.lst (so.map .int))/\Dp g7 wd (Kp cs o t λx _=>(x:Int)∈so.take i) (Vp cs o t λx _=>(x:Int)∈so.take i),λi Z g7 q=>P6 (a7 (by obtain⟨_,_,_,_,_,q,_⟩:=q;exact q)),⟨z7,z8,z9,rfl,x6,q6,by simpa using D6⟩,λi x Z g7 hx q=>?_,λZ g7 q=>?_⟩
  ·obtain⟨z7,z8,z9,rfl,x7,q7,D7⟩:=q;rw[aD,ae] at hx;obtain⟨x0,hx,rfl⟩:=hx;obtain⟨x,qN,rfl⟩:=(mq x0).mp (aY hx);have dx:fO cs o x t:=(mF x).mp qN;have tk:so.take (i+1)=so.take i++[((x:Nat):Int)]:=by rw[dJ,hx];rfl
   obtain⟨rx,lK,v1,v2,v3⟩:=vF x dx;obtain⟨cx,JP,ax⟩:=Gw dx.1.conn.lt.2;refine A2 ?_
   try show wpS _ _ _ _ _ _
   walk_at"";refine F4 (b7 T _) (oI (b7 T _) ?_);walk_at""
   try refine M4 (a7 ((x3.trans x7).at ha)) ?_
   try rw[ah]
   refine⟨_,rfl,by omega,by omega,j7 0 cs.length,λj Z g8=>∃z8 z9,Z=[some (.ref a),some (.int (o:Nat)),some (.int (p:Nat)),some (.ref lv),some (.ref ps),some (.int (t:Nat)),some (.ref wd),some (.int (x:Nat)),z8,z9]/\Ex g3 g8/\g8[sq]?=some (.lst (so.map .int))/\Dp g8 wd (Kp cs o t λu y=>(u:Int)∈so.take i\/(u=x/\y<j)) (Vp cs o t λu y=>(u:Int)∈so.take i\/(u=x/\y<j)),λi Z g p=>A6,⟨z8,z9,rfl,x7,q7,D7.imp (λy=>by simp[Kp]) (λy l _ w=>by simpa[Vp] using w)⟩,λj y0 Z g8 hy q=>?_,λZ g8 q=>?_⟩
   ·obtain⟨z8,z9,rfl,x8,q8,D8⟩:=q;obtain⟨hj,rfl⟩:=E1 hy;rw[ez];obtain⟨cj,JQ,aj⟩:=Gw hj;have el:m5 cs x j=lk cx cj:=by unfold m5;rw[JP,JQ]
    refine A2 ?_
    try show wpS _ _ _ _ _ _
    walk_at"";refine wc (Qi (l:=S) (x8.at p3) ?_);walk_at"";have skip:∀(b:Bool),(Wk cs o t j\/m5 cs x j=false)->Dp g8 wd (Kp cs o t λu y=>(u:Int)∈so.take i\/(u=x/\y<j+1)) (Vp cs o t λu y=>(u:Int)∈so.take i\/(u=x/\y<j+1)):=λ_ hc=>by
     have sn:∀u y,m5 cs u y=true->¬Wk cs o t y->(((u:Int)∈so.take i\/(u=x/\y<j))↔((u:Int)∈so.take i\/(u=x/\y<j+1))):=λu y hl hw=>by
      refine or_congr_right ⟨λz=>⟨z.1,by omega⟩,λz=>⟨z.1,?_⟩⟩;by_cases e:y=j
      ·subst e;obtain⟨rfl,_⟩:=z;rcases hc with hc|hc
       ·exact absurd hc hw
       ·rw[hl] at hc;cases hc
      ·omega
     refine D8.imp (λy=>⟨λ⟨⟨u,w1,w2,w3⟩,w4⟩=>⟨⟨u,(sn u y w3 w4).mp w1,w2,w3⟩,w4⟩,λ⟨⟨u,w1,w2,w3⟩,w4⟩=>⟨⟨u,(sn u y w3 w4).mpr w1,w2,w3⟩,w4⟩⟩) (λy l hy w=>⟨w.1,λu m w1 w2 w3 w4=>w.2 u m ((sn u y w4 hy.2).mpr w1) w2 w3 w4⟩)
    by_cases kX:j∈S
    ·refine jM (by simp[kX]) ?_;walk_at"";exact⟨_,_,rfl,x8,q8,skip true (.inl ((hS j).mp kX))⟩
    refine kr (by simp[kX]) ?_;walk_at"";refine p7 (a7 ((x3.trans x8).at ha)) ax ?_;walk_at"";refine p7 (a7 ((x3.trans x8).at ha)) aj ?_;walk_at"";refine TH (k:=k) ud ?_;walk_at"";cases tN:lk cx cj with
    |false =>
     refine jM rfl ?_;walk_at"";exact⟨_,_,rfl,x8,q8,skip true (.inr (el.trans tN))⟩
    |true =>
     refine kr rfl ?_;walk_at"";refine uK (x8.at hk) rfl v1 ?_;walk_at"";have Ca:=Ex.snoc g8 (O.lst [D.int (j:Nat)]);refine uS ((x8.trans Ca).at v2) b8 (by rw[l6,ah,v3.1.len];simp;omega) ?_;have x9:=Ca.trans (Ex.snoc _ (O.lst (l6 lK++[D.int (j:Nat)])));have n9:(g8++[O.lst [D.int (j:Nat)]]++[O.lst (l6 lK++[D.int (j:Nat)])])[(g8++[O.lst [D.int (j:Nat)]]).length]?=some (.lst (l6 (lK++[j]))):=by rw[b8,l6,l6,bV];rfl
     have D9:=D8.ex x9;have q9:=x9.at q8;have xx:=x8.trans x9;generalize g8++[O.lst [D.int (j:Nat)]]++[O.lst (l6 lK++[D.int (j:Nat)])]=g9 at *;generalize (g8++[O.lst [D.int (j:Nat)]]).length=lo at *;obtain⟨kw,Sw,oi,lW,vH,mw,vw⟩:=id D9;have lw:kw.length<=cs.length:=by
      have e:=dI List.length lW;rw[ah,ah] at e;rw[e];exact C7 vH λy hy=>((mw y).mp hy).mK.1.conn.lt.2
     have yc:m5 cs x j=true:=el.trans tN;have hw:¬Wk cs o t j:=λz=>kX ((hS j).mpr z);have fin:∀(r:Nat) (l:List Nat),g9[r]?=some (.lst (l6 l))->Vp cs o t (λu y=>(u:Int)∈so.take i\/(u=x/\y<j+1)) j l->Ex g3 (g9.set wd (.cg (putD kw (kI j) (.ref r))))/\(g9.set wd (.cg (putD kw (kI j) (.ref r))))[sq]?=some (.lst (so.map .int))/\Dp (g9.set wd (.cg (putD kw (kI j) (.ref r)))) wd (Kp cs o t λu y=>(u:Int)∈so.take i\/(u=x/\y<j+1)) (Vp cs o t λu y=>(u:Int)∈so.take i\/(u=x/\y<j+1)):=λr l hr hv=>by
      refine⟨⟨by rw[fm];exact xx.len,λq hq=>by rw[av (by omega)];exact xx.old q hq⟩,k9 q9 (by omega),D9.put oi hr (λz=>⟨λ⟨⟨u,w1,w2,w3⟩,w4⟩=>?_,λw=>?_⟩) hv (λz l' hz jt w=>⟨w.1,λu m w1 w2 w3 w4=>w.2 u m (w1.imp id λe=>⟨e.1,by omega⟩) w2 w3 w4⟩)⟩
      ·by_cases e:z=j
       ·exact .inr e
       ·exact .inl ⟨⟨u,w1.imp id λe'=>⟨e'.1,by omega⟩,w2,w3⟩,w4⟩
      ·rcases w with⟨⟨u,w1,w2,w3⟩,w4⟩|rfl
       ·exact⟨⟨u,w1.imp id λe'=>⟨e'.1,by omega⟩,w2,w3⟩,w4⟩
       ·exact⟨⟨x,.inr ⟨rfl,by omega⟩,dx,yc⟩,hw⟩
     have nat:∀l:List Nat,l6 l=(l.map λq:Nat=>(q:Int)).map .int:=λl=>by rw[dM];rfl
     walk_at""
     try refine⟨AZ oi,?_⟩
     walk_at"";refine wu oi rfl ?_;walk_at"";by_cases yG:Kp cs o t (λu y=>(u:Int)∈so.take i\/(u=x/\y<j)) j
     ·obtain⟨r',l',w1,w2,w3⟩:=vw j yG;rw[w1];obtain⟨⟨u,m,u1,u2,rfl⟩,Cc⟩:=id w3;have ll:(m++[j]).length=(lK++[j]).length:=by rw[aG,aG,u1.1.len,v3.1.len]
      refine FW (by rw[<- nat];exact n9) (by rw[<- nat];exact w2) (by rw[ah,ah];exact ll) ?_;rw[AG];cases CT:lx (m++[j]) (lK++[j]) with
      |true =>
       walk_at"";refine uX oi rfl (by omega) ?_;obtain ⟨f1,f2,f3⟩:=fin r' (m ++ [j]) w2 ⟨w3.1,λv n e1 e2 e3 e4=>by
        rcases e1 with e1|⟨rfl,_⟩
        ·exact Cc v n (.inl e1) e2 e3 e4
        ·rw [e3.eq v3];exact .inr CT⟩
       exact⟨_,_,rfl,f1,f2,f3⟩
      |false =>
       walk_at"";refine uX oi rfl (by omega) ?_;have hle:le (lK++[j]) (m++[j]):=by
        rcases Em ll with z|z|z
        ·exact .inl z.symm
        ·rw[CT] at z;cases z
        ·exact .inr z
       obtain ⟨f1,f2,f3⟩:=fin lo (lK ++ [j]) n9 ⟨⟨x,lK,v3,yc,rfl⟩,λv n e1 e2 e3 e4=>by
        rcases e1 with e1|⟨rfl,_⟩
        ·exact le_trans' hle (Cc v n (.inl e1) e2 e3 e4)
        ·rw [e3.eq v3];exact .inl rfl⟩
       exact⟨_,_,rfl,f1,f2,f3⟩
     ·have nv:m7 kw (kI j)=none:=by
       cases z:m7 kw (kI j) with
       |none=>rfl
       |some v=>exact absurd ((mw j).mp (J8.mp (by rw[<- lW];exact K9.mp (by rw[z];rfl)))) yG
      rw[nv];refine FW (by rw[<- nat];exact n9) (by rw[<- nat];exact n9) rfl ?_;rw[AG,NW];walk_at"";refine uX oi rfl (by omega) ?_;obtain ⟨f1,f2,f3⟩:=fin lo (lK ++ [j]) n9 ⟨⟨x,lK,v3,yc,rfl⟩,λv n e1 e2 e3 e4=>by
       rcases e1 with e1|⟨rfl,_⟩
       ·exact absurd ⟨⟨v,.inl e1,e2,e4⟩,hw⟩ yG
       ·rw [e3.eq v3];exact .inl rfl⟩
      exact⟨_,_,rfl,f1,f2,f3⟩
   ·obtain⟨z8,z9,rfl,x8,q8,D8⟩:=q;rw[rl] at D8
    try show wpS _ _ _ _ _ _
    walk_at"";refine⟨_,_,_,rfl,x8,q8,D8.imp (λy=>⟨λ⟨⟨u,w1,w2,w3⟩,w4⟩=>⟨⟨u,?_,w2,w3⟩,w4⟩,λ⟨⟨u,w1,w2,w3⟩,w4⟩=>⟨⟨u,?_,w2,w3⟩,w4⟩⟩) (λy l hy w=>⟨w.1,λu m w1 w2 w3 w4=>w.2 u m ?_ w2 w3 w4⟩)⟩
    ·show(u:Int)∈so.take (i+1);rw[tk,aI,aK];exact w1.imp id λz=>by rw[z.1]
    ·have w1:(u:Int)∈so.take (i+1):=w1;rw[tk,aI,aK] at w1;exact w1.imp id λz=>⟨by omega,(L4 w3).2⟩
    ·have w1:(u:Int)∈so.take (i+1):=w1;rw[tk,aI,aK] at w1;exact w1.imp id λz=>⟨by omega,(L4 w4).2⟩
  ·obtain⟨z7,z8,z9,rfl,x7,q7,D7⟩:=q;rw[ah,cX] at D7;have hK:∀y,Kp cs o t (λu _=>(u:Int)∈so) y↔fO cs o y (t+1):=λy=>by
    refine⟨λz=>z.mK,λz=>⟨?_,λw=>by have:=z.2 _ w;omega⟩⟩;cases z.1 with
    |succ w b =>
     rename_i u;have du:fO cs o u t:=⟨w,λn hn=>by have:=z.2 _ (.succ hn b);omega⟩
     exact⟨u,(mq _).mpr ⟨u,(mF u).mpr du,rfl⟩,du,b⟩
   have Ik:Dp g7 wd (λj=>fO cs o j (t+1)) (LR cs o (t+1)):=D7.imp hK λy l hy w=>Qu ((hK y).mp hy) w.1 (λu m e1 e2 e3=>w.2 u m ((mq _).mpr ⟨u,(mF u).mpr e1,rfl⟩) e1 e2 e3) λu hu=>let ⟨_,l,_,_,h3⟩:=vF u hu;⟨l,h3⟩
   obtain⟨kw,Sw,oi,lW,vH,mw,_⟩:=id Ik;have lw:Sw.length<=cs.length:=C7 vH λy hy=>((mw y).mp hy).1.conn.lt.2;have XB:kw.length=Sw.length:=by
    have e:=dI List.length lW
    rwa [ah,ah] at e
   try show wpS _ _ _ _ _ _
   walk_at"";refine HH oi (by omega) ?_;rw[lW,show(Sw.map kI).map kD=l6 Sw by rw[dM];rfl];walk_at"";have y1:=Ex.snoc g7 (O.lst (l6 Sw));refine uS ((x7.trans y1).at p3) b8 (by simp[l6];omega) ?_;rw[show l6 S++l6 Sw=l6 (S++Sw) by simp[l6]];have y2:=y1.trans (Ex.snoc _ (O.lst (l6 (S++Sw))));walk_at"";refine⟨wd,_,S++Sw,_,_,_,_,_,rfl,(x3.trans x7).trans y2,Ik.ex y2,b8,?_,λy=>?_,λs hs=>?_⟩
   ·refine cL.mpr ⟨xX,vH,λu hu v hv e=>?_⟩;subst e;have:=((mw u).mp hv).2 _ ((hS u).mp hu);omega
   ·rw[aI,hS,mw];constructor
    ·exact λz=>z.elim (λz=>z.up) λz=>z.1
    ·intro w;by_cases w0:Wk cs o t y
     ·exact .inl w0
     ·exact .inr ⟨w,λm hm=>cH λhl=>w0 (hm.mono (by omega))⟩
   ·by_cases e:s=t
    ·subst e;exact hd
    ·exact no s (by omega)
 ·obtain⟨lv,ps,S,z5,z6,z7,z8,z9,rfl,x3,D3,p3,xX,hS,no⟩:=q;rw[rl] at no;walk_at"";exact hn (λc=>no _ (Ao c) c.mK) g3 x3
end
def Q7:bj:=⟨2,2,(.seq (.ifs (.jh (dX .Eq (dD .len bp) (aP 0)) (dX .Eq (.call 4 (cT aO (aP 10))) (aP 4))) (.seq (.ret (.call 36 (cT aO (bO (.bin .Add) (aP 3) (dD .len bp))))) .pass) .pass) (.seq (.ret (cS bp (.call 4 (cT aO (dD .len bp))))) .pass))⟩
def zZ:bj:=⟨3,3,(.seq (.U8 (.seq (.ret (.call 84 (kn aO bp cc))) .pass) [("TooMany",(.prim .lst (.cons (.lit (.str "TooMany")) .nil))),("BadCoin",(.prim .lst (.cons (.lit (.str "BadCoin")) .nil))),("NoPlace",(.prim .lst (.cons (.lit (.str "NoPlace")) .nil)))]) .pass)⟩
def qo:bj:=⟨1,11,(.seq (.set 1 (.call 3 (fN aO))) (.seq (.dF (.one 2) (.eE (aP 3)) (.seq (.set 3 (.call 27 (cT bp (.call 82 (cT bp (cS (.call 26 (cT bp (aP 9))) (aP 0))))))) (.seq (.dF (.one 4) (.eE (aP 3)) (.seq (.set 5 (.call 37 (cT bp (dD .iz (dD .len cE))))) (.seq (.set 6 (.call 37 (cT bp (dD .iz (dD .len cE))))) (.seq (.set 7 (.call 28 (fN cE))) (.seq (.ifs (.dw (dX .Eq gf (mH "")) (.et (.dw (.fE (.chain .LtE .Lt (aP 0) eY (dD .len cE))) (.fE (.chain .LtE .Lt (aP 0) eL (dD .len cE)))))) (.seq (.set 7 (mH "NoPlace")) .pass) .pass) (.seq (.set 8 (.ite (dX .NotEq gf (mH "")) (dD .lst gf) (.call 85 (kn cE eY eL)))) (.seq (.dF (.one 9) (.eE (aP 2)) (.seq (.set 10 (.call 30 (kn (dD .list cE) eY eL))) (.seq (.ifs (.et (.fE (.call 7 (cT jK hU)))) (.seq (.ret (.lit (.bl false))) .pass) .pass) (.seq (.ifs (dX .IsNot jK (.lit .bL)) (.seq (.expr (.eB .append jK (fN (aP 1)))) .pass) .pass) .pass)))) .pass))))))) .pass))) (.seq (.ret (.lit (.bl true))) .pass)))⟩
structure T8(T:Nat->Option bj):Prop where
 c:BI T
 lf:LF T
 h3:T 3=some wt
 h5:T 5=some W3
 h6:T 6=some uL
 h7:T 7=some B3
 h8:T 8=some L3
 Km:T 11=some qo
 ui:T 13=some F8
 uh:T 14=some M9
 zl:T 27=some F9
 zk:T 28=some Q8
 Ki:T 30=some zZ
 zj:T 36=some wq
 zi:T 37=some Q7
 ud:T 80=some vd
 zf:T 82=some M0
 ze:T 85=some wR
def kU(cs:List a8)(o:Int):Prop:=0<=o/\o<cs.length
instance{cs:List a8}{o:Int}:Decidable (kU cs o):=by unfold kU;infer_instance
def m6(cs:List a8)(o p:Int):Str:=if wordOf cs="" then(if kU cs o/\kU cs p then "" else "NoPlace") else wordOf cs
inductive Due(g:G)(cs:List a8)(o p:Int):D->Prop
 |w {r:Nat} (hw:m6 cs o p≠"") (h:g[r]?=some (.lst [.str (m6 cs o p)])):Due g cs o p (.ref r)
 |n {i j:Nat} (hi:o=(i:Nat)) (hj:p=(j:Nat)) (hw:m6 cs o p="") (hc:¬m9 cs i j):Due g cs o p .bL
 |c {r i j:Nat} {l:List Nat} (hi:o=(i:Nat)) (hj:p=(j:Nat)) (hw:m6 cs o p="") (hc:m9 cs i j) (h:g[r]?=some (.lst (l6 l))) (hl:LR cs i (dst cs i j) j l):Due g cs o p (.ref r)
theorem Due.ex{o p:Int}{x:D}(h:Due g cs o p x)(e:Ex g g'):Due g' cs o p x:=by
 cases h with
 |w hw h=>exact .w hw (e.at h)
 |n hi hj hw hc=>exact .n hi hj hw hc
 |c hi hj hw hc h hl=>exact .c hi hj hw hc (e.at h) hl
theorem Z0{o p:Int}(h:wordOf cs≠""):m6 cs o p=wordOf cs:=by unfold m6;rw[aB h]
theorem AO{o p:Int}(h:m6 cs o p=""):wordOf cs=""/\kU cs o/\kU cs p:=by
 unfold m6 at h;split at h
 ·rename_i h1;split at h
  ·rename_i h2;exact⟨h1,h2⟩
  ·exact absurd h (by decide)
 ·rename_i h1;exact absurd h h1
theorem AQ(h:wordOf cs=""):cs.length<=9/\cs.all k8=true:=by
 unfold wordOf at h;split at h
 ·exact absurd h (by decide)
 ·split at h
  ·rename_i h1 h2;exact⟨by omega,h2⟩
  ·exact absurd h (by decide)
theorem Due.QY{o p:Int}{x y:D}(h:Due g cs o p x)(h':Due g cs o p y):A1 g 1 x y:=by
 cases h with
 |w hw h =>
  cases h' with
  |w _ h2=>exact EU h h2 (λz hz=>by cases List.mem_singleton.mp hz;exact .inr ⟨_,rfl⟩) (by simp)
  |n _ _ z _=>exact absurd z hw
  |c _ _ z=>exact absurd z hw
 |n hi hj hw hc =>
  cases h' with
  |w z _=>exact absurd hw z
  |n=>exact .bL
  |c a b _ gi =>
   have e1:=eZ (hi.symm.trans a);have e2:=eZ (hj.symm.trans b);subst e1 e2;exact absurd gi hc
 |c hi hj hw hc h hl =>
  cases h' with
  |w z _=>exact absurd hw z
  |n a b _ gi =>
   have e1:=eZ (hi.symm.trans a);have e2:=eZ (hj.symm.trans b);subst e1 e2;exact absurd hc gi
  |c a b _ _ h2 oh =>
   have e1:=eZ (hi.symm.trans a);have e2:=eZ (hj.symm.trans b);subst e1 e2;rw[oh.eq hl] at h2;refine EU h h2 (λz hz=>?_) ?_
   ·obtain⟨j,_,rfl⟩:=aN.mp hz;exact .inl ⟨_,rfl⟩
   ·have q:=(Ao hc)
    have q2:=hl.1.len;have q3:=(AQ (AO hw).1).1;simp[l6];omega
section
variable{T:Nat->Option bj}{k d:Nat}{Q:KD}{E:KX}{a:Nat}{o p:Int}
theorem Uk(hT:BI T)(ha:g[a]?=some (.lst (cs.map a8.d)))(hz:cs.length<=1000)(hw:m6 cs o p≠"")(h:E ⟨m6 cs o p⟩ g):b9 T (k+7) 84 [.ref a,.int o,.int p] g Q E:=by
 refine call_of hT.Dk rfl ?_;dsimp[wD,d8,List.replicate];walk_at"";refine U1 (k:=k) hT.nf hT.h2 hT.qZ hT.ug ha (by omega) (λz=>?_) (λz1 z2=>?_) λz1 z2=>?_
 ·have e:wordOf cs="TooMany":=by unfold wordOf;rw[aE z]
  rw[Z0 (by rw[e];decide),e] at h;exact h
 ·have e:wordOf cs="BadCoin":=by unfold wordOf;rw[aB (by omega),aB (by rw[z2];decide)]
  rw[Z0 (by rw[e];decide),e] at h;exact h
 have e:wordOf cs="":=by unfold wordOf;rw[aB (by omega),aE z2]
 have hn:¬(kU cs o/\kU cs p):=λz=>hw (by unfold m6;rw[aE e,aE z]);have e2:m6 cs o p="NoPlace":=by unfold m6;rw[aE e,aB hn]
 rw[e2] at h;walk_at"";refine E8 (k:=k+3) hT.nf hT.qW ha (λq1 q2=>?_) (λ_=>h);walk_at"";refine E8 (k:=k+3) hT.nf hT.qW ha (λq3 q4=>?_) (λ_=>h);rw[ah] at q2 q4;exact absurd ⟨⟨q1,q2⟩,q3,q4⟩ hn
theorem Xa(hT:T8 T)(ha:g[a]?=some (.lst (cs.map a8.d)))(hz:cs.length<=1000)(h:∀g' x,Ex g g'->Due g' cs o p x->(x=.bL\/∃r l,x=.ref r/\g.length<=r/\g'[r]?=some (.lst l)/\l.length<=900)->Q x g'):b9 T (k+8) 30 [.ref a,.int o,.int p] g Q E:=by
 refine call_of hT.Ki rfl ?_;dsimp[zZ,d8,List.replicate];walk_at"";by_cases hw:m6 cs o p=""
 ·obtain⟨w1,⟨o1,o2⟩,p1,p2⟩:=AO hw;obtain⟨h9,hg⟩:=AQ w1;obtain⟨i,rfl⟩:=eG o1;obtain⟨j,rfl⟩:=eG p1;refine Sz (k:=k) hT.c ha h9 hg (o:=i) (p:=j) (by omega) (by omega) (λhc g' e=>?_) λhc g' r l e lr hr C=>?_
  ·exact h _ _ e (.n rfl rfl hw λz=>hc z.symm) (.inl rfl)
  ·have gi:=hc.symm;have L:=C.lr;rw[Qa hc] at L;refine h _ _ e (.c rfl rfl hw gi hr L) (.inr ⟨_,_,rfl,lr,hr,?_⟩);have q:=Ao gi;have q2:=L.1.len;simp[l6];omega
 ·refine Uk (k:=k) hT.c ha hz hw ?_;have fin:∀x:Str,m6 cs o p=x->Q (.ref g.length) (g++[O.lst [.str x]]):=λx e=>by
   subst e;exact h _ _ (Ex.snoc _ _) (.w hw b8) (.inr ⟨_,_,rfl,ak _,b8,by simp⟩)
  have hh:m6 cs o p="TooMany"\/m6 cs o p="BadCoin"\/m6 cs o p="NoPlace":=by
   clear fin h;unfold m6 wordOf at *;by_cases c1:9<cs.length
   ·rw[aE c1,aB (by decide)];exact .inl rfl
   ·by_cases c2:cs.all k8=true
    ·rw[aB c1,aE c2,aE rfl] at hw ⊢;by_cases c3:kU cs o/\kU cs p
     ·rw[aE c3] at hw;exact absurd rfl hw
     ·rw[aB c3];exact .inr (.inr rfl)
    ·rw[aB c1,aB c2,aB (by decide)];exact .inr (.inl rfl)
  rcases hh with e|e|e
  ·have f:=fin _ e;rw[e];refine Bl rfl ?_;walk_at"";exact f
  ·have f:=fin _ e;rw[e];refine zX (by decide) (Bl rfl ?_);walk_at"";exact f
  ·have f:=fin _ e;rw[e];refine zX (by decide) (zX (by decide) (Bl rfl ?_));walk_at"";exact f
theorem VG(h4:T 4=some u7)(h5:T 5=some W3)(zj:T 36=some wq)(zi:T 37=some Q7){i:Nat}{ns:List Int}(hi:g[i]?=some (.lst (ns.map .int)))(hd:d<i)(hz:ns.length<=900)(D0:i6 g d)(h:∀(v:Int) g',i6 g' d->Gr d g g'->Q (.int v) g'):b9 T (k+4) 37 [.ref d,.ref i] g Q E:=by
 have near:∀{g1:G} {j:Int},(0<=j/\j<=1000)->i6 g1 d->Gr d g g1->b9 T (k+3) 36 [.ref d,.int j] g1 Q E:=by
  intro g1 j hj D0 G0;refine call_of zj rfl ?_;dsimp[wq,d8,List.replicate];walk_at"";refine d5 h4 D0 (by decide) (by decide) λr g1 _ _ D1 G1=>?_;walk_at"";refine if2 (λ_=>?_) (λ_=>?_)
  ·walk_at"";exact zV h4 h5 D1 λf g2 D2 G2=>h _ _ D2 (G0.trans (G1.trans G2))
  ·walk_at"";refine d5 h4 D1 (by omega) (by omega) λr g2 _ _ D2 G2=>?_;walk_at"";exact h _ _ D2 (G0.trans (G1.trans G2))
 refine call_of zi rfl ?_;dsimp[Q7,d8,List.replicate];walk_at"";rw[ah];refine if2 (λc=>?_) (λc=>?_)
 ·walk_at"";exact near (by rw[ah];omega) D0 (Gr.refl d g)
 ·walk_at"";refine d5 h4 D0 (by decide) (by decide) λr g1 _ _ D1 G1=>?_;have qR:=G1.at (by omega) hi;walk_at"";refine if2 (λ_=>?_) (λ_=>?_)
  ·walk_at"";exact near (by rw[ah];omega) D1 G1
  ·walk_at"";rw[ah];refine d5 h4 D1 (by omega) (by omega) λr2 g2 r0 r1 D2 G2=>?_;obtain⟨y,hy,hm⟩:=u6 (l:=ns.map D.int) r0 (by rw[ah];exact r1);obtain⟨v,_,rfl⟩:=aN.mp hm;refine p7 (a7 (G2.at (by omega) qR)) hy ?_;walk_at"";exact h v g2 D2 (G1.trans G2)
theorem Ej(hT:T8 T){n:Int}{g0:G}(h0:n=cs.length)(hz:cs.length<=11)(D0:i6 g0 d)(hg:g=g0++[O.lst (j7 0 n.toNat)])(h:∀(v:Int) g',i6 g' d->Gr d g0 g'->Q (.int v) g'):b9 T (k+4) 37 [.ref d,.ref g0.length] g Q E:=by
 subst h0 hg;have dl:=D0.lt;have e1:=Ex.snoc g0 (O.lst (j7 0 cs.length));have e2:(g0++[O.lst (j7 0 cs.length)])[g0.length]?=some (.lst (((List.range cs.length).map λ(j:Nat)=>(0:Int)+(j:Nat)).map .int)):=by rw[b8,dM];rfl
 exact VG hT.lf.pull hT.h5 hT.zj hT.zi (ns:=(List.range cs.length).map λ(j:Nat)=>(0:Int)+(j:Nat)) e2 dl (by simp;omega) (e1.draw D0) λv g' D' G'=>h v g' D' ((e1.gr d).trans G')
theorem Qp(hT:T8 T){ns:List Int}:b9 T (k+9) 11 [.ref 0] [.nF (ns.map .int)] (λd _=>d=.bl true) jw:=by
 refine call_of hT.Km rfl ?_;dsimp[qo,d8,List.replicate];walk_at"";refine Wg hT.h3 (a:=0) (ns:=ns) rfl λd g D0 _ _=>?_;walk_at"";refine Z2 (n:=3) (by decide) (λi Z g=>i6 g d/\∃z2 z3 z4 z5 z6 z7 z8 z9 zA,Z=[some (.ref 0),some (.ref d),z2,z3,z4,z5,z6,z7,z8,z9,zA]) ⟨D0,none,none,none,none,none,none,none,none,none,rfl⟩ (λi Z g hi p=>?_) (λZ g p=>?_)
 ·obtain⟨D1,z2,z3,z4,z5,z6,z7,z8,z9,zA,rfl⟩:=p
  try show wpS _ _ _ _ _ _
  walk_at"";refine Vz (k:=k+4) hT.lf ⟨by decide,by decide⟩ D1 λYm a0 v g2 hc hg ea la _ _ D2 G2=>?_;have dl:=D1.lt;walk_at"";refine UP (k:=k+6) hT.lf.pull hT.zf ea hg (by omega) (by omega) D2 λkM a Kv qa jN DD Dh vq Xd=>?_;have De:d<a:=by rcases Dh with z|z<;>(have:=D2.lt;omega)
  walk_at"";refine RD (k:=k+4) hT.lf.pull hT.h5 hT.uh hT.zl DD (λc hc=>⟨(qa c hc).l8,(qa c hc).u8⟩) jN De vq λcs b g3 hB hz eb hb D3 G3=>?_;have gh:d<b:=by rcases hb with z|z<;>(have:=vq.lt;omega)
  clear G3 hb Xd Dh DD qa De G2 la ea hg hc D2 vq D1 jN hB;walk_at"";refine Z2 (n:=3) (by decide) (λj Z g=>(i6 g d/\g[b]?=some (.lst (cs.map a8.d)))/\∃z4 z5 z6 z7 z8 z9 zA,Z=[some (.ref 0),some (.ref d),some (.int i),some (.ref b),z4,z5,z6,z7,z8,z9,zA]) ⟨⟨D3,eb⟩,_,_,_,_,_,_,_,rfl⟩ (λj Z g hj p=>?_) (λZ g p=>?_)
  ·obtain⟨⟨D4,e4⟩,z4,z5,z6,z7,z8,z9,zA,rfl⟩:=p
   try show wpS _ _ _ _ _ _
   walk_at"";rw[ah];refine yb (by omega) (by omega) ?_;walk_at"";refine Ej (k:=k+4) (cs:=cs) hT rfl hz (hg:=rfl) D4 λo g5 D5 G5=>?_;have e5:=G5.at (by omega) e4;walk_at"";rw[ah];refine yb (by omega) (by omega) ?_;walk_at"";refine Ej (k:=k+4) (cs:=cs) hT rfl hz (hg:=rfl) D5 λp g6 D6 G6=>?_;have e6:=G6.at (by omega) e5;walk_at"";refine RP (k:=k+5) hT.h8 hT.ui hT.zk e6 (by omega) λg7 x7=>?_;have e7:=x7.at e6;have D7:=x7.draw D6;have fin:∀(N:Ends) (g8:G) (E:KX) (x:D),Ex g7 g8->Due g8 cs o p x->(∀z9 zA g',i6 g' d/\g'[b]?=some (.lst (cs.map a8.d))->N.nx [some (.ref 0),some (.ref d),some (.int i),some (.ref b),some (.int j),some (.int o),some (.int p),some (.str (m6 cs o p)),some x,z9,zA] g') ->
     wpS (b9 T (k+8)) (match qo.body with|.seq _ (.seq (.dF _ _ (.seq _ (.seq (.dF _ _ (.seq _ (.seq _ (.seq _ (.seq _ (.seq _ b)))))) _))) _)=>b|x=>x) N [some (.ref 0),some (.ref d),some (.int i),some (.ref b),some (.int j),some (.int o),some (.int p),some (.str (m6 cs o p)),some x,z9,zA] g8 E:=by
    intro N g8 E x x8 W hN;dsimp[qo];walk_at"";have e8:=x8.at e7;have D8:=x8.draw D7;refine Z2 (n:=2) (by decide) (λt Z g=>Ex g8 g/\∃z9 zA,Z=[some (.ref 0),some (.ref d),some (.int i),some (.ref b),some (.int j),some (.int o),some (.int p),some (.str (m6 cs o p)),some x,z9,zA]) ⟨Ex.refl _,_,_,rfl⟩ (λt Z g ht q=>?_) (λZ g q=>?_)
    ·obtain⟨x9,z9,zA,rfl⟩:=q
     try show wpS _ _ _ _ _ _
     walk_at"";refine Bn (a7 (x9.at e8)) ?_;have xA:=Ex.snoc g (O.lst (cs.map a8.d));have eA:(g++[O.lst (cs.map a8.d)])[g.length]?=some (.lst (cs.map a8.d)):=b8;generalize g++[O.lst (cs.map a8.d)]=gA at *;walk_at"";refine Xa (k:=k) hT eA (by omega) λgB y xB WB hy=>?_;walk_at"";have xK:=xA.trans xB;refine UC hT.h6 hT.h7 1 (k:=k+5) (WB.QY ((W.ex x9).ex xK)) λgC xC=>?_;walk_at"";rcases hy with rfl|⟨r,l,rfl,hr,hl,hz⟩
     ·walk_at"";exact⟨x9.trans (xK.trans xC),_,_,rfl⟩
     ·refine kr rfl ?_;walk_at"";have hC:=xC.at hl
      try refine⟨P0 hC,?_⟩
      walk_at"";refine Q6 hC (by omega) ?_;walk_at"";have oX:=xK.trans xC;have la:=xA.len;exact⟨x9.trans ⟨by rw[fm];exact oX.len,λq hq=>by rw[av (by omega)];exact oX.old q hq⟩,_,_,rfl⟩
    ·obtain⟨x9,z9,zA,rfl⟩:=q
     try show wpS _ _ _ _ _ _
     walk_at"";exact hN _ _ _ ⟨x9.draw D8,x9.at e8⟩
   have mid:∀(N:Ends) (E:KX),(∀z8 z9 zA g',i6 g' d/\g'[b]?=some (.lst (cs.map a8.d))->N.nx [some (.ref 0),some (.ref d),some (.int i),some (.ref b),some (.int j),some (.int o),some (.int p),some (.str (m6 cs o p)),z8,z9,zA] g') ->
     wpS (b9 T (k+8)) (match qo.body with|.seq _ (.seq (.dF _ _ (.seq _ (.seq (.dF _ _ (.seq _ (.seq _ (.seq _ (.seq _ b))))) _))) _)=>b|x=>x) N [some (.ref 0),some (.ref d),some (.int i),some (.ref b),some (.int j),some (.int o),some (.int p),some (.str (m6 cs o p)),z8,z9,zA] g7 E:=by
    intro N E hN;dsimp[qo];walk_at"";by_cases hw:m6 cs o p=""
    ·refine jM (by rw[aV hw];rfl) ?_;obtain⟨w1,⟨o1,o2⟩,p1,p2⟩:=AO hw;obtain⟨h9,hg⟩:=AQ w1;obtain⟨i',rfl⟩:=eG o1;obtain⟨j',rfl⟩:=eG p1;walk_at"";refine UB (k:=k+6) hT.ud hT.ze e7 h9 (by omega) (by omega) (λhc g' e=>?_) λhc g' r l e hr C=>?_
     ·exact fin _ g' _ _ e (.n rfl rfl hw hc) λz9 zA g' q=>hN _ _ _ _ q
     ·exact fin _ g' _ _ e (.c rfl rfl hw hc hr C) λz9 zA g' q=>hN _ _ _ _ q
    ·refine kr (by rw[aL hw];rfl) ?_;walk_at"";exact fin _ _ _ _ (Ex.snoc _ _) (.w hw b8) λz9 zA g' q=>hN _ _ _ _ q
   walk_at"";by_cases hw:wordOf cs=""
   ·refine kr (aV hw) ?_;have bad:¬(kU cs o/\kU cs p)->m6 cs o p="NoPlace":=λz=>by unfold m6;rw[aE hw,aB z]
    walk_at"";refine if2 (λc1=>?_) (λc1=>?_)
    rotate_left
    ·rw[bad λz=>c1 z.1.1] at mid
     repeat (first|with_reducible refine E9 ?_|with_reducible refine jj ?_|with_reducible refine S5 ?_|with_reducible refine X0 ?_|with_reducible refine Z5 ?_)
     refine H9 (P9 (w_lit ?_));show wpS _ _ _ _ _ _;refine mid _ _ ?_;exact λz8 z9 zA g' q=>⟨q,_,_,_,_,_,_,_,rfl⟩
    walk_at"";rw[ah];refine if2 (λc2=>?_) (λc2=>?_)
    rotate_left
    ·rw[bad λz=>c2 z.1.2] at mid
     repeat (first|with_reducible refine E9 ?_|with_reducible refine jj ?_|with_reducible refine S5 ?_|with_reducible refine X0 ?_|with_reducible refine Z5 ?_)
     refine H9 (P9 (w_lit ?_));show wpS _ _ _ _ _ _;refine mid _ _ ?_;exact λz8 z9 zA g' q=>⟨q,_,_,_,_,_,_,_,rfl⟩
    walk_at"";refine if2 (λc3=>?_) (λc3=>?_)
    rotate_left
    ·rw[bad λz=>c3 z.2.1] at mid
     repeat (first|with_reducible refine E9 ?_|with_reducible refine jj ?_|with_reducible refine S5 ?_|with_reducible refine X0 ?_|with_reducible refine Z5 ?_)
     refine H9 (P9 (w_lit ?_));show wpS _ _ _ _ _ _;refine mid _ _ ?_;exact λz8 z9 zA g' q=>⟨q,_,_,_,_,_,_,_,rfl⟩
    walk_at"";rw[ah];refine QT (λc4=>?_) (λc4=>?_)
    rotate_left
    ·rw[bad λz=>c4 z.2.2] at mid
     repeat (first|with_reducible refine E9 ?_|with_reducible refine jj ?_|with_reducible refine S5 ?_|with_reducible refine X0 ?_|with_reducible refine Z5 ?_)
     refine H9 (P9 (w_lit ?_));show wpS _ _ _ _ _ _;refine mid _ _ ?_;exact λz8 z9 zA g' q=>⟨q,_,_,_,_,_,_,_,rfl⟩
    have ok:m6 cs o p="":=by unfold m6;rw[aE hw];exact aE ⟨⟨c1,c2⟩,c3,c4⟩
    rw[ok] at mid;rw[hw]
    repeat (first|with_reducible refine E9 ?_|with_reducible refine jj ?_|with_reducible refine S5 ?_|with_reducible refine X0 ?_|with_reducible refine Z5 ?_)
    refine B7 ?_;show wpS _ _ _ _ _ _;refine mid _ _ ?_;exact λz8 z9 zA g' q=>⟨q,_,_,_,_,_,_,_,rfl⟩
   ·refine jM (aL hw) ?_;rw[Z0 hw] at mid
    repeat (first|with_reducible refine E9 ?_|with_reducible refine jj ?_|with_reducible refine S5 ?_|with_reducible refine X0 ?_|with_reducible refine Z5 ?_)
    refine B7 ?_;show wpS _ _ _ _ _ _;refine mid _ _ ?_;exact λz8 z9 zA g' q=>⟨q,_,_,_,_,_,_,_,rfl⟩
  ·obtain⟨⟨D4,e4⟩,z4,z5,z6,z7,z8,z9,zA,rfl⟩:=p
   try show wpS _ _ _ _ _ _
   walk_at"";exact⟨D4,_,_,_,_,_,_,_,_,_,rfl⟩
 ·obtain⟨_,z2,z3,z4,z5,z6,z7,z8,z9,zA,rfl⟩:=p
  try show wpS _ _ _ _ _ _
  walk_at""
  rfl
end
end M
namespace Lk
open PySem L2 M
def top(i:Nat):Stmt:=PySem.Challenge.pw_trussel_k08_chains_of_coins.main.body.getD i (.Pass ⟨0,0,0,0⟩)
def PY:Stmt->List Stmt
 |.ClassDef (body:=b) ..=>b
 |_=>[]
def DU(i j:Nat):Stmt:=(PY (top i)).getD j (.Pass ⟨0,0,0,0⟩)
def F:List RF:=[⟨38,"is_number",["thing"],1,8,AU⟩,⟨1,"number_from",["number","least","most"],3,9,R9⟩,⟨2,"good_marks",["marks","least","spot"],1,10,E5⟩,⟨12,"good_coin",["coin","lower","lower_marks","upper","upper_marks","year","good_lower","good_upper"],1,17,w6⟩,⟨39,"check_coin",["coin"],1,18,W5⟩,⟨18,"check_coins",["coins","coin"],1,19,S0⟩,⟨83,"check_place",["coins","place"],2,20,M1⟩,⟨40,"check_side",["side"],1,21,O0⟩,⟨19,"die_field",["side"],1,22,AS⟩,⟨76,"linked",["one","other"],2,24,O3⟩,⟨77,"near_places",["coins","place"],2,25,F1⟩,⟨78,"steps_to",["coins","goal","steps","edge","further","place","near"],2,26,W0⟩,⟨84,"chain",["coins","one","other","steps","row","fewer"],3,27,wD⟩,⟨3,"_law_open",["_law_script"],1,29,wt⟩,⟨4,"_law_pull",["_law_draw","_law_total_of","_law_cell","_law_got","_law_seed"],2,30,u7⟩,⟨5,"_law_far",["_law_draw","_law_number"],1,31,W3⟩,⟨36,"_law_near",["_law_draw","_law_total_of"],2,32,wq⟩,⟨6,"_law_num",["_law_found"],1,33,uL⟩,⟨7,"_law_like",["_law_found","_law_due"],2,34,B3⟩,⟨21,"_law_order_of",["_law_draw","_law_numbers","_law_left","_law_found","_law_step"],2,35,P2⟩,⟨8,"_law_marks_ok",["_law_marks"],1,36,L3⟩,⟨13,"_law_coin_ok",["_law_coin"],1,37,F8⟩,⟨22,"_law_any_coin",["_law_draw","_law_menu","_law_lower","_law_upper","_law_year"],1,38,W6⟩,⟨23,"_law_seated",["_law_draw","_law_seats","_law_fresh","_law_anvils"],4,39,E4⟩,⟨24,"_law_struck",["_law_draw","_law_size","_law_anvils","_law_seats","_law_fresh","_law_worn","_law_year","_law_step","_law_wear","_law_shift","_law_found","_law_k","_law_keys","_law_key","_law_spot","_law_named","_law_told_year"],3,40,E3⟩,⟨25,"_law_opened",["_law_draw","_law_size","_law_dies","_law_row","_law_held","_law_found","_law_k","_law_year"],2,41,wU⟩,⟨26,"_law_list",["_law_draw","_law_most","_law_size","_law_anvils","_law_way","_law_found","_law_at","_law_coin","_law_other"],2,42,N9⟩,⟨14,"_law_bent_coin",["_law_draw","_law_coin","_law_way","_law_lower","_law_lower_marks","_law_upper","_law_upper_marks","_law_year","_law_odd","_law_number"],2,43,M9⟩,⟨27,"_law_bent_list",["_law_draw","_law_coins","_law_at"],2,44,F9⟩,⟨28,"_law_list_word",["_law_coins"],1,45,Q8⟩,⟨37,"_law_number_of",["_law_draw","_law_numbers"],2,46,Q7⟩,⟨80,"_law_share",["_law_one","_law_other"],2,47,vd⟩,⟨85,"_law_chain",["_law_coins","_law_one","_law_other","_law_level","_law_passed","_law_step","_law_wider","_law_place","_law_beyond","_law_longer"],3,48,wR⟩,⟨82,"_law_parted_dies",["_law_draw","_law_coins","_law_found","_law_k","_law_coin","_law_lower"],2,49,M0⟩,⟨30,"_law_asked",["_law_coins","_law_one","_law_other"],3,50,zZ⟩,⟨11,"law",["_law_script","_law_draw","_law_turn","_law_coins","_law_step","_law_one","_law_other","_law_word","_law_due","_law_again","_law_found"],1,51,qo⟩]
def Ms:List RM:=[]
def con:List (Str×D):=[("LAST_SPOT",.int 7),("MOST_COINS",.int 9),("LAST_DIE",.int 99),("LAST_YEAR",.int 9999),("SIDES",.tup [(.str "lower"),(.str "upper")])]
def gd:List (Str×List D):=[("DIE_FIELDS",[.tup [.str "lower",.int 0],.tup [.str "upper",.int 2]])]
def exc:List Str:=["BadCoin","BadSide","NoPlace","TooMany"]
def c0:f9:=⟨[],[],true,F.map λr=>(r.nm,r.id),con,["len","enumerate","list","tuple","isinstance","all","range","int","bool","str","max","min","sorted","any"],exc,gd,[],Ms.map λr=>(r.nm,r.cl,r.id),[],true,true⟩
noncomputable abbrev T:Nat->Option bj:=rC F Ms
theorem tx:kA c0 F Ms top DU:=by
 refine⟨rfl,rfl,by decide +kernel,by decide +kernel,by decide +kernel,by decide +kernel,?_,?_,?_,?_⟩
 all_goals
  repeat first
   |exact BF.nil
   |exact BM.nil
   |exact YF.nil
   |exact YM.nil
   |refine YF.cons (by kernel_rfl) ?_
   |refine YM.cons (by kernel_rfl) ?_
   |refine BF.cons (λ_ _ _ _ _ _=>(by(repeat refine Ce λ_=>?_);exact Cd rfl)) ?_
   |refine BM.cons (λ_ _ _ _ _ _=>(by(repeat refine Ce λ_=>?_);exact Cd rfl)) ?_
inductive rj:List DictEntry->List (Str×V)->Prop
 |nil:rj [] []
 |cons {h:Int} {x:Str} {t:Tok} {u:Value} {v:V} {es:List DictEntry} {vs:List (Str×V)} (r:RelV v u) (q:rj es vs):rj (⟨h,.str x t,u⟩::es) ((x,v)::vs)
theorem rj.find{es vs}(x:Str)(h:rj es vs):E0 (vs.lookup x) (findBy Value.isStrOf es.toArray x):=by
 induction h with
 |nil=>trivial
 |cons r q ih =>
  rename_i h y t u v es vs;unfold findBy at ih ⊢;rw[List.find?_toArray] at ih ⊢;rw[hW,cw];by_cases e:x=y
  ·rw[show(x==y)=true from by simp[e],show Value.isStrOf x (.str y t)=true from by simp[Value.isStrOf,e]];exact r
  ·rw[show(x==y)=false from by simpa using e,show Value.isStrOf x (.str y t)=false from by simp[Value.isStrOf];exact λz=>e (z.symm)];exact ih
theorem all_mk{l:PySem.W.OpenLaw}{w:World}{K:PySem.W.Frag}{h:Heap}{mg:Str->Option Value}{fa:Addr}{zO vU:Addr}{t0 t1 t2 t3 uC uB oz oy ox ow:Tok}{zK:Array (Option Value)}{zL:Nat}{Ks:Nat}{lY lX:Int}(X:K.In h)(G:h.Ns mainGlobals mg)(JK:mg "law"=some (.ref fa))(I:kB K c0 F Ms top DU)(e0:PySem.W.nsIn K mainGlobals "LAST_SPOT"=some (some (Value.int 7 t0)))(e1:PySem.W.nsIn K mainGlobals "MOST_COINS"=some (some (Value.int 9 t1)))(e2:PySem.W.nsIn K mainGlobals "LAST_DIE"=some (some (Value.int 99 t2)))(e3:PySem.W.nsIn K mainGlobals "LAST_YEAR"=some (some (Value.int 9999 t3)))(e4:PySem.W.nsIn K mainGlobals "SIDES"=some (some (.ref zO)))(KZ:K.lookup zO=some ⟨.type "tuple",none,.seq #[Value.str "lower" uC,Value.str "upper" uB] zL,zK⟩)(g0:PySem.W.nsIn K mainGlobals "DIE_FIELDS"=some (some (.ref vU)))(Kt:K.lookup vU=some ⟨.type "dict",none,.dict #[⟨lY,Value.str "lower" oz,Value.int 0 oy⟩,⟨lX,Value.str "upper" ox,Value.int 2 ow⟩] Ks,#[]⟩)(pH:lY=PyData.keyHash w.params "lower")(pG:lX=PyData.keyHash w.params "upper")(Kr:(vU==sysModules)=false)
  : ∃fd:FuncData,(∀(s:Shared) (v:Value),BindsTo s fd ⟨[v],[]⟩ [("_law_script",v)])/\∀base:Heap,K.In base->base.Ns mainGlobals mg->gO l.prog w K mg base (iH l.prog w) 80 fa fd ["_law_script"] (nR exc K 1 (b9 T 40 11)):=by
 have A:mm w K mg c0 T:=by
  refine Pz I tx X G (λx d hx=>?_) (λx kvs hx=>?_)
  ·have hm:=aJ hx;simp only[c0,con,List.mem_cons,List.mem_nil_iff,or_false] at hm;rcases hm with z|z|z|z|z
   ·cases z;exact⟨(.int 7),_,cz X G e0,⟨_,rfl⟩,λ_ _=>.int _⟩
   ·cases z;exact⟨(.int 9),_,cz X G e1,⟨_,rfl⟩,λ_ _=>.int _⟩
   ·cases z;exact⟨(.int 99),_,cz X G e2,⟨_,rfl⟩,λ_ _=>.int _⟩
   ·cases z;exact⟨(.int 9999),_,cz X G e3,⟨_,rfl⟩,λ_ _=>.int _⟩
   ·cases z;exact⟨.ref zO,_,cz X G e4,rfl,λ_ _=>.tup (vs:=[.str "lower",.str "upper"]) (.inr ⟨_,_,_,KZ,rfl,rfl,rfl,(by show 2<=sizeLine;decide),.cons ⟨_,rfl⟩ (.cons ⟨_,rfl⟩ (.nil))⟩) (.cons (.str _) (.cons (.str _) (.nil)))⟩
  ·have hm:=aJ hx;simp only[c0,gd,List.mem_cons,List.mem_nil_iff,or_false] at hm;have z:=hm
   ·cases z;have er:rj [⟨lY,Value.str "lower" oz,Value.int 0 oy⟩,⟨lX,Value.str "upper" ox,Value.int 2 ow⟩] [("lower",.int 0),("upper",.int 2)]:=.cons (v:=.int 0) ⟨_,rfl⟩ (.cons (v:=.int 2) ⟨_,rfl⟩ (.nil));exact⟨vU,_,cz X G g0,⟨_,_,Kt,⟨⟨_,_,rfl,pH⟩,⟨⟨_,_,rfl,pG⟩,True.intro⟩⟩,Kr,λx=>er.find x⟩,.cons (λ_ _=>.int _) (.cons (λ_ _=>.int _) (.nil))⟩
 obtain⟨f,fd,O,a,t⟩:=GV I tx _ (aY (i:=35) rfl);cases JK.symm.trans (cz X G a);obtain⟨oc,od,kV,doc,pm,an,fB,ct,lG,rfl,lk,kJ⟩:=O.fn.ex;exact⟨_,λs v=>.of_eq rfl,λbase mI uk=>Nr mI uk A 40 11 _ _ fa _ rfl O⟩
theorem walk{l:PySem.W.OpenLaw}{q:Program}{loose:List Str}{XP:(Str->Option Value)->Heap->Prop}{YP:World->Heap->Prop}{d:DefRec}{K:Params->PySem.W.Frag}(hn:l.most=some 63)(tU:d.params.defaults=[])(hY:∀(w:World) (h:Heap),YP w h->(K w.params).In h)(F:∀ (w:World) (mg:Str->Option Value) (fa:Addr) (h:Heap),(K w.params).In h->h.Ns mainGlobals mg->mg d.name=some (.ref fa) ->
   ∃ fd:FuncData,(∀ (s:Shared) (u:Value),BindsTo s fd ⟨[u],[]⟩ [("_law_script",u)])/\∀ base:Heap,(K w.params).In base->base.Ns mainGlobals mg->gO l.prog w (K w.params) mg base (iH l.prog w) 80 fa fd ["_law_script"] (nR exc (K w.params) 1 (b9 T 40 11))) :
  PySem.W.WalkO q loose XP YP l.row.toRowW d [] (λf vs=>PySem.call f vs) :=
 L2.WX (n:=63) (k:=80) (x:="_law_script") (CX:=λw=>iH l.prog w) (sp:=λw=>nR exc (K w.params) 1 (b9 T 40 11)) hn (by decide) tU ⟨rfl,by decide,by decide⟩ hY F (λw H a ns hl hO hS=>NR hO hS (Qp (k:=31) ⟨⟨⟨rfl,rfl⟩,rfl,rfl,⟨rfl,rfl⟩,⟨rfl,rfl⟩,rfl,rfl,rfl,rfl,rfl⟩,⟨rfl,rfl,rfl,rfl,rfl,rfl,rfl⟩,rfl,rfl,rfl,rfl,rfl,rfl,rfl,rfl,rfl,rfl,rfl,rfl,rfl,rfl,rfl,rfl⟩)) λ_ _ _ _ _ ⟨_,_,_,_,_,_,_,z⟩=>z
end Lk
end _X
open _X
open PySem PySem.W PyProof.Rows
set_option maxRecDepth 100000 in
set_option maxHeartbeats 0 in
theorem PySem.Challenge.cw_trussel_k08_chains_of_coins_holds : PySem.Challenge.rw_trussel_k08_chains_of_coins.Holds := by
 w_on;o_law;k_head;(case hw=>w_witness2)
 k_fill
 refine Lk.walk (l:=PySem.Challenge.rw_trussel_k08_chains_of_coins) rfl rfl (fun w h Y=>PySem.W.kIn_of Y) ?F
 case F =>
  intro w mg fa h KX G hmg
  refine' Lk.all_mk KX G hmg ⟨?zz1,?zz2,?zz3,?zz4,?zz5,?zz6,?zz7⟩ ?_ ?_ ?_ ?_ ?_ ?_ ?_ ?_ ?_ ?_ ?_
  (case zz1=>repeat' first | (with_reducible show _=_;k_is) | exact M.PF.nil | apply M.PF.cons)
  (case zz2=>repeat' first | (with_reducible show _=_;k_is) | exact M.PM.nil | apply M.PM.cons)
  (case zz3=>repeat' first | (with_reducible show _=_;k_is) | exact M.PC.nil | apply M.PC.cons)
  (case zz4=>repeat' first | (with_reducible show _=_;k_is) | exact M.PA.nil | apply M.PA.cons)
  (case zz5=>repeat' first | (with_reducible show _=_;k_is) | exact M.PB.nil | apply M.PB.cons)
  (case zz6=>repeat' first | (with_reducible show _=_;first | (with_reducible show PySem.W.excIn _ _ _ _=true;k_exc) | k_is) | exact M.PX.nil | apply M.PX.cons)
  (case zz7=>kernel_rfl)
  all_goals try (with_reducible show _=_;k_is)
  all_goals try ((with_reducible show _=_);rfl)
#print axioms PySem.Challenge.cw_trussel_k08_chains_of_coins_holds
